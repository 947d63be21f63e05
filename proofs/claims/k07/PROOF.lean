import PyProof.Rows.All
import Wide.All
import OpenK.AllK
import Wide.FinOn
import PyProof.EqAt
import PyProof.EqKinds
import PyProof.TupleCall
import KE.KMinKey
import KE.KSortTup
import PyProof.EqLayable
import Lean
import PySem.Challenge.RW_fitboard_k07_whole_none_newer
set_option Elab.async false
set_option linter.all false
set_option maxRecDepth 100000
section
open PySem PySem.Spec PyProof.Rows
abbrev ab:=@List.length_map
abbrev ac:=@wpAny_bind
abbrev ae:=@List.getElem?_map
abbrev af:=@List.getElem?_eq_some_iff
abbrev ai:=@List.mem_of_getElem?
abbrev aj:=@List.mem_singleton
abbrev ak:=@List.getElem?_eq_getElem
abbrev am:=@List.mem_cons
abbrev ao:=@Nat.le_refl
abbrev ap:=@wpAny_pure
abbrev aq:=@decide_eq_true
abbrev ar:=@decide_eq_false
abbrev au:=@Option.map_eq_some_iff
abbrev av:=@List.map_append
abbrev aw:=@decide_eq_true_eq
abbrev ax:=@List.mem_iff_getElem?
abbrev ay:=@Heap.get?_push_of_some
abbrev az:=@List.mem_append
abbrev aA:=@List.mem_map
abbrev aB:=@Bool.and_eq_true
abbrev aC:=@List.length_cons
abbrev aD:=@List.map_cons
abbrev aE:=@List.length_append
abbrev aF:=@List.take_length
abbrev aG:=@List.not_mem_nil
abbrev aH:=@List.filter_cons
abbrev aI:=@List.getElem?_append_left
abbrev aJ:=@Heap.get?_push_size
abbrev aK:=@List.mem_append_right
abbrev aM:=@Heap.lt_size
abbrev aN:=@Bool.false_ne_true
abbrev aO:=@List.mem_append_left
abbrev aP:=@List.size_toArray
abbrev aQ:=@List.length_take
abbrev aR:=@List.mem_cons_of_mem
abbrev aS:=@List.mem_filter
abbrev aT:=@Nat.ne_of_lt
abbrev aU:=@List.getElem?_append_right
abbrev aV:=@List.length_singleton
abbrev aW:=@of_decide_eq_true
abbrev aX:=@List.nodup_cons
abbrev aY:=@List.lookup_cons
abbrev aZ:=@Nat.lt_of_lt_of_le
abbrev bb:=@List.take_succ
abbrev bc:=@List.getD_eq_getElem?_getD
abbrev be:=@List.mem_map_of_mem
abbrev bg:=@Heap.get?_none_of_le
abbrev bh:=@W.mg_none_of
abbrev bi:=@List.mem_cons_self
abbrev bj:=@List.find?_cons
abbrev bn:=@Array.length_toList
abbrev bo:=@PySem.mem_of_lookup
abbrev bp:=@Nat.zero_le
abbrev br:=@Nat.le_trans
abbrev bt:=@List.idxOf_lt_length_iff
abbrev bu:=@Int.toNat_natCast
abbrev bw:=@Nat.lt_of_le_of_lt
abbrev bz:=@List.length_filter_le
abbrev bD:=@Array.getElem?_toList
abbrev bE:=@wpAny_holding
abbrev bF:=@List.all_eq_true
abbrev bI:=@List.append_assoc
abbrev bJ:=@wpAny_Call_Name_kw
abbrev bK:=@wpAny_dictEpoch
abbrev bL:=@Nat.two_pow_pos
abbrev bM:=@List.nodup_append
abbrev bO:=@List.length_eq_zero_iff
abbrev bQ:=@Bool.not_eq_true'
abbrev bR:=@Nat.sub_self
abbrev bS:=@List.filter_append
abbrev bT:=@PySem.boot_len
abbrev bU:=@wpAny_truthy_bool
abbrev bV:=@Bool.eq_false_iff
abbrev bY:=@Bool.false_and
abbrev bZ:=@sizeLine_eq
abbrev b0:=@boot_isinstance
abbrev ca:=@wpAny_mono
abbrev cb:=@List.nodup_nil
abbrev ce:=@Nat.not_lt_zero
abbrev cf:=@List.append_nil
abbrev cg:=@List.getElem?_take
abbrev ci:=@Bool.false_eq_true
abbrev cj:=@wpAny_call_entry
abbrev ck:=@wpAny_rule
abbrev cm:=@List.getElem?_inj
abbrev cq:=@List.length_reverse
abbrev cr:=@Array.getD_eq_getD_getElem?
abbrev cs:=@List.mem_reverse
abbrev cu:=@List.getElem_idxOf
abbrev cw:=@Bool.true_and
abbrev cA:=@Array.getElem?_eq_getElem
abbrev cB:=@List.idxOf_cons_self
abbrev cC:=@List.pairwise_map
abbrev cD:=@Nat.le_of_lt
abbrev cE:=@List.map_map
abbrev cF:=@Nat.testBit_two_pow_mul
abbrev cG:=@Nat.lt_irrefl
abbrev cH:=@List.reverse_append
abbrev cJ:=@List.map_take
abbrev cK:=@wpAny_typeNameOfWhole_keyiter
abbrev cM:=@Int.emod_lt_of_pos
abbrev cN:=@wpAny_passesOwn
abbrev cO:=@Nat.pow_succ
abbrev cQ:=@List.map_nil
abbrev cR:=@Heap.get?_update_self
abbrev cS:=@Bool.or_eq_true
abbrev cT:=@Bool.eq_iff_iff
abbrev cU:=@wpAny_dictEntries
abbrev cV:=@List.reverse_cons
abbrev cW:=@Heap.get?_push_ne
abbrev cX:=@List.reverse_reverse
abbrev cY:=@List.mem_of_mem_take
abbrev cZ:=@List.take_zero
abbrev db:=@List.mem_of_find?_eq_some
abbrev de:=@wpAny_forIn_list
abbrev df:=@Nat.lt_succ_self
abbrev dg:=@Nat.le_add_right
abbrev dh:=@List.cons_append
abbrev di:=@wpAny_typeNameOf_keyiter
abbrev dj:=@Nat.lt_or_ge
abbrev dm:=@Nat.le_of_eq
abbrev dq:=@wpAny_ite_split
abbrev dr:=@wpAny_callSpecial?_slot
abbrev dt:=@tupleKind_room_in1
abbrev du:=@W.kia_one
abbrev dw:=@Int.emod_nonneg
abbrev dz:=@wpAny_Call_method
abbrev dA:=@Nat.lt_succ_of_lt
abbrev dB:=@Nat.le_succ
abbrev dC:=@wpAny_tryCatch
abbrev dD:=@wpAny_notOrdered_dict
abbrev dE:=@List.take_append_drop
abbrev dF:=@List.getElem?_eq_none
abbrev dG:=@List.any_eq_true
abbrev dH:=@Heap.size_update
abbrev dJ:=@Nat.mul_le_mul_right
abbrev dL:=@List.nil_append
abbrev dM:=@Nat.eq_zero_or_pos
abbrev dO:=@Nat.add_sub_cancel
abbrev dP:=@List.find?_eq_none
abbrev dQ:=@List.getElem?_zip_eq_some
abbrev dR:=@List.drop_eq_getElem_cons
abbrev dU:=@Heap.size_push
abbrev dW:=@wpAny_newObj_type
abbrev dX:=@boot_list
abbrev dY:=@List.take_sublist
end
namespace L2
open PySem PySem.Spec PyProof.Rows
variable {A:Around}{C a b dx:Addr}{CX:xB}{D:mS}{E Q:Value→Shared→Prop}{H H':Hp}{K:W.Frag}{M:Model}{P:Program}{X:Cx}{body:List Stmt}{ch fp:List Addr}{e tg:Expr}{es:List Expr}{fd:FuncData}{g:TG}{h h':Heap}{i j t':Nat}{kw:List (Str×Value)}{m x:Str}{mA mg:Str→Option Value}{o:HO}{op:CmpOp}{p pos pos':Pos}{pins:List (Addr×Obj)}{pl:Sem Bool}{ps:List Str}{r:R2}{s s':Shared}{sp:Sp}{t:TA}{ta te:TE}{tb:TS}{us:List Value}{v y:V}{vs xs:List V}{w:World}{σ:St}
abbrev gB:=Sum Int Str
def qP:gB→Value→Bool
 |.inl k,v=>Value.isInt k v
 |.inr x,v=>Value.isStrOf x v
def Ix (w:World):gB→Int
 |.inl k=>hashInt k
 |.inr x=>hashStr w x
theorem gC:∀{k:gB} {v:Value},qP k v=true→(∃i t,k=Sum.inl i∧v=Value.int i t)∨(∃x t,k=Sum.inr x∧v=Value.str x t)
 |.inl i,v,h=>by
  obtain⟨t,e⟩:=Value.isInt_shape (k:=i) (v:=v) h;exact .inl ⟨i,t,rfl,e⟩
 |.inr x,v,h=>by
  obtain⟨t,e⟩:=Value.isStrOf_shape (x:=x) (v:=v) h;exact .inr ⟨x,t,rfl,e⟩
theorem yy (i:Int)(t:Tok):qP (.inl i) (.int i t)=true:=by simp[qP,Value.isInt]
theorem yx (x:Str)(t:Tok):qP (.inr x) (.str x t)=true:=by simp[qP,Value.isStrOf]
theorem EY (a b:Int):decide ((Sum.inl a:gB)=Sum.inl b)=(a == b):=by
 by_cases e:a=b
 ·subst e;simp
 ·have h:¬(Sum.inl a:gB)=Sum.inl b:=fun q=>e (Sum.inl.inj q);rw[ar h];exact(beq_eq_false_iff_ne.mpr e).symm
theorem EU (a b:Str):decide ((Sum.inr a:gB)=Sum.inr b)=decide (a=b):=by
 by_cases e:a=b
 ·subst e;simp
 ·have h:¬(Sum.inr a:gB)=Sum.inr b:=fun q=>e (Sum.inr.inj q);rw[ar h,ar e]
theorem EW (a:Int)(b:Str):decide ((Sum.inl a:gB)=Sum.inr b)=false:=ar (fun q=>nomatch q)
theorem EV (a:Str)(b:Int):decide ((Sum.inr a:gB)=Sum.inl b)=false:=ar (fun q=>nomatch q)
def fA (prog:Program)(w:World):PySem.KeyKind prog w gB where
 is:=qP
 hash:=Ix w
 inj:=fun v a b ha hb=>by
  rcases gC ha with ⟨i,t,rfl,rfl⟩ | ⟨x,t,rfl,rfl⟩
  ·rcases gC hb with ⟨j,u,rfl,e⟩ | ⟨y,u,rfl,e⟩
   ·injection e with e1 _;rw[e1]
   ·exact nomatch e
  ·rcases gC hb with ⟨j,u,rfl,e⟩ | ⟨y,u,rfl,e⟩
   ·exact nomatch e
   ·injection e with e1 _;rw[e1]
 byValue:=fun k v h=>by
  rcases gC h with ⟨i,t,rfl,rfl⟩ | ⟨x,t,rfl,rfl⟩ <;> rfl
 pyHash:=fun hv h=>by
  rcases gC hv with ⟨i,t,rfl,rfl⟩ | ⟨x,t,rfl,rfl⟩
  ·exact wpAny_pyHash_int h
  ·exact wpAny_pyHash_str h
 eqBool:=fun hu hv h=>by
  rcases gC hu with ⟨i,t,rfl,rfl⟩ | ⟨x,t,rfl,rfl⟩
  ·rcases gC hv with ⟨j,u,rfl,rfl⟩ | ⟨y,u,rfl,rfl⟩
   ·rw[EY]at h;exact wpAny_eqBool_int h
   ·rw[EW]at h;exact SeqAt.EqAt.int_str i t y u _ _ _ _ h
  ·rcases gC hv with ⟨j,u,rfl,rfl⟩ | ⟨y,u,rfl,rfl⟩
   ·rw[EV]at h;exact SeqAt.EqAt.str_int x t j u _ _ _ _ h
   ·rw[EU]at h;exact wpAny_eqBool_str h
 «strs»:=fun k x t v h=>by
  rcases gC h with ⟨i,u,rfl,e⟩ | ⟨y,u,rfl,e⟩
  ·exact nomatch e
  ·injection e with e1 _
   subst e1;cases v <;> rfl
theorem tW (prog:Program)(w:World)(i:Int)(t:Tok):(fA prog w).is (.inl i) (.int i t)=true:=yy i t
theorem tV (prog:Program)(w:World)(x:Str)(t:Tok):(fA prog w).is (.inr x) (.str x t)=true:=yx x t
inductive V where
 |non | bl (b:Bool) | int (i:Int) | str (x:Str) | byt (b:Array UInt8) | flt (b:UInt64) | ref (a:Addr) | ty (n:String)
 deriving DecidableEq
def eY:V→Value→Prop
 |.non,u=>u=Value.none
 |.bl b,u=>u=Value.bool b
 |.int i,u=>∃t,u=Value.int i t
 |.str x,u=>∃t,u=Value.str x t
 |.byt b,u=>∃t,u=Value.bytes b t
 |.flt b,u=>∃t,u=Value.float b t
 |.ref a,u=>u=Value.ref a
 |.ty n,u=>u=Value.type n
abbrev fL:List V→List Value→Prop:=Paired eY
theorem fL.length (r:fL xs us):xs.length=us.length:=Paired.length r
theorem fL.get:∀{xs:List V} {us:List Value} {i:Nat} {x:V},fL xs us→xs[i]?=some x→∃u,us[i]?=some u∧eY x u
 |_,_,_,_,.nil,e=>by simp at e
 |_,_,0,_,.cons r _,e=>by simp at e;subst e;exact⟨_,rfl,r⟩
 |_,_,i+1,x,.cons _ t,e=>by
  obtain⟨u,h1,h2⟩:=fL.get (i:=i) (x:=x) t (by simpa using e);exact⟨u,by simpa using h1,h2⟩
theorem fL.append:∀{xs ys:List V} {us ws:List Value},fL xs us→fL ys ws→fL (xs++ys) (us++ws)
 |_,_,_,_,.nil,s=>s
 |_,_,_,_,.cons r t,s=>.cons r (fL.append t s)
theorem fL.take:∀{xs:List V} {us:List Value} (n:Nat),fL xs us→fL (xs.take n) (us.take n)
 |_,_,0,_=>.nil
 |_,_,_+1,.nil=>.nil
 |_,_,n+1,.cons r t=>.cons r (fL.take n t)
theorem fL.drop:∀{xs:List V} {us:List Value} (n:Nat),fL xs us→fL (xs.drop n) (us.drop n)
 |_,_,0,r=>r
 |_,_,_+1,.nil=>.nil
 |_,_,n+1,.cons _ t=>fL.drop n t
def jg:Option V→Option Value→Prop
 |some v,some u=>eY v u
 |none,none=>True
 |_,_=>False
def KV {κ:Type}:List (κ×V)→List (κ×Value)→Prop:=Paired fun(p:κ×V) (q:κ×Value)=>p.1=q.1∧eY p.2 q.2
def kV:gB→V
 |.inl i=>.int i
 |.inr x=>.str x
inductive HO where
  |lst (xs:List V)
  |tup (xs:List V)
  |dK (kvs:List (gB×V)) | dT (kvs:List (List gB×V)) | dN (kvs:List (Option (List gB)×V))
  |set (S:Int→Bool) (n:Nat)
  |ins (C dx:Addr) (fs:List (Str×V))
  |own (x:Addr)
  |xd (fs:List (Str×V))
  |met (f x:Addr)
  |rng (lo hi:Int)
  |frz (o:Obj) (u:HO)
  |tbl (ps:Array Value)
  |ext (φ:Heap→Prop)
abbrev Hp:=Addr→Option HO
abbrev fM:=Option (List gB)
def vZ (H:Hp):fM→Value→Prop
 |none,u=>u=.none
 |some ks,u=>∃b,u=.ref b∧H b=some (.tup (ks.map kV))
def lQ (P:Program)(w:World):fM→Int
 |none=>W.hashW w.params .none
 |some ks=>(tupleKind (fA P w)).hash ks
def uf (P:Program)(w:World)(x:fM×Value×Value):DictEntry:=⟨lQ P w x.1,x.2.1,x.2.2⟩
abbrev Bz (H:Hp):List (fM×V)→List (fM×Value×Value)→Prop:=Paired fun p q=>p.1=q.1∧vZ H p.1 q.2.1∧eY p.2 q.2.2
def upd (H:Hp)(a:Addr)(o:HO):Hp:=fun b=>if b=a then some o else H b
theorem d0:upd H a o a=some o:=by unfold upd;rw[if_pos rfl]
theorem ef (h:b≠a):upd H a o b=H b:=by unfold upd;rw[if_neg h]
theorem iK {u:HO}:upd (upd H a o) a u=upd H a u:=by
 funext b;unfold upd;split <;> rfl
theorem fJ {u:HO}(h:H a=some o)(h':H b=some u)(d:o≠u):a≠b:=by
 intro e;subst e;rw[h]at h';exact d (Option.some.inj h')
theorem eo (h:H a=some o)(h':H b=none):a≠b:=by
 intro e;subst e;rw[h]at h';cases h'
section
variable (P:Program)(w:World)
def fN (H:Hp)(h:Heap)(a:Addr):HO→Prop
 |.lst xs=>xs.length≤sizeLine∧∃(its:List Value) (n:Nat),fL xs its∧h.get? a=some {cls:=.type "list",data:=.seq its.toArray n}
 |.tup xs=>xs.length≤sizeLine∧∃its:List Value,fL xs its∧IsTup h a its.toArray
 |.dK kvs=>kvs.length≤sizeLine∧(a == sysModules)=false∧∃vs,KV kvs vs∧h.DictOf (fA P w) a vs
 |.dT kvs=>kvs.length≤sizeLine∧(a == sysModules)=false∧∃xs:List (List gB×Addr×Value),
   Paired (fun(p:List gB×V) (q:List gB×Addr×Value)=>p.1=q.1∧H q.2.1=some (.tup (p.1.map kV))∧eY p.2 q.2.2) kvs xs∧
   ∃o es ep,h.get? a=some o∧o.ExactDict∧o.data=.dict es ep∧es.toList=xs.map (entryOfKey (tupleKind (fA P w)))∧(xs.map (·.1)).Nodup
 |.dN kvs=>kvs.length≤sizeLine∧(a == sysModules)=false∧∃xs,Bz H kvs xs∧∃o es ep,h.get? a=some o∧o.ExactDict∧o.data=.dict es ep∧es.toList=xs.map (uf P w)∧(xs.map (·.1)).Nodup
 |.set S n=>h.SetOf (intKind P w) a S n
 |.ins C dx fs=>H dx=some (.own a)∧fs.length≤1000∧dx≠a∧h.get? a=some (W.instObj C dx)∧
   ∃mA,h.Ns1 dx mA∧(∀f,jg (fs.lookup f) (mA f))∧PySem.Within mA (fs.map (·.1))
 |.own _=>∃o,h.get? a=some o
 |.xd fs=>∃mA,h.Ns1 a mA∧∀f,jg (fs.lookup f) (mA f)
 |.rng lo hi=>∃t u v,h.get? a=some {cls:=.type "range",data:=.fields #[.int lo t,.int hi u,.int 1 v]}
 |.frz o u=>h.get? a=some o∧fN H h a u
 |.tbl ps=>h.get? a=some {cls:=.none,data:=.fields ps}
 |.met f x=>h.get? a=some (W.methodObj (.ref f) (.ref x))
 |.ext φ=>φ h∧(∃o,h.get? a=some o)∧∀h1 h2:Heap,φ h1→(∀o,h1.get? a=some o→h2.get? a=some o)→φ h2
def lG (H:Hp)(h:Heap):Prop:=∀a o,H a=some o→fN P w H h a o
end
theorem fN.lt (x:fN P w H h a o):a<h.objs.size:=by
 cases o with
 |lst xs=>obtain⟨_,_,_,_,e⟩:=x;exact aM e
 |tup xs=>obtain⟨_,_,_,p⟩:=x;exact p.lt
 |dK kvs=>obtain⟨_,_,_,_,o,_,_,e,_⟩:=x;exact aM e
 |dT kvs=>obtain⟨_,_,_,_,o,_,_,e,_⟩:=x;exact aM e
 |dN kvs=>obtain⟨_,_,_,_,o,_,_,e,_⟩:=x;exact aM e
 |set S n=>obtain⟨o,_,_,_,e,_⟩:=x;exact aM e
 |ins C dx fs=>obtain⟨_,_,_,e,_⟩:=x;exact aM e
 |own y=>obtain⟨_,e⟩:=x;exact aM e
 |xd fs=>obtain⟨_,⟨_,_,_,e,_⟩,_⟩:=x;exact aM e
 |rng lo hi=>obtain⟨_,_,_,e⟩:=x;exact aM e
 |frz ob u=>obtain⟨e,_⟩:=x;exact aM e
 |tbl ps=>exact aM (show h.get? a=some _ from x)
 |met f y=>exact aM (show h.get? a=some _ from x)
 |ext φ=>obtain⟨_,⟨_,e⟩,_⟩:=x;exact aM e
theorem Paired.JH {α β:Type}{F G:α→β→Prop}:∀{l₁:List α} {l₂:List β},Paired F l₁ l₂→(∀a b,F a b→G a b)→Paired G l₁ l₂
 |_,_,.nil,_=>.nil
 |_,_,.cons r t,f=>.cons (f _ _ r) (Paired.JH t f)
theorem fN.JI (x:fN P w H h a o)(k:∀b u,(b=a∨H b=some (.own a))→h.get? b=some u→h'.get? b=some u)(s:∀b,H b=some (.own a)→H' b=some (.own a))(l:∀b xs,H b=some (.tup xs)→H' b=some (.tup xs)):fN P w H' h' a o:=by
 induction o with
 |lst xs=>obtain⟨z,i,n,r,e⟩:=x;exact⟨z,i,n,r,k _ _ (.inl rfl) e⟩
 |tup xs=>obtain⟨z,i,r,g,e,c⟩:=x;exact⟨z,i,r,g,k _ _ (.inl rfl) e,c⟩
 |dK kvs=>obtain⟨z,y,vs,r,g,es,ep,e,c⟩:=x;exact⟨z,y,vs,r,g,es,ep,k _ _ (.inl rfl) e,c⟩
 |dT kvs=>
  obtain⟨z,y,xs,r,g,es,ep,e,c⟩:=x;exact⟨z,y,xs,Paired.JH r fun p q z=>⟨z.1,l _ _ z.2.1,z.2.2⟩,g,es,ep,k _ _ (.inl rfl) e,c⟩
 |dN kvs=>
  obtain⟨z,y,xs,r,g,es,ep,e,c⟩:=x;refine⟨z,y,xs,Paired.JH r fun p q z=>⟨z.1,?_,z.2.2⟩,g,es,ep,k _ _ (.inl rfl) e,c⟩;obtain⟨m,p2⟩:=p;cases m with
  |none=>exact z.2.1
  |some ks=>obtain⟨b,A,B⟩:=z.2.1;exact⟨b,A,l _ _ B⟩
 |set S n=>obtain⟨g,es,ep,t,e,c⟩:=x;exact⟨g,es,ep,t,k _ _ (.inl rfl) e,c⟩
 |ins C dx fs=>
  obtain⟨d,z,D,e,mA,⟨j,es,ep,E,c⟩,r⟩:=x;exact⟨s _ d,z,D,k _ _ (.inl rfl) e,mA,⟨j,es,ep,k _ _ (.inr d) E,c⟩,r⟩
 |own y=>obtain⟨g,e⟩:=x;exact⟨g,k _ _ (.inl rfl) e⟩
 |xd fs=>obtain⟨mA,⟨j,es,ep,e,c⟩,r⟩:=x;exact⟨mA,⟨j,es,ep,k _ _ (.inl rfl) e,c⟩,r⟩
 |rng lo hi=>obtain⟨t,u,v,e⟩:=x;exact⟨t,u,v,k _ _ (.inl rfl) e⟩
 |frz g u ih=>obtain⟨e,q⟩:=x;exact⟨k _ _ (.inl rfl) e,ih q⟩
 |tbl ps=>
  have e:h.get? a=some {cls:=.none,data:=.fields ps}:=x;show h'.get? a=some {cls:=.none,data:=.fields ps};exact k a _ (.inl rfl) e
 |met f y=>
  have e:h.get? a=some (W.methodObj (.ref f) (.ref y)):=x;show h'.get? a=some (W.methodObj (.ref f) (.ref y));exact k a _ (.inl rfl) e
 |ext φ=>obtain⟨p,⟨o,e⟩,st⟩:=x;exact⟨st _ _ p fun o q=>k _ _ (.inl rfl) q,⟨o,k _ _ (.inl rfl) e⟩,st⟩
theorem lG.lt (x:lG P w H h)(e:H a=some o):a<h.objs.size:=(x a o e).lt
theorem lG.fresh (x:lG P w H h)(e:h.objs.size≤a):H a=none:=by
 cases q:H a with
 |none=>rfl
 |some u=>exact absurd (aZ (x.lt q) e) (cG _)
theorem lG.kept (x:lG P w H h)(k:∀b u,h.get? b=some u→h'.get? b=some u):lG P w H h':=fun a o e=>
 (x a o e).JI (fun b u _ q=>k b u q) (fun _ q=>q) fun _ _ q=>q
theorem lG.laid (x:lG P w H h)(k:∀b u,h.get? b=some u→h'.get? b=some u)(hp:h.objs.size≤a)(new:fN P w (upd H a o) h' a o):lG P w (upd H a o) h':=fun b u e=>by
 have hn:=x.fresh hp;by_cases hb:b=a
 ·subst hb;rw[d0]at e;cases e;exact new
 ·rw[ef hb]at e;exact(x b u e).JI (fun c v _ q=>k c v q) (fun c q=>by rw[ef (eo q hn)];exact q) fun c xs q=>by rw[ef (eo q hn)];exact q
def Rd (H:Hp)(a:Addr)(u:HO):Prop:=H a=some u∨∃o,H a=some (.frz o u)
theorem Rd.ok {u:HO}(r:Rd H a u)(x:lG P w H h):fN P w H h a u:=by
 rcases r with r | ⟨o,r⟩
 ·exact x a u r
 ·obtain⟨_,q⟩:=x a _ r;exact q
def GX:Option HO→Prop
 |some (.lst _)=>True
 |some (.dK _)=>True
 |some (.dT _)=>True
 |some (.dN _)=>True
 |some (.set _ _)=>True
 |some (.ins _ _ _)=>True
 |some (.ext _)=>True
 |_=>False
section
variable {x e:Addr}{o':HO}
theorem lG.write (ok:lG P w H h)(a:GX (H x))(g:e=x∨H e=some (.own x))(k:∀b u,b≠e→h.get? b=some u→h'.get? b=some u)(d:∃u,h'.get? e=some u)(new:fN P w (upd H x o') h' x o'):lG P w (upd H x o') h':=fun b u q=>by
 have nown:∀c y,H c=some (.own y)→c≠x:=fun c y r z=>by subst z;rw[r]at a;exact a
 have ntup:∀c xs,H c=some (.tup xs)→c≠x:=fun c xs r z=>by subst z;rw[r]at a;exact a
 by_cases hb:b=x
 ·subst hb;rw[d0]at q;cases q;exact new
 ·rw[ef hb]at q;by_cases hbe:b=e
  ·have q':H b=some (.own x):=by
    rcases g with z | z
    ·exact absurd (hbe.trans z) hb
    ·rw[hbe];exact z
   rw[q]at q';cases q';obtain⟨v,i⟩:=d;exact⟨v,by rw[hbe];exact i⟩
  ·refine(ok b u q).JI (fun c v hc r=>k c v ?_ r) (fun c r=>by rw[ef (nown c b r)];exact r) fun c xs r=>by rw[ef (ntup c xs r)];exact r
   rcases hc with rfl | hc
   ·exact hbe
   ·rintro rfl;rcases g with z | z
    ·exact nown c b hc z
    ·rw[hc]at z;cases z;exact hb rfl
end
structure Un (fs ex:List Addr)(H H':Hp)(h h':Heap):Prop where
 keep:∀b o,h.get? b=some o→H b=none→b∉fs→b∉ex→h'.get? b=some o
 slot:∀b o,h.get? b=some o→H b=none→b∈fs→b∉ex→∃sl,h'.get? b=some {o with slots:=sl}
 free:∀b o,h.get? b=some o→H b=none→b∉ex→H' b=none
 there:∀b o,h.get? b=some o→b∉ex→∃o',h'.get? b=some o'
 tups:∀b xs,H b=some (.tup xs)→H' b=some (.tup xs)
 frzs:∀b o u,H b=some (.frz o u)→H' b=some (.frz o u)
 tbls:∀b ps,H b=some (.tbl ps)→∃more,H' b=some (.tbl (ps++more))
section
variable {fs fs' ex ex':List Addr}{H1 H2:Hp}{h1 h2:Heap}{x e:Addr}
theorem Un.any (u:Un fs ex H H1 h h1){ob:Obj}(q:h.get? b=some ob)(n:H b=none)(a:b∉ex):∃sl,h1.get? b=some {ob with slots:=sl}:=by
 by_cases hb:b∈fs
 ·exact u.slot b ob q n hb a
 ·exact⟨ob.slots,u.keep b ob q n hb a⟩
theorem Un.kept (k:∀b u,h.get? b=some u→h'.get? b=some u):Un fs ex H H h h':=
 ⟨fun b ob q _ _ _=>k b ob q,fun b ob q _ _ _=>⟨ob.slots,k b ob q⟩,fun _ _ _ n _=>n,fun b ob q _=>⟨ob,k b ob q⟩,fun _ _ q=>q,fun _ _ _ q=>q,fun _ ps q=>⟨#[],by rw[q];simp⟩⟩
theorem Un.refl:Un fs ex H H h h:=Un.kept fun _ _ q=>q
theorem Un.laid (k:∀b u,h.get? b=some u→h'.get? b=some u)(hp:h.objs.size≤a)(hn:H a=none):Un fs ex H (upd H a o) h h' where
 keep:=fun b u q _ _ _=>k b u q
 slot:=fun b u q _ _ _=>⟨u.slots,k b u q⟩
 free:=fun b u q n _=>by rw[ef (aT (aZ (aM q) hp))];exact n
 there:=fun b u q _=>⟨u,k b u q⟩
 tups:=fun b xs q=>by rw[ef (eo q hn)];exact q
 frzs:=fun b u xs q=>by rw[ef (eo q hn)];exact q
 tbls:=fun b ps q=>⟨#[],by rw[ef (eo q hn),q];simp⟩
theorem Un.write (a:GX (H x))(l:e=x∨H e=some (.own x))(k:∀b u,b≠e→h.get? b=some u→h'.get? b=some u)(g:∃u,h'.get? e=some u):Un fs ex H (upd H x o) h h':=by
 have j:∀b,H b=none→b≠x:=fun b n z=>by subst z;rw[n]at a;exact a
 have i:∀b,H b=none→b≠e:=fun b n z=>by
  subst z;rcases l with r | r
  ·exact j b n r
  ·rw[n]at r;cases r
 have d:∀b u,H b=some u→¬GX (some u)→b≠x:=fun b u q nm z=>by subst z;rw[q]at a;exact nm a
 refine⟨fun b u q n _ _=>k b u (i b n) q,fun b u q n _ _=>⟨u.slots,k b u (i b n) q⟩,fun b u q n _=>by rw[ef (j b n)];exact n,fun b u q _=>?_,
  fun b xs q=>by rw[ef (d b _ q fun z=>z)];exact q,fun b u xs q=>by rw[ef (d b _ q fun z=>z)];exact q,fun b ps q=>⟨#[],by rw[ef (d b _ q fun z=>z),q];simp⟩⟩
 by_cases hbe:b=e
 ·subst hbe;exact g
 ·exact⟨u,k b u hbe q⟩
end
def Hn (h:Heap)(H:Hp):List Addr:=(List.range h.objs.size).filter fun a=>(H a).isSome
def qr (h:Heap)(H:Hp):Heap:=W.hideAll h (Hn h H)
theorem yC (h:Heap)(H:Hp):(qr h H).objs.size=h.objs.size:=W.hideAll_size _ _
theorem AK {o:Obj}(e:h.get? b=some o)(n:H b=none):(qr h H).get? b=some o:=
 W.hideAll_get _ e fun hm=>by
  have q:(H b).isSome=true:=(aS.mp hm).2;rw[n]at q;simp at q
theorem CM {o:Obj}(e:(qr h H).get? b=some o):h.get? b=some o∧H b=none:=by
 have a:h.get? b=some o:=W.of_hideAll (Hn h H) e;refine⟨a,?_⟩;cases q:H b with
 |none=>rfl
 |some x=>
  have d:b∈Hn h H:=aS.mpr ⟨List.mem_range.mpr (aM a),by simp[q]⟩;have z:(qr h H).get? b=none:=W.hideAll_none (Hn h H) d;rw[z]at e;cases e
structure Mod (K:W.Frag)(mg:Str→Option Value)(base:Heap):Prop where
 kin:K.In base
 glob:base.Ns mainGlobals mg
 blt:∃mb,base.Ns builtinsNs mb∧∀x:Str,x≠"__name__"→mb x=bootBuiltins x
 nolimit:base.NoLimit
structure Cx where
 prog:Program
 w:World
 K:W.Frag
 mg:Str→Option Value
 base:Heap
 A:Around
 N:List Str
 s₀:Shared
 H₀:Hp
 env:Env
 outer:List Env
 stack:List Env
 ex:List Addr
 fn:Str→Bool
 calm:Bool
 pn:List (Addr×Obj)
 xe:Value→Shared→Prop
def AQ (l:List Env):List Addr:=l.filterMap (·.frame)
abbrev Cx.fs (X:Cx):List Addr:=AQ X.outer
def DF (sc:Scope)(x:Str):Prop:=sc.names.lookup x=some .local∨sc.names.lookup x=some .cell∨sc.names.lookup x=some .free
def GZ (sc:Scope)(x:Str):Prop:=sc.names.lookup x=some .local∨sc.names.lookup x=some .cell
def IK (env:Env)(h:Heap)(m:Str→Option Value)(x:Str)(u:Value):Prop:=
 (env.kindOf x=some .local∧m x=some u)∨((env.kindOf x=some .cell∨env.kindOf x=some .free)∧∃c,env.cells.lookup x=some c∧h.IsCell c (some u))
structure Cx.Ok (X:Cx):Prop where
 mod:Mod X.K X.mg X.base
 kind:X.env.scope.kind=.function
 glob:X.env.globals=mainGlobals
 blt:X.env.builtins=builtinsNs
 above:X.s₀.heap.objs.size≤X.env.locals
 inj:∀x y c,X.env.cells.lookup x=some c→X.env.cells.lookup y=some c→x=y
 has:∀x,(X.env.kindOf x=some .cell∨X.env.kindOf x=some .free)→∃c,X.env.cells.lookup x=some c
 cab:∀x c,X.fn x=true→X.env.cells.lookup x=some c→X.s₀.heap.objs.size≤c
 hd:X.calm=true→X.A.handled=none
 frames:X.A.frames=some X.stack
 stk:X.stack=X.outer∨(X.stack=X.env::X.outer∧X.env.frame=some X.env.locals)
 exf:∀b∈X.ex,b≠X.env.locals∧∀x c,X.env.cells.lookup x=some c→c≠b
 bs:∀b o,X.base.get? b=some o→X.s₀.heap.get? b=some o∧X.H₀ b=none
 bsz:X.base.objs.size≤X.s₀.heap.objs.size
 noex:∀b o,X.base.get? b=some o→b∉X.ex
 exfs:∀b∈X.ex,b∉X.fs
 funs:X.s₀.heap.FunFrames X.base X.outer
 frf:∀b∈X.fs,X.H₀ b=none
structure eQ (X:Cx)(pins:List (Addr×Obj))(σ:List (Option V))(H:Hp)(s:Shared):Prop where
 ok:X.Ok
 os:s.os=X.s₀.os
 bare:AllBare s.gens
 base:Un X.fs X.ex X.H₀ H X.s₀.heap s.heap
 loc:∃m,s.heap.Ns X.env.locals m∧∀(i:Nat) (x:Str) (v:V),X.N[i]?=some x→σ[i]?=some (some v)→DF X.env.scope x→∃u,eY v u∧IK X.env s.heap m x u
 cell:∀x c,X.env.cells.lookup x=some c→∃v,s.heap.IsCell c v
 free:H X.env.locals=none
 freeC:∀x c,X.env.cells.lookup x=some c→H c=none
 pin:∀p∈X.pn++pins,s.heap.get? p.1=some p.2∧H p.1=none∧p.1≠X.env.locals∧p.1∉X.fs∧∀v,p.2.data≠.cell v
 hok:lG X.prog X.w H s.heap
 len:σ.length=X.N.length
section
variable {σ:List (Option V)}
theorem Cx.Ok.JJ (ok:X.Ok){o:Obj}(e:X.base.get? b=some o):b∉X.fs:=fun hb=>by
 have:=(ok.funs.mem hb).1;rw[e]at this;cases this
theorem eQ.bs (I:eQ X pins σ H s):∀b o,X.base.get? b=some o→s.heap.get? b=some o∧H b=none:=fun b o e=>
 ⟨I.base.keep b o (I.ok.bs b o e).1 (I.ok.bs b o e).2 (I.ok.JJ e) (I.ok.noex b o e),I.base.free b o (I.ok.bs b o e).1 (I.ok.bs b o e).2 (I.ok.noex b o e)⟩
theorem eQ.bk (I:eQ X pins σ H s):∀b o,X.base.get? b=some o→s.heap.get? b=some o:=fun b o e=>(I.bs b o e).1
theorem eQ.mod (I:eQ X pins σ H s):Mod X.K X.mg X.base:=I.ok.mod
theorem eQ.kIn (I:eQ X pins σ H s):X.K.In s.heap:=I.ok.mod.kin.keeps I.bk
theorem eQ.nolimit (I:eQ X pins σ H s):s.heap.NoLimit:=I.ok.mod.nolimit.keeps I.bk
theorem eQ.lt (I:eQ X pins σ H s):X.env.locals<s.heap.objs.size:=(by obtain⟨_,hn,_⟩:=I.loc;exact hn.lt)
theorem eQ.sz (I:eQ X pins σ H s):X.s₀.heap.objs.size≤s.heap.objs.size:=br I.ok.above (cD I.lt)
theorem eQ.JK (I:eQ X pins σ H s)(h:s.heap.objs.size≤a):a∉X.fs:=fun hb=>by
 obtain⟨_,o,ho,_⟩:=I.ok.funs.mem hb;exact absurd (aZ (aM ho) (br I.sz h)) (cG _)
theorem eQ.cne (I:eQ X pins σ H s):∀x c,X.env.cells.lookup x=some c→c≠X.env.locals:=fun x c e z=>by
 obtain⟨v,o,ho,hd⟩:=I.cell x c e;obtain⟨m,⟨o',es,ep,ho',hd',_⟩,_⟩:=I.loc;rw[z,ho']at ho;cases ho;rw[hd']at hd;cases hd
theorem eQ.funs (I:eQ X pins σ H s):s.heap.FunFrames X.base X.outer:=by
 have all:∀(l:List Env),(∀b∈AQ l,b∈X.fs)→X.s₀.heap.FunFrames X.base l→s.heap.FunFrames X.base l:=by
  intro l
  induction l with
  |nil=>intro _ _;trivial
  |cons env r ih=>
   intro h m;obtain⟨t,⟨L,o,a,q,j,i⟩,p⟩:=m;have g:L∈X.fs:=h L (by unfold AQ;rw[List.filterMap_cons,a];exact bi);obtain⟨v,e⟩:=I.base.slot L o j (I.ok.frf L g) g fun z=>I.ok.exfs L z g;exact⟨t,⟨L,_,a,q,e,i⟩,ih (fun b d=>h b (by unfold AQ;rw[List.filterMap_cons,a];exact aR _ d)) p⟩
 exact all X.outer (fun _ d=>d) I.ok.funs
theorem eQ.stack (I:eQ X pins σ H s):s.heap.FunFrames X.base X.stack:=by
 rcases I.ok.stk with e | ⟨e,a⟩
 ·rw[e];exact I.funs
 ·rw[e];obtain⟨m,b,_⟩:=I.loc;refine .cons (by rw[I.ok.kind];decide) a b ?_ I.funs;exact bg (br I.ok.bsz I.ok.above)
theorem eQ.JL (I:eQ X pins σ H s):∀b∈AQ X.stack,b∈X.env.locals::X.fs:=fun b hb=>by
 rcases I.ok.stk with e | ⟨e,hf⟩
 ·rw[e]at hb;exact aR _ hb
 ·rw[e]at hb;unfold AQ at hb;rw[List.filterMap_cons,hf]at hb;exact hb
theorem eQ.JM (I:eQ X pins σ H s):∀b∈AQ X.stack,H b=none:=fun b hb=>by
 rcases am.mp (I.JL b hb) with e | hb
 ·rw[e];exact I.free
 ·obtain⟨_,o,ho,_⟩:=I.ok.funs.mem hb;exact I.base.free b o ho (I.ok.frf b hb) fun z=>I.ok.exfs b z hb
theorem eQ.step {g':Array GenState}{d':Drawn}(I:eQ X pins σ H s)(j:∀b∈ch,(b∈X.ex∨X.s₀.heap.get? b=none)∧b≠X.env.locals∧(∀x c,X.env.cells.lookup x=some c→c≠b)∧∀p∈X.pn++pins,p.1≠b)(keep:∀b o,b≠X.env.locals→b∉X.fs→b∉ch→s.heap.get? b=some o→H b=none→h'.get? b=some o)(slot:∀b o,b≠X.env.locals→b∈X.fs→b∉ch→s.heap.get? b=some o→H b=none→∃sl,h'.get? b=some {o with slots:=sl})(free:∀b o,b∉ch→s.heap.get? b=some o→H b=none→H' b=none)(there:∀b o,b∉ch→s.heap.get? b=some o→∃o',h'.get? b=some o')(tups:∀b xs,H b=some (.tup xs)→H' b=some (.tup xs))(frzs:∀b o u,H b=some (.frz o u)→H' b=some (.frz o u))(tbls:∀b ps,H b=some (.tbl ps)→∃more,H' b=some (.tbl (ps++more)))(ns:∀m,s.heap.Ns X.env.locals m→h'.Ns X.env.locals m)(F:lG X.prog X.w H' h')(M:AllBare g'):eQ X pins σ H' {s with heap:=h',gens:=g',drawn:=d',toks:=t'}:=by
 have C:∀b o,X.s₀.heap.get? b=some o→b≠X.env.locals:=fun b o e=>aT (aZ (aM e) I.ok.above);have t:∀b o,X.s₀.heap.get? b=some o→b∉X.ex→b∉ch:=fun b o e a A=>by
  rcases (j b A).1 with z | z
  ·exact a z
  ·rw[e]at z;cases z
 have g:∀x c,X.env.cells.lookup x=some c→∀v,s.heap.IsCell c v→h'.IsCell c v:=fun x c e v ⟨o,B,E⟩=>by
  have h:c∉ch:=fun z=>(j c z).2.2.1 x c e rfl;by_cases hc:c∈X.fs
  ·obtain⟨sl,q⟩:=slot c o (I.cne x c e) hc h B (I.freeC x c e);exact⟨_,q,E⟩
  ·exact⟨o,keep c o (I.cne x c e) hc h B (I.freeC x c e),E⟩
 refine⟨I.ok,I.os,M,⟨fun b o e n A a=>?_,fun b o e n A a=>?_,fun b o e n a=>?_,fun b o e a=>?_,fun b xs e=>tups b xs (I.base.tups b xs e),fun b o xs e=>frzs b o xs (I.base.frzs b o xs e),fun b ps e=>?_⟩,?_,fun x c e=>?_,?_,fun x c e=>?_,fun p hp=>?_,F,I.len⟩
 ·exact keep b o (C b o e) A (t b o e a) (I.base.keep b o e n A a) (I.base.free b o e n a)
 ·obtain⟨sl,y⟩:=I.base.slot b o e n A a;obtain⟨G,D⟩:=slot b _ (C b o e) A (t b o e a) y (I.base.free b o e n a);exact⟨G,D⟩
 ·obtain⟨o',y⟩:=I.base.there b o e a;exact free b o' (t b o e a) y (I.base.free b o e n a)
 ·obtain⟨o',y⟩:=I.base.there b o e a;exact there b o' (t b o e a) y
 ·obtain⟨O,y⟩:=I.base.tbls b ps e;obtain⟨L,D⟩:=tbls b _ y;exact⟨O++L,by rw[D,Array.append_assoc]⟩
 ·obtain⟨m,P,N⟩:=I.loc;refine⟨m,ns m P,fun i x v y D Q=>?_⟩;obtain⟨u,r,l⟩:=N i x v y D Q;refine⟨u,r,?_⟩;rcases l with l | ⟨k,c,e,z⟩
  ·exact .inl l
  ·exact .inr ⟨k,c,e,g x c e _ z⟩
 ·obtain⟨v,z⟩:=I.cell x c e;exact⟨v,g x c e v z⟩
 ·obtain⟨m,⟨o,_,_,B,_⟩,_⟩:=I.loc;exact free _ o (fun z=>(j _ z).2.1 rfl) B I.free
 ·obtain⟨v,o,B,E⟩:=I.cell x c e;exact free c o (fun z=>(j c z).2.2.1 x c e rfl) B (I.freeC x c e)
 ·obtain⟨e,n,J,K,d⟩:=I.pin p hp;have h:p.1∉ch:=fun z=>(j p.1 z).2.2.2 p hp rfl;exact⟨keep p.1 p.2 J K h e n,free p.1 p.2 h e n,J,K,d⟩
theorem eQ.un (I:eQ X pins σ H s)(u:Un X.fs [] H H' s.heap h')(g:lG X.prog X.w H' h'):eQ X pins σ H' {s with heap:=h',toks:=t'}:=by
 obtain⟨m,⟨o,es,ep,j,r⟩,_⟩:=id I.loc;obtain⟨t,q⟩:=u.any j I.free (by simp)
 exact I.step (g':=s.gens) (d':=s.drawn) (ch:=[]) (fun _ z=>nomatch z) (fun b o _ d _ e n=>u.keep b o e n d (by simp)) (fun b o _ d _ e n=>u.slot b o e n d (by simp)) (fun b o _ e n=>u.free b o e n (by simp)) (fun b o _ e=>u.there b o e (by simp)) u.tups u.frzs u.tbls (fun m' p=>by
  obtain⟨o',i,h,a,l⟩:=p;rw[j]at a;cases a
  exact⟨_,i,h,q,l⟩) g I.bare
theorem eQ.call {g':Array GenState}{d':Drawn}(I:eQ X pins σ H s)(u:Un (AQ X.stack) ch H H' s.heap h')(h:lG X.prog X.w H' h')(y:AllBare g')(g:∀b∈ch,(b∈X.ex∨X.s₀.heap.get? b=none)∧b≠X.env.locals∧(∀x c,X.env.cells.lookup x=some c→c≠b)∧∀p∈X.pn++pins,p.1≠b):eQ X pins σ H' {s with heap:=h',gens:=g',drawn:=d',toks:=t'}:=by
 obtain⟨m,⟨o,es,ep,q,r⟩,_⟩:=id I.loc;obtain⟨B,j⟩:=u.any q I.free fun z=>(g _ z).2.1 rfl
 exact I.step (ch:=ch) g (fun b o j v a e n=>u.keep b o e n (fun z=>(am.mp (I.JL b z)).elim j v) a) (fun b o _ _ a e n=>u.any e n a) (fun b o a e n=>u.free b o e n a) (fun b o a e=>u.there b o e a) u.tups u.frzs u.tbls (fun m' A=>by
  obtain⟨o',l,i,d,t⟩:=A;rw[q]at d;cases d
  exact⟨_,l,i,j,t⟩) h y
theorem eQ.turned {it:Addr}(I:eQ X pins σ H s)(k:∀b o,b≠it→s.heap.get? b=some o→h'.get? b=some o)(l:H it=none)(g:it≠X.env.locals)(h1:it∈X.ex∨X.s₀.heap.get? it=none)(h2:∀x c,X.env.cells.lookup x=some c→c≠it)(j:∀p∈X.pn++pins,p.1≠it):eQ X pins σ H {s with heap:=h',toks:=t'}:=by
 have d:∀b u,H b=some u→b≠it:=fun b u e z=>by rw[z,l]at e;cases e
 refine I.step (g':=s.gens) (d':=s.drawn) (ch:=[it]) (fun b i=>?_) (fun b o _ _ a e _=>k b o (fun z=>a (by simp[z])) e) (fun b o _ _ a e _=>⟨o.slots,k b o (fun z=>a (by simp[z])) e⟩) (fun _ _ _ _ n=>n)
  (fun b o a e=>⟨o,k b o (fun z=>a (by simp[z])) e⟩) (fun _ _ e=>e) (fun _ _ _ e=>e) (fun b ps e=>⟨#[],by rw[e];simp⟩) (fun m t=>?_) (fun b u e=>?_) I.bare
 ·have e:b=it:=by simpa using i
  subst e;exact⟨h1,g,h2,j⟩
 ·obtain⟨o,es,ep,h,r⟩:=t;exact⟨o,es,ep,k _ o (Ne.symm g) h,r⟩
 ·refine(I.hok b u e).JI (fun c v a q=>k c v ?_ q) (fun _ q=>q) fun _ _ q=>q;rcases a with z | z
  ·rw[z];exact d b u e
  ·exact d c _ z
theorem eQ.tok (I:eQ X pins σ H s)(t:Nat):eQ X pins σ H {s with toks:=t}:=I.un (h':=s.heap) (t':=t) Un.refl I.hok
theorem eQ.kept (I:eQ X pins σ H s)(k:∀b u,s.heap.get? b=some u→h'.get? b=some u):eQ X pins σ H {s with heap:=h',toks:=t'}:=I.un (Un.kept k) (I.hok.kept k)
theorem eQ.laid (I:eQ X pins σ H s)(k:∀b u,s.heap.get? b=some u→h'.get? b=some u)(hp:s.heap.objs.size≤a)(new:fN X.prog X.w (upd H a o) h' a o):eQ X pins σ (upd H a o) {s with heap:=h',toks:=t'}:=I.un (Un.laid k hp (I.hok.fresh hp)) (I.hok.laid k hp new)
theorem eQ.write {x e:Addr}(I:eQ X pins σ H s)(mu:GX (H x))(he:e=x∨H e=some (.own x))(k:∀b u,b≠e→s.heap.get? b=some u→h'.get? b=some u)(heo:∃u,h'.get? e=some u)(new:fN X.prog X.w (upd H x o) h' x o):eQ X pins σ (upd H x o) {s with heap:=h',toks:=t'}:=I.un (Un.write mu he k heo) (I.hok.write mu he k heo new)
theorem eQ.weak {σ':List (Option V)}(I:eQ X pins σ H s)(hl:σ'.length=σ.length)(w:∀(i:Nat) v,σ'[i]?=some (some v)→σ[i]?=some (some v)):eQ X pins σ' H s:=
 ⟨I.ok,I.os,I.bare,I.base,(by obtain⟨m,hn,hl'⟩:=I.loc;exact⟨m,hn,fun i x v e1 e2 e3=>hl' i x v e1 (w i v e2) e3⟩),I.cell,I.free,I.freeC,I.pin,I.hok,hl.trans I.len⟩
theorem eQ.JN {pins':List (Addr×Obj)}(I:eQ X pins σ H s)(h:∀p∈pins',s.heap.get? p.1=some p.2∧H p.1=none∧p.1≠X.env.locals∧p.1∉X.fs∧∀v,p.2.data≠.cell v):eQ X pins' σ H s:=
 ⟨I.ok,I.os,I.bare,I.base,I.loc,I.cell,I.free,I.freeC,fun p hp=>(az.mp hp).elim (fun z=>I.pin p (aO _ z)) (h p),I.hok,I.len⟩
theorem tS {N:List Str}(e:N.Nodup)(a:N[i]?=some x)(b:N[j]?=some x):i=j:=by
 obtain⟨h1,d⟩:=af.mp a;obtain⟨h2,g⟩:=af.mp b;exact(List.getElem_inj e).mp (d.trans g.symm)
theorem xF {u:Value}{Q:Unit→Shared→Prop}(I:eQ X pins σ H s)(hN:X.N.Nodup)(hi:X.N[i]?=some x)(B:GZ X.env.scope x)(r:eY v u)(h:∀s',eQ X pins (σ.set i (some v)) H s'→(∃a,Heap.SameBut a s.heap s'.heap∧(a=X.env.locals∨X.env.cells.lookup x=some a))→Q () s')(hf:X.fn x=true∨X.env.scope.names.lookup x=some .local:=by first | exact .inl rfl | exact .inr rfl | assumption):wpAny M A (storeName X.env x u) Q E s:=by
 obtain⟨m,hn,hl⟩:=id I.loc;have P:(X.env.scope.kind == .class||(X.env.scope.kind == .module&&X.env.locals != X.env.globals))=false:=by rw[I.ok.kind];rfl
 have O:i<σ.length:=by rw[I.len];exact(af.mp hi).1
 have cne:=I.cne;have l:∀{a:Addr} {h':Heap},(∃o,s.heap.get? a=some o∧H a=none)→Heap.SameBut a s.heap h'→lG X.prog X.w H h':=fun {a h'} ha g b ob e=>by
  obtain⟨_,_,C⟩:=ha;refine(I.hok b ob e).JI (fun c R hc q=>(g.2 c ?_).trans q) (fun _ q=>q) fun _ _ q=>q;rintro rfl;rcases hc with rfl | hc
  ·rw[C]at e;cases e
  ·rw[C]at hc;cases hc
 rcases B with hk | hk
 ·refine wpAny_storeName_local hk hn (fun h' aa g=>?_) P;obtain⟨oL,_,_,ad,_⟩:=id hn;refine h _ ⟨I.ok,I.os,I.bare,⟨fun b o e n F B=>?_,fun b o e n F B=>?_,I.base.free,fun b o e B=>?_,I.base.tups,I.base.frzs,I.base.tbls⟩,⟨_,aa,fun j y U t D e3=>?_⟩,fun y c e=>?_,I.free,I.freeC,fun p hp=>?_,l ⟨oL,ad,I.free⟩ g,by simpa using I.len⟩ ⟨_,g,.inl rfl⟩
  ·exact(g.2 b (aT (aZ (aM e) I.ok.above))).trans (I.base.keep b o e n F B)
  ·obtain⟨Y,t⟩:=I.base.slot b o e n F B;exact⟨Y,(g.2 b (aT (aZ (aM e) I.ok.above))).trans t⟩
  ·obtain⟨o',t⟩:=I.base.there b o e B;exact⟨o',(g.2 b (aT (aZ (aM e) I.ok.above))).trans t⟩
  ·by_cases hj:j=i
   ·subst hj;rw[hi]at t;cases t;rw[List.getElem?_set_self O]at D;cases D;exact⟨u,r,.inl ⟨hk,by simp⟩⟩
   ·rw[List.getElem?_set_ne (Ne.symm hj)]at D;obtain⟨Z,T,q⟩:=hl j y U t D e3;refine⟨Z,T,?_⟩;rcases q with ⟨k,e⟩ | ⟨k,c,e,z⟩
    ·refine .inl ⟨k,?_⟩;have:y≠x:=fun e=>hj (tS hN t (e▸hi));simp[this,e]
    ·exact .inr ⟨k,c,e,z.sameBut g (cne y c e)⟩
  ·obtain⟨R,z⟩:=I.cell y c e;exact⟨R,z.sameBut g (cne y c e)⟩
  ·obtain⟨e,n,S,nf,d⟩:=I.pin p hp;exact⟨(g.2 p.1 S).trans e,n,S,nf,d⟩
 ·have G:X.fn x=true:=by
   rcases hf with z | z
   ·exact z
   ·rw[z]at hk;cases hk
  obtain⟨c,hc⟩:=I.ok.has x (.inl hk);obtain⟨R,z⟩:=I.cell x c hc;refine wpAny_storeName_cell I.ok.kind hk hc z (fun h' L g=>?_);obtain⟨oc,J,K⟩:=id z;refine h {s with heap:=h'} ⟨I.ok,I.os,I.bare,⟨fun b o e n F B=>?_,fun b o e n F B=>?_,I.base.free,fun b o e B=>?_,I.base.tups,I.base.frzs,I.base.tbls⟩,⟨m,hn.sameBut g (Ne.symm (cne x c hc)),fun j y U t D e3=>?_⟩,fun y c' e=>?_,I.free,I.freeC,fun p hp=>?_,l ⟨oc,J,I.freeC x c hc⟩ g,by simpa using I.len⟩ ⟨c,g,.inr hc⟩
  ·exact(g.2 b (aT (aZ (aM e) (I.ok.cab x c G hc)))).trans (I.base.keep b o e n F B)
  ·obtain⟨Y,t⟩:=I.base.slot b o e n F B;exact⟨Y,(g.2 b (aT (aZ (aM e) (I.ok.cab x c G hc)))).trans t⟩
  ·obtain⟨o',t⟩:=I.base.there b o e B;exact⟨o',(g.2 b (aT (aZ (aM e) (I.ok.cab x c G hc)))).trans t⟩
  ·by_cases hj:j=i
   ·subst hj;rw[hi]at t;cases t;rw[List.getElem?_set_self O]at D;cases D;exact⟨u,r,.inr ⟨.inl hk,c,hc,L⟩⟩
   ·rw[List.getElem?_set_ne (Ne.symm hj)]at D;obtain⟨Z,T,q⟩:=hl j y U t D e3;refine⟨Z,T,?_⟩;rcases q with q | ⟨k,c',e,z'⟩
    ·exact .inl q
    ·refine .inr ⟨k,c',e,z'.sameBut g ?_⟩;rintro rfl;exact hj (tS hN t (I.ok.inj _ _ _ e hc▸hi))
  ·by_cases hcc:c'=c
   ·subst hcc;exact⟨_,L⟩
   ·obtain⟨w2,z2⟩:=I.cell y c' e;exact⟨w2,z2.sameBut g hcc⟩
  ·obtain⟨e,n,S,nf,d⟩:=I.pin p hp;refine⟨(g.2 p.1 ?_).trans e,n,S,nf,d⟩;intro q;rw[q,J]at e;have q':oc=p.2:=Option.some.inj e;exact d R (by rw[←q'];exact K)
theorem oT {u:Value}{Q:Unit→Shared→Prop}(I:eQ X pins σ H s)(d:X.N.Nodup)(hi:X.N[i]?=some x)(b:GZ X.env.scope x)(r:eY v u)(h:∀s',eQ X pins (σ.set i (some v)) H s'→Q () s')(hf:X.fn x=true∨X.env.scope.names.lookup x=some .local:=by first | exact .inl rfl | exact .inr rfl | assumption):wpAny M A (storeName X.env x u) Q E s:=
 xF I d hi b r (fun s' a _=>h s' a) hf
theorem eQ.JO (I:eQ X pins σ H s)(g:s'.os=s.os)(u:Un (AQ X.stack) ch H H' s.heap s'.heap)(a:lG X.prog X.w H' s'.heap)(h:AllBare s'.gens)(d:∀b∈ch,(b∈X.ex∨X.s₀.heap.get? b=none)∧b≠X.env.locals∧(∀x c,X.env.cells.lookup x=some c→c≠b)∧∀p∈X.pn++pins,p.1≠b):eQ X pins σ H' s':=by
 obtain⟨h',g',d',t',o'⟩:=s';have e:o'=s.os:=g;subst e;exact I.call (g':=g') (t':=t') (d':=d') u a h d
end
abbrev XK:=Value→Option Addr→Hp→Prop
abbrev St:=List (Option V)
abbrev VK:=V→Hp→Prop
abbrev TE:=St→Hp→VK→Prop
abbrev TT:=St→Hp→(Bool→Hp→Prop)→Prop
abbrev TA:=St→Hp→(List V→Hp→Prop)→Prop
structure mS where
 nx:St→Hp→Prop
 rt:VK
 bk:St→Hp→Prop:=fun _ _=>False
 ct:St→Hp→Prop:=fun _ _=>False
abbrev TS:=mS→St→Hp→Prop
def EP (X:Cx)(pins:List (Addr×Obj))(σ:St)(Q:VK)(u:Value)(s':Shared):Prop:=∃v H',eQ X pins σ H' s'∧eY v u∧Q v H'
def TP (X:Cx)(pins:List (Addr×Obj))(σ:St)(Q:Bool→Hp→Prop)(b:Bool)(s':Shared):Prop:=∃H',eQ X pins σ H' s'∧Q b H'
def AP (X:Cx)(pins:List (Addr×Obj))(σ:St)(Q:List V→Hp→Prop)(us:List Value)(s':Shared):Prop:=∃vs H',eQ X pins σ H' s'∧fL vs us∧Q vs H'
def SP (X:Cx)(pins:List (Addr×Obj))(D:mS)(f:Flow)(s':Shared):Prop:=
 match f with
 |.next=>∃σ' H',eQ X pins σ' H' s'∧D.nx σ' H'
 |.brk=>∃σ' H',eQ X pins σ' H' s'∧D.bk σ' H'
 |.cont=>∃σ' H',eQ X pins σ' H' s'∧D.ct σ' H'
 |.ret u=>∃v σ' H',eQ X pins σ' H' s'∧eY v u∧D.rt v H'
def PE (X:Cx)(e:Expr)(t:TE):Prop:=
 ∀(pins:List (Addr×Obj)) (s:Shared) (σ:St) (H:Hp) (Q:VK),eQ X pins σ H s→t σ H Q→wpAny (model X.prog X.w) X.A (eval e X.env) (EP X pins σ Q) X.xe s
def PT (X:Cx)(e:Expr)(t:TT):Prop:=
 ∀(pins:List (Addr×Obj)) (s:Shared) (σ:St) (H:Hp) (Q:Bool→Hp→Prop),eQ X pins σ H s→t σ H Q→wpAny (model X.prog X.w) X.A (isTrue e X.env (eval e X.env)) (TP X pins σ Q) X.xe s
def PW (X:Cx)(e:Expr)(t:TT):Prop:=
 ∀(whole:Sem Value) (pins:List (Addr×Obj)) (s:Shared) (σ:St) (H:Hp) (Q:Bool→Hp→Prop),eQ X pins σ H s→t σ H Q→wpAny (model X.prog X.w) X.A (isTrue e X.env whole) (TP X pins σ Q) X.xe s
theorem PW.pt {t:TT}(h:PW X e t):PT X e t:=h _
def PA (X:Cx)(es:List Expr)(t:TA):Prop:=
 ∀(pos:Pos) (pins:List (Addr×Obj)) (s:Shared) (σ:St) (H:Hp) (Q:List V→Hp→Prop),eQ X pins σ H s→t σ H Q→wpAny (model X.prog X.w) X.A (spliced (backTo pos (starEach es X.env))) (AP X pins σ Q) X.xe s
def PS (X:Cx)(st:Stmt)(t:TS):Prop:=
 ∀(pins:List (Addr×Obj)) (s:Shared) (σ:St) (H:Hp) (D:mS),eQ X pins σ H s→t D σ H→wpAny (model X.prog X.w) X.A (exec st X.env) (SP X pins D) X.xe s
def mj (X:Cx)(st:List Stmt)(t:TS):Prop:=
 ∀(pins:List (Addr×Obj)) (s:Shared) (σ:St) (H:Hp) (D:mS),eQ X pins σ H s→t D σ H→wpAny (model X.prog X.w) X.A (execs st X.env) (SP X pins D) X.xe s
theorem fW {α:Type}{t:Sem α}{Q Q':α→Shared→Prop}(h:wpAny M A t Q E s)(hQ:∀a s,Q a s→Q' a s):wpAny M A t Q' E s:=ca h hQ fun _ _ x=>x
section
inductive DJ (i:Nat)(σ:St)(H:Hp)(Q:VK):Prop
 |mk (v:_)(_:σ[i]?=some (some v))(_:Q v H):DJ i σ H Q
def nZ (i:Nat):TE:=fun σ H Q=>DJ i σ H Q
def tC (v:V):TE:=fun _ H Q=>Q v H
theorem Ey (o:X.N[i]?=some x)(q:DF X.env.scope x)(hd:(x == ("__debug__" : Str))=false:=by decide)(hcd:(x == ("__classdict__" : Str))=false:=by decide):PE X (.Name x pos) (nZ i):=by
 intro pins s σ H Q I h;obtain⟨v,e,h⟩:=h;obtain⟨m,j,g⟩:=I.loc;obtain⟨u,r,l⟩:=g i x v o e q;have b:EP X pins σ Q u s:=⟨v,H,I,r,h⟩;rcases l with ⟨hk,p⟩ | ⟨hk,c,d,a⟩
 ·exact wpAny_Name (wpAny_loadName_local I.ok.kind hk j p b) hd
 ·rcases hk with hk | hk
  ·exact wpAny_Name (wpAny_loadName_cell I.ok.kind hk d a b) hd
  ·exact wpAny_Name (wpAny_loadName_free I.ok.kind hk d a b hcd) hd
theorem er {i j pos}:PE X (.Constant (.int i) j pos) (tC (.int i)):=fun _ _ _ H _ I h=>wpAny_Constant_int ⟨.int i,H,I.tok _,⟨_,rfl⟩,h⟩
theorem iM {b j pos}:PE X (.Constant (.bool b) j pos) (tC (.bl b)):=fun _ _ _ H _ I h=>Constant_bool ⟨.bl b,H,I,rfl,h⟩
theorem iR {j pos}:PE X (.Constant .none j pos) (tC .non):=fun _ _ _ H _ I h=>Constant_none ⟨.non,H,I,rfl,h⟩
theorem hJ {x j pos}:PE X (.Constant (.str x) j pos) (tC (.str x)):=fun _ _ _ H _ I h=>Calls.Constant_str ⟨.str x,H,I.tok _,⟨_,rfl⟩,h⟩
def Gl (X:Cx)(x:Str):Prop:=X.env.kindOf x=some .globalImplicit
theorem wC {u:Value}(I:eQ X pins σ H s)(a:Gl X x)(b:X.mg x=some u)(h:Q u s)(hd:(x == ("__debug__" : Str))=false:=by decide):wpAny (model X.prog X.w) X.A (eval (.Name x pos) X.env) Q E s:=
 Calls.Name_function_global I.ok.kind a (Calls.loadGlobal_global (by rw[I.ok.glob];exact I.mod.glob.keeps I.bk) b h) hd
theorem jl {u:Value}(I:eQ X pins σ H s)(d:Gl X x)(a:X.mg x=none)(b:bootBuiltins x=some u)(h:Q u s)(hn:x≠"__name__":=by decide)(hd:(x == ("__debug__" : Str))=false:=by decide):wpAny (model X.prog X.w) X.A (eval (.Name x pos) X.env) Q E s:=by
 obtain⟨e,h1,h2⟩:=I.mod.blt;exact Calls.Name_function_global I.ok.kind d (Calls.loadGlobal_builtin (by rw[I.ok.glob];exact I.mod.glob.keeps I.bk) a (by rw[I.ok.blt];exact h1.keeps I.bk) ((h2 x hn).trans b) h) hd
theorem Cs {u:Value}(a:Gl X x)(b:X.mg x=none)(d:bootBuiltins x=some u)(r:eY v u)(hn:x≠"__name__":=by decide)(hd:(x == ("__debug__" : Str))=false:=by decide):PE X (.Name x pos) (tC v):=
 fun _ _ _ H _ I h=>jl I a b d ⟨v,H,I,r,h⟩ hn hd
variable {a b:Expr}{tb:TE}
def PC (X:Cx)(op:CmpOp)(a b:Expr)(t:TE):Prop:=
 ∀(pins:List (Addr×Obj)) (s:Shared) (σ:St) (H:Hp) (Q:VK),eQ X pins σ H s→t σ H Q→
  wpAny (model X.prog X.w) X.A (eval a X.env) (fun v s₁=>wpAny (model X.prog X.w) X.A (eval b X.env) (fun u s₂=>wpAny (model X.prog X.w) X.A (compareOp op v u) (EP X pins σ Q) X.xe s₂) X.xe s₁) X.xe s
theorem Ar (b:Expr)(h:op≠.In)(h2:op≠.NotIn):behindInMarks op b=false:=by
 have d:(op == CmpOp.In)=false:=by cases op <;> first | rfl | exact absurd rfl h
 have a:(op == CmpOp.NotIn)=false:=by cases op <;> first | rfl | exact absurd rfl h2
 cases b <;> simp[behindInMarks,d,a]
def HM (ta:TE):TE:=fun σ H Q=>ta σ H fun x H1=>Q (.bl (decide (x=.non))) H1
def Fz (ta:TE):TE:=fun σ H Q=>ta σ H fun x H1=>Q (.bl (!decide (x=.non))) H1
theorem eY.JP {x:V}{v:Value}(r:eY x v):(v == Value.none)=decide (x=.non):=by
 cases x with
 |non=>cases r;rfl
 |bl _=>cases r;rfl
 |int _=>obtain⟨t,rfl⟩:=r;rfl
 |str _=>obtain⟨t,rfl⟩:=r;rfl
 |byt _=>obtain⟨t,rfl⟩:=r;rfl
 |flt _=>obtain⟨t,rfl⟩:=r;rfl
 |ref _=>cases r;rfl
 |ty _=>cases r;rfl
theorem u9 {j pos'}(b:PE X a ta):PC X .Is a (.Constant .none j pos') (HM ta):=by
 intro pins s σ H Q I h;refine fW (b pins s σ H _ I h) ?_;rintro v i ⟨x,H1,g,d,e⟩;exact Constant_none (is_none_gen ⟨.bl _,H1,g,by rw[d.JP];rfl,e⟩)
theorem oz {j pos'}(b:PE X a ta):PC X .IsNot a (.Constant .none j pos') (Fz ta):=by
 intro pins s σ H Q I h;refine fW (b pins s σ H _ I h) ?_;rintro v i ⟨x,H1,g,d,e⟩;exact Constant_none (isnot_none_gen ⟨.bl _,H1,g,by rw[d.JP];rfl,e⟩)
inductive Jb (Q:Bool→Hp→Prop)(x:V)(H1:Hp):Prop
 |mk (c:_)(_:x=.bl c)(_:Q c H1):Jb Q x H1
def tB (t:TE):TT:=fun σ H Q=>t σ H fun x H1=>Jb Q x H1
theorem iL {t:TE}(h:PC X op a b t)(h1:behindInMarks op b=false:=by first | exact Ar _ (by decide) (by decide) | rfl):PT X (.Compare a [op] [b] pos) (tB t):=by
 intro pins s σ H Q I e;refine wpAny_isTrue_Compare1 (fW (h pins s σ H _ I e) fun v l h1=>fW h1 fun u o h2=>fW h2 ?_) h1;rintro c m ⟨x,H1,i,g,j⟩;obtain⟨d,rfl,q⟩:=j;cases g;exact bU ⟨H1,i,q⟩
theorem gQ {t:TE}(h:PE X e t)(he:∀whole,isTrue e X.env whole=(do let v ←whole;standAt e.pos;holding [v] (truthy v)):=by intro _;rfl):PT X e (tB t):=by
 intro pins s σ H Q I a;refine isTrue_plain (fW (h pins s σ H _ I a) ?_) (he _);rintro v j ⟨x,H1,g,b,i⟩;obtain⟨d,rfl,q⟩:=i;cases b;exact bU ⟨H1,g,q⟩
variable {tA tB':TT}{rest:List Expr}
def HV (t u:TT):TT:=fun σ H Q=>t σ H fun c H1=>if c=true then u σ H1 Q else Q false H1
def Ji (t u:TT):TT:=fun σ H Q=>t σ H fun c H1=>if c=true then Q true H1 else u σ H1 Q
def FA (t:TT):TT:=fun σ H Q=>t σ H fun c H1=>Q (!c) H1
theorem jy (b:PT X a tA):PW X (.BoolOp .And [a] pos) tA:=by
 intro d pins s σ H Q I h;refine isTrue_and (fW (b pins s σ H Q I h) fun c g e=>?_);cases c with
 |true=>exact isTrue_and_nil e
 |false=>exact e
theorem jO (b:PT X a tA):PW X (.BoolOp .Or [a] pos) tA:=by
 intro d pins s σ H Q I h;refine isTrue_or (fW (b pins s σ H Q I h) fun c g e=>?_);cases c with
 |false=>exact isTrue_or_nil e
 |true=>exact e
theorem kM (g:PT X a tA)(l:PW X (.BoolOp .And (b::rest) pos) tB'):PW X (.BoolOp .And (a::b::rest) pos) (HV tA tB'):=by
 intro i pins s σ H Q I h;refine isTrue_and (fW (g pins s σ H _ I h) ?_);rintro c j ⟨H1,e,d⟩;cases c with
 |true=>exact l i pins j σ H1 Q e d
 |false=>exact⟨H1,e,d⟩
theorem kr (g:PT X a tA)(l:PW X (.BoolOp .Or (b::rest) pos) tB'):PW X (.BoolOp .Or (a::b::rest) pos) (Ji tA tB'):=by
 intro i pins s σ H Q I h;refine isTrue_or (fW (g pins s σ H _ I h) ?_);rintro c j ⟨H1,e,d⟩;cases c with
 |true=>exact⟨H1,e,d⟩
 |false=>exact l i pins j σ H1 Q e d
theorem gO (b:PT X a tA):PT X (.UnaryOp .Not a pos) (FA tA):=by
 intro pins s σ H Q I h;exact isTrue_not (b pins s σ H (fun c H1=>Q (!c) H1) I h)
inductive BH (tb:TE)(σ:St)(Q:VK)(x:V)(H1:Hp):Prop
 |mk (c:_)(_:x=.bl c)(_:if c=true then tb σ H1 Q else Q (.bl false) H1):BH tb σ Q x H1
def FM (ta tb:TE):TE:=fun σ H Q=>ta σ H fun x H1=>BH tb σ Q x H1
inductive BD (Q:VK)(x:V)(H1:Hp):Prop
 |mk (c:_)(_:x=.bl c)(_:Q (.bl (!c)) H1):BD Q x H1
def Fy (ta:TE):TE:=fun σ H Q=>ta σ H fun x H1=>BD Q x H1
theorem nA {op}{t:TE}(h:PE X a t):PE X (.BoolOp op [a] pos) t:=fun pins s σ H Q I hw=>BoolOp_one (h pins s σ H Q I hw)
theorem lW (g:PE X a ta)(l:PE X (.BoolOp .And (b::rest) pos) tb):PE X (.BoolOp .And (a::b::rest) pos) (FM ta tb):=by
 intro pins s σ H Q I h;refine BoolOp_and (fW (g pins s σ H _ I h) ?_);rintro v j ⟨x,H1,e,i,d⟩;obtain⟨c,rfl,d⟩:=d;cases i;refine bU ?_;cases c with
 |true=>exact l pins j σ H1 Q e d
 |false=>exact⟨.bl false,H1,e,rfl,d⟩
theorem u8 (d:PE X a ta):PE X (.UnaryOp .Not a pos) (Fy ta):=by
 intro pins s σ H Q I h;refine UnaryOp_ (fW (d pins s σ H _ I h) ?_);rintro v i ⟨x,H1,g,e,b⟩;obtain⟨c,rfl,b⟩:=b;cases e;exact not_of (bU ⟨.bl (!c),H1,g,rfl,b⟩)
def IS (t:TT)(ta tb:TE):TE:=fun σ H Q=>t σ H fun c H1=>if c=true then ta σ H1 Q else tb σ H1 Q
theorem zO {c:Expr}(m:PT X c tA)(j:PE X a ta)(l:PE X b tb):PE X (.IfExp c a b pos) (IS tA ta tb):=by
 intro pins s σ H Q I h;refine wpAny_IfExp (fW (m pins s σ H _ I h) ?_);rintro d g ⟨H1,i,e⟩;cases d with
 |true=>exact j pins g σ H1 Q i e
 |false=>exact l pins g σ H1 Q i e
end
def fb (K:W.Frag)(H:Hp)(a:Addr)(xs:List V):Prop:=
 Rd H a (.lst xs)∨
  ∃(o:Obj) (its:Array Value) (n:Nat),K.lookup a=some o∧o.cls=.type "list"∧o.dict=none∧o.data=.seq its n∧its.size≤sizeLine∧fL xs its.toList
def gH (K:W.Frag)(H:Hp)(a:Addr)(xs:List V):Prop:=
 Rd H a (.tup xs)∨
  ∃(o:Obj) (its:Array Value) (n:Nat),K.lookup a=some o∧o.cls=.type "tuple"∧o.data=.seq its n∧its.size≤sizeLine∧fL xs its.toList
def IF:Value→Option V
 |.none=>some .non
 |.bool b=>some (.bl b)
 |.int i _=>some (.int i)
 |.str x _=>some (.str x)
 |.bytes b _=>some (.byt b)
 |.float b _=>some (.flt b)
 |.ref a=>some (.ref a)
 |.type n=>some (.ty n)
 |_=>none
theorem eY.abs {x:V}{u:Value}(r:eY x u):IF u=some x:=by
 cases x with
 |non=>cases r;rfl
 |bl _=>cases r;rfl
 |int _=>obtain⟨t,rfl⟩:=r;rfl
 |str _=>obtain⟨t,rfl⟩:=r;rfl
 |byt _=>obtain⟨t,rfl⟩:=r;rfl
 |flt _=>obtain⟨t,rfl⟩:=r;rfl
 |ref _=>cases r;rfl
 |ty _=>cases r;rfl
theorem eY.inj {x:V}{u:Value}(r:eY x u)(q:eY y u):x=y:=Option.some.inj (r.abs.symm.trans q.abs)
theorem fL.inj:∀{xs ys:List V} {us:List Value},fL xs us→fL ys us→xs=ys
 |_,_,_,.nil,.nil=>rfl
 |_,_,_,.cons r t,.cons r' t'=>by rw[r.inj r',fL.inj t t']
section
variable {ys:List V}
theorem fb.of (h:H a=some (.lst xs)):fb K H a xs:=.inl (.inl h)
theorem gH.of (h:H a=some (.tup xs)):gH K H a xs:=.inl (.inl h)
theorem eQ.list (I:eQ X pins σ H s)(h:fb X.K H a xs):∃its:List Value,fL xs its∧PlainL s.heap a its.toArray∧xs.length≤sizeLine:=by
 rcases h with h | ⟨o,its,n,d,i,b,g,j,r⟩
 ·obtain⟨z,its,n,r,e⟩:=h.ok I.hok;exact⟨its,r,⟨_,n,e,rfl,rfl,rfl⟩,z⟩
 ·refine⟨its.toList,r,⟨o,n,I.kIn a o d,i,b,by simpa using g⟩,?_⟩;have e:=r.length;simp only[bn]at e
  lia
theorem eQ.tuple (I:eQ X pins σ H s)(h:gH X.K H a xs):∃its:List Value,fL xs its∧IsTup s.heap a its.toArray∧xs.length≤sizeLine:=by
 rcases h with h | ⟨o,its,n,b,g,d,i,r⟩
 ·obtain⟨z,its,r,p⟩:=h.ok I.hok;exact⟨its,r,p,z⟩
 ·refine⟨its.toList,r,⟨o,I.kIn a o b,g,n,by simpa using d⟩,?_⟩;have e:=r.length;simp only[bn]at e
  lia
theorem eQ.JQ (I:eQ X pins σ H s)(h:fb X.K H a xs)(h':fb X.K H a ys):xs=ys:=by
 obtain⟨g,r,⟨o,n,e,_,_,d⟩,_⟩:=I.list h;obtain⟨b,l,⟨o',p,j,_,_,i⟩,_⟩:=I.list h';rw[e]at j;cases j;rw[d]at i;injection i with m _
 have:g=b:=by simpa using congrArg Array.toList m
 subst this;exact r.inj l
end
abbrev Cx.JR (X:Cx)(E:Value→Shared→Prop):Cx:={X with xe:=E}
abbrev Cx.nox (X:Cx):Cx:=X.JR fun _ _=>False
theorem Cx.Ok.JR (ok:X.Ok)(E:Value→Shared→Prop):(X.JR E).Ok:=
 ⟨ok.mod,ok.kind,ok.glob,ok.blt,ok.above,ok.inj,ok.has,ok.cab,ok.hd,ok.frames,ok.stk,ok.exf,ok.bs,ok.bsz,ok.noex,ok.exfs,ok.funs,ok.frf⟩
theorem Cx.Ok.JS (ok:(X.JR E).Ok):X.Ok:=
 ⟨ok.mod,ok.kind,ok.glob,ok.blt,ok.above,ok.inj,ok.has,ok.cab,ok.hd,ok.frames,ok.stk,ok.exf,ok.bs,ok.bsz,ok.noex,ok.exfs,ok.funs,ok.frf⟩
theorem eQ.JR (I:eQ X pins σ H s)(E:Value→Shared→Prop):eQ (X.JR E) pins σ H s:=⟨I.ok.JR E,I.os,I.bare,I.base,I.loc,I.cell,I.free,I.freeC,I.pin,I.hok,I.len⟩
theorem eQ.JS (I:eQ (X.JR E) pins σ H s):eQ X pins σ H s:=⟨I.ok.JS,I.os,I.bare,I.base,I.loc,I.cell,I.free,I.freeC,I.pin,I.hok,I.len⟩
theorem SP.JS {f:Flow}(h:SP (X.JR E) pins D f s'):SP X pins D f s':=by
 cases f with
 |next=>obtain⟨σ',H',I,q⟩:=h;exact⟨σ',H',I.JS,q⟩
 |brk=>obtain⟨σ',H',I,q⟩:=h;exact⟨σ',H',I.JS,q⟩
 |cont=>obtain⟨σ',H',I,q⟩:=h;exact⟨σ',H',I.JS,q⟩
 |ret u=>obtain⟨v,σ',H',I,r,q⟩:=h;exact⟨v,σ',H',I.JS,r,q⟩
theorem mj.nox {st:List Stmt}{t:TS}(h:mj X.nox st t):mj X st t:=fun pins s σ H D I hw=>
 ca (h pins s σ H D (I.JR _) hw) (fun _ _ q=>q.JS) fun _ _ z=>False.elim z
section
variable {st:Stmt}{rest:List Stmt}{t u:TS}
def FC:TS:=fun D σ H=>D.nx σ H
def HJ (t u:TS):TS:=fun D σ H=>t {D with nx:=u D} σ H
theorem eU:mj X [] FC:=fun _ _ σ H _ I h=>wpAny_execs_nil ⟨σ,H,I,h⟩
theorem ee (h1:PS X st t)(h2:mj X rest u):mj X (st::rest) (HJ t u):=by
 intro pins s σ H D I h;refine wpAny_execs_cons (fW (h1 pins s σ H {D with nx:=u D} I h) fun f b q=>?_);cases f with
 |next=>
  obtain⟨σ',H',a,q⟩:=q;exact h2 pins b σ' H' D a q
 |ret v=>exact q
 |brk=>exact q
 |cont=>exact q
theorem eA (h1:PS X st t):mj X [st] t:=by
 intro pins s σ H D I h;refine wpAny_execs_cons (fW (h1 pins s σ H D I h) fun f a q=>?_);cases f with
 |next=>exact wpAny_execs_nil q
 |ret v=>exact q
 |brk=>exact q
 |cont=>exact q
def FJ:TS:=fun D σ H=>D.ct σ H
theorem tM:PS X (.Continue pos) FJ:=fun _ _ σ H _ I h=>wpAny_Continue ⟨σ,H,I,h⟩
theorem eQ.quiet (I:eQ X pins σ H s):interactive X.env=false:=by simp[interactive,I.ok.kind]
def FE (te:TE):TS:=fun D σ H=>te σ H fun _ H1=>D.nx σ H1
theorem gq (a:PE X e te)(hs:swapsWith e none pos.line X.env=pure false:=by rfl):PS X (.Expr e pos) (FE te):=by
 intro pins s σ H D I h;exact wpAny_Expr_any (fW (a pins s σ H _ I h) (by rintro v i ⟨x,H1,d,g,b⟩;exact⟨σ,H1,d,b⟩)) I.quiet hs
def HK (te:TE):TS:=fun D σ H=>te σ H D.rt
theorem eP (a:PE X e te):PS X (.Return (some e) pos) (HK te):=by
 intro pins s σ H D I h;exact wpAny_Return_some (fW (a pins s σ H _ I h) (by rintro v i ⟨x,H1,g,b,d⟩;exact⟨x,σ,H1,g,b,d⟩))
def HP (c:TT)(t u:TS):TS:=fun D σ H=>c σ H fun b H1=>if b=true then t D σ H1 else u D σ H1
theorem fF {c:Expr}{a b:List Stmt}{tc:TT}(m:PT X c tc)(j:mj X a t)(l:mj X b u):PS X (.If c a b pos) (HP tc t u):=by
 intro pins s σ H D I h;refine wpAny_If (fW (m pins s σ H _ I h) ?_);rintro d g ⟨H1,i,e⟩;cases d with
 |true=>exact j pins g σ H1 D i e
 |false=>exact l pins g σ H1 D i e
def D7:TS:=fun _ _ _=>False
theorem gR {sts:List Stmt}:mj X sts D7:=fun _ _ _ _ _ _ h=>h.elim
end
abbrev TG:=V→St→Hp→(St→Hp→Prop)→Prop
abbrev xn:=List V→St→Hp→(St→Hp→Prop)→Prop
def PG (X:Cx)(target:Expr)(t:TG):Prop:=
 ∀(pins:List (Addr×Obj)) (s:Shared) (σ:St) (H:Hp) (v:V) (u:Value) (Q:St→Hp→Prop),eQ X pins σ H s→eY v u→t v σ H Q→
  wpAny (model X.prog X.w) X.A (assign target X.env u) (fun _ s'=>∃σ' H',eQ X pins σ' H' s'∧Q σ' H') X.xe s
def HB (X:Cx)(ts:List Expr)(t:xn):Prop:=
 ∀(pins:List (Addr×Obj)) (s:Shared) (σ:St) (H:Hp) (vs:List V) (us:List Value) (Q:St→Hp→Prop),eQ X pins σ H s→fL vs us→t vs σ H Q→
  wpAny (model X.prog X.w) X.A (assignInOrder ((assignEach ts X.env).map (·.2)) us) (fun _ s'=>∃σ' H',eQ X pins σ' H' s'∧Q σ' H') X.xe s
abbrev GQ:=V→V→Hp→VK→Prop
def GU (X:Cx)(op:Operator)(t:GQ):Prop:=
 ∀(pins:List (Addr×Obj)) (s:Shared) (σ:St) (H:Hp) (x y:V) (v u:Value) (Q:VK),eQ X pins σ H s→eY x v→eY y u→t x y H Q→
  wpAny (model X.prog X.w) X.A (inplaceOp op v u) (EP X pins σ Q) X.xe s
def i8 (i:Nat):TG:=fun v σ H Q=>Q (σ.set i (some v)) H
theorem eM (b:X.N.Nodup)(hi:X.N[i]?=some x)(d:GZ X.env.scope x)(hf:X.fn x=true∨X.env.scope.names.lookup x=some .local:=by first | exact .inl rfl | exact .inr rfl | assumption):PG X (.Name x pos) (i8 i):=by
 intro pins s σ H v u Q I r h;exact wpAny_assign_Name (oT I b hi d r (fun s' a=>⟨_,H,a,h⟩) hf)
def E5:xn:=fun vs σ H Q=>vs=[]∧Q σ H
inductive BO (t:TG)(u:xn)(vs:List V)(σ:St)(H:Hp)(Q:St→Hp→Prop):Prop
 |mk (v r:_)(_:vs=v::r)(_:t v σ H fun σ' H'=>u r σ' H' Q):BO t u vs σ H Q
def AN (t:TG)(u:xn):xn:=fun vs σ H Q=>BO t u vs σ H Q
theorem lu:HB X [] E5:=by
 intro pins s σ H vs us Q I r h;obtain⟨e,h⟩:=h;subst e;cases r;exact assignInOrder_nil ⟨σ,H,I,h⟩
theorem gy {t:TG}{u:xn}(h1:PG X e t)(h2:HB X es u)(hs:(assignEach (e::es) X.env).map (·.2)=assign e X.env::(assignEach es X.env).map (·.2):=by rfl):HB X (e::es) (AN t u):=by
 intro pins s σ H vs us Q I r h;obtain⟨v,i,d,h⟩:=h;subst d;cases r with
 |cons r rr=>
  rw[hs];refine assignInOrder_cons (fW (h1 pins s σ H _ _ _ I r h) ?_);rintro _ a ⟨σ1,H1,b,g⟩;exact h2 pins a σ1 H1 _ _ Q b rr g
inductive D0 (K:W.Frag)(n:Nat)(t:xn)(v:V)(σ:St)(H:Hp)(Q:St→Hp→Prop):Prop
 |mk (a xs:_)(_:v=.ref a)(_:gH K H a xs)(_:xs.length=n)(_:t xs σ H Q):D0 K n t v σ H Q
def GF (K:W.Frag)(n:Nat)(t:xn):TG:=fun v σ H Q=>D0 K n t v σ H Q
theorem nz {k:Nat}{t:xn}{n:Nat}(x:X.calm=true)(h:HB X es t)(hn:(assignEach es X.env).length=n:=by rfl)(hst:(assignEach es X.env).findIdx? (·.1)=none:=by rfl):PG X (.Tuple es k pos) (GF X.K n t):=by
 intro pins s σ H v u Q I r d;obtain⟨a,xs,q,p,i,d⟩:=d;subst q;cases r;obtain⟨w,g,j,y⟩:=I.tuple p;refine assign_Tuple_tuple (I.ok.hd x) j (by simp[hn,←i,g.length]) hst fun h' m=>?_;have l:eQ X pins σ H {s with heap:=h'}:=I.kept (t':=s.toks) fun b o e=>m b o (aT (aM e)) e;exact h pins _ σ H xs _ Q l (by simpa using g) d
def FL (te:TE)(g:TG):TS:=fun D σ H=>te σ H fun x H1=>g x σ H1 D.nx
theorem zH (j:PE X e te)(i:PG X tg g)(hs:swapsWithSole [tg] e pos.line X.env=pure false:=by rfl)(hw:swappedStores [tg] e X.env=pure none:=by rfl)(h1:(assignEach [tg] X.env).map (·.2)=[assign tg X.env]:=by rfl):PS X (.Assign [tg] e pos) (FL te g):=by
 intro pins s σ H D I h;refine wpAny_Assign_stores (fW (j pins s σ H _ I h) ?_) hs hw;rintro v b ⟨x,H1,d,a,l⟩;rw[h1];exact fW (i pins b σ H1 x v _ d a l) fun _ m q=>q
theorem eK (g:X.N.Nodup)(hi:X.N[i]?=some x)(d:GZ X.env.scope x)(j:PE X e te)(hs:swapsWith e (some (.Name x pos')) pos.line X.env=pure false:=by rfl)(hf:X.fn x=true∨X.env.scope.names.lookup x=some .local:=by first | exact .inl rfl | exact .inr rfl | assumption):PS X (.Assign [.Name x pos'] e pos) (FL te (i8 i)):=by
 intro pins s σ H D I h;refine wpAny_Assign_Name (fW (j pins s σ H _ I h) ?_) hs;rintro v o ⟨y,H1,b,a,l⟩;exact oT b g hi d a (fun p m=>⟨_,H1,m,l⟩) hf
inductive DN (i:Nat)(te:TE)(ti:GQ)(D:mS)(σ:St)(H:Hp):Prop
 |mk (x:_)(_:σ[i]?=some (some x))(_:te σ H fun y H1=>ti x y H1 fun z H2=>D.nx (σ.set i (some z)) H2):DN i te ti D σ H
def HU (i:Nat)(te:TE)(ti:GQ):TS:=fun D σ H=>DN i te ti D σ H
theorem j7 {op:Operator}{ti:GQ}(M:X.N.Nodup)(hi:X.N[i]?=some x)(b:GZ X.env.scope x)(L:PE X e te)(B:GU X op ti)(hf:X.fn x=true∨X.env.scope.names.lookup x=some .local:=by first | exact .inl rfl | exact .inr rfl | assumption):PS X (.AugAssign (.Name x pos') op e pos) (HU i te ti):=by
 intro pins s σ H D I h;obtain⟨v,K,h⟩:=h;obtain⟨m,F,C⟩:=I.loc;have d:DF X.env.scope x:=by rcases b with k | k;exact .inl k;exact .inr (.inl k)
 obtain⟨u,r,l⟩:=C i x v hi K d;refine wpAny_AugAssign_Name ?_;have g:wpAny (model X.prog X.w) X.A (eval e X.env) (fun w s₂=>wpAny (model X.prog X.w) X.A (inplaceOp op u w) (fun r s₃=>wpAny (model X.prog X.w) X.A (storeName X.env x r) (fun _=>SP X pins D .next) X.xe s₃) X.xe s₂) X.xe s:=by
  refine fW (L pins s σ H _ I h) ?_;rintro w E ⟨y,H1,o,j,q⟩;refine fW (B pins E σ H1 v y u w _ o r j q) ?_;rintro z Q ⟨R,H2,t,G,P⟩;exact oT t M hi b G (fun S p=>⟨_,H2,p,P⟩) hf
 rcases l with ⟨hk,J⟩ | ⟨hk,c,O,a⟩
 ·exact wpAny_loadName_local I.ok.kind hk F J g
 ·rcases hk with hk | hk
  ·exact wpAny_loadName_cell I.ok.kind hk O a g
  ·rcases b with k | k
   ·have:X.env.scope.names.lookup x=some .free:=hk;rw[k]at this;cases this
   ·have:X.env.scope.names.lookup x=some .free:=hk;rw[k]at this;cases this
inductive Hk (f:Int→Int→Int)(x:V)(y:V)(H:Hp)(Q:VK):Prop
 |mk (i j:_)(_:x=.int i)(_:y=.int j)(_:Q (.int (f i j)) H):Hk f x y H Q
def IX (f:Int→Int→Int):GQ:=fun x y H Q=>Hk f x y H Q
theorem AG:GU X .Add (IX fun i j=>i+j):=by
 intro pins s σ H x y v u Q I a b h;obtain⟨i,j,d,e,q⟩:=h;subst d;subst e;obtain⟨t,rfl⟩:=a;obtain⟨t',rfl⟩:=b;exact iadd_int ⟨.int _,H,I.tok _,⟨_,rfl⟩,q⟩
theorem EZ:GU X .Sub (IX fun i j=>i-j):=by
 intro pins s σ H x y v u Q I a b h;obtain⟨i,j,d,e,q⟩:=h;subst d;subst e;obtain⟨t,rfl⟩:=a;obtain⟨t',rfl⟩:=b;exact isub_int ⟨.int _,H,I.tok _,⟨_,rfl⟩,q⟩
def D5 (c:TT)(tb:TS):TS:=fun D σ H=>∃W:Nat→St→Hp→Prop,(∃m,W m σ H)∧∀m σ H,W m σ H→
 c σ H fun b H1=>if b=true then ∃N:St→Hp→Prop,(∀σ' H',N σ' H'→∃m',m'<m∧W m' σ' H')∧tb {D with nx:=N,ct:=N,bk:=D.nx} σ H1 else D.nx σ H1
theorem kO {c:Expr}{tc:TT}(hp:PassesOwn (model X.prog X.w) X.A X.env X.xe)(y:PT X c tc)(r:mj X body tb):PS X (.While c body [] pos) (D5 tc tb):=by
 intro pins s σ H D I h;obtain⟨W,⟨z,B⟩,d⟩:=h;refine wpAny_While (codeAny_whileLoop (fun n s'=>∃σ' H',eQ X pins σ' H' s'∧W n σ' H') ?_ z ⟨σ,H,I,B⟩);rintro n C ⟨σ1,H1,t,q⟩;refine cN hp (fW (y pins C σ1 H1 _ t (d n σ1 H1 q)) ?_);rintro b x ⟨H2,o,g⟩;cases b with
 |true=>
  obtain⟨N,p,g⟩:=g;rw[if_pos rfl];refine cN hp (fW (r pins x σ1 H2 _ o g) fun f E e=>?_);cases f with
  |next=>
   obtain⟨σ3,a,l,j⟩:=e;obtain⟨m',m,i⟩:=p σ3 a j;exact⟨m',m,σ3,a,l,i⟩
  |cont=>
   obtain⟨σ3,a,l,j⟩:=e;obtain⟨m',m,i⟩:=p σ3 a j;exact⟨m',m,σ3,a,l,i⟩
  |brk=>exact e
  |ret v=>exact e
 |false=>
  rw[if_neg aN];exact wpAny_execs_nil ⟨σ1,H2,o,g⟩
structure It where
 go:Nat→Hp→Prop
 yld:Nat→Hp→V→Hp→Prop
 stop:Nat→Hp→Prop
def jw (X:Cx)(pins:List (Addr×Obj))(H:Hp)(b:Addr):Prop:=
 H b=none∧b≠X.env.locals∧b∉X.fs∧(b∈X.ex∨X.s₀.heap.get? b=none)∧(∀x c,X.env.cells.lookup x=some c→c≠b)∧∀p∈X.pn++pins,p.1≠b
theorem eQ.JT (I:eQ X pins σ H s)(a:s.heap.objs.size≤b)(d:H' b=none):jw X pins H' b:=by
 refine⟨d,Nat.ne_of_gt (aZ I.lt a),I.JK a,.inr (bg (br I.sz a)),fun x c e z=>?_,fun p hp z=>?_⟩
 ·obtain⟨v,q⟩:=I.cell x c e;exact absurd (aZ q.lt (by rw[z];exact a)) (cG _)
 ·exact absurd (aZ (aM (I.pin p hp).1) (by rw[z];exact a)) (cG _)
structure sX (P:Program)(w:World)(K:W.Frag)(tg:Expr)(J:It)(fp:List Addr)(it:Addr)(tn:Nat→Heap→Prop):Prop where
 mem:it∈fp
 obj:∀i h,tn i h→∀b∈fp,∃o,h.get? b=some o∧∀v,o.data≠.cell v
 keep:∀i h h',tn i h→(∀b∈fp,∀o,h.get? b=some o→h'.get? b=some o)→tn i h'
 item:∀(X:Cx),X.prog=P→X.w=w→X.K=K→X.calm=true→∀(i:Nat) (pins:List (Addr×Obj)) (s:Shared) (σ:St) (H:Hp) (E:Value→Shared→Prop),eQ X pins σ H s→(∀b∈fp,jw X pins H b)→tn i s.heap→J.go i H→
  wpAny (model P w) X.A (pyNext (.ref it)) (fun r s1=>∃u,r=some u∧wpAny (model P w) X.A (letOwnedTupleGo tg (.ref it) u) (fun _ s2=>∃x H',eQ X pins σ H' s2∧eY x u∧J.yld i H x H'∧tn (i+1) s2.heap∧∀b∈fp,H' b=none) E s1) E s
 done:∀(X:Cx),X.prog=P→X.w=w→X.K=K→X.calm=true→∀(i:Nat) (pins:List (Addr×Obj)) (s:Shared) (σ:St) (H:Hp) (E:Value→Shared→Prop),eQ X pins σ H s→(∀b∈fp,jw X pins H b)→tn i s.heap→J.stop i H→
  wpAny (model P w) X.A (pyNext (.ref it)) (fun r s1=>r=none∧eQ X pins σ H s1) E s
 self:∀(A:Around) (i:Nat) (s:Shared) (Q:Value→Shared→Prop) (E:Value→Shared→Prop),tn i s.heap→Q (.ref it) s→wpAny (model P w) A (pyIter (.ref it)) Q E s
abbrev TI:=St→Hp→(It→Hp→Prop)→Prop
def HA (X:Cx)(pins:List (Addr×Obj))(σ:St)(tg:Expr)(R:It→Hp→Prop)(itv:Value)(s2:Shared):Prop:=
 ∃(it:Addr) (fp:List Addr) (tn:Nat→Heap→Prop) (J:It) (H':Hp),itv=.ref it∧eQ X pins σ H' s2∧sX X.prog X.w X.K tg J fp it tn∧tn 0 s2.heap∧(∀b∈fp,jw X pins H' b)∧R J H'
def PI (X:Cx)(tg iter:Expr)(wi:TI):Prop:=
 ∀(pins:List (Addr×Obj)) (s:Shared) (σ:St) (H:Hp) (R:It→Hp→Prop),eQ X pins σ H s→wi σ H R→
  wpAny (model X.prog X.w) X.A (eval iter X.env) (fun v s1=>wpAny (model X.prog X.w) X.A (pyIter v) (HA X pins σ tg R) X.xe s1) X.xe s
theorem ua {it:Addr}{u:Value}{o:Obj}{n:String}{vs:Array Value}{Q:Unit→Shared→Prop}(d:s.heap.get? it=some o)(e:o.cls=.type n)(b:o.data=.fields vs)(g:["enumerate","zip","dict_itemiterator","dict_reverseitemiterator","odict_iterator","itertools.zip_longest","itertools.pairwise"].contains n=false)(a:Q () s):wpAny M A (letOwnedTupleGo tg (.ref it) u) Q E s:=by
 unfold letOwnedTupleGo;cases tg <;> first
  |exact ap a
  |(cases u <;> first
    |exact ap a
    |(refine ac (wpAny_load d ?_)
      rw[e,b];show wpAny M A (if (["enumerate","zip","dict_itemiterator","dict_reverseitemiterator","odict_iterator","itertools.zip_longest","itertools.pairwise"].contains n&&vs[0]? == some (rawInt _))=true then _ else _) Q E s;rw[if_neg (by intro h;rw[g,bY]at h;cases h)]
      exact ap a))
def Fi (K:W.Frag)(a:Addr):It:=
 ⟨fun i H=>∃xs x,fb K H a xs∧xs[i]?=some x,fun i H x H'=>H'=H∧∀xs,fb K H a xs→xs[i]?=some x,fun i H=>∃xs,fb K H a xs∧xs.length≤i⟩
def Fh (lo:Int)(n:Nat):It:=⟨fun i _=>i<n,fun i H x H'=>H'=H∧x=.int (lo+i),fun i _=>n≤i⟩
theorem xC (a it:Addr):sX P w K tg (Fi K a) [it] it (fun i h=>h.IsListIter it a i) where
 mem:=by simp
 obj:=fun i h st b g=>by
  have e:b=it:=by simpa using g
  subst e;obtain⟨o,e,c,d⟩:=st;exact⟨o,e,fun v z=>by rw[d]at z;cases z⟩
 keep:=fun i h h' st k=>st.at fun o e=>k it (by simp) o e
 item:=by
  intro X J C A M i pins s σ H E I m st q;subst J C A;obtain⟨xs,x,l,F⟩:=q;obtain⟨y,B,p,Q⟩:=I.list l;obtain⟨u,S,U⟩:=B.get F;obtain⟨r,t,T,L,G,D⟩:=m it (by simp);refine wpAny_pyNext_list_item st p.isList (x:=u) (by simpa using S) fun h' j Y=>?_;have N:eQ X pins σ H {s with heap:=h'}:=I.turned (t':=s.toks) (fun b o g e=>(Y.2 b g).trans e) r t L G D;obtain⟨o,e,c,d⟩:=id j;exact⟨u,rfl,ua (s:={s with heap:=h'}) e c d (by decide) ⟨x,H,N,U,⟨rfl,fun ys R=>by rw[I.JQ R l];exact F⟩,j,fun b g=>(m b g).1⟩⟩
 done:=by
  intro X J C A M i pins s σ H E I m st q;subst J C A;obtain⟨xs,l,F⟩:=q;obtain⟨y,B,p,Q⟩:=I.list l;obtain⟨r,t,T,L,G,D⟩:=m it (by simp);have Z:=B.length;exact wpAny_pyNext_list_end (I.ok.hd M) st p.isList (by simp;lia) fun h' O=>⟨rfl,I.turned (t':=s.toks) (fun b o g e=>O b o g e) r t L G D⟩
 self:=fun _ _ _ _ _ st h=>wpAny_pyIter_listiter st h
theorem uN (it:Addr)(lo:Int)(n:Nat):sX P w K tg (Fh lo n) [it] it (fun i h=>IsRangeIter h it (lo+(i:Nat)*1) ((n:Int)-(i:Nat)) 1) where
 mem:=by simp
 obj:=fun i h st b a=>by
  have e:b=it:=by simpa using a
  subst e
  exact⟨_,st,fun v z=>by
   have C:Data.fields _=Data.cell v:=z
   cases C⟩
 keep:=fun i h h' st k=>k it (by simp) _ st
 item:=by
  intro X y q p B i pins s σ H E I g st j;subst y q p;obtain⟨l,m,J,A,x,r⟩:=g it (by simp);have W:=Walks.range (prog:=X.prog) (w:=X.w) (I.ok.hd B) it lo 1 n;refine W.item i s _ _ j st fun v h' tk L d F=>?_;obtain⟨t,rfl⟩:=L;have D:eQ X pins σ H {s with heap:=h',toks:=tk}:=I.turned (fun b o a e=>F b o (by simpa using a) e) l m A x r;refine⟨_,rfl,ua (s:={s with heap:=h',toks:=tk}) (n:="range_iterator") d rfl rfl (by decide) ⟨.int (lo+i),H,D,⟨t,?_⟩,⟨rfl,rfl⟩,d,fun b a=>(g b a).1⟩⟩;rw[Int.mul_one]
 done:=by
  intro X y q p B i pins s σ H E I g st j;subst y q p;obtain⟨l,m,J,A,x,r⟩:=g it (by simp);exact wpAny_pyNext_range_end (I.ok.hd B) st (by have:n≤i:=j;lia) fun h' G=>⟨rfl,I.turned (t':=s.toks) (fun b o a e=>G b o a e) l m A x r⟩
 self:=fun _ _ _ _ _ st h=>wpAny_pyIter_rangeiter st h
inductive BN (K:W.Frag)(R:It→Hp→Prop)(x:V)(H1:Hp):Prop
 |mk (a:_)(_:x=.ref a)(_:(∃xs,fb K H1 a xs))(_:R (Fi K a) H1):BN K R x H1
def GD (K:W.Frag)(tl:TE):TI:=fun σ H R=>tl σ H fun x H1=>BN K R x H1
theorem fD {l:Expr}{tl:TE}(i:PE X l tl):PI X tg l (GD X.K tl):=by
 intro pins s σ H R I h;refine fW (i pins s σ H _ I h) ?_;rintro v d ⟨x,H1,g,j,w⟩;obtain⟨a,e,⟨xs,r⟩,q⟩:=w;subst e;cases j;obtain⟨t,y,p,z⟩:=g.list r;refine wpAny_pyIter_list p.isList ?_;refine⟨d.heap.objs.size,[d.heap.objs.size],_,_,H1,rfl,g.kept (t':=d.toks) fun b o e=>ay _ e,xC a _,⟨_,aJ _ rfl,rfl,rfl⟩,fun b m=>?_,q⟩
 have e:b=d.heap.objs.size:=by simpa using m
 subst e;exact g.JT (ao _) (g.hok.fresh (ao _))
theorem zD {R:It→Hp→Prop}{lo hi:Int}{t u v:Tok}{tk:Nat}(I:eQ X pins σ H s)(h1:-(2^62)≤lo)(h2:lo<2^62)(h:-(2^62)≤hi)(g:hi<2^62)(q:R (Fh lo (hi-lo).toNat) H):wpAny (model X.prog X.w) X.A (pyIter (.ref s.heap.objs.size)) (HA X pins σ tg R) E {s with heap:=s.heap.push {cls:=.type "range",data:=.fields #[.int lo t,.int hi u,.int 1 v]},toks:=tk}:=by
 refine wpAny_pyIter_range (IsRange.new ..) (small_one h1 h2 h g) ?_;have a:eQ X pins σ H {s with heap:=s.heap.push {cls:=.type "range",data:=.fields #[.int lo t,.int hi u,.int 1 v]},toks:=tk}:=I.kept fun b o e=>ay _ e;refine⟨(s.heap.push {cls:=.type "range",data:=.fields #[.int lo t,.int hi u,.int 1 v]}).objs.size,[(s.heap.push {cls:=.type "range",data:=.fields #[.int lo t,.int hi u,.int 1 v]}).objs.size],_,_,H,rfl,a.kept (t':=tk) fun b o e=>ay _ e,uN _ lo (hi-lo).toNat,?_,fun b i=>?_,q⟩
 ·have d:lo+((0:Nat):Int)*1=lo:=by simp
  have j:(((hi-lo).toNat:Nat):Int)-((0:Nat):Int)=Builtin.Range.rangeSize lo hi 1:=by rw[rangeSize_one];split <;> lia
  show IsRangeIter _ _ (lo+((0:Nat):Int)*1) ((((hi-lo).toNat:Nat):Int)-((0:Nat):Int)) 1;rw[d,j];exact aJ _ rfl
 ·have e:b=(s.heap.push {cls:=.type "range",data:=.fields #[.int lo t,.int hi u,.int 1 v]}).objs.size:=by simpa using i
  subst e;exact a.JT (ao _) (a.hok.fresh (ao _))
inductive BL (R:It→Hp→Prop)(vs:List V)(H1:Hp):Prop
 |mk (j:Int)(_:vs=[.int j])(_:-(2^62)≤j)(_:j<2^62)(_:R (Fh 0 j.toNat) H1):BL R vs H1
def GB (ta:TA):TI:=fun σ H R=>ta σ H fun vs H1=>BL R vs H1
theorem jT {a:Expr}{ta:TA}(i:Gl X "range")(l:X.mg "range" = none)(m:PA X [a] ta)(hs:starEach [a] X.env=[(false,eval a X.env)]:=by rfl):PI X tg (.Call (.Name "range" p) [a] [] pos) (GB ta):=by
 intro pins s σ H R I h;refine Call_ (jl I i l boot_range (PyProof.Rows.callWith_type1 (fW (m pos pins s σ H _ I h) ?_) hs rfl));rintro us v ⟨vs,H1,g,d,b⟩;obtain⟨j,e,b,o,q⟩:=b;subst e;cases d with
 |cons r rr=>
  cases rr;obtain⟨t,rfl⟩:=r;exact call_range_1 (zD g (by lia) (by lia) b o (by simpa using q))
def HQ (wi:TI)(g:TG)(tb:TS):TS:=fun D σ H=>wi σ H fun J H1=>∃W:Nat→Nat→St→Hp→Prop,(∃m,W 0 m σ H1)∧∀i m σ H,W i m σ H→
 (J.stop i H∧D.nx σ H)∨(J.go i H∧∃N:St→Hp→Prop,(∀σ' H',N σ' H'→∃m',m'<m∧W (i+1) m' σ' H')∧∀x H',J.yld i H x H'→g x σ H' fun σ2 H2=>tb {D with nx:=N,ct:=N,bk:=D.nx} σ2 H2)
def pL (fp:List Addr)(h:Heap):List (Addr×Obj):=fp.filterMap fun b=>(h.get? b).map fun o=>(b,o)
theorem kg {o:Obj}(hb:b∈fp)(e:h.get? b=some o):(b,o)∈pL fp h:=List.mem_filterMap.mpr ⟨b,hb,by rw[e];rfl⟩
theorem yg {p:Addr×Obj}(hp:p∈pL fp h):p.1∈fp∧h.get? p.1=some p.2:=by
 obtain⟨b,d,e⟩:=List.mem_filterMap.mp hp;cases q:h.get? b with
 |none=>rw[q]at e;cases e
 |some o=>
  rw[q]at e;have a:(b,o)=p:=Option.some.inj e;subst a;exact⟨d,q⟩
theorem eQ.pinned (I:eQ X pins σ H s)(hf:∀b∈fp,jw X pins H b)(ho:∀b∈fp,∃o,s.heap.get? b=some o∧∀v,o.data≠.cell v):eQ X (pins++pL fp s.heap) σ H s:=
 I.JN fun p hp=>(az.mp hp).elim (fun z=>I.pin p (aK _ z)) fun z=>by
  obtain⟨hb,e⟩:=yg z;obtain⟨f0,f1,f2,_⟩:=hf p.1 hb;obtain⟨o,e',d⟩:=ho p.1 hb;rw[e]at e';cases e';exact⟨e,f0,f1,f2,d⟩
theorem eQ.JU {pl:List (Addr×Obj)}(I:eQ X (pins++pl) σ H s):eQ X pins σ H s:=I.JN fun p hp=>I.pin p (aK _ (aO _ hp))
theorem fO {iter:Expr}{wi:TI}(hp:PassesOwn (model X.prog X.w) X.A X.env X.xe)(U:X.calm=true)(hi:PI X tg iter wi)(hg:PG X tg g)(a:mj X body tb)(hs:∀x,foldedSetIterable iter X.env x=pure x:=by intro _;rfl):PS X (.For tg iter body [] pos) (HQ wi g tb):=by
 intro pins s σ H D I h;refine wpAny_For (fW (hi pins s σ H _ I h) fun v s1 h1=>fW h1 fun aa s2 h2=>?_) hs;obtain⟨it,fp,R,J,H2,e,I2,T,F,Q,W,⟨m0,w0⟩,C⟩:=h2;subst e;have l:∀{H':Hp},(∀b∈fp,H' b=none)→∀b∈fp,jw X pins H' b:=fun hn b a=>⟨hn b a,(Q b a).2⟩;refine codeAny_forLoop_any (fun n s'=>∃i σ' H',eQ X pins σ' H' s'∧R i s'.heap∧(∀b∈fp,H' b=none)∧W i n σ' H') ?_ m0 ⟨0,σ,H2,I2,F,fun b a=>(Q b a).1,w0⟩;rintro n S ⟨i,σ3,E,P,FN,z,w3⟩;rcases C i n σ3 E w3 with ⟨stop,qn⟩ | ⟨go,N,hN,step⟩
 ·refine cN hp (fW (T.done X rfl rfl rfl U i pins S σ3 E X.xe P (l z) FN stop) ?_);rintro r s4 ⟨K,I4⟩;subst K;exact wpAny_execs_nil ⟨σ3,E,I4,qn⟩
 ·refine cN hp (fW (T.item X rfl rfl rfl U i pins S σ3 E X.xe P (l z) FN go) ?_);rintro r s4 ⟨u,K,h4⟩;subst K;refine cN hp (fW h4 ?_);rintro _ Y ⟨x,O,I5,r5,y5,y,L⟩;have M:=I5.pinned (l L) (T.obj _ _ y);refine cN hp (fW (hg _ Y σ3 O x u _ M r5 (step x O y5)) ?_);rintro _ s6 ⟨σ6,Z,I6,q6⟩;refine cN hp (fW (a _ s6 σ6 Z _ I6 q6) fun f G t=>?_);have p:∀{σ7:St} {q:Hp},eQ X (pins++pL fp Y.heap) σ7 q G→N σ7 q→∃m,m<n∧∃i σ' H',eQ X pins σ' H' G∧R i G.heap∧(∀b∈fp,H' b=none)∧W i m σ' H':=fun {σ7 q} j B=>by
   obtain⟨m',hm,w7⟩:=hN σ7 q B;refine⟨m',hm,i+1,σ7,q,j.JU,T.keep _ _ _ y fun b a o e=>(j.pin (b,o) (aK _ (aK _ (kg a e)))).1,fun b a=>?_,w7⟩;obtain⟨o,e,d⟩:=T.obj _ _ y b a;exact(j.pin (b,o) (aK _ (aK _ (kg a e)))).2.1
  cases f with
  |next=>obtain⟨σ7,q,j,B⟩:=t;exact p j B
  |cont=>obtain⟨σ7,q,j,B⟩:=t;exact p j B
  |brk=>obtain⟨σ7,q,j,t⟩:=t;exact⟨σ7,q,j.JU,t⟩
  |ret v=>obtain⟨x7,σ7,q,j,r7,t⟩:=t;exact⟨x7,σ7,q,j.JU,r7,t⟩
theorem fU (b:Nat→St→Hp→Prop)(o:b 0 σ H)(h:∀i σ H,i≤xs.length→b i σ H→fb K H a xs)(l:∀i x σ H,xs[i]?=some x→b i σ H→g x σ H fun σ2 H2=>tb {D with nx:=b (i+1),ct:=b (i+1),bk:=D.nx} σ2 H2)(d:∀σ H,b xs.length σ H→D.nx σ H):∃W:Nat→Nat→St→Hp→Prop,(∃m,W 0 m σ H)∧∀i m σ H,W i m σ H→((Fi K a).stop i H∧D.nx σ H)∨((Fi K a).go i H∧∃N:St→Hp→Prop,(∀σ' H',N σ' H'→∃m',m'<m∧W (i+1) m' σ' H')∧∀x H',(Fi K a).yld i H x H'→g x σ H' fun σ2 H2=>tb {D with nx:=N,ct:=N,bk:=D.nx} σ2 H2):=by
 refine⟨fun i m σ H=>m=xs.length-i∧i≤xs.length∧b i σ H,⟨xs.length,by simp,bp _,o⟩,?_⟩;rintro i m σ H ⟨rfl,hi,p⟩;have q:=h i σ H hi p;by_cases hlt:i<xs.length
 ·refine .inr ⟨⟨xs,xs[i],q,by simp[hlt]⟩,b (i+1),fun σ' H' j=>⟨xs.length-(i+1),by lia,rfl,hlt,j⟩,fun x H' y=>?_⟩;obtain⟨e,y⟩:=y;subst e;exact l i x σ _ (y xs q) p
 ·have e:i=xs.length:=by lia
  subst e;exact .inl ⟨⟨xs,q,ao _⟩,d σ H p⟩
theorem lE {lo:Int}{n:Nat}(a:Nat→St→Hp→Prop)(j:a 0 σ H)(h:∀i σ H,i<n→a i σ H→g (.int (lo+i)) σ H fun σ2 H2=>tb {D with nx:=a (i+1),ct:=a (i+1),bk:=D.nx} σ2 H2)(b:∀σ H,a n σ H→D.nx σ H):∃W:Nat→Nat→St→Hp→Prop,(∃m,W 0 m σ H)∧∀i m σ H,W i m σ H→((Fh lo n).stop i H∧D.nx σ H)∨((Fh lo n).go i H∧∃N:St→Hp→Prop,(∀σ' H',N σ' H'→∃m',m'<m∧W (i+1) m' σ' H')∧∀x H',(Fh lo n).yld i H x H'→g x σ H' fun σ2 H2=>tb {D with nx:=N,ct:=N,bk:=D.nx} σ2 H2):=by
 refine⟨fun i m σ H=>m=n-i∧i≤n∧a i σ H,⟨n,by simp,bp _,j⟩,?_⟩;rintro i m σ H ⟨rfl,hi,p⟩;by_cases hlt:i<n
 ·refine .inr ⟨hlt,a (i+1),fun σ' H' d=>⟨n-(i+1),by lia,rfl,hlt,d⟩,fun x H' y=>?_⟩;obtain⟨e,y⟩:=y;subst e y;exact h i σ _ hlt p
 ·have e:i=n:=by lia
  subst e;exact .inl ⟨ao _,b σ H p⟩
abbrev R2:=V→V→Hp→VK→Prop
def nO (X:Cx)(f:Value→Value→Sem Value)(r:R2):Prop:=
 ∀(pins:List (Addr×Obj)) (s:Shared) (σ:St) (H:Hp) (x y:V) (v u:Value) (Q:VK),eQ X pins σ H s→eY x v→eY y u→r x y H Q→
  wpAny (model X.prog X.w) X.A (f v u) (EP X pins σ Q) X.xe s
def Hy (X:Cx)(f:Value→Sem Value)(r:V→Hp→VK→Prop):Prop:=
 ∀(pins:List (Addr×Obj)) (s:Shared) (σ:St) (H:Hp) (x:V) (v:Value) (Q:VK),eQ X pins σ H s→eY x v→r x H Q→
  wpAny (model X.prog X.w) X.A (f v) (EP X pins σ Q) X.xe s
def jL (X:Cx)(f:Value)(r:List V→Hp→VK→Prop):Prop:=
 ∀(pins:List (Addr×Obj)) (s:Shared) (σ:St) (H:Hp) (xs:List V) (us:List Value) (Q:VK),eQ X pins σ H s→fL xs us→r xs H Q→
  wpAny (model X.prog X.w) X.A (call f us) (EP X pins σ Q) X.xe s
def IG (X:Cx)(r:V→Hp→(Bool→Hp→Prop)→Prop):Prop:=
 ∀(pins:List (Addr×Obj)) (s:Shared) (σ:St) (H:Hp) (x:V) (v:Value) (Q:Bool→Hp→Prop),eQ X pins σ H s→eY x v→r x H Q→
  wpAny (model X.prog X.w) X.A (truthy v) (TP X pins σ Q) X.xe s
def Ho (r:R2)(ta tb:TE):TE:=fun σ H Q=>ta σ H fun x H1=>tb σ H1 fun y H2=>r x y H2 Q
def Jg (r:V→Hp→VK→Prop)(ta:TE):TE:=fun σ H Q=>ta σ H fun x H1=>r x H1 Q
inductive Je (C:Int→Int→Prop)(g:Int→Int→V)(x:V)(y:V)(H:Hp)(Q:VK):Prop
 |mk (i j:_)(_:x=.int i)(_:y=.int j)(_:C i j)(_:Q (g i j) H):Je C g x y H Q
def rI (C:Int→Int→Prop)(g:Int→Int→V):R2:=fun x y H Q=>Je C g x y H Q
inductive Hh (g:Int→Int→V)(x:V)(y:V)(H:Hp)(Q:VK):Prop
 |mk (i j:_)(_:x=.int i)(_:y=.int j)(_:Q (g i j) H):Hh g x y H Q
def BQ (g:Int→Int→V):R2:=fun x y H Q=>Hh g x y H Q
inductive Jd (g:Int→V)(x:V)(H:Hp)(Q:VK):Prop
 |mk (i:_)(_:x=.int i)(_:Q (g i) H):Jd g x H Q
def rU (g:Int→V):V→Hp→VK→Prop:=fun x H Q=>Jd g x H Q
section
variable {a b c:Expr}{tb tc:TE}
theorem Fd (m:PE X a ta)(i:PE X b tb){R:V→V→Hp→Prop}(I:eQ X pins σ H s)(h:ta σ H fun x H1=>tb σ H1 fun y H2=>R x y H2){Q:Value→Shared→Prop}{f:Value→Value→Sem Value}(d:∀v u s2 x y H2,eQ X pins σ H2 s2→eY x v→eY y u→R x y H2→wpAny (model X.prog X.w) X.A (f v u) Q X.xe s2):wpAny (model X.prog X.w) X.A (eval a X.env) (fun v s₁=>wpAny (model X.prog X.w) X.A (eval b X.env) (fun u s₂=>wpAny (model X.prog X.w) X.A (f v u) Q X.xe s₂) X.xe s₁) X.xe s:=by
 refine fW (m pins s σ H _ I h) ?_;rintro v g ⟨x,H1,j,e,o⟩;refine fW (i pins g σ H1 _ j o) ?_;rintro u s2 ⟨y,H2,p,l,q⟩;exact d v u s2 x y H2 p e l q
theorem fc {op:Operator}(d:nO X (binaryOp op) r)(l:PE X a ta)(g:PE X b tb):PE X (.BinOp a op b pos) (Ho r ta tb):=by
 intro pins s σ H Q I h;exact wpAny_BinOp (Fd l g I h fun v u j x y H2 m e i q=>d pins j σ H2 x y v u Q m e i q)
theorem iP {op:UnaryOp}{r:V→Hp→VK→Prop}(b:Hy X (unaryOp op) r)(d:PE X a ta):PE X (.UnaryOp op a pos) (Jg r ta):=by
 intro pins s σ H Q I h;exact UnaryOp_ (fW (d pins s σ H _ I h) (by rintro v i ⟨x,H1,j,e,g⟩;exact b pins i σ H1 x v Q j e g))
theorem Hr {f:Value→Value→Sem Value}{C:Int→Int→Prop}{g:Int→Int→Int}(a:∀(i j:Int) (t u:Tok) (s:Shared) (Q:Value→Shared→Prop) (E:Value→Shared→Prop),C i j→Q (.int (g i j) s.toks) {s with toks:=s.toks+1}→wpAny (model X.prog X.w) X.A (f (.int i t) (.int j u)) Q E s):nO X f (rI C fun i j=>.int (g i j)):=by
 intro pins s σ H x y v u Q I b d h;obtain⟨i,j,rfl,rfl,e,q⟩:=h;obtain⟨t,rfl⟩:=b;obtain⟨t',rfl⟩:=d;exact a i j t t' s _ _ e ⟨.int (g i j),H,I.tok _,⟨_,rfl⟩,q⟩
theorem Cu {f:Value→Value→Sem Value}{g:Int→Int→Int}(a:∀(i j:Int) (t u:Tok) (s:Shared) (Q:Value→Shared→Prop) (E:Value→Shared→Prop),Q (.int (g i j) s.toks) {s with toks:=s.toks+1}→wpAny (model X.prog X.w) X.A (f (.int i t) (.int j u)) Q E s):nO X f (BQ fun i j=>.int (g i j)):=by
 intro pins s σ H x y v u Q I b d h;obtain⟨i,j,rfl,rfl,q⟩:=h;obtain⟨t,rfl⟩:=b;obtain⟨t',rfl⟩:=d;exact a i j t t' s _ _ ⟨.int (g i j),H,I.tok _,⟨_,rfl⟩,q⟩
theorem Cv {f:Value→Value→Sem Value}{g:Int→Int→Bool}(a:∀(i j:Int) (t u:Tok) (s:Shared) (Q:Value→Shared→Prop) (E:Value→Shared→Prop),Q (.bool (g i j)) s→wpAny (model X.prog X.w) X.A (f (.int i t) (.int j u)) Q E s):nO X f (BQ fun i j=>.bl (g i j)):=by
 intro pins s σ H x y v u Q I b d h;obtain⟨i,j,rfl,rfl,q⟩:=h;obtain⟨t,rfl⟩:=b;obtain⟨t',rfl⟩:=d;exact a i j t t' s _ _ ⟨.bl (g i j),H,I,rfl,q⟩
def IQ (i j:Int):Prop:=0<j∧j<1073741824
def IO (i j:Int):Prop:=0≤j∧j≤1000000∧i.natAbs<2^64
def Fn (i j:Int):Prop:=(-(2^64)<i∧i<2^64)∨(-(2^64)<j∧j<2^64)
theorem Fn.ok {i j:Int}(h:Fn i j):IntMulOk i j:=by
 rcases h with ⟨h1,h2⟩ | ⟨h1,h2⟩
 ·exact .of_left (intBits_le_64 h1 h2)
 ·exact .of_right (intBits_le_64 h1 h2)
theorem lY:nO X (binaryOp .Add) (BQ fun i j=>.int (i+j)):=Cu fun _ _ _ _ _ _ _ q=>add_int q
theorem zZ:nO X (binaryOp .Sub) (BQ fun i j=>.int (i-j)):=Cu fun _ _ _ _ _ _ _ q=>sub_int q
theorem sw:nO X (binaryOp .Mult) (rI Fn fun i j=>.int (i*j)):=Hr fun _ _ _ _ _ _ _ hc q=>mul_int q hc.ok
theorem jD:nO X (binaryOp .FloorDiv) (rI IQ fun i j=>.int (i / j)):=Hr fun i j _ _ _ _ _ hc q=>by
 have h1:(0:Int)<j:=hc.1;have h2:j<1073741824:=hc.2;exact floordiv_int (by lia) (by rw[Int.fdiv_eq_ediv_of_nonneg i (by lia)];exact q) (.inl (PyProof.noPylong_small (by lia)))
theorem jP:nO X (binaryOp .Mod) (rI (fun _ j=>0<j) fun i j=>.int (i % j)):=Hr fun i j _ _ _ _ _ hc q=>by
 have h1:(0:Int)<j:=hc;exact mod_int' (by lia) (by rw[Int.fmod_eq_emod_of_nonneg i (by lia)];exact q)
theorem vf:nO X (binaryOp .Pow) (rI IO fun i j=>.int (i^j.toNat)):=Hr fun _ _ _ _ _ _ _ hc q=>pow_int_small hc.1 hc.2.1 hc.2.2 q
theorem hW:nO X (binaryOp .BitAnd) (BQ fun i j=>.int (Builtin.bitAnd i j)):=Cu fun _ _ _ _ _ _ _ q=>and_int q
theorem qK:nO X (binaryOp .BitOr) (BQ fun i j=>.int (Builtin.bitOr i j)):=Cu fun _ _ _ _ _ _ _ q=>or_int q
theorem IR {f:Value→Sem Value}{g:Int→Int}(a:∀(i:Int) (t:Tok) (s:Shared) (Q:Value→Shared→Prop) (E:Value→Shared→Prop),Q (.int (g i) s.toks) {s with toks:=s.toks+1}→wpAny (model X.prog X.w) X.A (f (.int i t)) Q E s):Hy X f (rU fun i=>.int (g i)):=by
 intro pins s σ H x v Q I b h;obtain⟨i,rfl,q⟩:=h;obtain⟨t,rfl⟩:=b;exact a i t s _ _ ⟨.int (g i),H,I.tok _,⟨_,rfl⟩,q⟩
theorem jN:Hy X (unaryOp .USub) (rU fun i=>.int (-i)):=IR fun _ _ _ _ _ q=>neg_int q
theorem kE:Hy X (unaryOp .Invert) (rU fun i=>.int (Builtin.bitNot i)):=IR fun _ _ _ _ _ q=>invert_int q
end
def FP:V→V→Bool
 |.non,.non=>true | .non,.int _=>true | .int _,.non=>true | .non,.bl _=>true | .bl _,.non=>true | .non,.str _=>true | .str _,.non=>true
 |.int _,.int _=>true | .bl _,.bl _=>true | .str _,.str _=>true | .byt _,.byt _=>true
 |.int _,.str _=>true | .str _,.int _=>true | .bl _,.str _=>true | .str _,.bl _=>true
 |_,_=>false
def Jn:R2:=fun x y H Q=>FP x y=true∧Q (.bl (decide (x=y))) H
def Jm:R2:=fun x y H Q=>FP x y=true∧Q (.bl (!decide (x=y))) H
theorem wL {i j:Int}:decide (V.int i=V.int j)=(i == j):=by
 rw[cT];simp
theorem AY {i j:Bool}:decide (V.bl i=V.bl j)=(i == j):=by
 rw[cT];simp
theorem wK {i j:Str}:decide (V.str i=V.str j)=(i == j):=by
 rw[cT];simp
theorem wM {i j:Array UInt8}:decide (V.byt i=V.byt j)=(i.toList == j.toList):=by
 rw[cT];cases i;cases j;simp
section
variable {a b c:Expr}{tb tc:TE}
theorem ge {Q:VK}{k k':Bool}(I:eQ X pins σ H s)(q:Q (.bl k) H)(e:k=k'):EP X pins σ Q (.bool k') s:=by
 subst e;exact⟨.bl k,H,I,rfl,q⟩
theorem kz:nO X (compareOp .Eq) Jn:=by
 intro pins s σ H x y v u Q I d a h;obtain⟨b,q⟩:=h;cases x with
 |non=>
  cases d;cases y with
  |non=>cases a;exact PySem.EqNone.eq_none_none (ge I q (by simp))
  |bl j=>cases a;exact PySem.EqNone.eq_none_bool (ge I q (by simp))
  |int j=>obtain⟨t',rfl⟩:=a;exact PySem.EqNone.eq_none_int (ge I q (by simp))
  |str j=>obtain⟨t',rfl⟩:=a;exact PySem.EqNone.eq_none_str (ge I q (by simp))
  |_=>exact absurd (show false=true from b) aN
 |bl i=>
  cases d;cases y with
  |non=>cases a;exact PySem.EqNone.eq_bool_none (ge I q (by simp))
  |bl j=>cases a;exact eq_bool (ge I q AY)
  |str j=>obtain⟨t',rfl⟩:=a;exact PySem.EqMixed.eq_bool_str (ge I q (by simp))
  |_=>exact absurd (show false=true from b) aN
 |int i=>
  obtain⟨t,rfl⟩:=d;cases y with
  |non=>cases a;exact PySem.EqNone.eq_int_none (ge I q (by simp))
  |int j=>obtain⟨t',rfl⟩:=a;exact eq_int (ge I q wL)
  |str j=>obtain⟨t',rfl⟩:=a;exact PySem.EqMixed.eq_int_str (ge I q (by simp))
  |_=>exact absurd (show false=true from b) aN
 |str i=>
  obtain⟨t,rfl⟩:=d;cases y with
  |non=>cases a;exact PySem.EqNone.eq_str_none (ge I q (by simp))
  |bl j=>cases a;exact PySem.EqMixed.eq_str_bool (ge I q (by simp))
  |int j=>obtain⟨t',rfl⟩:=a;exact PySem.EqMixed.eq_str_int (ge I q (by simp))
  |str j=>obtain⟨t',rfl⟩:=a;exact eq_str (ge I q wK)
  |_=>exact absurd (show false=true from b) aN
 |byt i=>
  obtain⟨t,rfl⟩:=d;cases y with
  |byt j=>obtain⟨t',rfl⟩:=a;exact W.eq_bytes (ge I q wM)
  |_=>exact absurd (show false=true from b) aN
 |_=>cases y <;> exact absurd (show false=true from b) aN
theorem qL:nO X (compareOp .NotEq) Jm:=by
 intro pins s σ H x y v u Q I d a h;obtain⟨b,q⟩:=h;cases x with
 |non=>
  cases d;cases y with
  |non=>cases a;exact PySem.EqNone.ne_none_none (ge I q (by simp))
  |bl j=>cases a;exact PySem.EqNone.ne_none_bool (ge I q (by simp))
  |int j=>obtain⟨t',rfl⟩:=a;exact PySem.EqNone.ne_none_int (ge I q (by simp))
  |str j=>obtain⟨t',rfl⟩:=a;exact PySem.EqNone.ne_none_str (ge I q (by simp))
  |_=>exact absurd (show false=true from b) aN
 |bl i=>
  cases d;cases y with
  |non=>cases a;exact PySem.EqNone.ne_bool_none (ge I q (by simp))
  |bl j=>cases a;exact ne_bool (ge I q (congrArg not AY))
  |str j=>obtain⟨t',rfl⟩:=a;exact PySem.EqMixed.ne_bool_str (ge I q (by simp))
  |_=>exact absurd (show false=true from b) aN
 |int i=>
  obtain⟨t,rfl⟩:=d;cases y with
  |non=>cases a;exact PySem.EqNone.ne_int_none (ge I q (by simp))
  |int j=>obtain⟨t',rfl⟩:=a;exact ne_int (ge I q (congrArg not wL))
  |str j=>obtain⟨t',rfl⟩:=a;exact PySem.EqMixed.ne_int_str (ge I q (by simp))
  |_=>exact absurd (show false=true from b) aN
 |str i=>
  obtain⟨t,rfl⟩:=d;cases y with
  |non=>cases a;exact PySem.EqNone.ne_str_none (ge I q (by simp))
  |bl j=>cases a;exact PySem.EqMixed.ne_str_bool (ge I q (by simp))
  |int j=>obtain⟨t',rfl⟩:=a;exact PySem.EqMixed.ne_str_int (ge I q (by simp))
  |str j=>obtain⟨t',rfl⟩:=a;exact ne_str (ge I q (congrArg not wK))
  |_=>exact absurd (show false=true from b) aN
 |byt i=>
  obtain⟨t,rfl⟩:=d;cases y with
  |byt j=>obtain⟨t',rfl⟩:=a;exact W.ne_bytes (ge I q (congrArg not wM))
  |_=>exact absurd (show false=true from b) aN
 |_=>cases y <;> exact absurd (show false=true from b) aN
theorem wn:nO X (compareOp .Lt) (BQ fun i j=>.bl (decide (i<j))):=Cv fun _ _ _ _ _ _ _ q=>lt_int q
theorem wt:nO X (compareOp .LtE) (BQ fun i j=>.bl (decide (i≤j))):=Cv fun _ _ _ _ _ _ _ q=>le_int q
theorem Ab:nO X (compareOp .Gt) (BQ fun i j=>.bl (decide (j<i))):=Cv fun _ _ _ _ _ _ _ q=>gt_int q
theorem Dq:nO X (compareOp .GtE) (BQ fun i j=>.bl (decide (j≤i))):=Cv fun _ _ _ _ _ _ _ q=>ge_int q
theorem fQ (b:Expr)(h:op≠.In:=by decide)(h2:op≠.NotIn:=by decide):behindInMarks op b=false:=by
 have d:(op == CmpOp.In)=false:=by cases op <;> first | rfl | exact absurd rfl h
 have a:(op == CmpOp.NotIn)=false:=by cases op <;> first | rfl | exact absurd rfl h2
 cases b <;> simp[behindInMarks,d,a]
theorem j8 (d:nO X (compareOp op) r)(m:PE X a ta)(g:PE X b tb)(j:behindInMarks op b=false):PE X (.Compare a [op] [b] pos) (Ho r ta tb):=by
 intro pins s σ H Q I h;exact wpAny_Compare1 (Fd m g I h fun v u l x y H2 o e i q=>d pins l σ H2 x y v u Q o e i q) j
inductive BB (Q:Bool→Hp→Prop)(x:V)(H':Hp):Prop
 |mk (k:_)(_:x=.bl k)(_:Q k H'):BB Q x H'
def Fv (t:TE):TT:=fun σ H Q=>t σ H fun x H'=>BB Q x H'
theorem fz (g:nO X (compareOp op) r)(A:PE X a ta)(l:PE X b tb)(q:behindInMarks op b=false):PT X (.Compare a [op] [b] pos) (Fv (Ho r ta tb)):=by
 intro pins s σ H Q I h;refine wpAny_isTrue_Compare1 (fW (A pins s σ H _ I h) fun v j ⟨x,H1,m,i,B⟩=>fW (l pins j σ H1 _ m B) fun u w ⟨y,H2,D,p,E⟩=>fW (g pins w σ H2 x y v u _ D i p E) fun c F ⟨z,o,t,d,k,e,C⟩=>?_) q;subst e;cases d;exact bU ⟨o,t,C⟩
inductive xx (r':R2)(tc:TE)(σ:St)(Q:VK)(y:V)(z:V)(H3:Hp):Prop
 |mk (k:_)(_:z=.bl k)(_:(if k=true then tc σ H3 fun w' H4=>r' y w' H4 Q else Q (.bl false) H3)):xx r' tc σ Q y z H3
def Ef (r r':R2)(ta tb tc:TE):TE:=fun σ H Q=>ta σ H fun x H1=>tb σ H1 fun y H2=>r x y H2 fun z H3=>xx r' tc σ Q y z H3
theorem zS {op':CmpOp}{r':R2}(L:nO X (compareOp op) r)(g:nO X (compareOp op') r')(P:PE X a ta)(A:PE X b tb)(J:PE X c tc)(hm:lastMarks [op,op'] [b,c]=false:=by with_unfolding_all rfl):PE X (.Compare a [op,op'] [b,c] pos) (Ef r r' ta tb tc):=by
 intro pins s σ H Q I h;refine Compare_chain (fW (P pins s σ H _ I h) fun v N ⟨x,H1,C,t,G⟩=>chain_link (fW (A pins N σ H1 _ C G) fun u F ⟨y,H2,K,m,R⟩=>fW (L pins F σ H2 x y v u _ K t m R) fun d O ⟨z,i,j,q,k,e,l⟩=>?_)) hm;subst e;cases q;refine bU ?_;cases k with
 |false=>exact ite_ff ⟨.bl false,i,j,rfl,l⟩
 |true=>exact ite_tt (chain_last (fW (J pins O σ i _ j l) (by rintro p o ⟨B,E,w,D,M⟩;exact g pins o σ E y B u p Q w m D M)))
def GN (K:W.Frag)(x:V)(H:Hp)(k:Bool):Prop:=
 match x with
 |.non=>k=false
 |.bl b=>k=b
 |.int i=>k=(i != 0)
 |.str y=>y.length≤sizeLine∧k=((y.length:Int) != 0)
 |.byt y=>y.size≤sizeLine∧k=((y.size:Int) != 0)
 |.ref p=>(∃xs,fb K H p xs∧k=!xs.isEmpty)∨(∃xs,gH K H p xs∧k=!xs.isEmpty)∨∃kvs,H p=some (.dK kvs)∧k=!kvs.isEmpty
 |_=>False
theorem pV {κ:Type}{kvs:List (κ×V)}{vs:List (κ×Value)}(r:KV kvs vs):(!vs.isEmpty)=!kvs.isEmpty:=by
 cases r <;> rfl
theorem pU {its:List Value}(r:fL xs its):(!its.toArray.isEmpty)=!xs.isEmpty:=by
 cases r <;> simp
theorem sK:(sizeLine:Nat)<2^63:=by rw[bZ];decide
theorem y6:IG X (fun x H Q=>∃k,GN X.K x H k∧Q k H):=by
 intro pins s σ H x v Q I g h;obtain⟨k,e,q⟩:=h;have z:=sK;have A:sizeLine=16777216:=bZ;cases x with
 |non=>
  cases g;have a:k=false:=e;subst a;exact truthy_none ⟨H,I,q⟩
 |bl b=>
  cases g;have a:k=b:=e;subst a;exact bU ⟨H,I,q⟩
 |int i=>
  obtain⟨t,rfl⟩:=g;have a:k=(i != 0):=e;subst a;exact PySem.P.truthy_int ⟨H,I,q⟩
 |str y=>
  obtain⟨t,rfl⟩:=g;obtain⟨hy,a⟩:y.length≤sizeLine∧k=((y.length:Int) != 0):=e;subst a;exact PySem.P.truthy_str (by lia) ⟨H,I.tok _,q⟩
 |byt y=>
  obtain⟨t,rfl⟩:=g;obtain⟨hy,a⟩:y.size≤sizeLine∧k=((y.size:Int) != 0):=e;subst a;exact W.truthy_bytes (by lia) ⟨H,I.tok _,q⟩
 |ref p=>
  cases g;have a:(∃xs,fb X.K H p xs∧k=!xs.isEmpty)∨(∃xs,gH X.K H p xs∧k=!xs.isEmpty)∨∃kvs,H p=some (.dK kvs)∧k=!kvs.isEmpty:=e;rcases a with ⟨xs,j,a⟩ | ⟨xs,j,a⟩ | ⟨kvs,j,a⟩
  ·subst a;obtain⟨l,r,pl,o⟩:=I.list j;have d:=r.length;exact wpAny_truthy_list pl.isList (by simp only[aP];lia) ⟨H,I.tok _,by rw[pU r];exact q⟩
  ·subst a;obtain⟨l,r,pl,o⟩:=I.tuple j;have d:=r.length;exact truthy_tuple pl (by simp only[aP];lia) ⟨H,I.tok _,by rw[pU r];exact q⟩
  ·subst a;obtain⟨o,hS,vs,r,m⟩:kvs.length≤sizeLine∧(p == sysModules)=false∧∃vs,KV kvs vs∧s.heap.DictOf (fA X.prog X.w) p vs:=I.hok p _ j;have d:kvs.length=vs.length:=Paired.length r;exact wpAny_truthy_dict hS m (by lia) ⟨H,I.tok _,by rw[pV r];exact q⟩
 |_=>exact(show False from e).elim
theorem iz (d:PE X a ta)(b:∀whole,isTrue a X.env whole=(do let v ←whole;standAt a.pos;holding [v] (truthy v))):PT X a (fun σ H Q=>ta σ H fun x H'=>∃k,GN X.K x H' k∧Q k H'):=by
 intro pins s σ H Q I h;exact isTrue_plain (fW (d pins s σ H _ I h) (by rintro v i ⟨x,H1,j,e,g⟩;exact y6 pins i σ H1 x v Q j e g)) (b _)
theorem ji {x:V}(r:fL [x] us):∃u,us=[u]∧eY x u:=by
 cases r with
 |cons r1 r2=>cases r2;exact⟨_,rfl,r1⟩
theorem v8 {x:V}(r:fL [x,y] us):∃u w',us=[u,w']∧eY x u∧eY y w':=by
 cases r with
 |cons r1 r2=>
  cases r2 with
  |cons r3 r4=>cases r4;exact⟨_,_,rfl,r1,r3⟩
theorem yK (a:X.calm=true):jL X (.builtin "max") (fun xs H Q=>∃i j,xs=[.int i,.int j]∧Q (.int (if j>i then j else i)) H):=by
 intro pins s σ H xs us Q I r h;obtain⟨i,j,rfl,q⟩:=h;obtain⟨u,b,rfl,⟨t,rfl⟩,⟨t',rfl⟩⟩:=v8 r;refine max_two_ints (I.ok.hd a) fun h' tk k=>⟨_,H,I.kept k,?_,q⟩;by_cases hj:j>i
 ·rw[if_pos hj,if_pos hj];exact⟨_,rfl⟩
 ·rw[if_neg hj,if_neg hj];exact⟨_,rfl⟩
theorem yJ (a:X.calm=true):jL X (.builtin "min") (fun xs H Q=>∃i j,xs=[.int i,.int j]∧Q (.int (if j<i then j else i)) H):=by
 intro pins s σ H xs us Q I r h;obtain⟨i,j,rfl,q⟩:=h;obtain⟨u,b,rfl,⟨t,rfl⟩,⟨t',rfl⟩⟩:=v8 r;refine min_two_ints (I.ok.hd a) fun h' tk k=>⟨_,H,I.kept k,?_,q⟩;by_cases hj:j<i
 ·rw[if_pos hj,if_pos hj];exact⟨_,rfl⟩
 ·rw[if_neg hj,if_neg hj];exact⟨_,rfl⟩
end
structure vX (h:Heap)(x dx C:Addr)(mA:Str→Option Value):Prop where
 obj:h.get? x=some (W.instObj C dx)
 ns:h.Ns1 dx mA
 ne:dx≠x
theorem yp (n:h.Ns1 dx mA):∃od,h.get? dx=some od∧∀name,W.lookIn name od=some (mA name):=by
 obtain⟨o,es,ep,g,d,l,_,j⟩:=n;refine⟨o,g,fun name=>?_⟩;have e:=j name;unfold nsFind findBy at e;rw[←Array.find?_toList]at e;unfold W.lookIn;rw[d];dsimp only
 split
 ·rename_i y q
  rw[q]at e;exact congrArg some e
 ·rename_i q
  rw[q]at e;have a:es.toList.any (·.refKey)=false:=by
   rw[List.any_eq_false];intro y i;obtain⟨z,t,b⟩:=l y (Array.mem_toList_iff.mp i);simp[DictEntry.refKey,b]
  have m:¬es.toList.any (·.refKey)=true:=by rw[a];exact aN
  rw[if_neg m];exact congrArg some e
theorem vX.look {x:Addr}(I:vX h x dx C mA):∃od,W.InstAt h x (W.instObj C dx) C (some od)∧∀name,W.lookIn name od=some (mA name):=
 let ⟨od,ho,hl⟩:=yp I.ns
 ⟨od,⟨I.obj,rfl,rfl,ho⟩,hl⟩
section
variable {prog:Program}{x f:Addr}{name:Str}{v:Value}
theorem C4 {expr:Bool}(X:K.In s.heap)(I:vX s.heap x dx C mA)(i:W.plainGet K C name=true)(g:W.hasDictIn K C=true)(e:W.findIn K (.ref C) name=some none)(d:mA name=some v)(a:W.handedIn v=true)(h:Q v {s with toks:=s.toks+1}):wpAny (model prog w) A (getAttr (.ref x) name expr) Q E s:=by
 obtain⟨j,J,b⟩:=I.look;exact W.get_value X J (W.plainGet_of i).1 (W.findObj_own g e rfl (by rw[b,d])) a h
theorem AM {Q:Value×List Value→Shared→Prop}(X:K.In s.heap)(I:vX s.heap x dx C mA)(a:W.plainGet K C name=true)(b:W.findIn K (.ref C) name=some (some (.ref f)))(i:W.isFn K (.ref f)=true)(g:mA name=none)(h:Q (.ref f,[.ref x]) s):wpAny (model prog w) A (getMethod (.ref x) name pl) Q E s:=by
 obtain⟨d,J,e⟩:=I.look;exact W.method_fn X J (W.plainGet_of a).1 (W.plainGet_of a).2 b (beq_iff_eq.mp i) (by show(W.lookIn name d).map (·.isSome)=some false;rw[e,g];rfl) h
theorem B8 {ns:List Str}{Q:Unit→Shared→Prop}(X:K.In s.heap)(I:vX s.heap x dx C mA)(q:W.findIn K (.ref C) "__setattr__" = some (some (.builtin "object.__setattr__")))(hp:W.plainOver K C=true)(p:W.takerIn K C name=some none)(o:W.hasDictIn K C=true)(m:PySem.Within mA ns)(hsz:ns.length≤sizeLine)(h:∀h',vX h' x dx C (fun y=>if y=name then some v else mA y)→Heap.SameBut dx s.heap h'→Q () {s with heap:=h',toks:=s.toks+2}):wpAny (model prog w) A (setAttr (.ref x) name v) Q E s:=by
 obtain⟨H,J,F⟩:=I.look;refine W.set_plain X J q (W.osa_open (s:={s with toks:=s.toks+1}) (r:=none) X J hp p fun b=>?_);obtain⟨cd,B,j⟩:=W.any_some o;have t:s.heap.get? x=some ⟨.ref C,some dx,.plain,#[]⟩:=I.obj;refine ac (ap (ac (ac (wpAny_loadPart t (ac (W.Looks.here (s:={s with toks:=s.toks+1}) (W.looks_clsIn X B) ?_))))));rw[j];refine ap (a:=some dx) (ac (ap (ac ?_)));refine wpAny_nsSet1 (s:={s with toks:=s.toks+1}) I.ns fun h' e d=>?_;obtain⟨G,D,z,i,l,g⟩:=e.count (PySem.Within.cons name v m);refine ac (wpAny_lookBehind i (by rw[l];exact pastItsLine_dict (br g (by rw[aC];lia))) ?_);exact ap (h _ ⟨(d.2 _ (Ne.symm I.ne)).trans I.obj,e,I.ne⟩ d)
theorem Au {R:Result→Shared→Prop}{vs:List Value}(X:K.In s.heap)(b:W.makesIn K C=true)(hi:W.findIn K (.ref C) "__init__" = some (some (.ref f)))(e:W.typeIn K (.ref f)=some (.type "function"))(h:codeAny (model prog w) (A.under (.builtin "type.__call__" ⟨.ref C::vs,kw⟩)) (.call (.ref f) ⟨.ref (s.heap.objs.size+1)::vs,kw⟩) (W.InitBack (s.heap.objs.size+1) R) {s with heap:=(s.heap.push W.emptyDict).push (W.instObj C s.heap.objs.size)}):codeAny (model prog w) A (.call (.ref C) ⟨vs,kw⟩) R s:=by
 obtain⟨j,g,d,t,i⟩:=s;exact W.make_core (W.makes_of X b) (W.looks_findIn X hi) (fun a=>W.bind_fn X a e) (.inl rfl) h
end
def fZ (f:Str)(v:V):List (Str×V)→List (Str×V)
 |[]=>[(f,v)]
 |(g,x)::r=>if g=f then (g,v)::r else (g,x)::fZ f v r
theorem ip (f g:Str)(v:V):∀fs:List (Str×V),(fZ f v fs).lookup g=if g=f then some v else fs.lookup g
 |[]=>by
  show List.lookup g [(f,v)]=_;by_cases h:g=f
  ·have hb:(g == f)=true:=beq_iff_eq.mpr h;simp only[List.lookup,hb,if_pos h]
  ·have hb:(g == f)=false:=beq_eq_false_iff_ne.mpr h;simp only[List.lookup,hb,if_neg h]
 |(k,x)::r=>by
  have ih:=ip f g v r;rw[show fZ f v ((k,x)::r)=(if k=f then (k,v)::r else (k,x)::fZ f v r) from rfl];by_cases hk:k=f
  ·rw[if_pos hk];by_cases h:g=k
   ·have hb:(g == k)=true:=beq_iff_eq.mpr h;simp only[List.lookup,hb,if_pos (h.trans hk)]
   ·have hb:(g == k)=false:=beq_eq_false_iff_ne.mpr h;simp only[List.lookup,hb,if_neg (fun e:g=f=>h (e.trans hk.symm))]
  ·rw[if_neg hk];by_cases h:g=k
   ·have hb:(g == k)=true:=beq_iff_eq.mpr h;simp only[List.lookup,hb,if_neg (fun e:g=f=>hk (h.symm.trans e))]
   ·have hb:(g == k)=false:=beq_eq_false_iff_ne.mpr h;simp only[List.lookup,hb];exact ih
theorem nH (f:Str)(v:V):∀fs:List (Str×V),f∈(fZ f v fs).map (·.1)∧∀g,g∈fs.map (·.1)→g∈(fZ f v fs).map (·.1)
 |[]=>⟨by simp[fZ],fun g h=>by simp at h⟩
 |(k,x)::r=>by
  obtain⟨i1,i2⟩:=nH f v r;rw[show fZ f v ((k,x)::r)=(if k=f then (k,v)::r else (k,x)::fZ f v r) from rfl];by_cases hk:k=f
  ·rw[if_pos hk];subst hk;exact⟨by simp,fun g h=>by simpa using h⟩
  ·rw[if_neg hk];refine⟨?_,fun g h=>?_⟩
   ·rw[aD];exact aR _ i1
   ·rw[aD]at h ⊢;rcases am.mp h with e | e
    ·exact am.mpr (.inl e)
    ·exact aR _ (i2 g e)
theorem nW (f:Str)(v:V):∀fs:List (Str×V),(fZ f v fs).length≤fs.length+1
 |[]=>by simp[fZ]
 |(k,x)::r=>by
  have ih:=nW f v r;rw[show fZ f v ((k,x)::r)=(if k=f then (k,v)::r else (k,x)::fZ f v r) from rfl];by_cases hk:k=f
  ·rw[if_pos hk,aC,aC];lia
  ·rw[if_neg hk,aC,aC];lia
theorem jg.some_of {o:Option Value}(r:jg (some v) o):∃u,o=some u∧eY v u:=by
 cases o with
 |none=>exact(show False from r).elim
 |some u=>exact⟨u,rfl,r⟩
theorem jg.none_of {o:Option Value}(r:jg none o):o=none:=by
 cases o with
 |none=>rfl
 |some u=>exact(show False from r).elim
theorem yD {u:Value}(r:eY v u):W.handedIn u=true:=by
 cases v with
 |non=>cases (show u=Value.none from r);rfl
 |bl b=>cases (show u=Value.bool b from r);rfl
 |int i=>obtain⟨t,e⟩:=(show ∃t,u=Value.int i t from r);cases e;rfl
 |str x=>obtain⟨t,e⟩:=(show ∃t,u=Value.str x t from r);cases e;rfl
 |byt b=>obtain⟨t,e⟩:=(show ∃t,u=Value.bytes b t from r);cases e;rfl
 |flt b=>obtain⟨t,e⟩:=(show ∃t,u=Value.float b t from r);cases e;rfl
 |ref a=>cases (show u=Value.ref a from r);rfl
 |ty n=>cases (show u=Value.type n from r);rfl
section
variable {fs fs':List (Str×V)}
theorem oG (b:lG P w H h)(e:H a=some (.ins C dx fs)):∃mA,vX h a dx C mA∧(∀f,jg (fs.lookup f) (mA f))∧PySem.Within mA (fs.map (·.1))∧fs.length≤1000∧H dx=some (.own a):=by
 obtain⟨d,z,g,i,mA,n,r,q⟩:=(show fN P w H h a (.ins C dx fs) from b a _ e);exact⟨mA,⟨i,n,g⟩,r,q,z,d⟩
end
structure qw (K:W.Frag)(C:Addr):Prop where
 pg:W.plainGet K C Str.empty=true
 hd:W.hasDictIn K C=true
 po:W.plainOver K C=true
 sa:W.findIn K (.ref C) "__setattr__" = some (some (.builtin "object.__setattr__"))
theorem qw.get (c:qw K C)(f:Str):W.plainGet K C f=true:=c.pg
def fV (K:W.Frag)(C:Addr)(f:Str):Prop:=W.findIn K (.ref C) f=some none
theorem fV.taker {f:Str}(n:fV K C f):W.takerIn K C f=some none:=by
 unfold W.takerIn;rw[show W.findIn K (.ref C) f=some none from n];rfl
structure yR (K:W.Frag)(C:Addr)(m:Str)(f:Addr):Prop where
 at_:W.findIn K (.ref C) m=some (some (.ref f))
 fn:W.isFn K (.ref f)=true
 kp:W.keepIn K (.ref f)=true
section
variable {fs:List (Str×V)}{f:Str}
theorem md {b:Bool}(I:eQ X pins σ H s)(e:H a=some (.ins C dx fs))(c:qw X.K C)(n:fV X.K C f)(l:fs.lookup f=some v)(h:∀u s',eQ X pins σ H s'→eY v u→Q u s'):wpAny (model X.prog X.w) A (getAttr (.ref a) f b) Q E s:=by
 obtain⟨mA,O,r,_,_,_⟩:=oG I.hok e;obtain⟨u,g,d⟩:=jg.some_of (v:=v) (o:=mA f) (by rw[←l];exact r f);exact C4 I.kIn O (c.get f) c.hd n g (yD d) (h u _ (I.tok _) d)
theorem pY {g:Addr}{Q:Value×List Value→Shared→Prop}(I:eQ X pins σ H s)(e:H a=some (.ins C dx fs))(c:qw X.K C)(k:yR X.K C m g)(l:fs.lookup m=none)(h:Q (.ref g,[.ref a]) s):wpAny (model X.prog X.w) A (getMethod (.ref a) m pl) Q E s:=by
 obtain⟨mA,O,r,_,_,_⟩:=oG I.hok e;have b:mA m=none:=jg.none_of (by rw[←l];exact r m);exact AM I.kIn O (c.get m) k.at_ k.fn b h
theorem lS {u:Value}{Q:Unit→Shared→Prop}(I:eQ X pins σ H s)(e:H a=some (.ins C dx fs))(c:qw X.K C)(n:fV X.K C f)(v:fs.length<1000)(l:eY y u)(h:∀s',eQ X pins σ (upd H a (.ins C dx (fZ f y fs))) s'→Q () s'):wpAny (model X.prog X.w) A (setAttr (.ref a) f u) Q E s:=by
 obtain⟨mA,O,r,wi,_,d⟩:=oG I.hok e;have t:(fs.map (·.1)).length≤sizeLine:=by rw[ab,bZ];lia
 refine B8 I.kIn O c.sa c.po n.taker c.hd wi t fun h' O' m=>h _ ?_;have hd:∃o,h'.get? dx=some o:=(by obtain⟨o,_,_,p,_⟩:=O'.ns;exact⟨o,p⟩);refine I.write (x:=a) (e:=dx) (by rw[e];exact True.intro) (.inr d) (fun b q i z=>(m.2 b i).trans z) hd ?_;refine⟨by rw[ef O.ne];exact d,?_,O.ne,O'.obj,_,O'.ns,fun g=>?_,fun g j=>?_⟩
 ·have:=nW f y fs;lia
 ·show jg ((fZ f y fs).lookup g) (if g=f then some u else mA g);rw[ip];by_cases q:g=f
  ·rw[if_pos q,if_pos q];exact l
  ·rw[if_neg q,if_neg q];exact r g
 ·by_cases q:g=f
  ·rw[q];exact(nH f y fs).1
  ·refine(nH f y fs).2 g (wi g fun z=>j ?_);show(if g=f then some u else mA g)=none;rw[if_neg q];exact z
theorem eQ.made (I:eQ X pins σ H s):eQ X pins σ (upd (upd H s.heap.objs.size (.own (s.heap.objs.size+1))) (s.heap.objs.size+1) (.ins C s.heap.objs.size [])) {s with heap:=(s.heap.push W.emptyDict).push (W.instObj C s.heap.objs.size)}:=by
 have d:(s.heap.push W.emptyDict).get? s.heap.objs.size=some W.emptyDict:=aJ s.heap rfl;have m:((s.heap.push W.emptyDict).push (W.instObj C s.heap.objs.size)).get? (s.heap.objs.size+1)=some (W.instObj C s.heap.objs.size):=by
  have:=aJ (s.heap.push W.emptyDict) (o:=W.instObj C s.heap.objs.size) rfl;rwa[dU]at this
 have h:(s.heap.push W.emptyDict).Ns s.heap.objs.size (fun _=>none):=⟨W.emptyDict,#[],_,d,rfl,(fun e i=>absurd i (by simp)),fun _=>rfl⟩;have l:=I.laid (a:=s.heap.objs.size) (o:=.own (s.heap.objs.size+1)) (h':=s.heap.push W.emptyDict) (t':=s.toks) (fun b u q=>ay _ q) (ao _) ⟨_,d⟩;refine l.laid (a:=s.heap.objs.size+1) (o:=.ins C s.heap.objs.size []) (t':=s.toks) (fun b u q=>ay _ q) (dm (dU _ _)) ?_
 have g:s.heap.objs.size≠s.heap.objs.size+1:=aT (df _);refine⟨by rw[ef g,d0],bp _,g,m,fun _=>none,(Heap.Ns1.of_empty h).at fun o q=>ay _ q,fun _=>True.intro,fun y j=>absurd rfl j⟩
theorem wQ {prog:Program}{env:Env}{f:Str}(hb:attributeBase e f env (eval e env)=eval e env)(h:wpAny (model prog w) A (eval e env) (fun o s₁=>wpAny (model prog w) A (getAttr o f true) Q E s₁) E s):wpAny (model prog w) A (eval (.Attribute e f pos) env) Q E s:=
 Attribute_any_ h (by rw[arm_eval_Attribute,hb])
end
inductive DL (K:W.Frag)(f:Str)(Q:VK)(x:V)(H1:Hp):Prop
 |mk (a C dx fs v:_)(_:x=.ref a)(_:H1 a=some (.ins C dx fs))(_:qw K C)(_:fV K C f)(_:fs.lookup f=some v)(_:Q v H1):DL K f Q x H1
def HR (K:W.Frag)(ta:TE)(f:Str):TE:=fun σ H Q=>ta σ H fun x H1=>DL K f Q x H1
inductive DO (K:W.Frag)(f:Str)(D:mS)(σ:St)(y:V)(x:V)(H2:Hp):Prop
 |mk (a C dx fs:_)(_:x=.ref a)(_:H2 a=some (.ins C dx fs))(_:qw K C)(_:fV K C f)(_:fs.length<1000)(_:D.nx σ (upd H2 a (.ins C dx (fZ f y fs)))):DO K f D σ y x H2
def Ij (K:W.Frag)(ta tv:TE)(f:Str):TS:=fun D σ H=>tv σ H fun y H1=>ta σ H1 fun x H2=>DO K f D σ y x H2
def Fm (X:Cx)(op:Operator)(rd:V→V→Hp→VK→Prop):Prop:=
 ∀(pins:List (Addr×Obj)) (s:Shared) (σ:St) (H:Hp) (x y:V) (u v:Value) (Q:VK),eQ X pins σ H s→eY x u→eY y v→rd x y H Q→wpAny (model X.prog X.w) X.A (inplaceOp op u v) (EP X pins σ Q) X.xe s
section
variable {o value:Expr}{f:Str}{tpos:Pos}{tv:TE}
theorem lV (j:PE X e ta)(g:attributeBase e f X.env (eval e X.env)=eval e X.env):PE X (.Attribute e f pos) (HR X.K ta f):=by
 intro pins s σ H Q I h;refine wQ g (fW (j pins s σ H _ I h) ?_);rintro u p ⟨x,H1,d,b,a,C,dx,fs,v,ex,m,c,n,l,q⟩;subst ex;obtain rfl:u=Value.ref a:=b;exact md d m c n l fun t r o i=>⟨v,H1,o,i,q⟩
theorem zF (r:PE X o ta)(p:PE X value tv)(j:swapsWith value (some (.Attribute o f pos')) pos.line X.env=pure false):PS X (.Assign [.Attribute o f pos'] value pos) (Ij X.K ta tv f):=by
 intro pins s σ H D I h;refine plainObj_wpAny_Assign_Attribute (fW (p pins s σ H _ I h) ?_) j;rintro u b ⟨y,H1,e,g,q⟩;refine fW (r pins b σ H1 _ e q) ?_;rintro i A ⟨x,H2,v,d,a,C,dx,fs,ex,t,c,n,l,w⟩;subst ex;obtain rfl:i=Value.ref a:=d;exact lS v t c n l g fun z m=>⟨σ,_,m,w⟩
end
section
variable {c:Value}{b:Bool}
inductive jv (K:W.Frag)(H:Hp):V→Value→Prop where
 |non:jv K H .non (.type "NoneType")
 |bl (x:Bool):jv K H (.bl x) (.type "bool")
 |int (i:Int):jv K H (.int i) (.type "int")
 |str (x:Str):jv K H (.str x) (.type "str")
 |flt (x:UInt64):jv K H (.flt x) (.type "float")
 |lst {a:Addr} {xs:List V} (e:H a=some (.lst xs)):jv K H (.ref a) (.type "list")
 |frz {a:Addr} {o:Obj} {xs:List V} (e:H a=some (.frz o (.lst xs))):jv K H (.ref a) (.type "list")
 |tup {a:Addr} {xs:List V} (e:H a=some (.tup xs)):jv K H (.ref a) (.type "tuple")
 |dK {a:Addr} {kvs:List (gB×V)} (e:H a=some (.dK kvs)):jv K H (.ref a) (.type "dict")
 |dT {a:Addr} {kvs:List (List gB×V)} (e:H a=some (.dT kvs)):jv K H (.ref a) (.type "dict")
 |ins {a C dx:Addr} {fs:List (Str×V)} (e:H a=some (.ins C dx fs)) (cl:qw K C) (ha:W.findIn K (.ref C) "__class__" = some (some (.builtin "object.__class__")))
   (hn:W.specialIn K (.builtin "object.__class__") "__get__" = some (some (.builtin "getset_descriptor.__get__"))) (htk:W.takesIn K (.builtin "object.__class__")=some true)
   (hm:W.mroIn K C (.type "object")=some true):jv K H (.ref a) (.ref C)
theorem yz {x:V}{u t:Value}(I:eQ X pins σ H s)(d:eY x u)(ty:jv X.K H x t)(e:W.kitOne X.K t c=some b)(h:∀tk,Q (.bool b) {s with toks:=tk}):wpAny (model X.prog X.w) A (call (.builtin "isinstance") [u,c]) Q E s:=by
 cases ty with
 |non=>cases (show u=Value.none from d);exact du W.kitx_none I.kIn True.intro e (fun z=>nomatch z) h
 |bl y=>cases (show u=Value.bool y from d);exact du W.kitx_bool I.kIn True.intro e (fun z=>nomatch z) h
 |int i=>obtain⟨t,q⟩:=(show ∃t,u=Value.int i t from d);cases q;exact du W.kitx_int I.kIn True.intro e (fun z=>nomatch z) h
 |str y=>obtain⟨t,q⟩:=(show ∃t,u=Value.str y t from d);cases q;exact du W.kitx_str I.kIn True.intro e (fun z=>nomatch z) h
 |flt y=>obtain⟨t,q⟩:=(show ∃t,u=Value.float y t from d);cases q;exact du W.kitx_float I.kIn True.intro e (fun z=>nomatch z) h
 |@lst a xs ea=>
  cases (show u=Value.ref a from d);obtain⟨_,_,n,_,h1⟩:=(show fN X.prog X.w H s.heap a (.lst xs) from I.hok a _ ea);exact du W.kitx_list I.kIn ⟨_,h1,rfl⟩ e (fun z=>nomatch z) h
 |@frz a ob xs ea=>
  cases (show u=Value.ref a from d);obtain⟨_,_,_,n,_,h1⟩:=(show fN X.prog X.w H s.heap a (.frz ob (.lst xs)) from I.hok a _ ea);exact du W.kitx_list I.kIn ⟨_,h1,rfl⟩ e (fun z=>nomatch z) h
 |@tup a xs ea=>
  cases (show u=Value.ref a from d);obtain⟨_,_,_,p⟩:=(show fN X.prog X.w H s.heap a (.tup xs) from I.hok a _ ea);obtain⟨o,h1,h2,_⟩:=p;exact du W.kitx_tuple I.kIn ⟨o,h1,h2⟩ e (fun z=>nomatch z) h
 |@dK a kvs ea=>
  cases (show u=Value.ref a from d);obtain⟨_,_,vs,_,p⟩:=(show fN X.prog X.w H s.heap a (.dK kvs) from I.hok a _ ea);obtain⟨o,es,ep,h1,h2,_⟩:=p;exact du W.kitx_dict I.kIn ⟨o,h1,h2.1⟩ e (fun z=>nomatch z) h
 |@dT a kvs ea=>
  cases (show u=Value.ref a from d);obtain⟨_,_,xs,_,o,es,ep,h1,h2,_⟩:=(show fN X.prog X.w H s.heap a (.dT kvs) from I.hok a _ ea);exact du W.kitx_dict I.kIn ⟨o,h1,h2.1⟩ e (fun z=>nomatch z) h
 |@ins a C dx fs ea cl ha hn htk hm=>
  cases (show u=Value.ref a from d);obtain⟨mA,O,_⟩:=oG I.hok ea;obtain⟨g,J,_⟩:=O.look;exact du (W.kitx_own (cl.get _) cl.hd ha hn htk hm) I.kIn J e (fun z=>nomatch z) h
end
structure gK (k:Nat)(A:Around):Prop where
 hd:A.handled=none
 dp:A.depth+3*k+5<recursionLimit
 un:A.units+16*k+200<cLine
theorem gK.mono {k:Nat}(r:gK k A)(h:j≤k):gK j A:=⟨r.hd,by have:=r.dp;lia,by have:=r.un;lia⟩
theorem gK.deeper {k:Nat}(r:gK (k+1) A)(env:Env):gK k (A.deeper env):=
 ⟨r.hd,by have:=r.dp;show A.depth+1+3*k+5<_;lia,by have:=r.un;show A.units+3+16*k+200<_;lia⟩
theorem gK.in1 {k:Nat}(r:gK (k+1) A):gK k A.in1:=
 ⟨r.hd,by have:=r.dp;show A.depth+3*k+5<_;lia,by have:=r.un;show A.units+1+16*k+200<_;lia⟩
theorem vC:(A.under (.builtin "type.__call__" ⟨.ref C::us,kw⟩)).depth=A.depth+1:=by
 first | rfl | simp[Around.under,Code.weight,Code.isCreation,Code.isGuard,Code.isCaller,Code.frames,Code.isFrame,guardIds]
theorem vB:(A.under (.builtin "type.__call__" ⟨.ref C::us,kw⟩)).units=A.units+1:=by
 first | rfl | simp[Around.under,Code.cUnits,Code.frames,Code.isFrame]
theorem gK.make {k:Nat}(r:gK (k+1) A)(C:Addr)(us:List Value)(kw:List (Str×Value)):gK k (A.under (.builtin "type.__call__" ⟨.ref C::us,kw⟩)):=
 ⟨r.hd,by have:=r.dp;rw[vC];lia,by have:=r.un;rw[vB];lia⟩
theorem gK.depth {k:Nat}(r:gK k A):A.depth<recursionLimit:=by have:=r.dp;lia
theorem gK.units {k:Nat}(r:gK k A):A.units+64<cLine:=by have:=r.un;lia
def xE:TA:=fun _ H Q=>Q [] H
def qA (ta:TE)(tr:TA):TA:=fun σ H Q=>ta σ H fun x H1=>tr σ H1 fun xs H2=>Q (x::xs) H2
theorem el:PA X [] xE:=fun _ _ _ _ H Q I h=>Calls.spliced_nil ⟨[],H,I,.nil,h⟩
theorem dZ (j:PE X e te)(b:PA X es t)(hs:starEach (e::es) X.env=(false,eval e X.env)::starEach es X.env:=by rfl):PA X (e::es) (qA te t):=by
 intro pos pins s σ H Q I h;rw[hs];show wpAny _ _ (spliced ((false,eval e X.env)::backTo pos (starEach es X.env))) _ _ s;refine Calls.spliced_cons (fW (j pins s σ H _ I h) ?_);rintro u d ⟨x,H1,g,a,l⟩;exact fW (b pos pins d σ H1 _ g l) (by rintro us p ⟨xs,H2,m,i,o⟩;exact⟨x::xs,H2,m,.cons a i,o⟩)
def Fu (t:TA):TE:=fun σ H Q=>t σ H fun xs H1=>xs.length≤sizeLine∧∀p,H1 p=none→Q (.ref p) (upd H1 p (.tup xs))
def HL (t:TA):TE:=fun σ H Q=>t σ H fun xs H1=>xs.length≤sizeLine∧∀p,H1 p=none→Q (.ref p) (upd H1 p (.lst xs))
theorem gm {x1}(h:PA X es t):PE X (.Tuple es x1 pos) (Fu t):=by
 intro pins s σ H Q I i;refine wpAny_Tuple_spliced (fW (h pos pins s σ H _ I i) ?_);rintro us a ⟨xs,H1,d,r,z,q⟩;refine⟨by rw[←r.length];exact z,?_⟩;have g:H1 a.heap.objs.size=none:=d.hok.fresh (ao _);refine⟨.ref a.heap.objs.size,upd H1 a.heap.objs.size (.tup xs),d.laid (t':=a.toks) (fun b u e=>ay _ e) (ao _) ?_,rfl,q _ g⟩
 exact⟨z,us,r,⟨_,aJ _ rfl,rfl,_,rfl⟩⟩
theorem gc (h:PA X es t):PE X (.List es pos) (HL t):=by
 intro pins s σ H Q I i;refine wpAny_List_spliced (fW (h pos pins s σ H _ I i) ?_);rintro us a ⟨xs,H1,d,r,z,q⟩;refine⟨by rw[←r.length];exact z,?_⟩;have g:H1 a.heap.objs.size=none:=d.hok.fresh (ao _);refine⟨.ref a.heap.objs.size,upd H1 a.heap.objs.size (.lst xs),d.laid (t':=a.toks) (fun b u e=>ay _ e) (ao _) ?_,rfl,q _ g⟩
 exact⟨z,us,0,r,aJ _ rfl⟩
abbrev Sp:=List V→Hp→VK→XK→Prop
abbrev xB:=List Env→Hp→Shared→XK→Value→Shared→Prop
structure v5 (P:Program)(w:World)(K:W.Frag)(mg:Str→Option Value)(base:Heap)(A:Around)(outer:List Env)(s:Shared)(H:Hp):Prop where
 frames:A.frames=some outer
 mod:Mod K mg base
 bs:∀b o,base.get? b=some o→s.heap.get? b=some o∧H b=none
 bsz:base.objs.size≤s.heap.objs.size
 funs:s.heap.FunFrames base outer
 frf:∀b∈AQ outer,H b=none
 hok:lG P w H s.heap
 bare:AllBare s.gens
def CE (outer:List Env)(P:Program)(w:World)(H:Hp)(s:Shared)(Q:VK)(u:Value)(s':Shared):Prop:=
 ∃v H',s'.os=s.os∧AllBare s'.gens∧Un (AQ outer) [] H H' s.heap s'.heap∧lG P w H' s'.heap∧eY v u∧Q v H'
def CR (CX:xB)(outer:List Env)(P:Program)(w:World)(H:Hp)(s:Shared)(Q:VK)(E:XK)(r:Result)(s':Shared):Prop:=
 match r with
 |.ok (.ret u)=>CE outer P w H s Q u s'
 |.ok _=>False
 |.error e=>CX outer H s E e s'
structure eZ (P:Program)(w:World)(K:W.Frag)(mg:Str→Option Value)(base:Heap)(CX:xB)(k:Nat)(f:Addr)(fd:FuncData)(ps:List Str)(sp:Sp):Prop where
 len:∀vs H Q E,sp vs H Q E→vs.length=ps.length
 run:∀(A:Around) (outer:List Env) (s:Shared) (H:Hp) (args:Args) (us:List Value) (vs:List V) (Q:VK) (E:XK),gK k A→v5 P w K mg base A outer s H→BindsTo s fd args (ps.zip us)→fL vs us→sp vs H Q E→
  codeAny (model P w) A (.call (.ref f) args) (CR CX outer P w H s Q E) s
theorem eZ.mono {base:Heap}{k:Nat}{f:Addr}(F:eZ P w K mg base CX j f fd ps sp)(h:j≤k):eZ P w K mg base CX k f fd ps sp:=⟨F.len,fun A outer s H args us vs Q E hr=>F.run A outer s H args us vs Q E (hr.mono h)⟩
theorem eZ.imp {base:Heap}{k:Nat}{f:Addr}{sp':Sp}(F:eZ P w K mg base CX k f fd ps sp)(h:∀vs H Q E,sp' vs H Q E→sp vs H Q E):eZ P w K mg base CX k f fd ps sp':=
 ⟨fun vs H Q E q=>F.len vs H Q E (h _ _ _ _ q),fun A outer s H args us vs Q E hr he hb hv hs=>F.run A outer s H args us vs Q E hr he hb hv (h _ _ _ _ hs)⟩
theorem v5.make {base:Heap}{outer:List Env}(e:v5 P w K mg base A outer s H)(C:Addr)(us:List Value)(kw:List (Str×Value)):v5 P w K mg base (A.under (.builtin "type.__call__" ⟨.ref C::us,kw⟩)) outer s H:=⟨by first | exact e.frames | (simpa [Around.under,Code.envs,Code.isFrame,pushEnvs] using e.frames),e.mod,e.bs,e.bsz,e.funs,e.frf,e.hok,e.bare⟩
theorem eQ.JV (I:eQ X pins σ H s):v5 X.prog X.w X.K X.mg X.base X.A X.stack s H:=
 ⟨I.ok.frames,I.ok.mod,I.bs,br I.ok.bsz I.sz,I.stack,I.JM,I.hok,I.bare⟩
theorem eQ.after {Q:VK}{u:Value}(I:eQ X pins σ H s)(h:CE X.stack X.prog X.w H s Q u s'):EP X pins σ Q u s':=by
 obtain⟨v,H',os,a,un,e,r,q⟩:=h;obtain⟨j,g,d,t,i⟩:=s';obtain rfl:i=s.os:=os;exact⟨v,H',I.call (h':=j) (g':=g) (d':=d) (t':=t) (ch:=[]) un e a (fun b z=>absurd z (by simp)),r,q⟩
def Dl (sp:Sp)(dvs:List V)(E:XK)(t:TA):TE:=fun σ H Q=>t σ H fun vs H1=>sp (vs++dvs) H1 Q E
inductive BE (C:Addr)(m:Str)(sp:Sp)(dvs:List V)(E:XK)(t:TA)(σ:St)(Q:VK)(x:V)(H1:Hp):Prop
 |mk (a dx fs:_)(_:x=.ref a)(_:H1 a=some (.ins C dx fs))(_:fs.lookup m=none)(_:t σ H1 fun vs H2=>sp (x::(vs++dvs)) H2 Q E):BE C m sp dvs E t σ Q x H1
def tD (C:Addr)(m:Str)(sp:Sp)(dvs:List V)(E:XK)(ta:TE)(t:TA):TE:=fun σ H Q=>ta σ H fun x H1=>BE C m sp dvs E t σ Q x H1
def Dj (C:Addr)(sp:Sp)(dvs:List V)(E:XK)(t:TA):TE:=fun σ H Q=>t σ H fun vs H1=>∀x dx,H1 x=none→H1 dx=none→dx≠x→
 sp (.ref x::(vs++dvs)) (upd (upd H1 dx (.own x)) x (.ins C dx [])) (fun v H2=>v=.non∧Q (.ref x) H2) E
def gl (K:W.Frag)(fd:FuncData)(ps:List Str)(ds:List Value):Prop:=
 ∀(s:Shared) (us:List Value),K.In s.heap→(us++ds).length=ps.length→BindsTo s fd ⟨us,[]⟩ (ps.zip (us++ds))
theorem gl.all (h:∀us:List Value,us.length=ps.length→bindArgs fd ⟨us,[]⟩=pure (ps.zip us)):gl K fd ps []:=fun s us _ hl=>by
 rw[cf]at hl ⊢;exact .of_eq (h us hl)
def jR (CX:xB)(X:Cx)(E:XK):Prop:=∀(pins:List (Addr×Obj)) (σ:St) (H:Hp) (s:Shared) (e:Value) (s':Shared),eQ X pins σ H s→CX X.stack H s E e s'→X.xe e s'
section
variable {k:Nat}{f:Addr}{dvs:List V}{ds:List Value}{E:XK}{apos:Pos}{o:Expr}
theorem u6 {Q:VK}(F:eZ X.prog X.w X.K X.mg X.base CX k f fd ps sp)(i:gK k X.A)(j:gl X.K fd ps ds)(d:fL dvs ds)(l:jR CX X E)(I:eQ X pins σ H s)(r:fL vs us)(h:sp (vs++dvs) H Q E):wpAny (model X.prog X.w) X.A (call (.ref f) us) (EP X pins σ Q) X.xe s:=by
 have b:fL (vs++dvs) (us++ds):=r.append d;have g:(us++ds).length=ps.length:=by rw[←b.length];exact F.len _ _ _ _ h
 refine wpAny_call (codeAny_mono (F.run X.A X.stack s H ⟨us,[]⟩ (us++ds) (vs++dvs) Q E i I.JV (j s us I.kIn g) b h) fun r s' a=>?_);cases r with
 |error e=>exact l pins σ H s e s' I a
 |ok fl=>
  cases fl with
  |ret u=>exact I.after a
  |next=>exact False.elim a
  |brk=>exact False.elim a
  |cont=>exact False.elim a
theorem fj (F:eZ X.prog X.w X.K X.mg X.base CX k f fd ps sp)(d:gK k X.A)(i:Gl X x)(l:X.mg x=some (.ref f))(m:W.keepIn X.K (.ref f)=true)(g:gl X.K fd ps ds)(b:fL dvs ds)(j:jR CX X E)(o:PA X (e::es) t)(hdb:(x == ("__debug__" : Str))=false:=by decide)(he:starEach (e::es) X.env=(false,eval e X.env)::starEach es X.env:=by rfl)(hpl:(backTo pos (starEach es X.env)).any (·.1)=false:=by rfl):PE X (.Call (.Name x p) (e::es) [] pos) (Dl sp dvs E t):=by
 intro pins s σ H Q I h;refine bJ (wC I i l ?_ hdb);refine W.callWith_K (h₀:=X.base) I.ok.mod.kin m (fW (o pos pins s σ H _ I h) ?_) he hpl;rintro us v ⟨vs,H1,a,r,q⟩;refine⟨a.kIn,?_⟩;exact u6 F d g b j a r q
theorem Co (B:PE X o ta)(c:qw X.K C)(d:yR X.K C m f)(F:eZ X.prog X.w X.K X.mg X.base CX k f fd ps sp)(j:gK k X.A)(y:gl X.K fd ps ds)(i:fL dvs ds)(z:jR CX X E)(D:PA X (e::es) t)(hst:starEach (e::es) X.env=(false,eval e X.env)::starEach es X.env:=by rfl)(hpl:(backTo pos (starEach es X.env)).any (·.1)=false:=by rfl)(ht:eval (.Call (.Attribute o m apos) (e::es) [] pos) X.env=(do
   let ov ←eval o X.env
   standAt apos.atName
   let (f,first) ←holding [ov] (getMethod ov m pl)
   callWith pos f first (backTo pos (starEach (e::es) X.env)) (backToKw pos (keywordEach [] X.env))):=by rfl) :
  PE X (.Call (.Attribute o m apos) (e::es) [] pos) (tD C m sp dvs E ta t):=by
 intro pins s σ H Q I h;refine W.methodCall_KW (pl:=pl) (fW (B pins s σ H _ I h) ?_) ht;rintro u p ⟨x,H1,b,v,a,dx,fs,ex,G,l,q⟩;subst ex;obtain rfl:u=Value.ref a:=v;refine pY b G c d l ?_;refine W.callWith_K (first:=[.ref a]) (h₀:=X.base) I.ok.mod.kin d.kp (fW (D pos pins p σ H1 _ b q) ?_) hst hpl;rintro us L ⟨vs,H2,g,r,J⟩;refine⟨g.kIn,?_⟩;exact u6 (us:=.ref a::us) (vs:=.ref a::vs) F j y i z g (.cons rfl r) J
theorem zN (r:PE X o ta)(c:qw X.K C)(d:yR X.K C m f)(F:eZ X.prog X.w X.K X.mg X.base CX k f fd ps sp)(g:gK k X.A)(j:gl X.K fd ps ds)(e:fL dvs ds)(p:jR CX X E)(ht:eval (.Call (.Attribute o m apos) [] [] pos) X.env=(do
   let ov ←eval o X.env
   standAt apos.atName
   let (f,first) ←holding [ov] (getMethod ov m pl)
   callWith pos f first (backTo pos (starEach [] X.env)) (backToKw pos (keywordEach [] X.env))):=by rfl) :
  PE X (.Call (.Attribute o m apos) [] [] pos) (tD C m sp dvs E ta xE):=by
 intro pins s σ H Q I h;refine W.methodCall_KW (pl:=pl) (fW (r pins s σ H _ I h) ?_) ht;rintro u v ⟨x,H1,b,i,a,dx,fs,ex,t,l,q⟩;subst ex;obtain rfl:u=Value.ref a:=i;refine pY b t c d l ?_;exact W.callWith_K0 (first:=[.ref a]) b.kIn d.kp (u6 (us:=[.ref a]) (vs:=[.ref a]) F g j e p b (.cons rfl .nil) q)
structure Mk (K:W.Frag)(C f:Addr):Prop where
 makes:W.makesIn K C=true
 init:W.findIn K (.ref C) "__init__" = some (some (.ref f))
 fn:W.isFn K (.ref f)=true
 kp:W.keepIn K (.ref C)=true
theorem zA {Q:VK}(M:Mk X.K C f)(F:eZ X.prog X.w X.K X.mg X.base CX k f fd ps sp)(l:gK (k+1) X.A)(m:gl X.K fd ps ds)(i:fL dvs ds)(o:jR CX X E)(I:eQ X pins σ H s)(r:fL vs us)(h:∀x dx,H x=none→H dx=none→dx≠x→sp (.ref x::(vs++dvs)) (upd (upd H dx (.own x)) x (.ins C dx [])) (fun v H2=>v=.non∧Q (.ref x) H2) E):wpAny (model X.prog X.w) X.A (call (.ref C) us) (EP X pins σ Q) X.xe s:=by
 have g:=h (s.heap.objs.size+1) s.heap.objs.size (I.hok.fresh (dB _)) (I.hok.fresh (ao _)) (aT (df _));have b:=eQ.made (C:=C) I;have d:fL (V.ref (s.heap.objs.size+1)::(vs++dvs)) (Value.ref (s.heap.objs.size+1)::(us++ds)):=.cons rfl (r.append i);have j:(Value.ref (s.heap.objs.size+1)::us++ds).length=ps.length:=by
  have e:=d.length;rw[F.len _ _ _ _ g]at e;exact e.symm
 refine wpAny_call (Au (f:=f) I.kIn M.makes M.init (beq_iff_eq.mp M.fn) (codeAny_mono (F.run _ X.stack _ _ ⟨Value.ref (s.heap.objs.size+1)::us,[]⟩ (Value.ref (s.heap.objs.size+1)::(us++ds)) _ _ E (l.make C us []) (b.JV.make C us []) (m _ (Value.ref (s.heap.objs.size+1)::us) b.kIn j) d g) fun r s' a=>?_));cases r with
 |error e=>exact o pins σ _ _ e s' b a
 |ok fl=>
  cases fl with
  |ret u=>
   obtain⟨v,H',q,y,p,t⟩:=b.after a;subst p;exact⟨y,⟨V.ref (s.heap.objs.size+1),H',q,rfl,t⟩⟩
  |next=>exact False.elim a
  |brk=>exact False.elim a
  |cont=>exact False.elim a
theorem Cq (M:Mk X.K C f)(F:eZ X.prog X.w X.K X.mg X.base CX k f fd ps sp)(d:gK (k+1) X.A)(i:Gl X x)(l:X.mg x=some (.ref C))(g:gl X.K fd ps ds)(b:fL dvs ds)(j:jR CX X E)(m:PA X (e::es) t)(hdb:(x == ("__debug__" : Str))=false:=by decide)(he:starEach (e::es) X.env=(false,eval e X.env)::starEach es X.env:=by rfl)(hpl:(backTo pos (starEach es X.env)).any (·.1)=false:=by rfl):PE X (.Call (.Name x p) (e::es) [] pos) (Dj C sp dvs E t):=by
 intro pins s σ H Q I h;refine bJ (wC I i l ?_ hdb);refine W.callWith_K (h₀:=X.base) I.ok.mod.kin M.kp (fW (m pos pins s σ H _ I h) ?_) he hpl;rintro us o ⟨vs,H1,a,r,q⟩;refine⟨a.kIn,?_⟩;exact zA M F d g b j a r q
end
section
variable {k:Nat}{f:Addr}{ks:List Str}{E:XK}{apos kpos:Pos}{o:Expr}{kws:List Keyword}{tk:TA}{nm:Option Str}
variable {g:List Value→List Value→List Value}{gV:List V→List V→List V}
end
structure eN (N P:List Str)(sc:Scope):Prop where
 kind:sc.kind=.function
 co:sc.isCoroutine=false
 gen:sc.isGenerator=false
 nd:N.Nodup
 pre:N.take P.length=P
 par:∀x∈P,sc.names.lookup x=some .local∨sc.names.lookup x=some .cell
 nofree:∀y∈sc.names,y.2≠.free
theorem qV {kindOf:Str→Option NameKind}{x:Str}:∀{binds:List (Str×Value)} {m:Str→Option Value},(∀v,(x,v)∉binds)→bindL kindOf binds m x=m x
 |[],_,_=>rfl
 |(n,v)::r,m,h=>by
  unfold bindL;rw[qV fun w hw=>h w (aR _ hw)]
  split
  ·have:x≠n:=by rintro rfl;exact h v bi
   simp[this]
  ·rfl
theorem qX {kindOf:Str→Option NameKind}{x:Str}:∀{binds:List (Str×Value)} {m:Str→Option Value},(∀v,(x,v)∉binds)→bindC kindOf binds m x=m x
 |[],_,_=>rfl
 |(n,v)::r,m,h=>by
  unfold bindC;rw[qX fun w hw=>h w (aR _ hw)]
  split
  ·rfl
  ·have:x≠n:=by rintro rfl;exact h v bi
   simp[this]
theorem qW {kindOf:Str→Option NameKind}{x:Str}{v:Value}:∀{P:List Str} {vs:List Value} {i:Nat} {m:Str→Option Value},P.Nodup→P[i]?=some x→vs[i]?=some v→kindOf x=some .local→bindL kindOf (P.zip vs) m x=some v
 |[],_,_,_,_,h,_,_=>by simp at h
 |_::_,[],_,_,_,_,h,_=>by simp at h
 |p::P,w::vs,0,m,nd,h1,h2,hk=>by
  simp at h1 h2;subst h1;subst h2;show bindL kindOf ((p,w)::P.zip vs) m p=_;unfold bindL;rw[qV fun v hv=>(aX.mp nd).1 (List.of_mem_zip hv).1,if_pos hk];simp
 |p::P,w::vs,i+1,m,nd,h1,h2,hk=>by
  show bindL kindOf ((p,w)::P.zip vs) m x=_;unfold bindL;exact qW (i:=i) (aX.mp nd).2 (by simpa using h1) (by simpa using h2) hk
theorem qY {kindOf:Str→Option NameKind}{x:Str}{v:Value}:∀{P:List Str} {vs:List Value} {i:Nat} {m:Str→Option Value},P.Nodup→P[i]?=some x→vs[i]?=some v→kindOf x≠some .local→bindC kindOf (P.zip vs) m x=some v
 |[],_,_,_,_,h,_,_=>by simp at h
 |_::_,[],_,_,_,_,h,_=>by simp at h
 |p::P,w::vs,0,m,nd,h1,h2,hk=>by
  simp at h1 h2;subst h1;subst h2;show bindC kindOf ((p,w)::P.zip vs) m p=_;unfold bindC;rw[qX fun v hv=>(aX.mp nd).1 (List.of_mem_zip hv).1,if_neg hk];simp
 |p::P,w::vs,i+1,m,nd,h1,h2,hk=>by
  show bindC kindOf ((p,w)::P.zip vs) m x=_;unfold bindC;exact qY (i:=i) (aX.mp nd).2 (by simpa using h1) (by simpa using h2) hk
def start (N:List Str)(vs:List V):St:=vs.map some++List.replicate (N.length-vs.length) none
def qt (CX:xB)(P:Program)(w:World)(K:W.Frag)(mg:Str→Option Value)(base:Heap)(N:List Str)(qual:Str)(scope:Scope)(f:Addr)(cd:Value)(A:Around)(outer:List Env)(s:Shared)(H:Hp)(E:XK):Cx where
 prog:=P
 w:=w
 K:=K
 mg:=mg
 base:=base
 A:=A.deeper (envOfC qual scope s.heap.objs.size f cd)
 N:=N
 s₀:=s
 H₀:=H
 env:=envOfC qual scope s.heap.objs.size f cd
 outer:=outer
 stack:=envOfC qual scope s.heap.objs.size f cd::outer
 ex:=[]
 calm:=true
 fn:=fun _=>true
 pn:=[]
 xe:=fun e s'=>wpAny (model P w) (A.deeper (envOfC qual scope s.heap.objs.size f cd)) (leaving (envOfC qual scope s.heap.objs.size f cd) e) (fun _ s''=>CX outer H s E e s'') (fun e' s''=>CX outer H s E e' s'') s'
theorem uo {sc:Scope}{n:Nat}(h:sc.names.lookup x=some .cell):∃c,(cellsFrom n sc.names []).lookup x=some c:=by
 have q:=W.cellsFrom_some sc.names n [] (.inl h);exact Option.isSome_iff_exists.mp q
theorem yA {base:Heap}{N:List Str}{qual:Str}{scope:Scope}{f:Addr}{cd:Value}{outer:List Env}{s1:Shared}{E:XK}(S:eN N ps scope)(o:A.handled=none)(d:v5 P w K mg base A outer s H)(D:vs.length=ps.length)(r:fL vs us)(x:InCallC s s.heap.objs.size (bindL (envOfC qual scope s.heap.objs.size f cd).kindOf (ps.zip us) fun _=>none) (cellsFrom (s.heap.objs.size+1) scope.names []) (bindC (envOfC qual scope s.heap.objs.size f cd).kindOf (ps.zip us) fun _=>none) s1):eQ (qt CX P w K mg base N qual scope f cd A outer s H E) [] (start N vs) H s1:=by
 have t:ps.length≤N.length:=by have:=congrArg List.length S.pre;rw[aQ]at this;lia
 obtain⟨h1,tk,rfl,m⟩:=x.done;have g:∀b:Addr,b∉(qt CX P w K mg base N qual scope f cd A outer s H E).ex:=fun b z=>absurd (show b∈([]:List Addr) from z) (by simp);refine⟨⟨d.mod,S.kind,rfl,rfl,ao _,fun y z c h1 h2=>?_,fun y hy=>?_,fun y c _ h=>?_,fun _=>o,Around.frames_deeper d.frames,.inr ⟨rfl,rfl⟩,fun b z=>absurd z (g b),d.bs,d.bsz,fun b _ _=>g b,fun b z=>absurd z (g b),d.funs,d.frf⟩,rfl,d.bare,Un.kept m,⟨_,x.toInCall.ns,fun i y v h1 h2 F=>?_⟩,fun y c h=>⟨_,x.cell y c h⟩,d.hok.fresh (ao _),fun y c h=>?_,fun p hp=>absurd (show p∈([]:List (Addr×Obj)) from hp) (by simp),d.hok.kept m,?_⟩
 ·exact name_of_addr x.apart (bo h1) (bo h2)
 ·have hy:scope.names.lookup y=some .cell∨scope.names.lookup y=some .free:=hy;rcases hy with hy | hy
  ·exact uo hy
  ·exact absurd rfl (S.nofree _ (bo hy))
 ·exact cD (x.above y c (bo h))
 ·have hi:i<vs.length:=by
   unfold start at h2;by_cases hi:i<vs.length
   ·exact hi
   ·rw[aU (by simpa using hi)]at h2;rw[List.getElem?_replicate]at h2
    split at h2 <;> cases h2
  have B:vs[i]?=some v:=by
   unfold start at h2;rw[aI (by simpa using hi),ae]at h2
   cases e:vs[i]? with
   |none=>rw[e]at h2;cases h2
   |some a=>rw[e]at h2;cases h2;rfl
  obtain⟨u,l,C⟩:=r.get B;have hp:ps[i]?=some y:=by
   rw[←S.pre,List.getElem?_take_of_lt (by lia)];exact h1
  have j:ps.Nodup:=by rw[←S.pre];exact S.nd.sublist (dY _ _)
  refine⟨u,C,?_⟩;rcases S.par y (ai hp) with k | k
  ·exact .inl ⟨k,qW j hp l k⟩
  ·obtain⟨c,e⟩:=uo (n:=s.heap.objs.size+1) k;refine .inr ⟨.inl k,c,e,?_⟩;have q:=x.cell y c e;rw[qY j hp l (by show scope.names.lookup y≠_;rw[k];decide)]at q;exact q
 ·exact d.hok.fresh (cD (x.above y c (bo h)))
 ·unfold start;show _=N.length;rw[aE,ab,List.length_replicate]
  lia
theorem Ds {base:Heap}{k:Nat}{f:Addr}{name qual:Str}{params:Arguments}{scope:Scope}{dV kV doc pm cdv ct oc:Value}{an od:Option Addr}{osl:Array (Option Value)}{N ps:List Str}{sp:Sp}(F:K.lookup f=some ⟨oc,od,.func (W.fnOf name qual params body scope dV kV doc pm an cdv ct),osl⟩)(z:W.codeIn K cdv qual=true)(S:eN N ps scope)(len:∀vs H Q E,sp vs H Q E→vs.length=ps.length)(d:∀(A:Around) (outer:List Env) (s:Shared) (H:Hp) (vs:List V) (Q:VK) (E:XK),gK k (A.deeper (envOfC qual scope s.heap.objs.size f cdv))→sp vs H Q E→∃t,mj (qt CX P w K mg base N qual scope f cdv A outer s H E) body t∧t {nx:=fun _ H'=>Q .non H',rt:=Q} (start N vs) H):eZ P w K mg base CX (k+1) f (W.fnOf name qual params body scope dV kV doc pm an cdv ct) ps sp:=by
 refine⟨len,fun A outer s H B us vs Q E p h L r j=>?_⟩;have T:=len _ _ _ _ j;have C:K.In s.heap:=h.mod.kin.keeps fun b o e=>(h.bs b o e).1;have l:s.heap.NoLimit:=h.mod.nolimit.keeps fun b o e=>(h.bs b o e).1;have a:∀y∈ps.zip us,scope.names.lookup y.1=some .local∨(scope.names.lookup y.1=some .cell∧((cellsFrom (s.heap.objs.size+1) scope.names []).lookup y.1).isSome=true):=fun⟨n,v⟩ R=>by
  rcases S.par n (List.of_mem_zip R).1 with q | q
  ·exact .inl q
  ·exact .inr ⟨q,W.cellsFrom_some _ _ _ (.inl q)⟩
 refine codeAny_call_function p.depth (C _ _ F) rfl S.co S.gen rfl (W.codeRec_of C z) (L _ _ _ _ ?_);refine wpAny_newFunctionEnv_cells S.kind a fun O U D x=>?_;subst U;refine⟨l.keeps x.toInCall.keep,codeAny_func ?_⟩;obtain⟨t,G,M⟩:=d A outer s H vs Q E (p.deeper _) j;have I:eQ (qt CX P w K mg base N qual scope f cdv A outer s H E) [] (start N vs) H D:=yA S p.hd h T r x;refine ca (G [] D (start N vs) H _ I M) (fun fl s' g=>?_) fun e s' g=>g;have i:∀{σ':St} {H':Hp} {v:V} {u:Value},eQ (qt CX P w K mg base N qual scope f cdv A outer s H E) [] σ' H' s'→eY v u→Q v H'→CE outer P w H s Q u s':=
  fun {σ' H' v u} J m q=>⟨v,H',J.os,J.bare,J.base,J.hok,m,q⟩
 cases fl with
 |ret u=>
  obtain⟨v,σ',H',J,m,q⟩:=g;exact i J m q
 |next=>
  obtain⟨σ',H',J,q⟩:=g;exact i (v:=V.non) (u:=Value.none) J rfl q
 |brk=>
  obtain⟨_,_,_,q⟩:=g;exact False.elim q
 |cont=>
  obtain⟨_,_,_,q⟩:=g;exact False.elim q
section
variable {id T:String}{r:List V→Hp→VK→Prop}
def IT (r:List V→Hp→VK→Prop)(t:TA):TE:=fun σ H Q=>t σ H fun vs H1=>r vs H1 Q
theorem fi (o:jL X (.builtin id) r)(j:Gl X x)(a:X.mg x=none)(b:bootBuiltins x=some (.builtin id))(d:PA X (e::es) t)(hn:x≠"__name__":=by decide)(hdb:(x == ("__debug__" : Str))=false:=by decide)(he:starEach (e::es) X.env=(false,eval e X.env)::starEach es X.env:=by rfl)(hpl:(backTo pos (starEach es X.env)).any (·.1)=false:=by rfl):PE X (.Call (.Name x p) (e::es) [] pos) (IT r t):=by
 intro pins s σ H Q I h;refine bJ (jl I j a b ?_ hn hdb);exact PyProof.Rows.callWith_builtin1 (fW (d pos pins s σ H _ I h) (by rintro us l ⟨vs,H1,m,g,i⟩;exact o pins l σ H1 vs us Q m g i)) he hpl
theorem jV (o:jL X (.type T) r)(j:Gl X x)(a:X.mg x=none)(b:bootBuiltins x=some (.type T))(d:PA X (e::es) t)(hn:x≠"__name__":=by decide)(hdb:(x == ("__debug__" : Str))=false:=by decide)(he:starEach (e::es) X.env=(false,eval e X.env)::starEach es X.env:=by rfl)(hpl:(backTo pos (starEach es X.env)).any (·.1)=false:=by rfl):PE X (.Call (.Name x p) (e::es) [] pos) (IT r t):=by
 intro pins s σ H Q I h;refine bJ (jl I j a b ?_ hn hdb);exact PyProof.Rows.callWith_type1 (fW (d pos pins s σ H _ I h) (by rintro us l ⟨vs,H1,m,g,i⟩;exact o pins l σ H1 vs us Q m g i)) he hpl
end
end L2
namespace HT
open PySem PyProof.Rows
section
open PySem.SeqAt
open PySem.AutoSeq1 (wpAny_loadPart')
open PySem.MeetsSeq PySem.MeetsSeq2 PySem.MeetsSeq3
end
section
variable {prog:Program}{w:World}{A:Around}{E:Value→Shared→Prop}{s:Shared}
def ni (n d:Nat):Option Int→Nat
 |none=>d
 |some v=>if v<0 then (v+(n:Int)).toNat else min v.toNat n
theorem zt (n d:Nat):ni n d none=d:=rfl
theorem wg (n d k:Nat):ni n d (some (k:Int))=min k n:=by
 show(if (k:Int)<0 then ((k:Int)+(n:Int)).toNat else min (k:Int).toNat n)=min k n;rw[if_neg (by lia),bu]
end
end HT
namespace L2
open PySem PySem.Spec PyProof.Rows
variable {A:Around}{E Q:Value→Shared→Prop}{H H':Hp}{P:Program}{T:String}{X:Cx}{a:Addr}{e:Expr}{kvs:List (gB×V)}{o:Option V}{pins:List (Addr×Obj)}{pos:Pos}{s:Shared}{t':Nat}{v y:V}{w:World}{xs:List V}{σ:St}
abbrev TO:=St→Hp→(Option Int→Hp→Prop)→Prop
def PO (X:Cx)(e:Option Expr)(t:TO):Prop:=
 ∀(pins:List (Addr×Obj)) (s:Shared) (σ:St) (H:Hp) (Q:Option Int→Hp→Prop),eQ X pins σ H s→t σ H Q→
  wpAny (model X.prog X.w) X.A (evalPart e X.env) (fun u s'=>∃o H',eQ X pins σ H' s'∧IsPart u o∧Q o H') X.xe s
def BS:TO:=fun _ H Q=>Q none H
inductive BC (Q:Option Int→Hp→Prop)(x:V)(H1:Hp):Prop
 |mk (i:_)(_:x=.int i)(_:Q (some i) H1):BC Q x H1
def Fx (t:TE):TO:=fun σ H Q=>t σ H fun x H1=>BC Q x H1
theorem pW {ns:List Int}:∀{us:List Value},fL (ns.map V.int) us→IntsAre us ns:=by
 induction ns with
 |nil=>intro us r;rw[cQ]at r;cases r;exact .nil
 |cons n ns ih=>
  intro us r;rw[aD]at r;cases r with
  |cons r1 r2=>
   obtain⟨t,e⟩:=r1;subst e;exact .cons n t (ih r2)
section
variable {te:TE}{lo hi:Option Expr}{tl th:TO}{p2:Pos}
theorem oy:PO X none BS:=by
 intro pins s σ H Q I h;rw[evalPart_none];exact ap ⟨none,H,I,.none,h⟩
theorem lr (h:PE X e te):PO X (some e) (Fx te):=by
 intro pins s σ H Q I a;rw[evalPart_some];refine fW (h pins s σ H _ I a) ?_;rintro u j ⟨x,H1,d,b,g⟩;obtain⟨i,rfl,q⟩:=g;obtain⟨t,rfl⟩:=b;exact⟨some i,H1,d,.int i t,q⟩
def IZ (X:Cx)(r:V→Option Int→Option Int→Hp→VK→Prop):Prop:=
 ∀(pins:List (Addr×Obj)) (s:Shared) (σ:St) (H:Hp) (x:V) (v vl vu:Value) (lo hi:Option Int) (sl:Addr) (Q:VK),eQ X pins σ H s→eY x v→s.heap.IsSliceOf sl vl vu .none→IsPart vl lo→IsPart vu hi→r x lo hi H Q→
  ∃T id,typeLookup (.type T) "__getitem__" = pure (some (.builtin id))∧s.TypeIs v T∧wpAny (model X.prog X.w) X.A (getItem v (.ref sl)) (EP X pins σ Q) X.xe s
def Jh (r:V→Option Int→Option Int→Hp→VK→Prop)(te:TE)(tl th:TO):TE:=fun σ H Q=>te σ H fun x H1=>tl σ H1 fun l H2=>th σ H2 fun u H3=>r x l u H3 Q
theorem kU {r:V→Option Int→Option Int→Hp→VK→Prop}(F:IZ X r)(L:PE X e te)(E:PO X lo tl)(K:PO X hi th):PE X (.Subscript e (.Slice lo hi none p2) pos) (Jh r te tl th):=by
 intro pins s σ H Q I h;refine Subscript_ (fW (L pins s σ H _ I h) ?_);rintro v J ⟨x,H1,o,i,B⟩;refine wpAny_Slice (fW (E pins J σ H1 _ o B) ?_);rintro d y ⟨l,H2,D,pl,M⟩;refine fW (K pins y σ H2 _ D M) ?_;rintro a s3 ⟨u,g,t,G,C⟩;rw[evalPart_none];refine ap ?_;have j:eQ X pins σ g {s3 with heap:=s3.heap.push {cls:=.type "slice",data:=.fields #[d,a,.none]}}:=t.kept (t':=s3.toks) fun b N q=>ay _ q;obtain⟨T,id,z,m,p⟩:=F pins {s3 with heap:=s3.heap.push {cls:=.type "slice",data:=.fields #[d,a,.none]}} σ g x v d a l u s3.heap.objs.size Q j i (Heap.IsSliceOf.new ..) pl G C;show wpAny (model X.prog X.w) X.A (subscriptTail e (.Slice lo hi none p2) v (.ref s3.heap.objs.size)) (EP X pins σ Q) X.xe {s3 with heap:=s3.heap.push {cls:=.type "slice",data:=.fields #[d,a,.none]}};exact tail_any (ops:=[.ref s3.heap.objs.size,v]) m z p (by with_unfolding_all rfl)
def oh (xs:List V)(lo hi:Option Int):List V:=(xs.drop (HT.ni xs.length 0 lo)).take (HT.ni xs.length xs.length hi-HT.ni xs.length 0 lo)
theorem uk (xs:List V)(lo hi:Option Int):(oh xs lo hi).length≤xs.length:=by
 unfold oh;rw[aQ,List.length_drop]
 lia
end
def CY (n:Nat)(i:Int):Option Nat:=if 0≤i then (if i<n then some i.toNat else none) else if -(n:Int)≤i then some (i+n).toNat else none
def sW {α:Type}(xs:List α)(i:Int):Option α:=(CY xs.length i).bind fun j=>xs[j]?
theorem CW {n:Nat}{i:Int}{j:Nat}(h:CY n i=some j):seqIndex? i n=some j∧j<n∧-(n:Int)≤i∧i<n:=by
 unfold CY at h;by_cases h0:0≤i
 ·rw[if_pos h0]at h;by_cases h1:i<n
  ·rw[if_pos h1]at h;have e:i.toNat=j:=Option.some.inj h;exact⟨by rw[seqIndex_of h0 h1,e],by lia,by lia,h1⟩
  ·rw[if_neg h1]at h;cases h
 ·rw[if_neg h0]at h;by_cases h1:-(n:Int)≤i
  ·rw[if_pos h1]at h;have e:(i+n).toNat=j:=Option.some.inj h;exact⟨by rw[seqIndex_neg (by lia) h1,e],by lia,h1,by lia⟩
  ·rw[if_neg h1]at h;cases h
theorem wR {α:Type}{xs:List α}{i:Int}{v:α}(h:sW xs i=some v):∃j,seqIndex? i xs.length=some j∧xs[j]?=some v∧j<xs.length∧-(xs.length:Int)≤i∧i<xs.length:=by
 unfold sW at h;cases e:CY xs.length i with
 |none=>rw[e]at h;cases h
 |some j=>
  rw[e]at h;obtain⟨h1,h2,a,b⟩:=CW e;exact⟨j,h1,h,h2,a,b⟩
theorem oM {α:Type}{xs:List α}{j:Nat}{v:α}(h:xs[j]?=some v):sW xs (j:Int)=some v:=by
 have a:j<xs.length:=(af.mp h).1;have e:CY xs.length (j:Int)=some j:=by
  unfold CY;rw[if_pos (by lia),if_pos (by lia)];simp
 unfold sW;rw[e];exact h
theorem Bg {α:Type}(xs:List α)(v:α):sW (xs++[v]) (-1)=some v:=by
 have a:(xs++[v]).length=xs.length+1:=by simp
 have e:CY (xs++[v]).length (-1)=some xs.length:=by
  unfold CY;rw[a,if_neg (by decide),if_pos (by lia)]
  congr 1
  lia
 unfold sW;rw[e];show(xs++[v])[xs.length]?=some v;simp
def Dg (b:Expr):Prop:=∀o i,subscripted b false o i=operate [o,i] (getItem o i)
def HE (X:Cx)(r:R2):Prop:=
 ∀(value slice:Expr) (pins:List (Addr×Obj)) (s:Shared) (σ:St) (H:Hp) (x y:V) (v u:Value) (Q:VK),eQ X pins σ H s→eY x v→eY y u→r x y H Q→
  subscripted slice false v u=operate [v,u] (getItem v u)→wpAny (model X.prog X.w) X.A (subscriptTail value slice v u) (EP X pins σ Q) X.xe s
def I0 (X:Cx)(id:String)(r:V→List V→Hp→VK→Prop):Prop:=
 ∀(pins:List (Addr×Obj)) (s:Shared) (σ:St) (H:Hp) (x:V) (xs:List V) (v:Value) (us:List Value) (Q:VK),eQ X pins σ H s→eY x v→fL xs us→r x xs H Q→
  wpAny (model X.prog X.w) X.A (call (.builtin id) (v::us)) (EP X pins σ Q) X.xe s
section
variable {a b:Expr}{ta tb:TE}
theorem eL {r:R2}(d:HE X r)(m:PE X a ta)(j:PE X b tb)(g:Dg b):PE X (.Subscript a b pos) (Ho r ta tb):=by
 intro pins s σ H Q I h;exact Subscript_ (Fd m j I h fun v u l x y H2 o e i q=>d a b pins l σ H2 x y v u Q o e i q (g _ _))
inductive DU (K:W.Frag)(x:V)(y:V)(H:Hp)(Q:VK):Prop
 |mk (p xs i v:_)(_:x=.ref p)(_:y=.int i)(_:fb K H p xs)(_:sW xs i=some v)(_:Q v H):DU K x y H Q
def Gf (K:W.Frag):R2:=fun x y H Q=>DU K x y H Q
inductive DT (K:W.Frag)(x:V)(y:V)(H:Hp)(Q:VK):Prop
 |mk (p xs i v:_)(_:x=.ref p)(_:y=.int i)(_:gH K H p xs)(_:sW xs i=some v)(_:Q v H):DT K x y H Q
def zE (K:W.Frag):R2:=fun x y H Q=>DT K x y H Q
theorem fh:HE X (Gf X.K):=by
 intro value b pins s σ H x y v u Q I D E h m;obtain⟨p,xs,i,z,rfl,rfl,o,F,q⟩:=h;cases D;obtain⟨t,rfl⟩:=E;obtain⟨e,r,pl,G⟩:=I.list o;obtain⟨j,h1,h2,J,A,B⟩:=wR F;obtain⟨w,l,d⟩:=r.get h2;have C:=r.length;have L:=sK;have a:EP X pins σ Q w s:=⟨z,H,I,d,q⟩;by_cases h0:0≤i
 ·have g:i.toNat=j:=by
   rw[seqIndex_of h0 B]at h1;exact Option.some.inj h1
  exact item_listR pl.isList h0 (by lia) (by rw[g];simpa using l) a m
 ·have g:(i+(e.toArray.size:Int)).toNat=j:=by
   rw[seqIndex_neg (by lia) A]at h1;rw[aP,←C];exact Option.some.inj h1
  exact subscriptTail_builtinR (x:=w) pl.isList.typeIs slot_list_getitem.lookup
   (wpAny_getItem_list_neg (Q:=fun r s'=>r=w∧EP X pins σ Q r s') pl.isList (by lia) (by rw[aP] <;> lia) (by lia) (by rw[g];simpa using l) ⟨rfl,a⟩) m
theorem eR:HE X (zE X.K):=by
 intro value a pins s σ H x y v u Q I o B h A;obtain⟨p,xs,i,z,rfl,rfl,e,C,q⟩:=h;cases o;obtain⟨t,rfl⟩:=B;obtain⟨g,r,pl,F⟩:=I.tuple e;obtain⟨j,h1,h2,G,D,E⟩:=wR C;obtain⟨w,l,d⟩:=r.get h2;have m:=r.length;have J:=sK;have b:EP X pins σ Q w s:=⟨z,H,I,d,q⟩;exact subscriptTail_builtinR (x:=w) pl.typeIs slot_tuple_getitem.lookup
  (getItem_tuple (j:=j) (Q:=fun r s'=>r=w∧EP X pins σ Q r s') pl (by lia) (by lia) (by rw[aP,←m];exact h1) (by simpa using l) ⟨rfl,b⟩) A
theorem rM (lo hi:Option Int)(n:Nat):(sliceBounds lo hi none n).1=((HT.ni n 0 lo:Nat):Int)∧(sliceBounds lo hi none n).2.1=((HT.ni n n hi:Nat):Int)∧(sliceBounds lo hi none n).2.2=1:=by
 refine⟨?_,?_,rfl⟩
 ·cases lo with
  |none=>simp[sliceBounds,HT.ni]
  |some i=>
   simp only[sliceBounds,HT.ni,Option.getD_none,show(1:Int)>0 by decide,if_true];by_cases h:i<0
   ·simp only[h,if_true] <;> lia
   ·simp only[h,if_false] <;> lia
 ·cases hi with
  |none=>simp[sliceBounds,HT.ni]
  |some i=>
   simp only[sliceBounds,HT.ni,Option.getD_none,show(1:Int)>0 by decide,if_true];by_cases h:i<0
   ·simp only[h,if_true] <;> lia
   ·simp only[h,if_false] <;> lia
theorem qj (a:List Value)(lo hi:Option Int):slicePick a.toArray lo hi none=((a.drop (HT.ni a.length 0 lo)).take (HT.ni a.length a.length hi-HT.ni a.length 0 lo)).toArray:=by
 obtain⟨h1,h2,b⟩:=rM lo hi a.toArray.size;unfold slicePick;rw[h1,h2,b];simp only[sliceRange_one,pick_run,aP] <;> rfl
inductive DP (K:W.Frag)(x:V)(lo:Option Int)(hi:Option Int)(H:Hp)(Q:VK):Prop
 |mk (a xs:_)(_:x=.ref a)(_:fb K H a xs)(_:∀p,H p=none→Q (.ref p) (upd H p (.lst (oh xs lo hi)))):DP K x lo hi H Q
def Im (K:W.Frag):V→Option Int→Option Int→Hp→VK→Prop:=fun x lo hi H Q=>DP K x lo hi H Q
theorem my:IZ X (Im X.K):=by
 intro pins s σ H x v w t lo hi y Q I i j pl g h;obtain⟨a,xs,rfl,l,q⟩:=h;cases i;obtain⟨m,r,e,p⟩:=I.list l;have d:=r.length;refine⟨"list",_,slot_list_getitem.lookup,e.isList.typeIs,?_⟩;refine wpAny_getItem_list_slice e.isList j pl g .none (by simp) ?_ (by rw[aP] <;> lia)
 rw[qj,←d];refine⟨.ref s.heap.objs.size,_,I.laid (t':=s.toks) (o:=.lst (oh xs lo hi)) (fun b z q=>ay _ q) (ao _) ?_,rfl,q _ (I.hok.fresh (ao _))⟩
 exact⟨br (uk xs lo hi) p,_,0,(r.drop (HT.ni xs.length 0 lo)).take (HT.ni xs.length xs.length hi-HT.ni xs.length 0 lo),aJ _ rfl⟩
theorem fK:jL X (.builtin "len") (fun xs H Q=>∃p ys,xs=[.ref p]∧(fb X.K H p ys∨gH X.K H p ys)∧Q (.int ys.length) H):=by
 intro pins s σ H xs us Q I r h;obtain⟨p,ys,rfl,hq,q⟩:=h;obtain⟨u,rfl,e⟩:=ji r;cases e;have i:=sK;rcases hq with hq | hq
 ·obtain⟨d,b,pl,g⟩:=I.list hq;have a:=b.length;exact Calls.call_len_list pl.isList (by simp only[aP] <;> lia) ⟨.int ys.length,H,I.tok _,⟨s.toks+1,by rw[aP,a]⟩,q⟩
 ·obtain⟨d,b,pl,g⟩:=I.tuple hq;have a:=b.length;exact len_tuple pl (by simp only[aP] <;> lia) ⟨.int ys.length,H,I.tok _,⟨s.toks+1,by rw[aP,a]⟩,q⟩
theorem mM:jL X (.type "list") (fun xs H Q=>∃p ys,xs=[.ref p]∧(fb X.K H p ys∨gH X.K H p ys)∧∀l,H l=none→Q (.ref l) (upd H l (.lst ys))):=by
 intro pins s σ H xs us Q I r h;obtain⟨p,ys,rfl,hq,q⟩:=h;obtain⟨u,rfl,x⟩:=ji r;cases x;have g:∀(a:List Value),fL ys a→ys.length≤sizeLine→∀(h':Heap) (c':Nat),(∀b o',s.heap.get? b=some o'→h'.get? b=some o')→
   h'.get? s.heap.objs.size=some {cls:=.type "list",dict:=none,data:=.seq a.toArray c',slots:=#[]}→EP X pins σ Q (.ref s.heap.objs.size) {s with heap:=h'}:=fun a d j h' c' kp e=>
  ⟨.ref s.heap.objs.size,_,I.laid (t':=s.toks) kp (ao _) (show fN X.prog X.w _ h' _ (.lst ys) from⟨j,a,c',d,e⟩),rfl,q _ (I.hok.fresh (ao _))⟩
 rcases hq with hq | hq
 ·obtain⟨a,d,pl,j⟩:=I.list hq;have i:=d.length;obtain⟨o,t,v,n,m⟩:=pl.isList;exact call_list_seq p (.inl rfl) t v m (fun h' c' kp e=>g a d j h' c' kp e) (by simp only[aP] <;> lia)
 ·obtain⟨a,d,pl,j⟩:=I.tuple hq;have i:=d.length;obtain⟨o,t,v,n,m⟩:=pl;exact call_list_seq p (.inr rfl) t v m (fun h' c' kp e=>g a d j h' c' kp e) (by simp only[aP] <;> lia)
def HI (K:W.Frag)(T:String)(x:V)(H:Hp):Prop:=match x with
 |.str _=>T = "str"
 |.int _=>T = "int"
 |.ref p=>(T = "list"∧∃xs,fb K H p xs)∨(T = "tuple"∧∃o,K.lookup p=some o∧o.cls=.type "tuple"∧o.dict=none)∨
   (T = "dict"∧((∃kvs,H p=some (.dK kvs))∨∃kvs,H p=some (.dT kvs)))∨(T = "set"∧∃S n,H p=some (.set S n))
 |_=>False
theorem yY {x:V}{v:Value}(I:eQ X pins σ H s)(r:eY x v)(ty:HI X.K T x H):s.TypeIs v T∧∀a,v=.ref a→∃ob,s.heap.get? a=some ob∧ob.dict=none:=by
 cases x with
 |str z=>
  obtain⟨t,rfl⟩:=r;cases (show T = "str" from ty);exact⟨typeIs_str s z t,fun _ e=>nomatch e⟩
 |int i=>
  obtain⟨t,rfl⟩:=r;cases (show T = "int" from ty);exact⟨typeIs_int s i t,fun _ e=>nomatch e⟩
 |ref p=>
  cases r;rcases ty with ⟨rfl,xs,h⟩ | ⟨rfl,o,b,l,d⟩ | ⟨rfl,b⟩ | ⟨rfl,S,n,b⟩
  ·obtain⟨j,_,pl,_⟩:=I.list h;refine⟨pl.isList.typeIs,fun a e=>?_⟩;cases e;obtain⟨o,n,e,c,d,_⟩:=pl;exact⟨o,e,d⟩
  ·refine⟨⟨o,I.kIn p o b,l⟩,fun a e=>?_⟩;cases e;exact⟨o,I.kIn _ o b,d⟩
  ·have z:∃o,s.heap.get? p=some o∧o.ExactDict:=by
    rcases b with ⟨kvs,b⟩ | ⟨kvs,b⟩
    ·obtain⟨_,_,_,_,o,_,_,e,ex,_⟩:=I.hok p _ b;exact⟨o,e,ex⟩
    ·obtain⟨_,_,_,_,o,_,_,e,ex,_⟩:=I.hok p _ b;exact⟨o,e,ex⟩
   obtain⟨o,e,ex⟩:=z;refine⟨⟨o,e,ex.1⟩,fun a g=>?_⟩;cases g;exact⟨o,e,ex.2.1⟩
  ·obtain⟨o,_,_,_,e,ex,_⟩:=I.hok p _ b;refine⟨⟨o,e,ex.1⟩,fun a g=>?_⟩;cases g;exact⟨o,e,ex.2.1⟩
 |_=>exact False.elim ty
def HS (K:W.Frag)(T:String)(r:V→List V→Hp→VK→Prop)(to:TE):TE:=fun σ H Q=>to σ H fun x H1=>HI K T x H1∧r x [] H1 Q
def Jk (K:W.Frag)(T:String)(r:V→List V→Hp→VK→Prop)(to:TE)(t:TA):TE:=fun σ H Q=>to σ H fun x H1=>HI K T x H1∧t σ H1 fun xs H2=>r x xs H2 Q
variable {o:Expr}{es:List Expr}{to:TE}{t:TA}{name:Str}{apos cpos:Pos}{id:String}{r:V→List V→Hp→VK→Prop}
theorem Ez (m:PlainAttrs T)(a:Slot T name id)(b:typeOf (.builtin id)=pure (.type "method_descriptor"))(j:I0 X id r)(g:PE X o to)(hbase:attributeBase o name X.env (eval o X.env)=eval o X.env:=by rfl)(hline:(apos.endLine == cpos.line)=true:=by rfl):PE X (.Call (.Attribute o name apos) [] [] cpos) (HS X.K T r to):=by
 intro pins s σ H Q I h;refine wpAny_Call_method0_late hbase hline (fW (g pins s σ H _ I h) ?_);rintro v i ⟨x,H1,e,d,ty,l⟩;obtain⟨h1,h2⟩:=yY e d ty;exact⟨T,id,m,a,b,h1,h2,Calls.callWith_builtin rfl (PySem.evalArgs_none (j pins i σ H1 x [] v [] Q e d .nil l))⟩
theorem jB (z:PlainAttrs T)(a:Slot T name id)(b:typeOf (.builtin id)=pure (.type "method_descriptor"))(p:I0 X id r)(j:PE X o to)(w:PA X (e::es) t)(hbase:attributeBase o name X.env (eval o X.env)=eval o X.env:=by rfl)(hfew:((backTo cpos (starEach (e::es) X.env)).all (fun x=>!x.1)&&(backToKw cpos (keywordEach [] X.env)).all (fun x=>x.1.isSome)&&decide ((e::es).length+([]:List Keyword).length+(if ([]:List Keyword).isEmpty then 0 else 1)<30))=true:=by rfl)(hline:(apos.endLine == cpos.line)=true:=by rfl)(hs:starEach (e::es) X.env=(false,eval e X.env)::starEach es X.env:=by rfl)(hplain:(backTo cpos (starEach es X.env)).any (·.1)=false:=by rfl):PE X (.Call (.Attribute o name apos) (e::es) [] cpos) (Jk X.K T r to t):=by
 intro pins s σ H Q I h;refine wpAny_Call_method_late hbase hfew hline rfl (fW (j pins s σ H _ I h) ?_);rintro v l ⟨x,H1,g,d,ty,y⟩;obtain⟨h1,h2⟩:=yY g d ty;refine⟨T,id,z,a,b,h1,h2,?_⟩;have i:=w cpos pins l σ H1 _ g y;rw[hs]at i ⊢;refine Calls.callWith_builtin (by show(false||(backTo cpos (starEach es X.env)).any (·.1))=false;rw[hplain] <;> rfl) (Calls.evalArgs_plain ?_)
 exact fW i (by rintro us q ⟨vs,H2,A,m,B⟩;exact p pins q σ H2 x vs v us Q A d m B)
end
def HC (X:Cx)(id:String)(r:V→List V→Hp→VK→Prop):Prop:=
 ∀(pins:List (Addr×Obj)) (s:Shared) (σ:St) (H:Hp) (x:V) (xs:List V) (v:Value) (us:List Value) (Q:VK),eQ X pins σ H s→eY x v→fL xs us→r x xs H Q→
  wpAny (model X.prog X.w) X.A (call (.builtin id) (v::us)) (EP X pins σ Q) X.xe s
theorem fL.one:∀{x:V} {us:List Value},fL [x] us→∃u,us=[u]∧eY x u
 |_,_,.cons r .nil=>⟨_,rfl,r⟩
theorem fL.zero:∀{us:List Value},fL [] us→us=[]
 |_,.nil=>rfl
theorem fL.dropLast {us:List Value}(h:fL xs us):fL xs.dropLast us.dropLast:=by
 induction h with
 |nil=>exact .nil
 |cons r t ih=>
  cases t with
  |nil=>exact .nil
  |cons q t'=>exact .cons r ih
theorem fL.reverse {us:List Value}(h:fL xs us):fL xs.reverse us.reverse:=by
 induction h with
 |nil=>exact .nil
 |cons r t ih=>rw[cV,cV];exact fL.append ih (.cons r .nil)
theorem vJ {α:Type}(l:List α):l.eraseIdx (l.length-1)=l.dropLast:=by
 induction l with
 |nil=>rfl
 |cons a r ih=>
  cases r with
  |nil=>rfl
  |cons b r=>
   have e:(a::b::r).length-1=((b::r).length-1)+1:=by
    have h1:(a::b::r).length=r.length+2:=rfl;have h2:(b::r).length=r.length+1:=rfl
    lia
   rw[e,List.eraseIdx_cons_succ,ih]
   all_goals rfl
section
variable {l b:Addr}{ys zs:List V}
theorem eQ.JW {its its':List Value}{n:Nat}{f:Array Value→Array Value}(I:eQ X pins σ H s)(d:H l=some (.lst xs))(e:s.heap.get? l=some {cls:=.type "list",data:=.seq its.toArray n})(a:f its.toArray=its'.toArray)(b:fL ys its')(hz:ys.length≤sizeLine):eQ X pins σ (upd H l (.lst ys)) {s with heap:=s.heap.update l (Obj.mapSeq f),toks:=t'}:=by
 have q:=PySem.IsL.update e f;rw[a]at q;refine I.write (x:=l) (e:=l) (by rw[d];exact trivial) (.inl rfl) (fun i u h g=>(Heap.get?_update_other s.heap (Obj.mapSeq f) (Ne.symm h)).trans g) ⟨_,q⟩ ?_
 exact⟨hz,its',_,b,q⟩
theorem eQ.JX {its:List Value}(I:eQ X pins σ H s)(hv:fL ys its)(hz:ys.length≤sizeLine):eQ X pins σ (upd H s.heap.objs.size (.lst ys)) {s with heap:=s.heap.push {cls:=.type "list",data:=.seq its.toArray},toks:=t'}:=
 I.laid (fun _ _ q=>ay _ q) (ao _) ⟨hz,its,0,hv,aJ _ rfl⟩
theorem eQ.fresh (I:eQ X pins σ H s):H s.heap.objs.size=none:=I.hok.fresh (ao _)
theorem eQ.JY (I:eQ X pins σ H s)(a:H l=some (.lst xs)):xs.length≤sizeLine∧∃(its:List Value) (n:Nat),fL xs its∧xs.length=its.length∧s.heap.get? l=some {cls:=.type "list",data:=.seq its.toArray n}:=by
 obtain⟨z,its,n,r,e⟩:=I.hok l _ a;exact⟨z,its,n,r,r.length,e⟩
end
inductive uJ (x:V)(vs:List V)(H:Hp)(Q:VK):Prop
 |mk (l xs y:_)(_:x=.ref l)(_:vs=[y])(_:H l=some (.lst xs))(_:xs.length<sizeLine)(_:Q .non (upd H l (.lst (xs++[y])))):uJ x vs H Q
def Ch:V→List V→Hp→VK→Prop:=fun x vs H Q=>uJ x vs H Q
theorem gF:HC X "list.append" Ch:=by
 intro pins s σ H x vs v us Q I d i h;obtain⟨l,xs,y,rfl,rfl,b,m,q⟩:=h;cases d;obtain⟨u,rfl,g⟩:=i.one;obtain⟨z,a,n,r,j,e⟩:=I.JY b;refine call_meets F.slot_list_append ⟨_,e,rfl⟩ F.entry_list_append (F.args_list_append_2 _ _) (PySem.list_append l a.toArray n u (by rw[aP];lia)) ⟨e,?_⟩;refine⟨.non,_,I.JW (its':=a++[u]) b e (by simp) (r.append (.cons g .nil)) ?_,rfl,q⟩;rw[aE,aV]
 lia
inductive DQ (x:V)(vs:List V)(H:Hp)(Q:VK):Prop
 |mk (l xs y:_)(_:x=.ref l)(_:vs=[])(_:H l=some (.lst xs))(_:xs[xs.length-1]?=some y)(_:Q y (upd H l (.lst xs.dropLast))):DQ x vs H Q
def Io:V→List V→Hp→VK→Prop:=fun x vs H Q=>DQ x vs H Q
theorem EK:HC X "list.pop" Io:=by
 intro pins s σ H x vs v us Q I o t h;obtain⟨l,xs,y,rfl,rfl,g,j,q⟩:=h;cases o;have d:=t.zero;subst d;obtain⟨z,a,n,r,i,e⟩:=I.JY g;obtain⟨u,m,p⟩:=r.get j;have b:a.toArray[a.toArray.size-1]?=some u:=by
  show a.toArray[a.length-1]?=some u;rw[←bD,←i];exact m
 refine call_meets F.slot_list_pop ⟨_,e,rfl⟩ F.entry_list_pop (F.args_list_pop_1 _) (MeetsSeq.list_pop_last l a.toArray n u b (by rw[aP];lia)) ⟨e,?_⟩;refine⟨y,_,I.JW (its':=a.dropLast) g e ?_ r.dropLast ?_,p,q⟩
 ·show a.toArray.eraseIdxIfInBounds (a.toArray.size-1)=a.dropLast.toArray;rw[aP,List.eraseIdxIfInBounds_toArray,vJ]
 ·rw[List.length_dropLast]
  lia
inductive DX (x:V)(y:V)(H:Hp)(Q:VK):Prop
 |mk (l b xs zs:_)(_:x=.ref l)(_:y=.ref b)(_:H l=some (.lst xs))(_:H b=some (.lst zs))(_:xs.length+zs.length≤sizeLine)(_:∀p,H p=none→Q (.ref p) (upd H p (.lst (xs++zs)))):DX x y H Q
def Ir:R2:=fun x y H Q=>DX x y H Q
theorem sy:nO X (binaryOp .Add) Ir:=by
 intro pins s σ H x y v u Q I m o h;obtain⟨l,b,xs,zs,rfl,rfl,j,w,B,q⟩:=h;cases m;cases o;obtain⟨z,d,n,r,C,e⟩:=I.JY j;obtain⟨A,a,D,p,g,i⟩:=I.JY w;refine PySem.P.add_list e i ?_ (by rw[aP,aP];lia);have t:d.toArray++a.toArray=(d++a).toArray:=by simp
 rw[t];exact⟨.ref _,_,I.JX (t':=s.toks) (r.append p) (by rw[aE];lia),rfl,q _ I.fresh⟩
section
variable {prog:Program}
end
section
variable {κ:Type} [DecidableEq κ]
def eW (kvs:List (κ×V))(k:κ):Option V:=(kvs.find? fun kv=>decide (kv.1=k)).map (·.2)
def fq (kvs:List (κ×V))(k:κ)(v:V):List (κ×V):=
 if (kvs.any fun kv=>decide (kv.1=k))=true then kvs.map (fun kv=>if kv.1=k then (kv.1,v) else kv) else kvs++[(k,v)]
def jG (kvs:List (κ×V))(k:κ):List (κ×V):=kvs.filter fun kv=>decide (kv.1≠k)
theorem gv {p:κ×V}{r:List (κ×V)}{k:κ}(e:p.1=k):eW (p::r) k=some p.2:=by simp[eW,bj,e]
theorem gj {p:κ×V}{r:List (κ×V)}{k:κ}(e:¬p.1=k):eW (p::r) k=eW r k:=by simp[eW,bj,e]
theorem iJ (k:κ):∀kvs:List (κ×V),(kvs.any fun kv=>decide (kv.1=k))=(eW kvs k).isSome
 |[]=>rfl
 |p::r=>by
  rw[List.any_cons];by_cases e:p.1=k
  ·simp only[gv e,aq e,Bool.true_or,Option.isSome_some]
  ·rw[gj e,ar e,Bool.false_or];exact iJ k r
theorem tz (k j:κ)(y:V):∀kvs:List (κ×V),eW (kvs.map fun kv=>if kv.1=k then (kv.1,y) else kv) j=(eW kvs j).map fun x=>if j=k then y else x
 |[]=>rfl
 |p::r=>by
  have ih:=tz k j y r;rw[aD];by_cases h:p.1=k
  ·rw[if_pos h];by_cases e:p.1=j
   ·rw[gv (p:=(p.1,y)) e,gv e,Option.map_some,if_pos (e.symm.trans h)]
   ·rw[gj (p:=(p.1,y)) e,gj e,ih]
  ·rw[if_neg h];by_cases e:p.1=j
   ·rw[gv (p:=p) e,gv e,Option.map_some,if_neg (fun z=>h (e.trans z))]
   ·rw[gj (p:=p) e,gj e,ih]
theorem qz (k j:κ)(y:V):∀kvs:List (κ×V),eW kvs k=none→eW (kvs++[(k,y)]) j=if j=k then some y else eW kvs j
 |[],_=>by
  by_cases e:k=j
  ·rw[if_pos e.symm];exact gv (p:=(k,y)) e
  ·rw[if_neg (fun z=>e z.symm)];exact gj (p:=(k,y)) e
 |p::r,hn=>by
  rw[dh];have hk:¬p.1=k:=fun z=>by rw[gv z]at hn;cases hn
  rw[gj hk]at hn;have ih:=qz k j y r hn;by_cases e:p.1=j
  ·rw[gv e,gv e,if_neg (fun z=>hk (e.trans z))]
  ·rw[gj e,gj e,ih]
theorem fX (kvs:List (κ×V))(k j:κ)(y:V):eW (fq kvs k y) j=if j=k then some y else eW kvs j:=by
 unfold fq;by_cases a:(kvs.any fun b=>decide (b.1=k))=true
 ·rw[if_pos a,tz];rw[iJ]at a;by_cases e:j=k
  ·obtain⟨x,d⟩:=Option.isSome_iff_exists.mp a;rw[if_pos e,e,d,Option.map_some,if_pos rfl]
  ·rw[if_neg e];cases eW kvs j with
   |none=>rfl
   |some x=>rw[Option.map_some,if_neg e]
 ·rw[if_neg a];refine qz k j y kvs ?_;rw[iJ]at a;cases q:eW kvs k with
  |none=>rfl
  |some x=>rw[q]at a;exact(a rfl).elim
theorem fT (kvs:List (κ×V))(k:κ)(v:V):(fq kvs k v).length≤kvs.length+1:=by
 unfold fq
 split
 ·rw[ab];lia
 ·rw[aE,aC,List.length_nil];lia
theorem im {kvs:List (κ×V)}{k:κ}(v:V)(h:eW kvs k=none):fq kvs k v=kvs++[(k,v)]:=by
 unfold fq;rw[iJ,h];exact if_neg (by decide)
theorem jg.JZ {u:Option Value}(r:jg o u):o.isSome=u.isSome:=by
 cases o with
 |none=>cases u with
  |none=>rfl
  |some _=>exact(show False from r).elim
 |some _=>cases u with
  |none=>exact(show False from r).elim
  |some _=>rfl
theorem jg.getD {u:Option Value}{d:V}{d':Value}(r:jg o u)(rd:eY d d'):eY (o.getD d) (u.getD d'):=by
 cases o with
 |none=>cases u with
  |none=>exact rd
  |some _=>exact(show False from r).elim
 |some _=>cases u with
  |none=>exact(show False from r).elim
  |some _=>exact r
theorem KV.val {kvs:List (κ×V)}{vs:List (κ×Value)}(r:KV kvs vs)(k:κ):jg (eW kvs k) (valueAt vs k):=by
 unfold KV at r
 induction r with
 |nil=>exact True.intro
 |@cons p q ps qs h t ih=>
  obtain⟨h1,h2⟩:=h;by_cases e:p.1=k
  ·have a:q.1=k:=h1.symm.trans e;have b:valueAt (q::qs) k=some q.2:=by simp[valueAt,bj,a]
   rw[gv e,b];exact h2
  ·have a:¬q.1=k:=fun z=>e (h1.trans z);have b:valueAt (q::qs) k=valueAt qs k:=by simp[valueAt,bj,a]
   rw[gj e,b];exact ih
theorem KV.any {kvs:List (κ×V)}{vs:List (κ×Value)}(r:KV kvs vs)(k:κ):(kvs.any fun kv=>decide (kv.1=k))=vs.any fun kv=>decide (kv.1=k):=by
 unfold KV at r
 induction r with
 |nil=>rfl
 |cons h t ih=>rw[List.any_cons,List.any_cons,ih,h.1]
theorem KV.J0 {kvs:List (κ×V)}{vs:List (κ×Value)}(r:KV kvs vs)(k:κ){u:Value}(a:eY y u):KV (kvs.map fun kv=>if kv.1=k then (kv.1,y) else kv) (vs.map fun kv=>if kv.1=k then (kv.1,u) else kv):=by
 unfold KV at r ⊢
 induction r with
 |nil=>exact .nil
 |@cons p q ps qs h t ih=>
  rw[aD,aD];refine .cons ?_ ih;obtain⟨h1,h2⟩:=h;by_cases e:p.1=k
  ·rw[if_pos e,if_pos (h1.symm.trans e)];exact⟨h1,a⟩
  ·rw[if_neg e,if_neg (fun z=>e (h1.trans z))];exact⟨h1,h2⟩
theorem KV.put {kvs:List (κ×V)}{vs:List (κ×Value)}(r:KV kvs vs)(k:κ){u:Value}(a:eY y u):KV (fq kvs k y) (stored vs k u):=by
 unfold fq stored;rw[r.any k];by_cases e:(vs.any fun b=>decide (b.1=k))=true
 ·rw[if_pos e,if_pos e];exact r.J0 k a
 ·rw[if_neg e,if_neg e];exact Paired.snoc r ⟨rfl,a⟩
theorem KV.drop {kvs:List (κ×V)}{vs:List (κ×Value)}(r:KV kvs vs)(k:κ):KV (jG kvs k) (without vs k):=by
 unfold KV at r ⊢;unfold jG without
 induction r with
 |nil=>exact .nil
 |@cons p q ps qs h t ih=>
  obtain⟨h1,h2⟩:=h;rw[aH,aH];by_cases e:p.1=k
  ·have a:¬decide (p.1≠k)=true:=by simp[e]
   have b:¬decide (q.1≠k)=true:=by simp[h1.symm.trans e]
   rw[if_neg a,if_neg b];exact ih
  ·have d:¬q.1=k:=fun z=>e (h1.trans z);have a:decide (p.1≠k)=true:=by simp[e]
   have b:decide (q.1≠k)=true:=by simp[d]
   rw[if_pos a,if_pos b];exact .cons ⟨h1,h2⟩ ih
theorem KV.keys {kvs:List (κ×V)}{vs:List (κ×Value)}(r:KV kvs vs):kvs.map (·.1)=vs.map (·.1):=by
 unfold KV at r
 induction r with
 |nil=>rfl
 |cons h t ih=>rw[aD,aD,ih,h.1]
theorem KV.length {kvs:List (κ×V)}{vs:List (κ×Value)}(r:KV kvs vs):kvs.length=vs.length:=Paired.length r
theorem AV (kvs:List (κ×V))(k:κ):(jG kvs k).length≤kvs.length:=bz _ _
end
theorem mL {k:gB}{u:Value}(r:eY (kV k) u):(fA P w).is k u=true:=by
 cases k with
 |inl i=>obtain⟨t,e⟩:=(show ∃t,u=Value.int i t from r);subst e;exact tW P w i t
 |inr x=>obtain⟨t,e⟩:=(show ∃t,u=Value.str x t from r);subst e;exact tV P w x t
theorem qQ {P:Program}{w:World}:∀{ks:List gB} {us:List Value},fL (ks.map kV) us→ItemsAre (fA P w) ks us
 |[],_,r=>by rw[cQ]at r;cases r;exact .nil
 |k::ks,_,r=>by
  rw[aD]at r;cases r with
  |cons h t=>exact .cons (mL h) (qQ t)
abbrev KT (H:Hp):List (List gB×V)→List (List gB×Addr×Value)→Prop:=Paired fun p q=>p.1=q.1∧H q.2.1=some (.tup (p.1.map kV))∧eY p.2 q.2.2
theorem KT.val {kvs:List (List gB×V)}{xs:List (List gB×Addr×Value)}(r:KT H kvs xs)(k:List gB):jg (eW kvs k) ((atKey xs k).map (·.2)):=by
 induction r with
 |nil=>exact True.intro
 |@cons p q ps qs h t ih=>
  obtain⟨h1,_,h2⟩:=h;by_cases e:p.1=k
  ·have a:q.1=k:=h1.symm.trans e;have b:atKey (q::qs) k=some q.2:=by simp[atKey,bj,a]
   rw[gv e,b];exact h2
  ·have a:¬q.1=k:=fun z=>e (h1.trans z);have b:atKey (q::qs) k=atKey qs k:=by simp[atKey,bj,a]
   rw[gj e,b];exact ih
theorem KT.J0 {kvs:List (List gB×V)}{xs:List (List gB×Addr×Value)}(r:KT H kvs xs)(k:List gB){u:Value}(b:eY y u):KT H (kvs.map fun kv=>if kv.1=k then (kv.1,y) else kv) (xs.map (putAt k u)):=by
 induction r with
 |nil=>exact .nil
 |@cons p q ps qs h t ih=>
  rw[aD,aD];refine .cons ?_ ih;obtain⟨h1,h2,a⟩:=h;unfold putAt;by_cases e:p.1=k
  ·rw[if_pos e,if_pos (h1.symm.trans e)];exact⟨h1,h2,b⟩
  ·rw[if_neg e,if_neg (fun z=>e (h1.trans z))];exact⟨h1,h2,a⟩
theorem KT.put {kvs:List (List gB×V)}{xs:List (List gB×Addr×Value)}(r:KT H kvs xs)(k:List gB){b:Addr}{u:Value}(g:H b=some (.tup (k.map kV)))(a:eY y u):KT H (fq kvs k y) (storedH xs k b u):=by
 have e:(kvs.any fun d=>decide (d.1=k))=(atKey xs k).isSome:=by
  rw[iJ,(r.val k).JZ,Option.isSome_map]
 unfold fq storedH;rw[e];by_cases q:(atKey xs k).isSome=true
 ·rw[if_pos q,if_pos q];exact r.J0 k a
 ·rw[if_neg q,if_neg q];exact Paired.snoc r ⟨rfl,g,a⟩
theorem KT.keeps {kvs:List (List gB×V)}{xs:List (List gB×Addr×Value)}(r:KT H kvs xs)(ht:∀b ys,H b=some (.tup ys)→H' b=some (.tup ys)):KT H' kvs xs:=
 Paired.JH r fun _ _ z=>⟨z.1,ht _ _ z.2.1,z.2.2⟩
section
variable {h:Heap}
theorem zC {u:HO}(ok:lG P w H h)(e:Rd H a u):fN P w H h a u:=e.ok ok
theorem lR (ok:lG P w H h)(e:Rd H a (.dK kvs)):kvs.length≤sizeLine∧(a == sysModules)=false∧∃vs,KV kvs vs∧h.DictOf (fA P w) a vs:=
 show fN P w H h a (.dK kvs) from zC ok e
theorem qT (ok:lG P w H h)(e:H a=some (.dK kvs)):kvs.length≤sizeLine∧(a == sysModules)=false∧∃vs,KV kvs vs∧h.DictOf (fA P w) a vs:=lR ok (.inl e)
theorem l8 {ks:List gB}(ok:lG P w H h)(e:H a=some (.tup (ks.map kV))):(tupleKind (fA P w)).is h ks a:=by
 obtain⟨_,b,r,o,h1,h2,n,d⟩:=(show fN P w H h a (.tup (ks.map kV)) from ok a _ e);exact⟨o,b.toArray,n,h1,h2,d,by simpa using qQ r⟩
theorem p3 {kvs:List (List gB×V)}(ok:lG P w H h)(e:Rd H a (.dT kvs)):kvs.length≤sizeLine∧(a == sysModules)=false∧∃xs,KT H kvs xs∧h.DictOfH (tupleKind (fA P w)) a xs:=by
 obtain⟨z,y,xs,r,o,es,ep,h1,h2,b,d,g⟩:=(show fN P w H h a (.dT kvs) from zC ok e);refine⟨z,y,xs,r,o,es,ep,h1,h2,b,d,fun x hx=>?_,g⟩;have all:∀{l:List (List gB×V)} {m:List (List gB×Addr×Value)},KT H l m→∀x∈m,(tupleKind (fA P w)).is h x.1 x.2.1:=by
  intro l m q
  induction q with
  |nil=>intro x hx;exact nomatch hx
  |@cons p q ps qs hq t ih=>
   intro x hx;rcases am.mp hx with e | hx
   ·subst e;exact l8 ok (by rw[←hq.1];exact hq.2.1)
   ·exact ih x hx
 exact all r x hx
theorem GG {kvs:List (List gB×V)}(ok:lG P w H h)(e:H a=some (.dT kvs)):kvs.length≤sizeLine∧(a == sysModules)=false∧∃xs,KT H kvs xs∧h.DictOfH (tupleKind (fA P w)) a xs:=p3 ok (.inl e)
end
def jt (H:Hp)(a:Addr)(y:V)(r:Option V):Prop:=
 (∃kvs k,Rd H a (.dK kvs)∧y=kV k∧r=eW kvs k)∨∃kvs k b,Rd H a (.dT kvs)∧y=.ref b∧H b=some (.tup (k.map kV))∧r=eW kvs k
def mU (H:Hp)(a:Addr)(y v:V)(H':Hp):Prop:=
 (∃kvs k,H a=some (.dK kvs)∧y=kV k∧kvs.length<sizeLine∧H'=upd H a (.dK (fq kvs k v)))∨
 ∃kvs k b,H a=some (.dT kvs)∧y=.ref b∧H b=some (.tup (k.map kV))∧kvs.length<sizeLine∧H'=upd H a (.dT (fq kvs k v))
theorem jt.k {k:gB}(e:H a=some (.dK kvs)):jt H a (kV k) (eW kvs k):=.inl ⟨kvs,k,.inl e,rfl,rfl⟩
theorem mU.k {k:gB}(e:H a=some (.dK kvs))(hl:kvs.length<sizeLine):mU H a (kV k) v (upd H a (.dK (fq kvs k v))):=.inl ⟨kvs,k,e,rfl,hl,rfl⟩
section
variable {u r:Value}
theorem eQ.big (I:eQ X pins σ H s):sysModules<s.heap.objs.size:=by
 have h:mainGlobals<s.heap.objs.size:=(I.mod.glob.keeps I.bk).lt;exact Nat.lt_trans (by decide) h
theorem yG (x:A.units+1<cLine)(I:eQ X pins σ H s)(g:jt H a y (some v))(r:eY y u)(h:∀w' s',eQ X pins σ H s'→eY v w'→Q w' s'):wpAny (model X.prog X.w) A (getItem (.ref a) u) Q E s:=by
 rcases g with ⟨kvs,k,e,m,l⟩ | ⟨kvs,k,b,e,m,B,l⟩
 ·subst m;obtain⟨z,t,vs,rel,j⟩:=lR I.hok e;obtain⟨w',i,d⟩:=jg.some_of (v:=v) (o:=valueAt vs k) (by rw[l];exact rel.val k);exact wpAny_getItem_of (mL r) j.mapOf i (h w' _ (I.tok _) d)
 ·subst m;cases (show u=Value.ref b from r);obtain⟨z,t,xs,rel,j⟩:=p3 I.hok e;obtain⟨w',i,d⟩:=jg.some_of (v:=v) (o:=(atKey xs k).map (·.2)) (by rw[l];exact rel.val k);obtain⟨p,hp,q⟩:=au.mp i;refine wpAny_getItem_heap (dt x) (l8 I.hok B) j hp ?_;rw[q];exact h w' _ (I.tok _) d
theorem ID (p:A.units+1<cLine)(I:eQ X pins σ H s)(g:jt H a y o)(m:eY y u)(h:∀s',eQ X pins σ H s'→Q (.bool o.isSome) s'):wpAny (model X.prog X.w) A (compareOp .In u (.ref a)) Q E s:=by
 rcases g with ⟨kvs,k,e,i,l⟩ | ⟨kvs,k,b,e,i,r,l⟩
 ·subst i;obtain⟨z,d,vs,rel,j⟩:=lR I.hok e;refine wpAny_in_of (mL m) d j.mapOf ?_;rw[←(rel.val k).JZ,←l];exact h _ (I.tok _)
 ·subst i;cases (show u=Value.ref b from m);obtain⟨z,d,xs,rel,j⟩:=p3 I.hok e;refine wpAny_in_heap (dt p) (l8 I.hok r) d j ?_;have q:=(rel.val k).JZ;rw[Option.isSome_map]at q;rw[←q,←l];exact h _ (I.tok _)
theorem Dc (p:A.units+1<cLine)(I:eQ X pins σ H s)(g:jt H a y o)(m:eY y u)(h:∀s',eQ X pins σ H s'→Q (.bool (!o.isSome)) s'):wpAny (model X.prog X.w) A (compareOp .NotIn u (.ref a)) Q E s:=by
 rcases g with ⟨kvs,k,e,i,l⟩ | ⟨kvs,k,b,e,i,r,l⟩
 ·subst i;obtain⟨z,d,vs,rel,j⟩:=lR I.hok e;refine wpAny_notIn_of (mL m) d j.mapOf ?_;rw[←(rel.val k).JZ,←l];exact h _ (I.tok _)
 ·subst i;cases (show u=Value.ref b from m);obtain⟨z,d,xs,rel,j⟩:=p3 I.hok e;refine wpAny_notIn_heap (dt p) (l8 I.hok r) d j ?_;have q:=(rel.val k).JZ;rw[Option.isSome_map]at q;rw[←q,←l];exact h _ (I.tok _)
theorem jI {h':Heap}{ob:HO}(I:eQ X pins σ H s)(mu:GX (H a))(hs:Heap.SameBut a s.heap h')(he:∃q,h'.get? a=some q)(new:fN X.prog X.w (upd H a ob) h' a ob):eQ X pins σ (upd H a ob) {s with heap:=h',toks:=t'}:=
 I.write (x:=a) (e:=a) mu (.inl rfl) (fun b q hb z=>(hs.2 b hb).trans z) he new
theorem p9 {h':Heap}{vs:List (gB×Value)}(z:kvs.length≤sizeLine)(hd:(a == sysModules)=false)(rel:KV kvs vs)(dd:h'.DictOf (fA P w) a vs):fN P w H' h' a (.dK kvs):=⟨z,hd,vs,rel,dd⟩
theorem yF {Q:Unit→Shared→Prop}(L:A.units+1<cLine)(I:eQ X pins σ H s)(g:mU H a y v H')(G:eY y u)(F:eY v r)(h:∀s',eQ X pins σ H' s'→Q () s'):wpAny (model X.prog X.w) A (setItem (.ref a) u r) Q E s:=by
 rcases g with ⟨kvs,k,e,B,l,m⟩ | ⟨kvs,k,b,e,B,D,l,m⟩
 ·subst B m;obtain⟨z,j,vs,rel,x⟩:=qT I.hok e;have o:vs.length≤sizeLine:=by rw[←rel.length];exact z
  have p:(fq kvs k v).length≤sizeLine:=by have:=fT kvs k v;lia
  refine wpAny_setItem_pairs (hsz:=o) (mL G) x fun h' d t=>h _ ?_;have N:∃q,h'.get? a=some q:=(by obtain⟨q,_,_,i,_⟩:=d;exact⟨q,i⟩);exact jI I (by rw[e];exact True.intro) t N (p9 p j (rel.put k F) d)
 ·subst B m;cases (show u=Value.ref b from G);obtain⟨z,j,xs,rel,x⟩:=GG I.hok e;have o:xs.length≤sizeLine:=by rw[←Paired.length rel];exact z
  have p:(fq kvs k v).length≤sizeLine:=by have:=fT kvs k v;lia
  refine wpAny_setItem_heap (hsz:=o) (dt L) (l8 I.hok D) x fun h' d t=>h _ ?_;obtain⟨q,es,ep,i,h2,M,J,_,K⟩:=d;refine jI I (by rw[e];exact True.intro) t ⟨q,i⟩ ⟨p,j,_,(rel.put k D F).keeps fun c ys C=>?_,q,es,ep,i,h2,M,J,K⟩;rw[ef (fJ C e (fun z=>nomatch z))];exact C
end
section
variable {k:gB}{u:Value}
theorem GI {more:List Value}(I:eQ X pins σ H s)(e:H a=some (.dK kvs))(d:eY (kV k) u)(l:eW kvs k=some v)(m:more=[]∨∃x,more=[x])(h:∀w' s',eQ X pins σ (upd H a (.dK (jG kvs k))) s'→eY v w'→Q w' s'):wpAny (model X.prog X.w) A (call (.builtin "dict.pop") (.ref a::u::more)) Q E s:=by
 obtain⟨z,p,vs,rel,j⟩:=qT I.hok e;obtain⟨w',r,g⟩:=jg.some_of (v:=v) (o:=valueAt vs k) (by rw[←l];exact rel.val k);have hp:(keyPart u).isSome=true:=by
  cases k with
  |inl i=>obtain⟨t,q⟩:=(show ∃t,u=Value.int i t from d);subst q;rfl
  |inr x=>obtain⟨t,q⟩:=(show ∃t,u=Value.str x t from d);subst q;rfl
 have D:argsOk "dict.pop" ⟨.ref a::u::more,[]⟩:=by
  rcases m with q | ⟨x,q⟩
  ·subst q;exact PySem.F.args_dict_pop_2 _ _
  ·subst q;exact PySem.F.args_dict_pop_3 _ _ _
 refine call_meetsIn PySem.F.slot_dict_pop j.typeIs PySem.F.entry_dict_pop D (meets_dict_pop_there (fA X.prog X.w) a (mL d) more m hp)
  ⟨vs,w',j,by rw[←rel.length];exact z,r,fun h' b y=>h w' _ ?_ g⟩
 have C:∃q,h'.get? a=some q:=(by obtain⟨q,_,_,B,_⟩:=b;exact⟨q,B⟩);exact jI I (by rw[e];exact True.intro) y C (p9 (br (AV kvs k) z) p (rel.drop k) b)
end
def Ff (i:Expr):Prop:=∀ov iv,subscripted i false ov iv=operate [ov,iv] (getItem ov iv)
theorem wb {prog:Program}{env:Env}{value slice:Expr}{id:String}(d:typeLookup (.type T) "__getitem__" = pure (some (.builtin id)))(e:Ff slice)(h:wpAny (model prog w) A (eval value env) (fun o s₁=>wpAny (model prog w) A (eval slice env) (fun i s₂=>s₂.TypeIs o T∧wpAny (model prog w) A (getItem o i) Q E s₂) E s₁) E s):wpAny (model prog w) A (eval (.Subscript value slice pos) env) Q E s:=by
 refine Subscript_ (ca h (fun o s₁ h₁=>ca h₁ (fun i s₂ h₂=>?_) fun _ _ x=>x) fun _ _ x=>x);obtain⟨b,h₂⟩:=h₂;unfold subscriptTail;refine ac ?_;rw[getitemInPython_of_ne b.not_modules];refine ac (wpAny_specialOf b d ?_);have a:wpAny (model prog w) A (subscripted slice false o i) (fun r s₃=>wpAny (model prog w) A (letTemporaryGo value o r >>= fun _=>pure r) Q E s₃) E s₂:=by
  rw[e o i];exact wpAny_operating (ca h₂ (fun r s₃ h₃=>ac (wpAny_letTemporaryGo (ap h₃))) fun _ _ x=>x)
 first
  |exact ap (ac a)
  |exact ac (ap (ac a))
  |exact ac a
theorem uh (I:eQ X pins σ H s)(g:jt H a y o):s.TypeIs (.ref a) "dict":=by
 rcases g with ⟨kvs,k,e,_,_⟩ | ⟨kvs,k,b,e,_,_,_⟩
 ·obtain⟨_,_,vs,_,d⟩:=lR I.hok e;exact d.typeIs
 ·obtain⟨_,_,xs,_,d⟩:=p3 I.hok e;exact d.typeIs
inductive BG (Q:VK)(x:V)(y:V)(H2:Hp):Prop
 |mk (a v:_)(_:x=.ref a)(_:jt H2 a y (some v))(_:Q v H2):BG Q x y H2
def Dk (td ty:TE):TE:=fun σ H Q=>td σ H fun x H1=>ty σ H1 fun y H2=>BG Q x y H2
inductive DM (Q:VK)(y:V)(x:V)(H2:Hp):Prop
 |mk (a o:_)(_:x=.ref a)(_:jt H2 a y o)(_:Q (.bl o.isSome) H2):DM Q y x H2
def FI (ty td:TE):TE:=fun σ H Q=>ty σ H fun y H1=>td σ H1 fun x H2=>DM Q y x H2
inductive uH (Q:VK)(y:V)(x:V)(H2:Hp):Prop
 |mk (a o:_)(_:x=.ref a)(_:jt H2 a y o)(_:Q (.bl (!o.isSome)) H2):uH Q y x H2
def BU (ty td:TE):TE:=fun σ H Q=>ty σ H fun y H1=>td σ H1 fun x H2=>uH Q y x H2
inductive BJ (D:mS)(σ:St)(v:V)(x:V)(y:V)(H3:Hp):Prop
 |mk (a H4:_)(_:x=.ref a)(_:mU H3 a y v H4)(_:D.nx σ H4):BJ D σ v x y H3
def Gc (td ty tv:TE):TS:=fun D σ H=>tv σ H fun v H1=>td σ H1 fun x H2=>ty σ H2 fun y H3=>BJ D σ v x y H3
section
variable {o i value:Expr}{pos' tpos:Pos}{td ty tv:TE}
theorem hU (j:X.A.units+1<cLine)(e:PE X o td)(hi:PE X i ty)(r:Ff i):PE X (.Subscript o i pos) (Dk td ty):=by
 intro pins s σ H Q I h;refine wb PySem.F.slot_dict_getitem.lookup r (fW (e pins s σ H _ I h) ?_);rintro u l ⟨x,H1,p,m,w⟩;refine fW (hi pins l σ H1 _ p w) ?_;rintro E C ⟨y,H2,d,q,a,v,ex,g,z⟩;subst ex;obtain rfl:u=Value.ref a:=m;exact⟨uh d g,yG j d g q fun B D t b=>⟨v,H2,t,b,z⟩⟩
theorem vc (p:X.A.units+1<cLine)(hi:PE X i ty)(b:PE X o td):PC X .In i o (FI ty td):=by
 intro pins s σ H Q I h;refine fW (hi pins s σ H _ I h) ?_;rintro B d ⟨y,H1,l,m,r⟩;refine fW (b pins d σ H1 _ l r) ?_;rintro u w ⟨x,H2,t,e,a,j,ex,g,v⟩;subst ex;obtain rfl:u=Value.ref a:=e;exact ID p t g m fun z q=>⟨.bl j.isSome,H2,q,rfl,v⟩
theorem nB (p:X.A.units+1<cLine)(hi:PE X i ty)(b:PE X o td):PC X .NotIn i o (BU ty td):=by
 intro pins s σ H Q I h;refine fW (hi pins s σ H _ I h) ?_;rintro B d ⟨y,H1,l,m,r⟩;refine fW (b pins d σ H1 _ l r) ?_;rintro u w ⟨x,H2,t,e,a,j,ex,g,v⟩;subst ex;obtain rfl:u=Value.ref a:=e;exact Dc p t g m fun z q=>⟨.bl (!j.isSome),H2,q,rfl,v⟩
theorem jc (B:X.A.units+1<cLine)(w:PE X o td)(hi:PE X i ty)(G:PE X value tv)(E:swapsWith value (some (.Subscript o i pos')) pos.line X.env=pure false):PS X (.Assign [.Subscript o i pos'] value pos) (Gc td ty tv):=by
 intro pins s σ H D I h;refine wpAny_Assign_Subscript (fW (G pins s σ H _ I h) ?_) E;rintro r z ⟨v,H1,d,t,m⟩;refine fW (w pins z σ H1 _ d m) ?_;rintro u l ⟨x,H2,q,C,J⟩;refine fW (hi pins l σ H2 _ q J) ?_;rintro N M ⟨y,L,e,F,a,j,ex,g,p⟩;subst ex;obtain rfl:u=Value.ref a:=C;exact yF B e g F t fun K b=>⟨σ,j,b,p⟩
end
theorem qa (h:Heap)(hb:sysModules<h.objs.size):fN P w H (h.push {cls:=.type "dict",data:=.dict #[]}) h.objs.size (.dK []):=
 ⟨bp _,beq_eq_false_iff_ne.mpr (Ne.symm (aT hb)),[],.nil,Heap.DictOf.new h⟩
def Ec:TE:=fun _ H Q=>∀p,H p=none→Q (.ref p) (upd H p (.dK []))
theorem iA:PE X (.Dict [] [] pos) Ec:=fun pins s σ H Q I h=>
 wpAny_Dict_empty ⟨.ref s.heap.objs.size,_,I.laid (a:=s.heap.objs.size) (o:=.dK []) (t':=s.toks) (fun _ _ q=>ay _ q) (ao _) (qa s.heap I.big),rfl,h _ (I.hok.fresh (ao _))⟩
def rl:List (TE×TE)→St→Hp→(List (V×V)→Hp→Prop)→Prop
 |[],_,H,Q=>Q [] H
 |(tk,tv)::r,σ,H,Q=>tk σ H fun x H1=>tv σ H1 fun y H2=>rl r σ H2 fun ps H3=>Q ((x,y)::ps) H3
abbrev VV:List (V×V)→List (Value×Value)→Prop:=Paired fun p q=>eY p.1 q.1∧eY p.2 q.2
def GT (X:Cx)(pos:Pos)(keys:List (Option Expr))(values:List Expr)(trs:List (TE×TE)):Prop:=
 ∀(pins:List (Addr×Obj)) (s:Shared) (σ:St) (H:Hp) (Q:List (V×V)→Hp→Prop),eQ X pins σ H s→rl trs σ H Q→
  wpAny (model X.prog X.w) X.A (evalPairs (pairTrees keys values X.env pos)) (fun vs s'=>∃ps H',eQ X pins σ H' s'∧VV ps vs∧Q ps H') X.xe s
theorem wl:GT X pos [] [] []:=fun pins s σ H Q I h=>pairTrees_nil_walk ⟨[],H,I,.nil,h⟩
theorem tN {k v:Expr}{ks:List (Option Expr)}{vs:List Expr}{tk tv:TE}{trs:List (TE×TE)}(hk:PE X k tk)(hv:PE X v tv)(hr:GT X pos ks vs trs):GT X pos (some k::ks) (v::vs) ((tk,tv)::trs):=fun pins s σ H Q I h=>
 pairTrees_cons_walk (fW (hk pins s σ H _ I h) fun u s1 ⟨x,H1,I1,rx,q1⟩=>fW (hv pins s1 σ H1 _ I1 q1) (by rintro w2 s2 ⟨y,H2,I2,ry,q2⟩;exact fW (hr pins s2 σ H2 _ I2 q2) (by rintro ws s3 ⟨ps,H3,I3,rel,q3⟩;exact⟨(x,y)::ps,H3,I3,.cons ⟨rx,ry⟩ rel,q3⟩)))
def jQ (kvs more:List (gB×V)):List (gB×V):=more.foldl (fun acc kv=>fq acc kv.1 kv.2) kvs
theorem KV.merge:∀{more:List (gB×V)} {rs:List (gB×Value)} {kvs:List (gB×V)} {vs:List (gB×Value)},KV more rs→KV kvs vs→KV (jQ kvs more) (merged vs rs):=by
 intro more rs kvs vs r;unfold KV at r
 induction r generalizing kvs vs with
 |nil=>intro q;exact q
 |@cons p q ps qs h t ih=>
  intro a;have e:KV (fq kvs p.1 p.2) (stored vs q.1 q.2):=by
   have:=a.put p.1 h.2;rw[←h.1];exact this
  exact ih e
theorem lP:∀(more kvs:List (gB×V)),(jQ kvs more).length≤kvs.length+more.length
 |[],kvs=>by show kvs.length≤kvs.length+0;lia
 |p::r,kvs=>by
  have h1:=lP r (fq kvs p.1 p.2);have h2:=fT kvs p.1 p.2;show(jQ (fq kvs p.1 p.2) r).length≤_;rw[aC];lia
theorem qd {P:Program}{w:World}:∀{kvs:List (gB×V)} {ws:List (Value×Value)},VV (kvs.map fun kv=>(kV kv.1,kv.2)) ws→∃rs,Carries (fA P w) ws rs∧KV kvs rs
 |[],_,r=>by rw[cQ]at r;cases r;exact⟨[],True.intro,.nil⟩
 |p::kvs,_,r=>by
  rw[aD]at r;cases r with
  |@cons a b as bs h t=>
   obtain⟨rs,c,q⟩:=qd (P:=P) (w:=w) t;obtain⟨b1,b2⟩:=b;exact⟨(p.1,b2)::rs,⟨mL h.1,rfl,c⟩,.cons ⟨rfl,h.2⟩ q⟩
def FG (trs:List (TE×TE)):TE:=fun σ H Q=>∀p,H p=none→rl trs σ (upd H p (.dK [])) fun ps H2=>H2 p=some (.dK [])∧∃kvs:List (gB×V),ps=kvs.map (fun kv=>(kV kv.1,kv.2))∧kvs.length≤15∧Q (.ref p) (upd H2 p (.dK (jQ [] kvs)))
theorem Cr {keys:List (Option Expr)}{values:List Expr}{trs:List (TE×TE)}(h:GT X pos keys values trs)(b:keys.all (·.isSome)=true)(y:keys.length=values.length)(l:keys≠[])(g:keys.length≤15):PE X (.Dict keys values pos) (FG trs):=by
 intro pins s σ H Q I q;have B:=I.hok.fresh (ao s.heap.objs.size);have m:=I.laid (a:=s.heap.objs.size) (o:=.dK []) (h':=s.heap.push {cls:=.type "dict",data:=.dict #[]}) (t':=s.toks) (fun _ _ q=>ay _ q) (ao _) (qa s.heap I.big);refine wpAny_Dict_walk (knd:=fA X.prog X.w) b y l g (fW (h pins _ σ _ _ m (q _ B)) ?_);rintro K J ⟨ps,H2,i,rel,e,kvs,ep,G,F⟩;subst ep;obtain⟨x,c,t⟩:=qd (P:=X.prog) (w:=X.w) rel;obtain⟨z,j,D,r,C⟩:=qT i.hok e;cases r;refine⟨x,c,C,fun h' d A=>⟨.ref s.heap.objs.size,_,?_,rfl,F⟩⟩;have v:(jQ [] kvs).length≤sizeLine:=by
  have h1:=lP kvs [];rw[List.length_nil]at h1;rw[bZ];lia
 have E:∃q,h'.get? s.heap.objs.size=some q:=(by obtain⟨q,_,_,p,_⟩:=d;exact⟨q,p⟩);exact jI i (by rw[e];exact True.intro) A E (p9 v j (t.merge .nil) d)
structure M1 (X:Cx)(o:Expr)(m:Str)(apos:Pos)(e:Expr)(cpos:Pos):Prop where
 base:attributeBase o m X.env (eval o X.env)=eval o X.env
 few:((backTo cpos (starEach [e] X.env)).all (fun x=>!x.1)&&(backToKw cpos (keywordEach [] X.env)).all (fun x=>x.1.isSome)&&decide (([e]:List Expr).length+([]:List Keyword).length+(if ([]:List Keyword).isEmpty then 0 else 1)<30))=true
 line:(apos.endLine == cpos.line)=true
 trees:backTo cpos (starEach [e] X.env)=[(false,eval e X.env)]
structure M2 (X:Cx)(o:Expr)(m:Str)(apos:Pos)(e f:Expr)(cpos:Pos):Prop where
 base:attributeBase o m X.env (eval o X.env)=eval o X.env
 few:((backTo cpos (starEach [e,f] X.env)).all (fun x=>!x.1)&&(backToKw cpos (keywordEach [] X.env)).all (fun x=>x.1.isSome)&&decide (([e,f]:List Expr).length+([]:List Keyword).length+(if ([]:List Keyword).isEmpty then 0 else 1)<30))=true
 line:(apos.endLine == cpos.line)=true
 trees:backTo cpos (starEach [e,f] X.env)=[(false,eval e X.env),(false,eval f X.env)]
def Hg (H:Hp)(a:Addr):Prop:=(∃kvs,Rd H a (.dK kvs))∨∃kvs,Rd H a (.dT kvs)
theorem vG (I:eQ X pins σ H s)(d:Hg H a):s.TypeIs (.ref a) "dict"∧(∀b,Value.ref a=.ref b→∃ob,s.heap.get? b=some ob∧ob.dict=none)∧(a == sysModules)=false:=by
 rcases d with ⟨kvs,e⟩ | ⟨kvs,e⟩
 ·obtain⟨_,h,vs,_,g⟩:=lR I.hok e;refine⟨g.typeIs,fun b q=>?_,h⟩;cases q;obtain⟨ob,_,_,h1,h2,_⟩:=g;exact⟨ob,h1,h2.2.1⟩
 ·obtain⟨_,h,xs,_,g⟩:=p3 I.hok e;refine⟨g.typeIs,fun b q=>?_,h⟩;cases q;obtain⟨ob,_,_,h1,h2,_⟩:=g;exact⟨ob,h1,h2.2.1⟩
section
variable {d:V}{u r:Value}
theorem E8 (q:A.units+1<cLine)(I:eQ X pins σ H s)(g:jt H a y o)(p:eY y u)(rd:eY d r)(h:∀w' s',eQ X pins σ H s'→eY (o.getD d) w'→Q w' s'):wpAny (model X.prog X.w) A (call (.builtin "dict.get") [.ref a,u,r]) Q E s:=by
 rcases g with ⟨kvs,k,e,m,l⟩ | ⟨kvs,k,b,e,m,t,l⟩
 ·subst m;obtain⟨z,j,vs,rel,i⟩:=lR I.hok e;refine call_meetsIn PySem.F.slot_dict_get i.typeIs PySem.F.entry_dict_get (PySem.F.args_dict_get_3 _ _ _) (meets_dict_get_default (fA X.prog X.w) a (mL p) j r) ⟨_,i.mapOf,h _ _ (I.tok _) ?_⟩;rw[l];exact(rel.val k).getD rd
 ·subst m;cases (show u=Value.ref b from p);obtain⟨z,j,xs,rel,i⟩:=p3 I.hok e;refine call_meetsIn PySem.F.slot_dict_get i.typeIs PySem.F.entry_dict_get (PySem.F.args_dict_get_3 _ _ _) (meetsH_dict_get_default (tupleKind (fA X.prog X.w)) a b j r) ⟨dt q,k,xs,l8 I.hok t,i,h _ _ (I.tok _) ?_⟩;rw[l];exact(rel.val k).getD rd
end
inductive xw (ty:TE)(tx:TE)(σ:St)(Q:VK)(x:V)(H1:Hp):Prop
 |mk (a:_)(_:x=.ref a)(_:Hg H1 a)(_:ty σ H1 fun y H2=>tx σ H2 fun z H3=>∃o,jt H3 a y o∧Q (o.getD z) H3):xw ty tx σ Q x H1
def Ee (td ty tx:TE):TE:=fun σ H Q=>td σ H fun x H1=>xw ty tx σ Q x H1
inductive xq (ty:TE)(σ:St)(Q:VK)(x:V)(H1:Hp):Prop
 |mk (a:_)(_:x=.ref a)(_:Hg H1 a)(_:ty σ H1 fun y H2=>∃kvs k v,H2 a=some (.dK kvs)∧y=kV k∧eW kvs k=some v∧Q v (upd H2 a (.dK (jG kvs k)))):xq ty σ Q x H1
def Ea (td ty:TE):TE:=fun σ H Q=>td σ H fun x H1=>xq ty σ Q x H1
section
variable {o f:Expr}{apos cpos:Pos}{td ty tx:TE}
theorem jU (G:X.A.units+1<cLine)(C:PE X o td)(M:PE X e ty)(B:PE X f tx)(m:M2 X o "get" apos e f cpos):PE X (.Call (.Attribute o "get" apos) [e,f] [] cpos) (Ee td ty tx):=by
 intro pins s σ H Q I h;refine dz m.base m.few m.line PySem.F.plainAttrs_dict PySem.F.slot_dict_get PySem.F.type_dict_get (fW (C pins s σ H _ I h) ?_);rintro u E ⟨x,H1,i,J,a,ex,d,t⟩;subst ex;obtain rfl:u=Value.ref a:=J;obtain⟨D,j,_⟩:=vG i d;refine⟨D,j,?_⟩;rw[m.trees];refine Calls.callWith_builtin rfl (Calls.evalArgs_plain (Calls.spliced_cons (fW (M pins E σ H1 _ i t) fun T r ⟨y,H2,w,K,N⟩=>Calls.spliced_cons (fW (B pins r σ H2 _ w N) fun U S ⟨z,p,q,L,R,g,v⟩=>Calls.spliced_nil ?_))));exact E8 G q g K L fun P O l b=>⟨_,p,l,b,v⟩
theorem zR (r:PE X o td)(B:PE X e ty)(m:M1 X o "pop" apos e cpos):PE X (.Call (.Attribute o "pop" apos) [e] [] cpos) (Ea td ty):=by
 intro pins s σ H Q I h;refine dz m.base m.few m.line PySem.F.plainAttrs_dict PySem.F.slot_dict_pop PySem.F.type_dict_pop (fW (r pins s σ H _ I h) ?_);rintro u w ⟨x,H1,g,z,a,ex,d,p⟩;subst ex;obtain rfl:u=Value.ref a:=z;obtain⟨t,i,_⟩:=vG g d;refine⟨t,i,?_⟩;rw[m.trees];refine Calls.callWith_builtin rfl (Calls.evalArgs_plain (Calls.spliced_cons (fW (B pins w σ H1 _ g p) ?_)));rintro L J ⟨y,H2,q,A,kvs,k,v,D,C,l,E⟩;refine Calls.spliced_nil ?_;subst C;exact GI q D A l (.inl rfl) fun G K j b=>⟨v,_,j,b,E⟩
end
theorem AZ (I:eQ X pins σ H s)(e:Rd H a (.dK kvs))(h:∀p s',H p=none→eQ X pins σ (upd H p (.dK kvs)) s'→Q (.ref p) s'):wpAny (model X.prog X.w) A (call (.type "dict") [.ref a]) Q E s:=by
 obtain⟨z,i,vs,rel,l⟩:=lR I.hok e;refine kt_call_dict i l (by rw[←rel.length];exact z) fun h' d j=>?_;refine h _ _ (I.hok.fresh (ao _)) (I.laid (a:=s.heap.objs.size) (o:=.dK kvs) (t':=s.toks) (fun b q g=>?_) (ao _) (p9 z (beq_eq_false_iff_ne.mpr (Ne.symm (aT I.big))) rel d));exact(j.2 b (aT (aM g))).trans (ay _ g)
section
variable {u:Value}
end
end L2
namespace Att
open PySem PySem.W PySem.Calls PyProof.Rows
theorem og {P:Params}{h:Heap}:∀(ns:List Int) (vs:List Value),WellAll P h vs (ns.map WData.int)→IntsAre vs ns:=by
 intro ns
 induction ns with
 |nil=>
  intro vs w;rw[cQ]at w;cases w;exact .nil
 |cons n ns ih=>
  intro vs w;rw[aD]at w;cases w with
  |cons a b=>
   cases a;exact .cons _ _ (ih _ b)
theorem xI {l:OpenLaw}{n:Nat}(t:l.most=some n){P:Params}{h:Heap}{args:List WData}{vals:List Value}(b:l.row.toRowW.claim.pre args=true)(m:WellAll P h vals args):∃a vs ns,vals=[Value.ref a]∧args=[WData.list (ns.map WData.int)]∧h.get? a=some {cls:=.type "list",data:=.seq vs.toArray}∧IntsAre vs ns∧ns.length≤n:=by
 have j:WShape.hasAll [] args [.list .int]=true:=(pre_splitW b).1;have o:l.pre.holds [] {args:=args}=true:=(pre_splitW b).2;obtain⟨d,r,rfl,h1,h2⟩:=hasAllW_cons j;obtain rfl:=hasAllW_nil h2;obtain⟨xs,rfl,p⟩:=hasW_list h1;obtain⟨ns,rfl⟩:=items_int p;have e:ns.length≤n:=by
  unfold OpenLaw.pre at o;have g:(WTm.not (.lt (.lit (.int (n:Int))) (.len (.arg 0)))).holds [] {args:=[.list (ns.map .int)]}=true:=by
   have g:=(holds_andW o).1;rw[t]at g;exact g
  have i:=condW_of g (w_not (w_lt w_lit (w_len_list (w_arg rfl))));rw[ab]at i;refine Nat.le_of_not_lt fun q=>?_;have s:(n:Int)<((ns.length:Nat):Int):=by lia
  first
   |(rw[aq s]at i;exact absurd i (by decide))
   |(simp at i;lia)
 cases m with
 |cons w1 w2=>
  cases w2;cases w1 with
  |list ho hall=>exact⟨_,_,ns,rfl,rfl,ho,og ns _ hall,e⟩
theorem xL (l:OpenLaw)(args:List WData):l.row.toRowW.claim.post args (.bool true) args=true:=
 postW_of (r:=l.row.toRowW) (X:=(true == true))
  (show WShape.has [] (.bool true) .bool=true by first | rfl | decide | simp[WShape.has,WShape.arms,WShape.armsAll])
  (show(WTm.eq .res (.lit (.bool true))).value [] {args:=args,res:=some (.bool true),after:=args}=some (.bool (true == true)) from w_eq_bool (w_res rfl) w_lit) rfl
theorem uu {l:OpenLaw}{n:Nat}{q:Program}{loose:List Str}{XP:(Str→Option Value)→Heap→Prop}{YP:World→Heap→Prop}{d:DefRec}(H:l.most=some n)(j:d.params.defaults=[])(call:∀(w:World) (s₀ s₁:Shared) (mg mb:Str→Option Value) (fa:Addr) (o:Obj) (pm cd doc:Value) (a:Addr) (vs:List Value) (ns:List Int),Ground q loose [] XP w s₀ mg mb s₁.heap→YP w s₁.heap→s₁.heap.get? fa=some o→o.data=.func (docDef d.name d.params d.body d.scope pm cd doc)→s₁.heap.CodeRec cd d.name→mg d.name=some (.ref fa)→s₁.heap.get? a=some {cls:=.type "list",data:=.seq vs.toArray}→IntsAre vs ns→ns.length≤n→s₁.gens=#[]→codeAny (model l.prog w) callerA (.call (.ref fa) ⟨[.ref a],[]⟩) (fun r s'=>r=.ok (.ret (.bool true))∧OldK s₁.heap s'.heap∧s'.os=s₁.os∧AllBare s'.gens) s₁):WalkO q loose XP YP l.row.toRowW d [] (fun f vs=>PySem.call f vs):=by
 intro w s₀ s₁ mg mb G Y fa o pm cd doc K kV D z p x m A t v L h y E i J;obtain rfl:K=.none:=Dflts.none x j;obtain rfl:kV=.none:=Dflts.noKw x;obtain⟨a,vs,ns,rfl,rfl,e,b,g⟩:=xI H h i;refine enter_call (codeAny_mono (call w s₀ s₁ mg mb fa o pm cd doc a vs ns G Y D (fd_plain z) p m e b g A) fun r s' B=>?_);obtain⟨rfl,h2,F,C⟩:=B;exact⟨.inl ⟨.bool true,.bool true,[],rfl,fun _=>rfl,.bool true,xL l _,fun _=>⟨List.Pairwise.nil,fun _ I=>(nomatch I)⟩⟩,h2,F,C⟩
section
variable {prog:Program}{w:World}{A:Around}{E:Value→Shared→Prop}{s:Shared}{K:Frag}
end
end Att
namespace L2
open PySem PySem.Spec PyProof.Rows
variable {A B:Prop}{H:Hp}{qual x:Str}{st:Stmt}
theorem mY:∀{vs:List Value} {ns:List Int},IntsAre vs ns→fL (ns.map V.int) vs
 |_,_,.nil=>.nil
 |_,_,.cons n t h=>.cons ⟨t,rfl⟩ (mY h)
def fB (s:Stmt)(j:Nat):Stmt:=match s with
 |.ClassDef _ _ _ body _ _ _ _ _ _ _=>body.getD j (.Pass ⟨0,0,0,0⟩)
 |_=>.Pass ⟨0,0,0,0⟩
def hZ (s:Stmt):Arguments:=match s with
 |.FunctionDef _ a _ _ _ _ _ _ _ _=>a
 |_=>{posonlyargs:=[],args:=[],vararg:=none,kwonlyargs:=[],kw_defaults:=[],kwarg:=none,defaults:=[]}
def gr (s:Stmt):List Stmt:=match s with
 |.FunctionDef _ _ b _ _ _ _ _ _ _=>b
 |_=>[]
def eF (s:Stmt):Scope:=match s with
 |.FunctionDef _ _ _ _ _ _ sc _ _ _=>sc
 |_=>{kind:=.function,names:=[],isGenerator:=false,isCoroutine:=false}
abbrev ff:xB:=fun _ _ _ _ _ _=>False
abbrev E0:XK:=fun _ _ _=>False
theorem eT {X:Cx}:jR ff X E0:=fun _ _ _ _ _ _ _ h=>h.elim
structure iN (K:W.Frag)(x qual:Str)(st:Stmt)(f:Addr)(fd:FuncData):Prop where
 ex:∃(oc:Value) (od:Option Addr) (kV doc pm:Value) (an:Option Addr) (cdv ct:Value) (osl:Array (Option Value)),
  fd=W.fnOf x qual (hZ st) (gr st) (eF st) .none kV doc pm an cdv ct∧K.lookup f=some ⟨oc,od,.func fd,osl⟩∧W.codeIn K cdv qual=true
 kp:W.keepIn K (.ref f)=true
section
variable {P:Program}{w:World}{K:W.Frag}{mg:Str→Option Value}{base:Heap}
theorem iN.ok {f:Addr}{fd:FuncData}{N ps:List Str}{k:Nat}{sp:Sp}(F:iN K x qual st f fd)(S:eN N ps (eF st))(len:∀vs H Q E,sp vs H Q E→vs.length=ps.length)(a:∀(cdv:Value) (A:Around) (outer:List Env) (s:Shared) (H:Hp) (vs:List V) (Q:VK) (E:XK),gK k (A.deeper (envOfC qual (eF st) s.heap.objs.size f cdv))→sp vs H Q E→∃t,mj (qt ff P w K mg base N qual (eF st) f cdv A outer s H E).nox (gr st) t∧t {nx:=fun _ H'=>Q .non H',rt:=Q} (start N vs) H):eZ P w K mg base ff (k+1) f fd ps sp:=by
 obtain⟨l,o,kV,i,pm,m,cdv,p,j,rfl,e,d⟩:=F.ex;refine Ds e d S len fun A outer s H vs Q E g b=>?_;obtain⟨t,h,q⟩:=a cdv A outer s H vs Q E g b;exact⟨t,h.nox,q⟩
theorem iN.binds {f:Addr}{fd:FuncData}{ps:List Str}(F:iN K x qual st f fd)(h:∀(kV doc pm:Value) (an:Option Addr) (cdv ct:Value) (us:List Value),us.length=ps.length→bindArgs (W.fnOf x qual (hZ st) (gr st) (eF st) .none kV doc pm an cdv ct) ⟨us,[]⟩=pure (ps.zip us)):gl K fd ps []:=by
 obtain⟨g,d,kV,doc,pm,an,cdv,ct,b,rfl,e,a⟩:=F.ex;exact .all (h kV doc pm an cdv ct)
theorem nJ {f:Addr}{oc:Value}{od an:Option Addr}{osl:Array (Option Value)}{kV doc pm cdv ct:Value}(l:K.lookup f=some ⟨oc,od,.func (W.fnOf x qual (hZ st) (gr st) (eF st) .none kV doc pm an cdv ct),osl⟩)(c:W.codeIn K cdv qual=true)(k:W.keepIn K (.ref f)=true):iN K x qual st f (W.fnOf x qual (hZ st) (gr st) (eF st) .none kV doc pm an cdv ct):=⟨⟨oc,od,kV,doc,pm,an,cdv,ct,osl,rfl,l,c⟩,k⟩
end
theorem gN {A:Around}{k:Nat}(hr:gK k A):A.units+1<cLine:=bw (Nat.add_le_add_left (by decide:1≤64) _) hr.units
theorem eV {n:Nat}(h:n≤1000):n<sizeLine:=bw h (by decide)
section
variable {X:Cx}
theorem pv (i:Nat){pos:Pos}(hN:X.N[i]?=some x:=by rfl)(hv:DF X.env.scope x:=by first | exact Or.inl rfl | exact Or.inr (Or.inl rfl) | exact Or.inr (Or.inr rfl))(hd:(x == ("__debug__" : Str))=false:=by decide)(hcd:(x == ("__classdict__" : Str))=false:=by decide):PE X (.Name x pos) (nZ i):=Ey hN hv hd hcd
end
theorem fC (h:B):if false=true then A else B:=by
 rw[if_neg aN];exact h
theorem gW (h:A):if true=true then A else B:=by
 rw[if_pos rfl];exact h
theorem jm {c:Prop} [Decidable c] (h1:c→A)(h2:¬c→B):if c then A else B:=by
 by_cases h:c
 ·rw[if_pos h];exact h1 h
 ·rw[if_neg h];exact h2 h
def eG (H H':Hp):Prop:=∀b o,H b=some o→H' b=some o
theorem eG.refl (H:Hp):eG H H:=fun _ _ h=>h
theorem eG.trans {H1 H2:Hp}(a:eG H H1)(b:eG H1 H2):eG H H2:=fun c o h=>b c o (a c o h)
theorem eG.free {H':Hp}(e:eG H H'){l:Addr}(h:H' l=Option.none):H l=Option.none:=by
 cases q:H l with
 |none=>rfl
 |some o=>
  rw[e l o q]at h;cases h
theorem eG.seq {K:W.Frag}{H':Hp}{a:Addr}{xs:List V}(e:eG H H')(h:fb K H a xs):fb K H' a xs:=by
 rcases h with (h | ⟨o,h⟩) | h
 ·exact .inl (.inl (e _ _ h))
 ·exact .inl (.inr ⟨o,e _ _ h⟩)
 ·exact .inr h
section
variable {κ:Type} [DecidableEq κ]
theorem iE {kvs:List (κ×V)}{k:κ}{v:V}(h:eW kvs k=some v):k∈kvs.map (·.1):=by
 have q:(kvs.any fun a=>decide (a.1=k))=true:=by
  rw[iJ,h]
  all_goals rfl
 obtain⟨p,hp,e⟩:=dG.mp q;exact aA.mpr ⟨p,hp,aW e⟩
theorem wy:∀{l:List κ} {k:κ},l.Nodup→¬k∈l→(l++[k]).Nodup
 |[],k,_,_=>by simp
 |a::r,k,h,hk=>by
  obtain⟨h1,h2⟩:=aX.mp h;show(a::(r++[k])).Nodup;refine aX.mpr ⟨fun m=>?_,wy h2 fun m=>hk (am.mpr (Or.inr m))⟩;rcases az.mp m with q | q
  ·exact h1 q
  ·exact hk (am.mpr (Or.inl (aj.mp q).symm))
end
end L2
set_option maxHeartbeats 4000000
namespace L2
open PySem PySem.Spec PyProof.Rows
variable {A:Around}{E Q:Value→Shared→Prop}{H H':Hp}{K:W.Frag}{N':List Str}{P:Program}{X:Cx}{a d:Addr}{e:Expr}{es:Array DictEntry}{g:TG}{h:Heap}{i j:Nat}{ks:List fM}{kvs:List (fM×V)}{p pos:Pos}{pins:List (Addr×Obj)}{s:Shared}{scope:Scope}{te:TE}{tt:TT}{v:Value}{w:World}{xs:List (fM×Value×Value)}{y:V}{σ:St}
mutual
inductive oN (H:Hp):V→PyData→Prop
 |non:oN H .non .none
 |bl (b:Bool):oN H (.bl b) (.bool b)
 |int (i:Int):oN H (.int i) (.int i)
 |str (x:Str):oN H (.str x) (.str x)
 |lst {a:Addr} {xs:List V} {ds:List PyData}:H a=some (.lst xs)→oj H xs ds→oN H (.ref a) (.list ds)
 |tup {a:Addr} {xs:List V} {ds:List PyData}:H a=some (.tup xs)→oj H xs ds→oN H (.ref a) (.tuple ds)
inductive oj (H:Hp):List V→List PyData→Prop
 |nil:oj H [] []
 |cons {v:V} {d:PyData} {vs:List V} {ds:List PyData}:oN H v d→oj H vs ds→oj H (v::vs) (d::ds)
end
mutual
theorem oN.reads (I:eQ X pins σ H s):∀{v:V} {d:PyData} {u:Value},oN H v d→eY v u→∃as,Reads s.heap u d as
 |_,_,u,.non,r=>by cases (show u=Value.none from r);exact⟨_,.none⟩
 |_,_,u,.bl b,r=>by cases (show u=Value.bool b from r);exact⟨_,.bool b⟩
 |_,_,u,.int i,r=>by obtain⟨t,e⟩:=(show ∃t,u=Value.int i t from r);subst e;exact⟨_,.int i t⟩
 |_,_,u,.str x,r=>by obtain⟨t,e⟩:=(show ∃t,u=Value.str x t from r);subst e;exact⟨_,.str x t⟩
 |_,_,u,.lst (a:=a) (xs:=xs) h q,r=>by
  cases (show u=Value.ref a from r);obtain⟨z,its,n,rv,e⟩:=(show fN X.prog X.w H s.heap a (.lst xs) from I.hok a _ h);obtain⟨as,k⟩:=oj.readsAll I q rv;exact⟨_,.list e rfl rfl (by simpa using k)⟩
 |_,_,u,.tup (a:=a) (xs:=xs) h q,r=>by
  cases (show u=Value.ref a from r);obtain⟨z,its,rv,o,e,c,n,dd⟩:=(show fN X.prog X.w H s.heap a (.tup xs) from I.hok a _ h);obtain⟨as,k⟩:=oj.readsAll I q rv;exact⟨_,.tuple e c dd (by simpa using k)⟩
theorem oj.readsAll (I:eQ X pins σ H s):∀{vs:List V} {ds:List PyData} {us:List Value},oj H vs ds→fL vs us→∃as,ReadsAll s.heap us ds as
 |_,_,_,.nil,.nil=>⟨_,.nil⟩
 |_,_,_,.cons r t,.cons h k=>by
  obtain⟨as,e⟩:=oN.reads I r h;obtain⟨bs,f⟩:=oj.readsAll I t k;exact⟨_,.cons e f⟩
end
inductive DW (x:V)(y:V)(H:Hp)(Q:VK):Prop
 |mk (d e:_)(_:oN H x d)(_:oN H y e)(_:SeqAt.shaped d=true)(_:SeqAt.shaped e=true)(_:Q (.bl (PyData.eqv d e)) H):DW x y H Q
def Iq:R2:=fun x y H Q=>DW x y H Q
inductive DS (x:V)(y:V)(H:Hp)(Q:VK):Prop
 |mk (d e:_)(_:oN H x d)(_:oN H y e)(_:SeqAt.shaped d=true)(_:SeqAt.shaped e=true)(_:Q (.bl (!PyData.eqv d e)) H):DS x y H Q
def Ip:R2:=fun x y H Q=>DS x y H Q
theorem Ac (b:X.A.units+64<cLine):nO X (compareOp .Eq) Iq:=by
 intro pins s σ H x y u v Q I g j h;obtain⟨d,e,h1,h2,i,m,q⟩:=h;obtain⟨o,a⟩:=h1.reads I g;obtain⟨bs,l⟩:=h2.reads I j;exact eq_dataH a l i m b ⟨.bl _,H,I,rfl,q⟩
theorem Aa (b:X.A.units+64<cLine):nO X (compareOp .NotEq) Ip:=by
 intro pins s σ H x y u v Q I g j h;obtain⟨d,e,h1,h2,i,m,q⟩:=h;obtain⟨o,a⟩:=h1.reads I g;obtain⟨bs,l⟩:=h2.reads I j;exact ne_dataH a l i m b ⟨.bl _,H,I,rfl,q⟩
inductive DV (neg:Bool)(x:V)(y:V)(H:Hp)(Q:VK):Prop
 |mk (d es:_)(_:oN H x d)(_:oN H y (.list es))(_:d.canLay0=true)(_:PyData.canLayAll0 es=true)(_:d.depth≤60)(_:Q (.bl (if neg then !(es.any fun z=>PyData.eqv z d) else es.any fun z=>PyData.eqv z d)) H):DV neg x y H Q
def Gg (neg:Bool):R2:=fun x y H Q=>DV neg x y H Q
theorem EC (m:X.A.units+64<cLine):nO X (compareOp .In) (Gg false):=by
 intro pins s σ H x y u v Q I b g h;obtain⟨d,es,h1,h2,e,j,o,q⟩:=h;obtain⟨l,a⟩:=h1.reads I b;obtain⟨bs,i⟩:=h2.reads I g;refine SeqAt.in_list_reads i a j e ?_ ⟨.bl _,H,I,rfl,q⟩;have:=Nat.min_le_right (PyData.depthAll es) d.depth
 lia
theorem jh (m:X.A.units+64<cLine):nO X (compareOp .NotIn) (Gg true):=by
 intro pins s σ H x y u v Q I b g h;obtain⟨d,es,h1,h2,e,j,o,q⟩:=h;obtain⟨l,a⟩:=h1.reads I b;obtain⟨bs,i⟩:=h2.reads I g;refine SeqAt.notIn_list_reads i a j e ?_ ⟨.bl _,H,I,rfl,q⟩;have:=Nat.min_le_right (PyData.depthAll es) d.depth
 lia
theorem fN.some {o:HO}(x:fN P w H h a o):∃ob,h.get? a=Option.some ob:=by
 cases o with
 |lst xs=>obtain⟨_,_,_,_,e⟩:=x;exact⟨_,e⟩
 |tup xs=>obtain⟨_,_,_,o,e,_⟩:=x;exact⟨o,e⟩
 |dK kvs=>obtain⟨_,_,_,_,o,_,_,e,_⟩:=x;exact⟨o,e⟩
 |dT kvs=>obtain⟨_,_,_,_,o,_,_,e,_⟩:=x;exact⟨o,e⟩
 |dN kvs=>obtain⟨_,_,_,_,o,_,_,e,_⟩:=x;exact⟨o,e⟩
 |set S n=>obtain⟨o,_,_,_,e,_⟩:=x;exact⟨o,e⟩
 |ins C dx fs=>obtain⟨_,_,_,e,_⟩:=x;exact⟨_,e⟩
 |own y=>exact x
 |xd fs=>obtain⟨_,⟨o,_,_,e,_⟩,_⟩:=x;exact⟨o,e⟩
 |rng lo hi=>obtain⟨_,_,_,e⟩:=x;exact⟨_,e⟩
 |frz ob u=>exact⟨_,x.1⟩
 |tbl ps=>exact⟨_,x⟩
 |met f y=>exact⟨_,x⟩
 |ext φ=>exact x.2.1
section
variable {x:Addr}{cls:Value}{M:Model}
theorem eQ.J1 {b:Addr}(I:eQ X pins σ H s)(a:s.heap.get? b=none)(h:H' b=none):jw X pins H' b:=by
 refine⟨h,fun z=>?_,fun z=>?_,?_,fun y c e z=>?_,fun p hp z=>?_⟩
 ·obtain⟨m,⟨o,_,_,d,_⟩,_⟩:=I.loc;rw[z,d]at a;cases a
 ·obtain⟨_,o,d,_⟩:=I.funs.mem z;rw[d]at a;cases a
 ·by_cases hx:b∈X.ex
  ·exact .inl hx
  ·refine .inr ?_;cases e:X.s₀.heap.get? b with
   |none=>rfl
   |some o=>
    obtain⟨o',g⟩:=I.base.there b o e hx;rw[g]at a;cases a
 ·obtain⟨v,o,d,_⟩:=I.cell y c e;rw[z,a]at d;cases d
 ·have q:=(I.pin p hp).1;rw[z,a]at q;cases q
end
section
variable {s':Shared}{e:Value}{E:XK}
end
section
variable {mg:Str→Option Value}{base:Heap}
end
section
variable {x:Str}{np cpos:Pos}{a:Expr}{t:TA}{C:Addr}{bmB:List Value}{B newId initId:String}{W:List (Addr×Obj)→St→Value→Hp→Prop}
end
section
variable {pins':List (Addr×Obj)}{A':Around}{c':Bool}{E':Value→Shared→Prop}{pn':List (Addr×Obj)}
end
section
variable {CX:xB}{k:Nat}{f:Addr}{fd:FuncData}{ps:List Str}{sp:Sp}{EX:St→XK}{x:Str}{es:List Expr}{t:TA}
end
abbrev vL (X:Cx)(N':List Str)(scope:Scope)(cl:List (Str×Addr))(C:Addr)(s₂:Shared)(H₂:Hp)(fp:List Addr):Cx:=
 {X with N:=N',s₀:=s₂,H₀:=H₂,env:=compEnvC scope cl C X.env,outer:=X.stack,ex:=fp,fn:=fun _=>false,pn:=[],xe:=fun _ _=>False}
def GK (n:Nat)(g:TG):Prop:=∀v σ H Q,g v σ H Q→g v σ H fun σ2 H2=>Q σ2 H2∧σ2.length=σ.length∧∀i,n≤i→σ2[i]?=σ[i]?
def HG (n:Nat)(g:xn):Prop:=∀v σ H Q,g v σ H Q→g v σ H fun σ2 H2=>Q σ2 H2∧σ2.length=σ.length∧∀i,n≤i→σ2[i]?=σ[i]?
theorem ig {n:Nat}(h:i<n):GK n (i8 i):=fun v σ H Q q=>by
 refine⟨q,by simp,fun j hj=>?_⟩;rw[List.getElem?_set_ne (by lia)]
theorem C3 {n:Nat}:HG n E5:=(by rintro v σ H Q ⟨e,q⟩;exact⟨e,q,rfl,fun _ _=>rfl⟩)
def GM (g:TG):Prop:=∀v σ H (Q Q':St→Hp→Prop),(∀a b,Q a b→Q' a b)→g v σ H Q→g v σ H Q'
def HF (g:xn):Prop:=∀v σ H (Q Q':St→Hp→Prop),(∀a b,Q a b→Q' a b)→g v σ H Q→g v σ H Q'
theorem sP:GM (i8 i):=fun _ _ _ _ _ h q=>h _ _ q
theorem wG:HF E5:=(by rintro _ _ _ _ _ h ⟨e,q⟩;exact⟨e,h _ _ q⟩)
theorem AL {t:TG}{u:xn}(ht:GM t)(hu:HF u):HF (AN t u):=(by rintro v σ H Q Q' h ⟨x,r,e,q⟩;exact⟨x,r,e,ht _ _ _ _ _ (fun a b z=>hu _ _ _ _ _ h z) q⟩)
theorem ub {n:Nat}{t:TG}{u:xn}(ht:GK n t)(mt:GM t)(hu:HG n u)(mu:HF u):HG n (AN t u):=fun v σ H Q ⟨x,r,e,q⟩=>by
 refine⟨x,r,e,mt _ _ _ _ _ (fun a b z=>?_) (ht _ _ _ _ q)⟩;obtain⟨z1,z2,z3⟩:=z;refine mu _ _ _ _ _ (fun c d y=>?_) (hu _ _ _ _ z1);exact⟨y.1,y.2.1.trans z2,fun i hi=>(y.2.2 i hi).trans (z3 i hi)⟩
theorem E4 {n m:Nat}{t:xn}(h:HG n t):GK n (GF K m t):=(by rintro v σ H Q ⟨a,xs,e,s,l,q⟩;exact⟨a,xs,e,s,l,h _ _ _ _ q⟩)
def Hz (X:Cx)(ifs:List Expr)(t:TT):Prop:=
 ∀(pins:List (Addr×Obj)) (s:Shared) (σ:St) (H:Hp) (Q:Bool→Hp→Prop),eQ X pins σ H s→t σ H Q→
  wpAny (model X.prog X.w) X.A (forIn ifs true fun c r=>if r=true then do let ok ←isTrue c X.env (eval c X.env);pure (ForInStep.yield ok) else pure (ForInStep.yield r)) (TP X pins σ Q) X.xe s
def rj:TT:=fun _ H Q=>Q true H
theorem jz:Hz X [] rj:=fun pins s σ H Q I h=>wpAny_tests_nil ⟨H,I,h⟩
theorem mD {c:Expr}{t:TT}(h:PT X c t):Hz X [c] t:=fun pins s σ H Q I q=>wpAny_tests_one (h pins s σ H Q I q)
def rf (J:It)(g:TG)(tt:TT)(te:TE)(σ':St)(H1:Hp)(Q:VK):Prop:=∀D,H1 D=none→∃W:Nat→Nat→List V→Hp→Prop,(∃m,W 0 m [] (upd H1 D (.lst [])))∧∀i m ys H,W i m ys H→H D=some (.lst ys)∧ys.length<sizeLine∧
 ((J.stop i H∧Q (.ref D) H)∨(J.go i H∧∃N:List V→Hp→Prop,(∀zs H',N zs H'→∃m',m'<m∧W (i+1) m' zs H')∧∀x H2,J.yld i H x H2→g x σ' H2 fun σ2 H3=>tt σ2 H3 fun b H4=>if b=true then te σ2 H4 fun y H5=>H5 D=some (.lst ys)∧N (ys++[y]) (upd H5 D (.lst (ys++[y]))) else N ys H4))
theorem ia {xs:List V}{σ':St}{H1:Hp}{Q:VK}(d:Addr→Nat→List V→Hp→Prop)(o:∀D,H1 D=none→d D 0 [] (upd H1 D (.lst [])))(l:∀D i ys H,i≤xs.length→d D i ys H→fb K H a xs∧H D=some (.lst ys)∧ys.length<sizeLine)(q:∀D i x ys H,xs[i]?=some x→d D i ys H→g x σ' H fun σ2 H3=>tt σ2 H3 fun b H4=>if b=true then te σ2 H4 fun y H5=>H5 D=some (.lst ys)∧d D (i+1) (ys++[y]) (upd H5 D (.lst (ys++[y]))) else d D (i+1) ys H4)(j:∀D ys H,d D xs.length ys H→Q (.ref D) H):rf (Fi K a) g tt te σ' H1 Q:=by
 intro D r;refine⟨fun i m ys H=>m=xs.length-i∧i≤xs.length∧d D i ys H,⟨xs.length,by simp,bp _,o D r⟩,?_⟩;rintro i m ys H ⟨rfl,hi,p⟩;obtain⟨h,v,t⟩:=l D i ys H hi p;refine⟨v,t,?_⟩;by_cases hlt:i<xs.length
 ·refine .inr ⟨⟨xs,xs[i],h,by simp[hlt]⟩,d D (i+1),fun zs H' s=>⟨xs.length-(i+1),by lia,rfl,hlt,s⟩,fun x H' y=>?_⟩;obtain⟨e,y⟩:=y;subst e;exact q D i x ys _ (y xs h) p
 ·have e:i=xs.length:=by lia
  subst e;exact .inl ⟨⟨xs,h,ao _⟩,j D ys H p⟩
theorem vM {lo:Int}{n:Nat}{σ':St}{H1:Hp}{Q:VK}(a:Addr→Nat→List V→Hp→Prop)(j:∀D,H1 D=none→a D 0 [] (upd H1 D (.lst [])))(h:∀D i ys H,i≤n→a D i ys H→H D=some (.lst ys)∧ys.length<sizeLine)(l:∀D i ys H,i<n→a D i ys H→g (.int (lo+i)) σ' H fun σ2 H3=>tt σ2 H3 fun b H4=>if b=true then te σ2 H4 fun y H5=>H5 D=some (.lst ys)∧a D (i+1) (ys++[y]) (upd H5 D (.lst (ys++[y]))) else a D (i+1) ys H4)(d:∀D ys H,a D n ys H→Q (.ref D) H):rf (Fh lo n) g tt te σ' H1 Q:=by
 intro D o;refine⟨fun i m ys H=>m=n-i∧i≤n∧a D i ys H,⟨n,by simp,bp _,j D o⟩,?_⟩;rintro i m ys H ⟨rfl,hi,p⟩;obtain⟨s,r⟩:=h D i ys H hi p;refine⟨s,r,?_⟩;by_cases hlt:i<n
 ·refine .inr ⟨hlt,a D (i+1),fun zs H' q=>⟨n-(i+1),by lia,rfl,hlt,q⟩,fun x H' y=>?_⟩;obtain⟨e,y⟩:=y;subst e y;exact l D i ys _ hlt p
 ·have e:i=n:=by lia
  subst e;exact .inl ⟨ao _,d D ys H p⟩
structure iD (X:Cx)(N':List Str)(scope:Scope)(cl:List (Str×Addr))(n:Nat)(js:List Nat):Prop where
 clos:closureFor scope X.env=pure cl
 cell:∀y∈scope.names,y.2≠.cell
 kind:scope.kind=.function
 names:∀y∈scope.names,y.2=.local→scope.names.lookup y.1=some .local
 sub:∀y c,cl.lookup y=some c→X.env.cells.lookup y=some c
 has:∀y,((relabel scope X.env).names.lookup y=some .cell∨(relabel scope X.env).names.lookup y=some .free)→∃c,cl.lookup y=some c
 len:N'.length=n+js.length
 frees:∀(k j:Nat),js[k]?=some j→∃y,N'[n+k]?=some y∧X.N[j]?=some y∧(X.env.kindOf y=some .cell∨X.env.kindOf y=some .free)∧
  ((relabel scope X.env).names.lookup y=some .cell∨(relabel scope X.env).names.lookup y=some .free)∧cl.lookup y=X.env.cells.lookup y
theorem qm {env:Env}(h:∀y∈scope.names,y.2≠.free):(relabel scope env).names=scope.names:=by
 show scope.names.map _=scope.names;refine map_eq_self fun y b=>?_;obtain⟨a,k⟩:=y;have e:(k == NameKind.free)=false:=by simpa using h _ b
 simp[e]
theorem iD.closed {n:Nat}(a:∀y∈scope.names,y.2≠.free)(b:∀y∈scope.names,y.2≠.cell)(d:scope.kind=.function)(i:∀y∈scope.names,y.2=.local→scope.names.lookup y.1=some .local)(g:N'.length=n):iD X N' scope [] n [] where
 clos:=closureFor_none a
 cell:=b
 kind:=d
 names:=i
 sub:=fun y c e=>by simp at e
 has:=fun y h=>by
  rw[qm a]at h;rcases h with h | h
  ·exact absurd rfl (b _ (bo h))
  ·exact absurd rfl (a _ (bo h))
 len:=by simpa using g
 frees:=fun k j e=>by simp at e
theorem iD.one {y:Str}{c:Addr}{n:Nat}(h1:closureFor scope X.env=pure [(y,c)])(h2:X.env.cells.lookup y=some c)(r:∀z∈scope.names,z.2≠.cell)(C:scope.kind=.function)(A:∀z∈scope.names,z.2=.local→scope.names.lookup z.1=some .local)(s:∀z∈scope.names,z.2=.free→z.1=y)(x:N'[n]?=some y)(t:N'.length=n+1)(D:X.N[j]?=some y)(v:X.env.kindOf y=some .cell)(w:(relabel scope X.env).names.lookup y=some .cell):iD X N' scope [(y,c)] n [j] where
 clos:=h1
 cell:=r
 kind:=C
 names:=A
 sub:=fun z d e=>by
  by_cases q:z=y
  ·subst q;rw[aY,beq_self_eq_true]at e;rw[h2];exact e
  ·have b:(z == y)=false:=beq_false_of_ne q;rw[aY,b]at e;simp at e
 has:=fun z h=>by
  have mem:∃k,(k=NameKind.cell∨k=NameKind.free)∧(z,k)∈(relabel scope X.env).names:=by
   rcases h with h | h
   ·exact⟨_,.inl rfl,bo h⟩
   ·exact⟨_,.inr rfl,bo h⟩
  obtain⟨k,g,B⟩:=mem;obtain⟨⟨a,m⟩,p,e⟩:=aA.mp (show(z,k)∈scope.names.map _ from B);have G:z=y:=by
   by_cases hfree:m=.free
   ·have F:z=a:=by
     dsimp only at e
     split at e
     ·exact(Prod.mk.inj e).1.symm
     ·exact(Prod.mk.inj e).1.symm
    rw[F];exact s _ p hfree
   ·have b:(m == NameKind.free)=false:=by simpa using hfree
    simp only[b,bY,ci,if_false]at e;have o:=(Prod.mk.inj e).2;rcases g with q | q
    ·exact absurd (o.trans q) (r _ p)
    ·exact absurd (o.trans q) hfree
  subst G;exact⟨c,by rw[aY,beq_self_eq_true]⟩
 len:=by simpa using t
 frees:=fun k i e=>by
  have l:k=0:=by
   cases k with
   |zero=>rfl
   |succ k=>simp at e
  subst l;have E:j=i:=by simpa using e
  subst E;exact⟨y,x,D,.inl v,.inl w,by rw[h2,aY,beq_self_eq_true]⟩
def frees (n:Nat)(js:List Nat)(σ:St):St:=List.replicate n none++js.map fun j=>σ.getD j none
section
variable {s₂:Shared}{H₂:Hp}{elt iter target:Expr}{ifs:List Expr}{cl:List (Str×Addr)}{n:Nat}{js:List Nat}
theorem vN {J:It}{fp:List Addr}{it:Addr}{tn:Nat→Heap→Prop}{RR:Value→Addr→Result→Shared→Prop}{Q:VK}(hc:X.calm=true)(S:iD X N' scope cl n js)(gk:GK n g)(hg:∀C s₂ H₂ fp,PG (vL X N' scope cl C s₂ H₂ fp) target g)(ht:∀C s₂ H₂ fp,Hz (vL X N' scope cl C s₂ H₂ fp) ifs tt)(he:∀C s₂ H₂ fp,PE (vL X N' scope cl C s₂ H₂ fp) elt te)(I:eQ X pins σ H₂ s₂)(T:sX X.prog X.w X.K target J fp it tn)(st:tn 0 s₂.heap)(B:∀b∈fp,jw X pins H₂ b)(R:rf J g tt te (frees n js σ) H₂ Q)(bf:∀D C s' H',eQ X pins σ H' s'→(∃m,s'.heap.Ns C m)→jw X pins H' C→Q (.ref D) H'→RR (.ref D) C (.ok .next) s'):wpAny (model X.prog X.w) X.A (newList []) (fun acc s₃=>wpAny (model X.prog X.w) X.A (newFunctionEnv scope X.env.globals cl [] X.env.qual none .none (some X.env)) (fun cenv s₄=>codeAny (model X.prog X.w) X.A (.compStart (.ListComp elt [⟨target,iter,ifs,0⟩] scope pos) 0 (.ref it) acc {cenv with scope:=relabel scope X.env}) (RR acc cenv.locals) s₄) E s₃) E s₂:=by
 refine dW (wpAny_newFunctionEnv S.cell (by intro y hy;simp at hy) (fun h1 Y G=>?_) S.kind);dsimp only at Y G ⊢;generalize P:s₂.heap.push {cls:=.type "list",dict:=none,data:=.seq ([]:List Value).toArray}=h3 at Y G ⊢;generalize Z:s₂.heap.objs.size=D at *;generalize bx:h3.objs.size=C at *;have eC:C=D+1:=by rw[←bx,←P,dU,Z]
 have as:D≠C:=by lia
 have U:∀b o,s₂.heap.get? b=some o→b<D:=fun b o e=>Z▸aM e;have old:∀b o,s₂.heap.get? b=some o→h1.get? b=some o:=fun b o e=>by
  have l:=U b o e;refine G.extBut b o (aT (aZ l (by lia))) (ay _ ?_)
  rw[←P];exact ay _ e
 have ah:h1.get? D=some {cls:=.type "list",data:=.seq ([]:List Value).toArray 0}:=by
  refine G.extBut D _ as (ay _ ?_)
  rw[←P,←Z];exact aJ _ rfl
 have b2:s₂.heap.get? D=none:=Z▸bg (ao _);have bm:s₂.heap.get? C=none:=bg (by lia);have a0:H₂ D=none:=I.hok.fresh (by lia);have bq:H₂ C=none:=I.hok.fresh (by lia);have L:∀b∈fp,b<D:=fun b a=>by
  obtain⟨o,e,_⟩:=T.obj 0 _ st b a;exact U b o e
 obtain⟨W,⟨m0,w0⟩,a6⟩:=R D a0;have F:(vL X N' scope cl C s₂ H₂ fp).Ok:=by
  refine⟨I.ok.mod,S.kind,I.ok.glob,I.ok.blt,?_,?_,fun y hy=>S.has y hy,(fun y c hf _=>by cases hf),I.ok.hd,I.ok.frames,.inl rfl,?_,I.bs,br I.ok.bsz I.sz,?_,?_,I.stack,I.JM⟩
  ·show s₂.heap.objs.size≤C
   lia
  ·exact fun y z c h1 h2=>I.ok.inj y z c (S.sub y c h1) (S.sub z c h2)
  ·intro b a;refine⟨?_,fun y c e=>(B b a).2.2.2.2.1 y c (S.sub y c e)⟩;exact aT (aZ (L b a) (show D≤C by lia))
  ·intro b o e a;rcases (B b a).2.2.2.1 with z | z
   ·exact I.ok.noex b o e z
   ·rw[(I.ok.bs b o e).1]at z;cases z
  ·intro b a hz;rcases am.mp (I.JL b hz) with z | z
   ·exact(B b a).2.1 z
   ·exact(B b a).2.2.1 z
 have I4:eQ (vL X N' scope cl C s₂ H₂ fp) [] (frees n js σ) (upd H₂ D (.lst [])) {s₂ with heap:=h1,toks:=s₂.toks+([]:List (Str×Value)).length}:=by
  refine⟨F,rfl,I.bare,?_,⟨_,Y,fun i y v e1 t e3=>?_⟩,fun y c e=>?_,?_,fun y c e=>?_,fun p hp=>absurd hp (by simp),?_,?_⟩
  ·exact Un.laid (fun b u e=>old b u e) (dm Z) a0
  ·have b3:n≤i:=by
    refine Nat.le_of_not_lt fun hi=>?_;unfold frees at t;rw[aI (by simpa using hi),List.getElem?_replicate]at t
    split at t <;> cases t
   obtain⟨k,rfl⟩:∃k,i=n+k:=⟨i-n,by lia⟩;unfold frees at t;rw[aU (by simp),List.length_replicate,Nat.add_sub_cancel_left,ae]at t
   cases ej:js[k]? with
   |none=>rw[ej]at t;cases t
   |some j=>
    rw[ej]at t;have h:σ.getD j none=some v:=Option.some.inj t;obtain⟨y',a1,a2,a3,a4,a5⟩:=S.frees k j ej;have ey:y'=y:=Option.some.inj (a1.symm.trans e1);subst ey;have e4:σ[j]?=some (some v):=by
     rw[bc]at h;cases q:σ[j]? with
     |none=>rw[q]at h;cases h
     |some z=>rw[q]at h;exact congrArg some h
    obtain⟨m,hm,hl⟩:=I.loc;have bv:DF X.env.scope y':=by
     rcases a3 with z | z
     ·exact .inr (.inl z)
     ·exact .inr (.inr z)
    obtain⟨u,ru,lk⟩:=hl j y' v a2 e4 bv;refine⟨u,ru,?_⟩;rcases lk with ⟨z,_⟩ | ⟨_,c,z1,o,z2,z3⟩
    ·rcases a3 with y | y <;> (rw[z]at y;cases y)
    ·exact .inr ⟨a4,c,a5.trans z1,o,old c o z2,z3⟩
  ·obtain⟨v,o,z1,z2⟩:=I.cell y c (S.sub y c e);exact⟨v,o,old c o z1,z2⟩
  ·show upd H₂ D _ C=none;rw[ef (Ne.symm as)];exact bq
  ·obtain⟨v,o,z1,z2⟩:=I.cell y c (S.sub y c e);have l:=U c o z1;rw[ef (aT l)];exact I.freeC y c (S.sub y c e)
  ·exact I.hok.laid old (dm Z) ⟨bp _,[],0,.nil,ah⟩
  ·unfold frees;show _=N'.length;rw[S.len,aE,List.length_replicate,ab]
 have fY:∀{H':Hp},(∀b∈fp,H' b=none)→∀b∈fp,jw (vL X N' scope cl C s₂ H₂ fp) [] H' b:=fun hn b a=>by
  refine⟨hn b a,(F.exf b a).1,F.exfs b a,.inl a,(F.exf b a).2,fun p hp=>absurd hp (by simp)⟩
 have ad:tn 0 h1:=T.keep _ _ _ st fun b a o e=>old b o e;have b1:∀b∈fp,upd H₂ D (.lst []) b=none:=fun b a=>by
  rw[ef (aT (L b a))];exact(B b a).1
 have M:∀s3:Shared,s3={s₂ with heap:=h1,toks:=s₂.toks+([]:List (Str×Value)).length}→
   codeAny (model X.prog X.w) X.A (.compLoop (.ListComp elt [⟨target,iter,ifs,0⟩] scope pos) 0 (.ref it) (.ref D) (compEnvC scope cl C X.env)) (RR (.ref D) C) s3:=by
  rintro s3 rfl;refine codeAny_loop rfl (fun k s'=>∃i ys H',eQ (vL X N' scope cl C s₂ H₂ fp) [] (frees n js σ) H' s'∧tn i s'.heap∧(∀b∈fp,H' b=none)∧W i k ys H') (fun k s5 hI=>?_) m0 ⟨0,[],_,I4,ad,b1,w0⟩;obtain⟨i,ys,H5,I5,aa,an,w5⟩:=hI;obtain⟨b4,a8,bd⟩:=a6 i k ys H5 w5;show wpAny _ X.A ((compTurn (.ListComp elt [⟨target,iter,ifs,0⟩] scope pos) 0 (.ref it) (.ref D) (compEnvC scope cl C X.env)).onRaise (fun x=>do noteFrame x (compEnvC scope cl C X.env);theTreesLotGoes x)) _ _ s5;refine wpAny_noted ?_;rw[compTurn_list];refine ac (wpAny_standAt ?_);rcases bd with ⟨stop,q⟩ | ⟨go,NN,a9,step⟩
  ·refine ac (fW (T.done (vL X N' scope cl C s₂ H₂ fp) rfl rfl rfl hc i [] s5 _ H5 _ I5 (fY an) aa stop) fun r s6 hr=>?_);obtain⟨rfl,I6⟩:=hr;refine ap (bf D C s6 H5 ?_ ?_ ?_ q)
   ·exact I.JO (ch:=fp) I6.os I6.base I6.hok I6.bare fun b a=>⟨(B b a).2.2.2.1,(B b a).2.1,(B b a).2.2.2.2.1,(B b a).2.2.2.2.2⟩
   ·obtain⟨m,hm,_⟩:=I6.loc;exact⟨m,hm⟩
   ·exact I.J1 bm I6.free
  ·refine ac (fW (T.item (vL X N' scope cl C s₂ H₂ fp) rfl rfl rfl hc i [] s5 _ H5 _ I5 (fY an) aa go) fun r s6 hr=>?_);obtain⟨u,rfl,h6⟩:=hr;refine ac (fW h6 fun _ s7 h7=>?_);obtain⟨x,H7,I7,r7,y7,O,bl⟩:=h7;have a7:=I7.pinned (fY bl) (T.obj _ _ O);have al:∀{σ8:St} {N:Hp} {s8:Shared} {zs:List V},eQ (vL X N' scope cl C s₂ H₂ fp) ([]++pL fp s7.heap) σ8 N s8→(σ8.length=(frees n js σ).length∧∀i,n≤i→σ8[i]?=(frees n js σ)[i]?)→NN zs N→
     ∃m,m<k∧∃i ys H',eQ (vL X N' scope cl C s₂ H₂ fp) [] (frees n js σ) H' s8∧tn i s8.heap∧(∀b∈fp,H' b=none)∧W i m ys H':=fun {σ8 N s8 zs} I8 ag n8=>by
    obtain⟨m',hm,w8⟩:=a9 zs N n8;refine⟨m',hm,i+1,zs,N,?_,T.keep _ _ _ O fun b a o e=>(I8.pin (b,o) (aK _ (aK _ (kg a e)))).1,fun b a=>?_,w8⟩
    ·refine(I8.JU).weak ag.1.symm fun j v e=>?_;by_cases hj:n≤j
     ·rw[ag.2 j hj];exact e
     ·unfold frees at e;rw[aI (by simpa using hj),List.getElem?_replicate]at e
      split at e <;> cases e
    ·obtain⟨o,e,d⟩:=T.obj _ _ O b a;exact(I8.pin (b,o) (aK _ (aK _ (kg a e)))).2.1
   refine ac (ca (hg C s₂ H₂ fp _ s7 _ H7 x u _ a7 r7 (gk _ _ _ _ (step x H7 y7))) (fun _ s8 h8=>?_) fun _ _ z=>z.elim);obtain⟨σ8,N,I8,q8,ag⟩:=h8;refine ac (ca (ht C s₂ H₂ fp _ s8 σ8 N _ I8 q8) (fun ok s9 h9=>?_) fun _ _ z=>z.elim);obtain⟨H9,I9,q9⟩:=h9;cases ok with
   |false=>
    rw[if_neg (by decide)]at q9;exact ap ⟨rfl,al I9 ag q9⟩
   |true=>
    rw[if_pos rfl]at q9;refine ac (ac (ca (he C s₂ H₂ fp _ s9 σ8 H9 _ I9 q9) (fun y sa ha=>?_) fun _ _ z=>z.elim));obtain⟨yv,Ha,Ia,ra,ba,wa⟩:=ha;refine ac (ca (gF (X:=vL X N' scope cl C s₂ H₂ fp) _ sa σ8 Ha (.ref D) [yv] (.ref D) [y] (fun v H'=>v=.non∧H'=upd Ha D (.lst (ys++[yv]))) Ia rfl (.cons ra .nil) ⟨D,ys,yv,rfl,rfl,ba,a8,rfl,rfl⟩) (fun v sb a=>?_) fun _ _ z=>z.elim);obtain⟨v',Hb,Ib,rb,_,rfl⟩:=a;exact ap (ap ⟨rfl,al Ib ag wa⟩)
 exact codeAny_compStart_list (M _ rfl) (T.self X.A 0 _ _ _ ad (M _ rfl))
end
section
variable {elt iter target:Expr}{ifs:List Expr}{cl:List (Str×Addr)}{n:Nat}{js:List Nat}{wi:TI}
def FK (wi:TI)(g:TG)(tt:TT)(te:TE)(n:Nat)(js:List Nat):TE:=fun σ H Q=>wi σ H fun J H1=>rf J g tt te (frees n js σ) H1 Q
theorem iq (B:X.calm=true)(S:iD X N' scope cl n js)(r:GK n g)(hi:PI X target iter wi)(p:∀C s₂ H₂ fp,PG (vL X N' scope cl C s₂ H₂ fp) target g)(j:∀C s₂ H₂ fp,Hz (vL X N' scope cl C s₂ H₂ fp) ifs tt)(z:∀C s₂ H₂ fp,PE (vL X N' scope cl C s₂ H₂ fp) elt te)(hs:∀x,foldedSetIterable iter X.env x=pure x:=by intro _;rfl):PE X (.ListComp elt [⟨target,iter,ifs,0⟩] scope pos) (FK wi g tt te n js):=by
 intro pins s σ H Q I h;rw[eval_ListComp];refine wpAny_comprehension_free (use:=none) rfl hs S.clos S.kind S.names (fW (hi pins s σ H _ I h) fun v F h1=>fW h1 fun i E h2=>?_);obtain⟨it,fp,G,J,H2,rfl,w,T,a,y,R⟩:=h2;refine vN B S r p j z w T a y R fun D C s' H' t d f q=>?_;obtain⟨m,d⟩:=d;refine⟨m,d,fun h' A=>⟨.ref D,H',?_,rfl,q⟩⟩;exact t.turned (t':=s'.toks) (fun b o l e=>(A.2 b l).trans e) f.1 f.2.1 f.2.2.2.1 f.2.2.2.2.1 f.2.2.2.2.2
end
theorem gu:jL X (.builtin "isinstance") (fun xs H Q=>∃(x:V) (T:String) (t:Value) (b:Bool),xs=[x,.ty T]∧jv X.K H x t∧W.kitOne X.K t (.type T)=some b∧Q (.bl b) H):=by
 intro pins s σ H xs us Q I r h;obtain⟨x,T,t,b,rfl,ty,e,q⟩:=h;obtain⟨u,g,rfl,a,d⟩:=v8 r;cases (show g=Value.type T from d);exact yz I a ty e fun tk=>⟨.bl b,H,I.tok tk,rfl,q⟩
theorem pw {vs:List Value}{out:Array Value}{ns':List Int}(I:eQ X pins σ H s)(hi:IntsAre out.toList ns')(a:ns'.length≤sizeLine):eQ X pins σ (upd H (s.heap.objs.size+1) (.lst (ns'.map V.int))) {s with heap:=sortedAll s.heap vs out}:=by
 obtain⟨e,d⟩:=sortedAll_at s.heap vs out;refine I.laid (t':=s.toks) (fun b u q=>sortedAll_old q) (dB _) ⟨by rw[ab];exact a,out.toList,e,mY hi,?_⟩;rw[d]
theorem uq:jL X (.builtin "sorted") (fun xs H Q=>∃(a:Addr) (ns:List Int),xs=[.ref a]∧fb X.K H a (ns.map V.int)∧ns.length<64∧∀(p:Addr) (ns':List Int),H p=none→ns'.Perm ns→ns'.Pairwise (·≤·)→Q (.ref p) (upd H p (.lst (ns'.map V.int)))):=by
 intro pins s σ H xs us Q I r h;obtain⟨a,ns,rfl,l,d,q⟩:=h;obtain⟨u,rfl,i⟩:=ji r;cases (show u=Value.ref a from i);obtain⟨b,g,p,v⟩:=I.list l;have hi:=pW g;have t:b.length=ns.length:=by rw[←g.length,ab]
 refine sorted_ints p.isList hi (by omega) fun out ns' j e o=>?_;have m:=e.length_eq;refine⟨.ref (s.heap.objs.size+1),_,pw I j ?_,rfl,q _ ns' (I.hok.fresh (dB _)) e o⟩;rw[m];exact br (cD d) (by decide)
def D6 (K:W.Frag)(te:TE):TE:=fun σ H Q=>te σ H fun x H1=>∃(a:Addr) (ns:List Int),x=.ref a∧fb K H1 a (ns.map V.int)∧ns.length<64∧∀(p:Addr) (ns':List Int),H1 p=none→ns'.Perm ns→ns'.Pairwise (· ≥ ·)→Q (.ref p) (upd H1 p (.lst (ns'.map V.int)))
theorem zM {kp cp:Pos}{k:Nat}(v:Gl X "sorted")(w:X.mg "sorted" = none)(A:PE X e te)(hs:starEach [e] X.env=[(false,eval e X.env)]:=by rfl):PE X (.Call (.Name "sorted" p) [e] [⟨some "reverse",.Constant (.bool true) k cp,kp⟩] pos) (D6 X.K te):=by
 intro pins s σ H Q I h;refine bJ (jl I v w boot_sorted ?_ (by decide) (by decide));refine callWith_kw ?_ (by rw[hs];rfl) (by rw[hs];rfl);have C:=(dZ A el hs) pos pins s σ H (fun vs H1=>match vs with | [x]=>(∃(a:Addr) (ns:List Int),x=.ref a∧fb X.K H1 a (ns.map V.int)∧ns.length<64∧∀(p:Addr) (d:List Int),H1 p=none→d.Perm ns→d.Pairwise (· ≥ ·)→Q (.ref p) (upd H1 p (.lst (d.map V.int)))) | _=>False) I h;refine fW C ?_;rintro us t ⟨vs,H1,g,r,m⟩
 match vs,r,m with
 |[x],r,⟨a,ns,e2,hS,h64,q⟩=>
  subst e2;obtain⟨u,rfl,o⟩:=ji r;cases (show u=Value.ref a from o);refine kws_cons (Constant_bool (kws_nil ?_));obtain⟨i,l,pl,E⟩:=g.list hS;have hi:=pW l;have D:i.length=ns.length:=by rw[←l.length,ab]
  refine sorted_ints_rev (b:=true) pl.isList hi (by omega) fun out d y j B=>?_;have z:=j.length_eq;refine⟨.ref (t.heap.objs.size+1),_,pw g y ?_,rfl,q _ d (g.hok.fresh (dB _)) j B⟩;rw[z];exact br (cD h64) (by decide)
theorem CP:typeLookup (.type "list_reverseiterator") "__len__" = pure none:=by rw[typeLookup_type,builtinLookup_eq_fast];kernel_rfl
theorem Av:typeLookup (.type "list_reverseiterator") "__length_hint__" = pure (some (.builtin "list_reverseiterator.__length_hint__")):=by rw[typeLookup_type,builtinLookup_eq_fast];kernel_rfl
theorem BW:isSubtype (.type "list_reverseiterator") (.type "list_reverseiterator")=pure true:=by rw[isSubtype_type];kernel_rfl
section
variable {prog:Program}{it l:Addr}{items:Array Value}
theorem AJ {Q:Bool→Shared→Prop}(g:s.TypeIs (.ref it) "list_reverseiterator")(h:Q false s):wpAny (model prog w) A (Builtin.List.listLengthHint (.ref it)) Q E s:=by
 unfold Builtin.List.listLengthHint;refine ac (wpAny_specialOf g CP ?_)
 wp_delta
 refine dq (fun a=>absurd a (by decide +kernel)) (fun _=>?_);refine dq (fun a=>absurd a (by decide +kernel)) (fun _=>?_);refine ac (wpAny_specialOf g Av ?_);generalize d:("list_reverseiterator.__length_hint__" : String)=idn
 wp_delta
 have e:splitId idn=some ("list_reverseiterator","__length_hint__"):=by subst d;decide +kernel
 rw[e];subst d;refine ac (wpAny_isInstance (T:="list_reverseiterator") (b:=true) g BW ?_);refine dq (fun z=>absurd z (by decide)) (fun _=>?_);refine dq (fun _=>?_) (fun z=>absurd (by decide +kernel) z);refine dq (fun z=>absurd z (by decide +kernel)) (fun _=>?_);exact ap h
theorem Ay (P:A.handled=none)(i:s.heap.IsRevIter it l ((items.size:Int)-1))(J:s.heap.IsList l items)(r:l≠it)(hz:items.size≤sizeLine)(N:∀h' tk acc c,(∀b o,b≠it→s.heap.get? b=some o→h'.get? b=some o)→h'.get? s.heap.objs.size=some {cls:=.type "list",dict:=none,data:=.seq acc c,slots:=#[]}→acc.toList=items.toList.reverse→Q (.ref s.heap.objs.size) {s with heap:=h',toks:=tk}):wpAny (model prog w) A (call (.type "list") [.ref it]) Q E s:=by
 have I:it<s.heap.objs.size:=(by obtain⟨_,e,_⟩:=i;exact aM e);have B:l<s.heap.objs.size:=(by obtain⟨_,e,_⟩:=J;exact aM e);generalize g:s.heap.objs.size=S at *;have p:S≠it:=Nat.ne_of_gt I;have D:S≠l:=Nat.ne_of_gt B;refine callType_codes (Q₁:=fun m K=>m=.ref S∧K={s with heap:=s.heap.push {cls:=.type "list",data:=.seq #[]}}) PySem.F.called_list (PySem.F.typeCall_list_1 _) PySem.F.entry_list_init (code_list_new _ ⟨by rw[g],rfl⟩) fun m K X=>?_;obtain⟨rfl,rfl⟩:=X;have q:(s.heap.push {cls:=.type "list",data:=.seq #[]}).get? S=some {cls:=.type "list",data:=.seq #[]}:=by rw[←g];exact aJ _ rfl
 refine⟨⟨_,q,rfl⟩,PySem.F.args_list_init_2 _ _,?_⟩;show wpAny _ _ (do let was ←Builtin.List.listItems (.ref S);Builtin.List.listUpdate (.ref S) (fun _=>#[]);letGo was.toList.reverse;Builtin.List.listExtendWith (.ref S) (.ref it) .none) _ _ _;refine ac ?_;unfold Builtin.List.listItems;refine ac (wpAny_seqItems q rfl (ap ?_));show wpAny _ _ (updateSeq S (fun _=>#[]) >>= fun _=>letGo (#[]:Array Value).toList.reverse >>= fun _=>Builtin.List.listExtendWith (.ref S) (.ref it) .none) _ _ _;refine ac (wpAny_updateSeq q rfl ?_);have t:=cR (Obj.mapSeq (fun _=>(#[]:Array Value))) q rfl;have G:∀b o,s.heap.get? b=some o→((s.heap.push {cls:=.type "list",data:=.seq #[]}).update S (Obj.mapSeq (fun _=>(#[]:Array Value)))).get? b=some o:=fun b o e=>by
  have v:b≠S:=by
   have:=aM e;rw[g]at this;exact aT this
  rw[Heap.get?_update_other _ _ (Ne.symm v)];exact ay _ e
 refine ac (wpAny_letGo ?_);generalize O:(s.heap.push {cls:=.type "list",data:=.seq #[]}).update S (Obj.mapSeq (fun _=>(#[]:Array Value)))=h2 at *;have a:h2.IsRevIter it l ((items.size:Int)-1):=i.at fun o e=>G it o e;have x:h2.IsList l items:=J.at fun o e=>G l o e;have h:∃H,h2.get? S=some {cls:=.type "list",data:=.seq #[] H}:=⟨_,t⟩;obtain⟨H,h⟩:=h;unfold Builtin.List.listExtendWith;refine ac (wpAny_typeOf (T:="list_reverseiterator") (Heap.IsRevIter.typeIs (s:={s with heap:=h2}) a) ?_);have h1:Builtin.List.listSameRef (.ref S) (.ref it)=false:=by simp[Builtin.List.listSameRef,p]
 have M:(Value.type "list_reverseiterator" == Value.type "list")=false:=by decide
 have U:(Value.type "list_reverseiterator" == Value.type "tuple")=false:=by decide
 simp only[h1,M,U,Bool.or_false,ci,if_false];refine ac (wpAny_pyIter_revIter (s:={s with heap:=h2}) a ?_);refine ac (bE (AJ (s:={s with heap:=h2}) (Heap.IsRevIter.typeIs (s:={s with heap:=h2}) a) ?_));refine dq (fun z=>absurd z (by decide +kernel)) (fun _=>?_);have y:S∉[it,l]:=by
  simp only[am,aG,or_false,not_or];exact⟨p,D⟩
 refine ap ⟨plainId_quiet PySem.F.plain_extend_loop _,?_⟩;have W:=Walks.listRev (prog:=prog) (w:=w) (A:=A.in1.in1) P it l r items;refine codeAny_extend_loopS W.toS hz S y .none items.size 0 _ #[] H rfl (bp _) ⟨bp _,by simpa using a,x⟩ h (ItemsOf.nil _) fun s' acc c' mv C d=>?_;rw[Moved.eq_with mv];refine⟨rfl,N s'.heap s'.toks acc c' (fun b o v e=>mv.heap b o (fun R=>?_) (G b o e)) C ?_⟩
 ·rcases am.mp R with z | z
  ·have:=aM e;rw[g,z]at this;exact cG _ this
  ·exact v (aj.mp z)
 ·refine List.ext_getElem? fun j=>?_;by_cases hj:j<items.size
  ·have L:acc[j]?=some (acc[j]'(by rw[d.1];exact hj)):=cA _;have hp:=d.2 j _ L;rw[List.getElem?_reverse (by simpa using hj),bD,bD,L,bn]
   exact hp.symm
  ·rw[dF (by rw[bn,d.1];omega),dF (by rw[cq,bn];omega)]
end
theorem eQ.adopt {p:Addr}{o:HO}(I:eQ X pins σ H s)(f:jw X pins H p)(new:fN X.prog X.w (upd H p o) s.heap p o):eQ X pins σ (upd H p o) s:=by
 have d:∀b u,H b=some u→b≠p:=fun b u e=>eo e f.1;refine I.step (h':=s.heap) (g':=s.gens) (d':=s.drawn) (t':=s.toks) (ch:=[p]) (fun b a=>?_) (fun b o _ _ _ e _=>e) (fun b o _ _ _ e _=>⟨o.slots,e⟩) (fun b o a _ n=>?_) (fun b o _ e=>⟨o,e⟩) (fun b xs e=>?_) (fun b u v e=>?_) (fun b ps e=>⟨#[],?_⟩) (fun m g=>g) (fun b u e=>?_) I.bare
 ·have e:b=p:=by simpa using a
  subst e;exact⟨f.2.2.2.1,f.2.1,f.2.2.2.2.1,f.2.2.2.2.2⟩
 ·rw[ef (fun z=>a (by simp[z]))];exact n
 ·rw[ef (d b _ e)];exact e
 ·rw[ef (d b _ e)];exact e
 ·rw[ef (d b _ e),e];simp
 ·by_cases a:b=p
  ·subst a;rw[d0]at e;cases e;exact new
  ·rw[ef a]at e;exact(I.hok b u e).JI (fun c v _ q=>q) (fun c q=>by rw[ef (d c _ q)];exact q) fun c xs q=>by rw[ef (d c _ q)];exact q
def Fw (K:W.Frag)(te:TE):TE:=fun σ H Q=>te σ H fun x H1=>∃(a:Addr) (xs:List V),x=.ref a∧fb K H1 a xs∧∀p:Addr,H1 p=none→Q (.ref p) (upd H1 p (.lst xs.reverse))
theorem Cm {p2 pos2:Pos}(R:X.calm=true)(N:Gl X "list")(Y:X.mg "list" = none)(B:Gl X "reversed")(A:X.mg "reversed" = none)(Z:PE X e te)(hs:starEach [e] X.env=[(false,eval e X.env)]:=by rfl)(hs2:starEach [.Call (.Name "reversed" p2) [e] [] pos2] X.env=[(false,eval (.Call (.Name "reversed" p2) [e] [] pos2) X.env)]:=by rfl):PE X (.Call (.Name "list" p) [.Call (.Name "reversed" p2) [e] [] pos2] [] pos) (Fw X.K te):=by
 intro pins s σ H Q I h;refine bJ (jl I N Y dX ?_ (by decide) (by decide));refine PyProof.Rows.callWith_type1 ?_ hs2 rfl;rw[hs2];refine Calls.spliced_cons ?_;refine bJ (jl I B A PyProof.Rows.Boot.«reversed» ?_ (by decide) (by decide));refine PyProof.Rows.callWith_type1 ?_ hs rfl;have S:=(dZ Z el hs) pos2 pins s σ H (fun vs H1=>match vs with | [x]=>(∃(a:Addr) (xs:List V),x=.ref a∧fb X.K H1 a xs∧∀p:Addr,H1 p=none→Q (.ref p) (upd H1 p (.lst xs.reverse))) | _=>False) I h;refine fW S ?_;rintro us s1 ⟨vs,H1,t,r,J⟩
 match vs,r,J with
 |[x],r,⟨a,xs,e2,hS,q⟩=>
  subst e2;obtain⟨u,rfl,L⟩:=ji r;cases (show u=Value.ref a from L);obtain⟨d,E,pl,F⟩:=t.list hS;refine call_reversed_list pl.isList (Calls.spliced_nil ?_);generalize g:s1.heap.objs.size=it;have m:s1.heap.get? it=none:=g▸bg (ao _);have l:H1 it=none:=t.hok.fresh (dm g);have C:(s1.heap.push (revObj a ((d.toArray.size:Int)-1))).get? it=some (revObj a ((d.toArray.size:Int)-1)):=by rw[←g];exact aJ _ rfl
  have v:eQ X pins σ H1 {s1 with heap:=s1.heap.push (revObj a ((d.toArray.size:Int)-1))}:=t.kept (t':=s1.toks) fun b o q=>ay _ q;have y:(s1.heap.push (revObj a ((d.toArray.size:Int)-1))).IsList a d.toArray:=pl.isList.push _;have w:a≠it:=by
   obtain⟨o,G,_⟩:=pl.isList;exact fun z=>by rw[z,m]at G;cases G
  have T:d.length=xs.length:=E.length.symm;refine Ay (s:={s1 with heap:=s1.heap.push (revObj a ((d.toArray.size:Int)-1))}) (v.ok.hd R) ⟨_,C,rfl,rfl⟩ y w (by rw[aP,T];exact F) fun h' tk P c k D ea=>?_;have f:=t.J1 m l;generalize i:(s1.heap.push (revObj a ((d.toArray.size:Int)-1))).objs.size=pn at D ⊢;have U:pn=it+1:=by rw[←i,dU,g]
  have j:H1 pn=none:=v.hok.fresh (dm i);refine⟨.ref pn,upd H1 pn (.lst xs.reverse),?_,rfl,q _ j⟩;have O:eQ X pins σ H1 {s1 with heap:=h',toks:=tk}:=v.turned (t':=tk) (fun b o M e=>k b o M e) l f.2.1 f.2.2.2.1 f.2.2.2.2.1 f.2.2.2.2.2;have fp:jw X pins H1 pn:=v.J1 (i▸bg (ao _)) j;refine O.adopt fp ⟨by rw[cq];exact F,d.reverse,c,?_,?_⟩
  ·exact E.reverse
  ·show h'.get? pn=_;rw[D,←ea]
section
def om (P:Program)(w:World)(h:Heap):fM→Value→Prop
 |none,u=>u=.none
 |some ks,u=>∃b,u=.ref b∧(tupleKind (fA P w)).is h ks b
theorem om.inj {u:Value}:∀{x y:fM},om P w h x u→om P w h y u→x=y
 |none,none,_,_=>rfl
 |none,some _,hx,⟨b,e,_⟩=>by rw[show u=Value.none from hx]at e;cases e
 |some _,none,⟨b,e,_⟩,hy=>by rw[show u=Value.none from hy]at e;cases e
 |some x,some y,⟨b,e,hb⟩,⟨c,f,hc⟩=>by rw[e]at f;cases f;rw[(tupleKind (fA P w)).inj hb hc]
theorem om.keep {h':Heap}{k:fM}{u:Value}{o:Obj}{ep:Nat}(x:om P w h k u)(i:h.get? d=some o)(a:o.data=.dict es ep)(j:Heap.SameBut d h h'):om P w h' k u:=by
 cases k with
 |none=>exact x
 |some ks=>obtain⟨b,e,g⟩:=x;exact⟨b,e,(tupleKind (fA P w)).keeps g i a j⟩
theorem oE {k:fM}{u:Value}(ok:lG P w H h)(x:vZ H k u):om P w h k u:=by
 cases k with
 |none=>exact x
 |some ks=>obtain⟨b,e,a⟩:=x;exact⟨b,e,l8 ok a⟩
theorem vy {k:fM}{u:Value}{Q:Int→Shared→Prop}(a:A.units<cLine)(d:om P w s.heap k u)(h:∀tk,Q (lQ P w k) {s with toks:=tk}):wpAny (model P w) A (pyHash u) Q E s:=by
 cases k with
 |none=>
  rw[show u=Value.none from d];exact W.pyHash_laid .none .none A s Q rfl .none a h
 |some ks=>
  obtain⟨b,rfl,e⟩:=d;exact(tupleKind (fA P w)).pyHash a e (h _)
theorem wz {ks:List gB}{b:Addr}(x:(tupleKind (fA P w)).is h ks b):∃its,h.IsTuple b its:=by
 obtain⟨o,its,n,h1,h2,a,_⟩:=(show IsTupleKey (fA P w) h ks b from x);exact⟨its,o,h1,h2,n,a⟩
theorem n_eq {x y:fM}{u:Value}{Q:Bool→Shared→Prop}(d:A.units<cLine)(j:om P w s.heap x u)(a:om P w s.heap y v)(h:Q (decide (x=y)) s):wpAny (model P w) A (eqBool u v) Q E s:=by
 cases x with
 |none=>
  rw[show u=Value.none from j];cases y with
  |none=>
   rw[show v=Value.none from a];exact SeqAt.eqBoolOverData P w A E s .none .none .none .none _ _ Q .none .none rfl rfl d h
  |some ys=>
   obtain⟨b,rfl,e⟩:=a;obtain⟨g,i⟩:=wz e;exact SeqAt.EqAt.none_tuple i d P w E Q h
 |some xs=>
  obtain⟨b,rfl,e⟩:=j;cases y with
  |none=>
   rw[show v=Value.none from a];obtain⟨g,i⟩:=wz e;exact SeqAt.EqAt.tuple_none i d P w E Q h
  |some ys=>
   obtain⟨c,rfl,l⟩:=a;refine(tupleKind (fA P w)).eqBool d e l ?_;by_cases q:xs=ys
   ·subst q;simpa using h
   ·rw[ar q];rw[ar (fun z=>q (Option.some.inj z))]at h;exact h
theorem wB {k:fM}{u:Value}{Q:Bool→Shared→Prop}(a:om P w s.heap k u)(h:Q true s):wpAny (model P w) A (eqIsQuiet 8 u) Q E s:=by
 cases k with
 |none=>rw[show u=Value.none from a];exact ap h
 |some ks=>obtain⟨b,rfl,d⟩:=a;exact(tupleKind (fA P w)).quiet d h
theorem wA {k:fM}{u:Value}{us:List Value}{Q:Bool→Shared→Prop}(b:om P w s.heap k u)(a:∀v∈us,∃j,om P w s.heap j v)(h:Q false s):wpAny (model P w) A (tableMayTell u us) Q E s:=by
 unfold tableMayTell
 split
 ·exact ap h
 refine ac (wB b ?_);rw[if_neg (by decide)];refine ac (de _ (fun rest r s'=>s'=s∧r=(none,())∧∀v∈rest,∃j,om P w s.heap j v) _ ?_ ?_ _ _ ⟨rfl,rfl,a⟩)
 ·rintro v rest r s' ⟨rfl,rfl,all⟩;obtain⟨j,d⟩:=all v (by simp);refine ac (wB d ?_);rw[if_neg (by decide)];exact ap ⟨rfl,rfl,fun z e=>all z (by simp[e])⟩
 ·rintro r s' ⟨rfl,rfl,_⟩;exact ap h
structure qh (P:Program)(w:World)(h:Heap)(es:Array DictEntry)(ks:List fM):Prop where
 nd:ks.Nodup
 sz:es.size=ks.length
 at_:∀(i:Nat) (k:fM),ks[i]?=some k→∃e,es[i]?=some e∧e.hash=lQ P w k∧om P w h k e.key
theorem qh.back (x:qh P w h es ks){e:DictEntry}(q:es[i]?=some e):∃k,ks[i]?=some k∧e.hash=lQ P w k∧om P w h k e.key:=by
 have hi:i<ks.length:=by rw[←x.sz];exact(Array.getElem?_eq_some_iff.mp q).1
 obtain⟨b,h1,h2,a⟩:=x.at_ i ks[i] (ak hi);rw[q]at h1;cases h1;exact⟨_,ak hi,h2,a⟩
theorem qh.one (x:qh P w h es ks){k:fM}(hi:ks[i]?=some k)(hj:ks[j]?=some k):i=j:=
 (cm (af.mp hi).1 x.nd).mp (hi.trans hj.symm)
variable {o:Obj}{ep:Nat}{k:fM}{u:Value}{Q:Option Nat→Shared→Prop}
theorem CO (x:A.units<cLine)(C:om P w s.heap k u)(h:s.heap.get? d=some o)(g:o.data=.dict es ep)(X:qh P w s.heap es ks)(l:List Nat)(t:∀i∈l,∃e,es[i]?=some e∧(e.hash == lQ P w k)=true)(B:(∀j∈l,ks[j]?≠some k)→Q none s)(h1:∀j∈l,ks[j]?=some k→Q (some j) s):wpAny (model P w) A (dictWalkPlain d u (lQ P w k) es l) Q E s:=by
 unfold dictWalkPlain;refine ac (de _ (fun rest b s'=>s'=s∧b=(none,())∧(∀i∈rest,i∈l)∧((∀j∈rest,ks[j]?≠some k)→Q none s)) _ ?_ ?_ _ _ ⟨rfl,rfl,fun _ z=>z,B⟩)
 ·rintro i rest b s' ⟨rfl,rfl,sub,no⟩;obtain⟨e,m,v⟩:=t i (sub i (by simp));obtain⟨j,p,_,r⟩:=X.back m;simp only[m];rw[if_pos v];refine ac (bK h g (ac (n_eq x r C (ac (bK h g ?_)))));rw[if_neg (by simp)];by_cases q:j=k
  ·rw[aq q,if_pos rfl];exact ac (ck (ap (ap (h1 i (sub i (by simp)) (q▸p)))))
  ·rw[ar q,if_neg (by decide)];refine ac (ck (ap ⟨rfl,rfl,fun z a=>sub z (by simp[a]),fun all=>no fun z a=>?_⟩));rcases am.mp a with y | y
   ·subst y;rw[p];exact fun y=>q (Option.some.inj y)
   ·exact all z y
 ·rintro b s' ⟨rfl,rfl,_,no⟩;exact ap (no fun _ z=>nomatch z)
theorem vz (M:A.units<cLine)(G:om P w s.heap k u)(H:s.heap.get? d=some o)(F:o.data=.dict es ep)(X:qh P w s.heap es ks)(U:k∉ks→Q none s)(h1:∀j,ks[j]?=some k→Q (some j) s):wpAny (model P w) A (dictFind d u (lQ P w k)) Q E s:=by
 generalize C:placesWithHash es.size (fun i=>es[i]?.map (·.hash)) (lQ P w k)=pl;have t:∀i,i∈pl→∃e,es[i]?=some e∧(e.hash == lQ P w k)=true:=fun i hi=>by
  rw[←C,placesWithHash,aS]at hi;cases l:es[i]? with
  |none=>rw[l]at hi;simp at hi
  |some e=>rw[l]at hi;exact⟨e,rfl,by simpa using hi.2⟩
 have N:∀j,ks[j]?=some k→j∈pl:=fun j g=>by
  obtain⟨e,l,D,_⟩:=X.at_ j k g;rw[←C,placesWithHash,aS,List.mem_range];exact⟨(Array.getElem?_eq_some_iff.mp l).1,by rw[l];simp[D]⟩
 have I:pl.Nodup:=by rw[←C,placesWithHash];exact List.Pairwise.filter _ List.nodup_range
 have B:(∀j∈pl,ks[j]?≠some k)→Q none s:=fun all=>U fun R=>by
  obtain⟨j,g⟩:=ax.mp R;exact all j (N j g) g
 have L:∀v∈pl.filterMap (fun i=>es[i]?.map (·.key)),∃j,om P w s.heap j v:=fun v J=>by
  obtain⟨i,hi,J⟩:=List.mem_filterMap.mp J;obtain⟨e,l,_⟩:=t i hi;rw[l]at J;obtain⟨j,_,_,g⟩:=X.back l;cases J;exact⟨j,g⟩
 have S:u=.none∨∃b,u=.ref b:=by
  cases k with
  |none=>exact .inl G
  |some x=>obtain⟨b,e,_⟩:=G;exact .inr ⟨b,e⟩
 unfold dictFind
 try with_reducible refine bE ?_
 refine ac (cU H F ?_);rcases S with rfl | ⟨b,rfl⟩
 ·dsimp only;rw[C];by_cases J:((Value.none::pl.filterMap fun i=>es[i]?.map (·.key)).all carriedByValue)=true
  ·rw[if_pos J];exact CO M G H F X pl t B fun j _ g=>h1 j g
  rw[if_neg J];by_cases hone:((pl.filterMap fun i=>es[i]?.map (·.key)) == [Value.none])=true
  ·rw[if_pos hone];refine ac (ap ?_);rw[if_neg (by simp)];refine ac (de _ (fun rest b s'=>s'=s∧(∀i∈rest,i∈pl)∧rest.Nodup∧((b=(none,none)∧((∀j∈rest,ks[j]?≠some k)→Q none s))∨∃j,b=(none,some j)∧ks[j]?=some k∧j∉rest)) _ ?_ ?_ _ _ ⟨rfl,fun _ z=>z,I,.inl ⟨rfl,B⟩⟩)
   ·rintro i rest r s' ⟨rfl,sub,m,st⟩;obtain⟨e,l,D⟩:=t i (sub i (by simp));obtain⟨j,g,_,K⟩:=X.back l;rw[aX]at m;simp only[l];rw[if_pos D];refine ac (bK H F (ac (n_eq M K G (ac (bK H F ?_)))));rw[if_neg (by simp)];by_cases q:j=k
    ·rw[aq q,if_pos rfl];subst q;rcases st with ⟨rfl,no⟩ | ⟨j',rfl,a,p⟩
     ·rw[if_neg (by simp)];refine ac (ck ?_)
      split
      ·exact ap (ap (h1 i g))
      ·exact ap ⟨rfl,fun z h=>sub z (by simp[h]),m.2,.inr ⟨i,rfl,g,m.1⟩⟩
     ·exact absurd (X.one g a) (fun z=>p (by simp[z]))
    ·rw[ar q,if_neg (by decide)];refine ac (ck ?_);rw[if_neg (by simp)];refine ap ⟨rfl,fun z h=>sub z (by simp[h]),m.2,?_⟩;rcases st with ⟨rfl,no⟩ | ⟨j',rfl,a,p⟩
     ·refine .inl ⟨rfl,fun all=>no fun z h=>?_⟩;rcases am.mp h with y | y
      ·subst y;rw[g];exact fun y=>q (Option.some.inj y)
      ·exact all z y
     ·exact .inr ⟨j',rfl,a,fun z=>p (by simp[z])⟩
   ·rintro r s' ⟨rfl,_,_,st⟩;rcases st with ⟨rfl,no⟩ | ⟨j',rfl,a,_⟩
    ·exact ap (no fun _ z=>nomatch z)
    ·exact ap (h1 j' a)
  ·rw[if_neg hone];refine ac (wA G L ?_);rw[if_neg (by simp)];refine ac (de _ (fun rest b s'=>s'=s∧(∀i∈rest,i∈pl)∧rest.Nodup∧((b=(none,none)∧((∀j∈rest,ks[j]?≠some k)→Q none s))∨∃j,b=(none,some j)∧ks[j]?=some k∧j∉rest)) _ ?_ ?_ _ _ ⟨rfl,fun _ z=>z,I,.inl ⟨rfl,B⟩⟩)
   ·rintro i rest r s' ⟨rfl,sub,m,st⟩;obtain⟨e,l,D⟩:=t i (sub i (by simp));obtain⟨j,g,_,K⟩:=X.back l;rw[aX]at m;simp only[l];rw[if_pos D];refine ac (bK H F (ac (n_eq M K G (ac (bK H F ?_)))));rw[if_neg (by simp)];by_cases q:j=k
    ·rw[aq q,if_pos rfl];subst q;rcases st with ⟨rfl,no⟩ | ⟨j',rfl,a,p⟩
     ·rw[if_neg (by simp)];refine ac (ck ?_)
      split
      ·exact ap (ap (h1 i g))
      ·exact ap ⟨rfl,fun z h=>sub z (by simp[h]),m.2,.inr ⟨i,rfl,g,m.1⟩⟩
     ·exact absurd (X.one g a) (fun z=>p (by simp[z]))
    ·rw[ar q,if_neg (by decide)];refine ac (ck ?_);rw[if_neg (by simp)];refine ap ⟨rfl,fun z h=>sub z (by simp[h]),m.2,?_⟩;rcases st with ⟨rfl,no⟩ | ⟨j',rfl,a,p⟩
     ·refine .inl ⟨rfl,fun all=>no fun z h=>?_⟩;rcases am.mp h with y | y
      ·subst y;rw[g];exact fun y=>q (Option.some.inj y)
      ·exact all z y
     ·exact .inr ⟨j',rfl,a,fun z=>p (by simp[z])⟩
   ·rintro r s' ⟨rfl,_,_,st⟩;rcases st with ⟨rfl,no⟩ | ⟨j',rfl,a,_⟩
    ·exact ap (no fun _ z=>nomatch z)
    ·exact ap (h1 j' a)
 ·have J:¬((Value.ref b::pl.filterMap fun i=>es[i]?.map (·.key)).all carriedByValue)=true:=by simp[carriedByValue]
  have O:¬(es.any fun e=>e.key == Value.ref b&&e.hash != lQ P w k)=true:=by
   rw[←Array.any_toList,dG];rintro⟨e,R,T⟩;obtain⟨i,hi⟩:=ax.mp R;rw[bD]at hi;obtain⟨j,_,D,g⟩:=X.back hi;rw[aB,beq_iff_eq,bne_iff_ne]at T;rw[T.1]at g;exact T.2 (by rw[D,g.inj G])
  dsimp only;rw[C,if_neg J,if_neg O];by_cases hone:((pl.filterMap fun i=>es[i]?.map (·.key)) == [Value.ref b])=true
  ·rw[if_pos hone];refine ac (ap ?_);rw[if_neg (by simp)];refine ac (de _ (fun rest b s'=>s'=s∧(∀i∈rest,i∈pl)∧rest.Nodup∧((b=(none,none)∧((∀j∈rest,ks[j]?≠some k)→Q none s))∨∃j,b=(none,some j)∧ks[j]?=some k∧j∉rest)) _ ?_ ?_ _ _ ⟨rfl,fun _ z=>z,I,.inl ⟨rfl,B⟩⟩)
   ·rintro i rest r s' ⟨rfl,sub,m,st⟩;obtain⟨e,l,D⟩:=t i (sub i (by simp));obtain⟨j,g,_,K⟩:=X.back l;rw[aX]at m;simp only[l];rw[if_pos D];refine ac (bK H F (ac (n_eq M K G (ac (bK H F ?_)))));rw[if_neg (by simp)];by_cases q:j=k
    ·rw[aq q,if_pos rfl];subst q;rcases st with ⟨rfl,no⟩ | ⟨j',rfl,a,p⟩
     ·rw[if_neg (by simp)];refine ac (ck ?_)
      split
      ·exact ap (ap (h1 i g))
      ·exact ap ⟨rfl,fun z h=>sub z (by simp[h]),m.2,.inr ⟨i,rfl,g,m.1⟩⟩
     ·exact absurd (X.one g a) (fun z=>p (by simp[z]))
    ·rw[ar q,if_neg (by decide)];refine ac (ck ?_);rw[if_neg (by simp)];refine ap ⟨rfl,fun z h=>sub z (by simp[h]),m.2,?_⟩;rcases st with ⟨rfl,no⟩ | ⟨j',rfl,a,p⟩
     ·refine .inl ⟨rfl,fun all=>no fun z h=>?_⟩;rcases am.mp h with y | y
      ·subst y;rw[g];exact fun y=>q (Option.some.inj y)
      ·exact all z y
     ·exact .inr ⟨j',rfl,a,fun z=>p (by simp[z])⟩
   ·rintro r s' ⟨rfl,_,_,st⟩;rcases st with ⟨rfl,no⟩ | ⟨j',rfl,a,_⟩
    ·exact ap (no fun _ z=>nomatch z)
    ·exact ap (h1 j' a)
  ·rw[if_neg hone];refine ac (wA G L ?_);rw[if_neg (by simp)];refine ac (de _ (fun rest b s'=>s'=s∧(∀i∈rest,i∈pl)∧rest.Nodup∧((b=(none,none)∧((∀j∈rest,ks[j]?≠some k)→Q none s))∨∃j,b=(none,some j)∧ks[j]?=some k∧j∉rest)) _ ?_ ?_ _ _ ⟨rfl,fun _ z=>z,I,.inl ⟨rfl,B⟩⟩)
   ·rintro i rest r s' ⟨rfl,sub,m,st⟩;obtain⟨e,l,D⟩:=t i (sub i (by simp));obtain⟨j,g,_,K⟩:=X.back l;rw[aX]at m;simp only[l];rw[if_pos D];refine ac (bK H F (ac (n_eq M K G (ac (bK H F ?_)))));rw[if_neg (by simp)];by_cases q:j=k
    ·rw[aq q,if_pos rfl];subst q;rcases st with ⟨rfl,no⟩ | ⟨j',rfl,a,p⟩
     ·rw[if_neg (by simp)];refine ac (ck ?_)
      split
      ·exact ap (ap (h1 i g))
      ·exact ap ⟨rfl,fun z h=>sub z (by simp[h]),m.2,.inr ⟨i,rfl,g,m.1⟩⟩
     ·exact absurd (X.one g a) (fun z=>p (by simp[z]))
    ·rw[ar q,if_neg (by decide)];refine ac (ck ?_);rw[if_neg (by simp)];refine ap ⟨rfl,fun z h=>sub z (by simp[h]),m.2,?_⟩;rcases st with ⟨rfl,no⟩ | ⟨j',rfl,a,p⟩
     ·refine .inl ⟨rfl,fun all=>no fun z h=>?_⟩;rcases am.mp h with y | y
      ·subst y;rw[g];exact fun y=>q (Option.some.inj y)
      ·exact all z y
     ·exact .inr ⟨j',rfl,a,fun z=>p (by simp[z])⟩
   ·rintro r s' ⟨rfl,_,_,st⟩;rcases st with ⟨rfl,no⟩ | ⟨j',rfl,a,_⟩
    ·exact ap (no fun _ z=>nomatch z)
    ·exact ap (h1 j' a)
end
def lH (xs:List (fM×Value×Value))(k:fM):Option Value:=(xs.find? fun x=>decide (x.1=k)).map (·.2.2)
def ql (k:fM)(v:Value)(x:fM×Value×Value):fM×Value×Value:=if x.1=k then (x.1,x.2.1,v) else x
def qo (xs:List (fM×Value×Value))(k:fM)(u v:Value):List (fM×Value×Value):=if (lH xs k).isSome=true then xs.map (ql k v) else xs++[(k,u,v)]
def nY (P:Program)(w:World)(h:Heap)(d:Addr)(xs:List (fM×Value×Value)):Prop:=
 ∃o es ep,h.get? d=some o∧o.ExactDict∧o.data=.dict es ep∧es.toList=xs.map (uf P w)∧(∀x∈xs,om P w h x.1 x.2.1)∧(xs.map (·.1)).Nodup
theorem lD {k:fM}(h:k∉xs.map (·.1)):lH xs k=none:=by
 unfold lH;rw[dP.mpr fun x a b=>h (aA.mpr ⟨x,a,aW b⟩)];rfl
theorem oH {k:fM}{p:Value×Value}:∀{xs:List (fM×Value×Value)} {j:Nat},(xs.map (·.1)).Nodup→xs[j]?=some (k,p)→lH xs k=some p.2
 |[],j,_,h=>by simp at h
 |x::xs,0,_,h=>by
  have e:x=(k,p):=by simpa using h
  subst e;simp[lH]
 |x::xs,j+1,hn,h=>by
  rw[aD,aX]at hn;have h':xs[j]?=some (k,p):=by simpa using h
  have a:¬x.1=k:=fun e=>hn.1 (e▸aA.mpr ⟨(k,p),ai h',rfl⟩);have:=oH hn.2 h';simpa [lH,bj,a] using this
theorem zB (k:fM)(v:Value)(x:fM×Value×Value):(ql k v x).1=x.1:=by unfold ql;split <;> rfl
section
variable {k:fM}{u:Value}
theorem nY.typeIs (D:nY P w s.heap d xs):s.TypeIs (.ref d) "dict":=(by obtain⟨o,_,_,ho,hc,_⟩:=D;exact⟨o,ho,hc.1⟩)
theorem sR (b:es.toList=xs.map (uf P w))(hi:∀x∈xs,om P w h x.1 x.2.1)(e:(xs.map (·.1)).Nodup):qh P w h es (xs.map (·.1)):=by
 refine⟨e,by rw[←bn,b,ab,ab],fun i k a=>?_⟩;rw[ae]at a;obtain⟨x,d,rfl⟩:=au.mp a;exact⟨uf P w x,by rw[←bD,b,ae,d];rfl,rfl,hi x (ai d)⟩
theorem EJ {Q:Option Value→Shared→Prop}(i:A.units<cLine)(p:om P w s.heap k u)(D:nY P w s.heap d xs)(h:∀tk,Q (lH xs k) {s with toks:=tk}):wpAny (model P w) A (dictGet d u) Q E s:=by
 obtain⟨o,es,ep,g,_,b,q,hi,m⟩:=D;unfold dictGet
 try with_reducible refine bE ?_
 refine ac (vy i p fun tk=>ac (vz (s:={s with toks:=tk}) i p g b (sR q hi m) (fun a=>?_) (fun j r=>?_)))
 ·rw[lD a]at h;exact ap (h tk)
 ·rw[ae]at r;obtain⟨x,l,e⟩:=au.mp r;obtain⟨t,v⟩:=x;obtain rfl:k=t:=e.symm;rw[oH m l]at h;refine ac (cU (s:={s with toks:=tk}) g b (ap ?_));rw[←bD,q,ae,l]
  exact h tk
theorem EI {Q:Unit→Shared→Prop}(G:A.units<cLine)(C:om P w s.heap k u)(D:nY P w s.heap d xs)(hz:xs.length≤sizeLine)(h:∀h' tk,nY P w h' d (qo xs k u v)→Heap.SameBut d s.heap h'→Q () {s with heap:=h',toks:=tk}):wpAny (model P w) A (dictSet d u v) Q E s:=by
 obtain⟨o,es,ep,p,J,g,B,hi,t⟩:=D;have L:es.size=xs.length:=by rw[←bn,B,ab]
 unfold dictSet
 try with_reducible refine bE ?_
 refine ac (vy G C fun tk=>?_);unfold dictSetHashed
 try with_reducible refine bE ?_
 refine ac (vz (s:={s with toks:=tk}) G C p g (sR B hi t) (fun r=>?_) (fun j H=>?_))
 ·have hp:qo xs k u v=xs++[(k,u,v)]:=by unfold qo;rw[lD r,if_neg (by decide)]
  refine ac (ck (wpAny_updateDictKeys (hz:=by lia) (s:={s with toks:=tk}) p g (h _ tk ?_ (Heap.SameBut.update ..))));refine⟨_,_,ep+1,cR _ p (Obj.isFreed_of_dict (Obj.data_mapDictKeys g _)),J.mapDictKeys _,Obj.data_mapDictKeys g _,?_,fun x i=>?_,?_⟩
  ·rw[hp];simp[B,uf]
  ·rw[hp]at i;rcases az.mp i with z | z
   ·exact(hi x z).keep p g (Heap.SameBut.update ..)
   ·rw[aj.mp z];exact C.keep p g (Heap.SameBut.update ..)
  ·rw[hp,av,bM];refine⟨t,by simp,fun a I b F z=>r ?_⟩;rw[aD,cQ,aj]at F;rw[z,F]at I;exact I
 ·rw[ae]at H;obtain⟨x,i,e⟩:=au.mp H;obtain⟨O,N⟩:=x;obtain rfl:k=O:=e.symm;have hp:qo xs k u v=xs.map (ql k v):=by unfold qo;rw[oH t i,if_pos (show(some N.2).isSome=true from rfl)]
  refine ac (ck (ac (wpAny_updateDict (s:={s with toks:=tk}) p g (wpAny_point (h _ tk ?_ (Heap.SameBut.update ..))))));refine⟨_,_,ep,cR _ p (Obj.isFreed_of_dict (Obj.data_mapDict g _)),J.mapDict _,Obj.data_mapDict g _,?_,fun x i=>?_,?_⟩
  ·rw[hp,Array.toList_modify,B,cE];refine List.ext_getElem? fun m=>?_;rw[List.getElem?_modify,ae,ae]
   cases hm:xs[m]? with
   |none=>rfl
   |some y=>
    by_cases hjm:j=m
    ·subst hjm;rw[i]at hm;cases hm;simp[uf,ql]
    ·have K:¬y.1=k:=fun z=>hjm ((cm (by rw[ab];exact(af.mp i).1) t).mp (by rw[ae,ae,i,hm];exact congrArg some z.symm))
     simp[ql,K,hjm]
  ·rw[hp]at i;obtain⟨y,M,rfl⟩:=aA.mp i;have q:=(hi y M).keep p g (Heap.SameBut.update s.heap d (Obj.mapDict (fun l=>l.modify j fun e=>{e with val:=v})));unfold ql
   split
   ·exact q
   ·exact q
  ·rw[hp,cE,show((fun x:fM×Value×Value=>x.1) ∘ ql k v)=(·.1) from funext fun x=>zB k v x];exact t
theorem CZ (a:s.TypeIs (.ref d) "dict")(h:wpAny (model P w) A.in1 (dictGet d u) (fun r s'=>∃v,r=some v∧Q v s') E s):wpAny (model P w) A (getItem (.ref d) u) Q E s:=by
 unfold getItem
 try with_reducible refine bE ?_
 refine ac (wpAny_sequenceKey a (by decide) (ac (dr (name:=Str.ofString "__getitem__") a slot_dict_getitem (cj slot_dict_getitem a entry_dict_getitem ?_ (args_dict_getitem _ _)))))
 show wpAny _ _ (dictGet d u >>= _) _ _ s;refine ac (ca h (?_) fun _ _ z=>z);rintro r s' ⟨v,e,q⟩;subst e;exact ap ⟨v,rfl,ap q⟩
theorem GA {Q:Bool→Shared→Prop}(a:s.TypeIs (.ref d) "dict")(b:(d == sysModules)=false)(h:wpAny (model P w) A.in1 (dictGet d u) (fun r s'=>Q r.isSome s') E s):wpAny (model P w) A (contains (.ref d) u) Q E s:=by
 unfold contains
 try with_reducible refine bE ?_
 refine ac (wpAny_specialOf a slot_dict_contains.lookup ?_);show wpAny _ _ (if (some (Value.builtin "dict.__contains__") == some Value.none)=true then _ else _) _ _ s;rw[if_neg (by rw[beq_builtin_none];exact aN)];refine ac (wpAny_callSpecialUnlessNone?_slot (name:=Str.ofString "__contains__") a slot_dict_contains (cj slot_dict_contains a entry_dict_contains ?_ (args_dict_contains _ _)))
 show wpAny _ _ (dictGet d u >>= _) _ _ s;refine ac (ca h (fun r s' q=>?_) fun _ _ z=>z);cases r with
 |some v=>exact ap ⟨_,rfl,bU q⟩
 |none=>exact ac (wpAny_pendingKey_other b (ap ⟨_,rfl,bU q⟩))
theorem zb {Q:Unit→Shared→Prop}(a:s.TypeIs (.ref d) "dict")(h:wpAny (model P w) A.in1 (dictSet d u v) Q E s):wpAny (model P w) A (setItem (.ref d) u v) Q E s:=by
 unfold setItem
 try with_reducible refine bE ?_
 refine ac (wpAny_sequenceKey a (by decide) (ac (dr (name:=Str.ofString "__setitem__") a slot_dict_setitem (cj slot_dict_setitem a entry_dict_setitem ?_ (args_dict_setitem _ _ _)))))
 refine ac (dD a ?_);show wpAny _ _ (dictSet d u v >>= _) _ _ s;exact ac (ca h (fun _ s' q=>ap ⟨.none,rfl,ap q⟩) fun _ _ z=>z)
end
theorem Bz.val (r:Bz H kvs xs)(k:fM):jg (eW kvs k) (lH xs k):=by
 induction r with
 |nil=>exact True.intro
 |@cons p q ps qs h t ih=>
  obtain⟨h1,_,h2⟩:=h;by_cases e:p.1=k
  ·have b:lH (q::qs) k=some q.2.2:=by simp[lH,bj,h1.symm.trans e]
   rw[gv e,b];exact h2
  ·have a:¬q.1=k:=fun z=>e (h1.trans z);have b:lH (q::qs) k=lH qs k:=by simp[lH,bj,a]
   rw[gj e,b];exact ih
theorem Bz.rep (r:Bz H kvs xs)(k:fM)(b:eY y v):Bz H (kvs.map fun kv=>if kv.1=k then (kv.1,y) else kv) (xs.map (ql k v)):=by
 induction r with
 |nil=>exact .nil
 |@cons p q ps qs h t ih=>
  obtain⟨h1,h2,a⟩:=h;rw[aD,aD];refine .cons ?_ ih;unfold ql;by_cases e:p.1=k
  ·rw[if_pos e,if_pos (h1.symm.trans e)];exact⟨h1,h2,b⟩
  ·rw[if_neg e,if_neg (fun z=>e (h1.trans z))];exact⟨h1,h2,a⟩
theorem Bz.put (r:Bz H kvs xs)(k:fM){u:Value}(b:vZ H k u)(a:eY y v):Bz H (fq kvs k y) (qo xs k u v):=by
 unfold fq qo;rw[iJ,(r.val k).JZ];by_cases q:(lH xs k).isSome=true
 ·rw[if_pos q,if_pos q];exact r.rep k a
 ·rw[if_neg q,if_neg q];exact Paired.snoc r ⟨rfl,b,a⟩
theorem vZ.keeps {k:fM}{u:Value}(x:vZ H k u)(a:∀b ys,H b=some (.tup ys)→H' b=some (.tup ys)):vZ H' k u:=by
 cases k with
 |none=>exact x
 |some ks=>obtain⟨b,e,d⟩:=x;exact⟨b,e,a _ _ d⟩
def lK (H:Hp):fM→V→Prop
 |none,y=>y=.non
 |some ks,y=>∃b,y=.ref b∧H b=some (.tup (ks.map kV))
theorem lK.rel {k:fM}{u:Value}(x:lK H k y)(r:eY y u):vZ H k u:=by
 cases k with
 |none=>rw[show y=V.non from x]at r;exact r
 |some ks=>obtain⟨b,rfl,a⟩:=x;exact⟨b,r,a⟩
theorem ug (ok:lG P w H h)(e:Rd H a (.dN kvs)):kvs.length≤sizeLine∧(a == sysModules)=false∧∃xs,Bz H kvs xs∧nY P w h a xs:=by
 obtain⟨z,y,xs,r,o,es,ep,h1,h2,b,d,g⟩:=(show fN P w H h a (.dN kvs) from zC ok e);have all:∀{l:List (fM×V)} {m:List (fM×Value×Value)},Bz H l m→∀x∈m,om P w h x.1 x.2.1:=by
  intro l m q
  induction q with
  |nil=>intro x hx;exact nomatch hx
  |@cons p q ps qs hq t ih=>
   intro x hx;rcases am.mp hx with e | hx
   ·subst e;rw[←hq.1];exact oE ok hq.2.1
   ·exact ih x hx
 exact⟨z,y,xs,r,o,es,ep,h1,h2,b,d,all r,g⟩
def iw (H:Hp)(a:Addr)(y:V)(r:Option V):Prop:=∃kvs k,Rd H a (.dN kvs)∧lK H k y∧r=eW kvs k
def lj (H:Hp)(a:Addr)(y v:V)(H':Hp):Prop:=∃kvs k,H a=some (.dN kvs)∧lK H k y∧kvs.length<sizeLine∧H'=upd H a (.dN (fq kvs k v))
theorem iw.of {k:fM}(e:H a=some (.dN kvs))(hk:lK H k y):iw H a y (eW kvs k):=⟨kvs,k,.inl e,hk,rfl⟩
theorem lj.of {k:fM}{v:V}(e:H a=some (.dN kvs))(hk:lK H k y)(hl:kvs.length<sizeLine):lj H a y v (upd H a (.dN (fq kvs k v))):=⟨kvs,k,e,hk,hl,rfl⟩
section
variable {v:V}{u r:Value}{o:Option V}
theorem vK {Q:Option Value→Shared→Prop}(d:A.units<cLine)(I:eQ X pins σ H s)(g:iw H a y o)(i:eY y u)(h:∀o' s',eQ X pins σ H s'→jg o o'→Q o' s'):wpAny (model X.prog X.w) A (dictGet a u) Q E s:=by
 obtain⟨kvs,k,e,b,rfl⟩:=g;obtain⟨z,l,xs,rel,j⟩:=ug I.hok e;exact EJ d (oE I.hok (b.rel i)) j fun tk=>h _ _ (I.tok tk) (rel.val k)
theorem oJ (I:eQ X pins σ H s)(g:iw H a y o):s.TypeIs (.ref a) "dict"∧(a == sysModules)=false:=by
 obtain⟨kvs,k,e,h,rfl⟩:=g;obtain⟨z,b,xs,rel,d⟩:=ug I.hok e;exact⟨d.typeIs,b⟩
theorem p6 (j:A.units+1<cLine)(I:eQ X pins σ H s)(g:iw H a y (some v))(l:eY y u)(h:∀w' s',eQ X pins σ H s'→eY v w'→Q w' s'):wpAny (model X.prog X.w) A (getItem (.ref a) u) Q E s:=by
 refine CZ (oJ I g).1 (vK j I g l fun o' s' i d=>?_);obtain⟨w',e,b⟩:=jg.some_of d;exact⟨w',e,h w' s' i b⟩
theorem GH {Q:Bool→Shared→Prop}(i:A.units+1<cLine)(I:eQ X pins σ H s)(g:iw H a y o)(j:eY y u)(h:∀s',eQ X pins σ H s'→Q o.isSome s'):wpAny (model X.prog X.w) A (contains (.ref a) u) Q E s:=by
 obtain⟨t,b⟩:=oJ I g;refine GA t b (vK i I g j fun o' s' e d=>?_);rw[←d.JZ];exact h s' e
theorem p4 {Q:Unit→Shared→Prop}(p:A.units+1<cLine)(I:eQ X pins σ H s)(g:lj H a y v H')(i:eY y u)(D:eY v r)(h:∀s',eQ X pins σ H' s'→Q () s'):wpAny (model X.prog X.w) A (setItem (.ref a) u r) Q E s:=by
 obtain⟨kvs,k,e,l,G,rfl⟩:=g;obtain⟨z,o,xs,rel,j⟩:=ug I.hok (.inl e);have F:xs.length≤sizeLine:=by rw[←Paired.length rel];exact z
 have hp:(fq kvs k v).length≤sizeLine:=by have:=fT kvs k v;lia
 refine zb j.typeIs (EI p (oE I.hok (l.rel i)) j F fun h' tk b x=>h _ ?_);obtain⟨m,es,ep,h1,h2,t,B,_,C⟩:=b;have keep:∀c ys,H c=some (.tup ys)→upd H a (.dN (fq kvs k v)) c=some (.tup ys):=fun c ys d=>by
  rw[ef (fJ d e (fun z=>nomatch z))];exact d
 exact jI I (by rw[e];exact True.intro) x ⟨m,h1⟩ ⟨hp,o,_,Paired.JH (rel.put k (l.rel i) D) fun _ _ q=>⟨q.1,q.2.1.keeps keep,q.2.2⟩,m,es,ep,h1,h2,t,B,C⟩
end
inductive xt (Q:VK)(x:V)(y:V)(H2:Hp):Prop
 |mk (a v:_)(_:x=.ref a)(_:iw H2 a y (some v))(_:Q v H2):xt Q x y H2
def Ed (td ty:TE):TE:=fun σ H Q=>td σ H fun x H1=>ty σ H1 fun y H2=>xt Q x y H2
inductive BF (neg:Bool)(Q:VK)(y:V)(x:V)(H2:Hp):Prop
 |mk (a o:_)(_:x=.ref a)(_:iw H2 a y o)(_:Q (.bl (if neg then !o.isSome else o.isSome)) H2):BF neg Q y x H2
def FH (neg:Bool)(ty td:TE):TE:=fun σ H Q=>ty σ H fun y H1=>td σ H1 fun x H2=>BF neg Q y x H2
inductive xz (D:mS)(σ:St)(v:V)(x:V)(y:V)(H3:Hp):Prop
 |mk (a H4:_)(_:x=.ref a)(_:lj H3 a y v H4)(_:D.nx σ H4):xz D σ v x y H3
def Es (td ty tv:TE):TS:=fun D σ H=>tv σ H fun v H1=>td σ H1 fun x H2=>ty σ H2 fun y H3=>xz D σ v x y H3
section
variable {o i value:Expr}{pos' tpos:Pos}{td ty tv:TE}
theorem fe (j:X.A.units+1<cLine)(e:PE X o td)(hi:PE X i ty)(r:Ff i):PE X (.Subscript o i pos) (Ed td ty):=by
 intro pins s σ H Q I h;refine wb PySem.F.slot_dict_getitem.lookup r (fW (e pins s σ H _ I h) ?_);rintro u l ⟨x,H1,p,m,w⟩;refine fW (hi pins l σ H1 _ p w) ?_;rintro E C ⟨y,H2,d,q,a,v,ex,g,z⟩;subst ex;obtain rfl:u=Value.ref a:=m;exact⟨(oJ d g).1,p6 j d g q fun B D t b=>⟨v,H2,t,b,z⟩⟩
theorem Ct (p:X.A.units+1<cLine)(hi:PE X i ty)(b:PE X o td):PC X .In i o (FH false ty td):=by
 intro pins s σ H Q I h;refine fW (hi pins s σ H _ I h) ?_;rintro B d ⟨y,H1,l,m,r⟩;refine fW (b pins d σ H1 _ l r) ?_;rintro u w ⟨x,H2,t,e,a,j,ex,g,v⟩;subst ex;obtain rfl:u=Value.ref a:=e;exact ac (GH p t g m fun z q=>ap ⟨.bl j.isSome,H2,q,rfl,v⟩)
theorem kQ (B:X.A.units+1<cLine)(w:PE X o td)(hi:PE X i ty)(G:PE X value tv)(E:swapsWith value (some (.Subscript o i pos')) pos.line X.env=pure false):PS X (.Assign [.Subscript o i pos'] value pos) (Es td ty tv):=by
 intro pins s σ H D I h;refine wpAny_Assign_Subscript (fW (G pins s σ H _ I h) ?_) E;rintro r z ⟨v,H1,d,t,m⟩;refine fW (w pins z σ H1 _ d m) ?_;rintro u l ⟨x,H2,q,C,J⟩;refine fW (hi pins l σ H2 _ q J) ?_;rintro N M ⟨y,L,e,F,a,j,ex,g,p⟩;subst ex;obtain rfl:u=Value.ref a:=C;exact p4 B e g F t fun K b=>⟨σ,j,b,p⟩
end
def Eb:TE:=fun _ H Q=>∀p,H p=none→Q (.ref p) (upd H p (.dN []))
theorem AW (h:Heap)(hb:sysModules<h.objs.size):fN P w H (h.push {cls:=.type "dict",data:=.dict #[]}) h.objs.size (.dN []):=
 ⟨bp _,beq_eq_false_iff_ne.mpr (Ne.symm (aT hb)),[],.nil,_,#[],0,aJ _ rfl,⟨rfl,rfl,rfl⟩,rfl,rfl,cb⟩
theorem mE:PE X (.Dict [] [] pos) Eb:=fun pins s σ H Q I h=>
 wpAny_Dict_empty ⟨.ref s.heap.objs.size,_,I.laid (a:=s.heap.objs.size) (o:=.dN []) (t':=s.toks) (fun _ _ q=>ay _ q) (ao _) (AW s.heap I.big),rfl,h _ (I.hok.fresh (ao _))⟩
def sB (P:Program)(w:World):PySem.KeyKind P w Unit where
 is:=fun _ v=>match v with | .none=>true | _=>false
 hash:=fun _=>W.hashW w.params .none
 inj:=fun _ _ _ _ _=>rfl
 byValue:=fun _ v h=>by cases v <;> first | rfl | (simp at h)
 pyHash:=fun {A E s k v Q} hv h=>by
  cases v <;> first | (simp at hv;done) | skip
  exact W.pyHash_slot (T:="NoneType") rfl PySem.F.slot_NoneType_hash PySem.F.entry_NoneType_hash (PySem.F.args_NoneType_hash_1 _) (beq_builtin_none _) (.inl rfl) (ac (ap (ac (wpAny_mkInt (ap ⟨_,_,rfl,h⟩)))))
 eqBool:=fun {A E s a b u v Q} hu hv h=>by
  cases u <;> first | (simp at hu;done) | skip
  cases v <;> first | (simp at hv;done) | skip
  unfold eqBool
  try with_reducible refine bE ?_
  show wpAny _ _ (if (Value.none == Value.none)=true then _ else _) Q E s;rw[if_pos (show(Value.none == Value.none)=true by simp)];exact ac (ck (ap (by simpa using h)))
 «strs»:=fun k x t v h=>by simp at h
def D8 (tv:TE):TE:=fun σ H Q=>∀p,H p=none→tv σ (upd H p (.dK [])) fun v H2=>H2 p=some (.dK [])∧Q (.ref p) (upd H2 p (.dN [(none,v)]))
def Gk (F:V→Hp→Prop):List (V×V)→Hp→Prop
 |[(.non,y)],H=>F y H
 |_,_=>False
theorem Ad {F:V→Hp→Prop}{ps:List (V×V)}(h:Gk F ps H):∃y,ps=[(V.non,y)]∧F y H:=by
 cases ps with
 |nil=>exact h.elim
 |cons p t=>
  obtain⟨x,y⟩:=p;cases t with
  |cons _ _=>cases x <;> exact h.elim
  |nil=>
   cases x with
   |non=>exact⟨y,rfl,h⟩
   |_=>exact h.elim
theorem tO {kpos:Pos}{v:Expr}{tv:TE}(R:PE X v tv):PE X (.Dict [some (.Constant .none j kpos)] [v] pos) (D8 tv):=by
 intro pins s σ H Q I q;have hn:=I.hok.fresh (ao s.heap.objs.size);have I1:=I.laid (a:=s.heap.objs.size) (o:=.dK []) (h':=s.heap.push {cls:=.type "dict",data:=.dict #[]}) (t':=s.toks) (fun _ _ q=>ay _ q) (ao _) (qa s.heap I.big);have P:GT X pos [some (.Constant .none j kpos)] [v] [(tC .non,tv)]:=tN iR R wl;generalize hp:s.heap.objs.size=p at *;have q1:=q p hn;have hq:rl [(tC .non,tv)] σ (upd H p (.dK [])) (Gk fun y H2=>H2 p=some (.dK [])∧Q (.ref p) (upd H2 p (.dN [(none,y)]))):=q1;have U:=P pins _ σ _ _ I1 hq;refine wpAny_Dict_walk (knd:=sB X.prog X.w) rfl rfl (by simp) (by show 1≤15;decide) (fW U fun ws s2 r=>?_);obtain⟨ps,H2,D,rel,Y⟩:=r;obtain⟨y,rfl,e,S⟩:=Ad Y;cases rel with
 |@cons _ b _ _ h1 t1=>
  cases t1;obtain⟨Z,h⟩:=b;cases (show Z=Value.none from h1.1);obtain⟨z,T,N,F,o,es,ep,g1,g2,g3,g4,g5,g6⟩:=qT D.hok e;cases F;have t:es=#[]:=by
   have:=g5.length;rw[List.length_nil,bn]at this;exact Array.eq_empty_of_size_eq_zero this
  subst t;rw[hp];refine⟨[((),h)],⟨rfl,rfl,True.intro⟩,⟨o,#[],ep,g1,g2,g3,fun _ O=>by simp at O,.nil,cb⟩,fun h' x hs=>⟨.ref p,upd H2 p (.dN [(none,y)]),?_,rfl,S⟩⟩;obtain⟨o',d,m,B,L,f3,M,K,f6⟩:=x;have g:Pairs (sB X.prog X.w) d.toList [((),h)]:=K;refine jI D (by rw[e];exact True.intro) hs ⟨o',B⟩ ⟨by show 1≤sizeLine;decide,T,[(none,.none,h)],.cons ⟨rfl,rfl,h1.2⟩ .nil,o',d,m,B,L,f3,?_,by simp⟩;generalize J:d.toList=l at g;cases g with
  |@cons e0 _ es0 _ k1 k2 k3=>
   cases k3;obtain⟨k',kk,kh⟩:=M e0 (Array.mem_toList_iff.mp (by rw[J];simp));obtain⟨G,C,E⟩:=e0;have A:C=Value.none:=by
    cases C <;> first | rfl | (simp[sB]at k1)
   subst A;cases (show E=h from k2);have i:G=W.hashW X.w.params .none:=kh;rw[i];rfl
section
variable {kvs:List (gB×V)}{k:gB}{u r:Value}{z:V}
theorem E7 (I:eQ X pins σ H s)(e:H a=some (.dK kvs))(i:eY (kV k) u)(j:eY z r)(B:kvs.length<sizeLine)(h1:∀v w' s',eW kvs k=some v→eQ X pins σ H s'→eY v w'→Q w' s')(h2:eW kvs k=none→∀s',eQ X pins σ (upd H a (.dK (fq kvs k z))) s'→Q r s'):wpAny (model X.prog X.w) A (call (.builtin "dict.setdefault") [.ref a,u,r]) Q E s:=by
 obtain⟨y,d,vs,rel,g⟩:=qT I.hok e;refine call_meetsIn PySem.F.slot_dict_setdefault g.typeIs PySem.F.entry_dict_setdefault (PySem.F.args_dict_setdefault_3 _ _ _) (kt_meets_setdefault (fA X.prog X.w) a (mL i) d r)
  ⟨vs,g,by rw[←rel.length];exact y,fun v p=>?_,fun m h' b h=>?_⟩
 ·have q:=rel.val k;rw[p]at q;cases l:eW kvs k with
  |none=>rw[l]at q;exact q.elim
  |some x=>rw[l]at q;exact h1 x v _ l (I.tok _) q
 ·have q:=rel.val k;rw[m]at q;have l:eW kvs k=none:=by
   cases l:eW kvs k with
   |none=>rfl
   |some x=>rw[l]at q;exact q.elim
  have hp:(fq kvs k z).length≤sizeLine:=by have:=fT kvs k z;omega
  have t:∃q,h'.get? a=some q:=(by obtain⟨q,_,_,o,_⟩:=b;exact⟨q,o⟩);exact h2 l _ (jI I (by rw[e];exact True.intro) h t (p9 hp d (rel.put k j) b))
end
inductive xp (ty:TE)(tx:TE)(σ:St)(Q:VK)(x:V)(H1:Hp):Prop
 |mk (a:_)(_:x=.ref a)(_:Hg H1 a)(_:ty σ H1 fun y H2=>tx σ H2 fun z H3=>∃kvs k,H3 a=some (.dK kvs)∧y=kV k∧kvs.length<sizeLine∧(∀v,eW kvs k=some v→Q v H3)∧(eW kvs k=none→Q z (upd H3 a (.dK (fq kvs k z))))):xp ty tx σ Q x H1
def D9 (td ty tx:TE):TE:=fun σ H Q=>td σ H fun x H1=>xp ty tx σ Q x H1
theorem zQ {o f:Expr}{apos cpos:Pos}{td ty tx:TE}(E:PE X o td)(O:PE X e ty)(D:PE X f tx)(m:M2 X o "setdefault" apos e f cpos):PE X (.Call (.Attribute o "setdefault" apos) [e,f] [] cpos) (D9 td ty tx):=by
 intro pins s σ H Q I h;refine dz m.base m.few m.line PySem.F.plainAttrs_dict PySem.F.slot_dict_setdefault PySem.F.type_dict_setdefault (fW (E pins s σ H _ I h) ?_);rintro u L ⟨x,H1,g,M,a,ex,d,w⟩;subst ex;obtain rfl:u=Value.ref a:=M;obtain⟨G,j,_⟩:=vG g d;refine⟨G,j,?_⟩;rw[m.trees];refine Calls.callWith_builtin rfl (Calls.evalArgs_plain (Calls.spliced_cons (fW (O pins L σ H1 _ g w) fun Y t ⟨y,H2,B,N,S⟩=>Calls.spliced_cons (fW (D pins t σ H2 _ B S) fun Z U ⟨z,q,r,i,kvs,k,R,P,K,A,J⟩=>Calls.spliced_nil ?_))));subst P;exact E7 r R N i K (fun v T p l b C=>⟨v,q,b,C,A v l⟩) fun l p b=>⟨z,_,b,i,J l⟩
theorem jW {α β:Type}{F:α→β→Prop}:∀{as:List α} {bs:List β},as.length=bs.length→(∀(i:Nat) x y,as[i]?=some x→bs[i]?=some y→F x y)→Paired F as bs
 |[],[],_,_=>.nil
 |a::as,b::bs,hl,h=>.cons (h 0 a b rfl rfl) (jW (by simpa using hl) fun i x y hx hy=>h (i+1) x y (by simpa using hx) (by simpa using hy))
 |[],_::_,hl,_=>by simp at hl
 |_::_,[],hl,_=>by simp at hl
theorem vF {k:gB}{u:Value}(h:(fA P w).is k u=true):eY (kV k) u:=by
 rcases gC h with ⟨i,t,rfl,rfl⟩ | ⟨x,t,rfl,rfl⟩
 ·exact⟨t,rfl⟩
 ·exact⟨t,rfl⟩
theorem vP (J:X.calm=true):jL X (.type "list") (fun xs H Q=>∃p kvs,xs=[.ref p]∧H p=some (.dK kvs)∧∀l,H l=none→Q (.ref l) (upd H l (.lst (kvs.map fun kv=>kV kv.1)))):=by
 intro pins s σ H xs us Q I r h;obtain⟨p,kvs,rfl,e,q⟩:=h;obtain⟨u,rfl,C⟩:=ji r;cases (show u=Value.ref p from C);obtain⟨z,hd,vs,rel,F⟩:=qT I.hok e;obtain⟨ep,m⟩:=F.dictAt;have B:=rel.length;refine W.kdl_call (W.kdl_dict (knd:=fA X.prog X.w) (kvs:=vs) (ep:=ep) hd) (I.ok.hd J) m (by rw[←B];exact z) fun h' tk t c D G d=>?_;have E:=I.hok.fresh (ao s.heap.objs.size);refine⟨.ref s.heap.objs.size,_,I.laid (a:=s.heap.objs.size) (o:=.lst (kvs.map fun kv=>kV kv.1)) (t':=tk) (fun b o q=>D b o q) (ao _) ?_,rfl,q _ E⟩;refine⟨by rw[ab];exact z,t.toList,c,?_,by rw[G]⟩;refine jW (by rw[ab,B,bn];exact d.1.symm) fun i x y j A=>?_;rw[bD]at A;obtain⟨k,v,h1,h2⟩:=d.2 i y A;rw[ae]at j;have g:kvs[i]?.map (·.1)=vs[i]?.map (·.1):=by rw[←ae,←ae,rel.keys]
 rw[h1]at g;cases hi:kvs[i]? with
 |none=>rw[hi]at j;cases j
 |some kv=>
  rw[hi]at j g;cases j;have:kv.1=k:=by simpa using g
  show eY (kV kv.1) y;rw[this];exact vF h2
theorem iD.two {y y':Str}{c c':Addr}{n j':Nat}(h1:closureFor scope X.env=pure [(y,c),(y',c')])(h2:X.env.cells.lookup y=some c)(l:X.env.cells.lookup y'=some c')(g:y'≠y)(A:∀z∈scope.names,z.2≠.cell)(B:scope.kind=.function)(J:∀z∈scope.names,z.2=.local→scope.names.lookup z.1=some .local)(E:∀z∈scope.names,z.2=.free→z.1=y∨z.1=y')(I:N'[n]?=some y)(p:N'[n+1]?=some y')(F:N'.length=n+2)(L:X.N[j]?=some y)(s:X.N[j']?=some y')(G:X.env.kindOf y=some .cell)(t:X.env.kindOf y'=some .cell)(H:(relabel scope X.env).names.lookup y=some .cell)(o:(relabel scope X.env).names.lookup y'=some .cell):iD X N' scope [(y,c),(y',c')] n [j,j'] where
 clos:=h1
 cell:=A
 kind:=B
 names:=J
 sub:=fun z d e=>by
  by_cases q:z=y
  ·subst q;rw[aY,beq_self_eq_true]at e;rw[h2];exact e
  ·have b:(z == y)=false:=beq_false_of_ne q;by_cases q':z=y'
   ·subst q';rw[aY,b,aY,beq_self_eq_true]at e;rw[l];exact e
   ·have b':(z == y')=false:=beq_false_of_ne q';rw[aY,b,aY,b']at e;simp at e
 has:=fun z h=>by
  have mem:∃k,(k=NameKind.cell∨k=NameKind.free)∧(z,k)∈(relabel scope X.env).names:=by
   rcases h with h | h
   ·exact⟨_,.inl rfl,bo h⟩
   ·exact⟨_,.inr rfl,bo h⟩
  obtain⟨k,m,K⟩:=mem;obtain⟨⟨a,v⟩,x,e⟩:=aA.mp (show(z,k)∈scope.names.map _ from K);have D:z=y∨z=y':=by
   by_cases hfree:v=.free
   ·have C:z=a:=by
     dsimp only at e
     split at e
     ·exact(Prod.mk.inj e).1.symm
     ·exact(Prod.mk.inj e).1.symm
    rw[C];exact E _ x hfree
   ·have b:(v == NameKind.free)=false:=by simpa using hfree
    simp only[b,bY,ci,if_false]at e;have w:=(Prod.mk.inj e).2;rcases m with q | q
    ·exact absurd (w.trans q) (A _ x)
    ·exact absurd (w.trans q) hfree
  rcases D with q | q
  ·subst q;exact⟨c,by rw[aY,beq_self_eq_true]⟩
  ·subst q;have b:(z == y)=false:=beq_false_of_ne g;exact⟨c',by rw[aY,b,aY,beq_self_eq_true]⟩
 len:=by simpa using F
 frees:=fun k i e=>by
  match k,e with
  |0,e=>
   have r:j=i:=by simpa using e
   subst r;exact⟨y,I,L,.inl G,.inl H,by rw[h2,aY,beq_self_eq_true]⟩
  |1,e=>
   have r:j'=i:=by simpa using e
   subst r;have b:(y' == y)=false:=beq_false_of_ne g;exact⟨y',p,s,.inl t,.inl o,by rw[l,aY,b,aY,beq_self_eq_true]⟩
  |k+2,e=>simp at e
end L2
namespace FB
open PySem
def kY:Nat→PyData→Bool
 |_,.none=>true
 |_,.int _=>true
 |_,.str x=>PyData.strOk x
 |k+1,.list xs=>xs.all (kY k)
 |k+1,.tuple xs=>xs.all (kY k)
 |_,_=>false
theorem ww:∀(k:Nat) (d:PyData),kY k d=true→d.canLay0=true∧d.depth≤k:=by
 intro k
 induction k with
 |zero=>
  intro d h;cases d <;> simp_all [kY,PyData.canLay0,PyData.depth]
 |succ k ih=>
  have all:∀xs:List PyData,xs.all (kY k)=true→PyData.canLayAll0 xs=true∧PyData.depthAll xs≤k:=by
   intro xs
   induction xs with
   |nil=>intro _;exact⟨rfl,bp _⟩
   |cons x xs ihx=>
    intro h;rw[List.all_cons,aB]at h;have h1:=ih x h.1;have h2:=ihx h.2;refine⟨?_,?_⟩
    ·rw[PyData.canLayAll0,h1.1,h2.1];rfl
    ·rw[PyData.depthAll];lia
  intro d h;cases d with
  |list xs=>
   have z:=all xs (by simpa [kY] using h);exact⟨by rw[PyData.canLay0];exact z.1,by rw[PyData.depth];lia⟩
  |tuple xs=>
   have z:=all xs (by simpa [kY] using h);exact⟨by rw[PyData.canLay0];exact z.1,by rw[PyData.depth];lia⟩
  |dict kvs=>simp[kY]at h
  |bool b=>simp[kY]at h
  |none=>simp[PyData.canLay0,PyData.depth]
  |int i=>simp[PyData.canLay0,PyData.depth]
  |str x=>simp_all [kY,PyData.canLay0,PyData.depth]
theorem j9 {k:Nat}{d:PyData}(h:kY k d=true)(a:k≤64):SeqAt.shaped d=true:=by
 have z:=ww k d h;unfold SeqAt.shaped;rw[z.1,cw];exact aq (br z.2 a)
theorem mI:∀(k:Nat) (d:PyData) (j:Nat),k≤j→kY k d=true→kY j d=true:=by
 intro k
 induction k with
 |zero=>intro d j _ h;cases d <;> cases j <;> simp_all [kY]
 |succ k ih=>
  intro d j b h;obtain⟨i,rfl⟩:∃i,j=i+1:=⟨j-1,by lia⟩;cases d with
  |list xs=>
   rw[kY,bF]at h ⊢;exact fun x a=>ih x i (by lia) (h x a)
  |tuple xs=>
   rw[kY,bF]at h ⊢;exact fun x a=>ih x i (by lia) (h x a)
  |_=>simp_all [kY]
abbrev Nd:=Str×Int×Int
abbrev En:=Str×Int×List Nd
def eX (e:En):Str×Int:=(e.1,e.2.1)
structure fR (x:Str):Prop where
 ok:PyData.strOk x=true
 sh:(reprText x).length≤1000
structure mT (e:En):Prop where
 pt:fR e.1
 nd:∀n∈e.2.2,fR n.1
 few:e.2.2.length≤100
def iG (n:Nd)(e:En):Bool:=decide (e.1=n.1)&&(decide (n.2.1≤e.2.1)&&decide (e.2.1≤n.2.2))
def iH (es:List En)(n:Nd):List Int:=(es.filter (iG n)).map fun e=>e.2.1
theorem je (es:List En)(n:Nd):(iH es n).length≤es.length:=by
 unfold iH;rw[ab];exact bz _ _
theorem vA (es:List En)(e:En)(n:Nd):iH (es++[e]) n=if iG n e=true then iH es n++[e.2.1] else iH es n:=by
 unfold iH;rw[bS,av];by_cases h:iG n e=true
 ·rw[if_pos h,aH,if_pos h];rfl
 ·rw[if_neg h,aH,if_neg h];simp
end FB
namespace FB
open PySem L2 PyProof.Rows
variable {H H':Hp}{es:List En}{p:Addr}{ps:List Addr}{v:V}
def del (H:Hp)(ps:List Addr):Hp:=fun b=>if b∈ps then none else H b
theorem eE {b:Addr}(h:b∉ps):del H ps b=H b:=by unfold del;rw[if_neg h]
theorem fH {b:Addr}(h:b∈ps):del H ps b=none:=by unfold del;rw[if_pos h]
theorem fm (H:Hp)(ps:List Addr):eG (del H ps) H:=fun b o e=>by
 by_cases h:b∈ps
 ·rw[fH h]at e;cases e
 ·rw[eE h]at e;exact e
theorem lF {o:HO}(h:p∈ps):del (upd H p o) ps=del H ps:=by
 funext b
 by_cases hb:b∈ps
 ·rw[fH hb,fH hb]
 ·rw[eE hb,eE hb,ef (fun z=>hb (by rw[z];exact h))]
theorem eG.del (e:eG H H')(ps:List Addr):eG (del H ps) (del H' ps):=fun b o q=>by
 by_cases h:b∈ps
 ·rw[fH h]at q;cases q
 ·rw[eE h]at q ⊢;exact e b o q
theorem eB (h:H p=none)(o:HO):eG H (upd H p o):=fun b u q=>by rw[ef (eo q h)];exact q
theorem eG.upd (e:eG H H'){o:HO}(h:H p=none):eG H (upd H' p o):=fun b u q=>by rw[ef (eo q h)];exact e b u q
def gX (H:Hp)(v:V)(n:Nd):Prop:=∃q,v=.ref q∧H q=some (.tup [.str n.1,.int n.2.1,.int n.2.2])
def fg (H:Hp)(v:V)(k:Str×Int):Prop:=∃q,v=.ref q∧H q=some (.tup [.str k.1,.int k.2])
def j6 (H:Hp)(v:V)(e:En):Prop:=∃q a xs,v=.ref q∧H q=some (.tup [.str e.1,.int e.2.1,.ref a])∧H a=some (.lst xs)∧Paired (gX H) xs e.2.2
def iU (H:Hp)(a:Addr)(es:List En):Prop:=∃xs,H a=some (.lst xs)∧Paired (j6 H) xs es
theorem gX.same (e:eG H H'){n:Nd}(h:gX H v n):gX H' v n:=(by obtain⟨q,h1,h2⟩:=h;exact⟨q,h1,e _ _ h2⟩)
theorem fg.same (e:eG H H'){k:Str×Int}(h:fg H v k):fg H' v k:=(by obtain⟨q,h1,h2⟩:=h;exact⟨q,h1,e _ _ h2⟩)
theorem j6.same (e:eG H H'){n:En}(h:j6 H v n):j6 H' v n:=
 (by obtain⟨q,a,xs,h1,h2,h3,h4⟩:=h;exact⟨q,a,xs,h1,e _ _ h2,e _ _ h3,Paired.JH h4 fun _ _ z=>gX.same e z⟩)
theorem iU.same (e:eG H H'){a:Addr}(h:iU H a es):iU H' a es:=
 (by obtain⟨xs,h1,h2⟩:=h;exact⟨xs,e _ _ h1,Paired.JH h2 fun _ _ z=>j6.same e z⟩)
def ku (k:Str×Int):PyData:=.tuple [.str k.1,.int k.2]
theorem fg.rep {k:Str×Int}(h:fg H v k):oN H v (ku k):=by
 obtain⟨q,rfl,h2⟩:=h;exact .tup h2 (.cons (.str _) (.cons (.int _) .nil))
theorem ow {H:Hp}{α:Type}{R:V→α→Prop}{f:α→PyData}(h:∀v a,R v a→oN H v (f a)):∀{vs:List V} {as:List α},Paired R vs as→oj H vs (as.map f)
 |_,_,.nil=>.nil
 |_,_,.cons r t=>.cons (h _ _ r) (ow h t)
theorem qR (H:Hp):∀ns:List Int,oj H (ns.map V.int) (ns.map PyData.int)
 |[]=>.nil
 |n::ns=>.cons (.int n) (qR H ns)
theorem Paired.J2 {α β:Type}{F:α→β→Prop}:∀{as:List α} {bs:List β} {i:Nat} {a:α},Paired F as bs→as[i]?=some a→∃b,bs[i]?=some b∧F a b
 |_,_,_,_,.nil,e=>by simp at e
 |_,_,0,_,.cons r _,e=>by simp at e;subst e;exact⟨_,rfl,r⟩
 |_,_,i+1,a,.cons _ t,e=>by
  obtain⟨b,h1,h2⟩:=Paired.J2 (i:=i) (a:=a) t (by simpa using e);exact⟨b,by simpa using h1,h2⟩
theorem vS {xs:List V}{i:Int}(d:0≤i)(h1:i<(xs.length:Int)):∃v,sW xs i=some v∧v∈xs:=by
 have a:i.toNat<xs.length:=by omega
 have b:i=((i.toNat:Nat):Int):=by omega
 have q:sW xs ((i.toNat:Nat):Int)=some xs[i.toNat]:=oM (ak a);rw[←b]at q;exact⟨_,q,List.getElem_mem a⟩
theorem ki {ns:List Int}{i:Int}(a:0≤i)(h1:i<(ns.length:Int)):∃z,sW (ns.map V.int) i=some (.int z)∧z∈ns:=by
 obtain⟨v,h2,b⟩:=vS (xs:=ns.map V.int) a (by rw[ab];exact h1);obtain⟨z,d,rfl⟩:=aA.mp b;exact⟨z,h2,d⟩
def gZ (es:List En)(x:Str):List Int:=(es.filter fun e=>decide (e.1=x)).map fun e=>e.2.1
theorem nQ (es:List En)(e:En)(x:Str):gZ (es++[e]) x=if e.1=x then gZ es x++[e.2.1] else gZ es x:=by
 unfold gZ;rw[bS,av];by_cases h:e.1=x
 ·rw[if_pos h,aH,if_pos (aq h)];rfl
 ·rw[if_neg h,aH,if_neg (by simpa using h)];simp
theorem jM (es:List En)(x:Str):(gZ es x).length≤es.length:=by
 unfold gZ;rw[ab];exact bz _ _
def mi (n:Nd)(z:Int):Bool:=decide (n.2.1≤z)&&decide (z≤n.2.2)
theorem pR (es:List En)(n:Nd):iH es n=(gZ es n.1).filter (mi n):=by
 induction es with
 |nil=>rfl
 |cons e es ih=>
  unfold iH gZ at ih ⊢;rw[aH,aH];by_cases h:e.1=n.1
  ·rw[if_pos (aq h),aD,aH];have a:iG n e=mi n e.2.1:=by unfold iG mi;rw[aq h,cw]
   rw[a];by_cases hb:mi n e.2.1=true
   ·rw[if_pos hb,if_pos hb,aD,ih]
   ·rw[if_neg hb,if_neg hb,ih]
  ·have a:¬iG n e=true:=by unfold iG;rw[ar h];simp
   rw[if_neg a,if_neg (by simpa using h),ih]
theorem zL {n:Nd}{ms:List Int}(h:ms.Perm (gZ es n.1)):(ms.filter (mi n)).Perm (iH es n):=by
 rw[pR];exact h.filter _
def jf (k:Str×Int):List L2.gB:=[Sum.inr k.1,Sum.inl k.2]
theorem p7 {k j:Str×Int}(h:jf k=jf j):k=j:=by
 obtain⟨a,b⟩:=k;obtain⟨c,d⟩:=j;unfold jf at h;injection h with h1 h2
 injection h2 with e g
 injection h1 with h1
 injection e with e
 exact Prod.ext h1 e
theorem nv:¬(("needs" : Str) = "versions"):=by decide +kernel
def jZ (dn dv:Addr):List (Str×V):=fZ "versions" (.ref dv) (fZ "needs" (.ref dn) [])
theorem gE (a b:Addr):(jZ a b).lookup ("needs" : Str)=some (.ref a):=by
 unfold jZ;rw[ip,if_neg nv,ip,if_pos rfl]
theorem jq (b a:Addr):(jZ b a).lookup ("versions" : Str)=some (.ref a):=by
 unfold jZ;rw[ip,if_pos rfl]
theorem qe (b a:Addr){m:Str}(h1:¬m = "versions")(h2:¬m = "needs"):(jZ b a).lookup m=none:=by
 unfold jZ;rw[ip,if_neg h1,ip,if_neg h2]
 all_goals rfl
def mQ (H:Hp)(kv:fM×V)(e:En):Prop:=kv.1=some (jf (eX e))∧∃a zs,kv.2=.ref a∧H a=some (.lst zs)∧Paired (gX H) zs e.2.2
def uD (H:Hp)(vk:List (gB×V))(es:List En)(d:Str→Prop):Prop:=
 ∀x:Str,(eW vk (Sum.inr x)=none∧gZ es x=[])∨∃l ms,eW vk (Sum.inr x)=some (.ref l)∧H l=some (.lst (List.map V.int ms))∧ms.Perm (gZ es x)∧(d x→ms.Pairwise (· ≥ ·))
inductive uL (C:Addr)(H:Hp)(p st:Addr)(es:List En):Prop
 |mk (dx dn dv nks vk:_)(_:H p=some (.ins C dx (jZ dn dv)))(_:Rd H dn (.dN ((none,.ref st)::nks)))(_:Paired (mQ H) nks es)(_:Rd H dv (.dK vk))(_:uD H vk es fun _=>True):uL C H p st es
structure gi (C:Addr)(H:Hp)(p st:Addr)(es:List En):Prop where
 ex:uL C H p st es
theorem mQ.same (e:eG H H'){kv:fM×V}{n:En}(h:mQ H kv n):mQ H' kv n:=
 (by obtain⟨h1,a,zs,h2,h3,h4⟩:=h;exact⟨h1,a,zs,h2,e _ _ h3,Paired.JH h4 fun _ _ z=>gX.same e z⟩)
theorem uD.same (e:eG H H'){vk:List (gB×V)}{d:Str→Prop}(h:uD H vk es d):uD H' vk es d:=fun x=>by
 rcases h x with z | ⟨l,ms,h1,h2,h3,h4⟩
 ·exact .inl z
 ·exact .inr ⟨l,ms,h1,e _ _ h2,h3,h4⟩
theorem ie (e:eG H H'){a:Addr}{u:HO}(h:Rd H a u):Rd H' a u:=h.imp (e _ _) (by rintro⟨o,z⟩;exact⟨o,e _ _ z⟩)
theorem gi.same {C:Addr}(e:eG H H'){st:Addr}(h:gi C H p st es):gi C H' p st es:=by
 obtain⟨dx,b,g,a,vk,h1,h2,j,d,i⟩:=h.ex;exact⟨dx,b,g,a,vk,e _ _ h1,ie e h2,Paired.JH j fun _ _ z=>mQ.same e z,ie e d,i.same e⟩
theorem ri {H:Hp}:∀{nks:List (fM×V)} {es:List En},Paired (mQ H) nks es→∀k:Str×Int,(k∉es.map eX∧eW nks (some (jf k))=none)∨∃e∈es,eX e=k∧∃a zs,eW nks (some (jf k))=some (.ref a)∧H a=some (.lst zs)∧Paired (gX H) zs e.2.2
 |_,_,.nil,k=>.inl ⟨by simp,rfl⟩
 |_,_,.cons (a:=kv) (b:=e) r t,k=>by
  obtain⟨h1,a,zs,h2,h3,h4⟩:=r;by_cases hk:eX e=k
  ·refine .inr ⟨e,by simp,hk,a,zs,?_,h3,h4⟩;rw[gv (by rw[h1,hk]),h2]
  ·have hn:¬kv.1=some (jf k):=by
    rw[h1];exact fun z=>hk (p7 (Option.some.inj z))
   rw[gj hn];rcases ri t k with ⟨i,g⟩ | ⟨h,d,z⟩
   ·refine .inl ⟨?_,g⟩;rw[aD,am];exact fun y=>y.elim (fun q=>hk q.symm) i
   ·exact .inr ⟨h,by simp[d],z⟩
end FB
namespace L2
open PySem PySem.Spec PyProof.Rows
variable {X:Cx}{pos:Pos}
section
variable {pins:List (Addr×Obj)}{σ:St}{H:Hp}{s:Shared}{h':Heap}
theorem eQ.J3 {t':Nat}{ch:List Addr}(I:eQ X pins σ H s)(d:∀b∈ch,jw X pins H b)(k:∀b o,b∉ch→s.heap.get? b=some o→h'.get? b=some o):eQ X pins σ H {s with heap:=h',toks:=t'}:=by
 refine I.step (g':=s.gens) (d':=s.drawn) (ch:=ch) (fun b i=>?_) (fun b o _ _ a e _=>k b o a e) (fun b o _ _ a e _=>⟨o.slots,k b o a e⟩) (fun _ _ _ _ n=>n)
  (fun b o a e=>⟨o,k b o a e⟩) (fun _ _ e=>e) (fun _ _ _ e=>e) (fun b ps e=>⟨#[],by rw[e];simp⟩) (fun m j=>?_) (fun b u e=>?_) I.bare
 ·obtain⟨w,p,x,t,l,h⟩:=d b i;exact⟨t,p,l,h⟩
 ·obtain⟨o,es,ep,g,r⟩:=j;exact⟨o,es,ep,k _ o (fun z=>(d _ z).2.1 rfl) g,r⟩
 ·have out:∀c v,H c=some v→c∉ch:=fun c v q z=>by rw[(d c z).1]at q;cases q
  refine(I.hok b u e).JI (fun c v a q=>k c v ?_ q) (fun _ q=>q) fun _ _ q=>q;rcases a with z | z
  ·rw[z];exact out b u e
  ·exact out c _ z
end
def Fs (K:W.Frag)(a:Addr):It:=
 ⟨fun i H=>∃xs x,fb K H a xs∧xs[i]?=some x,fun i H x H'=>∃t y,H t=none∧x=.ref t∧H'=upd H t (.tup [.int i,y])∧∀xs,fb K H a xs→xs[i]?=some y,fun i H=>∃xs,fb K H a xs∧xs.length≤i⟩
theorem xD {P:Program}{w:World}{K:W.Frag}{elts:List Expr}{k:Nat}(a e it:Addr)(al:e≠it):sX P w K (.Tuple elts k pos) (Fs K a) [e,it] e (fun i h=>(∃old,IsEnum h e it i old)∧h.IsListIter it a i) where
 mem:=by simp
 obj:=fun i h st b l=>by
  obtain⟨⟨old,j⟩,o,e1,c,d⟩:=st;rcases am.mp l with z | z
  ·subst z
   exact⟨_,j,fun v z=>by
    have z':Data.fields _=Data.cell v:=z
    cases z'⟩
  ·rw[aj.mp z];exact⟨o,e1,fun v z=>by rw[d]at z;cases z⟩
 keep:=fun i h h' st G=>⟨(by obtain⟨old,j⟩:=st.1;exact⟨old,G e (by simp) _ j⟩),st.2.at fun o z=>G it (by simp) o z⟩
 item:=by
  intro X B Q hK Y i pins s σ H E I M st Z;subst B Q hK;obtain⟨xs,x,L,S⟩:=Z;obtain⟨g,rv,p,hz⟩:=I.list L;obtain⟨u,hu,ru⟩:=rv.get S;obtain⟨⟨old,j⟩,m⟩:=st;have J:s.heap.IsList a g.toArray:=p.isList;have ag:a≠e:=fun z=>by
   obtain⟨o,h1,h2,_⟩:=J;rw[z,j]at h1;cases h1;exact absurd h2 (show ¬(Value.type "enumerate" = Value.type "list") by decide)
  have U:a≠it:=fun z=>by
   obtain⟨o,h1,h2,_⟩:=J;obtain⟨o',g1,g2,_⟩:=m;rw[z,g1]at h1;cases h1;rw[g2]at h2;exact absurd h2 (by decide)
  have hi:i<g.toArray.size:=by
   have:=(af.mp hu).1;simpa using this
  have W:=WalksT.enumerate (prog:=X.prog) (w:=X.w) (A:=X.A) (I.ok.hd Y) e it a al ag U g.toArray;refine W.item i s _ _ hi ⟨⟨old,j⟩,m,J⟩ fun T as h' tk B hT r hM G=>⟨.ref T,rfl,W.go elts k pos i T _ _ _ hM fun aa C D=>?_⟩;have ad:s.heap.get? T=none:=bg hT;have q:H T=none:=I.hok.fresh hT;have F:T∉[e,it]:=W.apart i T _ hM;have I1:eQ X pins σ H {s with heap:=aa,toks:=tk}:=I.J3 (ch:=[e,it]) M fun b o l z=>D b o l (G b o l z);obtain⟨o,ho,an,n,R⟩:=r;have O:=D T o F ho;obtain⟨t,y,N,rfl⟩:=B;have ah:y=u:=by
   have:g.toArray[i]?=some u:=by simpa using hu
   rw[this]at N;exact(Option.some.inj N).symm
  subst ah;refine⟨.ref T,upd H T (.tup [.int i,x]),I1.adopt (I.J1 ad q) ⟨by show 2≤sizeLine;decide,[.int i t,y],.cons ⟨t,rfl⟩ (.cons ru .nil),o,O,an,n,R⟩,rfl,⟨T,x,q,rfl,rfl,fun ys N=>by rw[I.JQ N L];exact S⟩,⟨C.1,C.2.1⟩,fun b l=>?_⟩;rw[ef (show b≠T from fun z=>F (by rw[←z];exact l))];exact(M b l).1
 done:=by
  intro X B Q hK Y i pins s σ H E I M st Z;subst B Q hK;obtain⟨xs,L,S⟩:=Z;obtain⟨g,rv,p,hz⟩:=I.list L;obtain⟨⟨old,j⟩,m⟩:=st;have J:=rv.length;obtain⟨f0,f1,f2,f3,f4,f5⟩:=M it (by simp);exact wpAny_pyNext_enum_end (I.ok.hd Y) j m p.isList (by simp;omega) fun h' eb=>⟨rfl,I.turned (t':=s.toks) (fun b o l e=>eb b o l e) f0 f1 f3 f4 f5⟩
 self:=fun _ _ _ _ _ st h=>(by obtain⟨_,j⟩:=st.1;exact wpAny_pyIter_enum j h)
def GE (K:W.Frag)(tl:TE):TI:=fun σ H R=>tl σ H fun x H1=>∃a xs,x=.ref a∧H1 a=some (.lst xs)∧R (Fs K a) H1
theorem Cl {elts:List Expr}{k:Nat}{tpos p:Pos}{l:Expr}{tl:TE}(v:Gl X "enumerate")(E:X.mg "enumerate" = none)(D:PE X l tl)(hs:starEach [l] X.env=[(false,eval l X.env)]:=by rfl):PI X (.Tuple elts k tpos) (.Call (.Name "enumerate" p) [l] [] pos) (GE X.K tl):=by
 intro pins s σ H R I h;refine bJ (jl I v E PyProof.Rows.boot_enumerate ?_ (by decide) (by decide));refine PyProof.Rows.callWith_type1 ?_ hs rfl;have B:=(dZ D el hs) pos pins s σ H (fun vs H1=>match vs with | [x]=>(∃a xs,x=.ref a∧H1 a=some (.lst xs)∧R (Fs X.K a) H1) | _=>False) I h;refine fW B ?_;rintro us s1 ⟨vs,H1,d,r,m⟩
 match vs,r,m with
 |[x],r,⟨a,xs,e2,hS,q⟩=>
  subst e2;obtain⟨u,rfl,o⟩:=ji r;cases (show u=Value.ref a from o);obtain⟨J,A,n,G,e⟩:=(show fN X.prog X.w H1 s1.heap a (.lst xs) from d.hok a _ hS);refine call_enumerate_1 e fun h' i g C y=>?_;refine wpAny_pyIter_enum (s:={s1 with heap:=h'}) i ?_;have j:s1.heap.get? s1.heap.objs.size=none:=bg (ao _);have F:s1.heap.get? (s1.heap.objs.size+1)=none:=bg (dB _);refine⟨s1.heap.objs.size+1,[s1.heap.objs.size+1,s1.heap.objs.size],_,_,H1,rfl,d.kept (t':=s1.toks) y,xD a _ _ (Nat.succ_ne_self _),⟨⟨_,i⟩,g⟩,fun b t=>?_,q⟩;rcases am.mp t with z | z
  ·subst z;exact d.J1 F (d.hok.fresh (dB _))
  ·rw[aj.mp z];exact d.J1 j (d.hok.fresh (ao _))
theorem AS {K:W.Frag}{a:Addr}{xs:List V}{g:TG}{tb:TS}{D:mS}{σ:St}{H:Hp}(b:Nat→St→Hp→Prop)(l:b 0 σ H)(h:∀i σ H,i≤xs.length→b i σ H→fb K H a xs)(o:∀i x σ H t,xs[i]?=some x→b i σ H→H t=none→g (.ref t) σ (upd H t (.tup [.int (i:Nat),x])) fun σ2 H2=>tb {D with nx:=b (i+1),ct:=b (i+1),bk:=D.nx} σ2 H2)(e:∀σ H,b xs.length σ H→D.nx σ H):∃W:Nat→Nat→St→Hp→Prop,(∃m,W 0 m σ H)∧∀i m σ H,W i m σ H→((Fs K a).stop i H∧D.nx σ H)∨((Fs K a).go i H∧∃N:St→Hp→Prop,(∀σ' H',N σ' H'→∃m',m'<m∧W (i+1) m' σ' H')∧∀x H',(Fs K a).yld i H x H'→g x σ H' fun σ2 H2=>tb {D with nx:=N,ct:=N,bk:=D.nx} σ2 H2):=by
 refine⟨fun i m σ H=>m=xs.length-i∧i≤xs.length∧b i σ H,⟨xs.length,by simp,bp _,l⟩,?_⟩;rintro i m σ H ⟨rfl,hi,p⟩;have q:=h i σ H hi p;rcases dj i xs.length with d | hge
 ·refine .inr ⟨⟨xs,xs[i],q,by simp[d]⟩,b (i+1),fun σ' H' r=>⟨xs.length-(i+1),by omega,rfl,d,r⟩,fun x H' y=>?_⟩;obtain⟨t,z,j,rfl,rfl,y⟩:=y;exact o i z σ _ t (y xs q) p j
 ·obtain rfl:i=xs.length:=Nat.le_antisymm hi hge;exact .inl ⟨⟨xs,q,ao _⟩,e σ H p⟩
section
variable {k:Nat}{x:Str}{p:Pos}{e:Expr}{es:List Expr}{t:TA}{i:Nat}
end
section
variable {P:Program}{w:World}{A:Around}{R:Result→Shared→Prop}{S it l:Addr}{items:Array Value}{ks:List (gB×Value)}
end
end L2
namespace FB
open PySem L2 PyProof.Rows
variable {H:Hp}
abbrev Pk:=Str×Int
def jK (H:Hp)(a:Addr)(ps:List Pk):Prop:=∃xs,H a=some (.lst xs)∧Paired (fg H) xs ps
def gL (H:Hp)(a:Addr)(ns:List Nd):Prop:=∃zs,H a=some (.lst zs)∧Paired (gX H) zs ns
theorem jK.same {H':Hp}(e:eG H H'){a:Addr}{ps:List Pk}(h:jK H a ps):jK H' a ps:=(by obtain⟨xs,h1,h2⟩:=h;exact⟨xs,e _ _ h1,Paired.JH h2 fun _ _ z=>fg.same e z⟩)
theorem gL.same {H':Hp}(e:eG H H'){a:Addr}{ns:List Nd}(h:gL H a ns):gL H' a ns:=(by obtain⟨xs,h1,h2⟩:=h;exact⟨xs,e _ _ h1,Paired.JH h2 fun _ _ z=>gX.same e z⟩)
def wm (ps:List Pk):List (gB×V):=ps.map fun k=>(Sum.inr k.1,V.int k.2)
def oP (ps:List Pk)(x:Str):Option Int:=(ps.find? fun k=>decide (k.1=x)).map (·.2)
theorem oR (x:Str):∀ps:List Pk,eW (wm ps) (Sum.inr x:gB)=(oP ps x).map V.int
 |[]=>rfl
 |k::ps=>by
  have ih:=oR x ps;unfold wm oP at *;rw[aD];by_cases h:k.1=x
  ·rw[gv (by rw[h]),bj,aq h];rfl
  ·rw[gj (fun z=>h (Sum.inr.inj z)),ih,bj,ar h]
theorem qN:∀(ps qs:List Pk),((qs++ps).map (·.1)).Nodup→jQ (wm qs) (wm ps)=wm (qs++ps)
 |[],qs,_=>by rw[cf];rfl
 |k::ps,qs,h=>by
  have hv:eW (wm qs) (Sum.inr k.1:gB)=none:=by
   rw[oR];have:oP qs k.1=none:=by
    unfold oP;rw[dP.mpr]
    ·rfl
    ·intro x b a;rw[av,bM]at h;exact h.2.2 x.1 (be b) k.1 (by simp) (aW a)
   rw[this];rfl
  show jQ (fq (wm qs) (Sum.inr k.1) (V.int k.2)) (wm ps)=_;rw[im _ hv];have e:wm qs++[((Sum.inr k.1:gB),V.int k.2)]=wm (qs++[k]):=by unfold wm;rw[av];rfl
  rw[e,qN ps (qs++[k]) (by rw[bI];exact h),bI];rfl
def jd (es:List En)(k:Pk):List Nd:=match es.find? fun e=>decide (eX e=k) with
 |some e=>e.2.2
 |none=>[]
theorem nS {es:List En}(b:(es.map eX).Nodup){e:En}(d:e∈es):jd es (eX e)=e.2.2:=by
 unfold jd;have:es.find? (fun x=>decide (eX x=eX e))=some e:=by
  induction es with
  |nil=>cases d
  |cons a es ih=>
   rw[aD,aX]at b;rw[bj];rcases am.mp d with z | z
   ·subst z;rw[aq rfl]
   ·have:¬eX a=eX e:=fun y=>b.1 (y▸be z);rw[ar this];exact ih b.2 z
 rw[this]
theorem gi.start {C:Addr}{p st:Addr}{es:List En}(B:gi C H p st es):∃dx dn dv,H p=some (.ins C dx (jZ dn dv))∧iw H dn .non (some (.ref st))∧∀(v:V) (k:Pk),fg H v k→(k∉es.map eX∧iw H dn v none)∨(k∈es.map eX∧∃e∈es,eX e=k∧∃a zs,iw H dn v (some (.ref a))∧H a=some (.lst zs)∧Paired (gX H) zs e.2.2):=by
 obtain⟨dx,dn,dv,l,vk,h1,h2,m,t,w⟩:=B.ex;refine⟨dx,dn,dv,h1,⟨_,none,h2,rfl,by rw[gv rfl]⟩,fun v k s=>?_⟩;obtain⟨q,rfl,r⟩:=s;have i:lK H (some (jf k)) (.ref q):=⟨q,rfl,r⟩;have b:¬((none:fM)=some (jf k)):=by intro z;cases z
 rcases ri m k with ⟨h,g⟩ | ⟨e,j,d,a,zs,h,g,o⟩
 ·exact .inl ⟨h,_,_,h2,i,by rw[gj b,g]⟩
 ·exact .inr ⟨d▸be j,e,j,d,a,zs,⟨_,_,h2,i,by rw[gj b,h]⟩,g,o⟩
end FB
namespace L2
open PySem PySem.Spec PyProof.Rows
def IN (K:W.Frag)(a b:Addr):It:=
 ⟨fun i H=>∃xs ys x y,fb K H a xs∧fb K H b ys∧xs[i]?=some x∧ys[i]?=some y,fun i H v H'=>∃t x y,H t=none∧v=.ref t∧H'=upd H t (.tup [x,y])∧(∀xs,fb K H a xs→xs[i]?=some x)∧∀ys,fb K H b ys→ys[i]?=some y,fun i H=>∃xs ys,fb K H a xs∧fb K H b ys∧(xs.length≤i∨ys.length≤i)⟩
theorem qx {h:Heap}{n l1 l2:Addr}{xs ys:Array Value}{f0 a b:Value}{i:Nat}{m1 m2:Addr}(hz:IsZip h (n+4) (n+2) (n+3) f0)(D:IsPair h (n+3) a b)(h1:h.IsListIter n m1 i)(h2:h.IsListIter (n+1) m2 i)(j:h.IsList l1 xs)(g:h.IsList l2 ys):ZipApart (n+4) (n+2) (n+3) n (n+1) l1 l2:=by
 have out:∀{l:Addr} {zs:Array Value},h.IsList l zs→l≠n+4∧l≠n+3∧l≠n∧l≠n+1:=by
  intro l zs t;obtain⟨o,e,g2,_⟩:=t;obtain⟨H,y,F,_⟩:=h1;obtain⟨G,E,r,_⟩:=h2;refine⟨fun z=>?_,fun z=>?_,fun z=>?_,fun z=>?_⟩
  ·rw[z,hz]at e;cases e;exact absurd g2 (show ¬(Value.type "zip" = Value.type "list") by decide)
  ·rw[z,D]at e;cases e;exact absurd g2 (show ¬(Value.type "tuple" = Value.type "list") by decide)
  ·rw[z,y]at e;cases e;rw[F]at g2;exact absurd g2 (by decide)
  ·rw[z,E]at e;cases e;rw[r]at g2;exact absurd g2 (by decide)
 obtain⟨A,B,C,m⟩:=out j;obtain⟨s,w,x,v⟩:=out g;have d:∀(p q:Nat),p≠q→n+p≠n+q:=fun p q h z=>h (Nat.add_left_cancel z);exact⟨d 2 4 (by decide),d 3 4 (by decide),d 0 4 (by decide),d 1 4 (by decide),d 2 3 (by decide),d 2 0 (by decide),d 2 1 (by decide),d 3 0 (by decide),d 3 1 (by decide),d 0 1 (by decide),A,B,C,m,s,w,x,v⟩
theorem yZ {P:Program}{w:World}{K:W.Frag}{elts:List Expr}{k:Nat}{pos:Pos}(a b n:Addr):sX P w K (.Tuple elts k pos) (IN K a b) [n+4,n+2,n+3,n,n+1] (n+4) (fun i h=>IsZip h (n+4) (n+2) (n+3) .none∧IsPair h (n+2) (.ref n) (.ref (n+1))∧(∃a b,IsPair h (n+3) a b)∧h.IsListIter n a i∧h.IsListIter (n+1) b i) where
 mem:=by simp
 obj:=fun i h st c e=>by
  obtain⟨r,g2,⟨_,_,g3⟩,⟨o4,e4,_,d4⟩,⟨o5,e5,_,d5⟩⟩:=st;simp only[am,aG,or_false]at e;rcases e with rfl | rfl | rfl | rfl | rfl
  ·exact⟨_,r,fun v z=>by have Q:Data.fields _=Data.cell v:=z;cases Q⟩
  ·exact⟨_,g2,fun v z=>by have Q:Data.seq _=Data.cell v:=z;cases Q⟩
  ·exact⟨_,g3,fun v z=>by have Q:Data.seq _=Data.cell v:=z;cases Q⟩
  ·exact⟨o4,e4,fun v z=>by rw[d4]at z;cases z⟩
  ·exact⟨o5,e5,fun v z=>by rw[d5]at z;cases z⟩
 keep:=fun i h h' st q=>by
  obtain⟨r,g2,⟨x,y,g3⟩,C,J⟩:=st;exact⟨q _ (by simp) _ r,q _ (by simp) _ g2,⟨x,y,q _ (by simp) _ g3⟩,C.at fun o z=>q n (by simp) o z,J.at fun o z=>q (n+1) (by simp) o z⟩
 item:=by
  intro X O hw hK e i pins s σ H E I hf st hg;subst O hw hK;obtain⟨xs,ys,x,y,Z,hr,Y,hy⟩:=hg;obtain⟨g,rv,p,hz⟩:=I.list Z;obtain⟨d,F,p2,ad⟩:=I.list hr;obtain⟨u,hu,ru⟩:=rv.get Y;obtain⟨v,hv,an⟩:=F.get hy;obtain⟨r,g2,⟨c1,c2,g3⟩,C,J⟩:=st;have N:s.heap.IsList a g.toArray:=p.isList;have l:s.heap.IsList b d.toArray:=p2.isList;have D:=qx r g3 C J N l;have W:=WalksT.zip2 (prog:=X.prog) (w:=X.w) (A:=X.A) (I.ok.hd e) _ _ _ _ _ a b D g.toArray d.toArray;have i1:i<g.toArray.size:=by have:=(af.mp hu).1;simpa using this
  have i2:i<d.toArray.size:=by have:=(af.mp hv).1;simpa using this
  refine W.item i s _ _ (by lia) ⟨r,g2,⟨c1,c2,g3⟩,C,J,N,l⟩ fun T a2 h' tk O hT M hM q=>⟨.ref T,rfl,W.go elts k pos i T _ _ _ hM fun al as U=>?_⟩;have G:s.heap.get? T=none:=bg hT;have L:H T=none:=I.hok.fresh hT;have j:T∉[n+4,n+3,n,n+1]:=W.apart i T _ hM;have ah:T≠n+2:=fun z=>by rw[z,g2]at G;cases G
  have B:∀c∈[n+4,n+3,n,n+1],jw X pins H c:=fun c e=>hf c (by simp only[am,aG,or_false]at e ⊢;rcases e with z | z | z | z <;> simp[z])
  have I1:eQ X pins σ H {s with heap:=al,toks:=tk}:=I.J3 (ch:=[n+4,n+3,n,n+1]) B fun b o t z=>U b o t (q b o t z);obtain⟨o,ho,a1,m,ag⟩:=M;have aa:=U T o j ho;obtain⟨u',v',S,R,rfl⟩:=O;have e1:u'=u:=by
   have:g.toArray[i]?=some u:=by simpa using hu
   rw[this]at S;exact(Option.some.inj S).symm
  have e2:v'=v:=by
   have:d.toArray[i]?=some v:=by simpa using hv
   rw[this]at R;exact(Option.some.inj R).symm
  subst e1 e2;obtain⟨t1,t2,t3,t4,t5,_⟩:=as;refine⟨.ref T,upd H T (.tup [x,y]),I1.adopt (I.J1 G L) ⟨by show 2≤sizeLine;decide,[u',v'],.cons ru (.cons an .nil),o,aa,a1,m,ag⟩,rfl,⟨T,x,y,L,rfl,rfl,fun zs hy=>by rw[I.JQ hy Z];exact Y,fun zs a0=>by rw[I.JQ a0 hr];exact hy⟩,⟨t1,t2,t3,t4,t5⟩,fun c e=>?_⟩;have:c≠T:=fun z=>by
   subst z;simp only[am,aG,or_false]at e j;rcases e with z | z | z | z | z
   ·exact j (.inl z)
   ·exact ah z
   ·exact j (.inr (.inl z))
   ·exact j (.inr (.inr (.inl z)))
   ·exact j (.inr (.inr (.inr z)))
  rw[ef this];exact(hf c e).1
 done:=by
  intro X O hw hK e i pins s σ H E I hf st hg;subst O hw hK;obtain⟨xs,ys,Z,hr,Y⟩:=hg;obtain⟨g,rv,p,hz⟩:=I.list Z;obtain⟨d,F,p2,ad⟩:=I.list hr;obtain⟨r,g2,⟨c1,c2,g3⟩,C,J⟩:=st;have N:s.heap.IsList a g.toArray:=p.isList;have l:s.heap.IsList b d.toArray:=p2.isList;have l1:=rv.length;have l2:=F.length;have B:∀c∈[n+4,n+3,n,n+1],jw X pins H c:=fun c e=>hf c (by simp only[am,aG,or_false]at e ⊢;rcases e with z | z | z | z <;> simp[z])
  refine wpAny_pyNext_zip_end (I.ok.hd e) (qx r g3 C J N l) r g2 g3 C J N l ?_ fun h' q=>⟨rfl,I.J3 (t':=s.toks) (ch:=[n+4,n+3,n,n+1]) B fun b o t z=>?_⟩
  ·rcases Y with z | z
   ·left;simp;lia
   ·right;simp;lia
  ·simp only[am,aG,or_false,not_or]at t;exact q b o t.1 t.2.1 t.2.2.1 t.2.2.2 z
 self:=fun _ _ _ _ _ st h=>wpAny_pyIter_zip st.1 h
def Iy (K:W.Frag)(tl tm:TE):TI:=fun σ H R=>tl σ H fun x H1=>tm σ H1 fun y H2=>∃a b xs ys,x=.ref a∧y=.ref b∧H2 a=some (.lst xs)∧H2 b=some (.lst ys)∧R (IN K a b) H2
theorem Ev {X:Cx}{elts:List Expr}{k:Nat}{tpos p pos:Pos}{l m:Expr}{tl tm:TE}(E:Gl X "zip")(S:X.mg "zip" = none)(O:PE X l tl)(F:PE X m tm)(hs1:starEach [m] X.env=[(false,eval m X.env)]:=by rfl)(hs:starEach [l,m] X.env=[(false,eval l X.env),(false,eval m X.env)]:=by rfl):PI X (.Tuple elts k tpos) (.Call (.Name "zip" p) [l,m] [] pos) (Iy X.K tl tm):=by
 intro pins s σ H R I h;refine bJ (jl I E S PyProof.Rows.boot_zip ?_ (by decide) (by decide));refine PyProof.Rows.callWith_type1 ?_ (by rw[hs,hs1]) (by rw[hs1];rfl);have J:=(dZ O (dZ F el hs1) (by rw[hs,hs1])) pos pins s σ H (fun vs H1=>match vs with | [x,y]=>(∃a b xs ys,x=.ref a∧y=.ref b∧H1 a=some (.lst xs)∧H1 b=some (.lst ys)∧R (IN X.K a b) H1) | _=>False) I h;refine fW J ?_;rintro us s1 ⟨vs,H1,d,r,C⟩
 match vs,r,C with
 |[x,y],r,⟨a,b,xs,ys,e1,e2,hS,hT,q⟩=>
  subst e1 e2;obtain⟨u,v,rfl,D,Q⟩:=v8 r;cases (show u=Value.ref a from D);cases (show v=Value.ref b from Q);obtain⟨Y,o,n,U,t⟩:=(show fN X.prog X.w H1 s1.heap a (.lst xs) from d.hok a _ hS);obtain⟨M,i,n2,P,g⟩:=(show fN X.prog X.w H1 s1.heap b (.lst ys) from d.hok b _ hT);refine call_zip_2 (xs:=o.toArray) (ys:=i.toArray) ⟨_,t,rfl,_,rfl⟩ ⟨_,g,rfl,_,rfl⟩ fun h' A g2 g3 N T L G=>?_;refine wpAny_pyIter_zip (s:={s1 with heap:=h'}) A ?_;have e:∀j,s1.heap.get? (s1.heap.objs.size+j)=none:=fun j=>bg (dg _ _);refine⟨s1.heap.objs.size+4,[s1.heap.objs.size+4,s1.heap.objs.size+2,s1.heap.objs.size+3,s1.heap.objs.size,s1.heap.objs.size+1],_,_,H1,rfl,d.kept (t':=s1.toks) G,yZ a b s1.heap.objs.size,⟨A,g2,⟨_,_,g3⟩,N,T⟩,fun c B=>?_,q⟩;have Z:∀j,jw X pins H1 (s1.heap.objs.size+j)→True:=fun _ _=>trivial;simp only[am,aG,or_false]at B;rcases B with z | z | z | z | z
  ·subst z;exact d.J1 (e 4) (d.hok.fresh (dg _ _))
  ·subst z;exact d.J1 (e 2) (d.hok.fresh (dg _ _))
  ·subst z;exact d.J1 (e 3) (d.hok.fresh (dg _ _))
  ·subst z;exact d.J1 (e 0) (d.hok.fresh (ao _))
  ·subst z;exact d.J1 (e 1) (d.hok.fresh (dg _ _))
end L2
namespace FB
open PySem L2 PyProof.Rows
variable {H H':Hp}{a:Addr}{i:Int}{l:Ln}{ls:List Ln}{v:V}
inductive uE where
 |one (k:Pk)
 |many (bs:List Int)
structure Rs where
 who:Option Pk
 place:Int
 told:uE
abbrev Ln:=List Pk×Rs
def mV:uE→Str
 |.one _=>"outside"
 |.many _=>"open"
def gz (H:Hp)(v:V):Option Pk→Prop
 |none=>v=.non
 |some k=>fg H v k
def km (H:Hp)(v:V):uE→Prop
 |.one k=>fg H v k
 |.many bs=>∃a,v=.ref a∧H a=some (.lst (bs.map V.int))
def mh (H:Hp)(v:V)(r:Rs):Prop:=∃q wv tv,v=.ref q∧H q=some (.tup [.str (mV r.told),wv,.int r.place,tv])∧gz H wv r.who∧km H tv r.told
def ol (H:Hp)(v:V)(l:Ln):Prop:=∃q a rv,v=.ref q∧H q=some (.tup [.ref a,rv])∧jK H a l.1∧mh H rv l.2
def j4 (H:Hp)(a:Addr)(ls:List Ln):Prop:=∃xs,H a=some (.lst xs)∧Paired (ol H) xs ls
theorem gz.same (e:eG H H'):∀{o:Option Pk},gz H v o→gz H' v o
 |none,h=>h
 |some _,h=>fg.same e h
theorem km.same (e:eG H H'):∀{t:uE},km H v t→km H' v t
 |.one _,h=>fg.same e h
 |.many _,⟨a,h1,h2⟩=>⟨a,h1,e _ _ h2⟩
theorem mh.same (e:eG H H'){r:Rs}(h:mh H v r):mh H' v r:=
 (by obtain⟨q,wv,tv,h1,h2,h3,h4⟩:=h;exact⟨q,wv,tv,h1,e _ _ h2,h3.same e,h4.same e⟩)
theorem ol.same (e:eG H H')(h:ol H v l):ol H' v l:=
 (by obtain⟨q,a,rv,h1,h2,h3,h4⟩:=h;exact⟨q,a,rv,h1,e _ _ h2,h3.same e,h4.same e⟩)
theorem j4.same (e:eG H H')(h:j4 H a ls):j4 H' a ls:=
 (by obtain⟨xs,h1,h2⟩:=h;exact⟨xs,e _ _ h1,Paired.JH h2 fun _ _ z=>ol.same e z⟩)
def D3:Option Pk→PyData
 |none=>.none
 |some k=>ku k
def y9:uE→PyData
 |.one k=>ku k
 |.many bs=>.list (bs.map PyData.int)
def Hq (r:Rs):PyData:=.tuple [.str (mV r.told),D3 r.who,.int r.place,y9 r.told]
def EQ (l:Ln):PyData:=.tuple [.list (l.1.map ku),Hq l.2]
theorem jK.rep {ps:List Pk}(h:jK H a ps):oN H (.ref a) (.list (ps.map ku)):=
 (by obtain⟨_,h1,h2⟩:=h;exact .lst h1 (ow (fun _ _ z=>fg.rep z) h2))
theorem gz.rep:∀{o:Option Pk},gz H v o→oN H v (D3 o)
 |none,h=>by cases (show v=.non from h);exact .non
 |some _,h=>fg.rep h
theorem km.rep:∀{t:uE},km H v t→oN H v (y9 t)
 |.one _,h=>fg.rep h
 |.many _,⟨a,h1,h2⟩=>by subst h1;exact .lst h2 (qR H _)
theorem mh.rep {r:Rs}(h:mh H v r):oN H v (Hq r):=by
 obtain⟨q,d,tv,rfl,h2,a,b⟩:=h;exact .tup h2 (.cons (.str _) (.cons a.rep (.cons (.int _) (.cons b.rep .nil))))
theorem ol.rep (h:ol H v l):oN H v (EQ l):=by
 obtain⟨q,a,e,rfl,h2,b,d⟩:=h;exact .tup h2 (.cons b.rep (.cons d.rep .nil))
theorem j4.rep (h:j4 H a ls):oN H (.ref a) (.list (ls.map EQ)):=
 (by obtain⟨_,h1,h2⟩:=h;exact .lst h1 (ow (fun _ _ z=>ol.rep z) h2))
structure vY (l:Ln):Prop where
 len:l.1.length≤20000
 pk:∀p∈l.1,fR p.1
 who:∀k,l.2.who=some k→fR k.1
 one:∀k,l.2.told=.one k→fR k.1
 many:∀bs,l.2.told=.many bs→bs.length≤100
theorem qH {k:Pk}(h:fR k.1):kY 1 (ku k)=true:=by simp[ku,kY,h.ok]
theorem C0 (k:Nat)(bs:List Int):kY (k+1) (.list (bs.map PyData.int))=true:=by
 rw[kY,bF];intro d a;obtain⟨b,e,rfl⟩:=aA.mp a;cases k <;> rfl
theorem Gz (h:vY l):kY 4 (EQ l)=true:=by
 obtain⟨ps,⟨who,b,a⟩⟩:=l;have h1:kY 3 (.list (ps.map ku))=true:=by
  rw[kY,bF];intro d g;obtain⟨k,i,rfl⟩:=aA.mp g;exact mI 1 _ 2 (by decide) (qH (h.pk k i))
 have h2:kY 2 (D3 who)=true:=by
  cases who with
  |none=>rfl
  |some k=>exact mI 1 _ 2 (by decide) (qH (h.who k rfl))
 have e:kY 2 (y9 a)=true∧PyData.strOk (mV a)=true:=by
  cases a with
  |one k=>exact⟨mI 1 _ 2 (by decide) (qH (h.one k rfl)),by show PyData.strOk "outside" = true;decide +kernel⟩
  |many bs=>exact⟨C0 1 bs,by show PyData.strOk "open" = true;decide +kernel⟩
 have j:kY 3 (Hq ⟨who,b,a⟩)=true:=by
  rw[Hq,kY];simp only[List.all_cons,List.all_nil,Bool.and_true,aB];refine⟨?_,h2,rfl,e.1⟩;rw[kY];exact e.2
 rw[EQ,kY];simp only[List.all_cons,List.all_nil,Bool.and_true,aB];exact⟨h1,j⟩
theorem EO (h:∀l∈ls,vY l):kY 10 (.list (ls.map EQ))=true:=by
 rw[kY,bF];intro d a;obtain⟨l,b,rfl⟩:=aA.mp a;exact mI 4 _ 9 (by decide) (Gz (h l b))
def iB {α:Type}(xs:List α)(i:Int):Option α:=if 0≤i then xs[i.toNat]? else none
theorem jE {α:Type}{xs:List α}{x:α}(h:iB xs i=some x):sW xs i=some x:=by
 unfold iB at h;by_cases h0:0≤i
 ·rw[if_pos h0]at h;have:=oM h;rwa[Int.toNat_of_nonneg h0]at this
 ·rw[if_neg h0]at h;cases h
theorem qM {α:Type}{xs:List α}:iB xs i=none↔(i<0∨(xs.length:Int)≤i):=by
 unfold iB;by_cases h0:0≤i
 ·rw[if_pos h0,List.getElem?_eq_none_iff];lia
 ·rw[if_neg h0];exact⟨fun _=>.inl (by lia),fun _=>rfl⟩
theorem iS {α β:Type}{F:α→β→Prop}{as:List α}{bs:List β}{b:β}(h:Paired F as bs)(d:iB bs i=some b):∃a,iB as i=some a∧F a b:=by
 unfold iB at d ⊢;by_cases h0:0≤i
 ·rw[if_pos h0]at d ⊢;have l:=Paired.length h;have g:i.toNat<bs.length:=(af.mp d).1;have e:as[i.toNat]?=some as[i.toNat]:=ak (by lia);obtain⟨j,h1,h2⟩:=Paired.J2 h e;rw[d]at h1;cases h1;exact⟨_,e,h2⟩
 ·rw[if_neg h0]at d;cases d
theorem io {α:Type}(xs:List α)(i:Nat):iB xs (i:Int)=xs[i]?:=by
 unfold iB;rw[if_pos (by lia),bu]
theorem mJ {α:Type}{xs:List α}{x:α}(h:iB xs i=some x):x∈xs:=by
 unfold iB at h;by_cases h0:0≤i
 ·rw[if_pos h0]at h;exact ai h
 ·rw[if_neg h0]at h;cases h
def iT (es:List En)(n:Nd):List Int:=(iH es n).mergeSort fun a b=>decide (b≤a)
theorem pr:∀{xs ys:List Int},xs.Pairwise (· ≥ ·)→ys.Pairwise (· ≥ ·)→xs.Perm ys→xs=ys
 |[],ys,_,_,h=>(List.nil_perm.mp h).symm
 |x::xs,[],_,_,h=>absurd h.length_eq (by simp)
 |x::xs,y::ys,hx,hy,h=>by
  rw[List.pairwise_cons]at hx hy;have e:x=y:=by
   have h1:x∈y::ys:=h.subset (bi ..);have h2:y∈x::xs:=h.symm.subset (bi ..);rcases am.mp h1 with z | z
   ·exact z
   ·rcases am.mp h2 with y' | y'
    ·exact y'.symm
    ·have:=hx.1 y y';have:=hy.1 x z;lia
  subst e;rw[pr hx.2 hy.2 ((List.perm_cons x).mp h)]
theorem pQ {es:List En}{n:Nd}{ms:List Int}(h:ms.Perm (iH es n))(h2:ms.Pairwise (· ≥ ·)):ms=iT es n:=by
 refine pr h2 ?_ (h.trans (List.mergeSort_perm _ _).symm);have:=List.pairwise_mergeSort (le:=fun a b:Int=>decide (b≤a)) (fun a b c h1 h2=>by simp only[aw]at *;lia) (fun a b=>by simp only[cS,aw];lia) (iH es n);exact this.imp fun h=>aW h
theorem kZ (es:List En)(n:Nd):(iT es n).length≤es.length:=by
 unfold iT;rw[(List.mergeSort_perm _ _).length_eq];exact je es n
def gJ (es:List En)(sn:List Nd):Option Pk→List Nd
 |none=>sn
 |some k=>jd es k
def D4 (es:List En)(ps:List Pk):Option Pk→Bool
 |none=>true
 |some k=>decide (k∈ps)&&decide (k∈es.map eX)
def qi (n:Nd)(k:Pk):Bool:=decide (k.1=n.1)&&!(mi n k.2)
def ut (ls:List Ln)(spot:Int)(ps:List Pk)(x:Str)(b v:Int):Bool:=decide (0≤b)&&(decide (b<spot)&&match iB ls b with
 |none=>false
 |some l=>l.1.all fun p=>decide (p∈ps)||decide (p=(x,v)))
def kD (es:List En)(ls:List Ln)(spot:Int)(ps:List Pk)(n:Nd)(bs:List Int):Bool:=
 decide (bs.length=(iT es n).length)&&(bs.zip (iT es n)).all fun bv=>ut ls spot ps n.1 bv.1 bv.2
def Di (es:List En)(ls:List Ln)(spot:Int)(ps:List Pk)(n:Nd):uE→Bool
 |.one k=>decide (k∈ps)&&qi n k
 |.many bs=>kD es ls spot ps n bs
def i7 (es:List En)(sn:List Nd)(ls:List Ln)(spot:Int)(l:Ln):Bool:=
 D4 es l.1 l.2.who&&match iB (gJ es sn l.2.who) l.2.place with
 |none=>false
 |some n=>Di es ls spot l.1 n l.2.told
theorem tU {es:List En}{sn:List Nd}(hok:∀e∈es,mT e)(hsp:∀n∈sn,fR n.1):∀(w:Option Pk) (n:Nd),n∈gJ es sn w→fR n.1
 |none,n,h=>hsp n h
 |some k,n,h=>by
  have h':n∈jd es k:=h;unfold jd at h';cases hf:es.find? (fun e=>decide (eX e=k)) with
  |none=>rw[hf]at h';cases h'
  |some e=>rw[hf]at h';exact(hok e (db hf)).nd n h'
end FB
namespace L2
open PySem PySem.Spec PyProof.Rows
variable {A:Around}{D:mS}{E Q:Value→Shared→Prop}{H:Hp}{K:W.Frag}{P:Program}{X:Cx}{a d:Addr}{b:SI}{g:TG}{i m:Nat}{kvs:List (fM×V)}{o:Obj}{p:Array Nat}{pins:List (Addr×Obj)}{s:Shared}{tb:TS}{tg:Expr}{w:World}{σ:St}
theorem zK {α β:Type}{F:α→β→Prop}:∀{as:List α} {bs:List β} {i:Nat} {a:α},Paired F as bs→as[i]?=some a→∃b,bs[i]?=some b∧F a b
 |_,_,_,_,.nil,e=>by simp at e
 |_,_,0,_,.cons r _,e=>by simp at e;subst e;exact⟨_,rfl,r⟩
 |_,_,i+1,a,.cons _ t,e=>by
  obtain⟨b,h1,h2⟩:=zK (i:=i) (a:=a) t (by simpa using e);exact⟨b,by simpa using h1,h2⟩
def Dh:HO→Prop
 |.dK _=>True
 |.dN _=>True
 |_=>False
theorem eQ.freeze {u:HO}(I:eQ X pins σ H s)(e:H a=some u)(i:Dh u):∃o,s.heap.get? a=some o∧eQ X pins σ (upd H a (.frz o u)) s:=by
 obtain⟨o,h⟩:=(I.hok a u e).some;have g:∀b v,H b=some v→¬Dh v→b≠a:=fun b v q n z=>n (by rw[z,e]at q;cases q;exact i);have own:∀b x,H b=some (.own x)→upd H a (.frz o u) b=some (.own x):=fun b x q=>by rw[ef (g b _ q fun z=>z)];exact q
 have tup:∀b xs,H b=some (.tup xs)→upd H a (.frz o u) b=some (.tup xs):=fun b xs q=>by rw[ef (g b _ q fun z=>z)];exact q
 have J:=I.un (H':=upd H a (.frz o u)) (h':=s.heap) (t':=s.toks) ⟨fun b _ q _ _ _=>q,fun b d q _ _ _=>⟨d.slots,q⟩,fun b d _ n _=>(by rw[ef (fun z=>by rw[z,e]at n;cases n)];exact n),fun b d q _=>⟨d,q⟩,tup,fun b d v q=>(by rw[ef (g b _ q fun z=>z)];exact q),fun b ps q=>⟨#[],by rw[ef (g b _ q fun z=>z),q];simp⟩⟩ (fun b v q=>by
   by_cases hb:b=a
   ·subst hb;rw[d0]at q;cases q;exact⟨h,(I.hok b u e).JI (fun _ _ _ z=>z) (fun c z=>own c b z) tup⟩
   ·rw[ef hb]at q
    exact(I.hok b v q).JI (fun _ _ _ z=>z) (fun c z=>own c b z) tup)
 exact⟨o,h,J⟩
inductive Hf (Q:VK)(x:V)(H1:Hp):Prop
 |mk (a u:_)(_:x=.ref a)(_:H1 a=some u)(_:Dh u)(_:∀o,Q x (upd H1 a (.frz o u))):Hf Q x H1
def Jj (te:TE):TE:=fun σ H Q=>te σ H fun x H1=>Hf Q x H1
theorem zP {e:Expr}{te:TE}(i:PE X e te):PE X e (Jj te):=by
 intro pins s σ H Q I h;refine fW (i pins s σ H _ I h) ?_;rintro v m ⟨x,H1,g,b,a,u,ex,j,d,q⟩;obtain⟨o,_,l⟩:=g.freeze j d;exact⟨x,_,l,b,q o⟩
section
variable {it:Addr}{es:Array DictEntry}{ep:Nat}
theorem oF (a:s.heap.get? d=some o)(i:o.ExactDict)(e:o.data=.dict es ep)(h:(d == sysModules)=false)(g:Q (.ref s.heap.objs.size) {s with heap:=s.heap.push {cls:=.type "dict_keyiterator",data:=.fields #[.ref d,.int 0 0,.int es.size 0,.int ep 0]}}):wpAny (model P w) A (pyIter (.ref d)) Q E s:=by
 have b:s.TypeIs (.ref d) "dict":=⟨o,a,i.1⟩;refine wpAny_pyIter_slot b F.slot_dict_iter (cj F.slot_dict_iter b F.entry_dict_iter ?_ (F.args_dict_iter_1 _));unfold Builtin.«dict.__iter__»;refine ac ?_;unfold Builtin.Dict.dictSlotNone;refine ac (dD b ?_);show wpAny _ _ (pure (Value.ref d)) _ _ s;refine ap ?_;show wpAny _ _ (Builtin.Dict.showsAll d >>= _) _ _ s;unfold Builtin.Dict.showsAll;rw[if_neg (by rw[h];exact aN)];refine ac (ap ?_);refine ac (cU a e (ac (bK a e ?_)));refine ac (dW (ap ⟨_,rfl,"dict_keyiterator",_,⟨_,aJ _ rfl,rfl⟩,F.slot_dict_keyiterator_next.lookup,?_⟩));simpa [rawInt] using g
theorem oA {Q:Option Value→Shared→Prop}(a:s.heap.IsKeyIter it d i es.size ep)(j:s.heap.get? d=some o)(h:o.data=.dict es ep)(m:i<es.size)(p:∀h',h'.IsKeyIter it d (i+1) es.size ep→Heap.SameBut it s.heap h'→Q (some es[i].key) {s with heap:=h'}):wpAny (model P w) A (pyNext (.ref it)) Q E s:=by
 obtain⟨r,e,q,l⟩:=id a;unfold pyNext;refine ac (wpAny_attempt (dr (name:=Str.ofString "__next__") a.typeIs F.slot_dict_keyiterator_next (cj F.slot_dict_keyiterator_next a.typeIs F.entry_dict_keyiterator_next ?_ (F.args_dict_keyiterator_next_1 _))))
 refine ac (ap ?_);refine ac ?_;refine ac ?_
 first | (refine ac (cK a.typeIs (ap ?_))) | (refine ac (di a.typeIs (ap ?_)))
 refine ac (wpAny_fieldsOf e l ?_);have g:Builtin.Dict_items.ownsTuple "dict_keyiterator" = false:=by decide +kernel
 simp only[g,ci,if_false];show wpAny _ _ (if (Value.ref d == Value.none)=true then _ else _) _ _ s;rw[if_neg (fun z:(Value.ref d == Value.none)=true=>aN z)];refine ac (ap ?_);refine ac (cU j h ?_);rw[if_neg (by simp)];refine ac (ap ?_);refine ac (bK j h ?_);rw[if_neg (by simp)];refine ap ?_;simp only[show ¬((i:Int)<0) by omega,if_false,bu,cA m];refine ac ?_
 first | (refine ac (cK a.typeIs (ap ?_))) | (refine ac (di a.typeIs (ap ?_)))
 refine ac (wpAny_isOneOf_keyiter a.typeIs ?_);show wpAny _ _ (setField (.ref it) 1 (rawInt ((i:Int)+1)) >>= _) _ _ s;refine ac (wpAny_setField e l (by simp) ?_);have b:(s.heap.update it (Obj.mapFields (·.setIfInBounds 1 (rawInt ((i:Int)+1))))).IsKeyIter it d (i+1) es.size ep:=⟨_,cR _ e (Obj.isFreed_of_fields (Obj.data_mapFields l _)),(Obj.cls_mapFields ..).trans q,by rw[Obj.data_mapFields l];simp[rawInt]⟩;refine ac (bE ?_);refine ac (wpAny_isOneOf_keyiter (s:={s with heap:=s.heap.update it (Obj.mapFields (·.setIfInBounds 1 (rawInt ((i:Int)+1))))}) b.typeIs ?_);show wpAny _ _ (pure es[i].key) _ _ _;exact ap (ap ⟨_,rfl,ap (p _ b (Heap.SameBut.update ..))⟩)
end
section
variable {it:Addr}{es:Array DictEntry}{ep:Nat}
theorem vv {Q:Option Value→Shared→Prop}(r:A.handled=none)(e:s.heap.IsKeyIter it d i es.size ep)(l:s.heap.get? d=some o)(h:o.data=.dict es ep)(p:es.size≤i)(t:∀h',Heap.ExtBut it s.heap h'→Q none {s with heap:=h'}):wpAny (model P w) A (pyNext (.ref it)) Q E s:=by
 obtain⟨v,j,x,q⟩:=id e;unfold pyNext;refine ac (wpAny_attempt (dr (name:=Str.ofString "__next__") e.typeIs F.slot_dict_keyiterator_next (cj F.slot_dict_keyiterator_next e.typeIs F.entry_dict_keyiterator_next ?_ (F.args_dict_keyiterator_next_1 _))))
 refine ac (ap ?_);refine ac ?_;refine ac ?_
 first | (refine ac (cK e.typeIs (ap ?_))) | (refine ac (di e.typeIs (ap ?_)))
 refine ac (wpAny_fieldsOf j q ?_);have g:Builtin.Dict_items.ownsTuple "dict_keyiterator" = false:=by decide +kernel
 simp only[g,ci,if_false];show wpAny _ _ (if (Value.ref d == Value.none)=true then _ else _) _ _ s;rw[if_neg (fun z:(Value.ref d == Value.none)=true=>aN z)];refine ac (ap ?_);refine ac (cU l h ?_);rw[if_neg (by simp)];refine ac (ap ?_);refine ac (bK l h ?_);rw[if_neg (by simp)];refine ap ?_;simp only[show ¬((i:Int)<0) by lia,if_false,bu,Array.getElem?_eq_none p];refine ac ?_
 first | (refine ac (cK e.typeIs (ap ?_))) | (refine ac (di e.typeIs (ap ?_)))
 show wpAny _ _ (setField (.ref it) 0 .none >>= _) _ _ s;refine ac (wpAny_setField j q (by simp) ?_);show wpAny _ _ (newExc (.type "StopIteration") [] >>= _) _ _ _;refine ac ?_;simp only[newExc,newTuple];refine ac (dW ?_ (by size_fits));refine ac (m:=firstArgMember _ _) (wpAny_of_eq (a:=Value.none) (by first | rfl | (simp only[firstArgMember];rfl)) ?_);refine dW ?_ (by size_fits);simp only[raiseNew];refine ac (wpAny_handled ?_);rw[show A.in1.handled=none from r];refine ac (ap (wpAny_throw ?_));refine ac (wpAny_isInstance (T:="StopIteration") (b:=true) ⟨_,aJ _ rfl,rfl⟩ isSubtype_stop ?_);exact ap (t _ (((Heap.SameBut.update ..).extBut.push _).push _))
end
def Fj (a:Addr)(o:Obj)(kvs:List (gB×V)):It:=
 ⟨fun i H=>i<kvs.length∧H a=some (.frz o (.dK kvs)),fun i H x H'=>H'=H∧∃kv,kvs[i]?=some kv∧x=kV kv.1,fun i H=>kvs.length≤i∧H a=some (.frz o (.dK kvs))⟩
def Fr (a:Addr)(o:Obj)(kvs:List (fM×V)):It:=
 ⟨fun i H=>i<kvs.length∧H a=some (.frz o (.dN kvs)),fun i H x H'=>H'=H∧∃kv,kvs[i]?=some kv∧lK H kv.1 x,fun i H=>kvs.length≤i∧H a=some (.frz o (.dN kvs))⟩
theorem nX {h:Heap}{kvs:List (gB×V)}(ok:lG P w H h)(e:H a=some (.frz o (.dK kvs))):h.get? a=some o∧(a == sysModules)=false∧o.ExactDict∧∃es ep,o.data=.dict es ep∧es.size=kvs.length∧∀(i:Nat) (kv:gB×V) (hi:i<es.size),kvs[i]?=some kv→eY (kV kv.1) es[i].key:=by
 obtain⟨b,q⟩:=(show h.get? a=some o∧fN P w H h a (.dK kvs) from ok a _ e);obtain⟨z,s,vs,r,o',es,ep,h1,h2,l,x,j,t⟩:=q;rw[b]at h1;cases h1;have y:es.size=vs.length:=by rw[←j.length];simp
 have A:kvs.length=vs.length:=Paired.length r;refine⟨b,s,h2,es,ep,l,by lia,fun i kv hi m=>?_⟩;have g:vs[i]?=some vs[i]:=ak (by lia);obtain⟨u,d,p⟩:=zK r m;rw[g]at d;cases d;have:=(j.get? (e:=es[i]) (k:=vs[i].1) (v:=vs[i].2) (by simp[hi]) g).1;rw[show kv.1=vs[i].1 from p.1];exact vF this
theorem AO {h:Heap}(ok:lG P w H h)(e:H a=some (.frz o (.dN kvs))):h.get? a=some o∧(a == sysModules)=false∧o.ExactDict∧∃es ep,o.data=.dict es ep∧es.size=kvs.length∧∀(i:Nat) (kv:fM×V) (hi:i<es.size),kvs[i]?=some kv→∃x,eY x es[i].key∧lK H kv.1 x:=by
 obtain⟨g,q⟩:=(show h.get? a=some o∧fN P w H h a (.dN kvs) from ok a _ e);obtain⟨z,y,xs,r,o',es,ep,h1,h2,p,l,E⟩:=q;rw[g]at h1;cases h1;have C:es.size=xs.length:=by rw[←bn,l,ab]
 have D:kvs.length=xs.length:=Paired.length r;refine⟨g,y,h2,es,ep,p,by lia,fun i kv hi s=>?_⟩;obtain⟨u,m,v⟩:=zK r s;have j:es.toList[i]?=some (uf P w u):=by rw[l,ae,m];rfl
 rw[bD,cA hi]at j
 rw[Option.some.inj j];obtain⟨B,d,_⟩:=v;show ∃x,eY x u.2.1∧lK H kv.1 x
 revert d
 cases kv.1 with
 |none=>exact fun d=>⟨.non,d,rfl⟩
 |some ks=>exact(by rintro⟨b,t,A⟩;exact⟨.ref b,t,b,rfl,A⟩)
theorem v9 (a it:Addr)(o:Obj)(es:Array DictEntry)(ep:Nat)(kvs:List (gB×V))(hd:o.data=.dict es ep)(Y:es.size=kvs.length):sX P w K tg (Fj a o kvs) [it] it (fun i h=>h.IsKeyIter it a i es.size ep) where
 mem:=by simp
 obj:=fun i h st b d=>by
  obtain⟨J,e,c,B⟩:=st;rw[aj.mp d];exact⟨J,e,fun v z=>by rw[B]at z;cases z⟩
 keep:=fun i h h' st k=>st.at fun o e=>k it (by simp) o e
 item:=by
  intro X D x t L i pins s σ H E I m st ⟨hi,p⟩;subst D x t;obtain⟨q,r,T,F,C,A⟩:=m it (by simp);obtain⟨y,hS,Z,Q,N,l,S,R⟩:=nX I.hok p;rw[hd]at l;cases l;have g:i<es.size:=by lia
  have G:kvs[i]?=some kvs[i]:=ak hi;refine oA st y hd g fun h' j U=>?_;have M:eQ X pins σ H {s with heap:=h'}:=I.turned (t':=s.toks) (fun b o d e=>(U.2 b d).trans e) q r F C A;obtain⟨J,e,c,B⟩:=id j;exact⟨_,rfl,ua (s:={s with heap:=h'}) e c B (by decide) ⟨kV kvs[i].1,H,M,R i _ g G,⟨rfl,_,G,rfl⟩,j,fun b d=>(m b d).1⟩⟩
 done:=by
  intro X D x t L i pins s σ H E I m st ⟨hi,p⟩;subst D x t;obtain⟨q,r,T,F,C,A⟩:=m it (by simp);obtain⟨y,_⟩:=nX I.hok p;exact vv (I.ok.hd L) st y hd (by lia) fun h' O=>⟨rfl,I.turned (t':=s.toks) (fun b o d e=>O b o d e) q r F C A⟩
 self:=fun _ _ _ _ _ st h=>wpAny_pyIter_keyiter st h
theorem BR (a it:Addr)(o:Obj)(es:Array DictEntry)(ep:Nat)(kvs:List (fM×V))(hd:o.data=.dict es ep)(hl:es.size=kvs.length):sX P w K tg (Fr a o kvs) [it] it (fun i h=>h.IsKeyIter it a i es.size ep) where
 mem:=by simp
 obj:=fun i h st b d=>by
  obtain⟨L,e,c,C⟩:=st;rw[aj.mp d];exact⟨L,e,fun v z=>by rw[C]at z;cases z⟩
 keep:=fun i h h' st k=>st.at fun o e=>k it (by simp) o e
 item:=by
  intro X F y t M i pins s σ H E I m st ⟨hi,p⟩;subst F y t;obtain⟨q,r,Z,G,D,B⟩:=m it (by simp);obtain⟨A,hS,hx,S,Q,l,U,T⟩:=AO I.hok p;rw[hd]at l;cases l;have g:i<es.size:=by lia
  have J:kvs[i]?=some kvs[i]:=ak hi;obtain⟨x,Y,N⟩:=T i _ g J;refine oA st A hd g fun h' j sb=>?_;have O:eQ X pins σ H {s with heap:=h'}:=I.turned (t':=s.toks) (fun b o d e=>(sb.2 b d).trans e) q r G D B;obtain⟨L,e,c,C⟩:=id j;exact⟨_,rfl,ua (s:={s with heap:=h'}) e c C (by decide) ⟨x,H,O,Y,⟨rfl,_,J,N⟩,j,fun b d=>(m b d).1⟩⟩
 done:=by
  intro X F y t M i pins s σ H E I m st ⟨hi,p⟩;subst F y t;obtain⟨q,r,Z,G,D,B⟩:=m it (by simp);obtain⟨A,_⟩:=AO I.hok p;exact vv (I.ok.hd M) st A hd (by lia) fun h' R=>⟨rfl,I.turned (t':=s.toks) (fun b o d e=>R b o d e) q r G D B⟩
 self:=fun _ _ _ _ _ st h=>wpAny_pyIter_keyiter st h
section
variable {l:Expr}{tl:TE}
inductive Hl (R:It→Hp→Prop)(x:V)(H1:Hp):Prop
 |mk (a o kvs:_)(_:x=.ref a)(_:H1 a=some (.frz o (.dK kvs)))(_:R (Fj a o kvs) H1):Hl R x H1
def Jx (tl:TE):TI:=fun σ H R=>tl σ H fun x H1=>Hl R x H1
theorem zJ (m:PE X l tl):PI X tg l (Jx tl):=by
 intro pins s σ H R I h;refine fW (m pins s σ H _ I h) ?_;rintro v g ⟨x,H1,d,p,a,o,kvs,ex,z,q⟩;subst ex;cases (show v=Value.ref a from p);obtain⟨j,y,t,es,ep,i,w,_⟩:=nX d.hok z;refine oF j t i y ⟨g.heap.objs.size,[g.heap.objs.size],_,_,H1,rfl,d.kept (t':=g.toks) fun b o e=>ay _ e,v9 a _ o es ep kvs i w,⟨_,aJ _ rfl,rfl,rfl⟩,fun b r=>?_,q⟩
 rw[aj.mp r];exact d.JT (ao _) (d.hok.fresh (ao _))
end
theorem vH {J:It}{n:Nat}(a:Nat→St→Hp→Prop)(o:a 0 σ H)(h:∀i σ H,i<n→a i σ H→J.go i H)(e:∀σ H,a n σ H→J.stop n H)(l:∀i x σ H H',i<n→J.yld i H x H'→a i σ H→g x σ H' fun σ2 H2=>tb {D with nx:=a (i+1),ct:=a (i+1),bk:=D.nx} σ2 H2)(d:∀σ H,a n σ H→D.nx σ H):∃W:Nat→Nat→St→Hp→Prop,(∃m,W 0 m σ H)∧∀i m σ H,W i m σ H→(J.stop i H∧D.nx σ H)∨(J.go i H∧∃N:St→Hp→Prop,(∀σ' H',N σ' H'→∃m',m'<m∧W (i+1) m' σ' H')∧∀x H',J.yld i H x H'→g x σ H' fun σ2 H2=>tb {D with nx:=N,ct:=N,bk:=D.nx} σ2 H2):=by
 refine⟨fun i m σ H=>m=n-i∧i≤n∧a i σ H,⟨n,by simp,bp _,o⟩,?_⟩;rintro i m σ H ⟨rfl,hi,p⟩;rcases dj i n with b | hge
 ·exact .inr ⟨h i σ H b p,a (i+1),fun σ' H' j=>⟨n-(i+1),by lia,rfl,b,j⟩,fun x H' y=>l i x σ H H' b y p⟩
 ·obtain rfl:i=n:=Nat.le_antisymm hi hge;exact .inl ⟨e σ H p,d σ H p⟩
theorem sQ {kvs:List (gB×V)}(Pv:Nat→St→Hp→Prop)(h0:Pv 0 σ H)(hl:∀i σ H,i≤kvs.length→Pv i σ H→H a=some (.frz o (.dK kvs)))(hs:∀i kv σ H,kvs[i]?=some kv→Pv i σ H→g (kV kv.1) σ H fun σ2 H2=>tb {D with nx:=Pv (i+1),ct:=Pv (i+1),bk:=D.nx} σ2 H2)(hd:∀σ H,Pv kvs.length σ H→D.nx σ H):∃W:Nat→Nat→St→Hp→Prop,(∃m,W 0 m σ H)∧∀i m σ H,W i m σ H→((Fj a o kvs).stop i H∧D.nx σ H)∨((Fj a o kvs).go i H∧∃N:St→Hp→Prop,(∀σ' H',N σ' H'→∃m',m'<m∧W (i+1) m' σ' H')∧∀x H',(Fj a o kvs).yld i H x H'→g x σ H' fun σ2 H2=>tb {D with nx:=N,ct:=N,bk:=D.nx} σ2 H2):=
 vH Pv h0 (fun i σ H hi p=>⟨hi,hl i σ H (cD hi) p⟩) (fun σ H p=>⟨ao _,hl _ σ H (ao _) p⟩) (fun i x σ H H' hi y p=>by
  obtain⟨rfl,kv,hk,rfl⟩:=y
  exact hs i kv σ _ hk p) hd
theorem vI (Pv:Nat→St→Hp→Prop)(h0:Pv 0 σ H)(hl:∀i σ H,i≤kvs.length→Pv i σ H→H a=some (.frz o (.dN kvs)))(hs:∀i kv x σ H,kvs[i]?=some kv→lK H kv.1 x→Pv i σ H→g x σ H fun σ2 H2=>tb {D with nx:=Pv (i+1),ct:=Pv (i+1),bk:=D.nx} σ2 H2)(hd:∀σ H,Pv kvs.length σ H→D.nx σ H):∃W:Nat→Nat→St→Hp→Prop,(∃m,W 0 m σ H)∧∀i m σ H,W i m σ H→((Fr a o kvs).stop i H∧D.nx σ H)∨((Fr a o kvs).go i H∧∃N:St→Hp→Prop,(∀σ' H',N σ' H'→∃m',m'<m∧W (i+1) m' σ' H')∧∀x H',(Fr a o kvs).yld i H x H'→g x σ H' fun σ2 H2=>tb {D with nx:=N,ct:=N,bk:=D.nx} σ2 H2):=
 vH Pv h0 (fun i σ H hi p=>⟨hi,hl i σ H (cD hi) p⟩) (fun σ H p=>⟨ao _,hl _ σ H (ao _) p⟩) (fun i x σ H H' hi y p=>by
  obtain⟨rfl,kv,hk,kx⟩:=y
  exact hs i kv x σ _ hk kx p) hd
theorem wN {J:It}{n:Nat}{tt:TT}{te:TE}{σ':St}{H1:Hp}{Q:VK}(a:Addr→Nat→List V→Hp→Prop)(l:∀D,H1 D=none→a D 0 [] (upd H1 D (.lst [])))(j:∀D i ys H,i≤n→a D i ys H→(i<n→J.go i H)∧(i=n→J.stop i H)∧H D=some (.lst ys)∧ys.length<sizeLine)(o:∀D i x ys H H2,i<n→J.yld i H x H2→a D i ys H→g x σ' H2 fun σ2 H3=>tt σ2 H3 fun b H4=>if b=true then te σ2 H4 fun y H5=>H5 D=some (.lst ys)∧a D (i+1) (ys++[y]) (upd H5 D (.lst (ys++[y]))) else a D (i+1) ys H4)(e:∀D ys H,a D n ys H→Q (.ref D) H):rf J g tt te σ' H1 Q:=by
 intro D q;refine⟨fun i m ys H=>m=n-i∧i≤n∧a D i ys H,⟨n,by simp,bp _,l D q⟩,?_⟩;rintro i m ys H ⟨rfl,hi,p⟩;obtain⟨h,s,v,t⟩:=j D i ys H hi p;refine⟨v,t,?_⟩;rcases dj i n with d | hge
 ·exact .inr ⟨h d,a D (i+1),fun zs H' r=>⟨n-(i+1),by lia,rfl,d,r⟩,fun x H' y=>o D i x ys H H' d y p⟩
 ·obtain rfl:i=n:=Nat.le_antisymm hi hge;exact .inl ⟨s rfl,e D ys H p⟩
def Fq (K:W.Frag)(a:Addr)(xs:List V):It:=
 ⟨fun i H=>i<xs.length∧fb K H a xs,fun i H x H'=>H'=H∧xs[xs.length-1-i]?=some x,fun i _=>xs.length≤i⟩
theorem y0 (a it:Addr)(xs:List V):sX P w K tg (Fq K a xs) [it] it (fun i h=>i≤xs.length∧h.IsRevIter it a ((xs.length:Int)-1-(i:Int))) where
 mem:=by simp
 obj:=fun i h st b g=>by
  obtain⟨_,G,e,c,B⟩:=st;rw[aj.mp g];exact⟨G,e,fun v z=>by rw[B]at z;cases z⟩
 keep:=fun i h h' st k=>⟨st.1,st.2.at fun o e=>k it (by simp) o e⟩
 item:=by
  intro X D y t L i pins s σ H E I l st ⟨hi,m⟩;subst D y t;obtain⟨q,r,T,F,C,A⟩:=l it (by simp);obtain⟨O,Q,p,Z⟩:=I.list m;have J:xs[xs.length-1-i]?=some xs[xs.length-1-i]:=ak (by omega);obtain⟨u,S,U⟩:=Q.get J;have d:=st.2;rw[show(xs.length:Int)-1-(i:Int)=((xs.length-1-i:Nat):Int) by omega]at d;refine wpAny_pyNext_rev_item d p.isList (x:=u) (by simpa using S) fun h' j Y=>?_;rw[show((xs.length-1-i:Nat):Int)-1=(xs.length:Int)-1-((i+1:Nat):Int) by omega]at j;have M:eQ X pins σ H {s with heap:=h'}:=I.turned (t':=s.toks) (fun b o g e=>(Y.2 b g).trans e) q r F C A;obtain⟨G,e,c,B⟩:=id j;exact⟨_,rfl,ua (s:={s with heap:=h'}) e c B (by decide) ⟨_,H,M,U,⟨rfl,J⟩,⟨hi,j⟩,fun b g=>(l b g).1⟩⟩
 done:=by
  intro X D y t L i pins s σ H E I l st m;subst D y t;obtain⟨q,r,T,F,C,A⟩:=l it (by simp);have d:=st.2;have h1:=st.1;have N:xs.length≤i:=m;rw[show(xs.length:Int)-1-(i:Int)=-1 by omega]at d;exact wpAny_pyNext_rev_end (I.ok.hd L) d fun h' R=>⟨rfl,I.turned (t':=s.toks) (fun b o g e=>R b o g e) q r F C A⟩
 self:=fun _ _ _ _ _ st h=>wpAny_pyIter_revIter st.2 h
def Iz (K:W.Frag)(tl:TE):TI:=fun σ H R=>tl σ H fun x H1=>∃a xs,x=.ref a∧fb K H1 a xs∧R (Fq K a xs) H1
theorem Ew {l:Expr}{tl:TE}{p pos:Pos}(y:Gl X "reversed")(z:X.mg "reversed" = none)(m:PE X l tl)(hs:starEach [l] X.env=[(false,eval l X.env)]:=by rfl):PI X tg (.Call (.Name "reversed" p) [l] [] pos) (Iz X.K tl):=by
 intro pins s σ H R I h;refine bJ (jl I y z PyProof.Rows.Boot.«reversed» ?_ (by decide) (by decide));refine PyProof.Rows.callWith_type1 ?_ hs rfl;have A:=(dZ m el hs) pos pins s σ H (fun vs H1=>match vs with | [x]=>(∃a xs,x=.ref a∧fb X.K H1 a xs∧R (Fq X.K a xs) H1) | _=>False) I h;refine fW A ?_;rintro us s1 ⟨vs,H1,i,r,j⟩
 match vs,r,j with
 |[x],r,⟨a,xs,e2,hS,q⟩=>
  subst e2;obtain⟨u,rfl,t⟩:=ji r;cases (show u=Value.ref a from t);obtain⟨d,B,pl,C⟩:=i.list hS;have v:d.length=xs.length:=B.length.symm;refine call_reversed_list pl.isList ?_;have g:(s1.heap.push (revObj a ((d.toArray.size:Int)-1))).get? s1.heap.objs.size=some (revObj a ((d.toArray.size:Int)-1)):=aJ _ rfl;refine wpAny_pyIter_revIter (s:={s1 with heap:=s1.heap.push (revObj a ((d.toArray.size:Int)-1))}) ⟨_,g,rfl,rfl⟩ ?_;refine⟨s1.heap.objs.size,[s1.heap.objs.size],_,_,H1,rfl,i.kept (t':=s1.toks) fun b o e=>ay _ e,y0 a _ xs,⟨bp _,_,g,rfl,?_⟩,fun b w=>?_,q⟩
  ·show(revObj a ((d.toArray.size:Int)-1)).data=_;rw[aP,v];simp[revObj]
  ·rw[aj.mp w];exact i.JT (ao _) (i.hok.fresh (ao _))
theorem C6 {xs:List V}(Pv:Nat→St→Hp→Prop)(h0:Pv 0 σ H)(hl:∀i σ H,i<xs.length→Pv i σ H→fb K H a xs)(hs:∀i x σ H,i<xs.length→xs[xs.length-1-i]?=some x→Pv i σ H→g x σ H fun σ2 H2=>tb {D with nx:=Pv (i+1),ct:=Pv (i+1),bk:=D.nx} σ2 H2)(hd:∀σ H,Pv xs.length σ H→D.nx σ H):∃W:Nat→Nat→St→Hp→Prop,(∃m,W 0 m σ H)∧∀i m σ H,W i m σ H→((Fq K a xs).stop i H∧D.nx σ H)∨((Fq K a xs).go i H∧∃N:St→Hp→Prop,(∀σ' H',N σ' H'→∃m',m'<m∧W (i+1) m' σ' H')∧∀x H',(Fq K a xs).yld i H x H'→g x σ H' fun σ2 H2=>tb {D with nx:=N,ct:=N,bk:=D.nx} σ2 H2):=
 vH Pv h0 (fun i σ H hi p=>⟨hi,hl i σ H hi p⟩) (fun σ H p=>ao _) (fun i x σ H H' hi y p=>by
  obtain⟨rfl,hk⟩:=y
  exact hs i x σ _ hi hk p) hd
theorem kS (ns:List Int):∀j,j≤ns.length→preSum (fun i=>ns.getD i 0) j=(ns.take j).sum
 |0,_=>by simp[preSum]
 |j+1,h=>by
  have e:=kS ns j (by omega);have h2:ns.take (j+1)=ns.take j++[ns[j]]:=by rw[bb,ak (show j<ns.length by omega)];rfl
  rw[preSum,e,h2,List.sum_append,bc,ak (show j<ns.length by omega)]
  simp
theorem yI (hc:X.calm=true):jL X (.builtin "sum") (fun xs H Q=>∃(a:Addr) (ns:List Int),xs=[.ref a]∧fb X.K H a (ns.map V.int)∧(∀j,j<ns.length→0≤ns.getD j 0)∧ns.sum<2^63∧Q (.int ns.sum) H):=by
 intro pins s σ H xs us Q I r h;obtain⟨a,ns,rfl,hS,N,aa,q⟩:=h;obtain⟨u,rfl,S⟩:=ji r;cases (show u=Value.ref a from S);obtain⟨d,P,p,hz⟩:=I.list hS;have m:d.length=ns.length:=by rw[←P.length,ab]
 have g:∀(l:List Int),(∀x∈l,0≤x)→0≤l.sum:=fun l=>by
  induction l with
  |nil=>intro _;simp
  |cons x l ih=>intro z;rw[List.sum_cons];have:=z x (by simp);have:=ih fun y C=>z y (by simp[C]);omega
 have R:∀x∈ns,0≤x:=fun x z=>by
  obtain⟨j,D,e⟩:=List.mem_iff_getElem.mp z;have:=N j D;rw[bc,ak D]at this
  rw[←e];exact this
 have M:∀j,(ns.take j).sum≤ns.sum:=fun j=>by
  have:ns.sum=(ns.take j).sum+(ns.drop j).sum:=by rw[←List.sum_append,dE]
  have:=g (ns.drop j) fun x z=>R x (List.mem_of_mem_drop z);omega
 refine call_sum_walk (wpAny_pyIter_list p.isList ?_);have E:a≠s.heap.objs.size:=by
  obtain⟨o,L,_⟩:=p.isList;exact aT (aM L)
 have J:a<s.heap.objs.size:=by
  obtain⟨o,L,_⟩:=p.isList;exact aM L
 refine⟨s.heap.objs.size,_,_,d.toArray.size,_,_,fun i=>ns.getD i 0,rfl,Walks.list (prog:=X.prog) (w:=X.w) (A:=X.A.in1) (I.ok.hd hc) _ a E d.toArray,⟨⟨_,aJ _ rfl,rfl,rfl⟩,p.isList.push _⟩,fun b O=>?_,fun i v Z=>?_,fun j D=>?_,fun h' tk t' T=>?_⟩
 ·rw[dU];simp only[am,aG,or_false]at O;rcases O with rfl | rfl
  ·exact df _
  ·exact dA J
 ·have G:d[i]?=some v:=by simpa using Z
  obtain⟨y,C,U⟩:=zK (F:=fun u x=>eY x u) (as:=d) (bs:=ns.map V.int) (by
   have:∀{as:List V} {bs:List Value},fL as bs→Paired (fun u x=>eY x u) bs as:=fun q=>by
    induction q with
    |nil=>exact .nil
    |cons r _ ih=>exact .cons r ih
   exact this P) G
  rw[ae]at C;obtain⟨n,Y,rfl⟩:=au.mp C;show ∃t,v=Value.int (ns.getD i 0) t;rw[bc,Y];exact U
 ·have B:j<ns.length:=by simpa [m] using D
  have h1:=M (j+1);have h3:=g (ns.take j) fun x z=>R x (cY z);have h5:(ns.take (j+1)).sum=(ns.take j).sum+ns.getD j 0:=by
   have h2:ns.take (j+1)=ns.take j++[ns[j]]:=by rw[bb,ak B];rfl
   rw[h2,List.sum_append,bc,ak B]
   simp
  have h4:=N j B;rw[kS ns (j+1) (by omega)];dsimp only;unfold InLong;omega
 ·refine⟨.int ns.sum,H,I.kept (t':=tk) fun b o e=>?_,⟨t',?_⟩,q⟩
  ·exact T b o (by simpa using aT (aM e)) (ay _ e)
  ·rw[aP,m,kS ns ns.length (ao _),aF]
theorem nI {α:Type} [BEq α] [LawfulBEq α]:∀{l:List α} {k:α} {m:Nat} (hm:m<l.length),m<l.idxOf k→¬l[m]=k
 |a::l,k,0,_,h,e=>by
  have e':a=k:=e;rw[e',cB]at h;exact absurd h (cG _)
 |a::l,k,m+1,hm,h,e=>by
  by_cases ha:a=k
  ·rw[ha,cB]at h;exact absurd h (ce _)
  ·rw[List.idxOf_cons,beq_false_of_ne ha]at h;exact nI (l:=l) (by simpa using hm) (Nat.lt_of_succ_lt_succ h) e
theorem yi:HC X "list.index" (fun x vs H Q=>∃(l:Addr) (ss:List Str) (k:Str),x=.ref l∧vs=[.str k]∧H l=some (.lst (ss.map V.str))∧k∈ss∧Q (.int (ss.idxOf k:Nat)) H):=by
 intro pins s σ H x vs v us Q I J C h;obtain⟨l,ss,k,rfl,rfl,G,B,q⟩:=h;cases (show v=Value.ref l from J);obtain⟨u,rfl,t,rfl⟩:=ji C;obtain⟨z,b,n,r,e⟩:=(show fN X.prog X.w H s.heap l (.lst (ss.map V.str)) from I.hok l _ G);have j:b.length=ss.length:=by rw[←r.length,ab]
 have M:ss.length≤16777216:=by rw[ab,bZ]at z;exact z
 have d:∀(m:Nat) (g:m<b.length),∃t',b[m]=.str (ss[m]'(by omega)) t':=fun m g=>by
  have K:(ss.map V.str)[m]?=some (V.str (ss[m]'(by omega))):=by rw[ae,ak (by omega)];rfl
  obtain⟨w,A,t',e⟩:=r.get K;rw[ak g]at A;exact⟨t',by rw[Option.some.inj A];exact e⟩
 have L:ss.idxOf k<ss.length:=bt.mpr B;refine call_meets PySem.F.slot_list_index ⟨_,e,rfl⟩ PySem.F.entry_list_index (PySem.F.args_list_index_2 _ _)
  (SeqAt.list_indexAt l b.toArray n none #[] (.str k t) (fun v=>match v with | .str a _=>a == k | _=>false) (ss.idxOf k) (by simpa [j] using L) (by omega) ?_ ?_) ⟨e,fun y E=>?_,⟨.int (ss.idxOf k:Nat),H,I.tok _,⟨_,rfl⟩,q⟩⟩
 ·obtain⟨t',i⟩:=d (ss.idxOf k) (by omega);show(match b[ss.idxOf k]'(by omega) with | .str a _=>a == k | _=>false)=true;rw[i];simp
 ·intro m g o;have p:m<b.length:=by simpa using g
  obtain⟨t',i⟩:=d m p;show(match b[m] with | .str a _=>a == k | _=>false)=false;rw[i];have:¬ss[m]'(by omega)=k:=nI (by omega) o;simpa using this
 ·obtain⟨m,g,D⟩:=List.mem_iff_getElem.mp (show y∈b by simpa using E);obtain⟨t',i⟩:=d m g;rw[←D,i];exact SeqAt.EqAt.str_str _ _ _ _
theorem yj:HC X "list.index" (fun x vs H Q=>∃(l:Addr) (bs:List Bool),x=.ref l∧vs=[.bl true]∧H l=some (.lst (bs.map V.bl))∧true∈bs∧Q (.int (bs.idxOf true:Nat)) H):=by
 intro pins s σ H x vs v us Q I G B h;obtain⟨l,d,rfl,rfl,E,A,q⟩:=h;cases (show v=Value.ref l from G);obtain⟨u,rfl,L⟩:=ji B;cases (show u=Value.bool true from L);obtain⟨z,b,n,r,e⟩:=(show fN X.prog X.w H s.heap l (.lst (d.map V.bl)) from I.hok l _ E);have j:b.length=d.length:=by rw[←r.length,ab]
 have M:d.length≤16777216:=by rw[ab,bZ]at z;exact z
 have g:∀(m:Nat) (i:m<b.length),b[m]=.bool (d[m]'(by omega)):=fun m i=>by
  have J:(d.map V.bl)[m]?=some (V.bl (d[m]'(by omega))):=by rw[ae,ak (by omega)];rfl
  obtain⟨w,t,e⟩:=r.get J;rw[ak i]at t;rw[Option.some.inj t];exact e
 have K:d.idxOf true<d.length:=bt.mpr A;refine call_meets PySem.F.slot_list_index ⟨_,e,rfl⟩ PySem.F.entry_list_index (PySem.F.args_list_index_2 _ _)
  (SeqAt.list_indexAt l b.toArray n none #[] (.bool true) (fun v=>match v with | .bool a=>a == true | _=>false) (d.idxOf true) (by simpa [j] using K) (by omega) ?_ ?_) ⟨e,fun y D=>?_,⟨.int (d.idxOf true:Nat),H,I.tok _,⟨_,rfl⟩,q⟩⟩
 ·show(match b[d.idxOf true]'(by omega) with | .bool a=>a == true | _=>false)=true;rw[g (d.idxOf true) (by omega)];simp
 ·intro m i o;have p:m<b.length:=by simpa using i
  show(match b[m] with | .bool a=>a == true | _=>false)=false;rw[g m p];have:¬d[m]'(by omega)=true:=nI (by omega) o;simpa using this
 ·obtain⟨m,i,C⟩:=List.mem_iff_getElem.mp (show y∈b by simpa using D);rw[←C,g m i];exact SeqAt.EqAt.bool_bool _ _
inductive DR (x:V)(y:V)(H:Hp)(Q:VK):Prop
 |mk (i j:_)(_:x=.int i)(_:y=.int j)(_:Q (.int (Builtin.bitOr i j)) H):DR x y H Q
def Ge:V→V→Hp→VK→Prop:=fun x y H Q=>DR x y H Q
inductive BK (x:V)(y:V)(H:Hp)(Q:VK):Prop
 |mk (i j:_)(_:x=.int i)(_:y=.int j)(_:Q (.int (Builtin.bitAnd i j)) H):BK x y H Q
def Gh:V→V→Hp→VK→Prop:=fun x y H Q=>BK x y H Q
theorem AH:Fm X .BitOr Ge:=by
 rintro pins s σ H x y u v Q I a b ⟨i,j,rfl,rfl,q⟩;obtain⟨t,rfl⟩:=(show ∃t,u=Value.int i t from a);obtain⟨t',rfl⟩:=(show ∃t',v=Value.int j t' from b);exact PyProof.Rows.ior_int ⟨.int _,H,I.tok _,⟨_,rfl⟩,q⟩
theorem t8:GU X .BitOr Ge:=fun pins s σ H x y u v Q I rx ry h=>AH pins s σ H x y u v Q I rx ry h
theorem E1:GU X .BitAnd Gh:=by
 rintro pins s σ H x y u v Q I a b ⟨i,j,rfl,rfl,q⟩;obtain⟨t,rfl⟩:=(show ∃t,u=Value.int i t from a);obtain⟨t',rfl⟩:=(show ∃t',v=Value.int j t' from b);exact PyProof.Rows.iand_int ⟨.int _,H,I.tok _,⟨_,rfl⟩,q⟩
section
variable {xs:List (fM×Value×Value)}{k:fM}{u:Value}
theorem EH {v:Value}(r:A.units<cLine)(q:om P w s.heap k u)(D:nY P w s.heap d xs)(hz:xs.length≤sizeLine)(h1:∀x tk,lH xs k=some x→Q x {s with toks:=tk})(h2:lH xs k=none→∀h' tk,nY P w h' d (qo xs k u v)→Heap.SameBut d s.heap h'→Q v {s with heap:=h',toks:=tk}):wpAny (model P w) A (dictSetDefault d u v) Q E s:=by
 obtain⟨o,es,ep,i,F,g,m,hi,p⟩:=D;have G:es.size=xs.length:=by rw[←bn,m,ab]
 unfold dictSetDefault
 try with_reducible refine bE ?_
 refine ac (vy r q fun tk=>ac (vz (s:={s with toks:=tk}) r q i g (sR m hi p) (fun h=>?_) (fun j y=>?_)))
 ·have hp:qo xs k u v=xs++[(k,u,v)]:=by unfold qo;rw[lD h,if_neg (by decide)]
  refine ac (ck (ac (wpAny_updateDictKeys (hz:=by lia) (s:={s with toks:=tk}) i g (ap (h2 (lD h) _ tk ?_ (Heap.SameBut.update ..))))));refine⟨_,_,ep+1,cR _ i (Obj.isFreed_of_dict (Obj.data_mapDictKeys g _)),F.mapDictKeys _,Obj.data_mapDictKeys g _,?_,fun x l=>?_,?_⟩
  ·rw[hp];simp[m,uf]
  ·rw[hp]at l;rcases az.mp l with z | z
   ·exact(hi x z).keep i g (Heap.SameBut.update ..)
   ·rw[aj.mp z];exact q.keep i g (Heap.SameBut.update ..)
  ·rw[hp,av,bM];refine⟨p,by simp,fun a B b t z=>h ?_⟩;rw[aD,cQ,aj]at t;rw[z,t]at B;exact B
 ·rw[ae]at y;obtain⟨x,l,e⟩:=au.mp y;obtain⟨C,H⟩:=x;obtain rfl:k=C:=e.symm;refine ac (cU (s:={s with toks:=tk}) i g ?_);rw[←bD,m,ae,l]
  exact ac (ck (ap (h1 _ tk (oH p l))))
end
section
variable {y v:V}{u r:Value}{o:Option V}
theorem Da {z:V}(m:A.units+1<cLine)(I:eQ X pins σ H s)(g:iw H a y o)(p:eY y u)(q:eY z r)(h:∀w' s',eQ X pins σ H s'→eY (o.getD z) w'→Q w' s'):wpAny (model X.prog X.w) A (call (.builtin "dict.get") [.ref a,u,r]) Q E s:=by
 obtain⟨d,l⟩:=oJ I g;refine cj PySem.F.slot_dict_get d PySem.F.entry_dict_get ?_ (PySem.F.args_dict_get_3 _ _ _);unfold Builtin.«dict.get»;refine ac ?_;unfold Builtin.Dict.keyAndDefault;refine ac (dD d ?_);show wpAny _ _ (pure (a,u,some r)) _ _ s;refine ap ?_;refine ac (vK m I g p fun o' s' j i=>?_);cases o with
 |some x=>
  obtain⟨w',rfl,b⟩:=jg.some_of i;exact ap ⟨w',rfl,h w' s' j b⟩
 |none=>
  have e:o'=none:=jg.none_of i;subst e;refine ac ?_;unfold Builtin.Dict.missed;dsimp only;rw[if_neg (by rw[l];exact aN)];exact ap (ap ⟨r,rfl,h r s' j q⟩)
theorem C9 {z:V}{k:fM}(C:A.units+1<cLine)(I:eQ X pins σ H s)(e:H a=some (.dN kvs))(h:lK H k y)(N:kvs.length<sizeLine)(o:eY y u)(G:eY z r)(h1:∀v w' s',eW kvs k=some v→eQ X pins σ H s'→eY v w'→Q w' s')(h2:eW kvs k=none→∀s',eQ X pins σ (upd H a (.dN (fq kvs k z))) s'→Q r s'):wpAny (model X.prog X.w) A (call (.builtin "dict.setdefault") [.ref a,u,r]) Q E s:=by
 obtain⟨M,d,xs,rel,p⟩:=ug I.hok (.inl e);have t:xs.length≤sizeLine:=by rw[←Paired.length rel];exact M
 have hp:(fq kvs k z).length≤sizeLine:=by have:=fT kvs k z;lia
 have i:=p.typeIs;refine cj PySem.F.slot_dict_setdefault i PySem.F.entry_dict_setdefault ?_ (PySem.F.args_dict_setdefault_3 _ _ _);unfold Builtin.«dict.setdefault»;refine ac ?_;unfold Builtin.Dict.keyAndDefault;refine ac (dD i ?_);show wpAny _ _ (pure (a,u,some r)) _ _ s;refine ap ?_;show wpAny _ _ (if (a == sysModules)=true then _ else (dictSetDefault a u r >>= _)) _ _ s;rw[if_neg (by rw[d];exact aN)];have q:=rel.val k;refine ac (EH C (oE I.hok (h.rel o)) p t (fun x tk J=>?_) fun K h' tk b D=>?_)
 ·rw[J]at q;cases l:eW kvs k with
  |none=>rw[l]at q;exact q.elim
  |some v=>rw[l]at q;exact ap ⟨x,rfl,h1 v x _ l (I.tok _) q⟩
 ·rw[K]at q;have l:eW kvs k=none:=by
   cases l:eW kvs k with
   |none=>rfl
   |some x=>rw[l]at q;exact q.elim
  refine ap ⟨r,rfl,h2 l _ ?_⟩;obtain⟨j,es,ep,m,g2,g3,B,_,L⟩:=b;have keep:∀c ys,H c=some (.tup ys)→upd H a (.dN (fq kvs k z)) c=some (.tup ys):=fun c ys g=>by
   rw[ef (fJ g e (fun z=>nomatch z))];exact g
  exact jI I (by rw[e];exact True.intro) D ⟨j,m⟩ ⟨hp,d,_,Paired.JH (rel.put k (h.rel o) G) fun _ _ q=>⟨q.1,q.2.1.keeps keep,q.2.2⟩,j,es,ep,m,g2,g3,B,L⟩
end
def Fl (H:Hp)(a:Addr):Prop:=∃kvs,Rd H a (.dN kvs)
theorem wF (I:eQ X pins σ H s)(d:Fl H a):s.TypeIs (.ref a) "dict"∧(∀b,Value.ref a=.ref b→∃ob,s.heap.get? b=some ob∧ob.dict=none):=by
 obtain⟨kvs,e⟩:=d;obtain⟨_,h,xs,_,g⟩:=ug I.hok e;refine⟨g.typeIs,fun b q=>?_⟩;cases q;obtain⟨ob,_,_,h1,h2,_⟩:=g;exact⟨ob,h1,h2.2.1⟩
inductive uI (ty:TE)(tx:TE)(σ:St)(Q:VK)(x:V)(H1:Hp):Prop
 |mk (a:_)(_:x=.ref a)(_:Fl H1 a)(_:ty σ H1 fun y H2=>tx σ H2 fun z H3=>∃o,iw H3 a y o∧Q (o.getD z) H3):uI ty tx σ Q x H1
def BV (td ty tx:TE):TE:=fun σ H Q=>td σ H fun x H1=>uI ty tx σ Q x H1
inductive uG (ty:TE)(tx:TE)(σ:St)(Q:VK)(x:V)(H1:Hp):Prop
 |mk (a:_)(_:x=.ref a)(_:Fl H1 a)(_:ty σ H1 fun y H2=>tx σ H2 fun z H3=>∃kvs k,H3 a=some (.dN kvs)∧lK H3 k y∧kvs.length<sizeLine∧(∀v,eW kvs k=some v→Q v H3)∧(eW kvs k=none→Q z (upd H3 a (.dN (fq kvs k z))))):uG ty tx σ Q x H1
def BT (td ty tx:TE):TE:=fun σ H Q=>td σ H fun x H1=>uG ty tx σ Q x H1
inductive xA (tv:TE)(rd:V→V→Hp→VK→Prop)(D:mS)(σ:St)(x:V)(y:V)(H2:Hp):Prop
 |mk (a v:_)(_:x=.ref a)(_:iw H2 a y (some v))(_:tv σ H2 fun y2 H3=>rd v y2 H3 fun z H4=>∃H5,lj H4 a y z H5∧D.nx σ H5):xA tv rd D σ x y H2
def Et (td ty tv:TE)(rd:V→V→Hp→VK→Prop):TS:=fun D σ H=>td σ H fun x H1=>ty σ H1 fun y H2=>xA tv rd D σ x y H2
section
variable {o e f i value:Expr}{apos cpos pos tpos:Pos}{td ty tx tv:TE}
theorem qJ (G:X.A.units+1<cLine)(C:PE X o td)(M:PE X e ty)(B:PE X f tx)(m:M2 X o "get" apos e f cpos):PE X (.Call (.Attribute o "get" apos) [e,f] [] cpos) (BV td ty tx):=by
 intro pins s σ H Q I h;refine dz m.base m.few m.line PySem.F.plainAttrs_dict PySem.F.slot_dict_get PySem.F.type_dict_get (fW (C pins s σ H _ I h) ?_);rintro u E ⟨x,H1,i,J,a,ex,d,t⟩;subst ex;obtain rfl:u=Value.ref a:=J;obtain⟨D,j⟩:=wF i d;refine⟨D,j,?_⟩;rw[m.trees];refine Calls.callWith_builtin rfl (Calls.evalArgs_plain (Calls.spliced_cons (fW (M pins E σ H1 _ i t) fun T r ⟨y,H2,w,K,N⟩=>Calls.spliced_cons (fW (B pins r σ H2 _ w N) fun U S ⟨z,p,q,L,R,g,v⟩=>Calls.spliced_nil ?_))));exact Da G q g K L fun P O l b=>⟨_,p,l,b,v⟩
theorem xN (O:X.A.units+1<cLine)(J:PE X o td)(S:PE X e ty)(G:PE X f tx)(m:M2 X o "setdefault" apos e f cpos):PE X (.Call (.Attribute o "setdefault" apos) [e,f] [] cpos) (BT td ty tx):=by
 intro pins s σ H Q I h;refine dz m.base m.few m.line PySem.F.plainAttrs_dict PySem.F.slot_dict_setdefault PySem.F.type_dict_setdefault (fW (J pins s σ H _ I h) ?_);rintro u N ⟨x,H1,g,P,a,ex,d,B⟩;subst ex;obtain rfl:u=Value.ref a:=P;obtain⟨K,j⟩:=wF g d;refine⟨K,j,?_⟩;rw[m.trees];refine Calls.callWith_builtin rfl (Calls.evalArgs_plain (Calls.spliced_cons (fW (S pins N σ H1 _ g B) fun iv w ⟨y,H2,D,R,U⟩=>Calls.spliced_cons (fW (G pins w σ H2 _ D U) fun fv Z ⟨z,q,r,i,kvs,k,T,t,M,C,L⟩=>Calls.spliced_nil ?_))));exact C9 O r T t M R i (fun v Y p l b E=>⟨v,q,b,E,C v l⟩) fun l p b=>⟨z,_,b,i,L l⟩
theorem zG {op:Operator}{rd:V→V→Hp→VK→Prop}(j:X.A.units+1<cLine)(K:PE X o td)(hi:PE X i ty)(R:PE X value tv)(b:Fm X op rd)(S:∀ov iv new,augStore i ov iv new=(do holding [new,ov,iv] (setItem ov iv new);release [new,ov,iv] [];pure .next)):PS X (.AugAssign (.Subscript o i tpos) op value pos) (Et td ty tv rd):=by
 intro pins s σ H D I h;refine wpAny_AugAssign_SubscriptAny (fW (K pins s σ H _ I h) ?_) S;rintro u M ⟨x,H1,r,N,E⟩;refine fW (hi pins M σ H1 _ r E) ?_;rintro iv s2 ⟨y,H2,G,l,a,v,ex,g,U⟩;subst ex;obtain rfl:u=Value.ref a:=N;refine p6 j G g l fun p Q B d=>fW (R pins Q σ H2 _ B U) ?_;rintro T m ⟨Y,t,q,e,F⟩;refine fW (b pins m σ t v Y p T _ q d e F) ?_;rintro w3 s5 ⟨z,H4,C,O,w,P,L⟩;exact p4 j C P l O fun Z J=>⟨σ,w,J,L⟩
end
theorem ur (J:X.calm=true):jL X (.type "list") (fun xs H Q=>∃p kvs,xs=[.ref p]∧Rd H p (.dK kvs)∧∀l,H l=none→Q (.ref l) (upd H l (.lst (kvs.map fun kv=>kV kv.1)))):=by
 intro pins s σ H xs us Q I r h;obtain⟨p,kvs,rfl,e,q⟩:=h;obtain⟨u,rfl,C⟩:=ji r;cases (show u=Value.ref p from C);obtain⟨z,hd,vs,rel,F⟩:=lR I.hok e;obtain⟨ep,m⟩:=F.dictAt;have B:=rel.length;refine W.kdl_call (W.kdl_dict (knd:=fA X.prog X.w) (kvs:=vs) (ep:=ep) hd) (I.ok.hd J) m (by rw[←B];exact z) fun h' tk t c D G d=>?_;have E:=I.hok.fresh (ao s.heap.objs.size);refine⟨.ref s.heap.objs.size,_,I.laid (a:=s.heap.objs.size) (o:=.lst (kvs.map fun kv=>kV kv.1)) (t':=tk) (fun b o q=>D b o q) (ao _) ?_,rfl,q _ E⟩;refine⟨by rw[ab];exact z,t.toList,c,?_,by rw[G]⟩;refine jW (by rw[ab,B,bn];exact d.1.symm) fun i x y j A=>?_;rw[bD]at A;obtain⟨k,v,h1,h2⟩:=d.2 i y A;rw[ae]at j;have g:kvs[i]?.map (·.1)=vs[i]?.map (·.1):=by rw[←ae,←ae,rel.keys]
 rw[h1]at g;cases hi:kvs[i]? with
 |none=>rw[hi]at j;cases j
 |some kv=>
  rw[hi]at j g;cases j;have:kv.1=k:=by simpa using g
  show eY (kV kv.1) y;rw[this];exact vF h2
theorem vQ:jL X (.type "dict") (fun xs H Q=>∃p kvs,xs=[.ref p]∧Rd H p (.dK kvs)∧∀l,H l=none→Q (.ref l) (upd H l (.dK kvs))):=by
 intro pins s σ H xs us Q I r h;obtain⟨p,kvs,rfl,e,q⟩:=h;obtain⟨u,rfl,a⟩:=ji r;cases (show u=Value.ref p from a);exact AZ I e fun l s' b d=>⟨.ref l,_,d,rfl,q l b⟩
theorem Ci {a:Expr}{ta:TE}(j:PE X a ta)(i:∀whole,isTrue a X.env whole=(do let v ←whole;standAt a.pos;holding [v] (truthy v))):PT X a (fun σ H Q=>ta σ H fun x H'=>∃p kvs,x=.ref p∧Rd H' p (.dK kvs)∧Q (!kvs.isEmpty) H'):=by
 intro pins s σ H Q I h;refine isTrue_plain (fW (j pins s σ H _ I h) ?_) (i _);rintro v o ⟨x,H1,b,e,p,kvs,ex,g,q⟩;subst ex;cases (show v=Value.ref p from e);obtain⟨w,l,vs,r,m⟩:=lR b.hok g;have d:kvs.length=vs.length:=Paired.length r;have t:sizeLine=16777216:=bZ;exact wpAny_truthy_dict l m (by lia) ⟨H1,b.tok _,by rw[pV r];exact q⟩
def KT.all {α:Type}(lt:Nat→Nat→Bool)(n:Nat)(Q:α→Prop):W.KasT α→Prop
 |.ret a=>Q a
 |.ask i j k=>i<n∧j<n∧KT.all lt n Q (k (lt i j))
theorem KT.bind {α β:Type}{lt:Nat→Nat→Bool}{n:Nat}{Q:β→Prop}{f:α→W.KasT β}:∀{t:W.KasT α},KT.all lt n (fun a=>KT.all lt n Q (f a)) t→KT.all lt n Q (t.bind f)
 |.ret _,h=>h
 |.ask i j k,h=>⟨h.1,h.2.1,KT.bind (t:=k (lt i j)) h.2.2⟩
theorem KT.mono {α:Type}{lt:Nat→Nat→Bool}{n:Nat}{Q Q':α→Prop}(hq:∀a,Q a→Q' a):∀{t:W.KasT α},KT.all lt n Q t→KT.all lt n Q' t
 |.ret a,h=>hq a h
 |.ask i j k,h=>⟨h.1,h.2.1,KT.mono hq (t:=k (lt i j)) h.2.2⟩
structure SO (lt:Nat→Nat→Bool):Prop where
 tr:∀a b c,lt a b=true→lt b c=true→lt a c=true
 as:∀a b,lt a b=true→lt b a=false
structure yV (lt:Nat→Nat→Bool)(n:Nat)(p:Array Nat):Prop where
 sz:p.size=n
 bd:∀i,i<n→p.getD i 0<n
 tt:∀i j,i<n→j<n→i≠j→lt (p.getD i 0) (p.getD j 0)=true∨lt (p.getD j 0) (p.getD i 0)=true
def mf (lt:Nat→Nat→Bool)(p:Array Nat)(m:Nat):Prop:=∀i j,i<j→j<m→lt (p.getD i 0) (p.getD j 0)=true
def yS (lt:Nat→Nat→Bool)(p:Array Nat)(m:Nat):Prop:=∀i j,i<j→j<m→lt (p.getD j 0) (p.getD i 0)=true
theorem uc {q:Array Nat}{j:Nat}(h:p[i]?=q[j]?):p.getD i 0=q.getD j 0:=by
 rw[cr,cr,h]
section
variable {lt:Nat→Nat→Bool}{n:Nat}
theorem mf.more (S:SO lt)(h:mf lt p m)(h1:1≤m)(hl:lt (p.getD (m-1) 0) (p.getD m 0)=true):mf lt p (m+1):=fun i j hij hj=>by
 by_cases e:j=m
 ·subst e;by_cases e2:i=j-1
  ·subst e2;exact hl
  ·exact S.tr _ _ _ (h i (j-1) (by lia) (by lia)) hl
 ·exact h i j hij (by lia)
theorem yS.more (S:SO lt)(h:yS lt p m)(h1:1≤m)(hl:lt (p.getD m 0) (p.getD (m-1) 0)=true):yS lt p (m+1):=fun i j hij hj=>by
 by_cases e:j=m
 ·subst e;by_cases e2:i=j-1
  ·subst e2;exact hl
  ·exact S.tr _ _ _ hl (h i (j-1) (by lia) (by lia))
 ·exact h i j hij (by lia)
theorem vT (S:SO lt){p:Array Nat}(P:yV lt n p):∀(f m:Nat),f=n-m→1≤m→m≤n→mf lt p m→KT.all lt n (fun r=>m≤r∧r≤n∧mf lt p r∧(r=n∨lt (p.getD r 0) (p.getD (r-1) 0)=true)) (W.kas_asc p f m)
 |0,m,hf,h1,hm,hu=>⟨ao _,hm,hu,.inl (by lia)⟩
 |f+1,m,hf,h1,hm,hu=>by
  refine⟨P.bd _ (by lia),P.bd _ (by lia),?_⟩;show KT.all lt n _ (if lt (p.getD m 0) (p.getD (m-1) 0)=true then W.KasT.ret m else W.kas_asc p f (m+1));by_cases hc:lt (p.getD m 0) (p.getD (m-1) 0)=true
  ·rw[if_pos hc];exact⟨ao _,hm,hu,.inr hc⟩
  ·rw[if_neg hc];have hl:=(P.tt m (m-1) (by lia) (by lia) (by lia)).resolve_left hc;exact KT.mono (fun r hr=>⟨by lia,hr.2⟩) (vT S P f (m+1) (by lia) (by lia) (by lia) (hu.more S h1 hl))
theorem wJ (S:SO lt){p:Array Nat}(P:yV lt n p):∀(f m:Nat),f=n-m→1≤m→m≤n→yS lt p m→KT.all lt n (fun r=>r.1=p∧m≤r.2.1∧r.2.1≤n∧yS lt p r.2.1∧r.2.2=0) (W.kas_desc f p m 0)
 |0,m,hf,h1,hm,hu=>⟨rfl,ao _,hm,hu,rfl⟩
 |f+1,m,hf,h1,hm,hu=>by
  refine⟨P.bd _ (by lia),P.bd _ (by lia),?_⟩;show KT.all lt n _ (if lt (p.getD m 0) (p.getD (m-1) 0)=true then (if 0>0 then W.kas_desc f (W.kas_rev p (m-(0+1)) m) (m+1) 0 else W.kas_desc f p (m+1) 0) else W.KasT.ask (p.getD (m-1) 0) (p.getD m 0) fun d=>if d=true then .ret (p,m,0) else W.kas_desc f p (m+1) (0+1));by_cases hc:lt (p.getD m 0) (p.getD (m-1) 0)=true
  ·rw[if_pos hc,if_neg (by decide)];exact KT.mono (fun r hr=>⟨hr.1,by lia,hr.2.2⟩) (wJ S P f (m+1) (by lia) (by lia) (by lia) (hu.more S h1 hc))
  ·rw[if_neg hc];have hl:=(P.tt m (m-1) (by lia) (by lia) (by lia)).resolve_left hc;refine⟨P.bd _ (by lia),P.bd _ (by lia),?_⟩;show KT.all lt n _ (if lt (p.getD (m-1) 0) (p.getD m 0)=true then W.KasT.ret (p,m,0) else W.kas_desc f p (m+1) (0+1));rw[if_pos hl];exact⟨rfl,ao _,hm,hu,rfl⟩
theorem pI (a:m≤p.size)(k:Nat):(W.kas_rev p 0 m).getD k 0=if k<m then p.getD (m-1-k) 0 else p.getD k 0:=by
 have e:=getElem?_mirror_all (i:=0) a k;unfold W.kas_rev;by_cases h:k<m
 ·rw[if_pos h];rw[if_pos ⟨bp _,h⟩,Nat.zero_add]at e;exact uc e
 ·rw[if_neg h];rw[if_neg (fun z=>h z.2)]at e;exact uc e
theorem Eu (P:yV lt n p)(a:m≤n):yV lt n (W.kas_rev p 0 m):=by
 refine⟨(W.kas_rev_size 0 m).trans P.sz,fun i hi=>?_,fun i j hi d b=>?_⟩
 ·rw[pI (by rw[P.sz];exact a)];by_cases h:i<m
  ·rw[if_pos h];exact P.bd _ (by lia)
  ·rw[if_neg h];exact P.bd _ hi
 ·rw[pI (by rw[P.sz];exact a),pI (by rw[P.sz];exact a)]
  repeat' split
  all_goals exact P.tt _ _ (by lia) (by lia) (by lia)
theorem za (S:SO lt)(P:yV lt n p)(h1:1≤m)(a:m≤n)(e:yS lt p m):KT.all lt n (fun r=>1≤r.1∧r.1≤n∧mf lt r.2 r.1∧yV lt n r.2∧r.2.Perm p) (W.kas_tail3 m n p):=by
 have b:=Eu P a;have h:mf lt (W.kas_rev p 0 m) m:=fun i j l g=>by
  rw[pI (by rw[P.sz];exact a),pI (by rw[P.sz];exact a),if_pos (by lia),if_pos g];exact e _ _ (by lia) (by lia)
 refine KT.bind (KT.mono (fun r d=>?_) (vT S b (n-m) m rfl h1 a h));exact⟨by lia,d.2.1,d.2.2.1,b,mirror_perm _ _ _ _⟩
theorem Bb (S:SO lt)(P:yV lt n p)(h2:2≤n):KT.all lt n (fun r=>1≤r.1∧r.1≤n∧mf lt r.2 r.1∧yV lt n r.2∧r.2.Perm p) (W.kas_count n p):=by
 unfold W.kas_count;refine KT.bind (KT.mono (fun m w=>?_) (vT S P (n-1) 1 rfl (ao _) (by lia) fun i j a b=>by lia));obtain⟨g,h,d,l⟩:=w;by_cases e:m=n
 ·rw[if_pos (by simpa using e)];exact⟨g,h,d,P,Array.Perm.refl _⟩
 ·rw[if_neg (by simpa using e)];by_cases h1:m>1
  ·rw[if_pos h1];refine⟨P.bd _ (by lia),P.bd _ (by lia),?_⟩;show KT.all lt n _ (if lt (p.getD 0 0) (p.getD (m-1) 0)=true then W.KasT.ret (m,p) else W.kas_descPart m n (W.kas_rev p 0 m));rw[if_pos (d 0 (m-1) (by lia) (by lia))];exact⟨g,h,d,P,Array.Perm.refl _⟩
  ·rw[if_neg h1];have:m=1:=by lia
   subst this;have o:=l.resolve_left (by lia);unfold W.kas_descPart;refine KT.bind (KT.mono (fun r s=>?_) (wJ S P (n-(1+1)) (1+1) rfl (by lia) (by lia) fun i j a b=>?_))
   ·obtain⟨q,y,v,t,x⟩:=s;rw[if_neg (by lia),q];exact za S P (by lia) v t
   ·have:i=0∧j=1:=by lia
    obtain⟨rfl,rfl⟩:=this;exact o
theorem pK (S:SO lt){p:Array Nat}(P:yV lt n p){k:Nat}(g:k<n)(d:mf lt p k):∀(f l r:Nat),r-l≤f→l≤r→r≤k→(∀i,i<l→lt (p.getD i 0) (p.getD k 0)=true)→(∀i,r≤i→i<k→lt (p.getD k 0) (p.getD i 0)=true)→KT.all lt n (fun x=>x≤k∧(∀i,i<x→lt (p.getD i 0) (p.getD k 0)=true)∧∀i,x≤i→i<k→lt (p.getD k 0) (p.getD i 0)=true) (W.kas_place p k f l r)
 |0,l,r,hf,hlr,hrk,h1,h2=>by
  have:l=r:=by lia
  subst this;exact⟨hrk,h1,h2⟩
 |f+1,l,r,hf,hlr,hrk,h1,h2=>by
  unfold W.kas_place;by_cases e:l ≥ r
  ·rw[if_pos e];have:l=r:=by lia
   subst this;exact⟨hrk,h1,h2⟩
  ·rw[if_neg e];refine⟨P.bd _ (by lia),P.bd _ (by lia),?_⟩;show KT.all lt n _ (if lt (p.getD k 0) (p.getD ((l+r) / 2) 0)=true then W.kas_place p k f l ((l+r) / 2) else W.kas_place p k f ((l+r) / 2+1) r);by_cases hc:lt (p.getD k 0) (p.getD ((l+r) / 2) 0)=true
   ·rw[if_pos hc];refine pK S P g d f l ((l+r) / 2) (by lia) (by lia) (by lia) h1 fun i a b=>?_;by_cases e2:i=(l+r) / 2
    ·subst e2;exact hc
    ·exact S.tr _ _ _ hc (d _ _ (by lia) b)
   ·rw[if_neg hc];have h:=(P.tt k ((l+r) / 2) g (by lia) (by lia)).resolve_left hc;refine pK S P g d f ((l+r) / 2+1) r (by lia) (by lia) hrk (fun i a=>?_) h2;by_cases e2:i=(l+r) / 2
    ·subst e2;exact h
    ·exact S.tr _ _ _ (d i _ (by lia) (by lia)) h
theorem Fc {k d:Nat}(b:k<p.size)(a:d≤k)(i:Nat):(bubble p k d).getD i 0=if i=k-d then p.getD k 0 else if k-d<i∧i≤k then p.getD (i-1) 0 else p.getD i 0:=by
 have e:=getElem?_bubble b d a i;by_cases h1:i=k-d
 ·rw[if_pos h1]at e ⊢;exact uc e
 ·rw[if_neg h1]at e ⊢;by_cases h2:k-d<i∧i≤k
  ·rw[if_pos h2]at e ⊢;exact uc e
  ·rw[if_neg h2]at e ⊢;exact uc e
theorem Be (S:SO lt):∀(f k:Nat) (p:Array Nat),yV lt n p→f=n-k→k≤n→mf lt p k→KT.all lt n (fun q=>mf lt q n∧yV lt n q∧q.Perm p) (W.kas_bin f p k)
 |0,k,p,P,hf,hk,hu=>by
  have:k=n:=by lia
  subst this;exact⟨hu,P,Array.Perm.refl _⟩
 |f+1,k,p,P,hf,hk,hu=>by
  have m:k<n:=by lia
  have w:k<p.size:=by rw[P.sz];exact m
  unfold W.kas_bin;refine KT.bind (KT.mono (fun l v=>?_) (pK S P m hu k 0 k (by lia) (by lia) (ao _) (fun i a=>by lia) fun i a b=>by lia));obtain⟨y,s,t⟩:=v;have d:=fun i=>Fc (p:=p) w (show k-l≤k by lia) i;rw[show k-(k-l)=l by lia]at d;have e:=P.tt;have h:=P.bd;unfold mf at hu;obtain⟨g,hg⟩:∃g:Nat→Nat,∀i,p.getD i 0=g i:=⟨fun i=>p.getD i 0,fun _=>rfl⟩;simp only[hg]at d s t e hu h;refine KT.mono (fun q r=>⟨r.1,r.2.1,r.2.2.trans (bubble_perm _ _ _)⟩) (Be S f (k+1) (bubble p k (k-l)) ⟨(bubble_size _ _ _).trans P.sz,fun i hi=>?_,fun i j hi x o=>?_⟩ (by lia) (by lia) fun i j o x=>?_)
  ·rw[d]
   repeat' split
   all_goals exact h _ (by lia)
  ·rw[d,d]
   repeat' split
   all_goals first | (exfalso;lia) | exact e _ _ (by lia) (by lia) (by lia)
  ·rw[d,d]
   repeat' split
   all_goals first | (exfalso;lia) | exact s _ (by lia) | exact t _ (by lia) (by lia) | exact hu _ _ (by lia) (by lia)
theorem BZ (S:SO lt)(h2:2≤n)(tt:∀i j,i<n→j<n→i≠j→lt i j=true∨lt j i=true):KT.all lt n (fun q=>mf lt q n∧q.size=n∧q.toList.Perm (List.range n)) (W.kas_sort n):=by
 have e:∀i,i<n→(List.toArray (List.range n)).getD i 0=i:=fun i hi=>by
  rw[cr];simp[hi]
 have P:yV lt n (List.toArray (List.range n)):=⟨by simp,fun i hi=>by rw[e i hi];exact hi,fun i j hi h b=>by rw[e i hi,e j h];exact tt i j hi h b⟩;unfold W.kas_sort;refine KT.bind (KT.mono (fun r l=>?_) (Bb S P h2));obtain⟨p,m,d,g,o⟩:=l;have pm:∀{q:Array Nat},q.Perm r.2→q.toList.Perm (List.range n):=fun a=>by
  have:=Array.perm_iff_toList_perm.mp (a.trans o);simpa using this
 by_cases hlt:r.1<n
 ·rw[if_pos hlt,show max r.1 1=r.1 by lia];exact KT.mono (fun q a=>⟨a.1,a.2.1.sz,pm a.2.2⟩) (Be S (n-r.1) r.1 r.2 g rfl m d)
 ·rw[if_neg hlt];have:r.1=n:=by lia
  rw[this]at d;exact⟨d,g.sz,pm (Array.Perm.refl _)⟩
end
theorem KT.wp {α:Type}{lt:Nat→Nat→Bool}{n:Nat}{cmp:Nat→Nat→(Bool→Shared→Prop)→Shared→Prop}{s:Shared}{Q:α→Prop}{R:α→Shared→Prop}(hc:∀i j,i<n→j<n→∀(C:Bool→Shared→Prop),C (lt i j) s→cmp i j C s)(hr:∀a,Q a→R a s):∀{t:W.KasT α},KT.all lt n Q t→t.kasWp cmp R s
 |.ret a,h=>hr a h
 |.ask i j k,h=>hc i j h.1 h.2.1 _ (KT.wp hc hr (t:=k (lt i j)) h.2.2)
abbrev SI:=Str×Int
def qq (a b:SI):Bool:=if a.1=b.1 then decide (a.2<b.2) else decide (a.1.cps.toList<b.1.cps.toList)
theorem uO {a b:Str}(h:a.cps.toList=b.cps.toList):a=b:=by
 cases a;cases b;simp only[Str.mk.injEq];exact Array.toList_inj.mp h
theorem yk {a c:SI}(h1:qq a b=true)(h2:qq b c=true):qq a c=true:=by
 unfold qq at *;by_cases e1:a.1=b.1
 ·by_cases e2:b.1=c.1
  ·rw[if_pos e1]at h1;rw[if_pos e2]at h2;rw[if_pos (e1.trans e2)];simp only[aw]at *;lia
  ·rw[if_neg e2]at h2;rw[if_neg (fun z=>e2 (e1.symm.trans z)),e1];exact h2
 ·by_cases e2:b.1=c.1
  ·rw[if_neg e1]at h1;rw[if_neg (fun z=>e1 (z.trans e2.symm)),←e2];exact h1
  ·rw[if_neg e1]at h1;rw[if_neg e2]at h2;simp only[aw]at h1 h2;have d:=List.lt_trans h1 h2;rw[if_neg (fun z=>by rw[z]at d;exact List.lt_irrefl _ d)];simpa using d
theorem ym {a:SI}(h:qq a b=true):qq b a=false:=by
 unfold qq at *;by_cases e:a.1=b.1
 ·rw[if_pos e]at h;rw[if_pos e.symm];simp only[aw,decide_eq_false_iff_not]at *;lia
 ·rw[if_neg e]at h;rw[if_neg (fun z=>e z.symm)];simp only[aw,decide_eq_false_iff_not]at *;exact fun z=>List.lt_irrefl _ (List.lt_trans h z)
theorem yl {a:SI}(h:a≠b):qq a b=true∨qq b a=true:=by
 unfold qq;by_cases e:a.1=b.1
 ·rw[if_pos e,if_pos e.symm];simp only[aw];have:a.2≠b.2:=fun z=>h (Prod.ext e z)
  lia
 ·rw[if_neg e,if_neg (fun z=>e z.symm)];simp only[aw];by_cases h1:a.1.cps.toList<b.1.cps.toList
  ·exact .inl h1
  ·by_cases h2:b.1.cps.toList<a.1.cps.toList
   ·exact .inr h2
   ·exact absurd (uO (List.le_antisymm (List.not_lt.mp h2) (List.not_lt.mp h1))) e
section
variable {prog:Program}
theorem yn {vs:List Value}{n:Nat}{P:PySem.Fin→Shared→Prop}{lt:Nat→Nat→Bool}{κ:SortKind}(x:s.heap.get? a=some (seqObj "list" vs.toArray n))(F:vs.length<64)(S:SO lt)(tt:∀i j,i<vs.length→j<vs.length→i≠j→lt i j=true∨lt j i=true)(N:∀h',(∀b o,b≠a→s.heap.get? b=some o→h'.get? b=some o)→2≤vs.length→∀Q:SortKind→Shared→Prop,Q κ {s with heap:=h'}→wpAny (model prog w) A (keyKind' vs.toArray) Q E {s with heap:=h'})(O:∀h',(∀b o,b≠a→s.heap.get? b=some o→h'.get? b=some o)→∀i j,i<vs.length→j<vs.length→∀C:Bool→Shared→Prop,C (lt i j) {s with heap:=h'}→W.kas_ask prog w A κ vs i j C {s with heap:=h'})(h:∀p:List Nat,p.Perm (List.range vs.length)→p.Pairwise (fun i j=>lt i j=true)→P (.done (.ret .none)) {s with heap:=sortedHeap s.heap a vs (p.map fun i=>vs.getD i Value.none).toArray}):wpAny (model prog w) A (Builtin.«list.sort» ⟨[.ref a],[]⟩) P E s:=by
 rw[list_sort_plain];have J:a<s.heap.objs.size:=aM x;have R:vs.toArray.size=vs.length:=aP ..;refine ac (listItems_at x rfl (ac (listUpdate_at x rfl ?_)));obtain⟨e1,ho1⟩:∃e1,(s.heap.update a (Obj.mapSeq fun _=>(#[]:Array Value))).get? a=some (seqObj "list" #[] e1):=⟨_,get?_update_seq x (fun _=>#[])⟩;refine ac (seqEpoch_at ho1 rfl (ac (wpAny_newTuple (ac (wpAny_newList (bE ?_))))));have keep:∀b o,b≠a→s.heap.get? b=some o→(((s.heap.update a (Obj.mapSeq fun _=>(#[]:Array Value))).push (seqObj "tuple" vs.toArray 0)).push (seqObj "list" #[] 0)).get? b=some o:=fun b o M e=>by
  have m:=aM e;rw[cW _ _ _ (by rw[size_push',dH];exact aT (dA m)),cW _ _ _ (by rw[dH];exact aT m),Heap.get?_update_ne _ _ _ _ M]
  exact e
 have d:(((s.heap.update a (Obj.mapSeq fun _=>(#[]:Array Value))).push (seqObj "tuple" vs.toArray 0)).push (seqObj "list" #[] 0)).get? a=some (seqObj "list" #[] e1):=by
  rw[cW _ _ _ (by rw[size_push',dH];exact aT (dA J)),cW _ _ _ (by rw[dH];exact aT J)]
  exact ho1
 show wpAny (model prog w) A _ P E {s with heap:=((s.heap.update a (Obj.mapSeq fun _=>(#[]:Array Value))).push (seqObj "tuple" vs.toArray 0)).push (seqObj "list" #[] 0)};dsimp only;by_cases h2:vs.toArray.size<2
 ·rw[if_pos h2,if_pos h2];refine ac (ap ?_);rw[StateT.run_pure];refine ac (ap ?_);dsimp only;refine ac (seqEpoch_at d rfl (ac (listUpdate_at d rfl ?_ (hsz2:=by rw[Array.size_map];show(pairsOf vs).size≤_;rw[pairsOf_size,bZ];lia))));simp only[bne_self_eq_false,ci,if_false];have e:Array.map (·.2) (arrOf (SortSt.mk' general' (vs.toArray.zip vs.toArray) #[] 7 none))=((List.range vs.length).map fun i=>vs.getD i Value.none).toArray:=by
   show Array.map (·.2) (vs.toArray.zip vs.toArray)=_
   match vs,h2 with
   |[],_=>simp
   |[v],_=>simp
   |_::_::_,h2=>exact absurd h2 (by simp)
  rw[e];refine ap (h (List.range vs.length) (List.Perm.refl _) ?_);have:vs.length<2:=by lia
  match hl:vs.length,this with
  |0,_=>exact List.Pairwise.nil
  |1,_=>exact List.pairwise_singleton _ _
 ·rw[if_neg h2,if_neg h2];refine ac (N _ keep (by lia) _ ?_);refine ac (ca (W.kat_run (ks:=vs) (vs:=vs) (Q:=fun g s'=>s'={s with heap:=((s.heap.update a (Obj.mapSeq fun _=>(#[]:Array Value))).push (seqObj "tuple" vs.toArray 0)).push (seqObj "list" #[] 0)}∧failedOf g=none∧∃p:Array Nat,arrOf g=p.map (W.kas_item (vs.toArray.zip vs.toArray))∧mf lt p vs.length∧p.size=vs.length∧p.toList.Perm (List.range vs.length)) (G:=fun p s'=>s'={s with heap:=((s.heap.update a (Obj.mapSeq fun _=>(#[]:Array Value))).push (seqObj "tuple" vs.toArray 0)).push (seqObj "list" #[] 0)}∧mf lt p vs.length∧p.size=vs.length∧p.toList.Perm (List.range vs.length)) rfl (by lia) F (fun p g s' hp l y H=>⟨H.1,y,p,l,H.2⟩) (KT.wp (O _ keep) (fun p hp=>⟨rfl,hp⟩) (BZ S (by lia) tt))) (fun r s' K=>?_) fun _ _ z=>z);obtain⟨⟨⟩,g⟩:=r;obtain⟨rfl,y,p,l,L,t,B⟩:=K;have q:=W.kat_snds (ks:=vs) (vs:=vs) rfl l;dsimp only;rw[q,y];refine ac (seqEpoch_at d rfl (ac (listUpdate_at d rfl ?_ (hsz2:=by rw[aP,ab,bn,t,bZ];lia))));simp only[bne_self_eq_false,ci,if_false];refine ap (h p.toList B ?_);rw[List.pairwise_iff_getElem];intro i j hi I D;have:=L i j D (by rw[←t];simpa using I);rw[cr,cr,cA (by simpa using hi),cA (by simpa using I)]at this
  simpa using this
theorem uT {l:Addr}{vs:List Value}{lt:Nat→Nat→Bool}{κ:SortKind}(t:s.heap.IsList l vs.toArray)(r:vs.length<64)(S:SO lt)(tt:∀i j,i<vs.length→j<vs.length→i≠j→lt i j=true∨lt j i=true)(v:∀(A':Around) (E':Value→Shared→Prop) h',(∀b o,s.heap.get? b=some o→h'.get? b=some o)→2≤vs.length→∀Q:SortKind→Shared→Prop,Q κ {s with heap:=h'}→wpAny (model prog w) A' (keyKind' vs.toArray) Q E' {s with heap:=h'})(x:∀h',(∀b o,s.heap.get? b=some o→h'.get? b=some o)→∀i j,i<vs.length→j<vs.length→∀C:Bool→Shared→Prop,C (lt i j) {s with heap:=h'}→W.kas_ask prog w A.in1.in1 κ vs i j C {s with heap:=h'})(h:∀p:List Nat,p.Perm (List.range vs.length)→p.Pairwise (fun i j=>lt i j=true)→Q (.ref (s.heap.objs.size+1)) {s with heap:=sortedAll s.heap vs (p.map fun i=>vs.getD i Value.none).toArray}):wpAny (model prog w) A (call (.builtin "sorted") [.ref l]) Q E s:=by
 refine Calls.call_function_entry kind_sorted plain_sorted entry_sorted (args_sorted1 _) ?_;unfold Builtin.«sorted»;refine ac (m:=checkCount "sorted" 1 1 _) (ap ?_);refine ac (collect_list t (ac (wpAny_newList ?_)) (by rw[bZ];lia));have d:((s.heap.push (seqObj "list" #[] 0)).update s.heap.objs.size (Obj.mapSeq (·++vs.toArray))).objs.size=s.heap.objs.size+1:=by rw[dH,size_push']
 have e:(((s.heap.push (seqObj "list" #[] 0)).update s.heap.objs.size (Obj.mapSeq (·++vs.toArray))).push (seqObj "list" vs.toArray 0)).get? (s.heap.objs.size+1)=some (seqObj "list" vs.toArray 0):=by rw[←d];exact aJ _ rfl
 have keep:∀b o,s.heap.get? b=some o→b≠s.heap.objs.size+1∧(((s.heap.push (seqObj "list" #[] 0)).update s.heap.objs.size (Obj.mapSeq (·++vs.toArray))).push (seqObj "list" vs.toArray 0)).get? b=some o:=fun b o q=>by
  have a:b<s.heap.objs.size:=aM q;refine⟨aT (dA a),?_⟩;rw[cW _ _ _ (by rw[d];exact aT (dA a)),Heap.get?_update_ne _ _ _ _ (aT a),cW _ _ _ (aT a)]
  exact q
 show wpAny _ _ _ _ _ {s with heap:=((s.heap.push (seqObj "list" #[] 0)).update s.heap.objs.size (Obj.mapSeq (·++vs.toArray))).push (seqObj "list" vs.toArray 0)};rw[d];refine ac (bE (cj slot_list_sort ⟨_,e,rfl⟩ entry_list_sort (yn e r S tt (fun h' kp=>v _ _ h' fun b o q=>kp b o (keep b o q).1 (keep b o q).2) (fun h' kp=>x h' fun b o q=>kp b o (keep b o q).1 (keep b o q).2) fun p hp g=>⟨_,rfl,?_⟩) (args_list_sort _)));exact ap ⟨_,rfl,h p hp g⟩
end
def uF (H:Hp)(v:V)(k:SI):Prop:=∃q,v=.ref q∧H q=some (.tup [.str k.1,.int k.2])
theorem xM {α:Type}{d:α}{xs:List α}{p:List Nat}(h:p.Perm (List.range xs.length)):(p.map fun i=>xs.getD i d).Perm xs:=by
 refine(h.map _).trans (List.Perm.of_eq ?_);refine List.ext_getElem? fun i=>?_;rw[ae];by_cases hi:i<xs.length
 ·rw[ak (by simpa using hi),ak hi]
  simp[hi]
 ·rw[dF (by simpa using hi),dF (by lia)]
  rfl
theorem sU:jL X (.builtin "sorted") (fun xs H Q=>∃(a:Addr) (vs:List V) (ks:List SI),xs=[.ref a]∧fb X.K H a vs∧Paired (uF H) vs ks∧ks.Nodup∧ks.length<64∧∀(p:Addr) (vs':List V) (ks':List SI),H p=none→Paired (uF H) vs' ks'→ks'.Perm ks→ks'.Pairwise (fun a b=>qq a b=true)→Q (.ref p) (upd H p (.lst vs'))):=by
 intro pins s σ H xs us Q I r h;obtain⟨a,vs,ks,rfl,hS,hp,ah,an,q⟩:=h;obtain⟨u,rfl,r1⟩:=ji r;cases (show u=Value.ref a from r1);obtain⟨g,rv,pl,hz⟩:=I.list hS;have l1:vs.length=g.length:=rv.length;have l2:vs.length=ks.length:=Paired.length hp;have B:∀i,(hi:i<g.length)→∃(b:Addr) (o:Obj) (t t':Tok) (n:Nat),g[i]=.ref b∧vs[i]?=some (V.ref b)∧H b=some (.tup [.str (ks.getD i (Str.empty,0)).1,.int (ks.getD i (Str.empty,0)).2])∧s.heap.get? b=some o∧o.cls=.type "tuple"∧o.data=.seq #[.str (ks.getD i (Str.empty,0)).1 t,.int (ks.getD i (Str.empty,0)).2 t'] n:=fun i hi=>by
  have D:vs[i]?=some (vs[i]'(by lia)):=ak (by lia);obtain⟨w',hw,M⟩:=rv.get D;rw[ak hi]at hw;obtain⟨k,hk,b,S,L⟩:=zK hp D;have aa:ks.getD i (Str.empty,0)=k:=by rw[bc,hk];rfl
  rw[S]at M D;obtain⟨z,ts,rt,o,e,c,n,dd⟩:=(show fN X.prog X.w H s.heap b (.tup [.str k.1,.int k.2]) from I.hok b _ L);cases rt with
  |cons r1 r2=>
   cases r2 with
   |cons r3 r4=>
    cases r4;obtain⟨t,rfl⟩:=r1;obtain⟨t',rfl⟩:=r3;rw[aa];exact⟨b,o,t,t',n,(Option.some.inj hw).trans (show w'=Value.ref b from M),D,L,e,c,dd⟩
 have gd:∀i,(hi:i<g.length)→g.getD i Value.none=g[i]:=fun i hi=>by rw[bc,ak hi];rfl
 refine uT (lt:=fun i j=>qq (ks.getD i (Str.empty,0)) (ks.getD j (Str.empty,0))) (κ:=tuples' (Value.type "str" != Value.type "tuple")) pl.isList (by lia) ⟨fun _ _ _=>yk,fun _ _=>ym⟩ (fun i j hi G ag=>yl fun z=>ag ?_) (fun A' E' h' kp h2 Q' hq=>?_) (fun h' kp i j hi G C E=>?_) fun p F Y=>?_
 ·rw[bc,bc,ak (by lia),ak (by lia)]at z
  exact(List.getElem_inj ah).mp z
 ·have P:∀(m:Nat),m≤g.length→∃fs,W.KatTups h' (g.drop m) fs∧fs.length=g.length-m∧∀v∈fs,∃x t,v=.str x t:=by
   intro m hm;obtain⟨d,hd⟩:∃d,d=g.length-m:=⟨_,rfl⟩
   induction d generalizing m with
   |zero=>
    have:m=g.length:=by lia
    subst this;exact⟨[],by rw[List.drop_length];exact .nil,by simp,fun v D=>nomatch D⟩
   |succ d ih=>
    have O:m<g.length:=by lia
    obtain⟨fs,f1,f2,f3⟩:=ih (m+1) (by lia) (by lia);obtain⟨b,o,t,t',n,y,_,_,e3,e4,U⟩:=B m O;refine⟨.str (ks.getD m (Str.empty,0)).1 t::fs,?_,by rw[aC];lia,fun v D=>?_⟩
    ·rw[dR O,y];exact .cons (kp _ _ e3) e4 U rfl f1
    ·rcases am.mp D with z | z
     ·exact⟨_,_,z⟩
     ·exact f3 v z
  obtain⟨fs,f1,f2,f3⟩:=P 0 (bp _);refine W.kat_kind (s:={s with heap:=h'}) (T:=.type "str") (fs:=fs) (by simpa using f1) (by lia) (fun v D=>?_) (by decide) hq;obtain⟨x,t,rfl⟩:=f3 v D;exact .now
 ·obtain⟨b,o,t,t',n,y,_,_,e3,e4,U⟩:=B i hi;obtain⟨b2,o2,t2,Z,n2,g1,_,_,g3,g4,g5⟩:=B j G;unfold W.kas_ask;rw[gd i hi,gd j G,y,g1,show(Value.type "str" != Value.type "tuple")=true by decide];generalize ks.getD i (Str.empty,0)=k1 at *;generalize ks.getD j (Str.empty,0)=k2 at *;refine W.kat_lt (s:={s with heap:=h'}) (kp _ _ e3) U (kp _ _ g3) g5 ?_;show W.KatLex X.prog X.w X.A.in1.in1 true (decide (2<2)) C [(.str k1.1 t,.str k2.1 t2),(.int k1.2 t',.int k2.2 Z)] 0 _;refine W.kat_cons (SeqAt.EqAt.str_str _ _ _ _ _ _ _ _ ?_);refine W.kat_go (fun J=>W.kat_yes (W.kat_cons (SeqAt.EqAt.int_int _ _ _ _ _ _ _ _ (W.kat_go (fun R=>W.kat_yes (W.kat_nil ?_)) fun R=>W.kat_no ?_)))) (fun J=>W.kat_no ?_)
  ·have y:k1.1=k2.1:=by simpa using J
   have e2:k1.2=k2.2:=by simpa using R
   have:qq k1 k2=decide (2<2):=by unfold qq;rw[if_pos y,e2];simp
   try dsimp only at E
   rw[this]at E;exact E
  ·have y:k1.1=k2.1:=by simpa using J
   refine W.kat_one _ _ (lt_int ?_);have:qq k1 k2=decide (k1.2<k2.2):=by unfold qq;rw[if_pos y]
   try dsimp only at E
   rw[this]at E;exact E
  ·have y:¬k1.1=k2.1:=by simpa using J
   have:qq k1 k2=decide (k1.1.cps.toList<k2.1.cps.toList):=by unfold qq;rw[if_neg y]
   try dsimp only at E
   rw[this]at E;exact oneLt_str E
 ·have L:∀i∈p,i<g.length:=fun i hi=>List.mem_range.mp (F.subset hi);have pk:∀(l:List Nat),(∀i∈l,i<g.length)→Paired (uF H) (l.map fun i=>vs.getD i V.non) (l.map fun i=>ks.getD i (Str.empty,0)):=fun l=>by
   induction l with
   |nil=>exact fun _=>.nil
   |cons i l ih=>
    intro N;obtain⟨b,o,t,t',n,y,ev,S,_⟩:=B i (N i (by simp));rw[aD,aD];refine .cons ⟨b,?_,S⟩ (ih fun j G=>N j (by simp[G]));rw[bc,ev];rfl
  have pv:∀(l:List Nat),(∀i∈l,i<g.length)→fL (l.map fun i=>vs.getD i V.non) (l.map fun i=>g.getD i Value.none):=fun l=>by
   induction l with
   |nil=>exact fun _=>.nil
   |cons i l ih=>
    intro N;have hi:=N i (by simp);obtain⟨b,o,t,t',n,y,ev,S,_⟩:=B i hi;rw[aD,aD];refine .cons ?_ (ih fun j G=>N j (by simp[G]));rw[bc,ev,gd i hi,y];exact rfl
  have al:p.length=g.length:=by rw[F.length_eq,List.length_range]
  have ad:=I.hok.fresh (dB s.heap.objs.size);obtain⟨e,J⟩:=sortedAll_at s.heap g (p.map fun i=>g.getD i Value.none).toArray;refine⟨.ref (s.heap.objs.size+1),upd H (s.heap.objs.size+1) (.lst (p.map fun i=>vs.getD i V.non)),I.laid (t':=s.toks) (fun b u q=>sortedAll_old q) (dB _) ⟨?_,_,e,pv p L,by rw[J]⟩,rfl,q _ _ _ ad (pk p L) (xM ?_) ?_⟩
  ·rw[ab,al,←l1];exact hz
  ·rw[show ks.length=g.length by lia];exact F
  ·rw[cC];exact Y
end L2
namespace FB
open PySem L2 PyProof.Rows
variable {F:List Fk}{L L':ij}{a b i m m' p spot:Nat}{es:List En}{j:Pk}{ls:List Ln}{s:Sd}{v:Int}{w:Option Pk}{x:Str}
structure eg where
 es:List En
 sn:List Nd
 ks:List Pk
 mem:∀k,k∈ks↔k∈es.map eX
 nd:ks.Nodup
 pm:ks.Perm (es.map eX)
 ord:ks.Pairwise fun a b=>qq a b=true
 srt:∀(i j:Nat) (a b:Pk),ks[i]?=some a→ks[j]?=some b→i<j→a.1=b.1→a.2<b.2
def eg.n (c:eg):Nat:=c.ks.length
def eg.ix (c:eg)(k:Pk):Nat:=c.ks.idxOf k
def eg.has (c:eg)(m:Nat)(k:Pk):Prop:=k∈c.ks∧m.testBit (c.ix k)=true
instance (c:eg) (m:Nat) (k:Pk):Decidable (c.has m k):=inferInstanceAs (Decidable (_∧_))
def eg.bit (c:eg)(k:Pk):Nat:=2^c.ix k
def eg.J4 (c:eg):Option Pk→Nat
 |none=>0
 |some k=>c.bit k
def eg.listed (c:eg)(m:Nat):List Pk:=c.ks.filter fun k=>m.testBit (c.ix k)
def ii (a b:Nat):Nat:=a ^^^ (a &&& b)
theorem eg.J5 (c:eg){k:Pk}(h:k∈c.ks):c.ix k<c.n:=bt.mpr h
theorem eg.J6 (c:eg){k:Pk}(h:k∈c.ks):c.ks[c.ix k]?=some k:=by
 rw[ak (c.J5 h)];exact congrArg some (cu (c.J5 h))
theorem eg.J7 (c:eg){k:Pk}(a:j∈c.ks)(b:k∈c.ks)(h:c.ix j=c.ix k):j=k:=by
 have h1:=c.J6 a;rw[h,c.J6 b]at h1;exact(Option.some.inj h1).symm
theorem eg.J8 (c:eg){k:Pk}(h:c.ks[i]?=some k):c.ix k=i:=by
 have a:=ai h;have h1:=c.J6 a;have hi:=(af.mp h).1;have b:=c.J5 a;rw[ak hi]at h;rw[ak b]at h1;exact(List.getElem_inj c.nd).mp ((Option.some.inj h1).trans (Option.some.inj h).symm)
theorem eg.J9 {c:eg}{k:Pk}:k∈c.listed m↔c.has m k:=by
 unfold eg.listed eg.has;rw[aS]
theorem eg.Ka {c:eg}{k:Pk}:c.has (a ||| b) k↔c.has a k∨c.has b k:=by
 unfold eg.has;rw[Nat.testBit_or,cS]
 constructor
 ·rintro⟨h,x | x⟩
  ·exact .inl ⟨h,x⟩
  ·exact .inr ⟨h,x⟩
 ·rintro(⟨h,x⟩ | ⟨h,x⟩)
  ·exact⟨h,.inl x⟩
  ·exact⟨h,.inr x⟩
theorem eg.Kb {c:eg}{k:Pk}:c.has (a &&& b) k↔c.has a k∧c.has b k:=by
 unfold eg.has;rw[Nat.testBit_and,aB]
 constructor
 ·rintro⟨h,x,y⟩;exact⟨⟨h,x⟩,⟨h,y⟩⟩
 ·rintro⟨⟨h,x⟩,⟨_,y⟩⟩;exact⟨h,x,y⟩
theorem nR (a b i:Nat):(ii a b).testBit i=(a.testBit i&&!b.testBit i):=by
 unfold ii;rw[Nat.testBit_xor,Nat.testBit_and];cases a.testBit i <;> cases b.testBit i <;> rfl
theorem eg.Kc {c:eg}{k:Pk}:c.has (ii a b) k↔c.has a k∧¬c.has b k:=by
 unfold eg.has;rw[nR,aB,bQ]
 constructor
 ·rintro⟨h,x,y⟩;exact⟨⟨h,x⟩,fun z=>by rw[z.2]at y;cases y⟩
 ·rintro⟨⟨h,x⟩,y⟩;exact⟨h,x,bV.mpr fun z=>y ⟨h,z⟩⟩
theorem eg.Kd {c:eg}{k:Pk}(a:j∈c.ks):c.has (c.bit j) k↔k=j:=by
 unfold eg.has eg.bit;rw[Nat.testBit_two_pow]
 constructor
 ·rintro⟨h,x⟩;exact c.J7 h a (aW x).symm
 ·rintro rfl;exact⟨a,aq rfl⟩
theorem eg.Ke {c:eg}{k:Pk}:¬c.has 0 k:=fun h=>by
 have:=h.2;rw[Nat.zero_testBit]at this;cases this
theorem eg.Kf (c:eg){k:Pk}(h:k∈c.ks):c.bit k<2^c.n:=Nat.pow_lt_pow_right (by decide) (c.J5 h)
theorem i6 {n:Nat}(ha:a<2^n)(hb:b<2^n):a ||| b<2^n:=Nat.or_lt_two_pow ha hb
theorem nM {n:Nat}(ha:a<2^n):a &&& b<2^n:=bw Nat.and_le_left ha
theorem jo {n:Nat}(ha:a<2^n):ii a b<2^n:=Nat.xor_lt_two_pow ha (nM ha)
theorem eg.ext {c:eg}(j:a<2^c.n)(l:b<2^c.n)(h:∀k,c.has a k↔c.has b k):a=b:=by
 refine Nat.eq_of_testBit_eq fun i=>?_;by_cases hi:i<c.n
 ·have e:c.ks[i]?=some c.ks[i]:=ak hi;have d:=ai e;have g:=c.J8 e;have:=h c.ks[i];unfold eg.has at this;rw[g]at this;rw[cT]
  constructor
  ·exact fun z=>(this.mp ⟨d,z⟩).2
  ·exact fun z=>(this.mpr ⟨d,z⟩).2
 ·have hp:2^c.n≤2^i:=Nat.pow_le_pow_right (by decide) (by lia);rw[Nat.testBit_lt_two_pow (by lia),Nat.testBit_lt_two_pow (by lia)]
theorem eg.Kg {c:eg}(ha:a<2^c.n)(h:∀k,¬c.has a k):a=0:=eg.ext ha (bL _) fun k=>⟨fun z=>(h k z).elim,fun z=>(eg.Ke z).elim⟩
theorem eg.Kh {c:eg}(d:a<2^c.n):c.listed a=[]↔a=0:=by
 constructor
 ·intro h;refine eg.Kg d fun k b=>?_;have:=eg.J9.mpr b;rw[h]at this;cases this
 ·rintro rfl;unfold eg.listed;simp
theorem eg.Ki (c:eg)(m:Nat):(c.listed m).Nodup:=c.nd.sublist List.filter_sublist
def eg.maskOf (c:eg)(p:Pk→Bool):Nat:=(c.ks.filter p).foldl (fun m k=>m ||| c.bit k) 0
theorem eg.Kj {c:eg}:∀(l:List Pk) (m:Nat),(∀k∈l,k∈c.ks)→∀k,c.has (l.foldl (fun m k=>m ||| c.bit k) m) k↔c.has m k∨k∈l
 |[],m,_,k=>by simp
 |x::l,m,h,k=>by
  rw[List.foldl_cons,eg.Kj l _ (fun y hy=>h y (by simp[hy])),eg.Ka,eg.Kd (h x (by simp)),am,or_assoc]
theorem eg.fold_lt {c:eg}:∀(l:List Pk) (m:Nat),(∀k∈l,k∈c.ks)→m<2^c.n→l.foldl (fun m k=>m ||| c.bit k) m<2^c.n
 |[],m,_,hm=>hm
 |x::l,m,h,hm=>eg.fold_lt l _ (fun y hy=>h y (by simp[hy])) (i6 hm (c.Kf (h x (by simp))))
theorem eg.Kk {c:eg}{p:Pk→Bool}{k:Pk}:c.has (c.maskOf p) k↔k∈c.ks∧p k=true:=by
 unfold eg.maskOf;rw[eg.Kj _ _ fun y a=>(aS.mp a).1,aS];exact⟨fun z=>z.elim (fun y=>(eg.Ke y).elim) id,.inr⟩
theorem eg.Kl (c:eg)(p:Pk→Bool):c.maskOf p<2^c.n:=eg.fold_lt _ _ (fun y hy=>(aS.mp hy).1) (bL _)
def eg.needs (c:eg)(w:Option Pk):List Nd:=gJ c.es c.sn w
def eg.Km (c:eg)(w:Option Pk)(k:Pk):Prop:=∃n∈c.needs w,qi n k=true
def eg.foe (c:eg)(j k:Pk):Prop:=c.Km (some j) k∨c.Km (some k) j
theorem eg.Kn {c:eg}{k:Pk}(h:c.foe j k):c.foe k j:=h.elim .inr .inl
def eg.Ko (c:eg)(m:Nat):Option Pk→Prop
 |none=>True
 |some k=>c.has m k
abbrev ij:=List (Nat×Rs)
def eg.ln (c:eg)(e:Nat×Rs):Ln:=(c.listed e.1,e.2)
def eg.lns (c:eg)(L:ij):List Ln:=L.map c.ln
def eg.Kp (c:eg)(m:Nat):Prop:=∀j k,c.has m j→c.has m k→j.1=k.1→j=k
structure gY (c:eg)(L:ij):Prop where
 good:∀i e,L[i]?=some e→i7 c.es c.sn (c.lns L) (i:Nat) (c.ln e)=true
 lt:∀e∈L,e.1<2^c.n
 one:∀e∈L,c.Kp e.1
 nd:(L.map (·.1)).Nodup
theorem Aq {α:Type}{xs ys:List α}{i:Int}(h:i<(xs.length:Int)):iB (xs++ys) i=iB xs i:=by
 unfold iB;by_cases h0:0≤i
 ·rw[if_pos h0,if_pos h0,aI (by lia)]
 ·rw[if_neg h0,if_neg h0]
theorem Bf {ys:List Ln}{ps:List Pk}{b:Int}(h:spot≤ls.length):ut (ls++ys) spot ps x b v=ut ls spot ps x b v:=by
 unfold ut;by_cases hb:b<(spot:Int)
 ·rw[Aq (by lia)]
 ·rw[ar hb,bY,bY]
theorem qO {sn:List Nd}{ys:List Ln}{l:Ln}(h:spot≤ls.length):i7 es sn (ls++ys) spot l=i7 es sn ls spot l:=by
 unfold i7;cases hn:iB (gJ es sn l.2.who) l.2.place with
 |none=>rfl
 |some n=>
  dsimp only
  congr 1
  cases ht:l.2.told with
  |one k=>rfl
  |many bs=>
   show kD es (ls++ys) spot l.1 n bs=kD es ls spot l.1 n bs;unfold kD
   congr 1
   refine congrArg (fun f=>List.all _ f) (funext fun a=>?_);exact Bf h
theorem gY.nil (c:eg):gY c []:=⟨(fun i e h=>by simp at h),(fun e h=>nomatch h),(fun e h=>nomatch h),cb⟩
theorem gY.add {c:eg}(h:gY c L){r:Rs}(j:m<2^c.n)(l:c.Kp m)(t:m∉L.map (·.1))(q:i7 c.es c.sn (c.lns L) (L.length:Nat) (c.listed m,r)=true):gY c (L++[(m,r)]):=by
 have o:c.lns (L++[(m,r)])=c.lns L++[(c.listed m,r)]:=by unfold eg.lns;rw[av];rfl
 have v:(c.lns L).length=L.length:=ab _;refine⟨fun i e d=>?_,fun e d=>?_,fun e d=>?_,?_⟩
 ·rw[o];by_cases hi:i<L.length
  ·rw[aI hi]at d;rw[qO (by lia)];exact h.good i e d
  ·have g:i=L.length:=by
    have:=(af.mp d).1;rw[aE,aV]at this
    lia
   subst g;rw[aU (ao _),bR]at d;have:e=(m,r):=by simpa using d.symm
   subst this;rw[qO (by lia)];exact q
 ·rcases az.mp d with y | y
  ·exact h.lt e y
  ·rw[aj.mp y];exact j
 ·rcases az.mp d with y | y
  ·exact h.one e y
  ·rw[aj.mp y];exact l
 ·rw[av,bM];exact⟨h.nd,by simp,fun a p b s e=>t (by rw[show b=m by simpa using s]at e;exact e▸p)⟩
theorem yW {c:eg}(h:c.Ko m w):D4 c.es (c.listed m) w=true:=by
 cases w with
 |none=>rfl
 |some k=>
  have a:c.has m k:=h;show(decide (k∈c.listed m)&&decide (k∈c.es.map eX))=true;rw[aq (eg.J9.mpr a),aq ((c.mem k).mp a.1)];rfl
theorem zY {c:eg}{k:Pk}{n:Nd}(a:c.Ko m w)(d:c.has m k)(e:(c.needs w)[i]?=some n)(b:qi n k=true):i7 c.es c.sn ls spot (c.listed m,⟨w,(i:Nat),.one k⟩)=true:=by
 unfold i7;rw[yW a];dsimp only;rw[io,show(gJ c.es c.sn w)[i]?=some n from e];show(decide (k∈c.listed m)&&qi n k)=true;rw[aq (eg.J9.mpr d),b];rfl
theorem xR {c:eg}{n:Nd}{bs:List Nat}(h:c.Ko m w)(t:(c.needs w)[i]?=some n)(o:bs.length=(iT c.es n).length)(r:∀(j b:Nat) (v:Int),bs[j]?=some b→(iT c.es n)[j]?=some v→∃e,L[b]?=some e∧∀x,c.has e.1 x→x=(n.1,v)∨c.has m x):i7 c.es c.sn (c.lns L) (L.length:Nat) (c.listed m,⟨w,(i:Nat),.many (bs.map fun b:Nat=>(b:Int))⟩)=true:=by
 unfold i7;rw[yW h];dsimp only;rw[io,show(gJ c.es c.sn w)[i]?=some n from t];show kD c.es (c.lns L) (L.length:Nat) (c.listed m) n (bs.map fun b:Nat=>(b:Int))=true;unfold kD;rw[ab,aq o,cw,bF];rintro⟨b,v⟩ d;obtain⟨j,z⟩:=ax.mp d;obtain⟨h1,h2⟩:=dQ.mp z;rw[ae]at h1;obtain⟨a,q,rfl⟩:=au.mp h1;obtain⟨e,g,s⟩:=r j a v q h2;have l:a<L.length:=(af.mp g).1;unfold ut;dsimp only;rw[aq (by lia),aq (p:=((a:Nat):Int)<((L.length:Nat):Int)) (by lia),cw,cw,io];have A:(c.lns L)[a]?=some (c.ln e):=by unfold eg.lns;rw[ae,g];rfl
 rw[A];show((c.listed e.1).all fun p=>decide (p∈c.listed m)||decide (p=(n.1,v)))=true;rw[bF];intro p hp;rcases s p (eg.J9.mp hp) with y | y
 ·rw[aq y,Bool.or_true]
 ·rw[aq (eg.J9.mpr y),Bool.true_or]
def eg.Kq (c:eg)(L:ij)(m:Nat)(k:Pk):Prop:=∃e∈L,c.has e.1 k∧∀j,c.has e.1 j→j=k∨c.has m j
def eg.Kr (c:eg)(L:ij)(m:Nat)(k:Pk):Prop:=c.Km none k∨c.foe k k∨(∃j,c.has m j∧c.foe k j)∨c.Kq L m k
theorem eg.Kq.mono {c:eg}{k:Pk}(h:c.Kq L m k)(hL:∀e∈L,e∈L')(hm:∀j,c.has m j→c.has m' j):c.Kq L' m' k:=
 (by obtain⟨e,he,h1,h2⟩:=h;exact⟨e,hL e he,h1,fun j hj=>(h2 j hj).imp id (hm j)⟩)
theorem eg.Kr.mono {c:eg}{k:Pk}(h:c.Kr L m k)(b:∀e∈L,e∈L')(a:∀j,c.has m j→c.has m' j):c.Kr L' m' k:=by
 rcases h with h | h | ⟨j,h1,h2⟩ | h
 ·exact .inl h
 ·exact .inr (.inl h)
 ·exact .inr (.inr (.inl ⟨j,a j h1,h2⟩))
 ·exact .inr (.inr (.inr (eg.Kq.mono h b a)))
structure Sd where
 picked:Nat
 dead:Nat
 wanted:List (Str×Option Pk)
def eO:List Nd→List Str
 |[]=>[]
 |n::ns=>n.1::(eO ns).filter fun x=>!decide (x=n.1)
theorem gT {x:Str}:∀{ns:List Nd},x∈eO ns↔∃n∈ns,n.1=x
 |[]=>by simp[eO]
 |n::ns=>by
  rw[eO,am,aS,gT (ns:=ns)]
  constructor
  ·rintro(rfl | ⟨⟨m,hm,rfl⟩,_⟩)
   ·exact⟨n,by simp,rfl⟩
   ·exact⟨m,by simp[hm],rfl⟩
  ·rintro⟨m,hm,rfl⟩;by_cases h:m.1=n.1
   ·exact .inl h
   ·rcases am.mp hm with rfl | hm
    ·exact absurd rfl h
    ·exact .inr ⟨⟨m,hm,rfl⟩,by simpa using h⟩
theorem i5:∀ns:List Nd,(eO ns).Nodup
 |[]=>cb
 |n::ns=>by
  rw[eO,aX];exact⟨fun h=>by simpa using (aS.mp h).2,(i5 ns).sublist List.filter_sublist⟩
def eg.start (c:eg):List Str:=eO c.sn
def eg.isP (c:eg)(m:Nat)(x:Str):Prop:=∃j,c.has m j∧j.1=x
inductive eg.Named (c:eg)(m:Nat):Pk→Prop
 |start {k:Pk}:c.has m k→k.1∈(c.needs none).map (·.1)→c.Named m k
 |next {j k:Pk}:c.Named m j→c.has m k→k.1∈(c.needs (some j)).map (·.1)→c.Named m k
structure iC (c:eg)(L:ij)(s:Sd):Prop where
 pl:s.picked<2^c.n
 dl:s.dead<2^c.n
 just:∀k,c.has s.dead k→c.Kr L s.picked k
 sup:∀k∈c.ks,(c.Km none k∨c.foe k k∨∃j,c.has s.picked j∧c.foe k j)→c.has s.dead k
 off:∀k,c.has s.dead k→¬c.has s.picked k
 one:c.Kp s.picked
 named:∀k,c.has s.picked k→c.Named s.picked k
 wk:(s.wanted.map (·.1)).Nodup
 w1:∀x w,(x,w)∈s.wanted→¬c.isP s.picked x∧c.Ko s.picked w∧x∈(c.needs w).map (·.1)
 w2:∀w,c.Ko s.picked w→∀n∈c.needs w,c.isP s.picked n.1∨n.1∈s.wanted.map (·.1)
 ws:∀(i j:Nat) (x y:Str),(s.wanted.map (·.1))[i]?=some x→(s.wanted.map (·.1))[j]?=some y→y∈c.start→i<j→x∈c.start∧c.start.idxOf x<c.start.idxOf y
theorem iC.led {c:eg}(h:iC c L s)(hL:∀e∈L,e∈L'):iC c L' s:=⟨h.pl,h.dl,fun k hk=>eg.Kr.mono (h.just k hk) hL fun _ z=>z,h.sup,h.off,h.one,h.named,h.wk,h.w1,h.w2,h.ws⟩
theorem iC.bar {c:eg}(h:iC c L s){k:Pk}(b:k∈c.ks)(g:¬c.has s.picked k)(d:c.Kq L s.picked k):iC c L {s with dead:=s.dead ||| c.bit k}:=by
 refine⟨h.pl,i6 h.dl (c.Kf b),fun j a=>?_,fun j a e=>eg.Ka.mpr (.inl (h.sup j a e)),fun j a=>?_,h.one,h.named,h.wk,h.w1,h.w2,h.ws⟩
 ·rcases eg.Ka.mp a with y | y
  ·exact h.just j y
  ·rw[(eg.Kd b).mp y];exact .inr (.inr (.inr d))
 ·rcases eg.Ka.mp a with y | y
  ·exact h.off j y
  ·rw[(eg.Kd b).mp y];exact g
structure Fk where
 part:Str
 sd:Sd
 bit:Option Pk
def eg.Rule (c:eg)(x:Str)(s:Sd):Prop:=
 (x∈c.start∧∀y∈c.start,c.start.idxOf y<c.start.idxOf x→c.isP s.picked y)∨(∀j j',j∈c.ks→j'∈c.ks→j.1=x→j'.1=x→¬c.has s.dead j→¬c.has s.dead j'→j=j')∨∀y∈c.start,c.isP s.picked y
structure j5 (c:eg)(f:Fk):Prop where
 open_:f.part∈f.sd.wanted.map (·.1)
 rule:c.Rule f.part f.sd
 bit:∀k,f.bit=some k→k∈c.ks∧k.1=f.part∧∀j∈c.ks,j.1=f.part→k.2<j.2→c.has f.sd.dead j
def eg.Ks (c:eg)(f:Fk)(s:Sd):Prop:=∃k,f.bit=some k∧s.picked=f.sd.picked ||| c.bit k∧∀j,c.has f.sd.dead j→c.has s.dead j
inductive fG (c:eg)(L:ij):List Fk→Sd→Prop
 |nil {s:Sd}:s.picked=0→iC c L s→fG c L [] s
 |cons {f:Fk} {F:List Fk} {s:Sd}:fG c L F f.sd→j5 c f→c.Ks f s→iC c L s→fG c L (f::F) s
theorem fG.sd {c:eg}(h:fG c L F s):iC c L s:=by
 cases h with
 |nil _ h=>exact h
 |cons _ _ _ h=>exact h
theorem fG.led {c:eg}(a:∀e∈L,e∈L')(h:fG c L F s):fG c L' F s:=by
 induction h with
 |nil h1 h2=>exact .nil h1 (h2.led a)
 |cons _ h2 h3 h4 ih=>exact .cons ih h2 h3 (h4.led a)
theorem j5.out {c:eg}{f:Fk}(h:j5 c f)(a:iC c L f.sd):¬c.isP f.sd.picked f.part:=by
 obtain⟨⟨x,w⟩,b,e⟩:=aA.mp h.open_;have:=(a.w1 x w b).1;rw[show f.part=x from e.symm];exact this
theorem j5.Kt {c:eg}{f:Fk}{k:Pk}(h:j5 c f)(hs:iC c L f.sd)(hk:f.bit=some k):¬c.has f.sd.picked k:=fun z=>h.out hs ⟨k,z,(h.bit k hk).2.1⟩
theorem fG.sub {c:eg}(h:fG c L F s):∀g∈F,(∀j,c.has g.sd.picked j→c.has s.picked j)∧(∀j,c.has g.sd.dead j→c.has s.dead j)∧∀k,g.bit=some k→c.has s.picked k:=by
 induction h with
 |nil _ _=>intro g hg;cases hg
 |@cons f F s h1 h2 h3 h4 ih=>
  obtain⟨k,i,hp,e⟩:=h3;intro g hg;have d:=(h2.bit k i).1;rcases am.mp hg with rfl | hg
  ·refine⟨fun j b=>by rw[hp];exact eg.Ka.mpr (.inl b),e,fun l a=>?_⟩;rw[i]at a;cases a;rw[hp];exact eg.Ka.mpr (.inr ((eg.Kd d).mpr rfl))
  ·obtain⟨m,p,o⟩:=ih g hg;refine⟨fun j b=>by rw[hp];exact eg.Ka.mpr (.inl (m j b)),fun j b=>e j (p j b),fun l a=>by rw[hp];exact eg.Ka.mpr (.inl (o l a))⟩
theorem fG.from {c:eg}(h:fG c L F s):∀j,c.has s.picked j→∃g∈F,g.bit=some j:=by
 induction h with
 |nil h1 _=>intro j a;rw[h1]at a;exact(eg.Ke a).elim
 |@cons f F s h1 h2 h3 h4 ih=>
  obtain⟨k,d,hp,i⟩:=h3;intro j a;rw[hp]at a;rcases eg.Ka.mp a with y | y
  ·obtain⟨g,e,b⟩:=ih j y;exact⟨g,by simp[e],b⟩
  ·rw[(eg.Kd (h2.bit k d).1).mp y];exact⟨f,by simp,d⟩
theorem fG.live {c:eg}(h:fG c L F s):∀g∈F,∀k,g.bit=some k→¬c.has g.sd.dead k:=fun g hg k hk z=>by
 obtain⟨_,h2,h3⟩:=h.sub g hg;exact h.sd.off k (h2 k z) (h3 k hk)
theorem fG.to {c:eg}(h:fG c L F s):∀{A:List Fk} {g:Fk} {B:List Fk},F=A++g::B→fG c L B g.sd∧j5 c g:=by
 induction h with
 |nil _ _=>intro A g B e;simp at e
 |@cons f F s h1 h2 h3 h4 ih=>
  intro A g B e;cases A with
  |nil=>
   rw[dL]at e;cases e;exact⟨h1,h2⟩
  |cons a A=>
   rw[dh]at e;injection e with d b
   exact ih b
def eg.Ku (c:eg)(k:Pk)(m:Nat)(s:Sd):Sd:=if ii (ii m (c.bit k)) s.picked=0 then {s with dead:=s.dead ||| c.bit k} else s
def eg.Kv (c:eg)(k:Pk)(m:Nat)(f:Fk):Fk:={f with sd:=c.Ku k m f.sd}
theorem eg.Kw (c:eg)(k:Pk)(m:Nat)(s:Sd):(c.Ku k m s).picked=s.picked:=by unfold eg.Ku;split <;> rfl
theorem eg.Kx (c:eg)(k:Pk)(m:Nat)(s:Sd):(c.Ku k m s).wanted=s.wanted:=by unfold eg.Ku;split <;> rfl
theorem eg.Ky {c:eg}{k:Pk}(h:c.has s.dead j):c.has (c.Ku k m s).dead j:=by
 unfold eg.Ku
 split
 ·exact eg.Ka.mpr (.inl h)
 ·exact h
theorem eg.Kz {c:eg}{k:Pk}(a:k∈c.ks)(h:c.has (c.Ku k m s).dead j):c.has s.dead j∨j=k:=by
 unfold eg.Ku at h
 split at h
 ·exact(eg.Ka.mp h).imp id (eg.Kd a).mp
 ·exact .inl h
theorem eg.KA {c:eg}{k:Pk}(b:k∈c.ks)(d:m<2^c.n):ii (ii m (c.bit k)) s.picked=0↔∀j,c.has m j→j=k∨c.has s.picked j:=by
 constructor
 ·intro h j a;by_cases e:j=k
  ·exact .inl e
  ·refine .inr (Decidable.byContradiction fun z=>?_);have:c.has (ii (ii m (c.bit k)) s.picked) j:=eg.Kc.mpr ⟨eg.Kc.mpr ⟨a,fun y=>e ((eg.Kd b).mp y)⟩,z⟩;rw[h]at this;exact eg.Ke this
 ·intro h;refine eg.Kg (jo (jo d)) fun j a=>?_;obtain⟨h1,h2⟩:=eg.Kc.mp a;obtain⟨i,g⟩:=eg.Kc.mp h1;rcases h j i with y | y
  ·exact g ((eg.Kd b).mpr y)
  ·exact h2 y
theorem iC.Ku {c:eg}(h:iC c L s){k:Pk}{e:Nat×Rs}(b:k∈c.ks)(g:e∈L)(d:e.1<2^c.n)(a:c.has e.1 k)(i:¬c.has s.picked k):iC c L (c.Ku k e.1 s):=by
 unfold eg.Ku
 split
 ·next z=>exact h.bar b i ⟨e,g,a,(eg.KA b d).mp z⟩
 ·exact h
theorem Rule.Ku {c:eg}{k:Pk}(h:c.Rule x s):c.Rule x (c.Ku k m s):=by
 unfold eg.Rule at *;rw[eg.Kw];rcases h with h | h | h
 ·exact .inl h
 ·exact .inr (.inl fun j j' b d e a g i=>h j j' b d e a (fun z=>g (eg.Ky z)) fun z=>i (eg.Ky z))
 ·exact .inr (.inr h)
theorem j5.Kv {c:eg}{f:Fk}{k:Pk}(h:j5 c f):j5 c (c.Kv k m f):=by
 refine⟨?_,Rule.Ku h.rule,fun j a=>?_⟩
 ·show f.part∈(c.Ku k m f.sd).wanted.map (·.1);rw[eg.Kx];exact h.open_
 ·obtain⟨h1,h2,e⟩:=h.bit j a;exact⟨h1,h2,fun i b d g=>eg.Ky (e i b d g)⟩
theorem fG.Kv {c:eg}(h:fG c L F s){k:Pk}{e:Nat×Rs}(b:k∈c.ks)(t:e∈L)(l:e.1<2^c.n)(d:c.has e.1 k):¬c.has s.picked k→fG c L (F.map (c.Kv k e.1)) (c.Ku k e.1 s):=by
 induction h with
 |@nil s h1 h2=>exact fun g=>.nil (by rw[eg.Kw];exact h1) (h2.Ku b t l d g)
 |@cons f F s h1 h2 h3 h4 ih=>
  intro g;obtain⟨x,q,hp,v⟩:=h3;have m:¬c.has f.sd.picked k:=fun z=>g (by rw[hp];exact eg.Ka.mpr (.inl z));refine .cons (ih m) h2.Kv ⟨x,q,?_,fun j r=>?_⟩ (h4.Ku b t l d g)
  ·rw[eg.Kw,hp];show _=(c.Ku k e.1 f.sd).picked ||| _;rw[eg.Kw]
  ·by_cases hj2:c.has f.sd.dead j
   ·exact eg.Ky (v j hj2)
   ·have w:ii (ii e.1 (c.bit k)) f.sd.picked=0:=Decidable.byContradiction fun z=>by
     have a:c.has (c.Ku k e.1 f.sd).dead j:=r;unfold eg.Ku at a;rw[if_neg z]at a;exact hj2 a
    have o:j=k:=(eg.Kz b r).elim (fun z=>absurd z hj2) id;have p:ii (ii e.1 (c.bit k)) s.picked=0:=(eg.KA b l).mpr fun i hi=>((eg.KA b l).mp w i hi).imp id fun z=>by rw[hp];exact eg.Ka.mpr (.inl z)
    unfold eg.Ku;rw[if_pos p,o];exact eg.Ka.mpr (.inr ((eg.Kd b).mpr rfl))
def eg.left (c:eg)(x:Str)(s:Sd):List Pk:=c.ks.filter fun k=>decide (k.1=x)&&!decide (c.has s.dead k)
theorem eg.KB {c:eg}{k:Pk}:k∈c.left x s↔k∈c.ks∧k.1=x∧¬c.has s.dead k:=by
 unfold eg.left;rw[aS,aB,aw,bQ,decide_eq_false_iff_not]
def eg.cnt (c:eg)(f:Fk):Nat:=(c.left f.part f.sd).length
theorem eg.KC (c:eg)(f:Fk):c.cnt f≤c.n:=bz _ _
def eg.mv (c:eg):Nat→List Fk→Nat
 |0,_=>0
 |d+1,[]=>(c.n+1)*(c.n+2)^d+c.mv d []
 |d+1,f::F=>c.cnt f*(c.n+2)^d+c.mv d F
theorem eg.KD (c:eg):∀(d:Nat) (F:List Fk),c.mv d F<(c.n+2)^d
 |0,_=>by unfold eg.mv;exact Nat.one_pos
 |d+1,[]=>by
  have:=eg.KD c d [];unfold eg.mv;rw[cO,Nat.mul_comm ((c.n+2)^d),show c.n+2=(c.n+1)+1 from rfl,Nat.add_mul ((c.n+1))];rw[show c.n+1+1=c.n+2 from rfl]
  lia
 |d+1,f::F=>by
  have h1:=eg.KD c d F;have h2:=c.KC f;have h3:c.cnt f*(c.n+2)^d≤(c.n+1)*(c.n+2)^d:=dJ _ (by lia);unfold eg.mv;rw[cO,Nat.mul_comm ((c.n+2)^d),show c.n+2=(c.n+1)+1 from rfl,Nat.add_mul ((c.n+1))];rw[show c.n+1+1=c.n+2 from rfl]
  lia
theorem eg.KF (c:eg)(g:Fk):∀(d:Nat) (F:List Fk),F.length<d→c.mv d (F++[g])<c.mv d F
 |0,_,h=>absurd h (ce _)
 |d+1,[],_=>by
  have h2:=c.KC g;have h3:c.cnt g*(c.n+2)^d+(c.n+2)^d≤(c.n+1)*(c.n+2)^d:=by
   rw[←Nat.succ_mul];exact dJ _ (by lia)
  have b:0<(c.n+2)^d:=Nat.pow_pos (by lia);show c.cnt g*(c.n+2)^d+c.mv d []<(c.n+1)*(c.n+2)^d+c.mv d []
  lia
 |d+1,f::F,h=>by
  have a:=eg.KF c g d F (by rw[aC]at h;lia);show c.cnt f*(c.n+2)^d+c.mv d (F++[g])<c.cnt f*(c.n+2)^d+c.mv d F
  lia
theorem eg.KG (c:eg){f g:Fk}{B:List Fk}(b:c.cnt g<c.cnt f):∀(d:Nat) (A A':List Fk),A'.length=A.length→(∀(i:Nat) (a a':Fk),A[i]?=some a→A'[i]?=some a'→c.cnt a'≤c.cnt a)→A.length<d→c.mv d (A'++[g])<c.mv d (A++f::B)
 |0,_,_,_,_,h=>absurd h (ce _)
 |d+1,[],A',h1,_,_=>by
  have:A'=[]:=bO.mp h1;subst this;have h2:=eg.KD c d [];have h3:c.cnt g*(c.n+2)^d+(c.n+2)^d≤c.cnt f*(c.n+2)^d:=by
   rw[←Nat.succ_mul];exact dJ _ b
  show c.cnt g*(c.n+2)^d+c.mv d []<c.cnt f*(c.n+2)^d+c.mv d B
  lia
 |d+1,a::A,A',h1,h2,h3=>by
  cases A' with
  |nil=>simp at h1
  |cons a' A'=>
   have m:=eg.KG c b (B:=B) d A A' (by simpa using h1) (fun i x l e j=>h2 (i+1) x l (by simpa using e) (by simpa using j)) (by rw[aC]at h3;lia);have o:=dJ ((c.n+2)^d) (h2 0 a a' rfl rfl);show c.cnt a'*(c.n+2)^d+c.mv d (A'++[g])<c.cnt a*(c.n+2)^d+c.mv d (A++f::B)
   lia
theorem AU (k j:Str×Int):PyData.eqv (ku k) (ku j)=decide (k=j):=by
 obtain⟨a,b⟩:=k;obtain⟨c,d⟩:=j;have e:PyData.eqv (ku (a,b)) (ku (c,d))=((a == c)&&((b == d)&&true)):=by
  simp[ku,PyData.eqv,PyData.eqvAll]
 rw[e,Bool.and_true];by_cases h1:a=c
 ·subst h1;by_cases h2:b=d
  ·subst h2;rw[aq rfl];simp
  ·rw[ar (fun z=>h2 (Prod.mk.inj z).2)];simp[h2]
 ·rw[ar (fun z=>h1 (Prod.mk.inj z).1)];have g:(a == c)=false:=beq_false_of_ne h1;rw[g,bY]
theorem li (k:Str×Int):∀ks:List (Str×Int),((ks.map ku).any fun z=>PyData.eqv z (ku k))=decide (k∈ks)
 |[]=>by simp
 |j::ks=>by
  rw[aD,List.any_cons,AU,li k ks];by_cases h:j=k
  ·subst h;simp
  ·rw[ar h,Bool.false_or];have:(k∈j::ks)↔k∈ks:=by
    rw[am];exact⟨fun z=>z.resolve_left fun y=>h y.symm,.inr⟩
   simp only[this]
theorem iF {k:Str×Int}(h:fR k.1):(ku k).canLay0=true∧(ku k).depth≤60:=by
 have z:=ww 1 (ku k) (by simp[ku,kY,h.ok]);exact⟨z.1,by lia⟩
theorem jA:∀{ks:List (Str×Int)},(∀k∈ks,fR k.1)→PyData.canLayAll0 (ks.map ku)=true
 |[],_=>rfl
 |k::ks,h=>by
  rw[aD,PyData.canLayAll0,(iF (h k (by simp))).1,jA fun j hj=>h j (by simp[hj])];rfl
theorem kF {α:Type} [DecidableEq α]:∀{l m:List α},l.Nodup→(∀x∈l,x∈m)→l.length≤m.length
 |[],_,_,_=>bp _
 |x::l,m,hn,hs=>by
  rw[aX]at hn;have hx:x∈m:=hs x (by simp);have ih:l.length≤(m.erase x).length:=kF hn.2 fun y hy=>by
   refine(List.mem_erase_of_ne ?_).mpr (hs y (by simp[hy]));intro e;subst e;exact hn.1 hy
  have:=List.length_erase_of_mem hx;have:=List.length_pos_of_mem hx;rw[aC]
  lia
theorem fG.bits {c:eg}(h:fG c L F s):∃ps:List Pk,ps.length=F.length∧ps.Nodup∧∀k∈ps,c.has s.picked k:=by
 induction h with
 |nil _ _=>exact⟨[],rfl,cb,fun k a=>nomatch a⟩
 |@cons f F s h1 h2 h3 h4 ih=>
  obtain⟨k,a,hp,g⟩:=h3;obtain⟨ps,d,e,b⟩:=ih;refine⟨k::ps,by rw[aC,aC,d],aX.mpr ⟨fun z=>h2.Kt h1.sd a (b k z),e⟩,fun j hj=>?_⟩;rw[hp];rcases am.mp hj with rfl | hj
  ·exact eg.Ka.mpr (.inr ((eg.Kd (h2.bit j a).1).mpr rfl))
  ·exact eg.Ka.mpr (.inl (b j hj))
theorem fG.depth {c:eg}(h:fG c L F s):F.length≤c.n:=by
 obtain⟨ps,b,e,d⟩:=h.bits;rw[←b];exact kF e fun k a=>(d k a).1
def eg.KH (c:eg)(wanted:List (Str×Option Pk))(w:Option Pk)(pm:Nat)(g:List (Str×Option Pk)):Prop:=
 ∃E:List Str,g.map (·.1)=wanted.map (·.1)++E∧E.Sublist (eO (c.needs w))∧(∀x∈E,¬c.isP pm x∧x∉wanted.map (·.1))∧(∀x∈eO (c.needs w),c.isP pm x∨x∈wanted.map (·.1)∨x∈E)∧
  ∀x u,(x,u)∈g→(x,u)∈wanted∨(u=w∧x∈eO (c.needs w)∧¬c.isP pm x)
theorem iV {ns:List Nd}:x∈eO ns↔x∈ns.map (·.1):=by
 rw[gT,aA]
theorem sO {α:Type} [DecidableEq α] {a b:α}{l:List α}(h:¬a=b):(a::l).idxOf b=l.idxOf b+1:=by
 rw[List.idxOf_cons];have:(a == b)=false:=by simpa using h
 rw[this];rfl
theorem sN {α:Type} [DecidableEq α]:∀{E P:List α},P.Nodup→E.Sublist P→∀(i j:Nat) (x y:α),E[i]?=some x→E[j]?=some y→i<j→P.idxOf x<P.idxOf y
 |_,_,_,.slnil,i,j,x,y,hx,_,_=>by simp at hx
 |E,p::P,hn,.cons _ h,i,j,x,y,hx,hy,hij=>by
  rw[aX]at hn;have hxp:¬p=x:=fun e=>hn.1 (e▸h.subset (ai hx));have hyp:¬p=y:=fun e=>hn.1 (e▸h.subset (ai hy));rw[sO hxp,sO hyp];exact Nat.succ_lt_succ (sN hn.2 h i j x y hx hy hij)
 |e::E,_::P,hn,.cons₂ _ h,i,j,x,y,hx,hy,hij=>by
  rw[aX]at hn;cases j with
  |zero=>exact absurd hij (ce _)
  |succ j=>
   have hy':E[j]?=some y:=by simpa using hy
   have hyp:¬e=y:=fun z=>hn.1 (z▸h.subset (ai hy'));rw[sO hyp];cases i with
   |zero=>
    have:e=x:=by simpa using hx
    subst this;rw[cB]
    lia
   |succ i=>
    have a:E[i]?=some x:=by simpa using hx
    have hxp:¬e=x:=fun z=>hn.1 (z▸h.subset (ai a));rw[sO hxp];exact Nat.succ_lt_succ (sN hn.2 h i j x y a hy' (by lia))
theorem ve {c:eg}{d:Nat}{g:List (Str×Option Pk)}(t:d<2^c.n)(m:∀k,c.has d k↔k∈c.ks∧(c.Km none k∨c.foe k k))(F:c.KH [] none 0 g):iC c L ⟨0,d,g⟩:=by
 obtain⟨E,h,l,I,G,A⟩:=F;rw[cQ,dL]at h;have a:∀k,¬c.has 0 k:=fun k=>eg.Ke;have e:∀x,¬c.isP 0 x:=(by rintro x ⟨j,m,_⟩;exact a j m)
 have s:∀x,x∈E↔x∈eO (c.needs none):=fun x=>⟨fun z=>l.subset z,fun z=>by
  rcases G x z with y | y | y
  ·exact(e x y).elim
  ·cases y
  ·exact y⟩
 refine⟨bL _,t,fun k r=>?_,fun k r C=>(m k).mpr ⟨r,?_⟩,fun k _=>a k,fun j k z=>(a j z).elim,fun k z=>(a k z).elim,?_,fun x w q=>?_,fun w v n D=>?_,fun i j x y q B H p=>?_⟩
 ·rcases ((m k).mp r).2 with y | y
  ·exact .inl y
  ·exact .inr (.inl y)
 ·rcases C with y | y | ⟨j,y,_⟩
  ·exact .inl y
  ·exact .inr y
  ·exact(a j y).elim
 ·show(g.map (·.1)).Nodup;rw[h];exact(i5 _).sublist l
 ·rcases A x w q with y | ⟨rfl,y,_⟩
  ·cases y
  ·exact⟨e x,trivial,iV.mp y⟩
 ·cases w with
  |some k=>exact(a k v).elim
  |none=>
   right
   show n.1∈g.map (·.1);rw[h,s];exact gT.mpr ⟨n,D,rfl⟩
 ·have b:E[i]?=some x:=by rw[←h];exact q
  have o:E[j]?=some y:=by rw[←h];exact B
  exact⟨l.subset (ai b),sN (i5 _) l i j x y b o p⟩
theorem Named.mono {c:eg}(a:∀j,c.has m j→c.has m' j){k:Pk}(h:c.Named m k):c.Named m' k:=by
 induction h with
 |start h1 h2=>exact .start (a _ h1) h2
 |next _ h2 h3 ih=>exact .next ih (a _ h2) h3
theorem ke {α:Type}{p:α→Bool}:∀{xs:List α} {i j:Nat} {x y:α},(xs.filter p)[i]?=some x→(xs.filter p)[j]?=some y→i<j→∃i' j':Nat,xs[i']?=some x∧xs[j']?=some y∧i'<j'
 |[],i,j,x,y,hx,_,_=>by simp at hx
 |a::xs,i,j,x,y,hx,hy,hij=>by
  by_cases ha:p a=true
  ·rw[aH,if_pos ha]at hx hy;cases j with
   |zero=>exact absurd hij (ce _)
   |succ j=>
    have hy':(xs.filter p)[j]?=some y:=by simpa using hy
    cases i with
    |zero=>
     have e:a=x:=by simpa using hx
     obtain⟨j',d⟩:=ax.mp (aS.mp (ai hy')).1;exact⟨0,j'+1,by simpa using e,by simpa using d,by lia⟩
    |succ i=>
     have b:(xs.filter p)[i]?=some x:=by simpa using hx
     obtain⟨i',j',h1,h2,g⟩:=ke b hy' (by lia);exact⟨i'+1,j'+1,by simpa using h1,by simpa using h2,by lia⟩
  ·rw[aH,if_neg ha]at hx hy;obtain⟨i',j',h1,h2,g⟩:=ke hx hy hij;exact⟨i'+1,j'+1,by simpa using h1,by simpa using h2,by lia⟩
theorem zd {c:eg}{f:Fk}{k:Pk}{d:Nat}{g:List (Str×Option Pk)}(o:iC c L f.sd)(hf:j5 c f)(O:k∈c.ks)(p:k.1=f.part)(B:¬c.has f.sd.dead k)(hd:d<2^c.n)(C:∀j,c.has f.sd.dead j→c.has d j)(aa:∀j∈c.ks,c.foe k j→c.has d j)(G:∀j,c.has d j→c.has f.sd.dead j∨c.foe k j∨(c.Kq L (f.sd.picked ||| c.bit k) j∧¬c.has (f.sd.picked ||| c.bit k) j))(hg:c.KH f.sd.wanted (some k) (f.sd.picked ||| c.bit k) g):iC c L ⟨f.sd.picked ||| c.bit k,d,g.filter fun xu=>!decide (xu.1=f.part)⟩:=by
 obtain⟨E,M,e2,e3,e4,e5⟩:=hg;have s:=hf.out o;have h:∀j,c.has (f.sd.picked ||| c.bit k) j↔c.has f.sd.picked j∨j=k:=fun j=>by rw[eg.Ka,eg.Kd O]
 have ah:¬c.has f.sd.picked k:=fun z=>s ⟨k,z,p⟩;have T:∀j,c.has f.sd.picked j→¬c.foe k j:=fun j l z=>B (o.sup k O (.inr (.inr ⟨j,l,z⟩)));have U:¬c.foe k k:=fun z=>B (o.sup k O (.inr (.inl z)));have v:∀x,c.isP (f.sd.picked ||| c.bit k) x↔c.isP f.sd.picked x∨x=f.part:=fun x=>by
  constructor
  ·rintro⟨j,l,rfl⟩;rcases (h j).mp l with y | rfl
   ·exact .inl ⟨j,y,rfl⟩
   ·exact .inr p
  ·rintro(⟨j,l,rfl⟩ | rfl)
   ·exact⟨j,(h j).mpr (.inl l),rfl⟩
   ·exact⟨k,(h k).mpr (.inr rfl),p⟩
 have t:(g.filter fun xu=>!decide (xu.1=f.part)).map (·.1)=(g.map (·.1)).filter fun x=>!decide (x=f.part):=by rw[List.filter_map];rfl
 refine⟨i6 o.pl (c.Kf O),hd,fun j l=>?_,fun j l ad=>?_,fun j l z=>?_,fun i j hi l e=>?_,fun j l=>?_,?_,fun x w K=>?_,fun w hw m hm=>?_,fun i j x y K hy H S=>?_⟩
 ·rcases G j l with y | y | ⟨y,_⟩
  ·exact eg.Kr.mono (o.just j y) (fun _ z=>z) fun i hi=>(h i).mpr (.inl hi)
  ·exact .inr (.inr (.inl ⟨k,(h k).mpr (.inr rfl),eg.Kn y⟩))
  ·exact .inr (.inr (.inr y))
 ·rcases ad with y | y | ⟨i,hi,y⟩
  ·exact C j (o.sup j l (.inl y))
  ·exact C j (o.sup j l (.inr (.inl y)))
  ·rcases (h i).mp hi with z | rfl
   ·exact C j (o.sup j l (.inr (.inr ⟨i,z,y⟩)))
   ·exact aa j l (eg.Kn y)
 ·rcases G j l with y | y | ⟨_,y⟩
  ·rcases (h j).mp z with u | rfl
   ·exact o.off j y u
   ·exact B y
  ·rcases (h j).mp z with u | rfl
   ·exact T j u y
   ·exact U y
  ·exact y z
 ·rcases (h i).mp hi with y | rfl
  ·rcases (h j).mp l with z | rfl
   ·exact o.one i j y z e
   ·exact(s ⟨i,y,by rw[e,p]⟩).elim
  ·rcases (h j).mp l with z | rfl
   ·exact(s ⟨j,z,by rw[←e,p]⟩).elim
   ·rfl
 ·have A:∀i,c.has f.sd.picked i→c.has (f.sd.picked ||| c.bit k) i:=fun i hi=>(h i).mpr (.inl hi);rcases (h j).mp l with y | rfl
  ·exact Named.mono A (o.named j y)
  ·obtain⟨⟨x,w⟩,K,ex⟩:=aA.mp hf.open_;obtain⟨_,h2,J⟩:=o.w1 x w K;have ex':x=f.part:=ex;rw[ex',←p]at J;cases w with
   |none=>exact .start l J
   |some q=>exact .next (Named.mono A (o.named q h2)) l J
 ·show((g.filter fun xu=>!decide (xu.1=f.part)).map (·.1)).Nodup;rw[t,M];refine List.Nodup.sublist List.filter_sublist (bM.mpr ⟨o.wk,(i5 _).sublist e2,fun a ha b hb e=>?_⟩);exact(e3 b hb).2 (e▸ha)
 ·obtain⟨Z,Q⟩:=aS.mp K;have D:¬x=f.part:=by simpa using Q
  rcases e5 x w Z with y | ⟨rfl,y,z⟩
  ·obtain⟨h1,h2,J⟩:=o.w1 x w y;refine⟨fun z=>?_,?_,J⟩
   ·rcases (v x).mp z with u | u
    ·exact h1 u
    ·exact D u
   ·cases w with
    |none=>trivial
    |some q=>exact(h q).mpr (.inl h2)
  ·exact⟨z,(h k).mpr (.inr rfl),iV.mp y⟩
 ·show c.isP (f.sd.picked ||| c.bit k) m.1∨m.1∈(g.filter fun xu=>!decide (xu.1=f.part)).map (·.1);by_cases hmp:m.1=f.part
  ·exact .inl ((v m.1).mpr (.inr hmp))
  ·have r:m.1∈g.map (·.1)→m.1∈(g.filter fun xu=>!decide (xu.1=f.part)).map (·.1):=fun z=>by
    rw[t];exact aS.mpr ⟨z,by simpa using hmp⟩
   have old:c.Ko f.sd.picked w→c.isP (f.sd.picked ||| c.bit k) m.1∨m.1∈(g.filter fun xu=>!decide (xu.1=f.part)).map (·.1):=fun R=>by
    rcases o.w2 w R m hm with y | y
    ·exact .inl ((v m.1).mpr (.inl y))
    ·exact .inr (r (by rw[M];exact aO _ y))
   cases w with
   |none=>exact old trivial
   |some q=>
    rcases (h q).mp hw with y | rfl
    ·exact old y
    ·rcases e4 m.1 (gT.mpr ⟨m,hm,rfl⟩) with y | y | y
     ·exact .inl y
     ·exact .inr (r (by rw[M];exact aO _ y))
     ·exact .inr (r (by rw[M];exact aK _ y))
 ·have P:((g.map (·.1)).filter fun x=>!decide (x=f.part))[i]?=some x:=by rw[←t];exact K
  have ag:((g.map (·.1)).filter fun x=>!decide (x=f.part))[j]?=some y:=by rw[←t];exact hy
  obtain⟨i',j',a1,N,a3⟩:=ke P ag S;rw[M]at a1 N;have X:j'<(f.sd.wanted.map (·.1)).length:=Nat.lt_of_not_le fun z=>by
   rw[aU z]at N;have Y:=ai N;have I:=e3 y Y;obtain⟨n,hn,F⟩:=gT.mp H;rcases o.w2 none trivial n hn with u | u
   ·rw[F]at u;exact I.1 ((v y).mpr (.inl u))
   ·rw[F]at u;exact I.2 u
  rw[aI X]at N;rw[aI (by lia)]at a1;exact o.ws i' j' x y a1 N H a3
theorem su {c:eg}{first:Str}(i:iC c L s)(g:(s.wanted.map (·.1))[0]?=some first)(r:(x=first∧first∈c.start)∨first∉c.start∨(c.left x s).length≤1):c.Rule x s:=by
 rcases r with ⟨rfl,hf⟩ | hf | hl
 ·refine .inl ⟨hf,fun y e m=>?_⟩;obtain⟨n,o,b⟩:=gT.mp e;rcases i.w2 none trivial n o with u | u
  ·rw[b]at u;exact u
  ·rw[b]at u;obtain⟨j,d⟩:=ax.mp u;rcases dM j with rfl | hp
   ·rw[g]at d;cases d;exact absurd m (cG _)
   ·have:=(i.ws 0 j x y g d e hp).2
    lia
 ·refine .inr (.inr fun y e=>?_);obtain⟨n,o,b⟩:=gT.mp e;rcases i.w2 none trivial n o with u | u
  ·rw[b]at u;exact u
  ·rw[b]at u;obtain⟨j,d⟩:=ax.mp u;rcases dM j with rfl | hp
   ·rw[g]at d;cases d;exact absurd e hf
   ·exact absurd (i.ws 0 j first y g d e hp).1 hf
 ·refine .inr (.inl fun j j' v w z q A t=>?_);have h:=eg.KB.mpr ⟨v,z,A⟩;have p:=eg.KB.mpr ⟨w,q,t⟩;cases hl2:c.left x s with
  |nil=>rw[hl2]at h;cases h
  |cons a l=>
   rw[hl2]at h p hl;have:l=[]:=by
    rw[aC]at hl;exact bO.mp (by lia)
   subst this;rw[aj.mp h,aj.mp p]
def eg.stop (c:eg)(m:Nat)(f:Fk):Bool:=match f.bit with
 |none=>false
 |some k=>decide (c.has m k)
theorem De {c:eg}:∀{F:List Fk} {s:Sd},fG c L F s→(∀j,c.has m j→c.has s.picked j)→((F.dropWhile fun f=>!c.stop m f)=[]∧∀j,¬c.has m j)∨∃A g B k,F=A++g::B∧(F.dropWhile fun f=>!c.stop m f)=g::B∧g.bit=some k∧c.has m k∧(∀j,c.has m j→j=k∨c.has g.sd.picked j)∧fG c L B g.sd∧j5 c g∧¬c.has g.sd.dead k:=by
 intro F s h
 induction h with
 |nil h1 _=>exact fun p=>.inl ⟨rfl,fun j a=>by have:=p j a;rw[h1]at this;exact eg.Ke this⟩
 |@cons f F s h1 h2 h3 h4 ih=>
  obtain⟨k,l,hp,q⟩:=h3;have i:=(h2.bit k l).1;intro p;have b:¬c.has f.sd.dead k:=fun z=>h4.off k (q k z) (by rw[hp];exact eg.Ka.mpr (.inr ((eg.Kd i).mpr rfl)));have d:∀j,c.has m j→c.has f.sd.picked j∨j=k:=fun j a=>by
   have:=p j a;rw[hp]at this;exact(eg.Ka.mp this).imp id (eg.Kd i).mp
  by_cases hst:c.has m k
  ·refine .inr ⟨[],f,F,k,rfl,?_,l,hst,fun j a=>(d j a).symm,h1,h2,b⟩;rw[List.dropWhile_cons_of_neg];unfold eg.stop;rw[l];simp[hst]
  ·have o:∀j,c.has m j→c.has f.sd.picked j:=fun j a=>(d j a).elim id fun e=>absurd (e▸a) hst;have w:((f::F).dropWhile fun f=>!c.stop m f)=F.dropWhile fun f=>!c.stop m f:=by
    rw[List.dropWhile_cons_of_pos];unfold eg.stop;rw[l];simp[hst]
   rw[w];rcases ih o with y | ⟨A,g,B,G,x,H,C,E,r,D,t,v⟩
   ·exact .inl y
   ·exact .inr ⟨f::A,g,B,G,by rw[x];rfl,H,C,E,r,D,t,v⟩
theorem wI:∀a b:Nat,ii a b+(a &&& b)=a:=by
 intro a
 induction a using Nat.strongRecOn with
 |_ a ih=>
  intro b;by_cases h0:a=0
  ·subst h0;simp[ii]
  ·have h1:=ih (a / 2) (by lia) (b / 2);have i:ii a b / 2=ii (a / 2) (b / 2):=by unfold ii;rw[Nat.xor_div_two,Nat.and_div_two]
   have g:(a &&& b) / 2=a / 2 &&& b / 2:=Nat.and_div_two;have e:=nR a b 0;have d:=Nat.testBit_and a b 0;simp only[Nat.testBit_zero]at e d;rw[←i,←g]at h1;have h:(ii a b % 2=1)↔(a % 2=1∧¬b % 2=1):=by
    have:=congrArg (·=true) e;simpa using this
   have p2:((a &&& b) % 2=1)↔(a % 2=1∧b % 2=1):=by
    have:=congrArg (·=true) d;simpa using this
   generalize ii a b=x at *;generalize (a &&& b)=y at *;by_cases ea:a % 2=1 <;> by_cases eb:b % 2=1 <;> simp only[ea,eb,not_true_eq_false,not_false_eq_true,and_true,and_false,iff_true,iff_false,true_and,false_and]at h p2 <;> lia
theorem nL (a b:Nat):Builtin.bitAnd (a:Int) (b:Int)=((a &&& b:Nat):Int):=by
 rw[bitAnd_pp (by lia) (by lia),bu,bu]
theorem qv (a b:Nat):Builtin.bitAnd (a:Int) (Builtin.bitNot (b:Int))=((ii a b:Nat):Int):=by
 rw[bitAnd_not,nL];have:=wI a b
 lia
theorem wP (a b:Nat):Builtin.bitOr (a:Int) (b:Int)=((a ||| b:Nat):Int):=by
 unfold Builtin.bitOr;have d:∀x:Nat,Builtin.bitNot (Builtin.bitNot (x:Int))=x:=fun x=>by unfold Builtin.bitNot;lia
 rw[bitAnd_nn (by unfold Builtin.bitNot;lia) (by unfold Builtin.bitNot;lia),d a,d b,bu,bu,d]
theorem vD:∀m:Nat,m≠0→∃i q,m=2^i*(2*q+1):=by
 intro m
 induction m using Nat.strongRecOn with
 |_ m ih=>
  intro h;rcases Nat.mod_two_eq_zero_or_one m with e | e
  ·obtain⟨i,q,a⟩:=ih (m / 2) (by lia) (by lia);exact⟨i+1,q,by rw[cO,Nat.mul_assoc,Nat.mul_left_comm,←a];lia⟩
  ·exact⟨0,m / 2,by lia⟩
theorem sV (i q j:Nat):(2^i*(2*q+1)).testBit j=(decide (i=j)||(2^(i+1)*q).testBit j):=by
 rw[cF,cF];rcases Nat.lt_trichotomy j i with h | h | h
 ·rw[ar (by lia),ar (show ¬i=j by lia),ar (show ¬i+1≤j by lia)];rfl
 ·subst h;rw[aq (ao _),bR,aq rfl,Nat.testBit_zero];simp
 ·rw[aq (by lia),ar (show ¬i=j by lia),aq (show i+1≤j by lia)];obtain⟨d,rfl⟩:∃d,j=i+1+d:=⟨j-(i+1),by lia⟩;rw[show i+1+d-i=d+1 by lia,show i+1+d-(i+1)=d by lia,Nat.testBit_succ,show(2*q+1) / 2=q by lia];simp
theorem sJ (i q:Nat):(2^i*(2*q+1)) &&& (2^i*(2*q+1)-1)=2^(i+1)*q:=by
 have e:2^i*(2*q+1)-1=2^(i+1)*q+(2^i-1):=by
  have h1:0<2^i:=bL i;have h2:2^i*(2*q+1)=2^(i+1)*q+2^i:=by rw[Nat.mul_add,Nat.mul_one,cO,←Nat.mul_assoc]
  lia
 refine Nat.eq_of_testBit_eq fun j=>?_;have a:2^i-1<2^(i+1):=by have:=bL i;rw[cO];lia
 rw[Nat.testBit_and,sV,e,Nat.testBit_two_pow_mul_add _ a,cF];by_cases h:j<i+1
 ·rw[if_pos h,ar (show ¬i+1≤j by lia),bY,Bool.or_false];rw[Nat.testBit_two_pow_sub_one];by_cases h2:i=j
  ·subst h2;simp
  ·simp[h2]
 ·rw[if_neg h,aq (show i+1≤j by lia),ar (show ¬i=j by lia)];simp
theorem CQ (i q:Nat):Builtin.bitAnd ((2^i*(2*q+1):Nat):Int) (-((2^i*(2*q+1):Nat):Int))=((2^i:Nat):Int):=by
 have h1:0<2^i:=bL i;have h2:2^i*(2*q+1)=2^(i+1)*q+2^i:=by rw[Nat.mul_add,Nat.mul_one,cO,←Nat.mul_assoc]
 have e:-((2^i*(2*q+1):Nat):Int)=Builtin.bitNot ((2^i*(2*q+1)-1:Nat):Int):=by unfold Builtin.bitNot;lia
 rw[e,qv];have:=wI (2^i*(2*q+1)) (2^i*(2*q+1)-1);rw[sJ]at this
 lia
theorem oC (i q:Nat):2^i*(2*q+1)-2^i=2^(i+1)*q:=by
 have h2:2^i*(2*q+1)=2^(i+1)*q+2^i:=by rw[Nat.mul_add,Nat.mul_one,cO,←Nat.mul_assoc]
 lia
theorem l5 {c:eg}{q:Nat}(h:2^i*(2*q+1)<2^c.n):∃k,c.ks[i]?=some k∧c.ix k=i∧c.listed (2^i*(2*q+1))=k::c.listed (2^(i+1)*q):=by
 have hi:i<c.n:=by
  refine Nat.lt_of_not_le fun z=>?_;have h1:=Nat.pow_le_pow_right (show 0<2 by decide) z;have h2:2^i≤2^i*(2*q+1):=Nat.le_mul_of_pos_right _ (by lia)
  lia
 have d:c.ks[i]?=some c.ks[i]:=ak hi;refine⟨_,d,c.J8 d,?_⟩;have g:c.ks=c.ks.take i++c.ks[i]::c.ks.drop (i+1):=by rw[←dR hi,dE]
 have lo:∀(m:Nat),(∀j,j<i→m.testBit j=false)→(c.ks.take i).filter (fun k=>m.testBit (c.ix k))=[]:=fun m p=>by
  rw[List.filter_eq_nil_iff];intro k a;obtain⟨j,b⟩:=ax.mp a;rw[cg]at b
  split at b
  ·next hlt=>rw[c.J8 b,p j hlt];decide
  ·cases b
 have e:∀k∈c.ks.drop (i+1),i<c.ix k:=fun k a=>by
  obtain⟨j,b⟩:=ax.mp a;rw[List.getElem?_drop]at b;rw[c.J8 b]
  lia
 have s:∀j,j<i→(2^i*(2*q+1)).testBit j=false:=fun j b=>by rw[cF,ar (by lia),bY]
 have l:∀j,j<i+1→(2^(i+1)*q).testBit j=false:=fun j b=>by rw[cF,ar (by lia),bY]
 have r:c.listed (2^i*(2*q+1))=c.ks[i]::(c.ks.drop (i+1)).filter (fun k=>(2^i*(2*q+1)).testBit (c.ix k)):=by
  unfold eg.listed
  conv=>lhs;rw[g]
  rw[bS,lo _ s,dL,aH,if_pos];rw[c.J8 d,sV,aq rfl,Bool.true_or]
 have o:c.listed (2^(i+1)*q)=(c.ks.drop (i+1)).filter (fun k=>(2^(i+1)*q).testBit (c.ix k)):=by
  unfold eg.listed
  conv=>lhs;rw[g]
  rw[bS,lo _ (fun j b=>l j (by lia)),dL,aH,if_neg];rw[c.J8 d,l i (by lia)];decide
 rw[r,o]
 congr 1
 refine List.filter_congr fun k a=>?_;rw[sV,ar (show ¬i=c.ix k by have:=e k a;lia),Bool.false_or]
theorem Aw {q n:Nat}(h:2^i*(2*q+1)<2^n):2^(i+1)*q<2^n:=by
 have:=oC i q;have:=bL i
 lia
structure v4 (es:List En)(sn:List Nd)(ps:List Pk):Prop where
 one:∀j∈ps,∀k∈ps,j.1=k.1→j=k
 key:∀k∈ps,k∈es.map eX
 met:∀w:Option Pk,(∀k,w=some k→k∈ps)→∀n∈gJ es sn w,∃j∈ps,j.1=n.1∧mi n j.2=true
theorem oB {n:Nd}:v∈iH es n↔(n.1,v)∈es.map eX∧mi n v=true:=by
 rw[pR,aS];refine and_congr_left fun _=>?_;unfold gZ;simp only[aA,aS,aw]
 constructor
 ·rintro⟨e,⟨a,h1⟩,h2⟩;exact⟨e,a,Prod.ext h1 h2⟩
 ·rintro⟨e,a,h⟩;have h':(e.1,e.2.1)=(n.1,v):=h;rw[Prod.mk.injEq]at h';exact⟨e,⟨a,h'.1⟩,h'.2⟩
theorem sI {n:Nd}:v∈iT es n↔(n.1,v)∈es.map eX∧mi n v=true:=by
 unfold iT;rw[(List.mergeSort_perm _ _).mem_iff,oB]
theorem FO {sn:List Nd}{ps:List Pk}(D:∀(i:Nat) (l:Ln),ls[i]?=some l→i7 es sn ls (i:Nat) l=true)(x:v4 es sn ps):∀(i:Nat) (l:Ln),ls[i]?=some l→¬∀p∈l.1,p∈ps:=by
 intro i
 induction i using Nat.strongRecOn with
 |_ i ih=>
  intro l F b;have h:=D i l F;unfold i7 at h;rw[aB]at h;obtain⟨B,h⟩:=h;cases hn:iB (gJ es sn l.2.who) l.2.place with
  |none=>rw[hn]at h;cases h
  |some n=>
   rw[hn]at h;dsimp only at h;have q:=mJ hn
   obtain⟨j,y,g,r⟩:=x.met l.2.who (fun k e=>b k (by
    rw[e]at B;have d:(decide (k∈l.1)&&decide (k∈es.map eX))=true:=B;rw[aB]at d
    exact aW d.1)) n q
   cases ht:l.2.told with
   |one k=>
    rw[ht]at h;have h':(decide (k∈l.1)&&qi n k)=true:=h;unfold qi at h';simp only[aB,aw,bQ]at h';obtain⟨h1,h2,C⟩:=h';have e:=x.one j y k (b k h1) (by rw[g,h2]);rw[←e,r]at C;cases C
   |many bs=>
    rw[ht]at h;have h':kD es ls (i:Nat) l.1 n bs=true:=h;unfold kD at h';rw[aB,aw,bF]at h';obtain⟨h1,h2⟩:=h';have m:j=(n.1,j.2):=Prod.ext g rfl;have H:j.2∈iT es n:=sI.mpr ⟨m▸x.key j y,r⟩;obtain⟨t,o⟩:=ax.mp H;have w:t<bs.length:=by rw[h1];exact(af.mp o).1
    have E:(bs.zip (iT es n))[t]?=some (bs[t],j.2):=dQ.mpr ⟨ak w,o⟩
    have s:=h2 _ (ai E);unfold ut at s;dsimp only at s;simp only[aB,aw]at s;obtain⟨A,G,a⟩:=s;cases hl2:iB ls bs[t] with
    |none=>rw[hl2]at a;cases a
    |some l'=>
     rw[hl2]at a;dsimp only at a;rw[bF]at a;have v:ls[bs[t].toNat]?=some l':=by
      unfold iB at hl2;rw[if_pos A]at hl2;exact hl2
     refine ih bs[t].toNat (by omega) l' v fun p hp=>?_;have:=a p hp;rw[cS,aw,aw]at this;rcases this with z | z
     ·exact b p z
     ·rw[z,←m];exact y
theorem iC.fit {c:eg}(h:iC c L s)(o:s.wanted=[]):v4 c.es c.sn (c.listed s.picked):=by
 refine⟨fun j b k g e=>h.one j k (eg.J9.mp b) (eg.J9.mp g) e,fun k g=>(c.mem k).mp (eg.J9.mp g).1,fun w i n m=>?_⟩;have a:c.Ko s.picked w:=by
  cases w with
  |none=>trivial
  |some k=>exact eg.J9.mp (i k rfl)
 rcases h.w2 w a n m with ⟨j,b,d⟩ | z
 ·refine⟨j,eg.J9.mpr b,d,Decidable.byContradiction fun z=>?_⟩;have l:c.Km w j:=⟨n,m,by unfold qi;rw[aq d,bV.mpr z];rfl⟩;refine h.off j (h.sup j b.1 ?_) b;cases w with
  |none=>exact .inl l
  |some q=>exact .inr (.inr ⟨q,a,.inr l⟩)
 ·rw[o]at z;cases z
theorem yr {c:eg}{k:Pk}(h:∀j,c.has m j↔j∈c.left x s)(g:(c.listed m).getLast?=some k):k∈c.ks∧k.1=x∧¬c.has s.dead k∧∀j∈c.ks,j.1=x→k.2<j.2→c.has s.dead j:=by
 have d:=eg.KB.mp ((h k).mp (eg.J9.mp (List.mem_of_getLast? g)));refine⟨d.1,d.2.1,d.2.2,fun j p b l=>Decidable.byContradiction fun z=>?_⟩;have e:j∈c.listed m:=eg.J9.mpr ((h j).mpr (eg.KB.mpr ⟨p,b,z⟩));obtain⟨i,hi⟩:=ax.mp e;have a:(c.listed m)[(c.listed m).length-1]?=some k:=by rw[←List.getLast?_eq_getElem?];exact g
 have o:=(af.mp hi).1;rcases dj i ((c.listed m).length-1) with h1 | h1
 ·obtain⟨v,j',q,r,t⟩:=ke hi a h1;have:=c.srt _ _ j k q r t (by rw[b,d.2.1]);omega
 ·have:i=(c.listed m).length-1:=by omega
  rw[this,a]at hi;cases hi;omega
theorem xG {c:eg}(b:m<2^c.n)(e:m≠0)(h:m &&& (m-1)=0):∃k∈c.ks,m=c.bit k:=by
 obtain⟨i,q,rfl⟩:=vD m e;rw[sJ]at h;have d:q=0:=by
  rcases dM q with z | z
  ·exact z
  ·have:=Nat.mul_pos (bL (i+1)) z;omega
 subst d;obtain⟨k,a,g,_⟩:=l5 b;refine⟨k,ai a,?_⟩;unfold eg.bit;rw[g];simp
theorem vU {c:eg}{e:Nat×Rs}{k:Pk}(a:k∈c.ks)(g:e∈L)(h:ii e.1 p=c.bit k):c.Kq L p k∧¬c.has p k:=by
 have h1:c.has (ii e.1 p) k:=by rw[h];exact(eg.Kd a).mpr rfl
 obtain⟨h2,b⟩:=eg.Kc.mp h1;refine⟨⟨e,g,h2,fun j d=>?_⟩,b⟩;by_cases hp:c.has p j
 ·exact .inr hp
 ·have:c.has (ii e.1 p) j:=eg.Kc.mpr ⟨d,hp⟩;rw[h]at this;exact .inl ((eg.Kd a).mp this)
theorem vt {c:eg}{e:Nat×Rs}{k:Pk}(d:k∈c.ks)(g:e.1<2^c.n)(h1:c.has e.1 k)(h2:∀j,c.has e.1 j→j=k∨c.has p j)(h:¬c.has p k):ii e.1 p=c.bit k:=by
 refine eg.ext (jo g) (c.Kf d) fun j=>?_;rw[eg.Kc,eg.Kd d]
 constructor
 ·rintro⟨a,b⟩;exact(h2 j a).elim id fun z=>absurd z b
 ·rintro rfl;exact⟨h1,h⟩
def eg.KI (c:eg)(L:ij)(k:Pk)(p:Nat):Nat:=(L.filter fun e=>decide (c.has e.1 k)).foldl (fun b e=>let r:=ii e.1 p;if r &&& (r-1)=0 then b ||| r else b) 0
theorem lh {c:eg}{p:Nat}:∀(L:ij) (b:Nat),(∀e∈L,e.1<2^c.n)→b<2^c.n→(L.foldl (fun b e=>let r:=ii e.1 p;if r &&& (r-1)=0 then b ||| r else b) b<2^c.n)∧∀j,c.has (L.foldl (fun b e=>let r:=ii e.1 p;if r &&& (r-1)=0 then b ||| r else b) b) j→c.has b j∨∃e∈L,ii e.1 p=c.bit j
 |[],b,_,hb=>⟨hb,fun j hj=>.inl hj⟩
 |e::L,b,hL,hb=>by
  rw[List.foldl_cons];dsimp only;have he:=hL e (by simp);by_cases h:ii e.1 p &&& (ii e.1 p-1)=0
  ·rw[if_pos h];obtain⟨i1,i2⟩:=lh (c:=c) (p:=p) L (b ||| ii e.1 p) (fun x hx=>hL x (by simp[hx])) (i6 hb (jo he));refine⟨i1,fun j hj=>?_⟩;rcases i2 j hj with z | ⟨x,hx,y⟩
   ·rcases eg.Ka.mp z with z | z
    ·exact .inl z
    ·refine .inr ⟨e,by simp,?_⟩;have h0:ii e.1 p≠0:=fun w=>by rw[w]at z;exact eg.Ke z
     obtain⟨k,hk,e2⟩:=xG (jo he) h0 h;rw[e2]at z ⊢;rw[(eg.Kd hk).mp z]
   ·exact .inr ⟨x,by simp[hx],y⟩
  ·rw[if_neg h];obtain⟨i1,i2⟩:=lh (c:=c) (p:=p) L b (fun x hx=>hL x (by simp[hx])) hb;refine⟨i1,fun j hj=>?_⟩;rcases i2 j hj with z | ⟨x,hx,y⟩
   ·exact .inl z
   ·exact .inr ⟨x,by simp[hx],y⟩
theorem yL {c:eg}{k:Pk}(d:gY c L):c.KI L k p<2^c.n∧∀j,c.has (c.KI L k p) j→c.Kq L p j∧¬c.has p j:=by
 obtain⟨h1,h2⟩:=lh (c:=c) (p:=p) (L.filter fun e=>decide (c.has e.1 k)) 0 (fun e a=>d.lt e (aS.mp a).1) (bL _);refine⟨h1,fun j b=>?_⟩;rcases h2 j b with z | ⟨e,a,y⟩
 ·exact(eg.Ke z).elim
 ·exact vU b.1 (aS.mp a).1 y
end FB
namespace L2
open PySem PySem.Spec PyProof.Rows FB
variable {H:Hp}{Q:Value→Shared→Prop}{X:Cx}{body e:Expr}{cy cy':Addr}{j j':Nat}{params:Arguments}{pos:Pos}{s:Shared}{scope:Scope}{x y y':Str}{σ:St}
abbrev IE (X:Cx)(A:Around)(qual:Str)(scope:Scope)(q c:Addr)(cl:List (Str×Addr))(N':List Str)(s:Shared)(H:Hp):Cx:=
 {X with A:=A.deeper (W.envX qual scope s.heap.objs.size q (.ref c) cl),N:=N',s₀:=s,H₀:=H,env:=W.envX qual scope s.heap.objs.size q (.ref c) cl,outer:=X.stack,stack:=W.envX qual scope s.heap.objs.size q (.ref c) cl::X.stack,ex:=[],fn:=fun _=>false,calm:=true,pn:=[],xe:=fun _ _=>False}
structure Fg (X:Cx)(scope:Scope)(x y y':Str)(cy cy':Addr)(j j':Nat):Prop where
 clos:closureFor scope X.env=pure [(y,cy),(y',cy')]
 l1:X.env.cells.lookup y=some cy
 l2:X.env.cells.lookup y'=some cy'
 kind:scope.kind=.function
 co:scope.isCoroutine=false
 gen:scope.isGenerator=false
 px:scope.names.lookup x=some .local
 nocell:∀z∈scope.names,z.2≠.cell
 frees:∀z,scope.names.lookup z=some .free→z=y∨z=y'
 f1:scope.names.lookup y=some .free
 f2:scope.names.lookup y'=some .free
 n1:X.N[j]?=some y
 n2:X.N[j']?=some y'
 k1:X.env.kindOf y=some .cell
 k2:X.env.kindOf y'=some .cell
 v1:DF X.env.scope y
 v2:DF X.env.scope y'
 ne:y'≠y
 xy:x≠y
 xy':x≠y'
section
variable {pins:List (Addr×Obj)}
theorem AD {A:Around}{k:Nat}{qual:Str}{pm ctv:Value}{q c:Addr}{te:TE}{v a b:V}{u:Value}{Q:VK}(S:Fg X scope x y y' cy cy' j j')(hA:A.frames=some X.stack)(Y:gK (k+1) A)(I:eQ X pins σ H s)(ho:s.heap.get? q=some (W.kla_obj "<lambda>" qual params body scope [(y,cy),(y',cy')] pm c ctv))(U:s.heap.CodeRec (.ref c) qual)(G:∀u:Value,bindArgs (W.kla_fn "<lambda>" qual params body scope [(y,cy),(y',cy')] pm (.ref c) ctv) ⟨[u],[]⟩=pure [(x,u)])(e1:σ[j]?=some (some a))(e2:σ[j']?=some (some b))(rv:eY v u)(hB:PE (IE X A qual scope q c [(y,cy),(y',cy')] [x,y,y'] s H) body te)(h:te [some v,some a,some b] H Q):codeAny (model X.prog X.w) A (.call (.ref q) ⟨[u],[]⟩) (CR ff X.stack X.prog X.w H s Q E0) s:=by
 have L:(([(y,cy),(y',cy')]:List (Str×Addr)).lookup y)=some cy:=by rw[aY,beq_self_eq_true]
 have K:(([(y,cy),(y',cy')]:List (Str×Addr)).lookup y')=some cy':=by rw[aY,beq_false_of_ne S.ne,aY,beq_self_eq_true]
 have E:∀z d,([(y,cy),(y',cy')]:List (Str×Addr)).lookup z=some d→X.env.cells.lookup z=some d:=fun z d e=>by
  by_cases q:z=y
  ·subst q;rw[L]at e;rw[S.l1];exact e
  ·by_cases q':z=y'
   ·subst q';rw[K]at e;rw[S.l2];exact e
   ·rw[aY,beq_false_of_ne q,aY,beq_false_of_ne q']at e;simp at e
 refine W.kla_callFunE Y.depth ho rfl S.co S.gen rfl U ?_;rw[G u];refine ap (wpAny_newFunctionEnv S.nocell (fun z hz=>by rw[aj.mp hz];exact S.px) (fun h₁ T R=>?_) S.kind);have F:∀b o,s.heap.get? b=some o→h₁.get? b=some o:=fun b o e=>R.extBut b o (aT (aM e)) (ay _ e);refine⟨I.nolimit.keeps F,W.kla_codeExpr ?_⟩;show wpAny (model X.prog X.w) (A.deeper (W.envX qual scope s.heap.objs.size q (.ref c) [(y,cy),(y',cy')])) (eval body (W.envX qual scope s.heap.objs.size q (.ref c) [(y,cy),(y',cy')])) _ _ _;have C:∀{i:Nat} {z:Str} {cz:Addr} {t:V},X.N[i]?=some z→σ[i]?=some (some t)→DF X.env.scope z→X.env.kindOf z=some .cell→X.env.cells.lookup z=some cz→∃D,eY t D∧s.heap.IsCell cz (some D):=fun {i z cz t} hn hs hv hk hl=>by
  obtain⟨m,_,loc⟩:=I.loc;obtain⟨D,r,l⟩:=loc i z t hn hs hv;rcases l with ⟨k,_⟩ | ⟨_,c2,e,g⟩
  ·rw[hk]at k;cases k
  ·rw[hl]at e;cases e;exact⟨D,r,g⟩
 have B:∀{cz:Addr} {t:Option Value},s.heap.IsCell cz t→h₁.IsCell cz t:=fun {cz t} ⟨o,e,d⟩=>⟨o,F _ _ e,d⟩;have J:eQ (IE X A qual scope q c [(y,cy),(y',cy')] [x,y,y'] s H) [] [some v,some a,some b] H {s with heap:=h₁,toks:=s.toks+1}:=by
  refine⟨⟨I.ok.mod,S.kind,rfl,rfl,ao _,fun z1 Z d h1 h2=>I.ok.inj z1 Z d (E _ _ h1) (E _ _ h2),fun z hz=>?_,fun z d hf _=>absurd (show false=true from hf) (by decide),fun _=>Y.hd,Around.frames_deeper hA,.inr ⟨rfl,rfl⟩,fun b G=>absurd (show b∈([]:List Addr) from G) (by simp),I.bs,br I.ok.bsz I.sz,fun b _ _ G=>absurd (show b∈([]:List Addr) from G) (by simp),fun b G=>absurd (show b∈([]:List Addr) from G) (by simp),I.stack,I.JM⟩,rfl,I.bare,Un.kept F,⟨_,T,fun i z t h1 h2 h3=>?_⟩,fun z d e=>?_,I.hok.fresh (ao _),fun z d e=>I.freeC z d (E z d e),fun p hp=>absurd (show p∈([]:List (Addr×Obj)) from hp) (by simp),I.hok.kept F,rfl⟩
  ·have hz:scope.names.lookup z=some .cell∨scope.names.lookup z=some .free:=hz;rcases hz with hz | hz
   ·exact absurd rfl (S.nocell _ (bo hz))
   ·rcases S.frees z hz with rfl | rfl
    ·exact⟨cy,L⟩
    ·exact⟨cy',K⟩
  ·match i,h1,h2 with
   |0,h1,h2=>
    have O:x=z:=by simpa using h1
    have M:v=t:=by simpa using h2
    subst O M;exact⟨u,rv,.inl ⟨S.px,by simp⟩⟩
   |1,h1,h2=>
    have O:y=z:=by simpa using h1
    have M:a=t:=by simpa using h2
    subst O M;obtain⟨D,r,g⟩:=C S.n1 e1 S.v1 S.k1 S.l1;exact⟨D,r,.inr ⟨.inr S.f1,cy,L,B g⟩⟩
   |2,h1,h2=>
    have O:y'=z:=by simpa using h1
    have M:b=t:=by simpa using h2
    subst O M;obtain⟨D,r,g⟩:=C S.n2 e2 S.v2 S.k2 S.l2;exact⟨D,r,.inr ⟨.inr S.f2,cy',K,B g⟩⟩
   |i+3,h1,_=>simp at h1
  ·obtain⟨t,g⟩:=I.cell z d (E z d e);exact⟨t,B g⟩
 refine ca (hB [] _ _ H Q J h) (fun D s' hE=>?_) fun e s' hF=>False.elim hF;obtain⟨t,H',P,r,hq⟩:=hE;exact⟨t,H',P.os,P.bare,P.base,P.hok,r,hq⟩
end
def gU (qual:Str)(lp:Pos)(H:Hp)(P:Addr):Prop:=H P=some (.tbl #[])∨∃c:Addr,H P=some (.tbl #[rawInt lp.line,rawInt lp.col,.ref c])∧H c=some (.ext fun h=>h.CodeRec (.ref c) qual)
def sZ (mg:Str→Option Value)(base:Heap):Prop:=∃bm ob,mg "__builtins__" = some (.ref bm)∧bm≠builtinsNs∧base.get? bm=some ob∧ob.cls=.type "module"∧ob.dict=some builtinsNs∧ob.data=.plain
section
variable {pins:List (Addr×Obj)}{A:Around}{E:Value→Shared→Prop}
theorem AC {c P:Addr}{lp:Pos}(S:Fg X scope x y y' cy cy' j j')(d:X.env.code=.ref c)(aa:W.codeHdIn X.K c P=true)(BM:sZ X.mg X.base)(ag:defaultsOf params X.env=([],[]))(I:eQ X pins σ H s)(hT:gU (X.env.qual++"<lambda>") lp H P)(k:∀(q c':Addr) (ctv:Value) (s':Shared) (H':Hp),eQ X (pins++[(q,W.kla_obj "<lambda>" (X.env.qual++"<lambda>") params body scope [(y,cy),(y',cy')] ((X.mg "__name__").getD .none) c' ctv)]) σ H' s'→eG (del H [P]) H'→gU (X.env.qual++"<lambda>") lp H' P→H' c'=some (.ext fun h=>h.CodeRec (.ref c') (X.env.qual++"<lambda>"))→Q (.ref q) s'):wpAny (model X.prog X.w) A (eval (.Lambda params body scope lp) X.env) Q E s:=by
 refine W.kla_eval ag ?_;obtain⟨Z,ob,b1,b2,Y,b4,b5,b6⟩:=BM;have tP:∃ps,H P=some (.tbl ps):=by
  rcases hT with e | ⟨c',e,_⟩
  ·exact⟨_,e⟩
  ·exact⟨_,e⟩
 obtain⟨as,U⟩:=tP;have gP:∀{ps:Array Value},H P=some (.tbl ps)→s.heap.get? P=some (W.tabObj ps):=fun e=>(show fN X.prog X.w H s.heap P (.tbl _) from I.hok P _ e);have D:s.heap.Ns mainGlobals X.mg:=I.mod.glob.keeps I.bk;have hC:W.CodeHd s.heap c P:=W.codeHd_of_K I.kIn aa;have al:mainGlobals≠P:=fun q=>by
  obtain⟨o,es,ep,e,M,_⟩:=D;have:=gP U;rw[←q,e]at this;cases this;cases M
 have ad:Z≠P:=fun q=>by
  have:=(I.bs Z ob Y).2;rw[q,U]at this;cases this
 have ah:Z≠mainGlobals:=fun q=>by
  obtain⟨o,es,ep,e,M,_⟩:=I.mod.glob;rw[q,e]at Y;cases Y;rw[M]at b6;cases b6
 have BA:s.heap.BuiltinsAt X.mg P:=⟨Z,ob,b1,b2,ah,ad,I.bk _ _ Y,b4,b5,b6⟩;have T:∀{c':Addr} {ctv:Value} {h':Heap} {tk:Nat} {H':Hp},eQ X pins σ H' {s with heap:=h',toks:=tk}→eG (del H [P]) H'→gU (X.env.qual++"<lambda>") lp H' P→H' c'=some (.ext fun h=>h.CodeRec (.ref c') (X.env.qual++"<lambda>"))→
   Q (.ref h'.objs.size) {s with heap:=h'.push (W.kla_obj "<lambda>" (X.env.qual++"<lambda>") params body scope [(y,cy),(y',cy')] ((X.mg "__name__").getD .none) c' ctv),toks:=tk}:=fun {c' ctv h' tk H'} G hs ht hc=>by
  have I2:eQ X pins σ H' {s with heap:=h'.push (W.kla_obj "<lambda>" (X.env.qual++"<lambda>") params body scope [(y,cy),(y',cy')] ((X.mg "__name__").getD .none) c' ctv),toks:=tk}:=G.kept (t':=tk) fun b o e=>ay _ e;refine k _ c' ctv _ H' (I2.JN fun p hp=>?_) hs ht hc;rcases az.mp hp with z | z
  ·exact I2.pin p (aK _ z)
  ·rw[aj.mp z]
   exact⟨aJ _ rfl,G.hok.fresh (ao _),Nat.ne_of_gt G.lt,G.JK (ao _),fun v z=>by
    have z':Data.func _=Data.cell v:=z
    cases z'⟩
 have B:eG (del H [P]) H:=fm _ _;rcases hT with e | ⟨c',e,ec⟩
 ·refine W.kla_makeFunction S.clos I.ok.glob D d hC (gP e) trivial rfl al BA fun c' ctv h' tk C N a0 l L=>?_;have a:H c'=none:=I.hok.fresh N;have R:c'≠P:=fun z=>by rw[z,e]at a;cases a
  have nP:∀b,H b=none→b≠P:=fun b n z=>by rw[z,e]at n;cases n
  have nC:∀b o,s.heap.get? b=some o→b≠c':=fun b o q=>aT (aZ (aM q) N);have i:∀b,b≠c'→b≠P→upd (upd H P (.tbl #[rawInt lp.line,rawInt lp.col,.ref c'])) c' (.ext fun h=>h.CodeRec (.ref c') (X.env.qual++"<lambda>")) b=H b:=fun b h1 h2=>by rw[ef h1,ef h2]
  have g:∀b u,H b=some u→(∀ps,u≠.tbl ps)→upd (upd H P (.tbl #[rawInt lp.line,rawInt lp.col,.ref c'])) c' (.ext fun h=>h.CodeRec (.ref c') (X.env.qual++"<lambda>")) b=some u:=fun b u q nt=>by
   rw[i b (fun z=>by rw[z,a]at q;cases q) (fun z=>by rw[z,e]at q;cases q;exact nt _ rfl)];exact q
  have G:eQ X pins σ (upd (upd H P (.tbl #[rawInt lp.line,rawInt lp.col,.ref c'])) c' (.ext fun h=>h.CodeRec (.ref c') (X.env.qual++"<lambda>"))) {s with heap:=h',toks:=tk}:=by
   refine I.step (g':=s.gens) (d':=s.drawn) (ch:=[]) (fun _ z=>nomatch z) (fun b o _ _ _ q n=>C b o (nP b n) q) (fun b o _ _ _ q n=>⟨o.slots,C b o (nP b n) q⟩) (fun b o _ q n=>by rw[i b (nC b o q) (nP b n)];exact n) (fun b o _ q=>?_)
    (fun b xs q=>g b _ q (fun ps z=>nomatch z)) (fun b o u q=>g b _ q (fun ps z=>nomatch z)) (fun b ps q=>?_) (fun m hm=>?_) (fun b u q=>?_) I.bare
   ·by_cases hb:b=P
    ·exact⟨_,by rw[hb];exact L⟩
    ·exact⟨o,C b o hb q⟩
   ·by_cases hb:b=P
    ·subst hb;rw[e]at q;cases q;exact⟨#[rawInt lp.line,rawInt lp.col,.ref c'],by rw[ef (Ne.symm R),d0];simp⟩
    ·exact⟨#[],by rw[i b (fun z=>by rw[z,a]at q;cases q) hb,q];simp⟩
   ·obtain⟨o,es,ep,ho,r⟩:=hm;exact⟨o,es,ep,C _ o (nP _ I.free) ho,r⟩
   ·by_cases hb:b=c'
    ·subst hb;rw[d0]at q;cases q;obtain⟨F,oc,vs,t,e2,O,M,hv⟩:=l;cases e2
     exact⟨⟨_,oc,vs,t,rfl,O,M,hv⟩,⟨oc,O⟩,fun h1 h2 ⟨c3,o3,v3,t3,g1,g2,g3,g4⟩ hk=>by
      cases g1
      exact⟨_,o3,v3,t3,rfl,hk _ g2,g3,g4⟩⟩
    ·rw[ef hb]at q;by_cases hb2:b=P
     ·subst hb2;rw[d0]at q;cases q;show h'.get? b=some (W.tabObj _);rw[L];simp
     ·rw[ef hb2]at q;refine(I.hok b u q).JI (fun F w' hc2 z=>C F w' (fun J=>?_) z) (fun F z=>g F _ z (fun ps J=>nomatch J)) fun F xs z=>g F _ z (fun ps J=>nomatch J);rcases hc2 with hc2 | hc2
      ·exact hb2 (hc2▸J)
      ·rw[J,e]at hc2;cases hc2
  refine T G (fun b u q=>?_) (.inr ⟨c',by rw[ef (Ne.symm R),d0],d0⟩) d0;by_cases hb:b=P
  ·rw[hb,fH (by simp)]at q;cases q
  ·rw[eE (by simpa using hb)]at q;rw[i b (fun z=>by rw[z,a]at q;cases q) hb];exact q
 ·have l:s.heap.CodeRec (.ref c') (X.env.qual++"<lambda>"):=(show fN X.prog X.w H s.heap c' (.ext fun h=>h.CodeRec (.ref c') (X.env.qual++"<lambda>")) from I.hok c' _ ec).1;refine W.kla_makeFunctionHit (cv:=.ref c') S.clos I.ok.glob D d hC (gP e) trivial (by simp[codeAmong,rawInt]) BA fun ctv h' tk C an=>?_;exact T (I.kept (t':=tk) C) B (.inr ⟨c',e,ec⟩) ec
end
section
variable {pq:List (Addr×Obj)}{d q it S:Addr}{o oq:Obj}{kvs:List (gB×V)}{es:Array DictEntry}{ep:Nat}{kf:Nat→Int}{R:Result→Shared→Prop}
def sY (X:Cx)(σ:St)(H:Hp)(q:Addr)(oq:Obj)(kvs:List (gB×V))(kf:Nat→Int):Prop:=∀(i:Nat) (kv:gB×V),kvs[i]?=some kv→∀(pins:List (Addr×Obj)) (s:Shared) (u:Value),eQ X pins σ H s→(q,oq)∈pins→eY (kV kv.1) u→
 wpAny (model X.prog X.w) X.A.in1 (call (.ref q) [u]) (EP X pins σ fun v H'=>v=.int (kf i)∧H'=H) (fun _ _=>False) s
theorem tX {i:Nat}{kv:gB×V}{u:Value}(a:sY X σ H q oq kvs kf)(y:(q,oq)∈pq)(e:jw X pq H it)(d:jw X pq H S)(o:kvs[i]?=some kv)(C:eY (kV kv.1) u)(I:eQ X pq σ H s){oI oS:Obj}(B:s.heap.get? it=some oI)(m:s.heap.get? S=some oS)(j:∀v,oI.data≠.cell v)(l:∀v,oS.data≠.cell v)(h:∀s' t,eQ X pq σ H s'→s'.heap.get? it=some oI→s'.heap.get? S=some oS→Q (.int (kf i) t) s'):wpAny (model X.prog X.w) X.A.in1 (call (.ref q) [u]) Q (fun _ _=>False) s:=by
 have J:eQ X (pq++[(it,oI),(S,oS)]) σ H s:=I.JN fun p hp=>by
  rcases az.mp hp with z | z
  ·exact I.pin p (aK _ z)
  ·rcases am.mp z with z | z
   ·rw[z];exact⟨B,e.1,e.2.1,e.2.2.1,j⟩
   ·rw[aj.mp z];exact⟨m,d.1,d.2.1,d.2.2.1,l⟩
 refine ca (a i kv o _ s u J (aO _ y) C) (fun v s' g=>?_) fun _ _ z=>z;obtain⟨E,H',b,r,x,D⟩:=g;subst x D;obtain⟨t,rfl⟩:=(show ∃t,v=Value.int (kf i) t from r);exact h s' t b.JU (b.pin (it,oI) (aK _ (aK _ (by simp)))).1 (b.pin (S,oS) (aK _ (aK _ (by simp)))).1
theorem EL (hc:X.calm=true)(hH:H d=some (.frz o (.dK kvs)))(hd:o.data=.dict es ep)(hq:(q,oq)∈pq)(L:S≠it)(B:jw X pq H it)(m:jw X pq H S)(Y:sY X σ H q oq kvs kf)(hR:∀i kv u s',kvs[i]?=some kv→(∀j,j<kvs.length→kf i≤kf j)→eQ X pq σ H s'→eY (kV kv.1) u→R (.ok (.ret u)) s'):∀(r j i:Nat) (s:Shared) (vb:Value) (tb:Tok) (c:Nat) (kv:gB×V),es.size-(j+1)=r→j+1≤es.size→eQ X pq σ H s→s.heap.get? S=some (seqObj "list" #[vb,.int (kf i) tb] c)→s.heap.IsKeyIter it d (j+1) es.size ep→kvs[i]?=some kv→eY (kV kv.1) vb→(∀j',j'≤j→kf i≤kf j')→codeAny (model X.prog X.w) X.A (.builtin "min.loop" ⟨[.ref it,.ref q,.ref S],[]⟩) R s:=by
 have l:(toString "min"++toString ".loop" : String) = "min.loop":=by decide
 intro r
 induction r with
 |zero=>
  intro j i s vb tb c kv hr hj I N J hk rk g;obtain⟨ho,_,_,ad,aa,y,hn,p⟩:=nX I.hok hH;rw[hd]at y;cases y;refine codeAny_builtin PySem.F.entry_min_loop ?_;rw[Around.under_plainId PySem.F.plain_min_loop _];show wpAny _ X.A.in1 (seqItems? (.ref S) >>= _) _ _ _;refine ac (wpAny_seqItems N rfl ?_);show wpAny _ X.A.in1 (tryCatch (pyNext (.ref it)) _ >>= _) _ _ _;refine ac (dC (vv (show X.A.in1.handled=none from I.ok.hd hc) J ho hd (by omega) fun h' P=>?_));have I1:eQ X pq σ H {s with heap:=h'}:=I.turned (t':=s.toks) (fun b o C e=>P b o C e) B.1 B.2.1 B.2.2.2.1 B.2.2.2.2.1 B.2.2.2.2.2;have K:=P S _ L N;have s1:=Heap.SameBut.update h' S (Obj.mapSeq fun _=>(#[]:Array Value));have Z:eQ X pq σ H {s with heap:=h'.update S (Obj.mapSeq fun _=>(#[]:Array Value))}:=I1.turned (t':=s.toks) (fun b o C e=>(s1.2 b C).trans e) m.1 m.2.1 m.2.2.2.1 m.2.2.2.2.1 m.2.2.2.2.2;show wpAny _ X.A.in1 (updateSeq S (fun _=>#[]) >>= _) _ _ _;refine ac ?_;refine wpAny_updateSeq K rfl (ac (wpAny_letGo (ap ?_)));exact hR i kv vb _ hk (fun j' T=>g j' (by omega)) Z rk
 |succ r ih=>
  intro j i s vb tb c kv hr hj I N J hk rk g;obtain⟨ho,_,_,ad,aa,y,hn,p⟩:=nX I.hok hH;rw[hd]at y;cases y;have h:j+1<es.size:=by omega
  have D:kvs[j+1]?=some (kvs[j+1]'(by omega)):=ak (by omega);refine codeAny_builtin PySem.F.entry_min_loop ?_;rw[Around.under_plainId PySem.F.plain_min_loop _];show wpAny _ X.A.in1 (seqItems? (.ref S) >>= _) _ _ _;refine ac (wpAny_seqItems N rfl ?_);show wpAny _ X.A.in1 (tryCatch (pyNext (.ref it)) _ >>= _) _ _ _;refine ac (dC (oA J ho hd h fun h' M sb=>?_));have I1:eQ X pq σ H {s with heap:=h'}:=I.turned (t':=s.toks) (fun b o C e=>(sb.2 b C).trans e) B.1 B.2.1 B.2.2.2.1 B.2.2.2.2.1 B.2.2.2.2.2;have K:h'.get? S=_:=(sb.2 S L).trans N;obtain⟨oI,eI,cI,dI⟩:=id M;show wpAny _ X.A.in1 (tryCatch (holding [es[j+1].key] (call (.ref q) [es[j+1].key])) _ >>= _) _ _ _;refine ac (dC (bE (ca (tX Y hq B m D (p _ _ h D) I1 eI K (fun v z=>by rw[dI]at z;cases z) (fun v z=>by cases z) (Q:=fun v s'=>∃t,v=Value.int (kf (j+1)) t∧eQ X pq σ H s'∧s'.heap.get? it=some oI∧s'.heap.get? S=some (seqObj "list" #[vb,.int (kf i) tb] c)) fun s' t a b e=>⟨t,rfl,a,b,e⟩) (fun x s2 he=>?_) fun _ _ hF=>hF.elim)));obtain⟨E,rfl,Z,U,G⟩:=he;have O:s2.heap.IsKeyIter it d (j+1+1) es.size ep:=⟨oI,U,cI,dI⟩;show wpAny _ X.A.in1 (tryCatch (holding [es[j+1].key,.int (kf (j+1)) E] (richCompare .Lt (.int (kf (j+1)) E) (.int (kf i) tb) >>= _)) _ >>= _) _ _ _;refine ac (dC (bE (ac (lt_int ?_))));refine ac (bE (bU ?_));refine ac (wpAny_letGo (ap ?_));by_cases C:kf (j+1)<kf i
  ·have s1:=Heap.SameBut.update s2.heap S (Obj.mapSeq fun _=>#[es[j+1].key,.int (kf (j+1)) E]);obtain⟨c2,hc2⟩:∃c2,(s2.heap.update S (Obj.mapSeq fun _=>#[es[j+1].key,.int (kf (j+1)) E])).get? S=some (seqObj "list" #[es[j+1].key,.int (kf (j+1)) E] c2):=⟨_,get?_update_seq G fun _=>#[es[j+1].key,.int (kf (j+1)) E]⟩;have I3:eQ X pq σ H {s2 with heap:=s2.heap.update S (Obj.mapSeq fun _=>#[es[j+1].key,.int (kf (j+1)) E])}:=Z.turned (t':=s2.toks) (fun b o C e=>(s1.2 b C).trans e) m.1 m.2.1 m.2.2.2.1 m.2.2.2.2.1 m.2.2.2.2.2;simp only[C,decide_true,if_true];refine ac ?_;refine wpAny_updateSeq G rfl (ac (wpAny_letGo ?_));rw[l]
   exact ap ⟨plainId_quiet PySem.F.plain_min_loop _,ih (j+1) (j+1) _ _ E c2 _ (by omega) h I3 hc2 ⟨oI,(s1.2 it L.symm).trans U,cI,dI⟩ D (p _ _ h D) fun j' T=>by
    by_cases e:j'=j+1
    ·subst e;exact Int.le_refl _
    ·have:=g j' (by omega);omega⟩
  ·simp only[C,decide_false,ci,if_false];refine ac (wpAny_letGo ?_);rw[l]
   exact ap ⟨plainId_quiet PySem.F.plain_min_loop _,ih (j+1) i _ vb tb c kv (by omega) h Z G O hk rk fun j' T=>by
    by_cases e:j'=j+1
    ·subst e;omega
    ·exact g j' (by omega)⟩
theorem EM {E:Value→Shared→Prop}(hc:X.calm=true)(I:eQ X pq σ H s)(T:H d=some (.frz o (.dK kvs)))(K:0<kvs.length)(hq:(q,oq)∈pq)(r:sY X σ H q oq kvs kf)(hQ:∀i kv u s',kvs[i]?=some kv→(∀j,j<kvs.length→kf i≤kf j)→eQ X pq σ H s'→eY (kV kv.1) u→Q u s'):wpAny (model X.prog X.w) X.A (call (.builtin "min") [.ref d] [(Str.ofString "key",.ref q)]) Q E s:=by
 have g:(toString "min"++toString ".loop" : String) = "min.loop":=by decide
 obtain⟨ho,hS,hx,es,ep,N,hn,p⟩:=nX I.hok T;refine kmk_tree PySem.F.kind_min PySem.F.plain_min PySem.F.entry_min (kmk_min_key _ _) ?_;show wpAny _ X.A.in1 (Builtin.Builtins.bindParams "min" ["key","default"] 0 ⟨[],[(Str.ofString "key",.ref q)]⟩ >>= _) _ _ s;refine ac (wpAny_of_eq (show Builtin.Builtins.bindParams "min" ["key","default"] 0 ⟨[],[(Str.ofString "key",.ref q)]⟩=pure [some (.ref q),none] from rfl) (ac (ap ?_)));refine ac (oF ho hx N hS (ac (wpAny_newList ?_ (bp _))));rw[g];generalize h:s.heap.objs.size=it;have z0:s.heap.get? it=none:=h▸bg (ao _);have P:eQ X pq σ H {s with heap:=s.heap.push {cls:=.type "dict_keyiterator",data:=.fields #[.ref d,.int 0 0,.int es.size 0,.int ep 0]}}:=I.kept (t':=s.toks) fun b o e=>ay _ e;have D:jw X pq H it:=I.J1 z0 (I.hok.fresh (dm h));have J:(s.heap.push {cls:=.type "dict_keyiterator",data:=.fields #[.ref d,.int 0 0,.int es.size 0,.int ep 0]}).get? it=some {cls:=.type "dict_keyiterator",data:=.fields #[.ref d,.int 0 0,.int es.size 0,.int ep 0]}:=by rw[←h];exact aJ _ rfl
 generalize s.heap.push {cls:=.type "dict_keyiterator",data:=.fields #[.ref d,.int 0 0,.int es.size 0,.int ep 0]}=h1 at *;generalize C:h1.objs.size=S;have R:h1.get? S=none:=C▸bg (ao _);have G:S≠it:=fun z=>by rw[z,J]at R;cases R
 have B:jw X pq H S:=P.J1 R (P.hok.fresh (dm C));have I2:eQ X pq σ H {s with heap:=h1.push (seqObj "list" #[] 0)}:=P.kept (t':=s.toks) fun b o e=>ay _ e;have gS:(h1.push (seqObj "list" #[] 0)).get? S=some (seqObj "list" #[] 0):=by rw[←C];exact aJ _ rfl
 have gI:(h1.push (seqObj "list" #[] 0)).IsKeyIter it d 0 es.size ep:=⟨_,ay _ J,rfl,rfl⟩;have Z:(h1.push (seqObj "list" #[] 0)).get? d=some o:=(nX I2.hok T).1;have l:0<es.size:=by omega
 have m:kvs[0]?=some (kvs[0]'K):=ak K;refine ap ⟨plainId_quiet PySem.F.plain_min_loop _,codeAny_builtin PySem.F.entry_min_loop ?_⟩;rw[Around.under_plainId PySem.F.plain_min_loop _];show wpAny _ X.A.in1 (seqItems? (.ref S) >>= _) _ _ {s with heap:=h1.push (seqObj "list" #[] 0)};refine ac (wpAny_seqItems gS rfl ?_);show wpAny _ X.A.in1 (tryCatch (pyNext (.ref it)) _ >>= _) _ _ _;refine ac (dC (oA gI Z N l fun h' M sb=>?_));have I3:eQ X pq σ H {s with heap:=h'}:=I2.turned (t':=s.toks) (fun b o O e=>(sb.2 b O).trans e) D.1 D.2.1 D.2.2.2.1 D.2.2.2.2.1 D.2.2.2.2.2;have Y:h'.get? S=_:=(sb.2 S G).trans gS;obtain⟨oI,eI,cI,dI⟩:=id M;show wpAny _ X.A.in1 (tryCatch (holding [es[0].key] (call (.ref q) [es[0].key])) _ >>= _) _ _ _;refine ac (dC (bE (ca (tX r hq D B m (p _ _ l m) I3 eI Y (fun v z=>by rw[dI]at z;cases z) (fun v z=>by cases z) (Q:=fun v s'=>∃t,v=Value.int (kf 0) t∧eQ X pq σ H s'∧s'.heap.get? it=some oI∧s'.heap.get? S=some (seqObj "list" #[] 0)) fun s' t a b e=>⟨t,rfl,a,b,e⟩) (fun x s2 he=>?_) fun _ _ hF=>hF.elim)));obtain⟨y,rfl,I4,U,L⟩:=he;have s1:=Heap.SameBut.update s2.heap S (Obj.mapSeq fun _=>#[es[0].key,.int (kf 0) y]);obtain⟨c2,hc2⟩:∃c2,(s2.heap.update S (Obj.mapSeq fun _=>#[es[0].key,.int (kf 0) y])).get? S=some (seqObj "list" #[es[0].key,.int (kf 0) y] c2):=⟨_,get?_update_seq L fun _=>#[es[0].key,.int (kf 0) y]⟩;have I5:eQ X pq σ H {s2 with heap:=s2.heap.update S (Obj.mapSeq fun _=>#[es[0].key,.int (kf 0) y])}:=I4.turned (t':=s2.toks) (fun b o O e=>(s1.2 b O).trans e) B.1 B.2.1 B.2.2.2.1 B.2.2.2.2.1 B.2.2.2.2.2;show wpAny _ X.A.in1 (updateSeq S (fun _=>#[es[0].key,.int (kf 0) y]) >>= _) _ _ _;refine ac ?_;refine wpAny_updateSeq L rfl ?_;rw[g]
 exact ap ⟨plainId_quiet PySem.F.plain_min_loop _,EL hc T N hq G D B r (fun i kv u s' a b e f=>hQ i kv u s' a b e f) _ 0 0 _ _ y c2 _ rfl l I5 hc2 ⟨oI,(s1.2 it G.symm).trans U,cI,dI⟩ m (p _ _ l m) fun j' aa=>by
  have:j'=0:=by omega
  subst this;exact Int.le_refl _⟩
end
section
variable {c P:Addr}{lp p kp:Pos}{te tb:TE}{k:Nat}
def FD (qual:Str)(lp:Pos)(P:Addr)(j j':Nat)(te tb:TE):TE:=fun σ H Q=>te σ H fun x H1=>∃d o kvs a b,x=.ref d∧H1 d=some (.frz o (.dK kvs))∧0<kvs.length∧gU qual lp H1 P∧σ[j]?=some (some a)∧σ[j']?=some (some b)∧
 ∀H2,eG (del H1 [P]) H2→gU qual lp H2 P→∃kf:Nat→Int,(∀i kv,kvs[i]?=some kv→tb [some (kV kv.1),some a,some b] H2 fun v H4=>v=.int (kf i)∧H4=H2)∧∀i kv,kvs[i]?=some kv→(∀m,m<kvs.length→kf i≤kf m)→Q (kV kv.1) H2
theorem Cn (hc:X.calm=true)(hr:gK (k+2) X.A)(S:Fg X scope x y y' cy cy' j j')(B:X.env.code=.ref c)(O:W.codeHdIn X.K c P=true)(BM:sZ X.mg X.base)(L:defaultsOf params X.env=([],[]))(hg:Gl X "min")(hm:X.mg "min" = none)(he:PE X e te)(Z:∀(c':Addr) (ctv pm u:Value),bindArgs (W.kla_fn "<lambda>" (X.env.qual++"<lambda>") params body scope [(y,cy),(y',cy')] pm (.ref c') ctv) ⟨[u],[]⟩=pure [(x,u)])(hB:∀q c' s H,PE (IE X X.A.in1 (X.env.qual++"<lambda>") scope q c' [(y,cy),(y',cy')] [x,y,y'] s H) body tb)(hs:starEach [e] X.env=[(false,eval e X.env)]:=by rfl):PE X (.Call (.Name "min" p) [e] [⟨some "key",.Lambda params body scope lp,kp⟩] pos) (FD (X.env.qual++"<lambda>") lp P j j' te tb):=by
 intro pins s σ H Q I h;refine bJ (jl I hg hm PyProof.Rows.Boot.«min» ?_ (by decide) (by decide));refine callWith_kw ?_ (by rw[hs];rfl) (by rw[hs];rfl)
 have hA:=(dZ he el hs) pos pins s σ H (fun vs H1=>match vs with | [x]=>(∃d o kvs a b,x=.ref d∧H1 d=some (.frz o (.dK kvs))∧0<kvs.length∧gU (X.env.qual++"<lambda>") lp H1 P∧σ[j]?=some (some a)∧σ[j']?=some (some b)∧
  ∀H2,eG (del H1 [P]) H2→gU (X.env.qual++"<lambda>") lp H2 P→∃kf:Nat→Int,(∀i g,kvs[i]?=some g→tb [some (kV g.1),some a,some b] H2 fun v H4=>v=.int (kf i)∧H4=H2)∧∀i g,kvs[i]?=some g→(∀m,m<kvs.length→kf i≤kf m)→Q (kV g.1) H2) | _=>False) I h
 refine fW hA ?_;rintro us s1 ⟨vs,H1,I1,r,U⟩
 match vs,r,U with
 |[xv],r,⟨d,o,kvs,a,b,e2,hd,hne,hT,ea,eb,hq⟩=>
  subst e2;obtain⟨u,rfl,Y⟩:=ji r;cases (show u=Value.ref d from Y);refine kws_cons (AC S B O BM L I1 hT fun q c' ctv s2 H2 I2 T J N=>kws_nil ?_);obtain⟨kf,hk,hQ⟩:=hq H2 T J;have M:d≠P:=fun z=>by
   rcases hT with w | ⟨_,w,_⟩ <;> (rw[←z,hd]at w;cases w)
  have F:H2 d=some (.frz o (.dK kvs)):=T _ _ (by rw[eE (by simpa using M)];exact hd);refine EM (kf:=kf) hc I2 F hne (aK _ (aj.mpr rfl)) (fun i g hi pins' E u' t hp R=>?_) fun i g u' E hi l t R=>⟨kV g.1,H2,t.JU,R,hQ i g hi l⟩;have D:E.heap.CodeRec (.ref c') (X.env.qual++"<lambda>"):=(show fN X.prog X.w H2 E.heap c' (.ext fun h=>h.CodeRec (.ref c') (X.env.qual++"<lambda>")) from t.hok c' _ N).1;have G:X.A.in1.frames=some X.stack:=t.ok.frames;refine wpAny_call (codeAny_mono (AD (k:=k) S G hr.in1 t (t.pin _ (aK _ hp)).1 D (Z c' ctv _) ea eb R (hB q c' E H2) (hk i g hi)) fun rr s4 C=>?_);cases rr with
  |error e=>exact(show False from C).elim
  |ok fl=>
   cases fl with
   |ret u2=>exact t.after C
   |next=>exact False.elim C
   |brk=>exact False.elim C
   |cont=>exact False.elim C
end
section
variable {C:Addr}{o value:Expr}{f m:Str}{pos' tpos apos:Pos}{ta tv:TE}{t:TA}{es:List Expr}
inductive Ja (C:Addr)(f:Str)(Q:VK)(x:V)(H1:Hp):Prop
 |mk (a dx fs v:_)(_:x=.ref a)(_:H1 a=some (.ins C dx fs))(_:fs.lookup f=some v)(_:Q v H1):Ja C f Q x H1
def tF (C:Addr)(f:Str)(ta:TE):TE:=fun σ H Q=>ta σ H fun x H1=>Ja C f Q x H1
theorem eJ (c:qw X.K C)(n:fV X.K C f)(i:PE X e ta)(hb:attributeBase e f X.env (eval e X.env)=eval e X.env:=by rfl):PE X (.Attribute e f pos) (tF C f ta):=by
 intro pins s σ H Q I h;refine wQ hb (fW (i pins s σ H _ I h) ?_);rintro u o ⟨x,H1,d,b,a,dx,fs,v,ex,j,l,q⟩;subst ex;obtain rfl:u=Value.ref a:=b;exact md d j c n l fun r p m g=>⟨v,H1,m,g,q⟩
inductive Jc (C:Addr)(f:Str)(D:mS)(σ:St)(y:V)(x:V)(H2:Hp):Prop
 |mk (a dx fs:_)(_:x=.ref a)(_:H2 a=some (.ins C dx fs))(_:fs.length<1000)(_:D.nx σ (upd H2 a (.ins C dx (fZ f y fs)))):Jc C f D σ y x H2
def sF (C:Addr)(f:Str)(ta tv:TE):TS:=fun D σ H=>tv σ H fun y H1=>ta σ H1 fun x H2=>Jc C f D σ y x H2
theorem ju (c:qw X.K C)(n:fV X.K C f)(p:PE X o ta)(m:PE X value tv)(hs:swapsWith value (some (.Attribute o f pos')) pos.line X.env=pure false:=by rfl):PS X (.Assign [.Attribute o f pos'] value pos) (sF C f ta tv):=by
 intro pins s σ H D I h;refine plainObj_wpAny_Assign_Attribute (fW (m pins s σ H _ I h) ?_) hs;rintro u b ⟨y,H1,e,g,q⟩;refine fW (p pins b σ H1 _ e q) ?_;rintro i z ⟨x,H2,t,d,a,dx,fs,ex,r,l,v⟩;subst ex;obtain rfl:i=Value.ref a:=d;exact lS t r c n l g fun w j=>⟨σ,_,j,v⟩
inductive BI (C:Addr)(f:Str)(tv:TE)(rd:V→V→Hp→VK→Prop)(D:mS)(σ:St)(x:V)(H1:Hp):Prop
 |mk (a dx fs v:_)(_:x=.ref a)(_:H1 a=some (.ins C dx fs))(_:fs.lookup f=some v)(_:tv σ H1 fun y H2=>rd v y H2 fun z H3=>∃dx' fs',H3 a=some (.ins C dx' fs')∧fs'.length<1000∧D.nx σ (upd H3 a (.ins C dx' (fZ f z fs')))):BI C f tv rd D σ x H1
def Gb (C:Addr)(f:Str)(ta tv:TE)(rd:V→V→Hp→VK→Prop):TS:=fun D σ H=>ta σ H fun x H1=>BI C f tv rd D σ x H1
theorem Cj {op:Operator}{rd:V→V→Hp→VK→Prop}(c:qw X.K C)(n:fV X.K C f)(M:PE X o ta)(J:PE X value tv)(b:Fm X op rd):PS X (.AugAssign (.Attribute o f tpos) op value pos) (Gb C f ta tv rd):=by
 intro pins s σ H D I h;refine wpAny_AugAssign_AttributeAny (fW (M pins s σ H _ I h) ?_);rintro B T ⟨x,H1,i,A,a,dx,fs,v,ex,P,l,q⟩;subst ex;obtain rfl:B=Value.ref a:=A;refine md i P c n l fun u m t L=>fW (J pins m σ H1 _ t q) ?_;rintro e G ⟨y,H2,j,E,r⟩;refine fW (b pins G σ H2 v y u e _ j L E r) ?_;rintro Q R ⟨z,S,g,F,O,fs',d,N,w⟩;exact lS g d c n N F fun U p=>⟨σ,_,p,w⟩
end
structure Mt (P:Program)(w:World)(K:W.Frag)(mg:Str→Option Value)(base:Heap)(C:Addr)(CX:xB)(k:Nat)(m:Str)(ps:List Str)(sp:Sp):Prop where
 cl:qw K C
 ex:∃g gd,eZ P w K mg base CX k g gd ps sp∧gl K gd ps []∧yR K C m g
section
variable {CX:xB}{k:Nat}{C:Addr}{o:Expr}{es:List Expr}{m:Str}{ps:List Str}{sp:Sp}{E:XK}{apos:Pos}{ta:TE}{t:TA}
theorem ib {pl:Sem Bool}(M:Mt X.prog X.w X.K X.mg X.base C CX k m ps sp)(h:gK k X.A)(i:jR CX X E)(a:PE X o ta)(d:PA X (e::es) t)(hst:starEach (e::es) X.env=(false,eval e X.env)::starEach es X.env:=by rfl)(hpl:(backTo pos (starEach es X.env)).any (·.1)=false:=by rfl)(ht:eval (.Call (.Attribute o m apos) (e::es) [] pos) X.env=(do
   let ov ←eval o X.env
   standAt apos.atName
   let (f,first) ←holding [ov] (getMethod ov m pl)
   callWith pos f first (backTo pos (starEach (e::es) X.env)) (backToKw pos (keywordEach [] X.env))):=by rfl) :
  PE X (.Call (.Attribute o m apos) (e::es) [] pos) (tD C m sp [] E ta t):=by
 obtain⟨g,gd,F,b,j⟩:=M.ex;exact Co a M.cl j F h b .nil i d hst hpl ht
theorem qI {pl:Sem Bool}(M:Mt X.prog X.w X.K X.mg X.base C CX k m ps sp)(d:gK k X.A)(e:jR CX X E)(a:PE X o ta)(ht:eval (.Call (.Attribute o m apos) [] [] pos) X.env=(do
   let ov ←eval o X.env
   standAt apos.atName
   let (f,first) ←holding [ov] (getMethod ov m pl)
   callWith pos f first (backTo pos (starEach [] X.env)) (backToKw pos (keywordEach [] X.env))):=by rfl) :
  PE X (.Call (.Attribute o m apos) [] [] pos) (tD C m sp [] E ta xE):=by
 obtain⟨g,gd,F,b,h⟩:=M.ex;exact zN a M.cl h F d b .nil e ht
end
end L2
namespace FB
open PySem L2 PyProof.Rows
variable {H H':Hp}{a:Addr}{v:V}{w:Option Pk}{x:Str}
def eg.Who (c:eg)(w:Option Pk):Prop:=∀k,w=some k→k∈c.ks
def eg.KJ (c:eg)(w:Option Pk)(k:Pk):Bool:=(c.needs w).any fun n=>qi n k
theorem eg.KK {c:eg}{k:Pk}:c.KJ w k=true↔c.Km w k:=by
 unfold eg.KJ eg.Km;rw[dG]
def eg.KL (c:eg)(x:Str):Nat:=c.maskOf fun k=>decide (k.1=x)
def jk (ns:List Nd)(x:Str)(v:Int):Bool:=ns.all fun n=>!decide (n.1=x)||mi n v
def eg.KM (c:eg)(w:Option Pk)(x:Str):Nat:=c.maskOf fun k=>decide (k.1=x)&&jk (c.needs w) x k.2
def eg.KN (c:eg)(w:Option Pk):Nat:=c.maskOf (c.KJ w)
def eg.KO (c:eg):Option Pk→Nat
 |none=>c.KN none
 |some k=>c.maskOf fun j=>c.KJ (some k) j||c.KJ (some j) k
theorem eg.KP {c:eg}{k:Pk}:c.has (c.KL x) k↔k∈c.ks∧k.1=x:=by
 unfold eg.KL;rw[eg.Kk,aw]
theorem eg.KQ {c:eg}{k:Pk}:c.has (c.KN w) k↔k∈c.ks∧c.Km w k:=by
 unfold eg.KN;rw[eg.Kk,eg.KK]
theorem eg.KR {c:eg}{j k:Pk}:c.has (c.KO (some k)) j↔j∈c.ks∧c.foe k j:=by
 show c.has (c.maskOf _) j↔_;rw[eg.Kk,cS,eg.KK,eg.KK];exact Iff.rfl
theorem eg.KS (c:eg)(w:Option Pk):c.KO w<2^c.n:=by
 cases w <;> exact c.Kl _
theorem lZ {ns:List Nd}{v:Int}:jk ns x v=true↔∀n∈ns,n.1=x→mi n v=true:=by
 unfold jk;rw[bF];refine forall_congr' fun n=>forall_congr' fun _=>?_;rw[cS,bQ,decide_eq_false_iff_not];exact⟨fun h e=>h.resolve_left fun z=>z e,fun h=>(Decidable.em (n.1=x)).elim (fun z=>.inr (h z)) .inl⟩
theorem eg.KU {c:eg}(h:c.Who w):c.J4 w<2^c.n:=by
 cases w with
 |none=>exact bL _
 |some k=>exact c.Kf (h k rfl)
theorem eg.KW {c:eg}(h:c.Who w){j:Pk}:c.has (c.J4 w) j↔w=some j:=by
 cases w with
 |none=>exact⟨fun z=>(eg.Ke z).elim,fun z=>by cases z⟩
 |some k=>rw[show c.J4 (some k)=c.bit k from rfl,eg.Kd (h k rfl)];exact⟨fun z=>by rw[z],fun z=>(Option.some.inj z).symm⟩
theorem EB {a b:Nat}(h:a &&& b=0):a ||| b=a+b:=by
 have h1:=bitOr_and (a:Int) (b:Int);rw[wP,nL,h]at h1
 lia
theorem eg.KY {c:eg}:∀(l:List Pk),l.Nodup→(∀k∈l,k∈c.ks)→(l.map fun k=>(c.bit k:Int)).sum=(c.maskOf fun k=>decide (k∈l):Nat)
 |[],_,_=>by
  have:c.maskOf (fun k=>decide (k∈([]:List Pk)))=0:=eg.Kg (c.Kl _) fun k hk=>by
   have:=(eg.Kk.mp hk).2;simp at this
  rw[this];rfl
 |x::l,hn,hk=>by
  rw[aX]at hn;have ih:=eg.KY l hn.2 fun k h=>hk k (by simp[h]);have hx:=hk x (by simp);rw[aD,List.sum_cons,ih];have e:c.maskOf (fun k=>decide (k∈x::l))=c.bit x ||| c.maskOf (fun k=>decide (k∈l)):=by
   refine eg.ext (c.Kl _) (i6 (c.Kf hx) (c.Kl _)) fun k=>?_;rw[eg.Ka,eg.Kk,eg.Kk,eg.Kd hx,aw,aw,am]
   constructor
   ·rintro⟨h1,h2 | h2⟩
    ·exact .inl h2
    ·exact .inr ⟨h1,h2⟩
   ·rintro(h | ⟨h1,h2⟩)
    ·exact⟨h▸hx,.inl h⟩
    ·exact⟨h1,.inr h2⟩
  have d:c.bit x &&& c.maskOf (fun k=>decide (k∈l))=0:=eg.Kg (nM (c.Kf hx)) fun k h=>by
   obtain⟨h1,h2⟩:=eg.Kb.mp h;rw[(eg.Kd hx).mp h1]at h2;exact hn.1 (aW (eg.Kk.mp h2).2)
  rw[e,EB d]
  lia
def fw (w:Option Pk):fM:=w.map jf
theorem ik {v:Option Pk}(h:fw v=fw w):v=w:=by
 cases v with
 |none=>cases w with
  |none=>rfl
  |some k=>cases h
 |some j=>cases w with
  |none=>cases h
  |some k=>exact congrArg some (p7 (Option.some.inj h))
theorem gz.key (h:gz H v w):lK H (fw w) v:=by
 cases w with
 |none=>exact h
 |some k=>obtain⟨q,rfl,e⟩:=(show fg H v k from h);exact⟨q,rfl,e⟩
theorem gz.of (h:lK H (fw w) v):gz H v w:=by
 cases w with
 |none=>exact h
 |some k=>obtain⟨q,rfl,e⟩:=(show ∃b,v=.ref b∧H b=some (.tup ((jf k).map kV)) from h);exact⟨q,rfl,e⟩
def ic (H:Hp)(a:Addr)(c:eg)(g:Option Pk→Nat):Prop:=∃kvs,Rd H a (.dN kvs)∧∀w,c.Who w→eW kvs (fw w)=some (.int (g w))
def j3 (H:Hp)(a:Addr)(c:eg)(g:Option Pk→Nat):Prop:=∃kvs,Rd H a (.dN kvs)∧(∀kv∈kvs,∃w,c.Who w∧kv.1=fw w)∧∀w,c.Who w→eW kvs (fw w)=some (.int (g w))
theorem j3.to {c:eg}{g:Option Pk→Nat}(h:j3 H a c g):ic H a c g:=(by obtain⟨kvs,h1,_,h3⟩:=h;exact⟨kvs,h1,h3⟩)
def oo (H:Hp)(a:Addr)(c:eg):Prop:=∃kvs,Rd H a (.dK kvs)∧∀k∈c.ks,∃v,eW kvs (Sum.inl (c.bit k:Int))=some v∧fg H v k
def lJ (H:Hp)(a:Addr)(c:eg):Prop:=∃kvs,Rd H a (.dK kvs)∧∀x:Str,(eW kvs (Sum.inr x)).getD (.int 0)=.int (c.KL x)∧((∃k∈c.ks,k.1=x)→eW kvs (Sum.inr x)=some (.int (c.KL x)))
def iO (H:Hp)(d:Addr)(c:eg)(w:Option Pk):Prop:=∃o akv,H d=some (.frz o (.dK akv))∧akv.map (·.1)=(eO (c.needs w)).map Sum.inr∧∀x∈eO (c.needs w),eW akv (Sum.inr x)=some (.int (c.KM w x))
def tj (H:Hp)(a:Addr)(c:eg):Prop:=∃kvs,Rd H a (.dN kvs)∧∀w,c.Who w→∃d,eW kvs (fw w)=some (.ref d)∧iO H d c w
theorem ic.same (e:eG H H'){c:eg}{g:Option Pk→Nat}(h:ic H a c g):ic H' a c g:=(by obtain⟨kvs,h1,h2⟩:=h;exact⟨kvs,ie e h1,h2⟩)
theorem j3.same (e:eG H H'){c:eg}{g:Option Pk→Nat}(h:j3 H a c g):j3 H' a c g:=(by obtain⟨kvs,h1,h2⟩:=h;exact⟨kvs,ie e h1,h2⟩)
theorem lJ.same (e:eG H H'){c:eg}(h:lJ H a c):lJ H' a c:=(by obtain⟨kvs,h1,h2⟩:=h;exact⟨kvs,ie e h1,h2⟩)
theorem iO.same (e:eG H H'){d:Addr}{c:eg}(h:iO H d c w):iO H' d c w:=(by obtain⟨o,akv,h1,h2⟩:=h;exact⟨o,akv,e _ _ h1,h2⟩)
theorem tj.same (e:eG H H'){c:eg}(h:tj H a c):tj H' a c:=(by obtain⟨kvs,h1,h2⟩:=h;exact⟨kvs,ie e h1,fun w hw=>(by obtain⟨d,g1,g2⟩:=h2 w hw;exact⟨d,g1,g2.same e⟩)⟩)
theorem ic.get {c:eg}{g:Option Pk→Nat}(h:ic H a c g)(hw:c.Who w)(hv:gz H v w):iw H a v (some (.int (g w))):=(by obtain⟨kvs,h1,h2⟩:=h;exact⟨kvs,fw w,h1,hv.key,(h2 w hw).symm⟩)
theorem j3.get {c:eg}{g:Option Pk→Nat}(h:j3 H a c g)(hw:c.Who w)(hv:gz H v w):iw H a v (some (.int (g w))):=h.to.get hw hv
theorem tj.get {c:eg}(h:tj H a c)(hw:c.Who w)(hv:gz H v w):∃d,iw H a v (some (.ref d))∧iO H d c w:=let ⟨kvs,h1,h2⟩:=h;(by obtain⟨d,g1,g2⟩:=h2 w hw;exact⟨d,⟨kvs,fw w,h1,hv.key,g1.symm⟩,g2⟩)
theorem lJ.get {c:eg}(h:lJ H a c)(x:Str):∃o,jt H a (.str x) o∧o.getD (.int 0)=.int (c.KL x):=(by obtain⟨kvs,h1,h2⟩:=h;exact⟨_,.inl ⟨kvs,Sum.inr x,h1,rfl,rfl⟩,(h2 x).1⟩)
theorem lJ.isD {c:eg}(h:lJ H a c):Hg H a:=(by obtain⟨kvs,h1,_⟩:=h;exact .inl ⟨kvs,h1⟩)
theorem iO.get {d:Addr}{c:eg}(h:iO H d c w)(hx:x∈eO (c.needs w)):jt H d (.str x) (some (.int (c.KM w x))):=(by obtain⟨o,akv,h1,_,h3⟩:=h;exact .inl ⟨akv,Sum.inr x,.inr ⟨o,h1⟩,rfl,(h3 x hx).symm⟩)
abbrev Fb (b bits by_ ofp al sh fo:Addr):List (Str×V):=[("board",.ref b),("bits",.ref bits),("by_bit",.ref by_),("of_part",.ref ofp),("allowed",.ref al),("shut_out",.ref sh),("foes",.ref fo)]
inductive uK (CB CC:Addr)(H:Hp)(p:Addr)(c:eg):Prop
 |mk (dx b bits by_ ofp al sh fo st:_)(_:H p=some (.ins CC dx (Fb b bits by_ ofp al sh fo)))(_:gi CB H b st c.es)(_:gL H st c.sn)(_:ic H bits c c.J4)(_:oo H by_ c)(_:lJ H ofp c)(_:tj H al c)(_:ic H sh c c.KN)(_:j3 H fo c c.KO):uK CB CC H p c
structure iu (CB CC:Addr)(H:Hp)(p:Addr)(c:eg):Prop where
 ex:uK CB CC H p c
structure TC (K:W.Frag)(mg:Str→Option Value)(C:Addr):Prop where
 cl:qw K C
 nBoard:fV K C "board"
 nBits:fV K C "bits"
 nBy:fV K C "by_bit"
 nOf:fV K C "of_part"
 nAl:fV K C "allowed"
 nSh:fV K C "shut_out"
 nFo:fV K C "foes"
 sorted:mg "sorted" = none
 max:mg "max" = none
 min:mg "min" = none
 sum:mg "sum" = none
end FB
namespace L2
open PySem PySem.Spec PyProof.Rows FB
variable {H H':Hp}{b:Addr}
def eD (H H':Hp):Prop:=∀b u,H b=some u→H' b=some u∨(Dh u∧∃o,H' b=some (.frz o u))
theorem eG.toF (e:eG H H'):eD H H':=fun b u h=>.inl (e b u h)
theorem eD.refl (H:Hp):eD H H:=fun _ _ h=>.inl h
theorem eD.trans {H1 H2:Hp}(a:eD H H1)(b:eD H1 H2):eD H H2:=fun c u h=>by
 rcases a c u h with z | ⟨f,o,z⟩
 ·exact b c u z
 ·rcases b c _ z with y | ⟨g,_⟩
  ·exact .inr ⟨f,o,y⟩
  ·exact g.elim
theorem eD.no (e:eD H H'){u:HO}(h:H b=some u)(n:¬Dh u):H' b=some u:=(e b u h).resolve_right fun z=>n z.1
theorem eD.lst (e:eD H H'){xs:List V}(h:H b=some (.lst xs)):H' b=some (.lst xs):=e.no h fun z=>z
theorem eD.tup (e:eD H H'){xs:List V}(h:H b=some (.tup xs)):H' b=some (.tup xs):=e.no h fun z=>z
theorem eD.ins (e:eD H H'){C dx:Addr}{fs:List (Str×V)}(h:H b=some (.ins C dx fs)):H' b=some (.ins C dx fs):=e.no h fun z=>z
theorem eD.frz (e:eD H H'){o:Obj}{u:HO}(h:H b=some (.frz o u)):H' b=some (.frz o u):=e.no h fun z=>z
theorem eD.rd (e:eD H H'){u:HO}(h:Rd H b u):Rd H' b u:=by
 rcases h with h | ⟨o,h⟩
 ·rcases e b u h with z | ⟨_,o,z⟩
  ·exact .inl z
  ·exact .inr ⟨o,z⟩
 ·exact .inr ⟨o,e.frz h⟩
theorem eD.free (e:eD H H')(h:H' b=Option.none):H b=Option.none:=by
 cases q:H b with
 |none=>rfl
 |some u=>
  rcases e b u q with z | ⟨_,o,z⟩
  ·rw[z]at h;cases h
  ·rw[z]at h;cases h
theorem eD.upd (e:eD H H'){u:HO}(h:H b=Option.none):eD H (upd H' b u):=fun c v q=>by
 have:c≠b:=fun z=>by rw[z,h]at q;cases q
 rcases e c v q with z | ⟨f,o,z⟩
 ·exact .inl (by rw[ef this];exact z)
 ·exact .inr ⟨f,o,by rw[ef this];exact z⟩
section
variable {X:Cx}{tg l:Expr}{tl:TE}
inductive DZ (R:It→Hp→Prop)(x:V)(H1:Hp):Prop
 |mk (a kvs:_)(_:x=.ref a)(_:Rd H1 a (.dK kvs))(_:∀o H2,eD H1 H2→(∀b,b≠a→H2 b=H1 b)→H2 a=some (.frz o (.dK kvs))→R (Fj a o kvs) H2):DZ R x H1
def IB (tl:TE):TI:=fun σ H R=>tl σ H fun x H1=>DZ R x H1
inductive DY (R:It→Hp→Prop)(x:V)(H1:Hp):Prop
 |mk (a kvs:_)(_:x=.ref a)(_:Rd H1 a (.dN kvs))(_:∀o H2,eD H1 H2→(∀b,b≠a→H2 b=H1 b)→H2 a=some (.frz o (.dN kvs))→R (Fr a o kvs) H2):DY R x H1
def IA (tl:TE):TI:=fun σ H R=>tl σ H fun x H1=>DY R x H1
theorem qD {a:Addr}{u:HO}{o:Obj}(e:H a=some u)(hu:Dh u):eD H (upd H a (.frz o u)):=fun b v h=>by
 by_cases hb:b=a
 ·subst hb;rw[e]at h;cases h;exact .inr ⟨hu,o,d0⟩
 ·exact .inl (by rw[ef hb];exact h)
theorem Ex (B:PE X l tl):PI X tg l (IB tl):=by
 intro pins s σ H R I h;refine fW (B pins s σ H _ I h) ?_;rintro v i ⟨x,H1,p,t,a,kvs,ex,d,q⟩;subst ex;cases (show v=Value.ref a from t);have r:∀(o:Obj) (H2:Hp),eQ X pins σ H2 i→H2 a=some (.frz o (.dK kvs))→R (Fj a o kvs) H2→wpAny (model X.prog X.w) X.A (pyIter (.ref a)) (HA X pins σ tg R) X.xe i:=fun o H2 g y F=>by
  obtain⟨z,E,C,es,ep,m,D,_⟩:=nX g.hok y;refine oF z C m E ⟨i.heap.objs.size,[i.heap.objs.size],_,_,H2,rfl,g.kept (t':=i.toks) fun b o e=>ay _ e,v9 a _ o es ep kvs m D,⟨_,aJ _ rfl,rfl,rfl⟩,fun b j=>?_,F⟩
  rw[aj.mp j];exact g.JT (ao _) (g.hok.fresh (ao _))
 rcases d with d | ⟨o,d⟩
 ·obtain⟨o,_,g⟩:=p.freeze d trivial;exact r o _ g d0 (q o _ (qD d trivial) (fun b j=>ef j) d0)
 ·exact r o H1 p d (q o H1 (eD.refl _) (fun _ _=>rfl) d)
theorem sv (B:PE X l tl):PI X tg l (IA tl):=by
 intro pins s σ H R I h;refine fW (B pins s σ H _ I h) ?_;rintro v i ⟨x,H1,p,t,a,kvs,ex,d,q⟩;subst ex;cases (show v=Value.ref a from t);have r:∀(o:Obj) (H2:Hp),eQ X pins σ H2 i→H2 a=some (.frz o (.dN kvs))→R (Fr a o kvs) H2→wpAny (model X.prog X.w) X.A (pyIter (.ref a)) (HA X pins σ tg R) X.xe i:=fun o H2 g y F=>by
  obtain⟨z,E,C,es,ep,m,D,_⟩:=AO g.hok y;refine oF z C m E ⟨i.heap.objs.size,[i.heap.objs.size],_,_,H2,rfl,g.kept (t':=i.toks) fun b o e=>ay _ e,BR a _ o es ep kvs m D,⟨_,aJ _ rfl,rfl,rfl⟩,fun b j=>?_,F⟩
  rw[aj.mp j];exact g.JT (ao _) (g.hok.fresh (ao _))
 rcases d with d | ⟨o,d⟩
 ·obtain⟨o,_,g⟩:=p.freeze d trivial;exact r o _ g d0 (q o _ (qD d trivial) (fun b j=>ef j) d0)
 ·exact r o H1 p d (q o H1 (eD.refl _) (fun _ _=>rfl) d)
end
end L2
namespace FB
open PySem L2 PyProof.Rows
variable {G G' H H':Hp}{L:ij}{O O' Ol:List Addr}{a b p pp:Addr}{j m pm:Nat}{kl:List Pk}{kvp:List (fM×V)}{v:V}{w:Option Pk}{x:Str}
section
variable {H H':Hp}(e:eD H H')
include e
theorem fg.f {k:Pk}(h:fg H v k):fg H' v k:=(by obtain⟨q,h1,h2⟩:=h;exact⟨q,h1,e.tup h2⟩)
theorem gX.f {n:Nd}(h:gX H v n):gX H' v n:=(by obtain⟨q,h1,h2⟩:=h;exact⟨q,h1,e.tup h2⟩)
theorem gL.f {ns:List Nd}(h:gL H a ns):gL H' a ns:=(by obtain⟨xs,h1,h2⟩:=h;exact⟨xs,e.lst h1,Paired.JH h2 fun _ _ z=>gX.f e z⟩)
theorem mQ.f {kv:fM×V}{n:En}(h:mQ H kv n):mQ H' kv n:=(by obtain⟨h1,a,zs,h2,h3,h4⟩:=h;exact⟨h1,a,zs,h2,e.lst h3,Paired.JH h4 fun _ _ z=>gX.f e z⟩)
theorem gi.f {C st:Addr}{es:List En}(h:gi C H p st es):gi C H' p st es:=by
 obtain⟨dx,g,j,a,vk,h1,h2,m,o,q⟩:=h.ex;refine⟨dx,g,j,a,vk,e.ins h1,e.rd h2,Paired.JH m fun _ _ z=>mQ.f e z,e.rd o,fun x=>?_⟩;rcases q x with z | ⟨l,b,i,g2,g3,d⟩
 ·exact .inl z
 ·exact .inr ⟨l,b,i,e.lst g2,g3,d⟩
theorem ic.f {c:eg}{g:Option Pk→Nat}(h:ic H a c g):ic H' a c g:=(by obtain⟨kvs,h1,h2⟩:=h;exact⟨kvs,e.rd h1,h2⟩)
theorem j3.f {c:eg}{g:Option Pk→Nat}(h:j3 H a c g):j3 H' a c g:=(by obtain⟨kvs,h1,h2⟩:=h;exact⟨kvs,e.rd h1,h2⟩)
theorem oo.f {c:eg}(h:oo H a c):oo H' a c:=(by obtain⟨kvs,h1,h2⟩:=h;exact⟨kvs,e.rd h1,fun k hk=>(by obtain⟨v,g1,g2⟩:=h2 k hk;exact⟨v,g1,fg.f e g2⟩)⟩)
theorem lJ.f {c:eg}(h:lJ H a c):lJ H' a c:=(by obtain⟨kvs,h1,h2⟩:=h;exact⟨kvs,e.rd h1,h2⟩)
theorem iO.f {d:Addr}{c:eg}(h:iO H d c w):iO H' d c w:=(by obtain⟨o,akv,h1,h2⟩:=h;exact⟨o,akv,e.frz h1,h2⟩)
theorem tj.f {c:eg}(h:tj H a c):tj H' a c:=(by obtain⟨kvs,h1,h2⟩:=h;exact⟨kvs,e.rd h1,fun w hw=>(by obtain⟨d,g1,g2⟩:=h2 w hw;exact⟨d,g1,g2.f e⟩)⟩)
theorem iu.f {CB CC:Addr}{c:eg}(h:iu CB CC H p c):iu CB CC H' p c:=by
 obtain⟨dx,b,bits,d,a,i,l,o,st,h1,h2,j,r,t,m,s,g,q⟩:=h.ex;exact⟨dx,b,bits,d,a,i,l,o,st,e.ins h1,h2.f e,j.f e,r.f e,t.f e,m.f e,s.f e,g.f e,q.f e⟩
theorem gz.f {o:Option Pk}(h:gz H v o):gz H' v o:=by
 cases o with
 |none=>exact h
 |some k=>exact fg.f e h
end
theorem qb {ps:List Addr}{u:HO}(h:b∈ps):del (upd H b u) ps=del H ps:=by
 funext x
 unfold del;by_cases hx:x∈ps
 ·rw[if_pos hx,if_pos hx]
 ·rw[if_neg hx,if_neg hx,ef (fun z:x=b=>hx (by rw[z];exact h))]
theorem Fa {es:List En}(sn:List Nd){ks:List Pk}(hn:(es.map eX).Nodup)(hp:ks.Perm (es.map eX))(ho:ks.Pairwise fun a b=>qq a b=true):∃c:eg,c.es=es∧c.sn=sn∧c.ks=ks:=
 ⟨⟨es,sn,ks,fun k=>hp.mem_iff,hp.nodup_iff.mpr hn,hp,ho,fun i j a b hi hj hij e=>by
  obtain⟨h1,e1⟩:=af.mp hi;obtain⟨h2,e2⟩:=af.mp hj;have:=List.pairwise_iff_getElem.mp ho i j h1 h2 hij;rw[e1,e2]at this;unfold qq at this;rw[if_pos e]at this
  exact aW this⟩,rfl,rfl,rfl⟩
structure iy (G H:Hp)(O:List Addr)(G' H':Hp)(O':List Addr):Prop where
 gg:eD G G'
 gh:eD G' H'
 gn:∀a,G a=none→G' a≠none→H a=none
 on:∀a∈O',a∈O∨H a=none
 fr:eD (del H O) H'
 lv:∀a,H' a=none→H a=none
theorem iy.refl (h:eD G H):iy G H O G H O:=⟨eD.refl _,h,fun a e n=>absurd e n,fun a h=>.inl h,(fm _ _).toF,fun _ h=>h⟩
theorem iy.trans {G1 H1 G2 H2:Hp}{O1 O2:List Addr}(a:iy G H O G1 H1 O1)(b:iy G1 H1 O1 G2 H2 O2):iy G H O G2 H2 O2:=by
 refine⟨a.gg.trans b.gg,b.gh,fun x e n=>?_,fun x l=>?_,fun x u e=>?_,fun x e=>a.lv x (b.lv x e)⟩
 ·cases h1:G1 x with
  |some u=>exact a.gn x e (by rw[h1];exact fun z=>nomatch z)
  |none=>exact a.lv x (b.gn x h1 n)
 ·rcases b.on x l with z | z
  ·exact a.on x z
  ·exact .inr (a.lv x z)
 ·have g:x∉O:=fun z=>by rw[fH z]at e;cases e
  have j:H x=some u:=by rw[eE g]at e;exact e
  have d:x∉O1:=fun z=>by
   rcases a.on x z with y | y
   ·exact g y
   ·rw[j]at y;cases y
  rcases a.fr x u e with z | ⟨i,o,h⟩
  ·exact b.fr x u (by rw[eE d];exact z)
  ·exact .inr ⟨i,o,b.fr.frz (by rw[eE d];exact h)⟩
theorem iy.same (h:eD G H)(e:eG H H'):iy G H O G H' O:=⟨eD.refl _,h.trans e.toF,fun a e n=>absurd e n,fun a h=>.inl h,((fm _ _).trans e).toF,fun _ h=>e.free h⟩
theorem iy.put {u:HO}(h:eD G H)(e:H a=none):iy G H O (upd G a u) (upd H a u) O:=by
 refine⟨(eD.refl G).upd (h.free e),fun x v q=>?_,fun x g n=>?_,fun x b=>.inl b,fun x v q=>?_,fun x q=>?_⟩
 ·by_cases z:x=a
  ·subst z;rw[d0]at q ⊢;exact .inl q
  ·rw[ef z]at q ⊢;exact h x v q
 ·by_cases z:x=a
  ·rw[z];exact e
  ·rw[ef z]at n;exact absurd g n
 ·refine .inl ?_;have:H x=some v:=fm _ _ x v q;rw[ef (eo this e)];exact this
 ·by_cases z:x=a
  ·subst z;exact e
  ·rw[ef z]at q;exact q
theorem iy.keep (g:iy G H O G' H' O'){u:HO}(n:a∉O)(e:H a=some u)(f:¬Dh u):H' a=some u:=g.fr.no (by rw[eE n];exact e) f
theorem iy.out (g:iy G H O G' H' O'){u:HO}(n:a∉O)(e:H a=some u):a∉O':=fun z=>by
 rcases g.on a z with y | y
 ·exact n y
 ·rw[e]at y;cases y
theorem iy.off (g:iy G H O G' H' O'){u:HO}(n:G a=none)(e:H a=some u):G' a=none:=by
 cases h:G' a with
 |none=>rfl
 |some v=>
  have:=g.gn a n (by rw[h];exact fun z=>nomatch z);rw[e]at this;cases this
theorem iy.own (g:iy G H O G' H' O'){u:HO}(d:H b=none)(i:G' b=none):iy G H O G' (upd H' b u) O':=by
 refine⟨g.gg,g.gh.upd i,g.gn,g.on,g.fr.upd ?_,fun a e=>?_⟩
 ·cases h:del H O b with
  |none=>rfl
  |some v=>rw[fm _ _ b v h]at d;cases d
 ·by_cases z:a=b
  ·rw[z];exact d
  ·rw[ef z]at e;exact g.lv a e
theorem iy.base (g:iy G H O G' H' O')(gh:eD G H){u:HO}(d:H b=none)(e:H' b=some u):iy G H O (upd G' b u) H' O':=by
 refine⟨g.gg.upd (gh.free d),fun a v q=>?_,fun a e n=>?_,g.on,g.fr,g.lv⟩
 ·by_cases z:a=b
  ·rw[z,d0]at q;rw[z];exact .inl (e.trans q)
  ·rw[ef z]at q;exact g.gh a v q
 ·by_cases z:a=b
  ·rw[z];exact d
  ·rw[ef z]at n;exact g.gn a e n
def pJ (m:Nat):ij→Nat→Option Nat
 |[],_=>none
 |e::L,i=>if e.1=m then some i else pJ m L (i+1)
def nr (L:ij)(m:Nat):Option Nat:=pJ m L 0
theorem nu (m:Nat)(e:Nat×Rs):∀(L:ij) (i:Nat),pJ m (L++[e]) i=match pJ m L i with
  |some j=>some j
  |none=>if e.1=m then some (i+L.length) else none
 |[],i=>by simp[pJ]
 |x::L,i=>by
  rw[dh];unfold pJ;by_cases h:x.1=m
  ·rw[if_pos h,if_pos h]
  ·rw[if_neg h,if_neg h,nu m e L (i+1),aC,show i+1+L.length=i+(L.length+1) by omega]
theorem qF {m:Nat}:∀{L:ij} {i j:Nat},pJ m L i=some j→∃e,i≤j∧L[j-i]?=some e∧e.1=m
 |[],i,j,h=>nomatch h
 |x::L,i,j,h=>by
  unfold pJ at h;by_cases hx:x.1=m
  ·rw[if_pos hx]at h;cases h;exact⟨x,ao _,by rw[bR];rfl,hx⟩
  ·rw[if_neg hx]at h;obtain⟨e,h1,h2,h3⟩:=qF h;exact⟨e,by omega,by rw[show j-i=(j-(i+1))+1 by omega];exact h2,h3⟩
theorem nw {m:Nat}:∀{L:ij} {i:Nat},pJ m L i=none↔m∉L.map (·.1)
 |[],i=>by simp[pJ]
 |x::L,i=>by
  unfold pJ;by_cases hx:x.1=m
  ·rw[if_pos hx];simp[hx]
  ·rw[if_neg hx,nw,aD,am,not_or];exact⟨fun h=>⟨fun z=>hx z.symm,h⟩,fun h=>h.2⟩
theorem qE (h:nr L m=some j):∃e,L[j]?=some e∧e.1=m:=(by obtain⟨e,_,h2,h3⟩:=qF h;exact⟨e,h2,h3⟩)
theorem qp {e:Nat×Rs}(h:nr L m=some j):nr (L++[e]) m=some j:=by
 unfold nr at *;rw[nu,h]
theorem lN {e:Nat×Rs}(h:nr L m=none):nr (L++[e]) m=if e.1=m then some L.length else none:=by
 unfold nr at *;rw[nu,h,Nat.zero_add]
def eg.KZ (c:eg)(k:Pk):ij→Nat→List Nat
 |[],_=>[]
 |e::L,i=>if c.has e.1 k then i::c.KZ k L (i+1) else c.KZ k L (i+1)
def eg.plc (c:eg)(L:ij)(k:Pk):List Nat:=c.KZ k L 0
theorem eg.K0 (c:eg)(k:Pk)(e:Nat×Rs):∀(L:ij) (i:Nat),c.KZ k (L++[e]) i=c.KZ k L i++if c.has e.1 k then [i+L.length] else []
 |[],i=>by
  rw[dL];unfold eg.KZ;by_cases h:c.has e.1 k
  ·rw[if_pos h,if_pos h];rfl
  ·rw[if_neg h,if_neg h];rfl
 |x::L,i=>by
  rw[dh];unfold eg.KZ;rw[eg.K0 c k e L (i+1),aC,show i+1+L.length=i+(L.length+1) by omega];by_cases h:c.has x.1 k
  ·rw[if_pos h,if_pos h];rfl
  ·rw[if_neg h,if_neg h]
theorem eg.K1 (c:eg)(L:ij)(k:Pk)(e:Nat×Rs):c.plc (L++[e]) k=c.plc L k++if c.has e.1 k then [L.length] else []:=by
 unfold eg.plc;rw[eg.K0,Nat.zero_add]
theorem eg.K2 (c:eg)(k:Pk):∀(L:ij) (i:Nat),(c.KZ k L i).length≤L.length
 |[],i=>ao _
 |x::L,i=>by
  unfold eg.KZ;have:=eg.K2 c k L (i+1)
  split
  ·rw[aC,aC];omega
  ·rw[aC];omega
theorem eg.K3 {c:eg}{k:Pk}{j:Nat}:∀{L:ij} {i:Nat},j∈c.KZ k L i↔∃e,i≤j∧L[j-i]?=some e∧c.has e.1 k
 |[],i=>by simp[eg.KZ]
 |x::L,i=>by
  have ih:=eg.K3 (c:=c) (k:=k) (j:=j) (L:=L) (i:=i+1);have key:j∈c.KZ k (x::L) i↔(j=i∧c.has x.1 k)∨j∈c.KZ k L (i+1):=by
   show j∈(if c.has x.1 k then i::c.KZ k L (i+1) else c.KZ k L (i+1))↔_;by_cases h:c.has x.1 k
   ·rw[if_pos h,am];exact⟨fun z=>z.imp (fun y=>⟨y,h⟩) id,fun z=>z.imp (fun y=>y.1) id⟩
   ·rw[if_neg h];exact⟨.inr,fun z=>z.elim (fun y=>absurd y.2 h) id⟩
  rw[key,ih]
  constructor
  ·rintro(⟨rfl,h⟩ | ⟨e,h1,h2,a⟩)
   ·exact⟨x,ao _,by rw[bR];rfl,h⟩
   ·exact⟨e,by omega,by rw[show j-i=(j-(i+1))+1 by omega];exact h2,a⟩
  ·rintro⟨e,h1,h2,a⟩;rcases Nat.eq_or_lt_of_le h1 with z | z
   ·subst z;rw[bR]at h2;have:x=e:=by simpa using h2
    exact .inl ⟨rfl,this▸a⟩
   ·exact .inr ⟨e,z,by rw[show j-i=(j-(i+1))+1 by omega]at h2;exact h2,a⟩
theorem eg.K4 {c:eg}{k:Pk}:j∈c.plc L k↔∃e,L[j]?=some e∧c.has e.1 k:=by
 unfold eg.plc;rw[eg.K3];exact⟨(by rintro⟨e,_,h2,a⟩;exact⟨e,h2,a⟩),(by rintro⟨e,h2,a⟩;exact⟨e,bp _,h2,a⟩)⟩
def uM:HO→Prop
 |.tbl _=>True
 |.ext _=>True
 |_=>False
def gM (l:List Nat):List V:=l.map fun i=>V.int (i:Nat)
structure q5 (H:Hp)(c:eg)(pp:Addr)(g:Pk→List Nat)(Ol:List Addr)(kvp:List (fM×V))(kl:List Pk):Prop where
 d:H pp=some (.dN kvp)
 keys:kvp.map (·.1)=kl.map (fun k=>fw (some k))
 nd:kl.Nodup
 sub:∀k∈kl,k∈c.ks
 val:∀k∈c.ks,(eW kvp (fw (some k))=none∧g k=[])∨∃l,eW kvp (fw (some k))=some (.ref l)∧l∈Ol∧H l=some (.lst (gM (g k)))
 inj:∀k k' l,eW kvp (fw (some k))=some (.ref l)→eW kvp (fw (some k'))=some (.ref l)→k=k'
def II (H:Hp)(c:eg)(pp:Addr)(g:Pk→List Nat)(Ol:List Addr):Prop:=∃(kvp:List (fM×V)) (kl:List Pk),q5 H c pp g Ol kvp kl
theorem q5.keep {c:eg}{g:Pk→List Nat}(B:q5 H c pp g Ol kvp kl)(h:H' pp=H pp)(k:∀a∈Ol,H' a=H a):q5 H' c pp g Ol kvp kl:=
 ⟨by rw[h];exact B.d,B.keys,B.nd,B.sub,fun x hx=>(B.val x hx).imp id (by rintro⟨l,z1,z2,z3⟩;exact⟨l,z1,z2,by rw[k l z2];exact z3⟩),B.inj⟩
theorem q5.len {c:eg}{g:Pk→List Nat}(B:q5 H c pp g Ol kvp kl):kvp.length≤c.n:=by
 have h:=congrArg List.length B.keys;rw[ab,ab]at h;rw[h];exact kF B.nd B.sub
theorem q5.old {c:eg}{g:Pk→List Nat}(B:q5 H c pp g Ol kvp kl){k:Pk}{l:Addr}{i:Nat}(q:k∈c.ks)(h:eW kvp (fw (some k))=some (.ref l))(j:pp∉Ol):l∈Ol∧H l=some (.lst (gM (g k)))∧q5 (upd H l (.lst (gM (g k)++[.int (i:Nat)]))) c pp (fun x=>if x=k then g k++[i] else g x) Ol kvp kl:=by
 have a:l∈Ol∧H l=some (.lst (gM (g k))):=by
  rcases B.val k q with ⟨z,_⟩ | ⟨o,b,m,p⟩
  ·rw[h]at z;cases z
  ·rw[h]at b;cases b;exact⟨m,p⟩
 refine⟨a.1,a.2,?_,B.keys,B.nd,B.sub,fun x r=>?_,B.inj⟩
 ·rw[ef (fun z=>j (by rw[z];exact a.1))];exact B.d
 ·by_cases e:x=k
  ·subst e;refine .inr ⟨l,h,a.1,?_⟩;rw[if_pos rfl,d0];unfold gM;rw[av];rfl
  ·rw[if_neg e];rcases B.val x r with z | ⟨o,b,m,p⟩
   ·exact .inl z
   ·refine .inr ⟨o,b,m,?_⟩;rw[ef (fun y:o=l=>e (B.inj x k l (y▸b) h))];exact p
theorem q5.new {c:eg}{g:Pk→List Nat}(B:q5 H c pp g Ol kvp kl){k:Pk}{l:Addr}{i:Nat}(D:k∈c.ks)(p:eW kvp (fw (some k))=none)(r:pp∉Ol)(A:l∉Ol)(L:l≠pp)(h1:H' pp=some (.dN (fq kvp (fw (some k)) (.ref l))))(h2:H' l=some (.lst [.int (i:Nat)]))(E:∀b,b≠pp→b≠l→H' b=H b):q5 H' c pp (fun x=>if x=k then g k++[i] else g x) (l::Ol) (fq kvp (fw (some k)) (.ref l)) (kl++[k]):=by
 have J:g k=[]:=by
  rcases B.val k D with ⟨_,z⟩ | ⟨h,m,_⟩
  ·exact z
  ·rw[p]at m;cases m
 have t:k∉kl:=fun z=>by
  have h1:fw (some k)∈kvp.map (·.1):=by rw[B.keys];exact be z
  obtain⟨G,v,w⟩:=aA.mp h1;unfold eW at p;rw[Option.map_eq_none_iff,dP]at p;exact p G v (by simpa using w)
 refine⟨h1,?_,?_,fun x d=>?_,fun x d=>?_,fun x y h d j=>?_⟩
 ·rw[im _ p,av,B.keys,av];rfl
 ·rw[bM];exact⟨B.nd,by simp,fun a K b F e=>t (by rw[show b=k by simpa using F]at e;exact e▸K)⟩
 ·rcases az.mp d with z | z
  ·exact B.sub x z
  ·rw[aj.mp z];exact D
 ·rw[fX];by_cases e:x=k
  ·subst e;refine .inr ⟨l,if_pos rfl,by simp,?_⟩;rw[if_pos rfl,h2,J];rfl
  ·rw[if_neg (fun z=>e (Option.some.inj (ik z))),if_neg e];rcases B.val x d with z | ⟨h,m,q,I⟩
   ·exact .inl z
   ·refine .inr ⟨h,m,by simp[q],?_⟩;rw[E h (fun y=>r (y▸q)) (fun y=>A (y▸q))];exact I
 ·have o:∀x h,x≠k→eW kvp (fw (some x))=some (.ref h)→h≠l:=fun x h e z y=>by
   have s:x∈c.ks:=by
    have:=iE z;rw[B.keys]at this;obtain⟨u,v,w⟩:=aA.mp this;rw[←Option.some.inj (ik w)];exact B.sub u v
   rcases B.val x s with ⟨C,_⟩ | ⟨M,m,q,_⟩
   ·rw[z]at C;cases C
   ·rw[z]at m;cases m;exact A (y▸q)
  rw[fX]at d j;by_cases ex:x=k
  ·by_cases ey:y=k
   ·rw[ex,ey]
   ·rw[if_pos (by rw[ex])]at d;rw[if_neg (fun z=>ey (Option.some.inj (ik z)))]at j;cases d;exact absurd rfl (o y l ey j)
  ·rw[if_neg (fun z=>ex (Option.some.inj (ik z)))]at d;by_cases ey:y=k
   ·rw[if_pos (by rw[ey])]at j;cases j;exact absurd rfl (o x l ex d)
   ·rw[if_neg (fun z=>ey (Option.some.inj (ik z)))]at j;exact B.inj x y h d j
theorem q5.fn {c:eg}{g g':Pk→List Nat}(B:q5 H c pp g Ol kvp kl)(h:∀k∈c.ks,g k=g' k):q5 H c pp g' Ol kvp kl:=
 ⟨B.d,B.keys,B.nd,B.sub,fun k hk=>by rw[←h k hk];exact B.val k hk,B.inj⟩
theorem il (h:eD G H)(off:∀a∈O,G a=none)(fr:eD (del H O) H'):eD G H':=fun a u e=>by
 have na:a∉O:=fun z=>by rw[off a z]at e;cases e
 rcases h a u e with z | ⟨z1,o,z2⟩
 ·exact fr a u (by rw[eE na];exact z)
 ·exact .inr ⟨z1,o,fr.frz (by rw[eE na];exact z2)⟩
abbrev AB (ch ma re pm pp:Addr):List (Str×V):=[("chart",.ref ch),("masks",.ref ma),("reasons",.ref re),("place_by_mask",.ref pm),("places_by_pick",.ref pp)]
inductive By (CL:Addr)(G H:Hp)(p ch:Addr)(c:eg)(L:ij)(O:List Addr):Prop
 |mk (dx ma re pm pp:Addr)(kvm:List (gB×V))(rs:List V)(Ol:List Addr)(_:O=ma::re::pm::pp::Ol)(_:G p=some (.ins CL dx (AB ch ma re pm pp)))(_:H ma=some (.lst (gM (L.map (·.1)))))(_:H re=some (.lst rs))(_:Paired (mh G) rs (L.map (·.2)))(_:H pm=some (.dK kvm))(_:kvm.length≤L.length)(_:(∀m:Nat,eW kvm (Sum.inl (m:Int))=(nr L m).map fun i=>V.int (i:Nat)))(_:II H c pp (c.plc L) Ol):By CL G H p ch c L O
structure gf (CL:Addr)(G H:Hp)(p ch:Addr)(c:eg)(L:ij)(O:List Addr):Prop where
 ex:By CL G H p ch c L O
 off:∀a∈O,G a=none
 liv:∀a∈O,∃u,H a=some u
 nf:∀a∈O,∀u,H a=some u→¬uM u
 nd:O.Nodup
theorem km.f (e:eD H H'):∀{t:uE},km H v t→km H' v t
 |.one k,h=>fg.f e h
 |.many bs,⟨a,h1,h2⟩=>⟨a,h1,e.lst h2⟩
theorem mh.f (e:eD H H'){r:Rs}(h:mh H v r):mh H' v r:=
 (by obtain⟨q,wv,tv,h1,h2,h3,h4⟩:=h;exact⟨q,wv,tv,h1,e.tup h2,h3.f e,h4.f e⟩)
theorem gf.grow {CL:Addr}{ch:Addr}{c:eg}(h:gf CL G H p ch c L O)(e:eD G G')(off:∀a∈O,G' a=none)(k:∀a∈O,H' a=H a):gf CL G' H' p ch c L O:=by
 obtain⟨dx,i,g,pm,pp,d,j,Ol,rfl,h1,h2,l,o,r,m,q,⟨kvp,kl,B⟩⟩:=h.ex;refine⟨⟨dx,i,g,pm,pp,d,j,Ol,rfl,e.ins h1,by rw[k i (by simp)];exact h2,by rw[k g (by simp)];exact l,Paired.JH o fun _ _ z=>mh.f e z,by rw[k pm (by simp)];exact r,m,q,⟨kvp,kl,B.keep (k pp (by simp)) fun a b=>k a (by simp[b])⟩⟩,off,fun a b=>by rw[k a b];exact h.liv a b,fun a b=>by rw[k a b];exact h.nf a b,h.nd⟩
structure TL (K:W.Frag)(mg:Str→Option Value)(C:Addr):Prop where
 cl:qw K C
 nCh:fV K C "chart"
 nMa:fV K C "masks"
 nRe:fV K C "reasons"
 nPm:fV K C "place_by_mask"
 nPp:fV K C "places_by_pick"
 len:mg "len" = none
 zip:mg "zip" = none
theorem mO {α:Type}{x:α}{l:List α}:sW (x::l) 0=some x:=jE (show iB (x::l) ((0:Nat):Int)=some x by rw[io];rfl)
inductive DK (Q:Bool→Hp→Prop)(x:V)(H':Hp):Prop
 |mk (i:_)(_:x=.int i)(_:Q (i != 0) H'):DK Q x H'
def HN (ta:TE):TT:=fun σ H Q=>ta σ H fun x H'=>DK Q x H'
theorem u7 {X:Cx}{a:Expr}{ta:TE}(d:PE X a ta)(b:∀whole,isTrue a X.env whole=(do let v ←whole;standAt a.pos;holding [v] (truthy v))):PT X a (HN ta):=by
 intro pins s σ H Q I h;exact isTrue_plain (fW (d pins s σ H _ I h) (by rintro v m ⟨x,H1,l,g,i,e,j⟩;exact y6 pins m σ H1 x v Q l g ⟨_,by subst e;rfl,j⟩)) (b _)
def eg.K5 (c:eg)(wanted:List (Str×Option Pk))(w:Option Pk)(pm:Nat)(ps:List Str)(g:List (Str×Option Pk)):Prop:=
 ∃E:List Str,g.map (·.1)=wanted.map (·.1)++E∧E.Sublist ps∧(∀x∈E,¬c.isP pm x∧x∉wanted.map (·.1))∧(∀x∈ps,c.isP pm x∨x∈wanted.map (·.1)∨x∈E)∧
  ∀x u,(x,u)∈g→(x,u)∈wanted∨(u=w∧x∈ps∧¬c.isP pm x)
theorem nE:∀ns:List Nd,(eO ns).length≤ns.length
 |[]=>ao _
 |n::ns=>by
  rw[eO,aC,aC];have h1:=bz (fun x=>!decide (x=n.1)) (eO ns);have h2:=nE ns
  lia
theorem GrowP.nil {c:eg}{wanted:List (Str×Option Pk)}:c.K5 wanted w pm [] wanted:=⟨[],by simp,.slnil,(fun x h=>nomatch h),(fun x h=>nomatch h),fun x u h=>.inl h⟩
section
variable {c:eg}{wanted g:List (Str×Option Pk)}{ps:List Str}
theorem GrowP.skip (h:c.K5 wanted w pm ps g)(i:c.isP pm x):c.K5 wanted w pm (ps++[x]) g:=by
 obtain⟨E,h1,h2,e,b,d⟩:=h;refine⟨E,h1,h2.trans (List.sublist_append_left _ _),e,fun y a=>?_,fun y u a=>(d y u a).imp id fun z=>⟨z.1,aO _ z.2.1,z.2.2⟩⟩;rcases az.mp a with z | z
 ·exact b y z
 ·rw[aj.mp z];exact .inl i
theorem GrowP.new (h:c.K5 wanted w pm ps g)(b:¬c.isP pm x)(d:x∉g.map (·.1)):c.K5 wanted w pm (ps++[x]) (g++[(x,w)]):=by
 obtain⟨E,h1,h2,j,e,i⟩:=h;rw[h1]at d;refine⟨E++[x],by rw[av,h1,bI];rfl,h2.append (List.Sublist.refl _),fun y a=>?_,fun y a=>?_,fun y u a=>?_⟩
 ·rcases az.mp a with z | z
  ·exact j y z
  ·rw[aj.mp z];exact⟨b,fun q=>d (aO _ q)⟩
 ·rcases az.mp a with z | z
  ·exact(e y z).imp id fun q=>q.imp id fun q=>aO _ q
  ·rw[aj.mp z];exact .inr (.inr (by simp))
 ·rcases az.mp a with z | z
  ·exact(i y u z).imp id fun q=>⟨q.1,aO _ q.2.1,q.2.2⟩
  ·rw[aj,Prod.mk.injEq]at z;exact .inr ⟨z.2,by simp[z.1],z.1▸b⟩
theorem GrowP.JI (h:c.K5 wanted w pm ps g)(d:x∈g.map (·.1))(a:x∉ps):c.K5 wanted w pm (ps++[x]) g:=by
 obtain⟨E,h1,h2,j,e,i⟩:=h;refine⟨E,h1,h2.trans (List.sublist_append_left _ _),j,fun y b=>?_,fun y u b=>(i y u b).imp id fun z=>⟨z.1,aO _ z.2.1,z.2.2⟩⟩;rcases az.mp b with z | z
 ·exact e y z
 ·rw[aj.mp z];rw[h1]at d;exact .inr (.inl ((az.mp d).resolve_right fun q=>a (h2.subset q)))
theorem GrowP.swap (h:c.K5 wanted w pm ps g)(m:¬c.isP pm x)(o:x∈g.map (·.1))(a:x∉ps):c.K5 wanted w pm (ps++[x]) (g.map fun yu=>if yu.1=x then (yu.1,w) else yu):=by
 obtain⟨E,h1,h2,l,d,j⟩:=GrowP.JI h o a;have e:(g.map fun yu=>if yu.1=x then (yu.1,w) else yu).map (·.1)=g.map (·.1):=by
  rw[cE];refine List.map_congr_left fun yu _=>?_;show(if yu.1=x then (yu.1,w) else yu).1=yu.1
  split <;> rfl
 refine⟨E,by rw[e];exact h1,h2,l,d,fun y u i=>?_⟩;obtain⟨yu,b,z⟩:=aA.mp i;by_cases q:yu.1=x
 ·rw[if_pos q]at z;cases z;exact .inr ⟨rfl,by simp[q],q▸m⟩
 ·rw[if_neg q]at z;subst z;exact j y u b
end
theorem wE {c:eg}:(pm &&& c.KL x≠0)↔c.isP pm x:=by
 have a:pm &&& c.KL x<2^c.n:=bw Nat.and_le_right (c.Kl _)
 constructor
 ·intro h;refine Classical.byContradiction fun z=>h (eg.Kg a fun k b=>z ?_);obtain⟨h1,h2⟩:=eg.Kb.mp b;exact⟨k,h1,(eg.KP.mp h2).2⟩
 ·rintro⟨j,h1,h2⟩ h;have:c.has (pm &&& c.KL x) j:=eg.Kb.mpr ⟨h1,eg.KP.mpr ⟨h1.1,h2⟩⟩;rw[h]at this;exact eg.Ke this
theorem nK {α β:Type}{f:α→List β}{n:Nat}:∀{l:List α},(∀x∈l,(f x).length≤n)→(l.flatMap f).length≤l.length*n
 |[],_=>by simp
 |x::l,h=>by
  have h1:=nK (l:=l) fun y hy=>h y (by simp[hy]);have h2:=h x (by simp);rw[List.flatMap_cons,aE,aC,Nat.succ_mul]
  lia
theorem iC.K6 {c:eg}{s:Sd}(h:iC c L s)(a:∀w,(c.needs w).length≤100)(j:c.n<64):s.wanted.length≤7000:=by
 have h1:(s.wanted.map (·.1)).length≤((none::c.ks.map some).flatMap fun w=>(c.needs w).map (·.1)).length:=by
  refine kF h.wk fun x i=>?_;obtain⟨⟨y,w⟩,b,e⟩:=aA.mp i;have g:y=x:=e;subst g;obtain⟨_,h2,d⟩:=h.w1 y w b;refine List.mem_flatMap.mpr ⟨w,?_,d⟩;cases w with
  |none=>exact bi
  |some k=>exact aR _ (be h2.1)
 have h2:=nK (f:=fun w=>(c.needs w).map (·.1)) (n:=100) (l:=none::c.ks.map some) fun w _=>by rw[ab];exact a w
 rw[aC,ab]at h2;rw[ab]at h1;have:c.ks.length<64:=j
 lia
def vV (H:Hp)(kv:gB×V)(xu:Str×Option Pk):Prop:=kv.1=Sum.inr xu.1∧gz H kv.2 xu.2
def vW (G:Hp)(a:Addr)(wanted:List (Str×Option Pk)):Prop:=∃o kvs,G a=some (.frz o (.dK kvs))∧Paired (vV G) kvs wanted
theorem vV.f (e:eD H H'){kv:gB×V}{xu:Str×Option Pk}(h:vV H kv xu):vV H' kv xu:=⟨h.1,h.2.f e⟩
theorem vW.f (e:eD H H'){ws:List (Str×Option Pk)}(h:vW H a ws):vW H' a ws:=(by obtain⟨o,kvs,h1,h2⟩:=h;exact⟨o,kvs,e.frz h1,Paired.JH h2 fun _ _ z=>z.f e⟩)
theorem v6 {H:Hp}:∀{kvs:List (gB×V)} {g:List (Str×Option Pk)},Paired (vV H) kvs g→kvs.map (·.1)=(g.map (·.1)).map Sum.inr
 |_,_,.nil=>rfl
 |_,_,.cons h r=>by rw[aD,aD,aD,v6 r,h.1]
theorem rg {H:Hp}:∀{kvs:List (gB×V)} {g:List (Str×Option Pk)} {x:Str},Paired (vV H) kvs g→(eW kvs (Sum.inr x)=none↔x∉g.map (·.1))
 |_,_,x,.nil=>by simp[eW]
 |kv::kvs,xu::g,x,.cons h r=>by
  have ih:=rg (x:=x) r;unfold eW at ih ⊢;rw[bj,h.1,aD,am,not_or];by_cases e:xu.1=x
  ·rw[aq (by rw[e])];simp[e]
  ·rw[ar (fun z=>e (Sum.inr.inj z))];exact ih.trans ⟨fun z=>⟨fun y=>e y.symm,z⟩,fun z=>z.2⟩
theorem ot {H:Hp}:∀{kvs:List (gB×V)} {g:List (Str×Option Pk)} {x:Str},Paired (vV H) kvs g→x∈g.map (·.1)→∃v u,eW kvs (Sum.inr x)=some v∧(x,u)∈g∧gz H v u
 |_,_,x,.nil,h=>nomatch h
 |kv::kvs,xu::g,x,.cons h r,hx=>by
  by_cases e:xu.1=x
  ·refine⟨kv.2,xu.2,?_,by rw[←e];exact bi,h.2⟩;unfold eW;rw[bj,h.1,aq (by rw[e])];rfl
  ·rw[aD,am]at hx;obtain⟨v,u,h1,h2,h3⟩:=ot r (hx.resolve_left fun z=>e z.symm);refine⟨v,u,?_,aR _ h2,h3⟩;unfold eW at h1 ⊢;rw[bj,h.1,ar (fun z=>e (Sum.inr.inj z))];exact h1
theorem D2 {kvs:List (gB×V)}{g:List (Str×Option Pk)}(h:Paired (vV H) kvs g)(b:gz H v w):Paired (vV H) (fq kvs (Sum.inr x) v) (if x∈g.map (·.1) then g.map (fun yu=>if yu.1=x then (yu.1,w) else yu) else g++[(x,w)]):=by
 by_cases hx:x∈g.map (·.1)
 ·rw[if_pos hx];have d:(kvs.any fun a=>decide (a.1=Sum.inr x))=true:=by
   have:(Sum.inr x:gB)∈kvs.map (·.1):=by rw[v6 h];exact be hx
   obtain⟨a,j,i⟩:=aA.mp this;exact dG.mpr ⟨a,j,aq i⟩
  unfold fq;rw[if_pos d];clear d hx
  induction h with
  |nil=>exact .nil
  |@cons a xu kvs g h r ih=>
   refine .cons ?_ ih;dsimp only;by_cases e:xu.1=x
   ·rw[if_pos (show a.1=Sum.inr x by rw[h.1,e]),if_pos e];exact⟨h.1,b⟩
   ·rw[if_neg (show ¬a.1=Sum.inr x from fun z=>e (Sum.inr.inj (h.1.symm.trans z))),if_neg e];exact h
 ·rw[if_neg hx,im _ ((rg h).mpr hx)];exact Paired.snoc h ⟨rfl,b⟩
theorem v7 {H:Hp}{x:Str}:∀{kvs:List (gB×V)} {g:List (Str×Option Pk)},Paired (vV H) kvs g→Paired (vV H) (jG kvs (Sum.inr x)) (g.filter fun xu=>!decide (xu.1=x))
 |_,_,.nil=>.nil
 |kv::kvs,xu::g,.cons h r=>by
  have ih:=v7 (x:=x) r;unfold jG at ih ⊢;by_cases e:xu.1=x
  ·rw[aH,aH,if_neg (by rw[h.1];simp[e]),if_neg (by simp[e])];exact ih
  ·rw[aH,aH,if_pos (by rw[h.1];simpa using e),if_pos (by simpa using e)];exact .cons h ih
def iY (i:Nat):Stmt:=PySem.Challenge.pw_fitboard_k07_whole_none_newer.main.body.getD i (.Pass ⟨0,0,0,0⟩)
abbrev pG:Stmt:=iY 4
abbrev zu:Stmt:=fB (iY 5) 0
abbrev pD:Stmt:=fB (iY 5) 1
abbrev u4:Stmt:=iY 7
abbrev so:Stmt:=fB (iY 8) 0
abbrev zx:Stmt:=fB (iY 8) 1
abbrev pH:Stmt:=fB (iY 8) 2
abbrev pz:Stmt:=fB (iY 8) 3
abbrev rZ:Stmt:=fB (iY 8) 4
abbrev r6:Stmt:=fB (iY 8) 5
abbrev r8:Stmt:=fB (iY 10) 0
abbrev Er:Stmt:=fB (iY 10) 1
abbrev rW:Stmt:=fB (iY 10) 2
abbrev sr:Stmt:=fB (iY 10) 3
abbrev uW:Stmt:=fB (iY 10) 4
abbrev rQ:Stmt:=iY 12
abbrev rS:Stmt:=fB (iY 13) 0
abbrev sk:Stmt:=fB (iY 14) 0
abbrev rT:Stmt:=fB (iY 15) 0
abbrev pB:Stmt:=fB (iY 15) 1
abbrev rR:Stmt:=fB (iY 15) 2
abbrev zr:Stmt:=fB (iY 15) 3
abbrev tK:Stmt:=fB (iY 15) 4
abbrev zw:Stmt:=fB (iY 15) 5
abbrev sq:Stmt:=fB (iY 15) 6
abbrev sj:Stmt:=fB (iY 15) 7
abbrev zq:Stmt:=fB (iY 15) 8
abbrev zo:Stmt:=fB (iY 15) 9
abbrev rV:Stmt:=fB (iY 15) 10
abbrev u3:Stmt:=fB (iY 15) 11
abbrev pA:Stmt:=fB (iY 15) 12
abbrev uX:Stmt:=fB (iY 15) 13
abbrev rY:Stmt:=fB (iY 15) 14
abbrev uY:Stmt:=fB (iY 15) 15
abbrev uV:Stmt:=iY 17
abbrev Ik:Stmt:=iY 18
abbrev Ep:Stmt:=iY 19
abbrev zp:Stmt:=iY 20
abbrev uZ:Stmt:=iY 21
abbrev py:Stmt:=iY 22
abbrev zy:Stmt:=iY 23
abbrev pC:Stmt:=iY 24
abbrev r9:Stmt:=iY 25
abbrev rX:Stmt:=iY 26
abbrev sg:Stmt:=iY 27
abbrev nn:Stmt:=iY 28
abbrev si:Stmt:=iY 29
abbrev pF:Stmt:=iY 30
abbrev lT:Stmt:=iY 31
abbrev u5:Stmt:=iY 32
abbrev pE:Stmt:=iY 33
abbrev u1:Stmt:=iY 34
abbrev lU:Stmt:=iY 35
end FB
namespace FB
open PySem L2 PyProof.Rows
seal mj PS PE PT PA
variable {C CB CC CL CS a ch dx g p:Addr}{G H H' Hd:Hp}{K:W.Frag}{P:Program}{es:List En}{fd gd:FuncData}{i j m:Nat}{mg:Str→Option Value}{vk:List (gB×V)}{w:World}{x:Str}
structure TB (K:W.Frag)(mg:Str→Option Value)(C:Addr):Prop where
 cl:qw K C
 nN:fV K C "needs"
 nV:fV K C "versions"
 mC:mg "Board" = some (.ref C)
 list:mg "list" = none
 sorted:mg "sorted" = none
theorem jH {y:Str}:decide (V.str x=V.str y)=decide (x=y):=by
 by_cases h:x=y
 ·rw[aq h,aq (congrArg V.str h)]
 ·rw[ar h,ar (fun z=>h (V.str.inj z))]
def sT (n:Nd)(k:Str×Int):Bool:=decide (k.1=n.1)&&!(mi n k.2)
inductive uB (vs:List V)(H:Hp)(Q:VK)(E:XK):Prop
 |mk (v pk:V)(n:Nd)(k:Str×Int)(_:vs=[v,pk])(_:gX H v n)(_:fg H pk k)(_:Q (.bl (sT n k)) H):uB vs H Q E
def ll:Sp:=uB
inductive uA (C:Addr)(vs:List V)(H:Hp)(Q:VK)(E:XK):Prop
 |mk (p st:Addr)(es:List En)(v:V)(n:Nd)(_:vs=[.ref p,v])(_:gi C H p st es)(_:gX H v n)(_:es.length<64)(_:∀l (ms:List Int) H',eG H H'→H l=none→H' l=some (.lst (ms.map V.int))→ms.Perm (iH es n)→ms.Pairwise (· ≥ ·)→Q (.ref l) H'):uA C vs H Q E
def jS (C:Addr):Sp:=uA C
section
variable {base:Heap}{f:Addr}
theorem i9 {N Ps:List Str}{sc:Scope}(a:sc.kind=.function:=by rfl)(b:sc.isCoroutine=false:=by rfl)(c:sc.isGenerator=false:=by rfl)(d:N.Nodup:=by decide +kernel)(e:N.take Ps.length=Ps:=by rfl)(f:∀x∈Ps,sc.names.lookup x=some .local∨sc.names.lookup x=some .cell:=by decide +kernel)(g:∀y∈sc.names,y.2≠.free:=by decide +kernel):eN N Ps sc:=⟨a,b,c,d,e,f,g⟩
theorem Ih:eN ["need","pick"] ["need","pick"] (eF pG):=i9
theorem vp (F:iN K "clashes" "clashes" pG f fd):eZ P w K mg base ff 1 f fd ["need","pick"] ll:=by
 refine F.ok Ih (fun vs H Q E h=>?_) (fun cdv A outer s H vs Q E g h=>?_)
 ·obtain⟨v,e,n,k,rfl,_⟩:=h;rfl
 obtain⟨v,e,n,k,rfl,⟨a,rfl,b⟩,⟨d,rfl,hp⟩,q⟩:=h;refine⟨_,eA (eP (lW (j8 kz (eL eR (pv 1) er (fun _ _=>rfl)) (eL eR (pv 0) er (fun _ _=>rfl)) (fQ _)) (nA (u8 (zS wt wt (eL eR (pv 0) er (fun _ _=>rfl)) (eL eR (pv 1) er (fun _ _=>rfl)) (eL eR (pv 0) er (fun _ _=>rfl))))))),?_⟩;unfold sT mi at q;refine⟨_,rfl,d,_,_,_,rfl,rfl,gH.of hp,rfl,_,rfl,a,_,_,_,rfl,rfl,gH.of b,rfl,rfl,_,rfl,?_⟩;rw[jH];refine jm (fun c=>?_) (fun c=>?_)
 ·rw[c,cw]at q;refine⟨_,rfl,a,_,_,_,rfl,rfl,gH.of b,rfl,_,rfl,d,_,_,_,rfl,rfl,gH.of hp,rfl,_,_,rfl,rfl,_,rfl,?_⟩;refine jm (fun c=>?_) (fun c=>?_)
  ·refine⟨_,rfl,a,_,_,_,rfl,rfl,gH.of b,rfl,_,_,rfl,rfl,_,rfl,?_⟩;rw[c,cw]at q;exact q
  ·rw[bV.mpr c,bY]at q;exact⟨_,rfl,q⟩
 ·rw[bV.mpr c,bY]at q;exact q
end
theorem vw {α:Type}{l:List α}{x:α}(h:(l.take i).Nodup)(e:l[i]?=some x):(l.take (i+1)).Nodup↔¬x∈l.take i:=by
 have g:l.take (i+1)=l.take i++[x]:=by rw[bb,e];rfl
 rw[g,bM]
 constructor
 ·intro z m;exact z.2.2 x m x (by simp) rfl
 ·intro z;refine⟨h,by simp,fun a d b j e=>z ?_⟩;rw[aj.mp j]at e;rw[←e];exact d
theorem lO {α:Type}{l:List α}(i:Nat)(h:l.Nodup):(l.take i).Nodup:=h.sublist (dY _ _)
theorem mK {κ:Type} [DecidableEq κ] {kvs:List (κ×V)}{k:κ}{v:V}(h:(eW kvs k).isSome=true):(fq kvs k v).map (·.1)=kvs.map (·.1):=by
 unfold fq;rw[iJ,if_pos h,cE];refine List.map_congr_left fun a _=>?_;show(if a.1=k then (a.1,v) else a).1=a.1
 split <;> rfl
theorem iU.apart {fs:List (Str×V)}(hp:H p=some (.ins C dx fs))(h:iU H a es):iU (del H [p]) a es:=by
 have out:∀b o,H b=some o→o≠.ins C dx fs→del H [p] b=some o:=fun b o e l=>by
  rw[eE (by simpa using fJ e hp l)];exact e
 obtain⟨xs,h1,h2⟩:=h;refine⟨xs,out _ _ h1 (by intro z;cases z),Paired.JH h2 fun v e z=>?_⟩;obtain⟨q,d,zs,i,r,j,m⟩:=z;refine⟨q,d,zs,i,out _ _ r (by intro z;cases z),out _ _ j (by intro z;cases z),Paired.JH m fun v n z=>?_⟩;obtain⟨q,g,g2⟩:=z;exact⟨q,g,out _ _ g2 (by intro z;cases z)⟩
structure jr (Hd H:Hp)(vk:List (gB×V))(es:List En):Prop where
 at_:∀x:Str,(eW vk (Sum.inr x)=none∧gZ es x=[])∨∃l,eW vk (Sum.inr x)=some (.ref l)∧Hd l=none∧H l=some (.lst ((gZ es x).map V.int))
 inj:∀(x y:Str) (l:Addr),eW vk (Sum.inr x)=some (.ref l)→eW vk (Sum.inr y)=some (.ref l)→x=y
 keys:∀kv∈vk,∃x:Str,kv.1=Sum.inr x
 len:vk.length≤es.length
theorem jr.same (R:jr Hd H vk es)(s:eG H H'):jr Hd H' vk es:=
 ⟨fun x=>(R.at_ x).imp id (by rintro⟨l,h1,h2,h3⟩;exact⟨l,h1,h2,s _ _ h3⟩),R.inj,R.keys,R.len⟩
theorem jr.dict (R:jr Hd H vk es)(s:∀b xs,H b=some (.lst xs)→H' b=some (.lst xs)):jr Hd H' vk es:=
 ⟨fun x=>(R.at_ x).imp id (by rintro⟨l,h1,h2,h3⟩;exact⟨l,h1,h2,s _ _ h3⟩),R.inj,R.keys,R.len⟩
theorem jr.more {e:En}{l:Addr}(R:jr Hd H vk es)(h:eW vk (Sum.inr e.1)=some (.ref l)):Hd l=none∧H l=some (.lst ((gZ es e.1).map V.int))∧jr Hd (upd H l (.lst ((gZ es e.1).map V.int++[.int e.2.1]))) vk (es++[e]):=by
 have a:Hd l=none∧H l=some (.lst ((gZ es e.1).map V.int)):=by
  rcases R.at_ e.1 with ⟨z,_⟩ | ⟨d,h1,h2,b⟩
  ·rw[h]at z;cases z
  ·rw[h]at h1;cases h1;exact⟨h2,b⟩
 refine⟨a.1,a.2,fun x=>?_,R.inj,R.keys,by rw[aE];exact br R.len (dg _ _)⟩;rw[nQ];by_cases hx:e.1=x
 ·subst hx;refine .inr ⟨l,h,a.1,?_⟩;rw[d0,if_pos rfl,av];rfl
 ·rw[if_neg hx];rcases R.at_ x with z | ⟨d,h1,h2,b⟩
  ·exact .inl z
  ·refine .inr ⟨d,h1,h2,?_⟩;rw[ef (fun z=>hx (R.inj _ _ l h (by rw[←z];exact h1)))];exact b
theorem jr.first {e:En}{l:Addr}(R:jr Hd H vk es)(h:eW vk (Sum.inr e.1)=none)(q:H l=some (.lst []))(j:Hd l=none)(i:∀x:Str,eW vk (Sum.inr x)≠some (.ref l)):jr Hd (upd H l (.lst [.int e.2.1])) (fq vk (Sum.inr e.1) (.ref l)) (es++[e]):=by
 refine⟨fun x=>?_,fun x y g a b=>?_,fun p d=>?_,?_⟩
 ·rw[nQ,fX];by_cases a:e.1=x
  ·subst a;refine .inr ⟨l,by rw[if_pos rfl],j,?_⟩;have m:gZ es e.1=[]:=by
    rcases R.at_ e.1 with ⟨_,z⟩ | ⟨g,h1,_⟩
    ·exact z
    ·rw[h]at h1;cases h1
   rw[d0,if_pos rfl,m];rfl
  ·rw[if_neg (fun z=>a (Sum.inr.inj z).symm),if_neg a];rcases R.at_ x with z | ⟨g,h1,h2,o⟩
   ·exact .inl z
   ·refine .inr ⟨g,h1,h2,?_⟩;rw[ef (fun z=>i x (by rw[←z];exact h1))];exact o
 ·rw[fX]at a b;by_cases ex:(Sum.inr x:gB)=Sum.inr e.1
  ·by_cases ey:(Sum.inr y:gB)=Sum.inr e.1
   ·exact(Sum.inr.inj ex).trans (Sum.inr.inj ey).symm
   ·rw[if_pos ex]at a;rw[if_neg ey]at b;cases a;exact absurd b (i y)
  ·rw[if_neg ex]at a;by_cases ey:(Sum.inr y:gB)=Sum.inr e.1
   ·rw[if_pos ey]at b;cases b;exact absurd a (i x)
   ·rw[if_neg ey]at b;exact R.inj x y g a b
 ·rw[im _ h]at d;rcases az.mp d with z | z
  ·exact R.keys p z
  ·rw[aj.mp z];exact⟨_,rfl⟩
 ·rw[im _ h,aE,aE];exact Nat.add_le_add_right R.len _
inductive Hj (C:Addr)(Hd:Hp)(es:List En)(p a st dx dn dv:Addr)(i:Nat)(σ:L2.St)(H2:Hp):Prop
 |mk (nks vk o3 o4 o5:_)(_:σ=[some (.ref p),some (.ref a),some (.ref st),o3,o4,o5])(_:H2 p=some (.ins C dx (jZ dn dv)))(_:H2 dn=some (.dN ((none,.ref st)::nks)))(_:Paired (mQ Hd) nks (es.take i))(_:H2 dv=some (.dK vk))(_:jr Hd H2 vk (es.take i)):Hj C Hd es p a st dx dn dv i σ H2
structure JE (C:Addr)(Hd:Hp)(es:List En)(p a st dx dn dv:Addr)(i:Nat)(σ:L2.St)(H2:Hp):Prop where
 ex:Hj C Hd es p a st dx dn dv i σ H2
 sm:eG Hd H2
 nd:((es.map eX).take i).Nodup
inductive Hi (C:Addr)(Hd:Hp)(es:List En)(p a st dx dn dv:Addr)(nks:List (fM×V))(ks:List gB)(j:Nat)(σ:L2.St)(H2:Hp):Prop
 |mk (vk o3 o4 o5:_)(_:σ=[some (.ref p),some (.ref a),some (.ref st),o3,o4,o5])(_:H2 p=some (.ins C dx (jZ dn dv)))(_:H2 dn=some (.dN ((none,.ref st)::nks)))(_:H2 dv=some (.dK vk))(_:vk.map (·.1)=ks)(_:uD H2 vk es fun x=>(Sum.inr x:gB)∈ks.take j):Hi C Hd es p a st dx dn dv nks ks j σ H2
structure JD (C:Addr)(Hd:Hp)(es:List En)(p a st dx dn dv:Addr)(nks:List (fM×V))(ks:List gB)(j:Nat)(σ:L2.St)(H2:Hp):Prop where
 ex:Hi C Hd es p a st dx dn dv nks ks j σ H2
 sm:eG Hd H2
section
variable {base:Heap}{f:Addr}
theorem zk:eN ["self","shelf","start","part","version","needs"] ["self","shelf","start"] (eF zu):=i9
end
theorem Gv:(["version","part","need"]:List Str).Nodup:=by decide +kernel
section
variable {base:Heap}{f:Addr}
theorem FW:eN ["self","need","part"] ["self","need"] (eF pD):=i9
theorem vo (F:iN K "meeting" "Board.meeting" pD f fd)(T:TB K mg C)(G:eZ P w K mg base ff 1 g gd ["need","pick"] ll)(bG:gl K gd ["need","pick"] [])(kG:W.keepIn K (.ref g)=true)(mG:mg "clashes" = some (.ref g)):eZ P w K mg base ff 2 f fd ["self","need"] (jS C):=by
 refine F.ok FW (fun vs H Q E h=>?_) (fun cdv A outer s H vs Q E Y h=>?_)
 ·obtain⟨p,st,es,v,n,rfl,_⟩:=h;rfl
 obtain⟨p,st,es,v,n,rfl,⟨dx,dn,Z,aa,vk,hp,hn,hk,R,hV⟩,⟨L,rfl,J⟩,hl,q⟩:=h;have hu:=gN Y;refine⟨_,(ee (eK (i:=2) FW.nd rfl (Or.inr rfl) (eL eR (pv 1) er (fun _ _=>rfl))) (eA (eP (iq (N':=["version","part","need"]) (n:=1) (js:=[2,1]) rfl (iD.two (c:=s.heap.objs.size+2) (c':=s.heap.objs.size+1) (y:="part") (y':="need") rfl rfl rfl (by decide +kernel) (by decide +kernel) rfl (by decide +kernel) (by decide +kernel) rfl rfl rfl rfl rfl rfl rfl rfl rfl) (ig (by decide)) (fD (jU hu (lV (pv 0) rfl) (pv 2) (gc el) ⟨rfl,rfl,rfl,rfl⟩)) (fun C X H2 fp=>eM (i:=0) Gv rfl (Or.inl rfl)) (fun C X H2 fp=>mD (gO (gQ (fj G Y rfl mG kG bG .nil eT (dZ (pv 2) (dZ (gm (dZ (pv 1) (dZ (pv 0) el))) el)))))) (fun C X H2 fp=>pv 0))))),?_⟩;refine⟨_,rfl,L,_,_,_,rfl,rfl,gH.of J,rfl,?_⟩;refine⟨_,rfl,p,C,dx,_,_,rfl,hp,T.cl,T.nV,jq _ _,Z,rfl,.inl ⟨_,R⟩,_,rfl,(by show 0≤sizeLine;decide),fun o N=>?_⟩;have e:=eB N (.lst []);have b:∀(l:Addr) (a:List Int),upd H o (.lst []) l=some (.lst (a.map V.int))→a.Perm (gZ es n.1)→a.Pairwise (· ≥ ·)→rf (Fi K l) (i8 0)
   (FA (tB (Dl ll [] E0 (qA (nZ 2) (qA (Fu (qA (nZ 1) (qA (nZ 0) xE))) xE))))) (nZ 0) (frees 1 [2,1] [some (.ref p),some (.ref L),some (.str n.1)]) (upd H o (.lst [])) Q:=by
  intro l a h1 h2 O;have lm:a.length<64:=by
   rw[h2.length_eq];exact bw (jM _ _) hl
  refine ia (xs:=a.map V.int) (fun D i ys H2=>ys=((a.take i).filter (mi n)).map V.int∧H2 D=some (.lst ys)∧eG (upd H o (.lst [])) H2∧upd H o (.lst []) D=none) (fun D U=>⟨by simp,d0,eB U _,U⟩)
   (fun D i ys H2 hi ⟨j,d,m,_⟩=>⟨fb.of (m _ _ h1),d,?_⟩) (fun D i x ys H2 hi ⟨j,d,m,I⟩=>?_) (fun D ys H2 ⟨j,d,m,I⟩=>?_)
  ·rw[j,ab];have:=bz (mi n) (a.take i);rw[aQ]at this;exact eV (by lia)
  ·rw[ae]at hi;obtain⟨z,hz,rfl⟩:=au.mp hi;have ht:a.take (i+1)=a.take i++[z]:=by rw[bb,hz];rfl
   have M:(a.take (i+1)).filter (mi n)=(a.take i).filter (mi n)++(if mi n z=true then [z] else []):=by
    rw[ht,bS,aH];rfl
   unfold i8;refine⟨_,rfl,_,rfl,_,rfl,(by show 2≤sizeLine;decide),fun t r=>?_⟩;have B:=eB r (.tup [.str n.1,.int z]);refine⟨.ref L,.ref t,n,(n.1,z),rfl,⟨L,rfl,B _ _ (m _ _ (e _ _ J))⟩,⟨t,rfl,d0⟩,_,rfl,?_⟩;have S:sT n (n.1,z)=!(mi n z):=by unfold sT;simp
   rw[S];dsimp only;rw[Bool.not_not];have nD:D≠t:=eo d r;by_cases hb:mi n z=true
   ·rw[if_pos hb]at M;rw[if_pos hb];refine⟨_,rfl,B _ _ d,?_,d0,eG.upd (m.trans B) I,I⟩;rw[M,j,av];rfl
   ·rw[if_neg hb,cf]at M;rw[if_neg hb];exact⟨by rw[M];exact j,B _ _ d,m.trans B,I⟩
  ·rw[ab,aF]at j;subst j;exact q D _ H2 (e.trans m) (e.free I) d (zL h2) (O.filter _)
 rcases hV n.1 with ⟨z1,z2⟩ | ⟨l,a,h1,h2,O,h4⟩
 ·refine⟨none,.inl ⟨_,Sum.inr n.1,ie e R,rfl,z1.symm⟩,o,rfl,⟨_,fb.of d0⟩,b o [] d0 (by rw[z2]) .nil⟩
 ·refine⟨some (.ref l),.inl ⟨_,Sum.inr n.1,ie e R,rfl,h1.symm⟩,l,rfl,⟨_,fb.of (e _ _ h2)⟩,b l a (e _ _ h2) O (h4 trivial)⟩
end
inductive Bs (vs:List V)(H:Hp)(Q:VK)(E:XK):Prop
 |mk (c:eg)(m:Nat)(_:vs=[.int (m:Int)])(_:m<2^c.n)(_:Q (.int ((c.listed m).length:Nat)) H):Bs vs H Q E
def rJ:Sp:=Bs
inductive w9 (CC:Addr)(vs:List V)(H:Hp)(Q:VK)(E:XK):Prop
 |mk (G:Hp)(p dx by_:Addr)(fs:List (Str×V))(c:eg)(m:Nat)(_:vs=[.ref p,.int (m:Int)])(_:eD G H)(_:H p=some (.ins CC dx fs))(_:fs.lookup ("by_bit" : Str)=some (V.ref by_))(_:oo G by_ c)(_:c.n<64)(_:m<2^c.n)(_:∀l xs H',eG H H'→H l=none→H' l=some (.lst xs)→Paired (fg G) xs (c.listed m)→(∀b,b≠l→H' b=H b)→Q (.ref l) H'):w9 CC vs H Q E
def iZ (CC:Addr):Sp:=w9 CC
theorem Gn:((m:Int) != 0)=true↔m≠0:=by
 rw[bne_iff_ne];omega
theorem pX:((m:Int) != 0)=!decide (m=0):=by
 by_cases h:m=0
 ·subst h;rfl
 ·rw[ar h,Gn.mpr h];rfl
theorem nT (c:eg):c.listed 0=[]:=(eg.Kh (bL _)).mpr rfl
theorem vE (c:eg)(m:Nat):(c.listed m).length≤c.n:=bz _ _
section
variable {base:Heap}{f:Addr}
theorem wf:eN ["mask","count"] ["mask"] (eF u4):=i9
theorem An (F:iN K "count_picks" "count_picks" u4 f fd):eZ P w K mg base ff 1 f fd ["mask"] rJ:=by
 refine F.ok wf (fun vs H Q E h=>?_) (fun cdv A outer s H vs Q E j h=>?_)
 ·obtain⟨c,m,rfl,_⟩:=h;rfl
 obtain⟨c,m,rfl,g,q⟩:=h;refine⟨_,(ee (eK (i:=1) wf.nd rfl (Or.inl rfl) er) (ee (kO PassesOwn.never (iz (pv 0) (fun _=>rfl)) (ee (j7 (i:=0) wf.nd rfl (Or.inl rfl) (fc zZ (pv 0) er) E1) (eA (j7 (i:=1) wf.nd rfl (Or.inl rfl) er AG)))) (eA (eP (pv 1))))),?_⟩;refine⟨fun k σ H2=>∃(n t:Nat),σ=[some (.int (n:Int)),some (.int (t:Int))]∧H2=H∧k=n∧n<2^c.n∧t+(c.listed n).length=(c.listed m).length,⟨m,m,0,rfl,rfl,rfl,g,by omega⟩,?_⟩;rintro k σ H2 ⟨n,t,rfl,rfl,rfl,b,a⟩;refine⟨_,rfl,_,rfl,?_⟩;rw[pX];by_cases h0:k=0
 ·subst h0;rw[nT]at a;refine fC ⟨_,rfl,?_⟩;rw[show(c.listed m).length=t by simpa using a.symm]at q;exact q
 ·rw[ar h0];refine gW ⟨fun σ' H'=>∃m',m'<k∧_,fun _ _ h=>h,?_⟩;obtain⟨i,r,rfl⟩:=vD k h0;obtain⟨x,l,_,d⟩:=l5 b;have e:((2^i*(2*r+1):Nat):Int)-1=((2^i*(2*r+1)-1:Nat):Int):=by omega
  refine⟨_,rfl,_,rfl,_,_,rfl,rfl,_,_,rfl,rfl,?_⟩;rw[e,nL,sJ];refine⟨_,rfl,_,_,rfl,rfl,2^(i+1)*r,?_,2^(i+1)*r,t+1,rfl,rfl,rfl,Aw b,?_⟩
  ·have:=oC i r;have:=bL i;omega
  ·rw[d,aC]at a;omega
theorem Ce:eN ["self","mask","picks","bit"] ["self","mask"] (eF r6):=i9
theorem x5 (F:iN K "listed" "Chart.listed" r6 f fd)(T:TC K mg CC):eZ P w K mg base ff 1 f fd ["self","mask"] (iZ CC):=by
 refine F.ok Ce (fun vs H Q E h=>?_) (fun cdv A outer s H vs Q E Z h=>?_)
 ·obtain⟨G,p,dx,g,fs,c,m,rfl,_⟩:=h;rfl
 obtain⟨G,p,dx,g,fs,c,m,rfl,gh,hp,Y,⟨kvs,C,hB⟩,aa,hm,q⟩:=h;have U:=gh.rd C;have hu:=gN Z;refine⟨_,(ee (eK (i:=2) Ce.nd rfl (Or.inl rfl) (gc el)) (ee (kO PassesOwn.never (iz (pv 1) (fun _=>rfl)) (ee (eK (i:=3) Ce.nd rfl (Or.inl rfl) (fc hW (pv 1) (iP jN (pv 1)))) (ee (gq (jB PySem.F.plainAttrs_list PySem.F.slot_list_append PySem.F.type_list_append gF (pv 2) (dZ (hU hu (eJ T.cl T.nBy (pv 0)) (pv 3) (fun _ _=>rfl)) el))) (eA (j7 (i:=1) Ce.nd rfl (Or.inl rfl) (pv 3) EZ))))) (eA (eP (pv 2))))),?_⟩;refine⟨(by show 0≤sizeLine;decide),fun l I=>?_⟩;have S:p≠l:=eo hp I;refine⟨fun k σ H2=>∃(n:Nat) (xs:List V) (ks:List Pk) (N:Option V),σ=[some (.ref p),some (.int (n:Int)),some (.ref l),N]∧H2 l=some (.lst xs)∧(∀b,b≠l→H2 b=H b)∧k=n∧n<2^c.n∧Paired (fg G) xs ks∧ks++c.listed n=c.listed m,⟨m,m,[],[],none,rfl,d0,fun b j=>ef j,rfl,hm,.nil,rfl⟩,?_⟩;rintro k σ H2 ⟨n,xs,ks,N,rfl,d,h2,rfl,O,J,a⟩;have y:eG H H2:=fun b o e=>by rw[h2 b (fun z=>by rw[z,I]at e;cases e)];exact e
 refine⟨_,rfl,_,rfl,?_⟩;rw[pX];by_cases h0:k=0
 ·subst h0;rw[nT,cf]at a;refine fC ⟨_,rfl,?_⟩;exact q l xs H2 y I d (a▸J) h2
 ·rw[ar h0];refine gW ⟨fun σ' H'=>∃m',m'<k∧_,fun _ _ h=>h,?_⟩;obtain⟨i,r,rfl⟩:=vD k h0;obtain⟨x,L,t,M⟩:=l5 O;obtain⟨v,R,D⟩:=hB x (ai L);have B:(c.bit x:Int)=((2^i:Nat):Int):=by unfold eg.bit;rw[t]
  rw[B]at R;have lx:=Paired.length J;have X:ks.length<64:=by
   have:=congrArg List.length a;rw[aE]at this;have:=vE c m;omega
  refine⟨_,rfl,_,rfl,_,rfl,_,_,rfl,rfl,?_⟩;dsimp only;rw[CQ];refine⟨_,rfl,.inl ⟨rfl,_,fb.of d⟩,_,rfl,p,dx,fs,_,rfl,y _ _ hp,Y,_,rfl,g,v,rfl,.inl ⟨kvs,Sum.inl ((2^i:Nat):Int),ie y U,rfl,R.symm⟩,l,xs,v,rfl,rfl,d,eV (by omega),?_⟩;have e:((2^i*(2*r+1):Nat):Int)-((2^i:Nat):Int)=((2^(i+1)*r:Nat):Int):=by
   have:=oC i r;have:2^i≤2^i*(2*r+1):=Nat.le_mul_of_pos_right _ (by omega);omega
  refine⟨_,rfl,_,rfl,_,_,rfl,rfl,?_⟩;dsimp only;rw[e];refine⟨2^(i+1)*r,?_,2^(i+1)*r,xs++[v],ks++[x],_,rfl,d0,fun b j=>by rw[ef j];exact h2 b j,rfl,Aw O,Paired.snoc J D,?_⟩
  ·have:=oC i r;have:=bL i;omega
  ·rw[←a,M,bI];rfl
end
abbrev yU (b bits by_ ofp:Addr):List (Str×V):=[("board",.ref b),("bits",.ref bits),("by_bit",.ref by_),("of_part",.ref ofp)]
inductive DD (CB CC:Addr)(vs:List V)(H:Hp)(Q:VK)(E:XK):Prop
 |mk (p dx b bits by_ ofp st:Addr)(es:List En)(sn:List Nd)(_:vs=[.ref p])(_:H p=some (.ins CC dx (yU b bits by_ ofp)))(_:gi CB H b st es)(_:(es.map eX).Nodup)(_:es.length<64)(_:H bits=some (.dN [(none,.int 0)]))(_:H by_=some (.dK []))(_:H ofp=some (.dK []))(_:by_≠ofp)(_:∀(c:eg) H',c.es=es→c.sn=sn→eD (del H [bits,by_,ofp]) H'→ic H' bits c c.J4→oo H' by_ c→lJ H' ofp c→Q .non H'):DD CB CC vs H Q E
def uS (CB CC:Addr):Sp:=DD CB CC
def eg.upM (c:eg)(i:Nat)(x:Str):Nat:=c.maskOf fun k=>decide (k.1=x)&&decide (c.ix k<i)
theorem eg.K7 (c:eg)(x:Str):c.upM 0 x=0:=eg.Kg (c.Kl _) fun k h=>by
 have:=(eg.Kk.mp h).2;simp at this
theorem eg.K8 (c:eg)(x:Str):c.upM c.n x=c.KL x:=eg.ext (c.Kl _) (c.Kl _) fun k=>by
 rw[eg.KP];unfold eg.upM;rw[eg.Kk,aB,aw,aw];exact⟨fun h=>⟨h.1,h.2.1⟩,fun h=>⟨h.1,h.2,c.J5 h.1⟩⟩
theorem eg.K9 {c:eg}{k:Pk}(d:c.ks[i]?=some k)(x:Str):c.upM (i+1) x=if k.1=x then c.upM i x ||| c.bit k else c.upM i x:=by
 have a:=ai d;have l:=c.J8 d;have key:∀j,j∈c.ks→(c.ix j<i+1↔c.ix j<i∨j=k):=fun j g=>by
  constructor
  ·intro h;by_cases e:c.ix j=i
   ·exact .inr (c.J7 g a (e.trans l.symm))
   ·exact .inl (by lia)
  ·rintro(h | rfl)
   ·lia
   ·lia
 by_cases e:k.1=x
 ·rw[if_pos e];refine eg.ext (c.Kl _) (i6 (c.Kl _) (c.Kf a)) fun j=>?_;rw[eg.Ka,eg.Kd a];unfold eg.upM;simp only[eg.Kk,aB,aw]
  constructor
  ·rintro⟨h1,h2,b⟩;rcases (key j h1).mp b with z | z
   ·exact .inl ⟨h1,h2,z⟩
   ·exact .inr z
  ·rintro(⟨h1,h2,b⟩ | rfl)
   ·exact⟨h1,h2,by lia⟩
   ·exact⟨a,e,by lia⟩
 ·rw[if_neg e];refine eg.ext (c.Kl _) (c.Kl _) fun j=>?_;unfold eg.upM;simp only[eg.Kk,aB,aw]
  constructor
  ·rintro⟨h1,h2,b⟩;rcases (key j h1).mp b with z | z
   ·exact⟨h1,h2,z⟩
   ·rw[z]at h2;exact absurd h2 e
  ·rintro⟨h1,h2,b⟩;exact⟨h1,h2,by lia⟩
theorem Ck (h:((2^i:Nat):Int)=((2^j:Nat):Int)):i=j:=by
 rcases Nat.lt_trichotomy i j with z | z | z
 ·have:=Nat.pow_lt_pow_right (a:=2) (by decide) z;lia
 ·exact z
 ·have:=Nat.pow_lt_pow_right (a:=2) (by decide) z;lia
theorem nd1:(["pick"]:List Str).Nodup:=by decide +kernel
section
variable {base:Heap}{f:Addr}
theorem Cg:eN ["self","bit","pick"] ["self"] (eF zx):=i9
inductive Hm (c:eg)(H1:Hp)(p bits by_ ofp:Addr)(i:Nat)(σ:L2.St)(H2:Hp):Prop
 |mk (kb ky ko o2:_)(_:σ=[some (.ref p),some (.int ((2^i:Nat):Int)),o2])(_:H2 bits=some (.dN kb))(_:H2 by_=some (.dK ky))(_:H2 ofp=some (.dK ko))(_:kb.length≤i+1)(_:ky.length≤i)(_:ko.length≤i)(_:eW kb none=some (.int 0))(_:(∀(j:Nat) (k:Pk),j<i→c.ks[j]?=some k→eW kb (some (jf k))=some (.int (c.bit k))∧∃v,eW ky (Sum.inl (c.bit k:Int))=some v∧fg H1 v k))(_:∀x:Str,(eW ko (Sum.inr x)).getD (.int 0)=.int (c.upM i x)∧((∃(j:Nat) (k:Pk),j<i∧c.ks[j]?=some k∧k.1=x)→eW ko (Sum.inr x)=some (.int (c.upM i x)))):Hm c H1 p bits by_ ofp i σ H2
structure JF (c:eg)(H1:Hp)(p bits by_ ofp:Addr)(i:Nat)(σ:L2.St)(H2:Hp):Prop where
 ex:Hm c H1 p bits by_ ofp i σ H2
 sm:eG (del H1 [bits,by_,ofp]) H2
theorem CJ (F:iN K "give_bits" "Chart.give_bits" zx f fd)(T:TC K mg CC)(bf:TB K mg CB):eZ P w K mg base ff 1 f fd ["self"] (uS CB CC):=by
 refine F.ok Cg (fun vs H Q E h=>?_) (fun cdv A outer s H vs Q E hr h=>?_)
 ·obtain⟨p,dx,b,bits,d,l,st,es,sn,rfl,_⟩:=h;rfl
 obtain⟨p,dx,b,bits,d,l,st,es,sn,rfl,hp,hB,cc,c6,a0,a3,a5,a8,q⟩:=h;have hu:=gN hr;refine⟨_,(ee (eK (i:=1) Cg.nd rfl (Or.inl rfl) er) (eA (fO PassesOwn.never rfl (fD (fi sU rfl T.sorted boot_sorted (dZ (iq (N':=["pick"]) (n:=1) (js:=[]) rfl (iD.closed (by decide +kernel) (by decide +kernel) rfl (by decide +kernel) rfl) (ig (by decide)) (sv (eJ bf.cl bf.nN (eJ T.cl T.nBoard (pv 0)))) (fun C s2 H2 fp=>eM (i:=0) nd1 rfl (Or.inl rfl)) (fun C s2 H2 fp=>mD (iL (oz (pv 0)))) (fun C s2 H2 fp=>pv 0)) el))) (eM (i:=2) Cg.nd rfl (Or.inl rfl)) (ee (kQ hu (eJ T.cl T.nBits (pv 0)) (pv 2) (pv 1) rfl) (ee (jc hu (eJ T.cl T.nBy (pv 0)) (pv 1) (pv 2) rfl) (ee (jc hu (eJ T.cl T.nOf (pv 0)) (eL eR (pv 2) er (fun _ _=>rfl)) (fc qK (jU hu (eJ T.cl T.nOf (pv 0)) (eL eR (pv 2) er (fun _ _=>rfl)) er ⟨rfl,rfl,rfl,rfl⟩) (pv 1)) rfl) (eA (j7 (i:=1) Cg.nd rfl (Or.inl rfl) (pv 1) AG)))))))),?_⟩;obtain⟨bx,dn,dv,bd,vk,b1,b2,b3,b4,b5⟩:=id hB.ex;have ln:=Paired.length b3;refine⟨_,rfl,p,dx,_,_,rfl,hp,(by kernel_rfl),b,bx,_,_,rfl,b1,gE _ _,dn,_,rfl,b2,fun o H1 sf bl a4=>?_⟩;refine wN (n:=bd.length+1) (fun D i ys H3=>H3=upd H1 D (.lst ys)∧H1 D=none∧Paired (uF H1) ys ((es.take (i-1)).map eX)) (fun D hD=>⟨rfl,hD,.nil⟩) (fun D i ys H3 hi ⟨e1,e2,e3⟩=>?_) (fun D i x ys H3 H4 hi hy ⟨e1,e2,e3⟩=>?_) (fun D ys H3 ⟨e1,e2,e3⟩=>?_)
 ·subst e1;have ch:dn≠D:=eo a4 e2;refine⟨fun cy=>⟨cy,by rw[ef ch];exact a4⟩,fun c8=>⟨by rw[c8];exact ao _,by rw[ef ch];exact a4⟩,d0,?_⟩;have:=Paired.length e3;rw[ab,aQ]at this;exact eV (by lia)
 ·obtain⟨rfl,kv,G,kx⟩:=hy;subst e1;unfold i8
  match i,G,hi,e3 with
  |0,G,hi,e3=>
   have cx:kv=(none,.ref st):=by simpa using G.symm
   subst cx;cases (show x=.non from kx);exact⟨_,rfl,_,rfl,fC ⟨rfl,e2,e3⟩⟩
  |i+1,G,hi,e3=>
   have m:bd[i]?=some kv:=by simpa using G
   obtain⟨e,c4,cd,_⟩:=Paired.J2 b3 m;rw[cd]at kx;obtain⟨bq,rfl,al⟩:=kx;have nb:bq≠D:=fun z=>by rw[z,d0]at al;cases al
   rw[ef nb]at al;refine⟨_,rfl,_,rfl,gW ⟨_,rfl,d0,by rw[iK],e2,?_⟩⟩;have ht:es.take (i+1+1-1)=es.take i++[e]:=by rw[dO,bb,c4];rfl
   rw[ht,av];exact Paired.snoc e3 ⟨bq,rfl,al⟩
 ·subst e1;rw[dO,ln,aF]at e3;have sD:=eB e2 (.lst ys);have dc:Paired (uF (upd H1 D (.lst ys))) ys (es.map eX):=Paired.JH e3 fun _ _ ⟨z,z1,z2⟩=>⟨z,z1,sD _ _ z2⟩;refine⟨D,ys,es.map eX,rfl,fb.of d0,dc,cc,by rw[ab];exact c6,fun L r ds hL O ba c7=>?_⟩;have sL:=eB hL (.lst r);obtain⟨c,c1,c2,c3⟩:=Fa sn cc ba c7;have cn:c.n=r.length:=by unfold eg.n;rw[c3];exact(Paired.length O).symm
  have an:eD H (upd (upd H1 D (.lst ys)) L (.lst r)):=sf.trans (sD.trans sL).toF;generalize hH:upd (upd H1 D (.lst ys)) L (.lst r)=H4 at *;have b6:H4 L=some (.lst r):=by rw[←hH];exact d0
  have ct:Paired (fg H4) r c.ks:=by rw[c3];exact Paired.JH O fun _ _ ⟨z,z1,z2⟩=>⟨z,z1,sL _ _ z2⟩
  refine⟨L,rfl,⟨_,fb.of b6⟩,?_⟩;have da:bits≠dn:=fun z=>by
   rw[z]at a0;rcases b2 with y | ⟨o',y⟩ <;> (rw[a0]at y;cases y)
  have c9:d≠dn:=fun z=>by
   rw[z]at a3;rcases b2 with y | ⟨o',y⟩ <;> (rw[a3]at y;cases y)
  have c0:l≠dn:=fun z=>by
   rw[z]at a5;rcases b2 with y | ⟨o',y⟩ <;> (rw[a5]at y;cases y)
  have a1:∀{a u},a≠dn→H a=some u→H4 a=some u:=fun {a u} na e=>by
   have e1:H1 a=some u:=by rw[bl a na];exact e
   exact sL _ _ (sD _ _ e1)
  have aa:=a1 da a0;have a7:=a1 c9 a3;have a2:=a1 c0 a5;have b8:d≠bits:=fJ a7 aa (fun z=>nomatch z);have bv:l≠bits:=fJ a2 aa (fun z=>nomatch z);have cp:H4 p=some (.ins CC dx (yU b bits d l)):=an.ins hp
  have out:∀{H2:Hp},eG (del H4 [bits,d,l]) H2→∀{a u},H4 a=some u→(∀kvs,u≠.dN kvs)→(∀kvs,u≠.dK kvs)→H2 a=some u:=fun {H2} sm {a u} e n1 n2=>sm _ _ (by
   rw[eE (by
    simp only[am,aG,or_false,not_or]
    exact⟨fun z=>n1 _ (by rw[z,aa]at e;exact(Option.some.inj e).symm),fun z=>n2 _ (by rw[z,a7]at e;exact(Option.some.inj e).symm),fun z=>n2 _ (by rw[z,a2]at e;exact(Option.some.inj e).symm)⟩)]
   exact e)
  refine fU (K:=K) (a:=L) (xs:=r) (JF c H4 p bits d l) ⟨⟨_,_,_,none,rfl,aa,a7,a2,ao _,ao _,ao _,rfl,fun j k B=>absurd B (ce _),fun x=>⟨by rw[eg.K7];rfl,fun⟨j,_,B,_⟩=>absurd B (ce _)⟩⟩,fm _ _⟩
   (fun i σ H2 _ J=>fb.of (out J.sm b6 (fun _ z=>nomatch z) fun _ z=>nomatch z)) ?_ ?_
  ·rintro i x σ H2 hi ⟨⟨kb,ky,ko,o2,rfl,U,Z,ag,l1,l2,l3,v0,vj,vx⟩,sm⟩;obtain⟨k,ad,G⟩:=Paired.J2 ct hi;obtain⟨kq,rfl,hq⟩:=id G;have dd:i<r.length:=(af.mp hi).1;have c5:i<64:=by
    rw[Paired.length O,ba.length_eq,ab]at dd
    lia
   have a6:c.bit k=2^i:=by unfold eg.bit;rw[c.J8 ad]
   have ah:=out sm hq (fun _ z=>nomatch z) fun _ z=>nomatch z;have N:=out sm cp (fun _ z=>nomatch z) fun _ z=>nomatch z;have a9:p≠bits:=fJ N U (fun z=>nomatch z);have cv:p≠d:=fJ N Z (fun z=>nomatch z);have dp:p≠l:=fJ N ag (fun z=>nomatch z);have dl:kq≠bits:=fJ ah U (fun z=>nomatch z);have cz:kq≠d:=fJ ah Z (fun z=>nomatch z);refine⟨_,rfl,_,rfl,p,dx,_,_,rfl,N,(by kernel_rfl),_,rfl,bits,_,rfl,lj.of (k:=some (jf k)) U ⟨kq,rfl,ah⟩ (eV (by lia)),?_⟩;refine⟨_,rfl,_,rfl,p,dx,_,_,rfl,(by rw[ef a9];exact N),(by kernel_rfl),_,rfl,d,_,rfl,mU.k (k:=Sum.inl ((2^i:Nat):Int)) (by rw[ef b8];exact Z) (eV (by lia)),?_⟩;generalize M:upd (upd H2 bits (.dN (fq kb (some (jf k)) (.int ((2^i:Nat):Int))))) d (.dK (fq ky (Sum.inl ((2^i:Nat):Int)) (.ref kq)))=H3;have as:H3 l=some (.dK ko):=by rw[←M,ef (Ne.symm a8),ef bv];exact ag
   have b7:H3 p=some (.ins CC dx (yU b bits d l)):=by rw[←M,ef cv,ef a9];exact N
   have bm:H3 kq=some (.tup [.str k.1,.int k.2]):=by rw[←M,ef cz,ef dl];exact ah
   refine⟨_,rfl,p,dx,_,_,rfl,b7,(by kernel_rfl),l,rfl,.inl ⟨_,.inl as⟩,_,rfl,kq,_,_,_,rfl,rfl,gH.of bm,rfl,_,jt.k (k:=Sum.inr k.1) as,_,rfl,_,_,(vx k.1).1,rfl,?_⟩;dsimp only;rw[wP];refine⟨_,rfl,p,dx,_,_,rfl,b7,(by kernel_rfl),_,rfl,kq,_,_,_,rfl,rfl,gH.of bm,rfl,l,_,rfl,mU.k (k:=Sum.inr k.1) as (eV (by lia)),?_⟩;refine⟨_,rfl,_,rfl,_,_,rfl,rfl,?_⟩;have e2:((2^i:Nat):Int)+((2^i:Nat):Int)=((2^(i+1):Nat):Int):=by rw[cO];lia
   dsimp only;rw[e2];refine⟨⟨fq kb (some (jf k)) (.int ((2^i:Nat):Int)),fq ky (Sum.inl ((2^i:Nat):Int)) (.ref kq),fq ko (Sum.inr k.1) (.int ((c.upM i k.1 ||| 2^i:Nat):Int)),_,rfl,?_,?_,d0,?_,?_,?_,?_,fun j k' B m=>?_,fun x=>?_⟩,fun b' u t=>?_⟩
   ·rw[ef (Ne.symm bv),←M,ef (Ne.symm b8),d0]
   ·rw[ef a8,←M,d0]
   ·have:=fT kb (some (jf k)) (V.int ((2^i:Nat):Int));lia
   ·have:=fT ky (Sum.inl ((2^i:Nat):Int)) (V.ref kq);lia
   ·have:=fT ko (Sum.inr k.1) (V.int ((c.upM i k.1 ||| 2^i:Nat):Int));lia
   ·rw[fX,if_neg (fun z=>nomatch z)];exact v0
   ·rw[fX,fX];by_cases ej:j=i
    ·subst ej;rw[ad]at m;cases m;rw[if_pos rfl,a6,if_pos rfl];exact⟨rfl,_,rfl,G⟩
    ·have R:c.bit k'≠2^i:=fun z=>ej (by
      unfold eg.bit at z;rw[c.J8 m]at z
      exact Ck (by rw[z]))
     have co:¬(some (jf k')=some (jf k)):=fun z=>by
      have:=p7 (Option.some.inj z);rw[this]at R;exact R a6
     obtain⟨g1,g2⟩:=vj j k' (by lia) m;rw[if_neg co,if_neg (fun z=>R (by have:=Sum.inl.inj z;lia))];exact⟨g1,g2⟩
   ·rw[fX,eg.K9 ad x];by_cases ex:k.1=x
    ·subst ex;rw[if_pos rfl,if_pos rfl,a6];exact⟨rfl,fun _=>rfl⟩
    ·rw[if_neg (fun z=>ex (Sum.inr.inj z).symm),if_neg ex];refine⟨(vx x).1,?_⟩;rintro⟨j,k',B,m,ek⟩;refine(vx x).2 ⟨j,k',?_,m,ek⟩;by_cases ej:j=i
     ·subst ej;rw[ad]at m;cases m;exact absurd ek ex
     ·lia
   ·have Y:b'∉[bits,d,l]:=fun z=>by rw[fH z]at t;cases t
    have I:=Y;simp only[am,aG,or_false,not_or]at I;rw[ef I.2.2,←M,ef I.2.1,ef I.1];exact sm _ _ t
  ·rintro σ H2 ⟨⟨kb,ky,ko,o2,rfl,U,Z,ag,l1,l2,l3,v0,vj,vx⟩,sm⟩;have b9:eD (del H [bits,d,l]) H2:=fun b' u t=>by
    have Y:b'∉[bits,d,l]:=fun z=>by rw[fH z]at t;cases t
    rw[eE Y]at t;rcases an b' u t with z | ⟨g,o',z⟩
    ·exact .inl (sm _ _ (by rw[eE Y];exact z))
    ·exact .inr ⟨g,o',sm _ _ (by rw[eE Y];exact z)⟩
   have X:∀k∈c.ks,∃j:Nat,j<r.length∧c.ks[j]?=some k:=fun k G=>by
    obtain⟨j,B⟩:=ax.mp G;have:=(af.mp B).1;exact⟨j,by rw[←cn];exact this,B⟩
   refine q c H2 c1 c2 b9 ⟨kb,.inl U,fun w hw=>?_⟩ ⟨ky,.inl Z,fun k G=>?_⟩ ⟨ko,.inl ag,fun x=>?_⟩
   ·cases w with
    |none=>exact v0
    |some k=>
     obtain⟨j,B,S⟩:=X k (hw k rfl);exact(vj j k B S).1
   ·obtain⟨j,B,S⟩:=X k G;obtain⟨_,v,g1,g2⟩:=vj j k B S;obtain⟨z,z1,z2⟩:=g2;exact⟨v,g1,z,z1,out sm z2 (fun _ z=>nomatch z) fun _ z=>nomatch z⟩
   ·rw[←eg.K8,cn];exact⟨(vx x).1,fun⟨k,G,ek⟩=>let ⟨j,B,S⟩:=X k G;(vx x).2 ⟨j,k,B,S,ek⟩⟩
end
theorem eg.en (c:eg):(c.es.map eX).Nodup:=c.pm.nodup_iff.mp c.nd
theorem eg.n_eq (c:eg):c.n=c.es.length:=by unfold eg.n;rw[c.pm.length_eq,ab]
theorem ja {st:Addr}{c:eg}(B:gi C H p st c.es)(N:gL H st c.sn):∃dx dn dv,H p=some (.ins C dx (jZ dn dv))∧∀w v,c.Who w→gz H v w→∃a,iw H dn v (some (.ref a))∧gL H a (c.needs w):=by
 obtain⟨dx,dn,dv,h1,h2,h⟩:=B.start;refine⟨dx,dn,dv,h1,fun w v d b=>?_⟩;cases w with
 |none=>cases (show v=.non from b);exact⟨st,h2,N⟩
 |some k=>
  rcases h v k b with ⟨z,_⟩ | ⟨_,e,j,i,a,zs,g,g2,g3⟩
  ·exact absurd ((c.mem k).mp (d k rfl)) z
  ·refine⟨a,g,zs,g2,?_⟩;show Paired (gX H) zs (jd c.es k);rw[←i,nS c.en j];exact g3
theorem lX (n:Nd):∀l:List Nd,eO (l++[n])=if n.1∈eO l then eO l else eO l++[n.1]
 |[]=>by simp[eO]
 |m::l=>by
  rw[dh,eO,eO,lX n l];by_cases h1:n.1∈eO l
  ·rw[if_pos h1];have:n.1∈m.1::(eO l).filter fun x=>!decide (x=m.1):=by
    by_cases e:n.1=m.1
    ·rw[e];simp
    ·exact aR _ (aS.mpr ⟨h1,by simpa using e⟩)
   rw[if_pos this]
  ·rw[if_neg h1,bS];by_cases e:n.1=m.1
   ·rw[if_pos (by rw[e];simp)];simp[e]
   ·rw[if_neg]
    ·simp[e]
    ·rw[am,not_or];exact⟨e,fun z=>h1 (aS.mp z).1⟩
theorem lb (l:List Nd)(n:Nd)(x:Str)(v:Int):jk (l++[n]) x v=(jk l x v&&(!decide (n.1=x)||mi n v)):=by
 unfold jk;rw[List.all_append];simp
theorem tY {l:List Nd}(h:x∉eO l)(v:Int):jk l x v=true:=lZ.mpr fun n hn e=>absurd (gT.mpr ⟨n,hn,e⟩) h
theorem C1 (x:Str)(lo hi b a v:Int):mi (x,(if b>lo then b else lo),(if a<hi then a else hi)) v=(mi (x,b,a) v&&mi (x,lo,hi) v):=by
 unfold mi;rw[cT];simp only[aB,aw]
 split <;> split <;> lia
inductive uC (CB CC:Addr)(vs:List V)(H:Hp)(Q:VK)(E:XK):Prop
 |mk (p dx b bits st:Addr)(fs:List (Str×V))(wv:V)(c:eg)(w:Option Pk)(_:vs=[.ref p,wv])(_:H p=some (.ins CC dx fs))(_:fs.lookup ("board" : Str)=some (V.ref b))(_:fs.lookup ("bits" : Str)=some (V.ref bits))(_:gi CB H b st c.es)(_:gL H st c.sn)(_:ic H bits c c.J4)(_:c.Who w)(_:gz H wv w)(_:c.n<64)(_:(c.needs w).length≤100)(_:∀d H',eG H H'→H d=none→iO H' d c w→Q (.ref d) H'):uC CB CC vs H Q E
def nh (CB CC:Addr):Sp:=uC CB CC
theorem Jt:(["version","self","part"]:List Str).Nodup:=by decide +kernel
theorem AX (e:eG H H'){y:V}{r:Option V}(h:iw H a y r):iw H' a y r:=by
 obtain⟨kvs,k,h1,h2,g⟩:=h;refine⟨kvs,k,ie e h1,?_,g⟩;cases k with
 |none=>exact h2
 |some ks=>obtain⟨b,d,i⟩:=h2;exact⟨b,d,e _ _ i⟩
theorem EN (h:(es.map eX).Nodup)(n:Nd):(iH es n).Nodup:=by
 unfold iH;rw[List.nodup_iff_pairwise_ne,cC]at *;refine List.Pairwise.imp_of_mem (fun {a b} ha hb hab z=>?_) (h.filter (iG n));have h1:=(aS.mp ha).2;have h2:=(aS.mp hb).2;unfold iG at h1 h2;simp only[aB,aw]at h1 h2;exact hab (Prod.ext (h1.1.trans h2.1.symm) z)
theorem yO {c:eg}{w:Option Pk}{lo hi:Int}{ms:List Int}(b:ms.Perm (iH c.es (x,lo,hi)))(j:∀v,mi (x,lo,hi) v=jk (c.needs w) x v):(ms.map fun v=>(c.bit (x,v):Int)).sum=(c.KM w x:Nat)∧(∀v∈ms,(x,v)∈c.ks):=by
 have i:∀v∈ms,(x,v)∈c.ks:=fun v a=>(c.mem _).mpr (oB.mp (b.subset a)).1;refine⟨?_,i⟩;have o:(ms.map fun v=>((x,v):Pk)).Nodup:=by
  rw[List.nodup_iff_pairwise_ne,cC];exact(b.nodup_iff.mpr (EN c.en _)).imp fun h z=>h (Prod.mk.inj z).2
 have:=eg.KY (c:=c) (ms.map fun v=>((x,v):Pk)) o (fun k d=>by obtain⟨v,a,rfl⟩:=aA.mp d;exact i v a);rw[cE]at this;rw[show(ms.map fun v=>(c.bit (x,v):Int))=ms.map ((fun k=>(c.bit k:Int)) ∘ fun v=>(x,v)) from rfl,this]
 congr 1
 unfold eg.KM;refine eg.ext (c.Kl _) (c.Kl _) fun k=>?_;rw[eg.Kk,eg.Kk,aw,aB,aw];refine and_congr_right fun g=>?_
 constructor
 ·intro h;obtain⟨v,a,rfl⟩:=aA.mp h;exact⟨rfl,by rw[←j];exact(oB.mp (b.subset a)).2⟩
 ·rintro⟨h1,h2⟩;obtain⟨l,m⟩:=k;have e:l=x:=h1;subst e;exact aA.mpr ⟨m,b.symm.subset (oB.mpr ⟨(c.mem _).mp g,by rw[j];exact h2⟩),rfl⟩
inductive He (H:Hp)(ns:List Nd)(j:Addr)(i:Nat)(H2:Hp):Prop
 |mk (kj:_)(_:H2 j=some (.dK kj))(_:kj.map (·.1)=(eO (ns.take i)).map Sum.inr)(_:kj.length≤i)(_:∀x∈eO (ns.take i),∃q lo hi,eW kj (Sum.inr x)=some (.ref q)∧del H2 [j] q=some (.tup [.str x,.int lo,.int hi])∧∀v,mi (x,lo,hi) v=jk (ns.take i) x v):He H ns j i H2
structure JC (H:Hp)(ns:List Nd)(j:Addr)(i:Nat)(H2:Hp):Prop where
 ex:He H ns j i H2
 sm:eG H H2
section
variable {base:Heap}{f:Addr}
theorem rP:eN ["self","who","joint","part","low","high","earlier","allowed","versions"] ["self","who"] (eF pH):=i9
theorem vq (F:iN K "allowed_by" "Chart.allowed_by" pH f fd)(T:TC K mg CC)(a7:TB K mg CB)(MM:Mt P w K mg base CB ff 2 "meeting" ["self","need"] (jS CB)):eZ P w K mg base ff 3 f fd ["self","who"] (nh CB CC):=by
 refine F.ok rP (fun vs H Q E h=>?_) (fun cdv A outer s H vs Q E hr h=>?_)
 ·obtain⟨p,dx,b,bits,st,fs,wv,c,w,rfl,_⟩:=h;rfl
 obtain⟨p,dx,b,bits,st,fs,wv,c,w,rfl,hp,b3,cy,hB,hN,cp,hw,cv,ct,dc,q⟩:=h;have hu:=gN hr;refine⟨_,(ee (eK (i:=2) rP.nd rfl (Or.inl rfl) iA) (ee (fO PassesOwn.never rfl (fD (fe hu (eJ a7.cl a7.nN (eJ T.cl T.nBoard (pv 0))) (pv 1) (fun _ _=>rfl))) (nz rfl (gy (eM (i:=3) rP.nd rfl (Or.inr rfl)) (gy (eM (i:=4) rP.nd rfl (Or.inl rfl)) (gy (eM (i:=5) rP.nd rfl (Or.inl rfl)) lu)))) (ee (eK (i:=6) rP.nd rfl (Or.inl rfl) (jU hu (pv 2) (pv 3) (gm (dZ (pv 3) (dZ (pv 4) (dZ (pv 5) el)))) ⟨rfl,rfl,rfl,rfl⟩)) (eA (jc hu (pv 2) (pv 3) (gm (dZ (pv 3) (dZ (fi (yK rfl) rfl T.max boot_max (dZ (pv 4) (dZ (eL eR (pv 6) er (fun _ _=>rfl)) el))) (dZ (fi (yJ rfl) rfl T.min boot_min (dZ (pv 5) (dZ (eL eR (pv 6) er (fun _ _=>rfl)) el))) el)))) rfl)))) (ee (eK (i:=7) rP.nd rfl (Or.inl rfl) iA) (ee (fO PassesOwn.never rfl (Ex (pv 2)) (eM (i:=3) rP.nd rfl (Or.inr rfl)) (ee (eK (i:=8) rP.nd rfl (Or.inl rfl) (ib MM hr eT (eJ T.cl T.nBoard (pv 0)) (dZ (hU hu (pv 2) (pv 3) (fun _ _=>rfl)) el))) (eA (jc hu (pv 7) (pv 3) (fi (yI rfl) rfl T.sum boot_sum (dZ (iq (N':=["version","self","part"]) (n:=1) (js:=[0,3]) rfl (iD.two (c:=s.heap.objs.size+1) (c':=s.heap.objs.size+2) (y:="self") (y':="part") rfl rfl rfl (by decide +kernel) (by decide +kernel) rfl (by decide +kernel) (by decide +kernel) rfl rfl rfl rfl rfl rfl rfl rfl rfl) (ig (by decide)) (fD (pv 8)) (fun C s2 H2 fp=>eM (i:=0) Jt rfl (Or.inl rfl)) (fun C s2 H2 fp=>jz) (fun C s2 H2 fp=>fe hu (eJ T.cl T.nBits (pv 1)) (gm (dZ (pv 2) (dZ (pv 0) el))) (fun _ _=>rfl))) el)) rfl)))) (eA (eP (zP (pv 7)))))))),?_⟩;intro j hj;have s0:=eB hj (.dK []);obtain⟨bx,dn,dv,b6,cn⟩:=ja hB hN;obtain⟨na,b8,zs,hz,b4⟩:=cn w wv hw cv;refine⟨_,rfl,p,dx,_,_,rfl,s0 _ _ hp,b3,b,bx,_,_,rfl,s0 _ _ b6,gE _ _,_,rfl,dn,_,rfl,AX s0 b8,na,rfl,⟨_,fb.of (s0 _ _ hz)⟩,?_⟩;have lz:=Paired.length b4;refine fU (K:=K) (a:=na) (xs:=zs) (fun i σ H2=>∃o3 o4 o5 o6,σ=[some (.ref p),some wv,some (.ref j),o3,o4,o5,o6,none,none]∧JC H (c.needs w) j i H2)
  ⟨none,none,none,none,rfl,⟨[],d0,rfl,ao _,fun x G=>nomatch G⟩,s0⟩ ((by rintro i σ H2 _ ⟨_,_,_,_,_,J⟩;exact fb.of (J.sm _ _ hz))) ?_ ?_
 ·rintro i x σ H2 hi ⟨o3,o4,o5,o6,rfl,⟨L,R,d,a5,B⟩,sm⟩;obtain⟨n,bm,hn⟩:=Paired.J2 b4 hi;obtain⟨nq,rfl,c6⟩:=hn;obtain⟨x,N,r⟩:=n;have ht:(c.needs w).take (i+1)=(c.needs w).take i++[(x,N,r)]:=by rw[bb,bm];rfl
  have c5:i<100:=by have:=(af.mp bm).1;lia
  refine⟨nq,_,rfl,gH.of (sm _ _ c6),rfl,_,_,rfl,_,_,rfl,_,_,rfl,rfl,?_⟩;refine⟨_,rfl,j,rfl,.inl ⟨_,.inl R⟩,_,rfl,_,rfl,_,rfl,_,rfl,(by show 3≤sizeLine;decide),fun t as=>?_⟩;have st:=eB as (.tup [.str x,.int N,.int r]);have da:j≠t:=eo R as;generalize b7:upd H2 t (.tup [.str x,.int N,.int r])=H3 at *;have a1:H3 j=some (.dK L):=st _ _ R;have old:∃q' M g,(eW L (Sum.inr x)).getD (.ref t)=.ref q'∧H3 q'=some (.tup [.str x,.int M,.int g])∧∀v,(mi (x,M,g) v&&mi (x,N,r) v)=jk ((c.needs w).take (i+1)) x v:=by
   by_cases G:x∈eO ((c.needs w).take i)
   ·obtain⟨q',M,g,g1,g2,g3⟩:=B x G;have cc:q'≠j:=fun z=>by rw[z,fH (by simp)]at g2;cases g2
    refine⟨q',M,g,by rw[g1];rfl,st _ _ (by rw[eE (by simpa using cc)]at g2;exact g2),fun v=>?_⟩;rw[ht,lb,g3,aq rfl];rfl
   ·have hv:eW L (Sum.inr x)=none:=by
     cases hq:eW L (Sum.inr x) with
     |none=>rfl
     |some u=>
      have:=iE hq;rw[d]at this;obtain⟨y,I,e⟩:=aA.mp this;rw[Sum.inr.inj e]at I;exact absurd I G
    refine⟨t,N,r,by rw[hv];rfl,by rw[←b7];exact d0,fun v=>?_⟩;rw[ht,lb,tY G,aq rfl,Bool.and_self];rfl
  obtain⟨q',M,g,g1,g2,g3⟩:=old;refine⟨_,jt.k (k:=Sum.inr x) a1,?_⟩;rw[g1];refine⟨_,rfl,_,rfl,_,rfl,q',_,_,_,rfl,rfl,gH.of g2,rfl,_,_,rfl,_,rfl,_,rfl,q',_,_,_,rfl,rfl,gH.of g2,rfl,_,_,rfl,(by show 3≤sizeLine;decide),fun t2 bv=>?_⟩;have a3:=eB bv (.tup [.str x,.int (if M>N then M else N),.int (if g<r then g else r)]);have bf:j≠t2:=eo a1 bv;refine⟨_,rfl,_,rfl,j,_,rfl,mU.k (k:=Sum.inr x) (a3 _ _ a1) (eV (by lia)),?_⟩;refine⟨_,_,_,_,rfl,⟨fq L (Sum.inr x) (.ref t2),d0,?_,?_,fun y I=>?_⟩,eG.upd (sm.trans (st.trans a3)) hj⟩
  ·rw[ht,lX];by_cases G:x∈eO ((c.needs w).take i)
   ·rw[if_pos G];obtain⟨_,_,_,z,_⟩:=B x G;rw[mK (by rw[z];rfl)];exact d
   ·have hv:eW L (Sum.inr x)=none:=by
     cases hq:eW L (Sum.inr x) with
     |none=>rfl
     |some u=>
      have:=iE hq;rw[d]at this;obtain⟨y,I,e⟩:=aA.mp this;rw[Sum.inr.inj e]at I;exact absurd I G
    rw[if_neg G,im _ hv,av,d,av];rfl
  ·have:=fT L (Sum.inr x) (V.ref t2);lia
  ·rw[fX,qb (by simp)];by_cases ey:y=x
   ·subst ey;rw[if_pos rfl];refine⟨t2,_,_,rfl,by rw[eE (by simpa using Ne.symm bf)];exact d0,fun v=>?_⟩;rw[←g3];exact C1 _ _ _ _ _ v
   ·rw[if_neg (fun z=>ey (Sum.inr.inj z))];have c4:y∈eO ((c.needs w).take i):=by
     rw[ht,lX]at I;by_cases G:x∈eO ((c.needs w).take i)
     ·rw[if_pos G]at I;exact I
     ·rw[if_neg G]at I;exact(az.mp I).elim id fun z=>absurd (aj.mp z) ey
    obtain⟨q0,cx,ad,f1,f2,f3⟩:=B y c4;have aa:q0≠j:=fun z=>by rw[z,fH (by simp)]at f2;cases f2
    rw[eE (by simpa using aa)]at f2;refine⟨q0,cx,ad,f1,by rw[eE (by simpa using aa)];exact a3 _ _ (st _ _ f2),fun v=>?_⟩;rw[f3,ht,lb,ar (fun z=>ey z.symm)];simp
 ·rintro σ H2 ⟨o3,o4,o5,o6,rfl,⟨L,R,d,a5,B⟩,sm⟩;rw[lz,aF]at d B;intro O ah;have Y:j≠O:=eo R ah;have a2:=eB ah (.dK []);have a4:=sm.trans a2;have U:H O=none:=sm.free ah;refine⟨_,rfl,j,L,rfl,.inl (a2 _ _ R),fun o H4 sf a8 ba=>?_⟩;have h4:∀a,a≠j→H4 a=upd H2 O (.dK []) a:=a8;have s4:eG H H4:=fun a u e=>by
   rw[h4 a (fun z=>by rw[z,hj]at e;cases e)];exact a4 _ _ e
  have bd:H4 O=some (.dK []):=by rw[h4 O (Ne.symm Y)];exact d0
  have c3:L.length=(eO (c.needs w)).length:=by
   have:=congrArg List.length d;rw[ab,ab]at this;exact this
  refine sQ (kvs:=L) (fun i σ H5=>∃S o3 o4 o5 o6 o8,σ=[some (.ref p),some wv,some (.ref j),o3,o4,o5,o6,some (.ref O),o8]∧H5 O=some (.dK S)∧eG (del H4 [O]) H5∧S.map (·.1)=((eO (c.needs w)).take i).map Sum.inr∧S.length≤i∧∀x∈(eO (c.needs w)).take i,eW S (Sum.inr x)=some (.int (c.KM w x)))
   ⟨[],_,_,_,_,none,rfl,bd,fm _ _,rfl,ao _,fun x G=>by simp at G⟩ ((by rintro i σ H5 _ ⟨_,_,_,_,_,_,_,_,e,_⟩;exact e _ _ (by rw[eE (by simpa using Y)];exact ba))) ?_ ?_
  ·rintro i kv σ H5 hi ⟨S,o3,o4,o5,o6,o8,rfl,Z,s5,X,cz,an⟩;have b2:(L.map (·.1))[i]?=some kv.1:=by rw[ae,hi];rfl
   rw[d,ae]at b2;obtain⟨x,G,ex⟩:=au.mp b2;rw[←ex];have co:=ai G;obtain⟨q0,lo,ad,g1,g2,g3⟩:=B x co;have aa:q0≠j:=fun z=>by rw[z,fH (by simp)]at g2;cases g2
   rw[eE (by simpa using aa)]at g2;have c5:i<100:=by
    have h1:=(af.mp hi).1;have h2:L.length≤(c.needs w).length:=by rw[←lz]at *;lia
    lia
   have ag:eG H H5:=fun a u e=>s5 _ _ (by rw[eE (by simpa using fun z=>by rw[z,U]at e;cases e)];exact s4 _ _ e)
   have cd:H5 q0=some (.tup [.str x,.int lo,.int ad]):=s5 _ _ (by
    have:q0≠O:=eo g2 ah;rw[eE (by simpa using this),h4 q0 aa]
    exact a2 _ _ g2)
   have b9:H5 j=some (.frz o (.dK L)):=s5 _ _ (by rw[eE (by simpa using Y)];exact ba);refine⟨_,rfl,p,dx,_,_,rfl,ag _ _ hp,b3,b,bx,_,rfl,ag _ _ b6,qe _ _ (by decide +kernel) (by decide +kernel),_,rfl,_,rfl,j,_,rfl,.inl ⟨L,Sum.inr x,.inr ⟨o,b9⟩,rfl,g1.symm⟩,b,st,c.es,_,(x,lo,ad),rfl,hB.same ag,⟨q0,rfl,cd⟩,by rw[←c.n_eq];exact ct,fun l ms H6 s6 hl bq a6 c9=>?_⟩;obtain⟨a0,c0⟩:=yO (c:=c) (w:=w) a6 g3;have c8:ms.length<64:=by
    rw[a6.length_eq];have:=je c.es (x,lo,ad);rw[←c.n_eq]at this
    lia
   refine⟨_,rfl,l,rfl,⟨_,fb.of bq⟩,?_⟩;have c1:=ag.trans s6;refine ia (xs:=ms.map V.int) (fun D i ys H7=>ys=((ms.take i).map fun v=>V.int (c.bit (x,v)))∧H7 D=some (.lst ys)∧eG H6 H7∧H6 D=none) (fun D hD=>⟨by simp,d0,eB hD _,hD⟩)
    (fun D i ys H7 hi ⟨e1,e2,e3,_⟩=>⟨fb.of (e3 _ _ bq),e2,?_⟩) (fun D i y ys H7 hi ⟨e1,e2,e3,e4⟩=>?_) (fun D ys H7 ⟨e1,e2,e3,e4⟩=>?_)
   ·rw[e1,ab,aQ];exact eV (by lia)
   ·rw[ae]at hi;obtain⟨z,bl,rfl⟩:=au.mp hi;unfold i8 rj;dsimp only;rw[if_pos rfl];have b1:=c1.trans e3;refine⟨_,rfl,p,dx,_,_,rfl,b1 _ _ hp,cy,_,rfl,_,rfl,(by show 2≤sizeLine;decide),fun t as=>?_⟩;have s8:=eB as (.tup [.str x,.int z]);refine⟨bits,_,rfl,(cp.same (b1.trans s8)).get (w:=some (x,z)) (fun k e=>by cases e;exact c0 z (ai bl)) ⟨t,rfl,d0⟩,s8 _ _ e2,?_,d0,eG.upd (e3.trans s8) e4,e4⟩;rw[e1,bb,bl,av];rfl
   ·rw[ab,aF]at e1;subst e1;have a9:(ms.map fun v=>V.int (c.bit (x,v)))=(ms.map fun v=>(c.bit (x,v):Int)).map V.int:=by rw[cE];rfl
    rw[a9]at e2;have c7:c.KM w x<2^63:=aZ (c.Kl _) (Nat.pow_le_pow_right (by decide) (by lia));refine⟨D,_,rfl,fb.of e2,fun m hm=>?_,by rw[a0];lia,?_⟩
    ·rw[bc,ae]
     cases ms[m]? with
     |none=>exact Int.le_refl _
     |some v=>show(0:Int)≤(c.bit (x,v):Nat);lia
    rw[a0];have b5:H7 O=some (.dK S):=e3 _ _ (s6 _ _ Z);refine⟨_,rfl,_,rfl,O,_,rfl,mU.k (k:=Sum.inr x) b5 (eV (by lia)),?_⟩;have ch:x∉(eO (c.needs w)).take i:=fun z=>by
     obtain⟨i',g⟩:=ax.mp z;rw[cg]at g
     split at g
     ·next hlt2=>
      have:=(cm (af.mp g).1 (i5 (c.needs w))).mp (g.trans G.symm)
      lia
     ·cases g
    have c2:eW S (Sum.inr x)=none:=by
     cases hq:eW S (Sum.inr x) with
     |none=>rfl
     |some u=>
      have:=iE hq;rw[X]at this;obtain⟨y,I,e⟩:=aA.mp this;rw[Sum.inr.inj e]at I;exact absurd I ch
    have ht:(eO (c.needs w)).take (i+1)=(eO (c.needs w)).take i++[x]:=by rw[bb,G];rfl
    refine⟨_,_,_,_,_,_,rfl,d0,fun a u e=>?_,?_,?_,fun y I=>?_⟩
    ·have na:a≠O:=fun z=>by rw[z,fH (by simp)]at e;cases e
     rw[ef na];exact e3 _ _ (s6 _ _ (s5 _ _ e))
    ·rw[im _ c2,av,X,ht,av];rfl
    ·have:=fT S (Sum.inr x) (V.int ((c.KM w x:Nat):Int));lia
    ·rw[fX];by_cases ey:y=x
     ·subst ey;rw[if_pos rfl]
     ·rw[if_neg (fun z=>ey (Sum.inr.inj z))];rw[ht]at I;exact an y ((az.mp I).elim id fun z=>absurd (aj.mp z) ey)
  ·rintro σ H5 ⟨S,o3,o4,o5,o6,o8,rfl,Z,s5,X,cz,an⟩;rw[c3,aF]at X an;refine⟨_,rfl,O,_,rfl,Z,trivial,fun o'=>q O _ (fun a u e=>?_) U ⟨o',S,d0,X,an⟩⟩;have na:a≠O:=fun z=>by rw[z,U]at e;cases e
   rw[ef na];exact s5 _ _ (by rw[eE (by simpa using na)];exact s4 _ _ e)
end
inductive uw (CC:Addr)(vs:List V)(H:Hp)(Q:VK)(E:XK):Prop
 |mk (p dx al ofp d:Addr)(fs:List (Str×V))(wv:V)(c:eg)(w:Option Pk)(_:vs=[.ref p,wv])(_:H p=some (.ins CC dx fs))(_:fs.lookup ("allowed" : Str)=some (V.ref al))(_:fs.lookup ("of_part" : Str)=some (V.ref ofp))(_:iw H al wv (some (.ref d)))(_:iO H d c w)(_:lJ H ofp c)(_:Q (.int (c.KN w)) H):uw CC vs H Q E
def mZ (CC:Addr):Sp:=uw CC
def eg.La (c:eg)(w:Option Pk)(ps:List Str):Nat:=c.maskOf fun k=>decide (k.1∈ps)&&!jk (c.needs w) k.1 k.2
theorem eg.Lb (c:eg)(w:Option Pk):c.La w []=0:=eg.Kg (c.Kl _) fun k h=>by
 have:=(eg.Kk.mp h).2;simp at this
theorem eg.Lc (c:eg)(w:Option Pk)(ps:List Str)(x:Str):c.La w (ps++[x])=c.La w ps ||| ii (c.KL x) (c.KM w x):=by
 refine eg.ext (c.Kl _) (i6 (c.Kl _) (jo (c.Kl _))) fun k=>?_;rw[eg.Ka,eg.Kc,eg.KP];unfold eg.La eg.KM;simp only[eg.Kk,aB,aw,az,aj,bQ]
 constructor
 ·rintro⟨h1,h2 | h2,a⟩
  ·exact .inl ⟨h1,h2,a⟩
  ·exact .inr ⟨⟨h1,h2⟩,fun z=>by rw[h2,z.2.2]at a;cases a⟩
 ·rintro(⟨h1,h2,a⟩ | ⟨⟨h1,h2⟩,a⟩)
  ·exact⟨h1,.inl h2,a⟩
  ·refine⟨h1,.inr h2,bV.mpr fun z=>a ⟨h1,h2,?_⟩⟩;rw[←h2];exact z
theorem eg.Ld (c:eg)(w:Option Pk):c.La w (eO (c.needs w))=c.KN w:=by
 refine eg.ext (c.Kl _) (c.Kl _) fun k=>?_;unfold eg.La;rw[eg.KQ,eg.Kk,aB,aw,bQ,gT];unfold eg.Km
 constructor
 ·rintro⟨h1,_,b⟩;refine⟨h1,Decidable.byContradiction fun z=>?_⟩;rw[bV]at b;refine b (lZ.mpr fun n a e=>Decidable.byContradiction fun y=>z ⟨n,a,?_⟩);unfold qi;rw[aq e.symm,bV.mpr y];rfl
 ·rintro⟨h1,n,a,h2⟩;unfold qi at h2;rw[aB,aw,bQ]at h2;refine⟨h1,⟨n,a,h2.1.symm⟩,bV.mpr fun z=>?_⟩;rw[lZ.mp z n a h2.1.symm]at h2;cases h2.2
section
variable {base:Heap}{f:Addr}
theorem Cb:eN ["self","who","mask","part"] ["self","who"] (eF pz):=i9
theorem vh (F:iN K "shut_out_by" "Chart.shut_out_by" pz f fd)(T:TC K mg CC):eZ P w K mg base ff 1 f fd ["self","who"] (mZ CC):=by
 refine F.ok Cb (fun vs H Q E h=>?_) (fun cdv A outer s H vs Q E O h=>?_)
 ·obtain⟨p,dx,B,g,d,fs,L,c,w,rfl,_⟩:=h;rfl
 obtain⟨p,dx,B,g,d,fs,L,c,w,rfl,hp,j,y,D,I,G,q⟩:=h;have t:=gN O;refine⟨_,(ee (eK (i:=2) Cb.nd rfl (Or.inl rfl) er) (ee (fO PassesOwn.never rfl (zJ (fe t (eJ T.cl T.nAl (pv 0)) (pv 1) (fun _ _=>rfl))) (eM (i:=3) Cb.nd rfl (Or.inl rfl)) (eA (j7 (i:=2) Cb.nd rfl (Or.inl rfl) (fc hW (jU t (eJ T.cl T.nOf (pv 0)) (pv 3) er ⟨rfl,rfl,rfl,rfl⟩) (iP kE (hU t (fe t (eJ T.cl T.nAl (pv 0)) (pv 1) (fun _ _=>rfl)) (pv 3) (fun _ _=>rfl)))) t8))) (eA (eP (pv 2))))),?_⟩;obtain⟨o,a,b,m,M⟩:=id I;have R:a.length=(eO (c.needs w)).length:=by
  have:=congrArg List.length m;rw[ab,ab]at this;exact this
 refine⟨_,rfl,p,dx,_,_,rfl,hp,j,_,rfl,B,_,rfl,D,d,o,a,rfl,b,?_⟩;refine sQ (kvs:=a) (fun i σ H2=>∃z,σ=[some (.ref p),some L,some (.int ((c.La w ((eO (c.needs w)).take i):Nat):Int)),z]∧H2=H) ⟨none,by rw[cZ,eg.Lb];rfl,rfl⟩ (fun i σ H2 _ ⟨_,_,e⟩=>by rw[e];exact b) ?_ ?_
 ·rintro i S σ H2 hi ⟨z,rfl,rfl⟩;have l:(a.map (·.1))[i]?=some S.1:=by rw[ae,hi];rfl
  rw[m,ae]at l;obtain⟨x,J,ex⟩:=au.mp l;rw[←ex];obtain⟨r,C,v⟩:=G.get x;have N:(eO (c.needs w)).take (i+1)=(eO (c.needs w)).take i++[x]:=by rw[bb,J];rfl
  refine⟨_,rfl,_,rfl,p,dx,_,_,rfl,hp,y,g,rfl,G.isD,_,rfl,r,C,?_⟩;rw[v];refine⟨_,rfl,p,dx,_,_,rfl,hp,j,_,rfl,B,_,rfl,D,_,rfl,d,_,rfl,I.get (ai J),_,rfl,_,_,rfl,rfl,_,_,rfl,rfl,?_⟩;refine⟨some (.str x),?_,rfl⟩;rw[qv,wP,N,eg.Lc];rfl
 ·rintro σ H2 ⟨z,rfl,rfl⟩;rw[R,aF,eg.Ld];exact⟨_,rfl,q⟩
end
inductive w6 (CC:Addr)(vs:List V)(H:Hp)(Q:VK)(E:XK):Prop
 |mk (p dx b bits by_ ofp al sh fo:Addr)(c:eg)(ksh kfo:List (fM×V))(_:vs=[.ref p])(_:H p=some (.ins CC dx (Fb b bits by_ ofp al sh fo)))(_:ic H bits c c.J4)(_:oo H by_ c)(_:c.n<64)(_:bits≠fo)(_:sh≠fo)(_:H sh=some (.dN ksh))(_:(∀kv∈ksh,∃w,c.Who w∧kv.1=fw w))(_:(∀w,c.Who w→eW ksh (fw w)=some (.int (c.KN w))))(_:H fo=some (.dN kfo))(_:kfo.length≤64)(_:(∀kv∈kfo,∃w,c.Who w∧kv.1=fw w))(_:(∀w,c.Who w→eW kfo (fw w)=some (.int (c.KN w))))(_:∀H',eD (del H [fo]) H'→j3 H' fo c c.KO→Q .non H'):w6 CC vs H Q E
def oY (CC:Addr):Sp:=w6 CC
def eg.Le (c:eg)(vs:List (Option Pk)):Option Pk→Nat
 |none=>c.KN none
 |some k=>c.maskOf fun j=>c.KJ (some k) j||(decide (some j∈vs)&&c.KJ (some j) k)
theorem eg.Lf (c:eg)(w:Option Pk):c.Le [] w=c.KN w:=by
 cases w with
 |none=>rfl
 |some k=>
  refine eg.ext (c.Kl _) (c.Kl _) fun j=>?_;show c.has (c.maskOf _) j↔c.has (c.maskOf _) j;rw[eg.Kk,eg.Kk];simp
theorem eg.Lg (c:eg)(vs:List (Option Pk))(w:Option Pk):c.Le vs w<2^c.n:=by
 cases w <;> exact c.Kl _
theorem eg.Li (c:eg){vs:List (Option Pk)}(h:∀k∈c.ks,some k∈vs)(w:Option Pk):c.Le vs w=c.KO w:=by
 cases w with
 |none=>rfl
 |some k=>
  refine eg.ext (c.Kl _) (c.Kl _) fun j=>?_;show c.has (c.maskOf _) j↔c.has (c.maskOf _) j;rw[eg.Kk,eg.Kk];refine and_congr_right fun a=>?_;rw[aq (h j a),cw]
def eg.Lj (c:eg)(vs:List (Option Pk))(v:Option Pk)(ps:List Pk):Option Pk→Nat
 |none=>c.KN none
 |some k=>if k∈ps then c.Le vs (some k) ||| c.J4 v else c.Le vs (some k)
theorem eg.Lk (c:eg)(vs:List (Option Pk))(v w:Option Pk):c.Lj vs v [] w=c.Le vs w:=by
 cases w with
 |none=>rfl
 |some k=>
  show(if k∈([]:List Pk) then c.Le vs (some k) ||| c.J4 v else c.Le vs (some k))=_;rw[if_neg (fun z=>nomatch z)]
theorem eg.Ll (c:eg)(vs:List (Option Pk)){v w:Option Pk}(b:c.Who v)(e:c.Who w):c.Lj vs v (c.listed (c.KN v)) w=c.Le (vs++[v]) w:=by
 cases w with
 |none=>rfl
 |some k=>
  have g:=e k rfl;show(if k∈c.listed (c.KN v) then c.Le vs (some k) ||| c.J4 v else c.Le vs (some k))=_;have d:k∈c.listed (c.KN v)↔c.Km v k:=by rw[eg.J9,eg.KQ];exact⟨fun z=>z.2,fun z=>⟨g,z⟩⟩
  refine eg.ext ?_ (c.Kl _) fun j=>?_
  ·split
   ·exact i6 (c.Lg _ _) (eg.KU b)
   ·exact c.Lg _ _
  ·have key:c.has (c.Le (vs++[v]) (some k)) j↔c.has (c.Le vs (some k)) j∨(j∈c.ks∧v=some j∧c.Km v k):=by
    unfold eg.Le;simp only[eg.Kk,cS,aB,aw,az,aj,eg.KK]
    constructor
    ·rintro⟨h1,h2 | ⟨h2 | h2,a⟩⟩
     ·exact .inl ⟨h1,.inl h2⟩
     ·exact .inl ⟨h1,.inr ⟨h2,a⟩⟩
     ·exact .inr ⟨h1,h2.symm,h2▸a⟩
    ·rintro(⟨h1,h2 | ⟨h2,a⟩⟩ | ⟨h1,h2,a⟩)
     ·exact⟨h1,.inl h2⟩
     ·exact⟨h1,.inr ⟨.inl h2,a⟩⟩
     ·exact⟨h1,.inr ⟨.inr h2.symm,h2▸a⟩⟩
   rw[key];by_cases hs:c.Km v k
   ·rw[if_pos (d.mpr hs),eg.Ka,eg.KW b];refine or_congr_right ?_;exact⟨fun z=>⟨b j z,z,hs⟩,fun z=>z.2.1⟩
   ·rw[if_neg (fun z=>hs (d.mp z))];exact⟨.inl,fun z=>z.elim id fun y=>absurd y.2.2 hs⟩
theorem rh {c:eg}:∀{ksh:List (fM×V)},(∀kv∈ksh,∃w,c.Who w∧kv.1=fw w)→∃ws:List (Option Pk),ksh.map (·.1)=ws.map fw∧∀w∈ws,c.Who w
 |[],_=>⟨[],rfl,fun w hw=>nomatch hw⟩
 |kv::ksh,h=>by
  obtain⟨ws,e1,e2⟩:=rh (c:=c) (ksh:=ksh) fun x hx=>h x (by simp[hx]);obtain⟨w,h1,h2⟩:=h kv (by simp);refine⟨w::ws,by rw[aD,aD,e1,h2],fun x hx=>?_⟩;rcases am.mp hx with rfl | hx
  ·exact h1
  ·exact e2 x hx
theorem gs {c:eg}{k:Pk}(h:k∈c.ks):c.Who (some k):=fun j e=>by cases e;exact h
theorem iX {c:eg}:c.Who none:=fun j e=>nomatch e
section
variable {base:Heap}{f:Addr}
theorem Ek:eN ["self","who","pick"] ["self"] (eF rZ):=i9
theorem x3 (F:iN K "make_foes_mutual" "Chart.make_foes_mutual" rZ f fd)(T:TC K mg CC)(ML:Mt P w K mg base CC ff 1 "listed" ["self","mask"] (iZ CC)):eZ P w K mg base ff 2 f fd ["self"] (oY CC):=by
 refine F.ok Ek (fun vs H Q E h=>?_) (fun cdv A outer s H vs Q E hr h=>?_)
 ·obtain⟨p,dx,b,bits,J,a6,al,sh,m,c,G,M,rfl,_⟩:=h;rfl
 obtain⟨p,dx,b,bits,J,a6,al,sh,m,c,G,M,rfl,hp,b7,cn,b8,an,cv,cy,co,as,b3,b5,ch,cp,q⟩:=h;have hu:=gN hr;refine⟨_,(eA (fO PassesOwn.never rfl (sv (eJ T.cl T.nSh (pv 0))) (eM (i:=1) Ek.nd rfl (Or.inl rfl)) (eA (fO PassesOwn.never rfl (fD (ib ML hr eT (pv 0) (dZ (fe hu (eJ T.cl T.nSh (pv 0)) (pv 1) (fun _ _=>rfl)) el))) (eM (i:=2) Ek.nd rfl (Or.inl rfl)) (eA (zG hu (eJ T.cl T.nFo (pv 0)) (pv 2) (fe hu (eJ T.cl T.nBits (pv 0)) (pv 1) (fun _ _=>rfl)) AH (fun _ _ _=>rfl))))))),?_⟩;obtain⟨O,Z,bq⟩:=rh co;refine⟨_,rfl,p,dx,_,_,rfl,hp,(by kernel_rfl),sh,G,rfl,.inl cy,fun o H1 sf a3 a5=>?_⟩;have L:H1 m=some (.dN M):=by rw[a3 m (Ne.symm cv)];exact b3
 have a1:H1 p=some (.ins CC dx (Fb b bits J a6 al sh m)):=sf.ins hp
 have keep:∀{H2:Hp},eG (del H1 [m]) H2→∀{a u},H1 a=some u→(∀kvs,u≠.dN kvs)→H2 a=some u:=fun {H2} t {a u} e n1=>t _ _ (by
   rw[eE (by simpa using fun z:a=m=>n1 _ (by rw[z,L]at e;exact(Option.some.inj e).symm))]
   exact e)
 have b4:∀{H2:Hp},eG (del H1 [m]) H2→ic H2 bits c c.J4:=fun {H2} t=>by
  obtain⟨kvs,g1,g2⟩:=b7.f sf;refine⟨kvs,ie t ?_,g2⟩;exact g1.imp (fun z=>by rw[eE (by simpa using an)];exact z) (by rintro⟨o',z⟩;exact⟨o',by rw[eE (by simpa using an)];exact z⟩)
 have bx:∀{H2:Hp},eG (del H1 [m]) H2→oo H2 J c:=fun {H2} t=>by
  obtain⟨kvs,g1,g2⟩:=cn.f sf;have nb:J≠m:=fun z=>by
   rw[z]at g1;rcases g1 with y | ⟨o',y⟩ <;> (rw[L]at y;cases y)
  refine⟨kvs,ie t (g1.imp (fun z=>by rw[eE (by simpa using nb)];exact z) (by rintro⟨o',z⟩;exact⟨o',by rw[eE (by simpa using nb)];exact z⟩)),fun k hk=>?_⟩;obtain⟨v,y1,y2,y3,y4⟩:=g2 k hk;exact⟨v,y1,y2,y3,keep t y4 fun _ z=>nomatch z⟩
 refine vI (kvs:=G) (fun i σ H2=>∃kf o1 o2,σ=[some (.ref p),o1,o2]∧H2 m=some (.dN kf)∧(kf.length≤64∧kf.map (·.1)=M.map (·.1))∧(∀w,c.Who w→eW kf (fw w)=some (.int (c.Le (O.take i) w)))∧eG (del H1 [m]) H2)
  ⟨M,none,none,rfl,L,⟨b5,rfl⟩,fun w hw=>by rw[cZ,eg.Lf];exact cp w hw,fm _ _⟩ ((by rintro i σ H2 _ ⟨_,_,_,_,_,_,_,t⟩;exact keep t a5 fun _ z=>nomatch z)) ?_ ?_
 ·rintro i kv x σ H2 hi kx ⟨kf,o1,o2,rfl,D,ah,R,t⟩;have a9:(G.map (·.1))[i]?=some kv.1:=by rw[ae,hi];rfl
  rw[Z,ae]at a9;obtain⟨v,hv,ev⟩:=au.mp a9;rw[←ev]at kx;have a2:=gz.of kx;have ad:=bq v (ai hv);have ht:O.take (i+1)=O.take i++[v]:=by rw[bb,hv];rfl
  have aa:=keep t a1 fun _ z=>nomatch z;have cx:=keep t a5 fun _ z=>nomatch z;refine⟨_,rfl,p,dx,_,rfl,aa,(by kernel_rfl),_,rfl,p,dx,_,_,rfl,aa,(by kernel_rfl),_,rfl,sh,_,rfl,⟨G,fw v,.inr ⟨o,cx⟩,kx,(as v ad).symm⟩,H2,p,dx,J,_,c,_,rfl,eD.refl _,aa,(by kernel_rfl),bx t,b8,c.Kl _,fun l xs H3 s3 hl bl a8 ct=>?_⟩;refine⟨l,rfl,⟨_,fb.of bl⟩,?_⟩;have b6:l≠m:=Ne.symm (eo D hl);refine fU (K:=K) (a:=l) (xs:=xs) (fun j σ X=>∃g o2,σ=[some (.ref p),some x,o2]∧X m=some (.dN g)∧(g.length≤64∧g.map (·.1)=M.map (·.1))∧(∀w,c.Who w→eW g (fw w)=some (.int (c.Lj (O.take i) v ((c.listed (c.KN v)).take j) w)))∧eG (del H3 [m]) X)
   ⟨kf,_,rfl,s3 _ _ D,ah,fun w hw=>by rw[cZ,eg.Lk];exact R w hw,fm _ _⟩ ((by rintro j σ X _ ⟨_,_,_,_,_,_,r⟩;exact fb.of (r _ _ (by rw[eE (by simpa using b6)];exact bl)))) ?_ ?_
  ·rintro j y σ X hj ⟨g,b9,rfl,S,B,d,r⟩;obtain⟨k,Y,hk⟩:=Paired.J2 a8 hj;have b2:=ai Y;have N:k∈c.ks:=(eg.J9.mp b2).1;have bd:eG (del H1 [m]) X:=fun a u e=>by
    have U:a≠m:=fun z=>by rw[z,fH (by simp)]at e;cases e
    refine r _ _ ?_;rw[eE (by simpa using U)];exact s3 _ _ (t _ _ e)
   have a0:=keep bd a1 fun _ z=>nomatch z;obtain⟨kq,rfl,ag⟩:=id hk;have cc:kq≠m:=fun z=>by rw[z,D]at ag;cases ag
   have bf:gz X (.ref kq) (some k):=⟨kq,rfl,r _ _ (by rw[eE (by simpa using cc)];exact s3 _ _ ag)⟩;have bv:gz X x v:=by
    cases v with
    |none=>exact a2
    |some kk=>
     obtain⟨q0,e1,e2⟩:=(show fg H2 x kk from a2);have n0:q0≠m:=fun z=>by rw[z,D]at e2;cases e2
     exact⟨q0,e1,r _ _ (by rw[eE (by simpa using n0)];exact s3 _ _ e2)⟩
   have a7:(c.listed (c.KN v)).take (j+1)=(c.listed (c.KN v)).take j++[k]:=by rw[bb,Y];rfl
   refine⟨_,rfl,p,dx,_,_,rfl,a0,(by kernel_rfl),_,rfl,m,_,rfl,⟨g,fw (some k),.inl S,bf.key,(d (some k) (gs N)).symm⟩,_,rfl,p,dx,_,_,rfl,a0,(by kernel_rfl),_,rfl,bits,_,rfl,(b4 bd).get ad bv,_,_,rfl,rfl,?_⟩;rw[wP];have bm:k∉(c.listed (c.KN v)).take j:=fun z=>by
    obtain⟨i',I⟩:=ax.mp z;rw[cg]at I
    split at I
    ·next hlt2=>
     have:=(cm (af.mp I).1 (c.Ki _)).mp (I.trans Y.symm)
     lia
    ·cases I
   have b1:(c.Lj (O.take i) v ((c.listed (c.KN v)).take j) (some k))=c.Le (O.take i) (some k):=by
    show(if _ then _ else _)=_;rw[if_neg bm]
   rw[b1];refine⟨_,lj.of (k:=fw (some k)) S bf.key (eV (by have:=B.1;lia)),_,_,rfl,d0,?_,fun u C=>?_,fun a u e=>?_⟩
   ·refine⟨?_,by rw[mK (by rw[d _ (gs N)];rfl)];exact B.2⟩;have:(fq g (fw (some k)) (V.int ((c.Le (O.take i) (some k) ||| c.J4 v:Nat):Int))).length=g.length:=by
     have:=congrArg List.length (mK (kvs:=g) (k:=fw (some k)) (v:=V.int ((c.Le (O.take i) (some k) ||| c.J4 v:Nat):Int)) (by rw[d _ (gs N)];rfl));simpa using this
    have:=B.1
    lia
   ·rw[fX];by_cases eu:u=some k
    ·subst eu;rw[if_pos rfl];show _=some (V.int ((if _ then _ else _:Nat):Int));rw[if_pos (by rw[a7];simp)]
    ·rw[if_neg (fun z=>eu (ik z)),d u C];cases u with
     |none=>rfl
     |some k'=>
      have:k'≠k:=fun z=>eu (by rw[z]);show some (V.int ((if _ then _ else _:Nat):Int))=some (V.int ((if _ then _ else _:Nat):Int));rw[a7];simp[this]
   ·have U:a≠m:=fun z=>by rw[z,fH (by simp)]at e;cases e
    rw[ef U];exact r _ _ e
  ·rintro σ X ⟨g,b9,rfl,S,B,d,r⟩;have lx:xs.length=(c.listed (c.KN v)).length:=Paired.length a8;rw[lx,aF]at d;refine⟨g,_,_,rfl,S,B,fun u C=>?_,fun a u e=>?_⟩
   ·rw[ht,←eg.Ll c _ ad C];exact d u C
   ·have U:a≠m:=fun z=>by rw[z,fH (by simp)]at e;cases e
    refine r _ _ ?_;rw[eE (by simpa using U)];exact s3 _ _ (t _ _ e)
 ·rintro σ H2 ⟨kf,o1,o2,rfl,D,ah,R,t⟩;have lw:G.length=O.length:=by
   have:=congrArg List.length Z;rw[ab,ab]at this;exact this
  rw[lw,aF]at R;refine q H2 (fun a u e=>?_) ⟨kf,.inl D,fun kv a4=>?_,fun w hw=>?_⟩
  ·have U:a≠m:=fun z=>by rw[z,fH (by simp)]at e;cases e
   rw[eE (by simpa using U)]at e;rcases sf a u e with z | ⟨z1,o',z2⟩
   ·exact .inl (t _ _ (by rw[eE (by simpa using U)];exact z))
   ·exact .inr ⟨z1,o',t _ _ (by rw[eE (by simpa using U)];exact z2)⟩
  ·have h1:kv.1∈kf.map (·.1):=be a4;rw[ah.2]at h1;obtain⟨cd,h2,h3⟩:=aA.mp h1;rw[←h3];exact ch cd h2
  ·rw[R w hw,eg.Li c fun k hk=>?_];have:=iE (as (some k) (gs hk));rw[Z]at this;obtain⟨u,ba,C⟩:=aA.mp this;rw[ik C]at ba;exact ba
end
section
variable {H:Hp}{p C dx:Addr}{fs:List (Str×V)}(hp:H p=some (.ins C dx fs))
include hp
theorem jC {u:HO}(e:H a=some u)(h:u≠.ins C dx fs):del H [p] a=some u:=by
 rw[eE (by simpa using fJ e hp h)];exact e
theorem kK {u:HO}(h:Rd H a u)(n:u≠.ins C dx fs):Rd (del H [p]) a u:=h.imp (fun z=>jC hp z n) (by rintro⟨o,z⟩;exact⟨o,jC hp z fun y=>nomatch y⟩)
theorem gL.apart {ns:List Nd}(h:gL H a ns):gL (del H [p]) a ns:=(by obtain⟨xs,h1,h2⟩:=h;exact⟨xs,jC hp h1 (fun z=>nomatch z),Paired.JH h2 (by rintro _ _ ⟨q,e1,e2⟩;exact⟨q,e1,jC hp e2 fun z=>nomatch z⟩)⟩)
theorem gi.apart {b st:Addr}(h:gi CB H b st es)(s:b≠p):gi CB (del H [p]) b st es:=by
 obtain⟨j,m,o,d,vk,h1,h2,r,v,w⟩:=h.ex;refine⟨j,m,o,d,vk,by rw[eE (by simpa using s)];exact h1,kK hp h2 (fun z=>nomatch z),Paired.JH r fun _ _ z=>?_,kK hp v (fun z=>nomatch z),fun x=>?_⟩
 ·obtain⟨g,a,zs,g2,g3,e⟩:=z;exact⟨g,a,zs,g2,jC hp g3 (fun z=>nomatch z),Paired.JH e (by rintro _ _ ⟨q,t,y⟩;exact⟨q,t,jC hp y fun z=>nomatch z⟩)⟩
 ·rcases w x with z | ⟨l,i,g,g2,g3,e⟩
  ·exact .inl z
  ·exact .inr ⟨l,i,g,jC hp g2 (fun z=>nomatch z),g3,e⟩
theorem ic.apart {c:eg}{g:Option Pk→Nat}(h:ic H a c g):ic (del H [p]) a c g:=(by obtain⟨kvs,h1,h2⟩:=h;exact⟨kvs,kK hp h1 (fun z=>nomatch z),h2⟩)
theorem oo.apart {c:eg}(h:oo H a c):oo (del H [p]) a c:=(by obtain⟨kvs,h1,h2⟩:=h;exact⟨kvs,kK hp h1 (fun z=>nomatch z),fun k hk=>(by obtain⟨v,g1,q,g2,g3⟩:=h2 k hk;exact⟨v,g1,q,g2,jC hp g3 fun z=>nomatch z⟩)⟩)
theorem lJ.apart {c:eg}(h:lJ H a c):lJ (del H [p]) a c:=(by obtain⟨kvs,h1,h2⟩:=h;exact⟨kvs,kK hp h1 (fun z=>nomatch z),h2⟩)
end
theorem Bd {CB b st H p C dx}(h:gi CB H b st es)(hp:H p=some (.ins C dx [])):b≠p:=by
 obtain⟨g,d,e,a,vk,h1,_⟩:=h.ex;refine fJ h1 hp fun z=>?_;injection z with _ _ z
 have:=gE d e;rw[z]at this;cases this
theorem iO.upd {d:Addr}{c:eg}{w:Option Pk}{k:List (fM×V)}{u:HO}(h:iO H d c w)(g:H a=some (.dN k)):iO (upd H a u) d c w:=by
 obtain⟨o,b,h1,h2,e⟩:=h;exact⟨o,b,by rw[ef (fJ h1 g fun z=>nomatch z)];exact h1,h2,e⟩
theorem xJ (e:eD (del H [p]) H'):eD (del H [p]) (del H' [p]):=fun a u h=>by
 have na:a≠p:=fun z=>by rw[z,fH (by simp)]at h;cases h
 rcases e a u h with z | ⟨z,o,y⟩
 ·exact .inl (by rw[eE (by simpa using na)];exact z)
 ·exact .inr ⟨z,o,by rw[eE (by simpa using na)];exact y⟩
inductive xj (CB CC:Addr)(vs:List V)(H:Hp)(Q:VK)(E:XK):Prop
 |mk (p dx b st:Addr)(es:List En)(sn:List Nd)(_:vs=[.ref p,.ref b])(_:H p=some (.ins CC dx []))(_:gi CB H b st es)(_:gL H st sn)(_:(es.map eX).Nodup)(_:es.length<64)(_:(∀w,(gJ es sn w).length≤100))(_:∀(c:eg) H',c.es=es→c.sn=sn→eD (del H [p]) H'→iu CB CC H' p c→Q .non H'):xj CB CC vs H Q E
def ph (CB CC:Addr):Sp:=xj CB CC
structure Fo (G H:Hp)(pp C dx aa:Addr)(fs':List (Str×V))(u:HO)(H':Hp):Prop where
 g:eD G H'
 p:H' pp=some (.ins C dx fs')
 a:H' aa=some u
 o:∀b,b≠pp→b≠aa→H' b=H b
 ga:G aa=none
 np:aa≠pp
 keep:∀b v,b≠pp→H b=some v→H' b=some v
theorem iW {fs fs':List (Str×V)}{u:HO}(g:eD G H)(h:G p=none)(hp:H p=some (.ins C dx fs))(d:H a=none):Fo G H p C dx a fs' u (upd (upd H a u) p (.ins C dx fs')):=by
 have np:p≠a:=eo hp d;exact⟨(g.upd (g.free d)).upd h,d0,by rw[ef (Ne.symm np)];exact d0,fun b h1 h2=>by rw[ef h1,ef h2],g.free d,Ne.symm np,fun b v h1 e=>by rw[ef h1,ef (eo e d)];exact e⟩
theorem wD {H:Hp}:∀{nks:List (fM×V)} {es:List En},Paired (mQ H) nks es→nks.map (·.1)=es.map fun e=>fw (some (eX e))
 |_,_,.nil=>rfl
 |_,_,.cons h r=>by rw[aD,aD,wD r,h.1];rfl
abbrev IC (b:Addr):List (Str×V):=[("board",.ref b)]
abbrev Hx (b bits:Addr):List (Str×V):=[("board",.ref b),("bits",.ref bits)]
abbrev Hw (b bits by_:Addr):List (Str×V):=[("board",.ref b),("bits",.ref bits),("by_bit",.ref by_)]
theorem Js (b:Addr):fZ ("board" : Str) (V.ref b) []=IC b:=by kernel_rfl
theorem Jr (b bits:Addr):fZ ("bits" : Str) (V.ref bits) (IC b)=Hx b bits:=by kernel_rfl
theorem Jq (b bits a:Addr):fZ ("by_bit" : Str) (V.ref a) (Hx b bits)=Hw b bits a:=by kernel_rfl
theorem Jp (b bits a d:Addr):fZ ("of_part" : Str) (V.ref d) (Hw b bits a)=yU b bits a d:=by kernel_rfl
theorem Jo (b bits d a e h g:Addr):fZ ("foes" : Str) (V.ref g) (fZ ("shut_out" : Str) (V.ref h) (fZ ("allowed" : Str) (V.ref e) (yU b bits d a)))=Fb b bits d a e h g:=by kernel_rfl
section
variable {base:Heap}{f:Addr}
theorem Dn:eN ["self","board","who"] ["self","board"] (eF so):=i9
theorem yd (F:iN K "__init__" "Chart.__init__" so f fd)(T:TC K mg CC)(c0:TB K mg CB)(MG:Mt P w K mg base CC ff 1 "give_bits" ["self"] (uS CB CC))(MA:Mt P w K mg base CC ff 3 "allowed_by" ["self","who"] (nh CB CC))(MS:Mt P w K mg base CC ff 1 "shut_out_by" ["self","who"] (mZ CC))(MM:Mt P w K mg base CC ff 2 "make_foes_mutual" ["self"] (oY CC)):eZ P w K mg base ff 4 f fd ["self","board"] (ph CB CC):=by
 refine F.ok Dn (fun vs H Q E h=>?_) (fun cdv A outer s H vs Q E hr h=>?_)
 ·obtain⟨p,dx,b,st,es,sn,rfl,_⟩:=h;rfl
 obtain⟨p,dx,b,st,es,sn,rfl,hp,hB,hN,eb,c9,fr,q⟩:=h;have hu:=gN hr;refine⟨_,(ee (ju T.cl T.nBoard (pv 0) (pv 1)) (ee (ju T.cl T.nBits (pv 0) (tO er)) (ee (ju T.cl T.nBy (pv 0) iA) (ee (ju T.cl T.nOf (pv 0) iA) (ee (gq (qI MG (hr.mono (by decide)) eT (pv 0))) (ee (ju T.cl T.nAl (pv 0) mE) (ee (ju T.cl T.nSh (pv 0) mE) (ee (ju T.cl T.nFo (pv 0) mE) (ee (fO PassesOwn.never rfl (sv (eJ c0.cl c0.nN (pv 1))) (eM (i:=2) Dn.nd rfl (Or.inl rfl)) (ee (kQ hu (eJ T.cl T.nAl (pv 0)) (pv 2) (ib MA hr eT (pv 0) (dZ (pv 2) el)) rfl) (ee (kQ hu (eJ T.cl T.nSh (pv 0)) (pv 2) (ib MS (hr.mono (by decide)) eT (pv 0) (dZ (pv 2) el)) rfl) (eA (kQ hu (eJ T.cl T.nFo (pv 0)) (pv 2) (fe hu (eJ T.cl T.nSh (pv 0)) (pv 2) (fun _ _=>rfl)) rfl))))) (eA (gq (qI MM (hr.mono (by decide)) eT (pv 0))))))))))))),?_⟩;have a0:del H [p] p=none:=fH (by simp);have fx:=Bd hB hp;have B0:=hB.apart hp fx;have N0:=hN.apart hp;generalize ds:del H [p]=G0 at *;have fk:eD G0 H:=by rw[←ds];exact(fm _ _).toF
 refine⟨_,rfl,_,rfl,p,dx,_,rfl,hp,(by decide),?_⟩;generalize c7:upd H p (.ins CC dx (fZ ("board" : Str) (V.ref b) []))=H1;have bf:H1 p=some (.ins CC dx (IC b)):=by rw[←c7,d0,Js]
 have fa:eD G0 H1:=by rw[←c7];exact fk.upd a0
 intro bits ah;have et:p≠bits:=eo bf ah;refine⟨d0,_,rfl,p,dx,_,rfl,(by rw[iK,ef et];exact bf),(by show 1<1000;decide),?_⟩;rw[iK,Jr];have A2:=iW (fs':=Hx b bits) (u:=.dN [(none,.int 0)]) fa a0 bf ah;generalize upd (upd H1 bits (.dN [(none,.int 0)])) p (.ins CC dx (Hx b bits))=H2 at A2 ⊢;intro j c5;have e0:p≠j:=eo A2.p c5;refine⟨_,rfl,p,dx,_,rfl,(by rw[ef e0];exact A2.p),(by show 2<1000;decide),?_⟩;rw[Jq];have X:=iW (fs':=Hw b bits j) (u:=.dK []) A2.g a0 A2.p c5;generalize upd (upd H2 j (.dK [])) p (.ins CC dx (Hw b bits j))=J at X ⊢;intro l an;have ei:p≠l:=eo X.p an;refine⟨_,rfl,p,dx,_,rfl,(by rw[ef ei];exact X.p),(by show 3<1000;decide),?_⟩;rw[Jp];have Y:=iW (fs':=yU b bits j l) (u:=.dK []) X.g a0 X.p an;generalize upd (upd J l (.dK [])) p (.ins CC dx (yU b bits j l))=H4 at Y ⊢;have a6:=Y.keep _ _ A2.np (X.keep _ _ A2.np A2.a);have dy:=Y.keep _ _ X.np X.a;refine⟨_,rfl,p,dx,_,rfl,Y.p,(by kernel_rfl),p,dx,b,bits,j,l,st,es,sn,rfl,Y.p,B0.f Y.g,eb,c9,a6,dy,Y.a,eo X.a an,fun c H5 c1 c2 bq M5 fv ep=>?_⟩;subst c1;subst c2;have cp:eD G0 H5:=fun a u e=>by
  rcases Y.g a u e with z | ⟨z1,o,z2⟩
  ·refine bq a u ?_
   rw[eE (by
    simp only[am,aG,or_false,not_or]
    exact⟨(fun y=>by rw[y,A2.ga]at e;cases e),(fun y=>by rw[y,X.ga]at e;cases e),(fun y=>by rw[y,Y.ga]at e;cases e)⟩)]
   exact z
  ·refine .inr ⟨z1,o,bq.frz ?_⟩
   rw[eE (by
    simp only[am,aG,or_false,not_or]
    exact⟨(fun y=>by rw[y,A2.ga]at e;cases e),(fun y=>by rw[y,X.ga]at e;cases e),(fun y=>by rw[y,Y.ga]at e;cases e)⟩)]
   exact z2
 have B:H5 p=some (.ins CC dx (yU b bits j l)):=bq.ins (by
  rw[eE (by
    simp only[am,aG,or_false,not_or]
    exact⟨Ne.symm A2.np,Ne.symm X.np,Ne.symm Y.np⟩)]
  exact Y.p)
 have b9:del H5 [p] p=none:=fH (by simp);have ej:eD (del H5 [p]) H5:=(fm _ _).toF;have gg:eD G0 (del H5 [p]):=by
  rw[←ds]at cp ⊢;exact xJ cp
 have M1:=M5.apart B;have ct:=fv.apart B;have c4:=ep.apart B;generalize f1:del H5 [p]=G1 at *;have B1:=B0.f gg;have N1:=N0.f gg;intro m cx;have e9:p≠m:=eo B cx;refine⟨_,rfl,p,dx,_,rfl,(by rw[ef e9];exact B),(by show 4<1000;decide),?_⟩;have N:=iW (fs':=fZ ("allowed" : Str) (V.ref m) (yU b bits j l)) (u:=.dN []) ej b9 B cx;generalize upd (upd H5 m (.dN [])) p (.ins CC dx (fZ ("allowed" : Str) (V.ref m) (yU b bits j l)))=H6 at N ⊢;intro t ch;have fl:p≠t:=eo N.p ch;refine⟨_,rfl,p,dx,_,rfl,(by rw[ef fl];exact N.p),(by show 5<1000;decide),?_⟩;have A7:=iW (fs':=fZ ("shut_out" : Str) (V.ref t) (fZ ("allowed" : Str) (V.ref m) (yU b bits j l))) (u:=.dN []) N.g b9 N.p ch;generalize upd (upd H6 t (.dN [])) p (.ins CC dx (fZ ("shut_out" : Str) (V.ref t) (fZ ("allowed" : Str) (V.ref m) (yU b bits j l))))=H7 at A7 ⊢;intro C a4;have ed:p≠C:=eo A7.p a4;refine⟨_,rfl,p,dx,_,rfl,(by rw[ef ed];exact A7.p),(by show 6<1000;decide),?_⟩;rw[Jo];have S:=iW (fs':=Fb b bits j l m t C) (u:=.dN []) A7.g b9 A7.p a4;generalize upd (upd H7 C (.dN [])) p (.ins CC dx (Fb b bits j l m t C))=H8 at S ⊢;have d5:=S.keep _ _ N.np (A7.keep _ _ N.np N.a);have c8:=S.keep _ _ A7.np A7.a;have cy:=S.a;have ea:m≠t:=eo N.a ch;have b8:m≠C:=eo (A7.keep _ _ N.np N.a) a4;have a9:t≠C:=eo A7.a a4;obtain⟨bx,dn,dv,ad,vk,b1,b2,b3,b4,b5⟩:=id B1.ex;have ln:=Paired.length b3;have fp:=S.g.rd b2;have bl:G1 dn≠none:=fun z=>by rcases b2 with y | ⟨o,y⟩ <;> (rw[z]at y;cases y)
 have d3:dn≠m:=fun z=>bl (by rw[z];exact N.ga);have d4:dn≠t:=fun z=>bl (by rw[z];exact A7.ga);have cz:dn≠C:=fun z=>bl (by rw[z];exact S.ga);refine⟨_,rfl,b,bx,_,_,rfl,S.g.ins b1,gE _ _,dn,_,rfl,fp,fun o H9 d8 ag e6=>?_⟩;have c3:H9 m=some (.dN []):=by rw[ag m (Ne.symm d3)];exact d5
 have dp:H9 t=some (.dN []):=by rw[ag t (Ne.symm d4)];exact c8
 have d7:H9 C=some (.dN []):=by rw[ag C (Ne.symm cz)];exact cy
 have eq:eD G1 H9:=S.g.trans d8;have fu:=d8.ins S.p
 let ws:List (Option Pk):=none::c.es.map fun e=>some (eX e)
 have dc:((none,V.ref st)::ad).map (·.1)=ws.map fw:=by
  rw[aD,wD b3];show _=fw none::(c.es.map fun e=>some (eX e)).map fw;rw[cE];rfl
 have da:((none,V.ref st)::ad).length=ws.length:=by
  have:=congrArg List.length dc;rw[ab,ab]at this;exact this
 have f0:ws.length≤64:=by
  show(none::c.es.map fun e=>some (eX e)).length≤64;rw[aC,ab];lia
 have aa:∀w∈ws,c.Who w:=fun w I k e=>by
  subst e;rcases am.mp I with z | z
  ·cases z
  ·obtain⟨e,he,z⟩:=aA.mp z;exact(c.mem k).mpr (Option.some.inj z▸be he)
 have L:∀w,c.Who w→w∈ws:=fun w I=>by
  cases w with
  |none=>exact bi
  |some k=>
   obtain⟨e,he,z⟩:=aA.mp ((c.mem k).mp (I k rfl));exact aR _ (aA.mpr ⟨e,he,by rw[z]⟩)
 have ec:ws.Nodup:=by
  refine aX.mpr ⟨fun z=>?_,?_⟩
  ·obtain⟨e,_,z⟩:=aA.mp z;cases z
  ·have:(c.es.map fun e=>some (eX e))=(c.es.map eX).map some:=by rw[cE];rfl
   rw[this];exact cC.mpr (eb.imp fun h z=>h (Option.some.inj z))
 have cn:c.n<64:=by rw[c.n_eq];exact c9
 refine vI (kvs:=(none,.ref st)::ad) (fun i σ H2=>∃D ks kf o2,σ=[some (.ref p),some (.ref b),o2]∧H2 p=some (.ins CC dx (Fb b bits j l m t C))∧H2 dn=some (.frz o (.dN ((none,.ref st)::ad)))∧H2 m=some (.dN D)∧H2 t=some (.dN ks)∧H2 C=some (.dN kf)∧D.length≤i∧ks.map (·.1)=(ws.take i).map fw∧kf.map (·.1)=(ws.take i).map fw∧(∀w∈ws.take i,(∃d,eW D (fw w)=some (.ref d)∧iO H2 d c w)∧eW ks (fw w)=some (.int (c.KN w))∧eW kf (fw w)=some (.int (c.KN w)))∧eD G1 H2)
  ⟨[],[],[],none,rfl,fu,e6,c3,dp,d7,ao _,by simp,by simp,fun w I=>by simp at I,eq⟩ ((by rintro i σ H2 _ ⟨_,_,_,_,_,_,e,_⟩;exact e)) ?_ ?_
 ·rintro i kv x σ H2 hi kx ⟨D,ks,kf,o2,rfl,G,dd,co,ba,a1,la,R,lf,r,g2⟩;have d6:(((none,V.ref st)::ad).map (·.1))[i]?=some kv.1:=by rw[ae,hi];rfl
  rw[dc,ae]at d6;obtain⟨v,hv,ev⟩:=au.mp d6;rw[←ev]at kx;have a3:=gz.of kx;have ew:=ai hv;have e5:=aa v ew;have f5:i<64:=by
   have:=(af.mp hv).1
   lia
  have ht:ws.take (i+1)=ws.take i++[v]:=by rw[bb,hv];rfl
  have d9:v∉ws.take i:=fun z=>by
   obtain⟨i',Z⟩:=ax.mp z;rw[cg]at Z
   split at Z
   ·next hlt2=>
    have:=(cm (af.mp Z).1 ec).mp (Z.trans hv.symm)
    lia
   ·cases Z
  have Hs:kf.length≤i:=by
   have:=congrArg List.length lf;rw[ab,ab,aQ]at this
   lia
  have fy:ks.length≤i:=by
   have:=congrArg List.length R;rw[ab,ab,aQ]at this
   lia
  refine⟨_,rfl,p,dx,_,rfl,G,(by kernel_rfl),_,rfl,p,dx,b,bits,st,_,x,c,v,rfl,G,(by kernel_rfl),(by kernel_rfl),B1.f g2,N1.f g2,M1.f g2,e5,a3,cn,fr v,fun d J s3 hd ey=>?_⟩;have f3:p≠d:=eo G hd;have a7:=s3 _ _ G;have a2:=s3 _ _ co;have e7:lK J (fw v) x:=(a3.same s3).key;refine⟨_,rfl,p,dx,_,_,rfl,a7,(by kernel_rfl),_,rfl,m,_,rfl,lj.of (k:=fw v) a2 e7 (eV (by lia)),?_⟩;have g3:eD G1 J:=g2.trans s3.toF;have g4:eD G1 (upd J m (.dN (fq D (fw v) (.ref d)))):=g3.upd N.ga;have c6:upd J m (.dN (fq D (fw v) (.ref d))) m=some (.dN (fq D (fw v) (.ref d))):=d0;have bd:iO (upd J m (.dN (fq D (fw v) (.ref d)))) d c v:=ey.upd a2;have k4:∀{a u},a≠m→J a=some u→upd J m (.dN (fq D (fw v) (.ref d))) a=some u:=fun {a u} n e=>by rw[ef n];exact e
  have b6:∀w∈ws.take i,∃d',eW D (fw w)=some (.ref d')∧iO (upd J m (.dN (fq D (fw v) (.ref d)))) d' c w:=fun w I=>by
   obtain⟨⟨d',e1,M⟩,_⟩:=r w I;exact⟨d',e1,(M.same s3).upd a2⟩
  have a8:gz (upd J m (.dN (fq D (fw v) (.ref d)))) x v:=by
   cases v with
   |none=>exact a3
   |some kk=>
    obtain⟨q0,e1,M⟩:=(show fg H2 x kk from a3);exact⟨q0,e1,k4 (fJ (s3 _ _ M) a2 fun z=>nomatch z) (s3 _ _ M)⟩
  have as:=k4 (Ne.symm N.np) a7;have a5:=k4 (Ne.symm ea) (s3 _ _ ba);have e8:=k4 (Ne.symm b8) (s3 _ _ a1);have e4:=k4 d3 (s3 _ _ dd)
  clear_value ws
  generalize f4:upd J m (.dN (fq D (fw v) (.ref d)))=H4 at *;refine⟨_,rfl,p,dx,_,rfl,as,(by kernel_rfl),_,rfl,p,dx,m,l,d,_,x,c,v,rfl,as,(by kernel_rfl),(by kernel_rfl),⟨_,fw v,.inl c6,a8.key,by rw[fX,if_pos rfl]⟩,bd,c4.f g4,?_⟩;refine⟨_,rfl,p,dx,_,_,rfl,as,(by kernel_rfl),_,rfl,t,_,rfl,lj.of (k:=fw v) a5 a8.key (eV (by lia)),?_⟩;have g5:eD G1 (upd H4 t (.dN (fq ks (fw v) (.int (c.KN v))))):=g4.upd A7.ga;have k5:∀{a u},a≠t→H4 a=some u→upd H4 t (.dN (fq ks (fw v) (.int (c.KN v)))) a=some u:=fun {a u} n e=>by rw[ef n];exact e
  have d2:upd H4 t (.dN (fq ks (fw v) (.int (c.KN v)))) t=some (.dN (fq ks (fw v) (.int (c.KN v)))):=d0;have B:=k5 (Ne.symm A7.np) as;have ek:=k5 ea c6;have cd:=k5 (Ne.symm a9) e8;have ft:=k5 d4 e4;have d1:gz (upd H4 t (.dN (fq ks (fw v) (.int (c.KN v))))) x v:=by
   cases v with
   |none=>exact a8
   |some kk=>
    obtain⟨q0,e1,M⟩:=(show fg H4 x kk from a8);exact⟨q0,e1,k5 (fJ M a5 fun z=>nomatch z) M⟩
  have cv:=bd.upd (u:=.dN (fq ks (fw v) (.int (c.KN v)))) a5;have bv:∀w∈ws.take i,∃d,eW D (fw w)=some (.ref d)∧iO (upd H4 t (.dN (fq ks (fw v) (.int (c.KN v))))) d c w:=fun w I=>by
   obtain⟨d',e1,M⟩:=b6 w I;exact⟨d',e1,M.upd a5⟩
  generalize f2:upd H4 t (.dN (fq ks (fw v) (.int (c.KN v))))=H5' at *;refine⟨_,rfl,p,dx,_,_,rfl,B,(by kernel_rfl),_,rfl,t,_,rfl,⟨_,fw v,.inl d2,d1.key,by rw[fX,if_pos rfl]⟩,_,rfl,p,dx,_,_,rfl,B,(by kernel_rfl),_,rfl,C,_,rfl,lj.of (k:=fw v) cd d1.key (eV (by lia)),?_⟩;have k6:∀{a u},a≠C→H5' a=some u→upd H5' C (.dN (fq kf (fw v) (.int (c.KN v)))) a=some u:=fun {a u} n e=>by rw[ef n];exact e
  refine⟨_,_,_,_,rfl,k6 (Ne.symm S.np) B,k6 cz ft,k6 b8 ek,k6 a9 d2,d0,?_,?_,?_,fun u O=>?_,g5.upd S.ga⟩
  ·have:=fT D (fw v) (V.ref d);lia
  ·have bm:eW ks (fw v)=none:=by
    cases hq:eW ks (fw v) with
    |none=>rfl
    |some u=>
     have:=iE hq;rw[R]at this;obtain⟨y,hy,e⟩:=aA.mp this;rw[ik e]at hy;exact absurd hy d9
   rw[im _ bm,av,R,ht,av];rfl
  ·have bm:eW kf (fw v)=none:=by
    cases hq:eW kf (fw v) with
    |none=>rfl
    |some u=>
     have:=iE hq;rw[lf]at this;obtain⟨y,hy,e⟩:=aA.mp this;rw[ik e]at hy;exact absurd hy d9
   rw[im _ bm,av,lf,ht,av];rfl
  ·rw[fX,fX,fX];by_cases eu:u=v
   ·subst eu;rw[if_pos rfl,if_pos rfl,if_pos rfl];exact⟨⟨d,rfl,cv.upd cd⟩,rfl,rfl⟩
   ·have ne:¬fw u=fw v:=fun z=>eu (ik z);rw[if_neg ne,if_neg ne,if_neg ne];have dl:u∈ws.take i:=by
     rw[ht]at O;exact(az.mp O).elim id fun z=>absurd (aj.mp z) eu
    obtain⟨d',e1,M⟩:=bv u dl;exact⟨⟨d',e1,M.upd cd⟩,(r u dl).2⟩
 ·rintro σ H2 ⟨D,ks,kf,o2,rfl,G,dd,co,ba,a1,la,R,lf,r,g2⟩;rw[da,aF]at R r lf;rw[da]at la;have Hs:kf.length≤64:=by
   have:=congrArg List.length lf;rw[ab,ab]at this
   lia
  have eh:bits≠C:=fun z=>by
   obtain⟨kvs,y,_⟩:=M1;rw[z]at y;rcases y with y | ⟨o',y⟩ <;> (rw[S.ga]at y;cases y)
  refine⟨_,rfl,p,dx,_,rfl,G,(by kernel_rfl),p,dx,b,bits,j,l,m,t,C,c,ks,kf,rfl,G,M1.f g2,ct.f g2,cn,eh,a9,ba,fun kv b7=>?_,fun w I=>(r w (L w I)).2.1,a1,Hs,fun kv b7=>?_,fun w I=>(r w (L w I)).2.2,fun J U ez=>?_⟩
  ·have:kv.1∈ks.map (·.1):=be b7;rw[R]at this;obtain⟨u,cc,O⟩:=aA.mp this;exact⟨u,aa u cc,O.symm⟩
  ·have:kv.1∈kf.map (·.1):=be b7;rw[lf]at this;obtain⟨u,cc,O⟩:=aA.mp this;exact⟨u,aa u cc,O.symm⟩
  ·have g3:eD G1 J:=fun a u e=>by
    have na:a≠C:=fun z=>by rw[z,S.ga]at e;cases e
    rcases g2 a u e with z | ⟨z1,o',z2⟩
    ·exact U a u (by rw[eE (by simpa using na)];exact z)
    ·exact .inr ⟨z1,o',U.frz (by rw[eE (by simpa using na)];exact z2)⟩
   have a7:=U.ins (b:=p) (by rw[eE (by simpa using ed)];exact G);refine q c J rfl rfl (gg.trans g3) ⟨dx,b,bits,j,l,m,t,C,st,a7,B1.f g3,N1.f g3,M1.f g3,ct.f g3,c4.f g3,?_,?_,ez⟩
   ·refine⟨D,U.rd (.inl (by rw[eE (by simpa using b8)];exact co)),fun w I=>?_⟩;obtain⟨⟨d,e1,o',em,M,e3⟩,_⟩:=r w (L w I);exact⟨d,e1,o',em,U.frz (by rw[eE (by simpa using fJ M a1 fun z=>nomatch z)];exact M),e3⟩
   ·exact⟨ks,U.rd (.inl (by rw[eE (by simpa using a9)];exact ba)),fun w I=>(r w (L w I)).2.1⟩
end
inductive GL (CB CC CL:Addr)(vs:List V)(H:Hp)(Q:VK)(E:XK):Prop
 |mk (G:Hp)(p ch:Addr)(c:eg)(L:ij)(O:List Addr)(m:Nat)(r:V)(rr:Rs)(_:vs=[.ref p,.int (m:Int),r])(_:eD G H)(_:iu CB CC G ch c)(_:gf CL G H p ch c L O)(_:mh G r rr)(_:m<2^c.n)(_:c.n<64)(_:L.length<sizeLine)(_:(∀j,nr L m=some j→Q (.int (j:Nat)) H))(_:(nr L m=none→∀H' O',iy G H O G H' O'→gf CL G H' p ch c (L++[(m,rr)]) O'→Q (.int (L.length:Nat)) H')):GL CB CC CL vs H Q E
def we (CB CC CL:Addr):Sp:=GL CB CC CL
theorem IV {b c d:Addr}{l:List Addr}(h:(a::b::c::d::l).Nodup):a≠b∧a≠c∧a≠d∧b≠c∧b≠d∧c≠d∧a∉l∧b∉l∧c∉l∧d∉l:=by
 simp only[aX,am,not_or]at h;obtain⟨⟨h1,h2,q,m⟩,⟨p,g,o⟩,⟨j,i⟩,e,_⟩:=h;exact⟨h1,h2,q,p,g,j,m,o,i,e⟩
theorem um {c:eg}(h:iu CB CC H p c):∃dx by_ fs,H p=some (.ins CC dx fs)∧fs.lookup ("by_bit" : Str)=some (V.ref by_)∧oo H by_ c∧fs.lookup ("listed" : Str)=none:=by
 obtain⟨dx,b,bits,by_,a,j,m,g,st,h1,h2,l,i,d,e⟩:=h.ex;exact⟨dx,by_,_,h1,(by kernel_rfl),d,(by kernel_rfl)⟩
theorem mz (e:eG H H'){u:HO}(h:H a=some u):H' a=H a:=(e a u h).trans h.symm
theorem pP {α:Type}{l:List α}(hn:l.Nodup){k:α}(h:l[j]?=some k):k∉l.take j:=fun z=>by
 obtain⟨i',hi'⟩:=ax.mp z;rw[cg]at hi'
 split at hi'
 ·next hlt2=>
  have:=(cm (af.mp hi').1 hn).mp (hi'.trans h.symm)
  lia
 ·cases hi'
theorem fE {α:Type}{l:List α}{k:α}(h:l[j]?=some k):l.take (j+1)=l.take j++[k]:=by rw[bb,h];rfl
section
variable {base:Heap}{f:Addr}
theorem Eg:eN ["self","mask","reason","place","pick"] ["self","mask","reason"] (eF Er):=i9
theorem EE (F:iN K "put_down" "Ledger.put_down" Er f fd)(T:TL K mg CL)(ML:Mt P w K mg base CC ff 1 "listed" ["self","mask"] (iZ CC)):eZ P w K mg base ff 2 f fd ["self","mask","reason"] (we CB CC CL):=by
 refine F.ok Eg (fun vs H Q E h=>?_) (fun cdv A outer s H vs Q E hr h=>?_)
 ·obtain⟨G,p,ch,c,L,O,m,r,rr,rfl,_⟩:=h;rfl
 obtain⟨G,p,ch,c,L,O,m,r,rr,rfl,gh,hC,U,hR,hm,d6,cc,q1,q2⟩:=h;have hu:=gN hr;refine⟨_,(ee (fF (iL (nB hu (pv 1) (eJ T.cl T.nPm (pv 0)))) (ee (eK (i:=3) Eg.nd rfl (Or.inl rfl) (fi fK rfl T.len bT (dZ (eJ T.cl T.nMa (pv 0)) el))) (ee (gq (jB PySem.F.plainAttrs_list PySem.F.slot_list_append PySem.F.type_list_append gF (eJ T.cl T.nMa (pv 0)) (dZ (pv 1) el))) (ee (gq (jB PySem.F.plainAttrs_list PySem.F.slot_list_append PySem.F.type_list_append gF (eJ T.cl T.nRe (pv 0)) (dZ (pv 2) el))) (ee (jc hu (eJ T.cl T.nPm (pv 0)) (pv 1) (pv 3) rfl) (eA (fO PassesOwn.never rfl (fD (ib ML hr eT (eJ T.cl T.nCh (pv 0)) (dZ (pv 1) el))) (eM (i:=4) Eg.nd rfl (Or.inl rfl)) (eA (gq (jB PySem.F.plainAttrs_list PySem.F.slot_list_append PySem.F.type_list_append gF (xN hu (eJ T.cl T.nPp (pv 0)) (pv 4) (gc el) ⟨rfl,rfl,rfl,rfl⟩) (dZ (pv 3) el)))))))))) eU) (eA (eP (hU hu (eJ T.cl T.nPm (pv 0)) (pv 1) (fun _ _=>rfl))))),?_⟩;obtain⟨dx,D,I,pm,pp,N,rs,Ol,rfl,hp,cp,dc,da,cz,ei,c3,kvp,kl,hB⟩:=id U.ex;have ag:H p=some (.ins CL dx (AB ch D I pm pp)):=gh.ins hp;obtain⟨n1,n2,n3,n4,n5,n6,n7,n8,n9,ed⟩:=IV U.nd;have cn:jt H pm (.int (m:Int)) ((nr L m).map fun i=>V.int (i:Nat)):=.inl ⟨N,Sum.inl (m:Int),.inl cz,rfl,(c3 m).symm⟩;refine⟨_,rfl,_,rfl,p,dx,_,_,rfl,ag,(by kernel_rfl),pm,_,rfl,cn,_,rfl,?_⟩;cases hpos:nr L m with
 |some j=>
  rw[hpos]at cn;exact fC ⟨_,rfl,p,dx,_,_,rfl,ag,(by kernel_rfl),_,rfl,pm,_,rfl,cn,q1 j hpos⟩
 |none=>
  refine gW ?_;have dp:p∉D::I::pm::pp::Ol:=fun z=>by rw[U.off p z]at hp;cases hp
  have ct:∀{a},a∈D::I::pm::pp::Ol→p≠a:=fun {a} h z=>dp (z▸h);have c0:p≠D:=ct (by simp);have d9:p≠I:=ct (by simp);have eb:p≠pm:=ct (by simp);have lL:(gM (L.map (·.1))).length=L.length:=by unfold gM;rw[ab,ab]
  have d5:rs.length=L.length:=by rw[Paired.length da,ab]
  refine⟨_,rfl,p,dx,_,_,rfl,ag,(by kernel_rfl),D,_,rfl,.inl (fb.of cp),?_⟩;rw[lL];refine⟨_,rfl,p,dx,_,V.ref D,rfl,ag,(by kernel_rfl),.inl ⟨rfl,_,fb.of cp⟩,_,rfl,D,_,_,rfl,rfl,cp,(by rw[lL];exact cc),?_⟩;refine⟨_,rfl,p,dx,_,V.ref I,rfl,(by rw[ef c0];exact ag),(by kernel_rfl),.inl ⟨rfl,_,fb.of (by rw[ef (Ne.symm n1)];exact dc)⟩,_,rfl,I,_,_,rfl,rfl,(by rw[ef (Ne.symm n1)];exact dc),(by rw[d5];exact cc),?_⟩;refine⟨_,rfl,_,rfl,p,dx,_,_,rfl,(by rw[ef d9,ef c0];exact ag),(by kernel_rfl),_,rfl,pm,_,rfl,mU.k (k:=Sum.inl (m:Int)) (by rw[ef (Ne.symm n4),ef (Ne.symm n2)];exact cz) (by lia),?_⟩;have bx:upd (upd (upd H D (.lst (gM (L.map (·.1))++[.int (m:Int)]))) I (.lst (rs++[r]))) pm (.dK (fq N (Sum.inl (m:Int)) (.int (L.length:Nat)))) D=some (.lst (gM ((L++[(m,rr)]).map (·.1)))):=by
   rw[ef n2,ef n1,d0];unfold gM;rw[av,av];rfl
  have bm:upd (upd (upd H D (.lst (gM (L.map (·.1))++[.int (m:Int)]))) I (.lst (rs++[r]))) pm (.dK (fq N (Sum.inl (m:Int)) (.int (L.length:Nat)))) I=some (.lst (rs++[r])):=by rw[ef n4,d0]
  have a0:upd (upd (upd H D (.lst (gM (L.map (·.1))++[.int (m:Int)]))) I (.lst (rs++[r]))) pm (.dK (fq N (Sum.inl (m:Int)) (.int (L.length:Nat)))) pm=some (.dK (fq N (Sum.inl (m:Int)) (.int (L.length:Nat)))):=d0;have R:∀b,b≠D→b≠I→b≠pm→upd (upd (upd H D (.lst (gM (L.map (·.1))++[.int (m:Int)]))) I (.lst (rs++[r]))) pm (.dK (fq N (Sum.inl (m:Int)) (.int (L.length:Nat)))) b=H b:=fun b b1 b2 b3=>by rw[ef b3,ef b2,ef b1]
  generalize upd (upd (upd H D (.lst (gM (L.map (·.1))++[.int (m:Int)]))) I (.lst (rs++[r]))) pm (.dK (fq N (Sum.inl (m:Int)) (.int (L.length:Nat))))=H3 at bx bm a0 R ⊢;have c5:eG (del H (D::I::pm::pp::Ol)) H3:=fun a u e=>by
   have na:a∉D::I::pm::pp::Ol:=fun z=>by rw[fH z]at e;cases e
   rw[eE na]at e;simp only[am,not_or]at na;rw[R a na.1 na.2.1 na.2.2.1];exact e
  have g3:eD G H3:=il gh U.off c5.toF;have b9:q5 H3 c pp (c.plc L) Ol kvp kl:=hB.keep (R pp (Ne.symm n3) (Ne.symm n5) (Ne.symm n6)) fun a g=>R a (fun z=>n7 (z▸g)) (fun z=>n8 (z▸g)) (fun z=>n9 (z▸g));have d3:∀a,H3 a=none→H a=none:=fun a e=>by
   by_cases z1:a=D
   ·rw[z1,bx]at e;cases e
   by_cases z2:a=I
   ·rw[z2,bm]at e;cases e
   by_cases z3:a=pm
   ·rw[z3,a0]at e;cases e
   rw[←R a z1 z2 z3];exact e
  obtain⟨cx,dl,ej,c2,d2,d7,d1⟩:=um (hC.f g3);refine⟨_,rfl,p,dx,_,_,rfl,g3.ins hp,(by kernel_rfl),ch,cx,_,rfl,c2,d1,_,rfl,H3,ch,cx,dl,_,c,m,rfl,eD.refl _,c2,d2,d7,d6,hm,fun l xs H4 s4 hl c6 c9 dn=>?_⟩;refine⟨l,rfl,⟨_,fb.of c6⟩,?_⟩;have lx:xs.length=(c.listed m).length:=Paired.length c9;have c4:l∉D::I::pm::pp::Ol:=fun z=>by
   simp only[am]at z;rcases z with z | z | z | z | z
   ·rw[z,bx]at hl;cases hl
   ·rw[z,bm]at hl;cases hl
   ·rw[z,a0]at hl;cases hl
   ·rw[z,b9.d]at hl;cases hl
   ·obtain⟨u,B⟩:=U.liv l (by simp[z]);rw[R l (fun y=>n7 (y▸z)) (fun y=>n8 (y▸z)) (fun y=>n9 (y▸z)),B]at hl;cases hl
  have h4:∀a u,H3 a=some u→H4 a=some u:=s4;have d4:eG (del H (D::I::pm::pp::Ol)) H4:=c5.trans s4;refine fU (K:=K) (a:=l) (xs:=xs) (fun j σ J=>∃kvp kl Ol' o4,σ=[some (.ref p),some (.int (m:Int)),some r,some (.int (L.length:Nat)),o4]∧q5 J c pp (fun k=>c.plc L k++if k∈(c.listed m).take j then [L.length] else []) Ol' kvp kl∧(D::I::pm::pp::Ol').Nodup∧(∀a∈Ol',a∈Ol∨H a=none)∧(∀a∈Ol',G a=none)∧(∀a∈Ol',∃u,J a=some u)∧(∀a∈Ol',∀u,J a=some u→¬uM u)∧l∉Ol'∧J D=some (.lst (gM ((L++[(m,rr)]).map (·.1))))∧J I=some (.lst (rs++[r]))∧J pm=some (.dK (fq N (Sum.inl (m:Int)) (.int (L.length:Nat))))∧J l=some (.lst xs)∧eG (del H (D::I::pm::pp::Ol)) J∧(∀v k,fg H3 v k→fg J v k)∧∀a,J a=none→H a=none)
   ⟨kvp,kl,Ol,none,rfl,?_,U.nd,fun a g=>.inl g,fun a g=>U.off a (by simp[g]),fun a g=>?_,fun a g u dd=>?_,fun z=>c4 (by simp[z]),h4 _ _ bx,h4 _ _ bm,h4 _ _ a0,c6,d4,(by rintro v k ⟨q,e1,e2⟩;exact⟨q,e1,h4 _ _ e2⟩),fun a e=>d3 a (s4.free e)⟩ ((by rintro j σ J _ ⟨_,_,_,_,_,_,_,_,_,_,_,_,_,_,_,e,_⟩;exact fb.of e)) ?_ ?_
  ·refine(b9.keep (mz s4 b9.d) fun a g=>?_).fn fun k hk=>?_
   ·obtain⟨u,B⟩:=U.liv a (by simp[g]);exact mz s4 ((R a (fun z=>n7 (z▸g)) (fun z=>n8 (z▸g)) (fun z=>n9 (z▸g))).trans B)
   ·rw[cZ,if_neg (fun z=>nomatch z),cf]
  ·obtain⟨u,B⟩:=U.liv a (by simp[g]);exact⟨u,s4 _ _ ((R a (fun z=>n7 (z▸g)) (fun z=>n8 (z▸g)) (fun z=>n9 (z▸g))).trans B)⟩
  ·obtain⟨v,c1⟩:=U.liv a (by simp[g]);have e4:=s4 _ _ ((R a (fun z=>n7 (z▸g)) (fun z=>n8 (z▸g)) (fun z=>n9 (z▸g))).trans c1);rw[dd]at e4;cases e4;exact U.nf a (by simp[g]) _ c1
  ·rintro j x σ J hj ⟨C,cd,S,o4,rfl,B5,ah,al,ad,M,bv,as,aa,Z,X,bl,Y,bf,an⟩;obtain⟨k,ba,d8⟩:=Paired.J2 c9 hj;obtain⟨kq,rfl,c7⟩:=bf _ _ d8;have co:=(eg.J9.mp (ai ba)).1;have b8:=pP (c.Ki m) ba;have g5:eD G J:=il gh U.off Y.toF;have bq:=g5.ins hp;obtain⟨m1,m2,m3,m4,m5,m6,m7,m8,m9,b4⟩:=IV ah;have gk:(c.plc L k++if k∈(c.listed m).take j then [L.length] else [])=c.plc L k:=by rw[if_neg b8,cf]
   have lk:(gM (c.plc L k++if k∈(c.listed m).take j then [L.length] else [])).length<sizeLine:=by
    rw[gk];unfold gM;rw[ab];exact bw (c.K2 k L 0) cc
   refine⟨_,rfl,p,dx,_,V.ref pp,rfl,bq,(by kernel_rfl),pp,rfl,⟨_,.inl B5.d⟩,_,rfl,(by show 0≤sizeLine;decide),fun tl t=>?_⟩;have st:=eB t (.lst []);have bd:tl≠pp:=fun z=>by rw[z,B5.d]at t;cases t
   have b5:tl∉S:=fun z=>by obtain⟨u,B⟩:=M tl z;rw[B]at t;cases t
   have cv:tl≠D:=fun z=>by rw[z,aa]at t;cases t
   have c8:tl≠I:=fun z=>by rw[z,Z]at t;cases t
   have b6:tl≠pm:=fun z=>by rw[z,X]at t;cases t
   have cy:tl≠l:=fun z=>by rw[z,bl]at t;cases t
   have eh:tl≠kq:=fun z=>by rw[z,c7]at t;cases t
   have ec:=B5.len;refine⟨C,fw (some k),st _ _ B5.d,⟨kq,rfl,st _ _ c7⟩,eV (by lia),fun v hv=>?_,fun hn=>?_⟩
   ·have B6:q5 (upd J tl (.lst [])) c pp _ S C cd:=B5.keep (mz st B5.d) fun a g=>by obtain⟨u,B⟩:=M a g;exact mz st B
    obtain⟨l',e1⟩:∃l',v=.ref l':=by
     rcases B5.val k co with ⟨z,_⟩ | ⟨l',z1,_⟩
     ·rw[hv]at z;cases z
     ·rw[hv]at z1;cases z1;exact⟨l',rfl⟩
    subst e1;obtain⟨i1,i2,i3⟩:=B6.old (i:=L.length) co hv b4;refine⟨.inl ⟨rfl,_,fb.of i2⟩,_,rfl,l',_,_,rfl,rfl,i2,lk,?_⟩;have dv:∀{a},a∉S→a≠l':=fun {a} h z=>h (z▸i1);have ea:l'∉D::I::pm::pp::S→False:=fun z=>z (by simp[i1]);have k6:∀{a u},a∉S→J a=some u→upd (upd J tl (.lst [])) l' (.lst (gM (c.plc L k++if k∈(c.listed m).take j then [L.length] else [])++[.int (L.length:Nat)])) a=some u:=fun {a u} h e=>by rw[ef (dv h)];exact st _ _ e
    refine⟨_,_,_,_,rfl,i3.fn fun y hy=>?_,ah,al,ad,fun a g=>?_,fun a g v o=>?_,as,k6 m7 aa,k6 m8 Z,k6 m9 X,k6 as bl,fun a u e=>?_,fun v y hy=>?_,fun a e=>?_⟩
    ·rw[fE ba];by_cases ey:y=k
     ·subst ey;rw[if_pos rfl,if_neg b8,cf,if_pos (by simp)]
     ·rw[if_neg ey]
      congr 1
      simp only[az,aj,ey,or_false]
    ·by_cases z:a=l'
     ·exact⟨_,by rw[z];exact d0⟩
     ·obtain⟨u,B⟩:=M a g;exact⟨u,by rw[ef z];exact st _ _ B⟩
    ·by_cases z:a=l'
     ·rw[z,d0]at o;cases o;exact fun q=>q
     ·obtain⟨u,B⟩:=M a g;rw[ef z,st _ _ B]at o;cases o;exact bv a g _ B
    ·have na:a≠l':=fun z=>by
      rcases al l' i1 with y | y
      ·rw[z,fH (by simp[y])]at e;cases e
      ·have:=fm _ _ a u e;rw[z,y]at this;cases this
     rw[ef na];exact st _ _ (Y _ _ e)
    ·obtain⟨yq,y1,y2⟩:=bf v y hy;exact⟨yq,y1,by rw[ef (fJ (st _ _ y2) i2 fun z=>nomatch z)];exact st _ _ y2⟩
    ·by_cases z:a=l'
     ·rw[z,d0]at e;cases e
     ·rw[ef z]at e;exact an a (st.free e)
   ·have b7:upd (upd J tl (.lst [])) pp (.dN (fq C (fw (some k)) (.ref tl))) tl=some (.lst []):=by rw[ef bd];exact d0
    refine⟨.inl ⟨rfl,_,fb.of b7⟩,_,rfl,tl,_,_,rfl,rfl,b7,(by show 0<sizeLine;decide),?_⟩;have e1:upd (upd (upd J tl (.lst [])) pp (.dN (fq C (fw (some k)) (.ref tl)))) tl (.lst ([]++[.int (L.length:Nat)])) pp=some (.dN (fq C (fw (some k)) (.ref tl))):=by rw[ef (Ne.symm bd),d0]
    have e2:upd (upd (upd J tl (.lst [])) pp (.dN (fq C (fw (some k)) (.ref tl)))) tl (.lst ([]++[.int (L.length:Nat)])) tl=some (.lst [.int (L.length:Nat)]):=d0;have e3:∀b,b≠pp→b≠tl→upd (upd (upd J tl (.lst [])) pp (.dN (fq C (fw (some k)) (.ref tl)))) tl (.lst ([]++[.int (L.length:Nat)])) b=J b:=fun b b1 b2=>by rw[ef b2,ef b1,ef b2]
    generalize upd (upd (upd J tl (.lst [])) pp (.dN (fq C (fw (some k)) (.ref tl)))) tl (.lst ([]++[.int (L.length:Nat)]))=H7 at e1 e2 e3 ⊢;have B7:=B5.new (i:=L.length) co hn b4 b5 bd e1 e2 e3;refine⟨_,_,tl::S,_,rfl,B7.fn fun y hy=>?_,?_,fun a g=>?_,fun a g=>?_,fun a g=>?_,fun a g v o=>?_,fun z=>?_,by rw[e3 D m3 (Ne.symm cv)];exact aa,by rw[e3 I m5 (Ne.symm c8)];exact Z,by rw[e3 pm m6 (Ne.symm b6)];exact X,?_,fun a u e=>?_,fun v y hy=>?_,fun a e=>?_⟩
    ·rw[fE ba];by_cases ey:y=k
     ·subst ey;rw[if_pos rfl,if_neg b8,cf,if_pos (by simp)]
     ·rw[if_neg ey]
      congr 1
      simp only[az,aj,ey,or_false]
    ·simp only[aX,am,not_or]at ah ⊢;obtain⟨⟨a1,a2,a3,a4⟩,⟨a5,a6,a7⟩,⟨a8,a9⟩,ds,dy⟩:=ah;exact⟨⟨a1,a2,a3,Ne.symm cv,a4⟩,⟨a5,a6,Ne.symm c8,a7⟩,⟨a8,Ne.symm b6,a9⟩,⟨Ne.symm bd,ds⟩,b5,dy⟩
    ·rcases am.mp g with z | z
     ·rw[z];exact .inr (an tl t)
     ·exact al a z
    ·rcases am.mp g with z | z
     ·rw[z];exact g5.free t
     ·exact ad a z
    ·rcases am.mp g with z | z
     ·rw[z];exact⟨_,e2⟩
     ·obtain⟨u,B⟩:=M a z;exact⟨u,by rw[e3 a (fun y=>b4 (y▸z)) (fun y=>b5 (y▸z))];exact B⟩
    ·rcases am.mp g with z | z
     ·rw[z,e2]at o;cases o;exact fun q=>q
     ·rw[e3 a (fun y=>b4 (y▸z)) (fun y=>b5 (y▸z))]at o;exact bv a z v o
    ·rcases am.mp z with y | y
     ·exact cy y.symm
     ·exact as y
    ·rw[e3 l (fun z=>c4 (by simp[z])) (Ne.symm cy)];exact bl
    ·have na:a≠pp:=fun z=>by rw[z,fH (by simp)]at e;cases e
     have nt:a≠tl:=fun z=>by
      have:=Y _ _ e;rw[z,t]at this;cases this
     rw[e3 a na nt];exact Y _ _ e
    ·obtain⟨yq,y1,y2⟩:=bf v y hy;exact⟨yq,y1,by rw[e3 yq (fJ y2 B5.d fun z=>nomatch z) (eo y2 t)];exact y2⟩
    ·by_cases z1:a=pp
     ·rw[z1,e1]at e;cases e
     by_cases z2:a=tl
     ·rw[z2,e2]at e;cases e
     rw[e3 a z1 z2]at e;exact an a e
  ·rintro σ J ⟨C,cd,S,o4,rfl,B5,ah,al,ad,M,bv,as,aa,Z,X,bl,Y,bf,an⟩;rw[lx,aF]at B5;have g5:eD G J:=il gh U.off Y.toF;refine⟨_,rfl,p,dx,_,_,rfl,g5.ins hp,(by kernel_rfl),_,rfl,pm,_,rfl,.inl ⟨_,Sum.inl (m:Int),.inl X,rfl,by rw[fX,if_pos rfl]⟩,q2 hpos J (D::I::pm::pp::S) ?_ ?_⟩
   ·refine⟨eD.refl _,g5,fun a e n=>absurd e n,fun a g=>?_,Y.toF,an⟩;simp only[am]at g ⊢;rcases g with z | z | z | z | z
    ·exact .inl (.inl z)
    ·exact .inl (.inr (.inl z))
    ·exact .inl (.inr (.inr (.inl z)))
    ·exact .inl (.inr (.inr (.inr (.inl z))))
    ·rcases al a z with y | y
     ·exact .inl (.inr (.inr (.inr (.inr y))))
     ·exact .inr y
   ·refine⟨⟨dx,D,I,pm,pp,_,_,S,rfl,hp,aa,Z,?_,X,?_,fun m'=>?_,⟨C,cd,B5.fn fun k hk=>?_⟩⟩,fun a g=>?_,fun a g=>?_,fun a g v o=>?_,ah⟩
    ·rw[av];exact Paired.snoc da hR
    ·have:=fT N (Sum.inl (m:Int)) (V.int (L.length:Nat));rw[aE,aV]
     lia
    ·rw[fX];by_cases em:m'=m
     ·subst em;rw[if_pos rfl,lN hpos,if_pos rfl];rfl
     ·rw[if_neg (fun z=>em (by have:=Sum.inl.inj z;lia)),c3 m'];cases hq:nr L m' with
      |some j=>rw[qp hq]
      |none=>rw[lN hq,if_neg (fun z=>em z.symm)]
    ·rw[eg.K1]
     congr 1
     by_cases hh:c.has m k
     ·rw[if_pos hh,if_pos (eg.J9.mpr hh)]
     ·rw[if_neg hh,if_neg (fun z=>hh (eg.J9.mp z))]
    ·simp only[am]at g;rcases g with z | z | z | z | z
     ·exact U.off a (by simp[z])
     ·exact U.off a (by simp[z])
     ·exact U.off a (by simp[z])
     ·exact U.off a (by simp[z])
     ·exact ad a z
    ·simp only[am]at g;rcases g with z | z | z | z | z
     ·exact⟨_,by rw[z];exact aa⟩
     ·exact⟨_,by rw[z];exact Z⟩
     ·exact⟨_,by rw[z];exact X⟩
     ·exact⟨_,by rw[z];exact B5.d⟩
     ·exact M a z
    ·simp only[am]at g;rcases g with z | z | z | z | z
     ·rw[z,aa]at o;cases o;exact fun q=>q
     ·rw[z,Z]at o;cases o;exact fun q=>q
     ·rw[z,X]at o;cases o;exact fun q=>q
     ·rw[z,B5.d]at o;cases o;exact fun q=>q
     ·exact bv a z v o
end
inductive wY (CB CC CL:Addr)(vs:List V)(H:Hp)(Q:VK)(E:XK):Prop
 |mk (G:Hp)(p ch:Addr)(c:eg)(L:ij)(O:List Addr)(v:V)(k:Pk)(pk:Nat)(_:vs=[.ref p,v,.int (pk:Int)])(_:eD G H)(_:iu CB CC G ch c)(_:gf CL G H p ch c L O)(_:fg H v k)(_:k∈c.ks)(_:(∀(H':Hp) (j:Nat) (e:Nat×Rs),eG H H'→L[j]?=some e→ii e.1 pk=c.bit k→Q (.int (j:Nat)) H'))(_:((∀e∈L,c.has e.1 k→ii e.1 pk≠c.bit k)→∀H',eG H H'→Q .non H')):wY CB CC CL vs H Q E
def oV (CB CC CL:Addr):Sp:=wY CB CC CL
inductive xl (CB CC CL:Addr)(vs:List V)(H:Hp)(Q:VK)(E:XK):Prop
 |mk (G:Hp)(p ch:Addr)(c:eg)(L:ij)(O:List Addr)(v:V)(k:Pk)(pk:Nat)(_:vs=[.ref p,v,.int (pk:Int)])(_:eD G H)(_:iu CB CC G ch c)(_:gf CL G H p ch c L O)(_:fg H v k)(_:k∈c.ks)(_:∀H',eG H H'→Q (.int (c.KI L k pk:Nat)) H'):xl CB CC CL vs H Q E
def pj (CB CC CL:Addr):Sp:=xl CB CC CL
theorem qG {c:eg}{k:Pk}:∀(L:ij) (i:Nat),Paired (fun(j:Nat) (e:Nat×Rs)=>i≤j∧L[j-i]?=some e) (c.KZ k L i) (L.filter fun e=>decide (c.has e.1 k))
 |[],i=>.nil
 |x::L,i=>by
  have ih:=qG (c:=c) (k:=k) L (i+1);have ih2:Paired (fun(j:Nat) (e:Nat×Rs)=>i≤j∧(x::L)[j-i]?=some e) (c.KZ k L (i+1)) (L.filter fun e=>decide (c.has e.1 k)):=Paired.JH ih fun j e ⟨h1,h2⟩=>⟨by lia,by rw[show j-i=(j-(i+1))+1 by lia];exact h2⟩;unfold eg.KZ;by_cases h:c.has x.1 k
  ·rw[if_pos h,aH,if_pos (aq h)];exact .cons ⟨ao _,by rw[bR];rfl⟩ ih2
  ·rw[if_neg h,aH,if_neg (by rw[ar h];exact fun z=>nomatch z)];exact ih2
theorem zI (c:eg)(L:ij)(k:Pk):Paired (fun(j:Nat) (e:Nat×Rs)=>L[j]?=some e) (c.plc L k) (L.filter fun e=>decide (c.has e.1 k)):=Paired.JH (qG L 0) fun j e h=>h.2
theorem q5.get {c:eg}{pp:Addr}{g:Pk→List Nat}{Ol:List Addr}{kvp:List (fM×V)}{kl:List Pk}(B:q5 H c pp g Ol kvp kl){k:Pk}(d:k∈c.ks){t:Addr}(s:eG H H')(h:H' t=some (.lst [])):∃a,(eW kvp (fw (some k))).getD (.ref t)=.ref a∧H' a=some (.lst (gM (g k))):=by
 rcases B.val k d with ⟨b,e⟩ | ⟨l,b,_,i⟩
 ·exact⟨t,by rw[b];rfl,by rw[e];exact h⟩
 ·exact⟨l,by rw[b];rfl,s _ _ i⟩
theorem sE {l:List Nat}{x:V}(h:(gM l)[i]?=some x):∃j,l[i]?=some j∧x=.int (j:Nat):=by
 unfold gM at h;rw[ae]at h;obtain⟨j,h1,h2⟩:=au.mp h;exact⟨j,h1,h2.symm⟩
theorem jX {l:List Nat}(h:l[i]?=some m):sW (gM l) (i:Int)=some (V.int (m:Nat)):=by
 refine jE ?_;rw[io];unfold gM;rw[ae,h];rfl
theorem yM (r:Nat):Builtin.bitAnd (r:Int) ((r:Int)-1)=((r &&& (r-1):Nat):Int):=by
 rcases dM r with z | z
 ·subst z;have e:((0:Nat):Int)-1=Builtin.bitNot ((0:Nat):Int):=by unfold Builtin.bitNot;lia
  rw[e,qv];rfl
 ·rw[show(r:Int)-1=((r-1:Nat):Int) by lia,nL]
theorem sS {a b:Nat}:decide (V.int (a:Int)=V.int (b:Int))=decide (a=b):=by
 by_cases h:a=b
 ·rw[h,aq rfl,aq rfl]
 ·rw[ar h,ar];intro z;injection z with z
  lia
section
variable {base:Heap}{f:Addr}
theorem FU:eN ["self","pick","picked","place"] ["self","pick","picked"] (eF rW):=i9
theorem xY (F:iN K "place_against" "Ledger.place_against" rW f fd)(T:TL K mg CL)(J:TC K mg CC):eZ P w K mg base ff 1 f fd ["self","pick","picked"] (oV CB CC CL):=by
 refine F.ok FU (fun vs H Q E h=>?_) (fun cdv A outer s H vs Q E hr h=>?_)
 ·obtain⟨G,p,ch,c,L,O,v,k,r,rfl,_⟩:=h;rfl
 obtain⟨G,p,ch,c,L,O,v,k,r,rfl,gh,hC,hL,X,Y,q1,q2⟩:=h;have U:=gN hr;refine⟨_,(ee (fO PassesOwn.never rfl (fD (qJ U (eJ T.cl T.nPp (pv 0)) (pv 1) (gc el) ⟨rfl,rfl,rfl,rfl⟩)) (eM (i:=3) FU.nd rfl (Or.inl rfl)) (eA (fF (fz kz (fc hW (eL fh (eJ T.cl T.nMa (pv 0)) (pv 3) (fun _ _=>rfl)) (iP kE (pv 2))) (fe U (eJ J.cl J.nBits (eJ T.cl T.nCh (pv 0))) (pv 1) (fun _ _=>rfl)) (fQ _)) (eA (eP (pv 3))) eU))) (eA (eP iR))),?_⟩;obtain⟨dx,Z,re,pm,pp,as,rs,Ol,rfl,hp,R,a1,an,ag,ah,a0,kvp,kl,S⟩:=id hL.ex;have q:H p=some (.ins CL dx (AB ch Z re pm pp)):=gh.ins hp;obtain⟨cx,b,bits,ad,aa,al,sh,fo,st,c1,c2,c3,c4,c5,c6,c7,c8,c9⟩:=(hC.f gh).ex;refine⟨_,rfl,p,dx,_,_,rfl,q,(by kernel_rfl),pp,rfl,⟨_,.inl S.d⟩,_,rfl,(by show 0≤sizeLine;decide),fun t ht=>?_⟩;have g:=eB ht (.lst []);obtain⟨a,M,I⟩:=S.get Y g (t:=t) d0;refine⟨_,⟨kvp,fw (some k),.inl (g _ _ S.d),gz.key (w:=some k) (fg.same g X),rfl⟩,?_⟩;rw[M];refine⟨a,rfl,⟨_,fb.of I⟩,?_⟩;generalize upd H t (.lst [])=H1 at *;refine fU (K:=K) (a:=a) (xs:=gM (c.plc L k)) (fun i σ H2=>∃N,σ=[some (.ref p),some v,some (.int (r:Int)),N]∧H2=H1∧∀j∈(c.plc L k).take i,∀e,L[j]?=some e→ii e.1 r≠c.bit k) ⟨none,rfl,rfl,fun j o=>by simp at o⟩ (fun i σ H2 _ ⟨_,_,e,_⟩=>by rw[e];exact fb.of I) ?_ ?_
 ·rintro i x σ H2 hi ⟨N,rfl,rfl,l⟩;obtain⟨j,o,rfl⟩:=sE hi;obtain⟨e,C,y⟩:=eg.K4.mp (ai o);have hm:(L.map (·.1))[j]?=some e.1:=by rw[ae,C];rfl
  refine⟨_,rfl,p,dx,_,_,rfl,g _ _ q,(by kernel_rfl),_,rfl,Z,_,_,_,rfl,rfl,fb.of (g _ _ R),jX hm,_,rfl,_,rfl,_,_,rfl,rfl,?_⟩;refine⟨_,rfl,p,dx,_,_,rfl,g _ _ q,(by kernel_rfl),ch,cx,_,_,rfl,g _ _ c1,(by kernel_rfl),_,rfl,bits,_,rfl,(c4.same g).get (w:=some k) (gs Y) (fg.same g X),rfl,_,rfl,?_⟩;dsimp only;have B:decide (V.int (Builtin.bitAnd (e.1:Int) (Builtin.bitNot (r:Int)))=V.int ((c.J4 (some k):Nat):Int))=decide (ii e.1 r=c.bit k):=by
   rw[qv];exact sS
  rw[B];by_cases hd:ii e.1 r=c.bit k
  ·rw[aq hd];exact gW ⟨_,rfl,q1 H2 j e g C hd⟩
  ·rw[ar hd];refine fC ⟨_,rfl,rfl,fun j' D e' m=>?_⟩;rw[fE o]at D;rcases az.mp D with z | z
   ·exact l j' z e' m
   ·rw[aj.mp z,C]at m;cases m;exact hd
 ·rintro σ H2 ⟨N,rfl,rfl,l⟩;unfold gM at l;rw[ab,aF]at l;refine q2 (fun e C y=>?_) H2 g;obtain⟨j,o⟩:=ax.mp C;exact l j (eg.K4.mpr ⟨e,o,y⟩) e o
theorem zn:eN ["self","pick","picked","barred","place","rest"] ["self","pick","picked"] (eF sr):=i9
theorem yf (F:iN K "barred_with" "Ledger.barred_with" sr f fd)(T:TL K mg CL):eZ P w K mg base ff 1 f fd ["self","pick","picked"] (pj CB CC CL):=by
 refine F.ok zn (fun vs H Q E h=>?_) (fun cdv A outer s H vs Q E hr h=>?_)
 ·obtain⟨G,p,ch,c,L,O,v,k,g,rfl,_⟩:=h;rfl
 obtain⟨G,p,ch,c,L,O,v,k,g,rfl,gh,hC,Y,hv,hk,q⟩:=h;have hu:=gN hr;refine⟨_,(ee (eK (i:=3) zn.nd rfl (Or.inl rfl) er) (ee (fO PassesOwn.never rfl (fD (qJ hu (eJ T.cl T.nPp (pv 0)) (pv 1) (gc el) ⟨rfl,rfl,rfl,rfl⟩)) (eM (i:=4) zn.nd rfl (Or.inl rfl)) (ee (eK (i:=5) zn.nd rfl (Or.inl rfl) (fc hW (eL fh (eJ T.cl T.nMa (pv 0)) (pv 4) (fun _ _=>rfl)) (iP kE (pv 2)))) (eA (fF (fz kz (fc hW (pv 5) (fc zZ (pv 5) er)) er (fQ _)) (eA (j7 (i:=3) zn.nd rfl (Or.inl rfl) (pv 5) t8)) eU)))) (eA (eP (pv 3))))),?_⟩;obtain⟨dx,U,re,pm,pp,ag,rs,Ol,rfl,hp,M,al,ad,Z,aa,ah,kvp,kl,S⟩:=id Y.ex;have z:H p=some (.ins CL dx (AB ch U re pm pp)):=gh.ins hp;refine⟨_,rfl,p,dx,_,_,rfl,z,(by kernel_rfl),pp,rfl,⟨_,.inl S.d⟩,_,rfl,(by show 0≤sizeLine;decide),fun t X=>?_⟩;have m:=eB X (.lst []);obtain⟨a,C,B⟩:=S.get hk m (t:=t) d0;refine⟨_,⟨kvp,fw (some k),.inl (m _ _ S.d),gz.key (w:=some k) (fg.same m hv),rfl⟩,?_⟩;rw[C];refine⟨a,rfl,⟨_,fb.of B⟩,?_⟩;generalize upd H t (.lst [])=H1 at *;have o:=zI c L k;have lp:=Paired.length o;generalize J:(L.filter fun e=>decide (c.has e.1 k))=es at *
 let bf:Nat→Nat×Rs→Nat:=fun b e=>let r:=ii e.1 g;if r &&& (r-1)=0 then b ||| r else b
 have I:c.KI L k g=es.foldl bf 0:=by unfold eg.KI;rw[J]
 refine fU (K:=K) (a:=a) (xs:=gM (c.plc L k)) (fun i σ H2=>∃N D,σ=[some (.ref p),some v,some (.int (g:Int)),some (.int (((es.take i).foldl bf 0:Nat):Int)),N,D]∧H2=H1) ⟨none,none,rfl,rfl⟩ (fun i σ H2 _ ⟨_,_,_,e⟩=>by rw[e];exact fb.of B) ?_ ?_
 ·rintro i x σ H2 hi ⟨N,D,rfl,rfl⟩;obtain⟨j,hj,rfl⟩:=sE hi;obtain⟨e,R,he⟩:=Paired.J2 o hj;have hm:(L.map (·.1))[j]?=some e.1:=by rw[ae,he];rfl
  refine⟨_,rfl,p,dx,_,_,rfl,m _ _ z,(by kernel_rfl),_,rfl,U,_,_,_,rfl,rfl,fb.of (m _ _ M),jX hm,_,rfl,_,rfl,_,_,rfl,rfl,?_⟩;dsimp only;rw[qv];refine⟨_,rfl,_,rfl,_,_,rfl,rfl,_,_,rfl,rfl,rfl,_,rfl,?_⟩;have y:decide (V.int (Builtin.bitAnd ((ii e.1 g:Nat):Int) (((ii e.1 g:Nat):Int)-1))=V.int 0)=decide (ii e.1 g &&& (ii e.1 g-1)=0):=by
   rw[yM];exact sS (b:=0)
  skip;rw[y];have l:(es.take (i+1)).foldl bf 0=bf ((es.take i).foldl bf 0) e:=by rw[fE R,List.foldl_append];rfl
  by_cases hd:ii e.1 g &&& (ii e.1 g-1)=0
  ·rw[aq hd];refine gW ⟨_,rfl,_,rfl,_,_,rfl,rfl,some (.int (j:Nat)),some (.int (ii e.1 g:Nat)),?_,rfl⟩;rw[wP,l];show _=[some (V.ref p),some v,some (V.int ↑g),some (V.int ((if _ then _ else _:Nat):Int)),_,_];rw[if_pos hd];rfl
  ·rw[ar hd];refine fC ⟨some (.int (j:Nat)),some (.int (ii e.1 g:Nat)),?_,rfl⟩;rw[l];show _=[some (V.ref p),some v,some (V.int ↑g),some (V.int ((if _ then _ else _:Nat):Int)),_,_];rw[if_neg hd];rfl
 ·rintro σ H2 ⟨N,D,rfl,rfl⟩;unfold gM;rw[ab,lp,aF,←I];exact⟨_,rfl,q H2 m⟩
end
inductive Bi (CB CC CL:Addr)(vs:List V)(H:Hp)(Q:VK)(E:XK):Prop
 |mk (G:Hp)(p ch:Addr)(c:eg)(L:ij)(O:List Addr)(_:vs=[.ref p])(_:eD G H)(_:iu CB CC G ch c)(_:gf CL G H p ch c L O)(_:c.n<64)(_:(∀e∈L,e.1<2^c.n))(_:L.length<sizeLine)(_:∀a H',eG H H'→j4 H' a (c.lns L)→Q (.ref a) H'):Bi CB CC CL vs H Q E
def rn (CB CC CL:Addr):Sp:=Bi CB CC CL
theorem xK {ps:List Addr}(e:eG H H'):eG (del H ps) (del H' ps):=fun a u h=>by
 have na:a∉ps:=fun z=>by rw[fH z]at h;cases h
 rw[eE na]at h ⊢;exact e a u h
theorem Dr:(["mask","reason","self"]:List Str).Nodup:=by decide +kernel
abbrev yT (a b w:V):List (Str×V):=[("picked",a),("dead",b),("wanted",w)]
abbrev ue (x s b:V):List (Str×V):=[("part",x),("stand",s),("bit",b)]
abbrev xH (ch le fl:Addr):List (Str×V):=[("chart",.ref ch),("ledger",.ref le),("forks",.ref fl)]
inductive wV (C:Addr)(vs:List V)(H:Hp)(Q:VK)(E:XK):Prop
 |mk (p dx:Addr)(a b w:V)(_:vs=[.ref p,a,b,w])(_:H p=some (.ins C dx []))(_:Q .non (upd H p (.ins C dx (yT a b w)))):wV C vs H Q E
def mo (C:Addr):Sp:=wV C
inductive xi (C:Addr)(vs:List V)(H:Hp)(Q:VK)(E:XK):Prop
 |mk (p dx:Addr)(x s:V)(_:vs=[.ref p,x,s])(_:H p=some (.ins C dx []))(_:Q .non (upd H p (.ins C dx (ue x s (.int 0))))):xi C vs H Q E
def pf (C:Addr):Sp:=xi C
structure Df (K:W.Frag)(mg:Str→Option Value)(C:Addr):Prop where
 cl:qw K C
 nPi:fV K C "picked"
 nDe:fV K C "dead"
 nWa:fV K C "wanted"
structure Bw (K:W.Frag)(mg:Str→Option Value)(C:Addr):Prop where
 cl:qw K C
 nPa:fV K C "part"
 nSt:fV K C "stand"
 nBi:fV K C "bit"
theorem Jl (a:V):fZ ("picked" : Str) a []=([("picked",a)]:List (Str×V)):=by kernel_rfl
theorem FN (a b w:V):fZ ("wanted" : Str) w (fZ ("dead" : Str) b (fZ ("picked" : Str) a []))=yT a b w:=by kernel_rfl
theorem Jy (a b w:V):fZ ("bit" : Str) w (fZ ("stand" : Str) b (fZ ("part" : Str) a []))=ue a b w:=by kernel_rfl
section
variable {base:Heap}{f:Addr}
theorem HZ:eN ["self"] ["self"] (eF uW):=i9
theorem Af (F:iN K "told" "Ledger.told" uW f fd)(T:TL K mg CL)(ML:Mt P w K mg base CC ff 1 "listed" ["self","mask"] (iZ CC)):eZ P w K mg base ff 2 f fd ["self"] (rn CB CC CL):=by
 refine F.ok HZ (fun vs H Q E h=>?_) (fun cdv A outer s H vs Q E hr h=>?_)
 ·obtain⟨G,p,ch,c,L,O,rfl,_⟩:=h;rfl
 obtain⟨G,p,ch,c,L,O,rfl,gh,hC,hL,bm,a5,b3,q⟩:=h;have hu:=gN hr;refine⟨_,(eA (eP (iq (N':=["mask","reason","self"]) (n:=2) (js:=[0]) rfl (iD.one (c:=s.heap.objs.size+1) (y:="self") rfl rfl (by decide +kernel) rfl (by decide +kernel) (by decide +kernel) rfl rfl rfl rfl rfl) (E4 (m:=2) (ub (ig (by decide)) sP (ub (ig (by decide)) sP C3 wG) (AL sP wG))) (Ev rfl T.zip (eJ T.cl T.nMa (pv 0)) (eJ T.cl T.nRe (pv 0))) (fun C s2 H2 fp=>nz (n:=2) rfl (gy (eM (i:=0) Dr rfl (Or.inl rfl)) (gy (eM (i:=1) Dr rfl (Or.inl rfl)) lu))) (fun C s2 H2 fp=>jz) (fun C s2 H2 fp=>gm (dZ (ib ML hr eT (eJ T.cl T.nCh (pv 2)) (dZ (pv 0) el)) (dZ (pv 1) el)))))),?_⟩;obtain⟨dx,ma,re,pm,pp,b2,rs,Ol,rfl,hp,d,j,Y,bv,b1,b5,kvp,kl,hB⟩:=id hL.ex;have R:H p=some (.ins CL dx (AB ch ma re pm pp)):=gh.ins hp;have lL:(gM (L.map (·.1))).length=L.length:=by unfold gM;rw[ab,ab]
 have bf:rs.length=L.length:=by rw[Paired.length Y,ab]
 have a9:(c.lns L).length=L.length:=by unfold eg.lns;rw[ab]
 refine⟨_,rfl,p,dx,_,_,rfl,R,(by kernel_rfl),_,rfl,p,dx,_,_,rfl,R,(by kernel_rfl),ma,re,_,_,rfl,rfl,d,j,?_⟩;refine wN (n:=L.length) (fun D i ys H2=>H D=none∧H2 D=some (.lst ys)∧eG H H2∧Paired (ol (del H2 [D])) ys ((c.lns L).take i)) (fun D hD=>⟨hD,d0,eB hD _,.nil⟩) (fun D i ys H2 hi ⟨N,I,b,J⟩=>?_) (fun D i x ys H2 H3 hi hy ⟨N,I,b,J⟩=>?_) (fun D ys H2 ⟨N,I,b,J⟩=>?_)
 ·refine⟨fun r=>⟨_,_,(gM (L.map (·.1)))[i]'(by rw[lL];exact r),rs[i]'(by rw[bf];exact r),fb.of (b _ _ d),fb.of (b _ _ j),ak _,ak _⟩,fun al=>⟨_,_,fb.of (b _ _ d),fb.of (b _ _ j),.inl (by rw[lL,al];exact ao _)⟩,I,?_⟩
  have:=Paired.length J;rw[aQ]at this
  lia
 ·obtain⟨t,mv,g,ht,rfl,rfl,hm,ah⟩:=hy;obtain⟨m,Z,rfl⟩:=sE (hm _ (fb.of (b _ _ d)));have bl:=ah _ (fb.of (b _ _ j));rw[ae]at Z;obtain⟨e,he,rfl⟩:=au.mp Z;have ag:mh G g e.2:=by
   obtain⟨r',U,ad⟩:=Paired.J2 Y bl;rw[ae,he]at U;cases U;exact ad
  have s1:=eB ht (.tup [.int (e.1:Nat),g]);have bx:D≠t:=eo I ht;have a3:=b.trans s1;have g1:eD G (upd H2 t (.tup [.int (e.1:Nat),g])):=gh.trans a3.toF;have a1:(c.lns L)[i]?=some (c.listed e.1,e.2):=by unfold eg.lns;rw[ae,he];rfl
  generalize a4:upd H2 t (.tup [.int (e.1:Nat),g])=H3 at *;have a2:H3 t=some (.tup [.int (e.1:Nat),g]):=by rw[←a4];exact d0
  refine⟨t,_,rfl,gH.of a2,rfl,_,_,rfl,_,_,rfl,rfl,?_⟩;unfold rj;dsimp only;rw[if_pos rfl];obtain⟨cx,as,b4,aa,bd,bq,ba⟩:=um (hC.f g1);refine⟨_,rfl,p,dx,_,_,rfl,g1.ins hp,(by kernel_rfl),ch,cx,_,rfl,aa,ba,_,rfl,H3,ch,cx,as,_,c,_,rfl,eD.refl _,aa,bd,bq,bm,a5 e (ai he),fun l xs H4 s4 hl an a6 a0=>?_⟩;refine⟨_,rfl,(by show 2≤sizeLine;decide),fun u M=>?_⟩;have S:=eB M (.tup [.ref l,g]);have B:=s1 _ _ I;have X:=s4 _ _ B;have a8:D≠l:=eo B hl;have a7:D≠u:=eo X M;have o:eG H2 (upd H4 u (.tup [.ref l,g])):=s1.trans (s4.trans S);refine⟨S _ _ X,N,d0,fun a v z=>?_,?_⟩
  ·rw[ef (fun y:a=D=>by rw[y,N]at z;cases z)];exact o _ _ (b _ _ z)
  ·rw[qb (by simp),fE a1];refine Paired.snoc (Paired.JH J fun _ _ z=>z.same (xK o)) ⟨u,l,g,rfl,?_,⟨xs,?_,?_⟩,?_⟩
   ·rw[eE (by simpa using Ne.symm a7)];exact d0
   ·rw[eE (by simpa using Ne.symm a8)];exact S _ _ an
   ·refine Paired.JH a6 ?_;rintro v k ⟨kq,z1,z2⟩;refine⟨kq,z1,?_⟩;rw[eE (by simpa using fun y:kq=D=>by rw[y,B]at z2;cases z2)];exact S _ _ (s4 _ _ z2)
   ·have sG:eD G (del (upd H4 u (.tup [.ref l,g])) [D]):=fun a v z=>by
     have nD:a≠D:=fun y=>by
      have:=gh a v z;rcases this with w | ⟨_,_,w⟩ <;> (rw[y,N]at w;cases w)
     rw[eE (by simpa using nD)];exact(g1.trans (s4.trans S).toF) a v z
    exact ag.f sG
 ·rw[←a9,aF]at J;exact q D H2 b ⟨ys,I,Paired.JH J fun _ _ z=>z.same (fm _ _)⟩
theorem FR:eN ["self","picked","dead","wanted"] ["self","picked","dead","wanted"] (eF rS):=i9
theorem xV (F:iN K "__init__" "Stand.__init__" rS f fd)(T:Df K mg C):eZ P w K mg base ff 1 f fd ["self","picked","dead","wanted"] (mo C):=by
 refine F.ok FR (fun vs H Q E h=>?_) (fun cdv A outer s H vs Q E d h=>?_)
 ·obtain⟨p,dx,a,b,w,rfl,_⟩:=h;rfl
 obtain⟨p,dx,a,b,w,rfl,hp,q⟩:=h;refine⟨_,(ee (ju T.cl T.nPi (pv 0) (pv 1)) (ee (ju T.cl T.nDe (pv 0) (pv 2)) (eA (ju T.cl T.nWa (pv 0) (pv 3))))),?_⟩;refine⟨_,rfl,_,rfl,p,dx,_,rfl,hp,(by decide),_,rfl,_,rfl,p,dx,_,rfl,d0,(by rw[Jl];show 1<1000;decide),_,rfl,_,rfl,p,dx,_,rfl,d0,?_,?_⟩
 ·have:=FN a b w;refine bw (m:=2) ?_ (by decide);have e:(fZ ("dead" : Str) b (fZ ("picked" : Str) a []))=([("picked",a),("dead",b)]:List (Str×V)):=by kernel_rfl
  rw[e];exact ao _
 ·rw[iK,iK,FN];exact q
theorem Ie:eN ["self","part","stand"] ["self","part","stand"] (eF sk):=i9
theorem yc (F:iN K "__init__" "Fork.__init__" sk f fd)(T:Bw K mg C):eZ P w K mg base ff 1 f fd ["self","part","stand"] (pf C):=by
 refine F.ok Ie (fun vs H Q E h=>?_) (fun cdv A outer s H vs Q E d h=>?_)
 ·obtain⟨p,dx,a,b,rfl,_⟩:=h;rfl
 obtain⟨p,dx,a,b,rfl,hp,q⟩:=h;refine⟨_,(ee (ju T.cl T.nPa (pv 0) (pv 1)) (ee (ju T.cl T.nSt (pv 0) (pv 2)) (eA (ju T.cl T.nBi (pv 0) er)))),?_⟩;refine⟨_,rfl,_,rfl,p,dx,_,rfl,hp,(by decide),_,rfl,_,rfl,p,dx,_,rfl,d0,?_,_,rfl,p,dx,_,rfl,d0,?_,?_⟩
 ·have e:(fZ ("part" : Str) a [])=([("part",a)]:List (Str×V)):=by kernel_rfl
  rw[e];show 1<1000;decide
 ·have e:(fZ ("stand" : Str) b (fZ ("part" : Str) a []))=([("part",a),("stand",b)]:List (Str×V)):=by kernel_rfl
  rw[e];show 2<1000;decide
 ·rw[iK,iK,Jy];exact q
end
inductive GY (P:Program)(w:World)(K:W.Frag)(mg:Str→Option Value)(base:Heap)(C:Addr)(CX:xB)(k:Nat)(x:Str)(ps:List Str)(sp:Sp):Prop
 |mk (f fd:_)(_:Mk K C f)(_:eZ P w K mg base CX k f fd ps sp)(_:gl K fd ps []):GY P w K mg base C CX k x ps sp
structure xo (P:Program)(w:World)(K:W.Frag)(mg:Str→Option Value)(base:Heap)(C:Addr)(CX:xB)(k:Nat)(x:Str)(ps:List Str)(sp:Sp):Prop where
 nm:mg x=some (.ref C)
 ex:GY P w K mg base C CX k x ps sp
theorem pM {X:Cx}{CX:xB}{k:Nat}{e:Expr}{es:List Expr}{ps:List Str}{sp:Sp}{E:XK}{pos p:Pos}{t:TA}(M:xo X.prog X.w X.K X.mg X.base C CX k x ps sp)(d:gK (k+1) X.A)(g:Gl X x)(h:jR CX X E)(a:PA X (e::es) t)(hdb:(x == ("__debug__" : Str))=false:=by decide)(he:starEach (e::es) X.env=(false,eval e X.env)::starEach es X.env:=by rfl)(hpl:(backTo pos (starEach es X.env)).any (·.1)=false:=by rfl):PE X (.Call (.Name x p) (e::es) [] pos) (Dj C sp [] E t):=by
 obtain⟨f,fd,m,F,b⟩:=M.ex;exact Cq m F d g M.nm b .nil h a hdb he hpl
inductive xa (CL:Addr)(vs:List V)(H:Hp)(Q:VK)(E:XK):Prop
 |mk (p dx ch:Addr)(_:vs=[.ref p,.ref ch])(_:H p=some (.ins CL dx []))(_:∀(ma re pm pp:Addr) (H':Hp),eD (del H [p]) H'→H' p=some (.ins CL dx (AB ch ma re pm pp))→H' ma=some (.lst [])→H' re=some (.lst [])→H' pm=some (.dK [])→H' pp=some (.dN [])→[ma,re,pm,pp].Nodup→(∀a∈[ma,re,pm,pp],H a=none)→Q .non H'):xa CL vs H Q E
def oZ (CL:Addr):Sp:=xa CL
inductive wW (CL CS:Addr)(vs:List V)(H:Hp)(Q:VK)(E:XK):Prop
 |mk (G:Hp)(p dx ch:Addr)(c:eg)(_:vs=[.ref p,.ref ch])(_:eD G H)(_:G p=none)(_:H p=some (.ins CS dx []))(_:∀(G' H':Hp) (le fl:Addr) (O:List Addr),eD G G'→eD G' H'→(∀a,G a=none→G' a≠none→H a=none∨a=p)→(∀a∈O,H a=none)→H fl=none→fl∉O→G' fl=none→eD (del H [p]) H'→G' p=some (.ins CS dx (xH ch le fl))→gf CL G' H' le ch c [] O→H' fl=some (.lst [])→Q .non H'):wW CL CS vs H Q E
def oU (CL CS:Addr):Sp:=wW CL CS
abbrev Fp (ch:Addr):List (Str×V):=[("chart",.ref ch)]
abbrev Hv (ch ma:Addr):List (Str×V):=[("chart",.ref ch),("masks",.ref ma)]
abbrev Hu (ch ma re:Addr):List (Str×V):=[("chart",.ref ch),("masks",.ref ma),("reasons",.ref re)]
abbrev Ht (ch ma re pm:Addr):List (Str×V):=[("chart",.ref ch),("masks",.ref ma),("reasons",.ref re),("place_by_mask",.ref pm)]
theorem IW (ch:Addr):fZ ("chart" : Str) (V.ref ch) []=Fp ch:=by kernel_rfl
theorem Hs (ch a:Addr):fZ ("masks" : Str) (V.ref a) (Fp ch)=Hv ch a:=by kernel_rfl
theorem Jw (ch a b:Addr):fZ ("reasons" : Str) (V.ref b) (Hv ch a)=Hu ch a b:=by kernel_rfl
theorem Jv (ch a b pm:Addr):fZ ("place_by_mask" : Str) (V.ref pm) (Hu ch a b)=Ht ch a b pm:=by kernel_rfl
theorem Ju (ch a b pm pp:Addr):fZ ("places_by_pick" : Str) (V.ref pp) (Ht ch a b pm)=AB ch a b pm pp:=by kernel_rfl
abbrev Il (ch le:Addr):List (Str×V):=[("chart",.ref ch),("ledger",.ref le)]
theorem HX (ch le:Addr):fZ ("ledger" : Str) (V.ref le) (Fp ch)=Il ch le:=by kernel_rfl
theorem HW (ch le fl:Addr):fZ ("forks" : Str) (V.ref fl) (Il ch le)=xH ch le fl:=by kernel_rfl
structure tw (K:W.Frag)(mg:Str→Option Value)(C:Addr):Prop where
 cl:qw K C
 nCh:fV K C "chart"
 nLe:fV K C "ledger"
 nFo:fV K C "forks"
 dict:mg "dict" = none
 min:mg "min" = none
 list:mg "list" = none
 enum:mg "enumerate" = none
 rev:mg "reversed" = none
section
variable {base:Heap}{f:Addr}
theorem FY:eN ["self","chart"] ["self","chart"] (eF r8):=i9
theorem x6 (F:iN K "__init__" "Ledger.__init__" r8 f fd)(T:TL K mg CL):eZ P w K mg base ff 1 f fd ["self","chart"] (oZ CL):=by
 refine F.ok FY (fun vs H Q E h=>?_) (fun cdv A outer s H vs Q E hr h=>?_)
 ·obtain⟨p,dx,ch,rfl,_⟩:=h;rfl
 obtain⟨p,dx,ch,rfl,hp,q⟩:=h;refine⟨_,(ee (ju T.cl T.nCh (pv 0) (pv 1)) (ee (ju T.cl T.nMa (pv 0) (gc el)) (ee (ju T.cl T.nRe (pv 0) (gc el)) (ee (ju T.cl T.nPm (pv 0) iA) (eA (ju T.cl T.nPp (pv 0) mE)))))),?_⟩;have m:del H [p] p=none:=fH (by simp);have I:eD (del H [p]) H:=(fm _ _).toF;generalize D:del H [p]=G0 at *;refine⟨_,rfl,_,rfl,p,dx,_,rfl,hp,(by decide),?_⟩;generalize x:upd H p (.ins CL dx (fZ ("chart" : Str) (V.ref ch) []))=H1;have v:H1 p=some (.ins CL dx (Fp ch)):=by rw[←x,d0,IW]
 have G:eD G0 H1:=by rw[←x];exact I.upd m
 have aa:∀a,H1 a=none→H a=none:=fun a e=>by
  rw[←x]at e;by_cases z:a=p
  ·rw[z,d0]at e;cases e
  ·rw[ef z]at e;exact e
 refine⟨(by show 0≤sizeLine;decide),fun b B=>?_⟩;refine⟨_,rfl,p,dx,_,rfl,(by rw[ef (eo v B)];exact v),(by show 1<1000;decide),?_⟩;rw[Hs];have j:=iW (fs':=Hv ch b) (u:=.lst []) G m v B;generalize upd (upd H1 b (.lst [])) p (.ins CL dx (Hv ch b))=H2 at j ⊢;refine⟨(by show 0≤sizeLine;decide),fun o y=>?_⟩;refine⟨_,rfl,p,dx,_,rfl,(by rw[ef (eo j.p y)];exact j.p),(by show 2<1000;decide),?_⟩;rw[Jw];have i:=iW (fs':=Hu ch b o) (u:=.lst []) j.g m j.p y;generalize upd (upd H2 o (.lst [])) p (.ins CL dx (Hu ch b o))=H3 at i ⊢;intro pm t;refine⟨_,rfl,p,dx,_,rfl,(by rw[ef (eo i.p t)];exact i.p),(by show 3<1000;decide),?_⟩;rw[Jv];have d:=iW (fs':=Ht ch b o pm) (u:=.dK []) i.g m i.p t;generalize upd (upd H3 pm (.dK [])) p (.ins CL dx (Ht ch b o pm))=H4 at d ⊢;intro pp l;refine⟨_,rfl,p,dx,_,rfl,(by rw[ef (eo d.p l)];exact d.p),(by show 4<1000;decide),?_⟩;rw[Ju];have r:=iW (fs':=AB ch b o pm pp) (u:=.dN []) d.g m d.p l;generalize upd (upd H4 pp (.dN [])) p (.ins CL dx (AB ch b o pm pp))=H5 at r ⊢;have J:=i.keep _ _ j.np j.a;have N:=d.keep _ _ j.np J;have Y:=r.keep _ _ j.np N;have L:=d.keep _ _ i.np i.a;have X:=r.keep _ _ i.np L;have O:=r.keep _ _ d.np d.a;have Z:b≠o:=eo j.a y;have U:b≠pm:=eo J t;have e3:b≠pp:=eo N l;have e4:o≠pm:=eo i.a t;have R:o≠pp:=eo L l;have S:pm≠pp:=eo d.a l;have C:∀a,G0 a=none→a≠p→H a=none:=fun a e n=>by rw[←D,eE (by simpa using n)]at e;exact e
 refine q b o pm pp H5 r.g r.p Y X O r.a ?_ fun a M=>?_
 ·simp only[aX,am,aG,or_false,not_or,not_false_eq_true,cb,and_true];exact⟨⟨Z,U,e3⟩,⟨e4,R⟩,S⟩
 ·simp only[am,aG,or_false]at M;rcases M with z | z | z | z
  ·rw[z];exact C _ j.ga j.np
  ·rw[z];exact C _ i.ga i.np
  ·rw[z];exact C _ d.ga d.np
  ·rw[z];exact C _ r.ga r.np
theorem FT:eN ["self","chart"] ["self","chart"] (eF rT):=i9
theorem xW (F:iN K "__init__" "Search.__init__" rT f fd)(T:tw K mg CS)(ML:xo P w K mg base CL ff 1 "Ledger" ["self","chart"] (oZ CL)):eZ P w K mg base ff 3 f fd ["self","chart"] (oU CL CS):=by
 refine F.ok FT (fun vs H Q E h=>?_) (fun cdv A outer s H vs Q E hr h=>?_)
 ·obtain⟨G,p,dx,ch,c,rfl,_⟩:=h;rfl
 obtain⟨G,p,dx,ch,c,rfl,gh,gp,hp,q⟩:=h;refine⟨_,(ee (ju T.cl T.nCh (pv 0) (pv 1)) (ee (ju T.cl T.nLe (pv 0) (pM ML hr rfl eT (dZ (pv 1) el))) (eA (ju T.cl T.nFo (pv 0) (gc el))))),?_⟩;have ah:del H [p] p=none:=fH (by simp);have a6:eD (del H [p]) H:=(fm _ _).toF;have J:eD G (del H [p]):=fun a u e=>by
  have na:a≠p:=fun z=>by rw[z,gp]at e;cases e
  rw[eE (by simpa using na)];exact gh a u e
 generalize bf:del H [p]=G0 at *;refine⟨_,rfl,_,rfl,p,dx,_,rfl,hp,(by decide),?_⟩;generalize ad:upd H p (.ins CS dx (fZ ("chart" : Str) (V.ref ch) []))=H1;have M:H1 p=some (.ins CS dx (Fp ch)):=by rw[←ad,d0,IW]
 have B:eD G0 H1:=by rw[←ad];exact a6.upd ah
 have aa:∀a,H1 a=none→H a=none:=fun a e=>by
  rw[←ad]at e;by_cases z:a=p
  ·rw[z,d0]at e;cases e
  ·rw[ef z]at e;exact e
 refine⟨_,rfl,fun d r I a0 a7=>?_⟩;have n1:p≠d:=eo M I;have n2:p≠r:=eo M a0;have s2:eG H1 (upd (upd H1 r (.own d)) d (.ins CL r [])):=(eB a0 _).trans (eB (by rw[ef (Ne.symm a7)];exact I) _);have Y:upd (upd H1 r (.own d)) d (.ins CL r []) d=some (.ins CL r []):=d0;have an:∀a,upd (upd H1 r (.own d)) d (.ins CL r []) a=none→H1 a=none:=fun a e=>s2.free e;generalize upd (upd H1 r (.own d)) d (.ins CL r [])=H2 at *;refine⟨d,r,ch,rfl,Y,fun C x pm pp t R D S N L j ba a1=>⟨rfl,?_⟩⟩;have O:t p=some (.ins CS dx (Fp ch)):=R.ins (by rw[eE (by simpa using n1)];exact s2 _ _ M);refine⟨_,rfl,p,dx,_,rfl,O,(by show 1<1000;decide),?_⟩;rw[HX];refine⟨(by show 0≤sizeLine;decide),fun fl U=>?_⟩;have n3:p≠fl:=fun z=>by rw[z,d0]at U;cases U
 refine⟨_,rfl,p,dx,_,rfl,(by rw[ef n3];exact d0),(by show 2<1000;decide),?_⟩;rw[HW];have b:t fl=none:=by rw[ef (Ne.symm n3)]at U;exact U
 have eH:upd (upd (upd t p (.ins CS dx (Il ch d))) fl (.lst [])) p (.ins CS dx (xH ch d fl))=upd (upd t fl (.lst [])) p (.ins CS dx (xH ch d fl)):=by
  funext a
  by_cases z:a=p
  ·rw[z,d0,d0]
  ·rw[ef z,ef z];by_cases y:a=fl
   ·rw[y,d0,d0]
   ·rw[ef y,ef y,ef z]
 rw[eH];have k4:∀a,a≠p→a≠fl→upd (upd t fl (.lst [])) p (.ins CS dx (xH ch d fl)) a=t a:=fun a z y=>by rw[ef z,ef y]
 have a5:upd (upd t fl (.lst [])) p (.ins CS dx (xH ch d fl)) p=some (.ins CS dx (xH ch d fl)):=d0;have a4:upd (upd t fl (.lst [])) p (.ins CS dx (xH ch d fl)) fl=some (.lst []):=by rw[ef (Ne.symm n3)];exact d0
 generalize upd (upd t fl (.lst [])) p (.ins CS dx (xH ch d fl))=H4 at *;have hO:∀a∈[C,x,pm,pp],H1 a=none:=fun a g=>an a (a1 a g);have a9:∀a,t a=none→H2 a=none:=fun a e=>by
  by_cases z:a=d
  ·rw[z,D]at e;cases e
  ·have:=R.free e;rw[eE (by simpa using z)]at this;exact this
 have Z:H1 fl=none:=an fl (a9 fl b);have X:fl∉[C,x,pm,pp]:=fun z=>by
  simp only[am,aG,or_false]at z;rcases z with z | z | z | z
  ·rw[z,S]at b;cases b
  ·rw[z,N]at b;cases b
  ·rw[z,L]at b;cases b
  ·rw[z,j]at b;cases b
 have a3:d≠fl:=eo D b;have ag:∀a∈[C,x,pm,pp],a≠p:=fun a g z=>by have:=hO a g;rw[z,M]at this;cases this
 have bd:∀a∈[C,x,pm,pp],a≠d:=fun a g z=>by have:=a1 a g;rw[z,Y]at this;cases this
 have a8:∀a∈[C,x,pm,pp],a≠fl:=fun a g z=>X (z▸g);have as:eD G0 t:=fun a u e=>by
  have na:a≠d:=fun z=>by
   have:=B.free I;rw[z,this]at e;cases e
  rcases B a u e with z | ⟨z1,o,z2⟩
  ·exact R a u (by rw[eE (by simpa using na)];exact s2 _ _ z)
  ·exact .inr ⟨z1,o,R.frz (by rw[eE (by simpa using na)];exact s2 _ _ z2)⟩
 have a2:eD G0 H4:=fun a u e=>by
  have z1:a≠p:=fun z=>by rw[z,ah]at e;cases e
  have z2:a≠fl:=fun z=>by
   have:=as.free b;rw[z,this]at e;cases e
  rw[k4 a z1 z2];exact as a u e
 have al:H4 d=some (.ins CL r (AB ch C x pm pp)):=by rw[k4 d (Ne.symm n1) a3];exact D
 refine q (upd (upd G d (.ins CL r (AB ch C x pm pp))) p (.ins CS dx (xH ch d fl))) H4 d fl [C,x,pm,pp] ?_ ?_ ?_ ?_ (aa fl Z) X ?_ a2 d0 ?_ a4
 ·exact((eD.refl G).upd (J.free (B.free I))).upd gp
 ·intro a u e;by_cases z:a=p
  ·rw[z,d0]at e;rw[z,a5];exact .inl e
  ·rw[ef z]at e;by_cases y:a=d
   ·rw[y,d0]at e;rw[y,al];exact .inl e
   ·rw[ef y]at e;exact(J.trans a2) a u e
 ·intro a e n;by_cases z:a=p
  ·exact .inr z
  ·rw[ef z]at n;by_cases y:a=d
   ·rw[y];exact .inl (aa d I)
   ·rw[ef y]at n;exact absurd e n
 ·exact fun a g=>aa a (hO a g)
 ·rw[ef (Ne.symm n3),ef (Ne.symm a3)];exact J.free (B.free Z)
 ·have k5:∀a∈[C,x,pm,pp],H4 a=t a:=fun a g=>k4 a (ag a g) (a8 a g);refine⟨⟨r,C,x,pm,pp,[],[],[],rfl,?_,?_,?_,.nil,?_,ao _,fun m=>rfl,[],[],?_,rfl,cb,(fun k hk=>nomatch hk),(fun k hk=>Or.inl ⟨rfl,rfl⟩),(fun k k2 l h=>nomatch h)⟩,fun a g=>?_,fun a g=>?_,fun a g v i=>?_,ba⟩
  ·rw[ef (Ne.symm n1),d0]
  ·rw[k5 C (by simp)];exact S
  ·rw[k5 x (by simp)];exact N
  ·rw[k5 pm (by simp)];exact L
  ·rw[k5 pp (by simp)];exact j
  ·rw[ef (ag a g),ef (bd a g)];exact J.free (B.free (hO a g))
  ·rw[k5 a g];simp only[am,aG,or_false]at g;rcases g with z | z | z | z
   ·exact⟨_,by rw[z];exact S⟩
   ·exact⟨_,by rw[z];exact N⟩
   ·exact⟨_,by rw[z];exact L⟩
   ·exact⟨_,by rw[z];exact j⟩
  ·rw[k5 a g]at i;simp only[am,aG,or_false]at g;rcases g with z | z | z | z
   ·rw[z,S]at i;cases i;exact fun q=>q
   ·rw[z,N]at i;cases i;exact fun q=>q
   ·rw[z,L]at i;cases i;exact fun q=>q
   ·rw[z,j]at i;cases i;exact fun q=>q
end
structure Se (CB CC CS:Addr)(G H:Hp)(p ch le fl:Addr)(c:eg):Prop where
 gh:eD G H
 self:∃dx,G p=some (.ins CS dx (xH ch le fl))
 chart:iu CB CC G ch c
 n:c.n<64
 nds:∀w,(c.needs w).length≤100
 sm:∀L,gY c L→L.length<sizeLine
theorem Se.grow {G':Hp}{le fl:Addr}{c:eg}(h:Se CB CC CS G H p ch le fl c)(gg:eD G G')(gh:eD G' H'):Se CB CC CS G' H' p ch le fl c:=
 ⟨gh,let ⟨dx,e⟩:=h.self;⟨dx,gg.ins e⟩,h.chart.f gg,h.n,h.nds,h.sm⟩
theorem Se.same {le fl:Addr}{c:eg}(h:Se CB CC CS G H p ch le fl c)(e:eG H H'):Se CB CC CS G H' p ch le fl c:=h.grow (eD.refl _) (h.gh.trans e.toF)
def lI (CT:Addr)(G H:Hp)(s:Addr)(sd:Sd):Prop:=∃dx w,H s=some (.ins CT dx (yT (.int (sd.picked:Nat)) (.int (sd.dead:Nat)) (.ref w)))∧vW G w sd.wanted
inductive DA (CB CC CS CT:Addr)(vs:List V)(H:Hp)(Q:VK)(E:XK):Prop
 |mk (G:Hp)(p ch le fl s:Addr)(c:eg)(sd:Sd)(x:Str)(_:vs=[.ref p,.ref s,.str x])(_:Se CB CC CS G H p ch le fl c)(_:lI CT G H s sd)(_:Q (.int (ii (c.KL x) sd.dead:Nat)) H):DA CB CC CS CT vs H Q E
def rF (CB CC CS CT:Addr):Sp:=DA CB CC CS CT
inductive wU (CB CC CS:Addr)(vs:List V)(H:Hp)(Q:VK)(E:XK):Prop
 |mk (G:Hp)(p ch le fl w0:Addr)(c:eg)(kvs0:List (gB×V))(wanted:List (Str×Option Pk))(wv:V)(who:Option Pk)(pm:Nat)(_:vs=[.ref p,.ref w0,wv,.int (pm:Nat)])(_:Se CB CC CS G H p ch le fl c)(_:Rd H w0 (.dK kvs0))(_:Paired (vV G) kvs0 wanted)(_:wanted.length≤7000)(_:(∀x u,(x,u)∈wanted→c.Who u∧x∈eO (c.needs u)))(_:c.Who who)(_:gz G wv who)(_:∀(a:Addr) (H':Hp) (kvs:List (gB×V)) (g:List (Str×Option Pk)),eG H H'→H a=none→H' a=some (.dK kvs)→Paired (vV G) kvs g→c.KH wanted who pm g→Q (.ref a) H'):wU CB CC CS vs H Q E
def mn (CB CC CS:Addr):Sp:=wU CB CC CS
theorem tH {n:Nat}(h:n≤10000):n<sizeLine:=bw h (by decide)
section
variable {base:Heap}{f:Addr}
theorem FX:eN ["self","stand","part"] ["self","stand","part"] (eF zr):=i9
theorem CH {CT:Addr}(F:iN K "left" "Search.left" zr f fd)(T:tw K mg CS)(a:TC K mg CC)(TT:Df K mg CT):eZ P w K mg base ff 1 f fd ["self","stand","part"] (rF CB CC CS CT):=by
 refine F.ok FX (fun vs H Q E h=>?_) (fun cdv A outer s H vs Q E v h=>?_)
 ·obtain⟨G,p,ch,l,fl,s,c,sd,x,rfl,_⟩:=h;rfl
 obtain⟨G,p,ch,l,fl,C,c,sd,x,rfl,d,⟨z,Y,B,M⟩,q⟩:=h;have y:=gN v;refine⟨_,(eA (eP (fc hW (jU y (eJ a.cl a.nOf (eJ T.cl T.nCh (pv 0))) (pv 2) er ⟨rfl,rfl,rfl,rfl⟩) (iP kE (eJ TT.cl TT.nDe (pv 1)))))),?_⟩;obtain⟨dx,hp⟩:=d.self;obtain⟨m,b,bits,o,e,R,I,U,st,t,N,O,X,S,j,L,D,J⟩:=(d.chart.f d.gh).ex;obtain⟨r,i,g⟩:=j.get x;refine⟨_,rfl,p,dx,_,_,rfl,d.gh.ins hp,(by kernel_rfl),ch,m,_,_,rfl,t,(by kernel_rfl),e,rfl,j.isD,_,rfl,r,i,?_⟩;rw[g];refine⟨_,rfl,C,z,_,V.int (sd.dead:Nat),rfl,B,(by kernel_rfl),_,rfl,_,_,rfl,rfl,?_⟩;dsimp only;rw[qv];exact q
theorem Ca:eN ["self","wanted","who","picked","allowed","grown","part"] ["self","wanted","who","picked"] (eF rR):=i9
theorem xU (F:iN K "wanted_by" "Search.wanted_by" rR f fd)(T:tw K mg CS)(L:TC K mg CC)(GC:eZ P w K mg base ff 1 g gd ["mask"] rJ)(bG:gl K gd ["mask"] [])(kG:W.keepIn K (.ref g)=true)(mG:mg "count_picks" = some (.ref g)):eZ P w K mg base ff 2 f fd ["self","wanted","who","picked"] (mn CB CC CS):=by
 refine F.ok Ca (fun vs H Q E h=>?_) (fun cdv A outer s H vs Q E hr h=>?_)
 ·obtain⟨G,p,ch,le,fl,w0,c,j,wanted,X,who,pm,rfl,_⟩:=h;rfl
 obtain⟨G,p,ch,le,fl,w0,c,j,wanted,X,who,pm,rfl,M,a8,as,bm,Z,C,S,q⟩:=h;have J:=gN hr;refine⟨_,(ee (eK (i:=4) Ca.nd rfl (Or.inl rfl) (eJ L.cl L.nAl (eJ T.cl T.nCh (pv 0)))) (ee (eK (i:=5) Ca.nd rfl (Or.inl rfl) (jV vQ rfl T.dict PyProof.Rows.boot_dict (dZ (pv 1) el))) (ee (fO PassesOwn.never rfl (zJ (fe J (pv 4) (pv 2) (fun _ _=>rfl))) (eM (i:=6) Ca.nd rfl (Or.inl rfl)) (ee (fF (iz (fc hW (pv 3) (jU J (eJ L.cl L.nOf (eJ T.cl T.nCh (pv 0))) (pv 6) er ⟨rfl,rfl,rfl,rfl⟩)) (fun _=>rfl)) (eA tM) eU) (eA (fF (PW.pt (kr (iL (nB J (pv 6) (pv 5))) (jO (fz wn (fj GC hr rfl mG kG bG .nil eT (dZ (hU J (fe J (pv 4) (pv 2) (fun _ _=>rfl)) (pv 6) (fun _ _=>rfl)) el)) (fj GC hr rfl mG kG bG .nil eT (dZ (hU J (fe J (pv 4) (hU J (pv 5) (pv 6) (fun _ _=>rfl)) (fun _ _=>rfl)) (pv 6) (fun _ _=>rfl)) el)) (fQ _))))) (eA (jc J (pv 5) (pv 6) (pv 2) rfl)) eU)))) (eA (eP (pv 5)))))),?_⟩;obtain⟨dx,hp⟩:=M.self;obtain⟨cx,b,bits,bq,a3,Y,sh,fo,st,c1,c2,c3,c4,c5,c6,c7,c8,c9⟩:=(M.chart.f M.gh).ex;refine⟨_,rfl,p,dx,_,_,rfl,M.gh.ins hp,(by kernel_rfl),ch,cx,_,V.ref Y,rfl,c1,(by kernel_rfl),?_⟩;refine⟨_,rfl,w0,j,rfl,a8,fun a ha=>?_⟩;have s1:=eB ha (.dK j);have ah:upd H a (.dK j) a=some (.dK j):=d0;generalize upd H a (.dK j)=H1 at *;obtain⟨d,a6,a2⟩:=(c7.same s1).get C ((S.f M.gh).same s1);obtain⟨o,I,R,a0,bv⟩:=id a2;have ba:d≠a:=fJ R ah fun z=>nomatch z;have la:I.length=(eO (c.needs who)).length:=by
  have:=congrArg List.length a0;rw[ab,ab]at this;exact this
 refine⟨_,rfl,_,rfl,Y,_,rfl,a6,d,o,I,rfl,R,?_⟩;refine sQ (kvs:=I) (fun i σ H2=>∃kvs D o6,σ=[some (.ref p),some (.ref w0),some X,some (.int (pm:Nat)),some (.ref Y),some (.ref a),o6]∧H2 a=some (.dK kvs)∧(∀b,b≠a→H2 b=H1 b)∧kvs.length≤7000+i∧Paired (vV G) kvs D∧c.K5 wanted who pm ((eO (c.needs who)).take i) D)
  ⟨j,wanted,none,rfl,ah,fun _ _=>rfl,by rw[Paired.length as];lia,as,GrowP.nil⟩ (fun i σ H2 _ ⟨_,_,_,_,_,e,_⟩=>by rw[e d ba];exact R) ?_ ?_
 ·rintro i kv σ H2 hi ⟨kvs,D,o6,rfl,y,B,bd,t,m⟩;have ad:(I.map (·.1))[i]?=some kv.1:=by rw[ae,hi];rfl
  rw[a0,ae]at ad;obtain⟨x,U,ex⟩:=au.mp ad;rw[←ex];have a1:=ai U;have an:=pP (i5 (c.needs who)) U;have bx:i<100:=by
   have h1:=(af.mp U).1;have h2:(eO (c.needs who)).length≤(c.needs who).length:=nE _;have:=M.nds who
   lia
  have l:eG H H2:=fun b u e=>by
   have nb:b≠a:=eo e ha;rw[B b nb];exact s1 _ _ e
  obtain⟨r,a9,a4⟩:=(c6.same l).get x;refine⟨_,rfl,_,rfl,p,dx,_,_,rfl,l _ _ (M.gh.ins hp),(by kernel_rfl),ch,cx,_,_,rfl,l _ _ c1,(by kernel_rfl),a3,rfl,(c6.same l).isD,_,rfl,r,a9,?_⟩;rw[a4];refine⟨_,_,rfl,rfl,_,rfl,?_⟩;dsimp only;rw[nL,pX];by_cases hip:c.isP pm x
  ·rw[ar (wE.mpr hip)];refine gW ?_;exact⟨kvs,D,_,rfl,y,B,by lia,t,by rw[fE U];exact GrowP.skip m hip⟩
  ·rw[aq (Classical.byContradiction fun z=>hip (wE.mp z))];refine fC ?_;have aa:jt H2 a (.str x) (eW kvs (Sum.inr x)):=jt.k (k:=Sum.inr x) y;refine⟨_,rfl,_,rfl,a,_,rfl,aa,_,rfl,?_⟩;have b1:=fT kvs (Sum.inr x) X;have ag:c.K5 wanted who pm ((eO (c.needs who)).take (i+1)) (if x∈D.map (·.1) then D.map (fun yu=>if yu.1=x then (yu.1,who) else yu) else D++[(x,who)])→
     ∃kvs' gg' o6,[some (.ref p),some (.ref w0),some X,some (.int (pm:Nat)),some (.ref Y),some (.ref a),some (.str x)]=[some (.ref p),some (.ref w0),some X,some (.int (pm:Nat)),some (.ref Y),some (.ref a),o6]∧upd H2 a (.dK (fq kvs (Sum.inr x) X)) a=some (.dK kvs')∧(∀b,b≠a→upd H2 a (.dK (fq kvs (Sum.inr x) X)) b=H1 b)∧kvs'.length≤7000+(i+1)∧Paired (vV G) kvs' gg'∧c.K5 wanted who pm ((eO (c.needs who)).take (i+1)) gg':=
    fun hg=>⟨_,_,_,rfl,d0,fun b hb=>by rw[ef hb];exact B b hb,by lia,D2 t S,hg⟩
   by_cases hxg:x∈D.map (·.1)
   ·obtain⟨v,u,bf,a5,a7⟩:=ot t hxg;have N:=aa;rw[bf]at N ⊢;refine fC ?_;have O:c.Who u∧x∈eO (c.needs u):=by
     obtain⟨_,_,_,_,_,h5⟩:=m;rcases h5 x u a5 with z | ⟨z1,z2,_⟩
     ·exact Z x u z
     ·rw[z1];exact⟨C,a1⟩
    obtain⟨d1,e1,e2⟩:=(c7.same l).get C ((S.f M.gh).same l);obtain⟨d2,e3,e4⟩:=(c7.same l).get O.1 ((a7.f M.gh).same l);refine⟨_,rfl,_,rfl,Y,_,rfl,e1,_,rfl,d1,_,rfl,e2.get a1,c,_,rfl,c.Kl _,?_⟩;refine⟨_,rfl,_,rfl,_,rfl,a,_,rfl,N,Y,_,rfl,e3,_,rfl,d2,_,rfl,e4.get O.2,c,_,rfl,c.Kl _,_,_,rfl,rfl,_,rfl,?_⟩;by_cases hlt:(((c.listed (c.KM who x)).length:Nat):Int)<(((c.listed (c.KM u x)).length:Nat):Int)
    ·rw[aq hlt];refine gW ?_;refine⟨_,rfl,_,rfl,_,rfl,a,_,rfl,mU.k (k:=Sum.inr x) y (tH (by lia)),ag ?_⟩;rw[if_pos hxg,fE U];exact GrowP.swap m hip hxg an
    ·rw[ar hlt];refine fC ⟨kvs,D,_,rfl,y,B,by lia,t,?_⟩;rw[fE U];exact GrowP.JI m hxg an
   ·have bl:=(rg t).mpr hxg;rw[bl];refine gW ?_;refine⟨_,rfl,_,rfl,_,rfl,a,_,rfl,mU.k (k:=Sum.inr x) y (tH (by lia)),ag ?_⟩;rw[if_neg hxg,fE U];exact GrowP.new m hip hxg
 ·rintro σ H2 ⟨kvs,D,o6,rfl,y,B,bd,t,m⟩;rw[la,aF]at m;refine⟨_,rfl,q a H2 kvs D (fun b u e=>?_) ha y t m⟩;rw[B b (eo e ha)];exact s1 _ _ e
end
def NZ (L:ij):Prop:=∀e∈L,e.1≠0
def Bx (CL:Addr)(G H:Hp)(O:List Addr)(le ch:Addr)(c:eg)(L:ij)(m:Nat→Prop)(Q:VK):Prop:=
 ∀(G' H':Hp) (O':List Addr) (L':ij) (j:Nat) (e:Nat×Rs),iy G H O G' H' O'→gf CL G' H' le ch c L' O'→gY c L'→(∃X,L'=L++X)→L'[j]?=some e→m e.1→(NZ L→NZ L'∨(e.1=0∧L'.getLast?=some e))→Q (.int (j:Nat)) H'
inductive wX (CB CC CS:Addr)(vs:List V)(H:Hp)(Q:VK)(E:XK):Prop
 |mk (G:Hp)(p ch le fl:Addr)(c:eg)(wv:V)(who:Option Pk)(x:Str)(_:vs=[.ref p,wv,.str x])(_:Se CB CC CS G H p ch le fl c)(_:c.Who who)(_:gz H wv who)(_:x∈(c.needs who).map (·.1))(_:∀H',eG H H'→Q (.int (((c.needs who).map (·.1)).idxOf x:Nat)) H'):wX CB CC CS vs H Q E
def mw (CB CC CS:Addr):Sp:=wX CB CC CS
inductive ux (CB CC CL CS:Addr)(vs:List V)(H:Hp)(Q:VK)(E:XK):Prop
 |mk (G:Hp)(p ch le fl:Addr)(c:eg)(L:ij)(O:List Addr)(wv v:V)(who:Option Pk)(k:Pk)(_:vs=[.ref p,wv,v])(_:Se CB CC CS G H p ch le fl c)(_:gf CL G H le ch c L O)(_:gY c L)(_:c.Who who)(_:gz G wv who)(_:fg G v k)(_:k∈c.ks)(_:c.Km who k)(_:c.Kp (c.J4 who ||| c.bit k))(_:Bx CL G H O le ch c L (fun m=>m=c.J4 who ||| c.bit k) Q):ux CB CC CL CS vs H Q E
def nc (CB CC CL CS:Addr):Sp:=ux CB CC CL CS
theorem Gs:(["need"]:List Str).Nodup:=by decide +kernel
theorem Gr:(["need","pick"]:List Str).Nodup:=by decide +kernel
theorem gf.same {c:eg}{L:ij}{O:List Addr}(h:gf CL G H p ch c L O)(e:eG H H'):gf CL G H' p ch c L O:=
 h.grow (eD.refl _) h.off fun a ha=>by obtain⟨u,hu⟩:=h.liv a ha;exact mz e hu
theorem gf.put {c:eg}{L:ij}{O:List Addr}(h:gf CL G H p ch c L O)(i:eD G H){t:Addr}{u:HO}(e:H t=none):gf CL (upd G t u) (upd H t u) p ch c L O:=by
 have d:∀a∈O,a≠t:=fun a b z=>by obtain⟨v,g⟩:=h.liv a b;rw[z,e]at g;cases g
 exact h.grow ((eD.refl _).upd (i.free e)) (fun a b=>by rw[ef (d a b)];exact h.off a b) fun a b=>by rw[ef (d a b)]
section
variable {base:Heap}{f:Addr}
theorem H0:eN ["self","who","part"] ["self","who","part"] (eF rV):=i9
theorem xX (F:iN K "place_of_need" "Search.place_of_need" rV f fd)(T:tw K mg CS)(r:TC K mg CC)(l:TB K mg CB):eZ P w K mg base ff 1 f fd ["self","who","part"] (mw CB CC CS):=by
 refine F.ok H0 (fun vs H Q E h=>?_) (fun cdv A outer s H vs Q E hr h=>?_)
 ·obtain⟨G,p,ch,X,fl,c,O,who,x,rfl,_⟩:=h;rfl
 obtain⟨G,p,ch,X,fl,c,O,who,x,rfl,o,j,t,hx,q⟩:=h;have hu:=gN hr;refine⟨_,(eA (eP (jB PySem.F.plainAttrs_list PySem.F.slot_list_index PySem.F.type_list_index yi (iq (N':=["need"]) (n:=1) (js:=[]) rfl (iD.closed (by decide +kernel) (by decide +kernel) rfl (by decide +kernel) rfl) (ig (by decide)) (fD (fe hu (eJ l.cl l.nN (eJ r.cl r.nBoard (eJ T.cl T.nCh (pv 0)))) (pv 1) (fun _ _=>rfl))) (fun C R H2 fp=>eM (i:=0) Gs rfl (Or.inl rfl)) (fun C R H2 fp=>jz) (fun C R H2 fp=>eL (eR:HE _ (zE K)) (pv 0) er (fun _ _=>rfl))) (dZ (pv 2) el)))),?_⟩;obtain⟨dx,hp⟩:=o.self;obtain⟨Y,b,bits,Z,S,al,sh,fo,st,c1,c2,c3,c4,c5,c6,c7,c8,c9⟩:=(o.chart.f o.gh).ex;obtain⟨U,dn,dv,J,I⟩:=ja c2 c3;obtain⟨na,B,zs,N,m⟩:=I who O j t;have lz:=Paired.length m;have M:=o.nds who;refine⟨_,rfl,p,dx,_,_,rfl,o.gh.ins hp,(by kernel_rfl),ch,Y,_,_,rfl,c1,(by kernel_rfl),b,U,_,_,rfl,J,gE _ _,_,rfl,dn,_,rfl,B,na,rfl,⟨_,fb.of N⟩,?_⟩;refine ia (xs:=zs) (fun D i ys e=>ys=(((c.needs who).take i).map (·.1)).map V.str∧e D=some (.lst ys)∧eG H e∧H D=none) (fun D L=>⟨by simp,d0,eB L _,L⟩)
  (fun D i ys e hi ⟨d,a,g,_⟩=>⟨fb.of (g _ _ N),a,?_⟩) (fun D i y ys e hi ⟨d,a,g,z⟩=>?_) (fun D ys e ⟨d,a,g,z⟩=>?_)
 ·rw[d,ab,ab,aQ];exact eV (by lia)
 ·obtain⟨n,v,nq,rfl,hn⟩:=Paired.J2 m hi;unfold i8 rj;dsimp only;rw[if_pos rfl];refine⟨_,rfl,nq,_,_,_,rfl,rfl,gH.of (g _ _ hn),rfl,a,?_,d0,eG.upd g z,z⟩;rw[d,fE v,av,av];rfl
 ·rw[lz,aF]at d;subst d;exact⟨.inl ⟨rfl,_,fb.of a⟩,_,rfl,D,_,x,rfl,rfl,a,hx,q e g⟩
theorem Eh:eN ["self","who","pick","needs","place"] ["self","who","pick"] (eF pA):=i9
theorem vi (F:iN K "outside" "Search.outside" pA f fd)(T:tw K mg CS)(m:TC K mg CC)(aa:TB K mg CB)(GC:eZ P w K mg base ff 1 g gd ["need","pick"] ll)(bG:gl K gd ["need","pick"] [])(kG:W.keepIn K (.ref g)=true)(mG:mg "clashes" = some (.ref g))(MP:Mt P w K mg base CL ff 2 "put_down" ["self","mask","reason"] (we CB CC CL)):eZ P w K mg base ff 3 f fd ["self","who","pick"] (nc CB CC CL CS):=by
 refine F.ok Eh (fun vs H Q E h=>?_) (fun cdv A outer s H vs Q E hr h=>?_)
 ·obtain⟨G,p,ch,le,fl,c,L,O,r,v,who,k,rfl,_⟩:=h;rfl
 obtain⟨G,p,ch,le,fl,c,L,O,r,v,who,k,rfl,d,hL,o,l,M,hv,hk,a8,Y,q⟩:=h;have hu:=gN hr;refine⟨_,(ee (eK (i:=3) Eh.nd rfl (Or.inl rfl) (fe hu (eJ aa.cl aa.nN (eJ m.cl m.nBoard (eJ T.cl T.nCh (pv 0)))) (pv 1) (fun _ _=>rfl))) (ee (eK (i:=4) Eh.nd rfl (Or.inl rfl) (jB PySem.F.plainAttrs_list PySem.F.slot_list_index PySem.F.type_list_index yj (iq (N':=["need","pick"]) (n:=1) (js:=[2]) rfl (iD.one (c:=s.heap.objs.size+1) (y:="pick") rfl rfl (by decide +kernel) rfl (by decide +kernel) (by decide +kernel) rfl rfl rfl rfl rfl) (ig (by decide)) (fD (pv 3)) (fun C s2 H2 fp=>eM (i:=0) Gr rfl (Or.inl rfl)) (fun C s2 H2 fp=>jz) (fun C s2 H2 fp=>fj GC (hr.mono (by decide)) rfl mG kG bG .nil eT (dZ (pv 0) (dZ (pv 1) el)))) (dZ iM el))) (eA (eP (ib MP hr eT (eJ T.cl T.nLe (pv 0)) (dZ (fc qK (fe hu (eJ m.cl m.nBits (eJ T.cl T.nCh (pv 0))) (pv 1) (fun _ _=>rfl)) (fe hu (eJ m.cl m.nBits (eJ T.cl T.nCh (pv 0))) (pv 2) (fun _ _=>rfl))) (dZ (gm (dZ hJ (dZ (pv 1) (dZ (pv 4) (dZ (pv 2) el))))) el))))))),?_⟩;obtain⟨dx,hp⟩:=d.self;obtain⟨cx,b,bits,bq,bm,al,sh,fo,st,c1,c2,c3,c4,c5,c6,c7,c8,c9⟩:=(d.chart.f d.gh).ex;obtain⟨bx,dn,dv,ba,a6⟩:=ja c2 c3;obtain⟨na,a2,zs,hz,ad⟩:=a6 who r l (M.f d.gh);have lz:=Paired.length ad;have bf:=d.nds who;have B:=d.gh.ins hp;refine⟨_,rfl,p,dx,_,_,rfl,B,(by kernel_rfl),ch,cx,_,_,rfl,c1,(by kernel_rfl),b,bx,_,_,rfl,ba,gE _ _,_,rfl,dn,_,rfl,a2,?_⟩;refine⟨_,rfl,na,rfl,⟨_,fb.of hz⟩,?_⟩;refine ia (xs:=zs) (fun D i ys I=>ys=(((c.needs who).take i).map fun n=>qi n k).map V.bl∧I D=some (.lst ys)∧eG H I∧H D=none) (fun D hD=>⟨by simp,d0,eB hD _,hD⟩)
  (fun D i ys I hi ⟨S,R,a,_⟩=>⟨fb.of (a _ _ hz),R,?_⟩) (fun D i y ys I hi ⟨S,R,a,e4⟩=>?_) (fun D ys I ⟨S,R,a,e4⟩=>?_)
 ·rw[S,ab,ab,aQ];exact eV (by lia)
 ·obtain⟨n,an,hn⟩:=Paired.J2 ad hi;unfold i8 rj;dsimp only;rw[if_pos rfl];refine⟨_,rfl,_,rfl,_,_,n,k,rfl,gX.same a hn,fg.same a (fg.f d.gh hv),R,?_,d0,eG.upd a e4,e4⟩;rw[S,fE an,av,av];rfl
 ·rw[lz,aF]at S;subst S;have X:true∈(c.needs who).map fun n=>qi n k:=by
   obtain⟨n,ag,a7⟩:=a8;exact aA.mpr ⟨n,ag,a7⟩
  refine⟨.inl ⟨rfl,_,fb.of R⟩,D,_,rfl,rfl,R,X,?_⟩;have Z:=(M.f d.gh).same a;have a0:fg I v k:=fg.same a (fg.f d.gh hv);obtain⟨lx,ma,re,pm,pp,bv,rs,Ol,hO,bd,a1⟩:=id hL.ex;refine⟨_,rfl,p,dx,_,V.ref le,rfl,a _ _ B,(by kernel_rfl),le,lx,_,rfl,a _ _ (d.gh.ins bd),(by kernel_rfl),?_⟩;refine⟨_,rfl,p,dx,_,_,rfl,a _ _ B,(by kernel_rfl),ch,cx,_,_,rfl,a _ _ c1,(by kernel_rfl),_,rfl,bits,_,rfl,(c4.same a).get l Z,_,rfl,p,dx,_,_,rfl,a _ _ B,(by kernel_rfl),ch,cx,_,_,rfl,a _ _ c1,(by kernel_rfl),_,rfl,bits,_,rfl,(c4.same a).get (w:=some k) (gs hk) a0,_,_,rfl,rfl,?_⟩;dsimp only;rw[wP];refine⟨_,rfl,_,rfl,_,rfl,(by show 4≤sizeLine;decide),fun t ht=>?_⟩;have N:eD G I:=d.gh.trans a.toF;have gt:G t=none:=N.free ht;have GW:iy G H O (upd G t (.tup [.str ("outside" : Str),r,.int (((c.needs who).map fun n=>qi n k).idxOf true:Nat),v])) (upd I t (.tup [.str ("outside" : Str),r,.int (((c.needs who).map fun n=>qi n k).idxOf true:Nat),v])) O:=(iy.same d.gh a).trans (iy.put N ht);have U:=(hL.same a).put N (u:=.tup [.str ("outside" : Str),r,.int (((c.needs who).map fun n=>qi n k).idxOf true:Nat),v]) ht;obtain⟨i,n,hi,hin,hcl⟩:∃i n,((c.needs who).map fun n=>qi n k).idxOf true=i∧(c.needs who)[i]?=some n∧qi n k=true:=by
   have a3:=bt.mpr X;have hg:=cu a3;rw[List.getElem_map]at hg;exact⟨_,_,rfl,ak _,hg⟩
  have hR:mh (upd G t (.tup [.str ("outside" : Str),r,.int (((c.needs who).map fun n=>qi n k).idxOf true:Nat),v])) (.ref t) ⟨who,(i:Nat),.one k⟩:=by
   have gG:=(eD.refl G).upd (u:=.tup [.str ("outside" : Str),r,.int (((c.needs who).map fun n=>qi n k).idxOf true:Nat),v]) gt;refine⟨t,r,v,rfl,?_,M.f gG,fg.f gG hv⟩;rw[hi];exact d0
  have J:c.J4 who ||| c.bit k<2^c.n:=i6 (eg.KU l) (c.Kf hk);have as:=d.chart.f GW.gg;generalize upd G t (.tup [.str ("outside" : Str),r,.int (((c.needs who).map fun n=>qi n k).idxOf true:Nat),v])=G' at *;generalize upd I t (.tup [.str ("outside" : Str),r,.int (((c.needs who).map fun n=>qi n k).idxOf true:Nat),v])=H8 at *;refine⟨G',le,ch,c,L,O,c.J4 who ||| c.bit k,_,_,rfl,GW.gh,as,U,hR,J,d.n,d.sm L o,fun j hj=>?_,fun hn H9 O9 g9 a4=>?_⟩
  ·obtain⟨e,ah,a5⟩:=qE hj;exact q G' H8 O L j e GW U o ⟨[],by simp⟩ ah a5 .inl
  ·refine q G' H9 O9 _ L.length (c.J4 who ||| c.bit k,⟨who,(i:Nat),.one k⟩) (GW.trans g9) a4 (o.add J Y (nw.mp hn) ?_) ⟨_,rfl⟩ ?_ rfl (fun a9=>.inl fun x hx=>?_)
   ·refine zY ?_ (eg.Ka.mpr (.inr ((eg.Kd hk).mpr rfl))) hin hcl;cases who with
    |none=>trivial
    |some k0=>exact eg.Ka.mpr (.inl ((eg.KW l).mpr rfl))
   ·rw[aU (ao _),bR];rfl
   ·rcases az.mp hx with z | z
    ·exact a9 x z
    ·rw[aj.mp z];intro y;have:c.has (c.J4 who ||| c.bit k) k:=eg.Ka.mpr (.inr ((eg.Kd hk).mpr rfl));rw[show c.J4 who ||| c.bit k=0 from y]at this;exact eg.Ke this
end
end FB
namespace FB
open PySem L2 PyProof.Rows
variable {H:Hp}{L:ij}{O:List Addr}
def qg (c:eg)(F:List Fk):Prop:=∀(i i':Nat) (f f':Fk),i≤i'→F[i]?=some f→F[i']?=some f'→∀j,c.has f.sd.picked j→c.has f'.sd.picked j
theorem qg.snoc {c:eg}{F:List Fk}{g:Fk}(h:qg c F)(a:∀f∈F,∀j,c.has f.sd.picked j→c.has g.sd.picked j):qg c (F++[g]):=fun i i' f f' hi h1 h2 j hj=>by
 have e2:i'<F.length∨i'=F.length:=by
  have:=(af.mp h2).1;rw[aE,aV]at this
  lia
 rcases e2 with e2 | e2
 ·rw[aI e2]at h2;rw[aI (by lia)]at h1;exact h i i' f f' hi h1 h2 j hj
 ·subst e2;rw[aU (ao _),bR]at h2;have:g=f':=by simpa using h2
  subst this;rcases dj i F.length with z | z
  ·rw[aI z]at h1;exact a f (ai h1) j hj
  ·have:i=F.length:=by lia
   subst this;rw[aU (ao _),bR]at h1;have:g=f:=by simpa using h1
   subst this;exact hj
theorem fG.mono {c:eg}{R:List Fk}{s:Sd}(h:fG c L R s):∀g:Fk,g.sd=s→qg c (R.reverse++[g]):=by
 induction h with
 |nil _ _=>
  intro g _;exact qg.snoc (F:=[]) (fun i o f m _ h1=>by simp at h1) fun f a=>nomatch a
 |@cons f F s h1 h2 h3 h4 ih=>
  intro g d;rw[cV];refine qg.snoc (ih f rfl) fun x l j b=>?_;rw[d];have e:fG c L (f::F) s:=.cons h1 h2 h3 h4;refine(e.sub x ?_).1 j b;rcases az.mp l with z | z
  ·exact aR _ (cs.mp z)
  ·rw[aj.mp z];exact bi
theorem fG.fks {c:eg}{R:List Fk}{s:Sd}(h:fG c L R s):∀f∈R,j5 c f∧iC c L f.sd:=by
 induction h with
 |nil _ _=>exact fun f a=>nomatch a
 |cons h1 h2 h3 h4 ih=>
  intro x hx;rcases am.mp hx with rfl | hx
  ·exact⟨h2,h1.sd⟩
  ·exact ih x hx
def eg.Lm (c:eg)(m:Nat)(F:List Fk):List Fk:=match F.getLast? with
 |some g=>(match g.bit with
  |some k=>F.map (c.Kv k m)
  |none=>F)
 |none=>F
theorem me {α:Type}{p q:α→Bool}:∀{l:List α},(∀x∈l,q x=true→p x=true)→(l.filter q).length≤(l.filter p).length
 |[],_=>ao _
 |x::l,h=>by
  have ih:=me (l:=l) fun y hy=>h y (by simp[hy]);rw[aH,aH];by_cases hq:q x=true
  ·rw[if_pos hq,if_pos (h x (by simp) hq),aC,aC];lia
  ·rw[if_neg hq]
   split
   ·rw[aC];lia
   ·exact ih
theorem qS {α:Type}{p q:α→Bool}{k:α}:∀{l:List α},(∀x∈l,q x=true→p x=true)→k∈l→p k=true→q k=false→(l.filter q).length<(l.filter p).length
 |[],_,hk,_,_=>nomatch hk
 |x::l,h,hk,hp,hq=>by
  have hl:∀y∈l,q y=true→p y=true:=fun y hy=>h y (by simp[hy]);rw[aH,aH];rcases am.mp hk with rfl | hk
  ·rw[if_neg (by rw[hq];decide),if_pos hp,aC];have:=me hl
   lia
  ·have ih:=qS hl hk hp hq;by_cases hx:q x=true
   ·rw[if_pos hx,if_pos (h x (by simp) hx),aC,aC];lia
   ·rw[if_neg hx]
    split
    ·rw[aC];lia
    ·exact ih
theorem eg.Lo (c:eg)(k:Pk)(m:Nat)(f:Fk):c.cnt (c.Kv k m f)≤c.cnt f:=by
 unfold eg.cnt eg.left;refine me fun x a h=>?_;simp only[aB,aw,bQ,decide_eq_false_iff_not]at h ⊢;exact⟨h.1,fun z=>h.2 (eg.Ky z)⟩
theorem eg.Lp {c:eg}{k:Pk}{m:Nat}{f:Fk}(a:k∈c.ks)(hp:k.1=f.part)(b:¬c.has f.sd.dead k)(d:ii (ii m (c.bit k)) f.sd.picked=0):c.cnt (c.Kv k m f)<c.cnt f:=by
 unfold eg.cnt eg.left;refine qS (k:=k) (fun x e h=>?_) a ?_ ?_
 ·simp only[aB,aw,bQ,decide_eq_false_iff_not]at h ⊢;exact⟨h.1,fun z=>h.2 (eg.Ky z)⟩
 ·simp only[aB,aw,bQ,decide_eq_false_iff_not];exact⟨hp,b⟩
 ·have:c.has (c.Kv k m f).sd.dead k:=by
   show c.has (c.Ku k m f.sd).dead k;unfold eg.Ku;rw[if_pos d];exact eg.Ka.mpr (.inr ((eg.Kd a).mpr rfl))
  rw[aq this];simp
theorem yN {c:eg}{B:List Fk}{g:Fk}{e:Nat×Rs}{n:Nat}(h:fG c L B.reverse g.sd)(C:j5 c g)(F:e∈L)(q:e.1<2^c.n)(w:∀j,c.has e.1 j→c.has g.sd.picked j)(d:((B++[g]).take n).reverse=(B++[g]).reverse.dropWhile (fun f=>!c.stop e.1 f)):((B++[g]).take n=[]∧e.1=0)∨∃B2 g2,c.Lm e.1 ((B++[g]).take n)=B2++[g2]∧fG c L B2.reverse g2.sd∧j5 c g2∧c.mv (c.n+1) (B2++[g2])<c.mv (c.n+1) (B++[g])∧e.1≠0:=by
 have r:c.stop e.1 g=false:=by
  unfold eg.stop;cases hb:g.bit with
  |none=>rfl
  |some k=>exact ar fun z=>C.Kt h.sd hb (w k z)
 rw[cH,List.reverse_singleton,List.singleton_append,List.dropWhile_cons,if_pos (by rw[r];rfl)]at d;rcases De h w with ⟨G,D⟩ | ⟨A',b,l,k,E,I,o,v,x,t,m,y⟩
 ·left
  rw[G]at d;exact⟨List.reverse_eq_nil_iff.mp d,eg.Kg q D⟩
 ·right
  rw[I]at d;have A:(B++[g]).take n=l.reverse++[b]:=by
   have:=congrArg List.reverse d;rw[cX,cV]at this;exact this
  have H:B=l.reverse++b::A'.reverse:=by
   have:=congrArg List.reverse E;rw[cX,cH,cV,bI]at this;exact this
  have s:k∈c.ks:=(m.bit k o).1;have p:¬c.has b.sd.picked k:=m.Kt t.sd o;have J:ii (ii e.1 (c.bit k)) b.sd.picked=0:=(eg.KA s q).mpr x;refine⟨l.reverse.map (c.Kv k e.1),c.Kv k e.1 b,?_,?_,m.Kv,?_,fun z=>?_⟩
  ·rw[A];unfold eg.Lm;rw[List.getLast?_append];simp only[List.getLast?_singleton,Option.some_or];rw[o];show List.map (c.Kv k e.1) (l.reverse++[b])=_;rw[av];rfl
  ·have:=t.Kv s F q v p;rw[←List.map_reverse,cX];exact this
  ·rw[H,bI,dh];refine eg.KG c (eg.Lp s (m.bit k o).2.1 y J) (c.n+1) _ _ (by rw[ab]) (fun i a K h1 h2=>?_) ?_
   ·rw[ae,h1]at h2;cases h2;exact c.Lo k e.1 a
   ·have:=t.depth;rw[cq]
    lia
  ·rw[z]at v;exact eg.Ke v
def iI (H:Hp)(O:List Addr)(H':Hp)(O':List Addr):Prop:=∀x u,H x=some u→uM u→x∉O→H' x=some u∧x∉O'
theorem iI.refl (H:Hp)(O:List Addr):iI H O H O:=fun x u h _ n=>⟨h,n⟩
theorem iI.trans {H1 H2:Hp}{O1 O2:List Addr}(a:iI H O H1 O1)(b:iI H1 O1 H2 O2):iI H O H2 O2:=fun x u h f n=>(by obtain⟨h1,n1⟩:=a x u h f n;exact b x u h1 f n1)
theorem iy.Lq {G G' H':Hp}{O':List Addr}(g:iy G H O G' H' O'):iI H O H' O':=fun x u h f n=>⟨g.keep n h (by cases u <;> first | exact fun z=>z | exact f.elim),g.out n h⟩
theorem iI.del {H':Hp}{ys:List Addr}(e:eD (del H ys) H')(hy:∀y∈ys,∃u,H y=some u∧¬uM u):iI H O H' O:=fun x u h f n=>by
 have nx:x∉ys:=fun z=>by obtain⟨v,h1,h2⟩:=hy x z;rw[h]at h1;cases h1;exact h2 f
 refine⟨e.no (by rw[eE nx];exact h) ?_,n⟩;cases u <;> first | exact fun z=>z | exact f.elim
end FB
namespace FB
open PySem L2 PyProof.Rows
seal mj PS PE PT PA
variable {A:List (Addr×Addr)}{CB CC CF CL CS CT fl:Addr}{F:List Fk}{G G' H H':Hp}{K:W.Frag}{O O':List Addr}{P:Program}{fd:FuncData}{m:Nat}{mg:Str→Option Value}{w:World}
theorem lI.grow {s:Addr}{sd:Sd}(h:lI CT G H s sd)(g:iy G H O G' H' O')(n:s∉O):lI CT G' H' s sd:=
 (by obtain⟨dx,w,h1,h2⟩:=h;exact⟨dx,w,g.keep n h1 fun z=>z,h2.f g.gg⟩)
def mR (CF CT:Addr)(G H:Hp)(c:eg)(a:Addr×Addr)(fk:Fk):Prop:=(∃dx,H a.1=some (.ins CF dx (ue (.str fk.part) (.ref a.2) (.int (c.J4 fk.bit:Nat)))))∧lI CT G H a.2 fk.sd
structure iQ (CF CT:Addr)(G H:Hp)(c:eg)(fl:Addr)(A:List (Addr×Addr))(F:List Fk):Prop where
 l:H fl=some (.lst (A.map fun a=>V.ref a.1))
 p:Paired (mR CF CT G H c) A F
 offl:G fl=none
 off:∀a∈A,G a.1=none∧G a.2=none
 nd1:(A.map (·.1)).Nodup
 nd2:(A.map (·.2)).Nodup
def yP (O:List Addr)(fl:Addr)(A:List (Addr×Addr)):Prop:=fl∉O∧∀a∈A,a.1∉O∧a.2∉O
theorem iQ.grow {c:eg}(h:iQ CF CT G H c fl A F)(g:iy G H O G' H' O')(s:yP O fl A):iQ CF CT G' H' c fl A F:=by
 have j:∀a∈A,∃d,mR CF CT G H c a d:=fun a b=>by
  obtain⟨i,hi⟩:=ax.mp b;obtain⟨d,_,o⟩:=Paired.J2 h.p hi;exact⟨d,o⟩
 refine⟨g.keep s.1 h.l fun z=>z,?_,g.off h.offl h.l,fun a b=>?_,h.nd1,h.nd2⟩
 ·have:=h.p;have key:∀{A:List (Addr×Addr)} {F:List Fk},(∀a∈A,a.1∉O∧a.2∉O)→Paired (mR CF CT G H c) A F→Paired (mR CF CT G' H' c) A F:=by
   intro A F m hp
   induction hp with
   |nil=>exact .nil
   |cons h1 _ ih=>exact .cons ⟨(by obtain⟨dx,e⟩:=h1.1;exact⟨dx,g.keep (m _ (by simp)).1 e fun z=>z⟩),h1.2.grow g (m _ (by simp)).2⟩ (ih fun a b=>m a (by simp[b]))
  exact key s.2 h.p
 ·obtain⟨d,⟨dx,q⟩,t,w,r,_⟩:=j a b;exact⟨g.off (h.off a b).1 q,g.off (h.off a b).2 r⟩
theorem yP.grow {c:eg}(h:iQ CF CT G H c fl A F)(g:iy G H O G' H' O')(s:yP O fl A):yP O' fl A:=by
 refine⟨g.out s.1 h.l,fun a b=>?_⟩;obtain⟨i,hi⟩:=ax.mp b;obtain⟨j,_,⟨dx,d⟩,m,w,e,_⟩:=Paired.J2 h.p hi;exact⟨g.out (s.2 a b).1 d,g.out (s.2 a b).2 e⟩
theorem wS {c:eg}{k:Pk}(a:k∈c.ks):m &&& c.bit k≠0↔c.has m k:=by
 have b:m &&& c.bit k<2^c.n:=bw Nat.and_le_right (c.Kf a)
 constructor
 ·intro h;refine Classical.byContradiction fun z=>h (eg.Kg b fun j d=>z ?_);obtain⟨h1,h2⟩:=eg.Kb.mp d;rw[←(eg.Kd a).mp h2];exact h1
 ·intro h z;have:c.has (m &&& c.bit k) k:=eg.Kb.mpr ⟨h,(eg.Kd a).mpr rfl⟩;rw[z]at this;exact eg.Ke this
theorem jJ {c:eg}{k:Pk}(a:k∈c.ks):(((m &&& c.bit k:Nat):Int) != 0)=decide (c.has m k):=by
 rw[pX];by_cases h:c.has m k
 ·rw[ar (wS a |>.mpr h),aq h];rfl
 ·rw[aq (Classical.byContradiction fun z=>h ((wS a).mp z)),ar h];rfl
def IM (c:eg)(F:List Fk)(k:Pk)(m:Nat):Prop:=c.has m k∧∀f∈F,c.has f.sd.dead k→∀j,c.has m j→j=k∨c.has f.sd.picked j
inductive Bo (CB CC CL CS CF CT:Addr)(vs:List V)(H:Hp)(Q:VK)(E:XK):Prop
 |mk (G:Hp)(p ch le fl:Addr)(c:eg)(L:ij)(O:List Addr)(A:List (Addr×Addr))(F:List Fk)(v:V)(k:Pk)(_:vs=[.ref p,v])(_:Se CB CC CS G H p ch le fl c)(_:gf CL G H le ch c L O)(_:gY c L)(_:iQ CF CT G H c fl A F)(_:fg G v k)(_:k∈c.ks)(_:qg c F)(_:(∀f∈F,iC c L f.sd))(_:(∃f0∈F,c.has f0.sd.dead k∧¬c.isP f0.sd.picked k.1))(_:F.length≤64)(_:Bx CL G H O le ch c L (IM c F k) Q):Bo CB CC CL CS CF CT vs H Q E
def mx (CB CC CL CS CF CT:Addr):Sp:=Bo CB CC CL CS CF CT
theorem wu {c:eg}{j k:Pk}(g:j∈c.ks)(d:k∈c.ks)(h:j.1=k.1→j=k):c.Kp (c.bit j ||| c.bit k):=by
 intro a b i l e;rcases eg.Ka.mp i with x | x <;> rcases eg.Ka.mp l with y | y
 ·rw[(eg.Kd g).mp x,(eg.Kd g).mp y]
 ·rw[(eg.Kd g).mp x,(eg.Kd d).mp y]at e ⊢;exact h e
 ·rw[(eg.Kd d).mp x,(eg.Kd g).mp y]at e ⊢;exact(h e.symm).symm
 ·rw[(eg.Kd d).mp x,(eg.Kd d).mp y]
theorem Cw {c:eg}{k:Pk}(d:k∈c.ks):c.Kp (0 ||| c.bit k):=by
 intro a b g e _;rw[Nat.zero_or]at g e;rw[(eg.Kd d).mp g,(eg.Kd d).mp e]
theorem Gw:(["fork","bit"]:List Str).Nodup:=by decide +kernel
section
variable {base:Heap}{f:Addr}
theorem Cf:eN ["self","pick","bit","stand","foes"] ["self","pick"] (eF u3):=i9
theorem CG (F:iN K "line_against" "Search.line_against" u3 f fd)(T:tw K mg CS)(J:TC K mg CC)(TT:Df K mg CT)(TF:Bw K mg CF)(MO:Mt P w K mg base CS ff 3 "outside" ["self","who","pick"] (nc CB CC CL CS))(ML:Mt P w K mg base CC ff 1 "listed" ["self","mask"] (iZ CC))(MA:Mt P w K mg base CL ff 1 "place_against" ["self","pick","picked"] (oV CB CC CL)):eZ P w K mg base ff 4 f fd ["self","pick"] (mx CB CC CL CS CF CT):=by
 refine F.ok Cf (fun vs H Q E h=>?_) (fun cdv A outer s H vs Q E hr h=>?_)
 ·obtain⟨G,p,ch,le,fl,c,L,O,AA,FF,v,k,rfl,_⟩:=h;rfl
 obtain⟨G,p,ch,le,fl,c,L,O,AA,FF,v,k,rfl,M,hL,I,hF,hv,o,a8,bm,⟨f0,b2,b1,da⟩,dy,q⟩:=h;have hu:=gN hr;refine⟨_,(ee (eK (i:=2) Cf.nd rfl (Or.inr rfl) (fe hu (eJ J.cl J.nBits (eJ T.cl T.nCh (pv 0))) (pv 1) (fun _ _=>rfl))) (ee (eK (i:=3) Cf.nd rfl (Or.inl rfl) (eL fh (iq (N':=["fork","bit"]) (n:=1) (js:=[2]) rfl (iD.one (c:=s.heap.objs.size+1) (y:="bit") rfl rfl (by decide +kernel) rfl (by decide +kernel) (by decide +kernel) rfl rfl rfl rfl rfl) (ig (by decide)) (fD (eJ T.cl T.nFo (pv 0))) (fun C s2 H2 fp=>eM (i:=0) Gw rfl (Or.inl rfl)) (fun C s2 H2 fp=>mD (u7 (fc hW (eJ TT.cl TT.nDe (eJ TF.cl TF.nSt (pv 0))) (pv 1)) (fun _=>rfl))) (fun C s2 H2 fp=>eJ TF.cl TF.nSt (pv 0))) er (fun _ _=>rfl))) (ee (fF (iz (fc hW (fe hu (eJ J.cl J.nFo (eJ T.cl T.nCh (pv 0))) iR (fun _ _=>rfl)) (pv 2)) (fun _=>rfl)) (eA (eP (ib MO hr eT (pv 0) (dZ iR (dZ (pv 1) el))))) eU) (ee (eK (i:=4) Cf.nd rfl (Or.inl rfl) (ib ML (hr.mono (by decide)) eT (eJ T.cl T.nCh (pv 0)) (dZ (fc hW (fe hu (eJ J.cl J.nFo (eJ T.cl T.nCh (pv 0))) (pv 1) (fun _ _=>rfl)) (fc qK (eJ TT.cl TT.nPi (pv 3)) (pv 2))) el))) (ee (fF (gO (iz (pv 4) (fun _=>rfl))) (eA (eP (ib MA (hr.mono (by decide)) eT (eJ T.cl T.nLe (pv 0)) (dZ (pv 1) (dZ (eJ TT.cl TT.nPi (pv 3)) el))))) eU) (ee (fF (iz (fc hW (fe hu (eJ J.cl J.nSh (eJ T.cl T.nCh (pv 0))) (eL fh (pv 4) er (fun _ _=>rfl)) (fun _ _=>rfl)) (pv 2)) (fun _=>rfl)) (eA (eP (ib MO hr eT (pv 0) (dZ (eL fh (pv 4) er (fun _ _=>rfl)) (dZ (pv 1) el))))) eU) (eA (eP (ib MO hr eT (pv 0) (dZ (pv 1) (dZ (eL fh (pv 4) er (fun _ _=>rfl)) el))))))))))),?_⟩;obtain⟨dx,hp⟩:=M.self;have t:=M.gh.ins hp;obtain⟨cx,b,bits,dn,d7,al,sh,fo,st,c1,c2,c3,c4,c5,c6,c7,c8,c9⟩:=(M.chart.f M.gh).ex;have ba:fg H v k:=fg.f M.gh hv;have lA:AA.length=FF.length:=Paired.length hF.p;refine⟨_,rfl,p,dx,_,_,rfl,t,(by kernel_rfl),ch,cx,_,_,rfl,c1,(by kernel_rfl),_,rfl,bits,_,rfl,c4.get (w:=some k) (gs o) ba,?_⟩;refine⟨_,rfl,p,dx,_,_,rfl,t,(by kernel_rfl),fl,rfl,⟨_,fb.of hF.l⟩,?_⟩;refine ia (xs:=AA.map fun a=>V.ref a.1) (fun D i ys H7=>H7 D=some (.lst ys)∧eG H H7∧H D=none∧ys.length≤i∧((ys=[]∧∀N<i,∀f:Fk,FF[N]?=some f→¬c.has f.sd.dead k)∨∃(i0:Nat) (a:Addr) (g:Fk) (rest:List V),ys=.ref a::rest∧FF[i0]?=some g∧lI CT G H a g.sd∧c.has g.sd.dead k∧∀N<i0,∀f:Fk,FF[N]?=some f→¬c.has f.sd.dead k))
  (fun D hD=>⟨d0,eB hD _,hD,ao _,.inl ⟨rfl,fun N x=>absurd x (ce _)⟩⟩) (fun D i ys H7 hi ⟨e1,r,e3,e4,_⟩=>⟨fb.of (r _ _ hF.l),e1,?_⟩) (fun D i y ys H7 hi ⟨e1,r,e3,e4,e5⟩=>?_) (fun D ys H7 ⟨e1,r,e3,e4,e5⟩=>?_)
 ·rw[ab]at hi;exact eV (by lia)
 ·rw[ae]at hi;obtain⟨a,ha,rfl⟩:=au.mp hi;obtain⟨fk,bx,⟨fx,bf⟩,aa⟩:=Paired.J2 hF.p ha;obtain⟨sx,wa,ag,c0⟩:=id aa;unfold i8;refine⟨_,rfl,a.1,fx,_,V.ref a.2,rfl,r _ _ bf,(by kernel_rfl),a.2,sx,_,V.int (fk.sd.dead:Nat),rfl,r _ _ ag,(by kernel_rfl),_,rfl,_,_,rfl,rfl,_,rfl,?_⟩;rw[nL,show c.J4 (some k)=c.bit k from rfl,jJ o];by_cases hd:c.has fk.sd.dead k
  ·rw[aq hd];refine gW ⟨_,rfl,a.1,fx,_,V.ref a.2,rfl,r _ _ bf,(by kernel_rfl),e1,d0,eG.upd r e3,e3,by rw[aE,aV];lia,.inr ?_⟩;rcases e5 with ⟨z1,z2⟩ | ⟨i0,a0,g,rest,z1,z2⟩
   ·subst z1;exact⟨i,a.2,fk,[],rfl,bx,aa,hd,z2⟩
   ·exact⟨i0,a0,g,rest++[.ref a.2],by rw[z1];rfl,z2⟩
  ·rw[ar hd];refine fC ⟨e1,r,e3,by lia,?_⟩;rcases e5 with ⟨z1,z2⟩ | z
   ·refine .inl ⟨z1,fun N x f hf=>?_⟩;rcases dj N i with y | y
    ·exact z2 N y f hf
    ·have:N=i:=by lia
     rw[this,bx]at hf;cases hf;exact hd
   ·exact .inr z
 ·rw[ab]at e5;have b3:¬(ys=[]∧∀N<AA.length,∀f,FF[N]?=some f→¬c.has f.sd.dead k):=fun⟨_,z⟩=>by
   obtain⟨N,x⟩:=ax.mp b2;exact z N (by rw[lA];exact(af.mp x).1) f0 x b1
  obtain⟨i0,sa,g,rest,rfl,hg,aa,bl,ad⟩:=e5.resolve_left b3;have bq:=ai hg;have a3:∀f∈FF,c.has f.sd.dead k→∀j,c.has g.sd.picked j→c.has f.sd.picked j:=fun f hf a6=>by
   obtain⟨N,x⟩:=ax.mp hf;exact a8 i0 N g f (Nat.le_of_not_lt fun z=>ad N z f x a6) hg x
  have cn:¬c.isP g.sd.picked k.1:=(by rintro⟨j,h1,h2⟩;exact da ⟨j,a3 f0 b2 b1 j h1,h2⟩);have a7:∀m,c.has m k→(∀j,c.has m j→j=k∨c.has g.sd.picked j)→IM c FF k m:=fun m h1 h2=>⟨h1,fun f hf a6 j R=>(h2 j R).imp id (a3 f hf a6 j)⟩;obtain⟨sx,wa,ag,c0⟩:=id aa;have g7:eD G H7:=M.gh.trans r.toF;have cv:=M.same r;have co:=hL.same r;have GW:=iy.same (O:=O) M.gh r;refine⟨D,_,_,V.ref sa,rfl,rfl,fb.of e1,mO,?_⟩;refine⟨_,rfl,p,dx,_,_,rfl,r _ _ t,(by kernel_rfl),ch,cx,_,_,rfl,r _ _ c1,(by kernel_rfl),fo,_,rfl,(c9.same r).get (w:=none) iX rfl,_,rfl,_,_,rfl,rfl,_,rfl,?_⟩;dsimp only;rw[nL,show c.J4 (some k)=c.bit k from rfl,jJ o];by_cases hns:c.has (c.KO none) k
  ·rw[aq hns];refine gW ⟨_,rfl,p,dx,_,rfl,r _ _ t,(by kernel_rfl),_,rfl,G,p,ch,le,fl,c,L,O,_,v,none,k,rfl,cv,co,I,iX,rfl,hv,o,(eg.KQ.mp hns).2,Cw o,?_⟩;intro G' H' O' L' j e gw hl B hx R hm Y;refine q G' H' O' L' j e (GW.trans gw) hl B hx R ?_ Y;have U:e.1=0 ||| c.bit k:=hm;rw[U,Nat.zero_or];exact a7 _ ((eg.Kd o).mpr rfl) fun j R=>.inl ((eg.Kd o).mp R)
  ·rw[ar hns];refine fC ?_;have b9:c.KO (some k) &&& (g.sd.picked ||| c.bit k)<2^c.n:=nM (c.KS _);have dc:=M.chart;obtain⟨gx,gb,ct,b7,dv,d8,dp,d9,dl,d1,d2,d3,d4,d5,d6⟩:=dc.ex;refine⟨_,rfl,p,dx,_,V.ref ch,rfl,r _ _ t,(by kernel_rfl),ch,gx,_,rfl,g7.ins d1,(by kernel_rfl),_,rfl,p,dx,_,_,rfl,r _ _ t,(by kernel_rfl),ch,cx,_,_,rfl,r _ _ c1,(by kernel_rfl),_,rfl,fo,_,rfl,(c9.same r).get (w:=some k) (gs o) (fg.same r ba),_,rfl,sa,sx,_,V.int (g.sd.picked:Nat),rfl,r _ _ ag,(by kernel_rfl),_,rfl,_,_,rfl,rfl,_,_,rfl,rfl,?_⟩;dsimp only;rw[wP,nL];refine⟨G,ch,gx,b7,_,c,_,rfl,g7,g7.ins d1,(by kernel_rfl),d5,M.n,b9,fun l xs H8 s8 dd Z a9 cy=>?_⟩;have d:=r.trans s8;have g8:eD G H8:=M.gh.trans d.toF;have bd:=M.same d;have an:=hL.same d;have a4:=iy.same (O:=O) M.gh d;refine⟨_,rfl,_,.inl ⟨xs,fb.of Z,rfl⟩,?_⟩;have lx:=Paired.length a9;cases hxs:c.listed (c.KO (some k) &&& (g.sd.picked ||| c.bit k)) with
   |nil=>
    rw[hxs]at lx;have:xs=[]:=bO.mp lx;subst this;refine gW ?_;have as:∀j,c.foe k j→(j=k∨c.has g.sd.picked j)→j∈c.ks→False:=fun j h1 h2 h3=>by
     have:j∈c.listed (c.KO (some k) &&& (g.sd.picked ||| c.bit k)):=eg.J9.mpr (eg.Kb.mpr ⟨eg.KR.mpr ⟨h3,h1⟩,eg.Ka.mpr (h2.elim (fun z=>.inr ((eg.Kd o).mpr z)) .inl)⟩);rw[hxs]at this;cases this
    have cp:c.Kq L g.sd.picked k:=by
     rcases (bm g bq).just k bl with z | z | ⟨j,z1,z2⟩ | z
     ·exact absurd (eg.KQ.mpr ⟨o,z⟩) hns
     ·exact(as k z (.inl rfl) o).elim
     ·exact(as j z2 (.inr z1) z1.1).elim
     ·exact z
    obtain⟨b8,ma,re,pm,pp,ds,rs,Ol,hO,cd,b5⟩:=id hL.ex;refine⟨_,rfl,p,dx,_,V.ref le,rfl,d _ _ t,(by kernel_rfl),le,b8,_,rfl,d _ _ (M.gh.ins cd),(by kernel_rfl),_,rfl,_,rfl,sa,sx,_,V.int (g.sd.picked:Nat),rfl,d _ _ ag,(by kernel_rfl),G,le,ch,c,L,O,v,k,g.sd.picked,rfl,g8,M.chart,an,fg.same d ba,o,fun H' j e s' R he=>?_,fun b6=>?_⟩
    ·refine q G H' O L j e (a4.trans (iy.same g8 s')) (an.same s') I ⟨[],by simp⟩ R ?_ .inl;have h1:c.has (ii e.1 g.sd.picked) k:=by rw[he];exact(eg.Kd o).mpr rfl
     refine a7 _ (eg.Kc.mp h1).1 fun j' cz=>?_;by_cases ah:c.has g.sd.picked j'
     ·exact .inr ah
     ·have:c.has (ii e.1 g.sd.picked) j':=eg.Kc.mpr ⟨cz,ah⟩;rw[he]at this;exact .inl ((eg.Kd o).mp this)
    ·obtain⟨e,he,h1,h2⟩:=cp;exact absurd (vt o (I.lt e he) h1 h2 ((bm g bq).off k bl)) (b6 e he h1)
   |cons j0 js=>
    rw[hxs]at lx;obtain⟨x0,xr,rfl⟩:∃x0 xr,xs=x0::xr:=by
     cases xs with
     |nil=>simp at lx
     |cons a b=>exact⟨a,b,rfl⟩
    rw[hxs]at a9;have a5:fg G x0 j0:=by cases a9 with | cons h _=>exact h
    have b4:j0∈c.listed (c.KO (some k) &&& (g.sd.picked ||| c.bit k)):=by rw[hxs];exact bi
    obtain⟨cc,ah⟩:=eg.Kb.mp (eg.J9.mp b4);obtain⟨S,bv⟩:=eg.KR.mp cc;have a2:j0=k∨c.has g.sd.picked j0:=(eg.Ka.mp ah).elim .inr fun z=>.inl ((eg.Kd o).mp z);have X:j0.1=k.1→j0=k:=fun e=>a2.resolve_right fun z=>cn ⟨j0,z,e⟩;have a1:IM c FF k (c.bit j0 ||| c.bit k):=a7 _ (eg.Ka.mpr (.inr ((eg.Kd o).mpr rfl))) fun j R=>(eg.Ka.mp R).elim (fun z=>by rw[(eg.Kd S).mp z];exact a2) fun z=>.inl ((eg.Kd o).mp z);refine fC ?_;refine⟨_,rfl,p,dx,_,_,rfl,d _ _ t,(by kernel_rfl),ch,cx,_,_,rfl,d _ _ c1,(by kernel_rfl),_,rfl,l,_,_,x0,rfl,rfl,fb.of Z,mO,sh,_,rfl,(c8.same d).get (w:=some j0) (gs S) (fg.f g8 a5),_,rfl,_,_,rfl,rfl,_,rfl,?_⟩;dsimp only;rw[nL,jJ o];by_cases hsj:c.has (c.KN (some j0)) k
    ·rw[aq hsj];refine gW ⟨_,rfl,p,dx,_,rfl,d _ _ t,(by kernel_rfl),_,rfl,l,_,_,x0,rfl,rfl,fb.of Z,mO,_,rfl,G,p,ch,le,fl,c,L,O,_,v,some j0,k,rfl,bd,an,I,gs S,a5,hv,o,(eg.KQ.mp hsj).2,wu S o X,?_⟩;intro G' H' O' L' j e gw hl B hx R hm Y;refine q G' H' O' L' j e (a4.trans gw) hl B hx R ?_ Y;have U:e.1=c.bit j0 ||| c.bit k:=hm;rw[U];exact a1
    ·rw[ar hsj];refine fC ⟨_,rfl,p,dx,_,rfl,d _ _ t,(by kernel_rfl),_,rfl,_,rfl,l,_,_,x0,rfl,rfl,fb.of Z,mO,G,p,ch,le,fl,c,L,O,v,x0,some k,j0,rfl,bd,an,I,gs o,hv,a5,S,?_,wu o S (fun e=>(X e.symm).symm),?_⟩
     ·rcases bv with z | z
      ·exact z
      ·exact absurd (eg.KQ.mpr ⟨o,z⟩) hsj
     intro G' H' O' L' j e gw hl B hx R hm Y;refine q G' H' O' L' j e (a4.trans gw) hl B hx R ?_ Y;have U:e.1=c.bit k ||| c.bit j0:=hm;rw[U,Nat.or_comm];exact a1
end
def Hc (c:eg)(L:ij)(kvs:List (gB×V)):Option (Pk×Nat×Nat)→Prop
 |none=>kvs=[]
 |some (k0,j0,m0)=>k0∈c.ks∧kvs=[(Sum.inl (c.bit k0:Int),V.int (j0:Nat))]∧∃e,L[j0]?=some e∧e.1=m0
def IH (c:eg)(fk:Fk)(kn:Option (Pk×Nat×Nat))(m:Nat):Prop:=∀j,c.has m j→c.has fk.sd.picked j∨∃k0 j0 m0,kn=some (k0,j0,m0)∧c.has m0 j∧j≠k0
inductive Dv (CB CC CL CS CF CT:Addr)(vs:List V)(H:Hp)(Q:VK)(E:XK):Prop
 |mk (G:Hp)(p ch le fl:Addr)(c:eg)(L:ij)(O:List Addr)(A:List (Addr×Addr))(F:List Fk)(i:Nat)(a:Addr×Addr)(fk:Fk)(kd:Addr)(kvs:List (gB×V))(kn:Option (Pk×Nat×Nat))(_:vs=[.ref p,.ref a.1,.ref kd])(_:Se CB CC CS G H p ch le fl c)(_:gf CL G H le ch c L O)(_:gY c L)(_:iQ CF CT G H c fl A F)(_:yP O fl A)(_:qg c F)(_:(∀f∈F,iC c L f.sd))(_:F.length≤64)(_:A[i]?=some a)(_:F[i]?=some fk)(_:fk.part∈fk.sd.wanted.map (·.1))(_:Rd H kd (.dK kvs))(_:kd∉O)(_:Hc c L kvs kn)(_:(∀k∈c.ks,k.1=fk.part→c.has fk.sd.dead k∨∃j0 m0,kn=some (k,j0,m0)))(_:(∀m,IH c fk kn m→c.Kp m))(_:Bx CL G H O le ch c L (IH c fk kn) Q):Dv CB CC CL CS CF CT vs H Q E
def rp (CB CC CL CS CF CT:Addr):Sp:=Dv CB CC CL CS CF CT
theorem ER {c:eg}{L:ij}{kvs:List (gB×V)}{kn:Option (Pk×Nat×Nat)}(h:Hc c L kvs kn){k:Pk}(a:k∈c.ks):(eW kvs (Sum.inl (c.bit k:Int))=none∧∀j0 m0,kn≠some (k,j0,m0))∨∃(j0 m0:Nat) (e:Nat×Rs),kn=some (k,j0,m0)∧eW kvs (Sum.inl (c.bit k:Int))=some (.int (j0:Nat))∧L[j0]?=some e∧e.1=m0:=by
 match kn,h with
 |none,h=>exact .inl ⟨by rw[show kvs=[] from h];rfl,fun _ _ z=>nomatch z⟩
 |some (k0,j0,m0),⟨h1,h2,e,h3,h4⟩=>
  by_cases z:k=k0
  ·subst z;refine .inr ⟨j0,m0,e,rfl,?_,h3,h4⟩;rw[h2];exact gv rfl
  ·refine .inl ⟨?_,fun _ _ y=>z (by cases y;rfl)⟩;rw[h2];unfold eW;rw[bj,ar]
   ·rfl
   ·intro y;have d:=Sum.inl.inj y;have:c.bit k0=c.bit k:=by lia
    refine z ?_;have b:c.has (c.bit k0) k:=by rw[this];exact(eg.Kd a).mpr rfl
    exact(eg.Kd h1).mp b
theorem wx {α:Type} [DecidableEq α] {β:Type}{f:β→α}{l:List β}{x:α}(h:x∈l.map f):∃y,l[(l.map f).idxOf x]?=some y∧f y=x:=by
 have a:=bt.mpr h;have b:=cu a;rw[List.getElem_map]at b;exact⟨_,ak _,b⟩
section
variable {base:Heap}{f:Addr}
theorem kI:eN ["self","fork","known","who","place","need","mask","below","version","pick","bit","at"] ["self","fork","known"] (eF zo):=i9
theorem Cy (F:iN K "shut" "Search.shut" zo f fd)(T:tw K mg CS)(S:TC K mg CC)(ew:TL K mg CL)(f1:TB K mg CB)(TT:Df K mg CT)(TF:Bw K mg CF)(MN:Mt P w K mg base CS ff 1 "place_of_need" ["self","who","part"] (mw CB CC CS))(MM:Mt P w K mg base CB ff 2 "meeting" ["self","need"] (jS CB))(MA:Mt P w K mg base CS ff 4 "line_against" ["self","pick"] (mx CB CC CL CS CF CT))(MP:Mt P w K mg base CL ff 2 "put_down" ["self","mask","reason"] (we CB CC CL)):eZ P w K mg base ff 5 f fd ["self","fork","known"] (rp CB CC CL CS CF CT):=by
 refine F.ok kI (fun vs H Q E h=>?_) (fun cdv A outer s H vs Q E hr h=>?_)
 ·obtain⟨G,p,ch,le,fl,c,L,O,AA,FF,i,a,d,U,kvs,kn,rfl,_⟩:=h;rfl
 obtain⟨G,p,ch,le,fl,c,L,O,AA,FF,i,a,d,U,kvs,kn,rfl,M,hL,fp,hF,b6,ec,f3,i2,eu,dd,eb,ho,f2,h8,b7,et,q⟩:=h;have hu:=gN hr;refine⟨_,(ee (eK (i:=3) kI.nd rfl (Or.inl rfl) (hU hu (eJ TT.cl TT.nWa (eJ TF.cl TF.nSt (pv 1))) (eJ TF.cl TF.nPa (pv 1)) (fun _ _=>rfl))) (ee (eK (i:=4) kI.nd rfl (Or.inl rfl) (ib MN (hr.mono (by decide)) eT (pv 0) (dZ (pv 3) (dZ (eJ TF.cl TF.nPa (pv 1)) el)))) (ee (eK (i:=5) kI.nd rfl (Or.inl rfl) (eL fh (fe hu (eJ f1.cl f1.nN (eJ S.cl S.nBoard (eJ T.cl T.nCh (pv 0)))) (pv 3) (fun _ _=>rfl)) (pv 4) (fun _ _=>rfl))) (ee (eK (i:=6) kI.nd rfl (Or.inl rfl) (fe hu (eJ S.cl S.nBits (eJ T.cl T.nCh (pv 0))) (pv 3) (fun _ _=>rfl))) (ee (eK (i:=7) kI.nd rfl (Or.inl rfl) (gc el)) (ee (fO PassesOwn.never rfl (fD (ib MM (hr.mono (by decide)) eT (eJ S.cl S.nBoard (eJ T.cl T.nCh (pv 0))) (dZ (pv 5) el))) (eM (i:=8) kI.nd rfl (Or.inl rfl)) (ee (eK (i:=9) kI.nd rfl (Or.inl rfl) (gm (dZ (eJ TF.cl TF.nPa (pv 1)) (dZ (pv 8) el)))) (ee (eK (i:=10) kI.nd rfl (Or.inl rfl) (fe hu (eJ S.cl S.nBits (eJ T.cl T.nCh (pv 0))) (pv 9) (fun _ _=>rfl))) (ee (eK (i:=11) kI.nd rfl (Or.inl rfl) (zO (iL (vc hu (pv 10) (pv 2))) (hU hu (pv 2) (pv 10) (fun _ _=>rfl)) (ib MA hr eT (pv 0) (dZ (pv 9) el)))) (ee (gq (jB PySem.F.plainAttrs_list PySem.F.slot_list_append PySem.F.type_list_append gF (pv 7) (dZ (pv 11) el))) (eA (j7 (i:=6) kI.nd rfl (Or.inl rfl) (fc hW (eL fh (eJ ew.cl ew.nMa (eJ T.cl T.nLe (pv 0))) (pv 11) (fun _ _=>rfl)) (iP kE (pv 10))) t8))))))) (eA (eP (ib MP (hr.mono (by decide)) eT (eJ T.cl T.nLe (pv 0)) (dZ (pv 6) (dZ (gm (dZ hJ (dZ (pv 3) (dZ (pv 4) (dZ (pv 7) el))))) el))))))))))),?_⟩;obtain⟨dx,hp⟩:=M.self;have h0:=M.gh.ins hp;have bd:=ai dd;have ep:=f3 d bd;obtain⟨⟨fx,hfa⟩,sx,wa,hsa,wo,wkvs,hwa,hwp⟩:mR CF CT G H c a d:=by
  obtain⟨h4,h1,h2⟩:=Paired.J2 hF.p eu;rw[dd]at h1;cases h1;exact h2
 obtain⟨wv,u,e7,fa,an⟩:=ot hwp eb;obtain⟨j2,fv,fu⟩:=ep.w1 d.part u fa;have I:c.Who u:=fun k e=>by subst e;exact fv.1
 refine⟨_,rfl,a.1,fx,_,V.ref a.2,rfl,hfa,(by kernel_rfl),a.2,sx,_,V.ref wa,rfl,hsa,(by kernel_rfl),_,rfl,a.1,fx,_,V.str d.part,rfl,hfa,(by kernel_rfl),wa,_,rfl,.inl ⟨wkvs,Sum.inr d.part,.inr ⟨wo,M.gh.frz hwa⟩,rfl,e7.symm⟩,?_⟩;refine⟨_,rfl,p,dx,_,rfl,h0,(by kernel_rfl),_,rfl,_,rfl,a.1,fx,_,V.str d.part,rfl,hfa,(by kernel_rfl),G,p,ch,le,fl,c,wv,u,d.part,rfl,M,I,an.f M.gh,fu,fun H1 s1=>?_⟩;obtain⟨n,ft,gn⟩:=wx fu;generalize ko:((c.needs u).map (·.1)).idxOf d.part=pl at *;have g1:eD G H1:=M.gh.trans s1.toF;obtain⟨cx,b,bits,kk,k3,al,sh,fo,st,c1,c2,c3,c4,c5,c6,c7,c8,c9⟩:=(M.chart.f g1).ex;obtain⟨bx,dn,dv,go,hg⟩:=ja c2 c3;obtain⟨na,g7,zs,hz,gd⟩:=hg u wv I (an.f g1);have lz:=Paired.length gd;obtain⟨zv,h9,is⟩:=iS gd (show iB (c.needs u) (pl:Int)=some n by rw[io];exact ft);have js:sW zs (pl:Int)=some zv:=jE h9;have ct:=g1.ins hp;refine⟨_,rfl,p,dx,_,_,rfl,ct,(by kernel_rfl),ch,cx,_,_,rfl,c1,(by kernel_rfl),b,bx,_,_,rfl,go,gE _ _,_,rfl,dn,_,rfl,g7,_,rfl,na,_,_,zv,rfl,rfl,fb.of hz,js,?_⟩;refine⟨_,rfl,p,dx,_,_,rfl,ct,(by kernel_rfl),ch,cx,_,_,rfl,c1,(by kernel_rfl),_,rfl,bits,_,rfl,c4.get I (an.f g1),?_⟩;refine⟨(by show 0≤sizeLine;decide),fun g J=>?_⟩;have s2:=eB J (.lst []);have b9:upd H1 g (.lst []) g=some (.lst []):=d0;generalize upd H1 g (.lst [])=H2 at *;have ed:=s1.trans s2;have g2:eD G H2:=M.gh.trans ed.toF;refine⟨_,rfl,p,dx,_,_,rfl,s2 _ _ ct,(by kernel_rfl),ch,cx,_,V.ref b,rfl,s2 _ _ c1,(by kernel_rfl),b,bx,_,rfl,s2 _ _ go,qe _ _ (by decide +kernel) (by decide +kernel),_,rfl,b,st,c.es,_,n,rfl,c2.same s2,gX.same s2 is,by rw[←c.n_eq];exact M.n,fun l ms H3 s3 hl gp g0 i4=>?_⟩;have gk:=pQ g0 i4;subst gk;have N:H g=none:=s1.free J;have ej:=ed.trans s3;have gb:l≠g:=fun z=>by rw[z,b9]at hl;cases hl
 have hh:l∉O:=fun z=>by obtain⟨v,hv⟩:=hL.liv l z;rw[ed _ _ hv]at hl;cases hl
 have f7:g∉O:=fun z=>by obtain⟨v,hv⟩:=hL.liv g z;rw[N]at hv;cases hv
 refine⟨l,rfl,⟨_,fb.of gp⟩,?_⟩;refine fU (K:=K) (a:=l) (xs:=(iT c.es n).map V.int) (fun t σ H4=>∃(G':Hp) (O':List Addr) (L':ij) (bs:List Nat) (m:Nat) (o8 o9 cz c0:Option V),σ=[some (.ref p),some (.ref a.1),some (.ref U),some wv,some (.int (pl:Nat)),some zv,some (.int (m:Nat)),some (.ref g),o8,o9,cz,c0]∧iy G H O G' H4 O'∧gf CL G' H4 le ch c L' O'∧gY c L'∧(∃X,L'=L++X)∧(NZ L→NZ L')∧iQ CF CT G' H4 c fl AA FF∧yP O' fl AA∧H4 g=some (.lst (gM bs))∧g∉O'∧G' g=none∧H4 l=some (.lst ((iT c.es n).map V.int))∧l∉O'∧Rd H4 U (.dK kvs)∧U∉O'∧bs.length=t∧(∀(j b:Nat) (v:Int),bs[j]?=some b→(iT c.es n)[j]?=some v→∃e,L'[b]?=some e∧∀x,c.has e.1 x→x=(n.1,v)∨c.has m x)∧m<2^c.n∧IH c d kn m∧c.Ko m u) ?_ ((by rintro t σ H4 _ ⟨_,_,_,_,_,_,_,_,_,_,_,_,_,_,_,_,_,_,_,_,e,_⟩;exact fb.of e)) ?_ ?_
 ·have GW:=iy.same (O:=O) M.gh ej;have b1:∀j,c.has (c.J4 u) j→c.has d.sd.picked j:=fun j hj=>by
   have:=(eg.KW I).mp hj;subst this;exact fv
  refine⟨G,O,L,[],c.J4 u,none,none,none,none,rfl,GW,hL.same ej,fp,⟨[],by simp⟩,id,hF.grow GW b6,b6,s3 _ _ b9,f7,M.gh.free N,gp,hh,ie ej ho,f2,rfl,fun j b v h=>by simp at h,eg.KU I,fun j hj=>.inl (b1 j hj),?_⟩;cases u with
  |none=>trivial
  |some k=>exact(eg.KW I).mpr rfl
 ·rintro t x σ H4 ht ⟨G4,O4,L4,bs,m,o8,o9,cz,c0,rfl,gw,a4,r,a2,ah,cy,B,R,ad,a6,e3,eh,co,a9,J,cp,as,bf,da⟩;rw[ae]at ht;obtain⟨v,hv,rfl⟩:=au.mp ht;have g8:=ai hv;obtain⟨⟨fx4,hfa4⟩,hst4⟩:mR CF CT G4 H4 c a d:=by
   obtain⟨h4,h1,h2⟩:=Paired.J2 cy.p eu;rw[dd]at h1;cases h1;exact h2
  have hk:(d.part,v)∈c.ks:=(c.mem _).mpr (by rw[←gn];exact(sI.mp g8).1);refine⟨_,rfl,a.1,fx4,_,V.str d.part,rfl,hfa4,(by kernel_rfl),_,rfl,(by show 2≤sizeLine;decide),fun tp bm=>?_⟩;have eq:g≠tp:=eo R bm;have b4:=gw.trans (iy.put (O:=O4) (u:=.tup [.str d.part,.int v]) gw.gh bm);have b3:=a4.put gw.gh (u:=.tup [.str d.part,.int v]) bm;have f5:=iy.put (O:=O4) (u:=.tup [.str d.part,.int v]) gw.gh bm;have bv:=cy.grow f5 B;have d8:=eB bm (.tup [.str d.part,.int v]);have e1:fg (upd G4 tp (.tup [.str d.part,.int v])) (.ref tp) (d.part,v):=⟨tp,rfl,d0⟩;have ey:upd G4 tp (.tup [.str d.part,.int v]) g=none:=by rw[ef eq];exact a6
  generalize upd G4 tp (.tup [.str d.part,.int v])=G5 at *;generalize upd H4 tp (.tup [.str d.part,.int v])=H5 at *;have a1:Se CB CC CS G5 H5 p ch le fl c:=M.grow b4.gg b4.gh;have e8:=a1.gh.ins (b4.gg.ins hp);obtain⟨hs,b5,dp,kl,kq,k2,k8,kp,kh,d1,d2,d3,d4,d5,d6⟩:=(a1.chart.f a1.gh).ex;refine⟨_,rfl,p,dx,_,_,rfl,e8,(by kernel_rfl),ch,hs,_,_,rfl,d1,(by kernel_rfl),_,rfl,dp,_,rfl,d4.get (w:=some (d.part,v)) (gs hk) (fg.f a1.gh e1),?_⟩;have e6:∀f∈FF,iC c L4 f.sd:=fun f hf=>(f3 f hf).led fun e he=>by obtain⟨X,hX⟩:=a2;rw[hX];exact aO _ he
  have ba:=a9;have ea:Rd H5 U (.dK kvs):=ie d8 co;have bq:=d8 _ _ R;have ez:=d8 _ _ e3;have key:∀(Q':VK) (σ:L2.St),σ[0]?=some (some (.ref p))→σ[2]?=some (some (.ref U))→σ[9]?=some (some (.ref tp))→σ[10]?=some (some (.int (c.J4 (some (d.part,v)):Nat)))→
    (∀(G' H':Hp) (O':List Addr) (L':ij) (j:Nat) (e:Nat×Rs),iy G5 H5 O4 G' H' O'→gf CL G' H' le ch c L' O'→gY c L'→(∃X,L'=L4++X)→L'[j]?=some e→(∀x,c.has e.1 x→x=(d.part,v)∨c.has d.sd.picked x∨∃k0 j0 m0,kn=some (k0,j0,m0)∧c.has m0 x∧x≠k0)→(NZ L4→NZ L')→Q' (.int (j:Nat)) H')→
    IS (tB (FI (nZ 10) (nZ 2))) (Dk (nZ 2) (nZ 10)) (tD CS ("line_against" : Str) (mx CB CC CL CS CF CT) [] E0 (nZ 0) (qA (nZ 9) xE)) σ H5 Q':=by
   intro Q' σ e0 e2 e9 e5 hq;have d9:jt H5 U (.int (c.J4 (some (d.part,v)):Nat)) (eW kvs (Sum.inl (c.bit (d.part,v):Int))):=.inl ⟨kvs,Sum.inl (c.bit (d.part,v):Int),ea,rfl,rfl⟩;refine⟨_,e5,_,e2,U,_,rfl,d9,_,rfl,?_⟩;rcases ER h8 hk with ⟨z1,z2⟩ | ⟨j0,m0,e,z1,z2,z3,z4⟩
   ·rw[z1];refine fC ⟨_,e0,p,dx,_,rfl,e8,(by kernel_rfl),_,e9,G5,p,ch,le,fl,c,L4,O4,AA,FF,.ref tp,(d.part,v),rfl,a1,b3,r,bv,e1,hk,ec,e6,⟨d,bd,(b7 _ hk rfl).resolve_right (by rintro⟨j0,m0,z⟩;exact z2 j0 m0 z),j2⟩,i2,?_⟩;intro G' H' O' L' j e iv ka d7 j1 h5 b8 fy;refine hq G' H' O' L' j e iv ka d7 j1 h5 (fun x Z=>?_) (fun z=>?_)
    ·exact(b8.2 d bd ((b7 _ hk rfl).resolve_right (by rintro⟨j0,m0,z⟩;exact z2 j0 m0 z)) x Z).imp id .inl
    ·rcases fy z with y | ⟨y,_⟩
     ·exact y
     ·have:=b8.1;rw[y]at this;exact(eg.Ke this).elim
   ·rw[z2]at d9 ⊢;refine gW ⟨_,e2,_,e5,U,_,rfl,d9,?_⟩;obtain⟨X,hX⟩:=a2;have jn:L4[j0]?=some e:=by rw[hX,aI (af.mp z3).1];exact z3
    refine hq G5 H5 O4 L4 j0 e (iy.refl a1.gh) b3 r ⟨[],by simp⟩ jn (fun x Z=>?_) id;by_cases y:x=(d.part,v)
    ·exact .inl y
    ·exact .inr (.inr ⟨_,j0,m0,z1,by rw[←z4];exact Z,y⟩)
  refine key _ _ rfl rfl rfl rfl fun G6 H6 O6 L6 j e D a7 a5 ev cv dc e4=>?_;have dy:=b4.trans D;have kt:=dy.gh.ins (dy.gg.ins hp);have a0:H6 g=some (.lst (gM bs)):=D.keep ad bq fun z=>z;have cd:=D.out ad bq;have cc:=D.off ey bq;have hw:=D.keep eh ez fun z=>z;have hd:=D.out eh ez;have kc:bs.length<64:=by
   have h1:=(af.mp hv).1;have h2:=kZ c.es n;have h3:=M.n;rw[c.n_eq]at h3
   lia
  refine⟨_,rfl,.inl ⟨rfl,_,fb.of a0⟩,_,rfl,g,_,_,rfl,rfl,a0,(by unfold gM;rw[ab];exact eV (by lia)),?_⟩;have aa:∀b,b≠g→upd H6 g (.lst (gM bs++[.int (j:Nat)])) b=H6 b:=fun b hb=>ef hb;have em:upd H6 g (.lst (gM bs++[.int (j:Nat)])) g=some (.lst (gM (bs++[j]))):=by
   rw[d0];unfold gM;rw[av];rfl
  have b2:=dy.own (u:=.lst (gM bs++[.int (j:Nat)])) N cc;generalize upd H6 g (.lst (gM bs++[.int (j:Nat)]))=H7 at *;have f6:gf CL G6 H7 le ch c L6 O6:=a7.grow (eD.refl _) a7.off fun x Z=>aa x fun z=>cd (z▸Z);obtain⟨hm,f9,k7,k4,kv,kf,kj,kw,kx,f4,f8,gt⟩:=id f6.ex;have ih:(L6.map (·.1))[j]?=some e.1:=by rw[ae,cv];rfl
  have g4:=b2.gh.ins (b2.gg.ins hp);refine⟨_,rfl,_,rfl,p,dx,_,V.ref le,rfl,g4,(by kernel_rfl),le,hm,_,V.ref f9,rfl,b2.gh.ins f4,(by kernel_rfl),_,rfl,f9,_,_,_,rfl,rfl,fb.of f8,jX ih,_,rfl,_,rfl,_,_,rfl,rfl,_,_,rfl,rfl,?_⟩;dsimp only;rw[qv,wP,show c.J4 (some (d.part,v))=c.bit (d.part,v) from rfl];have f0:e.1<2^c.n:=a5.lt e (ai cv);have hn:∃X,L6=L++X:=by
   obtain⟨X,hX⟩:=a2;obtain⟨Y,hY⟩:=ev;exact⟨X++Y,by rw[hY,hX,bI]⟩
  have a3:=bv.grow D B;have dl:=yP.grow bv D B;have ag:∀{x C dx fs},H6 x=some (.ins C dx fs)→x≠g:=fun {x C dx fs} h=>fJ h a0 fun z=>nomatch z;have g3:iQ CF CT G6 H7 c fl AA FF:=by
   have hc:fl≠g:=fun z=>by
    have:=D.keep B.1 bv.l fun z=>z;have cn:=hF.l;rw[z,N]at cn;cases cn
   refine⟨by rw[aa fl hc];exact a3.l,?_,a3.offl,a3.off,a3.nd1,a3.nd2⟩;refine Paired.JH a3.p (by rintro x y ⟨⟨d1,z1⟩,d2,w2,z2,z3⟩;exact⟨⟨d1,by rw[aa _ (ag z1)];exact z1⟩,d2,w2,by rw[aa _ (ag z2)];exact z2,z3⟩)
  have ga:U∉O6:=fun z=>by
   rcases D.on U z with y | y
   ·exact ba y
   ·rcases ea with h | ⟨o,h⟩ <;> (rw[y]at h;cases h)
  have hy:Rd H7 U (.dK kvs):=by
   have k6:Rd H6 U (.dK kvs):=D.fr.rd (ea.imp (fun h=>by rw[eE ba];exact h) (by rintro⟨o,h⟩;exact⟨o,by rw[eE ba];exact h⟩));have ek:U≠g:=fun z=>by
    rw[z]at k6;rcases k6 with h | ⟨o,h⟩ <;> (rw[a0]at h;cases h)
   exact k6.imp (fun h=>by rw[aa U ek];exact h) (by rintro⟨o,h⟩;exact⟨o,by rw[aa U ek];exact h⟩)
  refine⟨G6,O6,L6,bs++[j],m ||| ii e.1 (c.bit (d.part,v)),some (.int v),some (.ref tp),some (.int (c.bit (d.part,v):Nat)),some (.int (j:Nat)),rfl,b2,f6,a5,hn,fun z=>e4 (ah z),g3,dl,em,cd,cc,by rw[aa l gb];exact hw,hd,hy,ga,by rw[aE,J];rfl,fun j' b' v' h1 h2=>?_,i6 as (jo f0),fun x Z=>?_,?_⟩
  ·by_cases hjt:j'<bs.length
   ·rw[aI hjt]at h1;obtain⟨e',z1,z2⟩:=cp j' b' v' h1 h2;obtain⟨Y,hY⟩:=ev;refine⟨e',by rw[hY,aI (af.mp z1).1];exact z1,fun x Z=>(z2 x Z).imp id fun z=>eg.Ka.mpr (.inl z)⟩
   ·have h7:j'=bs.length:=by
     have:=(af.mp h1).1;rw[aE,aV]at this
     lia
    subst h7;rw[aU (ao _),bR]at h1;have i0:j=b':=by simpa using h1
    subst i0;rw[J,hv]at h2;cases h2;refine⟨e,cv,fun x Z=>?_⟩;by_cases y:x=(d.part,v)
    ·exact .inl (by rw[gn];exact y)
    ·exact .inr (eg.Ka.mpr (.inr (eg.Kc.mpr ⟨Z,fun z=>y ((eg.Kd hk).mp z)⟩)))
  ·rcases eg.Ka.mp Z with z | z
   ·exact bf x z
   ·obtain⟨z1,z2⟩:=eg.Kc.mp z;exact(dc x z1).resolve_left fun y=>z2 ((eg.Kd hk).mpr y)
  ·cases u with
   |none=>trivial
   |some k=>exact eg.Ka.mpr (.inl da)
 ·rintro σ H4 ⟨G4,O4,L4,bs,m,o8,o9,cz,c0,rfl,gw,a4,r,a2,ah,cy,B,R,ad,a6,e3,eh,co,a9,J,cp,as,bf,da⟩;rw[ab]at J;obtain⟨ha,ma,re,pm,pp,k1,rs,Ol,hO,i1,g6⟩:=id a4.ex;have gx:=gw.gh.ins (gw.gg.ins hp);refine⟨_,rfl,p,dx,_,V.ref le,rfl,gx,(by kernel_rfl),le,ha,_,rfl,gw.gh.ins i1,(by kernel_rfl),_,rfl,_,rfl,_,rfl,_,rfl,(by show 4≤sizeLine;decide),fun t ht=>?_⟩;have i3:g≠t:=eo R ht;have k5:H t=none:=gw.lv t ht;have ky:G4 t=none:=gw.gh.free ht;have ei:iy G H O (upd G4 g (.lst (gM bs))) H4 O4:=gw.base M.gh N R;have a8:=ei.trans (iy.put (u:=.tup [.str ("open" : Str),wv,.int (pl:Nat),.ref g]) ei.gh ht);have b3:gf CL (upd G4 g (.lst (gM bs))) H4 le ch c L4 O4:=a4.grow ((eD.refl _).upd a6) (fun x Z=>by rw[ef (fun z:x=g=>ad (z▸Z))];exact a4.off x Z) fun _ _=>rfl;have a7:=b3.put ei.gh (u:=.tup [.str ("open" : Str),wv,.int (pl:Nat),.ref g]) ht;have hR:mh (upd (upd G4 g (.lst (gM bs))) t (.tup [.str ("open" : Str),wv,.int (pl:Nat),.ref g])) (.ref t) ⟨u,(pl:Nat),.many (bs.map fun b:Nat=>(b:Int))⟩:=by
   refine⟨t,wv,.ref g,rfl,d0,an.f a8.gg,g,rfl,?_⟩;rw[ef i3,d0,cE];rfl
  have hi:=M.chart.f a8.gg;generalize upd (upd G4 g (.lst (gM bs))) t (.tup [.str ("open" : Str),wv,.int (pl:Nat),.ref g])=G6 at *;generalize upd H4 t (.tup [.str ("open" : Str),wv,.int (pl:Nat),.ref g])=H6 at *;refine⟨G6,le,ch,c,L4,O4,m,_,_,rfl,a8.gh,hi,a7,hR,as,M.n,M.sm L4 r,fun j hj=>?_,fun ds H9 O9 g9 it=>?_⟩
  ·obtain⟨e,g5,kb⟩:=qE hj;exact q G6 H6 O4 L4 j e a8 a7 r a2 g5 (by rw[kb];exact bf) fun z=>.inl (ah z)
  ·obtain⟨X,hX⟩:=a2;refine q G6 H9 O9 _ L4.length (m,⟨u,(pl:Nat),.many (bs.map fun b:Nat=>(b:Int))⟩) (a8.trans g9) it (r.add as (et m bf) (nw.mp ds) ?_) ⟨X++[(m,⟨u,(pl:Nat),.many (bs.map fun b:Nat=>(b:Int))⟩)],by rw[hX,bI]⟩ ?_ bf fun h6=>?_
   ·exact xR da ft J cp
   ·rw[aU (ao _),bR];rfl
   ·by_cases b1:m=0
    ·exact .inr ⟨b1,by rw[List.getLast?_append];rfl⟩
    ·refine .inl fun x Z=>?_;rcases az.mp Z with z | z
     ·exact ah h6 x z
     ·rw[aj.mp z];exact b1
end
theorem oK {α:Type}{l:List α}{x:α}(h:l[l.length-1]?=some x):sW l (-1)=some x:=by
 have a:=(af.mp h).1;unfold sW CY;rw[if_neg (by decide)];have:(((-1:Int)+(l.length:Int)).toNat)=l.length-1:=by lia
 first
 |(rw[if_pos (by lia)];simp only[Option.bind_some];rw[this];exact h)
 |(rw[if_pos (by lia)];show l[_]?=some x;rw[show((l.length:Int)+-1).toNat=l.length-1 by lia];exact h)
inductive Dz (CB CC CL CS CF CT:Addr)(vs:List V)(H:Hp)(Q:VK)(E:XK):Prop
 |mk (G:Hp)(p ch le fl:Addr)(c:eg)(L:ij)(O:List Addr)(A:List (Addr×Addr))(F:List Fk)(k:Pk)(j:Nat)(e:Nat×Rs)(_:vs=[.ref p,.int (c.bit k:Nat),.int (j:Nat)])(_:Se CB CC CS G H p ch le fl c)(_:gf CL G H le ch c L O)(_:iQ CF CT G H c fl A F)(_:L[j]?=some e)(_:F.length≤64)(_:∀H',eG (del H (A.map (·.2))) H'→iQ CF CT G H' c fl A (F.map (c.Kv k e.1))→Q .non H'):Dz CB CC CL CS CF CT vs H Q E
def rE (CB CC CL CS CF CT:Addr):Sp:=Dz CB CC CL CS CF CT
theorem BX (a b d w:V):fZ ("dead" : Str) d (yT a b w)=yT a d w:=by kernel_rfl
theorem AF {α:Type}{t i:Nat}(h:¬t=i)(x y:α):(if t<i+1 then x else y)=if t<i then x else y:=by
 by_cases z:t<i
 ·rw[if_pos z,if_pos (by lia)]
 ·rw[if_neg z,if_neg (by lia)]
theorem Gx:(["fork"]:List Str).Nodup:=by decide +kernel
theorem ze {a b dx dy:Addr}{x s t y z w:V}(h1:H a=some (.ins CF dx (ue x s t)))(h2:H b=some (.ins CT dy (yT y z w))):a≠b:=by
 refine fJ h1 h2 fun e=>?_;injection e with _ _ e
 injection e with e _
 injection e with e _
 exact absurd e (by decide +kernel)
section
variable {base:Heap}{f:Addr}
theorem El:eN ["self","bit","place","others","stand"] ["self","bit","place"] (eF zq):=i9
theorem CD (F:iN K "mark_dead" "Search.mark_dead" zq f fd)(T:tw K mg CS)(ah:TL K mg CL)(TT:Df K mg CT)(TF:Bw K mg CF):eZ P w K mg base ff 1 f fd ["self","bit","place"] (rE CB CC CL CS CF CT):=by
 refine F.ok El (fun vs H Q E h=>?_) (fun cdv A outer s H vs Q E hr h=>?_)
 ·obtain⟨G,p,ch,le,fl,c,L,O,m,FF,k,j,e,rfl,_⟩:=h;rfl
 obtain⟨G,p,ch,le,fl,c,L,O,m,FF,k,j,e,rfl,hS,hL,r,hj,a8,q⟩:=h;have hu:=gN hr;refine⟨_,(ee (eK (i:=3) El.nd rfl (Or.inl rfl) (fc hW (eL fh (eJ ah.cl ah.nMa (eJ T.cl T.nLe (pv 0))) (pv 2) (fun _ _=>rfl)) (iP kE (pv 1)))) (eA (fO PassesOwn.never rfl (fD (iq (N':=["fork"]) (n:=1) (js:=[]) rfl (iD.closed (by decide +kernel) (by decide +kernel) rfl (by decide +kernel) rfl) (ig (by decide)) (fD (eJ T.cl T.nFo (pv 0))) (fun C s2 H2 fp=>eM (i:=0) Gx rfl (Or.inl rfl)) (fun C s2 H2 fp=>jz) (fun C s2 H2 fp=>eJ TF.cl TF.nSt (pv 0)))) (eM (i:=4) El.nd rfl (Or.inl rfl)) (eA (fF (fz kz (fc hW (pv 3) (iP kE (eJ TT.cl TT.nPi (pv 4)))) er (fQ _)) (eA (Cj TT.cl TT.nDe (pv 4) (pv 1) AH)) eU))))),?_⟩;obtain⟨dx,hp⟩:=hS.self;have ag:=hS.gh.ins hp;obtain⟨lx,ma,re,pm,pp,a7,rs,Ol,hO,a5,a3,a0⟩:=id hL.ex;have a1:(L.map (·.1))[j]?=some e.1:=by rw[ae,hj];rfl
 have lA:m.length=FF.length:=Paired.length r.p;refine⟨_,rfl,p,dx,_,V.ref le,rfl,ag,(by kernel_rfl),le,lx,_,V.ref ma,rfl,hS.gh.ins a5,(by kernel_rfl),_,rfl,ma,_,_,_,rfl,rfl,fb.of a3,jX a1,_,rfl,_,rfl,_,_,rfl,rfl,?_⟩;dsimp only;rw[qv];refine⟨_,rfl,p,dx,_,V.ref fl,rfl,ag,(by kernel_rfl),fl,rfl,⟨_,fb.of r.l⟩,?_⟩;refine ia (xs:=m.map fun a=>V.ref a.1) (fun D i ys H7=>H7 D=some (.lst ys)∧eG H H7∧H D=none∧ys=(m.take i).map fun a=>V.ref a.2)
  (fun D hD=>⟨d0,eB hD _,hD,by simp⟩) (fun D i ys H7 hi ⟨e1,N,e3,e4⟩=>⟨fb.of (N _ _ r.l),e1,?_⟩) (fun D i y ys H7 hi ⟨e1,N,e3,e4⟩=>?_) (fun D ys H7 ⟨e1,N,e3,e4⟩=>?_)
 ·rw[ab]at hi;rw[e4,ab,aQ];exact eV (by lia)
 ·rw[ae]at hi;obtain⟨a,v,rfl⟩:=au.mp hi;obtain⟨d,J,⟨fx,I⟩,a6⟩:=Paired.J2 r.p v;unfold i8 rj;dsimp only;rw[if_pos rfl];refine⟨_,rfl,a.1,fx,_,V.ref a.2,rfl,N _ _ I,(by kernel_rfl),e1,d0,eG.upd N e3,e3,?_⟩;rw[e4,fE v,av];rfl
 ·rw[ab,aF]at e4;subst e4;refine⟨D,rfl,⟨_,fb.of e1⟩,?_⟩;have a2:∀(t:Nat) (a:Addr×Addr) (d:Fk),m[t]?=some a→FF[t]?=some d→mR CF CT G H c a d:=fun t a d h1 h2=>by
   obtain⟨B,X,z2⟩:=Paired.J2 r.p h1;rw[h2]at X;cases X;exact z2
  have aa:∀{a},a∈m→a.2∈m.map (·.2):=fun h=>be h;have kp:∀{H2:Hp},eG (del H (m.map (·.2))) H2→∀{x u},H x=some u→x∉m.map (·.2)→H2 x=some u:=fun {H2} U {x u} h n=>U _ _ (by rw[eE n];exact h);have R:∀{x},x∈m.map (·.2)→∃dy y z w,H x=some (.ins CT dy (yT y z w)):=fun {x} hx=>by
   obtain⟨a,v,rfl⟩:=aA.mp hx;obtain⟨t,M⟩:=ax.mp v;obtain⟨d,_,_,sx,wa,o,_⟩:=Paired.J2 r.p M;exact⟨_,_,_,_,o⟩
  have nD:D∉m.map (·.2):=fun z=>by obtain⟨_,_,_,_,h⟩:=R z;rw[e3]at h;cases h
  refine fU (K:=K) (a:=D) (xs:=m.map fun a=>V.ref a.2) (fun i σ H2=>∃o4,σ=[some (.ref p),some (.int (c.bit k:Nat)),some (.int (j:Nat)),some (.int (ii e.1 (c.bit k):Nat)),o4]∧eG (del H (m.map (·.2))) H2∧H2 D=some (.lst (m.map fun a=>V.ref a.2))∧∀(t:Nat) (a:Addr×Addr) (d:Fk),m[t]?=some a→FF[t]?=some d→mR CF CT G H2 c a (if t<i then c.Kv k e.1 d else d))
   ⟨none,rfl,(fm _ _).trans N,e1,fun t a d h1 h2=>by rw[if_neg (ce _)];obtain⟨⟨d1,X⟩,d2,w2,z2,z3⟩:=a2 t a d h1 h2;exact⟨⟨d1,N _ _ X⟩,d2,w2,N _ _ z2,z3⟩⟩ ((by rintro i σ H2 _ ⟨_,_,_,e,_⟩;exact fb.of e)) ?_ ?_
  ·rintro i x σ H2 hi ⟨o4,rfl,U,Y,g⟩;rw[ae]at hi;obtain⟨a,v,rfl⟩:=au.mp hi;obtain⟨d,J,_⟩:=Paired.J2 r.p v;have S:=g i a d v J;rw[if_neg (cG _)]at S;obtain⟨⟨fx,I⟩,sx,wa,o,a4⟩:=S;refine⟨_,rfl,_,rfl,a.2,sx,_,V.int (d.sd.picked:Nat),rfl,o,(by kernel_rfl),_,rfl,_,_,rfl,rfl,rfl,_,rfl,?_⟩;have ad:decide (V.int (Builtin.bitAnd ((ii e.1 (c.bit k):Nat):Int) (Builtin.bitNot (d.sd.picked:Nat)))=V.int 0)=decide (ii (ii e.1 (c.bit k)) d.sd.picked=0):=by
    rw[qv];exact sS (b:=0)
   dsimp only;rw[ad];by_cases hd:ii (ii e.1 (c.bit k)) d.sd.picked=0
   ·rw[aq hd];refine gW ⟨_,rfl,a.2,sx,_,V.int (d.sd.dead:Nat),rfl,o,(by kernel_rfl),_,rfl,_,_,rfl,rfl,sx,_,o,(by show 3<1000;decide),?_⟩;dsimp only;rw[wP,BX];refine⟨_,rfl,fun b u hb=>?_,?_,fun t a' B h1 h2=>?_⟩
    ·have nb:b≠a.2:=fun z=>by rw[z,fH (aa (ai v))]at hb;cases hb
     rw[ef nb];exact U _ _ hb
    ·rw[ef (fun z:D=a.2=>nD (z▸aa (ai v)))];exact Y
    ·by_cases M:t=i
     ·subst M;rw[v]at h1;rw[J]at h2;cases h1;cases h2;rw[if_pos (df _)];refine⟨⟨fx,by rw[ef (ze I o)];exact I⟩,sx,wa,?_,?_⟩
      ·rw[d0];show _=some (HO.ins CT sx (yT (.int ((c.Ku k e.1 d.sd).picked:Nat)) (.int ((c.Ku k e.1 d.sd).dead:Nat)) (.ref wa)));unfold eg.Ku;rw[if_pos hd]
      ·show vW G wa (c.Ku k e.1 d.sd).wanted;rw[eg.Kx];exact a4
     ·have al:=g t a' B h1 h2;rw[AF M];obtain⟨⟨d1,X⟩,d2,w2,z2,z3⟩:=al;have na:a'.2≠a.2:=fun z=>by
       have Z:(m.map (·.2))[t]?=some a'.2:=by rw[ae,h1];rfl
       have an:(m.map (·.2))[i]?=some a.2:=by rw[ae,v];rfl
       rw[z]at Z;exact M ((cm (af.mp Z).1 r.nd2).mp (Z.trans an.symm))
      exact⟨⟨d1,by rw[ef (ze X o)];exact X⟩,d2,w2,by rw[ef na];exact z2,z3⟩
   ·rw[ar hd];refine fC ⟨_,rfl,U,Y,fun t a' B h1 h2=>?_⟩;by_cases M:t=i
    ·subst M;have:=g t a' B h1 h2;rw[J]at h2;cases h2;rw[if_neg (cG _)]at this;rw[if_pos (df _)];have eb:c.Kv k e.1 d=d:=by
      unfold eg.Kv eg.Ku;rw[if_neg hd]
     rw[eb];exact this
    ·rw[AF M];exact g t a' B h1 h2
  ·rintro σ H2 ⟨o4,rfl,U,Y,g⟩;refine q H2 U ⟨?_,?_,r.offl,r.off,r.nd1,r.nd2⟩
   ·refine kp U r.l fun z=>?_;obtain⟨_,_,_,_,h⟩:=R z;rw[r.l]at h;cases h
   ·refine jW (by rw[ab];exact lA) fun t a d h1 h2=>?_;rw[ae]at h2;obtain⟨as,h3,rfl⟩:=au.mp h2;have:=g t a as h1 h3;rw[if_pos (by rw[ab];exact(af.mp h1).1)]at this;exact this
end
inductive xh (CB CC CL CS CF CT:Addr)(vs:List V)(H:Hp)(Q:VK)(E:XK):Prop
 |mk (G:Hp)(p ch le fl:Addr)(c:eg)(L:ij)(O:List Addr)(A:List (Addr×Addr))(F:List Fk)(j:Nat)(e:Nat×Rs)(_:vs=[.ref p,.int (j:Nat)])(_:Se CB CC CS G H p ch le fl c)(_:gf CL G H le ch c L O)(_:iQ CF CT G H c fl A F)(_:yP O fl A)(_:L[j]?=some e)(_:F.length≤64)(_:(∀f∈F,∀k,f.bit=some k→k∈c.ks))(_:∀(n:Nat) (H':Hp),n≤F.length→(F.take n).reverse=F.reverse.dropWhile (fun f=>!c.stop e.1 f)→eG (del H (fl::A.map (·.2))) H'→iQ CF CT G H' c fl (A.take n) (c.Lm e.1 (F.take n))→Q .non H'):xh CB CC CL CS CF CT vs H Q E
def pe (CB CC CL CS CF CT:Addr):Sp:=xh CB CC CL CS CF CT
theorem tL {α:Type}{l:List α}{n:Nat}{x:α}(h:l[n]?=some x):(l.take (n+1)).reverse=x::(l.take n).reverse:=by
 rw[fE h,cH];rfl
theorem pO {α β:Type}{R:α→β→Prop}:∀{as:List α} {bs:List β} (n:Nat),Paired R as bs→Paired R (as.take n) (bs.take n)
 |_,_,0,_=>.nil
 |_,_,_+1,.nil=>.nil
 |_,_,n+1,.cons h r=>.cons h (pO n r)
theorem zc {c:eg}{f:Fk}(a:∀k,f.bit=some k→k∈c.ks):(((c.J4 f.bit &&& m:Nat):Int) != 0)=c.stop m f:=by
 unfold eg.stop;cases h:f.bit with
 |none=>
  show(((0 &&& m:Nat):Int) != 0)=false;rw[Nat.zero_and];rfl
 |some k=>
  show(((c.bit k &&& m:Nat):Int) != 0)=decide (c.has m k);rw[Nat.and_comm,jJ (a k h)]
section
variable {base:Heap}{f:Addr}
theorem Ga:eN ["self","place","mask"] ["self","place"] (eF sj):=i9
theorem yb (F:iN K "go_back" "Search.go_back" sj f fd)(T:tw K mg CS)(ah:TL K mg CL)(TF:Bw K mg CF)(MM:Mt P w K mg base CS ff 1 "mark_dead" ["self","bit","place"] (rE CB CC CL CS CF CT)):eZ P w K mg base ff 2 f fd ["self","place"] (pe CB CC CL CS CF CT):=by
 refine F.ok Ga (fun vs H Q E h=>?_) (fun cdv A outer s H vs Q E hr h=>?_)
 ·obtain⟨G,p,ch,S,fl,c,L,O,t,J,j,e,rfl,_⟩:=h;rfl
 obtain⟨G,p,ch,S,fl,c,L,O,t,J,j,e,rfl,hS,hL,B,ag,hj,a9,Z,q⟩:=h;have hu:=gN hr;refine⟨_,(ee (eK (i:=2) Ga.nd rfl (Or.inl rfl) (eL fh (eJ ah.cl ah.nMa (eJ T.cl T.nLe (pv 0))) (pv 1) (fun _ _=>rfl))) (ee (kO PassesOwn.never (PW.pt (kM (iz (eJ T.cl T.nFo (pv 0)) (fun _=>rfl)) (jy (gO (u7 (fc hW (eJ TF.cl TF.nBi (eL fh (eJ T.cl T.nFo (pv 0)) (iP jN er) (fun _ _=>rfl))) (pv 2)) (fun _=>rfl)))))) (eA (gq (Ez PySem.F.plainAttrs_list PySem.F.slot_list_pop PySem.F.type_list_pop EK (eJ T.cl T.nFo (pv 0)))))) (eA (fF (iz (eJ T.cl T.nFo (pv 0)) (fun _=>rfl)) (eA (gq (ib MM hr eT (pv 0) (dZ (eJ TF.cl TF.nBi (eL fh (eJ T.cl T.nFo (pv 0)) (iP jN er) (fun _ _=>rfl))) (dZ (pv 1) el))))) eU)))),?_⟩;obtain⟨dx,hp⟩:=hS.self;have U:=hS.gh.ins hp;obtain⟨lx,ma,re,pm,pp,a8,rs,Ol,hO,a5,a3,a0⟩:=id hL.ex;have a2:(L.map (·.1))[j]?=some e.1:=by rw[ae,hj];rfl
 have lA:t.length=J.length:=Paired.length B.p;have a1:p≠fl:=fJ U B.l fun z=>nomatch z;refine⟨_,rfl,p,dx,_,V.ref S,rfl,U,(by kernel_rfl),S,lx,_,V.ref ma,rfl,hS.gh.ins a5,(by kernel_rfl),_,rfl,ma,_,_,_,rfl,rfl,fb.of a3,jX a2,?_⟩;have C:∀{n:Nat} {H2:Hp},H2 fl=some (.lst ((t.take n).map fun a=>V.ref a.1))→(∀b,b≠fl→H2 b=H b)→iQ CF CT G H2 c fl (t.take n) (J.take n):=fun {n H2} h1 h2=>by
  refine⟨h1,Paired.JH (pO n B.p) fun x y ⟨⟨d1,z1⟩,d2,w2,z2,z3⟩=>⟨⟨d1,?_⟩,d2,w2,?_,z3⟩,B.offl,fun a ha=>B.off a (cY ha),?_,?_⟩
  ·rw[h2 _ (fJ z1 B.l fun z=>nomatch z)];exact z1
  ·rw[h2 _ (fJ z2 B.l fun z=>nomatch z)];exact z2
  ·rw[cJ];exact B.nd1.sublist (dY _ _)
  ·rw[cJ];exact B.nd2.sublist (dY _ _)
 refine⟨fun m σ H2=>m≤J.length∧J.reverse.dropWhile (fun f=>!c.stop e.1 f)=(J.take m).reverse.dropWhile (fun f=>!c.stop e.1 f)∧σ=[some (.ref p),some (.int (j:Nat)),some (.int (e.1:Nat))]∧H2 fl=some (.lst ((t.take m).map fun a=>V.ref a.1))∧∀b,b≠fl→H2 b=H b,⟨J.length,ao _,by rw[aF],rfl,by rw[←lA,aF];exact B.l,fun _ _=>rfl⟩,?_⟩;rintro n σ H2 ⟨hn,v,rfl,d,g⟩;have r:H2 p=some (.ins CS dx (xH ch S fl)):=by rw[g p a1];exact U
 refine⟨_,rfl,p,dx,_,V.ref fl,rfl,r,(by kernel_rfl),_,.inl ⟨_,fb.of d,rfl⟩,?_⟩;cases n with
 |zero=>
  refine fC (fC ?_);refine⟨_,rfl,p,dx,_,V.ref fl,rfl,r,(by kernel_rfl),_,.inl ⟨_,fb.of d,rfl⟩,fC ?_⟩;refine q 0 H2 (bp _) (by rw[v];rfl) (fun b u o=>?_) (C d g);have N:b≠fl:=fun z=>by rw[z,fH (by simp)]at o;cases o
  rw[g b N];exact fm _ _ b u o
 |succ n=>
  obtain⟨a,ha⟩:∃a,t[n]?=some a:=⟨t[n]'(by lia),ak _⟩;obtain⟨I,M,⟨fx,aa⟩,a7⟩:=Paired.J2 B.p ha;have X:((t.take (n+1)).map fun a=>V.ref a.1)=((t.take n).map fun a=>V.ref a.1)++[.ref a.1]:=by rw[fE ha,av];rfl
  have Y:(((t.take (n+1)).map fun a=>V.ref a.1))[((t.take (n+1)).map fun a=>V.ref a.1).length-1]?=some (.ref a.1):=by
   rw[X,aE,aV,dO,aU (ao _),bR];rfl
  have ad:(!((t.take (n+1)).map fun a=>V.ref a.1).isEmpty)=true:=by rw[X];simp
  have D:H2 a.1=some (.ins CF fx (ue (.str I.part) (.ref a.2) (.int (c.J4 I.bit:Nat)))):=by rw[g a.1 (fJ aa B.l fun z=>nomatch z)];exact aa
  rw[ad];refine gW ?_;refine⟨_,rfl,p,dx,_,V.ref fl,rfl,r,(by kernel_rfl),_,rfl,fl,_,_,V.ref a.1,rfl,rfl,fb.of d,oK Y,a.1,fx,_,V.int (c.J4 I.bit:Nat),rfl,D,(by kernel_rfl),_,rfl,_,_,rfl,rfl,_,rfl,?_⟩;dsimp only;rw[nL,zc (Z I (ai M))];rw[tL M]at v;by_cases hst2:c.stop e.1 I=true
  ·rw[hst2];refine fC ?_;rw[List.dropWhile_cons,if_neg (by rw[hst2];decide)]at v;refine⟨_,rfl,p,dx,_,V.ref fl,rfl,r,(by kernel_rfl),_,.inl ⟨_,fb.of d,rfl⟩,?_⟩;rw[ad];refine gW ?_;obtain⟨k,hk⟩:∃k,I.bit=some k:=by
    unfold eg.stop at hst2;cases h:I.bit with
    |none=>rw[h]at hst2;cases hst2
    |some k=>exact⟨k,rfl⟩
   have as:Se CB CC CS G H2 p ch S fl c:=hS.grow (eD.refl _) (fun b u o=>by
    have N:b≠fl:=fun z=>by rw[z,B.offl]at o;cases o
    rw[g b N];exact hS.gh b u o)
   have a6:gf CL G H2 S ch c L O:=hL.grow (eD.refl _) hL.off fun b o=>g b fun z=>ag.1 (z▸o);have a4:c.J4 I.bit=c.bit k:=by rw[hk];rfl
   have al:=C d g;rw[a4]at D;refine⟨_,rfl,p,dx,_,rfl,r,(by kernel_rfl),_,rfl,p,dx,_,V.ref fl,rfl,r,(by kernel_rfl),_,rfl,fl,_,_,V.ref a.1,rfl,rfl,fb.of d,oK Y,a.1,fx,_,V.int (c.bit k:Nat),rfl,D,(by kernel_rfl),_,rfl,G,p,ch,S,fl,c,L,O,t.take (n+1),J.take (n+1),k,j,e,rfl,as,a6,al,hj,by rw[aQ];lia,fun H3 s3 an=>?_⟩;refine q (n+1) H3 hn (by rw[tL M,v]) (fun b u o=>?_) ?_
   ·have N:b∉fl::t.map (·.2):=fun z=>by rw[fH z]at o;cases o
    rw[eE N]at o;simp only[am,not_or]at N;refine s3 b u ?_
    rw[eE (fun z=>N.2 (by
     rw[cJ]at z
     exact cY z)),g b N.1]
    exact o
   ·have:c.Lm e.1 (J.take (n+1))=(J.take (n+1)).map (c.Kv k e.1):=by
     unfold eg.Lm;rw[fE M,List.getLast?_append];simp only[List.getLast?_singleton,Option.some_or];rw[hk]
    rw[this];exact an
  ·have R:c.stop e.1 I=false:=by cases h:c.stop e.1 I <;> simp_all
   rw[R];refine gW ⟨fun σ' H'=>∃m',m'<n+1∧_,fun _ _ h=>h,?_⟩;rw[List.dropWhile_cons,if_pos (by rw[R];rfl)]at v;refine⟨_,rfl,p,dx,_,V.ref fl,rfl,r,(by kernel_rfl),.inl ⟨rfl,_,fb.of d⟩,fl,_,_,rfl,rfl,d,Y,?_⟩;refine⟨n,df _,by lia,v,rfl,?_,fun b o=>?_⟩
   ·rw[d0,X,List.dropLast_concat]
   ·rw[ef o];exact g b o
end
def Fe (CT:Addr)(G H:Hp)(O:List Addr)(sd:Sd→Prop)(Q:VK):Prop:=
 ∀(G' H':Hp) (s:Addr) (d:Sd),iy G H O G' H' O→H s=none→G' s=none→lI CT G' H' s d→sd d→(∀a∈O,H' a=H a)→Q (.ref s) H'
inductive xk (CB CC CL CS CF CT:Addr)(vs:List V)(H:Hp)(Q:VK)(E:XK):Prop
 |mk (G:Hp)(p ch le fl:Addr)(c:eg)(L:ij)(O:List Addr)(a:Addr×Addr)(fk:Fk)(k:Pk)(_:vs=[.ref p,.ref a.1])(_:Se CB CC CS G H p ch le fl c)(_:gf CL G H le ch c L O)(_:gY c L)(_:mR CF CT G H c a fk)(_:fk.bit=some k)(_:j5 c fk)(_:iC c L fk.sd)(_:¬c.has fk.sd.dead k)(_:Fe CT G H O (fun d=>iC c L d∧c.Ks fk d) Q):xk CB CC CL CS CF CT vs H Q E
def pi (CB CC CL CS CF CT:Addr):Sp:=xk CB CC CL CS CF CT
inductive uy (CB CC CL CS CT:Addr)(vs:List V)(H:Hp)(Q:VK)(E:XK):Prop
 |mk (G:Hp)(p ch le fl:Addr)(c:eg)(O:List Addr)(_:vs=[.ref p])(_:Se CB CC CS G H p ch le fl c)(_:(∀a∈O,∃u,H a=some u))(_:(∀a∈O,G a=none))(_:∀(G' H':Hp) (s:Addr) (d:Sd),iy G H O G' H' O→H s=none→G' s=none→lI CT G' H' s d→(∀L,iC c L d)→d.picked=0→(∀a∈O,H' a=H a)→Q (.ref s) H'):uy CB CC CL CS CT vs H Q E
def ng (CB CC CL CS CT:Addr):Sp:=uy CB CC CL CS CT
theorem made {x dx C:Addr}(h1:H x=none)(h2:H dx=none)(n:dx≠x):eG H (upd (upd H dx (.own x)) x (.ins C dx [])):=(eB h2 _).trans (eB (by rw[ef (Ne.symm n)];exact h1) _)
section
variable {base:Heap}{f:Addr}
theorem zm:eN ["self","fork","pick","picked","dead","wanted"] ["self","fork"] (eF sq):=i9
theorem ye (F:iN K "stand_behind" "Search.stand_behind" sq f fd)(T:tw K mg CS)(N:TC K mg CC)(TT:Df K mg CT)(t:Bw K mg CF)(MB:Mt P w K mg base CL ff 1 "barred_with" ["self","pick","picked"] (pj CB CC CL))(MW:Mt P w K mg base CS ff 2 "wanted_by" ["self","wanted","who","picked"] (mn CB CC CS))(MS:xo P w K mg base CT ff 1 "Stand" ["self","picked","dead","wanted"] (mo CT)):eZ P w K mg base ff 3 f fd ["self","fork"] (pi CB CC CL CS CF CT):=by
 refine F.ok zm (fun vs H Q E h=>?_) (fun cdv A outer s H vs Q E hr h=>?_)
 ·obtain⟨G,p,ch,le,fl,c,L,O,a,b,k,rfl,_⟩:=h;rfl
 obtain⟨G,p,ch,le,fl,c,L,O,a,b,k,rfl,d,hL,a8,b9,v,D,I,Z,q⟩:=h;have hu:=gN hr;refine⟨_,(ee (eK (i:=2) zm.nd rfl (Or.inl rfl) (hU hu (eJ N.cl N.nBy (eJ T.cl T.nCh (pv 0))) (eJ t.cl t.nBi (pv 1)) (fun _ _=>rfl))) (ee (eK (i:=3) zm.nd rfl (Or.inl rfl) (fc qK (eJ TT.cl TT.nPi (eJ t.cl t.nSt (pv 1))) (eJ t.cl t.nBi (pv 1)))) (ee (eK (i:=4) zm.nd rfl (Or.inl rfl) (fc qK (fc qK (eJ TT.cl TT.nDe (eJ t.cl t.nSt (pv 1))) (fe hu (eJ N.cl N.nFo (eJ T.cl T.nCh (pv 0))) (pv 2) (fun _ _=>rfl))) (ib MB (hr.mono (by decide)) eT (eJ T.cl T.nLe (pv 0)) (dZ (pv 2) (dZ (pv 3) el))))) (ee (eK (i:=5) zm.nd rfl (Or.inl rfl) (ib MW hr eT (pv 0) (dZ (eJ TT.cl TT.nWa (eJ t.cl t.nSt (pv 1))) (dZ (pv 2) (dZ (pv 3) el))))) (ee (gq (zR (pv 5) (eJ t.cl t.nPa (pv 1)) ⟨rfl,rfl,rfl,rfl⟩)) (eA (eP (pM MS (hr.mono (by decide)) rfl eT (dZ (pv 3) (dZ (pv 4) (dZ (zP (pv 5)) el))))))))))),?_⟩;obtain⟨dx,hp⟩:=d.self;have J:=d.gh.ins hp;obtain⟨⟨fx,r⟩,sx,wa,ad,wo,a2,cv,cy⟩:=b9;obtain⟨hk,bv,_⟩:=D.bit k v;have cx:c.J4 b.bit=c.bit k:=by rw[v];rfl
 rw[cx]at r;obtain⟨gx,gb,cn,as,c3,c4,c1,a5,cz,d1,d2,d3,d4,⟨b8,cc,a7⟩,d6,d7,d8,d9⟩:=d.chart.ex;obtain⟨X,a4,B⟩:=a7 k hk;refine⟨_,rfl,p,dx,_,V.ref ch,rfl,J,(by kernel_rfl),ch,gx,_,V.ref as,rfl,d.gh.ins d1,(by kernel_rfl),_,rfl,a.1,fx,_,V.int (c.bit k:Nat),rfl,r,(by kernel_rfl),as,X,rfl,.inl ⟨b8,Sum.inl (c.bit k:Int),d.gh.rd cc,rfl,a4.symm⟩,?_⟩;refine⟨_,rfl,a.1,fx,_,V.ref a.2,rfl,r,(by kernel_rfl),a.2,sx,_,V.int (b.sd.picked:Nat),rfl,ad,(by kernel_rfl),_,rfl,a.1,fx,_,V.int (c.bit k:Nat),rfl,r,(by kernel_rfl),_,_,rfl,rfl,?_⟩;dsimp only;rw[wP];obtain⟨lx,ma,re,pm,pp,c2,rs,Ol,hO,b5,bq⟩:=id hL.ex;refine⟨_,rfl,a.1,fx,_,V.ref a.2,rfl,r,(by kernel_rfl),a.2,sx,_,V.int (b.sd.dead:Nat),rfl,ad,(by kernel_rfl),_,rfl,p,dx,_,V.ref ch,rfl,J,(by kernel_rfl),ch,gx,_,V.ref a5,rfl,d.gh.ins d1,(by kernel_rfl),_,rfl,a5,_,rfl,(d9.f d.gh).get (w:=some k) (gs hk) (fg.f d.gh B),_,_,rfl,rfl,?_⟩;dsimp only;rw[wP];refine⟨_,rfl,p,dx,_,V.ref le,rfl,J,(by kernel_rfl),le,lx,_,rfl,d.gh.ins b5,(by kernel_rfl),_,rfl,_,rfl,G,le,ch,c,L,O,X,k,b.sd.picked ||| c.bit k,rfl,d.gh,d.chart,hL,fg.f d.gh B,hk,fun H1 s1=>?_⟩;refine⟨_,_,rfl,rfl,?_⟩;skip;rw[wP];have bf:=s1 _ _ J;have U:=s1 _ _ r;have a1:=s1 _ _ ad;have cd:=I.K6 d.nds d.n;refine⟨_,rfl,p,dx,_,rfl,bf,(by kernel_rfl),_,rfl,a.1,fx,_,V.ref a.2,rfl,U,(by kernel_rfl),a.2,sx,_,V.ref wa,rfl,a1,(by kernel_rfl),_,rfl,_,rfl,G,p,ch,le,fl,wa,c,a2,b.sd.wanted,X,some k,b.sd.picked ||| c.bit k,rfl,d.same s1,.inr ⟨wo,s1 _ _ (d.gh.frz cv)⟩,cy,cd,fun x u hx=>?_,gs hk,B,fun m H2 kvs g s2 b3 al a3 a6=>?_⟩
 ·obtain⟨_,z2,z3⟩:=I.w1 x u hx;exact⟨fun k e=>by subst e;exact z2.1,iV.mpr z3⟩
 have an:=s2 _ _ U;have ct:b.part∈g.map (·.1):=by
  obtain⟨E,e1,_⟩:=a6;rw[e1];exact aO _ D.open_
 obtain⟨v0,u0,cp,_,_⟩:=ot a3 ct;refine⟨_,rfl,m,rfl,.inl ⟨_,.inl al⟩,_,rfl,a.1,fx,_,V.str b.part,rfl,an,(by kernel_rfl),kvs,Sum.inr b.part,v0,al,rfl,cp,?_⟩;refine⟨_,rfl,_,rfl,_,rfl,m,_,rfl,d0,trivial,fun R=>?_⟩;rw[iK];have ag:=s1.trans s2;have c0:eD G H2:=d.gh.trans ag.toF;have o:H m=none:=s1.free b3;have ah:G m=none:=d.gh.free o;have bx:=iy.same (O:=O) d.gh ag;have co:=bx.own (u:=.frz R (.dK (jG kvs (Sum.inr b.part)))) o ah;have b2:upd H2 m (.frz R (.dK (jG kvs (Sum.inr b.part)))) m=some (.frz R (.dK (jG kvs (Sum.inr b.part)))):=d0;have M:=co.base d.gh o b2;have b1:vW (upd G m (.frz R (.dK (jG kvs (Sum.inr b.part))))) m (g.filter fun xu=>!decide (xu.1=b.part)):=⟨R,_,d0,Paired.JH (v7 a3) fun _ _ z=>z.f ((eD.refl G).upd ah)⟩;have b6:∀y∈O,upd H2 m (.frz R (.dK (jG kvs (Sum.inr b.part)))) y=H y:=fun y hy=>by
  obtain⟨u,l⟩:=hL.liv y hy;rw[ef (fun z:y=m=>by rw[z,o]at l;cases l),ag _ _ l,l]
 generalize upd G m (.frz R (.dK (jG kvs (Sum.inr b.part))))=G4 at *;generalize upd H2 m (.frz R (.dK (jG kvs (Sum.inr b.part))))=H4 at *;intro x S hx ba a9;have sm:=made (C:=CT) hx ba a9;have bm:upd (upd H4 S (.own x)) x (.ins CT S []) x=some (.ins CT S []):=d0;have b4:=M.trans (iy.same (O:=O) M.gh sm);generalize upd (upd H4 S (.own x)) x (.ins CT S [])=H5 at *;have aa:H x=none:=M.lv x hx;have a0:G4 x=none:=M.gh.free hx;refine⟨x,S,_,_,_,rfl,bm,rfl,?_⟩;have bd:=b4.own (u:=.ins CT S (yT (.int ((b.sd.picked ||| c.bit k:Nat):Int)) (.int ((b.sd.dead ||| c.KO (some k) ||| c.KI L k (b.sd.picked ||| c.bit k):Nat):Int)) (.ref m))) aa a0;obtain⟨b7,bl⟩:=yL (k:=k) (p:=b.sd.picked ||| c.bit k) a8;refine q G4 _ x ⟨b.sd.picked ||| c.bit k,b.sd.dead ||| c.KO (some k) ||| c.KI L k (b.sd.picked ||| c.bit k),g.filter fun xu=>!decide (xu.1=b.part)⟩ bd aa a0 ⟨S,m,d0,b1⟩ ⟨?_,k,v,rfl,fun j Y=>eg.Ka.mpr (.inl (eg.Ka.mpr (.inl Y)))⟩ (fun y hy=>?_)
 rotate_left
 ·obtain⟨u,l⟩:=hL.liv y hy;have h6:=(b6 y hy).trans l;rw[ef (fun z:y=x=>by rw[z,aa]at l;cases l),sm _ _ h6,l]
 refine zd I D hk bv Z (i6 (i6 I.dl (c.KS _)) b7) (fun j Y=>eg.Ka.mpr (.inl (eg.Ka.mpr (.inl Y)))) (fun j Y hf=>eg.Ka.mpr (.inl (eg.Ka.mpr (.inr (eg.KR.mpr ⟨Y,hf⟩))))) (fun j Y=>?_) a6;rcases eg.Ka.mp Y with z | z
 ·rcases eg.Ka.mp z with y | y
  ·exact .inl y
  ·exact .inr (.inl (eg.KR.mp y).2)
 ·exact .inr (.inr (bl j z))
end
theorem iy.Lr (h:eD G H)(e:eD H H'):iy G H O G H' O:=⟨eD.refl _,h.trans e,fun a e n=>absurd e n,fun a h=>.inl h,(fm _ _).toF.trans e,fun _ h=>e.free h⟩
def eg.Ls (c:eg)(ws:List (Option Pk)):Nat:=c.KO none ||| c.maskOf fun j=>decide (some j∈ws)&&(c.KJ (some j) j)
theorem eg.Lu (c:eg):c.Ls []=c.KO none:=by
 unfold eg.Ls;have:c.maskOf (fun j=>decide (some j∈([]:List (Option Pk)))&&(c.KJ (some j) j))=0:=eg.Kg (c.Kl _) fun k h=>by
  have:=(eg.Kk.mp h).2;simp at this
 rw[this,Nat.or_zero]
theorem pZ {c:eg}{k:Pk}:c.foe k k↔c.Km (some k) k:=⟨fun h=>h.elim id id,.inl⟩
theorem eg.Lv {c:eg}{ws:List (Option Pk)}{w:Option Pk}(b:c.Who w):c.Ls (ws++[w])=c.Ls ws ||| (c.KO w &&& c.J4 w):=by
 refine eg.ext (i6 (c.KS _) (c.Kl _)) (i6 (i6 (c.KS _) (c.Kl _)) (nM (c.KS _))) fun j=>?_;unfold eg.Ls;simp only[eg.Ka,eg.Kb,eg.Kk,aB,aw,az,aj,eg.KW b,eg.KK]
 constructor
 ·rintro(h | ⟨h1,h2 | h2,a⟩)
  ·exact .inl (.inl h)
  ·exact .inl (.inr ⟨h1,h2,a⟩)
  ·rw[←h2];exact .inr ⟨eg.KR.mpr ⟨h1,pZ.mpr a⟩,rfl⟩
 ·rintro((h | ⟨h1,h2,a⟩) | ⟨h1,h2⟩)
  ·exact .inl h
  ·exact .inr ⟨h1,.inl h2,a⟩
  ·rw[h2]at h1;obtain⟨a,d⟩:=eg.KR.mp h1;exact .inr ⟨a,.inr h2.symm,pZ.mp d⟩
theorem eg.Lx {c:eg}{ws:List (Option Pk)}(h:∀k∈c.ks,some k∈ws){k:Pk}:c.has (c.Ls ws) k↔k∈c.ks∧(c.Km none k∨c.foe k k):=by
 unfold eg.Ls;rw[eg.Ka,show c.KO none=c.KN none from rfl,eg.KQ,eg.Kk,aB,aw,eg.KK,pZ]
 constructor
 ·rintro(⟨h1,h2⟩ | ⟨h1,_,h2⟩)
  ·exact⟨h1,.inl h2⟩
  ·exact⟨h1,.inr h2⟩
 ·rintro⟨h1,h2 | h2⟩
  ·exact .inl ⟨h1,h2⟩
  ·exact .inr ⟨h1,h k h1,h2⟩
section
variable {base:Heap}{f:Addr}
theorem Cd:eN ["self","dead","pick"] ["self"] (eF pB):=i9
theorem vm (F:iN K "opening" "Search.opening" pB f fd)(T:tw K mg CS)(j:TC K mg CC)(MW:Mt P w K mg base CS ff 2 "wanted_by" ["self","wanted","who","picked"] (mn CB CC CS))(MS:xo P w K mg base CT ff 1 "Stand" ["self","picked","dead","wanted"] (mo CT)):eZ P w K mg base ff 3 f fd ["self"] (ng CB CC CL CS CT):=by
 refine F.ok Cd (fun vs H Q E h=>?_) (fun cdv A outer s H vs Q E hr h=>?_)
 ·obtain⟨G,p,ch,le,fl,c,O,rfl,_⟩:=h;rfl
 obtain⟨G,p,ch,le,fl,c,O,rfl,r,M,ah,q⟩:=h;have hu:=gN hr;refine⟨_,(ee (eK (i:=1) Cd.nd rfl (Or.inl rfl) (fe hu (eJ j.cl j.nFo (eJ T.cl T.nCh (pv 0))) iR (fun _ _=>rfl))) (ee (fO PassesOwn.never rfl (sv (eJ j.cl j.nFo (eJ T.cl T.nCh (pv 0)))) (eM (i:=2) Cd.nd rfl (Or.inl rfl)) (eA (j7 (i:=1) Cd.nd rfl (Or.inl rfl) (fc hW (fe hu (eJ j.cl j.nFo (eJ T.cl T.nCh (pv 0))) (pv 2) (fun _ _=>rfl)) (fe hu (eJ j.cl j.nBits (eJ T.cl T.nCh (pv 0))) (pv 2) (fun _ _=>rfl))) t8))) (eA (eP (pM MS (hr.mono (by decide)) rfl eT (dZ er (dZ (pv 1) (dZ (zP (ib MW hr eT (pv 0) (dZ iA (dZ iR (dZ er el))))) el)))))))),?_⟩;obtain⟨dx,hp⟩:=r.self;have ag:=r.gh.ins hp;obtain⟨gx,gb,t,cc,cd,b9,b8,d,b7,d1,d2,d3,d4,d5,d6,d7,d8,B,U,a0,a1⟩:=r.chart.ex;have d9:j3 G d c c.KO:=⟨B,U,a0,a1⟩;refine⟨_,rfl,p,dx,_,V.ref ch,rfl,ag,(by kernel_rfl),ch,gx,_,V.ref d,rfl,r.gh.ins d1,(by kernel_rfl),d,_,rfl,(d9.f r.gh).get (w:=none) iX rfl,?_⟩;refine⟨_,rfl,p,dx,_,V.ref ch,rfl,ag,(by kernel_rfl),ch,gx,_,V.ref d,rfl,r.gh.ins d1,(by kernel_rfl),d,B,rfl,r.gh.rd U,fun o H1 sf as b6=>?_⟩;have g1:eD G H1:=r.gh.trans sf;have N:=g1.ins hp;have ad:=g1.ins d1;obtain⟨ws,R,ba⟩:=rh a0;have lw:B.length=ws.length:=by
  have:=congrArg List.length R;rw[ab,ab]at this;exact this
 refine vI (kvs:=B) (fun i σ H2=>∃o2,σ=[some (.ref p),some (.int (c.Ls (ws.take i):Nat)),o2]∧H2=H1) ⟨none,by rw[cZ,eg.Lu];rfl,rfl⟩ (fun i σ H2 _ ⟨_,_,e⟩=>by rw[e];exact b6) ?_ ?_
 ·rintro i kv x σ H2 hi kx ⟨o2,rfl,rfl⟩;have al:(B.map (·.1))[i]?=some kv.1:=by rw[ae,hi];rfl
  rw[R,ae]at al;obtain⟨v,hv,ev⟩:=au.mp al;rw[←ev]at kx;have an:=gz.of kx;have X:=ba v (ai hv);refine⟨_,rfl,_,rfl,p,dx,_,V.ref ch,rfl,N,(by kernel_rfl),ch,gx,_,V.ref d,rfl,ad,(by kernel_rfl),_,rfl,d,_,rfl,(d9.f g1).get X an,_,rfl,p,dx,_,V.ref ch,rfl,N,(by kernel_rfl),ch,gx,_,V.ref t,rfl,ad,(by kernel_rfl),_,rfl,t,_,rfl,(d4.f g1).get X an,_,_,rfl,rfl,_,_,rfl,rfl,?_⟩;refine⟨some x,?_,rfl⟩;rw[nL,wP,fE hv,eg.Lv X];rfl
 ·rintro σ H2 ⟨o2,rfl,rfl⟩;rw[lw,aF];have a2:∀k∈c.ks,some k∈ws:=fun k hk=>by
   have:=iE (a1 (some k) (gs hk));rw[R]at this;obtain⟨u,b,a8⟩:=aA.mp this;rw[ik a8]at b;exact b
  refine⟨_,rfl,_,rfl,p,dx,_,rfl,N,(by kernel_rfl),fun e0 a7=>?_⟩;have s3:=eB a7 (.dK []);have bl:upd H2 e0 (.dK []) e0=some (.dK []):=d0;generalize upd H2 e0 (.dK [])=H3 at *;have g3:eD G H3:=g1.trans s3.toF;refine⟨G,p,ch,le,fl,e0,c,[],[],.non,none,0,rfl,r.grow (eD.refl _) g3,.inl bl,.nil,bp _,(fun x u h=>nomatch h),iX,rfl,fun m H4 kvs g s4 b4 bd bf b2=>?_⟩;refine⟨m,_,rfl,bd,trivial,fun J=>?_⟩;have bq:eD H H4:=sf.trans (s3.trans s4).toF;have l:H m=none:=sf.free (s3.free b4);have aa:G m=none:=r.gh.free l;have b3:=iy.Lr (O:=O) r.gh bq;have b5:=b3.own (u:=.frz J (.dK kvs)) l aa;have bv:upd H4 m (.frz J (.dK kvs)) m=some (.frz J (.dK kvs)):=d0;have D:=b5.base r.gh l bv;have a4:vW (upd G m (.frz J (.dK kvs))) m g:=⟨J,_,d0,Paired.JH bf fun _ _ z=>z.f ((eD.refl G).upd aa)⟩;have bx:∀a∈O,a≠d:=fun a S z=>by
   have:=ah a S;rw[z]at this;rcases U with y | ⟨o',y⟩ <;> (rw[this]at y;cases y)
  have a6:∀a∈O,upd H4 m (.frz J (.dK kvs)) a=H a:=fun a S=>by
   obtain⟨u,b⟩:=M a S;have h1:H2 a=some u:=by rw[as a (bx a S)];exact b
   have h4:=s4 _ _ (s3 _ _ h1);rw[ef (fun z:a=m=>by rw[z,l]at b;cases b),h4,b]
  generalize upd G m (.frz J (.dK kvs))=G6 at *;generalize upd H4 m (.frz J (.dK kvs))=H6 at *;intro x I hx a5 a3;have sm:=made (C:=CT) hx a5 a3;have bm:upd (upd H6 I (.own x)) x (.ins CT I []) x=some (.ins CT I []):=d0;have b1:=D.trans (iy.same (O:=O) D.gh sm);generalize upd (upd H6 I (.own x)) x (.ins CT I [])=H7 at *;have Y:H x=none:=D.lv x hx;have Z:G6 x=none:=D.gh.free hx;refine⟨x,I,_,_,_,rfl,bm,rfl,?_⟩;have a9:=b1.own (u:=.ins CT I (yT (.int 0) (.int ((c.Ls ws:Nat):Int)) (.ref m))) Y Z;refine q G6 _ x ⟨0,c.Ls ws,g⟩ a9 Y Z ⟨I,m,d0,a4⟩ (fun L=>?_) rfl fun a S=>?_
  ·exact ve (i6 (c.KS _) (c.Kl _)) (fun k=>eg.Lx a2) b2
  ·obtain⟨u,b⟩:=M a S;have h6:H6 a=some u:=(a6 a S).trans b;rw[ef (fun z:a=x=>by rw[z,Y]at b;cases b),sm _ _ h6,b]
end
structure SS (CB CC CL CS CF CT:Addr)(G H:Hp)(p ch le fl:Addr)(c:eg)(L:ij)(O:List Addr)(A:List (Addr×Addr))(F:List Fk):Prop where
 se:Se CB CC CS G H p ch le fl c
 led:gf CL G H le ch c L O
 ok:gY c L
 fk:iQ CF CT G H c fl A F
 sep:yP O fl A
theorem SS.grow {p ch le:Addr}{c:eg}{L L':ij}(h:SS CB CC CL CS CF CT G H p ch le fl c L O A F)(g:iy G H O G' H' O')(hl:gf CL G' H' le ch c L' O')(hok:gY c L'):SS CB CC CL CS CF CT G' H' p ch le fl c L' O' A F:=
 ⟨h.se.grow g.gg g.gh,hl,hok,h.fk.grow g h.sep,yP.grow h.fk g h.sep⟩
def yQ (H:Hp)(O:List Addr)(G G':Hp):Prop:=∀x u,H x=some u→uM u→x∉O→G x=none→G' x=none
inductive DC (CB CC CL CS CF CT:Addr)(vs:List V)(H:Hp)(Q:VK)(E:XK):Prop
 |mk (G:Hp)(p ch le fl:Addr)(c:eg)(L:ij)(O:List Addr)(A:List (Addr×Addr))(B:List Fk)(g:Fk)(_:vs=[.ref p])(_:SS CB CC CL CS CF CT G H p ch le fl c L O A (B++[g]))(_:fG c L B.reverse g.sd)(_:j5 c g)(_:NZ L)(_:(∀(G' H':Hp) (L':ij) (O':List Addr) (A':List (Addr×Addr)) (F':List Fk) (s:Addr) (d:Sd),eD G G'→iI H O H' O'→yQ H O G G'→SS CB CC CL CS CF CT G' H' p ch le fl c L' O' A' F'→fG c L' F'.reverse d→NZ L'→lI CT G' H' s d→G' s=none→s∉O'→s∉A'.map (·.2)→c.mv (c.n+1) F'≤c.mv (c.n+1) (B++[g])→Q (.ref s) H'))(_:(∀(G' H':Hp) (L':ij) (O':List Addr) (A':List (Addr×Addr)) (F':List Fk) (e:Nat×Rs),eD G G'→iI H O H' O'→yQ H O G G'→SS CB CC CL CS CF CT G' H' p ch le fl c L' O' A' F'→L'.getLast?=some e→e.1=0→Q .non H')):DC CB CC CL CS CF CT vs H Q E
def uR (CB CC CL CS CF CT:Addr):Sp:=DC CB CC CL CS CF CT
theorem E6 (a b t t':V):fZ ("bit" : Str) t' (ue a b t)=ue a b t':=by kernel_rfl
theorem nG {c:eg}{x:Str}{s:Sd}:∀j,c.has (ii (c.KL x) s.dead) j↔j∈c.left x s:=fun j=>by
 rw[eg.Kc,eg.KP,eg.KB];exact⟨(by rintro⟨⟨h1,h2⟩,h3⟩;exact⟨h1,h2,h3⟩),(by rintro⟨h1,h2,h3⟩;exact⟨⟨h1,h2⟩,h3⟩)⟩
theorem As {c:eg}{g g':Fk}(hp:g'.part=g.part)(hs:g'.sd=g.sd):∀(d:Nat) (B:List Fk),c.mv d (B++[g'])=c.mv d (B++[g])
 |0,_=>by unfold eg.mv;rfl
 |d+1,[]=>by
  show c.cnt g'*(c.n+2)^d+c.mv d []=c.cnt g*(c.n+2)^d+c.mv d [];unfold eg.cnt;rw[hp,hs]
 |d+1,f::B=>by
  show c.cnt f*(c.n+2)^d+c.mv d (B++[g'])=c.cnt f*(c.n+2)^d+c.mv d (B++[g]);rw[As hp hs d B]
section
variable {base:Heap}{f:Addr}
theorem Eo:eN ["self","fork","left"] ["self"] (eF zw):=i9
theorem CI (F:iN K "go_on" "Search.go_on" zw f fd)(T:tw K mg CS)(dd:TC K mg CC)(TF:Bw K mg CF)(d9:Mt P w K mg base CC ff 1 "listed" ["self","mask"] (iZ CC))(eq:Mt P w K mg base CS ff 1 "left" ["self","stand","part"] (rF CB CC CS CT))(MB:Mt P w K mg base CS ff 3 "stand_behind" ["self","fork"] (pi CB CC CL CS CF CT))(MS:Mt P w K mg base CS ff 5 "shut" ["self","fork","known"] (rp CB CC CL CS CF CT))(MG:Mt P w K mg base CS ff 2 "go_back" ["self","place"] (pe CB CC CL CS CF CT)):eZ P w K mg base ff 6 f fd ["self"] (uR CB CC CL CS CF CT):=by
 refine F.ok Eo (fun vs H Q E h=>?_) (fun cdv A outer s H vs Q E hr h=>?_)
 ·obtain⟨G,p,ch,le,fl,c,L,O,AA,B,g,rfl,_⟩:=h;rfl
 obtain⟨G,p,ch,le,fl,c,L,O,AA,B,g,rfl,e2,ey,hg,e5,q1,q2⟩:=h;have hu:=gN hr;refine⟨_,(ee (kO PassesOwn.never (iz (eJ T.cl T.nFo (pv 0)) (fun _=>rfl)) (ee (eK (i:=1) Eo.nd rfl (Or.inl rfl) (eL fh (eJ T.cl T.nFo (pv 0)) (iP jN er) (fun _ _=>rfl))) (ee (eK (i:=2) Eo.nd rfl (Or.inl rfl) (ib d9 (hr.mono (by decide)) eT (eJ T.cl T.nCh (pv 0)) (dZ (ib eq (hr.mono (by decide)) eT (pv 0) (dZ (eJ TF.cl TF.nSt (pv 1)) (dZ (eJ TF.cl TF.nPa (pv 1)) el))) el))) (ee (fF (iz (pv 2) (fun _=>rfl)) (ee (ju TF.cl TF.nBi (pv 1) (fe hu (eJ dd.cl dd.nBits (eJ T.cl T.nCh (pv 0))) (eL fh (pv 2) (iP jN er) (fun _ _=>rfl)) (fun _ _=>rfl))) (eA (eP (ib MB (hr.mono (by decide)) eT (pv 0) (dZ (pv 1) el))))) eU) (eA (gq (ib MG (hr.mono (by decide)) eT (pv 0) (dZ (ib MS hr eT (pv 0) (dZ (pv 1) (dZ iA el))) el)))))))) (eA (eP iR))),?_⟩;refine⟨fun m σ H2=>∃(S:Hp) (L2:ij) (Y:List Addr) (r:List (Addr×Addr)) (F2:List Fk) (o1 o2:Option V),σ=[some (.ref p),o1,o2]∧eD G S∧iI H O H2 Y∧yQ H O G S∧SS CB CC CL CS CF CT S H2 p ch le fl c L2 Y r F2∧((F2=[]∧m=0∧∃e,L2.getLast?=some e∧e.1=0)∨∃o g2,F2=o++[g2]∧m=c.mv (c.n+1) F2+1∧c.mv (c.n+1) F2≤c.mv (c.n+1) (B++[g])∧fG c L2 o.reverse g2.sd∧j5 c g2∧NZ L2),⟨c.mv (c.n+1) (B++[g])+1,G,L,O,AA,B++[g],none,none,rfl,eD.refl _,iI.refl _ _,(fun _ _ _ _ _ h=>h),e2,.inr ⟨B,g,rfl,rfl,ao _,ey,hg,e5⟩⟩,?_⟩;rintro m σ H2 ⟨S,L2,Y,r,F2,o1,o2,rfl,bv,an,bm,M,b3⟩;obtain⟨dx,hp⟩:=M.se.self;have al:=M.se.gh.ins hp;refine⟨_,rfl,p,dx,_,V.ref fl,rfl,al,(by kernel_rfl),_,.inl ⟨_,fb.of M.fk.l,rfl⟩,?_⟩;have lA:=Paired.length M.fk.p;rcases b3 with ⟨rfl,rfl,e,d8,e4⟩ | ⟨o,g2,rfl,rfl,c6,d,a1,a3⟩
 ·have:r=[]:=bO.mp (by simpa using lA);subst this;refine fC ?_;exact q2 S H2 L2 Y [] [] e bv an bm M d8 e4
 ·have ct:=d.depth;rw[cq]at ct;have eu:=M.se.n;rw[aE,aV]at lA;obtain⟨a,ha⟩:∃a,r[o.length]?=some a:=⟨r[o.length]'(by lia),ak _⟩;have bl:(o++[g2])[o.length]?=some g2:=by rw[aU (ao _),bR];rfl
  have ew:mR CF CT S H2 c a g2:=by
   obtain⟨c2,N,z2⟩:=Paired.J2 M.fk.p ha;rw[bl]at N;cases N;exact z2
  obtain⟨⟨fx,a9⟩,eh⟩:=id ew;have d7:r=r.take o.length++[a]:=by rw[←fE ha,←lA,aF]
  have ez:(r.map fun a=>V.ref a.1)[(r.map fun a=>V.ref a.1).length-1]?=some (.ref a.1):=by
   rw[ab,lA,dO,ae,ha];rfl
  have dl:(!(r.map fun a=>V.ref a.1).isEmpty)=true:=by rw[d7];simp
  rw[dl];refine gW ⟨fun σ' H'=>∃m',m'<c.mv (c.n+1) (o++[g2])+1∧_,fun _ _ h=>h,?_⟩;refine⟨_,rfl,p,dx,_,V.ref fl,rfl,al,(by kernel_rfl),_,rfl,fl,_,_,V.ref a.1,rfl,rfl,fb.of M.fk.l,oK ez,?_⟩;obtain⟨gx,gb,as,ei,e8,e9,e7,fa,e6,d1,d2,d3,d4,d5,d6⟩:=M.se.chart.ex;refine⟨_,rfl,p,dx,_,V.ref ch,rfl,al,(by kernel_rfl),ch,gx,_,rfl,M.se.gh.ins d1,(by kernel_rfl),_,rfl,p,dx,_,rfl,al,(by kernel_rfl),_,rfl,a.1,fx,_,V.ref a.2,rfl,a9,(by kernel_rfl),_,rfl,a.1,fx,_,V.str g2.part,rfl,a9,(by kernel_rfl),S,p,ch,le,fl,a.2,c,g2.sd,g2.part,rfl,M.se,eh,?_⟩;have ea:ii (c.KL g2.part) g2.sd.dead<2^c.n:=jo (c.Kl _);refine⟨S,ch,gx,ei,_,c,_,rfl,M.se.gh,M.se.gh.ins d1,(by kernel_rfl),d5,eu,ea,fun l xs H3 s3 hl b6 c3 e1=>?_⟩;have a0:=iy.same (O:=Y) M.se.gh s3;have C:=M.grow a0 (M.led.same s3) M.ok;have b1:=s3 _ _ al;have R:=s3 _ _ a9;have lx:=Paired.length c3;refine⟨_,rfl,_,.inl ⟨xs,fb.of b6,rfl⟩,?_⟩;by_cases hxe:xs=[]
  ·subst hxe;refine fC ?_;have b9:c.listed (ii (c.KL g2.part) g2.sd.dead)=[]:=bO.mp lx.symm;have bf:∀k∈c.ks,k.1=g2.part→c.has g2.sd.dead k:=fun k hk ah=>Classical.byContradiction fun z=>by
    have:k∈c.listed (ii (c.KL g2.part) g2.sd.dead):=eg.J9.mpr ((nG k).mpr (eg.KB.mpr ⟨hk,ah,z⟩));rw[b9]at this;cases this
   have c9:∀f∈o++[g2],iC c L2 f.sd:=fun f hf=>by
    rcases az.mp hf with z | z
    ·exact(d.fks f (cs.mpr z)).2
    ·rw[aj.mp z];exact d.sd
   have b2:qg c (o++[g2]):=by
    have:=d.mono g2 rfl;rw[cX]at this;exact this
   refine⟨_,rfl,p,dx,_,rfl,b1,(by kernel_rfl),_,rfl,p,dx,_,rfl,b1,(by kernel_rfl),_,rfl,fun kd a6=>?_⟩;have s4:=eB a6 (.dK []);have ep:upd H3 kd (.dK []) kd=some (.dK []):=d0;generalize upd H3 kd (.dK [])=H4 at *;have b5:=iy.same (O:=Y) C.se.gh s4;have S4:=C.grow b5 (C.led.same s4) C.ok;have ev:kd∉Y:=fun z=>by obtain⟨u,D⟩:=C.led.liv kd z;rw[a6]at D;cases D
   refine⟨S,p,ch,le,fl,c,L2,Y,r,o++[g2],o.length,a,g2,kd,[],none,rfl,S4.se,S4.led,S4.ok,S4.fk,S4.sep,b2,c9,by rw[aE,aV];lia,ha,bl,a1.open_,.inl ep,ev,rfl,fun k hk ah=>.inl (bf k hk ah),fun m hm=>?_,?_⟩
   ·intro j1 j2 h1 h2 e;have N:=(hm j1 h1).resolve_right (by rintro⟨_,_,_,z,_⟩;exact nomatch z);have z2:=(hm j2 h2).resolve_right (by rintro⟨_,_,_,z,_⟩;exact nomatch z);exact d.sd.one j1 j2 N z2 e
   intro G5 H5 O5 L5 j e v bx ag es cp cd a7;have I:=S4.grow v bx ag;have c1:∀j,c.has e.1 j→c.has g2.sd.picked j:=fun j hj=>(cd j hj).resolve_right (by rintro⟨_,_,_,z,_⟩;exact nomatch z);have bd:=ai cp;have b7:fG c L5 o.reverse g2.sd:=d.led fun x hx=>by obtain⟨X,hX⟩:=es;rw[hX];exact aO _ hx
   have bq:∀f∈o++[g2],∀k,f.bit=some k→k∈c.ks:=fun f hf k hk=>by
    rcases az.mp hf with z | z
    ·exact((d.fks f (cs.mpr z)).1.bit k hk).1
    ·rw[aj.mp z]at hk;exact(a1.bit k hk).1
   refine⟨G5,p,ch,le,fl,c,L5,O5,r,o++[g2],j,e,rfl,I.se,I.led,I.fk,I.sep,cp,by rw[aE,aV];lia,bq,fun n H6 hn ec s6 et=>?_⟩;have e0:∀y∈fl::r.map (·.2),∃u,H5 y=some u∧¬uM u:=fun y U=>by
    rcases am.mp U with z | z
    ·exact⟨.lst _,by rw[z];exact I.fk.l,fun q=>q⟩
    ·obtain⟨a',J,rfl⟩:=aA.mp z;obtain⟨t,ht⟩:=ax.mp J;obtain⟨fk,_,_,sx,wa,aa,_⟩:=Paired.J2 I.fk.p ht;exact⟨.ins _ _ _,aa,fun q=>q⟩
   have c4:∀y∈fl::r.map (·.2),G5 y=none:=fun y U=>by
    rcases am.mp U with z | z
    ·rw[z];exact I.fk.offl
    ·obtain⟨a',J,rfl⟩:=aA.mp z;exact(I.fk.off a' J).2
   have cy:∀y∈O5,y∉fl::r.map (·.2):=fun y U z=>by
    rcases am.mp z with z | z
    ·exact I.sep.1 (z▸U)
    ·obtain⟨a',J,rfl⟩:=aA.mp z;exact(I.sep.2 a' J).2 U
   have g6:eD G5 H6:=il I.se.gh c4 s6.toF;have dn:gf CL G5 H6 le ch c L5 O5:=I.led.grow (eD.refl _) I.led.off fun y U=>by
    obtain⟨u,D⟩:=I.led.liv y U;rw[s6 y u (by rw[eE (cy y U)];exact D),D]
   have S6:SS CB CC CL CS CF CT G5 H6 p ch le fl c L5 O5 (r.take n) (c.Lm e.1 ((o++[g2]).take n)):=⟨I.se.grow (eD.refl _) g6,dn,ag,et,I.sep.1,fun a' J=>I.sep.2 a' (cY J)⟩;have b8:iI H O H6 O5:=an.trans ((a0.Lq.trans (b5.Lq.trans v.Lq)).trans (iI.del s6.toF e0));have c5:eD G G5:=bv.trans v.gg;have a4:yQ H O G G5:=fun x u h f n g=>v.off (bm x u h f n g) ((an.trans (a0.Lq.trans b5.Lq)) x u h f n).1;rcases yN b7 a1 bd (ag.lt e bd) c1 ec with ⟨N,z2⟩ | ⟨B3,g3,N,z2,z3,z4,z5⟩
   ·have ek:c.Lm e.1 ((o++[g2]).take n)=[]:=by rw[N];rfl
    rw[ek]at S6;refine⟨0,Nat.succ_pos _,G5,L5,O5,r.take n,[],_,_,rfl,c5,b8,a4,S6,.inl ⟨rfl,rfl,e,?_,z2⟩⟩;rcases a7 a3 with y | ⟨_,y⟩
    ·exact absurd z2 (y e bd)
    ·exact y
   ·rw[N]at S6;refine⟨_,Nat.succ_lt_succ z4,G5,L5,O5,r.take n,B3++[g3],_,_,rfl,c5,b8,a4,S6,.inr ⟨B3,g3,rfl,rfl,br (cD z4) c6,z2,z3,?_⟩⟩;rcases a7 a3 with y | ⟨y,_⟩
    ·exact y
    ·exact absurd y z5
  ·have dc:(!xs.isEmpty)=true:=by cases xs with | nil=>exact absurd rfl hxe | cons a b=>rfl
   rw[dc];refine gW ?_;have eb:c.listed (ii (c.KL g2.part) g2.sd.dead)≠[]:=fun z=>hxe (bO.mp (by rw[lx,z];rfl));obtain⟨k,hkl⟩:∃k,(c.listed (ii (c.KL g2.part) g2.sd.dead)).getLast?=some k:=⟨_,List.getLast?_eq_some_getLast eb⟩;obtain⟨hk,ah,a6,a5⟩:=yr nG hkl;obtain⟨x,a2,ba⟩:∃x,xs[xs.length-1]?=some x∧fg S x k:=by
    have h1:(c.listed (ii (c.KL g2.part) g2.sd.dead))[xs.length-1]?=some k:=by rw[lx,←List.getLast?_eq_getElem?];exact hkl
    obtain⟨x,N,z2⟩:=iS c3 (i:=((xs.length-1:Nat):Int)) (by rw[io];exact h1);rw[io]at N;exact⟨x,N,z2⟩
   have g3:=C.se.gh;refine⟨_,rfl,p,dx,_,V.ref ch,rfl,b1,(by kernel_rfl),ch,gx,_,V.ref as,rfl,g3.ins d1,(by kernel_rfl),_,rfl,_,rfl,l,_,_,x,rfl,rfl,fb.of b6,oK a2,as,_,rfl,(d4.f g3).get (w:=some k) (gs hk) (fg.f g3 ba),_,rfl,a.1,fx,_,rfl,R,(by show 3<1000;decide),?_⟩;rw[E6];have c7:=ai ha;have cv:∀{y dy y1 y2 y3},H3 y=some (.ins CT dy (yT y1 y2 y3))→y≠a.1:=fun h=>Ne.symm (ze R h);have fo:l≠a.1:=fJ b6 R fun z=>nomatch z;have Z:∀b,b≠a.1→upd H3 a.1 (.ins CF fx (ue (.str g2.part) (.ref a.2) (.int (c.J4 (some k):Nat)))) b=H3 b:=fun b hb=>ef hb;have co:upd H3 a.1 (.ins CF fx (ue (.str g2.part) (.ref a.2) (.int (c.J4 (some k):Nat)))) a.1=some (.ins CF fx (ue (.str g2.part) (.ref a.2) (.int (c.J4 (some k):Nat)))):=d0;generalize upd H3 a.1 (.ins CF fx (ue (.str g2.part) (.ref a.2) (.int (c.J4 (some k):Nat))))=H4 at *;have g4:eD S H4:=fun b u e=>by
    have nb:b≠a.1:=fun z=>by rw[z,(C.fk.off a c7).1]at e;cases e
    rw[Z b nb];exact g3 b u e
   have ds:a.1∉Y:=(C.sep.2 a c7).1;have ad:gf CL S H4 le ch c L2 Y:=C.led.grow (eD.refl _) C.led.off fun y U=>Z y fun z=>ds (z▸U);obtain⟨⟨fx3,hfa3⟩,hst3⟩:mR CF CT S H3 c a g2:=by
    obtain⟨c2,N,z2⟩:=Paired.J2 C.fk.p ha;rw[bl]at N;cases N;exact z2
   have ej:fl≠a.1:=fJ C.fk.l R fun z=>nomatch z;have ed:∀(t:Nat) (b:Addr×Addr),r[t]?=some b→t≠o.length→b.1≠a.1:=fun t b hb ht z=>by
    have a2:(r.map (·.1))[t]?=some b.1:=by rw[ae,hb];rfl
    have ba:(r.map (·.1))[o.length]?=some a.1:=by rw[ae,ha];rfl
    rw[z]at a2;exact ht ((cm (af.mp a2).1 C.fk.nd1).mp (a2.trans ba.symm))
   have a8:lI CT S H4 a.2 g2.sd:=by
    obtain⟨sx,wa,aa,e3⟩:=hst3;exact⟨sx,wa,by rw[Z _ (cv aa)];exact aa,e3⟩
   have cc:iQ CF CT S H4 c fl r (o++[{g2 with bit:=some k}]):=by
    refine⟨by rw[Z fl ej];exact C.fk.l,jW (by rw[aE,aV];exact lA) fun t b fk h1 h2=>?_,C.fk.offl,C.fk.off,C.fk.nd1,C.fk.nd2⟩;by_cases ht:t=o.length
    ·subst ht;rw[ha]at h1;cases h1;rw[aU (ao _),bR]at h2;have:({g2 with bit:=some k}:Fk)=fk:=by simpa using h2
     subst this;exact⟨⟨fx,co⟩,a8⟩
    ·have c8:t<o.length:=by
      have:=(af.mp h2).1;rw[aE,aV]at this
      lia
     rw[aI c8]at h2;obtain⟨c2,N,⟨y1,z2⟩,y2,w2,z3,z4⟩:=Paired.J2 C.fk.p h1;rw[aI c8,h2]at N;cases N;exact⟨⟨y1,by rw[Z _ (ed t b h1 ht)];exact z2⟩,y2,w2,by rw[Z _ (cv z3)];exact z3,z4⟩
   have da:j5 c {g2 with bit:=some k}:=⟨a1.open_,a1.rule,fun j hj=>by cases hj;exact⟨hk,ah,a5⟩⟩;have dv:H4 p=some (.ins CS dx (xH ch le fl)):=g4.ins hp;have S4:SS CB CC CL CS CF CT S H4 p ch le fl c L2 Y r (o++[{g2 with bit:=some k}]):=⟨C.se.grow (eD.refl _) g4,ad,C.ok,cc,C.sep⟩
   have cz:iI H3 Y H4 Y:=iI.del (ys:=[a.1]) (fun b u hb=>by
    have nb:b≠a.1:=fun z=>by rw[z,fH (by simp)]at hb;cases hb
    rw[Z b nb];exact .inl (fm _ _ b u hb)) fun y U=>by rw[aj.mp U];exact⟨_,R,fun q=>q⟩
   refine⟨_,rfl,p,dx,_,rfl,dv,(by kernel_rfl),_,rfl,S,p,ch,le,fl,c,L2,Y,a,{g2 with bit:=some k},k,rfl,S4.se,ad,S4.ok,⟨⟨fx,co⟩,a8⟩,rfl,da,d.sd,a6,?_⟩;intro G5 H5 s5 d5 v cn em cx ⟨c0,b4⟩ dp;have bx:gf CL G5 H5 le ch c L2 Y:=ad.grow v.gg (fun y U=>by obtain⟨u,D⟩:=ad.liv y U;exact v.off (ad.off y U) D) dp;have I:=S4.grow v bx S4.ok;have a4:yQ H O G G5:=fun x u h f n g=>v.off (bm x u h f n g) ((an.trans (a0.Lq.trans cz)) x u h f n).1;refine q1 G5 H5 L2 Y r _ s5 d5 (bv.trans v.gg) (an.trans (a0.Lq.trans (cz.trans v.Lq))) a4 I ?_ a3 cx em (fun z=>?_) (fun z=>?_) (by rw[As (g:=g2) (g':={g2 with bit:=some k}) rfl rfl];exact c6)
   ·rw[cH,List.reverse_singleton,List.singleton_append];exact .cons d da b4 c0
   ·obtain⟨u,D⟩:=ad.liv s5 z;rw[cn]at D;cases D
   ·obtain⟨a',J,rfl⟩:=aA.mp z;obtain⟨t,ht⟩:=ax.mp J;obtain⟨fk,_,_,sx,wa,aa,_⟩:=Paired.J2 cc.p ht;rw[cn]at aa;cases aa
end
end FB
namespace FB
open PySem L2 PyProof.Rows
structure BP (K:W.Frag)(x qual:Str)(st:Stmt)(f:Addr)(fd:FuncData)(c:Addr):Prop where
 ex:∃(oc:Value) (od:Option Addr) (kV doc pm:Value) (an:Option Addr) (ct:Value) (osl:Array (Option Value)),
  fd=W.fnOf x qual (hZ st) (gr st) (eF st) .none kV doc pm an (.ref c) ct∧K.lookup f=some ⟨oc,od,.func fd,osl⟩∧W.codeIn K (.ref c) qual=true
 kp:W.keepIn K (.ref f)=true
section
variable {P:Program}{w:World}{K:W.Frag}{mg:Str→Option Value}{base:Heap}
theorem BP.ok {x qual:Str}{st:Stmt}{f c:Addr}{fd:FuncData}{N ps:List Str}{k:Nat}{sp:Sp}(F:BP K x qual st f fd c)(S:eN N ps (eF st))(len:∀vs H Q E,sp vs H Q E→vs.length=ps.length)(a:∀(A:Around) (outer:List Env) (s:Shared) (H:Hp) (vs:List V) (Q:VK) (E:XK),gK k (A.deeper (envOfC qual (eF st) s.heap.objs.size f (.ref c)))→sp vs H Q E→∃t,mj (qt ff P w K mg base N qual (eF st) f (.ref c) A outer s H E).nox (gr st) t∧t {nx:=fun _ H'=>Q .non H',rt:=Q} (start N vs) H):eZ P w K mg base ff (k+1) f fd ps sp:=by
 obtain⟨l,o,kV,i,pm,m,p,j,rfl,e,d⟩:=F.ex;refine Ds e d S len fun A outer s H vs Q E g b=>?_;obtain⟨t,h,q⟩:=a A outer s H vs Q E g b;exact⟨t,h.nox,q⟩
end
end FB
namespace FB
open PySem L2 PyProof.Rows
seal mj PS PE PT PA
def yo:Pos:=match gr tK with
 |(.Assign _ (.Call _ _ [⟨_,.Lambda _ _ _ lp,_⟩] _) _)::_=>lp
 |_=>⟨0,0,0,0⟩
def y8:Str:=(envOfC "Search.next_part" (eF tK) 0 0 .none).qual++"<lambda>"
theorem AR {names:List (Str×NameKind)}{y y':Str}(h:∀p∈names,p.2=.free→p.1=y∨p.1=y'):∀z,names.lookup z=some .free→z=y∨z=y':=fun z hz=>by
 induction names with
 |nil=>cases hz
 |cons a l ih=>
  rw[aY]at hz;by_cases e:(z == a.1)=true
  ·rw[e]at hz;have e1:z=a.1:=by simpa using e
   have d:a.2=.free:=Option.some.inj hz;rw[e1];exact h a (by simp) d
  ·have b:(z == a.1)=false:=by cases hh:(z == a.1) <;> simp_all
   rw[b]at hz;exact ih (fun p hp=>h p (by simp[hp])) hz
theorem CV {c:eg}{x:Str}{s:Sd}:c.listed (ii (c.KL x) s.dead)=c.left x s:=by
 unfold eg.listed eg.left;refine List.filter_congr fun k a=>?_;rw[cT,aB,aw,bQ,decide_eq_false_iff_not];have h1:=nG (c:=c) (x:=x) (s:=s) k;rw[eg.KB]at h1;exact⟨fun z=>(h1.mp ⟨a,z⟩).2,fun z=>(h1.mpr ⟨a,z⟩).2⟩
inductive Dw (CB CC CS CT:Addr)(tq:Str)(lp:Pos)(PT':Addr)(vs:List V)(H:Hp)(Q:VK)(E:XK):Prop
 |mk (G:Hp)(p ch le fl s:Addr)(c:eg)(L:ij)(sd:Sd)(_:vs=[.ref p,.ref s])(_:Se CB CC CS G H p ch le fl c)(_:lI CT G H s sd)(_:iC c L sd)(_:sd.wanted≠[])(_:gU tq lp H PT')(_:G PT'=none)(_:∀(x:Str) (H':Hp),x∈sd.wanted.map (·.1)→c.Rule x sd→eG (del H [PT']) H'→gU tq lp H' PT'→Q (.str x) H'):Dw CB CC CS CT tq lp PT' vs H Q E
def uP (CB CC CS CT:Addr)(tq:Str)(lp:Pos)(PT':Addr):Sp:=Dw CB CC CS CT tq lp PT'
section
variable {P:Program}{w:World}{K:W.Frag}{mg:Str→Option Value}{base:Heap}{f cd:Addr}{fd:FuncData}
theorem Ej:eN ["self","stand","fewest","first"] ["self","stand"] (eF tK):=i9
theorem Cz {CB CC CS CT g PP:Addr}{gd:FuncData}(F:BP K "next_part" "Search.next_part" tK f fd cd)(a4:W.codeHdIn K cd PP=true)(BM:sZ mg base)(T:tw K mg CS)(a0:TC K mg CC)(TT:Df K mg CT)(GC:eZ P w K mg base ff 1 g gd ["mask"] rJ)(bG:gl K gd ["mask"] [])(kG:W.keepIn K (.ref g)=true)(mG:mg "count_picks" = some (.ref g))(ML:Mt P w K mg base CS ff 1 "left" ["self","stand","part"] (rF CB CC CS CT)):eZ P w K mg base ff 5 f fd ["self","stand"] (uP CB CC CS CT y8 yo PP):=by
 refine F.ok Ej (fun vs H Q E h=>?_) (fun A outer s H vs Q E hr h=>?_)
 ·obtain⟨G,p,ch,le,fl,s,c,L,sd,rfl,_⟩:=h;rfl
 obtain⟨G,p,ch,le,fl,R,c,L,sd,rfl,hS,a7,aa,a1,hT,gP,q⟩:=h;have hu:=gN hr;refine⟨_,(ee (eK (i:=2) Ej.nd rfl (Or.inl rfl) (Cn (k:=2) (x:="part") (y:="stand") (y':="self") (j:=1) (j':=0) (cy:=s.heap.objs.size+2) (cy':=s.heap.objs.size+1) rfl hr ⟨rfl,rfl,rfl,rfl,rfl,rfl,rfl,by decide +kernel,AR (by decide +kernel),rfl,rfl,rfl,rfl,rfl,rfl,Or.inr (Or.inl rfl),Or.inr (Or.inl rfl),by decide +kernel,by decide +kernel,by decide +kernel⟩ rfl a4 BM rfl rfl T.min (eJ TT.cl TT.nWa (pv 1)) (fun _ _ _ _=>rfl) (fun q c' s H=>fj GC (gK.mono (gK.deeper (gK.in1 hr) _) (by decide:1≤2)) rfl mG kG bG .nil eT (dZ (ib ML (gK.mono (gK.deeper (gK.in1 hr) _) (by decide:1≤2)) eT (pv 2) (dZ (pv 1) (dZ (pv 0) el))) el)))) (ee (eK (i:=3) Ej.nd rfl (Or.inl rfl) (eL fh (jV (ur rfl) rfl T.list dX (dZ (eJ TT.cl TT.nWa (pv 1)) el)) er (fun _ _=>rfl))) (ee (fF (PW.pt (kM (iL (vc hu (pv 3) (fe hu (eJ a0.cl a0.nAl (eJ T.cl T.nCh (pv 0))) iR (fun _ _=>rfl)))) (jy (fz Ab (fj GC (hr.mono (by decide:1≤4)) rfl mG kG bG .nil eT (dZ (ib ML (hr.mono (by decide:1≤4)) eT (pv 0) (dZ (pv 1) (dZ (pv 2) el))) el)) er (fQ _))))) (eA (eP (pv 3))) eU) (eA (eP (pv 2)))))),?_⟩;obtain⟨dx,hp⟩:=hS.self;have bl:=hS.gh.ins hp;obtain⟨sx,wa,S,wo,m,J,M⟩:=id a7;have lw:=Paired.length M;obtain⟨⟨x0,u0⟩,wr,hw0⟩:∃xu wr,sd.wanted=xu::wr:=by
  cases h:sd.wanted with
  |nil=>exact absurd h a1
  |cons a b=>exact⟨a,b,rfl⟩
 have B:0<m.length:=by rw[lw,hw0];exact Nat.succ_pos _
 have r:∀(i:Nat) (o:gB×V),m[i]?=some o→∃x u,sd.wanted[i]?=some (x,u)∧o.1=Sum.inr x:=fun i o h=>by
  obtain⟨⟨x,u⟩,D,I⟩:=Paired.J2 M h;exact⟨x,u,D,I.1⟩
 have hP:∃u,H PP=some u∧uM u:=by
  rcases hT with z | ⟨c',z,_⟩
  ·exact⟨_,z,trivial⟩
  ·exact⟨_,z,trivial⟩
 have nP:∀{a C d fs},H a=some (.ins C d fs)→a≠PP:=fun {a C d fs} h z=>by
  obtain⟨u,D,I⟩:=hP;rw[z,D]at h;cases h;exact I
 refine⟨_,rfl,R,sx,_,V.ref wa,rfl,S,(by kernel_rfl),wa,wo,m,V.ref R,V.ref p,rfl,hS.gh.frz J,B,hT,rfl,rfl,fun H2 sm a2=>?_⟩;have g2:eD G H2:=il hS.gh (O:=[PP]) (fun a ha=>by rw[aj.mp ha];exact gP) sm.toF;have ag:Se CB CC CS G H2 p ch le fl c:=hS.grow (eD.refl _) g2;have a6:=g2.ins hp;have t:H2 R=some (.ins CT sx (yT (.int (sd.picked:Nat)) (.int (sd.dead:Nat)) (.ref wa))):=sm _ _ (by rw[eE (by simpa using nP S)];exact S);have an:lI CT G H2 R sd:=⟨sx,wa,t,wo,m,J,M⟩
 refine⟨fun i=>match sd.wanted[i]? with
  |some xu=>((c.listed (ii (c.KL xu.1) sd.dead)).length:Nat)
  |none=>0,fun i o hi=>?_,fun i o hi ba=>?_⟩
 ·obtain⟨x,u,D,I⟩:=r i o hi;dsimp only;rw[D,I];exact⟨_,rfl,p,dx,_,rfl,a6,(by kernel_rfl),_,rfl,_,rfl,G,p,ch,le,fl,R,c,sd,x,rfl,ag,an,c,_,rfl,jo (c.Kl _),rfl,rfl⟩
 ·obtain⟨x,u,D,I⟩:=r i o hi;rw[I];have as:x∈sd.wanted.map (·.1):=aA.mpr ⟨(x,u),ai D,rfl⟩;refine⟨_,rfl,R,sx,_,V.ref wa,rfl,t,(by kernel_rfl),wa,m,rfl,.inr ⟨wo,g2.frz J⟩,fun l hl=>?_⟩;have Z:=eB hl (.lst (m.map fun o=>kV o.1));obtain⟨kv0,kvr,hk0,hk1⟩:∃kv0 kvr,m=kv0::kvr∧kv0.1=Sum.inr x0:=by
   cases hwk:m with
   |nil=>rw[hwk]at B;cases B
   |cons a b=>
    obtain⟨x',u',y1,y2⟩:=r 0 a (by rw[hwk];rfl);rw[hw0]at y1;cases y1;exact⟨a,b,rfl,y2⟩
  have a9:upd H2 l (.lst (m.map fun o=>kV o.1)) l=some (.lst (V.str x0::kvr.map fun o=>kV o.1)):=by
   rw[d0,hk0,aD,hk1];rfl
  generalize upd H2 l (.lst (m.map fun o=>kV o.1))=H3 at *;have g3:eD G H3:=g2.trans Z.toF;have ad:=g3.ins hp;refine⟨l,_,_,V.str x0,rfl,rfl,fb.of a9,mO,?_⟩;obtain⟨gx,gb,a5,bm,bv,al,bf,bq,bd,d1,d2,d3,d4,d5,d6,d7,d8,d9⟩:=hS.chart.ex;obtain⟨da,e1,oa,U,e2,e3,e4⟩:=(d7.f g3).get (w:=none) iX rfl;refine⟨_,rfl,_,rfl,p,dx,_,V.ref ch,rfl,ad,(by kernel_rfl),ch,gx,_,V.ref al,rfl,g3.ins d1,(by kernel_rfl),al,_,rfl,e1,da,_,rfl,.inl ⟨U,Sum.inr x0,.inr ⟨oa,e2⟩,rfl,rfl⟩,_,rfl,?_⟩;have a8:(eW U (Sum.inr x0)).isSome=decide (x0∈c.start):=by
   by_cases hx:x0∈c.start
   ·rw[e4 x0 hx,aq hx];rfl
   ·rw[ar hx];cases hq:eW U (Sum.inr x0) with
    |none=>rfl
    |some v=>
     have:=iE hq;rw[e3]at this;obtain⟨y,hy,e⟩:=aA.mp this;rw[Sum.inr.inj e]at hy;exact absurd hy hx
  rw[a8];have h0:(sd.wanted.map (·.1))[0]?=some x0:=by rw[hw0];rfl
  have N:x0∈sd.wanted.map (·.1):=by rw[hw0];exact bi
  have X:eG (del H [PP]) H3:=sm.trans Z;have Y:gU y8 yo H3 PP:=by
   rcases a2 with z | ⟨c',D,I⟩
   ·exact .inl (Z _ _ z)
   ·exact .inr ⟨c',Z _ _ D,Z _ _ I⟩
  have a3:=ag.same Z;have ah:lI CT G H3 R sd:=⟨sx,wa,Z _ _ t,wo,m,J,M⟩;by_cases hx:x0∈c.start
  ·rw[aq hx];refine gW ?_;refine⟨_,rfl,p,dx,_,rfl,ad,(by kernel_rfl),_,rfl,_,rfl,G,p,ch,le,fl,R,c,sd,x,rfl,a3,ah,c,_,rfl,jo (c.Kl _),_,_,rfl,rfl,_,rfl,?_⟩;dsimp only;rw[CV];by_cases h1:(1:Int)<((c.left x sd).length:Nat)
   ·rw[aq h1];exact gW ⟨_,rfl,q x0 H3 N (su aa h0 (.inl ⟨rfl,hx⟩)) X Y⟩
   ·rw[ar h1];exact fC ⟨_,rfl,q x H3 as (su aa h0 (.inr (.inr (by omega)))) X Y⟩
  ·rw[ar hx];refine fC (fC ⟨_,rfl,q x H3 as (su aa h0 (.inr (.inl hx))) X Y⟩)
end
def eg.Ly (c:eg)(n:Nd)(k:Pk):List Pk:=((iT c.es n).filter fun v=>decide (k.2<v)).map fun v=>(k.1,v)
inductive Bm (CB CC CS CF CT:Addr)(vs:List V)(H:Hp)(Q:VK)(E:XK):Prop
 |mk (G:Hp)(p ch le fl:Addr)(c:eg)(O:List Addr)(a:Addr×Addr)(fk:Fk)(k:Pk)(_:vs=[.ref p,.ref a.1])(_:Se CB CC CS G H p ch le fl c)(_:mR CF CT G H c a fk)(_:fk.bit=some k)(_:k∈c.ks)(_:k.1=fk.part)(_:fk.part∈(c.needs none).map (·.1))(_:(∀a∈O,∃u,H a=some u))(_:∀(G' H':Hp) (l:Addr) (xs:List V) (n:Nd),iy G H O G' H' O→(∀a∈O,H' a=H a)→H l=none→G' l=none→H' l=some (.lst xs)→(c.needs none)[((c.needs none).map (·.1)).idxOf fk.part]?=some n→n.1=fk.part→Paired (fg G') xs (c.Ly n k)→Q (.ref l) H'):Bm CB CC CS CF CT vs H Q E
def rC (CB CC CS CF CT:Addr):Sp:=Bm CB CC CS CF CT
theorem Gp:(["version","picked","fork"]:List Str).Nodup:=by decide +kernel
section
variable {P:Program}{w:World}{K:W.Frag}{mg:Str→Option Value}{base:Heap}{f:Addr}{fd:FuncData}
theorem zj:eN ["self","fork","need","picked"] ["self","fork"] (eF rY):=i9
theorem Aj {CB CC CS CF CT:Addr}(F:iN K "newer_picks" "Search.newer_picks" rY f fd)(T:tw K mg CS)(g:TC K mg CC)(aa:TB K mg CB)(X:Bw K mg CF)(MN:Mt P w K mg base CS ff 1 "place_of_need" ["self","who","part"] (mw CB CC CS))(MM:Mt P w K mg base CB ff 2 "meeting" ["self","need"] (jS CB)):eZ P w K mg base ff 3 f fd ["self","fork"] (rC CB CC CS CF CT):=by
 refine F.ok zj (fun vs H Q E h=>?_) (fun cdv A outer s H vs Q E hr h=>?_)
 ·obtain⟨G,p,ch,le,fl,c,O,a,l,k,rfl,_⟩:=h;rfl
 obtain⟨G,p,ch,le,fl,c,O,a,l,k,rfl,e,bq,al,hk,a8,ag,ad,q⟩:=h;have hu:=gN hr;refine⟨_,(ee (eK (i:=2) zj.nd rfl (Or.inl rfl) (eL fh (fe hu (eJ aa.cl aa.nN (eJ g.cl g.nBoard (eJ T.cl T.nCh (pv 0)))) iR (fun _ _=>rfl)) (ib MN (hr.mono (by decide:1≤2)) eT (pv 0) (dZ iR (dZ (eJ X.cl X.nPa (pv 1)) el))) (fun _ _=>rfl))) (ee (eK (i:=3) zj.nd rfl (Or.inr rfl) (eL eR (hU hu (eJ g.cl g.nBy (eJ T.cl T.nCh (pv 0))) (eJ X.cl X.nBi (pv 1)) (fun _ _=>rfl)) er (fun _ _=>rfl))) (eA (eP (iq (N':=["version","picked","fork"]) (n:=1) (js:=[3,1]) rfl (iD.two (c:=s.heap.objs.size+2) (c':=s.heap.objs.size+1) (y:="picked") (y':="fork") rfl rfl rfl (by decide +kernel) (by decide +kernel) rfl (by decide +kernel) (by decide +kernel) rfl rfl rfl rfl rfl rfl rfl rfl rfl) (ig (by decide)) (fD (ib MM hr eT (eJ g.cl g.nBoard (eJ T.cl T.nCh (pv 0))) (dZ (pv 2) el))) (fun C s2 H2 fp=>eM (i:=0) Gp rfl (Or.inl rfl)) (fun C s2 H2 fp=>mD (fz Ab (pv 0) (pv 1) (fQ _))) (fun C s2 H2 fp=>gm (dZ (eJ X.cl X.nPa (pv 2)) (dZ (pv 0) el)))))))),?_⟩;obtain⟨dx,hp⟩:=e.self;have U:=e.gh.ins hp;obtain⟨⟨fx,B⟩,b7⟩:=bq;have b4:c.J4 l.bit=c.bit k:=by rw[al];rfl
 rw[b4]at B;obtain⟨gx,gb,b2,ah,cd,cn,cc,co,a5,d1,d2,d3,d4,⟨bm,bv,a2⟩,d6⟩:=e.chart.ex;obtain⟨b8,a0,pq,rfl,b1⟩:=a2 k hk;obtain⟨bx,dn,dv,a3,bf⟩:=ja (d2.f e.gh) (d3.f e.gh);obtain⟨na,a9,zs,hz,b3⟩:=bf none .non iX rfl;obtain⟨n,Y,b5⟩:=wx ag;refine⟨_,rfl,p,dx,_,V.ref ch,rfl,U,(by kernel_rfl),ch,gx,_,V.ref gb,rfl,e.gh.ins d1,(by kernel_rfl),gb,bx,_,_,rfl,a3,gE _ _,dn,_,rfl,a9,_,rfl,p,dx,_,rfl,U,(by kernel_rfl),_,rfl,a.1,fx,_,V.str l.part,rfl,B,(by kernel_rfl),G,p,ch,le,fl,c,.non,none,l.part,rfl,e,iX,rfl,ag,fun H1 R=>?_⟩;obtain⟨zv,a6,bd⟩:=iS b3 (show iB (c.needs none) ((((c.needs none).map (·.1)).idxOf l.part:Nat):Int)=some n by rw[io];exact Y);refine⟨na,_,_,zv,rfl,rfl,fb.of (R _ _ hz),jE a6,?_⟩;have g1:eD G H1:=e.gh.trans R.toF;have Z:=R _ _ U;have r:=R _ _ B;refine⟨_,rfl,p,dx,_,V.ref ch,rfl,Z,(by kernel_rfl),ch,gx,_,V.ref ah,rfl,g1.ins d1,(by kernel_rfl),_,rfl,a.1,fx,_,V.int (c.bit k:Nat),rfl,r,(by kernel_rfl),ah,V.ref pq,rfl,.inl ⟨bm,Sum.inl (c.bit k:Int),g1.rd bv,rfl,a0.symm⟩,pq,_,_,V.int k.2,rfl,rfl,gH.of (g1.tup b1),rfl,?_⟩;refine⟨_,rfl,p,dx,_,V.ref ch,rfl,Z,(by kernel_rfl),ch,gx,_,V.ref gb,rfl,g1.ins d1,(by kernel_rfl),gb,bx,_,rfl,R _ _ a3,qe _ _ (by decide +kernel) (by decide +kernel),_,rfl,gb,a5,c.es,_,n,rfl,d2.f g1,gX.same R bd,by rw[←c.n_eq];exact e.n,fun l0 ms H2 s2 b9 J a7 bl=>?_⟩;have a1:=pQ a7 bl;subst a1;have d:=R.trans s2;refine⟨l0,rfl,⟨_,fb.of J⟩,?_⟩;have cp:(iT c.es n).length<64:=by
  have h1:=kZ c.es n;have h2:=e.n;rw[c.n_eq]at h2;omega
 refine ia (xs:=(iT c.es n).map V.int) (fun D i ys o=>∃j,iy G H O j o O∧H2 D=none∧j D=none∧o D=some (.lst ys)∧eG (del H2 [D]) o∧Paired (fg j) ys ((((iT c.es n).take i).filter fun v=>decide (k.2<v)).map fun v=>(k.1,v)))
  (fun D hD=>⟨G,(iy.same e.gh d).own (d.free hD) (e.gh.free (d.free hD)),hD,e.gh.free (d.free hD),d0,fun b u I=>by
   have nb:b≠D:=fun z=>by rw[z,fH (by simp)]at I;cases I
   rw[ef nb];exact fm _ _ b u I,by rw[cZ];exact .nil⟩)
  (fun D i ys o hi ⟨j,L,m,e3,S,N,M⟩=>⟨fb.of (N _ _ (by rw[eE (by simpa using eo J m)];exact J)),S,?_⟩) (fun D i y ys o hi ⟨j,L,m,e3,S,N,M⟩=>?_) (fun D ys o ⟨j,L,m,e3,S,N,M⟩=>?_)
 ·have h1:=Paired.length M;rw[ab]at h1;have h2:=bz (fun v=>decide (k.2<v)) ((iT c.es n).take i);rw[aQ]at h2;exact eV (by omega)
 ·rw[ae]at hi;obtain⟨v,hv,rfl⟩:=au.mp hi;have a4:∀{x u},H2 x=some u→o x=some u:=fun {x u} h=>N _ _ (by rw[eE (by simpa using eo h m)];exact h);unfold i8;refine⟨_,rfl,_,rfl,_,_,rfl,rfl,_,rfl,?_⟩;skip;have an:=fE hv;by_cases hlt:k.2<v
  ·rw[aq hlt];refine gW ⟨_,rfl,a.1,fx,_,V.str l.part,rfl,a4 (s2 _ _ r),(by kernel_rfl),_,rfl,(by show 2≤sizeLine;decide),fun t ht=>?_⟩;have ba:D≠t:=eo S ht;have gw:=L.trans (iy.put (O:=O) (u:=.tup [.str l.part,.int v]) L.gh ht);have st:=eB ht (.tup [.str l.part,.int v]);have b6:H D=none:=d.free m;have gD:upd j t (.tup [.str l.part,.int v]) D=none:=by rw[ef ba];exact e3
   refine⟨st _ _ S,upd j t (.tup [.str l.part,.int v]),gw.own b6 gD,m,gD,d0,fun b u I=>?_,?_⟩
   ·have nb:b≠D:=fun z=>by rw[z,fH (by simp)]at I;cases I
    rw[ef nb];exact st _ _ (N _ _ I)
   ·rw[an,bS,av];have e9:([v].filter fun v=>decide (k.2<v))=[v]:=by rw[aH,if_pos (by simpa using hlt)];rfl
    rw[e9];refine Paired.snoc (Paired.JH M fun _ _ z=>fg.f ((eD.refl j).upd (L.gh.free ht)) z) ⟨t,rfl,?_⟩;rw[d0,←a8]
  ·rw[ar hlt];refine fC ⟨j,L,m,e3,S,N,?_⟩;rw[an,bS,av];have e9:([v].filter fun v=>decide (k.2<v))=[]:=by rw[aH,if_neg (by simpa using hlt)];rfl
   rw[e9,cQ,cf];exact M
 ·rw[ab,aF]at M;refine q j o D ys n L (fun y hy=>?_) (d.free m) e3 S Y b5 M;obtain⟨u,as⟩:=ad y hy;have h2:=d _ _ as;rw[N y u (by rw[eE (by simpa using eo h2 m)];exact h2),as]
end
end FB
namespace FB
open PySem L2 PyProof.Rows
variable {F:List Fk}{L:ij}{d:Sd}{g:Fk}{t:Nat}
theorem zf {α:Type}{l:List α}{x:α}(h:l[t]?=some x):l=l.take t++x::l.drop (t+1):=by
 obtain⟨h1,h2⟩:=af.mp h;subst h2;rw[←dR h1,dE]
theorem jp {c:eg}(h:fG c L F.reverse d)(a:F[t]?=some g):fG c L (F.take t).reverse g.sd∧j5 c g:=by
 have e:F.reverse=(F.drop (t+1)).reverse++g::(F.take t).reverse:=by
  conv=>lhs;rw[zf a]
  rw[cH,cV,bI];rfl
 exact h.to e
theorem CU {c:eg}(h:fG c L F.reverse d){g':Fk}(o:F[t]?=some g)(a:F[t+1]?=some g'):∃k,g.bit=some k∧k∈c.ks∧k.1=g.part∧g'.sd.picked=g.sd.picked ||| c.bit k∧¬c.has g.sd.dead k:=by
 obtain⟨h1,_⟩:=jp h a;have e:(F.take (t+1)).reverse=g::(F.take t).reverse:=by
  rw[bb,o,cH];rfl
 rw[e]at h1;have j:=h1.live g (by simp);cases h1 with
 |cons a1 a2 a3 a4=>
  obtain⟨k,b,l,p⟩:=a3;obtain⟨m,i,_⟩:=a2.bit k b;exact⟨k,b,m,i,l,j k b⟩
theorem vR {c:eg}(h:fG c L F.reverse d)(hg:g∈F):∃k,g.bit=some k∧k∈c.ks∧k.1=g.part∧c.has d.picked k∧¬c.has g.sd.dead k:=by
 have a:g∈F.reverse:=cs.mpr hg;obtain⟨h1,_⟩:=h.fks g a;have key:∀{R:List Fk} {s:Sd},fG c L R s→∀g∈R,∃k,g.bit=some k:=by
  intro R s j
  induction j with
  |nil _ _=>exact fun g hg=>nomatch hg
  |cons _ _ a3 _ ih=>
   intro g hg;rcases am.mp hg with rfl | hg
   ·obtain⟨k,b,_⟩:=a3;exact⟨k,b⟩
   ·exact ih g hg
 obtain⟨k,e⟩:=key h g a;obtain⟨l,i,_⟩:=h1.bit k e;exact⟨k,e,l,i,(h.sub g a).2.2 k e,h.live g a k e⟩
def eg.Lz (c:eg)(pk:Nat)(x:Str):Nat:=c.maskOf fun k=>decide (c.has pk k)&&decide (k.1∈c.start.take (c.start.idxOf x))
theorem eg.LA {c:eg}{pk:Nat}{x:Str}{k:Pk}:c.has (c.Lz pk x) k↔c.has pk k∧k.1∈c.start.take (c.start.idxOf x):=by
 unfold eg.Lz;rw[eg.Kk,aB,aw,aw];exact⟨fun h=>h.2,fun h=>⟨h.1.1,h⟩⟩
theorem sH {α:Type} [DecidableEq α] {l:List α}{x:α}{n:Nat}(h:x∈l)(b:l.idxOf x<n):x∈l.take n:=by
 have a:=bt.mpr h;refine ax.mpr ⟨l.idxOf x,?_⟩;rw[cg,if_pos b,ak a]
 exact congrArg some (cu a)
theorem C2 {α:Type} [DecidableEq α] {l:List α}{x y:α}(a:x∈l)(b:y∈l)(h:l.idxOf x=l.idxOf y):x=y:=by
 have h1:=cu (bt.mpr a);have h2:=cu (bt.mpr b);rw[←h1,←h2]
 congr 1
theorem xS {c:eg}(h:fG c L F.reverse d)(I:qg c F){N:Nat}{fk:Fk}{k:Pk}(C:F[N]?=some fk)(e:F[t]?=some g)(b:t<N)(m:fk.part∈c.start)(x:g.bit=some k)(J:¬c.has (c.Lz d.picked fk.part) k):∀j∈c.ks,j.1=g.part→c.has g.sd.dead j∨j=k:=by
 obtain⟨D,E⟩:=jp h C;obtain⟨M,p⟩:=jp h e;have a:=E.out D.sd;have q:=vR h (ai e);obtain⟨Q,B,P,o,O,G⟩:=q;rw[x]at B;cases B;have A:∀y,c.isP g.sd.picked y→c.isP fk.sd.picked y:=(by rintro y ⟨j,h1,h2⟩;exact⟨j,I t N g fk (cD b) e C j h1,h2⟩);have s:g∈(F.take N).reverse:=by
  rw[cs];refine ax.mpr ⟨t,?_⟩;rw[cg,if_pos b];exact e
 have v:c.has fk.sd.picked k:=(D.sub g s).2.2 k x;have i:¬g.part=fk.part:=fun z=>a ⟨k,v,by rw[o,z]⟩;rcases p.rule with ⟨w,H⟩ | r | r
 ·exfalso;rcases Nat.lt_trichotomy (c.start.idxOf g.part) (c.start.idxOf fk.part) with z | z | z
  ·exact J (eg.LA.mpr ⟨O,by rw[o];exact sH w z⟩)
  ·exact i (C2 w m z)
  ·exact a (A _ (H fk.part m z))
 ·intro j K l;by_cases hd:c.has g.sd.dead j
  ·exact .inl hd
  ·exact .inr (r j k K P l o hd G)
 ·exact absurd (A _ (r fk.part m)) a
theorem CN {c:eg}{pk:Nat}{e:Nat×Rs}(g:gY c L)(b:v4 c.es c.sn (c.listed pk))(d:e∈L)(h:∀j,c.has e.1 j→c.has pk j):False:=by
 obtain⟨i,hi⟩:=ax.mp d;refine FO (ls:=c.lns L) (fun i l a=>?_) b i (c.ln e) ?_ fun p hp=>eg.J9.mpr (h p (eg.J9.mp hp))
 ·unfold eg.lns at a;rw[ae]at a;obtain⟨x,m,rfl⟩:=au.mp a;exact g.good i x m
 ·unfold eg.lns;rw[ae,hi];rfl
end FB
namespace FB
open PySem L2 PyProof.Rows
seal mj PS PE PT PA
def rc (H:Hp)(O:List Addr)(A:List (Addr×Addr))(H':Hp)(O':List Addr):Prop:=∀b u,H b=some u→b∉O→b∉A.map (·.2)→(H' b=some u∨(Dh u∧∃o,H' b=some (.frz o u)))∧b∉O'
theorem iy.frx {G H G' H':Hp}{O O':List Addr}{A:List (Addr×Addr)}(g:iy G H O G' H' O'):rc H O A H' O':=fun b u h n _=>⟨g.fr b u (by rw[eE n];exact h),g.out n h⟩
theorem rc.trans {H H1 H2:Hp}{O O1 O2:List Addr}{A:List (Addr×Addr)}(a:rc H O A H1 O1)(b:rc H1 O1 A H2 O2):rc H O A H2 O2:=fun x u h n m=>by
 obtain⟨z,y⟩:=a x u h n m;rcases z with z | ⟨z1,o,z2⟩
 ·exact b x u z y m
 ·obtain⟨w1,w2⟩:=b x _ z2 y m;refine⟨.inr ⟨z1,o,?_⟩,w2⟩;rcases w1 with w | ⟨w,_⟩
  ·exact w
  ·exact w.elim
inductive Bk (CB CC CL CS CF CT:Addr)(vs:List V)(H:Hp)(Q:VK)(E:XK):Prop
 |mk (G:Hp)(p ch le fl sl:Addr)(c:eg)(L:ij)(O:List Addr)(A:List (Addr×Addr))(F:List Fk)(N:Nat)(fk:Fk)(d:Sd)(v:V)(k:Pk)(_:vs=[.ref p,v,.int (c.Lz d.picked fk.part:Nat),.ref sl])(_:SS CB CC CL CS CF CT G H p ch le fl c L O A F)(_:fg G v k)(_:F[N]?=some fk)(_:k∈c.ks)(_:k.1=fk.part)(_:c.has fk.sd.dead k)(_:fk.part∈c.start)(_:fG c L F.reverse d)(_:v4 c.es c.sn (c.listed d.picked))(_:¬c.has d.picked k)(_:H sl=some (.lst ((A.take N).map fun a=>V.ref a.1)))(_:sl∉O)(_:∀(G' H':Hp) (L':ij) (O':List Addr) (e:Nat×Rs),eD G G'→rc H O A H' O'→SS CB CC CL CS CF CT G' H' p ch le fl c L' O' A (F.map (c.Kv k e.1))→(∃X,L'=L++X)→e∈L'→(∀j,c.has e.1 j→j=k∨c.has (c.Lz d.picked fk.part) j)→fG c L' (F.map (c.Kv k e.1)).reverse (c.Ku k e.1 d)→Q .non H'):Bk CB CC CL CS CF CT vs H Q E
def rB (CB CC CL CS CF CT:Addr):Sp:=Bk CB CC CL CS CF CT
section
variable {P:Program}{w:World}{K:W.Frag}{mg:Str→Option Value}{base:Heap}{f:Addr}{fd:FuncData}
theorem Cc:eN ["self","pick","kept","forks","place","fork"] ["self","pick","kept","forks"] (eF uY):=i9
theorem Ah {CB CC CL CS CF CT:Addr}(F:iN K "show_barred" "Search.show_barred" uY f fd)(T:tw K mg CS)(cz:TC K mg CC)(bv:TL K mg CL)(TF:Bw K mg CF)(MA:Mt P w K mg base CS ff 4 "line_against" ["self","pick"] (mx CB CC CL CS CF CT))(MS:Mt P w K mg base CS ff 5 "shut" ["self","fork","known"] (rp CB CC CL CS CF CT))(MM:Mt P w K mg base CS ff 1 "mark_dead" ["self","bit","place"] (rE CB CC CL CS CF CT)):eZ P w K mg base ff 6 f fd ["self","pick","kept","forks"] (rB CB CC CL CS CF CT):=by
 refine F.ok Cc (fun vs H Q E h=>?_) (fun cdv A outer s H vs Q E hr h=>?_)
 ·obtain⟨G,p,ch,le,fl,sl,c,L,O,AA,FF,N,fk,d,v,k,rfl,_⟩:=h;rfl
 obtain⟨G,p,ch,le,fl,sl,c,L,O,AA,FF,N,fk,d,v,k,rfl,l,hv,hN,hk,c5,M,da,C,co,c0,bd,an,q⟩:=h;have hu:=gN hr;refine⟨_,(ee (eK (i:=4) Cc.nd rfl (Or.inl rfl) (ib MA (hr.mono (by decide:4≤5)) eT (pv 0) (dZ (pv 1) el))) (ee (fO PassesOwn.never rfl (Ew rfl T.rev (pv 3)) (eM (i:=5) Cc.nd rfl (Or.inl rfl)) (eA (fF (u7 (fc hW (fc hW (eL fh (eJ bv.cl bv.nMa (eJ T.cl T.nLe (pv 0))) (pv 4) (fun _ _=>rfl)) (eJ TF.cl TF.nBi (pv 5))) (iP kE (pv 2))) (fun _=>rfl)) (eA (eK (i:=4) Cc.nd rfl (Or.inl rfl) (ib MS hr eT (pv 0) (dZ (pv 5) (dZ (Cr (tN (eJ TF.cl TF.nBi (pv 5)) (pv 4) wl) rfl rfl (by intro z;cases z) (by decide)) el))))) eU))) (eA (gq (ib MM (hr.mono (by decide:1≤5)) eT (pv 0) (dZ (fe hu (eJ cz.cl cz.nBits (eJ T.cl T.nCh (pv 0))) (pv 1) (fun _ _=>rfl)) (dZ (pv 4) el))))))),?_⟩;obtain⟨dx,hp⟩:=l.se.self;have d6:=l.se.gh.ins hp;have I:qg c FF:=by
  have b7:=C.mono ⟨fk.part,d,none⟩ rfl;rw[cX]at b7;intro i i' f f' hi h1 h2;refine b7 i i' f f' hi ?_ ?_
  ·rw[aI (af.mp h1).1];exact h1
  ·rw[aI (af.mp h2).1];exact h2
 have a9:∀f∈FF,iC c L f.sd:=fun f hf=>(C.fks f (cs.mpr hf)).2;have ag:FF.length≤64:=by
  have:=C.depth;rw[cq]at this;have:=l.se.n
  lia
 obtain⟨cn,dp⟩:=jp C hN;have ah:¬c.isP fk.sd.picked k.1:=by rw[c5];exact dp.out cn.sd
 have ey:N<FF.length:=(af.mp hN).1;have lA:AA.length=FF.length:=Paired.length l.fk.p;have U:=ai hN;have ct:∀j,c.has fk.sd.picked j→c.has d.picked j:=(C.sub fk (cs.mpr U)).1;have d9:∀a b,(a=k∨c.has fk.sd.picked a)→(b=k∨c.has fk.sd.picked b)→a.1=b.1→a=b:=fun a b h1 h2 e=>by
  rcases h1 with rfl | h1 <;> rcases h2 with rfl | h2
  ·rfl
  ·exact absurd ⟨b,h2,e.symm⟩ ah
  ·exact absurd ⟨a,h1,e⟩ ah
  ·exact cn.sd.one a b h1 h2 e
 refine⟨_,rfl,p,dx,_,rfl,d6,(by kernel_rfl),_,rfl,G,p,ch,le,fl,c,L,O,AA,FF,v,k,rfl,l.se,l.led,l.ok,l.fk,hv,hk,I,a9,⟨fk,U,M,ah⟩,ag,?_⟩;intro G1 H1 O1 L1 j1 e1 bf dc cx c1 c7 a3 _;have cv:=bf.keep an bd fun z=>z;have ek:=bf.out an bd;refine⟨_,rfl,sl,_,rfl,fb.of cv,?_⟩;refine C6 (K:=K) (a:=sl) (xs:=(AA.take N).map fun a=>V.ref a.1) (fun i σ H2=>∃(G2:Hp) (O2:List Addr) (Z:ij) (j:Nat) (e:Nat×Rs) (o5:Option V),σ=[some (.ref p),some v,some (.int (c.Lz d.picked fk.part:Nat)),some (.ref sl),some (.int (j:Nat)),o5]∧iy G H O G2 H2 O2∧gf CL G2 H2 le ch c Z O2∧gY c Z∧(∃X,Z=L++X)∧Z[j]?=some e∧(∀x,c.has e.1 x→x=k∨c.has fk.sd.picked x)∧(∀g,FF[N-i]?=some g→∀x,c.has e.1 x→x=k∨c.has (c.Lz d.picked fk.part) x∨c.has g.sd.picked x))
  ⟨G1,O1,L1,j1,e1,none,rfl,bf,dc,cx,c1,c7,fun x hx=>a3.2 fk U M x hx,fun g hg x hx=>?_⟩ ((by rintro i σ H2 _ ⟨_,_,_,_,_,_,_,o,_⟩;exact fb.of (o.keep an bd fun z=>z))) ?_ ?_
 ·rw[Nat.sub_zero,hN]at hg;cases hg;exact(a3.2 fk U M x hx).imp id .inr
 ·rintro i x σ H2 eh hi ⟨G2,O2,Z,j,e,o5,rfl,o,D,t,aa,R,a4,J⟩;rw[ab,aQ]at eh hi;have eu:i<N:=by lia
  have b6:min N AA.length=N:=by lia
  rw[b6,ae,cg]at hi
  rw[if_pos (by lia)]at hi;obtain⟨a,ha,rfl⟩:=au.mp hi;have a5:=l.fk.grow o l.sep;have r:=yP.grow l.fk o l.sep;obtain⟨g,hg,⟨fx,a6⟩,ej⟩:=Paired.J2 a5.p ha;obtain⟨g',hg'⟩:∃g',FF[N-i]?=some g':=⟨FF[N-i]'(by lia),ak _⟩;have bq:N-1-i+1=N-i:=by lia
  obtain⟨S,b1,b2,b3,b4,b5⟩:=CU C hg (by rw[bq];exact hg');have ed:c.J4 g.bit=c.bit S:=by rw[b1];rfl
  rw[ed]at a6;have a0:=l.se.grow o.gg o.gh;have al:=o.gh.ins (o.gg.ins hp);obtain⟨lx,ma,re,pm,pp,es,rs,Ol,hO,dl,ec,c4⟩:=id D.ex;have c8:(Z.map (·.1))[j]?=some e.1:=by rw[ae,R];rfl
  have c6:=t.lt e (ai R);refine⟨_,rfl,p,dx,_,V.ref le,rfl,al,(by kernel_rfl),le,lx,_,V.ref ma,rfl,o.gh.ins dl,(by kernel_rfl),_,rfl,ma,_,_,_,rfl,rfl,fb.of ec,jX c8,_,rfl,a.1,fx,_,V.int (c.bit S:Nat),rfl,a6,(by kernel_rfl),_,_,rfl,rfl,_,rfl,_,rfl,_,_,rfl,rfl,_,rfl,?_⟩;dsimp only;rw[nL,qv,pX];have hX:∀y,c.has (ii (e.1 &&& c.bit S) (c.Lz d.picked fk.part)) y↔(c.has e.1 y∧y=S)∧¬c.has (c.Lz d.picked fk.part) y:=fun y=>by rw[eg.Kc,eg.Kb,eg.Kd b2]
  have cc:∀y,c.has g.sd.picked y→c.has fk.sd.picked y:=I (N-1-i) N g fk (by lia) hg hN;have as:N-(i+1)=N-1-i:=by lia
  by_cases hc0:ii (e.1 &&& c.bit S) (c.Lz d.picked fk.part)=0
  ·rw[aq hc0];refine fC ⟨G2,O2,Z,j,e,_,rfl,o,D,t,aa,R,a4,fun g2 a2 y B=>?_⟩;rw[as,hg]at a2;cases a2;rcases J g' hg' y B with z | z | z
   ·exact .inl z
   ·exact .inr (.inl z)
   ·rw[b4]at z;rcases eg.Ka.mp z with u | u
    ·exact .inr (.inr u)
    ·have ei:=(eg.Kd b2).mp u;refine .inr (.inl (Classical.byContradiction fun nk=>?_));have:=(hX y).mpr ⟨⟨B,ei⟩,nk⟩;rw[hc0]at this;exact eg.Ke this
  ·rw[ar hc0];refine gW ?_;have b9:c.has e.1 S∧¬c.has (c.Lz d.picked fk.part) S:=by
    refine Classical.byContradiction fun nk=>hc0 (eg.Kg (jo (nM c6)) fun y B=>?_);obtain⟨⟨z1,z2⟩,z3⟩:=(hX y).mp B;rw[z2]at z1 z3;exact nk ⟨z1,z3⟩
   refine⟨_,rfl,p,dx,_,rfl,al,(by kernel_rfl),_,rfl,fun kd M=>?_⟩;have eb:a.1≠kd:=eo a6 M;refine⟨_,rfl,a.1,fx,_,V.int (c.bit S:Nat),rfl,(by rw[ef eb];exact a6),(by kernel_rfl),_,rfl,d0,[(Sum.inl (c.bit S:Int),V.int (j:Nat))],rfl,(by show 1≤15;decide),?_⟩;rw[iK];have s3:=eB M (.dK (jQ [] [(Sum.inl (c.bit S:Int),V.int (j:Nat))]));have ds:upd H2 kd (.dK (jQ [] [(Sum.inl (c.bit S:Int),V.int (j:Nat))])) kd=some (.dK [(Sum.inl (c.bit S:Int),V.int (j:Nat))]):=d0;generalize upd H2 kd (.dK (jQ [] [(Sum.inl (c.bit S:Int),V.int (j:Nat))]))=H3 at *;have bx:=iy.same (O:=O2) o.gh s3;have dy:kd∉O2:=fun z=>by obtain⟨u,ad⟩:=D.liv kd z;rw[M]at ad;cases ad
   have bl:=a5.grow bx r;have bm:∀x∈L,x∈Z:=fun x hx=>by obtain⟨X,hX⟩:=aa;rw[hX];exact aO _ hx
   refine⟨G2,p,ch,le,fl,c,Z,O2,AA,FF,N-1-i,a,g,kd,_,some (S,j,e.1),rfl,a0.same s3,D.same s3,t,bl,r,I,fun f hf=>(a9 f hf).led bm,ag,ha,hg,(jp C hg).2.open_,.inl ds,dy,⟨b2,rfl,e,R,rfl⟩,fun y B d8=>?_,fun m hm=>?_,?_⟩
   ·rcases xS C I hN hg (by lia) da b1 b9.2 y B d8 with z | z
    ·exact .inl z
    ·exact .inr ⟨j,e.1,by rw[z]⟩
   ·have cy:∀y,c.has m y→y=k∨c.has fk.sd.picked y:=fun y B=>by
     rcases hm y B with z | ⟨k0,j0,m0,z1,z2,z3⟩
     ·exact .inr (cc y z)
     ·cases z1;exact a4 y z2
    exact fun y1 y2 h1 h2 e=>d9 y1 y2 (cy y1 h1) (cy y2 h2) e
   intro G4 H4 O4 L4 j' e' d7 c2 b8 dd ea ba _;have dn:∃X,L4=L++X:=by
    obtain⟨X,hX⟩:=aa;obtain⟨Y,hY⟩:=dd;exact⟨X++Y,by rw[hY,hX,bI]⟩
   refine⟨G4,O4,L4,j',e',_,rfl,o.trans (bx.trans d7),c2,b8,dn,ea,fun y B=>?_,fun g2 a2 y B=>?_⟩
   ·rcases ba y B with z | ⟨k0,j0,m0,z1,z2,z3⟩
    ·exact .inr (cc y z)
    ·cases z1;exact a4 y z2
   ·rw[as,hg]at a2;cases a2;rcases ba y B with z | ⟨k0,j0,m0,z1,z2,z3⟩
    ·exact .inr (.inr z)
    ·cases z1;rcases J g' hg' y z2 with z | z | z
     ·exact .inl z
     ·exact .inr (.inl z)
     ·rw[b4]at z;rcases eg.Ka.mp z with u | u
      ·exact .inr (.inr u)
      ·exact absurd ((eg.Kd b2).mp u) z3
 ·rintro σ H2 ⟨G2,O2,Z,j,e,o5,rfl,o,D,t,aa,R,a4,J⟩;rw[ab,aQ,show min N AA.length=N by lia,bR]at J;obtain⟨g0,hg0⟩:∃g0,FF[0]?=some g0:=⟨FF[0]'(by lia),ak _⟩;have c9:g0.sd.picked=0:=by
   have h0:=(jp C hg0).1;rw[cZ,List.reverse_nil]at h0;cases h0 with
   |nil h1 _=>exact h1
  have cp:∀y,c.has e.1 y→y=k∨c.has (c.Lz d.picked fk.part) y:=fun y B=>by
   rcases J g0 hg0 y B with z | z | z
   ·exact .inl z
   ·exact .inr z
   ·rw[c9]at z;exact(eg.Ke z).elim
  have a7:=ai R;have dv:c.has e.1 k:=Classical.byContradiction fun nk=>CN t co a7 fun y B=>by
   rcases a4 y B with z | z
   ·rw[z]at B;exact absurd B nk
   ·exact ct y z
  have a0:=l.se.grow o.gg o.gh;have a5:=l.fk.grow o l.sep;have r:=yP.grow l.fk o l.sep;have al:=o.gh.ins (o.gg.ins hp);obtain⟨gx,gb,a1,eq,et,ev,ep,ew,em,d1,d2,d3,d4,d5⟩:=a0.chart.ex;refine⟨_,rfl,p,dx,_,rfl,al,(by kernel_rfl),_,rfl,p,dx,_,V.ref ch,rfl,al,(by kernel_rfl),ch,gx,_,V.ref a1,rfl,o.gh.ins d1,(by kernel_rfl),_,rfl,a1,_,rfl,(d4.f o.gh).get (w:=some k) (gs hk) (fg.f o.gh (fg.f o.gg hv)),_,rfl,G2,p,ch,le,fl,c,Z,O2,AA,FF,k,j,e,rfl,a0,D,a5,R,ag,fun H3 s3 bl=>?_⟩;have a8:∀{x},x∈AA.map (·.2)→G2 x=none∧x∉O2:=fun {x} hx=>by
   obtain⟨a,ha,rfl⟩:=aA.mp hx;exact⟨(a5.off a ha).2,(r.2 a ha).2⟩
  have g3:eD G2 H3:=il o.gh (fun x hx=>(a8 hx).1) s3.toF;have c3:gf CL G2 H3 le ch c Z O2:=D.grow (eD.refl _) D.off fun y B=>by
   obtain⟨u,ad⟩:=D.liv y B;rw[s3 y u (by rw[eE (fun z=>(a8 z).2 B)];exact ad),ad]
  have cd:=(C.led (L':=Z) fun x hx=>by obtain⟨X,hX⟩:=aa;rw[hX];exact aO _ hx).Kv hk a7 (t.lt e a7) dv c0;refine q G2 H3 Z O2 e o.gg (o.frx.trans fun b u hb n m=>⟨.inl (s3 b u (by rw[eE m];exact hb)),n⟩) ⟨a0.grow (eD.refl _) g3,c3,t,bl,r⟩ aa a7 cp ?_;rw[←List.map_reverse];exact cd
end
end FB
namespace FB
open PySem L2 PyProof.Rows
variable {i:Nat}
def eg.firstM (c:eg)(pk:Nat)(i:Nat):Nat:=c.maskOf fun k=>decide (c.has pk k)&&decide (k.1∈c.start.take i)
theorem eg.LB (c:eg)(pk:Nat)(x:Str):c.Lz pk x=c.firstM pk (c.start.idxOf x):=rfl
theorem eg.LC (c:eg)(pk:Nat):c.firstM pk 0=0:=eg.Kg (c.Kl _) fun k h=>by
 have:=(eg.Kk.mp h).2;simp at this
theorem eg.LD {c:eg}{pk:Nat}{x:Str}(h:c.start[i]?=some x):c.firstM pk (i+1)=c.firstM pk i ||| (c.KL x &&& pk):=by
 refine eg.ext (c.Kl _) (i6 (c.Kl _) (nM (c.Kl _))) fun k=>?_;rw[eg.Ka,eg.Kb,eg.KP];unfold eg.firstM;rw[bb,h];simp only[eg.Kk,aB,aw,az,Option.toList_some,aj]
 constructor
 ·rintro⟨h1,h2,h3 | h3⟩
  ·exact .inl ⟨h1,h2,h3⟩
  ·exact .inr ⟨⟨h1,h3⟩,h2⟩
 ·rintro(⟨h1,h2,h3⟩ | ⟨⟨h1,h3⟩,h2⟩)
  ·exact⟨h1,h2,.inl h3⟩
  ·exact⟨h1,h2,.inr h3⟩
theorem E3 {α:Type} [DecidableEq α] {l:List α}(e:l.Nodup){x:α}(h:l[i]?=some x):l.idxOf x=i:=by
 have b:=ai h;have a:=bt.mpr b;have h1:=cu a;obtain⟨h2,d⟩:=af.mp h;exact(List.getElem_inj e).mp (h1.trans d.symm)
def qk (f:Fk):Str×Option Pk:=(f.part,f.bit)
theorem B4 (c:eg)(k:Pk)(m:Nat)(F:List Fk):(F.map (c.Kv k m)).map qk=F.map qk:=by
 rw[cE];rfl
theorem zh {F F':List Fk}(h:F'.map qk=F.map qk){f:Fk}(b:F[i]?=some f):∃f',F'[i]?=some f'∧f'.part=f.part∧f'.bit=f.bit:=by
 have h1:(F'.map qk)[i]?=some (qk f):=by rw[h,ae,b];rfl
 rw[ae]at h1;obtain⟨f',h2,a⟩:=au.mp h1;exact⟨f',h2,congrArg (·.1) a,congrArg (·.2) a⟩
end FB
namespace FB
open PySem L2 PyProof.Rows
seal mj PS PE PT PA
variable {A:List (Addr×Addr)}{CB CC CF CT PP a b:Addr}{H H':Hp}{K:W.Frag}{O O':List Addr}{P:Program}{fd:FuncData}{mg:Str→Option Value}{w:World}
def DH (c:eg)(L:ij)(pk:Nat)(f:Fk):Prop:=f.part∈c.start→∀k,f.bit=some k→∀n,(c.needs none)[((c.needs none).map (·.1)).idxOf f.part]?=some n→∀kk∈c.Ly n k,∃e∈L,∀j,c.has e.1 j→j=kk∨c.has (c.Lz pk f.part) j
inductive Bj (CB CC CL CS CF CT:Addr)(vs:List V)(H:Hp)(Q:VK)(E:XK):Prop
 |mk (G:Hp)(p ch le fl:Addr)(c:eg)(L:ij)(O:List Addr)(A:List (Addr×Addr))(F:List Fk)(d:Sd)(_:vs=[.ref p,.int (d.picked:Nat)])(_:SS CB CC CL CS CF CT G H p ch le fl c L O A F)(_:fG c L F.reverse d)(_:v4 c.es c.sn (c.listed d.picked))(_:∀(G' H':Hp) (L':ij) (O':List Addr) (F':List Fk),eD G G'→rc H O A H' O'→SS CB CC CL CS CF CT G' H' p ch le fl c L' O' A F'→(∀f∈F,DH c L' d.picked f)→Q .non H'):Bj CB CC CL CS CF CT vs H Q E
def rA (CB CC CL CS CF CT:Addr):Sp:=Bj CB CC CL CS CF CT
theorem rc.refl (H:Hp)(O:List Addr)(A:List (Addr×Addr)):rc H O A H O:=fun b u h n _=>⟨.inl h,n⟩
theorem rc.rd (g:rc H O A H' O'){u:HO}(h:Rd H b u)(n:b∉O)(m:b∉A.map (·.2)):Rd H' b u:=by
 rcases h with h | ⟨o,h⟩
 ·rcases (g b u h n m).1 with z | ⟨_,o,z⟩
  ·exact .inl z
  ·exact .inr ⟨o,z⟩
 ·rcases (g b _ h n m).1 with z | ⟨z,_⟩
  ·exact .inr ⟨o,z⟩
  ·exact z.elim
theorem rc.no (g:rc H O A H' O'){u:HO}(h:H b=some u)(n:b∉O)(m:b∉A.map (·.2))(f:¬Dh u):H' b=some u:=(g b u h n m).1.resolve_right fun z=>f z.1
theorem A0 {xs:List V}{n:Nat}(h:n≤xs.length):oh xs none (some (n:Int))=xs.take n:=by
 unfold oh;rw[HT.zt,HT.wg,List.drop_zero,Nat.sub_zero,Nat.min_eq_left h]
section
variable {base:Heap}{f:Addr}
theorem tI:eN ["self","picked","ahead","mask","part","number","fork","pick"] ["self","picked"] (eF uX):=i9
theorem Ag {CL CS:Addr}(F:iN K "show_newest" "Search.show_newest" uX f fd)(T:tw K mg CS)(ba:TC K mg CC)(TF:Bw K mg CF)(MN:Mt P w K mg base CS ff 3 "newer_picks" ["self","fork"] (rC CB CC CS CF CT))(MB:Mt P w K mg base CS ff 6 "show_barred" ["self","pick","kept","forks"] (rB CB CC CL CS CF CT)):eZ P w K mg base ff 7 f fd ["self","picked"] (rA CB CC CL CS CF CT):=by
 refine F.ok tI (fun vs H Q E h=>?_) (fun cdv A outer s H vs Q E hr h=>?_)
 ·obtain⟨G,p,ch,le,fl,c,L,O,J,FF,d,rfl,_⟩:=h;rfl
 obtain⟨G,p,ch,le,fl,c,L,O,J,FF,d,rfl,o,gk,bq,q⟩:=h;have hu:=gN hr;refine⟨_,(ee (eK (i:=2) tI.nd rfl (Or.inl rfl) iA) (ee (eK (i:=3) tI.nd rfl (Or.inl rfl) er) (ee (fO PassesOwn.never rfl (zJ (fe hu (eJ ba.cl ba.nAl (eJ T.cl T.nCh (pv 0))) iR (fun _ _=>rfl))) (eM (i:=4) tI.nd rfl (Or.inl rfl)) (ee (jc hu (pv 2) (pv 4) (pv 3) rfl) (eA (j7 (i:=3) tI.nd rfl (Or.inl rfl) (fc hW (hU hu (eJ ba.cl ba.nOf (eJ T.cl T.nCh (pv 0))) (pv 4) (fun _ _=>rfl)) (pv 1)) t8)))) (eA (fO PassesOwn.never rfl (Cl rfl T.enum (eJ T.cl T.nFo (pv 0))) (nz (n:=2) rfl (gy (eM (i:=5) tI.nd rfl (Or.inl rfl)) (gy (eM (i:=6) tI.nd rfl (Or.inl rfl)) lu))) (eA (fF (iL (vc hu (eJ TF.cl TF.nPa (pv 6)) (pv 2))) (eA (fO PassesOwn.never rfl (fD (ib MN (hr.mono (by decide:3≤6)) eT (pv 0) (dZ (pv 6) el))) (eM (i:=7) tI.nd rfl (Or.inl rfl)) (eA (gq (ib MB hr eT (pv 0) (dZ (pv 7) (dZ (hU hu (pv 2) (eJ TF.cl TF.nPa (pv 6)) (fun _ _=>rfl)) (dZ (kU my (eJ T.cl T.nFo (pv 0)) oy (lr (pv 5))) el)))))))) eU))))))),?_⟩;obtain⟨dx,hp⟩:=o.se.self;have e7:=o.se.gh.ins hp;obtain⟨gx,gb,fa,g9,ea,dc,g5,g7,g8,d1,d2,d3,d4,d5,d6,d7,d8⟩:=o.se.chart.ex;have lA:J.length=FF.length:=Paired.length o.fk.p;intro m a3;have s1:=eB a3 (.dK []);have bm:upd H m (.dK []) m=some (.dK []):=d0;generalize upd H m (.dK [])=H1 at *;have g1:eD G H1:=o.se.gh.trans s1.toF;have c6:G m=none:=o.se.gh.free a3;obtain⟨da,e1,oa,a2,e2,e3,e4⟩:=(d7.f g1).get (w:=none) iX rfl;have e6:da≠m:=fJ e2 bm fun z=>nomatch z;have la:a2.length=c.start.length:=by
  have:=congrArg List.length e3;rw[ab,ab]at this;exact this
 have hc:c.start.length≤100:=br (nE _) (o.se.nds none);refine⟨_,rfl,p,dx,_,V.ref ch,rfl,g1.ins hp,(by kernel_rfl),ch,gx,_,V.ref dc,rfl,g1.ins d1,(by kernel_rfl),dc,_,rfl,e1,da,oa,a2,rfl,e2,?_⟩;refine sQ (kvs:=a2) (fun i σ H2=>∃kvs o4,σ=[some (.ref p),some (.int (d.picked:Nat)),some (.ref m),some (.int (c.firstM d.picked i:Nat)),o4,none,none,none]∧H2 m=some (.dK kvs)∧(∀b,b≠m→H2 b=H1 b)∧kvs.map (·.1)=(c.start.take i).map Sum.inr∧∀x∈c.start.take i,eW kvs (Sum.inr x)=some (.int (c.Lz d.picked x:Nat)))
  ⟨[],none,by rw[eg.LC];rfl,bm,fun _ _=>rfl,by simp,fun x hx=>by simp at hx⟩ (by
   rintro i σ H2 _ ⟨_,_,_,_,e,_⟩;rw[e da e6]
   exact e2) ?_ ?_
 ·rintro i kv σ H2 hi ⟨kvs,o4,rfl,a0,a8,B,a4⟩;have as:(a2.map (·.1))[i]?=some kv.1:=by rw[ae,hi];rfl
  rw[e3,ae]at as;obtain⟨x,hx,ex⟩:=au.mp as;rw[←ex];have N:c.start[i]?=some x:=hx;have ga:=ai N;have dl:i<100:=by have:=(af.mp N).1;lia
  have ed:c.start.idxOf x=i:=E3 (i5 _) N;have lk:kvs.length≤i:=by
   have:=congrArg List.length B;rw[ab,ab,aQ]at this
   lia
  have g2:eD G H2:=fun b u e=>by
   have nb:b≠m:=fun z=>by rw[z,c6]at e;cases e
   rw[a8 b nb];exact g1 b u e
  have eu:=pP (i5 _) N;have gn:eW kvs (Sum.inr x)=none:=by
   cases hq:eW kvs (Sum.inr x) with
   |none=>rfl
   |some u=>
    have:=iE hq;rw[B]at this;obtain⟨y,hy,e⟩:=aA.mp this;rw[Sum.inr.inj e]at hy;exact absurd hy eu
  refine⟨_,rfl,_,rfl,_,rfl,m,_,rfl,mU.k (k:=Sum.inr x) a0 (eV (by lia)),?_⟩;have ei:∀b,b≠m→upd H2 m (.dK (fq kvs (Sum.inr x) (.int (c.firstM d.picked i:Nat)))) b=H1 b:=fun b hb=>by rw[ef hb];exact a8 b hb
  have g3:eD G (upd H2 m (.dK (fq kvs (Sum.inr x) (.int (c.firstM d.picked i:Nat))))):=g2.upd c6;have f1:upd H2 m (.dK (fq kvs (Sum.inr x) (.int (c.firstM d.picked i:Nat)))) m=some (.dK (fq kvs (Sum.inr x) (.int (c.firstM d.picked i:Nat)))):=d0;generalize upd H2 m (.dK (fq kvs (Sum.inr x) (.int (c.firstM d.picked i:Nat))))=H3 at *;obtain⟨ez,es,et⟩:=d6.f g3;have go:∃k∈c.ks,k.1=x:=by
   obtain⟨n,hn,ev⟩:=gT.mp ga;obtain⟨j,f4,fp,_⟩:=bq.met none (fun k z=>nomatch z) n hn;exact⟨j,(eg.J9.mp f4).1,fp.trans ev⟩
  refine⟨_,rfl,_,rfl,p,dx,_,V.ref ch,rfl,g3.ins hp,(by kernel_rfl),ch,gx,_,V.ref ea,rfl,g3.ins d1,(by kernel_rfl),_,rfl,ea,_,rfl,.inl ⟨ez,Sum.inr x,es,rfl,((et x).2 go).symm⟩,_,rfl,_,_,rfl,rfl,_,_,rfl,rfl,?_⟩;refine⟨_,some (.str x),?_,f1,ei,?_,fun y hy=>?_⟩
  ·rw[nL,wP,eg.LD N];rfl
  ·rw[im _ gn,av,B,fE N,av];rfl
  ·rw[fX];by_cases ey:y=x
   ·subst ey;rw[if_pos rfl,eg.LB,ed]
   ·rw[if_neg (fun z=>ey (Sum.inr.inj z))];rw[fE N]at hy;exact a4 y ((az.mp hy).elim id fun z=>absurd (aj.mp z) ey)
 ·rintro σ H2 ⟨kvs,o4,rfl,a0,a8,B,a4⟩;rw[la,aF]at B a4;have c0:eG H H2:=fun b u e=>by rw[a8 b (eo e a3)];exact s1 _ _ e
  have dv:=iy.same (O:=O) o.se.gh c0;have S2:=o.grow dv (o.led.same c0) o.ok;have bd:m∉O:=fun z=>by obtain⟨u,r⟩:=o.led.liv m z;rw[a3]at r;cases r
  have b8:∀{G3 H3 F3},iQ CF CT G3 H3 c fl J F3→∀{x},x∈J.map (·.2)→∃C dy fs,H3 x=some (.ins C dy fs):=fun {G3 H3 F3} hF3 {x} hx=>by
   obtain⟨a,ha,rfl⟩:=aA.mp hx;obtain⟨t,ht⟩:=ax.mp ha;obtain⟨fk,_,_,sx,wa,e0,_⟩:=Paired.J2 hF3.p ht;exact⟨_,_,_,e0⟩
  have Z:m∉J.map (·.2):=fun z=>by obtain⟨C,dy,fs,h⟩:=b8 S2.fk z;rw[a0]at h;cases h
  have bx:∀x,eW kvs (Sum.inr x)=if x∈c.start then some (.int (c.Lz d.picked x:Nat)) else none:=fun x=>by
   by_cases hx:x∈c.start
   ·rw[if_pos hx];exact a4 x hx
   ·rw[if_neg hx];cases hq:eW kvs (Sum.inr x) with
    |none=>rfl
    |some u=>
     have:=iE hq;rw[B]at this;obtain⟨y,hy,e⟩:=aA.mp this;rw[Sum.inr.inj e]at hy;exact absurd hy hx
  have f7:=c0 _ _ e7;refine⟨_,rfl,p,dx,_,V.ref fl,rfl,f7,(by kernel_rfl),fl,_,rfl,S2.fk.l,?_⟩;refine AS (K:=K) (a:=fl) (xs:=J.map fun a=>V.ref a.1) (fun i σ H3=>∃(G3:Hp) (L3:ij) (O3:List Addr) (F3:List Fk) (d3:Sd) (o3 o4 o5 o6 o7:Option V),σ=[some (.ref p),some (.int (d.picked:Nat)),some (.ref m),o3,o4,o5,o6,o7]∧eD G G3∧rc H2 O J H3 O3∧SS CB CC CL CS CF CT G3 H3 p ch le fl c L3 O3 J F3∧F3.map qk=FF.map qk∧fG c L3 F3.reverse d3∧d3.picked=d.picked∧∀i'<i,∀f,FF[i']?=some f→DH c L3 d.picked f)
   ⟨G,L,O,FF,d,_,_,_,_,_,rfl,eD.refl _,rc.refl _ _ _,S2,rfl,gk,rfl,fun i' ct=>absurd ct (ce _)⟩ (by rintro i σ H3 _ ⟨_,_,_,_,_,_,_,_,_,_,_,_,_,S,_⟩;exact fb.of S.fk.l) ?_ ?_
  ·rintro i x σ H3 t hi ⟨G3,L3,O3,F3,d3,o3,o4,o5,o6,o7,rfl,an,cn,S3,U,ah,cp,g⟩ ht;rw[ae]at hi;obtain⟨a,ha,rfl⟩:=au.mp hi;obtain⟨f3,cx,g4⟩:=Paired.J2 S3.fk.p ha;obtain⟨f0,co,ag,bl⟩:=zh U.symm cx;have s4:=eB ht (.tup [.int (i:Nat),.ref a.1]);have gt:upd H3 t (.tup [.int (i:Nat),.ref a.1]) t=some (.tup [.int (i:Nat),.ref a.1]):=d0;generalize upd H3 t (.tup [.int (i:Nat),.ref a.1])=H4 at *;have dd:=iy.same (O:=O3) S3.se.gh s4;have S4:=S3.grow dd (S3.led.same s4) S3.ok;have a7:rc H2 O J H4 O3:=cn.trans dd.frx;obtain⟨⟨fx,hfa⟩,hstA⟩:mR CF CT G3 H4 c a f3:=by
    obtain⟨e9,z1,z2⟩:=Paired.J2 S4.fk.p ha;rw[cx]at z1;cases z1;exact z2
   have b6:Rd H4 m (.dK kvs):=a7.rd (.inl a0) bd Z;have b7:m∉O3:=(a7 m _ a0 bd Z).2;refine⟨t,_,rfl,gH.of gt,rfl,_,_,rfl,_,_,rfl,rfl,?_⟩;refine⟨_,rfl,a.1,fx,_,V.str f3.part,rfl,hfa,(by kernel_rfl),_,rfl,m,_,rfl,.inl ⟨kvs,Sum.inr f3.part,b6,rfl,rfl⟩,_,rfl,?_⟩;rw[bx f3.part];by_cases hps:f3.part∈c.start
   ·rw[if_pos hps];refine gW ?_;obtain⟨k,b1,b2,b3,b4,b5⟩:=vR ah (ai cx);have ek:=S4.se.gh.ins (an.ins hp);have a5:f3.part∈(c.needs none).map (·.1):=iV.mp hps;refine⟨_,rfl,p,dx,_,rfl,ek,(by kernel_rfl),_,rfl,G3,p,ch,le,fl,c,O3,a,f3,k,rfl,S4.se,⟨⟨fx,hfa⟩,hstA⟩,b1,b2,b3,a5,S4.led.liv,fun G5 H5 l xs n R ft hl g6 cd fu gp ec=>?_⟩;have f9:gf CL G5 H5 le ch c L3 O3:=S4.led.grow R.gg (fun y hy=>by obtain⟨u,r⟩:=S4.led.liv y hy;exact R.off (S4.led.off y hy) r) ft;have S5:=S4.grow R f9 S4.ok;have em:l∉O3:=fun z=>by obtain⟨u,r⟩:=S4.led.liv l z;rw[hl]at r;cases r
    have ej:l∉J.map (·.2):=fun z=>by obtain⟨C,dy,fs,h⟩:=b8 S5.fk z;rw[cd]at h;cases h
    refine⟨l,rfl,⟨_,fb.of cd⟩,?_⟩;have lx:=Paired.length ec;have eh:∀M∈c.Ly n k,M∈c.ks∧M.1=f3.part∧k.2<M.2:=fun M B=>by
     obtain⟨v,f5,rfl⟩:=aA.mp B;obtain⟨ew,gd⟩:=aS.mp f5;refine⟨(c.mem _).mpr ?_,b3,aW gd⟩;have:=(sI.mp ew).1;rw[gp,←b3]at this;exact this
    refine fU (K:=K) (a:=l) (xs:=xs) (fun j σ H6=>∃(G6:Hp) (L6:ij) (O6:List Addr) (F6:List Fk) (d6:Sd) (o7:Option V),σ=[some (.ref p),some (.int (d.picked:Nat)),some (.ref m),o3,o4,some (.int (i:Nat)),some (.ref a.1),o7]∧eD G5 G6∧rc H5 O3 J H6 O6∧SS CB CC CL CS CF CT G6 H6 p ch le fl c L6 O6 J F6∧(∃X,L6=L3++X)∧F6.map qk=FF.map qk∧fG c L6 F6.reverse d6∧d6.picked=d.picked∧∀M∈(c.Ly n k).take j,∃e∈L6,∀x,c.has e.1 x→x=M∨c.has (c.Lz d.picked f3.part) x)
     ⟨G5,L3,O3,F3,d3,_,rfl,eD.refl _,rc.refl _ _ _,S5,⟨[],by simp⟩,U,ah,cp,fun M B=>by simp at B⟩ (by rintro j σ H6 _ ⟨_,_,_,_,_,_,_,_,fx,_⟩;exact fb.of (fx.no cd em ej fun z=>z)) ?_ ?_
    ·rintro j x σ H6 hj ⟨G6,L6,O6,F6,d6,f8,rfl,a1,a6,S6,cc,I,D,al,aa⟩;obtain⟨M,dp,eq⟩:=Paired.J2 ec hj;obtain⟨as,cv,cy⟩:=eh M (ai dp);obtain⟨f6,a9,d9,ds⟩:=zh I co;have ep:f6.part=f3.part:=by rw[d9,ag]
     have eb:f6.bit=some k:=by rw[ds,bl,b1]
     have dn:=S6.se.gh.ins (a1.ins (R.gg.ins (an.ins hp)));obtain⟨⟨fx7,hfa7⟩,hst7⟩:mR CF CT G6 H6 c a f6:=by
      obtain⟨e9,z1,z2⟩:=Paired.J2 S6.fk.p ha;rw[a9]at z1;cases z1;exact z2
     have c5:Rd H6 m (.dK kvs):=a6.rd (R.frx.rd (A:=J) b6 b7 Z) b7 Z;refine⟨_,rfl,p,dx,_,rfl,dn,(by kernel_rfl),_,rfl,_,rfl,_,rfl,a.1,fx7,_,V.str f6.part,rfl,hfa7,(by kernel_rfl),m,_,rfl,.inl ⟨kvs,Sum.inr f6.part,c5,rfl,by rw[ep,bx f3.part,if_pos hps]⟩,_,rfl,p,dx,_,V.ref fl,rfl,dn,(by kernel_rfl),_,rfl,_,rfl,fl,_,rfl,fb.of S6.fk.l,fun sl bf=>?_⟩;have dl:i≤(J.map fun a=>V.ref a.1).length:=by
      rw[ab];exact cD (af.mp ha).1
     rw[A0 dl,←cJ];have s7:=eB bf (.lst ((J.take i).map fun a=>V.ref a.1));have f2:upd H6 sl (.lst ((J.take i).map fun a=>V.ref a.1)) sl=some (.lst ((J.take i).map fun a=>V.ref a.1)):=d0;generalize upd H6 sl (.lst ((J.take i).map fun a=>V.ref a.1))=H7 at *;have c9:=iy.same (O:=O6) S6.se.gh s7;have S7:=S6.grow c9 (S6.led.same s7) S6.ok;have gw:sl∉O6:=fun z=>by obtain⟨u,r⟩:=S6.led.liv sl z;rw[bf]at r;cases r
     obtain⟨hd,c3⟩:=jp D a9;have e5:c.has f6.sd.dead M:=(c3.bit k eb).2.2 M as (by rw[cv,ep]) cy;have fr:¬c.has d6.picked M:=fun z=>by
      obtain⟨k',c1,_,_,c4,_⟩:=vR D (ai a9);rw[eb]at c1;cases c1;have:=D.sd.one k M c4 z (by rw[b3,cv]);rw[this]at cy;exact absurd cy (Int.lt_irrefl _)
     refine⟨G6,p,ch,le,fl,sl,c,L6,O6,J,F6,i,f6,d6,x,M,by rw[al,ep];rfl,S7,fg.f a1 eq,a9,as,by rw[cv,ep],e5,by rw[ep];exact hps,D,by rw[al];exact bq,fr,f2,gw,?_⟩;intro G8 H8 L8 O8 e8 fo fy S8 c7 g0 cz c8;have fv:∃X,L8=L3++X:=by
      obtain⟨X,hX⟩:=cc;obtain⟨Y,hY⟩:=c7;exact⟨X++Y,by rw[hY,hX,bI]⟩
     refine⟨G8,L8,O8,_,_,_,rfl,a1.trans fo,a6.trans ((c9.frx).trans fy),S8,fv,by rw[B4];exact I,c8,by rw[eg.Kw];exact al,fun k2 bv=>?_⟩;rw[fE dp]at bv;rcases az.mp bv with z | z
     ·obtain⟨e,b9,c2⟩:=aa k2 z;obtain⟨Y,hY⟩:=c7;exact⟨e,by rw[hY];exact aO _ b9,c2⟩
     ·rw[aj.mp z];refine⟨e8,g0,fun y hy=>?_⟩;have:=cz y hy;rw[al,ep]at this;exact this
    ·rintro σ H6 ⟨G6,L6,O6,F6,d6,f8,rfl,a1,a6,S6,cc,I,D,al,aa⟩;rw[lx,aF]at aa;refine⟨G6,L6,O6,F6,d6,_,_,_,_,_,rfl,an.trans (R.gg.trans a1),a7.trans (R.frx.trans a6),S6,I,D,al,fun i' ct f hf=>?_⟩;rcases dj i' i with z | z
     ·have:=g i' z f hf;intro h1 k1 h2 n1 h3 M h4;obtain⟨e,b9,c2⟩:=this h1 k1 h2 n1 h3 M h4;obtain⟨X,hX⟩:=cc;exact⟨e,by rw[hX];exact aO _ b9,c2⟩
     ·have:i'=i:=by lia
      subst this;rw[co]at hf;cases hf;intro h1 k1 h2 n1 h3 M h4;rw[bl,b1]at h2;cases h2;rw[ag,fu]at h3;cases h3;rw[ag];exact aa M h4
   ·rw[if_neg hps];refine fC ⟨G3,L3,O3,F3,d3,_,_,_,_,_,rfl,an,a7,S4,U,ah,cp,fun i' ct f hf=>?_⟩;rcases dj i' i with z | z
    ·exact g i' z f hf
    ·have:i'=i:=by lia
     subst this;rw[co]at hf;cases hf;intro h1;rw[ag]at h1;exact absurd h1 hps
  ·rintro σ H3 ⟨G3,L3,O3,F3,d3,o3,o4,o5,o6,o7,rfl,an,cn,S3,U,ah,cp,g⟩;rw[ab,lA]at g;refine q G3 H3 L3 O3 F3 an (dv.frx.trans cn) S3 fun f hf=>?_;obtain⟨t,ht⟩:=ax.mp hf;exact g t (af.mp ht).1 f ht
end
inductive Bq (C:Addr)(vs:List V)(H:Hp)(Q:VK)(E:XK):Prop
 |mk (p dx a st:Addr)(es:List En)(_:vs=[.ref p,.ref a,.ref st])(_:H p=some (.ins C dx []))(_:iU H a es)(_:es.length<64)(_:(es.map eX).Nodup)(_:∀H',eG (del H [p]) H'→gi C H' p st es→Q .non H'):Bq C vs H Q E
def rH (C:Addr):Sp:=Bq C
section
variable {base:Heap}{f:Addr}
theorem Am {C:Addr}(F:iN K "__init__" "Board.__init__" zu f fd)(T:TB K mg C):eZ P w K mg base ff 1 f fd ["self","shelf","start"] (rH C):=by
 refine F.ok zk (fun vs H Q E h=>?_) (fun cdv A outer s H vs Q E hr h=>?_)
 ·obtain⟨p,dx,a,st,es,rfl,_⟩:=h;rfl
 obtain⟨p,dx,a,st,es,rfl,hp,c9,hl,bv,q1⟩:=h;have hu:=gN hr;refine⟨_,(ee (zF (pv 0) (tO (pv 2)) rfl) (ee (zF (pv 0) iA rfl) (ee (fO PassesOwn.never rfl (fD (pv 1)) (nz rfl (gy (eM (i:=3) zk.nd rfl (Or.inl rfl)) (gy (eM (i:=4) zk.nd rfl (Or.inl rfl)) (gy (eM (i:=5) zk.nd rfl (Or.inl rfl)) lu)))) (ee (fF (iL (Ct hu (gm (dZ (pv 3) (dZ (pv 4) el))) (lV (pv 0) rfl))) gR eU) (ee (kQ hu (lV (pv 0) rfl) (gm (dZ (pv 3) (dZ (pv 4) el))) (pv 5) rfl) (eA (gq (jB PySem.F.plainAttrs_list PySem.F.slot_list_append PySem.F.type_list_append gF (zQ (lV (pv 0) rfl) (pv 3) (gc el) ⟨rfl,rfl,rfl,rfl⟩) (dZ (pv 4) el))))))) (eA (fO PassesOwn.never rfl (fD (jV (vP rfl) rfl T.list dX (dZ (lV (pv 0) rfl) el))) (eM (i:=3) zk.nd rfl (Or.inl rfl)) (eA (jc hu (lV (pv 0) rfl) (pv 3) (zM rfl T.sorted (hU hu (lV (pv 0) rfl) (pv 3) (fun _ _=>rfl))) rfl))))))),?_⟩;have cx:=iU.apart hp c9;generalize b2:del H [p]=Hd at *;have sd:eG Hd H:=b2▸fm H [p];have b3:Hd p=none:=by rw[←b2];exact fH (by simp)
 obtain⟨xs,hx,bl⟩:=cx;have lx:xs.length=es.length:=Paired.length bl;refine fun q a4=>⟨_,rfl,d0,?_⟩;have N:p≠q:=eo hp a4;refine⟨_,rfl,p,C,dx,_,rfl,by rw[ef N,ef N];exact hp,T.cl,T.nN,(by show 0<1000;decide),?_⟩;rw[iK];generalize a6:upd (upd H q (.dN [(none,.ref st)])) p (.ins C dx (fZ "needs" (.ref q) []))=H1;have a3:H1 p=some (.ins C dx (fZ "needs" (.ref q) [])):=by rw[←a6];exact d0
 have bq:H1 q=some (.dN [(none,.ref st)]):=by rw[←a6,ef (Ne.symm N)];exact d0
 have s1:eG Hd H1:=by rw[←a6];exact eG.upd (eG.upd sd (sd.free a4)) b3
 refine fun m M=>⟨_,rfl,p,C,dx,_,rfl,by rw[ef (eo a3 M)];exact a3,T.cl,T.nV,(by show 1<1000;decide),?_⟩;generalize ah:upd (upd H1 m (.dK [])) p (.ins C dx (fZ "versions" (.ref m) (fZ "needs" (.ref q) [])))=H2;have ct:H2 p=some (.ins C dx (jZ q m)):=by rw[←ah];exact d0
 have b8:H2 q=some (.dN [(none,.ref st)]):=by rw[←ah,ef (Ne.symm N),ef (eo bq M)];exact bq
 have cc:H2 m=some (.dK []):=by rw[←ah,ef (Ne.symm (eo a3 M))];exact d0
 have s2:eG Hd H2:=by rw[←ah];exact eG.upd (eG.upd s1 (s1.free M)) b3
 refine⟨_,rfl,a,rfl,⟨xs,fb.of (s2 _ _ hx)⟩,fU (K:=K) (a:=a) (xs:=xs) (fun i σ H2=>JE C Hd es p a st dx q m i σ H2) ⟨⟨[],[],none,none,none,rfl,ct,b8,.nil,cc,⟨fun x=>.inl ⟨rfl,rfl⟩,fun x y l z=>(nomatch z),fun kv z=>(nomatch z),ao _⟩⟩,s2,cb⟩ (fun i σ H2 _ I=>fb.of (I.sm _ _ hx)) ?_ ?_⟩
 ·rintro i x σ H3 hi ⟨⟨t,vk,o3,o4,o5,rfl,L,O,G,X,R⟩,s3,an⟩;obtain⟨e,he,q0,na,zs,rfl,e1,e2,e3⟩:=Paired.J2 bl hi;have g1:=s3 _ _ e1;have dl:i<es.length:=(af.mp he).1;have ht:es.take (i+1)=es.take i++[e]:=by rw[bb,he];rfl
  have c1:(es.map eX)[i]?=some (eX e):=by rw[ae,he];rfl
  have b7:=vw an c1;have lk:t.length=i:=by rw[Paired.length G,aQ];lia
  have lv:=R.len;rw[aQ]at lv;refine⟨q0,_,rfl,gH.of g1,rfl,_,_,rfl,_,_,rfl,_,_,rfl,rfl,?_⟩;refine⟨_,rfl,_,rfl,(by show 2≤sizeLine;decide),fun kt cv=>?_⟩;have s4:=eB cv (.tup [.str e.1,.int e.2.1]);refine⟨_,rfl,p,C,dx,_,_,rfl,s4 _ _ L,T.cl,T.nN,gE _ _,q,_,rfl,iw.of (k:=some (jf (eX e))) (s4 _ _ O) ⟨kt,rfl,d0⟩,_,rfl,?_⟩;rw[gj (by intro z;cases z)];rcases ri G (eX e) with ⟨co,hv⟩ | ⟨e',ch,cd,dd,dc,hv,_⟩
  ·rw[hv];refine fC ?_;refine⟨_,rfl,_,rfl,p,C,dx,_,_,rfl,s4 _ _ L,T.cl,T.nN,gE _ _,_,rfl,_,rfl,(by show 2≤sizeLine;decide),fun b4 b6=>?_⟩;have s5:=s4.trans (eB b6 (.tup [.str e.1,.int e.2.1]));have c2:eW ((none,V.ref st)::t) (some (jf (eX e)))=none:=by rw[gj (by intro z;cases z)];exact hv
   refine⟨q,_,rfl,lj.of (k:=some (jf (eX e))) (s5 _ _ O) ⟨b4,rfl,d0⟩ (eV (by rw[aC];lia)),?_⟩;rw[im _ c2];generalize Z:upd (upd (upd H3 kt (.tup [.str e.1,.int e.2.1])) b4 (.tup [.str e.1,.int e.2.1])) q (.dN (((none,V.ref st)::t)++[(some (jf (eX e)),.ref na)]))=D;have da:p≠q:=N;have g:D p=some (.ins C dx (jZ q m)):=by rw[←Z,ef N];exact s5 _ _ L
   have r:D q=some (.dN ((none,V.ref st)::(t++[(some (jf (eX e)),.ref na)]))):=by rw[←Z];exact d0
   have d:D m=some (.dK vk):=by rw[←Z,ef (fJ X O (by intro z;cases z))];exact s5 _ _ X
   have bm:Hd q=none:=by
    cases z:Hd q with
    |none=>rfl
    |some o=>
     have:=s2 _ _ z;rw[b8]at this;cases this;have:=sd _ _ z;rw[a4]at this;cases this
   have S:eG Hd D:=by rw[←Z];exact eG.upd (s3.trans s5) bm
   have bx:∀b ys,H3 b=some (.lst ys)→D b=some (.lst ys):=fun b ys z=>by
    rw[←Z,ef (fJ z O (by intro y;cases y))];exact s5 _ _ z
   have R5:jr Hd D vk (es.take i):=R.dict bx;have as:Paired (mQ Hd) (t++[(some (jf (eX e)),V.ref na)]) (es.take (i+1)):=by
    rw[ht];exact Paired.snoc G ⟨rfl,na,zs,rfl,e2,e3⟩
   have b9:¬eX e∈(es.map eX).take i:=by rw[←cJ];exact co
   have a0:=b7.mpr b9;refine⟨_,rfl,p,C,dx,_,_,rfl,g,T.cl,T.nV,jq _ _,m,rfl,.inl ⟨_,.inl d⟩,_,rfl,(by show 0≤sizeLine;decide),fun l0 B=>?_⟩;have J:=eB B (.lst []);refine⟨vk,Sum.inr e.1,J _ _ d,rfl,eV (by lia),fun v ad=>?_,fun ad=>?_⟩
   ·obtain⟨l,rfl⟩:∃l,v=.ref l:=by
     rcases R.at_ e.1 with ⟨z,_⟩ | ⟨l,z,_⟩
     ·rw[ad]at z;cases z
     ·rw[ad]at z;cases z;exact⟨l,rfl⟩
    obtain⟨cy,Y,R8⟩:=(R5.same J).more ad;refine⟨.inl ⟨rfl,_,fb.of Y⟩,_,rfl,l,_,_,rfl,rfl,Y,?_,?_⟩
    ·rw[ab];have:=jM (es.take i) e.1;rw[aQ]at this;exact eV (by lia)
    ·have a9:p≠l:=fJ (J _ _ g) Y (by intro z;cases z);have a5:q≠l:=fJ (J _ _ r) Y (by intro z;cases z);have al:m≠l:=fJ (J _ _ d) Y (by intro z;cases z);refine⟨⟨_,vk,_,_,_,rfl,by rw[ef a9];exact J _ _ g,by rw[ef a5];exact J _ _ r,as,by rw[ef al];exact J _ _ d,by rw[ht];exact R8⟩,eG.upd (S.trans J) cy,a0⟩
   ·have al:m≠l0:=eo d B;have a9:p≠l0:=eo g B;have a5:q≠l0:=eo r B;have a7:p≠m:=fJ g d (by intro z;cases z);have ba:q≠m:=fJ r d (by intro z;cases z);have a1:upd (upd D l0 (.lst [])) m (.dK (fq vk (Sum.inr e.1) (.ref l0))) l0=some (.lst []):=by rw[ef (Ne.symm al)];exact d0
    refine⟨.inl ⟨rfl,_,fb.of a1⟩,_,rfl,l0,_,_,rfl,rfl,a1,(by show 0<sizeLine;decide),?_⟩;have U:Hd m=none:=by
     cases z:Hd m with
     |none=>rfl
     |some o=>
      have:=s1 _ _ z;rw[M]at this;cases this
    have R8:jr Hd (upd (upd D l0 (.lst [])) m (.dK (fq vk (Sum.inr e.1) (.ref l0)))) vk (es.take i):=(R5.same J).dict fun b ys z=>by
     rw[ef (fJ z (J _ _ d) (by intro y;cases y))];exact z
    have R9:=R8.first (l:=l0) ad a1 (S.free B) (fun x z=>by
     rcases R5.at_ x with ⟨y,_⟩ | ⟨l',y,_,y2⟩
     ·rw[z]at y;cases y
     ·rw[z]at y;cases y;rw[B]at y2;cases y2)
    refine⟨⟨_,_,_,_,_,rfl,by rw[ef a9,ef a7];exact J _ _ g,by rw[ef a5,ef ba];exact J _ _ r,as,by rw[ef al];exact d0,by rw[ht];exact R9⟩,eG.upd (eG.upd (S.trans J) U) (S.free B),a0⟩
  ·rw[hv];refine gW ?_
   exact(b7.mp (lO (i+1) bv) (by
    rw[←cJ,←cd]
    exact be ch)).elim
 ·rintro σ H3 ⟨⟨t,vk,o3,o4,o5,rfl,L,O,G,X,R⟩,s3,an⟩;rw[lx]at G an R;rw[aF]at G R;rw[List.take_of_length_le (by rw[ab];exact ao _)]at an;have lv:=R.len;refine⟨_,rfl,p,C,dx,_,_,rfl,L,T.cl,T.nV,jq _ _,m,vk,rfl,X,fun la c5=>?_⟩;have s4:=eB c5 (.lst (vk.map fun kv=>kV kv.1));have U:Hd m=none:=by
   cases z:Hd m with
   |none=>rfl
   |some o=>
    have:=s1 _ _ z;rw[M]at this;cases this
  refine⟨la,rfl,⟨_,fb.of d0⟩,fU (K:=K) (a:=la) (xs:=vk.map fun kv=>kV kv.1) (fun j σ D=>JD C Hd es p a st dx q m t (vk.map (·.1)) j σ D∧D la=some (.lst (vk.map fun kv=>kV kv.1))) ⟨⟨⟨vk,_,_,_,rfl,s4 _ _ L,s4 _ _ O,s4 _ _ X,rfl,fun x=>?_⟩,s3.trans s4⟩,d0⟩ (fun j σ D _ I=>fb.of I.2) ?_ ?_⟩
  ·rcases R.at_ x with z | ⟨l,h1,_,h2⟩
   ·exact .inl z
   ·exact .inr ⟨l,_,h1,s4 _ _ h2,List.Perm.refl _,fun z=>by simp at z⟩
  ·rintro j x σ D hj ⟨⟨⟨ag,c7,c6,c3,rfl,g,r,d,aa,V5⟩,s5⟩,a2⟩;rw[ae]at hj;obtain⟨kv,b1,rfl⟩:=au.mp hj;obtain⟨y,hy⟩:=R.keys kv (ai b1);have bf:(vk.map (·.1))[j]?=some (Sum.inr y):=by rw[ae,b1];exact congrArg some hy
   have c8:(vk.map (·.1)).take (j+1)=(vk.map (·.1)).take j++[Sum.inr y]:=by rw[bb,bf];rfl
   have a8:(eW ag (Sum.inr y:gB)).isSome=true:=by
    rw[←iJ,dG];have:(Sum.inr y:gB)∈ag.map (·.1):=by rw[aa];exact ai bf
    obtain⟨c4,h1,h2⟩:=aA.mp this;exact⟨c4,h1,aq h2⟩
   rcases V5 y with ⟨z,_⟩ | ⟨l,ms,h1,h2,h3,_⟩
   ·rw[z]at a8;cases a8
   have lm:ms.length<64:=by
    rw[h3.length_eq];exact bw (jM _ _) hl
   rw[hy];refine⟨_,rfl,p,C,dx,_,_,rfl,g,T.cl,T.nV,jq _ _,_,rfl,m,_,rfl,jt.k (k:=Sum.inr y) d |> (h1▸·),l,ms,rfl,fb.of h2,lm,fun l2 bd b5 cn c0=>?_⟩;have S:=eB b5 (.lst (List.map V.int bd));refine⟨_,rfl,p,C,dx,_,_,rfl,S _ _ g,T.cl,T.nV,jq _ _,_,rfl,m,_,rfl,mU.k (k:=Sum.inr y) (S _ _ d) (eV ?_),?_⟩
   ·have:=congrArg List.length aa;rw[ab,ab]at this
    lia
   ·have a7:p≠m:=fJ g d (by intro z;cases z);have ba:q≠m:=fJ r d (by intro z;cases z);have cz:la≠m:=fJ a2 d (by intro z;cases z);refine⟨⟨⟨_,_,_,_,rfl,by rw[ef a7];exact S _ _ g,by rw[ef ba];exact S _ _ r,d0,by rw[mK a8];exact aa,fun x=>?_⟩,eG.upd (s5.trans S) U⟩,by rw[ef cz];exact S _ _ a2⟩;rw[fX];by_cases hxy:x=y
    ·subst hxy;refine .inr ⟨l2,bd,by rw[if_pos rfl],?_,cn.trans h3,fun _=>c0⟩;rw[ef (Ne.symm (eo d b5))];exact d0
    ·rw[if_neg (fun z=>hxy (Sum.inr.inj z))];rcases V5 x with z | ⟨l',cp,g1,g2,g3,g4⟩
     ·exact .inl z
     ·refine .inr ⟨l',cp,g1,?_,g3,fun z=>g4 ?_⟩
      ·rw[ef (fJ g2 d (by intro z;cases z))];exact S _ _ g2
      ·rw[c8]at z;rcases az.mp z with z | z
       ·exact z
       ·exact absurd (Sum.inr.inj (aj.mp z)) hxy
  ·rintro σ D ⟨⟨⟨ag,c7,c6,c3,rfl,g,r,d,aa,V5⟩,s5⟩,a2⟩;refine q1 D s5 ⟨dx,q,m,t,ag,g,.inl r,Paired.JH G fun _ _ z=>mQ.same s5 z,.inl d,fun x=>?_⟩;rcases V5 x with z | ⟨l,ms,g1,g2,g3,g4⟩
   ·exact .inl z
   ·refine .inr ⟨l,ms,g1,g2,g3,fun _=>g4 ?_⟩;rw[List.take_of_length_le (by rw[ab,ab];exact ao _),←aa];exact iE g1
end
section
variable {H:Hp}{p:Addr}{t:HO}(hp:H p=some t)(ft:uM t)
include hp ft
theorem ir {u:HO}(e:H a=some u)(h:¬uM u):del H [p] a=some u:=by
 rw[eE (by simpa using fJ e hp fun z=>h (z▸ft))];exact e
theorem kJ {u:HO}(h:Rd H a u)(n:¬uM u):Rd (del H [p]) a u:=h.imp (fun z=>ir hp ft z n) (by rintro⟨o,z⟩;exact⟨o,ir hp ft z fun y=>y⟩)
theorem gL.fix {ns:List Nd}(h:gL H a ns):gL (del H [p]) a ns:=(by obtain⟨xs,h1,h2⟩:=h;exact⟨xs,ir hp ft h1 (fun z=>z),Paired.JH h2 (by rintro _ _ ⟨q,e1,e2⟩;exact⟨q,e1,ir hp ft e2 fun z=>z⟩)⟩)
theorem gi.fix {st:Addr}{es:List En}(h:gi CB H b st es):gi CB (del H [p]) b st es:=by
 obtain⟨j,m,o,d,vk,h1,h2,r,t,v⟩:=h.ex;refine⟨j,m,o,d,vk,ir hp ft h1 (fun z=>z),kJ hp ft h2 (fun z=>z),Paired.JH r fun _ _ z=>?_,kJ hp ft t (fun z=>z),fun x=>?_⟩
 ·obtain⟨g,a,zs,g2,g3,e⟩:=z;exact⟨g,a,zs,g2,ir hp ft g3 (fun z=>z),Paired.JH e (by rintro _ _ ⟨q,s,w⟩;exact⟨q,s,ir hp ft w fun z=>z⟩)⟩
 ·rcases v x with z | ⟨l,i,g,g2,g3,e⟩
  ·exact .inl z
  ·exact .inr ⟨l,i,g,ir hp ft g2 (fun z=>z),g3,e⟩
theorem iu.fix {ch:Addr}{c:eg}(h:iu CB CC H ch c):iu CB CC (del H [p]) ch c:=by
 obtain⟨dx,b,bits,i,a,K,A,Q,st,h1,h2,O,⟨R,G,N⟩,⟨D,E,r⟩,⟨L,P,t⟩,⟨y,s,I⟩,⟨x,m,S⟩,B,M,F⟩:=h.ex;refine⟨dx,b,bits,i,a,K,A,Q,st,ir hp ft h1 (fun z=>z),h2.fix hp ft,O.fix hp ft,⟨R,kJ hp ft G (fun z=>z),N⟩,⟨D,kJ hp ft E (fun z=>z),fun k C=>?_⟩,⟨L,kJ hp ft P (fun z=>z),t⟩,⟨y,kJ hp ft s (fun z=>z),fun w J=>?_⟩,⟨x,kJ hp ft m (fun z=>z),S⟩,B,kJ hp ft M (fun z=>z),F⟩
 ·obtain⟨v,g,q,e,l⟩:=r k C;exact⟨v,g,q,e,ir hp ft l fun z=>z⟩
 ·obtain⟨d,g,o,j,e,l⟩:=I w J;exact⟨d,g,o,j,ir hp ft e (fun z=>z),l⟩
end
def DG (H:Hp)(O:List Addr)(PP:Addr):Prop:=gU y8 yo H PP∧PP∉O∧∀c' u,H PP=some (.tbl #[rawInt yo.line,rawInt yo.col,.ref c'])→H c'=some u→uM u→c'∉O
theorem DG.fix (h:DG H O PP):∃u,H PP=some u∧uM u:=by
 rcases h.1 with z | ⟨c',z,_⟩
 ·exact⟨_,z,trivial⟩
 ·exact⟨_,z,trivial⟩
theorem DG.keep (h:DG H O PP)(k:iI H O H' O'):DG H' O' PP:=by
 rcases h.1 with z | ⟨c',g,d⟩
 ·obtain⟨a,b⟩:=k PP _ z trivial h.2.1;refine⟨.inl a,b,fun c' u e=>?_⟩;rw[a]at e;have:=Option.some.inj e;injection this with this
  exact absurd (show(0:Nat)=3 from congrArg Array.size this) (by decide)
 ·obtain⟨a,b⟩:=k PP _ g trivial h.2.1;obtain⟨i,j⟩:=k c' _ d trivial (h.2.2 c' _ g d trivial);refine⟨.inr ⟨c',a,i⟩,b,fun l u e m _=>?_⟩;rw[a]at e;have:=Option.some.inj e;injection this with this
  injection this with this
  injection this with _ this
  injection this with _ this
  injection this with this _
  injection this with this
  rw[←this];exact j
theorem rc.Lq {G:Hp}{c:eg}{fl:Addr}{F:List Fk}(g:rc H O A H' O')(h:iQ CF CT G H c fl A F):iI H O H' O':=fun x u hx f n=>by
 have m:x∉A.map (·.2):=fun z=>by
  obtain⟨a,ha,rfl⟩:=aA.mp z;obtain⟨t,ht⟩:=ax.mp ha;obtain⟨fk,_,_,sx,wa,hsa,_⟩:=Paired.J2 h.p ht;rw[hsa]at hx;cases hx;exact f
 obtain⟨z,y⟩:=g x u hx n m;refine⟨z.resolve_right ?_,y⟩;rintro⟨w,_⟩;cases u <;> first | exact w | exact f
theorem gU.f {tq:Str}{lp:Pos}(e:eD H H')(h:gU tq lp H PP):gU tq lp H' PP:=by
 rcases h with z | ⟨c',b,a⟩
 ·exact .inl (e.no z fun y=>y)
 ·exact .inr ⟨c',e.no b (fun y=>y),e.no a fun y=>y⟩
inductive Bu (c:eg)(H:Hp)(t:Addr)(L:ij)(pk:Nat):Prop
 |mk (la ln:_)(_:H t=some (.tup [.ref la,.ref ln]))(_:jK H la (c.listed pk))(_:j4 H ln (c.lns L)):Bu c H t L pk
structure GO (c:eg)(H:Hp)(t:Addr)(L:ij)(pk:Nat):Prop where
 ex:Bu c H t L pk
 ok:gY c L
 fit:v4 c.es c.sn (c.listed pk)
 one:c.Kp pk
 lt:pk<2^c.n
 named:∀k,c.has pk k→c.Named pk k
 shown:∀k,c.has pk k→k.1∈c.start→∀n,(c.needs none)[((c.needs none).map (·.1)).idxOf k.1]?=some n→∀kk∈c.Ly n k,∃e∈L,∀j,c.has e.1 j→j=kk∨c.has (c.Lz pk k.1) j
inductive Bv (c:eg)(H:Hp)(t:Addr)(L:ij):Prop
 |mk (ln:_)(_:H t=some (.tup [.non,.ref ln]))(_:j4 H ln (c.lns L)):Bv c H t L
structure GP (c:eg)(H:Hp)(t:Addr)(L:ij):Prop where
 ex:Bv c H t L
 ok:gY c L
 last:∃e,L.getLast?=some e∧e.1=0
inductive wT (PP:Addr)(vs:List V)(H:Hp)(Q:VK)(E:XK):Prop
 |mk (sh st:Addr)(es:List En)(sn:List Nd)(_:vs=[.ref sh,.ref st])(_:iU H sh es)(_:es.length<64)(_:(es.map eX).Nodup)(_:gL H st sn)(_:(∀w,(gJ es sn w).length≤100))(_:gU y8 yo H PP)(_:(∀c:eg,c.es=es→c.sn=sn→∀L,gY c L→L.length<sizeLine))(_:∀(c:eg) (H':Hp) (t:Addr),c.es=es→c.sn=sn→eD (del H [PP]) H'→gU y8 yo H' PP→((∃L,GP c H' t L)∨∃L pk,GO c H' t L pk)→Q (.ref t) H'):wT PP vs H Q E
def ml (PP:Addr):Sp:=wT PP
section
variable {base:Heap}{f:Addr}
theorem B9:eN ["shelf","start","search","stand"] ["shelf","start"] (eF rQ):=i9
theorem xT {CL CS:Addr}(F:iN K "worked_out" "worked_out" rQ f fd)(T:tw K mg CS)(TT:Df K mg CT)(h3:xo P w K mg base CB ff 1 "Board" ["self","shelf","start"] (rH CB))(e3:xo P w K mg base CC ff 4 "Chart" ["self","board"] (ph CB CC))(it:xo P w K mg base CS ff 3 "Search" ["self","chart"] (oU CL CS))(i2:xo P w K mg base CF ff 1 "Fork" ["self","part","stand"] (pf CF))(g3:Mt P w K mg base CS ff 3 "opening" ["self"] (ng CB CC CL CS CT))(hw:Mt P w K mg base CS ff 5 "next_part" ["self","stand"] (uP CB CC CS CT y8 yo PP))(e8:Mt P w K mg base CS ff 6 "go_on" ["self"] (uR CB CC CL CS CF CT))(c9:Mt P w K mg base CL ff 2 "told" ["self"] (rn CB CC CL))(f0:Mt P w K mg base CS ff 7 "show_newest" ["self","picked"] (rA CB CC CL CS CF CT))(fp:Mt P w K mg base CC ff 1 "listed" ["self","mask"] (iZ CC)):eZ P w K mg base ff 8 f fd ["shelf","start"] (ml PP):=by
 refine F.ok B9 (fun vs H Q E h=>?_) (fun cdv A outer s H vs Q E hr h=>?_)
 ·obtain⟨sh,st,es,sn,rfl,_⟩:=h;rfl
 obtain⟨sh,st,es,sn,rfl,hd,cc,dp,fu,dd,hT,e5,q1⟩:=h;have hu:=gN hr;refine⟨_,(ee (eK (i:=2) B9.nd rfl (Or.inl rfl) (pM it (hr.mono (by decide:4≤7)) rfl eT (dZ (pM e3 (hr.mono (by decide:5≤7)) rfl eT (dZ (pM h3 (hr.mono (by decide:2≤7)) rfl eT (dZ (pv 0) (dZ (pv 1) el))) el)) el))) (ee (eK (i:=3) B9.nd rfl (Or.inl rfl) (qI g3 (hr.mono (by decide:3≤7)) eT (pv 2))) (ee (kO PassesOwn.never (PW.pt (kM (iL (oz (pv 3))) (jy (Ci (eJ TT.cl TT.nWa (pv 3)) (fun _=>rfl))))) (ee (gq (jB PySem.F.plainAttrs_list PySem.F.slot_list_append PySem.F.type_list_append gF (eJ T.cl T.nFo (pv 2)) (dZ (pM i2 (hr.mono (by decide:2≤7)) rfl eT (dZ (ib hw (hr.mono (by decide:5≤7)) eT (pv 2) (dZ (pv 3) el)) (dZ (pv 3) el))) el))) (eA (eK (i:=3) B9.nd rfl (Or.inl rfl) (qI e8 (hr.mono (by decide:6≤7)) eT (pv 2)))))) (ee (fF (iL (u9 (pv 3))) (eA (eP (gm (dZ iR (dZ (qI c9 (hr.mono (by decide:2≤7)) eT (eJ T.cl T.nLe (pv 2))) el))))) eU) (ee (gq (ib f0 hr eT (pv 2) (dZ (eJ TT.cl TT.nPi (pv 3)) el))) (eA (eP (gm (dZ (ib fp (hr.mono (by decide:1≤7)) eT (eJ T.cl T.nCh (pv 2)) (dZ (eJ TT.cl TT.nPi (pv 3)) el)) (dZ (qI c9 (hr.mono (by decide:2≤7)) eT (eJ T.cl T.nLe (pv 2))) el)))))))))),?_⟩;refine⟨_,rfl,_,rfl,fun b bx hb fv hz=>?_⟩;have s1:=made (C:=CB) hb fv hz;have g0:upd (upd H bx (.own b)) b (.ins CB bx []) b=some (.ins CB bx []):=d0;generalize upd (upd H bx (.own b)) b (.ins CB bx [])=H1 at *;have hf:eG H (del H1 [b]):=fun a u e=>by rw[eE (by simpa using eo e hb)];exact s1 _ _ e
 refine⟨b,bx,sh,st,es,rfl,g0,iU.same s1 hd,cc,dp,fun H2 s2 hB=>⟨rfl,?_⟩⟩;have cp:eG H H2:=hf.trans s2;intro ch cx eu hp f9;have s3:=made (C:=CC) eu hp f9;have ho:upd (upd H2 cx (.own ch)) ch (.ins CC cx []) ch=some (.ins CC cx []):=d0;generalize upd (upd H2 cx (.own ch)) ch (.ins CC cx [])=H3 at *;refine⟨ch,cx,b,st,es,sn,rfl,ho,hB.same s3,fu.same (cp.trans s3),dp,cc,dd,fun c H4 c1 c2 gp hC=>⟨rfl,?_⟩⟩;subst c1;subst c2;have e7:eG H (del H3 [ch]):=fun a u e=>by rw[eE (by simpa using eo (cp _ _ e) eu)];exact s3 _ _ (cp _ _ e)
 have a8:eD H H4:=e7.toF.trans gp;have dn:gU y8 yo H4 PP:=gU.f a8 hT;obtain⟨tu,hP4,fP⟩:∃u,H4 PP=some u∧uM u:=by
  rcases dn with z | ⟨c',z,_⟩
  ·exact⟨_,z,trivial⟩
  ·exact⟨_,z,trivial⟩
 intro se sx ah kf h7;have s5:=made (C:=CS) ah kf h7;have i1:upd (upd H4 sx (.own se)) se (.ins CS sx []) se=some (.ins CS sx []):=d0;generalize upd (upd H4 sx (.own se)) se (.ins CS sx [])=H5 at *;have et:=s5 _ _ hP4;have i4:del H4 [PP] se=none:=by
  cases h:del H4 [PP] se with
  |none=>rfl
  |some u=>rw[fm _ _ se u h]at ah;cases ah
 have hh:=hC.fix hP4 fP;have hg:del H4 [PP] PP=none:=fH (by simp);have c3:eD (del H [PP]) (del H4 [PP]):=fun a u e=>by
  have na:a∉[PP]:=fun z=>by rw[fH z]at e;cases e
  rw[eE na]at e ⊢;exact a8 a u e
 refine⟨del H4 [PP],se,sx,ch,c,rfl,((fm _ _).trans s5).toF,i4,i1,fun G6 H6 N fl O eh cz jn f4 kv bd f1 g2 bl X a6=>⟨rfl,?_⟩⟩;generalize del H4 [PP]=G at *;have d9:eD H4 H6:=fun a u e=>g2 a u (by rw[eE (by simpa using eo e ah)];exact s5 _ _ e);have j1:G6 PP=none:=by
  cases h:G6 PP with
  |none=>rfl
  |some u=>
   rcases jn PP hg (by rw[h];exact fun z=>nomatch z) with z | z
   ·rw[et]at z;cases z
   ·rw[z,ah]at hP4;cases hP4
 have gn:PP∉O:=fun z=>by have:=f4 PP z;rw[et]at this;cases this
 have eq:DG H6 O PP:=⟨gU.f d9 dn,gn,fun c' u _ e2 f2 z=>X.nf c' z u e2 f2⟩;have cn:c.n<64:=by rw[c.n_eq];exact cc
 have bm:Se CB CC CS G6 H6 se ch N fl c:=⟨cz,⟨sx,bl⟩,hh.f eh,cn,dd,e5 c rfl rfl⟩;refine⟨_,rfl,se,sx,_,rfl,cz.ins bl,(by kernel_rfl),G6,se,ch,N,fl,c,O,rfl,bm,X.liv,X.off,fun G7 H7 s7 d7 J gw e4 c8 dl j2 h4=>?_⟩;have iv:gf CL G7 H7 N ch c [] O:=X.grow J.gg (fun a D=>by obtain⟨u,o⟩:=X.liv a D;exact J.off (X.off a D) o) h4;have S7:SS CB CC CL CS CF CT G7 H7 se ch N fl c [] O [] []:=⟨bm.grow J.gg J.gh,iv,gY.nil c,⟨J.keep bd a6 (fun z=>z),.nil,J.off f1 a6,(fun a D=>nomatch D),cb,cb⟩,bd,fun a D=>nomatch D⟩;have g1:=eq.keep J.Lq;have gt:G7 PP=none:=by
  obtain⟨u,o,_⟩:=eq.fix;exact J.off j1 o
 have f6:s7∉O:=fun z=>by obtain⟨u,o⟩:=X.liv s7 z;rw[gw]at o;cases o
 refine⟨fun m σ H8=>∃(r:Hp) (Y:ij) (R:List Addr) (S:List (Addr×Addr)) (F8:List Fk),eD G r∧SS CB CC CL CS CF CT r H8 se ch N fl c Y R S F8∧DG H8 R PP∧r PP=none∧((σ=[some (.ref sh),some (.ref st),some (.ref se),some .non]∧m=0∧∃e,Y.getLast?=some e∧e.1=0)∨∃v U,σ=[some (.ref sh),some (.ref st),some (.ref se),some (.ref v)]∧m=c.mv (c.n+1) F8+1∧fG c Y F8.reverse U∧NZ Y∧lI CT r H8 v U∧r v=none∧v∉R∧v∉S.map (·.2)),⟨c.mv (c.n+1) []+1,G7,[],O,[],[],eh.trans J.gg,S7,g1,gt,.inr ⟨s7,d7,rfl,rfl,.nil j2 (dl []),(fun e he=>nomatch he),c8,e4,f6,(fun z=>nomatch z)⟩⟩,?_⟩;rintro m σ H8 ⟨r,Y,R,S,F8,a1,j,an,b3,co⟩;obtain⟨ag,a5⟩:=j.se.self;have aa:=j.se.gh.ins a5;obtain⟨gk,k8,k4,lm,kx,ko,lo,k6,ky,ed,ez⟩:=id j.led.ex;have hm:∀{L:Hp},eD r L→eD (del H [PP]) L:=fun {L} h=>c3.trans (a1.trans h);rcases co with ⟨rfl,rfl,e,e6,kd⟩ | ⟨v,U,rfl,rfl,d,ey,as,g8,bq,ea⟩
 ·refine⟨_,rfl,_,rfl,fC (fC ?_)⟩;refine⟨_,rfl,_,rfl,gW ?_⟩;refine⟨_,rfl,se,ag,_,V.ref N,rfl,aa,(by kernel_rfl),N,gk,_,rfl,j.se.gh.ins ed,(by kernel_rfl),r,N,ch,c,Y,R,rfl,j.se.gh,j.se.chart,j.led,cn,j.ok.lt,j.se.sm Y j.ok,fun ln L s9 b1=>?_⟩;refine⟨(by show 2≤sizeLine;decide),fun t ht=>?_⟩;have st:=eB ht (.tup [.non,.ref ln]);have sA:=s9.trans st;exact q1 c _ t rfl rfl (hm (j.se.gh.trans sA.toF)) (gU.f sA.toF an.1) (.inl ⟨Y,⟨ln,d0,b1.same st⟩,j.ok,e,e6,kd⟩)
 ·obtain⟨b2,wa,a0,wo,Z,hc,kh⟩:=id as;refine⟨_,rfl,_,rfl,gW ?_⟩;refine⟨_,rfl,v,b2,_,V.ref wa,rfl,a0,(by kernel_rfl),wa,Z,rfl,.inr ⟨wo,j.se.gh.frz hc⟩,?_⟩;have lw:=Paired.length kh;by_cases hwe:U.wanted=[]
  ·have hv:Z=[]:=bO.mp (by rw[lw,hwe];rfl);rw[hv];refine fC ?_;have a9:=d.sd.fit hwe;refine⟨_,rfl,_,rfl,fC ?_⟩;refine⟨_,rfl,se,ag,_,rfl,aa,(by kernel_rfl),_,rfl,v,b2,_,V.int (U.picked:Nat),rfl,a0,(by kernel_rfl),r,se,ch,N,fl,c,Y,R,S,F8,U,rfl,j,d,a9,fun G9 L L9 O9 F9 f5 ej M a4=>?_⟩;have f3:=ej.no a0 bq ea fun z=>z;have cd:=an.keep (ej.Lq j.fk);obtain⟨c6,c0⟩:=M.se.self;have bf:=M.se.gh.ins c0;obtain⟨gx,gb,g4,h5,ld,k1,kq,k2,k5,d1,d2,d3,d4,d5,d6⟩:=M.se.chart.ex;refine⟨_,rfl,se,c6,_,V.ref ch,rfl,bf,(by kernel_rfl),ch,gx,_,rfl,M.se.gh.ins d1,(by kernel_rfl),_,rfl,v,b2,_,V.int (U.picked:Nat),rfl,f3,(by kernel_rfl),G9,ch,gx,h5,_,c,_,rfl,M.se.gh,M.se.gh.ins d1,(by kernel_rfl),d5,cn,d.sd.pl,fun l xs Ha sa hl h0 js kc=>?_⟩;obtain⟨h8,lf,ks,k3,k7,kj,k0,lk,kp,dc,e0⟩:=id M.led.ex;have ga:eD G9 Ha:=M.se.gh.trans sa.toF;refine⟨_,rfl,se,c6,_,V.ref N,rfl,sa _ _ bf,(by kernel_rfl),N,h8,_,rfl,ga.ins dc,(by kernel_rfl),G9,N,ch,c,L9,O9,rfl,ga,M.se.chart,M.led.same sa,cn,M.ok.lt,M.se.sm L9 M.ok,fun ln Hb sb b1=>?_⟩;refine⟨(by show 2≤sizeLine;decide),fun t ht=>?_⟩;have st:=eB ht (.tup [.ref l,.ref ln]);have sA:=sa.trans (sb.trans st);have gA:eD G9 (upd Hb t (.tup [.ref l,.ref ln])):=M.se.gh.trans sA.toF;refine q1 c _ t rfl rfl (c3.trans (a1.trans (f5.trans gA))) (gU.f sA.toF cd.1) (.inr ⟨L9,U.picked,⟨l,ln,d0,⟨xs,st _ _ (sb _ _ h0),Paired.JH js fun _ _ z=>fg.f gA z⟩,b1.same st⟩,M.ok,a9,d.sd.one,d.sd.pl,d.sd.named,fun k hk da n hn kk hq=>?_⟩);obtain⟨g,cy,ew⟩:=d.from k hk;have go:=cs.mp cy;have is:k.1=g.part:=((d.fks g cy).1.bit k ew).2.1;rw[is]at da hn ⊢;exact a4 g go da k ew n hn kk hq
  ·have e1:(!Z.isEmpty)=true:=by
    cases Z with
    |nil=>exact absurd (bO.mp lw.symm) hwe
    |cons a b=>rfl
   rw[e1];refine gW ⟨fun σ' H'=>∃m',m'<c.mv (c.n+1) F8+1∧_,fun _ _ h=>h,?_⟩;refine⟨_,rfl,se,ag,_,V.ref fl,rfl,aa,(by kernel_rfl),.inl ⟨rfl,_,fb.of j.fk.l⟩,?_⟩;refine⟨_,rfl,se,ag,_,rfl,aa,(by kernel_rfl),_,rfl,r,se,ch,N,fl,v,c,Y,U,rfl,j.se,as,d.sd,hwe,an.1,b3,fun x L hx b6 s9 c5=>?_⟩;refine⟨_,rfl,fun q fx ds h9 hj=>?_⟩;obtain⟨kw,g5,g7⟩:=an.fix;have nP:∀{a u},H8 a=some u→¬uM u→a∉[PP]:=fun {a u} h n z=>by
    rw[aj.mp z,g5]at h;cases h;exact n g7
   have k9:∀{a u},H8 a=some u→¬uM u→L a=some u:=fun {a u} h n=>s9 _ _ (by rw[eE (nP h n)];exact h);have g9:eD r L:=il j.se.gh (O:=[PP]) (fun a D=>by rw[aj.mp D];exact b3) s9.toF;have a3:gf CL r L N ch c Y R:=j.led.grow (eD.refl _) j.led.off fun a D=>by
    obtain⟨u,o⟩:=j.led.liv a D;rw[k9 o (j.led.nf a D u o),o]
   have ft:∃u,L PP=some u:=by
    rcases c5 with z | ⟨c',z,_⟩
    ·exact⟨_,z⟩
    ·exact⟨_,z⟩
   have c4:iy r H8 [PP] r L [PP]:=⟨eD.refl _,g9,fun a e n=>absurd e n,fun a h=>.inl h,s9.toF,fun a e=>by
    by_cases z:a=PP
    ·obtain⟨u,o⟩:=ft;rw[z,o]at e;cases e
    ·have:=s9.free e;rw[eE (by simpa using z)]at this
     exact this⟩
   have dv:yP [PP] fl S:=⟨nP j.fk.l fun z=>z,fun a D=>by
    obtain⟨t,ht⟩:=ax.mp D;obtain⟨fk,_,⟨lc,h1⟩,la,kt,h2,_⟩:=Paired.J2 j.fk.p ht
    exact⟨nP h1 fun z=>z,nP h2 fun z=>z⟩⟩
   have B:=j.fk.grow c4 dv;have a7:=as.grow c4 (nP a0 fun z=>z);have M:SS CB CC CL CS CF CT r L se ch N fl c Y R S F8:=⟨j.se.grow (eD.refl _) g9,a3,j.ok,B,j.sep⟩;have cd:DG L R PP:=⟨c5,an.2.1,fun c' u _ e2 f2 z=>a3.nf c' z u e2 f2⟩;have sm:=made (C:=CF) ds h9 hj;have I:=ds;have g6:upd (upd L fx (.own q)) q (.ins CF fx []) q=some (.ins CF fx []):=d0;generalize upd (upd L fx (.own q)) q (.ins CF fx [])=Ha at *;have ei:=iy.same (O:=R) g9 sm;have Sa:=M.grow ei (a3.same sm) M.ok;have kn:lI CT r Ha v U:=a7.grow ei bq;refine⟨q,fx,_,_,rfl,g6,rfl,?_⟩;have ep:fl≠q:=fun z=>by have:=B.l;rw[z,I]at this;cases this
   have cv:r q=none:=g9.free I;have bv:(S.map fun a=>V.ref a.1).length<sizeLine:=by
    rw[ab,Paired.length j.fk.p];have:=d.depth;rw[cq]at this;exact eV (by lia)
   refine⟨fl,_,_,rfl,rfl,(by rw[ef ep];exact Sa.fk.l),bv,?_⟩;have b9:∀y,y≠q→y≠fl→upd (upd Ha q (.ins CF fx (ue (.str x) (.ref v) (.int 0)))) fl (.lst ((S.map fun a=>V.ref a.1)++[.ref q])) y=Ha y:=fun y h1 h2=>by rw[ef h2,ef h1]
   have fr:upd (upd Ha q (.ins CF fx (ue (.str x) (.ref v) (.int 0)))) fl (.lst ((S.map fun a=>V.ref a.1)++[.ref q])) q=some (.ins CF fx (ue (.str x) (.ref v) (.int 0))):=by rw[ef (Ne.symm ep),d0]
   have gd:upd (upd Ha q (.ins CF fx (ue (.str x) (.ref v) (.int 0)))) fl (.lst ((S.map fun a=>V.ref a.1)++[.ref q])) fl=some (.lst ((S++[(q,v)]).map fun a=>V.ref a.1)):=by rw[d0,av];rfl
   have gb:eD r (upd (upd Ha q (.ins CF fx (ue (.str x) (.ref v) (.int 0)))) fl (.lst ((S.map fun a=>V.ref a.1)++[.ref q]))):=(Sa.se.gh.upd cv).upd Sa.fk.offl;generalize upd (upd Ha q (.ins CF fx (ue (.str x) (.ref v) (.int 0)))) fl (.lst ((S.map fun a=>V.ref a.1)++[.ref q]))=Hb at *;have al:∀{y C dy fs},L y=some (.ins C dy fs)→y≠q∧y≠fl:=fun {y C dy fs} h=>⟨eo h I,fJ h B.l fun z=>nomatch z⟩;have kb:∀{y C dy fs},L y=some (.ins C dy fs)→Hb y=some (.ins C dy fs):=fun {y C dy fs} h=>by rw[b9 y (al h).1 (al h).2];exact sm _ _ h
   have ba:q∉R:=fun z=>by obtain⟨u,o⟩:=a3.liv q z;rw[I]at o;cases o
   have i0:gf CL r Hb N ch c Y R:=Sa.led.grow (eD.refl _) Sa.led.off fun y hy=>b9 y (fun z=>ba (z▸hy)) fun z=>j.sep.1 (z▸hy);have ev:lI CT r Hb v U:=by
    obtain⟨y1,y2,y3,y4⟩:=a7;exact⟨y1,y2,kb y3,y4⟩
   have e9:iQ CF CT r Hb c fl (S++[(q,v)]) (F8++[⟨x,U,none⟩]):=by
    refine⟨gd,Paired.snoc (Paired.JH B.p (by rintro _ _ ⟨⟨z1,z2⟩,z3,z4,z5,z6⟩;exact⟨⟨z1,kb z2⟩,z3,z4,kb z5,z6⟩)) ⟨⟨fx,fr⟩,ev⟩,B.offl,fun a D=>?_,?_,?_⟩
    ·rcases az.mp D with z | z
     ·exact B.off a z
     ·rw[aj.mp z];exact⟨cv,g8⟩
    ·rw[av,bM];refine⟨B.nd1,by simp,fun a D y hy e=>?_⟩;rw[show y=q by simpa using hy]at e;obtain⟨a',hi,e'⟩:=aA.mp D;obtain⟨t,ht⟩:=ax.mp hi;obtain⟨fk,_,⟨z1,z2⟩,_⟩:=Paired.J2 B.p ht;rw[e',e,I]at z2;cases z2
    ·rw[av,bM];refine⟨B.nd2,by simp,fun a D y hy e=>?_⟩;rw[show y=v by simpa using hy]at e;exact ea (e▸D)
   have Sb:SS CB CC CL CS CF CT r Hb se ch N fl c Y R (S++[(q,v)]) (F8++[⟨x,U,none⟩]):=⟨j.se.grow (eD.refl _) gb,i0,j.ok,e9,j.sep.1,fun a D=>by
    rcases az.mp D with z | z
    ·exact j.sep.2 a z
    ·rw[aj.mp z];exact⟨ba,bq⟩⟩
   have f8:iI L R Hb R:=fun y u hy fy ny=>by
    have n1:y≠q:=eo hy I;have n2:y≠fl:=fun z=>by rw[z,B.l]at hy;cases hy;exact fy
    exact⟨by rw[b9 y n1 n2];exact sm _ _ hy,ny⟩
   have a2:=cd.keep f8;have ct:=gb.ins a5;have ka:j5 c ⟨x,U,none⟩:=⟨hx,b6,fun k hk=>nomatch hk⟩;have em:F8.length<c.n+1:=by
    have:=d.depth;rw[cq]at this
    lia
   have fo:=c.KF ⟨x,U,none⟩ (c.n+1) F8 em;obtain⟨ih,i3,f7⟩:=a2.fix;have ad:∀{G':Hp},yQ Hb R r G'→G' PP=none:=fun {G'} ox=>ox PP ih i3 f7 a2.2.1 b3;refine⟨_,rfl,se,ag,_,rfl,ct,(by kernel_rfl),r,se,ch,N,fl,c,Y,R,S++[(q,v)],F8,⟨x,U,none⟩,rfl,Sb,d,ka,ey,fun G' H' L' O' A' F' s' d' b4 b5 b7 S' ec eb c7 h6 hs j0 kl=>?_,fun G' H' L' O' A' F' e' b4 b5 b7 S' ek dx=>?_⟩
   ·have b8:=a2.keep b5;refine⟨c.mv (c.n+1) F'+1,by lia,G',L',O',A',F',a1.trans b4,S',b8,ad b7,.inr ⟨s',d',rfl,rfl,ec,eb,c7,h6,hs,j0⟩⟩
   ·have b8:=a2.keep b5;exact⟨0,Nat.succ_pos _,G',L',O',A',F',a1.trans b4,S',b8,ad b7,.inl ⟨rfl,rfl,e',ek,dx⟩⟩
end
end FB
namespace FB
open PySem L2 PyProof.Rows
variable {m:Nat}
def ul (Vs:List Int):List Str→List (List (Option Int))
 |[]=>[[]]
 |_::ps=>(none::Vs.map some).flatMap fun o=>(ul Vs ps).map fun r=>o::r
theorem qU (Vs:List Int):∀ps:List Str,(ul Vs ps).length≤(Vs.length+1)^ps.length
 |[]=>ao _
 |_::ps=>by
  have ih:=qU Vs ps;have h:=nK (f:=fun o:Option Int=>(ul Vs ps).map fun r=>o::r) (n:=(Vs.length+1)^ps.length) (l:=none::Vs.map some) fun o _=>by rw[ab];exact ih
  rw[aC,ab]at h;rw[aC,cO,Nat.mul_comm];exact h
def eg.LE (c:eg)(m:Nat)(x:Str):Option Int:=((c.listed m).find? fun k=>decide (k.1=x)).map (·.2)
def eg.code (c:eg)(Ps:List Str)(m:Nat):List (Option Int):=Ps.map (c.LE m)
theorem qy {c:eg}(h1:c.Kp m){k:Pk}(a:c.has m k):c.LE m k.1=some k.2:=by
 unfold eg.LE;cases h:(c.listed m).find? fun j=>decide (j.1=k.1) with
 |none=>
  have:=dP.mp h k (eg.J9.mpr a);simp at this
 |some j=>
  have b:j.1=k.1:=by simpa using List.find?_some h
  have d:=eg.J9.mp (db h);rw[h1 j k d a b];rfl
theorem oQ {c:eg}{x:Str}{v:Int}(h:c.LE m x=some v):c.has m (x,v):=by
 unfold eg.LE at h;obtain⟨j,h1,h2⟩:=au.mp h;have b:j.1=x:=by simpa using List.find?_some h1
 have a:=eg.J9.mp (db h1);have:j=(x,v):=Prod.ext b h2;rw[←this];exact a
theorem wO {c:eg}{Vs:List Int}(hv:∀k∈c.ks,k.2∈Vs)(m:Nat):∀Ps:List Str,c.code Ps m∈ul Vs Ps
 |[]=>aj.mpr rfl
 |x::ps=>by
  refine List.mem_flatMap.mpr ⟨c.LE m x,?_,aA.mpr ⟨c.code ps m,wO hv m ps,rfl⟩⟩;cases h:c.LE m x with
  |none=>exact bi
  |some v=>exact aR _ (be (hv (x,v) (oQ h).1))
theorem Bc {c:eg}{Ps:List Str}(hp:∀k∈c.ks,k.1∈Ps){m':Nat}(e:m<2^c.n)(b:m'<2^c.n)(h1:c.Kp m)(h2:c.Kp m')(h:c.code Ps m=c.code Ps m'):m=m':=by
 have key:∀x∈Ps,c.LE m x=c.LE m' x:=fun x j=>by
  obtain⟨i,hi⟩:=ax.mp j;have d:(c.code Ps m)[i]?=some (c.LE m x):=by unfold eg.code;rw[ae,hi];rfl
  have g:(c.code Ps m')[i]?=some (c.LE m' x):=by unfold eg.code;rw[ae,hi];rfl
  rw[h,g]at d;exact(Option.some.inj d).symm
 refine eg.ext e b fun k=>⟨fun a=>?_,fun a=>?_⟩
 ·have:=qy h1 a;rw[key k.1 (hp k a.1)]at this;exact oQ this
 ·have:=qy h2 a;rw[←key k.1 (hp k a.1)]at this;exact oQ this
theorem yt {c:eg}{L:ij}{Ps:List Str}{Vs:List Int}(d:gY c L)(hp:∀k∈c.ks,k.1∈Ps)(l:∀k∈c.ks,k.2∈Vs):L.length≤(Vs.length+1)^Ps.length:=by
 have h1:(L.map fun e=>c.code Ps e.1).Nodup:=by
  refine cC.mpr ?_;have h2:L.Pairwise fun a b=>a.1≠b.1:=cC.mp d.nd;exact h2.imp_of_mem fun h j g z=>g (Bc hp (d.lt _ h) (d.lt _ j) (d.one _ h) (d.one _ j) z)
 have i:(L.map fun e=>c.code Ps e.1).length≤(ul Vs Ps).length:=kF h1 fun r m=>by
  obtain⟨e,_,rfl⟩:=aA.mp m;exact wO l e.1 Ps
 rw[ab]at i;exact br i (qU Vs Ps)
end FB
namespace FB
open PySem L2 PyProof.Rows
seal mj PS PE PT PA
structure xm (K:W.Frag)(mg:Str→Option Value):Prop where
 len:mg "len" = none
 range:mg "range" = none
 list:mg "list" = none
 tuple:mg "tuple" = none
 str:mg "str" = none
 int:mg "int" = none
 bool:mg "bool" = none
 isin:mg "isinstance" = none
 sorted:mg "sorted" = none
 rev:mg "reversed" = none
inductive IY (K:W.Frag)(vs:List V)(H:Hp)(Q:VK)(E:XK):Prop
 |mk (a:Addr)(ns:List Int)(k:Int)(_:vs=[.ref a,.int k])(_:fb K H a (ns.map V.int))(_:0≤k)(_:∀z,Q (.int z) H):IY K vs H Q E
def BY (K:W.Frag):Sp:=IY K
def zi:List Int:=[9,10,-10,100,0,-1,10^30]
inductive GJ (vs:List V)(H:Hp)(Q:VK)(E:XK):Prop
 |mk (c:Int)(_:vs=[.int c])(_:∀z H',eG H H'→z∈zi→Q (.int z) H'):GJ vs H Q E
def zg:Sp:=GJ
inductive Dy (vs:List V)(H:Hp)(Q:VK)(E:XK):Prop
 |mk (c:Int)(_:vs=[.int c])(_:∀q (n:Nd) H',eG H H'→H q=none→H' q=some (.tup [.str n.1,.int n.2.1,.int n.2.2])→fR n.1→Q (.ref q) H'):Dy vs H Q E
def uQ:Sp:=Dy
inductive xb (K:W.Frag)(vs:List V)(H:Hp)(Q:VK)(E:XK):Prop
 |mk (v:V)(n:Nd)(z:Int)(_:vs=[v,.int z])(_:gX H v n)(_:Q (.bl (decide (n.2.1≤z)&&decide (z≤n.2.2))) H):xb K vs H Q E
def pc (K:W.Frag):Sp:=xb K
section
variable {P:Program}{w:World}{K:W.Frag}{mg:Str→Option Value}{base:Heap}{f:Addr}{fd:FuncData}
theorem Ii:eN ["_law_script","_law_k"] ["_law_script","_law_k"] (eF Ik):=i9
theorem Gm (F:iN K "_law_at" "_law_at" Ik f fd)(T:xm K mg):eZ P w K mg base ff 1 f fd ["_law_script","_law_k"] (BY K):=by
 refine F.ok Ii (fun vs H Q E h=>?_) (fun cdv A outer s H vs Q E i h=>?_)
 ·obtain⟨a,b,k,rfl,_⟩:=h;rfl
 obtain⟨a,b,k,rfl,d,e,q⟩:=h;refine⟨_,ee (fF (fz wn (pv 1) (fi fK rfl T.len bT (dZ (pv 0) el)) (fQ _)) (eA (eP (eL fh (pv 0) (pv 1) (fun _ _=>rfl)))) eU) (eA (eP er)),?_⟩;refine⟨_,rfl,_,rfl,a,_,rfl,.inl d,_,_,rfl,rfl,_,rfl,?_⟩;refine jm (fun c=>?_) (fun c=>?_)
 ·have c':k<(((b.map V.int).length:Nat):Int):=aW c;rw[ab]at c';obtain⟨z,g,_⟩:=ki e c';exact⟨_,rfl,_,rfl,a,_,_,_,rfl,rfl,d,g,q z⟩
 ·exact q 0
theorem FQ:eN ["_law_cell"] ["_law_cell"] (eF Ep):=i9
theorem ED (F:iN K "_law_version_by" "_law_version_by" Ep f fd):eZ P w K mg base ff 1 f fd ["_law_cell"] zg:=by
 refine F.ok FQ (fun vs H Q E h=>?_) (fun cdv A outer s H vs Q E d h=>?_)
 ·obtain⟨c,rfl,_⟩:=h;rfl
 obtain⟨c,rfl,q⟩:=h;refine⟨_,ee (fF (fz kz (fc jP (pv 0) er) er (fQ _)) (eA (eP (eL fh (gc (dZ er (dZ er (dZ (iP jN er) (dZ er el))))) (fc jP (fc jD (pv 0) er) er) (fun _ _=>rfl)))) eU) (eA (eP (eL fh (gc (dZ er (dZ (iP jN er) (dZ (fc vf er er) el)))) (fc jP (pv 0) er) (fun _ _=>rfl)))),?_⟩;refine⟨_,rfl,_,_,rfl,rfl,(by show(0:Int)<7;decide),rfl,_,rfl,?_⟩;refine jm (fun _=>?_) (fun _=>?_)
 ·refine⟨_,rfl,(by show 4≤sizeLine;decide),fun p hp=>?_⟩;obtain⟨z,b,a⟩:=ki (ns:=[9,10,-10,100]) (i:=c / 7 % 4) (dw _ (by decide)) (cM _ (by decide));exact⟨_,rfl,_,_,rfl,rfl,⟨by decide,by decide⟩,_,_,rfl,rfl,(by show(0:Int)<4;decide),p,_,_,_,rfl,rfl,fb.of d0,b,q z _ (eB hp _) (aO [0,-1,10^30] a)⟩
 ·refine⟨_,rfl,_,_,rfl,rfl,⟨by decide,by decide,by decide⟩,(by show 3≤sizeLine;decide),fun p hp=>?_⟩;obtain⟨z,b,a⟩:=ki (ns:=[0,-1,10^(30:Int).toNat]) (i:=c % 3) (dw _ (by decide)) (cM _ (by decide));exact⟨_,rfl,_,_,rfl,rfl,(by show(0:Int)<3;decide),p,_,_,_,rfl,rfl,fb.of d0,b,q z _ (eB hp _) (aK [9,10,-10,100] a)⟩
theorem zX:fR "ashenashenashen":=⟨by decide +kernel,by decide +kernel⟩
theorem zW:fR "as":=⟨by decide +kernel,by decide +kernel⟩
theorem zV:fR "":=⟨by decide +kernel,by decide +kernel⟩
theorem zU:fR "ashenashxnashen":=⟨by decide +kernel,by decide +kernel⟩
theorem Gi {xs:List V}(h:xs=[.str "ashenashenashen",.str "as",.str "",.str "ashenashxnashen"]∨xs=[.str "as",.str "ashenashenashen",.str "ashenashxnashen",.str ""]){v:V}(a:v∈xs):∃x,v=.str x∧fR x:=by
 rcases h with rfl | rfl <;> simp only[am,aG,or_false]at a <;> rcases a with rfl | rfl | rfl | rfl
 ·exact⟨_,rfl,zX⟩
 ·exact⟨_,rfl,zW⟩
 ·exact⟨_,rfl,zV⟩
 ·exact⟨_,rfl,zU⟩
 ·exact⟨_,rfl,zW⟩
 ·exact⟨_,rfl,zX⟩
 ·exact⟨_,rfl,zU⟩
 ·exact⟨_,rfl,zV⟩
theorem rO:eN ["_law_cell","_law_part","_law_low","_law_high"] ["_law_cell"] (eF zp):=i9
theorem CA {g:Addr}{gd:FuncData}(F:iN K "_law_need_by" "_law_need_by" zp f fd)(G:eZ P w K mg base ff 1 g gd ["_law_cell"] zg)(j:gl K gd ["_law_cell"] [])(C:W.keepIn K (.ref g)=true)(B:mg "_law_version_by" = some (.ref g)):eZ P w K mg base ff 2 f fd ["_law_cell"] uQ:=by
 refine F.ok rO (fun vs H Q E h=>?_) (fun cdv A outer s H vs Q E m h=>?_)
 ·obtain⟨c,rfl,_⟩:=h;rfl
 obtain⟨c,rfl,q⟩:=h;refine⟨_,ee (eK (i:=1) rO.nd rfl (Or.inl rfl) (eL fh (gc (dZ hJ (dZ hJ (dZ hJ (dZ hJ el))))) (fc jP (pv 0) er) (fun _ _=>rfl))) (ee (eK (i:=2) rO.nd rfl (Or.inl rfl) (fj G m rfl B C j .nil eT (dZ (fc jD (pv 0) er) el))) (ee (eK (i:=3) rO.nd rfl (Or.inl rfl) (eL fh (gc (dZ er (dZ (iP jN er) (dZ (fc vf er er) (dZ (fc vf er er) (dZ (pv 2) (dZ (iP jN er) el))))))) (fc jP (fc jD (pv 0) er) er) (fun _ _=>rfl))) (eA (eP (gm (dZ (pv 1) (dZ (pv 2) (dZ (pv 3) el)))))))),?_⟩;refine⟨(by show 4≤sizeLine;decide),fun p hp=>?_⟩;obtain⟨v,z,y⟩:=vS (xs:=[.str "ashenashenashen",.str "as",.str "",.str "ashenashxnashen"]) (i:=c % 4) (dw _ (by decide)) (cM _ (by decide));obtain⟨x,rfl,t⟩:=Gi (.inl rfl) y;refine⟨_,rfl,_,_,rfl,rfl,(by show(0:Int)<4;decide),p,_,_,_,rfl,rfl,fb.of d0,z,?_⟩;have o:=eB hp (.lst [.str "ashenashenashen",.str "as",.str "",.str "ashenashxnashen"]);refine⟨_,rfl,_,_,rfl,rfl,⟨by decide,by decide⟩,_,rfl,fun lo H2 l _=>?_⟩;refine⟨_,rfl,_,_,rfl,rfl,⟨by decide,by decide,by decide⟩,_,_,rfl,rfl,⟨by decide,by decide,by decide⟩,_,rfl,_,rfl,(by show 6≤sizeLine;decide),fun p2 d=>?_⟩;obtain⟨hi,b,_⟩:=ki (ns:=[0,-1,10^(30:Int).toNat,10^(30:Int).toNat,lo,-9]) (i:=c / 12 % 6) (dw _ (by decide)) (cM _ (by decide));refine⟨_,rfl,_,_,rfl,rfl,⟨by decide,by decide⟩,_,_,rfl,rfl,(by show(0:Int)<6;decide),p2,_,_,_,rfl,rfl,fb.of d0,b,?_⟩;have e:=(o.trans l).trans (eB d (.lst [.int 0,.int (-1),.int (10^(30:Int).toNat),.int (10^(30:Int).toNat),.int lo,.int (-9)]));refine⟨_,rfl,_,rfl,_,rfl,(by show 3≤sizeLine;decide),fun r a=>?_⟩;exact q r (x,lo,hi) _ (e.trans (eB a _)) (e.free a) d0 t
theorem Id:eN ["_law_need","_law_version"] ["_law_need","_law_version"] (eF r9):=i9
theorem x4 (F:iN K "_law_meets" "_law_meets" r9 f fd):eZ P w K mg base ff 1 f fd ["_law_need","_law_version"] (pc K):=by
 refine F.ok Id (fun vs H Q E h=>?_) (fun cdv A outer s H vs Q E d h=>?_)
 ·obtain⟨v,n,z,rfl,_⟩:=h;rfl
 obtain⟨v,n,z,rfl,⟨a,rfl,b⟩,q⟩:=h;refine⟨_,eA (eP (lW (j8 wt (eL eR (pv 0) er (fun _ _=>rfl)) (pv 1) (fQ _)) (nA (j8 wt (pv 1) (eL eR (pv 0) er (fun _ _=>rfl)) (fQ _))))),?_⟩;refine⟨_,rfl,a,_,_,_,rfl,rfl,gH.of b,rfl,_,rfl,_,_,rfl,rfl,_,rfl,?_⟩;refine jm (fun c=>?_) (fun c=>?_)
 ·refine⟨_,rfl,_,rfl,a,_,_,_,rfl,rfl,gH.of b,rfl,_,_,rfl,rfl,?_⟩;rw[c,cw]at q;exact q
 ·rw[bV.mpr c,bY]at q;exact q
end
end FB
namespace L2
open PySem PyProof.Rows
theorem kT {X:Cx}{x:Str}{n:String}{pos:Pos}(a:Gl X x)(b:X.mg x=none)(d:bootBuiltins x=some (.type n))(hn:x≠"__name__":=by decide)(hd:(x == ("__debug__" : Str))=false:=by decide):PE X (.Name x pos) (tC (.ty n)):=
 Cs (v:=.ty n) a b d rfl hn hd
end L2
namespace FB
open PySem L2 PyProof.Rows
seal mj PS PE PT PA
theorem sM (K:W.Frag):W.kitOne K (.type "list") (.type "list")=some true:=by kernel_rfl
theorem pT (K:W.Frag):W.kitOne K (.type "tuple") (.type "tuple")=some true:=by kernel_rfl
theorem AE (K:W.Frag):W.kitOne K (.type "str") (.type "str")=some true:=by kernel_rfl
theorem ES (K:W.Frag):W.kitOne K (.type "int") (.type "int")=some true:=by kernel_rfl
theorem ET (K:W.Frag):W.kitOne K (.type "int") (.type "bool")=some false:=by kernel_rfl
theorem wH (ds:List PyData):PyData.eqv (.list ds) (.list [])=ds.isEmpty:=by
 cases ds <;> simp[PyData.eqv,PyData.eqvAll]
section
variable {P:Program}{w:World}{K:W.Frag}{mg:Str→Option Value}{base:Heap}{f:Addr}{fd:FuncData}
end
end FB
namespace L2
open PySem PyProof.Rows
def wj (K:W.Frag):List V→Hp→VK→Prop:=fun xs H Q=>∃p ys,xs=[.ref p]∧(fb K H p ys∨gH K H p ys)∧∀l,H l=none→Q (.ref l) (upd H l (.lst ys))
theorem vO {X:Cx}:jL X (.type "list") (wj X.K):=mM
end L2
namespace FB
open PySem L2 PyProof.Rows
seal mj PS PE PT PA
variable {K:W.Frag}{P:Program}{fd gd gd2 gd3:FuncData}{g g2 g3:Addr}{mg:Str→Option Value}{w:World}
theorem Gu:(["_law_k","_law_script"]:List Str).Nodup:=by decide +kernel
theorem Gy:(["_law_entry"]:List Str).Nodup:=by decide +kernel
inductive Bn (K:W.Frag)(vs:List V)(H:Hp)(Q:VK)(E:XK):Prop
 |mk (a:Addr)(ns:List Int)(_:vs=[.ref a])(_:fb K H a (ns.map V.int))(_:ns.length≤1000)(_:∀p (ms:List Int) H',eG H H'→H' p=some (.lst (ms.map V.int))→ms.length=ns.length→Q (.ref p) H'):Bn K vs H Q E
def rD (K:W.Frag):Sp:=Bn K
inductive DE (vs:List V)(H:Hp)(Q:VK)(E:XK):Prop
 |mk (a:Addr)(es:List En)(_:vs=[.ref a])(_:iU H a es)(_:es.length≤1000)(_:∀p H',eG H H'→iU H' p es→Q (.ref p) H'):DE vs H Q E
def rK:Sp:=DE
inductive wZ (K:W.Frag)(vs:List V)(H:Hp)(Q:VK)(E:XK):Prop
 |mk (a:Addr)(v:V)(es:List En)(n:Nd)(_:vs=[.ref a,v])(_:iU H a es)(_:gX H v n)(_:es.length<64)(_:∀p (ms:List Int) H',eG H H'→H' p=some (.lst (ms.map V.int))→ms.Perm (iH es n)→ms.Pairwise (·≤·)→∀p',H' p'=none→Q (.ref p') (upd H' p' (.lst (ms.map V.int).reverse))):wZ K vs H Q E
def oW (K:W.Frag):Sp:=wZ K
section
variable {base:Heap}{f:Addr}
theorem Ic:eN ["_law_script"] ["_law_script"] (eF u1):=i9
theorem Ak (F:iN K "_law_mixed" "_law_mixed" u1 f fd)(T:xm K mg):eZ P w K mg base ff 1 f fd ["_law_script"] (rD K):=by
 refine F.ok Ic (fun vs H Q E h=>?_) (fun cdv A outer s H vs Q E G h=>?_)
 ·obtain⟨a,ns,rfl,_⟩:=h;rfl
 obtain⟨a,ns,rfl,t,B,q⟩:=h;refine⟨_,eA (eP (iq (N':=["_law_k","_law_script"]) (n:=1) (js:=[0]) rfl (iD.one (c:=s.heap.objs.size+1) (y:="_law_script") rfl rfl (by decide +kernel) rfl (by decide +kernel) (by decide +kernel) rfl rfl rfl rfl rfl) (ig (by decide)) (jT rfl T.range (dZ (fi fK rfl T.len bT (dZ (pv 0) el)) el)) (fun C p H2 fp=>eM (i:=0) Gu rfl (Or.inl rfl)) (fun C p H2 fp=>jz) (fun C p H2 fp=>fc jP (fc sw (fc lY (eL (r:=Gf K) fh (pv 1) (pv 0) (fun _ _=>rfl)) (fc sw er (pv 0))) er) er))),?_⟩;have b:(ns.map V.int).length=ns.length:=ab _;refine⟨_,rfl,a,_,rfl,.inl t,_,rfl,by rw[b];lia,by rw[b];lia,?_⟩;refine vM (fun D i ys H2=>∃d:List Int,ys=d.map V.int∧d.length=i∧H2 D=some (.lst ys)∧eG H H2∧H D=none) (fun D o=>⟨[],rfl,rfl,d0,eB o _,o⟩) (fun D i ys H2 hi ⟨d,e,l,g,j,_⟩=>⟨g,?_⟩) (fun D i ys H2 hi ⟨d,e,l,g,j,m⟩=>?_) (fun D ys H2 ⟨d,e,l,g,j,_⟩=>?_)
 ·rw[e,ab];exact eV (by rw[b]at hi;lia)
 ·have x:((i:Nat):Int)<(ns.length:Int):=by rw[b]at hi;lia
  obtain⟨z,v,_⟩:=ki (ns:=ns) (i:=0+(i:Int)) (by lia) (by lia);unfold i8 rj;dsimp only;rw[if_pos rfl];refine⟨_,rfl,_,rfl,a,_,_,_,rfl,rfl,j.seq t,v,_,rfl,_,_,rfl,rfl,.inl ⟨by decide,by decide⟩,_,_,rfl,rfl,_,_,rfl,rfl,.inr ⟨by decide,by decide⟩,_,_,rfl,rfl,(by show(0:Int)<1000003;decide),g,?_⟩;exact⟨d++[_],by rw[e,av];rfl,by rw[aE,l];rfl,d0,eG.upd j m,m⟩
 ·exact q D d H2 j (e▸g) (by rw[l,bu,b])
theorem Ig:eN ["_law_shelf"] ["_law_shelf"] (eF zy):=i9
theorem CK (F:iN K "_law_copy_of" "_law_copy_of" zy f fd)(T:xm K mg):eZ P w K mg base ff 1 f fd ["_law_shelf"] rK:=by
 refine F.ok Ig (fun vs H Q E h=>?_) (fun cdv A outer s H vs Q E hr h=>?_)
 ·obtain⟨a,es,rfl,_⟩:=h;rfl
 obtain⟨a,es,rfl,⟨xs,S,hp⟩,hl,q⟩:=h;refine⟨_,eA (eP (iq (N':=["_law_entry"]) (n:=1) (js:=[]) rfl (iD.closed (by decide +kernel) (by decide +kernel) rfl (by decide +kernel) rfl) (ig (by decide)) (fD (pv 0)) (fun C g H2 fp=>eM (i:=0) Gy rfl (Or.inl rfl)) (fun C g H2 fp=>jz) (fun C g H2 fp=>gm (dZ (eL (r:=zE K) eR (pv 0) er (fun _ _=>rfl)) (dZ (eL (r:=zE K) eR (pv 0) er (fun _ _=>rfl)) (dZ (jV (r:=wj K) vO rfl T.list dX (dZ (eL (r:=zE K) eR (pv 0) er (fun _ _=>rfl)) el)) el)))))),?_⟩;have X:xs.length=es.length:=Paired.length hp;refine⟨_,rfl,a,rfl,⟨xs,fb.of S⟩,?_⟩;refine ia (xs:=xs) (fun D i ys H2=>Paired (j6 (del H2 [D])) ys (es.take i)∧H2 D=some (.lst ys)∧eG H H2∧H D=none) (fun D N=>⟨by simpa using Paired.nil,d0,eB N _,N⟩)
  (fun D i ys H2 hi ⟨l,b,d,_⟩=>⟨fb.of (d _ _ S),b,?_⟩) (fun D i x ys H2 hi ⟨l,b,d,J⟩=>?_) (fun D ys H2 ⟨l,b,d,J⟩=>?_)
 ·rw[Paired.length l,aQ];exact eV (by lia)
 ·obtain⟨e,he,B,Z,zs,rfl,h1,h2,h3⟩:=Paired.J2 hp hi;have I:=d _ _ h1;have g2:=d _ _ h2;unfold i8 rj;dsimp only;rw[if_pos rfl];refine⟨_,rfl,B,_,_,_,rfl,rfl,gH.of I,rfl,_,rfl,B,_,_,_,rfl,rfl,gH.of I,rfl,_,rfl,B,_,_,_,rfl,rfl,gH.of I,rfl,Z,_,rfl,.inl (fb.of g2),fun t m=>?_⟩;have R:eG H2 (upd H2 t (.lst zs)):=eB m _;refine⟨(by show 3≤sizeLine;decide),fun O j=>?_⟩;have g:=R.trans (eB j (.tup [.str e.1,.int e.2.1,.ref t]));have G:t≠D:=Ne.symm (eo b m);have L:O≠D:=Ne.symm (eo (R _ _ b) j);refine⟨g _ _ b,?_,d0,eG.upd (d.trans g) J,J⟩;have U:es.take (i+1)=es.take i++[e]:=by rw[bb,he];rfl
  rw[U,lF (by simp)];refine Paired.snoc (Paired.JH l fun _ _ z=>j6.same (eG.del g [D]) z) ⟨O,t,zs,rfl,?_,?_,?_⟩
  ·rw[eE (by simpa using L)];exact d0
  ·rw[eE (by simpa using G),ef (Ne.symm (eo (o:=.lst zs) d0 j).symm)];exact d0
  ·refine Paired.JH h3 fun v n z=>?_;obtain⟨Y,y,M⟩:=z;have p:=d _ _ M;refine⟨Y,y,?_⟩;rw[eE (by simpa using fJ p b (by intro z;cases z))];exact g _ _ p
 ·rw[X,aF]at l;exact q D H2 d ⟨ys,b,Paired.JH l fun _ _ z=>j6.same (fm _ _) z⟩
theorem Ei:eN ["_law_shelf","_law_need","_law_found","_law_entry"] ["_law_shelf","_law_need"] (eF rX):=i9
theorem xZ (F:iN K "_law_newest" "_law_newest" rX f fd)(T:xm K mg)(G:eZ P w K mg base ff 1 g gd ["_law_need","_law_version"] (pc K))(O:gl K gd ["_law_need","_law_version"] [])(kG:W.keepIn K (.ref g)=true)(mG:mg "_law_meets" = some (.ref g)):eZ P w K mg base ff 2 f fd ["_law_shelf","_law_need"] (oW K):=by
 refine F.ok Ei (fun vs H Q E h=>?_) (fun cdv A outer s H vs Q E U h=>?_)
 ·obtain⟨a,v,es,n,rfl,_⟩:=h;rfl
 obtain⟨a,v,es,n,rfl,⟨xs,L,hp⟩,Z,hl,q⟩:=h;refine⟨_,(ee (eK (i:=2) Ei.nd rfl (Or.inl rfl) (gc el)) (ee (fO PassesOwn.never rfl (fD (pv 0)) (eM (i:=3) Ei.nd rfl (Or.inl rfl)) (eA (fF (PW.pt (kM (fz kz (eL eR (pv 3) er (fun _ _=>rfl)) (eL eR (pv 1) er (fun _ _=>rfl)) (fQ _)) (jy (gQ (fj G U rfl mG kG O .nil eT (dZ (pv 1) (dZ (eL eR (pv 3) er (fun _ _=>rfl)) el))))))) (eA (gq (jB PySem.F.plainAttrs_list PySem.F.slot_list_append PySem.F.type_list_append gF (pv 2) (dZ (eL eR (pv 3) er (fun _ _=>rfl)) el)))) eU))) (eA (eP (Cm rfl rfl T.list rfl T.rev (fi uq rfl T.sorted boot_sorted (dZ (pv 2) el))))))),?_⟩;have S:xs.length=es.length:=Paired.length hp;obtain⟨m,rfl,J⟩:=Z;refine⟨(by show 0≤sizeLine;decide),fun r j=>?_⟩;refine⟨_,rfl,a,rfl,⟨xs,fb.of (eB j _ _ _ L)⟩,fU (K:=K) (a:=a) (xs:=xs) (fun i σ H2=>∃e,σ=[some (.ref a),some (.ref m),some (.ref r),e]∧eG H H2∧H2 r=some (.lst ((iH (es.take i) n).map V.int))) ⟨none,rfl,eB j _,by simpa [iH] using d0⟩ ((by rintro i σ H2 _ ⟨_,_,d,_⟩;exact fb.of (d _ _ L))) ?_ ?_⟩
 ·rintro i x σ H2 hi ⟨o,rfl,d,h2⟩;obtain⟨e,he,y,na,zs,rfl,X,h4,h5⟩:=Paired.J2 hp hi;have C:=d _ _ X;have M:=d _ _ J;have R:es.take (i+1)=es.take i++[e]:=by rw[bb,he];rfl
  have b:=vA (es.take i) e n;rw[←R]at b;refine⟨_,rfl,y,_,_,_,rfl,rfl,gH.of C,rfl,_,rfl,m,_,_,_,rfl,rfl,gH.of M,rfl,rfl,_,rfl,?_⟩;rw[jH];refine jm (fun c=>?_) (fun c=>?_)
  ·refine⟨_,rfl,_,rfl,y,_,_,_,rfl,rfl,gH.of C,rfl,.ref m,n,e.2.1,rfl,⟨m,rfl,M⟩,_,rfl,?_⟩;refine jm (fun B=>?_) (fun B=>?_)
   ·have l:iG n e=true:=by unfold iG;rw[c,B];rfl
    rw[if_pos l]at b;refine⟨_,rfl,.inl ⟨rfl,_,fb.of h2⟩,_,rfl,y,_,_,_,rfl,rfl,gH.of C,rfl,r,_,_,rfl,rfl,h2,?_,?_⟩
    ·rw[ab];have:=je (es.take i) n;rw[aQ]at this;exact eV (by lia)
    ·refine⟨_,rfl,eG.upd d j,?_⟩;rw[d0,b,av];rfl
   ·have l:¬iG n e=true:=by unfold iG;rw[c,cw];exact B
    rw[if_neg l]at b;exact⟨_,rfl,d,by rw[b];exact h2⟩
  ·have l:¬iG n e=true:=by unfold iG;rw[bV.mpr c];simp
   rw[if_neg l]at b;exact fC ⟨_,rfl,d,by rw[b];exact h2⟩
 ·rintro σ H2 ⟨o,rfl,d,h2⟩;rw[S,aF]at h2;have Y:=je es n;refine⟨_,rfl,r,_,rfl,fb.of h2,by lia,fun p N t D I=>?_⟩;refine⟨p,_,rfl,fb.of d0,fun p' z=>?_⟩;exact q p N _ (d.trans (eB t _)) d0 D I p' z
end
inductive uv (K:W.Frag)(vs:List V)(H:Hp)(Q:VK)(E:XK):Prop
 |mk (a:Addr)(ns:List Int)(_:vs=[.ref a])(_:fb K H a (ns.map V.int))(_:ns.length≤63)(_:∀p (sn:List Nd) H',eG H H'→gL H' p sn→(∀n∈sn,fR n.1)→sn.length≤ns.length→Q (.ref p) H'):uv K vs H Q E
def qB (K:W.Frag):Sp:=uv K
inductive uz (vs:List V)(H:Hp)(Q:VK)(E:XK):Prop
 |mk (a:Addr)(v:V)(es:List En)(k:Pk)(_:vs=[.ref a,v])(_:iU H a es)(_:fg H v k)(_:(es.map eX).Nodup)(_:(∀e∈es,eX e=k→∀na zs,H na=some (.lst zs)→Paired (gX H) zs e.2.2→Q (.ref na) H))(_:(k∉es.map eX→Q .non H)):uz vs H Q E
def qC:Sp:=uz
theorem EG:(["_law_cell"]:List Str).Nodup:=by decide +kernel
section
variable {base:Heap}{f:Addr}
theorem FS:eN ["_law_cells"] ["_law_cells"] (eF py):=i9
theorem vg (F:iN K "_law_start_by" "_law_start_by" py f fd)(G:eZ P w K mg base ff 2 g gd ["_law_cell"] uQ)(N:gl K gd ["_law_cell"] [])(X:W.keepIn K (.ref g)=true)(U:mg "_law_need_by" = some (.ref g)):eZ P w K mg base ff 3 f fd ["_law_cells"] (qB K):=by
 refine F.ok FS (fun vs H Q E h=>?_) (fun cdv A outer s H vs Q E O h=>?_)
 ·obtain⟨a,l,rfl,_⟩:=h;rfl
 obtain⟨a,l,rfl,M,hl,q⟩:=h;refine⟨_,eA (eP (iq (N':=["_law_cell"]) (n:=1) (js:=[]) rfl (iD.closed (by decide +kernel) (by decide +kernel) rfl (by decide +kernel) rfl) (ig (by decide)) (fD (pv 0)) (fun C L H2 fp=>eM (i:=0) EG rfl (Or.inl rfl)) (fun C L H2 fp=>jz) (fun C L H2 fp=>fj G O rfl U X N .nil eT (dZ (fc lY (fc jD (pv 0) er) er) el)))),?_⟩;have Y:(l.map V.int).length=l.length:=ab _;refine⟨_,rfl,a,rfl,⟨_,M⟩,?_⟩;refine ia (xs:=l.map V.int) (fun D i ys H2=>∃b:List Nd,Paired (gX (del H2 [D])) ys b∧(∀n∈b,fR n.1)∧b.length≤i∧H2 D=some (.lst ys)∧eG H H2∧H D=none) (fun D J=>⟨[],.nil,by simp,ao _,d0,eB J _,J⟩)
  (fun D i ys H2 hi ⟨b,j,p,r,d,e,o⟩=>⟨e.seq M,d,?_⟩) (fun D i x ys H2 hi ⟨b,j,p,r,d,e,o⟩=>?_) (fun D ys H2 ⟨b,j,p,r,d,e,o⟩=>?_)
 ·rw[Paired.length j];exact eV (by lia)
 ·rw[ae]at hi;obtain⟨c,hc,rfl⟩:=au.mp hi;unfold i8 rj;dsimp only;rw[if_pos rfl];refine⟨_,rfl,_,_,rfl,rfl,⟨by decide,by decide⟩,_,_,rfl,rfl,_,rfl,fun I n Z B v t S=>?_⟩;have R:I≠D:=Ne.symm (eo d v);refine⟨B _ _ d,b++[n],?_,fun m T=>?_,by rw[aE,aV];lia,d0,eG.upd (e.trans B) o,o⟩
  ·rw[lF (by simp)];refine Paired.snoc (Paired.JH j fun _ _ y=>gX.same (eG.del B _) y) ⟨I,rfl,?_⟩;rw[eE (by simpa using R)];exact t
  ·rcases az.mp T with y | y
   ·exact p m y
   ·rw[aj.mp y];exact S
 ·rw[Y]at r;exact q D b H2 e ⟨ys,d,Paired.JH j fun _ _ z=>gX.same (fm _ _) z⟩ p r
theorem FV:eN ["_law_shelf","_law_pick","_law_entry"] ["_law_shelf","_law_pick"] (eF pC):=i9
theorem vn (F:iN K "_law_needs_in" "_law_needs_in" pC f fd):eZ P w K mg base ff 1 f fd ["_law_shelf","_law_pick"] qC:=by
 refine F.ok FV (fun vs H Q E h=>?_) (fun cdv A outer s H vs Q E R h=>?_)
 ·obtain⟨a,v,es,k,rfl,_⟩:=h;rfl
 obtain⟨a,v,es,k,rfl,⟨xs,t,hp⟩,⟨q,rfl,r⟩,N,J,O⟩:=h;refine⟨_,(ee (fO PassesOwn.never rfl (fD (pv 0)) (eM (i:=2) FV.nd rfl (Or.inl rfl)) (eA (fF (PW.pt (kM (fz kz (eL eR (pv 2) er (fun _ _=>rfl)) (eL eR (pv 1) er (fun _ _=>rfl)) (fQ _)) (jy (fz kz (eL eR (pv 2) er (fun _ _=>rfl)) (eL eR (pv 1) er (fun _ _=>rfl)) (fQ _))))) (eA (eP (eL eR (pv 2) er (fun _ _=>rfl)))) eU))) (eA (eP iR))),?_⟩;have G:xs.length=es.length:=Paired.length hp;refine⟨_,rfl,a,rfl,⟨xs,fb.of t⟩,fU (K:=K) (a:=a) (xs:=xs) (fun i σ H2=>∃o,σ=[some (.ref a),some (.ref q),o]∧H2=H∧k∉(es.take i).map eX) ⟨none,rfl,rfl,by simp⟩ ((by rintro i σ H2 _ ⟨_,_,e,_⟩;exact e▸fb.of t)) ?_ ?_⟩
 ·rintro i x σ H2 hi ⟨o,rfl,rfl,b⟩;obtain⟨e,C,d,M,zs,rfl,p,I,L⟩:=Paired.J2 hp hi;have D:es.take (i+1)=es.take i++[e]:=by rw[bb,C];rfl
  have step:¬eX e=k→k∉(es.take (i+1)).map eX:=fun g B=>by
   rw[D,av]at B;rcases az.mp B with y | y
   ·exact b y
   ·rw[aD,cQ,aj]at y;exact g y.symm
  refine⟨_,rfl,d,_,_,_,rfl,rfl,gH.of p,rfl,_,rfl,q,_,_,_,rfl,rfl,gH.of r,rfl,rfl,_,rfl,?_⟩;rw[jH];refine jm (fun c=>?_) (fun c=>?_)
  ·refine⟨_,rfl,d,_,_,_,rfl,rfl,gH.of p,rfl,_,rfl,q,_,_,_,rfl,rfl,gH.of r,rfl,rfl,_,rfl,?_⟩;refine jm (fun m=>?_) (fun m=>?_)
   ·have j:e.1=k.1:=aW c;have l:e.2.1=k.2:=V.int.inj (aW m);exact⟨_,rfl,d,_,_,_,rfl,rfl,gH.of p,rfl,J e (ai C) (Prod.ext j l) M zs I L⟩
   ·refine⟨_,rfl,rfl,step fun z=>m (aq ?_)⟩;rw[←z];rfl
  ·refine fC ⟨_,rfl,rfl,step fun z=>c (aq ?_)⟩;rw[←z];rfl
 ·rintro σ H2 ⟨o,rfl,rfl,b⟩;rw[G,aF]at b;exact O b
end
def ud:List Str:=["ashenashenashen","as","","ashenashxnashen"]
def Lw (e:En):Prop:=e.1∈ud∧e.2.1∈zi
theorem EA {v:V}(a:v∈[V.str "as",V.str "ashenashenashen",V.str "ashenashxnashen",V.str ""]):∃x,v=.str x∧fR x∧x∈ud:=by
 simp only[am,aG,or_false]at a;rcases a with rfl | rfl | rfl | rfl
 ·exact⟨_,rfl,zW,by unfold ud;simp⟩
 ·exact⟨_,rfl,zX,by unfold ud;simp⟩
 ·exact⟨_,rfl,zU,by unfold ud;simp⟩
 ·exact⟨_,rfl,zV,by unfold ud;simp⟩
inductive Bl (K:W.Frag)(vs:List V)(H:Hp)(Q:VK)(E:XK):Prop
 |mk (a:Addr)(ns:List Int)(_:vs=[.ref a])(_:fb K H a (ns.map V.int))(_:ns.length≤63)(_:∀p (es:List En) xs H',eG H H'→H p=none→H' p=some (.lst xs)→Paired (j6 (del H' [p])) xs es→(es.map eX).Nodup→(∀e∈es,mT e)→es.length≤ns.length→(∀e∈es,Lw e)→Q (.ref p) H'):Bl K vs H Q E
def wc (K:W.Frag):Sp:=Bl K
inductive GR (H:Hp)(a p t:Addr)(i:Nat)(σ:L2.St)(H2:Hp):Prop
 |mk (es:List En)(xs ys:List V)(o3 o4 o5 o6 o7 o8:Option V)(_:σ=[some (.ref a),some (.ref p),some (.ref t),o3,o4,o5,o6,o7,o8])(_:H2 p=some (.lst xs))(_:H2 t=some (.lst ys))(_:Paired (j6 (del H2 [p,t])) xs es)(_:Paired (fg (del H2 [p,t])) ys (es.map eX))(_:(es.map eX).Nodup)(_:(∀e∈es,mT e∧Lw e))(_:es.length≤i):GR H a p t i σ H2
structure JA (H:Hp)(a p t:Addr)(i:Nat)(σ:L2.St)(H2:Hp):Prop where
 ex:GR H a p t i σ H2
 sm:eG H H2
inductive GV (Hb:Hp)(p t nd:Addr)(σ0:Option V→L2.St)(j:Nat)(σ:L2.St)(H6:Hp):Prop
 |mk (zs:List V)(nds:List Nd)(o8:Option V)(_:σ=σ0 o8)(_:H6 nd=some (.lst zs))(_:Paired (gX (del H6 [p,t,nd])) zs nds)(_:(∀n∈nds,fR n.1))(_:nds.length≤j):GV Hb p t nd σ0 j σ H6
structure JB (Hb:Hp)(p t nd:Addr)(σ0:Option V→L2.St)(j:Nat)(σ:L2.St)(H6:Hp):Prop where
 ex:GV Hb p t nd σ0 j σ H6
 sm:eG Hb H6
section
variable {base:Heap}{f:Addr}
theorem rN:eN ["_law_cells","_law_shelf","_law_there","_law_k","_law_cell","_law_part","_law_pick","_law_needs","_law_j"] ["_law_cells"] (eF uZ):=i9
theorem Ai (F:iN K "_law_shelf_by" "_law_shelf_by" uZ f fd)(T:xm K mg)(G:eZ P w K mg base ff 1 g gd ["_law_cell"] zg)(bG:gl K gd ["_law_cell"] [])(kG:W.keepIn K (.ref g)=true)(mG:mg "_law_version_by" = some (.ref g))(G2:eZ P w K mg base ff 2 g2 gd2 ["_law_cell"] uQ)(b9:gl K gd2 ["_law_cell"] [])(b3:W.keepIn K (.ref g2)=true)(cn:mg "_law_need_by" = some (.ref g2)):eZ P w K mg base ff 3 f fd ["_law_cells"] (wc K):=by
 refine F.ok rN (fun vs H Q E h=>?_) (fun cdv A outer s H vs Q E hr h=>?_)
 ·obtain⟨a,ns,rfl,_⟩:=h;rfl
 obtain⟨a,ns,rfl,hS,hl,q⟩:=h;have bx:gK 1 _:=hr.mono (by decide);refine⟨_,(ee (eK (i:=1) rN.nd rfl (Or.inl rfl) (gc el)) (ee (eK (i:=2) rN.nd rfl (Or.inl rfl) (gc el)) (ee (fO PassesOwn.never rfl (jT rfl T.range (dZ (fi fK rfl T.len bT (dZ (pv 0) el)) el)) (eM (i:=3) rN.nd rfl (Or.inl rfl)) (ee (eK (i:=4) rN.nd rfl (Or.inl rfl) (eL fh (pv 0) (pv 3) (fun _ _=>rfl))) (ee (eK (i:=5) rN.nd rfl (Or.inl rfl) (eL fh (gc (dZ hJ (dZ hJ (dZ hJ (dZ hJ el))))) (fc jP (fc lY (pv 4) (pv 3)) er) (fun _ _=>rfl))) (ee (eK (i:=6) rN.nd rfl (Or.inl rfl) (gm (dZ (pv 5) (dZ (fj G bx rfl mG kG bG .nil eT (dZ (fc lY (fc jD (pv 4) er) (fc jD (pv 3) er)) el)) el)))) (ee (eK (i:=7) rN.nd rfl (Or.inl rfl) (gc el)) (ee (fO PassesOwn.never rfl (jT rfl T.range (dZ (eL fh (gc (dZ er (dZ er (dZ er (dZ er (dZ er (dZ er (dZ er (dZ er (dZ er (dZ er el))))))))))) (fc jP (fc jD (pv 4) er) er) (fun _ _=>rfl)) el)) (eM (i:=8) rN.nd rfl (Or.inl rfl)) (eA (gq (jB PySem.F.plainAttrs_list PySem.F.slot_list_append PySem.F.type_list_append gF (pv 7) (dZ (fj G2 hr rfl cn b3 b9 .nil eT (dZ (fc lY (fc lY (fc jD (pv 4) er) (fc sw er (pv 8))) (fc sw er (pv 3))) el)) el))))) (eA (fF (fz (jh hr.units) (pv 6) (pv 2) (by with_unfolding_all rfl)) (ee (gq (jB PySem.F.plainAttrs_list PySem.F.slot_list_append PySem.F.type_list_append gF (pv 2) (dZ (pv 6) el))) (eA (gq (jB PySem.F.plainAttrs_list PySem.F.slot_list_append PySem.F.type_list_append gF (pv 1) (dZ (gm (dZ (eL eR (pv 6) er (fun _ _=>rfl)) (dZ (eL eR (pv 6) er (fun _ _=>rfl)) (dZ (pv 7) el)))) el))))) eU)))))))) (eA (eP (pv 1)))))),?_⟩;have X:(ns.map V.int).length=ns.length:=ab _;refine⟨(by show 0≤sizeLine;decide),fun p hp=>⟨(by show 0≤sizeLine;decide),fun t ht=>?_⟩⟩;have s1:eG H (upd H p (.lst [])):=eB hp _;have an:p≠t:=eo (o:=.lst []) d0 ht;have b2:H t=none:=s1.free ht;have s2:eG H (upd (upd H p (.lst [])) t (.lst [])):=s1.trans (eB ht _);refine⟨_,rfl,a,_,rfl,.inl (s2.seq hS),_,rfl,by rw[X];omega,by rw[X];omega,?_⟩;refine lE (fun i σ H2=>JA H a p t i σ H2) ⟨⟨[],[],[],none,none,none,none,none,none,rfl,by rw[ef an];exact d0,d0,.nil,.nil,cb,by simp,ao _⟩,s2⟩ ?_ ?_
 ·rintro i σ H2 hi ⟨⟨es,xs,ys,o3,o4,o5,o6,o7,o8,rfl,ah,bd,M,L,Z,B,I⟩,sm⟩;have cy:((i:Nat):Int)<(ns.length:Int):=by rw[X,bu]at hi;omega
  have ct:i<ns.length:=by omega
  obtain⟨c,hc,_⟩:=ki (ns:=ns) (i:=0+(i:Int)) (by omega) (by omega);refine⟨_,rfl,_,rfl,a,_,_,_,rfl,rfl,sm.seq hS,hc,?_⟩;refine⟨(by show 4≤sizeLine;decide),fun l1 b1=>?_⟩;obtain⟨v,hv,hm⟩:=vS (xs:=[.str "as",.str "ashenashenashen",.str "ashenashxnashen",.str ""]) (i:=(c+(0+(i:Int))) % 4) (dw _ (by decide)) (cM _ (by decide));obtain⟨x,rfl,hx,bq⟩:=EA hm;refine⟨_,rfl,_,rfl,_,_,rfl,rfl,_,_,rfl,rfl,(by show(0:Int)<4;decide),l1,_,_,_,rfl,rfl,fb.of d0,hv,?_⟩;have sa:=eB b1 (.lst [.str "as",.str "ashenashenashen",.str "ashenashxnashen",.str ""]);refine⟨_,rfl,_,rfl,_,_,rfl,rfl,⟨by decide,by decide⟩,_,rfl,_,_,rfl,rfl,⟨by decide,by decide⟩,_,_,rfl,rfl,_,rfl,fun z H3 s3 b5=>⟨(by show 2≤sizeLine;decide),fun l cl=>?_⟩⟩;have sb:eG H2 (upd H3 l (.tup [.str x,.int z])):=(sa.trans s3).trans (eB cl _);generalize b6:upd H3 l (.tup [.str x,.int z])=Hb at sb;have co:Hb l=some (.tup [.str x,.int z]):=by rw[←b6];exact d0
  have a1:=sb _ _ ah;have ad:=sb _ _ bd;refine⟨(by show 0≤sizeLine;decide),fun nd r=>?_⟩;have b8:nd≠p:=Ne.symm (eo a1 r);have a4:nd≠t:=Ne.symm (eo ad r);refine⟨(by show 10≤sizeLine;decide),fun l2 a8=>?_⟩;obtain⟨jn,hj,bv⟩:=ki (ns:=[0,1,2,0,1,2,0,1,2,4]) (i:=c / 12 % 10) (dw _ (by decide)) (cM _ (by decide));have cx:0≤jn∧jn≤4:=by
   simp only[am,aG,or_false]at bv;omega
  refine⟨_,rfl,_,_,rfl,rfl,⟨by decide,by decide⟩,_,_,rfl,rfl,(by show(0:Int)<10;decide),l2,_,_,_,rfl,rfl,fb.of d0,hj,jn,rfl,by omega,by omega,?_⟩;have sd:eG Hb (upd (upd Hb nd (.lst [])) l2 (.lst [.int 0,.int 1,.int 2,.int 0,.int 1,.int 2,.int 0,.int 1,.int 2,.int 4])):=(eB r _).trans (eB a8 _);refine lE (fun j σ H6=>JB Hb p t nd (fun o8=>[some (.ref a),some (.ref p),some (.ref t),some (.int (0+(i:Int))),some (.int c),some (.str x),some (.ref l),some (.ref nd),o8]) j σ H6)
   ⟨⟨[],[],o8,rfl,by rw[ef (eo (o:=.lst []) d0 a8)];exact d0,.nil,by simp,ao _⟩,sd⟩ ?_ ?_
  ·rintro j σ H6 cv ⟨⟨zs,Y,bm,rfl,D,U,a3,ch⟩,s6⟩;refine⟨_,rfl,.inl ⟨rfl,_,fb.of D⟩,_,rfl,_,_,rfl,rfl,⟨by decide,by decide⟩,_,rfl,_,_,rfl,rfl,.inl ⟨by decide,by decide⟩,_,_,rfl,rfl,_,rfl,_,_,rfl,rfl,.inl ⟨by decide,by decide⟩,_,_,rfl,rfl,_,rfl,fun q0 n N s7 al cc hn=>?_⟩;have lz:=Paired.length U;refine⟨nd,_,_,rfl,rfl,s7 _ _ D,eV (by omega),⟨zs++[.ref q0],Y++[n],_,rfl,d0,?_,?_,by rw[aE,aV];omega⟩,eG.upd (s6.trans s7) r⟩
   ·rw[lF (by simp)];refine Paired.snoc (Paired.JH U fun _ _ y=>gX.same (eG.del s7 _) y) ⟨q0,rfl,?_⟩;rw[eE]
    ·exact cc
    ·simp only[am,aG,or_false,not_or];exact⟨Ne.symm (eo (s6 _ _ a1) al),Ne.symm (eo (s6 _ _ ad) al),Ne.symm (eo D al)⟩
   ·intro m hm;rcases az.mp hm with y | y
    ·exact a3 m y
    ·rw[aj.mp y];exact hn
  ·rintro σ H6 ⟨⟨zs,Y,bm,rfl,D,U,a3,ch⟩,s6⟩;have aa:=s6 _ _ a1;have J:=s6 _ _ ad;have O:=s6 _ _ co;have C:eG H2 H6:=sb.trans s6;have b4:l≠p:=Ne.symm (fJ aa O (by intro y;cases y));have a7:l≠t:=Ne.symm (fJ J O (by intro y;cases y));have a5:Paired (fg H6) ys (es.map eX):=Paired.JH L fun _ _ y=>fg.same ((eG.del C _).trans (fm _ _)) y;have cd:∀k∈es.map eX,fR k.1:=fun k hk=>by
    obtain⟨e,he,rfl⟩:=aA.mp hk;exact(B e he).1.pt
   refine⟨_,rfl,_,rfl,ku (x,z),(es.map eX).map ku,fg.rep ⟨l,rfl,O⟩,.lst J (ow (fun _ _ y=>fg.rep y) a5),(iF hx).1,jA cd,(iF hx).2,_,rfl,?_⟩;rw[li];refine jm (fun as=>?_) (fun as=>?_)
   ·have a9:¬(x,z)∈es.map eX:=by
     intro y;rw[aq y]at as;exact absurd as (by decide)
    have ly:=Paired.length L;have lx:=Paired.length M;rw[ab]at ly;refine⟨_,rfl,.inl ⟨rfl,_,fb.of J⟩,_,rfl,t,_,_,rfl,rfl,J,eV (by omega),?_⟩;generalize d:upd H6 t (.lst (ys++[.ref l]))=N;have ag:N p=some (.lst xs):=by rw[←d,ef an];exact aa
    have a0:N l=some (.tup [.str x,.int z]):=by rw[←d,ef a7];exact O
    have cp:N nd=some (.lst zs):=by rw[←d,ef a4];exact D
    have a6:N t=some (.lst (ys++[.ref l])):=by rw[←d];exact d0
    refine⟨_,rfl,.inl ⟨rfl,_,fb.of ag⟩,_,rfl,l,_,_,_,rfl,rfl,gH.of a0,rfl,_,rfl,l,_,_,_,rfl,rfl,gH.of a0,rfl,_,rfl,(by show 3≤sizeLine;decide),fun en a2=>?_⟩;have s8:=eB a2 (.tup [.str x,.int z,.ref nd]);have b7:en≠p:=Ne.symm (eo ag a2);have bl:en≠t:=Ne.symm (eo a6 a2);refine⟨p,xs,_,rfl,rfl,s8 _ _ ag,eV (by omega),?_⟩;have d9:del (upd (upd N en (.tup [.str x,.int z,.ref nd])) p (.lst (xs++[.ref en]))) [p,t]=del (upd N en (.tup [.str x,.int z,.ref nd])) [p,t]:=lF (by simp);have d7:del N [p,t]=del H6 [p,t]:=by rw[←d];exact lF (by simp)
    have ba:eG (del H2 [p,t]) (del (upd N en (.tup [.str x,.int z,.ref nd])) [p,t]):=(eG.del C _).trans (d7▸eG.del s8 _);refine⟨⟨es++[(x,z,Y)],xs++[.ref en],ys++[.ref l],_,_,_,_,_,_,rfl,d0,?_,?_,?_,?_,?_,by rw[aE,aV];omega⟩,?_⟩
    ·rw[ef (Ne.symm an)];exact s8 _ _ a6
    ·rw[d9];refine Paired.snoc (Paired.JH M fun _ _ y=>j6.same ba y) ⟨en,nd,zs,rfl,?_,?_,?_⟩
     ·rw[eE (by simp only[am,aG,or_false,not_or];exact⟨b7,bl⟩)];exact d0
     ·rw[eE (by simp only[am,aG,or_false,not_or];exact⟨b8,a4⟩)];exact s8 _ _ cp
     ·refine Paired.JH U fun _ m y=>gX.same (fun b o R=>?_) y;have S:b∉[p,t,nd]:=fun y=>by rw[fH y]at R;cases R
      rw[eE S]at R;simp only[am,aG,or_false,not_or]at S;rw[eE (by simp only[am,aG,or_false,not_or];exact⟨S.1,S.2.1⟩)];refine s8 _ _ ?_;rw[←d,ef S.2.1];exact R
    ·rw[d9,av];refine Paired.snoc (Paired.JH L fun _ _ y=>fg.same ba y) ⟨l,rfl,?_⟩;rw[eE (by simp only[am,aG,or_false,not_or];exact⟨b4,a7⟩)];exact s8 _ _ a0
    ·rw[av];exact wy Z a9
    ·intro e he;rcases az.mp he with y | y
     ·exact B e y
     ·rw[aj.mp y];exact⟨⟨hx,a3,by show Y.length≤100;omega⟩,bq,b5⟩
    ·have bf:eG H N:=by rw[←d];exact eG.upd (sm.trans C) b2
     exact eG.upd (bf.trans s8) hp
   ·exact⟨⟨es,xs,ys,_,_,_,_,_,_,rfl,aa,J,Paired.JH M fun _ _ y=>j6.same (eG.del C _) y,Paired.JH L fun _ _ y=>fg.same (eG.del C _) y,Z,B,by omega⟩,sm.trans C⟩
 ·rintro σ H2 ⟨⟨es,xs,ys,o3,o4,o5,o6,o7,o8,rfl,ah,bd,M,L,Z,B,I⟩,sm⟩;refine⟨_,rfl,q p es xs H2 sm hp ah (Paired.JH M fun _ _ y=>j6.same (fun b o R=>?_) y) Z (fun e he=>(B e he).1) (by rw[X,bu]at I;exact I) (fun e he=>(B e he).2)⟩;have S:b∉[p,t]:=fun y=>by rw[fH y]at R;cases R
  rw[eE S]at R;simp only[am,aG,or_false,not_or]at S;rw[eE (by simpa using S.1)];exact R
end
inductive Dx (vs:List V)(H:Hp)(Q:VK)(E:XK):Prop
 |mk (a:Addr)(v:V)(es:List En)(n:Nd)(_:vs=[.ref a,v])(_:iU H a es)(_:gX H v n)(_:es.length<64)(_:∀p H',eG H H'→H p=none→H' p=some (.lst ((iT es n).map V.int))→Q (.ref p) H'):Dx vs H Q E
def oX:Sp:=Dx
theorem Go (vs:List V)(H:Hp)(Q:VK)(E:XK)(h:oX vs H Q E):oW K vs H Q E:=by
 obtain⟨a,v,es,n,rfl,h1,h2,j,q⟩:=h;refine⟨a,v,es,n,rfl,h1,h2,j,fun p d H' g m hp i l b=>?_⟩;have e:d.reverse=iT es n:=pQ ((List.reverse_perm d).trans hp) (List.pairwise_reverse.mpr i);refine q l _ (g.trans (eB b _)) (g.free b) ?_;rw[d0,←e,List.map_reverse]
abbrev IU:List Str:=["_law_shelf","_law_start","_law_lines","_law_spot","_law_picks","_law_word","_law_who","_law_place","_law_told","_law_needs","_law_need","_law_versions","_law_k","_law_pick"]
section
variable {base:Heap}{f:Addr}
theorem oe:eN IU ["_law_shelf","_law_start","_law_lines","_law_spot"] (eF pF):=i9
end
inductive Bh (vs:List V)(H:Hp)(Q:VK)(E:XK):Prop
 |mk (i:Int)(_:vs=[.int i])(_:Q (.bl true) H):Bh vs H Q E
def rm:Sp:=Bh
section
variable {base:Heap}{f:Addr}
theorem HY:eN ["_law_found"] ["_law_found"] (eF uV):=i9
theorem Ae (F:iN K "_law_whole" "_law_whole" uV f fd)(T:xm K mg):eZ P w K mg base ff 1 f fd ["_law_found"] rm:=by
 refine F.ok HY (fun vs H Q E h=>?_) (fun cdv A outer s H vs Q E a h=>?_)
 ·obtain⟨i,rfl,_⟩:=h;rfl
 obtain⟨i,rfl,q⟩:=h;refine⟨_,eA (eP (lW (fi gu rfl T.isin b0 (dZ (pv 0) (dZ (kT rfl T.int boot_int) el))) (nA (u8 (fi gu rfl T.isin b0 (dZ (pv 0) (dZ (kT rfl T.bool boot_bool) el))))))),?_⟩;refine⟨_,rfl,_,_,_,_,rfl,.int i,ES K,_,rfl,gW ⟨_,rfl,_,_,_,_,rfl,.int i,ET K,_,rfl,q⟩⟩
end
inductive xc (vs:List V)(H:Hp)(Q:VK)(E:XK):Prop
 |mk (v:V)(k:Pk)(_:vs=[v])(_:fg H v k)(_:Q (.bl true) H):xc vs H Q E
def pd:Sp:=xc
inductive qZ (vs:List V)(H:Hp)(Q:VK)(E:XK):Prop
 |mk (a:Addr)(ks:List Pk)(_:vs=[.ref a])(_:jK H a ks)(_:Q (.bl true) H):qZ vs H Q E
def jj:Sp:=qZ
inductive xf (vs:List V)(H:Hp)(Q:VK)(E:XK):Prop
 |mk (v:V)(l:Ln)(_:vs=[v])(_:ol H v l)(_:Q (.bl true) H):xf vs H Q E
def tE:Sp:=xf
section
variable {base:Heap}{f:Addr}
theorem F0:eN ["_law_found"] ["_law_found"] (eF sg):=i9
theorem x8 (F:iN K "_law_is_pick" "_law_is_pick" sg f fd)(T:xm K mg)(G:eZ P w K mg base ff 1 g gd ["_law_found"] rm)(e:gl K gd ["_law_found"] [])(j:W.keepIn K (.ref g)=true)(i:mg "_law_whole" = some (.ref g)):eZ P w K mg base ff 2 f fd ["_law_found"] pd:=by
 refine F.ok F0 (fun vs H Q E h=>?_) (fun cdv A outer s H vs Q E d h=>?_)
 ·obtain⟨v,k,rfl,_⟩:=h;rfl
 obtain⟨v,k,rfl,⟨b,rfl,a⟩,q⟩:=h;refine⟨_,(ee (fF (PW.pt (kr (gO (gQ (fi gu rfl T.isin b0 (dZ (pv 0) (dZ (kT rfl T.tuple boot_tuple) el))))) (jO (fz qL (fi fK rfl T.len bT (dZ (pv 0) el)) er (fQ _))))) (eA (eP iM)) eU) (eA (eP (lW (fi gu rfl T.isin b0 (dZ (eL eR (pv 0) er (fun _ _=>rfl)) (dZ (kT rfl T.str boot_str) el))) (nA (fj G d rfl i j e .nil eT (dZ (eL eR (pv 0) er (fun _ _=>rfl)) el))))))),?_⟩;refine⟨_,rfl,_,_,_,_,rfl,jv.tup a,pT K,_,rfl,fC ?_⟩;refine⟨_,rfl,b,_,rfl,.inr (gH.of a),rfl,_,rfl,fC ?_⟩;exact⟨_,rfl,b,_,_,_,rfl,rfl,gH.of a,rfl,_,_,_,_,rfl,.str k.1,AE K,_,rfl,gW ⟨_,rfl,b,_,_,_,rfl,rfl,gH.of a,rfl,k.2,rfl,q⟩⟩
theorem Dp:eN ["_law_found","_law_pick"] ["_law_found"] (eF nn):=i9
theorem tQ (F:iN K "_law_are_picks" "_law_are_picks" nn f fd)(T:xm K mg)(G:eZ P w K mg base ff 2 g gd ["_law_found"] pd)(l:gl K gd ["_law_found"] [])(p:W.keepIn K (.ref g)=true)(o:mg "_law_is_pick" = some (.ref g)):eZ P w K mg base ff 3 f fd ["_law_found"] jj:=by
 refine F.ok Dp (fun vs H Q E h=>?_) (fun cdv A outer s H vs Q E j h=>?_)
 ·obtain⟨a,ks,rfl,_⟩:=h;rfl
 obtain⟨a,ks,rfl,⟨xs,b,hp⟩,q⟩:=h;refine⟨_,(ee (fF (gO (gQ (fi gu rfl T.isin b0 (dZ (pv 0) (dZ (kT rfl T.list dX) el))))) (eA (eP iM)) eU) (ee (fO PassesOwn.never rfl (fD (pv 0)) (eM (i:=1) Dp.nd rfl (Or.inl rfl)) (eA (fF (gO (gQ (fj G j rfl o p l .nil eT (dZ (pv 1) el)))) (eA (eP iM)) eU))) (eA (eP iM)))),?_⟩;refine⟨_,rfl,_,_,_,_,rfl,jv.lst b,sM K,_,rfl,fC ?_⟩;refine⟨_,rfl,a,rfl,⟨_,fb.of b⟩,?_⟩;refine fU (K:=K) (a:=a) (xs:=xs) (fun i σ H2=>∃d,σ=[some (.ref a),d]∧H2=H) ⟨none,rfl,rfl⟩ (fun i σ H2 _ ⟨_,_,e⟩=>by rw[e];exact fb.of b) ?_ ?_
 ·rintro i x σ H2 hi ⟨d,rfl,rfl⟩;obtain⟨k,_,m⟩:=Paired.J2 hp hi;exact⟨_,rfl,x,k,rfl,m,_,rfl,fC ⟨_,rfl,rfl⟩⟩
 ·rintro σ H2 ⟨d,rfl,rfl⟩;exact q
end
theorem Az {es:List En}{sn:List Nd}{ls:List Ln}{i:Int}{l:Ln}(h:i7 es sn ls i l=true):D4 es l.1 l.2.who=true∧∃n,iB (gJ es sn l.2.who) l.2.place=some n∧Di es ls i l.1 n l.2.told=true:=by
 unfold i7 at h;rw[aB]at h;refine⟨h.1,?_⟩;cases hn:iB (gJ es sn l.2.who) l.2.place with
 |none=>rw[hn]at h;exact absurd h.2 aN
 |some n=>rw[hn]at h;exact⟨n,rfl,h.2⟩
theorem Dd {ls:List Ln}{i:Int}{ps:List Pk}{x:Str}{b v:Int}(h:ut ls i ps x b v=true):0≤b∧b<i∧∃l,iB ls b=some l∧∀p∈l.1,p∈ps∨p=(x,v):=by
 unfold ut at h;rw[aB,aB,aw,aw]at h;refine⟨h.1,h.2.1,?_⟩;have a:=h.2.2;cases hl:iB ls b with
 |none=>rw[hl]at a;cases a
 |some l=>
  rw[hl]at a;refine⟨l,rfl,fun p hp=>?_⟩;have:=bF.mp a p hp;rw[cS,aw,aw]at this;exact this
inductive xg (vs:List V)(H:Hp)(Q:VK)(E:XK):Prop
 |mk (sh st la:Addr)(es:List En)(sn:List Nd)(ls:List Ln)(spot:Nat)(l:Ln)(_:vs=[.ref sh,.ref st,.ref la,.int spot])(_:iU H sh es)(_:es.length<64)(_:(es.map eX).Nodup)(_:∀e∈es,mT e)(_:gL H st sn)(_:∀n∈sn,fR n.1)(_:j4 H la ls)(_:∀l∈ls,vY l)(_:ls[spot]?=some l)(_:i7 es sn ls spot l=true)(_:∀H',eG H H'→Q (.bl true) H'):xg vs H Q E
def tG:Sp:=xg
section
variable {base:Heap}{f:Addr}
theorem ya {g1:Addr}{gd1:FuncData}(F:iN K "_law_holds" "_law_holds" pF f fd)(T:xm K mg)(G1:eZ P w K mg base ff 1 g1 gd1 ["_law_shelf","_law_pick"] qC)(b1:gl K gd1 ["_law_shelf","_law_pick"] [])(k1:W.keepIn K (.ref g1)=true)(m1:mg "_law_needs_in" = some (.ref g1))(G2:eZ P w K mg base ff 1 g2 gd2 ["_law_need","_law_version"] (pc K))(b2:gl K gd2 ["_law_need","_law_version"] [])(k2:W.keepIn K (.ref g2)=true)(m2:mg "_law_meets" = some (.ref g2))(G3:eZ P w K mg base ff 2 g3 gd3 ["_law_shelf","_law_need"] (oW K))(b3:gl K gd3 ["_law_shelf","_law_need"] [])(k3:W.keepIn K (.ref g3)=true)(m3:mg "_law_newest" = some (.ref g3)):eZ P w K mg base ff 3 f fd ["_law_shelf","_law_start","_law_lines","_law_spot"] tG:=by
 refine F.ok oe (fun vs H Q E h=>?_) (fun cdv A outer s H vs Q E hr h=>?_)
 ·obtain⟨sh,st,la,es,sn,ls,spot,l,rfl,_⟩:=h;rfl
 obtain⟨sh,st,la,es,sn,ls,spot,l,rfl,bd,b9,a9,bl,bq,cd,⟨ys,hy,a8⟩,an,b8,X,q⟩:=h;have al:gK 1 _:=hr.mono (by decide);have b7:eZ P w K mg base ff 2 g3 gd3 ["_law_shelf","_law_need"] oX:=G3.imp fun vs H Q E z=>Go vs H Q E z;have ag:iB ls (spot:Int)=some l:=by rw[io];exact b8
 obtain⟨lv,cz,bf⟩:=iS a8 ag;have O:=jE cz;have d:=an l (mJ ag);obtain⟨M,n,y,I⟩:=Az X;have b5:=tU bl cd _ n (mJ y);obtain⟨lq,pa,rv,rfl,h1,h2,cl⟩:=id bf;obtain⟨rq,wv,tv,rfl,b6,hw,G⟩:=id cl;have r4:∃tR:TS,mj (qt ff P w K mg base IU "_law_holds" (eF pF) f cdv A outer s H E).nox ((gr pF).drop 4) tR∧
   ∀(J:Addr) (zs:List V) (ns:List Nd),H J=some (.lst zs)→Paired (gX H) zs ns→iB ns l.2.place=some n→
    tR {nx:=fun _ H'=>Q .non H',rt:=Q} [some (.ref sh),some (.ref st),some (.ref la),some (.int spot),some (.ref pa),some (.str (mV l.2.told)),some wv,some (.int l.2.place),some tv,some (.ref J),none,none,none,none] H:=by
  refine⟨_,(ee (fF (PW.pt (kr (fz wn (pv 7) er (fQ _)) (jO (fz Dq (pv 7) (fi fK rfl T.len bT (dZ (pv 9) el)) (fQ _))))) gR eU) (ee (eK (i:=10) oe.nd rfl (Or.inl rfl) (eL fh (pv 9) (pv 7) (fun _ _=>rfl))) (ee (fF (fz kz (pv 5) hJ (fQ _)) (eA (eP (lW (j8 (EC hr.units) (pv 8) (pv 4) (by with_unfolding_all rfl)) (lW (j8 kz (eL eR (pv 8) er (fun _ _=>rfl)) (eL eR (pv 10) er (fun _ _=>rfl)) (fQ _)) (nA (u8 (fj G2 al rfl m2 k2 b2 .nil eT (dZ (pv 10) (dZ (eL eR (pv 8) er (fun _ _=>rfl)) el))))))))) eU) (ee (eK (i:=11) oe.nd rfl (Or.inl rfl) (fj b7 hr rfl m3 k3 b3 .nil eT (dZ (pv 0) (dZ (pv 10) el)))) (ee (fF (fz qL (fi fK rfl T.len bT (dZ (pv 8) el)) (fi fK rfl T.len bT (dZ (pv 11) el)) (fQ _)) gR eU) (ee (fO PassesOwn.never rfl (jT rfl T.range (dZ (fi fK rfl T.len bT (dZ (pv 8) el)) el)) (eM (i:=12) oe.nd rfl (Or.inl rfl)) (ee (fF (PW.pt (kr (fz wn (eL fh (pv 8) (pv 12) (fun _ _=>rfl)) er (fQ _)) (jO (fz Dq (eL fh (pv 8) (pv 12) (fun _ _=>rfl)) (pv 3) (fQ _))))) gR eU) (eA (fO PassesOwn.never rfl (fD (eL eR (eL fh (pv 2) (eL fh (pv 8) (pv 12) (fun _ _=>rfl)) (fun _ _=>rfl)) er (fun _ _=>rfl))) (eM (i:=13) oe.nd rfl (Or.inl rfl)) (eA (fF (PW.pt (kM (fz (jh hr.units) (pv 13) (pv 4) (by with_unfolding_all rfl)) (jy (fz (Aa hr.units) (pv 13) (gm (dZ (eL eR (pv 10) er (fun _ _=>rfl)) (dZ (eL fh (pv 11) (pv 12) (fun _ _=>rfl)) el))) (fQ _))))) gR eU)))))) (eA (eP iM)))))))),?_⟩;intro J zs ns C N y;have lz:=Paired.length N;have h0:¬l.2.place<0:=fun z=>by rw[qM.mpr (.inl z)]at y;cases y
  have h9:¬(zs.length:Int)≤l.2.place:=fun z=>by rw[qM.mpr (.inr (by rw[←lz];exact z))]at y;cases y
  refine⟨_,rfl,_,_,rfl,rfl,_,rfl,jm (fun e=>(h0 (aW e)).elim) (fun _=>?_)⟩;refine⟨_,rfl,_,rfl,J,_,rfl,.inl (fb.of C),_,_,rfl,rfl,_,rfl,jm (fun e=>(h9 (aW e)).elim) (fun _=>?_)⟩;obtain⟨v,hv,cv⟩:=iS N y;obtain⟨S,rfl,L⟩:=id cv;refine⟨_,rfl,_,rfl,J,_,_,_,rfl,rfl,fb.of C,jE hv,?_⟩;refine⟨_,rfl,rfl,_,rfl,?_⟩;cases ht:l.2.told with
  |one k=>
   rw[ht]at G I;have R:fg H tv k:=G;have g:=d.one k ht;obtain⟨kq,rfl,r⟩:=id R;have b:(decide (k∈l.1)&&(decide (k.1=n.1)&&!(mi n k.2)))=true:=I;rw[aB,aB]at b;refine jm (fun _=>?_) (fun c=>absurd (show decide (V.str "outside" = V.str "outside")=true by decide +kernel) c);refine⟨_,rfl,_,rfl,ku k,l.1.map ku,R.rep,h2.rep,(iF g).1,jA d.pk,(iF g).2,_,rfl,?_⟩;rw[if_neg aN,li,b.1];refine gW ⟨_,rfl,kq,_,_,_,rfl,rfl,gH.of r,rfl,_,rfl,S,_,_,_,rfl,rfl,gH.of L,rfl,rfl,_,rfl,?_⟩;rw[jH,b.2.1];refine gW ⟨_,rfl,_,rfl,kq,_,_,_,rfl,rfl,gH.of r,rfl,.ref S,n,k.2,rfl,⟨S,rfl,L⟩,_,rfl,?_⟩;have q2:=q H (eG.refl _);rw[←b.2.2]at q2;exact q2
  |many bs=>
   rw[ht]at G I;obtain⟨U,rfl,ad⟩:=G;have b:kD es ls spot l.1 n bs=true:=I;unfold kD at b;rw[aB,aw,bF]at b;obtain⟨b4,a3⟩:=b;refine jm (fun c=>absurd c (show ¬decide (V.str "open" = V.str "outside")=true by decide +kernel)) (fun _=>?_);refine⟨_,rfl,_,rfl,sh,.ref S,es,n,rfl,bd,⟨S,rfl,L⟩,b9,fun va H1 s1 _ a6=>?_⟩;refine⟨_,rfl,U,_,rfl,.inl (fb.of (s1 _ _ ad)),_,rfl,va,_,rfl,.inl (fb.of a6),rfl,_,rfl,jm (fun e=>?_) (fun _=>?_)⟩
   ·rw[ab,ab,b4,aq rfl]at e;cases e
   have c3:=d.many bs ht;refine⟨_,rfl,U,_,rfl,.inl (fb.of (s1 _ _ ad)),_,rfl,by omega,by rw[ab];omega,?_⟩;refine lE (fun i σ H2=>∃aa p,σ=[some (.ref sh),some (.ref st),some (.ref la),some (.int spot),some (.ref pa),some (.str (mV l.2.told)),some wv,some (.int l.2.place),some (.ref U),some (.ref J),some (.ref S),some (.ref va),aa,p]∧eG H1 H2)
    ⟨none,none,by rw[ht];rfl,eG.refl _⟩ ?_ ?_
   ·rintro i σ H2 hi ⟨aa,p,rfl,s2⟩;have cx:i<bs.length:=by rw[bu,ab]at hi;exact hi
    have N:bs[i]?=some bs[i]:=ak cx;have hv:(iT es n)[i]?=some (iT es n)[i]:=ak (by omega);generalize bs[i]=z at N;generalize (iT es n)[i]=v at hv;obtain⟨c2,c0,m,hm,a5⟩:=Dd (a3 (z,v) (ai (i:=i) (dQ.mpr ⟨N,hv⟩)));have D:=s1.trans s2;have ei:(0+(i:Int))=((i:Nat):Int):=by omega
    have t:sW (bs.map V.int) (0+(i:Int))=some (.int z):=by rw[ei];exact oM (by rw[ae,N];rfl)
    have ah:sW ((iT es n).map V.int) (0+(i:Int))=some (.int v):=by rw[ei];exact oM (by rw[ae,hv];rfl)
    have Z:fb K H2 U (bs.map V.int):=fb.of (D _ _ ad);refine⟨_,rfl,_,rfl,U,_,_,_,rfl,rfl,Z,t,_,_,rfl,rfl,_,rfl,jm (fun e=>absurd (aW e) (by omega)) (fun _=>?_)⟩;refine⟨_,rfl,_,rfl,U,_,_,_,rfl,rfl,Z,t,_,rfl,_,_,rfl,rfl,_,rfl,jm (fun e=>absurd (aW e) (by omega)) (fun _=>?_)⟩;obtain⟨mv,ch,bx⟩:=iS a8 hm;obtain⟨mq,ma,mr,rfl,co,⟨xs,a1,cn⟩,_⟩:=ol.same D bx;have as:=an m (mJ hm);refine⟨_,rfl,_,rfl,_,rfl,U,_,_,_,rfl,rfl,Z,t,la,_,_,_,rfl,rfl,fb.of (D _ _ hy),jE ch,mq,_,_,_,rfl,rfl,gH.of co,rfl,ma,rfl,⟨xs,fb.of a1⟩,?_⟩;refine fU (K:=K) (a:=ma) (xs:=xs) (fun j σ H3=>∃p,σ=[some (.ref sh),some (.ref st),some (.ref la),some (.int spot),some (.ref pa),some (.str (mV l.2.told)),some wv,some (.int l.2.place),some (.ref U),some (.ref J),some (.ref S),some (.ref va),some (.int (0+(i:Int))),p]∧eG H2 H3)
     ⟨p,rfl,eG.refl _⟩ (by rintro j σ H3 _ ⟨_,_,B⟩;exact fb.of (B _ _ a1)) ?_ ?_
    ·rintro j x σ H3 hj ⟨a2,rfl,B⟩;obtain⟨k,bm,R⟩:=Paired.J2 cn hj;obtain⟨kq,rfl,r⟩:=id R;have a0:=ai bm;have g:=as.pk k a0;have a4:=D.trans B;refine⟨_,rfl,_,rfl,ku k,l.1.map ku,fg.rep ⟨kq,rfl,B _ _ r⟩,(jK.same a4 h2).rep,(iF g).1,jA d.pk,(iF g).2,_,rfl,?_⟩;rw[if_pos rfl,li];by_cases c:k∈l.1
     ·rw[aq c];exact fC (fC ⟨_,rfl,B⟩)
     rw[ar c];refine gW ⟨_,rfl,_,rfl,S,_,_,_,rfl,rfl,gH.of (a4 _ _ L),rfl,_,rfl,_,rfl,va,_,_,_,rfl,rfl,fb.of ((s2.trans B) _ _ a6),ah,(by show 2≤sizeLine;decide),fun t2 cc=>?_⟩;have s5:=eB cc (.tup [.str n.1,.int v]);refine⟨ku k,ku (n.1,v),fg.rep ⟨kq,rfl,s5 _ _ (B _ _ r)⟩,fg.rep (k:=(n.1,v)) ⟨t2,rfl,d0⟩,j9 (qH g) (by decide),j9 (qH (k:=(n.1,v)) b5) (by decide),_,rfl,?_⟩;rw[AU,aq ((a5 k a0).resolve_left c)];exact fC ⟨_,rfl,B.trans s5⟩
    ·rintro σ H3 ⟨a2,rfl,B⟩;exact⟨_,_,rfl,s2.trans B⟩
   ·rintro σ H2 ⟨aa,p,rfl,s2⟩;exact q H2 (s1.trans s2)
 obtain⟨c1,cp,a7⟩:=r4;refine⟨_,(ee (eK (i:=4) oe.nd rfl (Or.inl rfl) (eL eR (eL fh (pv 2) (pv 3) (fun _ _=>rfl)) er (fun _ _=>rfl))) (ee (zH (eL eR (eL fh (pv 2) (pv 3) (fun _ _=>rfl)) er (fun _ _=>rfl)) (nz rfl (gy (eM (i:=5) oe.nd rfl (Or.inl rfl)) (gy (eM (i:=6) oe.nd rfl (Or.inl rfl)) (gy (eM (i:=7) oe.nd rfl (Or.inl rfl)) (gy (eM (i:=8) oe.nd rfl (Or.inl rfl)) lu)))))) (ee (eK (i:=9) oe.nd rfl (Or.inl rfl) (pv 1)) (ee (fF (iL (oz (pv 6))) (ee (eK (i:=9) oe.nd rfl (Or.inl rfl) (fj G1 al rfl m1 k1 b1 .nil eT (dZ (pv 0) (dZ (pv 6) el)))) (eA (fF (PW.pt (kr (iL (u9 (pv 9))) (jO (fz (jh hr.units) (pv 6) (pv 4) (by with_unfolding_all rfl))))) gR eU))) eU) cp)))),?_⟩;refine⟨_,rfl,_,rfl,la,_,_,_,rfl,rfl,fb.of hy,O,lq,_,_,_,rfl,rfl,gH.of h1,rfl,?_⟩;refine⟨_,rfl,_,rfl,la,_,_,_,rfl,rfl,fb.of hy,O,lq,_,_,_,rfl,rfl,gH.of h1,rfl,rq,_,rfl,gH.of b6,rfl,_,_,rfl,_,_,rfl,_,_,rfl,_,_,rfl,rfl,?_⟩;refine⟨_,rfl,?_⟩;cases ew:l.2.who with
 |none=>
  rw[ew]at hw y;cases (show wv=.non from hw);obtain⟨zs,N,ct⟩:=bq;exact⟨_,rfl,_,rfl,fC (a7 st zs sn N ct y)⟩
 |some k=>
  rw[ew]at hw y M;have R:fg H wv k:=hw;have g:=d.who k ew;obtain⟨kq,rfl,r⟩:=id R;have o:(decide (k∈l.1)&&decide (k∈es.map eX))=true:=M;rw[aB]at o;refine⟨_,rfl,_,rfl,gW ?_⟩;refine⟨_,rfl,_,rfl,sh,.ref kq,es,k,rfl,bd,R,a9,fun e he bv J zs C cy=>?_,fun Y=>absurd (aW o.2) Y⟩;refine⟨_,rfl,_,rfl,fC ⟨_,rfl,_,rfl,ku k,l.1.map ku,R.rep,h2.rep,(iF g).1,jA d.pk,(iF g).2,_,rfl,?_⟩⟩;rw[if_pos rfl,li,o.1];refine fC (a7 J zs e.2.2 C cy ?_);have Y:jd es k=e.2.2:=by rw[←bv,nS a9 he]
  rw[←Y];exact y
end
theorem Gq:(["_law_one","_law_known"]:List Str).Nodup:=by decide +kernel
inductive Bp (vs:List V)(H:Hp)(Q:VK)(E:XK):Prop
 |mk (la kn:Addr)(ls:List Ln)(ks:List Pk)(_:vs=[.ref la,.ref kn])(_:j4 H la ls)(_:∀l∈ls,vY l)(_:jK H kn ks)(_:∀k∈ks,fR k.1)(_:∃l∈ls,∀p∈l.1,p∈ks)(_:∀H',eG H H'→Q (.bl true) H'):Bp vs H Q E
def ou:Sp:=Bp
section
variable {base:Heap}{f:Addr}
theorem Dm:eN ["_law_lines","_law_known","_law_line"] ["_law_lines","_law_known"] (eF pE):=i9
theorem Al (F:iN K "_law_barred" "_law_barred" pE f fd):eZ P w K mg base ff 1 f fd ["_law_lines","_law_known"] ou:=by
 refine F.ok Dm (fun vs H Q E h=>?_) (fun cdv A outer s H vs Q E hr h=>?_)
 ·obtain⟨O,kn,ls,ks,rfl,_⟩:=h;rfl
 obtain⟨O,kn,ls,ks,rfl,⟨xs,hx,B⟩,T,R,Y,⟨lB,U,o⟩,q⟩:=h;have lx:=Paired.length B;refine⟨_,(ee (fO PassesOwn.never rfl (fD (pv 0)) (eM (i:=2) Dm.nd rfl (Or.inl rfl)) (eA (fF (fz (Ac hr.units) (iq (N':=["_law_one","_law_known"]) (n:=1) (js:=[1]) rfl (iD.one (c:=s.heap.objs.size+1) (y:="_law_known") rfl rfl (by decide +kernel) rfl (by decide +kernel) (by decide +kernel) rfl rfl rfl rfl rfl) (ig (by decide)) (fD (eL eR (pv 2) er (fun _ _=>rfl))) (fun C g H2 fp=>eM (i:=0) Gq rfl (Or.inl rfl)) (fun C g H2 fp=>mD (fz (jh hr.units) (pv 0) (pv 1) (by with_unfolding_all rfl))) (fun C g H2 fp=>pv 0)) (gc el) (fQ _)) (eA (eP iM)) eU))) (eA (eP iM))),?_⟩;refine⟨_,rfl,O,rfl,⟨_,fb.of hx⟩,?_⟩;refine fU (K:=K) (a:=O) (xs:=xs) (fun i σ H2=>∃X,σ=[some (.ref O),some (.ref kn),X]∧eG H H2∧lB∉ls.take i)
  ⟨none,rfl,eG.refl _,by simp⟩ (by rintro i σ H2 _ ⟨_,_,g,_⟩;exact fb.of (g _ _ hx)) ?_ ?_
 ·rintro i x σ H2 hi ⟨X,rfl,g,m⟩;obtain⟨l,G,hl⟩:=Paired.J2 B hi;have b:=T l (ai G);obtain⟨lq,pa,rv,rfl,h1,⟨ys,h2,h3⟩,_⟩:=ol.same g hl;have ly:=Paired.length h3;have et:ls.take (i+1)=ls.take i++[l]:=by rw[bb,G];rfl
  refine⟨_,rfl,lq,_,_,_,rfl,rfl,gH.of h1,rfl,pa,rfl,⟨_,fb.of h2⟩,?_⟩;refine ia (xs:=ys) (fun D j us M=>Paired (fg H2) us ((l.1.take j).filter fun p=>!decide (p∈ks))∧M=upd H2 D (.lst us)∧H2 D=none) (fun D hD=>⟨by simpa using Paired.nil,rfl,hD⟩)
   (by
    rintro D j us M hj ⟨r,rfl,g3⟩;refine⟨fb.of (eB g3 _ _ _ h2),d0,?_⟩;rw[Paired.length r]
    exact bw (br (bz _ _) (br (List.length_take_le' _ _) b.len)) (by rw[bZ];decide))
   ?_ ?_
  ·rintro D j x us M hj ⟨r,rfl,g3⟩;obtain⟨k,J,N⟩:=Paired.J2 h3 hj;have Z:l.1.take (j+1)=l.1.take j++[k]:=by rw[bb,J];rfl
   have I:=b.pk k (ai J);have t:=eB g3 (.lst us);unfold i8;refine⟨_,rfl,_,rfl,ku k,ks.map ku,(fg.same t N).rep,(jK.same (g.trans t) R).rep,(iF I).1,jA Y,(iF I).2,_,rfl,?_⟩;rw[if_pos rfl,li];refine jm (fun v=>?_) (fun v=>?_)
   ·refine⟨_,rfl,d0,?_,by rw[iK],g3⟩;rw[Z,bS,aH,if_pos v];exact Paired.snoc r N
   ·refine⟨?_,rfl,g3⟩;rw[Z,bS,aH,if_neg v,List.filter_nil,cf];exact r
  ·rintro D us M ⟨r,rfl,g3⟩;rw[ly,aF]at r;have t:=eB g3 (.lst us);refine⟨(by show 0≤sizeLine;decide),fun e he=>?_⟩;have L:=eB he (.lst []);have S:kY 2 (.list ((l.1.filter fun p=>!decide (p∈ks)).map ku))=true:=by
    rw[kY,bF];intro d hd;obtain⟨k,N,rfl⟩:=aA.mp hd;exact qH (b.pk k (aS.mp N).1)
   refine⟨.list ((l.1.filter fun p=>!decide (p∈ks)).map ku),.list [],jK.rep ⟨us,L _ _ d0,Paired.JH r fun _ _ y=>fg.same (t.trans L) y⟩,.lst d0 .nil,j9 S (by decide),rfl,_,rfl,?_⟩;rw[wH];refine jm (fun v=>q _ ((g.trans t).trans L)) (fun v=>⟨_,rfl,(g.trans t).trans L,fun hm=>?_⟩);rw[et]at hm;rcases az.mp hm with z | z
   ·exact m z
   ·rw[aj.mp z]at o;refine v ?_;rw[List.isEmpty_iff,List.map_eq_nil_iff,List.filter_eq_nil_iff];intro p hp;simp[o p hp]
 ·rintro σ H2 ⟨X,rfl,g,m⟩;rw[lx,aF]at m;exact absurd U m
end
section
variable {base:Heap}{f:Addr}
inductive qf (vs:List V)(H:Hp)(Q:VK)(E:XK):Prop
 |mk (sh st la:Addr)(es:List En)(sn:List Nd)(ls:List Ln)(_:vs=[.ref sh,.ref st,.ref la])(_:iU H sh es)(_:es.length<64)(_:(es.map eX).Nodup)(_:(∀e∈es,mT e))(_:gL H st sn)(_:(∀n∈sn,fR n.1))(_:j4 H la ls)(_:(∀l∈ls,vY l))(_:ls.length<sizeLine)(_:(∀(i:Nat) (l:Ln),ls[i]?=some l→i7 es sn ls (i:Nat) l=true))(_:∀H',eG H H'→Q (.bl true) H'):qf vs H Q E
def jx:Sp:=qf
theorem FZ:eN ["_law_shelf","_law_start","_law_lines","_law_spot"] ["_law_shelf","_law_start","_law_lines"] (eF lT):=i9
theorem sC (F:iN K "_law_lines_hold" "_law_lines_hold" lT f fd)(T:xm K mg)(G:eZ P w K mg base ff 4 g gd ["_law_found"] tE)(Y:gl K gd ["_law_found"] [])(kG:W.keepIn K (.ref g)=true)(mG:mg "_law_is_line" = some (.ref g))(G2:eZ P w K mg base ff 4 g2 gd2 ["_law_shelf","_law_start","_law_lines","_law_spot"] tG)(O:gl K gd2 ["_law_shelf","_law_start","_law_lines","_law_spot"] [])(v:W.keepIn K (.ref g2)=true)(B:mg "_law_holds" = some (.ref g2)):eZ P w K mg base ff 5 f fd ["_law_shelf","_law_start","_law_lines"] jx:=by
 refine F.ok FZ (fun vs H Q E h=>?_) (fun cdv A outer s H vs Q E U h=>?_)
 ·obtain⟨p,st,e,es,S,ls,rfl,_⟩:=h;rfl
 obtain⟨p,st,e,es,S,ls,rfl,J,N,C,I,r,L,l,M,o,b,q⟩:=h;obtain⟨xs,D,hp⟩:=id l;have Z:=Paired.length hp;refine⟨_,(ee (fF (gO (gQ (fi gu rfl T.isin b0 (dZ (pv 2) (dZ (kT rfl T.list dX) el))))) (eA (eP iM)) eU) (ee (fO PassesOwn.never rfl (jT rfl T.range (dZ (fi fK rfl T.len bT (dZ (pv 2) el)) el)) (eM (i:=3) FZ.nd rfl (Or.inl rfl)) (eA (fF (PW.pt (kr (gO (gQ (fj G U rfl mG kG Y .nil eT (dZ (eL fh (pv 2) (pv 3) (fun _ _=>rfl)) el)))) (jO (gO (gQ (fj G2 U rfl B v O .nil eT (dZ (pv 0) (dZ (pv 1) (dZ (pv 2) (dZ (pv 3) el)))))))))) (eA (eP iM)) eU))) (eA (eP iM)))),?_⟩;refine⟨_,rfl,_,_,_,_,rfl,jv.lst D,sM K,_,rfl,fC ?_⟩;have R:ls.length<2^24:=aZ o (by show sizeLine≤2^24;decide);refine⟨_,rfl,e,_,rfl,.inl (fb.of D),_,rfl,by lia,by lia,?_⟩;refine lE (fun j σ H2=>∃z,σ=[some (.ref p),some (.ref st),some (.ref e),z]∧eG H H2) ⟨none,rfl,eG.refl _⟩ ?_ ?_
 ·rintro j σ H2 X ⟨z,rfl,a⟩;have t:j<ls.length:=by rw[bu,Z]at X;exact X
  have d:ls[j]?=some ls[j]:=ak t;have ej:(0+(j:Int))=((j:Nat):Int):=by lia
  obtain⟨x,y,m⟩:=iS hp (show iB ls ((j:Nat):Int)=some ls[j] by rw[io];exact d);rw[ej];refine⟨_,rfl,_,rfl,e,_,_,x,rfl,rfl,fb.of (a _ _ D),jE y,x,ls[j],rfl,m.same a,_,rfl,fC ?_⟩;refine⟨_,rfl,_,rfl,_,rfl,_,rfl,p,st,e,es,S,ls,j,ls[j],rfl,J.same a,N,C,I,r.same a,L,l.same a,M,d,b j ls[j] d,fun H3 s3=>⟨_,rfl,fC ⟨_,rfl,a.trans s3⟩⟩⟩
 ·rintro σ H2 ⟨z,rfl,a⟩;exact q H2 a
end
section
variable {base:Heap}{f:Addr}
theorem Em:eN ["_law_found","_law_reason","_law_place"] ["_law_found"] (eF si):=i9
theorem x9 (F:iN K "_law_is_line" "_law_is_line" si f fd)(T:xm K mg)(G:eZ P w K mg base ff 3 g gd ["_law_found"] jj)(bG:gl K gd ["_law_found"] [])(kG:W.keepIn K (.ref g)=true)(mG:mg "_law_are_picks" = some (.ref g))(G2:eZ P w K mg base ff 2 g2 gd2 ["_law_found"] pd)(R:gl K gd2 ["_law_found"] [])(I:W.keepIn K (.ref g2)=true)(M:mg "_law_is_pick" = some (.ref g2))(G3:eZ P w K mg base ff 1 g3 gd3 ["_law_found"] rm)(N:gl K gd3 ["_law_found"] [])(S:W.keepIn K (.ref g3)=true)(L:mg "_law_whole" = some (.ref g3)):eZ P w K mg base ff 4 f fd ["_law_found"] tE:=by
 refine F.ok Em (fun vs H Q E h=>?_) (fun cdv A outer s H vs Q E Y h=>?_)
 ·obtain⟨v,l,rfl,_⟩:=h;rfl
 obtain⟨v,l,rfl,⟨t,a,rv,rfl,U,X,j,wv,tv,rfl,d,y,o⟩,q⟩:=h;have D:gK 2 _:=Y.mono (by decide);have O:gK 1 _:=Y.mono (by decide);refine⟨_,(ee (fF (PW.pt (kr (gO (gQ (fi gu rfl T.isin b0 (dZ (pv 0) (dZ (kT rfl T.tuple boot_tuple) el))))) (kr (fz qL (fi fK rfl T.len bT (dZ (pv 0) el)) er (fQ _)) (jO (gO (gQ (fj G Y rfl mG kG bG .nil eT (dZ (eL eR (pv 0) er (fun _ _=>rfl)) el)))))))) (eA (eP iM)) eU) (ee (eK (i:=1) Em.nd rfl (Or.inl rfl) (eL eR (pv 0) er (fun _ _=>rfl))) (ee (fF (PW.pt (kr (gO (gQ (fi gu rfl T.isin b0 (dZ (pv 1) (dZ (kT rfl T.tuple boot_tuple) el))))) (kr (fz qL (fi fK rfl T.len bT (dZ (pv 1) el)) er (fQ _)) (jO (gO (gQ (fi gu rfl T.isin b0 (dZ (eL eR (pv 1) er (fun _ _=>rfl)) (dZ (kT rfl T.str boot_str) el))))))))) (eA (eP iM)) eU) (ee (fF (PW.pt (kM (iL (oz (eL eR (pv 1) er (fun _ _=>rfl)))) (jy (gO (gQ (fj G2 D rfl M I R .nil eT (dZ (eL eR (pv 1) er (fun _ _=>rfl)) el))))))) (eA (eP iM)) eU) (ee (fF (gO (gQ (fj G3 O rfl L S N .nil eT (dZ (eL eR (pv 1) er (fun _ _=>rfl)) el)))) (eA (eP iM)) eU) (ee (fF (fz kz (eL eR (pv 1) er (fun _ _=>rfl)) hJ (fQ _)) (eA (eP (fj G2 D rfl M I R .nil eT (dZ (eL eR (pv 1) er (fun _ _=>rfl)) el)))) eU) (ee (fF (PW.pt (kr (fz qL (eL eR (pv 1) er (fun _ _=>rfl)) hJ (fQ _)) (jO (gO (gQ (fi gu rfl T.isin b0 (dZ (eL eR (pv 1) er (fun _ _=>rfl)) (dZ (kT rfl T.list dX) el)))))))) (eA (eP iM)) eU) (ee (fO PassesOwn.never rfl (fD (eL eR (pv 1) er (fun _ _=>rfl))) (eM (i:=2) Em.nd rfl (Or.inl rfl)) (eA (fF (gO (gQ (fj G3 O rfl L S N .nil eT (dZ (pv 2) el)))) (eA (eP iM)) eU))) (eA (eP iM)))))))))),?_⟩;refine⟨_,rfl,_,_,_,_,rfl,jv.tup U,pT K,_,rfl,fC ?_⟩;refine⟨_,rfl,t,_,rfl,.inr (gH.of U),rfl,_,rfl,fC ?_⟩;refine⟨_,rfl,t,_,_,_,rfl,rfl,gH.of U,rfl,a,l.1,rfl,X,_,rfl,fC ?_⟩;refine⟨_,rfl,t,_,_,_,rfl,rfl,gH.of U,rfl,?_⟩;refine⟨_,rfl,_,_,_,_,rfl,jv.tup d,pT K,_,rfl,fC ?_⟩;refine⟨_,rfl,j,_,rfl,.inr (gH.of d),rfl,_,rfl,fC ?_⟩;refine⟨_,rfl,j,_,_,_,rfl,rfl,gH.of d,rfl,_,_,_,_,rfl,.str _,AE K,_,rfl,fC ?_⟩;have key:∀(b:Bool),b=true→True:=fun _ _=>trivial;obtain⟨ps,⟨Z,p,r⟩⟩:=l;dsimp only at y o d;cases Z with
 |none=>
  cases (show wv=.non from y);refine⟨_,rfl,j,_,_,_,rfl,rfl,gH.of d,rfl,_,rfl,fC (fC ?_)⟩;refine⟨_,rfl,j,_,_,_,rfl,rfl,gH.of d,rfl,p,rfl,_,rfl,fC ?_⟩;cases r with
  |one k=>
   refine⟨_,rfl,j,_,_,_,rfl,rfl,gH.of d,rfl,rfl,_,rfl,gW ?_⟩;exact⟨_,rfl,j,_,_,_,rfl,rfl,gH.of d,rfl,tv,k,rfl,o,q⟩
  |many bs=>
   obtain⟨J,rfl,m⟩:=o;refine⟨_,rfl,j,_,_,_,rfl,rfl,gH.of d,rfl,rfl,_,rfl,fC ?_⟩;refine⟨_,rfl,j,_,_,_,rfl,rfl,gH.of d,rfl,rfl,_,rfl,fC ?_⟩;refine⟨_,rfl,j,_,_,_,rfl,rfl,gH.of d,rfl,_,_,_,_,rfl,jv.lst m,sM K,_,rfl,fC ?_⟩;refine⟨_,rfl,j,_,_,_,rfl,rfl,gH.of d,rfl,J,rfl,⟨_,fb.of m⟩,?_⟩;refine fU (K:=K) (a:=J) (xs:=bs.map V.int) (fun i σ H2=>∃B,σ=[some (.ref t),some (.ref j),B]∧H2=H) ⟨none,rfl,rfl⟩ (fun i σ H2 _ ⟨_,_,e⟩=>by rw[e];exact fb.of m) ?_ ?_
   ·rintro i x σ H2 hi ⟨B,rfl,rfl⟩;rw[ae]at hi;obtain⟨z,_,rfl⟩:=au.mp hi;exact⟨_,rfl,z,rfl,_,rfl,fC ⟨_,rfl,rfl⟩⟩
   ·rintro σ H2 ⟨B,rfl,rfl⟩;exact q
 |some kw=>
  have C:fg H wv kw:=y;obtain⟨wq,rfl,aa⟩:=id C;refine⟨_,rfl,j,_,_,_,rfl,rfl,gH.of d,rfl,_,rfl,gW ?_⟩;refine⟨_,rfl,j,_,_,_,rfl,rfl,gH.of d,rfl,_,kw,rfl,C,_,rfl,fC ?_⟩;refine⟨_,rfl,j,_,_,_,rfl,rfl,gH.of d,rfl,p,rfl,_,rfl,fC ?_⟩;cases r with
  |one k=>
   refine⟨_,rfl,j,_,_,_,rfl,rfl,gH.of d,rfl,rfl,_,rfl,gW ?_⟩;exact⟨_,rfl,j,_,_,_,rfl,rfl,gH.of d,rfl,tv,k,rfl,o,q⟩
  |many bs=>
   obtain⟨J,rfl,m⟩:=o;refine⟨_,rfl,j,_,_,_,rfl,rfl,gH.of d,rfl,rfl,_,rfl,fC ?_⟩;refine⟨_,rfl,j,_,_,_,rfl,rfl,gH.of d,rfl,rfl,_,rfl,fC ?_⟩;refine⟨_,rfl,j,_,_,_,rfl,rfl,gH.of d,rfl,_,_,_,_,rfl,jv.lst m,sM K,_,rfl,fC ?_⟩;refine⟨_,rfl,j,_,_,_,rfl,rfl,gH.of d,rfl,J,rfl,⟨_,fb.of m⟩,?_⟩;refine fU (K:=K) (a:=J) (xs:=bs.map V.int) (fun i σ H2=>∃B,σ=[some (.ref t),some (.ref j),B]∧H2=H) ⟨none,rfl,rfl⟩ (fun i σ H2 _ ⟨_,_,e⟩=>by rw[e];exact fb.of m) ?_ ?_
   ·rintro i x σ H2 hi ⟨B,rfl,rfl⟩;rw[ae]at hi;obtain⟨z,_,rfl⟩:=au.mp hi;exact⟨_,rfl,z,rfl,_,rfl,fC ⟨_,rfl,rfl⟩⟩
   ·rintro σ H2 ⟨B,rfl,rfl⟩;exact q
end
inductive Bt (K:W.Frag)(vs:List V)(H:Hp)(Q:VK)(E:XK):Prop
 |mk (a:Addr)(ns:List Int)(_:vs=[.ref a])(_:fb K H a (ns.map V.int))(_:ns.length≤63)(_:∀t sh st (es:List En) (sn:List Nd) H',eG H H'→H' t=some (.tup [.ref sh,.ref st])→iU H' sh es→(es.map eX).Nodup→(∀e∈es,mT e)→es.length≤59→(∀e∈es,Lw e)→gL H' st sn→(∀n∈sn,fR n.1)→sn.length≤63→Q (.ref t) H'):Bt K vs H Q E
def rL (K:W.Frag):Sp:=Bt K
theorem uj (ns:List Int)(lo hi:Option Int):∃ms:List Int,oh (ns.map V.int) lo hi=ms.map V.int∧ms.length≤ns.length:=by
 refine⟨(ns.drop (HT.ni (ns.map V.int).length 0 lo)).take (HT.ni (ns.map V.int).length (ns.map V.int).length hi-HT.ni (ns.map V.int).length 0 lo),?_,?_⟩
 ·unfold oh;rw[cJ,List.map_drop]
 ·rw[aQ,List.length_drop];omega
theorem A1 (ns:List Int)(k:Nat):∃ms:List Int,oh (ns.map V.int) (some (k:Int)) none=ms.map V.int∧ms.length≤ns.length-k:=by
 have e:HT.ni (ns.map V.int).length 0 (some (k:Int))=min k (ns.map V.int).length:=HT.wg _ _ k;refine⟨(ns.drop (HT.ni (ns.map V.int).length 0 (some (k:Int)))).take (HT.ni (ns.map V.int).length (ns.map V.int).length none-HT.ni (ns.map V.int).length 0 (some (k:Int))),?_,?_⟩
 ·unfold oh;rw[cJ,List.map_drop]
 ·rw[aQ,List.length_drop,e,ab];omega
section
variable {base:Heap}{f:Addr}
theorem Do:eN ["_law_script","_law_shelf"] ["_law_script"] (eF u5):=i9
theorem Ao (F:iN K "_law_asked_by" "_law_asked_by" u5 f fd)(G:eZ P w K mg base ff 3 g gd ["_law_cells"] (wc K))(X:gl K gd ["_law_cells"] [])(kG:W.keepIn K (.ref g)=true)(mG:mg "_law_shelf_by" = some (.ref g))(G2:eZ P w K mg base ff 3 g2 gd2 ["_law_cells"] (qB K))(M:gl K gd2 ["_law_cells"] [])(l:W.keepIn K (.ref g2)=true)(v:mg "_law_start_by" = some (.ref g2))(G3:eZ P w K mg base ff 1 g3 gd3 ["_law_script","_law_k"] (BY K))(C:gl K gd3 ["_law_script","_law_k"] [])(N:W.keepIn K (.ref g3)=true)(p:mg "_law_at" = some (.ref g3)):eZ P w K mg base ff 4 f fd ["_law_script"] (rL K):=by
 refine F.ok Do (fun vs H Q E h=>?_) (fun cdv A outer s H vs Q E r h=>?_)
 ·obtain⟨a,d,rfl,_⟩:=h;rfl
 obtain⟨a,d,rfl,L,hl,q⟩:=h;have D:gK 1 _:=r.mono (by decide);refine⟨_,(ee (eK (i:=1) Do.nd rfl (Or.inl rfl) (fj G r rfl mG kG X .nil eT (dZ (kU my (pv 0) (lr er) oy) el))) (eA (eP (gm (dZ (pv 1) (dZ (fj G2 r rfl v l M .nil eT (dZ (kU my (pv 0) (lr er) (lr (fc lY er (fc jP (fj G3 D rfl p N C .nil eT (dZ (pv 0) (dZ er el))) er)))) el)) el)))))),?_⟩;obtain⟨x,e1,l1⟩:=A1 d 4;refine⟨_,rfl,4,rfl,a,_,rfl,L,fun p1 j=>?_⟩;rw[show oh (d.map V.int) (some 4) none=x.map V.int from e1];have s1:=eB j (.lst (x.map V.int));refine⟨p1,x,rfl,fb.of d0,by omega,fun S es xs H2 s2 aa h2 J B I ad m=>?_⟩;have b:=s1.trans s2;refine⟨_,rfl,_,rfl,1,rfl,_,rfl,a,d,0,rfl,b.seq L,Int.le_refl 0,fun z=>⟨_,_,rfl,rfl,(by show(0:Int)<4;decide),_,_,rfl,rfl,_,rfl,a,_,rfl,b.seq L,fun p2 o=>?_⟩⟩;obtain⟨R,e2,l2⟩:=uj d (some 1) (some (1+z % 4));rw[e2];have s3:=eB o (.lst (R.map V.int));refine⟨p2,R,rfl,fb.of d0,by omega,fun st sn H4 U h4 O Z=>?_⟩;refine⟨(by show 2≤sizeLine;decide),fun t Y=>?_⟩;have T:=eB Y (.tup [.ref S,.ref st]);have e:=(s3.trans U).trans T;exact q t S st es sn _ (b.trans e) d0 (iU.same e ⟨xs,h2,Paired.JH J fun _ _ y=>j6.same (fm _ _) y⟩) B I (by omega) m (gL.same T h4) O (by omega)
end
end FB
namespace FB
open PySem L2 PyProof.Rows
theorem E2 {ps:List Pk}(b:(ps.map (·.1)).Nodup){k:Pk}(h:k∈ps):oP ps k.1=some k.2:=by
 unfold oP
 induction ps with
 |nil=>cases h
 |cons a ps ih=>
  rw[aD,aX]at b;rw[bj];rcases am.mp h with z | z
  ·subst z;rw[aq rfl];rfl
  ·have:¬a.1=k.1:=fun y=>b.1 (y▸be z);rw[ar this];exact ih b.2 z
theorem yh {es:List En}(a:∀e∈es,mT e)(k:Pk):(jd es k).length≤100:=by
 unfold jd
 split
 next e h=>exact(a e (db h)).few
 next=>exact bp _
end FB
namespace L2
open PySem PySem.Spec PyProof.Rows
end L2
namespace FB
open PySem L2 PyProof.Rows
end FB
namespace FB
open PySem L2 PyProof.Rows
seal mj PS PE PT PA
end FB
namespace FB
open PySem L2 PyProof.Rows
variable {L:ij}
theorem xO {c:eg}{pk:Nat}(h:c.Kp pk):((c.listed pk).map (·.1)).Nodup:=by
 refine cC.mpr ?_;have:(c.listed pk).Nodup:=c.nd.filter _;exact this.imp_of_mem fun d b a z=>a (h _ _ (eg.J9.mp d) (eg.J9.mp b) z)
theorem nU {c:eg}{m:Nat}:(c.listed m).length≤c.es.length:=by
 have:=c.pm.length_eq;rw[ab]at this;rw[←this];exact bz _ _
theorem jF {c:eg}(a:∀e∈c.es,mT e){m:Nat}{k:Pk}(h:k∈c.listed m):fR k.1:=by
 obtain⟨e,b,rfl⟩:=aA.mp ((c.mem k).mp (eg.J9.mp h).1);exact(a e b).pt
theorem lC {c:eg}(hL:gY c L)(hok:∀e∈c.es,mT e)(h64:c.es.length<64):∀l∈c.lns L,vY l:=fun l hl=>by
 obtain⟨e,he,rfl⟩:=aA.mp hl;obtain⟨i,hi⟩:=ax.mp he;have h:=hL.good i e hi;have hll:(c.listed e.1).length≤c.es.length:=nU;unfold i7 at h;rw[aB]at h;obtain⟨hw,h⟩:=h;refine⟨by show(c.listed e.1).length≤_;omega,fun p hp=>jF hok hp,fun k hk=>?_,fun k hk=>?_,fun bs hb=>?_⟩
 ·rw[hk]at hw;have hw':(decide (k∈c.listed e.1)&&decide (k∈c.es.map eX))=true:=hw;rw[aB]at hw';exact jF hok (aW hw'.1)
 ·cases hn:iB (gJ c.es c.sn (c.ln e).2.who) (c.ln e).2.place with
  |none=>rw[hn]at h;cases h
  |some n=>
   rw[hn]at h;dsimp only at h;rw[hk]at h;have h':(decide (k∈c.listed e.1)&&qi n k)=true:=h;rw[aB]at h';exact jF hok (aW h'.1)
 ·cases hn:iB (gJ c.es c.sn (c.ln e).2.who) (c.ln e).2.place with
  |none=>rw[hn]at h;cases h
  |some n=>
   rw[hn]at h;dsimp only at h;rw[hb]at h;have h':kD c.es (c.lns L) (i:Nat) (c.listed e.1) n bs=true:=h;unfold kD at h';rw[aB,aw]at h';have:=kZ c.es n;omega
theorem tZ {c:eg}(hL:gY c L):∀(i:Nat) (l:Ln),(c.lns L)[i]?=some l→i7 c.es c.sn (c.lns L) (i:Nat) l=true:=fun i l hl=>by
 unfold eg.lns at hl;rw[ae]at hl;obtain⟨e,he,rfl⟩:=au.mp hl;exact hL.good i e he
theorem tT {es:List En}{sn:List Nd}(hok:∀e∈es,mT e)(hs:sn.length≤100):∀w,(gJ es sn w).length≤100
 |none=>hs
 |some k=>yh hok k
theorem AI {α:Type} [DecidableEq α] {a x:α}{l:List α}(h:a≠x):(a::l).idxOf x=l.idxOf x+1:=by
 rw[List.idxOf_cons,beq_false_of_ne h];rfl
theorem jb {α:Type} [DecidableEq α] {p:α→Bool}{x y:α}(hx:p x=true):∀{l:List α},y∈(l.filter p).take ((l.filter p).idxOf x)→y∈l.take (l.idxOf x)
 |[],h=>h
 |a::l,h=>by
  by_cases e:a=x
  ·subst e;rw[aH,if_pos hx,cB]at h;cases h
  ·rw[AI e,List.take_succ_cons];rw[aH]at h
   split at h
   ·rw[AI e,List.take_succ_cons]at h;rcases am.mp h with z | z
    ·rw[z];exact bi ..
    ·exact aR _ (jb hx z)
   ·exact aR _ (jb hx h)
theorem pN {x y:Str}:∀{ns:List Nd},y∈(eO ns).take ((eO ns).idxOf x)→y∈(ns.map (·.1)).take ((ns.map (·.1)).idxOf x)
 |[],h=>h
 |n::ns,h=>by
  rw[eO]at h;rw[aD];by_cases e:n.1=x
  ·rw[e,cB]at h;cases h
  ·rw[AI e,List.take_succ_cons]at h ⊢;rcases am.mp h with z | z
   ·rw[z];exact bi ..
   ·exact aR _ (pN (jb (by simpa using fun z=>e z.symm) z))
theorem yB {x:Str}{A B:List Str}(h:x∉A):(A++x::B).idxOf x=A.length:=by
 rw[List.idxOf_append,if_neg h,cB,Nat.zero_add]
theorem uU {c:eg}{pk:Nat}{n:Nd}{A B:List Nd}{k:Pk}{v:Int}{ah:List Pk}(r:∀k,c.has pk k→k.1∈c.start→∀n,(c.needs none)[((c.needs none).map (·.1)).idxOf k.1]?=some n→∀kk∈c.Ly n k,∃e∈L,∀j,c.has e.1 j→j=kk∨c.has (c.Lz pk k.1) j)(b:c.sn=A++n::B)(d:n.1∉A.map (·.1))(s:c.has pk k)(a:k.1=n.1)(w:v∈iT c.es n)(g:k.2<v)(x:∀j,c.has pk j→j.1∈A.map (·.1)→j∈ah):∃l∈c.lns L,∀p∈l.1,p∈ah++[(n.1,v)]:=by
 have o:c.needs none=A++n::B:=b;have m:((A++n::B).map (·.1)).idxOf k.1=A.length:=by
  rw[a,av,aD,yB d,ab]
 have i:k.1∈c.start:=by
  unfold eg.start;rw[gT,a];exact⟨n,by rw[b];simp,rfl⟩
 obtain⟨e,t,h⟩:=r k s i n (by rw[o,m,aU (ao _),bR];rfl) (k.1,v) (by
  unfold eg.Ly
  exact aA.mpr ⟨v,aS.mpr ⟨w,aq g⟩,rfl⟩)
 refine⟨c.ln e,aA.mpr ⟨e,t,rfl⟩,fun p hp=>?_⟩;rcases h p (eg.J9.mp hp) with z | z
 ·rw[z,a];simp
 ·obtain⟨h1,h2⟩:=eg.LA.mp z;unfold eg.start at h2;have:=pN h2;rw[b,m,av]at this;have q:(A.map (·.1)++(n::B).map (·.1)).take A.length=A.map (·.1):=by
   rw[←ab (as:=A) (f:=(·.1)),List.take_left]
  rw[q]at this;exact aO _ (x p h1 this)
end FB
namespace FB
open PySem L2 PyProof.Rows
seal mj PS PE PT PA
inductive Jf (P:Program)(w:World)(K:W.Frag)(mg:Str→Option Value)(base:Heap)(CX:xB)(k:Nat)(x:Str)(ps:List Str)(sp:Sp):Prop
 |mk (g gd:_)(_:eZ P w K mg base CX k g gd ps sp)(_:gl K gd ps [])(_:W.keepIn K (.ref g)=true)(_:mg x=some (.ref g)):Jf P w K mg base CX k x ps sp
structure Gd (P:Program)(w:World)(K:W.Frag)(mg:Str→Option Value)(base:Heap)(CX:xB)(k:Nat)(x:Str)(ps:List Str)(sp:Sp):Prop where
 ex:Jf P w K mg base CX k x ps sp
end FB
namespace FB
open PySem PySem.Spec L2 PyProof.Rows
variable {C PP:Addr}{K:W.Frag}{ps:List Str}{st:Stmt}{x:Str}
theorem C5 {qual:Str}{f c:Addr}{oc:Value}{od an:Option Addr}{osl:Array (Option Value)}{kV doc pm ct:Value}(l:K.lookup f=some ⟨oc,od,.func (W.fnOf x qual (hZ st) (gr st) (eF st) .none kV doc pm an (.ref c) ct),osl⟩)(hc:W.codeIn K (.ref c) qual=true)(k:W.keepIn K (.ref f)=true):BP K x qual st f (W.fnOf x qual (hZ st) (gr st) (eF st) .none kV doc pm an (.ref c) ct) c:=⟨⟨oc,od,kV,doc,pm,an,ct,osl,rfl,l,hc⟩,k⟩
theorem yw {P:Program}{w:World}{mg mb:Str→Option Value}{k:Nat}{fa a cP:Addr}{fd:FuncData}{sp:Sp}{s₁:Shared}{vs:List Value}{ns:List Int}(S:K.In s₁.heap)(G:s₁.heap.Ns mainGlobals mg)(g:s₁.heap.Ns builtinsNs mb)(Z:∀x:Str,x≠"__name__"→mb x=bootBuiltins x)(I:s₁.heap.NoLimit)(hg:s₁.gens=#[])(C:s₁.heap.get? a=some {cls:=.type "list",data:=.seq vs.toArray})(hi:IntsAre vs ns)(hl:ns.length≤sizeLine)(hr:gK k callerA)(D:s₁.heap.get? PP=some (W.tabObj #[]))(hC:W.codeHdIn K cP PP=true)(Q:K.lookup PP=none)(aa:sZ mg s₁.heap)(F:∀base:Heap,K.In base→base.Ns mainGlobals mg→sZ mg base→eZ P w K mg base ff k fa fd [x] sp)(B:∀(s:Shared) (u:Value),BindsTo s fd ⟨[u],[]⟩ [(x,u)])(ag:∀H:Hp,fb K H a (ns.map V.int)→H PP=some (.tbl #[])→sp [.ref a] H (fun v _=>v=.bl true) fun _ _ _=>False):codeAny (model P w) callerA (.call (.ref fa) ⟨[.ref a],[]⟩) (fun r s'=>r=.ok (.ret (.bool true))∧OldK s₁.heap s'.heap∧s'.os=s₁.os∧AllBare s'.gens) s₁:=by
 have rv:=mY hi;have J:=hi.length;have L:a≠PP:=fun e=>by
  rw[e,D]at C;cases C
 have t:∀H:Hp,(∀b,H b=none∨(b=PP∧H b=some (.tbl #[]))∨∃o xs,H b=some (.frz o (.lst xs)))→H PP=some (.tbl #[])→fb K H a (ns.map V.int)→lG P w H s₁.heap→(∀b,H b≠none→b=a∨b=PP)→(H a≠none→K.lookup a=none)→
   codeAny (model P w) callerA (.call (.ref fa) ⟨[.ref a],[]⟩) (fun r s'=>r=.ok (.ret (.bool true))∧OldK s₁.heap s'.heap∧s'.os=s₁.os∧AllBare s'.gens) s₁:=by
  intro H hO R hS M X hK;have i:∀{b:Addr} {o:Obj},s₁.heap.get? b=some o→H b=none→(qr s₁.heap H).get? b=some o:=fun e n=>AK e n;have ad:∀{b:Addr} {o:Obj},s₁.heap.get? b=some o→o.cls≠.none→(∀z y,o.data≠.seq z y)→H b=none:=fun {b o} e d1 d2=>by
   cases q:H b with
   |none=>rfl
   |some u=>
    rcases X b (by rw[q];simp) with e' | e'
    ·subst e';rw[C]at e;cases e;exact absurd rfl (d2 _ _)
    ·subst e';rw[D]at e;cases e;exact absurd rfl d1
  have ah:∀{b:Addr} {o:Obj} {es:Array DictEntry} {ep:Nat},s₁.heap.get? b=some o→o.data=.dict es ep→H b=none:=fun {b o es ep} e d=>by
   cases q:H b with
   |none=>rfl
   |some u=>
    rcases X b (by rw[q];simp) with e' | e'
    ·subst e';rw[C]at e;cases e;have d':Data.seq vs.toArray _=Data.dict es ep:=d;cases d'
    ·subst e';rw[D]at e;cases e;have d':Data.fields #[]=Data.dict es ep:=d;cases d'
  have l:∀{b:Addr} {m:Str→Option Value},s₁.heap.Ns b m→(qr s₁.heap H).Ns b m:=fun {b m} ⟨o,es,ep,e,d,r⟩=>⟨o,es,ep,i e (ah e d),d,r⟩
  have N:K.In (qr s₁.heap H):=fun b o e=>i (S b o e) (by
   cases q:H b with
   |none=>rfl
   |some u=>
    rcases X b (by rw[q];simp) with e' | e'
    ·subst e';rw[hK (by rw[q];simp)]at e;cases e
    ·subst e'
     rw[Q]at e;cases e)
  have hM:Mod K mg (qr s₁.heap H):=⟨N,l G,⟨mb,l g,Z⟩,(by obtain⟨mc,h1,h2⟩:=I;exact⟨mc,l h1,h2⟩)⟩;have O:sZ mg (qr s₁.heap H):=by
   obtain⟨bm,U,b1,b2,b3,b4,b5,b6⟩:=aa;exact⟨bm,U,b1,b2,i b3 (ad b3 (by rw[b4];exact fun z=>nomatch z) fun _ _ z=>by rw[b6]at z;cases z),b4,b5,b6⟩
  have e0:v5 P w K mg (qr s₁.heap H) callerA [] s₁ H:=⟨rfl,hM,fun b o e=>CM e,dm (yC _ _),trivial,fun b g=>absurd (show b∈([]:List Addr) from g) (by simp),M,.of_eq hg⟩;refine codeAny_mono ((F _ N (l G) O).run callerA [] s₁ H ⟨[.ref a],[]⟩ [.ref a] [.ref a] _ _ hr e0 (B s₁ (.ref a)) (.cons rfl .nil) (ag H hS R)) fun r s' h=>?_;cases r with
  |error e=>exact False.elim h
  |ok fl=>
   cases fl with
   |next=>exact False.elim h
   |brk=>exact False.elim h
   |cont=>exact False.elim h
   |ret u=>
    obtain⟨v,H',os,E,un,A,r',q⟩:=h;have q':v=.bl true:=q;subst q';obtain rfl:u=Value.bool true:=r';refine⟨rfl,⟨fun b o e=>?_,fun b o e=>un.there b o e (by simp)⟩,os,E⟩;rcases hO b with z | ⟨rfl,z⟩ | ⟨U,xs,z⟩
    ·exact .inl (un.keep b o e z (by intro z;exact absurd (show b∈([]:List Addr) from z) (by simp)) (by simp))
    ·obtain⟨more,T⟩:=un.tbls b _ z;have Y:s'.heap.get? b=some {cls:=.none,data:=.fields (#[]++more)}:=A b _ T;rw[D]at e;cases e;exact .inr (.inl ⟨((W.codeHd_of_K S hC).tab D).isCodeTable,rfl,#[],more,rfl,Y⟩)
    ·have T:=un.frzs b U _ z;obtain⟨e1,_⟩:=M b _ z;obtain⟨Y,_⟩:=A b _ T;rw[e]at e1;cases e1;exact .inl Y
 have j:∀H:Hp,fN P w H s₁.heap PP (.tbl #[]):=fun H=>D;cases hk:K.lookup a with
 |some o=>
  have e:=S a o hk;rw[C]at e;cases e;refine t (fun b=>if b=PP then some (.tbl #[]) else none) (fun b=>?_) (if_pos rfl) (.inr ⟨_,vs.toArray,_,hk,rfl,rfl,rfl,by rw[aP,J];exact hl,by simpa using rv⟩) (fun b u z=>?_) (fun b z=>?_) fun z=>absurd (if_neg L) z
  ·by_cases g:b=PP
   ·exact .inr (.inl ⟨g,if_pos g⟩)
   ·exact .inl (if_neg g)
  ·by_cases g:b=PP
   ·have p:=(if_pos g).symm.trans z;cases p;subst g;exact j _
   ·have p:=(if_neg g).symm.trans z;cases p
  ·by_cases g:b=PP
   ·exact .inr g
   ·exact absurd (if_neg g) z
 |none=>
  refine t (fun b=>if b=PP then some (.tbl #[]) else if b=a then some (.frz {cls:=.type "list",data:=.seq vs.toArray} (.lst (ns.map V.int))) else none) (fun b=>?_) (if_pos rfl) (.inl (.inr ⟨{cls:=.type "list",data:=.seq vs.toArray},(if_neg L).trans (if_pos rfl)⟩)) (fun b u z=>?_) (fun b z=>?_) fun _=>hk
  ·by_cases g:b=PP
   ·exact .inr (.inl ⟨g,if_pos g⟩)
   ·by_cases hb2:b=a
    ·exact .inr (.inr ⟨_,_,(if_neg g).trans (if_pos hb2)⟩)
    ·exact .inl ((if_neg g).trans (if_neg hb2))
  ·by_cases g:b=PP
   ·have p:=(if_pos g).symm.trans z;cases p;subst g;exact j _
   ·by_cases hb2:b=a
    ·have p:=((if_neg g).trans (if_pos hb2)).symm.trans z;cases p;subst hb2;exact⟨C,by rw[ab];exact hl,vs,_,rv,C⟩
    ·have p:=((if_neg g).trans (if_neg hb2)).symm.trans z;cases p
  ·by_cases g:b=PP
   ·exact .inr g
   ·by_cases hb2:b=a
    ·exact .inl hb2
    ·exact absurd ((if_neg g).trans (if_neg hb2)) z
theorem yX {l:W.OpenLaw}{n k:Nat}{q:Program}{loose:List Str}{XP:(Str→Option Value)→Heap→Prop}{YP:World→Heap→Prop}{d:DefRec}{K:Params→W.Frag}{sp:World→Sp}(M:l.most=some n)(t:n≤sizeLine)(p:d.params.defaults=[])(J:gK k callerA)(I:∀(w:World) (h:Heap),YP w h→(K w.params).In h)(r:∀(w:World) (h:Heap),YP w h→h.get? PP=some (W.tabObj #[]))(m:∀w:World,(K w.params).lookup PP=none)(F:∀(w:World) (mg:Str→Option Value) (fa:Addr) (h:Heap),(K w.params).In h→h.Ns mainGlobals mg→mg d.name=some (.ref fa)→∃(fd:FuncData) (cP:Addr),W.codeHdIn (K w.params) cP PP=true∧(∀(s:Shared) (u:Value),BindsTo s fd ⟨[u],[]⟩ [(x,u)])∧∀base:Heap,(K w.params).In base→base.Ns mainGlobals mg→sZ mg base→eZ l.prog w (K w.params) mg base ff k fa fd [x] (sp w))(z:∀(w:World) (H:Hp) (a:Addr) (ns:List Int),ns.length≤n→fb (K w.params) H a (ns.map V.int)→H PP=some (.tbl #[])→sp w [.ref a] H (fun v _=>v=.bl true) fun _ _ _=>False):W.WalkO q loose XP YP l.row.toRowW d [] (fun f vs=>PySem.call f vs):=by
 refine Att.uu M p fun w s₀ s₁ mg R fa o pm cd L a vs ns G Y S Q P y j i e D=>?_;have A:=I w _ Y;obtain⟨fd,cP,B,C,E⟩:=F w mg fa _ A G.T.g y;exact yw A G.T.g G.T.b G.T.builtins G.T.nolimit D j i (br e t) J (r w _ Y) B (m w) G.T.bmain E C fun H O N=>z w H a ns e O N
theorem lg {α:Type}{p:List α→Prop}(h:∀a,p [a]):∀us:List α,us.length=1→p us
 |[a],_=>h a
theorem jY {α:Type}{p:List α→Prop}(h:∀a b,p [a,b]):∀us:List α,us.length=2→p us
 |[a,b],_=>h a b
theorem p0 {α:Type}{p:List α→Prop}(h:∀a b c,p [a,b,c]):∀us:List α,us.length=3→p us
 |[a,b,c],_=>h a b c
theorem C8 {α:Type}{p:List α→Prop}(h:∀a b c d,p [a,b,c,d]):∀us:List α,us.length=4→p us
 |[a,b,c,d],_=>h a b c d
inductive oO (K:W.Frag)(x:Str)(st:Stmt)(f:Addr):Prop
 |mk {oc kV dc pm cd ct:Value}{od an:Option Addr}{sl:Array (Option Value)}(_:W.nsIn K mainGlobals x=some (some (.ref f)))(_:K.lookup f=some ⟨oc,od,.func (W.fnOf x x (hZ st) (gr st) (eF st) .none kV dc pm an cd ct),sl⟩)(_:W.codeIn K cd x=true)(_:W.keepIn K (.ref f)=true):oO K x st f
inductive lM (K:W.Frag)(C:Addr)(m q:Str)(st:Stmt)(f:Addr):Prop
 |mk {oc kV dc pm cd ct:Value}{od an:Option Addr}{sl:Array (Option Value)}(_:W.findIn K (.ref C) m=some (some (.ref f)))(_:W.isFn K (.ref f)=true)(_:K.lookup f=some ⟨oc,od,.func (W.fnOf m q (hZ st) (gr st) (eF st) .none kV dc pm an cd ct),sl⟩)(_:W.codeIn K cd q=true)(_:W.keepIn K (.ref f)=true):lM K C m q st f
inductive HH (K:W.Frag)(C:Addr)(m q:Str)(st:Stmt)(f PP:Addr):Prop
 |mk {oc kV dc pm ct:Value}{cd:Addr}{od an:Option Addr}{sl:Array (Option Value)}(_:W.findIn K (.ref C) m=some (some (.ref f)))(_:W.isFn K (.ref f)=true)(_:K.lookup f=some ⟨oc,od,.func (W.fnOf m q (hZ st) (gr st) (eF st) .none kV dc pm an (.ref cd) ct),sl⟩)(_:W.codeIn K (.ref cd) q=true)(_:W.keepIn K (.ref f)=true)(_:W.codeHdIn K cd PP=true):HH K C m q st f PP
structure D1 (K:W.Frag)(x:Str)(C:Addr):Prop where
 a:W.nsIn K mainGlobals x=some (some (.ref C))
 pg:W.plainGet K C Str.empty=true
 hd:W.hasDictIn K C=true
 po:W.plainOver K C=true
 sa:W.findIn K (.ref C) "__setattr__" = some (some (.builtin "object.__setattr__"))
 mk_:W.makesIn K C=true
 kc:W.keepIn K (.ref C)=true
section
variable {K:W.Frag}{h:Heap}{mg:Str→Option Value}(X:K.In h)(G:h.Ns mainGlobals mg)
theorem D1.c (d:D1 K x C):qw K C:=⟨d.pg,d.hd,d.po,d.sa⟩
include X G in
theorem oO.u {f:Addr}(d:oO K x st f)(b:∀(kV doc pm:Value) (an:Option Addr) (cdv ct:Value) (us:List Value),us.length=ps.length→bindArgs (W.fnOf x x (hZ st) (gr st) (eF st) .none kV doc pm an cdv ct) ⟨us,[]⟩=pure (ps.zip us)):∃fd,iN K x x st f fd∧gl K fd ps []∧W.keepIn K (.ref f)=true∧mg x=some (.ref f):=by
 obtain @⟨i,kV,h,pm,cd,ct,g,an,e,a,l,c,k⟩:=d;exact⟨_,nJ l c k,(nJ l c k).binds b,k,W.mg_of X G a⟩
theorem lM.u {m q:Str}{f:Addr}(d:lM K C m q st f)(b:∀(kV doc pm:Value) (an:Option Addr) (cdv ct:Value) (us:List Value),us.length=ps.length→bindArgs (W.fnOf m q (hZ st) (gr st) (eF st) .none kV doc pm an cdv ct) ⟨us,[]⟩=pure (ps.zip us)):∃fd,iN K m q st f fd∧gl K fd ps []∧yR K C m f:=by
 obtain @⟨j,kV,h,pm,cd,ct,g,an,e,a,i,l,c,k⟩:=d;exact⟨_,nJ l c k,(nJ l c k).binds b,a,i,k⟩
theorem HH.u {m q:Str}{f:Addr}(d:HH K C m q st f PP)(e:∀(kV doc pm:Value) (an:Option Addr) (cdv ct:Value) (us:List Value),us.length=ps.length→bindArgs (W.fnOf m q (hZ st) (gr st) (eF st) .none kV doc pm an cdv ct) ⟨us,[]⟩=pure (ps.zip us)):∃fd cd,BP K m q st f fd cd∧gl K fd ps []∧yR K C m f∧W.codeHdIn K cd PP=true:=by
 obtain @⟨o,kV,j,pm,ct,cd,h,an,g,a,i,l,c,k,b⟩:=d;exact⟨_,cd,C5 l c k,(nJ l c k).binds e,⟨a,i,k⟩,b⟩
end
end FB
namespace FB
open PySem L2 PyProof.Rows
variable {H:Hp}
structure HD (H H':Hp):Prop where
 l:∀a xs,H a=some (.lst xs)→H' a=some (.lst xs)
 t:∀a xs,H a=some (.tup xs)→H' a=some (.tup xs)
theorem HD.tab {H':Hp}{PP:Addr}(b:gU y8 yo H PP)(e:eD (del H [PP]) H'):HD H H':=by
 obtain⟨u,hu,fu⟩:∃u,H PP=some u∧uM u:=by
  rcases b with z | ⟨c',z,_⟩
  ·exact⟨_,z,trivial⟩
  ·exact⟨_,z,trivial⟩
 exact⟨fun a xs h=>e.lst (ir hu fu h fun z=>z),fun a xs h=>e.tup (ir hu fu h fun z=>z)⟩
section
variable {H H':Hp}(e:HD H H')
include e
theorem gX.k {v:V}{n:Nd}(h:gX H v n):gX H' v n:=(by obtain⟨q,h1,h2⟩:=h;exact⟨q,h1,e.t _ _ h2⟩)
theorem gL.k {a:Addr}{ns:List Nd}(h:gL H a ns):gL H' a ns:=(by obtain⟨xs,h1,h2⟩:=h;exact⟨xs,e.l _ _ h1,Paired.JH h2 fun _ _ z=>gX.k e z⟩)
theorem j6.k {v:V}{n:En}(h:j6 H v n):j6 H' v n:=(by obtain⟨q,a,xs,h1,h2,h3,h4⟩:=h;exact⟨q,a,xs,h1,e.t _ _ h2,e.l _ _ h3,Paired.JH h4 fun _ _ z=>gX.k e z⟩)
theorem iU.k {a:Addr}{es:List En}(h:iU H a es):iU H' a es:=(by obtain⟨xs,h1,h2⟩:=h;exact⟨xs,e.l _ _ h1,Paired.JH h2 fun _ _ z=>j6.k e z⟩)
end
theorem mF {α β:Type}{F:α→β→Prop}:∀{A B:List β} {xs:List α},Paired F xs (A++B)→∃ys zs,xs=ys++zs∧Paired F ys A∧Paired F zs B
 |[],_,xs,h=>⟨[],xs,rfl,.nil,h⟩
 |_::A,B,_,.cons r t=>(by obtain⟨ys,zs,e,h1,h2⟩:=mF (A:=A) (B:=B) t;exact⟨_::ys,zs,by rw[e];rfl,.cons r h1,h2⟩)
theorem Ax {c:eg}{ln:Addr}{L:ij}{e:Nat×Rs}(h:j4 H ln (c.lns L))(g:L.getLast?=some e)(i:e.1=0):∃xs x q a rv,H ln=some (.lst (xs++[x]))∧x=.ref q∧H q=some (.tup [.ref a,rv])∧H a=some (.lst []):=by
 obtain⟨L',rfl⟩:=List.getLast?_eq_some_iff.mp g;obtain⟨xs,j,hp⟩:=h;unfold eg.lns at hp;rw[av]at hp;obtain⟨ys,zs,rfl,h1,h2⟩:=mF hp;cases h2 with
 |cons r t=>
  cases t;obtain⟨q,a,rv,rfl,d,⟨zs,g2,g3⟩,l⟩:=r;have b:(c.ln e).1=[]:=by
   show c.listed e.1=[];rw[i];unfold eg.listed;simp
  rw[b]at g3;cases g3;exact⟨ys,_,q,a,rv,j,rfl,d,g2⟩
end FB
namespace FB
open PySem L2 PyProof.Rows
seal mj PS PE PT PA
abbrev Iu:List Str:=["_law_script","_law_shelf","_law_start","_law_lack","_law_found","_law_there","_law_pick","_law_ahead","_law_need","_law_mine","_law_version","_law_known"]
theorem tJ:eN Iu ["_law_script"] (eF lU):=i9
structure Jz (H:Hp)(c:eg)(L:ij)(pk:Nat)(sh st tf pa ln:Addr):Prop where
 sh:iU H sh c.es
 st:gL H st c.sn
 tf:H tf=some (.tup [.ref pa,.ref ln])
 pa:jK H pa (c.listed pk)
 ln:j4 H ln (c.lns L)
 lok:∀l∈c.lns L,vY l
 ok:∀e∈c.es,mT e
 e64:c.es.length<64
 s100:c.sn.length≤100
 fit:v4 c.es c.sn (c.listed pk)
 one:c.Kp pk
 shown:∀k,c.has pk k→k.1∈c.start→∀n,(c.needs none)[((c.needs none).map (·.1)).idxOf k.1]?=some n→∀kk∈c.Ly n k,∃e∈L,∀j,c.has e.1 j→j=kk∨c.has (c.Lz pk k.1) j
inductive A7 (H1:Hp)(c:eg)(pk:Nat)(o0 o3 o6:Option V)(sh st tf vd p:Addr)(i:Nat)(σ:L2.St)(H2:Hp):Prop
 |mk (ys:List V)(ks:List Pk)(o8 o9 o10 o11:Option V)(_:σ=[o0,some (.ref sh),some (.ref st),o3,some (.ref tf),some (.ref vd),o6,some (.ref p),o8,o9,o10,o11])(_:eG H1 H2)(_:H2 p=some (.lst ys))(_:H2 vd=some (.dK (wm (c.listed pk))))(_:Paired (fg (del H2 [p])) ys ks)(_:ks.length≤i)(_:∀j∈ks,j∈c.listed pk∧j.1∈(c.sn.take i).map (·.1))(_:∀j,c.has pk j→j.1∈(c.sn.take i).map (·.1)→j∈ks):A7 H1 c pk o0 o3 o6 sh st tf vd p i σ H2
def DI (P:Program)(w:World)(K:W.Frag)(mg:Str→Option Value)(base:Heap)(f:Addr)(cdv:Value)(A:Around)(outer:List Env)(s:Shared)(H:Hp)(Q:VK)(E:XK):Prop:=
 ∃tR:TS,mj (qt ff P w K mg base Iu "law" (eF lU) f cdv A outer s H E).nox ((gr lU).drop 9) tR∧
   ∀(c:eg) (L:ij) (pk:Nat) (sh st tf pa ln:Addr) (H1:Hp) (o0 o3:Option V),Jz H1 c L pk sh st tf pa ln→
    tR {nx:=fun _ H'=>Q .non H',rt:=Q} [o0,some (.ref sh),some (.ref st),o3,some (.ref tf),none,none,none,none,none,none,none] H1
section
variable {P:Program}{w:World}{K:W.Frag}{mg:Str→Option Value}{base:Heap}{f:Addr}{fd:FuncData}{cdv:Value}{A:Around}{outer:List Env}{s:Shared}{H:Hp}{Q:VK}{E:XK}
theorem Iv (cc:Gd P w K mg base ff 9 "_law_newest" ["_law_shelf","_law_need"] oX)(b6:Gd P w K mg base ff 9 "_law_barred" ["_law_lines","_law_known"] ou)(hr:gK 9 (A.deeper (envOfC "law" (eF lU) s.heap.objs.size f cdv)))(q:∀H',Q (.bl true) H'):DI P w K mg base f cdv A outer s H Q E:=by
 obtain⟨_,_,Nw,bN,kN,mN⟩:=cc.ex;obtain⟨_,_,Br,bB,kB,mB⟩:=b6.ex;have hu:=gN hr;refine⟨_,(ee (eK (i:=5) tJ.nd rfl (Or.inl rfl) iA) (ee (fO PassesOwn.never rfl (fD (eL eR (pv 4) er (fun _ _=>rfl))) (eM (i:=6) tJ.nd rfl (Or.inl rfl)) (eA (jc hu (pv 5) (eL eR (pv 6) er (fun _ _=>rfl)) (eL eR (pv 6) er (fun _ _=>rfl)) rfl))) (ee (eK (i:=7) tJ.nd rfl (Or.inl rfl) (gc el)) (ee (fO PassesOwn.never rfl (fD (pv 2)) (eM (i:=8) tJ.nd rfl (Or.inl rfl)) (ee (fF (iL (nB hu (eL eR (pv 8) er (fun _ _=>rfl)) (pv 5))) gR eU) (ee (eK (i:=9) tJ.nd rfl (Or.inl rfl) (gm (dZ (eL eR (pv 8) er (fun _ _=>rfl)) (dZ (hU hu (pv 5) (eL eR (pv 8) er (fun _ _=>rfl)) (fun _ _=>rfl)) el)))) (ee (fO PassesOwn.never rfl (fD (fj Nw hr rfl mN kN bN .nil eT (dZ (pv 1) (dZ (pv 8) el)))) (eM (i:=10) tJ.nd rfl (Or.inl rfl)) (eA (fF (PW.pt (kM (fz Ab (pv 10) (eL eR (pv 9) er (fun _ _=>rfl)) (fQ _)) (jy (fz (jh hr.units) (pv 9) (pv 7) (by with_unfolding_all rfl))))) (ee (eK (i:=11) tJ.nd rfl (Or.inl rfl) (fc sy (pv 7) (gc (dZ (gm (dZ (eL eR (pv 8) er (fun _ _=>rfl)) (dZ (pv 10) el))) el)))) (eA (fF (gO (gQ (fj Br hr rfl mB kB bB .nil eT (dZ (eL eR (pv 4) er (fun _ _=>rfl)) (dZ (pv 11) el))))) gR eU))) eU))) (eA (fF (fz (jh hr.units) (pv 9) (pv 7) (by with_unfolding_all rfl)) (eA (gq (jB PySem.F.plainAttrs_list PySem.F.slot_list_append PySem.F.type_list_append gF (pv 7) (dZ (pv 9) el)))) eU)))))) (eA (eP iM)))))),?_⟩;intro c L r sh st tf pa ln H1 o0 o3 M;obtain⟨xs,hx,hp⟩:=M.pa;have bf:=xO M.one;have a5:∀j∈c.listed r,fR j.1:=fun j b=>jF M.ok b;have co:(c.listed r).length<64:=bw nU M.e64;have lx:=Paired.length hp;refine fun N a9=>?_;have s1:=eB a9 (.dK []);refine⟨_,rfl,tf,_,_,_,rfl,rfl,gH.of (s1 _ _ M.tf),rfl,pa,rfl,⟨xs,fb.of (s1 _ _ hx)⟩,fU (K:=K) (a:=pa) (xs:=xs) (fun i σ H2=>∃o6,σ=[o0,some (.ref sh),some (.ref st),o3,some (.ref tf),some (.ref N),o6,none,none,none,none,none]∧eG H1 H2∧H2 N=some (.dK (wm ((c.listed r).take i)))) ⟨none,rfl,s1,d0⟩ (by rintro i σ H2 _ ⟨_,_,s,_⟩;exact fb.of (s _ _ hx)) ?_ ?_⟩
 ·rintro i x σ H2 hi ⟨o6,rfl,s2,h2⟩;obtain⟨k,Y,kq,rfl,b3⟩:=Paired.J2 hp hi;have g1:=s2 _ _ b3;have ch:i<(c.listed r).length:=(af.mp Y).1;have ht:(c.listed r).take (i+1)=(c.listed r).take i++[k]:=by rw[bb,Y];rfl
  have cl:(((c.listed r).take i++[k]).map (·.1)).Nodup:=by rw[←ht,cJ];exact lO _ bf
  refine⟨_,rfl,kq,_,_,_,rfl,rfl,gH.of g1,rfl,_,rfl,_,rfl,kq,_,_,_,rfl,rfl,gH.of g1,rfl,N,_,rfl,mU.k (k:=Sum.inr k.1) h2 (eV (by unfold wm;rw[ab,aQ];lia)),?_⟩;refine⟨_,rfl,eG.upd s2 a9,?_⟩;have hm:=qN [k] ((c.listed r).take i) cl;rw[d0,ht,←hm];rfl
 rintro σ H2 ⟨o6,rfl,s2,h2⟩;rw[lx,aF]at h2;obtain⟨zs,hz,ba⟩:=M.st;have lz:=Paired.length ba;refine⟨(by show 0≤sizeLine;decide),fun p bd=>?_⟩;have s3:=eB bd (.lst []);have b7:H1 p=none:=s2.free bd;refine⟨_,rfl,st,rfl,⟨zs,fb.of (s3 _ _ (s2 _ _ hz))⟩,fU (K:=K) (a:=st) (xs:=zs) (A7 H1 c r o0 o3 o6 sh st tf N p) ⟨[],[],none,none,none,none,rfl,s2.trans s3,d0,s3 _ _ h2,.nil,ao _,(fun j b=>nomatch b),(fun j _ b=>by simp at b)⟩ (by rintro i σ H3 _ ⟨_,_,_,_,_,_,_,s,_⟩;exact fb.of (s _ _ hz)) ?_ ?_⟩
 ·rintro i x σ H3 hi ⟨ys,ks,o8,o9,m,o,rfl,s4,a8,R,bx,cp,B,G⟩;obtain⟨n,hn,nq,rfl,ah⟩:=Paired.J2 ba hi;have ch:i<c.sn.length:=(af.mp hn).1;have ht:c.sn.take (i+1)=c.sn.take i++[n]:=by rw[bb,hn];rfl
  have b5:c.sn=c.sn.take i++n::c.sn.drop (i+1):=by
   have:=dE (i+1) c.sn;rw[ht,bI]at this;exact this.symm
  have g3:=s4 _ _ ah;obtain⟨k,Y,e,cn⟩:=M.fit.met none (fun _ z=>nomatch z) n (ai hn);have J:=eg.J9.mp Y;have b8:oP (c.listed r) n.1=some k.2:=by rw[←e];exact E2 bf Y
  have ek:k=(n.1,k.2):=by rw[←e]
  have C:=oR n.1 (c.listed r);rw[b8]at C;have b9:jt H3 N (.str n.1) (some (.int k.2)):=by
   have:=jt.k (k:=Sum.inr n.1) R;rw[C]at this;exact this
  refine⟨_,rfl,nq,_,_,_,rfl,rfl,gH.of g3,rfl,_,rfl,N,_,rfl,jt.k (k:=Sum.inr n.1) R,_,rfl,?_⟩;rw[C];refine fC ?_;refine⟨_,rfl,nq,_,_,_,rfl,rfl,gH.of g3,rfl,_,rfl,_,rfl,nq,_,_,_,rfl,rfl,gH.of g3,rfl,N,_,rfl,b9,(by show 2≤sizeLine;decide),fun l a4=>?_⟩;have s5:=eB a4 (.tup [.str n.1,.int k.2]);have X:upd H3 l (.tup [.str n.1,.int k.2]) l=some (.tup [.str n.1,.int k.2]):=d0;have bv:l≠p:=Ne.symm (eo a8 a4);have a0:Paired (fg (del (upd H3 l (.tup [.str n.1,.int k.2])) [p])) ys ks:=Paired.JH bx fun _ _ y=>fg.same (eG.del s5 _) y;have ad:=s5 _ _ a8;have Z:=s5 _ _ R;have aa:=s4.trans s5;generalize upd H3 l (.tup [.str n.1,.int k.2])=H5 at *;refine⟨_,rfl,_,rfl,sh,.ref nq,c.es,n,rfl,M.sh.same aa,⟨nq,rfl,aa _ _ ah⟩,M.e64,fun np H6 h _ an=>?_⟩;have as:=aa.trans h;have S:Paired (fg H6) ys ks:=Paired.JH a0 fun _ _ y=>fg.same ((fm _ _).trans h) y;have O:jK H6 p ks:=⟨ys,h _ _ ad,S⟩;have U:∀j∈ks,fR j.1:=fun j b=>a5 j (B j b).1;have t:fR ((n.1,k.2):Pk).1:=by rw[←ek];exact a5 k Y
  have a7:fg H6 (.ref l) (n.1,k.2):=⟨l,rfl,h _ _ X⟩;refine⟨np,rfl,⟨_,fb.of an⟩,fU (K:=K) (a:=np) (xs:=(iT c.es n).map V.int) (fun j σ H7=>∃m o,σ=[o0,some (.ref sh),some (.ref st),o3,some (.ref tf),some (.ref N),o6,some (.ref p),some (.ref nq),some (.ref l),m,o]∧eG H6 H7) ⟨m,o,rfl,eG.refl _⟩ (by rintro j σ H7 _ ⟨_,_,_,s⟩;exact fb.of (s _ _ an)) ?_ ?_⟩
  ·rintro j x σ H7 b ⟨m,o,rfl,d⟩;rw[ae]at b;obtain⟨v,hv,rfl⟩:=au.mp b;refine⟨_,rfl,_,rfl,l,_,_,_,rfl,rfl,gH.of ((h.trans d) _ _ X),rfl,_,_,rfl,rfl,_,rfl,jm (fun c1=>?_) (fun _=>fC ⟨_,_,rfl,d⟩)⟩;refine⟨_,rfl,_,rfl,ku (n.1,k.2),ks.map ku,(a7.same d).rep,(O.same d).rep,(iF t).1,jA U,(iF t).2,_,rfl,?_⟩;rw[if_pos rfl,li];refine jm (fun c2=>?_) (fun _=>⟨_,_,rfl,d⟩);have b4:((n.1,k.2):Pk)∉ks:=fun z=>by rw[aq z]at c2;cases c2
   have bq:n.1∉(c.sn.take i).map (·.1):=fun z=>b4 (ek▸G k J (by rw[e];exact z));have g:=as.trans d;refine⟨_,rfl,_,rfl,nq,_,_,_,rfl,rfl,gH.of (g _ _ ah),rfl,_,rfl,(by show 2≤sizeLine;decide),fun t1 b2=>⟨(by show 1≤sizeLine;decide),fun l1 bm=>?_⟩⟩;have a1:=eB b2 (.tup [.str n.1,.int v]);have a2:=eB bm (.lst [.ref t1]);have ly:=Paired.length S;refine⟨p,l1,ys,_,rfl,rfl,(a1.trans a2) _ _ (d _ _ (h _ _ ad)),d0,by rw[bZ];show ys.length+1≤_;have:=M.s100;lia,fun p2 b1=>?_⟩;have a3:=eB b1 (.lst (ys++[.ref t1]));have al:=(a1.trans a2).trans a3;have a6:=d.trans al;refine⟨_,rfl,tf,_,_,_,rfl,rfl,gH.of ((g.trans al) _ _ M.tf),rfl,_,rfl,ln,p2,c.lns L,ks++[(n.1,v)],rfl,M.ln.same (g.trans al),M.lok,⟨_,d0,Paired.snoc (Paired.JH S fun _ _ y=>fg.same a6 y) ⟨t1,rfl,a3 _ _ (a2 _ _ d0)⟩⟩,fun j b=>?_,uU M.shown b5 bq J e (ai hv) (aW c1) G,fun H8 s8=>⟨_,rfl,fC ⟨_,_,rfl,a6.trans s8⟩⟩⟩;rcases az.mp b with z | z
   ·exact U j z
   ·rw[aj.mp z];exact t
  ·rintro σ H7 ⟨m,o,rfl,d⟩;have g:=as.trans d;have D:=d _ _ (h _ _ ad);have ag:Paired (fg (del H7 [p])) ys ks:=Paired.JH a0 fun _ _ y=>fg.same (eG.del (h.trans d) _) y;refine⟨_,rfl,_,rfl,ku (n.1,k.2),ks.map ku,(a7.same d).rep,(O.same d).rep,(iF t).1,jA U,(iF t).2,_,rfl,?_⟩;rw[if_pos rfl,li];have I:∀{j:Pk},j.1∈(c.sn.take (i+1)).map (·.1)↔j.1∈(c.sn.take i).map (·.1)∨j.1=n.1:=fun {j}=>by rw[ht,av,az];simp
   refine jm (fun c2=>?_) (fun c2=>?_)
   ·have ly:=Paired.length ag;refine⟨_,rfl,.inl ⟨rfl,_,fb.of D⟩,_,rfl,p,ys,_,rfl,rfl,D,eV (by have:=M.s100;lia),?_⟩;refine⟨ys++[.ref l],ks++[(n.1,k.2)],_,_,_,_,rfl,eG.upd g b7,d0,?_,?_,by rw[aE,aV];lia,fun j b=>?_,fun j b T=>?_⟩
    ·rw[ef (fJ ((h.trans d) _ _ Z) D fun z=>nomatch z)];exact(h.trans d) _ _ Z
    ·rw[lF (by simp)];refine Paired.snoc ag ⟨l,rfl,?_⟩;rw[eE (by simpa using bv)];exact(h.trans d) _ _ X
    ·rw[I];rcases az.mp b with z | z
     ·exact⟨(B j z).1,.inl (B j z).2⟩
     ·rw[aj.mp z];exact⟨ek▸Y,.inr rfl⟩
    ·rcases I.mp T with z | z
     ·exact aO _ (G j b z)
     ·rw[M.one j k b J (z.trans e.symm),←ek];simp
   ·have cd:((n.1,k.2):Pk)∈ks:=by
     by_cases z:((n.1,k.2):Pk)∈ks
     ·exact z
     ·exact absurd (by rw[ar z];rfl) c2
    refine⟨ys,ks,_,_,_,_,rfl,g,D,(h.trans d) _ _ Z,ag,by lia,fun j b=>⟨(B j b).1,I.mpr (.inl (B j b).2)⟩,fun j b T=>?_⟩;rcases I.mp T with z | z
    ·exact G j b z
    ·rw[M.one j k b J (z.trans e.symm),ek];exact cd
 ·rintro σ H3 ⟨_,_,_,_,_,_,rfl,_⟩;exact q H3
end
end FB
namespace FB
open PySem L2 PyProof.Rows
def qu {α:Type}(xs:List α)(lo hi:Option Int):List α:=(xs.drop (HT.ni xs.length 0 lo)).take (HT.ni xs.length xs.length hi-HT.ni xs.length 0 lo)
theorem A9 {α:Type}{xs:List α}{lo hi:Option Int}{x:α}(h:x∈qu xs lo hi):x∈xs:=List.mem_of_mem_drop (cY h)
theorem Ba {α:Type}(xs:List α)(lo hi:Option Int):(qu xs lo hi).length≤xs.length:=by
 unfold qu;rw[aQ,List.length_drop];omega
theorem E9 (xs:List V)(lo hi:Option Int):oh xs lo hi=qu xs lo hi:=rfl
theorem xQ {α β:Type}{F:α→β→Prop}{as:List α}{bs:List β}(h:Paired F as bs):∀n,Paired F (as.drop n) (bs.drop n):=by
 induction h with
 |nil=>intro n;simpa using Paired.nil
 |cons h t ih=>
  intro n;cases n with
  |zero=>exact .cons h t
  |succ n=>exact ih n
theorem xP {α β:Type}{F:α→β→Prop}{as:List α}{bs:List β}(h:Paired F as bs):∀n,Paired F (as.take n) (bs.take n):=by
 induction h with
 |nil=>intro n;simpa using Paired.nil
 |cons h t ih=>
  intro n;cases n with
  |zero=>exact .nil
  |succ n=>exact .cons h (ih n)
theorem yH {α β:Type}{F:α→β→Prop}{as:List α}{bs:List β}(h:Paired F as bs)(lo hi:Option Int):Paired F (qu as lo hi) (qu bs lo hi):=by
 have e:=Paired.length h;unfold qu;rw[e];exact xP (xQ h _) _
end FB
namespace FB
open PySem L2 PyProof.Rows
seal mj PS PE PT PA
def C7:List Str:="dawn"::ud
def Ft:List Int:=3::2::1::zi
def IJ (e:En):Prop:=e.1∈C7∧e.2.1∈Ft
theorem Lw.LF {e:En}(h:Lw e):IJ e:=by
 refine⟨aR _ h.1,?_⟩;unfold Ft;exact aR _ (aR _ (aR _ h.2))
theorem pS {c:eg}{L:ij}(d:gY c L)(h:∀e∈c.es,IJ e):L.length<sizeLine:=by
 have:=yt (Ps:=C7) (Vs:=Ft) d (fun k a=>by
  obtain⟨e,b,rfl⟩:=aA.mp ((c.mem k).mp a)
  exact(h e b).1) fun k a=>by
  obtain⟨e,b,rfl⟩:=aA.mp ((c.mem k).mp a);exact(h e b).2
 have e:(Ft.length+1)^C7.length=161051:=by decide
 rw[e]at this;rw[bZ];omega
inductive DB (K:W.Frag)(PP:Addr)(vs:List V)(H:Hp)(Q:VK)(E:XK):Prop
 |mk (a:Addr)(ns:List Int)(_:vs=[.ref a])(_:fb K H a (ns.map V.int))(_:ns.length≤63)(_:gU y8 yo H PP)(_:∀H',Q (.bl true) H'):DB K PP vs H Q E
def rG (K:W.Frag)(PP:Addr):Sp:=DB K PP
structure JG (H:Hp)(PP:Addr)(es:List En)(sn:List Nd)(sh st:Addr):Prop where
 sh:iU H sh es
 nd:(es.map eX).Nodup
 ok:∀e∈es,mT e
 e64:es.length<64
 lw:∀e∈es,IJ e
 st:gL H st sn
 sp:∀n∈sn,fR n.1
 s100:sn.length≤100
 tab:gU y8 yo H PP
def GS (P:Program)(w:World)(K:W.Frag)(mg:Str→Option Value)(base:Heap)(f:Addr)(cdv:Value)(A:Around)(outer:List Env)(s:Shared)(H:Hp)(Q:VK)(E:XK)(PP:Addr):Prop:=
 ∃tR:TS,mj (qt ff P w K mg base Iu "law" (eF lU) f cdv A outer s H E).nox ((gr lU).drop 4) tR∧
   ∀(es:List En) (sn:List Nd) (sh st:Addr) (H1:Hp) (o0 o3:Option V),JG H1 PP es sn sh st→
    tR {nx:=fun _ H'=>Q .non H',rt:=Q} [o0,some (.ref sh),some (.ref st),o3,none,none,none,none,none,none,none,none] H1
section
variable {P:Program}{w:World}{K:W.Frag}{mg:Str→Option Value}{base:Heap}{f:Addr}{fd:FuncData}{cdv:Value}{A:Around}{outer:List Env}{s:Shared}{H:Hp}{Q:VK}{E:XK}
theorem Iw {PP:Addr}(T:xm K mg)(v:Gd P w K mg base ff 9 "_law_copy_of" ["_law_shelf"] rK)(al:Gd P w K mg base ff 9 "_law_lines_hold" ["_law_shelf","_law_start","_law_lines"] jx)(an:Gd P w K mg base ff 9 "_law_are_picks" ["_law_found"] jj)(U:Gd P w K mg base ff 9 "worked_out" ["shelf","start"] (ml PP))(N:gK 9 (A.deeper (envOfC "law" (eF lU) s.heap.objs.size f cdv)))(q:∀H',Q (.bl true) H')(r:DI P w K mg base f cdv A outer s H Q E):GS P w K mg base f cdv A outer s H Q E PP:=by
 obtain⟨tR,hR,kR⟩:=r;obtain⟨_,_,Cp,bC,kC,mC⟩:=v.ex;obtain⟨_,_,Lh,bH,kH,mH⟩:=al.ex;obtain⟨_,_,Ap,bP,kP,mP⟩:=an.ex;obtain⟨_,_,Wo,bW,kW,mW⟩:=U.ex;have hu:=N.units;refine⟨_,(ee (eK (i:=4) tJ.nd rfl (Or.inl rfl) (fj Wo N rfl mW kW bW .nil eT (dZ (fj Cp N rfl mC kC bC .nil eT (dZ (pv 1) el)) (dZ (jV mM rfl T.list dX (dZ (pv 2) el)) el)))) (ee (fF (PW.pt (kr (gO (gQ (fi gu rfl T.isin b0 (dZ (pv 4) (dZ (kT rfl T.tuple boot_tuple) el))))) (jO (fz qL (fi fK rfl T.len bT (dZ (pv 4) el)) er (fQ _))))) gR eU) (ee (fF (gO (gQ (fj Lh N rfl mH kH bH .nil eT (dZ (pv 1) (dZ (pv 2) (dZ (eL eR (pv 4) er (fun _ _=>rfl)) el)))))) gR eU) (ee (fF (iL (u9 (eL eR (pv 4) er (fun _ _=>rfl)))) (eA (eP (lW (j8 (Aa hu) (eL eR (pv 4) er (fun _ _=>rfl)) (gc el) (fQ _)) (nA (j8 (Ac hu) (eL eR (eL fh (eL eR (pv 4) er (fun _ _=>rfl)) (iP jN er) (fun _ _=>rfl)) er (fun _ _=>rfl)) (gc el) (fQ _)))))) eU) (ee (fF (gO (gQ (fj Ap N rfl mP kP bP .nil eT (dZ (eL eR (pv 4) er (fun _ _=>rfl)) el)))) gR eU) hR))))),?_⟩;intro es sn sh st H1 o0 o3 M;have e64:=M.e64;refine⟨_,rfl,sh,es,rfl,M.sh,by lia,fun hd H4 s4 ag=>?_⟩;obtain⟨zs,hz,ad⟩:=gL.same s4 M.st;refine⟨_,rfl,st,zs,rfl,.inl (fb.of hz),fun nd I=>?_⟩;have Z:=eB I (.lst zs);have G:gL (upd H4 nd (.lst zs)) nd sn:=⟨zs,d0,Paired.JH ad fun _ _ z=>gX.same Z z⟩;have p:=s4.trans Z;have C:=gU.f p.toF M.tab;have R:=gL.same p M.st;have D:=iU.same p M.sh;have J:=iU.same Z ag;generalize upd H4 nd (.lst zs)=H5 at *;refine⟨hd,nd,es,sn,rfl,J,e64,M.nd,G,tT M.ok M.s100,C,fun c c1 c2 L b=>pS b (by rw[c1];exact M.lw),fun c H6 j c1 c2 aa a1 t=>?_⟩;subst c1;subst c2;have k6:=HD.tab C aa;have h:=D.k k6;have g:=R.k k6;rcases t with ⟨L,⟨ln,l,d⟩,b,e,hl,h0⟩ | ⟨L,pk,⟨Y,ln,l,O,d⟩,b,y,B,a0,as,F⟩
 ·refine⟨_,rfl,_,_,_,_,rfl,jv.tup l,pT K,_,rfl,fC ?_⟩;refine⟨_,rfl,j,_,rfl,.inr (gH.of l),rfl,_,rfl,fC ?_⟩;refine⟨_,rfl,_,rfl,_,rfl,j,_,_,_,rfl,rfl,gH.of l,rfl,sh,st,ln,c.es,c.sn,c.lns L,rfl,h,e64,M.nd,M.ok,g,M.sp,d,lC b M.ok e64,?_,tZ b,fun Ha m=>⟨_,rfl,fC ?_⟩⟩
  ·unfold eg.lns;rw[ab];exact pS b M.lw
  have a:=m _ _ l;have o:=d.same m;refine⟨_,rfl,j,_,_,_,rfl,rfl,gH.of a,rfl,_,rfl,gW ?_⟩;refine⟨_,rfl,j,_,_,_,rfl,rfl,gH.of a,rfl,(by show 0≤sizeLine;decide),fun lc ah=>?_⟩;have sc:=eB ah (.lst []);refine⟨.list ((c.lns L).map EQ),.list [],(o.same sc).rep,.lst d0 .nil,j9 (EO (lC b M.ok e64)) (by decide),rfl,?_⟩;have S:((c.lns L).map EQ).isEmpty=false:=by
   cases L with
   |nil=>cases hl
   |cons x L=>rfl
  rw[wH,S];refine⟨_,rfl,gW ?_⟩;obtain⟨xs,x,q1,Y,rv,g1,rfl,g2,g3⟩:=Ax (o.same sc) hl h0;refine⟨_,rfl,j,_,_,_,rfl,rfl,gH.of (sc _ _ a),rfl,_,rfl,ln,_,_,_,rfl,rfl,fb.of g1,Bg xs _,q1,_,_,_,rfl,rfl,gH.of g2,rfl,(by show 0≤sizeLine;decide),fun ld X=>?_⟩;have sd:=eB X (.lst []);refine⟨.list [],.list [],.lst (sd _ _ g3) .nil,.lst d0 .nil,rfl,rfl,?_⟩;exact q _
 ·refine⟨_,rfl,_,_,_,_,rfl,jv.tup l,pT K,_,rfl,fC ?_⟩;refine⟨_,rfl,j,_,rfl,.inr (gH.of l),rfl,_,rfl,fC ?_⟩;refine⟨_,rfl,_,rfl,_,rfl,j,_,_,_,rfl,rfl,gH.of l,rfl,sh,st,ln,c.es,c.sn,c.lns L,rfl,h,e64,M.nd,M.ok,g,M.sp,d,lC b M.ok e64,?_,tZ b,fun Ha m=>⟨_,rfl,fC ?_⟩⟩
  ·unfold eg.lns;rw[ab];exact pS b M.lw
  have a:=m _ _ l;refine⟨_,rfl,j,_,_,_,rfl,rfl,gH.of a,rfl,_,rfl,fC ?_⟩;refine⟨_,rfl,j,_,_,_,rfl,rfl,gH.of a,rfl,Y,_,rfl,O.same m,_,rfl,fC ?_⟩;exact kR c L pk sh st j Y ln Ha o0 o3 ⟨h.same m,g.same m,a,O.same m,d.same m,lC b M.ok e64,M.ok,e64,M.s100,y,B,F⟩
theorem zT:fR "dawn":=⟨by decide +kernel,by decide +kernel⟩
theorem Gj:fR "eve":=⟨by decide +kernel,by decide +kernel⟩
def t0:List Nd:=[("eve",9,9)]
abbrev Du:List En:=[("dawn",3,t0),("dawn",2,t0)]
abbrev Dt:List En:=[("dawn",1,t0),("dawn",0,[])]
def qc (es:List En):List En:=Du++es++Dt
theorem ui {es:List En}{e:En}(h:e∈qc es):e∈es∨e.1 = "dawn"∧e.2.1∈Ft∧mT e:=by
 have ok:∀z a,(a=t0∨a=[])→mT ("dawn",z,a):=fun z a h=>by
  rcases h with rfl | rfl
  ·exact⟨zT,fun n b=>by rw[aj.mp b];exact Gj,(by show 1≤100;decide)⟩
  ·exact⟨zT,(fun n b=>nomatch b),(by show 0≤100;decide)⟩
 unfold qc at h;rcases az.mp h with h | h
 ·rcases az.mp h with h | h
  ·simp only[am,aG,or_false]at h;rcases h with rfl | rfl
   ·exact .inr ⟨rfl,by decide,ok _ _ (.inl rfl)⟩
   ·exact .inr ⟨rfl,by decide,ok _ _ (.inl rfl)⟩
  ·exact .inl h
 ·simp only[am,aG,or_false]at h;rcases h with rfl | rfl
  ·exact .inr ⟨rfl,by decide,ok _ _ (.inl rfl)⟩
  ·exact .inr ⟨rfl,by decide,ok _ _ (.inr rfl)⟩
theorem yE:("dawn" : Str)∉ud:=by decide +kernel
def dk (z:Int):Pk:=("dawn",z)
theorem Db {es:List En}(p:(es.map eX).Nodup)(o:∀e∈es,Lw e):((qc es).map eX).Nodup:=by
 have i:∀z,dk z∉es.map eX:=fun z h=>by
  obtain⟨e,m,j⟩:=aA.mp h;have l:e.1 = "dawn":=congrArg Prod.fst j;have h1:=(o e m).1;rw[l]at h1;exact yE h1
 unfold qc;rw[av,av,bM,bM];refine⟨⟨by decide +kernel,p,fun a d b g e=>?_⟩,by decide +kernel,fun a d b g e=>?_⟩
 ·subst e;have:a=dk 3∨a=dk 2:=by simpa [eX,dk] using d
  rcases this with rfl | rfl <;> exact i _ g
 ·subst e;have h1:a=dk 1∨a=dk 0:=by simpa [eX,dk] using g
  rcases az.mp d with z | z
  ·have h2:a=dk 3∨a=dk 2:=by simpa [eX,dk] using z
   rcases h1 with rfl | rfl <;> rcases h2 with h | h <;> exact absurd (congrArg Prod.snd h) (by decide)
  ·rcases h1 with rfl | rfl <;> exact i _ z
theorem nF {α β:Type}{F:α→β→Prop}:∀{as as':List α} {bs bs':List β},Paired F as bs→Paired F as' bs'→Paired F (as++as') (bs++bs')
 |_,_,_,_,.nil,h=>h
 |_,_,_,_,.cons a t,h=>.cons a (nF t h)
theorem EF {PP:Addr}(F:iN K "law" "law" lU f fd)(T:xm K mg)(b8:Gd P w K mg base ff 9 "_law_at" ["_law_script","_law_k"] (BY K))(M:Gd P w K mg base ff 9 "_law_asked_by" ["_law_script"] (rL K))(x:Gd P w K mg base ff 9 "_law_copy_of" ["_law_shelf"] rK)(N:Gd P w K mg base ff 9 "_law_mixed" ["_law_script"] (rD K))(b9:Gd P w K mg base ff 9 "_law_lines_hold" ["_law_shelf","_law_start","_law_lines"] jx)(cc:Gd P w K mg base ff 9 "_law_are_picks" ["_law_found"] jj)(b5:Gd P w K mg base ff 9 "_law_newest" ["_law_shelf","_law_need"] oX)(bl:Gd P w K mg base ff 9 "_law_barred" ["_law_lines","_law_known"] ou)(ba:Gd P w K mg base ff 9 "worked_out" ["shelf","start"] (ml PP)):eZ P w K mg base ff 10 f fd ["_law_script"] (rG K PP):=by
 refine F.ok tJ (fun vs H Q E h=>?_) (fun cdv A outer s H vs Q E Z h=>?_)
 ·obtain⟨a,ns,rfl,_⟩:=h;rfl
 obtain⟨a,ns,rfl,hS,co,hT,q⟩:=h;obtain⟨_,_,At,bA,kA,mA⟩:=b8.ex;obtain⟨_,_,bf,a3,a5,a0⟩:=M.ex;obtain⟨_,_,Mx,bX,kX,mX⟩:=N.ex;obtain⟨tR,hR,kR⟩:=Iw (A:=A) (outer:=outer) (cdv:=cdv) (s:=s) (H:=H) (Q:=Q) (E:=E) (f:=f) T x b9 cc ba Z q (Iv b5 bl Z q);refine⟨_,(ee (eK (i:=0) tJ.nd rfl (Or.inl rfl) (kU my (pv 0) oy (lr er))) (ee (eK (i:=0) tJ.nd rfl (Or.inl rfl) (fj Mx Z rfl mX kX bX .nil eT (dZ (pv 0) el))) (ee (zH (fj bf Z rfl a0 a5 a3 .nil eT (dZ (pv 0) el)) (nz (n:=2) rfl (gy (eM (i:=1) tJ.nd rfl (Or.inl rfl)) (gy (eM (i:=2) tJ.nd rfl (Or.inl rfl)) lu)))) (ee (fF (fz kz (fc jP (fj At Z rfl mA kA bA .nil eT (dZ (pv 0) (dZ er el))) er) er (fQ _)) (ee (eK (i:=3) tJ.nd rfl (Or.inl rfl) (gc (dZ (gm (dZ hJ (dZ er (dZ er el)))) el))) (ee (eK (i:=1) tJ.nd rfl (Or.inl rfl) (fc sy (gc (dZ (gm (dZ hJ (dZ er (dZ (pv 3) el)))) (dZ (gm (dZ hJ (dZ er (dZ (pv 3) el)))) el))) (pv 1))) (ee (eK (i:=1) tJ.nd rfl (Or.inl rfl) (fc sy (pv 1) (gc (dZ (gm (dZ hJ (dZ er (dZ (pv 3) el)))) (dZ (gm (dZ hJ (dZ er (dZ (gc el) el)))) el))))) (eA (eK (i:=2) tJ.nd rfl (Or.inl rfl) (fc sy (gc (dZ (gm (dZ hJ (dZ er (dZ er el)))) el)) (kU my (pv 2) oy (lr er)))))))) eU) hR)))),?_⟩;obtain⟨m1,e1,l1⟩:=uj ns none (some 500);refine⟨_,rfl,500,rfl,a,_,rfl,hS,fun p1 bq=>?_⟩;rw[e1];have s1:=eB bq (.lst (m1.map V.int));refine⟨_,rfl,p1,m1,rfl,fb.of d0,by lia,fun p2 m2 H2 s2 h2 l2=>?_⟩;refine⟨_,rfl,p2,m2,rfl,fb.of h2,by lia,fun t sh st es sn O s3 h3 ag ad G cn h4 L S cl=>?_⟩;refine⟨t,_,rfl,gH.of h3,rfl,_,_,rfl,_,_,rfl,rfl,?_⟩;have b4:eG H O:=(s1.trans s2).trans s3;have D:=gU.f b4.toF hT;refine⟨_,rfl,p2,m2,2,rfl,fb.of (s3 _ _ h2),by decide,fun z0=>⟨_,_,rfl,rfl,(by show(0:Int)<3;decide),rfl,_,rfl,jm (fun _=>?_) (fun _=>?_)⟩⟩
 ·obtain⟨ys,hy,X⟩:=id ag;obtain⟨zs,hz,Y⟩:=id L;have ly:=Paired.length X;have lz:=Paired.length Y;refine⟨(by show 3≤sizeLine;decide),fun v a7=>⟨(by show 1≤sizeLine;decide),fun b as=>?_⟩⟩;have a1:=eB a7 (.tup [.str "eve",.int 9,.int 9]);have a2:=eB as (.lst [.ref v]);have b1:=a2 _ _ (d0 (H:=O) (a:=v) (o:=.tup [.str "eve",.int 9,.int 9]));have b2:=d0 (H:=upd O v (.tup [.str "eve",.int 9,.int 9])) (a:=b) (o:=.lst [.ref v]);have J:=a1.trans a2;generalize upd (upd O v (.tup [.str "eve",.int 9,.int 9])) b (.lst [.ref v])=H4 at *;have en:∀{H':Hp} {q:Addr} {z:Int},eG H4 H'→H' q=some (.tup [.str "dawn",.int z,.ref b])→j6 H' (.ref q) ("dawn",z,t0):=fun {H' q z} e h=>⟨q,b,[.ref v],rfl,h,e _ _ b2,.cons ⟨v,rfl,e _ _ b1⟩ .nil⟩;refine⟨_,rfl,(by show 3≤sizeLine;decide),fun d a9=>⟨_,rfl,(by show 3≤sizeLine;decide),fun g bm=>⟨(by show 2≤sizeLine;decide),fun l4 a6=>?_⟩⟩⟩;have c1:=eB a9 (.tup [.str "dawn",.int 3,.ref b]);have c2:=eB bm (.tup [.str "dawn",.int 2,.ref b]);have c3:=eB a6 (.lst [.ref d,.ref g]);have d1:=(c2.trans c3) _ _ (d0 (H:=H4) (a:=d) (o:=.tup [.str "dawn",.int 3,.ref b]));have d2:=c3 _ _ (d0 (H:=upd H4 d (.tup [.str "dawn",.int 3,.ref b])) (a:=g) (o:=.tup [.str "dawn",.int 2,.ref b]));have aa:=(c1.trans c2).trans c3;refine⟨_,rfl,l4,sh,_,ys,rfl,rfl,d0,(J.trans aa) _ _ hy,by rw[bZ];show 2+ys.length≤_;lia,fun p5 b3=>?_⟩;have c4:=eB b3 (.lst ([.ref d,.ref g]++ys));have d1:=c4 _ _ d1;have d2:=c4 _ _ d2;have al:=aa.trans c4;have d3:=d0 (H:=upd (upd (upd H4 d (.tup [.str "dawn",.int 3,.ref b])) g (.tup [.str "dawn",.int 2,.ref b])) l4 (.lst [.ref d,.ref g])) (a:=p5) (o:=.lst ([.ref d,.ref g]++ys));generalize upd (upd (upd (upd H4 d (.tup [.str "dawn",.int 3,.ref b])) g (.tup [.str "dawn",.int 2,.ref b])) l4 (.lst [.ref d,.ref g])) p5 (.lst ([.ref d,.ref g]++ys))=H5 at *;refine⟨_,rfl,_,rfl,(by show 3≤sizeLine;decide),fun j an=>⟨(by show 0≤sizeLine;decide),fun r a8=>⟨(by show 3≤sizeLine;decide),fun l bv=>⟨(by show 2≤sizeLine;decide),fun l7 bd=>?_⟩⟩⟩⟩;have f1:=eB an (.tup [.str "dawn",.int 1,.ref b]);have f2:=eB a8 (.lst []);have f3:=eB bv (.tup [.str "dawn",.int 0,.ref r]);have f4:=eB bd (.lst [.ref j,.ref l]);have g1:=((f2.trans f3).trans f4) _ _ (d0 (H:=H5) (a:=j) (o:=.tup [.str "dawn",.int 1,.ref b]));have g2:=(f3.trans f4) _ _ (d0 (H:=upd H5 j (.tup [.str "dawn",.int 1,.ref b])) (a:=r) (o:=.lst []));have g3:=f4 _ _ (d0 (H:=upd (upd H5 j (.tup [.str "dawn",.int 1,.ref b])) r (.lst [])) (a:=l) (o:=.tup [.str "dawn",.int 0,.ref r]));have R:=((f1.trans f2).trans f3).trans f4;refine⟨p5,l7,_,_,rfl,rfl,R _ _ d3,d0,by rw[bZ];show([V.ref d,.ref g]++ys).length+2≤_;rw[aE];show 2+ys.length+2≤_;lia,fun p8 bx=>?_⟩;have f5:=eB bx (.lst (([.ref d,.ref g]++ys)++[.ref j,.ref l]));have g1:=f5 _ _ g1;have g2:=f5 _ _ g2;have g3:=f5 _ _ g3;have y:=R.trans f5;have g5:=d0 (H:=upd (upd (upd (upd H5 j (.tup [.str "dawn",.int 1,.ref b])) r (.lst [])) l (.tup [.str "dawn",.int 0,.ref r])) l7 (.lst [.ref j,.ref l])) (a:=p8) (o:=.lst (([.ref d,.ref g]++ys)++[.ref j,.ref l]));generalize upd (upd (upd (upd (upd H5 j (.tup [.str "dawn",.int 1,.ref b])) r (.lst [])) l (.tup [.str "dawn",.int 0,.ref r])) l7 (.lst [.ref j,.ref l])) p8 (.lst (([.ref d,.ref g]++ys)++[.ref j,.ref l]))=H6 at *;have p:=al.trans y;have m:=J.trans p;have I:iU H6 p8 (qc es):=⟨_,g5,nF (bs:=Du++es) (bs':=Dt) (nF (.cons (en p (y _ _ d1)) (.cons (en p (y _ _ d2)) .nil)) (Paired.JH X fun _ _ z=>j6.same m z)) (.cons (en p g1) (.cons ⟨l,r,[],rfl,g3,g2,.nil⟩ .nil))⟩;refine⟨(by show 3≤sizeLine;decide),fun t9 cd=>⟨(by show 1≤sizeLine;decide),fun l9 b6=>?_⟩⟩;have i1:=eB cd (.tup [.str "dawn",.int 0,.int 9]);have i2:=eB b6 (.lst [.ref t9]);refine⟨_,rfl,2,rfl,st,_,rfl,fb.of ((m.trans (i1.trans i2)) _ _ hz),fun pa b7=>?_⟩;rw[E9];have C:=yH Y none (some 2);have cp:=Ba sn none (some 2);have a4:∀n∈qu sn none (some 2),fR n.1:=fun n hn=>S n (A9 hn);generalize qu zs none (some 2)=zs' at *;generalize qu sn none (some 2)=sn' at *;have ch:=Paired.length C;have i3:=eB b7 (.lst zs');refine⟨l9,pa,_,zs',rfl,rfl,i3 _ _ d0,d0,by rw[bZ];show 1+zs'.length≤_;lia,fun pb ah=>?_⟩;have i4:=eB ah (.lst ([.ref t9]++zs'));have B:=((i1.trans i2).trans i3).trans i4;refine kR (qc es) (("dawn",0,9)::sn') p8 pb _ _ _ ⟨I.same B,Db ad h4,fun e U=>?_,?_,fun e U=>?_,⟨_,d0,.cons ⟨t9,rfl,i4 _ _ (i3 _ _ (i2 _ _ d0))⟩ (Paired.JH C fun _ _ z=>gX.same (m.trans B) z)⟩,fun n hn=>?_,by rw[aC];lia,gU.f (m.trans B).toF D⟩
  ·rcases ui U with z | z
   ·exact G e z
   ·exact z.2.2
  ·unfold qc;rw[aE,aE];show 2+es.length+2<64
   lia
  ·rcases ui U with z | z
   ·exact(h4 e z).LF
   ·exact⟨by rw[z.1];unfold C7;simp,z.2.1⟩
  ·rcases am.mp hn with z | z
   ·rw[z];exact zT
   ·exact a4 n z
 ·exact kR es sn sh st O _ _ ⟨ag,ad,G,by lia,fun e U=>(h4 e U).LF,L,S,by lia,D⟩
end
end FB
structure PySem.W.Fast:Prop where
 (tw13161268477471588506 tw528929813912628223 tw7336394079370631158 tw2069830615470449357 tw11833623487741499901 tw17459199346603856703 tw11165230704938773749 tw9585095022076650677 tw288652317779956957 tw9016967464162882225 tw2470728925710669896 tw1865297083613405897 tw5437007346424364619 tw12909045744834058228 tw9915246750305444878 tw17848367299425106979 tw635358524942330935 tw11507872005581652883 tw6627724142623042246 tw916910480412106712 tw36870616622352714 tw11350385751222515861 tw436810455854458658 tw12147981458533648585 tw9859907045726990277 tw4248535653244087813 tw2087743177225578146 tw1152927804066071899 tw4743557513328024317 tw13590515254821517838 tw2465231098514686812 tw15386719356202526899 tw14940538590670557738 tw2534549027239187979 tw2786701775142813341 tw4447180528940752372 tw8825037539619762208 tw14286854878105700536 tw9962574372179306436 tw11653670067010535543 tw10108663098055515876 tw6301534278469790233 tw9721994158488151725 tw12866016525484156018 tw1326658938329952699 tw8067414107358553551 tw8418103625011075003 tw11474000067521395058 tw16897514533002928183 tw13017910588077219534 tw6257870381679912755 tw3427470544103752025 tw2389721964852542464 tw3675502422431812501 tw5277361662146070359 tw6222153323445661759 tw11228321545485998089 tw4497070247130690084 tw13166258965845147055 tw7665499434234572620 tw15850258714869184296 tw11864039532467656956 tw17909073528297734212 tw17894191643248329397 tw2680288684832346255 tw12550296619335925470 tw8680974069835726751 tw2379196808474546378 tw18036492964579206885 tw11911377814434913722 tw1782152656458362040 tw17333729288676262050 tw5671734878616305177 tw9372504542895297649 tw15598828480839984905 tw12301315289285546340 tw8803734858646799657 tw909644684539474563 tw2652189235721850218 tw16940319190043851942 tw11017335404379647647 tw17453496872893869887 tw8680354307372421626 tw9459009954608160527 tw12792008673566034480 tw16630604919638789037 tw8590535957775097839 tw3940256020047857278 tw6790068259471023098 tw35472073000897050 tw17729102488627662223 tw3557409344070115033 tw13827230372134799646 tw441398604924033445 tw16517988504951465279 tw13694981858765818361 tw3743222275898389155 tw11215885945963878120 tw3752349390989705863 tw15286458795778616983 tw560170224311042452 tw14540222587591977506 tw17609073959958775339 tw13115393089935506734 tw143233303418990657 tw12444277510738702143 tw17205964904239814245 tw16370177551015819487 tw7541424115161073434 tw3435632378927379505 tw2419634652756789725 tw15347814379823821044 tw2588254410873978487 tw4393982734440431365 tw6951026010717002786 tw17645135727265616167 tw2112377443697087360 tw3619842075025783579 tw17550437386094291344 tw7993084387686467152 tw8969382429247234047 tw8188810421556814290 tw10384133158072966434 tw11025898219015241717 tw14839020375840240936 tw7436919820071193891 tw10249906644737155830 tw7193764374874530955 tw2584211099669444145 tw2576717506708673519 tw4674311257180414646 tw6831238855807845603 tw15419046836918723951 tw5796201879496712198 tw2253213444451078080 tw10763292350412978327 tw10629990920510886300 tw9771294512560830266 tw7905580486559320660 tw9191985586012374970 tw7467732042851247425 tw4260149671978748620 tw15670826249130905694 tw10799878873976414248 tw14098948577845567950 tw10258092910651088125 tw13485362791950575227 tw17385044328747750567 tw5033658137211050528 tw8519245632695319418 tw2555623032696574255 tw1226592812338391102 tw13130202414375375959 tw161898630683088943 tw9099339452327839445 tw1585571543481215612 tw3753009265642257244 tw3481354885526563686 tw8805305568016243054 tw6315442629458225234 tw9557700037400232834 tw10557591500926402523 tw21031207483047530 tw4884835890869321590 tw13260674382019590217 tw18236448134994631731 tw17286920031034015967 tw2707564414240929689 tw2132485610540940190 tw6787885813790562186 tw12071775984741319076 tw430410047919827143 tw6995386548114900738 tw4051962309223991297 tw3408334458359442599 tw15999271624262820691 tw18296508983020233742 tw16046743370349153439 tw2152173007939272814 tw15771230383753652099 tw11161478781168670772 tw13756526760350116743 tw3797322000510931109 tw13067850796468308792 tw8619555244932511095 tw11169600672223483359 tw8832697260823345606 tw17618198319977518127 tw7695339210158485158 tw5019221884439256249 tw4785237261888945649 tw4363381744151379001 tw5659233643212186546 tw16177865518864105430 tw15721090124411622737 tw17818032235251080510 tw951091151459116208 tw8932987485561534076 tw5089733682173010587 tw12605254171125219527 tw14801462403972353271 tw13424592627670158890 tw9467690384392714561 tw9601339118812475306 tw820080887068139775 tw9658668299683134883 tw5069189689014831238 tw2399994632855297952 tw7322631677991433865 tw6858310786056606870 tw6058221673259606898 tw13810595653003964831 tw5617098387485120237 tw5435695933054606321 tw4828017353532789580 tw16725524601841727434 tw16488616583334424392 tw4750085232822074233 tw1958968524037783766 tw5168145901233277916 tw5801363803716169213 tw2790992396688970445 tw1442345410221559888 tw6643090772782910778 tw5867565801117377204 tw6740311336506388353 tw18106136398355787402 tw7868015038428760660 tw8734921797480684540 tw12212280199439846694 tw9124856002185625573 tw10864246192907457194 tw14848971491161071799 tw2282173100707634691 tw16020692907567352698 tw13953192340496920537 tw10030146492009982132 tw15834270618832771265 tw14240122436386959661 tw16669063683714237123 tw7676406854348531997 tw2405026933339531698 tw1039677911004442164 tw6751991238970543704 tw6707541153487008673 tw16755931423700844907 tw875883247911783331 tw3498495352302284808 tw4347652270648133256 tw12771950887128562142 tw12668211279850358878 tw17904266594995299599 tw3347718991068814255 tw17896002305319734200 tw7467630098002371197 tw4487778564532089545 tw17592749135862705113 tw6751135705746018344 tw17980653718222203968 tw10812106674169570736 tw4105885040732352601 tw16214542518486315082 tw7423475422712942824 tw11150404887943790383 tw1972273424322774959 tw12523821800881873639 tw15538154944522050876 tw14532005582998341909 tw15450431539452174213 tw8820665843350842427 tw16408706537778728932 tw14348047843062233038 tw6794560609279959166 tw11222061006315730123 tw13188006877072769616 tw1986672371473621545 tw11579510125743528732 tw14058123949378654644 tw1370970551233206738 tw17628136288929246877 tw16886516428318702518 tw8168319829675269849 tw9153550774510221180 tw6334835976428533496 tw3637109596436552873 tw3975005761012483279 tw5260699272291718844 tw14743197303063701139 tw4370266190473194222 tw5668228848356395417 tw7015349534893085488 tw6732572388661114500 tw6605065424222853978 tw2508121907389502808 tw18212409796197267750 tw3919806604248203787 tw5920166956577500160 tw8385099653565667180 tw13932922843098161693 tw17989760890457628221 tw18029807488110386763 tw3650090353893370826 tw16129655016520981257 tw17086367452758916630 tw4859636445351489251 tw7134758612864187015 tw2079907652286859276 tw11145202324226381201 tw1178761092072073348 tw8692262598100537102 tw4352630709436190240 tw8186379667992555381 tw16252779948185326925:True)
namespace FB
open PySem L2
theorem all_mk {l:W.OpenLaw}{w:World}{K:W.Frag}{h:Heap}{mg:Str→Option Value}{fa CB CC CL CT CF CS f1 f2 f3 f4 f5 f6 f7 f8 f9 f10 f11 f12 f13 f14 f15 f16 f17 f18 f19 f20 f21 f22 fm1 fm2 fm3 fm4 fm5 fm6 fm7 fm8 fm9 fm10 fm11 fm12 fm13 fm14 fm15 fm16 fm17 fm18 fm19 fm20 fm21 fm22 fm23 fm24 fm25 fm26 fm27 fm28 fm29 fm30 fm31 PP:Addr}(X:K.In h)(G:h.Ns mainGlobals mg)(lq:mg "law" = some (.ref fa))(U:D1 K "Board" CB)(S:W.findIn K (.ref CB) "needs" = some none)(p:W.findIn K (.ref CB) "versions" = some none)(r:D1 K "Chart" CC)(Z:W.findIn K (.ref CC) "board" = some none)(ag:W.findIn K (.ref CC) "bits" = some none)(D:W.findIn K (.ref CC) "by_bit" = some none)(x:W.findIn K (.ref CC) "of_part" = some none)(A:W.findIn K (.ref CC) "allowed" = some none)(t:W.findIn K (.ref CC) "shut_out" = some none)(al:W.findIn K (.ref CC) "foes" = some none)(B:D1 K "Ledger" CL)(ad:W.findIn K (.ref CL) "chart" = some none)(O:W.findIn K (.ref CL) "masks" = some none)(y:W.findIn K (.ref CL) "reasons" = some none)(j:W.findIn K (.ref CL) "place_by_mask" = some none)(i:W.findIn K (.ref CL) "places_by_pick" = some none)(a2:D1 K "Stand" CT)(I:W.findIn K (.ref CT) "picked" = some none)(as:W.findIn K (.ref CT) "dead" = some none)(J:W.findIn K (.ref CT) "wanted" = some none)(a0:D1 K "Fork" CF)(ah:W.findIn K (.ref CF) "part" = some none)(aa:W.findIn K (.ref CF) "stand" = some none)(a1:W.findIn K (.ref CF) "bit" = some none)(d:D1 K "Search" CS)(Y:W.findIn K (.ref CS) "chart" = some none)(F:W.findIn K (.ref CS) "ledger" = some none)(L:W.findIn K (.ref CS) "forks" = some none)(d1:oO K "clashes" pG f1)(d2:oO K "count_picks" u4 f2)(d3:oO K "worked_out" rQ f3)(d4:oO K "_law_whole" uV f4)(d5:oO K "_law_at" Ik f5)(d6:oO K "_law_version_by" Ep f6)(d7:oO K "_law_need_by" zp f7)(d8:oO K "_law_shelf_by" uZ f8)(d9:oO K "_law_start_by" py f9)(n9:oO K "_law_copy_of" zy f10)(hy:oO K "_law_needs_in" pC f11)(ns:oO K "_law_meets" r9 f12)(hp:oO K "_law_newest" rX f13)(nb:oO K "_law_is_pick" sg f14)(oa:oO K "_law_are_picks" nn f15)(l1:oO K "_law_is_line" si f16)(lm:oO K "_law_holds" pF f17)(hq:oO K "_law_lines_hold" lT f18)(lw:oO K "_law_asked_by" u5 f19)(kt:oO K "_law_barred" pE f20)(h4:oO K "_law_mixed" u1 f21)(j1:lM K CB "__init__" "Board.__init__" zu fm1)(hr:lM K CB "meeting" "Board.meeting" pD fm2)(i3:lM K CC "__init__" "Chart.__init__" so fm3)(h6:lM K CC "give_bits" "Chart.give_bits" zx fm4)(nx:lM K CC "allowed_by" "Chart.allowed_by" pH fm5)(hs:lM K CC "shut_out_by" "Chart.shut_out_by" pz fm6)(m0:lM K CC "make_foes_mutual" "Chart.make_foes_mutual" rZ fm7)(hz:lM K CC "listed" "Chart.listed" r6 fm8)(nt:lM K CL "__init__" "Ledger.__init__" r8 fm9)(cy:lM K CL "put_down" "Ledger.put_down" Er fm10)(e8:lM K CL "place_against" "Ledger.place_against" rW fm11)(cz:lM K CL "barred_with" "Ledger.barred_with" sr fm12)(ev:lM K CL "told" "Ledger.told" uW fm13)(gb:lM K CT "__init__" "Stand.__init__" rS fm14)(bq:lM K CF "__init__" "Fork.__init__" sk fm15)(c6:lM K CS "__init__" "Search.__init__" rT fm16)(ch:lM K CS "opening" "Search.opening" pB fm17)(hj:lM K CS "wanted_by" "Search.wanted_by" rR fm18)(dn:lM K CS "left" "Search.left" zr fm19)(cn:HH K CS "next_part" "Search.next_part" tK fm20 PP)(gn:lM K CS "go_on" "Search.go_on" zw fm21)(em:lM K CS "stand_behind" "Search.stand_behind" sq fm22)(c7:lM K CS "go_back" "Search.go_back" sj fm23)(hb:lM K CS "mark_dead" "Search.mark_dead" zq fm24)(fv:lM K CS "shut" "Search.shut" zo fm25)(co:lM K CS "place_of_need" "Search.place_of_need" rV fm26)(dv:lM K CS "line_against" "Search.line_against" u3 fm27)(e9:lM K CS "outside" "Search.outside" pA fm28)(e7:lM K CS "show_newest" "Search.show_newest" uX fm29)(eu:lM K CS "newer_picks" "Search.newer_picks" rY fm30)(ex:lM K CS "show_barred" "Search.show_barred" uY fm31){oc kV dc pm cd ct:Value}{od an:Option Addr}{sl:Array (Option Value)}(aL:W.nsIn K mainGlobals "law" = some (some (.ref f22)))(lL:K.lookup f22=some ⟨oc,od,.func (W.fnOf "law" "law" (hZ lU) (gr lU) (eF lU) .none kV dc pm an cd ct),sl⟩)(cL:W.codeIn K cd "law" = true)(kL:W.keepIn K (.ref f22)=true)(z1:W.nsIn K mainGlobals "len" = some none)(z2:W.nsIn K mainGlobals "range" = some none)(z3:W.nsIn K mainGlobals "list" = some none)(z4:W.nsIn K mainGlobals "tuple" = some none)(z5:W.nsIn K mainGlobals "str" = some none)(z6:W.nsIn K mainGlobals "int" = some none)(z7:W.nsIn K mainGlobals "bool" = some none)(z8:W.nsIn K mainGlobals "isinstance" = some none)(z9:W.nsIn K mainGlobals "sorted" = some none)(ba:W.nsIn K mainGlobals "reversed" = some none)(n6:W.nsIn K mainGlobals "zip" = some none)(lk:W.nsIn K mainGlobals "max" = some none)(bf:W.nsIn K mainGlobals "min" = some none)(it:W.nsIn K mainGlobals "sum" = some none)(nf:W.nsIn K mainGlobals "dict" = some none)(l6:W.nsIn K mainGlobals "enumerate" = some none):∃(fd:FuncData) (cP:Addr),W.codeHdIn K cP PP=true∧(∀(s:Shared) (v:Value),BindsTo s fd ⟨[v],[]⟩ [("_law_script",v)])∧∀base:Heap,K.In base→base.Ns mainGlobals mg→sZ mg base→eZ l.prog w K mg base ff 10 fa fd ["_law_script"] (rG K PP):=by
 have e:=lq.symm.trans (W.mg_of X G aL);cases e;have T:xm K mg:=⟨(bh X G z1),(bh X G z2),(bh X G z3),(bh X G z4),(bh X G z5),(bh X G z6),(bh X G z7),(bh X G z8),(bh X G z9),(bh X G ba)⟩;obtain⟨_,F1,b1,k1,m1⟩:=d1.u X G (ps:=["need","pick"]) fun _ _ _ _ _ _=>jY fun _ _=>rfl;obtain⟨_,F2,b2,k2,m2⟩:=d2.u X G (ps:=["mask"]) fun _ _ _ _ _ _=>lg fun _=>rfl;obtain⟨_,F3,b3,k3,m3⟩:=d3.u X G (ps:=["shelf","start"]) fun _ _ _ _ _ _=>jY fun _ _=>rfl;obtain⟨_,F4,b4,k4,m4⟩:=d4.u X G (ps:=["_law_found"]) fun _ _ _ _ _ _=>lg fun _=>rfl;obtain⟨_,F5,b5,k5,m5⟩:=d5.u X G (ps:=["_law_script","_law_k"]) fun _ _ _ _ _ _=>jY fun _ _=>rfl;obtain⟨_,F6,b6,k6,m6⟩:=d6.u X G (ps:=["_law_cell"]) fun _ _ _ _ _ _=>lg fun _=>rfl;obtain⟨_,F7,b7,k7,m7⟩:=d7.u X G (ps:=["_law_cell"]) fun _ _ _ _ _ _=>lg fun _=>rfl;obtain⟨_,F8,b8,k8,m8⟩:=d8.u X G (ps:=["_law_cells"]) fun _ _ _ _ _ _=>lg fun _=>rfl;obtain⟨_,F9,b9,k9,m9⟩:=d9.u X G (ps:=["_law_cells"]) fun _ _ _ _ _ _=>lg fun _=>rfl;obtain⟨_,nq,ne,kb,lc⟩:=n9.u X G (ps:=["_law_shelf"]) fun _ _ _ _ _ _=>lg fun _=>rfl;obtain⟨_,ls,h5,ko,h0⟩:=hy.u X G (ps:=["_law_shelf","_law_pick"]) fun _ _ _ _ _ _=>jY fun _ _=>rfl;obtain⟨_,kv,hk,hi,fk⟩:=ns.u X G (ps:=["_law_need","_law_version"]) fun _ _ _ _ _ _=>jY fun _ _=>rfl;obtain⟨_,mr,gt,g6,gh⟩:=hp.u X G (ps:=["_law_shelf","_law_need"]) fun _ _ _ _ _ _=>jY fun _ _=>rfl;obtain⟨_,lp,gk,c1,ga⟩:=nb.u X G (ps:=["_law_found"]) fun _ _ _ _ _ _=>lg fun _=>rfl;obtain⟨_,h3,gg,dx,ft⟩:=oa.u X G (ps:=["_law_found"]) fun _ _ _ _ _ _=>lg fun _=>rfl;obtain⟨_,jn,i4,kl,lv⟩:=l1.u X G (ps:=["_law_found"]) fun _ _ _ _ _ _=>lg fun _=>rfl;obtain⟨_,la,i1,n2,kf⟩:=lm.u X G (ps:=["_law_shelf","_law_start","_law_lines","_law_spot"]) fun _ _ _ _ _ _=>C8 fun _ _ _ _=>rfl;obtain⟨_,l9,na,ky,j2⟩:=hq.u X G (ps:=["_law_shelf","_law_start","_law_lines"]) fun _ _ _ _ _ _=>p0 fun _ _ _=>rfl;obtain⟨_,i2,n7,n1,np⟩:=lw.u X G (ps:=["_law_script"]) fun _ _ _ _ _ _=>lg fun _=>rfl;obtain⟨_,n5,kh,hx,ld⟩:=kt.u X G (ps:=["_law_lines","_law_known"]) fun _ _ _ _ _ _=>jY fun _ _=>rfl;obtain⟨_,k0,h7,n4,h9⟩:=h4.u X G (ps:=["_law_script"]) fun _ _ _ _ _ _=>lg fun _=>rfl;obtain⟨_,lo,hn,c3⟩:=j1.u (ps:=["self","shelf","start"]) fun _ _ _ _ _ _=>p0 fun _ _ _=>rfl;obtain⟨_,lz,lf,mq⟩:=hr.u (ps:=["self","need"]) fun _ _ _ _ _ _=>jY fun _ _=>rfl;obtain⟨_,nd,n8,go⟩:=i3.u (ps:=["self","board"]) fun _ _ _ _ _ _=>jY fun _ _=>rfl;obtain⟨_,l7,l3,kd⟩:=h6.u (ps:=["self"]) fun _ _ _ _ _ _=>lg fun _=>rfl;obtain⟨_,i0,js,nm⟩:=nx.u (ps:=["self","who"]) fun _ _ _ _ _ _=>jY fun _ _=>rfl;obtain⟨_,ny,ho,iv⟩:=hs.u (ps:=["self","who"]) fun _ _ _ _ _ _=>jY fun _ _=>rfl;obtain⟨_,n3,mc,kj⟩:=m0.u (ps:=["self"]) fun _ _ _ _ _ _=>lg fun _=>rfl;obtain⟨_,kq,nj,kw⟩:=hz.u (ps:=["self","mask"]) fun _ _ _ _ _ _=>jY fun _ _=>rfl;obtain⟨_,ka,j0,gd⟩:=nt.u (ps:=["self","chart"]) fun _ _ _ _ _ _=>jY fun _ _=>rfl;obtain⟨_,ec,dd,g7⟩:=cy.u (ps:=["self","mask","reason"]) fun _ _ _ _ _ _=>p0 fun _ _ _=>rfl;obtain⟨_,ea,bm,eq⟩:=e8.u (ps:=["self","pick","picked"]) fun _ _ _ _ _ _=>p0 fun _ _ _=>rfl;obtain⟨_,hm,ej,gw⟩:=cz.u (ps:=["self","pick","picked"]) fun _ _ _ _ _ _=>p0 fun _ _ _=>rfl;obtain⟨_,hg,g8,e1⟩:=ev.u (ps:=["self"]) fun _ _ _ _ _ _=>lg fun _=>rfl;obtain⟨_,e0,dy,a4⟩:=gb.u (ps:=["self","picked","dead","wanted"]) fun _ _ _ _ _ _=>C8 fun _ _ _ _=>rfl;obtain⟨_,he,fl,a3⟩:=bq.u (ps:=["self","part","stand"]) fun _ _ _ _ _ _=>p0 fun _ _ _=>rfl;obtain⟨_,hc,ez,a5⟩:=c6.u (ps:=["self","chart"]) fun _ _ _ _ _ _=>jY fun _ _=>rfl;obtain⟨_,a8,hl,dl⟩:=ch.u (ps:=["self"]) fun _ _ _ _ _ _=>lg fun _=>rfl;obtain⟨_,g2,fu,hd⟩:=hj.u (ps:=["self","wanted","who","picked"]) fun _ _ _ _ _ _=>C8 fun _ _ _ _=>rfl;obtain⟨_,gp,c8,da⟩:=dn.u (ps:=["self","stand","part"]) fun _ _ _ _ _ _=>p0 fun _ _ _=>rfl;obtain⟨_,_,a7,fp,ew,eh⟩:=cn.u (ps:=["self","stand"]) fun _ _ _ _ _ _=>jY fun _ _=>rfl;obtain⟨_,cv,f0,e6⟩:=gn.u (ps:=["self"]) fun _ _ _ _ _ _=>lg fun _=>rfl;obtain⟨_,g1,fy,e3⟩:=em.u (ps:=["self","fork"]) fun _ _ _ _ _ _=>jY fun _ _=>rfl;obtain⟨_,fr,bx,c0⟩:=c7.u (ps:=["self","place"]) fun _ _ _ _ _ _=>jY fun _ _=>rfl;obtain⟨_,c2,dp,bl⟩:=hb.u (ps:=["self","bit","place"]) fun _ _ _ _ _ _=>p0 fun _ _ _=>rfl;obtain⟨_,ha,e2,ed⟩:=fv.u (ps:=["self","fork","known"]) fun _ _ _ _ _ _=>p0 fun _ _ _=>rfl;obtain⟨_,bv,gx,cc⟩:=co.u (ps:=["self","who","part"]) fun _ _ _ _ _ _=>p0 fun _ _ _=>rfl;obtain⟨_,ep,g0,c5⟩:=dv.u (ps:=["self","pick"]) fun _ _ _ _ _ _=>jY fun _ _=>rfl;obtain⟨_,g4,hh,ds⟩:=e9.u (ps:=["self","who","pick"]) fun _ _ _ _ _ _=>p0 fun _ _ _=>rfl;obtain⟨_,eb,bd,hf⟩:=e7.u (ps:=["self","picked"]) fun _ _ _ _ _ _=>jY fun _ _=>rfl;obtain⟨_,ey,a9,fx⟩:=eu.u (ps:=["self","fork"]) fun _ _ _ _ _ _=>jY fun _ _=>rfl;obtain⟨_,ei,et,fo⟩:=ex.u (ps:=["self","pick","kept","forks"]) fun _ _ _ _ _ _=>C8 fun _ _ _ _=>rfl;have hw:=nJ (st:=lU) lL cL kL;refine⟨W.fnOf "law" "law" (hZ lU) (gr lU) (eF lU) .none kV dc pm an cd ct,_,eh,fun s v=>.of_eq rfl,fun base _ _ is=>?_⟩;have q:TB K mg CB:=⟨U.c,S,p,W.mg_of X G U.a,(bh X G z3),(bh X G z9)⟩;have b:TC K mg CC:=⟨r.c,Z,ag,D,x,A,t,al,(bh X G z9),(bh X G lk),(bh X G bf),(bh X G it)⟩;have o:TL K mg CL:=⟨B.c,ad,O,y,j,i,(bh X G z1),(bh X G n6)⟩;have C:Df K mg CT:=⟨a2.c,I,as,J⟩;have m:Bw K mg CF:=⟨a0.c,ah,aa,a1⟩;have g:tw K mg CS:=⟨d.c,Y,F,L,(bh X G nf),(bh X G bf),(bh X G z3),(bh X G l6),(bh X G ba)⟩;have cl:=vp (P:=l.prog) (w:=w) (mg:=mg) (base:=base) F1;have ek:=An (P:=l.prog) (w:=w) (mg:=mg) (base:=base) F2;have ma:xo l.prog w K mg base CB ff 1 "Board" ["self","shelf","start"] (rH CB):=⟨W.mg_of X G U.a,_,_,⟨U.mk_,c3.at_,c3.fn,U.kc⟩,Am lo q,hn⟩;have a6:Mt l.prog w K mg base CB ff 2 "meeting" ["self","need"] (jS CB):=⟨U.c,_,_,vo lz q cl b1 k1 m1,lf,mq⟩;have R:Mt l.prog w K mg base CC ff 1 "listed" ["self","mask"] (iZ CC):=⟨r.c,_,_,x5 kq b,nj,kw⟩;have ks:Mt l.prog w K mg base CC ff 1 "give_bits" ["self"] (uS CB CC):=⟨r.c,_,_,CJ l7 b q,l3,kd⟩;have mp:Mt l.prog w K mg base CC ff 3 "allowed_by" ["self","who"] (nh CB CC):=⟨r.c,_,_,vq i0 b q a6,js,nm⟩;have kn:Mt l.prog w K mg base CC ff 1 "shut_out_by" ["self","who"] (mZ CC):=⟨r.c,_,_,vh ny b,ho,iv⟩;have ly:Mt l.prog w K mg base CC ff 2 "make_foes_mutual" ["self"] (oY CC):=⟨r.c,_,_,x3 n3 b R,mc,kj⟩;have hu:xo l.prog w K mg base CC ff 4 "Chart" ["self","board"] (ph CB CC):=⟨W.mg_of X G r.a,_,_,⟨r.mk_,go.at_,go.fn,r.kc⟩,yd nd b q ks mp kn ly,n8⟩;have mt:xo l.prog w K mg base CL ff 1 "Ledger" ["self","chart"] (oZ CL):=⟨W.mg_of X G B.a,_,_,⟨B.mk_,gd.at_,gd.fn,B.kc⟩,x6 ka o,j0⟩;have cx:Mt l.prog w K mg base CL ff 2 "put_down" ["self","mask","reason"] (we CB CC CL):=⟨B.c,_,_,EE ec o R,dd,g7⟩;have h2:Mt l.prog w K mg base CL ff 1 "place_against" ["self","pick","picked"] (oV CB CC CL):=⟨B.c,_,_,xY ea o b,bm,eq⟩;have le:Mt l.prog w K mg base CL ff 1 "barred_with" ["self","pick","picked"] (pj CB CC CL):=⟨B.c,_,_,yf hm o,ej,gw⟩;have kp:Mt l.prog w K mg base CL ff 2 "told" ["self"] (rn CB CC CL):=⟨B.c,_,_,Af hg o R,g8,e1⟩;have g9:xo l.prog w K mg base CT ff 1 "Stand" ["self","picked","dead","wanted"] (mo CT):=⟨W.mg_of X G a2.a,_,_,⟨a2.mk_,a4.at_,a4.fn,a2.kc⟩,xV e0 C,dy⟩;have nk:xo l.prog w K mg base CF ff 1 "Fork" ["self","part","stand"] (pf CF):=⟨W.mg_of X G a0.a,_,_,⟨a0.mk_,a3.at_,a3.fn,a0.kc⟩,yc he m,fl⟩;have mu:xo l.prog w K mg base CS ff 3 "Search" ["self","chart"] (oU CL CS):=⟨W.mg_of X G d.a,_,_,⟨d.mk_,a5.at_,a5.fn,d.kc⟩,xW hc g mt,ez⟩;have es:Mt l.prog w K mg base CS ff 1 "left" ["self","stand","part"] (rF CB CC CS CT):=⟨d.c,_,_,CH gp g b C,c8,da⟩;have c9:Mt l.prog w K mg base CS ff 2 "wanted_by" ["self","wanted","who","picked"] (mn CB CC CS):=⟨d.c,_,_,xU g2 g b ek b2 k2 m2,fu,hd⟩;have e5:Mt l.prog w K mg base CS ff 1 "place_of_need" ["self","who","part"] (mw CB CC CS):=⟨d.c,_,_,xX bv g b q,gx,cc⟩;have h8:Mt l.prog w K mg base CS ff 3 "outside" ["self","who","pick"] (nc CB CC CL CS):=⟨d.c,_,_,vi g4 g b q cl b1 k1 m1 cx,hh,ds⟩;have cp:Mt l.prog w K mg base CS ff 4 "line_against" ["self","pick"] (mx CB CC CL CS CF CT):=⟨d.c,_,_,CG ep g b C m h8 R h2,g0,c5⟩;have c4:Mt l.prog w K mg base CS ff 5 "shut" ["self","fork","known"] (rp CB CC CL CS CF CT):=⟨d.c,_,_,Cy ha g b o q C m e5 a6 cp cx,e2,ed⟩;have e4:Mt l.prog w K mg base CS ff 1 "mark_dead" ["self","bit","place"] (rE CB CC CL CS CF CT):=⟨d.c,_,_,CD c2 g o C m,dp,bl⟩;have kk:Mt l.prog w K mg base CS ff 2 "go_back" ["self","place"] (pe CB CC CL CS CF CT):=⟨d.c,_,_,yb fr g o m e4,bx,c0⟩;have nl:Mt l.prog w K mg base CS ff 3 "stand_behind" ["self","fork"] (pi CB CC CL CS CF CT):=⟨d.c,_,_,ye g1 g b C m le c9 g9,fy,e3⟩;have kx:Mt l.prog w K mg base CS ff 3 "opening" ["self"] (ng CB CC CL CS CT):=⟨d.c,_,_,vm a8 g b c9 g9,hl,dl⟩;have h1:Mt l.prog w K mg base CS ff 6 "go_on" ["self"] (uR CB CC CL CS CF CT):=⟨d.c,_,_,CI cv g b m R es nl c4 kk,f0,e6⟩;have l0:Mt l.prog w K mg base CS ff 5 "next_part" ["self","stand"] (uP CB CC CS CT y8 yo PP):=⟨d.c,_,_,Cz a7 eh is g b C ek b2 k2 m2 es,fp,ew⟩;have mb:Mt l.prog w K mg base CS ff 3 "newer_picks" ["self","fork"] (rC CB CC CS CF CT):=⟨d.c,_,_,Aj ey g b q m e5 a6,a9,fx⟩;have hv:Mt l.prog w K mg base CS ff 6 "show_barred" ["self","pick","kept","forks"] (rB CB CC CL CS CF CT):=⟨d.c,_,_,Ah ei g b o m cp c4 e4,et,fo⟩;have ih:Mt l.prog w K mg base CS ff 7 "show_newest" ["self","picked"] (rA CB CC CL CS CF CT):=⟨d.c,_,_,Ag eb g b m mb hv,bd,hf⟩;have WO:=xT F3 g C ma hu mu nk kx l0 h1 kp ih R;have V:=ED (P:=l.prog) (w:=w) (mg:=mg) (base:=base) F6;have N:=CA F7 V b6 k6 m6;have M:=x4 (P:=l.prog) (w:=w) (mg:=mg) (base:=base) kv;have SB:=vg F9 N b7 k7 m7;have NI:=vn (P:=l.prog) (w:=w) (mg:=mg) (base:=base) ls;have AT:=Gm (P:=l.prog) (w:=w) (base:=base) F5 T;have SH:=Ai F8 T V b6 k6 m6 N b7 k7 m7;have NW:=xZ mr T M hk hi fk;have HO:=ya la T NI h5 ko h0 M hk hi fk NW gt g6 gh;have WH:=Ae (P:=l.prog) (w:=w) (base:=base) F4 T;have IP:=x8 lp T WH b4 k4 m4;have AP:=tQ h3 T IP gk c1 ga;have IL:=x9 jn T AP gg dx ft IP gk c1 ga WH b4 k4 m4;have g5:Gd l.prog w K mg base ff 9 "_law_at" ["_law_script","_law_k"] (BY K):=⟨_,_,(AT).mono (by decide),b5,k5,m5⟩;have l2:Gd l.prog w K mg base ff 9 "_law_asked_by" ["_law_script"] (rL K):=⟨_,_,(Ao i2 SH b8 k8 m8 SB b9 k9 m9 AT b5 k5 m5).mono (by decide),n7,n1,np⟩;have ms:Gd l.prog w K mg base ff 9 "_law_copy_of" ["_law_shelf"] rK:=⟨_,_,(CK nq T).mono (by decide),ne,kb,lc⟩;have l4:Gd l.prog w K mg base ff 9 "_law_mixed" ["_law_script"] (rD K):=⟨_,_,(Ak k0 T).mono (by decide),h7,n4,h9⟩;have lx:Gd l.prog w K mg base ff 9 "_law_lines_hold" ["_law_shelf","_law_start","_law_lines"] jx:=⟨_,_,(sC l9 T IL i4 kl lv (HO.mono (by decide)) i1 n2 kf).mono (by decide),na,ky,j2⟩;have ht:Gd l.prog w K mg base ff 9 "_law_are_picks" ["_law_found"] jj:=⟨_,_,(AP).mono (by decide),gg,dx,ft⟩;have n0:Gd l.prog w K mg base ff 9 "_law_newest" ["_law_shelf","_law_need"] oX:=⟨_,_,(NW.imp fun vs H Q E z=>Go vs H Q E z).mono (by decide),gt,g6,gh⟩;have mm:Gd l.prog w K mg base ff 9 "_law_barred" ["_law_lines","_law_known"] ou:=⟨_,_,(Al n5).mono (by decide),kh,hx,ld⟩;have g3:Gd l.prog w K mg base ff 9 "worked_out" ["shelf","start"] (ml PP):=⟨_,_,(WO).mono (by decide),b3,k3,m3⟩;exact EF hw T g5 l2 ms l4 lx ht n0 mm g3
theorem walk {l:W.OpenLaw}{q:Program}{loose:List Str}{XP:(Str→Option Value)→Heap→Prop}{YP:World→Heap→Prop}{d:DefRec}{K:Params→W.Frag}{PP:Addr}(hn:l.most=some 63)(hdf:d.params.defaults=[])(hY:∀(w:World) (h:Heap),YP w h→(K w.params).In h)(hY2:∀(w:World) (h:Heap),YP w h→h.get? PP=some (W.tabObj #[]))(hKP:∀w:World,(K w.params).lookup PP=none)(F:∀(w:World) (mg:Str→Option Value) (fa:Addr) (h:Heap),(K w.params).In h→h.Ns mainGlobals mg→mg d.name=some (.ref fa)→∃(fd:FuncData) (cP:Addr),W.codeHdIn (K w.params) cP PP=true∧(∀(s:Shared) (u:Value),BindsTo s fd ⟨[u],[]⟩ [("_law_script",u)])∧∀base:Heap,(K w.params).In base→base.Ns mainGlobals mg→sZ mg base→eZ l.prog w (K w.params) mg base ff 10 fa fd ["_law_script"] (rG (K w.params) PP)):W.WalkO q loose XP YP l.row.toRowW d [] (fun f vs=>PySem.call f vs):=
 yX (n:=63) (k:=10) (x:="_law_script") (sp:=fun w=>rG (K w.params) PP) hn (by decide) hdf ⟨rfl,by decide,by decide⟩ hY hY2 hKP F fun _ _ a ns hl hS hP=>⟨a,ns,rfl,hS,hl,.inl hP,fun _=>rfl⟩
end FB
open PySem PySem.W PyProof.Rows
set_option maxRecDepth 100000 in
set_option maxHeartbeats 0 in
theorem PySem.Challenge.cw_fitboard_k07_whole_none_newer_holds : PySem.Challenge.rw_fitboard_k07_whole_none_newer.Holds := by
 w_on;o_law;k_head;(case hw=>w_witness2)
 k_fill
 refine FB.walk (l:=PySem.Challenge.rw_fitboard_k07_whole_none_newer) rfl rfl (fun w h Y=>W.km_in_of Y) (fun w h Y=>W.km_tabs_of Y _ (List.Mem.head _)) (fun w=>by kernel_rfl) ?F
 case F=>
  intro w mg fa h KX G hmg;refine' FB.all_mk KX G hmg ⟨?_,?_,?_,?_,?_,?_,?_⟩ ?_ ?_ ⟨?_,?_,?_,?_,?_,?_,?_⟩ ?_ ?_ ?_ ?_ ?_ ?_ ?_ ⟨?_,?_,?_,?_,?_,?_,?_⟩ ?_ ?_ ?_ ?_ ?_ ⟨?_,?_,?_,?_,?_,?_,?_⟩ ?_ ?_ ?_ ⟨?_,?_,?_,?_,?_,?_,?_⟩ ?_ ?_ ?_ ⟨?_,?_,?_,?_,?_,?_,?_⟩ ?_ ?_ ?_ (.mk ?_ ?_ ?_ ?_) (.mk ?_ ?_ ?_ ?_) (.mk ?_ ?_ ?_ ?_) (.mk ?_ ?_ ?_ ?_) (.mk ?_ ?_ ?_ ?_) (.mk ?_ ?_ ?_ ?_) (.mk ?_ ?_ ?_ ?_) (.mk ?_ ?_ ?_ ?_) (.mk ?_ ?_ ?_ ?_) (.mk ?_ ?_ ?_ ?_) (.mk ?_ ?_ ?_ ?_) (.mk ?_ ?_ ?_ ?_) (.mk ?_ ?_ ?_ ?_) (.mk ?_ ?_ ?_ ?_) (.mk ?_ ?_ ?_ ?_) (.mk ?_ ?_ ?_ ?_) (.mk ?_ ?_ ?_ ?_) (.mk ?_ ?_ ?_ ?_) (.mk ?_ ?_ ?_ ?_) (.mk ?_ ?_ ?_ ?_) (.mk ?_ ?_ ?_ ?_) (.mk ?_ ?_ ?_ ?_ ?_) (.mk ?_ ?_ ?_ ?_ ?_) (.mk ?_ ?_ ?_ ?_ ?_) (.mk ?_ ?_ ?_ ?_ ?_) (.mk ?_ ?_ ?_ ?_ ?_) (.mk ?_ ?_ ?_ ?_ ?_) (.mk ?_ ?_ ?_ ?_ ?_) (.mk ?_ ?_ ?_ ?_ ?_) (.mk ?_ ?_ ?_ ?_ ?_) (.mk ?_ ?_ ?_ ?_ ?_) (.mk ?_ ?_ ?_ ?_ ?_) (.mk ?_ ?_ ?_ ?_ ?_) (.mk ?_ ?_ ?_ ?_ ?_) (.mk ?_ ?_ ?_ ?_ ?_) (.mk ?_ ?_ ?_ ?_ ?_) (.mk ?_ ?_ ?_ ?_ ?_) (.mk ?_ ?_ ?_ ?_ ?_) (.mk ?_ ?_ ?_ ?_ ?_) (.mk ?_ ?_ ?_ ?_ ?_) (.mk ?_ ?_ ?_ ?_ ?_ ?_) (.mk ?_ ?_ ?_ ?_ ?_) (.mk ?_ ?_ ?_ ?_ ?_) (.mk ?_ ?_ ?_ ?_ ?_) (.mk ?_ ?_ ?_ ?_ ?_) (.mk ?_ ?_ ?_ ?_ ?_) (.mk ?_ ?_ ?_ ?_ ?_) (.mk ?_ ?_ ?_ ?_ ?_) (.mk ?_ ?_ ?_ ?_ ?_) (.mk ?_ ?_ ?_ ?_ ?_) (.mk ?_ ?_ ?_ ?_ ?_) (.mk ?_ ?_ ?_ ?_ ?_) ?_ ?_ ?_ ?_ ?_ ?_ ?_ ?_ ?_ ?_ ?_ ?_ ?_ ?_ ?_ ?_ ?_ ?_ ?_ ?_
  all_goals try first | k_is | k_exc | kernel_rfl
