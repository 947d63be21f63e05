import PyProof.Rows.All
import Wide.All
import OpenK.AllK
import Wide.FinOn
import PyProof.EqAt
import PyProof.EqKinds
import PyProof.TupleCall
import KE.KMinKey
import KE.KSortTup
import PyProof.EqLayable
import Lean
import PySem.Challenge.RW_fitboard_k06_whole_choice_or_none
set_option Elab.async false
set_option linter.all false
set_option maxRecDepth 100000
section
open PySem PySem.Spec PyProof.Rows
abbrev ab:=@List.length_map
abbrev ac:=@wpAny_bind
abbrev ae:=@List.getElem?_map
abbrev af:=@List.getElem?_eq_some_iff
abbrev ai:=@List.mem_singleton
abbrev aj:=@List.getElem?_eq_getElem
abbrev ak:=@List.mem_of_getElem?
abbrev am:=@List.mem_cons
abbrev ao:=@decide_eq_true
abbrev aq:=@Nat.le_refl
abbrev ar:=@wpAny_pure
abbrev au:=@decide_eq_false
abbrev av:=@List.mem_map
abbrev aw:=@Option.map_eq_some_iff
abbrev ax:=@decide_eq_true_eq
abbrev ay:=@List.map_append
abbrev az:=@List.mem_iff_getElem?
abbrev aA:=@List.length_cons
abbrev aB:=@List.mem_append
abbrev aC:=@Heap.get?_push_of_some
abbrev aD:=@Bool.and_eq_true
abbrev aE:=@List.map_cons
abbrev aF:=@List.length_append
abbrev aG:=@List.filter_cons
abbrev aH:=@List.take_length
abbrev aI:=@List.getElem?_append_left
abbrev aJ:=@List.not_mem_nil
abbrev aK:=@Bool.false_ne_true
abbrev aM:=@List.mem_append_right
abbrev aN:=@Heap.lt_size
abbrev aO:=@List.size_toArray
abbrev aP:=@Heap.get?_push_size
abbrev aQ:=@List.mem_append_left
abbrev aR:=@of_decide_eq_true
abbrev aS:=@List.length_take
abbrev aT:=@List.length_singleton
abbrev aU:=@Nat.ne_of_lt
abbrev aV:=@List.nodup_cons
abbrev aW:=@List.mem_filter
abbrev aX:=@List.lookup_cons
abbrev aY:=@Nat.lt_of_lt_of_le
abbrev aZ:=@List.getElem?_append_right
abbrev bb:=@List.getD_eq_getElem?_getD
abbrev bc:=@List.all_eq_true
abbrev be:=@boot_isinstance
abbrev bg:=@List.take_succ
abbrev bh:=@List.mem_map_of_mem
abbrev bi:=@List.mem_cons_of_mem
abbrev bj:=@Heap.get?_none_of_le
abbrev bn:=@W.mg_none_of
abbrev bo:=@Nat.zero_le
abbrev bp:=@List.find?_cons
abbrev br:=@Array.length_toList
abbrev bt:=@PySem.mem_of_lookup
abbrev bu:=@PySem.boot_len
abbrev bw:=@Nat.le_trans
abbrev bz:=@List.idxOf_lt_length_iff
abbrev bA:=@Int.toNat_natCast
abbrev bB:=@List.mem_cons_self
abbrev bD:=@List.length_filter_le
abbrev bE:=@Array.getElem?_toList
abbrev bF:=@wpAny_holding
abbrev bI:=@wpAny_Call_Name_kw
abbrev bJ:=@Nat.lt_of_le_of_lt
abbrev bK:=@wpAny_dictEpoch
abbrev bM:=@Nat.two_pow_pos
abbrev bN:=@List.length_eq_zero_iff
abbrev bO:=@List.append_assoc
abbrev bQ:=@Bool.not_eq_true'
abbrev bR:=@wpAny_truthy_bool
abbrev bS:=@Nat.sub_self
abbrev bU:=@List.nodup_append
abbrev bV:=@Bool.eq_false_iff
abbrev bY:=@List.nodup_nil
abbrev bZ:=@Bool.false_and
abbrev b0:=@wpAny_mono
abbrev ca:=@List.mem_of_find?_eq_some
abbrev cb:=@Nat.not_lt_zero
abbrev cc:=@List.getElem?_take
abbrev ce:=@List.filter_append
abbrev cf:=@Bool.false_eq_true
abbrev cg:=@wpAny_call_entry
abbrev ci:=@wpAny_rule
abbrev cj:=@List.getElem?_inj
abbrev ck:=@sizeLine_eq
abbrev cm:=@List.length_reverse
abbrev cq:=@List.append_nil
abbrev cr:=@Array.getD_eq_getD_getElem?
abbrev cu:=@List.mem_reverse
abbrev cw:=@List.getElem_idxOf
abbrev cA:=@Bool.true_and
abbrev cB:=@Array.getElem?_eq_getElem
abbrev cC:=@List.pairwise_map
abbrev cD:=@Nat.le_of_lt
abbrev cE:=@Nat.le_of_eq
abbrev cF:=@List.map_map
abbrev cG:=@Nat.testBit_two_pow_mul
abbrev cH:=@Nat.lt_irrefl
abbrev cJ:=@List.reverse_append
abbrev cK:=@List.map_take
abbrev cM:=@wpAny_typeNameOfWhole_keyiter
abbrev cN:=@boot_list
abbrev cO:=@List.cons_append
abbrev cQ:=@Int.emod_lt_of_pos
abbrev cR:=@wpAny_passesOwn
abbrev cS:=@Nat.pow_succ
abbrev cT:=@List.map_nil
abbrev cU:=@Heap.get?_update_self
abbrev cV:=@Bool.or_eq_true
abbrev cW:=@Bool.eq_iff_iff
abbrev cX:=@wpAny_dictEntries
abbrev cY:=@List.reverse_cons
abbrev cZ:=@Heap.get?_push_ne
abbrev db:=@Nat.mul_le_mul_right
abbrev de:=@List.reverse_reverse
abbrev df:=@List.dropLast_concat
abbrev dg:=@List.take_zero
abbrev dh:=@wpAny_forIn_list
abbrev di:=@Nat.lt_succ_self
abbrev dj:=@Nat.le_add_right
abbrev dk:=@wpAny_typeNameOf_keyiter
abbrev dm:=@Nat.lt_or_ge
abbrev dq:=@wpAny_ite_split
abbrev dr:=@wpAny_callSpecial?_slot
abbrev dt:=@tupleKind_room_in1
abbrev du:=@W.kia_one
abbrev dw:=@Int.emod_nonneg
abbrev dz:=@wpAny_Call_method
abbrev dA:=@Nat.lt_succ_of_lt
abbrev dB:=@Nat.le_succ
abbrev dC:=@wpAny_tryCatch
abbrev dD:=@wpAny_notOrdered_dict
abbrev dE:=@W.kia_tup
abbrev dF:=@List.getElem?_eq_none
abbrev dG:=@List.any_eq_true
abbrev dH:=@Heap.size_update
abbrev dJ:=@List.mem_of_mem_take
abbrev dL:=@List.nil_append
abbrev dM:=@Nat.eq_zero_or_pos
abbrev dO:=@Nat.add_sub_cancel
abbrev dP:=@List.find?_eq_none
abbrev dQ:=@List.getElem?_zip_eq_some
abbrev dR:=@List.drop_eq_getElem_cons
abbrev dU:=@Heap.size_push
abbrev dW:=@wpAny_newObj_type
abbrev dX:=@boot_tuple
abbrev dY:=@List.take_sublist
end
namespace L2
open PySem PySem.Spec PyProof.Rows
variable {A:Around}{C a b dx:Addr}{CX:xS}{D:mZ}{E Q:Value→Shared→Prop}{H H':Hp}{K:W.Frag}{M:Model}{P:Program}{X:Cx}{body:List Stmt}{ch fp:List Addr}{e tg:Expr}{es:List Expr}{fd:FuncData}{g:TG}{h h':Heap}{i j t':Nat}{kw:List (Str×Value)}{m x:Str}{mA mg:Str→Option Value}{o:HO}{op:CmpOp}{p pos pos':Pos}{pins:List (Addr×Obj)}{pl:Sem Bool}{ps:List Str}{r:R2}{s s':Shared}{sp:Sp}{t:TA}{ta te:TE}{tb:TS}{us:List Value}{v y:V}{vs xs:List V}{w:World}{σ:St}
abbrev gv:=Sum Int Str
def qP:gv→Value→Bool
 |.inl k,v=>Value.isInt k v
 |.inr x,v=>Value.isStrOf x v
def Jh (w:World):gv→Int
 |.inl k=>hashInt k
 |.inr x=>hashStr w x
theorem gH:∀{k:gv} {v:Value},qP k v=true→(∃i t,k=Sum.inl i∧v=Value.int i t)∨(∃x t,k=Sum.inr x∧v=Value.str x t)
 |.inl i,v,h=>by
  obtain⟨t,e⟩:=Value.isInt_shape (k:=i) (v:=v) h;exact .inl ⟨i,t,rfl,e⟩
 |.inr x,v,h=>by
  obtain⟨t,e⟩:=Value.isStrOf_shape (x:=x) (v:=v) h;exact .inr ⟨x,t,rfl,e⟩
theorem yN (i:Int)(t:Tok):qP (.inl i) (.int i t)=true:=by simp[qP,Value.isInt]
theorem yM (x:Str)(t:Tok):qP (.inr x) (.str x t)=true:=by simp[qP,Value.isStrOf]
theorem FA (a b:Int):decide ((Sum.inl a:gv)=Sum.inl b)=(a == b):=by
 by_cases e:a=b
 ·subst e;simp
 ·have h:¬(Sum.inl a:gv)=Sum.inl b:=fun q=>e (Sum.inl.inj q);rw[au h];exact(beq_eq_false_iff_ne.mpr e).symm
theorem Fx (a b:Str):decide ((Sum.inr a:gv)=Sum.inr b)=decide (a=b):=by
 by_cases e:a=b
 ·subst e;simp
 ·have h:¬(Sum.inr a:gv)=Sum.inr b:=fun q=>e (Sum.inr.inj q);rw[au h,au e]
theorem Fz (a:Int)(b:Str):decide ((Sum.inl a:gv)=Sum.inr b)=false:=au (fun q=>nomatch q)
theorem Fy (a:Str)(b:Int):decide ((Sum.inr a:gv)=Sum.inl b)=false:=au (fun q=>nomatch q)
def fE (prog:Program)(w:World):PySem.KeyKind prog w gv where
 is:=qP
 hash:=Jh w
 inj:=fun v a b ha hb=>by
  rcases gH ha with ⟨i,t,rfl,rfl⟩ | ⟨x,t,rfl,rfl⟩
  ·rcases gH hb with ⟨j,u,rfl,e⟩ | ⟨y,u,rfl,e⟩
   ·injection e with e1 _;rw[e1]
   ·exact nomatch e
  ·rcases gH hb with ⟨j,u,rfl,e⟩ | ⟨y,u,rfl,e⟩
   ·exact nomatch e
   ·injection e with e1 _;rw[e1]
 byValue:=fun k v h=>by
  rcases gH h with ⟨i,t,rfl,rfl⟩ | ⟨x,t,rfl,rfl⟩ <;> rfl
 pyHash:=fun hv h=>by
  rcases gH hv with ⟨i,t,rfl,rfl⟩ | ⟨x,t,rfl,rfl⟩
  ·exact wpAny_pyHash_int h
  ·exact wpAny_pyHash_str h
 eqBool:=fun hu hv h=>by
  rcases gH hu with ⟨i,t,rfl,rfl⟩ | ⟨x,t,rfl,rfl⟩
  ·rcases gH hv with ⟨j,u,rfl,rfl⟩ | ⟨y,u,rfl,rfl⟩
   ·rw[FA]at h;exact wpAny_eqBool_int h
   ·rw[Fz]at h;exact SeqAt.EqAt.int_str i t y u _ _ _ _ h
  ·rcases gH hv with ⟨j,u,rfl,rfl⟩ | ⟨y,u,rfl,rfl⟩
   ·rw[Fy]at h;exact SeqAt.EqAt.str_int x t j u _ _ _ _ h
   ·rw[Fx]at h;exact wpAny_eqBool_str h
 «strs»:=fun k x t v h=>by
  rcases gH h with ⟨i,u,rfl,e⟩ | ⟨y,u,rfl,e⟩
  ·exact nomatch e
  ·injection e with e1 _
   subst e1;cases v <;> rfl
theorem uh (prog:Program)(w:World)(i:Int)(t:Tok):(fE prog w).is (.inl i) (.int i t)=true:=yN i t
theorem ug (prog:Program)(w:World)(x:Str)(t:Tok):(fE prog w).is (.inr x) (.str x t)=true:=yM x t
inductive V where
 |non | bl (b:Bool) | int (i:Int) | str (x:Str) | byt (b:Array UInt8) | flt (b:UInt64) | ref (a:Addr) | ty (n:String)
 deriving DecidableEq
def eY:V→Value→Prop
 |.non,u=>u=Value.none
 |.bl b,u=>u=Value.bool b
 |.int i,u=>∃t,u=Value.int i t
 |.str x,u=>∃t,u=Value.str x t
 |.byt b,u=>∃t,u=Value.bytes b t
 |.flt b,u=>∃t,u=Value.float b t
 |.ref a,u=>u=Value.ref a
 |.ty n,u=>u=Value.type n
abbrev fN:List V→List Value→Prop:=Paired eY
theorem fN.length (r:fN xs us):xs.length=us.length:=Paired.length r
theorem fN.get:∀{xs:List V} {us:List Value} {i:Nat} {x:V},fN xs us→xs[i]?=some x→∃u,us[i]?=some u∧eY x u
 |_,_,_,_,.nil,e=>by simp at e
 |_,_,0,_,.cons r _,e=>by simp at e;subst e;exact⟨_,rfl,r⟩
 |_,_,i+1,x,.cons _ t,e=>by
  obtain⟨u,h1,h2⟩:=fN.get (i:=i) (x:=x) t (by simpa using e);exact⟨u,by simpa using h1,h2⟩
theorem fN.append:∀{xs ys:List V} {us ws:List Value},fN xs us→fN ys ws→fN (xs++ys) (us++ws)
 |_,_,_,_,.nil,s=>s
 |_,_,_,_,.cons r t,s=>.cons r (fN.append t s)
theorem fN.take:∀{xs:List V} {us:List Value} (n:Nat),fN xs us→fN (xs.take n) (us.take n)
 |_,_,0,_=>.nil
 |_,_,_+1,.nil=>.nil
 |_,_,n+1,.cons r t=>.cons r (fN.take n t)
theorem fN.drop:∀{xs:List V} {us:List Value} (n:Nat),fN xs us→fN (xs.drop n) (us.drop n)
 |_,_,0,r=>r
 |_,_,_+1,.nil=>.nil
 |_,_,n+1,.cons _ t=>fN.drop n t
def jx:Option V→Option Value→Prop
 |some v,some u=>eY v u
 |none,none=>True
 |_,_=>False
def KV {κ:Type}:List (κ×V)→List (κ×Value)→Prop:=Paired fun(p:κ×V) (q:κ×Value)=>p.1=q.1∧eY p.2 q.2
def kV:gv→V
 |.inl i=>.int i
 |.inr x=>.str x
inductive HO where
  |lst (xs:List V)
  |tup (xs:List V)
  |dK (kvs:List (gv×V)) | dT (kvs:List (List gv×V)) | dN (kvs:List (Option (List gv)×V))
  |set (S:Int→Bool) (n:Nat)
  |ins (C dx:Addr) (fs:List (Str×V))
  |own (x:Addr)
  |xd (fs:List (Str×V))
  |met (f x:Addr)
  |rng (lo hi:Int)
  |frz (o:Obj) (u:HO)
  |tbl (ps:Array Value)
  |ext (φ:Heap→Prop)
abbrev Hp:=Addr→Option HO
abbrev fM:=Option (List gv)
def wu (H:Hp):fM→Value→Prop
 |none,u=>u=.none
 |some ks,u=>∃b,u=.ref b∧H b=some (.tup (ks.map kV))
def lU (P:Program)(w:World):fM→Int
 |none=>W.hashW w.params .none
 |some ks=>(tupleKind (fE P w)).hash ks
def uu (P:Program)(w:World)(x:fM×Value×Value):DictEntry:=⟨lU P w x.1,x.2.1,x.2.2⟩
abbrev BW (H:Hp):List (fM×V)→List (fM×Value×Value)→Prop:=Paired fun p q=>p.1=q.1∧wu H p.1 q.2.1∧eY p.2 q.2.2
def upd (H:Hp)(a:Addr)(o:HO):Hp:=fun b=>if b=a then some o else H b
theorem d0:upd H a o a=some o:=by unfold upd;rw[if_pos rfl]
theorem ef (h:b≠a):upd H a o b=H b:=by unfold upd;rw[if_neg h]
theorem i8 {u:HO}:upd (upd H a o) a u=upd H a u:=by
 funext b;unfold upd;split <;> rfl
theorem fC {u:HO}(h:H a=some o)(h':H b=some u)(d:o≠u):a≠b:=by
 intro e;subst e;rw[h]at h';exact d (Option.some.inj h')
theorem er (h:H a=some o)(h':H b=none):a≠b:=by
 intro e;subst e;rw[h]at h';cases h'
section
variable (P:Program)(w:World)
def fH (H:Hp)(h:Heap)(a:Addr):HO→Prop
 |.lst xs=>xs.length≤sizeLine∧∃(its:List Value) (n:Nat),fN xs its∧h.get? a=some {cls:=.type "list",data:=.seq its.toArray n}
 |.tup xs=>xs.length≤sizeLine∧∃its:List Value,fN xs its∧IsTup h a its.toArray
 |.dK kvs=>kvs.length≤sizeLine∧(a == sysModules)=false∧∃vs,KV kvs vs∧h.DictOf (fE P w) a vs
 |.dT kvs=>kvs.length≤sizeLine∧(a == sysModules)=false∧∃xs:List (List gv×Addr×Value),
   Paired (fun(p:List gv×V) (q:List gv×Addr×Value)=>p.1=q.1∧H q.2.1=some (.tup (p.1.map kV))∧eY p.2 q.2.2) kvs xs∧
   ∃o es ep,h.get? a=some o∧o.ExactDict∧o.data=.dict es ep∧es.toList=xs.map (entryOfKey (tupleKind (fE P w)))∧(xs.map (·.1)).Nodup
 |.dN kvs=>kvs.length≤sizeLine∧(a == sysModules)=false∧∃xs,BW H kvs xs∧∃o es ep,h.get? a=some o∧o.ExactDict∧o.data=.dict es ep∧es.toList=xs.map (uu P w)∧(xs.map (·.1)).Nodup
 |.set S n=>h.SetOf (intKind P w) a S n
 |.ins C dx fs=>H dx=some (.own a)∧fs.length≤1000∧dx≠a∧h.get? a=some (W.instObj C dx)∧
   ∃mA,h.Ns1 dx mA∧(∀f,jx (fs.lookup f) (mA f))∧PySem.Within mA (fs.map (·.1))
 |.own _=>∃o,h.get? a=some o
 |.xd fs=>∃mA,h.Ns1 a mA∧∀f,jx (fs.lookup f) (mA f)
 |.rng lo hi=>∃t u v,h.get? a=some {cls:=.type "range",data:=.fields #[.int lo t,.int hi u,.int 1 v]}
 |.frz o u=>h.get? a=some o∧fH H h a u
 |.tbl ps=>h.get? a=some {cls:=.none,data:=.fields ps}
 |.met f x=>h.get? a=some (W.methodObj (.ref f) (.ref x))
 |.ext φ=>φ h∧(∃o,h.get? a=some o)∧∀h1 h2:Heap,φ h1→(∀o,h1.get? a=some o→h2.get? a=some o)→φ h2
def lK (H:Hp)(h:Heap):Prop:=∀a o,H a=some o→fH P w H h a o
end
theorem fH.lt (x:fH P w H h a o):a<h.objs.size:=by
 cases o with
 |lst xs=>obtain⟨_,_,_,_,e⟩:=x;exact aN e
 |tup xs=>obtain⟨_,_,_,p⟩:=x;exact p.lt
 |dK kvs=>obtain⟨_,_,_,_,o,_,_,e,_⟩:=x;exact aN e
 |dT kvs=>obtain⟨_,_,_,_,o,_,_,e,_⟩:=x;exact aN e
 |dN kvs=>obtain⟨_,_,_,_,o,_,_,e,_⟩:=x;exact aN e
 |set S n=>obtain⟨o,_,_,_,e,_⟩:=x;exact aN e
 |ins C dx fs=>obtain⟨_,_,_,e,_⟩:=x;exact aN e
 |own y=>obtain⟨_,e⟩:=x;exact aN e
 |xd fs=>obtain⟨_,⟨_,_,_,e,_⟩,_⟩:=x;exact aN e
 |rng lo hi=>obtain⟨_,_,_,e⟩:=x;exact aN e
 |frz ob u=>obtain⟨e,_⟩:=x;exact aN e
 |tbl ps=>exact aN (show h.get? a=some _ from x)
 |met f y=>exact aN (show h.get? a=some _ from x)
 |ext φ=>obtain⟨_,⟨_,e⟩,_⟩:=x;exact aN e
theorem Paired.Kg {α β:Type}{F G:α→β→Prop}:∀{l₁:List α} {l₂:List β},Paired F l₁ l₂→(∀a b,F a b→G a b)→Paired G l₁ l₂
 |_,_,.nil,_=>.nil
 |_,_,.cons r t,f=>.cons (f _ _ r) (Paired.Kg t f)
theorem fH.Kh (x:fH P w H h a o)(k:∀b u,(b=a∨H b=some (.own a))→h.get? b=some u→h'.get? b=some u)(s:∀b,H b=some (.own a)→H' b=some (.own a))(l:∀b xs,H b=some (.tup xs)→H' b=some (.tup xs)):fH P w H' h' a o:=by
 induction o with
 |lst xs=>obtain⟨z,i,n,r,e⟩:=x;exact⟨z,i,n,r,k _ _ (.inl rfl) e⟩
 |tup xs=>obtain⟨z,i,r,g,e,c⟩:=x;exact⟨z,i,r,g,k _ _ (.inl rfl) e,c⟩
 |dK kvs=>obtain⟨z,y,vs,r,g,es,ep,e,c⟩:=x;exact⟨z,y,vs,r,g,es,ep,k _ _ (.inl rfl) e,c⟩
 |dT kvs=>
  obtain⟨z,y,xs,r,g,es,ep,e,c⟩:=x;exact⟨z,y,xs,Paired.Kg r fun p q z=>⟨z.1,l _ _ z.2.1,z.2.2⟩,g,es,ep,k _ _ (.inl rfl) e,c⟩
 |dN kvs=>
  obtain⟨z,y,xs,r,g,es,ep,e,c⟩:=x;refine⟨z,y,xs,Paired.Kg r fun p q z=>⟨z.1,?_,z.2.2⟩,g,es,ep,k _ _ (.inl rfl) e,c⟩;obtain⟨m,p2⟩:=p;cases m with
  |none=>exact z.2.1
  |some ks=>obtain⟨b,A,B⟩:=z.2.1;exact⟨b,A,l _ _ B⟩
 |set S n=>obtain⟨g,es,ep,t,e,c⟩:=x;exact⟨g,es,ep,t,k _ _ (.inl rfl) e,c⟩
 |ins C dx fs=>
  obtain⟨d,z,D,e,mA,⟨j,es,ep,E,c⟩,r⟩:=x;exact⟨s _ d,z,D,k _ _ (.inl rfl) e,mA,⟨j,es,ep,k _ _ (.inr d) E,c⟩,r⟩
 |own y=>obtain⟨g,e⟩:=x;exact⟨g,k _ _ (.inl rfl) e⟩
 |xd fs=>obtain⟨mA,⟨j,es,ep,e,c⟩,r⟩:=x;exact⟨mA,⟨j,es,ep,k _ _ (.inl rfl) e,c⟩,r⟩
 |rng lo hi=>obtain⟨t,u,v,e⟩:=x;exact⟨t,u,v,k _ _ (.inl rfl) e⟩
 |frz g u ih=>obtain⟨e,q⟩:=x;exact⟨k _ _ (.inl rfl) e,ih q⟩
 |tbl ps=>
  have e:h.get? a=some {cls:=.none,data:=.fields ps}:=x;show h'.get? a=some {cls:=.none,data:=.fields ps};exact k a _ (.inl rfl) e
 |met f y=>
  have e:h.get? a=some (W.methodObj (.ref f) (.ref y)):=x;show h'.get? a=some (W.methodObj (.ref f) (.ref y));exact k a _ (.inl rfl) e
 |ext φ=>obtain⟨p,⟨o,e⟩,st⟩:=x;exact⟨st _ _ p fun o q=>k _ _ (.inl rfl) q,⟨o,k _ _ (.inl rfl) e⟩,st⟩
theorem lK.lt (x:lK P w H h)(e:H a=some o):a<h.objs.size:=(x a o e).lt
theorem lK.fresh (x:lK P w H h)(e:h.objs.size≤a):H a=none:=by
 cases q:H a with
 |none=>rfl
 |some u=>exact absurd (aY (x.lt q) e) (cH _)
theorem lK.kept (x:lK P w H h)(k:∀b u,h.get? b=some u→h'.get? b=some u):lK P w H h':=fun a o e=>
 (x a o e).Kh (fun b u _ q=>k b u q) (fun _ q=>q) fun _ _ q=>q
theorem lK.laid (x:lK P w H h)(k:∀b u,h.get? b=some u→h'.get? b=some u)(hp:h.objs.size≤a)(new:fH P w (upd H a o) h' a o):lK P w (upd H a o) h':=fun b u e=>by
 have hn:=x.fresh hp;by_cases hb:b=a
 ·subst hb;rw[d0]at e;cases e;exact new
 ·rw[ef hb]at e;exact(x b u e).Kh (fun c v _ q=>k c v q) (fun c q=>by rw[ef (er q hn)];exact q) fun c xs q=>by rw[ef (er q hn)];exact q
def Rd (H:Hp)(a:Addr)(u:HO):Prop:=H a=some u∨∃o,H a=some (.frz o u)
theorem Rd.ok {u:HO}(r:Rd H a u)(x:lK P w H h):fH P w H h a u:=by
 rcases r with r | ⟨o,r⟩
 ·exact x a u r
 ·obtain⟨_,q⟩:=x a _ r;exact q
def HK:Option HO→Prop
 |some (.lst _)=>True
 |some (.dK _)=>True
 |some (.dT _)=>True
 |some (.dN _)=>True
 |some (.set _ _)=>True
 |some (.ins _ _ _)=>True
 |some (.ext _)=>True
 |_=>False
section
variable {x e:Addr}{o':HO}
theorem lK.write (ok:lK P w H h)(a:HK (H x))(g:e=x∨H e=some (.own x))(k:∀b u,b≠e→h.get? b=some u→h'.get? b=some u)(d:∃u,h'.get? e=some u)(new:fH P w (upd H x o') h' x o'):lK P w (upd H x o') h':=fun b u q=>by
 have nown:∀c y,H c=some (.own y)→c≠x:=fun c y r z=>by subst z;rw[r]at a;exact a
 have ntup:∀c xs,H c=some (.tup xs)→c≠x:=fun c xs r z=>by subst z;rw[r]at a;exact a
 by_cases hb:b=x
 ·subst hb;rw[d0]at q;cases q;exact new
 ·rw[ef hb]at q;by_cases hbe:b=e
  ·have q':H b=some (.own x):=by
    rcases g with z | z
    ·exact absurd (hbe.trans z) hb
    ·rw[hbe];exact z
   rw[q]at q';cases q';obtain⟨v,i⟩:=d;exact⟨v,by rw[hbe];exact i⟩
  ·refine(ok b u q).Kh (fun c v hc r=>k c v ?_ r) (fun c r=>by rw[ef (nown c b r)];exact r) fun c xs r=>by rw[ef (ntup c xs r)];exact r
   rcases hc with rfl | hc
   ·exact hbe
   ·rintro rfl;rcases g with z | z
    ·exact nown c b hc z
    ·rw[hc]at z;cases z;exact hb rfl
end
structure Un (fs ex:List Addr)(H H':Hp)(h h':Heap):Prop where
 keep:∀b o,h.get? b=some o→H b=none→b∉fs→b∉ex→h'.get? b=some o
 slot:∀b o,h.get? b=some o→H b=none→b∈fs→b∉ex→∃sl,h'.get? b=some {o with slots:=sl}
 free:∀b o,h.get? b=some o→H b=none→b∉ex→H' b=none
 there:∀b o,h.get? b=some o→b∉ex→∃o',h'.get? b=some o'
 tups:∀b xs,H b=some (.tup xs)→H' b=some (.tup xs)
 frzs:∀b o u,H b=some (.frz o u)→H' b=some (.frz o u)
 tbls:∀b ps,H b=some (.tbl ps)→∃more,H' b=some (.tbl (ps++more))
section
variable {fs fs' ex ex':List Addr}{H1 H2:Hp}{h1 h2:Heap}{x e:Addr}
theorem Un.any (u:Un fs ex H H1 h h1){ob:Obj}(q:h.get? b=some ob)(n:H b=none)(a:b∉ex):∃sl,h1.get? b=some {ob with slots:=sl}:=by
 by_cases hb:b∈fs
 ·exact u.slot b ob q n hb a
 ·exact⟨ob.slots,u.keep b ob q n hb a⟩
theorem Un.kept (k:∀b u,h.get? b=some u→h'.get? b=some u):Un fs ex H H h h':=
 ⟨fun b ob q _ _ _=>k b ob q,fun b ob q _ _ _=>⟨ob.slots,k b ob q⟩,fun _ _ _ n _=>n,fun b ob q _=>⟨ob,k b ob q⟩,fun _ _ q=>q,fun _ _ _ q=>q,fun _ ps q=>⟨#[],by rw[q];simp⟩⟩
theorem Un.refl:Un fs ex H H h h:=Un.kept fun _ _ q=>q
theorem Un.laid (k:∀b u,h.get? b=some u→h'.get? b=some u)(hp:h.objs.size≤a)(hn:H a=none):Un fs ex H (upd H a o) h h' where
 keep:=fun b u q _ _ _=>k b u q
 slot:=fun b u q _ _ _=>⟨u.slots,k b u q⟩
 free:=fun b u q n _=>by rw[ef (aU (aY (aN q) hp))];exact n
 there:=fun b u q _=>⟨u,k b u q⟩
 tups:=fun b xs q=>by rw[ef (er q hn)];exact q
 frzs:=fun b u xs q=>by rw[ef (er q hn)];exact q
 tbls:=fun b ps q=>⟨#[],by rw[ef (er q hn),q];simp⟩
theorem Un.write (a:HK (H x))(l:e=x∨H e=some (.own x))(k:∀b u,b≠e→h.get? b=some u→h'.get? b=some u)(g:∃u,h'.get? e=some u):Un fs ex H (upd H x o) h h':=by
 have j:∀b,H b=none→b≠x:=fun b n z=>by subst z;rw[n]at a;exact a
 have i:∀b,H b=none→b≠e:=fun b n z=>by
  subst z;rcases l with r | r
  ·exact j b n r
  ·rw[n]at r;cases r
 have d:∀b u,H b=some u→¬HK (some u)→b≠x:=fun b u q nm z=>by subst z;rw[q]at a;exact nm a
 refine⟨fun b u q n _ _=>k b u (i b n) q,fun b u q n _ _=>⟨u.slots,k b u (i b n) q⟩,fun b u q n _=>by rw[ef (j b n)];exact n,fun b u q _=>?_,
  fun b xs q=>by rw[ef (d b _ q fun z=>z)];exact q,fun b u xs q=>by rw[ef (d b _ q fun z=>z)];exact q,fun b ps q=>⟨#[],by rw[ef (d b _ q fun z=>z),q];simp⟩⟩
 by_cases hbe:b=e
 ·subst hbe;exact g
 ·exact⟨u,k b u hbe q⟩
end
def Id (h:Heap)(H:Hp):List Addr:=(List.range h.objs.size).filter fun a=>(H a).isSome
def qv (h:Heap)(H:Hp):Heap:=W.hideAll h (Id h H)
theorem yQ (h:Heap)(H:Hp):(qv h H).objs.size=h.objs.size:=W.hideAll_size _ _
theorem Bf {o:Obj}(e:h.get? b=some o)(n:H b=none):(qv h H).get? b=some o:=
 W.hideAll_get _ e fun hm=>by
  have q:(H b).isSome=true:=(aW.mp hm).2;rw[n]at q;simp at q
theorem Df {o:Obj}(e:(qv h H).get? b=some o):h.get? b=some o∧H b=none:=by
 have a:h.get? b=some o:=W.of_hideAll (Id h H) e;refine⟨a,?_⟩;cases q:H b with
 |none=>rfl
 |some x=>
  have d:b∈Id h H:=aW.mpr ⟨List.mem_range.mpr (aN a),by simp[q]⟩;have z:(qv h H).get? b=none:=W.hideAll_none (Id h H) d;rw[z]at e;cases e
structure Mod (K:W.Frag)(mg:Str→Option Value)(base:Heap):Prop where
 kin:K.In base
 glob:base.Ns mainGlobals mg
 blt:∃mb,base.Ns builtinsNs mb∧∀x:Str,x≠"__name__"→mb x=bootBuiltins x
 nolimit:base.NoLimit
structure Cx where
 prog:Program
 w:World
 K:W.Frag
 mg:Str→Option Value
 base:Heap
 A:Around
 N:List Str
 s₀:Shared
 H₀:Hp
 env:Env
 outer:List Env
 stack:List Env
 ex:List Addr
 fn:Str→Bool
 calm:Bool
 pn:List (Addr×Obj)
 xe:Value→Shared→Prop
def Bk (l:List Env):List Addr:=l.filterMap (·.frame)
abbrev Cx.fs (X:Cx):List Addr:=Bk X.outer
def D3 (sc:Scope)(x:Str):Prop:=sc.names.lookup x=some .local∨sc.names.lookup x=some .cell∨sc.names.lookup x=some .free
def HN (sc:Scope)(x:Str):Prop:=sc.names.lookup x=some .local∨sc.names.lookup x=some .cell
def Ju (env:Env)(h:Heap)(m:Str→Option Value)(x:Str)(u:Value):Prop:=
 (env.kindOf x=some .local∧m x=some u)∨((env.kindOf x=some .cell∨env.kindOf x=some .free)∧∃c,env.cells.lookup x=some c∧h.IsCell c (some u))
structure Cx.Ok (X:Cx):Prop where
 mod:Mod X.K X.mg X.base
 kind:X.env.scope.kind=.function
 glob:X.env.globals=mainGlobals
 blt:X.env.builtins=builtinsNs
 above:X.s₀.heap.objs.size≤X.env.locals
 inj:∀x y c,X.env.cells.lookup x=some c→X.env.cells.lookup y=some c→x=y
 has:∀x,(X.env.kindOf x=some .cell∨X.env.kindOf x=some .free)→∃c,X.env.cells.lookup x=some c
 cab:∀x c,X.fn x=true→X.env.cells.lookup x=some c→X.s₀.heap.objs.size≤c
 hd:X.calm=true→X.A.handled=none
 frames:X.A.frames=some X.stack
 stk:X.stack=X.outer∨(X.stack=X.env::X.outer∧X.env.frame=some X.env.locals)
 exf:∀b∈X.ex,b≠X.env.locals∧∀x c,X.env.cells.lookup x=some c→c≠b
 bs:∀b o,X.base.get? b=some o→X.s₀.heap.get? b=some o∧X.H₀ b=none
 bsz:X.base.objs.size≤X.s₀.heap.objs.size
 noex:∀b o,X.base.get? b=some o→b∉X.ex
 exfs:∀b∈X.ex,b∉X.fs
 funs:X.s₀.heap.FunFrames X.base X.outer
 frf:∀b∈X.fs,X.H₀ b=none
structure eU (X:Cx)(pins:List (Addr×Obj))(σ:List (Option V))(H:Hp)(s:Shared):Prop where
 ok:X.Ok
 os:s.os=X.s₀.os
 bare:AllBare s.gens
 base:Un X.fs X.ex X.H₀ H X.s₀.heap s.heap
 loc:∃m,s.heap.Ns X.env.locals m∧∀(i:Nat) (x:Str) (v:V),X.N[i]?=some x→σ[i]?=some (some v)→D3 X.env.scope x→∃u,eY v u∧Ju X.env s.heap m x u
 cell:∀x c,X.env.cells.lookup x=some c→∃v,s.heap.IsCell c v
 free:H X.env.locals=none
 freeC:∀x c,X.env.cells.lookup x=some c→H c=none
 pin:∀p∈X.pn++pins,s.heap.get? p.1=some p.2∧H p.1=none∧p.1≠X.env.locals∧p.1∉X.fs∧∀v,p.2.data≠.cell v
 hok:lK X.prog X.w H s.heap
 len:σ.length=X.N.length
section
variable {σ:List (Option V)}
theorem Cx.Ok.Ki (ok:X.Ok){o:Obj}(e:X.base.get? b=some o):b∉X.fs:=fun hb=>by
 have:=(ok.funs.mem hb).1;rw[e]at this;cases this
theorem eU.bs (I:eU X pins σ H s):∀b o,X.base.get? b=some o→s.heap.get? b=some o∧H b=none:=fun b o e=>
 ⟨I.base.keep b o (I.ok.bs b o e).1 (I.ok.bs b o e).2 (I.ok.Ki e) (I.ok.noex b o e),I.base.free b o (I.ok.bs b o e).1 (I.ok.bs b o e).2 (I.ok.noex b o e)⟩
theorem eU.bk (I:eU X pins σ H s):∀b o,X.base.get? b=some o→s.heap.get? b=some o:=fun b o e=>(I.bs b o e).1
theorem eU.mod (I:eU X pins σ H s):Mod X.K X.mg X.base:=I.ok.mod
theorem eU.kIn (I:eU X pins σ H s):X.K.In s.heap:=I.ok.mod.kin.keeps I.bk
theorem eU.nolimit (I:eU X pins σ H s):s.heap.NoLimit:=I.ok.mod.nolimit.keeps I.bk
theorem eU.lt (I:eU X pins σ H s):X.env.locals<s.heap.objs.size:=(by obtain⟨_,hn,_⟩:=I.loc;exact hn.lt)
theorem eU.sz (I:eU X pins σ H s):X.s₀.heap.objs.size≤s.heap.objs.size:=bw I.ok.above (cD I.lt)
theorem eU.Kj (I:eU X pins σ H s)(h:s.heap.objs.size≤a):a∉X.fs:=fun hb=>by
 obtain⟨_,o,ho,_⟩:=I.ok.funs.mem hb;exact absurd (aY (aN ho) (bw I.sz h)) (cH _)
theorem eU.cne (I:eU X pins σ H s):∀x c,X.env.cells.lookup x=some c→c≠X.env.locals:=fun x c e z=>by
 obtain⟨v,o,ho,hd⟩:=I.cell x c e;obtain⟨m,⟨o',es,ep,ho',hd',_⟩,_⟩:=I.loc;rw[z,ho']at ho;cases ho;rw[hd']at hd;cases hd
theorem eU.funs (I:eU X pins σ H s):s.heap.FunFrames X.base X.outer:=by
 have all:∀(l:List Env),(∀b∈Bk l,b∈X.fs)→X.s₀.heap.FunFrames X.base l→s.heap.FunFrames X.base l:=by
  intro l
  induction l with
  |nil=>intro _ _;trivial
  |cons env r ih=>
   intro h m;obtain⟨t,⟨L,o,a,q,j,i⟩,p⟩:=m;have g:L∈X.fs:=h L (by unfold Bk;rw[List.filterMap_cons,a];exact bB);obtain⟨v,e⟩:=I.base.slot L o j (I.ok.frf L g) g fun z=>I.ok.exfs L z g;exact⟨t,⟨L,_,a,q,e,i⟩,ih (fun b d=>h b (by unfold Bk;rw[List.filterMap_cons,a];exact bi _ d)) p⟩
 exact all X.outer (fun _ d=>d) I.ok.funs
theorem eU.stack (I:eU X pins σ H s):s.heap.FunFrames X.base X.stack:=by
 rcases I.ok.stk with e | ⟨e,a⟩
 ·rw[e];exact I.funs
 ·rw[e];obtain⟨m,b,_⟩:=I.loc;refine .cons (by rw[I.ok.kind];decide) a b ?_ I.funs;exact bj (bw I.ok.bsz I.ok.above)
theorem eU.Kk (I:eU X pins σ H s):∀b∈Bk X.stack,b∈X.env.locals::X.fs:=fun b hb=>by
 rcases I.ok.stk with e | ⟨e,hf⟩
 ·rw[e]at hb;exact bi _ hb
 ·rw[e]at hb;unfold Bk at hb;rw[List.filterMap_cons,hf]at hb;exact hb
theorem eU.Kl (I:eU X pins σ H s):∀b∈Bk X.stack,H b=none:=fun b hb=>by
 rcases am.mp (I.Kk b hb) with e | hb
 ·rw[e];exact I.free
 ·obtain⟨_,o,ho,_⟩:=I.ok.funs.mem hb;exact I.base.free b o ho (I.ok.frf b hb) fun z=>I.ok.exfs b z hb
theorem eU.step {g':Array GenState}{d':Drawn}(I:eU X pins σ H s)(j:∀b∈ch,(b∈X.ex∨X.s₀.heap.get? b=none)∧b≠X.env.locals∧(∀x c,X.env.cells.lookup x=some c→c≠b)∧∀p∈X.pn++pins,p.1≠b)(keep:∀b o,b≠X.env.locals→b∉X.fs→b∉ch→s.heap.get? b=some o→H b=none→h'.get? b=some o)(slot:∀b o,b≠X.env.locals→b∈X.fs→b∉ch→s.heap.get? b=some o→H b=none→∃sl,h'.get? b=some {o with slots:=sl})(free:∀b o,b∉ch→s.heap.get? b=some o→H b=none→H' b=none)(there:∀b o,b∉ch→s.heap.get? b=some o→∃o',h'.get? b=some o')(tups:∀b xs,H b=some (.tup xs)→H' b=some (.tup xs))(frzs:∀b o u,H b=some (.frz o u)→H' b=some (.frz o u))(tbls:∀b ps,H b=some (.tbl ps)→∃more,H' b=some (.tbl (ps++more)))(ns:∀m,s.heap.Ns X.env.locals m→h'.Ns X.env.locals m)(F:lK X.prog X.w H' h')(M:AllBare g'):eU X pins σ H' {s with heap:=h',gens:=g',drawn:=d',toks:=t'}:=by
 have C:∀b o,X.s₀.heap.get? b=some o→b≠X.env.locals:=fun b o e=>aU (aY (aN e) I.ok.above);have t:∀b o,X.s₀.heap.get? b=some o→b∉X.ex→b∉ch:=fun b o e a A=>by
  rcases (j b A).1 with z | z
  ·exact a z
  ·rw[e]at z;cases z
 have g:∀x c,X.env.cells.lookup x=some c→∀v,s.heap.IsCell c v→h'.IsCell c v:=fun x c e v ⟨o,B,E⟩=>by
  have h:c∉ch:=fun z=>(j c z).2.2.1 x c e rfl;by_cases hc:c∈X.fs
  ·obtain⟨sl,q⟩:=slot c o (I.cne x c e) hc h B (I.freeC x c e);exact⟨_,q,E⟩
  ·exact⟨o,keep c o (I.cne x c e) hc h B (I.freeC x c e),E⟩
 refine⟨I.ok,I.os,M,⟨fun b o e n A a=>?_,fun b o e n A a=>?_,fun b o e n a=>?_,fun b o e a=>?_,fun b xs e=>tups b xs (I.base.tups b xs e),fun b o xs e=>frzs b o xs (I.base.frzs b o xs e),fun b ps e=>?_⟩,?_,fun x c e=>?_,?_,fun x c e=>?_,fun p hp=>?_,F,I.len⟩
 ·exact keep b o (C b o e) A (t b o e a) (I.base.keep b o e n A a) (I.base.free b o e n a)
 ·obtain⟨sl,y⟩:=I.base.slot b o e n A a;obtain⟨G,D⟩:=slot b _ (C b o e) A (t b o e a) y (I.base.free b o e n a);exact⟨G,D⟩
 ·obtain⟨o',y⟩:=I.base.there b o e a;exact free b o' (t b o e a) y (I.base.free b o e n a)
 ·obtain⟨o',y⟩:=I.base.there b o e a;exact there b o' (t b o e a) y
 ·obtain⟨O,y⟩:=I.base.tbls b ps e;obtain⟨L,D⟩:=tbls b _ y;exact⟨O++L,by rw[D,Array.append_assoc]⟩
 ·obtain⟨m,P,N⟩:=I.loc;refine⟨m,ns m P,fun i x v y D Q=>?_⟩;obtain⟨u,r,l⟩:=N i x v y D Q;refine⟨u,r,?_⟩;rcases l with l | ⟨k,c,e,z⟩
  ·exact .inl l
  ·exact .inr ⟨k,c,e,g x c e _ z⟩
 ·obtain⟨v,z⟩:=I.cell x c e;exact⟨v,g x c e v z⟩
 ·obtain⟨m,⟨o,_,_,B,_⟩,_⟩:=I.loc;exact free _ o (fun z=>(j _ z).2.1 rfl) B I.free
 ·obtain⟨v,o,B,E⟩:=I.cell x c e;exact free c o (fun z=>(j c z).2.2.1 x c e rfl) B (I.freeC x c e)
 ·obtain⟨e,n,J,K,d⟩:=I.pin p hp;have h:p.1∉ch:=fun z=>(j p.1 z).2.2.2 p hp rfl;exact⟨keep p.1 p.2 J K h e n,free p.1 p.2 h e n,J,K,d⟩
theorem eU.un (I:eU X pins σ H s)(u:Un X.fs [] H H' s.heap h')(g:lK X.prog X.w H' h'):eU X pins σ H' {s with heap:=h',toks:=t'}:=by
 obtain⟨m,⟨o,es,ep,j,r⟩,_⟩:=id I.loc;obtain⟨t,q⟩:=u.any j I.free (by simp)
 exact I.step (g':=s.gens) (d':=s.drawn) (ch:=[]) (fun _ z=>nomatch z) (fun b o _ d _ e n=>u.keep b o e n d (by simp)) (fun b o _ d _ e n=>u.slot b o e n d (by simp)) (fun b o _ e n=>u.free b o e n (by simp)) (fun b o _ e=>u.there b o e (by simp)) u.tups u.frzs u.tbls (fun m' p=>by
  obtain⟨o',i,h,a,l⟩:=p;rw[j]at a;cases a
  exact⟨_,i,h,q,l⟩) g I.bare
theorem eU.call {g':Array GenState}{d':Drawn}(I:eU X pins σ H s)(u:Un (Bk X.stack) ch H H' s.heap h')(h:lK X.prog X.w H' h')(y:AllBare g')(g:∀b∈ch,(b∈X.ex∨X.s₀.heap.get? b=none)∧b≠X.env.locals∧(∀x c,X.env.cells.lookup x=some c→c≠b)∧∀p∈X.pn++pins,p.1≠b):eU X pins σ H' {s with heap:=h',gens:=g',drawn:=d',toks:=t'}:=by
 obtain⟨m,⟨o,es,ep,q,r⟩,_⟩:=id I.loc;obtain⟨B,j⟩:=u.any q I.free fun z=>(g _ z).2.1 rfl
 exact I.step (ch:=ch) g (fun b o j v a e n=>u.keep b o e n (fun z=>(am.mp (I.Kk b z)).elim j v) a) (fun b o _ _ a e n=>u.any e n a) (fun b o a e n=>u.free b o e n a) (fun b o a e=>u.there b o e a) u.tups u.frzs u.tbls (fun m' A=>by
  obtain⟨o',l,i,d,t⟩:=A;rw[q]at d;cases d
  exact⟨_,l,i,j,t⟩) h y
theorem eU.turned {it:Addr}(I:eU X pins σ H s)(k:∀b o,b≠it→s.heap.get? b=some o→h'.get? b=some o)(l:H it=none)(g:it≠X.env.locals)(h1:it∈X.ex∨X.s₀.heap.get? it=none)(h2:∀x c,X.env.cells.lookup x=some c→c≠it)(j:∀p∈X.pn++pins,p.1≠it):eU X pins σ H {s with heap:=h',toks:=t'}:=by
 have d:∀b u,H b=some u→b≠it:=fun b u e z=>by rw[z,l]at e;cases e
 refine I.step (g':=s.gens) (d':=s.drawn) (ch:=[it]) (fun b i=>?_) (fun b o _ _ a e _=>k b o (fun z=>a (by simp[z])) e) (fun b o _ _ a e _=>⟨o.slots,k b o (fun z=>a (by simp[z])) e⟩) (fun _ _ _ _ n=>n)
  (fun b o a e=>⟨o,k b o (fun z=>a (by simp[z])) e⟩) (fun _ _ e=>e) (fun _ _ _ e=>e) (fun b ps e=>⟨#[],by rw[e];simp⟩) (fun m t=>?_) (fun b u e=>?_) I.bare
 ·have e:b=it:=by simpa using i
  subst e;exact⟨h1,g,h2,j⟩
 ·obtain⟨o,es,ep,h,r⟩:=t;exact⟨o,es,ep,k _ o (Ne.symm g) h,r⟩
 ·refine(I.hok b u e).Kh (fun c v a q=>k c v ?_ q) (fun _ q=>q) fun _ _ q=>q;rcases a with z | z
  ·rw[z];exact d b u e
  ·exact d c _ z
theorem eU.tok (I:eU X pins σ H s)(t:Nat):eU X pins σ H {s with toks:=t}:=I.un (h':=s.heap) (t':=t) Un.refl I.hok
theorem eU.kept (I:eU X pins σ H s)(k:∀b u,s.heap.get? b=some u→h'.get? b=some u):eU X pins σ H {s with heap:=h',toks:=t'}:=I.un (Un.kept k) (I.hok.kept k)
theorem eU.laid (I:eU X pins σ H s)(k:∀b u,s.heap.get? b=some u→h'.get? b=some u)(hp:s.heap.objs.size≤a)(new:fH X.prog X.w (upd H a o) h' a o):eU X pins σ (upd H a o) {s with heap:=h',toks:=t'}:=I.un (Un.laid k hp (I.hok.fresh hp)) (I.hok.laid k hp new)
theorem eU.write {x e:Addr}(I:eU X pins σ H s)(mu:HK (H x))(he:e=x∨H e=some (.own x))(k:∀b u,b≠e→s.heap.get? b=some u→h'.get? b=some u)(heo:∃u,h'.get? e=some u)(new:fH X.prog X.w (upd H x o) h' x o):eU X pins σ (upd H x o) {s with heap:=h',toks:=t'}:=I.un (Un.write mu he k heo) (I.hok.write mu he k heo new)
theorem eU.weak {σ':List (Option V)}(I:eU X pins σ H s)(hl:σ'.length=σ.length)(w:∀(i:Nat) v,σ'[i]?=some (some v)→σ[i]?=some (some v)):eU X pins σ' H s:=
 ⟨I.ok,I.os,I.bare,I.base,(by obtain⟨m,hn,hl'⟩:=I.loc;exact⟨m,hn,fun i x v e1 e2 e3=>hl' i x v e1 (w i v e2) e3⟩),I.cell,I.free,I.freeC,I.pin,I.hok,hl.trans I.len⟩
theorem eU.Km {pins':List (Addr×Obj)}(I:eU X pins σ H s)(h:∀p∈pins',s.heap.get? p.1=some p.2∧H p.1=none∧p.1≠X.env.locals∧p.1∉X.fs∧∀v,p.2.data≠.cell v):eU X pins' σ H s:=
 ⟨I.ok,I.os,I.bare,I.base,I.loc,I.cell,I.free,I.freeC,fun p hp=>(aB.mp hp).elim (fun z=>I.pin p (aQ _ z)) (h p),I.hok,I.len⟩
theorem ud {N:List Str}(e:N.Nodup)(a:N[i]?=some x)(b:N[j]?=some x):i=j:=by
 obtain⟨h1,d⟩:=af.mp a;obtain⟨h2,g⟩:=af.mp b;exact(List.getElem_inj e).mp (d.trans g.symm)
theorem xW {u:Value}{Q:Unit→Shared→Prop}(I:eU X pins σ H s)(hN:X.N.Nodup)(hi:X.N[i]?=some x)(B:HN X.env.scope x)(r:eY v u)(h:∀s',eU X pins (σ.set i (some v)) H s'→(∃a,Heap.SameBut a s.heap s'.heap∧(a=X.env.locals∨X.env.cells.lookup x=some a))→Q () s')(hf:X.fn x=true∨X.env.scope.names.lookup x=some .local:=by first | exact .inl rfl | exact .inr rfl | assumption):wpAny M A (storeName X.env x u) Q E s:=by
 obtain⟨m,hn,hl⟩:=id I.loc;have P:(X.env.scope.kind == .class||(X.env.scope.kind == .module&&X.env.locals != X.env.globals))=false:=by rw[I.ok.kind];rfl
 have O:i<σ.length:=by rw[I.len];exact(af.mp hi).1
 have cne:=I.cne;have l:∀{a:Addr} {h':Heap},(∃o,s.heap.get? a=some o∧H a=none)→Heap.SameBut a s.heap h'→lK X.prog X.w H h':=fun {a h'} ha g b ob e=>by
  obtain⟨_,_,C⟩:=ha;refine(I.hok b ob e).Kh (fun c R hc q=>(g.2 c ?_).trans q) (fun _ q=>q) fun _ _ q=>q;rintro rfl;rcases hc with rfl | hc
  ·rw[C]at e;cases e
  ·rw[C]at hc;cases hc
 rcases B with hk | hk
 ·refine wpAny_storeName_local hk hn (fun h' aa g=>?_) P;obtain⟨oL,_,_,ad,_⟩:=id hn;refine h _ ⟨I.ok,I.os,I.bare,⟨fun b o e n F B=>?_,fun b o e n F B=>?_,I.base.free,fun b o e B=>?_,I.base.tups,I.base.frzs,I.base.tbls⟩,⟨_,aa,fun j y U t D e3=>?_⟩,fun y c e=>?_,I.free,I.freeC,fun p hp=>?_,l ⟨oL,ad,I.free⟩ g,by simpa using I.len⟩ ⟨_,g,.inl rfl⟩
  ·exact(g.2 b (aU (aY (aN e) I.ok.above))).trans (I.base.keep b o e n F B)
  ·obtain⟨Y,t⟩:=I.base.slot b o e n F B;exact⟨Y,(g.2 b (aU (aY (aN e) I.ok.above))).trans t⟩
  ·obtain⟨o',t⟩:=I.base.there b o e B;exact⟨o',(g.2 b (aU (aY (aN e) I.ok.above))).trans t⟩
  ·by_cases hj:j=i
   ·subst hj;rw[hi]at t;cases t;rw[List.getElem?_set_self O]at D;cases D;exact⟨u,r,.inl ⟨hk,by simp⟩⟩
   ·rw[List.getElem?_set_ne (Ne.symm hj)]at D;obtain⟨Z,T,q⟩:=hl j y U t D e3;refine⟨Z,T,?_⟩;rcases q with ⟨k,e⟩ | ⟨k,c,e,z⟩
    ·refine .inl ⟨k,?_⟩;have:y≠x:=fun e=>hj (ud hN t (e▸hi));simp[this,e]
    ·exact .inr ⟨k,c,e,z.sameBut g (cne y c e)⟩
  ·obtain⟨R,z⟩:=I.cell y c e;exact⟨R,z.sameBut g (cne y c e)⟩
  ·obtain⟨e,n,S,nf,d⟩:=I.pin p hp;exact⟨(g.2 p.1 S).trans e,n,S,nf,d⟩
 ·have G:X.fn x=true:=by
   rcases hf with z | z
   ·exact z
   ·rw[z]at hk;cases hk
  obtain⟨c,hc⟩:=I.ok.has x (.inl hk);obtain⟨R,z⟩:=I.cell x c hc;refine wpAny_storeName_cell I.ok.kind hk hc z (fun h' L g=>?_);obtain⟨oc,J,K⟩:=id z;refine h {s with heap:=h'} ⟨I.ok,I.os,I.bare,⟨fun b o e n F B=>?_,fun b o e n F B=>?_,I.base.free,fun b o e B=>?_,I.base.tups,I.base.frzs,I.base.tbls⟩,⟨m,hn.sameBut g (Ne.symm (cne x c hc)),fun j y U t D e3=>?_⟩,fun y c' e=>?_,I.free,I.freeC,fun p hp=>?_,l ⟨oc,J,I.freeC x c hc⟩ g,by simpa using I.len⟩ ⟨c,g,.inr hc⟩
  ·exact(g.2 b (aU (aY (aN e) (I.ok.cab x c G hc)))).trans (I.base.keep b o e n F B)
  ·obtain⟨Y,t⟩:=I.base.slot b o e n F B;exact⟨Y,(g.2 b (aU (aY (aN e) (I.ok.cab x c G hc)))).trans t⟩
  ·obtain⟨o',t⟩:=I.base.there b o e B;exact⟨o',(g.2 b (aU (aY (aN e) (I.ok.cab x c G hc)))).trans t⟩
  ·by_cases hj:j=i
   ·subst hj;rw[hi]at t;cases t;rw[List.getElem?_set_self O]at D;cases D;exact⟨u,r,.inr ⟨.inl hk,c,hc,L⟩⟩
   ·rw[List.getElem?_set_ne (Ne.symm hj)]at D;obtain⟨Z,T,q⟩:=hl j y U t D e3;refine⟨Z,T,?_⟩;rcases q with q | ⟨k,c',e,z'⟩
    ·exact .inl q
    ·refine .inr ⟨k,c',e,z'.sameBut g ?_⟩;rintro rfl;exact hj (ud hN t (I.ok.inj _ _ _ e hc▸hi))
  ·by_cases hcc:c'=c
   ·subst hcc;exact⟨_,L⟩
   ·obtain⟨w2,z2⟩:=I.cell y c' e;exact⟨w2,z2.sameBut g hcc⟩
  ·obtain⟨e,n,S,nf,d⟩:=I.pin p hp;refine⟨(g.2 p.1 ?_).trans e,n,S,nf,d⟩;intro q;rw[q,J]at e;have q':oc=p.2:=Option.some.inj e;exact d R (by rw[←q'];exact K)
theorem oZ {u:Value}{Q:Unit→Shared→Prop}(I:eU X pins σ H s)(d:X.N.Nodup)(hi:X.N[i]?=some x)(b:HN X.env.scope x)(r:eY v u)(h:∀s',eU X pins (σ.set i (some v)) H s'→Q () s')(hf:X.fn x=true∨X.env.scope.names.lookup x=some .local:=by first | exact .inl rfl | exact .inr rfl | assumption):wpAny M A (storeName X.env x u) Q E s:=
 xW I d hi b r (fun s' a _=>h s' a) hf
theorem eU.Kn (I:eU X pins σ H s)(g:s'.os=s.os)(u:Un (Bk X.stack) ch H H' s.heap s'.heap)(a:lK X.prog X.w H' s'.heap)(h:AllBare s'.gens)(d:∀b∈ch,(b∈X.ex∨X.s₀.heap.get? b=none)∧b≠X.env.locals∧(∀x c,X.env.cells.lookup x=some c→c≠b)∧∀p∈X.pn++pins,p.1≠b):eU X pins σ H' s':=by
 obtain⟨h',g',d',t',o'⟩:=s';have e:o'=s.os:=g;subst e;exact I.call (g':=g') (t':=t') (d':=d') u a h d
end
abbrev XK:=Value→Option Addr→Hp→Prop
abbrev St:=List (Option V)
abbrev VK:=V→Hp→Prop
abbrev TE:=St→Hp→VK→Prop
abbrev TT:=St→Hp→(Bool→Hp→Prop)→Prop
abbrev TA:=St→Hp→(List V→Hp→Prop)→Prop
structure mZ where
 nx:St→Hp→Prop
 rt:VK
 bk:St→Hp→Prop:=fun _ _=>False
 ct:St→Hp→Prop:=fun _ _=>False
abbrev TS:=mZ→St→Hp→Prop
def EP (X:Cx)(pins:List (Addr×Obj))(σ:St)(Q:VK)(u:Value)(s':Shared):Prop:=∃v H',eU X pins σ H' s'∧eY v u∧Q v H'
def TP (X:Cx)(pins:List (Addr×Obj))(σ:St)(Q:Bool→Hp→Prop)(b:Bool)(s':Shared):Prop:=∃H',eU X pins σ H' s'∧Q b H'
def AP (X:Cx)(pins:List (Addr×Obj))(σ:St)(Q:List V→Hp→Prop)(us:List Value)(s':Shared):Prop:=∃vs H',eU X pins σ H' s'∧fN vs us∧Q vs H'
def SP (X:Cx)(pins:List (Addr×Obj))(D:mZ)(f:Flow)(s':Shared):Prop:=
 match f with
 |.next=>∃σ' H',eU X pins σ' H' s'∧D.nx σ' H'
 |.brk=>∃σ' H',eU X pins σ' H' s'∧D.bk σ' H'
 |.cont=>∃σ' H',eU X pins σ' H' s'∧D.ct σ' H'
 |.ret u=>∃v σ' H',eU X pins σ' H' s'∧eY v u∧D.rt v H'
def PE (X:Cx)(e:Expr)(t:TE):Prop:=
 ∀(pins:List (Addr×Obj)) (s:Shared) (σ:St) (H:Hp) (Q:VK),eU X pins σ H s→t σ H Q→wpAny (model X.prog X.w) X.A (eval e X.env) (EP X pins σ Q) X.xe s
def PT (X:Cx)(e:Expr)(t:TT):Prop:=
 ∀(pins:List (Addr×Obj)) (s:Shared) (σ:St) (H:Hp) (Q:Bool→Hp→Prop),eU X pins σ H s→t σ H Q→wpAny (model X.prog X.w) X.A (isTrue e X.env (eval e X.env)) (TP X pins σ Q) X.xe s
def PW (X:Cx)(e:Expr)(t:TT):Prop:=
 ∀(whole:Sem Value) (pins:List (Addr×Obj)) (s:Shared) (σ:St) (H:Hp) (Q:Bool→Hp→Prop),eU X pins σ H s→t σ H Q→wpAny (model X.prog X.w) X.A (isTrue e X.env whole) (TP X pins σ Q) X.xe s
theorem PW.pt {t:TT}(h:PW X e t):PT X e t:=h _
def PA (X:Cx)(es:List Expr)(t:TA):Prop:=
 ∀(pos:Pos) (pins:List (Addr×Obj)) (s:Shared) (σ:St) (H:Hp) (Q:List V→Hp→Prop),eU X pins σ H s→t σ H Q→wpAny (model X.prog X.w) X.A (spliced (backTo pos (starEach es X.env))) (AP X pins σ Q) X.xe s
def PS (X:Cx)(st:Stmt)(t:TS):Prop:=
 ∀(pins:List (Addr×Obj)) (s:Shared) (σ:St) (H:Hp) (D:mZ),eU X pins σ H s→t D σ H→wpAny (model X.prog X.w) X.A (exec st X.env) (SP X pins D) X.xe s
def nX (X:Cx)(st:List Stmt)(t:TS):Prop:=
 ∀(pins:List (Addr×Obj)) (s:Shared) (σ:St) (H:Hp) (D:mZ),eU X pins σ H s→t D σ H→wpAny (model X.prog X.w) X.A (execs st X.env) (SP X pins D) X.xe s
theorem fV {α:Type}{t:Sem α}{Q Q':α→Shared→Prop}(h:wpAny M A t Q E s)(hQ:∀a s,Q a s→Q' a s):wpAny M A t Q' E s:=b0 h hQ fun _ _ x=>x
section
inductive D6 (i:Nat)(σ:St)(H:Hp)(Q:VK):Prop
 |mk (v:_)(_:σ[i]?=some (some v))(_:Q v H):D6 i σ H Q
def ow (i:Nat):TE:=fun σ H Q=>D6 i σ H Q
def tC (v:V):TE:=fun _ H Q=>Q v H
theorem E1 (o:X.N[i]?=some x)(q:D3 X.env.scope x)(hd:(x == ("__debug__" : Str))=false:=by decide)(hcd:(x == ("__classdict__" : Str))=false:=by decide):PE X (.Name x pos) (ow i):=by
 intro pins s σ H Q I h;obtain⟨v,e,h⟩:=h;obtain⟨m,j,g⟩:=I.loc;obtain⟨u,r,l⟩:=g i x v o e q;have b:EP X pins σ Q u s:=⟨v,H,I,r,h⟩;rcases l with ⟨hk,p⟩ | ⟨hk,c,d,a⟩
 ·exact wpAny_Name (wpAny_loadName_local I.ok.kind hk j p b) hd
 ·rcases hk with hk | hk
  ·exact wpAny_Name (wpAny_loadName_cell I.ok.kind hk d a b) hd
  ·exact wpAny_Name (wpAny_loadName_free I.ok.kind hk d a b hcd) hd
theorem et {i j pos}:PE X (.Constant (.int i) j pos) (tC (.int i)):=fun _ _ _ H _ I h=>wpAny_Constant_int ⟨.int i,H,I.tok _,⟨_,rfl⟩,h⟩
theorem gW {b j pos}:PE X (.Constant (.bool b) j pos) (tC (.bl b)):=fun _ _ _ H _ I h=>Constant_bool ⟨.bl b,H,I,rfl,h⟩
theorem i4 {j pos}:PE X (.Constant .none j pos) (tC .non):=fun _ _ _ H _ I h=>Constant_none ⟨.non,H,I,rfl,h⟩
theorem iZ {x j pos}:PE X (.Constant (.str x) j pos) (tC (.str x)):=fun _ _ _ H _ I h=>Calls.Constant_str ⟨.str x,H,I.tok _,⟨_,rfl⟩,h⟩
def Gl (X:Cx)(x:Str):Prop:=X.env.kindOf x=some .globalImplicit
theorem wT {u:Value}(I:eU X pins σ H s)(a:Gl X x)(b:X.mg x=some u)(h:Q u s)(hd:(x == ("__debug__" : Str))=false:=by decide):wpAny (model X.prog X.w) X.A (eval (.Name x pos) X.env) Q E s:=
 Calls.Name_function_global I.ok.kind a (Calls.loadGlobal_global (by rw[I.ok.glob];exact I.mod.glob.keeps I.bk) b h) hd
theorem jA {u:Value}(I:eU X pins σ H s)(d:Gl X x)(a:X.mg x=none)(b:bootBuiltins x=some u)(h:Q u s)(hn:x≠"__name__":=by decide)(hd:(x == ("__debug__" : Str))=false:=by decide):wpAny (model X.prog X.w) X.A (eval (.Name x pos) X.env) Q E s:=by
 obtain⟨e,h1,h2⟩:=I.mod.blt;exact Calls.Name_function_global I.ok.kind d (Calls.loadGlobal_builtin (by rw[I.ok.glob];exact I.mod.glob.keeps I.bk) a (by rw[I.ok.blt];exact h1.keeps I.bk) ((h2 x hn).trans b) h) hd
theorem C1 {u:Value}(a:Gl X x)(b:X.mg x=none)(d:bootBuiltins x=some u)(r:eY v u)(hn:x≠"__name__":=by decide)(hd:(x == ("__debug__" : Str))=false:=by decide):PE X (.Name x pos) (tC v):=
 fun _ _ _ H _ I h=>jA I a b d ⟨v,H,I,r,h⟩ hn hd
variable {a b:Expr}{tb:TE}
def PC (X:Cx)(op:CmpOp)(a b:Expr)(t:TE):Prop:=
 ∀(pins:List (Addr×Obj)) (s:Shared) (σ:St) (H:Hp) (Q:VK),eU X pins σ H s→t σ H Q→
  wpAny (model X.prog X.w) X.A (eval a X.env) (fun v s₁=>wpAny (model X.prog X.w) X.A (eval b X.env) (fun u s₂=>wpAny (model X.prog X.w) X.A (compareOp op v u) (EP X pins σ Q) X.xe s₂) X.xe s₁) X.xe s
theorem AI (b:Expr)(h:op≠.In)(h2:op≠.NotIn):behindInMarks op b=false:=by
 have d:(op == CmpOp.In)=false:=by cases op <;> first | rfl | exact absurd rfl h
 have a:(op == CmpOp.NotIn)=false:=by cases op <;> first | rfl | exact absurd rfl h2
 cases b <;> simp[behindInMarks,d,a]
def ID (ta:TE):TE:=fun σ H Q=>ta σ H fun x H1=>Q (.bl (decide (x=.non))) H1
def Gm (ta:TE):TE:=fun σ H Q=>ta σ H fun x H1=>Q (.bl (!decide (x=.non))) H1
theorem eY.Ko {x:V}{v:Value}(r:eY x v):(v == Value.none)=decide (x=.non):=by
 cases x with
 |non=>cases r;rfl
 |bl _=>cases r;rfl
 |int _=>obtain⟨t,rfl⟩:=r;rfl
 |str _=>obtain⟨t,rfl⟩:=r;rfl
 |byt _=>obtain⟨t,rfl⟩:=r;rfl
 |flt _=>obtain⟨t,rfl⟩:=r;rfl
 |ref _=>cases r;rfl
 |ty _=>cases r;rfl
theorem pQ {j pos'}(b:PE X a ta):PC X .Is a (.Constant .none j pos') (ID ta):=by
 intro pins s σ H Q I h;refine fV (b pins s σ H _ I h) ?_;rintro v i ⟨x,H1,g,d,e⟩;exact Constant_none (is_none_gen ⟨.bl _,H1,g,by rw[d.Ko];rfl,e⟩)
theorem mJ {j pos'}(b:PE X a ta):PC X .IsNot a (.Constant .none j pos') (Gm ta):=by
 intro pins s σ H Q I h;refine fV (b pins s σ H _ I h) ?_;rintro v i ⟨x,H1,g,d,e⟩;exact Constant_none (isnot_none_gen ⟨.bl _,H1,g,by rw[d.Ko];rfl,e⟩)
inductive JL (Q:Bool→Hp→Prop)(x:V)(H1:Hp):Prop
 |mk (c:_)(_:x=.bl c)(_:Q c H1):JL Q x H1
def tB (t:TE):TT:=fun σ H Q=>t σ H fun x H1=>JL Q x H1
theorem gZ {t:TE}(h:PC X op a b t)(h1:behindInMarks op b=false:=by first | exact AI _ (by decide) (by decide) | rfl):PT X (.Compare a [op] [b] pos) (tB t):=by
 intro pins s σ H Q I e;refine wpAny_isTrue_Compare1 (fV (h pins s σ H _ I e) fun v l h1=>fV h1 fun u o h2=>fV h2 ?_) h1;rintro c m ⟨x,H1,i,g,j⟩;obtain⟨d,rfl,q⟩:=j;cases g;exact bR ⟨H1,i,q⟩
theorem gu {t:TE}(h:PE X e t)(he:∀whole,isTrue e X.env whole=(do let v ←whole;standAt e.pos;holding [v] (truthy v)):=by intro _;rfl):PT X e (tB t):=by
 intro pins s σ H Q I a;refine isTrue_plain (fV (h pins s σ H _ I a) ?_) (he _);rintro v j ⟨x,H1,g,b,i⟩;obtain⟨d,rfl,q⟩:=i;cases b;exact bR ⟨H1,g,q⟩
variable {tA tB':TT}{rest:List Expr}
def IK (t u:TT):TT:=fun σ H Q=>t σ H fun c H1=>if c=true then u σ H1 Q else Q false H1
def JT (t u:TT):TT:=fun σ H Q=>t σ H fun c H1=>if c=true then Q true H1 else u σ H1 Q
def Gn (t:TT):TT:=fun σ H Q=>t σ H fun c H1=>Q (!c) H1
theorem kg (b:PT X a tA):PW X (.BoolOp .And [a] pos) tA:=by
 intro d pins s σ H Q I h;refine isTrue_and (fV (b pins s σ H Q I h) fun c g e=>?_);cases c with
 |true=>exact isTrue_and_nil e
 |false=>exact e
theorem iz (b:PT X a tA):PW X (.BoolOp .Or [a] pos) tA:=by
 intro d pins s σ H Q I h;refine isTrue_or (fV (b pins s σ H Q I h) fun c g e=>?_);cases c with
 |false=>exact isTrue_or_nil e
 |true=>exact e
theorem lY (g:PT X a tA)(l:PW X (.BoolOp .And (b::rest) pos) tB'):PW X (.BoolOp .And (a::b::rest) pos) (IK tA tB'):=by
 intro i pins s σ H Q I h;refine isTrue_and (fV (g pins s σ H _ I h) ?_);rintro c j ⟨H1,e,d⟩;cases c with
 |true=>exact l i pins j σ H1 Q e d
 |false=>exact⟨H1,e,d⟩
theorem iS (g:PT X a tA)(l:PW X (.BoolOp .Or (b::rest) pos) tB'):PW X (.BoolOp .Or (a::b::rest) pos) (JT tA tB'):=by
 intro i pins s σ H Q I h;refine isTrue_or (fV (g pins s σ H _ I h) ?_);rintro c j ⟨H1,e,d⟩;cases c with
 |true=>exact⟨H1,e,d⟩
 |false=>exact l i pins j σ H1 Q e d
theorem gE (b:PT X a tA):PT X (.UnaryOp .Not a pos) (Gn tA):=by
 intro pins s σ H Q I h;exact isTrue_not (b pins s σ H (fun c H1=>Q (!c) H1) I h)
inductive Ca (tb:TE)(σ:St)(Q:VK)(x:V)(H1:Hp):Prop
 |mk (c:_)(_:x=.bl c)(_:if c=true then tb σ H1 Q else Q (.bl false) H1):Ca tb σ Q x H1
def Gy (ta tb:TE):TE:=fun σ H Q=>ta σ H fun x H1=>Ca tb σ Q x H1
inductive BZ (Q:VK)(x:V)(H1:Hp):Prop
 |mk (c:_)(_:x=.bl c)(_:Q (.bl (!c)) H1):BZ Q x H1
def Gk (ta:TE):TE:=fun σ H Q=>ta σ H fun x H1=>BZ Q x H1
theorem nG {op}{t:TE}(h:PE X a t):PE X (.BoolOp op [a] pos) t:=fun pins s σ H Q I hw=>BoolOp_one (h pins s σ H Q I hw)
theorem l4 (g:PE X a ta)(l:PE X (.BoolOp .And (b::rest) pos) tb):PE X (.BoolOp .And (a::b::rest) pos) (Gy ta tb):=by
 intro pins s σ H Q I h;refine BoolOp_and (fV (g pins s σ H _ I h) ?_);rintro v j ⟨x,H1,e,i,d⟩;obtain⟨c,rfl,d⟩:=d;cases i;refine bR ?_;cases c with
 |true=>exact l pins j σ H1 Q e d
 |false=>exact⟨.bl false,H1,e,rfl,d⟩
theorem vy (d:PE X a ta):PE X (.UnaryOp .Not a pos) (Gk ta):=by
 intro pins s σ H Q I h;refine UnaryOp_ (fV (d pins s σ H _ I h) ?_);rintro v i ⟨x,H1,g,e,b⟩;obtain⟨c,rfl,b⟩:=b;cases e;exact not_of (bR ⟨.bl (!c),H1,g,rfl,b⟩)
def JA (t:TT)(ta tb:TE):TE:=fun σ H Q=>t σ H fun c H1=>if c=true then ta σ H1 Q else tb σ H1 Q
theorem Ah {c:Expr}(m:PT X c tA)(j:PE X a ta)(l:PE X b tb):PE X (.IfExp c a b pos) (JA tA ta tb):=by
 intro pins s σ H Q I h;refine wpAny_IfExp (fV (m pins s σ H _ I h) ?_);rintro d g ⟨H1,i,e⟩;cases d with
 |true=>exact j pins g σ H1 Q i e
 |false=>exact l pins g σ H1 Q i e
end
def fb (K:W.Frag)(H:Hp)(a:Addr)(xs:List V):Prop:=
 Rd H a (.lst xs)∨
  ∃(o:Obj) (its:Array Value) (n:Nat),K.lookup a=some o∧o.cls=.type "list"∧o.dict=none∧o.data=.seq its n∧its.size≤sizeLine∧fN xs its.toList
def gy (K:W.Frag)(H:Hp)(a:Addr)(xs:List V):Prop:=
 Rd H a (.tup xs)∨
  ∃(o:Obj) (its:Array Value) (n:Nat),K.lookup a=some o∧o.cls=.type "tuple"∧o.data=.seq its n∧its.size≤sizeLine∧fN xs its.toList
def Jp:Value→Option V
 |.none=>some .non
 |.bool b=>some (.bl b)
 |.int i _=>some (.int i)
 |.str x _=>some (.str x)
 |.bytes b _=>some (.byt b)
 |.float b _=>some (.flt b)
 |.ref a=>some (.ref a)
 |.type n=>some (.ty n)
 |_=>none
theorem eY.abs {x:V}{u:Value}(r:eY x u):Jp u=some x:=by
 cases x with
 |non=>cases r;rfl
 |bl _=>cases r;rfl
 |int _=>obtain⟨t,rfl⟩:=r;rfl
 |str _=>obtain⟨t,rfl⟩:=r;rfl
 |byt _=>obtain⟨t,rfl⟩:=r;rfl
 |flt _=>obtain⟨t,rfl⟩:=r;rfl
 |ref _=>cases r;rfl
 |ty _=>cases r;rfl
theorem eY.inj {x:V}{u:Value}(r:eY x u)(q:eY y u):x=y:=Option.some.inj (r.abs.symm.trans q.abs)
theorem fN.inj:∀{xs ys:List V} {us:List Value},fN xs us→fN ys us→xs=ys
 |_,_,_,.nil,.nil=>rfl
 |_,_,_,.cons r t,.cons r' t'=>by rw[r.inj r',fN.inj t t']
section
variable {ys:List V}
theorem fb.of (h:H a=some (.lst xs)):fb K H a xs:=.inl (.inl h)
theorem gy.of (h:H a=some (.tup xs)):gy K H a xs:=.inl (.inl h)
theorem eU.list (I:eU X pins σ H s)(h:fb X.K H a xs):∃its:List Value,fN xs its∧PlainL s.heap a its.toArray∧xs.length≤sizeLine:=by
 rcases h with h | ⟨o,its,n,d,i,b,g,j,r⟩
 ·obtain⟨z,its,n,r,e⟩:=h.ok I.hok;exact⟨its,r,⟨_,n,e,rfl,rfl,rfl⟩,z⟩
 ·refine⟨its.toList,r,⟨o,n,I.kIn a o d,i,b,by simpa using g⟩,?_⟩;have e:=r.length;simp only[br]at e
  lia
theorem eU.tuple (I:eU X pins σ H s)(h:gy X.K H a xs):∃its:List Value,fN xs its∧IsTup s.heap a its.toArray∧xs.length≤sizeLine:=by
 rcases h with h | ⟨o,its,n,b,g,d,i,r⟩
 ·obtain⟨z,its,r,p⟩:=h.ok I.hok;exact⟨its,r,p,z⟩
 ·refine⟨its.toList,r,⟨o,I.kIn a o b,g,n,by simpa using d⟩,?_⟩;have e:=r.length;simp only[br]at e
  lia
theorem eU.Kp (I:eU X pins σ H s)(h:fb X.K H a xs)(h':fb X.K H a ys):xs=ys:=by
 obtain⟨g,r,⟨o,n,e,_,_,d⟩,_⟩:=I.list h;obtain⟨b,l,⟨o',p,j,_,_,i⟩,_⟩:=I.list h';rw[e]at j;cases j;rw[d]at i;injection i with m _
 have:g=b:=by simpa using congrArg Array.toList m
 subst this;exact r.inj l
end
abbrev Cx.Kq (X:Cx)(E:Value→Shared→Prop):Cx:={X with xe:=E}
abbrev Cx.nox (X:Cx):Cx:=X.Kq fun _ _=>False
theorem Cx.Ok.Kq (ok:X.Ok)(E:Value→Shared→Prop):(X.Kq E).Ok:=
 ⟨ok.mod,ok.kind,ok.glob,ok.blt,ok.above,ok.inj,ok.has,ok.cab,ok.hd,ok.frames,ok.stk,ok.exf,ok.bs,ok.bsz,ok.noex,ok.exfs,ok.funs,ok.frf⟩
theorem Cx.Ok.Kr (ok:(X.Kq E).Ok):X.Ok:=
 ⟨ok.mod,ok.kind,ok.glob,ok.blt,ok.above,ok.inj,ok.has,ok.cab,ok.hd,ok.frames,ok.stk,ok.exf,ok.bs,ok.bsz,ok.noex,ok.exfs,ok.funs,ok.frf⟩
theorem eU.Kq (I:eU X pins σ H s)(E:Value→Shared→Prop):eU (X.Kq E) pins σ H s:=⟨I.ok.Kq E,I.os,I.bare,I.base,I.loc,I.cell,I.free,I.freeC,I.pin,I.hok,I.len⟩
theorem eU.Kr (I:eU (X.Kq E) pins σ H s):eU X pins σ H s:=⟨I.ok.Kr,I.os,I.bare,I.base,I.loc,I.cell,I.free,I.freeC,I.pin,I.hok,I.len⟩
theorem SP.Kr {f:Flow}(h:SP (X.Kq E) pins D f s'):SP X pins D f s':=by
 cases f with
 |next=>obtain⟨σ',H',I,q⟩:=h;exact⟨σ',H',I.Kr,q⟩
 |brk=>obtain⟨σ',H',I,q⟩:=h;exact⟨σ',H',I.Kr,q⟩
 |cont=>obtain⟨σ',H',I,q⟩:=h;exact⟨σ',H',I.Kr,q⟩
 |ret u=>obtain⟨v,σ',H',I,r,q⟩:=h;exact⟨v,σ',H',I.Kr,r,q⟩
theorem nX.nox {st:List Stmt}{t:TS}(h:nX X.nox st t):nX X st t:=fun pins s σ H D I hw=>
 b0 (h pins s σ H D (I.Kq _) hw) (fun _ _ q=>q.Kr) fun _ _ z=>False.elim z
section
variable {st:Stmt}{rest:List Stmt}{t u:TS}
def Go:TS:=fun D σ H=>D.nx σ H
def IA (t u:TS):TS:=fun D σ H=>t {D with nx:=u D} σ H
theorem eO:nX X [] Go:=fun _ _ σ H _ I h=>wpAny_execs_nil ⟨σ,H,I,h⟩
theorem ee (h1:PS X st t)(h2:nX X rest u):nX X (st::rest) (IA t u):=by
 intro pins s σ H D I h;refine wpAny_execs_cons (fV (h1 pins s σ H {D with nx:=u D} I h) fun f b q=>?_);cases f with
 |next=>
  obtain⟨σ',H',a,q⟩:=q;exact h2 pins b σ' H' D a q
 |ret v=>exact q
 |brk=>exact q
 |cont=>exact q
theorem eo (h1:PS X st t):nX X [st] t:=by
 intro pins s σ H D I h;refine wpAny_execs_cons (fV (h1 pins s σ H D I h) fun f a q=>?_);cases f with
 |next=>exact wpAny_execs_nil q
 |ret v=>exact q
 |brk=>exact q
 |cont=>exact q
def Gv:TS:=fun D σ H=>D.ct σ H
theorem t8:PS X (.Continue pos) Gv:=fun _ _ σ H _ I h=>wpAny_Continue ⟨σ,H,I,h⟩
theorem eU.quiet (I:eU X pins σ H s):interactive X.env=false:=by simp[interactive,I.ok.kind]
def Gq (te:TE):TS:=fun D σ H=>te σ H fun _ H1=>D.nx σ H1
theorem gf (a:PE X e te)(hs:swapsWith e none pos.line X.env=pure false:=by rfl):PS X (.Expr e pos) (Gq te):=by
 intro pins s σ H D I h;exact wpAny_Expr_any (fV (a pins s σ H _ I h) (by rintro v i ⟨x,H1,d,g,b⟩;exact⟨σ,H1,d,b⟩)) I.quiet hs
def IB (te:TE):TS:=fun D σ H=>te σ H D.rt
theorem eL (a:PE X e te):PS X (.Return (some e) pos) (IB te):=by
 intro pins s σ H D I h;exact wpAny_Return_some (fV (a pins s σ H _ I h) (by rintro v i ⟨x,H1,g,b,d⟩;exact⟨x,σ,H1,g,b,d⟩))
def IF (c:TT)(t u:TS):TS:=fun D σ H=>c σ H fun b H1=>if b=true then t D σ H1 else u D σ H1
theorem fz {c:Expr}{a b:List Stmt}{tc:TT}(m:PT X c tc)(j:nX X a t)(l:nX X b u):PS X (.If c a b pos) (IF tc t u):=by
 intro pins s σ H D I h;refine wpAny_If (fV (m pins s σ H _ I h) ?_);rintro d g ⟨H1,i,e⟩;cases d with
 |true=>exact j pins g σ H1 D i e
 |false=>exact l pins g σ H1 D i e
def Ex:TS:=fun _ _ _=>False
theorem iK {sts:List Stmt}:nX X sts Ex:=fun _ _ _ _ _ _ h=>h.elim
end
abbrev TG:=V→St→Hp→(St→Hp→Prop)→Prop
abbrev xJ:=List V→St→Hp→(St→Hp→Prop)→Prop
def PG (X:Cx)(target:Expr)(t:TG):Prop:=
 ∀(pins:List (Addr×Obj)) (s:Shared) (σ:St) (H:Hp) (v:V) (u:Value) (Q:St→Hp→Prop),eU X pins σ H s→eY v u→t v σ H Q→
  wpAny (model X.prog X.w) X.A (assign target X.env u) (fun _ s'=>∃σ' H',eU X pins σ' H' s'∧Q σ' H') X.xe s
def Iu (X:Cx)(ts:List Expr)(t:xJ):Prop:=
 ∀(pins:List (Addr×Obj)) (s:Shared) (σ:St) (H:Hp) (vs:List V) (us:List Value) (Q:St→Hp→Prop),eU X pins σ H s→fN vs us→t vs σ H Q→
  wpAny (model X.prog X.w) X.A (assignInOrder ((assignEach ts X.env).map (·.2)) us) (fun _ s'=>∃σ' H',eU X pins σ' H' s'∧Q σ' H') X.xe s
abbrev HE:=V→V→Hp→VK→Prop
def HI (X:Cx)(op:Operator)(t:HE):Prop:=
 ∀(pins:List (Addr×Obj)) (s:Shared) (σ:St) (H:Hp) (x y:V) (v u:Value) (Q:VK),eU X pins σ H s→eY x v→eY y u→t x y H Q→
  wpAny (model X.prog X.w) X.A (inplaceOp op v u) (EP X pins σ Q) X.xe s
def jq (i:Nat):TG:=fun v σ H Q=>Q (σ.set i (some v)) H
theorem eN (b:X.N.Nodup)(hi:X.N[i]?=some x)(d:HN X.env.scope x)(hf:X.fn x=true∨X.env.scope.names.lookup x=some .local:=by first | exact .inl rfl | exact .inr rfl | assumption):PG X (.Name x pos) (jq i):=by
 intro pins s σ H v u Q I r h;exact wpAny_assign_Name (oZ I b hi d r (fun s' a=>⟨_,H,a,h⟩) hf)
def FI:xJ:=fun vs σ H Q=>vs=[]∧Q σ H
inductive Cg (t:TG)(u:xJ)(vs:List V)(σ:St)(H:Hp)(Q:St→Hp→Prop):Prop
 |mk (v r:_)(_:vs=v::r)(_:t v σ H fun σ' H'=>u r σ' H' Q):Cg t u vs σ H Q
def Bi (t:TG)(u:xJ):xJ:=fun vs σ H Q=>Cg t u vs σ H Q
theorem lF:Iu X [] FI:=by
 intro pins s σ H vs us Q I r h;obtain⟨e,h⟩:=h;subst e;cases r;exact assignInOrder_nil ⟨σ,H,I,h⟩
theorem gz {t:TG}{u:xJ}(h1:PG X e t)(h2:Iu X es u)(hs:(assignEach (e::es) X.env).map (·.2)=assign e X.env::(assignEach es X.env).map (·.2):=by rfl):Iu X (e::es) (Bi t u):=by
 intro pins s σ H vs us Q I r h;obtain⟨v,i,d,h⟩:=h;subst d;cases r with
 |cons r rr=>
  rw[hs];refine assignInOrder_cons (fV (h1 pins s σ H _ _ _ I r h) ?_);rintro _ a ⟨σ1,H1,b,g⟩;exact h2 pins a σ1 H1 _ _ Q b rr g
inductive Em (K:W.Frag)(n:Nat)(t:xJ)(v:V)(σ:St)(H:Hp)(Q:St→Hp→Prop):Prop
 |mk (a xs:_)(_:v=.ref a)(_:gy K H a xs)(_:xs.length=n)(_:t xs σ H Q):Em K n t v σ H Q
def Hu (K:W.Frag)(n:Nat)(t:xJ):TG:=fun v σ H Q=>Em K n t v σ H Q
theorem nF {k:Nat}{t:xJ}{n:Nat}(x:X.calm=true)(h:Iu X es t)(hn:(assignEach es X.env).length=n:=by rfl)(hst:(assignEach es X.env).findIdx? (·.1)=none:=by rfl):PG X (.Tuple es k pos) (Hu X.K n t):=by
 intro pins s σ H v u Q I r d;obtain⟨a,xs,q,p,i,d⟩:=d;subst q;cases r;obtain⟨w,g,j,y⟩:=I.tuple p;refine assign_Tuple_tuple (I.ok.hd x) j (by simp[hn,←i,g.length]) hst fun h' m=>?_;have l:eU X pins σ H {s with heap:=h'}:=I.kept (t':=s.toks) fun b o e=>m b o (aU (aN e)) e;exact h pins _ σ H xs _ Q l (by simpa using g) d
def Gx (te:TE)(g:TG):TS:=fun D σ H=>te σ H fun x H1=>g x σ H1 D.nx
theorem Aa (j:PE X e te)(i:PG X tg g)(hs:swapsWithSole [tg] e pos.line X.env=pure false:=by rfl)(hw:swappedStores [tg] e X.env=pure none:=by rfl)(h1:(assignEach [tg] X.env).map (·.2)=[assign tg X.env]:=by rfl):PS X (.Assign [tg] e pos) (Gx te g):=by
 intro pins s σ H D I h;refine wpAny_Assign_stores (fV (j pins s σ H _ I h) ?_) hs hw;rintro v b ⟨x,H1,d,a,l⟩;rw[h1];exact fV (i pins b σ H1 x v _ d a l) fun _ m q=>q
theorem eJ (g:X.N.Nodup)(hi:X.N[i]?=some x)(d:HN X.env.scope x)(j:PE X e te)(hs:swapsWith e (some (.Name x pos')) pos.line X.env=pure false:=by rfl)(hf:X.fn x=true∨X.env.scope.names.lookup x=some .local:=by first | exact .inl rfl | exact .inr rfl | assumption):PS X (.Assign [.Name x pos'] e pos) (Gx te (jq i)):=by
 intro pins s σ H D I h;refine wpAny_Assign_Name (fV (j pins s σ H _ I h) ?_) hs;rintro v o ⟨y,H1,b,a,l⟩;exact oZ b g hi d a (fun p m=>⟨_,H1,m,l⟩) hf
inductive Ea (i:Nat)(te:TE)(ti:HE)(D:mZ)(σ:St)(H:Hp):Prop
 |mk (x:_)(_:σ[i]?=some (some x))(_:te σ H fun y H1=>ti x y H1 fun z H2=>D.nx (σ.set i (some z)) H2):Ea i te ti D σ H
def IJ (i:Nat)(te:TE)(ti:HE):TS:=fun D σ H=>Ea i te ti D σ H
theorem ki {op:Operator}{ti:HE}(M:X.N.Nodup)(hi:X.N[i]?=some x)(b:HN X.env.scope x)(L:PE X e te)(B:HI X op ti)(hf:X.fn x=true∨X.env.scope.names.lookup x=some .local:=by first | exact .inl rfl | exact .inr rfl | assumption):PS X (.AugAssign (.Name x pos') op e pos) (IJ i te ti):=by
 intro pins s σ H D I h;obtain⟨v,K,h⟩:=h;obtain⟨m,F,C⟩:=I.loc;have d:D3 X.env.scope x:=by rcases b with k | k;exact .inl k;exact .inr (.inl k)
 obtain⟨u,r,l⟩:=C i x v hi K d;refine wpAny_AugAssign_Name ?_;have g:wpAny (model X.prog X.w) X.A (eval e X.env) (fun w s₂=>wpAny (model X.prog X.w) X.A (inplaceOp op u w) (fun r s₃=>wpAny (model X.prog X.w) X.A (storeName X.env x r) (fun _=>SP X pins D .next) X.xe s₃) X.xe s₂) X.xe s:=by
  refine fV (L pins s σ H _ I h) ?_;rintro w E ⟨y,H1,o,j,q⟩;refine fV (B pins E σ H1 v y u w _ o r j q) ?_;rintro z Q ⟨R,H2,t,G,P⟩;exact oZ t M hi b G (fun S p=>⟨_,H2,p,P⟩) hf
 rcases l with ⟨hk,J⟩ | ⟨hk,c,O,a⟩
 ·exact wpAny_loadName_local I.ok.kind hk F J g
 ·rcases hk with hk | hk
  ·exact wpAny_loadName_cell I.ok.kind hk O a g
  ·rcases b with k | k
   ·have:X.env.scope.names.lookup x=some .free:=hk;rw[k]at this;cases this
   ·have:X.env.scope.names.lookup x=some .free:=hk;rw[k]at this;cases this
inductive HY (f:Int→Int→Int)(x:V)(y:V)(H:Hp)(Q:VK):Prop
 |mk (i j:_)(_:x=.int i)(_:y=.int j)(_:Q (.int (f i j)) H):HY f x y H Q
def JF (f:Int→Int→Int):HE:=fun x y H Q=>HY f x y H Q
theorem Bb:HI X .Add (JF fun i j=>i+j):=by
 intro pins s σ H x y v u Q I a b h;obtain⟨i,j,d,e,q⟩:=h;subst d;subst e;obtain⟨t,rfl⟩:=a;obtain⟨t',rfl⟩:=b;exact iadd_int ⟨.int _,H,I.tok _,⟨_,rfl⟩,q⟩
theorem FC:HI X .Sub (JF fun i j=>i-j):=by
 intro pins s σ H x y v u Q I a b h;obtain⟨i,j,d,e,q⟩:=h;subst d;subst e;obtain⟨t,rfl⟩:=a;obtain⟨t',rfl⟩:=b;exact isub_int ⟨.int _,H,I.tok _,⟨_,rfl⟩,q⟩
def Ev (c:TT)(tb:TS):TS:=fun D σ H=>∃W:Nat→St→Hp→Prop,(∃m,W m σ H)∧∀m σ H,W m σ H→
 c σ H fun b H1=>if b=true then ∃N:St→Hp→Prop,(∀σ' H',N σ' H'→∃m',m'<m∧W m' σ' H')∧tb {D with nx:=N,ct:=N,bk:=D.nx} σ H1 else D.nx σ H1
theorem jy {c:Expr}{tc:TT}(hp:PassesOwn (model X.prog X.w) X.A X.env X.xe)(y:PT X c tc)(r:nX X body tb):PS X (.While c body [] pos) (Ev tc tb):=by
 intro pins s σ H D I h;obtain⟨W,⟨z,B⟩,d⟩:=h;refine wpAny_While (codeAny_whileLoop (fun n s'=>∃σ' H',eU X pins σ' H' s'∧W n σ' H') ?_ z ⟨σ,H,I,B⟩);rintro n C ⟨σ1,H1,t,q⟩;refine cR hp (fV (y pins C σ1 H1 _ t (d n σ1 H1 q)) ?_);rintro b x ⟨H2,o,g⟩;cases b with
 |true=>
  obtain⟨N,p,g⟩:=g;rw[if_pos rfl];refine cR hp (fV (r pins x σ1 H2 _ o g) fun f E e=>?_);cases f with
  |next=>
   obtain⟨σ3,a,l,j⟩:=e;obtain⟨m',m,i⟩:=p σ3 a j;exact⟨m',m,σ3,a,l,i⟩
  |cont=>
   obtain⟨σ3,a,l,j⟩:=e;obtain⟨m',m,i⟩:=p σ3 a j;exact⟨m',m,σ3,a,l,i⟩
  |brk=>exact e
  |ret v=>exact e
 |false=>
  rw[if_neg aK];exact wpAny_execs_nil ⟨σ1,H2,o,g⟩
structure It where
 go:Nat→Hp→Prop
 yld:Nat→Hp→V→Hp→Prop
 stop:Nat→Hp→Prop
def jG (X:Cx)(pins:List (Addr×Obj))(H:Hp)(b:Addr):Prop:=
 H b=none∧b≠X.env.locals∧b∉X.fs∧(b∈X.ex∨X.s₀.heap.get? b=none)∧(∀x c,X.env.cells.lookup x=some c→c≠b)∧∀p∈X.pn++pins,p.1≠b
theorem eU.Ks (I:eU X pins σ H s)(a:s.heap.objs.size≤b)(d:H' b=none):jG X pins H' b:=by
 refine⟨d,Nat.ne_of_gt (aY I.lt a),I.Kj a,.inr (bj (bw I.sz a)),fun x c e z=>?_,fun p hp z=>?_⟩
 ·obtain⟨v,q⟩:=I.cell x c e;exact absurd (aY q.lt (by rw[z];exact a)) (cH _)
 ·exact absurd (aY (aN (I.pin p hp).1) (by rw[z];exact a)) (cH _)
structure tK (P:Program)(w:World)(K:W.Frag)(tg:Expr)(J:It)(fp:List Addr)(it:Addr)(tn:Nat→Heap→Prop):Prop where
 mem:it∈fp
 obj:∀i h,tn i h→∀b∈fp,∃o,h.get? b=some o∧∀v,o.data≠.cell v
 keep:∀i h h',tn i h→(∀b∈fp,∀o,h.get? b=some o→h'.get? b=some o)→tn i h'
 item:∀(X:Cx),X.prog=P→X.w=w→X.K=K→X.calm=true→∀(i:Nat) (pins:List (Addr×Obj)) (s:Shared) (σ:St) (H:Hp) (E:Value→Shared→Prop),eU X pins σ H s→(∀b∈fp,jG X pins H b)→tn i s.heap→J.go i H→
  wpAny (model P w) X.A (pyNext (.ref it)) (fun r s1=>∃u,r=some u∧wpAny (model P w) X.A (letOwnedTupleGo tg (.ref it) u) (fun _ s2=>∃x H',eU X pins σ H' s2∧eY x u∧J.yld i H x H'∧tn (i+1) s2.heap∧∀b∈fp,H' b=none) E s1) E s
 done:∀(X:Cx),X.prog=P→X.w=w→X.K=K→X.calm=true→∀(i:Nat) (pins:List (Addr×Obj)) (s:Shared) (σ:St) (H:Hp) (E:Value→Shared→Prop),eU X pins σ H s→(∀b∈fp,jG X pins H b)→tn i s.heap→J.stop i H→
  wpAny (model P w) X.A (pyNext (.ref it)) (fun r s1=>r=none∧eU X pins σ H s1) E s
 self:∀(A:Around) (i:Nat) (s:Shared) (Q:Value→Shared→Prop) (E:Value→Shared→Prop),tn i s.heap→Q (.ref it) s→wpAny (model P w) A (pyIter (.ref it)) Q E s
abbrev TI:=St→Hp→(It→Hp→Prop)→Prop
def Ir (X:Cx)(pins:List (Addr×Obj))(σ:St)(tg:Expr)(R:It→Hp→Prop)(itv:Value)(s2:Shared):Prop:=
 ∃(it:Addr) (fp:List Addr) (tn:Nat→Heap→Prop) (J:It) (H':Hp),itv=.ref it∧eU X pins σ H' s2∧tK X.prog X.w X.K tg J fp it tn∧tn 0 s2.heap∧(∀b∈fp,jG X pins H' b)∧R J H'
def PI (X:Cx)(tg iter:Expr)(wi:TI):Prop:=
 ∀(pins:List (Addr×Obj)) (s:Shared) (σ:St) (H:Hp) (R:It→Hp→Prop),eU X pins σ H s→wi σ H R→
  wpAny (model X.prog X.w) X.A (eval iter X.env) (fun v s1=>wpAny (model X.prog X.w) X.A (pyIter v) (Ir X pins σ tg R) X.xe s1) X.xe s
theorem um {it:Addr}{u:Value}{o:Obj}{n:String}{vs:Array Value}{Q:Unit→Shared→Prop}(d:s.heap.get? it=some o)(e:o.cls=.type n)(b:o.data=.fields vs)(g:["enumerate","zip","dict_itemiterator","dict_reverseitemiterator","odict_iterator","itertools.zip_longest","itertools.pairwise"].contains n=false)(a:Q () s):wpAny M A (letOwnedTupleGo tg (.ref it) u) Q E s:=by
 unfold letOwnedTupleGo;cases tg <;> first
  |exact ar a
  |(cases u <;> first
    |exact ar a
    |(refine ac (wpAny_load d ?_)
      rw[e,b];show wpAny M A (if (["enumerate","zip","dict_itemiterator","dict_reverseitemiterator","odict_iterator","itertools.zip_longest","itertools.pairwise"].contains n&&vs[0]? == some (rawInt _))=true then _ else _) Q E s;rw[if_neg (by intro h;rw[g,bZ]at h;cases h)]
      exact ar a))
def FW (K:W.Frag)(a:Addr):It:=
 ⟨fun i H=>∃xs x,fb K H a xs∧xs[i]?=some x,fun i H x H'=>H'=H∧∀xs,fb K H a xs→xs[i]?=some x,fun i H=>∃xs,fb K H a xs∧xs.length≤i⟩
def FV (lo:Int)(n:Nat):It:=⟨fun i _=>i<n,fun i H x H'=>H'=H∧x=.int (lo+i),fun i _=>n≤i⟩
theorem xT (a it:Addr):tK P w K tg (FW K a) [it] it (fun i h=>h.IsListIter it a i) where
 mem:=by simp
 obj:=fun i h st b g=>by
  have e:b=it:=by simpa using g
  subst e;obtain⟨o,e,c,d⟩:=st;exact⟨o,e,fun v z=>by rw[d]at z;cases z⟩
 keep:=fun i h h' st k=>st.at fun o e=>k it (by simp) o e
 item:=by
  intro X J C A M i pins s σ H E I m st q;subst J C A;obtain⟨xs,x,l,F⟩:=q;obtain⟨y,B,p,Q⟩:=I.list l;obtain⟨u,S,U⟩:=B.get F;obtain⟨r,t,T,L,G,D⟩:=m it (by simp);refine wpAny_pyNext_list_item st p.isList (x:=u) (by simpa using S) fun h' j Y=>?_;have N:eU X pins σ H {s with heap:=h'}:=I.turned (t':=s.toks) (fun b o g e=>(Y.2 b g).trans e) r t L G D;obtain⟨o,e,c,d⟩:=id j;exact⟨u,rfl,um (s:={s with heap:=h'}) e c d (by decide) ⟨x,H,N,U,⟨rfl,fun ys R=>by rw[I.Kp R l];exact F⟩,j,fun b g=>(m b g).1⟩⟩
 done:=by
  intro X J C A M i pins s σ H E I m st q;subst J C A;obtain⟨xs,l,F⟩:=q;obtain⟨y,B,p,Q⟩:=I.list l;obtain⟨r,t,T,L,G,D⟩:=m it (by simp);have Z:=B.length;exact wpAny_pyNext_list_end (I.ok.hd M) st p.isList (by simp;lia) fun h' O=>⟨rfl,I.turned (t':=s.toks) (fun b o g e=>O b o g e) r t L G D⟩
 self:=fun _ _ _ _ _ st h=>wpAny_pyIter_listiter st h
theorem u3 (it:Addr)(lo:Int)(n:Nat):tK P w K tg (FV lo n) [it] it (fun i h=>IsRangeIter h it (lo+(i:Nat)*1) ((n:Int)-(i:Nat)) 1) where
 mem:=by simp
 obj:=fun i h st b a=>by
  have e:b=it:=by simpa using a
  subst e
  exact⟨_,st,fun v z=>by
   have C:Data.fields _=Data.cell v:=z
   cases C⟩
 keep:=fun i h h' st k=>k it (by simp) _ st
 item:=by
  intro X y q p B i pins s σ H E I g st j;subst y q p;obtain⟨l,m,J,A,x,r⟩:=g it (by simp);have W:=Walks.range (prog:=X.prog) (w:=X.w) (I.ok.hd B) it lo 1 n;refine W.item i s _ _ j st fun v h' tk L d F=>?_;obtain⟨t,rfl⟩:=L;have D:eU X pins σ H {s with heap:=h',toks:=tk}:=I.turned (fun b o a e=>F b o (by simpa using a) e) l m A x r;refine⟨_,rfl,um (s:={s with heap:=h',toks:=tk}) (n:="range_iterator") d rfl rfl (by decide) ⟨.int (lo+i),H,D,⟨t,?_⟩,⟨rfl,rfl⟩,d,fun b a=>(g b a).1⟩⟩;rw[Int.mul_one]
 done:=by
  intro X y q p B i pins s σ H E I g st j;subst y q p;obtain⟨l,m,J,A,x,r⟩:=g it (by simp);exact wpAny_pyNext_range_end (I.ok.hd B) st (by have:n≤i:=j;lia) fun h' G=>⟨rfl,I.turned (t':=s.toks) (fun b o a e=>G b o a e) l m A x r⟩
 self:=fun _ _ _ _ _ st h=>wpAny_pyIter_rangeiter st h
inductive Cf (K:W.Frag)(R:It→Hp→Prop)(x:V)(H1:Hp):Prop
 |mk (a:_)(_:x=.ref a)(_:(∃xs,fb K H1 a xs))(_:R (FW K a) H1):Cf K R x H1
def Hs (K:W.Frag)(tl:TE):TI:=fun σ H R=>tl σ H fun x H1=>Cf K R x H1
theorem fO {l:Expr}{tl:TE}(i:PE X l tl):PI X tg l (Hs X.K tl):=by
 intro pins s σ H R I h;refine fV (i pins s σ H _ I h) ?_;rintro v d ⟨x,H1,g,j,w⟩;obtain⟨a,e,⟨xs,r⟩,q⟩:=w;subst e;cases j;obtain⟨t,y,p,z⟩:=g.list r;refine wpAny_pyIter_list p.isList ?_;refine⟨d.heap.objs.size,[d.heap.objs.size],_,_,H1,rfl,g.kept (t':=d.toks) fun b o e=>aC _ e,xT a _,⟨_,aP _ rfl,rfl,rfl⟩,fun b m=>?_,q⟩
 have e:b=d.heap.objs.size:=by simpa using m
 subst e;exact g.Ks (aq _) (g.hok.fresh (aq _))
theorem zW {R:It→Hp→Prop}{lo hi:Int}{t u v:Tok}{tk:Nat}(I:eU X pins σ H s)(h1:-(2^62)≤lo)(h2:lo<2^62)(h:-(2^62)≤hi)(g:hi<2^62)(q:R (FV lo (hi-lo).toNat) H):wpAny (model X.prog X.w) X.A (pyIter (.ref s.heap.objs.size)) (Ir X pins σ tg R) E {s with heap:=s.heap.push {cls:=.type "range",data:=.fields #[.int lo t,.int hi u,.int 1 v]},toks:=tk}:=by
 refine wpAny_pyIter_range (IsRange.new ..) (small_one h1 h2 h g) ?_;have a:eU X pins σ H {s with heap:=s.heap.push {cls:=.type "range",data:=.fields #[.int lo t,.int hi u,.int 1 v]},toks:=tk}:=I.kept fun b o e=>aC _ e;refine⟨(s.heap.push {cls:=.type "range",data:=.fields #[.int lo t,.int hi u,.int 1 v]}).objs.size,[(s.heap.push {cls:=.type "range",data:=.fields #[.int lo t,.int hi u,.int 1 v]}).objs.size],_,_,H,rfl,a.kept (t':=tk) fun b o e=>aC _ e,u3 _ lo (hi-lo).toNat,?_,fun b i=>?_,q⟩
 ·have d:lo+((0:Nat):Int)*1=lo:=by simp
  have j:(((hi-lo).toNat:Nat):Int)-((0:Nat):Int)=Builtin.Range.rangeSize lo hi 1:=by rw[rangeSize_one];split <;> lia
  show IsRangeIter _ _ (lo+((0:Nat):Int)*1) ((((hi-lo).toNat:Nat):Int)-((0:Nat):Int)) 1;rw[d,j];exact aP _ rfl
 ·have e:b=(s.heap.push {cls:=.type "range",data:=.fields #[.int lo t,.int hi u,.int 1 v]}).objs.size:=by simpa using i
  subst e;exact a.Ks (aq _) (a.hok.fresh (aq _))
inductive Ce (R:It→Hp→Prop)(vs:List V)(H1:Hp):Prop
 |mk (j:Int)(_:vs=[.int j])(_:-(2^62)≤j)(_:j<2^62)(_:R (FV 0 j.toNat) H1):Ce R vs H1
def Hr (ta:TA):TI:=fun σ H R=>ta σ H fun vs H1=>Ce R vs H1
theorem jZ {a:Expr}{ta:TA}(i:Gl X "range")(l:X.mg "range" = none)(m:PA X [a] ta)(hs:starEach [a] X.env=[(false,eval a X.env)]:=by rfl):PI X tg (.Call (.Name "range" p) [a] [] pos) (Hr ta):=by
 intro pins s σ H R I h;refine Call_ (jA I i l boot_range (PyProof.Rows.callWith_type1 (fV (m pos pins s σ H _ I h) ?_) hs rfl));rintro us v ⟨vs,H1,g,d,b⟩;obtain⟨j,e,b,o,q⟩:=b;subst e;cases d with
 |cons r rr=>
  cases rr;obtain⟨t,rfl⟩:=r;exact call_range_1 (zW g (by lia) (by lia) b o (by simpa using q))
def IG (wi:TI)(g:TG)(tb:TS):TS:=fun D σ H=>wi σ H fun J H1=>∃W:Nat→Nat→St→Hp→Prop,(∃m,W 0 m σ H1)∧∀i m σ H,W i m σ H→
 (J.stop i H∧D.nx σ H)∨(J.go i H∧∃N:St→Hp→Prop,(∀σ' H',N σ' H'→∃m',m'<m∧W (i+1) m' σ' H')∧∀x H',J.yld i H x H'→g x σ H' fun σ2 H2=>tb {D with nx:=N,ct:=N,bk:=D.nx} σ2 H2)
def pO (fp:List Addr)(h:Heap):List (Addr×Obj):=fp.filterMap fun b=>(h.get? b).map fun o=>(b,o)
theorem kz {o:Obj}(hb:b∈fp)(e:h.get? b=some o):(b,o)∈pO fp h:=List.mem_filterMap.mpr ⟨b,hb,by rw[e];rfl⟩
theorem yC {p:Addr×Obj}(hp:p∈pO fp h):p.1∈fp∧h.get? p.1=some p.2:=by
 obtain⟨b,d,e⟩:=List.mem_filterMap.mp hp;cases q:h.get? b with
 |none=>rw[q]at e;cases e
 |some o=>
  rw[q]at e;have a:(b,o)=p:=Option.some.inj e;subst a;exact⟨d,q⟩
theorem eU.pinned (I:eU X pins σ H s)(hf:∀b∈fp,jG X pins H b)(ho:∀b∈fp,∃o,s.heap.get? b=some o∧∀v,o.data≠.cell v):eU X (pins++pO fp s.heap) σ H s:=
 I.Km fun p hp=>(aB.mp hp).elim (fun z=>I.pin p (aM _ z)) fun z=>by
  obtain⟨hb,e⟩:=yC z;obtain⟨f0,f1,f2,_⟩:=hf p.1 hb;obtain⟨o,e',d⟩:=ho p.1 hb;rw[e]at e';cases e';exact⟨e,f0,f1,f2,d⟩
theorem eU.Kt {pl:List (Addr×Obj)}(I:eU X (pins++pl) σ H s):eU X pins σ H s:=I.Km fun p hp=>I.pin p (aM _ (aQ _ hp))
theorem fZ {iter:Expr}{wi:TI}(hp:PassesOwn (model X.prog X.w) X.A X.env X.xe)(U:X.calm=true)(hi:PI X tg iter wi)(hg:PG X tg g)(a:nX X body tb)(hs:∀x,foldedSetIterable iter X.env x=pure x:=by intro _;rfl):PS X (.For tg iter body [] pos) (IG wi g tb):=by
 intro pins s σ H D I h;refine wpAny_For (fV (hi pins s σ H _ I h) fun v s1 h1=>fV h1 fun aa s2 h2=>?_) hs;obtain⟨it,fp,R,J,H2,e,I2,T,F,Q,W,⟨m0,w0⟩,C⟩:=h2;subst e;have l:∀{H':Hp},(∀b∈fp,H' b=none)→∀b∈fp,jG X pins H' b:=fun hn b a=>⟨hn b a,(Q b a).2⟩;refine codeAny_forLoop_any (fun n s'=>∃i σ' H',eU X pins σ' H' s'∧R i s'.heap∧(∀b∈fp,H' b=none)∧W i n σ' H') ?_ m0 ⟨0,σ,H2,I2,F,fun b a=>(Q b a).1,w0⟩;rintro n S ⟨i,σ3,E,P,Gz,z,w3⟩;rcases C i n σ3 E w3 with ⟨stop,qn⟩ | ⟨go,N,hN,step⟩
 ·refine cR hp (fV (T.done X rfl rfl rfl U i pins S σ3 E X.xe P (l z) Gz stop) ?_);rintro r s4 ⟨K,I4⟩;subst K;exact wpAny_execs_nil ⟨σ3,E,I4,qn⟩
 ·refine cR hp (fV (T.item X rfl rfl rfl U i pins S σ3 E X.xe P (l z) Gz go) ?_);rintro r s4 ⟨u,K,h4⟩;subst K;refine cR hp (fV h4 ?_);rintro _ Y ⟨x,O,I5,r5,y5,y,L⟩;have M:=I5.pinned (l L) (T.obj _ _ y);refine cR hp (fV (hg _ Y σ3 O x u _ M r5 (step x O y5)) ?_);rintro _ s6 ⟨σ6,Z,I6,q6⟩;refine cR hp (fV (a _ s6 σ6 Z _ I6 q6) fun f G t=>?_);have p:∀{σ7:St} {q:Hp},eU X (pins++pO fp Y.heap) σ7 q G→N σ7 q→∃m,m<n∧∃i σ' H',eU X pins σ' H' G∧R i G.heap∧(∀b∈fp,H' b=none)∧W i m σ' H':=fun {σ7 q} j B=>by
   obtain⟨m',hm,w7⟩:=hN σ7 q B;refine⟨m',hm,i+1,σ7,q,j.Kt,T.keep _ _ _ y fun b a o e=>(j.pin (b,o) (aM _ (aM _ (kz a e)))).1,fun b a=>?_,w7⟩;obtain⟨o,e,d⟩:=T.obj _ _ y b a;exact(j.pin (b,o) (aM _ (aM _ (kz a e)))).2.1
  cases f with
  |next=>obtain⟨σ7,q,j,B⟩:=t;exact p j B
  |cont=>obtain⟨σ7,q,j,B⟩:=t;exact p j B
  |brk=>obtain⟨σ7,q,j,t⟩:=t;exact⟨σ7,q,j.Kt,t⟩
  |ret v=>obtain⟨x7,σ7,q,j,r7,t⟩:=t;exact⟨x7,σ7,q,j.Kt,r7,t⟩
theorem gq (b:Nat→St→Hp→Prop)(o:b 0 σ H)(h:∀i σ H,i≤xs.length→b i σ H→fb K H a xs)(l:∀i x σ H,xs[i]?=some x→b i σ H→g x σ H fun σ2 H2=>tb {D with nx:=b (i+1),ct:=b (i+1),bk:=D.nx} σ2 H2)(d:∀σ H,b xs.length σ H→D.nx σ H):∃W:Nat→Nat→St→Hp→Prop,(∃m,W 0 m σ H)∧∀i m σ H,W i m σ H→((FW K a).stop i H∧D.nx σ H)∨((FW K a).go i H∧∃N:St→Hp→Prop,(∀σ' H',N σ' H'→∃m',m'<m∧W (i+1) m' σ' H')∧∀x H',(FW K a).yld i H x H'→g x σ H' fun σ2 H2=>tb {D with nx:=N,ct:=N,bk:=D.nx} σ2 H2):=by
 refine⟨fun i m σ H=>m=xs.length-i∧i≤xs.length∧b i σ H,⟨xs.length,by simp,bo _,o⟩,?_⟩;rintro i m σ H ⟨rfl,hi,p⟩;have q:=h i σ H hi p;by_cases hlt:i<xs.length
 ·refine .inr ⟨⟨xs,xs[i],q,by simp[hlt]⟩,b (i+1),fun σ' H' j=>⟨xs.length-(i+1),by lia,rfl,hlt,j⟩,fun x H' y=>?_⟩;obtain⟨e,y⟩:=y;subst e;exact l i x σ _ (y xs q) p
 ·have e:i=xs.length:=by lia
  subst e;exact .inl ⟨⟨xs,q,aq _⟩,d σ H p⟩
theorem lJ {lo:Int}{n:Nat}(a:Nat→St→Hp→Prop)(j:a 0 σ H)(h:∀i σ H,i<n→a i σ H→g (.int (lo+i)) σ H fun σ2 H2=>tb {D with nx:=a (i+1),ct:=a (i+1),bk:=D.nx} σ2 H2)(b:∀σ H,a n σ H→D.nx σ H):∃W:Nat→Nat→St→Hp→Prop,(∃m,W 0 m σ H)∧∀i m σ H,W i m σ H→((FV lo n).stop i H∧D.nx σ H)∨((FV lo n).go i H∧∃N:St→Hp→Prop,(∀σ' H',N σ' H'→∃m',m'<m∧W (i+1) m' σ' H')∧∀x H',(FV lo n).yld i H x H'→g x σ H' fun σ2 H2=>tb {D with nx:=N,ct:=N,bk:=D.nx} σ2 H2):=by
 refine⟨fun i m σ H=>m=n-i∧i≤n∧a i σ H,⟨n,by simp,bo _,j⟩,?_⟩;rintro i m σ H ⟨rfl,hi,p⟩;by_cases hlt:i<n
 ·refine .inr ⟨hlt,a (i+1),fun σ' H' d=>⟨n-(i+1),by lia,rfl,hlt,d⟩,fun x H' y=>?_⟩;obtain⟨e,y⟩:=y;subst e y;exact h i σ _ hlt p
 ·have e:i=n:=by lia
  subst e;exact .inl ⟨aq _,b σ H p⟩
abbrev R2:=V→V→Hp→VK→Prop
def ot (X:Cx)(f:Value→Value→Sem Value)(r:R2):Prop:=
 ∀(pins:List (Addr×Obj)) (s:Shared) (σ:St) (H:Hp) (x y:V) (v u:Value) (Q:VK),eU X pins σ H s→eY x v→eY y u→r x y H Q→
  wpAny (model X.prog X.w) X.A (f v u) (EP X pins σ Q) X.xe s
def Ip (X:Cx)(f:Value→Sem Value)(r:V→Hp→VK→Prop):Prop:=
 ∀(pins:List (Addr×Obj)) (s:Shared) (σ:St) (H:Hp) (x:V) (v:Value) (Q:VK),eU X pins σ H s→eY x v→r x H Q→
  wpAny (model X.prog X.w) X.A (f v) (EP X pins σ Q) X.xe s
def jr (X:Cx)(f:Value)(r:List V→Hp→VK→Prop):Prop:=
 ∀(pins:List (Addr×Obj)) (s:Shared) (σ:St) (H:Hp) (xs:List V) (us:List Value) (Q:VK),eU X pins σ H s→fN xs us→r xs H Q→
  wpAny (model X.prog X.w) X.A (call f us) (EP X pins σ Q) X.xe s
def Jq (X:Cx)(r:V→Hp→(Bool→Hp→Prop)→Prop):Prop:=
 ∀(pins:List (Addr×Obj)) (s:Shared) (σ:St) (H:Hp) (x:V) (v:Value) (Q:Bool→Hp→Prop),eU X pins σ H s→eY x v→r x H Q→
  wpAny (model X.prog X.w) X.A (truthy v) (TP X pins σ Q) X.xe s
def Ie (r:R2)(ta tb:TE):TE:=fun σ H Q=>ta σ H fun x H1=>tb σ H1 fun y H2=>r x y H2 Q
def JR (r:V→Hp→VK→Prop)(ta:TE):TE:=fun σ H Q=>ta σ H fun x H1=>r x H1 Q
inductive JO (C:Int→Int→Prop)(g:Int→Int→V)(x:V)(y:V)(H:Hp)(Q:VK):Prop
 |mk (i j:_)(_:x=.int i)(_:y=.int j)(_:C i j)(_:Q (g i j) H):JO C g x y H Q
def rI (C:Int→Int→Prop)(g:Int→Int→V):R2:=fun x y H Q=>JO C g x y H Q
inductive HV (g:Int→Int→V)(x:V)(y:V)(H:Hp)(Q:VK):Prop
 |mk (i j:_)(_:x=.int i)(_:y=.int j)(_:Q (g i j) H):HV g x y H Q
def Ck (g:Int→Int→V):R2:=fun x y H Q=>HV g x y H Q
inductive JN (g:Int→V)(x:V)(H:Hp)(Q:VK):Prop
 |mk (i:_)(_:x=.int i)(_:Q (g i) H):JN g x H Q
def rU (g:Int→V):V→Hp→VK→Prop:=fun x H Q=>JN g x H Q
section
variable {a b c:Expr}{tb tc:TE}
theorem FR (m:PE X a ta)(i:PE X b tb){R:V→V→Hp→Prop}(I:eU X pins σ H s)(h:ta σ H fun x H1=>tb σ H1 fun y H2=>R x y H2){Q:Value→Shared→Prop}{f:Value→Value→Sem Value}(d:∀v u s2 x y H2,eU X pins σ H2 s2→eY x v→eY y u→R x y H2→wpAny (model X.prog X.w) X.A (f v u) Q X.xe s2):wpAny (model X.prog X.w) X.A (eval a X.env) (fun v s₁=>wpAny (model X.prog X.w) X.A (eval b X.env) (fun u s₂=>wpAny (model X.prog X.w) X.A (f v u) Q X.xe s₂) X.xe s₁) X.xe s:=by
 refine fV (m pins s σ H _ I h) ?_;rintro v g ⟨x,H1,j,e,o⟩;refine fV (i pins g σ H1 _ j o) ?_;rintro u s2 ⟨y,H2,p,l,q⟩;exact d v u s2 x y H2 p e l q
theorem fm {op:Operator}(d:ot X (binaryOp op) r)(l:PE X a ta)(g:PE X b tb):PE X (.BinOp a op b pos) (Ie r ta tb):=by
 intro pins s σ H Q I h;exact wpAny_BinOp (FR l g I h fun v u j x y H2 m e i q=>d pins j σ H2 x y v u Q m e i q)
theorem iX {op:UnaryOp}{r:V→Hp→VK→Prop}(b:Ip X (unaryOp op) r)(d:PE X a ta):PE X (.UnaryOp op a pos) (JR r ta):=by
 intro pins s σ H Q I h;exact UnaryOp_ (fV (d pins s σ H _ I h) (by rintro v i ⟨x,H1,j,e,g⟩;exact b pins i σ H1 x v Q j e g))
theorem Ih {f:Value→Value→Sem Value}{C:Int→Int→Prop}{g:Int→Int→Int}(a:∀(i j:Int) (t u:Tok) (s:Shared) (Q:Value→Shared→Prop) (E:Value→Shared→Prop),C i j→Q (.int (g i j) s.toks) {s with toks:=s.toks+1}→wpAny (model X.prog X.w) X.A (f (.int i t) (.int j u)) Q E s):ot X f (rI C fun i j=>.int (g i j)):=by
 intro pins s σ H x y v u Q I b d h;obtain⟨i,j,rfl,rfl,e,q⟩:=h;obtain⟨t,rfl⟩:=b;obtain⟨t',rfl⟩:=d;exact a i j t t' s _ _ e ⟨.int (g i j),H,I.tok _,⟨_,rfl⟩,q⟩
theorem C3 {f:Value→Value→Sem Value}{g:Int→Int→Int}(a:∀(i j:Int) (t u:Tok) (s:Shared) (Q:Value→Shared→Prop) (E:Value→Shared→Prop),Q (.int (g i j) s.toks) {s with toks:=s.toks+1}→wpAny (model X.prog X.w) X.A (f (.int i t) (.int j u)) Q E s):ot X f (Ck fun i j=>.int (g i j)):=by
 intro pins s σ H x y v u Q I b d h;obtain⟨i,j,rfl,rfl,q⟩:=h;obtain⟨t,rfl⟩:=b;obtain⟨t',rfl⟩:=d;exact a i j t t' s _ _ ⟨.int (g i j),H,I.tok _,⟨_,rfl⟩,q⟩
theorem C4 {f:Value→Value→Sem Value}{g:Int→Int→Bool}(a:∀(i j:Int) (t u:Tok) (s:Shared) (Q:Value→Shared→Prop) (E:Value→Shared→Prop),Q (.bool (g i j)) s→wpAny (model X.prog X.w) X.A (f (.int i t) (.int j u)) Q E s):ot X f (Ck fun i j=>.bl (g i j)):=by
 intro pins s σ H x y v u Q I b d h;obtain⟨i,j,rfl,rfl,q⟩:=h;obtain⟨t,rfl⟩:=b;obtain⟨t',rfl⟩:=d;exact a i j t t' s _ _ ⟨.bl (g i j),H,I,rfl,q⟩
def Jy (i j:Int):Prop:=0<j∧j<1073741824
def Jx (i j:Int):Prop:=0≤j∧j≤1000000∧i.natAbs<2^64
def F0 (i j:Int):Prop:=(-(2^64)<i∧i<2^64)∨(-(2^64)<j∧j<2^64)
theorem F0.ok {i j:Int}(h:F0 i j):IntMulOk i j:=by
 rcases h with ⟨h1,h2⟩ | ⟨h1,h2⟩
 ·exact .of_left (intBits_le_64 h1 h2)
 ·exact .of_right (intBits_le_64 h1 h2)
theorem l6:ot X (binaryOp .Add) (Ck fun i j=>.int (i+j)):=C3 fun _ _ _ _ _ _ _ q=>add_int q
theorem As:ot X (binaryOp .Sub) (Ck fun i j=>.int (i-j)):=C3 fun _ _ _ _ _ _ _ q=>sub_int q
theorem sJ:ot X (binaryOp .Mult) (rI F0 fun i j=>.int (i*j)):=Ih fun _ _ _ _ _ _ _ hc q=>mul_int q hc.ok
theorem jL:ot X (binaryOp .FloorDiv) (rI Jy fun i j=>.int (i / j)):=Ih fun i j _ _ _ _ _ hc q=>by
 have h1:(0:Int)<j:=hc.1;have h2:j<1073741824:=hc.2;exact floordiv_int (by lia) (by rw[Int.fdiv_eq_ediv_of_nonneg i (by lia)];exact q) (.inl (PyProof.noPylong_small (by lia)))
theorem kr:ot X (binaryOp .Mod) (rI (fun _ j=>0<j) fun i j=>.int (i % j)):=Ih fun i j _ _ _ _ _ hc q=>by
 have h1:(0:Int)<j:=hc;exact mod_int' (by lia) (by rw[Int.fmod_eq_emod_of_nonneg i (by lia)];exact q)
theorem vA:ot X (binaryOp .Pow) (rI Jx fun i j=>.int (i^j.toNat)):=Ih fun _ _ _ _ _ _ _ hc q=>pow_int_small hc.1 hc.2.1 hc.2.2 q
theorem hJ:ot X (binaryOp .BitAnd) (Ck fun i j=>.int (Builtin.bitAnd i j)):=C3 fun _ _ _ _ _ _ _ q=>and_int q
theorem qJ:ot X (binaryOp .BitOr) (Ck fun i j=>.int (Builtin.bitOr i j)):=C3 fun _ _ _ _ _ _ _ q=>or_int q
theorem Jz {f:Value→Sem Value}{g:Int→Int}(a:∀(i:Int) (t:Tok) (s:Shared) (Q:Value→Shared→Prop) (E:Value→Shared→Prop),Q (.int (g i) s.toks) {s with toks:=s.toks+1}→wpAny (model X.prog X.w) X.A (f (.int i t)) Q E s):Ip X f (rU fun i=>.int (g i)):=by
 intro pins s σ H x v Q I b h;obtain⟨i,rfl,q⟩:=h;obtain⟨t,rfl⟩:=b;exact a i t s _ _ ⟨.int (g i),H,I.tok _,⟨_,rfl⟩,q⟩
theorem jU:Ip X (unaryOp .USub) (rU fun i=>.int (-i)):=Jz fun _ _ _ _ _ q=>neg_int q
theorem kM:Ip X (unaryOp .Invert) (rU fun i=>.int (Builtin.bitNot i)):=Jz fun _ _ _ _ _ q=>invert_int q
end
def GD:V→V→Bool
 |.non,.non=>true | .non,.int _=>true | .int _,.non=>true | .non,.bl _=>true | .bl _,.non=>true | .non,.str _=>true | .str _,.non=>true
 |.int _,.int _=>true | .bl _,.bl _=>true | .str _,.str _=>true | .byt _,.byt _=>true
 |.int _,.str _=>true | .str _,.int _=>true | .bl _,.str _=>true | .str _,.bl _=>true
 |_,_=>false
def JY:R2:=fun x y H Q=>GD x y=true∧Q (.bl (decide (x=y))) H
def JX:R2:=fun x y H Q=>GD x y=true∧Q (.bl (!decide (x=y))) H
theorem w9 {i j:Int}:decide (V.int i=V.int j)=(i == j):=by
 rw[cW];simp
theorem Br {i j:Bool}:decide (V.bl i=V.bl j)=(i == j):=by
 rw[cW];simp
theorem w6 {i j:Str}:decide (V.str i=V.str j)=(i == j):=by
 rw[cW];simp
theorem xb {i j:Array UInt8}:decide (V.byt i=V.byt j)=(i.toList == j.toList):=by
 rw[cW];cases i;cases j;simp
section
variable {a b c:Expr}{tb tc:TE}
theorem gc {Q:VK}{k k':Bool}(I:eU X pins σ H s)(q:Q (.bl k) H)(e:k=k'):EP X pins σ Q (.bool k') s:=by
 subst e;exact⟨.bl k,H,I,rfl,q⟩
theorem kE:ot X (compareOp .Eq) JY:=by
 intro pins s σ H x y v u Q I d a h;obtain⟨b,q⟩:=h;cases x with
 |non=>
  cases d;cases y with
  |non=>cases a;exact PySem.EqNone.eq_none_none (gc I q (by simp))
  |bl j=>cases a;exact PySem.EqNone.eq_none_bool (gc I q (by simp))
  |int j=>obtain⟨t',rfl⟩:=a;exact PySem.EqNone.eq_none_int (gc I q (by simp))
  |str j=>obtain⟨t',rfl⟩:=a;exact PySem.EqNone.eq_none_str (gc I q (by simp))
  |_=>exact absurd (show false=true from b) aK
 |bl i=>
  cases d;cases y with
  |non=>cases a;exact PySem.EqNone.eq_bool_none (gc I q (by simp))
  |bl j=>cases a;exact eq_bool (gc I q Br)
  |str j=>obtain⟨t',rfl⟩:=a;exact PySem.EqMixed.eq_bool_str (gc I q (by simp))
  |_=>exact absurd (show false=true from b) aK
 |int i=>
  obtain⟨t,rfl⟩:=d;cases y with
  |non=>cases a;exact PySem.EqNone.eq_int_none (gc I q (by simp))
  |int j=>obtain⟨t',rfl⟩:=a;exact eq_int (gc I q w9)
  |str j=>obtain⟨t',rfl⟩:=a;exact PySem.EqMixed.eq_int_str (gc I q (by simp))
  |_=>exact absurd (show false=true from b) aK
 |str i=>
  obtain⟨t,rfl⟩:=d;cases y with
  |non=>cases a;exact PySem.EqNone.eq_str_none (gc I q (by simp))
  |bl j=>cases a;exact PySem.EqMixed.eq_str_bool (gc I q (by simp))
  |int j=>obtain⟨t',rfl⟩:=a;exact PySem.EqMixed.eq_str_int (gc I q (by simp))
  |str j=>obtain⟨t',rfl⟩:=a;exact eq_str (gc I q w6)
  |_=>exact absurd (show false=true from b) aK
 |byt i=>
  obtain⟨t,rfl⟩:=d;cases y with
  |byt j=>obtain⟨t',rfl⟩:=a;exact W.eq_bytes (gc I q xb)
  |_=>exact absurd (show false=true from b) aK
 |_=>cases y <;> exact absurd (show false=true from b) aK
theorem kZ:ot X (compareOp .NotEq) JX:=by
 intro pins s σ H x y v u Q I d a h;obtain⟨b,q⟩:=h;cases x with
 |non=>
  cases d;cases y with
  |non=>cases a;exact PySem.EqNone.ne_none_none (gc I q (by simp))
  |bl j=>cases a;exact PySem.EqNone.ne_none_bool (gc I q (by simp))
  |int j=>obtain⟨t',rfl⟩:=a;exact PySem.EqNone.ne_none_int (gc I q (by simp))
  |str j=>obtain⟨t',rfl⟩:=a;exact PySem.EqNone.ne_none_str (gc I q (by simp))
  |_=>exact absurd (show false=true from b) aK
 |bl i=>
  cases d;cases y with
  |non=>cases a;exact PySem.EqNone.ne_bool_none (gc I q (by simp))
  |bl j=>cases a;exact ne_bool (gc I q (congrArg not Br))
  |str j=>obtain⟨t',rfl⟩:=a;exact PySem.EqMixed.ne_bool_str (gc I q (by simp))
  |_=>exact absurd (show false=true from b) aK
 |int i=>
  obtain⟨t,rfl⟩:=d;cases y with
  |non=>cases a;exact PySem.EqNone.ne_int_none (gc I q (by simp))
  |int j=>obtain⟨t',rfl⟩:=a;exact ne_int (gc I q (congrArg not w9))
  |str j=>obtain⟨t',rfl⟩:=a;exact PySem.EqMixed.ne_int_str (gc I q (by simp))
  |_=>exact absurd (show false=true from b) aK
 |str i=>
  obtain⟨t,rfl⟩:=d;cases y with
  |non=>cases a;exact PySem.EqNone.ne_str_none (gc I q (by simp))
  |bl j=>cases a;exact PySem.EqMixed.ne_str_bool (gc I q (by simp))
  |int j=>obtain⟨t',rfl⟩:=a;exact PySem.EqMixed.ne_str_int (gc I q (by simp))
  |str j=>obtain⟨t',rfl⟩:=a;exact ne_str (gc I q (congrArg not w6))
  |_=>exact absurd (show false=true from b) aK
 |byt i=>
  obtain⟨t,rfl⟩:=d;cases y with
  |byt j=>obtain⟨t',rfl⟩:=a;exact W.ne_bytes (gc I q (congrArg not xb))
  |_=>exact absurd (show false=true from b) aK
 |_=>cases y <;> exact absurd (show false=true from b) aK
theorem wK:ot X (compareOp .Lt) (Ck fun i j=>.bl (decide (i<j))):=C4 fun _ _ _ _ _ _ _ q=>lt_int q
theorem wL:ot X (compareOp .LtE) (Ck fun i j=>.bl (decide (i≤j))):=C4 fun _ _ _ _ _ _ _ q=>le_int q
theorem DP:ot X (compareOp .Gt) (Ck fun i j=>.bl (decide (j<i))):=C4 fun _ _ _ _ _ _ _ q=>gt_int q
theorem DQ:ot X (compareOp .GtE) (Ck fun i j=>.bl (decide (j≤i))):=C4 fun _ _ _ _ _ _ _ q=>ge_int q
theorem fF (b:Expr)(h:op≠.In:=by decide)(h2:op≠.NotIn:=by decide):behindInMarks op b=false:=by
 have d:(op == CmpOp.In)=false:=by cases op <;> first | rfl | exact absurd rfl h
 have a:(op == CmpOp.NotIn)=false:=by cases op <;> first | rfl | exact absurd rfl h2
 cases b <;> simp[behindInMarks,d,a]
theorem jJ (d:ot X (compareOp op) r)(m:PE X a ta)(g:PE X b tb)(j:behindInMarks op b=false):PE X (.Compare a [op] [b] pos) (Ie r ta tb):=by
 intro pins s σ H Q I h;exact wpAny_Compare1 (FR m g I h fun v u l x y H2 o e i q=>d pins l σ H2 x y v u Q o e i q) j
inductive BX (Q:Bool→Hp→Prop)(x:V)(H':Hp):Prop
 |mk (k:_)(_:x=.bl k)(_:Q k H'):BX Q x H'
def Gh (t:TE):TT:=fun σ H Q=>t σ H fun x H'=>BX Q x H'
theorem fi (g:ot X (compareOp op) r)(A:PE X a ta)(l:PE X b tb)(q:behindInMarks op b=false):PT X (.Compare a [op] [b] pos) (Gh (Ie r ta tb)):=by
 intro pins s σ H Q I h;refine wpAny_isTrue_Compare1 (fV (A pins s σ H _ I h) fun v j ⟨x,H1,m,i,B⟩=>fV (l pins j σ H1 _ m B) fun u w ⟨y,H2,D,p,E⟩=>fV (g pins w σ H2 x y v u _ D i p E) fun c F ⟨z,o,t,d,k,e,C⟩=>?_) q;subst e;cases d;exact bR ⟨o,t,C⟩
inductive xP (r':R2)(tc:TE)(σ:St)(Q:VK)(y:V)(z:V)(H3:Hp):Prop
 |mk (k:_)(_:z=.bl k)(_:(if k=true then tc σ H3 fun w' H4=>r' y w' H4 Q else Q (.bl false) H3)):xP r' tc σ Q y z H3
def EF (r r':R2)(ta tb tc:TE):TE:=fun σ H Q=>ta σ H fun x H1=>tb σ H1 fun y H2=>r x y H2 fun z H3=>xP r' tc σ Q y z H3
theorem Al {op':CmpOp}{r':R2}(L:ot X (compareOp op) r)(g:ot X (compareOp op') r')(P:PE X a ta)(A:PE X b tb)(J:PE X c tc)(hm:lastMarks [op,op'] [b,c]=false:=by with_unfolding_all rfl):PE X (.Compare a [op,op'] [b,c] pos) (EF r r' ta tb tc):=by
 intro pins s σ H Q I h;refine Compare_chain (fV (P pins s σ H _ I h) fun v N ⟨x,H1,C,t,G⟩=>chain_link (fV (A pins N σ H1 _ C G) fun u F ⟨y,H2,K,m,R⟩=>fV (L pins F σ H2 x y v u _ K t m R) fun d O ⟨z,i,j,q,k,e,l⟩=>?_)) hm;subst e;cases q;refine bR ?_;cases k with
 |false=>exact ite_ff ⟨.bl false,i,j,rfl,l⟩
 |true=>exact ite_tt (chain_last (fV (J pins O σ i _ j l) (by rintro p o ⟨B,E,w,D,M⟩;exact g pins o σ E y B u p Q w m D M)))
def HB (K:W.Frag)(x:V)(H:Hp)(k:Bool):Prop:=
 match x with
 |.non=>k=false
 |.bl b=>k=b
 |.int i=>k=(i != 0)
 |.str y=>y.length≤sizeLine∧k=((y.length:Int) != 0)
 |.byt y=>y.size≤sizeLine∧k=((y.size:Int) != 0)
 |.ref p=>(∃xs,fb K H p xs∧k=!xs.isEmpty)∨(∃xs,gy K H p xs∧k=!xs.isEmpty)∨∃kvs,H p=some (.dK kvs)∧k=!kvs.isEmpty
 |_=>False
theorem pZ {κ:Type}{kvs:List (κ×V)}{vs:List (κ×Value)}(r:KV kvs vs):(!vs.isEmpty)=!kvs.isEmpty:=by
 cases r <;> rfl
theorem pY {its:List Value}(r:fN xs its):(!its.toArray.isEmpty)=!xs.isEmpty:=by
 cases r <;> simp
theorem sV:(sizeLine:Nat)<2^63:=by rw[ck];decide
theorem zq:Jq X (fun x H Q=>∃k,HB X.K x H k∧Q k H):=by
 intro pins s σ H x v Q I g h;obtain⟨k,e,q⟩:=h;have z:=sV;have A:sizeLine=16777216:=ck;cases x with
 |non=>
  cases g;have a:k=false:=e;subst a;exact truthy_none ⟨H,I,q⟩
 |bl b=>
  cases g;have a:k=b:=e;subst a;exact bR ⟨H,I,q⟩
 |int i=>
  obtain⟨t,rfl⟩:=g;have a:k=(i != 0):=e;subst a;exact PySem.P.truthy_int ⟨H,I,q⟩
 |str y=>
  obtain⟨t,rfl⟩:=g;obtain⟨hy,a⟩:y.length≤sizeLine∧k=((y.length:Int) != 0):=e;subst a;exact PySem.P.truthy_str (by lia) ⟨H,I.tok _,q⟩
 |byt y=>
  obtain⟨t,rfl⟩:=g;obtain⟨hy,a⟩:y.size≤sizeLine∧k=((y.size:Int) != 0):=e;subst a;exact W.truthy_bytes (by lia) ⟨H,I.tok _,q⟩
 |ref p=>
  cases g;have a:(∃xs,fb X.K H p xs∧k=!xs.isEmpty)∨(∃xs,gy X.K H p xs∧k=!xs.isEmpty)∨∃kvs,H p=some (.dK kvs)∧k=!kvs.isEmpty:=e;rcases a with ⟨xs,j,a⟩ | ⟨xs,j,a⟩ | ⟨kvs,j,a⟩
  ·subst a;obtain⟨l,r,pl,o⟩:=I.list j;have d:=r.length;exact wpAny_truthy_list pl.isList (by simp only[aO];lia) ⟨H,I.tok _,by rw[pY r];exact q⟩
  ·subst a;obtain⟨l,r,pl,o⟩:=I.tuple j;have d:=r.length;exact truthy_tuple pl (by simp only[aO];lia) ⟨H,I.tok _,by rw[pY r];exact q⟩
  ·subst a;obtain⟨o,hS,vs,r,m⟩:kvs.length≤sizeLine∧(p == sysModules)=false∧∃vs,KV kvs vs∧s.heap.DictOf (fE X.prog X.w) p vs:=I.hok p _ j;have d:kvs.length=vs.length:=Paired.length r;exact wpAny_truthy_dict hS m (by lia) ⟨H,I.tok _,by rw[pZ r];exact q⟩
 |_=>exact(show False from e).elim
theorem iB (d:PE X a ta)(b:∀whole,isTrue a X.env whole=(do let v ←whole;standAt a.pos;holding [v] (truthy v))):PT X a (fun σ H Q=>ta σ H fun x H'=>∃k,HB X.K x H' k∧Q k H'):=by
 intro pins s σ H Q I h;exact isTrue_plain (fV (d pins s σ H _ I h) (by rintro v i ⟨x,H1,j,e,g⟩;exact zq pins i σ H1 x v Q j e g)) (b _)
theorem jo {x:V}(r:fN [x] us):∃u,us=[u]∧eY x u:=by
 cases r with
 |cons r1 r2=>cases r2;exact⟨_,rfl,r1⟩
theorem tS {x:V}(r:fN [x,y] us):∃u w',us=[u,w']∧eY x u∧eY y w':=by
 cases r with
 |cons r1 r2=>
  cases r2 with
  |cons r3 r4=>cases r4;exact⟨_,_,rfl,r1,r3⟩
theorem yW (a:X.calm=true):jr X (.builtin "max") (fun xs H Q=>∃i j,xs=[.int i,.int j]∧Q (.int (if j>i then j else i)) H):=by
 intro pins s σ H xs us Q I r h;obtain⟨i,j,rfl,q⟩:=h;obtain⟨u,b,rfl,⟨t,rfl⟩,⟨t',rfl⟩⟩:=tS r;refine max_two_ints (I.ok.hd a) fun h' tk k=>⟨_,H,I.kept k,?_,q⟩;by_cases hj:j>i
 ·rw[if_pos hj,if_pos hj];exact⟨_,rfl⟩
 ·rw[if_neg hj,if_neg hj];exact⟨_,rfl⟩
theorem yV (a:X.calm=true):jr X (.builtin "min") (fun xs H Q=>∃i j,xs=[.int i,.int j]∧Q (.int (if j<i then j else i)) H):=by
 intro pins s σ H xs us Q I r h;obtain⟨i,j,rfl,q⟩:=h;obtain⟨u,b,rfl,⟨t,rfl⟩,⟨t',rfl⟩⟩:=tS r;refine min_two_ints (I.ok.hd a) fun h' tk k=>⟨_,H,I.kept k,?_,q⟩;by_cases hj:j<i
 ·rw[if_pos hj,if_pos hj];exact⟨_,rfl⟩
 ·rw[if_neg hj,if_neg hj];exact⟨_,rfl⟩
end
structure wt (h:Heap)(x dx C:Addr)(mA:Str→Option Value):Prop where
 obj:h.get? x=some (W.instObj C dx)
 ns:h.Ns1 dx mA
 ne:dx≠x
theorem yI (n:h.Ns1 dx mA):∃od,h.get? dx=some od∧∀name,W.lookIn name od=some (mA name):=by
 obtain⟨o,es,ep,g,d,l,_,j⟩:=n;refine⟨o,g,fun name=>?_⟩;have e:=j name;unfold nsFind findBy at e;rw[←Array.find?_toList]at e;unfold W.lookIn;rw[d];dsimp only
 split
 ·rename_i y q
  rw[q]at e;exact congrArg some e
 ·rename_i q
  rw[q]at e;have a:es.toList.any (·.refKey)=false:=by
   rw[List.any_eq_false];intro y i;obtain⟨z,t,b⟩:=l y (Array.mem_toList_iff.mp i);simp[DictEntry.refKey,b]
  have m:¬es.toList.any (·.refKey)=true:=by rw[a];exact aK
  rw[if_neg m];exact congrArg some e
theorem wt.look {x:Addr}(I:wt h x dx C mA):∃od,W.InstAt h x (W.instObj C dx) C (some od)∧∀name,W.lookIn name od=some (mA name):=
 let ⟨od,ho,hl⟩:=yI I.ns
 ⟨od,⟨I.obj,rfl,rfl,ho⟩,hl⟩
section
variable {prog:Program}{x f:Addr}{name:Str}{v:Value}
theorem Dt {expr:Bool}(X:K.In s.heap)(I:wt s.heap x dx C mA)(i:W.plainGet K C name=true)(g:W.hasDictIn K C=true)(e:W.findIn K (.ref C) name=some none)(d:mA name=some v)(a:W.handedIn v=true)(h:Q v {s with toks:=s.toks+1}):wpAny (model prog w) A (getAttr (.ref x) name expr) Q E s:=by
 obtain⟨j,J,b⟩:=I.look;exact W.get_value X J (W.plainGet_of i).1 (W.findObj_own g e rfl (by rw[b,d])) a h
theorem Bh {Q:Value×List Value→Shared→Prop}(X:K.In s.heap)(I:wt s.heap x dx C mA)(a:W.plainGet K C name=true)(b:W.findIn K (.ref C) name=some (some (.ref f)))(i:W.isFn K (.ref f)=true)(g:mA name=none)(h:Q (.ref f,[.ref x]) s):wpAny (model prog w) A (getMethod (.ref x) name pl) Q E s:=by
 obtain⟨d,J,e⟩:=I.look;exact W.method_fn X J (W.plainGet_of a).1 (W.plainGet_of a).2 b (beq_iff_eq.mp i) (by show(W.lookIn name d).map (·.isSome)=some false;rw[e,g];rfl) h
theorem Cw {ns:List Str}{Q:Unit→Shared→Prop}(X:K.In s.heap)(I:wt s.heap x dx C mA)(q:W.findIn K (.ref C) "__setattr__" = some (some (.builtin "object.__setattr__")))(hp:W.plainOver K C=true)(p:W.takerIn K C name=some none)(o:W.hasDictIn K C=true)(m:PySem.Within mA ns)(hsz:ns.length≤sizeLine)(h:∀h',wt h' x dx C (fun y=>if y=name then some v else mA y)→Heap.SameBut dx s.heap h'→Q () {s with heap:=h',toks:=s.toks+2}):wpAny (model prog w) A (setAttr (.ref x) name v) Q E s:=by
 obtain⟨H,J,F⟩:=I.look;refine W.set_plain X J q (W.osa_open (s:={s with toks:=s.toks+1}) (r:=none) X J hp p fun b=>?_);obtain⟨cd,B,j⟩:=W.any_some o;have t:s.heap.get? x=some ⟨.ref C,some dx,.plain,#[]⟩:=I.obj;refine ac (ar (ac (ac (wpAny_loadPart t (ac (W.Looks.here (s:={s with toks:=s.toks+1}) (W.looks_clsIn X B) ?_))))));rw[j];refine ar (a:=some dx) (ac (ar (ac ?_)));refine wpAny_nsSet1 (s:={s with toks:=s.toks+1}) I.ns fun h' e d=>?_;obtain⟨G,D,z,i,l,g⟩:=e.count (PySem.Within.cons name v m);refine ac (wpAny_lookBehind i (by rw[l];exact pastItsLine_dict (bw g (by rw[aA];lia))) ?_);exact ar (h _ ⟨(d.2 _ (Ne.symm I.ne)).trans I.obj,e,I.ne⟩ d)
theorem AM {R:Result→Shared→Prop}{vs:List Value}(X:K.In s.heap)(b:W.makesIn K C=true)(hi:W.findIn K (.ref C) "__init__" = some (some (.ref f)))(e:W.typeIn K (.ref f)=some (.type "function"))(h:codeAny (model prog w) (A.under (.builtin "type.__call__" ⟨.ref C::vs,kw⟩)) (.call (.ref f) ⟨.ref (s.heap.objs.size+1)::vs,kw⟩) (W.InitBack (s.heap.objs.size+1) R) {s with heap:=(s.heap.push W.emptyDict).push (W.instObj C s.heap.objs.size)}):codeAny (model prog w) A (.call (.ref C) ⟨vs,kw⟩) R s:=by
 obtain⟨j,g,d,t,i⟩:=s;exact W.make_core (W.makes_of X b) (W.looks_findIn X hi) (fun a=>W.bind_fn X a e) (.inl rfl) h
end
def fX (f:Str)(v:V):List (Str×V)→List (Str×V)
 |[]=>[(f,v)]
 |(g,x)::r=>if g=f then (g,v)::r else (g,x)::fX f v r
theorem io (f g:Str)(v:V):∀fs:List (Str×V),(fX f v fs).lookup g=if g=f then some v else fs.lookup g
 |[]=>by
  show List.lookup g [(f,v)]=_;by_cases h:g=f
  ·have hb:(g == f)=true:=beq_iff_eq.mpr h;simp only[List.lookup,hb,if_pos h]
  ·have hb:(g == f)=false:=beq_eq_false_iff_ne.mpr h;simp only[List.lookup,hb,if_neg h]
 |(k,x)::r=>by
  have ih:=io f g v r;rw[show fX f v ((k,x)::r)=(if k=f then (k,v)::r else (k,x)::fX f v r) from rfl];by_cases hk:k=f
  ·rw[if_pos hk];by_cases h:g=k
   ·have hb:(g == k)=true:=beq_iff_eq.mpr h;simp only[List.lookup,hb,if_pos (h.trans hk)]
   ·have hb:(g == k)=false:=beq_eq_false_iff_ne.mpr h;simp only[List.lookup,hb,if_neg (fun e:g=f=>h (e.trans hk.symm))]
  ·rw[if_neg hk];by_cases h:g=k
   ·have hb:(g == k)=true:=beq_iff_eq.mpr h;simp only[List.lookup,hb,if_neg (fun e:g=f=>hk (h.symm.trans e))]
   ·have hb:(g == k)=false:=beq_eq_false_iff_ne.mpr h;simp only[List.lookup,hb];exact ih
theorem nQ (f:Str)(v:V):∀fs:List (Str×V),f∈(fX f v fs).map (·.1)∧∀g,g∈fs.map (·.1)→g∈(fX f v fs).map (·.1)
 |[]=>⟨by simp[fX],fun g h=>by simp at h⟩
 |(k,x)::r=>by
  obtain⟨i1,i2⟩:=nQ f v r;rw[show fX f v ((k,x)::r)=(if k=f then (k,v)::r else (k,x)::fX f v r) from rfl];by_cases hk:k=f
  ·rw[if_pos hk];subst hk;exact⟨by simp,fun g h=>by simpa using h⟩
  ·rw[if_neg hk];refine⟨?_,fun g h=>?_⟩
   ·rw[aE];exact bi _ i1
   ·rw[aE]at h ⊢;rcases am.mp h with e | e
    ·exact am.mpr (.inl e)
    ·exact bi _ (i2 g e)
theorem ol (f:Str)(v:V):∀fs:List (Str×V),(fX f v fs).length≤fs.length+1
 |[]=>by simp[fX]
 |(k,x)::r=>by
  have ih:=ol f v r;rw[show fX f v ((k,x)::r)=(if k=f then (k,v)::r else (k,x)::fX f v r) from rfl];by_cases hk:k=f
  ·rw[if_pos hk,aA,aA];lia
  ·rw[if_neg hk,aA,aA];lia
theorem jx.some_of {o:Option Value}(r:jx (some v) o):∃u,o=some u∧eY v u:=by
 cases o with
 |none=>exact(show False from r).elim
 |some u=>exact⟨u,rfl,r⟩
theorem jx.none_of {o:Option Value}(r:jx none o):o=none:=by
 cases o with
 |none=>rfl
 |some u=>exact(show False from r).elim
theorem yR {u:Value}(r:eY v u):W.handedIn u=true:=by
 cases v with
 |non=>cases (show u=Value.none from r);rfl
 |bl b=>cases (show u=Value.bool b from r);rfl
 |int i=>obtain⟨t,e⟩:=(show ∃t,u=Value.int i t from r);cases e;rfl
 |str x=>obtain⟨t,e⟩:=(show ∃t,u=Value.str x t from r);cases e;rfl
 |byt b=>obtain⟨t,e⟩:=(show ∃t,u=Value.bytes b t from r);cases e;rfl
 |flt b=>obtain⟨t,e⟩:=(show ∃t,u=Value.float b t from r);cases e;rfl
 |ref a=>cases (show u=Value.ref a from r);rfl
 |ty n=>cases (show u=Value.type n from r);rfl
section
variable {fs fs':List (Str×V)}
theorem oR (b:lK P w H h)(e:H a=some (.ins C dx fs)):∃mA,wt h a dx C mA∧(∀f,jx (fs.lookup f) (mA f))∧PySem.Within mA (fs.map (·.1))∧fs.length≤1000∧H dx=some (.own a):=by
 obtain⟨d,z,g,i,mA,n,r,q⟩:=(show fH P w H h a (.ins C dx fs) from b a _ e);exact⟨mA,⟨i,n,g⟩,r,q,z,d⟩
end
structure qx (K:W.Frag)(C:Addr):Prop where
 pg:W.plainGet K C Str.empty=true
 hd:W.hasDictIn K C=true
 po:W.plainOver K C=true
 sa:W.findIn K (.ref C) "__setattr__" = some (some (.builtin "object.__setattr__"))
theorem qx.get (c:qx K C)(f:Str):W.plainGet K C f=true:=c.pg
def fU (K:W.Frag)(C:Addr)(f:Str):Prop:=W.findIn K (.ref C) f=some none
theorem fU.taker {f:Str}(n:fU K C f):W.takerIn K C f=some none:=by
 unfold W.takerIn;rw[show W.findIn K (.ref C) f=some none from n];rfl
structure za (K:W.Frag)(C:Addr)(m:Str)(f:Addr):Prop where
 at_:W.findIn K (.ref C) m=some (some (.ref f))
 fn:W.isFn K (.ref f)=true
 kp:W.keepIn K (.ref f)=true
section
variable {fs:List (Str×V)}{f:Str}
theorem me {b:Bool}(I:eU X pins σ H s)(e:H a=some (.ins C dx fs))(c:qx X.K C)(n:fU X.K C f)(l:fs.lookup f=some v)(h:∀u s',eU X pins σ H s'→eY v u→Q u s'):wpAny (model X.prog X.w) A (getAttr (.ref a) f b) Q E s:=by
 obtain⟨mA,O,r,_,_,_⟩:=oR I.hok e;obtain⟨u,g,d⟩:=jx.some_of (v:=v) (o:=mA f) (by rw[←l];exact r f);exact Dt I.kIn O (c.get f) c.hd n g (yR d) (h u _ (I.tok _) d)
theorem p4 {g:Addr}{Q:Value×List Value→Shared→Prop}(I:eU X pins σ H s)(e:H a=some (.ins C dx fs))(c:qx X.K C)(k:za X.K C m g)(l:fs.lookup m=none)(h:Q (.ref g,[.ref a]) s):wpAny (model X.prog X.w) A (getMethod (.ref a) m pl) Q E s:=by
 obtain⟨mA,O,r,_,_,_⟩:=oR I.hok e;have b:mA m=none:=jx.none_of (by rw[←l];exact r m);exact Bh I.kIn O (c.get m) k.at_ k.fn b h
theorem lW {u:Value}{Q:Unit→Shared→Prop}(I:eU X pins σ H s)(e:H a=some (.ins C dx fs))(c:qx X.K C)(n:fU X.K C f)(v:fs.length<1000)(l:eY y u)(h:∀s',eU X pins σ (upd H a (.ins C dx (fX f y fs))) s'→Q () s'):wpAny (model X.prog X.w) A (setAttr (.ref a) f u) Q E s:=by
 obtain⟨mA,O,r,wi,_,d⟩:=oR I.hok e;have t:(fs.map (·.1)).length≤sizeLine:=by rw[ab,ck];lia
 refine Cw I.kIn O c.sa c.po n.taker c.hd wi t fun h' O' m=>h _ ?_;have hd:∃o,h'.get? dx=some o:=(by obtain⟨o,_,_,p,_⟩:=O'.ns;exact⟨o,p⟩);refine I.write (x:=a) (e:=dx) (by rw[e];exact True.intro) (.inr d) (fun b q i z=>(m.2 b i).trans z) hd ?_;refine⟨by rw[ef O.ne];exact d,?_,O.ne,O'.obj,_,O'.ns,fun g=>?_,fun g j=>?_⟩
 ·have:=ol f y fs;lia
 ·show jx ((fX f y fs).lookup g) (if g=f then some u else mA g);rw[io];by_cases q:g=f
  ·rw[if_pos q,if_pos q];exact l
  ·rw[if_neg q,if_neg q];exact r g
 ·by_cases q:g=f
  ·rw[q];exact(nQ f y fs).1
  ·refine(nQ f y fs).2 g (wi g fun z=>j ?_);show(if g=f then some u else mA g)=none;rw[if_neg q];exact z
theorem eU.made (I:eU X pins σ H s):eU X pins σ (upd (upd H s.heap.objs.size (.own (s.heap.objs.size+1))) (s.heap.objs.size+1) (.ins C s.heap.objs.size [])) {s with heap:=(s.heap.push W.emptyDict).push (W.instObj C s.heap.objs.size)}:=by
 have d:(s.heap.push W.emptyDict).get? s.heap.objs.size=some W.emptyDict:=aP s.heap rfl;have m:((s.heap.push W.emptyDict).push (W.instObj C s.heap.objs.size)).get? (s.heap.objs.size+1)=some (W.instObj C s.heap.objs.size):=by
  have:=aP (s.heap.push W.emptyDict) (o:=W.instObj C s.heap.objs.size) rfl;rwa[dU]at this
 have h:(s.heap.push W.emptyDict).Ns s.heap.objs.size (fun _=>none):=⟨W.emptyDict,#[],_,d,rfl,(fun e i=>absurd i (by simp)),fun _=>rfl⟩;have l:=I.laid (a:=s.heap.objs.size) (o:=.own (s.heap.objs.size+1)) (h':=s.heap.push W.emptyDict) (t':=s.toks) (fun b u q=>aC _ q) (aq _) ⟨_,d⟩;refine l.laid (a:=s.heap.objs.size+1) (o:=.ins C s.heap.objs.size []) (t':=s.toks) (fun b u q=>aC _ q) (cE (dU _ _)) ?_
 have g:s.heap.objs.size≠s.heap.objs.size+1:=aU (di _);refine⟨by rw[ef g,d0],bo _,g,m,fun _=>none,(Heap.Ns1.of_empty h).at fun o q=>aC _ q,fun _=>True.intro,fun y j=>absurd rfl j⟩
theorem xh {prog:Program}{env:Env}{f:Str}(hb:attributeBase e f env (eval e env)=eval e env)(h:wpAny (model prog w) A (eval e env) (fun o s₁=>wpAny (model prog w) A (getAttr o f true) Q E s₁) E s):wpAny (model prog w) A (eval (.Attribute e f pos) env) Q E s:=
 Attribute_any_ h (by rw[arm_eval_Attribute,hb])
end
inductive D8 (K:W.Frag)(f:Str)(Q:VK)(x:V)(H1:Hp):Prop
 |mk (a C dx fs v:_)(_:x=.ref a)(_:H1 a=some (.ins C dx fs))(_:qx K C)(_:fU K C f)(_:fs.lookup f=some v)(_:Q v H1):D8 K f Q x H1
def IH (K:W.Frag)(ta:TE)(f:Str):TE:=fun σ H Q=>ta σ H fun x H1=>D8 K f Q x H1
inductive Eb (K:W.Frag)(f:Str)(D:mZ)(σ:St)(y:V)(x:V)(H2:Hp):Prop
 |mk (a C dx fs:_)(_:x=.ref a)(_:H2 a=some (.ins C dx fs))(_:qx K C)(_:fU K C f)(_:fs.length<1000)(_:D.nx σ (upd H2 a (.ins C dx (fX f y fs)))):Eb K f D σ y x H2
def IY (K:W.Frag)(ta tv:TE)(f:Str):TS:=fun D σ H=>tv σ H fun y H1=>ta σ H1 fun x H2=>Eb K f D σ y x H2
def FZ (X:Cx)(op:Operator)(rd:V→V→Hp→VK→Prop):Prop:=
 ∀(pins:List (Addr×Obj)) (s:Shared) (σ:St) (H:Hp) (x y:V) (u v:Value) (Q:VK),eU X pins σ H s→eY x u→eY y v→rd x y H Q→wpAny (model X.prog X.w) X.A (inplaceOp op u v) (EP X pins σ Q) X.xe s
section
variable {o value:Expr}{f:Str}{tpos:Pos}{tv:TE}
theorem lZ (j:PE X e ta)(g:attributeBase e f X.env (eval e X.env)=eval e X.env):PE X (.Attribute e f pos) (IH X.K ta f):=by
 intro pins s σ H Q I h;refine xh g (fV (j pins s σ H _ I h) ?_);rintro u p ⟨x,H1,d,b,a,C,dx,fs,v,ex,m,c,n,l,q⟩;subst ex;obtain rfl:u=Value.ref a:=b;exact me d m c n l fun t r o i=>⟨v,H1,o,i,q⟩
theorem zY (r:PE X o ta)(p:PE X value tv)(j:swapsWith value (some (.Attribute o f pos')) pos.line X.env=pure false):PS X (.Assign [.Attribute o f pos'] value pos) (IY X.K ta tv f):=by
 intro pins s σ H D I h;refine plainObj_wpAny_Assign_Attribute (fV (p pins s σ H _ I h) ?_) j;rintro u b ⟨y,H1,e,g,q⟩;refine fV (r pins b σ H1 _ e q) ?_;rintro i A ⟨x,H2,v,d,a,C,dx,fs,ex,t,c,n,l,w⟩;subst ex;obtain rfl:i=Value.ref a:=d;exact lW v t c n l g fun z m=>⟨σ,_,m,w⟩
end
section
variable {c:Value}{b:Bool}
inductive jw (K:W.Frag)(H:Hp):V→Value→Prop where
 |non:jw K H .non (.type "NoneType")
 |bl (x:Bool):jw K H (.bl x) (.type "bool")
 |int (i:Int):jw K H (.int i) (.type "int")
 |str (x:Str):jw K H (.str x) (.type "str")
 |flt (x:UInt64):jw K H (.flt x) (.type "float")
 |lst {a:Addr} {xs:List V} (e:H a=some (.lst xs)):jw K H (.ref a) (.type "list")
 |frz {a:Addr} {o:Obj} {xs:List V} (e:H a=some (.frz o (.lst xs))):jw K H (.ref a) (.type "list")
 |tup {a:Addr} {xs:List V} (e:H a=some (.tup xs)):jw K H (.ref a) (.type "tuple")
 |dK {a:Addr} {kvs:List (gv×V)} (e:H a=some (.dK kvs)):jw K H (.ref a) (.type "dict")
 |dT {a:Addr} {kvs:List (List gv×V)} (e:H a=some (.dT kvs)):jw K H (.ref a) (.type "dict")
 |ins {a C dx:Addr} {fs:List (Str×V)} (e:H a=some (.ins C dx fs)) (cl:qx K C) (ha:W.findIn K (.ref C) "__class__" = some (some (.builtin "object.__class__")))
   (hn:W.specialIn K (.builtin "object.__class__") "__get__" = some (some (.builtin "getset_descriptor.__get__"))) (htk:W.takesIn K (.builtin "object.__class__")=some true)
   (hm:W.mroIn K C (.type "object")=some true):jw K H (.ref a) (.ref C)
theorem yO {x:V}{u t:Value}(I:eU X pins σ H s)(d:eY x u)(ty:jw X.K H x t)(e:W.kitOne X.K t c=some b)(h:∀tk,Q (.bool b) {s with toks:=tk}):wpAny (model X.prog X.w) A (call (.builtin "isinstance") [u,c]) Q E s:=by
 cases ty with
 |non=>cases (show u=Value.none from d);exact du W.kitx_none I.kIn True.intro e (fun z=>nomatch z) h
 |bl y=>cases (show u=Value.bool y from d);exact du W.kitx_bool I.kIn True.intro e (fun z=>nomatch z) h
 |int i=>obtain⟨t,q⟩:=(show ∃t,u=Value.int i t from d);cases q;exact du W.kitx_int I.kIn True.intro e (fun z=>nomatch z) h
 |str y=>obtain⟨t,q⟩:=(show ∃t,u=Value.str y t from d);cases q;exact du W.kitx_str I.kIn True.intro e (fun z=>nomatch z) h
 |flt y=>obtain⟨t,q⟩:=(show ∃t,u=Value.float y t from d);cases q;exact du W.kitx_float I.kIn True.intro e (fun z=>nomatch z) h
 |@lst a xs ea=>
  cases (show u=Value.ref a from d);obtain⟨_,_,n,_,h1⟩:=(show fH X.prog X.w H s.heap a (.lst xs) from I.hok a _ ea);exact du W.kitx_list I.kIn ⟨_,h1,rfl⟩ e (fun z=>nomatch z) h
 |@frz a ob xs ea=>
  cases (show u=Value.ref a from d);obtain⟨_,_,_,n,_,h1⟩:=(show fH X.prog X.w H s.heap a (.frz ob (.lst xs)) from I.hok a _ ea);exact du W.kitx_list I.kIn ⟨_,h1,rfl⟩ e (fun z=>nomatch z) h
 |@tup a xs ea=>
  cases (show u=Value.ref a from d);obtain⟨_,_,_,p⟩:=(show fH X.prog X.w H s.heap a (.tup xs) from I.hok a _ ea);obtain⟨o,h1,h2,_⟩:=p;exact du W.kitx_tuple I.kIn ⟨o,h1,h2⟩ e (fun z=>nomatch z) h
 |@dK a kvs ea=>
  cases (show u=Value.ref a from d);obtain⟨_,_,vs,_,p⟩:=(show fH X.prog X.w H s.heap a (.dK kvs) from I.hok a _ ea);obtain⟨o,es,ep,h1,h2,_⟩:=p;exact du W.kitx_dict I.kIn ⟨o,h1,h2.1⟩ e (fun z=>nomatch z) h
 |@dT a kvs ea=>
  cases (show u=Value.ref a from d);obtain⟨_,_,xs,_,o,es,ep,h1,h2,_⟩:=(show fH X.prog X.w H s.heap a (.dT kvs) from I.hok a _ ea);exact du W.kitx_dict I.kIn ⟨o,h1,h2.1⟩ e (fun z=>nomatch z) h
 |@ins a C dx fs ea cl ha hn htk hm=>
  cases (show u=Value.ref a from d);obtain⟨mA,O,_⟩:=oR I.hok ea;obtain⟨g,J,_⟩:=O.look;exact du (W.kitx_own (cl.get _) cl.hd ha hn htk hm) I.kIn J e (fun z=>nomatch z) h
end
structure gM (k:Nat)(A:Around):Prop where
 hd:A.handled=none
 dp:A.depth+3*k+5<recursionLimit
 un:A.units+16*k+200<cLine
theorem gM.mono {k:Nat}(r:gM k A)(h:j≤k):gM j A:=⟨r.hd,by have:=r.dp;lia,by have:=r.un;lia⟩
theorem gM.deeper {k:Nat}(r:gM (k+1) A)(env:Env):gM k (A.deeper env):=
 ⟨r.hd,by have:=r.dp;show A.depth+1+3*k+5<_;lia,by have:=r.un;show A.units+3+16*k+200<_;lia⟩
theorem gM.in1 {k:Nat}(r:gM (k+1) A):gM k A.in1:=
 ⟨r.hd,by have:=r.dp;show A.depth+3*k+5<_;lia,by have:=r.un;show A.units+1+16*k+200<_;lia⟩
theorem vQ:(A.under (.builtin "type.__call__" ⟨.ref C::us,kw⟩)).depth=A.depth+1:=by
 first | rfl | simp[Around.under,Code.weight,Code.isCreation,Code.isGuard,Code.isCaller,Code.frames,Code.isFrame,guardIds]
theorem vP:(A.under (.builtin "type.__call__" ⟨.ref C::us,kw⟩)).units=A.units+1:=by
 first | rfl | simp[Around.under,Code.cUnits,Code.frames,Code.isFrame]
theorem gM.make {k:Nat}(r:gM (k+1) A)(C:Addr)(us:List Value)(kw:List (Str×Value)):gM k (A.under (.builtin "type.__call__" ⟨.ref C::us,kw⟩)):=
 ⟨r.hd,by have:=r.dp;rw[vQ];lia,by have:=r.un;rw[vP];lia⟩
theorem gM.depth {k:Nat}(r:gM k A):A.depth<recursionLimit:=by have:=r.dp;lia
theorem gM.units {k:Nat}(r:gM k A):A.units+64<cLine:=by have:=r.un;lia
def xV:TA:=fun _ H Q=>Q [] H
def qB (ta:TE)(tr:TA):TA:=fun σ H Q=>ta σ H fun x H1=>tr σ H1 fun xs H2=>Q (x::xs) H2
theorem el:PA X [] xV:=fun _ _ _ _ H Q I h=>Calls.spliced_nil ⟨[],H,I,.nil,h⟩
theorem dZ (j:PE X e te)(b:PA X es t)(hs:starEach (e::es) X.env=(false,eval e X.env)::starEach es X.env:=by rfl):PA X (e::es) (qB te t):=by
 intro pos pins s σ H Q I h;rw[hs];show wpAny _ _ (spliced ((false,eval e X.env)::backTo pos (starEach es X.env))) _ _ s;refine Calls.spliced_cons (fV (j pins s σ H _ I h) ?_);rintro u d ⟨x,H1,g,a,l⟩;exact fV (b pos pins d σ H1 _ g l) (by rintro us p ⟨xs,H2,m,i,o⟩;exact⟨x::xs,H2,m,.cons a i,o⟩)
def Gg (t:TA):TE:=fun σ H Q=>t σ H fun xs H1=>xs.length≤sizeLine∧∀p,H1 p=none→Q (.ref p) (upd H1 p (.tup xs))
def IC (t:TA):TE:=fun σ H Q=>t σ H fun xs H1=>xs.length≤sizeLine∧∀p,H1 p=none→Q (.ref p) (upd H1 p (.lst xs))
theorem gT {x1}(h:PA X es t):PE X (.Tuple es x1 pos) (Gg t):=by
 intro pins s σ H Q I i;refine wpAny_Tuple_spliced (fV (h pos pins s σ H _ I i) ?_);rintro us a ⟨xs,H1,d,r,z,q⟩;refine⟨by rw[←r.length];exact z,?_⟩;have g:H1 a.heap.objs.size=none:=d.hok.fresh (aq _);refine⟨.ref a.heap.objs.size,upd H1 a.heap.objs.size (.tup xs),d.laid (t':=a.toks) (fun b u e=>aC _ e) (aq _) ?_,rfl,q _ g⟩
 exact⟨z,us,r,⟨_,aP _ rfl,rfl,_,rfl⟩⟩
theorem gl (h:PA X es t):PE X (.List es pos) (IC t):=by
 intro pins s σ H Q I i;refine wpAny_List_spliced (fV (h pos pins s σ H _ I i) ?_);rintro us a ⟨xs,H1,d,r,z,q⟩;refine⟨by rw[←r.length];exact z,?_⟩;have g:H1 a.heap.objs.size=none:=d.hok.fresh (aq _);refine⟨.ref a.heap.objs.size,upd H1 a.heap.objs.size (.lst xs),d.laid (t':=a.toks) (fun b u e=>aC _ e) (aq _) ?_,rfl,q _ g⟩
 exact⟨z,us,0,r,aP _ rfl⟩
abbrev Sp:=List V→Hp→VK→XK→Prop
abbrev xS:=List Env→Hp→Shared→XK→Value→Shared→Prop
structure wx (P:Program)(w:World)(K:W.Frag)(mg:Str→Option Value)(base:Heap)(A:Around)(outer:List Env)(s:Shared)(H:Hp):Prop where
 frames:A.frames=some outer
 mod:Mod K mg base
 bs:∀b o,base.get? b=some o→s.heap.get? b=some o∧H b=none
 bsz:base.objs.size≤s.heap.objs.size
 funs:s.heap.FunFrames base outer
 frf:∀b∈Bk outer,H b=none
 hok:lK P w H s.heap
 bare:AllBare s.gens
def CE (outer:List Env)(P:Program)(w:World)(H:Hp)(s:Shared)(Q:VK)(u:Value)(s':Shared):Prop:=
 ∃v H',s'.os=s.os∧AllBare s'.gens∧Un (Bk outer) [] H H' s.heap s'.heap∧lK P w H' s'.heap∧eY v u∧Q v H'
def CR (CX:xS)(outer:List Env)(P:Program)(w:World)(H:Hp)(s:Shared)(Q:VK)(E:XK)(r:Result)(s':Shared):Prop:=
 match r with
 |.ok (.ret u)=>CE outer P w H s Q u s'
 |.ok _=>False
 |.error e=>CX outer H s E e s'
structure eZ (P:Program)(w:World)(K:W.Frag)(mg:Str→Option Value)(base:Heap)(CX:xS)(k:Nat)(f:Addr)(fd:FuncData)(ps:List Str)(sp:Sp):Prop where
 len:∀vs H Q E,sp vs H Q E→vs.length=ps.length
 run:∀(A:Around) (outer:List Env) (s:Shared) (H:Hp) (args:Args) (us:List Value) (vs:List V) (Q:VK) (E:XK),gM k A→wx P w K mg base A outer s H→BindsTo s fd args (ps.zip us)→fN vs us→sp vs H Q E→
  codeAny (model P w) A (.call (.ref f) args) (CR CX outer P w H s Q E) s
theorem eZ.mono {base:Heap}{k:Nat}{f:Addr}(F:eZ P w K mg base CX j f fd ps sp)(h:j≤k):eZ P w K mg base CX k f fd ps sp:=⟨F.len,fun A outer s H args us vs Q E hr=>F.run A outer s H args us vs Q E (hr.mono h)⟩
theorem eZ.imp {base:Heap}{k:Nat}{f:Addr}{sp':Sp}(F:eZ P w K mg base CX k f fd ps sp)(h:∀vs H Q E,sp' vs H Q E→sp vs H Q E):eZ P w K mg base CX k f fd ps sp':=
 ⟨fun vs H Q E q=>F.len vs H Q E (h _ _ _ _ q),fun A outer s H args us vs Q E hr he hb hv hs=>F.run A outer s H args us vs Q E hr he hb hv (h _ _ _ _ hs)⟩
theorem wx.make {base:Heap}{outer:List Env}(e:wx P w K mg base A outer s H)(C:Addr)(us:List Value)(kw:List (Str×Value)):wx P w K mg base (A.under (.builtin "type.__call__" ⟨.ref C::us,kw⟩)) outer s H:=⟨by first | exact e.frames | (simpa [Around.under,Code.envs,Code.isFrame,pushEnvs] using e.frames),e.mod,e.bs,e.bsz,e.funs,e.frf,e.hok,e.bare⟩
theorem eU.Ku (I:eU X pins σ H s):wx X.prog X.w X.K X.mg X.base X.A X.stack s H:=
 ⟨I.ok.frames,I.ok.mod,I.bs,bw I.ok.bsz I.sz,I.stack,I.Kl,I.hok,I.bare⟩
theorem eU.after {Q:VK}{u:Value}(I:eU X pins σ H s)(h:CE X.stack X.prog X.w H s Q u s'):EP X pins σ Q u s':=by
 obtain⟨v,H',os,a,un,e,r,q⟩:=h;obtain⟨j,g,d,t,i⟩:=s';obtain rfl:i=s.os:=os;exact⟨v,H',I.call (h':=j) (g':=g) (d':=d) (t':=t) (ch:=[]) un e a (fun b z=>absurd z (by simp)),r,q⟩
def DL (sp:Sp)(dvs:List V)(E:XK)(t:TA):TE:=fun σ H Q=>t σ H fun vs H1=>sp (vs++dvs) H1 Q E
inductive B4 (C:Addr)(m:Str)(sp:Sp)(dvs:List V)(E:XK)(t:TA)(σ:St)(Q:VK)(x:V)(H1:Hp):Prop
 |mk (a dx fs:_)(_:x=.ref a)(_:H1 a=some (.ins C dx fs))(_:fs.lookup m=none)(_:t σ H1 fun vs H2=>sp (x::(vs++dvs)) H2 Q E):B4 C m sp dvs E t σ Q x H1
def tU (C:Addr)(m:Str)(sp:Sp)(dvs:List V)(E:XK)(ta:TE)(t:TA):TE:=fun σ H Q=>ta σ H fun x H1=>B4 C m sp dvs E t σ Q x H1
def DJ (C:Addr)(sp:Sp)(dvs:List V)(E:XK)(t:TA):TE:=fun σ H Q=>t σ H fun vs H1=>∀x dx,H1 x=none→H1 dx=none→dx≠x→
 sp (.ref x::(vs++dvs)) (upd (upd H1 dx (.own x)) x (.ins C dx [])) (fun v H2=>v=.non∧Q (.ref x) H2) E
def gi (K:W.Frag)(fd:FuncData)(ps:List Str)(ds:List Value):Prop:=
 ∀(s:Shared) (us:List Value),K.In s.heap→(us++ds).length=ps.length→BindsTo s fd ⟨us,[]⟩ (ps.zip (us++ds))
theorem gi.all (h:∀us:List Value,us.length=ps.length→bindArgs fd ⟨us,[]⟩=pure (ps.zip us)):gi K fd ps []:=fun s us _ hl=>by
 rw[cq]at hl ⊢;exact .of_eq (h us hl)
def jW (CX:xS)(X:Cx)(E:XK):Prop:=∀(pins:List (Addr×Obj)) (σ:St) (H:Hp) (s:Shared) (e:Value) (s':Shared),eU X pins σ H s→CX X.stack H s E e s'→X.xe e s'
section
variable {k:Nat}{f:Addr}{dvs:List V}{ds:List Value}{E:XK}{apos:Pos}{o:Expr}
theorem vv {Q:VK}(F:eZ X.prog X.w X.K X.mg X.base CX k f fd ps sp)(i:gM k X.A)(j:gi X.K fd ps ds)(d:fN dvs ds)(l:jW CX X E)(I:eU X pins σ H s)(r:fN vs us)(h:sp (vs++dvs) H Q E):wpAny (model X.prog X.w) X.A (call (.ref f) us) (EP X pins σ Q) X.xe s:=by
 have b:fN (vs++dvs) (us++ds):=r.append d;have g:(us++ds).length=ps.length:=by rw[←b.length];exact F.len _ _ _ _ h
 refine wpAny_call (codeAny_mono (F.run X.A X.stack s H ⟨us,[]⟩ (us++ds) (vs++dvs) Q E i I.Ku (j s us I.kIn g) b h) fun r s' a=>?_);cases r with
 |error e=>exact l pins σ H s e s' I a
 |ok fl=>
  cases fl with
  |ret u=>exact I.after a
  |next=>exact False.elim a
  |brk=>exact False.elim a
  |cont=>exact False.elim a
theorem fe (F:eZ X.prog X.w X.K X.mg X.base CX k f fd ps sp)(d:gM k X.A)(i:Gl X x)(l:X.mg x=some (.ref f))(m:W.keepIn X.K (.ref f)=true)(g:gi X.K fd ps ds)(b:fN dvs ds)(j:jW CX X E)(o:PA X (e::es) t)(hdb:(x == ("__debug__" : Str))=false:=by decide)(he:starEach (e::es) X.env=(false,eval e X.env)::starEach es X.env:=by rfl)(hpl:(backTo pos (starEach es X.env)).any (·.1)=false:=by rfl):PE X (.Call (.Name x p) (e::es) [] pos) (DL sp dvs E t):=by
 intro pins s σ H Q I h;refine bI (wT I i l ?_ hdb);refine W.callWith_K (h₀:=X.base) I.ok.mod.kin m (fV (o pos pins s σ H _ I h) ?_) he hpl;rintro us v ⟨vs,H1,a,r,q⟩;refine⟨a.kIn,?_⟩;exact vv F d g b j a r q
theorem CY (B:PE X o ta)(c:qx X.K C)(d:za X.K C m f)(F:eZ X.prog X.w X.K X.mg X.base CX k f fd ps sp)(j:gM k X.A)(y:gi X.K fd ps ds)(i:fN dvs ds)(z:jW CX X E)(D:PA X (e::es) t)(hst:starEach (e::es) X.env=(false,eval e X.env)::starEach es X.env:=by rfl)(hpl:(backTo pos (starEach es X.env)).any (·.1)=false:=by rfl)(ht:eval (.Call (.Attribute o m apos) (e::es) [] pos) X.env=(do
   let ov ←eval o X.env
   standAt apos.atName
   let (f,first) ←holding [ov] (getMethod ov m pl)
   callWith pos f first (backTo pos (starEach (e::es) X.env)) (backToKw pos (keywordEach [] X.env))):=by rfl) :
  PE X (.Call (.Attribute o m apos) (e::es) [] pos) (tU C m sp dvs E ta t):=by
 intro pins s σ H Q I h;refine W.methodCall_KW (pl:=pl) (fV (B pins s σ H _ I h) ?_) ht;rintro u p ⟨x,H1,b,v,a,dx,fs,ex,G,l,q⟩;subst ex;obtain rfl:u=Value.ref a:=v;refine p4 b G c d l ?_;refine W.callWith_K (first:=[.ref a]) (h₀:=X.base) I.ok.mod.kin d.kp (fV (D pos pins p σ H1 _ b q) ?_) hst hpl;rintro us L ⟨vs,H2,g,r,J⟩;refine⟨g.kIn,?_⟩;exact vv (us:=.ref a::us) (vs:=.ref a::vs) F j y i z g (.cons rfl r) J
theorem Ag (r:PE X o ta)(c:qx X.K C)(d:za X.K C m f)(F:eZ X.prog X.w X.K X.mg X.base CX k f fd ps sp)(g:gM k X.A)(j:gi X.K fd ps ds)(e:fN dvs ds)(p:jW CX X E)(ht:eval (.Call (.Attribute o m apos) [] [] pos) X.env=(do
   let ov ←eval o X.env
   standAt apos.atName
   let (f,first) ←holding [ov] (getMethod ov m pl)
   callWith pos f first (backTo pos (starEach [] X.env)) (backToKw pos (keywordEach [] X.env))):=by rfl) :
  PE X (.Call (.Attribute o m apos) [] [] pos) (tU C m sp dvs E ta xV):=by
 intro pins s σ H Q I h;refine W.methodCall_KW (pl:=pl) (fV (r pins s σ H _ I h) ?_) ht;rintro u v ⟨x,H1,b,i,a,dx,fs,ex,t,l,q⟩;subst ex;obtain rfl:u=Value.ref a:=i;refine p4 b t c d l ?_;exact W.callWith_K0 (first:=[.ref a]) b.kIn d.kp (vv (us:=[.ref a]) (vs:=[.ref a]) F g j e p b (.cons rfl .nil) q)
structure Mk (K:W.Frag)(C f:Addr):Prop where
 makes:W.makesIn K C=true
 init:W.findIn K (.ref C) "__init__" = some (some (.ref f))
 fn:W.isFn K (.ref f)=true
 kp:W.keepIn K (.ref C)=true
theorem zT {Q:VK}(M:Mk X.K C f)(F:eZ X.prog X.w X.K X.mg X.base CX k f fd ps sp)(l:gM (k+1) X.A)(m:gi X.K fd ps ds)(i:fN dvs ds)(o:jW CX X E)(I:eU X pins σ H s)(r:fN vs us)(h:∀x dx,H x=none→H dx=none→dx≠x→sp (.ref x::(vs++dvs)) (upd (upd H dx (.own x)) x (.ins C dx [])) (fun v H2=>v=.non∧Q (.ref x) H2) E):wpAny (model X.prog X.w) X.A (call (.ref C) us) (EP X pins σ Q) X.xe s:=by
 have g:=h (s.heap.objs.size+1) s.heap.objs.size (I.hok.fresh (dB _)) (I.hok.fresh (aq _)) (aU (di _));have b:=eU.made (C:=C) I;have d:fN (V.ref (s.heap.objs.size+1)::(vs++dvs)) (Value.ref (s.heap.objs.size+1)::(us++ds)):=.cons rfl (r.append i);have j:(Value.ref (s.heap.objs.size+1)::us++ds).length=ps.length:=by
  have e:=d.length;rw[F.len _ _ _ _ g]at e;exact e.symm
 refine wpAny_call (AM (f:=f) I.kIn M.makes M.init (beq_iff_eq.mp M.fn) (codeAny_mono (F.run _ X.stack _ _ ⟨Value.ref (s.heap.objs.size+1)::us,[]⟩ (Value.ref (s.heap.objs.size+1)::(us++ds)) _ _ E (l.make C us []) (b.Ku.make C us []) (m _ (Value.ref (s.heap.objs.size+1)::us) b.kIn j) d g) fun r s' a=>?_));cases r with
 |error e=>exact o pins σ _ _ e s' b a
 |ok fl=>
  cases fl with
  |ret u=>
   obtain⟨v,H',q,y,p,t⟩:=b.after a;subst p;exact⟨y,⟨V.ref (s.heap.objs.size+1),H',q,rfl,t⟩⟩
  |next=>exact False.elim a
  |brk=>exact False.elim a
  |cont=>exact False.elim a
theorem CZ (M:Mk X.K C f)(F:eZ X.prog X.w X.K X.mg X.base CX k f fd ps sp)(d:gM (k+1) X.A)(i:Gl X x)(l:X.mg x=some (.ref C))(g:gi X.K fd ps ds)(b:fN dvs ds)(j:jW CX X E)(m:PA X (e::es) t)(hdb:(x == ("__debug__" : Str))=false:=by decide)(he:starEach (e::es) X.env=(false,eval e X.env)::starEach es X.env:=by rfl)(hpl:(backTo pos (starEach es X.env)).any (·.1)=false:=by rfl):PE X (.Call (.Name x p) (e::es) [] pos) (DJ C sp dvs E t):=by
 intro pins s σ H Q I h;refine bI (wT I i l ?_ hdb);refine W.callWith_K (h₀:=X.base) I.ok.mod.kin M.kp (fV (m pos pins s σ H _ I h) ?_) he hpl;rintro us o ⟨vs,H1,a,r,q⟩;refine⟨a.kIn,?_⟩;exact zT M F d g b j a r q
end
section
variable {k:Nat}{f:Addr}{ks:List Str}{E:XK}{apos kpos:Pos}{o:Expr}{kws:List Keyword}{tk:TA}{nm:Option Str}
variable {g:List Value→List Value→List Value}{gV:List V→List V→List V}
end
structure eM (N P:List Str)(sc:Scope):Prop where
 kind:sc.kind=.function
 co:sc.isCoroutine=false
 gen:sc.isGenerator=false
 nd:N.Nodup
 pre:N.take P.length=P
 par:∀x∈P,sc.names.lookup x=some .local∨sc.names.lookup x=some .cell
 nofree:∀y∈sc.names,y.2≠.free
theorem qV {kindOf:Str→Option NameKind}{x:Str}:∀{binds:List (Str×Value)} {m:Str→Option Value},(∀v,(x,v)∉binds)→bindL kindOf binds m x=m x
 |[],_,_=>rfl
 |(n,v)::r,m,h=>by
  unfold bindL;rw[qV fun w hw=>h w (bi _ hw)]
  split
  ·have:x≠n:=by rintro rfl;exact h v bB
   simp[this]
  ·rfl
theorem qX {kindOf:Str→Option NameKind}{x:Str}:∀{binds:List (Str×Value)} {m:Str→Option Value},(∀v,(x,v)∉binds)→bindC kindOf binds m x=m x
 |[],_,_=>rfl
 |(n,v)::r,m,h=>by
  unfold bindC;rw[qX fun w hw=>h w (bi _ hw)]
  split
  ·rfl
  ·have:x≠n:=by rintro rfl;exact h v bB
   simp[this]
theorem qW {kindOf:Str→Option NameKind}{x:Str}{v:Value}:∀{P:List Str} {vs:List Value} {i:Nat} {m:Str→Option Value},P.Nodup→P[i]?=some x→vs[i]?=some v→kindOf x=some .local→bindL kindOf (P.zip vs) m x=some v
 |[],_,_,_,_,h,_,_=>by simp at h
 |_::_,[],_,_,_,_,h,_=>by simp at h
 |p::P,w::vs,0,m,nd,h1,h2,hk=>by
  simp at h1 h2;subst h1;subst h2;show bindL kindOf ((p,w)::P.zip vs) m p=_;unfold bindL;rw[qV fun v hv=>(aV.mp nd).1 (List.of_mem_zip hv).1,if_pos hk];simp
 |p::P,w::vs,i+1,m,nd,h1,h2,hk=>by
  show bindL kindOf ((p,w)::P.zip vs) m x=_;unfold bindL;exact qW (i:=i) (aV.mp nd).2 (by simpa using h1) (by simpa using h2) hk
theorem qY {kindOf:Str→Option NameKind}{x:Str}{v:Value}:∀{P:List Str} {vs:List Value} {i:Nat} {m:Str→Option Value},P.Nodup→P[i]?=some x→vs[i]?=some v→kindOf x≠some .local→bindC kindOf (P.zip vs) m x=some v
 |[],_,_,_,_,h,_,_=>by simp at h
 |_::_,[],_,_,_,_,h,_=>by simp at h
 |p::P,w::vs,0,m,nd,h1,h2,hk=>by
  simp at h1 h2;subst h1;subst h2;show bindC kindOf ((p,w)::P.zip vs) m p=_;unfold bindC;rw[qX fun v hv=>(aV.mp nd).1 (List.of_mem_zip hv).1,if_neg hk];simp
 |p::P,w::vs,i+1,m,nd,h1,h2,hk=>by
  show bindC kindOf ((p,w)::P.zip vs) m x=_;unfold bindC;exact qY (i:=i) (aV.mp nd).2 (by simpa using h1) (by simpa using h2) hk
def start (N:List Str)(vs:List V):St:=vs.map some++List.replicate (N.length-vs.length) none
def ux (CX:xS)(P:Program)(w:World)(K:W.Frag)(mg:Str→Option Value)(base:Heap)(N:List Str)(qual:Str)(scope:Scope)(f:Addr)(cd:Value)(A:Around)(outer:List Env)(s:Shared)(H:Hp)(E:XK):Cx where
 prog:=P
 w:=w
 K:=K
 mg:=mg
 base:=base
 A:=A.deeper (envOfC qual scope s.heap.objs.size f cd)
 N:=N
 s₀:=s
 H₀:=H
 env:=envOfC qual scope s.heap.objs.size f cd
 outer:=outer
 stack:=envOfC qual scope s.heap.objs.size f cd::outer
 ex:=[]
 calm:=true
 fn:=fun _=>true
 pn:=[]
 xe:=fun e s'=>wpAny (model P w) (A.deeper (envOfC qual scope s.heap.objs.size f cd)) (leaving (envOfC qual scope s.heap.objs.size f cd) e) (fun _ s''=>CX outer H s E e s'') (fun e' s''=>CX outer H s E e' s'') s'
theorem uC {sc:Scope}{n:Nat}(h:sc.names.lookup x=some .cell):∃c,(cellsFrom n sc.names []).lookup x=some c:=by
 have q:=W.cellsFrom_some sc.names n [] (.inl h);exact Option.isSome_iff_exists.mp q
theorem yP {base:Heap}{N:List Str}{qual:Str}{scope:Scope}{f:Addr}{cd:Value}{outer:List Env}{s1:Shared}{E:XK}(S:eM N ps scope)(o:A.handled=none)(d:wx P w K mg base A outer s H)(D:vs.length=ps.length)(r:fN vs us)(x:InCallC s s.heap.objs.size (bindL (envOfC qual scope s.heap.objs.size f cd).kindOf (ps.zip us) fun _=>none) (cellsFrom (s.heap.objs.size+1) scope.names []) (bindC (envOfC qual scope s.heap.objs.size f cd).kindOf (ps.zip us) fun _=>none) s1):eU (ux CX P w K mg base N qual scope f cd A outer s H E) [] (start N vs) H s1:=by
 have t:ps.length≤N.length:=by have:=congrArg List.length S.pre;rw[aS]at this;lia
 obtain⟨h1,tk,rfl,m⟩:=x.done;have g:∀b:Addr,b∉(ux CX P w K mg base N qual scope f cd A outer s H E).ex:=fun b z=>absurd (show b∈([]:List Addr) from z) (by simp);refine⟨⟨d.mod,S.kind,rfl,rfl,aq _,fun y z c h1 h2=>?_,fun y hy=>?_,fun y c _ h=>?_,fun _=>o,Around.frames_deeper d.frames,.inr ⟨rfl,rfl⟩,fun b z=>absurd z (g b),d.bs,d.bsz,fun b _ _=>g b,fun b z=>absurd z (g b),d.funs,d.frf⟩,rfl,d.bare,Un.kept m,⟨_,x.toInCall.ns,fun i y v h1 h2 F=>?_⟩,fun y c h=>⟨_,x.cell y c h⟩,d.hok.fresh (aq _),fun y c h=>?_,fun p hp=>absurd (show p∈([]:List (Addr×Obj)) from hp) (by simp),d.hok.kept m,?_⟩
 ·exact name_of_addr x.apart (bt h1) (bt h2)
 ·have hy:scope.names.lookup y=some .cell∨scope.names.lookup y=some .free:=hy;rcases hy with hy | hy
  ·exact uC hy
  ·exact absurd rfl (S.nofree _ (bt hy))
 ·exact cD (x.above y c (bt h))
 ·have hi:i<vs.length:=by
   unfold start at h2;by_cases hi:i<vs.length
   ·exact hi
   ·rw[aZ (by simpa using hi)]at h2;rw[List.getElem?_replicate]at h2
    split at h2 <;> cases h2
  have B:vs[i]?=some v:=by
   unfold start at h2;rw[aI (by simpa using hi),ae]at h2
   cases e:vs[i]? with
   |none=>rw[e]at h2;cases h2
   |some a=>rw[e]at h2;cases h2;rfl
  obtain⟨u,l,C⟩:=r.get B;have hp:ps[i]?=some y:=by
   rw[←S.pre,List.getElem?_take_of_lt (by lia)];exact h1
  have j:ps.Nodup:=by rw[←S.pre];exact S.nd.sublist (dY _ _)
  refine⟨u,C,?_⟩;rcases S.par y (ak hp) with k | k
  ·exact .inl ⟨k,qW j hp l k⟩
  ·obtain⟨c,e⟩:=uC (n:=s.heap.objs.size+1) k;refine .inr ⟨.inl k,c,e,?_⟩;have q:=x.cell y c e;rw[qY j hp l (by show scope.names.lookup y≠_;rw[k];decide)]at q;exact q
 ·exact d.hok.fresh (cD (x.above y c (bt h)))
 ·unfold start;show _=N.length;rw[aF,ab,List.length_replicate]
  lia
theorem DS {base:Heap}{k:Nat}{f:Addr}{name qual:Str}{params:Arguments}{scope:Scope}{dV kV doc pm cdv ct oc:Value}{an od:Option Addr}{osl:Array (Option Value)}{N ps:List Str}{sp:Sp}(F:K.lookup f=some ⟨oc,od,.func (W.fnOf name qual params body scope dV kV doc pm an cdv ct),osl⟩)(z:W.codeIn K cdv qual=true)(S:eM N ps scope)(len:∀vs H Q E,sp vs H Q E→vs.length=ps.length)(d:∀(A:Around) (outer:List Env) (s:Shared) (H:Hp) (vs:List V) (Q:VK) (E:XK),gM k (A.deeper (envOfC qual scope s.heap.objs.size f cdv))→sp vs H Q E→∃t,nX (ux CX P w K mg base N qual scope f cdv A outer s H E) body t∧t {nx:=fun _ H'=>Q .non H',rt:=Q} (start N vs) H):eZ P w K mg base CX (k+1) f (W.fnOf name qual params body scope dV kV doc pm an cdv ct) ps sp:=by
 refine⟨len,fun A outer s H B us vs Q E p h L r j=>?_⟩;have T:=len _ _ _ _ j;have C:K.In s.heap:=h.mod.kin.keeps fun b o e=>(h.bs b o e).1;have l:s.heap.NoLimit:=h.mod.nolimit.keeps fun b o e=>(h.bs b o e).1;have a:∀y∈ps.zip us,scope.names.lookup y.1=some .local∨(scope.names.lookup y.1=some .cell∧((cellsFrom (s.heap.objs.size+1) scope.names []).lookup y.1).isSome=true):=fun⟨n,v⟩ R=>by
  rcases S.par n (List.of_mem_zip R).1 with q | q
  ·exact .inl q
  ·exact .inr ⟨q,W.cellsFrom_some _ _ _ (.inl q)⟩
 refine codeAny_call_function p.depth (C _ _ F) rfl S.co S.gen rfl (W.codeRec_of C z) (L _ _ _ _ ?_);refine wpAny_newFunctionEnv_cells S.kind a fun O U D x=>?_;subst U;refine⟨l.keeps x.toInCall.keep,codeAny_func ?_⟩;obtain⟨t,G,M⟩:=d A outer s H vs Q E (p.deeper _) j;have I:eU (ux CX P w K mg base N qual scope f cdv A outer s H E) [] (start N vs) H D:=yP S p.hd h T r x;refine b0 (G [] D (start N vs) H _ I M) (fun fl s' g=>?_) fun e s' g=>g;have i:∀{σ':St} {H':Hp} {v:V} {u:Value},eU (ux CX P w K mg base N qual scope f cdv A outer s H E) [] σ' H' s'→eY v u→Q v H'→CE outer P w H s Q u s':=
  fun {σ' H' v u} J m q=>⟨v,H',J.os,J.bare,J.base,J.hok,m,q⟩
 cases fl with
 |ret u=>
  obtain⟨v,σ',H',J,m,q⟩:=g;exact i J m q
 |next=>
  obtain⟨σ',H',J,q⟩:=g;exact i (v:=V.non) (u:=Value.none) J rfl q
 |brk=>
  obtain⟨_,_,_,q⟩:=g;exact False.elim q
 |cont=>
  obtain⟨_,_,_,q⟩:=g;exact False.elim q
section
variable {id T:String}{r:List V→Hp→VK→Prop}
def JB (r:List V→Hp→VK→Prop)(t:TA):TE:=fun σ H Q=>t σ H fun vs H1=>r vs H1 Q
theorem eR (o:jr X (.builtin id) r)(j:Gl X x)(a:X.mg x=none)(b:bootBuiltins x=some (.builtin id))(d:PA X (e::es) t)(hn:x≠"__name__":=by decide)(hdb:(x == ("__debug__" : Str))=false:=by decide)(he:starEach (e::es) X.env=(false,eval e X.env)::starEach es X.env:=by rfl)(hpl:(backTo pos (starEach es X.env)).any (·.1)=false:=by rfl):PE X (.Call (.Name x p) (e::es) [] pos) (JB r t):=by
 intro pins s σ H Q I h;refine bI (jA I j a b ?_ hn hdb);exact PyProof.Rows.callWith_builtin1 (fV (d pos pins s σ H _ I h) (by rintro us l ⟨vs,H1,m,g,i⟩;exact o pins l σ H1 vs us Q m g i)) he hpl
theorem iL (o:jr X (.type T) r)(j:Gl X x)(a:X.mg x=none)(b:bootBuiltins x=some (.type T))(d:PA X (e::es) t)(hn:x≠"__name__":=by decide)(hdb:(x == ("__debug__" : Str))=false:=by decide)(he:starEach (e::es) X.env=(false,eval e X.env)::starEach es X.env:=by rfl)(hpl:(backTo pos (starEach es X.env)).any (·.1)=false:=by rfl):PE X (.Call (.Name x p) (e::es) [] pos) (JB r t):=by
 intro pins s σ H Q I h;refine bI (jA I j a b ?_ hn hdb);exact PyProof.Rows.callWith_type1 (fV (d pos pins s σ H _ I h) (by rintro us l ⟨vs,H1,m,g,i⟩;exact o pins l σ H1 vs us Q m g i)) he hpl
end
end L2
namespace HT
open PySem PyProof.Rows
section
open PySem.SeqAt
open PySem.AutoSeq1 (wpAny_loadPart')
open PySem.MeetsSeq PySem.MeetsSeq2 PySem.MeetsSeq3
end
section
variable {prog:Program}{w:World}{A:Around}{E:Value→Shared→Prop}{s:Shared}
def oJ (n d:Nat):Option Int→Nat
 |none=>d
 |some v=>if v<0 then (v+(n:Int)).toNat else min v.toNat n
theorem zO (n d:Nat):oJ n d none=d:=rfl
theorem wH (n d k:Nat):oJ n d (some (k:Int))=min k n:=by
 show(if (k:Int)<0 then ((k:Int)+(n:Int)).toNat else min (k:Int).toNat n)=min k n;rw[if_neg (by lia),bA]
end
end HT
namespace L2
open PySem PySem.Spec PyProof.Rows
variable {A:Around}{E Q:Value→Shared→Prop}{H H':Hp}{P:Program}{T:String}{X:Cx}{a:Addr}{e:Expr}{kvs:List (gv×V)}{o:Option V}{pins:List (Addr×Obj)}{pos:Pos}{s:Shared}{v y:V}{w:World}{xs:List V}{σ:St}
abbrev TO:=St→Hp→(Option Int→Hp→Prop)→Prop
def PO (X:Cx)(e:Option Expr)(t:TO):Prop:=
 ∀(pins:List (Addr×Obj)) (s:Shared) (σ:St) (H:Hp) (Q:Option Int→Hp→Prop),eU X pins σ H s→t σ H Q→
  wpAny (model X.prog X.w) X.A (evalPart e X.env) (fun u s'=>∃o H',eU X pins σ H' s'∧IsPart u o∧Q o H') X.xe s
def Cm:TO:=fun _ H Q=>Q none H
inductive BY (Q:Option Int→Hp→Prop)(x:V)(H1:Hp):Prop
 |mk (i:_)(_:x=.int i)(_:Q (some i) H1):BY Q x H1
def Gj (t:TE):TO:=fun σ H Q=>t σ H fun x H1=>BY Q x H1
theorem p0 {ns:List Int}:∀{us:List Value},fN (ns.map V.int) us→IntsAre us ns:=by
 induction ns with
 |nil=>intro us r;rw[cT]at r;cases r;exact .nil
 |cons n ns ih=>
  intro us r;rw[aE]at r;cases r with
  |cons r1 r2=>
   obtain⟨t,e⟩:=r1;subst e;exact .cons n t (ih r2)
section
variable {te:TE}{lo hi:Option Expr}{tl th:TO}{p2:Pos}
theorem sC:PO X none Cm:=by
 intro pins s σ H Q I h;rw[evalPart_none];exact ar ⟨none,H,I,.none,h⟩
theorem mD (h:PE X e te):PO X (some e) (Gj te):=by
 intro pins s σ H Q I a;rw[evalPart_some];refine fV (h pins s σ H _ I a) ?_;rintro u j ⟨x,H1,d,b,g⟩;obtain⟨i,rfl,q⟩:=g;obtain⟨t,rfl⟩:=b;exact⟨some i,H1,d,.int i t,q⟩
def JH (X:Cx)(r:V→Option Int→Option Int→Hp→VK→Prop):Prop:=
 ∀(pins:List (Addr×Obj)) (s:Shared) (σ:St) (H:Hp) (x:V) (v vl vu:Value) (lo hi:Option Int) (sl:Addr) (Q:VK),eU X pins σ H s→eY x v→s.heap.IsSliceOf sl vl vu .none→IsPart vl lo→IsPart vu hi→r x lo hi H Q→
  ∃T id,typeLookup (.type T) "__getitem__" = pure (some (.builtin id))∧s.TypeIs v T∧wpAny (model X.prog X.w) X.A (getItem v (.ref sl)) (EP X pins σ Q) X.xe s
def JS (r:V→Option Int→Option Int→Hp→VK→Prop)(te:TE)(tl th:TO):TE:=fun σ H Q=>te σ H fun x H1=>tl σ H1 fun l H2=>th σ H2 fun u H3=>r x l u H3 Q
theorem mF {r:V→Option Int→Option Int→Hp→VK→Prop}(F:JH X r)(L:PE X e te)(E:PO X lo tl)(K:PO X hi th):PE X (.Subscript e (.Slice lo hi none p2) pos) (JS r te tl th):=by
 intro pins s σ H Q I h;refine Subscript_ (fV (L pins s σ H _ I h) ?_);rintro v J ⟨x,H1,o,i,B⟩;refine wpAny_Slice (fV (E pins J σ H1 _ o B) ?_);rintro d y ⟨l,H2,D,pl,M⟩;refine fV (K pins y σ H2 _ D M) ?_;rintro a s3 ⟨u,g,t,G,C⟩;rw[evalPart_none];refine ar ?_;have j:eU X pins σ g {s3 with heap:=s3.heap.push {cls:=.type "slice",data:=.fields #[d,a,.none]}}:=t.kept (t':=s3.toks) fun b N q=>aC _ q;obtain⟨T,id,z,m,p⟩:=F pins {s3 with heap:=s3.heap.push {cls:=.type "slice",data:=.fields #[d,a,.none]}} σ g x v d a l u s3.heap.objs.size Q j i (Heap.IsSliceOf.new ..) pl G C;show wpAny (model X.prog X.w) X.A (subscriptTail e (.Slice lo hi none p2) v (.ref s3.heap.objs.size)) (EP X pins σ Q) X.xe {s3 with heap:=s3.heap.push {cls:=.type "slice",data:=.fields #[d,a,.none]}};exact tail_any (ops:=[.ref s3.heap.objs.size,v]) m z p (by with_unfolding_all rfl)
def qe (xs:List V)(lo hi:Option Int):List V:=(xs.drop (HT.oJ xs.length 0 lo)).take (HT.oJ xs.length xs.length hi-HT.oJ xs.length 0 lo)
theorem uz (xs:List V)(lo hi:Option Int):(qe xs lo hi).length≤xs.length:=by
 unfold qe;rw[aS,List.length_drop]
 lia
end
def Dn (n:Nat)(i:Int):Option Nat:=if 0≤i then (if i<n then some i.toNat else none) else if -(n:Int)≤i then some (i+n).toNat else none
def tJ {α:Type}(xs:List α)(i:Int):Option α:=(Dn xs.length i).bind fun j=>xs[j]?
theorem Dm {n:Nat}{i:Int}{j:Nat}(h:Dn n i=some j):seqIndex? i n=some j∧j<n∧-(n:Int)≤i∧i<n:=by
 unfold Dn at h;by_cases h0:0≤i
 ·rw[if_pos h0]at h;by_cases h1:i<n
  ·rw[if_pos h1]at h;have e:i.toNat=j:=Option.some.inj h;exact⟨by rw[seqIndex_of h0 h1,e],by lia,by lia,h1⟩
  ·rw[if_neg h1]at h;cases h
 ·rw[if_neg h0]at h;by_cases h1:-(n:Int)≤i
  ·rw[if_pos h1]at h;have e:(i+n).toNat=j:=Option.some.inj h;exact⟨by rw[seqIndex_neg (by lia) h1,e],by lia,h1,by lia⟩
  ·rw[if_neg h1]at h;cases h
theorem xi {α:Type}{xs:List α}{i:Int}{v:α}(h:tJ xs i=some v):∃j,seqIndex? i xs.length=some j∧xs[j]?=some v∧j<xs.length∧-(xs.length:Int)≤i∧i<xs.length:=by
 unfold tJ at h;cases e:Dn xs.length i with
 |none=>rw[e]at h;cases h
 |some j=>
  rw[e]at h;obtain⟨h1,h2,a,b⟩:=Dm e;exact⟨j,h1,h,h2,a,b⟩
theorem oW {α:Type}{xs:List α}{j:Nat}{v:α}(h:xs[j]?=some v):tJ xs (j:Int)=some v:=by
 have a:j<xs.length:=(af.mp h).1;have e:Dn xs.length (j:Int)=some j:=by
  unfold Dn;rw[if_pos (by lia),if_pos (by lia)];simp
 unfold tJ;rw[e];exact h
theorem BB {α:Type}(xs:List α)(v:α):tJ (xs++[v]) (-1)=some v:=by
 have a:(xs++[v]).length=xs.length+1:=by simp
 have e:Dn (xs++[v]).length (-1)=some xs.length:=by
  unfold Dn;rw[a,if_neg (by decide),if_pos (by lia)]
  congr 1
  lia
 unfold tJ;rw[e];show(xs++[v])[xs.length]?=some v;simp
def DG (b:Expr):Prop:=∀o i,subscripted b false o i=operate [o,i] (getItem o i)
def Iv (X:Cx)(r:R2):Prop:=
 ∀(value slice:Expr) (pins:List (Addr×Obj)) (s:Shared) (σ:St) (H:Hp) (x y:V) (v u:Value) (Q:VK),eU X pins σ H s→eY x v→eY y u→r x y H Q→
  subscripted slice false v u=operate [v,u] (getItem v u)→wpAny (model X.prog X.w) X.A (subscriptTail value slice v u) (EP X pins σ Q) X.xe s
def JI (X:Cx)(id:String)(r:V→List V→Hp→VK→Prop):Prop:=
 ∀(pins:List (Addr×Obj)) (s:Shared) (σ:St) (H:Hp) (x:V) (xs:List V) (v:Value) (us:List Value) (Q:VK),eU X pins σ H s→eY x v→fN xs us→r x xs H Q→
  wpAny (model X.prog X.w) X.A (call (.builtin id) (v::us)) (EP X pins σ Q) X.xe s
section
variable {a b:Expr}{ta tb:TE}
theorem eK {r:R2}(d:Iv X r)(m:PE X a ta)(j:PE X b tb)(g:DG b):PE X (.Subscript a b pos) (Ie r ta tb):=by
 intro pins s σ H Q I h;exact Subscript_ (FR m j I h fun v u l x y H2 o e i q=>d a b pins l σ H2 x y v u Q o e i q (g _ _))
inductive Eh (K:W.Frag)(x:V)(y:V)(H:Hp)(Q:VK):Prop
 |mk (p xs i v:_)(_:x=.ref p)(_:y=.int i)(_:fb K H p xs)(_:tJ xs i=some v)(_:Q v H):Eh K x y H Q
def GV (K:W.Frag):R2:=fun x y H Q=>Eh K x y H Q
inductive Eg (K:W.Frag)(x:V)(y:V)(H:Hp)(Q:VK):Prop
 |mk (p xs i v:_)(_:x=.ref p)(_:y=.int i)(_:gy K H p xs)(_:tJ xs i=some v)(_:Q v H):Eg K x y H Q
def zX (K:W.Frag):R2:=fun x y H Q=>Eg K x y H Q
theorem fg:Iv X (GV X.K):=by
 intro value b pins s σ H x y v u Q I D E h m;obtain⟨p,xs,i,z,rfl,rfl,o,F,q⟩:=h;cases D;obtain⟨t,rfl⟩:=E;obtain⟨e,r,pl,G⟩:=I.list o;obtain⟨j,h1,h2,J,A,B⟩:=xi F;obtain⟨w,l,d⟩:=r.get h2;have C:=r.length;have L:=sV;have a:EP X pins σ Q w s:=⟨z,H,I,d,q⟩;by_cases h0:0≤i
 ·have g:i.toNat=j:=by
   rw[seqIndex_of h0 B]at h1;exact Option.some.inj h1
  exact item_listR pl.isList h0 (by lia) (by rw[g];simpa using l) a m
 ·have g:(i+(e.toArray.size:Int)).toNat=j:=by
   rw[seqIndex_neg (by lia) A]at h1;rw[aO,←C];exact Option.some.inj h1
  exact subscriptTail_builtinR (x:=w) pl.isList.typeIs slot_list_getitem.lookup
   (wpAny_getItem_list_neg (Q:=fun r s'=>r=w∧EP X pins σ Q r s') pl.isList (by lia) (by rw[aO] <;> lia) (by lia) (by rw[g];simpa using l) ⟨rfl,a⟩) m
theorem eP:Iv X (zX X.K):=by
 intro value a pins s σ H x y v u Q I o B h A;obtain⟨p,xs,i,z,rfl,rfl,e,C,q⟩:=h;cases o;obtain⟨t,rfl⟩:=B;obtain⟨g,r,pl,F⟩:=I.tuple e;obtain⟨j,h1,h2,G,D,E⟩:=xi C;obtain⟨w,l,d⟩:=r.get h2;have m:=r.length;have J:=sV;have b:EP X pins σ Q w s:=⟨z,H,I,d,q⟩;exact subscriptTail_builtinR (x:=w) pl.typeIs slot_tuple_getitem.lookup
  (getItem_tuple (j:=j) (Q:=fun r s'=>r=w∧EP X pins σ Q r s') pl (by lia) (by lia) (by rw[aO,←m];exact h1) (by simpa using l) ⟨rfl,b⟩) A
theorem rN (lo hi:Option Int)(n:Nat):(sliceBounds lo hi none n).1=((HT.oJ n 0 lo:Nat):Int)∧(sliceBounds lo hi none n).2.1=((HT.oJ n n hi:Nat):Int)∧(sliceBounds lo hi none n).2.2=1:=by
 refine⟨?_,?_,rfl⟩
 ·cases lo with
  |none=>simp[sliceBounds,HT.oJ]
  |some i=>
   simp only[sliceBounds,HT.oJ,Option.getD_none,show(1:Int)>0 by decide,if_true];by_cases h:i<0
   ·simp only[h,if_true] <;> lia
   ·simp only[h,if_false] <;> lia
 ·cases hi with
  |none=>simp[sliceBounds,HT.oJ]
  |some i=>
   simp only[sliceBounds,HT.oJ,Option.getD_none,show(1:Int)>0 by decide,if_true];by_cases h:i<0
   ·simp only[h,if_true] <;> lia
   ·simp only[h,if_false] <;> lia
theorem qo (a:List Value)(lo hi:Option Int):slicePick a.toArray lo hi none=((a.drop (HT.oJ a.length 0 lo)).take (HT.oJ a.length a.length hi-HT.oJ a.length 0 lo)).toArray:=by
 obtain⟨h1,h2,b⟩:=rN lo hi a.toArray.size;unfold slicePick;rw[h1,h2,b];simp only[sliceRange_one,pick_run,aO] <;> rfl
inductive Ec (K:W.Frag)(x:V)(lo:Option Int)(hi:Option Int)(H:Hp)(Q:VK):Prop
 |mk (a xs:_)(_:x=.ref a)(_:fb K H a xs)(_:∀p,H p=none→Q (.ref p) (upd H p (.lst (qe xs lo hi)))):Ec K x lo hi H Q
def Ja (K:W.Frag):V→Option Int→Option Int→Hp→VK→Prop:=fun x lo hi H Q=>Ec K x lo hi H Q
theorem oH:JH X (Ja X.K):=by
 intro pins s σ H x v w t lo hi y Q I i j pl g h;obtain⟨a,xs,rfl,l,q⟩:=h;cases i;obtain⟨m,r,e,p⟩:=I.list l;have d:=r.length;refine⟨"list",_,slot_list_getitem.lookup,e.isList.typeIs,?_⟩;refine wpAny_getItem_list_slice e.isList j pl g .none (by simp) ?_ (by rw[aO] <;> lia)
 rw[qo,←d];refine⟨.ref s.heap.objs.size,_,I.laid (t':=s.toks) (o:=.lst (qe xs lo hi)) (fun b z q=>aC _ q) (aq _) ?_,rfl,q _ (I.hok.fresh (aq _))⟩
 exact⟨bw (uz xs lo hi) p,_,0,(r.drop (HT.oJ xs.length 0 lo)).take (HT.oJ xs.length xs.length hi-HT.oJ xs.length 0 lo),aP _ rfl⟩
theorem fA:jr X (.builtin "len") (fun xs H Q=>∃p ys,xs=[.ref p]∧(fb X.K H p ys∨gy X.K H p ys)∧Q (.int ys.length) H):=by
 intro pins s σ H xs us Q I r h;obtain⟨p,ys,rfl,hq,q⟩:=h;obtain⟨u,rfl,e⟩:=jo r;cases e;have i:=sV;rcases hq with hq | hq
 ·obtain⟨d,b,pl,g⟩:=I.list hq;have a:=b.length;exact Calls.call_len_list pl.isList (by simp only[aO] <;> lia) ⟨.int ys.length,H,I.tok _,⟨s.toks+1,by rw[aO,a]⟩,q⟩
 ·obtain⟨d,b,pl,g⟩:=I.tuple hq;have a:=b.length;exact len_tuple pl (by simp only[aO] <;> lia) ⟨.int ys.length,H,I.tok _,⟨s.toks+1,by rw[aO,a]⟩,q⟩
theorem iU:jr X (.type "list") (fun xs H Q=>∃p ys,xs=[.ref p]∧(fb X.K H p ys∨gy X.K H p ys)∧∀l,H l=none→Q (.ref l) (upd H l (.lst ys))):=by
 intro pins s σ H xs us Q I r h;obtain⟨p,ys,rfl,hq,q⟩:=h;obtain⟨u,rfl,x⟩:=jo r;cases x;have g:∀(a:List Value),fN ys a→ys.length≤sizeLine→∀(h':Heap) (c':Nat),(∀b o',s.heap.get? b=some o'→h'.get? b=some o')→
   h'.get? s.heap.objs.size=some {cls:=.type "list",dict:=none,data:=.seq a.toArray c',slots:=#[]}→EP X pins σ Q (.ref s.heap.objs.size) {s with heap:=h'}:=fun a d j h' c' kp e=>
  ⟨.ref s.heap.objs.size,_,I.laid (t':=s.toks) kp (aq _) (show fH X.prog X.w _ h' _ (.lst ys) from⟨j,a,c',d,e⟩),rfl,q _ (I.hok.fresh (aq _))⟩
 rcases hq with hq | hq
 ·obtain⟨a,d,pl,j⟩:=I.list hq;have i:=d.length;obtain⟨o,t,v,n,m⟩:=pl.isList;exact call_list_seq p (.inl rfl) t v m (fun h' c' kp e=>g a d j h' c' kp e) (by simp only[aO] <;> lia)
 ·obtain⟨a,d,pl,j⟩:=I.tuple hq;have i:=d.length;obtain⟨o,t,v,n,m⟩:=pl;exact call_list_seq p (.inr rfl) t v m (fun h' c' kp e=>g a d j h' c' kp e) (by simp only[aO] <;> lia)
def Iz (K:W.Frag)(T:String)(x:V)(H:Hp):Prop:=match x with
 |.str _=>T = "str"
 |.int _=>T = "int"
 |.ref p=>(T = "list"∧∃xs,fb K H p xs)∨(T = "tuple"∧∃o,K.lookup p=some o∧o.cls=.type "tuple"∧o.dict=none)∨
   (T = "dict"∧((∃kvs,H p=some (.dK kvs))∨∃kvs,H p=some (.dT kvs)))∨(T = "set"∧∃S n,H p=some (.set S n))
 |_=>False
theorem zn {x:V}{v:Value}(I:eU X pins σ H s)(r:eY x v)(ty:Iz X.K T x H):s.TypeIs v T∧∀a,v=.ref a→∃ob,s.heap.get? a=some ob∧ob.dict=none:=by
 cases x with
 |str z=>
  obtain⟨t,rfl⟩:=r;cases (show T = "str" from ty);exact⟨typeIs_str s z t,fun _ e=>nomatch e⟩
 |int i=>
  obtain⟨t,rfl⟩:=r;cases (show T = "int" from ty);exact⟨typeIs_int s i t,fun _ e=>nomatch e⟩
 |ref p=>
  cases r;rcases ty with ⟨rfl,xs,h⟩ | ⟨rfl,o,b,l,d⟩ | ⟨rfl,b⟩ | ⟨rfl,S,n,b⟩
  ·obtain⟨j,_,pl,_⟩:=I.list h;refine⟨pl.isList.typeIs,fun a e=>?_⟩;cases e;obtain⟨o,n,e,c,d,_⟩:=pl;exact⟨o,e,d⟩
  ·refine⟨⟨o,I.kIn p o b,l⟩,fun a e=>?_⟩;cases e;exact⟨o,I.kIn _ o b,d⟩
  ·have z:∃o,s.heap.get? p=some o∧o.ExactDict:=by
    rcases b with ⟨kvs,b⟩ | ⟨kvs,b⟩
    ·obtain⟨_,_,_,_,o,_,_,e,ex,_⟩:=I.hok p _ b;exact⟨o,e,ex⟩
    ·obtain⟨_,_,_,_,o,_,_,e,ex,_⟩:=I.hok p _ b;exact⟨o,e,ex⟩
   obtain⟨o,e,ex⟩:=z;refine⟨⟨o,e,ex.1⟩,fun a g=>?_⟩;cases g;exact⟨o,e,ex.2.1⟩
  ·obtain⟨o,_,_,_,e,ex,_⟩:=I.hok p _ b;refine⟨⟨o,e,ex.1⟩,fun a g=>?_⟩;cases g;exact⟨o,e,ex.2.1⟩
 |_=>exact False.elim ty
def II (K:W.Frag)(T:String)(r:V→List V→Hp→VK→Prop)(to:TE):TE:=fun σ H Q=>to σ H fun x H1=>Iz K T x H1∧r x [] H1 Q
def JV (K:W.Frag)(T:String)(r:V→List V→Hp→VK→Prop)(to:TE)(t:TA):TE:=fun σ H Q=>to σ H fun x H1=>Iz K T x H1∧t σ H1 fun xs H2=>r x xs H2 Q
variable {o:Expr}{es:List Expr}{to:TE}{t:TA}{name:Str}{apos cpos:Pos}{id:String}{r:V→List V→Hp→VK→Prop}
theorem sH (m:PlainAttrs T)(a:Slot T name id)(b:typeOf (.builtin id)=pure (.type "method_descriptor"))(j:JI X id r)(g:PE X o to)(hbase:attributeBase o name X.env (eval o X.env)=eval o X.env:=by rfl)(hline:(apos.endLine == cpos.line)=true:=by rfl):PE X (.Call (.Attribute o name apos) [] [] cpos) (II X.K T r to):=by
 intro pins s σ H Q I h;refine wpAny_Call_method0_late hbase hline (fV (g pins s σ H _ I h) ?_);rintro v i ⟨x,H1,e,d,ty,l⟩;obtain⟨h1,h2⟩:=zn e d ty;exact⟨T,id,m,a,b,h1,h2,Calls.callWith_builtin rfl (PySem.evalArgs_none (j pins i σ H1 x [] v [] Q e d .nil l))⟩
theorem jp (z:PlainAttrs T)(a:Slot T name id)(b:typeOf (.builtin id)=pure (.type "method_descriptor"))(p:JI X id r)(j:PE X o to)(w:PA X (e::es) t)(hbase:attributeBase o name X.env (eval o X.env)=eval o X.env:=by rfl)(hfew:((backTo cpos (starEach (e::es) X.env)).all (fun x=>!x.1)&&(backToKw cpos (keywordEach [] X.env)).all (fun x=>x.1.isSome)&&decide ((e::es).length+([]:List Keyword).length+(if ([]:List Keyword).isEmpty then 0 else 1)<30))=true:=by rfl)(hline:(apos.endLine == cpos.line)=true:=by rfl)(hs:starEach (e::es) X.env=(false,eval e X.env)::starEach es X.env:=by rfl)(hplain:(backTo cpos (starEach es X.env)).any (·.1)=false:=by rfl):PE X (.Call (.Attribute o name apos) (e::es) [] cpos) (JV X.K T r to t):=by
 intro pins s σ H Q I h;refine wpAny_Call_method_late hbase hfew hline rfl (fV (j pins s σ H _ I h) ?_);rintro v l ⟨x,H1,g,d,ty,y⟩;obtain⟨h1,h2⟩:=zn g d ty;refine⟨T,id,z,a,b,h1,h2,?_⟩;have i:=w cpos pins l σ H1 _ g y;rw[hs]at i ⊢;refine Calls.callWith_builtin (by show(false||(backTo cpos (starEach es X.env)).any (·.1))=false;rw[hplain] <;> rfl) (Calls.evalArgs_plain ?_)
 exact fV i (by rintro us q ⟨vs,H2,A,m,B⟩;exact p pins q σ H2 x vs v us Q A d m B)
end
def HL (X:Cx)(id:String)(r:V→List V→Hp→VK→Prop):Prop:=
 ∀(pins:List (Addr×Obj)) (s:Shared) (σ:St) (H:Hp) (x:V) (xs:List V) (v:Value) (us:List Value) (Q:VK),eU X pins σ H s→eY x v→fN xs us→r x xs H Q→
  wpAny (model X.prog X.w) X.A (call (.builtin id) (v::us)) (EP X pins σ Q) X.xe s
theorem fN.one:∀{x:V} {us:List Value},fN [x] us→∃u,us=[u]∧eY x u
 |_,_,.cons r .nil=>⟨_,rfl,r⟩
theorem fN.zero:∀{us:List Value},fN [] us→us=[]
 |_,.nil=>rfl
theorem fN.dropLast {us:List Value}(h:fN xs us):fN xs.dropLast us.dropLast:=by
 induction h with
 |nil=>exact .nil
 |cons r t ih=>
  cases t with
  |nil=>exact .nil
  |cons q t'=>exact .cons r ih
theorem fN.reverse {us:List Value}(h:fN xs us):fN xs.reverse us.reverse:=by
 induction h with
 |nil=>exact .nil
 |cons r t ih=>rw[cY,cY];exact fN.append ih (.cons r .nil)
theorem vZ {α:Type}(l:List α):l.eraseIdx (l.length-1)=l.dropLast:=by
 induction l with
 |nil=>rfl
 |cons a r ih=>
  cases r with
  |nil=>rfl
  |cons b r=>
   have e:(a::b::r).length-1=((b::r).length-1)+1:=by
    have h1:(a::b::r).length=r.length+2:=rfl;have h2:(b::r).length=r.length+1:=rfl
    lia
   rw[e,List.eraseIdx_cons_succ,ih]
   all_goals rfl
section
variable {l b:Addr}{ys zs:List V}
theorem eU.Kv {its its':List Value}{n:Nat}{f:Array Value→Array Value}{t':Nat}(I:eU X pins σ H s)(d:H l=some (.lst xs))(e:s.heap.get? l=some {cls:=.type "list",data:=.seq its.toArray n})(a:f its.toArray=its'.toArray)(b:fN ys its')(hz:ys.length≤sizeLine):eU X pins σ (upd H l (.lst ys)) {s with heap:=s.heap.update l (Obj.mapSeq f),toks:=t'}:=by
 have q:=PySem.IsL.update e f;rw[a]at q;refine I.write (x:=l) (e:=l) (by rw[d];exact trivial) (.inl rfl) (fun i u h g=>(Heap.get?_update_other s.heap (Obj.mapSeq f) (Ne.symm h)).trans g) ⟨_,q⟩ ?_
 exact⟨hz,its',_,b,q⟩
theorem eU.Kw (I:eU X pins σ H s)(a:H l=some (.lst xs)):xs.length≤sizeLine∧∃(its:List Value) (n:Nat),fN xs its∧xs.length=its.length∧s.heap.get? l=some {cls:=.type "list",data:=.seq its.toArray n}:=by
 obtain⟨z,its,n,r,e⟩:=I.hok l _ a;exact⟨z,its,n,r,r.length,e⟩
theorem AH {n:Nat}(h:n≤sizeLine):Builtin.List.listTooLong n=false:=by
 unfold Builtin.List.listTooLong;exact au (by lia)
end
inductive uW (x:V)(vs:List V)(H:Hp)(Q:VK):Prop
 |mk (l xs y:_)(_:x=.ref l)(_:vs=[y])(_:H l=some (.lst xs))(_:xs.length<sizeLine)(_:Q .non (upd H l (.lst (xs++[y])))):uW x vs H Q
def CM:V→List V→Hp→VK→Prop:=fun x vs H Q=>uW x vs H Q
theorem gN:HL X "list.append" CM:=by
 intro pins s σ H x vs v us Q I d i h;obtain⟨l,xs,y,rfl,rfl,b,m,q⟩:=h;cases d;obtain⟨u,rfl,g⟩:=i.one;obtain⟨z,a,n,r,j,e⟩:=I.Kw b;refine call_meets F.slot_list_append ⟨_,e,rfl⟩ F.entry_list_append (F.args_list_append_2 _ _) (PySem.list_append l a.toArray n u (by rw[aO];lia)) ⟨e,?_⟩;refine⟨.non,_,I.Kv (its':=a++[u]) b e (by simp) (r.append (.cons g .nil)) ?_,rfl,q⟩;rw[aF,aT]
 lia
inductive uV (x:V)(vs:List V)(H:Hp)(Q:VK):Prop
 |mk (l b xs zs:_)(_:x=.ref l)(_:vs=[.ref b])(_:H l=some (.lst xs))(_:H b=some (.lst zs))(_:xs.length+zs.length≤sizeLine)(_:Q .non (upd H l (.lst (xs++zs)))):uV x vs H Q
def CK:V→List V→Hp→VK→Prop:=fun x vs H Q=>uV x vs H Q
theorem nK:HL X "list.extend" CK:=by
 intro pins s σ H x vs v us Q I t p h;obtain⟨l,b,xs,zs,rfl,rfl,j,A,D,q⟩:=h;cases t;obtain⟨u,rfl,y⟩:=p.one;cases y;obtain⟨z,d,n,r,E,e⟩:=I.Kw j;obtain⟨C,a,B,w,m,o⟩:=I.Kw A;have i:d.toArray.size+a.toArray.size≤sizeLine:=by rw[aO,aO];lia
 have g:¬(!d.toArray.isEmpty&&Builtin.List.listTooLong (d.toArray.size+a.toArray.size))=true:=by
  rw[AH i,Bool.and_false];exact aK
 refine call_meets F.slot_list_extend ⟨_,e,rfl⟩ F.entry_list_extend (F.args_list_extend_2 _ _)
  (AutoSeq1.list_extend_list_list_0 l d.toArray n b a.toArray B g (by rw[aO];lia) (by lia)) ⟨e,o,?_⟩
 refine⟨.non,_,I.Kv (its':=d++a) j e (by simp) (r.append w) ?_,rfl,q⟩;rw[aF]
 lia
inductive Ed (x:V)(vs:List V)(H:Hp)(Q:VK):Prop
 |mk (l xs y:_)(_:x=.ref l)(_:vs=[])(_:H l=some (.lst xs))(_:xs[xs.length-1]?=some y)(_:Q y (upd H l (.lst xs.dropLast))):Ed x vs H Q
def Jb:V→List V→Hp→VK→Prop:=fun x vs H Q=>Ed x vs H Q
theorem sR:HL X "list.pop" Jb:=by
 intro pins s σ H x vs v us Q I o t h;obtain⟨l,xs,y,rfl,rfl,g,j,q⟩:=h;cases o;have d:=t.zero;subst d;obtain⟨z,a,n,r,i,e⟩:=I.Kw g;obtain⟨u,m,p⟩:=r.get j;have b:a.toArray[a.toArray.size-1]?=some u:=by
  show a.toArray[a.length-1]?=some u;rw[←bE,←i];exact m
 refine call_meets F.slot_list_pop ⟨_,e,rfl⟩ F.entry_list_pop (F.args_list_pop_1 _) (MeetsSeq.list_pop_last l a.toArray n u b (by rw[aO];lia)) ⟨e,?_⟩;refine⟨y,_,I.Kv (its':=a.dropLast) g e ?_ r.dropLast ?_,p,q⟩
 ·show a.toArray.eraseIdxIfInBounds (a.toArray.size-1)=a.dropLast.toArray;rw[aO,List.eraseIdxIfInBounds_toArray,vZ]
 ·rw[List.length_dropLast]
  lia
section
variable {prog:Program}
end
section
variable {κ:Type} [DecidableEq κ]
def eW (kvs:List (κ×V))(k:κ):Option V:=(kvs.find? fun kv=>decide (kv.1=k)).map (·.2)
def fq (kvs:List (κ×V))(k:κ)(v:V):List (κ×V):=
 if (kvs.any fun kv=>decide (kv.1=k))=true then kvs.map (fun kv=>if kv.1=k then (kv.1,v) else kv) else kvs++[(k,v)]
def jP (kvs:List (κ×V))(k:κ):List (κ×V):=kvs.filter fun kv=>decide (kv.1≠k)
theorem gs {p:κ×V}{r:List (κ×V)}{k:κ}(e:p.1=k):eW (p::r) k=some p.2:=by simp[eW,bp,e]
theorem ge {p:κ×V}{r:List (κ×V)}{k:κ}(e:¬p.1=k):eW (p::r) k=eW r k:=by simp[eW,bp,e]
theorem iR (k:κ):∀kvs:List (κ×V),(kvs.any fun kv=>decide (kv.1=k))=(eW kvs k).isSome
 |[]=>rfl
 |p::r=>by
  rw[List.any_cons];by_cases e:p.1=k
  ·simp only[gs e,ao e,Bool.true_or,Option.isSome_some]
  ·rw[ge e,au e,Bool.false_or];exact iR k r
theorem tT (k j:κ)(y:V):∀kvs:List (κ×V),eW (kvs.map fun kv=>if kv.1=k then (kv.1,y) else kv) j=(eW kvs j).map fun x=>if j=k then y else x
 |[]=>rfl
 |p::r=>by
  have ih:=tT k j y r;rw[aE];by_cases h:p.1=k
  ·rw[if_pos h];by_cases e:p.1=j
   ·rw[gs (p:=(p.1,y)) e,gs e,Option.map_some,if_pos (e.symm.trans h)]
   ·rw[ge (p:=(p.1,y)) e,ge e,ih]
  ·rw[if_neg h];by_cases e:p.1=j
   ·rw[gs (p:=p) e,gs e,Option.map_some,if_neg (fun z=>h (e.trans z))]
   ·rw[ge (p:=p) e,ge e,ih]
theorem qA (k j:κ)(y:V):∀kvs:List (κ×V),eW kvs k=none→eW (kvs++[(k,y)]) j=if j=k then some y else eW kvs j
 |[],_=>by
  by_cases e:k=j
  ·rw[if_pos e.symm];exact gs (p:=(k,y)) e
  ·rw[if_neg (fun z=>e z.symm)];exact ge (p:=(k,y)) e
 |p::r,hn=>by
  rw[cO];have hk:¬p.1=k:=fun z=>by rw[gs z]at hn;cases hn
  rw[ge hk]at hn;have ih:=qA k j y r hn;by_cases e:p.1=j
  ·rw[gs e,gs e,if_neg (fun z=>hk (e.trans z))]
  ·rw[ge e,ge e,ih]
theorem fW (kvs:List (κ×V))(k j:κ)(y:V):eW (fq kvs k y) j=if j=k then some y else eW kvs j:=by
 unfold fq;by_cases a:(kvs.any fun b=>decide (b.1=k))=true
 ·rw[if_pos a,tT];rw[iR]at a;by_cases e:j=k
  ·obtain⟨x,d⟩:=Option.isSome_iff_exists.mp a;rw[if_pos e,e,d,Option.map_some,if_pos rfl]
  ·rw[if_neg e];cases eW kvs j with
   |none=>rfl
   |some x=>rw[Option.map_some,if_neg e]
 ·rw[if_neg a];refine qA k j y kvs ?_;rw[iR]at a;cases q:eW kvs k with
  |none=>rfl
  |some x=>rw[q]at a;exact(a rfl).elim
theorem fQ (kvs:List (κ×V))(k:κ)(v:V):(fq kvs k v).length≤kvs.length+1:=by
 unfold fq
 split
 ·rw[ab];lia
 ·rw[aF,aA,List.length_nil];lia
theorem hZ {kvs:List (κ×V)}{k:κ}(v:V)(h:eW kvs k=none):fq kvs k v=kvs++[(k,v)]:=by
 unfold fq;rw[iR,h];exact if_neg (by decide)
theorem jx.Kx {u:Option Value}(r:jx o u):o.isSome=u.isSome:=by
 cases o with
 |none=>cases u with
  |none=>rfl
  |some _=>exact(show False from r).elim
 |some _=>cases u with
  |none=>exact(show False from r).elim
  |some _=>rfl
theorem jx.getD {u:Option Value}{d:V}{d':Value}(r:jx o u)(rd:eY d d'):eY (o.getD d) (u.getD d'):=by
 cases o with
 |none=>cases u with
  |none=>exact rd
  |some _=>exact(show False from r).elim
 |some _=>cases u with
  |none=>exact(show False from r).elim
  |some _=>exact r
theorem KV.val {kvs:List (κ×V)}{vs:List (κ×Value)}(r:KV kvs vs)(k:κ):jx (eW kvs k) (valueAt vs k):=by
 unfold KV at r
 induction r with
 |nil=>exact True.intro
 |@cons p q ps qs h t ih=>
  obtain⟨h1,h2⟩:=h;by_cases e:p.1=k
  ·have a:q.1=k:=h1.symm.trans e;have b:valueAt (q::qs) k=some q.2:=by simp[valueAt,bp,a]
   rw[gs e,b];exact h2
  ·have a:¬q.1=k:=fun z=>e (h1.trans z);have b:valueAt (q::qs) k=valueAt qs k:=by simp[valueAt,bp,a]
   rw[ge e,b];exact ih
theorem KV.any {kvs:List (κ×V)}{vs:List (κ×Value)}(r:KV kvs vs)(k:κ):(kvs.any fun kv=>decide (kv.1=k))=vs.any fun kv=>decide (kv.1=k):=by
 unfold KV at r
 induction r with
 |nil=>rfl
 |cons h t ih=>rw[List.any_cons,List.any_cons,ih,h.1]
theorem KV.Ky {kvs:List (κ×V)}{vs:List (κ×Value)}(r:KV kvs vs)(k:κ){u:Value}(a:eY y u):KV (kvs.map fun kv=>if kv.1=k then (kv.1,y) else kv) (vs.map fun kv=>if kv.1=k then (kv.1,u) else kv):=by
 unfold KV at r ⊢
 induction r with
 |nil=>exact .nil
 |@cons p q ps qs h t ih=>
  rw[aE,aE];refine .cons ?_ ih;obtain⟨h1,h2⟩:=h;by_cases e:p.1=k
  ·rw[if_pos e,if_pos (h1.symm.trans e)];exact⟨h1,a⟩
  ·rw[if_neg e,if_neg (fun z=>e (h1.trans z))];exact⟨h1,h2⟩
theorem KV.put {kvs:List (κ×V)}{vs:List (κ×Value)}(r:KV kvs vs)(k:κ){u:Value}(a:eY y u):KV (fq kvs k y) (stored vs k u):=by
 unfold fq stored;rw[r.any k];by_cases e:(vs.any fun b=>decide (b.1=k))=true
 ·rw[if_pos e,if_pos e];exact r.Ky k a
 ·rw[if_neg e,if_neg e];exact Paired.snoc r ⟨rfl,a⟩
theorem KV.drop {kvs:List (κ×V)}{vs:List (κ×Value)}(r:KV kvs vs)(k:κ):KV (jP kvs k) (without vs k):=by
 unfold KV at r ⊢;unfold jP without
 induction r with
 |nil=>exact .nil
 |@cons p q ps qs h t ih=>
  obtain⟨h1,h2⟩:=h;rw[aG,aG];by_cases e:p.1=k
  ·have a:¬decide (p.1≠k)=true:=by simp[e]
   have b:¬decide (q.1≠k)=true:=by simp[h1.symm.trans e]
   rw[if_neg a,if_neg b];exact ih
  ·have d:¬q.1=k:=fun z=>e (h1.trans z);have a:decide (p.1≠k)=true:=by simp[e]
   have b:decide (q.1≠k)=true:=by simp[d]
   rw[if_pos a,if_pos b];exact .cons ⟨h1,h2⟩ ih
theorem KV.keys {kvs:List (κ×V)}{vs:List (κ×Value)}(r:KV kvs vs):kvs.map (·.1)=vs.map (·.1):=by
 unfold KV at r
 induction r with
 |nil=>rfl
 |cons h t ih=>rw[aE,aE,ih,h.1]
theorem KV.length {kvs:List (κ×V)}{vs:List (κ×Value)}(r:KV kvs vs):kvs.length=vs.length:=Paired.length r
theorem Bo (kvs:List (κ×V))(k:κ):(jP kvs k).length≤kvs.length:=bD _ _
end
theorem mQ {k:gv}{u:Value}(r:eY (kV k) u):(fE P w).is k u=true:=by
 cases k with
 |inl i=>obtain⟨t,e⟩:=(show ∃t,u=Value.int i t from r);subst e;exact uh P w i t
 |inr x=>obtain⟨t,e⟩:=(show ∃t,u=Value.str x t from r);subst e;exact ug P w x t
theorem qQ {P:Program}{w:World}:∀{ks:List gv} {us:List Value},fN (ks.map kV) us→ItemsAre (fE P w) ks us
 |[],_,r=>by rw[cT]at r;cases r;exact .nil
 |k::ks,_,r=>by
  rw[aE]at r;cases r with
  |cons h t=>exact .cons (mQ h) (qQ t)
abbrev KT (H:Hp):List (List gv×V)→List (List gv×Addr×Value)→Prop:=Paired fun p q=>p.1=q.1∧H q.2.1=some (.tup (p.1.map kV))∧eY p.2 q.2.2
theorem KT.val {kvs:List (List gv×V)}{xs:List (List gv×Addr×Value)}(r:KT H kvs xs)(k:List gv):jx (eW kvs k) ((atKey xs k).map (·.2)):=by
 induction r with
 |nil=>exact True.intro
 |@cons p q ps qs h t ih=>
  obtain⟨h1,_,h2⟩:=h;by_cases e:p.1=k
  ·have a:q.1=k:=h1.symm.trans e;have b:atKey (q::qs) k=some q.2:=by simp[atKey,bp,a]
   rw[gs e,b];exact h2
  ·have a:¬q.1=k:=fun z=>e (h1.trans z);have b:atKey (q::qs) k=atKey qs k:=by simp[atKey,bp,a]
   rw[ge e,b];exact ih
theorem KT.Ky {kvs:List (List gv×V)}{xs:List (List gv×Addr×Value)}(r:KT H kvs xs)(k:List gv){u:Value}(b:eY y u):KT H (kvs.map fun kv=>if kv.1=k then (kv.1,y) else kv) (xs.map (putAt k u)):=by
 induction r with
 |nil=>exact .nil
 |@cons p q ps qs h t ih=>
  rw[aE,aE];refine .cons ?_ ih;obtain⟨h1,h2,a⟩:=h;unfold putAt;by_cases e:p.1=k
  ·rw[if_pos e,if_pos (h1.symm.trans e)];exact⟨h1,h2,b⟩
  ·rw[if_neg e,if_neg (fun z=>e (h1.trans z))];exact⟨h1,h2,a⟩
theorem KT.put {kvs:List (List gv×V)}{xs:List (List gv×Addr×Value)}(r:KT H kvs xs)(k:List gv){b:Addr}{u:Value}(g:H b=some (.tup (k.map kV)))(a:eY y u):KT H (fq kvs k y) (storedH xs k b u):=by
 have e:(kvs.any fun d=>decide (d.1=k))=(atKey xs k).isSome:=by
  rw[iR,(r.val k).Kx,Option.isSome_map]
 unfold fq storedH;rw[e];by_cases q:(atKey xs k).isSome=true
 ·rw[if_pos q,if_pos q];exact r.Ky k a
 ·rw[if_neg q,if_neg q];exact Paired.snoc r ⟨rfl,g,a⟩
theorem KT.keeps {kvs:List (List gv×V)}{xs:List (List gv×Addr×Value)}(r:KT H kvs xs)(ht:∀b ys,H b=some (.tup ys)→H' b=some (.tup ys)):KT H' kvs xs:=
 Paired.Kg r fun _ _ z=>⟨z.1,ht _ _ z.2.1,z.2.2⟩
section
variable {h:Heap}
theorem zV {u:HO}(ok:lK P w H h)(e:Rd H a u):fH P w H h a u:=e.ok ok
theorem lu (ok:lK P w H h)(e:Rd H a (.dK kvs)):kvs.length≤sizeLine∧(a == sysModules)=false∧∃vs,KV kvs vs∧h.DictOf (fE P w) a vs:=
 show fH P w H h a (.dK kvs) from zV ok e
theorem qT (ok:lK P w H h)(e:H a=some (.dK kvs)):kvs.length≤sizeLine∧(a == sysModules)=false∧∃vs,KV kvs vs∧h.DictOf (fE P w) a vs:=lu ok (.inl e)
theorem md {ks:List gv}(ok:lK P w H h)(e:H a=some (.tup (ks.map kV))):(tupleKind (fE P w)).is h ks a:=by
 obtain⟨_,b,r,o,h1,h2,n,d⟩:=(show fH P w H h a (.tup (ks.map kV)) from ok a _ e);exact⟨o,b.toArray,n,h1,h2,d,by simpa using qQ r⟩
theorem p7 {kvs:List (List gv×V)}(ok:lK P w H h)(e:Rd H a (.dT kvs)):kvs.length≤sizeLine∧(a == sysModules)=false∧∃xs,KT H kvs xs∧h.DictOfH (tupleKind (fE P w)) a xs:=by
 obtain⟨z,y,xs,r,o,es,ep,h1,h2,b,d,g⟩:=(show fH P w H h a (.dT kvs) from zV ok e);refine⟨z,y,xs,r,o,es,ep,h1,h2,b,d,fun x hx=>?_,g⟩;have all:∀{l:List (List gv×V)} {m:List (List gv×Addr×Value)},KT H l m→∀x∈m,(tupleKind (fE P w)).is h x.1 x.2.1:=by
  intro l m q
  induction q with
  |nil=>intro x hx;exact nomatch hx
  |@cons p q ps qs hq t ih=>
   intro x hx;rcases am.mp hx with e | hx
   ·subst e;exact md ok (by rw[←hq.1];exact hq.2.1)
   ·exact ih x hx
 exact all r x hx
theorem Hv {kvs:List (List gv×V)}(ok:lK P w H h)(e:H a=some (.dT kvs)):kvs.length≤sizeLine∧(a == sysModules)=false∧∃xs,KT H kvs xs∧h.DictOfH (tupleKind (fE P w)) a xs:=p7 ok (.inl e)
end
def i7 (H:Hp)(a:Addr)(y:V)(r:Option V):Prop:=
 (∃kvs k,Rd H a (.dK kvs)∧y=kV k∧r=eW kvs k)∨∃kvs k b,Rd H a (.dT kvs)∧y=.ref b∧H b=some (.tup (k.map kV))∧r=eW kvs k
def mj (H:Hp)(a:Addr)(y v:V)(H':Hp):Prop:=
 (∃kvs k,H a=some (.dK kvs)∧y=kV k∧kvs.length<sizeLine∧H'=upd H a (.dK (fq kvs k v)))∨
 ∃kvs k b,H a=some (.dT kvs)∧y=.ref b∧H b=some (.tup (k.map kV))∧kvs.length<sizeLine∧H'=upd H a (.dT (fq kvs k v))
theorem i7.k {k:gv}(e:H a=some (.dK kvs)):i7 H a (kV k) (eW kvs k):=.inl ⟨kvs,k,.inl e,rfl,rfl⟩
theorem mj.k {k:gv}(e:H a=some (.dK kvs))(hl:kvs.length<sizeLine):mj H a (kV k) v (upd H a (.dK (fq kvs k v))):=.inl ⟨kvs,k,e,rfl,hl,rfl⟩
section
variable {u r:Value}
theorem eU.big (I:eU X pins σ H s):sysModules<s.heap.objs.size:=by
 have h:mainGlobals<s.heap.objs.size:=(I.mod.glob.keeps I.bk).lt;exact Nat.lt_trans (by decide) h
theorem yT (x:A.units+1<cLine)(I:eU X pins σ H s)(g:i7 H a y (some v))(r:eY y u)(h:∀w' s',eU X pins σ H s'→eY v w'→Q w' s'):wpAny (model X.prog X.w) A (getItem (.ref a) u) Q E s:=by
 rcases g with ⟨kvs,k,e,m,l⟩ | ⟨kvs,k,b,e,m,B,l⟩
 ·subst m;obtain⟨z,t,vs,rel,j⟩:=lu I.hok e;obtain⟨w',i,d⟩:=jx.some_of (v:=v) (o:=valueAt vs k) (by rw[l];exact rel.val k);exact wpAny_getItem_of (mQ r) j.mapOf i (h w' _ (I.tok _) d)
 ·subst m;cases (show u=Value.ref b from r);obtain⟨z,t,xs,rel,j⟩:=p7 I.hok e;obtain⟨w',i,d⟩:=jx.some_of (v:=v) (o:=(atKey xs k).map (·.2)) (by rw[l];exact rel.val k);obtain⟨p,hp,q⟩:=aw.mp i;refine wpAny_getItem_heap (dt x) (md I.hok B) j hp ?_;rw[q];exact h w' _ (I.tok _) d
theorem Jn (p:A.units+1<cLine)(I:eU X pins σ H s)(g:i7 H a y o)(m:eY y u)(h:∀s',eU X pins σ H s'→Q (.bool o.isSome) s'):wpAny (model X.prog X.w) A (compareOp .In u (.ref a)) Q E s:=by
 rcases g with ⟨kvs,k,e,i,l⟩ | ⟨kvs,k,b,e,i,r,l⟩
 ·subst i;obtain⟨z,d,vs,rel,j⟩:=lu I.hok e;refine wpAny_in_of (mQ m) d j.mapOf ?_;rw[←(rel.val k).Kx,←l];exact h _ (I.tok _)
 ·subst i;cases (show u=Value.ref b from m);obtain⟨z,d,xs,rel,j⟩:=p7 I.hok e;refine wpAny_in_heap (dt p) (md I.hok r) d j ?_;have q:=(rel.val k).Kx;rw[Option.isSome_map]at q;rw[←q,←l];exact h _ (I.tok _)
theorem DC (p:A.units+1<cLine)(I:eU X pins σ H s)(g:i7 H a y o)(m:eY y u)(h:∀s',eU X pins σ H s'→Q (.bool (!o.isSome)) s'):wpAny (model X.prog X.w) A (compareOp .NotIn u (.ref a)) Q E s:=by
 rcases g with ⟨kvs,k,e,i,l⟩ | ⟨kvs,k,b,e,i,r,l⟩
 ·subst i;obtain⟨z,d,vs,rel,j⟩:=lu I.hok e;refine wpAny_notIn_of (mQ m) d j.mapOf ?_;rw[←(rel.val k).Kx,←l];exact h _ (I.tok _)
 ·subst i;cases (show u=Value.ref b from m);obtain⟨z,d,xs,rel,j⟩:=p7 I.hok e;refine wpAny_notIn_heap (dt p) (md I.hok r) d j ?_;have q:=(rel.val k).Kx;rw[Option.isSome_map]at q;rw[←q,←l];exact h _ (I.tok _)
theorem jR {h':Heap}{t':Nat}{ob:HO}(I:eU X pins σ H s)(mu:HK (H a))(hs:Heap.SameBut a s.heap h')(he:∃q,h'.get? a=some q)(new:fH X.prog X.w (upd H a ob) h' a ob):eU X pins σ (upd H a ob) {s with heap:=h',toks:=t'}:=
 I.write (x:=a) (e:=a) mu (.inl rfl) (fun b q hb z=>(hs.2 b hb).trans z) he new
theorem qb {h':Heap}{vs:List (gv×Value)}(z:kvs.length≤sizeLine)(hd:(a == sysModules)=false)(rel:KV kvs vs)(dd:h'.DictOf (fE P w) a vs):fH P w H' h' a (.dK kvs):=⟨z,hd,vs,rel,dd⟩
theorem yS {Q:Unit→Shared→Prop}(L:A.units+1<cLine)(I:eU X pins σ H s)(g:mj H a y v H')(G:eY y u)(F:eY v r)(h:∀s',eU X pins σ H' s'→Q () s'):wpAny (model X.prog X.w) A (setItem (.ref a) u r) Q E s:=by
 rcases g with ⟨kvs,k,e,B,l,m⟩ | ⟨kvs,k,b,e,B,D,l,m⟩
 ·subst B m;obtain⟨z,j,vs,rel,x⟩:=qT I.hok e;have o:vs.length≤sizeLine:=by rw[←rel.length];exact z
  have p:(fq kvs k v).length≤sizeLine:=by have:=fQ kvs k v;lia
  refine wpAny_setItem_pairs (hsz:=o) (mQ G) x fun h' d t=>h _ ?_;have N:∃q,h'.get? a=some q:=(by obtain⟨q,_,_,i,_⟩:=d;exact⟨q,i⟩);exact jR I (by rw[e];exact True.intro) t N (qb p j (rel.put k F) d)
 ·subst B m;cases (show u=Value.ref b from G);obtain⟨z,j,xs,rel,x⟩:=Hv I.hok e;have o:xs.length≤sizeLine:=by rw[←Paired.length rel];exact z
  have p:(fq kvs k v).length≤sizeLine:=by have:=fQ kvs k v;lia
  refine wpAny_setItem_heap (hsz:=o) (dt L) (md I.hok D) x fun h' d t=>h _ ?_;obtain⟨q,es,ep,i,h2,M,J,_,K⟩:=d;refine jR I (by rw[e];exact True.intro) t ⟨q,i⟩ ⟨p,j,_,(rel.put k D F).keeps fun c ys C=>?_,q,es,ep,i,h2,M,J,K⟩;rw[ef (fC C e (fun z=>nomatch z))];exact C
end
section
variable {k:gv}{u:Value}
theorem Hx {more:List Value}(I:eU X pins σ H s)(e:H a=some (.dK kvs))(d:eY (kV k) u)(l:eW kvs k=some v)(m:more=[]∨∃x,more=[x])(h:∀w' s',eU X pins σ (upd H a (.dK (jP kvs k))) s'→eY v w'→Q w' s'):wpAny (model X.prog X.w) A (call (.builtin "dict.pop") (.ref a::u::more)) Q E s:=by
 obtain⟨z,p,vs,rel,j⟩:=qT I.hok e;obtain⟨w',r,g⟩:=jx.some_of (v:=v) (o:=valueAt vs k) (by rw[←l];exact rel.val k);have hp:(keyPart u).isSome=true:=by
  cases k with
  |inl i=>obtain⟨t,q⟩:=(show ∃t,u=Value.int i t from d);subst q;rfl
  |inr x=>obtain⟨t,q⟩:=(show ∃t,u=Value.str x t from d);subst q;rfl
 have D:argsOk "dict.pop" ⟨.ref a::u::more,[]⟩:=by
  rcases m with q | ⟨x,q⟩
  ·subst q;exact PySem.F.args_dict_pop_2 _ _
  ·subst q;exact PySem.F.args_dict_pop_3 _ _ _
 refine call_meetsIn PySem.F.slot_dict_pop j.typeIs PySem.F.entry_dict_pop D (meets_dict_pop_there (fE X.prog X.w) a (mQ d) more m hp)
  ⟨vs,w',j,by rw[←rel.length];exact z,r,fun h' b y=>h w' _ ?_ g⟩
 have C:∃q,h'.get? a=some q:=(by obtain⟨q,_,_,B,_⟩:=b;exact⟨q,B⟩);exact jR I (by rw[e];exact True.intro) y C (qb (bw (Bo kvs k) z) p (rel.drop k) b)
theorem Hy (I:eU X pins σ H s)(e:Rd H a (.dK kvs))(h:∀t s',eU X pins σ H s'→Q (.int kvs.length t) s'):wpAny (model X.prog X.w) A (call (.builtin "len") [.ref a]) Q E s:=by
 obtain⟨z,b,vs,rel,d⟩:=lu I.hok e;refine call_len_dict b d (by rw[←rel.length];rw[ck]at z;lia) ?_;rw[←rel.length];exact h _ _ (I.tok _)
end
def FT (i:Expr):Prop:=∀ov iv,subscripted i false ov iv=operate [ov,iv] (getItem ov iv)
theorem wC {prog:Program}{env:Env}{value slice:Expr}{id:String}(d:typeLookup (.type T) "__getitem__" = pure (some (.builtin id)))(e:FT slice)(h:wpAny (model prog w) A (eval value env) (fun o s₁=>wpAny (model prog w) A (eval slice env) (fun i s₂=>s₂.TypeIs o T∧wpAny (model prog w) A (getItem o i) Q E s₂) E s₁) E s):wpAny (model prog w) A (eval (.Subscript value slice pos) env) Q E s:=by
 refine Subscript_ (b0 h (fun o s₁ h₁=>b0 h₁ (fun i s₂ h₂=>?_) fun _ _ x=>x) fun _ _ x=>x);obtain⟨b,h₂⟩:=h₂;unfold subscriptTail;refine ac ?_;rw[getitemInPython_of_ne b.not_modules];refine ac (wpAny_specialOf b d ?_);have a:wpAny (model prog w) A (subscripted slice false o i) (fun r s₃=>wpAny (model prog w) A (letTemporaryGo value o r >>= fun _=>pure r) Q E s₃) E s₂:=by
  rw[e o i];exact wpAny_operating (b0 h₂ (fun r s₃ h₃=>ac (wpAny_letTemporaryGo (ar h₃))) fun _ _ x=>x)
 first
  |exact ar (ac a)
  |exact ac (ar (ac a))
  |exact ac a
theorem uw (I:eU X pins σ H s)(g:i7 H a y o):s.TypeIs (.ref a) "dict":=by
 rcases g with ⟨kvs,k,e,_,_⟩ | ⟨kvs,k,b,e,_,_,_⟩
 ·obtain⟨_,_,vs,_,d⟩:=lu I.hok e;exact d.typeIs
 ·obtain⟨_,_,xs,_,d⟩:=p7 I.hok e;exact d.typeIs
inductive B9 (Q:VK)(x:V)(y:V)(H2:Hp):Prop
 |mk (a v:_)(_:x=.ref a)(_:i7 H2 a y (some v))(_:Q v H2):B9 Q x y H2
def DK (td ty:TE):TE:=fun σ H Q=>td σ H fun x H1=>ty σ H1 fun y H2=>B9 Q x y H2
inductive D9 (Q:VK)(y:V)(x:V)(H2:Hp):Prop
 |mk (a o:_)(_:x=.ref a)(_:i7 H2 a y o)(_:Q (.bl o.isSome) H2):D9 Q y x H2
def Gu (ty td:TE):TE:=fun σ H Q=>ty σ H fun y H1=>td σ H1 fun x H2=>D9 Q y x H2
inductive uT (Q:VK)(y:V)(x:V)(H2:Hp):Prop
 |mk (a o:_)(_:x=.ref a)(_:i7 H2 a y o)(_:Q (.bl (!o.isSome)) H2):uT Q y x H2
def Co (ty td:TE):TE:=fun σ H Q=>ty σ H fun y H1=>td σ H1 fun x H2=>uT Q y x H2
inductive Cc (D:mZ)(σ:St)(v:V)(x:V)(y:V)(H3:Hp):Prop
 |mk (a H4:_)(_:x=.ref a)(_:mj H3 a y v H4)(_:D.nx σ H4):Cc D σ v x y H3
def GT (td ty tv:TE):TS:=fun D σ H=>tv σ H fun v H1=>td σ H1 fun x H2=>ty σ H2 fun y H3=>Cc D σ v x y H3
section
variable {o i value:Expr}{pos' tpos:Pos}{td ty tv:TE}
theorem gU (j:X.A.units+1<cLine)(e:PE X o td)(hi:PE X i ty)(r:FT i):PE X (.Subscript o i pos) (DK td ty):=by
 intro pins s σ H Q I h;refine wC PySem.F.slot_dict_getitem.lookup r (fV (e pins s σ H _ I h) ?_);rintro u l ⟨x,H1,p,m,w⟩;refine fV (hi pins l σ H1 _ p w) ?_;rintro E C ⟨y,H2,d,q,a,v,ex,g,z⟩;subst ex;obtain rfl:u=Value.ref a:=m;exact⟨uw d g,yT j d g q fun B D t b=>⟨v,H2,t,b,z⟩⟩
theorem sI (p:X.A.units+1<cLine)(hi:PE X i ty)(b:PE X o td):PC X .In i o (Gu ty td):=by
 intro pins s σ H Q I h;refine fV (hi pins s σ H _ I h) ?_;rintro B d ⟨y,H1,l,m,r⟩;refine fV (b pins d σ H1 _ l r) ?_;rintro u w ⟨x,H2,t,e,a,j,ex,g,v⟩;subst ex;obtain rfl:u=Value.ref a:=e;exact Jn p t g m fun z q=>⟨.bl j.isSome,H2,q,rfl,v⟩
theorem lG (p:X.A.units+1<cLine)(hi:PE X i ty)(b:PE X o td):PC X .NotIn i o (Co ty td):=by
 intro pins s σ H Q I h;refine fV (hi pins s σ H _ I h) ?_;rintro B d ⟨y,H1,l,m,r⟩;refine fV (b pins d σ H1 _ l r) ?_;rintro u w ⟨x,H2,t,e,a,j,ex,g,v⟩;subst ex;obtain rfl:u=Value.ref a:=e;exact DC p t g m fun z q=>⟨.bl (!j.isSome),H2,q,rfl,v⟩
theorem ja (B:X.A.units+1<cLine)(w:PE X o td)(hi:PE X i ty)(G:PE X value tv)(E:swapsWith value (some (.Subscript o i pos')) pos.line X.env=pure false):PS X (.Assign [.Subscript o i pos'] value pos) (GT td ty tv):=by
 intro pins s σ H D I h;refine wpAny_Assign_Subscript (fV (G pins s σ H _ I h) ?_) E;rintro r z ⟨v,H1,d,t,m⟩;refine fV (w pins z σ H1 _ d m) ?_;rintro u l ⟨x,H2,q,C,J⟩;refine fV (hi pins l σ H2 _ q J) ?_;rintro N M ⟨y,L,e,F,a,j,ex,g,p⟩;subst ex;obtain rfl:u=Value.ref a:=C;exact yS B e g F t fun K b=>⟨σ,j,b,p⟩
end
theorem qc (h:Heap)(hb:sysModules<h.objs.size):fH P w H (h.push {cls:=.type "dict",data:=.dict #[]}) h.objs.size (.dK []):=
 ⟨bo _,beq_eq_false_iff_ne.mpr (Ne.symm (aU hb)),[],.nil,Heap.DictOf.new h⟩
def EC:TE:=fun _ H Q=>∀p,H p=none→Q (.ref p) (upd H p (.dK []))
theorem il:PE X (.Dict [] [] pos) EC:=fun pins s σ H Q I h=>
 wpAny_Dict_empty ⟨.ref s.heap.objs.size,_,I.laid (a:=s.heap.objs.size) (o:=.dK []) (t':=s.toks) (fun _ _ q=>aC _ q) (aq _) (qc s.heap I.big),rfl,h _ (I.hok.fresh (aq _))⟩
def rl:List (TE×TE)→St→Hp→(List (V×V)→Hp→Prop)→Prop
 |[],_,H,Q=>Q [] H
 |(tk,tv)::r,σ,H,Q=>tk σ H fun x H1=>tv σ H1 fun y H2=>rl r σ H2 fun ps H3=>Q ((x,y)::ps) H3
abbrev VV:List (V×V)→List (Value×Value)→Prop:=Paired fun p q=>eY p.1 q.1∧eY p.2 q.2
def HH (X:Cx)(pos:Pos)(keys:List (Option Expr))(values:List Expr)(trs:List (TE×TE)):Prop:=
 ∀(pins:List (Addr×Obj)) (s:Shared) (σ:St) (H:Hp) (Q:List (V×V)→Hp→Prop),eU X pins σ H s→rl trs σ H Q→
  wpAny (model X.prog X.w) X.A (evalPairs (pairTrees keys values X.env pos)) (fun vs s'=>∃ps H',eU X pins σ H' s'∧VV ps vs∧Q ps H') X.xe s
theorem wJ:HH X pos [] [] []:=fun pins s σ H Q I h=>pairTrees_nil_walk ⟨[],H,I,.nil,h⟩
theorem t9 {k v:Expr}{ks:List (Option Expr)}{vs:List Expr}{tk tv:TE}{trs:List (TE×TE)}(hk:PE X k tk)(hv:PE X v tv)(hr:HH X pos ks vs trs):HH X pos (some k::ks) (v::vs) ((tk,tv)::trs):=fun pins s σ H Q I h=>
 pairTrees_cons_walk (fV (hk pins s σ H _ I h) fun u s1 ⟨x,H1,I1,rx,q1⟩=>fV (hv pins s1 σ H1 _ I1 q1) (by rintro w2 s2 ⟨y,H2,I2,ry,q2⟩;exact fV (hr pins s2 σ H2 _ I2 q2) (by rintro ws s3 ⟨ps,H3,I3,rel,q3⟩;exact⟨(x,y)::ps,H3,I3,.cons ⟨rx,ry⟩ rel,q3⟩)))
def jV (kvs more:List (gv×V)):List (gv×V):=more.foldl (fun acc kv=>fq acc kv.1 kv.2) kvs
theorem KV.merge:∀{more:List (gv×V)} {rs:List (gv×Value)} {kvs:List (gv×V)} {vs:List (gv×Value)},KV more rs→KV kvs vs→KV (jV kvs more) (merged vs rs):=by
 intro more rs kvs vs r;unfold KV at r
 induction r generalizing kvs vs with
 |nil=>intro q;exact q
 |@cons p q ps qs h t ih=>
  intro a;have e:KV (fq kvs p.1 p.2) (stored vs q.1 q.2):=by
   have:=a.put p.1 h.2;rw[←h.1];exact this
  exact ih e
theorem lT:∀(more kvs:List (gv×V)),(jV kvs more).length≤kvs.length+more.length
 |[],kvs=>by show kvs.length≤kvs.length+0;lia
 |p::r,kvs=>by
  have h1:=lT r (fq kvs p.1 p.2);have h2:=fQ kvs p.1 p.2;show(jV (fq kvs p.1 p.2) r).length≤_;rw[aA];lia
theorem qf {P:Program}{w:World}:∀{kvs:List (gv×V)} {ws:List (Value×Value)},VV (kvs.map fun kv=>(kV kv.1,kv.2)) ws→∃rs,Carries (fE P w) ws rs∧KV kvs rs
 |[],_,r=>by rw[cT]at r;cases r;exact⟨[],True.intro,.nil⟩
 |p::kvs,_,r=>by
  rw[aE]at r;cases r with
  |@cons a b as bs h t=>
   obtain⟨rs,c,q⟩:=qf (P:=P) (w:=w) t;obtain⟨b1,b2⟩:=b;exact⟨(p.1,b2)::rs,⟨mQ h.1,rfl,c⟩,.cons ⟨rfl,h.2⟩ q⟩
def Gr (trs:List (TE×TE)):TE:=fun σ H Q=>∀p,H p=none→rl trs σ (upd H p (.dK [])) fun ps H2=>H2 p=some (.dK [])∧∃kvs:List (gv×V),ps=kvs.map (fun kv=>(kV kv.1,kv.2))∧kvs.length≤15∧Q (.ref p) (upd H2 p (.dK (jV [] kvs)))
theorem C0 {keys:List (Option Expr)}{values:List Expr}{trs:List (TE×TE)}(h:HH X pos keys values trs)(b:keys.all (·.isSome)=true)(y:keys.length=values.length)(l:keys≠[])(g:keys.length≤15):PE X (.Dict keys values pos) (Gr trs):=by
 intro pins s σ H Q I q;have B:=I.hok.fresh (aq s.heap.objs.size);have m:=I.laid (a:=s.heap.objs.size) (o:=.dK []) (h':=s.heap.push {cls:=.type "dict",data:=.dict #[]}) (t':=s.toks) (fun _ _ q=>aC _ q) (aq _) (qc s.heap I.big);refine wpAny_Dict_walk (knd:=fE X.prog X.w) b y l g (fV (h pins _ σ _ _ m (q _ B)) ?_);rintro K J ⟨ps,H2,i,rel,e,kvs,ep,G,F⟩;subst ep;obtain⟨x,c,t⟩:=qf (P:=X.prog) (w:=X.w) rel;obtain⟨z,j,D,r,C⟩:=qT i.hok e;cases r;refine⟨x,c,C,fun h' d A=>⟨.ref s.heap.objs.size,_,?_,rfl,F⟩⟩;have v:(jV [] kvs).length≤sizeLine:=by
  have h1:=lT kvs [];rw[List.length_nil]at h1;rw[ck];lia
 have E:∃q,h'.get? s.heap.objs.size=some q:=(by obtain⟨q,_,_,p,_⟩:=d;exact⟨q,p⟩);exact jR i (by rw[e];exact True.intro) A E (qb v j (t.merge .nil) d)
structure M1 (X:Cx)(o:Expr)(m:Str)(apos:Pos)(e:Expr)(cpos:Pos):Prop where
 base:attributeBase o m X.env (eval o X.env)=eval o X.env
 few:((backTo cpos (starEach [e] X.env)).all (fun x=>!x.1)&&(backToKw cpos (keywordEach [] X.env)).all (fun x=>x.1.isSome)&&decide (([e]:List Expr).length+([]:List Keyword).length+(if ([]:List Keyword).isEmpty then 0 else 1)<30))=true
 line:(apos.endLine == cpos.line)=true
 trees:backTo cpos (starEach [e] X.env)=[(false,eval e X.env)]
structure M2 (X:Cx)(o:Expr)(m:Str)(apos:Pos)(e f:Expr)(cpos:Pos):Prop where
 base:attributeBase o m X.env (eval o X.env)=eval o X.env
 few:((backTo cpos (starEach [e,f] X.env)).all (fun x=>!x.1)&&(backToKw cpos (keywordEach [] X.env)).all (fun x=>x.1.isSome)&&decide (([e,f]:List Expr).length+([]:List Keyword).length+(if ([]:List Keyword).isEmpty then 0 else 1)<30))=true
 line:(apos.endLine == cpos.line)=true
 trees:backTo cpos (starEach [e,f] X.env)=[(false,eval e X.env),(false,eval f X.env)]
def HU (H:Hp)(a:Addr):Prop:=(∃kvs,Rd H a (.dK kvs))∨∃kvs,Rd H a (.dT kvs)
theorem vW (I:eU X pins σ H s)(d:HU H a):s.TypeIs (.ref a) "dict"∧(∀b,Value.ref a=.ref b→∃ob,s.heap.get? b=some ob∧ob.dict=none)∧(a == sysModules)=false:=by
 rcases d with ⟨kvs,e⟩ | ⟨kvs,e⟩
 ·obtain⟨_,h,vs,_,g⟩:=lu I.hok e;refine⟨g.typeIs,fun b q=>?_,h⟩;cases q;obtain⟨ob,_,_,h1,h2,_⟩:=g;exact⟨ob,h1,h2.2.1⟩
 ·obtain⟨_,h,xs,_,g⟩:=p7 I.hok e;refine⟨g.typeIs,fun b q=>?_,h⟩;cases q;obtain⟨ob,_,_,h1,h2,_⟩:=g;exact⟨ob,h1,h2.2.1⟩
section
variable {d:V}{u r:Value}
theorem FM (q:A.units+1<cLine)(I:eU X pins σ H s)(g:i7 H a y o)(p:eY y u)(rd:eY d r)(h:∀w' s',eU X pins σ H s'→eY (o.getD d) w'→Q w' s'):wpAny (model X.prog X.w) A (call (.builtin "dict.get") [.ref a,u,r]) Q E s:=by
 rcases g with ⟨kvs,k,e,m,l⟩ | ⟨kvs,k,b,e,m,t,l⟩
 ·subst m;obtain⟨z,j,vs,rel,i⟩:=lu I.hok e;refine call_meetsIn PySem.F.slot_dict_get i.typeIs PySem.F.entry_dict_get (PySem.F.args_dict_get_3 _ _ _) (meets_dict_get_default (fE X.prog X.w) a (mQ p) j r) ⟨_,i.mapOf,h _ _ (I.tok _) ?_⟩;rw[l];exact(rel.val k).getD rd
 ·subst m;cases (show u=Value.ref b from p);obtain⟨z,j,xs,rel,i⟩:=p7 I.hok e;refine call_meetsIn PySem.F.slot_dict_get i.typeIs PySem.F.entry_dict_get (PySem.F.args_dict_get_3 _ _ _) (meetsH_dict_get_default (tupleKind (fE X.prog X.w)) a b j r) ⟨dt q,k,xs,md I.hok t,i,h _ _ (I.tok _) ?_⟩;rw[l];exact(rel.val k).getD rd
end
inductive xO (ty:TE)(tx:TE)(σ:St)(Q:VK)(x:V)(H1:Hp):Prop
 |mk (a:_)(_:x=.ref a)(_:HU H1 a)(_:ty σ H1 fun y H2=>tx σ H2 fun z H3=>∃o,i7 H3 a y o∧Q (o.getD z) H3):xO ty tx σ Q x H1
def EE (td ty tx:TE):TE:=fun σ H Q=>td σ H fun x H1=>xO ty tx σ Q x H1
inductive xM (ty:TE)(σ:St)(Q:VK)(x:V)(H1:Hp):Prop
 |mk (a:_)(_:x=.ref a)(_:HU H1 a)(_:ty σ H1 fun y H2=>∃kvs k v,H2 a=some (.dK kvs)∧y=kV k∧eW kvs k=some v∧Q v (upd H2 a (.dK (jP kvs k)))):xM ty σ Q x H1
def EA (td ty:TE):TE:=fun σ H Q=>td σ H fun x H1=>xM ty σ Q x H1
section
variable {o f:Expr}{apos cpos:Pos}{td ty tx:TE}
theorem j3 (G:X.A.units+1<cLine)(C:PE X o td)(M:PE X e ty)(B:PE X f tx)(m:M2 X o "get" apos e f cpos):PE X (.Call (.Attribute o "get" apos) [e,f] [] cpos) (EE td ty tx):=by
 intro pins s σ H Q I h;refine dz m.base m.few m.line PySem.F.plainAttrs_dict PySem.F.slot_dict_get PySem.F.type_dict_get (fV (C pins s σ H _ I h) ?_);rintro u E ⟨x,H1,i,J,a,ex,d,t⟩;subst ex;obtain rfl:u=Value.ref a:=J;obtain⟨D,j,_⟩:=vW i d;refine⟨D,j,?_⟩;rw[m.trees];refine Calls.callWith_builtin rfl (Calls.evalArgs_plain (Calls.spliced_cons (fV (M pins E σ H1 _ i t) fun T r ⟨y,H2,w,K,N⟩=>Calls.spliced_cons (fV (B pins r σ H2 _ w N) fun U S ⟨z,p,q,L,R,g,v⟩=>Calls.spliced_nil ?_))));exact FM G q g K L fun P O l b=>⟨_,p,l,b,v⟩
theorem Ak (r:PE X o td)(B:PE X e ty)(m:M1 X o "pop" apos e cpos):PE X (.Call (.Attribute o "pop" apos) [e] [] cpos) (EA td ty):=by
 intro pins s σ H Q I h;refine dz m.base m.few m.line PySem.F.plainAttrs_dict PySem.F.slot_dict_pop PySem.F.type_dict_pop (fV (r pins s σ H _ I h) ?_);rintro u w ⟨x,H1,g,z,a,ex,d,p⟩;subst ex;obtain rfl:u=Value.ref a:=z;obtain⟨t,i,_⟩:=vW g d;refine⟨t,i,?_⟩;rw[m.trees];refine Calls.callWith_builtin rfl (Calls.evalArgs_plain (Calls.spliced_cons (fV (B pins w σ H1 _ g p) ?_)));rintro L J ⟨y,H2,q,A,kvs,k,v,D,C,l,E⟩;refine Calls.spliced_nil ?_;subst C;exact Hx q D A l (.inl rfl) fun G K j b=>⟨v,_,j,b,E⟩
end
theorem Bs (I:eU X pins σ H s)(e:Rd H a (.dK kvs))(h:∀p s',H p=none→eU X pins σ (upd H p (.dK kvs)) s'→Q (.ref p) s'):wpAny (model X.prog X.w) A (call (.type "dict") [.ref a]) Q E s:=by
 obtain⟨z,i,vs,rel,l⟩:=lu I.hok e;refine kt_call_dict i l (by rw[←rel.length];exact z) fun h' d j=>?_;refine h _ _ (I.hok.fresh (aq _)) (I.laid (a:=s.heap.objs.size) (o:=.dK kvs) (t':=s.toks) (fun b q g=>?_) (aq _) (qb z (beq_eq_false_iff_ne.mpr (Ne.symm (aU I.big))) rel d));exact(j.2 b (aU (aN g))).trans (aC _ g)
section
variable {u:Value}
end
end L2
namespace Att
open PySem PySem.W PySem.Calls PyProof.Rows
theorem oA {P:Params}{h:Heap}:∀(ns:List Int) (vs:List Value),WellAll P h vs (ns.map WData.int)→IntsAre vs ns:=by
 intro ns
 induction ns with
 |nil=>
  intro vs w;rw[cT]at w;cases w;exact .nil
 |cons n ns ih=>
  intro vs w;rw[aE]at w;cases w with
  |cons a b=>
   cases a;exact .cons _ _ (ih _ b)
theorem xZ {l:OpenLaw}{n:Nat}(t:l.most=some n){P:Params}{h:Heap}{args:List WData}{vals:List Value}(b:l.row.toRowW.claim.pre args=true)(m:WellAll P h vals args):∃a vs ns,vals=[Value.ref a]∧args=[WData.list (ns.map WData.int)]∧h.get? a=some {cls:=.type "list",data:=.seq vs.toArray}∧IntsAre vs ns∧ns.length≤n:=by
 have j:WShape.hasAll [] args [.list .int]=true:=(pre_splitW b).1;have o:l.pre.holds [] {args:=args}=true:=(pre_splitW b).2;obtain⟨d,r,rfl,h1,h2⟩:=hasAllW_cons j;obtain rfl:=hasAllW_nil h2;obtain⟨xs,rfl,p⟩:=hasW_list h1;obtain⟨ns,rfl⟩:=items_int p;have e:ns.length≤n:=by
  unfold OpenLaw.pre at o;have g:(WTm.not (.lt (.lit (.int (n:Int))) (.len (.arg 0)))).holds [] {args:=[.list (ns.map .int)]}=true:=by
   have g:=(holds_andW o).1;rw[t]at g;exact g
  have i:=condW_of g (w_not (w_lt w_lit (w_len_list (w_arg rfl))));rw[ab]at i;refine Nat.le_of_not_lt fun q=>?_;have s:(n:Int)<((ns.length:Nat):Int):=by lia
  first
   |(rw[ao s]at i;exact absurd i (by decide))
   |(simp at i;lia)
 cases m with
 |cons w1 w2=>
  cases w2;cases w1 with
  |list ho hall=>exact⟨_,_,ns,rfl,rfl,ho,oA ns _ hall,e⟩
theorem x8 (l:OpenLaw)(args:List WData):l.row.toRowW.claim.post args (.bool true) args=true:=
 postW_of (r:=l.row.toRowW) (X:=(true == true))
  (show WShape.has [] (.bool true) .bool=true by first | rfl | decide | simp[WShape.has,WShape.arms,WShape.armsAll])
  (show(WTm.eq .res (.lit (.bool true))).value [] {args:=args,res:=some (.bool true),after:=args}=some (.bool (true == true)) from w_eq_bool (w_res rfl) w_lit) rfl
theorem uG {l:OpenLaw}{n:Nat}{q:Program}{loose:List Str}{XP:(Str→Option Value)→Heap→Prop}{YP:World→Heap→Prop}{d:DefRec}(H:l.most=some n)(j:d.params.defaults=[])(call:∀(w:World) (s₀ s₁:Shared) (mg mb:Str→Option Value) (fa:Addr) (o:Obj) (pm cd doc:Value) (a:Addr) (vs:List Value) (ns:List Int),Ground q loose [] XP w s₀ mg mb s₁.heap→YP w s₁.heap→s₁.heap.get? fa=some o→o.data=.func (docDef d.name d.params d.body d.scope pm cd doc)→s₁.heap.CodeRec cd d.name→mg d.name=some (.ref fa)→s₁.heap.get? a=some {cls:=.type "list",data:=.seq vs.toArray}→IntsAre vs ns→ns.length≤n→s₁.gens=#[]→codeAny (model l.prog w) callerA (.call (.ref fa) ⟨[.ref a],[]⟩) (fun r s'=>r=.ok (.ret (.bool true))∧OldK s₁.heap s'.heap∧s'.os=s₁.os∧AllBare s'.gens) s₁):WalkO q loose XP YP l.row.toRowW d [] (fun f vs=>PySem.call f vs):=by
 intro w s₀ s₁ mg mb G Y fa o pm cd doc K kV D z p x m A t v L h y E i J;obtain rfl:K=.none:=Dflts.none x j;obtain rfl:kV=.none:=Dflts.noKw x;obtain⟨a,vs,ns,rfl,rfl,e,b,g⟩:=xZ H h i;refine enter_call (codeAny_mono (call w s₀ s₁ mg mb fa o pm cd doc a vs ns G Y D (fd_plain z) p m e b g A) fun r s' B=>?_);obtain⟨rfl,h2,F,C⟩:=B;exact⟨.inl ⟨.bool true,.bool true,[],rfl,fun _=>rfl,.bool true,x8 l _,fun _=>⟨List.Pairwise.nil,fun _ I=>(nomatch I)⟩⟩,h2,F,C⟩
section
variable {prog:Program}{w:World}{A:Around}{E:Value→Shared→Prop}{s:Shared}{K:Frag}
end
end Att
namespace L2
open PySem PySem.Spec PyProof.Rows
variable {A B:Prop}{H:Hp}{qual x:Str}{st:Stmt}
theorem nh:∀{vs:List Value} {ns:List Int},IntsAre vs ns→fN (ns.map V.int) vs
 |_,_,.nil=>.nil
 |_,_,.cons n t h=>.cons ⟨t,rfl⟩ (nh h)
def fG (s:Stmt)(j:Nat):Stmt:=match s with
 |.ClassDef _ _ _ body _ _ _ _ _ _ _=>body.getD j (.Pass ⟨0,0,0,0⟩)
 |_=>.Pass ⟨0,0,0,0⟩
def hU (s:Stmt):Arguments:=match s with
 |.FunctionDef _ a _ _ _ _ _ _ _ _=>a
 |_=>{posonlyargs:=[],args:=[],vararg:=none,kwonlyargs:=[],kw_defaults:=[],kwarg:=none,defaults:=[]}
def gF (s:Stmt):List Stmt:=match s with
 |.FunctionDef _ _ b _ _ _ _ _ _ _=>b
 |_=>[]
def eE (s:Stmt):Scope:=match s with
 |.FunctionDef _ _ _ _ _ _ sc _ _ _=>sc
 |_=>{kind:=.function,names:=[],isGenerator:=false,isCoroutine:=false}
abbrev fh:xS:=fun _ _ _ _ _ _=>False
abbrev E0:XK:=fun _ _ _=>False
theorem eT {X:Cx}:jW fh X E0:=fun _ _ _ _ _ _ _ h=>h.elim
structure iQ (K:W.Frag)(x qual:Str)(st:Stmt)(f:Addr)(fd:FuncData):Prop where
 ex:∃(oc:Value) (od:Option Addr) (kV doc pm:Value) (an:Option Addr) (cdv ct:Value) (osl:Array (Option Value)),
  fd=W.fnOf x qual (hU st) (gF st) (eE st) .none kV doc pm an cdv ct∧K.lookup f=some ⟨oc,od,.func fd,osl⟩∧W.codeIn K cdv qual=true
 kp:W.keepIn K (.ref f)=true
section
variable {P:Program}{w:World}{K:W.Frag}{mg:Str→Option Value}{base:Heap}
theorem iQ.ok {f:Addr}{fd:FuncData}{N ps:List Str}{k:Nat}{sp:Sp}(F:iQ K x qual st f fd)(S:eM N ps (eE st))(len:∀vs H Q E,sp vs H Q E→vs.length=ps.length)(a:∀(cdv:Value) (A:Around) (outer:List Env) (s:Shared) (H:Hp) (vs:List V) (Q:VK) (E:XK),gM k (A.deeper (envOfC qual (eE st) s.heap.objs.size f cdv))→sp vs H Q E→∃t,nX (ux fh P w K mg base N qual (eE st) f cdv A outer s H E).nox (gF st) t∧t {nx:=fun _ H'=>Q .non H',rt:=Q} (start N vs) H):eZ P w K mg base fh (k+1) f fd ps sp:=by
 obtain⟨l,o,kV,i,pm,m,cdv,p,j,rfl,e,d⟩:=F.ex;refine DS e d S len fun A outer s H vs Q E g b=>?_;obtain⟨t,h,q⟩:=a cdv A outer s H vs Q E g b;exact⟨t,h.nox,q⟩
theorem iQ.binds {f:Addr}{fd:FuncData}{ps:List Str}(F:iQ K x qual st f fd)(h:∀(kV doc pm:Value) (an:Option Addr) (cdv ct:Value) (us:List Value),us.length=ps.length→bindArgs (W.fnOf x qual (hU st) (gF st) (eE st) .none kV doc pm an cdv ct) ⟨us,[]⟩=pure (ps.zip us)):gi K fd ps []:=by
 obtain⟨g,d,kV,doc,pm,an,cdv,ct,b,rfl,e,a⟩:=F.ex;exact .all (h kV doc pm an cdv ct)
theorem nS {f:Addr}{oc:Value}{od an:Option Addr}{osl:Array (Option Value)}{kV doc pm cdv ct:Value}(l:K.lookup f=some ⟨oc,od,.func (W.fnOf x qual (hU st) (gF st) (eE st) .none kV doc pm an cdv ct),osl⟩)(c:W.codeIn K cdv qual=true)(k:W.keepIn K (.ref f)=true):iQ K x qual st f (W.fnOf x qual (hU st) (gF st) (eE st) .none kV doc pm an cdv ct):=⟨⟨oc,od,kV,doc,pm,an,cdv,ct,osl,rfl,l,c⟩,k⟩
end
theorem gR {A:Around}{k:Nat}(hr:gM k A):A.units+1<cLine:=bJ (Nat.add_le_add_left (by decide:1≤64) _) hr.units
theorem eV {n:Nat}(h:n≤1000):n<sizeLine:=bJ h (by decide)
section
variable {X:Cx}
theorem pv (i:Nat){pos:Pos}(hN:X.N[i]?=some x:=by rfl)(hv:D3 X.env.scope x:=by first | exact Or.inl rfl | exact Or.inr (Or.inl rfl) | exact Or.inr (Or.inr rfl))(hd:(x == ("__debug__" : Str))=false:=by decide)(hcd:(x == ("__classdict__" : Str))=false:=by decide):PE X (.Name x pos) (ow i):=E1 hN hv hd hcd
end
theorem ff (h:B):if false=true then A else B:=by
 rw[if_neg aK];exact h
theorem gL (h:A):if true=true then A else B:=by
 rw[if_pos rfl];exact h
theorem kJ {c:Prop} [Decidable c] (h1:c→A)(h2:¬c→B):if c then A else B:=by
 by_cases h:c
 ·rw[if_pos h];exact h1 h
 ·rw[if_neg h];exact h2 h
theorem om {c:Prop} [Decidable c] (a:c)(h:B):if (!decide c)=true then A else B:=by
 rw[ao a];exact ff h
def eF (H H':Hp):Prop:=∀b o,H b=some o→H' b=some o
theorem eF.refl (H:Hp):eF H H:=fun _ _ h=>h
theorem eF.trans {H1 H2:Hp}(a:eF H H1)(b:eF H1 H2):eF H H2:=fun c o h=>b c o (a c o h)
theorem eF.free {H':Hp}(e:eF H H'){l:Addr}(h:H' l=Option.none):H l=Option.none:=by
 cases q:H l with
 |none=>rfl
 |some o=>
  rw[e l o q]at h;cases h
theorem eF.seq {K:W.Frag}{H':Hp}{a:Addr}{xs:List V}(e:eF H H')(h:fb K H a xs):fb K H' a xs:=by
 rcases h with (h | ⟨o,h⟩) | h
 ·exact .inl (.inl (e _ _ h))
 ·exact .inl (.inr ⟨o,e _ _ h⟩)
 ·exact .inr h
section
variable {κ:Type} [DecidableEq κ]
theorem iG {kvs:List (κ×V)}{k:κ}{v:V}(h:eW kvs k=some v):k∈kvs.map (·.1):=by
 have q:(kvs.any fun a=>decide (a.1=k))=true:=by
  rw[iR,h]
  all_goals rfl
 obtain⟨p,hp,e⟩:=dG.mp q;exact av.mpr ⟨p,hp,aR e⟩
theorem sO:∀{l:List κ} {k:κ},l.Nodup→¬k∈l→(l++[k]).Nodup
 |[],k,_,_=>by simp
 |a::r,k,h,hk=>by
  obtain⟨h1,h2⟩:=aV.mp h;show(a::(r++[k])).Nodup;refine aV.mpr ⟨fun m=>?_,sO h2 fun m=>hk (am.mpr (Or.inr m))⟩;rcases aB.mp m with q | q
  ·exact h1 q
  ·exact hk (am.mpr (Or.inl (ai.mp q).symm))
end
end L2
set_option maxHeartbeats 4000000
namespace L2
open PySem PySem.Spec PyProof.Rows
variable {A:Around}{E Q:Value→Shared→Prop}{H H':Hp}{K:W.Frag}{N':List Str}{P:Program}{X:Cx}{a d:Addr}{e:Expr}{es:Array DictEntry}{g:TG}{h:Heap}{i j:Nat}{ks:List fM}{kvs:List (fM×V)}{p pos:Pos}{pins:List (Addr×Obj)}{s:Shared}{scope:Scope}{te:TE}{tt:TT}{v:Value}{w:World}{xs:List (fM×Value×Value)}{y:V}{σ:St}
mutual
inductive kK (H:Hp):V→PyData→Prop
 |non:kK H .non .none
 |bl (b:Bool):kK H (.bl b) (.bool b)
 |int (i:Int):kK H (.int i) (.int i)
 |str (x:Str):kK H (.str x) (.str x)
 |lst {a:Addr} {xs:List V} {ds:List PyData}:H a=some (.lst xs)→iF H xs ds→kK H (.ref a) (.list ds)
 |tup {a:Addr} {xs:List V} {ds:List PyData}:H a=some (.tup xs)→iF H xs ds→kK H (.ref a) (.tuple ds)
inductive iF (H:Hp):List V→List PyData→Prop
 |nil:iF H [] []
 |cons {v:V} {d:PyData} {vs:List V} {ds:List PyData}:kK H v d→iF H vs ds→iF H (v::vs) (d::ds)
end
mutual
theorem kK.same {H H':Hp}(e:eF H H'):∀{v:V} {d:PyData},kK H v d→kK H' v d
 |_,_,.non=>.non
 |_,_,.bl b=>.bl b
 |_,_,.int i=>.int i
 |_,_,.str x=>.str x
 |_,_,.lst h r=>.lst (e _ _ h) (iF.same e r)
 |_,_,.tup h r=>.tup (e _ _ h) (iF.same e r)
theorem iF.same {H H':Hp}(e:eF H H'):∀{vs:List V} {ds:List PyData},iF H vs ds→iF H' vs ds
 |_,_,.nil=>.nil
 |_,_,.cons r t=>.cons (kK.same e r) (iF.same e t)
end
theorem iF.length {H:Hp}:∀{vs:List V} {ds:List PyData},iF H vs ds→vs.length=ds.length
 |_,_,.nil=>rfl
 |_,_,.cons _ t=>congrArg (·+1) (iF.length t)
theorem iF.append {H:Hp}:∀{vs ws:List V} {ds es:List PyData},iF H vs ds→iF H ws es→iF H (vs++ws) (ds++es)
 |_,_,_,_,.nil,t=>t
 |_,_,_,_,.cons r t,u=>.cons r (iF.append t u)
theorem iF.snoc_inv {vs:List V}{ds:List PyData}{d:PyData}(r:iF H vs (ds++[d])):∃ws v,vs=ws++[v]∧iF H ws ds∧kK H v d:=by
 induction ds generalizing vs with
 |nil=>
  cases r with
  |cons h t=>cases t;exact⟨[],_,rfl,.nil,h⟩
 |cons c ds ih=>
  cases r with
  |cons h t=>
   obtain⟨ws,v,e,h1,h2⟩:=ih t;exact⟨_::ws,v,by rw[e];rfl,.cons h h1,h2⟩
mutual
theorem kK.reads (I:eU X pins σ H s):∀{v:V} {d:PyData} {u:Value},kK H v d→eY v u→∃as,Reads s.heap u d as
 |_,_,u,.non,r=>by cases (show u=Value.none from r);exact⟨_,.none⟩
 |_,_,u,.bl b,r=>by cases (show u=Value.bool b from r);exact⟨_,.bool b⟩
 |_,_,u,.int i,r=>by obtain⟨t,e⟩:=(show ∃t,u=Value.int i t from r);subst e;exact⟨_,.int i t⟩
 |_,_,u,.str x,r=>by obtain⟨t,e⟩:=(show ∃t,u=Value.str x t from r);subst e;exact⟨_,.str x t⟩
 |_,_,u,.lst (a:=a) (xs:=xs) h q,r=>by
  cases (show u=Value.ref a from r);obtain⟨z,its,n,rv,e⟩:=(show fH X.prog X.w H s.heap a (.lst xs) from I.hok a _ h);obtain⟨as,k⟩:=iF.readsAll I q rv;exact⟨_,.list e rfl rfl (by simpa using k)⟩
 |_,_,u,.tup (a:=a) (xs:=xs) h q,r=>by
  cases (show u=Value.ref a from r);obtain⟨z,its,rv,o,e,c,n,dd⟩:=(show fH X.prog X.w H s.heap a (.tup xs) from I.hok a _ h);obtain⟨as,k⟩:=iF.readsAll I q rv;exact⟨_,.tuple e c dd (by simpa using k)⟩
theorem iF.readsAll (I:eU X pins σ H s):∀{vs:List V} {ds:List PyData} {us:List Value},iF H vs ds→fN vs us→∃as,ReadsAll s.heap us ds as
 |_,_,_,.nil,.nil=>⟨_,.nil⟩
 |_,_,_,.cons r t,.cons h k=>by
  obtain⟨as,e⟩:=kK.reads I r h;obtain⟨bs,f⟩:=iF.readsAll I t k;exact⟨_,.cons e f⟩
end
inductive Ej (x:V)(y:V)(H:Hp)(Q:VK):Prop
 |mk (d e:_)(_:kK H x d)(_:kK H y e)(_:SeqAt.shaped d=true)(_:SeqAt.shaped e=true)(_:Q (.bl (PyData.eqv d e)) H):Ej x y H Q
def Jd:R2:=fun x y H Q=>Ej x y H Q
inductive Ef (x:V)(y:V)(H:Hp)(Q:VK):Prop
 |mk (d e:_)(_:kK H x d)(_:kK H y e)(_:SeqAt.shaped d=true)(_:SeqAt.shaped e=true)(_:Q (.bl (!PyData.eqv d e)) H):Ef x y H Q
def Jc:R2:=fun x y H Q=>Ef x y H Q
theorem E5 (b:X.A.units+64<cLine):ot X (compareOp .Eq) Jd:=by
 intro pins s σ H x y u v Q I g j h;obtain⟨d,e,h1,h2,i,m,q⟩:=h;obtain⟨o,a⟩:=h1.reads I g;obtain⟨bs,l⟩:=h2.reads I j;exact eq_dataH a l i m b ⟨.bl _,H,I,rfl,q⟩
theorem pS (b:X.A.units+64<cLine):ot X (compareOp .NotEq) Jc:=by
 intro pins s σ H x y u v Q I g j h;obtain⟨d,e,h1,h2,i,m,q⟩:=h;obtain⟨o,a⟩:=h1.reads I g;obtain⟨bs,l⟩:=h2.reads I j;exact ne_dataH a l i m b ⟨.bl _,H,I,rfl,q⟩
inductive Ei (neg:Bool)(x:V)(y:V)(H:Hp)(Q:VK):Prop
 |mk (d es:_)(_:kK H x d)(_:kK H y (.list es))(_:d.canLay0=true)(_:PyData.canLayAll0 es=true)(_:d.depth≤60)(_:Q (.bl (if neg then !(es.any fun z=>PyData.eqv z d) else es.any fun z=>PyData.eqv z d)) H):Ei neg x y H Q
def GX (neg:Bool):R2:=fun x y H Q=>Ei neg x y H Q
theorem E4 (m:X.A.units+64<cLine):ot X (compareOp .In) (GX false):=by
 intro pins s σ H x y u v Q I b g h;obtain⟨d,es,h1,h2,e,j,o,q⟩:=h;obtain⟨l,a⟩:=h1.reads I b;obtain⟨bs,i⟩:=h2.reads I g;refine SeqAt.in_list_reads i a j e ?_ ⟨.bl _,H,I,rfl,q⟩;have:=Nat.min_le_right (PyData.depthAll es) d.depth
 lia
theorem nJ (m:X.A.units+64<cLine):ot X (compareOp .NotIn) (GX true):=by
 intro pins s σ H x y u v Q I b g h;obtain⟨d,es,h1,h2,e,j,o,q⟩:=h;obtain⟨l,a⟩:=h1.reads I b;obtain⟨bs,i⟩:=h2.reads I g;refine SeqAt.notIn_list_reads i a j e ?_ ⟨.bl _,H,I,rfl,q⟩;have:=Nat.min_le_right (PyData.depthAll es) d.depth
 lia
theorem fH.some {o:HO}(x:fH P w H h a o):∃ob,h.get? a=Option.some ob:=by
 cases o with
 |lst xs=>obtain⟨_,_,_,_,e⟩:=x;exact⟨_,e⟩
 |tup xs=>obtain⟨_,_,_,o,e,_⟩:=x;exact⟨o,e⟩
 |dK kvs=>obtain⟨_,_,_,_,o,_,_,e,_⟩:=x;exact⟨o,e⟩
 |dT kvs=>obtain⟨_,_,_,_,o,_,_,e,_⟩:=x;exact⟨o,e⟩
 |dN kvs=>obtain⟨_,_,_,_,o,_,_,e,_⟩:=x;exact⟨o,e⟩
 |set S n=>obtain⟨o,_,_,_,e,_⟩:=x;exact⟨o,e⟩
 |ins C dx fs=>obtain⟨_,_,_,e,_⟩:=x;exact⟨_,e⟩
 |own y=>exact x
 |xd fs=>obtain⟨_,⟨o,_,_,e,_⟩,_⟩:=x;exact⟨o,e⟩
 |rng lo hi=>obtain⟨_,_,_,e⟩:=x;exact⟨_,e⟩
 |frz ob u=>exact⟨_,x.1⟩
 |tbl ps=>exact⟨_,x⟩
 |met f y=>exact⟨_,x⟩
 |ext φ=>exact x.2.1
section
variable {x:Addr}{cls:Value}{M:Model}
theorem eU.Kz {b:Addr}(I:eU X pins σ H s)(a:s.heap.get? b=none)(h:H' b=none):jG X pins H' b:=by
 refine⟨h,fun z=>?_,fun z=>?_,?_,fun y c e z=>?_,fun p hp z=>?_⟩
 ·obtain⟨m,⟨o,_,_,d,_⟩,_⟩:=I.loc;rw[z,d]at a;cases a
 ·obtain⟨_,o,d,_⟩:=I.funs.mem z;rw[d]at a;cases a
 ·by_cases hx:b∈X.ex
  ·exact .inl hx
  ·refine .inr ?_;cases e:X.s₀.heap.get? b with
   |none=>rfl
   |some o=>
    obtain⟨o',g⟩:=I.base.there b o e hx;rw[g]at a;cases a
 ·obtain⟨v,o,d,_⟩:=I.cell y c e;rw[z,a]at d;cases d
 ·have q:=(I.pin p hp).1;rw[z,a]at q;cases q
end
section
variable {s':Shared}{e:Value}{E:XK}
end
section
variable {mg:Str→Option Value}{base:Heap}
end
section
variable {x:Str}{np cpos:Pos}{a:Expr}{t:TA}{C:Addr}{bmB:List Value}{B newId initId:String}{W:List (Addr×Obj)→St→Value→Hp→Prop}
end
section
variable {pins':List (Addr×Obj)}{A':Around}{c':Bool}{E':Value→Shared→Prop}{pn':List (Addr×Obj)}
end
section
variable {CX:xS}{k:Nat}{f:Addr}{fd:FuncData}{ps:List Str}{sp:Sp}{EX:St→XK}{x:Str}{es:List Expr}{t:TA}
end
abbrev v6 (X:Cx)(N':List Str)(scope:Scope)(cl:List (Str×Addr))(C:Addr)(s₂:Shared)(H₂:Hp)(fp:List Addr):Cx:=
 {X with N:=N',s₀:=s₂,H₀:=H₂,env:=compEnvC scope cl C X.env,outer:=X.stack,ex:=fp,fn:=fun _=>false,pn:=[],xe:=fun _ _=>False}
def GK (n:Nat)(g:TG):Prop:=∀v σ H Q,g v σ H Q→g v σ H fun σ2 H2=>Q σ2 H2∧σ2.length=σ.length∧∀i,n≤i→σ2[i]?=σ[i]?
def Ix (n:Nat)(g:xJ):Prop:=∀v σ H Q,g v σ H Q→g v σ H fun σ2 H2=>Q σ2 H2∧σ2.length=σ.length∧∀i,n≤i→σ2[i]?=σ[i]?
theorem iq {n:Nat}(h:i<n):GK n (jq i):=fun v σ H Q q=>by
 refine⟨q,by simp,fun j hj=>?_⟩;rw[List.getElem?_set_ne (by lia)]
theorem Ds {n:Nat}:Ix n FI:=(by rintro v σ H Q ⟨e,q⟩;exact⟨e,q,rfl,fun _ _=>rfl⟩)
def GM (g:TG):Prop:=∀v σ H (Q Q':St→Hp→Prop),(∀a b,Q a b→Q' a b)→g v σ H Q→g v σ H Q'
def Iw (g:xJ):Prop:=∀v σ H (Q Q':St→Hp→Prop),(∀a b,Q a b→Q' a b)→g v σ H Q→g v σ H Q'
theorem tj:GM (jq i):=fun _ _ _ _ _ h q=>h _ _ q
theorem wX:Iw FI:=(by rintro _ _ _ _ _ h ⟨e,q⟩;exact⟨e,h _ _ q⟩)
theorem Bg {t:TG}{u:xJ}(ht:GM t)(hu:Iw u):Iw (Bi t u):=(by rintro v σ H Q Q' h ⟨x,r,e,q⟩;exact⟨x,r,e,ht _ _ _ _ _ (fun a b z=>hu _ _ _ _ _ h z) q⟩)
theorem uo {n:Nat}{t:TG}{u:xJ}(ht:GK n t)(mt:GM t)(hu:Ix n u)(mu:Iw u):Ix n (Bi t u):=fun v σ H Q ⟨x,r,e,q⟩=>by
 refine⟨x,r,e,mt _ _ _ _ _ (fun a b z=>?_) (ht _ _ _ _ q)⟩;obtain⟨z1,z2,z3⟩:=z;refine mu _ _ _ _ _ (fun c d y=>?_) (hu _ _ _ _ z1);exact⟨y.1,y.2.1.trans z2,fun i hi=>(y.2.2 i hi).trans (z3 i hi)⟩
theorem FH {n m:Nat}{t:xJ}(h:Ix n t):GK n (Hu K m t):=(by rintro v σ H Q ⟨a,xs,e,s,l,q⟩;exact⟨a,xs,e,s,l,h _ _ _ _ q⟩)
def Iq (X:Cx)(ifs:List Expr)(t:TT):Prop:=
 ∀(pins:List (Addr×Obj)) (s:Shared) (σ:St) (H:Hp) (Q:Bool→Hp→Prop),eU X pins σ H s→t σ H Q→
  wpAny (model X.prog X.w) X.A (forIn ifs true fun c r=>if r=true then do let ok ←isTrue c X.env (eval c X.env);pure (ForInStep.yield ok) else pure (ForInStep.yield r)) (TP X pins σ Q) X.xe s
def rj:TT:=fun _ H Q=>Q true H
theorem jI:Iq X [] rj:=fun pins s σ H Q I h=>wpAny_tests_nil ⟨H,I,h⟩
theorem oK {c:Expr}{t:TT}(h:PT X c t):Iq X [c] t:=fun pins s σ H Q I q=>wpAny_tests_one (h pins s σ H Q I q)
def rf (J:It)(g:TG)(tt:TT)(te:TE)(σ':St)(H1:Hp)(Q:VK):Prop:=∀D,H1 D=none→∃W:Nat→Nat→List V→Hp→Prop,(∃m,W 0 m [] (upd H1 D (.lst [])))∧∀i m ys H,W i m ys H→H D=some (.lst ys)∧ys.length<sizeLine∧
 ((J.stop i H∧Q (.ref D) H)∨(J.go i H∧∃N:List V→Hp→Prop,(∀zs H',N zs H'→∃m',m'<m∧W (i+1) m' zs H')∧∀x H2,J.yld i H x H2→g x σ' H2 fun σ2 H3=>tt σ2 H3 fun b H4=>if b=true then te σ2 H4 fun y H5=>H5 D=some (.lst ys)∧N (ys++[y]) (upd H5 D (.lst (ys++[y]))) else N ys H4))
theorem ir {xs:List V}{σ':St}{H1:Hp}{Q:VK}(d:Addr→Nat→List V→Hp→Prop)(o:∀D,H1 D=none→d D 0 [] (upd H1 D (.lst [])))(l:∀D i ys H,i≤xs.length→d D i ys H→fb K H a xs∧H D=some (.lst ys)∧ys.length<sizeLine)(q:∀D i x ys H,xs[i]?=some x→d D i ys H→g x σ' H fun σ2 H3=>tt σ2 H3 fun b H4=>if b=true then te σ2 H4 fun y H5=>H5 D=some (.lst ys)∧d D (i+1) (ys++[y]) (upd H5 D (.lst (ys++[y]))) else d D (i+1) ys H4)(j:∀D ys H,d D xs.length ys H→Q (.ref D) H):rf (FW K a) g tt te σ' H1 Q:=by
 intro D r;refine⟨fun i m ys H=>m=xs.length-i∧i≤xs.length∧d D i ys H,⟨xs.length,by simp,bo _,o D r⟩,?_⟩;rintro i m ys H ⟨rfl,hi,p⟩;obtain⟨h,v,t⟩:=l D i ys H hi p;refine⟨v,t,?_⟩;by_cases hlt:i<xs.length
 ·refine .inr ⟨⟨xs,xs[i],h,by simp[hlt]⟩,d D (i+1),fun zs H' s=>⟨xs.length-(i+1),by lia,rfl,hlt,s⟩,fun x H' y=>?_⟩;obtain⟨e,y⟩:=y;subst e;exact q D i x ys _ (y xs h) p
 ·have e:i=xs.length:=by lia
  subst e;exact .inl ⟨⟨xs,h,aq _⟩,j D ys H p⟩
theorem v7 {lo:Int}{n:Nat}{σ':St}{H1:Hp}{Q:VK}(a:Addr→Nat→List V→Hp→Prop)(j:∀D,H1 D=none→a D 0 [] (upd H1 D (.lst [])))(h:∀D i ys H,i≤n→a D i ys H→H D=some (.lst ys)∧ys.length<sizeLine)(l:∀D i ys H,i<n→a D i ys H→g (.int (lo+i)) σ' H fun σ2 H3=>tt σ2 H3 fun b H4=>if b=true then te σ2 H4 fun y H5=>H5 D=some (.lst ys)∧a D (i+1) (ys++[y]) (upd H5 D (.lst (ys++[y]))) else a D (i+1) ys H4)(d:∀D ys H,a D n ys H→Q (.ref D) H):rf (FV lo n) g tt te σ' H1 Q:=by
 intro D o;refine⟨fun i m ys H=>m=n-i∧i≤n∧a D i ys H,⟨n,by simp,bo _,j D o⟩,?_⟩;rintro i m ys H ⟨rfl,hi,p⟩;obtain⟨s,r⟩:=h D i ys H hi p;refine⟨s,r,?_⟩;by_cases hlt:i<n
 ·refine .inr ⟨hlt,a D (i+1),fun zs H' q=>⟨n-(i+1),by lia,rfl,hlt,q⟩,fun x H' y=>?_⟩;obtain⟨e,y⟩:=y;subst e y;exact l D i ys _ hlt p
 ·have e:i=n:=by lia
  subst e;exact .inl ⟨aq _,d D ys H p⟩
structure iO (X:Cx)(N':List Str)(scope:Scope)(cl:List (Str×Addr))(n:Nat)(js:List Nat):Prop where
 clos:closureFor scope X.env=pure cl
 cell:∀y∈scope.names,y.2≠.cell
 kind:scope.kind=.function
 names:∀y∈scope.names,y.2=.local→scope.names.lookup y.1=some .local
 sub:∀y c,cl.lookup y=some c→X.env.cells.lookup y=some c
 has:∀y,((relabel scope X.env).names.lookup y=some .cell∨(relabel scope X.env).names.lookup y=some .free)→∃c,cl.lookup y=some c
 len:N'.length=n+js.length
 frees:∀(k j:Nat),js[k]?=some j→∃y,N'[n+k]?=some y∧X.N[j]?=some y∧(X.env.kindOf y=some .cell∨X.env.kindOf y=some .free)∧
  ((relabel scope X.env).names.lookup y=some .cell∨(relabel scope X.env).names.lookup y=some .free)∧cl.lookup y=X.env.cells.lookup y
theorem qr {env:Env}(h:∀y∈scope.names,y.2≠.free):(relabel scope env).names=scope.names:=by
 show scope.names.map _=scope.names;refine map_eq_self fun y b=>?_;obtain⟨a,k⟩:=y;have e:(k == NameKind.free)=false:=by simpa using h _ b
 simp[e]
theorem iO.closed {n:Nat}(a:∀y∈scope.names,y.2≠.free)(b:∀y∈scope.names,y.2≠.cell)(d:scope.kind=.function)(i:∀y∈scope.names,y.2=.local→scope.names.lookup y.1=some .local)(g:N'.length=n):iO X N' scope [] n [] where
 clos:=closureFor_none a
 cell:=b
 kind:=d
 names:=i
 sub:=fun y c e=>by simp at e
 has:=fun y h=>by
  rw[qr a]at h;rcases h with h | h
  ·exact absurd rfl (b _ (bt h))
  ·exact absurd rfl (a _ (bt h))
 len:=by simpa using g
 frees:=fun k j e=>by simp at e
theorem iO.one {y:Str}{c:Addr}{n:Nat}(h1:closureFor scope X.env=pure [(y,c)])(h2:X.env.cells.lookup y=some c)(r:∀z∈scope.names,z.2≠.cell)(C:scope.kind=.function)(A:∀z∈scope.names,z.2=.local→scope.names.lookup z.1=some .local)(s:∀z∈scope.names,z.2=.free→z.1=y)(x:N'[n]?=some y)(t:N'.length=n+1)(D:X.N[j]?=some y)(v:X.env.kindOf y=some .cell)(w:(relabel scope X.env).names.lookup y=some .cell):iO X N' scope [(y,c)] n [j] where
 clos:=h1
 cell:=r
 kind:=C
 names:=A
 sub:=fun z d e=>by
  by_cases q:z=y
  ·subst q;rw[aX,beq_self_eq_true]at e;rw[h2];exact e
  ·have b:(z == y)=false:=beq_false_of_ne q;rw[aX,b]at e;simp at e
 has:=fun z h=>by
  have mem:∃k,(k=NameKind.cell∨k=NameKind.free)∧(z,k)∈(relabel scope X.env).names:=by
   rcases h with h | h
   ·exact⟨_,.inl rfl,bt h⟩
   ·exact⟨_,.inr rfl,bt h⟩
  obtain⟨k,g,B⟩:=mem;obtain⟨⟨a,m⟩,p,e⟩:=av.mp (show(z,k)∈scope.names.map _ from B);have G:z=y:=by
   by_cases hfree:m=.free
   ·have F:z=a:=by
     dsimp only at e
     split at e
     ·exact(Prod.mk.inj e).1.symm
     ·exact(Prod.mk.inj e).1.symm
    rw[F];exact s _ p hfree
   ·have b:(m == NameKind.free)=false:=by simpa using hfree
    simp only[b,bZ,cf,if_false]at e;have o:=(Prod.mk.inj e).2;rcases g with q | q
    ·exact absurd (o.trans q) (r _ p)
    ·exact absurd (o.trans q) hfree
  subst G;exact⟨c,by rw[aX,beq_self_eq_true]⟩
 len:=by simpa using t
 frees:=fun k i e=>by
  have l:k=0:=by
   cases k with
   |zero=>rfl
   |succ k=>simp at e
  subst l;have E:j=i:=by simpa using e
  subst E;exact⟨y,x,D,.inl v,.inl w,by rw[h2,aX,beq_self_eq_true]⟩
def frees (n:Nat)(js:List Nat)(σ:St):St:=List.replicate n none++js.map fun j=>σ.getD j none
section
variable {s₂:Shared}{H₂:Hp}{elt iter target:Expr}{ifs:List Expr}{cl:List (Str×Addr)}{n:Nat}{js:List Nat}
theorem v8 {J:It}{fp:List Addr}{it:Addr}{tn:Nat→Heap→Prop}{RR:Value→Addr→Result→Shared→Prop}{Q:VK}(hc:X.calm=true)(S:iO X N' scope cl n js)(gk:GK n g)(hg:∀C s₂ H₂ fp,PG (v6 X N' scope cl C s₂ H₂ fp) target g)(ht:∀C s₂ H₂ fp,Iq (v6 X N' scope cl C s₂ H₂ fp) ifs tt)(he:∀C s₂ H₂ fp,PE (v6 X N' scope cl C s₂ H₂ fp) elt te)(I:eU X pins σ H₂ s₂)(T:tK X.prog X.w X.K target J fp it tn)(st:tn 0 s₂.heap)(B:∀b∈fp,jG X pins H₂ b)(R:rf J g tt te (frees n js σ) H₂ Q)(bd:∀D C s' H',eU X pins σ H' s'→(∃m,s'.heap.Ns C m)→jG X pins H' C→Q (.ref D) H'→RR (.ref D) C (.ok .next) s'):wpAny (model X.prog X.w) X.A (newList []) (fun acc s₃=>wpAny (model X.prog X.w) X.A (newFunctionEnv scope X.env.globals cl [] X.env.qual none .none (some X.env)) (fun cenv s₄=>codeAny (model X.prog X.w) X.A (.compStart (.ListComp elt [⟨target,iter,ifs,0⟩] scope pos) 0 (.ref it) acc {cenv with scope:=relabel scope X.env}) (RR acc cenv.locals) s₄) E s₃) E s₂:=by
 refine dW (wpAny_newFunctionEnv S.cell (by intro y hy;simp at hy) (fun h1 Y G=>?_) S.kind);dsimp only at Y G ⊢;generalize P:s₂.heap.push {cls:=.type "list",dict:=none,data:=.seq ([]:List Value).toArray}=h3 at Y G ⊢;generalize Z:s₂.heap.objs.size=D at *;generalize bv:h3.objs.size=C at *;have eC:C=D+1:=by rw[←bv,←P,dU,Z]
 have ap:D≠C:=by lia
 have U:∀b o,s₂.heap.get? b=some o→b<D:=fun b o e=>Z▸aN e;have old:∀b o,s₂.heap.get? b=some o→h1.get? b=some o:=fun b o e=>by
  have l:=U b o e;refine G.extBut b o (aU (aY l (by lia))) (aC _ ?_)
  rw[←P];exact aC _ e
 have ah:h1.get? D=some {cls:=.type "list",data:=.seq ([]:List Value).toArray 0}:=by
  refine G.extBut D _ ap (aC _ ?_)
  rw[←P,←Z];exact aP _ rfl
 have b1:s₂.heap.get? D=none:=Z▸bj (aq _);have bl:s₂.heap.get? C=none:=bj (by lia);have as:H₂ D=none:=I.hok.fresh (by lia);have bm:H₂ C=none:=I.hok.fresh (by lia);have L:∀b∈fp,b<D:=fun b a=>by
  obtain⟨o,e,_⟩:=T.obj 0 _ st b a;exact U b o e
 obtain⟨W,⟨m0,w0⟩,a0⟩:=R D as;have F:(v6 X N' scope cl C s₂ H₂ fp).Ok:=by
  refine⟨I.ok.mod,S.kind,I.ok.glob,I.ok.blt,?_,?_,fun y hy=>S.has y hy,(fun y c hf _=>by cases hf),I.ok.hd,I.ok.frames,.inl rfl,?_,I.bs,bw I.ok.bsz I.sz,?_,?_,I.stack,I.Kl⟩
  ·show s₂.heap.objs.size≤C
   lia
  ·exact fun y z c h1 h2=>I.ok.inj y z c (S.sub y c h1) (S.sub z c h2)
  ·intro b a;refine⟨?_,fun y c e=>(B b a).2.2.2.2.1 y c (S.sub y c e)⟩;exact aU (aY (L b a) (show D≤C by lia))
  ·intro b o e a;rcases (B b a).2.2.2.1 with z | z
   ·exact I.ok.noex b o e z
   ·rw[(I.ok.bs b o e).1]at z;cases z
  ·intro b a hz;rcases am.mp (I.Kk b hz) with z | z
   ·exact(B b a).2.1 z
   ·exact(B b a).2.2.1 z
 have I4:eU (v6 X N' scope cl C s₂ H₂ fp) [] (frees n js σ) (upd H₂ D (.lst [])) {s₂ with heap:=h1,toks:=s₂.toks+([]:List (Str×Value)).length}:=by
  refine⟨F,rfl,I.bare,?_,⟨_,Y,fun i y v e1 t e3=>?_⟩,fun y c e=>?_,?_,fun y c e=>?_,fun p hp=>absurd hp (by simp),?_,?_⟩
  ·exact Un.laid (fun b u e=>old b u e) (cE Z) as
  ·have b2:n≤i:=by
    refine Nat.le_of_not_lt fun hi=>?_;unfold frees at t;rw[aI (by simpa using hi),List.getElem?_replicate]at t
    split at t <;> cases t
   obtain⟨k,rfl⟩:∃k,i=n+k:=⟨i-n,by lia⟩;unfold frees at t;rw[aZ (by simp),List.length_replicate,Nat.add_sub_cancel_left,ae]at t
   cases ej:js[k]? with
   |none=>rw[ej]at t;cases t
   |some j=>
    rw[ej]at t;have h:σ.getD j none=some v:=Option.some.inj t;obtain⟨y',a1,a2,a3,a4,a5⟩:=S.frees k j ej;have ey:y'=y:=Option.some.inj (a1.symm.trans e1);subst ey;have e4:σ[j]?=some (some v):=by
     rw[bb]at h;cases q:σ[j]? with
     |none=>rw[q]at h;cases h
     |some z=>rw[q]at h;exact congrArg some h
    obtain⟨m,hm,hl⟩:=I.loc;have bq:D3 X.env.scope y':=by
     rcases a3 with z | z
     ·exact .inr (.inl z)
     ·exact .inr (.inr z)
    obtain⟨u,ru,lk⟩:=hl j y' v a2 e4 bq;refine⟨u,ru,?_⟩;rcases lk with ⟨z,_⟩ | ⟨_,c,z1,o,z2,z3⟩
    ·rcases a3 with y | y <;> (rw[z]at y;cases y)
    ·exact .inr ⟨a4,c,a5.trans z1,o,old c o z2,z3⟩
  ·obtain⟨v,o,z1,z2⟩:=I.cell y c (S.sub y c e);exact⟨v,o,old c o z1,z2⟩
  ·show upd H₂ D _ C=none;rw[ef (Ne.symm ap)];exact bm
  ·obtain⟨v,o,z1,z2⟩:=I.cell y c (S.sub y c e);have l:=U c o z1;rw[ef (aU l)];exact I.freeC y c (S.sub y c e)
  ·exact I.hok.laid old (cE Z) ⟨bo _,[],0,.nil,ah⟩
  ·unfold frees;show _=N'.length;rw[S.len,aF,List.length_replicate,ab]
 have fY:∀{H':Hp},(∀b∈fp,H' b=none)→∀b∈fp,jG (v6 X N' scope cl C s₂ H₂ fp) [] H' b:=fun hn b a=>by
  refine⟨hn b a,(F.exf b a).1,F.exfs b a,.inl a,(F.exf b a).2,fun p hp=>absurd hp (by simp)⟩
 have ad:tn 0 h1:=T.keep _ _ _ st fun b a o e=>old b o e;have bx:∀b∈fp,upd H₂ D (.lst []) b=none:=fun b a=>by
  rw[ef (aU (L b a))];exact(B b a).1
 have M:∀s3:Shared,s3={s₂ with heap:=h1,toks:=s₂.toks+([]:List (Str×Value)).length}→
   codeAny (model X.prog X.w) X.A (.compLoop (.ListComp elt [⟨target,iter,ifs,0⟩] scope pos) 0 (.ref it) (.ref D) (compEnvC scope cl C X.env)) (RR (.ref D) C) s3:=by
  rintro s3 rfl;refine codeAny_loop rfl (fun k s'=>∃i ys H',eU (v6 X N' scope cl C s₂ H₂ fp) [] (frees n js σ) H' s'∧tn i s'.heap∧(∀b∈fp,H' b=none)∧W i k ys H') (fun k s5 hI=>?_) m0 ⟨0,[],_,I4,ad,bx,w0⟩;obtain⟨i,ys,H5,I5,aa,an,w5⟩:=hI;obtain⟨b3,a7,ba⟩:=a0 i k ys H5 w5;show wpAny _ X.A ((compTurn (.ListComp elt [⟨target,iter,ifs,0⟩] scope pos) 0 (.ref it) (.ref D) (compEnvC scope cl C X.env)).onRaise (fun x=>do noteFrame x (compEnvC scope cl C X.env);theTreesLotGoes x)) _ _ s5;refine wpAny_noted ?_;rw[compTurn_list];refine ac (wpAny_standAt ?_);rcases ba with ⟨stop,q⟩ | ⟨go,NN,a8,step⟩
  ·refine ac (fV (T.done (v6 X N' scope cl C s₂ H₂ fp) rfl rfl rfl hc i [] s5 _ H5 _ I5 (fY an) aa stop) fun r s6 hr=>?_);obtain⟨rfl,I6⟩:=hr;refine ar (bd D C s6 H5 ?_ ?_ ?_ q)
   ·exact I.Kn (ch:=fp) I6.os I6.base I6.hok I6.bare fun b a=>⟨(B b a).2.2.2.1,(B b a).2.1,(B b a).2.2.2.2.1,(B b a).2.2.2.2.2⟩
   ·obtain⟨m,hm,_⟩:=I6.loc;exact⟨m,hm⟩
   ·exact I.Kz bl I6.free
  ·refine ac (fV (T.item (v6 X N' scope cl C s₂ H₂ fp) rfl rfl rfl hc i [] s5 _ H5 _ I5 (fY an) aa go) fun r s6 hr=>?_);obtain⟨u,rfl,h6⟩:=hr;refine ac (fV h6 fun _ s7 h7=>?_);obtain⟨x,H7,I7,r7,y7,O,bf⟩:=h7;have a6:=I7.pinned (fY bf) (T.obj _ _ O);have al:∀{σ8:St} {N:Hp} {s8:Shared} {zs:List V},eU (v6 X N' scope cl C s₂ H₂ fp) ([]++pO fp s7.heap) σ8 N s8→(σ8.length=(frees n js σ).length∧∀i,n≤i→σ8[i]?=(frees n js σ)[i]?)→NN zs N→
     ∃m,m<k∧∃i ys H',eU (v6 X N' scope cl C s₂ H₂ fp) [] (frees n js σ) H' s8∧tn i s8.heap∧(∀b∈fp,H' b=none)∧W i m ys H':=fun {σ8 N s8 zs} I8 ag n8=>by
    obtain⟨m',hm,w8⟩:=a8 zs N n8;refine⟨m',hm,i+1,zs,N,?_,T.keep _ _ _ O fun b a o e=>(I8.pin (b,o) (aM _ (aM _ (kz a e)))).1,fun b a=>?_,w8⟩
    ·refine(I8.Kt).weak ag.1.symm fun j v e=>?_;by_cases hj:n≤j
     ·rw[ag.2 j hj];exact e
     ·unfold frees at e;rw[aI (by simpa using hj),List.getElem?_replicate]at e
      split at e <;> cases e
    ·obtain⟨o,e,d⟩:=T.obj _ _ O b a;exact(I8.pin (b,o) (aM _ (aM _ (kz a e)))).2.1
   refine ac (b0 (hg C s₂ H₂ fp _ s7 _ H7 x u _ a6 r7 (gk _ _ _ _ (step x H7 y7))) (fun _ s8 h8=>?_) fun _ _ z=>z.elim);obtain⟨σ8,N,I8,q8,ag⟩:=h8;refine ac (b0 (ht C s₂ H₂ fp _ s8 σ8 N _ I8 q8) (fun ok s9 h9=>?_) fun _ _ z=>z.elim);obtain⟨H9,I9,q9⟩:=h9;cases ok with
   |false=>
    rw[if_neg (by decide)]at q9;exact ar ⟨rfl,al I9 ag q9⟩
   |true=>
    rw[if_pos rfl]at q9;refine ac (ac (b0 (he C s₂ H₂ fp _ s9 σ8 H9 _ I9 q9) (fun y sa ha=>?_) fun _ _ z=>z.elim));obtain⟨yv,Ha,Ia,ra,a9,wa⟩:=ha;refine ac (b0 (gN (X:=v6 X N' scope cl C s₂ H₂ fp) _ sa σ8 Ha (.ref D) [yv] (.ref D) [y] (fun v H'=>v=.non∧H'=upd Ha D (.lst (ys++[yv]))) Ia rfl (.cons ra .nil) ⟨D,ys,yv,rfl,rfl,a9,a7,rfl,rfl⟩) (fun v sb a=>?_) fun _ _ z=>z.elim);obtain⟨v',Hb,Ib,rb,_,rfl⟩:=a;exact ar (ar ⟨rfl,al Ib ag wa⟩)
 exact codeAny_compStart_list (M _ rfl) (T.self X.A 0 _ _ _ ad (M _ rfl))
end
section
variable {elt iter target:Expr}{ifs:List Expr}{cl:List (Str×Addr)}{n:Nat}{js:List Nat}{wi:TI}
def Gw (wi:TI)(g:TG)(tt:TT)(te:TE)(n:Nat)(js:List Nat):TE:=fun σ H Q=>wi σ H fun J H1=>rf J g tt te (frees n js σ) H1 Q
theorem iH (B:X.calm=true)(S:iO X N' scope cl n js)(r:GK n g)(hi:PI X target iter wi)(p:∀C s₂ H₂ fp,PG (v6 X N' scope cl C s₂ H₂ fp) target g)(j:∀C s₂ H₂ fp,Iq (v6 X N' scope cl C s₂ H₂ fp) ifs tt)(z:∀C s₂ H₂ fp,PE (v6 X N' scope cl C s₂ H₂ fp) elt te)(hs:∀x,foldedSetIterable iter X.env x=pure x:=by intro _;rfl):PE X (.ListComp elt [⟨target,iter,ifs,0⟩] scope pos) (Gw wi g tt te n js):=by
 intro pins s σ H Q I h;rw[eval_ListComp];refine wpAny_comprehension_free (use:=none) rfl hs S.clos S.kind S.names (fV (hi pins s σ H _ I h) fun v F h1=>fV h1 fun i E h2=>?_);obtain⟨it,fp,G,J,H2,rfl,w,T,a,y,R⟩:=h2;refine v8 B S r p j z w T a y R fun D C s' H' t d f q=>?_;obtain⟨m,d⟩:=d;refine⟨m,d,fun h' A=>⟨.ref D,H',?_,rfl,q⟩⟩;exact t.turned (t':=s'.toks) (fun b o l e=>(A.2 b l).trans e) f.1 f.2.1 f.2.2.2.1 f.2.2.2.2.1 f.2.2.2.2.2
end
theorem fj:jr X (.builtin "isinstance") (fun xs H Q=>∃(x:V) (T:String) (t:Value) (b:Bool),xs=[x,.ty T]∧jw X.K H x t∧W.kitOne X.K t (.type T)=some b∧Q (.bl b) H):=by
 intro pins s σ H xs us Q I r h;obtain⟨x,T,t,b,rfl,ty,e,q⟩:=h;obtain⟨u,g,rfl,a,d⟩:=tS r;cases (show g=Value.type T from d);exact yO I a ty e fun tk=>⟨.bl b,H,I.tok tk,rfl,q⟩
theorem tH:jr X (.builtin "isinstance") (fun xs H Q=>∃(x:V) (a:Addr) (Ts:List String) (t:Value) (b:Bool),xs=[x,.ref a]∧H a=some (.tup (Ts.map V.ty))∧jw X.K H x t∧(∀C,t≠.ref C)∧W.kitAny X.K t (Ts.map Value.type)=some b∧Q (.bl b) H):=by
 intro pins s σ H xs us Q I r h;obtain⟨x,a,Ts,t,b,rfl,v,ty,J,e,q⟩:=h;obtain⟨u,F,rfl,j,G⟩:=tS r;cases (show F=Value.ref a from G);obtain⟨z,l,A,o,g,B,n,m⟩:=(show fH X.prog X.w H s.heap a (.tup (Ts.map V.ty)) from I.hok a _ v);have E:l=Ts.map Value.type:=by
  clear v z g m e
  induction Ts generalizing l with
  |nil=>cases A;rfl
  |cons T Ts ih=>
   cases A with
   |cons h t=>
    rw[aE,ih _ t];exact congrArg (·::_) h
 subst E;obtain⟨M,D,N,L⟩:=o;dsimp only at B m;subst B m;have d:∀tk,EP X pins σ Q (.bool b) {s with toks:=tk}:=fun tk=>⟨.bl b,H,I.tok tk,rfl,q⟩;cases ty with
 |non=>cases (show u=Value.none from j);exact dE W.kitx_none I.kIn True.intro g e (fun z=>nomatch z) d
 |bl y=>cases (show u=Value.bool y from j);exact dE W.kitx_bool I.kIn True.intro g e (fun z=>nomatch z) d
 |int i=>obtain⟨t,q⟩:=(show ∃t,u=Value.int i t from j);cases q;exact dE W.kitx_int I.kIn True.intro g e (fun z=>nomatch z) d
 |str y=>obtain⟨t,q⟩:=(show ∃t,u=Value.str y t from j);cases q;exact dE W.kitx_str I.kIn True.intro g e (fun z=>nomatch z) d
 |flt y=>obtain⟨t,q⟩:=(show ∃t,u=Value.float y t from j);cases q;exact dE W.kitx_float I.kIn True.intro g e (fun z=>nomatch z) d
 |@lst c xs ea=>
  cases (show u=Value.ref c from j);obtain⟨_,_,n,_,h1⟩:=(show fH X.prog X.w H s.heap c (.lst xs) from I.hok c _ ea);exact dE W.kitx_list I.kIn ⟨_,h1,rfl⟩ g e (fun z=>nomatch z) d
 |@frz c ob xs ea=>
  cases (show u=Value.ref c from j);obtain⟨_,_,_,n,_,h1⟩:=(show fH X.prog X.w H s.heap c (.frz ob (.lst xs)) from I.hok c _ ea);exact dE W.kitx_list I.kIn ⟨_,h1,rfl⟩ g e (fun z=>nomatch z) d
 |@tup c xs ea=>
  cases (show u=Value.ref c from j);obtain⟨_,_,_,p⟩:=(show fH X.prog X.w H s.heap c (.tup xs) from I.hok c _ ea);obtain⟨o,h1,h2,_⟩:=p;exact dE W.kitx_tuple I.kIn ⟨o,h1,h2⟩ g e (fun z=>nomatch z) d
 |@dK c kvs ea=>
  cases (show u=Value.ref c from j);obtain⟨_,_,vs,_,p⟩:=(show fH X.prog X.w H s.heap c (.dK kvs) from I.hok c _ ea);obtain⟨o,es,ep,h1,h2,_⟩:=p;exact dE W.kitx_dict I.kIn ⟨o,h1,h2.1⟩ g e (fun z=>nomatch z) d
 |@dT c kvs ea=>
  cases (show u=Value.ref c from j);obtain⟨_,_,xs,_,o,es,ep,h1,h2,_⟩:=(show fH X.prog X.w H s.heap c (.dT kvs) from I.hok c _ ea);exact dE W.kitx_dict I.kIn ⟨o,h1,h2.1⟩ g e (fun z=>nomatch z) d
 |@ins c C dx fs ea cl v hn htk hm=>exact absurd rfl (J C)
theorem pB {vs:List Value}{out:Array Value}{ns':List Int}(I:eU X pins σ H s)(hi:IntsAre out.toList ns')(a:ns'.length≤sizeLine):eU X pins σ (upd H (s.heap.objs.size+1) (.lst (ns'.map V.int))) {s with heap:=sortedAll s.heap vs out}:=by
 obtain⟨e,d⟩:=sortedAll_at s.heap vs out;refine I.laid (t':=s.toks) (fun b u q=>sortedAll_old q) (dB _) ⟨by rw[ab];exact a,out.toList,e,nh hi,?_⟩;rw[d]
theorem uD:jr X (.builtin "sorted") (fun xs H Q=>∃(a:Addr) (ns:List Int),xs=[.ref a]∧fb X.K H a (ns.map V.int)∧ns.length<64∧∀(p:Addr) (ns':List Int),H p=none→ns'.Perm ns→ns'.Pairwise (·≤·)→Q (.ref p) (upd H p (.lst (ns'.map V.int)))):=by
 intro pins s σ H xs us Q I r h;obtain⟨a,ns,rfl,l,d,q⟩:=h;obtain⟨u,rfl,i⟩:=jo r;cases (show u=Value.ref a from i);obtain⟨b,g,p,v⟩:=I.list l;have hi:=p0 g;have t:b.length=ns.length:=by rw[←g.length,ab]
 refine sorted_ints p.isList hi (by omega) fun out ns' j e o=>?_;have m:=e.length_eq;refine⟨.ref (s.heap.objs.size+1),_,pB I j ?_,rfl,q _ ns' (I.hok.fresh (dB _)) e o⟩;rw[m];exact bw (cD d) (by decide)
def Ew (K:W.Frag)(te:TE):TE:=fun σ H Q=>te σ H fun x H1=>∃(a:Addr) (ns:List Int),x=.ref a∧fb K H1 a (ns.map V.int)∧ns.length<64∧∀(p:Addr) (ns':List Int),H1 p=none→ns'.Perm ns→ns'.Pairwise (· ≥ ·)→Q (.ref p) (upd H1 p (.lst (ns'.map V.int)))
theorem Af {kp cp:Pos}{k:Nat}(v:Gl X "sorted")(w:X.mg "sorted" = none)(A:PE X e te)(hs:starEach [e] X.env=[(false,eval e X.env)]:=by rfl):PE X (.Call (.Name "sorted" p) [e] [⟨some "reverse",.Constant (.bool true) k cp,kp⟩] pos) (Ew X.K te):=by
 intro pins s σ H Q I h;refine bI (jA I v w boot_sorted ?_ (by decide) (by decide));refine callWith_kw ?_ (by rw[hs];rfl) (by rw[hs];rfl);have C:=(dZ A el hs) pos pins s σ H (fun vs H1=>match vs with | [x]=>(∃(a:Addr) (ns:List Int),x=.ref a∧fb X.K H1 a (ns.map V.int)∧ns.length<64∧∀(p:Addr) (d:List Int),H1 p=none→d.Perm ns→d.Pairwise (· ≥ ·)→Q (.ref p) (upd H1 p (.lst (d.map V.int)))) | _=>False) I h;refine fV C ?_;rintro us t ⟨vs,H1,g,r,m⟩
 match vs,r,m with
 |[x],r,⟨a,ns,e2,hS,h64,q⟩=>
  subst e2;obtain⟨u,rfl,o⟩:=jo r;cases (show u=Value.ref a from o);refine kws_cons (Constant_bool (kws_nil ?_));obtain⟨i,l,pl,E⟩:=g.list hS;have hi:=p0 l;have D:i.length=ns.length:=by rw[←l.length,ab]
  refine sorted_ints_rev (b:=true) pl.isList hi (by omega) fun out d y j B=>?_;have z:=j.length_eq;refine⟨.ref (t.heap.objs.size+1),_,pB g y ?_,rfl,q _ d (g.hok.fresh (dB _)) j B⟩;rw[z];exact bw (cD h64) (by decide)
theorem Di:typeLookup (.type "list_reverseiterator") "__len__" = pure none:=by rw[typeLookup_type,builtinLookup_eq_fast];kernel_rfl
theorem AO:typeLookup (.type "list_reverseiterator") "__length_hint__" = pure (some (.builtin "list_reverseiterator.__length_hint__")):=by rw[typeLookup_type,builtinLookup_eq_fast];kernel_rfl
theorem Cr:isSubtype (.type "list_reverseiterator") (.type "list_reverseiterator")=pure true:=by rw[isSubtype_type];kernel_rfl
section
variable {prog:Program}{it l:Addr}{items:Array Value}
theorem Be {Q:Bool→Shared→Prop}(g:s.TypeIs (.ref it) "list_reverseiterator")(h:Q false s):wpAny (model prog w) A (Builtin.List.listLengthHint (.ref it)) Q E s:=by
 unfold Builtin.List.listLengthHint;refine ac (wpAny_specialOf g Di ?_)
 wp_delta
 refine dq (fun a=>absurd a (by decide +kernel)) (fun _=>?_);refine dq (fun a=>absurd a (by decide +kernel)) (fun _=>?_);refine ac (wpAny_specialOf g AO ?_);generalize d:("list_reverseiterator.__length_hint__" : String)=idn
 wp_delta
 have e:splitId idn=some ("list_reverseiterator","__length_hint__"):=by subst d;decide +kernel
 rw[e];subst d;refine ac (wpAny_isInstance (T:="list_reverseiterator") (b:=true) g Cr ?_);refine dq (fun z=>absurd z (by decide)) (fun _=>?_);refine dq (fun _=>?_) (fun z=>absurd (by decide +kernel) z);refine dq (fun z=>absurd z (by decide +kernel)) (fun _=>?_);exact ar h
theorem AS (P:A.handled=none)(i:s.heap.IsRevIter it l ((items.size:Int)-1))(J:s.heap.IsList l items)(r:l≠it)(hz:items.size≤sizeLine)(N:∀h' tk acc c,(∀b o,b≠it→s.heap.get? b=some o→h'.get? b=some o)→h'.get? s.heap.objs.size=some {cls:=.type "list",dict:=none,data:=.seq acc c,slots:=#[]}→acc.toList=items.toList.reverse→Q (.ref s.heap.objs.size) {s with heap:=h',toks:=tk}):wpAny (model prog w) A (call (.type "list") [.ref it]) Q E s:=by
 have I:it<s.heap.objs.size:=(by obtain⟨_,e,_⟩:=i;exact aN e);have B:l<s.heap.objs.size:=(by obtain⟨_,e,_⟩:=J;exact aN e);generalize g:s.heap.objs.size=S at *;have p:S≠it:=Nat.ne_of_gt I;have D:S≠l:=Nat.ne_of_gt B;refine callType_codes (Q₁:=fun m K=>m=.ref S∧K={s with heap:=s.heap.push {cls:=.type "list",data:=.seq #[]}}) PySem.F.called_list (PySem.F.typeCall_list_1 _) PySem.F.entry_list_init (code_list_new _ ⟨by rw[g],rfl⟩) fun m K X=>?_;obtain⟨rfl,rfl⟩:=X;have q:(s.heap.push {cls:=.type "list",data:=.seq #[]}).get? S=some {cls:=.type "list",data:=.seq #[]}:=by rw[←g];exact aP _ rfl
 refine⟨⟨_,q,rfl⟩,PySem.F.args_list_init_2 _ _,?_⟩;show wpAny _ _ (do let was ←Builtin.List.listItems (.ref S);Builtin.List.listUpdate (.ref S) (fun _=>#[]);letGo was.toList.reverse;Builtin.List.listExtendWith (.ref S) (.ref it) .none) _ _ _;refine ac ?_;unfold Builtin.List.listItems;refine ac (wpAny_seqItems q rfl (ar ?_));show wpAny _ _ (updateSeq S (fun _=>#[]) >>= fun _=>letGo (#[]:Array Value).toList.reverse >>= fun _=>Builtin.List.listExtendWith (.ref S) (.ref it) .none) _ _ _;refine ac (wpAny_updateSeq q rfl ?_);have t:=cU (Obj.mapSeq (fun _=>(#[]:Array Value))) q rfl;have G:∀b o,s.heap.get? b=some o→((s.heap.push {cls:=.type "list",data:=.seq #[]}).update S (Obj.mapSeq (fun _=>(#[]:Array Value)))).get? b=some o:=fun b o e=>by
  have v:b≠S:=by
   have:=aN e;rw[g]at this;exact aU this
  rw[Heap.get?_update_other _ _ (Ne.symm v)];exact aC _ e
 refine ac (wpAny_letGo ?_);generalize O:(s.heap.push {cls:=.type "list",data:=.seq #[]}).update S (Obj.mapSeq (fun _=>(#[]:Array Value)))=h2 at *;have a:h2.IsRevIter it l ((items.size:Int)-1):=i.at fun o e=>G it o e;have x:h2.IsList l items:=J.at fun o e=>G l o e;have h:∃H,h2.get? S=some {cls:=.type "list",data:=.seq #[] H}:=⟨_,t⟩;obtain⟨H,h⟩:=h;unfold Builtin.List.listExtendWith;refine ac (wpAny_typeOf (T:="list_reverseiterator") (Heap.IsRevIter.typeIs (s:={s with heap:=h2}) a) ?_);have h1:Builtin.List.listSameRef (.ref S) (.ref it)=false:=by simp[Builtin.List.listSameRef,p]
 have M:(Value.type "list_reverseiterator" == Value.type "list")=false:=by decide
 have U:(Value.type "list_reverseiterator" == Value.type "tuple")=false:=by decide
 simp only[h1,M,U,Bool.or_false,cf,if_false];refine ac (wpAny_pyIter_revIter (s:={s with heap:=h2}) a ?_);refine ac (bF (Be (s:={s with heap:=h2}) (Heap.IsRevIter.typeIs (s:={s with heap:=h2}) a) ?_));refine dq (fun z=>absurd z (by decide +kernel)) (fun _=>?_);have y:S∉[it,l]:=by
  simp only[am,aJ,or_false,not_or];exact⟨p,D⟩
 refine ar ⟨plainId_quiet PySem.F.plain_extend_loop _,?_⟩;have W:=Walks.listRev (prog:=prog) (w:=w) (A:=A.in1.in1) P it l r items;refine codeAny_extend_loopS W.toS hz S y .none items.size 0 _ #[] H rfl (bo _) ⟨bo _,by simpa using a,x⟩ h (ItemsOf.nil _) fun s' acc c' mv C d=>?_;rw[Moved.eq_with mv];refine⟨rfl,N s'.heap s'.toks acc c' (fun b o v e=>mv.heap b o (fun R=>?_) (G b o e)) C ?_⟩
 ·rcases am.mp R with z | z
  ·have:=aN e;rw[g,z]at this;exact cH _ this
  ·exact v (ai.mp z)
 ·refine List.ext_getElem? fun j=>?_;by_cases hj:j<items.size
  ·have L:acc[j]?=some (acc[j]'(by rw[d.1];exact hj)):=cB _;have hp:=d.2 j _ L;rw[List.getElem?_reverse (by simpa using hj),bE,bE,L,br]
   exact hp.symm
  ·rw[dF (by rw[br,d.1];omega),dF (by rw[cm,br];omega)]
end
theorem eU.adopt {p:Addr}{o:HO}(I:eU X pins σ H s)(f:jG X pins H p)(new:fH X.prog X.w (upd H p o) s.heap p o):eU X pins σ (upd H p o) s:=by
 have d:∀b u,H b=some u→b≠p:=fun b u e=>er e f.1;refine I.step (h':=s.heap) (g':=s.gens) (d':=s.drawn) (t':=s.toks) (ch:=[p]) (fun b a=>?_) (fun b o _ _ _ e _=>e) (fun b o _ _ _ e _=>⟨o.slots,e⟩) (fun b o a _ n=>?_) (fun b o _ e=>⟨o,e⟩) (fun b xs e=>?_) (fun b u v e=>?_) (fun b ps e=>⟨#[],?_⟩) (fun m g=>g) (fun b u e=>?_) I.bare
 ·have e:b=p:=by simpa using a
  subst e;exact⟨f.2.2.2.1,f.2.1,f.2.2.2.2.1,f.2.2.2.2.2⟩
 ·rw[ef (fun z=>a (by simp[z]))];exact n
 ·rw[ef (d b _ e)];exact e
 ·rw[ef (d b _ e)];exact e
 ·rw[ef (d b _ e),e];simp
 ·by_cases a:b=p
  ·subst a;rw[d0]at e;cases e;exact new
  ·rw[ef a]at e;exact(I.hok b u e).Kh (fun c v _ q=>q) (fun c q=>by rw[ef (d c _ q)];exact q) fun c xs q=>by rw[ef (d c _ q)];exact q
def Gi (K:W.Frag)(te:TE):TE:=fun σ H Q=>te σ H fun x H1=>∃(a:Addr) (xs:List V),x=.ref a∧fb K H1 a xs∧∀p:Addr,H1 p=none→Q (.ref p) (upd H1 p (.lst xs.reverse))
theorem CV {p2 pos2:Pos}(R:X.calm=true)(N:Gl X "list")(Y:X.mg "list" = none)(B:Gl X "reversed")(A:X.mg "reversed" = none)(Z:PE X e te)(hs:starEach [e] X.env=[(false,eval e X.env)]:=by rfl)(hs2:starEach [.Call (.Name "reversed" p2) [e] [] pos2] X.env=[(false,eval (.Call (.Name "reversed" p2) [e] [] pos2) X.env)]:=by rfl):PE X (.Call (.Name "list" p) [.Call (.Name "reversed" p2) [e] [] pos2] [] pos) (Gi X.K te):=by
 intro pins s σ H Q I h;refine bI (jA I N Y cN ?_ (by decide) (by decide));refine PyProof.Rows.callWith_type1 ?_ hs2 rfl;rw[hs2];refine Calls.spliced_cons ?_;refine bI (jA I B A PyProof.Rows.Boot.«reversed» ?_ (by decide) (by decide));refine PyProof.Rows.callWith_type1 ?_ hs rfl;have S:=(dZ Z el hs) pos2 pins s σ H (fun vs H1=>match vs with | [x]=>(∃(a:Addr) (xs:List V),x=.ref a∧fb X.K H1 a xs∧∀p:Addr,H1 p=none→Q (.ref p) (upd H1 p (.lst xs.reverse))) | _=>False) I h;refine fV S ?_;rintro us s1 ⟨vs,H1,t,r,J⟩
 match vs,r,J with
 |[x],r,⟨a,xs,e2,hS,q⟩=>
  subst e2;obtain⟨u,rfl,L⟩:=jo r;cases (show u=Value.ref a from L);obtain⟨d,E,pl,F⟩:=t.list hS;refine call_reversed_list pl.isList (Calls.spliced_nil ?_);generalize g:s1.heap.objs.size=it;have m:s1.heap.get? it=none:=g▸bj (aq _);have l:H1 it=none:=t.hok.fresh (cE g);have C:(s1.heap.push (revObj a ((d.toArray.size:Int)-1))).get? it=some (revObj a ((d.toArray.size:Int)-1)):=by rw[←g];exact aP _ rfl
  have v:eU X pins σ H1 {s1 with heap:=s1.heap.push (revObj a ((d.toArray.size:Int)-1))}:=t.kept (t':=s1.toks) fun b o q=>aC _ q;have y:(s1.heap.push (revObj a ((d.toArray.size:Int)-1))).IsList a d.toArray:=pl.isList.push _;have w:a≠it:=by
   obtain⟨o,G,_⟩:=pl.isList;exact fun z=>by rw[z,m]at G;cases G
  have T:d.length=xs.length:=E.length.symm;refine AS (s:={s1 with heap:=s1.heap.push (revObj a ((d.toArray.size:Int)-1))}) (v.ok.hd R) ⟨_,C,rfl,rfl⟩ y w (by rw[aO,T];exact F) fun h' tk P c k D ea=>?_;have f:=t.Kz m l;generalize i:(s1.heap.push (revObj a ((d.toArray.size:Int)-1))).objs.size=pn at D ⊢;have U:pn=it+1:=by rw[←i,dU,g]
  have j:H1 pn=none:=v.hok.fresh (cE i);refine⟨.ref pn,upd H1 pn (.lst xs.reverse),?_,rfl,q _ j⟩;have O:eU X pins σ H1 {s1 with heap:=h',toks:=tk}:=v.turned (t':=tk) (fun b o M e=>k b o M e) l f.2.1 f.2.2.2.1 f.2.2.2.2.1 f.2.2.2.2.2;have fp:jG X pins H1 pn:=v.Kz (i▸bj (aq _)) j;refine O.adopt fp ⟨by rw[cm];exact F,d.reverse,c,?_,?_⟩
  ·exact E.reverse
  ·show h'.get? pn=_;rw[D,←ea]
section
def oC (P:Program)(w:World)(h:Heap):fM→Value→Prop
 |none,u=>u=.none
 |some ks,u=>∃b,u=.ref b∧(tupleKind (fE P w)).is h ks b
theorem oC.inj {u:Value}:∀{x y:fM},oC P w h x u→oC P w h y u→x=y
 |none,none,_,_=>rfl
 |none,some _,hx,⟨b,e,_⟩=>by rw[show u=Value.none from hx]at e;cases e
 |some _,none,⟨b,e,_⟩,hy=>by rw[show u=Value.none from hy]at e;cases e
 |some x,some y,⟨b,e,hb⟩,⟨c,f,hc⟩=>by rw[e]at f;cases f;rw[(tupleKind (fE P w)).inj hb hc]
theorem oC.keep {h':Heap}{k:fM}{u:Value}{o:Obj}{ep:Nat}(x:oC P w h k u)(i:h.get? d=some o)(a:o.data=.dict es ep)(j:Heap.SameBut d h h'):oC P w h' k u:=by
 cases k with
 |none=>exact x
 |some ks=>obtain⟨b,e,g⟩:=x;exact⟨b,e,(tupleKind (fE P w)).keeps g i a j⟩
theorem oP {k:fM}{u:Value}(ok:lK P w H h)(x:wu H k u):oC P w h k u:=by
 cases k with
 |none=>exact x
 |some ks=>obtain⟨b,e,a⟩:=x;exact⟨b,e,md ok a⟩
theorem vM {k:fM}{u:Value}{Q:Int→Shared→Prop}(a:A.units<cLine)(d:oC P w s.heap k u)(h:∀tk,Q (lU P w k) {s with toks:=tk}):wpAny (model P w) A (pyHash u) Q E s:=by
 cases k with
 |none=>
  rw[show u=Value.none from d];exact W.pyHash_laid .none .none A s Q rfl .none a h
 |some ks=>
  obtain⟨b,rfl,e⟩:=d;exact(tupleKind (fE P w)).pyHash a e (h _)
theorem wQ {ks:List gv}{b:Addr}(x:(tupleKind (fE P w)).is h ks b):∃its,h.IsTuple b its:=by
 obtain⟨o,its,n,h1,h2,a,_⟩:=(show IsTupleKey (fE P w) h ks b from x);exact⟨its,o,h1,h2,n,a⟩
theorem n_eq {x y:fM}{u:Value}{Q:Bool→Shared→Prop}(d:A.units<cLine)(j:oC P w s.heap x u)(a:oC P w s.heap y v)(h:Q (decide (x=y)) s):wpAny (model P w) A (eqBool u v) Q E s:=by
 cases x with
 |none=>
  rw[show u=Value.none from j];cases y with
  |none=>
   rw[show v=Value.none from a];exact SeqAt.eqBoolOverData P w A E s .none .none .none .none _ _ Q .none .none rfl rfl d h
  |some ys=>
   obtain⟨b,rfl,e⟩:=a;obtain⟨g,i⟩:=wQ e;exact SeqAt.EqAt.none_tuple i d P w E Q h
 |some xs=>
  obtain⟨b,rfl,e⟩:=j;cases y with
  |none=>
   rw[show v=Value.none from a];obtain⟨g,i⟩:=wQ e;exact SeqAt.EqAt.tuple_none i d P w E Q h
  |some ys=>
   obtain⟨c,rfl,l⟩:=a;refine(tupleKind (fE P w)).eqBool d e l ?_;by_cases q:xs=ys
   ·subst q;simpa using h
   ·rw[au q];rw[au (fun z=>q (Option.some.inj z))]at h;exact h
theorem wS {k:fM}{u:Value}{Q:Bool→Shared→Prop}(a:oC P w s.heap k u)(h:Q true s):wpAny (model P w) A (eqIsQuiet 8 u) Q E s:=by
 cases k with
 |none=>rw[show u=Value.none from a];exact ar h
 |some ks=>obtain⟨b,rfl,d⟩:=a;exact(tupleKind (fE P w)).quiet d h
theorem wR {k:fM}{u:Value}{us:List Value}{Q:Bool→Shared→Prop}(b:oC P w s.heap k u)(a:∀v∈us,∃j,oC P w s.heap j v)(h:Q false s):wpAny (model P w) A (tableMayTell u us) Q E s:=by
 unfold tableMayTell
 split
 ·exact ar h
 refine ac (wS b ?_);rw[if_neg (by decide)];refine ac (dh _ (fun rest r s'=>s'=s∧r=(none,())∧∀v∈rest,∃j,oC P w s.heap j v) _ ?_ ?_ _ _ ⟨rfl,rfl,a⟩)
 ·rintro v rest r s' ⟨rfl,rfl,all⟩;obtain⟨j,d⟩:=all v (by simp);refine ac (wS d ?_);rw[if_neg (by decide)];exact ar ⟨rfl,rfl,fun z e=>all z (by simp[e])⟩
 ·rintro r s' ⟨rfl,rfl,_⟩;exact ar h
structure ql (P:Program)(w:World)(h:Heap)(es:Array DictEntry)(ks:List fM):Prop where
 nd:ks.Nodup
 sz:es.size=ks.length
 at_:∀(i:Nat) (k:fM),ks[i]?=some k→∃e,es[i]?=some e∧e.hash=lU P w k∧oC P w h k e.key
theorem ql.back (x:ql P w h es ks){e:DictEntry}(q:es[i]?=some e):∃k,ks[i]?=some k∧e.hash=lU P w k∧oC P w h k e.key:=by
 have hi:i<ks.length:=by rw[←x.sz];exact(Array.getElem?_eq_some_iff.mp q).1
 obtain⟨b,h1,h2,a⟩:=x.at_ i ks[i] (aj hi);rw[q]at h1;cases h1;exact⟨_,aj hi,h2,a⟩
theorem ql.one (x:ql P w h es ks){k:fM}(hi:ks[i]?=some k)(hj:ks[j]?=some k):i=j:=
 (cj (af.mp hi).1 x.nd).mp (hi.trans hj.symm)
variable {o:Obj}{ep:Nat}{k:fM}{u:Value}{Q:Option Nat→Shared→Prop}
theorem Dh (x:A.units<cLine)(C:oC P w s.heap k u)(h:s.heap.get? d=some o)(g:o.data=.dict es ep)(X:ql P w s.heap es ks)(l:List Nat)(t:∀i∈l,∃e,es[i]?=some e∧(e.hash == lU P w k)=true)(B:(∀j∈l,ks[j]?≠some k)→Q none s)(h1:∀j∈l,ks[j]?=some k→Q (some j) s):wpAny (model P w) A (dictWalkPlain d u (lU P w k) es l) Q E s:=by
 unfold dictWalkPlain;refine ac (dh _ (fun rest b s'=>s'=s∧b=(none,())∧(∀i∈rest,i∈l)∧((∀j∈rest,ks[j]?≠some k)→Q none s)) _ ?_ ?_ _ _ ⟨rfl,rfl,fun _ z=>z,B⟩)
 ·rintro i rest b s' ⟨rfl,rfl,sub,no⟩;obtain⟨e,m,v⟩:=t i (sub i (by simp));obtain⟨j,p,_,r⟩:=X.back m;simp only[m];rw[if_pos v];refine ac (bK h g (ac (n_eq x r C (ac (bK h g ?_)))));rw[if_neg (by simp)];by_cases q:j=k
  ·rw[ao q,if_pos rfl];exact ac (ci (ar (ar (h1 i (sub i (by simp)) (q▸p)))))
  ·rw[au q,if_neg (by decide)];refine ac (ci (ar ⟨rfl,rfl,fun z a=>sub z (by simp[a]),fun all=>no fun z a=>?_⟩));rcases am.mp a with y | y
   ·subst y;rw[p];exact fun y=>q (Option.some.inj y)
   ·exact all z y
 ·rintro b s' ⟨rfl,rfl,_,no⟩;exact ar (no fun _ z=>nomatch z)
theorem vN (M:A.units<cLine)(G:oC P w s.heap k u)(H:s.heap.get? d=some o)(F:o.data=.dict es ep)(X:ql P w s.heap es ks)(U:k∉ks→Q none s)(h1:∀j,ks[j]?=some k→Q (some j) s):wpAny (model P w) A (dictFind d u (lU P w k)) Q E s:=by
 generalize C:placesWithHash es.size (fun i=>es[i]?.map (·.hash)) (lU P w k)=pl;have t:∀i,i∈pl→∃e,es[i]?=some e∧(e.hash == lU P w k)=true:=fun i hi=>by
  rw[←C,placesWithHash,aW]at hi;cases l:es[i]? with
  |none=>rw[l]at hi;simp at hi
  |some e=>rw[l]at hi;exact⟨e,rfl,by simpa using hi.2⟩
 have N:∀j,ks[j]?=some k→j∈pl:=fun j g=>by
  obtain⟨e,l,D,_⟩:=X.at_ j k g;rw[←C,placesWithHash,aW,List.mem_range];exact⟨(Array.getElem?_eq_some_iff.mp l).1,by rw[l];simp[D]⟩
 have I:pl.Nodup:=by rw[←C,placesWithHash];exact List.Pairwise.filter _ List.nodup_range
 have B:(∀j∈pl,ks[j]?≠some k)→Q none s:=fun all=>U fun R=>by
  obtain⟨j,g⟩:=az.mp R;exact all j (N j g) g
 have L:∀v∈pl.filterMap (fun i=>es[i]?.map (·.key)),∃j,oC P w s.heap j v:=fun v J=>by
  obtain⟨i,hi,J⟩:=List.mem_filterMap.mp J;obtain⟨e,l,_⟩:=t i hi;rw[l]at J;obtain⟨j,_,_,g⟩:=X.back l;cases J;exact⟨j,g⟩
 have S:u=.none∨∃b,u=.ref b:=by
  cases k with
  |none=>exact .inl G
  |some x=>obtain⟨b,e,_⟩:=G;exact .inr ⟨b,e⟩
 unfold dictFind
 try with_reducible refine bF ?_
 refine ac (cX H F ?_);rcases S with rfl | ⟨b,rfl⟩
 ·dsimp only;rw[C];by_cases J:((Value.none::pl.filterMap fun i=>es[i]?.map (·.key)).all carriedByValue)=true
  ·rw[if_pos J];exact Dh M G H F X pl t B fun j _ g=>h1 j g
  rw[if_neg J];by_cases hone:((pl.filterMap fun i=>es[i]?.map (·.key)) == [Value.none])=true
  ·rw[if_pos hone];refine ac (ar ?_);rw[if_neg (by simp)];refine ac (dh _ (fun rest b s'=>s'=s∧(∀i∈rest,i∈pl)∧rest.Nodup∧((b=(none,none)∧((∀j∈rest,ks[j]?≠some k)→Q none s))∨∃j,b=(none,some j)∧ks[j]?=some k∧j∉rest)) _ ?_ ?_ _ _ ⟨rfl,fun _ z=>z,I,.inl ⟨rfl,B⟩⟩)
   ·rintro i rest r s' ⟨rfl,sub,m,st⟩;obtain⟨e,l,D⟩:=t i (sub i (by simp));obtain⟨j,g,_,K⟩:=X.back l;rw[aV]at m;simp only[l];rw[if_pos D];refine ac (bK H F (ac (n_eq M K G (ac (bK H F ?_)))));rw[if_neg (by simp)];by_cases q:j=k
    ·rw[ao q,if_pos rfl];subst q;rcases st with ⟨rfl,no⟩ | ⟨j',rfl,a,p⟩
     ·rw[if_neg (by simp)];refine ac (ci ?_)
      split
      ·exact ar (ar (h1 i g))
      ·exact ar ⟨rfl,fun z h=>sub z (by simp[h]),m.2,.inr ⟨i,rfl,g,m.1⟩⟩
     ·exact absurd (X.one g a) (fun z=>p (by simp[z]))
    ·rw[au q,if_neg (by decide)];refine ac (ci ?_);rw[if_neg (by simp)];refine ar ⟨rfl,fun z h=>sub z (by simp[h]),m.2,?_⟩;rcases st with ⟨rfl,no⟩ | ⟨j',rfl,a,p⟩
     ·refine .inl ⟨rfl,fun all=>no fun z h=>?_⟩;rcases am.mp h with y | y
      ·subst y;rw[g];exact fun y=>q (Option.some.inj y)
      ·exact all z y
     ·exact .inr ⟨j',rfl,a,fun z=>p (by simp[z])⟩
   ·rintro r s' ⟨rfl,_,_,st⟩;rcases st with ⟨rfl,no⟩ | ⟨j',rfl,a,_⟩
    ·exact ar (no fun _ z=>nomatch z)
    ·exact ar (h1 j' a)
  ·rw[if_neg hone];refine ac (wR G L ?_);rw[if_neg (by simp)];refine ac (dh _ (fun rest b s'=>s'=s∧(∀i∈rest,i∈pl)∧rest.Nodup∧((b=(none,none)∧((∀j∈rest,ks[j]?≠some k)→Q none s))∨∃j,b=(none,some j)∧ks[j]?=some k∧j∉rest)) _ ?_ ?_ _ _ ⟨rfl,fun _ z=>z,I,.inl ⟨rfl,B⟩⟩)
   ·rintro i rest r s' ⟨rfl,sub,m,st⟩;obtain⟨e,l,D⟩:=t i (sub i (by simp));obtain⟨j,g,_,K⟩:=X.back l;rw[aV]at m;simp only[l];rw[if_pos D];refine ac (bK H F (ac (n_eq M K G (ac (bK H F ?_)))));rw[if_neg (by simp)];by_cases q:j=k
    ·rw[ao q,if_pos rfl];subst q;rcases st with ⟨rfl,no⟩ | ⟨j',rfl,a,p⟩
     ·rw[if_neg (by simp)];refine ac (ci ?_)
      split
      ·exact ar (ar (h1 i g))
      ·exact ar ⟨rfl,fun z h=>sub z (by simp[h]),m.2,.inr ⟨i,rfl,g,m.1⟩⟩
     ·exact absurd (X.one g a) (fun z=>p (by simp[z]))
    ·rw[au q,if_neg (by decide)];refine ac (ci ?_);rw[if_neg (by simp)];refine ar ⟨rfl,fun z h=>sub z (by simp[h]),m.2,?_⟩;rcases st with ⟨rfl,no⟩ | ⟨j',rfl,a,p⟩
     ·refine .inl ⟨rfl,fun all=>no fun z h=>?_⟩;rcases am.mp h with y | y
      ·subst y;rw[g];exact fun y=>q (Option.some.inj y)
      ·exact all z y
     ·exact .inr ⟨j',rfl,a,fun z=>p (by simp[z])⟩
   ·rintro r s' ⟨rfl,_,_,st⟩;rcases st with ⟨rfl,no⟩ | ⟨j',rfl,a,_⟩
    ·exact ar (no fun _ z=>nomatch z)
    ·exact ar (h1 j' a)
 ·have J:¬((Value.ref b::pl.filterMap fun i=>es[i]?.map (·.key)).all carriedByValue)=true:=by simp[carriedByValue]
  have O:¬(es.any fun e=>e.key == Value.ref b&&e.hash != lU P w k)=true:=by
   rw[←Array.any_toList,dG];rintro⟨e,R,T⟩;obtain⟨i,hi⟩:=az.mp R;rw[bE]at hi;obtain⟨j,_,D,g⟩:=X.back hi;rw[aD,beq_iff_eq,bne_iff_ne]at T;rw[T.1]at g;exact T.2 (by rw[D,g.inj G])
  dsimp only;rw[C,if_neg J,if_neg O];by_cases hone:((pl.filterMap fun i=>es[i]?.map (·.key)) == [Value.ref b])=true
  ·rw[if_pos hone];refine ac (ar ?_);rw[if_neg (by simp)];refine ac (dh _ (fun rest b s'=>s'=s∧(∀i∈rest,i∈pl)∧rest.Nodup∧((b=(none,none)∧((∀j∈rest,ks[j]?≠some k)→Q none s))∨∃j,b=(none,some j)∧ks[j]?=some k∧j∉rest)) _ ?_ ?_ _ _ ⟨rfl,fun _ z=>z,I,.inl ⟨rfl,B⟩⟩)
   ·rintro i rest r s' ⟨rfl,sub,m,st⟩;obtain⟨e,l,D⟩:=t i (sub i (by simp));obtain⟨j,g,_,K⟩:=X.back l;rw[aV]at m;simp only[l];rw[if_pos D];refine ac (bK H F (ac (n_eq M K G (ac (bK H F ?_)))));rw[if_neg (by simp)];by_cases q:j=k
    ·rw[ao q,if_pos rfl];subst q;rcases st with ⟨rfl,no⟩ | ⟨j',rfl,a,p⟩
     ·rw[if_neg (by simp)];refine ac (ci ?_)
      split
      ·exact ar (ar (h1 i g))
      ·exact ar ⟨rfl,fun z h=>sub z (by simp[h]),m.2,.inr ⟨i,rfl,g,m.1⟩⟩
     ·exact absurd (X.one g a) (fun z=>p (by simp[z]))
    ·rw[au q,if_neg (by decide)];refine ac (ci ?_);rw[if_neg (by simp)];refine ar ⟨rfl,fun z h=>sub z (by simp[h]),m.2,?_⟩;rcases st with ⟨rfl,no⟩ | ⟨j',rfl,a,p⟩
     ·refine .inl ⟨rfl,fun all=>no fun z h=>?_⟩;rcases am.mp h with y | y
      ·subst y;rw[g];exact fun y=>q (Option.some.inj y)
      ·exact all z y
     ·exact .inr ⟨j',rfl,a,fun z=>p (by simp[z])⟩
   ·rintro r s' ⟨rfl,_,_,st⟩;rcases st with ⟨rfl,no⟩ | ⟨j',rfl,a,_⟩
    ·exact ar (no fun _ z=>nomatch z)
    ·exact ar (h1 j' a)
  ·rw[if_neg hone];refine ac (wR G L ?_);rw[if_neg (by simp)];refine ac (dh _ (fun rest b s'=>s'=s∧(∀i∈rest,i∈pl)∧rest.Nodup∧((b=(none,none)∧((∀j∈rest,ks[j]?≠some k)→Q none s))∨∃j,b=(none,some j)∧ks[j]?=some k∧j∉rest)) _ ?_ ?_ _ _ ⟨rfl,fun _ z=>z,I,.inl ⟨rfl,B⟩⟩)
   ·rintro i rest r s' ⟨rfl,sub,m,st⟩;obtain⟨e,l,D⟩:=t i (sub i (by simp));obtain⟨j,g,_,K⟩:=X.back l;rw[aV]at m;simp only[l];rw[if_pos D];refine ac (bK H F (ac (n_eq M K G (ac (bK H F ?_)))));rw[if_neg (by simp)];by_cases q:j=k
    ·rw[ao q,if_pos rfl];subst q;rcases st with ⟨rfl,no⟩ | ⟨j',rfl,a,p⟩
     ·rw[if_neg (by simp)];refine ac (ci ?_)
      split
      ·exact ar (ar (h1 i g))
      ·exact ar ⟨rfl,fun z h=>sub z (by simp[h]),m.2,.inr ⟨i,rfl,g,m.1⟩⟩
     ·exact absurd (X.one g a) (fun z=>p (by simp[z]))
    ·rw[au q,if_neg (by decide)];refine ac (ci ?_);rw[if_neg (by simp)];refine ar ⟨rfl,fun z h=>sub z (by simp[h]),m.2,?_⟩;rcases st with ⟨rfl,no⟩ | ⟨j',rfl,a,p⟩
     ·refine .inl ⟨rfl,fun all=>no fun z h=>?_⟩;rcases am.mp h with y | y
      ·subst y;rw[g];exact fun y=>q (Option.some.inj y)
      ·exact all z y
     ·exact .inr ⟨j',rfl,a,fun z=>p (by simp[z])⟩
   ·rintro r s' ⟨rfl,_,_,st⟩;rcases st with ⟨rfl,no⟩ | ⟨j',rfl,a,_⟩
    ·exact ar (no fun _ z=>nomatch z)
    ·exact ar (h1 j' a)
end
def lM (xs:List (fM×Value×Value))(k:fM):Option Value:=(xs.find? fun x=>decide (x.1=k)).map (·.2.2)
def qq (k:fM)(v:Value)(x:fM×Value×Value):fM×Value×Value:=if x.1=k then (x.1,x.2.1,v) else x
def qt (xs:List (fM×Value×Value))(k:fM)(u v:Value):List (fM×Value×Value):=if (lM xs k).isSome=true then xs.map (qq k v) else xs++[(k,u,v)]
def ou (P:Program)(w:World)(h:Heap)(d:Addr)(xs:List (fM×Value×Value)):Prop:=
 ∃o es ep,h.get? d=some o∧o.ExactDict∧o.data=.dict es ep∧es.toList=xs.map (uu P w)∧(∀x∈xs,oC P w h x.1 x.2.1)∧(xs.map (·.1)).Nodup
theorem lI {k:fM}(h:k∉xs.map (·.1)):lM xs k=none:=by
 unfold lM;rw[dP.mpr fun x a b=>h (av.mpr ⟨x,a,aR b⟩)];rfl
theorem oT {k:fM}{p:Value×Value}:∀{xs:List (fM×Value×Value)} {j:Nat},(xs.map (·.1)).Nodup→xs[j]?=some (k,p)→lM xs k=some p.2
 |[],j,_,h=>by simp at h
 |x::xs,0,_,h=>by
  have e:x=(k,p):=by simpa using h
  subst e;simp[lM]
 |x::xs,j+1,hn,h=>by
  rw[aE,aV]at hn;have h':xs[j]?=some (k,p):=by simpa using h
  have a:¬x.1=k:=fun e=>hn.1 (e▸av.mpr ⟨(k,p),ak h',rfl⟩);have:=oT hn.2 h';simpa [lM,bp,a] using this
theorem zU (k:fM)(v:Value)(x:fM×Value×Value):(qq k v x).1=x.1:=by unfold qq;split <;> rfl
section
variable {k:fM}{u:Value}
theorem ou.typeIs (D:ou P w s.heap d xs):s.TypeIs (.ref d) "dict":=(by obtain⟨o,_,_,ho,hc,_⟩:=D;exact⟨o,ho,hc.1⟩)
theorem tD (b:es.toList=xs.map (uu P w))(hi:∀x∈xs,oC P w h x.1 x.2.1)(e:(xs.map (·.1)).Nodup):ql P w h es (xs.map (·.1)):=by
 refine⟨e,by rw[←br,b,ab,ab],fun i k a=>?_⟩;rw[ae]at a;obtain⟨x,d,rfl⟩:=aw.mp a;exact⟨uu P w x,by rw[←bE,b,ae,d];rfl,rfl,hi x (ak d)⟩
theorem Fc {Q:Option Value→Shared→Prop}(i:A.units<cLine)(p:oC P w s.heap k u)(D:ou P w s.heap d xs)(h:∀tk,Q (lM xs k) {s with toks:=tk}):wpAny (model P w) A (dictGet d u) Q E s:=by
 obtain⟨o,es,ep,g,_,b,q,hi,m⟩:=D;unfold dictGet
 try with_reducible refine bF ?_
 refine ac (vM i p fun tk=>ac (vN (s:={s with toks:=tk}) i p g b (tD q hi m) (fun a=>?_) (fun j r=>?_)))
 ·rw[lI a]at h;exact ar (h tk)
 ·rw[ae]at r;obtain⟨x,l,e⟩:=aw.mp r;obtain⟨t,v⟩:=x;obtain rfl:k=t:=e.symm;rw[oT m l]at h;refine ac (cX (s:={s with toks:=tk}) g b (ar ?_));rw[←bE,q,ae,l]
  exact h tk
theorem Fb {Q:Unit→Shared→Prop}(G:A.units<cLine)(C:oC P w s.heap k u)(D:ou P w s.heap d xs)(hz:xs.length≤sizeLine)(h:∀h' tk,ou P w h' d (qt xs k u v)→Heap.SameBut d s.heap h'→Q () {s with heap:=h',toks:=tk}):wpAny (model P w) A (dictSet d u v) Q E s:=by
 obtain⟨o,es,ep,p,J,g,B,hi,t⟩:=D;have L:es.size=xs.length:=by rw[←br,B,ab]
 unfold dictSet
 try with_reducible refine bF ?_
 refine ac (vM G C fun tk=>?_);unfold dictSetHashed
 try with_reducible refine bF ?_
 refine ac (vN (s:={s with toks:=tk}) G C p g (tD B hi t) (fun r=>?_) (fun j H=>?_))
 ·have hp:qt xs k u v=xs++[(k,u,v)]:=by unfold qt;rw[lI r,if_neg (by decide)]
  refine ac (ci (wpAny_updateDictKeys (hz:=by lia) (s:={s with toks:=tk}) p g (h _ tk ?_ (Heap.SameBut.update ..))));refine⟨_,_,ep+1,cU _ p (Obj.isFreed_of_dict (Obj.data_mapDictKeys g _)),J.mapDictKeys _,Obj.data_mapDictKeys g _,?_,fun x i=>?_,?_⟩
  ·rw[hp];simp[B,uu]
  ·rw[hp]at i;rcases aB.mp i with z | z
   ·exact(hi x z).keep p g (Heap.SameBut.update ..)
   ·rw[ai.mp z];exact C.keep p g (Heap.SameBut.update ..)
  ·rw[hp,ay,bU];refine⟨t,by simp,fun a I b F z=>r ?_⟩;rw[aE,cT,ai]at F;rw[z,F]at I;exact I
 ·rw[ae]at H;obtain⟨x,i,e⟩:=aw.mp H;obtain⟨O,N⟩:=x;obtain rfl:k=O:=e.symm;have hp:qt xs k u v=xs.map (qq k v):=by unfold qt;rw[oT t i,if_pos (show(some N.2).isSome=true from rfl)]
  refine ac (ci (ac (wpAny_updateDict (s:={s with toks:=tk}) p g (wpAny_point (h _ tk ?_ (Heap.SameBut.update ..))))));refine⟨_,_,ep,cU _ p (Obj.isFreed_of_dict (Obj.data_mapDict g _)),J.mapDict _,Obj.data_mapDict g _,?_,fun x i=>?_,?_⟩
  ·rw[hp,Array.toList_modify,B,cF];refine List.ext_getElem? fun m=>?_;rw[List.getElem?_modify,ae,ae]
   cases hm:xs[m]? with
   |none=>rfl
   |some y=>
    by_cases hjm:j=m
    ·subst hjm;rw[i]at hm;cases hm;simp[uu,qq]
    ·have K:¬y.1=k:=fun z=>hjm ((cj (by rw[ab];exact(af.mp i).1) t).mp (by rw[ae,ae,i,hm];exact congrArg some z.symm))
     simp[qq,K,hjm]
  ·rw[hp]at i;obtain⟨y,M,rfl⟩:=av.mp i;have q:=(hi y M).keep p g (Heap.SameBut.update s.heap d (Obj.mapDict (fun l=>l.modify j fun e=>{e with val:=v})));unfold qq
   split
   ·exact q
   ·exact q
  ·rw[hp,cF,show((fun x:fM×Value×Value=>x.1) ∘ qq k v)=(·.1) from funext fun x=>zU k v x];exact t
theorem Do (a:s.TypeIs (.ref d) "dict")(h:wpAny (model P w) A.in1 (dictGet d u) (fun r s'=>∃v,r=some v∧Q v s') E s):wpAny (model P w) A (getItem (.ref d) u) Q E s:=by
 unfold getItem
 try with_reducible refine bF ?_
 refine ac (wpAny_sequenceKey a (by decide) (ac (dr (name:=Str.ofString "__getitem__") a slot_dict_getitem (cg slot_dict_getitem a entry_dict_getitem ?_ (args_dict_getitem _ _)))))
 show wpAny _ _ (dictGet d u >>= _) _ _ s;refine ac (b0 h (?_) fun _ _ z=>z);rintro r s' ⟨v,e,q⟩;subst e;exact ar ⟨v,rfl,ar q⟩
theorem Hq {Q:Bool→Shared→Prop}(a:s.TypeIs (.ref d) "dict")(b:(d == sysModules)=false)(h:wpAny (model P w) A.in1 (dictGet d u) (fun r s'=>Q r.isSome s') E s):wpAny (model P w) A (contains (.ref d) u) Q E s:=by
 unfold contains
 try with_reducible refine bF ?_
 refine ac (wpAny_specialOf a slot_dict_contains.lookup ?_);show wpAny _ _ (if (some (Value.builtin "dict.__contains__") == some Value.none)=true then _ else _) _ _ s;rw[if_neg (by rw[beq_builtin_none];exact aK)];refine ac (wpAny_callSpecialUnlessNone?_slot (name:=Str.ofString "__contains__") a slot_dict_contains (cg slot_dict_contains a entry_dict_contains ?_ (args_dict_contains _ _)))
 show wpAny _ _ (dictGet d u >>= _) _ _ s;refine ac (b0 h (fun r s' q=>?_) fun _ _ z=>z);cases r with
 |some v=>exact ar ⟨_,rfl,bR q⟩
 |none=>exact ac (wpAny_pendingKey_other b (ar ⟨_,rfl,bR q⟩))
theorem zu {Q:Unit→Shared→Prop}(a:s.TypeIs (.ref d) "dict")(h:wpAny (model P w) A.in1 (dictSet d u v) Q E s):wpAny (model P w) A (setItem (.ref d) u v) Q E s:=by
 unfold setItem
 try with_reducible refine bF ?_
 refine ac (wpAny_sequenceKey a (by decide) (ac (dr (name:=Str.ofString "__setitem__") a slot_dict_setitem (cg slot_dict_setitem a entry_dict_setitem ?_ (args_dict_setitem _ _ _)))))
 refine ac (dD a ?_);show wpAny _ _ (dictSet d u v >>= _) _ _ s;exact ac (b0 h (fun _ s' q=>ar ⟨.none,rfl,ar q⟩) fun _ _ z=>z)
end
theorem BW.val (r:BW H kvs xs)(k:fM):jx (eW kvs k) (lM xs k):=by
 induction r with
 |nil=>exact True.intro
 |@cons p q ps qs h t ih=>
  obtain⟨h1,_,h2⟩:=h;by_cases e:p.1=k
  ·have b:lM (q::qs) k=some q.2.2:=by simp[lM,bp,h1.symm.trans e]
   rw[gs e,b];exact h2
  ·have a:¬q.1=k:=fun z=>e (h1.trans z);have b:lM (q::qs) k=lM qs k:=by simp[lM,bp,a]
   rw[ge e,b];exact ih
theorem BW.rep (r:BW H kvs xs)(k:fM)(b:eY y v):BW H (kvs.map fun kv=>if kv.1=k then (kv.1,y) else kv) (xs.map (qq k v)):=by
 induction r with
 |nil=>exact .nil
 |@cons p q ps qs h t ih=>
  obtain⟨h1,h2,a⟩:=h;rw[aE,aE];refine .cons ?_ ih;unfold qq;by_cases e:p.1=k
  ·rw[if_pos e,if_pos (h1.symm.trans e)];exact⟨h1,h2,b⟩
  ·rw[if_neg e,if_neg (fun z=>e (h1.trans z))];exact⟨h1,h2,a⟩
theorem BW.put (r:BW H kvs xs)(k:fM){u:Value}(b:wu H k u)(a:eY y v):BW H (fq kvs k y) (qt xs k u v):=by
 unfold fq qt;rw[iR,(r.val k).Kx];by_cases q:(lM xs k).isSome=true
 ·rw[if_pos q,if_pos q];exact r.rep k a
 ·rw[if_neg q,if_neg q];exact Paired.snoc r ⟨rfl,b,a⟩
theorem wu.keeps {k:fM}{u:Value}(x:wu H k u)(a:∀b ys,H b=some (.tup ys)→H' b=some (.tup ys)):wu H' k u:=by
 cases k with
 |none=>exact x
 |some ks=>obtain⟨b,e,d⟩:=x;exact⟨b,e,a _ _ d⟩
def lP (H:Hp):fM→V→Prop
 |none,y=>y=.non
 |some ks,y=>∃b,y=.ref b∧H b=some (.tup (ks.map kV))
theorem lP.rel {k:fM}{u:Value}(x:lP H k y)(r:eY y u):wu H k u:=by
 cases k with
 |none=>rw[show y=V.non from x]at r;exact r
 |some ks=>obtain⟨b,rfl,a⟩:=x;exact⟨b,r,a⟩
theorem uv (ok:lK P w H h)(e:Rd H a (.dN kvs)):kvs.length≤sizeLine∧(a == sysModules)=false∧∃xs,BW H kvs xs∧ou P w h a xs:=by
 obtain⟨z,y,xs,r,o,es,ep,h1,h2,b,d,g⟩:=(show fH P w H h a (.dN kvs) from zV ok e);have all:∀{l:List (fM×V)} {m:List (fM×Value×Value)},BW H l m→∀x∈m,oC P w h x.1 x.2.1:=by
  intro l m q
  induction q with
  |nil=>intro x hx;exact nomatch hx
  |@cons p q ps qs hq t ih=>
   intro x hx;rcases am.mp hx with e | hx
   ·subst e;rw[←hq.1];exact oP ok hq.2.1
   ·exact ih x hx
 exact⟨z,y,xs,r,o,es,ep,h1,h2,b,d,all r,g⟩
def iy (H:Hp)(a:Addr)(y:V)(r:Option V):Prop:=∃kvs k,Rd H a (.dN kvs)∧lP H k y∧r=eW kvs k
def lD (H:Hp)(a:Addr)(y v:V)(H':Hp):Prop:=∃kvs k,H a=some (.dN kvs)∧lP H k y∧kvs.length<sizeLine∧H'=upd H a (.dN (fq kvs k v))
theorem iy.of {k:fM}(e:H a=some (.dN kvs))(hk:lP H k y):iy H a y (eW kvs k):=⟨kvs,k,.inl e,hk,rfl⟩
theorem lD.of {k:fM}{v:V}(e:H a=some (.dN kvs))(hk:lP H k y)(hl:kvs.length<sizeLine):lD H a y v (upd H a (.dN (fq kvs k v))):=⟨kvs,k,e,hk,hl,rfl⟩
section
variable {v:V}{u r:Value}{o:Option V}
theorem v5 {Q:Option Value→Shared→Prop}(d:A.units<cLine)(I:eU X pins σ H s)(g:iy H a y o)(i:eY y u)(h:∀o' s',eU X pins σ H s'→jx o o'→Q o' s'):wpAny (model X.prog X.w) A (dictGet a u) Q E s:=by
 obtain⟨kvs,k,e,b,rfl⟩:=g;obtain⟨z,l,xs,rel,j⟩:=uv I.hok e;exact Fc d (oP I.hok (b.rel i)) j fun tk=>h _ _ (I.tok tk) (rel.val k)
theorem oU (I:eU X pins σ H s)(g:iy H a y o):s.TypeIs (.ref a) "dict"∧(a == sysModules)=false:=by
 obtain⟨kvs,k,e,h,rfl⟩:=g;obtain⟨z,b,xs,rel,d⟩:=uv I.hok e;exact⟨d.typeIs,b⟩
theorem p9 (j:A.units+1<cLine)(I:eU X pins σ H s)(g:iy H a y (some v))(l:eY y u)(h:∀w' s',eU X pins σ H s'→eY v w'→Q w' s'):wpAny (model X.prog X.w) A (getItem (.ref a) u) Q E s:=by
 refine Do (oU I g).1 (v5 j I g l fun o' s' i d=>?_);obtain⟨w',e,b⟩:=jx.some_of d;exact⟨w',e,h w' s' i b⟩
theorem Hw {Q:Bool→Shared→Prop}(i:A.units+1<cLine)(I:eU X pins σ H s)(g:iy H a y o)(j:eY y u)(h:∀s',eU X pins σ H s'→Q o.isSome s'):wpAny (model X.prog X.w) A (contains (.ref a) u) Q E s:=by
 obtain⟨t,b⟩:=oU I g;refine Hq t b (v5 i I g j fun o' s' e d=>?_);rw[←d.Kx];exact h s' e
theorem p8 {Q:Unit→Shared→Prop}(p:A.units+1<cLine)(I:eU X pins σ H s)(g:lD H a y v H')(i:eY y u)(D:eY v r)(h:∀s',eU X pins σ H' s'→Q () s'):wpAny (model X.prog X.w) A (setItem (.ref a) u r) Q E s:=by
 obtain⟨kvs,k,e,l,G,rfl⟩:=g;obtain⟨z,o,xs,rel,j⟩:=uv I.hok (.inl e);have F:xs.length≤sizeLine:=by rw[←Paired.length rel];exact z
 have hp:(fq kvs k v).length≤sizeLine:=by have:=fQ kvs k v;lia
 refine zu j.typeIs (Fb p (oP I.hok (l.rel i)) j F fun h' tk b x=>h _ ?_);obtain⟨m,es,ep,h1,h2,t,B,_,C⟩:=b;have keep:∀c ys,H c=some (.tup ys)→upd H a (.dN (fq kvs k v)) c=some (.tup ys):=fun c ys d=>by
  rw[ef (fC d e (fun z=>nomatch z))];exact d
 exact jR I (by rw[e];exact True.intro) x ⟨m,h1⟩ ⟨hp,o,_,Paired.Kg (rel.put k (l.rel i) D) fun _ _ q=>⟨q.1,q.2.1.keeps keep,q.2.2⟩,m,es,ep,h1,h2,t,B,C⟩
end
inductive xN (Q:VK)(x:V)(y:V)(H2:Hp):Prop
 |mk (a v:_)(_:x=.ref a)(_:iy H2 a y (some v))(_:Q v H2):xN Q x y H2
def ED (td ty:TE):TE:=fun σ H Q=>td σ H fun x H1=>ty σ H1 fun y H2=>xN Q x y H2
inductive B8 (neg:Bool)(Q:VK)(y:V)(x:V)(H2:Hp):Prop
 |mk (a o:_)(_:x=.ref a)(_:iy H2 a y o)(_:Q (.bl (if neg then !o.isSome else o.isSome)) H2):B8 neg Q y x H2
def Gs (neg:Bool)(ty td:TE):TE:=fun σ H Q=>ty σ H fun y H1=>td σ H1 fun x H2=>B8 neg Q y x H2
inductive xQ (D:mZ)(σ:St)(v:V)(x:V)(y:V)(H3:Hp):Prop
 |mk (a H4:_)(_:x=.ref a)(_:lD H3 a y v H4)(_:D.nx σ H4):xQ D σ v x y H3
def ES (td ty tv:TE):TS:=fun D σ H=>tv σ H fun v H1=>td σ H1 fun x H2=>ty σ H2 fun y H3=>xQ D σ v x y H3
section
variable {o i value:Expr}{pos' tpos:Pos}{td ty tv:TE}
theorem fc (j:X.A.units+1<cLine)(e:PE X o td)(hi:PE X i ty)(r:FT i):PE X (.Subscript o i pos) (ED td ty):=by
 intro pins s σ H Q I h;refine wC PySem.F.slot_dict_getitem.lookup r (fV (e pins s σ H _ I h) ?_);rintro u l ⟨x,H1,p,m,w⟩;refine fV (hi pins l σ H1 _ p w) ?_;rintro E C ⟨y,H2,d,q,a,v,ex,g,z⟩;subst ex;obtain rfl:u=Value.ref a:=m;exact⟨(oU d g).1,p9 j d g q fun B D t b=>⟨v,H2,t,b,z⟩⟩
theorem C2 (p:X.A.units+1<cLine)(hi:PE X i ty)(b:PE X o td):PC X .In i o (Gs false ty td):=by
 intro pins s σ H Q I h;refine fV (hi pins s σ H _ I h) ?_;rintro B d ⟨y,H1,l,m,r⟩;refine fV (b pins d σ H1 _ l r) ?_;rintro u w ⟨x,H2,t,e,a,j,ex,g,v⟩;subst ex;obtain rfl:u=Value.ref a:=e;exact ac (Hw p t g m fun z q=>ar ⟨.bl j.isSome,H2,q,rfl,v⟩)
theorem kU (B:X.A.units+1<cLine)(w:PE X o td)(hi:PE X i ty)(G:PE X value tv)(E:swapsWith value (some (.Subscript o i pos')) pos.line X.env=pure false):PS X (.Assign [.Subscript o i pos'] value pos) (ES td ty tv):=by
 intro pins s σ H D I h;refine wpAny_Assign_Subscript (fV (G pins s σ H _ I h) ?_) E;rintro r z ⟨v,H1,d,t,m⟩;refine fV (w pins z σ H1 _ d m) ?_;rintro u l ⟨x,H2,q,C,J⟩;refine fV (hi pins l σ H2 _ q J) ?_;rintro N M ⟨y,L,e,F,a,j,ex,g,p⟩;subst ex;obtain rfl:u=Value.ref a:=C;exact p8 B e g F t fun K b=>⟨σ,j,b,p⟩
end
def EB:TE:=fun _ H Q=>∀p,H p=none→Q (.ref p) (upd H p (.dN []))
theorem Bp (h:Heap)(hb:sysModules<h.objs.size):fH P w H (h.push {cls:=.type "dict",data:=.dict #[]}) h.objs.size (.dN []):=
 ⟨bo _,beq_eq_false_iff_ne.mpr (Ne.symm (aU hb)),[],.nil,_,#[],0,aP _ rfl,⟨rfl,rfl,rfl⟩,rfl,rfl,bY⟩
theorem mI:PE X (.Dict [] [] pos) EB:=fun pins s σ H Q I h=>
 wpAny_Dict_empty ⟨.ref s.heap.objs.size,_,I.laid (a:=s.heap.objs.size) (o:=.dN []) (t':=s.toks) (fun _ _ q=>aC _ q) (aq _) (Bp s.heap I.big),rfl,h _ (I.hok.fresh (aq _))⟩
def sK (P:Program)(w:World):PySem.KeyKind P w Unit where
 is:=fun _ v=>match v with | .none=>true | _=>false
 hash:=fun _=>W.hashW w.params .none
 inj:=fun _ _ _ _ _=>rfl
 byValue:=fun _ v h=>by cases v <;> first | rfl | (simp at h)
 pyHash:=fun {A E s k v Q} hv h=>by
  cases v <;> first | (simp at hv;done) | skip
  exact W.pyHash_slot (T:="NoneType") rfl PySem.F.slot_NoneType_hash PySem.F.entry_NoneType_hash (PySem.F.args_NoneType_hash_1 _) (beq_builtin_none _) (.inl rfl) (ac (ar (ac (wpAny_mkInt (ar ⟨_,_,rfl,h⟩)))))
 eqBool:=fun {A E s a b u v Q} hu hv h=>by
  cases u <;> first | (simp at hu;done) | skip
  cases v <;> first | (simp at hv;done) | skip
  unfold eqBool
  try with_reducible refine bF ?_
  show wpAny _ _ (if (Value.none == Value.none)=true then _ else _) Q E s;rw[if_pos (show(Value.none == Value.none)=true by simp)];exact ac (ci (ar (by simpa using h)))
 «strs»:=fun k x t v h=>by simp at h
def Ey (tv:TE):TE:=fun σ H Q=>∀p,H p=none→tv σ (upd H p (.dK [])) fun v H2=>H2 p=some (.dK [])∧Q (.ref p) (upd H2 p (.dN [(none,v)]))
def Hc (F:V→Hp→Prop):List (V×V)→Hp→Prop
 |[(.non,y)],H=>F y H
 |_,_=>False
theorem At {F:V→Hp→Prop}{ps:List (V×V)}(h:Hc F ps H):∃y,ps=[(V.non,y)]∧F y H:=by
 cases ps with
 |nil=>exact h.elim
 |cons p t=>
  obtain⟨x,y⟩:=p;cases t with
  |cons _ _=>cases x <;> exact h.elim
  |nil=>
   cases x with
   |non=>exact⟨y,rfl,h⟩
   |_=>exact h.elim
theorem ub {kpos:Pos}{v:Expr}{tv:TE}(R:PE X v tv):PE X (.Dict [some (.Constant .none j kpos)] [v] pos) (Ey tv):=by
 intro pins s σ H Q I q;have hn:=I.hok.fresh (aq s.heap.objs.size);have I1:=I.laid (a:=s.heap.objs.size) (o:=.dK []) (h':=s.heap.push {cls:=.type "dict",data:=.dict #[]}) (t':=s.toks) (fun _ _ q=>aC _ q) (aq _) (qc s.heap I.big);have P:HH X pos [some (.Constant .none j kpos)] [v] [(tC .non,tv)]:=t9 i4 R wJ;generalize hp:s.heap.objs.size=p at *;have q1:=q p hn;have hq:rl [(tC .non,tv)] σ (upd H p (.dK [])) (Hc fun y H2=>H2 p=some (.dK [])∧Q (.ref p) (upd H2 p (.dN [(none,y)]))):=q1;have U:=P pins _ σ _ _ I1 hq;refine wpAny_Dict_walk (knd:=sK X.prog X.w) rfl rfl (by simp) (by show 1≤15;decide) (fV U fun ws s2 r=>?_);obtain⟨ps,H2,D,rel,Y⟩:=r;obtain⟨y,rfl,e,S⟩:=At Y;cases rel with
 |@cons _ b _ _ h1 t1=>
  cases t1;obtain⟨Z,h⟩:=b;cases (show Z=Value.none from h1.1);obtain⟨z,T,N,F,o,es,ep,g1,g2,g3,g4,g5,g6⟩:=qT D.hok e;cases F;have t:es=#[]:=by
   have:=g5.length;rw[List.length_nil,br]at this;exact Array.eq_empty_of_size_eq_zero this
  subst t;rw[hp];refine⟨[((),h)],⟨rfl,rfl,True.intro⟩,⟨o,#[],ep,g1,g2,g3,fun _ O=>by simp at O,.nil,bY⟩,fun h' x hs=>⟨.ref p,upd H2 p (.dN [(none,y)]),?_,rfl,S⟩⟩;obtain⟨o',d,m,B,L,f3,M,K,f6⟩:=x;have g:Pairs (sK X.prog X.w) d.toList [((),h)]:=K;refine jR D (by rw[e];exact True.intro) hs ⟨o',B⟩ ⟨by show 1≤sizeLine;decide,T,[(none,.none,h)],.cons ⟨rfl,rfl,h1.2⟩ .nil,o',d,m,B,L,f3,?_,by simp⟩;generalize J:d.toList=l at g;cases g with
  |@cons e0 _ es0 _ k1 k2 k3=>
   cases k3;obtain⟨k',kk,kh⟩:=M e0 (Array.mem_toList_iff.mp (by rw[J];simp));obtain⟨G,C,E⟩:=e0;have A:C=Value.none:=by
    cases C <;> first | rfl | (simp[sK]at k1)
   subst A;cases (show E=h from k2);have i:G=W.hashW X.w.params .none:=kh;rw[i];rfl
section
variable {kvs:List (gv×V)}{k:gv}{u r:Value}{z:V}
theorem FL (I:eU X pins σ H s)(e:H a=some (.dK kvs))(i:eY (kV k) u)(j:eY z r)(B:kvs.length<sizeLine)(h1:∀v w' s',eW kvs k=some v→eU X pins σ H s'→eY v w'→Q w' s')(h2:eW kvs k=none→∀s',eU X pins σ (upd H a (.dK (fq kvs k z))) s'→Q r s'):wpAny (model X.prog X.w) A (call (.builtin "dict.setdefault") [.ref a,u,r]) Q E s:=by
 obtain⟨y,d,vs,rel,g⟩:=qT I.hok e;refine call_meetsIn PySem.F.slot_dict_setdefault g.typeIs PySem.F.entry_dict_setdefault (PySem.F.args_dict_setdefault_3 _ _ _) (kt_meets_setdefault (fE X.prog X.w) a (mQ i) d r)
  ⟨vs,g,by rw[←rel.length];exact y,fun v p=>?_,fun m h' b h=>?_⟩
 ·have q:=rel.val k;rw[p]at q;cases l:eW kvs k with
  |none=>rw[l]at q;exact q.elim
  |some x=>rw[l]at q;exact h1 x v _ l (I.tok _) q
 ·have q:=rel.val k;rw[m]at q;have l:eW kvs k=none:=by
   cases l:eW kvs k with
   |none=>rfl
   |some x=>rw[l]at q;exact q.elim
  have hp:(fq kvs k z).length≤sizeLine:=by have:=fQ kvs k z;omega
  have t:∃q,h'.get? a=some q:=(by obtain⟨q,_,_,o,_⟩:=b;exact⟨q,o⟩);exact h2 l _ (jR I (by rw[e];exact True.intro) h t (qb hp d (rel.put k j) b))
end
inductive xL (ty:TE)(tx:TE)(σ:St)(Q:VK)(x:V)(H1:Hp):Prop
 |mk (a:_)(_:x=.ref a)(_:HU H1 a)(_:ty σ H1 fun y H2=>tx σ H2 fun z H3=>∃kvs k,H3 a=some (.dK kvs)∧y=kV k∧kvs.length<sizeLine∧(∀v,eW kvs k=some v→Q v H3)∧(eW kvs k=none→Q z (upd H3 a (.dK (fq kvs k z))))):xL ty tx σ Q x H1
def Ez (td ty tx:TE):TE:=fun σ H Q=>td σ H fun x H1=>xL ty tx σ Q x H1
theorem Aj {o f:Expr}{apos cpos:Pos}{td ty tx:TE}(E:PE X o td)(O:PE X e ty)(D:PE X f tx)(m:M2 X o "setdefault" apos e f cpos):PE X (.Call (.Attribute o "setdefault" apos) [e,f] [] cpos) (Ez td ty tx):=by
 intro pins s σ H Q I h;refine dz m.base m.few m.line PySem.F.plainAttrs_dict PySem.F.slot_dict_setdefault PySem.F.type_dict_setdefault (fV (E pins s σ H _ I h) ?_);rintro u L ⟨x,H1,g,M,a,ex,d,w⟩;subst ex;obtain rfl:u=Value.ref a:=M;obtain⟨G,j,_⟩:=vW g d;refine⟨G,j,?_⟩;rw[m.trees];refine Calls.callWith_builtin rfl (Calls.evalArgs_plain (Calls.spliced_cons (fV (O pins L σ H1 _ g w) fun Y t ⟨y,H2,B,N,S⟩=>Calls.spliced_cons (fV (D pins t σ H2 _ B S) fun Z U ⟨z,q,r,i,kvs,k,R,P,K,A,J⟩=>Calls.spliced_nil ?_))));subst P;exact FL r R N i K (fun v T p l b C=>⟨v,q,b,C,A v l⟩) fun l p b=>⟨z,_,b,i,J l⟩
theorem j4 {α β:Type}{F:α→β→Prop}:∀{as:List α} {bs:List β},as.length=bs.length→(∀(i:Nat) x y,as[i]?=some x→bs[i]?=some y→F x y)→Paired F as bs
 |[],[],_,_=>.nil
 |a::as,b::bs,hl,h=>.cons (h 0 a b rfl rfl) (j4 (by simpa using hl) fun i x y hx hy=>h (i+1) x y (by simpa using hx) (by simpa using hy))
 |[],_::_,hl,_=>by simp at hl
 |_::_,[],hl,_=>by simp at hl
theorem vV {k:gv}{u:Value}(h:(fE P w).is k u=true):eY (kV k) u:=by
 rcases gH h with ⟨i,t,rfl,rfl⟩ | ⟨x,t,rfl,rfl⟩
 ·exact⟨t,rfl⟩
 ·exact⟨t,rfl⟩
theorem wb (J:X.calm=true):jr X (.type "list") (fun xs H Q=>∃p kvs,xs=[.ref p]∧H p=some (.dK kvs)∧∀l,H l=none→Q (.ref l) (upd H l (.lst (kvs.map fun kv=>kV kv.1)))):=by
 intro pins s σ H xs us Q I r h;obtain⟨p,kvs,rfl,e,q⟩:=h;obtain⟨u,rfl,C⟩:=jo r;cases (show u=Value.ref p from C);obtain⟨z,hd,vs,rel,F⟩:=qT I.hok e;obtain⟨ep,m⟩:=F.dictAt;have B:=rel.length;refine W.kdl_call (W.kdl_dict (knd:=fE X.prog X.w) (kvs:=vs) (ep:=ep) hd) (I.ok.hd J) m (by rw[←B];exact z) fun h' tk t c D G d=>?_;have E:=I.hok.fresh (aq s.heap.objs.size);refine⟨.ref s.heap.objs.size,_,I.laid (a:=s.heap.objs.size) (o:=.lst (kvs.map fun kv=>kV kv.1)) (t':=tk) (fun b o q=>D b o q) (aq _) ?_,rfl,q _ E⟩;refine⟨by rw[ab];exact z,t.toList,c,?_,by rw[G]⟩;refine j4 (by rw[ab,B,br];exact d.1.symm) fun i x y j A=>?_;rw[bE]at A;obtain⟨k,v,h1,h2⟩:=d.2 i y A;rw[ae]at j;have g:kvs[i]?.map (·.1)=vs[i]?.map (·.1):=by rw[←ae,←ae,rel.keys]
 rw[h1]at g;cases hi:kvs[i]? with
 |none=>rw[hi]at j;cases j
 |some kv=>
  rw[hi]at j g;cases j;have:kv.1=k:=by simpa using g
  show eY (kV kv.1) y;rw[this];exact vV h2
theorem iO.two {y y':Str}{c c':Addr}{n j':Nat}(h1:closureFor scope X.env=pure [(y,c),(y',c')])(h2:X.env.cells.lookup y=some c)(l:X.env.cells.lookup y'=some c')(g:y'≠y)(A:∀z∈scope.names,z.2≠.cell)(B:scope.kind=.function)(J:∀z∈scope.names,z.2=.local→scope.names.lookup z.1=some .local)(E:∀z∈scope.names,z.2=.free→z.1=y∨z.1=y')(I:N'[n]?=some y)(p:N'[n+1]?=some y')(F:N'.length=n+2)(L:X.N[j]?=some y)(s:X.N[j']?=some y')(G:X.env.kindOf y=some .cell)(t:X.env.kindOf y'=some .cell)(H:(relabel scope X.env).names.lookup y=some .cell)(o:(relabel scope X.env).names.lookup y'=some .cell):iO X N' scope [(y,c),(y',c')] n [j,j'] where
 clos:=h1
 cell:=A
 kind:=B
 names:=J
 sub:=fun z d e=>by
  by_cases q:z=y
  ·subst q;rw[aX,beq_self_eq_true]at e;rw[h2];exact e
  ·have b:(z == y)=false:=beq_false_of_ne q;by_cases q':z=y'
   ·subst q';rw[aX,b,aX,beq_self_eq_true]at e;rw[l];exact e
   ·have b':(z == y')=false:=beq_false_of_ne q';rw[aX,b,aX,b']at e;simp at e
 has:=fun z h=>by
  have mem:∃k,(k=NameKind.cell∨k=NameKind.free)∧(z,k)∈(relabel scope X.env).names:=by
   rcases h with h | h
   ·exact⟨_,.inl rfl,bt h⟩
   ·exact⟨_,.inr rfl,bt h⟩
  obtain⟨k,m,K⟩:=mem;obtain⟨⟨a,v⟩,x,e⟩:=av.mp (show(z,k)∈scope.names.map _ from K);have D:z=y∨z=y':=by
   by_cases hfree:v=.free
   ·have C:z=a:=by
     dsimp only at e
     split at e
     ·exact(Prod.mk.inj e).1.symm
     ·exact(Prod.mk.inj e).1.symm
    rw[C];exact E _ x hfree
   ·have b:(v == NameKind.free)=false:=by simpa using hfree
    simp only[b,bZ,cf,if_false]at e;have w:=(Prod.mk.inj e).2;rcases m with q | q
    ·exact absurd (w.trans q) (A _ x)
    ·exact absurd (w.trans q) hfree
  rcases D with q | q
  ·subst q;exact⟨c,by rw[aX,beq_self_eq_true]⟩
  ·subst q;have b:(z == y)=false:=beq_false_of_ne g;exact⟨c',by rw[aX,b,aX,beq_self_eq_true]⟩
 len:=by simpa using F
 frees:=fun k i e=>by
  match k,e with
  |0,e=>
   have r:j=i:=by simpa using e
   subst r;exact⟨y,I,L,.inl G,.inl H,by rw[h2,aX,beq_self_eq_true]⟩
  |1,e=>
   have r:j'=i:=by simpa using e
   subst r;have b:(y' == y)=false:=beq_false_of_ne g;exact⟨y',p,s,.inl t,.inl o,by rw[l,aX,b,aX,beq_self_eq_true]⟩
  |k+2,e=>simp at e
end L2
namespace FB
open PySem
def iW:Nat→PyData→Bool
 |_,.none=>true
 |_,.int _=>true
 |_,.str x=>PyData.strOk x
 |k+1,.list xs=>xs.all (iW k)
 |k+1,.tuple xs=>xs.all (iW k)
 |_,_=>false
mutual
def nY:PyData→Nat
 |.list xs=>jf xs+1
 |.tuple xs=>jf xs+1
 |.none=>1
 |.bool _=>1
 |.int _=>1
 |.str _=>1
 |.dict _=>1
def jf:List PyData→Nat
 |[]=>0
 |x::xs=>nY x+jf xs
end
theorem wA:∀d:PyData,1≤nY d
 |.list xs=>by simp[nY]
 |.tuple xs=>by simp[nY]
 |.none=>by simp[nY]
 |.bool _=>by simp[nY]
 |.int _=>by simp[nY]
 |.str _=>by simp[nY]
 |.dict _=>by simp[nY]
theorem iJ:∀xs ys:List PyData,jf (xs++ys)=jf xs+jf ys
 |[],ys=>by simp[jf]
 |x::xs,ys=>by
  rw[cO,jf,jf,iJ xs ys]
  lia
theorem jH:∀xs:List PyData,xs.length≤jf xs
 |[]=>bo _
 |x::xs=>by
  have h1:=wA x;have h2:=jH xs;rw[jf,aA]
  lia
theorem tQ (d:PyData):jf [d]=nY d:=by simp[jf]
theorem ml {α:Type}(f:α→PyData)(k:Nat):∀xs:List α,(∀x∈xs,nY (f x)≤k)→jf (xs.map f)≤xs.length*k
 |[],_=>by simp[jf]
 |x::xs,h=>by
  have h1:=h x (by simp);have h2:=ml f k xs fun y hy=>h y (by simp[hy]);rw[aE,jf,aA,Nat.succ_mul]
  lia
theorem wO:∀(k:Nat) (d:PyData),iW k d=true→d.canLay0=true∧d.depth≤k:=by
 intro k
 induction k with
 |zero=>
  intro d h;cases d <;> simp_all [iW,PyData.canLay0,PyData.depth]
 |succ k ih=>
  have all:∀xs:List PyData,xs.all (iW k)=true→PyData.canLayAll0 xs=true∧PyData.depthAll xs≤k:=by
   intro xs
   induction xs with
   |nil=>intro _;exact⟨rfl,bo _⟩
   |cons x xs ihx=>
    intro h;rw[List.all_cons,aD]at h;have h1:=ih x h.1;have h2:=ihx h.2;refine⟨?_,?_⟩
    ·rw[PyData.canLayAll0,h1.1,h2.1];rfl
    ·rw[PyData.depthAll];lia
  intro d h;cases d with
  |list xs=>
   have z:=all xs (by simpa [iW] using h);exact⟨by rw[PyData.canLay0];exact z.1,by rw[PyData.depth];lia⟩
  |tuple xs=>
   have z:=all xs (by simpa [iW] using h);exact⟨by rw[PyData.canLay0];exact z.1,by rw[PyData.depth];lia⟩
  |dict kvs=>simp[iW]at h
  |bool b=>simp[iW]at h
  |none=>simp[PyData.canLay0,PyData.depth]
  |int i=>simp[PyData.canLay0,PyData.depth]
  |str x=>simp_all [iW,PyData.canLay0,PyData.depth]
theorem i5 {k:Nat}{d:PyData}(h:iW k d=true)(a:k≤64):SeqAt.shaped d=true:=by
 have z:=wO k d h;unfold SeqAt.shaped;rw[z.1,cA];exact ao (bw z.2 a)
theorem iT:∀(k:Nat) (d:PyData) (j:Nat),k≤j→iW k d=true→iW j d=true:=by
 intro k
 induction k with
 |zero=>intro d j _ h;cases d <;> cases j <;> simp_all [iW]
 |succ k ih=>
  intro d j b h;obtain⟨i,rfl⟩:∃i,j=i+1:=⟨j-1,by lia⟩;cases d with
  |list xs=>
   rw[iW,bc]at h ⊢;exact fun x a=>ih x i (by lia) (h x a)
  |tuple xs=>
   rw[iW,bc]at h ⊢;exact fun x a=>ih x i (by lia) (h x a)
  |_=>simp_all [iW]
abbrev Nd:=Str×Int×Int
abbrev En:=Str×Int×List Nd
def sP (n:Nd):PyData:=.tuple [.str n.1,.int n.2.1,.int n.2.2]
def zg (e:En):PyData:=.tuple [.str e.1,.int e.2.1,.list (e.2.2.map sP)]
def eX (e:En):Str×Int:=(e.1,e.2.1)
structure fT (x:Str):Prop where
 ok:PyData.strOk x=true
 sh:(reprText x).length≤1000
structure kD (e:En):Prop where
 pt:fT e.1
 nd:∀n∈e.2.2,fT n.1
 few:e.2.2.length≤100
theorem AK {n:Nd}(h:fT n.1):iW 1 (sP n)=true:=by simp[sP,iW,h.ok]
theorem FK {e:En}(h:kD e):iW 3 (zg e)=true:=by
 have z:(e.2.2.map sP).all (iW 1)=true:=by
  rw[bc];intro d a;obtain⟨n,b,rfl⟩:=av.mp a;exact AK (h.nd n b)
 simp[zg,iW,h.pt.ok];simpa using z
theorem EG {es:List En}(h:∀e∈es,kD e):iW 4 (.list (es.map zg))=true:=by
 rw[iW,bc];intro d a;obtain⟨e,b,rfl⟩:=av.mp a;exact FK (h e b)
theorem zj (n:Nd):nY (sP n)=4:=by simp[sP,nY,jf]
theorem Eu {e:En}(h:kD e):nY (zg e)≤500:=by
 have z:=ml sP 4 e.2.2 fun n _=>cE (zj n);have:=h.few;simp only[zg,nY,jf]
 lia
theorem Et {es:List En}(h:∀e∈es,kD e)(a:es.length≤100):nY (.list (es.map zg))≤60000:=by
 have z:=ml zg 500 es fun e b=>Eu (h e b);rw[nY];have:es.length*500≤100*500:=db _ a
 lia
def iI (n:Nd)(e:En):Bool:=decide (e.1=n.1)&&(decide (n.2.1≤e.2.1)&&decide (e.2.1≤n.2.2))
def iM (es:List En)(n:Nd):List Int:=(es.filter (iI n)).map fun e=>e.2.1
theorem ju (es:List En)(n:Nd):(iM es n).length≤es.length:=by
 unfold iM;rw[ab];exact bD _ _
theorem vO (es:List En)(e:En)(n:Nd):iM (es++[e]) n=if iI n e=true then iM es n++[e.2.1] else iM es n:=by
 unfold iM;rw[ce,ay];by_cases h:iI n e=true
 ·rw[if_pos h,aG,if_pos h];rfl
 ·rw[if_neg h,aG,if_neg h];simp
end FB
namespace FB
open PySem L2 PyProof.Rows
variable {H H':Hp}{a p:Addr}{es:List En}{ps:List Addr}{v:V}
def del (H:Hp)(ps:List Addr):Hp:=fun b=>if b∈ps then none else H b
theorem eD {b:Addr}(h:b∉ps):del H ps b=H b:=by unfold del;rw[if_neg h]
theorem fL {b:Addr}(h:b∈ps):del H ps b=none:=by unfold del;rw[if_pos h]
theorem fB (H:Hp)(ps:List Addr):eF (del H ps) H:=fun b o e=>by
 by_cases h:b∈ps
 ·rw[fL h]at e;cases e
 ·rw[eD h]at e;exact e
theorem mR {o:HO}(h:p∈ps):del (upd H p o) ps=del H ps:=by
 funext b
 by_cases hb:b∈ps
 ·rw[fL hb,fL hb]
 ·rw[eD hb,eD hb,ef (fun z=>hb (by rw[z];exact h))]
theorem eF.del (e:eF H H')(ps:List Addr):eF (del H ps) (del H' ps):=fun b o q=>by
 by_cases h:b∈ps
 ·rw[fL h]at q;cases q
 ·rw[eD h]at q ⊢;exact e b o q
theorem eA (h:H p=none)(o:HO):eF H (upd H p o):=fun b u q=>by rw[ef (er q h)];exact q
theorem eF.upd (e:eF H H'){o:HO}(h:H p=none):eF H (upd H' p o):=fun b u q=>by rw[ef (er q h)];exact e b u q
def fR (H:Hp)(v:V)(n:Nd):Prop:=∃q,v=.ref q∧H q=some (.tup [.str n.1,.int n.2.1,.int n.2.2])
def fD (H:Hp)(v:V)(k:Str×Int):Prop:=∃q,v=.ref q∧H q=some (.tup [.str k.1,.int k.2])
def jX (H:Hp)(v:V)(e:En):Prop:=∃q a xs,v=.ref q∧H q=some (.tup [.str e.1,.int e.2.1,.ref a])∧H a=some (.lst xs)∧Paired (fR H) xs e.2.2
def iP (H:Hp)(a:Addr)(es:List En):Prop:=∃xs,H a=some (.lst xs)∧Paired (jX H) xs es
theorem fR.same (e:eF H H'){n:Nd}(h:fR H v n):fR H' v n:=(by obtain⟨q,h1,h2⟩:=h;exact⟨q,h1,e _ _ h2⟩)
theorem fD.same (e:eF H H'){k:Str×Int}(h:fD H v k):fD H' v k:=(by obtain⟨q,h1,h2⟩:=h;exact⟨q,h1,e _ _ h2⟩)
theorem jX.same (e:eF H H'){n:En}(h:jX H v n):jX H' v n:=
 (by obtain⟨q,a,xs,h1,h2,h3,h4⟩:=h;exact⟨q,a,xs,h1,e _ _ h2,e _ _ h3,Paired.Kg h4 fun _ _ z=>fR.same e z⟩)
theorem iP.same (e:eF H H')(h:iP H a es):iP H' a es:=
 (by obtain⟨xs,h1,h2⟩:=h;exact⟨xs,e _ _ h1,Paired.Kg h2 fun _ _ z=>jX.same e z⟩)
theorem fR.rep {n:Nd}(h:fR H v n):kK H v (sP n):=by
 obtain⟨q,rfl,h2⟩:=h;exact .tup h2 (.cons (.str _) (.cons (.int _) (.cons (.int _) .nil)))
def kI (k:Str×Int):PyData:=.tuple [.str k.1,.int k.2]
theorem fD.rep {k:Str×Int}(h:fD H v k):kK H v (kI k):=by
 obtain⟨q,rfl,h2⟩:=h;exact .tup h2 (.cons (.str _) (.cons (.int _) .nil))
theorem jt {H:Hp}{α:Type}{R:V→α→Prop}{f:α→PyData}(h:∀v a,R v a→kK H v (f a)):∀{vs:List V} {as:List α},Paired R vs as→iF H vs (as.map f)
 |_,_,.nil=>.nil
 |_,_,.cons r t=>.cons (h _ _ r) (jt h t)
theorem jX.rep {e:En}(h:jX H v e):kK H v (zg e):=by
 obtain⟨q,a,xs,rfl,h2,d,b⟩:=h;exact .tup h2 (.cons (.str _) (.cons (.int _) (.cons (.lst d (jt (fun _ _ z=>fR.rep z) b)) .nil)))
theorem iP.rep (h:iP H a es):kK H (.ref a) (.list (es.map zg)):=by
 obtain⟨xs,h1,h2⟩:=h;exact .lst h1 (jt (fun _ _ z=>jX.rep z) h2)
theorem qR (H:Hp):∀ns:List Int,iF H (ns.map V.int) (ns.map PyData.int)
 |[]=>.nil
 |n::ns=>.cons (.int n) (qR H ns)
theorem Paired.KA {α β:Type}{F:α→β→Prop}:∀{as:List α} {bs:List β} {i:Nat} {a:α},Paired F as bs→as[i]?=some a→∃b,bs[i]?=some b∧F a b
 |_,_,_,_,.nil,e=>by simp at e
 |_,_,0,_,.cons r _,e=>by simp at e;subst e;exact⟨_,rfl,r⟩
 |_,_,i+1,a,.cons _ t,e=>by
  obtain⟨b,h1,h2⟩:=Paired.KA (i:=i) (a:=a) t (by simpa using e);exact⟨b,by simpa using h1,h2⟩
theorem wf {xs:List V}{i:Int}(d:0≤i)(h1:i<(xs.length:Int)):∃v,tJ xs i=some v∧v∈xs:=by
 have a:i.toNat<xs.length:=by omega
 have b:i=((i.toNat:Nat):Int):=by omega
 have q:tJ xs ((i.toNat:Nat):Int)=some xs[i.toNat]:=oW (aj a);rw[←b]at q;exact⟨_,q,List.getElem_mem a⟩
theorem kA {ns:List Int}{i:Int}(a:0≤i)(h1:i<(ns.length:Int)):∃z,tJ (ns.map V.int) i=some (.int z)∧z∈ns:=by
 obtain⟨v,h2,b⟩:=wf (xs:=ns.map V.int) a (by rw[ab];exact h1);obtain⟨z,d,rfl⟩:=av.mp b;exact⟨z,h2,d⟩
def gY (es:List En)(x:Str):List Int:=(es.filter fun e=>decide (e.1=x)).map fun e=>e.2.1
theorem nZ (es:List En)(e:En)(x:Str):gY (es++[e]) x=if e.1=x then gY es x++[e.2.1] else gY es x:=by
 unfold gY;rw[ce,ay];by_cases h:e.1=x
 ·rw[if_pos h,aG,if_pos (ao h)];rfl
 ·rw[if_neg h,aG,if_neg (by simpa using h)];simp
theorem jT (es:List En)(x:Str):(gY es x).length≤es.length:=by
 unfold gY;rw[ab];exact bD _ _
def lH (n:Nd)(z:Int):Bool:=decide (n.2.1≤z)&&decide (z≤n.2.2)
theorem pV (es:List En)(n:Nd):iM es n=(gY es n.1).filter (lH n):=by
 induction es with
 |nil=>rfl
 |cons e es ih=>
  unfold iM gY at ih ⊢;rw[aG,aG];by_cases h:e.1=n.1
  ·rw[if_pos (ao h),aE,aG];have a:iI n e=lH n e.2.1:=by unfold iI lH;rw[ao h,cA]
   rw[a];by_cases hb:lH n e.2.1=true
   ·rw[if_pos hb,if_pos hb,aE,ih]
   ·rw[if_neg hb,if_neg hb,ih]
  ·have a:¬iI n e=true:=by unfold iI;rw[au h];simp
   rw[if_neg a,if_neg (by simpa using h),ih]
theorem Ae {n:Nd}{ms:List Int}(h:ms.Perm (gY es n.1)):(ms.filter (lH n)).Perm (iM es n):=by
 rw[pV];exact h.filter _
def jv (k:Str×Int):List L2.gv:=[Sum.inr k.1,Sum.inl k.2]
theorem qa {k j:Str×Int}(h:jv k=jv j):k=j:=by
 obtain⟨a,b⟩:=k;obtain⟨c,d⟩:=j;unfold jv at h;injection h with h1 h2
 injection h2 with e g
 injection h1 with h1
 injection e with e
 exact Prod.ext h1 e
theorem nv:¬(("needs" : Str) = "versions"):=by decide +kernel
def j7 (dn dv:Addr):List (Str×V):=fX "versions" (.ref dv) (fX "needs" (.ref dn) [])
theorem gJ (a b:Addr):(j7 a b).lookup ("needs" : Str)=some (.ref a):=by
 unfold j7;rw[io,if_neg nv,io,if_pos rfl]
theorem jD (b a:Addr):(j7 b a).lookup ("versions" : Str)=some (.ref a):=by
 unfold j7;rw[io,if_pos rfl]
theorem qg (b a:Addr){m:Str}(h1:¬m = "versions")(h2:¬m = "needs"):(j7 b a).lookup m=none:=by
 unfold j7;rw[io,if_neg h1,io,if_neg h2]
 all_goals rfl
def mV (H:Hp)(kv:fM×V)(e:En):Prop:=kv.1=some (jv (eX e))∧∃a zs,kv.2=.ref a∧H a=some (.lst zs)∧Paired (fR H) zs e.2.2
def uP (H:Hp)(vk:List (gv×V))(es:List En)(d:Str→Prop):Prop:=
 ∀x:Str,(eW vk (Sum.inr x)=none∧gY es x=[])∨∃l ms,eW vk (Sum.inr x)=some (.ref l)∧H l=some (.lst (List.map V.int ms))∧ms.Perm (gY es x)∧(d x→ms.Pairwise (· ≥ ·))
inductive uY (C:Addr)(H:Hp)(p st:Addr)(es:List En):Prop
 |mk (dx dn dv nks vk:_)(_:H p=some (.ins C dx (j7 dn dv)))(_:Rd H dn (.dN ((none,.ref st)::nks)))(_:Paired (mV H) nks es)(_:Rd H dv (.dK vk))(_:uP H vk es fun _=>True):uY C H p st es
structure gm (C:Addr)(H:Hp)(p st:Addr)(es:List En):Prop where
 ex:uY C H p st es
theorem mV.same (e:eF H H'){kv:fM×V}{n:En}(h:mV H kv n):mV H' kv n:=
 (by obtain⟨h1,a,zs,h2,h3,h4⟩:=h;exact⟨h1,a,zs,h2,e _ _ h3,Paired.Kg h4 fun _ _ z=>fR.same e z⟩)
theorem uP.same (e:eF H H'){vk:List (gv×V)}{d:Str→Prop}(h:uP H vk es d):uP H' vk es d:=fun x=>by
 rcases h x with z | ⟨l,ms,h1,h2,h3,h4⟩
 ·exact .inl z
 ·exact .inr ⟨l,ms,h1,e _ _ h2,h3,h4⟩
theorem ie (e:eF H H'){u:HO}(h:Rd H a u):Rd H' a u:=h.imp (e _ _) (by rintro⟨o,z⟩;exact⟨o,e _ _ z⟩)
theorem gm.same {C:Addr}(e:eF H H'){st:Addr}(h:gm C H p st es):gm C H' p st es:=by
 obtain⟨dx,b,g,a,vk,h1,h2,j,d,i⟩:=h.ex;exact⟨dx,b,g,a,vk,e _ _ h1,ie e h2,Paired.Kg j fun _ _ z=>mV.same e z,ie e d,i.same e⟩
theorem ri {H:Hp}:∀{nks:List (fM×V)} {es:List En},Paired (mV H) nks es→∀k:Str×Int,(k∉es.map eX∧eW nks (some (jv k))=none)∨∃e∈es,eX e=k∧∃a zs,eW nks (some (jv k))=some (.ref a)∧H a=some (.lst zs)∧Paired (fR H) zs e.2.2
 |_,_,.nil,k=>.inl ⟨by simp,rfl⟩
 |_,_,.cons (a:=kv) (b:=e) r t,k=>by
  obtain⟨h1,a,zs,h2,h3,h4⟩:=r;by_cases hk:eX e=k
  ·refine .inr ⟨e,by simp,hk,a,zs,?_,h3,h4⟩;rw[gs (by rw[h1,hk]),h2]
  ·have hn:¬kv.1=some (jv k):=by
    rw[h1];exact fun z=>hk (qa (Option.some.inj z))
   rw[ge hn];rcases ri t k with ⟨i,g⟩ | ⟨h,d,z⟩
   ·refine .inl ⟨?_,g⟩;rw[aE,am];exact fun y=>y.elim (fun q=>hk q.symm) i
   ·exact .inr ⟨h,by simp[d],z⟩
end FB
namespace L2
open PySem PySem.Spec PyProof.Rows
variable {X:Cx}{pos:Pos}
section
variable {pins:List (Addr×Obj)}{σ:St}{H:Hp}{s:Shared}{h':Heap}
theorem eU.KB {t':Nat}{ch:List Addr}(I:eU X pins σ H s)(d:∀b∈ch,jG X pins H b)(k:∀b o,b∉ch→s.heap.get? b=some o→h'.get? b=some o):eU X pins σ H {s with heap:=h',toks:=t'}:=by
 refine I.step (g':=s.gens) (d':=s.drawn) (ch:=ch) (fun b i=>?_) (fun b o _ _ a e _=>k b o a e) (fun b o _ _ a e _=>⟨o.slots,k b o a e⟩) (fun _ _ _ _ n=>n)
  (fun b o a e=>⟨o,k b o a e⟩) (fun _ _ e=>e) (fun _ _ _ e=>e) (fun b ps e=>⟨#[],by rw[e];simp⟩) (fun m j=>?_) (fun b u e=>?_) I.bare
 ·obtain⟨w,p,x,t,l,h⟩:=d b i;exact⟨t,p,l,h⟩
 ·obtain⟨o,es,ep,g,r⟩:=j;exact⟨o,es,ep,k _ o (fun z=>(d _ z).2.1 rfl) g,r⟩
 ·have out:∀c v,H c=some v→c∉ch:=fun c v q z=>by rw[(d c z).1]at q;cases q
  refine(I.hok b u e).Kh (fun c v a q=>k c v ?_ q) (fun _ q=>q) fun _ _ q=>q;rcases a with z | z
  ·rw[z];exact out b u e
  ·exact out c _ z
end
def Gf (K:W.Frag)(a:Addr):It:=
 ⟨fun i H=>∃xs x,fb K H a xs∧xs[i]?=some x,fun i H x H'=>∃t y,H t=none∧x=.ref t∧H'=upd H t (.tup [.int i,y])∧∀xs,fb K H a xs→xs[i]?=some y,fun i H=>∃xs,fb K H a xs∧xs.length≤i⟩
theorem xU {P:Program}{w:World}{K:W.Frag}{elts:List Expr}{k:Nat}(a e it:Addr)(al:e≠it):tK P w K (.Tuple elts k pos) (Gf K a) [e,it] e (fun i h=>(∃old,IsEnum h e it i old)∧h.IsListIter it a i) where
 mem:=by simp
 obj:=fun i h st b l=>by
  obtain⟨⟨old,j⟩,o,e1,c,d⟩:=st;rcases am.mp l with z | z
  ·subst z
   exact⟨_,j,fun v z=>by
    have z':Data.fields _=Data.cell v:=z
    cases z'⟩
  ·rw[ai.mp z];exact⟨o,e1,fun v z=>by rw[d]at z;cases z⟩
 keep:=fun i h h' st G=>⟨(by obtain⟨old,j⟩:=st.1;exact⟨old,G e (by simp) _ j⟩),st.2.at fun o z=>G it (by simp) o z⟩
 item:=by
  intro X B Q hK Y i pins s σ H E I M st Z;subst B Q hK;obtain⟨xs,x,L,S⟩:=Z;obtain⟨g,rv,p,hz⟩:=I.list L;obtain⟨u,hu,ru⟩:=rv.get S;obtain⟨⟨old,j⟩,m⟩:=st;have J:s.heap.IsList a g.toArray:=p.isList;have ag:a≠e:=fun z=>by
   obtain⟨o,h1,h2,_⟩:=J;rw[z,j]at h1;cases h1;exact absurd h2 (show ¬(Value.type "enumerate" = Value.type "list") by decide)
  have U:a≠it:=fun z=>by
   obtain⟨o,h1,h2,_⟩:=J;obtain⟨o',g1,g2,_⟩:=m;rw[z,g1]at h1;cases h1;rw[g2]at h2;exact absurd h2 (by decide)
  have hi:i<g.toArray.size:=by
   have:=(af.mp hu).1;simpa using this
  have W:=WalksT.enumerate (prog:=X.prog) (w:=X.w) (A:=X.A) (I.ok.hd Y) e it a al ag U g.toArray;refine W.item i s _ _ hi ⟨⟨old,j⟩,m,J⟩ fun T ap h' tk B hT r hM G=>⟨.ref T,rfl,W.go elts k pos i T _ _ _ hM fun aa C D=>?_⟩;have ad:s.heap.get? T=none:=bj hT;have q:H T=none:=I.hok.fresh hT;have F:T∉[e,it]:=W.apart i T _ hM;have I1:eU X pins σ H {s with heap:=aa,toks:=tk}:=I.KB (ch:=[e,it]) M fun b o l z=>D b o l (G b o l z);obtain⟨o,ho,an,n,R⟩:=r;have O:=D T o F ho;obtain⟨t,y,N,rfl⟩:=B;have ah:y=u:=by
   have:g.toArray[i]?=some u:=by simpa using hu
   rw[this]at N;exact(Option.some.inj N).symm
  subst ah;refine⟨.ref T,upd H T (.tup [.int i,x]),I1.adopt (I.Kz ad q) ⟨by show 2≤sizeLine;decide,[.int i t,y],.cons ⟨t,rfl⟩ (.cons ru .nil),o,O,an,n,R⟩,rfl,⟨T,x,q,rfl,rfl,fun ys N=>by rw[I.Kp N L];exact S⟩,⟨C.1,C.2.1⟩,fun b l=>?_⟩;rw[ef (show b≠T from fun z=>F (by rw[←z];exact l))];exact(M b l).1
 done:=by
  intro X B Q hK Y i pins s σ H E I M st Z;subst B Q hK;obtain⟨xs,L,S⟩:=Z;obtain⟨g,rv,p,hz⟩:=I.list L;obtain⟨⟨old,j⟩,m⟩:=st;have J:=rv.length;obtain⟨f0,f1,f2,f3,f4,f5⟩:=M it (by simp);exact wpAny_pyNext_enum_end (I.ok.hd Y) j m p.isList (by simp;omega) fun h' eb=>⟨rfl,I.turned (t':=s.toks) (fun b o l e=>eb b o l e) f0 f1 f3 f4 f5⟩
 self:=fun _ _ _ _ _ st h=>(by obtain⟨_,j⟩:=st.1;exact wpAny_pyIter_enum j h)
def Ht (K:W.Frag)(tl:TE):TI:=fun σ H R=>tl σ H fun x H1=>∃a xs,x=.ref a∧H1 a=some (.lst xs)∧R (Gf K a) H1
theorem CU {elts:List Expr}{k:Nat}{tpos p:Pos}{l:Expr}{tl:TE}(v:Gl X "enumerate")(E:X.mg "enumerate" = none)(D:PE X l tl)(hs:starEach [l] X.env=[(false,eval l X.env)]:=by rfl):PI X (.Tuple elts k tpos) (.Call (.Name "enumerate" p) [l] [] pos) (Ht X.K tl):=by
 intro pins s σ H R I h;refine bI (jA I v E PyProof.Rows.boot_enumerate ?_ (by decide) (by decide));refine PyProof.Rows.callWith_type1 ?_ hs rfl;have B:=(dZ D el hs) pos pins s σ H (fun vs H1=>match vs with | [x]=>(∃a xs,x=.ref a∧H1 a=some (.lst xs)∧R (Gf X.K a) H1) | _=>False) I h;refine fV B ?_;rintro us s1 ⟨vs,H1,d,r,m⟩
 match vs,r,m with
 |[x],r,⟨a,xs,e2,hS,q⟩=>
  subst e2;obtain⟨u,rfl,o⟩:=jo r;cases (show u=Value.ref a from o);obtain⟨J,A,n,G,e⟩:=(show fH X.prog X.w H1 s1.heap a (.lst xs) from d.hok a _ hS);refine call_enumerate_1 e fun h' i g C y=>?_;refine wpAny_pyIter_enum (s:={s1 with heap:=h'}) i ?_;have j:s1.heap.get? s1.heap.objs.size=none:=bj (aq _);have F:s1.heap.get? (s1.heap.objs.size+1)=none:=bj (dB _);refine⟨s1.heap.objs.size+1,[s1.heap.objs.size+1,s1.heap.objs.size],_,_,H1,rfl,d.kept (t':=s1.toks) y,xU a _ _ (Nat.succ_ne_self _),⟨⟨_,i⟩,g⟩,fun b t=>?_,q⟩;rcases am.mp t with z | z
  ·subst z;exact d.Kz F (d.hok.fresh (dB _))
  ·rw[ai.mp z];exact d.Kz j (d.hok.fresh (aq _))
theorem Bm {K:W.Frag}{a:Addr}{xs:List V}{g:TG}{tb:TS}{D:mZ}{σ:St}{H:Hp}(b:Nat→St→Hp→Prop)(l:b 0 σ H)(h:∀i σ H,i≤xs.length→b i σ H→fb K H a xs)(o:∀i x σ H t,xs[i]?=some x→b i σ H→H t=none→g (.ref t) σ (upd H t (.tup [.int (i:Nat),x])) fun σ2 H2=>tb {D with nx:=b (i+1),ct:=b (i+1),bk:=D.nx} σ2 H2)(e:∀σ H,b xs.length σ H→D.nx σ H):∃W:Nat→Nat→St→Hp→Prop,(∃m,W 0 m σ H)∧∀i m σ H,W i m σ H→((Gf K a).stop i H∧D.nx σ H)∨((Gf K a).go i H∧∃N:St→Hp→Prop,(∀σ' H',N σ' H'→∃m',m'<m∧W (i+1) m' σ' H')∧∀x H',(Gf K a).yld i H x H'→g x σ H' fun σ2 H2=>tb {D with nx:=N,ct:=N,bk:=D.nx} σ2 H2):=by
 refine⟨fun i m σ H=>m=xs.length-i∧i≤xs.length∧b i σ H,⟨xs.length,by simp,bo _,l⟩,?_⟩;rintro i m σ H ⟨rfl,hi,p⟩;have q:=h i σ H hi p;rcases dm i xs.length with d | hge
 ·refine .inr ⟨⟨xs,xs[i],q,by simp[d]⟩,b (i+1),fun σ' H' r=>⟨xs.length-(i+1),by omega,rfl,d,r⟩,fun x H' y=>?_⟩;obtain⟨t,z,j,rfl,rfl,y⟩:=y;exact o i z σ _ t (y xs q) p j
 ·obtain rfl:i=xs.length:=Nat.le_antisymm hi hge;exact .inl ⟨⟨xs,q,aq _⟩,e σ H p⟩
section
variable {k:Nat}{x:Str}{p:Pos}{e:Expr}{es:List Expr}{t:TA}{i:Nat}
end
section
variable {P:Program}{w:World}{A:Around}{R:Result→Shared→Prop}{S it l:Addr}{items:Array Value}{ks:List (gv×Value)}
end
end L2
namespace FB
open PySem L2 PyProof.Rows
variable {H:Hp}
abbrev Pk:=Str×Int
def lV (H:Hp)(a:Addr)(ps:List Pk):Prop:=∃xs,H a=some (.lst xs)∧Paired (fD H) xs ps
def gC (H:Hp)(a:Addr)(ns:List Nd):Prop:=∃zs,H a=some (.lst zs)∧Paired (fR H) zs ns
theorem lV.same {H':Hp}(e:eF H H'){a:Addr}{ps:List Pk}(h:lV H a ps):lV H' a ps:=(by obtain⟨xs,h1,h2⟩:=h;exact⟨xs,e _ _ h1,Paired.Kg h2 fun _ _ z=>fD.same e z⟩)
theorem gC.same {H':Hp}(e:eF H H'){a:Addr}{ns:List Nd}(h:gC H a ns):gC H' a ns:=(by obtain⟨xs,h1,h2⟩:=h;exact⟨xs,e _ _ h1,Paired.Kg h2 fun _ _ z=>fR.same e z⟩)
def uZ (ps:List Pk):List (gv×V):=ps.map fun k=>(Sum.inr k.1,V.int k.2)
def jm (ps:List Pk)(x:Str):Option Int:=(ps.find? fun k=>decide (k.1=x)).map (·.2)
theorem mn (x:Str):∀ps:List Pk,eW (uZ ps) (Sum.inr x:gv)=(jm ps x).map V.int
 |[]=>rfl
 |k::ps=>by
  have ih:=mn x ps;unfold uZ jm at *;rw[aE];by_cases h:k.1=x
  ·rw[gs (by rw[h]),bp,ao h];rfl
  ·rw[ge (fun z=>h (Sum.inr.inj z)),ih,bp,au h]
theorem qM:∀(ps qs:List Pk),((qs++ps).map (·.1)).Nodup→jV (uZ qs) (uZ ps)=uZ (qs++ps)
 |[],qs,_=>by rw[cq];rfl
 |k::ps,qs,h=>by
  have hv:eW (uZ qs) (Sum.inr k.1:gv)=none:=by
   rw[mn];have:jm qs k.1=none:=by
    unfold jm;rw[dP.mpr]
    ·rfl
    ·intro x b a;rw[ay,bU]at h;exact h.2.2 x.1 (bh b) k.1 (by simp) (aR a)
   rw[this];rfl
  show jV (fq (uZ qs) (Sum.inr k.1) (V.int k.2)) (uZ ps)=_;rw[hZ _ hv];have e:uZ qs++[((Sum.inr k.1:gv),V.int k.2)]=uZ (qs++[k]):=by unfold uZ;rw[ay];rfl
  rw[e,qM ps (qs++[k]) (by rw[bO];exact h),bO];rfl
def FO (ps:List Pk)(n:Nd):Bool:=match jm ps n.1 with
 |none=>false
 |some z=>!(lH n z)
def AZ (ps:List Pk)(n:Nd):Bool:=(jm ps n.1).isNone
def gO (es:List En)(k:Pk):List Nd:=match es.find? fun e=>decide (eX e=k) with
 |some e=>e.2.2
 |none=>[]
def x6 (es:List En)(st:List Nd)(ps:List Pk):List (List Nd):=st::ps.map (gO es)
def BS (p:Nd→Bool)(L:List (List Nd)):Prop:=∀ns∈L,∀m∈ns,p m=false
theorem lh {es:List En}(b:(es.map eX).Nodup){e:En}(d:e∈es):gO es (eX e)=e.2.2:=by
 unfold gO;have:es.find? (fun x=>decide (eX x=eX e))=some e:=by
  induction es with
  |nil=>cases d
  |cons a es ih=>
   rw[aE,aV]at b;rw[bp];rcases am.mp d with z | z
   ·subst z;rw[ao rfl]
   ·have:¬eX a=eX e:=fun y=>b.1 (y▸bh z);rw[au this];exact ih b.2 z
 rw[this]
theorem gm.start {C:Addr}{p st:Addr}{es:List En}(B:gm C H p st es):∃dx dn dv,H p=some (.ins C dx (j7 dn dv))∧iy H dn .non (some (.ref st))∧∀(v:V) (k:Pk),fD H v k→(k∉es.map eX∧iy H dn v none)∨(k∈es.map eX∧∃e∈es,eX e=k∧∃a zs,iy H dn v (some (.ref a))∧H a=some (.lst zs)∧Paired (fR H) zs e.2.2):=by
 obtain⟨dx,dn,dv,l,vk,h1,h2,m,t,w⟩:=B.ex;refine⟨dx,dn,dv,h1,⟨_,none,h2,rfl,by rw[gs rfl]⟩,fun v k s=>?_⟩;obtain⟨q,rfl,r⟩:=s;have i:lP H (some (jv k)) (.ref q):=⟨q,rfl,r⟩;have b:¬((none:fM)=some (jv k)):=by intro z;cases z
 rcases ri m k with ⟨h,g⟩ | ⟨e,j,d,a,zs,h,g,o⟩
 ·exact .inl ⟨h,_,_,h2,i,by rw[ge b,g]⟩
 ·exact .inr ⟨d▸bh j,e,j,d,a,zs,⟨_,_,h2,i,by rw[ge b,h]⟩,g,o⟩
end FB
namespace L2
open PySem PySem.Spec PyProof.Rows
def Jw (K:W.Frag)(a b:Addr):It:=
 ⟨fun i H=>∃xs ys x y,fb K H a xs∧fb K H b ys∧xs[i]?=some x∧ys[i]?=some y,fun i H v H'=>∃t x y,H t=none∧v=.ref t∧H'=upd H t (.tup [x,y])∧(∀xs,fb K H a xs→xs[i]?=some x)∧∀ys,fb K H b ys→ys[i]?=some y,fun i H=>∃xs ys,fb K H a xs∧fb K H b ys∧(xs.length≤i∨ys.length≤i)⟩
theorem qy {h:Heap}{n l1 l2:Addr}{xs ys:Array Value}{f0 a b:Value}{i:Nat}{m1 m2:Addr}(hz:IsZip h (n+4) (n+2) (n+3) f0)(D:IsPair h (n+3) a b)(h1:h.IsListIter n m1 i)(h2:h.IsListIter (n+1) m2 i)(j:h.IsList l1 xs)(g:h.IsList l2 ys):ZipApart (n+4) (n+2) (n+3) n (n+1) l1 l2:=by
 have out:∀{l:Addr} {zs:Array Value},h.IsList l zs→l≠n+4∧l≠n+3∧l≠n∧l≠n+1:=by
  intro l zs t;obtain⟨o,e,g2,_⟩:=t;obtain⟨H,y,F,_⟩:=h1;obtain⟨G,E,r,_⟩:=h2;refine⟨fun z=>?_,fun z=>?_,fun z=>?_,fun z=>?_⟩
  ·rw[z,hz]at e;cases e;exact absurd g2 (show ¬(Value.type "zip" = Value.type "list") by decide)
  ·rw[z,D]at e;cases e;exact absurd g2 (show ¬(Value.type "tuple" = Value.type "list") by decide)
  ·rw[z,y]at e;cases e;rw[F]at g2;exact absurd g2 (by decide)
  ·rw[z,E]at e;cases e;rw[r]at g2;exact absurd g2 (by decide)
 obtain⟨A,B,C,m⟩:=out j;obtain⟨s,w,x,v⟩:=out g;have d:∀(p q:Nat),p≠q→n+p≠n+q:=fun p q h z=>h (Nat.add_left_cancel z);exact⟨d 2 4 (by decide),d 3 4 (by decide),d 0 4 (by decide),d 1 4 (by decide),d 2 3 (by decide),d 2 0 (by decide),d 2 1 (by decide),d 3 0 (by decide),d 3 1 (by decide),d 0 1 (by decide),A,B,C,m,s,w,x,v⟩
theorem zo {P:Program}{w:World}{K:W.Frag}{elts:List Expr}{k:Nat}{pos:Pos}(a b n:Addr):tK P w K (.Tuple elts k pos) (Jw K a b) [n+4,n+2,n+3,n,n+1] (n+4) (fun i h=>IsZip h (n+4) (n+2) (n+3) .none∧IsPair h (n+2) (.ref n) (.ref (n+1))∧(∃a b,IsPair h (n+3) a b)∧h.IsListIter n a i∧h.IsListIter (n+1) b i) where
 mem:=by simp
 obj:=fun i h st c e=>by
  obtain⟨r,g2,⟨_,_,g3⟩,⟨o4,e4,_,d4⟩,⟨o5,e5,_,d5⟩⟩:=st;simp only[am,aJ,or_false]at e;rcases e with rfl | rfl | rfl | rfl | rfl
  ·exact⟨_,r,fun v z=>by have Q:Data.fields _=Data.cell v:=z;cases Q⟩
  ·exact⟨_,g2,fun v z=>by have Q:Data.seq _=Data.cell v:=z;cases Q⟩
  ·exact⟨_,g3,fun v z=>by have Q:Data.seq _=Data.cell v:=z;cases Q⟩
  ·exact⟨o4,e4,fun v z=>by rw[d4]at z;cases z⟩
  ·exact⟨o5,e5,fun v z=>by rw[d5]at z;cases z⟩
 keep:=fun i h h' st q=>by
  obtain⟨r,g2,⟨x,y,g3⟩,C,J⟩:=st;exact⟨q _ (by simp) _ r,q _ (by simp) _ g2,⟨x,y,q _ (by simp) _ g3⟩,C.at fun o z=>q n (by simp) o z,J.at fun o z=>q (n+1) (by simp) o z⟩
 item:=by
  intro X O hw hK e i pins s σ H E I hf st hg;subst O hw hK;obtain⟨xs,ys,x,y,Z,hr,Y,hy⟩:=hg;obtain⟨g,rv,p,hz⟩:=I.list Z;obtain⟨d,F,p2,ad⟩:=I.list hr;obtain⟨u,hu,ru⟩:=rv.get Y;obtain⟨v,hv,an⟩:=F.get hy;obtain⟨r,g2,⟨c1,c2,g3⟩,C,J⟩:=st;have N:s.heap.IsList a g.toArray:=p.isList;have l:s.heap.IsList b d.toArray:=p2.isList;have D:=qy r g3 C J N l;have W:=WalksT.zip2 (prog:=X.prog) (w:=X.w) (A:=X.A) (I.ok.hd e) _ _ _ _ _ a b D g.toArray d.toArray;have i1:i<g.toArray.size:=by have:=(af.mp hu).1;simpa using this
  have i2:i<d.toArray.size:=by have:=(af.mp hv).1;simpa using this
  refine W.item i s _ _ (by lia) ⟨r,g2,⟨c1,c2,g3⟩,C,J,N,l⟩ fun T a1 h' tk O hT M hM q=>⟨.ref T,rfl,W.go elts k pos i T _ _ _ hM fun al ap U=>?_⟩;have G:s.heap.get? T=none:=bj hT;have L:H T=none:=I.hok.fresh hT;have j:T∉[n+4,n+3,n,n+1]:=W.apart i T _ hM;have ah:T≠n+2:=fun z=>by rw[z,g2]at G;cases G
  have B:∀c∈[n+4,n+3,n,n+1],jG X pins H c:=fun c e=>hf c (by simp only[am,aJ,or_false]at e ⊢;rcases e with z | z | z | z <;> simp[z])
  have I1:eU X pins σ H {s with heap:=al,toks:=tk}:=I.KB (ch:=[n+4,n+3,n,n+1]) B fun b o t z=>U b o t (q b o t z);obtain⟨o,ho,a0,m,ag⟩:=M;have aa:=U T o j ho;obtain⟨u',v',S,R,rfl⟩:=O;have e1:u'=u:=by
   have:g.toArray[i]?=some u:=by simpa using hu
   rw[this]at S;exact(Option.some.inj S).symm
  have e2:v'=v:=by
   have:d.toArray[i]?=some v:=by simpa using hv
   rw[this]at R;exact(Option.some.inj R).symm
  subst e1 e2;obtain⟨t1,t2,t3,t4,t5,_⟩:=ap;refine⟨.ref T,upd H T (.tup [x,y]),I1.adopt (I.Kz G L) ⟨by show 2≤sizeLine;decide,[u',v'],.cons ru (.cons an .nil),o,aa,a0,m,ag⟩,rfl,⟨T,x,y,L,rfl,rfl,fun zs hy=>by rw[I.Kp hy Z];exact Y,fun zs as=>by rw[I.Kp as hr];exact hy⟩,⟨t1,t2,t3,t4,t5⟩,fun c e=>?_⟩;have:c≠T:=fun z=>by
   subst z;simp only[am,aJ,or_false]at e j;rcases e with z | z | z | z | z
   ·exact j (.inl z)
   ·exact ah z
   ·exact j (.inr (.inl z))
   ·exact j (.inr (.inr (.inl z)))
   ·exact j (.inr (.inr (.inr z)))
  rw[ef this];exact(hf c e).1
 done:=by
  intro X O hw hK e i pins s σ H E I hf st hg;subst O hw hK;obtain⟨xs,ys,Z,hr,Y⟩:=hg;obtain⟨g,rv,p,hz⟩:=I.list Z;obtain⟨d,F,p2,ad⟩:=I.list hr;obtain⟨r,g2,⟨c1,c2,g3⟩,C,J⟩:=st;have N:s.heap.IsList a g.toArray:=p.isList;have l:s.heap.IsList b d.toArray:=p2.isList;have l1:=rv.length;have l2:=F.length;have B:∀c∈[n+4,n+3,n,n+1],jG X pins H c:=fun c e=>hf c (by simp only[am,aJ,or_false]at e ⊢;rcases e with z | z | z | z <;> simp[z])
  refine wpAny_pyNext_zip_end (I.ok.hd e) (qy r g3 C J N l) r g2 g3 C J N l ?_ fun h' q=>⟨rfl,I.KB (t':=s.toks) (ch:=[n+4,n+3,n,n+1]) B fun b o t z=>?_⟩
  ·rcases Y with z | z
   ·left;simp;lia
   ·right;simp;lia
  ·simp only[am,aJ,or_false,not_or]at t;exact q b o t.1 t.2.1 t.2.2.1 t.2.2.2 z
 self:=fun _ _ _ _ _ st h=>wpAny_pyIter_zip st.1 h
def Ji (K:W.Frag)(tl tm:TE):TI:=fun σ H R=>tl σ H fun x H1=>tm σ H1 fun y H2=>∃a b xs ys,x=.ref a∧y=.ref b∧H2 a=some (.lst xs)∧H2 b=some (.lst ys)∧R (Jw K a b) H2
theorem EW {X:Cx}{elts:List Expr}{k:Nat}{tpos p pos:Pos}{l m:Expr}{tl tm:TE}(E:Gl X "zip")(S:X.mg "zip" = none)(O:PE X l tl)(F:PE X m tm)(hs1:starEach [m] X.env=[(false,eval m X.env)]:=by rfl)(hs:starEach [l,m] X.env=[(false,eval l X.env),(false,eval m X.env)]:=by rfl):PI X (.Tuple elts k tpos) (.Call (.Name "zip" p) [l,m] [] pos) (Ji X.K tl tm):=by
 intro pins s σ H R I h;refine bI (jA I E S PyProof.Rows.boot_zip ?_ (by decide) (by decide));refine PyProof.Rows.callWith_type1 ?_ (by rw[hs,hs1]) (by rw[hs1];rfl);have J:=(dZ O (dZ F el hs1) (by rw[hs,hs1])) pos pins s σ H (fun vs H1=>match vs with | [x,y]=>(∃a b xs ys,x=.ref a∧y=.ref b∧H1 a=some (.lst xs)∧H1 b=some (.lst ys)∧R (Jw X.K a b) H1) | _=>False) I h;refine fV J ?_;rintro us s1 ⟨vs,H1,d,r,C⟩
 match vs,r,C with
 |[x,y],r,⟨a,b,xs,ys,e1,e2,hS,hT,q⟩=>
  subst e1 e2;obtain⟨u,v,rfl,D,Q⟩:=tS r;cases (show u=Value.ref a from D);cases (show v=Value.ref b from Q);obtain⟨Y,o,n,U,t⟩:=(show fH X.prog X.w H1 s1.heap a (.lst xs) from d.hok a _ hS);obtain⟨M,i,n2,P,g⟩:=(show fH X.prog X.w H1 s1.heap b (.lst ys) from d.hok b _ hT);refine call_zip_2 (xs:=o.toArray) (ys:=i.toArray) ⟨_,t,rfl,_,rfl⟩ ⟨_,g,rfl,_,rfl⟩ fun h' A g2 g3 N T L G=>?_;refine wpAny_pyIter_zip (s:={s1 with heap:=h'}) A ?_;have e:∀j,s1.heap.get? (s1.heap.objs.size+j)=none:=fun j=>bj (dj _ _);refine⟨s1.heap.objs.size+4,[s1.heap.objs.size+4,s1.heap.objs.size+2,s1.heap.objs.size+3,s1.heap.objs.size,s1.heap.objs.size+1],_,_,H1,rfl,d.kept (t':=s1.toks) G,zo a b s1.heap.objs.size,⟨A,g2,⟨_,_,g3⟩,N,T⟩,fun c B=>?_,q⟩;have Z:∀j,jG X pins H1 (s1.heap.objs.size+j)→True:=fun _ _=>trivial;simp only[am,aJ,or_false]at B;rcases B with z | z | z | z | z
  ·subst z;exact d.Kz (e 4) (d.hok.fresh (dj _ _))
  ·subst z;exact d.Kz (e 2) (d.hok.fresh (dj _ _))
  ·subst z;exact d.Kz (e 3) (d.hok.fresh (dj _ _))
  ·subst z;exact d.Kz (e 0) (d.hok.fresh (aq _))
  ·subst z;exact d.Kz (e 1) (d.hok.fresh (dj _ _))
end L2
namespace FB
open PySem L2 PyProof.Rows
variable {H H':Hp}{a:Addr}{i:Int}{l:Ln}{ls:List Ln}{v:V}
inductive uQ where
 |one (k:Pk)
 |many (bs:List Int)
structure Rs where
 who:Option Pk
 place:Int
 told:uQ
abbrev Ln:=List Pk×Rs
def ng:uQ→Str
 |.one _=>"outside"
 |.many _=>"open"
def gB (H:Hp)(v:V):Option Pk→Prop
 |none=>v=.non
 |some k=>fD H v k
def kB (H:Hp)(v:V):uQ→Prop
 |.one k=>fD H v k
 |.many bs=>∃a,v=.ref a∧H a=some (.lst (bs.map V.int))
def mi (H:Hp)(v:V)(r:Rs):Prop:=∃q wv tv,v=.ref q∧H q=some (.tup [.str (ng r.told),wv,.int r.place,tv])∧gB H wv r.who∧kB H tv r.told
def qk (H:Hp)(v:V)(l:Ln):Prop:=∃q a rv,v=.ref q∧H q=some (.tup [.ref a,rv])∧lV H a l.1∧mi H rv l.2
def lC (H:Hp)(a:Addr)(ls:List Ln):Prop:=∃xs,H a=some (.lst xs)∧Paired (qk H) xs ls
theorem gB.same (e:eF H H'):∀{o:Option Pk},gB H v o→gB H' v o
 |none,h=>h
 |some _,h=>fD.same e h
theorem kB.same (e:eF H H'):∀{t:uQ},kB H v t→kB H' v t
 |.one _,h=>fD.same e h
 |.many _,⟨a,h1,h2⟩=>⟨a,h1,e _ _ h2⟩
theorem mi.same (e:eF H H'){r:Rs}(h:mi H v r):mi H' v r:=
 (by obtain⟨q,wv,tv,h1,h2,h3,h4⟩:=h;exact⟨q,wv,tv,h1,e _ _ h2,h3.same e,h4.same e⟩)
theorem qk.same (e:eF H H')(h:qk H v l):qk H' v l:=
 (by obtain⟨q,a,rv,h1,h2,h3,h4⟩:=h;exact⟨q,a,rv,h1,e _ _ h2,h3.same e,h4.same e⟩)
theorem lC.same (e:eF H H')(h:lC H a ls):lC H' a ls:=
 (by obtain⟨xs,h1,h2⟩:=h;exact⟨xs,e _ _ h1,Paired.Kg h2 fun _ _ z=>qk.same e z⟩)
def Er:Option Pk→PyData
 |none=>.none
 |some k=>kI k
def zr:uQ→PyData
 |.one k=>kI k
 |.many bs=>.list (bs.map PyData.int)
def Ig (r:Rs):PyData:=.tuple [.str (ng r.told),Er r.who,.int r.place,zr r.told]
def Fh (l:Ln):PyData:=.tuple [.list (l.1.map kI),Ig l.2]
theorem lV.rep {ps:List Pk}(h:lV H a ps):kK H (.ref a) (.list (ps.map kI)):=
 (by obtain⟨_,h1,h2⟩:=h;exact .lst h1 (jt (fun _ _ z=>fD.rep z) h2))
theorem gC.rep {ps:List Nd}(h:gC H a ps):kK H (.ref a) (.list (ps.map sP)):=
 (by obtain⟨_,h1,h2⟩:=h;exact .lst h1 (jt (fun _ _ z=>fR.rep z) h2))
theorem gB.rep:∀{o:Option Pk},gB H v o→kK H v (Er o)
 |none,h=>by cases (show v=.non from h);exact .non
 |some _,h=>fD.rep h
theorem kB.rep:∀{t:uQ},kB H v t→kK H v (zr t)
 |.one _,h=>fD.rep h
 |.many _,⟨a,h1,h2⟩=>by subst h1;exact .lst h2 (qR H _)
theorem mi.rep {r:Rs}(h:mi H v r):kK H v (Ig r):=by
 obtain⟨q,d,tv,rfl,h2,a,b⟩:=h;exact .tup h2 (.cons (.str _) (.cons a.rep (.cons (.int _) (.cons b.rep .nil))))
theorem qk.rep (h:qk H v l):kK H v (Fh l):=by
 obtain⟨q,a,e,rfl,h2,b,d⟩:=h;exact .tup h2 (.cons b.rep (.cons d.rep .nil))
theorem lC.rep (h:lC H a ls):kK H (.ref a) (.list (ls.map Fh)):=
 (by obtain⟨_,h1,h2⟩:=h;exact .lst h1 (jt (fun _ _ z=>qk.rep z) h2))
structure BT (l:Ln):Prop where
 len:l.1.length≤20000
 pk:∀p∈l.1,fT p.1
 who:∀k,l.2.who=some k→fT k.1
 one:∀k,l.2.told=.one k→fT k.1
 many:∀bs,l.2.told=.many bs→bs.length≤100
theorem ua {k:Pk}(h:fT k.1):iW 1 (kI k)=true:=by simp[kI,iW,h.ok]
theorem Dp (k:Nat)(bs:List Int):iW (k+1) (.list (bs.map PyData.int))=true:=by
 rw[iW,bc];intro d a;obtain⟨b,e,rfl⟩:=av.mp a;cases k <;> rfl
theorem Ho (h:BT l):iW 4 (Fh l)=true:=by
 obtain⟨ps,⟨who,b,a⟩⟩:=l;have h1:iW 3 (.list (ps.map kI))=true:=by
  rw[iW,bc];intro d g;obtain⟨k,i,rfl⟩:=av.mp g;exact iT 1 _ 2 (by decide) (ua (h.pk k i))
 have h2:iW 2 (Er who)=true:=by
  cases who with
  |none=>rfl
  |some k=>exact iT 1 _ 2 (by decide) (ua (h.who k rfl))
 have e:iW 2 (zr a)=true∧PyData.strOk (ng a)=true:=by
  cases a with
  |one k=>exact⟨iT 1 _ 2 (by decide) (ua (h.one k rfl)),by show PyData.strOk "outside" = true;decide +kernel⟩
  |many bs=>exact⟨Dp 1 bs,by show PyData.strOk "open" = true;decide +kernel⟩
 have j:iW 3 (Ig ⟨who,b,a⟩)=true:=by
  rw[Ig,iW];simp only[List.all_cons,List.all_nil,Bool.and_true,aD];refine⟨?_,h2,rfl,e.1⟩;rw[iW];exact e.2
 rw[Fh,iW];simp only[List.all_cons,List.all_nil,Bool.and_true,aD];exact⟨h1,j⟩
theorem Fg (h:∀l∈ls,BT l):iW 10 (.list (ls.map Fh))=true:=by
 rw[iW,bc];intro d a;obtain⟨l,b,rfl⟩:=av.mp a;exact iT 4 _ 9 (by decide) (Ho (h l b))
def iD {α:Type}(xs:List α)(i:Int):Option α:=if 0≤i then xs[i.toNat]? else none
theorem jM {α:Type}{xs:List α}{x:α}(h:iD xs i=some x):tJ xs i=some x:=by
 unfold iD at h;by_cases h0:0≤i
 ·rw[if_pos h0]at h;have:=oW h;rwa[Int.toNat_of_nonneg h0]at this
 ·rw[if_neg h0]at h;cases h
theorem qK {α:Type}{xs:List α}:iD xs i=none↔(i<0∨(xs.length:Int)≤i):=by
 unfold iD;by_cases h0:0≤i
 ·rw[if_pos h0,List.getElem?_eq_none_iff];lia
 ·rw[if_neg h0];exact⟨fun _=>.inl (by lia),fun _=>rfl⟩
theorem i6 {α β:Type}{F:α→β→Prop}{as:List α}{bs:List β}{b:β}(h:Paired F as bs)(d:iD bs i=some b):∃a,iD as i=some a∧F a b:=by
 unfold iD at d ⊢;by_cases h0:0≤i
 ·rw[if_pos h0]at d ⊢;have l:=Paired.length h;have g:i.toNat<bs.length:=(af.mp d).1;have e:as[i.toNat]?=some as[i.toNat]:=aj (by lia);obtain⟨j,h1,h2⟩:=Paired.KA h e;rw[d]at h1;cases h1;exact⟨_,e,h2⟩
 ·rw[if_neg h0]at d;cases d
theorem im {α:Type}(xs:List α)(i:Nat):iD xs (i:Int)=xs[i]?:=by
 unfold iD;rw[if_pos (by lia),bA]
theorem mM {α:Type}{xs:List α}{x:α}(h:iD xs i=some x):x∈xs:=by
 unfold iD at h;by_cases h0:0≤i
 ·rw[if_pos h0]at h;exact ak h
 ·rw[if_neg h0]at h;cases h
def jl (es:List En)(n:Nd):List Int:=(iM es n).mergeSort fun a b=>decide (b≤a)
theorem pA:∀{xs ys:List Int},xs.Pairwise (· ≥ ·)→ys.Pairwise (· ≥ ·)→xs.Perm ys→xs=ys
 |[],ys,_,_,h=>(List.nil_perm.mp h).symm
 |x::xs,[],_,_,h=>absurd h.length_eq (by simp)
 |x::xs,y::ys,hx,hy,h=>by
  rw[List.pairwise_cons]at hx hy;have e:x=y:=by
   have h1:x∈y::ys:=h.subset (bB ..);have h2:y∈x::xs:=h.symm.subset (bB ..);rcases am.mp h1 with z | z
   ·exact z
   ·rcases am.mp h2 with y' | y'
    ·exact y'.symm
    ·have:=hx.1 y y';have:=hy.1 x z;lia
  subst e;rw[pA hx.2 hy.2 ((List.perm_cons x).mp h)]
theorem pU {es:List En}{n:Nd}{ms:List Int}(h:ms.Perm (iM es n))(h2:ms.Pairwise (· ≥ ·)):ms=jl es n:=by
 refine pA h2 ?_ (h.trans (List.mergeSort_perm _ _).symm);have:=List.pairwise_mergeSort (le:=fun a b:Int=>decide (b≤a)) (fun a b c h1 h2=>by simp only[ax]at *;lia) (fun a b=>by simp only[cV,ax];lia) (iM es n);exact this.imp fun h=>aR h
theorem lg (es:List En)(n:Nd):(jl es n).length≤es.length:=by
 unfold jl;rw[(List.mergeSort_perm _ _).length_eq];exact ju es n
def gK (es:List En)(sn:List Nd):Option Pk→List Nd
 |none=>sn
 |some k=>gO es k
def Es (es:List En)(ps:List Pk):Option Pk→Bool
 |none=>true
 |some k=>decide (k∈ps)&&decide (k∈es.map eX)
def qm (n:Nd)(k:Pk):Bool:=decide (k.1=n.1)&&!(lH n k.2)
def uF (ls:List Ln)(spot:Int)(ps:List Pk)(x:Str)(b v:Int):Bool:=decide (0≤b)&&(decide (b<spot)&&match iD ls b with
 |none=>false
 |some l=>l.1.all fun p=>decide (p∈ps)||decide (p=(x,v)))
def kF (es:List En)(ls:List Ln)(spot:Int)(ps:List Pk)(n:Nd)(bs:List Int):Bool:=
 decide (bs.length=(jl es n).length)&&(bs.zip (jl es n)).all fun bv=>uF ls spot ps n.1 bv.1 bv.2
def DI (es:List En)(ls:List Ln)(spot:Int)(ps:List Pk)(n:Nd):uQ→Bool
 |.one k=>decide (k∈ps)&&qm n k
 |.many bs=>kF es ls spot ps n bs
def jj (es:List En)(sn:List Nd)(ls:List Ln)(spot:Int)(l:Ln):Bool:=
 Es es l.1 l.2.who&&match iD (gK es sn l.2.who) l.2.place with
 |none=>false
 |some n=>DI es ls spot l.1 n l.2.told
theorem uf {es:List En}{sn:List Nd}(hok:∀e∈es,kD e)(hsp:∀n∈sn,fT n.1):∀(w:Option Pk) (n:Nd),n∈gK es sn w→fT n.1
 |none,n,h=>hsp n h
 |some k,n,h=>by
  have h':n∈gO es k:=h;unfold gO at h';cases hf:es.find? (fun e=>decide (eX e=k)) with
  |none=>rw[hf]at h';cases h'
  |some e=>rw[hf]at h';exact(hok e (ca hf)).nd n h'
end FB
namespace L2
open PySem PySem.Spec PyProof.Rows
variable {A:Around}{D:mZ}{E Q:Value→Shared→Prop}{H:Hp}{K:W.Frag}{P:Program}{X:Cx}{a d:Addr}{b:SI}{g:TG}{i m:Nat}{kvs:List (fM×V)}{o:Obj}{p:Array Nat}{pins:List (Addr×Obj)}{s:Shared}{tb:TS}{tg:Expr}{w:World}{σ:St}
theorem Ad {α β:Type}{F:α→β→Prop}:∀{as:List α} {bs:List β} {i:Nat} {a:α},Paired F as bs→as[i]?=some a→∃b,bs[i]?=some b∧F a b
 |_,_,_,_,.nil,e=>by simp at e
 |_,_,0,_,.cons r _,e=>by simp at e;subst e;exact⟨_,rfl,r⟩
 |_,_,i+1,a,.cons _ t,e=>by
  obtain⟨b,h1,h2⟩:=Ad (i:=i) (a:=a) t (by simpa using e);exact⟨b,by simpa using h1,h2⟩
def DH:HO→Prop
 |.dK _=>True
 |.dN _=>True
 |_=>False
theorem eU.freeze {u:HO}(I:eU X pins σ H s)(e:H a=some u)(i:DH u):∃o,s.heap.get? a=some o∧eU X pins σ (upd H a (.frz o u)) s:=by
 obtain⟨o,h⟩:=(I.hok a u e).some;have g:∀b v,H b=some v→¬DH v→b≠a:=fun b v q n z=>n (by rw[z,e]at q;cases q;exact i);have own:∀b x,H b=some (.own x)→upd H a (.frz o u) b=some (.own x):=fun b x q=>by rw[ef (g b _ q fun z=>z)];exact q
 have tup:∀b xs,H b=some (.tup xs)→upd H a (.frz o u) b=some (.tup xs):=fun b xs q=>by rw[ef (g b _ q fun z=>z)];exact q
 have J:=I.un (H':=upd H a (.frz o u)) (h':=s.heap) (t':=s.toks) ⟨fun b _ q _ _ _=>q,fun b d q _ _ _=>⟨d.slots,q⟩,fun b d _ n _=>(by rw[ef (fun z=>by rw[z,e]at n;cases n)];exact n),fun b d q _=>⟨d,q⟩,tup,fun b d v q=>(by rw[ef (g b _ q fun z=>z)];exact q),fun b ps q=>⟨#[],by rw[ef (g b _ q fun z=>z),q];simp⟩⟩ (fun b v q=>by
   by_cases hb:b=a
   ·subst hb;rw[d0]at q;cases q;exact⟨h,(I.hok b u e).Kh (fun _ _ _ z=>z) (fun c z=>own c b z) tup⟩
   ·rw[ef hb]at q
    exact(I.hok b v q).Kh (fun _ _ _ z=>z) (fun c z=>own c b z) tup)
 exact⟨o,h,J⟩
inductive HS (Q:VK)(x:V)(H1:Hp):Prop
 |mk (a u:_)(_:x=.ref a)(_:H1 a=some u)(_:DH u)(_:∀o,Q x (upd H1 a (.frz o u))):HS Q x H1
def JU (te:TE):TE:=fun σ H Q=>te σ H fun x H1=>HS Q x H1
theorem Ai {e:Expr}{te:TE}(i:PE X e te):PE X e (JU te):=by
 intro pins s σ H Q I h;refine fV (i pins s σ H _ I h) ?_;rintro v m ⟨x,H1,g,b,a,u,ex,j,d,q⟩;obtain⟨o,_,l⟩:=g.freeze j d;exact⟨x,_,l,b,q o⟩
section
variable {it:Addr}{es:Array DictEntry}{ep:Nat}
theorem oQ (a:s.heap.get? d=some o)(i:o.ExactDict)(e:o.data=.dict es ep)(h:(d == sysModules)=false)(g:Q (.ref s.heap.objs.size) {s with heap:=s.heap.push {cls:=.type "dict_keyiterator",data:=.fields #[.ref d,.int 0 0,.int es.size 0,.int ep 0]}}):wpAny (model P w) A (pyIter (.ref d)) Q E s:=by
 have b:s.TypeIs (.ref d) "dict":=⟨o,a,i.1⟩;refine wpAny_pyIter_slot b F.slot_dict_iter (cg F.slot_dict_iter b F.entry_dict_iter ?_ (F.args_dict_iter_1 _));unfold Builtin.«dict.__iter__»;refine ac ?_;unfold Builtin.Dict.dictSlotNone;refine ac (dD b ?_);show wpAny _ _ (pure (Value.ref d)) _ _ s;refine ar ?_;show wpAny _ _ (Builtin.Dict.showsAll d >>= _) _ _ s;unfold Builtin.Dict.showsAll;rw[if_neg (by rw[h];exact aK)];refine ac (ar ?_);refine ac (cX a e (ac (bK a e ?_)));refine ac (dW (ar ⟨_,rfl,"dict_keyiterator",_,⟨_,aP _ rfl,rfl⟩,F.slot_dict_keyiterator_next.lookup,?_⟩));simpa [rawInt] using g
theorem oM {Q:Option Value→Shared→Prop}(a:s.heap.IsKeyIter it d i es.size ep)(j:s.heap.get? d=some o)(h:o.data=.dict es ep)(m:i<es.size)(p:∀h',h'.IsKeyIter it d (i+1) es.size ep→Heap.SameBut it s.heap h'→Q (some es[i].key) {s with heap:=h'}):wpAny (model P w) A (pyNext (.ref it)) Q E s:=by
 obtain⟨r,e,q,l⟩:=id a;unfold pyNext;refine ac (wpAny_attempt (dr (name:=Str.ofString "__next__") a.typeIs F.slot_dict_keyiterator_next (cg F.slot_dict_keyiterator_next a.typeIs F.entry_dict_keyiterator_next ?_ (F.args_dict_keyiterator_next_1 _))))
 refine ac (ar ?_);refine ac ?_;refine ac ?_
 first | (refine ac (cM a.typeIs (ar ?_))) | (refine ac (dk a.typeIs (ar ?_)))
 refine ac (wpAny_fieldsOf e l ?_);have g:Builtin.Dict_items.ownsTuple "dict_keyiterator" = false:=by decide +kernel
 simp only[g,cf,if_false];show wpAny _ _ (if (Value.ref d == Value.none)=true then _ else _) _ _ s;rw[if_neg (fun z:(Value.ref d == Value.none)=true=>aK z)];refine ac (ar ?_);refine ac (cX j h ?_);rw[if_neg (by simp)];refine ac (ar ?_);refine ac (bK j h ?_);rw[if_neg (by simp)];refine ar ?_;simp only[show ¬((i:Int)<0) by omega,if_false,bA,cB m];refine ac ?_
 first | (refine ac (cM a.typeIs (ar ?_))) | (refine ac (dk a.typeIs (ar ?_)))
 refine ac (wpAny_isOneOf_keyiter a.typeIs ?_);show wpAny _ _ (setField (.ref it) 1 (rawInt ((i:Int)+1)) >>= _) _ _ s;refine ac (wpAny_setField e l (by simp) ?_);have b:(s.heap.update it (Obj.mapFields (·.setIfInBounds 1 (rawInt ((i:Int)+1))))).IsKeyIter it d (i+1) es.size ep:=⟨_,cU _ e (Obj.isFreed_of_fields (Obj.data_mapFields l _)),(Obj.cls_mapFields ..).trans q,by rw[Obj.data_mapFields l];simp[rawInt]⟩;refine ac (bF ?_);refine ac (wpAny_isOneOf_keyiter (s:={s with heap:=s.heap.update it (Obj.mapFields (·.setIfInBounds 1 (rawInt ((i:Int)+1))))}) b.typeIs ?_);show wpAny _ _ (pure es[i].key) _ _ _;exact ar (ar ⟨_,rfl,ar (p _ b (Heap.SameBut.update ..))⟩)
end
section
variable {it:Addr}{es:Array DictEntry}{ep:Nat}
theorem vK {Q:Option Value→Shared→Prop}(r:A.handled=none)(e:s.heap.IsKeyIter it d i es.size ep)(l:s.heap.get? d=some o)(h:o.data=.dict es ep)(p:es.size≤i)(t:∀h',Heap.ExtBut it s.heap h'→Q none {s with heap:=h'}):wpAny (model P w) A (pyNext (.ref it)) Q E s:=by
 obtain⟨v,j,x,q⟩:=id e;unfold pyNext;refine ac (wpAny_attempt (dr (name:=Str.ofString "__next__") e.typeIs F.slot_dict_keyiterator_next (cg F.slot_dict_keyiterator_next e.typeIs F.entry_dict_keyiterator_next ?_ (F.args_dict_keyiterator_next_1 _))))
 refine ac (ar ?_);refine ac ?_;refine ac ?_
 first | (refine ac (cM e.typeIs (ar ?_))) | (refine ac (dk e.typeIs (ar ?_)))
 refine ac (wpAny_fieldsOf j q ?_);have g:Builtin.Dict_items.ownsTuple "dict_keyiterator" = false:=by decide +kernel
 simp only[g,cf,if_false];show wpAny _ _ (if (Value.ref d == Value.none)=true then _ else _) _ _ s;rw[if_neg (fun z:(Value.ref d == Value.none)=true=>aK z)];refine ac (ar ?_);refine ac (cX l h ?_);rw[if_neg (by simp)];refine ac (ar ?_);refine ac (bK l h ?_);rw[if_neg (by simp)];refine ar ?_;simp only[show ¬((i:Int)<0) by lia,if_false,bA,Array.getElem?_eq_none p];refine ac ?_
 first | (refine ac (cM e.typeIs (ar ?_))) | (refine ac (dk e.typeIs (ar ?_)))
 show wpAny _ _ (setField (.ref it) 0 .none >>= _) _ _ s;refine ac (wpAny_setField j q (by simp) ?_);show wpAny _ _ (newExc (.type "StopIteration") [] >>= _) _ _ _;refine ac ?_;simp only[newExc,newTuple];refine ac (dW ?_ (by size_fits));refine ac (m:=firstArgMember _ _) (wpAny_of_eq (a:=Value.none) (by first | rfl | (simp only[firstArgMember];rfl)) ?_);refine dW ?_ (by size_fits);simp only[raiseNew];refine ac (wpAny_handled ?_);rw[show A.in1.handled=none from r];refine ac (ar (wpAny_throw ?_));refine ac (wpAny_isInstance (T:="StopIteration") (b:=true) ⟨_,aP _ rfl,rfl⟩ isSubtype_stop ?_);exact ar (t _ (((Heap.SameBut.update ..).extBut.push _).push _))
end
def FX (a:Addr)(o:Obj)(kvs:List (gv×V)):It:=
 ⟨fun i H=>i<kvs.length∧H a=some (.frz o (.dK kvs)),fun i H x H'=>H'=H∧∃kv,kvs[i]?=some kv∧x=kV kv.1,fun i H=>kvs.length≤i∧H a=some (.frz o (.dK kvs))⟩
def Ge (a:Addr)(o:Obj)(kvs:List (fM×V)):It:=
 ⟨fun i H=>i<kvs.length∧H a=some (.frz o (.dN kvs)),fun i H x H'=>H'=H∧∃kv,kvs[i]?=some kv∧lP H kv.1 x,fun i H=>kvs.length≤i∧H a=some (.frz o (.dN kvs))⟩
theorem oo {h:Heap}{kvs:List (gv×V)}(ok:lK P w H h)(e:H a=some (.frz o (.dK kvs))):h.get? a=some o∧(a == sysModules)=false∧o.ExactDict∧∃es ep,o.data=.dict es ep∧es.size=kvs.length∧∀(i:Nat) (kv:gv×V) (hi:i<es.size),kvs[i]?=some kv→eY (kV kv.1) es[i].key:=by
 obtain⟨b,q⟩:=(show h.get? a=some o∧fH P w H h a (.dK kvs) from ok a _ e);obtain⟨z,s,vs,r,o',es,ep,h1,h2,l,x,j,t⟩:=q;rw[b]at h1;cases h1;have y:es.size=vs.length:=by rw[←j.length];simp
 have A:kvs.length=vs.length:=Paired.length r;refine⟨b,s,h2,es,ep,l,by lia,fun i kv hi m=>?_⟩;have g:vs[i]?=some vs[i]:=aj (by lia);obtain⟨u,d,p⟩:=Ad r m;rw[g]at d;cases d;have:=(j.get? (e:=es[i]) (k:=vs[i].1) (v:=vs[i].2) (by simp[hi]) g).1;rw[show kv.1=vs[i].1 from p.1];exact vV this
theorem Bj {h:Heap}(ok:lK P w H h)(e:H a=some (.frz o (.dN kvs))):h.get? a=some o∧(a == sysModules)=false∧o.ExactDict∧∃es ep,o.data=.dict es ep∧es.size=kvs.length∧∀(i:Nat) (kv:fM×V) (hi:i<es.size),kvs[i]?=some kv→∃x,eY x es[i].key∧lP H kv.1 x:=by
 obtain⟨g,q⟩:=(show h.get? a=some o∧fH P w H h a (.dN kvs) from ok a _ e);obtain⟨z,y,xs,r,o',es,ep,h1,h2,p,l,E⟩:=q;rw[g]at h1;cases h1;have C:es.size=xs.length:=by rw[←br,l,ab]
 have D:kvs.length=xs.length:=Paired.length r;refine⟨g,y,h2,es,ep,p,by lia,fun i kv hi s=>?_⟩;obtain⟨u,m,v⟩:=Ad r s;have j:es.toList[i]?=some (uu P w u):=by rw[l,ae,m];rfl
 rw[bE,cB hi]at j
 rw[Option.some.inj j];obtain⟨B,d,_⟩:=v;show ∃x,eY x u.2.1∧lP H kv.1 x
 revert d
 cases kv.1 with
 |none=>exact fun d=>⟨.non,d,rfl⟩
 |some ks=>exact(by rintro⟨b,t,A⟩;exact⟨.ref b,t,b,rfl,A⟩)
theorem wB (a it:Addr)(o:Obj)(es:Array DictEntry)(ep:Nat)(kvs:List (gv×V))(hd:o.data=.dict es ep)(Y:es.size=kvs.length):tK P w K tg (FX a o kvs) [it] it (fun i h=>h.IsKeyIter it a i es.size ep) where
 mem:=by simp
 obj:=fun i h st b d=>by
  obtain⟨J,e,c,B⟩:=st;rw[ai.mp d];exact⟨J,e,fun v z=>by rw[B]at z;cases z⟩
 keep:=fun i h h' st k=>st.at fun o e=>k it (by simp) o e
 item:=by
  intro X D x t L i pins s σ H E I m st ⟨hi,p⟩;subst D x t;obtain⟨q,r,T,F,C,A⟩:=m it (by simp);obtain⟨y,hS,Z,Q,N,l,S,R⟩:=oo I.hok p;rw[hd]at l;cases l;have g:i<es.size:=by lia
  have G:kvs[i]?=some kvs[i]:=aj hi;refine oM st y hd g fun h' j U=>?_;have M:eU X pins σ H {s with heap:=h'}:=I.turned (t':=s.toks) (fun b o d e=>(U.2 b d).trans e) q r F C A;obtain⟨J,e,c,B⟩:=id j;exact⟨_,rfl,um (s:={s with heap:=h'}) e c B (by decide) ⟨kV kvs[i].1,H,M,R i _ g G,⟨rfl,_,G,rfl⟩,j,fun b d=>(m b d).1⟩⟩
 done:=by
  intro X D x t L i pins s σ H E I m st ⟨hi,p⟩;subst D x t;obtain⟨q,r,T,F,C,A⟩:=m it (by simp);obtain⟨y,_⟩:=oo I.hok p;exact vK (I.ok.hd L) st y hd (by lia) fun h' O=>⟨rfl,I.turned (t':=s.toks) (fun b o d e=>O b o d e) q r F C A⟩
 self:=fun _ _ _ _ _ st h=>wpAny_pyIter_keyiter st h
theorem Cl (a it:Addr)(o:Obj)(es:Array DictEntry)(ep:Nat)(kvs:List (fM×V))(hd:o.data=.dict es ep)(hl:es.size=kvs.length):tK P w K tg (Ge a o kvs) [it] it (fun i h=>h.IsKeyIter it a i es.size ep) where
 mem:=by simp
 obj:=fun i h st b d=>by
  obtain⟨L,e,c,C⟩:=st;rw[ai.mp d];exact⟨L,e,fun v z=>by rw[C]at z;cases z⟩
 keep:=fun i h h' st k=>st.at fun o e=>k it (by simp) o e
 item:=by
  intro X F y t M i pins s σ H E I m st ⟨hi,p⟩;subst F y t;obtain⟨q,r,Z,G,D,B⟩:=m it (by simp);obtain⟨A,hS,hx,S,Q,l,U,T⟩:=Bj I.hok p;rw[hd]at l;cases l;have g:i<es.size:=by lia
  have J:kvs[i]?=some kvs[i]:=aj hi;obtain⟨x,Y,N⟩:=T i _ g J;refine oM st A hd g fun h' j sb=>?_;have O:eU X pins σ H {s with heap:=h'}:=I.turned (t':=s.toks) (fun b o d e=>(sb.2 b d).trans e) q r G D B;obtain⟨L,e,c,C⟩:=id j;exact⟨_,rfl,um (s:={s with heap:=h'}) e c C (by decide) ⟨x,H,O,Y,⟨rfl,_,J,N⟩,j,fun b d=>(m b d).1⟩⟩
 done:=by
  intro X F y t M i pins s σ H E I m st ⟨hi,p⟩;subst F y t;obtain⟨q,r,Z,G,D,B⟩:=m it (by simp);obtain⟨A,_⟩:=Bj I.hok p;exact vK (I.ok.hd M) st A hd (by lia) fun h' R=>⟨rfl,I.turned (t':=s.toks) (fun b o d e=>R b o d e) q r G D B⟩
 self:=fun _ _ _ _ _ st h=>wpAny_pyIter_keyiter st h
section
variable {l:Expr}{tl:TE}
inductive HZ (R:It→Hp→Prop)(x:V)(H1:Hp):Prop
 |mk (a o kvs:_)(_:x=.ref a)(_:H1 a=some (.frz o (.dK kvs)))(_:R (FX a o kvs) H1):HZ R x H1
def J8 (tl:TE):TI:=fun σ H R=>tl σ H fun x H1=>HZ R x H1
theorem Ac (m:PE X l tl):PI X tg l (J8 tl):=by
 intro pins s σ H R I h;refine fV (m pins s σ H _ I h) ?_;rintro v g ⟨x,H1,d,p,a,o,kvs,ex,z,q⟩;subst ex;cases (show v=Value.ref a from p);obtain⟨j,y,t,es,ep,i,w,_⟩:=oo d.hok z;refine oQ j t i y ⟨g.heap.objs.size,[g.heap.objs.size],_,_,H1,rfl,d.kept (t':=g.toks) fun b o e=>aC _ e,wB a _ o es ep kvs i w,⟨_,aP _ rfl,rfl,rfl⟩,fun b r=>?_,q⟩
 rw[ai.mp r];exact d.Ks (aq _) (d.hok.fresh (aq _))
end
theorem vX {J:It}{n:Nat}(a:Nat→St→Hp→Prop)(o:a 0 σ H)(h:∀i σ H,i<n→a i σ H→J.go i H)(e:∀σ H,a n σ H→J.stop n H)(l:∀i x σ H H',i<n→J.yld i H x H'→a i σ H→g x σ H' fun σ2 H2=>tb {D with nx:=a (i+1),ct:=a (i+1),bk:=D.nx} σ2 H2)(d:∀σ H,a n σ H→D.nx σ H):∃W:Nat→Nat→St→Hp→Prop,(∃m,W 0 m σ H)∧∀i m σ H,W i m σ H→(J.stop i H∧D.nx σ H)∨(J.go i H∧∃N:St→Hp→Prop,(∀σ' H',N σ' H'→∃m',m'<m∧W (i+1) m' σ' H')∧∀x H',J.yld i H x H'→g x σ H' fun σ2 H2=>tb {D with nx:=N,ct:=N,bk:=D.nx} σ2 H2):=by
 refine⟨fun i m σ H=>m=n-i∧i≤n∧a i σ H,⟨n,by simp,bo _,o⟩,?_⟩;rintro i m σ H ⟨rfl,hi,p⟩;rcases dm i n with b | hge
 ·exact .inr ⟨h i σ H b p,a (i+1),fun σ' H' j=>⟨n-(i+1),by lia,rfl,b,j⟩,fun x H' y=>l i x σ H H' b y p⟩
 ·obtain rfl:i=n:=Nat.le_antisymm hi hge;exact .inl ⟨e σ H p,d σ H p⟩
theorem tw {kvs:List (gv×V)}(Pv:Nat→St→Hp→Prop)(h0:Pv 0 σ H)(hl:∀i σ H,i≤kvs.length→Pv i σ H→H a=some (.frz o (.dK kvs)))(hs:∀i kv σ H,kvs[i]?=some kv→Pv i σ H→g (kV kv.1) σ H fun σ2 H2=>tb {D with nx:=Pv (i+1),ct:=Pv (i+1),bk:=D.nx} σ2 H2)(hd:∀σ H,Pv kvs.length σ H→D.nx σ H):∃W:Nat→Nat→St→Hp→Prop,(∃m,W 0 m σ H)∧∀i m σ H,W i m σ H→((FX a o kvs).stop i H∧D.nx σ H)∨((FX a o kvs).go i H∧∃N:St→Hp→Prop,(∀σ' H',N σ' H'→∃m',m'<m∧W (i+1) m' σ' H')∧∀x H',(FX a o kvs).yld i H x H'→g x σ H' fun σ2 H2=>tb {D with nx:=N,ct:=N,bk:=D.nx} σ2 H2):=
 vX Pv h0 (fun i σ H hi p=>⟨hi,hl i σ H (cD hi) p⟩) (fun σ H p=>⟨aq _,hl _ σ H (aq _) p⟩) (fun i x σ H H' hi y p=>by
  obtain⟨rfl,kv,hk,rfl⟩:=y
  exact hs i kv σ _ hk p) hd
theorem vY (Pv:Nat→St→Hp→Prop)(h0:Pv 0 σ H)(hl:∀i σ H,i≤kvs.length→Pv i σ H→H a=some (.frz o (.dN kvs)))(hs:∀i kv x σ H,kvs[i]?=some kv→lP H kv.1 x→Pv i σ H→g x σ H fun σ2 H2=>tb {D with nx:=Pv (i+1),ct:=Pv (i+1),bk:=D.nx} σ2 H2)(hd:∀σ H,Pv kvs.length σ H→D.nx σ H):∃W:Nat→Nat→St→Hp→Prop,(∃m,W 0 m σ H)∧∀i m σ H,W i m σ H→((Ge a o kvs).stop i H∧D.nx σ H)∨((Ge a o kvs).go i H∧∃N:St→Hp→Prop,(∀σ' H',N σ' H'→∃m',m'<m∧W (i+1) m' σ' H')∧∀x H',(Ge a o kvs).yld i H x H'→g x σ H' fun σ2 H2=>tb {D with nx:=N,ct:=N,bk:=D.nx} σ2 H2):=
 vX Pv h0 (fun i σ H hi p=>⟨hi,hl i σ H (cD hi) p⟩) (fun σ H p=>⟨aq _,hl _ σ H (aq _) p⟩) (fun i x σ H H' hi y p=>by
  obtain⟨rfl,kv,hk,kx⟩:=y
  exact hs i kv x σ _ hk kx p) hd
theorem xc {J:It}{n:Nat}{tt:TT}{te:TE}{σ':St}{H1:Hp}{Q:VK}(a:Addr→Nat→List V→Hp→Prop)(l:∀D,H1 D=none→a D 0 [] (upd H1 D (.lst [])))(j:∀D i ys H,i≤n→a D i ys H→(i<n→J.go i H)∧(i=n→J.stop i H)∧H D=some (.lst ys)∧ys.length<sizeLine)(o:∀D i x ys H H2,i<n→J.yld i H x H2→a D i ys H→g x σ' H2 fun σ2 H3=>tt σ2 H3 fun b H4=>if b=true then te σ2 H4 fun y H5=>H5 D=some (.lst ys)∧a D (i+1) (ys++[y]) (upd H5 D (.lst (ys++[y]))) else a D (i+1) ys H4)(e:∀D ys H,a D n ys H→Q (.ref D) H):rf J g tt te σ' H1 Q:=by
 intro D q;refine⟨fun i m ys H=>m=n-i∧i≤n∧a D i ys H,⟨n,by simp,bo _,l D q⟩,?_⟩;rintro i m ys H ⟨rfl,hi,p⟩;obtain⟨h,s,v,t⟩:=j D i ys H hi p;refine⟨v,t,?_⟩;rcases dm i n with d | hge
 ·exact .inr ⟨h d,a D (i+1),fun zs H' r=>⟨n-(i+1),by lia,rfl,d,r⟩,fun x H' y=>o D i x ys H H' d y p⟩
 ·obtain rfl:i=n:=Nat.le_antisymm hi hge;exact .inl ⟨s rfl,e D ys H p⟩
def Gc (K:W.Frag)(a:Addr)(xs:List V):It:=
 ⟨fun i H=>i<xs.length∧fb K H a xs,fun i H x H'=>H'=H∧xs[xs.length-1-i]?=some x,fun i _=>xs.length≤i⟩
theorem zp (a it:Addr)(xs:List V):tK P w K tg (Gc K a xs) [it] it (fun i h=>i≤xs.length∧h.IsRevIter it a ((xs.length:Int)-1-(i:Int))) where
 mem:=by simp
 obj:=fun i h st b g=>by
  obtain⟨_,G,e,c,B⟩:=st;rw[ai.mp g];exact⟨G,e,fun v z=>by rw[B]at z;cases z⟩
 keep:=fun i h h' st k=>⟨st.1,st.2.at fun o e=>k it (by simp) o e⟩
 item:=by
  intro X D y t L i pins s σ H E I l st ⟨hi,m⟩;subst D y t;obtain⟨q,r,T,F,C,A⟩:=l it (by simp);obtain⟨O,Q,p,Z⟩:=I.list m;have J:xs[xs.length-1-i]?=some xs[xs.length-1-i]:=aj (by omega);obtain⟨u,S,U⟩:=Q.get J;have d:=st.2;rw[show(xs.length:Int)-1-(i:Int)=((xs.length-1-i:Nat):Int) by omega]at d;refine wpAny_pyNext_rev_item d p.isList (x:=u) (by simpa using S) fun h' j Y=>?_;rw[show((xs.length-1-i:Nat):Int)-1=(xs.length:Int)-1-((i+1:Nat):Int) by omega]at j;have M:eU X pins σ H {s with heap:=h'}:=I.turned (t':=s.toks) (fun b o g e=>(Y.2 b g).trans e) q r F C A;obtain⟨G,e,c,B⟩:=id j;exact⟨_,rfl,um (s:={s with heap:=h'}) e c B (by decide) ⟨_,H,M,U,⟨rfl,J⟩,⟨hi,j⟩,fun b g=>(l b g).1⟩⟩
 done:=by
  intro X D y t L i pins s σ H E I l st m;subst D y t;obtain⟨q,r,T,F,C,A⟩:=l it (by simp);have d:=st.2;have h1:=st.1;have N:xs.length≤i:=m;rw[show(xs.length:Int)-1-(i:Int)=-1 by omega]at d;exact wpAny_pyNext_rev_end (I.ok.hd L) d fun h' R=>⟨rfl,I.turned (t':=s.toks) (fun b o g e=>R b o g e) q r F C A⟩
 self:=fun _ _ _ _ _ st h=>wpAny_pyIter_revIter st.2 h
def Jj (K:W.Frag)(tl:TE):TI:=fun σ H R=>tl σ H fun x H1=>∃a xs,x=.ref a∧fb K H1 a xs∧R (Gc K a xs) H1
theorem EY {l:Expr}{tl:TE}{p pos:Pos}(y:Gl X "reversed")(z:X.mg "reversed" = none)(m:PE X l tl)(hs:starEach [l] X.env=[(false,eval l X.env)]:=by rfl):PI X tg (.Call (.Name "reversed" p) [l] [] pos) (Jj X.K tl):=by
 intro pins s σ H R I h;refine bI (jA I y z PyProof.Rows.Boot.«reversed» ?_ (by decide) (by decide));refine PyProof.Rows.callWith_type1 ?_ hs rfl;have A:=(dZ m el hs) pos pins s σ H (fun vs H1=>match vs with | [x]=>(∃a xs,x=.ref a∧fb X.K H1 a xs∧R (Gc X.K a xs) H1) | _=>False) I h;refine fV A ?_;rintro us s1 ⟨vs,H1,i,r,j⟩
 match vs,r,j with
 |[x],r,⟨a,xs,e2,hS,q⟩=>
  subst e2;obtain⟨u,rfl,t⟩:=jo r;cases (show u=Value.ref a from t);obtain⟨d,B,pl,C⟩:=i.list hS;have v:d.length=xs.length:=B.length.symm;refine call_reversed_list pl.isList ?_;have g:(s1.heap.push (revObj a ((d.toArray.size:Int)-1))).get? s1.heap.objs.size=some (revObj a ((d.toArray.size:Int)-1)):=aP _ rfl;refine wpAny_pyIter_revIter (s:={s1 with heap:=s1.heap.push (revObj a ((d.toArray.size:Int)-1))}) ⟨_,g,rfl,rfl⟩ ?_;refine⟨s1.heap.objs.size,[s1.heap.objs.size],_,_,H1,rfl,i.kept (t':=s1.toks) fun b o e=>aC _ e,zp a _ xs,⟨bo _,_,g,rfl,?_⟩,fun b w=>?_,q⟩
  ·show(revObj a ((d.toArray.size:Int)-1)).data=_;rw[aO,v];simp[revObj]
  ·rw[ai.mp w];exact i.Ks (aq _) (i.hok.fresh (aq _))
theorem Dv {xs:List V}(Pv:Nat→St→Hp→Prop)(h0:Pv 0 σ H)(hl:∀i σ H,i<xs.length→Pv i σ H→fb K H a xs)(hs:∀i x σ H,i<xs.length→xs[xs.length-1-i]?=some x→Pv i σ H→g x σ H fun σ2 H2=>tb {D with nx:=Pv (i+1),ct:=Pv (i+1),bk:=D.nx} σ2 H2)(hd:∀σ H,Pv xs.length σ H→D.nx σ H):∃W:Nat→Nat→St→Hp→Prop,(∃m,W 0 m σ H)∧∀i m σ H,W i m σ H→((Gc K a xs).stop i H∧D.nx σ H)∨((Gc K a xs).go i H∧∃N:St→Hp→Prop,(∀σ' H',N σ' H'→∃m',m'<m∧W (i+1) m' σ' H')∧∀x H',(Gc K a xs).yld i H x H'→g x σ H' fun σ2 H2=>tb {D with nx:=N,ct:=N,bk:=D.nx} σ2 H2):=
 vX Pv h0 (fun i σ H hi p=>⟨hi,hl i σ H hi p⟩) (fun σ H p=>aq _) (fun i x σ H H' hi y p=>by
  obtain⟨rfl,hk⟩:=y
  exact hs i x σ _ hi hk p) hd
theorem kY (ns:List Int):∀j,j≤ns.length→preSum (fun i=>ns.getD i 0) j=(ns.take j).sum
 |0,_=>by simp[preSum]
 |j+1,h=>by
  have e:=kY ns j (by omega);have h2:ns.take (j+1)=ns.take j++[ns[j]]:=by rw[bg,aj (show j<ns.length by omega)];rfl
  rw[preSum,e,h2,List.sum_append,bb,aj (show j<ns.length by omega)]
  simp
theorem yU (hc:X.calm=true):jr X (.builtin "sum") (fun xs H Q=>∃(a:Addr) (ns:List Int),xs=[.ref a]∧fb X.K H a (ns.map V.int)∧(∀j,j<ns.length→0≤ns.getD j 0)∧ns.sum<2^63∧Q (.int ns.sum) H):=by
 intro pins s σ H xs us Q I r h;obtain⟨a,ns,rfl,hS,N,aa,q⟩:=h;obtain⟨u,rfl,S⟩:=jo r;cases (show u=Value.ref a from S);obtain⟨d,P,p,hz⟩:=I.list hS;have m:d.length=ns.length:=by rw[←P.length,ab]
 have g:∀(l:List Int),(∀x∈l,0≤x)→0≤l.sum:=fun l=>by
  induction l with
  |nil=>intro _;simp
  |cons x l ih=>intro z;rw[List.sum_cons];have:=z x (by simp);have:=ih fun y C=>z y (by simp[C]);omega
 have R:∀x∈ns,0≤x:=fun x z=>by
  obtain⟨j,D,e⟩:=List.mem_iff_getElem.mp z;have:=N j D;rw[bb,aj D]at this
  rw[←e];exact this
 have M:∀j,(ns.take j).sum≤ns.sum:=fun j=>by
  have:ns.sum=(ns.take j).sum+(ns.drop j).sum:=by rw[←List.sum_append,List.take_append_drop]
  have:=g (ns.drop j) fun x z=>R x (List.mem_of_mem_drop z);omega
 refine call_sum_walk (wpAny_pyIter_list p.isList ?_);have E:a≠s.heap.objs.size:=by
  obtain⟨o,L,_⟩:=p.isList;exact aU (aN L)
 have J:a<s.heap.objs.size:=by
  obtain⟨o,L,_⟩:=p.isList;exact aN L
 refine⟨s.heap.objs.size,_,_,d.toArray.size,_,_,fun i=>ns.getD i 0,rfl,Walks.list (prog:=X.prog) (w:=X.w) (A:=X.A.in1) (I.ok.hd hc) _ a E d.toArray,⟨⟨_,aP _ rfl,rfl,rfl⟩,p.isList.push _⟩,fun b O=>?_,fun i v Z=>?_,fun j D=>?_,fun h' tk t' T=>?_⟩
 ·rw[dU];simp only[am,aJ,or_false]at O;rcases O with rfl | rfl
  ·exact di _
  ·exact dA J
 ·have G:d[i]?=some v:=by simpa using Z
  obtain⟨y,C,U⟩:=Ad (F:=fun u x=>eY x u) (as:=d) (bs:=ns.map V.int) (by
   have:∀{as:List V} {bs:List Value},fN as bs→Paired (fun u x=>eY x u) bs as:=fun q=>by
    induction q with
    |nil=>exact .nil
    |cons r _ ih=>exact .cons r ih
   exact this P) G
  rw[ae]at C;obtain⟨n,Y,rfl⟩:=aw.mp C;show ∃t,v=Value.int (ns.getD i 0) t;rw[bb,Y];exact U
 ·have B:j<ns.length:=by simpa [m] using D
  have h1:=M (j+1);have h3:=g (ns.take j) fun x z=>R x (dJ z);have h5:(ns.take (j+1)).sum=(ns.take j).sum+ns.getD j 0:=by
   have h2:ns.take (j+1)=ns.take j++[ns[j]]:=by rw[bg,aj B];rfl
   rw[h2,List.sum_append,bb,aj B]
   simp
  have h4:=N j B;rw[kY ns (j+1) (by omega)];dsimp only;unfold InLong;omega
 ·refine⟨.int ns.sum,H,I.kept (t':=tk) fun b o e=>?_,⟨t',?_⟩,q⟩
  ·exact T b o (by simpa using aU (aN e)) (aC _ e)
  ·rw[aO,m,kY ns ns.length (aq _),aH]
theorem nR {α:Type} [BEq α] [LawfulBEq α]:∀{l:List α} {k:α} {m:Nat} (hm:m<l.length),m<l.idxOf k→¬l[m]=k
 |a::l,k,0,_,h,e=>by
  have e':a=k:=e;rw[e',List.idxOf_cons_self]at h;exact absurd h (cH _)
 |a::l,k,m+1,hm,h,e=>by
  by_cases ha:a=k
  ·rw[ha,List.idxOf_cons_self]at h;exact absurd h (cb _)
  ·rw[List.idxOf_cons,beq_false_of_ne ha]at h;exact nR (l:=l) (by simpa using hm) (Nat.lt_of_succ_lt_succ h) e
theorem yD:HL X "list.index" (fun x vs H Q=>∃(l:Addr) (ss:List Str) (k:Str),x=.ref l∧vs=[.str k]∧H l=some (.lst (ss.map V.str))∧k∈ss∧Q (.int (ss.idxOf k:Nat)) H):=by
 intro pins s σ H x vs v us Q I J C h;obtain⟨l,ss,k,rfl,rfl,G,B,q⟩:=h;cases (show v=Value.ref l from J);obtain⟨u,rfl,t,rfl⟩:=jo C;obtain⟨z,b,n,r,e⟩:=(show fH X.prog X.w H s.heap l (.lst (ss.map V.str)) from I.hok l _ G);have j:b.length=ss.length:=by rw[←r.length,ab]
 have M:ss.length≤16777216:=by rw[ab,ck]at z;exact z
 have d:∀(m:Nat) (g:m<b.length),∃t',b[m]=.str (ss[m]'(by omega)) t':=fun m g=>by
  have K:(ss.map V.str)[m]?=some (V.str (ss[m]'(by omega))):=by rw[ae,aj (by omega)];rfl
  obtain⟨w,A,t',e⟩:=r.get K;rw[aj g]at A;exact⟨t',by rw[Option.some.inj A];exact e⟩
 have L:ss.idxOf k<ss.length:=bz.mpr B;refine call_meets PySem.F.slot_list_index ⟨_,e,rfl⟩ PySem.F.entry_list_index (PySem.F.args_list_index_2 _ _)
  (SeqAt.list_indexAt l b.toArray n none #[] (.str k t) (fun v=>match v with | .str a _=>a == k | _=>false) (ss.idxOf k) (by simpa [j] using L) (by omega) ?_ ?_) ⟨e,fun y E=>?_,⟨.int (ss.idxOf k:Nat),H,I.tok _,⟨_,rfl⟩,q⟩⟩
 ·obtain⟨t',i⟩:=d (ss.idxOf k) (by omega);show(match b[ss.idxOf k]'(by omega) with | .str a _=>a == k | _=>false)=true;rw[i];simp
 ·intro m g o;have p:m<b.length:=by simpa using g
  obtain⟨t',i⟩:=d m p;show(match b[m] with | .str a _=>a == k | _=>false)=false;rw[i];have:¬ss[m]'(by omega)=k:=nR (by omega) o;simpa using this
 ·obtain⟨m,g,D⟩:=List.mem_iff_getElem.mp (show y∈b by simpa using E);obtain⟨t',i⟩:=d m g;rw[←D,i];exact SeqAt.EqAt.str_str _ _ _ _
theorem yE:HL X "list.index" (fun x vs H Q=>∃(l:Addr) (bs:List Bool),x=.ref l∧vs=[.bl true]∧H l=some (.lst (bs.map V.bl))∧true∈bs∧Q (.int (bs.idxOf true:Nat)) H):=by
 intro pins s σ H x vs v us Q I G B h;obtain⟨l,d,rfl,rfl,E,A,q⟩:=h;cases (show v=Value.ref l from G);obtain⟨u,rfl,L⟩:=jo B;cases (show u=Value.bool true from L);obtain⟨z,b,n,r,e⟩:=(show fH X.prog X.w H s.heap l (.lst (d.map V.bl)) from I.hok l _ E);have j:b.length=d.length:=by rw[←r.length,ab]
 have M:d.length≤16777216:=by rw[ab,ck]at z;exact z
 have g:∀(m:Nat) (i:m<b.length),b[m]=.bool (d[m]'(by omega)):=fun m i=>by
  have J:(d.map V.bl)[m]?=some (V.bl (d[m]'(by omega))):=by rw[ae,aj (by omega)];rfl
  obtain⟨w,t,e⟩:=r.get J;rw[aj i]at t;rw[Option.some.inj t];exact e
 have K:d.idxOf true<d.length:=bz.mpr A;refine call_meets PySem.F.slot_list_index ⟨_,e,rfl⟩ PySem.F.entry_list_index (PySem.F.args_list_index_2 _ _)
  (SeqAt.list_indexAt l b.toArray n none #[] (.bool true) (fun v=>match v with | .bool a=>a == true | _=>false) (d.idxOf true) (by simpa [j] using K) (by omega) ?_ ?_) ⟨e,fun y D=>?_,⟨.int (d.idxOf true:Nat),H,I.tok _,⟨_,rfl⟩,q⟩⟩
 ·show(match b[d.idxOf true]'(by omega) with | .bool a=>a == true | _=>false)=true;rw[g (d.idxOf true) (by omega)];simp
 ·intro m i o;have p:m<b.length:=by simpa using i
  show(match b[m] with | .bool a=>a == true | _=>false)=false;rw[g m p];have:¬d[m]'(by omega)=true:=nR (by omega) o;simpa using this
 ·obtain⟨m,i,C⟩:=List.mem_iff_getElem.mp (show y∈b by simpa using D);rw[←C,g m i];exact SeqAt.EqAt.bool_bool _ _
inductive Ee (x:V)(y:V)(H:Hp)(Q:VK):Prop
 |mk (i j:_)(_:x=.int i)(_:y=.int j)(_:Q (.int (Builtin.bitOr i j)) H):Ee x y H Q
def GU:V→V→Hp→VK→Prop:=fun x y H Q=>Ee x y H Q
inductive Cd (x:V)(y:V)(H:Hp)(Q:VK):Prop
 |mk (i j:_)(_:x=.int i)(_:y=.int j)(_:Q (.int (Builtin.bitAnd i j)) H):Cd x y H Q
def GY:V→V→Hp→VK→Prop:=fun x y H Q=>Cd x y H Q
theorem Bd:FZ X .BitOr GU:=by
 rintro pins s σ H x y u v Q I a b ⟨i,j,rfl,rfl,q⟩;obtain⟨t,rfl⟩:=(show ∃t,u=Value.int i t from a);obtain⟨t',rfl⟩:=(show ∃t',v=Value.int j t' from b);exact PyProof.Rows.ior_int ⟨.int _,H,I.tok _,⟨_,rfl⟩,q⟩
theorem ul:HI X .BitOr GU:=fun pins s σ H x y u v Q I rx ry h=>Bd pins s σ H x y u v Q I rx ry h
theorem FD:HI X .BitAnd GY:=by
 rintro pins s σ H x y u v Q I a b ⟨i,j,rfl,rfl,q⟩;obtain⟨t,rfl⟩:=(show ∃t,u=Value.int i t from a);obtain⟨t',rfl⟩:=(show ∃t',v=Value.int j t' from b);exact PyProof.Rows.iand_int ⟨.int _,H,I.tok _,⟨_,rfl⟩,q⟩
section
variable {xs:List (fM×Value×Value)}{k:fM}{u:Value}
theorem Fa {v:Value}(r:A.units<cLine)(q:oC P w s.heap k u)(D:ou P w s.heap d xs)(hz:xs.length≤sizeLine)(h1:∀x tk,lM xs k=some x→Q x {s with toks:=tk})(h2:lM xs k=none→∀h' tk,ou P w h' d (qt xs k u v)→Heap.SameBut d s.heap h'→Q v {s with heap:=h',toks:=tk}):wpAny (model P w) A (dictSetDefault d u v) Q E s:=by
 obtain⟨o,es,ep,i,F,g,m,hi,p⟩:=D;have G:es.size=xs.length:=by rw[←br,m,ab]
 unfold dictSetDefault
 try with_reducible refine bF ?_
 refine ac (vM r q fun tk=>ac (vN (s:={s with toks:=tk}) r q i g (tD m hi p) (fun h=>?_) (fun j y=>?_)))
 ·have hp:qt xs k u v=xs++[(k,u,v)]:=by unfold qt;rw[lI h,if_neg (by decide)]
  refine ac (ci (ac (wpAny_updateDictKeys (hz:=by lia) (s:={s with toks:=tk}) i g (ar (h2 (lI h) _ tk ?_ (Heap.SameBut.update ..))))));refine⟨_,_,ep+1,cU _ i (Obj.isFreed_of_dict (Obj.data_mapDictKeys g _)),F.mapDictKeys _,Obj.data_mapDictKeys g _,?_,fun x l=>?_,?_⟩
  ·rw[hp];simp[m,uu]
  ·rw[hp]at l;rcases aB.mp l with z | z
   ·exact(hi x z).keep i g (Heap.SameBut.update ..)
   ·rw[ai.mp z];exact q.keep i g (Heap.SameBut.update ..)
  ·rw[hp,ay,bU];refine⟨p,by simp,fun a B b t z=>h ?_⟩;rw[aE,cT,ai]at t;rw[z,t]at B;exact B
 ·rw[ae]at y;obtain⟨x,l,e⟩:=aw.mp y;obtain⟨C,H⟩:=x;obtain rfl:k=C:=e.symm;refine ac (cX (s:={s with toks:=tk}) i g ?_);rw[←bE,m,ae,l]
  exact ac (ci (ar (h1 _ tk (oT p l))))
end
section
variable {y v:V}{u r:Value}{o:Option V}
theorem DB {z:V}(m:A.units+1<cLine)(I:eU X pins σ H s)(g:iy H a y o)(p:eY y u)(q:eY z r)(h:∀w' s',eU X pins σ H s'→eY (o.getD z) w'→Q w' s'):wpAny (model X.prog X.w) A (call (.builtin "dict.get") [.ref a,u,r]) Q E s:=by
 obtain⟨d,l⟩:=oU I g;refine cg PySem.F.slot_dict_get d PySem.F.entry_dict_get ?_ (PySem.F.args_dict_get_3 _ _ _);unfold Builtin.«dict.get»;refine ac ?_;unfold Builtin.Dict.keyAndDefault;refine ac (dD d ?_);show wpAny _ _ (pure (a,u,some r)) _ _ s;refine ar ?_;refine ac (v5 m I g p fun o' s' j i=>?_);cases o with
 |some x=>
  obtain⟨w',rfl,b⟩:=jx.some_of i;exact ar ⟨w',rfl,h w' s' j b⟩
 |none=>
  have e:o'=none:=jx.none_of i;subst e;refine ac ?_;unfold Builtin.Dict.missed;dsimp only;rw[if_neg (by rw[l];exact aK)];exact ar (ar ⟨r,rfl,h r s' j q⟩)
theorem DA {z:V}{k:fM}(C:A.units+1<cLine)(I:eU X pins σ H s)(e:H a=some (.dN kvs))(h:lP H k y)(N:kvs.length<sizeLine)(o:eY y u)(G:eY z r)(h1:∀v w' s',eW kvs k=some v→eU X pins σ H s'→eY v w'→Q w' s')(h2:eW kvs k=none→∀s',eU X pins σ (upd H a (.dN (fq kvs k z))) s'→Q r s'):wpAny (model X.prog X.w) A (call (.builtin "dict.setdefault") [.ref a,u,r]) Q E s:=by
 obtain⟨M,d,xs,rel,p⟩:=uv I.hok (.inl e);have t:xs.length≤sizeLine:=by rw[←Paired.length rel];exact M
 have hp:(fq kvs k z).length≤sizeLine:=by have:=fQ kvs k z;lia
 have i:=p.typeIs;refine cg PySem.F.slot_dict_setdefault i PySem.F.entry_dict_setdefault ?_ (PySem.F.args_dict_setdefault_3 _ _ _);unfold Builtin.«dict.setdefault»;refine ac ?_;unfold Builtin.Dict.keyAndDefault;refine ac (dD i ?_);show wpAny _ _ (pure (a,u,some r)) _ _ s;refine ar ?_;show wpAny _ _ (if (a == sysModules)=true then _ else (dictSetDefault a u r >>= _)) _ _ s;rw[if_neg (by rw[d];exact aK)];have q:=rel.val k;refine ac (Fa C (oP I.hok (h.rel o)) p t (fun x tk J=>?_) fun K h' tk b D=>?_)
 ·rw[J]at q;cases l:eW kvs k with
  |none=>rw[l]at q;exact q.elim
  |some v=>rw[l]at q;exact ar ⟨x,rfl,h1 v x _ l (I.tok _) q⟩
 ·rw[K]at q;have l:eW kvs k=none:=by
   cases l:eW kvs k with
   |none=>rfl
   |some x=>rw[l]at q;exact q.elim
  refine ar ⟨r,rfl,h2 l _ ?_⟩;obtain⟨j,es,ep,m,g2,g3,B,_,L⟩:=b;have keep:∀c ys,H c=some (.tup ys)→upd H a (.dN (fq kvs k z)) c=some (.tup ys):=fun c ys g=>by
   rw[ef (fC g e (fun z=>nomatch z))];exact g
  exact jR I (by rw[e];exact True.intro) D ⟨j,m⟩ ⟨hp,d,_,Paired.Kg (rel.put k (h.rel o) G) fun _ _ q=>⟨q.1,q.2.1.keeps keep,q.2.2⟩,j,es,ep,m,g2,g3,B,L⟩
end
def FY (H:Hp)(a:Addr):Prop:=∃kvs,Rd H a (.dN kvs)
theorem wW (I:eU X pins σ H s)(d:FY H a):s.TypeIs (.ref a) "dict"∧(∀b,Value.ref a=.ref b→∃ob,s.heap.get? b=some ob∧ob.dict=none):=by
 obtain⟨kvs,e⟩:=d;obtain⟨_,h,xs,_,g⟩:=uv I.hok e;refine⟨g.typeIs,fun b q=>?_⟩;cases q;obtain⟨ob,_,_,h1,h2,_⟩:=g;exact⟨ob,h1,h2.2.1⟩
inductive uU (ty:TE)(tx:TE)(σ:St)(Q:VK)(x:V)(H1:Hp):Prop
 |mk (a:_)(_:x=.ref a)(_:FY H1 a)(_:ty σ H1 fun y H2=>tx σ H2 fun z H3=>∃o,iy H3 a y o∧Q (o.getD z) H3):uU ty tx σ Q x H1
def Cq (td ty tx:TE):TE:=fun σ H Q=>td σ H fun x H1=>uU ty tx σ Q x H1
inductive uS (ty:TE)(tx:TE)(σ:St)(Q:VK)(x:V)(H1:Hp):Prop
 |mk (a:_)(_:x=.ref a)(_:FY H1 a)(_:ty σ H1 fun y H2=>tx σ H2 fun z H3=>∃kvs k,H3 a=some (.dN kvs)∧lP H3 k y∧kvs.length<sizeLine∧(∀v,eW kvs k=some v→Q v H3)∧(eW kvs k=none→Q z (upd H3 a (.dN (fq kvs k z))))):uS ty tx σ Q x H1
def Cn (td ty tx:TE):TE:=fun σ H Q=>td σ H fun x H1=>uS ty tx σ Q x H1
inductive xR (tv:TE)(rd:V→V→Hp→VK→Prop)(D:mZ)(σ:St)(x:V)(y:V)(H2:Hp):Prop
 |mk (a v:_)(_:x=.ref a)(_:iy H2 a y (some v))(_:tv σ H2 fun y2 H3=>rd v y2 H3 fun z H4=>∃H5,lD H4 a y z H5∧D.nx σ H5):xR tv rd D σ x y H2
def ET (td ty tv:TE)(rd:V→V→Hp→VK→Prop):TS:=fun D σ H=>td σ H fun x H1=>ty σ H1 fun y H2=>xR tv rd D σ x y H2
section
variable {o e f i value:Expr}{apos cpos pos tpos:Pos}{td ty tx tv:TE}
theorem qI (G:X.A.units+1<cLine)(C:PE X o td)(M:PE X e ty)(B:PE X f tx)(m:M2 X o "get" apos e f cpos):PE X (.Call (.Attribute o "get" apos) [e,f] [] cpos) (Cq td ty tx):=by
 intro pins s σ H Q I h;refine dz m.base m.few m.line PySem.F.plainAttrs_dict PySem.F.slot_dict_get PySem.F.type_dict_get (fV (C pins s σ H _ I h) ?_);rintro u E ⟨x,H1,i,J,a,ex,d,t⟩;subst ex;obtain rfl:u=Value.ref a:=J;obtain⟨D,j⟩:=wW i d;refine⟨D,j,?_⟩;rw[m.trees];refine Calls.callWith_builtin rfl (Calls.evalArgs_plain (Calls.spliced_cons (fV (M pins E σ H1 _ i t) fun T r ⟨y,H2,w,K,N⟩=>Calls.spliced_cons (fV (B pins r σ H2 _ w N) fun U S ⟨z,p,q,L,R,g,v⟩=>Calls.spliced_nil ?_))));exact DB G q g K L fun P O l b=>⟨_,p,l,b,v⟩
theorem yb (O:X.A.units+1<cLine)(J:PE X o td)(S:PE X e ty)(G:PE X f tx)(m:M2 X o "setdefault" apos e f cpos):PE X (.Call (.Attribute o "setdefault" apos) [e,f] [] cpos) (Cn td ty tx):=by
 intro pins s σ H Q I h;refine dz m.base m.few m.line PySem.F.plainAttrs_dict PySem.F.slot_dict_setdefault PySem.F.type_dict_setdefault (fV (J pins s σ H _ I h) ?_);rintro u N ⟨x,H1,g,P,a,ex,d,B⟩;subst ex;obtain rfl:u=Value.ref a:=P;obtain⟨K,j⟩:=wW g d;refine⟨K,j,?_⟩;rw[m.trees];refine Calls.callWith_builtin rfl (Calls.evalArgs_plain (Calls.spliced_cons (fV (S pins N σ H1 _ g B) fun iv w ⟨y,H2,D,R,U⟩=>Calls.spliced_cons (fV (G pins w σ H2 _ D U) fun fv Z ⟨z,q,r,i,kvs,k,T,t,M,C,L⟩=>Calls.spliced_nil ?_))));exact DA O r T t M R i (fun v Y p l b E=>⟨v,q,b,E,C v l⟩) fun l p b=>⟨z,_,b,i,L l⟩
theorem zZ {op:Operator}{rd:V→V→Hp→VK→Prop}(j:X.A.units+1<cLine)(K:PE X o td)(hi:PE X i ty)(R:PE X value tv)(b:FZ X op rd)(S:∀ov iv new,augStore i ov iv new=(do holding [new,ov,iv] (setItem ov iv new);release [new,ov,iv] [];pure .next)):PS X (.AugAssign (.Subscript o i tpos) op value pos) (ET td ty tv rd):=by
 intro pins s σ H D I h;refine wpAny_AugAssign_SubscriptAny (fV (K pins s σ H _ I h) ?_) S;rintro u M ⟨x,H1,r,N,E⟩;refine fV (hi pins M σ H1 _ r E) ?_;rintro iv s2 ⟨y,H2,G,l,a,v,ex,g,U⟩;subst ex;obtain rfl:u=Value.ref a:=N;refine p9 j G g l fun p Q B d=>fV (R pins Q σ H2 _ B U) ?_;rintro T m ⟨Y,t,q,e,F⟩;refine fV (b pins m σ t v Y p T _ q d e F) ?_;rintro w3 s5 ⟨z,H4,C,O,w,P,L⟩;exact p8 j C P l O fun Z J=>⟨σ,w,J,L⟩
end
theorem uE (J:X.calm=true):jr X (.type "list") (fun xs H Q=>∃p kvs,xs=[.ref p]∧Rd H p (.dK kvs)∧∀l,H l=none→Q (.ref l) (upd H l (.lst (kvs.map fun kv=>kV kv.1)))):=by
 intro pins s σ H xs us Q I r h;obtain⟨p,kvs,rfl,e,q⟩:=h;obtain⟨u,rfl,C⟩:=jo r;cases (show u=Value.ref p from C);obtain⟨z,hd,vs,rel,F⟩:=lu I.hok e;obtain⟨ep,m⟩:=F.dictAt;have B:=rel.length;refine W.kdl_call (W.kdl_dict (knd:=fE X.prog X.w) (kvs:=vs) (ep:=ep) hd) (I.ok.hd J) m (by rw[←B];exact z) fun h' tk t c D G d=>?_;have E:=I.hok.fresh (aq s.heap.objs.size);refine⟨.ref s.heap.objs.size,_,I.laid (a:=s.heap.objs.size) (o:=.lst (kvs.map fun kv=>kV kv.1)) (t':=tk) (fun b o q=>D b o q) (aq _) ?_,rfl,q _ E⟩;refine⟨by rw[ab];exact z,t.toList,c,?_,by rw[G]⟩;refine j4 (by rw[ab,B,br];exact d.1.symm) fun i x y j A=>?_;rw[bE]at A;obtain⟨k,v,h1,h2⟩:=d.2 i y A;rw[ae]at j;have g:kvs[i]?.map (·.1)=vs[i]?.map (·.1):=by rw[←ae,←ae,rel.keys]
 rw[h1]at g;cases hi:kvs[i]? with
 |none=>rw[hi]at j;cases j
 |some kv=>
  rw[hi]at j g;cases j;have:kv.1=k:=by simpa using g
  show eY (kV kv.1) y;rw[this];exact vV h2
theorem wc:jr X (.type "dict") (fun xs H Q=>∃p kvs,xs=[.ref p]∧Rd H p (.dK kvs)∧∀l,H l=none→Q (.ref l) (upd H l (.dK kvs))):=by
 intro pins s σ H xs us Q I r h;obtain⟨p,kvs,rfl,e,q⟩:=h;obtain⟨u,rfl,a⟩:=jo r;cases (show u=Value.ref p from a);exact Bs I e fun l s' b d=>⟨.ref l,_,d,rfl,q l b⟩
theorem CO {a:Expr}{ta:TE}(j:PE X a ta)(i:∀whole,isTrue a X.env whole=(do let v ←whole;standAt a.pos;holding [v] (truthy v))):PT X a (fun σ H Q=>ta σ H fun x H'=>∃p kvs,x=.ref p∧Rd H' p (.dK kvs)∧Q (!kvs.isEmpty) H'):=by
 intro pins s σ H Q I h;refine isTrue_plain (fV (j pins s σ H _ I h) ?_) (i _);rintro v o ⟨x,H1,b,e,p,kvs,ex,g,q⟩;subst ex;cases (show v=Value.ref p from e);obtain⟨w,l,vs,r,m⟩:=lu b.hok g;have d:kvs.length=vs.length:=Paired.length r;have t:sizeLine=16777216:=ck;exact wpAny_truthy_dict l m (by lia) ⟨H1,b.tok _,by rw[pZ r];exact q⟩
def KT.all {α:Type}(lt:Nat→Nat→Bool)(n:Nat)(Q:α→Prop):W.KasT α→Prop
 |.ret a=>Q a
 |.ask i j k=>i<n∧j<n∧KT.all lt n Q (k (lt i j))
theorem KT.bind {α β:Type}{lt:Nat→Nat→Bool}{n:Nat}{Q:β→Prop}{f:α→W.KasT β}:∀{t:W.KasT α},KT.all lt n (fun a=>KT.all lt n Q (f a)) t→KT.all lt n Q (t.bind f)
 |.ret _,h=>h
 |.ask i j k,h=>⟨h.1,h.2.1,KT.bind (t:=k (lt i j)) h.2.2⟩
theorem KT.mono {α:Type}{lt:Nat→Nat→Bool}{n:Nat}{Q Q':α→Prop}(hq:∀a,Q a→Q' a):∀{t:W.KasT α},KT.all lt n Q t→KT.all lt n Q' t
 |.ret a,h=>hq a h
 |.ask i j k,h=>⟨h.1,h.2.1,KT.mono hq (t:=k (lt i j)) h.2.2⟩
structure SO (lt:Nat→Nat→Bool):Prop where
 tr:∀a b c,lt a b=true→lt b c=true→lt a c=true
 as:∀a b,lt a b=true→lt b a=false
structure zh (lt:Nat→Nat→Bool)(n:Nat)(p:Array Nat):Prop where
 sz:p.size=n
 bd:∀i,i<n→p.getD i 0<n
 tt:∀i j,i<n→j<n→i≠j→lt (p.getD i 0) (p.getD j 0)=true∨lt (p.getD j 0) (p.getD i 0)=true
def mh (lt:Nat→Nat→Bool)(p:Array Nat)(m:Nat):Prop:=∀i j,i<j→j<m→lt (p.getD i 0) (p.getD j 0)=true
def zc (lt:Nat→Nat→Bool)(p:Array Nat)(m:Nat):Prop:=∀i j,i<j→j<m→lt (p.getD j 0) (p.getD i 0)=true
theorem uq {q:Array Nat}{j:Nat}(h:p[i]?=q[j]?):p.getD i 0=q.getD j 0:=by
 rw[cr,cr,h]
section
variable {lt:Nat→Nat→Bool}{n:Nat}
theorem mh.more (S:SO lt)(h:mh lt p m)(h1:1≤m)(hl:lt (p.getD (m-1) 0) (p.getD m 0)=true):mh lt p (m+1):=fun i j hij hj=>by
 by_cases e:j=m
 ·subst e;by_cases e2:i=j-1
  ·subst e2;exact hl
  ·exact S.tr _ _ _ (h i (j-1) (by lia) (by lia)) hl
 ·exact h i j hij (by lia)
theorem zc.more (S:SO lt)(h:zc lt p m)(h1:1≤m)(hl:lt (p.getD m 0) (p.getD (m-1) 0)=true):zc lt p (m+1):=fun i j hij hj=>by
 by_cases e:j=m
 ·subst e;by_cases e2:i=j-1
  ·subst e2;exact hl
  ·exact S.tr _ _ _ hl (h i (j-1) (by lia) (by lia))
 ·exact h i j hij (by lia)
theorem wg (S:SO lt){p:Array Nat}(P:zh lt n p):∀(f m:Nat),f=n-m→1≤m→m≤n→mh lt p m→KT.all lt n (fun r=>m≤r∧r≤n∧mh lt p r∧(r=n∨lt (p.getD r 0) (p.getD (r-1) 0)=true)) (W.kas_asc p f m)
 |0,m,hf,h1,hm,hu=>⟨aq _,hm,hu,.inl (by lia)⟩
 |f+1,m,hf,h1,hm,hu=>by
  refine⟨P.bd _ (by lia),P.bd _ (by lia),?_⟩;show KT.all lt n _ (if lt (p.getD m 0) (p.getD (m-1) 0)=true then W.KasT.ret m else W.kas_asc p f (m+1));by_cases hc:lt (p.getD m 0) (p.getD (m-1) 0)=true
  ·rw[if_pos hc];exact⟨aq _,hm,hu,.inr hc⟩
  ·rw[if_neg hc];have hl:=(P.tt m (m-1) (by lia) (by lia) (by lia)).resolve_left hc;exact KT.mono (fun r hr=>⟨by lia,hr.2⟩) (wg S P f (m+1) (by lia) (by lia) (by lia) (hu.more S h1 hl))
theorem wZ (S:SO lt){p:Array Nat}(P:zh lt n p):∀(f m:Nat),f=n-m→1≤m→m≤n→zc lt p m→KT.all lt n (fun r=>r.1=p∧m≤r.2.1∧r.2.1≤n∧zc lt p r.2.1∧r.2.2=0) (W.kas_desc f p m 0)
 |0,m,hf,h1,hm,hu=>⟨rfl,aq _,hm,hu,rfl⟩
 |f+1,m,hf,h1,hm,hu=>by
  refine⟨P.bd _ (by lia),P.bd _ (by lia),?_⟩;show KT.all lt n _ (if lt (p.getD m 0) (p.getD (m-1) 0)=true then (if 0>0 then W.kas_desc f (W.kas_rev p (m-(0+1)) m) (m+1) 0 else W.kas_desc f p (m+1) 0) else W.KasT.ask (p.getD (m-1) 0) (p.getD m 0) fun d=>if d=true then .ret (p,m,0) else W.kas_desc f p (m+1) (0+1));by_cases hc:lt (p.getD m 0) (p.getD (m-1) 0)=true
  ·rw[if_pos hc,if_neg (by decide)];exact KT.mono (fun r hr=>⟨hr.1,by lia,hr.2.2⟩) (wZ S P f (m+1) (by lia) (by lia) (by lia) (hu.more S h1 hc))
  ·rw[if_neg hc];have hl:=(P.tt m (m-1) (by lia) (by lia) (by lia)).resolve_left hc;refine⟨P.bd _ (by lia),P.bd _ (by lia),?_⟩;show KT.all lt n _ (if lt (p.getD (m-1) 0) (p.getD m 0)=true then W.KasT.ret (p,m,0) else W.kas_desc f p (m+1) (0+1));rw[if_pos hl];exact⟨rfl,aq _,hm,hu,rfl⟩
theorem pL (a:m≤p.size)(k:Nat):(W.kas_rev p 0 m).getD k 0=if k<m then p.getD (m-1-k) 0 else p.getD k 0:=by
 have e:=getElem?_mirror_all (i:=0) a k;unfold W.kas_rev;by_cases h:k<m
 ·rw[if_pos h];rw[if_pos ⟨bo _,h⟩,Nat.zero_add]at e;exact uq e
 ·rw[if_neg h];rw[if_neg (fun z=>h z.2)]at e;exact uq e
theorem EU (P:zh lt n p)(a:m≤n):zh lt n (W.kas_rev p 0 m):=by
 refine⟨(W.kas_rev_size 0 m).trans P.sz,fun i hi=>?_,fun i j hi d b=>?_⟩
 ·rw[pL (by rw[P.sz];exact a)];by_cases h:i<m
  ·rw[if_pos h];exact P.bd _ (by lia)
  ·rw[if_neg h];exact P.bd _ hi
 ·rw[pL (by rw[P.sz];exact a),pL (by rw[P.sz];exact a)]
  repeat' split
  all_goals exact P.tt _ _ (by lia) (by lia) (by lia)
theorem zt (S:SO lt)(P:zh lt n p)(h1:1≤m)(a:m≤n)(e:zc lt p m):KT.all lt n (fun r=>1≤r.1∧r.1≤n∧mh lt r.2 r.1∧zh lt n r.2∧r.2.Perm p) (W.kas_tail3 m n p):=by
 have b:=EU P a;have h:mh lt (W.kas_rev p 0 m) m:=fun i j l g=>by
  rw[pL (by rw[P.sz];exact a),pL (by rw[P.sz];exact a),if_pos (by lia),if_pos g];exact e _ _ (by lia) (by lia)
 refine KT.bind (KT.mono (fun r d=>?_) (wg S b (n-m) m rfl h1 a h));exact⟨by lia,d.2.1,d.2.2.1,b,mirror_perm _ _ _ _⟩
theorem Bv (S:SO lt)(P:zh lt n p)(h2:2≤n):KT.all lt n (fun r=>1≤r.1∧r.1≤n∧mh lt r.2 r.1∧zh lt n r.2∧r.2.Perm p) (W.kas_count n p):=by
 unfold W.kas_count;refine KT.bind (KT.mono (fun m w=>?_) (wg S P (n-1) 1 rfl (aq _) (by lia) fun i j a b=>by lia));obtain⟨g,h,d,l⟩:=w;by_cases e:m=n
 ·rw[if_pos (by simpa using e)];exact⟨g,h,d,P,Array.Perm.refl _⟩
 ·rw[if_neg (by simpa using e)];by_cases h1:m>1
  ·rw[if_pos h1];refine⟨P.bd _ (by lia),P.bd _ (by lia),?_⟩;show KT.all lt n _ (if lt (p.getD 0 0) (p.getD (m-1) 0)=true then W.KasT.ret (m,p) else W.kas_descPart m n (W.kas_rev p 0 m));rw[if_pos (d 0 (m-1) (by lia) (by lia))];exact⟨g,h,d,P,Array.Perm.refl _⟩
  ·rw[if_neg h1];have:m=1:=by lia
   subst this;have o:=l.resolve_left (by lia);unfold W.kas_descPart;refine KT.bind (KT.mono (fun r s=>?_) (wZ S P (n-(1+1)) (1+1) rfl (by lia) (by lia) fun i j a b=>?_))
   ·obtain⟨q,y,v,t,x⟩:=s;rw[if_neg (by lia),q];exact zt S P (by lia) v t
   ·have:i=0∧j=1:=by lia
    obtain⟨rfl,rfl⟩:=this;exact o
theorem pN (S:SO lt){p:Array Nat}(P:zh lt n p){k:Nat}(g:k<n)(d:mh lt p k):∀(f l r:Nat),r-l≤f→l≤r→r≤k→(∀i,i<l→lt (p.getD i 0) (p.getD k 0)=true)→(∀i,r≤i→i<k→lt (p.getD k 0) (p.getD i 0)=true)→KT.all lt n (fun x=>x≤k∧(∀i,i<x→lt (p.getD i 0) (p.getD k 0)=true)∧∀i,x≤i→i<k→lt (p.getD k 0) (p.getD i 0)=true) (W.kas_place p k f l r)
 |0,l,r,hf,hlr,hrk,h1,h2=>by
  have:l=r:=by lia
  subst this;exact⟨hrk,h1,h2⟩
 |f+1,l,r,hf,hlr,hrk,h1,h2=>by
  unfold W.kas_place;by_cases e:l ≥ r
  ·rw[if_pos e];have:l=r:=by lia
   subst this;exact⟨hrk,h1,h2⟩
  ·rw[if_neg e];refine⟨P.bd _ (by lia),P.bd _ (by lia),?_⟩;show KT.all lt n _ (if lt (p.getD k 0) (p.getD ((l+r) / 2) 0)=true then W.kas_place p k f l ((l+r) / 2) else W.kas_place p k f ((l+r) / 2+1) r);by_cases hc:lt (p.getD k 0) (p.getD ((l+r) / 2) 0)=true
   ·rw[if_pos hc];refine pN S P g d f l ((l+r) / 2) (by lia) (by lia) (by lia) h1 fun i a b=>?_;by_cases e2:i=(l+r) / 2
    ·subst e2;exact hc
    ·exact S.tr _ _ _ hc (d _ _ (by lia) b)
   ·rw[if_neg hc];have h:=(P.tt k ((l+r) / 2) g (by lia) (by lia)).resolve_left hc;refine pN S P g d f ((l+r) / 2+1) r (by lia) (by lia) hrk (fun i a=>?_) h2;by_cases e2:i=(l+r) / 2
    ·subst e2;exact h
    ·exact S.tr _ _ _ (d i _ (by lia) (by lia)) h
theorem FQ {k d:Nat}(b:k<p.size)(a:d≤k)(i:Nat):(bubble p k d).getD i 0=if i=k-d then p.getD k 0 else if k-d<i∧i≤k then p.getD (i-1) 0 else p.getD i 0:=by
 have e:=getElem?_bubble b d a i;by_cases h1:i=k-d
 ·rw[if_pos h1]at e ⊢;exact uq e
 ·rw[if_neg h1]at e ⊢;by_cases h2:k-d<i∧i≤k
  ·rw[if_pos h2]at e ⊢;exact uq e
  ·rw[if_neg h2]at e ⊢;exact uq e
theorem By (S:SO lt):∀(f k:Nat) (p:Array Nat),zh lt n p→f=n-k→k≤n→mh lt p k→KT.all lt n (fun q=>mh lt q n∧zh lt n q∧q.Perm p) (W.kas_bin f p k)
 |0,k,p,P,hf,hk,hu=>by
  have:k=n:=by lia
  subst this;exact⟨hu,P,Array.Perm.refl _⟩
 |f+1,k,p,P,hf,hk,hu=>by
  have m:k<n:=by lia
  have w:k<p.size:=by rw[P.sz];exact m
  unfold W.kas_bin;refine KT.bind (KT.mono (fun l v=>?_) (pN S P m hu k 0 k (by lia) (by lia) (aq _) (fun i a=>by lia) fun i a b=>by lia));obtain⟨y,s,t⟩:=v;have d:=fun i=>FQ (p:=p) w (show k-l≤k by lia) i;rw[show k-(k-l)=l by lia]at d;have e:=P.tt;have h:=P.bd;unfold mh at hu;obtain⟨g,hg⟩:∃g:Nat→Nat,∀i,p.getD i 0=g i:=⟨fun i=>p.getD i 0,fun _=>rfl⟩;simp only[hg]at d s t e hu h;refine KT.mono (fun q r=>⟨r.1,r.2.1,r.2.2.trans (bubble_perm _ _ _)⟩) (By S f (k+1) (bubble p k (k-l)) ⟨(bubble_size _ _ _).trans P.sz,fun i hi=>?_,fun i j hi x o=>?_⟩ (by lia) (by lia) fun i j o x=>?_)
  ·rw[d]
   repeat' split
   all_goals exact h _ (by lia)
  ·rw[d,d]
   repeat' split
   all_goals first | (exfalso;lia) | exact e _ _ (by lia) (by lia) (by lia)
  ·rw[d,d]
   repeat' split
   all_goals first | (exfalso;lia) | exact s _ (by lia) | exact t _ (by lia) (by lia) | exact hu _ _ (by lia) (by lia)
theorem Ct (S:SO lt)(h2:2≤n)(tt:∀i j,i<n→j<n→i≠j→lt i j=true∨lt j i=true):KT.all lt n (fun q=>mh lt q n∧q.size=n∧q.toList.Perm (List.range n)) (W.kas_sort n):=by
 have e:∀i,i<n→(List.toArray (List.range n)).getD i 0=i:=fun i hi=>by
  rw[cr];simp[hi]
 have P:zh lt n (List.toArray (List.range n)):=⟨by simp,fun i hi=>by rw[e i hi];exact hi,fun i j hi h b=>by rw[e i hi,e j h];exact tt i j hi h b⟩;unfold W.kas_sort;refine KT.bind (KT.mono (fun r l=>?_) (Bv S P h2));obtain⟨p,m,d,g,o⟩:=l;have pm:∀{q:Array Nat},q.Perm r.2→q.toList.Perm (List.range n):=fun a=>by
  have:=Array.perm_iff_toList_perm.mp (a.trans o);simpa using this
 by_cases hlt:r.1<n
 ·rw[if_pos hlt,show max r.1 1=r.1 by lia];exact KT.mono (fun q a=>⟨a.1,a.2.1.sz,pm a.2.2⟩) (By S (n-r.1) r.1 r.2 g rfl m d)
 ·rw[if_neg hlt];have:r.1=n:=by lia
  rw[this]at d;exact⟨d,g.sz,pm (Array.Perm.refl _)⟩
end
theorem KT.wp {α:Type}{lt:Nat→Nat→Bool}{n:Nat}{cmp:Nat→Nat→(Bool→Shared→Prop)→Shared→Prop}{s:Shared}{Q:α→Prop}{R:α→Shared→Prop}(hc:∀i j,i<n→j<n→∀(C:Bool→Shared→Prop),C (lt i j) s→cmp i j C s)(hr:∀a,Q a→R a s):∀{t:W.KasT α},KT.all lt n Q t→t.kasWp cmp R s
 |.ret a,h=>hr a h
 |.ask i j k,h=>hc i j h.1 h.2.1 _ (KT.wp hc hr (t:=k (lt i j)) h.2.2)
abbrev SI:=Str×Int
def oh (a b:SI):Bool:=if a.1=b.1 then decide (a.2<b.2) else decide (a.1.cps.toList<b.1.cps.toList)
theorem u4 {a b:Str}(h:a.cps.toList=b.cps.toList):a=b:=by
 cases a;cases b;simp only[Str.mk.injEq];exact Array.toList_inj.mp h
theorem yF {a c:SI}(h1:oh a b=true)(h2:oh b c=true):oh a c=true:=by
 unfold oh at *;by_cases e1:a.1=b.1
 ·by_cases e2:b.1=c.1
  ·rw[if_pos e1]at h1;rw[if_pos e2]at h2;rw[if_pos (e1.trans e2)];simp only[ax]at *;lia
  ·rw[if_neg e2]at h2;rw[if_neg (fun z=>e2 (e1.symm.trans z)),e1];exact h2
 ·by_cases e2:b.1=c.1
  ·rw[if_neg e1]at h1;rw[if_neg (fun z=>e1 (z.trans e2.symm)),←e2];exact h1
  ·rw[if_neg e1]at h1;rw[if_neg e2]at h2;simp only[ax]at h1 h2;have d:=List.lt_trans h1 h2;rw[if_neg (fun z=>by rw[z]at d;exact List.lt_irrefl _ d)];simpa using d
theorem qN {a:SI}(h:oh a b=true):oh b a=false:=by
 unfold oh at *;by_cases e:a.1=b.1
 ·rw[if_pos e]at h;rw[if_pos e.symm];simp only[ax,decide_eq_false_iff_not]at *;lia
 ·rw[if_neg e]at h;rw[if_neg (fun z=>e z.symm)];simp only[ax,decide_eq_false_iff_not]at *;exact fun z=>List.lt_irrefl _ (List.lt_trans h z)
theorem yG {a:SI}(h:a≠b):oh a b=true∨oh b a=true:=by
 unfold oh;by_cases e:a.1=b.1
 ·rw[if_pos e,if_pos e.symm];simp only[ax];have:a.2≠b.2:=fun z=>h (Prod.ext e z)
  lia
 ·rw[if_neg e,if_neg (fun z=>e z.symm)];simp only[ax];by_cases h1:a.1.cps.toList<b.1.cps.toList
  ·exact .inl h1
  ·by_cases h2:b.1.cps.toList<a.1.cps.toList
   ·exact .inr h2
   ·exact absurd (u4 (List.le_antisymm (List.not_lt.mp h2) (List.not_lt.mp h1))) e
section
variable {prog:Program}
theorem yH {vs:List Value}{n:Nat}{P:PySem.Fin→Shared→Prop}{lt:Nat→Nat→Bool}{κ:SortKind}(x:s.heap.get? a=some (seqObj "list" vs.toArray n))(F:vs.length<64)(S:SO lt)(tt:∀i j,i<vs.length→j<vs.length→i≠j→lt i j=true∨lt j i=true)(N:∀h',(∀b o,b≠a→s.heap.get? b=some o→h'.get? b=some o)→2≤vs.length→∀Q:SortKind→Shared→Prop,Q κ {s with heap:=h'}→wpAny (model prog w) A (keyKind' vs.toArray) Q E {s with heap:=h'})(O:∀h',(∀b o,b≠a→s.heap.get? b=some o→h'.get? b=some o)→∀i j,i<vs.length→j<vs.length→∀C:Bool→Shared→Prop,C (lt i j) {s with heap:=h'}→W.kas_ask prog w A κ vs i j C {s with heap:=h'})(h:∀p:List Nat,p.Perm (List.range vs.length)→p.Pairwise (fun i j=>lt i j=true)→P (.done (.ret .none)) {s with heap:=sortedHeap s.heap a vs (p.map fun i=>vs.getD i Value.none).toArray}):wpAny (model prog w) A (Builtin.«list.sort» ⟨[.ref a],[]⟩) P E s:=by
 rw[list_sort_plain];have J:a<s.heap.objs.size:=aN x;have R:vs.toArray.size=vs.length:=aO ..;refine ac (listItems_at x rfl (ac (listUpdate_at x rfl ?_)));obtain⟨e1,ho1⟩:∃e1,(s.heap.update a (Obj.mapSeq fun _=>(#[]:Array Value))).get? a=some (seqObj "list" #[] e1):=⟨_,get?_update_seq x (fun _=>#[])⟩;refine ac (seqEpoch_at ho1 rfl (ac (wpAny_newTuple (ac (wpAny_newList (bF ?_))))));have keep:∀b o,b≠a→s.heap.get? b=some o→(((s.heap.update a (Obj.mapSeq fun _=>(#[]:Array Value))).push (seqObj "tuple" vs.toArray 0)).push (seqObj "list" #[] 0)).get? b=some o:=fun b o M e=>by
  have m:=aN e;rw[cZ _ _ _ (by rw[size_push',dH];exact aU (dA m)),cZ _ _ _ (by rw[dH];exact aU m),Heap.get?_update_ne _ _ _ _ M]
  exact e
 have d:(((s.heap.update a (Obj.mapSeq fun _=>(#[]:Array Value))).push (seqObj "tuple" vs.toArray 0)).push (seqObj "list" #[] 0)).get? a=some (seqObj "list" #[] e1):=by
  rw[cZ _ _ _ (by rw[size_push',dH];exact aU (dA J)),cZ _ _ _ (by rw[dH];exact aU J)]
  exact ho1
 show wpAny (model prog w) A _ P E {s with heap:=((s.heap.update a (Obj.mapSeq fun _=>(#[]:Array Value))).push (seqObj "tuple" vs.toArray 0)).push (seqObj "list" #[] 0)};dsimp only;by_cases h2:vs.toArray.size<2
 ·rw[if_pos h2,if_pos h2];refine ac (ar ?_);rw[StateT.run_pure];refine ac (ar ?_);dsimp only;refine ac (seqEpoch_at d rfl (ac (listUpdate_at d rfl ?_ (hsz2:=by rw[Array.size_map];show(pairsOf vs).size≤_;rw[pairsOf_size,ck];lia))));simp only[bne_self_eq_false,cf,if_false];have e:Array.map (·.2) (arrOf (SortSt.mk' general' (vs.toArray.zip vs.toArray) #[] 7 none))=((List.range vs.length).map fun i=>vs.getD i Value.none).toArray:=by
   show Array.map (·.2) (vs.toArray.zip vs.toArray)=_
   match vs,h2 with
   |[],_=>simp
   |[v],_=>simp
   |_::_::_,h2=>exact absurd h2 (by simp)
  rw[e];refine ar (h (List.range vs.length) (List.Perm.refl _) ?_);have:vs.length<2:=by lia
  match hl:vs.length,this with
  |0,_=>exact List.Pairwise.nil
  |1,_=>exact List.pairwise_singleton _ _
 ·rw[if_neg h2,if_neg h2];refine ac (N _ keep (by lia) _ ?_);refine ac (b0 (W.kat_run (ks:=vs) (vs:=vs) (Q:=fun g s'=>s'={s with heap:=((s.heap.update a (Obj.mapSeq fun _=>(#[]:Array Value))).push (seqObj "tuple" vs.toArray 0)).push (seqObj "list" #[] 0)}∧failedOf g=none∧∃p:Array Nat,arrOf g=p.map (W.kas_item (vs.toArray.zip vs.toArray))∧mh lt p vs.length∧p.size=vs.length∧p.toList.Perm (List.range vs.length)) (G:=fun p s'=>s'={s with heap:=((s.heap.update a (Obj.mapSeq fun _=>(#[]:Array Value))).push (seqObj "tuple" vs.toArray 0)).push (seqObj "list" #[] 0)}∧mh lt p vs.length∧p.size=vs.length∧p.toList.Perm (List.range vs.length)) rfl (by lia) F (fun p g s' hp l y H=>⟨H.1,y,p,l,H.2⟩) (KT.wp (O _ keep) (fun p hp=>⟨rfl,hp⟩) (Ct S (by lia) tt))) (fun r s' K=>?_) fun _ _ z=>z);obtain⟨⟨⟩,g⟩:=r;obtain⟨rfl,y,p,l,L,t,B⟩:=K;have q:=W.kat_snds (ks:=vs) (vs:=vs) rfl l;dsimp only;rw[q,y];refine ac (seqEpoch_at d rfl (ac (listUpdate_at d rfl ?_ (hsz2:=by rw[aO,ab,br,t,ck];lia))));simp only[bne_self_eq_false,cf,if_false];refine ar (h p.toList B ?_);rw[List.pairwise_iff_getElem];intro i j hi I D;have:=L i j D (by rw[←t];simpa using I);rw[cr,cr,cB (by simpa using hi),cB (by simpa using I)]at this
  simpa using this
theorem vc {l:Addr}{vs:List Value}{lt:Nat→Nat→Bool}{κ:SortKind}(t:s.heap.IsList l vs.toArray)(r:vs.length<64)(S:SO lt)(tt:∀i j,i<vs.length→j<vs.length→i≠j→lt i j=true∨lt j i=true)(v:∀(A':Around) (E':Value→Shared→Prop) h',(∀b o,s.heap.get? b=some o→h'.get? b=some o)→2≤vs.length→∀Q:SortKind→Shared→Prop,Q κ {s with heap:=h'}→wpAny (model prog w) A' (keyKind' vs.toArray) Q E' {s with heap:=h'})(x:∀h',(∀b o,s.heap.get? b=some o→h'.get? b=some o)→∀i j,i<vs.length→j<vs.length→∀C:Bool→Shared→Prop,C (lt i j) {s with heap:=h'}→W.kas_ask prog w A.in1.in1 κ vs i j C {s with heap:=h'})(h:∀p:List Nat,p.Perm (List.range vs.length)→p.Pairwise (fun i j=>lt i j=true)→Q (.ref (s.heap.objs.size+1)) {s with heap:=sortedAll s.heap vs (p.map fun i=>vs.getD i Value.none).toArray}):wpAny (model prog w) A (call (.builtin "sorted") [.ref l]) Q E s:=by
 refine Calls.call_function_entry kind_sorted plain_sorted entry_sorted (args_sorted1 _) ?_;unfold Builtin.«sorted»;refine ac (m:=checkCount "sorted" 1 1 _) (ar ?_);refine ac (collect_list t (ac (wpAny_newList ?_)) (by rw[ck];lia));have d:((s.heap.push (seqObj "list" #[] 0)).update s.heap.objs.size (Obj.mapSeq (·++vs.toArray))).objs.size=s.heap.objs.size+1:=by rw[dH,size_push']
 have e:(((s.heap.push (seqObj "list" #[] 0)).update s.heap.objs.size (Obj.mapSeq (·++vs.toArray))).push (seqObj "list" vs.toArray 0)).get? (s.heap.objs.size+1)=some (seqObj "list" vs.toArray 0):=by rw[←d];exact aP _ rfl
 have keep:∀b o,s.heap.get? b=some o→b≠s.heap.objs.size+1∧(((s.heap.push (seqObj "list" #[] 0)).update s.heap.objs.size (Obj.mapSeq (·++vs.toArray))).push (seqObj "list" vs.toArray 0)).get? b=some o:=fun b o q=>by
  have a:b<s.heap.objs.size:=aN q;refine⟨aU (dA a),?_⟩;rw[cZ _ _ _ (by rw[d];exact aU (dA a)),Heap.get?_update_ne _ _ _ _ (aU a),cZ _ _ _ (aU a)]
  exact q
 show wpAny _ _ _ _ _ {s with heap:=((s.heap.push (seqObj "list" #[] 0)).update s.heap.objs.size (Obj.mapSeq (·++vs.toArray))).push (seqObj "list" vs.toArray 0)};rw[d];refine ac (bF (cg slot_list_sort ⟨_,e,rfl⟩ entry_list_sort (yH e r S tt (fun h' kp=>v _ _ h' fun b o q=>kp b o (keep b o q).1 (keep b o q).2) (fun h' kp=>x h' fun b o q=>kp b o (keep b o q).1 (keep b o q).2) fun p hp g=>⟨_,rfl,?_⟩) (args_list_sort _)));exact ar ⟨_,rfl,h p hp g⟩
end
def uR (H:Hp)(v:V)(k:SI):Prop:=∃q,v=.ref q∧H q=some (.tup [.str k.1,.int k.2])
theorem x9 {α:Type}{d:α}{xs:List α}{p:List Nat}(h:p.Perm (List.range xs.length)):(p.map fun i=>xs.getD i d).Perm xs:=by
 refine(h.map _).trans (List.Perm.of_eq ?_);refine List.ext_getElem? fun i=>?_;rw[ae];by_cases hi:i<xs.length
 ·rw[aj (by simpa using hi),aj hi]
  simp[hi]
 ·rw[dF (by simpa using hi),dF (by lia)]
  rfl
theorem mS:jr X (.builtin "sorted") (fun xs H Q=>∃(a:Addr) (vs:List V) (ks:List SI),xs=[.ref a]∧fb X.K H a vs∧Paired (uR H) vs ks∧ks.Nodup∧ks.length<64∧∀(p:Addr) (vs':List V) (ks':List SI),H p=none→Paired (uR H) vs' ks'→ks'.Perm ks→ks'.Pairwise (fun a b=>oh a b=true)→Q (.ref p) (upd H p (.lst vs'))):=by
 intro pins s σ H xs us Q I r h;obtain⟨a,vs,ks,rfl,hS,hp,ah,an,q⟩:=h;obtain⟨u,rfl,r1⟩:=jo r;cases (show u=Value.ref a from r1);obtain⟨g,rv,pl,hz⟩:=I.list hS;have l1:vs.length=g.length:=rv.length;have l2:vs.length=ks.length:=Paired.length hp;have B:∀i,(hi:i<g.length)→∃(b:Addr) (o:Obj) (t t':Tok) (n:Nat),g[i]=.ref b∧vs[i]?=some (V.ref b)∧H b=some (.tup [.str (ks.getD i (Str.empty,0)).1,.int (ks.getD i (Str.empty,0)).2])∧s.heap.get? b=some o∧o.cls=.type "tuple"∧o.data=.seq #[.str (ks.getD i (Str.empty,0)).1 t,.int (ks.getD i (Str.empty,0)).2 t'] n:=fun i hi=>by
  have D:vs[i]?=some (vs[i]'(by lia)):=aj (by lia);obtain⟨w',hw,M⟩:=rv.get D;rw[aj hi]at hw;obtain⟨k,hk,b,S,L⟩:=Ad hp D;have aa:ks.getD i (Str.empty,0)=k:=by rw[bb,hk];rfl
  rw[S]at M D;obtain⟨z,ts,rt,o,e,c,n,dd⟩:=(show fH X.prog X.w H s.heap b (.tup [.str k.1,.int k.2]) from I.hok b _ L);cases rt with
  |cons r1 r2=>
   cases r2 with
   |cons r3 r4=>
    cases r4;obtain⟨t,rfl⟩:=r1;obtain⟨t',rfl⟩:=r3;rw[aa];exact⟨b,o,t,t',n,(Option.some.inj hw).trans (show w'=Value.ref b from M),D,L,e,c,dd⟩
 have gd:∀i,(hi:i<g.length)→g.getD i Value.none=g[i]:=fun i hi=>by rw[bb,aj hi];rfl
 refine vc (lt:=fun i j=>oh (ks.getD i (Str.empty,0)) (ks.getD j (Str.empty,0))) (κ:=tuples' (Value.type "str" != Value.type "tuple")) pl.isList (by lia) ⟨fun _ _ _=>yF,fun _ _=>qN⟩ (fun i j hi G ag=>yG fun z=>ag ?_) (fun A' E' h' kp h2 Q' hq=>?_) (fun h' kp i j hi G C E=>?_) fun p F Y=>?_
 ·rw[bb,bb,aj (by lia),aj (by lia)]at z
  exact(List.getElem_inj ah).mp z
 ·have P:∀(m:Nat),m≤g.length→∃fs,W.KatTups h' (g.drop m) fs∧fs.length=g.length-m∧∀v∈fs,∃x t,v=.str x t:=by
   intro m hm;obtain⟨d,hd⟩:∃d,d=g.length-m:=⟨_,rfl⟩
   induction d generalizing m with
   |zero=>
    have:m=g.length:=by lia
    subst this;exact⟨[],by rw[List.drop_length];exact .nil,by simp,fun v D=>nomatch D⟩
   |succ d ih=>
    have O:m<g.length:=by lia
    obtain⟨fs,f1,f2,f3⟩:=ih (m+1) (by lia) (by lia);obtain⟨b,o,t,t',n,y,_,_,e3,e4,U⟩:=B m O;refine⟨.str (ks.getD m (Str.empty,0)).1 t::fs,?_,by rw[aA];lia,fun v D=>?_⟩
    ·rw[dR O,y];exact .cons (kp _ _ e3) e4 U rfl f1
    ·rcases am.mp D with z | z
     ·exact⟨_,_,z⟩
     ·exact f3 v z
  obtain⟨fs,f1,f2,f3⟩:=P 0 (bo _);refine W.kat_kind (s:={s with heap:=h'}) (T:=.type "str") (fs:=fs) (by simpa using f1) (by lia) (fun v D=>?_) (by decide) hq;obtain⟨x,t,rfl⟩:=f3 v D;exact .now
 ·obtain⟨b,o,t,t',n,y,_,_,e3,e4,U⟩:=B i hi;obtain⟨b2,o2,t2,Z,n2,g1,_,_,g3,g4,g5⟩:=B j G;unfold W.kas_ask;rw[gd i hi,gd j G,y,g1,show(Value.type "str" != Value.type "tuple")=true by decide];generalize ks.getD i (Str.empty,0)=k1 at *;generalize ks.getD j (Str.empty,0)=k2 at *;refine W.kat_lt (s:={s with heap:=h'}) (kp _ _ e3) U (kp _ _ g3) g5 ?_;show W.KatLex X.prog X.w X.A.in1.in1 true (decide (2<2)) C [(.str k1.1 t,.str k2.1 t2),(.int k1.2 t',.int k2.2 Z)] 0 _;refine W.kat_cons (SeqAt.EqAt.str_str _ _ _ _ _ _ _ _ ?_);refine W.kat_go (fun J=>W.kat_yes (W.kat_cons (SeqAt.EqAt.int_int _ _ _ _ _ _ _ _ (W.kat_go (fun R=>W.kat_yes (W.kat_nil ?_)) fun R=>W.kat_no ?_)))) (fun J=>W.kat_no ?_)
  ·have y:k1.1=k2.1:=by simpa using J
   have e2:k1.2=k2.2:=by simpa using R
   have:oh k1 k2=decide (2<2):=by unfold oh;rw[if_pos y,e2];simp
   try dsimp only at E
   rw[this]at E;exact E
  ·have y:k1.1=k2.1:=by simpa using J
   refine W.kat_one _ _ (lt_int ?_);have:oh k1 k2=decide (k1.2<k2.2):=by unfold oh;rw[if_pos y]
   try dsimp only at E
   rw[this]at E;exact E
  ·have y:¬k1.1=k2.1:=by simpa using J
   have:oh k1 k2=decide (k1.1.cps.toList<k2.1.cps.toList):=by unfold oh;rw[if_neg y]
   try dsimp only at E
   rw[this]at E;exact oneLt_str E
 ·have L:∀i∈p,i<g.length:=fun i hi=>List.mem_range.mp (F.subset hi);have pk:∀(l:List Nat),(∀i∈l,i<g.length)→Paired (uR H) (l.map fun i=>vs.getD i V.non) (l.map fun i=>ks.getD i (Str.empty,0)):=fun l=>by
   induction l with
   |nil=>exact fun _=>.nil
   |cons i l ih=>
    intro N;obtain⟨b,o,t,t',n,y,ev,S,_⟩:=B i (N i (by simp));rw[aE,aE];refine .cons ⟨b,?_,S⟩ (ih fun j G=>N j (by simp[G]));rw[bb,ev];rfl
  have pv:∀(l:List Nat),(∀i∈l,i<g.length)→fN (l.map fun i=>vs.getD i V.non) (l.map fun i=>g.getD i Value.none):=fun l=>by
   induction l with
   |nil=>exact fun _=>.nil
   |cons i l ih=>
    intro N;have hi:=N i (by simp);obtain⟨b,o,t,t',n,y,ev,S,_⟩:=B i hi;rw[aE,aE];refine .cons ?_ (ih fun j G=>N j (by simp[G]));rw[bb,ev,gd i hi,y];exact rfl
  have al:p.length=g.length:=by rw[F.length_eq,List.length_range]
  have ad:=I.hok.fresh (dB s.heap.objs.size);obtain⟨e,J⟩:=sortedAll_at s.heap g (p.map fun i=>g.getD i Value.none).toArray;refine⟨.ref (s.heap.objs.size+1),upd H (s.heap.objs.size+1) (.lst (p.map fun i=>vs.getD i V.non)),I.laid (t':=s.toks) (fun b u q=>sortedAll_old q) (dB _) ⟨?_,_,e,pv p L,by rw[J]⟩,rfl,q _ _ _ ad (pk p L) (x9 ?_) ?_⟩
  ·rw[ab,al,←l1];exact hz
  ·rw[show ks.length=g.length by lia];exact F
  ·rw[cC];exact Y
end L2
namespace FB
open PySem L2 PyProof.Rows
variable {F:List Fk}{L L':iu}{a b i m m' p spot:Nat}{es:List En}{j:Pk}{ls:List Ln}{s:Sd}{v:Int}{w:Option Pk}{x:Str}
structure eg where
 es:List En
 sn:List Nd
 ks:List Pk
 mem:∀k,k∈ks↔k∈es.map eX
 nd:ks.Nodup
 pm:ks.Perm (es.map eX)
 ord:ks.Pairwise fun a b=>oh a b=true
 srt:∀(i j:Nat) (a b:Pk),ks[i]?=some a→ks[j]?=some b→i<j→a.1=b.1→a.2<b.2
def eg.n (c:eg):Nat:=c.ks.length
def eg.ix (c:eg)(k:Pk):Nat:=c.ks.idxOf k
def eg.has (c:eg)(m:Nat)(k:Pk):Prop:=k∈c.ks∧m.testBit (c.ix k)=true
instance (c:eg) (m:Nat) (k:Pk):Decidable (c.has m k):=inferInstanceAs (Decidable (_∧_))
def eg.bit (c:eg)(k:Pk):Nat:=2^c.ix k
def eg.KC (c:eg):Option Pk→Nat
 |none=>0
 |some k=>c.bit k
def eg.listed (c:eg)(m:Nat):List Pk:=c.ks.filter fun k=>m.testBit (c.ix k)
def ig (a b:Nat):Nat:=a ^^^ (a &&& b)
theorem eg.KD (c:eg){k:Pk}(h:k∈c.ks):c.ix k<c.n:=bz.mpr h
theorem eg.KF (c:eg){k:Pk}(h:k∈c.ks):c.ks[c.ix k]?=some k:=by
 rw[aj (c.KD h)];exact congrArg some (cw (c.KD h))
theorem eg.KG (c:eg){k:Pk}(a:j∈c.ks)(b:k∈c.ks)(h:c.ix j=c.ix k):j=k:=by
 have h1:=c.KF a;rw[h,c.KF b]at h1;exact(Option.some.inj h1).symm
theorem eg.KH (c:eg){k:Pk}(h:c.ks[i]?=some k):c.ix k=i:=by
 have a:=ak h;have h1:=c.KF a;have hi:=(af.mp h).1;have b:=c.KD a;rw[aj hi]at h;rw[aj b]at h1;exact(List.getElem_inj c.nd).mp ((Option.some.inj h1).trans (Option.some.inj h).symm)
theorem eg.KI {c:eg}{k:Pk}:k∈c.listed m↔c.has m k:=by
 unfold eg.listed eg.has;rw[aW]
theorem eg.KJ {c:eg}{k:Pk}:c.has (a ||| b) k↔c.has a k∨c.has b k:=by
 unfold eg.has;rw[Nat.testBit_or,cV]
 constructor
 ·rintro⟨h,x | x⟩
  ·exact .inl ⟨h,x⟩
  ·exact .inr ⟨h,x⟩
 ·rintro(⟨h,x⟩ | ⟨h,x⟩)
  ·exact⟨h,.inl x⟩
  ·exact⟨h,.inr x⟩
theorem eg.KK {c:eg}{k:Pk}:c.has (a &&& b) k↔c.has a k∧c.has b k:=by
 unfold eg.has;rw[Nat.testBit_and,aD]
 constructor
 ·rintro⟨h,x,y⟩;exact⟨⟨h,x⟩,⟨h,y⟩⟩
 ·rintro⟨⟨h,x⟩,⟨_,y⟩⟩;exact⟨h,x,y⟩
theorem oe (a b i:Nat):(ig a b).testBit i=(a.testBit i&&!b.testBit i):=by
 unfold ig;rw[Nat.testBit_xor,Nat.testBit_and];cases a.testBit i <;> cases b.testBit i <;> rfl
theorem eg.KL {c:eg}{k:Pk}:c.has (ig a b) k↔c.has a k∧¬c.has b k:=by
 unfold eg.has;rw[oe,aD,bQ]
 constructor
 ·rintro⟨h,x,y⟩;exact⟨⟨h,x⟩,fun z=>by rw[z.2]at y;cases y⟩
 ·rintro⟨⟨h,x⟩,y⟩;exact⟨h,x,bV.mpr fun z=>y ⟨h,z⟩⟩
theorem eg.KM {c:eg}{k:Pk}(a:j∈c.ks):c.has (c.bit j) k↔k=j:=by
 unfold eg.has eg.bit;rw[Nat.testBit_two_pow]
 constructor
 ·rintro⟨h,x⟩;exact c.KG h a (aR x).symm
 ·rintro rfl;exact⟨a,ao rfl⟩
theorem eg.KN {c:eg}{k:Pk}:¬c.has 0 k:=fun h=>by
 have:=h.2;rw[Nat.zero_testBit]at this;cases this
theorem eg.KO (c:eg){k:Pk}(h:k∈c.ks):c.bit k<2^c.n:=Nat.pow_lt_pow_right (by decide) (c.KD h)
theorem ji {n:Nat}(ha:a<2^n)(hb:b<2^n):a ||| b<2^n:=Nat.or_lt_two_pow ha hb
theorem nW {n:Nat}(ha:a<2^n):a &&& b<2^n:=bJ Nat.and_le_left ha
theorem jB {n:Nat}(ha:a<2^n):ig a b<2^n:=Nat.xor_lt_two_pow ha (nW ha)
theorem eg.ext {c:eg}(j:a<2^c.n)(l:b<2^c.n)(h:∀k,c.has a k↔c.has b k):a=b:=by
 refine Nat.eq_of_testBit_eq fun i=>?_;by_cases hi:i<c.n
 ·have e:c.ks[i]?=some c.ks[i]:=aj hi;have d:=ak e;have g:=c.KH e;have:=h c.ks[i];unfold eg.has at this;rw[g]at this;rw[cW]
  constructor
  ·exact fun z=>(this.mp ⟨d,z⟩).2
  ·exact fun z=>(this.mpr ⟨d,z⟩).2
 ·have hp:2^c.n≤2^i:=Nat.pow_le_pow_right (by decide) (by lia);rw[Nat.testBit_lt_two_pow (by lia),Nat.testBit_lt_two_pow (by lia)]
theorem eg.KP {c:eg}(ha:a<2^c.n)(h:∀k,¬c.has a k):a=0:=eg.ext ha (bM _) fun k=>⟨fun z=>(h k z).elim,fun z=>(eg.KN z).elim⟩
theorem eg.KQ {c:eg}(d:a<2^c.n):c.listed a=[]↔a=0:=by
 constructor
 ·intro h;refine eg.KP d fun k b=>?_;have:=eg.KI.mpr b;rw[h]at this;cases this
 ·rintro rfl;unfold eg.listed;simp
theorem eg.KR (c:eg)(m:Nat):(c.listed m).Nodup:=c.nd.sublist List.filter_sublist
def eg.maskOf (c:eg)(p:Pk→Bool):Nat:=(c.ks.filter p).foldl (fun m k=>m ||| c.bit k) 0
theorem eg.KS {c:eg}:∀(l:List Pk) (m:Nat),(∀k∈l,k∈c.ks)→∀k,c.has (l.foldl (fun m k=>m ||| c.bit k) m) k↔c.has m k∨k∈l
 |[],m,_,k=>by simp
 |x::l,m,h,k=>by
  rw[List.foldl_cons,eg.KS l _ (fun y hy=>h y (by simp[hy])),eg.KJ,eg.KM (h x (by simp)),am,or_assoc]
theorem eg.fold_lt {c:eg}:∀(l:List Pk) (m:Nat),(∀k∈l,k∈c.ks)→m<2^c.n→l.foldl (fun m k=>m ||| c.bit k) m<2^c.n
 |[],m,_,hm=>hm
 |x::l,m,h,hm=>eg.fold_lt l _ (fun y hy=>h y (by simp[hy])) (ji hm (c.KO (h x (by simp))))
theorem eg.KU {c:eg}{p:Pk→Bool}{k:Pk}:c.has (c.maskOf p) k↔k∈c.ks∧p k=true:=by
 unfold eg.maskOf;rw[eg.KS _ _ fun y a=>(aW.mp a).1,aW];exact⟨fun z=>z.elim (fun y=>(eg.KN y).elim) id,.inr⟩
theorem eg.KW (c:eg)(p:Pk→Bool):c.maskOf p<2^c.n:=eg.fold_lt _ _ (fun y hy=>(aW.mp hy).1) (bM _)
def eg.needs (c:eg)(w:Option Pk):List Nd:=gK c.es c.sn w
def eg.KY (c:eg)(w:Option Pk)(k:Pk):Prop:=∃n∈c.needs w,qm n k=true
def eg.foe (c:eg)(j k:Pk):Prop:=c.KY (some j) k∨c.KY (some k) j
theorem eg.KZ {c:eg}{k:Pk}(h:c.foe j k):c.foe k j:=h.elim .inr .inl
def eg.K0 (c:eg)(m:Nat):Option Pk→Prop
 |none=>True
 |some k=>c.has m k
abbrev iu:=List (Nat×Rs)
def eg.ln (c:eg)(e:Nat×Rs):Ln:=(c.listed e.1,e.2)
def eg.lns (c:eg)(L:iu):List Ln:=L.map c.ln
def eg.K1 (c:eg)(m:Nat):Prop:=∀j k,c.has m j→c.has m k→j.1=k.1→j=k
structure gX (c:eg)(L:iu):Prop where
 good:∀i e,L[i]?=some e→jj c.es c.sn (c.lns L) (i:Nat) (c.ln e)=true
 lt:∀e∈L,e.1<2^c.n
 one:∀e∈L,c.K1 e.1
 nd:(L.map (·.1)).Nodup
theorem AG {α:Type}{xs ys:List α}{i:Int}(h:i<(xs.length:Int)):iD (xs++ys) i=iD xs i:=by
 unfold iD;by_cases h0:0≤i
 ·rw[if_pos h0,if_pos h0,aI (by lia)]
 ·rw[if_neg h0,if_neg h0]
theorem Bz {ys:List Ln}{ps:List Pk}{b:Int}(h:spot≤ls.length):uF (ls++ys) spot ps x b v=uF ls spot ps x b v:=by
 unfold uF;by_cases hb:b<(spot:Int)
 ·rw[AG (by lia)]
 ·rw[au hb,bZ,bZ]
theorem qO {sn:List Nd}{ys:List Ln}{l:Ln}(h:spot≤ls.length):jj es sn (ls++ys) spot l=jj es sn ls spot l:=by
 unfold jj;cases hn:iD (gK es sn l.2.who) l.2.place with
 |none=>rfl
 |some n=>
  dsimp only
  congr 1
  cases ht:l.2.told with
  |one k=>rfl
  |many bs=>
   show kF es (ls++ys) spot l.1 n bs=kF es ls spot l.1 n bs;unfold kF
   congr 1
   refine congrArg (fun f=>List.all _ f) (funext fun a=>?_);exact Bz h
theorem gX.nil (c:eg):gX c []:=⟨(fun i e h=>by simp at h),(fun e h=>nomatch h),(fun e h=>nomatch h),bY⟩
theorem gX.add {c:eg}(h:gX c L){r:Rs}(j:m<2^c.n)(l:c.K1 m)(t:m∉L.map (·.1))(q:jj c.es c.sn (c.lns L) (L.length:Nat) (c.listed m,r)=true):gX c (L++[(m,r)]):=by
 have o:c.lns (L++[(m,r)])=c.lns L++[(c.listed m,r)]:=by unfold eg.lns;rw[ay];rfl
 have v:(c.lns L).length=L.length:=ab _;refine⟨fun i e d=>?_,fun e d=>?_,fun e d=>?_,?_⟩
 ·rw[o];by_cases hi:i<L.length
  ·rw[aI hi]at d;rw[qO (by lia)];exact h.good i e d
  ·have g:i=L.length:=by
    have:=(af.mp d).1;rw[aF,aT]at this
    lia
   subst g;rw[aZ (aq _),bS]at d;have:e=(m,r):=by simpa using d.symm
   subst this;rw[qO (by lia)];exact q
 ·rcases aB.mp d with y | y
  ·exact h.lt e y
  ·rw[ai.mp y];exact j
 ·rcases aB.mp d with y | y
  ·exact h.one e y
  ·rw[ai.mp y];exact l
 ·rw[ay,bU];exact⟨h.nd,by simp,fun a p b s e=>t (by rw[show b=m by simpa using s]at e;exact e▸p)⟩
theorem zi {c:eg}(h:c.K0 m w):Es c.es (c.listed m) w=true:=by
 cases w with
 |none=>rfl
 |some k=>
  have a:c.has m k:=h;show(decide (k∈c.listed m)&&decide (k∈c.es.map eX))=true;rw[ao (eg.KI.mpr a),ao ((c.mem k).mp a.1)];rfl
theorem Ar {c:eg}{k:Pk}{n:Nd}(a:c.K0 m w)(d:c.has m k)(e:(c.needs w)[i]?=some n)(b:qm n k=true):jj c.es c.sn ls spot (c.listed m,⟨w,(i:Nat),.one k⟩)=true:=by
 unfold jj;rw[zi a];dsimp only;rw[im,show(gK c.es c.sn w)[i]?=some n from e];show(decide (k∈c.listed m)&&qm n k)=true;rw[ao (eg.KI.mpr d),b];rfl
theorem yc {c:eg}{n:Nd}{bs:List Nat}(h:c.K0 m w)(t:(c.needs w)[i]?=some n)(o:bs.length=(jl c.es n).length)(r:∀(j b:Nat) (v:Int),bs[j]?=some b→(jl c.es n)[j]?=some v→∃e,L[b]?=some e∧∀x,c.has e.1 x→x=(n.1,v)∨c.has m x):jj c.es c.sn (c.lns L) (L.length:Nat) (c.listed m,⟨w,(i:Nat),.many (bs.map fun b:Nat=>(b:Int))⟩)=true:=by
 unfold jj;rw[zi h];dsimp only;rw[im,show(gK c.es c.sn w)[i]?=some n from t];show kF c.es (c.lns L) (L.length:Nat) (c.listed m) n (bs.map fun b:Nat=>(b:Int))=true;unfold kF;rw[ab,ao o,cA,bc];rintro⟨b,v⟩ d;obtain⟨j,z⟩:=az.mp d;obtain⟨h1,h2⟩:=dQ.mp z;rw[ae]at h1;obtain⟨a,q,rfl⟩:=aw.mp h1;obtain⟨e,g,s⟩:=r j a v q h2;have l:a<L.length:=(af.mp g).1;unfold uF;dsimp only;rw[ao (by lia),ao (p:=((a:Nat):Int)<((L.length:Nat):Int)) (by lia),cA,cA,im];have A:(c.lns L)[a]?=some (c.ln e):=by unfold eg.lns;rw[ae,g];rfl
 rw[A];show((c.listed e.1).all fun p=>decide (p∈c.listed m)||decide (p=(n.1,v)))=true;rw[bc];intro p hp;rcases s p (eg.KI.mp hp) with y | y
 ·rw[ao y,Bool.or_true]
 ·rw[ao (eg.KI.mpr y),Bool.true_or]
def eg.K2 (c:eg)(L:iu)(m:Nat)(k:Pk):Prop:=∃e∈L,c.has e.1 k∧∀j,c.has e.1 j→j=k∨c.has m j
def eg.K3 (c:eg)(L:iu)(m:Nat)(k:Pk):Prop:=c.KY none k∨c.foe k k∨(∃j,c.has m j∧c.foe k j)∨c.K2 L m k
theorem eg.K2.mono {c:eg}{k:Pk}(h:c.K2 L m k)(hL:∀e∈L,e∈L')(hm:∀j,c.has m j→c.has m' j):c.K2 L' m' k:=
 (by obtain⟨e,he,h1,h2⟩:=h;exact⟨e,hL e he,h1,fun j hj=>(h2 j hj).imp id (hm j)⟩)
theorem eg.K3.mono {c:eg}{k:Pk}(h:c.K3 L m k)(b:∀e∈L,e∈L')(a:∀j,c.has m j→c.has m' j):c.K3 L' m' k:=by
 rcases h with h | h | ⟨j,h1,h2⟩ | h
 ·exact .inl h
 ·exact .inr (.inl h)
 ·exact .inr (.inr (.inl ⟨j,a j h1,h2⟩))
 ·exact .inr (.inr (.inr (eg.K2.mono h b a)))
structure Sd where
 picked:Nat
 dead:Nat
 wanted:List (Str×Option Pk)
def eQ:List Nd→List Str
 |[]=>[]
 |n::ns=>n.1::(eQ ns).filter fun x=>!decide (x=n.1)
theorem ia {x:Str}:∀{ns:List Nd},x∈eQ ns↔∃n∈ns,n.1=x
 |[]=>by simp[eQ]
 |n::ns=>by
  rw[eQ,am,aW,ia (ns:=ns)]
  constructor
  ·rintro(rfl | ⟨⟨m,hm,rfl⟩,_⟩)
   ·exact⟨n,by simp,rfl⟩
   ·exact⟨m,by simp[hm],rfl⟩
  ·rintro⟨m,hm,rfl⟩;by_cases h:m.1=n.1
   ·exact .inl h
   ·rcases am.mp hm with rfl | hm
    ·exact absurd rfl h
    ·exact .inr ⟨⟨m,hm,rfl⟩,by simpa using h⟩
theorem jh:∀ns:List Nd,(eQ ns).Nodup
 |[]=>bY
 |n::ns=>by
  rw[eQ,aV];exact⟨fun h=>by simpa using (aW.mp h).2,(jh ns).sublist List.filter_sublist⟩
def eg.start (c:eg):List Str:=eQ c.sn
def eg.isP (c:eg)(m:Nat)(x:Str):Prop:=∃j,c.has m j∧j.1=x
inductive eg.Named (c:eg)(m:Nat):Pk→Prop
 |start {k:Pk}:c.has m k→k.1∈(c.needs none).map (·.1)→c.Named m k
 |next {j k:Pk}:c.Named m j→c.has m k→k.1∈(c.needs (some j)).map (·.1)→c.Named m k
structure iE (c:eg)(L:iu)(s:Sd):Prop where
 pl:s.picked<2^c.n
 dl:s.dead<2^c.n
 just:∀k,c.has s.dead k→c.K3 L s.picked k
 sup:∀k∈c.ks,(c.KY none k∨c.foe k k∨∃j,c.has s.picked j∧c.foe k j)→c.has s.dead k
 off:∀k,c.has s.dead k→¬c.has s.picked k
 one:c.K1 s.picked
 named:∀k,c.has s.picked k→c.Named s.picked k
 wk:(s.wanted.map (·.1)).Nodup
 w1:∀x w,(x,w)∈s.wanted→¬c.isP s.picked x∧c.K0 s.picked w∧x∈(c.needs w).map (·.1)
 w2:∀w,c.K0 s.picked w→∀n∈c.needs w,c.isP s.picked n.1∨n.1∈s.wanted.map (·.1)
 ws:∀(i j:Nat) (x y:Str),(s.wanted.map (·.1))[i]?=some x→(s.wanted.map (·.1))[j]?=some y→y∈c.start→i<j→x∈c.start∧c.start.idxOf x<c.start.idxOf y
theorem iE.led {c:eg}(h:iE c L s)(hL:∀e∈L,e∈L'):iE c L' s:=⟨h.pl,h.dl,fun k hk=>eg.K3.mono (h.just k hk) hL fun _ z=>z,h.sup,h.off,h.one,h.named,h.wk,h.w1,h.w2,h.ws⟩
theorem iE.bar {c:eg}(h:iE c L s){k:Pk}(b:k∈c.ks)(g:¬c.has s.picked k)(d:c.K2 L s.picked k):iE c L {s with dead:=s.dead ||| c.bit k}:=by
 refine⟨h.pl,ji h.dl (c.KO b),fun j a=>?_,fun j a e=>eg.KJ.mpr (.inl (h.sup j a e)),fun j a=>?_,h.one,h.named,h.wk,h.w1,h.w2,h.ws⟩
 ·rcases eg.KJ.mp a with y | y
  ·exact h.just j y
  ·rw[(eg.KM b).mp y];exact .inr (.inr (.inr d))
 ·rcases eg.KJ.mp a with y | y
  ·exact h.off j y
  ·rw[(eg.KM b).mp y];exact g
structure Fk where
 part:Str
 sd:Sd
 bit:Option Pk
def eg.Rule (c:eg)(x:Str)(s:Sd):Prop:=
 (x∈c.start∧∀y∈c.start,c.start.idxOf y<c.start.idxOf x→c.isP s.picked y)∨(∀j j',j∈c.ks→j'∈c.ks→j.1=x→j'.1=x→¬c.has s.dead j→¬c.has s.dead j'→j=j')∨∀y∈c.start,c.isP s.picked y
structure j9 (c:eg)(f:Fk):Prop where
 open_:f.part∈f.sd.wanted.map (·.1)
 rule:c.Rule f.part f.sd
 bit:∀k,f.bit=some k→k∈c.ks∧k.1=f.part∧∀j∈c.ks,j.1=f.part→k.2<j.2→c.has f.sd.dead j
def eg.K4 (c:eg)(f:Fk)(s:Sd):Prop:=∃k,f.bit=some k∧s.picked=f.sd.picked ||| c.bit k∧∀j,c.has f.sd.dead j→c.has s.dead j
inductive fK (c:eg)(L:iu):List Fk→Sd→Prop
 |nil {s:Sd}:s.picked=0→iE c L s→fK c L [] s
 |cons {f:Fk} {F:List Fk} {s:Sd}:fK c L F f.sd→j9 c f→c.K4 f s→iE c L s→fK c L (f::F) s
theorem fK.sd {c:eg}(h:fK c L F s):iE c L s:=by
 cases h with
 |nil _ h=>exact h
 |cons _ _ _ h=>exact h
theorem fK.led {c:eg}(a:∀e∈L,e∈L')(h:fK c L F s):fK c L' F s:=by
 induction h with
 |nil h1 h2=>exact .nil h1 (h2.led a)
 |cons _ h2 h3 h4 ih=>exact .cons ih h2 h3 (h4.led a)
theorem j9.out {c:eg}{f:Fk}(h:j9 c f)(a:iE c L f.sd):¬c.isP f.sd.picked f.part:=by
 obtain⟨⟨x,w⟩,b,e⟩:=av.mp h.open_;have:=(a.w1 x w b).1;rw[show f.part=x from e.symm];exact this
theorem j9.K5 {c:eg}{f:Fk}{k:Pk}(h:j9 c f)(hs:iE c L f.sd)(hk:f.bit=some k):¬c.has f.sd.picked k:=fun z=>h.out hs ⟨k,z,(h.bit k hk).2.1⟩
theorem fK.sub {c:eg}(h:fK c L F s):∀g∈F,(∀j,c.has g.sd.picked j→c.has s.picked j)∧(∀j,c.has g.sd.dead j→c.has s.dead j)∧∀k,g.bit=some k→c.has s.picked k:=by
 induction h with
 |nil _ _=>intro g hg;cases hg
 |@cons f F s h1 h2 h3 h4 ih=>
  obtain⟨k,i,hp,e⟩:=h3;intro g hg;have d:=(h2.bit k i).1;rcases am.mp hg with rfl | hg
  ·refine⟨fun j b=>by rw[hp];exact eg.KJ.mpr (.inl b),e,fun l a=>?_⟩;rw[i]at a;cases a;rw[hp];exact eg.KJ.mpr (.inr ((eg.KM d).mpr rfl))
  ·obtain⟨m,p,o⟩:=ih g hg;refine⟨fun j b=>by rw[hp];exact eg.KJ.mpr (.inl (m j b)),fun j b=>e j (p j b),fun l a=>by rw[hp];exact eg.KJ.mpr (.inl (o l a))⟩
theorem fK.from {c:eg}(h:fK c L F s):∀j,c.has s.picked j→∃g∈F,g.bit=some j:=by
 induction h with
 |nil h1 _=>intro j a;rw[h1]at a;exact(eg.KN a).elim
 |@cons f F s h1 h2 h3 h4 ih=>
  obtain⟨k,d,hp,i⟩:=h3;intro j a;rw[hp]at a;rcases eg.KJ.mp a with y | y
  ·obtain⟨g,e,b⟩:=ih j y;exact⟨g,by simp[e],b⟩
  ·rw[(eg.KM (h2.bit k d).1).mp y];exact⟨f,by simp,d⟩
theorem fK.live {c:eg}(h:fK c L F s):∀g∈F,∀k,g.bit=some k→¬c.has g.sd.dead k:=fun g hg k hk z=>by
 obtain⟨_,h2,h3⟩:=h.sub g hg;exact h.sd.off k (h2 k z) (h3 k hk)
theorem fK.to {c:eg}(h:fK c L F s):∀{A:List Fk} {g:Fk} {B:List Fk},F=A++g::B→fK c L B g.sd∧j9 c g:=by
 induction h with
 |nil _ _=>intro A g B e;simp at e
 |@cons f F s h1 h2 h3 h4 ih=>
  intro A g B e;cases A with
  |nil=>
   rw[dL]at e;cases e;exact⟨h1,h2⟩
  |cons a A=>
   rw[cO]at e;injection e with d b
   exact ih b
def eg.K6 (c:eg)(k:Pk)(m:Nat)(s:Sd):Sd:=if ig (ig m (c.bit k)) s.picked=0 then {s with dead:=s.dead ||| c.bit k} else s
def eg.K7 (c:eg)(k:Pk)(m:Nat)(f:Fk):Fk:={f with sd:=c.K6 k m f.sd}
theorem eg.K8 (c:eg)(k:Pk)(m:Nat)(s:Sd):(c.K6 k m s).picked=s.picked:=by unfold eg.K6;split <;> rfl
theorem eg.K9 (c:eg)(k:Pk)(m:Nat)(s:Sd):(c.K6 k m s).wanted=s.wanted:=by unfold eg.K6;split <;> rfl
theorem eg.La {c:eg}{k:Pk}(h:c.has s.dead j):c.has (c.K6 k m s).dead j:=by
 unfold eg.K6
 split
 ·exact eg.KJ.mpr (.inl h)
 ·exact h
theorem eg.Lb {c:eg}{k:Pk}(a:k∈c.ks)(h:c.has (c.K6 k m s).dead j):c.has s.dead j∨j=k:=by
 unfold eg.K6 at h
 split at h
 ·exact(eg.KJ.mp h).imp id (eg.KM a).mp
 ·exact .inl h
theorem eg.Lc {c:eg}{k:Pk}(b:k∈c.ks)(d:m<2^c.n):ig (ig m (c.bit k)) s.picked=0↔∀j,c.has m j→j=k∨c.has s.picked j:=by
 constructor
 ·intro h j a;by_cases e:j=k
  ·exact .inl e
  ·refine .inr (Decidable.byContradiction fun z=>?_);have:c.has (ig (ig m (c.bit k)) s.picked) j:=eg.KL.mpr ⟨eg.KL.mpr ⟨a,fun y=>e ((eg.KM b).mp y)⟩,z⟩;rw[h]at this;exact eg.KN this
 ·intro h;refine eg.KP (jB (jB d)) fun j a=>?_;obtain⟨h1,h2⟩:=eg.KL.mp a;obtain⟨i,g⟩:=eg.KL.mp h1;rcases h j i with y | y
  ·exact g ((eg.KM b).mpr y)
  ·exact h2 y
theorem iE.K6 {c:eg}(h:iE c L s){k:Pk}{e:Nat×Rs}(b:k∈c.ks)(g:e∈L)(d:e.1<2^c.n)(a:c.has e.1 k)(i:¬c.has s.picked k):iE c L (c.K6 k e.1 s):=by
 unfold eg.K6
 split
 ·next z=>exact h.bar b i ⟨e,g,a,(eg.Lc b d).mp z⟩
 ·exact h
theorem Rule.K6 {c:eg}{k:Pk}(h:c.Rule x s):c.Rule x (c.K6 k m s):=by
 unfold eg.Rule at *;rw[eg.K8];rcases h with h | h | h
 ·exact .inl h
 ·exact .inr (.inl fun j j' b d e a g i=>h j j' b d e a (fun z=>g (eg.La z)) fun z=>i (eg.La z))
 ·exact .inr (.inr h)
theorem j9.K7 {c:eg}{f:Fk}{k:Pk}(h:j9 c f):j9 c (c.K7 k m f):=by
 refine⟨?_,Rule.K6 h.rule,fun j a=>?_⟩
 ·show f.part∈(c.K6 k m f.sd).wanted.map (·.1);rw[eg.K9];exact h.open_
 ·obtain⟨h1,h2,e⟩:=h.bit j a;exact⟨h1,h2,fun i b d g=>eg.La (e i b d g)⟩
theorem fK.K7 {c:eg}(h:fK c L F s){k:Pk}{e:Nat×Rs}(b:k∈c.ks)(t:e∈L)(l:e.1<2^c.n)(d:c.has e.1 k):¬c.has s.picked k→fK c L (F.map (c.K7 k e.1)) (c.K6 k e.1 s):=by
 induction h with
 |@nil s h1 h2=>exact fun g=>.nil (by rw[eg.K8];exact h1) (h2.K6 b t l d g)
 |@cons f F s h1 h2 h3 h4 ih=>
  intro g;obtain⟨x,q,hp,v⟩:=h3;have m:¬c.has f.sd.picked k:=fun z=>g (by rw[hp];exact eg.KJ.mpr (.inl z));refine .cons (ih m) h2.K7 ⟨x,q,?_,fun j r=>?_⟩ (h4.K6 b t l d g)
  ·rw[eg.K8,hp];show _=(c.K6 k e.1 f.sd).picked ||| _;rw[eg.K8]
  ·by_cases hj2:c.has f.sd.dead j
   ·exact eg.La (v j hj2)
   ·have w:ig (ig e.1 (c.bit k)) f.sd.picked=0:=Decidable.byContradiction fun z=>by
     have a:c.has (c.K6 k e.1 f.sd).dead j:=r;unfold eg.K6 at a;rw[if_neg z]at a;exact hj2 a
    have o:j=k:=(eg.Lb b r).elim (fun z=>absurd z hj2) id;have p:ig (ig e.1 (c.bit k)) s.picked=0:=(eg.Lc b l).mpr fun i hi=>((eg.Lc b l).mp w i hi).imp id fun z=>by rw[hp];exact eg.KJ.mpr (.inl z)
    unfold eg.K6;rw[if_pos p,o];exact eg.KJ.mpr (.inr ((eg.KM b).mpr rfl))
def eg.left (c:eg)(x:Str)(s:Sd):List Pk:=c.ks.filter fun k=>decide (k.1=x)&&!decide (c.has s.dead k)
theorem eg.Ld {c:eg}{k:Pk}:k∈c.left x s↔k∈c.ks∧k.1=x∧¬c.has s.dead k:=by
 unfold eg.left;rw[aW,aD,ax,bQ,decide_eq_false_iff_not]
def eg.cnt (c:eg)(f:Fk):Nat:=(c.left f.part f.sd).length
theorem eg.Le (c:eg)(f:Fk):c.cnt f≤c.n:=bD _ _
def eg.mv (c:eg):Nat→List Fk→Nat
 |0,_=>0
 |d+1,[]=>(c.n+1)*(c.n+2)^d+c.mv d []
 |d+1,f::F=>c.cnt f*(c.n+2)^d+c.mv d F
theorem eg.Lg (c:eg):∀(d:Nat) (F:List Fk),c.mv d F<(c.n+2)^d
 |0,_=>by unfold eg.mv;exact Nat.one_pos
 |d+1,[]=>by
  have:=eg.Lg c d [];unfold eg.mv;rw[cS,Nat.mul_comm ((c.n+2)^d),show c.n+2=(c.n+1)+1 from rfl,Nat.add_mul ((c.n+1))];rw[show c.n+1+1=c.n+2 from rfl]
  lia
 |d+1,f::F=>by
  have h1:=eg.Lg c d F;have h2:=c.Le f;have h3:c.cnt f*(c.n+2)^d≤(c.n+1)*(c.n+2)^d:=db _ (by lia);unfold eg.mv;rw[cS,Nat.mul_comm ((c.n+2)^d),show c.n+2=(c.n+1)+1 from rfl,Nat.add_mul ((c.n+1))];rw[show c.n+1+1=c.n+2 from rfl]
  lia
theorem eg.Li (c:eg)(g:Fk):∀(d:Nat) (F:List Fk),F.length<d→c.mv d (F++[g])<c.mv d F
 |0,_,h=>absurd h (cb _)
 |d+1,[],_=>by
  have h2:=c.Le g;have h3:c.cnt g*(c.n+2)^d+(c.n+2)^d≤(c.n+1)*(c.n+2)^d:=by
   rw[←Nat.succ_mul];exact db _ (by lia)
  have b:0<(c.n+2)^d:=Nat.pow_pos (by lia);show c.cnt g*(c.n+2)^d+c.mv d []<(c.n+1)*(c.n+2)^d+c.mv d []
  lia
 |d+1,f::F,h=>by
  have a:=eg.Li c g d F (by rw[aA]at h;lia);show c.cnt f*(c.n+2)^d+c.mv d (F++[g])<c.cnt f*(c.n+2)^d+c.mv d F
  lia
theorem eg.Lj (c:eg){f g:Fk}{B:List Fk}(b:c.cnt g<c.cnt f):∀(d:Nat) (A A':List Fk),A'.length=A.length→(∀(i:Nat) (a a':Fk),A[i]?=some a→A'[i]?=some a'→c.cnt a'≤c.cnt a)→A.length<d→c.mv d (A'++[g])<c.mv d (A++f::B)
 |0,_,_,_,_,h=>absurd h (cb _)
 |d+1,[],A',h1,_,_=>by
  have:A'=[]:=bN.mp h1;subst this;have h2:=eg.Lg c d [];have h3:c.cnt g*(c.n+2)^d+(c.n+2)^d≤c.cnt f*(c.n+2)^d:=by
   rw[←Nat.succ_mul];exact db _ b
  show c.cnt g*(c.n+2)^d+c.mv d []<c.cnt f*(c.n+2)^d+c.mv d B
  lia
 |d+1,a::A,A',h1,h2,h3=>by
  cases A' with
  |nil=>simp at h1
  |cons a' A'=>
   have m:=eg.Lj c b (B:=B) d A A' (by simpa using h1) (fun i x l e j=>h2 (i+1) x l (by simpa using e) (by simpa using j)) (by rw[aA]at h3;lia);have o:=db ((c.n+2)^d) (h2 0 a a' rfl rfl);show c.cnt a'*(c.n+2)^d+c.mv d (A'++[g])<c.cnt a*(c.n+2)^d+c.mv d (A++f::B)
   lia
theorem v4 (k j:Str×Int):PyData.eqv (kI k) (kI j)=decide (k=j):=by
 obtain⟨a,b⟩:=k;obtain⟨c,d⟩:=j;have e:PyData.eqv (kI (a,b)) (kI (c,d))=((a == c)&&((b == d)&&true)):=by
  simp[kI,PyData.eqv,PyData.eqvAll]
 rw[e,Bool.and_true];by_cases h1:a=c
 ·subst h1;by_cases h2:b=d
  ·subst h2;rw[ao rfl];simp
  ·rw[au (fun z=>h2 (Prod.mk.inj z).2)];simp[h2]
 ·rw[au (fun z=>h1 (Prod.mk.inj z).1)];have g:(a == c)=false:=beq_false_of_ne h1;rw[g,bZ]
theorem qh (k:Str×Int):∀ks:List (Str×Int),((ks.map kI).any fun z=>PyData.eqv z (kI k))=decide (k∈ks)
 |[]=>by simp
 |j::ks=>by
  rw[aE,List.any_cons,v4,qh k ks];by_cases h:j=k
  ·subst h;simp
  ·rw[au h,Bool.false_or];have:(k∈j::ks)↔k∈ks:=by
    rw[am];exact⟨fun z=>z.resolve_left fun y=>h y.symm,.inr⟩
   simp only[this]
theorem km {k:Str×Int}(h:fT k.1):(kI k).canLay0=true∧(kI k).depth≤60:=by
 have z:=wO 1 (kI k) (by simp[kI,iW,h.ok]);exact⟨z.1,by lia⟩
theorem mE:∀{ks:List (Str×Int)},(∀k∈ks,fT k.1)→PyData.canLayAll0 (ks.map kI)=true
 |[],_=>rfl
 |k::ks,h=>by
  rw[aE,PyData.canLayAll0,(km (h k (by simp))).1,mE fun j hj=>h j (by simp[hj])];rfl
theorem kN {α:Type} [DecidableEq α]:∀{l m:List α},l.Nodup→(∀x∈l,x∈m)→l.length≤m.length
 |[],_,_,_=>bo _
 |x::l,m,hn,hs=>by
  rw[aV]at hn;have hx:x∈m:=hs x (by simp);have ih:l.length≤(m.erase x).length:=kN hn.2 fun y hy=>by
   refine(List.mem_erase_of_ne ?_).mpr (hs y (by simp[hy]));intro e;subst e;exact hn.1 hy
  have:=List.length_erase_of_mem hx;have:=List.length_pos_of_mem hx;rw[aA]
  lia
theorem fK.bits {c:eg}(h:fK c L F s):∃ps:List Pk,ps.length=F.length∧ps.Nodup∧∀k∈ps,c.has s.picked k:=by
 induction h with
 |nil _ _=>exact⟨[],rfl,bY,fun k a=>nomatch a⟩
 |@cons f F s h1 h2 h3 h4 ih=>
  obtain⟨k,a,hp,g⟩:=h3;obtain⟨ps,d,e,b⟩:=ih;refine⟨k::ps,by rw[aA,aA,d],aV.mpr ⟨fun z=>h2.K5 h1.sd a (b k z),e⟩,fun j hj=>?_⟩;rw[hp];rcases am.mp hj with rfl | hj
  ·exact eg.KJ.mpr (.inr ((eg.KM (h2.bit j a).1).mpr rfl))
  ·exact eg.KJ.mpr (.inl (b j hj))
theorem fK.depth {c:eg}(h:fK c L F s):F.length≤c.n:=by
 obtain⟨ps,b,e,d⟩:=h.bits;rw[←b];exact kN e fun k a=>(d k a).1
def eg.Lk (c:eg)(wanted:List (Str×Option Pk))(w:Option Pk)(pm:Nat)(g:List (Str×Option Pk)):Prop:=
 ∃E:List Str,g.map (·.1)=wanted.map (·.1)++E∧E.Sublist (eQ (c.needs w))∧(∀x∈E,¬c.isP pm x∧x∉wanted.map (·.1))∧(∀x∈eQ (c.needs w),c.isP pm x∨x∈wanted.map (·.1)∨x∈E)∧
  ∀x u,(x,u)∈g→(x,u)∈wanted∨(u=w∧x∈eQ (c.needs w)∧¬c.isP pm x)
theorem jb {ns:List Nd}:x∈eQ ns↔x∈ns.map (·.1):=by
 rw[ia,av]
theorem sZ {α:Type} [DecidableEq α] {a b:α}{l:List α}(h:¬a=b):(a::l).idxOf b=l.idxOf b+1:=by
 rw[List.idxOf_cons];have:(a == b)=false:=by simpa using h
 rw[this];rfl
theorem sY {α:Type} [DecidableEq α]:∀{E P:List α},P.Nodup→E.Sublist P→∀(i j:Nat) (x y:α),E[i]?=some x→E[j]?=some y→i<j→P.idxOf x<P.idxOf y
 |_,_,_,.slnil,i,j,x,y,hx,_,_=>by simp at hx
 |E,p::P,hn,.cons _ h,i,j,x,y,hx,hy,hij=>by
  rw[aV]at hn;have hxp:¬p=x:=fun e=>hn.1 (e▸h.subset (ak hx));have hyp:¬p=y:=fun e=>hn.1 (e▸h.subset (ak hy));rw[sZ hxp,sZ hyp];exact Nat.succ_lt_succ (sY hn.2 h i j x y hx hy hij)
 |e::E,_::P,hn,.cons₂ _ h,i,j,x,y,hx,hy,hij=>by
  rw[aV]at hn;cases j with
  |zero=>exact absurd hij (cb _)
  |succ j=>
   have hy':E[j]?=some y:=by simpa using hy
   have hyp:¬e=y:=fun z=>hn.1 (z▸h.subset (ak hy'));rw[sZ hyp];cases i with
   |zero=>
    have:e=x:=by simpa using hx
    subst this;rw[List.idxOf_cons_self]
    lia
   |succ i=>
    have a:E[i]?=some x:=by simpa using hx
    have hxp:¬e=x:=fun z=>hn.1 (z▸h.subset (ak a));rw[sZ hxp];exact Nat.succ_lt_succ (sY hn.2 h i j x y a hy' (by lia))
theorem vz {c:eg}{d:Nat}{g:List (Str×Option Pk)}(t:d<2^c.n)(m:∀k,c.has d k↔k∈c.ks∧(c.KY none k∨c.foe k k))(F:c.Lk [] none 0 g):iE c L ⟨0,d,g⟩:=by
 obtain⟨E,h,l,I,G,A⟩:=F;rw[cT,dL]at h;have a:∀k,¬c.has 0 k:=fun k=>eg.KN;have e:∀x,¬c.isP 0 x:=(by rintro x ⟨j,m,_⟩;exact a j m)
 have s:∀x,x∈E↔x∈eQ (c.needs none):=fun x=>⟨fun z=>l.subset z,fun z=>by
  rcases G x z with y | y | y
  ·exact(e x y).elim
  ·cases y
  ·exact y⟩
 refine⟨bM _,t,fun k r=>?_,fun k r C=>(m k).mpr ⟨r,?_⟩,fun k _=>a k,fun j k z=>(a j z).elim,fun k z=>(a k z).elim,?_,fun x w q=>?_,fun w v n D=>?_,fun i j x y q B H p=>?_⟩
 ·rcases ((m k).mp r).2 with y | y
  ·exact .inl y
  ·exact .inr (.inl y)
 ·rcases C with y | y | ⟨j,y,_⟩
  ·exact .inl y
  ·exact .inr y
  ·exact(a j y).elim
 ·show(g.map (·.1)).Nodup;rw[h];exact(jh _).sublist l
 ·rcases A x w q with y | ⟨rfl,y,_⟩
  ·cases y
  ·exact⟨e x,trivial,jb.mp y⟩
 ·cases w with
  |some k=>exact(a k v).elim
  |none=>
   right
   show n.1∈g.map (·.1);rw[h,s];exact ia.mpr ⟨n,D,rfl⟩
 ·have b:E[i]?=some x:=by rw[←h];exact q
  have o:E[j]?=some y:=by rw[←h];exact B
  exact⟨l.subset (ak b),sY (jh _) l i j x y b o p⟩
theorem Named.mono {c:eg}(a:∀j,c.has m j→c.has m' j){k:Pk}(h:c.Named m k):c.Named m' k:=by
 induction h with
 |start h1 h2=>exact .start (a _ h1) h2
 |next _ h2 h3 ih=>exact .next ih (a _ h2) h3
theorem ku {α:Type}{p:α→Bool}:∀{xs:List α} {i j:Nat} {x y:α},(xs.filter p)[i]?=some x→(xs.filter p)[j]?=some y→i<j→∃i' j':Nat,xs[i']?=some x∧xs[j']?=some y∧i'<j'
 |[],i,j,x,y,hx,_,_=>by simp at hx
 |a::xs,i,j,x,y,hx,hy,hij=>by
  by_cases ha:p a=true
  ·rw[aG,if_pos ha]at hx hy;cases j with
   |zero=>exact absurd hij (cb _)
   |succ j=>
    have hy':(xs.filter p)[j]?=some y:=by simpa using hy
    cases i with
    |zero=>
     have e:a=x:=by simpa using hx
     obtain⟨j',d⟩:=az.mp (aW.mp (ak hy')).1;exact⟨0,j'+1,by simpa using e,by simpa using d,by lia⟩
    |succ i=>
     have b:(xs.filter p)[i]?=some x:=by simpa using hx
     obtain⟨i',j',h1,h2,g⟩:=ku b hy' (by lia);exact⟨i'+1,j'+1,by simpa using h1,by simpa using h2,by lia⟩
  ·rw[aG,if_neg ha]at hx hy;obtain⟨i',j',h1,h2,g⟩:=ku hx hy hij;exact⟨i'+1,j'+1,by simpa using h1,by simpa using h2,by lia⟩
theorem zx {c:eg}{f:Fk}{k:Pk}{d:Nat}{g:List (Str×Option Pk)}(o:iE c L f.sd)(hf:j9 c f)(O:k∈c.ks)(p:k.1=f.part)(B:¬c.has f.sd.dead k)(hd:d<2^c.n)(C:∀j,c.has f.sd.dead j→c.has d j)(aa:∀j∈c.ks,c.foe k j→c.has d j)(G:∀j,c.has d j→c.has f.sd.dead j∨c.foe k j∨(c.K2 L (f.sd.picked ||| c.bit k) j∧¬c.has (f.sd.picked ||| c.bit k) j))(hg:c.Lk f.sd.wanted (some k) (f.sd.picked ||| c.bit k) g):iE c L ⟨f.sd.picked ||| c.bit k,d,g.filter fun xu=>!decide (xu.1=f.part)⟩:=by
 obtain⟨E,M,e2,e3,e4,e5⟩:=hg;have s:=hf.out o;have h:∀j,c.has (f.sd.picked ||| c.bit k) j↔c.has f.sd.picked j∨j=k:=fun j=>by rw[eg.KJ,eg.KM O]
 have ah:¬c.has f.sd.picked k:=fun z=>s ⟨k,z,p⟩;have T:∀j,c.has f.sd.picked j→¬c.foe k j:=fun j l z=>B (o.sup k O (.inr (.inr ⟨j,l,z⟩)));have U:¬c.foe k k:=fun z=>B (o.sup k O (.inr (.inl z)));have v:∀x,c.isP (f.sd.picked ||| c.bit k) x↔c.isP f.sd.picked x∨x=f.part:=fun x=>by
  constructor
  ·rintro⟨j,l,rfl⟩;rcases (h j).mp l with y | rfl
   ·exact .inl ⟨j,y,rfl⟩
   ·exact .inr p
  ·rintro(⟨j,l,rfl⟩ | rfl)
   ·exact⟨j,(h j).mpr (.inl l),rfl⟩
   ·exact⟨k,(h k).mpr (.inr rfl),p⟩
 have t:(g.filter fun xu=>!decide (xu.1=f.part)).map (·.1)=(g.map (·.1)).filter fun x=>!decide (x=f.part):=by rw[List.filter_map];rfl
 refine⟨ji o.pl (c.KO O),hd,fun j l=>?_,fun j l ad=>?_,fun j l z=>?_,fun i j hi l e=>?_,fun j l=>?_,?_,fun x w K=>?_,fun w hw m hm=>?_,fun i j x y K hy H S=>?_⟩
 ·rcases G j l with y | y | ⟨y,_⟩
  ·exact eg.K3.mono (o.just j y) (fun _ z=>z) fun i hi=>(h i).mpr (.inl hi)
  ·exact .inr (.inr (.inl ⟨k,(h k).mpr (.inr rfl),eg.KZ y⟩))
  ·exact .inr (.inr (.inr y))
 ·rcases ad with y | y | ⟨i,hi,y⟩
  ·exact C j (o.sup j l (.inl y))
  ·exact C j (o.sup j l (.inr (.inl y)))
  ·rcases (h i).mp hi with z | rfl
   ·exact C j (o.sup j l (.inr (.inr ⟨i,z,y⟩)))
   ·exact aa j l (eg.KZ y)
 ·rcases G j l with y | y | ⟨_,y⟩
  ·rcases (h j).mp z with u | rfl
   ·exact o.off j y u
   ·exact B y
  ·rcases (h j).mp z with u | rfl
   ·exact T j u y
   ·exact U y
  ·exact y z
 ·rcases (h i).mp hi with y | rfl
  ·rcases (h j).mp l with z | rfl
   ·exact o.one i j y z e
   ·exact(s ⟨i,y,by rw[e,p]⟩).elim
  ·rcases (h j).mp l with z | rfl
   ·exact(s ⟨j,z,by rw[←e,p]⟩).elim
   ·rfl
 ·have A:∀i,c.has f.sd.picked i→c.has (f.sd.picked ||| c.bit k) i:=fun i hi=>(h i).mpr (.inl hi);rcases (h j).mp l with y | rfl
  ·exact Named.mono A (o.named j y)
  ·obtain⟨⟨x,w⟩,K,ex⟩:=av.mp hf.open_;obtain⟨_,h2,J⟩:=o.w1 x w K;have ex':x=f.part:=ex;rw[ex',←p]at J;cases w with
   |none=>exact .start l J
   |some q=>exact .next (Named.mono A (o.named q h2)) l J
 ·show((g.filter fun xu=>!decide (xu.1=f.part)).map (·.1)).Nodup;rw[t,M];refine List.Nodup.sublist List.filter_sublist (bU.mpr ⟨o.wk,(jh _).sublist e2,fun a ha b hb e=>?_⟩);exact(e3 b hb).2 (e▸ha)
 ·obtain⟨Z,Q⟩:=aW.mp K;have D:¬x=f.part:=by simpa using Q
  rcases e5 x w Z with y | ⟨rfl,y,z⟩
  ·obtain⟨h1,h2,J⟩:=o.w1 x w y;refine⟨fun z=>?_,?_,J⟩
   ·rcases (v x).mp z with u | u
    ·exact h1 u
    ·exact D u
   ·cases w with
    |none=>trivial
    |some q=>exact(h q).mpr (.inl h2)
  ·exact⟨z,(h k).mpr (.inr rfl),jb.mp y⟩
 ·show c.isP (f.sd.picked ||| c.bit k) m.1∨m.1∈(g.filter fun xu=>!decide (xu.1=f.part)).map (·.1);by_cases hmp:m.1=f.part
  ·exact .inl ((v m.1).mpr (.inr hmp))
  ·have r:m.1∈g.map (·.1)→m.1∈(g.filter fun xu=>!decide (xu.1=f.part)).map (·.1):=fun z=>by
    rw[t];exact aW.mpr ⟨z,by simpa using hmp⟩
   have old:c.K0 f.sd.picked w→c.isP (f.sd.picked ||| c.bit k) m.1∨m.1∈(g.filter fun xu=>!decide (xu.1=f.part)).map (·.1):=fun R=>by
    rcases o.w2 w R m hm with y | y
    ·exact .inl ((v m.1).mpr (.inl y))
    ·exact .inr (r (by rw[M];exact aQ _ y))
   cases w with
   |none=>exact old trivial
   |some q=>
    rcases (h q).mp hw with y | rfl
    ·exact old y
    ·rcases e4 m.1 (ia.mpr ⟨m,hm,rfl⟩) with y | y | y
     ·exact .inl y
     ·exact .inr (r (by rw[M];exact aQ _ y))
     ·exact .inr (r (by rw[M];exact aM _ y))
 ·have P:((g.map (·.1)).filter fun x=>!decide (x=f.part))[i]?=some x:=by rw[←t];exact K
  have ag:((g.map (·.1)).filter fun x=>!decide (x=f.part))[j]?=some y:=by rw[←t];exact hy
  obtain⟨i',j',a1,N,a3⟩:=ku P ag S;rw[M]at a1 N;have X:j'<(f.sd.wanted.map (·.1)).length:=Nat.lt_of_not_le fun z=>by
   rw[aZ z]at N;have Y:=ak N;have I:=e3 y Y;obtain⟨n,hn,F⟩:=ia.mp H;rcases o.w2 none trivial n hn with u | u
   ·rw[F]at u;exact I.1 ((v y).mpr (.inl u))
   ·rw[F]at u;exact I.2 u
  rw[aI X]at N;rw[aI (by lia)]at a1;exact o.ws i' j' x y a1 N H a3
theorem sy {c:eg}{first:Str}(i:iE c L s)(g:(s.wanted.map (·.1))[0]?=some first)(r:(x=first∧first∈c.start)∨first∉c.start∨(c.left x s).length≤1):c.Rule x s:=by
 rcases r with ⟨rfl,hf⟩ | hf | hl
 ·refine .inl ⟨hf,fun y e m=>?_⟩;obtain⟨n,o,b⟩:=ia.mp e;rcases i.w2 none trivial n o with u | u
  ·rw[b]at u;exact u
  ·rw[b]at u;obtain⟨j,d⟩:=az.mp u;rcases dM j with rfl | hp
   ·rw[g]at d;cases d;exact absurd m (cH _)
   ·have:=(i.ws 0 j x y g d e hp).2
    lia
 ·refine .inr (.inr fun y e=>?_);obtain⟨n,o,b⟩:=ia.mp e;rcases i.w2 none trivial n o with u | u
  ·rw[b]at u;exact u
  ·rw[b]at u;obtain⟨j,d⟩:=az.mp u;rcases dM j with rfl | hp
   ·rw[g]at d;cases d;exact absurd e hf
   ·exact absurd (i.ws 0 j first y g d e hp).1 hf
 ·refine .inr (.inl fun j j' v w z q A t=>?_);have h:=eg.Ld.mpr ⟨v,z,A⟩;have p:=eg.Ld.mpr ⟨w,q,t⟩;cases hl2:c.left x s with
  |nil=>rw[hl2]at h;cases h
  |cons a l=>
   rw[hl2]at h p hl;have:l=[]:=by
    rw[aA]at hl;exact bN.mp (by lia)
   subst this;rw[ai.mp h,ai.mp p]
def eg.stop (c:eg)(m:Nat)(f:Fk):Bool:=match f.bit with
 |none=>false
 |some k=>decide (c.has m k)
theorem DE {c:eg}:∀{F:List Fk} {s:Sd},fK c L F s→(∀j,c.has m j→c.has s.picked j)→((F.dropWhile fun f=>!c.stop m f)=[]∧∀j,¬c.has m j)∨∃A g B k,F=A++g::B∧(F.dropWhile fun f=>!c.stop m f)=g::B∧g.bit=some k∧c.has m k∧(∀j,c.has m j→j=k∨c.has g.sd.picked j)∧fK c L B g.sd∧j9 c g∧¬c.has g.sd.dead k:=by
 intro F s h
 induction h with
 |nil h1 _=>exact fun p=>.inl ⟨rfl,fun j a=>by have:=p j a;rw[h1]at this;exact eg.KN this⟩
 |@cons f F s h1 h2 h3 h4 ih=>
  obtain⟨k,l,hp,q⟩:=h3;have i:=(h2.bit k l).1;intro p;have b:¬c.has f.sd.dead k:=fun z=>h4.off k (q k z) (by rw[hp];exact eg.KJ.mpr (.inr ((eg.KM i).mpr rfl)));have d:∀j,c.has m j→c.has f.sd.picked j∨j=k:=fun j a=>by
   have:=p j a;rw[hp]at this;exact(eg.KJ.mp this).imp id (eg.KM i).mp
  by_cases hst:c.has m k
  ·refine .inr ⟨[],f,F,k,rfl,?_,l,hst,fun j a=>(d j a).symm,h1,h2,b⟩;rw[List.dropWhile_cons_of_neg];unfold eg.stop;rw[l];simp[hst]
  ·have o:∀j,c.has m j→c.has f.sd.picked j:=fun j a=>(d j a).elim id fun e=>absurd (e▸a) hst;have w:((f::F).dropWhile fun f=>!c.stop m f)=F.dropWhile fun f=>!c.stop m f:=by
    rw[List.dropWhile_cons_of_pos];unfold eg.stop;rw[l];simp[hst]
   rw[w];rcases ih o with y | ⟨A,g,B,G,x,H,C,E,r,D,t,v⟩
   ·exact .inl y
   ·exact .inr ⟨f::A,g,B,G,by rw[x];rfl,H,C,E,r,D,t,v⟩
theorem wY:∀a b:Nat,ig a b+(a &&& b)=a:=by
 intro a
 induction a using Nat.strongRecOn with
 |_ a ih=>
  intro b;by_cases h0:a=0
  ·subst h0;simp[ig]
  ·have h1:=ih (a / 2) (by lia) (b / 2);have i:ig a b / 2=ig (a / 2) (b / 2):=by unfold ig;rw[Nat.xor_div_two,Nat.and_div_two]
   have g:(a &&& b) / 2=a / 2 &&& b / 2:=Nat.and_div_two;have e:=oe a b 0;have d:=Nat.testBit_and a b 0;simp only[Nat.testBit_zero]at e d;rw[←i,←g]at h1;have h:(ig a b % 2=1)↔(a % 2=1∧¬b % 2=1):=by
    have:=congrArg (·=true) e;simpa using this
   have p2:((a &&& b) % 2=1)↔(a % 2=1∧b % 2=1):=by
    have:=congrArg (·=true) d;simpa using this
   generalize ig a b=x at *;generalize (a &&& b)=y at *;by_cases ea:a % 2=1 <;> by_cases eb:b % 2=1 <;> simp only[ea,eb,not_true_eq_false,not_false_eq_true,and_true,and_false,iff_true,iff_false,true_and,false_and]at h p2 <;> lia
theorem nU (a b:Nat):Builtin.bitAnd (a:Int) (b:Int)=((a &&& b:Nat):Int):=by
 rw[bitAnd_pp (by lia) (by lia),bA,bA]
theorem qw (a b:Nat):Builtin.bitAnd (a:Int) (Builtin.bitNot (b:Int))=((ig a b:Nat):Int):=by
 rw[bitAnd_not,nU];have:=wY a b
 lia
theorem xg (a b:Nat):Builtin.bitOr (a:Int) (b:Int)=((a ||| b:Nat):Int):=by
 unfold Builtin.bitOr;have d:∀x:Nat,Builtin.bitNot (Builtin.bitNot (x:Int))=x:=fun x=>by unfold Builtin.bitNot;lia
 rw[bitAnd_nn (by unfold Builtin.bitNot;lia) (by unfold Builtin.bitNot;lia),d a,d b,bA,bA,d]
theorem vR:∀m:Nat,m≠0→∃i q,m=2^i*(2*q+1):=by
 intro m
 induction m using Nat.strongRecOn with
 |_ m ih=>
  intro h;rcases Nat.mod_two_eq_zero_or_one m with e | e
  ·obtain⟨i,q,a⟩:=ih (m / 2) (by lia) (by lia);exact⟨i+1,q,by rw[cS,Nat.mul_assoc,Nat.mul_left_comm,←a];lia⟩
  ·exact⟨0,m / 2,by lia⟩
theorem tI (i q j:Nat):(2^i*(2*q+1)).testBit j=(decide (i=j)||(2^(i+1)*q).testBit j):=by
 rw[cG,cG];rcases Nat.lt_trichotomy j i with h | h | h
 ·rw[au (by lia),au (show ¬i=j by lia),au (show ¬i+1≤j by lia)];rfl
 ·subst h;rw[ao (aq _),bS,ao rfl,Nat.testBit_zero];simp
 ·rw[ao (by lia),au (show ¬i=j by lia),ao (show i+1≤j by lia)];obtain⟨d,rfl⟩:∃d,j=i+1+d:=⟨j-(i+1),by lia⟩;rw[show i+1+d-i=d+1 by lia,show i+1+d-(i+1)=d by lia,Nat.testBit_succ,show(2*q+1) / 2=q by lia];simp
theorem sU (i q:Nat):(2^i*(2*q+1)) &&& (2^i*(2*q+1)-1)=2^(i+1)*q:=by
 have e:2^i*(2*q+1)-1=2^(i+1)*q+(2^i-1):=by
  have h1:0<2^i:=bM i;have h2:2^i*(2*q+1)=2^(i+1)*q+2^i:=by rw[Nat.mul_add,Nat.mul_one,cS,←Nat.mul_assoc]
  lia
 refine Nat.eq_of_testBit_eq fun j=>?_;have a:2^i-1<2^(i+1):=by have:=bM i;rw[cS];lia
 rw[Nat.testBit_and,tI,e,Nat.testBit_two_pow_mul_add _ a,cG];by_cases h:j<i+1
 ·rw[if_pos h,au (show ¬i+1≤j by lia),bZ,Bool.or_false];rw[Nat.testBit_two_pow_sub_one];by_cases h2:i=j
  ·subst h2;simp
  ·simp[h2]
 ·rw[if_neg h,ao (show i+1≤j by lia),au (show ¬i=j by lia)];simp
theorem Dj (i q:Nat):Builtin.bitAnd ((2^i*(2*q+1):Nat):Int) (-((2^i*(2*q+1):Nat):Int))=((2^i:Nat):Int):=by
 have h1:0<2^i:=bM i;have h2:2^i*(2*q+1)=2^(i+1)*q+2^i:=by rw[Nat.mul_add,Nat.mul_one,cS,←Nat.mul_assoc]
 have e:-((2^i*(2*q+1):Nat):Int)=Builtin.bitNot ((2^i*(2*q+1)-1:Nat):Int):=by unfold Builtin.bitNot;lia
 rw[e,qw];have:=wY (2^i*(2*q+1)) (2^i*(2*q+1)-1);rw[sU]at this
 lia
theorem oO (i q:Nat):2^i*(2*q+1)-2^i=2^(i+1)*q:=by
 have h2:2^i*(2*q+1)=2^(i+1)*q+2^i:=by rw[Nat.mul_add,Nat.mul_one,cS,←Nat.mul_assoc]
 lia
theorem l8 {c:eg}{q:Nat}(h:2^i*(2*q+1)<2^c.n):∃k,c.ks[i]?=some k∧c.ix k=i∧c.listed (2^i*(2*q+1))=k::c.listed (2^(i+1)*q):=by
 have hi:i<c.n:=by
  refine Nat.lt_of_not_le fun z=>?_;have h1:=Nat.pow_le_pow_right (show 0<2 by decide) z;have h2:2^i≤2^i*(2*q+1):=Nat.le_mul_of_pos_right _ (by lia)
  lia
 have d:c.ks[i]?=some c.ks[i]:=aj hi;refine⟨_,d,c.KH d,?_⟩;have g:c.ks=c.ks.take i++c.ks[i]::c.ks.drop (i+1):=by rw[←dR hi,List.take_append_drop]
 have lo:∀(m:Nat),(∀j,j<i→m.testBit j=false)→(c.ks.take i).filter (fun k=>m.testBit (c.ix k))=[]:=fun m p=>by
  rw[List.filter_eq_nil_iff];intro k a;obtain⟨j,b⟩:=az.mp a;rw[cc]at b
  split at b
  ·next hlt=>rw[c.KH b,p j hlt];decide
  ·cases b
 have e:∀k∈c.ks.drop (i+1),i<c.ix k:=fun k a=>by
  obtain⟨j,b⟩:=az.mp a;rw[List.getElem?_drop]at b;rw[c.KH b]
  lia
 have s:∀j,j<i→(2^i*(2*q+1)).testBit j=false:=fun j b=>by rw[cG,au (by lia),bZ]
 have l:∀j,j<i+1→(2^(i+1)*q).testBit j=false:=fun j b=>by rw[cG,au (by lia),bZ]
 have r:c.listed (2^i*(2*q+1))=c.ks[i]::(c.ks.drop (i+1)).filter (fun k=>(2^i*(2*q+1)).testBit (c.ix k)):=by
  unfold eg.listed
  conv=>lhs;rw[g]
  rw[ce,lo _ s,dL,aG,if_pos];rw[c.KH d,tI,ao rfl,Bool.true_or]
 have o:c.listed (2^(i+1)*q)=(c.ks.drop (i+1)).filter (fun k=>(2^(i+1)*q).testBit (c.ix k)):=by
  unfold eg.listed
  conv=>lhs;rw[g]
  rw[ce,lo _ (fun j b=>l j (by lia)),dL,aG,if_neg];rw[c.KH d,l i (by lia)];decide
 rw[r,o]
 congr 1
 refine List.filter_congr fun k a=>?_;rw[tI,au (show ¬i=c.ix k by have:=e k a;lia),Bool.false_or]
theorem AQ {q n:Nat}(h:2^i*(2*q+1)<2^n):2^(i+1)*q<2^n:=by
 have:=oO i q;have:=bM i
 lia
structure ww (es:List En)(sn:List Nd)(ps:List Pk):Prop where
 one:∀j∈ps,∀k∈ps,j.1=k.1→j=k
 key:∀k∈ps,k∈es.map eX
 met:∀w:Option Pk,(∀k,w=some k→k∈ps)→∀n∈gK es sn w,∃j∈ps,j.1=n.1∧lH n j.2=true
theorem oN {n:Nd}:v∈iM es n↔(n.1,v)∈es.map eX∧lH n v=true:=by
 rw[pV,aW];refine and_congr_left fun _=>?_;unfold gY;simp only[av,aW,ax]
 constructor
 ·rintro⟨e,⟨a,h1⟩,h2⟩;exact⟨e,a,Prod.ext h1 h2⟩
 ·rintro⟨e,a,h⟩;have h':(e.1,e.2.1)=(n.1,v):=h;rw[Prod.mk.injEq]at h';exact⟨e,⟨a,h'.1⟩,h'.2⟩
theorem sT {n:Nd}:v∈jl es n↔(n.1,v)∈es.map eX∧lH n v=true:=by
 unfold jl;rw[(List.mergeSort_perm _ _).mem_iff,oN]
theorem GB {sn:List Nd}{ps:List Pk}(D:∀(i:Nat) (l:Ln),ls[i]?=some l→jj es sn ls (i:Nat) l=true)(x:ww es sn ps):∀(i:Nat) (l:Ln),ls[i]?=some l→¬∀p∈l.1,p∈ps:=by
 intro i
 induction i using Nat.strongRecOn with
 |_ i ih=>
  intro l F b;have h:=D i l F;unfold jj at h;rw[aD]at h;obtain⟨B,h⟩:=h;cases hn:iD (gK es sn l.2.who) l.2.place with
  |none=>rw[hn]at h;cases h
  |some n=>
   rw[hn]at h;dsimp only at h;have q:=mM hn
   obtain⟨j,y,g,r⟩:=x.met l.2.who (fun k e=>b k (by
    rw[e]at B;have d:(decide (k∈l.1)&&decide (k∈es.map eX))=true:=B;rw[aD]at d
    exact aR d.1)) n q
   cases ht:l.2.told with
   |one k=>
    rw[ht]at h;have h':(decide (k∈l.1)&&qm n k)=true:=h;unfold qm at h';simp only[aD,ax,bQ]at h';obtain⟨h1,h2,C⟩:=h';have e:=x.one j y k (b k h1) (by rw[g,h2]);rw[←e,r]at C;cases C
   |many bs=>
    rw[ht]at h;have h':kF es ls (i:Nat) l.1 n bs=true:=h;unfold kF at h';rw[aD,ax,bc]at h';obtain⟨h1,h2⟩:=h';have m:j=(n.1,j.2):=Prod.ext g rfl;have H:j.2∈jl es n:=sT.mpr ⟨m▸x.key j y,r⟩;obtain⟨t,o⟩:=az.mp H;have w:t<bs.length:=by rw[h1];exact(af.mp o).1
    have E:(bs.zip (jl es n))[t]?=some (bs[t],j.2):=dQ.mpr ⟨aj w,o⟩
    have s:=h2 _ (ak E);unfold uF at s;dsimp only at s;simp only[aD,ax]at s;obtain⟨A,G,a⟩:=s;cases hl2:iD ls bs[t] with
    |none=>rw[hl2]at a;cases a
    |some l'=>
     rw[hl2]at a;dsimp only at a;rw[bc]at a;have v:ls[bs[t].toNat]?=some l':=by
      unfold iD at hl2;rw[if_pos A]at hl2;exact hl2
     refine ih bs[t].toNat (by omega) l' v fun p hp=>?_;have:=a p hp;rw[cV,ax,ax]at this;rcases this with z | z
     ·exact b p z
     ·rw[z,←m];exact y
theorem iE.fit {c:eg}(h:iE c L s)(o:s.wanted=[]):ww c.es c.sn (c.listed s.picked):=by
 refine⟨fun j b k g e=>h.one j k (eg.KI.mp b) (eg.KI.mp g) e,fun k g=>(c.mem k).mp (eg.KI.mp g).1,fun w i n m=>?_⟩;have a:c.K0 s.picked w:=by
  cases w with
  |none=>trivial
  |some k=>exact eg.KI.mp (i k rfl)
 rcases h.w2 w a n m with ⟨j,b,d⟩ | z
 ·refine⟨j,eg.KI.mpr b,d,Decidable.byContradiction fun z=>?_⟩;have l:c.KY w j:=⟨n,m,by unfold qm;rw[ao d,bV.mpr z];rfl⟩;refine h.off j (h.sup j b.1 ?_) b;cases w with
  |none=>exact .inl l
  |some q=>exact .inr (.inr ⟨q,a,.inr l⟩)
 ·rw[o]at z;cases z
theorem yJ {c:eg}{k:Pk}(h:∀j,c.has m j↔j∈c.left x s)(g:(c.listed m).getLast?=some k):k∈c.ks∧k.1=x∧¬c.has s.dead k∧∀j∈c.ks,j.1=x→k.2<j.2→c.has s.dead j:=by
 have d:=eg.Ld.mp ((h k).mp (eg.KI.mp (List.mem_of_getLast? g)));refine⟨d.1,d.2.1,d.2.2,fun j p b l=>Decidable.byContradiction fun z=>?_⟩;have e:j∈c.listed m:=eg.KI.mpr ((h j).mpr (eg.Ld.mpr ⟨p,b,z⟩));obtain⟨i,hi⟩:=az.mp e;have a:(c.listed m)[(c.listed m).length-1]?=some k:=by rw[←List.getLast?_eq_getElem?];exact g
 have o:=(af.mp hi).1;rcases dm i ((c.listed m).length-1) with h1 | h1
 ·obtain⟨v,j',q,r,t⟩:=ku hi a h1;have:=c.srt _ _ j k q r t (by rw[b,d.2.1]);omega
 ·have:i=(c.listed m).length-1:=by omega
  rw[this,a]at hi;cases hi;omega
theorem xX {c:eg}(b:m<2^c.n)(e:m≠0)(h:m &&& (m-1)=0):∃k∈c.ks,m=c.bit k:=by
 obtain⟨i,q,rfl⟩:=vR m e;rw[sU]at h;have d:q=0:=by
  rcases dM q with z | z
  ·exact z
  ·have:=Nat.mul_pos (bM (i+1)) z;omega
 subst d;obtain⟨k,a,g,_⟩:=l8 b;refine⟨k,ak a,?_⟩;unfold eg.bit;rw[g];simp
theorem wj {c:eg}{e:Nat×Rs}{k:Pk}(a:k∈c.ks)(g:e∈L)(h:ig e.1 p=c.bit k):c.K2 L p k∧¬c.has p k:=by
 have h1:c.has (ig e.1 p) k:=by rw[h];exact(eg.KM a).mpr rfl
 obtain⟨h2,b⟩:=eg.KL.mp h1;refine⟨⟨e,g,h2,fun j d=>?_⟩,b⟩;by_cases hp:c.has p j
 ·exact .inr hp
 ·have:c.has (ig e.1 p) j:=eg.KL.mpr ⟨d,hp⟩;rw[h]at this;exact .inl ((eg.KM a).mp this)
theorem vJ {c:eg}{e:Nat×Rs}{k:Pk}(d:k∈c.ks)(g:e.1<2^c.n)(h1:c.has e.1 k)(h2:∀j,c.has e.1 j→j=k∨c.has p j)(h:¬c.has p k):ig e.1 p=c.bit k:=by
 refine eg.ext (jB g) (c.KO d) fun j=>?_;rw[eg.KL,eg.KM d]
 constructor
 ·rintro⟨a,b⟩;exact(h2 j a).elim id fun z=>absurd z b
 ·rintro rfl;exact⟨h1,h⟩
def eg.Ll (c:eg)(L:iu)(k:Pk)(p:Nat):Nat:=(L.filter fun e=>decide (c.has e.1 k)).foldl (fun b e=>let r:=ig e.1 p;if r &&& (r-1)=0 then b ||| r else b) 0
theorem lB {c:eg}{p:Nat}:∀(L:iu) (b:Nat),(∀e∈L,e.1<2^c.n)→b<2^c.n→(L.foldl (fun b e=>let r:=ig e.1 p;if r &&& (r-1)=0 then b ||| r else b) b<2^c.n)∧∀j,c.has (L.foldl (fun b e=>let r:=ig e.1 p;if r &&& (r-1)=0 then b ||| r else b) b) j→c.has b j∨∃e∈L,ig e.1 p=c.bit j
 |[],b,_,hb=>⟨hb,fun j hj=>.inl hj⟩
 |e::L,b,hL,hb=>by
  rw[List.foldl_cons];dsimp only;have he:=hL e (by simp);by_cases h:ig e.1 p &&& (ig e.1 p-1)=0
  ·rw[if_pos h];obtain⟨i1,i2⟩:=lB (c:=c) (p:=p) L (b ||| ig e.1 p) (fun x hx=>hL x (by simp[hx])) (ji hb (jB he));refine⟨i1,fun j hj=>?_⟩;rcases i2 j hj with z | ⟨x,hx,y⟩
   ·rcases eg.KJ.mp z with z | z
    ·exact .inl z
    ·refine .inr ⟨e,by simp,?_⟩;have h0:ig e.1 p≠0:=fun w=>by rw[w]at z;exact eg.KN z
     obtain⟨k,hk,e2⟩:=xX (jB he) h0 h;rw[e2]at z ⊢;rw[(eg.KM hk).mp z]
   ·exact .inr ⟨x,by simp[hx],y⟩
  ·rw[if_neg h];obtain⟨i1,i2⟩:=lB (c:=c) (p:=p) L b (fun x hx=>hL x (by simp[hx])) hb;refine⟨i1,fun j hj=>?_⟩;rcases i2 j hj with z | ⟨x,hx,y⟩
   ·exact .inl z
   ·exact .inr ⟨x,by simp[hx],y⟩
theorem yY {c:eg}{k:Pk}(d:gX c L):c.Ll L k p<2^c.n∧∀j,c.has (c.Ll L k p) j→c.K2 L p j∧¬c.has p j:=by
 obtain⟨h1,h2⟩:=lB (c:=c) (p:=p) (L.filter fun e=>decide (c.has e.1 k)) 0 (fun e a=>d.lt e (aW.mp a).1) (bM _);refine⟨h1,fun j b=>?_⟩;rcases h2 j b with z | ⟨e,a,y⟩
 ·exact(eg.KN z).elim
 ·exact wj b.1 (aW.mp a).1 y
end FB
namespace L2
open PySem PySem.Spec PyProof.Rows FB
variable {H:Hp}{Q:Value→Shared→Prop}{X:Cx}{body e:Expr}{cy cy':Addr}{j j':Nat}{params:Arguments}{pos:Pos}{s:Shared}{scope:Scope}{x y y':Str}{σ:St}
abbrev Jo (X:Cx)(A:Around)(qual:Str)(scope:Scope)(q c:Addr)(cl:List (Str×Addr))(N':List Str)(s:Shared)(H:Hp):Cx:=
 {X with A:=A.deeper (W.envX qual scope s.heap.objs.size q (.ref c) cl),N:=N',s₀:=s,H₀:=H,env:=W.envX qual scope s.heap.objs.size q (.ref c) cl,outer:=X.stack,stack:=W.envX qual scope s.heap.objs.size q (.ref c) cl::X.stack,ex:=[],fn:=fun _=>false,calm:=true,pn:=[],xe:=fun _ _=>False}
structure FU (X:Cx)(scope:Scope)(x y y':Str)(cy cy':Addr)(j j':Nat):Prop where
 clos:closureFor scope X.env=pure [(y,cy),(y',cy')]
 l1:X.env.cells.lookup y=some cy
 l2:X.env.cells.lookup y'=some cy'
 kind:scope.kind=.function
 co:scope.isCoroutine=false
 gen:scope.isGenerator=false
 px:scope.names.lookup x=some .local
 nocell:∀z∈scope.names,z.2≠.cell
 frees:∀z,scope.names.lookup z=some .free→z=y∨z=y'
 f1:scope.names.lookup y=some .free
 f2:scope.names.lookup y'=some .free
 n1:X.N[j]?=some y
 n2:X.N[j']?=some y'
 k1:X.env.kindOf y=some .cell
 k2:X.env.kindOf y'=some .cell
 v1:D3 X.env.scope y
 v2:D3 X.env.scope y'
 ne:y'≠y
 xy:x≠y
 xy':x≠y'
section
variable {pins:List (Addr×Obj)}
theorem AY {A:Around}{k:Nat}{qual:Str}{pm ctv:Value}{q c:Addr}{te:TE}{v a b:V}{u:Value}{Q:VK}(S:FU X scope x y y' cy cy' j j')(hA:A.frames=some X.stack)(Y:gM (k+1) A)(I:eU X pins σ H s)(ho:s.heap.get? q=some (W.kla_obj "<lambda>" qual params body scope [(y,cy),(y',cy')] pm c ctv))(U:s.heap.CodeRec (.ref c) qual)(G:∀u:Value,bindArgs (W.kla_fn "<lambda>" qual params body scope [(y,cy),(y',cy')] pm (.ref c) ctv) ⟨[u],[]⟩=pure [(x,u)])(e1:σ[j]?=some (some a))(e2:σ[j']?=some (some b))(rv:eY v u)(hB:PE (Jo X A qual scope q c [(y,cy),(y',cy')] [x,y,y'] s H) body te)(h:te [some v,some a,some b] H Q):codeAny (model X.prog X.w) A (.call (.ref q) ⟨[u],[]⟩) (CR fh X.stack X.prog X.w H s Q E0) s:=by
 have L:(([(y,cy),(y',cy')]:List (Str×Addr)).lookup y)=some cy:=by rw[aX,beq_self_eq_true]
 have K:(([(y,cy),(y',cy')]:List (Str×Addr)).lookup y')=some cy':=by rw[aX,beq_false_of_ne S.ne,aX,beq_self_eq_true]
 have E:∀z d,([(y,cy),(y',cy')]:List (Str×Addr)).lookup z=some d→X.env.cells.lookup z=some d:=fun z d e=>by
  by_cases q:z=y
  ·subst q;rw[L]at e;rw[S.l1];exact e
  ·by_cases q':z=y'
   ·subst q';rw[K]at e;rw[S.l2];exact e
   ·rw[aX,beq_false_of_ne q,aX,beq_false_of_ne q']at e;simp at e
 refine W.kla_callFunE Y.depth ho rfl S.co S.gen rfl U ?_;rw[G u];refine ar (wpAny_newFunctionEnv S.nocell (fun z hz=>by rw[ai.mp hz];exact S.px) (fun h₁ T R=>?_) S.kind);have F:∀b o,s.heap.get? b=some o→h₁.get? b=some o:=fun b o e=>R.extBut b o (aU (aN e)) (aC _ e);refine⟨I.nolimit.keeps F,W.kla_codeExpr ?_⟩;show wpAny (model X.prog X.w) (A.deeper (W.envX qual scope s.heap.objs.size q (.ref c) [(y,cy),(y',cy')])) (eval body (W.envX qual scope s.heap.objs.size q (.ref c) [(y,cy),(y',cy')])) _ _ _;have C:∀{i:Nat} {z:Str} {cz:Addr} {t:V},X.N[i]?=some z→σ[i]?=some (some t)→D3 X.env.scope z→X.env.kindOf z=some .cell→X.env.cells.lookup z=some cz→∃D,eY t D∧s.heap.IsCell cz (some D):=fun {i z cz t} hn hs hv hk hl=>by
  obtain⟨m,_,loc⟩:=I.loc;obtain⟨D,r,l⟩:=loc i z t hn hs hv;rcases l with ⟨k,_⟩ | ⟨_,c2,e,g⟩
  ·rw[hk]at k;cases k
  ·rw[hl]at e;cases e;exact⟨D,r,g⟩
 have B:∀{cz:Addr} {t:Option Value},s.heap.IsCell cz t→h₁.IsCell cz t:=fun {cz t} ⟨o,e,d⟩=>⟨o,F _ _ e,d⟩;have J:eU (Jo X A qual scope q c [(y,cy),(y',cy')] [x,y,y'] s H) [] [some v,some a,some b] H {s with heap:=h₁,toks:=s.toks+1}:=by
  refine⟨⟨I.ok.mod,S.kind,rfl,rfl,aq _,fun z1 Z d h1 h2=>I.ok.inj z1 Z d (E _ _ h1) (E _ _ h2),fun z hz=>?_,fun z d hf _=>absurd (show false=true from hf) (by decide),fun _=>Y.hd,Around.frames_deeper hA,.inr ⟨rfl,rfl⟩,fun b G=>absurd (show b∈([]:List Addr) from G) (by simp),I.bs,bw I.ok.bsz I.sz,fun b _ _ G=>absurd (show b∈([]:List Addr) from G) (by simp),fun b G=>absurd (show b∈([]:List Addr) from G) (by simp),I.stack,I.Kl⟩,rfl,I.bare,Un.kept F,⟨_,T,fun i z t h1 h2 h3=>?_⟩,fun z d e=>?_,I.hok.fresh (aq _),fun z d e=>I.freeC z d (E z d e),fun p hp=>absurd (show p∈([]:List (Addr×Obj)) from hp) (by simp),I.hok.kept F,rfl⟩
  ·have hz:scope.names.lookup z=some .cell∨scope.names.lookup z=some .free:=hz;rcases hz with hz | hz
   ·exact absurd rfl (S.nocell _ (bt hz))
   ·rcases S.frees z hz with rfl | rfl
    ·exact⟨cy,L⟩
    ·exact⟨cy',K⟩
  ·match i,h1,h2 with
   |0,h1,h2=>
    have O:x=z:=by simpa using h1
    have M:v=t:=by simpa using h2
    subst O M;exact⟨u,rv,.inl ⟨S.px,by simp⟩⟩
   |1,h1,h2=>
    have O:y=z:=by simpa using h1
    have M:a=t:=by simpa using h2
    subst O M;obtain⟨D,r,g⟩:=C S.n1 e1 S.v1 S.k1 S.l1;exact⟨D,r,.inr ⟨.inr S.f1,cy,L,B g⟩⟩
   |2,h1,h2=>
    have O:y'=z:=by simpa using h1
    have M:b=t:=by simpa using h2
    subst O M;obtain⟨D,r,g⟩:=C S.n2 e2 S.v2 S.k2 S.l2;exact⟨D,r,.inr ⟨.inr S.f2,cy',K,B g⟩⟩
   |i+3,h1,_=>simp at h1
  ·obtain⟨t,g⟩:=I.cell z d (E z d e);exact⟨t,B g⟩
 refine b0 (hB [] _ _ H Q J h) (fun D s' hE=>?_) fun e s' hF=>False.elim hF;obtain⟨t,H',P,r,hq⟩:=hE;exact⟨t,H',P.os,P.bare,P.base,P.hok,r,hq⟩
end
def ii (qual:Str)(lp:Pos)(H:Hp)(P:Addr):Prop:=H P=some (.tbl #[])∨∃c:Addr,H P=some (.tbl #[rawInt lp.line,rawInt lp.col,.ref c])∧H c=some (.ext fun h=>h.CodeRec (.ref c) qual)
def tM (mg:Str→Option Value)(base:Heap):Prop:=∃bm ob,mg "__builtins__" = some (.ref bm)∧bm≠builtinsNs∧base.get? bm=some ob∧ob.cls=.type "module"∧ob.dict=some builtinsNs∧ob.data=.plain
section
variable {pins:List (Addr×Obj)}{A:Around}{E:Value→Shared→Prop}
theorem AX {c P:Addr}{lp:Pos}(S:FU X scope x y y' cy cy' j j')(d:X.env.code=.ref c)(aa:W.codeHdIn X.K c P=true)(BM:tM X.mg X.base)(ag:defaultsOf params X.env=([],[]))(I:eU X pins σ H s)(hT:ii (X.env.qual++"<lambda>") lp H P)(k:∀(q c':Addr) (ctv:Value) (s':Shared) (H':Hp),eU X (pins++[(q,W.kla_obj "<lambda>" (X.env.qual++"<lambda>") params body scope [(y,cy),(y',cy')] ((X.mg "__name__").getD .none) c' ctv)]) σ H' s'→eF (del H [P]) H'→ii (X.env.qual++"<lambda>") lp H' P→H' c'=some (.ext fun h=>h.CodeRec (.ref c') (X.env.qual++"<lambda>"))→Q (.ref q) s'):wpAny (model X.prog X.w) A (eval (.Lambda params body scope lp) X.env) Q E s:=by
 refine W.kla_eval ag ?_;obtain⟨Z,ob,b1,b2,Y,b4,b5,b6⟩:=BM;have tP:∃ps,H P=some (.tbl ps):=by
  rcases hT with e | ⟨c',e,_⟩
  ·exact⟨_,e⟩
  ·exact⟨_,e⟩
 obtain⟨ap,U⟩:=tP;have gP:∀{ps:Array Value},H P=some (.tbl ps)→s.heap.get? P=some (W.tabObj ps):=fun e=>(show fH X.prog X.w H s.heap P (.tbl _) from I.hok P _ e);have D:s.heap.Ns mainGlobals X.mg:=I.mod.glob.keeps I.bk;have hC:W.CodeHd s.heap c P:=W.codeHd_of_K I.kIn aa;have al:mainGlobals≠P:=fun q=>by
  obtain⟨o,es,ep,e,M,_⟩:=D;have:=gP U;rw[←q,e]at this;cases this;cases M
 have ad:Z≠P:=fun q=>by
  have:=(I.bs Z ob Y).2;rw[q,U]at this;cases this
 have ah:Z≠mainGlobals:=fun q=>by
  obtain⟨o,es,ep,e,M,_⟩:=I.mod.glob;rw[q,e]at Y;cases Y;rw[M]at b6;cases b6
 have BA:s.heap.BuiltinsAt X.mg P:=⟨Z,ob,b1,b2,ah,ad,I.bk _ _ Y,b4,b5,b6⟩;have T:∀{c':Addr} {ctv:Value} {h':Heap} {tk:Nat} {H':Hp},eU X pins σ H' {s with heap:=h',toks:=tk}→eF (del H [P]) H'→ii (X.env.qual++"<lambda>") lp H' P→H' c'=some (.ext fun h=>h.CodeRec (.ref c') (X.env.qual++"<lambda>"))→
   Q (.ref h'.objs.size) {s with heap:=h'.push (W.kla_obj "<lambda>" (X.env.qual++"<lambda>") params body scope [(y,cy),(y',cy')] ((X.mg "__name__").getD .none) c' ctv),toks:=tk}:=fun {c' ctv h' tk H'} G hs ht hc=>by
  have I2:eU X pins σ H' {s with heap:=h'.push (W.kla_obj "<lambda>" (X.env.qual++"<lambda>") params body scope [(y,cy),(y',cy')] ((X.mg "__name__").getD .none) c' ctv),toks:=tk}:=G.kept (t':=tk) fun b o e=>aC _ e;refine k _ c' ctv _ H' (I2.Km fun p hp=>?_) hs ht hc;rcases aB.mp hp with z | z
  ·exact I2.pin p (aM _ z)
  ·rw[ai.mp z]
   exact⟨aP _ rfl,G.hok.fresh (aq _),Nat.ne_of_gt G.lt,G.Kj (aq _),fun v z=>by
    have z':Data.func _=Data.cell v:=z
    cases z'⟩
 have B:eF (del H [P]) H:=fB _ _;rcases hT with e | ⟨c',e,ec⟩
 ·refine W.kla_makeFunction S.clos I.ok.glob D d hC (gP e) trivial rfl al BA fun c' ctv h' tk C N as l L=>?_;have a:H c'=none:=I.hok.fresh N;have R:c'≠P:=fun z=>by rw[z,e]at a;cases a
  have nP:∀b,H b=none→b≠P:=fun b n z=>by rw[z,e]at n;cases n
  have nC:∀b o,s.heap.get? b=some o→b≠c':=fun b o q=>aU (aY (aN q) N);have i:∀b,b≠c'→b≠P→upd (upd H P (.tbl #[rawInt lp.line,rawInt lp.col,.ref c'])) c' (.ext fun h=>h.CodeRec (.ref c') (X.env.qual++"<lambda>")) b=H b:=fun b h1 h2=>by rw[ef h1,ef h2]
  have g:∀b u,H b=some u→(∀ps,u≠.tbl ps)→upd (upd H P (.tbl #[rawInt lp.line,rawInt lp.col,.ref c'])) c' (.ext fun h=>h.CodeRec (.ref c') (X.env.qual++"<lambda>")) b=some u:=fun b u q nt=>by
   rw[i b (fun z=>by rw[z,a]at q;cases q) (fun z=>by rw[z,e]at q;cases q;exact nt _ rfl)];exact q
  have G:eU X pins σ (upd (upd H P (.tbl #[rawInt lp.line,rawInt lp.col,.ref c'])) c' (.ext fun h=>h.CodeRec (.ref c') (X.env.qual++"<lambda>"))) {s with heap:=h',toks:=tk}:=by
   refine I.step (g':=s.gens) (d':=s.drawn) (ch:=[]) (fun _ z=>nomatch z) (fun b o _ _ _ q n=>C b o (nP b n) q) (fun b o _ _ _ q n=>⟨o.slots,C b o (nP b n) q⟩) (fun b o _ q n=>by rw[i b (nC b o q) (nP b n)];exact n) (fun b o _ q=>?_)
    (fun b xs q=>g b _ q (fun ps z=>nomatch z)) (fun b o u q=>g b _ q (fun ps z=>nomatch z)) (fun b ps q=>?_) (fun m hm=>?_) (fun b u q=>?_) I.bare
   ·by_cases hb:b=P
    ·exact⟨_,by rw[hb];exact L⟩
    ·exact⟨o,C b o hb q⟩
   ·by_cases hb:b=P
    ·subst hb;rw[e]at q;cases q;exact⟨#[rawInt lp.line,rawInt lp.col,.ref c'],by rw[ef (Ne.symm R),d0];simp⟩
    ·exact⟨#[],by rw[i b (fun z=>by rw[z,a]at q;cases q) hb,q];simp⟩
   ·obtain⟨o,es,ep,ho,r⟩:=hm;exact⟨o,es,ep,C _ o (nP _ I.free) ho,r⟩
   ·by_cases hb:b=c'
    ·subst hb;rw[d0]at q;cases q;obtain⟨F,oc,vs,t,e2,O,M,hv⟩:=l;cases e2
     exact⟨⟨_,oc,vs,t,rfl,O,M,hv⟩,⟨oc,O⟩,fun h1 h2 ⟨c3,o3,v3,t3,g1,g2,g3,g4⟩ hk=>by
      cases g1
      exact⟨_,o3,v3,t3,rfl,hk _ g2,g3,g4⟩⟩
    ·rw[ef hb]at q;by_cases hb2:b=P
     ·subst hb2;rw[d0]at q;cases q;show h'.get? b=some (W.tabObj _);rw[L];simp
     ·rw[ef hb2]at q;refine(I.hok b u q).Kh (fun F w' hc2 z=>C F w' (fun J=>?_) z) (fun F z=>g F _ z (fun ps J=>nomatch J)) fun F xs z=>g F _ z (fun ps J=>nomatch J);rcases hc2 with hc2 | hc2
      ·exact hb2 (hc2▸J)
      ·rw[J,e]at hc2;cases hc2
  refine T G (fun b u q=>?_) (.inr ⟨c',by rw[ef (Ne.symm R),d0],d0⟩) d0;by_cases hb:b=P
  ·rw[hb,fL (by simp)]at q;cases q
  ·rw[eD (by simpa using hb)]at q;rw[i b (fun z=>by rw[z,a]at q;cases q) hb];exact q
 ·have l:s.heap.CodeRec (.ref c') (X.env.qual++"<lambda>"):=(show fH X.prog X.w H s.heap c' (.ext fun h=>h.CodeRec (.ref c') (X.env.qual++"<lambda>")) from I.hok c' _ ec).1;refine W.kla_makeFunctionHit (cv:=.ref c') S.clos I.ok.glob D d hC (gP e) trivial (by simp[codeAmong,rawInt]) BA fun ctv h' tk C an=>?_;exact T (I.kept (t':=tk) C) B (.inr ⟨c',e,ec⟩) ec
end
section
variable {pq:List (Addr×Obj)}{d q it S:Addr}{o oq:Obj}{kvs:List (gv×V)}{es:Array DictEntry}{ep:Nat}{kf:Nat→Int}{R:Result→Shared→Prop}
def tL (X:Cx)(σ:St)(H:Hp)(q:Addr)(oq:Obj)(kvs:List (gv×V))(kf:Nat→Int):Prop:=∀(i:Nat) (kv:gv×V),kvs[i]?=some kv→∀(pins:List (Addr×Obj)) (s:Shared) (u:Value),eU X pins σ H s→(q,oq)∈pins→eY (kV kv.1) u→
 wpAny (model X.prog X.w) X.A.in1 (call (.ref q) [u]) (EP X pins σ fun v H'=>v=.int (kf i)∧H'=H) (fun _ _=>False) s
theorem ui {i:Nat}{kv:gv×V}{u:Value}(a:tL X σ H q oq kvs kf)(y:(q,oq)∈pq)(e:jG X pq H it)(d:jG X pq H S)(o:kvs[i]?=some kv)(C:eY (kV kv.1) u)(I:eU X pq σ H s){oI oS:Obj}(B:s.heap.get? it=some oI)(m:s.heap.get? S=some oS)(j:∀v,oI.data≠.cell v)(l:∀v,oS.data≠.cell v)(h:∀s' t,eU X pq σ H s'→s'.heap.get? it=some oI→s'.heap.get? S=some oS→Q (.int (kf i) t) s'):wpAny (model X.prog X.w) X.A.in1 (call (.ref q) [u]) Q (fun _ _=>False) s:=by
 have J:eU X (pq++[(it,oI),(S,oS)]) σ H s:=I.Km fun p hp=>by
  rcases aB.mp hp with z | z
  ·exact I.pin p (aM _ z)
  ·rcases am.mp z with z | z
   ·rw[z];exact⟨B,e.1,e.2.1,e.2.2.1,j⟩
   ·rw[ai.mp z];exact⟨m,d.1,d.2.1,d.2.2.1,l⟩
 refine b0 (a i kv o _ s u J (aQ _ y) C) (fun v s' g=>?_) fun _ _ z=>z;obtain⟨E,H',b,r,x,D⟩:=g;subst x D;obtain⟨t,rfl⟩:=(show ∃t,v=Value.int (kf i) t from r);exact h s' t b.Kt (b.pin (it,oI) (aM _ (aM _ (by simp)))).1 (b.pin (S,oS) (aM _ (aM _ (by simp)))).1
theorem Fd (hc:X.calm=true)(hH:H d=some (.frz o (.dK kvs)))(hd:o.data=.dict es ep)(hq:(q,oq)∈pq)(L:S≠it)(B:jG X pq H it)(m:jG X pq H S)(Y:tL X σ H q oq kvs kf)(hR:∀i kv u s',kvs[i]?=some kv→(∀j,j<kvs.length→kf i≤kf j)→eU X pq σ H s'→eY (kV kv.1) u→R (.ok (.ret u)) s'):∀(r j i:Nat) (s:Shared) (vb:Value) (tb:Tok) (c:Nat) (kv:gv×V),es.size-(j+1)=r→j+1≤es.size→eU X pq σ H s→s.heap.get? S=some (seqObj "list" #[vb,.int (kf i) tb] c)→s.heap.IsKeyIter it d (j+1) es.size ep→kvs[i]?=some kv→eY (kV kv.1) vb→(∀j',j'≤j→kf i≤kf j')→codeAny (model X.prog X.w) X.A (.builtin "min.loop" ⟨[.ref it,.ref q,.ref S],[]⟩) R s:=by
 have l:(toString "min"++toString ".loop" : String) = "min.loop":=by decide
 intro r
 induction r with
 |zero=>
  intro j i s vb tb c kv hr hj I N J hk rk g;obtain⟨ho,_,_,ad,aa,y,hn,p⟩:=oo I.hok hH;rw[hd]at y;cases y;refine codeAny_builtin PySem.F.entry_min_loop ?_;rw[Around.under_plainId PySem.F.plain_min_loop _];show wpAny _ X.A.in1 (seqItems? (.ref S) >>= _) _ _ _;refine ac (wpAny_seqItems N rfl ?_);show wpAny _ X.A.in1 (tryCatch (pyNext (.ref it)) _ >>= _) _ _ _;refine ac (dC (vK (show X.A.in1.handled=none from I.ok.hd hc) J ho hd (by omega) fun h' P=>?_));have I1:eU X pq σ H {s with heap:=h'}:=I.turned (t':=s.toks) (fun b o C e=>P b o C e) B.1 B.2.1 B.2.2.2.1 B.2.2.2.2.1 B.2.2.2.2.2;have K:=P S _ L N;have s1:=Heap.SameBut.update h' S (Obj.mapSeq fun _=>(#[]:Array Value));have Z:eU X pq σ H {s with heap:=h'.update S (Obj.mapSeq fun _=>(#[]:Array Value))}:=I1.turned (t':=s.toks) (fun b o C e=>(s1.2 b C).trans e) m.1 m.2.1 m.2.2.2.1 m.2.2.2.2.1 m.2.2.2.2.2;show wpAny _ X.A.in1 (updateSeq S (fun _=>#[]) >>= _) _ _ _;refine ac ?_;refine wpAny_updateSeq K rfl (ac (wpAny_letGo (ar ?_)));exact hR i kv vb _ hk (fun j' T=>g j' (by omega)) Z rk
 |succ r ih=>
  intro j i s vb tb c kv hr hj I N J hk rk g;obtain⟨ho,_,_,ad,aa,y,hn,p⟩:=oo I.hok hH;rw[hd]at y;cases y;have h:j+1<es.size:=by omega
  have D:kvs[j+1]?=some (kvs[j+1]'(by omega)):=aj (by omega);refine codeAny_builtin PySem.F.entry_min_loop ?_;rw[Around.under_plainId PySem.F.plain_min_loop _];show wpAny _ X.A.in1 (seqItems? (.ref S) >>= _) _ _ _;refine ac (wpAny_seqItems N rfl ?_);show wpAny _ X.A.in1 (tryCatch (pyNext (.ref it)) _ >>= _) _ _ _;refine ac (dC (oM J ho hd h fun h' M sb=>?_));have I1:eU X pq σ H {s with heap:=h'}:=I.turned (t':=s.toks) (fun b o C e=>(sb.2 b C).trans e) B.1 B.2.1 B.2.2.2.1 B.2.2.2.2.1 B.2.2.2.2.2;have K:h'.get? S=_:=(sb.2 S L).trans N;obtain⟨oI,eI,cI,dI⟩:=id M;show wpAny _ X.A.in1 (tryCatch (holding [es[j+1].key] (call (.ref q) [es[j+1].key])) _ >>= _) _ _ _;refine ac (dC (bF (b0 (ui Y hq B m D (p _ _ h D) I1 eI K (fun v z=>by rw[dI]at z;cases z) (fun v z=>by cases z) (Q:=fun v s'=>∃t,v=Value.int (kf (j+1)) t∧eU X pq σ H s'∧s'.heap.get? it=some oI∧s'.heap.get? S=some (seqObj "list" #[vb,.int (kf i) tb] c)) fun s' t a b e=>⟨t,rfl,a,b,e⟩) (fun x s2 he=>?_) fun _ _ hF=>hF.elim)));obtain⟨E,rfl,Z,U,G⟩:=he;have O:s2.heap.IsKeyIter it d (j+1+1) es.size ep:=⟨oI,U,cI,dI⟩;show wpAny _ X.A.in1 (tryCatch (holding [es[j+1].key,.int (kf (j+1)) E] (richCompare .Lt (.int (kf (j+1)) E) (.int (kf i) tb) >>= _)) _ >>= _) _ _ _;refine ac (dC (bF (ac (lt_int ?_))));refine ac (bF (bR ?_));refine ac (wpAny_letGo (ar ?_));by_cases C:kf (j+1)<kf i
  ·have s1:=Heap.SameBut.update s2.heap S (Obj.mapSeq fun _=>#[es[j+1].key,.int (kf (j+1)) E]);obtain⟨c2,hc2⟩:∃c2,(s2.heap.update S (Obj.mapSeq fun _=>#[es[j+1].key,.int (kf (j+1)) E])).get? S=some (seqObj "list" #[es[j+1].key,.int (kf (j+1)) E] c2):=⟨_,get?_update_seq G fun _=>#[es[j+1].key,.int (kf (j+1)) E]⟩;have I3:eU X pq σ H {s2 with heap:=s2.heap.update S (Obj.mapSeq fun _=>#[es[j+1].key,.int (kf (j+1)) E])}:=Z.turned (t':=s2.toks) (fun b o C e=>(s1.2 b C).trans e) m.1 m.2.1 m.2.2.2.1 m.2.2.2.2.1 m.2.2.2.2.2;simp only[C,decide_true,if_true];refine ac ?_;refine wpAny_updateSeq G rfl (ac (wpAny_letGo ?_));rw[l]
   exact ar ⟨plainId_quiet PySem.F.plain_min_loop _,ih (j+1) (j+1) _ _ E c2 _ (by omega) h I3 hc2 ⟨oI,(s1.2 it L.symm).trans U,cI,dI⟩ D (p _ _ h D) fun j' T=>by
    by_cases e:j'=j+1
    ·subst e;exact Int.le_refl _
    ·have:=g j' (by omega);omega⟩
  ·simp only[C,decide_false,cf,if_false];refine ac (wpAny_letGo ?_);rw[l]
   exact ar ⟨plainId_quiet PySem.F.plain_min_loop _,ih (j+1) i _ vb tb c kv (by omega) h Z G O hk rk fun j' T=>by
    by_cases e:j'=j+1
    ·subst e;omega
    ·exact g j' (by omega)⟩
theorem Fe {E:Value→Shared→Prop}(hc:X.calm=true)(I:eU X pq σ H s)(T:H d=some (.frz o (.dK kvs)))(K:0<kvs.length)(hq:(q,oq)∈pq)(r:tL X σ H q oq kvs kf)(hQ:∀i kv u s',kvs[i]?=some kv→(∀j,j<kvs.length→kf i≤kf j)→eU X pq σ H s'→eY (kV kv.1) u→Q u s'):wpAny (model X.prog X.w) X.A (call (.builtin "min") [.ref d] [(Str.ofString "key",.ref q)]) Q E s:=by
 have g:(toString "min"++toString ".loop" : String) = "min.loop":=by decide
 obtain⟨ho,hS,hx,es,ep,N,hn,p⟩:=oo I.hok T;refine kmk_tree PySem.F.kind_min PySem.F.plain_min PySem.F.entry_min (kmk_min_key _ _) ?_;show wpAny _ X.A.in1 (Builtin.Builtins.bindParams "min" ["key","default"] 0 ⟨[],[(Str.ofString "key",.ref q)]⟩ >>= _) _ _ s;refine ac (wpAny_of_eq (show Builtin.Builtins.bindParams "min" ["key","default"] 0 ⟨[],[(Str.ofString "key",.ref q)]⟩=pure [some (.ref q),none] from rfl) (ac (ar ?_)));refine ac (oQ ho hx N hS (ac (wpAny_newList ?_ (bo _))));rw[g];generalize h:s.heap.objs.size=it;have z0:s.heap.get? it=none:=h▸bj (aq _);have P:eU X pq σ H {s with heap:=s.heap.push {cls:=.type "dict_keyiterator",data:=.fields #[.ref d,.int 0 0,.int es.size 0,.int ep 0]}}:=I.kept (t':=s.toks) fun b o e=>aC _ e;have D:jG X pq H it:=I.Kz z0 (I.hok.fresh (cE h));have J:(s.heap.push {cls:=.type "dict_keyiterator",data:=.fields #[.ref d,.int 0 0,.int es.size 0,.int ep 0]}).get? it=some {cls:=.type "dict_keyiterator",data:=.fields #[.ref d,.int 0 0,.int es.size 0,.int ep 0]}:=by rw[←h];exact aP _ rfl
 generalize s.heap.push {cls:=.type "dict_keyiterator",data:=.fields #[.ref d,.int 0 0,.int es.size 0,.int ep 0]}=h1 at *;generalize C:h1.objs.size=S;have R:h1.get? S=none:=C▸bj (aq _);have G:S≠it:=fun z=>by rw[z,J]at R;cases R
 have B:jG X pq H S:=P.Kz R (P.hok.fresh (cE C));have I2:eU X pq σ H {s with heap:=h1.push (seqObj "list" #[] 0)}:=P.kept (t':=s.toks) fun b o e=>aC _ e;have gS:(h1.push (seqObj "list" #[] 0)).get? S=some (seqObj "list" #[] 0):=by rw[←C];exact aP _ rfl
 have gI:(h1.push (seqObj "list" #[] 0)).IsKeyIter it d 0 es.size ep:=⟨_,aC _ J,rfl,rfl⟩;have Z:(h1.push (seqObj "list" #[] 0)).get? d=some o:=(oo I2.hok T).1;have l:0<es.size:=by omega
 have m:kvs[0]?=some (kvs[0]'K):=aj K;refine ar ⟨plainId_quiet PySem.F.plain_min_loop _,codeAny_builtin PySem.F.entry_min_loop ?_⟩;rw[Around.under_plainId PySem.F.plain_min_loop _];show wpAny _ X.A.in1 (seqItems? (.ref S) >>= _) _ _ {s with heap:=h1.push (seqObj "list" #[] 0)};refine ac (wpAny_seqItems gS rfl ?_);show wpAny _ X.A.in1 (tryCatch (pyNext (.ref it)) _ >>= _) _ _ _;refine ac (dC (oM gI Z N l fun h' M sb=>?_));have I3:eU X pq σ H {s with heap:=h'}:=I2.turned (t':=s.toks) (fun b o O e=>(sb.2 b O).trans e) D.1 D.2.1 D.2.2.2.1 D.2.2.2.2.1 D.2.2.2.2.2;have Y:h'.get? S=_:=(sb.2 S G).trans gS;obtain⟨oI,eI,cI,dI⟩:=id M;show wpAny _ X.A.in1 (tryCatch (holding [es[0].key] (call (.ref q) [es[0].key])) _ >>= _) _ _ _;refine ac (dC (bF (b0 (ui r hq D B m (p _ _ l m) I3 eI Y (fun v z=>by rw[dI]at z;cases z) (fun v z=>by cases z) (Q:=fun v s'=>∃t,v=Value.int (kf 0) t∧eU X pq σ H s'∧s'.heap.get? it=some oI∧s'.heap.get? S=some (seqObj "list" #[] 0)) fun s' t a b e=>⟨t,rfl,a,b,e⟩) (fun x s2 he=>?_) fun _ _ hF=>hF.elim)));obtain⟨y,rfl,I4,U,L⟩:=he;have s1:=Heap.SameBut.update s2.heap S (Obj.mapSeq fun _=>#[es[0].key,.int (kf 0) y]);obtain⟨c2,hc2⟩:∃c2,(s2.heap.update S (Obj.mapSeq fun _=>#[es[0].key,.int (kf 0) y])).get? S=some (seqObj "list" #[es[0].key,.int (kf 0) y] c2):=⟨_,get?_update_seq L fun _=>#[es[0].key,.int (kf 0) y]⟩;have I5:eU X pq σ H {s2 with heap:=s2.heap.update S (Obj.mapSeq fun _=>#[es[0].key,.int (kf 0) y])}:=I4.turned (t':=s2.toks) (fun b o O e=>(s1.2 b O).trans e) B.1 B.2.1 B.2.2.2.1 B.2.2.2.2.1 B.2.2.2.2.2;show wpAny _ X.A.in1 (updateSeq S (fun _=>#[es[0].key,.int (kf 0) y]) >>= _) _ _ _;refine ac ?_;refine wpAny_updateSeq L rfl ?_;rw[g]
 exact ar ⟨plainId_quiet PySem.F.plain_min_loop _,Fd hc T N hq G D B r (fun i kv u s' a b e f=>hQ i kv u s' a b e f) _ 0 0 _ _ y c2 _ rfl l I5 hc2 ⟨oI,(s1.2 it G.symm).trans U,cI,dI⟩ m (p _ _ l m) fun j' aa=>by
  have:j'=0:=by omega
  subst this;exact Int.le_refl _⟩
end
section
variable {c P:Addr}{lp p kp:Pos}{te tb:TE}{k:Nat}
def Gp (qual:Str)(lp:Pos)(P:Addr)(j j':Nat)(te tb:TE):TE:=fun σ H Q=>te σ H fun x H1=>∃d o kvs a b,x=.ref d∧H1 d=some (.frz o (.dK kvs))∧0<kvs.length∧ii qual lp H1 P∧σ[j]?=some (some a)∧σ[j']?=some (some b)∧
 ∀H2,eF (del H1 [P]) H2→ii qual lp H2 P→∃kf:Nat→Int,(∀i kv,kvs[i]?=some kv→tb [some (kV kv.1),some a,some b] H2 fun v H4=>v=.int (kf i)∧H4=H2)∧∀i kv,kvs[i]?=some kv→(∀m,m<kvs.length→kf i≤kf m)→Q (kV kv.1) H2
theorem CW (hc:X.calm=true)(hr:gM (k+2) X.A)(S:FU X scope x y y' cy cy' j j')(B:X.env.code=.ref c)(O:W.codeHdIn X.K c P=true)(BM:tM X.mg X.base)(L:defaultsOf params X.env=([],[]))(hg:Gl X "min")(hm:X.mg "min" = none)(he:PE X e te)(Z:∀(c':Addr) (ctv pm u:Value),bindArgs (W.kla_fn "<lambda>" (X.env.qual++"<lambda>") params body scope [(y,cy),(y',cy')] pm (.ref c') ctv) ⟨[u],[]⟩=pure [(x,u)])(hB:∀q c' s H,PE (Jo X X.A.in1 (X.env.qual++"<lambda>") scope q c' [(y,cy),(y',cy')] [x,y,y'] s H) body tb)(hs:starEach [e] X.env=[(false,eval e X.env)]:=by rfl):PE X (.Call (.Name "min" p) [e] [⟨some "key",.Lambda params body scope lp,kp⟩] pos) (Gp (X.env.qual++"<lambda>") lp P j j' te tb):=by
 intro pins s σ H Q I h;refine bI (jA I hg hm PyProof.Rows.Boot.«min» ?_ (by decide) (by decide));refine callWith_kw ?_ (by rw[hs];rfl) (by rw[hs];rfl)
 have hA:=(dZ he el hs) pos pins s σ H (fun vs H1=>match vs with | [x]=>(∃d o kvs a b,x=.ref d∧H1 d=some (.frz o (.dK kvs))∧0<kvs.length∧ii (X.env.qual++"<lambda>") lp H1 P∧σ[j]?=some (some a)∧σ[j']?=some (some b)∧
  ∀H2,eF (del H1 [P]) H2→ii (X.env.qual++"<lambda>") lp H2 P→∃kf:Nat→Int,(∀i g,kvs[i]?=some g→tb [some (kV g.1),some a,some b] H2 fun v H4=>v=.int (kf i)∧H4=H2)∧∀i g,kvs[i]?=some g→(∀m,m<kvs.length→kf i≤kf m)→Q (kV g.1) H2) | _=>False) I h
 refine fV hA ?_;rintro us s1 ⟨vs,H1,I1,r,U⟩
 match vs,r,U with
 |[xv],r,⟨d,o,kvs,a,b,e2,hd,hne,hT,ea,eb,hq⟩=>
  subst e2;obtain⟨u,rfl,Y⟩:=jo r;cases (show u=Value.ref d from Y);refine kws_cons (AX S B O BM L I1 hT fun q c' ctv s2 H2 I2 T J N=>kws_nil ?_);obtain⟨kf,hk,hQ⟩:=hq H2 T J;have M:d≠P:=fun z=>by
   rcases hT with w | ⟨_,w,_⟩ <;> (rw[←z,hd]at w;cases w)
  have F:H2 d=some (.frz o (.dK kvs)):=T _ _ (by rw[eD (by simpa using M)];exact hd);refine Fe (kf:=kf) hc I2 F hne (aM _ (ai.mpr rfl)) (fun i g hi pins' E u' t hp R=>?_) fun i g u' E hi l t R=>⟨kV g.1,H2,t.Kt,R,hQ i g hi l⟩;have D:E.heap.CodeRec (.ref c') (X.env.qual++"<lambda>"):=(show fH X.prog X.w H2 E.heap c' (.ext fun h=>h.CodeRec (.ref c') (X.env.qual++"<lambda>")) from t.hok c' _ N).1;have G:X.A.in1.frames=some X.stack:=t.ok.frames;refine wpAny_call (codeAny_mono (AY (k:=k) S G hr.in1 t (t.pin _ (aM _ hp)).1 D (Z c' ctv _) ea eb R (hB q c' E H2) (hk i g hi)) fun rr s4 C=>?_);cases rr with
  |error e=>exact(show False from C).elim
  |ok fl=>
   cases fl with
   |ret u2=>exact t.after C
   |next=>exact False.elim C
   |brk=>exact False.elim C
   |cont=>exact False.elim C
end
section
variable {C:Addr}{o value:Expr}{f m:Str}{pos' tpos apos:Pos}{ta tv:TE}{t:TA}{es:List Expr}
inductive JK (C:Addr)(f:Str)(Q:VK)(x:V)(H1:Hp):Prop
 |mk (a dx fs v:_)(_:x=.ref a)(_:H1 a=some (.ins C dx fs))(_:fs.lookup f=some v)(_:Q v H1):JK C f Q x H1
def tF (C:Addr)(f:Str)(ta:TE):TE:=fun σ H Q=>ta σ H fun x H1=>JK C f Q x H1
theorem eG (c:qx X.K C)(n:fU X.K C f)(i:PE X e ta)(hb:attributeBase e f X.env (eval e X.env)=eval e X.env:=by rfl):PE X (.Attribute e f pos) (tF C f ta):=by
 intro pins s σ H Q I h;refine xh hb (fV (i pins s σ H _ I h) ?_);rintro u o ⟨x,H1,d,b,a,dx,fs,v,ex,j,l,q⟩;subst ex;obtain rfl:u=Value.ref a:=b;exact me d j c n l fun r p m g=>⟨v,H1,m,g,q⟩
inductive JM (C:Addr)(f:Str)(D:mZ)(σ:St)(y:V)(x:V)(H2:Hp):Prop
 |mk (a dx fs:_)(_:x=.ref a)(_:H2 a=some (.ins C dx fs))(_:fs.length<1000)(_:D.nx σ (upd H2 a (.ins C dx (fX f y fs)))):JM C f D σ y x H2
def sF (C:Addr)(f:Str)(ta tv:TE):TS:=fun D σ H=>tv σ H fun y H1=>ta σ H1 fun x H2=>JM C f D σ y x H2
theorem jF (c:qx X.K C)(n:fU X.K C f)(p:PE X o ta)(m:PE X value tv)(hs:swapsWith value (some (.Attribute o f pos')) pos.line X.env=pure false:=by rfl):PS X (.Assign [.Attribute o f pos'] value pos) (sF C f ta tv):=by
 intro pins s σ H D I h;refine plainObj_wpAny_Assign_Attribute (fV (m pins s σ H _ I h) ?_) hs;rintro u b ⟨y,H1,e,g,q⟩;refine fV (p pins b σ H1 _ e q) ?_;rintro i z ⟨x,H2,t,d,a,dx,fs,ex,r,l,v⟩;subst ex;obtain rfl:i=Value.ref a:=d;exact lW t r c n l g fun w j=>⟨σ,_,j,v⟩
inductive Cb (C:Addr)(f:Str)(tv:TE)(rd:V→V→Hp→VK→Prop)(D:mZ)(σ:St)(x:V)(H1:Hp):Prop
 |mk (a dx fs v:_)(_:x=.ref a)(_:H1 a=some (.ins C dx fs))(_:fs.lookup f=some v)(_:tv σ H1 fun y H2=>rd v y H2 fun z H3=>∃dx' fs',H3 a=some (.ins C dx' fs')∧fs'.length<1000∧D.nx σ (upd H3 a (.ins C dx' (fX f z fs')))):Cb C f tv rd D σ x H1
def GS (C:Addr)(f:Str)(ta tv:TE)(rd:V→V→Hp→VK→Prop):TS:=fun D σ H=>ta σ H fun x H1=>Cb C f tv rd D σ x H1
theorem CP {op:Operator}{rd:V→V→Hp→VK→Prop}(c:qx X.K C)(n:fU X.K C f)(M:PE X o ta)(J:PE X value tv)(b:FZ X op rd):PS X (.AugAssign (.Attribute o f tpos) op value pos) (GS C f ta tv rd):=by
 intro pins s σ H D I h;refine wpAny_AugAssign_AttributeAny (fV (M pins s σ H _ I h) ?_);rintro B T ⟨x,H1,i,A,a,dx,fs,v,ex,P,l,q⟩;subst ex;obtain rfl:B=Value.ref a:=A;refine me i P c n l fun u m t L=>fV (J pins m σ H1 _ t q) ?_;rintro e G ⟨y,H2,j,E,r⟩;refine fV (b pins G σ H2 v y u e _ j L E r) ?_;rintro Q R ⟨z,S,g,F,O,fs',d,N,w⟩;exact lW g d c n N F fun U p=>⟨σ,_,p,w⟩
end
structure Mt (P:Program)(w:World)(K:W.Frag)(mg:Str→Option Value)(base:Heap)(C:Addr)(CX:xS)(k:Nat)(m:Str)(ps:List Str)(sp:Sp):Prop where
 cl:qx K C
 ex:∃g gd,eZ P w K mg base CX k g gd ps sp∧gi K gd ps []∧za K C m g
section
variable {CX:xS}{k:Nat}{C:Addr}{o:Expr}{es:List Expr}{m:Str}{ps:List Str}{sp:Sp}{E:XK}{apos:Pos}{ta:TE}{t:TA}
theorem ib {pl:Sem Bool}(M:Mt X.prog X.w X.K X.mg X.base C CX k m ps sp)(h:gM k X.A)(i:jW CX X E)(a:PE X o ta)(d:PA X (e::es) t)(hst:starEach (e::es) X.env=(false,eval e X.env)::starEach es X.env:=by rfl)(hpl:(backTo pos (starEach es X.env)).any (·.1)=false:=by rfl)(ht:eval (.Call (.Attribute o m apos) (e::es) [] pos) X.env=(do
   let ov ←eval o X.env
   standAt apos.atName
   let (f,first) ←holding [ov] (getMethod ov m pl)
   callWith pos f first (backTo pos (starEach (e::es) X.env)) (backToKw pos (keywordEach [] X.env))):=by rfl) :
  PE X (.Call (.Attribute o m apos) (e::es) [] pos) (tU C m sp [] E ta t):=by
 obtain⟨g,gd,F,b,j⟩:=M.ex;exact CY a M.cl j F h b .nil i d hst hpl ht
theorem qH {pl:Sem Bool}(M:Mt X.prog X.w X.K X.mg X.base C CX k m ps sp)(d:gM k X.A)(e:jW CX X E)(a:PE X o ta)(ht:eval (.Call (.Attribute o m apos) [] [] pos) X.env=(do
   let ov ←eval o X.env
   standAt apos.atName
   let (f,first) ←holding [ov] (getMethod ov m pl)
   callWith pos f first (backTo pos (starEach [] X.env)) (backToKw pos (keywordEach [] X.env))):=by rfl) :
  PE X (.Call (.Attribute o m apos) [] [] pos) (tU C m sp [] E ta xV):=by
 obtain⟨g,gd,F,b,h⟩:=M.ex;exact Ag a M.cl h F d b .nil e ht
end
end L2
namespace FB
open PySem L2 PyProof.Rows
variable {H H':Hp}{a:Addr}{v:V}{w:Option Pk}{x:Str}
def eg.Who (c:eg)(w:Option Pk):Prop:=∀k,w=some k→k∈c.ks
def eg.Lm (c:eg)(w:Option Pk)(k:Pk):Bool:=(c.needs w).any fun n=>qm n k
theorem eg.Lo {c:eg}{k:Pk}:c.Lm w k=true↔c.KY w k:=by
 unfold eg.Lm eg.KY;rw[dG]
def eg.Lp (c:eg)(x:Str):Nat:=c.maskOf fun k=>decide (k.1=x)
def jz (ns:List Nd)(x:Str)(v:Int):Bool:=ns.all fun n=>!decide (n.1=x)||lH n v
def eg.Lq (c:eg)(w:Option Pk)(x:Str):Nat:=c.maskOf fun k=>decide (k.1=x)&&jz (c.needs w) x k.2
def eg.Lr (c:eg)(w:Option Pk):Nat:=c.maskOf (c.Lm w)
def eg.Ls (c:eg):Option Pk→Nat
 |none=>c.Lr none
 |some k=>c.maskOf fun j=>c.Lm (some k) j||c.Lm (some j) k
theorem eg.Lu {c:eg}{k:Pk}:c.has (c.Lp x) k↔k∈c.ks∧k.1=x:=by
 unfold eg.Lp;rw[eg.KU,ax]
theorem eg.Lv {c:eg}{k:Pk}:c.has (c.Lr w) k↔k∈c.ks∧c.KY w k:=by
 unfold eg.Lr;rw[eg.KU,eg.Lo]
theorem eg.Lx {c:eg}{j k:Pk}:c.has (c.Ls (some k)) j↔j∈c.ks∧c.foe k j:=by
 show c.has (c.maskOf _) j↔_;rw[eg.KU,cV,eg.Lo,eg.Lo];exact Iff.rfl
theorem eg.Ly (c:eg)(w:Option Pk):c.Ls w<2^c.n:=by
 cases w <;> exact c.KW _
theorem l7 {ns:List Nd}{v:Int}:jz ns x v=true↔∀n∈ns,n.1=x→lH n v=true:=by
 unfold jz;rw[bc];refine forall_congr' fun n=>forall_congr' fun _=>?_;rw[cV,bQ,decide_eq_false_iff_not];exact⟨fun h e=>h.resolve_left fun z=>z e,fun h=>(Decidable.em (n.1=x)).elim (fun z=>.inr (h z)) .inl⟩
theorem eg.Lz {c:eg}(h:c.Who w):c.KC w<2^c.n:=by
 cases w with
 |none=>exact bM _
 |some k=>exact c.KO (h k rfl)
theorem eg.LA {c:eg}(h:c.Who w){j:Pk}:c.has (c.KC w) j↔w=some j:=by
 cases w with
 |none=>exact⟨fun z=>(eg.KN z).elim,fun z=>by cases z⟩
 |some k=>rw[show c.KC (some k)=c.bit k from rfl,eg.KM (h k rfl)];exact⟨fun z=>by rw[z],fun z=>(Option.some.inj z).symm⟩
theorem E3 {a b:Nat}(h:a &&& b=0):a ||| b=a+b:=by
 have h1:=bitOr_and (a:Int) (b:Int);rw[xg,nU,h]at h1
 lia
theorem eg.LB {c:eg}:∀(l:List Pk),l.Nodup→(∀k∈l,k∈c.ks)→(l.map fun k=>(c.bit k:Int)).sum=(c.maskOf fun k=>decide (k∈l):Nat)
 |[],_,_=>by
  have:c.maskOf (fun k=>decide (k∈([]:List Pk)))=0:=eg.KP (c.KW _) fun k hk=>by
   have:=(eg.KU.mp hk).2;simp at this
  rw[this];rfl
 |x::l,hn,hk=>by
  rw[aV]at hn;have ih:=eg.LB l hn.2 fun k h=>hk k (by simp[h]);have hx:=hk x (by simp);rw[aE,List.sum_cons,ih];have e:c.maskOf (fun k=>decide (k∈x::l))=c.bit x ||| c.maskOf (fun k=>decide (k∈l)):=by
   refine eg.ext (c.KW _) (ji (c.KO hx) (c.KW _)) fun k=>?_;rw[eg.KJ,eg.KU,eg.KU,eg.KM hx,ax,ax,am]
   constructor
   ·rintro⟨h1,h2 | h2⟩
    ·exact .inl h2
    ·exact .inr ⟨h1,h2⟩
   ·rintro(h | ⟨h1,h2⟩)
    ·exact⟨h▸hx,.inl h⟩
    ·exact⟨h1,.inr h2⟩
  have d:c.bit x &&& c.maskOf (fun k=>decide (k∈l))=0:=eg.KP (nW (c.KO hx)) fun k h=>by
   obtain⟨h1,h2⟩:=eg.KK.mp h;rw[(eg.KM hx).mp h1]at h2;exact hn.1 (aR (eg.KU.mp h2).2)
  rw[e,E3 d]
  lia
def fw (w:Option Pk):fM:=w.map jv
theorem ij {v:Option Pk}(h:fw v=fw w):v=w:=by
 cases v with
 |none=>cases w with
  |none=>rfl
  |some k=>cases h
 |some j=>cases w with
  |none=>cases h
  |some k=>exact congrArg some (qa (Option.some.inj h))
theorem gB.key (h:gB H v w):lP H (fw w) v:=by
 cases w with
 |none=>exact h
 |some k=>obtain⟨q,rfl,e⟩:=(show fD H v k from h);exact⟨q,rfl,e⟩
theorem gB.of (h:lP H (fw w) v):gB H v w:=by
 cases w with
 |none=>exact h
 |some k=>obtain⟨q,rfl,e⟩:=(show ∃b,v=.ref b∧H b=some (.tup ((jv k).map kV)) from h);exact⟨q,rfl,e⟩
def ic (H:Hp)(a:Addr)(c:eg)(g:Option Pk→Nat):Prop:=∃kvs,Rd H a (.dN kvs)∧∀w,c.Who w→eW kvs (fw w)=some (.int (g w))
def j8 (H:Hp)(a:Addr)(c:eg)(g:Option Pk→Nat):Prop:=∃kvs,Rd H a (.dN kvs)∧(∀kv∈kvs,∃w,c.Who w∧kv.1=fw w)∧∀w,c.Who w→eW kvs (fw w)=some (.int (g w))
theorem j8.to {c:eg}{g:Option Pk→Nat}(h:j8 H a c g):ic H a c g:=(by obtain⟨kvs,h1,_,h3⟩:=h;exact⟨kvs,h1,h3⟩)
def oF (H:Hp)(a:Addr)(c:eg):Prop:=∃kvs,Rd H a (.dK kvs)∧∀k∈c.ks,∃v,eW kvs (Sum.inl (c.bit k:Int))=some v∧fD H v k
def lO (H:Hp)(a:Addr)(c:eg):Prop:=∃kvs,Rd H a (.dK kvs)∧∀x:Str,(eW kvs (Sum.inr x)).getD (.int 0)=.int (c.Lp x)∧((∃k∈c.ks,k.1=x)→eW kvs (Sum.inr x)=some (.int (c.Lp x)))
def iV (H:Hp)(d:Addr)(c:eg)(w:Option Pk):Prop:=∃o akv,H d=some (.frz o (.dK akv))∧akv.map (·.1)=(eQ (c.needs w)).map Sum.inr∧∀x∈eQ (c.needs w),eW akv (Sum.inr x)=some (.int (c.Lq w x))
def tN (H:Hp)(a:Addr)(c:eg):Prop:=∃kvs,Rd H a (.dN kvs)∧∀w,c.Who w→∃d,eW kvs (fw w)=some (.ref d)∧iV H d c w
theorem ic.same (e:eF H H'){c:eg}{g:Option Pk→Nat}(h:ic H a c g):ic H' a c g:=(by obtain⟨kvs,h1,h2⟩:=h;exact⟨kvs,ie e h1,h2⟩)
theorem j8.same (e:eF H H'){c:eg}{g:Option Pk→Nat}(h:j8 H a c g):j8 H' a c g:=(by obtain⟨kvs,h1,h2⟩:=h;exact⟨kvs,ie e h1,h2⟩)
theorem lO.same (e:eF H H'){c:eg}(h:lO H a c):lO H' a c:=(by obtain⟨kvs,h1,h2⟩:=h;exact⟨kvs,ie e h1,h2⟩)
theorem iV.same (e:eF H H'){d:Addr}{c:eg}(h:iV H d c w):iV H' d c w:=(by obtain⟨o,akv,h1,h2⟩:=h;exact⟨o,akv,e _ _ h1,h2⟩)
theorem tN.same (e:eF H H'){c:eg}(h:tN H a c):tN H' a c:=(by obtain⟨kvs,h1,h2⟩:=h;exact⟨kvs,ie e h1,fun w hw=>(by obtain⟨d,g1,g2⟩:=h2 w hw;exact⟨d,g1,g2.same e⟩)⟩)
theorem ic.get {c:eg}{g:Option Pk→Nat}(h:ic H a c g)(hw:c.Who w)(hv:gB H v w):iy H a v (some (.int (g w))):=(by obtain⟨kvs,h1,h2⟩:=h;exact⟨kvs,fw w,h1,hv.key,(h2 w hw).symm⟩)
theorem j8.get {c:eg}{g:Option Pk→Nat}(h:j8 H a c g)(hw:c.Who w)(hv:gB H v w):iy H a v (some (.int (g w))):=h.to.get hw hv
theorem tN.get {c:eg}(h:tN H a c)(hw:c.Who w)(hv:gB H v w):∃d,iy H a v (some (.ref d))∧iV H d c w:=let ⟨kvs,h1,h2⟩:=h;(by obtain⟨d,g1,g2⟩:=h2 w hw;exact⟨d,⟨kvs,fw w,h1,hv.key,g1.symm⟩,g2⟩)
theorem lO.get {c:eg}(h:lO H a c)(x:Str):∃o,i7 H a (.str x) o∧o.getD (.int 0)=.int (c.Lp x):=(by obtain⟨kvs,h1,h2⟩:=h;exact⟨_,.inl ⟨kvs,Sum.inr x,h1,rfl,rfl⟩,(h2 x).1⟩)
theorem lO.isD {c:eg}(h:lO H a c):HU H a:=(by obtain⟨kvs,h1,_⟩:=h;exact .inl ⟨kvs,h1⟩)
theorem iV.get {d:Addr}{c:eg}(h:iV H d c w)(hx:x∈eQ (c.needs w)):i7 H d (.str x) (some (.int (c.Lq w x))):=(by obtain⟨o,akv,h1,_,h3⟩:=h;exact .inl ⟨akv,Sum.inr x,.inr ⟨o,h1⟩,rfl,(h3 x hx).symm⟩)
abbrev FP (b bits by_ ofp al sh fo:Addr):List (Str×V):=[("board",.ref b),("bits",.ref bits),("by_bit",.ref by_),("of_part",.ref ofp),("allowed",.ref al),("shut_out",.ref sh),("foes",.ref fo)]
inductive uX (CB CC:Addr)(H:Hp)(p:Addr)(c:eg):Prop
 |mk (dx b bits by_ ofp al sh fo st:_)(_:H p=some (.ins CC dx (FP b bits by_ ofp al sh fo)))(_:gm CB H b st c.es)(_:gC H st c.sn)(_:ic H bits c c.KC)(_:oF H by_ c)(_:lO H ofp c)(_:tN H al c)(_:ic H sh c c.Lr)(_:j8 H fo c c.Ls):uX CB CC H p c
structure iw (CB CC:Addr)(H:Hp)(p:Addr)(c:eg):Prop where
 ex:uX CB CC H p c
structure TC (K:W.Frag)(mg:Str→Option Value)(C:Addr):Prop where
 cl:qx K C
 nBoard:fU K C "board"
 nBits:fU K C "bits"
 nBy:fU K C "by_bit"
 nOf:fU K C "of_part"
 nAl:fU K C "allowed"
 nSh:fU K C "shut_out"
 nFo:fU K C "foes"
 sorted:mg "sorted" = none
 max:mg "max" = none
 min:mg "min" = none
 sum:mg "sum" = none
end FB
namespace L2
open PySem PySem.Spec PyProof.Rows FB
variable {H H':Hp}{b:Addr}
def eB (H H':Hp):Prop:=∀b u,H b=some u→H' b=some u∨(DH u∧∃o,H' b=some (.frz o u))
theorem eF.toF (e:eF H H'):eB H H':=fun b u h=>.inl (e b u h)
theorem eB.refl (H:Hp):eB H H:=fun _ _ h=>.inl h
theorem eB.trans {H1 H2:Hp}(a:eB H H1)(b:eB H1 H2):eB H H2:=fun c u h=>by
 rcases a c u h with z | ⟨f,o,z⟩
 ·exact b c u z
 ·rcases b c _ z with y | ⟨g,_⟩
  ·exact .inr ⟨f,o,y⟩
  ·exact g.elim
theorem eB.no (e:eB H H'){u:HO}(h:H b=some u)(n:¬DH u):H' b=some u:=(e b u h).resolve_right fun z=>n z.1
theorem eB.lst (e:eB H H'){xs:List V}(h:H b=some (.lst xs)):H' b=some (.lst xs):=e.no h fun z=>z
theorem eB.tup (e:eB H H'){xs:List V}(h:H b=some (.tup xs)):H' b=some (.tup xs):=e.no h fun z=>z
theorem eB.ins (e:eB H H'){C dx:Addr}{fs:List (Str×V)}(h:H b=some (.ins C dx fs)):H' b=some (.ins C dx fs):=e.no h fun z=>z
theorem eB.frz (e:eB H H'){o:Obj}{u:HO}(h:H b=some (.frz o u)):H' b=some (.frz o u):=e.no h fun z=>z
theorem eB.rd (e:eB H H'){u:HO}(h:Rd H b u):Rd H' b u:=by
 rcases h with h | ⟨o,h⟩
 ·rcases e b u h with z | ⟨_,o,z⟩
  ·exact .inl z
  ·exact .inr ⟨o,z⟩
 ·exact .inr ⟨o,e.frz h⟩
theorem eB.free (e:eB H H')(h:H' b=Option.none):H b=Option.none:=by
 cases q:H b with
 |none=>rfl
 |some u=>
  rcases e b u q with z | ⟨_,o,z⟩
  ·rw[z]at h;cases h
  ·rw[z]at h;cases h
theorem eB.upd (e:eB H H'){u:HO}(h:H b=Option.none):eB H (upd H' b u):=fun c v q=>by
 have:c≠b:=fun z=>by rw[z,h]at q;cases q
 rcases e c v q with z | ⟨f,o,z⟩
 ·exact .inl (by rw[ef this];exact z)
 ·exact .inr ⟨f,o,by rw[ef this];exact z⟩
section
variable {X:Cx}{tg l:Expr}{tl:TE}
inductive El (R:It→Hp→Prop)(x:V)(H1:Hp):Prop
 |mk (a kvs:_)(_:x=.ref a)(_:Rd H1 a (.dK kvs))(_:∀o H2,eB H1 H2→(∀b,b≠a→H2 b=H1 b)→H2 a=some (.frz o (.dK kvs))→R (FX a o kvs) H2):El R x H1
def Jl (tl:TE):TI:=fun σ H R=>tl σ H fun x H1=>El R x H1
inductive Ek (R:It→Hp→Prop)(x:V)(H1:Hp):Prop
 |mk (a kvs:_)(_:x=.ref a)(_:Rd H1 a (.dN kvs))(_:∀o H2,eB H1 H2→(∀b,b≠a→H2 b=H1 b)→H2 a=some (.frz o (.dN kvs))→R (Ge a o kvs) H2):Ek R x H1
def Jk (tl:TE):TI:=fun σ H R=>tl σ H fun x H1=>Ek R x H1
theorem qD {a:Addr}{u:HO}{o:Obj}(e:H a=some u)(hu:DH u):eB H (upd H a (.frz o u)):=fun b v h=>by
 by_cases hb:b=a
 ·subst hb;rw[e]at h;cases h;exact .inr ⟨hu,o,d0⟩
 ·exact .inl (by rw[ef hb];exact h)
theorem EZ (B:PE X l tl):PI X tg l (Jl tl):=by
 intro pins s σ H R I h;refine fV (B pins s σ H _ I h) ?_;rintro v i ⟨x,H1,p,t,a,kvs,ex,d,q⟩;subst ex;cases (show v=Value.ref a from t);have r:∀(o:Obj) (H2:Hp),eU X pins σ H2 i→H2 a=some (.frz o (.dK kvs))→R (FX a o kvs) H2→wpAny (model X.prog X.w) X.A (pyIter (.ref a)) (Ir X pins σ tg R) X.xe i:=fun o H2 g y F=>by
  obtain⟨z,E,C,es,ep,m,D,_⟩:=oo g.hok y;refine oQ z C m E ⟨i.heap.objs.size,[i.heap.objs.size],_,_,H2,rfl,g.kept (t':=i.toks) fun b o e=>aC _ e,wB a _ o es ep kvs m D,⟨_,aP _ rfl,rfl,rfl⟩,fun b j=>?_,F⟩
  rw[ai.mp j];exact g.Ks (aq _) (g.hok.fresh (aq _))
 rcases d with d | ⟨o,d⟩
 ·obtain⟨o,_,g⟩:=p.freeze d trivial;exact r o _ g d0 (q o _ (qD d trivial) (fun b j=>ef j) d0)
 ·exact r o H1 p d (q o H1 (eB.refl _) (fun _ _=>rfl) d)
theorem sE (B:PE X l tl):PI X tg l (Jk tl):=by
 intro pins s σ H R I h;refine fV (B pins s σ H _ I h) ?_;rintro v i ⟨x,H1,p,t,a,kvs,ex,d,q⟩;subst ex;cases (show v=Value.ref a from t);have r:∀(o:Obj) (H2:Hp),eU X pins σ H2 i→H2 a=some (.frz o (.dN kvs))→R (Ge a o kvs) H2→wpAny (model X.prog X.w) X.A (pyIter (.ref a)) (Ir X pins σ tg R) X.xe i:=fun o H2 g y F=>by
  obtain⟨z,E,C,es,ep,m,D,_⟩:=Bj g.hok y;refine oQ z C m E ⟨i.heap.objs.size,[i.heap.objs.size],_,_,H2,rfl,g.kept (t':=i.toks) fun b o e=>aC _ e,Cl a _ o es ep kvs m D,⟨_,aP _ rfl,rfl,rfl⟩,fun b j=>?_,F⟩
  rw[ai.mp j];exact g.Ks (aq _) (g.hok.fresh (aq _))
 rcases d with d | ⟨o,d⟩
 ·obtain⟨o,_,g⟩:=p.freeze d trivial;exact r o _ g d0 (q o _ (qD d trivial) (fun b j=>ef j) d0)
 ·exact r o H1 p d (q o H1 (eB.refl _) (fun _ _=>rfl) d)
end
end L2
namespace FB
open PySem L2 PyProof.Rows
variable {G G' H H':Hp}{L:iu}{O O' Ol:List Addr}{a b p pp:Addr}{j m pm:Nat}{kl:List Pk}{kvp:List (fM×V)}{v:V}{w:Option Pk}{x:Str}
section
variable {H H':Hp}(e:eB H H')
include e
theorem fD.f {k:Pk}(h:fD H v k):fD H' v k:=(by obtain⟨q,h1,h2⟩:=h;exact⟨q,h1,e.tup h2⟩)
theorem fR.f {n:Nd}(h:fR H v n):fR H' v n:=(by obtain⟨q,h1,h2⟩:=h;exact⟨q,h1,e.tup h2⟩)
theorem gC.f {ns:List Nd}(h:gC H a ns):gC H' a ns:=(by obtain⟨xs,h1,h2⟩:=h;exact⟨xs,e.lst h1,Paired.Kg h2 fun _ _ z=>fR.f e z⟩)
theorem mV.f {kv:fM×V}{n:En}(h:mV H kv n):mV H' kv n:=(by obtain⟨h1,a,zs,h2,h3,h4⟩:=h;exact⟨h1,a,zs,h2,e.lst h3,Paired.Kg h4 fun _ _ z=>fR.f e z⟩)
theorem gm.f {C st:Addr}{es:List En}(h:gm C H p st es):gm C H' p st es:=by
 obtain⟨dx,g,j,a,vk,h1,h2,m,o,q⟩:=h.ex;refine⟨dx,g,j,a,vk,e.ins h1,e.rd h2,Paired.Kg m fun _ _ z=>mV.f e z,e.rd o,fun x=>?_⟩;rcases q x with z | ⟨l,b,i,g2,g3,d⟩
 ·exact .inl z
 ·exact .inr ⟨l,b,i,e.lst g2,g3,d⟩
theorem ic.f {c:eg}{g:Option Pk→Nat}(h:ic H a c g):ic H' a c g:=(by obtain⟨kvs,h1,h2⟩:=h;exact⟨kvs,e.rd h1,h2⟩)
theorem j8.f {c:eg}{g:Option Pk→Nat}(h:j8 H a c g):j8 H' a c g:=(by obtain⟨kvs,h1,h2⟩:=h;exact⟨kvs,e.rd h1,h2⟩)
theorem oF.f {c:eg}(h:oF H a c):oF H' a c:=(by obtain⟨kvs,h1,h2⟩:=h;exact⟨kvs,e.rd h1,fun k hk=>(by obtain⟨v,g1,g2⟩:=h2 k hk;exact⟨v,g1,fD.f e g2⟩)⟩)
theorem lO.f {c:eg}(h:lO H a c):lO H' a c:=(by obtain⟨kvs,h1,h2⟩:=h;exact⟨kvs,e.rd h1,h2⟩)
theorem iV.f {d:Addr}{c:eg}(h:iV H d c w):iV H' d c w:=(by obtain⟨o,akv,h1,h2⟩:=h;exact⟨o,akv,e.frz h1,h2⟩)
theorem tN.f {c:eg}(h:tN H a c):tN H' a c:=(by obtain⟨kvs,h1,h2⟩:=h;exact⟨kvs,e.rd h1,fun w hw=>(by obtain⟨d,g1,g2⟩:=h2 w hw;exact⟨d,g1,g2.f e⟩)⟩)
theorem iw.f {CB CC:Addr}{c:eg}(h:iw CB CC H p c):iw CB CC H' p c:=by
 obtain⟨dx,b,bits,d,a,i,l,o,st,h1,h2,j,r,t,m,s,g,q⟩:=h.ex;exact⟨dx,b,bits,d,a,i,l,o,st,e.ins h1,h2.f e,j.f e,r.f e,t.f e,m.f e,s.f e,g.f e,q.f e⟩
theorem gB.f {o:Option Pk}(h:gB H v o):gB H' v o:=by
 cases o with
 |none=>exact h
 |some k=>exact fD.f e h
end
theorem qd {ps:List Addr}{u:HO}(h:b∈ps):del (upd H b u) ps=del H ps:=by
 funext x
 unfold del;by_cases hx:x∈ps
 ·rw[if_pos hx,if_pos hx]
 ·rw[if_neg hx,if_neg hx,ef (fun z:x=b=>hx (by rw[z];exact h))]
theorem FN {es:List En}(sn:List Nd){ks:List Pk}(hn:(es.map eX).Nodup)(hp:ks.Perm (es.map eX))(ho:ks.Pairwise fun a b=>oh a b=true):∃c:eg,c.es=es∧c.sn=sn∧c.ks=ks:=
 ⟨⟨es,sn,ks,fun k=>hp.mem_iff,hp.nodup_iff.mpr hn,hp,ho,fun i j a b hi hj hij e=>by
  obtain⟨h1,e1⟩:=af.mp hi;obtain⟨h2,e2⟩:=af.mp hj;have:=List.pairwise_iff_getElem.mp ho i j h1 h2 hij;rw[e1,e2]at this;unfold oh at this;rw[if_pos e]at this
  exact aR this⟩,rfl,rfl,rfl⟩
structure iA (G H:Hp)(O:List Addr)(G' H':Hp)(O':List Addr):Prop where
 gg:eB G G'
 gh:eB G' H'
 gn:∀a,G a=none→G' a≠none→H a=none
 on:∀a∈O',a∈O∨H a=none
 fr:eB (del H O) H'
 lv:∀a,H' a=none→H a=none
theorem iA.refl (h:eB G H):iA G H O G H O:=⟨eB.refl _,h,fun a e n=>absurd e n,fun a h=>.inl h,(fB _ _).toF,fun _ h=>h⟩
theorem iA.trans {G1 H1 G2 H2:Hp}{O1 O2:List Addr}(a:iA G H O G1 H1 O1)(b:iA G1 H1 O1 G2 H2 O2):iA G H O G2 H2 O2:=by
 refine⟨a.gg.trans b.gg,b.gh,fun x e n=>?_,fun x l=>?_,fun x u e=>?_,fun x e=>a.lv x (b.lv x e)⟩
 ·cases h1:G1 x with
  |some u=>exact a.gn x e (by rw[h1];exact fun z=>nomatch z)
  |none=>exact a.lv x (b.gn x h1 n)
 ·rcases b.on x l with z | z
  ·exact a.on x z
  ·exact .inr (a.lv x z)
 ·have g:x∉O:=fun z=>by rw[fL z]at e;cases e
  have j:H x=some u:=by rw[eD g]at e;exact e
  have d:x∉O1:=fun z=>by
   rcases a.on x z with y | y
   ·exact g y
   ·rw[j]at y;cases y
  rcases a.fr x u e with z | ⟨i,o,h⟩
  ·exact b.fr x u (by rw[eD d];exact z)
  ·exact .inr ⟨i,o,b.fr.frz (by rw[eD d];exact h)⟩
theorem iA.same (h:eB G H)(e:eF H H'):iA G H O G H' O:=⟨eB.refl _,h.trans e.toF,fun a e n=>absurd e n,fun a h=>.inl h,((fB _ _).trans e).toF,fun _ h=>e.free h⟩
theorem iA.put {u:HO}(h:eB G H)(e:H a=none):iA G H O (upd G a u) (upd H a u) O:=by
 refine⟨(eB.refl G).upd (h.free e),fun x v q=>?_,fun x g n=>?_,fun x b=>.inl b,fun x v q=>?_,fun x q=>?_⟩
 ·by_cases z:x=a
  ·subst z;rw[d0]at q ⊢;exact .inl q
  ·rw[ef z]at q ⊢;exact h x v q
 ·by_cases z:x=a
  ·rw[z];exact e
  ·rw[ef z]at n;exact absurd g n
 ·refine .inl ?_;have:H x=some v:=fB _ _ x v q;rw[ef (er this e)];exact this
 ·by_cases z:x=a
  ·subst z;exact e
  ·rw[ef z]at q;exact q
theorem iA.keep (g:iA G H O G' H' O'){u:HO}(n:a∉O)(e:H a=some u)(f:¬DH u):H' a=some u:=g.fr.no (by rw[eD n];exact e) f
theorem iA.out (g:iA G H O G' H' O'){u:HO}(n:a∉O)(e:H a=some u):a∉O':=fun z=>by
 rcases g.on a z with y | y
 ·exact n y
 ·rw[e]at y;cases y
theorem iA.off (g:iA G H O G' H' O'){u:HO}(n:G a=none)(e:H a=some u):G' a=none:=by
 cases h:G' a with
 |none=>rfl
 |some v=>
  have:=g.gn a n (by rw[h];exact fun z=>nomatch z);rw[e]at this;cases this
theorem iA.own (g:iA G H O G' H' O'){u:HO}(d:H b=none)(i:G' b=none):iA G H O G' (upd H' b u) O':=by
 refine⟨g.gg,g.gh.upd i,g.gn,g.on,g.fr.upd ?_,fun a e=>?_⟩
 ·cases h:del H O b with
  |none=>rfl
  |some v=>rw[fB _ _ b v h]at d;cases d
 ·by_cases z:a=b
  ·rw[z];exact d
  ·rw[ef z]at e;exact g.lv a e
theorem iA.base (g:iA G H O G' H' O')(gh:eB G H){u:HO}(d:H b=none)(e:H' b=some u):iA G H O (upd G' b u) H' O':=by
 refine⟨g.gg.upd (gh.free d),fun a v q=>?_,fun a e n=>?_,g.on,g.fr,g.lv⟩
 ·by_cases z:a=b
  ·rw[z,d0]at q;rw[z];exact .inl (e.trans q)
  ·rw[ef z]at q;exact g.gh a v q
 ·by_cases z:a=b
  ·rw[z];exact d
  ·rw[ef z]at n;exact g.gn a e n
def pM (m:Nat):iu→Nat→Option Nat
 |[],_=>none
 |e::L,i=>if e.1=m then some i else pM m L (i+1)
def nA (L:iu)(m:Nat):Option Nat:=pM m L 0
theorem nB (m:Nat)(e:Nat×Rs):∀(L:iu) (i:Nat),pM m (L++[e]) i=match pM m L i with
  |some j=>some j
  |none=>if e.1=m then some (i+L.length) else none
 |[],i=>by simp[pM]
 |x::L,i=>by
  rw[cO];unfold pM;by_cases h:x.1=m
  ·rw[if_pos h,if_pos h]
  ·rw[if_neg h,if_neg h,nB m e L (i+1),aA,show i+1+L.length=i+(L.length+1) by omega]
theorem qF {m:Nat}:∀{L:iu} {i j:Nat},pM m L i=some j→∃e,i≤j∧L[j-i]?=some e∧e.1=m
 |[],i,j,h=>nomatch h
 |x::L,i,j,h=>by
  unfold pM at h;by_cases hx:x.1=m
  ·rw[if_pos hx]at h;cases h;exact⟨x,aq _,by rw[bS];rfl,hx⟩
  ·rw[if_neg hx]at h;obtain⟨e,h1,h2,h3⟩:=qF h;exact⟨e,by omega,by rw[show j-i=(j-(i+1))+1 by omega];exact h2,h3⟩
theorem nE {m:Nat}:∀{L:iu} {i:Nat},pM m L i=none↔m∉L.map (·.1)
 |[],i=>by simp[pM]
 |x::L,i=>by
  unfold pM;by_cases hx:x.1=m
  ·rw[if_pos hx];simp[hx]
  ·rw[if_neg hx,nE,aE,am,not_or];exact⟨fun h=>⟨fun z=>hx z.symm,h⟩,fun h=>h.2⟩
theorem qE (h:nA L m=some j):∃e,L[j]?=some e∧e.1=m:=(by obtain⟨e,_,h2,h3⟩:=qF h;exact⟨e,h2,h3⟩)
theorem qu {e:Nat×Rs}(h:nA L m=some j):nA (L++[e]) m=some j:=by
 unfold nA at *;rw[nB,h]
theorem lR {e:Nat×Rs}(h:nA L m=none):nA (L++[e]) m=if e.1=m then some L.length else none:=by
 unfold nA at *;rw[nB,h,Nat.zero_add]
def eg.LC (c:eg)(k:Pk):iu→Nat→List Nat
 |[],_=>[]
 |e::L,i=>if c.has e.1 k then i::c.LC k L (i+1) else c.LC k L (i+1)
def eg.plc (c:eg)(L:iu)(k:Pk):List Nat:=c.LC k L 0
theorem eg.LD (c:eg)(k:Pk)(e:Nat×Rs):∀(L:iu) (i:Nat),c.LC k (L++[e]) i=c.LC k L i++if c.has e.1 k then [i+L.length] else []
 |[],i=>by
  rw[dL];unfold eg.LC;by_cases h:c.has e.1 k
  ·rw[if_pos h,if_pos h];rfl
  ·rw[if_neg h,if_neg h];rfl
 |x::L,i=>by
  rw[cO];unfold eg.LC;rw[eg.LD c k e L (i+1),aA,show i+1+L.length=i+(L.length+1) by omega];by_cases h:c.has x.1 k
  ·rw[if_pos h,if_pos h];rfl
  ·rw[if_neg h,if_neg h]
theorem eg.LE (c:eg)(L:iu)(k:Pk)(e:Nat×Rs):c.plc (L++[e]) k=c.plc L k++if c.has e.1 k then [L.length] else []:=by
 unfold eg.plc;rw[eg.LD,Nat.zero_add]
theorem eg.LF (c:eg)(k:Pk):∀(L:iu) (i:Nat),(c.LC k L i).length≤L.length
 |[],i=>aq _
 |x::L,i=>by
  unfold eg.LC;have:=eg.LF c k L (i+1)
  split
  ·rw[aA,aA];omega
  ·rw[aA];omega
theorem eg.LG {c:eg}{k:Pk}{j:Nat}:∀{L:iu} {i:Nat},j∈c.LC k L i↔∃e,i≤j∧L[j-i]?=some e∧c.has e.1 k
 |[],i=>by simp[eg.LC]
 |x::L,i=>by
  have ih:=eg.LG (c:=c) (k:=k) (j:=j) (L:=L) (i:=i+1);have key:j∈c.LC k (x::L) i↔(j=i∧c.has x.1 k)∨j∈c.LC k L (i+1):=by
   show j∈(if c.has x.1 k then i::c.LC k L (i+1) else c.LC k L (i+1))↔_;by_cases h:c.has x.1 k
   ·rw[if_pos h,am];exact⟨fun z=>z.imp (fun y=>⟨y,h⟩) id,fun z=>z.imp (fun y=>y.1) id⟩
   ·rw[if_neg h];exact⟨.inr,fun z=>z.elim (fun y=>absurd y.2 h) id⟩
  rw[key,ih]
  constructor
  ·rintro(⟨rfl,h⟩ | ⟨e,h1,h2,a⟩)
   ·exact⟨x,aq _,by rw[bS];rfl,h⟩
   ·exact⟨e,by omega,by rw[show j-i=(j-(i+1))+1 by omega];exact h2,a⟩
  ·rintro⟨e,h1,h2,a⟩;rcases Nat.eq_or_lt_of_le h1 with z | z
   ·subst z;rw[bS]at h2;have:x=e:=by simpa using h2
    exact .inl ⟨rfl,this▸a⟩
   ·exact .inr ⟨e,z,by rw[show j-i=(j-(i+1))+1 by omega]at h2;exact h2,a⟩
theorem eg.LH {c:eg}{k:Pk}:j∈c.plc L k↔∃e,L[j]?=some e∧c.has e.1 k:=by
 unfold eg.plc;rw[eg.LG];exact⟨(by rintro⟨e,_,h2,a⟩;exact⟨e,h2,a⟩),(by rintro⟨e,h2,a⟩;exact⟨e,bo _,h2,a⟩)⟩
def u1:HO→Prop
 |.tbl _=>True
 |.ext _=>True
 |_=>False
def gQ (l:List Nat):List V:=l.map fun i=>V.int (i:Nat)
structure q5 (H:Hp)(c:eg)(pp:Addr)(g:Pk→List Nat)(Ol:List Addr)(kvp:List (fM×V))(kl:List Pk):Prop where
 d:H pp=some (.dN kvp)
 keys:kvp.map (·.1)=kl.map (fun k=>fw (some k))
 nd:kl.Nodup
 sub:∀k∈kl,k∈c.ks
 val:∀k∈c.ks,(eW kvp (fw (some k))=none∧g k=[])∨∃l,eW kvp (fw (some k))=some (.ref l)∧l∈Ol∧H l=some (.lst (gQ (g k)))
 inj:∀k k' l,eW kvp (fw (some k))=some (.ref l)→eW kvp (fw (some k'))=some (.ref l)→k=k'
def Jt (H:Hp)(c:eg)(pp:Addr)(g:Pk→List Nat)(Ol:List Addr):Prop:=∃(kvp:List (fM×V)) (kl:List Pk),q5 H c pp g Ol kvp kl
theorem q5.keep {c:eg}{g:Pk→List Nat}(B:q5 H c pp g Ol kvp kl)(h:H' pp=H pp)(k:∀a∈Ol,H' a=H a):q5 H' c pp g Ol kvp kl:=
 ⟨by rw[h];exact B.d,B.keys,B.nd,B.sub,fun x hx=>(B.val x hx).imp id (by rintro⟨l,z1,z2,z3⟩;exact⟨l,z1,z2,by rw[k l z2];exact z3⟩),B.inj⟩
theorem q5.len {c:eg}{g:Pk→List Nat}(B:q5 H c pp g Ol kvp kl):kvp.length≤c.n:=by
 have h:=congrArg List.length B.keys;rw[ab,ab]at h;rw[h];exact kN B.nd B.sub
theorem q5.old {c:eg}{g:Pk→List Nat}(B:q5 H c pp g Ol kvp kl){k:Pk}{l:Addr}{i:Nat}(q:k∈c.ks)(h:eW kvp (fw (some k))=some (.ref l))(j:pp∉Ol):l∈Ol∧H l=some (.lst (gQ (g k)))∧q5 (upd H l (.lst (gQ (g k)++[.int (i:Nat)]))) c pp (fun x=>if x=k then g k++[i] else g x) Ol kvp kl:=by
 have a:l∈Ol∧H l=some (.lst (gQ (g k))):=by
  rcases B.val k q with ⟨z,_⟩ | ⟨o,b,m,p⟩
  ·rw[h]at z;cases z
  ·rw[h]at b;cases b;exact⟨m,p⟩
 refine⟨a.1,a.2,?_,B.keys,B.nd,B.sub,fun x r=>?_,B.inj⟩
 ·rw[ef (fun z=>j (by rw[z];exact a.1))];exact B.d
 ·by_cases e:x=k
  ·subst e;refine .inr ⟨l,h,a.1,?_⟩;rw[if_pos rfl,d0];unfold gQ;rw[ay];rfl
  ·rw[if_neg e];rcases B.val x r with z | ⟨o,b,m,p⟩
   ·exact .inl z
   ·refine .inr ⟨o,b,m,?_⟩;rw[ef (fun y:o=l=>e (B.inj x k l (y▸b) h))];exact p
theorem q5.new {c:eg}{g:Pk→List Nat}(B:q5 H c pp g Ol kvp kl){k:Pk}{l:Addr}{i:Nat}(D:k∈c.ks)(p:eW kvp (fw (some k))=none)(r:pp∉Ol)(A:l∉Ol)(L:l≠pp)(h1:H' pp=some (.dN (fq kvp (fw (some k)) (.ref l))))(h2:H' l=some (.lst [.int (i:Nat)]))(E:∀b,b≠pp→b≠l→H' b=H b):q5 H' c pp (fun x=>if x=k then g k++[i] else g x) (l::Ol) (fq kvp (fw (some k)) (.ref l)) (kl++[k]):=by
 have J:g k=[]:=by
  rcases B.val k D with ⟨_,z⟩ | ⟨h,m,_⟩
  ·exact z
  ·rw[p]at m;cases m
 have t:k∉kl:=fun z=>by
  have h1:fw (some k)∈kvp.map (·.1):=by rw[B.keys];exact bh z
  obtain⟨G,v,w⟩:=av.mp h1;unfold eW at p;rw[Option.map_eq_none_iff,dP]at p;exact p G v (by simpa using w)
 refine⟨h1,?_,?_,fun x d=>?_,fun x d=>?_,fun x y h d j=>?_⟩
 ·rw[hZ _ p,ay,B.keys,ay];rfl
 ·rw[bU];exact⟨B.nd,by simp,fun a K b F e=>t (by rw[show b=k by simpa using F]at e;exact e▸K)⟩
 ·rcases aB.mp d with z | z
  ·exact B.sub x z
  ·rw[ai.mp z];exact D
 ·rw[fW];by_cases e:x=k
  ·subst e;refine .inr ⟨l,if_pos rfl,by simp,?_⟩;rw[if_pos rfl,h2,J];rfl
  ·rw[if_neg (fun z=>e (Option.some.inj (ij z))),if_neg e];rcases B.val x d with z | ⟨h,m,q,I⟩
   ·exact .inl z
   ·refine .inr ⟨h,m,by simp[q],?_⟩;rw[E h (fun y=>r (y▸q)) (fun y=>A (y▸q))];exact I
 ·have o:∀x h,x≠k→eW kvp (fw (some x))=some (.ref h)→h≠l:=fun x h e z y=>by
   have s:x∈c.ks:=by
    have:=iG z;rw[B.keys]at this;obtain⟨u,v,w⟩:=av.mp this;rw[←Option.some.inj (ij w)];exact B.sub u v
   rcases B.val x s with ⟨C,_⟩ | ⟨M,m,q,_⟩
   ·rw[z]at C;cases C
   ·rw[z]at m;cases m;exact A (y▸q)
  rw[fW]at d j;by_cases ex:x=k
  ·by_cases ey:y=k
   ·rw[ex,ey]
   ·rw[if_pos (by rw[ex])]at d;rw[if_neg (fun z=>ey (Option.some.inj (ij z)))]at j;cases d;exact absurd rfl (o y l ey j)
  ·rw[if_neg (fun z=>ex (Option.some.inj (ij z)))]at d;by_cases ey:y=k
   ·rw[if_pos (by rw[ey])]at j;cases j;exact absurd rfl (o x l ex d)
   ·rw[if_neg (fun z=>ey (Option.some.inj (ij z)))]at j;exact B.inj x y h d j
theorem q5.fn {c:eg}{g g':Pk→List Nat}(B:q5 H c pp g Ol kvp kl)(h:∀k∈c.ks,g k=g' k):q5 H c pp g' Ol kvp kl:=
 ⟨B.d,B.keys,B.nd,B.sub,fun k hk=>by rw[←h k hk];exact B.val k hk,B.inj⟩
theorem ik (h:eB G H)(off:∀a∈O,G a=none)(fr:eB (del H O) H'):eB G H':=fun a u e=>by
 have na:a∉O:=fun z=>by rw[off a z]at e;cases e
 rcases h a u e with z | ⟨z1,o,z2⟩
 ·exact fr a u (by rw[eD na];exact z)
 ·exact .inr ⟨z1,o,fr.frz (by rw[eD na];exact z2)⟩
abbrev AW (ch ma re pm pp:Addr):List (Str×V):=[("chart",.ref ch),("masks",.ref ma),("reasons",.ref re),("place_by_mask",.ref pm),("places_by_pick",.ref pp)]
inductive BV (CL:Addr)(G H:Hp)(p ch:Addr)(c:eg)(L:iu)(O:List Addr):Prop
 |mk (dx ma re pm pp:Addr)(kvm:List (gv×V))(rs:List V)(Ol:List Addr)(_:O=ma::re::pm::pp::Ol)(_:G p=some (.ins CL dx (AW ch ma re pm pp)))(_:H ma=some (.lst (gQ (L.map (·.1)))))(_:H re=some (.lst rs))(_:Paired (mi G) rs (L.map (·.2)))(_:H pm=some (.dK kvm))(_:kvm.length≤L.length)(_:(∀m:Nat,eW kvm (Sum.inl (m:Int))=(nA L m).map fun i=>V.int (i:Nat)))(_:Jt H c pp (c.plc L) Ol):BV CL G H p ch c L O
structure gj (CL:Addr)(G H:Hp)(p ch:Addr)(c:eg)(L:iu)(O:List Addr):Prop where
 ex:BV CL G H p ch c L O
 off:∀a∈O,G a=none
 liv:∀a∈O,∃u,H a=some u
 nf:∀a∈O,∀u,H a=some u→¬u1 u
 nd:O.Nodup
theorem kB.f (e:eB H H'):∀{t:uQ},kB H v t→kB H' v t
 |.one k,h=>fD.f e h
 |.many bs,⟨a,h1,h2⟩=>⟨a,h1,e.lst h2⟩
theorem mi.f (e:eB H H'){r:Rs}(h:mi H v r):mi H' v r:=
 (by obtain⟨q,wv,tv,h1,h2,h3,h4⟩:=h;exact⟨q,wv,tv,h1,e.tup h2,h3.f e,h4.f e⟩)
theorem gj.grow {CL:Addr}{ch:Addr}{c:eg}(h:gj CL G H p ch c L O)(e:eB G G')(off:∀a∈O,G' a=none)(k:∀a∈O,H' a=H a):gj CL G' H' p ch c L O:=by
 obtain⟨dx,i,g,pm,pp,d,j,Ol,rfl,h1,h2,l,o,r,m,q,⟨kvp,kl,B⟩⟩:=h.ex;refine⟨⟨dx,i,g,pm,pp,d,j,Ol,rfl,e.ins h1,by rw[k i (by simp)];exact h2,by rw[k g (by simp)];exact l,Paired.Kg o fun _ _ z=>mi.f e z,by rw[k pm (by simp)];exact r,m,q,⟨kvp,kl,B.keep (k pp (by simp)) fun a b=>k a (by simp[b])⟩⟩,off,fun a b=>by rw[k a b];exact h.liv a b,fun a b=>by rw[k a b];exact h.nf a b,h.nd⟩
structure TL (K:W.Frag)(mg:Str→Option Value)(C:Addr):Prop where
 cl:qx K C
 nCh:fU K C "chart"
 nMa:fU K C "masks"
 nRe:fU K C "reasons"
 nPm:fU K C "place_by_mask"
 nPp:fU K C "places_by_pick"
 len:mg "len" = none
 zip:mg "zip" = none
theorem mU {α:Type}{x:α}{l:List α}:tJ (x::l) 0=some x:=jM (show iD (x::l) ((0:Nat):Int)=some x by rw[im];rfl)
inductive D7 (Q:Bool→Hp→Prop)(x:V)(H':Hp):Prop
 |mk (i:_)(_:x=.int i)(_:Q (i != 0) H'):D7 Q x H'
def IE (ta:TE):TT:=fun σ H Q=>ta σ H fun x H'=>D7 Q x H'
theorem vw {X:Cx}{a:Expr}{ta:TE}(d:PE X a ta)(b:∀whole,isTrue a X.env whole=(do let v ←whole;standAt a.pos;holding [v] (truthy v))):PT X a (IE ta):=by
 intro pins s σ H Q I h;exact isTrue_plain (fV (d pins s σ H _ I h) (by rintro v m ⟨x,H1,l,g,i,e,j⟩;exact zq pins m σ H1 x v Q l g ⟨_,by subst e;rfl,j⟩)) (b _)
def eg.LI (c:eg)(wanted:List (Str×Option Pk))(w:Option Pk)(pm:Nat)(ps:List Str)(g:List (Str×Option Pk)):Prop:=
 ∃E:List Str,g.map (·.1)=wanted.map (·.1)++E∧E.Sublist ps∧(∀x∈E,¬c.isP pm x∧x∉wanted.map (·.1))∧(∀x∈ps,c.isP pm x∨x∈wanted.map (·.1)∨x∈E)∧
  ∀x u,(x,u)∈g→(x,u)∈wanted∨(u=w∧x∈ps∧¬c.isP pm x)
theorem nH:∀ns:List Nd,(eQ ns).length≤ns.length
 |[]=>aq _
 |n::ns=>by
  rw[eQ,aA,aA];have h1:=bD (fun x=>!decide (x=n.1)) (eQ ns);have h2:=nH ns
  lia
theorem GrowP.nil {c:eg}{wanted:List (Str×Option Pk)}:c.LI wanted w pm [] wanted:=⟨[],by simp,.slnil,(fun x h=>nomatch h),(fun x h=>nomatch h),fun x u h=>.inl h⟩
section
variable {c:eg}{wanted g:List (Str×Option Pk)}{ps:List Str}
theorem GrowP.skip (h:c.LI wanted w pm ps g)(i:c.isP pm x):c.LI wanted w pm (ps++[x]) g:=by
 obtain⟨E,h1,h2,e,b,d⟩:=h;refine⟨E,h1,h2.trans (List.sublist_append_left _ _),e,fun y a=>?_,fun y u a=>(d y u a).imp id fun z=>⟨z.1,aQ _ z.2.1,z.2.2⟩⟩;rcases aB.mp a with z | z
 ·exact b y z
 ·rw[ai.mp z];exact .inl i
theorem GrowP.new (h:c.LI wanted w pm ps g)(b:¬c.isP pm x)(d:x∉g.map (·.1)):c.LI wanted w pm (ps++[x]) (g++[(x,w)]):=by
 obtain⟨E,h1,h2,j,e,i⟩:=h;rw[h1]at d;refine⟨E++[x],by rw[ay,h1,bO];rfl,h2.append (List.Sublist.refl _),fun y a=>?_,fun y a=>?_,fun y u a=>?_⟩
 ·rcases aB.mp a with z | z
  ·exact j y z
  ·rw[ai.mp z];exact⟨b,fun q=>d (aQ _ q)⟩
 ·rcases aB.mp a with z | z
  ·exact(e y z).imp id fun q=>q.imp id fun q=>aQ _ q
  ·rw[ai.mp z];exact .inr (.inr (by simp))
 ·rcases aB.mp a with z | z
  ·exact(i y u z).imp id fun q=>⟨q.1,aQ _ q.2.1,q.2.2⟩
  ·rw[ai,Prod.mk.injEq]at z;exact .inr ⟨z.2,by simp[z.1],z.1▸b⟩
theorem GrowP.Kh (h:c.LI wanted w pm ps g)(d:x∈g.map (·.1))(a:x∉ps):c.LI wanted w pm (ps++[x]) g:=by
 obtain⟨E,h1,h2,j,e,i⟩:=h;refine⟨E,h1,h2.trans (List.sublist_append_left _ _),j,fun y b=>?_,fun y u b=>(i y u b).imp id fun z=>⟨z.1,aQ _ z.2.1,z.2.2⟩⟩;rcases aB.mp b with z | z
 ·exact e y z
 ·rw[ai.mp z];rw[h1]at d;exact .inr (.inl ((aB.mp d).resolve_right fun q=>a (h2.subset q)))
theorem GrowP.swap (h:c.LI wanted w pm ps g)(m:¬c.isP pm x)(o:x∈g.map (·.1))(a:x∉ps):c.LI wanted w pm (ps++[x]) (g.map fun yu=>if yu.1=x then (yu.1,w) else yu):=by
 obtain⟨E,h1,h2,l,d,j⟩:=GrowP.Kh h o a;have e:(g.map fun yu=>if yu.1=x then (yu.1,w) else yu).map (·.1)=g.map (·.1):=by
  rw[cF];refine List.map_congr_left fun yu _=>?_;show(if yu.1=x then (yu.1,w) else yu).1=yu.1
  split <;> rfl
 refine⟨E,by rw[e];exact h1,h2,l,d,fun y u i=>?_⟩;obtain⟨yu,b,z⟩:=av.mp i;by_cases q:yu.1=x
 ·rw[if_pos q]at z;cases z;exact .inr ⟨rfl,by simp[q],q▸m⟩
 ·rw[if_neg q]at z;subst z;exact j y u b
end
theorem wV {c:eg}:(pm &&& c.Lp x≠0)↔c.isP pm x:=by
 have a:pm &&& c.Lp x<2^c.n:=bJ Nat.and_le_right (c.KW _)
 constructor
 ·intro h;refine Classical.byContradiction fun z=>h (eg.KP a fun k b=>z ?_);obtain⟨h1,h2⟩:=eg.KK.mp b;exact⟨k,h1,(eg.Lu.mp h2).2⟩
 ·rintro⟨j,h1,h2⟩ h;have:c.has (pm &&& c.Lp x) j:=eg.KK.mpr ⟨h1,eg.Lu.mpr ⟨h1.1,h2⟩⟩;rw[h]at this;exact eg.KN this
theorem nT {α β:Type}{f:α→List β}{n:Nat}:∀{l:List α},(∀x∈l,(f x).length≤n)→(l.flatMap f).length≤l.length*n
 |[],_=>by simp
 |x::l,h=>by
  have h1:=nT (l:=l) fun y hy=>h y (by simp[hy]);have h2:=h x (by simp);rw[List.flatMap_cons,aF,aA,Nat.succ_mul]
  lia
theorem iE.LJ {c:eg}{s:Sd}(h:iE c L s)(a:∀w,(c.needs w).length≤100)(j:c.n<64):s.wanted.length≤7000:=by
 have h1:(s.wanted.map (·.1)).length≤((none::c.ks.map some).flatMap fun w=>(c.needs w).map (·.1)).length:=by
  refine kN h.wk fun x i=>?_;obtain⟨⟨y,w⟩,b,e⟩:=av.mp i;have g:y=x:=e;subst g;obtain⟨_,h2,d⟩:=h.w1 y w b;refine List.mem_flatMap.mpr ⟨w,?_,d⟩;cases w with
  |none=>exact bB
  |some k=>exact bi _ (bh h2.1)
 have h2:=nT (f:=fun w=>(c.needs w).map (·.1)) (n:=100) (l:=none::c.ks.map some) fun w _=>by rw[ab];exact a w
 rw[aA,ab]at h2;rw[ab]at h1;have:c.ks.length<64:=j
 lia
def wl (H:Hp)(kv:gv×V)(xu:Str×Option Pk):Prop:=kv.1=Sum.inr xu.1∧gB H kv.2 xu.2
def wm (G:Hp)(a:Addr)(wanted:List (Str×Option Pk)):Prop:=∃o kvs,G a=some (.frz o (.dK kvs))∧Paired (wl G) kvs wanted
theorem wl.f (e:eB H H'){kv:gv×V}{xu:Str×Option Pk}(h:wl H kv xu):wl H' kv xu:=⟨h.1,h.2.f e⟩
theorem wm.f (e:eB H H'){ws:List (Str×Option Pk)}(h:wm H a ws):wm H' a ws:=(by obtain⟨o,kvs,h1,h2⟩:=h;exact⟨o,kvs,e.frz h1,Paired.Kg h2 fun _ _ z=>z.f e⟩)
theorem wy {H:Hp}:∀{kvs:List (gv×V)} {g:List (Str×Option Pk)},Paired (wl H) kvs g→kvs.map (·.1)=(g.map (·.1)).map Sum.inr
 |_,_,.nil=>rfl
 |_,_,.cons h r=>by rw[aE,aE,aE,wy r,h.1]
theorem rg {H:Hp}:∀{kvs:List (gv×V)} {g:List (Str×Option Pk)} {x:Str},Paired (wl H) kvs g→(eW kvs (Sum.inr x)=none↔x∉g.map (·.1))
 |_,_,x,.nil=>by simp[eW]
 |kv::kvs,xu::g,x,.cons h r=>by
  have ih:=rg (x:=x) r;unfold eW at ih ⊢;rw[bp,h.1,aE,am,not_or];by_cases e:xu.1=x
  ·rw[ao (by rw[e])];simp[e]
  ·rw[au (fun z=>e (Sum.inr.inj z))];exact ih.trans ⟨fun z=>⟨fun y=>e y.symm,z⟩,fun z=>z.2⟩
theorem oG {H:Hp}:∀{kvs:List (gv×V)} {g:List (Str×Option Pk)} {x:Str},Paired (wl H) kvs g→x∈g.map (·.1)→∃v u,eW kvs (Sum.inr x)=some v∧(x,u)∈g∧gB H v u
 |_,_,x,.nil,h=>nomatch h
 |kv::kvs,xu::g,x,.cons h r,hx=>by
  by_cases e:xu.1=x
  ·refine⟨kv.2,xu.2,?_,by rw[←e];exact bB,h.2⟩;unfold eW;rw[bp,h.1,ao (by rw[e])];rfl
  ·rw[aE,am]at hx;obtain⟨v,u,h1,h2,h3⟩:=oG r (hx.resolve_left fun z=>e z.symm);refine⟨v,u,?_,bi _ h2,h3⟩;unfold eW at h1 ⊢;rw[bp,h.1,au (fun z=>e (Sum.inr.inj z))];exact h1
theorem Ep {kvs:List (gv×V)}{g:List (Str×Option Pk)}(h:Paired (wl H) kvs g)(b:gB H v w):Paired (wl H) (fq kvs (Sum.inr x) v) (if x∈g.map (·.1) then g.map (fun yu=>if yu.1=x then (yu.1,w) else yu) else g++[(x,w)]):=by
 by_cases hx:x∈g.map (·.1)
 ·rw[if_pos hx];have d:(kvs.any fun a=>decide (a.1=Sum.inr x))=true:=by
   have:(Sum.inr x:gv)∈kvs.map (·.1):=by rw[wy h];exact bh hx
   obtain⟨a,j,i⟩:=av.mp this;exact dG.mpr ⟨a,j,ao i⟩
  unfold fq;rw[if_pos d];clear d hx
  induction h with
  |nil=>exact .nil
  |@cons a xu kvs g h r ih=>
   refine .cons ?_ ih;dsimp only;by_cases e:xu.1=x
   ·rw[if_pos (show a.1=Sum.inr x by rw[h.1,e]),if_pos e];exact⟨h.1,b⟩
   ·rw[if_neg (show ¬a.1=Sum.inr x from fun z=>e (Sum.inr.inj (h.1.symm.trans z))),if_neg e];exact h
 ·rw[if_neg hx,hZ _ ((rg h).mpr hx)];exact Paired.snoc h ⟨rfl,b⟩
theorem wz {H:Hp}{x:Str}:∀{kvs:List (gv×V)} {g:List (Str×Option Pk)},Paired (wl H) kvs g→Paired (wl H) (jP kvs (Sum.inr x)) (g.filter fun xu=>!decide (xu.1=x))
 |_,_,.nil=>.nil
 |kv::kvs,xu::g,.cons h r=>by
  have ih:=wz (x:=x) r;unfold jP at ih ⊢;by_cases e:xu.1=x
  ·rw[aG,aG,if_neg (by rw[h.1];simp[e]),if_neg (by simp[e])];exact ih
  ·rw[aG,aG,if_pos (by rw[h.1];simpa using e),if_pos (by simpa using e)];exact .cons h ih
def i9 (i:Nat):Stmt:=PySem.Challenge.pw_fitboard_k06_whole_choice_or_none.main.body.getD i (.Pass ⟨0,0,0,0⟩)
abbrev pJ:Stmt:=i9 4
abbrev zP:Stmt:=fG (i9 5) 0
abbrev pH:Stmt:=fG (i9 5) 1
abbrev vq:Stmt:=i9 7
abbrev su:Stmt:=fG (i9 8) 0
abbrev zR:Stmt:=fG (i9 8) 1
abbrev pK:Stmt:=fG (i9 8) 2
abbrev pD:Stmt:=fG (i9 8) 3
abbrev r6:Stmt:=fG (i9 8) 4
abbrev r8:Stmt:=fG (i9 8) 5
abbrev r9:Stmt:=fG (i9 10) 0
abbrev ER:Stmt:=fG (i9 10) 1
abbrev rX:Stmt:=fG (i9 10) 2
abbrev sw:Stmt:=fG (i9 10) 3
abbrev vf:Stmt:=fG (i9 10) 4
abbrev rR:Stmt:=i9 12
abbrev rT:Stmt:=fG (i9 13) 0
abbrev sr:Stmt:=fG (i9 14) 0
abbrev rV:Stmt:=fG (i9 15) 0
abbrev pF:Stmt:=fG (i9 15) 1
abbrev rS:Stmt:=fG (i9 15) 2
abbrev zN:Stmt:=fG (i9 15) 3
abbrev t6:Stmt:=fG (i9 15) 4
abbrev zQ:Stmt:=fG (i9 15) 5
abbrev sv:Stmt:=fG (i9 15) 6
abbrev sq:Stmt:=fG (i9 15) 7
abbrev zM:Stmt:=fG (i9 15) 8
abbrev zK:Stmt:=fG (i9 15) 9
abbrev rW:Stmt:=fG (i9 15) 10
abbrev vo:Stmt:=fG (i9 15) 11
abbrev pE:Stmt:=fG (i9 15) 12
abbrev vh:Stmt:=fG (i9 15) 13
abbrev rZ:Stmt:=fG (i9 15) 14
abbrev vi:Stmt:=fG (i9 15) 15
abbrev ve:Stmt:=i9 17
abbrev IZ:Stmt:=i9 18
abbrev EQ:Stmt:=i9 19
abbrev zL:Stmt:=i9 20
abbrev vm:Stmt:=i9 21
abbrev pC:Stmt:=i9 22
abbrev zS:Stmt:=i9 23
abbrev pG:Stmt:=i9 24
abbrev si:Stmt:=i9 25
abbrev rY:Stmt:=i9 26
abbrev sj:Stmt:=i9 27
abbrev nz:Stmt:=i9 28
abbrev vp:Stmt:=i9 29
abbrev sk:Stmt:=i9 30
abbrev pI:Stmt:=i9 31
abbrev lX:Stmt:=i9 32
abbrev vt:Stmt:=i9 33
abbrev vg:Stmt:=i9 34
abbrev vn:Stmt:=i9 35
abbrev sg:Stmt:=i9 36
end FB
namespace FB
open PySem L2 PyProof.Rows
seal nX PS PE PT PA
variable {C CB CC CL CS a ch dx g p:Addr}{G H H' Hd:Hp}{K:W.Frag}{P:Program}{es:List En}{fd gd:FuncData}{i j m:Nat}{mg:Str→Option Value}{vk:List (gv×V)}{w:World}{x:Str}
structure TB (K:W.Frag)(mg:Str→Option Value)(C:Addr):Prop where
 cl:qx K C
 nN:fU K C "needs"
 nV:fU K C "versions"
 mC:mg "Board" = some (.ref C)
 list:mg "list" = none
 sorted:mg "sorted" = none
theorem jQ {y:Str}:decide (V.str x=V.str y)=decide (x=y):=by
 by_cases h:x=y
 ·rw[ao h,ao (congrArg V.str h)]
 ·rw[au h,au (fun z=>h (V.str.inj z))]
def tG (n:Nd)(k:Str×Int):Bool:=decide (k.1=n.1)&&!(lH n k.2)
inductive uN (vs:List V)(H:Hp)(Q:VK)(E:XK):Prop
 |mk (v pk:V)(n:Nd)(k:Str×Int)(_:vs=[v,pk])(_:fR H v n)(_:fD H pk k)(_:Q (.bl (tG n k)) H):uN vs H Q E
def lE:Sp:=uN
inductive uM (C:Addr)(vs:List V)(H:Hp)(Q:VK)(E:XK):Prop
 |mk (p st:Addr)(es:List En)(v:V)(n:Nd)(_:vs=[.ref p,v])(_:gm C H p st es)(_:fR H v n)(_:es.length<64)(_:∀l (ms:List Int) H',eF H H'→H l=none→H' l=some (.lst (ms.map V.int))→ms.Perm (iM es n)→ms.Pairwise (· ≥ ·)→Q (.ref l) H'):uM C vs H Q E
def jY (C:Addr):Sp:=uM C
section
variable {base:Heap}{f:Addr}
theorem jc {N Ps:List Str}{sc:Scope}(a:sc.kind=.function:=by rfl)(b:sc.isCoroutine=false:=by rfl)(c:sc.isGenerator=false:=by rfl)(d:N.Nodup:=by decide +kernel)(e:N.take Ps.length=Ps:=by rfl)(f:∀x∈Ps,sc.names.lookup x=some .local∨sc.names.lookup x=some .cell:=by decide +kernel)(g:∀y∈sc.names,y.2≠.free:=by decide +kernel):eM N Ps sc:=⟨a,b,c,d,e,f,g⟩
theorem IW:eM ["need","pick"] ["need","pick"] (eE pJ):=jc
theorem vH (F:iQ K "clashes" "clashes" pJ f fd):eZ P w K mg base fh 1 f fd ["need","pick"] lE:=by
 refine F.ok IW (fun vs H Q E h=>?_) (fun g A d s H vs Q E j h=>?_)
 ·obtain⟨v,i,n,k,rfl,_⟩:=h;rfl
 obtain⟨v,i,n,k,rfl,⟨a,rfl,b⟩,⟨e,rfl,hp⟩,q⟩:=h;refine⟨_,eo (eL (l4 (jJ kE (eK eP (pv 1) et (fun _ _=>rfl)) (eK eP (pv 0) et (fun _ _=>rfl)) (fF _)) (nG (vy (Al wL wL (eK eP (pv 0) et (fun _ _=>rfl)) (eK eP (pv 1) et (fun _ _=>rfl)) (eK eP (pv 0) et (fun _ _=>rfl))))))),?_⟩;unfold tG lH at q;refine⟨_,rfl,e,_,_,_,rfl,rfl,gy.of hp,rfl,_,rfl,a,_,_,_,rfl,rfl,gy.of b,rfl,rfl,_,rfl,?_⟩;rw[jQ];refine kJ (fun c=>?_) (fun c=>?_)
 ·rw[c,cA]at q;refine⟨_,rfl,a,_,_,_,rfl,rfl,gy.of b,rfl,_,rfl,e,_,_,_,rfl,rfl,gy.of hp,rfl,_,_,rfl,rfl,_,rfl,?_⟩;refine kJ (fun c=>?_) (fun c=>?_)
  ·refine⟨_,rfl,a,_,_,_,rfl,rfl,gy.of b,rfl,_,_,rfl,rfl,_,rfl,?_⟩;rw[c,cA]at q;exact q
  ·rw[bV.mpr c,bZ]at q;exact⟨_,rfl,q⟩
 ·rw[bV.mpr c,bZ]at q;exact q
end
theorem vL {α:Type}{l:List α}{x:α}(h:(l.take i).Nodup)(e:l[i]?=some x):(l.take (i+1)).Nodup↔¬x∈l.take i:=by
 have g:l.take (i+1)=l.take i++[x]:=by rw[bg,e];rfl
 rw[g,bU]
 constructor
 ·intro z m;exact z.2.2 x m x (by simp) rfl
 ·intro z;refine⟨h,by simp,fun a d b j e=>z ?_⟩;rw[ai.mp j]at e;rw[←e];exact d
theorem lS {α:Type}{l:List α}(i:Nat)(h:l.Nodup):(l.take i).Nodup:=h.sublist (dY _ _)
theorem mO {κ:Type} [DecidableEq κ] {kvs:List (κ×V)}{k:κ}{v:V}(h:(eW kvs k).isSome=true):(fq kvs k v).map (·.1)=kvs.map (·.1):=by
 unfold fq;rw[iR,if_pos h,cF];refine List.map_congr_left fun a _=>?_;show(if a.1=k then (a.1,v) else a).1=a.1
 split <;> rfl
theorem iP.apart {fs:List (Str×V)}(hp:H p=some (.ins C dx fs))(h:iP H a es):iP (del H [p]) a es:=by
 have out:∀b o,H b=some o→o≠.ins C dx fs→del H [p] b=some o:=fun b o e l=>by
  rw[eD (by simpa using fC e hp l)];exact e
 obtain⟨xs,h1,h2⟩:=h;refine⟨xs,out _ _ h1 (by intro z;cases z),Paired.Kg h2 fun v e z=>?_⟩;obtain⟨q,d,zs,i,r,j,m⟩:=z;refine⟨q,d,zs,i,out _ _ r (by intro z;cases z),out _ _ j (by intro z;cases z),Paired.Kg m fun v n z=>?_⟩;obtain⟨q,g,g2⟩:=z;exact⟨q,g,out _ _ g2 (by intro z;cases z)⟩
structure jE (Hd H:Hp)(vk:List (gv×V))(es:List En):Prop where
 at_:∀x:Str,(eW vk (Sum.inr x)=none∧gY es x=[])∨∃l,eW vk (Sum.inr x)=some (.ref l)∧Hd l=none∧H l=some (.lst ((gY es x).map V.int))
 inj:∀(x y:Str) (l:Addr),eW vk (Sum.inr x)=some (.ref l)→eW vk (Sum.inr y)=some (.ref l)→x=y
 keys:∀kv∈vk,∃x:Str,kv.1=Sum.inr x
 len:vk.length≤es.length
theorem jE.same (R:jE Hd H vk es)(s:eF H H'):jE Hd H' vk es:=
 ⟨fun x=>(R.at_ x).imp id (by rintro⟨l,h1,h2,h3⟩;exact⟨l,h1,h2,s _ _ h3⟩),R.inj,R.keys,R.len⟩
theorem jE.dict (R:jE Hd H vk es)(s:∀b xs,H b=some (.lst xs)→H' b=some (.lst xs)):jE Hd H' vk es:=
 ⟨fun x=>(R.at_ x).imp id (by rintro⟨l,h1,h2,h3⟩;exact⟨l,h1,h2,s _ _ h3⟩),R.inj,R.keys,R.len⟩
theorem jE.more {e:En}{l:Addr}(R:jE Hd H vk es)(h:eW vk (Sum.inr e.1)=some (.ref l)):Hd l=none∧H l=some (.lst ((gY es e.1).map V.int))∧jE Hd (upd H l (.lst ((gY es e.1).map V.int++[.int e.2.1]))) vk (es++[e]):=by
 have a:Hd l=none∧H l=some (.lst ((gY es e.1).map V.int)):=by
  rcases R.at_ e.1 with ⟨z,_⟩ | ⟨d,h1,h2,b⟩
  ·rw[h]at z;cases z
  ·rw[h]at h1;cases h1;exact⟨h2,b⟩
 refine⟨a.1,a.2,fun x=>?_,R.inj,R.keys,by rw[aF];exact bw R.len (dj _ _)⟩;rw[nZ];by_cases hx:e.1=x
 ·subst hx;refine .inr ⟨l,h,a.1,?_⟩;rw[d0,if_pos rfl,ay];rfl
 ·rw[if_neg hx];rcases R.at_ x with z | ⟨d,h1,h2,b⟩
  ·exact .inl z
  ·refine .inr ⟨d,h1,h2,?_⟩;rw[ef (fun z=>hx (R.inj _ _ l h (by rw[←z];exact h1)))];exact b
theorem jE.first {e:En}{l:Addr}(R:jE Hd H vk es)(h:eW vk (Sum.inr e.1)=none)(q:H l=some (.lst []))(j:Hd l=none)(i:∀x:Str,eW vk (Sum.inr x)≠some (.ref l)):jE Hd (upd H l (.lst [.int e.2.1])) (fq vk (Sum.inr e.1) (.ref l)) (es++[e]):=by
 refine⟨fun x=>?_,fun x y g a b=>?_,fun p d=>?_,?_⟩
 ·rw[nZ,fW];by_cases a:e.1=x
  ·subst a;refine .inr ⟨l,by rw[if_pos rfl],j,?_⟩;have m:gY es e.1=[]:=by
    rcases R.at_ e.1 with ⟨_,z⟩ | ⟨g,h1,_⟩
    ·exact z
    ·rw[h]at h1;cases h1
   rw[d0,if_pos rfl,m];rfl
  ·rw[if_neg (fun z=>a (Sum.inr.inj z).symm),if_neg a];rcases R.at_ x with z | ⟨g,h1,h2,o⟩
   ·exact .inl z
   ·refine .inr ⟨g,h1,h2,?_⟩;rw[ef (fun z=>i x (by rw[←z];exact h1))];exact o
 ·rw[fW]at a b;by_cases ex:(Sum.inr x:gv)=Sum.inr e.1
  ·by_cases ey:(Sum.inr y:gv)=Sum.inr e.1
   ·exact(Sum.inr.inj ex).trans (Sum.inr.inj ey).symm
   ·rw[if_pos ex]at a;rw[if_neg ey]at b;cases a;exact absurd b (i y)
  ·rw[if_neg ex]at a;by_cases ey:(Sum.inr y:gv)=Sum.inr e.1
   ·rw[if_pos ey]at b;cases b;exact absurd a (i x)
   ·rw[if_neg ey]at b;exact R.inj x y g a b
 ·rw[hZ _ h]at d;rcases aB.mp d with z | z
  ·exact R.keys p z
  ·rw[ai.mp z];exact⟨_,rfl⟩
 ·rw[hZ _ h,aF,aF];exact Nat.add_le_add_right R.len _
inductive HX (C:Addr)(Hd:Hp)(es:List En)(p a st dx dn dv:Addr)(i:Nat)(σ:L2.St)(H2:Hp):Prop
 |mk (nks vk o3 o4 o5:_)(_:σ=[some (.ref p),some (.ref a),some (.ref st),o3,o4,o5])(_:H2 p=some (.ins C dx (j7 dn dv)))(_:H2 dn=some (.dN ((none,.ref st)::nks)))(_:Paired (mV Hd) nks (es.take i))(_:H2 dv=some (.dK vk))(_:jE Hd H2 vk (es.take i)):HX C Hd es p a st dx dn dv i σ H2
structure Ke (C:Addr)(Hd:Hp)(es:List En)(p a st dx dn dv:Addr)(i:Nat)(σ:L2.St)(H2:Hp):Prop where
 ex:HX C Hd es p a st dx dn dv i σ H2
 sm:eF Hd H2
 nd:((es.map eX).take i).Nodup
inductive HW (C:Addr)(Hd:Hp)(es:List En)(p a st dx dn dv:Addr)(nks:List (fM×V))(ks:List gv)(j:Nat)(σ:L2.St)(H2:Hp):Prop
 |mk (vk o3 o4 o5:_)(_:σ=[some (.ref p),some (.ref a),some (.ref st),o3,o4,o5])(_:H2 p=some (.ins C dx (j7 dn dv)))(_:H2 dn=some (.dN ((none,.ref st)::nks)))(_:H2 dv=some (.dK vk))(_:vk.map (·.1)=ks)(_:uP H2 vk es fun x=>(Sum.inr x:gv)∈ks.take j):HW C Hd es p a st dx dn dv nks ks j σ H2
structure Kd (C:Addr)(Hd:Hp)(es:List En)(p a st dx dn dv:Addr)(nks:List (fM×V))(ks:List gv)(j:Nat)(σ:L2.St)(H2:Hp):Prop where
 ex:HW C Hd es p a st dx dn dv nks ks j σ H2
 sm:eF Hd H2
section
variable {base:Heap}{f:Addr}
theorem zH:eM ["self","shelf","start","part","version","needs"] ["self","shelf","start"] (eE zP):=jc
end
theorem Hk:(["version","part","need"]:List Str).Nodup:=by decide +kernel
section
variable {base:Heap}{f:Addr}
theorem GL:eM ["self","need","part"] ["self","need"] (eE pH):=jc
theorem vG (F:iQ K "meeting" "Board.meeting" pH f fd)(T:TB K mg C)(G:eZ P w K mg base fh 1 g gd ["need","pick"] lE)(bG:gi K gd ["need","pick"] [])(kG:W.keepIn K (.ref g)=true)(mG:mg "clashes" = some (.ref g)):eZ P w K mg base fh 2 f fd ["self","need"] (jY C):=by
 refine F.ok GL (fun vs H Q E h=>?_) (fun aa A S s H vs Q E Z h=>?_)
 ·obtain⟨p,st,es,v,n,rfl,_⟩:=h;rfl
 obtain⟨p,st,es,v,n,rfl,⟨dx,dn,dv,ad,vk,hp,hn,hk,R,hV⟩,⟨L,rfl,J⟩,hl,q⟩:=h;have hu:=gR Z;refine⟨_,(ee (eJ (i:=2) GL.nd rfl (Or.inr rfl) (eK eP (pv 1) et (fun _ _=>rfl))) (eo (eL (iH (N':=["version","part","need"]) (n:=1) (js:=[2,1]) rfl (iO.two (c:=s.heap.objs.size+2) (c':=s.heap.objs.size+1) (y:="part") (y':="need") rfl rfl rfl (by decide +kernel) (by decide +kernel) rfl (by decide +kernel) (by decide +kernel) rfl rfl rfl rfl rfl rfl rfl rfl rfl) (iq (by decide)) (fO (j3 hu (lZ (pv 0) rfl) (pv 2) (gl el) ⟨rfl,rfl,rfl,rfl⟩)) (fun C Y H2 fp=>eN (i:=0) Hk rfl (Or.inl rfl)) (fun C Y H2 fp=>oK (gE (gu (fe G Z rfl mG kG bG .nil eT (dZ (pv 2) (dZ (gT (dZ (pv 1) (dZ (pv 0) el))) el)))))) (fun C Y H2 fp=>pv 0))))),?_⟩;refine⟨_,rfl,L,_,_,_,rfl,rfl,gy.of J,rfl,?_⟩;refine⟨_,rfl,p,C,dx,_,_,rfl,hp,T.cl,T.nV,jD _ _,dv,rfl,.inl ⟨_,R⟩,_,rfl,(by show 0≤sizeLine;decide),fun o N=>?_⟩;have e:=eA N (.lst []);have b:∀(l:Addr) (a:List Int),upd H o (.lst []) l=some (.lst (a.map V.int))→a.Perm (gY es n.1)→a.Pairwise (· ≥ ·)→rf (FW K l) (jq 0)
   (Gn (tB (DL lE [] E0 (qB (ow 2) (qB (Gg (qB (ow 1) (qB (ow 0) xV))) xV))))) (ow 0) (frees 1 [2,1] [some (.ref p),some (.ref L),some (.str n.1)]) (upd H o (.lst [])) Q:=by
  intro l a h1 h2 O;have lm:a.length<64:=by
   rw[h2.length_eq];exact bJ (jT _ _) hl
  refine ir (xs:=a.map V.int) (fun D i ys H2=>ys=((a.take i).filter (lH n)).map V.int∧H2 D=some (.lst ys)∧eF (upd H o (.lst [])) H2∧upd H o (.lst []) D=none) (fun D X=>⟨by simp,d0,eA X _,X⟩)
   (fun D i ys H2 hi ⟨j,d,m,_⟩=>⟨fb.of (m _ _ h1),d,?_⟩) (fun D i x ys H2 hi ⟨j,d,m,I⟩=>?_) (fun D ys H2 ⟨j,d,m,I⟩=>?_)
  ·rw[j,ab];have:=bD (lH n) (a.take i);rw[aS]at this;exact eV (by lia)
  ·rw[ae]at hi;obtain⟨z,hz,rfl⟩:=aw.mp hi;have ht:a.take (i+1)=a.take i++[z]:=by rw[bg,hz];rfl
   have M:(a.take (i+1)).filter (lH n)=(a.take i).filter (lH n)++(if lH n z=true then [z] else []):=by
    rw[ht,ce,aG];rfl
   unfold jq;refine⟨_,rfl,_,rfl,_,rfl,(by show 2≤sizeLine;decide),fun t r=>?_⟩;have B:=eA r (.tup [.str n.1,.int z]);refine⟨.ref L,.ref t,n,(n.1,z),rfl,⟨L,rfl,B _ _ (m _ _ (e _ _ J))⟩,⟨t,rfl,d0⟩,_,rfl,?_⟩;have U:tG n (n.1,z)=!(lH n z):=by unfold tG;simp
   rw[U];dsimp only;rw[Bool.not_not];have nD:D≠t:=er d r;by_cases hb:lH n z=true
   ·rw[if_pos hb]at M;rw[if_pos hb];refine⟨_,rfl,B _ _ d,?_,d0,eF.upd (m.trans B) I,I⟩;rw[M,j,ay];rfl
   ·rw[if_neg hb,cq]at M;rw[if_neg hb];exact⟨by rw[M];exact j,B _ _ d,m.trans B,I⟩
  ·rw[ab,aH]at j;subst j;exact q D _ H2 (e.trans m) (e.free I) d (Ae h2) (O.filter _)
 rcases hV n.1 with ⟨z1,z2⟩ | ⟨l,a,h1,h2,O,h4⟩
 ·refine⟨none,.inl ⟨_,Sum.inr n.1,ie e R,rfl,z1.symm⟩,o,rfl,⟨_,fb.of d0⟩,b o [] d0 (by rw[z2]) .nil⟩
 ·refine⟨some (.ref l),.inl ⟨_,Sum.inr n.1,ie e R,rfl,h1.symm⟩,l,rfl,⟨_,fb.of (e _ _ h2)⟩,b l a (e _ _ h2) O (h4 trivial)⟩
end
inductive BN (vs:List V)(H:Hp)(Q:VK)(E:XK):Prop
 |mk (c:eg)(m:Nat)(_:vs=[.int (m:Int)])(_:m<2^c.n)(_:Q (.int ((c.listed m).length:Nat)) H):BN vs H Q E
def rL:Sp:=BN
inductive xw (CC:Addr)(vs:List V)(H:Hp)(Q:VK)(E:XK):Prop
 |mk (G:Hp)(p dx by_:Addr)(fs:List (Str×V))(c:eg)(m:Nat)(_:vs=[.ref p,.int (m:Int)])(_:eB G H)(_:H p=some (.ins CC dx fs))(_:fs.lookup ("by_bit" : Str)=some (V.ref by_))(_:oF G by_ c)(_:c.n<64)(_:m<2^c.n)(_:∀l xs H',eF H H'→H l=none→H' l=some (.lst xs)→Paired (fD G) xs (c.listed m)→(∀b,b≠l→H' b=H b)→Q (.ref l) H'):xw CC vs H Q E
def jg (CC:Addr):Sp:=xw CC
theorem Hf:((m:Int) != 0)=true↔m≠0:=by
 rw[bne_iff_ne];omega
theorem p3:((m:Int) != 0)=!decide (m=0):=by
 by_cases h:m=0
 ·subst h;rfl
 ·rw[au h,Hf.mpr h];rfl
theorem oj (c:eg):c.listed 0=[]:=(eg.KQ (bM _)).mpr rfl
theorem vT (c:eg)(m:Nat):(c.listed m).length≤c.n:=bD _ _
section
variable {base:Heap}{f:Addr}
theorem wG:eM ["mask","count"] ["mask"] (eE vq):=jc
theorem AE (F:iQ K "count_picks" "count_picks" vq f fd):eZ P w K mg base fh 1 f fd ["mask"] rL:=by
 refine F.ok wG (fun vs H Q E h=>?_) (fun g A b s H vs Q E o h=>?_)
 ·obtain⟨c,m,rfl,_⟩:=h;rfl
 obtain⟨c,m,rfl,l,q⟩:=h;refine⟨_,(ee (eJ (i:=1) wG.nd rfl (Or.inl rfl) et) (ee (jy PassesOwn.never (iB (pv 0) (fun _=>rfl)) (ee (ki (i:=0) wG.nd rfl (Or.inl rfl) (fm As (pv 0) et) FD) (eo (ki (i:=1) wG.nd rfl (Or.inl rfl) et Bb)))) (eo (eL (pv 1))))),?_⟩;refine⟨fun k σ H2=>∃(n t:Nat),σ=[some (.int (n:Int)),some (.int (t:Int))]∧H2=H∧k=n∧n<2^c.n∧t+(c.listed n).length=(c.listed m).length,⟨m,m,0,rfl,rfl,rfl,l,by omega⟩,?_⟩;rintro k σ H2 ⟨n,t,rfl,rfl,rfl,d,a⟩;refine⟨_,rfl,_,rfl,?_⟩;rw[p3];by_cases h0:k=0
 ·subst h0;rw[oj]at a;refine ff ⟨_,rfl,?_⟩;rw[show(c.listed m).length=t by simpa using a.symm]at q;exact q
 ·rw[au h0];refine gL ⟨fun σ' H'=>∃m',m'<k∧_,fun _ _ h=>h,?_⟩;obtain⟨i,r,rfl⟩:=vR k h0;obtain⟨x,p,_,j⟩:=l8 d;have e:((2^i*(2*r+1):Nat):Int)-1=((2^i*(2*r+1)-1:Nat):Int):=by omega
  refine⟨_,rfl,_,rfl,_,_,rfl,rfl,_,_,rfl,rfl,?_⟩;rw[e,nU,sU];refine⟨_,rfl,_,_,rfl,rfl,2^(i+1)*r,?_,2^(i+1)*r,t+1,rfl,rfl,rfl,AQ d,?_⟩
  ·have:=oO i r;have:=bM i;omega
  ·rw[j,aA]at a;omega
theorem CH:eM ["self","mask","picks","bit"] ["self","mask"] (eE r8):=jc
theorem yn (F:iQ K "listed" "Chart.listed" r8 f fd)(T:TC K mg CC):eZ P w K mg base fh 1 f fd ["self","mask"] (jg CC):=by
 refine F.ok CH (fun vs H Q E h=>?_) (fun Z A I s H vs Q E hr h=>?_)
 ·obtain⟨G,p,dx,g,fs,c,m,rfl,_⟩:=h;rfl
 obtain⟨G,p,dx,g,fs,c,m,rfl,gh,hp,hf,⟨kvs,C,hB⟩,aa,hm,q⟩:=h;have X:=gh.rd C;have hu:=gR hr;refine⟨_,(ee (eJ (i:=2) CH.nd rfl (Or.inl rfl) (gl el)) (ee (jy PassesOwn.never (iB (pv 1) (fun _=>rfl)) (ee (eJ (i:=3) CH.nd rfl (Or.inl rfl) (fm hJ (pv 1) (iX jU (pv 1)))) (ee (gf (jp PySem.F.plainAttrs_list PySem.F.slot_list_append PySem.F.type_list_append gN (pv 2) (dZ (gU hu (eG T.cl T.nBy (pv 0)) (pv 3) (fun _ _=>rfl)) el))) (eo (ki (i:=1) CH.nd rfl (Or.inl rfl) (pv 3) FC))))) (eo (eL (pv 2))))),?_⟩;refine⟨(by show 0≤sizeLine;decide),fun l J=>?_⟩;have U:p≠l:=er hp J;refine⟨fun k σ H2=>∃(n:Nat) (xs:List V) (ks:List Pk) (O:Option V),σ=[some (.ref p),some (.int (n:Int)),some (.ref l),O]∧H2 l=some (.lst xs)∧(∀b,b≠l→H2 b=H b)∧k=n∧n<2^c.n∧Paired (fD G) xs ks∧ks++c.listed n=c.listed m,⟨m,m,[],[],none,rfl,d0,fun b j=>ef j,rfl,hm,.nil,rfl⟩,?_⟩;rintro k σ H2 ⟨n,xs,ks,O,rfl,d,h2,rfl,R,L,a⟩;have y:eF H H2:=fun b o e=>by rw[h2 b (fun z=>by rw[z,J]at e;cases e)];exact e
 refine⟨_,rfl,_,rfl,?_⟩;rw[p3];by_cases h0:k=0
 ·subst h0;rw[oj,cq]at a;refine ff ⟨_,rfl,?_⟩;exact q l xs H2 y J d (a▸L) h2
 ·rw[au h0];refine gL ⟨fun σ' H'=>∃m',m'<k∧_,fun _ _ h=>h,?_⟩;obtain⟨i,r,rfl⟩:=vR k h0;obtain⟨x,M,t,N⟩:=l8 R;obtain⟨v,S,D⟩:=hB x (ak M);have B:(c.bit x:Int)=((2^i:Nat):Int):=by unfold eg.bit;rw[t]
  rw[B]at S;have lx:=Paired.length L;have Y:ks.length<64:=by
   have:=congrArg List.length a;rw[aF]at this;have:=vT c m;omega
  refine⟨_,rfl,_,rfl,_,rfl,_,_,rfl,rfl,?_⟩;dsimp only;rw[Dj];refine⟨_,rfl,.inl ⟨rfl,_,fb.of d⟩,_,rfl,p,dx,fs,_,rfl,y _ _ hp,hf,_,rfl,g,v,rfl,.inl ⟨kvs,Sum.inl ((2^i:Nat):Int),ie y X,rfl,S.symm⟩,l,xs,v,rfl,rfl,d,eV (by omega),?_⟩;have e:((2^i*(2*r+1):Nat):Int)-((2^i:Nat):Int)=((2^(i+1)*r:Nat):Int):=by
   have:=oO i r;have:2^i≤2^i*(2*r+1):=Nat.le_mul_of_pos_right _ (by omega);omega
  refine⟨_,rfl,_,rfl,_,_,rfl,rfl,?_⟩;dsimp only;rw[e];refine⟨2^(i+1)*r,?_,2^(i+1)*r,xs++[v],ks++[x],_,rfl,d0,fun b j=>by rw[ef j];exact h2 b j,rfl,AQ R,Paired.snoc L D,?_⟩
  ·have:=oO i r;have:=bM i;omega
  ·rw[←a,N,bO];rfl
end
abbrev zf (b bits by_ ofp:Addr):List (Str×V):=[("board",.ref b),("bits",.ref bits),("by_bit",.ref by_),("of_part",.ref ofp)]
inductive D1 (CB CC:Addr)(vs:List V)(H:Hp)(Q:VK)(E:XK):Prop
 |mk (p dx b bits by_ ofp st:Addr)(es:List En)(sn:List Nd)(_:vs=[.ref p])(_:H p=some (.ins CC dx (zf b bits by_ ofp)))(_:gm CB H b st es)(_:(es.map eX).Nodup)(_:es.length<64)(_:H bits=some (.dN [(none,.int 0)]))(_:H by_=some (.dK []))(_:H ofp=some (.dK []))(_:by_≠ofp)(_:∀(c:eg) H',c.es=es→c.sn=sn→eB (del H [bits,by_,ofp]) H'→ic H' bits c c.KC→oF H' by_ c→lO H' ofp c→Q .non H'):D1 CB CC vs H Q E
def u8 (CB CC:Addr):Sp:=D1 CB CC
def eg.upM (c:eg)(i:Nat)(x:Str):Nat:=c.maskOf fun k=>decide (k.1=x)&&decide (c.ix k<i)
theorem eg.LK (c:eg)(x:Str):c.upM 0 x=0:=eg.KP (c.KW _) fun k h=>by
 have:=(eg.KU.mp h).2;simp at this
theorem eg.LL (c:eg)(x:Str):c.upM c.n x=c.Lp x:=eg.ext (c.KW _) (c.KW _) fun k=>by
 rw[eg.Lu];unfold eg.upM;rw[eg.KU,aD,ax,ax];exact⟨fun h=>⟨h.1,h.2.1⟩,fun h=>⟨h.1,h.2,c.KD h.1⟩⟩
theorem eg.LM {c:eg}{k:Pk}(d:c.ks[i]?=some k)(x:Str):c.upM (i+1) x=if k.1=x then c.upM i x ||| c.bit k else c.upM i x:=by
 have a:=ak d;have l:=c.KH d;have key:∀j,j∈c.ks→(c.ix j<i+1↔c.ix j<i∨j=k):=fun j g=>by
  constructor
  ·intro h;by_cases e:c.ix j=i
   ·exact .inr (c.KG g a (e.trans l.symm))
   ·exact .inl (by lia)
  ·rintro(h | rfl)
   ·lia
   ·lia
 by_cases e:k.1=x
 ·rw[if_pos e];refine eg.ext (c.KW _) (ji (c.KW _) (c.KO a)) fun j=>?_;rw[eg.KJ,eg.KM a];unfold eg.upM;simp only[eg.KU,aD,ax]
  constructor
  ·rintro⟨h1,h2,b⟩;rcases (key j h1).mp b with z | z
   ·exact .inl ⟨h1,h2,z⟩
   ·exact .inr z
  ·rintro(⟨h1,h2,b⟩ | rfl)
   ·exact⟨h1,h2,by lia⟩
   ·exact⟨a,e,by lia⟩
 ·rw[if_neg e];refine eg.ext (c.KW _) (c.KW _) fun j=>?_;unfold eg.upM;simp only[eg.KU,aD,ax]
  constructor
  ·rintro⟨h1,h2,b⟩;rcases (key j h1).mp b with z | z
   ·exact⟨h1,h2,z⟩
   ·rw[z]at h2;exact absurd h2 e
  ·rintro⟨h1,h2,b⟩;exact⟨h1,h2,by lia⟩
theorem CQ (h:((2^i:Nat):Int)=((2^j:Nat):Int)):i=j:=by
 rcases Nat.lt_trichotomy i j with z | z | z
 ·have:=Nat.pow_lt_pow_right (a:=2) (by decide) z;lia
 ·exact z
 ·have:=Nat.pow_lt_pow_right (a:=2) (by decide) z;lia
theorem nd1:(["pick"]:List Str).Nodup:=by decide +kernel
section
variable {base:Heap}{f:Addr}
theorem CJ:eM ["self","bit","pick"] ["self"] (eE zR):=jc
inductive Ic (c:eg)(H1:Hp)(p bits by_ ofp:Addr)(i:Nat)(σ:L2.St)(H2:Hp):Prop
 |mk (kb ky ko o2:_)(_:σ=[some (.ref p),some (.int ((2^i:Nat):Int)),o2])(_:H2 bits=some (.dN kb))(_:H2 by_=some (.dK ky))(_:H2 ofp=some (.dK ko))(_:kb.length≤i+1)(_:ky.length≤i)(_:ko.length≤i)(_:eW kb none=some (.int 0))(_:(∀(j:Nat) (k:Pk),j<i→c.ks[j]?=some k→eW kb (some (jv k))=some (.int (c.bit k))∧∃v,eW ky (Sum.inl (c.bit k:Int))=some v∧fD H1 v k))(_:∀x:Str,(eW ko (Sum.inr x)).getD (.int 0)=.int (c.upM i x)∧((∃(j:Nat) (k:Pk),j<i∧c.ks[j]?=some k∧k.1=x)→eW ko (Sum.inr x)=some (.int (c.upM i x)))):Ic c H1 p bits by_ ofp i σ H2
structure Kf (c:eg)(H1:Hp)(p bits by_ ofp:Addr)(i:Nat)(σ:L2.St)(H2:Hp):Prop where
 ex:Ic c H1 p bits by_ ofp i σ H2
 sm:eF (del H1 [bits,by_,ofp]) H2
theorem Dd (F:iQ K "give_bits" "Chart.give_bits" zR f fd)(T:TC K mg CC)(bd:TB K mg CB):eZ P w K mg base fh 1 f fd ["self"] (u8 CB CC):=by
 refine F.ok CJ (fun vs H Q E h=>?_) (fun dp A c9 s H vs Q E hr h=>?_)
 ·obtain⟨p,dx,b,bits,d,l,st,es,sn,rfl,_⟩:=h;rfl
 obtain⟨p,dx,b,bits,d,l,st,es,sn,rfl,hp,hB,b9,c4,as,a2,a4,a7,q⟩:=h;have hu:=gR hr;refine⟨_,(ee (eJ (i:=1) CJ.nd rfl (Or.inl rfl) et) (eo (fZ PassesOwn.never rfl (fO (eR mS rfl T.sorted boot_sorted (dZ (iH (N':=["pick"]) (n:=1) (js:=[]) rfl (iO.closed (by decide +kernel) (by decide +kernel) rfl (by decide +kernel) rfl) (iq (by decide)) (sE (eG bd.cl bd.nN (eG T.cl T.nBoard (pv 0)))) (fun C s2 H2 fp=>eN (i:=0) nd1 rfl (Or.inl rfl)) (fun C s2 H2 fp=>oK (gZ (mJ (pv 0)))) (fun C s2 H2 fp=>pv 0)) el))) (eN (i:=2) CJ.nd rfl (Or.inl rfl)) (ee (kU hu (eG T.cl T.nBits (pv 0)) (pv 2) (pv 1) rfl) (ee (ja hu (eG T.cl T.nBy (pv 0)) (pv 1) (pv 2) rfl) (ee (ja hu (eG T.cl T.nOf (pv 0)) (eK eP (pv 2) et (fun _ _=>rfl)) (fm qJ (j3 hu (eG T.cl T.nOf (pv 0)) (eK eP (pv 2) et (fun _ _=>rfl)) et ⟨rfl,rfl,rfl,rfl⟩) (pv 1)) rfl) (eo (ki (i:=1) CJ.nd rfl (Or.inl rfl) (pv 1) Bb)))))))),?_⟩;obtain⟨bx,dn,dv,ba,vk,b1,b2,b3,b4,b5⟩:=id hB.ex;have ln:=Paired.length b3;refine⟨_,rfl,p,dx,_,_,rfl,hp,(by kernel_rfl),b,bx,_,_,rfl,b1,gJ _ _,dn,_,rfl,b2,fun o H1 sf bf a3=>?_⟩;refine xc (n:=ba.length+1) (fun D i ys H3=>H3=upd H1 D (.lst ys)∧H1 D=none∧Paired (uR H1) ys ((es.take (i-1)).map eX)) (fun D hD=>⟨rfl,hD,.nil⟩) (fun D i ys H3 hi ⟨e1,e2,e3⟩=>?_) (fun D i x ys H3 H4 hi hy ⟨e1,e2,e3⟩=>?_) (fun D ys H3 ⟨e1,e2,e3⟩=>?_)
 ·subst e1;have sP:dn≠D:=er a3 e2;refine⟨fun cv=>⟨cv,by rw[ef sP];exact a3⟩,fun c6=>⟨by rw[c6];exact aq _,by rw[ef sP];exact a3⟩,d0,?_⟩;have:=Paired.length e3;rw[ab,aS]at this;exact eV (by lia)
 ·obtain⟨rfl,kv,G,kx⟩:=hy;subst e1;unfold jq
  match i,G,hi,e3 with
  |0,G,hi,e3=>
   have ct:kv=(none,.ref st):=by simpa using G.symm
   subst ct;cases (show x=.non from kx);exact⟨_,rfl,_,rfl,ff ⟨rfl,e2,e3⟩⟩
  |i+1,G,hi,e3=>
   have m:ba[i]?=some kv:=by simpa using G
   obtain⟨e,cz,cd,_⟩:=Paired.KA b3 m;rw[cd]at kx;obtain⟨bq,rfl,al⟩:=kx;have nb:bq≠D:=fun z=>by rw[z,d0]at al;cases al
   rw[ef nb]at al;refine⟨_,rfl,_,rfl,gL ⟨_,rfl,d0,by rw[i8],e2,?_⟩⟩;have ht:es.take (i+1+1-1)=es.take i++[e]:=by rw[dO,bg,cz];rfl
   rw[ht,ay];exact Paired.snoc e3 ⟨bq,rfl,al⟩
 ·subst e1;rw[dO,ln,aH]at e3;have sD:=eA e2 (.lst ys);have da:Paired (uR (upd H1 D (.lst ys))) ys (es.map eX):=Paired.Kg e3 fun _ _ ⟨z,z1,z2⟩=>⟨z,z1,sD _ _ z2⟩;refine⟨D,ys,es.map eX,rfl,fb.of d0,da,b9,by rw[ab];exact c4,fun L r ds hL O a9 c5=>?_⟩;have sL:=eA hL (.lst r);obtain⟨c,c1,c2,c3⟩:=FN sn b9 a9 c5;have cn:c.n=r.length:=by unfold eg.n;rw[c3];exact(Paired.length O).symm
  have an:eB H (upd (upd H1 D (.lst ys)) L (.lst r)):=sf.trans (sD.trans sL).toF;generalize hH:upd (upd H1 D (.lst ys)) L (.lst r)=H4 at *;have bv:H4 L=some (.lst r):=by rw[←hH];exact d0
  have cp:Paired (fD H4) r c.ks:=by rw[c3];exact Paired.Kg O fun _ _ ⟨z,z1,z2⟩=>⟨z,z1,sL _ _ z2⟩
  refine⟨L,rfl,⟨_,fb.of bv⟩,?_⟩;have c8:bits≠dn:=fun z=>by
   rw[z]at as;rcases b2 with y | ⟨o',y⟩ <;> (rw[as]at y;cases y)
  have c7:d≠dn:=fun z=>by
   rw[z]at a2;rcases b2 with y | ⟨o',y⟩ <;> (rw[a2]at y;cases y)
  have cy:l≠dn:=fun z=>by
   rw[z]at a4;rcases b2 with y | ⟨o',y⟩ <;> (rw[a4]at y;cases y)
  have a0:∀{a u},a≠dn→H a=some u→H4 a=some u:=fun {a u} na e=>by
   have e1:H1 a=some u:=by rw[bf a na];exact e
   exact sL _ _ (sD _ _ e1)
  have aa:=a0 c8 as;have a6:=a0 c7 a2;have a1:=a0 cy a4;have b7:d≠bits:=fC a6 aa (fun z=>nomatch z);have bm:l≠bits:=fC a1 aa (fun z=>nomatch z);have co:H4 p=some (.ins CC dx (zf b bits d l)):=an.ins hp
  have out:∀{H2:Hp},eF (del H4 [bits,d,l]) H2→∀{a u},H4 a=some u→(∀kvs,u≠.dN kvs)→(∀kvs,u≠.dK kvs)→H2 a=some u:=fun {H2} sm {a u} e n1 n2=>sm _ _ (by
   rw[eD (by
    simp only[am,aJ,or_false,not_or]
    exact⟨fun z=>n1 _ (by rw[z,aa]at e;exact(Option.some.inj e).symm),fun z=>n2 _ (by rw[z,a6]at e;exact(Option.some.inj e).symm),fun z=>n2 _ (by rw[z,a1]at e;exact(Option.some.inj e).symm)⟩)]
   exact e)
  refine gq (K:=K) (a:=L) (xs:=r) (Kf c H4 p bits d l) ⟨⟨_,_,_,none,rfl,aa,a6,a1,aq _,aq _,aq _,rfl,fun j k B=>absurd B (cb _),fun x=>⟨by rw[eg.LK];rfl,fun⟨j,_,B,_⟩=>absurd B (cb _)⟩⟩,fB _ _⟩
   (fun i σ H2 _ J=>fb.of (out J.sm bv (fun _ z=>nomatch z) fun _ z=>nomatch z)) ?_ ?_
  ·rintro i x σ H2 hi ⟨⟨kb,ky,ko,o2,rfl,U,Z,ag,l1,l2,l3,v0,vj,vx⟩,sm⟩;obtain⟨k,ad,G⟩:=Paired.KA cp hi;obtain⟨kq,rfl,hq⟩:=id G;have dc:i<r.length:=(af.mp hi).1;have c0:i<64:=by
    rw[Paired.length O,a9.length_eq,ab]at dc
    lia
   have a5:c.bit k=2^i:=by unfold eg.bit;rw[c.KH ad]
   have ah:=out sm hq (fun _ z=>nomatch z) fun _ z=>nomatch z;have N:=out sm co (fun _ z=>nomatch z) fun _ z=>nomatch z;have a8:p≠bits:=fC N U (fun z=>nomatch z);have cs:p≠d:=fC N Z (fun z=>nomatch z);have dl:p≠l:=fC N ag (fun z=>nomatch z);have dd:kq≠bits:=fC ah U (fun z=>nomatch z);have cx:kq≠d:=fC ah Z (fun z=>nomatch z);refine⟨_,rfl,_,rfl,p,dx,_,_,rfl,N,(by kernel_rfl),_,rfl,bits,_,rfl,lD.of (k:=some (jv k)) U ⟨kq,rfl,ah⟩ (eV (by lia)),?_⟩;refine⟨_,rfl,_,rfl,p,dx,_,_,rfl,(by rw[ef a8];exact N),(by kernel_rfl),_,rfl,d,_,rfl,mj.k (k:=Sum.inl ((2^i:Nat):Int)) (by rw[ef b7];exact Z) (eV (by lia)),?_⟩;generalize M:upd (upd H2 bits (.dN (fq kb (some (jv k)) (.int ((2^i:Nat):Int))))) d (.dK (fq ky (Sum.inl ((2^i:Nat):Int)) (.ref kq)))=H3;have ap:H3 l=some (.dK ko):=by rw[←M,ef (Ne.symm a7),ef bm];exact ag
   have b6:H3 p=some (.ins CC dx (zf b bits d l)):=by rw[←M,ef cs,ef a8];exact N
   have bl:H3 kq=some (.tup [.str k.1,.int k.2]):=by rw[←M,ef cx,ef dd];exact ah
   refine⟨_,rfl,p,dx,_,_,rfl,b6,(by kernel_rfl),l,rfl,.inl ⟨_,.inl ap⟩,_,rfl,kq,_,_,_,rfl,rfl,gy.of bl,rfl,_,i7.k (k:=Sum.inr k.1) ap,_,rfl,_,_,(vx k.1).1,rfl,?_⟩;dsimp only;rw[xg];refine⟨_,rfl,p,dx,_,_,rfl,b6,(by kernel_rfl),_,rfl,kq,_,_,_,rfl,rfl,gy.of bl,rfl,l,_,rfl,mj.k (k:=Sum.inr k.1) ap (eV (by lia)),?_⟩;refine⟨_,rfl,_,rfl,_,_,rfl,rfl,?_⟩;have e2:((2^i:Nat):Int)+((2^i:Nat):Int)=((2^(i+1):Nat):Int):=by rw[cS];lia
   dsimp only;rw[e2];refine⟨⟨fq kb (some (jv k)) (.int ((2^i:Nat):Int)),fq ky (Sum.inl ((2^i:Nat):Int)) (.ref kq),fq ko (Sum.inr k.1) (.int ((c.upM i k.1 ||| 2^i:Nat):Int)),_,rfl,?_,?_,d0,?_,?_,?_,?_,fun j k' B m=>?_,fun x=>?_⟩,fun b' u t=>?_⟩
   ·rw[ef (Ne.symm bm),←M,ef (Ne.symm b7),d0]
   ·rw[ef a7,←M,d0]
   ·have:=fQ kb (some (jv k)) (V.int ((2^i:Nat):Int));lia
   ·have:=fQ ky (Sum.inl ((2^i:Nat):Int)) (V.ref kq);lia
   ·have:=fQ ko (Sum.inr k.1) (V.int ((c.upM i k.1 ||| 2^i:Nat):Int));lia
   ·rw[fW,if_neg (fun z=>nomatch z)];exact v0
   ·rw[fW,fW];by_cases ej:j=i
    ·subst ej;rw[ad]at m;cases m;rw[if_pos rfl,a5,if_pos rfl];exact⟨rfl,_,rfl,G⟩
    ·have R:c.bit k'≠2^i:=fun z=>ej (by
      unfold eg.bit at z;rw[c.KH m]at z
      exact CQ (by rw[z]))
     have ch:¬(some (jv k')=some (jv k)):=fun z=>by
      have:=qa (Option.some.inj z);rw[this]at R;exact R a5
     obtain⟨g1,g2⟩:=vj j k' (by lia) m;rw[if_neg ch,if_neg (fun z=>R (by have:=Sum.inl.inj z;lia))];exact⟨g1,g2⟩
   ·rw[fW,eg.LM ad x];by_cases ex:k.1=x
    ·subst ex;rw[if_pos rfl,if_pos rfl,a5];exact⟨rfl,fun _=>rfl⟩
    ·rw[if_neg (fun z=>ex (Sum.inr.inj z).symm),if_neg ex];refine⟨(vx x).1,?_⟩;rintro⟨j,k',B,m,ek⟩;refine(vx x).2 ⟨j,k',?_,m,ek⟩;by_cases ej:j=i
     ·subst ej;rw[ad]at m;cases m;exact absurd ek ex
     ·lia
   ·have Y:b'∉[bits,d,l]:=fun z=>by rw[fL z]at t;cases t
    have I:=Y;simp only[am,aJ,or_false,not_or]at I;rw[ef I.2.2,←M,ef I.2.1,ef I.1];exact sm _ _ t
  ·rintro σ H2 ⟨⟨kb,ky,ko,o2,rfl,U,Z,ag,l1,l2,l3,v0,vj,vx⟩,sm⟩;have b8:eB (del H [bits,d,l]) H2:=fun b' u t=>by
    have Y:b'∉[bits,d,l]:=fun z=>by rw[fL z]at t;cases t
    rw[eD Y]at t;rcases an b' u t with z | ⟨g,o',z⟩
    ·exact .inl (sm _ _ (by rw[eD Y];exact z))
    ·exact .inr ⟨g,o',sm _ _ (by rw[eD Y];exact z)⟩
   have X:∀k∈c.ks,∃j:Nat,j<r.length∧c.ks[j]?=some k:=fun k G=>by
    obtain⟨j,B⟩:=az.mp G;have:=(af.mp B).1;exact⟨j,by rw[←cn];exact this,B⟩
   refine q c H2 c1 c2 b8 ⟨kb,.inl U,fun w hw=>?_⟩ ⟨ky,.inl Z,fun k G=>?_⟩ ⟨ko,.inl ag,fun x=>?_⟩
   ·cases w with
    |none=>exact v0
    |some k=>
     obtain⟨j,B,S⟩:=X k (hw k rfl);exact(vj j k B S).1
   ·obtain⟨j,B,S⟩:=X k G;obtain⟨_,v,g1,g2⟩:=vj j k B S;obtain⟨z,z1,z2⟩:=g2;exact⟨v,g1,z,z1,out sm z2 (fun _ z=>nomatch z) fun _ z=>nomatch z⟩
   ·rw[←eg.LL,cn];exact⟨(vx x).1,fun⟨k,G,ek⟩=>let ⟨j,B,S⟩:=X k G;(vx x).2 ⟨j,k,B,S,ek⟩⟩
end
theorem eg.en (c:eg):(c.es.map eX).Nodup:=c.pm.nodup_iff.mp c.nd
theorem eg.n_eq (c:eg):c.n=c.es.length:=by unfold eg.n;rw[c.pm.length_eq,ab]
theorem jk {st:Addr}{c:eg}(B:gm C H p st c.es)(N:gC H st c.sn):∃dx dn dv,H p=some (.ins C dx (j7 dn dv))∧∀w v,c.Who w→gB H v w→∃a,iy H dn v (some (.ref a))∧gC H a (c.needs w):=by
 obtain⟨dx,dn,dv,h1,h2,h⟩:=B.start;refine⟨dx,dn,dv,h1,fun w v d b=>?_⟩;cases w with
 |none=>cases (show v=.non from b);exact⟨st,h2,N⟩
 |some k=>
  rcases h v k b with ⟨z,_⟩ | ⟨_,e,j,i,a,zs,g,g2,g3⟩
  ·exact absurd ((c.mem k).mp (d k rfl)) z
  ·refine⟨a,g,zs,g2,?_⟩;show Paired (fR H) zs (gO c.es k);rw[←i,lh c.en j];exact g3
theorem l5 (n:Nd):∀l:List Nd,eQ (l++[n])=if n.1∈eQ l then eQ l else eQ l++[n.1]
 |[]=>by simp[eQ]
 |m::l=>by
  rw[cO,eQ,eQ,l5 n l];by_cases h1:n.1∈eQ l
  ·rw[if_pos h1];have:n.1∈m.1::(eQ l).filter fun x=>!decide (x=m.1):=by
    by_cases e:n.1=m.1
    ·rw[e];simp
    ·exact bi _ (aW.mpr ⟨h1,by simpa using e⟩)
   rw[if_pos this]
  ·rw[if_neg h1,ce];by_cases e:n.1=m.1
   ·rw[if_pos (by rw[e];simp)];simp[e]
   ·rw[if_neg]
    ·simp[e]
    ·rw[am,not_or];exact⟨e,fun z=>h1 (aW.mp z).1⟩
theorem li (l:List Nd)(n:Nd)(x:Str)(v:Int):jz (l++[n]) x v=(jz l x v&&(!decide (n.1=x)||lH n v)):=by
 unfold jz;rw[List.all_append];simp
theorem uj {l:List Nd}(h:x∉eQ l)(v:Int):jz l x v=true:=l7.mpr fun n hn e=>absurd (ia.mpr ⟨n,hn,e⟩) h
theorem Dq (x:Str)(lo hi b a v:Int):lH (x,(if b>lo then b else lo),(if a<hi then a else hi)) v=(lH (x,b,a) v&&lH (x,lo,hi) v):=by
 unfold lH;rw[cW];simp only[aD,ax]
 split <;> split <;> lia
inductive uO (CB CC:Addr)(vs:List V)(H:Hp)(Q:VK)(E:XK):Prop
 |mk (p dx b bits st:Addr)(fs:List (Str×V))(wv:V)(c:eg)(w:Option Pk)(_:vs=[.ref p,wv])(_:H p=some (.ins CC dx fs))(_:fs.lookup ("board" : Str)=some (V.ref b))(_:fs.lookup ("bits" : Str)=some (V.ref bits))(_:gm CB H b st c.es)(_:gC H st c.sn)(_:ic H bits c c.KC)(_:c.Who w)(_:gB H wv w)(_:c.n<64)(_:(c.needs w).length≤100)(_:∀d H',eF H H'→H d=none→iV H' d c w→Q (.ref d) H'):uO CB CC vs H Q E
def nw (CB CC:Addr):Sp:=uO CB CC
theorem J4:(["version","self","part"]:List Str).Nodup:=by decide +kernel
theorem Bq (e:eF H H'){y:V}{r:Option V}(h:iy H a y r):iy H' a y r:=by
 obtain⟨kvs,k,h1,h2,g⟩:=h;refine⟨kvs,k,ie e h1,?_,g⟩;cases k with
 |none=>exact h2
 |some ks=>obtain⟨b,d,i⟩:=h2;exact⟨b,d,e _ _ i⟩
theorem Ff (h:(es.map eX).Nodup)(n:Nd):(iM es n).Nodup:=by
 unfold iM;rw[List.nodup_iff_pairwise_ne,cC]at *;refine List.Pairwise.imp_of_mem (fun {a b} ha hb hab z=>?_) (h.filter (iI n));have h1:=(aW.mp ha).2;have h2:=(aW.mp hb).2;unfold iI at h1 h2;simp only[aD,ax]at h1 h2;exact hab (Prod.ext (h1.1.trans h2.1.symm) z)
theorem y6 {c:eg}{w:Option Pk}{lo hi:Int}{ms:List Int}(b:ms.Perm (iM c.es (x,lo,hi)))(j:∀v,lH (x,lo,hi) v=jz (c.needs w) x v):(ms.map fun v=>(c.bit (x,v):Int)).sum=(c.Lq w x:Nat)∧(∀v∈ms,(x,v)∈c.ks):=by
 have i:∀v∈ms,(x,v)∈c.ks:=fun v a=>(c.mem _).mpr (oN.mp (b.subset a)).1;refine⟨?_,i⟩;have o:(ms.map fun v=>((x,v):Pk)).Nodup:=by
  rw[List.nodup_iff_pairwise_ne,cC];exact(b.nodup_iff.mpr (Ff c.en _)).imp fun h z=>h (Prod.mk.inj z).2
 have:=eg.LB (c:=c) (ms.map fun v=>((x,v):Pk)) o (fun k d=>by obtain⟨v,a,rfl⟩:=av.mp d;exact i v a);rw[cF]at this;rw[show(ms.map fun v=>(c.bit (x,v):Int))=ms.map ((fun k=>(c.bit k:Int)) ∘ fun v=>(x,v)) from rfl,this]
 congr 1
 unfold eg.Lq;refine eg.ext (c.KW _) (c.KW _) fun k=>?_;rw[eg.KU,eg.KU,ax,aD,ax];refine and_congr_right fun g=>?_
 constructor
 ·intro h;obtain⟨v,a,rfl⟩:=av.mp h;exact⟨rfl,by rw[←j];exact(oN.mp (b.subset a)).2⟩
 ·rintro⟨h1,h2⟩;obtain⟨l,m⟩:=k;have e:l=x:=h1;subst e;exact av.mpr ⟨m,b.symm.subset (oN.mpr ⟨(c.mem _).mp g,by rw[j];exact h2⟩),rfl⟩
inductive HR (H:Hp)(ns:List Nd)(j:Addr)(i:Nat)(H2:Hp):Prop
 |mk (kj:_)(_:H2 j=some (.dK kj))(_:kj.map (·.1)=(eQ (ns.take i)).map Sum.inr)(_:kj.length≤i)(_:∀x∈eQ (ns.take i),∃q lo hi,eW kj (Sum.inr x)=some (.ref q)∧del H2 [j] q=some (.tup [.str x,.int lo,.int hi])∧∀v,lH (x,lo,hi) v=jz (ns.take i) x v):HR H ns j i H2
structure Kc (H:Hp)(ns:List Nd)(j:Addr)(i:Nat)(H2:Hp):Prop where
 ex:HR H ns j i H2
 sm:eF H H2
section
variable {base:Heap}{f:Addr}
theorem rQ:eM ["self","who","joint","part","low","high","earlier","allowed","versions"] ["self","who"] (eE pK):=jc
theorem vI (F:iQ K "allowed_by" "Chart.allowed_by" pK f fd)(T:TC K mg CC)(a6:TB K mg CB)(MM:Mt P w K mg base CB fh 2 "meeting" ["self","need"] (jY CB)):eZ P w K mg base fh 3 f fd ["self","who"] (nw CB CC):=by
 refine F.ok rQ (fun vs H Q E h=>?_) (fun da A c1 s H vs Q E hr h=>?_)
 ·obtain⟨p,dx,b,bits,st,fs,wv,c,w,rfl,_⟩:=h;rfl
 obtain⟨p,dx,b,bits,st,fs,wv,c,w,rfl,hp,b2,cx,hB,hN,cp,hw,ct,cs,dd,q⟩:=h;have hu:=gR hr;refine⟨_,(ee (eJ (i:=2) rQ.nd rfl (Or.inl rfl) il) (ee (fZ PassesOwn.never rfl (fO (fc hu (eG a6.cl a6.nN (eG T.cl T.nBoard (pv 0))) (pv 1) (fun _ _=>rfl))) (nF rfl (gz (eN (i:=3) rQ.nd rfl (Or.inr rfl)) (gz (eN (i:=4) rQ.nd rfl (Or.inl rfl)) (gz (eN (i:=5) rQ.nd rfl (Or.inl rfl)) lF)))) (ee (eJ (i:=6) rQ.nd rfl (Or.inl rfl) (j3 hu (pv 2) (pv 3) (gT (dZ (pv 3) (dZ (pv 4) (dZ (pv 5) el)))) ⟨rfl,rfl,rfl,rfl⟩)) (eo (ja hu (pv 2) (pv 3) (gT (dZ (pv 3) (dZ (eR (yW rfl) rfl T.max boot_max (dZ (pv 4) (dZ (eK eP (pv 6) et (fun _ _=>rfl)) el))) (dZ (eR (yV rfl) rfl T.min boot_min (dZ (pv 5) (dZ (eK eP (pv 6) et (fun _ _=>rfl)) el))) el)))) rfl)))) (ee (eJ (i:=7) rQ.nd rfl (Or.inl rfl) il) (ee (fZ PassesOwn.never rfl (EZ (pv 2)) (eN (i:=3) rQ.nd rfl (Or.inr rfl)) (ee (eJ (i:=8) rQ.nd rfl (Or.inl rfl) (ib MM hr eT (eG T.cl T.nBoard (pv 0)) (dZ (gU hu (pv 2) (pv 3) (fun _ _=>rfl)) el))) (eo (ja hu (pv 7) (pv 3) (eR (yU rfl) rfl T.sum boot_sum (dZ (iH (N':=["version","self","part"]) (n:=1) (js:=[0,3]) rfl (iO.two (c:=s.heap.objs.size+1) (c':=s.heap.objs.size+2) (y:="self") (y':="part") rfl rfl rfl (by decide +kernel) (by decide +kernel) rfl (by decide +kernel) (by decide +kernel) rfl rfl rfl rfl rfl rfl rfl rfl rfl) (iq (by decide)) (fO (pv 8)) (fun C s2 H2 fp=>eN (i:=0) J4 rfl (Or.inl rfl)) (fun C s2 H2 fp=>jI) (fun C s2 H2 fp=>fc hu (eG T.cl T.nBits (pv 1)) (gT (dZ (pv 2) (dZ (pv 0) el))) (fun _ _=>rfl))) el)) rfl)))) (eo (eL (Ai (pv 7)))))))),?_⟩;intro j hj;have s0:=eA hj (.dK []);obtain⟨bx,dn,dv,b5,cn⟩:=jk hB hN;obtain⟨na,b7,zs,hz,b3⟩:=cn w wv hw ct;refine⟨_,rfl,p,dx,_,_,rfl,s0 _ _ hp,b2,b,bx,_,_,rfl,s0 _ _ b5,gJ _ _,_,rfl,dn,_,rfl,Bq s0 b7,na,rfl,⟨_,fb.of (s0 _ _ hz)⟩,?_⟩;have lz:=Paired.length b3;refine gq (K:=K) (a:=na) (xs:=zs) (fun i σ H2=>∃o3 o4 o5 o6,σ=[some (.ref p),some wv,some (.ref j),o3,o4,o5,o6,none,none]∧Kc H (c.needs w) j i H2)
  ⟨none,none,none,none,rfl,⟨[],d0,rfl,aq _,fun x G=>nomatch G⟩,s0⟩ ((by rintro i σ H2 _ ⟨_,_,_,_,_,J⟩;exact fb.of (J.sm _ _ hz))) ?_ ?_
 ·rintro i x σ H2 hi ⟨o3,o4,o5,o6,rfl,⟨L,R,d,a4,B⟩,sm⟩;obtain⟨n,bl,hn⟩:=Paired.KA b3 hi;obtain⟨nq,rfl,c6⟩:=hn;obtain⟨x,N,r⟩:=n;have ht:(c.needs w).take (i+1)=(c.needs w).take i++[(x,N,r)]:=by rw[bg,bl];rfl
  have c5:i<100:=by have:=(af.mp bl).1;lia
  refine⟨nq,_,rfl,gy.of (sm _ _ c6),rfl,_,_,rfl,_,_,rfl,_,_,rfl,rfl,?_⟩;refine⟨_,rfl,j,rfl,.inl ⟨_,.inl R⟩,_,rfl,_,rfl,_,rfl,_,rfl,(by show 3≤sizeLine;decide),fun t ap=>?_⟩;have st:=eA ap (.tup [.str x,.int N,.int r]);have dc:j≠t:=er R ap;generalize b6:upd H2 t (.tup [.str x,.int N,.int r])=H3 at *;have a0:H3 j=some (.dK L):=st _ _ R;have old:∃q' M g,(eW L (Sum.inr x)).getD (.ref t)=.ref q'∧H3 q'=some (.tup [.str x,.int M,.int g])∧∀v,(lH (x,M,g) v&&lH (x,N,r) v)=jz ((c.needs w).take (i+1)) x v:=by
   by_cases G:x∈eQ ((c.needs w).take i)
   ·obtain⟨q',M,g,g1,g2,g3⟩:=B x G;have b9:q'≠j:=fun z=>by rw[z,fL (by simp)]at g2;cases g2
    refine⟨q',M,g,by rw[g1];rfl,st _ _ (by rw[eD (by simpa using b9)]at g2;exact g2),fun v=>?_⟩;rw[ht,li,g3,ao rfl];rfl
   ·have hv:eW L (Sum.inr x)=none:=by
     cases hq:eW L (Sum.inr x) with
     |none=>rfl
     |some u=>
      have:=iG hq;rw[d]at this;obtain⟨y,I,e⟩:=av.mp this;rw[Sum.inr.inj e]at I;exact absurd I G
    refine⟨t,N,r,by rw[hv];rfl,by rw[←b6];exact d0,fun v=>?_⟩;rw[ht,li,uj G,ao rfl,Bool.and_self];rfl
  obtain⟨q',M,g,g1,g2,g3⟩:=old;refine⟨_,i7.k (k:=Sum.inr x) a0,?_⟩;rw[g1];refine⟨_,rfl,_,rfl,_,rfl,q',_,_,_,rfl,rfl,gy.of g2,rfl,_,_,rfl,_,rfl,_,rfl,q',_,_,_,rfl,rfl,gy.of g2,rfl,_,_,rfl,(by show 3≤sizeLine;decide),fun t2 bq=>?_⟩;have a2:=eA bq (.tup [.str x,.int (if M>N then M else N),.int (if g<r then g else r)]);have bd:j≠t2:=er a0 bq;refine⟨_,rfl,_,rfl,j,_,rfl,mj.k (k:=Sum.inr x) (a2 _ _ a0) (eV (by lia)),?_⟩;refine⟨_,_,_,_,rfl,⟨fq L (Sum.inr x) (.ref t2),d0,?_,?_,fun y I=>?_⟩,eF.upd (sm.trans (st.trans a2)) hj⟩
  ·rw[ht,l5];by_cases G:x∈eQ ((c.needs w).take i)
   ·rw[if_pos G];obtain⟨_,_,_,z,_⟩:=B x G;rw[mO (by rw[z];rfl)];exact d
   ·have hv:eW L (Sum.inr x)=none:=by
     cases hq:eW L (Sum.inr x) with
     |none=>rfl
     |some u=>
      have:=iG hq;rw[d]at this;obtain⟨y,I,e⟩:=av.mp this;rw[Sum.inr.inj e]at I;exact absurd I G
    rw[if_neg G,hZ _ hv,ay,d,ay];rfl
  ·have:=fQ L (Sum.inr x) (V.ref t2);lia
  ·rw[fW,qd (by simp)];by_cases ey:y=x
   ·subst ey;rw[if_pos rfl];refine⟨t2,_,_,rfl,by rw[eD (by simpa using Ne.symm bd)];exact d0,fun v=>?_⟩;rw[←g3];exact Dq _ _ _ _ _ v
   ·rw[if_neg (fun z=>ey (Sum.inr.inj z))];have c4:y∈eQ ((c.needs w).take i):=by
     rw[ht,l5]at I;by_cases G:x∈eQ ((c.needs w).take i)
     ·rw[if_pos G]at I;exact I
     ·rw[if_neg G]at I;exact(aB.mp I).elim id fun z=>absurd (ai.mp z) ey
    obtain⟨q0,cv,ad,f1,f2,f3⟩:=B y c4;have aa:q0≠j:=fun z=>by rw[z,fL (by simp)]at f2;cases f2
    rw[eD (by simpa using aa)]at f2;refine⟨q0,cv,ad,f1,by rw[eD (by simpa using aa)];exact a2 _ _ (st _ _ f2),fun v=>?_⟩;rw[f3,ht,li,au (fun z=>ey z.symm)];simp
 ·rintro σ H2 ⟨o3,o4,o5,o6,rfl,⟨L,R,d,a4,B⟩,sm⟩;rw[lz,aH]at d B;intro O ah;have Y:j≠O:=er R ah;have a1:=eA ah (.dK []);have a3:=sm.trans a1;have U:H O=none:=sm.free ah;refine⟨_,rfl,j,L,rfl,.inl (a1 _ _ R),fun o H4 sf a7 a9=>?_⟩;have h4:∀a,a≠j→H4 a=upd H2 O (.dK []) a:=a7;have s4:eF H H4:=fun a u e=>by
   rw[h4 a (fun z=>by rw[z,hj]at e;cases e)];exact a3 _ _ e
  have ba:H4 O=some (.dK []):=by rw[h4 O (Ne.symm Y)];exact d0
  have c3:L.length=(eQ (c.needs w)).length:=by
   have:=congrArg List.length d;rw[ab,ab]at this;exact this
  refine tw (kvs:=L) (fun i σ H5=>∃S o3 o4 o5 o6 o8,σ=[some (.ref p),some wv,some (.ref j),o3,o4,o5,o6,some (.ref O),o8]∧H5 O=some (.dK S)∧eF (del H4 [O]) H5∧S.map (·.1)=((eQ (c.needs w)).take i).map Sum.inr∧S.length≤i∧∀x∈(eQ (c.needs w)).take i,eW S (Sum.inr x)=some (.int (c.Lq w x)))
   ⟨[],_,_,_,_,none,rfl,ba,fB _ _,rfl,aq _,fun x G=>by simp at G⟩ ((by rintro i σ H5 _ ⟨_,_,_,_,_,_,_,_,e,_⟩;exact e _ _ (by rw[eD (by simpa using Y)];exact a9))) ?_ ?_
  ·rintro i kv σ H5 hi ⟨S,o3,o4,o5,o6,o8,rfl,Z,s5,X,cy,an⟩;have b1:(L.map (·.1))[i]?=some kv.1:=by rw[ae,hi];rfl
   rw[d,ae]at b1;obtain⟨x,G,ex⟩:=aw.mp b1;rw[←ex];have co:=ak G;obtain⟨q0,lo,ad,g1,g2,g3⟩:=B x co;have aa:q0≠j:=fun z=>by rw[z,fL (by simp)]at g2;cases g2
   rw[eD (by simpa using aa)]at g2;have c5:i<100:=by
    have h1:=(af.mp hi).1;have h2:L.length≤(c.needs w).length:=by rw[←lz]at *;lia
    lia
   have ag:eF H H5:=fun a u e=>s5 _ _ (by rw[eD (by simpa using fun z=>by rw[z,U]at e;cases e)];exact s4 _ _ e)
   have cd:H5 q0=some (.tup [.str x,.int lo,.int ad]):=s5 _ _ (by
    have:q0≠O:=er g2 ah;rw[eD (by simpa using this),h4 q0 aa]
    exact a1 _ _ g2)
   have b8:H5 j=some (.frz o (.dK L)):=s5 _ _ (by rw[eD (by simpa using Y)];exact a9);refine⟨_,rfl,p,dx,_,_,rfl,ag _ _ hp,b2,b,bx,_,rfl,ag _ _ b5,qg _ _ (by decide +kernel) (by decide +kernel),_,rfl,_,rfl,j,_,rfl,.inl ⟨L,Sum.inr x,.inr ⟨o,b8⟩,rfl,g1.symm⟩,b,st,c.es,_,(x,lo,ad),rfl,hB.same ag,⟨q0,rfl,cd⟩,by rw[←c.n_eq];exact cs,fun l ms H6 s6 hl bm a5 c9=>?_⟩;obtain⟨as,cz⟩:=y6 (c:=c) (w:=w) a5 g3;have c8:ms.length<64:=by
    rw[a5.length_eq];have:=ju c.es (x,lo,ad);rw[←c.n_eq]at this
    lia
   refine⟨_,rfl,l,rfl,⟨_,fb.of bm⟩,?_⟩;have c0:=ag.trans s6;refine ir (xs:=ms.map V.int) (fun D i ys H7=>ys=((ms.take i).map fun v=>V.int (c.bit (x,v)))∧H7 D=some (.lst ys)∧eF H6 H7∧H6 D=none) (fun D hD=>⟨by simp,d0,eA hD _,hD⟩)
    (fun D i ys H7 hi ⟨e1,e2,e3,_⟩=>⟨fb.of (e3 _ _ bm),e2,?_⟩) (fun D i y ys H7 hi ⟨e1,e2,e3,e4⟩=>?_) (fun D ys H7 ⟨e1,e2,e3,e4⟩=>?_)
   ·rw[e1,ab,aS];exact eV (by lia)
   ·rw[ae]at hi;obtain⟨z,bf,rfl⟩:=aw.mp hi;unfold jq rj;dsimp only;rw[if_pos rfl];have bv:=c0.trans e3;refine⟨_,rfl,p,dx,_,_,rfl,bv _ _ hp,cx,_,rfl,_,rfl,(by show 2≤sizeLine;decide),fun t ap=>?_⟩;have s8:=eA ap (.tup [.str x,.int z]);refine⟨bits,_,rfl,(cp.same (bv.trans s8)).get (w:=some (x,z)) (fun k e=>by cases e;exact cz z (ak bf)) ⟨t,rfl,d0⟩,s8 _ _ e2,?_,d0,eF.upd (e3.trans s8) e4,e4⟩;rw[e1,bg,bf,ay];rfl
   ·rw[ab,aH]at e1;subst e1;have a8:(ms.map fun v=>V.int (c.bit (x,v)))=(ms.map fun v=>(c.bit (x,v):Int)).map V.int:=by rw[cF];rfl
    rw[a8]at e2;have c7:c.Lq w x<2^63:=aY (c.KW _) (Nat.pow_le_pow_right (by decide) (by lia));refine⟨D,_,rfl,fb.of e2,fun m hm=>?_,by rw[as];lia,?_⟩
    ·rw[bb,ae]
     cases ms[m]? with
     |none=>exact Int.le_refl _
     |some v=>show(0:Int)≤(c.bit (x,v):Nat);lia
    rw[as];have b4:H7 O=some (.dK S):=e3 _ _ (s6 _ _ Z);refine⟨_,rfl,_,rfl,O,_,rfl,mj.k (k:=Sum.inr x) b4 (eV (by lia)),?_⟩;have ch:x∉(eQ (c.needs w)).take i:=fun z=>by
     obtain⟨i',g⟩:=az.mp z;rw[cc]at g
     split at g
     ·next hlt2=>
      have:=(cj (af.mp g).1 (jh (c.needs w))).mp (g.trans G.symm)
      lia
     ·cases g
    have c2:eW S (Sum.inr x)=none:=by
     cases hq:eW S (Sum.inr x) with
     |none=>rfl
     |some u=>
      have:=iG hq;rw[X]at this;obtain⟨y,I,e⟩:=av.mp this;rw[Sum.inr.inj e]at I;exact absurd I ch
    have ht:(eQ (c.needs w)).take (i+1)=(eQ (c.needs w)).take i++[x]:=by rw[bg,G];rfl
    refine⟨_,_,_,_,_,_,rfl,d0,fun a u e=>?_,?_,?_,fun y I=>?_⟩
    ·have na:a≠O:=fun z=>by rw[z,fL (by simp)]at e;cases e
     rw[ef na];exact e3 _ _ (s6 _ _ (s5 _ _ e))
    ·rw[hZ _ c2,ay,X,ht,ay];rfl
    ·have:=fQ S (Sum.inr x) (V.int ((c.Lq w x:Nat):Int));lia
    ·rw[fW];by_cases ey:y=x
     ·subst ey;rw[if_pos rfl]
     ·rw[if_neg (fun z=>ey (Sum.inr.inj z))];rw[ht]at I;exact an y ((aB.mp I).elim id fun z=>absurd (ai.mp z) ey)
  ·rintro σ H5 ⟨S,o3,o4,o5,o6,o8,rfl,Z,s5,X,cy,an⟩;rw[c3,aH]at X an;refine⟨_,rfl,O,_,rfl,Z,trivial,fun o'=>q O _ (fun a u e=>?_) U ⟨o',S,d0,X,an⟩⟩;have na:a≠O:=fun z=>by rw[z,U]at e;cases e
   rw[ef na];exact s5 _ _ (by rw[eD (by simpa using na)];exact s4 _ _ e)
end
inductive uI (CC:Addr)(vs:List V)(H:Hp)(Q:VK)(E:XK):Prop
 |mk (p dx al ofp d:Addr)(fs:List (Str×V))(wv:V)(c:eg)(w:Option Pk)(_:vs=[.ref p,wv])(_:H p=some (.ins CC dx fs))(_:fs.lookup ("allowed" : Str)=some (V.ref al))(_:fs.lookup ("of_part" : Str)=some (V.ref ofp))(_:iy H al wv (some (.ref d)))(_:iV H d c w)(_:lO H ofp c)(_:Q (.int (c.Lr w)) H):uI CC vs H Q E
def ni (CC:Addr):Sp:=uI CC
def eg.LN (c:eg)(w:Option Pk)(ps:List Str):Nat:=c.maskOf fun k=>decide (k.1∈ps)&&!jz (c.needs w) k.1 k.2
theorem eg.LO (c:eg)(w:Option Pk):c.LN w []=0:=eg.KP (c.KW _) fun k h=>by
 have:=(eg.KU.mp h).2;simp at this
theorem eg.LP (c:eg)(w:Option Pk)(ps:List Str)(x:Str):c.LN w (ps++[x])=c.LN w ps ||| ig (c.Lp x) (c.Lq w x):=by
 refine eg.ext (c.KW _) (ji (c.KW _) (jB (c.KW _))) fun k=>?_;rw[eg.KJ,eg.KL,eg.Lu];unfold eg.LN eg.Lq;simp only[eg.KU,aD,ax,aB,ai,bQ]
 constructor
 ·rintro⟨h1,h2 | h2,a⟩
  ·exact .inl ⟨h1,h2,a⟩
  ·exact .inr ⟨⟨h1,h2⟩,fun z=>by rw[h2,z.2.2]at a;cases a⟩
 ·rintro(⟨h1,h2,a⟩ | ⟨⟨h1,h2⟩,a⟩)
  ·exact⟨h1,.inl h2,a⟩
  ·refine⟨h1,.inr h2,bV.mpr fun z=>a ⟨h1,h2,?_⟩⟩;rw[←h2];exact z
theorem eg.LQ (c:eg)(w:Option Pk):c.LN w (eQ (c.needs w))=c.Lr w:=by
 refine eg.ext (c.KW _) (c.KW _) fun k=>?_;unfold eg.LN;rw[eg.Lv,eg.KU,aD,ax,bQ,ia];unfold eg.KY
 constructor
 ·rintro⟨h1,_,b⟩;refine⟨h1,Decidable.byContradiction fun z=>?_⟩;rw[bV]at b;refine b (l7.mpr fun n a e=>Decidable.byContradiction fun y=>z ⟨n,a,?_⟩);unfold qm;rw[ao e.symm,bV.mpr y];rfl
 ·rintro⟨h1,n,a,h2⟩;unfold qm at h2;rw[aD,ax,bQ]at h2;refine⟨h1,⟨n,a,h2.1.symm⟩,bV.mpr fun z=>?_⟩;rw[l7.mp z n a h2.1.symm]at h2;cases h2.2
section
variable {base:Heap}{f:Addr}
theorem CA:eM ["self","who","mask","part"] ["self","who"] (eE pD):=jc
theorem vC (F:iQ K "shut_out_by" "Chart.shut_out_by" pD f fd)(T:TC K mg CC):eZ P w K mg base fh 1 f fd ["self","who"] (ni CC):=by
 refine F.ok CA (fun vs H Q E h=>?_) (fun R A y s H vs Q E S h=>?_)
 ·obtain⟨p,dx,C,g,d,fs,M,c,w,rfl,_⟩:=h;rfl
 obtain⟨p,dx,C,g,d,fs,M,c,w,rfl,hp,j,z,G,J,I,q⟩:=h;have t:=gR S;refine⟨_,(ee (eJ (i:=2) CA.nd rfl (Or.inl rfl) et) (ee (fZ PassesOwn.never rfl (Ac (fc t (eG T.cl T.nAl (pv 0)) (pv 1) (fun _ _=>rfl))) (eN (i:=3) CA.nd rfl (Or.inl rfl)) (eo (ki (i:=2) CA.nd rfl (Or.inl rfl) (fm hJ (j3 t (eG T.cl T.nOf (pv 0)) (pv 3) et ⟨rfl,rfl,rfl,rfl⟩) (iX kM (gU t (fc t (eG T.cl T.nAl (pv 0)) (pv 1) (fun _ _=>rfl)) (pv 3) (fun _ _=>rfl)))) ul))) (eo (eL (pv 2))))),?_⟩;obtain⟨o,a,b,m,N⟩:=id J;have U:a.length=(eQ (c.needs w)).length:=by
  have:=congrArg List.length m;rw[ab,ab]at this;exact this
 refine⟨_,rfl,p,dx,_,_,rfl,hp,j,_,rfl,C,_,rfl,G,d,o,a,rfl,b,?_⟩;refine tw (kvs:=a) (fun i σ H2=>∃B,σ=[some (.ref p),some M,some (.int ((c.LN w ((eQ (c.needs w)).take i):Nat):Int)),B]∧H2=H) ⟨none,by rw[dg,eg.LO];rfl,rfl⟩ (fun i σ H2 _ ⟨_,_,e⟩=>by rw[e];exact b) ?_ ?_
 ·rintro i X σ H2 hi ⟨B,rfl,rfl⟩;have l:(a.map (·.1))[i]?=some X.1:=by rw[ae,hi];rfl
  rw[m,ae]at l;obtain⟨x,L,ex⟩:=aw.mp l;rw[←ex];obtain⟨r,D,v⟩:=I.get x;have O:(eQ (c.needs w)).take (i+1)=(eQ (c.needs w)).take i++[x]:=by rw[bg,L];rfl
  refine⟨_,rfl,_,rfl,p,dx,_,_,rfl,hp,z,g,rfl,I.isD,_,rfl,r,D,?_⟩;rw[v];refine⟨_,rfl,p,dx,_,_,rfl,hp,j,_,rfl,C,_,rfl,G,_,rfl,d,_,rfl,J.get (ak L),_,rfl,_,_,rfl,rfl,_,_,rfl,rfl,?_⟩;refine⟨some (.str x),?_,rfl⟩;rw[qw,xg,O,eg.LP];rfl
 ·rintro σ H2 ⟨B,rfl,rfl⟩;rw[U,aH,eg.LQ];exact⟨_,rfl,q⟩
end
inductive xt (CC:Addr)(vs:List V)(H:Hp)(Q:VK)(E:XK):Prop
 |mk (p dx b bits by_ ofp al sh fo:Addr)(c:eg)(ksh kfo:List (fM×V))(_:vs=[.ref p])(_:H p=some (.ins CC dx (FP b bits by_ ofp al sh fo)))(_:ic H bits c c.KC)(_:oF H by_ c)(_:c.n<64)(_:bits≠fo)(_:sh≠fo)(_:H sh=some (.dN ksh))(_:(∀kv∈ksh,∃w,c.Who w∧kv.1=fw w))(_:(∀w,c.Who w→eW ksh (fw w)=some (.int (c.Lr w))))(_:H fo=some (.dN kfo))(_:kfo.length≤64)(_:(∀kv∈kfo,∃w,c.Who w∧kv.1=fw w))(_:(∀w,c.Who w→eW kfo (fw w)=some (.int (c.Lr w))))(_:∀H',eB (del H [fo]) H'→j8 H' fo c c.Ls→Q .non H'):xt CC vs H Q E
def pe (CC:Addr):Sp:=xt CC
def eg.LR (c:eg)(vs:List (Option Pk)):Option Pk→Nat
 |none=>c.Lr none
 |some k=>c.maskOf fun j=>c.Lm (some k) j||(decide (some j∈vs)&&c.Lm (some j) k)
theorem eg.LS (c:eg)(w:Option Pk):c.LR [] w=c.Lr w:=by
 cases w with
 |none=>rfl
 |some k=>
  refine eg.ext (c.KW _) (c.KW _) fun j=>?_;show c.has (c.maskOf _) j↔c.has (c.maskOf _) j;rw[eg.KU,eg.KU];simp
theorem eg.LT (c:eg)(vs:List (Option Pk))(w:Option Pk):c.LR vs w<2^c.n:=by
 cases w <;> exact c.KW _
theorem eg.LU (c:eg){vs:List (Option Pk)}(h:∀k∈c.ks,some k∈vs)(w:Option Pk):c.LR vs w=c.Ls w:=by
 cases w with
 |none=>rfl
 |some k=>
  refine eg.ext (c.KW _) (c.KW _) fun j=>?_;show c.has (c.maskOf _) j↔c.has (c.maskOf _) j;rw[eg.KU,eg.KU];refine and_congr_right fun a=>?_;rw[ao (h j a),cA]
def eg.LV (c:eg)(vs:List (Option Pk))(v:Option Pk)(ps:List Pk):Option Pk→Nat
 |none=>c.Lr none
 |some k=>if k∈ps then c.LR vs (some k) ||| c.KC v else c.LR vs (some k)
theorem eg.LW (c:eg)(vs:List (Option Pk))(v w:Option Pk):c.LV vs v [] w=c.LR vs w:=by
 cases w with
 |none=>rfl
 |some k=>
  show(if k∈([]:List Pk) then c.LR vs (some k) ||| c.KC v else c.LR vs (some k))=_;rw[if_neg (fun z=>nomatch z)]
theorem eg.LX (c:eg)(vs:List (Option Pk)){v w:Option Pk}(b:c.Who v)(e:c.Who w):c.LV vs v (c.listed (c.Lr v)) w=c.LR (vs++[v]) w:=by
 cases w with
 |none=>rfl
 |some k=>
  have g:=e k rfl;show(if k∈c.listed (c.Lr v) then c.LR vs (some k) ||| c.KC v else c.LR vs (some k))=_;have d:k∈c.listed (c.Lr v)↔c.KY v k:=by rw[eg.KI,eg.Lv];exact⟨fun z=>z.2,fun z=>⟨g,z⟩⟩
  refine eg.ext ?_ (c.KW _) fun j=>?_
  ·split
   ·exact ji (c.LT _ _) (eg.Lz b)
   ·exact c.LT _ _
  ·have key:c.has (c.LR (vs++[v]) (some k)) j↔c.has (c.LR vs (some k)) j∨(j∈c.ks∧v=some j∧c.KY v k):=by
    unfold eg.LR;simp only[eg.KU,cV,aD,ax,aB,ai,eg.Lo]
    constructor
    ·rintro⟨h1,h2 | ⟨h2 | h2,a⟩⟩
     ·exact .inl ⟨h1,.inl h2⟩
     ·exact .inl ⟨h1,.inr ⟨h2,a⟩⟩
     ·exact .inr ⟨h1,h2.symm,h2▸a⟩
    ·rintro(⟨h1,h2 | ⟨h2,a⟩⟩ | ⟨h1,h2,a⟩)
     ·exact⟨h1,.inl h2⟩
     ·exact⟨h1,.inr ⟨.inl h2,a⟩⟩
     ·exact⟨h1,.inr ⟨.inr h2.symm,h2▸a⟩⟩
   rw[key];by_cases hs:c.KY v k
   ·rw[if_pos (d.mpr hs),eg.KJ,eg.LA b];refine or_congr_right ?_;exact⟨fun z=>⟨b j z,z,hs⟩,fun z=>z.2.1⟩
   ·rw[if_neg (fun z=>hs (d.mp z))];exact⟨.inl,fun z=>z.elim id fun y=>absurd y.2.2 hs⟩
theorem rh {c:eg}:∀{ksh:List (fM×V)},(∀kv∈ksh,∃w,c.Who w∧kv.1=fw w)→∃ws:List (Option Pk),ksh.map (·.1)=ws.map fw∧∀w∈ws,c.Who w
 |[],_=>⟨[],rfl,fun w hw=>nomatch hw⟩
 |kv::ksh,h=>by
  obtain⟨ws,e1,e2⟩:=rh (c:=c) (ksh:=ksh) fun x hx=>h x (by simp[hx]);obtain⟨w,h1,h2⟩:=h kv (by simp);refine⟨w::ws,by rw[aE,aE,e1,h2],fun x hx=>?_⟩;rcases am.mp hx with rfl | hx
  ·exact h1
  ·exact e2 x hx
theorem gr {c:eg}{k:Pk}(h:k∈c.ks):c.Who (some k):=fun j e=>by cases e;exact h
theorem je {c:eg}:c.Who none:=fun j e=>nomatch e
section
variable {base:Heap}{f:Addr}
theorem EL:eM ["self","who","pick"] ["self"] (eE r6):=jc
theorem yl (F:iQ K "make_foes_mutual" "Chart.make_foes_mutual" r6 f fd)(T:TC K mg CC)(ML:Mt P w K mg base CC fh 1 "listed" ["self","mask"] (jg CC)):eZ P w K mg base fh 2 f fd ["self"] (pe CC):=by
 refine F.ok EL (fun vs H Q E h=>?_) (fun cz A cs s H vs Q E hr h=>?_)
 ·obtain⟨p,dx,b,bits,J,a5,al,sh,m,c,G,M,rfl,_⟩:=h;rfl
 obtain⟨p,dx,b,bits,J,a5,al,sh,m,c,G,M,rfl,hp,b6,cn,b7,an,cv,cy,co,ap,b2,b4,ch,cp,q⟩:=h;have hu:=gR hr;refine⟨_,(eo (fZ PassesOwn.never rfl (sE (eG T.cl T.nSh (pv 0))) (eN (i:=1) EL.nd rfl (Or.inl rfl)) (eo (fZ PassesOwn.never rfl (fO (ib ML hr eT (pv 0) (dZ (fc hu (eG T.cl T.nSh (pv 0)) (pv 1) (fun _ _=>rfl)) el))) (eN (i:=2) EL.nd rfl (Or.inl rfl)) (eo (zZ hu (eG T.cl T.nFo (pv 0)) (pv 2) (fc hu (eG T.cl T.nBits (pv 0)) (pv 1) (fun _ _=>rfl)) Bd (fun _ _ _=>rfl))))))),?_⟩;obtain⟨O,Z,bm⟩:=rh co;refine⟨_,rfl,p,dx,_,_,rfl,hp,(by kernel_rfl),sh,G,rfl,.inl cy,fun o H1 sf a2 a4=>?_⟩;have L:H1 m=some (.dN M):=by rw[a2 m (Ne.symm cv)];exact b2
 have a0:H1 p=some (.ins CC dx (FP b bits J a5 al sh m)):=sf.ins hp
 have keep:∀{H2:Hp},eF (del H1 [m]) H2→∀{a u},H1 a=some u→(∀kvs,u≠.dN kvs)→H2 a=some u:=fun {H2} t {a u} e n1=>t _ _ (by
   rw[eD (by simpa using fun z:a=m=>n1 _ (by rw[z,L]at e;exact(Option.some.inj e).symm))]
   exact e)
 have b3:∀{H2:Hp},eF (del H1 [m]) H2→ic H2 bits c c.KC:=fun {H2} t=>by
  obtain⟨kvs,g1,g2⟩:=b6.f sf;refine⟨kvs,ie t ?_,g2⟩;exact g1.imp (fun z=>by rw[eD (by simpa using an)];exact z) (by rintro⟨o',z⟩;exact⟨o',by rw[eD (by simpa using an)];exact z⟩)
 have bv:∀{H2:Hp},eF (del H1 [m]) H2→oF H2 J c:=fun {H2} t=>by
  obtain⟨kvs,g1,g2⟩:=cn.f sf;have nb:J≠m:=fun z=>by
   rw[z]at g1;rcases g1 with y | ⟨o',y⟩ <;> (rw[L]at y;cases y)
  refine⟨kvs,ie t (g1.imp (fun z=>by rw[eD (by simpa using nb)];exact z) (by rintro⟨o',z⟩;exact⟨o',by rw[eD (by simpa using nb)];exact z⟩)),fun k hk=>?_⟩;obtain⟨v,y1,y2,y3,y4⟩:=g2 k hk;exact⟨v,y1,y2,y3,keep t y4 fun _ z=>nomatch z⟩
 refine vY (kvs:=G) (fun i σ H2=>∃kf o1 o2,σ=[some (.ref p),o1,o2]∧H2 m=some (.dN kf)∧(kf.length≤64∧kf.map (·.1)=M.map (·.1))∧(∀w,c.Who w→eW kf (fw w)=some (.int (c.LR (O.take i) w)))∧eF (del H1 [m]) H2)
  ⟨M,none,none,rfl,L,⟨b4,rfl⟩,fun w hw=>by rw[dg,eg.LS];exact cp w hw,fB _ _⟩ ((by rintro i σ H2 _ ⟨_,_,_,_,_,_,_,t⟩;exact keep t a4 fun _ z=>nomatch z)) ?_ ?_
 ·rintro i kv x σ H2 hi kx ⟨kf,o1,o2,rfl,D,ah,R,t⟩;have a8:(G.map (·.1))[i]?=some kv.1:=by rw[ae,hi];rfl
  rw[Z,ae]at a8;obtain⟨v,hv,ev⟩:=aw.mp a8;rw[←ev]at kx;have a1:=gB.of kx;have ad:=bm v (ak hv);have ht:O.take (i+1)=O.take i++[v]:=by rw[bg,hv];rfl
  have aa:=keep t a0 fun _ z=>nomatch z;have cx:=keep t a4 fun _ z=>nomatch z;refine⟨_,rfl,p,dx,_,rfl,aa,(by kernel_rfl),_,rfl,p,dx,_,_,rfl,aa,(by kernel_rfl),_,rfl,sh,_,rfl,⟨G,fw v,.inr ⟨o,cx⟩,kx,(ap v ad).symm⟩,H2,p,dx,J,_,c,_,rfl,eB.refl _,aa,(by kernel_rfl),bv t,b7,c.KW _,fun l xs H3 s3 hl bf a7 ct=>?_⟩;refine⟨l,rfl,⟨_,fb.of bf⟩,?_⟩;have b5:l≠m:=Ne.symm (er D hl);refine gq (K:=K) (a:=l) (xs:=xs) (fun j σ X=>∃g o2,σ=[some (.ref p),some x,o2]∧X m=some (.dN g)∧(g.length≤64∧g.map (·.1)=M.map (·.1))∧(∀w,c.Who w→eW g (fw w)=some (.int (c.LV (O.take i) v ((c.listed (c.Lr v)).take j) w)))∧eF (del H3 [m]) X)
   ⟨kf,_,rfl,s3 _ _ D,ah,fun w hw=>by rw[dg,eg.LW];exact R w hw,fB _ _⟩ ((by rintro j σ X _ ⟨_,_,_,_,_,_,r⟩;exact fb.of (r _ _ (by rw[eD (by simpa using b5)];exact bf)))) ?_ ?_
  ·rintro j y σ X hj ⟨g,b8,rfl,S,B,d,r⟩;obtain⟨k,Y,hk⟩:=Paired.KA a7 hj;have b1:=ak Y;have N:k∈c.ks:=(eg.KI.mp b1).1;have ba:eF (del H1 [m]) X:=fun a u e=>by
    have U:a≠m:=fun z=>by rw[z,fL (by simp)]at e;cases e
    refine r _ _ ?_;rw[eD (by simpa using U)];exact s3 _ _ (t _ _ e)
   have as:=keep ba a0 fun _ z=>nomatch z;obtain⟨kq,rfl,ag⟩:=id hk;have b9:kq≠m:=fun z=>by rw[z,D]at ag;cases ag
   have bd:gB X (.ref kq) (some k):=⟨kq,rfl,r _ _ (by rw[eD (by simpa using b9)];exact s3 _ _ ag)⟩;have bq:gB X x v:=by
    cases v with
    |none=>exact a1
    |some kk=>
     obtain⟨q0,e1,e2⟩:=(show fD H2 x kk from a1);have n0:q0≠m:=fun z=>by rw[z,D]at e2;cases e2
     exact⟨q0,e1,r _ _ (by rw[eD (by simpa using n0)];exact s3 _ _ e2)⟩
   have a6:(c.listed (c.Lr v)).take (j+1)=(c.listed (c.Lr v)).take j++[k]:=by rw[bg,Y];rfl
   refine⟨_,rfl,p,dx,_,_,rfl,as,(by kernel_rfl),_,rfl,m,_,rfl,⟨g,fw (some k),.inl S,bd.key,(d (some k) (gr N)).symm⟩,_,rfl,p,dx,_,_,rfl,as,(by kernel_rfl),_,rfl,bits,_,rfl,(b3 ba).get ad bq,_,_,rfl,rfl,?_⟩;rw[xg];have bl:k∉(c.listed (c.Lr v)).take j:=fun z=>by
    obtain⟨i',I⟩:=az.mp z;rw[cc]at I
    split at I
    ·next hlt2=>
     have:=(cj (af.mp I).1 (c.KR _)).mp (I.trans Y.symm)
     lia
    ·cases I
   have bx:(c.LV (O.take i) v ((c.listed (c.Lr v)).take j) (some k))=c.LR (O.take i) (some k):=by
    show(if _ then _ else _)=_;rw[if_neg bl]
   rw[bx];refine⟨_,lD.of (k:=fw (some k)) S bd.key (eV (by have:=B.1;lia)),_,_,rfl,d0,?_,fun u C=>?_,fun a u e=>?_⟩
   ·refine⟨?_,by rw[mO (by rw[d _ (gr N)];rfl)];exact B.2⟩;have:(fq g (fw (some k)) (V.int ((c.LR (O.take i) (some k) ||| c.KC v:Nat):Int))).length=g.length:=by
     have:=congrArg List.length (mO (kvs:=g) (k:=fw (some k)) (v:=V.int ((c.LR (O.take i) (some k) ||| c.KC v:Nat):Int)) (by rw[d _ (gr N)];rfl));simpa using this
    have:=B.1
    lia
   ·rw[fW];by_cases eu:u=some k
    ·subst eu;rw[if_pos rfl];show _=some (V.int ((if _ then _ else _:Nat):Int));rw[if_pos (by rw[a6];simp)]
    ·rw[if_neg (fun z=>eu (ij z)),d u C];cases u with
     |none=>rfl
     |some k'=>
      have:k'≠k:=fun z=>eu (by rw[z]);show some (V.int ((if _ then _ else _:Nat):Int))=some (V.int ((if _ then _ else _:Nat):Int));rw[a6];simp[this]
   ·have U:a≠m:=fun z=>by rw[z,fL (by simp)]at e;cases e
    rw[ef U];exact r _ _ e
  ·rintro σ X ⟨g,b8,rfl,S,B,d,r⟩;have lx:xs.length=(c.listed (c.Lr v)).length:=Paired.length a7;rw[lx,aH]at d;refine⟨g,_,_,rfl,S,B,fun u C=>?_,fun a u e=>?_⟩
   ·rw[ht,←eg.LX c _ ad C];exact d u C
   ·have U:a≠m:=fun z=>by rw[z,fL (by simp)]at e;cases e
    refine r _ _ ?_;rw[eD (by simpa using U)];exact s3 _ _ (t _ _ e)
 ·rintro σ H2 ⟨kf,o1,o2,rfl,D,ah,R,t⟩;have lw:G.length=O.length:=by
   have:=congrArg List.length Z;rw[ab,ab]at this;exact this
  rw[lw,aH]at R;refine q H2 (fun a u e=>?_) ⟨kf,.inl D,fun kv a3=>?_,fun w hw=>?_⟩
  ·have U:a≠m:=fun z=>by rw[z,fL (by simp)]at e;cases e
   rw[eD (by simpa using U)]at e;rcases sf a u e with z | ⟨z1,o',z2⟩
   ·exact .inl (t _ _ (by rw[eD (by simpa using U)];exact z))
   ·exact .inr ⟨z1,o',t _ _ (by rw[eD (by simpa using U)];exact z2)⟩
  ·have h1:kv.1∈kf.map (·.1):=bh a3;rw[ah.2]at h1;obtain⟨cd,h2,h3⟩:=av.mp h1;rw[←h3];exact ch cd h2
  ·rw[R w hw,eg.LU c fun k hk=>?_];have:=iG (ap (some k) (gr hk));rw[Z]at this;obtain⟨u,a9,C⟩:=av.mp this;rw[ij C]at a9;exact a9
end
section
variable {H:Hp}{p C dx:Addr}{fs:List (Str×V)}(hp:H p=some (.ins C dx fs))
include hp
theorem jK {u:HO}(e:H a=some u)(h:u≠.ins C dx fs):del H [p] a=some u:=by
 rw[eD (by simpa using fC e hp h)];exact e
theorem kS {u:HO}(h:Rd H a u)(n:u≠.ins C dx fs):Rd (del H [p]) a u:=h.imp (fun z=>jK hp z n) (by rintro⟨o,z⟩;exact⟨o,jK hp z fun y=>nomatch y⟩)
theorem gC.apart {ns:List Nd}(h:gC H a ns):gC (del H [p]) a ns:=(by obtain⟨xs,h1,h2⟩:=h;exact⟨xs,jK hp h1 (fun z=>nomatch z),Paired.Kg h2 (by rintro _ _ ⟨q,e1,e2⟩;exact⟨q,e1,jK hp e2 fun z=>nomatch z⟩)⟩)
theorem gm.apart {b st:Addr}(h:gm CB H b st es)(s:b≠p):gm CB (del H [p]) b st es:=by
 obtain⟨j,m,o,d,vk,h1,h2,r,v,w⟩:=h.ex;refine⟨j,m,o,d,vk,by rw[eD (by simpa using s)];exact h1,kS hp h2 (fun z=>nomatch z),Paired.Kg r fun _ _ z=>?_,kS hp v (fun z=>nomatch z),fun x=>?_⟩
 ·obtain⟨g,a,zs,g2,g3,e⟩:=z;exact⟨g,a,zs,g2,jK hp g3 (fun z=>nomatch z),Paired.Kg e (by rintro _ _ ⟨q,t,y⟩;exact⟨q,t,jK hp y fun z=>nomatch z⟩)⟩
 ·rcases w x with z | ⟨l,i,g,g2,g3,e⟩
  ·exact .inl z
  ·exact .inr ⟨l,i,g,jK hp g2 (fun z=>nomatch z),g3,e⟩
theorem ic.apart {c:eg}{g:Option Pk→Nat}(h:ic H a c g):ic (del H [p]) a c g:=(by obtain⟨kvs,h1,h2⟩:=h;exact⟨kvs,kS hp h1 (fun z=>nomatch z),h2⟩)
theorem oF.apart {c:eg}(h:oF H a c):oF (del H [p]) a c:=(by obtain⟨kvs,h1,h2⟩:=h;exact⟨kvs,kS hp h1 (fun z=>nomatch z),fun k hk=>(by obtain⟨v,g1,q,g2,g3⟩:=h2 k hk;exact⟨v,g1,q,g2,jK hp g3 fun z=>nomatch z⟩)⟩)
theorem lO.apart {c:eg}(h:lO H a c):lO (del H [p]) a c:=(by obtain⟨kvs,h1,h2⟩:=h;exact⟨kvs,kS hp h1 (fun z=>nomatch z),h2⟩)
end
theorem Bx {CB b st H p C dx}(h:gm CB H b st es)(hp:H p=some (.ins C dx [])):b≠p:=by
 obtain⟨g,d,e,a,vk,h1,_⟩:=h.ex;refine fC h1 hp fun z=>?_;injection z with _ _ z
 have:=gJ d e;rw[z]at this;cases this
theorem iV.upd {d:Addr}{c:eg}{w:Option Pk}{k:List (fM×V)}{u:HO}(h:iV H d c w)(g:H a=some (.dN k)):iV (upd H a u) d c w:=by
 obtain⟨o,b,h1,h2,e⟩:=h;exact⟨o,b,by rw[ef (fC h1 g fun z=>nomatch z)];exact h1,h2,e⟩
theorem x4 (e:eB (del H [p]) H'):eB (del H [p]) (del H' [p]):=fun a u h=>by
 have na:a≠p:=fun z=>by rw[z,fL (by simp)]at h;cases h
 rcases e a u h with z | ⟨z,o,y⟩
 ·exact .inl (by rw[eD (by simpa using na)];exact z)
 ·exact .inr ⟨z,o,by rw[eD (by simpa using na)];exact y⟩
inductive xG (CB CC:Addr)(vs:List V)(H:Hp)(Q:VK)(E:XK):Prop
 |mk (p dx b st:Addr)(es:List En)(sn:List Nd)(_:vs=[.ref p,.ref b])(_:H p=some (.ins CC dx []))(_:gm CB H b st es)(_:gC H st sn)(_:(es.map eX).Nodup)(_:es.length<64)(_:(∀w,(gK es sn w).length≤100))(_:∀(c:eg) H',c.es=es→c.sn=sn→eB (del H [p]) H'→iw CB CC H' p c→Q .non H'):xG CB CC vs H Q E
def pw (CB CC:Addr):Sp:=xG CB CC
structure Ga (G H:Hp)(pp C dx aa:Addr)(fs':List (Str×V))(u:HO)(H':Hp):Prop where
 g:eB G H'
 p:H' pp=some (.ins C dx fs')
 a:H' aa=some u
 o:∀b,b≠pp→b≠aa→H' b=H b
 ga:G aa=none
 np:aa≠pp
 keep:∀b v,b≠pp→H b=some v→H' b=some v
theorem jd {fs fs':List (Str×V)}{u:HO}(g:eB G H)(h:G p=none)(hp:H p=some (.ins C dx fs))(d:H a=none):Ga G H p C dx a fs' u (upd (upd H a u) p (.ins C dx fs')):=by
 have np:p≠a:=er hp d;exact⟨(g.upd (g.free d)).upd h,d0,by rw[ef (Ne.symm np)];exact d0,fun b h1 h2=>by rw[ef h1,ef h2],g.free d,Ne.symm np,fun b v h1 e=>by rw[ef h1,ef (er e d)];exact e⟩
theorem wU {H:Hp}:∀{nks:List (fM×V)} {es:List En},Paired (mV H) nks es→nks.map (·.1)=es.map fun e=>fw (some (eX e))
 |_,_,.nil=>rfl
 |_,_,.cons h r=>by rw[aE,aE,wU r,h.1];rfl
abbrev Jm (b:Addr):List (Str×V):=[("board",.ref b)]
abbrev Io (b bits:Addr):List (Str×V):=[("board",.ref b),("bits",.ref bits)]
abbrev Im (b bits by_:Addr):List (Str×V):=[("board",.ref b),("bits",.ref bits),("by_bit",.ref by_)]
theorem J3 (b:Addr):fX ("board" : Str) (V.ref b) []=Jm b:=by kernel_rfl
theorem J2 (b bits:Addr):fX ("bits" : Str) (V.ref bits) (Jm b)=Io b bits:=by kernel_rfl
theorem J1 (b bits a:Addr):fX ("by_bit" : Str) (V.ref a) (Io b bits)=Im b bits a:=by kernel_rfl
theorem J0 (b bits a d:Addr):fX ("of_part" : Str) (V.ref d) (Im b bits a)=zf b bits a d:=by kernel_rfl
theorem JZ (b bits d a e h g:Addr):fX ("foes" : Str) (V.ref g) (fX ("shut_out" : Str) (V.ref h) (fX ("allowed" : Str) (V.ref e) (zf b bits d a)))=FP b bits d a e h g:=by kernel_rfl
section
variable {base:Heap}{f:Addr}
theorem DM:eM ["self","board","who"] ["self","board"] (eE su):=jc
theorem yz (F:iQ K "__init__" "Chart.__init__" su f fd)(T:TC K mg CC)(c0:TB K mg CB)(MG:Mt P w K mg base CC fh 1 "give_bits" ["self"] (u8 CB CC))(MA:Mt P w K mg base CC fh 3 "allowed_by" ["self","who"] (nw CB CC))(MS:Mt P w K mg base CC fh 1 "shut_out_by" ["self","who"] (ni CC))(MM:Mt P w K mg base CC fh 2 "make_foes_mutual" ["self"] (pe CC)):eZ P w K mg base fh 4 f fd ["self","board"] (pw CB CC):=by
 refine F.ok DM (fun vs H Q E h=>?_) (fun f3 A ft s H vs Q E hr h=>?_)
 ·obtain⟨p,dx,b,st,es,sn,rfl,_⟩:=h;rfl
 obtain⟨p,dx,b,st,es,sn,rfl,hp,hB,hN,eb,c9,fu,q⟩:=h;have hu:=gR hr;refine⟨_,(ee (jF T.cl T.nBoard (pv 0) (pv 1)) (ee (jF T.cl T.nBits (pv 0) (ub et)) (ee (jF T.cl T.nBy (pv 0) il) (ee (jF T.cl T.nOf (pv 0) il) (ee (gf (qH MG (hr.mono (by decide)) eT (pv 0))) (ee (jF T.cl T.nAl (pv 0) mI) (ee (jF T.cl T.nSh (pv 0) mI) (ee (jF T.cl T.nFo (pv 0) mI) (ee (fZ PassesOwn.never rfl (sE (eG c0.cl c0.nN (pv 1))) (eN (i:=2) DM.nd rfl (Or.inl rfl)) (ee (kU hu (eG T.cl T.nAl (pv 0)) (pv 2) (ib MA hr eT (pv 0) (dZ (pv 2) el)) rfl) (ee (kU hu (eG T.cl T.nSh (pv 0)) (pv 2) (ib MS (hr.mono (by decide)) eT (pv 0) (dZ (pv 2) el)) rfl) (eo (kU hu (eG T.cl T.nFo (pv 0)) (pv 2) (fc hu (eG T.cl T.nSh (pv 0)) (pv 2) (fun _ _=>rfl)) rfl))))) (eo (gf (qH MM (hr.mono (by decide)) eT (pv 0))))))))))))),?_⟩;have a0:del H [p] p=none:=fL (by simp);have f0:=Bx hB hp;have B0:=hB.apart hp f0;have N0:=hN.apart hp;generalize ds:del H [p]=G0 at *;have fl:eB G0 H:=by rw[←ds];exact(fB _ _).toF
 refine⟨_,rfl,_,rfl,p,dx,_,rfl,hp,(by decide),?_⟩;generalize c7:upd H p (.ins CC dx (fX ("board" : Str) (V.ref b) []))=H1;have bf:H1 p=some (.ins CC dx (Jm b)):=by rw[←c7,d0,J3]
 have fk:eB G0 H1:=by rw[←c7];exact fl.upd a0
 intro bits an;have ew:p≠bits:=er bf an;refine⟨d0,_,rfl,p,dx,_,rfl,(by rw[i8,ef ew];exact bf),(by show 1<1000;decide),?_⟩;rw[i8,J2];have A2:=jd (fs':=Io b bits) (u:=.dN [(none,.int 0)]) fk a0 bf an;generalize upd (upd H1 bits (.dN [(none,.int 0)])) p (.ins CC dx (Io b bits))=H2 at A2 ⊢;intro j c5;have e4:p≠j:=er A2.p c5;refine⟨_,rfl,p,dx,_,rfl,(by rw[ef e4];exact A2.p),(by show 2<1000;decide),?_⟩;rw[J1];have Y:=jd (fs':=Im b bits j) (u:=.dK []) A2.g a0 A2.p c5;generalize upd (upd H2 j (.dK [])) p (.ins CC dx (Im b bits j))=J at Y ⊢;intro l ap;have ei:p≠l:=er Y.p ap;refine⟨_,rfl,p,dx,_,rfl,(by rw[ef ei];exact Y.p),(by show 3<1000;decide),?_⟩;rw[J0];have Z:=jd (fs':=zf b bits j l) (u:=.dK []) Y.g a0 Y.p ap;generalize upd (upd J l (.dK [])) p (.ins CC dx (zf b bits j l))=H4 at Z ⊢;have a6:=Z.keep _ _ A2.np (Y.keep _ _ A2.np A2.a);have dy:=Z.keep _ _ Y.np Y.a;refine⟨_,rfl,p,dx,_,rfl,Z.p,(by kernel_rfl),p,dx,b,bits,j,l,st,es,sn,rfl,Z.p,B0.f Z.g,eb,c9,a6,dy,Z.a,er Y.a ap,fun c H5 c1 c2 bq M5 fy ep=>?_⟩;subst c1;subst c2;have cs:eB G0 H5:=fun a u e=>by
  rcases Z.g a u e with z | ⟨z1,o,z2⟩
  ·refine bq a u ?_
   rw[eD (by
    simp only[am,aJ,or_false,not_or]
    exact⟨(fun y=>by rw[y,A2.ga]at e;cases e),(fun y=>by rw[y,Y.ga]at e;cases e),(fun y=>by rw[y,Z.ga]at e;cases e)⟩)]
   exact z
  ·refine .inr ⟨z1,o,bq.frz ?_⟩
   rw[eD (by
    simp only[am,aJ,or_false,not_or]
    exact⟨(fun y=>by rw[y,A2.ga]at e;cases e),(fun y=>by rw[y,Y.ga]at e;cases e),(fun y=>by rw[y,Z.ga]at e;cases e)⟩)]
   exact z2
 have B:H5 p=some (.ins CC dx (zf b bits j l)):=bq.ins (by
  rw[eD (by
    simp only[am,aJ,or_false,not_or]
    exact⟨Ne.symm A2.np,Ne.symm Y.np,Ne.symm Z.np⟩)]
  exact Z.p)
 have b9:del H5 [p] p=none:=fL (by simp);have ej:eB (del H5 [p]) H5:=(fB _ _).toF;have gg:eB G0 (del H5 [p]):=by
  rw[←ds]at cs ⊢;exact x4 cs
 have M1:=M5.apart B;have ct:=fy.apart B;have c4:=ep.apart B;generalize f4:del H5 [p]=G1 at *;have B1:=B0.f gg;have N1:=N0.f gg;intro m cx;have fa:p≠m:=er B cx;refine⟨_,rfl,p,dx,_,rfl,(by rw[ef fa];exact B),(by show 4<1000;decide),?_⟩;have N:=jd (fs':=fX ("allowed" : Str) (V.ref m) (zf b bits j l)) (u:=.dN []) ej b9 B cx;generalize upd (upd H5 m (.dN [])) p (.ins CC dx (fX ("allowed" : Str) (V.ref m) (zf b bits j l)))=H6 at N ⊢;intro t co;have fp:p≠t:=er N.p co;refine⟨_,rfl,p,dx,_,rfl,(by rw[ef fp];exact N.p),(by show 5<1000;decide),?_⟩;have R:=jd (fs':=fX ("shut_out" : Str) (V.ref t) (fX ("allowed" : Str) (V.ref m) (zf b bits j l))) (u:=.dN []) N.g b9 N.p co;generalize upd (upd H6 t (.dN [])) p (.ins CC dx (fX ("shut_out" : Str) (V.ref t) (fX ("allowed" : Str) (V.ref m) (zf b bits j l))))=H7 at R ⊢;intro C a4;have ed:p≠C:=er R.p a4;refine⟨_,rfl,p,dx,_,rfl,(by rw[ef ed];exact R.p),(by show 6<1000;decide),?_⟩;rw[JZ];have U:=jd (fs':=FP b bits j l m t C) (u:=.dN []) R.g b9 R.p a4;generalize upd (upd H7 C (.dN [])) p (.ins CC dx (FP b bits j l m t C))=H8 at U ⊢;have d5:=U.keep _ _ N.np (R.keep _ _ N.np N.a);have c8:=U.keep _ _ R.np R.a;have cy:=U.a;have ea:m≠t:=er N.a co;have b8:m≠C:=er (R.keep _ _ N.np N.a) a4;have a9:t≠C:=er R.a a4;obtain⟨bx,dn,dv,ag,vk,b1,b2,b3,b4,b5⟩:=id B1.ex;have ln:=Paired.length b3;have fr:=U.g.rd b2;have bl:G1 dn≠none:=fun z=>by rcases b2 with y | ⟨o,y⟩ <;> (rw[z]at y;cases y)
 have d3:dn≠m:=fun z=>bl (by rw[z];exact N.ga);have d4:dn≠t:=fun z=>bl (by rw[z];exact R.ga);have cz:dn≠C:=fun z=>bl (by rw[z];exact U.ga);refine⟨_,rfl,b,bx,_,_,rfl,U.g.ins b1,gJ _ _,dn,_,rfl,fr,fun o H9 d8 ah e7=>?_⟩;have c3:H9 m=some (.dN []):=by rw[ah m (Ne.symm d3)];exact d5
 have dp:H9 t=some (.dN []):=by rw[ah t (Ne.symm d4)];exact c8
 have d7:H9 C=some (.dN []):=by rw[ah C (Ne.symm cz)];exact cy
 have eq:eB G1 H9:=U.g.trans d8;have fx:=d8.ins U.p
 let ws:List (Option Pk):=none::c.es.map fun e=>some (eX e)
 have dc:((none,V.ref st)::ag).map (·.1)=ws.map fw:=by
  rw[aE,wU b3];show _=fw none::(c.es.map fun e=>some (eX e)).map fw;rw[cF];rfl
 have da:((none,V.ref st)::ag).length=ws.length:=by
  have:=congrArg List.length dc;rw[ab,ab]at this;exact this
 have f2:ws.length≤64:=by
  show(none::c.es.map fun e=>some (eX e)).length≤64;rw[aA,ab];lia
 have ad:∀w∈ws,c.Who w:=fun w I k e=>by
  subst e;rcases am.mp I with z | z
  ·cases z
  ·obtain⟨e,he,z⟩:=av.mp z;exact(c.mem k).mpr (Option.some.inj z▸bh he)
 have L:∀w,c.Who w→w∈ws:=fun w I=>by
  cases w with
  |none=>exact bB
  |some k=>
   obtain⟨e,he,z⟩:=av.mp ((c.mem k).mp (I k rfl));exact bi _ (av.mpr ⟨e,he,by rw[z]⟩)
 have ec:ws.Nodup:=by
  refine aV.mpr ⟨fun z=>?_,?_⟩
  ·obtain⟨e,_,z⟩:=av.mp z;cases z
  ·have:(c.es.map fun e=>some (eX e))=(c.es.map eX).map some:=by rw[cF];rfl
   rw[this];exact cC.mpr (eb.imp fun h z=>h (Option.some.inj z))
 have cn:c.n<64:=by rw[c.n_eq];exact c9
 refine vY (kvs:=(none,.ref st)::ag) (fun i σ H2=>∃D ks kf o2,σ=[some (.ref p),some (.ref b),o2]∧H2 p=some (.ins CC dx (FP b bits j l m t C))∧H2 dn=some (.frz o (.dN ((none,.ref st)::ag)))∧H2 m=some (.dN D)∧H2 t=some (.dN ks)∧H2 C=some (.dN kf)∧D.length≤i∧ks.map (·.1)=(ws.take i).map fw∧kf.map (·.1)=(ws.take i).map fw∧(∀w∈ws.take i,(∃d,eW D (fw w)=some (.ref d)∧iV H2 d c w)∧eW ks (fw w)=some (.int (c.Lr w))∧eW kf (fw w)=some (.int (c.Lr w)))∧eB G1 H2)
  ⟨[],[],[],none,rfl,fx,e7,c3,dp,d7,aq _,by simp,by simp,fun w I=>by simp at I,eq⟩ ((by rintro i σ H2 _ ⟨_,_,_,_,_,_,e,_⟩;exact e)) ?_ ?_
 ·rintro i kv x σ H2 hi kx ⟨D,ks,kf,o2,rfl,G,dd,cp,ba,a1,la,S,lf,r,g2⟩;have d6:(((none,V.ref st)::ag).map (·.1))[i]?=some kv.1:=by rw[ae,hi];rfl
  rw[dc,ae]at d6;obtain⟨v,hv,ev⟩:=aw.mp d6;rw[←ev]at kx;have a3:=gB.of kx;have ey:=ak hv;have e6:=ad v ey;have f8:i<64:=by
   have:=(af.mp hv).1
   lia
  have ht:ws.take (i+1)=ws.take i++[v]:=by rw[bg,hv];rfl
  have d9:v∉ws.take i:=fun z=>by
   obtain⟨i',aa⟩:=az.mp z;rw[cc]at aa
   split at aa
   ·next hlt2=>
    have:=(cj (af.mp aa).1 ec).mp (aa.trans hv.symm)
    lia
   ·cases aa
  have Ii:kf.length≤i:=by
   have:=congrArg List.length lf;rw[ab,ab,aS]at this
   lia
  have f1:ks.length≤i:=by
   have:=congrArg List.length S;rw[ab,ab,aS]at this
   lia
  refine⟨_,rfl,p,dx,_,rfl,G,(by kernel_rfl),_,rfl,p,dx,b,bits,st,_,x,c,v,rfl,G,(by kernel_rfl),(by kernel_rfl),B1.f g2,N1.f g2,M1.f g2,e6,a3,cn,fu v,fun d J s3 hd ez=>?_⟩;have f6:p≠d:=er G hd;have a7:=s3 _ _ G;have a2:=s3 _ _ cp;have e8:lP J (fw v) x:=(a3.same s3).key;refine⟨_,rfl,p,dx,_,_,rfl,a7,(by kernel_rfl),_,rfl,m,_,rfl,lD.of (k:=fw v) a2 e8 (eV (by lia)),?_⟩;have g3:eB G1 J:=g2.trans s3.toF;have g4:eB G1 (upd J m (.dN (fq D (fw v) (.ref d)))):=g3.upd N.ga;have c6:upd J m (.dN (fq D (fw v) (.ref d))) m=some (.dN (fq D (fw v) (.ref d))):=d0;have bd:iV (upd J m (.dN (fq D (fw v) (.ref d)))) d c v:=ez.upd a2;have k4:∀{a u},a≠m→J a=some u→upd J m (.dN (fq D (fw v) (.ref d))) a=some u:=fun {a u} n e=>by rw[ef n];exact e
  have b6:∀w∈ws.take i,∃d',eW D (fw w)=some (.ref d')∧iV (upd J m (.dN (fq D (fw v) (.ref d)))) d' c w:=fun w I=>by
   obtain⟨⟨d',e1,M⟩,_⟩:=r w I;exact⟨d',e1,(M.same s3).upd a2⟩
  have a8:gB (upd J m (.dN (fq D (fw v) (.ref d)))) x v:=by
   cases v with
   |none=>exact a3
   |some kk=>
    obtain⟨q0,e1,M⟩:=(show fD H2 x kk from a3);exact⟨q0,e1,k4 (fC (s3 _ _ M) a2 fun z=>nomatch z) (s3 _ _ M)⟩
  have as:=k4 (Ne.symm N.np) a7;have a5:=k4 (Ne.symm ea) (s3 _ _ ba);have e9:=k4 (Ne.symm b8) (s3 _ _ a1);have e5:=k4 d3 (s3 _ _ dd)
  clear_value ws
  generalize f7:upd J m (.dN (fq D (fw v) (.ref d)))=H4 at *;refine⟨_,rfl,p,dx,_,rfl,as,(by kernel_rfl),_,rfl,p,dx,m,l,d,_,x,c,v,rfl,as,(by kernel_rfl),(by kernel_rfl),⟨_,fw v,.inl c6,a8.key,by rw[fW,if_pos rfl]⟩,bd,c4.f g4,?_⟩;refine⟨_,rfl,p,dx,_,_,rfl,as,(by kernel_rfl),_,rfl,t,_,rfl,lD.of (k:=fw v) a5 a8.key (eV (by lia)),?_⟩;have g5:eB G1 (upd H4 t (.dN (fq ks (fw v) (.int (c.Lr v))))):=g4.upd R.ga;have k5:∀{a u},a≠t→H4 a=some u→upd H4 t (.dN (fq ks (fw v) (.int (c.Lr v)))) a=some u:=fun {a u} n e=>by rw[ef n];exact e
  have d2:upd H4 t (.dN (fq ks (fw v) (.int (c.Lr v)))) t=some (.dN (fq ks (fw v) (.int (c.Lr v)))):=d0;have B:=k5 (Ne.symm R.np) as;have ek:=k5 ea c6;have ch:=k5 (Ne.symm a9) e9;have fv:=k5 d4 e5;have d1:gB (upd H4 t (.dN (fq ks (fw v) (.int (c.Lr v))))) x v:=by
   cases v with
   |none=>exact a8
   |some kk=>
    obtain⟨q0,e1,M⟩:=(show fD H4 x kk from a8);exact⟨q0,e1,k5 (fC M a5 fun z=>nomatch z) M⟩
  have cv:=bd.upd (u:=.dN (fq ks (fw v) (.int (c.Lr v)))) a5;have bv:∀w∈ws.take i,∃d,eW D (fw w)=some (.ref d)∧iV (upd H4 t (.dN (fq ks (fw v) (.int (c.Lr v))))) d c w:=fun w I=>by
   obtain⟨d',e1,M⟩:=b6 w I;exact⟨d',e1,M.upd a5⟩
  generalize f5:upd H4 t (.dN (fq ks (fw v) (.int (c.Lr v))))=H5' at *;refine⟨_,rfl,p,dx,_,_,rfl,B,(by kernel_rfl),_,rfl,t,_,rfl,⟨_,fw v,.inl d2,d1.key,by rw[fW,if_pos rfl]⟩,_,rfl,p,dx,_,_,rfl,B,(by kernel_rfl),_,rfl,C,_,rfl,lD.of (k:=fw v) ch d1.key (eV (by lia)),?_⟩;have k6:∀{a u},a≠C→H5' a=some u→upd H5' C (.dN (fq kf (fw v) (.int (c.Lr v)))) a=some u:=fun {a u} n e=>by rw[ef n];exact e
  refine⟨_,_,_,_,rfl,k6 (Ne.symm U.np) B,k6 cz fv,k6 b8 ek,k6 a9 d2,d0,?_,?_,?_,fun u O=>?_,g5.upd U.ga⟩
  ·have:=fQ D (fw v) (V.ref d);lia
  ·have bm:eW ks (fw v)=none:=by
    cases hq:eW ks (fw v) with
    |none=>rfl
    |some u=>
     have:=iG hq;rw[S]at this;obtain⟨y,hy,e⟩:=av.mp this;rw[ij e]at hy;exact absurd hy d9
   rw[hZ _ bm,ay,S,ht,ay];rfl
  ·have bm:eW kf (fw v)=none:=by
    cases hq:eW kf (fw v) with
    |none=>rfl
    |some u=>
     have:=iG hq;rw[lf]at this;obtain⟨y,hy,e⟩:=av.mp this;rw[ij e]at hy;exact absurd hy d9
   rw[hZ _ bm,ay,lf,ht,ay];rfl
  ·rw[fW,fW,fW];by_cases eu:u=v
   ·subst eu;rw[if_pos rfl,if_pos rfl,if_pos rfl];exact⟨⟨d,rfl,cv.upd ch⟩,rfl,rfl⟩
   ·have ne:¬fw u=fw v:=fun z=>eu (ij z);rw[if_neg ne,if_neg ne,if_neg ne];have dl:u∈ws.take i:=by
     rw[ht]at O;exact(aB.mp O).elim id fun z=>absurd (ai.mp z) eu
    obtain⟨d',e1,M⟩:=bv u dl;exact⟨⟨d',e1,M.upd ch⟩,(r u dl).2⟩
 ·rintro σ H2 ⟨D,ks,kf,o2,rfl,G,dd,cp,ba,a1,la,S,lf,r,g2⟩;rw[da,aH]at S r lf;rw[da]at la;have Ii:kf.length≤64:=by
   have:=congrArg List.length lf;rw[ab,ab]at this
   lia
  have eh:bits≠C:=fun z=>by
   obtain⟨kvs,y,_⟩:=M1;rw[z]at y;rcases y with y | ⟨o',y⟩ <;> (rw[U.ga]at y;cases y)
  refine⟨_,rfl,p,dx,_,rfl,G,(by kernel_rfl),p,dx,b,bits,j,l,m,t,C,c,ks,kf,rfl,G,M1.f g2,ct.f g2,cn,eh,a9,ba,fun kv b7=>?_,fun w I=>(r w (L w I)).2.1,a1,Ii,fun kv b7=>?_,fun w I=>(r w (L w I)).2.2,fun J X e0=>?_⟩
  ·have:kv.1∈ks.map (·.1):=bh b7;rw[S]at this;obtain⟨u,cd,O⟩:=av.mp this;exact⟨u,ad u cd,O.symm⟩
  ·have:kv.1∈kf.map (·.1):=bh b7;rw[lf]at this;obtain⟨u,cd,O⟩:=av.mp this;exact⟨u,ad u cd,O.symm⟩
  ·have g3:eB G1 J:=fun a u e=>by
    have na:a≠C:=fun z=>by rw[z,U.ga]at e;cases e
    rcases g2 a u e with z | ⟨z1,o',z2⟩
    ·exact X a u (by rw[eD (by simpa using na)];exact z)
    ·exact .inr ⟨z1,o',X.frz (by rw[eD (by simpa using na)];exact z2)⟩
   have a7:=X.ins (b:=p) (by rw[eD (by simpa using ed)];exact G);refine q c J rfl rfl (gg.trans g3) ⟨dx,b,bits,j,l,m,t,C,st,a7,B1.f g3,N1.f g3,M1.f g3,ct.f g3,c4.f g3,?_,?_,e0⟩
   ·refine⟨D,X.rd (.inl (by rw[eD (by simpa using b8)];exact cp)),fun w I=>?_⟩;obtain⟨⟨d,e1,o',em,M,e3⟩,_⟩:=r w (L w I);exact⟨d,e1,o',em,X.frz (by rw[eD (by simpa using fC M a1 fun z=>nomatch z)];exact M),e3⟩
   ·exact⟨ks,X.rd (.inl (by rw[eD (by simpa using a9)];exact ba)),fun w I=>(r w (L w I)).2.1⟩
end
inductive HA (CB CC CL:Addr)(vs:List V)(H:Hp)(Q:VK)(E:XK):Prop
 |mk (G:Hp)(p ch:Addr)(c:eg)(L:iu)(O:List Addr)(m:Nat)(r:V)(rr:Rs)(_:vs=[.ref p,.int (m:Int),r])(_:eB G H)(_:iw CB CC G ch c)(_:gj CL G H p ch c L O)(_:mi G r rr)(_:m<2^c.n)(_:c.n<64)(_:L.length<sizeLine)(_:(∀j,nA L m=some j→Q (.int (j:Nat)) H))(_:(nA L m=none→∀H' O',iA G H O G H' O'→gj CL G H' p ch c (L++[(m,rr)]) O'→Q (.int (L.length:Nat)) H')):HA CB CC CL vs H Q E
def wE (CB CC CL:Addr):Sp:=HA CB CC CL
theorem JD {b c d:Addr}{l:List Addr}(h:(a::b::c::d::l).Nodup):a≠b∧a≠c∧a≠d∧b≠c∧b≠d∧c≠d∧a∉l∧b∉l∧c∉l∧d∉l:=by
 simp only[aV,am,not_or]at h;obtain⟨⟨h1,h2,q,m⟩,⟨p,g,o⟩,⟨j,i⟩,e,_⟩:=h;exact⟨h1,h2,q,p,g,j,m,o,i,e⟩
theorem uB {c:eg}(h:iw CB CC H p c):∃dx by_ fs,H p=some (.ins CC dx fs)∧fs.lookup ("by_bit" : Str)=some (V.ref by_)∧oF H by_ c∧fs.lookup ("listed" : Str)=none:=by
 obtain⟨dx,b,bits,by_,a,j,m,g,st,h1,h2,l,i,d,e⟩:=h.ex;exact⟨dx,by_,_,h1,(by kernel_rfl),d,(by kernel_rfl)⟩
theorem mB (e:eF H H'){u:HO}(h:H a=some u):H' a=H a:=(e a u h).trans h.symm
theorem pT {α:Type}{l:List α}(hn:l.Nodup){k:α}(h:l[j]?=some k):k∉l.take j:=fun z=>by
 obtain⟨i',hi'⟩:=az.mp z;rw[cc]at hi'
 split at hi'
 ·next hlt2=>
  have:=(cj (af.mp hi').1 hn).mp (hi'.trans h.symm)
  lia
 ·cases hi'
theorem fJ {α:Type}{l:List α}{k:α}(h:l[j]?=some k):l.take (j+1)=l.take j++[k]:=by rw[bg,h];rfl
section
variable {base:Heap}{f:Addr}
theorem EH:eM ["self","mask","reason","place","pick"] ["self","mask","reason"] (eE ER):=jc
theorem E7 (F:iQ K "put_down" "Ledger.put_down" ER f fd)(T:TL K mg CL)(ML:Mt P w K mg base CC fh 1 "listed" ["self","mask"] (jg CC)):eZ P w K mg base fh 2 f fd ["self","mask","reason"] (wE CB CC CL):=by
 refine F.ok EH (fun vs H Q E h=>?_) (fun eh A d8 s H vs Q E hr h=>?_)
 ·obtain⟨G,p,ch,c,L,O,m,r,rr,rfl,_⟩:=h;rfl
 obtain⟨G,p,ch,c,L,O,m,r,rr,rfl,gh,hC,U,hR,hm,d5,b9,q1,q2⟩:=h;have hu:=gR hr;refine⟨_,(ee (fz (gZ (lG hu (pv 1) (eG T.cl T.nPm (pv 0)))) (ee (eJ (i:=3) EH.nd rfl (Or.inl rfl) (eR fA rfl T.len bu (dZ (eG T.cl T.nMa (pv 0)) el))) (ee (gf (jp PySem.F.plainAttrs_list PySem.F.slot_list_append PySem.F.type_list_append gN (eG T.cl T.nMa (pv 0)) (dZ (pv 1) el))) (ee (gf (jp PySem.F.plainAttrs_list PySem.F.slot_list_append PySem.F.type_list_append gN (eG T.cl T.nRe (pv 0)) (dZ (pv 2) el))) (ee (ja hu (eG T.cl T.nPm (pv 0)) (pv 1) (pv 3) rfl) (eo (fZ PassesOwn.never rfl (fO (ib ML hr eT (eG T.cl T.nCh (pv 0)) (dZ (pv 1) el))) (eN (i:=4) EH.nd rfl (Or.inl rfl)) (eo (gf (jp PySem.F.plainAttrs_list PySem.F.slot_list_append PySem.F.type_list_append gN (yb hu (eG T.cl T.nPp (pv 0)) (pv 4) (gl el) ⟨rfl,rfl,rfl,rfl⟩) (dZ (pv 3) el)))))))))) eO) (eo (eL (gU hu (eG T.cl T.nPm (pv 0)) (pv 1) (fun _ _=>rfl))))),?_⟩;obtain⟨dx,D,I,pm,pp,N,rs,Ol,rfl,hp,cp,da,c9,cy,ej,c2,kvp,kl,hB⟩:=id U.ex;have ag:H p=some (.ins CL dx (AW ch D I pm pp)):=gh.ins hp;obtain⟨n1,n2,n3,n4,n5,n6,n7,n8,n9,ed⟩:=JD U.nd;have cn:i7 H pm (.int (m:Int)) ((nA L m).map fun i=>V.int (i:Nat)):=.inl ⟨N,Sum.inl (m:Int),.inl cy,rfl,(c2 m).symm⟩;refine⟨_,rfl,_,rfl,p,dx,_,_,rfl,ag,(by kernel_rfl),pm,_,rfl,cn,_,rfl,?_⟩;cases hpos:nA L m with
 |some j=>
  rw[hpos]at cn;exact ff ⟨_,rfl,p,dx,_,_,rfl,ag,(by kernel_rfl),_,rfl,pm,_,rfl,cn,q1 j hpos⟩
 |none=>
  refine gL ?_;have dn:p∉D::I::pm::pp::Ol:=fun z=>by rw[U.off p z]at hp;cases hp
  have cs:∀{a},a∈D::I::pm::pp::Ol→p≠a:=fun {a} h z=>dn (z▸h);have cz:p≠D:=cs (by simp);have d9:p≠I:=cs (by simp);have eb:p≠pm:=cs (by simp);have lL:(gQ (L.map (·.1))).length=L.length:=by unfold gQ;rw[ab,ab]
  have d4:rs.length=L.length:=by rw[Paired.length c9,ab]
  refine⟨_,rfl,p,dx,_,_,rfl,ag,(by kernel_rfl),D,_,rfl,.inl (fb.of cp),?_⟩;rw[lL];refine⟨_,rfl,p,dx,_,V.ref D,rfl,ag,(by kernel_rfl),.inl ⟨rfl,_,fb.of cp⟩,_,rfl,D,_,_,rfl,rfl,cp,(by rw[lL];exact b9),?_⟩;refine⟨_,rfl,p,dx,_,V.ref I,rfl,(by rw[ef cz];exact ag),(by kernel_rfl),.inl ⟨rfl,_,fb.of (by rw[ef (Ne.symm n1)];exact da)⟩,_,rfl,I,_,_,rfl,rfl,(by rw[ef (Ne.symm n1)];exact da),(by rw[d4];exact b9),?_⟩;refine⟨_,rfl,_,rfl,p,dx,_,_,rfl,(by rw[ef d9,ef cz];exact ag),(by kernel_rfl),_,rfl,pm,_,rfl,mj.k (k:=Sum.inl (m:Int)) (by rw[ef (Ne.symm n4),ef (Ne.symm n2)];exact cy) (by lia),?_⟩;have bv:upd (upd (upd H D (.lst (gQ (L.map (·.1))++[.int (m:Int)]))) I (.lst (rs++[r]))) pm (.dK (fq N (Sum.inl (m:Int)) (.int (L.length:Nat)))) D=some (.lst (gQ ((L++[(m,rr)]).map (·.1)))):=by
   rw[ef n2,ef n1,d0];unfold gQ;rw[ay,ay];rfl
  have bl:upd (upd (upd H D (.lst (gQ (L.map (·.1))++[.int (m:Int)]))) I (.lst (rs++[r]))) pm (.dK (fq N (Sum.inl (m:Int)) (.int (L.length:Nat)))) I=some (.lst (rs++[r])):=by rw[ef n4,d0]
  have as:upd (upd (upd H D (.lst (gQ (L.map (·.1))++[.int (m:Int)]))) I (.lst (rs++[r]))) pm (.dK (fq N (Sum.inl (m:Int)) (.int (L.length:Nat)))) pm=some (.dK (fq N (Sum.inl (m:Int)) (.int (L.length:Nat)))):=d0;have R:∀b,b≠D→b≠I→b≠pm→upd (upd (upd H D (.lst (gQ (L.map (·.1))++[.int (m:Int)]))) I (.lst (rs++[r]))) pm (.dK (fq N (Sum.inl (m:Int)) (.int (L.length:Nat)))) b=H b:=fun b b1 b2 b3=>by rw[ef b3,ef b2,ef b1]
  generalize upd (upd (upd H D (.lst (gQ (L.map (·.1))++[.int (m:Int)]))) I (.lst (rs++[r]))) pm (.dK (fq N (Sum.inl (m:Int)) (.int (L.length:Nat))))=H3 at bv bl as R ⊢;have c4:eF (del H (D::I::pm::pp::Ol)) H3:=fun a u e=>by
   have na:a∉D::I::pm::pp::Ol:=fun z=>by rw[fL z]at e;cases e
   rw[eD na]at e;simp only[am,not_or]at na;rw[R a na.1 na.2.1 na.2.2.1];exact e
  have g3:eB G H3:=ik gh U.off c4.toF;have b8:q5 H3 c pp (c.plc L) Ol kvp kl:=hB.keep (R pp (Ne.symm n3) (Ne.symm n5) (Ne.symm n6)) fun a g=>R a (fun z=>n7 (z▸g)) (fun z=>n8 (z▸g)) (fun z=>n9 (z▸g));have d2:∀a,H3 a=none→H a=none:=fun a e=>by
   by_cases z1:a=D
   ·rw[z1,bv]at e;cases e
   by_cases z2:a=I
   ·rw[z2,bl]at e;cases e
   by_cases z3:a=pm
   ·rw[z3,as]at e;cases e
   rw[←R a z1 z2 z3];exact e
  obtain⟨cx,dd,ek,c1,d1,d6,dy⟩:=uB (hC.f g3);refine⟨_,rfl,p,dx,_,_,rfl,g3.ins hp,(by kernel_rfl),ch,cx,_,rfl,c1,dy,_,rfl,H3,ch,cx,dd,_,c,m,rfl,eB.refl _,c1,d1,d6,d5,hm,fun l xs H4 s4 hl c5 c8 dl=>?_⟩;refine⟨l,rfl,⟨_,fb.of c5⟩,?_⟩;have lx:xs.length=(c.listed m).length:=Paired.length c8;have c3:l∉D::I::pm::pp::Ol:=fun z=>by
   simp only[am]at z;rcases z with z | z | z | z | z
   ·rw[z,bv]at hl;cases hl
   ·rw[z,bl]at hl;cases hl
   ·rw[z,as]at hl;cases hl
   ·rw[z,b8.d]at hl;cases hl
   ·obtain⟨u,B⟩:=U.liv l (by simp[z]);rw[R l (fun y=>n7 (y▸z)) (fun y=>n8 (y▸z)) (fun y=>n9 (y▸z)),B]at hl;cases hl
  have h4:∀a u,H3 a=some u→H4 a=some u:=s4;have d3:eF (del H (D::I::pm::pp::Ol)) H4:=c4.trans s4;refine gq (K:=K) (a:=l) (xs:=xs) (fun j σ J=>∃kvp kl Ol' o4,σ=[some (.ref p),some (.int (m:Int)),some r,some (.int (L.length:Nat)),o4]∧q5 J c pp (fun k=>c.plc L k++if k∈(c.listed m).take j then [L.length] else []) Ol' kvp kl∧(D::I::pm::pp::Ol').Nodup∧(∀a∈Ol',a∈Ol∨H a=none)∧(∀a∈Ol',G a=none)∧(∀a∈Ol',∃u,J a=some u)∧(∀a∈Ol',∀u,J a=some u→¬u1 u)∧l∉Ol'∧J D=some (.lst (gQ ((L++[(m,rr)]).map (·.1))))∧J I=some (.lst (rs++[r]))∧J pm=some (.dK (fq N (Sum.inl (m:Int)) (.int (L.length:Nat))))∧J l=some (.lst xs)∧eF (del H (D::I::pm::pp::Ol)) J∧(∀v k,fD H3 v k→fD J v k)∧∀a,J a=none→H a=none)
   ⟨kvp,kl,Ol,none,rfl,?_,U.nd,fun a g=>.inl g,fun a g=>U.off a (by simp[g]),fun a g=>?_,fun a g u dc=>?_,fun z=>c3 (by simp[z]),h4 _ _ bv,h4 _ _ bl,h4 _ _ as,c5,d3,(by rintro v k ⟨q,e1,e2⟩;exact⟨q,e1,h4 _ _ e2⟩),fun a e=>d2 a (s4.free e)⟩ ((by rintro j σ J _ ⟨_,_,_,_,_,_,_,_,_,_,_,_,_,_,_,e,_⟩;exact fb.of e)) ?_ ?_
  ·refine(b8.keep (mB s4 b8.d) fun a g=>?_).fn fun k hk=>?_
   ·obtain⟨u,B⟩:=U.liv a (by simp[g]);exact mB s4 ((R a (fun z=>n7 (z▸g)) (fun z=>n8 (z▸g)) (fun z=>n9 (z▸g))).trans B)
   ·rw[dg,if_neg (fun z=>nomatch z),cq]
  ·obtain⟨u,B⟩:=U.liv a (by simp[g]);exact⟨u,s4 _ _ ((R a (fun z=>n7 (z▸g)) (fun z=>n8 (z▸g)) (fun z=>n9 (z▸g))).trans B)⟩
  ·obtain⟨v,c0⟩:=U.liv a (by simp[g]);have e4:=s4 _ _ ((R a (fun z=>n7 (z▸g)) (fun z=>n8 (z▸g)) (fun z=>n9 (z▸g))).trans c0);rw[dc]at e4;cases e4;exact U.nf a (by simp[g]) _ c0
  ·rintro j x σ J hj ⟨C,cd,S,o4,rfl,B5,ah,al,ad,M,bq,ap,aa,Z,X,bf,Y,bd,an⟩;obtain⟨k,a0,d7⟩:=Paired.KA c8 hj;obtain⟨kq,rfl,c6⟩:=bd _ _ d7;have co:=(eg.KI.mp (ak a0)).1;have b7:=pT (c.KR m) a0;have g5:eB G J:=ik gh U.off Y.toF;have bm:=g5.ins hp;obtain⟨m1,m2,m3,m4,m5,m6,m7,m8,m9,bx⟩:=JD ah;have gk:(c.plc L k++if k∈(c.listed m).take j then [L.length] else [])=c.plc L k:=by rw[if_neg b7,cq]
   have lk:(gQ (c.plc L k++if k∈(c.listed m).take j then [L.length] else [])).length<sizeLine:=by
    rw[gk];unfold gQ;rw[ab];exact bJ (c.LF k L 0) b9
   refine⟨_,rfl,p,dx,_,V.ref pp,rfl,bm,(by kernel_rfl),pp,rfl,⟨_,.inl B5.d⟩,_,rfl,(by show 0≤sizeLine;decide),fun tl t=>?_⟩;have st:=eA t (.lst []);have ba:tl≠pp:=fun z=>by rw[z,B5.d]at t;cases t
   have b4:tl∉S:=fun z=>by obtain⟨u,B⟩:=M tl z;rw[B]at t;cases t
   have ct:tl≠D:=fun z=>by rw[z,aa]at t;cases t
   have c7:tl≠I:=fun z=>by rw[z,Z]at t;cases t
   have b5:tl≠pm:=fun z=>by rw[z,X]at t;cases t
   have cv:tl≠l:=fun z=>by rw[z,bf]at t;cases t
   have ei:tl≠kq:=fun z=>by rw[z,c6]at t;cases t
   have ec:=B5.len;refine⟨C,fw (some k),st _ _ B5.d,⟨kq,rfl,st _ _ c6⟩,eV (by lia),fun v hv=>?_,fun hn=>?_⟩
   ·have B6:q5 (upd J tl (.lst [])) c pp _ S C cd:=B5.keep (mB st B5.d) fun a g=>by obtain⟨u,B⟩:=M a g;exact mB st B
    obtain⟨l',e1⟩:∃l',v=.ref l':=by
     rcases B5.val k co with ⟨z,_⟩ | ⟨l',z1,_⟩
     ·rw[hv]at z;cases z
     ·rw[hv]at z1;cases z1;exact⟨l',rfl⟩
    subst e1;obtain⟨i1,i2,i3⟩:=B6.old (i:=L.length) co hv bx;refine⟨.inl ⟨rfl,_,fb.of i2⟩,_,rfl,l',_,_,rfl,rfl,i2,lk,?_⟩;have ds:∀{a},a∉S→a≠l':=fun {a} h z=>h (z▸i1);have ea:l'∉D::I::pm::pp::S→False:=fun z=>z (by simp[i1]);have k6:∀{a u},a∉S→J a=some u→upd (upd J tl (.lst [])) l' (.lst (gQ (c.plc L k++if k∈(c.listed m).take j then [L.length] else [])++[.int (L.length:Nat)])) a=some u:=fun {a u} h e=>by rw[ef (ds h)];exact st _ _ e
    refine⟨_,_,_,_,rfl,i3.fn fun y hy=>?_,ah,al,ad,fun a g=>?_,fun a g v o=>?_,ap,k6 m7 aa,k6 m8 Z,k6 m9 X,k6 ap bf,fun a u e=>?_,fun v y hy=>?_,fun a e=>?_⟩
    ·rw[fJ a0];by_cases ey:y=k
     ·subst ey;rw[if_pos rfl,if_neg b7,cq,if_pos (by simp)]
     ·rw[if_neg ey]
      congr 1
      simp only[aB,ai,ey,or_false]
    ·by_cases z:a=l'
     ·exact⟨_,by rw[z];exact d0⟩
     ·obtain⟨u,B⟩:=M a g;exact⟨u,by rw[ef z];exact st _ _ B⟩
    ·by_cases z:a=l'
     ·rw[z,d0]at o;cases o;exact fun q=>q
     ·obtain⟨u,B⟩:=M a g;rw[ef z,st _ _ B]at o;cases o;exact bq a g _ B
    ·have na:a≠l':=fun z=>by
      rcases al l' i1 with y | y
      ·rw[z,fL (by simp[y])]at e;cases e
      ·have:=fB _ _ a u e;rw[z,y]at this;cases this
     rw[ef na];exact st _ _ (Y _ _ e)
    ·obtain⟨yq,y1,y2⟩:=bd v y hy;exact⟨yq,y1,by rw[ef (fC (st _ _ y2) i2 fun z=>nomatch z)];exact st _ _ y2⟩
    ·by_cases z:a=l'
     ·rw[z,d0]at e;cases e
     ·rw[ef z]at e;exact an a (st.free e)
   ·have b6:upd (upd J tl (.lst [])) pp (.dN (fq C (fw (some k)) (.ref tl))) tl=some (.lst []):=by rw[ef ba];exact d0
    refine⟨.inl ⟨rfl,_,fb.of b6⟩,_,rfl,tl,_,_,rfl,rfl,b6,(by show 0<sizeLine;decide),?_⟩;have e1:upd (upd (upd J tl (.lst [])) pp (.dN (fq C (fw (some k)) (.ref tl)))) tl (.lst ([]++[.int (L.length:Nat)])) pp=some (.dN (fq C (fw (some k)) (.ref tl))):=by rw[ef (Ne.symm ba),d0]
    have e2:upd (upd (upd J tl (.lst [])) pp (.dN (fq C (fw (some k)) (.ref tl)))) tl (.lst ([]++[.int (L.length:Nat)])) tl=some (.lst [.int (L.length:Nat)]):=d0;have e3:∀b,b≠pp→b≠tl→upd (upd (upd J tl (.lst [])) pp (.dN (fq C (fw (some k)) (.ref tl)))) tl (.lst ([]++[.int (L.length:Nat)])) b=J b:=fun b b1 b2=>by rw[ef b2,ef b1,ef b2]
    generalize upd (upd (upd J tl (.lst [])) pp (.dN (fq C (fw (some k)) (.ref tl)))) tl (.lst ([]++[.int (L.length:Nat)]))=H7 at e1 e2 e3 ⊢;have B7:=B5.new (i:=L.length) co hn bx b4 ba e1 e2 e3;refine⟨_,_,tl::S,_,rfl,B7.fn fun y hy=>?_,?_,fun a g=>?_,fun a g=>?_,fun a g=>?_,fun a g v o=>?_,fun z=>?_,by rw[e3 D m3 (Ne.symm ct)];exact aa,by rw[e3 I m5 (Ne.symm c7)];exact Z,by rw[e3 pm m6 (Ne.symm b5)];exact X,?_,fun a u e=>?_,fun v y hy=>?_,fun a e=>?_⟩
    ·rw[fJ a0];by_cases ey:y=k
     ·subst ey;rw[if_pos rfl,if_neg b7,cq,if_pos (by simp)]
     ·rw[if_neg ey]
      congr 1
      simp only[aB,ai,ey,or_false]
    ·simp only[aV,am,not_or]at ah ⊢;obtain⟨⟨a1,a2,a3,a4⟩,⟨a5,a6,a7⟩,⟨a8,a9⟩,dp,dv⟩:=ah;exact⟨⟨a1,a2,a3,Ne.symm ct,a4⟩,⟨a5,a6,Ne.symm c7,a7⟩,⟨a8,Ne.symm b5,a9⟩,⟨Ne.symm ba,dp⟩,b4,dv⟩
    ·rcases am.mp g with z | z
     ·rw[z];exact .inr (an tl t)
     ·exact al a z
    ·rcases am.mp g with z | z
     ·rw[z];exact g5.free t
     ·exact ad a z
    ·rcases am.mp g with z | z
     ·rw[z];exact⟨_,e2⟩
     ·obtain⟨u,B⟩:=M a z;exact⟨u,by rw[e3 a (fun y=>bx (y▸z)) (fun y=>b4 (y▸z))];exact B⟩
    ·rcases am.mp g with z | z
     ·rw[z,e2]at o;cases o;exact fun q=>q
     ·rw[e3 a (fun y=>bx (y▸z)) (fun y=>b4 (y▸z))]at o;exact bq a z v o
    ·rcases am.mp z with y | y
     ·exact cv y.symm
     ·exact ap y
    ·rw[e3 l (fun z=>c3 (by simp[z])) (Ne.symm cv)];exact bf
    ·have na:a≠pp:=fun z=>by rw[z,fL (by simp)]at e;cases e
     have nt:a≠tl:=fun z=>by
      have:=Y _ _ e;rw[z,t]at this;cases this
     rw[e3 a na nt];exact Y _ _ e
    ·obtain⟨yq,y1,y2⟩:=bd v y hy;exact⟨yq,y1,by rw[e3 yq (fC y2 B5.d fun z=>nomatch z) (er y2 t)];exact y2⟩
    ·by_cases z1:a=pp
     ·rw[z1,e1]at e;cases e
     by_cases z2:a=tl
     ·rw[z2,e2]at e;cases e
     rw[e3 a z1 z2]at e;exact an a e
  ·rintro σ J ⟨C,cd,S,o4,rfl,B5,ah,al,ad,M,bq,ap,aa,Z,X,bf,Y,bd,an⟩;rw[lx,aH]at B5;have g5:eB G J:=ik gh U.off Y.toF;refine⟨_,rfl,p,dx,_,_,rfl,g5.ins hp,(by kernel_rfl),_,rfl,pm,_,rfl,.inl ⟨_,Sum.inl (m:Int),.inl X,rfl,by rw[fW,if_pos rfl]⟩,q2 hpos J (D::I::pm::pp::S) ?_ ?_⟩
   ·refine⟨eB.refl _,g5,fun a e n=>absurd e n,fun a g=>?_,Y.toF,an⟩;simp only[am]at g ⊢;rcases g with z | z | z | z | z
    ·exact .inl (.inl z)
    ·exact .inl (.inr (.inl z))
    ·exact .inl (.inr (.inr (.inl z)))
    ·exact .inl (.inr (.inr (.inr (.inl z))))
    ·rcases al a z with y | y
     ·exact .inl (.inr (.inr (.inr (.inr y))))
     ·exact .inr y
   ·refine⟨⟨dx,D,I,pm,pp,_,_,S,rfl,hp,aa,Z,?_,X,?_,fun m'=>?_,⟨C,cd,B5.fn fun k hk=>?_⟩⟩,fun a g=>?_,fun a g=>?_,fun a g v o=>?_,ah⟩
    ·rw[ay];exact Paired.snoc c9 hR
    ·have:=fQ N (Sum.inl (m:Int)) (V.int (L.length:Nat));rw[aF,aT]
     lia
    ·rw[fW];by_cases em:m'=m
     ·subst em;rw[if_pos rfl,lR hpos,if_pos rfl];rfl
     ·rw[if_neg (fun z=>em (by have:=Sum.inl.inj z;lia)),c2 m'];cases hq:nA L m' with
      |some j=>rw[qu hq]
      |none=>rw[lR hq,if_neg (fun z=>em z.symm)]
    ·rw[eg.LE]
     congr 1
     by_cases hh:c.has m k
     ·rw[if_pos hh,if_pos (eg.KI.mpr hh)]
     ·rw[if_neg hh,if_neg (fun z=>hh (eg.KI.mp z))]
    ·simp only[am]at g;rcases g with z | z | z | z | z
     ·exact U.off a (by simp[z])
     ·exact U.off a (by simp[z])
     ·exact U.off a (by simp[z])
     ·exact U.off a (by simp[z])
     ·exact ad a z
    ·simp only[am]at g;rcases g with z | z | z | z | z
     ·exact⟨_,by rw[z];exact aa⟩
     ·exact⟨_,by rw[z];exact Z⟩
     ·exact⟨_,by rw[z];exact X⟩
     ·exact⟨_,by rw[z];exact B5.d⟩
     ·exact M a z
    ·simp only[am]at g;rcases g with z | z | z | z | z
     ·rw[z,aa]at o;cases o;exact fun q=>q
     ·rw[z,Z]at o;cases o;exact fun q=>q
     ·rw[z,X]at o;cases o;exact fun q=>q
     ·rw[z,B5.d]at o;cases o;exact fun q=>q
     ·exact bq a z v o
end
inductive xp (CB CC CL:Addr)(vs:List V)(H:Hp)(Q:VK)(E:XK):Prop
 |mk (G:Hp)(p ch:Addr)(c:eg)(L:iu)(O:List Addr)(v:V)(k:Pk)(pk:Nat)(_:vs=[.ref p,v,.int (pk:Int)])(_:eB G H)(_:iw CB CC G ch c)(_:gj CL G H p ch c L O)(_:fD H v k)(_:k∈c.ks)(_:(∀(H':Hp) (j:Nat) (e:Nat×Rs),eF H H'→L[j]?=some e→ig e.1 pk=c.bit k→Q (.int (j:Nat)) H'))(_:((∀e∈L,c.has e.1 k→ig e.1 pk≠c.bit k)→∀H',eF H H'→Q .non H')):xp CB CC CL vs H Q E
def pc (CB CC CL:Addr):Sp:=xp CB CC CL
inductive xI (CB CC CL:Addr)(vs:List V)(H:Hp)(Q:VK)(E:XK):Prop
 |mk (G:Hp)(p ch:Addr)(c:eg)(L:iu)(O:List Addr)(v:V)(k:Pk)(pk:Nat)(_:vs=[.ref p,v,.int (pk:Int)])(_:eB G H)(_:iw CB CC G ch c)(_:gj CL G H p ch c L O)(_:fD H v k)(_:k∈c.ks)(_:∀H',eF H H'→Q (.int (c.Ll L k pk:Nat)) H'):xI CB CC CL vs H Q E
def pz (CB CC CL:Addr):Sp:=xI CB CC CL
theorem qG {c:eg}{k:Pk}:∀(L:iu) (i:Nat),Paired (fun(j:Nat) (e:Nat×Rs)=>i≤j∧L[j-i]?=some e) (c.LC k L i) (L.filter fun e=>decide (c.has e.1 k))
 |[],i=>.nil
 |x::L,i=>by
  have ih:=qG (c:=c) (k:=k) L (i+1);have ih2:Paired (fun(j:Nat) (e:Nat×Rs)=>i≤j∧(x::L)[j-i]?=some e) (c.LC k L (i+1)) (L.filter fun e=>decide (c.has e.1 k)):=Paired.Kg ih fun j e ⟨h1,h2⟩=>⟨by lia,by rw[show j-i=(j-(i+1))+1 by lia];exact h2⟩;unfold eg.LC;by_cases h:c.has x.1 k
  ·rw[if_pos h,aG,if_pos (ao h)];exact .cons ⟨aq _,by rw[bS];rfl⟩ ih2
  ·rw[if_neg h,aG,if_neg (by rw[au h];exact fun z=>nomatch z)];exact ih2
theorem Ab (c:eg)(L:iu)(k:Pk):Paired (fun(j:Nat) (e:Nat×Rs)=>L[j]?=some e) (c.plc L k) (L.filter fun e=>decide (c.has e.1 k)):=Paired.Kg (qG L 0) fun j e h=>h.2
theorem q5.get {c:eg}{pp:Addr}{g:Pk→List Nat}{Ol:List Addr}{kvp:List (fM×V)}{kl:List Pk}(B:q5 H c pp g Ol kvp kl){k:Pk}(d:k∈c.ks){t:Addr}(s:eF H H')(h:H' t=some (.lst [])):∃a,(eW kvp (fw (some k))).getD (.ref t)=.ref a∧H' a=some (.lst (gQ (g k))):=by
 rcases B.val k d with ⟨b,e⟩ | ⟨l,b,_,i⟩
 ·exact⟨t,by rw[b];rfl,by rw[e];exact h⟩
 ·exact⟨l,by rw[b];rfl,s _ _ i⟩
theorem sQ {l:List Nat}{x:V}(h:(gQ l)[i]?=some x):∃j,l[i]?=some j∧x=.int (j:Nat):=by
 unfold gQ at h;rw[ae]at h;obtain⟨j,h1,h2⟩:=aw.mp h;exact⟨j,h1,h2.symm⟩
theorem j5 {l:List Nat}(h:l[i]?=some m):tJ (gQ l) (i:Int)=some (V.int (m:Nat)):=by
 refine jM ?_;rw[im];unfold gQ;rw[ae,h];rfl
theorem yZ (r:Nat):Builtin.bitAnd (r:Int) ((r:Int)-1)=((r &&& (r-1):Nat):Int):=by
 rcases dM r with z | z
 ·subst z;have e:((0:Nat):Int)-1=Builtin.bitNot ((0:Nat):Int):=by unfold Builtin.bitNot;lia
  rw[e,qw];rfl
 ·rw[show(r:Int)-1=((r-1:Nat):Int) by lia,nU]
theorem tE {a b:Nat}:decide (V.int (a:Int)=V.int (b:Int))=decide (a=b):=by
 by_cases h:a=b
 ·rw[h,ao rfl,ao rfl]
 ·rw[au h,au];intro z;injection z with z
  lia
section
variable {base:Heap}{f:Addr}
theorem GI:eM ["self","pick","picked","place"] ["self","pick","picked"] (eE rX):=jc
theorem yj (F:iQ K "place_against" "Ledger.place_against" rX f fd)(T:TL K mg CL)(J:TC K mg CC):eZ P w K mg base fh 1 f fd ["self","pick","picked"] (pc CB CC CL):=by
 refine F.ok GI (fun vs H Q E h=>?_) (fun ag A S s H vs Q E hr h=>?_)
 ·obtain⟨G,p,ch,c,L,O,v,k,r,rfl,_⟩:=h;rfl
 obtain⟨G,p,ch,c,L,O,v,k,r,rfl,gh,hC,hL,Y,Z,q1,q2⟩:=h;have X:=gR hr;refine⟨_,(ee (fZ PassesOwn.never rfl (fO (qI X (eG T.cl T.nPp (pv 0)) (pv 1) (gl el) ⟨rfl,rfl,rfl,rfl⟩)) (eN (i:=3) GI.nd rfl (Or.inl rfl)) (eo (fz (fi kE (fm hJ (eK fg (eG T.cl T.nMa (pv 0)) (pv 3) (fun _ _=>rfl)) (iX kM (pv 2))) (fc X (eG J.cl J.nBits (eG T.cl T.nCh (pv 0))) (pv 1) (fun _ _=>rfl)) (fF _)) (eo (eL (pv 3))) eO))) (eo (eL i4))),?_⟩;obtain⟨dx,ma,re,pm,pp,as,rs,Ol,rfl,hp,R,a1,ap,ah,an,a0,kvp,kl,U⟩:=id hL.ex;have q:H p=some (.ins CL dx (AW ch ma re pm pp)):=gh.ins hp;obtain⟨cx,b,bits,ad,aa,al,sh,fo,st,c1,c2,c3,c4,c5,c6,c7,c8,c9⟩:=(hC.f gh).ex;refine⟨_,rfl,p,dx,_,_,rfl,q,(by kernel_rfl),pp,rfl,⟨_,.inl U.d⟩,_,rfl,(by show 0≤sizeLine;decide),fun t ht=>?_⟩;have g:=eA ht (.lst []);obtain⟨a,M,I⟩:=U.get Z g (t:=t) d0;refine⟨_,⟨kvp,fw (some k),.inl (g _ _ U.d),gB.key (w:=some k) (fD.same g Y),rfl⟩,?_⟩;rw[M];refine⟨a,rfl,⟨_,fb.of I⟩,?_⟩;generalize upd H t (.lst [])=H1 at *;refine gq (K:=K) (a:=a) (xs:=gQ (c.plc L k)) (fun i σ H2=>∃N,σ=[some (.ref p),some v,some (.int (r:Int)),N]∧H2=H1∧∀j∈(c.plc L k).take i,∀e,L[j]?=some e→ig e.1 r≠c.bit k) ⟨none,rfl,rfl,fun j o=>by simp at o⟩ (fun i σ H2 _ ⟨_,_,e,_⟩=>by rw[e];exact fb.of I) ?_ ?_
 ·rintro i x σ H2 hi ⟨N,rfl,rfl,l⟩;obtain⟨j,o,rfl⟩:=sQ hi;obtain⟨e,C,y⟩:=eg.LH.mp (ak o);have hm:(L.map (·.1))[j]?=some e.1:=by rw[ae,C];rfl
  refine⟨_,rfl,p,dx,_,_,rfl,g _ _ q,(by kernel_rfl),_,rfl,ma,_,_,_,rfl,rfl,fb.of (g _ _ R),j5 hm,_,rfl,_,rfl,_,_,rfl,rfl,?_⟩;refine⟨_,rfl,p,dx,_,_,rfl,g _ _ q,(by kernel_rfl),ch,cx,_,_,rfl,g _ _ c1,(by kernel_rfl),_,rfl,bits,_,rfl,(c4.same g).get (w:=some k) (gr Z) (fD.same g Y),rfl,_,rfl,?_⟩;dsimp only;have B:decide (V.int (Builtin.bitAnd (e.1:Int) (Builtin.bitNot (r:Int)))=V.int ((c.KC (some k):Nat):Int))=decide (ig e.1 r=c.bit k):=by
   rw[qw];exact tE
  rw[B];by_cases hd:ig e.1 r=c.bit k
  ·rw[ao hd];exact gL ⟨_,rfl,q1 H2 j e g C hd⟩
  ·rw[au hd];refine ff ⟨_,rfl,rfl,fun j' D e' m=>?_⟩;rw[fJ o]at D;rcases aB.mp D with z | z
   ·exact l j' z e' m
   ·rw[ai.mp z,C]at m;cases m;exact hd
 ·rintro σ H2 ⟨N,rfl,rfl,l⟩;unfold gQ at l;rw[ab,aH]at l;refine q2 (fun e C y=>?_) H2 g;obtain⟨j,o⟩:=az.mp C;exact l j (eg.LH.mpr ⟨e,o,y⟩) e o
theorem zJ:eM ["self","pick","picked","barred","place","rest"] ["self","pick","picked"] (eE sw):=jc
theorem yB (F:iQ K "barred_with" "Ledger.barred_with" sw f fd)(T:TL K mg CL):eZ P w K mg base fh 1 f fd ["self","pick","picked"] (pz CB CC CL):=by
 refine F.ok zJ (fun vs H Q E h=>?_) (fun aa A N s H vs Q E hr h=>?_)
 ·obtain⟨G,p,ch,c,L,O,v,k,g,rfl,_⟩:=h;rfl
 obtain⟨G,p,ch,c,L,O,v,k,g,rfl,gh,hC,Z,hv,hk,q⟩:=h;have hu:=gR hr;refine⟨_,(ee (eJ (i:=3) zJ.nd rfl (Or.inl rfl) et) (ee (fZ PassesOwn.never rfl (fO (qI hu (eG T.cl T.nPp (pv 0)) (pv 1) (gl el) ⟨rfl,rfl,rfl,rfl⟩)) (eN (i:=4) zJ.nd rfl (Or.inl rfl)) (ee (eJ (i:=5) zJ.nd rfl (Or.inl rfl) (fm hJ (eK fg (eG T.cl T.nMa (pv 0)) (pv 4) (fun _ _=>rfl)) (iX kM (pv 2)))) (eo (fz (fi kE (fm hJ (pv 5) (fm As (pv 5) et)) et (fF _)) (eo (ki (i:=3) zJ.nd rfl (Or.inl rfl) (pv 5) ul)) eO)))) (eo (eL (pv 3))))),?_⟩;obtain⟨dx,X,re,pm,pp,al,rs,Ol,rfl,hp,M,ap,ah,ad,ag,an,kvp,kl,U⟩:=id Z.ex;have z:H p=some (.ins CL dx (AW ch X re pm pp)):=gh.ins hp;refine⟨_,rfl,p,dx,_,_,rfl,z,(by kernel_rfl),pp,rfl,⟨_,.inl U.d⟩,_,rfl,(by show 0≤sizeLine;decide),fun t Y=>?_⟩;have m:=eA Y (.lst []);obtain⟨a,C,B⟩:=U.get hk m (t:=t) d0;refine⟨_,⟨kvp,fw (some k),.inl (m _ _ U.d),gB.key (w:=some k) (fD.same m hv),rfl⟩,?_⟩;rw[C];refine⟨a,rfl,⟨_,fb.of B⟩,?_⟩;generalize upd H t (.lst [])=H1 at *;have o:=Ab c L k;have lp:=Paired.length o;generalize J:(L.filter fun e=>decide (c.has e.1 k))=es at *
 let bf:Nat→Nat×Rs→Nat:=fun b e=>let r:=ig e.1 g;if r &&& (r-1)=0 then b ||| r else b
 have I:c.Ll L k g=es.foldl bf 0:=by unfold eg.Ll;rw[J]
 refine gq (K:=K) (a:=a) (xs:=gQ (c.plc L k)) (fun i σ H2=>∃R D,σ=[some (.ref p),some v,some (.int (g:Int)),some (.int (((es.take i).foldl bf 0:Nat):Int)),R,D]∧H2=H1) ⟨none,none,rfl,rfl⟩ (fun i σ H2 _ ⟨_,_,_,e⟩=>by rw[e];exact fb.of B) ?_ ?_
 ·rintro i x σ H2 hi ⟨R,D,rfl,rfl⟩;obtain⟨j,hj,rfl⟩:=sQ hi;obtain⟨e,S,he⟩:=Paired.KA o hj;have hm:(L.map (·.1))[j]?=some e.1:=by rw[ae,he];rfl
  refine⟨_,rfl,p,dx,_,_,rfl,m _ _ z,(by kernel_rfl),_,rfl,X,_,_,_,rfl,rfl,fb.of (m _ _ M),j5 hm,_,rfl,_,rfl,_,_,rfl,rfl,?_⟩;dsimp only;rw[qw];refine⟨_,rfl,_,rfl,_,_,rfl,rfl,_,_,rfl,rfl,rfl,_,rfl,?_⟩;have y:decide (V.int (Builtin.bitAnd ((ig e.1 g:Nat):Int) (((ig e.1 g:Nat):Int)-1))=V.int 0)=decide (ig e.1 g &&& (ig e.1 g-1)=0):=by
   rw[yZ];exact tE (b:=0)
  skip;rw[y];have l:(es.take (i+1)).foldl bf 0=bf ((es.take i).foldl bf 0) e:=by rw[fJ S,List.foldl_append];rfl
  by_cases hd:ig e.1 g &&& (ig e.1 g-1)=0
  ·rw[ao hd];refine gL ⟨_,rfl,_,rfl,_,_,rfl,rfl,some (.int (j:Nat)),some (.int (ig e.1 g:Nat)),?_,rfl⟩;rw[xg,l];show _=[some (V.ref p),some v,some (V.int ↑g),some (V.int ((if _ then _ else _:Nat):Int)),_,_];rw[if_pos hd];rfl
  ·rw[au hd];refine ff ⟨some (.int (j:Nat)),some (.int (ig e.1 g:Nat)),?_,rfl⟩;rw[l];show _=[some (V.ref p),some v,some (V.int ↑g),some (V.int ((if _ then _ else _:Nat):Int)),_,_];rw[if_neg hd];rfl
 ·rintro σ H2 ⟨R,D,rfl,rfl⟩;unfold gQ;rw[ab,lp,aH,←I];exact⟨_,rfl,q H2 m⟩
end
inductive BD (CB CC CL:Addr)(vs:List V)(H:Hp)(Q:VK)(E:XK):Prop
 |mk (G:Hp)(p ch:Addr)(c:eg)(L:iu)(O:List Addr)(_:vs=[.ref p])(_:eB G H)(_:iw CB CC G ch c)(_:gj CL G H p ch c L O)(_:c.n<64)(_:(∀e∈L,e.1<2^c.n))(_:L.length<sizeLine)(_:∀a H',eF H H'→lC H' a (c.lns L)→Q (.ref a) H'):BD CB CC CL vs H Q E
def rp (CB CC CL:Addr):Sp:=BD CB CC CL
theorem x5 {ps:List Addr}(e:eF H H'):eF (del H ps) (del H' ps):=fun a u h=>by
 have na:a∉ps:=fun z=>by rw[fL z]at h;cases h
 rw[eD na]at h ⊢;exact e a u h
theorem DR:(["mask","reason","self"]:List Str).Nodup:=by decide +kernel
abbrev zd (a b w:V):List (Str×V):=[("picked",a),("dead",b),("wanted",w)]
abbrev ut (x s b:V):List (Str×V):=[("part",x),("stand",s),("bit",b)]
abbrev xY (ch le fl:Addr):List (Str×V):=[("chart",.ref ch),("ledger",.ref le),("forks",.ref fl)]
inductive xm (C:Addr)(vs:List V)(H:Hp)(Q:VK)(E:XK):Prop
 |mk (p dx:Addr)(a b w:V)(_:vs=[.ref p,a,b,w])(_:H p=some (.ins C dx []))(_:Q .non (upd H p (.ins C dx (zd a b w)))):xm C vs H Q E
def mw (C:Addr):Sp:=xm C
inductive xF (C:Addr)(vs:List V)(H:Hp)(Q:VK)(E:XK):Prop
 |mk (p dx:Addr)(x s:V)(_:vs=[.ref p,x,s])(_:H p=some (.ins C dx []))(_:Q .non (upd H p (.ins C dx (ut x s (.int 0))))):xF C vs H Q E
def pr (C:Addr):Sp:=xF C
structure DF (K:W.Frag)(mg:Str→Option Value)(C:Addr):Prop where
 cl:qx K C
 nPi:fU K C "picked"
 nDe:fU K C "dead"
 nWa:fU K C "wanted"
structure BR (K:W.Frag)(mg:Str→Option Value)(C:Addr):Prop where
 cl:qx K C
 nPa:fU K C "part"
 nSt:fU K C "stand"
 nBi:fU K C "bit"
theorem JW (a:V):fX ("picked" : Str) a []=([("picked",a)]:List (Str×V)):=by kernel_rfl
theorem Gz (a b w:V):fX ("wanted" : Str) w (fX ("dead" : Str) b (fX ("picked" : Str) a []))=zd a b w:=by kernel_rfl
theorem J9 (a b w:V):fX ("bit" : Str) w (fX ("stand" : Str) b (fX ("part" : Str) a []))=ut a b w:=by kernel_rfl
section
variable {base:Heap}{f:Addr}
theorem IQ:eM ["self"] ["self"] (eE vf):=jc
theorem Av (F:iQ K "told" "Ledger.told" vf f fd)(T:TL K mg CL)(ML:Mt P w K mg base CC fh 1 "listed" ["self","mask"] (jg CC)):eZ P w K mg base fh 2 f fd ["self"] (rp CB CC CL):=by
 refine F.ok IQ (fun vs H Q E h=>?_) (fun bv A a8 s H vs Q E hr h=>?_)
 ·obtain⟨G,p,ch,c,L,O,rfl,_⟩:=h;rfl
 obtain⟨G,p,ch,c,L,O,rfl,gh,hC,hL,bm,a4,b4,q⟩:=h;have hu:=gR hr;refine⟨_,(eo (eL (iH (N':=["mask","reason","self"]) (n:=2) (js:=[0]) rfl (iO.one (c:=s.heap.objs.size+1) (y:="self") rfl rfl (by decide +kernel) rfl (by decide +kernel) (by decide +kernel) rfl rfl rfl rfl rfl) (FH (m:=2) (uo (iq (by decide)) tj (uo (iq (by decide)) tj Ds wX) (Bg tj wX))) (EW rfl T.zip (eG T.cl T.nMa (pv 0)) (eG T.cl T.nRe (pv 0))) (fun C s2 H2 fp=>nF (n:=2) rfl (gz (eN (i:=0) DR rfl (Or.inl rfl)) (gz (eN (i:=1) DR rfl (Or.inl rfl)) lF))) (fun C s2 H2 fp=>jI) (fun C s2 H2 fp=>gT (dZ (ib ML hr eT (eG T.cl T.nCh (pv 2)) (dZ (pv 0) el)) (dZ (pv 1) el)))))),?_⟩;obtain⟨dx,ma,re,pm,pp,b3,rs,Ol,rfl,hp,d,j,Y,bx,b2,b6,kvp,kl,hB⟩:=id hL.ex;have R:H p=some (.ins CL dx (AW ch ma re pm pp)):=gh.ins hp;have lL:(gQ (L.map (·.1))).length=L.length:=by unfold gQ;rw[ab,ab]
 have bf:rs.length=L.length:=by rw[Paired.length Y,ab]
 have a9:(c.lns L).length=L.length:=by unfold eg.lns;rw[ab]
 refine⟨_,rfl,p,dx,_,_,rfl,R,(by kernel_rfl),_,rfl,p,dx,_,_,rfl,R,(by kernel_rfl),ma,re,_,_,rfl,rfl,d,j,?_⟩;refine xc (n:=L.length) (fun D i ys H2=>H D=none∧H2 D=some (.lst ys)∧eF H H2∧Paired (qk (del H2 [D])) ys ((c.lns L).take i)) (fun D hD=>⟨hD,d0,eA hD _,.nil⟩) (fun D i ys H2 hi ⟨N,I,b,J⟩=>?_) (fun D i x ys H2 H3 hi hy ⟨N,I,b,J⟩=>?_) (fun D ys H2 ⟨N,I,b,J⟩=>?_)
 ·refine⟨fun r=>⟨_,_,(gQ (L.map (·.1)))[i]'(by rw[lL];exact r),rs[i]'(by rw[bf];exact r),fb.of (b _ _ d),fb.of (b _ _ j),aj _,aj _⟩,fun al=>⟨_,_,fb.of (b _ _ d),fb.of (b _ _ j),.inl (by rw[lL,al];exact aq _)⟩,I,?_⟩
  have:=Paired.length J;rw[aS]at this
  lia
 ·obtain⟨t,mv,g,ht,rfl,rfl,hm,ah⟩:=hy;obtain⟨m,Z,rfl⟩:=sQ (hm _ (fb.of (b _ _ d)));have bl:=ah _ (fb.of (b _ _ j));rw[ae]at Z;obtain⟨e,he,rfl⟩:=aw.mp Z;have ag:mi G g e.2:=by
   obtain⟨r',U,ad⟩:=Paired.KA Y bl;rw[ae,he]at U;cases U;exact ad
  have s1:=eA ht (.tup [.int (e.1:Nat),g]);have b1:D≠t:=er I ht;have a2:=b.trans s1;have g1:eB G (upd H2 t (.tup [.int (e.1:Nat),g])):=gh.trans a2.toF;have a0:(c.lns L)[i]?=some (c.listed e.1,e.2):=by unfold eg.lns;rw[ae,he];rfl
  generalize a3:upd H2 t (.tup [.int (e.1:Nat),g])=H3 at *;have a1:H3 t=some (.tup [.int (e.1:Nat),g]):=by rw[←a3];exact d0
  refine⟨t,_,rfl,gy.of a1,rfl,_,_,rfl,_,_,rfl,rfl,?_⟩;unfold rj;dsimp only;rw[if_pos rfl];obtain⟨cx,ap,b5,aa,bd,bq,ba⟩:=uB (hC.f g1);refine⟨_,rfl,p,dx,_,_,rfl,g1.ins hp,(by kernel_rfl),ch,cx,_,rfl,aa,ba,_,rfl,H3,ch,cx,ap,_,c,_,rfl,eB.refl _,aa,bd,bq,bm,a4 e (ak he),fun l xs H4 s4 hl an a5 as=>?_⟩;refine⟨_,rfl,(by show 2≤sizeLine;decide),fun u M=>?_⟩;have S:=eA M (.tup [.ref l,g]);have B:=s1 _ _ I;have X:=s4 _ _ B;have a7:D≠l:=er B hl;have a6:D≠u:=er X M;have o:eF H2 (upd H4 u (.tup [.ref l,g])):=s1.trans (s4.trans S);refine⟨S _ _ X,N,d0,fun a v z=>?_,?_⟩
  ·rw[ef (fun y:a=D=>by rw[y,N]at z;cases z)];exact o _ _ (b _ _ z)
  ·rw[qd (by simp),fJ a0];refine Paired.snoc (Paired.Kg J fun _ _ z=>z.same (x5 o)) ⟨u,l,g,rfl,?_,⟨xs,?_,?_⟩,?_⟩
   ·rw[eD (by simpa using Ne.symm a6)];exact d0
   ·rw[eD (by simpa using Ne.symm a7)];exact S _ _ an
   ·refine Paired.Kg a5 ?_;rintro v k ⟨kq,z1,z2⟩;refine⟨kq,z1,?_⟩;rw[eD (by simpa using fun y:kq=D=>by rw[y,B]at z2;cases z2)];exact S _ _ (s4 _ _ z2)
   ·have sG:eB G (del (upd H4 u (.tup [.ref l,g])) [D]):=fun a v z=>by
     have nD:a≠D:=fun y=>by
      have:=gh a v z;rcases this with w | ⟨_,_,w⟩ <;> (rw[y,N]at w;cases w)
     rw[eD (by simpa using nD)];exact(g1.trans (s4.trans S).toF) a v z
    exact ag.f sG
 ·rw[←a9,aH]at J;exact q D H2 b ⟨ys,I,Paired.Kg J fun _ _ z=>z.same (fB _ _)⟩
theorem GF:eM ["self","picked","dead","wanted"] ["self","picked","dead","wanted"] (eE rT):=jc
theorem yg (F:iQ K "__init__" "Stand.__init__" rT f fd)(T:DF K mg C):eZ P w K mg base fh 1 f fd ["self","picked","dead","wanted"] (mw C):=by
 refine F.ok GF (fun vs H Q E h=>?_) (fun g A d s H vs Q E i h=>?_)
 ·obtain⟨p,dx,a,b,w,rfl,_⟩:=h;rfl
 obtain⟨p,dx,a,b,w,rfl,hp,q⟩:=h;refine⟨_,(ee (jF T.cl T.nPi (pv 0) (pv 1)) (ee (jF T.cl T.nDe (pv 0) (pv 2)) (eo (jF T.cl T.nWa (pv 0) (pv 3))))),?_⟩;refine⟨_,rfl,_,rfl,p,dx,_,rfl,hp,(by decide),_,rfl,_,rfl,p,dx,_,rfl,d0,(by rw[JW];show 1<1000;decide),_,rfl,_,rfl,p,dx,_,rfl,d0,?_,?_⟩
 ·have:=Gz a b w;refine bJ (m:=2) ?_ (by decide);have e:(fX ("dead" : Str) b (fX ("picked" : Str) a []))=([("picked",a),("dead",b)]:List (Str×V)):=by kernel_rfl
  rw[e];exact aq _
 ·rw[i8,i8,Gz];exact q
theorem IU:eM ["self","part","stand"] ["self","part","stand"] (eE sr):=jc
theorem yy (F:iQ K "__init__" "Fork.__init__" sr f fd)(T:BR K mg C):eZ P w K mg base fh 1 f fd ["self","part","stand"] (pr C):=by
 refine F.ok IU (fun vs H Q E h=>?_) (fun g A d s H vs Q E i h=>?_)
 ·obtain⟨p,dx,a,b,rfl,_⟩:=h;rfl
 obtain⟨p,dx,a,b,rfl,hp,q⟩:=h;refine⟨_,(ee (jF T.cl T.nPa (pv 0) (pv 1)) (ee (jF T.cl T.nSt (pv 0) (pv 2)) (eo (jF T.cl T.nBi (pv 0) et)))),?_⟩;refine⟨_,rfl,_,rfl,p,dx,_,rfl,hp,(by decide),_,rfl,_,rfl,p,dx,_,rfl,d0,?_,_,rfl,p,dx,_,rfl,d0,?_,?_⟩
 ·have e:(fX ("part" : Str) a [])=([("part",a)]:List (Str×V)):=by kernel_rfl
  rw[e];show 1<1000;decide
 ·have e:(fX ("stand" : Str) b (fX ("part" : Str) a []))=([("part",a),("stand",b)]:List (Str×V)):=by kernel_rfl
  rw[e];show 2<1000;decide
 ·rw[i8,i8,J9];exact q
end
inductive HM (P:Program)(w:World)(K:W.Frag)(mg:Str→Option Value)(base:Heap)(C:Addr)(CX:xS)(k:Nat)(x:Str)(ps:List Str)(sp:Sp):Prop
 |mk (f fd:_)(_:Mk K C f)(_:eZ P w K mg base CX k f fd ps sp)(_:gi K fd ps []):HM P w K mg base C CX k x ps sp
structure xK (P:Program)(w:World)(K:W.Frag)(mg:Str→Option Value)(base:Heap)(C:Addr)(CX:xS)(k:Nat)(x:Str)(ps:List Str)(sp:Sp):Prop where
 nm:mg x=some (.ref C)
 ex:HM P w K mg base C CX k x ps sp
theorem pP {X:Cx}{CX:xS}{k:Nat}{e:Expr}{es:List Expr}{ps:List Str}{sp:Sp}{E:XK}{pos p:Pos}{t:TA}(M:xK X.prog X.w X.K X.mg X.base C CX k x ps sp)(d:gM (k+1) X.A)(g:Gl X x)(h:jW CX X E)(a:PA X (e::es) t)(hdb:(x == ("__debug__" : Str))=false:=by decide)(he:starEach (e::es) X.env=(false,eval e X.env)::starEach es X.env:=by rfl)(hpl:(backTo pos (starEach es X.env)).any (·.1)=false:=by rfl):PE X (.Call (.Name x p) (e::es) [] pos) (DJ C sp [] E t):=by
 obtain⟨f,fd,m,F,b⟩:=M.ex;exact CZ m F d g M.nm b .nil h a hdb he hpl
inductive xx (CL:Addr)(vs:List V)(H:Hp)(Q:VK)(E:XK):Prop
 |mk (p dx ch:Addr)(_:vs=[.ref p,.ref ch])(_:H p=some (.ins CL dx []))(_:∀(ma re pm pp:Addr) (H':Hp),eB (del H [p]) H'→H' p=some (.ins CL dx (AW ch ma re pm pp))→H' ma=some (.lst [])→H' re=some (.lst [])→H' pm=some (.dK [])→H' pp=some (.dN [])→[ma,re,pm,pp].Nodup→(∀a∈[ma,re,pm,pp],H a=none)→Q .non H'):xx CL vs H Q E
def pf (CL:Addr):Sp:=xx CL
inductive xn (CL CS:Addr)(vs:List V)(H:Hp)(Q:VK)(E:XK):Prop
 |mk (G:Hp)(p dx ch:Addr)(c:eg)(_:vs=[.ref p,.ref ch])(_:eB G H)(_:G p=none)(_:H p=some (.ins CS dx []))(_:∀(G' H':Hp) (le fl:Addr) (O:List Addr),eB G G'→eB G' H'→(∀a,G a=none→G' a≠none→H a=none∨a=p)→(∀a∈O,H a=none)→H fl=none→fl∉O→G' fl=none→eB (del H [p]) H'→G' p=some (.ins CS dx (xY ch le fl))→gj CL G' H' le ch c [] O→H' fl=some (.lst [])→Q .non H'):xn CL CS vs H Q E
def pb (CL CS:Addr):Sp:=xn CL CS
abbrev Gb (ch:Addr):List (Str×V):=[("chart",.ref ch)]
abbrev Il (ch ma:Addr):List (Str×V):=[("chart",.ref ch),("masks",.ref ma)]
abbrev Ik (ch ma re:Addr):List (Str×V):=[("chart",.ref ch),("masks",.ref ma),("reasons",.ref re)]
abbrev Ij (ch ma re pm:Addr):List (Str×V):=[("chart",.ref ch),("masks",.ref ma),("reasons",.ref re),("place_by_mask",.ref pm)]
theorem JE (ch:Addr):fX ("chart" : Str) (V.ref ch) []=Gb ch:=by kernel_rfl
theorem Ii (ch a:Addr):fX ("masks" : Str) (V.ref a) (Gb ch)=Il ch a:=by kernel_rfl
theorem J7 (ch a b:Addr):fX ("reasons" : Str) (V.ref b) (Il ch a)=Ik ch a b:=by kernel_rfl
theorem J6 (ch a b pm:Addr):fX ("place_by_mask" : Str) (V.ref pm) (Ik ch a b)=Ij ch a b pm:=by kernel_rfl
theorem J5 (ch a b pm pp:Addr):fX ("places_by_pick" : Str) (V.ref pp) (Ij ch a b pm)=AW ch a b pm pp:=by kernel_rfl
abbrev I0 (ch le:Addr):List (Str×V):=[("chart",.ref ch),("ledger",.ref le)]
theorem IN (ch le:Addr):fX ("ledger" : Str) (V.ref le) (Gb ch)=I0 ch le:=by kernel_rfl
theorem IM (ch le fl:Addr):fX ("forks" : Str) (V.ref fl) (I0 ch le)=xY ch le fl:=by kernel_rfl
structure tO (K:W.Frag)(mg:Str→Option Value)(C:Addr):Prop where
 cl:qx K C
 nCh:fU K C "chart"
 nLe:fU K C "ledger"
 nFo:fU K C "forks"
 dict:mg "dict" = none
 min:mg "min" = none
 list:mg "list" = none
 enum:mg "enumerate" = none
 rev:mg "reversed" = none
section
variable {base:Heap}{f:Addr}
theorem GO:eM ["self","chart"] ["self","chart"] (eE r9):=jc
theorem yp (F:iQ K "__init__" "Ledger.__init__" r9 f fd)(T:TL K mg CL):eZ P w K mg base fh 1 f fd ["self","chart"] (pf CL):=by
 refine F.ok GO (fun vs H Q E h=>?_) (fun Z A G s H vs Q E hr h=>?_)
 ·obtain⟨p,dx,ch,rfl,_⟩:=h;rfl
 obtain⟨p,dx,ch,rfl,hp,q⟩:=h;refine⟨_,(ee (jF T.cl T.nCh (pv 0) (pv 1)) (ee (jF T.cl T.nMa (pv 0) (gl el)) (ee (jF T.cl T.nRe (pv 0) (gl el)) (ee (jF T.cl T.nPm (pv 0) il) (eo (jF T.cl T.nPp (pv 0) mI)))))),?_⟩;have m:del H [p] p=none:=fL (by simp);have J:eB (del H [p]) H:=(fB _ _).toF;generalize D:del H [p]=G0 at *;refine⟨_,rfl,_,rfl,p,dx,_,rfl,hp,(by decide),?_⟩;generalize x:upd H p (.ins CL dx (fX ("chart" : Str) (V.ref ch) []))=H1;have v:H1 p=some (.ins CL dx (Gb ch)):=by rw[←x,d0,JE]
 have I:eB G0 H1:=by rw[←x];exact J.upd m
 have aa:∀a,H1 a=none→H a=none:=fun a e=>by
  rw[←x]at e;by_cases z:a=p
  ·rw[z,d0]at e;cases e
  ·rw[ef z]at e;exact e
 refine⟨(by show 0≤sizeLine;decide),fun b B=>?_⟩;refine⟨_,rfl,p,dx,_,rfl,(by rw[ef (er v B)];exact v),(by show 1<1000;decide),?_⟩;rw[Ii];have j:=jd (fs':=Il ch b) (u:=.lst []) I m v B;generalize upd (upd H1 b (.lst [])) p (.ins CL dx (Il ch b))=H2 at j ⊢;refine⟨(by show 0≤sizeLine;decide),fun o y=>?_⟩;refine⟨_,rfl,p,dx,_,rfl,(by rw[ef (er j.p y)];exact j.p),(by show 2<1000;decide),?_⟩;rw[J7];have i:=jd (fs':=Ik ch b o) (u:=.lst []) j.g m j.p y;generalize upd (upd H2 o (.lst [])) p (.ins CL dx (Ik ch b o))=H3 at i ⊢;intro pm t;refine⟨_,rfl,p,dx,_,rfl,(by rw[ef (er i.p t)];exact i.p),(by show 3<1000;decide),?_⟩;rw[J6];have d:=jd (fs':=Ij ch b o pm) (u:=.dK []) i.g m i.p t;generalize upd (upd H3 pm (.dK [])) p (.ins CL dx (Ij ch b o pm))=H4 at d ⊢;intro pp l;refine⟨_,rfl,p,dx,_,rfl,(by rw[ef (er d.p l)];exact d.p),(by show 4<1000;decide),?_⟩;rw[J5];have r:=jd (fs':=AW ch b o pm pp) (u:=.dN []) d.g m d.p l;generalize upd (upd H4 pp (.dN [])) p (.ins CL dx (AW ch b o pm pp))=H5 at r ⊢;have L:=i.keep _ _ j.np j.a;have O:=d.keep _ _ j.np L;have m5:=r.keep _ _ j.np O;have M:=d.keep _ _ i.np i.a;have Y:=r.keep _ _ i.np M;have R:=r.keep _ _ d.np d.a;have e1:b≠o:=er j.a y;have X:b≠pm:=er L t;have e3:b≠pp:=er O l;have e4:o≠pm:=er i.a t;have S:o≠pp:=er M l;have U:pm≠pp:=er d.a l;have C:∀a,G0 a=none→a≠p→H a=none:=fun a e n=>by rw[←D,eD (by simpa using n)]at e;exact e
 refine q b o pm pp H5 r.g r.p m5 Y R r.a ?_ fun a N=>?_
 ·simp only[aV,am,aJ,or_false,not_or,not_false_eq_true,bY,and_true];exact⟨⟨e1,X,e3⟩,⟨e4,S⟩,U⟩
 ·simp only[am,aJ,or_false]at N;rcases N with z | z | z | z
  ·rw[z];exact C _ j.ga j.np
  ·rw[z];exact C _ i.ga i.np
  ·rw[z];exact C _ d.ga d.np
  ·rw[z];exact C _ r.ga r.np
theorem GH:eM ["self","chart"] ["self","chart"] (eE rV):=jc
theorem yh (F:iQ K "__init__" "Search.__init__" rV f fd)(T:tO K mg CS)(ML:xK P w K mg base CL fh 1 "Ledger" ["self","chart"] (pf CL)):eZ P w K mg base fh 3 f fd ["self","chart"] (pb CL CS):=by
 refine F.ok GH (fun vs H Q E h=>?_) (fun bl A a8 s H vs Q E hr h=>?_)
 ·obtain⟨G,p,dx,ch,c,rfl,_⟩:=h;rfl
 obtain⟨G,p,dx,ch,c,rfl,gh,gp,hp,q⟩:=h;refine⟨_,(ee (jF T.cl T.nCh (pv 0) (pv 1)) (ee (jF T.cl T.nLe (pv 0) (pP ML hr rfl eT (dZ (pv 1) el))) (eo (jF T.cl T.nFo (pv 0) (gl el))))),?_⟩;have ah:del H [p] p=none:=fL (by simp);have a5:eB (del H [p]) H:=(fB _ _).toF;have J:eB G (del H [p]):=fun a u e=>by
  have na:a≠p:=fun z=>by rw[z,gp]at e;cases e
  rw[eD (by simpa using na)];exact gh a u e
 generalize bf:del H [p]=G0 at *;refine⟨_,rfl,_,rfl,p,dx,_,rfl,hp,(by decide),?_⟩;generalize ad:upd H p (.ins CS dx (fX ("chart" : Str) (V.ref ch) []))=H1;have M:H1 p=some (.ins CS dx (Gb ch)):=by rw[←ad,d0,JE]
 have B:eB G0 H1:=by rw[←ad];exact a5.upd ah
 have aa:∀a,H1 a=none→H a=none:=fun a e=>by
  rw[←ad]at e;by_cases z:a=p
  ·rw[z,d0]at e;cases e
  ·rw[ef z]at e;exact e
 refine⟨_,rfl,fun d r I as a6=>?_⟩;have n1:p≠d:=er M I;have n2:p≠r:=er M as;have s2:eF H1 (upd (upd H1 r (.own d)) d (.ins CL r [])):=(eA as _).trans (eA (by rw[ef (Ne.symm a6)];exact I) _);have Y:upd (upd H1 r (.own d)) d (.ins CL r []) d=some (.ins CL r []):=d0;have an:∀a,upd (upd H1 r (.own d)) d (.ins CL r []) a=none→H1 a=none:=fun a e=>s2.free e;generalize upd (upd H1 r (.own d)) d (.ins CL r [])=H2 at *;refine⟨d,r,ch,rfl,Y,fun C x pm pp t R D S N L j ba a0=>⟨rfl,?_⟩⟩;have O:t p=some (.ins CS dx (Gb ch)):=R.ins (by rw[eD (by simpa using n1)];exact s2 _ _ M);refine⟨_,rfl,p,dx,_,rfl,O,(by show 1<1000;decide),?_⟩;rw[IN];refine⟨(by show 0≤sizeLine;decide),fun fl U=>?_⟩;have n3:p≠fl:=fun z=>by rw[z,d0]at U;cases U
 refine⟨_,rfl,p,dx,_,rfl,(by rw[ef n3];exact d0),(by show 2<1000;decide),?_⟩;rw[IM];have b:t fl=none:=by rw[ef (Ne.symm n3)]at U;exact U
 have eH:upd (upd (upd t p (.ins CS dx (I0 ch d))) fl (.lst [])) p (.ins CS dx (xY ch d fl))=upd (upd t fl (.lst [])) p (.ins CS dx (xY ch d fl)):=by
  funext a
  by_cases z:a=p
  ·rw[z,d0,d0]
  ·rw[ef z,ef z];by_cases y:a=fl
   ·rw[y,d0,d0]
   ·rw[ef y,ef y,ef z]
 rw[eH];have k4:∀a,a≠p→a≠fl→upd (upd t fl (.lst [])) p (.ins CS dx (xY ch d fl)) a=t a:=fun a z y=>by rw[ef z,ef y]
 have a4:upd (upd t fl (.lst [])) p (.ins CS dx (xY ch d fl)) p=some (.ins CS dx (xY ch d fl)):=d0;have a3:upd (upd t fl (.lst [])) p (.ins CS dx (xY ch d fl)) fl=some (.lst []):=by rw[ef (Ne.symm n3)];exact d0
 generalize upd (upd t fl (.lst [])) p (.ins CS dx (xY ch d fl))=H4 at *;have hO:∀a∈[C,x,pm,pp],H1 a=none:=fun a g=>an a (a0 a g);have a9:∀a,t a=none→H2 a=none:=fun a e=>by
  by_cases z:a=d
  ·rw[z,D]at e;cases e
  ·have:=R.free e;rw[eD (by simpa using z)]at this;exact this
 have Z:H1 fl=none:=an fl (a9 fl b);have X:fl∉[C,x,pm,pp]:=fun z=>by
  simp only[am,aJ,or_false]at z;rcases z with z | z | z | z
  ·rw[z,S]at b;cases b
  ·rw[z,N]at b;cases b
  ·rw[z,L]at b;cases b
  ·rw[z,j]at b;cases b
 have a2:d≠fl:=er D b;have ag:∀a∈[C,x,pm,pp],a≠p:=fun a g z=>by have:=hO a g;rw[z,M]at this;cases this
 have bd:∀a∈[C,x,pm,pp],a≠d:=fun a g z=>by have:=a0 a g;rw[z,Y]at this;cases this
 have a7:∀a∈[C,x,pm,pp],a≠fl:=fun a g z=>X (z▸g);have ap:eB G0 t:=fun a u e=>by
  have na:a≠d:=fun z=>by
   have:=B.free I;rw[z,this]at e;cases e
  rcases B a u e with z | ⟨z1,o,z2⟩
  ·exact R a u (by rw[eD (by simpa using na)];exact s2 _ _ z)
  ·exact .inr ⟨z1,o,R.frz (by rw[eD (by simpa using na)];exact s2 _ _ z2)⟩
 have a1:eB G0 H4:=fun a u e=>by
  have z1:a≠p:=fun z=>by rw[z,ah]at e;cases e
  have z2:a≠fl:=fun z=>by
   have:=ap.free b;rw[z,this]at e;cases e
  rw[k4 a z1 z2];exact ap a u e
 have al:H4 d=some (.ins CL r (AW ch C x pm pp)):=by rw[k4 d (Ne.symm n1) a2];exact D
 refine q (upd (upd G d (.ins CL r (AW ch C x pm pp))) p (.ins CS dx (xY ch d fl))) H4 d fl [C,x,pm,pp] ?_ ?_ ?_ ?_ (aa fl Z) X ?_ a1 d0 ?_ a3
 ·exact((eB.refl G).upd (J.free (B.free I))).upd gp
 ·intro a u e;by_cases z:a=p
  ·rw[z,d0]at e;rw[z,a4];exact .inl e
  ·rw[ef z]at e;by_cases y:a=d
   ·rw[y,d0]at e;rw[y,al];exact .inl e
   ·rw[ef y]at e;exact(J.trans a1) a u e
 ·intro a e n;by_cases z:a=p
  ·exact .inr z
  ·rw[ef z]at n;by_cases y:a=d
   ·rw[y];exact .inl (aa d I)
   ·rw[ef y]at n;exact absurd e n
 ·exact fun a g=>aa a (hO a g)
 ·rw[ef (Ne.symm n3),ef (Ne.symm a2)];exact J.free (B.free Z)
 ·have k5:∀a∈[C,x,pm,pp],H4 a=t a:=fun a g=>k4 a (ag a g) (a7 a g);refine⟨⟨r,C,x,pm,pp,[],[],[],rfl,?_,?_,?_,.nil,?_,aq _,fun m=>rfl,[],[],?_,rfl,bY,(fun k hk=>nomatch hk),(fun k hk=>Or.inl ⟨rfl,rfl⟩),(fun k k2 l h=>nomatch h)⟩,fun a g=>?_,fun a g=>?_,fun a g v i=>?_,ba⟩
  ·rw[ef (Ne.symm n1),d0]
  ·rw[k5 C (by simp)];exact S
  ·rw[k5 x (by simp)];exact N
  ·rw[k5 pm (by simp)];exact L
  ·rw[k5 pp (by simp)];exact j
  ·rw[ef (ag a g),ef (bd a g)];exact J.free (B.free (hO a g))
  ·rw[k5 a g];simp only[am,aJ,or_false]at g;rcases g with z | z | z | z
   ·exact⟨_,by rw[z];exact S⟩
   ·exact⟨_,by rw[z];exact N⟩
   ·exact⟨_,by rw[z];exact L⟩
   ·exact⟨_,by rw[z];exact j⟩
  ·rw[k5 a g]at i;simp only[am,aJ,or_false]at g;rcases g with z | z | z | z
   ·rw[z,S]at i;cases i;exact fun q=>q
   ·rw[z,N]at i;cases i;exact fun q=>q
   ·rw[z,L]at i;cases i;exact fun q=>q
   ·rw[z,j]at i;cases i;exact fun q=>q
end
structure Se (CB CC CS:Addr)(G H:Hp)(p ch le fl:Addr)(c:eg):Prop where
 gh:eB G H
 self:∃dx,G p=some (.ins CS dx (xY ch le fl))
 chart:iw CB CC G ch c
 n:c.n<64
 nds:∀w,(c.needs w).length≤100
 sm:∀L,gX c L→L.length<sizeLine
theorem Se.grow {G':Hp}{le fl:Addr}{c:eg}(h:Se CB CC CS G H p ch le fl c)(gg:eB G G')(gh:eB G' H'):Se CB CC CS G' H' p ch le fl c:=
 ⟨gh,let ⟨dx,e⟩:=h.self;⟨dx,gg.ins e⟩,h.chart.f gg,h.n,h.nds,h.sm⟩
theorem Se.same {le fl:Addr}{c:eg}(h:Se CB CC CS G H p ch le fl c)(e:eF H H'):Se CB CC CS G H' p ch le fl c:=h.grow (eB.refl _) (h.gh.trans e.toF)
def lN (CT:Addr)(G H:Hp)(s:Addr)(sd:Sd):Prop:=∃dx w,H s=some (.ins CT dx (zd (.int (sd.picked:Nat)) (.int (sd.dead:Nat)) (.ref w)))∧wm G w sd.wanted
inductive DY (CB CC CS CT:Addr)(vs:List V)(H:Hp)(Q:VK)(E:XK):Prop
 |mk (G:Hp)(p ch le fl s:Addr)(c:eg)(sd:Sd)(x:Str)(_:vs=[.ref p,.ref s,.str x])(_:Se CB CC CS G H p ch le fl c)(_:lN CT G H s sd)(_:Q (.int (ig (c.Lp x) sd.dead:Nat)) H):DY CB CC CS CT vs H Q E
def rH (CB CC CS CT:Addr):Sp:=DY CB CC CS CT
inductive xl (CB CC CS:Addr)(vs:List V)(H:Hp)(Q:VK)(E:XK):Prop
 |mk (G:Hp)(p ch le fl w0:Addr)(c:eg)(kvs0:List (gv×V))(wanted:List (Str×Option Pk))(wv:V)(who:Option Pk)(pm:Nat)(_:vs=[.ref p,.ref w0,wv,.int (pm:Nat)])(_:Se CB CC CS G H p ch le fl c)(_:Rd H w0 (.dK kvs0))(_:Paired (wl G) kvs0 wanted)(_:wanted.length≤7000)(_:(∀x u,(x,u)∈wanted→c.Who u∧x∈eQ (c.needs u)))(_:c.Who who)(_:gB G wv who)(_:∀(a:Addr) (H':Hp) (kvs:List (gv×V)) (g:List (Str×Option Pk)),eF H H'→H a=none→H' a=some (.dK kvs)→Paired (wl G) kvs g→c.Lk wanted who pm g→Q (.ref a) H'):xl CB CC CS vs H Q E
def mo (CB CC CS:Addr):Sp:=xl CB CC CS
theorem tX {n:Nat}(h:n≤10000):n<sizeLine:=bJ h (by decide)
section
variable {base:Heap}{f:Addr}
theorem GN:eM ["self","stand","part"] ["self","stand","part"] (eE zN):=jc
theorem Db {CT:Addr}(F:iQ K "left" "Search.left" zN f fd)(T:tO K mg CS)(a:TC K mg CC)(TT:DF K mg CT):eZ P w K mg base fh 1 f fd ["self","stand","part"] (rH CB CC CS CT):=by
 refine F.ok GN (fun vs H Q E h=>?_) (fun y A i s H vs Q E z h=>?_)
 ·obtain⟨G,p,ch,m,fl,s,c,sd,x,rfl,_⟩:=h;rfl
 obtain⟨G,p,ch,m,fl,I,c,sd,x,rfl,d,⟨C,wa,D,O⟩,q⟩:=h;have B:=gR z;refine⟨_,(eo (eL (fm hJ (j3 B (eG a.cl a.nOf (eG T.cl T.nCh (pv 0))) (pv 2) et ⟨rfl,rfl,rfl,rfl⟩) (iX kM (eG TT.cl TT.nDe (pv 1)))))),?_⟩;obtain⟨dx,hp⟩:=d.self;obtain⟨o,b,bits,t,e,U,L,Y,st,v,R,S,Z,X,l,N,J,M⟩:=(d.chart.f d.gh).ex;obtain⟨r,j,g⟩:=l.get x;refine⟨_,rfl,p,dx,_,_,rfl,d.gh.ins hp,(by kernel_rfl),ch,o,_,_,rfl,v,(by kernel_rfl),e,rfl,l.isD,_,rfl,r,j,?_⟩;rw[g];refine⟨_,rfl,I,C,_,V.int (sd.dead:Nat),rfl,D,(by kernel_rfl),_,rfl,_,_,rfl,rfl,?_⟩;dsimp only;rw[qw];exact q
theorem Cz:eM ["self","wanted","who","picked","allowed","grown","part"] ["self","wanted","who","picked"] (eE rS):=jc
theorem yf (F:iQ K "wanted_by" "Search.wanted_by" rS f fd)(T:tO K mg CS)(L:TC K mg CC)(GC:eZ P w K mg base fh 1 g gd ["mask"] rL)(bG:gi K gd ["mask"] [])(kG:W.keepIn K (.ref g)=true)(mG:mg "count_picks" = some (.ref g)):eZ P w K mg base fh 2 f fd ["self","wanted","who","picked"] (mo CB CC CS):=by
 refine F.ok Cz (fun vs H Q E h=>?_) (fun bv A bf s H vs Q E hr h=>?_)
 ·obtain⟨G,p,ch,le,fl,w0,c,j,wanted,X,who,pm,rfl,_⟩:=h;rfl
 obtain⟨G,p,ch,le,fl,w0,c,j,wanted,X,who,pm,rfl,M,a7,ap,bm,Z,C,S,q⟩:=h;have J:=gR hr;refine⟨_,(ee (eJ (i:=4) Cz.nd rfl (Or.inl rfl) (eG L.cl L.nAl (eG T.cl T.nCh (pv 0)))) (ee (eJ (i:=5) Cz.nd rfl (Or.inl rfl) (iL wc rfl T.dict PyProof.Rows.boot_dict (dZ (pv 1) el))) (ee (fZ PassesOwn.never rfl (Ac (fc J (pv 4) (pv 2) (fun _ _=>rfl))) (eN (i:=6) Cz.nd rfl (Or.inl rfl)) (ee (fz (iB (fm hJ (pv 3) (j3 J (eG L.cl L.nOf (eG T.cl T.nCh (pv 0))) (pv 6) et ⟨rfl,rfl,rfl,rfl⟩)) (fun _=>rfl)) (eo t8) eO) (eo (fz (PW.pt (iS (gZ (lG J (pv 6) (pv 5))) (iz (fi wK (fe GC hr rfl mG kG bG .nil eT (dZ (gU J (fc J (pv 4) (pv 2) (fun _ _=>rfl)) (pv 6) (fun _ _=>rfl)) el)) (fe GC hr rfl mG kG bG .nil eT (dZ (gU J (fc J (pv 4) (gU J (pv 5) (pv 6) (fun _ _=>rfl)) (fun _ _=>rfl)) (pv 6) (fun _ _=>rfl)) el)) (fF _))))) (eo (ja J (pv 5) (pv 6) (pv 2) rfl)) eO)))) (eo (eL (pv 5)))))),?_⟩;obtain⟨dx,hp⟩:=M.self;obtain⟨cx,b,bits,bq,a2,Y,sh,fo,st,c1,c2,c3,c4,c5,c6,c7,c8,c9⟩:=(M.chart.f M.gh).ex;refine⟨_,rfl,p,dx,_,_,rfl,M.gh.ins hp,(by kernel_rfl),ch,cx,_,V.ref Y,rfl,c1,(by kernel_rfl),?_⟩;refine⟨_,rfl,w0,j,rfl,a7,fun a ha=>?_⟩;have s1:=eA ha (.dK j);have ah:upd H a (.dK j) a=some (.dK j):=d0;generalize upd H a (.dK j)=H1 at *;obtain⟨d,a5,a1⟩:=(c7.same s1).get C ((S.f M.gh).same s1);obtain⟨o,I,R,as,bx⟩:=id a1;have a9:d≠a:=fC R ah fun z=>nomatch z;have la:I.length=(eQ (c.needs who)).length:=by
  have:=congrArg List.length as;rw[ab,ab]at this;exact this
 refine⟨_,rfl,_,rfl,Y,_,rfl,a5,d,o,I,rfl,R,?_⟩;refine tw (kvs:=I) (fun i σ H2=>∃kvs D o6,σ=[some (.ref p),some (.ref w0),some X,some (.int (pm:Nat)),some (.ref Y),some (.ref a),o6]∧H2 a=some (.dK kvs)∧(∀b,b≠a→H2 b=H1 b)∧kvs.length≤7000+i∧Paired (wl G) kvs D∧c.LI wanted who pm ((eQ (c.needs who)).take i) D)
  ⟨j,wanted,none,rfl,ah,fun _ _=>rfl,by rw[Paired.length ap];lia,ap,GrowP.nil⟩ (fun i σ H2 _ ⟨_,_,_,_,_,e,_⟩=>by rw[e d a9];exact R) ?_ ?_
 ·rintro i kv σ H2 hi ⟨kvs,D,o6,rfl,y,B,ba,t,m⟩;have ad:(I.map (·.1))[i]?=some kv.1:=by rw[ae,hi];rfl
  rw[as,ae]at ad;obtain⟨x,U,ex⟩:=aw.mp ad;rw[←ex];have a0:=ak U;have an:=pT (jh (c.needs who)) U;have b1:i<100:=by
   have h1:=(af.mp U).1;have h2:(eQ (c.needs who)).length≤(c.needs who).length:=nH _;have:=M.nds who
   lia
  have l:eF H H2:=fun b u e=>by
   have nb:b≠a:=er e ha;rw[B b nb];exact s1 _ _ e
  obtain⟨r,a8,a3⟩:=(c6.same l).get x;refine⟨_,rfl,_,rfl,p,dx,_,_,rfl,l _ _ (M.gh.ins hp),(by kernel_rfl),ch,cx,_,_,rfl,l _ _ c1,(by kernel_rfl),a2,rfl,(c6.same l).isD,_,rfl,r,a8,?_⟩;rw[a3];refine⟨_,_,rfl,rfl,_,rfl,?_⟩;dsimp only;rw[nU,p3];by_cases hip:c.isP pm x
  ·rw[au (wV.mpr hip)];refine gL ?_;exact⟨kvs,D,_,rfl,y,B,by lia,t,by rw[fJ U];exact GrowP.skip m hip⟩
  ·rw[ao (Classical.byContradiction fun z=>hip (wV.mp z))];refine ff ?_;have aa:i7 H2 a (.str x) (eW kvs (Sum.inr x)):=i7.k (k:=Sum.inr x) y;refine⟨_,rfl,_,rfl,a,_,rfl,aa,_,rfl,?_⟩;have b2:=fQ kvs (Sum.inr x) X;have ag:c.LI wanted who pm ((eQ (c.needs who)).take (i+1)) (if x∈D.map (·.1) then D.map (fun yu=>if yu.1=x then (yu.1,who) else yu) else D++[(x,who)])→
     ∃kvs' gg' o6,[some (.ref p),some (.ref w0),some X,some (.int (pm:Nat)),some (.ref Y),some (.ref a),some (.str x)]=[some (.ref p),some (.ref w0),some X,some (.int (pm:Nat)),some (.ref Y),some (.ref a),o6]∧upd H2 a (.dK (fq kvs (Sum.inr x) X)) a=some (.dK kvs')∧(∀b,b≠a→upd H2 a (.dK (fq kvs (Sum.inr x) X)) b=H1 b)∧kvs'.length≤7000+(i+1)∧Paired (wl G) kvs' gg'∧c.LI wanted who pm ((eQ (c.needs who)).take (i+1)) gg':=
    fun hg=>⟨_,_,_,rfl,d0,fun b hb=>by rw[ef hb];exact B b hb,by lia,Ep t S,hg⟩
   by_cases hxg:x∈D.map (·.1)
   ·obtain⟨v,u,bd,a4,a6⟩:=oG t hxg;have N:=aa;rw[bd]at N ⊢;refine ff ?_;have O:c.Who u∧x∈eQ (c.needs u):=by
     obtain⟨_,_,_,_,_,h5⟩:=m;rcases h5 x u a4 with z | ⟨z1,z2,_⟩
     ·exact Z x u z
     ·rw[z1];exact⟨C,a0⟩
    obtain⟨d1,e1,e2⟩:=(c7.same l).get C ((S.f M.gh).same l);obtain⟨d2,e3,e4⟩:=(c7.same l).get O.1 ((a6.f M.gh).same l);refine⟨_,rfl,_,rfl,Y,_,rfl,e1,_,rfl,d1,_,rfl,e2.get a0,c,_,rfl,c.KW _,?_⟩;refine⟨_,rfl,_,rfl,_,rfl,a,_,rfl,N,Y,_,rfl,e3,_,rfl,d2,_,rfl,e4.get O.2,c,_,rfl,c.KW _,_,_,rfl,rfl,_,rfl,?_⟩;by_cases hlt:(((c.listed (c.Lq who x)).length:Nat):Int)<(((c.listed (c.Lq u x)).length:Nat):Int)
    ·rw[ao hlt];refine gL ?_;refine⟨_,rfl,_,rfl,_,rfl,a,_,rfl,mj.k (k:=Sum.inr x) y (tX (by lia)),ag ?_⟩;rw[if_pos hxg,fJ U];exact GrowP.swap m hip hxg an
    ·rw[au hlt];refine ff ⟨kvs,D,_,rfl,y,B,by lia,t,?_⟩;rw[fJ U];exact GrowP.Kh m hxg an
   ·have bl:=(rg t).mpr hxg;rw[bl];refine gL ?_;refine⟨_,rfl,_,rfl,_,rfl,a,_,rfl,mj.k (k:=Sum.inr x) y (tX (by lia)),ag ?_⟩;rw[if_neg hxg,fJ U];exact GrowP.new m hip hxg
 ·rintro σ H2 ⟨kvs,D,o6,rfl,y,B,ba,t,m⟩;rw[la,aH]at m;refine⟨_,rfl,q a H2 kvs D (fun b u e=>?_) ha y t m⟩;rw[B b (er e ha)];exact s1 _ _ e
end
def NZ (L:iu):Prop:=∀e∈L,e.1≠0
def BU (CL:Addr)(G H:Hp)(O:List Addr)(le ch:Addr)(c:eg)(L:iu)(m:Nat→Prop)(Q:VK):Prop:=
 ∀(G' H':Hp) (O':List Addr) (L':iu) (j:Nat) (e:Nat×Rs),iA G H O G' H' O'→gj CL G' H' le ch c L' O'→gX c L'→(∃X,L'=L++X)→L'[j]?=some e→m e.1→(NZ L→NZ L'∨(e.1=0∧L'.getLast?=some e))→Q (.int (j:Nat)) H'
inductive xo (CB CC CS:Addr)(vs:List V)(H:Hp)(Q:VK)(E:XK):Prop
 |mk (G:Hp)(p ch le fl:Addr)(c:eg)(wv:V)(who:Option Pk)(x:Str)(_:vs=[.ref p,wv,.str x])(_:Se CB CC CS G H p ch le fl c)(_:c.Who who)(_:gB H wv who)(_:x∈(c.needs who).map (·.1))(_:∀H',eF H H'→Q (.int (((c.needs who).map (·.1)).idxOf x:Nat)) H'):xo CB CC CS vs H Q E
def mx (CB CC CS:Addr):Sp:=xo CB CC CS
inductive uJ (CB CC CL CS:Addr)(vs:List V)(H:Hp)(Q:VK)(E:XK):Prop
 |mk (G:Hp)(p ch le fl:Addr)(c:eg)(L:iu)(O:List Addr)(wv v:V)(who:Option Pk)(k:Pk)(_:vs=[.ref p,wv,v])(_:Se CB CC CS G H p ch le fl c)(_:gj CL G H le ch c L O)(_:gX c L)(_:c.Who who)(_:gB G wv who)(_:fD G v k)(_:k∈c.ks)(_:c.KY who k)(_:c.K1 (c.KC who ||| c.bit k))(_:BU CL G H O le ch c L (fun m=>m=c.KC who ||| c.bit k) Q):uJ CB CC CL CS vs H Q E
def nn (CB CC CL CS:Addr):Sp:=uJ CB CC CL CS
theorem Hi:(["need"]:List Str).Nodup:=by decide +kernel
theorem Hh:(["need","pick"]:List Str).Nodup:=by decide +kernel
theorem gj.same {c:eg}{L:iu}{O:List Addr}(h:gj CL G H p ch c L O)(e:eF H H'):gj CL G H' p ch c L O:=
 h.grow (eB.refl _) h.off fun a ha=>by obtain⟨u,hu⟩:=h.liv a ha;exact mB e hu
theorem gj.put {c:eg}{L:iu}{O:List Addr}(h:gj CL G H p ch c L O)(i:eB G H){t:Addr}{u:HO}(e:H t=none):gj CL (upd G t u) (upd H t u) p ch c L O:=by
 have d:∀a∈O,a≠t:=fun a b z=>by obtain⟨v,g⟩:=h.liv a b;rw[z,e]at g;cases g
 exact h.grow ((eB.refl _).upd (i.free e)) (fun a b=>by rw[ef (d a b)];exact h.off a b) fun a b=>by rw[ef (d a b)]
section
variable {base:Heap}{f:Addr}
theorem IR:eM ["self","who","part"] ["self","who","part"] (eE rW):=jc
theorem yi (F:iQ K "place_of_need" "Search.place_of_need" rW f fd)(T:tO K mg CS)(r:TC K mg CC)(l:TB K mg CB):eZ P w K mg base fh 1 f fd ["self","who","part"] (mx CB CC CS):=by
 refine F.ok IR (fun vs H Q E h=>?_) (fun ad A I s H vs Q E hr h=>?_)
 ·obtain⟨G,p,ch,Y,fl,c,R,who,x,rfl,_⟩:=h;rfl
 obtain⟨G,p,ch,Y,fl,c,R,who,x,rfl,o,j,t,hx,q⟩:=h;have hu:=gR hr;refine⟨_,(eo (eL (jp PySem.F.plainAttrs_list PySem.F.slot_list_index PySem.F.type_list_index yD (iH (N':=["need"]) (n:=1) (js:=[]) rfl (iO.closed (by decide +kernel) (by decide +kernel) rfl (by decide +kernel) rfl) (iq (by decide)) (fO (fc hu (eG l.cl l.nN (eG r.cl r.nBoard (eG T.cl T.nCh (pv 0)))) (pv 1) (fun _ _=>rfl))) (fun C S H2 fp=>eN (i:=0) Hi rfl (Or.inl rfl)) (fun C S H2 fp=>jI) (fun C S H2 fp=>eK (eP:Iv _ (zX K)) (pv 0) et (fun _ _=>rfl))) (dZ (pv 2) el)))),?_⟩;obtain⟨dx,hp⟩:=o.self;obtain⟨Z,b,bits,aa,U,al,sh,fo,st,c1,c2,c3,c4,c5,c6,c7,c8,c9⟩:=(o.chart.f o.gh).ex;obtain⟨X,dn,dv,L,J⟩:=jk c2 c3;obtain⟨na,B,zs,O,m⟩:=J who R j t;have lz:=Paired.length m;have N:=o.nds who;refine⟨_,rfl,p,dx,_,_,rfl,o.gh.ins hp,(by kernel_rfl),ch,Z,_,_,rfl,c1,(by kernel_rfl),b,X,_,_,rfl,L,gJ _ _,_,rfl,dn,_,rfl,B,na,rfl,⟨_,fb.of O⟩,?_⟩;refine ir (xs:=zs) (fun D i ys e=>ys=(((c.needs who).take i).map (·.1)).map V.str∧e D=some (.lst ys)∧eF H e∧H D=none) (fun D M=>⟨by simp,d0,eA M _,M⟩)
  (fun D i ys e hi ⟨d,a,g,_⟩=>⟨fb.of (g _ _ O),a,?_⟩) (fun D i y ys e hi ⟨d,a,g,z⟩=>?_) (fun D ys e ⟨d,a,g,z⟩=>?_)
 ·rw[d,ab,ab,aS];exact eV (by lia)
 ·obtain⟨n,v,nq,rfl,hn⟩:=Paired.KA m hi;unfold jq rj;dsimp only;rw[if_pos rfl];refine⟨_,rfl,nq,_,_,_,rfl,rfl,gy.of (g _ _ hn),rfl,a,?_,d0,eF.upd g z,z⟩;rw[d,fJ v,ay,ay];rfl
 ·rw[lz,aH]at d;subst d;exact⟨.inl ⟨rfl,_,fb.of a⟩,_,rfl,D,_,x,rfl,rfl,a,hx,q e g⟩
theorem EI:eM ["self","who","pick","needs","place"] ["self","who","pick"] (eE pE):=jc
theorem vD (F:iQ K "outside" "Search.outside" pE f fd)(T:tO K mg CS)(m:TC K mg CC)(aa:TB K mg CB)(GC:eZ P w K mg base fh 1 g gd ["need","pick"] lE)(bG:gi K gd ["need","pick"] [])(kG:W.keepIn K (.ref g)=true)(mG:mg "clashes" = some (.ref g))(MP:Mt P w K mg base CL fh 2 "put_down" ["self","mask","reason"] (wE CB CC CL)):eZ P w K mg base fh 3 f fd ["self","who","pick"] (nn CB CC CL CS):=by
 refine F.ok EI (fun vs H Q E h=>?_) (fun bv A a4 s H vs Q E hr h=>?_)
 ·obtain⟨G,p,ch,le,fl,c,L,O,r,v,who,k,rfl,_⟩:=h;rfl
 obtain⟨G,p,ch,le,fl,c,L,O,r,v,who,k,rfl,d,hL,o,l,M,hv,hk,a8,Y,q⟩:=h;have hu:=gR hr;refine⟨_,(ee (eJ (i:=3) EI.nd rfl (Or.inl rfl) (fc hu (eG aa.cl aa.nN (eG m.cl m.nBoard (eG T.cl T.nCh (pv 0)))) (pv 1) (fun _ _=>rfl))) (ee (eJ (i:=4) EI.nd rfl (Or.inl rfl) (jp PySem.F.plainAttrs_list PySem.F.slot_list_index PySem.F.type_list_index yE (iH (N':=["need","pick"]) (n:=1) (js:=[2]) rfl (iO.one (c:=s.heap.objs.size+1) (y:="pick") rfl rfl (by decide +kernel) rfl (by decide +kernel) (by decide +kernel) rfl rfl rfl rfl rfl) (iq (by decide)) (fO (pv 3)) (fun C s2 H2 fp=>eN (i:=0) Hh rfl (Or.inl rfl)) (fun C s2 H2 fp=>jI) (fun C s2 H2 fp=>fe GC (hr.mono (by decide)) rfl mG kG bG .nil eT (dZ (pv 0) (dZ (pv 1) el)))) (dZ gW el))) (eo (eL (ib MP hr eT (eG T.cl T.nLe (pv 0)) (dZ (fm qJ (fc hu (eG m.cl m.nBits (eG T.cl T.nCh (pv 0))) (pv 1) (fun _ _=>rfl)) (fc hu (eG m.cl m.nBits (eG T.cl T.nCh (pv 0))) (pv 2) (fun _ _=>rfl))) (dZ (gT (dZ iZ (dZ (pv 1) (dZ (pv 4) (dZ (pv 2) el))))) el))))))),?_⟩;obtain⟨dx,hp⟩:=d.self;obtain⟨cx,b,bits,bq,bm,al,sh,fo,st,c1,c2,c3,c4,c5,c6,c7,c8,c9⟩:=(d.chart.f d.gh).ex;obtain⟨bx,dn,dv,ba,a6⟩:=jk c2 c3;obtain⟨na,a1,zs,hz,ad⟩:=a6 who r l (M.f d.gh);have lz:=Paired.length ad;have bf:=d.nds who;have B:=d.gh.ins hp;refine⟨_,rfl,p,dx,_,_,rfl,B,(by kernel_rfl),ch,cx,_,_,rfl,c1,(by kernel_rfl),b,bx,_,_,rfl,ba,gJ _ _,_,rfl,dn,_,rfl,a1,?_⟩;refine⟨_,rfl,na,rfl,⟨_,fb.of hz⟩,?_⟩;refine ir (xs:=zs) (fun D i ys I=>ys=(((c.needs who).take i).map fun n=>qm n k).map V.bl∧I D=some (.lst ys)∧eF H I∧H D=none) (fun D hD=>⟨by simp,d0,eA hD _,hD⟩)
  (fun D i ys I hi ⟨S,R,a,_⟩=>⟨fb.of (a _ _ hz),R,?_⟩) (fun D i y ys I hi ⟨S,R,a,e4⟩=>?_) (fun D ys I ⟨S,R,a,e4⟩=>?_)
 ·rw[S,ab,ab,aS];exact eV (by lia)
 ·obtain⟨n,an,hn⟩:=Paired.KA ad hi;unfold jq rj;dsimp only;rw[if_pos rfl];refine⟨_,rfl,_,rfl,_,_,n,k,rfl,fR.same a hn,fD.same a (fD.f d.gh hv),R,?_,d0,eF.upd a e4,e4⟩;rw[S,fJ an,ay,ay];rfl
 ·rw[lz,aH]at S;subst S;have X:true∈(c.needs who).map fun n=>qm n k:=by
   obtain⟨n,ag,a7⟩:=a8;exact av.mpr ⟨n,ag,a7⟩
  refine⟨.inl ⟨rfl,_,fb.of R⟩,D,_,rfl,rfl,R,X,?_⟩;have Z:=(M.f d.gh).same a;have as:fD I v k:=fD.same a (fD.f d.gh hv);obtain⟨lx,ma,re,pm,pp,b1,rs,Ol,hO,bd,a0⟩:=id hL.ex;refine⟨_,rfl,p,dx,_,V.ref le,rfl,a _ _ B,(by kernel_rfl),le,lx,_,rfl,a _ _ (d.gh.ins bd),(by kernel_rfl),?_⟩;refine⟨_,rfl,p,dx,_,_,rfl,a _ _ B,(by kernel_rfl),ch,cx,_,_,rfl,a _ _ c1,(by kernel_rfl),_,rfl,bits,_,rfl,(c4.same a).get l Z,_,rfl,p,dx,_,_,rfl,a _ _ B,(by kernel_rfl),ch,cx,_,_,rfl,a _ _ c1,(by kernel_rfl),_,rfl,bits,_,rfl,(c4.same a).get (w:=some k) (gr hk) as,_,_,rfl,rfl,?_⟩;dsimp only;rw[xg];refine⟨_,rfl,_,rfl,_,rfl,(by show 4≤sizeLine;decide),fun t ht=>?_⟩;have N:eB G I:=d.gh.trans a.toF;have gt:G t=none:=N.free ht;have GW:iA G H O (upd G t (.tup [.str ("outside" : Str),r,.int (((c.needs who).map fun n=>qm n k).idxOf true:Nat),v])) (upd I t (.tup [.str ("outside" : Str),r,.int (((c.needs who).map fun n=>qm n k).idxOf true:Nat),v])) O:=(iA.same d.gh a).trans (iA.put N ht);have U:=(hL.same a).put N (u:=.tup [.str ("outside" : Str),r,.int (((c.needs who).map fun n=>qm n k).idxOf true:Nat),v]) ht;obtain⟨i,n,hi,hin,hcl⟩:∃i n,((c.needs who).map fun n=>qm n k).idxOf true=i∧(c.needs who)[i]?=some n∧qm n k=true:=by
   have a2:=bz.mpr X;have hg:=cw a2;rw[List.getElem_map]at hg;exact⟨_,_,rfl,aj _,hg⟩
  have hR:mi (upd G t (.tup [.str ("outside" : Str),r,.int (((c.needs who).map fun n=>qm n k).idxOf true:Nat),v])) (.ref t) ⟨who,(i:Nat),.one k⟩:=by
   have gG:=(eB.refl G).upd (u:=.tup [.str ("outside" : Str),r,.int (((c.needs who).map fun n=>qm n k).idxOf true:Nat),v]) gt;refine⟨t,r,v,rfl,?_,M.f gG,fD.f gG hv⟩;rw[hi];exact d0
  have J:c.KC who ||| c.bit k<2^c.n:=ji (eg.Lz l) (c.KO hk);have ap:=d.chart.f GW.gg;generalize upd G t (.tup [.str ("outside" : Str),r,.int (((c.needs who).map fun n=>qm n k).idxOf true:Nat),v])=G' at *;generalize upd I t (.tup [.str ("outside" : Str),r,.int (((c.needs who).map fun n=>qm n k).idxOf true:Nat),v])=H8 at *;refine⟨G',le,ch,c,L,O,c.KC who ||| c.bit k,_,_,rfl,GW.gh,ap,U,hR,J,d.n,d.sm L o,fun j hj=>?_,fun hn H9 O9 g9 a3=>?_⟩
  ·obtain⟨e,ah,a5⟩:=qE hj;exact q G' H8 O L j e GW U o ⟨[],by simp⟩ ah a5 .inl
  ·refine q G' H9 O9 _ L.length (c.KC who ||| c.bit k,⟨who,(i:Nat),.one k⟩) (GW.trans g9) a3 (o.add J Y (nE.mp hn) ?_) ⟨_,rfl⟩ ?_ rfl (fun a9=>.inl fun x hx=>?_)
   ·refine Ar ?_ (eg.KJ.mpr (.inr ((eg.KM hk).mpr rfl))) hin hcl;cases who with
    |none=>trivial
    |some k0=>exact eg.KJ.mpr (.inl ((eg.LA l).mpr rfl))
   ·rw[aZ (aq _),bS];rfl
   ·rcases aB.mp hx with z | z
    ·exact a9 x z
    ·rw[ai.mp z];intro y;have:c.has (c.KC who ||| c.bit k) k:=eg.KJ.mpr (.inr ((eg.KM hk).mpr rfl));rw[show c.KC who ||| c.bit k=0 from y]at this;exact eg.KN this
end
end FB
namespace FB
open PySem L2 PyProof.Rows
variable {H:Hp}{L:iu}{O:List Addr}
def qj (c:eg)(F:List Fk):Prop:=∀(i i':Nat) (f f':Fk),i≤i'→F[i]?=some f→F[i']?=some f'→∀j,c.has f.sd.picked j→c.has f'.sd.picked j
theorem qj.snoc {c:eg}{F:List Fk}{g:Fk}(h:qj c F)(a:∀f∈F,∀j,c.has f.sd.picked j→c.has g.sd.picked j):qj c (F++[g]):=fun i i' f f' hi h1 h2 j hj=>by
 have e2:i'<F.length∨i'=F.length:=by
  have:=(af.mp h2).1;rw[aF,aT]at this
  lia
 rcases e2 with e2 | e2
 ·rw[aI e2]at h2;rw[aI (by lia)]at h1;exact h i i' f f' hi h1 h2 j hj
 ·subst e2;rw[aZ (aq _),bS]at h2;have:g=f':=by simpa using h2
  subst this;rcases dm i F.length with z | z
  ·rw[aI z]at h1;exact a f (ak h1) j hj
  ·have:i=F.length:=by lia
   subst this;rw[aZ (aq _),bS]at h1;have:g=f:=by simpa using h1
   subst this;exact hj
theorem fK.mono {c:eg}{R:List Fk}{s:Sd}(h:fK c L R s):∀g:Fk,g.sd=s→qj c (R.reverse++[g]):=by
 induction h with
 |nil _ _=>
  intro g _;exact qj.snoc (F:=[]) (fun i o f m _ h1=>by simp at h1) fun f a=>nomatch a
 |@cons f F s h1 h2 h3 h4 ih=>
  intro g d;rw[cY];refine qj.snoc (ih f rfl) fun x l j b=>?_;rw[d];have e:fK c L (f::F) s:=.cons h1 h2 h3 h4;refine(e.sub x ?_).1 j b;rcases aB.mp l with z | z
  ·exact bi _ (cu.mp z)
  ·rw[ai.mp z];exact bB
theorem fK.fks {c:eg}{R:List Fk}{s:Sd}(h:fK c L R s):∀f∈R,j9 c f∧iE c L f.sd:=by
 induction h with
 |nil _ _=>exact fun f a=>nomatch a
 |cons h1 h2 h3 h4 ih=>
  intro x hx;rcases am.mp hx with rfl | hx
  ·exact⟨h2,h1.sd⟩
  ·exact ih x hx
def eg.LY (c:eg)(m:Nat)(F:List Fk):List Fk:=match F.getLast? with
 |some g=>(match g.bit with
  |some k=>F.map (c.K7 k m)
  |none=>F)
 |none=>F
theorem mf {α:Type}{p q:α→Bool}:∀{l:List α},(∀x∈l,q x=true→p x=true)→(l.filter q).length≤(l.filter p).length
 |[],_=>aq _
 |x::l,h=>by
  have ih:=mf (l:=l) fun y hy=>h y (by simp[hy]);rw[aG,aG];by_cases hq:q x=true
  ·rw[if_pos hq,if_pos (h x (by simp) hq),aA,aA];lia
  ·rw[if_neg hq]
   split
   ·rw[aA];lia
   ·exact ih
theorem qS {α:Type}{p q:α→Bool}{k:α}:∀{l:List α},(∀x∈l,q x=true→p x=true)→k∈l→p k=true→q k=false→(l.filter q).length<(l.filter p).length
 |[],_,hk,_,_=>nomatch hk
 |x::l,h,hk,hp,hq=>by
  have hl:∀y∈l,q y=true→p y=true:=fun y hy=>h y (by simp[hy]);rw[aG,aG];rcases am.mp hk with rfl | hk
  ·rw[if_neg (by rw[hq];decide),if_pos hp,aA];have:=mf hl
   lia
  ·have ih:=qS hl hk hp hq;by_cases hx:q x=true
   ·rw[if_pos hx,if_pos (h x (by simp) hx),aA,aA];lia
   ·rw[if_neg hx]
    split
    ·rw[aA];lia
    ·exact ih
theorem eg.LZ (c:eg)(k:Pk)(m:Nat)(f:Fk):c.cnt (c.K7 k m f)≤c.cnt f:=by
 unfold eg.cnt eg.left;refine mf fun x a h=>?_;simp only[aD,ax,bQ,decide_eq_false_iff_not]at h ⊢;exact⟨h.1,fun z=>h.2 (eg.La z)⟩
theorem eg.L0 {c:eg}{k:Pk}{m:Nat}{f:Fk}(a:k∈c.ks)(hp:k.1=f.part)(b:¬c.has f.sd.dead k)(d:ig (ig m (c.bit k)) f.sd.picked=0):c.cnt (c.K7 k m f)<c.cnt f:=by
 unfold eg.cnt eg.left;refine qS (k:=k) (fun x e h=>?_) a ?_ ?_
 ·simp only[aD,ax,bQ,decide_eq_false_iff_not]at h ⊢;exact⟨h.1,fun z=>h.2 (eg.La z)⟩
 ·simp only[aD,ax,bQ,decide_eq_false_iff_not];exact⟨hp,b⟩
 ·have:c.has (c.K7 k m f).sd.dead k:=by
   show c.has (c.K6 k m f.sd).dead k;unfold eg.K6;rw[if_pos d];exact eg.KJ.mpr (.inr ((eg.KM a).mpr rfl))
  rw[ao this];simp
theorem y0 {c:eg}{B:List Fk}{g:Fk}{e:Nat×Rs}{n:Nat}(h:fK c L B.reverse g.sd)(C:j9 c g)(F:e∈L)(q:e.1<2^c.n)(w:∀j,c.has e.1 j→c.has g.sd.picked j)(d:((B++[g]).take n).reverse=(B++[g]).reverse.dropWhile (fun f=>!c.stop e.1 f)):((B++[g]).take n=[]∧e.1=0)∨∃B2 g2,c.LY e.1 ((B++[g]).take n)=B2++[g2]∧fK c L B2.reverse g2.sd∧j9 c g2∧c.mv (c.n+1) (B2++[g2])<c.mv (c.n+1) (B++[g])∧e.1≠0:=by
 have r:c.stop e.1 g=false:=by
  unfold eg.stop;cases hb:g.bit with
  |none=>rfl
  |some k=>exact au fun z=>C.K5 h.sd hb (w k z)
 rw[cJ,List.reverse_singleton,List.singleton_append,List.dropWhile_cons,if_pos (by rw[r];rfl)]at d;rcases DE h w with ⟨G,D⟩ | ⟨A',b,l,k,E,I,o,v,x,t,m,y⟩
 ·left
  rw[G]at d;exact⟨List.reverse_eq_nil_iff.mp d,eg.KP q D⟩
 ·right
  rw[I]at d;have A:(B++[g]).take n=l.reverse++[b]:=by
   have:=congrArg List.reverse d;rw[de,cY]at this;exact this
  have H:B=l.reverse++b::A'.reverse:=by
   have:=congrArg List.reverse E;rw[de,cJ,cY,bO]at this;exact this
  have s:k∈c.ks:=(m.bit k o).1;have p:¬c.has b.sd.picked k:=m.K5 t.sd o;have J:ig (ig e.1 (c.bit k)) b.sd.picked=0:=(eg.Lc s q).mpr x;refine⟨l.reverse.map (c.K7 k e.1),c.K7 k e.1 b,?_,?_,m.K7,?_,fun z=>?_⟩
  ·rw[A];unfold eg.LY;rw[List.getLast?_append];simp only[List.getLast?_singleton,Option.some_or];rw[o];show List.map (c.K7 k e.1) (l.reverse++[b])=_;rw[ay];rfl
  ·have:=t.K7 s F q v p;rw[←List.map_reverse,de];exact this
  ·rw[H,bO,cO];refine eg.Lj c (eg.L0 s (m.bit k o).2.1 y J) (c.n+1) _ _ (by rw[ab]) (fun i a K h1 h2=>?_) ?_
   ·rw[ae,h1]at h2;cases h2;exact c.LZ k e.1 a
   ·have:=t.depth;rw[cm]
    lia
  ·rw[z]at v;exact eg.KN v
def iN (H:Hp)(O:List Addr)(H':Hp)(O':List Addr):Prop:=∀x u,H x=some u→u1 u→x∉O→H' x=some u∧x∉O'
theorem iN.refl (H:Hp)(O:List Addr):iN H O H O:=fun x u h _ n=>⟨h,n⟩
theorem iN.trans {H1 H2:Hp}{O1 O2:List Addr}(a:iN H O H1 O1)(b:iN H1 O1 H2 O2):iN H O H2 O2:=fun x u h f n=>(by obtain⟨h1,n1⟩:=a x u h f n;exact b x u h1 f n1)
theorem iA.L7 {G G' H':Hp}{O':List Addr}(g:iA G H O G' H' O'):iN H O H' O':=fun x u h f n=>⟨g.keep n h (by cases u <;> first | exact fun z=>z | exact f.elim),g.out n h⟩
theorem iN.del {H':Hp}{ys:List Addr}(e:eB (del H ys) H')(hy:∀y∈ys,∃u,H y=some u∧¬u1 u):iN H O H' O:=fun x u h f n=>by
 have nx:x∉ys:=fun z=>by obtain⟨v,h1,h2⟩:=hy x z;rw[h]at h1;cases h1;exact h2 f
 refine⟨e.no (by rw[eD nx];exact h) ?_,n⟩;cases u <;> first | exact fun z=>z | exact f.elim
end FB
namespace FB
open PySem L2 PyProof.Rows
seal nX PS PE PT PA
variable {A:List (Addr×Addr)}{CB CC CF CL CS CT fl:Addr}{F:List Fk}{G G' H H':Hp}{K:W.Frag}{O O':List Addr}{P:Program}{fd:FuncData}{m:Nat}{mg:Str→Option Value}{w:World}
theorem lN.grow {s:Addr}{sd:Sd}(h:lN CT G H s sd)(g:iA G H O G' H' O')(n:s∉O):lN CT G' H' s sd:=
 (by obtain⟨dx,w,h1,h2⟩:=h;exact⟨dx,w,g.keep n h1 fun z=>z,h2.f g.gg⟩)
def mY (CF CT:Addr)(G H:Hp)(c:eg)(a:Addr×Addr)(fk:Fk):Prop:=(∃dx,H a.1=some (.ins CF dx (ut (.str fk.part) (.ref a.2) (.int (c.KC fk.bit:Nat)))))∧lN CT G H a.2 fk.sd
structure iY (CF CT:Addr)(G H:Hp)(c:eg)(fl:Addr)(A:List (Addr×Addr))(F:List Fk):Prop where
 l:H fl=some (.lst (A.map fun a=>V.ref a.1))
 p:Paired (mY CF CT G H c) A F
 offl:G fl=none
 off:∀a∈A,G a.1=none∧G a.2=none
 nd1:(A.map (·.1)).Nodup
 nd2:(A.map (·.2)).Nodup
def y8 (O:List Addr)(fl:Addr)(A:List (Addr×Addr)):Prop:=fl∉O∧∀a∈A,a.1∉O∧a.2∉O
theorem iY.grow {c:eg}(h:iY CF CT G H c fl A F)(g:iA G H O G' H' O')(s:y8 O fl A):iY CF CT G' H' c fl A F:=by
 have j:∀a∈A,∃d,mY CF CT G H c a d:=fun a b=>by
  obtain⟨i,hi⟩:=az.mp b;obtain⟨d,_,o⟩:=Paired.KA h.p hi;exact⟨d,o⟩
 refine⟨g.keep s.1 h.l fun z=>z,?_,g.off h.offl h.l,fun a b=>?_,h.nd1,h.nd2⟩
 ·have:=h.p;have key:∀{A:List (Addr×Addr)} {F:List Fk},(∀a∈A,a.1∉O∧a.2∉O)→Paired (mY CF CT G H c) A F→Paired (mY CF CT G' H' c) A F:=by
   intro A F m hp
   induction hp with
   |nil=>exact .nil
   |cons h1 _ ih=>exact .cons ⟨(by obtain⟨dx,e⟩:=h1.1;exact⟨dx,g.keep (m _ (by simp)).1 e fun z=>z⟩),h1.2.grow g (m _ (by simp)).2⟩ (ih fun a b=>m a (by simp[b]))
  exact key s.2 h.p
 ·obtain⟨d,⟨dx,q⟩,t,w,r,_⟩:=j a b;exact⟨g.off (h.off a b).1 q,g.off (h.off a b).2 r⟩
theorem y8.grow {c:eg}(h:iY CF CT G H c fl A F)(g:iA G H O G' H' O')(s:y8 O fl A):y8 O' fl A:=by
 refine⟨g.out s.1 h.l,fun a b=>?_⟩;obtain⟨i,hi⟩:=az.mp b;obtain⟨j,_,⟨dx,d⟩,m,w,e,_⟩:=Paired.KA h.p hi;exact⟨g.out (s.2 a b).1 d,g.out (s.2 a b).2 e⟩
theorem xj {c:eg}{k:Pk}(a:k∈c.ks):m &&& c.bit k≠0↔c.has m k:=by
 have b:m &&& c.bit k<2^c.n:=bJ Nat.and_le_right (c.KO a)
 constructor
 ·intro h;refine Classical.byContradiction fun z=>h (eg.KP b fun j d=>z ?_);obtain⟨h1,h2⟩:=eg.KK.mp d;rw[←(eg.KM a).mp h2];exact h1
 ·intro h z;have:c.has (m &&& c.bit k) k:=eg.KK.mpr ⟨h,(eg.KM a).mpr rfl⟩;rw[z]at this;exact eg.KN this
theorem jS {c:eg}{k:Pk}(a:k∈c.ks):(((m &&& c.bit k:Nat):Int) != 0)=decide (c.has m k):=by
 rw[p3];by_cases h:c.has m k
 ·rw[au (xj a |>.mpr h),ao h];rfl
 ·rw[ao (Classical.byContradiction fun z=>h ((xj a).mp z)),au h];rfl
def Jv (c:eg)(F:List Fk)(k:Pk)(m:Nat):Prop:=c.has m k∧∀f∈F,c.has f.sd.dead k→∀j,c.has m j→j=k∨c.has f.sd.picked j
inductive BK (CB CC CL CS CF CT:Addr)(vs:List V)(H:Hp)(Q:VK)(E:XK):Prop
 |mk (G:Hp)(p ch le fl:Addr)(c:eg)(L:iu)(O:List Addr)(A:List (Addr×Addr))(F:List Fk)(v:V)(k:Pk)(_:vs=[.ref p,v])(_:Se CB CC CS G H p ch le fl c)(_:gj CL G H le ch c L O)(_:gX c L)(_:iY CF CT G H c fl A F)(_:fD G v k)(_:k∈c.ks)(_:qj c F)(_:(∀f∈F,iE c L f.sd))(_:(∃f0∈F,c.has f0.sd.dead k∧¬c.isP f0.sd.picked k.1))(_:F.length≤64)(_:BU CL G H O le ch c L (Jv c F k) Q):BK CB CC CL CS CF CT vs H Q E
def my (CB CC CL CS CF CT:Addr):Sp:=BK CB CC CL CS CF CT
theorem wM {c:eg}{j k:Pk}(g:j∈c.ks)(d:k∈c.ks)(h:j.1=k.1→j=k):c.K1 (c.bit j ||| c.bit k):=by
 intro a b i l e;rcases eg.KJ.mp i with x | x <;> rcases eg.KJ.mp l with y | y
 ·rw[(eg.KM g).mp x,(eg.KM g).mp y]
 ·rw[(eg.KM g).mp x,(eg.KM d).mp y]at e ⊢;exact h e
 ·rw[(eg.KM d).mp x,(eg.KM g).mp y]at e ⊢;exact(h e.symm).symm
 ·rw[(eg.KM d).mp x,(eg.KM d).mp y]
theorem C5 {c:eg}{k:Pk}(d:k∈c.ks):c.K1 (0 ||| c.bit k):=by
 intro a b g e _;rw[Nat.zero_or]at g e;rw[(eg.KM d).mp g,(eg.KM d).mp e]
theorem Hl:(["fork","bit"]:List Str).Nodup:=by decide +kernel
section
variable {base:Heap}{f:Addr}
theorem CI:eM ["self","pick","bit","stand","foes"] ["self","pick"] (eE vo):=jc
theorem Da (F:iQ K "line_against" "Search.line_against" vo f fd)(T:tO K mg CS)(J:TC K mg CC)(TT:DF K mg CT)(TF:BR K mg CF)(MO:Mt P w K mg base CS fh 3 "outside" ["self","who","pick"] (nn CB CC CL CS))(ML:Mt P w K mg base CC fh 1 "listed" ["self","mask"] (jg CC))(MA:Mt P w K mg base CL fh 1 "place_against" ["self","pick","picked"] (pc CB CC CL)):eZ P w K mg base fh 4 f fd ["self","pick"] (my CB CC CL CS CF CT):=by
 refine F.ok CI (fun vs H Q E h=>?_) (fun d8 A cy s H vs Q E hr h=>?_)
 ·obtain⟨G,p,ch,le,fl,c,L,O,AA,FF,v,k,rfl,_⟩:=h;rfl
 obtain⟨G,p,ch,le,fl,c,L,O,AA,FF,v,k,rfl,M,hL,I,hF,hv,o,a7,bl,⟨f0,b1,bx,da⟩,dy,q⟩:=h;have hu:=gR hr;refine⟨_,(ee (eJ (i:=2) CI.nd rfl (Or.inr rfl) (fc hu (eG J.cl J.nBits (eG T.cl T.nCh (pv 0))) (pv 1) (fun _ _=>rfl))) (ee (eJ (i:=3) CI.nd rfl (Or.inl rfl) (eK fg (iH (N':=["fork","bit"]) (n:=1) (js:=[2]) rfl (iO.one (c:=s.heap.objs.size+1) (y:="bit") rfl rfl (by decide +kernel) rfl (by decide +kernel) (by decide +kernel) rfl rfl rfl rfl rfl) (iq (by decide)) (fO (eG T.cl T.nFo (pv 0))) (fun C s2 H2 fp=>eN (i:=0) Hl rfl (Or.inl rfl)) (fun C s2 H2 fp=>oK (vw (fm hJ (eG TT.cl TT.nDe (eG TF.cl TF.nSt (pv 0))) (pv 1)) (fun _=>rfl))) (fun C s2 H2 fp=>eG TF.cl TF.nSt (pv 0))) et (fun _ _=>rfl))) (ee (fz (iB (fm hJ (fc hu (eG J.cl J.nFo (eG T.cl T.nCh (pv 0))) i4 (fun _ _=>rfl)) (pv 2)) (fun _=>rfl)) (eo (eL (ib MO hr eT (pv 0) (dZ i4 (dZ (pv 1) el))))) eO) (ee (eJ (i:=4) CI.nd rfl (Or.inl rfl) (ib ML (hr.mono (by decide)) eT (eG T.cl T.nCh (pv 0)) (dZ (fm hJ (fc hu (eG J.cl J.nFo (eG T.cl T.nCh (pv 0))) (pv 1) (fun _ _=>rfl)) (fm qJ (eG TT.cl TT.nPi (pv 3)) (pv 2))) el))) (ee (fz (gE (iB (pv 4) (fun _=>rfl))) (eo (eL (ib MA (hr.mono (by decide)) eT (eG T.cl T.nLe (pv 0)) (dZ (pv 1) (dZ (eG TT.cl TT.nPi (pv 3)) el))))) eO) (ee (fz (iB (fm hJ (fc hu (eG J.cl J.nSh (eG T.cl T.nCh (pv 0))) (eK fg (pv 4) et (fun _ _=>rfl)) (fun _ _=>rfl)) (pv 2)) (fun _=>rfl)) (eo (eL (ib MO hr eT (pv 0) (dZ (eK fg (pv 4) et (fun _ _=>rfl)) (dZ (pv 1) el))))) eO) (eo (eL (ib MO hr eT (pv 0) (dZ (pv 1) (dZ (eK fg (pv 4) et (fun _ _=>rfl)) el))))))))))),?_⟩;obtain⟨dx,hp⟩:=M.self;have t:=M.gh.ins hp;obtain⟨cx,b,bits,dn,d7,al,sh,fo,st,c1,c2,c3,c4,c5,c6,c7,c8,c9⟩:=(M.chart.f M.gh).ex;have a9:fD H v k:=fD.f M.gh hv;have lA:AA.length=FF.length:=Paired.length hF.p;refine⟨_,rfl,p,dx,_,_,rfl,t,(by kernel_rfl),ch,cx,_,_,rfl,c1,(by kernel_rfl),_,rfl,bits,_,rfl,c4.get (w:=some k) (gr o) a9,?_⟩;refine⟨_,rfl,p,dx,_,_,rfl,t,(by kernel_rfl),fl,rfl,⟨_,fb.of hF.l⟩,?_⟩;refine ir (xs:=AA.map fun a=>V.ref a.1) (fun D i ys H7=>H7 D=some (.lst ys)∧eF H H7∧H D=none∧ys.length≤i∧((ys=[]∧∀N<i,∀f:Fk,FF[N]?=some f→¬c.has f.sd.dead k)∨∃(i0:Nat) (a:Addr) (g:Fk) (rest:List V),ys=.ref a::rest∧FF[i0]?=some g∧lN CT G H a g.sd∧c.has g.sd.dead k∧∀N<i0,∀f:Fk,FF[N]?=some f→¬c.has f.sd.dead k))
  (fun D hD=>⟨d0,eA hD _,hD,aq _,.inl ⟨rfl,fun N x=>absurd x (cb _)⟩⟩) (fun D i ys H7 hi ⟨e1,r,e3,e4,_⟩=>⟨fb.of (r _ _ hF.l),e1,?_⟩) (fun D i y ys H7 hi ⟨e1,r,e3,e4,e5⟩=>?_) (fun D ys H7 ⟨e1,r,e3,e4,e5⟩=>?_)
 ·rw[ab]at hi;exact eV (by lia)
 ·rw[ae]at hi;obtain⟨a,ha,rfl⟩:=aw.mp hi;obtain⟨fk,bv,⟨fx,bd⟩,aa⟩:=Paired.KA hF.p ha;obtain⟨sx,wa,ag,c0⟩:=id aa;unfold jq;refine⟨_,rfl,a.1,fx,_,V.ref a.2,rfl,r _ _ bd,(by kernel_rfl),a.2,sx,_,V.int (fk.sd.dead:Nat),rfl,r _ _ ag,(by kernel_rfl),_,rfl,_,_,rfl,rfl,_,rfl,?_⟩;rw[nU,show c.KC (some k)=c.bit k from rfl,jS o];by_cases hd:c.has fk.sd.dead k
  ·rw[ao hd];refine gL ⟨_,rfl,a.1,fx,_,V.ref a.2,rfl,r _ _ bd,(by kernel_rfl),e1,d0,eF.upd r e3,e3,by rw[aF,aT];lia,.inr ?_⟩;rcases e5 with ⟨z1,z2⟩ | ⟨i0,a0,g,rest,z1,z2⟩
   ·subst z1;exact⟨i,a.2,fk,[],rfl,bv,aa,hd,z2⟩
   ·exact⟨i0,a0,g,rest++[.ref a.2],by rw[z1];rfl,z2⟩
  ·rw[au hd];refine ff ⟨e1,r,e3,by lia,?_⟩;rcases e5 with ⟨z1,z2⟩ | z
   ·refine .inl ⟨z1,fun N x f hf=>?_⟩;rcases dm N i with y | y
    ·exact z2 N y f hf
    ·have:N=i:=by lia
     rw[this,bv]at hf;cases hf;exact hd
   ·exact .inr z
 ·rw[ab]at e5;have b2:¬(ys=[]∧∀N<AA.length,∀f,FF[N]?=some f→¬c.has f.sd.dead k):=fun⟨_,z⟩=>by
   obtain⟨N,x⟩:=az.mp b1;exact z N (by rw[lA];exact(af.mp x).1) f0 x bx
  obtain⟨i0,sa,g,rest,rfl,hg,aa,bf,ad⟩:=e5.resolve_left b2;have bm:=ak hg;have a2:∀f∈FF,c.has f.sd.dead k→∀j,c.has g.sd.picked j→c.has f.sd.picked j:=fun f hf a5=>by
   obtain⟨N,x⟩:=az.mp hf;exact a7 i0 N g f (Nat.le_of_not_lt fun z=>ad N z f x a5) hg x
  have cn:¬c.isP g.sd.picked k.1:=(by rintro⟨j,h1,h2⟩;exact da ⟨j,a2 f0 b1 bx j h1,h2⟩);have a6:∀m,c.has m k→(∀j,c.has m j→j=k∨c.has g.sd.picked j)→Jv c FF k m:=fun m h1 h2=>⟨h1,fun f hf a5 j R=>(h2 j R).imp id (a2 f hf a5 j)⟩;obtain⟨sx,wa,ag,c0⟩:=id aa;have g7:eB G H7:=M.gh.trans r.toF;have ct:=M.same r;have co:=hL.same r;have GW:=iA.same (O:=O) M.gh r;refine⟨D,_,_,V.ref sa,rfl,rfl,fb.of e1,mU,?_⟩;refine⟨_,rfl,p,dx,_,_,rfl,r _ _ t,(by kernel_rfl),ch,cx,_,_,rfl,r _ _ c1,(by kernel_rfl),fo,_,rfl,(c9.same r).get (w:=none) je rfl,_,rfl,_,_,rfl,rfl,_,rfl,?_⟩;dsimp only;rw[nU,show c.KC (some k)=c.bit k from rfl,jS o];by_cases hns:c.has (c.Ls none) k
  ·rw[ao hns];refine gL ⟨_,rfl,p,dx,_,rfl,r _ _ t,(by kernel_rfl),_,rfl,G,p,ch,le,fl,c,L,O,_,v,none,k,rfl,ct,co,I,je,rfl,hv,o,(eg.Lv.mp hns).2,C5 o,?_⟩;intro G' H' O' L' j e gw hl B hx R hm Y;refine q G' H' O' L' j e (GW.trans gw) hl B hx R ?_ Y;have U:e.1=0 ||| c.bit k:=hm;rw[U,Nat.zero_or];exact a6 _ ((eg.KM o).mpr rfl) fun j R=>.inl ((eg.KM o).mp R)
  ·rw[au hns];refine ff ?_;have b8:c.Ls (some k) &&& (g.sd.picked ||| c.bit k)<2^c.n:=nW (c.Ly _);have dc:=M.chart;obtain⟨gx,gb,cs,b6,dv,d9,dp,ea,dl,d1,d2,d3,d4,d5,d6⟩:=dc.ex;refine⟨_,rfl,p,dx,_,V.ref ch,rfl,r _ _ t,(by kernel_rfl),ch,gx,_,rfl,g7.ins d1,(by kernel_rfl),_,rfl,p,dx,_,_,rfl,r _ _ t,(by kernel_rfl),ch,cx,_,_,rfl,r _ _ c1,(by kernel_rfl),_,rfl,fo,_,rfl,(c9.same r).get (w:=some k) (gr o) (fD.same r a9),_,rfl,sa,sx,_,V.int (g.sd.picked:Nat),rfl,r _ _ ag,(by kernel_rfl),_,rfl,_,_,rfl,rfl,_,_,rfl,rfl,?_⟩;dsimp only;rw[xg,nU];refine⟨G,ch,gx,b6,_,c,_,rfl,g7,g7.ins d1,(by kernel_rfl),d5,M.n,b8,fun l xs H8 s8 dd Z a8 cv=>?_⟩;have d:=r.trans s8;have g8:eB G H8:=M.gh.trans d.toF;have ba:=M.same d;have an:=hL.same d;have a3:=iA.same (O:=O) M.gh d;refine⟨_,rfl,_,.inl ⟨xs,fb.of Z,rfl⟩,?_⟩;have lx:=Paired.length a8;cases hxs:c.listed (c.Ls (some k) &&& (g.sd.picked ||| c.bit k)) with
   |nil=>
    rw[hxs]at lx;have:xs=[]:=bN.mp lx;subst this;refine gL ?_;have ap:∀j,c.foe k j→(j=k∨c.has g.sd.picked j)→j∈c.ks→False:=fun j h1 h2 h3=>by
     have:j∈c.listed (c.Ls (some k) &&& (g.sd.picked ||| c.bit k)):=eg.KI.mpr (eg.KK.mpr ⟨eg.Lx.mpr ⟨h3,h1⟩,eg.KJ.mpr (h2.elim (fun z=>.inr ((eg.KM o).mpr z)) .inl)⟩);rw[hxs]at this;cases this
    have cp:c.K2 L g.sd.picked k:=by
     rcases (bl g bm).just k bf with z | z | ⟨j,z1,z2⟩ | z
     ·exact absurd (eg.Lv.mpr ⟨o,z⟩) hns
     ·exact(ap k z (.inl rfl) o).elim
     ·exact(ap j z2 (.inr z1) z1.1).elim
     ·exact z
    obtain⟨b7,ma,re,pm,pp,ds,rs,Ol,hO,cd,b4⟩:=id hL.ex;refine⟨_,rfl,p,dx,_,V.ref le,rfl,d _ _ t,(by kernel_rfl),le,b7,_,rfl,d _ _ (M.gh.ins cd),(by kernel_rfl),_,rfl,_,rfl,sa,sx,_,V.int (g.sd.picked:Nat),rfl,d _ _ ag,(by kernel_rfl),G,le,ch,c,L,O,v,k,g.sd.picked,rfl,g8,M.chart,an,fD.same d a9,o,fun H' j e s' R he=>?_,fun b5=>?_⟩
    ·refine q G H' O L j e (a3.trans (iA.same g8 s')) (an.same s') I ⟨[],by simp⟩ R ?_ .inl;have h1:c.has (ig e.1 g.sd.picked) k:=by rw[he];exact(eg.KM o).mpr rfl
     refine a6 _ (eg.KL.mp h1).1 fun j' cz=>?_;by_cases ah:c.has g.sd.picked j'
     ·exact .inr ah
     ·have:c.has (ig e.1 g.sd.picked) j':=eg.KL.mpr ⟨cz,ah⟩;rw[he]at this;exact .inl ((eg.KM o).mp this)
    ·obtain⟨e,he,h1,h2⟩:=cp;exact absurd (vJ o (I.lt e he) h1 h2 ((bl g bm).off k bf)) (b5 e he h1)
   |cons j0 js=>
    rw[hxs]at lx;obtain⟨x0,xr,rfl⟩:∃x0 xr,xs=x0::xr:=by
     cases xs with
     |nil=>simp at lx
     |cons a b=>exact⟨a,b,rfl⟩
    rw[hxs]at a8;have a4:fD G x0 j0:=by cases a8 with | cons h _=>exact h
    have b3:j0∈c.listed (c.Ls (some k) &&& (g.sd.picked ||| c.bit k)):=by rw[hxs];exact bB
    obtain⟨b9,ah⟩:=eg.KK.mp (eg.KI.mp b3);obtain⟨S,bq⟩:=eg.Lx.mp b9;have a1:j0=k∨c.has g.sd.picked j0:=(eg.KJ.mp ah).elim .inr fun z=>.inl ((eg.KM o).mp z);have X:j0.1=k.1→j0=k:=fun e=>a1.resolve_right fun z=>cn ⟨j0,z,e⟩;have as:Jv c FF k (c.bit j0 ||| c.bit k):=a6 _ (eg.KJ.mpr (.inr ((eg.KM o).mpr rfl))) fun j R=>(eg.KJ.mp R).elim (fun z=>by rw[(eg.KM S).mp z];exact a1) fun z=>.inl ((eg.KM o).mp z);refine ff ?_;refine⟨_,rfl,p,dx,_,_,rfl,d _ _ t,(by kernel_rfl),ch,cx,_,_,rfl,d _ _ c1,(by kernel_rfl),_,rfl,l,_,_,x0,rfl,rfl,fb.of Z,mU,sh,_,rfl,(c8.same d).get (w:=some j0) (gr S) (fD.f g8 a4),_,rfl,_,_,rfl,rfl,_,rfl,?_⟩;dsimp only;rw[nU,jS o];by_cases hsj:c.has (c.Lr (some j0)) k
    ·rw[ao hsj];refine gL ⟨_,rfl,p,dx,_,rfl,d _ _ t,(by kernel_rfl),_,rfl,l,_,_,x0,rfl,rfl,fb.of Z,mU,_,rfl,G,p,ch,le,fl,c,L,O,_,v,some j0,k,rfl,ba,an,I,gr S,a4,hv,o,(eg.Lv.mp hsj).2,wM S o X,?_⟩;intro G' H' O' L' j e gw hl B hx R hm Y;refine q G' H' O' L' j e (a3.trans gw) hl B hx R ?_ Y;have U:e.1=c.bit j0 ||| c.bit k:=hm;rw[U];exact as
    ·rw[au hsj];refine ff ⟨_,rfl,p,dx,_,rfl,d _ _ t,(by kernel_rfl),_,rfl,_,rfl,l,_,_,x0,rfl,rfl,fb.of Z,mU,G,p,ch,le,fl,c,L,O,v,x0,some k,j0,rfl,ba,an,I,gr o,hv,a4,S,?_,wM o S (fun e=>(X e.symm).symm),?_⟩
     ·rcases bq with z | z
      ·exact z
      ·exact absurd (eg.Lv.mpr ⟨o,z⟩) hsj
     intro G' H' O' L' j e gw hl B hx R hm Y;refine q G' H' O' L' j e (a3.trans gw) hl B hx R ?_ Y;have U:e.1=c.bit k ||| c.bit j0:=hm;rw[U,Nat.or_comm];exact as
end
def HQ (c:eg)(L:iu)(kvs:List (gv×V)):Option (Pk×Nat×Nat)→Prop
 |none=>kvs=[]
 |some (k0,j0,m0)=>k0∈c.ks∧kvs=[(Sum.inl (c.bit k0:Int),V.int (j0:Nat))]∧∃e,L[j0]?=some e∧e.1=m0
def Js (c:eg)(fk:Fk)(kn:Option (Pk×Nat×Nat))(m:Nat):Prop:=∀j,c.has m j→c.has fk.sd.picked j∨∃k0 j0 m0,kn=some (k0,j0,m0)∧c.has m0 j∧j≠k0
inductive DT (CB CC CL CS CF CT:Addr)(vs:List V)(H:Hp)(Q:VK)(E:XK):Prop
 |mk (G:Hp)(p ch le fl:Addr)(c:eg)(L:iu)(O:List Addr)(A:List (Addr×Addr))(F:List Fk)(i:Nat)(a:Addr×Addr)(fk:Fk)(kd:Addr)(kvs:List (gv×V))(kn:Option (Pk×Nat×Nat))(_:vs=[.ref p,.ref a.1,.ref kd])(_:Se CB CC CS G H p ch le fl c)(_:gj CL G H le ch c L O)(_:gX c L)(_:iY CF CT G H c fl A F)(_:y8 O fl A)(_:qj c F)(_:(∀f∈F,iE c L f.sd))(_:F.length≤64)(_:A[i]?=some a)(_:F[i]?=some fk)(_:fk.part∈fk.sd.wanted.map (·.1))(_:Rd H kd (.dK kvs))(_:kd∉O)(_:HQ c L kvs kn)(_:(∀k∈c.ks,k.1=fk.part→c.has fk.sd.dead k∨∃j0 m0,kn=some (k,j0,m0)))(_:(∀m,Js c fk kn m→c.K1 m))(_:BU CL G H O le ch c L (Js c fk kn) Q):DT CB CC CL CS CF CT vs H Q E
def rB (CB CC CL CS CF CT:Addr):Sp:=DT CB CC CL CS CF CT
theorem Fi {c:eg}{L:iu}{kvs:List (gv×V)}{kn:Option (Pk×Nat×Nat)}(h:HQ c L kvs kn){k:Pk}(a:k∈c.ks):(eW kvs (Sum.inl (c.bit k:Int))=none∧∀j0 m0,kn≠some (k,j0,m0))∨∃(j0 m0:Nat) (e:Nat×Rs),kn=some (k,j0,m0)∧eW kvs (Sum.inl (c.bit k:Int))=some (.int (j0:Nat))∧L[j0]?=some e∧e.1=m0:=by
 match kn,h with
 |none,h=>exact .inl ⟨by rw[show kvs=[] from h];rfl,fun _ _ z=>nomatch z⟩
 |some (k0,j0,m0),⟨h1,h2,e,h3,h4⟩=>
  by_cases z:k=k0
  ·subst z;refine .inr ⟨j0,m0,e,rfl,?_,h3,h4⟩;rw[h2];exact gs rfl
  ·refine .inl ⟨?_,fun _ _ y=>z (by cases y;rfl)⟩;rw[h2];unfold eW;rw[bp,au]
   ·rfl
   ·intro y;have d:=Sum.inl.inj y;have:c.bit k0=c.bit k:=by lia
    refine z ?_;have b:c.has (c.bit k0) k:=by rw[this];exact(eg.KM a).mpr rfl
    exact(eg.KM h1).mp b
theorem wP {α:Type} [DecidableEq α] {β:Type}{f:β→α}{l:List β}{x:α}(h:x∈l.map f):∃y,l[(l.map f).idxOf x]?=some y∧f y=x:=by
 have a:=bz.mpr h;have b:=cw a;rw[List.getElem_map]at b;exact⟨_,aj _,b⟩
section
variable {base:Heap}{f:Addr}
theorem kQ:eM ["self","fork","known","who","place","need","mask","below","version","pick","bit","at"] ["self","fork","known"] (eE zK):=jc
theorem C6 (F:iQ K "shut" "Search.shut" zK f fd)(T:tO K mg CS)(S:TC K mg CC)(ew:TL K mg CL)(f1:TB K mg CB)(TT:DF K mg CT)(TF:BR K mg CF)(MN:Mt P w K mg base CS fh 1 "place_of_need" ["self","who","part"] (mx CB CC CS))(MM:Mt P w K mg base CB fh 2 "meeting" ["self","need"] (jY CB))(MA:Mt P w K mg base CS fh 4 "line_against" ["self","pick"] (my CB CC CL CS CF CT))(MP:Mt P w K mg base CL fh 2 "put_down" ["self","mask","reason"] (wE CB CC CL)):eZ P w K mg base fh 5 f fd ["self","fork","known"] (rB CB CC CL CS CF CT):=by
 refine F.ok kQ (fun vs H Q E h=>?_) (fun la A h5 s H vs Q E hr h=>?_)
 ·obtain⟨G,p,ch,le,fl,c,L,O,AA,FF,i,a,d,U,kvs,kn,rfl,_⟩:=h;rfl
 obtain⟨G,p,ch,le,fl,c,L,O,AA,FF,i,a,d,U,kvs,kn,rfl,M,hL,fp,hF,b4,eb,f3,i3,eu,dc,ea,ho,f2,h9,b6,eq,q⟩:=h;have hu:=gR hr;refine⟨_,(ee (eJ (i:=3) kQ.nd rfl (Or.inl rfl) (gU hu (eG TT.cl TT.nWa (eG TF.cl TF.nSt (pv 1))) (eG TF.cl TF.nPa (pv 1)) (fun _ _=>rfl))) (ee (eJ (i:=4) kQ.nd rfl (Or.inl rfl) (ib MN (hr.mono (by decide)) eT (pv 0) (dZ (pv 3) (dZ (eG TF.cl TF.nPa (pv 1)) el)))) (ee (eJ (i:=5) kQ.nd rfl (Or.inl rfl) (eK fg (fc hu (eG f1.cl f1.nN (eG S.cl S.nBoard (eG T.cl T.nCh (pv 0)))) (pv 3) (fun _ _=>rfl)) (pv 4) (fun _ _=>rfl))) (ee (eJ (i:=6) kQ.nd rfl (Or.inl rfl) (fc hu (eG S.cl S.nBits (eG T.cl T.nCh (pv 0))) (pv 3) (fun _ _=>rfl))) (ee (eJ (i:=7) kQ.nd rfl (Or.inl rfl) (gl el)) (ee (fZ PassesOwn.never rfl (fO (ib MM (hr.mono (by decide)) eT (eG S.cl S.nBoard (eG T.cl T.nCh (pv 0))) (dZ (pv 5) el))) (eN (i:=8) kQ.nd rfl (Or.inl rfl)) (ee (eJ (i:=9) kQ.nd rfl (Or.inl rfl) (gT (dZ (eG TF.cl TF.nPa (pv 1)) (dZ (pv 8) el)))) (ee (eJ (i:=10) kQ.nd rfl (Or.inl rfl) (fc hu (eG S.cl S.nBits (eG T.cl T.nCh (pv 0))) (pv 9) (fun _ _=>rfl))) (ee (eJ (i:=11) kQ.nd rfl (Or.inl rfl) (Ah (gZ (sI hu (pv 10) (pv 2))) (gU hu (pv 2) (pv 10) (fun _ _=>rfl)) (ib MA hr eT (pv 0) (dZ (pv 9) el)))) (ee (gf (jp PySem.F.plainAttrs_list PySem.F.slot_list_append PySem.F.type_list_append gN (pv 7) (dZ (pv 11) el))) (eo (ki (i:=6) kQ.nd rfl (Or.inl rfl) (fm hJ (eK fg (eG ew.cl ew.nMa (eG T.cl T.nLe (pv 0))) (pv 11) (fun _ _=>rfl)) (iX kM (pv 10))) ul))))))) (eo (eL (ib MP (hr.mono (by decide)) eT (eG T.cl T.nLe (pv 0)) (dZ (pv 6) (dZ (gT (dZ iZ (dZ (pv 3) (dZ (pv 4) (dZ (pv 7) el))))) el))))))))))),?_⟩;obtain⟨dx,hp⟩:=M.self;have h0:=M.gh.ins hp;have ba:=ak dc;have em:=f3 d ba;obtain⟨⟨fx,hfa⟩,sx,wa,hsa,wo,wkvs,hwa,hwp⟩:mY CF CT G H c a d:=by
  obtain⟨h4,h1,h2⟩:=Paired.KA hF.p eu;rw[dc]at h1;cases h1;exact h2
 obtain⟨wv,u,e7,fa,an⟩:=oG hwp ea;obtain⟨kb,fv,fu⟩:=em.w1 d.part u fa;have I:c.Who u:=fun k e=>by subst e;exact fv.1
 refine⟨_,rfl,a.1,fx,_,V.ref a.2,rfl,hfa,(by kernel_rfl),a.2,sx,_,V.ref wa,rfl,hsa,(by kernel_rfl),_,rfl,a.1,fx,_,V.str d.part,rfl,hfa,(by kernel_rfl),wa,_,rfl,.inl ⟨wkvs,Sum.inr d.part,.inr ⟨wo,M.gh.frz hwa⟩,rfl,e7.symm⟩,?_⟩;refine⟨_,rfl,p,dx,_,rfl,h0,(by kernel_rfl),_,rfl,_,rfl,a.1,fx,_,V.str d.part,rfl,hfa,(by kernel_rfl),G,p,ch,le,fl,c,wv,u,d.part,rfl,M,I,an.f M.gh,fu,fun H1 s1=>?_⟩;obtain⟨n,ft,gn⟩:=wP fu;generalize kq:((c.needs u).map (·.1)).idxOf d.part=pl at *;have g1:eB G H1:=M.gh.trans s1.toF;obtain⟨cx,b,bits,ko,k5,al,sh,fo,st,c1,c2,c3,c4,c5,c6,c7,c8,c9⟩:=(M.chart.f g1).ex;obtain⟨bx,dn,dv,go,hg⟩:=jk c2 c3;obtain⟨na,g7,zs,hz,gd⟩:=hg u wv I (an.f g1);have lz:=Paired.length gd;obtain⟨zv,ih,it⟩:=i6 gd (show iD (c.needs u) (pl:Int)=some n by rw[im];exact ft);have j2:tJ zs (pl:Int)=some zv:=jM ih;have cs:=g1.ins hp;refine⟨_,rfl,p,dx,_,_,rfl,cs,(by kernel_rfl),ch,cx,_,_,rfl,c1,(by kernel_rfl),b,bx,_,_,rfl,go,gJ _ _,_,rfl,dn,_,rfl,g7,_,rfl,na,_,_,zv,rfl,rfl,fb.of hz,j2,?_⟩;refine⟨_,rfl,p,dx,_,_,rfl,cs,(by kernel_rfl),ch,cx,_,_,rfl,c1,(by kernel_rfl),_,rfl,bits,_,rfl,c4.get I (an.f g1),?_⟩;refine⟨(by show 0≤sizeLine;decide),fun g J=>?_⟩;have s2:=eA J (.lst []);have b8:upd H1 g (.lst []) g=some (.lst []):=d0;generalize upd H1 g (.lst [])=H2 at *;have ec:=s1.trans s2;have g2:eB G H2:=M.gh.trans ec.toF;refine⟨_,rfl,p,dx,_,_,rfl,s2 _ _ cs,(by kernel_rfl),ch,cx,_,V.ref b,rfl,s2 _ _ c1,(by kernel_rfl),b,bx,_,rfl,s2 _ _ go,qg _ _ (by decide +kernel) (by decide +kernel),_,rfl,b,st,c.es,_,n,rfl,c2.same s2,fR.same s2 it,by rw[←c.n_eq];exact M.n,fun l ms H3 s3 hl gp g0 js=>?_⟩;have gk:=pU g0 js;subst gk;have N:H g=none:=s1.free J;have ei:=ec.trans s3;have gb:l≠g:=fun z=>by rw[z,b8]at hl;cases hl
 have hh:l∉O:=fun z=>by obtain⟨v,hv⟩:=hL.liv l z;rw[ec _ _ hv]at hl;cases hl
 have f7:g∉O:=fun z=>by obtain⟨v,hv⟩:=hL.liv g z;rw[N]at hv;cases hv
 refine⟨l,rfl,⟨_,fb.of gp⟩,?_⟩;refine gq (K:=K) (a:=l) (xs:=(jl c.es n).map V.int) (fun t σ H4=>∃(G':Hp) (O':List Addr) (L':iu) (bs:List Nat) (m:Nat) (o8 o9 cy cz:Option V),σ=[some (.ref p),some (.ref a.1),some (.ref U),some wv,some (.int (pl:Nat)),some zv,some (.int (m:Nat)),some (.ref g),o8,o9,cy,cz]∧iA G H O G' H4 O'∧gj CL G' H4 le ch c L' O'∧gX c L'∧(∃X,L'=L++X)∧(NZ L→NZ L')∧iY CF CT G' H4 c fl AA FF∧y8 O' fl AA∧H4 g=some (.lst (gQ bs))∧g∉O'∧G' g=none∧H4 l=some (.lst ((jl c.es n).map V.int))∧l∉O'∧Rd H4 U (.dK kvs)∧U∉O'∧bs.length=t∧(∀(j b:Nat) (v:Int),bs[j]?=some b→(jl c.es n)[j]?=some v→∃e,L'[b]?=some e∧∀x,c.has e.1 x→x=(n.1,v)∨c.has m x)∧m<2^c.n∧Js c d kn m∧c.K0 m u) ?_ ((by rintro t σ H4 _ ⟨_,_,_,_,_,_,_,_,_,_,_,_,_,_,_,_,_,_,_,_,e,_⟩;exact fb.of e)) ?_ ?_
 ·have GW:=iA.same (O:=O) M.gh ei;have bv:∀j,c.has (c.KC u) j→c.has d.sd.picked j:=fun j hj=>by
   have:=(eg.LA I).mp hj;subst this;exact fv
  refine⟨G,O,L,[],c.KC u,none,none,none,none,rfl,GW,hL.same ei,fp,⟨[],by simp⟩,id,hF.grow GW b4,b4,s3 _ _ b8,f7,M.gh.free N,gp,hh,ie ei ho,f2,rfl,fun j b v h=>by simp at h,eg.Lz I,fun j hj=>.inl (bv j hj),?_⟩;cases u with
  |none=>trivial
  |some k=>exact(eg.LA I).mpr rfl
 ·rintro t x σ H4 ht ⟨G4,O4,L4,bs,m,o8,o9,cy,cz,rfl,gw,a3,r,a1,ah,cv,B,R,ad,a5,e3,ed,co,a8,J,cp,ap,bd,c0⟩;rw[ae]at ht;obtain⟨v,hv,rfl⟩:=aw.mp ht;have g8:=ak hv;obtain⟨⟨fx4,hfa4⟩,hst4⟩:mY CF CT G4 H4 c a d:=by
   obtain⟨h4,h1,h2⟩:=Paired.KA cv.p eu;rw[dc]at h1;cases h1;exact h2
  have hk:(d.part,v)∈c.ks:=(c.mem _).mpr (by rw[←gn];exact(sT.mp g8).1);refine⟨_,rfl,a.1,fx4,_,V.str d.part,rfl,hfa4,(by kernel_rfl),_,rfl,(by show 2≤sizeLine;decide),fun tp bf=>?_⟩;have ep:g≠tp:=er R bf;have b3:=gw.trans (iA.put (O:=O4) (u:=.tup [.str d.part,.int v]) gw.gh bf);have b2:=a3.put gw.gh (u:=.tup [.str d.part,.int v]) bf;have f5:=iA.put (O:=O4) (u:=.tup [.str d.part,.int v]) gw.gh bf;have bq:=cv.grow f5 B;have d7:=eA bf (.tup [.str d.part,.int v]);have e1:fD (upd G4 tp (.tup [.str d.part,.int v])) (.ref tp) (d.part,v):=⟨tp,rfl,d0⟩;have ey:upd G4 tp (.tup [.str d.part,.int v]) g=none:=by rw[ef ep];exact a5
  generalize upd G4 tp (.tup [.str d.part,.int v])=G5 at *;generalize upd H4 tp (.tup [.str d.part,.int v])=H5 at *;have a0:Se CB CC CS G5 H5 p ch le fl c:=M.grow b3.gg b3.gh;have e8:=a0.gh.ins (b3.gg.ins hp);obtain⟨hs,b5,dl,kp,kv,k4,lb,kt,kk,d1,d2,d3,d4,d5,d6⟩:=(a0.chart.f a0.gh).ex;refine⟨_,rfl,p,dx,_,_,rfl,e8,(by kernel_rfl),ch,hs,_,_,rfl,d1,(by kernel_rfl),_,rfl,dl,_,rfl,d4.get (w:=some (d.part,v)) (gr hk) (fD.f a0.gh e1),?_⟩;have e6:∀f∈FF,iE c L4 f.sd:=fun f hf=>(f3 f hf).led fun e he=>by obtain⟨X,hX⟩:=a1;rw[hX];exact aQ _ he
  have a9:=a8;have d9:Rd H5 U (.dK kvs):=ie d7 co;have bm:=d7 _ _ R;have ez:=d7 _ _ e3;have key:∀(Q':VK) (σ:L2.St),σ[0]?=some (some (.ref p))→σ[2]?=some (some (.ref U))→σ[9]?=some (some (.ref tp))→σ[10]?=some (some (.int (c.KC (some (d.part,v)):Nat)))→
    (∀(G' H':Hp) (O':List Addr) (L':iu) (j:Nat) (e:Nat×Rs),iA G5 H5 O4 G' H' O'→gj CL G' H' le ch c L' O'→gX c L'→(∃X,L'=L4++X)→L'[j]?=some e→(∀x,c.has e.1 x→x=(d.part,v)∨c.has d.sd.picked x∨∃k0 j0 m0,kn=some (k0,j0,m0)∧c.has m0 x∧x≠k0)→(NZ L4→NZ L')→Q' (.int (j:Nat)) H')→
    JA (tB (Gu (ow 10) (ow 2))) (DK (ow 2) (ow 10)) (tU CS ("line_against" : Str) (my CB CC CL CS CF CT) [] E0 (ow 0) (qB (ow 9) xV)) σ H5 Q':=by
   intro Q' σ e0 e2 e9 e5 hq;have d8:i7 H5 U (.int (c.KC (some (d.part,v)):Nat)) (eW kvs (Sum.inl (c.bit (d.part,v):Int))):=.inl ⟨kvs,Sum.inl (c.bit (d.part,v):Int),d9,rfl,rfl⟩;refine⟨_,e5,_,e2,U,_,rfl,d8,_,rfl,?_⟩;rcases Fi h9 hk with ⟨z1,z2⟩ | ⟨j0,m0,e,z1,z2,z3,z4⟩
   ·rw[z1];refine ff ⟨_,e0,p,dx,_,rfl,e8,(by kernel_rfl),_,e9,G5,p,ch,le,fl,c,L4,O4,AA,FF,.ref tp,(d.part,v),rfl,a0,b2,r,bq,e1,hk,eb,e6,⟨d,ba,(b6 _ hk rfl).resolve_right (by rintro⟨j0,m0,z⟩;exact z2 j0 m0 z),kb⟩,i3,?_⟩;intro G' H' O' L' j e i0 kc dy ka h6 b7 fy;refine hq G' H' O' L' j e i0 kc dy ka h6 (fun x Z=>?_) (fun z=>?_)
    ·exact(b7.2 d ba ((b6 _ hk rfl).resolve_right (by rintro⟨j0,m0,z⟩;exact z2 j0 m0 z)) x Z).imp id .inl
    ·rcases fy z with y | ⟨y,_⟩
     ·exact y
     ·have:=b7.1;rw[y]at this;exact(eg.KN this).elim
   ·rw[z2]at d8 ⊢;refine gL ⟨_,e2,_,e5,U,_,rfl,d8,?_⟩;obtain⟨X,hX⟩:=a1;have j1:L4[j0]?=some e:=by rw[hX,aI (af.mp z3).1];exact z3
    refine hq G5 H5 O4 L4 j0 e (iA.refl a0.gh) b2 r ⟨[],by simp⟩ j1 (fun x Z=>?_) id;by_cases y:x=(d.part,v)
    ·exact .inl y
    ·exact .inr (.inr ⟨_,j0,m0,z1,by rw[←z4];exact Z,y⟩)
  refine key _ _ rfl rfl rfl rfl fun G6 H6 O6 L6 j e D a6 a4 ev ct da e4=>?_;have ds:=b3.trans D;have kw:=ds.gh.ins (ds.gg.ins hp);have as:H6 g=some (.lst (gQ bs)):=D.keep ad bm fun z=>z;have cd:=D.out ad bm;have b9:=D.off ey bm;have hw:=D.keep ed ez fun z=>z;have hd:=D.out ed ez;have kh:bs.length<64:=by
   have h1:=(af.mp hv).1;have h2:=lg c.es n;have h3:=M.n;rw[c.n_eq]at h3
   lia
  refine⟨_,rfl,.inl ⟨rfl,_,fb.of as⟩,_,rfl,g,_,_,rfl,rfl,as,(by unfold gQ;rw[ab];exact eV (by lia)),?_⟩;have aa:∀b,b≠g→upd H6 g (.lst (gQ bs++[.int (j:Nat)])) b=H6 b:=fun b hb=>ef hb;have ek:upd H6 g (.lst (gQ bs++[.int (j:Nat)])) g=some (.lst (gQ (bs++[j]))):=by
   rw[d0];unfold gQ;rw[ay];rfl
  have b1:=ds.own (u:=.lst (gQ bs++[.int (j:Nat)])) N b9;generalize upd H6 g (.lst (gQ bs++[.int (j:Nat)]))=H7 at *;have f6:gj CL G6 H7 le ch c L6 O6:=a6.grow (eB.refl _) a6.off fun x Z=>aa x fun z=>cd (z▸Z);obtain⟨hm,f9,k9,k7,kx,kj,kl,ky,k1,f4,f8,gt⟩:=id f6.ex;have is:(L6.map (·.1))[j]?=some e.1:=by rw[ae,ct];rfl
  have g4:=b1.gh.ins (b1.gg.ins hp);refine⟨_,rfl,_,rfl,p,dx,_,V.ref le,rfl,g4,(by kernel_rfl),le,hm,_,V.ref f9,rfl,b1.gh.ins f4,(by kernel_rfl),_,rfl,f9,_,_,_,rfl,rfl,fb.of f8,j5 is,_,rfl,_,rfl,_,_,rfl,rfl,_,_,rfl,rfl,?_⟩;dsimp only;rw[qw,xg,show c.KC (some (d.part,v))=c.bit (d.part,v) from rfl];have f0:e.1<2^c.n:=a4.lt e (ak ct);have hn:∃X,L6=L++X:=by
   obtain⟨X,hX⟩:=a1;obtain⟨Y,hY⟩:=ev;exact⟨X++Y,by rw[hY,hX,bO]⟩
  have a2:=bq.grow D B;have dd:=y8.grow bq D B;have ag:∀{x C dx fs},H6 x=some (.ins C dx fs)→x≠g:=fun {x C dx fs} h=>fC h as fun z=>nomatch z;have g3:iY CF CT G6 H7 c fl AA FF:=by
   have hc:fl≠g:=fun z=>by
    have:=D.keep B.1 bq.l fun z=>z;have cn:=hF.l;rw[z,N]at cn;cases cn
   refine⟨by rw[aa fl hc];exact a2.l,?_,a2.offl,a2.off,a2.nd1,a2.nd2⟩;refine Paired.Kg a2.p (by rintro x y ⟨⟨d1,z1⟩,d2,w2,z2,z3⟩;exact⟨⟨d1,by rw[aa _ (ag z1)];exact z1⟩,d2,w2,by rw[aa _ (ag z2)];exact z2,z3⟩)
  have ga:U∉O6:=fun z=>by
   rcases D.on U z with y | y
   ·exact a9 y
   ·rcases d9 with h | ⟨o,h⟩ <;> (rw[y]at h;cases h)
  have hy:Rd H7 U (.dK kvs):=by
   have k6:Rd H6 U (.dK kvs):=D.fr.rd (d9.imp (fun h=>by rw[eD a9];exact h) (by rintro⟨o,h⟩;exact⟨o,by rw[eD a9];exact h⟩));have ej:U≠g:=fun z=>by
    rw[z]at k6;rcases k6 with h | ⟨o,h⟩ <;> (rw[as]at h;cases h)
   exact k6.imp (fun h=>by rw[aa U ej];exact h) (by rintro⟨o,h⟩;exact⟨o,by rw[aa U ej];exact h⟩)
  refine⟨G6,O6,L6,bs++[j],m ||| ig e.1 (c.bit (d.part,v)),some (.int v),some (.ref tp),some (.int (c.bit (d.part,v):Nat)),some (.int (j:Nat)),rfl,b1,f6,a4,hn,fun z=>e4 (ah z),g3,dd,ek,cd,b9,by rw[aa l gb];exact hw,hd,hy,ga,by rw[aF,J];rfl,fun j' b' v' h1 h2=>?_,ji ap (jB f0),fun x Z=>?_,?_⟩
  ·by_cases hjt:j'<bs.length
   ·rw[aI hjt]at h1;obtain⟨e',z1,z2⟩:=cp j' b' v' h1 h2;obtain⟨Y,hY⟩:=ev;refine⟨e',by rw[hY,aI (af.mp z1).1];exact z1,fun x Z=>(z2 x Z).imp id fun z=>eg.KJ.mpr (.inl z)⟩
   ·have h8:j'=bs.length:=by
     have:=(af.mp h1).1;rw[aF,aT]at this
     lia
    subst h8;rw[aZ (aq _),bS]at h1;have i1:j=b':=by simpa using h1
    subst i1;rw[J,hv]at h2;cases h2;refine⟨e,ct,fun x Z=>?_⟩;by_cases y:x=(d.part,v)
    ·exact .inl (by rw[gn];exact y)
    ·exact .inr (eg.KJ.mpr (.inr (eg.KL.mpr ⟨Z,fun z=>y ((eg.KM hk).mp z)⟩)))
  ·rcases eg.KJ.mp Z with z | z
   ·exact bd x z
   ·obtain⟨z1,z2⟩:=eg.KL.mp z;exact(da x z1).resolve_left fun y=>z2 ((eg.KM hk).mpr y)
  ·cases u with
   |none=>trivial
   |some k=>exact eg.KJ.mpr (.inl c0)
 ·rintro σ H4 ⟨G4,O4,L4,bs,m,o8,o9,cy,cz,rfl,gw,a3,r,a1,ah,cv,B,R,ad,a5,e3,ed,co,a8,J,cp,ap,bd,c0⟩;rw[ab]at J;obtain⟨ha,ma,re,pm,pp,k3,rs,Ol,hO,i2,g6⟩:=id a3.ex;have gx:=gw.gh.ins (gw.gg.ins hp);refine⟨_,rfl,p,dx,_,V.ref le,rfl,gx,(by kernel_rfl),le,ha,_,rfl,gw.gh.ins i2,(by kernel_rfl),_,rfl,_,rfl,_,rfl,_,rfl,(by show 4≤sizeLine;decide),fun t ht=>?_⟩;have jn:g≠t:=er R ht;have k8:H t=none:=gw.lv t ht;have k2:G4 t=none:=gw.gh.free ht;have eh:iA G H O (upd G4 g (.lst (gQ bs))) H4 O4:=gw.base M.gh N R;have a7:=eh.trans (iA.put (u:=.tup [.str ("open" : Str),wv,.int (pl:Nat),.ref g]) eh.gh ht);have b2:gj CL (upd G4 g (.lst (gQ bs))) H4 le ch c L4 O4:=a3.grow ((eB.refl _).upd a5) (fun x Z=>by rw[ef (fun z:x=g=>ad (z▸Z))];exact a3.off x Z) fun _ _=>rfl;have a6:=b2.put eh.gh (u:=.tup [.str ("open" : Str),wv,.int (pl:Nat),.ref g]) ht;have hR:mi (upd (upd G4 g (.lst (gQ bs))) t (.tup [.str ("open" : Str),wv,.int (pl:Nat),.ref g])) (.ref t) ⟨u,(pl:Nat),.many (bs.map fun b:Nat=>(b:Int))⟩:=by
   refine⟨t,wv,.ref g,rfl,d0,an.f a7.gg,g,rfl,?_⟩;rw[ef jn,d0,cF];rfl
  have hi:=M.chart.f a7.gg;generalize upd (upd G4 g (.lst (gQ bs))) t (.tup [.str ("open" : Str),wv,.int (pl:Nat),.ref g])=G6 at *;generalize upd H4 t (.tup [.str ("open" : Str),wv,.int (pl:Nat),.ref g])=H6 at *;refine⟨G6,le,ch,c,L4,O4,m,_,_,rfl,a7.gh,hi,a6,hR,ap,M.n,M.sm L4 r,fun j hj=>?_,fun dp H9 O9 g9 iv=>?_⟩
  ·obtain⟨e,g5,kf⟩:=qE hj;exact q G6 H6 O4 L4 j e a7 a6 r a1 g5 (by rw[kf];exact bd) fun z=>.inl (ah z)
  ·obtain⟨X,hX⟩:=a1;refine q G6 H9 O9 _ L4.length (m,⟨u,(pl:Nat),.many (bs.map fun b:Nat=>(b:Int))⟩) (a7.trans g9) iv (r.add ap (eq m bd) (nE.mp dp) ?_) ⟨X++[(m,⟨u,(pl:Nat),.many (bs.map fun b:Nat=>(b:Int))⟩)],by rw[hX,bO]⟩ ?_ bd fun h7=>?_
   ·exact yc c0 ft J cp
   ·rw[aZ (aq _),bS];rfl
   ·by_cases bv:m=0
    ·exact .inr ⟨bv,by rw[List.getLast?_append];rfl⟩
    ·refine .inl fun x Z=>?_;rcases aB.mp Z with z | z
     ·exact ah h7 x z
     ·rw[ai.mp z];exact bv
end
theorem oV {α:Type}{l:List α}{x:α}(h:l[l.length-1]?=some x):tJ l (-1)=some x:=by
 have a:=(af.mp h).1;unfold tJ Dn;rw[if_neg (by decide)];have:(((-1:Int)+(l.length:Int)).toNat)=l.length-1:=by lia
 first
 |(rw[if_pos (by lia)];simp only[Option.bind_some];rw[this];exact h)
 |(rw[if_pos (by lia)];show l[_]?=some x;rw[show((l.length:Int)+-1).toNat=l.length-1 by lia];exact h)
inductive DX (CB CC CL CS CF CT:Addr)(vs:List V)(H:Hp)(Q:VK)(E:XK):Prop
 |mk (G:Hp)(p ch le fl:Addr)(c:eg)(L:iu)(O:List Addr)(A:List (Addr×Addr))(F:List Fk)(k:Pk)(j:Nat)(e:Nat×Rs)(_:vs=[.ref p,.int (c.bit k:Nat),.int (j:Nat)])(_:Se CB CC CS G H p ch le fl c)(_:gj CL G H le ch c L O)(_:iY CF CT G H c fl A F)(_:L[j]?=some e)(_:F.length≤64)(_:∀H',eF (del H (A.map (·.2))) H'→iY CF CT G H' c fl A (F.map (c.K7 k e.1))→Q .non H'):DX CB CC CL CS CF CT vs H Q E
def rG (CB CC CL CS CF CT:Addr):Sp:=DX CB CC CL CS CF CT
theorem Cs (a b d w:V):fX ("dead" : Str) d (zd a b w)=zd a d w:=by kernel_rfl
theorem Ba {α:Type}{t i:Nat}(h:¬t=i)(x y:α):(if t<i+1 then x else y)=if t<i then x else y:=by
 by_cases z:t<i
 ·rw[if_pos z,if_pos (by lia)]
 ·rw[if_neg z,if_neg (by lia)]
theorem Hm:(["fork"]:List Str).Nodup:=by decide +kernel
theorem zy {a b dx dy:Addr}{x s t y z w:V}(h1:H a=some (.ins CF dx (ut x s t)))(h2:H b=some (.ins CT dy (zd y z w))):a≠b:=by
 refine fC h1 h2 fun e=>?_;injection e with _ _ e
 injection e with e _
 injection e with e _
 exact absurd e (by decide +kernel)
section
variable {base:Heap}{f:Addr}
theorem EM:eM ["self","bit","place","others","stand"] ["self","bit","place"] (eE zM):=jc
theorem C9 (F:iQ K "mark_dead" "Search.mark_dead" zM f fd)(T:tO K mg CS)(ah:TL K mg CL)(TT:DF K mg CT)(TF:BR K mg CF):eZ P w K mg base fh 1 f fd ["self","bit","place"] (rG CB CC CL CS CF CT):=by
 refine F.ok EM (fun vs H Q E h=>?_) (fun a6 A a3 s H vs Q E hr h=>?_)
 ·obtain⟨G,p,ch,le,fl,c,L,O,m,FF,k,j,e,rfl,_⟩:=h;rfl
 obtain⟨G,p,ch,le,fl,c,L,O,m,FF,k,j,e,rfl,hS,hL,r,hj,a9,q⟩:=h;have hu:=gR hr;refine⟨_,(ee (eJ (i:=3) EM.nd rfl (Or.inl rfl) (fm hJ (eK fg (eG ah.cl ah.nMa (eG T.cl T.nLe (pv 0))) (pv 2) (fun _ _=>rfl)) (iX kM (pv 1)))) (eo (fZ PassesOwn.never rfl (fO (iH (N':=["fork"]) (n:=1) (js:=[]) rfl (iO.closed (by decide +kernel) (by decide +kernel) rfl (by decide +kernel) rfl) (iq (by decide)) (fO (eG T.cl T.nFo (pv 0))) (fun C s2 H2 fp=>eN (i:=0) Hm rfl (Or.inl rfl)) (fun C s2 H2 fp=>jI) (fun C s2 H2 fp=>eG TF.cl TF.nSt (pv 0)))) (eN (i:=4) EM.nd rfl (Or.inl rfl)) (eo (fz (fi kE (fm hJ (pv 3) (iX kM (eG TT.cl TT.nPi (pv 4)))) et (fF _)) (eo (CP TT.cl TT.nDe (pv 4) (pv 1) Bd)) eO))))),?_⟩;obtain⟨dx,hp⟩:=hS.self;have ag:=hS.gh.ins hp;obtain⟨lx,ma,re,pm,pp,a8,rs,Ol,hO,a5,a2,as⟩:=id hL.ex;have a0:(L.map (·.1))[j]?=some e.1:=by rw[ae,hj];rfl
 have lA:m.length=FF.length:=Paired.length r.p;refine⟨_,rfl,p,dx,_,V.ref le,rfl,ag,(by kernel_rfl),le,lx,_,V.ref ma,rfl,hS.gh.ins a5,(by kernel_rfl),_,rfl,ma,_,_,_,rfl,rfl,fb.of a2,j5 a0,_,rfl,_,rfl,_,_,rfl,rfl,?_⟩;dsimp only;rw[qw];refine⟨_,rfl,p,dx,_,V.ref fl,rfl,ag,(by kernel_rfl),fl,rfl,⟨_,fb.of r.l⟩,?_⟩;refine ir (xs:=m.map fun a=>V.ref a.1) (fun D i ys H7=>H7 D=some (.lst ys)∧eF H H7∧H D=none∧ys=(m.take i).map fun a=>V.ref a.2)
  (fun D hD=>⟨d0,eA hD _,hD,by simp⟩) (fun D i ys H7 hi ⟨e1,N,e3,e4⟩=>⟨fb.of (N _ _ r.l),e1,?_⟩) (fun D i y ys H7 hi ⟨e1,N,e3,e4⟩=>?_) (fun D ys H7 ⟨e1,N,e3,e4⟩=>?_)
 ·rw[ab]at hi;rw[e4,ab,aS];exact eV (by lia)
 ·rw[ae]at hi;obtain⟨a,v,rfl⟩:=aw.mp hi;obtain⟨d,J,⟨fx,I⟩,a7⟩:=Paired.KA r.p v;unfold jq rj;dsimp only;rw[if_pos rfl];refine⟨_,rfl,a.1,fx,_,V.ref a.2,rfl,N _ _ I,(by kernel_rfl),e1,d0,eF.upd N e3,e3,?_⟩;rw[e4,fJ v,ay];rfl
 ·rw[ab,aH]at e4;subst e4;refine⟨D,rfl,⟨_,fb.of e1⟩,?_⟩;have a1:∀(t:Nat) (a:Addr×Addr) (d:Fk),m[t]?=some a→FF[t]?=some d→mY CF CT G H c a d:=fun t a d h1 h2=>by
   obtain⟨B,X,z2⟩:=Paired.KA r.p h1;rw[h2]at X;cases X;exact z2
  have aa:∀{a},a∈m→a.2∈m.map (·.2):=fun h=>bh h;have kp:∀{H2:Hp},eF (del H (m.map (·.2))) H2→∀{x u},H x=some u→x∉m.map (·.2)→H2 x=some u:=fun {H2} U {x u} h n=>U _ _ (by rw[eD n];exact h);have R:∀{x},x∈m.map (·.2)→∃dy y z w,H x=some (.ins CT dy (zd y z w)):=fun {x} hx=>by
   obtain⟨a,v,rfl⟩:=av.mp hx;obtain⟨t,M⟩:=az.mp v;obtain⟨d,_,_,sx,wa,o,_⟩:=Paired.KA r.p M;exact⟨_,_,_,_,o⟩
  have nD:D∉m.map (·.2):=fun z=>by obtain⟨_,_,_,_,h⟩:=R z;rw[e3]at h;cases h
  refine gq (K:=K) (a:=D) (xs:=m.map fun a=>V.ref a.2) (fun i σ H2=>∃o4,σ=[some (.ref p),some (.int (c.bit k:Nat)),some (.int (j:Nat)),some (.int (ig e.1 (c.bit k):Nat)),o4]∧eF (del H (m.map (·.2))) H2∧H2 D=some (.lst (m.map fun a=>V.ref a.2))∧∀(t:Nat) (a:Addr×Addr) (d:Fk),m[t]?=some a→FF[t]?=some d→mY CF CT G H2 c a (if t<i then c.K7 k e.1 d else d))
   ⟨none,rfl,(fB _ _).trans N,e1,fun t a d h1 h2=>by rw[if_neg (cb _)];obtain⟨⟨d1,X⟩,d2,w2,z2,z3⟩:=a1 t a d h1 h2;exact⟨⟨d1,N _ _ X⟩,d2,w2,N _ _ z2,z3⟩⟩ ((by rintro i σ H2 _ ⟨_,_,_,e,_⟩;exact fb.of e)) ?_ ?_
  ·rintro i x σ H2 hi ⟨o4,rfl,U,Y,g⟩;rw[ae]at hi;obtain⟨a,v,rfl⟩:=aw.mp hi;obtain⟨d,J,_⟩:=Paired.KA r.p v;have S:=g i a d v J;rw[if_neg (cH _)]at S;obtain⟨⟨fx,I⟩,sx,wa,o,a4⟩:=S;refine⟨_,rfl,_,rfl,a.2,sx,_,V.int (d.sd.picked:Nat),rfl,o,(by kernel_rfl),_,rfl,_,_,rfl,rfl,rfl,_,rfl,?_⟩;have ad:decide (V.int (Builtin.bitAnd ((ig e.1 (c.bit k):Nat):Int) (Builtin.bitNot (d.sd.picked:Nat)))=V.int 0)=decide (ig (ig e.1 (c.bit k)) d.sd.picked=0):=by
    rw[qw];exact tE (b:=0)
   dsimp only;rw[ad];by_cases hd:ig (ig e.1 (c.bit k)) d.sd.picked=0
   ·rw[ao hd];refine gL ⟨_,rfl,a.2,sx,_,V.int (d.sd.dead:Nat),rfl,o,(by kernel_rfl),_,rfl,_,_,rfl,rfl,sx,_,o,(by show 3<1000;decide),?_⟩;dsimp only;rw[xg,Cs];refine⟨_,rfl,fun b u hb=>?_,?_,fun t a' B h1 h2=>?_⟩
    ·have nb:b≠a.2:=fun z=>by rw[z,fL (aa (ak v))]at hb;cases hb
     rw[ef nb];exact U _ _ hb
    ·rw[ef (fun z:D=a.2=>nD (z▸aa (ak v)))];exact Y
    ·by_cases M:t=i
     ·subst M;rw[v]at h1;rw[J]at h2;cases h1;cases h2;rw[if_pos (di _)];refine⟨⟨fx,by rw[ef (zy I o)];exact I⟩,sx,wa,?_,?_⟩
      ·rw[d0];show _=some (HO.ins CT sx (zd (.int ((c.K6 k e.1 d.sd).picked:Nat)) (.int ((c.K6 k e.1 d.sd).dead:Nat)) (.ref wa)));unfold eg.K6;rw[if_pos hd]
      ·show wm G wa (c.K6 k e.1 d.sd).wanted;rw[eg.K9];exact a4
     ·have al:=g t a' B h1 h2;rw[Ba M];obtain⟨⟨d1,X⟩,d2,w2,z2,z3⟩:=al;have na:a'.2≠a.2:=fun z=>by
       have Z:(m.map (·.2))[t]?=some a'.2:=by rw[ae,h1];rfl
       have an:(m.map (·.2))[i]?=some a.2:=by rw[ae,v];rfl
       rw[z]at Z;exact M ((cj (af.mp Z).1 r.nd2).mp (Z.trans an.symm))
      exact⟨⟨d1,by rw[ef (zy X o)];exact X⟩,d2,w2,by rw[ef na];exact z2,z3⟩
   ·rw[au hd];refine ff ⟨_,rfl,U,Y,fun t a' B h1 h2=>?_⟩;by_cases M:t=i
    ·subst M;have:=g t a' B h1 h2;rw[J]at h2;cases h2;rw[if_neg (cH _)]at this;rw[if_pos (di _)];have eb:c.K7 k e.1 d=d:=by
      unfold eg.K7 eg.K6;rw[if_neg hd]
     rw[eb];exact this
    ·rw[Ba M];exact g t a' B h1 h2
  ·rintro σ H2 ⟨o4,rfl,U,Y,g⟩;refine q H2 U ⟨?_,?_,r.offl,r.off,r.nd1,r.nd2⟩
   ·refine kp U r.l fun z=>?_;obtain⟨_,_,_,_,h⟩:=R z;rw[r.l]at h;cases h
   ·refine j4 (by rw[ab];exact lA) fun t a d h1 h2=>?_;rw[ae]at h2;obtain⟨ap,h3,rfl⟩:=aw.mp h2;have:=g t a ap h1 h3;rw[if_pos (by rw[ab];exact(af.mp h1).1)]at this;exact this
end
inductive xE (CB CC CL CS CF CT:Addr)(vs:List V)(H:Hp)(Q:VK)(E:XK):Prop
 |mk (G:Hp)(p ch le fl:Addr)(c:eg)(L:iu)(O:List Addr)(A:List (Addr×Addr))(F:List Fk)(j:Nat)(e:Nat×Rs)(_:vs=[.ref p,.int (j:Nat)])(_:Se CB CC CS G H p ch le fl c)(_:gj CL G H le ch c L O)(_:iY CF CT G H c fl A F)(_:y8 O fl A)(_:L[j]?=some e)(_:F.length≤64)(_:(∀f∈F,∀k,f.bit=some k→k∈c.ks))(_:∀(n:Nat) (H':Hp),n≤F.length→(F.take n).reverse=F.reverse.dropWhile (fun f=>!c.stop e.1 f)→eF (del H (fl::A.map (·.2))) H'→iY CF CT G H' c fl (A.take n) (c.LY e.1 (F.take n))→Q .non H'):xE CB CC CL CS CF CT vs H Q E
def pj (CB CC CL CS CF CT:Addr):Sp:=xE CB CC CL CS CF CT
theorem t7 {α:Type}{l:List α}{n:Nat}{x:α}(h:l[n]?=some x):(l.take (n+1)).reverse=x::(l.take n).reverse:=by
 rw[fJ h,cJ];rfl
theorem pR {α β:Type}{R:α→β→Prop}:∀{as:List α} {bs:List β} (n:Nat),Paired R as bs→Paired R (as.take n) (bs.take n)
 |_,_,0,_=>.nil
 |_,_,_+1,.nil=>.nil
 |_,_,n+1,.cons h r=>.cons h (pR n r)
theorem zw {c:eg}{f:Fk}(a:∀k,f.bit=some k→k∈c.ks):(((c.KC f.bit &&& m:Nat):Int) != 0)=c.stop m f:=by
 unfold eg.stop;cases h:f.bit with
 |none=>
  show(((0 &&& m:Nat):Int) != 0)=false;rw[Nat.zero_and];rfl
 |some k=>
  show(((c.bit k &&& m:Nat):Int) != 0)=decide (c.has m k);rw[Nat.and_comm,jS (a k h)]
section
variable {base:Heap}{f:Addr}
theorem GR:eM ["self","place","mask"] ["self","place"] (eE sq):=jc
theorem yx (F:iQ K "go_back" "Search.go_back" sq f fd)(T:tO K mg CS)(ah:TL K mg CL)(TF:BR K mg CF)(MM:Mt P w K mg base CS fh 1 "mark_dead" ["self","bit","place"] (rG CB CC CL CS CF CT)):eZ P w K mg base fh 2 f fd ["self","place"] (pj CB CC CL CS CF CT):=by
 refine F.ok GR (fun vs H Q E h=>?_) (fun a7 A a3 s H vs Q E hr h=>?_)
 ·obtain⟨G,p,ch,S,fl,c,L,O,t,J,j,e,rfl,_⟩:=h;rfl
 obtain⟨G,p,ch,S,fl,c,L,O,t,J,j,e,rfl,hS,hL,B,ag,hj,ba,Z,q⟩:=h;have hu:=gR hr;refine⟨_,(ee (eJ (i:=2) GR.nd rfl (Or.inl rfl) (eK fg (eG ah.cl ah.nMa (eG T.cl T.nLe (pv 0))) (pv 1) (fun _ _=>rfl))) (ee (jy PassesOwn.never (PW.pt (lY (iB (eG T.cl T.nFo (pv 0)) (fun _=>rfl)) (kg (gE (vw (fm hJ (eG TF.cl TF.nBi (eK fg (eG T.cl T.nFo (pv 0)) (iX jU et) (fun _ _=>rfl))) (pv 2)) (fun _=>rfl)))))) (eo (gf (sH PySem.F.plainAttrs_list PySem.F.slot_list_pop PySem.F.type_list_pop sR (eG T.cl T.nFo (pv 0)))))) (eo (fz (iB (eG T.cl T.nFo (pv 0)) (fun _=>rfl)) (eo (gf (ib MM hr eT (pv 0) (dZ (eG TF.cl TF.nBi (eK fg (eG T.cl T.nFo (pv 0)) (iX jU et) (fun _ _=>rfl))) (dZ (pv 1) el))))) eO)))),?_⟩;obtain⟨dx,hp⟩:=hS.self;have U:=hS.gh.ins hp;obtain⟨lx,ma,re,pm,pp,a9,rs,Ol,hO,a5,a2,as⟩:=id hL.ex;have a1:(L.map (·.1))[j]?=some e.1:=by rw[ae,hj];rfl
 have lA:t.length=J.length:=Paired.length B.p;have a0:p≠fl:=fC U B.l fun z=>nomatch z;refine⟨_,rfl,p,dx,_,V.ref S,rfl,U,(by kernel_rfl),S,lx,_,V.ref ma,rfl,hS.gh.ins a5,(by kernel_rfl),_,rfl,ma,_,_,_,rfl,rfl,fb.of a2,j5 a1,?_⟩;have C:∀{n:Nat} {H2:Hp},H2 fl=some (.lst ((t.take n).map fun a=>V.ref a.1))→(∀b,b≠fl→H2 b=H b)→iY CF CT G H2 c fl (t.take n) (J.take n):=fun {n H2} h1 h2=>by
  refine⟨h1,Paired.Kg (pR n B.p) fun x y ⟨⟨d1,z1⟩,d2,w2,z2,z3⟩=>⟨⟨d1,?_⟩,d2,w2,?_,z3⟩,B.offl,fun a ha=>B.off a (dJ ha),?_,?_⟩
  ·rw[h2 _ (fC z1 B.l fun z=>nomatch z)];exact z1
  ·rw[h2 _ (fC z2 B.l fun z=>nomatch z)];exact z2
  ·rw[cK];exact B.nd1.sublist (dY _ _)
  ·rw[cK];exact B.nd2.sublist (dY _ _)
 refine⟨fun m σ H2=>m≤J.length∧J.reverse.dropWhile (fun f=>!c.stop e.1 f)=(J.take m).reverse.dropWhile (fun f=>!c.stop e.1 f)∧σ=[some (.ref p),some (.int (j:Nat)),some (.int (e.1:Nat))]∧H2 fl=some (.lst ((t.take m).map fun a=>V.ref a.1))∧∀b,b≠fl→H2 b=H b,⟨J.length,aq _,by rw[aH],rfl,by rw[←lA,aH];exact B.l,fun _ _=>rfl⟩,?_⟩;rintro n σ H2 ⟨hn,v,rfl,d,g⟩;have r:H2 p=some (.ins CS dx (xY ch S fl)):=by rw[g p a0];exact U
 refine⟨_,rfl,p,dx,_,V.ref fl,rfl,r,(by kernel_rfl),_,.inl ⟨_,fb.of d,rfl⟩,?_⟩;cases n with
 |zero=>
  refine ff (ff ?_);refine⟨_,rfl,p,dx,_,V.ref fl,rfl,r,(by kernel_rfl),_,.inl ⟨_,fb.of d,rfl⟩,ff ?_⟩;refine q 0 H2 (bo _) (by rw[v];rfl) (fun b u o=>?_) (C d g);have N:b≠fl:=fun z=>by rw[z,fL (by simp)]at o;cases o
  rw[g b N];exact fB _ _ b u o
 |succ n=>
  obtain⟨a,ha⟩:∃a,t[n]?=some a:=⟨t[n]'(by lia),aj _⟩;obtain⟨I,M,⟨fx,aa⟩,a8⟩:=Paired.KA B.p ha;have X:((t.take (n+1)).map fun a=>V.ref a.1)=((t.take n).map fun a=>V.ref a.1)++[.ref a.1]:=by rw[fJ ha,ay];rfl
  have Y:(((t.take (n+1)).map fun a=>V.ref a.1))[((t.take (n+1)).map fun a=>V.ref a.1).length-1]?=some (.ref a.1):=by
   rw[X,aF,aT,dO,aZ (aq _),bS];rfl
  have ad:(!((t.take (n+1)).map fun a=>V.ref a.1).isEmpty)=true:=by rw[X];simp
  have D:H2 a.1=some (.ins CF fx (ut (.str I.part) (.ref a.2) (.int (c.KC I.bit:Nat)))):=by rw[g a.1 (fC aa B.l fun z=>nomatch z)];exact aa
  rw[ad];refine gL ?_;refine⟨_,rfl,p,dx,_,V.ref fl,rfl,r,(by kernel_rfl),_,rfl,fl,_,_,V.ref a.1,rfl,rfl,fb.of d,oV Y,a.1,fx,_,V.int (c.KC I.bit:Nat),rfl,D,(by kernel_rfl),_,rfl,_,_,rfl,rfl,_,rfl,?_⟩;dsimp only;rw[nU,zw (Z I (ak M))];rw[t7 M]at v;by_cases hst2:c.stop e.1 I=true
  ·rw[hst2];refine ff ?_;rw[List.dropWhile_cons,if_neg (by rw[hst2];decide)]at v;refine⟨_,rfl,p,dx,_,V.ref fl,rfl,r,(by kernel_rfl),_,.inl ⟨_,fb.of d,rfl⟩,?_⟩;rw[ad];refine gL ?_;obtain⟨k,hk⟩:∃k,I.bit=some k:=by
    unfold eg.stop at hst2;cases h:I.bit with
    |none=>rw[h]at hst2;cases hst2
    |some k=>exact⟨k,rfl⟩
   have ap:Se CB CC CS G H2 p ch S fl c:=hS.grow (eB.refl _) (fun b u o=>by
    have N:b≠fl:=fun z=>by rw[z,B.offl]at o;cases o
    rw[g b N];exact hS.gh b u o)
   have a6:gj CL G H2 S ch c L O:=hL.grow (eB.refl _) hL.off fun b o=>g b fun z=>ag.1 (z▸o);have a4:c.KC I.bit=c.bit k:=by rw[hk];rfl
   have al:=C d g;rw[a4]at D;refine⟨_,rfl,p,dx,_,rfl,r,(by kernel_rfl),_,rfl,p,dx,_,V.ref fl,rfl,r,(by kernel_rfl),_,rfl,fl,_,_,V.ref a.1,rfl,rfl,fb.of d,oV Y,a.1,fx,_,V.int (c.bit k:Nat),rfl,D,(by kernel_rfl),_,rfl,G,p,ch,S,fl,c,L,O,t.take (n+1),J.take (n+1),k,j,e,rfl,ap,a6,al,hj,by rw[aS];lia,fun H3 s3 an=>?_⟩;refine q (n+1) H3 hn (by rw[t7 M,v]) (fun b u o=>?_) ?_
   ·have N:b∉fl::t.map (·.2):=fun z=>by rw[fL z]at o;cases o
    rw[eD N]at o;simp only[am,not_or]at N;refine s3 b u ?_
    rw[eD (fun z=>N.2 (by
     rw[cK]at z
     exact dJ z)),g b N.1]
    exact o
   ·have:c.LY e.1 (J.take (n+1))=(J.take (n+1)).map (c.K7 k e.1):=by
     unfold eg.LY;rw[fJ M,List.getLast?_append];simp only[List.getLast?_singleton,Option.some_or];rw[hk]
    rw[this];exact an
  ·have R:c.stop e.1 I=false:=by cases h:c.stop e.1 I <;> simp_all
   rw[R];refine gL ⟨fun σ' H'=>∃m',m'<n+1∧_,fun _ _ h=>h,?_⟩;rw[List.dropWhile_cons,if_pos (by rw[R];rfl)]at v;refine⟨_,rfl,p,dx,_,V.ref fl,rfl,r,(by kernel_rfl),.inl ⟨rfl,_,fb.of d⟩,fl,_,_,rfl,rfl,d,Y,?_⟩;refine⟨n,di _,by lia,v,rfl,?_,fun b o=>?_⟩
   ·rw[d0,X,df]
   ·rw[ef o];exact g b o
end
def FS (CT:Addr)(G H:Hp)(O:List Addr)(sd:Sd→Prop)(Q:VK):Prop:=
 ∀(G' H':Hp) (s:Addr) (d:Sd),iA G H O G' H' O→H s=none→G' s=none→lN CT G' H' s d→sd d→(∀a∈O,H' a=H a)→Q (.ref s) H'
inductive xH (CB CC CL CS CF CT:Addr)(vs:List V)(H:Hp)(Q:VK)(E:XK):Prop
 |mk (G:Hp)(p ch le fl:Addr)(c:eg)(L:iu)(O:List Addr)(a:Addr×Addr)(fk:Fk)(k:Pk)(_:vs=[.ref p,.ref a.1])(_:Se CB CC CS G H p ch le fl c)(_:gj CL G H le ch c L O)(_:gX c L)(_:mY CF CT G H c a fk)(_:fk.bit=some k)(_:j9 c fk)(_:iE c L fk.sd)(_:¬c.has fk.sd.dead k)(_:FS CT G H O (fun d=>iE c L d∧c.K4 fk d) Q):xH CB CC CL CS CF CT vs H Q E
def py (CB CC CL CS CF CT:Addr):Sp:=xH CB CC CL CS CF CT
inductive uK (CB CC CL CS CT:Addr)(vs:List V)(H:Hp)(Q:VK)(E:XK):Prop
 |mk (G:Hp)(p ch le fl:Addr)(c:eg)(O:List Addr)(_:vs=[.ref p])(_:Se CB CC CS G H p ch le fl c)(_:(∀a∈O,∃u,H a=some u))(_:(∀a∈O,G a=none))(_:∀(G' H':Hp) (s:Addr) (d:Sd),iA G H O G' H' O→H s=none→G' s=none→lN CT G' H' s d→(∀L,iE c L d)→d.picked=0→(∀a∈O,H' a=H a)→Q (.ref s) H'):uK CB CC CL CS CT vs H Q E
def nr (CB CC CL CS CT:Addr):Sp:=uK CB CC CL CS CT
theorem made {x dx C:Addr}(h1:H x=none)(h2:H dx=none)(n:dx≠x):eF H (upd (upd H dx (.own x)) x (.ins C dx [])):=(eA h2 _).trans (eA (by rw[ef (Ne.symm n)];exact h1) _)
section
variable {base:Heap}{f:Addr}
theorem zI:eM ["self","fork","pick","picked","dead","wanted"] ["self","fork"] (eE sv):=jc
theorem yA (F:iQ K "stand_behind" "Search.stand_behind" sv f fd)(T:tO K mg CS)(N:TC K mg CC)(TT:DF K mg CT)(t:BR K mg CF)(MB:Mt P w K mg base CL fh 1 "barred_with" ["self","pick","picked"] (pz CB CC CL))(MW:Mt P w K mg base CS fh 2 "wanted_by" ["self","wanted","who","picked"] (mo CB CC CS))(MS:xK P w K mg base CT fh 1 "Stand" ["self","picked","dead","wanted"] (mw CT)):eZ P w K mg base fh 3 f fd ["self","fork"] (py CB CC CL CS CF CT):=by
 refine F.ok zI (fun vs H Q E h=>?_) (fun c4 A co s H vs Q E hr h=>?_)
 ·obtain⟨G,p,ch,le,fl,c,L,O,a,b,k,rfl,_⟩:=h;rfl
 obtain⟨G,p,ch,le,fl,c,L,O,a,b,k,rfl,d,hL,a7,b8,v,D,I,Z,q⟩:=h;have hu:=gR hr;refine⟨_,(ee (eJ (i:=2) zI.nd rfl (Or.inl rfl) (gU hu (eG N.cl N.nBy (eG T.cl T.nCh (pv 0))) (eG t.cl t.nBi (pv 1)) (fun _ _=>rfl))) (ee (eJ (i:=3) zI.nd rfl (Or.inl rfl) (fm qJ (eG TT.cl TT.nPi (eG t.cl t.nSt (pv 1))) (eG t.cl t.nBi (pv 1)))) (ee (eJ (i:=4) zI.nd rfl (Or.inl rfl) (fm qJ (fm qJ (eG TT.cl TT.nDe (eG t.cl t.nSt (pv 1))) (fc hu (eG N.cl N.nFo (eG T.cl T.nCh (pv 0))) (pv 2) (fun _ _=>rfl))) (ib MB (hr.mono (by decide)) eT (eG T.cl T.nLe (pv 0)) (dZ (pv 2) (dZ (pv 3) el))))) (ee (eJ (i:=5) zI.nd rfl (Or.inl rfl) (ib MW hr eT (pv 0) (dZ (eG TT.cl TT.nWa (eG t.cl t.nSt (pv 1))) (dZ (pv 2) (dZ (pv 3) el))))) (ee (gf (Ak (pv 5) (eG t.cl t.nPa (pv 1)) ⟨rfl,rfl,rfl,rfl⟩)) (eo (eL (pP MS (hr.mono (by decide)) rfl eT (dZ (pv 3) (dZ (pv 4) (dZ (Ai (pv 5)) el))))))))))),?_⟩;obtain⟨dx,hp⟩:=d.self;have J:=d.gh.ins hp;obtain⟨⟨fx,r⟩,sx,wa,ad,wo,a1,cv,cy⟩:=b8;obtain⟨hk,bq,_⟩:=D.bit k v;have cx:c.KC b.bit=c.bit k:=by rw[v];rfl
 rw[cx]at r;obtain⟨gx,gb,cn,ap,c3,c5,c1,a4,cz,d1,d2,d3,d4,⟨b7,b9,a6⟩,d6,d7,d8,d9⟩:=d.chart.ex;obtain⟨X,a3,B⟩:=a6 k hk;refine⟨_,rfl,p,dx,_,V.ref ch,rfl,J,(by kernel_rfl),ch,gx,_,V.ref ap,rfl,d.gh.ins d1,(by kernel_rfl),_,rfl,a.1,fx,_,V.int (c.bit k:Nat),rfl,r,(by kernel_rfl),ap,X,rfl,.inl ⟨b7,Sum.inl (c.bit k:Int),d.gh.rd b9,rfl,a3.symm⟩,?_⟩;refine⟨_,rfl,a.1,fx,_,V.ref a.2,rfl,r,(by kernel_rfl),a.2,sx,_,V.int (b.sd.picked:Nat),rfl,ad,(by kernel_rfl),_,rfl,a.1,fx,_,V.int (c.bit k:Nat),rfl,r,(by kernel_rfl),_,_,rfl,rfl,?_⟩;dsimp only;rw[xg];obtain⟨lx,ma,re,pm,pp,c2,rs,Ol,hO,b4,bm⟩:=id hL.ex;refine⟨_,rfl,a.1,fx,_,V.ref a.2,rfl,r,(by kernel_rfl),a.2,sx,_,V.int (b.sd.dead:Nat),rfl,ad,(by kernel_rfl),_,rfl,p,dx,_,V.ref ch,rfl,J,(by kernel_rfl),ch,gx,_,V.ref a4,rfl,d.gh.ins d1,(by kernel_rfl),_,rfl,a4,_,rfl,(d9.f d.gh).get (w:=some k) (gr hk) (fD.f d.gh B),_,_,rfl,rfl,?_⟩;dsimp only;rw[xg];refine⟨_,rfl,p,dx,_,V.ref le,rfl,J,(by kernel_rfl),le,lx,_,rfl,d.gh.ins b4,(by kernel_rfl),_,rfl,_,rfl,G,le,ch,c,L,O,X,k,b.sd.picked ||| c.bit k,rfl,d.gh,d.chart,hL,fD.f d.gh B,hk,fun H1 s1=>?_⟩;refine⟨_,_,rfl,rfl,?_⟩;skip;rw[xg];have bd:=s1 _ _ J;have U:=s1 _ _ r;have a0:=s1 _ _ ad;have cd:=I.LJ d.nds d.n;refine⟨_,rfl,p,dx,_,rfl,bd,(by kernel_rfl),_,rfl,a.1,fx,_,V.ref a.2,rfl,U,(by kernel_rfl),a.2,sx,_,V.ref wa,rfl,a0,(by kernel_rfl),_,rfl,_,rfl,G,p,ch,le,fl,wa,c,a1,b.sd.wanted,X,some k,b.sd.picked ||| c.bit k,rfl,d.same s1,.inr ⟨wo,s1 _ _ (d.gh.frz cv)⟩,cy,cd,fun x u hx=>?_,gr hk,B,fun m H2 kvs g s2 b2 al a2 a5=>?_⟩
 ·obtain⟨_,z2,z3⟩:=I.w1 x u hx;exact⟨fun k e=>by subst e;exact z2.1,jb.mpr z3⟩
 have an:=s2 _ _ U;have ct:b.part∈g.map (·.1):=by
  obtain⟨E,e1,_⟩:=a5;rw[e1];exact aQ _ D.open_
 obtain⟨v0,u0,cs,_,_⟩:=oG a2 ct;refine⟨_,rfl,m,rfl,.inl ⟨_,.inl al⟩,_,rfl,a.1,fx,_,V.str b.part,rfl,an,(by kernel_rfl),kvs,Sum.inr b.part,v0,al,rfl,cs,?_⟩;refine⟨_,rfl,_,rfl,_,rfl,m,_,rfl,d0,trivial,fun R=>?_⟩;rw[i8];have ag:=s1.trans s2;have c0:eB G H2:=d.gh.trans ag.toF;have o:H m=none:=s1.free b2;have ah:G m=none:=d.gh.free o;have bv:=iA.same (O:=O) d.gh ag;have cp:=bv.own (u:=.frz R (.dK (jP kvs (Sum.inr b.part)))) o ah;have b1:upd H2 m (.frz R (.dK (jP kvs (Sum.inr b.part)))) m=some (.frz R (.dK (jP kvs (Sum.inr b.part)))):=d0;have M:=cp.base d.gh o b1;have bx:wm (upd G m (.frz R (.dK (jP kvs (Sum.inr b.part))))) m (g.filter fun xu=>!decide (xu.1=b.part)):=⟨R,_,d0,Paired.Kg (wz a2) fun _ _ z=>z.f ((eB.refl G).upd ah)⟩;have b5:∀y∈O,upd H2 m (.frz R (.dK (jP kvs (Sum.inr b.part)))) y=H y:=fun y hy=>by
  obtain⟨u,l⟩:=hL.liv y hy;rw[ef (fun z:y=m=>by rw[z,o]at l;cases l),ag _ _ l,l]
 generalize upd G m (.frz R (.dK (jP kvs (Sum.inr b.part))))=G4 at *;generalize upd H2 m (.frz R (.dK (jP kvs (Sum.inr b.part))))=H4 at *;intro x S hx a9 a8;have sm:=made (C:=CT) hx a9 a8;have bl:upd (upd H4 S (.own x)) x (.ins CT S []) x=some (.ins CT S []):=d0;have b3:=M.trans (iA.same (O:=O) M.gh sm);generalize upd (upd H4 S (.own x)) x (.ins CT S [])=H5 at *;have aa:H x=none:=M.lv x hx;have as:G4 x=none:=M.gh.free hx;refine⟨x,S,_,_,_,rfl,bl,rfl,?_⟩;have ba:=b3.own (u:=.ins CT S (zd (.int ((b.sd.picked ||| c.bit k:Nat):Int)) (.int ((b.sd.dead ||| c.Ls (some k) ||| c.Ll L k (b.sd.picked ||| c.bit k):Nat):Int)) (.ref m))) aa as;obtain⟨b6,bf⟩:=yY (k:=k) (p:=b.sd.picked ||| c.bit k) a7;refine q G4 _ x ⟨b.sd.picked ||| c.bit k,b.sd.dead ||| c.Ls (some k) ||| c.Ll L k (b.sd.picked ||| c.bit k),g.filter fun xu=>!decide (xu.1=b.part)⟩ ba aa as ⟨S,m,d0,bx⟩ ⟨?_,k,v,rfl,fun j Y=>eg.KJ.mpr (.inl (eg.KJ.mpr (.inl Y)))⟩ (fun y hy=>?_)
 rotate_left
 ·obtain⟨u,l⟩:=hL.liv y hy;have h6:=(b5 y hy).trans l;rw[ef (fun z:y=x=>by rw[z,aa]at l;cases l),sm _ _ h6,l]
 refine zx I D hk bq Z (ji (ji I.dl (c.Ly _)) b6) (fun j Y=>eg.KJ.mpr (.inl (eg.KJ.mpr (.inl Y)))) (fun j Y hf=>eg.KJ.mpr (.inl (eg.KJ.mpr (.inr (eg.Lx.mpr ⟨Y,hf⟩))))) (fun j Y=>?_) a5;rcases eg.KJ.mp Y with z | z
 ·rcases eg.KJ.mp z with y | y
  ·exact .inl y
  ·exact .inr (.inl (eg.Lx.mp y).2)
 ·exact .inr (.inr (bf j z))
end
theorem iA.Ma (h:eB G H)(e:eB H H'):iA G H O G H' O:=⟨eB.refl _,h.trans e,fun a e n=>absurd e n,fun a h=>.inl h,(fB _ _).toF.trans e,fun _ h=>e.free h⟩
def eg.Mb (c:eg)(ws:List (Option Pk)):Nat:=c.Ls none ||| c.maskOf fun j=>decide (some j∈ws)&&(c.Lm (some j) j)
theorem eg.Mc (c:eg):c.Mb []=c.Ls none:=by
 unfold eg.Mb;have:c.maskOf (fun j=>decide (some j∈([]:List (Option Pk)))&&(c.Lm (some j) j))=0:=eg.KP (c.KW _) fun k h=>by
  have:=(eg.KU.mp h).2;simp at this
 rw[this,Nat.or_zero]
theorem p6 {c:eg}{k:Pk}:c.foe k k↔c.KY (some k) k:=⟨fun h=>h.elim id id,.inl⟩
theorem eg.Md {c:eg}{ws:List (Option Pk)}{w:Option Pk}(b:c.Who w):c.Mb (ws++[w])=c.Mb ws ||| (c.Ls w &&& c.KC w):=by
 refine eg.ext (ji (c.Ly _) (c.KW _)) (ji (ji (c.Ly _) (c.KW _)) (nW (c.Ly _))) fun j=>?_;unfold eg.Mb;simp only[eg.KJ,eg.KK,eg.KU,aD,ax,aB,ai,eg.LA b,eg.Lo]
 constructor
 ·rintro(h | ⟨h1,h2 | h2,a⟩)
  ·exact .inl (.inl h)
  ·exact .inl (.inr ⟨h1,h2,a⟩)
  ·rw[←h2];exact .inr ⟨eg.Lx.mpr ⟨h1,p6.mpr a⟩,rfl⟩
 ·rintro((h | ⟨h1,h2,a⟩) | ⟨h1,h2⟩)
  ·exact .inl h
  ·exact .inr ⟨h1,.inl h2,a⟩
  ·rw[h2]at h1;obtain⟨a,d⟩:=eg.Lx.mp h1;exact .inr ⟨a,.inr h2.symm,p6.mp d⟩
theorem eg.Me {c:eg}{ws:List (Option Pk)}(h:∀k∈c.ks,some k∈ws){k:Pk}:c.has (c.Mb ws) k↔k∈c.ks∧(c.KY none k∨c.foe k k):=by
 unfold eg.Mb;rw[eg.KJ,show c.Ls none=c.Lr none from rfl,eg.Lv,eg.KU,aD,ax,eg.Lo,p6]
 constructor
 ·rintro(⟨h1,h2⟩ | ⟨h1,_,h2⟩)
  ·exact⟨h1,.inl h2⟩
  ·exact⟨h1,.inr h2⟩
 ·rintro⟨h1,h2 | h2⟩
  ·exact .inl ⟨h1,h2⟩
  ·exact .inr ⟨h1,h k h1,h2⟩
section
variable {base:Heap}{f:Addr}
theorem CG:eM ["self","dead","pick"] ["self"] (eE pF):=jc
theorem vE (F:iQ K "opening" "Search.opening" pF f fd)(T:tO K mg CS)(j:TC K mg CC)(MW:Mt P w K mg base CS fh 2 "wanted_by" ["self","wanted","who","picked"] (mo CB CC CS))(MS:xK P w K mg base CT fh 1 "Stand" ["self","picked","dead","wanted"] (mw CT)):eZ P w K mg base fh 3 f fd ["self"] (nr CB CC CL CS CT):=by
 refine F.ok CG (fun vs H Q E h=>?_) (fun b8 A b1 s H vs Q E hr h=>?_)
 ·obtain⟨G,p,ch,le,fl,c,O,rfl,_⟩:=h;rfl
 obtain⟨G,p,ch,le,fl,c,O,rfl,r,M,ah,q⟩:=h;have hu:=gR hr;refine⟨_,(ee (eJ (i:=1) CG.nd rfl (Or.inl rfl) (fc hu (eG j.cl j.nFo (eG T.cl T.nCh (pv 0))) i4 (fun _ _=>rfl))) (ee (fZ PassesOwn.never rfl (sE (eG j.cl j.nFo (eG T.cl T.nCh (pv 0)))) (eN (i:=2) CG.nd rfl (Or.inl rfl)) (eo (ki (i:=1) CG.nd rfl (Or.inl rfl) (fm hJ (fc hu (eG j.cl j.nFo (eG T.cl T.nCh (pv 0))) (pv 2) (fun _ _=>rfl)) (fc hu (eG j.cl j.nBits (eG T.cl T.nCh (pv 0))) (pv 2) (fun _ _=>rfl))) ul))) (eo (eL (pP MS (hr.mono (by decide)) rfl eT (dZ et (dZ (pv 1) (dZ (Ai (ib MW hr eT (pv 0) (dZ il (dZ i4 (dZ et el))))) el)))))))),?_⟩;obtain⟨dx,hp⟩:=r.self;have ag:=r.gh.ins hp;obtain⟨gx,gb,t,cn,co,cd,b9,d,b7,d1,d2,d3,d4,d5,d6,d7,d8,B,U,as,a0⟩:=r.chart.ex;have d9:j8 G d c c.Ls:=⟨B,U,as,a0⟩;refine⟨_,rfl,p,dx,_,V.ref ch,rfl,ag,(by kernel_rfl),ch,gx,_,V.ref d,rfl,r.gh.ins d1,(by kernel_rfl),d,_,rfl,(d9.f r.gh).get (w:=none) je rfl,?_⟩;refine⟨_,rfl,p,dx,_,V.ref ch,rfl,ag,(by kernel_rfl),ch,gx,_,V.ref d,rfl,r.gh.ins d1,(by kernel_rfl),d,B,rfl,r.gh.rd U,fun o H1 sf ap b6=>?_⟩;have g1:eB G H1:=r.gh.trans sf;have N:=g1.ins hp;have ad:=g1.ins d1;obtain⟨ws,R,a9⟩:=rh as;have lw:B.length=ws.length:=by
  have:=congrArg List.length R;rw[ab,ab]at this;exact this
 refine vY (kvs:=B) (fun i σ H2=>∃o2,σ=[some (.ref p),some (.int (c.Mb (ws.take i):Nat)),o2]∧H2=H1) ⟨none,by rw[dg,eg.Mc];rfl,rfl⟩ (fun i σ H2 _ ⟨_,_,e⟩=>by rw[e];exact b6) ?_ ?_
 ·rintro i kv x σ H2 hi kx ⟨o2,rfl,rfl⟩;have al:(B.map (·.1))[i]?=some kv.1:=by rw[ae,hi];rfl
  rw[R,ae]at al;obtain⟨v,hv,ev⟩:=aw.mp al;rw[←ev]at kx;have an:=gB.of kx;have X:=a9 v (ak hv);refine⟨_,rfl,_,rfl,p,dx,_,V.ref ch,rfl,N,(by kernel_rfl),ch,gx,_,V.ref d,rfl,ad,(by kernel_rfl),_,rfl,d,_,rfl,(d9.f g1).get X an,_,rfl,p,dx,_,V.ref ch,rfl,N,(by kernel_rfl),ch,gx,_,V.ref t,rfl,ad,(by kernel_rfl),_,rfl,t,_,rfl,(d4.f g1).get X an,_,_,rfl,rfl,_,_,rfl,rfl,?_⟩;refine⟨some x,?_,rfl⟩;rw[nU,xg,fJ hv,eg.Md X];rfl
 ·rintro σ H2 ⟨o2,rfl,rfl⟩;rw[lw,aH];have a1:∀k∈c.ks,some k∈ws:=fun k hk=>by
   have:=iG (a0 (some k) (gr hk));rw[R]at this;obtain⟨u,b,a7⟩:=av.mp this;rw[ij a7]at b;exact b
  refine⟨_,rfl,_,rfl,p,dx,_,rfl,N,(by kernel_rfl),fun e0 a6=>?_⟩;have s3:=eA a6 (.dK []);have bf:upd H2 e0 (.dK []) e0=some (.dK []):=d0;generalize upd H2 e0 (.dK [])=H3 at *;have g3:eB G H3:=g1.trans s3.toF;refine⟨G,p,ch,le,fl,e0,c,[],[],.non,none,0,rfl,r.grow (eB.refl _) g3,.inl bf,.nil,bo _,(fun x u h=>nomatch h),je,rfl,fun m H4 kvs g s4 b4 ba bd b2=>?_⟩;refine⟨m,_,rfl,ba,trivial,fun J=>?_⟩;have bm:eB H H4:=sf.trans (s3.trans s4).toF;have l:H m=none:=sf.free (s3.free b4);have aa:G m=none:=r.gh.free l;have b3:=iA.Ma (O:=O) r.gh bm;have b5:=b3.own (u:=.frz J (.dK kvs)) l aa;have bq:upd H4 m (.frz J (.dK kvs)) m=some (.frz J (.dK kvs)):=d0;have D:=b5.base r.gh l bq;have a3:wm (upd G m (.frz J (.dK kvs))) m g:=⟨J,_,d0,Paired.Kg bd fun _ _ z=>z.f ((eB.refl G).upd aa)⟩;have bv:∀a∈O,a≠d:=fun a S z=>by
   have:=ah a S;rw[z]at this;rcases U with y | ⟨o',y⟩ <;> (rw[this]at y;cases y)
  have a5:∀a∈O,upd H4 m (.frz J (.dK kvs)) a=H a:=fun a S=>by
   obtain⟨u,b⟩:=M a S;have h1:H2 a=some u:=by rw[ap a (bv a S)];exact b
   have h4:=s4 _ _ (s3 _ _ h1);rw[ef (fun z:a=m=>by rw[z,l]at b;cases b),h4,b]
  generalize upd G m (.frz J (.dK kvs))=G6 at *;generalize upd H4 m (.frz J (.dK kvs))=H6 at *;intro x I hx a4 a2;have sm:=made (C:=CT) hx a4 a2;have bl:upd (upd H6 I (.own x)) x (.ins CT I []) x=some (.ins CT I []):=d0;have bx:=D.trans (iA.same (O:=O) D.gh sm);generalize upd (upd H6 I (.own x)) x (.ins CT I [])=H7 at *;have Y:H x=none:=D.lv x hx;have Z:G6 x=none:=D.gh.free hx;refine⟨x,I,_,_,_,rfl,bl,rfl,?_⟩;have a8:=bx.own (u:=.ins CT I (zd (.int 0) (.int ((c.Mb ws:Nat):Int)) (.ref m))) Y Z;refine q G6 _ x ⟨0,c.Mb ws,g⟩ a8 Y Z ⟨I,m,d0,a3⟩ (fun L=>?_) rfl fun a S=>?_
  ·exact vz (ji (c.Ly _) (c.KW _)) (fun k=>eg.Me a1) b2
  ·obtain⟨u,b⟩:=M a S;have h6:H6 a=some u:=(a5 a S).trans b;rw[ef (fun z:a=x=>by rw[z,Y]at b;cases b),sm _ _ h6,b]
end
structure SS (CB CC CL CS CF CT:Addr)(G H:Hp)(p ch le fl:Addr)(c:eg)(L:iu)(O:List Addr)(A:List (Addr×Addr))(F:List Fk):Prop where
 se:Se CB CC CS G H p ch le fl c
 led:gj CL G H le ch c L O
 ok:gX c L
 fk:iY CF CT G H c fl A F
 sep:y8 O fl A
theorem SS.grow {p ch le:Addr}{c:eg}{L L':iu}(h:SS CB CC CL CS CF CT G H p ch le fl c L O A F)(g:iA G H O G' H' O')(hl:gj CL G' H' le ch c L' O')(hok:gX c L'):SS CB CC CL CS CF CT G' H' p ch le fl c L' O' A F:=
 ⟨h.se.grow g.gg g.gh,hl,hok,h.fk.grow g h.sep,y8.grow h.fk g h.sep⟩
def y9 (H:Hp)(O:List Addr)(G G':Hp):Prop:=∀x u,H x=some u→u1 u→x∉O→G x=none→G' x=none
inductive D0 (CB CC CL CS CF CT:Addr)(vs:List V)(H:Hp)(Q:VK)(E:XK):Prop
 |mk (G:Hp)(p ch le fl:Addr)(c:eg)(L:iu)(O:List Addr)(A:List (Addr×Addr))(B:List Fk)(g:Fk)(_:vs=[.ref p])(_:SS CB CC CL CS CF CT G H p ch le fl c L O A (B++[g]))(_:fK c L B.reverse g.sd)(_:j9 c g)(_:NZ L)(_:(∀(G' H':Hp) (L':iu) (O':List Addr) (A':List (Addr×Addr)) (F':List Fk) (s:Addr) (d:Sd),eB G G'→iN H O H' O'→y9 H O G G'→SS CB CC CL CS CF CT G' H' p ch le fl c L' O' A' F'→fK c L' F'.reverse d→NZ L'→lN CT G' H' s d→G' s=none→s∉O'→s∉A'.map (·.2)→c.mv (c.n+1) F'≤c.mv (c.n+1) (B++[g])→Q (.ref s) H'))(_:(∀(G' H':Hp) (L':iu) (O':List Addr) (A':List (Addr×Addr)) (F':List Fk) (e:Nat×Rs),eB G G'→iN H O H' O'→y9 H O G G'→SS CB CC CL CS CF CT G' H' p ch le fl c L' O' A' F'→L'.getLast?=some e→e.1=0→Q .non H')):D0 CB CC CL CS CF CT vs H Q E
def u7 (CB CC CL CS CF CT:Addr):Sp:=D0 CB CC CL CS CF CT
theorem FJ (a b t t':V):fX ("bit" : Str) t' (ut a b t)=ut a b t':=by kernel_rfl
theorem nL {c:eg}{x:Str}{s:Sd}:∀j,c.has (ig (c.Lp x) s.dead) j↔j∈c.left x s:=fun j=>by
 rw[eg.KL,eg.Lu,eg.Ld];exact⟨(by rintro⟨⟨h1,h2⟩,h3⟩;exact⟨h1,h2,h3⟩),(by rintro⟨h1,h2,h3⟩;exact⟨⟨h1,h2⟩,h3⟩)⟩
theorem AL {c:eg}{g g':Fk}(hp:g'.part=g.part)(hs:g'.sd=g.sd):∀(d:Nat) (B:List Fk),c.mv d (B++[g'])=c.mv d (B++[g])
 |0,_=>by unfold eg.mv;rfl
 |d+1,[]=>by
  show c.cnt g'*(c.n+2)^d+c.mv d []=c.cnt g*(c.n+2)^d+c.mv d [];unfold eg.cnt;rw[hp,hs]
 |d+1,f::B=>by
  show c.cnt f*(c.n+2)^d+c.mv d (B++[g'])=c.cnt f*(c.n+2)^d+c.mv d (B++[g]);rw[AL hp hs d B]
section
variable {base:Heap}{f:Addr}
theorem EO:eM ["self","fork","left"] ["self"] (eE zQ):=jc
theorem Dc (F:iQ K "go_on" "Search.go_on" zQ f fd)(T:tO K mg CS)(dc:TC K mg CC)(TF:BR K mg CF)(d8:Mt P w K mg base CC fh 1 "listed" ["self","mask"] (jg CC))(ep:Mt P w K mg base CS fh 1 "left" ["self","stand","part"] (rH CB CC CS CT))(MB:Mt P w K mg base CS fh 3 "stand_behind" ["self","fork"] (py CB CC CL CS CF CT))(MS:Mt P w K mg base CS fh 5 "shut" ["self","fork","known"] (rB CB CC CL CS CF CT))(MG:Mt P w K mg base CS fh 2 "go_back" ["self","place"] (pj CB CC CL CS CF CT)):eZ P w K mg base fh 6 f fd ["self"] (u7 CB CC CL CS CF CT):=by
 refine F.ok EO (fun vs H Q E h=>?_) (fun fa A e1 s H vs Q E hr h=>?_)
 ·obtain⟨G,p,ch,le,fl,c,L,O,AA,B,g,rfl,_⟩:=h;rfl
 obtain⟨G,p,ch,le,fl,c,L,O,AA,B,g,rfl,e3,ey,hg,e6,q1,q2⟩:=h;have hu:=gR hr;refine⟨_,(ee (jy PassesOwn.never (iB (eG T.cl T.nFo (pv 0)) (fun _=>rfl)) (ee (eJ (i:=1) EO.nd rfl (Or.inl rfl) (eK fg (eG T.cl T.nFo (pv 0)) (iX jU et) (fun _ _=>rfl))) (ee (eJ (i:=2) EO.nd rfl (Or.inl rfl) (ib d8 (hr.mono (by decide)) eT (eG T.cl T.nCh (pv 0)) (dZ (ib ep (hr.mono (by decide)) eT (pv 0) (dZ (eG TF.cl TF.nSt (pv 1)) (dZ (eG TF.cl TF.nPa (pv 1)) el))) el))) (ee (fz (iB (pv 2) (fun _=>rfl)) (ee (jF TF.cl TF.nBi (pv 1) (fc hu (eG dc.cl dc.nBits (eG T.cl T.nCh (pv 0))) (eK fg (pv 2) (iX jU et) (fun _ _=>rfl)) (fun _ _=>rfl))) (eo (eL (ib MB (hr.mono (by decide)) eT (pv 0) (dZ (pv 1) el))))) eO) (eo (gf (ib MG (hr.mono (by decide)) eT (pv 0) (dZ (ib MS hr eT (pv 0) (dZ (pv 1) (dZ il el))) el)))))))) (eo (eL i4))),?_⟩;refine⟨fun m σ H2=>∃(S:Hp) (L2:iu) (Y:List Addr) (r:List (Addr×Addr)) (F2:List Fk) (o1 o2:Option V),σ=[some (.ref p),o1,o2]∧eB G S∧iN H O H2 Y∧y9 H O G S∧SS CB CC CL CS CF CT S H2 p ch le fl c L2 Y r F2∧((F2=[]∧m=0∧∃e,L2.getLast?=some e∧e.1=0)∨∃o g2,F2=o++[g2]∧m=c.mv (c.n+1) F2+1∧c.mv (c.n+1) F2≤c.mv (c.n+1) (B++[g])∧fK c L2 o.reverse g2.sd∧j9 c g2∧NZ L2),⟨c.mv (c.n+1) (B++[g])+1,G,L,O,AA,B++[g],none,none,rfl,eB.refl _,iN.refl _ _,(fun _ _ _ _ _ h=>h),e3,.inr ⟨B,g,rfl,rfl,aq _,ey,hg,e6⟩⟩,?_⟩;rintro m σ H2 ⟨S,L2,Y,r,F2,o1,o2,rfl,bq,an,bl,M,b2⟩;obtain⟨dx,hp⟩:=M.se.self;have al:=M.se.gh.ins hp;refine⟨_,rfl,p,dx,_,V.ref fl,rfl,al,(by kernel_rfl),_,.inl ⟨_,fb.of M.fk.l,rfl⟩,?_⟩;have lA:=Paired.length M.fk.p;rcases b2 with ⟨rfl,rfl,e,d7,e5⟩ | ⟨o,g2,rfl,rfl,c5,d,a0,a2⟩
 ·have:r=[]:=bN.mp (by simpa using lA);subst this;refine ff ?_;exact q2 S H2 L2 Y [] [] e bq an bl M d7 e5
 ·have cs:=d.depth;rw[cm]at cs;have eu:=M.se.n;rw[aF,aT]at lA;obtain⟨a,ha⟩:∃a,r[o.length]?=some a:=⟨r[o.length]'(by lia),aj _⟩;have bf:(o++[g2])[o.length]?=some g2:=by rw[aZ (aq _),bS];rfl
  have ew:mY CF CT S H2 c a g2:=by
   obtain⟨c1,N,z2⟩:=Paired.KA M.fk.p ha;rw[bf]at N;cases N;exact z2
  obtain⟨⟨fx,a8⟩,ed⟩:=id ew;have dv:r=r.take o.length++[a]:=by rw[←fJ ha,←lA,aH]
  have ez:(r.map fun a=>V.ref a.1)[(r.map fun a=>V.ref a.1).length-1]?=some (.ref a.1):=by
   rw[ab,lA,dO,ae,ha];rfl
  have dd:(!(r.map fun a=>V.ref a.1).isEmpty)=true:=by rw[dv];simp
  rw[dd];refine gL ⟨fun σ' H'=>∃m',m'<c.mv (c.n+1) (o++[g2])+1∧_,fun _ _ h=>h,?_⟩;refine⟨_,rfl,p,dx,_,V.ref fl,rfl,al,(by kernel_rfl),_,rfl,fl,_,_,V.ref a.1,rfl,rfl,fb.of M.fk.l,oV ez,?_⟩;obtain⟨gx,gb,ap,eh,e9,fo,e8,fp,e7,d1,d2,d3,d4,d5,d6⟩:=M.se.chart.ex;refine⟨_,rfl,p,dx,_,V.ref ch,rfl,al,(by kernel_rfl),ch,gx,_,rfl,M.se.gh.ins d1,(by kernel_rfl),_,rfl,p,dx,_,rfl,al,(by kernel_rfl),_,rfl,a.1,fx,_,V.ref a.2,rfl,a8,(by kernel_rfl),_,rfl,a.1,fx,_,V.str g2.part,rfl,a8,(by kernel_rfl),S,p,ch,le,fl,a.2,c,g2.sd,g2.part,rfl,M.se,ed,?_⟩;have d9:ig (c.Lp g2.part) g2.sd.dead<2^c.n:=jB (c.KW _);refine⟨S,ch,gx,eh,_,c,_,rfl,M.se.gh,M.se.gh.ins d1,(by kernel_rfl),d5,eu,d9,fun l xs H3 s3 hl b5 c2 e2=>?_⟩;have as:=iA.same (O:=Y) M.se.gh s3;have C:=M.grow as (M.led.same s3) M.ok;have bx:=s3 _ _ al;have R:=s3 _ _ a8;have lx:=Paired.length c2;refine⟨_,rfl,_,.inl ⟨xs,fb.of b5,rfl⟩,?_⟩;by_cases hxe:xs=[]
  ·subst hxe;refine ff ?_;have b8:c.listed (ig (c.Lp g2.part) g2.sd.dead)=[]:=bN.mp lx.symm;have bd:∀k∈c.ks,k.1=g2.part→c.has g2.sd.dead k:=fun k hk ah=>Classical.byContradiction fun z=>by
    have:k∈c.listed (ig (c.Lp g2.part) g2.sd.dead):=eg.KI.mpr ((nL k).mpr (eg.Ld.mpr ⟨hk,ah,z⟩));rw[b8]at this;cases this
   have c8:∀f∈o++[g2],iE c L2 f.sd:=fun f hf=>by
    rcases aB.mp hf with z | z
    ·exact(d.fks f (cu.mpr z)).2
    ·rw[ai.mp z];exact d.sd
   have b1:qj c (o++[g2]):=by
    have:=d.mono g2 rfl;rw[de]at this;exact this
   refine⟨_,rfl,p,dx,_,rfl,bx,(by kernel_rfl),_,rfl,p,dx,_,rfl,bx,(by kernel_rfl),_,rfl,fun kd a5=>?_⟩;have s4:=eA a5 (.dK []);have em:upd H3 kd (.dK []) kd=some (.dK []):=d0;generalize upd H3 kd (.dK [])=H4 at *;have b4:=iA.same (O:=Y) C.se.gh s4;have S4:=C.grow b4 (C.led.same s4) C.ok;have ev:kd∉Y:=fun z=>by obtain⟨u,D⟩:=C.led.liv kd z;rw[a5]at D;cases D
   refine⟨S,p,ch,le,fl,c,L2,Y,r,o++[g2],o.length,a,g2,kd,[],none,rfl,S4.se,S4.led,S4.ok,S4.fk,S4.sep,b1,c8,by rw[aF,aT];lia,ha,bf,a0.open_,.inl em,ev,rfl,fun k hk ah=>.inl (bd k hk ah),fun m hm=>?_,?_⟩
   ·intro j1 j2 h1 h2 e;have N:=(hm j1 h1).resolve_right (by rintro⟨_,_,_,z,_⟩;exact nomatch z);have z2:=(hm j2 h2).resolve_right (by rintro⟨_,_,_,z,_⟩;exact nomatch z);exact d.sd.one j1 j2 N z2 e
   intro G5 H5 O5 L5 j e v bv ag eq cp cd a6;have I:=S4.grow v bv ag;have c0:∀j,c.has e.1 j→c.has g2.sd.picked j:=fun j hj=>(cd j hj).resolve_right (by rintro⟨_,_,_,z,_⟩;exact nomatch z);have ba:=ak cp;have b6:fK c L5 o.reverse g2.sd:=d.led fun x hx=>by obtain⟨X,hX⟩:=eq;rw[hX];exact aQ _ hx
   have bm:∀f∈o++[g2],∀k,f.bit=some k→k∈c.ks:=fun f hf k hk=>by
    rcases aB.mp hf with z | z
    ·exact((d.fks f (cu.mpr z)).1.bit k hk).1
    ·rw[ai.mp z]at hk;exact(a0.bit k hk).1
   refine⟨G5,p,ch,le,fl,c,L5,O5,r,o++[g2],j,e,rfl,I.se,I.led,I.fk,I.sep,cp,by rw[aF,aT];lia,bm,fun n H6 hn eb s6 es=>?_⟩;have e0:∀y∈fl::r.map (·.2),∃u,H5 y=some u∧¬u1 u:=fun y U=>by
    rcases am.mp U with z | z
    ·exact⟨.lst _,by rw[z];exact I.fk.l,fun q=>q⟩
    ·obtain⟨a',J,rfl⟩:=av.mp z;obtain⟨t,ht⟩:=az.mp J;obtain⟨fk,_,_,sx,wa,aa,_⟩:=Paired.KA I.fk.p ht;exact⟨.ins _ _ _,aa,fun q=>q⟩
   have c3:∀y∈fl::r.map (·.2),G5 y=none:=fun y U=>by
    rcases am.mp U with z | z
    ·rw[z];exact I.fk.offl
    ·obtain⟨a',J,rfl⟩:=av.mp z;exact(I.fk.off a' J).2
   have cx:∀y∈O5,y∉fl::r.map (·.2):=fun y U z=>by
    rcases am.mp z with z | z
    ·exact I.sep.1 (z▸U)
    ·obtain⟨a',J,rfl⟩:=av.mp z;exact(I.sep.2 a' J).2 U
   have g6:eB G5 H6:=ik I.se.gh c3 s6.toF;have dl:gj CL G5 H6 le ch c L5 O5:=I.led.grow (eB.refl _) I.led.off fun y U=>by
    obtain⟨u,D⟩:=I.led.liv y U;rw[s6 y u (by rw[eD (cx y U)];exact D),D]
   have S6:SS CB CC CL CS CF CT G5 H6 p ch le fl c L5 O5 (r.take n) (c.LY e.1 ((o++[g2]).take n)):=⟨I.se.grow (eB.refl _) g6,dl,ag,es,I.sep.1,fun a' J=>I.sep.2 a' (dJ J)⟩;have b7:iN H O H6 O5:=an.trans ((as.L7.trans (b4.L7.trans v.L7)).trans (iN.del s6.toF e0));have c4:eB G G5:=bq.trans v.gg;have a3:y9 H O G G5:=fun x u h f n g=>v.off (bl x u h f n g) ((an.trans (as.L7.trans b4.L7)) x u h f n).1;rcases y0 b6 a0 ba (ag.lt e ba) c0 eb with ⟨N,z2⟩ | ⟨B3,g3,N,z2,z3,z4,z5⟩
   ·have ej:c.LY e.1 ((o++[g2]).take n)=[]:=by rw[N];rfl
    rw[ej]at S6;refine⟨0,Nat.succ_pos _,G5,L5,O5,r.take n,[],_,_,rfl,c4,b7,a3,S6,.inl ⟨rfl,rfl,e,?_,z2⟩⟩;rcases a6 a2 with y | ⟨_,y⟩
    ·exact absurd z2 (y e ba)
    ·exact y
   ·rw[N]at S6;refine⟨_,Nat.succ_lt_succ z4,G5,L5,O5,r.take n,B3++[g3],_,_,rfl,c4,b7,a3,S6,.inr ⟨B3,g3,rfl,rfl,bw (cD z4) c5,z2,z3,?_⟩⟩;rcases a6 a2 with y | ⟨y,_⟩
    ·exact y
    ·exact absurd y z5
  ·have da:(!xs.isEmpty)=true:=by cases xs with | nil=>exact absurd rfl hxe | cons a b=>rfl
   rw[da];refine gL ?_;have ea:c.listed (ig (c.Lp g2.part) g2.sd.dead)≠[]:=fun z=>hxe (bN.mp (by rw[lx,z];rfl));obtain⟨k,hkl⟩:∃k,(c.listed (ig (c.Lp g2.part) g2.sd.dead)).getLast?=some k:=⟨_,List.getLast?_eq_some_getLast ea⟩;obtain⟨hk,ah,a5,a4⟩:=yJ nL hkl;obtain⟨x,a1,a9⟩:∃x,xs[xs.length-1]?=some x∧fD S x k:=by
    have h1:(c.listed (ig (c.Lp g2.part) g2.sd.dead))[xs.length-1]?=some k:=by rw[lx,←List.getLast?_eq_getElem?];exact hkl
    obtain⟨x,N,z2⟩:=i6 c2 (i:=((xs.length-1:Nat):Int)) (by rw[im];exact h1);rw[im]at N;exact⟨x,N,z2⟩
   have g3:=C.se.gh;refine⟨_,rfl,p,dx,_,V.ref ch,rfl,bx,(by kernel_rfl),ch,gx,_,V.ref ap,rfl,g3.ins d1,(by kernel_rfl),_,rfl,_,rfl,l,_,_,x,rfl,rfl,fb.of b5,oV a1,ap,_,rfl,(d4.f g3).get (w:=some k) (gr hk) (fD.f g3 a9),_,rfl,a.1,fx,_,rfl,R,(by show 3<1000;decide),?_⟩;rw[FJ];have c6:=ak ha;have ct:∀{y dy y1 y2 y3},H3 y=some (.ins CT dy (zd y1 y2 y3))→y≠a.1:=fun h=>Ne.symm (zy R h);have fr:l≠a.1:=fC b5 R fun z=>nomatch z;have Z:∀b,b≠a.1→upd H3 a.1 (.ins CF fx (ut (.str g2.part) (.ref a.2) (.int (c.KC (some k):Nat)))) b=H3 b:=fun b hb=>ef hb;have co:upd H3 a.1 (.ins CF fx (ut (.str g2.part) (.ref a.2) (.int (c.KC (some k):Nat)))) a.1=some (.ins CF fx (ut (.str g2.part) (.ref a.2) (.int (c.KC (some k):Nat)))):=d0;generalize upd H3 a.1 (.ins CF fx (ut (.str g2.part) (.ref a.2) (.int (c.KC (some k):Nat))))=H4 at *;have g4:eB S H4:=fun b u e=>by
    have nb:b≠a.1:=fun z=>by rw[z,(C.fk.off a c6).1]at e;cases e
    rw[Z b nb];exact g3 b u e
   have dp:a.1∉Y:=(C.sep.2 a c6).1;have ad:gj CL S H4 le ch c L2 Y:=C.led.grow (eB.refl _) C.led.off fun y U=>Z y fun z=>dp (z▸U);obtain⟨⟨fx3,hfa3⟩,hst3⟩:mY CF CT S H3 c a g2:=by
    obtain⟨c1,N,z2⟩:=Paired.KA C.fk.p ha;rw[bf]at N;cases N;exact z2
   have ei:fl≠a.1:=fC C.fk.l R fun z=>nomatch z;have ec:∀(t:Nat) (b:Addr×Addr),r[t]?=some b→t≠o.length→b.1≠a.1:=fun t b hb ht z=>by
    have a1:(r.map (·.1))[t]?=some b.1:=by rw[ae,hb];rfl
    have a9:(r.map (·.1))[o.length]?=some a.1:=by rw[ae,ha];rfl
    rw[z]at a1;exact ht ((cj (af.mp a1).1 C.fk.nd1).mp (a1.trans a9.symm))
   have a7:lN CT S H4 a.2 g2.sd:=by
    obtain⟨sx,wa,aa,e4⟩:=hst3;exact⟨sx,wa,by rw[Z _ (ct aa)];exact aa,e4⟩
   have b9:iY CF CT S H4 c fl r (o++[{g2 with bit:=some k}]):=by
    refine⟨by rw[Z fl ei];exact C.fk.l,j4 (by rw[aF,aT];exact lA) fun t b fk h1 h2=>?_,C.fk.offl,C.fk.off,C.fk.nd1,C.fk.nd2⟩;by_cases ht:t=o.length
    ·subst ht;rw[ha]at h1;cases h1;rw[aZ (aq _),bS]at h2;have:({g2 with bit:=some k}:Fk)=fk:=by simpa using h2
     subst this;exact⟨⟨fx,co⟩,a7⟩
    ·have c7:t<o.length:=by
      have:=(af.mp h2).1;rw[aF,aT]at this
      lia
     rw[aI c7]at h2;obtain⟨c1,N,⟨y1,z2⟩,y2,w2,z3,z4⟩:=Paired.KA C.fk.p h1;rw[aI c7,h2]at N;cases N;exact⟨⟨y1,by rw[Z _ (ec t b h1 ht)];exact z2⟩,y2,w2,by rw[Z _ (ct z3)];exact z3,z4⟩
   have c9:j9 c {g2 with bit:=some k}:=⟨a0.open_,a0.rule,fun j hj=>by cases hj;exact⟨hk,ah,a4⟩⟩;have ds:H4 p=some (.ins CS dx (xY ch le fl)):=g4.ins hp;have S4:SS CB CC CL CS CF CT S H4 p ch le fl c L2 Y r (o++[{g2 with bit:=some k}]):=⟨C.se.grow (eB.refl _) g4,ad,C.ok,b9,C.sep⟩
   have cy:iN H3 Y H4 Y:=iN.del (ys:=[a.1]) (fun b u hb=>by
    have nb:b≠a.1:=fun z=>by rw[z,fL (by simp)]at hb;cases hb
    rw[Z b nb];exact .inl (fB _ _ b u hb)) fun y U=>by rw[ai.mp U];exact⟨_,R,fun q=>q⟩
   refine⟨_,rfl,p,dx,_,rfl,ds,(by kernel_rfl),_,rfl,S,p,ch,le,fl,c,L2,Y,a,{g2 with bit:=some k},k,rfl,S4.se,ad,S4.ok,⟨⟨fx,co⟩,a7⟩,rfl,c9,d.sd,a5,?_⟩;intro G5 H5 s5 d5 v cn ek cv ⟨cz,b3⟩ dn;have bv:gj CL G5 H5 le ch c L2 Y:=ad.grow v.gg (fun y U=>by obtain⟨u,D⟩:=ad.liv y U;exact v.off (ad.off y U) D) dn;have I:=S4.grow v bv S4.ok;have a3:y9 H O G G5:=fun x u h f n g=>v.off (bl x u h f n g) ((an.trans (as.L7.trans cy)) x u h f n).1;refine q1 G5 H5 L2 Y r _ s5 d5 (bq.trans v.gg) (an.trans (as.L7.trans (cy.trans v.L7))) a3 I ?_ a2 cv ek (fun z=>?_) (fun z=>?_) (by rw[AL (g:=g2) (g':={g2 with bit:=some k}) rfl rfl];exact c5)
   ·rw[cJ,List.reverse_singleton,List.singleton_append];exact .cons d c9 b3 cz
   ·obtain⟨u,D⟩:=ad.liv s5 z;rw[cn]at D;cases D
   ·obtain⟨a',J,rfl⟩:=av.mp z;obtain⟨t,ht⟩:=az.mp J;obtain⟨fk,_,_,sx,wa,aa,_⟩:=Paired.KA b9.p ht;rw[cn]at aa;cases aa
end
end FB
namespace FB
open PySem L2 PyProof.Rows
structure Ch (K:W.Frag)(x qual:Str)(st:Stmt)(f:Addr)(fd:FuncData)(c:Addr):Prop where
 ex:∃(oc:Value) (od:Option Addr) (kV doc pm:Value) (an:Option Addr) (ct:Value) (osl:Array (Option Value)),
  fd=W.fnOf x qual (hU st) (gF st) (eE st) .none kV doc pm an (.ref c) ct∧K.lookup f=some ⟨oc,od,.func fd,osl⟩∧W.codeIn K (.ref c) qual=true
 kp:W.keepIn K (.ref f)=true
section
variable {P:Program}{w:World}{K:W.Frag}{mg:Str→Option Value}{base:Heap}
theorem Ch.ok {x qual:Str}{st:Stmt}{f c:Addr}{fd:FuncData}{N ps:List Str}{k:Nat}{sp:Sp}(F:Ch K x qual st f fd c)(S:eM N ps (eE st))(len:∀vs H Q E,sp vs H Q E→vs.length=ps.length)(a:∀(A:Around) (outer:List Env) (s:Shared) (H:Hp) (vs:List V) (Q:VK) (E:XK),gM k (A.deeper (envOfC qual (eE st) s.heap.objs.size f (.ref c)))→sp vs H Q E→∃t,nX (ux fh P w K mg base N qual (eE st) f (.ref c) A outer s H E).nox (gF st) t∧t {nx:=fun _ H'=>Q .non H',rt:=Q} (start N vs) H):eZ P w K mg base fh (k+1) f fd ps sp:=by
 obtain⟨l,o,kV,i,pm,m,p,j,rfl,e,d⟩:=F.ex;refine DS e d S len fun A outer s H vs Q E g b=>?_;obtain⟨t,h,q⟩:=a A outer s H vs Q E g b;exact⟨t,h.nox,q⟩
end
end FB
namespace FB
open PySem L2 PyProof.Rows
seal nX PS PE PT PA
def ze:Pos:=match gF t6 with
 |(.Assign _ (.Call _ _ [⟨_,.Lambda _ _ _ lp,_⟩] _) _)::_=>lp
 |_=>⟨0,0,0,0⟩
def Cj:Str:=(envOfC "Search.next_part" (eE t6) 0 0 .none).qual++"<lambda>"
theorem Bl {names:List (Str×NameKind)}{y y':Str}(h:∀p∈names,p.2=.free→p.1=y∨p.1=y'):∀z,names.lookup z=some .free→z=y∨z=y':=fun z hz=>by
 induction names with
 |nil=>cases hz
 |cons a l ih=>
  rw[aX]at hz;by_cases e:(z == a.1)=true
  ·rw[e]at hz;have e1:z=a.1:=by simpa using e
   have d:a.2=.free:=Option.some.inj hz;rw[e1];exact h a (by simp) d
  ·have b:(z == a.1)=false:=by cases hh:(z == a.1) <;> simp_all
   rw[b]at hz;exact ih (fun p hp=>h p (by simp[hp])) hz
theorem Dl {c:eg}{x:Str}{s:Sd}:c.listed (ig (c.Lp x) s.dead)=c.left x s:=by
 unfold eg.listed eg.left;refine List.filter_congr fun k a=>?_;rw[cW,aD,ax,bQ,decide_eq_false_iff_not];have h1:=nL (c:=c) (x:=x) (s:=s) k;rw[eg.Ld]at h1;exact⟨fun z=>(h1.mp ⟨a,z⟩).2,fun z=>(h1.mpr ⟨a,z⟩).2⟩
inductive DU (CB CC CS CT:Addr)(tq:Str)(lp:Pos)(PT':Addr)(vs:List V)(H:Hp)(Q:VK)(E:XK):Prop
 |mk (G:Hp)(p ch le fl s:Addr)(c:eg)(L:iu)(sd:Sd)(_:vs=[.ref p,.ref s])(_:Se CB CC CS G H p ch le fl c)(_:lN CT G H s sd)(_:iE c L sd)(_:sd.wanted≠[])(_:ii tq lp H PT')(_:G PT'=none)(_:∀(x:Str) (H':Hp),x∈sd.wanted.map (·.1)→c.Rule x sd→eF (del H [PT']) H'→ii tq lp H' PT'→Q (.str x) H'):DU CB CC CS CT tq lp PT' vs H Q E
def u5 (CB CC CS CT:Addr)(tq:Str)(lp:Pos)(PT':Addr):Sp:=DU CB CC CS CT tq lp PT'
section
variable {P:Program}{w:World}{K:W.Frag}{mg:Str→Option Value}{base:Heap}{f cd:Addr}{fd:FuncData}
theorem EK:eM ["self","stand","fewest","first"] ["self","stand"] (eE t6):=jc
theorem C7 {CB CC CS CT g PP:Addr}{gd:FuncData}(F:Ch K "next_part" "Search.next_part" t6 f fd cd)(a3:W.codeHdIn K cd PP=true)(BM:tM mg base)(T:tO K mg CS)(as:TC K mg CC)(TT:DF K mg CT)(GC:eZ P w K mg base fh 1 g gd ["mask"] rL)(bG:gi K gd ["mask"] [])(kG:W.keepIn K (.ref g)=true)(mG:mg "count_picks" = some (.ref g))(ML:Mt P w K mg base CS fh 1 "left" ["self","stand","part"] (rH CB CC CS CT)):eZ P w K mg base fh 5 f fd ["self","stand"] (u5 CB CC CS CT Cj ze PP):=by
 refine F.ok EK (fun vs H Q E h=>?_) (fun A a7 s H vs Q E hr h=>?_)
 ·obtain⟨G,p,ch,le,fl,s,c,L,sd,rfl,_⟩:=h;rfl
 obtain⟨G,p,ch,le,fl,R,c,L,sd,rfl,hS,a6,aa,a0,hT,gP,q⟩:=h;have hu:=gR hr;refine⟨_,(ee (eJ (i:=2) EK.nd rfl (Or.inl rfl) (CW (k:=2) (x:="part") (y:="stand") (y':="self") (j:=1) (j':=0) (cy:=s.heap.objs.size+2) (cy':=s.heap.objs.size+1) rfl hr ⟨rfl,rfl,rfl,rfl,rfl,rfl,rfl,by decide +kernel,Bl (by decide +kernel),rfl,rfl,rfl,rfl,rfl,rfl,Or.inr (Or.inl rfl),Or.inr (Or.inl rfl),by decide +kernel,by decide +kernel,by decide +kernel⟩ rfl a3 BM rfl rfl T.min (eG TT.cl TT.nWa (pv 1)) (fun _ _ _ _=>rfl) (fun q c' s H=>fe GC (gM.mono (gM.deeper (gM.in1 hr) _) (by decide:1≤2)) rfl mG kG bG .nil eT (dZ (ib ML (gM.mono (gM.deeper (gM.in1 hr) _) (by decide:1≤2)) eT (pv 2) (dZ (pv 1) (dZ (pv 0) el))) el)))) (ee (eJ (i:=3) EK.nd rfl (Or.inl rfl) (eK fg (iL (uE rfl) rfl T.list cN (dZ (eG TT.cl TT.nWa (pv 1)) el)) et (fun _ _=>rfl))) (ee (fz (PW.pt (lY (gZ (sI hu (pv 3) (fc hu (eG as.cl as.nAl (eG T.cl T.nCh (pv 0))) i4 (fun _ _=>rfl)))) (kg (fi DP (fe GC (hr.mono (by decide:1≤4)) rfl mG kG bG .nil eT (dZ (ib ML (hr.mono (by decide:1≤4)) eT (pv 0) (dZ (pv 1) (dZ (pv 2) el))) el)) et (fF _))))) (eo (eL (pv 3))) eO) (eo (eL (pv 2)))))),?_⟩;obtain⟨dx,hp⟩:=hS.self;have bl:=hS.gh.ins hp;obtain⟨sx,wa,S,wo,m,J,M⟩:=id a6;have lw:=Paired.length M;obtain⟨⟨x0,u0⟩,wr,hw0⟩:∃xu wr,sd.wanted=xu::wr:=by
  cases h:sd.wanted with
  |nil=>exact absurd h a0
  |cons a b=>exact⟨a,b,rfl⟩
 have B:0<m.length:=by rw[lw,hw0];exact Nat.succ_pos _
 have r:∀(i:Nat) (o:gv×V),m[i]?=some o→∃x u,sd.wanted[i]?=some (x,u)∧o.1=Sum.inr x:=fun i o h=>by
  obtain⟨⟨x,u⟩,D,I⟩:=Paired.KA M h;exact⟨x,u,D,I.1⟩
 have hP:∃u,H PP=some u∧u1 u:=by
  rcases hT with z | ⟨c',z,_⟩
  ·exact⟨_,z,trivial⟩
  ·exact⟨_,z,trivial⟩
 have nP:∀{a C d fs},H a=some (.ins C d fs)→a≠PP:=fun {a C d fs} h z=>by
  obtain⟨u,D,I⟩:=hP;rw[z,D]at h;cases h;exact I
 refine⟨_,rfl,R,sx,_,V.ref wa,rfl,S,(by kernel_rfl),wa,wo,m,V.ref R,V.ref p,rfl,hS.gh.frz J,B,hT,rfl,rfl,fun H2 sm a1=>?_⟩;have g2:eB G H2:=ik hS.gh (O:=[PP]) (fun a ha=>by rw[ai.mp ha];exact gP) sm.toF;have ag:Se CB CC CS G H2 p ch le fl c:=hS.grow (eB.refl _) g2;have a5:=g2.ins hp;have t:H2 R=some (.ins CT sx (zd (.int (sd.picked:Nat)) (.int (sd.dead:Nat)) (.ref wa))):=sm _ _ (by rw[eD (by simpa using nP S)];exact S);have an:lN CT G H2 R sd:=⟨sx,wa,t,wo,m,J,M⟩
 refine⟨fun i=>match sd.wanted[i]? with
  |some xu=>((c.listed (ig (c.Lp xu.1) sd.dead)).length:Nat)
  |none=>0,fun i o hi=>?_,fun i o hi ba=>?_⟩
 ·obtain⟨x,u,D,I⟩:=r i o hi;dsimp only;rw[D,I];exact⟨_,rfl,p,dx,_,rfl,a5,(by kernel_rfl),_,rfl,_,rfl,G,p,ch,le,fl,R,c,sd,x,rfl,ag,an,c,_,rfl,jB (c.KW _),rfl,rfl⟩
 ·obtain⟨x,u,D,I⟩:=r i o hi;rw[I];have ap:x∈sd.wanted.map (·.1):=av.mpr ⟨(x,u),ak D,rfl⟩;refine⟨_,rfl,R,sx,_,V.ref wa,rfl,t,(by kernel_rfl),wa,m,rfl,.inr ⟨wo,g2.frz J⟩,fun l hl=>?_⟩;have Z:=eA hl (.lst (m.map fun o=>kV o.1));obtain⟨kv0,kvr,hk0,hk1⟩:∃kv0 kvr,m=kv0::kvr∧kv0.1=Sum.inr x0:=by
   cases hwk:m with
   |nil=>rw[hwk]at B;cases B
   |cons a b=>
    obtain⟨x',u',y1,y2⟩:=r 0 a (by rw[hwk];rfl);rw[hw0]at y1;cases y1;exact⟨a,b,rfl,y2⟩
  have a9:upd H2 l (.lst (m.map fun o=>kV o.1)) l=some (.lst (V.str x0::kvr.map fun o=>kV o.1)):=by
   rw[d0,hk0,aE,hk1];rfl
  generalize upd H2 l (.lst (m.map fun o=>kV o.1))=H3 at *;have g3:eB G H3:=g2.trans Z.toF;have ad:=g3.ins hp;refine⟨l,_,_,V.str x0,rfl,rfl,fb.of a9,mU,?_⟩;obtain⟨gx,gb,a4,bm,bv,al,bf,bq,bd,d1,d2,d3,d4,d5,d6,d7,d8,d9⟩:=hS.chart.ex;obtain⟨da,e1,oa,U,e2,e3,e4⟩:=(d7.f g3).get (w:=none) je rfl;refine⟨_,rfl,_,rfl,p,dx,_,V.ref ch,rfl,ad,(by kernel_rfl),ch,gx,_,V.ref al,rfl,g3.ins d1,(by kernel_rfl),al,_,rfl,e1,da,_,rfl,.inl ⟨U,Sum.inr x0,.inr ⟨oa,e2⟩,rfl,rfl⟩,_,rfl,?_⟩;have a8:(eW U (Sum.inr x0)).isSome=decide (x0∈c.start):=by
   by_cases hx:x0∈c.start
   ·rw[e4 x0 hx,ao hx];rfl
   ·rw[au hx];cases hq:eW U (Sum.inr x0) with
    |none=>rfl
    |some v=>
     have:=iG hq;rw[e3]at this;obtain⟨y,hy,e⟩:=av.mp this;rw[Sum.inr.inj e]at hy;exact absurd hy hx
  rw[a8];have h0:(sd.wanted.map (·.1))[0]?=some x0:=by rw[hw0];rfl
  have N:x0∈sd.wanted.map (·.1):=by rw[hw0];exact bB
  have X:eF (del H [PP]) H3:=sm.trans Z;have Y:ii Cj ze H3 PP:=by
   rcases a1 with z | ⟨c',D,I⟩
   ·exact .inl (Z _ _ z)
   ·exact .inr ⟨c',Z _ _ D,Z _ _ I⟩
  have a2:=ag.same Z;have ah:lN CT G H3 R sd:=⟨sx,wa,Z _ _ t,wo,m,J,M⟩;by_cases hx:x0∈c.start
  ·rw[ao hx];refine gL ?_;refine⟨_,rfl,p,dx,_,rfl,ad,(by kernel_rfl),_,rfl,_,rfl,G,p,ch,le,fl,R,c,sd,x,rfl,a2,ah,c,_,rfl,jB (c.KW _),_,_,rfl,rfl,_,rfl,?_⟩;dsimp only;rw[Dl];by_cases h1:(1:Int)<((c.left x sd).length:Nat)
   ·rw[ao h1];exact gL ⟨_,rfl,q x0 H3 N (sy aa h0 (.inl ⟨rfl,hx⟩)) X Y⟩
   ·rw[au h1];exact ff ⟨_,rfl,q x H3 ap (sy aa h0 (.inr (.inr (by omega)))) X Y⟩
  ·rw[au hx];refine ff (ff ⟨_,rfl,q x H3 ap (sy aa h0 (.inr (.inl hx))) X Y⟩)
end
def eg.Mf (c:eg)(n:Nd)(k:Pk):List Pk:=((jl c.es n).filter fun v=>decide (k.2<v)).map fun v=>(k.1,v)
inductive BI (CB CC CS CF CT:Addr)(vs:List V)(H:Hp)(Q:VK)(E:XK):Prop
 |mk (G:Hp)(p ch le fl:Addr)(c:eg)(O:List Addr)(a:Addr×Addr)(fk:Fk)(k:Pk)(_:vs=[.ref p,.ref a.1])(_:Se CB CC CS G H p ch le fl c)(_:mY CF CT G H c a fk)(_:fk.bit=some k)(_:k∈c.ks)(_:k.1=fk.part)(_:fk.part∈(c.needs none).map (·.1))(_:(∀a∈O,∃u,H a=some u))(_:∀(G' H':Hp) (l:Addr) (xs:List V) (n:Nd),iA G H O G' H' O→(∀a∈O,H' a=H a)→H l=none→G' l=none→H' l=some (.lst xs)→(c.needs none)[((c.needs none).map (·.1)).idxOf fk.part]?=some n→n.1=fk.part→Paired (fD G') xs (c.Mf n k)→Q (.ref l) H'):BI CB CC CS CF CT vs H Q E
def rE (CB CC CS CF CT:Addr):Sp:=BI CB CC CS CF CT
theorem Hg:(["version","picked","fork"]:List Str).Nodup:=by decide +kernel
section
variable {P:Program}{w:World}{K:W.Frag}{mg:Str→Option Value}{base:Heap}{f:Addr}{fd:FuncData}
theorem zG:eM ["self","fork","need","picked"] ["self","fork"] (eE rZ):=jc
theorem AB {CB CC CS CF CT:Addr}(F:iQ K "newer_picks" "Search.newer_picks" rZ f fd)(T:tO K mg CS)(g:TC K mg CC)(aa:TB K mg CB)(X:BR K mg CF)(MN:Mt P w K mg base CS fh 1 "place_of_need" ["self","who","part"] (mx CB CC CS))(MM:Mt P w K mg base CB fh 2 "meeting" ["self","need"] (jY CB)):eZ P w K mg base fh 3 f fd ["self","fork"] (rE CB CC CS CF CT):=by
 refine F.ok zG (fun vs H Q E h=>?_) (fun co A b2 s H vs Q E hr h=>?_)
 ·obtain⟨G,p,ch,le,fl,c,O,a,l,k,rfl,_⟩:=h;rfl
 obtain⟨G,p,ch,le,fl,c,O,a,l,k,rfl,e,bm,al,hk,a7,ag,ad,q⟩:=h;have hu:=gR hr;refine⟨_,(ee (eJ (i:=2) zG.nd rfl (Or.inl rfl) (eK fg (fc hu (eG aa.cl aa.nN (eG g.cl g.nBoard (eG T.cl T.nCh (pv 0)))) i4 (fun _ _=>rfl)) (ib MN (hr.mono (by decide:1≤2)) eT (pv 0) (dZ i4 (dZ (eG X.cl X.nPa (pv 1)) el))) (fun _ _=>rfl))) (ee (eJ (i:=3) zG.nd rfl (Or.inr rfl) (eK eP (gU hu (eG g.cl g.nBy (eG T.cl T.nCh (pv 0))) (eG X.cl X.nBi (pv 1)) (fun _ _=>rfl)) et (fun _ _=>rfl))) (eo (eL (iH (N':=["version","picked","fork"]) (n:=1) (js:=[3,1]) rfl (iO.two (c:=s.heap.objs.size+2) (c':=s.heap.objs.size+1) (y:="picked") (y':="fork") rfl rfl rfl (by decide +kernel) (by decide +kernel) rfl (by decide +kernel) (by decide +kernel) rfl rfl rfl rfl rfl rfl rfl rfl rfl) (iq (by decide)) (fO (ib MM hr eT (eG g.cl g.nBoard (eG T.cl T.nCh (pv 0))) (dZ (pv 2) el))) (fun C s2 H2 fp=>eN (i:=0) Hg rfl (Or.inl rfl)) (fun C s2 H2 fp=>oK (fi DP (pv 0) (pv 1) (fF _))) (fun C s2 H2 fp=>gT (dZ (eG X.cl X.nPa (pv 2)) (dZ (pv 0) el)))))))),?_⟩;obtain⟨dx,hp⟩:=e.self;have U:=e.gh.ins hp;obtain⟨⟨fx,B⟩,b7⟩:=bm;have b4:c.KC l.bit=c.bit k:=by rw[al];rfl
 rw[b4]at B;obtain⟨gx,gb,b1,ah,cn,cp,cd,cs,a4,d1,d2,d3,d4,⟨bl,bq,a1⟩,d6⟩:=e.chart.ex;obtain⟨b8,as,pq,rfl,bv⟩:=a1 k hk;obtain⟨bx,dn,dv,a2,bd⟩:=jk (d2.f e.gh) (d3.f e.gh);obtain⟨na,a8,zs,hz,b3⟩:=bd none .non je rfl;obtain⟨n,Y,b5⟩:=wP ag;refine⟨_,rfl,p,dx,_,V.ref ch,rfl,U,(by kernel_rfl),ch,gx,_,V.ref gb,rfl,e.gh.ins d1,(by kernel_rfl),gb,bx,_,_,rfl,a2,gJ _ _,dn,_,rfl,a8,_,rfl,p,dx,_,rfl,U,(by kernel_rfl),_,rfl,a.1,fx,_,V.str l.part,rfl,B,(by kernel_rfl),G,p,ch,le,fl,c,.non,none,l.part,rfl,e,je,rfl,ag,fun H1 R=>?_⟩;obtain⟨zv,a5,ba⟩:=i6 b3 (show iD (c.needs none) ((((c.needs none).map (·.1)).idxOf l.part:Nat):Int)=some n by rw[im];exact Y);refine⟨na,_,_,zv,rfl,rfl,fb.of (R _ _ hz),jM a5,?_⟩;have g1:eB G H1:=e.gh.trans R.toF;have Z:=R _ _ U;have r:=R _ _ B;refine⟨_,rfl,p,dx,_,V.ref ch,rfl,Z,(by kernel_rfl),ch,gx,_,V.ref ah,rfl,g1.ins d1,(by kernel_rfl),_,rfl,a.1,fx,_,V.int (c.bit k:Nat),rfl,r,(by kernel_rfl),ah,V.ref pq,rfl,.inl ⟨bl,Sum.inl (c.bit k:Int),g1.rd bq,rfl,as.symm⟩,pq,_,_,V.int k.2,rfl,rfl,gy.of (g1.tup bv),rfl,?_⟩;refine⟨_,rfl,p,dx,_,V.ref ch,rfl,Z,(by kernel_rfl),ch,gx,_,V.ref gb,rfl,g1.ins d1,(by kernel_rfl),gb,bx,_,rfl,R _ _ a2,qg _ _ (by decide +kernel) (by decide +kernel),_,rfl,gb,a4,c.es,_,n,rfl,d2.f g1,fR.same R ba,by rw[←c.n_eq];exact e.n,fun l0 ms H2 s2 b9 J a6 bf=>?_⟩;have a0:=pU a6 bf;subst a0;have d:=R.trans s2;refine⟨l0,rfl,⟨_,fb.of J⟩,?_⟩;have ct:(jl c.es n).length<64:=by
  have h1:=lg c.es n;have h2:=e.n;rw[c.n_eq]at h2;omega
 refine ir (xs:=(jl c.es n).map V.int) (fun D i ys o=>∃j,iA G H O j o O∧H2 D=none∧j D=none∧o D=some (.lst ys)∧eF (del H2 [D]) o∧Paired (fD j) ys ((((jl c.es n).take i).filter fun v=>decide (k.2<v)).map fun v=>(k.1,v)))
  (fun D hD=>⟨G,(iA.same e.gh d).own (d.free hD) (e.gh.free (d.free hD)),hD,e.gh.free (d.free hD),d0,fun b u I=>by
   have nb:b≠D:=fun z=>by rw[z,fL (by simp)]at I;cases I
   rw[ef nb];exact fB _ _ b u I,by rw[dg];exact .nil⟩)
  (fun D i ys o hi ⟨j,L,m,e3,S,N,M⟩=>⟨fb.of (N _ _ (by rw[eD (by simpa using er J m)];exact J)),S,?_⟩) (fun D i y ys o hi ⟨j,L,m,e3,S,N,M⟩=>?_) (fun D ys o ⟨j,L,m,e3,S,N,M⟩=>?_)
 ·have h1:=Paired.length M;rw[ab]at h1;have h2:=bD (fun v=>decide (k.2<v)) ((jl c.es n).take i);rw[aS]at h2;exact eV (by omega)
 ·rw[ae]at hi;obtain⟨v,hv,rfl⟩:=aw.mp hi;have a3:∀{x u},H2 x=some u→o x=some u:=fun {x u} h=>N _ _ (by rw[eD (by simpa using er h m)];exact h);unfold jq;refine⟨_,rfl,_,rfl,_,_,rfl,rfl,_,rfl,?_⟩;skip;have an:=fJ hv;by_cases hlt:k.2<v
  ·rw[ao hlt];refine gL ⟨_,rfl,a.1,fx,_,V.str l.part,rfl,a3 (s2 _ _ r),(by kernel_rfl),_,rfl,(by show 2≤sizeLine;decide),fun t ht=>?_⟩;have a9:D≠t:=er S ht;have gw:=L.trans (iA.put (O:=O) (u:=.tup [.str l.part,.int v]) L.gh ht);have st:=eA ht (.tup [.str l.part,.int v]);have b6:H D=none:=d.free m;have gD:upd j t (.tup [.str l.part,.int v]) D=none:=by rw[ef a9];exact e3
   refine⟨st _ _ S,upd j t (.tup [.str l.part,.int v]),gw.own b6 gD,m,gD,d0,fun b u I=>?_,?_⟩
   ·have nb:b≠D:=fun z=>by rw[z,fL (by simp)]at I;cases I
    rw[ef nb];exact st _ _ (N _ _ I)
   ·rw[an,ce,ay];have e9:([v].filter fun v=>decide (k.2<v))=[v]:=by rw[aG,if_pos (by simpa using hlt)];rfl
    rw[e9];refine Paired.snoc (Paired.Kg M fun _ _ z=>fD.f ((eB.refl j).upd (L.gh.free ht)) z) ⟨t,rfl,?_⟩;rw[d0,←a7]
  ·rw[au hlt];refine ff ⟨j,L,m,e3,S,N,?_⟩;rw[an,ce,ay];have e9:([v].filter fun v=>decide (k.2<v))=[]:=by rw[aG,if_neg (by simpa using hlt)];rfl
   rw[e9,cT,cq];exact M
 ·rw[ab,aH]at M;refine q j o D ys n L (fun y hy=>?_) (d.free m) e3 S Y b5 M;obtain⟨u,ap⟩:=ad y hy;have h2:=d _ _ ap;rw[N y u (by rw[eD (by simpa using er h2 m)];exact h2),ap]
end
end FB
namespace FB
open PySem L2 PyProof.Rows
variable {F:List Fk}{L:iu}{d:Sd}{g:Fk}{t:Nat}
theorem zA {α:Type}{l:List α}{x:α}(h:l[t]?=some x):l=l.take t++x::l.drop (t+1):=by
 obtain⟨h1,h2⟩:=af.mp h;subst h2;rw[←dR h1,List.take_append_drop]
theorem jC {c:eg}(h:fK c L F.reverse d)(a:F[t]?=some g):fK c L (F.take t).reverse g.sd∧j9 c g:=by
 have e:F.reverse=(F.drop (t+1)).reverse++g::(F.take t).reverse:=by
  conv=>lhs;rw[zA a]
  rw[cJ,cY,bO];rfl
 exact h.to e
theorem Dk {c:eg}(h:fK c L F.reverse d){g':Fk}(o:F[t]?=some g)(a:F[t+1]?=some g'):∃k,g.bit=some k∧k∈c.ks∧k.1=g.part∧g'.sd.picked=g.sd.picked ||| c.bit k∧¬c.has g.sd.dead k:=by
 obtain⟨h1,_⟩:=jC h a;have e:(F.take (t+1)).reverse=g::(F.take t).reverse:=by
  rw[bg,o,cJ];rfl
 rw[e]at h1;have j:=h1.live g (by simp);cases h1 with
 |cons a1 a2 a3 a4=>
  obtain⟨k,b,l,p⟩:=a3;obtain⟨m,i,_⟩:=a2.bit k b;exact⟨k,b,m,i,l,j k b⟩
theorem we {c:eg}(h:fK c L F.reverse d)(hg:g∈F):∃k,g.bit=some k∧k∈c.ks∧k.1=g.part∧c.has d.picked k∧¬c.has g.sd.dead k:=by
 have a:g∈F.reverse:=cu.mpr hg;obtain⟨h1,_⟩:=h.fks g a;have key:∀{R:List Fk} {s:Sd},fK c L R s→∀g∈R,∃k,g.bit=some k:=by
  intro R s j
  induction j with
  |nil _ _=>exact fun g hg=>nomatch hg
  |cons _ _ a3 _ ih=>
   intro g hg;rcases am.mp hg with rfl | hg
   ·obtain⟨k,b,_⟩:=a3;exact⟨k,b⟩
   ·exact ih g hg
 obtain⟨k,e⟩:=key h g a;obtain⟨l,i,_⟩:=h1.bit k e;exact⟨k,e,l,i,(h.sub g a).2.2 k e,h.live g a k e⟩
def eg.Mg (c:eg)(pk:Nat)(x:Str):Nat:=c.maskOf fun k=>decide (c.has pk k)&&decide (k.1∈c.start.take (c.start.idxOf x))
theorem eg.Mh {c:eg}{pk:Nat}{x:Str}{k:Pk}:c.has (c.Mg pk x) k↔c.has pk k∧k.1∈c.start.take (c.start.idxOf x):=by
 unfold eg.Mg;rw[eg.KU,aD,ax,ax];exact⟨fun h=>h.2,fun h=>⟨h.1.1,h⟩⟩
theorem sS {α:Type} [DecidableEq α] {l:List α}{x:α}{n:Nat}(h:x∈l)(b:l.idxOf x<n):x∈l.take n:=by
 have a:=bz.mpr h;refine az.mpr ⟨l.idxOf x,?_⟩;rw[cc,if_pos b,aj a]
 exact congrArg some (cw a)
theorem Dr {α:Type} [DecidableEq α] {l:List α}{x y:α}(a:x∈l)(b:y∈l)(h:l.idxOf x=l.idxOf y):x=y:=by
 have h1:=cw (bz.mpr a);have h2:=cw (bz.mpr b);rw[←h1,←h2]
 congr 1
theorem yd {c:eg}(h:fK c L F.reverse d)(I:qj c F){N:Nat}{fk:Fk}{k:Pk}(C:F[N]?=some fk)(e:F[t]?=some g)(b:t<N)(m:fk.part∈c.start)(x:g.bit=some k)(J:¬c.has (c.Mg d.picked fk.part) k):∀j∈c.ks,j.1=g.part→c.has g.sd.dead j∨j=k:=by
 obtain⟨D,E⟩:=jC h C;obtain⟨M,p⟩:=jC h e;have a:=E.out D.sd;have q:=we h (ak e);obtain⟨Q,B,P,o,O,G⟩:=q;rw[x]at B;cases B;have A:∀y,c.isP g.sd.picked y→c.isP fk.sd.picked y:=(by rintro y ⟨j,h1,h2⟩;exact⟨j,I t N g fk (cD b) e C j h1,h2⟩);have s:g∈(F.take N).reverse:=by
  rw[cu];refine az.mpr ⟨t,?_⟩;rw[cc,if_pos b];exact e
 have v:c.has fk.sd.picked k:=(D.sub g s).2.2 k x;have i:¬g.part=fk.part:=fun z=>a ⟨k,v,by rw[o,z]⟩;rcases p.rule with ⟨w,H⟩ | r | r
 ·exfalso;rcases Nat.lt_trichotomy (c.start.idxOf g.part) (c.start.idxOf fk.part) with z | z | z
  ·exact J (eg.Mh.mpr ⟨O,by rw[o];exact sS w z⟩)
  ·exact i (Dr w m z)
  ·exact a (A _ (H fk.part m z))
 ·intro j K l;by_cases hd:c.has g.sd.dead j
  ·exact .inl hd
  ·exact .inr (r j k K P l o hd G)
 ·exact absurd (A _ (r fk.part m)) a
theorem Dg {c:eg}{pk:Nat}{e:Nat×Rs}(g:gX c L)(b:ww c.es c.sn (c.listed pk))(d:e∈L)(h:∀j,c.has e.1 j→c.has pk j):False:=by
 obtain⟨i,hi⟩:=az.mp d;refine GB (ls:=c.lns L) (fun i l a=>?_) b i (c.ln e) ?_ fun p hp=>eg.KI.mpr (h p (eg.KI.mp hp))
 ·unfold eg.lns at a;rw[ae]at a;obtain⟨x,m,rfl⟩:=aw.mp a;exact g.good i x m
 ·unfold eg.lns;rw[ae,hi];rfl
end FB
namespace FB
open PySem L2 PyProof.Rows
seal nX PS PE PT PA
def rc (H:Hp)(O:List Addr)(A:List (Addr×Addr))(H':Hp)(O':List Addr):Prop:=∀b u,H b=some u→b∉O→b∉A.map (·.2)→(H' b=some u∨(DH u∧∃o,H' b=some (.frz o u)))∧b∉O'
theorem iA.frx {G H G' H':Hp}{O O':List Addr}{A:List (Addr×Addr)}(g:iA G H O G' H' O'):rc H O A H' O':=fun b u h n _=>⟨g.fr b u (by rw[eD n];exact h),g.out n h⟩
theorem rc.trans {H H1 H2:Hp}{O O1 O2:List Addr}{A:List (Addr×Addr)}(a:rc H O A H1 O1)(b:rc H1 O1 A H2 O2):rc H O A H2 O2:=fun x u h n m=>by
 obtain⟨z,y⟩:=a x u h n m;rcases z with z | ⟨z1,o,z2⟩
 ·exact b x u z y m
 ·obtain⟨w1,w2⟩:=b x _ z2 y m;refine⟨.inr ⟨z1,o,?_⟩,w2⟩;rcases w1 with w | ⟨w,_⟩
  ·exact w
  ·exact w.elim
inductive BG (CB CC CL CS CF CT:Addr)(vs:List V)(H:Hp)(Q:VK)(E:XK):Prop
 |mk (G:Hp)(p ch le fl sl:Addr)(c:eg)(L:iu)(O:List Addr)(A:List (Addr×Addr))(F:List Fk)(N:Nat)(fk:Fk)(d:Sd)(v:V)(k:Pk)(_:vs=[.ref p,v,.int (c.Mg d.picked fk.part:Nat),.ref sl])(_:SS CB CC CL CS CF CT G H p ch le fl c L O A F)(_:fD G v k)(_:F[N]?=some fk)(_:k∈c.ks)(_:k.1=fk.part)(_:c.has fk.sd.dead k)(_:fk.part∈c.start)(_:fK c L F.reverse d)(_:ww c.es c.sn (c.listed d.picked))(_:¬c.has d.picked k)(_:H sl=some (.lst ((A.take N).map fun a=>V.ref a.1)))(_:sl∉O)(_:∀(G' H':Hp) (L':iu) (O':List Addr) (e:Nat×Rs),eB G G'→rc H O A H' O'→SS CB CC CL CS CF CT G' H' p ch le fl c L' O' A (F.map (c.K7 k e.1))→(∃X,L'=L++X)→e∈L'→(∀j,c.has e.1 j→j=k∨c.has (c.Mg d.picked fk.part) j)→fK c L' (F.map (c.K7 k e.1)).reverse (c.K6 k e.1 d)→Q .non H'):BG CB CC CL CS CF CT vs H Q E
def rD (CB CC CL CS CF CT:Addr):Sp:=BG CB CC CL CS CF CT
section
variable {P:Program}{w:World}{K:W.Frag}{mg:Str→Option Value}{base:Heap}{f:Addr}{fd:FuncData}
theorem CD:eM ["self","pick","kept","forks","place","fork"] ["self","pick","kept","forks"] (eE vi):=jc
theorem Ay {CB CC CL CS CF CT:Addr}(F:iQ K "show_barred" "Search.show_barred" vi f fd)(T:tO K mg CS)(cy:TC K mg CC)(bq:TL K mg CL)(TF:BR K mg CF)(MA:Mt P w K mg base CS fh 4 "line_against" ["self","pick"] (my CB CC CL CS CF CT))(MS:Mt P w K mg base CS fh 5 "shut" ["self","fork","known"] (rB CB CC CL CS CF CT))(MM:Mt P w K mg base CS fh 1 "mark_dead" ["self","bit","place"] (rG CB CC CL CS CF CT)):eZ P w K mg base fh 6 f fd ["self","pick","kept","forks"] (rD CB CC CL CS CF CT):=by
 refine F.ok CD (fun vs H Q E h=>?_) (fun ew A ec s H vs Q E hr h=>?_)
 ·obtain⟨G,p,ch,le,fl,sl,c,L,O,AA,FF,N,fk,d,v,k,rfl,_⟩:=h;rfl
 obtain⟨G,p,ch,le,fl,sl,c,L,O,AA,FF,N,fk,d,v,k,rfl,l,hv,hN,hk,c4,M,c9,C,co,cz,ba,an,q⟩:=h;have hu:=gR hr;refine⟨_,(ee (eJ (i:=4) CD.nd rfl (Or.inl rfl) (ib MA (hr.mono (by decide:4≤5)) eT (pv 0) (dZ (pv 1) el))) (ee (fZ PassesOwn.never rfl (EY rfl T.rev (pv 3)) (eN (i:=5) CD.nd rfl (Or.inl rfl)) (eo (fz (vw (fm hJ (fm hJ (eK fg (eG bq.cl bq.nMa (eG T.cl T.nLe (pv 0))) (pv 4) (fun _ _=>rfl)) (eG TF.cl TF.nBi (pv 5))) (iX kM (pv 2))) (fun _=>rfl)) (eo (eJ (i:=4) CD.nd rfl (Or.inl rfl) (ib MS hr eT (pv 0) (dZ (pv 5) (dZ (C0 (t9 (eG TF.cl TF.nBi (pv 5)) (pv 4) wJ) rfl rfl (by intro z;cases z) (by decide)) el))))) eO))) (eo (gf (ib MM (hr.mono (by decide:1≤5)) eT (pv 0) (dZ (fc hu (eG cy.cl cy.nBits (eG T.cl T.nCh (pv 0))) (pv 1) (fun _ _=>rfl)) (dZ (pv 4) el))))))),?_⟩;obtain⟨dx,hp⟩:=l.se.self;have dy:=l.se.gh.ins hp;have I:qj c FF:=by
  have b6:=C.mono ⟨fk.part,d,none⟩ rfl;rw[de]at b6;intro i i' f f' hi h1 h2;refine b6 i i' f f' hi ?_ ?_
  ·rw[aI (af.mp h1).1];exact h1
  ·rw[aI (af.mp h2).1];exact h2
 have a8:∀f∈FF,iE c L f.sd:=fun f hf=>(C.fks f (cu.mpr hf)).2;have ag:FF.length≤64:=by
  have:=C.depth;rw[cm]at this;have:=l.se.n
  lia
 obtain⟨cn,dn⟩:=jC C hN;have ah:¬c.isP fk.sd.picked k.1:=by rw[c4];exact dn.out cn.sd
 have e0:N<FF.length:=(af.mp hN).1;have lA:AA.length=FF.length:=Paired.length l.fk.p;have U:=ak hN;have cs:∀j,c.has fk.sd.picked j→c.has d.picked j:=(C.sub fk (cu.mpr U)).1;have d8:∀a b,(a=k∨c.has fk.sd.picked a)→(b=k∨c.has fk.sd.picked b)→a.1=b.1→a=b:=fun a b h1 h2 e=>by
  rcases h1 with rfl | h1 <;> rcases h2 with rfl | h2
  ·rfl
  ·exact absurd ⟨b,h2,e.symm⟩ ah
  ·exact absurd ⟨a,h1,e⟩ ah
  ·exact cn.sd.one a b h1 h2 e
 refine⟨_,rfl,p,dx,_,rfl,dy,(by kernel_rfl),_,rfl,G,p,ch,le,fl,c,L,O,AA,FF,v,k,rfl,l.se,l.led,l.ok,l.fk,hv,hk,I,a8,⟨fk,U,M,ah⟩,ag,?_⟩;intro G1 H1 O1 L1 j1 e1 bd da cv c0 c6 a2 _;have ct:=bd.keep an ba fun z=>z;have ek:=bd.out an ba;refine⟨_,rfl,sl,_,rfl,fb.of ct,?_⟩;refine Dv (K:=K) (a:=sl) (xs:=(AA.take N).map fun a=>V.ref a.1) (fun i σ H2=>∃(G2:Hp) (O2:List Addr) (Z:iu) (j:Nat) (e:Nat×Rs) (o5:Option V),σ=[some (.ref p),some v,some (.int (c.Mg d.picked fk.part:Nat)),some (.ref sl),some (.int (j:Nat)),o5]∧iA G H O G2 H2 O2∧gj CL G2 H2 le ch c Z O2∧gX c Z∧(∃X,Z=L++X)∧Z[j]?=some e∧(∀x,c.has e.1 x→x=k∨c.has fk.sd.picked x)∧(∀g,FF[N-i]?=some g→∀x,c.has e.1 x→x=k∨c.has (c.Mg d.picked fk.part) x∨c.has g.sd.picked x))
  ⟨G1,O1,L1,j1,e1,none,rfl,bd,da,cv,c0,c6,fun x hx=>a2.2 fk U M x hx,fun g hg x hx=>?_⟩ ((by rintro i σ H2 _ ⟨_,_,_,_,_,_,_,o,_⟩;exact fb.of (o.keep an ba fun z=>z))) ?_ ?_
 ·rw[Nat.sub_zero,hN]at hg;cases hg;exact(a2.2 fk U M x hx).imp id .inr
 ·rintro i x σ H2 eh hi ⟨G2,O2,Z,j,e,o5,rfl,o,D,t,aa,R,a3,J⟩;rw[ab,aS]at eh hi;have ev:i<N:=by lia
  have bx:min N AA.length=N:=by lia
  rw[bx,ae,cc]at hi
  rw[if_pos (by lia)]at hi;obtain⟨a,ha,rfl⟩:=aw.mp hi;have a4:=l.fk.grow o l.sep;have r:=y8.grow l.fk o l.sep;obtain⟨g,hg,⟨fx,a5⟩,ej⟩:=Paired.KA a4.p ha;obtain⟨g',hg'⟩:∃g',FF[N-i]?=some g':=⟨FF[N-i]'(by lia),aj _⟩;have bm:N-1-i+1=N-i:=by lia
  obtain⟨S,b1,b2,b3,b4,b5⟩:=Dk C hg (by rw[bm];exact hg');have ed:c.KC g.bit=c.bit S:=by rw[b1];rfl
  rw[ed]at a5;have as:=l.se.grow o.gg o.gh;have al:=o.gh.ins (o.gg.ins hp);obtain⟨lx,ma,re,pm,pp,es,rs,Ol,hO,dd,eb,c3⟩:=id D.ex;have c7:(Z.map (·.1))[j]?=some e.1:=by rw[ae,R];rfl
  have c5:=t.lt e (ak R);refine⟨_,rfl,p,dx,_,V.ref le,rfl,al,(by kernel_rfl),le,lx,_,V.ref ma,rfl,o.gh.ins dd,(by kernel_rfl),_,rfl,ma,_,_,_,rfl,rfl,fb.of eb,j5 c7,_,rfl,a.1,fx,_,V.int (c.bit S:Nat),rfl,a5,(by kernel_rfl),_,_,rfl,rfl,_,rfl,_,rfl,_,_,rfl,rfl,_,rfl,?_⟩;dsimp only;rw[nU,qw,p3];have hX:∀y,c.has (ig (e.1 &&& c.bit S) (c.Mg d.picked fk.part)) y↔(c.has e.1 y∧y=S)∧¬c.has (c.Mg d.picked fk.part) y:=fun y=>by rw[eg.KL,eg.KK,eg.KM b2]
  have b9:∀y,c.has g.sd.picked y→c.has fk.sd.picked y:=I (N-1-i) N g fk (by lia) hg hN;have ap:N-(i+1)=N-1-i:=by lia
  by_cases hc0:ig (e.1 &&& c.bit S) (c.Mg d.picked fk.part)=0
  ·rw[ao hc0];refine ff ⟨G2,O2,Z,j,e,_,rfl,o,D,t,aa,R,a3,fun g2 a1 y B=>?_⟩;rw[ap,hg]at a1;cases a1;rcases J g' hg' y B with z | z | z
   ·exact .inl z
   ·exact .inr (.inl z)
   ·rw[b4]at z;rcases eg.KJ.mp z with u | u
    ·exact .inr (.inr u)
    ·have ei:=(eg.KM b2).mp u;refine .inr (.inl (Classical.byContradiction fun nk=>?_));have:=(hX y).mpr ⟨⟨B,ei⟩,nk⟩;rw[hc0]at this;exact eg.KN this
  ·rw[au hc0];refine gL ?_;have b8:c.has e.1 S∧¬c.has (c.Mg d.picked fk.part) S:=by
    refine Classical.byContradiction fun nk=>hc0 (eg.KP (jB (nW c5)) fun y B=>?_);obtain⟨⟨z1,z2⟩,z3⟩:=(hX y).mp B;rw[z2]at z1 z3;exact nk ⟨z1,z3⟩
   refine⟨_,rfl,p,dx,_,rfl,al,(by kernel_rfl),_,rfl,fun kd M=>?_⟩;have ea:a.1≠kd:=er a5 M;refine⟨_,rfl,a.1,fx,_,V.int (c.bit S:Nat),rfl,(by rw[ef ea];exact a5),(by kernel_rfl),_,rfl,d0,[(Sum.inl (c.bit S:Int),V.int (j:Nat))],rfl,(by show 1≤15;decide),?_⟩;rw[i8];have s3:=eA M (.dK (jV [] [(Sum.inl (c.bit S:Int),V.int (j:Nat))]));have dp:upd H2 kd (.dK (jV [] [(Sum.inl (c.bit S:Int),V.int (j:Nat))])) kd=some (.dK [(Sum.inl (c.bit S:Int),V.int (j:Nat))]):=d0;generalize upd H2 kd (.dK (jV [] [(Sum.inl (c.bit S:Int),V.int (j:Nat))]))=H3 at *;have bv:=iA.same (O:=O2) o.gh s3;have dv:kd∉O2:=fun z=>by obtain⟨u,ad⟩:=D.liv kd z;rw[M]at ad;cases ad
   have bf:=a4.grow bv r;have bl:∀x∈L,x∈Z:=fun x hx=>by obtain⟨X,hX⟩:=aa;rw[hX];exact aQ _ hx
   refine⟨G2,p,ch,le,fl,c,Z,O2,AA,FF,N-1-i,a,g,kd,_,some (S,j,e.1),rfl,as.same s3,D.same s3,t,bf,r,I,fun f hf=>(a8 f hf).led bl,ag,ha,hg,(jC C hg).2.open_,.inl dp,dv,⟨b2,rfl,e,R,rfl⟩,fun y B d7=>?_,fun m hm=>?_,?_⟩
   ·rcases yd C I hN hg (by lia) c9 b1 b8.2 y B d7 with z | z
    ·exact .inl z
    ·exact .inr ⟨j,e.1,by rw[z]⟩
   ·have cx:∀y,c.has m y→y=k∨c.has fk.sd.picked y:=fun y B=>by
     rcases hm y B with z | ⟨k0,j0,m0,z1,z2,z3⟩
     ·exact .inr (b9 y z)
     ·cases z1;exact a3 y z2
    exact fun y1 y2 h1 h2 e=>d8 y1 y2 (cx y1 h1) (cx y2 h2) e
   intro G4 H4 O4 L4 j' e' d6 c1 b7 dc d9 a9 _;have dl:∃X,L4=L++X:=by
    obtain⟨X,hX⟩:=aa;obtain⟨Y,hY⟩:=dc;exact⟨X++Y,by rw[hY,hX,bO]⟩
   refine⟨G4,O4,L4,j',e',_,rfl,o.trans (bv.trans d6),c1,b7,dl,d9,fun y B=>?_,fun g2 a1 y B=>?_⟩
   ·rcases a9 y B with z | ⟨k0,j0,m0,z1,z2,z3⟩
    ·exact .inr (b9 y z)
    ·cases z1;exact a3 y z2
   ·rw[ap,hg]at a1;cases a1;rcases a9 y B with z | ⟨k0,j0,m0,z1,z2,z3⟩
    ·exact .inr (.inr z)
    ·cases z1;rcases J g' hg' y z2 with z | z | z
     ·exact .inl z
     ·exact .inr (.inl z)
     ·rw[b4]at z;rcases eg.KJ.mp z with u | u
      ·exact .inr (.inr u)
      ·exact absurd ((eg.KM b2).mp u) z3
 ·rintro σ H2 ⟨G2,O2,Z,j,e,o5,rfl,o,D,t,aa,R,a3,J⟩;rw[ab,aS,show min N AA.length=N by lia,bS]at J;obtain⟨g0,hg0⟩:∃g0,FF[0]?=some g0:=⟨FF[0]'(by lia),aj _⟩;have c8:g0.sd.picked=0:=by
   have h0:=(jC C hg0).1;rw[dg,List.reverse_nil]at h0;cases h0 with
   |nil h1 _=>exact h1
  have cp:∀y,c.has e.1 y→y=k∨c.has (c.Mg d.picked fk.part) y:=fun y B=>by
   rcases J g0 hg0 y B with z | z | z
   ·exact .inl z
   ·exact .inr z
   ·rw[c8]at z;exact(eg.KN z).elim
  have a6:=ak R;have ds:c.has e.1 k:=Classical.byContradiction fun nk=>Dg t co a6 fun y B=>by
   rcases a3 y B with z | z
   ·rw[z]at B;exact absurd B nk
   ·exact cs y z
  have as:=l.se.grow o.gg o.gh;have a4:=l.fk.grow o l.sep;have r:=y8.grow l.fk o l.sep;have al:=o.gh.ins (o.gg.ins hp);obtain⟨gx,gb,a0,eq,eu,ey,ep,ez,em,d1,d2,d3,d4,d5⟩:=as.chart.ex;refine⟨_,rfl,p,dx,_,rfl,al,(by kernel_rfl),_,rfl,p,dx,_,V.ref ch,rfl,al,(by kernel_rfl),ch,gx,_,V.ref a0,rfl,o.gh.ins d1,(by kernel_rfl),_,rfl,a0,_,rfl,(d4.f o.gh).get (w:=some k) (gr hk) (fD.f o.gh (fD.f o.gg hv)),_,rfl,G2,p,ch,le,fl,c,Z,O2,AA,FF,k,j,e,rfl,as,D,a4,R,ag,fun H3 s3 bf=>?_⟩;have a7:∀{x},x∈AA.map (·.2)→G2 x=none∧x∉O2:=fun {x} hx=>by
   obtain⟨a,ha,rfl⟩:=av.mp hx;exact⟨(a4.off a ha).2,(r.2 a ha).2⟩
  have g3:eB G2 H3:=ik o.gh (fun x hx=>(a7 hx).1) s3.toF;have c2:gj CL G2 H3 le ch c Z O2:=D.grow (eB.refl _) D.off fun y B=>by
   obtain⟨u,ad⟩:=D.liv y B;rw[s3 y u (by rw[eD (fun z=>(a7 z).2 B)];exact ad),ad]
  have cd:=(C.led (L':=Z) fun x hx=>by obtain⟨X,hX⟩:=aa;rw[hX];exact aQ _ hx).K7 hk a6 (t.lt e a6) ds cz;refine q G2 H3 Z O2 e o.gg (o.frx.trans fun b u hb n m=>⟨.inl (s3 b u (by rw[eD m];exact hb)),n⟩) ⟨as.grow (eB.refl _) g3,c2,t,bf,r⟩ aa a6 cp ?_;rw[←List.map_reverse];exact cd
end
end FB
namespace FB
open PySem L2 PyProof.Rows
variable {i:Nat}
def eg.firstM (c:eg)(pk:Nat)(i:Nat):Nat:=c.maskOf fun k=>decide (c.has pk k)&&decide (k.1∈c.start.take i)
theorem eg.Mi (c:eg)(pk:Nat)(x:Str):c.Mg pk x=c.firstM pk (c.start.idxOf x):=rfl
theorem eg.Mj (c:eg)(pk:Nat):c.firstM pk 0=0:=eg.KP (c.KW _) fun k h=>by
 have:=(eg.KU.mp h).2;simp at this
theorem eg.Ml {c:eg}{pk:Nat}{x:Str}(h:c.start[i]?=some x):c.firstM pk (i+1)=c.firstM pk i ||| (c.Lp x &&& pk):=by
 refine eg.ext (c.KW _) (ji (c.KW _) (nW (c.KW _))) fun k=>?_;rw[eg.KJ,eg.KK,eg.Lu];unfold eg.firstM;rw[bg,h];simp only[eg.KU,aD,ax,aB,Option.toList_some,ai]
 constructor
 ·rintro⟨h1,h2,h3 | h3⟩
  ·exact .inl ⟨h1,h2,h3⟩
  ·exact .inr ⟨⟨h1,h3⟩,h2⟩
 ·rintro(⟨h1,h2,h3⟩ | ⟨⟨h1,h3⟩,h2⟩)
  ·exact⟨h1,h2,.inl h3⟩
  ·exact⟨h1,h2,.inr h3⟩
theorem FG {α:Type} [DecidableEq α] {l:List α}(e:l.Nodup){x:α}(h:l[i]?=some x):l.idxOf x=i:=by
 have b:=ak h;have a:=bz.mpr b;have h1:=cw a;obtain⟨h2,d⟩:=af.mp h;exact(List.getElem_inj e).mp (h1.trans d.symm)
def qp (f:Fk):Str×Option Pk:=(f.part,f.bit)
theorem Cu (c:eg)(k:Pk)(m:Nat)(F:List Fk):(F.map (c.K7 k m)).map qp=F.map qp:=by
 rw[cF];rfl
theorem zD {F F':List Fk}(h:F'.map qp=F.map qp){f:Fk}(b:F[i]?=some f):∃f',F'[i]?=some f'∧f'.part=f.part∧f'.bit=f.bit:=by
 have h1:(F'.map qp)[i]?=some (qp f):=by rw[h,ae,b];rfl
 rw[ae]at h1;obtain⟨f',h2,a⟩:=aw.mp h1;exact⟨f',h2,congrArg (·.1) a,congrArg (·.2) a⟩
end FB
namespace FB
open PySem L2 PyProof.Rows
seal nX PS PE PT PA
variable {A:List (Addr×Addr)}{CB CC CF CT PP a b:Addr}{H H':Hp}{K:W.Frag}{O O':List Addr}{P:Program}{fd:FuncData}{mg:Str→Option Value}{w:World}
def D5 (c:eg)(L:iu)(pk:Nat)(f:Fk):Prop:=f.part∈c.start→∀k,f.bit=some k→∀n,(c.needs none)[((c.needs none).map (·.1)).idxOf f.part]?=some n→∀kk∈c.Mf n k,∃e∈L,∀j,c.has e.1 j→j=kk∨c.has (c.Mg pk f.part) j
inductive BF (CB CC CL CS CF CT:Addr)(vs:List V)(H:Hp)(Q:VK)(E:XK):Prop
 |mk (G:Hp)(p ch le fl:Addr)(c:eg)(L:iu)(O:List Addr)(A:List (Addr×Addr))(F:List Fk)(d:Sd)(_:vs=[.ref p,.int (d.picked:Nat)])(_:SS CB CC CL CS CF CT G H p ch le fl c L O A F)(_:fK c L F.reverse d)(_:ww c.es c.sn (c.listed d.picked))(_:∀(G' H':Hp) (L':iu) (O':List Addr) (F':List Fk),eB G G'→rc H O A H' O'→SS CB CC CL CS CF CT G' H' p ch le fl c L' O' A F'→(∀f∈F,D5 c L' d.picked f)→Q .non H'):BF CB CC CL CS CF CT vs H Q E
def rC (CB CC CL CS CF CT:Addr):Sp:=BF CB CC CL CS CF CT
theorem rc.refl (H:Hp)(O:List Addr)(A:List (Addr×Addr)):rc H O A H O:=fun b u h n _=>⟨.inl h,n⟩
theorem rc.rd (g:rc H O A H' O'){u:HO}(h:Rd H b u)(n:b∉O)(m:b∉A.map (·.2)):Rd H' b u:=by
 rcases h with h | ⟨o,h⟩
 ·rcases (g b u h n m).1 with z | ⟨_,o,z⟩
  ·exact .inl z
  ·exact .inr ⟨o,z⟩
 ·rcases (g b _ h n m).1 with z | ⟨z,_⟩
  ·exact .inr ⟨o,z⟩
  ·exact z.elim
theorem rc.no (g:rc H O A H' O'){u:HO}(h:H b=some u)(n:b∉O)(m:b∉A.map (·.2))(f:¬DH u):H' b=some u:=(g b u h n m).1.resolve_right fun z=>f z.1
theorem Bt {xs:List V}{n:Nat}(h:n≤xs.length):qe xs none (some (n:Int))=xs.take n:=by
 unfold qe;rw[HT.zO,HT.wH,List.drop_zero,Nat.sub_zero,Nat.min_eq_left h]
section
variable {base:Heap}{f:Addr}
theorem tZ:eM ["self","picked","ahead","mask","part","number","fork","pick"] ["self","picked"] (eE vh):=jc
theorem Ax {CL CS:Addr}(F:iQ K "show_newest" "Search.show_newest" vh f fd)(T:tO K mg CS)(a9:TC K mg CC)(TF:BR K mg CF)(MN:Mt P w K mg base CS fh 3 "newer_picks" ["self","fork"] (rE CB CC CS CF CT))(MB:Mt P w K mg base CS fh 6 "show_barred" ["self","pick","kept","forks"] (rD CB CC CL CS CF CT)):eZ P w K mg base fh 7 f fd ["self","picked"] (rC CB CC CL CS CF CT):=by
 refine F.ok tZ (fun vs H Q E h=>?_) (fun hg A fo s H vs Q E hr h=>?_)
 ·obtain⟨G,p,ch,le,fl,c,L,O,J,FF,d,rfl,_⟩:=h;rfl
 obtain⟨G,p,ch,le,fl,c,L,O,J,FF,d,rfl,o,gn,bm,q⟩:=h;have hu:=gR hr;refine⟨_,(ee (eJ (i:=2) tZ.nd rfl (Or.inl rfl) il) (ee (eJ (i:=3) tZ.nd rfl (Or.inl rfl) et) (ee (fZ PassesOwn.never rfl (Ac (fc hu (eG a9.cl a9.nAl (eG T.cl T.nCh (pv 0))) i4 (fun _ _=>rfl))) (eN (i:=4) tZ.nd rfl (Or.inl rfl)) (ee (ja hu (pv 2) (pv 4) (pv 3) rfl) (eo (ki (i:=3) tZ.nd rfl (Or.inl rfl) (fm hJ (gU hu (eG a9.cl a9.nOf (eG T.cl T.nCh (pv 0))) (pv 4) (fun _ _=>rfl)) (pv 1)) ul)))) (eo (fZ PassesOwn.never rfl (CU rfl T.enum (eG T.cl T.nFo (pv 0))) (nF (n:=2) rfl (gz (eN (i:=5) tZ.nd rfl (Or.inl rfl)) (gz (eN (i:=6) tZ.nd rfl (Or.inl rfl)) lF))) (eo (fz (gZ (sI hu (eG TF.cl TF.nPa (pv 6)) (pv 2))) (eo (fZ PassesOwn.never rfl (fO (ib MN (hr.mono (by decide:3≤6)) eT (pv 0) (dZ (pv 6) el))) (eN (i:=7) tZ.nd rfl (Or.inl rfl)) (eo (gf (ib MB hr eT (pv 0) (dZ (pv 7) (dZ (gU hu (pv 2) (eG TF.cl TF.nPa (pv 6)) (fun _ _=>rfl)) (dZ (mF oH (eG T.cl T.nFo (pv 0)) sC (mD (pv 5))) el)))))))) eO))))))),?_⟩;obtain⟨dx,hp⟩:=o.se.self;have e7:=o.se.gh.ins hp;obtain⟨gx,gb,fa,hc,d9,c9,g6,g8,g9,d1,d2,d3,d4,d5,d6,d7,d8⟩:=o.se.chart.ex;have lA:J.length=FF.length:=Paired.length o.fk.p;intro m a2;have s1:=eA a2 (.dK []);have bl:upd H m (.dK []) m=some (.dK []):=d0;generalize upd H m (.dK [])=H1 at *;have g1:eB G H1:=o.se.gh.trans s1.toF;have c5:G m=none:=o.se.gh.free a2;obtain⟨da,e1,oa,a1,e2,e3,e4⟩:=(d7.f g1).get (w:=none) je rfl;have e6:da≠m:=fC e2 bl fun z=>nomatch z;have la:a1.length=c.start.length:=by
  have:=congrArg List.length e3;rw[ab,ab]at this;exact this
 have hd:c.start.length≤100:=bw (nH _) (o.se.nds none);refine⟨_,rfl,p,dx,_,V.ref ch,rfl,g1.ins hp,(by kernel_rfl),ch,gx,_,V.ref c9,rfl,g1.ins d1,(by kernel_rfl),c9,_,rfl,e1,da,oa,a1,rfl,e2,?_⟩;refine tw (kvs:=a1) (fun i σ H2=>∃kvs o4,σ=[some (.ref p),some (.int (d.picked:Nat)),some (.ref m),some (.int (c.firstM d.picked i:Nat)),o4,none,none,none]∧H2 m=some (.dK kvs)∧(∀b,b≠m→H2 b=H1 b)∧kvs.map (·.1)=(c.start.take i).map Sum.inr∧∀x∈c.start.take i,eW kvs (Sum.inr x)=some (.int (c.Mg d.picked x:Nat)))
  ⟨[],none,by rw[eg.Mj];rfl,bl,fun _ _=>rfl,by simp,fun x hx=>by simp at hx⟩ (by
   rintro i σ H2 _ ⟨_,_,_,_,e,_⟩;rw[e da e6]
   exact e2) ?_ ?_
 ·rintro i kv σ H2 hi ⟨kvs,o4,rfl,as,a7,B,a3⟩;have ap:(a1.map (·.1))[i]?=some kv.1:=by rw[ae,hi];rfl
  rw[e3,ae]at ap;obtain⟨x,hx,ex⟩:=aw.mp ap;rw[←ex];have N:c.start[i]?=some x:=hx;have gd:=ak N;have dd:i<100:=by have:=(af.mp N).1;lia
  have ec:c.start.idxOf x=i:=FG (jh _) N;have lk:kvs.length≤i:=by
   have:=congrArg List.length B;rw[ab,ab,aS]at this
   lia
  have g2:eB G H2:=fun b u e=>by
   have nb:b≠m:=fun z=>by rw[z,c5]at e;cases e
   rw[a7 b nb];exact g1 b u e
  have eu:=pT (jh _) N;have go:eW kvs (Sum.inr x)=none:=by
   cases hq:eW kvs (Sum.inr x) with
   |none=>rfl
   |some u=>
    have:=iG hq;rw[B]at this;obtain⟨y,hy,e⟩:=av.mp this;rw[Sum.inr.inj e]at hy;exact absurd hy eu
  refine⟨_,rfl,_,rfl,_,rfl,m,_,rfl,mj.k (k:=Sum.inr x) as (eV (by lia)),?_⟩;have eh:∀b,b≠m→upd H2 m (.dK (fq kvs (Sum.inr x) (.int (c.firstM d.picked i:Nat)))) b=H1 b:=fun b hb=>by rw[ef hb];exact a7 b hb
  have g3:eB G (upd H2 m (.dK (fq kvs (Sum.inr x) (.int (c.firstM d.picked i:Nat))))):=g2.upd c5;have f2:upd H2 m (.dK (fq kvs (Sum.inr x) (.int (c.firstM d.picked i:Nat)))) m=some (.dK (fq kvs (Sum.inr x) (.int (c.firstM d.picked i:Nat)))):=d0;generalize upd H2 m (.dK (fq kvs (Sum.inr x) (.int (c.firstM d.picked i:Nat))))=H3 at *;obtain⟨ez,eq,es⟩:=d6.f g3;have gp:∃k∈c.ks,k.1=x:=by
   obtain⟨n,hn,ev⟩:=ia.mp gd;obtain⟨j,f5,fr,_⟩:=bm.met none (fun k z=>nomatch z) n hn;exact⟨j,(eg.KI.mp f5).1,fr.trans ev⟩
  refine⟨_,rfl,_,rfl,p,dx,_,V.ref ch,rfl,g3.ins hp,(by kernel_rfl),ch,gx,_,V.ref d9,rfl,g3.ins d1,(by kernel_rfl),_,rfl,d9,_,rfl,.inl ⟨ez,Sum.inr x,eq,rfl,((es x).2 gp).symm⟩,_,rfl,_,_,rfl,rfl,_,_,rfl,rfl,?_⟩;refine⟨_,some (.str x),?_,f2,eh,?_,fun y hy=>?_⟩
  ·rw[nU,xg,eg.Ml N];rfl
  ·rw[hZ _ go,ay,B,fJ N,ay];rfl
  ·rw[fW];by_cases ey:y=x
   ·subst ey;rw[if_pos rfl,eg.Mi,ec]
   ·rw[if_neg (fun z=>ey (Sum.inr.inj z))];rw[fJ N]at hy;exact a3 y ((aB.mp hy).elim id fun z=>absurd (ai.mp z) ey)
 ·rintro σ H2 ⟨kvs,o4,rfl,as,a7,B,a3⟩;rw[la,aH]at B a3;have cz:eF H H2:=fun b u e=>by rw[a7 b (er e a2)];exact s1 _ _ e
  have ds:=iA.same (O:=O) o.se.gh cz;have S2:=o.grow ds (o.led.same cz) o.ok;have ba:m∉O:=fun z=>by obtain⟨u,r⟩:=o.led.liv m z;rw[a2]at r;cases r
  have b7:∀{G3 H3 F3},iY CF CT G3 H3 c fl J F3→∀{x},x∈J.map (·.2)→∃C dy fs,H3 x=some (.ins C dy fs):=fun {G3 H3 F3} hF3 {x} hx=>by
   obtain⟨a,ha,rfl⟩:=av.mp hx;obtain⟨t,ht⟩:=az.mp ha;obtain⟨fk,_,_,sx,wa,e0,_⟩:=Paired.KA hF3.p ht;exact⟨_,_,_,e0⟩
  have Z:m∉J.map (·.2):=fun z=>by obtain⟨C,dy,fs,h⟩:=b7 S2.fk z;rw[as]at h;cases h
  have bv:∀x,eW kvs (Sum.inr x)=if x∈c.start then some (.int (c.Mg d.picked x:Nat)) else none:=fun x=>by
   by_cases hx:x∈c.start
   ·rw[if_pos hx];exact a3 x hx
   ·rw[if_neg hx];cases hq:eW kvs (Sum.inr x) with
    |none=>rfl
    |some u=>
     have:=iG hq;rw[B]at this;obtain⟨y,hy,e⟩:=av.mp this;rw[Sum.inr.inj e]at hy;exact absurd hy hx
  have f8:=cz _ _ e7;refine⟨_,rfl,p,dx,_,V.ref fl,rfl,f8,(by kernel_rfl),fl,_,rfl,S2.fk.l,?_⟩;refine Bm (K:=K) (a:=fl) (xs:=J.map fun a=>V.ref a.1) (fun i σ H3=>∃(G3:Hp) (L3:iu) (O3:List Addr) (F3:List Fk) (d3:Sd) (o3 o4 o5 o6 o7:Option V),σ=[some (.ref p),some (.int (d.picked:Nat)),some (.ref m),o3,o4,o5,o6,o7]∧eB G G3∧rc H2 O J H3 O3∧SS CB CC CL CS CF CT G3 H3 p ch le fl c L3 O3 J F3∧F3.map qp=FF.map qp∧fK c L3 F3.reverse d3∧d3.picked=d.picked∧∀i'<i,∀f,FF[i']?=some f→D5 c L3 d.picked f)
   ⟨G,L,O,FF,d,_,_,_,_,_,rfl,eB.refl _,rc.refl _ _ _,S2,rfl,gn,rfl,fun i' cs=>absurd cs (cb _)⟩ (by rintro i σ H3 _ ⟨_,_,_,_,_,_,_,_,_,_,_,_,_,S,_⟩;exact fb.of S.fk.l) ?_ ?_
  ·rintro i x σ H3 t hi ⟨G3,L3,O3,F3,d3,o3,o4,o5,o6,o7,rfl,an,cn,S3,U,ah,cp,g⟩ ht;rw[ae]at hi;obtain⟨a,ha,rfl⟩:=aw.mp hi;obtain⟨f3,cv,g5⟩:=Paired.KA S3.fk.p ha;obtain⟨f0,co,ag,bf⟩:=zD U.symm cv;have s4:=eA ht (.tup [.int (i:Nat),.ref a.1]);have gw:upd H3 t (.tup [.int (i:Nat),.ref a.1]) t=some (.tup [.int (i:Nat),.ref a.1]):=d0;generalize upd H3 t (.tup [.int (i:Nat),.ref a.1])=H4 at *;have dc:=iA.same (O:=O3) S3.se.gh s4;have S4:=S3.grow dc (S3.led.same s4) S3.ok;have a6:rc H2 O J H4 O3:=cn.trans dc.frx;obtain⟨⟨fx,hfa⟩,hstA⟩:mY CF CT G3 H4 c a f3:=by
    obtain⟨e9,z1,z2⟩:=Paired.KA S4.fk.p ha;rw[cv]at z1;cases z1;exact z2
   have bx:Rd H4 m (.dK kvs):=a6.rd (.inl as) ba Z;have b6:m∉O3:=(a6 m _ as ba Z).2;refine⟨t,_,rfl,gy.of gw,rfl,_,_,rfl,_,_,rfl,rfl,?_⟩;refine⟨_,rfl,a.1,fx,_,V.str f3.part,rfl,hfa,(by kernel_rfl),_,rfl,m,_,rfl,.inl ⟨kvs,Sum.inr f3.part,bx,rfl,rfl⟩,_,rfl,?_⟩;rw[bv f3.part];by_cases hps:f3.part∈c.start
   ·rw[if_pos hps];refine gL ?_;obtain⟨k,b1,b2,b3,b4,b5⟩:=we ah (ak cv);have ej:=S4.se.gh.ins (an.ins hp);have a4:f3.part∈(c.needs none).map (·.1):=jb.mp hps;refine⟨_,rfl,p,dx,_,rfl,ej,(by kernel_rfl),_,rfl,G3,p,ch,le,fl,c,O3,a,f3,k,rfl,S4.se,⟨⟨fx,hfa⟩,hstA⟩,b1,b2,b3,a4,S4.led.liv,fun G5 H5 l xs n R fu hl g7 cd fv gt ea=>?_⟩;have ga:gj CL G5 H5 le ch c L3 O3:=S4.led.grow R.gg (fun y hy=>by obtain⟨u,r⟩:=S4.led.liv y hy;exact R.off (S4.led.off y hy) r) fu;have S5:=S4.grow R ga S4.ok;have ek:l∉O3:=fun z=>by obtain⟨u,r⟩:=S4.led.liv l z;rw[hl]at r;cases r
    have ei:l∉J.map (·.2):=fun z=>by obtain⟨C,dy,fs,h⟩:=b7 S5.fk z;rw[cd]at h;cases h
    refine⟨l,rfl,⟨_,fb.of cd⟩,?_⟩;have lx:=Paired.length ea;have ed:∀M∈c.Mf n k,M∈c.ks∧M.1=f3.part∧k.2<M.2:=fun M B=>by
     obtain⟨v,f7,rfl⟩:=av.mp B;obtain⟨ew,gk⟩:=aW.mp f7;refine⟨(c.mem _).mpr ?_,b3,aR gk⟩;have:=(sT.mp ew).1;rw[gt,←b3]at this;exact this
    refine gq (K:=K) (a:=l) (xs:=xs) (fun j σ H6=>∃(G6:Hp) (L6:iu) (O6:List Addr) (F6:List Fk) (d6:Sd) (o7:Option V),σ=[some (.ref p),some (.int (d.picked:Nat)),some (.ref m),o3,o4,some (.int (i:Nat)),some (.ref a.1),o7]∧eB G5 G6∧rc H5 O3 J H6 O6∧SS CB CC CL CS CF CT G6 H6 p ch le fl c L6 O6 J F6∧(∃X,L6=L3++X)∧F6.map qp=FF.map qp∧fK c L6 F6.reverse d6∧d6.picked=d.picked∧∀M∈(c.Mf n k).take j,∃e∈L6,∀x,c.has e.1 x→x=M∨c.has (c.Mg d.picked f3.part) x)
     ⟨G5,L3,O3,F3,d3,_,rfl,eB.refl _,rc.refl _ _ _,S5,⟨[],by simp⟩,U,ah,cp,fun M B=>by simp at B⟩ (by rintro j σ H6 _ ⟨_,_,_,_,_,_,_,_,fx,_⟩;exact fb.of (fx.no cd ek ei fun z=>z)) ?_ ?_
    ·rintro j x σ H6 hj ⟨G6,L6,O6,F6,d6,f9,rfl,a0,a5,S6,b9,I,D,al,aa⟩;obtain⟨M,dn,em⟩:=Paired.KA ea hj;obtain⟨ap,ct,cx⟩:=ed M (ak dn);obtain⟨f6,a8,dv,dp⟩:=zD I co;have ep:f6.part=f3.part:=by rw[dv,ag]
     have eb:f6.bit=some k:=by rw[dp,bf,b1]
     have dl:=S6.se.gh.ins (a0.ins (R.gg.ins (an.ins hp)));obtain⟨⟨fx7,hfa7⟩,hst7⟩:mY CF CT G6 H6 c a f6:=by
      obtain⟨e9,z1,z2⟩:=Paired.KA S6.fk.p ha;rw[a8]at z1;cases z1;exact z2
     have c3:Rd H6 m (.dK kvs):=a5.rd (R.frx.rd (A:=J) bx b6 Z) b6 Z;refine⟨_,rfl,p,dx,_,rfl,dl,(by kernel_rfl),_,rfl,_,rfl,_,rfl,a.1,fx7,_,V.str f6.part,rfl,hfa7,(by kernel_rfl),m,_,rfl,.inl ⟨kvs,Sum.inr f6.part,c3,rfl,by rw[ep,bv f3.part,if_pos hps]⟩,_,rfl,p,dx,_,V.ref fl,rfl,dl,(by kernel_rfl),_,rfl,_,rfl,fl,_,rfl,fb.of S6.fk.l,fun sl bd=>?_⟩;have dd:i≤(J.map fun a=>V.ref a.1).length:=by
      rw[ab];exact cD (af.mp ha).1
     rw[Bt dd,←cK];have s7:=eA bd (.lst ((J.take i).map fun a=>V.ref a.1));have f4:upd H6 sl (.lst ((J.take i).map fun a=>V.ref a.1)) sl=some (.lst ((J.take i).map fun a=>V.ref a.1)):=d0;generalize upd H6 sl (.lst ((J.take i).map fun a=>V.ref a.1))=H7 at *;have c8:=iA.same (O:=O6) S6.se.gh s7;have S7:=S6.grow c8 (S6.led.same s7) S6.ok;have g0:sl∉O6:=fun z=>by obtain⟨u,r⟩:=S6.led.liv sl z;rw[bd]at r;cases r
     obtain⟨he,c2⟩:=jC D a8;have e5:c.has f6.sd.dead M:=(c2.bit k eb).2.2 M ap (by rw[ct,ep]) cx;have ft:¬c.has d6.picked M:=fun z=>by
      obtain⟨k',c1,_,_,c4,_⟩:=we D (ak a8);rw[eb]at c1;cases c1;have:=D.sd.one k M c4 z (by rw[b3,ct]);rw[this]at cx;exact absurd cx (Int.lt_irrefl _)
     refine⟨G6,p,ch,le,fl,sl,c,L6,O6,J,F6,i,f6,d6,x,M,by rw[al,ep];rfl,S7,fD.f a0 em,a8,ap,by rw[ct,ep],e5,by rw[ep];exact hps,D,by rw[al];exact bm,ft,f4,g0,?_⟩;intro G8 H8 L8 O8 e8 fp f1 S8 c6 g4 cy c7;have fy:∃X,L8=L3++X:=by
      obtain⟨X,hX⟩:=b9;obtain⟨Y,hY⟩:=c6;exact⟨X++Y,by rw[hY,hX,bO]⟩
     refine⟨G8,L8,O8,_,_,_,rfl,a0.trans fp,a5.trans ((c8.frx).trans f1),S8,fy,by rw[Cu];exact I,c7,by rw[eg.K8];exact al,fun k2 bq=>?_⟩;rw[fJ dn]at bq;rcases aB.mp bq with z | z
     ·obtain⟨e,b8,c0⟩:=aa k2 z;obtain⟨Y,hY⟩:=c6;exact⟨e,by rw[hY];exact aQ _ b8,c0⟩
     ·rw[ai.mp z];refine⟨e8,g4,fun y hy=>?_⟩;have:=cy y hy;rw[al,ep]at this;exact this
    ·rintro σ H6 ⟨G6,L6,O6,F6,d6,f9,rfl,a0,a5,S6,b9,I,D,al,aa⟩;rw[lx,aH]at aa;refine⟨G6,L6,O6,F6,d6,_,_,_,_,_,rfl,an.trans (R.gg.trans a0),a6.trans (R.frx.trans a5),S6,I,D,al,fun i' cs f hf=>?_⟩;rcases dm i' i with z | z
     ·have:=g i' z f hf;intro h1 k1 h2 n1 h3 M h4;obtain⟨e,b8,c0⟩:=this h1 k1 h2 n1 h3 M h4;obtain⟨X,hX⟩:=b9;exact⟨e,by rw[hX];exact aQ _ b8,c0⟩
     ·have:i'=i:=by lia
      subst this;rw[co]at hf;cases hf;intro h1 k1 h2 n1 h3 M h4;rw[bf,b1]at h2;cases h2;rw[ag,fv]at h3;cases h3;rw[ag];exact aa M h4
   ·rw[if_neg hps];refine ff ⟨G3,L3,O3,F3,d3,_,_,_,_,_,rfl,an,a6,S4,U,ah,cp,fun i' cs f hf=>?_⟩;rcases dm i' i with z | z
    ·exact g i' z f hf
    ·have:i'=i:=by lia
     subst this;rw[co]at hf;cases hf;intro h1;rw[ag]at h1;exact absurd h1 hps
  ·rintro σ H3 ⟨G3,L3,O3,F3,d3,o3,o4,o5,o6,o7,rfl,an,cn,S3,U,ah,cp,g⟩;rw[ab,lA]at g;refine q G3 H3 L3 O3 F3 an (ds.frx.trans cn) S3 fun f hf=>?_;obtain⟨t,ht⟩:=az.mp hf;exact g t (af.mp ht).1 f ht
end
inductive BL (C:Addr)(vs:List V)(H:Hp)(Q:VK)(E:XK):Prop
 |mk (p dx a st:Addr)(es:List En)(_:vs=[.ref p,.ref a,.ref st])(_:H p=some (.ins C dx []))(_:iP H a es)(_:es.length<64)(_:(es.map eX).Nodup)(_:∀H',eF (del H [p]) H'→gm C H' p st es→Q .non H'):BL C vs H Q E
def rK (C:Addr):Sp:=BL C
section
variable {base:Heap}{f:Addr}
theorem AD {C:Addr}(F:iQ K "__init__" "Board.__init__" zP f fd)(T:TB K mg C):eZ P w K mg base fh 1 f fd ["self","shelf","start"] (rK C):=by
 refine F.ok zH (fun vs H Q E h=>?_) (fun dd A c8 s H vs Q E hr h=>?_)
 ·obtain⟨p,dx,a,st,es,rfl,_⟩:=h;rfl
 obtain⟨p,dx,a,st,es,rfl,hp,c9,hl,bq,q1⟩:=h;have hu:=gR hr;refine⟨_,(ee (zY (pv 0) (ub (pv 2)) rfl) (ee (zY (pv 0) il rfl) (ee (fZ PassesOwn.never rfl (fO (pv 1)) (nF rfl (gz (eN (i:=3) zH.nd rfl (Or.inl rfl)) (gz (eN (i:=4) zH.nd rfl (Or.inl rfl)) (gz (eN (i:=5) zH.nd rfl (Or.inl rfl)) lF)))) (ee (fz (gZ (C2 hu (gT (dZ (pv 3) (dZ (pv 4) el))) (lZ (pv 0) rfl))) iK eO) (ee (kU hu (lZ (pv 0) rfl) (gT (dZ (pv 3) (dZ (pv 4) el))) (pv 5) rfl) (eo (gf (jp PySem.F.plainAttrs_list PySem.F.slot_list_append PySem.F.type_list_append gN (Aj (lZ (pv 0) rfl) (pv 3) (gl el) ⟨rfl,rfl,rfl,rfl⟩) (dZ (pv 4) el))))))) (eo (fZ PassesOwn.never rfl (fO (iL (wb rfl) rfl T.list cN (dZ (lZ (pv 0) rfl) el))) (eN (i:=3) zH.nd rfl (Or.inl rfl)) (eo (ja hu (lZ (pv 0) rfl) (pv 3) (Af rfl T.sorted (gU hu (lZ (pv 0) rfl) (pv 3) (fun _ _=>rfl))) rfl))))))),?_⟩;have cv:=iP.apart hp c9;generalize b1:del H [p]=Hd at *;have sd:eF Hd H:=b1▸fB H [p];have b2:Hd p=none:=by rw[←b1];exact fL (by simp)
 obtain⟨xs,hx,bf⟩:=cv;have lx:xs.length=es.length:=Paired.length bf;refine fun q a3=>⟨_,rfl,d0,?_⟩;have N:p≠q:=er hp a3;refine⟨_,rfl,p,C,dx,_,rfl,by rw[ef N,ef N];exact hp,T.cl,T.nN,(by show 0<1000;decide),?_⟩;rw[i8];generalize a5:upd (upd H q (.dN [(none,.ref st)])) p (.ins C dx (fX "needs" (.ref q) []))=H1;have a2:H1 p=some (.ins C dx (fX "needs" (.ref q) [])):=by rw[←a5];exact d0
 have bm:H1 q=some (.dN [(none,.ref st)]):=by rw[←a5,ef (Ne.symm N)];exact d0
 have s1:eF Hd H1:=by rw[←a5];exact eF.upd (eF.upd sd (sd.free a3)) b2
 refine fun m M=>⟨_,rfl,p,C,dx,_,rfl,by rw[ef (er a2 M)];exact a2,T.cl,T.nV,(by show 1<1000;decide),?_⟩;generalize ah:upd (upd H1 m (.dK [])) p (.ins C dx (fX "versions" (.ref m) (fX "needs" (.ref q) [])))=H2;have cs:H2 p=some (.ins C dx (j7 q m)):=by rw[←ah];exact d0
 have b7:H2 q=some (.dN [(none,.ref st)]):=by rw[←ah,ef (Ne.symm N),ef (er bm M)];exact bm
 have b9:H2 m=some (.dK []):=by rw[←ah,ef (Ne.symm (er a2 M))];exact d0
 have s2:eF Hd H2:=by rw[←ah];exact eF.upd (eF.upd s1 (s1.free M)) b2
 refine⟨_,rfl,a,rfl,⟨xs,fb.of (s2 _ _ hx)⟩,gq (K:=K) (a:=a) (xs:=xs) (fun i σ H2=>Ke C Hd es p a st dx q m i σ H2) ⟨⟨[],[],none,none,none,rfl,cs,b7,.nil,b9,⟨fun x=>.inl ⟨rfl,rfl⟩,fun x y l z=>(nomatch z),fun kv z=>(nomatch z),aq _⟩⟩,s2,bY⟩ (fun i σ H2 _ I=>fb.of (I.sm _ _ hx)) ?_ ?_⟩
 ·rintro i x σ H3 hi ⟨⟨t,vk,o3,o4,o5,rfl,L,O,G,X,R⟩,s3,an⟩;obtain⟨e,he,q0,na,zs,rfl,e1,e2,e3⟩:=Paired.KA bf hi;have g1:=s3 _ _ e1;have dp:i<es.length:=(af.mp he).1;have ht:es.take (i+1)=es.take i++[e]:=by rw[bg,he];rfl
  have c0:(es.map eX)[i]?=some (eX e):=by rw[ae,he];rfl
  have b6:=vL an c0;have lk:t.length=i:=by rw[Paired.length G,aS];lia
  have lv:=R.len;rw[aS]at lv;refine⟨q0,_,rfl,gy.of g1,rfl,_,_,rfl,_,_,rfl,_,_,rfl,rfl,?_⟩;refine⟨_,rfl,_,rfl,(by show 2≤sizeLine;decide),fun kt ct=>?_⟩;have s4:=eA ct (.tup [.str e.1,.int e.2.1]);refine⟨_,rfl,p,C,dx,_,_,rfl,s4 _ _ L,T.cl,T.nN,gJ _ _,q,_,rfl,iy.of (k:=some (jv (eX e))) (s4 _ _ O) ⟨kt,rfl,d0⟩,_,rfl,?_⟩;rw[ge (by intro z;cases z)];rcases ri G (eX e) with ⟨co,hv⟩ | ⟨e',ch,cd,dl,dc,hv,_⟩
  ·rw[hv];refine ff ?_;refine⟨_,rfl,_,rfl,p,C,dx,_,_,rfl,s4 _ _ L,T.cl,T.nN,gJ _ _,_,rfl,_,rfl,(by show 2≤sizeLine;decide),fun b3 b5=>?_⟩;have s5:=s4.trans (eA b5 (.tup [.str e.1,.int e.2.1]));have c1:eW ((none,V.ref st)::t) (some (jv (eX e)))=none:=by rw[ge (by intro z;cases z)];exact hv
   refine⟨q,_,rfl,lD.of (k:=some (jv (eX e))) (s5 _ _ O) ⟨b3,rfl,d0⟩ (eV (by rw[aA];lia)),?_⟩;rw[hZ _ c1];generalize Z:upd (upd (upd H3 kt (.tup [.str e.1,.int e.2.1])) b3 (.tup [.str e.1,.int e.2.1])) q (.dN (((none,V.ref st)::t)++[(some (jv (eX e)),.ref na)]))=D;have da:p≠q:=N;have g:D p=some (.ins C dx (j7 q m)):=by rw[←Z,ef N];exact s5 _ _ L
   have r:D q=some (.dN ((none,V.ref st)::(t++[(some (jv (eX e)),.ref na)]))):=by rw[←Z];exact d0
   have d:D m=some (.dK vk):=by rw[←Z,ef (fC X O (by intro z;cases z))];exact s5 _ _ X
   have bl:Hd q=none:=by
    cases z:Hd q with
    |none=>rfl
    |some o=>
     have:=s2 _ _ z;rw[b7]at this;cases this;have:=sd _ _ z;rw[a3]at this;cases this
   have S:eF Hd D:=by rw[←Z];exact eF.upd (s3.trans s5) bl
   have bv:∀b ys,H3 b=some (.lst ys)→D b=some (.lst ys):=fun b ys z=>by
    rw[←Z,ef (fC z O (by intro y;cases y))];exact s5 _ _ z
   have R5:jE Hd D vk (es.take i):=R.dict bv;have ap:Paired (mV Hd) (t++[(some (jv (eX e)),V.ref na)]) (es.take (i+1)):=by
    rw[ht];exact Paired.snoc G ⟨rfl,na,zs,rfl,e2,e3⟩
   have b8:¬eX e∈(es.map eX).take i:=by rw[←cK];exact co
   have as:=b6.mpr b8;refine⟨_,rfl,p,C,dx,_,_,rfl,g,T.cl,T.nV,jD _ _,m,rfl,.inl ⟨_,.inl d⟩,_,rfl,(by show 0≤sizeLine;decide),fun l0 B=>?_⟩;have J:=eA B (.lst []);refine⟨vk,Sum.inr e.1,J _ _ d,rfl,eV (by lia),fun v ad=>?_,fun ad=>?_⟩
   ·obtain⟨l,rfl⟩:∃l,v=.ref l:=by
     rcases R.at_ e.1 with ⟨z,_⟩ | ⟨l,z,_⟩
     ·rw[ad]at z;cases z
     ·rw[ad]at z;cases z;exact⟨l,rfl⟩
    obtain⟨cx,Y,R8⟩:=(R5.same J).more ad;refine⟨.inl ⟨rfl,_,fb.of Y⟩,_,rfl,l,_,_,rfl,rfl,Y,?_,?_⟩
    ·rw[ab];have:=jT (es.take i) e.1;rw[aS]at this;exact eV (by lia)
    ·have a8:p≠l:=fC (J _ _ g) Y (by intro z;cases z);have a4:q≠l:=fC (J _ _ r) Y (by intro z;cases z);have al:m≠l:=fC (J _ _ d) Y (by intro z;cases z);refine⟨⟨_,vk,_,_,_,rfl,by rw[ef a8];exact J _ _ g,by rw[ef a4];exact J _ _ r,ap,by rw[ef al];exact J _ _ d,by rw[ht];exact R8⟩,eF.upd (S.trans J) cx,as⟩
   ·have al:m≠l0:=er d B;have a8:p≠l0:=er g B;have a4:q≠l0:=er r B;have a6:p≠m:=fC g d (by intro z;cases z);have a9:q≠m:=fC r d (by intro z;cases z);have a0:upd (upd D l0 (.lst [])) m (.dK (fq vk (Sum.inr e.1) (.ref l0))) l0=some (.lst []):=by rw[ef (Ne.symm al)];exact d0
    refine⟨.inl ⟨rfl,_,fb.of a0⟩,_,rfl,l0,_,_,rfl,rfl,a0,(by show 0<sizeLine;decide),?_⟩;have U:Hd m=none:=by
     cases z:Hd m with
     |none=>rfl
     |some o=>
      have:=s1 _ _ z;rw[M]at this;cases this
    have R8:jE Hd (upd (upd D l0 (.lst [])) m (.dK (fq vk (Sum.inr e.1) (.ref l0)))) vk (es.take i):=(R5.same J).dict fun b ys z=>by
     rw[ef (fC z (J _ _ d) (by intro y;cases y))];exact z
    have R9:=R8.first (l:=l0) ad a0 (S.free B) (fun x z=>by
     rcases R5.at_ x with ⟨y,_⟩ | ⟨l',y,_,y2⟩
     ·rw[z]at y;cases y
     ·rw[z]at y;cases y;rw[B]at y2;cases y2)
    refine⟨⟨_,_,_,_,_,rfl,by rw[ef a8,ef a6];exact J _ _ g,by rw[ef a4,ef a9];exact J _ _ r,ap,by rw[ef al];exact d0,by rw[ht];exact R9⟩,eF.upd (eF.upd (S.trans J) U) (S.free B),as⟩
  ·rw[hv];refine gL ?_
   exact(b6.mp (lS (i+1) bq) (by
    rw[←cK,←cd]
    exact bh ch)).elim
 ·rintro σ H3 ⟨⟨t,vk,o3,o4,o5,rfl,L,O,G,X,R⟩,s3,an⟩;rw[lx]at G an R;rw[aH]at G R;rw[List.take_of_length_le (by rw[ab];exact aq _)]at an;have lv:=R.len;refine⟨_,rfl,p,C,dx,_,_,rfl,L,T.cl,T.nV,jD _ _,m,vk,rfl,X,fun la c4=>?_⟩;have s4:=eA c4 (.lst (vk.map fun kv=>kV kv.1));have U:Hd m=none:=by
   cases z:Hd m with
   |none=>rfl
   |some o=>
    have:=s1 _ _ z;rw[M]at this;cases this
  refine⟨la,rfl,⟨_,fb.of d0⟩,gq (K:=K) (a:=la) (xs:=vk.map fun kv=>kV kv.1) (fun j σ D=>Kd C Hd es p a st dx q m t (vk.map (·.1)) j σ D∧D la=some (.lst (vk.map fun kv=>kV kv.1))) ⟨⟨⟨vk,_,_,_,rfl,s4 _ _ L,s4 _ _ O,s4 _ _ X,rfl,fun x=>?_⟩,s3.trans s4⟩,d0⟩ (fun j σ D _ I=>fb.of I.2) ?_ ?_⟩
  ·rcases R.at_ x with z | ⟨l,h1,_,h2⟩
   ·exact .inl z
   ·exact .inr ⟨l,_,h1,s4 _ _ h2,List.Perm.refl _,fun z=>by simp at z⟩
  ·rintro j x σ D hj ⟨⟨⟨ag,c6,c5,c2,rfl,g,r,d,aa,V5⟩,s5⟩,a1⟩;rw[ae]at hj;obtain⟨kv,bx,rfl⟩:=aw.mp hj;obtain⟨y,hy⟩:=R.keys kv (ak bx);have bd:(vk.map (·.1))[j]?=some (Sum.inr y):=by rw[ae,bx];exact congrArg some hy
   have c7:(vk.map (·.1)).take (j+1)=(vk.map (·.1)).take j++[Sum.inr y]:=by rw[bg,bd];rfl
   have a7:(eW ag (Sum.inr y:gv)).isSome=true:=by
    rw[←iR,dG];have:(Sum.inr y:gv)∈ag.map (·.1):=by rw[aa];exact ak bd
    obtain⟨c3,h1,h2⟩:=av.mp this;exact⟨c3,h1,ao h2⟩
   rcases V5 y with ⟨z,_⟩ | ⟨l,ms,h1,h2,h3,_⟩
   ·rw[z]at a7;cases a7
   have lm:ms.length<64:=by
    rw[h3.length_eq];exact bJ (jT _ _) hl
   rw[hy];refine⟨_,rfl,p,C,dx,_,_,rfl,g,T.cl,T.nV,jD _ _,_,rfl,m,_,rfl,i7.k (k:=Sum.inr y) d |> (h1▸·),l,ms,rfl,fb.of h2,lm,fun l2 ba b4 cn cz=>?_⟩;have S:=eA b4 (.lst (List.map V.int ba));refine⟨_,rfl,p,C,dx,_,_,rfl,S _ _ g,T.cl,T.nV,jD _ _,_,rfl,m,_,rfl,mj.k (k:=Sum.inr y) (S _ _ d) (eV ?_),?_⟩
   ·have:=congrArg List.length aa;rw[ab,ab]at this
    lia
   ·have a6:p≠m:=fC g d (by intro z;cases z);have a9:q≠m:=fC r d (by intro z;cases z);have cy:la≠m:=fC a1 d (by intro z;cases z);refine⟨⟨⟨_,_,_,_,rfl,by rw[ef a6];exact S _ _ g,by rw[ef a9];exact S _ _ r,d0,by rw[mO a7];exact aa,fun x=>?_⟩,eF.upd (s5.trans S) U⟩,by rw[ef cy];exact S _ _ a1⟩;rw[fW];by_cases hxy:x=y
    ·subst hxy;refine .inr ⟨l2,ba,by rw[if_pos rfl],?_,cn.trans h3,fun _=>cz⟩;rw[ef (Ne.symm (er d b4))];exact d0
    ·rw[if_neg (fun z=>hxy (Sum.inr.inj z))];rcases V5 x with z | ⟨l',cp,g1,g2,g3,g4⟩
     ·exact .inl z
     ·refine .inr ⟨l',cp,g1,?_,g3,fun z=>g4 ?_⟩
      ·rw[ef (fC g2 d (by intro z;cases z))];exact S _ _ g2
      ·rw[c7]at z;rcases aB.mp z with z | z
       ·exact z
       ·exact absurd (Sum.inr.inj (ai.mp z)) hxy
  ·rintro σ D ⟨⟨⟨ag,c6,c5,c2,rfl,g,r,d,aa,V5⟩,s5⟩,a1⟩;refine q1 D s5 ⟨dx,q,m,t,ag,g,.inl r,Paired.Kg G fun _ _ z=>mV.same s5 z,.inl d,fun x=>?_⟩;rcases V5 x with z | ⟨l,ms,g1,g2,g3,g4⟩
   ·exact .inl z
   ·refine .inr ⟨l,ms,g1,g2,g3,fun _=>g4 ?_⟩;rw[List.take_of_length_le (by rw[ab,ab];exact aq _),←aa];exact iG g1
end
section
variable {H:Hp}{p:Addr}{t:HO}(hp:H p=some t)(ft:u1 t)
include hp ft
theorem ip {u:HO}(e:H a=some u)(h:¬u1 u):del H [p] a=some u:=by
 rw[eD (by simpa using fC e hp fun z=>h (z▸ft))];exact e
theorem kR {u:HO}(h:Rd H a u)(n:¬u1 u):Rd (del H [p]) a u:=h.imp (fun z=>ip hp ft z n) (by rintro⟨o,z⟩;exact⟨o,ip hp ft z fun y=>y⟩)
theorem gC.fix {ns:List Nd}(h:gC H a ns):gC (del H [p]) a ns:=(by obtain⟨xs,h1,h2⟩:=h;exact⟨xs,ip hp ft h1 (fun z=>z),Paired.Kg h2 (by rintro _ _ ⟨q,e1,e2⟩;exact⟨q,e1,ip hp ft e2 fun z=>z⟩)⟩)
theorem gm.fix {st:Addr}{es:List En}(h:gm CB H b st es):gm CB (del H [p]) b st es:=by
 obtain⟨j,m,o,d,vk,h1,h2,r,t,v⟩:=h.ex;refine⟨j,m,o,d,vk,ip hp ft h1 (fun z=>z),kR hp ft h2 (fun z=>z),Paired.Kg r fun _ _ z=>?_,kR hp ft t (fun z=>z),fun x=>?_⟩
 ·obtain⟨g,a,zs,g2,g3,e⟩:=z;exact⟨g,a,zs,g2,ip hp ft g3 (fun z=>z),Paired.Kg e (by rintro _ _ ⟨q,s,w⟩;exact⟨q,s,ip hp ft w fun z=>z⟩)⟩
 ·rcases v x with z | ⟨l,i,g,g2,g3,e⟩
  ·exact .inl z
  ·exact .inr ⟨l,i,g,ip hp ft g2 (fun z=>z),g3,e⟩
theorem iw.fix {ch:Addr}{c:eg}(h:iw CB CC H ch c):iw CB CC (del H [p]) ch c:=by
 obtain⟨dx,b,bits,i,a,K,A,Q,st,h1,h2,O,⟨R,G,N⟩,⟨D,E,r⟩,⟨L,P,t⟩,⟨y,s,I⟩,⟨x,m,S⟩,B,M,F⟩:=h.ex;refine⟨dx,b,bits,i,a,K,A,Q,st,ip hp ft h1 (fun z=>z),h2.fix hp ft,O.fix hp ft,⟨R,kR hp ft G (fun z=>z),N⟩,⟨D,kR hp ft E (fun z=>z),fun k C=>?_⟩,⟨L,kR hp ft P (fun z=>z),t⟩,⟨y,kR hp ft s (fun z=>z),fun w J=>?_⟩,⟨x,kR hp ft m (fun z=>z),S⟩,B,kR hp ft M (fun z=>z),F⟩
 ·obtain⟨v,g,q,e,l⟩:=r k C;exact⟨v,g,q,e,ip hp ft l fun z=>z⟩
 ·obtain⟨d,g,o,j,e,l⟩:=I w J;exact⟨d,g,o,j,ip hp ft e (fun z=>z),l⟩
end
def D4 (H:Hp)(O:List Addr)(PP:Addr):Prop:=ii Cj ze H PP∧PP∉O∧∀c' u,H PP=some (.tbl #[rawInt ze.line,rawInt ze.col,.ref c'])→H c'=some u→u1 u→c'∉O
theorem D4.fix (h:D4 H O PP):∃u,H PP=some u∧u1 u:=by
 rcases h.1 with z | ⟨c',z,_⟩
 ·exact⟨_,z,trivial⟩
 ·exact⟨_,z,trivial⟩
theorem D4.keep (h:D4 H O PP)(k:iN H O H' O'):D4 H' O' PP:=by
 rcases h.1 with z | ⟨c',g,d⟩
 ·obtain⟨a,b⟩:=k PP _ z trivial h.2.1;refine⟨.inl a,b,fun c' u e=>?_⟩;rw[a]at e;have:=Option.some.inj e;injection this with this
  exact absurd (show(0:Nat)=3 from congrArg Array.size this) (by decide)
 ·obtain⟨a,b⟩:=k PP _ g trivial h.2.1;obtain⟨i,j⟩:=k c' _ d trivial (h.2.2 c' _ g d trivial);refine⟨.inr ⟨c',a,i⟩,b,fun l u e m _=>?_⟩;rw[a]at e;have:=Option.some.inj e;injection this with this
  injection this with this
  injection this with _ this
  injection this with _ this
  injection this with this _
  injection this with this
  rw[←this];exact j
theorem rc.L7 {G:Hp}{c:eg}{fl:Addr}{F:List Fk}(g:rc H O A H' O')(h:iY CF CT G H c fl A F):iN H O H' O':=fun x u hx f n=>by
 have m:x∉A.map (·.2):=fun z=>by
  obtain⟨a,ha,rfl⟩:=av.mp z;obtain⟨t,ht⟩:=az.mp ha;obtain⟨fk,_,_,sx,wa,hsa,_⟩:=Paired.KA h.p ht;rw[hsa]at hx;cases hx;exact f
 obtain⟨z,y⟩:=g x u hx n m;refine⟨z.resolve_right ?_,y⟩;rintro⟨w,_⟩;cases u <;> first | exact w | exact f
theorem ii.f {tq:Str}{lp:Pos}(e:eB H H')(h:ii tq lp H PP):ii tq lp H' PP:=by
 rcases h with z | ⟨c',b,a⟩
 ·exact .inl (e.no z fun y=>y)
 ·exact .inr ⟨c',e.no b (fun y=>y),e.no a fun y=>y⟩
inductive BP (c:eg)(H:Hp)(t:Addr)(L:iu)(pk:Nat):Prop
 |mk (la ln:_)(_:H t=some (.tup [.ref la,.ref ln]))(_:lV H la (c.listed pk))(_:lC H ln (c.lns L)):BP c H t L pk
structure HC (c:eg)(H:Hp)(t:Addr)(L:iu)(pk:Nat):Prop where
 ex:BP c H t L pk
 ok:gX c L
 fit:ww c.es c.sn (c.listed pk)
 one:c.K1 pk
 lt:pk<2^c.n
 named:∀k,c.has pk k→c.Named pk k
 shown:∀k,c.has pk k→k.1∈c.start→∀n,(c.needs none)[((c.needs none).map (·.1)).idxOf k.1]?=some n→∀kk∈c.Mf n k,∃e∈L,∀j,c.has e.1 j→j=kk∨c.has (c.Mg pk k.1) j
inductive BQ (c:eg)(H:Hp)(t:Addr)(L:iu):Prop
 |mk (ln:_)(_:H t=some (.tup [.non,.ref ln]))(_:lC H ln (c.lns L)):BQ c H t L
structure HD (c:eg)(H:Hp)(t:Addr)(L:iu):Prop where
 ex:BQ c H t L
 ok:gX c L
 last:∃e,L.getLast?=some e∧e.1=0
inductive xk (PP:Addr)(vs:List V)(H:Hp)(Q:VK)(E:XK):Prop
 |mk (sh st:Addr)(es:List En)(sn:List Nd)(_:vs=[.ref sh,.ref st])(_:iP H sh es)(_:es.length<64)(_:(es.map eX).Nodup)(_:gC H st sn)(_:(∀w,(gK es sn w).length≤100))(_:ii Cj ze H PP)(_:(∀c:eg,c.es=es→c.sn=sn→∀L,gX c L→L.length<sizeLine))(_:∀(c:eg) (H':Hp) (t:Addr),c.es=es→c.sn=sn→eB (del H [PP]) H'→ii Cj ze H' PP→((∃L,HD c H' t L)∨∃L pk,HC c H' t L pk)→Q (.ref t) H'):xk PP vs H Q E
def o0 (PP:Addr):Sp:=xk PP
section
variable {base:Heap}{f:Addr}
theorem Cy:eM ["shelf","start","search","stand"] ["shelf","start"] (eE rR):=jc
theorem ye {CL CS:Addr}(F:iQ K "worked_out" "worked_out" rR f fd)(T:tO K mg CS)(TT:DF K mg CT)(h4:xK P w K mg base CB fh 1 "Board" ["self","shelf","start"] (rK CB))(e3:xK P w K mg base CC fh 4 "Chart" ["self","board"] (pw CB CC))(iv:xK P w K mg base CS fh 3 "Search" ["self","chart"] (pb CL CS))(i3:xK P w K mg base CF fh 1 "Fork" ["self","part","stand"] (pr CF))(g3:Mt P w K mg base CS fh 3 "opening" ["self"] (nr CB CC CL CS CT))(hz:Mt P w K mg base CS fh 5 "next_part" ["self","stand"] (u5 CB CC CS CT Cj ze PP))(e8:Mt P w K mg base CS fh 6 "go_on" ["self"] (u7 CB CC CL CS CF CT))(c8:Mt P w K mg base CL fh 2 "told" ["self"] (rp CB CC CL))(f0:Mt P w K mg base CS fh 7 "show_newest" ["self","picked"] (rC CB CC CL CS CF CT))(fp:Mt P w K mg base CC fh 1 "listed" ["self","mask"] (jg CC)):eZ P w K mg base fh 8 f fd ["shelf","start"] (o0 PP):=by
 refine F.ok Cy (fun vs H Q E h=>?_) (fun lm A g8 s H vs Q E hr h=>?_)
 ·obtain⟨sh,st,es,sn,rfl,_⟩:=h;rfl
 obtain⟨sh,st,es,sn,rfl,hf,b9,dn,fu,dc,hT,e5,q1⟩:=h;have hu:=gR hr;refine⟨_,(ee (eJ (i:=2) Cy.nd rfl (Or.inl rfl) (pP iv (hr.mono (by decide:4≤7)) rfl eT (dZ (pP e3 (hr.mono (by decide:5≤7)) rfl eT (dZ (pP h4 (hr.mono (by decide:2≤7)) rfl eT (dZ (pv 0) (dZ (pv 1) el))) el)) el))) (ee (eJ (i:=3) Cy.nd rfl (Or.inl rfl) (qH g3 (hr.mono (by decide:3≤7)) eT (pv 2))) (ee (jy PassesOwn.never (PW.pt (lY (gZ (mJ (pv 3))) (kg (CO (eG TT.cl TT.nWa (pv 3)) (fun _=>rfl))))) (ee (gf (jp PySem.F.plainAttrs_list PySem.F.slot_list_append PySem.F.type_list_append gN (eG T.cl T.nFo (pv 2)) (dZ (pP i3 (hr.mono (by decide:2≤7)) rfl eT (dZ (ib hz (hr.mono (by decide:5≤7)) eT (pv 2) (dZ (pv 3) el)) (dZ (pv 3) el))) el))) (eo (eJ (i:=3) Cy.nd rfl (Or.inl rfl) (qH e8 (hr.mono (by decide:6≤7)) eT (pv 2)))))) (ee (fz (gZ (pQ (pv 3))) (eo (eL (gT (dZ i4 (dZ (qH c8 (hr.mono (by decide:2≤7)) eT (eG T.cl T.nLe (pv 2))) el))))) eO) (ee (gf (ib f0 hr eT (pv 2) (dZ (eG TT.cl TT.nPi (pv 3)) el))) (eo (eL (gT (dZ (ib fp (hr.mono (by decide:1≤7)) eT (eG T.cl T.nCh (pv 2)) (dZ (eG TT.cl TT.nPi (pv 3)) el)) (dZ (qH c8 (hr.mono (by decide:2≤7)) eT (eG T.cl T.nLe (pv 2))) el)))))))))),?_⟩;refine⟨_,rfl,_,rfl,fun b bx hb fv h0=>?_⟩;have s1:=made (C:=CB) hb fv h0;have g0:upd (upd H bx (.own b)) b (.ins CB bx []) b=some (.ins CB bx []):=d0;generalize upd (upd H bx (.own b)) b (.ins CB bx [])=H1 at *;have hg:eF H (del H1 [b]):=fun a u e=>by rw[eD (by simpa using er e hb)];exact s1 _ _ e
 refine⟨b,bx,sh,st,es,rfl,g0,iP.same s1 hf,b9,dn,fun H2 s2 hB=>⟨rfl,?_⟩⟩;have cp:eF H H2:=hg.trans s2;intro ch cx eu hq f9;have s3:=made (C:=CC) eu hq f9;have hp:upd (upd H2 cx (.own ch)) ch (.ins CC cx []) ch=some (.ins CC cx []):=d0;generalize upd (upd H2 cx (.own ch)) ch (.ins CC cx [])=H3 at *;refine⟨ch,cx,b,st,es,sn,rfl,hp,hB.same s3,fu.same (cp.trans s3),dn,b9,dc,fun c H4 c1 c2 gp hC=>⟨rfl,?_⟩⟩;subst c1;subst c2;have e7:eF H (del H3 [ch]):=fun a u e=>by rw[eD (by simpa using er (cp _ _ e) eu)];exact s3 _ _ (cp _ _ e)
 have a7:eB H H4:=e7.toF.trans gp;have dl:ii Cj ze H4 PP:=ii.f a7 hT;obtain⟨tu,hP4,fP⟩:∃u,H4 PP=some u∧u1 u:=by
  rcases dl with z | ⟨c',z,_⟩
  ·exact⟨_,z,trivial⟩
  ·exact⟨_,z,trivial⟩
 intro se sx ah kj h8;have s5:=made (C:=CS) ah kj h8;have i2:upd (upd H4 sx (.own se)) se (.ins CS sx []) se=some (.ins CS sx []):=d0;generalize upd (upd H4 sx (.own se)) se (.ins CS sx [])=H5 at *;have eq:=s5 _ _ hP4;have js:del H4 [PP] se=none:=by
  cases h:del H4 [PP] se with
  |none=>rfl
  |some u=>rw[fB _ _ se u h]at ah;cases ah
 have hi:=hC.fix hP4 fP;have hh:del H4 [PP] PP=none:=fL (by simp);have c0:eB (del H [PP]) (del H4 [PP]):=fun a u e=>by
  have na:a∉[PP]:=fun z=>by rw[fL z]at e;cases e
  rw[eD na]at e ⊢;exact a7 a u e
 refine⟨del H4 [PP],se,sx,ch,c,rfl,((fB _ _).trans s5).toF,js,i2,fun G6 H6 N fl O ed cy j0 f4 kx ba f1 g2 bf X a5=>⟨rfl,?_⟩⟩;generalize del H4 [PP]=G at *;have dx:eB H4 H6:=fun a u e=>g2 a u (by rw[eD (by simpa using er e ah)];exact s5 _ _ e);have ka:G6 PP=none:=by
  cases h:G6 PP with
  |none=>rfl
  |some u=>
   rcases j0 PP hh (by rw[h];exact fun z=>nomatch z) with z | z
   ·rw[eq]at z;cases z
   ·rw[z,ah]at hP4;cases hP4
 have gn:PP∉O:=fun z=>by have:=f4 PP z;rw[eq]at this;cases this
 have ep:D4 H6 O PP:=⟨ii.f dx dl,gn,fun c' u _ e2 f2 z=>X.nf c' z u e2 f2⟩;have cn:c.n<64:=by rw[c.n_eq];exact b9
 have bl:Se CB CC CS G6 H6 se ch N fl c:=⟨cy,⟨sx,bf⟩,hi.f ed,cn,dc,e5 c rfl rfl⟩;refine⟨_,rfl,se,sx,_,rfl,cy.ins bf,(by kernel_rfl),G6,se,ch,N,fl,c,O,rfl,bl,X.liv,X.off,fun G7 H7 s7 d7 J gw e4 c7 dd kc h5=>?_⟩;have i0:gj CL G7 H7 N ch c [] O:=X.grow J.gg (fun a D=>by obtain⟨u,o⟩:=X.liv a D;exact J.off (X.off a D) o) h5;have S7:SS CB CC CL CS CF CT G7 H7 se ch N fl c [] O [] []:=⟨bl.grow J.gg J.gh,i0,gX.nil c,⟨J.keep ba a5 (fun z=>z),.nil,J.off f1 a5,(fun a D=>nomatch D),bY,bY⟩,ba,fun a D=>nomatch D⟩;have g1:=ep.keep J.L7;have gt:G7 PP=none:=by
  obtain⟨u,o,_⟩:=ep.fix;exact J.off ka o
 have f6:s7∉O:=fun z=>by obtain⟨u,o⟩:=X.liv s7 z;rw[gw]at o;cases o
 refine⟨fun m σ H8=>∃(r:Hp) (Y:iu) (R:List Addr) (S:List (Addr×Addr)) (F8:List Fk),eB G r∧SS CB CC CL CS CF CT r H8 se ch N fl c Y R S F8∧D4 H8 R PP∧r PP=none∧((σ=[some (.ref sh),some (.ref st),some (.ref se),some .non]∧m=0∧∃e,Y.getLast?=some e∧e.1=0)∨∃v U,σ=[some (.ref sh),some (.ref st),some (.ref se),some (.ref v)]∧m=c.mv (c.n+1) F8+1∧fK c Y F8.reverse U∧NZ Y∧lN CT r H8 v U∧r v=none∧v∉R∧v∉S.map (·.2)),⟨c.mv (c.n+1) []+1,G7,[],O,[],[],ed.trans J.gg,S7,g1,gt,.inr ⟨s7,d7,rfl,rfl,.nil kc (dd []),(fun e he=>nomatch he),c7,e4,f6,(fun z=>nomatch z)⟩⟩,?_⟩;rintro m σ H8 ⟨r,Y,R,S,F8,a0,j,an,b2,co⟩;obtain⟨ag,a4⟩:=j.se.self;have aa:=j.se.gh.ins a4;obtain⟨gk,lb,k6,lp,k0,kq,lq,k8,k1,ec,ez⟩:=id j.led.ex;have ho:∀{L:Hp},eB r L→eB (del H [PP]) L:=fun {L} h=>c0.trans (a0.trans h);rcases co with ⟨rfl,rfl,e,e6,kh⟩ | ⟨v,U,rfl,rfl,d,ey,ap,hc,bm,d9⟩
 ·refine⟨_,rfl,_,rfl,ff (ff ?_)⟩;refine⟨_,rfl,_,rfl,gL ?_⟩;refine⟨_,rfl,se,ag,_,V.ref N,rfl,aa,(by kernel_rfl),N,gk,_,rfl,j.se.gh.ins ec,(by kernel_rfl),r,N,ch,c,Y,R,rfl,j.se.gh,j.se.chart,j.led,cn,j.ok.lt,j.se.sm Y j.ok,fun ln L s9 bv=>?_⟩;refine⟨(by show 2≤sizeLine;decide),fun t ht=>?_⟩;have st:=eA ht (.tup [.non,.ref ln]);have sA:=s9.trans st;exact q1 c _ t rfl rfl (ho (j.se.gh.trans sA.toF)) (ii.f sA.toF an.1) (.inl ⟨Y,⟨ln,d0,bv.same st⟩,j.ok,e,e6,kh⟩)
 ·obtain⟨b1,wa,as,wo,Z,hd,kl⟩:=id ap;refine⟨_,rfl,_,rfl,gL ?_⟩;refine⟨_,rfl,v,b1,_,V.ref wa,rfl,as,(by kernel_rfl),wa,Z,rfl,.inr ⟨wo,j.se.gh.frz hd⟩,?_⟩;have lw:=Paired.length kl;by_cases hwe:U.wanted=[]
  ·have hw:Z=[]:=bN.mp (by rw[lw,hwe];rfl);rw[hw];refine ff ?_;have a8:=d.sd.fit hwe;refine⟨_,rfl,_,rfl,ff ?_⟩;refine⟨_,rfl,se,ag,_,rfl,aa,(by kernel_rfl),_,rfl,v,b1,_,V.int (U.picked:Nat),rfl,as,(by kernel_rfl),r,se,ch,N,fl,c,Y,R,S,F8,U,rfl,j,d,a8,fun G9 L L9 O9 F9 f5 ei M a3=>?_⟩;have f3:=ei.no as bm d9 fun z=>z;have cd:=an.keep (ei.L7 j.fk);obtain⟨c5,cz⟩:=M.se.self;have bd:=M.se.gh.ins cz;obtain⟨gx,gb,g4,h6,lf,k3,kt,k4,k7,d1,d2,d3,d4,d5,d6⟩:=M.se.chart.ex;refine⟨_,rfl,se,c5,_,V.ref ch,rfl,bd,(by kernel_rfl),ch,gx,_,rfl,M.se.gh.ins d1,(by kernel_rfl),_,rfl,v,b1,_,V.int (U.picked:Nat),rfl,f3,(by kernel_rfl),G9,ch,gx,h6,_,c,_,rfl,M.se.gh,M.se.gh.ins d1,(by kernel_rfl),d5,cn,d.sd.pl,fun l xs Ha sa hl h3 j1 kf=>?_⟩;obtain⟨h9,lk,kv,k5,la,kn,k2,lo,ks,da,e0⟩:=id M.led.ex;have ga:eB G9 Ha:=M.se.gh.trans sa.toF;refine⟨_,rfl,se,c5,_,V.ref N,rfl,sa _ _ bd,(by kernel_rfl),N,h9,_,rfl,ga.ins da,(by kernel_rfl),G9,N,ch,c,L9,O9,rfl,ga,M.se.chart,M.led.same sa,cn,M.ok.lt,M.se.sm L9 M.ok,fun ln Hb sb bv=>?_⟩;refine⟨(by show 2≤sizeLine;decide),fun t ht=>?_⟩;have st:=eA ht (.tup [.ref l,.ref ln]);have sA:=sa.trans (sb.trans st);have gA:eB G9 (upd Hb t (.tup [.ref l,.ref ln])):=M.se.gh.trans sA.toF;refine q1 c _ t rfl rfl (c0.trans (a0.trans (f5.trans gA))) (ii.f sA.toF cd.1) (.inr ⟨L9,U.picked,⟨l,ln,d0,⟨xs,st _ _ (sb _ _ h3),Paired.Kg j1 fun _ _ z=>fD.f gA z⟩,bv.same st⟩,M.ok,a8,d.sd.one,d.sd.pl,d.sd.named,fun k hk c9 n hn kk hs=>?_⟩);obtain⟨g,cv,ew⟩:=d.from k hk;have go:=cu.mp cv;have it:k.1=g.part:=((d.fks g cv).1.bit k ew).2.1;rw[it]at c9 hn ⊢;exact a3 g go c9 k ew n hn kk hs
  ·have e1:(!Z.isEmpty)=true:=by
    cases Z with
    |nil=>exact absurd (bN.mp lw.symm) hwe
    |cons a b=>rfl
   rw[e1];refine gL ⟨fun σ' H'=>∃m',m'<c.mv (c.n+1) F8+1∧_,fun _ _ h=>h,?_⟩;refine⟨_,rfl,se,ag,_,V.ref fl,rfl,aa,(by kernel_rfl),.inl ⟨rfl,_,fb.of j.fk.l⟩,?_⟩;refine⟨_,rfl,se,ag,_,rfl,aa,(by kernel_rfl),_,rfl,r,se,ch,N,fl,v,c,Y,U,rfl,j.se,ap,d.sd,hwe,an.1,b2,fun x L hx b5 s9 c4=>?_⟩;refine⟨_,rfl,fun q fx dp ih hm=>?_⟩;obtain⟨ky,g5,g7⟩:=an.fix;have nP:∀{a u},H8 a=some u→¬u1 u→a∉[PP]:=fun {a u} h n z=>by
    rw[ai.mp z,g5]at h;cases h;exact n g7
   have k9:∀{a u},H8 a=some u→¬u1 u→L a=some u:=fun {a u} h n=>s9 _ _ (by rw[eD (nP h n)];exact h);have g9:eB r L:=ik j.se.gh (O:=[PP]) (fun a D=>by rw[ai.mp D];exact b2) s9.toF;have a2:gj CL r L N ch c Y R:=j.led.grow (eB.refl _) j.led.off fun a D=>by
    obtain⟨u,o⟩:=j.led.liv a D;rw[k9 o (j.led.nf a D u o),o]
   have ft:∃u,L PP=some u:=by
    rcases c4 with z | ⟨c',z,_⟩
    ·exact⟨_,z⟩
    ·exact⟨_,z⟩
   have c3:iA r H8 [PP] r L [PP]:=⟨eB.refl _,g9,fun a e n=>absurd e n,fun a h=>.inl h,s9.toF,fun a e=>by
    by_cases z:a=PP
    ·obtain⟨u,o⟩:=ft;rw[z,o]at e;cases e
    ·have:=s9.free e;rw[eD (by simpa using z)]at this
     exact this⟩
   have ds:y8 [PP] fl S:=⟨nP j.fk.l fun z=>z,fun a D=>by
    obtain⟨t,ht⟩:=az.mp D;obtain⟨fk,_,⟨ld,h1⟩,lc,kw,h2,_⟩:=Paired.KA j.fk.p ht
    exact⟨nP h1 fun z=>z,nP h2 fun z=>z⟩⟩
   have B:=j.fk.grow c3 ds;have a6:=ap.grow c3 (nP as fun z=>z);have M:SS CB CC CL CS CF CT r L se ch N fl c Y R S F8:=⟨j.se.grow (eB.refl _) g9,a2,j.ok,B,j.sep⟩;have cd:D4 L R PP:=⟨c4,an.2.1,fun c' u _ e2 f2 z=>a2.nf c' z u e2 f2⟩;have sm:=made (C:=CF) dp ih hm;have I:=dp;have g6:upd (upd L fx (.own q)) q (.ins CF fx []) q=some (.ins CF fx []):=d0;generalize upd (upd L fx (.own q)) q (.ins CF fx [])=Ha at *;have eh:=iA.same (O:=R) g9 sm;have Sa:=M.grow eh (a2.same sm) M.ok;have kp:lN CT r Ha v U:=a6.grow eh bm;refine⟨q,fx,_,_,rfl,g6,rfl,?_⟩;have em:fl≠q:=fun z=>by have:=B.l;rw[z,I]at this;cases this
   have ct:r q=none:=g9.free I;have bq:(S.map fun a=>V.ref a.1).length<sizeLine:=by
    rw[ab,Paired.length j.fk.p];have:=d.depth;rw[cm]at this;exact eV (by lia)
   refine⟨fl,_,_,rfl,rfl,(by rw[ef em];exact Sa.fk.l),bq,?_⟩;have b8:∀y,y≠q→y≠fl→upd (upd Ha q (.ins CF fx (ut (.str x) (.ref v) (.int 0)))) fl (.lst ((S.map fun a=>V.ref a.1)++[.ref q])) y=Ha y:=fun y h1 h2=>by rw[ef h2,ef h1]
   have fr:upd (upd Ha q (.ins CF fx (ut (.str x) (.ref v) (.int 0)))) fl (.lst ((S.map fun a=>V.ref a.1)++[.ref q])) q=some (.ins CF fx (ut (.str x) (.ref v) (.int 0))):=by rw[ef (Ne.symm em),d0]
   have gd:upd (upd Ha q (.ins CF fx (ut (.str x) (.ref v) (.int 0)))) fl (.lst ((S.map fun a=>V.ref a.1)++[.ref q])) fl=some (.lst ((S++[(q,v)]).map fun a=>V.ref a.1)):=by rw[d0,ay];rfl
   have gb:eB r (upd (upd Ha q (.ins CF fx (ut (.str x) (.ref v) (.int 0)))) fl (.lst ((S.map fun a=>V.ref a.1)++[.ref q]))):=(Sa.se.gh.upd ct).upd Sa.fk.offl;generalize upd (upd Ha q (.ins CF fx (ut (.str x) (.ref v) (.int 0)))) fl (.lst ((S.map fun a=>V.ref a.1)++[.ref q]))=Hb at *;have al:∀{y C dy fs},L y=some (.ins C dy fs)→y≠q∧y≠fl:=fun {y C dy fs} h=>⟨er h I,fC h B.l fun z=>nomatch z⟩;have kb:∀{y C dy fs},L y=some (.ins C dy fs)→Hb y=some (.ins C dy fs):=fun {y C dy fs} h=>by rw[b8 y (al h).1 (al h).2];exact sm _ _ h
   have a9:q∉R:=fun z=>by obtain⟨u,o⟩:=a2.liv q z;rw[I]at o;cases o
   have i1:gj CL r Hb N ch c Y R:=Sa.led.grow (eB.refl _) Sa.led.off fun y hy=>b8 y (fun z=>a9 (z▸hy)) fun z=>j.sep.1 (z▸hy);have ev:lN CT r Hb v U:=by
    obtain⟨y1,y2,y3,y4⟩:=a6;exact⟨y1,y2,kb y3,y4⟩
   have e9:iY CF CT r Hb c fl (S++[(q,v)]) (F8++[⟨x,U,none⟩]):=by
    refine⟨gd,Paired.snoc (Paired.Kg B.p (by rintro _ _ ⟨⟨z1,z2⟩,z3,z4,z5,z6⟩;exact⟨⟨z1,kb z2⟩,z3,z4,kb z5,z6⟩)) ⟨⟨fx,fr⟩,ev⟩,B.offl,fun a D=>?_,?_,?_⟩
    ·rcases aB.mp D with z | z
     ·exact B.off a z
     ·rw[ai.mp z];exact⟨ct,hc⟩
    ·rw[ay,bU];refine⟨B.nd1,by simp,fun a D y hy e=>?_⟩;rw[show y=q by simpa using hy]at e;obtain⟨a',hj,e'⟩:=av.mp D;obtain⟨t,ht⟩:=az.mp hj;obtain⟨fk,_,⟨z1,z2⟩,_⟩:=Paired.KA B.p ht;rw[e',e,I]at z2;cases z2
    ·rw[ay,bU];refine⟨B.nd2,by simp,fun a D y hy e=>?_⟩;rw[show y=v by simpa using hy]at e;exact d9 (e▸D)
   have Sb:SS CB CC CL CS CF CT r Hb se ch N fl c Y R (S++[(q,v)]) (F8++[⟨x,U,none⟩]):=⟨j.se.grow (eB.refl _) gb,i1,j.ok,e9,j.sep.1,fun a D=>by
    rcases aB.mp D with z | z
    ·exact j.sep.2 a z
    ·rw[ai.mp z];exact⟨a9,bm⟩⟩
   have f8:iN L R Hb R:=fun y u hy fy ny=>by
    have n1:y≠q:=er hy I;have n2:y≠fl:=fun z=>by rw[z,B.l]at hy;cases hy;exact fy
    exact⟨by rw[b8 y n1 n2];exact sm _ _ hy,ny⟩
   have a1:=cd.keep f8;have cs:=gb.ins a4;have kd:j9 c ⟨x,U,none⟩:=⟨hx,b5,fun k hk=>nomatch hk⟩;have ek:F8.length<c.n+1:=by
    have:=d.depth;rw[cm]at this
    lia
   have fo:=c.Li ⟨x,U,none⟩ (c.n+1) F8 ek;obtain⟨is,jn,f7⟩:=a1.fix;have ad:∀{G':Hp},y9 Hb R r G'→G' PP=none:=fun {G'} ox=>ox PP is jn f7 a1.2.1 b2;refine⟨_,rfl,se,ag,_,rfl,cs,(by kernel_rfl),r,se,ch,N,fl,c,Y,R,S++[(q,v)],F8,⟨x,U,none⟩,rfl,Sb,d,kd,ey,fun G' H' L' O' A' F' s' d' b3 b4 b6 S' eb ea c6 h7 hv j2 ko=>?_,fun G' H' L' O' A' F' e' b3 b4 b6 S' ej dv=>?_⟩
   ·have b7:=a1.keep b4;refine⟨c.mv (c.n+1) F'+1,by lia,G',L',O',A',F',a0.trans b3,S',b7,ad b6,.inr ⟨s',d',rfl,rfl,eb,ea,c6,h7,hv,j2⟩⟩
   ·have b7:=a1.keep b4;exact⟨0,Nat.succ_pos _,G',L',O',A',F',a0.trans b3,S',b7,ad b6,.inl ⟨rfl,rfl,e',ej,dv⟩⟩
end
end FB
namespace FB
open PySem L2 PyProof.Rows
variable {m:Nat}
def uA (Vs:List Int):List Str→List (List (Option Int))
 |[]=>[[]]
 |_::ps=>(none::Vs.map some).flatMap fun o=>(uA Vs ps).map fun r=>o::r
theorem qU (Vs:List Int):∀ps:List Str,(uA Vs ps).length≤(Vs.length+1)^ps.length
 |[]=>aq _
 |_::ps=>by
  have ih:=qU Vs ps;have h:=nT (f:=fun o:Option Int=>(uA Vs ps).map fun r=>o::r) (n:=(Vs.length+1)^ps.length) (l:=none::Vs.map some) fun o _=>by rw[ab];exact ih
  rw[aA,ab]at h;rw[aA,cS,Nat.mul_comm];exact h
def eg.Mm (c:eg)(m:Nat)(x:Str):Option Int:=((c.listed m).find? fun k=>decide (k.1=x)).map (·.2)
def eg.code (c:eg)(Ps:List Str)(m:Nat):List (Option Int):=Ps.map (c.Mm m)
theorem qz {c:eg}(h1:c.K1 m){k:Pk}(a:c.has m k):c.Mm m k.1=some k.2:=by
 unfold eg.Mm;cases h:(c.listed m).find? fun j=>decide (j.1=k.1) with
 |none=>
  have:=dP.mp h k (eg.KI.mpr a);simp at this
 |some j=>
  have b:j.1=k.1:=by simpa using List.find?_some h
  have d:=eg.KI.mp (ca h);rw[h1 j k d a b];rfl
theorem oX {c:eg}{x:Str}{v:Int}(h:c.Mm m x=some v):c.has m (x,v):=by
 unfold eg.Mm at h;obtain⟨j,h1,h2⟩:=aw.mp h;have b:j.1=x:=by simpa using List.find?_some h1
 have a:=eg.KI.mp (ca h1);have:j=(x,v):=Prod.ext b h2;rw[←this];exact a
theorem xf {c:eg}{Vs:List Int}(hv:∀k∈c.ks,k.2∈Vs)(m:Nat):∀Ps:List Str,c.code Ps m∈uA Vs Ps
 |[]=>ai.mpr rfl
 |x::ps=>by
  refine List.mem_flatMap.mpr ⟨c.Mm m x,?_,av.mpr ⟨c.code ps m,xf hv m ps,rfl⟩⟩;cases h:c.Mm m x with
  |none=>exact bB
  |some v=>exact bi _ (bh (hv (x,v) (oX h).1))
theorem Bw {c:eg}{Ps:List Str}(hp:∀k∈c.ks,k.1∈Ps){m':Nat}(e:m<2^c.n)(b:m'<2^c.n)(h1:c.K1 m)(h2:c.K1 m')(h:c.code Ps m=c.code Ps m'):m=m':=by
 have key:∀x∈Ps,c.Mm m x=c.Mm m' x:=fun x j=>by
  obtain⟨i,hi⟩:=az.mp j;have d:(c.code Ps m)[i]?=some (c.Mm m x):=by unfold eg.code;rw[ae,hi];rfl
  have g:(c.code Ps m')[i]?=some (c.Mm m' x):=by unfold eg.code;rw[ae,hi];rfl
  rw[h,g]at d;exact(Option.some.inj d).symm
 refine eg.ext e b fun k=>⟨fun a=>?_,fun a=>?_⟩
 ·have:=qz h1 a;rw[key k.1 (hp k a.1)]at this;exact oX this
 ·have:=qz h2 a;rw[←key k.1 (hp k a.1)]at this;exact oX this
theorem yK {c:eg}{L:iu}{Ps:List Str}{Vs:List Int}(d:gX c L)(hp:∀k∈c.ks,k.1∈Ps)(l:∀k∈c.ks,k.2∈Vs):L.length≤(Vs.length+1)^Ps.length:=by
 have h1:(L.map fun e=>c.code Ps e.1).Nodup:=by
  refine cC.mpr ?_;have h2:L.Pairwise fun a b=>a.1≠b.1:=cC.mp d.nd;exact h2.imp_of_mem fun h j g z=>g (Bw hp (d.lt _ h) (d.lt _ j) (d.one _ h) (d.one _ j) z)
 have i:(L.map fun e=>c.code Ps e.1).length≤(uA Vs Ps).length:=kN h1 fun r m=>by
  obtain⟨e,_,rfl⟩:=av.mp m;exact xf l e.1 Ps
 rw[ab]at i;exact bw i (qU Vs Ps)
end FB
namespace FB
open PySem L2 PyProof.Rows
seal nX PS PE PT PA
structure wn (K:W.Frag)(mg:Str→Option Value):Prop where
 len:mg "len" = none
 range:mg "range" = none
 list:mg "list" = none
 tuple:mg "tuple" = none
 str:mg "str" = none
 int:mg "int" = none
 bool:mg "bool" = none
 isin:mg "isinstance" = none
 sorted:mg "sorted" = none
 rev:mg "reversed" = none
inductive JG (K:W.Frag)(vs:List V)(H:Hp)(Q:VK)(E:XK):Prop
 |mk (a:Addr)(ns:List Int)(k:Int)(_:vs=[.ref a,.int k])(_:fb K H a (ns.map V.int))(_:0≤k)(_:∀z,Q (.int z) H):JG K vs H Q E
def GA (K:W.Frag):Sp:=JG K
def wF:List Int:=[9,10,-10,100,0,-1,10^30]
inductive Hz (vs:List V)(H:Hp)(Q:VK)(E:XK):Prop
 |mk (c:Int)(_:vs=[.int c])(_:∀z H',eF H H'→z∈wF→Q (.int z) H'):Hz vs H Q E
def zB:Sp:=Hz
inductive DW (vs:List V)(H:Hp)(Q:VK)(E:XK):Prop
 |mk (c:Int)(_:vs=[.int c])(_:∀q (n:Nd) H',eF H H'→H q=none→H' q=some (.tup [.str n.1,.int n.2.1,.int n.2.2])→fT n.1→Q (.ref q) H'):DW vs H Q E
def u6:Sp:=DW
inductive xz (K:W.Frag)(vs:List V)(H:Hp)(Q:VK)(E:XK):Prop
 |mk (v:V)(n:Nd)(z:Int)(_:vs=[v,.int z])(_:fR H v n)(_:Q (.bl (decide (n.2.1≤z)&&decide (z≤n.2.2))) H):xz K vs H Q E
def mz (K:W.Frag):Sp:=xz K
section
variable {P:Program}{w:World}{K:W.Frag}{mg:Str→Option Value}{base:Heap}{f:Addr}{fd:FuncData}
theorem IX:eM ["_law_script","_law_k"] ["_law_script","_law_k"] (eE IZ):=jc
theorem He (F:iQ K "_law_at" "_law_at" IZ f fd)(T:wn K mg):eZ P w K mg base fh 1 f fd ["_law_script","_law_k"] (GA K):=by
 refine F.ok IX (fun vs H Q E h=>?_) (fun g A b s H vs Q E l h=>?_)
 ·obtain⟨a,d,k,rfl,_⟩:=h;rfl
 obtain⟨a,d,k,rfl,e,i,q⟩:=h;refine⟨_,ee (fz (fi wK (pv 1) (eR fA rfl T.len bu (dZ (pv 0) el)) (fF _)) (eo (eL (eK fg (pv 0) (pv 1) (fun _ _=>rfl)))) eO) (eo (eL et)),?_⟩;refine⟨_,rfl,_,rfl,a,_,rfl,.inl e,_,_,rfl,rfl,_,rfl,?_⟩;refine kJ (fun c=>?_) (fun c=>?_)
 ·have c':k<(((d.map V.int).length:Nat):Int):=aR c;rw[ab]at c';obtain⟨z,j,_⟩:=kA i c';exact⟨_,rfl,_,rfl,a,_,_,_,rfl,rfl,e,j,q z⟩
 ·exact q 0
theorem GE:eM ["_law_cell"] ["_law_cell"] (eE EQ):=jc
theorem E6 (F:iQ K "_law_version_by" "_law_version_by" EQ f fd):eZ P w K mg base fh 1 f fd ["_law_cell"] zB:=by
 refine F.ok GE (fun vs H Q E h=>?_) (fun e A d s H vs Q E g h=>?_)
 ·obtain⟨c,rfl,_⟩:=h;rfl
 obtain⟨c,rfl,q⟩:=h;refine⟨_,ee (fz (fi kE (fm kr (pv 0) et) et (fF _)) (eo (eL (eK fg (gl (dZ et (dZ et (dZ (iX jU et) (dZ et el))))) (fm kr (fm jL (pv 0) et) et) (fun _ _=>rfl)))) eO) (eo (eL (eK fg (gl (dZ et (dZ (iX jU et) (dZ (fm vA et et) el)))) (fm kr (pv 0) et) (fun _ _=>rfl)))),?_⟩;refine⟨_,rfl,_,_,rfl,rfl,(by show(0:Int)<7;decide),rfl,_,rfl,?_⟩;refine kJ (fun _=>?_) (fun _=>?_)
 ·refine⟨_,rfl,(by show 4≤sizeLine;decide),fun p hp=>?_⟩;obtain⟨z,b,a⟩:=kA (ns:=[9,10,-10,100]) (i:=c / 7 % 4) (dw _ (by decide)) (cQ _ (by decide));exact⟨_,rfl,_,_,rfl,rfl,⟨by decide,by decide⟩,_,_,rfl,rfl,(by show(0:Int)<4;decide),p,_,_,_,rfl,rfl,fb.of d0,b,q z _ (eA hp _) (aQ [0,-1,10^30] a)⟩
 ·refine⟨_,rfl,_,_,rfl,rfl,⟨by decide,by decide,by decide⟩,(by show 3≤sizeLine;decide),fun p hp=>?_⟩;obtain⟨z,b,a⟩:=kA (ns:=[0,-1,10^(30:Int).toNat]) (i:=c % 3) (dw _ (by decide)) (cQ _ (by decide));exact⟨_,rfl,_,_,rfl,rfl,(by show(0:Int)<3;decide),p,_,_,_,rfl,rfl,fb.of d0,b,q z _ (eA hp _) (aM [9,10,-10,100] a)⟩
theorem Aq:fT "ashenashenashen":=⟨by decide +kernel,by decide +kernel⟩
theorem Ao:fT "as":=⟨by decide +kernel,by decide +kernel⟩
theorem An:fT "":=⟨by decide +kernel,by decide +kernel⟩
theorem Am:fT "ashenashxnashen":=⟨by decide +kernel,by decide +kernel⟩
theorem GZ {xs:List V}(h:xs=[.str "ashenashenashen",.str "as",.str "",.str "ashenashxnashen"]∨xs=[.str "as",.str "ashenashenashen",.str "ashenashxnashen",.str ""]){v:V}(a:v∈xs):∃x,v=.str x∧fT x:=by
 rcases h with rfl | rfl <;> simp only[am,aJ,or_false]at a <;> rcases a with rfl | rfl | rfl | rfl
 ·exact⟨_,rfl,Aq⟩
 ·exact⟨_,rfl,Ao⟩
 ·exact⟨_,rfl,An⟩
 ·exact⟨_,rfl,Am⟩
 ·exact⟨_,rfl,Ao⟩
 ·exact⟨_,rfl,Aq⟩
 ·exact⟨_,rfl,Am⟩
 ·exact⟨_,rfl,An⟩
theorem rP:eM ["_law_cell","_law_part","_law_low","_law_high"] ["_law_cell"] (eE zL):=jc
theorem C8 {g:Addr}{gd:FuncData}(F:iQ K "_law_need_by" "_law_need_by" zL f fd)(G:eZ P w K mg base fh 1 g gd ["_law_cell"] zB)(l:gi K gd ["_law_cell"] [])(I:W.keepIn K (.ref g)=true)(D:mg "_law_version_by" = some (.ref g)):eZ P w K mg base fh 2 f fd ["_law_cell"] u6:=by
 refine F.ok rP (fun vs H Q E h=>?_) (fun o A d s H vs Q E t h=>?_)
 ·obtain⟨c,rfl,_⟩:=h;rfl
 obtain⟨c,rfl,q⟩:=h;refine⟨_,ee (eJ (i:=1) rP.nd rfl (Or.inl rfl) (eK fg (gl (dZ iZ (dZ iZ (dZ iZ (dZ iZ el))))) (fm kr (pv 0) et) (fun _ _=>rfl))) (ee (eJ (i:=2) rP.nd rfl (Or.inl rfl) (fe G t rfl D I l .nil eT (dZ (fm jL (pv 0) et) el))) (ee (eJ (i:=3) rP.nd rfl (Or.inl rfl) (eK fg (gl (dZ et (dZ (iX jU et) (dZ (fm vA et et) (dZ (fm vA et et) (dZ (pv 2) (dZ (iX jU et) el))))))) (fm kr (fm jL (pv 0) et) et) (fun _ _=>rfl))) (eo (eL (gT (dZ (pv 1) (dZ (pv 2) (dZ (pv 3) el)))))))),?_⟩;refine⟨(by show 4≤sizeLine;decide),fun p hp=>?_⟩;obtain⟨v,C,B⟩:=wf (xs:=[.str "ashenashenashen",.str "as",.str "",.str "ashenashxnashen"]) (i:=c % 4) (dw _ (by decide)) (cQ _ (by decide));obtain⟨x,rfl,z⟩:=GZ (.inl rfl) B;refine⟨_,rfl,_,_,rfl,rfl,(by show(0:Int)<4;decide),p,_,_,_,rfl,rfl,fb.of d0,C,?_⟩;have y:=eA hp (.lst [.str "ashenashenashen",.str "as",.str "",.str "ashenashxnashen"]);refine⟨_,rfl,_,_,rfl,rfl,⟨by decide,by decide⟩,_,rfl,fun lo H2 m _=>?_⟩;refine⟨_,rfl,_,_,rfl,rfl,⟨by decide,by decide,by decide⟩,_,_,rfl,rfl,⟨by decide,by decide,by decide⟩,_,rfl,_,rfl,(by show 6≤sizeLine;decide),fun p2 e=>?_⟩;obtain⟨hi,b,_⟩:=kA (ns:=[0,-1,10^(30:Int).toNat,10^(30:Int).toNat,lo,-9]) (i:=c / 12 % 6) (dw _ (by decide)) (cQ _ (by decide));refine⟨_,rfl,_,_,rfl,rfl,⟨by decide,by decide⟩,_,_,rfl,rfl,(by show(0:Int)<6;decide),p2,_,_,_,rfl,rfl,fb.of d0,b,?_⟩;have j:=(y.trans m).trans (eA e (.lst [.int 0,.int (-1),.int (10^(30:Int).toNat),.int (10^(30:Int).toNat),.int lo,.int (-9)]));refine⟨_,rfl,_,rfl,_,rfl,(by show 3≤sizeLine;decide),fun r a=>?_⟩;exact q r (x,lo,hi) _ (j.trans (eA a _)) (j.free a) d0 z
theorem IT:eM ["_law_need","_law_version"] ["_law_need","_law_version"] (eE si):=jc
theorem ym (F:iQ K "_law_meets" "_law_meets" si f fd):eZ P w K mg base fh 1 f fd ["_law_need","_law_version"] (mz K):=by
 refine F.ok IT (fun vs H Q E h=>?_) (fun e A a s H vs Q E g h=>?_)
 ·obtain⟨v,n,z,rfl,_⟩:=h;rfl
 obtain⟨v,n,z,rfl,⟨b,rfl,d⟩,q⟩:=h;refine⟨_,eo (eL (l4 (jJ wL (eK eP (pv 0) et (fun _ _=>rfl)) (pv 1) (fF _)) (nG (jJ wL (pv 1) (eK eP (pv 0) et (fun _ _=>rfl)) (fF _))))),?_⟩;refine⟨_,rfl,b,_,_,_,rfl,rfl,gy.of d,rfl,_,rfl,_,_,rfl,rfl,_,rfl,?_⟩;refine kJ (fun c=>?_) (fun c=>?_)
 ·refine⟨_,rfl,_,rfl,b,_,_,_,rfl,rfl,gy.of d,rfl,_,_,rfl,rfl,?_⟩;rw[c,cA]at q;exact q
 ·rw[bV.mpr c,bZ]at q;exact q
end
end FB
namespace L2
open PySem PyProof.Rows
theorem iC {X:Cx}{x:Str}{n:String}{pos:Pos}(a:Gl X x)(b:X.mg x=none)(d:bootBuiltins x=some (.type n))(hn:x≠"__name__":=by decide)(hd:(x == ("__debug__" : Str))=false:=by decide):PE X (.Name x pos) (tC (.ty n)):=
 C1 (v:=.ty n) a b d rfl hn hd
end L2
namespace FB
open PySem L2 PyProof.Rows
seal nX PS PE PT PA
def JQ:PyData→String
 |.none=>"NoneType"
 |.bool _=>"bool"
 |.int _=>"int"
 |.str _=>"str"
 |.list _=>"list"
 |.tuple _=>"tuple"
 |.dict _=>"dict"
theorem sB {K:W.Frag}{H:Hp}{v:V}{d:PyData}(h:kK H v d):jw K H v (.type (JQ d)):=by
 cases h with
 |non=>exact .non
 |bl b=>exact .bl b
 |int i=>exact .int i
 |str x=>exact .str x
 |lst e _=>exact .lst e
 |tup e _=>exact .tup e
theorem Ft (K:W.Frag):W.kitOne K (.type "NoneType") (.type "list")=some false:=by kernel_rfl
theorem Fw (K:W.Frag):W.kitOne K (.type "int") (.type "list")=some false:=by kernel_rfl
theorem Fq (K:W.Frag):W.kitOne K (.type "str") (.type "list")=some false:=by kernel_rfl
theorem l9 (K:W.Frag):W.kitOne K (.type "list") (.type "list")=some true:=by kernel_rfl
theorem vU (K:W.Frag):W.kitOne K (.type "tuple") (.type "list")=some false:=by kernel_rfl
theorem Fr (K:W.Frag):W.kitOne K (.type "NoneType") (.type "tuple")=some false:=by kernel_rfl
theorem Fu (K:W.Frag):W.kitOne K (.type "int") (.type "tuple")=some false:=by kernel_rfl
theorem Fp (K:W.Frag):W.kitOne K (.type "str") (.type "tuple")=some false:=by kernel_rfl
theorem A0 (K:W.Frag):W.kitOne K (.type "list") (.type "tuple")=some false:=by kernel_rfl
theorem ll (K:W.Frag):W.kitOne K (.type "tuple") (.type "tuple")=some true:=by kernel_rfl
theorem Fs (K:W.Frag):W.kitOne K (.type "NoneType") (.type "str")=some false:=by kernel_rfl
theorem Fv (K:W.Frag):W.kitOne K (.type "int") (.type "str")=some false:=by kernel_rfl
theorem sX (K:W.Frag):W.kitOne K (.type "str") (.type "str")=some true:=by kernel_rfl
theorem A1 (K:W.Frag):W.kitOne K (.type "int") (.type "int")=some true:=by kernel_rfl
theorem A9 (K:W.Frag):W.kitOne K (.type "int") (.type "bool")=some false:=by kernel_rfl
theorem Fm (K:W.Frag):W.kitAny K (.type "NoneType") [.type "list",.type "tuple"]=some false:=by unfold W.kitAny;rw[Ft];unfold W.kitAny;rw[Fr];rfl
theorem Fo (K:W.Frag):W.kitAny K (.type "int") [.type "list",.type "tuple"]=some false:=by unfold W.kitAny;rw[Fw];unfold W.kitAny;rw[Fu];rfl
theorem Fl (K:W.Frag):W.kitAny K (.type "str") [.type "list",.type "tuple"]=some false:=by unfold W.kitAny;rw[Fq];unfold W.kitAny;rw[Fp];rfl
theorem Fn (K:W.Frag):W.kitAny K (.type "list") [.type "list",.type "tuple"]=some true:=by unfold W.kitAny;rw[l9]
theorem Fj (K:W.Frag):W.kitAny K (.type "tuple") [.type "list",.type "tuple"]=some true:=by unfold W.kitAny;rw[vU];unfold W.kitAny;rw[ll]
theorem tz (ds:List PyData):PyData.eqv (.list ds) (.list [])=ds.isEmpty:=by
 cases ds <;> simp[PyData.eqv,PyData.eqvAll]
inductive BE (vs:List V)(H:Hp)(Q:VK)(E:XK):Prop
 |mk (v v':V)(d:PyData)(_:vs=[v,v'])(_:kK H v d)(_:kK H v' d)(_:iW 10 d=true)(_:nY d≤10000000)(_:∀H',eF H H'→Q (.bl true) H'):BE vs H Q E
def rA:Sp:=BE
theorem nO {α:Type}(xs:List α)(x:α):(xs++[x])[(xs++[x]).length-1]?=some x:=by simp
theorem mN {n:Nat}(h:n≤10000001):n≤sizeLine:=bw h (by decide)
section
variable {P:Program}{w:World}{K:W.Frag}{mg:Str→Option Value}{base:Heap}{f:Addr}{fd:FuncData}
theorem zF:eM ["_law_handed","_law_own","_law_left","_law_right","_law_one","_law_two"] ["_law_handed","_law_own"] (eE vg):=jc
inductive HF (H:Hp)(l r:Addr)(v v':V)(m:Nat)(σ:L2.St)(H2:Hp):Prop
 |mk (ds xs ys o1 o2:_)(_:σ=[some v,some v',some (.ref l),some (.ref r),o1,o2])(_:H2 l=some (.lst xs))(_:H2 r=some (.lst ys))(_:iF H xs ds)(_:iF H ys ds)(_:(∀d∈ds,iW 10 d=true))(_:jf ds=m):HF H l r v v' m σ H2
structure Jr (H:Hp)(l r:Addr)(v v':V)(m:Nat)(σ:L2.St)(H2:Hp):Prop where
 ex:HF H l r v v' m σ H2
 sm:eF H H2
 le:m≤10000000
theorem Aw (F:iQ K "_law_stays_so" "_law_stays_so" vg f fd)(T:wn K mg):eZ P w K mg base fh 1 f fd ["_law_handed","_law_own"] rA:=by
 refine F.ok zF (fun vs H Q E h=>?_) (fun b1 A ba s H vs Q E hr h=>?_)
 ·obtain⟨v,v',d,rfl,_⟩:=h;rfl
 obtain⟨v,v',d,rfl,hv,a9,a8,hw,q⟩:=h;refine⟨_,(ee (eJ (i:=2) zF.nd rfl (Or.inl rfl) (gl (dZ (pv 0) el))) (ee (eJ (i:=3) zF.nd rfl (Or.inl rfl) (gl (dZ (pv 1) el))) (ee (jy PassesOwn.never (fi (pS hr.units) (pv 3) (gl el) (fF _)) (ee (eJ (i:=4) zF.nd rfl (Or.inl rfl) (sH PySem.F.plainAttrs_list PySem.F.slot_list_pop PySem.F.type_list_pop sR (pv 2))) (ee (eJ (i:=5) zF.nd rfl (Or.inl rfl) (sH PySem.F.plainAttrs_list PySem.F.slot_list_pop PySem.F.type_list_pop sR (pv 3))) (eo (fz (gu (eR tH rfl T.isin be (dZ (pv 5) (dZ (gT (dZ (iC rfl T.list cN) (dZ (iC rfl T.tuple dX) el))) el)))) (ee (fz (fi kZ (eR fj rfl T.isin be (dZ (pv 4) (dZ (iC rfl T.list cN) el))) (eR fj rfl T.isin be (dZ (pv 5) (dZ (iC rfl T.list cN) el))) (fF _)) (eo (eL gW)) eO) (ee (fz (PW.pt (iS (fi kZ (eR fj rfl T.isin be (dZ (pv 4) (dZ (iC rfl T.tuple dX) el))) (eR fj rfl T.isin be (dZ (pv 5) (dZ (iC rfl T.tuple dX) el))) (fF _)) (iz (fi kZ (eR fA rfl T.len bu (dZ (pv 4) el)) (eR fA rfl T.len bu (dZ (pv 5) el)) (fF _))))) (eo (eL gW)) eO) (ee (gf (jp PySem.F.plainAttrs_list PySem.F.slot_list_extend PySem.F.type_list_extend nK (pv 2) (dZ (iL iU rfl T.list cN (dZ (pv 4) el)) el))) (eo (gf (jp PySem.F.plainAttrs_list PySem.F.slot_list_extend PySem.F.type_list_extend nK (pv 3) (dZ (iL iU rfl T.list cN (dZ (pv 5) el)) el))))))) (eo (fz (gu (eR fj rfl T.isin be (dZ (pv 5) (dZ (iC rfl T.str boot_str) el)))) (eo (fz (PW.pt (iS (gE (gu (eR fj rfl T.isin be (dZ (pv 4) (dZ (iC rfl T.str boot_str) el))))) (iz (fi kZ (pv 4) (pv 5) (fF _))))) (eo (eL gW)) eO)) (eo (fz (gZ (pQ (pv 5))) (eo (fz (gZ (mJ (pv 4))) (eo (eL gW)) eO)) (eo (fz (PW.pt (iS (gE (gu (eR fj rfl T.isin be (dZ (pv 4) (dZ (iC rfl T.int boot_int) el))))) (iS (gu (eR fj rfl T.isin be (dZ (pv 4) (dZ (iC rfl T.bool boot_bool) el)))) (iz (fi kZ (pv 4) (pv 5) (fF _)))))) (eo (eL gW)) eO))))))))))) (eo (eL gW))))),?_⟩;refine⟨_,rfl,(by show 1≤sizeLine;decide),fun l hl=>⟨_,rfl,(by show 1≤sizeLine;decide),fun r aa=>?_⟩⟩;have G:l≠r:=er (o:=.lst [v]) d0 aa;have s1:eF H (upd H l (.lst [v])):=eA hl _;have ah:H r=none:=s1.free aa;refine⟨Jr H l r v v',⟨nY d,⟨[d],[v],[v'],none,none,rfl,by rw[ef G];exact d0,d0,.cons hv .nil,.cons a9 .nil,by simpa using a8,tQ d⟩,s1.trans (eA aa _),hw⟩,?_⟩;rintro m σ H2 ⟨⟨ds,xs,ys,o1,o2,rfl,ag,a3,rx,ry,N,hm⟩,sm,b5⟩;refine⟨_,rfl,(by show 0≤sizeLine;decide),fun e he=>?_⟩;have s3:eF H2 (upd H2 e (.lst [])):=eA he _;have b7:e≠l:=Ne.symm (er ag he);have bf:e≠r:=Ne.symm (er a3 he);have bm:iW 11 (.list ds)=true:=by
  rw[iW,bc];exact N
 refine⟨.list ds,.list [],.lst (s3 _ _ a3) (iF.same (sm.trans s3) ry),.lst d0 .nil,i5 bm (by decide),rfl,_,rfl,?_⟩;rw[tz];by_cases hnil:ds=[]
 ·subst hnil;exact ff (q _ (sm.trans s3))
 obtain⟨ds',c,rfl⟩:∃ds' c,ds=ds'++[c]:=⟨ds.dropLast,ds.getLast hnil,(List.dropLast_concat_getLast hnil).symm⟩;have a5:(ds'++[c]).isEmpty=false:=by simp
 rw[a5];refine gL ?_;obtain⟨g,x,rfl,Y,M⟩:=rx.snoc_inv;obtain⟨p,y,rfl,X,L⟩:=ry.snoc_inv;have bv:jf ds'+nY c=m:=by rw[←hm,iJ,tQ]
 have b4:=Y.length;have b2:=X.length;have bx:=jH ds';have bq:=wA c;refine⟨fun σ' H'=>∃m',m'<m∧Jr H l r v v' m' σ' H',fun _ _ z=>z,?_⟩;refine⟨_,rfl,.inl ⟨rfl,_,fb.of (s3 _ _ ag)⟩,l,_,x,rfl,rfl,s3 _ _ ag,nO _ _,?_⟩;have s4:eF H (upd (upd H2 e (.lst [])) l (.lst (g++[x]).dropLast)):=eF.upd (sm.trans s3) hl;have a4:upd (upd H2 e (.lst [])) l (.lst (g++[x]).dropLast) r=some (.lst (p++[y])):=by
  rw[ef (Ne.symm G),ef (Ne.symm bf)];exact a3
 refine⟨_,rfl,.inl ⟨rfl,_,fb.of a4⟩,r,_,y,rfl,rfl,a4,nO _ _,?_⟩;rw[df,df];generalize an:upd (upd (upd H2 e (.lst [])) l (.lst g)) r (.lst p)=H5;have s5:eF H H5:=by
  rw[←an];rw[df]at s4;exact eF.upd s4 ah
 have a1:H5 l=some (.lst g):=by rw[←an,ef G];exact d0
 have as:H5 r=some (.lst p):=by rw[←an];exact d0
 have b3:=sB (K:=K) (M.same s5);have b6:=sB (K:=K) (L.same s5);have B:iW 10 c=true:=N c (by simp);have ap:∀{H6:Hp},eF H5 H6→∃m',m'<m∧Jr H l r v v' m' [some v,some v',some (.ref l),some (.ref r),some x,some y] H6:=fun {H6} D=>
  ⟨jf ds',by lia,⟨ds',g,p,_,_,rfl,D _ _ a1,D _ _ as,Y,X,fun d U=>N d (by simp[U]),rfl⟩,s5.trans D,by lia⟩
 refine⟨_,rfl,(by show 2≤sizeLine;decide),fun tp a7=>?_⟩;have D:eF H5 (upd H5 tp (.tup [.ty "list",.ty "tuple"])):=eA a7 _;generalize bd:upd H5 tp (.tup [.ty "list",.ty "tuple"])=H6 at D;have S:H6 tp=some (.tup (["list","tuple"].map V.ty)):=by rw[←bd];exact d0
 have I:=M.same (s5.trans D);have J:=L.same (s5.trans D);have j:=sB (K:=K) I;have a:=sB (K:=K) J;cases hc:c with
 |bool b=>rw[hc]at B;simp[iW]at B
 |dict kvs=>rw[hc]at B;simp[iW]at B
 |none=>
  rw[hc]at j a I J;refine⟨y,tp,["list","tuple"],_,_,rfl,S,a,(fun C z=>nomatch z),Fm K,_,rfl,ff ?_⟩;refine⟨_,rfl,y,_,_,_,rfl,a,Fs K,_,rfl,ff ?_⟩;cases J;cases I;refine⟨_,rfl,_,rfl,gL ?_⟩;refine⟨_,rfl,_,rfl,ff ?_⟩;exact ap D
 |int i=>
  rw[hc]at j a I J;refine⟨y,tp,["list","tuple"],_,_,rfl,S,a,(fun C z=>nomatch z),Fo K,_,rfl,ff ?_⟩;refine⟨_,rfl,y,_,_,_,rfl,a,Fv K,_,rfl,ff ?_⟩;cases J;cases I;refine⟨_,rfl,_,rfl,ff ?_⟩;refine⟨_,rfl,_,_,_,_,rfl,j,A1 K,_,rfl,ff ?_⟩;refine⟨_,rfl,_,_,_,_,rfl,j,A9 K,_,rfl,ff ?_⟩;refine⟨_,rfl,_,rfl,rfl,_,rfl,om rfl ?_⟩;exact ap D
 |str z=>
  rw[hc]at j a I J;refine⟨y,tp,["list","tuple"],_,_,rfl,S,a,(fun C z=>nomatch z),Fl K,_,rfl,ff ?_⟩;refine⟨_,rfl,y,_,_,_,rfl,a,sX K,_,rfl,gL ?_⟩;cases J;cases I;refine⟨_,rfl,_,_,_,_,rfl,j,sX K,_,rfl,ff ?_⟩;refine⟨_,rfl,_,rfl,rfl,_,rfl,om rfl ?_⟩;exact ap D
 |list cs=>
  rw[hc]at j a M L;have a6:jf cs+1=nY c:=by rw[hc];simp[nY]
  have a0:∀d∈cs,iW 10 d=true:=by
   rw[hc,iW,bc]at B;exact fun d U=>iT 9 d 10 (by decide) (B d U)
  have bl:=jH cs;cases M with
  |@lst xa x1 _ hx q1=>
  cases L with
  |@lst ya y1 _ hy q2=>
  have e1:=q1.length;have e2:=q2.length;refine⟨_,tp,["list","tuple"],_,_,rfl,S,a,(fun C z=>nomatch z),Fn K,_,rfl,gL ?_⟩;refine⟨_,rfl,_,_,_,_,rfl,j,l9 K,_,rfl,_,_,_,_,rfl,a,l9 K,rfl,_,rfl,om rfl ?_⟩;have t:eF H H6:=s5.trans D;refine⟨_,rfl,_,_,_,_,rfl,j,A0 K,_,rfl,_,_,_,_,rfl,a,A0 K,rfl,_,rfl,om rfl ?_⟩;refine⟨_,rfl,xa,_,rfl,.inl (fb.of (t _ _ hx)),_,rfl,ya,_,rfl,.inl (fb.of (t _ _ hy)),rfl,_,rfl,om (by rw[e1,e2]) ?_⟩;have O:=D _ _ a1;have a2:=D _ _ as;refine⟨_,rfl,.inl ⟨rfl,_,fb.of O⟩,_,rfl,xa,_,rfl,.inl (fb.of (t _ _ hx)),fun Z al=>?_⟩;have s7:eF H6 (upd H6 Z (.lst x1)):=eA al _;refine⟨l,Z,g,x1,rfl,rfl,s7 _ _ O,d0,mN (by lia),?_⟩;have s8:eF H (upd (upd H6 Z (.lst x1)) l (.lst (g++x1))):=eF.upd (t.trans s7) hl;have R:upd (upd H6 Z (.lst x1)) l (.lst (g++x1)) r=some (.lst p):=by
   rw[ef (Ne.symm G)];exact s7 _ _ a2
  refine⟨_,rfl,.inl ⟨rfl,_,fb.of R⟩,_,rfl,ya,_,rfl,.inl (fb.of (s8 _ _ hy)),fun l2 ad=>?_⟩;have s9:=eA ad (.lst y1);refine⟨r,l2,p,y1,rfl,rfl,s9 _ _ R,d0,mN (by lia),?_⟩;refine⟨jf (ds'++cs),by rw[iJ];lia,⟨ds'++cs,g++x1,p++y1,_,_,rfl,?_,d0,Y.append q1,X.append q2,?_,rfl⟩,eF.upd (s8.trans s9) ah,by rw[iJ];lia⟩
  ·rw[ef G];exact s9 _ _ d0
  ·intro d U;rcases aB.mp U with z | z
   ·exact N d (by simp[z])
   ·exact a0 d z
 |tuple cs=>
  rw[hc]at j a M L;have a6:jf cs+1=nY c:=by rw[hc];simp[nY]
  have a0:∀d∈cs,iW 10 d=true:=by
   rw[hc,iW,bc]at B;exact fun d U=>iT 9 d 10 (by decide) (B d U)
  have bl:=jH cs;cases M with
  |@tup xa x1 _ hx q1=>
  cases L with
  |@tup ya y1 _ hy q2=>
  have e1:=q1.length;have e2:=q2.length;refine⟨_,tp,["list","tuple"],_,_,rfl,S,a,(fun C z=>nomatch z),Fj K,_,rfl,gL ?_⟩;refine⟨_,rfl,_,_,_,_,rfl,j,vU K,_,rfl,_,_,_,_,rfl,a,vU K,rfl,_,rfl,om rfl ?_⟩;have t:eF H H6:=s5.trans D;refine⟨_,rfl,_,_,_,_,rfl,j,ll K,_,rfl,_,_,_,_,rfl,a,ll K,rfl,_,rfl,om rfl ?_⟩;refine⟨_,rfl,xa,_,rfl,.inr (gy.of (t _ _ hx)),_,rfl,ya,_,rfl,.inr (gy.of (t _ _ hy)),rfl,_,rfl,om (by rw[e1,e2]) ?_⟩;have O:=D _ _ a1;have a2:=D _ _ as;refine⟨_,rfl,.inl ⟨rfl,_,fb.of O⟩,_,rfl,xa,_,rfl,.inr (gy.of (t _ _ hx)),fun Z al=>?_⟩;have s7:eF H6 (upd H6 Z (.lst x1)):=eA al _;refine⟨l,Z,g,x1,rfl,rfl,s7 _ _ O,d0,mN (by lia),?_⟩;have s8:eF H (upd (upd H6 Z (.lst x1)) l (.lst (g++x1))):=eF.upd (t.trans s7) hl;have R:upd (upd H6 Z (.lst x1)) l (.lst (g++x1)) r=some (.lst p):=by
   rw[ef (Ne.symm G)];exact s7 _ _ a2
  refine⟨_,rfl,.inl ⟨rfl,_,fb.of R⟩,_,rfl,ya,_,rfl,.inr (gy.of (s8 _ _ hy)),fun l2 ad=>?_⟩;have s9:=eA ad (.lst y1);refine⟨r,l2,p,y1,rfl,rfl,s9 _ _ R,d0,mN (by lia),?_⟩;refine⟨jf (ds'++cs),by rw[iJ];lia,⟨ds'++cs,g++x1,p++y1,_,_,rfl,?_,d0,Y.append q1,X.append q2,?_,rfl⟩,eF.upd (s8.trans s9) ah,by rw[iJ];lia⟩
  ·rw[ef G];exact s9 _ _ d0
  ·intro d U;rcases aB.mp U with z | z
   ·exact N d (by simp[z])
   ·exact a0 d z
end
end FB
namespace L2
open PySem PyProof.Rows
def wI (K:W.Frag):List V→Hp→VK→Prop:=fun xs H Q=>∃p ys,xs=[.ref p]∧(fb K H p ys∨gy K H p ys)∧∀l,H l=none→Q (.ref l) (upd H l (.lst ys))
theorem v9 {X:Cx}:jr X (.type "list") (wI X.K):=iU
end L2
namespace FB
open PySem L2 PyProof.Rows
seal nX PS PE PT PA
variable {K:W.Frag}{P:Program}{fd gd gd2 gd3:FuncData}{g g2 g3:Addr}{mg:Str→Option Value}{w:World}
theorem Hj:(["_law_k","_law_script"]:List Str).Nodup:=by decide +kernel
theorem Hn:(["_law_entry"]:List Str).Nodup:=by decide +kernel
inductive BJ (K:W.Frag)(vs:List V)(H:Hp)(Q:VK)(E:XK):Prop
 |mk (a:Addr)(ns:List Int)(_:vs=[.ref a])(_:fb K H a (ns.map V.int))(_:ns.length≤1000)(_:∀p (ms:List Int) H',eF H H'→H' p=some (.lst (ms.map V.int))→ms.length=ns.length→Q (.ref p) H'):BJ K vs H Q E
def rF (K:W.Frag):Sp:=BJ K
inductive D2 (vs:List V)(H:Hp)(Q:VK)(E:XK):Prop
 |mk (a:Addr)(es:List En)(_:vs=[.ref a])(_:iP H a es)(_:es.length≤1000)(_:∀p H',eF H H'→iP H' p es→Q (.ref p) H'):D2 vs H Q E
def u9:Sp:=D2
inductive xq (K:W.Frag)(vs:List V)(H:Hp)(Q:VK)(E:XK):Prop
 |mk (a:Addr)(v:V)(es:List En)(n:Nd)(_:vs=[.ref a,v])(_:iP H a es)(_:fR H v n)(_:es.length<64)(_:∀p (ms:List Int) H',eF H H'→H' p=some (.lst (ms.map V.int))→ms.Perm (iM es n)→ms.Pairwise (·≤·)→∀p',H' p'=none→Q (.ref p') (upd H' p' (.lst (ms.map V.int).reverse))):xq K vs H Q E
def pd (K:W.Frag):Sp:=xq K
section
variable {base:Heap}{f:Addr}
theorem IS:eM ["_law_script"] ["_law_script"] (eE vn):=jc
theorem AC (F:iQ K "_law_mixed" "_law_mixed" vn f fd)(T:wn K mg):eZ P w K mg base fh 1 f fd ["_law_script"] (rF K):=by
 refine F.ok IS (fun vs H Q E h=>?_) (fun B A m s H vs Q E J h=>?_)
 ·obtain⟨a,ns,rfl,_⟩:=h;rfl
 obtain⟨a,ns,rfl,v,I,q⟩:=h;refine⟨_,eo (eL (iH (N':=["_law_k","_law_script"]) (n:=1) (js:=[0]) rfl (iO.one (c:=s.heap.objs.size+1) (y:="_law_script") rfl rfl (by decide +kernel) rfl (by decide +kernel) (by decide +kernel) rfl rfl rfl rfl rfl) (iq (by decide)) (jZ rfl T.range (dZ (eR fA rfl T.len bu (dZ (pv 0) el)) el)) (fun C t H2 fp=>eN (i:=0) Hj rfl (Or.inl rfl)) (fun C t H2 fp=>jI) (fun C t H2 fp=>fm kr (fm sJ (fm l6 (eK (r:=GV K) fg (pv 1) (pv 0) (fun _ _=>rfl)) (fm sJ et (pv 0))) et) et))),?_⟩;have b:(ns.map V.int).length=ns.length:=ab _;refine⟨_,rfl,a,_,rfl,.inl v,_,rfl,by rw[b];lia,by rw[b];lia,?_⟩;refine v7 (fun D i ys H2=>∃d:List Int,ys=d.map V.int∧d.length=i∧H2 D=some (.lst ys)∧eF H H2∧H D=none) (fun D p=>⟨[],rfl,rfl,d0,eA p _,p⟩) (fun D i ys H2 hi ⟨d,e,l,g,j,_⟩=>⟨g,?_⟩) (fun D i ys H2 hi ⟨d,e,l,g,j,o⟩=>?_) (fun D ys H2 ⟨d,e,l,g,j,_⟩=>?_)
 ·rw[e,ab];exact eV (by rw[b]at hi;lia)
 ·have G:((i:Nat):Int)<(ns.length:Int):=by rw[b]at hi;lia
  obtain⟨z,x,_⟩:=kA (ns:=ns) (i:=0+(i:Int)) (by lia) (by lia);unfold jq rj;dsimp only;rw[if_pos rfl];refine⟨_,rfl,_,rfl,a,_,_,_,rfl,rfl,j.seq v,x,_,rfl,_,_,rfl,rfl,.inl ⟨by decide,by decide⟩,_,_,rfl,rfl,_,_,rfl,rfl,.inr ⟨by decide,by decide⟩,_,_,rfl,rfl,(by show(0:Int)<1000003;decide),g,?_⟩;exact⟨d++[_],by rw[e,ay];rfl,by rw[aF,l];rfl,d0,eF.upd j o,o⟩
 ·exact q D d H2 j (e▸g) (by rw[l,bA,b])
theorem IV:eM ["_law_shelf"] ["_law_shelf"] (eE zS):=jc
theorem De (F:iQ K "_law_copy_of" "_law_copy_of" zS f fd)(T:wn K mg):eZ P w K mg base fh 1 f fd ["_law_shelf"] u9:=by
 refine F.ok IV (fun vs H Q E h=>?_) (fun aa A I s H vs Q E hr h=>?_)
 ·obtain⟨a,es,rfl,_⟩:=h;rfl
 obtain⟨a,es,rfl,⟨xs,U,hp⟩,hl,q⟩:=h;refine⟨_,eo (eL (iH (N':=["_law_entry"]) (n:=1) (js:=[]) rfl (iO.closed (by decide +kernel) (by decide +kernel) rfl (by decide +kernel) rfl) (iq (by decide)) (fO (pv 0)) (fun C g H2 fp=>eN (i:=0) Hn rfl (Or.inl rfl)) (fun C g H2 fp=>jI) (fun C g H2 fp=>gT (dZ (eK (r:=zX K) eP (pv 0) et (fun _ _=>rfl)) (dZ (eK (r:=zX K) eP (pv 0) et (fun _ _=>rfl)) (dZ (iL (r:=wI K) v9 rfl T.list cN (dZ (eK (r:=zX K) eP (pv 0) et (fun _ _=>rfl)) el)) el)))))),?_⟩;have Y:xs.length=es.length:=Paired.length hp;refine⟨_,rfl,a,rfl,⟨xs,fb.of U⟩,?_⟩;refine ir (xs:=xs) (fun D i ys H2=>Paired (jX (del H2 [D])) ys (es.take i)∧H2 D=some (.lst ys)∧eF H H2∧H D=none) (fun D O=>⟨by simpa using Paired.nil,d0,eA O _,O⟩)
  (fun D i ys H2 hi ⟨l,b,d,_⟩=>⟨fb.of (d _ _ U),b,?_⟩) (fun D i x ys H2 hi ⟨l,b,d,L⟩=>?_) (fun D ys H2 ⟨l,b,d,L⟩=>?_)
 ·rw[Paired.length l,aS];exact eV (by lia)
 ·obtain⟨e,he,B,na,zs,rfl,h1,h2,h3⟩:=Paired.KA hp hi;have J:=d _ _ h1;have g2:=d _ _ h2;unfold jq rj;dsimp only;rw[if_pos rfl];refine⟨_,rfl,B,_,_,_,rfl,rfl,gy.of J,rfl,_,rfl,B,_,_,_,rfl,rfl,gy.of J,rfl,_,rfl,B,_,_,_,rfl,rfl,gy.of J,rfl,na,_,rfl,.inl (fb.of g2),fun t m=>?_⟩;have S:eF H2 (upd H2 t (.lst zs)):=eA m _;refine⟨(by show 3≤sizeLine;decide),fun R j=>?_⟩;have g:=S.trans (eA j (.tup [.str e.1,.int e.2.1,.ref t]));have G:t≠D:=Ne.symm (er b m);have M:R≠D:=Ne.symm (er (S _ _ b) j);refine⟨g _ _ b,?_,d0,eF.upd (d.trans g) L,L⟩;have X:es.take (i+1)=es.take i++[e]:=by rw[bg,he];rfl
  rw[X,mR (by simp)];refine Paired.snoc (Paired.Kg l fun _ _ z=>jX.same (eF.del g [D]) z) ⟨R,t,zs,rfl,?_,?_,?_⟩
  ·rw[eD (by simpa using M)];exact d0
  ·rw[eD (by simpa using G),ef (Ne.symm (er (o:=.lst zs) d0 j).symm)];exact d0
  ·refine Paired.Kg h3 fun v n z=>?_;obtain⟨Z,y,N⟩:=z;have p:=d _ _ N;refine⟨Z,y,?_⟩;rw[eD (by simpa using fC p b (by intro z;cases z))];exact g _ _ p
 ·rw[Y,aH]at l;exact q D H2 d ⟨ys,b,Paired.Kg l fun _ _ z=>jX.same (fB _ _) z⟩
theorem EJ:eM ["_law_shelf","_law_need","_law_found","_law_entry"] ["_law_shelf","_law_need"] (eE rY):=jc
theorem yk (F:iQ K "_law_newest" "_law_newest" rY f fd)(T:wn K mg)(G:eZ P w K mg base fh 1 g gd ["_law_need","_law_version"] (mz K))(R:gi K gd ["_law_need","_law_version"] [])(kG:W.keepIn K (.ref g)=true)(mG:mg "_law_meets" = some (.ref g)):eZ P w K mg base fh 2 f fd ["_law_shelf","_law_need"] (pd K):=by
 refine F.ok EJ (fun vs H Q E h=>?_) (fun X A B s H vs Q E Y h=>?_)
 ·obtain⟨a,v,es,n,rfl,_⟩:=h;rfl
 obtain⟨a,v,es,n,rfl,⟨xs,M,hp⟩,hn,hl,q⟩:=h;refine⟨_,(ee (eJ (i:=2) EJ.nd rfl (Or.inl rfl) (gl el)) (ee (fZ PassesOwn.never rfl (fO (pv 0)) (eN (i:=3) EJ.nd rfl (Or.inl rfl)) (eo (fz (PW.pt (lY (fi kE (eK eP (pv 3) et (fun _ _=>rfl)) (eK eP (pv 1) et (fun _ _=>rfl)) (fF _)) (kg (gu (fe G Y rfl mG kG R .nil eT (dZ (pv 1) (dZ (eK eP (pv 3) et (fun _ _=>rfl)) el))))))) (eo (gf (jp PySem.F.plainAttrs_list PySem.F.slot_list_append PySem.F.type_list_append gN (pv 2) (dZ (eK eP (pv 3) et (fun _ _=>rfl)) el)))) eO))) (eo (eL (CV rfl rfl T.list rfl T.rev (eR uD rfl T.sorted boot_sorted (dZ (pv 2) el))))))),?_⟩;have U:xs.length=es.length:=Paired.length hp;obtain⟨m,rfl,L⟩:=hn;refine⟨(by show 0≤sizeLine;decide),fun r j=>?_⟩;refine⟨_,rfl,a,rfl,⟨xs,fb.of (eA j _ _ _ M)⟩,gq (K:=K) (a:=a) (xs:=xs) (fun i σ H2=>∃e,σ=[some (.ref a),some (.ref m),some (.ref r),e]∧eF H H2∧H2 r=some (.lst ((iM (es.take i) n).map V.int))) ⟨none,rfl,eA j _,by simpa [iM] using d0⟩ ((by rintro i σ H2 _ ⟨_,_,d,_⟩;exact fb.of (d _ _ M))) ?_ ?_⟩
 ·rintro i x σ H2 hi ⟨o,rfl,d,h2⟩;obtain⟨e,he,y,na,zs,rfl,Z,h4,h5⟩:=Paired.KA hp hi;have D:=d _ _ Z;have N:=d _ _ L;have S:es.take (i+1)=es.take i++[e]:=by rw[bg,he];rfl
  have b:=vO (es.take i) e n;rw[←S]at b;refine⟨_,rfl,y,_,_,_,rfl,rfl,gy.of D,rfl,_,rfl,m,_,_,_,rfl,rfl,gy.of N,rfl,rfl,_,rfl,?_⟩;rw[jQ];refine kJ (fun c=>?_) (fun c=>?_)
  ·refine⟨_,rfl,_,rfl,y,_,_,_,rfl,rfl,gy.of D,rfl,.ref m,n,e.2.1,rfl,⟨m,rfl,N⟩,_,rfl,?_⟩;refine kJ (fun C=>?_) (fun C=>?_)
   ·have l:iI n e=true:=by unfold iI;rw[c,C];rfl
    rw[if_pos l]at b;refine⟨_,rfl,.inl ⟨rfl,_,fb.of h2⟩,_,rfl,y,_,_,_,rfl,rfl,gy.of D,rfl,r,_,_,rfl,rfl,h2,?_,?_⟩
    ·rw[ab];have:=ju (es.take i) n;rw[aS]at this;exact eV (by lia)
    ·refine⟨_,rfl,eF.upd d j,?_⟩;rw[d0,b,ay];rfl
   ·have l:¬iI n e=true:=by unfold iI;rw[c,cA];exact C
    rw[if_neg l]at b;exact⟨_,rfl,d,by rw[b];exact h2⟩
  ·have l:¬iI n e=true:=by unfold iI;rw[bV.mpr c];simp
   rw[if_neg l]at b;exact ff ⟨_,rfl,d,by rw[b];exact h2⟩
 ·rintro σ H2 ⟨o,rfl,d,h2⟩;rw[U,aH]at h2;have aa:=ju es n;refine⟨_,rfl,r,_,rfl,fb.of h2,by lia,fun p O t I J=>?_⟩;refine⟨p,_,rfl,fb.of d0,fun p' z=>?_⟩;exact q p O _ (d.trans (eA t _)) d0 I J p' z
end
inductive uH (K:W.Frag)(vs:List V)(H:Hp)(Q:VK)(E:XK):Prop
 |mk (a:Addr)(ns:List Int)(_:vs=[.ref a])(_:fb K H a (ns.map V.int))(_:ns.length≤63)(_:∀p (sn:List Nd) H',eF H H'→gC H' p sn→(∀n∈sn,fT n.1)→sn.length≤ns.length→Q (.ref p) H'):uH K vs H Q E
def qC (K:W.Frag):Sp:=uH K
inductive uL (vs:List V)(H:Hp)(Q:VK)(E:XK):Prop
 |mk (a:Addr)(v:V)(es:List En)(k:Pk)(_:vs=[.ref a,v])(_:iP H a es)(_:fD H v k)(_:(es.map eX).Nodup)(_:(∀e∈es,eX e=k→∀na zs,H na=some (.lst zs)→Paired (fR H) zs e.2.2→Q (.ref na) H))(_:(k∉es.map eX→Q .non H)):uL vs H Q E
def nu:Sp:=uL
theorem E9:(["_law_cell"]:List Str).Nodup:=by decide +kernel
section
variable {base:Heap}{f:Addr}
theorem GG:eM ["_law_cells"] ["_law_cells"] (eE pC):=jc
theorem vB (F:iQ K "_law_start_by" "_law_start_by" pC f fd)(G:eZ P w K mg base fh 2 g gd ["_law_cell"] u6)(N:gi K gd ["_law_cell"] [])(Y:W.keepIn K (.ref g)=true)(X:mg "_law_need_by" = some (.ref g)):eZ P w K mg base fh 3 f fd ["_law_cells"] (qC K):=by
 refine F.ok GG (fun vs H Q E h=>?_) (fun O A t s H vs Q E R h=>?_)
 ·obtain⟨a,j,rfl,_⟩:=h;rfl
 obtain⟨a,j,rfl,M,hl,q⟩:=h;refine⟨_,eo (eL (iH (N':=["_law_cell"]) (n:=1) (js:=[]) rfl (iO.closed (by decide +kernel) (by decide +kernel) rfl (by decide +kernel) rfl) (iq (by decide)) (fO (pv 0)) (fun C L H2 fp=>eN (i:=0) E9 rfl (Or.inl rfl)) (fun C L H2 fp=>jI) (fun C L H2 fp=>fe G R rfl X Y N .nil eT (dZ (fm l6 (fm jL (pv 0) et) et) el)))),?_⟩;have Z:(j.map V.int).length=j.length:=ab _;refine⟨_,rfl,a,rfl,⟨_,M⟩,?_⟩;refine ir (xs:=j.map V.int) (fun D i ys H2=>∃sn:List Nd,Paired (fR (del H2 [D])) ys sn∧(∀n∈sn,fT n.1)∧sn.length≤i∧H2 D=some (.lst ys)∧eF H H2∧H D=none) (fun D J=>⟨[],.nil,by simp,aq _,d0,eA J _,J⟩)
  (fun D i ys H2 hi ⟨sn,e,o,p,b,d,l⟩=>⟨d.seq M,b,?_⟩) (fun D i x ys H2 hi ⟨sn,e,o,p,b,d,l⟩=>?_) (fun D ys H2 ⟨sn,e,o,p,b,d,l⟩=>?_)
 ·rw[Paired.length e];exact eV (by lia)
 ·rw[ae]at hi;obtain⟨c,hc,rfl⟩:=aw.mp hi;unfold jq rj;dsimp only;rw[if_pos rfl];refine⟨_,rfl,_,_,rfl,rfl,⟨by decide,by decide⟩,_,_,rfl,rfl,_,rfl,fun I n H3 B v r T=>?_⟩;have S:I≠D:=Ne.symm (er b v);refine⟨B _ _ b,sn++[n],?_,fun m U=>?_,by rw[aF,aT];lia,d0,eF.upd (d.trans B) l,l⟩
  ·rw[mR (by simp)];refine Paired.snoc (Paired.Kg e fun _ _ y=>fR.same (eF.del B _) y) ⟨I,rfl,?_⟩;rw[eD (by simpa using S)];exact r
  ·rcases aB.mp U with y | y
   ·exact o m y
   ·rw[ai.mp y];exact T
 ·rw[Z]at p;exact q D sn H2 d ⟨ys,b,Paired.Kg e fun _ _ z=>fR.same (fB _ _) z⟩ o p
theorem GJ:eM ["_law_shelf","_law_pick","_law_entry"] ["_law_shelf","_law_pick"] (eE pG):=jc
theorem vF (F:iQ K "_law_needs_in" "_law_needs_in" pG f fd):eZ P w K mg base fh 1 f fd ["_law_shelf","_law_pick"] nu:=by
 refine F.ok GJ (fun vs H Q E h=>?_) (fun O A m s H vs Q E T h=>?_)
 ·obtain⟨a,v,es,k,rfl,_⟩:=h;rfl
 obtain⟨a,v,es,k,rfl,⟨xs,B,hp⟩,⟨r,rfl,t⟩,R,L,S⟩:=h;refine⟨_,(ee (fZ PassesOwn.never rfl (fO (pv 0)) (eN (i:=2) GJ.nd rfl (Or.inl rfl)) (eo (fz (PW.pt (lY (fi kE (eK eP (pv 2) et (fun _ _=>rfl)) (eK eP (pv 1) et (fun _ _=>rfl)) (fF _)) (kg (fi kE (eK eP (pv 2) et (fun _ _=>rfl)) (eK eP (pv 1) et (fun _ _=>rfl)) (fF _))))) (eo (eL (eK eP (pv 2) et (fun _ _=>rfl)))) eO))) (eo (eL i4))),?_⟩;have I:xs.length=es.length:=Paired.length hp;refine⟨_,rfl,a,rfl,⟨xs,fb.of B⟩,gq (K:=K) (a:=a) (xs:=xs) (fun i σ H2=>∃o,σ=[some (.ref a),some (.ref r),o]∧H2=H∧k∉(es.take i).map eX) ⟨none,rfl,rfl,by simp⟩ ((by rintro i σ H2 _ ⟨_,_,e,_⟩;exact e▸fb.of B)) ?_ ?_⟩
 ·rintro i x σ H2 hi ⟨o,rfl,rfl,b⟩;obtain⟨e,D,d,N,zs,rfl,q,J,M⟩:=Paired.KA hp hi;have G:es.take (i+1)=es.take i++[e]:=by rw[bg,D];rfl
  have step:¬eX e=k→k∉(es.take (i+1)).map eX:=fun g C=>by
   rw[G,ay]at C;rcases aB.mp C with y | y
   ·exact b y
   ·rw[aE,cT,ai]at y;exact g y.symm
  refine⟨_,rfl,d,_,_,_,rfl,rfl,gy.of q,rfl,_,rfl,r,_,_,_,rfl,rfl,gy.of t,rfl,rfl,_,rfl,?_⟩;rw[jQ];refine kJ (fun c=>?_) (fun c=>?_)
  ·refine⟨_,rfl,d,_,_,_,rfl,rfl,gy.of q,rfl,_,rfl,r,_,_,_,rfl,rfl,gy.of t,rfl,rfl,_,rfl,?_⟩;refine kJ (fun p=>?_) (fun p=>?_)
   ·have j:e.1=k.1:=aR c;have l:e.2.1=k.2:=V.int.inj (aR p);exact⟨_,rfl,d,_,_,_,rfl,rfl,gy.of q,rfl,L e (ak D) (Prod.ext j l) N zs J M⟩
   ·refine⟨_,rfl,rfl,step fun z=>p (ao ?_)⟩;rw[←z];rfl
  ·refine ff ⟨_,rfl,rfl,step fun z=>c (ao ?_)⟩;rw[←z];rfl
 ·rintro σ H2 ⟨o,rfl,rfl,b⟩;rw[I,aH]at b;exact S b
end
def ur:List Str:=["ashenashenashen","as","","ashenashxnashen"]
def Lw (e:En):Prop:=e.1∈ur∧e.2.1∈wF
theorem E2 {v:V}(a:v∈[V.str "as",V.str "ashenashenashen",V.str "ashenashxnashen",V.str ""]):∃x,v=.str x∧fT x∧x∈ur:=by
 simp only[am,aJ,or_false]at a;rcases a with rfl | rfl | rfl | rfl
 ·exact⟨_,rfl,Ao,by unfold ur;simp⟩
 ·exact⟨_,rfl,Aq,by unfold ur;simp⟩
 ·exact⟨_,rfl,Am,by unfold ur;simp⟩
 ·exact⟨_,rfl,An,by unfold ur;simp⟩
inductive BH (K:W.Frag)(vs:List V)(H:Hp)(Q:VK)(E:XK):Prop
 |mk (a:Addr)(ns:List Int)(_:vs=[.ref a])(_:fb K H a (ns.map V.int))(_:ns.length≤63)(_:∀p (es:List En) xs H',eF H H'→H p=none→H' p=some (.lst xs)→Paired (jX (del H' [p])) xs es→(es.map eX).Nodup→(∀e∈es,kD e)→es.length≤ns.length→(∀e∈es,Lw e)→Q (.ref p) H'):BH K vs H Q E
def wD (K:W.Frag):Sp:=BH K
inductive HG (H:Hp)(a p t:Addr)(i:Nat)(σ:L2.St)(H2:Hp):Prop
 |mk (es:List En)(xs ys:List V)(o3 o4 o5 o6 o7 o8:Option V)(_:σ=[some (.ref a),some (.ref p),some (.ref t),o3,o4,o5,o6,o7,o8])(_:H2 p=some (.lst xs))(_:H2 t=some (.lst ys))(_:Paired (jX (del H2 [p,t])) xs es)(_:Paired (fD (del H2 [p,t])) ys (es.map eX))(_:(es.map eX).Nodup)(_:(∀e∈es,kD e∧Lw e))(_:es.length≤i):HG H a p t i σ H2
structure Ka (H:Hp)(a p t:Addr)(i:Nat)(σ:L2.St)(H2:Hp):Prop where
 ex:HG H a p t i σ H2
 sm:eF H H2
inductive HJ (Hb:Hp)(p t nd:Addr)(σ0:Option V→L2.St)(j:Nat)(σ:L2.St)(H6:Hp):Prop
 |mk (zs:List V)(nds:List Nd)(o8:Option V)(_:σ=σ0 o8)(_:H6 nd=some (.lst zs))(_:Paired (fR (del H6 [p,t,nd])) zs nds)(_:(∀n∈nds,fT n.1))(_:nds.length≤j):HJ Hb p t nd σ0 j σ H6
structure Kb (Hb:Hp)(p t nd:Addr)(σ0:Option V→L2.St)(j:Nat)(σ:L2.St)(H6:Hp):Prop where
 ex:HJ Hb p t nd σ0 j σ H6
 sm:eF Hb H6
section
variable {base:Heap}{f:Addr}
theorem rO:eM ["_law_cells","_law_shelf","_law_there","_law_k","_law_cell","_law_part","_law_pick","_law_needs","_law_j"] ["_law_cells"] (eE vm):=jc
theorem Az (F:iQ K "_law_shelf_by" "_law_shelf_by" vm f fd)(T:wn K mg)(G:eZ P w K mg base fh 1 g gd ["_law_cell"] zB)(bG:gi K gd ["_law_cell"] [])(kG:W.keepIn K (.ref g)=true)(mG:mg "_law_version_by" = some (.ref g))(G2:eZ P w K mg base fh 2 g2 gd2 ["_law_cell"] u6)(b8:gi K gd2 ["_law_cell"] [])(b2:W.keepIn K (.ref g2)=true)(co:mg "_law_need_by" = some (.ref g2)):eZ P w K mg base fh 3 f fd ["_law_cells"] (wD K):=by
 refine F.ok rO (fun vs H Q E h=>?_) (fun cy A ch s H vs Q E hr h=>?_)
 ·obtain⟨a,ns,rfl,_⟩:=h;rfl
 obtain⟨a,ns,rfl,hS,hl,q⟩:=h;have bv:gM 1 _:=hr.mono (by decide);refine⟨_,(ee (eJ (i:=1) rO.nd rfl (Or.inl rfl) (gl el)) (ee (eJ (i:=2) rO.nd rfl (Or.inl rfl) (gl el)) (ee (fZ PassesOwn.never rfl (jZ rfl T.range (dZ (eR fA rfl T.len bu (dZ (pv 0) el)) el)) (eN (i:=3) rO.nd rfl (Or.inl rfl)) (ee (eJ (i:=4) rO.nd rfl (Or.inl rfl) (eK fg (pv 0) (pv 3) (fun _ _=>rfl))) (ee (eJ (i:=5) rO.nd rfl (Or.inl rfl) (eK fg (gl (dZ iZ (dZ iZ (dZ iZ (dZ iZ el))))) (fm kr (fm l6 (pv 4) (pv 3)) et) (fun _ _=>rfl))) (ee (eJ (i:=6) rO.nd rfl (Or.inl rfl) (gT (dZ (pv 5) (dZ (fe G bv rfl mG kG bG .nil eT (dZ (fm l6 (fm jL (pv 4) et) (fm jL (pv 3) et)) el)) el)))) (ee (eJ (i:=7) rO.nd rfl (Or.inl rfl) (gl el)) (ee (fZ PassesOwn.never rfl (jZ rfl T.range (dZ (eK fg (gl (dZ et (dZ et (dZ et (dZ et (dZ et (dZ et (dZ et (dZ et (dZ et (dZ et el))))))))))) (fm kr (fm jL (pv 4) et) et) (fun _ _=>rfl)) el)) (eN (i:=8) rO.nd rfl (Or.inl rfl)) (eo (gf (jp PySem.F.plainAttrs_list PySem.F.slot_list_append PySem.F.type_list_append gN (pv 7) (dZ (fe G2 hr rfl co b2 b8 .nil eT (dZ (fm l6 (fm l6 (fm jL (pv 4) et) (fm sJ et (pv 8))) (fm sJ et (pv 3))) el)) el))))) (eo (fz (fi (nJ hr.units) (pv 6) (pv 2) (by with_unfolding_all rfl)) (ee (gf (jp PySem.F.plainAttrs_list PySem.F.slot_list_append PySem.F.type_list_append gN (pv 2) (dZ (pv 6) el))) (eo (gf (jp PySem.F.plainAttrs_list PySem.F.slot_list_append PySem.F.type_list_append gN (pv 1) (dZ (gT (dZ (eK eP (pv 6) et (fun _ _=>rfl)) (dZ (eK eP (pv 6) et (fun _ _=>rfl)) (dZ (pv 7) el)))) el))))) eO)))))))) (eo (eL (pv 1)))))),?_⟩;have X:(ns.map V.int).length=ns.length:=ab _;refine⟨(by show 0≤sizeLine;decide),fun p hp=>⟨(by show 0≤sizeLine;decide),fun t ht=>?_⟩⟩;have s1:eF H (upd H p (.lst [])):=eA hp _;have an:p≠t:=er (o:=.lst []) d0 ht;have b1:H t=none:=s1.free ht;have s2:eF H (upd (upd H p (.lst [])) t (.lst [])):=s1.trans (eA ht _);refine⟨_,rfl,a,_,rfl,.inl (s2.seq hS),_,rfl,by rw[X];omega,by rw[X];omega,?_⟩;refine lJ (fun i σ H2=>Ka H a p t i σ H2) ⟨⟨[],[],[],none,none,none,none,none,none,rfl,by rw[ef an];exact d0,d0,.nil,.nil,bY,by simp,aq _⟩,s2⟩ ?_ ?_
 ·rintro i σ H2 hi ⟨⟨es,xs,ys,o3,o4,o5,o6,o7,o8,rfl,ah,ba,M,L,Z,B,I⟩,sm⟩;have cz:((i:Nat):Int)<(ns.length:Int):=by rw[X,bA]at hi;omega
  have ct:i<ns.length:=by omega
  obtain⟨c,hc,_⟩:=kA (ns:=ns) (i:=0+(i:Int)) (by omega) (by omega);refine⟨_,rfl,_,rfl,a,_,_,_,rfl,rfl,sm.seq hS,hc,?_⟩;refine⟨(by show 4≤sizeLine;decide),fun l1 bx=>?_⟩;obtain⟨v,hv,hm⟩:=wf (xs:=[.str "as",.str "ashenashenashen",.str "ashenashxnashen",.str ""]) (i:=(c+(0+(i:Int))) % 4) (dw _ (by decide)) (cQ _ (by decide));obtain⟨x,rfl,hx,bm⟩:=E2 hm;refine⟨_,rfl,_,rfl,_,_,rfl,rfl,_,_,rfl,rfl,(by show(0:Int)<4;decide),l1,_,_,_,rfl,rfl,fb.of d0,hv,?_⟩;have sa:=eA bx (.lst [.str "as",.str "ashenashenashen",.str "ashenashxnashen",.str ""]);refine⟨_,rfl,_,rfl,_,_,rfl,rfl,⟨by decide,by decide⟩,_,rfl,_,_,rfl,rfl,⟨by decide,by decide⟩,_,_,rfl,rfl,_,rfl,fun z H3 s3 b4=>⟨(by show 2≤sizeLine;decide),fun l cn=>?_⟩⟩;have sb:eF H2 (upd H3 l (.tup [.str x,.int z])):=(sa.trans s3).trans (eA cn _);generalize b5:upd H3 l (.tup [.str x,.int z])=Hb at sb;have cp:Hb l=some (.tup [.str x,.int z]):=by rw[←b5];exact d0
  have a0:=sb _ _ ah;have ad:=sb _ _ ba;refine⟨(by show 0≤sizeLine;decide),fun nd r=>?_⟩;have b7:nd≠p:=Ne.symm (er a0 r);have a3:nd≠t:=Ne.symm (er ad r);refine⟨(by show 10≤sizeLine;decide),fun l2 a7=>?_⟩;obtain⟨jn,hj,bq⟩:=kA (ns:=[0,1,2,0,1,2,0,1,2,4]) (i:=c / 12 % 10) (dw _ (by decide)) (cQ _ (by decide));have cx:0≤jn∧jn≤4:=by
   simp only[am,aJ,or_false]at bq;omega
  refine⟨_,rfl,_,_,rfl,rfl,⟨by decide,by decide⟩,_,_,rfl,rfl,(by show(0:Int)<10;decide),l2,_,_,_,rfl,rfl,fb.of d0,hj,jn,rfl,by omega,by omega,?_⟩;have sd:eF Hb (upd (upd Hb nd (.lst [])) l2 (.lst [.int 0,.int 1,.int 2,.int 0,.int 1,.int 2,.int 0,.int 1,.int 2,.int 4])):=(eA r _).trans (eA a7 _);refine lJ (fun j σ H6=>Kb Hb p t nd (fun o8=>[some (.ref a),some (.ref p),some (.ref t),some (.int (0+(i:Int))),some (.int c),some (.str x),some (.ref l),some (.ref nd),o8]) j σ H6)
   ⟨⟨[],[],o8,rfl,by rw[ef (er (o:=.lst []) d0 a7)];exact d0,.nil,by simp,aq _⟩,sd⟩ ?_ ?_
  ·rintro j σ H6 cv ⟨⟨zs,Y,bl,rfl,D,U,a2,cl⟩,s6⟩;refine⟨_,rfl,.inl ⟨rfl,_,fb.of D⟩,_,rfl,_,_,rfl,rfl,⟨by decide,by decide⟩,_,rfl,_,_,rfl,rfl,.inl ⟨by decide,by decide⟩,_,_,rfl,rfl,_,rfl,_,_,rfl,rfl,.inl ⟨by decide,by decide⟩,_,_,rfl,rfl,_,rfl,fun q0 n N s7 al b9 hn=>?_⟩;have lz:=Paired.length U;refine⟨nd,_,_,rfl,rfl,s7 _ _ D,eV (by omega),⟨zs++[.ref q0],Y++[n],_,rfl,d0,?_,?_,by rw[aF,aT];omega⟩,eF.upd (s6.trans s7) r⟩
   ·rw[mR (by simp)];refine Paired.snoc (Paired.Kg U fun _ _ y=>fR.same (eF.del s7 _) y) ⟨q0,rfl,?_⟩;rw[eD]
    ·exact b9
    ·simp only[am,aJ,or_false,not_or];exact⟨Ne.symm (er (s6 _ _ a0) al),Ne.symm (er (s6 _ _ ad) al),Ne.symm (er D al)⟩
   ·intro m hm;rcases aB.mp hm with y | y
    ·exact a2 m y
    ·rw[ai.mp y];exact hn
  ·rintro σ H6 ⟨⟨zs,Y,bl,rfl,D,U,a2,cl⟩,s6⟩;have aa:=s6 _ _ a0;have J:=s6 _ _ ad;have O:=s6 _ _ cp;have C:eF H2 H6:=sb.trans s6;have b3:l≠p:=Ne.symm (fC aa O (by intro y;cases y));have a6:l≠t:=Ne.symm (fC J O (by intro y;cases y));have a4:Paired (fD H6) ys (es.map eX):=Paired.Kg L fun _ _ y=>fD.same ((eF.del C _).trans (fB _ _)) y;have cd:∀k∈es.map eX,fT k.1:=fun k hk=>by
    obtain⟨e,he,rfl⟩:=av.mp hk;exact(B e he).1.pt
   refine⟨_,rfl,_,rfl,kI (x,z),(es.map eX).map kI,fD.rep ⟨l,rfl,O⟩,.lst J (jt (fun _ _ y=>fD.rep y) a4),(km hx).1,mE cd,(km hx).2,_,rfl,?_⟩;rw[qh];refine kJ (fun ap=>?_) (fun ap=>?_)
   ·have a8:¬(x,z)∈es.map eX:=by
     intro y;rw[ao y]at ap;exact absurd ap (by decide)
    have ly:=Paired.length L;have lx:=Paired.length M;rw[ab]at ly;refine⟨_,rfl,.inl ⟨rfl,_,fb.of J⟩,_,rfl,t,_,_,rfl,rfl,J,eV (by omega),?_⟩;generalize d:upd H6 t (.lst (ys++[.ref l]))=N;have ag:N p=some (.lst xs):=by rw[←d,ef an];exact aa
    have as:N l=some (.tup [.str x,.int z]):=by rw[←d,ef a6];exact O
    have cs:N nd=some (.lst zs):=by rw[←d,ef a3];exact D
    have a5:N t=some (.lst (ys++[.ref l])):=by rw[←d];exact d0
    refine⟨_,rfl,.inl ⟨rfl,_,fb.of ag⟩,_,rfl,l,_,_,_,rfl,rfl,gy.of as,rfl,_,rfl,l,_,_,_,rfl,rfl,gy.of as,rfl,_,rfl,(by show 3≤sizeLine;decide),fun en a1=>?_⟩;have s8:=eA a1 (.tup [.str x,.int z,.ref nd]);have b6:en≠p:=Ne.symm (er ag a1);have bf:en≠t:=Ne.symm (er a5 a1);refine⟨p,xs,_,rfl,rfl,s8 _ _ ag,eV (by omega),?_⟩;have d9:del (upd (upd N en (.tup [.str x,.int z,.ref nd])) p (.lst (xs++[.ref en]))) [p,t]=del (upd N en (.tup [.str x,.int z,.ref nd])) [p,t]:=mR (by simp);have d7:del N [p,t]=del H6 [p,t]:=by rw[←d];exact mR (by simp)
    have a9:eF (del H2 [p,t]) (del (upd N en (.tup [.str x,.int z,.ref nd])) [p,t]):=(eF.del C _).trans (d7▸eF.del s8 _);refine⟨⟨es++[(x,z,Y)],xs++[.ref en],ys++[.ref l],_,_,_,_,_,_,rfl,d0,?_,?_,?_,?_,?_,by rw[aF,aT];omega⟩,?_⟩
    ·rw[ef (Ne.symm an)];exact s8 _ _ a5
    ·rw[d9];refine Paired.snoc (Paired.Kg M fun _ _ y=>jX.same a9 y) ⟨en,nd,zs,rfl,?_,?_,?_⟩
     ·rw[eD (by simp only[am,aJ,or_false,not_or];exact⟨b6,bf⟩)];exact d0
     ·rw[eD (by simp only[am,aJ,or_false,not_or];exact⟨b7,a3⟩)];exact s8 _ _ cs
     ·refine Paired.Kg U fun _ m y=>fR.same (fun b o R=>?_) y;have S:b∉[p,t,nd]:=fun y=>by rw[fL y]at R;cases R
      rw[eD S]at R;simp only[am,aJ,or_false,not_or]at S;rw[eD (by simp only[am,aJ,or_false,not_or];exact⟨S.1,S.2.1⟩)];refine s8 _ _ ?_;rw[←d,ef S.2.1];exact R
    ·rw[d9,ay];refine Paired.snoc (Paired.Kg L fun _ _ y=>fD.same a9 y) ⟨l,rfl,?_⟩;rw[eD (by simp only[am,aJ,or_false,not_or];exact⟨b3,a6⟩)];exact s8 _ _ as
    ·rw[ay];exact sO Z a8
    ·intro e he;rcases aB.mp he with y | y
     ·exact B e y
     ·rw[ai.mp y];exact⟨⟨hx,a2,by show Y.length≤100;omega⟩,bm,b4⟩
    ·have bd:eF H N:=by rw[←d];exact eF.upd (sm.trans C) b1
     exact eF.upd (bd.trans s8) hp
   ·exact⟨⟨es,xs,ys,_,_,_,_,_,_,rfl,aa,J,Paired.Kg M fun _ _ y=>jX.same (eF.del C _) y,Paired.Kg L fun _ _ y=>fD.same (eF.del C _) y,Z,B,by omega⟩,sm.trans C⟩
 ·rintro σ H2 ⟨⟨es,xs,ys,o3,o4,o5,o6,o7,o8,rfl,ah,ba,M,L,Z,B,I⟩,sm⟩;refine⟨_,rfl,q p es xs H2 sm hp ah (Paired.Kg M fun _ _ y=>jX.same (fun b o R=>?_) y) Z (fun e he=>(B e he).1) (by rw[X,bA]at I;exact I) (fun e he=>(B e he).2)⟩;have S:b∉[p,t]:=fun y=>by rw[fL y]at R;cases R
  rw[eD S]at R;simp only[am,aJ,or_false,not_or]at S;rw[eD (by simpa using S.1)];exact R
end
inductive DV (vs:List V)(H:Hp)(Q:VK)(E:XK):Prop
 |mk (a:Addr)(v:V)(es:List En)(n:Nd)(_:vs=[.ref a,v])(_:iP H a es)(_:fR H v n)(_:es.length<64)(_:∀p H',eF H H'→H p=none→H' p=some (.lst ((jl es n).map V.int))→Q (.ref p) H'):DV vs H Q E
def zC:Sp:=DV
theorem Jf (vs:List V)(H:Hp)(Q:VK)(E:XK)(h:zC vs H Q E):pd K vs H Q E:=by
 obtain⟨a,v,es,n,rfl,h1,h2,j,q⟩:=h;refine⟨a,v,es,n,rfl,h1,h2,j,fun p d H' g m hp i l b=>?_⟩;have e:d.reverse=jl es n:=pU ((List.reverse_perm d).trans hp) (List.pairwise_reverse.mpr i);refine q l _ (g.trans (eA b _)) (g.free b) ?_;rw[d0,←e,List.map_reverse]
abbrev JC:List Str:=["_law_shelf","_law_start","_law_lines","_law_spot","_law_picks","_law_word","_law_who","_law_place","_law_told","_law_needs","_law_need","_law_versions","_law_k","_law_pick"]
section
variable {base:Heap}{f:Addr}
theorem oy:eM JC ["_law_shelf","_law_start","_law_lines","_law_spot"] (eE pI):=jc
end
inductive BC (vs:List V)(H:Hp)(Q:VK)(E:XK):Prop
 |mk (i:Int)(_:vs=[.int i])(_:Q (.bl true) H):BC vs H Q E
def rn:Sp:=BC
section
variable {base:Heap}{f:Addr}
theorem IO:eM ["_law_found"] ["_law_found"] (eE ve):=jc
theorem Au (F:iQ K "_law_whole" "_law_whole" ve f fd)(T:wn K mg):eZ P w K mg base fh 1 f fd ["_law_found"] rn:=by
 refine F.ok IO (fun vs H Q E h=>?_) (fun b A a s H vs Q E d h=>?_)
 ·obtain⟨i,rfl,_⟩:=h;rfl
 obtain⟨i,rfl,q⟩:=h;refine⟨_,eo (eL (l4 (eR fj rfl T.isin be (dZ (pv 0) (dZ (iC rfl T.int boot_int) el))) (nG (vy (eR fj rfl T.isin be (dZ (pv 0) (dZ (iC rfl T.bool boot_bool) el))))))),?_⟩;refine⟨_,rfl,_,_,_,_,rfl,.int i,A1 K,_,rfl,gL ⟨_,rfl,_,_,_,_,rfl,.int i,A9 K,_,rfl,q⟩⟩
end
inductive xB (vs:List V)(H:Hp)(Q:VK)(E:XK):Prop
 |mk (v:V)(k:Pk)(_:vs=[v])(_:fD H v k)(_:Q (.bl true) H):xB vs H Q E
def pi:Sp:=xB
inductive qZ (vs:List V)(H:Hp)(Q:VK)(E:XK):Prop
 |mk (a:Addr)(ks:List Pk)(_:vs=[.ref a])(_:lV H a ks)(_:Q (.bl true) H):qZ vs H Q E
def ke:Sp:=qZ
inductive xC (vs:List V)(H:Hp)(Q:VK)(E:XK):Prop
 |mk (v:V)(l:Ln)(_:vs=[v])(_:qk H v l)(_:Q (.bl true) H):xC vs H Q E
def tV:Sp:=xC
section
variable {base:Heap}{f:Addr}
theorem GQ:eM ["_law_found"] ["_law_found"] (eE sj):=jc
theorem yr (F:iQ K "_law_is_pick" "_law_is_pick" sj f fd)(T:wn K mg)(G:eZ P w K mg base fh 1 g gd ["_law_found"] rn)(j:gi K gd ["_law_found"] [])(m:W.keepIn K (.ref g)=true)(l:mg "_law_whole" = some (.ref g)):eZ P w K mg base fh 2 f fd ["_law_found"] pi:=by
 refine F.ok GQ (fun vs H Q E h=>?_) (fun e A d s H vs Q E i h=>?_)
 ·obtain⟨v,k,rfl,_⟩:=h;rfl
 obtain⟨v,k,rfl,⟨b,rfl,a⟩,q⟩:=h;refine⟨_,(ee (fz (PW.pt (iS (gE (gu (eR fj rfl T.isin be (dZ (pv 0) (dZ (iC rfl T.tuple dX) el))))) (iz (fi kZ (eR fA rfl T.len bu (dZ (pv 0) el)) et (fF _))))) (eo (eL gW)) eO) (eo (eL (l4 (eR fj rfl T.isin be (dZ (eK eP (pv 0) et (fun _ _=>rfl)) (dZ (iC rfl T.str boot_str) el))) (nG (fe G i rfl l m j .nil eT (dZ (eK eP (pv 0) et (fun _ _=>rfl)) el))))))),?_⟩;refine⟨_,rfl,_,_,_,_,rfl,jw.tup a,ll K,_,rfl,ff ?_⟩;refine⟨_,rfl,b,_,rfl,.inr (gy.of a),rfl,_,rfl,ff ?_⟩;exact⟨_,rfl,b,_,_,_,rfl,rfl,gy.of a,rfl,_,_,_,_,rfl,.str k.1,sX K,_,rfl,gL ⟨_,rfl,b,_,_,_,rfl,rfl,gy.of a,rfl,k.2,rfl,q⟩⟩
theorem DO:eM ["_law_found","_law_pick"] ["_law_found"] (eE nz):=jc
theorem uc (F:iQ K "_law_are_picks" "_law_are_picks" nz f fd)(T:wn K mg)(G:eZ P w K mg base fh 2 g gd ["_law_found"] pi)(o:gi K gd ["_law_found"] [])(t:W.keepIn K (.ref g)=true)(r:mg "_law_is_pick" = some (.ref g)):eZ P w K mg base fh 3 f fd ["_law_found"] ke:=by
 refine F.ok DO (fun vs H Q E h=>?_) (fun l A d s H vs Q E m h=>?_)
 ·obtain⟨a,ks,rfl,_⟩:=h;rfl
 obtain⟨a,ks,rfl,⟨xs,b,hp⟩,q⟩:=h;refine⟨_,(ee (fz (gE (gu (eR fj rfl T.isin be (dZ (pv 0) (dZ (iC rfl T.list cN) el))))) (eo (eL gW)) eO) (ee (fZ PassesOwn.never rfl (fO (pv 0)) (eN (i:=1) DO.nd rfl (Or.inl rfl)) (eo (fz (gE (gu (fe G m rfl r t o .nil eT (dZ (pv 1) el)))) (eo (eL gW)) eO))) (eo (eL gW)))),?_⟩;refine⟨_,rfl,_,_,_,_,rfl,jw.lst b,l9 K,_,rfl,ff ?_⟩;refine⟨_,rfl,a,rfl,⟨_,fb.of b⟩,?_⟩;refine gq (K:=K) (a:=a) (xs:=xs) (fun i σ H2=>∃j,σ=[some (.ref a),j]∧H2=H) ⟨none,rfl,rfl⟩ (fun i σ H2 _ ⟨_,_,e⟩=>by rw[e];exact fb.of b) ?_ ?_
 ·rintro i x σ H2 hi ⟨j,rfl,rfl⟩;obtain⟨k,_,p⟩:=Paired.KA hp hi;exact⟨_,rfl,x,k,rfl,p,_,rfl,ff ⟨_,rfl,rfl⟩⟩
 ·rintro σ H2 ⟨j,rfl,rfl⟩;exact q
end
theorem AU {es:List En}{sn:List Nd}{ls:List Ln}{i:Int}{l:Ln}(h:jj es sn ls i l=true):Es es l.1 l.2.who=true∧∃n,iD (gK es sn l.2.who) l.2.place=some n∧DI es ls i l.1 n l.2.told=true:=by
 unfold jj at h;rw[aD]at h;refine⟨h.1,?_⟩;cases hn:iD (gK es sn l.2.who) l.2.place with
 |none=>rw[hn]at h;exact absurd h.2 aK
 |some n=>rw[hn]at h;exact⟨n,rfl,h.2⟩
theorem DD {ls:List Ln}{i:Int}{ps:List Pk}{x:Str}{b v:Int}(h:uF ls i ps x b v=true):0≤b∧b<i∧∃l,iD ls b=some l∧∀p∈l.1,p∈ps∨p=(x,v):=by
 unfold uF at h;rw[aD,aD,ax,ax]at h;refine⟨h.1,h.2.1,?_⟩;have a:=h.2.2;cases hl:iD ls b with
 |none=>rw[hl]at a;cases a
 |some l=>
  rw[hl]at a;refine⟨l,rfl,fun p hp=>?_⟩;have:=bc.mp a p hp;rw[cV,ax,ax]at this;exact this
inductive xD (vs:List V)(H:Hp)(Q:VK)(E:XK):Prop
 |mk (sh st la:Addr)(es:List En)(sn:List Nd)(ls:List Ln)(spot:Nat)(l:Ln)(_:vs=[.ref sh,.ref st,.ref la,.int spot])(_:iP H sh es)(_:es.length<64)(_:(es.map eX).Nodup)(_:∀e∈es,kD e)(_:gC H st sn)(_:∀n∈sn,fT n.1)(_:lC H la ls)(_:∀l∈ls,BT l)(_:ls[spot]?=some l)(_:jj es sn ls spot l=true)(_:∀H',eF H H'→Q (.bl true) H'):xD vs H Q E
def tW:Sp:=xD
section
variable {base:Heap}{f:Addr}
theorem yw {g1:Addr}{gd1:FuncData}(F:iQ K "_law_holds" "_law_holds" pI f fd)(T:wn K mg)(G1:eZ P w K mg base fh 1 g1 gd1 ["_law_shelf","_law_pick"] nu)(b1:gi K gd1 ["_law_shelf","_law_pick"] [])(k1:W.keepIn K (.ref g1)=true)(m1:mg "_law_needs_in" = some (.ref g1))(G2:eZ P w K mg base fh 1 g2 gd2 ["_law_need","_law_version"] (mz K))(b2:gi K gd2 ["_law_need","_law_version"] [])(k2:W.keepIn K (.ref g2)=true)(m2:mg "_law_meets" = some (.ref g2))(G3:eZ P w K mg base fh 2 g3 gd3 ["_law_shelf","_law_need"] (pd K))(b3:gi K gd3 ["_law_shelf","_law_need"] [])(k3:W.keepIn K (.ref g3)=true)(m3:mg "_law_newest" = some (.ref g3)):eZ P w K mg base fh 3 f fd ["_law_shelf","_law_start","_law_lines","_law_spot"] tW:=by
 refine F.ok oy (fun vs H Q E h=>?_) (fun cd A ag s H vs Q E hr h=>?_)
 ·obtain⟨sh,st,la,es,sn,ls,spot,l,rfl,_⟩:=h;rfl
 obtain⟨sh,st,la,es,sn,ls,spot,l,rfl,bd,b9,a9,bl,bq,cl,⟨ys,hy,a8⟩,ap,b8,X,q⟩:=h;have an:gM 1 _:=hr.mono (by decide);have b7:eZ P w K mg base fh 2 g3 gd3 ["_law_shelf","_law_need"] zC:=G3.imp fun vs H Q E z=>Jf vs H Q E z;have ah:iD ls (spot:Int)=some l:=by rw[im];exact b8
 obtain⟨lv,c0,bf⟩:=i6 a8 ah;have O:=jM c0;have d:=ap l (mM ah);obtain⟨M,n,y,I⟩:=AU X;have b5:=uf bl cl _ n (mM y);obtain⟨lq,pa,rv,rfl,h1,h2,co⟩:=id bf;obtain⟨rq,wv,tv,rfl,b6,hw,G⟩:=id co;have r4:∃tR:TS,nX (ux fh P w K mg base JC "_law_holds" (eE pI) f cd A ag s H E).nox ((gF pI).drop 4) tR∧
   ∀(J:Addr) (zs:List V) (ns:List Nd),H J=some (.lst zs)→Paired (fR H) zs ns→iD ns l.2.place=some n→
    tR {nx:=fun _ H'=>Q .non H',rt:=Q} [some (.ref sh),some (.ref st),some (.ref la),some (.int spot),some (.ref pa),some (.str (ng l.2.told)),some wv,some (.int l.2.place),some tv,some (.ref J),none,none,none,none] H:=by
  refine⟨_,(ee (fz (PW.pt (iS (fi wK (pv 7) et (fF _)) (iz (fi DQ (pv 7) (eR fA rfl T.len bu (dZ (pv 9) el)) (fF _))))) iK eO) (ee (eJ (i:=10) oy.nd rfl (Or.inl rfl) (eK fg (pv 9) (pv 7) (fun _ _=>rfl))) (ee (fz (fi kE (pv 5) iZ (fF _)) (eo (eL (l4 (jJ (E4 hr.units) (pv 8) (pv 4) (by with_unfolding_all rfl)) (l4 (jJ kE (eK eP (pv 8) et (fun _ _=>rfl)) (eK eP (pv 10) et (fun _ _=>rfl)) (fF _)) (nG (vy (fe G2 an rfl m2 k2 b2 .nil eT (dZ (pv 10) (dZ (eK eP (pv 8) et (fun _ _=>rfl)) el))))))))) eO) (ee (eJ (i:=11) oy.nd rfl (Or.inl rfl) (fe b7 hr rfl m3 k3 b3 .nil eT (dZ (pv 0) (dZ (pv 10) el)))) (ee (fz (fi kZ (eR fA rfl T.len bu (dZ (pv 8) el)) (eR fA rfl T.len bu (dZ (pv 11) el)) (fF _)) iK eO) (ee (fZ PassesOwn.never rfl (jZ rfl T.range (dZ (eR fA rfl T.len bu (dZ (pv 8) el)) el)) (eN (i:=12) oy.nd rfl (Or.inl rfl)) (ee (fz (PW.pt (iS (fi wK (eK fg (pv 8) (pv 12) (fun _ _=>rfl)) et (fF _)) (iz (fi DQ (eK fg (pv 8) (pv 12) (fun _ _=>rfl)) (pv 3) (fF _))))) iK eO) (eo (fZ PassesOwn.never rfl (fO (eK eP (eK fg (pv 2) (eK fg (pv 8) (pv 12) (fun _ _=>rfl)) (fun _ _=>rfl)) et (fun _ _=>rfl))) (eN (i:=13) oy.nd rfl (Or.inl rfl)) (eo (fz (PW.pt (lY (fi (nJ hr.units) (pv 13) (pv 4) (by with_unfolding_all rfl)) (kg (fi (pS hr.units) (pv 13) (gT (dZ (eK eP (pv 10) et (fun _ _=>rfl)) (dZ (eK fg (pv 11) (pv 12) (fun _ _=>rfl)) el))) (fF _))))) iK eO)))))) (eo (eL gW)))))))),?_⟩;intro J zs ns C N y;have lz:=Paired.length N;have h0:¬l.2.place<0:=fun z=>by rw[qK.mpr (.inl z)]at y;cases y
  have h9:¬(zs.length:Int)≤l.2.place:=fun z=>by rw[qK.mpr (.inr (by rw[←lz];exact z))]at y;cases y
  refine⟨_,rfl,_,_,rfl,rfl,_,rfl,kJ (fun e=>(h0 (aR e)).elim) (fun _=>?_)⟩;refine⟨_,rfl,_,rfl,J,_,rfl,.inl (fb.of C),_,_,rfl,rfl,_,rfl,kJ (fun e=>(h9 (aR e)).elim) (fun _=>?_)⟩;obtain⟨v,hv,cx⟩:=i6 N y;obtain⟨S,rfl,L⟩:=id cx;refine⟨_,rfl,_,rfl,J,_,_,_,rfl,rfl,fb.of C,jM hv,?_⟩;refine⟨_,rfl,rfl,_,rfl,?_⟩;cases ht:l.2.told with
  |one k=>
   rw[ht]at G I;have R:fD H tv k:=G;have g:=d.one k ht;obtain⟨kq,rfl,r⟩:=id R;have b:(decide (k∈l.1)&&(decide (k.1=n.1)&&!(lH n k.2)))=true:=I;rw[aD,aD]at b;refine kJ (fun _=>?_) (fun c=>absurd (show decide (V.str "outside" = V.str "outside")=true by decide +kernel) c);refine⟨_,rfl,_,rfl,kI k,l.1.map kI,R.rep,h2.rep,(km g).1,mE d.pk,(km g).2,_,rfl,?_⟩;rw[if_neg aK,qh,b.1];refine gL ⟨_,rfl,kq,_,_,_,rfl,rfl,gy.of r,rfl,_,rfl,S,_,_,_,rfl,rfl,gy.of L,rfl,rfl,_,rfl,?_⟩;rw[jQ,b.2.1];refine gL ⟨_,rfl,_,rfl,kq,_,_,_,rfl,rfl,gy.of r,rfl,.ref S,n,k.2,rfl,⟨S,rfl,L⟩,_,rfl,?_⟩;have q2:=q H (eF.refl _);rw[←b.2.2]at q2;exact q2
  |many bs=>
   rw[ht]at G I;obtain⟨U,rfl,ad⟩:=G;have b:kF es ls spot l.1 n bs=true:=I;unfold kF at b;rw[aD,ax,bc]at b;obtain⟨b4,a3⟩:=b;refine kJ (fun c=>absurd c (show ¬decide (V.str "open" = V.str "outside")=true by decide +kernel)) (fun _=>?_);refine⟨_,rfl,_,rfl,sh,.ref S,es,n,rfl,bd,⟨S,rfl,L⟩,b9,fun va H1 s1 _ a6=>?_⟩;refine⟨_,rfl,U,_,rfl,.inl (fb.of (s1 _ _ ad)),_,rfl,va,_,rfl,.inl (fb.of a6),rfl,_,rfl,kJ (fun e=>?_) (fun _=>?_)⟩
   ·rw[ab,ab,b4,ao rfl]at e;cases e
   have c4:=d.many bs ht;refine⟨_,rfl,U,_,rfl,.inl (fb.of (s1 _ _ ad)),_,rfl,by omega,by rw[ab];omega,?_⟩;refine lJ (fun i σ H2=>∃aa p,σ=[some (.ref sh),some (.ref st),some (.ref la),some (.int spot),some (.ref pa),some (.str (ng l.2.told)),some wv,some (.int l.2.place),some (.ref U),some (.ref J),some (.ref S),some (.ref va),aa,p]∧eF H1 H2)
    ⟨none,none,by rw[ht];rfl,eF.refl _⟩ ?_ ?_
   ·rintro i σ H2 hi ⟨aa,p,rfl,s2⟩;have cy:i<bs.length:=by rw[bA,ab]at hi;exact hi
    have N:bs[i]?=some bs[i]:=aj cy;have hv:(jl es n)[i]?=some (jl es n)[i]:=aj (by omega);generalize bs[i]=z at N;generalize (jl es n)[i]=v at hv;obtain⟨c3,c1,m,hm,a5⟩:=DD (a3 (z,v) (ak (i:=i) (dQ.mpr ⟨N,hv⟩)));have D:=s1.trans s2;have ei:(0+(i:Int))=((i:Nat):Int):=by omega
    have t:tJ (bs.map V.int) (0+(i:Int))=some (.int z):=by rw[ei];exact oW (by rw[ae,N];rfl)
    have al:tJ ((jl es n).map V.int) (0+(i:Int))=some (.int v):=by rw[ei];exact oW (by rw[ae,hv];rfl)
    have Z:fb K H2 U (bs.map V.int):=fb.of (D _ _ ad);refine⟨_,rfl,_,rfl,U,_,_,_,rfl,rfl,Z,t,_,_,rfl,rfl,_,rfl,kJ (fun e=>absurd (aR e) (by omega)) (fun _=>?_)⟩;refine⟨_,rfl,_,rfl,U,_,_,_,rfl,rfl,Z,t,_,rfl,_,_,rfl,rfl,_,rfl,kJ (fun e=>absurd (aR e) (by omega)) (fun _=>?_)⟩;obtain⟨mv,cn,bx⟩:=i6 a8 hm;obtain⟨mq,ma,mr,rfl,cs,⟨xs,a1,cp⟩,_⟩:=qk.same D bx;have as:=ap m (mM hm);refine⟨_,rfl,_,rfl,_,rfl,U,_,_,_,rfl,rfl,Z,t,la,_,_,_,rfl,rfl,fb.of (D _ _ hy),jM cn,mq,_,_,_,rfl,rfl,gy.of cs,rfl,ma,rfl,⟨xs,fb.of a1⟩,?_⟩;refine gq (K:=K) (a:=ma) (xs:=xs) (fun j σ H3=>∃p,σ=[some (.ref sh),some (.ref st),some (.ref la),some (.int spot),some (.ref pa),some (.str (ng l.2.told)),some wv,some (.int l.2.place),some (.ref U),some (.ref J),some (.ref S),some (.ref va),some (.int (0+(i:Int))),p]∧eF H2 H3)
     ⟨p,rfl,eF.refl _⟩ (by rintro j σ H3 _ ⟨_,_,B⟩;exact fb.of (B _ _ a1)) ?_ ?_
    ·rintro j x σ H3 hj ⟨a2,rfl,B⟩;obtain⟨k,bm,R⟩:=Paired.KA cp hj;obtain⟨kq,rfl,r⟩:=id R;have a0:=ak bm;have g:=as.pk k a0;have a4:=D.trans B;refine⟨_,rfl,_,rfl,kI k,l.1.map kI,fD.rep ⟨kq,rfl,B _ _ r⟩,(lV.same a4 h2).rep,(km g).1,mE d.pk,(km g).2,_,rfl,?_⟩;rw[if_pos rfl,qh];by_cases c:k∈l.1
     ·rw[ao c];exact ff (ff ⟨_,rfl,B⟩)
     rw[au c];refine gL ⟨_,rfl,_,rfl,S,_,_,_,rfl,rfl,gy.of (a4 _ _ L),rfl,_,rfl,_,rfl,va,_,_,_,rfl,rfl,fb.of ((s2.trans B) _ _ a6),al,(by show 2≤sizeLine;decide),fun t2 ch=>?_⟩;have s5:=eA ch (.tup [.str n.1,.int v]);refine⟨kI k,kI (n.1,v),fD.rep ⟨kq,rfl,s5 _ _ (B _ _ r)⟩,fD.rep (k:=(n.1,v)) ⟨t2,rfl,d0⟩,i5 (ua g) (by decide),i5 (ua (k:=(n.1,v)) b5) (by decide),_,rfl,?_⟩;rw[v4,ao ((a5 k a0).resolve_left c)];exact ff ⟨_,rfl,B.trans s5⟩
    ·rintro σ H3 ⟨a2,rfl,B⟩;exact⟨_,_,rfl,s2.trans B⟩
   ·rintro σ H2 ⟨aa,p,rfl,s2⟩;exact q H2 (s1.trans s2)
 obtain⟨c2,ct,a7⟩:=r4;refine⟨_,(ee (eJ (i:=4) oy.nd rfl (Or.inl rfl) (eK eP (eK fg (pv 2) (pv 3) (fun _ _=>rfl)) et (fun _ _=>rfl))) (ee (Aa (eK eP (eK fg (pv 2) (pv 3) (fun _ _=>rfl)) et (fun _ _=>rfl)) (nF rfl (gz (eN (i:=5) oy.nd rfl (Or.inl rfl)) (gz (eN (i:=6) oy.nd rfl (Or.inl rfl)) (gz (eN (i:=7) oy.nd rfl (Or.inl rfl)) (gz (eN (i:=8) oy.nd rfl (Or.inl rfl)) lF)))))) (ee (eJ (i:=9) oy.nd rfl (Or.inl rfl) (pv 1)) (ee (fz (gZ (mJ (pv 6))) (ee (eJ (i:=9) oy.nd rfl (Or.inl rfl) (fe G1 an rfl m1 k1 b1 .nil eT (dZ (pv 0) (dZ (pv 6) el)))) (eo (fz (PW.pt (iS (gZ (pQ (pv 9))) (iz (fi (nJ hr.units) (pv 6) (pv 4) (by with_unfolding_all rfl))))) iK eO))) eO) ct)))),?_⟩;refine⟨_,rfl,_,rfl,la,_,_,_,rfl,rfl,fb.of hy,O,lq,_,_,_,rfl,rfl,gy.of h1,rfl,?_⟩;refine⟨_,rfl,_,rfl,la,_,_,_,rfl,rfl,fb.of hy,O,lq,_,_,_,rfl,rfl,gy.of h1,rfl,rq,_,rfl,gy.of b6,rfl,_,_,rfl,_,_,rfl,_,_,rfl,_,_,rfl,rfl,?_⟩;refine⟨_,rfl,?_⟩;cases ew:l.2.who with
 |none=>
  rw[ew]at hw y;cases (show wv=.non from hw);obtain⟨zs,N,cv⟩:=bq;exact⟨_,rfl,_,rfl,ff (a7 st zs sn N cv y)⟩
 |some k=>
  rw[ew]at hw y M;have R:fD H wv k:=hw;have g:=d.who k ew;obtain⟨kq,rfl,r⟩:=id R;have o:(decide (k∈l.1)&&decide (k∈es.map eX))=true:=M;rw[aD]at o;refine⟨_,rfl,_,rfl,gL ?_⟩;refine⟨_,rfl,_,rfl,sh,.ref kq,es,k,rfl,bd,R,a9,fun e he bv J zs C cz=>?_,fun Y=>absurd (aR o.2) Y⟩;refine⟨_,rfl,_,rfl,ff ⟨_,rfl,_,rfl,kI k,l.1.map kI,R.rep,h2.rep,(km g).1,mE d.pk,(km g).2,_,rfl,?_⟩⟩;rw[if_pos rfl,qh,o.1];refine ff (a7 J zs e.2.2 C cz ?_);have Y:gO es k=e.2.2:=by rw[←bv,lh a9 he]
  rw[←Y];exact y
end
section
variable {base:Heap}{f:Addr}
inductive qi (vs:List V)(H:Hp)(Q:VK)(E:XK):Prop
 |mk (sh st la:Addr)(es:List En)(sn:List Nd)(ls:List Ln)(_:vs=[.ref sh,.ref st,.ref la])(_:iP H sh es)(_:es.length<64)(_:(es.map eX).Nodup)(_:(∀e∈es,kD e))(_:gC H st sn)(_:(∀n∈sn,fT n.1))(_:lC H la ls)(_:(∀l∈ls,BT l))(_:ls.length<sizeLine)(_:(∀(i:Nat) (l:Ln),ls[i]?=some l→jj es sn ls (i:Nat) l=true))(_:∀H',eF H H'→Q (.bl true) H'):qi vs H Q E
def kO:Sp:=qi
theorem GP:eM ["_law_shelf","_law_start","_law_lines","_law_spot"] ["_law_shelf","_law_start","_law_lines"] (eE lX):=jc
theorem sM (F:iQ K "_law_lines_hold" "_law_lines_hold" lX f fd)(T:wn K mg)(G:eZ P w K mg base fh 4 g gd ["_law_found"] tV)(Y:gi K gd ["_law_found"] [])(kG:W.keepIn K (.ref g)=true)(mG:mg "_law_is_line" = some (.ref g))(G2:eZ P w K mg base fh 4 g2 gd2 ["_law_shelf","_law_start","_law_lines","_law_spot"] tW)(R:gi K gd2 ["_law_shelf","_law_start","_law_lines","_law_spot"] [])(y:W.keepIn K (.ref g2)=true)(C:mg "_law_holds" = some (.ref g2)):eZ P w K mg base fh 5 f fd ["_law_shelf","_law_start","_law_lines"] kO:=by
 refine F.ok GP (fun vs H Q E h=>?_) (fun aa A v s H vs Q E U h=>?_)
 ·obtain⟨p,st,e,es,sn,ls,rfl,_⟩:=h;rfl
 obtain⟨p,st,e,es,sn,ls,rfl,L,O,D,J,r,M,l,N,o,b,q⟩:=h;obtain⟨xs,I,hp⟩:=id l;have Z:=Paired.length hp;refine⟨_,(ee (fz (gE (gu (eR fj rfl T.isin be (dZ (pv 2) (dZ (iC rfl T.list cN) el))))) (eo (eL gW)) eO) (ee (fZ PassesOwn.never rfl (jZ rfl T.range (dZ (eR fA rfl T.len bu (dZ (pv 2) el)) el)) (eN (i:=3) GP.nd rfl (Or.inl rfl)) (eo (fz (PW.pt (iS (gE (gu (fe G U rfl mG kG Y .nil eT (dZ (eK fg (pv 2) (pv 3) (fun _ _=>rfl)) el)))) (iz (gE (gu (fe G2 U rfl C y R .nil eT (dZ (pv 0) (dZ (pv 1) (dZ (pv 2) (dZ (pv 3) el)))))))))) (eo (eL gW)) eO))) (eo (eL gW)))),?_⟩;refine⟨_,rfl,_,_,_,_,rfl,jw.lst I,l9 K,_,rfl,ff ?_⟩;have S:ls.length<2^24:=aY o (by show sizeLine≤2^24;decide);refine⟨_,rfl,e,_,rfl,.inl (fb.of I),_,rfl,by lia,by lia,?_⟩;refine lJ (fun j σ H2=>∃B,σ=[some (.ref p),some (.ref st),some (.ref e),B]∧eF H H2) ⟨none,rfl,eF.refl _⟩ ?_ ?_
 ·rintro j σ H2 X ⟨B,rfl,a⟩;have t:j<ls.length:=by rw[bA,Z]at X;exact X
  have d:ls[j]?=some ls[j]:=aj t;have ej:(0+(j:Int))=((j:Nat):Int):=by lia
  obtain⟨x,z,m⟩:=i6 hp (show iD ls ((j:Nat):Int)=some ls[j] by rw[im];exact d);rw[ej];refine⟨_,rfl,_,rfl,e,_,_,x,rfl,rfl,fb.of (a _ _ I),jM z,x,ls[j],rfl,m.same a,_,rfl,ff ?_⟩;refine⟨_,rfl,_,rfl,_,rfl,_,rfl,p,st,e,es,sn,ls,j,ls[j],rfl,L.same a,O,D,J,r.same a,M,l.same a,N,d,b j ls[j] d,fun H3 s3=>⟨_,rfl,ff ⟨_,rfl,a.trans s3⟩⟩⟩
 ·rintro σ H2 ⟨B,rfl,a⟩;exact q H2 a
end
section
variable {base:Heap}{f:Addr}
theorem EN:eM ["_law_found","_law_reason","_law_place"] ["_law_found"] (eE sk):=jc
theorem yt (F:iQ K "_law_is_line" "_law_is_line" sk f fd)(T:wn K mg)(G:eZ P w K mg base fh 3 g gd ["_law_found"] ke)(bG:gi K gd ["_law_found"] [])(kG:W.keepIn K (.ref g)=true)(mG:mg "_law_are_picks" = some (.ref g))(G2:eZ P w K mg base fh 2 g2 gd2 ["_law_found"] pi)(R:gi K gd2 ["_law_found"] [])(I:W.keepIn K (.ref g2)=true)(M:mg "_law_is_pick" = some (.ref g2))(G3:eZ P w K mg base fh 1 g3 gd3 ["_law_found"] rn)(N:gi K gd3 ["_law_found"] [])(S:W.keepIn K (.ref g3)=true)(L:mg "_law_whole" = some (.ref g3)):eZ P w K mg base fh 4 f fd ["_law_found"] tV:=by
 refine F.ok EN (fun vs H Q E h=>?_) (fun ag A X s H vs Q E Z h=>?_)
 ·obtain⟨v,l,rfl,_⟩:=h;rfl
 obtain⟨v,l,rfl,⟨t,a,rv,rfl,U,Y,j,wv,tv,rfl,d,y,o⟩,q⟩:=h;have D:gM 2 _:=Z.mono (by decide);have O:gM 1 _:=Z.mono (by decide);refine⟨_,(ee (fz (PW.pt (iS (gE (gu (eR fj rfl T.isin be (dZ (pv 0) (dZ (iC rfl T.tuple dX) el))))) (iS (fi kZ (eR fA rfl T.len bu (dZ (pv 0) el)) et (fF _)) (iz (gE (gu (fe G Z rfl mG kG bG .nil eT (dZ (eK eP (pv 0) et (fun _ _=>rfl)) el)))))))) (eo (eL gW)) eO) (ee (eJ (i:=1) EN.nd rfl (Or.inl rfl) (eK eP (pv 0) et (fun _ _=>rfl))) (ee (fz (PW.pt (iS (gE (gu (eR fj rfl T.isin be (dZ (pv 1) (dZ (iC rfl T.tuple dX) el))))) (iS (fi kZ (eR fA rfl T.len bu (dZ (pv 1) el)) et (fF _)) (iz (gE (gu (eR fj rfl T.isin be (dZ (eK eP (pv 1) et (fun _ _=>rfl)) (dZ (iC rfl T.str boot_str) el))))))))) (eo (eL gW)) eO) (ee (fz (PW.pt (lY (gZ (mJ (eK eP (pv 1) et (fun _ _=>rfl)))) (kg (gE (gu (fe G2 D rfl M I R .nil eT (dZ (eK eP (pv 1) et (fun _ _=>rfl)) el))))))) (eo (eL gW)) eO) (ee (fz (gE (gu (fe G3 O rfl L S N .nil eT (dZ (eK eP (pv 1) et (fun _ _=>rfl)) el)))) (eo (eL gW)) eO) (ee (fz (fi kE (eK eP (pv 1) et (fun _ _=>rfl)) iZ (fF _)) (eo (eL (fe G2 D rfl M I R .nil eT (dZ (eK eP (pv 1) et (fun _ _=>rfl)) el)))) eO) (ee (fz (PW.pt (iS (fi kZ (eK eP (pv 1) et (fun _ _=>rfl)) iZ (fF _)) (iz (gE (gu (eR fj rfl T.isin be (dZ (eK eP (pv 1) et (fun _ _=>rfl)) (dZ (iC rfl T.list cN) el)))))))) (eo (eL gW)) eO) (ee (fZ PassesOwn.never rfl (fO (eK eP (pv 1) et (fun _ _=>rfl))) (eN (i:=2) EN.nd rfl (Or.inl rfl)) (eo (fz (gE (gu (fe G3 O rfl L S N .nil eT (dZ (pv 2) el)))) (eo (eL gW)) eO))) (eo (eL gW)))))))))),?_⟩;refine⟨_,rfl,_,_,_,_,rfl,jw.tup U,ll K,_,rfl,ff ?_⟩;refine⟨_,rfl,t,_,rfl,.inr (gy.of U),rfl,_,rfl,ff ?_⟩;refine⟨_,rfl,t,_,_,_,rfl,rfl,gy.of U,rfl,a,l.1,rfl,Y,_,rfl,ff ?_⟩;refine⟨_,rfl,t,_,_,_,rfl,rfl,gy.of U,rfl,?_⟩;refine⟨_,rfl,_,_,_,_,rfl,jw.tup d,ll K,_,rfl,ff ?_⟩;refine⟨_,rfl,j,_,rfl,.inr (gy.of d),rfl,_,rfl,ff ?_⟩;refine⟨_,rfl,j,_,_,_,rfl,rfl,gy.of d,rfl,_,_,_,_,rfl,.str _,sX K,_,rfl,ff ?_⟩;have key:∀(b:Bool),b=true→True:=fun _ _=>trivial;obtain⟨ps,⟨aa,p,r⟩⟩:=l;dsimp only at y o d;cases aa with
 |none=>
  cases (show wv=.non from y);refine⟨_,rfl,j,_,_,_,rfl,rfl,gy.of d,rfl,_,rfl,ff (ff ?_)⟩;refine⟨_,rfl,j,_,_,_,rfl,rfl,gy.of d,rfl,p,rfl,_,rfl,ff ?_⟩;cases r with
  |one k=>
   refine⟨_,rfl,j,_,_,_,rfl,rfl,gy.of d,rfl,rfl,_,rfl,gL ?_⟩;exact⟨_,rfl,j,_,_,_,rfl,rfl,gy.of d,rfl,tv,k,rfl,o,q⟩
  |many bs=>
   obtain⟨J,rfl,m⟩:=o;refine⟨_,rfl,j,_,_,_,rfl,rfl,gy.of d,rfl,rfl,_,rfl,ff ?_⟩;refine⟨_,rfl,j,_,_,_,rfl,rfl,gy.of d,rfl,rfl,_,rfl,ff ?_⟩;refine⟨_,rfl,j,_,_,_,rfl,rfl,gy.of d,rfl,_,_,_,_,rfl,jw.lst m,l9 K,_,rfl,ff ?_⟩;refine⟨_,rfl,j,_,_,_,rfl,rfl,gy.of d,rfl,J,rfl,⟨_,fb.of m⟩,?_⟩;refine gq (K:=K) (a:=J) (xs:=bs.map V.int) (fun i σ H2=>∃B,σ=[some (.ref t),some (.ref j),B]∧H2=H) ⟨none,rfl,rfl⟩ (fun i σ H2 _ ⟨_,_,e⟩=>by rw[e];exact fb.of m) ?_ ?_
   ·rintro i x σ H2 hi ⟨B,rfl,rfl⟩;rw[ae]at hi;obtain⟨z,_,rfl⟩:=aw.mp hi;exact⟨_,rfl,z,rfl,_,rfl,ff ⟨_,rfl,rfl⟩⟩
   ·rintro σ H2 ⟨B,rfl,rfl⟩;exact q
 |some kw=>
  have C:fD H wv kw:=y;obtain⟨wq,rfl,ad⟩:=id C;refine⟨_,rfl,j,_,_,_,rfl,rfl,gy.of d,rfl,_,rfl,gL ?_⟩;refine⟨_,rfl,j,_,_,_,rfl,rfl,gy.of d,rfl,_,kw,rfl,C,_,rfl,ff ?_⟩;refine⟨_,rfl,j,_,_,_,rfl,rfl,gy.of d,rfl,p,rfl,_,rfl,ff ?_⟩;cases r with
  |one k=>
   refine⟨_,rfl,j,_,_,_,rfl,rfl,gy.of d,rfl,rfl,_,rfl,gL ?_⟩;exact⟨_,rfl,j,_,_,_,rfl,rfl,gy.of d,rfl,tv,k,rfl,o,q⟩
  |many bs=>
   obtain⟨J,rfl,m⟩:=o;refine⟨_,rfl,j,_,_,_,rfl,rfl,gy.of d,rfl,rfl,_,rfl,ff ?_⟩;refine⟨_,rfl,j,_,_,_,rfl,rfl,gy.of d,rfl,rfl,_,rfl,ff ?_⟩;refine⟨_,rfl,j,_,_,_,rfl,rfl,gy.of d,rfl,_,_,_,_,rfl,jw.lst m,l9 K,_,rfl,ff ?_⟩;refine⟨_,rfl,j,_,_,_,rfl,rfl,gy.of d,rfl,J,rfl,⟨_,fb.of m⟩,?_⟩;refine gq (K:=K) (a:=J) (xs:=bs.map V.int) (fun i σ H2=>∃B,σ=[some (.ref t),some (.ref j),B]∧H2=H) ⟨none,rfl,rfl⟩ (fun i σ H2 _ ⟨_,_,e⟩=>by rw[e];exact fb.of m) ?_ ?_
   ·rintro i x σ H2 hi ⟨B,rfl,rfl⟩;rw[ae]at hi;obtain⟨z,_,rfl⟩:=aw.mp hi;exact⟨_,rfl,z,rfl,_,rfl,ff ⟨_,rfl,rfl⟩⟩
   ·rintro σ H2 ⟨B,rfl,rfl⟩;exact q
end
inductive BO (K:W.Frag)(vs:List V)(H:Hp)(Q:VK)(E:XK):Prop
 |mk (a:Addr)(ns:List Int)(_:vs=[.ref a])(_:fb K H a (ns.map V.int))(_:ns.length≤63)(_:∀t sh st (es:List En) (sn:List Nd) H',eF H H'→H' t=some (.tup [.ref sh,.ref st])→iP H' sh es→(es.map eX).Nodup→(∀e∈es,kD e)→es.length≤59→(∀e∈es,Lw e)→gC H' st sn→(∀n∈sn,fT n.1)→sn.length≤63→Q (.ref t) H'):BO K vs H Q E
def rM (K:W.Frag):Sp:=BO K
theorem uy (ns:List Int)(lo hi:Option Int):∃ms:List Int,qe (ns.map V.int) lo hi=ms.map V.int∧ms.length≤ns.length:=by
 refine⟨(ns.drop (HT.oJ (ns.map V.int).length 0 lo)).take (HT.oJ (ns.map V.int).length (ns.map V.int).length hi-HT.oJ (ns.map V.int).length 0 lo),?_,?_⟩
 ·unfold qe;rw[cK,List.map_drop]
 ·rw[aS,List.length_drop];omega
theorem Bu (ns:List Int)(k:Nat):∃ms:List Int,qe (ns.map V.int) (some (k:Int)) none=ms.map V.int∧ms.length≤ns.length-k:=by
 have e:HT.oJ (ns.map V.int).length 0 (some (k:Int))=min k (ns.map V.int).length:=HT.wH _ _ k;refine⟨(ns.drop (HT.oJ (ns.map V.int).length 0 (some (k:Int)))).take (HT.oJ (ns.map V.int).length (ns.map V.int).length none-HT.oJ (ns.map V.int).length 0 (some (k:Int))),?_,?_⟩
 ·unfold qe;rw[cK,List.map_drop]
 ·rw[aS,List.length_drop,e,ab];omega
section
variable {base:Heap}{f:Addr}
theorem DN:eM ["_law_script","_law_shelf"] ["_law_script"] (eE vt):=jc
theorem AF (F:iQ K "_law_asked_by" "_law_asked_by" vt f fd)(G:eZ P w K mg base fh 3 g gd ["_law_cells"] (wD K))(Y:gi K gd ["_law_cells"] [])(kG:W.keepIn K (.ref g)=true)(mG:mg "_law_shelf_by" = some (.ref g))(G2:eZ P w K mg base fh 3 g2 gd2 ["_law_cells"] (qC K))(N:gi K gd2 ["_law_cells"] [])(m:W.keepIn K (.ref g2)=true)(x:mg "_law_start_by" = some (.ref g2))(G3:eZ P w K mg base fh 1 g3 gd3 ["_law_script","_law_k"] (GA K))(D:gi K gd3 ["_law_script","_law_k"] [])(O:W.keepIn K (.ref g3)=true)(r:mg "_law_at" = some (.ref g3)):eZ P w K mg base fh 4 f fd ["_law_script"] (rM K):=by
 refine F.ok DN (fun vs H Q E h=>?_) (fun ad A l s H vs Q E v h=>?_)
 ·obtain⟨a,d,rfl,_⟩:=h;rfl
 obtain⟨a,d,rfl,M,hl,q⟩:=h;have I:gM 1 _:=v.mono (by decide);refine⟨_,(ee (eJ (i:=1) DN.nd rfl (Or.inl rfl) (fe G v rfl mG kG Y .nil eT (dZ (mF oH (pv 0) (mD et) sC) el))) (eo (eL (gT (dZ (pv 1) (dZ (fe G2 v rfl x m N .nil eT (dZ (mF oH (pv 0) (mD et) (mD (fm l6 et (fm kr (fe G3 I rfl r O D .nil eT (dZ (pv 0) (dZ et el))) et)))) el)) el)))))),?_⟩;obtain⟨B,e1,l1⟩:=Bu d 4;refine⟨_,rfl,4,rfl,a,_,rfl,M,fun p1 j=>?_⟩;rw[show qe (d.map V.int) (some 4) none=B.map V.int from e1];have s1:=eA j (.lst (B.map V.int));refine⟨p1,B,rfl,fb.of d0,by omega,fun T es xs H2 s2 ag h2 L C J ah o=>?_⟩;have b:=s1.trans s2;refine⟨_,rfl,_,rfl,1,rfl,_,rfl,a,d,0,rfl,b.seq M,Int.le_refl 0,fun z=>⟨_,_,rfl,rfl,(by show(0:Int)<4;decide),_,_,rfl,rfl,_,rfl,a,_,rfl,b.seq M,fun p2 p=>?_⟩⟩;obtain⟨S,e2,l2⟩:=uy d (some 1) (some (1+z % 4));rw[e2];have s3:=eA p (.lst (S.map V.int));refine⟨p2,S,rfl,fb.of d0,by omega,fun st sn H4 X h4 R aa=>?_⟩;refine⟨(by show 2≤sizeLine;decide),fun t Z=>?_⟩;have U:=eA Z (.tup [.ref T,.ref st]);have e:=(s3.trans X).trans U;exact q t T st es sn _ (b.trans e) d0 (iP.same e ⟨xs,h2,Paired.Kg L fun _ _ y=>jX.same (fB _ _) y⟩) C J (by omega) o (gC.same U h4) R (by omega)
end
end FB
namespace FB
open PySem L2 PyProof.Rows
variable {nm:List Str}{x:Str}
inductive Wk (es:List En)(ps:List Pk):List Nd→List Str→List Str→Prop
 |done {nm:List Str}:Wk es ps [] nm nm
 |old {ah:List Nd} {n:Nd} {nm fin:List Str}:n.1∈nm→Wk es ps ah nm fin→Wk es ps (ah++[n]) nm fin
 |new {ah:List Nd} {n:Nd} {nm fin:List Str} {z:Int}:n.1∉nm→jm ps n.1=some z→Wk es ps (ah++gO es (n.1,z)) (nm++[n.1]) fin→Wk es ps (ah++[n]) nm fin
def Ci (es:List En)(sn:List Nd)(ps:List Pk):Prop:=BS (FO ps) (x6 es sn ps)∧BS (AZ ps) (x6 es sn ps)
theorem rm:∀{l m:List Str},l.Nodup→(∀x∈l,x∈m)→l.length≤m.length
 |[],_,_,_=>bo _
 |x::l,m,hn,hs=>by
  rw[aV]at hn;have hx:=hs x (by simp);have ih:=rm (l:=l) (m:=m.erase x) hn.2 fun y hy=>by
   have hne:y≠x:=fun e=>hn.1 (e▸hy);exact(List.mem_erase_of_ne hne).mpr (hs y (by simp[hy]))
  have hlen:(m.erase x).length=m.length-1:=List.length_erase_of_mem hx;have:0<m.length:=List.length_pos_of_mem hx;rw[aA];omega
theorem zm {ps:List Pk}{z:Int}(h:jm ps x=some z):(x,z)∈ps:=by
 unfold jm at h;obtain⟨k,a,rfl⟩:=aw.mp h;have h1:=ca a;have h2:=List.find?_some a;have b:k.1=x:=aR h2;rw[←b];exact h1
theorem Bc {ps:List Pk}(b:(ps.map (·.1)).Nodup){k:Pk}(h:k∈ps):jm ps k.1=some k.2:=by
 unfold jm
 induction ps with
 |nil=>cases h
 |cons a ps ih=>
  rw[aE,aV]at b;rw[bp];rcases am.mp h with z | z
  ·subst z;rw[ao rfl];rfl
  ·have:¬a.1=k.1:=fun y=>b.1 (y▸bh z);rw[au this];exact ih b.2 z
def jO (ps:List Pk)(nm:List Str):Nat:=(ps.filter fun k=>decide (k.1∉nm)).length
theorem AV (ps:List Pk)(nm:List Str):jO ps nm≤ps.length:=bD _ _
theorem pW {x:Str}{nm:List Str}:∀ps:List Pk,jO ps (nm++[x])≤jO ps nm
 |[]=>aq _
 |k::ps=>by
  have ih:=pW (x:=x) (nm:=nm) ps;unfold jO at *;rw[aG,aG];by_cases h:k.1∈nm++[x]
  ·rw[if_neg (fun z=>absurd h (aR z))]
   split
   ·rw[aA];omega
   ·exact ih
  ·have h':k.1∉nm:=fun z=>h (aQ _ z);rw[if_pos (ao h),if_pos (ao h'),aA,aA];omega
theorem pX {x:Str}{nm:List Str}(hx:x∉nm):∀{ps:List Pk},x∈ps.map (·.1)→jO ps (nm++[x])+1≤jO ps nm
 |[],h=>by simp at h
 |k::ps,h=>by
  rw[aE,am]at h;by_cases hk:k.1=x
  ·have m:=pW (x:=x) (nm:=nm) ps;unfold jO at *;rw[aG,aG,if_neg (fun z=>absurd (show k.1∈nm++[x] by rw[hk];simp) (aR z)),if_pos (by rw[hk];exact ao hx),aA];omega
  ·have ih:=pX hx (ps:=ps) (h.resolve_left fun z=>hk z.symm);unfold jO at *;rw[aG,aG];by_cases h2:k.1∈nm++[x]
   ·rw[if_neg (fun z=>absurd h2 (aR z))]
    split
    ·rw[aA];omega
    ·exact ih
   ·have h':k.1∉nm:=fun z=>h2 (aQ _ z);rw[if_pos (ao h2),if_pos (ao h'),aA,aA];omega
def oz (nm:List Str):List (gv×V):=nm.map fun x=>(Sum.inr x,V.bl true)
theorem oY (x:Str):∀nm:List Str,(eW (oz nm) (Sum.inr x:gv)).isSome=decide (x∈nm)
 |[]=>by simp[oz,eW]
 |y::nm=>by
  have ih:=oY x nm;unfold oz at *;rw[aE];by_cases h:y=x
  ·rw[gs (by rw[h]),h];simp
  ·rw[ge (fun z=>h (Sum.inr.inj z)),ih];have:(x∈y::nm)↔x∈nm:=by
    rw[am];exact⟨fun z=>z.resolve_left fun q=>h q.symm,.inr⟩
   simp only[this]
theorem CN (h:x∉nm):fq (oz nm) (Sum.inr x) (V.bl true)=oz (nm++[x]):=by
 have a:eW (oz nm) (Sum.inr x:gv)=none:=by
  have z:=oY x nm;rw[au h]at z;cases y:eW (oz nm) (Sum.inr x:gv) with
  |none=>rfl
  |some u=>rw[y]at z;cases z
 rw[hZ _ a];unfold oz;rw[ay];rfl
theorem qL {es:List En}(a:∀e∈es,kD e)(k:Pk):(gO es k).length≤100:=by
 unfold gO
 split
 next e h=>exact(a e (ca h)).few
 next=>exact bo _
theorem sN {es:List En}(a:∀e∈es,kD e)(k:Pk):∀n∈gO es k,fT n.1:=by
 unfold gO
 split
 next e h=>exact(a e (ca h)).nd
 next=>intro n b;cases b
end FB
namespace L2
open PySem PySem.Spec PyProof.Rows
theorem yX {X:Cx}:jr X (.builtin "len") (fun xs H Q=>∃a kvs,xs=[V.ref a]∧H a=some (.dK kvs)∧Q (.int kvs.length) H):=by
 intro pins s σ H xs us Q I r h;obtain⟨a,kvs,rfl,b,q⟩:=h;obtain⟨u,rfl,d⟩:=jo r;cases d;exact Hy I (.inl b) fun t s' e=>⟨.int kvs.length,H,e,⟨t,rfl⟩,q⟩
end L2
namespace FB
open PySem L2 PyProof.Rows
def wN (es:List En)(ps:List Pk):Prop:=∀k∈ps,k∈es.map eX
end FB
namespace FB
open PySem L2 PyProof.Rows
seal nX PS PE PT PA
theorem fR.Mn {H:Hp}{p:Addr}{ys zs:List V}{v:V}{n:Nd}(hp:H p=some (.lst ys))(h:fR H v n):fR (upd H p (.lst zs)) v n:=by
 obtain⟨q,h1,h2⟩:=h;exact⟨q,h1,by rw[ef (fC h2 hp (by intro z;cases z))];exact h2⟩
theorem EV {es:List En}{ps:List Pk}(h:wN es ps)(a:∀e∈es,kD e):iW 2 (.list (ps.map kI))=true:=by
 rw[iW,bc];intro d b;obtain⟨k,g,rfl⟩:=av.mp b;obtain⟨e,i,rfl⟩:=av.mp (h k g);simp[kI,iW,eX,(a e i).pt.ok]
theorem AJ {sn:List Nd}(h:∀n∈sn,fT n.1):iW 2 (.list (sn.map sP))=true:=by
 rw[iW,bc];intro d a;obtain⟨n,b,rfl⟩:=av.mp a;exact AK (h n b)
theorem fR.Mo {H:Hp}{p:Addr}{o o':HO}{v:V}{n:Nd}(hp:H p=some o)(a:∀xs,HO.tup xs≠o)(h:fR H v n):fR (upd H p o') v n:=by
 obtain⟨q,h1,h2⟩:=h;exact⟨q,h1,by rw[ef (fC h2 hp (a _))];exact h2⟩
def FE (es:List En)(sn:List Nd)(ps:List Pk)(n:Nd):Prop:=∃ns∈x6 es sn ps,n∈ns
theorem Jg (a:List Str)(ps:List Pk):decide (V.int ((oz a).length:Int)=V.int (ps.length:Int))=decide (a.length=ps.length):=by
 have h1:(oz a).length=a.length:=by unfold oz;rw[ab]
 rw[h1];by_cases z:a.length=ps.length
 ·rw[ao z,ao (by rw[z])]
 ·rw[au z,au (fun y=>z (by injection y with y;exact Int.ofNat.inj y))]
section
variable {P:Program}{w:World}{K:W.Frag}{mg:Str→Option Value}{base:Heap}{f:Addr}{fd:FuncData}
theorem x3:eM ["_law_shelf","_law_start","_law_picks","_law_version","_law_pick","_law_wanted","_law_seen","_law_need"] ["_law_shelf","_law_start","_law_picks"] (eE vp):=jc
end
inductive xA (vs:List V)(H:Hp)(Q:VK)(E:XK):Prop
 |mk (sh st pk:Addr)(es:List En)(sn:List Nd)(ps:List Pk)(_:vs=[.ref sh,.ref st,.ref pk])(_:iP H sh es)(_:(es.map eX).Nodup)(_:(∀e∈es,kD e))(_:gC H st sn)(_:(∀n∈sn,fT n.1))(_:sn.length≤900)(_:lV H pk ps)(_:wN es ps)(_:(ps.map (·.1)).Nodup)(_:ps.length≤900)(_:Ci es sn ps)(_:∀fin,Wk es ps sn [] fin→fin.Nodup→(∀x∈fin,x∈ps.map (·.1))→fin.length=ps.length)(_:∀H',eF H H'→Q (.bl true) H'):xA vs H Q E
def ph:Sp:=xA
inductive HP (H0:Hp)(es:List En)(sn:List Nd)(ps:List Pk)(sh st pk vd wa sd:Addr)(m:Nat)(σ:L2.St)(H:Hp):Prop
 |mk (zs an nm o4 o7:_)(_:σ=[some (.ref sh),some (.ref st),some (.ref pk),some (.ref vd),o4,some (.ref wa),some (.ref sd),o7])(_:H vd=some (.dK (uZ ps)))(_:H sd=some (.dK (oz nm)))(_:H wa=some (.lst zs))(_:Paired (fR H) zs an)(_:(∀n∈an,fT n.1∧FE es sn ps n))(_:nm.Nodup)(_:(∀x∈nm,x∈ps.map (·.1)))(_:(∀fin,Wk es ps an nm fin→Wk es ps sn [] fin))(_:nm.length+jO ps nm≤ps.length)(_:101*jO ps nm+an.length=m):HP H0 es sn ps sh st pk vd wa sd m σ H
structure JJ (H0:Hp)(es:List En)(sn:List Nd)(ps:List Pk)(sh st pk vd wa sd:Addr)(m:Nat)(σ:L2.St)(H:Hp):Prop where
 ex:HP H0 es sn ps sh st pk vd wa sd m σ H
 sm:eF H0 H
 le:m≤100000
section
variable {P:Program}{w:World}{K:W.Frag}{mg:Str→Option Value}{base:Heap}{f:Addr}{fd:FuncData}
theorem yo {g g2:Addr}{gd gd2:FuncData}(F:iQ K "_law_fits" "_law_fits" vp f fd)(T:wn K mg)(G:eZ P w K mg base fh 1 g gd ["_law_shelf","_law_pick"] nu)(bG:gi K gd ["_law_shelf","_law_pick"] [])(kG:W.keepIn K (.ref g)=true)(mG:mg "_law_needs_in" = some (.ref g))(G2:eZ P w K mg base fh 1 g2 gd2 ["_law_need","_law_version"] (mz K))(c3:gi K gd2 ["_law_need","_law_version"] [])(cp:W.keepIn K (.ref g2)=true)(c8:mg "_law_meets" = some (.ref g2)):eZ P w K mg base fh 2 f fd ["_law_shelf","_law_start","_law_picks"] ph:=by
 refine F.ok x3 (fun vs H Q E h=>?_) (fun d2 A c5 s H vs Q E hr h=>?_)
 ·obtain⟨sh,st,pk,es,sn,ps,rfl,_⟩:=h;rfl
 obtain⟨sh,st,pk,es,sn,ps,rfl,b8,al,a8,⟨r,co,cn⟩,c2,dn,⟨xs,L,hp⟩,a6,da,d1,Y,b2,q⟩:=h;have hu:=gR hr;refine⟨_,(ee (eJ (i:=3) x3.nd rfl (Or.inl rfl) il) (ee (fZ PassesOwn.never rfl (fO (pv 2)) (eN (i:=4) x3.nd rfl (Or.inl rfl)) (ee (fz (PW.pt (iS (gZ (sI hu (eK eP (pv 4) et (fun _ _=>rfl)) (pv 3))) (iz (gZ (pQ (fe G hr rfl mG kG bG .nil eT (dZ (pv 0) (dZ (pv 4) el)))))))) iK eO) (eo (ja hu (pv 3) (eK eP (pv 4) et (fun _ _=>rfl)) (eK eP (pv 4) et (fun _ _=>rfl)) rfl)))) (ee (eJ (i:=5) x3.nd rfl (Or.inl rfl) (iL iU rfl T.list cN (dZ (pv 1) el))) (ee (eJ (i:=6) x3.nd rfl (Or.inl rfl) il) (ee (jy PassesOwn.never (fi (pS hr.units) (pv 5) (gl el) (fF _)) (ee (eJ (i:=7) x3.nd rfl (Or.inl rfl) (sH PySem.F.plainAttrs_list PySem.F.slot_list_pop PySem.F.type_list_pop sR (pv 5))) (ee (fz (PW.pt (iS (gZ (lG hu (eK eP (pv 7) et (fun _ _=>rfl)) (pv 3))) (iz (gE (gu (fe G2 hr rfl c8 cp c3 .nil eT (dZ (pv 7) (dZ (gU hu (pv 3) (eK eP (pv 7) et (fun _ _=>rfl)) (fun _ _=>rfl)) el)))))))) iK eO) (eo (fz (gZ (lG hu (eK eP (pv 7) et (fun _ _=>rfl)) (pv 6))) (ee (ja hu (pv 6) (eK eP (pv 7) et (fun _ _=>rfl)) gW rfl) (eo (gf (jp PySem.F.plainAttrs_list PySem.F.slot_list_extend PySem.F.type_list_extend nK (pv 5) (dZ (fe G hr rfl mG kG bG .nil eT (dZ (pv 0) (dZ (gT (dZ (eK eP (pv 7) et (fun _ _=>rfl)) (dZ (gU hu (pv 3) (eK eP (pv 7) et (fun _ _=>rfl)) (fun _ _=>rfl)) el))) el))) el))))) eO))))) (eo (eL (jJ kE (eR yX rfl T.len bu (dZ (pv 6) el)) (eR fA rfl T.len bu (dZ (pv 2) el)) (fF _))))))))),?_⟩;have lx:xs.length=ps.length:=Paired.length hp;refine fun p b1=>?_;have s1:=eA b1 (.dK []);refine⟨_,rfl,pk,rfl,⟨xs,fb.of (s1 _ _ L)⟩,gq (K:=K) (a:=pk) (xs:=xs) (fun i σ H2=>∃o4,σ=[some (.ref sh),some (.ref st),some (.ref pk),some (.ref p),o4,none,none,none]∧eF H H2∧H2 p=some (.dK (uZ (ps.take i)))) ⟨none,rfl,s1,d0⟩ ((by rintro i σ H2 _ ⟨_,_,s,_⟩;exact fb.of (s _ _ L))) ?_ ?_⟩
 ·rintro i x σ H2 hi ⟨o4,rfl,s2,h2⟩;obtain⟨k,hk,kq,rfl,c1⟩:=Paired.KA hp hi;have g1:=s2 _ _ c1;have d9:i<ps.length:=(af.mp hk).1;have ht:ps.take (i+1)=ps.take i++[k]:=by rw[bg,hk];rfl
  have a5:=a6 k (ak hk);have a0:((ps.take i++[k]).map (·.1)).Nodup:=by rw[←ht,cK];exact lS _ da
  have c6:jm (ps.take i) k.1=none:=by
   cases e:jm (ps.take i) k.1 with
   |none=>rfl
   |some z=>
    have:=zm e;rw[ay,bU]at a0;exact absurd rfl (a0.2.2 k.1 (av.mpr ⟨_,this,rfl⟩) k.1 (by simp))
  have d:=mn k.1 (ps.take i);rw[c6]at d;refine⟨_,rfl,kq,_,_,_,rfl,rfl,gy.of g1,rfl,_,rfl,p,_,rfl,i7.k (k:=Sum.inr k.1) h2,_,rfl,?_⟩;rw[d];refine ff ?_;refine⟨_,rfl,_,rfl,sh,.ref kq,es,k,rfl,iP.same s2 b8,⟨kq,rfl,g1⟩,al,fun e he bl na zs ba X=>?_,fun z=>absurd a5 z⟩;refine⟨_,rfl,ff ?_⟩;refine⟨_,rfl,kq,_,_,_,rfl,rfl,gy.of g1,rfl,_,rfl,_,rfl,kq,_,_,_,rfl,rfl,gy.of g1,rfl,p,_,rfl,mj.k (k:=Sum.inr k.1) h2 (eV (by unfold uZ;rw[ab,aS];lia)),?_⟩;refine⟨_,rfl,eF.upd s2 b1,?_⟩;have hm:=qM [k] (ps.take i) a0;rw[d0,ht,←hm];rfl
 rintro σ H2 ⟨o4,rfl,s2,h2⟩;rw[lx,aH]at h2;refine⟨_,rfl,st,r,rfl,.inl (fb.of (s2 _ _ co)),fun j b5=>?_⟩;have s3:=eA b5 (.lst r);have bv:H j=none:=s2.free b5;refine fun sd R=>?_;have s4:=s3.trans (eA R (.dK []));have c9:H sd=none:=(s2.trans s3).free R;have b6:upd (upd H2 j (.lst r)) sd (.dK []) j=some (.lst r):=(eA R _) _ _ d0;have bm:upd (upd H2 j (.lst r)) sd (.dK []) sd=some (.dK (oz [])):=d0;generalize d6:upd (upd H2 j (.lst r)) sd (.dK [])=H4 at *;have bq:=s2.trans s4;have b9:=AV ps [];have cv:p≠sd:=fun e=>by
  have:=s3 _ _ h2;rw[e,R]at this;cases this
 refine⟨JJ H es sn ps sh st pk p j sd,⟨101*jO ps []+sn.length,⟨r,sn,[],o4,none,rfl,s4 _ _ h2,bm,b6,Paired.Kg cn fun _ _ z=>fR.same bq z,fun n hn=>⟨c2 n hn,sn,by simp[x6],hn⟩,bY,(fun x L=>nomatch L),fun O h=>h,by rw[List.length_nil,Nat.zero_add];exact b9,rfl⟩,bq,by lia⟩,?_⟩;rintro m σ H5 ⟨⟨zs,an,nm,d4,o7,rfl,cx,c0,ah,hz,l,N,M,hW,c7,hm⟩,sm,dx⟩;refine⟨_,rfl,(by show 0≤sizeLine;decide),fun e0 cd=>?_⟩;have s6:=eA cd (.lst []);refine⟨.list (an.map sP),.list [],.lst (s6 _ _ ah) (jt (fun _ _ z=>fR.rep z) (Paired.Kg hz fun _ _ z=>fR.same s6 z)),.lst d0 .nil,i5 (AJ fun n hn=>(l n hn).1) (by decide),rfl,_,rfl,?_⟩;rw[tz];have a1:=sm.trans s6;have bd:=s6 _ _ cx;have aa:=s6 _ _ c0;have B:=s6 _ _ ah;have bf:Paired (fR (upd H5 e0 (.lst []))) zs an:=Paired.Kg hz fun _ _ z=>fR.same s6 z;generalize d8:upd H5 e0 (.lst [])=H6 at *;by_cases hnil:an=[]
 ·subst hnil;refine ff ?_;refine⟨_,rfl,sd,oz nm,rfl,aa,_,rfl,pk,xs,rfl,.inl (fb.of (a1 _ _ L)),rfl,?_⟩;rw[lx,Jg,ao (b2 nm (hW nm .done) N M)];exact q H6 a1
 obtain⟨an',n,rfl⟩:∃an' n,an=an'++[n]:=⟨an.dropLast,an.getLast hnil,(List.dropLast_concat_getLast hnil).symm⟩;have a7:(List.map sP (an'++[n])).isEmpty=false:=by simp
 rw[a7];obtain⟨b,v,rfl,hz',hv⟩:∃b v,zs=b++[v]∧Paired (fR H6) b an'∧fR H6 v n:=by
  clear l hW hm ah B hnil a7 hz
  induction an' generalizing zs with
  |nil=>
   cases bf with
   |cons h t=>cases t;exact⟨[],_,rfl,.nil,h⟩
  |cons a an' ih=>
   cases bf with
   |cons h t=>
    obtain⟨b,v,rfl,h1,h2⟩:=ih _ t;exact⟨_::b,v,rfl,.cons h h1,h2⟩
 refine gL ⟨fun σ' H'=>∃m',m'<m∧JJ H es sn ps sh st pk p j sd m' σ' H',fun _ _ z=>z,?_⟩;obtain⟨o,rfl,b7⟩:=id hv;have dc:an'.length+1+101*jO ps nm=m:=by rw[aF,aT]at hm;lia
 refine⟨_,rfl,.inl ⟨rfl,_,fb.of B⟩,j,_,_,rfl,rfl,B,nO _ _,?_⟩;have s7:eF H (upd H6 j (.lst (b++[V.ref o]).dropLast)):=eF.upd a1 bv;have ag:upd H6 j (.lst (b++[V.ref o]).dropLast) j=some (.lst b):=by rw[d0,df]
 have U:upd H6 j (.lst (b++[V.ref o]).dropLast) p=some (.dK (uZ ps)):=by rw[ef (fC bd B (by intro z;cases z))];exact bd
 have I:upd H6 j (.lst (b++[V.ref o]).dropLast) sd=some (.dK (oz nm)):=by rw[ef (fC aa B (by intro z;cases z))];exact aa
 have C:upd H6 j (.lst (b++[V.ref o]).dropLast) o=some (.tup [.str n.1,.int n.2.1,.int n.2.2]):=by rw[ef (fC b7 B (by intro z;cases z))];exact b7
 have bx:Paired (fR (upd H6 j (.lst (b++[V.ref o]).dropLast))) b an':=Paired.Kg hz' fun _ _ y=>fR.Mn B y;generalize d7:upd H6 j (.lst (b++[V.ref o]).dropLast)=H7 at *;obtain⟨dy,a9,Z,J⟩:=l n (by simp);have d:=mn n.1 ps;refine⟨_,rfl,o,_,_,_,rfl,rfl,gy.of C,rfl,_,rfl,p,_,rfl,i7.k (k:=Sum.inr n.1) U,_,rfl,?_⟩;cases hvz:jm ps n.1 with
 |none=>
  have:=Y.2 a9 Z n J;unfold AZ at this;rw[hvz]at this;cases this
 |some z=>
 rw[hvz]at d;rw[d];refine ff ?_;have c4:i7 H7 p (.str n.1) (some (.int z)):=by
  have:=i7.k (k:=Sum.inr n.1) U;rw[d]at this;exact this
 refine⟨_,rfl,_,rfl,_,rfl,o,_,_,_,rfl,rfl,gy.of C,rfl,p,_,rfl,c4,.ref o,n,z,rfl,⟨o,rfl,C⟩,_,rfl,?_⟩;refine kJ (fun c=>?_) (fun c=>?_)
 ·have:=Y.1 a9 Z n J;unfold FO at this;rw[hvz]at this;dsimp only at this;unfold lH at this;rw[c]at this;cases this
 have D:=zm hvz;refine⟨_,rfl,o,_,_,_,rfl,rfl,gy.of C,rfl,_,rfl,sd,_,rfl,i7.k (k:=Sum.inr n.1) I,_,rfl,?_⟩;rw[oY];by_cases hin:n.1∈nm
 ·rw[ao hin];refine ff ⟨101*jO ps nm+an'.length,by lia,⟨b,an',nm,_,_,rfl,U,I,ag,bx,fun x L=>l x (by simp[L]),N,M,fun O h=>hW O (.old hin h),c7,rfl⟩,s7,by lia⟩
 ·rw[au hin];refine gL ?_;have d5:=pX hin (ps:=ps) (av.mpr ⟨_,D,rfl⟩);have dp:(oz nm).length≤900:=by unfold oz;rw[ab];lia
  refine⟨_,rfl,_,rfl,o,_,_,_,rfl,rfl,gy.of C,rfl,sd,_,rfl,mj.k (k:=Sum.inr n.1) I (eV (by lia)),?_⟩;rw[CN hin];have s8:eF H (upd H7 sd (.dK (oz (nm++[n.1])))):=eF.upd s7 c9;have S:upd H7 sd (.dK (oz (nm++[n.1]))) j=some (.lst b):=by rw[ef (fC ag I (by intro z;cases z))];exact ag
  have ad:upd H7 sd (.dK (oz (nm++[n.1]))) p=some (.dK (uZ ps)):=by rw[ef cv];exact U
  have a2:upd H7 sd (.dK (oz (nm++[n.1]))) sd=some (.dK (oz (nm++[n.1]))):=d0;have b4:upd H7 sd (.dK (oz (nm++[n.1]))) o=some (.tup [.str n.1,.int n.2.1,.int n.2.2]):=by rw[ef (fC C I (by intro z;cases z))];exact C
  have ch:Paired (fR (upd H7 sd (.dK (oz (nm++[n.1]))))) b an':=Paired.Kg bx fun _ _ y=>fR.Mo I (by intro xs z;cases z) y;generalize d3:upd H7 sd (.dK (oz (nm++[n.1])))=H8 at *;have a3:i7 H8 p (.str n.1) (some (.int z)):=by
   have:=i7.k (k:=Sum.inr n.1) ad;rw[d]at this;exact this
  refine⟨_,rfl,.inl ⟨rfl,_,fb.of S⟩,_,rfl,_,rfl,o,_,_,_,rfl,rfl,gy.of b4,rfl,_,rfl,_,rfl,o,_,_,_,rfl,rfl,gy.of b4,rfl,p,_,rfl,a3,(by show 2≤sizeLine;decide),fun kt ct=>?_⟩;have s9:=eA ct (.tup [.str n.1,.int z]);refine⟨sh,.ref kt,es,(n.1,z),rfl,iP.same (s8.trans s9) b8,⟨kt,rfl,d0⟩,al,fun e he bl na b3 ba X=>?_,fun y=>absurd (a6 _ D) y⟩;have cz:gO es (n.1,z)=e.2.2:=by rw[←bl,lh al he]
  rw[←cz]at X;have dl:=Paired.length hz';have dv:=Paired.length X;have dd:=qL a8 (n.1,z);have a4:=s9 _ _ S;refine⟨j,na,b,b3,rfl,rfl,a4,ba,by rw[ck];lia,?_⟩;have cl:p≠j:=fC ad S (by intro z;cases z);have cy:sd≠j:=fC a2 S (by intro z;cases z);refine⟨101*jO ps (nm++[n.1])+(an'++gO es (n.1,z)).length,by rw[aF];lia,⟨b++b3,an'++gO es (n.1,z),nm++[n.1],_,_,rfl,by rw[ef cl];exact s9 _ _ ad,by rw[ef cy];exact s9 _ _ a2,d0,?_,fun x L=>?_,sO N hin,fun x L=>?_,fun O h=>hW O (.new hin hvz h),by rw[aF,aT];lia,rfl⟩,eF.upd (s8.trans s9) bv,by rw[aF];lia⟩
  ·have ap:∀{as bs:List V} {cs ds:List Nd},Paired (fR (upd H8 kt (.tup [.str n.1,.int z]))) as cs→Paired (fR (upd H8 kt (.tup [.str n.1,.int z]))) bs ds→Paired (fR (upd H8 kt (.tup [.str n.1,.int z]))) (as++bs) (cs++ds):=by
    intro as bs cs ds r1 r2
    induction r1 with
    |nil=>exact r2
    |cons h t ih=>exact .cons h ih
   exact Paired.Kg (ap (Paired.Kg ch fun _ _ y=>fR.same s9 y) X) fun _ _ y=>fR.Mn a4 y
  ·rcases aB.mp L with y | y
   ·exact l x (by simp[y])
   ·exact⟨sN a8 _ x y,_,by unfold x6;exact bi _ (av.mpr ⟨_,D,rfl⟩),y⟩
  ·rcases aB.mp L with y | y
   ·exact M x y
   ·rw[ai.mp y];exact av.mpr ⟨_,D,rfl⟩
end
end FB
namespace FB
open PySem L2 PyProof.Rows
variable {L:iu}{es:List En}{m:Nat}
theorem Wk.closed {ps:List Pk}{an:List Nd}{nm fin:List Str}(h:Wk es ps an nm fin):(∀x∈nm,x∈fin)∧(∀n∈an,n.1∈fin)∧∀x z,jm ps x=some z→x∈fin→x∉nm→∀n∈gO es (x,z),n.1∈fin:=by
 induction h with
 |done=>exact⟨fun _ h=>h,(by simp),fun x z _ h1 h2=>absurd h1 h2⟩
 |@old ah n nm fin hn _ ih=>
  obtain⟨d,g,i⟩:=ih;refine⟨d,fun m b=>?_,i⟩;rcases aB.mp b with y | y
  ·exact g m y
  ·rw[ai.mp y];exact d _ hn
 |@new ah n nm fin z hn hv _ ih=>
  obtain⟨d,g,i⟩:=ih;refine⟨fun x l=>d x (by simp[l]),fun m b=>?_,fun x j a h1 h2 m b=>?_⟩
  ·rcases aB.mp b with y | y
   ·exact g m (by simp[y])
   ·rw[ai.mp y];exact d _ (by simp)
  ·by_cases e:x=n.1
   ·subst e;rw[hv]at a;cases a;exact g m (by simp[b])
   ·exact i x j a h1 (by simp[h2,e]) m b
theorem nI {c:eg}{pk:Nat}(h:c.K1 pk):((c.listed pk).map (·.1)).Nodup:=by
 refine cC.mpr ?_;have:(c.listed pk).Nodup:=c.nd.filter _;exact this.imp_of_mem fun d b a z=>a (h _ _ (eg.KI.mp d) (eg.KI.mp b) z)
theorem Dx {sn:List Nd}{ps:List Pk}(h:ww es sn ps)(g:(ps.map (·.1)).Nodup):Ci es sn ps:=by
 have key:∀d∈x6 es sn ps,∀m∈d,∃v,jm ps m.1=some v∧lH m v=true:=fun d a m b=>by
  obtain⟨j,hj,e1,e2⟩:∃j∈ps,j.1=m.1∧lH m j.2=true:=by
   rcases am.mp a with y | y
   ·subst y;exact h.met none (fun _ z=>nomatch z) m b
   ·obtain⟨k,e,rfl⟩:=av.mp y;exact h.met (some k) (fun _ z=>by cases z;exact e) m b
  exact⟨j.2,by rw[←e1];exact Bc g hj,e2⟩
 constructor
 ·intro d a m b;obtain⟨v,h1,h2⟩:=key d a m b;unfold FO;rw[h1];simp[h2]
 ·intro d a m b;obtain⟨v,h1,h2⟩:=key d a m b;unfold AZ;rw[h1];rfl
theorem Dw {c:eg}{pk:Nat}{fin:List Str}(h1:c.K1 pk)(g:∀k,c.has pk k→c.Named pk k)(q:Wk c.es (c.listed pk) c.sn [] fin)(o:fin.Nodup)(p:∀x∈fin,x∈(c.listed pk).map (·.1)):fin.length=(c.listed pk).length:=by
 have d:=nI h1;obtain⟨_,t,r⟩:=q.closed;have all:∀k,c.Named pk k→k.1∈fin:=fun k i=>by
  induction i with
  |@start k h h'=>
   obtain⟨n,g,e⟩:=av.mp h';rw[←e];exact t n g
  |@next j k hj i h' ih=>
   obtain⟨n,g,e⟩:=av.mp h';rw[←e];have l:c.has pk j:=by
    cases hj with
    |start h _=>exact h
    |next _ h _=>exact h
   exact r j.1 j.2 (Bc d (eg.KI.mpr l)) ih (by simp) n g
 have a:=rm o p;have b:=rm d (m:=fin) fun x s=>by
  obtain⟨k,i,rfl⟩:=av.mp s;exact all k (g k (eg.KI.mp i))
 rw[ab]at a b;omega
theorem lj {c:eg}:(c.listed m).length≤c.es.length:=by
 have:=c.pm.length_eq;rw[ab]at this;rw[←this];exact bD _ _
theorem jN {c:eg}(a:∀e∈c.es,kD e){k:Pk}(h:k∈c.listed m):fT k.1:=by
 obtain⟨e,b,rfl⟩:=av.mp ((c.mem k).mp (eg.KI.mp h).1);exact(a e b).pt
theorem nM {c:eg}(hL:gX c L)(hok:∀e∈c.es,kD e)(h64:c.es.length<64):∀l∈c.lns L,BT l:=fun l hl=>by
 obtain⟨e,he,rfl⟩:=av.mp hl;obtain⟨i,hi⟩:=az.mp he;have h:=hL.good i e hi;have hll:(c.listed e.1).length≤c.es.length:=lj;unfold jj at h;rw[aD]at h;obtain⟨hw,h⟩:=h;refine⟨by show(c.listed e.1).length≤_;omega,fun p hp=>jN hok hp,fun k hk=>?_,fun k hk=>?_,fun bs hb=>?_⟩
 ·rw[hk]at hw;have hw':(decide (k∈c.listed e.1)&&decide (k∈c.es.map eX))=true:=hw;rw[aD]at hw';exact jN hok (aR hw'.1)
 ·cases hn:iD (gK c.es c.sn (c.ln e).2.who) (c.ln e).2.place with
  |none=>rw[hn]at h;cases h
  |some n=>
   rw[hn]at h;dsimp only at h;rw[hk]at h;have h':(decide (k∈c.listed e.1)&&qm n k)=true:=h;rw[aD]at h';exact jN hok (aR h'.1)
 ·cases hn:iD (gK c.es c.sn (c.ln e).2.who) (c.ln e).2.place with
  |none=>rw[hn]at h;cases h
  |some n=>
   rw[hn]at h;dsimp only at h;rw[hb]at h;have h':kF c.es (c.lns L) (i:Nat) (c.listed e.1) n bs=true:=h;unfold kF at h';rw[aD,ax]at h';have:=lg c.es n;omega
theorem uk {c:eg}(hL:gX c L):∀(i:Nat) (l:Ln),(c.lns L)[i]?=some l→jj c.es c.sn (c.lns L) (i:Nat) l=true:=fun i l hl=>by
 unfold eg.lns at hl;rw[ae]at hl;obtain⟨e,he,rfl⟩:=aw.mp hl;exact hL.good i e he
theorem sW {c:eg}(d:gX c L)(h:∀e∈c.es,Lw e):L.length<sizeLine:=by
 have:=yK (Ps:=ur) (Vs:=wF) d (fun k a=>by
  obtain⟨e,b,rfl⟩:=av.mp ((c.mem k).mp a)
  exact(h e b).1) fun k a=>by
  obtain⟨e,b,rfl⟩:=av.mp ((c.mem k).mp a);exact(h e b).2
 have e:(wF.length+1)^ur.length=4096:=by decide
 rw[e]at this;rw[ck];omega
theorem ue {sn:List Nd}(hok:∀e∈es,kD e)(hs:sn.length≤100):∀w,(gK es sn w).length≤100
 |none=>hs
 |some k=>qL hok k
theorem AN {a b:Pk}(h:oh a b=true)(h2:oh b a=true):False:=by
 have:=qN h;rw[h2]at this;cases this
theorem og:∀{xs ys:List Pk},xs.Pairwise (fun a b=>oh a b=true)→ys.Pairwise (fun a b=>oh a b=true)→xs.Perm ys→xs=ys
 |[],ys,_,_,h=>(List.nil_perm.mp h).symm
 |x::xs,[],_,_,h=>nomatch h.length_eq
 |x::xs,y::ys,hx,hy,h=>by
  rw[List.pairwise_cons]at hx hy;have e:x=y:=by
   have h1:x∈y::ys:=h.mem_iff.mp (by simp);have h2:y∈x::xs:=h.mem_iff.mpr (by simp);rcases am.mp h1 with z | z
   ·exact z
   ·rcases am.mp h2 with y' | y'
    ·exact y'.symm
    ·exact(AN (hx.1 y y') (hy.1 x z)).elim
  subst e;rw[og hx.2 hy.2 ((List.perm_cons x).mp h)]
theorem vS {c:eg}:(c.listed m).Pairwise (fun a b=>oh a b=true):=c.ord.filter _
end FB
namespace FB
open PySem L2 PyProof.Rows
seal nX PS PE PT PA
inductive JP (P:Program)(w:World)(K:W.Frag)(mg:Str→Option Value)(base:Heap)(CX:xS)(k:Nat)(x:Str)(ps:List Str)(sp:Sp):Prop
 |mk (g gd:_)(_:eZ P w K mg base CX k g gd ps sp)(_:gi K gd ps [])(_:W.keepIn K (.ref g)=true)(_:mg x=some (.ref g)):JP P w K mg base CX k x ps sp
structure Gd (P:Program)(w:World)(K:W.Frag)(mg:Str→Option Value)(base:Heap)(CX:xS)(k:Nat)(x:Str)(ps:List Str)(sp:Sp):Prop where
 ex:JP P w K mg base CX k x ps sp
end FB
namespace FB
open PySem PySem.Spec L2 PyProof.Rows
variable {C PP:Addr}{K:W.Frag}{ps:List Str}{st:Stmt}{x:Str}
theorem Du {qual:Str}{f c:Addr}{oc:Value}{od an:Option Addr}{osl:Array (Option Value)}{kV doc pm ct:Value}(l:K.lookup f=some ⟨oc,od,.func (W.fnOf x qual (hU st) (gF st) (eE st) .none kV doc pm an (.ref c) ct),osl⟩)(hc:W.codeIn K (.ref c) qual=true)(k:W.keepIn K (.ref f)=true):Ch K x qual st f (W.fnOf x qual (hU st) (gF st) (eE st) .none kV doc pm an (.ref c) ct) c:=⟨⟨oc,od,kV,doc,pm,an,ct,osl,rfl,l,hc⟩,k⟩
theorem yL {P:Program}{w:World}{mg mb:Str→Option Value}{k:Nat}{fa a cP:Addr}{fd:FuncData}{sp:Sp}{s₁:Shared}{vs:List Value}{ns:List Int}(S:K.In s₁.heap)(G:s₁.heap.Ns mainGlobals mg)(g:s₁.heap.Ns builtinsNs mb)(Z:∀x:Str,x≠"__name__"→mb x=bootBuiltins x)(I:s₁.heap.NoLimit)(hg:s₁.gens=#[])(C:s₁.heap.get? a=some {cls:=.type "list",data:=.seq vs.toArray})(hi:IntsAre vs ns)(hl:ns.length≤sizeLine)(hr:gM k callerA)(D:s₁.heap.get? PP=some (W.tabObj #[]))(hC:W.codeHdIn K cP PP=true)(Q:K.lookup PP=none)(aa:tM mg s₁.heap)(F:∀base:Heap,K.In base→base.Ns mainGlobals mg→tM mg base→eZ P w K mg base fh k fa fd [x] sp)(B:∀(s:Shared) (u:Value),BindsTo s fd ⟨[u],[]⟩ [(x,u)])(ag:∀H:Hp,fb K H a (ns.map V.int)→H PP=some (.tbl #[])→sp [.ref a] H (fun v _=>v=.bl true) fun _ _ _=>False):codeAny (model P w) callerA (.call (.ref fa) ⟨[.ref a],[]⟩) (fun r s'=>r=.ok (.ret (.bool true))∧OldK s₁.heap s'.heap∧s'.os=s₁.os∧AllBare s'.gens) s₁:=by
 have rv:=nh hi;have J:=hi.length;have L:a≠PP:=fun e=>by
  rw[e,D]at C;cases C
 have t:∀H:Hp,(∀b,H b=none∨(b=PP∧H b=some (.tbl #[]))∨∃o xs,H b=some (.frz o (.lst xs)))→H PP=some (.tbl #[])→fb K H a (ns.map V.int)→lK P w H s₁.heap→(∀b,H b≠none→b=a∨b=PP)→(H a≠none→K.lookup a=none)→
   codeAny (model P w) callerA (.call (.ref fa) ⟨[.ref a],[]⟩) (fun r s'=>r=.ok (.ret (.bool true))∧OldK s₁.heap s'.heap∧s'.os=s₁.os∧AllBare s'.gens) s₁:=by
  intro H hO R hS M X hK;have i:∀{b:Addr} {o:Obj},s₁.heap.get? b=some o→H b=none→(qv s₁.heap H).get? b=some o:=fun e n=>Bf e n;have ad:∀{b:Addr} {o:Obj},s₁.heap.get? b=some o→o.cls≠.none→(∀z y,o.data≠.seq z y)→H b=none:=fun {b o} e d1 d2=>by
   cases q:H b with
   |none=>rfl
   |some u=>
    rcases X b (by rw[q];simp) with e' | e'
    ·subst e';rw[C]at e;cases e;exact absurd rfl (d2 _ _)
    ·subst e';rw[D]at e;cases e;exact absurd rfl d1
  have ah:∀{b:Addr} {o:Obj} {es:Array DictEntry} {ep:Nat},s₁.heap.get? b=some o→o.data=.dict es ep→H b=none:=fun {b o es ep} e d=>by
   cases q:H b with
   |none=>rfl
   |some u=>
    rcases X b (by rw[q];simp) with e' | e'
    ·subst e';rw[C]at e;cases e;have d':Data.seq vs.toArray _=Data.dict es ep:=d;cases d'
    ·subst e';rw[D]at e;cases e;have d':Data.fields #[]=Data.dict es ep:=d;cases d'
  have l:∀{b:Addr} {m:Str→Option Value},s₁.heap.Ns b m→(qv s₁.heap H).Ns b m:=fun {b m} ⟨o,es,ep,e,d,r⟩=>⟨o,es,ep,i e (ah e d),d,r⟩
  have N:K.In (qv s₁.heap H):=fun b o e=>i (S b o e) (by
   cases q:H b with
   |none=>rfl
   |some u=>
    rcases X b (by rw[q];simp) with e' | e'
    ·subst e';rw[hK (by rw[q];simp)]at e;cases e
    ·subst e'
     rw[Q]at e;cases e)
  have hM:Mod K mg (qv s₁.heap H):=⟨N,l G,⟨mb,l g,Z⟩,(by obtain⟨mc,h1,h2⟩:=I;exact⟨mc,l h1,h2⟩)⟩;have O:tM mg (qv s₁.heap H):=by
   obtain⟨bm,U,b1,b2,b3,b4,b5,b6⟩:=aa;exact⟨bm,U,b1,b2,i b3 (ad b3 (by rw[b4];exact fun z=>nomatch z) fun _ _ z=>by rw[b6]at z;cases z),b4,b5,b6⟩
  have e0:wx P w K mg (qv s₁.heap H) callerA [] s₁ H:=⟨rfl,hM,fun b o e=>Df e,cE (yQ _ _),trivial,fun b g=>absurd (show b∈([]:List Addr) from g) (by simp),M,.of_eq hg⟩;refine codeAny_mono ((F _ N (l G) O).run callerA [] s₁ H ⟨[.ref a],[]⟩ [.ref a] [.ref a] _ _ hr e0 (B s₁ (.ref a)) (.cons rfl .nil) (ag H hS R)) fun r s' h=>?_;cases r with
  |error e=>exact False.elim h
  |ok fl=>
   cases fl with
   |next=>exact False.elim h
   |brk=>exact False.elim h
   |cont=>exact False.elim h
   |ret u=>
    obtain⟨v,H',os,E,un,A,r',q⟩:=h;have q':v=.bl true:=q;subst q';obtain rfl:u=Value.bool true:=r';refine⟨rfl,⟨fun b o e=>?_,fun b o e=>un.there b o e (by simp)⟩,os,E⟩;rcases hO b with z | ⟨rfl,z⟩ | ⟨U,xs,z⟩
    ·exact .inl (un.keep b o e z (by intro z;exact absurd (show b∈([]:List Addr) from z) (by simp)) (by simp))
    ·obtain⟨more,T⟩:=un.tbls b _ z;have Y:s'.heap.get? b=some {cls:=.none,data:=.fields (#[]++more)}:=A b _ T;rw[D]at e;cases e;exact .inr (.inl ⟨((W.codeHd_of_K S hC).tab D).isCodeTable,rfl,#[],more,rfl,Y⟩)
    ·have T:=un.frzs b U _ z;obtain⟨e1,_⟩:=M b _ z;obtain⟨Y,_⟩:=A b _ T;rw[e]at e1;cases e1;exact .inl Y
 have j:∀H:Hp,fH P w H s₁.heap PP (.tbl #[]):=fun H=>D;cases hk:K.lookup a with
 |some o=>
  have e:=S a o hk;rw[C]at e;cases e;refine t (fun b=>if b=PP then some (.tbl #[]) else none) (fun b=>?_) (if_pos rfl) (.inr ⟨_,vs.toArray,_,hk,rfl,rfl,rfl,by rw[aO,J];exact hl,by simpa using rv⟩) (fun b u z=>?_) (fun b z=>?_) fun z=>absurd (if_neg L) z
  ·by_cases g:b=PP
   ·exact .inr (.inl ⟨g,if_pos g⟩)
   ·exact .inl (if_neg g)
  ·by_cases g:b=PP
   ·have p:=(if_pos g).symm.trans z;cases p;subst g;exact j _
   ·have p:=(if_neg g).symm.trans z;cases p
  ·by_cases g:b=PP
   ·exact .inr g
   ·exact absurd (if_neg g) z
 |none=>
  refine t (fun b=>if b=PP then some (.tbl #[]) else if b=a then some (.frz {cls:=.type "list",data:=.seq vs.toArray} (.lst (ns.map V.int))) else none) (fun b=>?_) (if_pos rfl) (.inl (.inr ⟨{cls:=.type "list",data:=.seq vs.toArray},(if_neg L).trans (if_pos rfl)⟩)) (fun b u z=>?_) (fun b z=>?_) fun _=>hk
  ·by_cases g:b=PP
   ·exact .inr (.inl ⟨g,if_pos g⟩)
   ·by_cases hb2:b=a
    ·exact .inr (.inr ⟨_,_,(if_neg g).trans (if_pos hb2)⟩)
    ·exact .inl ((if_neg g).trans (if_neg hb2))
  ·by_cases g:b=PP
   ·have p:=(if_pos g).symm.trans z;cases p;subst g;exact j _
   ·by_cases hb2:b=a
    ·have p:=((if_neg g).trans (if_pos hb2)).symm.trans z;cases p;subst hb2;exact⟨C,by rw[ab];exact hl,vs,_,rv,C⟩
    ·have p:=((if_neg g).trans (if_neg hb2)).symm.trans z;cases p
  ·by_cases g:b=PP
   ·exact .inr g
   ·by_cases hb2:b=a
    ·exact .inl hb2
    ·exact absurd ((if_neg g).trans (if_neg hb2)) z
theorem zk {l:W.OpenLaw}{n k:Nat}{q:Program}{loose:List Str}{XP:(Str→Option Value)→Heap→Prop}{YP:World→Heap→Prop}{d:DefRec}{K:Params→W.Frag}{sp:World→Sp}(M:l.most=some n)(t:n≤sizeLine)(p:d.params.defaults=[])(J:gM k callerA)(I:∀(w:World) (h:Heap),YP w h→(K w.params).In h)(r:∀(w:World) (h:Heap),YP w h→h.get? PP=some (W.tabObj #[]))(m:∀w:World,(K w.params).lookup PP=none)(F:∀(w:World) (mg:Str→Option Value) (fa:Addr) (h:Heap),(K w.params).In h→h.Ns mainGlobals mg→mg d.name=some (.ref fa)→∃(fd:FuncData) (cP:Addr),W.codeHdIn (K w.params) cP PP=true∧(∀(s:Shared) (u:Value),BindsTo s fd ⟨[u],[]⟩ [(x,u)])∧∀base:Heap,(K w.params).In base→base.Ns mainGlobals mg→tM mg base→eZ l.prog w (K w.params) mg base fh k fa fd [x] (sp w))(z:∀(w:World) (H:Hp) (a:Addr) (ns:List Int),ns.length≤n→fb (K w.params) H a (ns.map V.int)→H PP=some (.tbl #[])→sp w [.ref a] H (fun v _=>v=.bl true) fun _ _ _=>False):W.WalkO q loose XP YP l.row.toRowW d [] (fun f vs=>PySem.call f vs):=by
 refine Att.uG M p fun w s₀ s₁ mg R fa o pm cd L a vs ns G Y S Q P y j i e D=>?_;have A:=I w _ Y;obtain⟨fd,cP,B,C,E⟩:=F w mg fa _ A G.T.g y;exact yL A G.T.g G.T.b G.T.builtins G.T.nolimit D j i (bw e t) J (r w _ Y) B (m w) G.T.bmain E C fun H O N=>z w H a ns e O N
theorem lr {α:Type}{p:List α→Prop}(h:∀a,p [a]):∀us:List α,us.length=1→p us
 |[a],_=>h a
theorem j6 {α:Type}{p:List α→Prop}(h:∀a b,p [a,b]):∀us:List α,us.length=2→p us
 |[a,b],_=>h a b
theorem oB {α:Type}{p:List α→Prop}(h:∀a b c,p [a,b,c]):∀us:List α,us.length=3→p us
 |[a,b,c],_=>h a b c
theorem Dz {α:Type}{p:List α→Prop}(h:∀a b c d,p [a,b,c,d]):∀us:List α,us.length=4→p us
 |[a,b,c,d],_=>h a b c d
inductive oE (K:W.Frag)(x:Str)(st:Stmt)(f:Addr):Prop
 |mk {oc kV dc pm cd ct:Value}{od an:Option Addr}{sl:Array (Option Value)}(_:W.nsIn K mainGlobals x=some (some (.ref f)))(_:K.lookup f=some ⟨oc,od,.func (W.fnOf x x (hU st) (gF st) (eE st) .none kV dc pm an cd ct),sl⟩)(_:W.codeIn K cd x=true)(_:W.keepIn K (.ref f)=true):oE K x st f
inductive lQ (K:W.Frag)(C:Addr)(m q:Str)(st:Stmt)(f:Addr):Prop
 |mk {oc kV dc pm cd ct:Value}{od an:Option Addr}{sl:Array (Option Value)}(_:W.findIn K (.ref C) m=some (some (.ref f)))(_:W.isFn K (.ref f)=true)(_:K.lookup f=some ⟨oc,od,.func (W.fnOf m q (hU st) (gF st) (eE st) .none kV dc pm an cd ct),sl⟩)(_:W.codeIn K cd q=true)(_:W.keepIn K (.ref f)=true):lQ K C m q st f
inductive Iy (K:W.Frag)(C:Addr)(m q:Str)(st:Stmt)(f PP:Addr):Prop
 |mk {oc kV dc pm ct:Value}{cd:Addr}{od an:Option Addr}{sl:Array (Option Value)}(_:W.findIn K (.ref C) m=some (some (.ref f)))(_:W.isFn K (.ref f)=true)(_:K.lookup f=some ⟨oc,od,.func (W.fnOf m q (hU st) (gF st) (eE st) .none kV dc pm an (.ref cd) ct),sl⟩)(_:W.codeIn K (.ref cd) q=true)(_:W.keepIn K (.ref f)=true)(_:W.codeHdIn K cd PP=true):Iy K C m q st f PP
structure Eo (K:W.Frag)(x:Str)(C:Addr):Prop where
 a:W.nsIn K mainGlobals x=some (some (.ref C))
 pg:W.plainGet K C Str.empty=true
 hd:W.hasDictIn K C=true
 po:W.plainOver K C=true
 sa:W.findIn K (.ref C) "__setattr__" = some (some (.builtin "object.__setattr__"))
 mk_:W.makesIn K C=true
 kc:W.keepIn K (.ref C)=true
section
variable {K:W.Frag}{h:Heap}{mg:Str→Option Value}(X:K.In h)(G:h.Ns mainGlobals mg)
theorem Eo.c (d:Eo K x C):qx K C:=⟨d.pg,d.hd,d.po,d.sa⟩
include X G in
theorem oE.u {f:Addr}(d:oE K x st f)(b:∀(kV doc pm:Value) (an:Option Addr) (cdv ct:Value) (us:List Value),us.length=ps.length→bindArgs (W.fnOf x x (hU st) (gF st) (eE st) .none kV doc pm an cdv ct) ⟨us,[]⟩=pure (ps.zip us)):∃fd,iQ K x x st f fd∧gi K fd ps []∧W.keepIn K (.ref f)=true∧mg x=some (.ref f):=by
 obtain @⟨i,kV,h,pm,cd,ct,g,an,e,a,l,c,k⟩:=d;exact⟨_,nS l c k,(nS l c k).binds b,k,W.mg_of X G a⟩
theorem lQ.u {m q:Str}{f:Addr}(d:lQ K C m q st f)(b:∀(kV doc pm:Value) (an:Option Addr) (cdv ct:Value) (us:List Value),us.length=ps.length→bindArgs (W.fnOf m q (hU st) (gF st) (eE st) .none kV doc pm an cdv ct) ⟨us,[]⟩=pure (ps.zip us)):∃fd,iQ K m q st f fd∧gi K fd ps []∧za K C m f:=by
 obtain @⟨j,kV,h,pm,cd,ct,g,an,e,a,i,l,c,k⟩:=d;exact⟨_,nS l c k,(nS l c k).binds b,a,i,k⟩
theorem Iy.u {m q:Str}{f:Addr}(d:Iy K C m q st f PP)(e:∀(kV doc pm:Value) (an:Option Addr) (cdv ct:Value) (us:List Value),us.length=ps.length→bindArgs (W.fnOf m q (hU st) (gF st) (eE st) .none kV doc pm an cdv ct) ⟨us,[]⟩=pure (ps.zip us)):∃fd cd,Ch K m q st f fd cd∧gi K fd ps []∧za K C m f∧W.codeHdIn K cd PP=true:=by
 obtain @⟨o,kV,j,pm,ct,cd,h,an,g,a,i,l,c,k,b⟩:=d;exact⟨_,cd,Du l c k,(nS l c k).binds e,⟨a,i,k⟩,b⟩
end
end FB
namespace FB
open PySem L2 PyProof.Rows
variable {H H':Hp}{a:Addr}{es:List En}{sn:List Nd}
structure zb (H H':Hp):Prop where
 l:∀a xs,H a=some (.lst xs)→H' a=some (.lst xs)
 t:∀a xs,H a=some (.tup xs)→H' a=some (.tup xs)
theorem zb.of (e:eF H H'):zb H H':=⟨fun a xs=>e a _,fun a xs=>e a _⟩
theorem zb.trans {H1 H2:Hp}(a:zb H H1)(b:zb H1 H2):zb H H2:=⟨fun c xs h=>b.l c xs (a.l c xs h),fun c xs h=>b.t c xs (a.t c xs h)⟩
theorem zb.tab {PP:Addr}(b:ii Cj ze H PP)(e:eB (del H [PP]) H'):zb H H':=by
 obtain⟨u,hu,fu⟩:∃u,H PP=some u∧u1 u:=by
  rcases b with z | ⟨c',z,_⟩
  ·exact⟨_,z,trivial⟩
  ·exact⟨_,z,trivial⟩
 exact⟨fun a xs h=>e.lst (ip hu fu h fun z=>z),fun a xs h=>e.tup (ip hu fu h fun z=>z)⟩
section
variable {H H':Hp}(e:zb H H')
include e
theorem fR.k {v:V}{n:Nd}(h:fR H v n):fR H' v n:=(by obtain⟨q,h1,h2⟩:=h;exact⟨q,h1,e.t _ _ h2⟩)
theorem gC.k {ns:List Nd}(h:gC H a ns):gC H' a ns:=(by obtain⟨xs,h1,h2⟩:=h;exact⟨xs,e.l _ _ h1,Paired.Kg h2 fun _ _ z=>fR.k e z⟩)
theorem jX.k {v:V}{n:En}(h:jX H v n):jX H' v n:=(by obtain⟨q,a,xs,h1,h2,h3,h4⟩:=h;exact⟨q,a,xs,h1,e.t _ _ h2,e.l _ _ h3,Paired.Kg h4 fun _ _ z=>fR.k e z⟩)
theorem iP.k (h:iP H a es):iP H' a es:=(by obtain⟨xs,h1,h2⟩:=h;exact⟨xs,e.l _ _ h1,Paired.Kg h2 fun _ _ z=>jX.k e z⟩)
end
theorem tY {l b:Addr}(hl:H l=some (.lst [.ref a,.ref b]))(ha:iP H a es)(hb:gC H b sn):kK H (.ref l) (.list [.list (es.map zg),.list (sn.map sP)]):=
 .lst hl (.cons ha.rep (.cons hb.rep .nil))
theorem Cv (b:∀n∈sn,fT n.1)(a:∀e∈es,kD e):iW 10 (.list [.list (es.map zg),.list (sn.map sP)])=true:=by
 refine iT 5 _ 10 (by decide) ?_;rw[iW,List.all_cons,List.all_cons,iT 4 _ 4 (by decide) (EG a),iT 2 _ 4 (by decide) (AJ b)];rfl
theorem zE (d:∀e∈es,kD e)(h1:sn.length≤63)(h2:es.length≤100):nY (.list [.list (es.map zg),.list (sn.map sP)])≤10000000:=by
 have a:=ml sP 4 sn fun n _=>cE (zj n);have b:=Et d h2;simp only[nY,jf]at *
 lia
theorem Bn {es:List PyData}(h:∀d∈es,PyData.eqv d d=true):PyData.eqv (.list es) (.list es)=true:=by
 have key:∀xs:List PyData,(∀d∈xs,PyData.eqv d d=true)→PyData.eqvAll xs xs=true:=by
  intro xs
  induction xs with
  |nil=>intro _;simp[PyData.eqvAll]
  |cons x xs ih=>
   intro h;simp only[PyData.eqvAll,aD];exact⟨h x (by simp),ih fun d a=>h d (by simp[a])⟩
 simp only[PyData.eqv];exact key es h
theorem Dy (ks:List Pk):PyData.eqv (.list (ks.map kI)) (.list (ks.map kI))=true:=Bn fun d hd=>by
 obtain⟨k,_,rfl⟩:=av.mp hd;rw[v4];exact ao rfl
theorem mK {α β:Type}{F:α→β→Prop}:∀{A B:List β} {xs:List α},Paired F xs (A++B)→∃ys zs,xs=ys++zs∧Paired F ys A∧Paired F zs B
 |[],_,xs,h=>⟨[],xs,rfl,.nil,h⟩
 |_::A,B,_,.cons r t=>(by obtain⟨ys,zs,e,h1,h2⟩:=mK (A:=A) (B:=B) t;exact⟨_::ys,zs,by rw[e];rfl,.cons r h1,h2⟩)
theorem AR {c:eg}{ln:Addr}{L:iu}{e:Nat×Rs}(h:lC H ln (c.lns L))(g:L.getLast?=some e)(i:e.1=0):∃xs x q a rv,H ln=some (.lst (xs++[x]))∧x=.ref q∧H q=some (.tup [.ref a,rv])∧H a=some (.lst []):=by
 obtain⟨L',rfl⟩:=List.getLast?_eq_some_iff.mp g;obtain⟨xs,j,hp⟩:=h;unfold eg.lns at hp;rw[ay]at hp;obtain⟨ys,zs,rfl,h1,h2⟩:=mK hp;cases h2 with
 |cons r t=>
  cases t;obtain⟨q,a,rv,rfl,d,⟨zs,g2,g3⟩,l⟩:=r;have b:(c.ln e).1=[]:=by
   show c.listed e.1=[];rw[i];unfold eg.listed;simp
  rw[b]at g3;cases g3;exact⟨ys,_,q,a,rv,j,rfl,d,g2⟩
end FB
namespace FB
open PySem L2 PyProof.Rows
seal nX PS PE PT PA
abbrev Je:List Str:=["_law_script","_law_shelf","_law_start","_law_handed","_law_needs","_law_found"]
inductive DZ (K:W.Frag)(PP:Addr)(vs:List V)(H:Hp)(Q:VK)(E:XK):Prop
 |mk (a:Addr)(ns:List Int)(_:vs=[.ref a])(_:fb K H a (ns.map V.int))(_:ns.length≤63)(_:ii Cj ze H PP)(_:∀H',Q (.bl true) H'):DZ K PP vs H Q E
def rJ (K:W.Frag)(PP:Addr):Sp:=DZ K PP
section
variable {P:Program}{w:World}{K:W.Frag}{mg:Str→Option Value}{base:Heap}{f:Addr}{fd:FuncData}
theorem t0:eM Je ["_law_script"] (eE sg):=jc
theorem E8 {PP:Addr}(F:iQ K "law" "law" sg f fd)(T:wn K mg)(ad:Gd P w K mg base fh 9 "_law_asked_by" ["_law_script"] (rM K))(S:Gd P w K mg base fh 9 "_law_copy_of" ["_law_shelf"] u9)(bq:Gd P w K mg base fh 9 "_law_stays_so" ["_law_handed","_law_own"] rA)(ag:Gd P w K mg base fh 9 "_law_mixed" ["_law_script"] (rF K))(a9:Gd P w K mg base fh 9 "_law_fits" ["_law_shelf","_law_start","_law_picks"] ph)(ch:Gd P w K mg base fh 9 "_law_lines_hold" ["_law_shelf","_law_start","_law_lines"] kO)(cl:Gd P w K mg base fh 9 "_law_are_picks" ["_law_found"] ke)(b1:Gd P w K mg base fh 9 "worked_out" ["shelf","start"] (o0 PP)):eZ P w K mg base fh 10 f fd ["_law_script"] (rJ K PP):=by
 refine F.ok t0 (fun vs H Q E h=>?_) (fun cy A b8 s H vs Q E I h=>?_)
 ·obtain⟨a,ns,rfl,_⟩:=h;rfl
 obtain⟨a,ns,rfl,hS,cx,hT,q⟩:=h;obtain⟨_,_,b2,a8,bv,a7⟩:=ad.ex;obtain⟨_,_,Cp,bC,kC,mC⟩:=S.ex;obtain⟨_,_,St,bT,kT,mT⟩:=bq.ex;obtain⟨_,_,Mx,bX,kX,mX⟩:=ag.ex;obtain⟨_,_,Lf,bL,kL,mL⟩:=a9.ex;obtain⟨_,_,Lh,bH,kH,mH⟩:=ch.ex;obtain⟨_,_,Ap,bP,kP,mP⟩:=cl.ex;obtain⟨_,_,Wo,bW,kW,mW⟩:=b1.ex;have hu:=I.units;refine⟨_,(ee (eJ (i:=0) t0.nd rfl (Or.inl rfl) (mF oH (pv 0) sC (mD et))) (ee (eJ (i:=0) t0.nd rfl (Or.inl rfl) (fe Mx I rfl mX kX bX .nil eT (dZ (pv 0) el))) (ee (Aa (fe b2 I rfl a7 bv a8 .nil eT (dZ (pv 0) el)) (nF (n:=2) rfl (gz (eN (i:=1) t0.nd rfl (Or.inl rfl)) (gz (eN (i:=2) t0.nd rfl (Or.inl rfl)) lF)))) (ee (eJ (i:=3) t0.nd rfl (Or.inl rfl) (fe Cp I rfl mC kC bC .nil eT (dZ (pv 1) el))) (ee (eJ (i:=4) t0.nd rfl (Or.inl rfl) (iL iU rfl T.list cN (dZ (pv 2) el))) (ee (eJ (i:=5) t0.nd rfl (Or.inl rfl) (fe Wo I rfl mW kW bW .nil eT (dZ (pv 3) (dZ (pv 4) el)))) (ee (fz (gE (gu (fe St I rfl mT kT bT .nil eT (dZ (gl (dZ (pv 3) (dZ (pv 4) el))) (dZ (gl (dZ (pv 1) (dZ (pv 2) el))) el))))) (eo (eL gW)) eO) (ee (fz (PW.pt (iS (gE (gu (eR fj rfl T.isin be (dZ (pv 5) (dZ (iC rfl T.tuple dX) el))))) (iz (fi kZ (eR fA rfl T.len bu (dZ (pv 5) el)) et (fF _))))) (eo (eL gW)) eO) (ee (fz (gE (gu (fe Lh I rfl mH kH bH .nil eT (dZ (pv 1) (dZ (pv 2) (dZ (eK eP (pv 5) et (fun _ _=>rfl)) el)))))) (eo (eL gW)) eO) (ee (fz (gZ (pQ (eK eP (pv 5) et (fun _ _=>rfl)))) (eo (eL (l4 (jJ (pS hu) (eK eP (pv 5) et (fun _ _=>rfl)) (gl el) (fF _)) (nG (jJ (E5 hu) (eK eP (eK fg (eK eP (pv 5) et (fun _ _=>rfl)) (iX jU et) (fun _ _=>rfl)) et (fun _ _=>rfl)) (gl el) (fF _)))))) eO) (ee (fz (PW.pt (iS (gE (gu (fe Ap I rfl mP kP bP .nil eT (dZ (eK eP (pv 5) et (fun _ _=>rfl)) el)))) (iz (fi (pS hu) (eK eP (pv 5) et (fun _ _=>rfl)) (eR mS rfl T.sorted boot_sorted (dZ (eK eP (pv 5) et (fun _ _=>rfl)) el)) (fF _))))) (eo (eL gW)) eO) (eo (eL (fe Lf I rfl mL kL bL .nil eT (dZ (pv 1) (dZ (pv 2) (dZ (eK eP (pv 5) et (fun _ _=>rfl)) el))))))))))))))))),?_⟩;obtain⟨m1,e1,l1⟩:=uy ns none (some 500);refine⟨_,rfl,500,rfl,a,_,rfl,hS,fun p1 b4=>?_⟩;rw[e1];have s1:=eA b4 (.lst (m1.map V.int));refine⟨_,rfl,p1,m1,rfl,fb.of d0,by lia,fun p2 m2 H2 s2 h2 l2=>?_⟩;refine⟨_,rfl,p2,m2,rfl,fb.of h2,by lia,fun t Z st es sn H3 s3 h3 as J g cv h4 ba G bd=>?_⟩;refine⟨t,_,rfl,gy.of h3,rfl,_,_,rfl,_,_,rfl,rfl,?_⟩;refine⟨_,rfl,Z,es,rfl,as,by lia,fun hd H4 s4 b9=>?_⟩;obtain⟨zs,hz,ap⟩:=gC.same s4 ba;refine⟨_,rfl,st,zs,rfl,.inl (fb.of hz),fun nd an=>?_⟩;have s5:=eA an (.lst zs);have M:gC (upd H4 nd (.lst zs)) nd sn:=⟨zs,d0,Paired.Kg ap fun _ _ z=>fR.same s5 z⟩;have bl:eF H (upd H4 nd (.lst zs)):=(((s1.trans s2).trans s3).trans s4).trans s5;have al:=ii.f bl.toF hT;have v:=gC.same s5 ⟨zs,hz,ap⟩;have r:=iP.same (s4.trans s5) as;have N:=iP.same s5 b9;generalize upd H4 nd (.lst zs)=H5 at *;refine⟨_,rfl,_,rfl,hd,nd,es,sn,rfl,N,by lia,J,M,ue g (by lia),al,fun c c1 c2 L C=>sW C (by rw[c1];exact h4),fun c H6 y c1 c2 b6 ct R=>?_⟩;subst c1;subst c2;have k6:=zb.tab al b6;refine⟨_,rfl,_,rfl,(by show 2≤sizeLine;decide),fun la bx=>?_⟩;have s7:=eA bx (.lst [.ref hd,.ref nd]);refine⟨_,rfl,_,rfl,(by show 2≤sizeLine;decide),fun lb cn=>?_⟩;have s8:=eA cn (.lst [.ref Z,.ref st]);have k8:=k6.trans (zb.of (s7.trans s8));refine⟨.ref la,.ref lb,_,rfl,tY (s8 _ _ d0) (N.k k8) (M.k k8),tY d0 (r.k k8) (v.k k8),Cv G g,zE g bd (by lia),fun H9 s9=>⟨_,rfl,ff ?_⟩⟩;have m:eF H6 H9:=(s7.trans s8).trans s9;have k9:=k6.trans (zb.of m);rcases R with ⟨L,⟨ln,ht,D⟩,C,e,hl,h0⟩ | ⟨L,U,⟨pa,ln,ht,cd,D⟩,C,ah,B,co,a6,_⟩
 ·have j:=m _ _ ht;refine⟨_,rfl,_,_,_,_,rfl,jw.tup j,ll K,_,rfl,ff ?_⟩;refine⟨_,rfl,y,_,rfl,.inr (gy.of j),rfl,_,rfl,ff ?_⟩;refine⟨_,rfl,_,rfl,_,rfl,y,_,_,_,rfl,rfl,gy.of j,rfl,Z,st,ln,c.es,c.sn,c.lns L,rfl,r.k k9,by lia,J,g,v.k k9,G,D.same m,nM C g (by lia),?_,uk C,fun Ha X=>⟨_,rfl,ff ?_⟩⟩
  ·unfold eg.lns;rw[ab];exact sW C h4
  have l:=X _ _ j;have O:=D.same (m.trans X);refine⟨_,rfl,y,_,_,_,rfl,rfl,gy.of l,rfl,_,rfl,gL ?_⟩;refine⟨_,rfl,y,_,_,_,rfl,rfl,gy.of l,rfl,(by show 0≤sizeLine;decide),fun lc bf=>?_⟩;have sc:=eA bf (.lst []);refine⟨.list ((c.lns L).map Fh),.list [],(O.same sc).rep,.lst d0 .nil,i5 (Fg (nM C g (by lia))) (by decide),rfl,?_⟩;have a0:((c.lns L).map Fh).isEmpty=false:=by
   cases L with
   |nil=>cases hl
   |cons x L=>rfl
  rw[tz,a0];refine⟨_,rfl,gL ?_⟩;obtain⟨xs,x,q1,pa,rv,g1,rfl,g2,g3⟩:=AR (O.same sc) hl h0;refine⟨_,rfl,y,_,_,_,rfl,rfl,gy.of (sc _ _ l),rfl,_,rfl,ln,_,_,_,rfl,rfl,fb.of g1,BB xs _,q1,_,_,_,rfl,rfl,gy.of g2,rfl,(by show 0≤sizeLine;decide),fun ld a5=>?_⟩;have sd:=eA a5 (.lst []);refine⟨.list [],.list [],.lst (sd _ _ g3) .nil,.lst d0 .nil,rfl,rfl,?_⟩;exact q _
 ·have j:=m _ _ ht;refine⟨_,rfl,_,_,_,_,rfl,jw.tup j,ll K,_,rfl,ff ?_⟩;refine⟨_,rfl,y,_,rfl,.inr (gy.of j),rfl,_,rfl,ff ?_⟩;refine⟨_,rfl,_,rfl,_,rfl,y,_,_,_,rfl,rfl,gy.of j,rfl,Z,st,ln,c.es,c.sn,c.lns L,rfl,r.k k9,by lia,J,g,v.k k9,G,D.same m,nM C g (by lia),?_,uk C,fun Ha X=>⟨_,rfl,ff ?_⟩⟩
  ·unfold eg.lns;rw[ab];exact sW C h4
  have l:=X _ _ j;have o:=cd.same (m.trans X);have ka:=k9.trans (zb.of X);refine⟨_,rfl,y,_,_,_,rfl,rfl,gy.of l,rfl,_,rfl,ff ?_⟩;refine⟨_,rfl,y,_,_,_,rfl,rfl,gy.of l,rfl,pa,_,rfl,o,_,rfl,ff ?_⟩;obtain⟨xs,b7,a3⟩:=id o;refine⟨_,rfl,y,_,_,_,rfl,rfl,gy.of l,rfl,_,rfl,y,_,_,_,rfl,rfl,gy.of l,rfl,pa,xs,c.listed U,rfl,fb.of b7,a3,c.nd.filter _,bJ lj (by lia),fun so a4 b5 b3 a1 a2 bm=>?_⟩;have ek:b5=c.listed U:=og bm vS a2;subst ek;have Y:=eA b3 (.lst a4);have cs:∀p∈c.listed U,fT p.1:=fun p hp=>jN g hp;have aa:SeqAt.shaped (.list ((c.listed U).map kI))=true:=i5 (k:=2) (EV (es:=c.es) (fun k hk=>(c.mem k).mp (eg.KI.mp hk).1) g) (by decide);refine⟨.list ((c.listed U).map kI),.list ((c.listed U).map kI),(o.same Y).rep,.lst d0 (jt (fun _ _ z=>fD.rep (fD.same Y z)) a1),aa,aa,_,rfl,?_⟩;rw[Dy];refine ff ?_;refine⟨_,rfl,_,rfl,_,rfl,y,_,_,_,rfl,rfl,gy.of (Y _ _ l),rfl,Z,st,pa,c.es,c.sn,c.listed U,rfl,(r.k ka).same Y,J,g,(v.k ka).same Y,G,by lia,o.same Y,fun k hk=>(c.mem k).mp (eg.KI.mp hk).1,nI B,bw lj (by omega),Dx ah (nI B),fun cp a b d=>Dw B a6 a b d,fun Hb _=>q Hb⟩
end
end FB
structure PySem.W.Fast:Prop where
 (tw11677874504046203310 tw16954859845453233191 tw10957256253774087575 tw3039567011385914528 tw6580936009380686083 tw2543190754551851906 tw1329880136213828984 tw2660428265161926584 tw16485025458164526736 tw12820207439367773284 tw14597594344221824293 tw15418951370680601420 tw12363130402843031582 tw6949621118666790433 tw8664999732316901979 tw7509296616113557318 tw9754992490910318499 tw8838658497616108540 tw9528813940638173400 tw1641617700359462775 tw5196552920684504663 tw2945573831150940492 tw2655405467304893864 tw5654901499895560268 tw10501805520792239720 tw2243751705327906276 tw6761255394189947757 tw12309416404124685855 tw12562823383238881038 tw9382517590003664752 tw5188383932677030852 tw6830601525428244571 tw5073408936313451961 tw4802321164096334774 tw9717465442324220510 tw11444229892637668759 tw8652834046882494357 tw9875001768408681936 tw15995813039699352609 tw3680919115353904799 tw2798242339997582925 tw9601405022988234165 tw6276345355124276049 tw6289583958159823434 tw6151826391089710385 tw4273661455395259840 tw15059196039208628220 tw5708197550773582159 tw11940644671383230638 tw1219279549663721714 tw11590744168351760046 tw8517784016565124234 tw14860293155791474255 tw818392852746672027 tw15351375001847611958 tw5638221763126329788 tw17104900193635346285 tw5558278080121752536 tw17865082606603802218 tw6076942936954558594 tw632054932430525169 tw16131509297779526412 tw2853587725069197001 tw17274643289215120914 tw6330021647295627589 tw1262391880447011609 tw5581203409727366097 tw13586829835569427896 tw15285479221195697714 tw2435179963024411275 tw17732329735387260962 tw8751468753934259959 tw2651085725017070728 tw11822525713158687751 tw12711665500893211061 tw8553605872959375391 tw15243731805620970466 tw4314637302940523428 tw1840557618478813708 tw9572535093910611889 tw7857871293460464358 tw10069859600700885740 tw4056669560729448670 tw13680530427971735235 tw11632792751410827042 tw12268791797330177922 tw10567772647255050951 tw6325633247321232562 tw17201022760520098621 tw15350807641140308672 tw1325063848797002219 tw10977014417973886418 tw8151382549739556039 tw13361756938472775079 tw6637265609674464050 tw14965080913443385148 tw16975970780950181707 tw18264679668596251848 tw2045367476927581570 tw5870260981222515996 tw4236277117899935174 tw2850164745807993914 tw13389947686668850821 tw1317338377112410922 tw279264689489830529 tw5386247734862891423 tw14047819845895791934 tw7363956470880040148 tw6582641338896753985 tw217785264105582466 tw6188715615955512405 tw4726791276741739175 tw16832575881649735140 tw4120681838893310864 tw6757364176539639585 tw9799147594013147210 tw3600895265288927080 tw838239536336186778 tw7197586647988719341 tw17115688029096046137 tw17538619038098155293 tw12766711193975894154 tw12509086669399244226 tw17091846777523788783 tw5352070323717273720 tw15426707460723313823 tw1847830272892507973 tw10112224333390129222 tw8225772440894444147 tw4728590933824040507 tw6335549177459673554 tw14932000773942196196 tw14557937521329342387 tw16128267582805523078 tw3509109801657559651 tw16130474858452871341 tw7381330479471633706 tw7390208463962013305 tw11720535565604988295 tw1136362263301211585 tw18296557238013818375 tw506884552512530900 tw7249264379719386123 tw4702790858709989961 tw17863444010427155013 tw16740389152366285467 tw2993444557994015088 tw5174284562085479150 tw6612181799026116890 tw7023506080757123149 tw3442018164620307527 tw9980974660707230098 tw1895328608040321323 tw1842750607059333994 tw16349183067064144018 tw3544857342035984112 tw6414851639740529816 tw10850069893605401753 tw15556106060079983363 tw11156773808376990319 tw5086671708932041102 tw8677554031260000087 tw4265064911378126579 tw8484824173785717312 tw153836825705040904 tw1683320679672118071 tw2283212973511539147 tw11923834353265517169 tw3059910408877012671 tw18431468072844650260 tw15852097124693094678 tw8834248184024936730 tw213050235481346651 tw5154846188813901090 tw6446991588061746171 tw197791780666948922 tw16002751390651272161 tw897976570458897352 tw15593962124390209589 tw6997689018893682914 tw1435706516677576522 tw6147607104168104131 tw671677934842554019 tw7003799328259609746 tw1696011803724010076 tw11434759164455858652 tw363836799496815908 tw13163398589813523983 tw14029740038980927379 tw10341599186225003965 tw1922283108971662891 tw12810686742805191108 tw1243526288171866265 tw8762266028477215182 tw12220790116938385402 tw6064339599251572426 tw2581540343034853783 tw7894257378252244 tw9949860468232782615 tw3459806510216488642 tw12139340842229408483 tw5622641522092871117 tw10335935908498503379 tw9335347172967043151 tw11355118226517148194 tw920118747942299127 tw5333751050903542473 tw14532644793210121088 tw3848263330037830436 tw8083890106737726501 tw7846992022546890396 tw16061353681720813715 tw4500923940315564829 tw5976203508333831328 tw10341884723218444573 tw943960394148865421 tw7024154201159325281 tw10195717490241452935 tw14098822842619969172 tw14413799268429314615 tw14623947930879968705 tw16241350251262017049 tw4133025362801609328 tw13303212565979909512 tw717390509669532498 tw15797055190604920343 tw3236954828836453642 tw13975129205227132518 tw4395108575685591100 tw6168482029256336673 tw17853541964791454817 tw15870687272069809987 tw7070833795007533120 tw6471388483079272528 tw10212525805492603046 tw2369009428435383311 tw4944593111277028724 tw10826841413083390433 tw15147441732825187003 tw10622349171694419477 tw10918318353574469318 tw15517651170522862181 tw15438031076712039819 tw522911489116016869 tw15904965614770351115 tw7818717175961518770 tw16528779049387696309 tw14933580241622133778 tw2542340381707082318 tw11825698892924083020 tw11736392852458103868 tw4844287117925675589 tw3291435843939923245 tw1439223658834765501 tw1182273534203029692 tw10831189635522588279 tw2690968479883074777 tw10196340313062316506 tw14871869822274011154 tw13446799809918931077 tw5147423545291112338 tw7975685473120147800 tw11349585929493649384 tw16569860299422438190 tw4156032879634906673 tw10395500268323416219 tw2838689111098471403 tw3264644622672688798 tw18121065748907117471 tw15769495958768322553 tw17582349604634417132 tw945538507628748129 tw3398291005984996816 tw11417213535952320691 tw269943510349573948 tw15137027907285418393 tw2098451374823105519 tw8739216344438871669 tw1732258693399713778 tw2454696542988447321 tw3311348246635778668 tw1626991582127034070 tw11494519834695225212 tw9743068972595183227 tw1549611600787342397 tw13099764941067876241 tw4868087323191774311 tw14111207630046555413 tw4383725698952732254 tw13557563061376024912 tw12999018061293049709 tw4330327596983655235 tw8682251207639212457 tw13942059690861041694 tw10902153873778017584 tw4208293569603711479 tw4272402793831217235 tw3348310131659629626 tw14164442103698939145 tw2008539765240913420 tw14459295245401007236 tw7071910155121720454 tw16843973546469447456 tw3691609804828684689 tw672726054367876173 tw5308761894662120795 tw16277059069637961720:True)
namespace FB
open PySem L2
theorem all_mk {l:W.OpenLaw}{w:World}{K:W.Frag}{h:Heap}{mg:Str→Option Value}{fa CB CC CL CT CF CS f1 f2 f3 f4 f5 f6 f7 f8 f9 f10 f11 f12 f13 f14 f15 f16 f17 f18 f19 f20 f21 f22 f23 fm1 fm2 fm3 fm4 fm5 fm6 fm7 fm8 fm9 fm10 fm11 fm12 fm13 fm14 fm15 fm16 fm17 fm18 fm19 fm20 fm21 fm22 fm23 fm24 fm25 fm26 fm27 fm28 fm29 fm30 fm31 PP:Addr}(X:K.In h)(G:h.Ns mainGlobals mg)(lf:mg "law" = some (.ref fa))(O:Eo K "Board" CB)(L:W.findIn K (.ref CB) "needs" = some none)(p:W.findIn K (.ref CB) "versions" = some none)(r:Eo K "Chart" CC)(R:W.findIn K (.ref CC) "board" = some none)(Y:W.findIn K (.ref CC) "bits" = some none)(C:W.findIn K (.ref CC) "by_bit" = some none)(x:W.findIn K (.ref CC) "of_part" = some none)(z:W.findIn K (.ref CC) "allowed" = some none)(t:W.findIn K (.ref CC) "shut_out" = some none)(aa:W.findIn K (.ref CC) "foes" = some none)(A:Eo K "Ledger" CL)(U:W.findIn K (.ref CL) "chart" = some none)(I:W.findIn K (.ref CL) "masks" = some none)(y:W.findIn K (.ref CL) "reasons" = some none)(j:W.findIn K (.ref CL) "place_by_mask" = some none)(i:W.findIn K (.ref CL) "places_by_pick" = some none)(al:Eo K "Stand" CT)(E:W.findIn K (.ref CT) "picked" = some none)(ad:W.findIn K (.ref CT) "dead" = some none)(F:W.findIn K (.ref CT) "wanted" = some none)(ag:Eo K "Fork" CF)(Z:W.findIn K (.ref CF) "part" = some none)(S:W.findIn K (.ref CF) "stand" = some none)(ah:W.findIn K (.ref CF) "bit" = some none)(d:Eo K "Search" CS)(Q:W.findIn K (.ref CS) "chart" = some none)(D:W.findIn K (.ref CS) "ledger" = some none)(H:W.findIn K (.ref CS) "forks" = some none)(d1:oE K "clashes" pJ f1)(d2:oE K "count_picks" vq f2)(d3:oE K "worked_out" rR f3)(d4:oE K "_law_whole" ve f4)(d5:oE K "_law_at" IZ f5)(d6:oE K "_law_version_by" EQ f6)(d7:oE K "_law_need_by" zL f7)(d8:oE K "_law_shelf_by" vm f8)(d9:oE K "_law_start_by" pC f9)(oi:oE K "_law_copy_of" zS f10)(ht:oE K "_law_needs_in" pG f11)(n0:oE K "_law_meets" si f12)(hk:oE K "_law_newest" rY f13)(nd:oE K "_law_is_pick" sj f14)(on:oE K "_law_are_picks" nz f15)(lx:oE K "_law_fits" vp f16)(lb:oE K "_law_is_line" sk f17)(hl:oE K "_law_holds" pI f18)(lp:oE K "_law_lines_hold" lX f19)(kn:oE K "_law_asked_by" vt f20)(hy:oE K "_law_stays_so" vg f21)(ne:oE K "_law_mixed" vn f22)(i2:lQ K CB "__init__" "Board.__init__" zP fm1)(hm:lQ K CB "meeting" "Board.meeting" pH fm2)(is:lQ K CC "__init__" "Chart.__init__" su fm3)(hz:lQ K CC "give_bits" "Chart.give_bits" zR fm4)(n2:lQ K CC "allowed_by" "Chart.allowed_by" pK fm5)(hn:lQ K CC "shut_out_by" "Chart.shut_out_by" pD fm6)(nb:lQ K CC "make_foes_mutual" "Chart.make_foes_mutual" r6 fm7)(hu:lQ K CC "listed" "Chart.listed" r8 fm8)(n1:lQ K CL "__init__" "Ledger.__init__" r9 fm9)(cx:lQ K CL "put_down" "Ledger.put_down" ER fm10)(fk:lQ K CL "place_against" "Ledger.place_against" rX fm11)(cy:lQ K CL "barred_with" "Ledger.barred_with" sw fm12)(ex:lQ K CL "told" "Ledger.told" vf fm13)(gd:lQ K CT "__init__" "Stand.__init__" rT fm14)(bl:lQ K CF "__init__" "Fork.__init__" sr fm15)(c6:lQ K CS "__init__" "Search.__init__" rV fm16)(bx:lQ K CS "opening" "Search.opening" pF fm17)(hf:lQ K CS "wanted_by" "Search.wanted_by" rS fm18)(dn:lQ K CS "left" "Search.left" zN fm19)(cl:Iy K CS "next_part" "Search.next_part" t6 fm20 PP)(gn:lQ K CS "go_on" "Search.go_on" zQ fm21)(ep:lQ K CS "stand_behind" "Search.stand_behind" sv fm22)(c7:lQ K CS "go_back" "Search.go_back" sq fm23)(g8:lQ K CS "mark_dead" "Search.mark_dead" zM fm24)(fx:lQ K CS "shut" "Search.shut" zK fm25)(cn:lQ K CS "place_of_need" "Search.place_of_need" rW fm26)(dv:lQ K CS "line_against" "Search.line_against" vo fm27)(fl:lQ K CS "outside" "Search.outside" pE fm28)(e9:lQ K CS "show_newest" "Search.show_newest" vh fm29)(ew:lQ K CS "newer_picks" "Search.newer_picks" rZ fm30)(ez:lQ K CS "show_barred" "Search.show_barred" vi fm31){oc kV dc pm cd ct:Value}{od an:Option Addr}{sl:Array (Option Value)}(aL:W.nsIn K mainGlobals "law" = some (some (.ref f23)))(lL:K.lookup f23=some ⟨oc,od,.func (W.fnOf "law" "law" (hU sg) (gF sg) (eE sg) .none kV dc pm an cd ct),sl⟩)(cL:W.codeIn K cd "law" = true)(kL:W.keepIn K (.ref f23)=true)(z1:W.nsIn K mainGlobals "len" = some none)(z2:W.nsIn K mainGlobals "range" = some none)(z3:W.nsIn K mainGlobals "list" = some none)(z4:W.nsIn K mainGlobals "tuple" = some none)(z5:W.nsIn K mainGlobals "str" = some none)(z6:W.nsIn K mainGlobals "int" = some none)(z7:W.nsIn K mainGlobals "bool" = some none)(z8:W.nsIn K mainGlobals "isinstance" = some none)(z9:W.nsIn K mainGlobals "sorted" = some none)(a8:W.nsIn K mainGlobals "reversed" = some none)(n9:W.nsIn K mainGlobals "zip" = some none)(la:W.nsIn K mainGlobals "max" = some none)(ba:W.nsIn K mainGlobals "min" = some none)(h6:W.nsIn K mainGlobals "sum" = some none)(nl:W.nsIn K mainGlobals "dict" = some none)(l1:W.nsIn K mainGlobals "enumerate" = some none):∃(fd:FuncData) (cP:Addr),W.codeHdIn K cP PP=true∧(∀(s:Shared) (v:Value),BindsTo s fd ⟨[v],[]⟩ [("_law_script",v)])∧∀base:Heap,K.In base→base.Ns mainGlobals mg→tM mg base→eZ l.prog w K mg base fh 10 fa fd ["_law_script"] (rJ K PP):=by
 have e:=lf.symm.trans (W.mg_of X G aL);cases e;have T:wn K mg:=⟨(bn X G z1),(bn X G z2),(bn X G z3),(bn X G z4),(bn X G z5),(bn X G z6),(bn X G z7),(bn X G z8),(bn X G z9),(bn X G a8)⟩;obtain⟨_,F1,b1,k1,m1⟩:=d1.u X G (ps:=["need","pick"]) fun _ _ _ _ _ _=>j6 fun _ _=>rfl;obtain⟨_,F2,b2,k2,m2⟩:=d2.u X G (ps:=["mask"]) fun _ _ _ _ _ _=>lr fun _=>rfl;obtain⟨_,F3,b3,k3,m3⟩:=d3.u X G (ps:=["shelf","start"]) fun _ _ _ _ _ _=>j6 fun _ _=>rfl;obtain⟨_,F4,b4,k4,m4⟩:=d4.u X G (ps:=["_law_found"]) fun _ _ _ _ _ _=>lr fun _=>rfl;obtain⟨_,F5,b5,k5,m5⟩:=d5.u X G (ps:=["_law_script","_law_k"]) fun _ _ _ _ _ _=>j6 fun _ _=>rfl;obtain⟨_,F6,b6,k6,m6⟩:=d6.u X G (ps:=["_law_cell"]) fun _ _ _ _ _ _=>lr fun _=>rfl;obtain⟨_,F7,b7,k7,m7⟩:=d7.u X G (ps:=["_law_cell"]) fun _ _ _ _ _ _=>lr fun _=>rfl;obtain⟨_,F8,b8,k8,m8⟩:=d8.u X G (ps:=["_law_cells"]) fun _ _ _ _ _ _=>lr fun _=>rfl;obtain⟨_,F9,b9,k9,m9⟩:=d9.u X G (ps:=["_law_cells"]) fun _ _ _ _ _ _=>lr fun _=>rfl;obtain⟨_,ny,nj,js,kw⟩:=oi.u X G (ps:=["_law_shelf"]) fun _ _ _ _ _ _=>lr fun _=>rfl;obtain⟨_,lm,cz,ei,cp⟩:=ht.u X G (ps:=["_law_shelf","_law_pick"]) fun _ _ _ _ _ _=>j6 fun _ _=>rfl;obtain⟨_,ko,a5,a4,a1⟩:=n0.u X G (ps:=["_law_need","_law_version"]) fun _ _ _ _ _ _=>j6 fun _ _=>rfl;obtain⟨_,mr,nk,nt,mt⟩:=hk.u X G (ps:=["_law_shelf","_law_need"]) fun _ _ _ _ _ _=>j6 fun _ _=>rfl;obtain⟨_,le,gk,c1,gb⟩:=nd.u X G (ps:=["_law_found"]) fun _ _ _ _ _ _=>lr fun _=>rfl;obtain⟨_,hx,gh,dx,fu⟩:=on.u X G (ps:=["_law_found"]) fun _ _ _ _ _ _=>lr fun _=>rfl;obtain⟨_,iv,it,kd,lo⟩:=lx.u X G (ps:=["_law_shelf","_law_start","_law_picks"]) fun _ _ _ _ _ _=>oB fun _ _ _=>rfl;obtain⟨_,kv,h9,n5,j1⟩:=lb.u X G (ps:=["_law_found"]) fun _ _ _ _ _ _=>lr fun _=>rfl;obtain⟨_,l3,nc,ks,i3⟩:=hl.u X G (ps:=["_law_shelf","_law_start","_law_lines","_law_spot"]) fun _ _ _ _ _ _=>Dz fun _ _ _ _=>rfl;obtain⟨_,ih,oa,n4,nx⟩:=lp.u X G (ps:=["_law_shelf","_law_start","_law_lines"]) fun _ _ _ _ _ _=>oB fun _ _ _=>rfl;obtain⟨_,n8,j2,hs,kx⟩:=kn.u X G (ps:=["_law_script"]) fun _ _ _ _ _ _=>lr fun _=>rfl;obtain⟨_,kt,h0,n7,h2⟩:=hy.u X G (ps:=["_law_handed","_law_own"]) fun _ _ _ _ _ _=>j6 fun _ _=>rfl;obtain⟨_,hr,lk,lw,h3⟩:=ne.u X G (ps:=["_law_script"]) fun _ _ _ _ _ _=>lr fun _=>rfl;obtain⟨_,ld,hi,c3⟩:=i2.u (ps:=["self","shelf","start"]) fun _ _ _ _ _ _=>oB fun _ _ _=>rfl;obtain⟨_,ls,k0,mq⟩:=hm.u (ps:=["self","need"]) fun _ _ _ _ _ _=>j6 fun _ _=>rfl;obtain⟨_,nf,ob,go⟩:=is.u (ps:=["self","board"]) fun _ _ _ _ _ _=>j6 fun _ _=>rfl;obtain⟨_,l2,lz,j0⟩:=hz.u (ps:=["self"]) fun _ _ _ _ _ _=>lr fun _=>rfl;obtain⟨_,h8,i0,ns⟩:=n2.u (ps:=["self","who"]) fun _ _ _ _ _ _=>j6 fun _ _=>rfl;obtain⟨_,n3,hj,h7⟩:=hn.u (ps:=["self","who"]) fun _ _ _ _ _ _=>j6 fun _ _=>rfl;obtain⟨_,n6,mc,ka⟩:=nb.u (ps:=["self"]) fun _ _ _ _ _ _=>lr fun _=>rfl;obtain⟨_,kj,nm,kp⟩:=hu.u (ps:=["self","mask"]) fun _ _ _ _ _ _=>j6 fun _ _=>rfl;obtain⟨_,jn,i1,gg⟩:=n1.u (ps:=["self","chart"]) fun _ _ _ _ _ _=>j6 fun _ _=>rfl;obtain⟨_,ec,dd,g4⟩:=cx.u (ps:=["self","mask","reason"]) fun _ _ _ _ _ _=>oB fun _ _ _=>rfl;obtain⟨_,ea,bf,es⟩:=fk.u (ps:=["self","pick","picked"]) fun _ _ _ _ _ _=>oB fun _ _ _=>rfl;obtain⟨_,hh,ek,gt⟩:=cy.u (ps:=["self","pick","picked"]) fun _ _ _ _ _ _=>oB fun _ _ _=>rfl;obtain⟨_,hd,g5,e3⟩:=ex.u (ps:=["self"]) fun _ _ _ _ _ _=>lr fun _=>rfl;obtain⟨_,e2,dy,as⟩:=gd.u (ps:=["self","picked","dead","wanted"]) fun _ _ _ _ _ _=>Dz fun _ _ _ _=>rfl;obtain⟨_,hb,fo,ap⟩:=bl.u (ps:=["self","part","stand"]) fun _ _ _ _ _ _=>oB fun _ _ _=>rfl;obtain⟨_,g9,e1,a0⟩:=c6.u (ps:=["self","chart"]) fun _ _ _ _ _ _=>j6 fun _ _=>rfl;obtain⟨_,a6,hg,dl⟩:=bx.u (ps:=["self"]) fun _ _ _ _ _ _=>lr fun _=>rfl;obtain⟨_,g1,fv,ha⟩:=hf.u (ps:=["self","wanted","who","picked"]) fun _ _ _ _ _ _=>Dz fun _ _ _ _=>rfl;obtain⟨_,gp,c8,da⟩:=dn.u (ps:=["self","stand","part"]) fun _ _ _ _ _ _=>oB fun _ _ _=>rfl;obtain⟨_,_,a3,fr,ey,eh⟩:=cl.u (ps:=["self","stand"]) fun _ _ _ _ _ _=>j6 fun _ _=>rfl;obtain⟨_,cs,ga,e8⟩:=gn.u (ps:=["self"]) fun _ _ _ _ _ _=>lr fun _=>rfl;obtain⟨_,g0,f0,e5⟩:=ep.u (ps:=["self","fork"]) fun _ _ _ _ _ _=>j6 fun _ _=>rfl;obtain⟨_,ft,bq,c0⟩:=c7.u (ps:=["self","place"]) fun _ _ _ _ _ _=>j6 fun _ _=>rfl;obtain⟨_,c2,dp,bd⟩:=g8.u (ps:=["self","bit","place"]) fun _ _ _ _ _ _=>oB fun _ _ _=>rfl;obtain⟨_,g7,e4,ed⟩:=fx.u (ps:=["self","fork","known"]) fun _ _ _ _ _ _=>oB fun _ _ _=>rfl;obtain⟨_,bm,gw,bv⟩:=cn.u (ps:=["self","who","part"]) fun _ _ _ _ _ _=>oB fun _ _ _=>rfl;obtain⟨_,eq,gx,c5⟩:=dv.u (ps:=["self","pick"]) fun _ _ _ _ _ _=>j6 fun _ _=>rfl;obtain⟨_,g2,he,ds⟩:=fl.u (ps:=["self","who","pick"]) fun _ _ _ _ _ _=>oB fun _ _ _=>rfl;obtain⟨_,eb,a9,hc⟩:=e9.u (ps:=["self","picked"]) fun _ _ _ _ _ _=>j6 fun _ _=>rfl;obtain⟨_,e0,a7,fy⟩:=ew.u (ps:=["self","fork"]) fun _ _ _ _ _ _=>j6 fun _ _=>rfl;obtain⟨_,ej,ev,fp⟩:=ez.u (ps:=["self","pick","kept","forks"]) fun _ _ _ _ _ _=>Dz fun _ _ _ _=>rfl;have kk:=nS (st:=sg) lL cL kL;refine⟨W.fnOf "law" "law" (hU sg) (gF sg) (eE sg) .none kV dc pm an cd ct,_,eh,fun s v=>.of_eq rfl,fun base _ _ h5=>?_⟩;have q:TB K mg CB:=⟨O.c,L,p,W.mg_of X G O.a,(bn X G z3),(bn X G z9)⟩;have b:TC K mg CC:=⟨r.c,R,Y,C,x,z,t,aa,(bn X G z9),(bn X G la),(bn X G ba),(bn X G h6)⟩;have o:TL K mg CL:=⟨A.c,U,I,y,j,i,(bn X G z1),(bn X G n9)⟩;have B:DF K mg CT:=⟨al.c,E,ad,F⟩;have m:BR K mg CF:=⟨ag.c,Z,S,ah⟩;have g:tO K mg CS:=⟨d.c,Q,D,H,(bn X G nl),(bn X G ba),(bn X G z3),(bn X G l1),(bn X G a8)⟩;have ch:=vH (P:=l.prog) (w:=w) (mg:=mg) (base:=base) F1;have em:=AE (P:=l.prog) (w:=w) (mg:=mg) (base:=base) F2;have ma:xK l.prog w K mg base CB fh 1 "Board" ["self","shelf","start"] (rK CB):=⟨W.mg_of X G O.a,_,_,⟨O.mk_,c3.at_,c3.fn,O.kc⟩,AD ld q,hi⟩;have a2:Mt l.prog w K mg base CB fh 2 "meeting" ["self","need"] (jY CB):=⟨O.c,_,_,vG ls q ch b1 k1 m1,k0,mq⟩;have J:Mt l.prog w K mg base CC fh 1 "listed" ["self","mask"] (jg CC):=⟨r.c,_,_,yn kj b,nm,kp⟩;have kl:Mt l.prog w K mg base CC fh 1 "give_bits" ["self"] (u8 CB CC):=⟨r.c,_,_,Dd l2 b q,lz,j0⟩;have mp:Mt l.prog w K mg base CC fh 3 "allowed_by" ["self","who"] (nw CB CC):=⟨r.c,_,_,vI h8 b q a2,i0,ns⟩;have kf:Mt l.prog w K mg base CC fh 1 "shut_out_by" ["self","who"] (ni CC):=⟨r.c,_,_,vC n3 b,hj,h7⟩;have lq:Mt l.prog w K mg base CC fh 2 "make_foes_mutual" ["self"] (pe CC):=⟨r.c,_,_,yl n6 b J,mc,ka⟩;have hp:xK l.prog w K mg base CC fh 4 "Chart" ["self","board"] (pw CB CC):=⟨W.mg_of X G r.a,_,_,⟨r.mk_,go.at_,go.fn,r.kc⟩,yz nf b q kl mp kf lq,ob⟩;have m0:xK l.prog w K mg base CL fh 1 "Ledger" ["self","chart"] (pf CL):=⟨W.mg_of X G A.a,_,_,⟨A.mk_,gg.at_,gg.fn,A.kc⟩,yp jn o,i1⟩;have cv:Mt l.prog w K mg base CL fh 2 "put_down" ["self","mask","reason"] (wE CB CC CL):=⟨A.c,_,_,E7 ec o J,dd,g4⟩;have hw:Mt l.prog w K mg base CL fh 1 "place_against" ["self","pick","picked"] (pc CB CC CL):=⟨A.c,_,_,yj ea o b,bf,es⟩;have ky:Mt l.prog w K mg base CL fh 1 "barred_with" ["self","pick","picked"] (pz CB CC CL):=⟨A.c,_,_,yB hh o,ek,gt⟩;have kh:Mt l.prog w K mg base CL fh 2 "told" ["self"] (rp CB CC CL):=⟨A.c,_,_,Av hd o J,g5,e3⟩;have g6:xK l.prog w K mg base CT fh 1 "Stand" ["self","picked","dead","wanted"] (mw CT):=⟨W.mg_of X G al.a,_,_,⟨al.mk_,as.at_,as.fn,al.kc⟩,yg e2 B,dy⟩;have np:xK l.prog w K mg base CF fh 1 "Fork" ["self","part","stand"] (pr CF):=⟨W.mg_of X G ag.a,_,_,⟨ag.mk_,ap.at_,ap.fn,ag.kc⟩,yy hb m,fo⟩;have na:xK l.prog w K mg base CS fh 3 "Search" ["self","chart"] (pb CL CS):=⟨W.mg_of X G d.a,_,_,⟨d.mk_,a0.at_,a0.fn,d.kc⟩,yh g9 g m0,e1⟩;have eu:Mt l.prog w K mg base CS fh 1 "left" ["self","stand","part"] (rH CB CC CS CT):=⟨d.c,_,_,Db gp g b B,c8,da⟩;have c9:Mt l.prog w K mg base CS fh 2 "wanted_by" ["self","wanted","who","picked"] (mo CB CC CS):=⟨d.c,_,_,yf g1 g b em b2 k2 m2,fv,ha⟩;have e7:Mt l.prog w K mg base CS fh 1 "place_of_need" ["self","who","part"] (mx CB CC CS):=⟨d.c,_,_,yi bm g b q,gw,bv⟩;have h1:Mt l.prog w K mg base CS fh 3 "outside" ["self","who","pick"] (nn CB CC CL CS):=⟨d.c,_,_,vD g2 g b q ch b1 k1 m1 cv,he,ds⟩;have co:Mt l.prog w K mg base CS fh 4 "line_against" ["self","pick"] (my CB CC CL CS CF CT):=⟨d.c,_,_,Da eq g b B m h1 J hw,gx,c5⟩;have c4:Mt l.prog w K mg base CS fh 5 "shut" ["self","fork","known"] (rB CB CC CL CS CF CT):=⟨d.c,_,_,C6 g7 g b o q B m e7 a2 co cv,e4,ed⟩;have e6:Mt l.prog w K mg base CS fh 1 "mark_dead" ["self","bit","place"] (rG CB CC CL CS CF CT):=⟨d.c,_,_,C9 c2 g o B m,dp,bd⟩;have kb:Mt l.prog w K mg base CS fh 2 "go_back" ["self","place"] (pj CB CC CL CS CF CT):=⟨d.c,_,_,yx ft g o m e6,bq,c0⟩;have nq:Mt l.prog w K mg base CS fh 3 "stand_behind" ["self","fork"] (py CB CC CL CS CF CT):=⟨d.c,_,_,yA g0 g b B m ky c9 g6,f0,e5⟩;have kq:Mt l.prog w K mg base CS fh 3 "opening" ["self"] (nr CB CC CL CS CT):=⟨d.c,_,_,vE a6 g b c9 g6,hg,dl⟩;have hv:Mt l.prog w K mg base CS fh 6 "go_on" ["self"] (u7 CB CC CL CS CF CT):=⟨d.c,_,_,Dc cs g b m J eu nq c4 kb,ga,e8⟩;have lv:Mt l.prog w K mg base CS fh 5 "next_part" ["self","stand"] (u5 CB CC CS CT Cj ze PP):=⟨d.c,_,_,C7 a3 eh h5 g b B em b2 k2 m2 eu,fr,ey⟩;have mb:Mt l.prog w K mg base CS fh 3 "newer_picks" ["self","fork"] (rE CB CC CS CF CT):=⟨d.c,_,_,AB e0 g b q m e7 a2,a7,fy⟩;have hq:Mt l.prog w K mg base CS fh 6 "show_barred" ["self","pick","kept","forks"] (rD CB CC CL CS CF CT):=⟨d.c,_,_,Ay ej g b o m co c4 e6,ev,fp⟩;have h4:Mt l.prog w K mg base CS fh 7 "show_newest" ["self","picked"] (rC CB CC CL CS CF CT):=⟨d.c,_,_,Ax eb g b m mb hq,a9,hc⟩;have WO:=ye F3 g B ma hp na np kq lv hv kh h4 J;have V:=E6 (P:=l.prog) (w:=w) (mg:=mg) (base:=base) F6;have N:=C8 F7 V b6 k6 m6;have M:=ym (P:=l.prog) (w:=w) (mg:=mg) (base:=base) ko;have SB:=vB F9 N b7 k7 m7;have NI:=vF (P:=l.prog) (w:=w) (mg:=mg) (base:=base) lm;have AT:=He (P:=l.prog) (w:=w) (base:=base) F5 T;have SH:=Az F8 T V b6 k6 m6 N b7 k7 m7;have NW:=yk mr T M a5 a4 a1;have HO:=yw l3 T NI cz ei cp M a5 a4 a1 NW nk nt mt;have WH:=Au (P:=l.prog) (w:=w) (base:=base) F4 T;have IP:=yr le T WH b4 k4 m4;have AP:=uc hx T IP gk c1 gb;have IL:=yt kv T AP gh dx fu IP gk c1 gb WH b4 k4 m4;have mm:Gd l.prog w K mg base fh 9 "_law_asked_by" ["_law_script"] (rM K):=⟨_,_,(AF n8 SH b8 k8 m8 SB b9 k9 m9 AT b5 k5 m5).mono (by decide),j2,hs,kx⟩;have mu:Gd l.prog w K mg base fh 9 "_law_copy_of" ["_law_shelf"] u9:=⟨_,_,(De ny T).mono (by decide),nj,js,kw⟩;have l0:Gd l.prog w K mg base fh 9 "_law_stays_so" ["_law_handed","_law_own"] rA:=⟨_,_,(Aw kt T).mono (by decide),h0,n7,h2⟩;have lc:Gd l.prog w K mg base fh 9 "_law_mixed" ["_law_script"] (rF K):=⟨_,_,(AC hr T).mono (by decide),lk,lw,h3⟩;have ms:Gd l.prog w K mg base fh 9 "_law_fits" ["_law_shelf","_law_start","_law_picks"] ph:=⟨_,_,(yo iv T NI cz ei cp M a5 a4 a1).mono (by decide),it,kd,lo⟩;have ly:Gd l.prog w K mg base fh 9 "_law_lines_hold" ["_law_shelf","_law_start","_law_lines"] kO:=⟨_,_,(sM ih T IL h9 n5 j1 (HO.mono (by decide)) nc ks i3).mono (by decide),oa,n4,nx⟩;have ho:Gd l.prog w K mg base fh 9 "_law_are_picks" ["_law_found"] ke:=⟨_,_,(AP).mono (by decide),gh,dx,fu⟩;have g3:Gd l.prog w K mg base fh 9 "worked_out" ["shelf","start"] (o0 PP):=⟨_,_,(WO).mono (by decide),b3,k3,m3⟩;exact E8 kk T mm mu l0 lc ms ly ho g3
theorem walk {l:W.OpenLaw}{q:Program}{loose:List Str}{XP:(Str→Option Value)→Heap→Prop}{YP:World→Heap→Prop}{d:DefRec}{K:Params→W.Frag}{PP:Addr}(hn:l.most=some 63)(hdf:d.params.defaults=[])(hY:∀(w:World) (h:Heap),YP w h→(K w.params).In h)(hY2:∀(w:World) (h:Heap),YP w h→h.get? PP=some (W.tabObj #[]))(hKP:∀w:World,(K w.params).lookup PP=none)(F:∀(w:World) (mg:Str→Option Value) (fa:Addr) (h:Heap),(K w.params).In h→h.Ns mainGlobals mg→mg d.name=some (.ref fa)→∃(fd:FuncData) (cP:Addr),W.codeHdIn (K w.params) cP PP=true∧(∀(s:Shared) (u:Value),BindsTo s fd ⟨[u],[]⟩ [("_law_script",u)])∧∀base:Heap,(K w.params).In base→base.Ns mainGlobals mg→tM mg base→eZ l.prog w (K w.params) mg base fh 10 fa fd ["_law_script"] (rJ (K w.params) PP)):W.WalkO q loose XP YP l.row.toRowW d [] (fun f vs=>PySem.call f vs):=
 zk (n:=63) (k:=10) (x:="_law_script") (sp:=fun w=>rJ (K w.params) PP) hn (by decide) hdf ⟨rfl,by decide,by decide⟩ hY hY2 hKP F fun _ _ a ns hl hS hP=>⟨a,ns,rfl,hS,hl,.inl hP,fun _=>rfl⟩
end FB
open PySem PySem.W PyProof.Rows
set_option maxRecDepth 100000 in
set_option maxHeartbeats 0 in
theorem PySem.Challenge.cw_fitboard_k06_whole_choice_or_none_holds : PySem.Challenge.rw_fitboard_k06_whole_choice_or_none.Holds := by
 w_on;o_law;k_head;(case hw=>w_witness2)
 k_fill
 refine FB.walk (l:=PySem.Challenge.rw_fitboard_k06_whole_choice_or_none) rfl rfl (fun w h Y=>W.km_in_of Y) (fun w h Y=>W.km_tabs_of Y _ (List.Mem.head _)) (fun w=>by kernel_rfl) ?F
 case F=>
  intro w mg fa h KX G hmg;refine' FB.all_mk KX G hmg ⟨?_,?_,?_,?_,?_,?_,?_⟩ ?_ ?_ ⟨?_,?_,?_,?_,?_,?_,?_⟩ ?_ ?_ ?_ ?_ ?_ ?_ ?_ ⟨?_,?_,?_,?_,?_,?_,?_⟩ ?_ ?_ ?_ ?_ ?_ ⟨?_,?_,?_,?_,?_,?_,?_⟩ ?_ ?_ ?_ ⟨?_,?_,?_,?_,?_,?_,?_⟩ ?_ ?_ ?_ ⟨?_,?_,?_,?_,?_,?_,?_⟩ ?_ ?_ ?_ (.mk ?_ ?_ ?_ ?_) (.mk ?_ ?_ ?_ ?_) (.mk ?_ ?_ ?_ ?_) (.mk ?_ ?_ ?_ ?_) (.mk ?_ ?_ ?_ ?_) (.mk ?_ ?_ ?_ ?_) (.mk ?_ ?_ ?_ ?_) (.mk ?_ ?_ ?_ ?_) (.mk ?_ ?_ ?_ ?_) (.mk ?_ ?_ ?_ ?_) (.mk ?_ ?_ ?_ ?_) (.mk ?_ ?_ ?_ ?_) (.mk ?_ ?_ ?_ ?_) (.mk ?_ ?_ ?_ ?_) (.mk ?_ ?_ ?_ ?_) (.mk ?_ ?_ ?_ ?_) (.mk ?_ ?_ ?_ ?_) (.mk ?_ ?_ ?_ ?_) (.mk ?_ ?_ ?_ ?_) (.mk ?_ ?_ ?_ ?_) (.mk ?_ ?_ ?_ ?_) (.mk ?_ ?_ ?_ ?_) (.mk ?_ ?_ ?_ ?_ ?_) (.mk ?_ ?_ ?_ ?_ ?_) (.mk ?_ ?_ ?_ ?_ ?_) (.mk ?_ ?_ ?_ ?_ ?_) (.mk ?_ ?_ ?_ ?_ ?_) (.mk ?_ ?_ ?_ ?_ ?_) (.mk ?_ ?_ ?_ ?_ ?_) (.mk ?_ ?_ ?_ ?_ ?_) (.mk ?_ ?_ ?_ ?_ ?_) (.mk ?_ ?_ ?_ ?_ ?_) (.mk ?_ ?_ ?_ ?_ ?_) (.mk ?_ ?_ ?_ ?_ ?_) (.mk ?_ ?_ ?_ ?_ ?_) (.mk ?_ ?_ ?_ ?_ ?_) (.mk ?_ ?_ ?_ ?_ ?_) (.mk ?_ ?_ ?_ ?_ ?_) (.mk ?_ ?_ ?_ ?_ ?_) (.mk ?_ ?_ ?_ ?_ ?_) (.mk ?_ ?_ ?_ ?_ ?_) (.mk ?_ ?_ ?_ ?_ ?_ ?_) (.mk ?_ ?_ ?_ ?_ ?_) (.mk ?_ ?_ ?_ ?_ ?_) (.mk ?_ ?_ ?_ ?_ ?_) (.mk ?_ ?_ ?_ ?_ ?_) (.mk ?_ ?_ ?_ ?_ ?_) (.mk ?_ ?_ ?_ ?_ ?_) (.mk ?_ ?_ ?_ ?_ ?_) (.mk ?_ ?_ ?_ ?_ ?_) (.mk ?_ ?_ ?_ ?_ ?_) (.mk ?_ ?_ ?_ ?_ ?_) (.mk ?_ ?_ ?_ ?_ ?_) ?_ ?_ ?_ ?_ ?_ ?_ ?_ ?_ ?_ ?_ ?_ ?_ ?_ ?_ ?_ ?_ ?_ ?_ ?_ ?_
  all_goals try first | k_is | k_exc | kernel_rfl
