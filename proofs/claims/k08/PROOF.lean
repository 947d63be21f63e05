import PyProof.Rows.All
import Wide.All
import OpenK.AllK
import Wide.FinOn
import PyProof.EqAt
import PyProof.EqKinds
import PyProof.TupleCall
import KE.KMinKey
import KE.KSortTup
import PyProof.EqLayable
import Lean
import PySem.Challenge.RW_fitboard_k08_whole_no_choice_is_newer
set_option Elab.async false
set_option linter.all false
set_option maxRecDepth 100000
section
open PySem PySem.Spec PyProof.Rows
abbrev ab:=@List.length_map
abbrev ac:=@wpAny_bind
abbrev ae:=@List.getElem?_map
abbrev af:=@List.getElem?_eq_some_iff
abbrev ai:=@List.mem_singleton
abbrev aj:=@List.mem_of_getElem?
abbrev ak:=@List.mem_cons
abbrev am:=@List.getElem?_eq_getElem
abbrev ao:=@decide_eq_true
abbrev aq:=@Nat.le_refl
abbrev ar:=@wpAny_pure
abbrev au:=@decide_eq_false
abbrev av:=@List.mem_map
abbrev aw:=@List.map_append
abbrev ax:=@Option.map_eq_some_iff
abbrev ay:=@List.mem_append
abbrev az:=@List.mem_iff_getElem?
abbrev aA:=@decide_eq_true_eq
abbrev aB:=@List.length_cons
abbrev aC:=@Heap.get?_push_of_some
abbrev aD:=@List.map_cons
abbrev aE:=@List.length_append
abbrev aF:=@List.take_length
abbrev aG:=@List.filter_cons
abbrev aH:=@Bool.and_eq_true
abbrev aI:=@List.mem_append_right
abbrev aJ:=@List.mem_append_left
abbrev aK:=@List.getElem?_append_left
abbrev aM:=@List.not_mem_nil
abbrev aN:=@List.length_take
abbrev aO:=@List.size_toArray
abbrev aP:=@Bool.false_ne_true
abbrev aQ:=@List.take_succ
abbrev aR:=@List.length_singleton
abbrev aS:=@Heap.lt_size
abbrev aT:=@Heap.get?_push_size
abbrev aU:=@List.nodup_cons
abbrev aV:=@List.mem_filter
abbrev aW:=@List.getElem?_append_right
abbrev aX:=@Nat.ne_of_lt
abbrev aY:=@List.lookup_cons
abbrev aZ:=@List.mem_cons_of_mem
abbrev ba:=@List.getD_eq_getElem?_getD
abbrev bb:=@Nat.lt_of_lt_of_le
abbrev bc:=@of_decide_eq_true
abbrev be:=@W.mg_none_of
abbrev bg:=@List.mem_map_of_mem
abbrev bh:=@List.mem_cons_self
abbrev bi:=@List.find?_cons
abbrev bj:=@Nat.le_trans
abbrev bn:=@PySem.mem_of_lookup
abbrev bo:=@Heap.get?_none_of_le
abbrev bp:=@Nat.zero_le
abbrev br:=@List.idxOf_lt_length_iff
abbrev bt:=@List.length_filter_le
abbrev bu:=@List.append_assoc
abbrev bw:=@wpAny_holding
abbrev bz:=@Nat.lt_of_le_of_lt
abbrev bB:=@wpAny_dictEpoch
abbrev bE:=@Nat.two_pow_pos
abbrev bF:=@Array.length_toList
abbrev bH:=@List.length_eq_zero_iff
abbrev bI:=@Int.toNat_natCast
abbrev bJ:=@Bool.not_eq_true'
abbrev bK:=@Nat.sub_self
abbrev bN:=@wpAny_truthy_bool
abbrev bO:=@wpAny_mono
abbrev bQ:=@List.nodup_append
abbrev bR:=@Array.getElem?_toList
abbrev bS:=@List.nodup_nil
abbrev bT:=@Bool.false_and
abbrev bU:=@wpAny_Call_Name_kw
abbrev bY:=@Bool.eq_false_iff
abbrev bZ:=@Nat.not_lt_zero
abbrev b0:=@List.getElem?_take
abbrev ca:=@wpAny_call_entry
abbrev cb:=@wpAny_rule
abbrev cc:=@List.getElem?_inj
abbrev ce:=@sizeLine_eq
abbrev cf:=@List.append_nil
abbrev cg:=@Array.getD_eq_getD_getElem?
abbrev ci:=@List.mem_reverse
abbrev cj:=@List.map_take
abbrev ck:=@List.map_map
abbrev cm:=@List.getElem_idxOf
abbrev cq:=@List.filter_append
abbrev cr:=@Bool.false_eq_true
abbrev cu:=@List.mem_of_find?_eq_some
abbrev cw:=@List.idxOf_cons_self
abbrev cA:=@List.pairwise_map
abbrev cB:=@Nat.testBit_two_pow_mul
abbrev cC:=@List.reverse_append
abbrev cD:=@Bool.true_and
abbrev cE:=@wpAny_typeNameOfWhole_keyiter
abbrev cF:=@PySem.boot_len
abbrev cG:=@Int.emod_lt_of_pos
abbrev cH:=@wpAny_passesOwn
abbrev cJ:=@Nat.pow_succ
abbrev cK:=@Nat.le_of_lt
abbrev cM:=@List.map_nil
abbrev cN:=@Bool.eq_iff_iff
abbrev cO:=@wpAny_dictEntries
abbrev cQ:=@Nat.lt_irrefl
abbrev cR:=@Heap.get?_push_ne
abbrev cS:=@List.reverse_reverse
abbrev cT:=@List.take_zero
abbrev cU:=@Array.getElem?_eq_getElem
abbrev cV:=@wpAny_forIn_list
abbrev cW:=@Nat.lt_succ_self
abbrev cX:=@Nat.le_add_right
abbrev cY:=@List.cons_append
abbrev cZ:=@List.all_eq_true
abbrev c0:=@List.length_reverse
abbrev db:=@wpAny_typeNameOf_keyiter
abbrev de:=@Nat.lt_or_ge
abbrev dg:=@wpAny_callSpecial?_slot
abbrev dh:=@tupleKind_room_in1
abbrev di:=@boot_isinstance
abbrev dj:=@W.kia_one
abbrev dk:=@Int.emod_nonneg
abbrev dm:=@Bool.or_eq_true
abbrev dq:=@wpAny_Call_method
abbrev dt:=@Nat.lt_succ_of_lt
abbrev du:=@wpAny_tryCatch
abbrev dw:=@wpAny_notOrdered_dict
abbrev dz:=@Nat.le_of_eq
abbrev dA:=@List.take_append_drop
abbrev dB:=@Heap.get?_update_self
abbrev dC:=@List.any_eq_true
abbrev dD:=@Heap.size_update
abbrev dE:=@Nat.mul_le_mul_right
abbrev dF:=@List.mem_of_mem_take
abbrev dG:=@Nat.le_succ
abbrev dH:=@List.nil_append
abbrev dJ:=@Nat.eq_zero_or_pos
abbrev dL:=@Nat.add_sub_cancel
abbrev dM:=@List.find?_eq_none
abbrev dO:=@List.drop_eq_getElem_cons
abbrev dP:=@wpAny_newObj_type
abbrev dQ:=@List.take_sublist
abbrev dR:=@List.reverse_cons
end
namespace L2
open PySem PySem.Spec PyProof.Rows
variable {A:Around}{C a b dx:Addr}{CX:wT}{D:lV}{E Q:Value→Shared→Prop}{H H':Hp}{K:W.Frag}{M:Model}{P:Program}{X:Cx}{body:List Stmt}{ch fp:List Addr}{e tg:Expr}{es:List Expr}{fd:FuncData}{g:TG}{h h':Heap}{i j t':Nat}{kw:List (Str×Value)}{m x:Str}{mA mg:Str→Option Value}{o:HO}{op:CmpOp}{p pos pos':Pos}{pins:List (Addr×Obj)}{pl:Sem Bool}{ps:List Str}{r:R2}{s s':Shared}{sp:Sp}{t:TA}{ta te:TE}{tb:TS}{us:List Value}{v y:V}{vs xs:List V}{w:World}{σ:St}
abbrev fZ:=Sum Int Str
def qk:fZ→Value→Bool
 |.inl k,v=>Value.isInt k v
 |.inr x,v=>Value.isStrOf x v
def HG (w:World):fZ→Int
 |.inl k=>hashInt k
 |.inr x=>hashStr w x
theorem gl:∀{k:fZ} {v:Value},qk k v=true→(∃i t,k=Sum.inl i∧v=Value.int i t)∨(∃x t,k=Sum.inr x∧v=Value.str x t)
 |.inl i,v,h=>by
  obtain⟨t,e⟩:=Value.isInt_shape (k:=i) (v:=v) h;exact .inl ⟨i,t,rfl,e⟩
 |.inr x,v,h=>by
  obtain⟨t,e⟩:=Value.isStrOf_shape (x:=x) (v:=v) h;exact .inr ⟨x,t,rfl,e⟩
theorem xV (i:Int)(t:Tok):qk (.inl i) (.int i t)=true:=by simp[qk,Value.isInt]
theorem xU (x:Str)(t:Tok):qk (.inr x) (.str x t)=true:=by simp[qk,Value.isStrOf]
theorem El (a b:Int):decide ((Sum.inl a:fZ)=Sum.inl b)=(a == b):=by
 by_cases e:a=b
 ·subst e;simp
 ·have h:¬(Sum.inl a:fZ)=Sum.inl b:=fun q=>e (Sum.inl.inj q);rw[au h];exact(beq_eq_false_iff_ne.mpr e).symm
theorem Ei (a b:Str):decide ((Sum.inr a:fZ)=Sum.inr b)=decide (a=b):=by
 by_cases e:a=b
 ·subst e;simp
 ·have h:¬(Sum.inr a:fZ)=Sum.inr b:=fun q=>e (Sum.inr.inj q);rw[au h,au e]
theorem Ek (a:Int)(b:Str):decide ((Sum.inl a:fZ)=Sum.inr b)=false:=au (fun q=>nomatch q)
theorem Ej (a:Str)(b:Int):decide ((Sum.inr a:fZ)=Sum.inl b)=false:=au (fun q=>nomatch q)
def fg (prog:Program)(w:World):PySem.KeyKind prog w fZ where
 is:=qk
 hash:=HG w
 inj:=fun v a b ha hb=>by
  rcases gl ha with ⟨i,t,rfl,rfl⟩ | ⟨x,t,rfl,rfl⟩
  ·rcases gl hb with ⟨j,u,rfl,e⟩ | ⟨y,u,rfl,e⟩
   ·injection e with e1 _;rw[e1]
   ·exact nomatch e
  ·rcases gl hb with ⟨j,u,rfl,e⟩ | ⟨y,u,rfl,e⟩
   ·exact nomatch e
   ·injection e with e1 _;rw[e1]
 byValue:=fun k v h=>by
  rcases gl h with ⟨i,t,rfl,rfl⟩ | ⟨x,t,rfl,rfl⟩ <;> rfl
 pyHash:=fun hv h=>by
  rcases gl hv with ⟨i,t,rfl,rfl⟩ | ⟨x,t,rfl,rfl⟩
  ·exact wpAny_pyHash_int h
  ·exact wpAny_pyHash_str h
 eqBool:=fun hu hv h=>by
  rcases gl hu with ⟨i,t,rfl,rfl⟩ | ⟨x,t,rfl,rfl⟩
  ·rcases gl hv with ⟨j,u,rfl,rfl⟩ | ⟨y,u,rfl,rfl⟩
   ·rw[El]at h;exact wpAny_eqBool_int h
   ·rw[Ek]at h;exact SeqAt.EqAt.int_str i t y u _ _ _ _ h
  ·rcases gl hv with ⟨j,u,rfl,rfl⟩ | ⟨y,u,rfl,rfl⟩
   ·rw[Ej]at h;exact SeqAt.EqAt.str_int x t j u _ _ _ _ h
   ·rw[Ei]at h;exact wpAny_eqBool_str h
 «strs»:=fun k x t v h=>by
  rcases gl h with ⟨i,u,rfl,e⟩ | ⟨y,u,rfl,e⟩
  ·exact nomatch e
  ·injection e with e1 _
   subst e1;cases v <;> rfl
theorem sW (prog:Program)(w:World)(i:Int)(t:Tok):(fg prog w).is (.inl i) (.int i t)=true:=xV i t
theorem sV (prog:Program)(w:World)(x:Str)(t:Tok):(fg prog w).is (.inr x) (.str x t)=true:=xU x t
inductive V where
 |non | bl (b:Bool) | int (i:Int) | str (x:Str) | byt (b:Array UInt8) | flt (b:UInt64) | ref (a:Addr) | ty (n:String)
 deriving DecidableEq
def eT:V→Value→Prop
 |.non,u=>u=Value.none
 |.bl b,u=>u=Value.bool b
 |.int i,u=>∃t,u=Value.int i t
 |.str x,u=>∃t,u=Value.str x t
 |.byt b,u=>∃t,u=Value.bytes b t
 |.flt b,u=>∃t,u=Value.float b t
 |.ref a,u=>u=Value.ref a
 |.ty n,u=>u=Value.type n
abbrev fH:List V→List Value→Prop:=Paired eT
theorem fH.length (r:fH xs us):xs.length=us.length:=Paired.length r
theorem fH.get:∀{xs:List V} {us:List Value} {i:Nat} {x:V},fH xs us→xs[i]?=some x→∃u,us[i]?=some u∧eT x u
 |_,_,_,_,.nil,e=>by simp at e
 |_,_,0,_,.cons r _,e=>by simp at e;subst e;exact⟨_,rfl,r⟩
 |_,_,i+1,x,.cons _ t,e=>by
  obtain⟨u,h1,h2⟩:=fH.get (i:=i) (x:=x) t (by simpa using e);exact⟨u,by simpa using h1,h2⟩
theorem fH.append:∀{xs ys:List V} {us ws:List Value},fH xs us→fH ys ws→fH (xs++ys) (us++ws)
 |_,_,_,_,.nil,s=>s
 |_,_,_,_,.cons r t,s=>.cons r (fH.append t s)
theorem fH.take:∀{xs:List V} {us:List Value} (n:Nat),fH xs us→fH (xs.take n) (us.take n)
 |_,_,0,_=>.nil
 |_,_,_+1,.nil=>.nil
 |_,_,n+1,.cons r t=>.cons r (fH.take n t)
theorem fH.drop:∀{xs:List V} {us:List Value} (n:Nat),fH xs us→fH (xs.drop n) (us.drop n)
 |_,_,0,r=>r
 |_,_,_+1,.nil=>.nil
 |_,_,n+1,.cons _ t=>fH.drop n t
def jc:Option V→Option Value→Prop
 |some v,some u=>eT v u
 |none,none=>True
 |_,_=>False
def KV {κ:Type}:List (κ×V)→List (κ×Value)→Prop:=Paired fun(p:κ×V) (q:κ×Value)=>p.1=q.1∧eT p.2 q.2
def kV:fZ→V
 |.inl i=>.int i
 |.inr x=>.str x
inductive HO where
  |lst (xs:List V)
  |tup (xs:List V)
  |dK (kvs:List (fZ×V)) | dT (kvs:List (List fZ×V)) | dN (kvs:List (Option (List fZ)×V))
  |set (S:Int→Bool) (n:Nat)
  |ins (C dx:Addr) (fs:List (Str×V))
  |own (x:Addr)
  |xd (fs:List (Str×V))
  |met (f x:Addr)
  |rng (lo hi:Int)
  |frz (o:Obj) (u:HO)
  |tbl (ps:Array Value)
  |ext (φ:Heap→Prop)
abbrev Hp:=Addr→Option HO
abbrev fB:=Option (List fZ)
def vA (H:Hp):fB→Value→Prop
 |none,u=>u=.none
 |some ks,u=>∃b,u=.ref b∧H b=some (.tup (ks.map kV))
def kU (P:Program)(w:World):fB→Int
 |none=>W.hashW w.params .none
 |some ks=>(tupleKind (fg P w)).hash ks
def tE (P:Program)(w:World)(x:fB×Value×Value):DictEntry:=⟨kU P w x.1,x.2.1,x.2.2⟩
abbrev AM (H:Hp):List (fB×V)→List (fB×Value×Value)→Prop:=Paired fun p q=>p.1=q.1∧vA H p.1 q.2.1∧eT p.2 q.2.2
def upd (H:Hp)(a:Addr)(o:HO):Hp:=fun b=>if b=a then some o else H b
theorem dW:upd H a o a=some o:=by unfold upd;rw[if_pos rfl]
theorem dY (h:b≠a):upd H a o b=H b:=by unfold upd;rw[if_neg h]
theorem iQ {u:HO}:upd (upd H a o) a u=upd H a u:=by
 funext b;unfold upd;split <;> rfl
theorem fe {u:HO}(h:H a=some o)(h':H b=some u)(d:o≠u):a≠b:=by
 intro e;subst e;rw[h]at h';exact d (Option.some.inj h')
theorem d0 (h:H a=some o)(h':H b=none):a≠b:=by
 intro e;subst e;rw[h]at h';cases h'
section
variable (P:Program)(w:World)
def fC (H:Hp)(h:Heap)(a:Addr):HO→Prop
 |.lst xs=>xs.length≤sizeLine∧∃(its:List Value) (n:Nat),fH xs its∧h.get? a=some {cls:=.type "list",data:=.seq its.toArray n}
 |.tup xs=>xs.length≤sizeLine∧∃its:List Value,fH xs its∧IsTup h a its.toArray
 |.dK kvs=>kvs.length≤sizeLine∧(a == sysModules)=false∧∃vs,KV kvs vs∧h.DictOf (fg P w) a vs
 |.dT kvs=>kvs.length≤sizeLine∧(a == sysModules)=false∧∃xs:List (List fZ×Addr×Value),
   Paired (fun(p:List fZ×V) (q:List fZ×Addr×Value)=>p.1=q.1∧H q.2.1=some (.tup (p.1.map kV))∧eT p.2 q.2.2) kvs xs∧
   ∃o es ep,h.get? a=some o∧o.ExactDict∧o.data=.dict es ep∧es.toList=xs.map (entryOfKey (tupleKind (fg P w)))∧(xs.map (·.1)).Nodup
 |.dN kvs=>kvs.length≤sizeLine∧(a == sysModules)=false∧∃xs,AM H kvs xs∧∃o es ep,h.get? a=some o∧o.ExactDict∧o.data=.dict es ep∧es.toList=xs.map (tE P w)∧(xs.map (·.1)).Nodup
 |.set S n=>h.SetOf (intKind P w) a S n
 |.ins C dx fs=>H dx=some (.own a)∧fs.length≤1000∧dx≠a∧h.get? a=some (W.instObj C dx)∧
   ∃mA,h.Ns1 dx mA∧(∀f,jc (fs.lookup f) (mA f))∧PySem.Within mA (fs.map (·.1))
 |.own _=>∃o,h.get? a=some o
 |.xd fs=>∃mA,h.Ns1 a mA∧∀f,jc (fs.lookup f) (mA f)
 |.rng lo hi=>∃t u v,h.get? a=some {cls:=.type "range",data:=.fields #[.int lo t,.int hi u,.int 1 v]}
 |.frz o u=>h.get? a=some o∧fC H h a u
 |.tbl ps=>h.get? a=some {cls:=.none,data:=.fields ps}
 |.met f x=>h.get? a=some (W.methodObj (.ref f) (.ref x))
 |.ext φ=>φ h∧(∃o,h.get? a=some o)∧∀h1 h2:Heap,φ h1→(∀o,h1.get? a=some o→h2.get? a=some o)→φ h2
def kF (H:Hp)(h:Heap):Prop:=∀a o,H a=some o→fC P w H h a o
end
theorem fC.lt (x:fC P w H h a o):a<h.objs.size:=by
 cases o with
 |lst xs=>obtain⟨_,_,_,_,e⟩:=x;exact aS e
 |tup xs=>obtain⟨_,_,_,p⟩:=x;exact p.lt
 |dK kvs=>obtain⟨_,_,_,_,o,_,_,e,_⟩:=x;exact aS e
 |dT kvs=>obtain⟨_,_,_,_,o,_,_,e,_⟩:=x;exact aS e
 |dN kvs=>obtain⟨_,_,_,_,o,_,_,e,_⟩:=x;exact aS e
 |set S n=>obtain⟨o,_,_,_,e,_⟩:=x;exact aS e
 |ins C dx fs=>obtain⟨_,_,_,e,_⟩:=x;exact aS e
 |own y=>obtain⟨_,e⟩:=x;exact aS e
 |xd fs=>obtain⟨_,⟨_,_,_,e,_⟩,_⟩:=x;exact aS e
 |rng lo hi=>obtain⟨_,_,_,e⟩:=x;exact aS e
 |frz ob u=>obtain⟨e,_⟩:=x;exact aS e
 |tbl ps=>exact aS (show h.get? a=some _ from x)
 |met f y=>exact aS (show h.get? a=some _ from x)
 |ext φ=>obtain⟨_,⟨_,e⟩,_⟩:=x;exact aS e
theorem Paired.Ja {α β:Type}{F G:α→β→Prop}:∀{l₁:List α} {l₂:List β},Paired F l₁ l₂→(∀a b,F a b→G a b)→Paired G l₁ l₂
 |_,_,.nil,_=>.nil
 |_,_,.cons r t,f=>.cons (f _ _ r) (Paired.Ja t f)
theorem fC.Jb (x:fC P w H h a o)(k:∀b u,(b=a∨H b=some (.own a))→h.get? b=some u→h'.get? b=some u)(s:∀b,H b=some (.own a)→H' b=some (.own a))(l:∀b xs,H b=some (.tup xs)→H' b=some (.tup xs)):fC P w H' h' a o:=by
 induction o with
 |lst xs=>obtain⟨z,i,n,r,e⟩:=x;exact⟨z,i,n,r,k _ _ (.inl rfl) e⟩
 |tup xs=>obtain⟨z,i,r,g,e,c⟩:=x;exact⟨z,i,r,g,k _ _ (.inl rfl) e,c⟩
 |dK kvs=>obtain⟨z,y,vs,r,g,es,ep,e,c⟩:=x;exact⟨z,y,vs,r,g,es,ep,k _ _ (.inl rfl) e,c⟩
 |dT kvs=>
  obtain⟨z,y,xs,r,g,es,ep,e,c⟩:=x;exact⟨z,y,xs,Paired.Ja r fun p q z=>⟨z.1,l _ _ z.2.1,z.2.2⟩,g,es,ep,k _ _ (.inl rfl) e,c⟩
 |dN kvs=>
  obtain⟨z,y,xs,r,g,es,ep,e,c⟩:=x;refine⟨z,y,xs,Paired.Ja r fun p q z=>⟨z.1,?_,z.2.2⟩,g,es,ep,k _ _ (.inl rfl) e,c⟩;obtain⟨m,p2⟩:=p;cases m with
  |none=>exact z.2.1
  |some ks=>obtain⟨b,A,B⟩:=z.2.1;exact⟨b,A,l _ _ B⟩
 |set S n=>obtain⟨g,es,ep,t,e,c⟩:=x;exact⟨g,es,ep,t,k _ _ (.inl rfl) e,c⟩
 |ins C dx fs=>
  obtain⟨d,z,D,e,mA,⟨j,es,ep,E,c⟩,r⟩:=x;exact⟨s _ d,z,D,k _ _ (.inl rfl) e,mA,⟨j,es,ep,k _ _ (.inr d) E,c⟩,r⟩
 |own y=>obtain⟨g,e⟩:=x;exact⟨g,k _ _ (.inl rfl) e⟩
 |xd fs=>obtain⟨mA,⟨j,es,ep,e,c⟩,r⟩:=x;exact⟨mA,⟨j,es,ep,k _ _ (.inl rfl) e,c⟩,r⟩
 |rng lo hi=>obtain⟨t,u,v,e⟩:=x;exact⟨t,u,v,k _ _ (.inl rfl) e⟩
 |frz g u ih=>obtain⟨e,q⟩:=x;exact⟨k _ _ (.inl rfl) e,ih q⟩
 |tbl ps=>
  have e:h.get? a=some {cls:=.none,data:=.fields ps}:=x;show h'.get? a=some {cls:=.none,data:=.fields ps};exact k a _ (.inl rfl) e
 |met f y=>
  have e:h.get? a=some (W.methodObj (.ref f) (.ref y)):=x;show h'.get? a=some (W.methodObj (.ref f) (.ref y));exact k a _ (.inl rfl) e
 |ext φ=>obtain⟨p,⟨o,e⟩,st⟩:=x;exact⟨st _ _ p fun o q=>k _ _ (.inl rfl) q,⟨o,k _ _ (.inl rfl) e⟩,st⟩
theorem kF.lt (x:kF P w H h)(e:H a=some o):a<h.objs.size:=(x a o e).lt
theorem kF.fresh (x:kF P w H h)(e:h.objs.size≤a):H a=none:=by
 cases q:H a with
 |none=>rfl
 |some u=>exact absurd (bb (x.lt q) e) (cQ _)
theorem kF.kept (x:kF P w H h)(k:∀b u,h.get? b=some u→h'.get? b=some u):kF P w H h':=fun a o e=>
 (x a o e).Jb (fun b u _ q=>k b u q) (fun _ q=>q) fun _ _ q=>q
theorem kF.laid (x:kF P w H h)(k:∀b u,h.get? b=some u→h'.get? b=some u)(hp:h.objs.size≤a)(new:fC P w (upd H a o) h' a o):kF P w (upd H a o) h':=fun b u e=>by
 have hn:=x.fresh hp;by_cases hb:b=a
 ·subst hb;rw[dW]at e;cases e;exact new
 ·rw[dY hb]at e;exact(x b u e).Jb (fun c v _ q=>k c v q) (fun c q=>by rw[dY (d0 q hn)];exact q) fun c xs q=>by rw[dY (d0 q hn)];exact q
def Rd (H:Hp)(a:Addr)(u:HO):Prop:=H a=some u∨∃o,H a=some (.frz o u)
theorem Rd.ok {u:HO}(r:Rd H a u)(x:kF P w H h):fC P w H h a u:=by
 rcases r with r | ⟨o,r⟩
 ·exact x a u r
 ·obtain⟨_,q⟩:=x a _ r;exact q
def Gj:Option HO→Prop
 |some (.lst _)=>True
 |some (.dK _)=>True
 |some (.dT _)=>True
 |some (.dN _)=>True
 |some (.set _ _)=>True
 |some (.ins _ _ _)=>True
 |some (.ext _)=>True
 |_=>False
section
variable {x e:Addr}{o':HO}
theorem kF.write (ok:kF P w H h)(a:Gj (H x))(g:e=x∨H e=some (.own x))(k:∀b u,b≠e→h.get? b=some u→h'.get? b=some u)(d:∃u,h'.get? e=some u)(new:fC P w (upd H x o') h' x o'):kF P w (upd H x o') h':=fun b u q=>by
 have nown:∀c y,H c=some (.own y)→c≠x:=fun c y r z=>by subst z;rw[r]at a;exact a
 have ntup:∀c xs,H c=some (.tup xs)→c≠x:=fun c xs r z=>by subst z;rw[r]at a;exact a
 by_cases hb:b=x
 ·subst hb;rw[dW]at q;cases q;exact new
 ·rw[dY hb]at q;by_cases hbe:b=e
  ·have q':H b=some (.own x):=by
    rcases g with z | z
    ·exact absurd (hbe.trans z) hb
    ·rw[hbe];exact z
   rw[q]at q';cases q';obtain⟨v,i⟩:=d;exact⟨v,by rw[hbe];exact i⟩
  ·refine(ok b u q).Jb (fun c v hc r=>k c v ?_ r) (fun c r=>by rw[dY (nown c b r)];exact r) fun c xs r=>by rw[dY (ntup c xs r)];exact r
   rcases hc with rfl | hc
   ·exact hbe
   ·rintro rfl;rcases g with z | z
    ·exact nown c b hc z
    ·rw[hc]at z;cases z;exact hb rfl
end
structure Un (fs ex:List Addr)(H H':Hp)(h h':Heap):Prop where
 keep:∀b o,h.get? b=some o→H b=none→b∉fs→b∉ex→h'.get? b=some o
 slot:∀b o,h.get? b=some o→H b=none→b∈fs→b∉ex→∃sl,h'.get? b=some {o with slots:=sl}
 free:∀b o,h.get? b=some o→H b=none→b∉ex→H' b=none
 there:∀b o,h.get? b=some o→b∉ex→∃o',h'.get? b=some o'
 tups:∀b xs,H b=some (.tup xs)→H' b=some (.tup xs)
 frzs:∀b o u,H b=some (.frz o u)→H' b=some (.frz o u)
 tbls:∀b ps,H b=some (.tbl ps)→∃more,H' b=some (.tbl (ps++more))
section
variable {fs fs' ex ex':List Addr}{H1 H2:Hp}{h1 h2:Heap}{x e:Addr}
theorem Un.any (u:Un fs ex H H1 h h1){ob:Obj}(q:h.get? b=some ob)(n:H b=none)(a:b∉ex):∃sl,h1.get? b=some {ob with slots:=sl}:=by
 by_cases hb:b∈fs
 ·exact u.slot b ob q n hb a
 ·exact⟨ob.slots,u.keep b ob q n hb a⟩
theorem Un.kept (k:∀b u,h.get? b=some u→h'.get? b=some u):Un fs ex H H h h':=
 ⟨fun b ob q _ _ _=>k b ob q,fun b ob q _ _ _=>⟨ob.slots,k b ob q⟩,fun _ _ _ n _=>n,fun b ob q _=>⟨ob,k b ob q⟩,fun _ _ q=>q,fun _ _ _ q=>q,fun _ ps q=>⟨#[],by rw[q];simp⟩⟩
theorem Un.refl:Un fs ex H H h h:=Un.kept fun _ _ q=>q
theorem Un.laid (k:∀b u,h.get? b=some u→h'.get? b=some u)(hp:h.objs.size≤a)(hn:H a=none):Un fs ex H (upd H a o) h h' where
 keep:=fun b u q _ _ _=>k b u q
 slot:=fun b u q _ _ _=>⟨u.slots,k b u q⟩
 free:=fun b u q n _=>by rw[dY (aX (bb (aS q) hp))];exact n
 there:=fun b u q _=>⟨u,k b u q⟩
 tups:=fun b xs q=>by rw[dY (d0 q hn)];exact q
 frzs:=fun b u xs q=>by rw[dY (d0 q hn)];exact q
 tbls:=fun b ps q=>⟨#[],by rw[dY (d0 q hn),q];simp⟩
theorem Un.write (a:Gj (H x))(l:e=x∨H e=some (.own x))(k:∀b u,b≠e→h.get? b=some u→h'.get? b=some u)(g:∃u,h'.get? e=some u):Un fs ex H (upd H x o) h h':=by
 have j:∀b,H b=none→b≠x:=fun b n z=>by subst z;rw[n]at a;exact a
 have i:∀b,H b=none→b≠e:=fun b n z=>by
  subst z;rcases l with r | r
  ·exact j b n r
  ·rw[n]at r;cases r
 have d:∀b u,H b=some u→¬Gj (some u)→b≠x:=fun b u q nm z=>by subst z;rw[q]at a;exact nm a
 refine⟨fun b u q n _ _=>k b u (i b n) q,fun b u q n _ _=>⟨u.slots,k b u (i b n) q⟩,fun b u q n _=>by rw[dY (j b n)];exact n,fun b u q _=>?_,
  fun b xs q=>by rw[dY (d b _ q fun z=>z)];exact q,fun b u xs q=>by rw[dY (d b _ q fun z=>z)];exact q,fun b ps q=>⟨#[],by rw[dY (d b _ q fun z=>z),q];simp⟩⟩
 by_cases hbe:b=e
 ·subst hbe;exact g
 ·exact⟨u,k b u hbe q⟩
end
def GA (h:Heap)(H:Hp):List Addr:=(List.range h.objs.size).filter fun a=>(H a).isSome
def pR (h:Heap)(H:Hp):Heap:=W.hideAll h (GA h H)
theorem xZ (h:Heap)(H:Hp):(pR h H).objs.size=h.objs.size:=W.hideAll_size _ _
theorem zW {o:Obj}(e:h.get? b=some o)(n:H b=none):(pR h H).get? b=some o:=
 W.hideAll_get _ e fun hm=>by
  have q:(H b).isSome=true:=(aV.mp hm).2;rw[n]at q;simp at q
theorem BZ {o:Obj}(e:(pR h H).get? b=some o):h.get? b=some o∧H b=none:=by
 have a:h.get? b=some o:=W.of_hideAll (GA h H) e;refine⟨a,?_⟩;cases q:H b with
 |none=>rfl
 |some x=>
  have d:b∈GA h H:=aV.mpr ⟨List.mem_range.mpr (aS a),by simp[q]⟩;have z:(pR h H).get? b=none:=W.hideAll_none (GA h H) d;rw[z]at e;cases e
structure Mod (K:W.Frag)(mg:Str→Option Value)(base:Heap):Prop where
 kin:K.In base
 glob:base.Ns mainGlobals mg
 blt:∃mb,base.Ns builtinsNs mb∧∀x:Str,x≠"__name__"→mb x=bootBuiltins x
 nolimit:base.NoLimit
structure Cx where
 prog:Program
 w:World
 K:W.Frag
 mg:Str→Option Value
 base:Heap
 A:Around
 N:List Str
 s₀:Shared
 H₀:Hp
 env:Env
 outer:List Env
 stack:List Env
 ex:List Addr
 fn:Str→Bool
 calm:Bool
 pn:List (Addr×Obj)
 xe:Value→Shared→Prop
def Ab (l:List Env):List Addr:=l.filterMap (·.frame)
abbrev Cx.fs (X:Cx):List Addr:=Ab X.outer
def Da (sc:Scope)(x:Str):Prop:=sc.names.lookup x=some .local∨sc.names.lookup x=some .cell∨sc.names.lookup x=some .free
def Gn (sc:Scope)(x:Str):Prop:=sc.names.lookup x=some .local∨sc.names.lookup x=some .cell
def HW (env:Env)(h:Heap)(m:Str→Option Value)(x:Str)(u:Value):Prop:=
 (env.kindOf x=some .local∧m x=some u)∨((env.kindOf x=some .cell∨env.kindOf x=some .free)∧∃c,env.cells.lookup x=some c∧h.IsCell c (some u))
structure Cx.Ok (X:Cx):Prop where
 mod:Mod X.K X.mg X.base
 kind:X.env.scope.kind=.function
 glob:X.env.globals=mainGlobals
 blt:X.env.builtins=builtinsNs
 above:X.s₀.heap.objs.size≤X.env.locals
 inj:∀x y c,X.env.cells.lookup x=some c→X.env.cells.lookup y=some c→x=y
 has:∀x,(X.env.kindOf x=some .cell∨X.env.kindOf x=some .free)→∃c,X.env.cells.lookup x=some c
 cab:∀x c,X.fn x=true→X.env.cells.lookup x=some c→X.s₀.heap.objs.size≤c
 hd:X.calm=true→X.A.handled=none
 frames:X.A.frames=some X.stack
 stk:X.stack=X.outer∨(X.stack=X.env::X.outer∧X.env.frame=some X.env.locals)
 exf:∀b∈X.ex,b≠X.env.locals∧∀x c,X.env.cells.lookup x=some c→c≠b
 bs:∀b o,X.base.get? b=some o→X.s₀.heap.get? b=some o∧X.H₀ b=none
 bsz:X.base.objs.size≤X.s₀.heap.objs.size
 noex:∀b o,X.base.get? b=some o→b∉X.ex
 exfs:∀b∈X.ex,b∉X.fs
 funs:X.s₀.heap.FunFrames X.base X.outer
 frf:∀b∈X.fs,X.H₀ b=none
structure eM (X:Cx)(pins:List (Addr×Obj))(σ:List (Option V))(H:Hp)(s:Shared):Prop where
 ok:X.Ok
 os:s.os=X.s₀.os
 bare:AllBare s.gens
 base:Un X.fs X.ex X.H₀ H X.s₀.heap s.heap
 loc:∃m,s.heap.Ns X.env.locals m∧∀(i:Nat) (x:Str) (v:V),X.N[i]?=some x→σ[i]?=some (some v)→Da X.env.scope x→∃u,eT v u∧HW X.env s.heap m x u
 cell:∀x c,X.env.cells.lookup x=some c→∃v,s.heap.IsCell c v
 free:H X.env.locals=none
 freeC:∀x c,X.env.cells.lookup x=some c→H c=none
 pin:∀p∈X.pn++pins,s.heap.get? p.1=some p.2∧H p.1=none∧p.1≠X.env.locals∧p.1∉X.fs∧∀v,p.2.data≠.cell v
 hok:kF X.prog X.w H s.heap
 len:σ.length=X.N.length
section
variable {σ:List (Option V)}
theorem Cx.Ok.Jc (ok:X.Ok){o:Obj}(e:X.base.get? b=some o):b∉X.fs:=fun hb=>by
 have:=(ok.funs.mem hb).1;rw[e]at this;cases this
theorem eM.bs (I:eM X pins σ H s):∀b o,X.base.get? b=some o→s.heap.get? b=some o∧H b=none:=fun b o e=>
 ⟨I.base.keep b o (I.ok.bs b o e).1 (I.ok.bs b o e).2 (I.ok.Jc e) (I.ok.noex b o e),I.base.free b o (I.ok.bs b o e).1 (I.ok.bs b o e).2 (I.ok.noex b o e)⟩
theorem eM.bk (I:eM X pins σ H s):∀b o,X.base.get? b=some o→s.heap.get? b=some o:=fun b o e=>(I.bs b o e).1
theorem eM.mod (I:eM X pins σ H s):Mod X.K X.mg X.base:=I.ok.mod
theorem eM.kIn (I:eM X pins σ H s):X.K.In s.heap:=I.ok.mod.kin.keeps I.bk
theorem eM.nolimit (I:eM X pins σ H s):s.heap.NoLimit:=I.ok.mod.nolimit.keeps I.bk
theorem eM.lt (I:eM X pins σ H s):X.env.locals<s.heap.objs.size:=(by obtain⟨_,hn,_⟩:=I.loc;exact hn.lt)
theorem eM.sz (I:eM X pins σ H s):X.s₀.heap.objs.size≤s.heap.objs.size:=bj I.ok.above (cK I.lt)
theorem eM.Jd (I:eM X pins σ H s)(h:s.heap.objs.size≤a):a∉X.fs:=fun hb=>by
 obtain⟨_,o,ho,_⟩:=I.ok.funs.mem hb;exact absurd (bb (aS ho) (bj I.sz h)) (cQ _)
theorem eM.cne (I:eM X pins σ H s):∀x c,X.env.cells.lookup x=some c→c≠X.env.locals:=fun x c e z=>by
 obtain⟨v,o,ho,hd⟩:=I.cell x c e;obtain⟨m,⟨o',es,ep,ho',hd',_⟩,_⟩:=I.loc;rw[z,ho']at ho;cases ho;rw[hd']at hd;cases hd
theorem eM.funs (I:eM X pins σ H s):s.heap.FunFrames X.base X.outer:=by
 have all:∀(l:List Env),(∀b∈Ab l,b∈X.fs)→X.s₀.heap.FunFrames X.base l→s.heap.FunFrames X.base l:=by
  intro l
  induction l with
  |nil=>intro _ _;trivial
  |cons env r ih=>
   intro h m;obtain⟨t,⟨L,o,a,q,j,i⟩,p⟩:=m;have g:L∈X.fs:=h L (by unfold Ab;rw[List.filterMap_cons,a];exact bh);obtain⟨v,e⟩:=I.base.slot L o j (I.ok.frf L g) g fun z=>I.ok.exfs L z g;exact⟨t,⟨L,_,a,q,e,i⟩,ih (fun b d=>h b (by unfold Ab;rw[List.filterMap_cons,a];exact aZ _ d)) p⟩
 exact all X.outer (fun _ d=>d) I.ok.funs
theorem eM.stack (I:eM X pins σ H s):s.heap.FunFrames X.base X.stack:=by
 rcases I.ok.stk with e | ⟨e,a⟩
 ·rw[e];exact I.funs
 ·rw[e];obtain⟨m,b,_⟩:=I.loc;refine .cons (by rw[I.ok.kind];decide) a b ?_ I.funs;exact bo (bj I.ok.bsz I.ok.above)
theorem eM.Je (I:eM X pins σ H s):∀b∈Ab X.stack,b∈X.env.locals::X.fs:=fun b hb=>by
 rcases I.ok.stk with e | ⟨e,hf⟩
 ·rw[e]at hb;exact aZ _ hb
 ·rw[e]at hb;unfold Ab at hb;rw[List.filterMap_cons,hf]at hb;exact hb
theorem eM.Jf (I:eM X pins σ H s):∀b∈Ab X.stack,H b=none:=fun b hb=>by
 rcases ak.mp (I.Je b hb) with e | hb
 ·rw[e];exact I.free
 ·obtain⟨_,o,ho,_⟩:=I.ok.funs.mem hb;exact I.base.free b o ho (I.ok.frf b hb) fun z=>I.ok.exfs b z hb
theorem eM.step {g':Array GenState}{d':Drawn}(I:eM X pins σ H s)(j:∀b∈ch,(b∈X.ex∨X.s₀.heap.get? b=none)∧b≠X.env.locals∧(∀x c,X.env.cells.lookup x=some c→c≠b)∧∀p∈X.pn++pins,p.1≠b)(keep:∀b o,b≠X.env.locals→b∉X.fs→b∉ch→s.heap.get? b=some o→H b=none→h'.get? b=some o)(slot:∀b o,b≠X.env.locals→b∈X.fs→b∉ch→s.heap.get? b=some o→H b=none→∃sl,h'.get? b=some {o with slots:=sl})(free:∀b o,b∉ch→s.heap.get? b=some o→H b=none→H' b=none)(there:∀b o,b∉ch→s.heap.get? b=some o→∃o',h'.get? b=some o')(tups:∀b xs,H b=some (.tup xs)→H' b=some (.tup xs))(frzs:∀b o u,H b=some (.frz o u)→H' b=some (.frz o u))(tbls:∀b ps,H b=some (.tbl ps)→∃more,H' b=some (.tbl (ps++more)))(ns:∀m,s.heap.Ns X.env.locals m→h'.Ns X.env.locals m)(F:kF X.prog X.w H' h')(M:AllBare g'):eM X pins σ H' {s with heap:=h',gens:=g',drawn:=d',toks:=t'}:=by
 have C:∀b o,X.s₀.heap.get? b=some o→b≠X.env.locals:=fun b o e=>aX (bb (aS e) I.ok.above);have t:∀b o,X.s₀.heap.get? b=some o→b∉X.ex→b∉ch:=fun b o e a A=>by
  rcases (j b A).1 with z | z
  ·exact a z
  ·rw[e]at z;cases z
 have g:∀x c,X.env.cells.lookup x=some c→∀v,s.heap.IsCell c v→h'.IsCell c v:=fun x c e v ⟨o,B,E⟩=>by
  have h:c∉ch:=fun z=>(j c z).2.2.1 x c e rfl;by_cases hc:c∈X.fs
  ·obtain⟨sl,q⟩:=slot c o (I.cne x c e) hc h B (I.freeC x c e);exact⟨_,q,E⟩
  ·exact⟨o,keep c o (I.cne x c e) hc h B (I.freeC x c e),E⟩
 refine⟨I.ok,I.os,M,⟨fun b o e n A a=>?_,fun b o e n A a=>?_,fun b o e n a=>?_,fun b o e a=>?_,fun b xs e=>tups b xs (I.base.tups b xs e),fun b o xs e=>frzs b o xs (I.base.frzs b o xs e),fun b ps e=>?_⟩,?_,fun x c e=>?_,?_,fun x c e=>?_,fun p hp=>?_,F,I.len⟩
 ·exact keep b o (C b o e) A (t b o e a) (I.base.keep b o e n A a) (I.base.free b o e n a)
 ·obtain⟨sl,y⟩:=I.base.slot b o e n A a;obtain⟨G,D⟩:=slot b _ (C b o e) A (t b o e a) y (I.base.free b o e n a);exact⟨G,D⟩
 ·obtain⟨o',y⟩:=I.base.there b o e a;exact free b o' (t b o e a) y (I.base.free b o e n a)
 ·obtain⟨o',y⟩:=I.base.there b o e a;exact there b o' (t b o e a) y
 ·obtain⟨O,y⟩:=I.base.tbls b ps e;obtain⟨L,D⟩:=tbls b _ y;exact⟨O++L,by rw[D,Array.append_assoc]⟩
 ·obtain⟨m,P,N⟩:=I.loc;refine⟨m,ns m P,fun i x v y D Q=>?_⟩;obtain⟨u,r,l⟩:=N i x v y D Q;refine⟨u,r,?_⟩;rcases l with l | ⟨k,c,e,z⟩
  ·exact .inl l
  ·exact .inr ⟨k,c,e,g x c e _ z⟩
 ·obtain⟨v,z⟩:=I.cell x c e;exact⟨v,g x c e v z⟩
 ·obtain⟨m,⟨o,_,_,B,_⟩,_⟩:=I.loc;exact free _ o (fun z=>(j _ z).2.1 rfl) B I.free
 ·obtain⟨v,o,B,E⟩:=I.cell x c e;exact free c o (fun z=>(j c z).2.2.1 x c e rfl) B (I.freeC x c e)
 ·obtain⟨e,n,J,K,d⟩:=I.pin p hp;have h:p.1∉ch:=fun z=>(j p.1 z).2.2.2 p hp rfl;exact⟨keep p.1 p.2 J K h e n,free p.1 p.2 h e n,J,K,d⟩
theorem eM.un (I:eM X pins σ H s)(u:Un X.fs [] H H' s.heap h')(g:kF X.prog X.w H' h'):eM X pins σ H' {s with heap:=h',toks:=t'}:=by
 obtain⟨m,⟨o,es,ep,j,r⟩,_⟩:=id I.loc;obtain⟨t,q⟩:=u.any j I.free (by simp)
 exact I.step (g':=s.gens) (d':=s.drawn) (ch:=[]) (fun _ z=>nomatch z) (fun b o _ d _ e n=>u.keep b o e n d (by simp)) (fun b o _ d _ e n=>u.slot b o e n d (by simp)) (fun b o _ e n=>u.free b o e n (by simp)) (fun b o _ e=>u.there b o e (by simp)) u.tups u.frzs u.tbls (fun m' p=>by
  obtain⟨o',i,h,a,l⟩:=p;rw[j]at a;cases a
  exact⟨_,i,h,q,l⟩) g I.bare
theorem eM.call {g':Array GenState}{d':Drawn}(I:eM X pins σ H s)(u:Un (Ab X.stack) ch H H' s.heap h')(h:kF X.prog X.w H' h')(y:AllBare g')(g:∀b∈ch,(b∈X.ex∨X.s₀.heap.get? b=none)∧b≠X.env.locals∧(∀x c,X.env.cells.lookup x=some c→c≠b)∧∀p∈X.pn++pins,p.1≠b):eM X pins σ H' {s with heap:=h',gens:=g',drawn:=d',toks:=t'}:=by
 obtain⟨m,⟨o,es,ep,q,r⟩,_⟩:=id I.loc;obtain⟨B,j⟩:=u.any q I.free fun z=>(g _ z).2.1 rfl
 exact I.step (ch:=ch) g (fun b o j v a e n=>u.keep b o e n (fun z=>(ak.mp (I.Je b z)).elim j v) a) (fun b o _ _ a e n=>u.any e n a) (fun b o a e n=>u.free b o e n a) (fun b o a e=>u.there b o e a) u.tups u.frzs u.tbls (fun m' A=>by
  obtain⟨o',l,i,d,t⟩:=A;rw[q]at d;cases d
  exact⟨_,l,i,j,t⟩) h y
theorem eM.turned {it:Addr}(I:eM X pins σ H s)(k:∀b o,b≠it→s.heap.get? b=some o→h'.get? b=some o)(l:H it=none)(g:it≠X.env.locals)(h1:it∈X.ex∨X.s₀.heap.get? it=none)(h2:∀x c,X.env.cells.lookup x=some c→c≠it)(j:∀p∈X.pn++pins,p.1≠it):eM X pins σ H {s with heap:=h',toks:=t'}:=by
 have d:∀b u,H b=some u→b≠it:=fun b u e z=>by rw[z,l]at e;cases e
 refine I.step (g':=s.gens) (d':=s.drawn) (ch:=[it]) (fun b i=>?_) (fun b o _ _ a e _=>k b o (fun z=>a (by simp[z])) e) (fun b o _ _ a e _=>⟨o.slots,k b o (fun z=>a (by simp[z])) e⟩) (fun _ _ _ _ n=>n)
  (fun b o a e=>⟨o,k b o (fun z=>a (by simp[z])) e⟩) (fun _ _ e=>e) (fun _ _ _ e=>e) (fun b ps e=>⟨#[],by rw[e];simp⟩) (fun m t=>?_) (fun b u e=>?_) I.bare
 ·have e:b=it:=by simpa using i
  subst e;exact⟨h1,g,h2,j⟩
 ·obtain⟨o,es,ep,h,r⟩:=t;exact⟨o,es,ep,k _ o (Ne.symm g) h,r⟩
 ·refine(I.hok b u e).Jb (fun c v a q=>k c v ?_ q) (fun _ q=>q) fun _ _ q=>q;rcases a with z | z
  ·rw[z];exact d b u e
  ·exact d c _ z
theorem eM.tok (I:eM X pins σ H s)(t:Nat):eM X pins σ H {s with toks:=t}:=I.un (h':=s.heap) (t':=t) Un.refl I.hok
theorem eM.kept (I:eM X pins σ H s)(k:∀b u,s.heap.get? b=some u→h'.get? b=some u):eM X pins σ H {s with heap:=h',toks:=t'}:=I.un (Un.kept k) (I.hok.kept k)
theorem eM.laid (I:eM X pins σ H s)(k:∀b u,s.heap.get? b=some u→h'.get? b=some u)(hp:s.heap.objs.size≤a)(new:fC X.prog X.w (upd H a o) h' a o):eM X pins σ (upd H a o) {s with heap:=h',toks:=t'}:=I.un (Un.laid k hp (I.hok.fresh hp)) (I.hok.laid k hp new)
theorem eM.write {x e:Addr}(I:eM X pins σ H s)(mu:Gj (H x))(he:e=x∨H e=some (.own x))(k:∀b u,b≠e→s.heap.get? b=some u→h'.get? b=some u)(heo:∃u,h'.get? e=some u)(new:fC X.prog X.w (upd H x o) h' x o):eM X pins σ (upd H x o) {s with heap:=h',toks:=t'}:=I.un (Un.write mu he k heo) (I.hok.write mu he k heo new)
theorem eM.weak {σ':List (Option V)}(I:eM X pins σ H s)(hl:σ'.length=σ.length)(w:∀(i:Nat) v,σ'[i]?=some (some v)→σ[i]?=some (some v)):eM X pins σ' H s:=
 ⟨I.ok,I.os,I.bare,I.base,(by obtain⟨m,hn,hl'⟩:=I.loc;exact⟨m,hn,fun i x v e1 e2 e3=>hl' i x v e1 (w i v e2) e3⟩),I.cell,I.free,I.freeC,I.pin,I.hok,hl.trans I.len⟩
theorem eM.Jg {pins':List (Addr×Obj)}(I:eM X pins σ H s)(h:∀p∈pins',s.heap.get? p.1=some p.2∧H p.1=none∧p.1≠X.env.locals∧p.1∉X.fs∧∀v,p.2.data≠.cell v):eM X pins' σ H s:=
 ⟨I.ok,I.os,I.bare,I.base,I.loc,I.cell,I.free,I.freeC,fun p hp=>(ay.mp hp).elim (fun z=>I.pin p (aJ _ z)) (h p),I.hok,I.len⟩
theorem sR {N:List Str}(e:N.Nodup)(a:N[i]?=some x)(b:N[j]?=some x):i=j:=by
 obtain⟨h1,d⟩:=af.mp a;obtain⟨h2,g⟩:=af.mp b;exact(List.getElem_inj e).mp (d.trans g.symm)
theorem p0 {u:Value}{Q:Unit→Shared→Prop}(I:eM X pins σ H s)(hN:X.N.Nodup)(hi:X.N[i]?=some x)(B:Gn X.env.scope x)(r:eT v u)(h:∀s',eM X pins (σ.set i (some v)) H s'→(∃a,Heap.SameBut a s.heap s'.heap∧(a=X.env.locals∨X.env.cells.lookup x=some a))→Q () s')(hf:X.fn x=true∨X.env.scope.names.lookup x=some .local:=by first | exact .inl rfl | exact .inr rfl | assumption):wpAny M A (storeName X.env x u) Q E s:=by
 obtain⟨m,hn,hl⟩:=id I.loc;have P:(X.env.scope.kind == .class||(X.env.scope.kind == .module&&X.env.locals != X.env.globals))=false:=by rw[I.ok.kind];rfl
 have O:i<σ.length:=by rw[I.len];exact(af.mp hi).1
 have cne:=I.cne;have l:∀{a:Addr} {h':Heap},(∃o,s.heap.get? a=some o∧H a=none)→Heap.SameBut a s.heap h'→kF X.prog X.w H h':=fun {a h'} ha g b ob e=>by
  obtain⟨_,_,C⟩:=ha;refine(I.hok b ob e).Jb (fun c R hc q=>(g.2 c ?_).trans q) (fun _ q=>q) fun _ _ q=>q;rintro rfl;rcases hc with rfl | hc
  ·rw[C]at e;cases e
  ·rw[C]at hc;cases hc
 rcases B with hk | hk
 ·refine wpAny_storeName_local hk hn (fun h' aa g=>?_) P;obtain⟨oL,_,_,ad,_⟩:=id hn;refine h _ ⟨I.ok,I.os,I.bare,⟨fun b o e n F B=>?_,fun b o e n F B=>?_,I.base.free,fun b o e B=>?_,I.base.tups,I.base.frzs,I.base.tbls⟩,⟨_,aa,fun j y U t D e3=>?_⟩,fun y c e=>?_,I.free,I.freeC,fun p hp=>?_,l ⟨oL,ad,I.free⟩ g,by simpa using I.len⟩ ⟨_,g,.inl rfl⟩
  ·exact(g.2 b (aX (bb (aS e) I.ok.above))).trans (I.base.keep b o e n F B)
  ·obtain⟨Y,t⟩:=I.base.slot b o e n F B;exact⟨Y,(g.2 b (aX (bb (aS e) I.ok.above))).trans t⟩
  ·obtain⟨o',t⟩:=I.base.there b o e B;exact⟨o',(g.2 b (aX (bb (aS e) I.ok.above))).trans t⟩
  ·by_cases hj:j=i
   ·subst hj;rw[hi]at t;cases t;rw[List.getElem?_set_self O]at D;cases D;exact⟨u,r,.inl ⟨hk,by simp⟩⟩
   ·rw[List.getElem?_set_ne (Ne.symm hj)]at D;obtain⟨Z,T,q⟩:=hl j y U t D e3;refine⟨Z,T,?_⟩;rcases q with ⟨k,e⟩ | ⟨k,c,e,z⟩
    ·refine .inl ⟨k,?_⟩;have:y≠x:=fun e=>hj (sR hN t (e▸hi));simp[this,e]
    ·exact .inr ⟨k,c,e,z.sameBut g (cne y c e)⟩
  ·obtain⟨R,z⟩:=I.cell y c e;exact⟨R,z.sameBut g (cne y c e)⟩
  ·obtain⟨e,n,S,nf,d⟩:=I.pin p hp;exact⟨(g.2 p.1 S).trans e,n,S,nf,d⟩
 ·have G:X.fn x=true:=by
   rcases hf with z | z
   ·exact z
   ·rw[z]at hk;cases hk
  obtain⟨c,hc⟩:=I.ok.has x (.inl hk);obtain⟨R,z⟩:=I.cell x c hc;refine wpAny_storeName_cell I.ok.kind hk hc z (fun h' L g=>?_);obtain⟨oc,J,K⟩:=id z;refine h {s with heap:=h'} ⟨I.ok,I.os,I.bare,⟨fun b o e n F B=>?_,fun b o e n F B=>?_,I.base.free,fun b o e B=>?_,I.base.tups,I.base.frzs,I.base.tbls⟩,⟨m,hn.sameBut g (Ne.symm (cne x c hc)),fun j y U t D e3=>?_⟩,fun y c' e=>?_,I.free,I.freeC,fun p hp=>?_,l ⟨oc,J,I.freeC x c hc⟩ g,by simpa using I.len⟩ ⟨c,g,.inr hc⟩
  ·exact(g.2 b (aX (bb (aS e) (I.ok.cab x c G hc)))).trans (I.base.keep b o e n F B)
  ·obtain⟨Y,t⟩:=I.base.slot b o e n F B;exact⟨Y,(g.2 b (aX (bb (aS e) (I.ok.cab x c G hc)))).trans t⟩
  ·obtain⟨o',t⟩:=I.base.there b o e B;exact⟨o',(g.2 b (aX (bb (aS e) (I.ok.cab x c G hc)))).trans t⟩
  ·by_cases hj:j=i
   ·subst hj;rw[hi]at t;cases t;rw[List.getElem?_set_self O]at D;cases D;exact⟨u,r,.inr ⟨.inl hk,c,hc,L⟩⟩
   ·rw[List.getElem?_set_ne (Ne.symm hj)]at D;obtain⟨Z,T,q⟩:=hl j y U t D e3;refine⟨Z,T,?_⟩;rcases q with q | ⟨k,c',e,z'⟩
    ·exact .inl q
    ·refine .inr ⟨k,c',e,z'.sameBut g ?_⟩;rintro rfl;exact hj (sR hN t (I.ok.inj _ _ _ e hc▸hi))
  ·by_cases hcc:c'=c
   ·subst hcc;exact⟨_,L⟩
   ·obtain⟨w2,z2⟩:=I.cell y c' e;exact⟨w2,z2.sameBut g hcc⟩
  ·obtain⟨e,n,S,nf,d⟩:=I.pin p hp;refine⟨(g.2 p.1 ?_).trans e,n,S,nf,d⟩;intro q;rw[q,J]at e;have q':oc=p.2:=Option.some.inj e;exact d R (by rw[←q'];exact K)
theorem nW {u:Value}{Q:Unit→Shared→Prop}(I:eM X pins σ H s)(d:X.N.Nodup)(hi:X.N[i]?=some x)(b:Gn X.env.scope x)(r:eT v u)(h:∀s',eM X pins (σ.set i (some v)) H s'→Q () s')(hf:X.fn x=true∨X.env.scope.names.lookup x=some .local:=by first | exact .inl rfl | exact .inr rfl | assumption):wpAny M A (storeName X.env x u) Q E s:=
 p0 I d hi b r (fun s' a _=>h s' a) hf
theorem eM.Jh (I:eM X pins σ H s)(g:s'.os=s.os)(u:Un (Ab X.stack) ch H H' s.heap s'.heap)(a:kF X.prog X.w H' s'.heap)(h:AllBare s'.gens)(d:∀b∈ch,(b∈X.ex∨X.s₀.heap.get? b=none)∧b≠X.env.locals∧(∀x c,X.env.cells.lookup x=some c→c≠b)∧∀p∈X.pn++pins,p.1≠b):eM X pins σ H' s':=by
 obtain⟨h',g',d',t',o'⟩:=s';have e:o'=s.os:=g;subst e;exact I.call (g':=g') (t':=t') (d':=d') u a h d
end
abbrev XK:=Value→Option Addr→Hp→Prop
abbrev St:=List (Option V)
abbrev VK:=V→Hp→Prop
abbrev TE:=St→Hp→VK→Prop
abbrev TT:=St→Hp→(Bool→Hp→Prop)→Prop
abbrev TA:=St→Hp→(List V→Hp→Prop)→Prop
structure lV where
 nx:St→Hp→Prop
 rt:VK
 bk:St→Hp→Prop:=fun _ _=>False
 ct:St→Hp→Prop:=fun _ _=>False
abbrev TS:=lV→St→Hp→Prop
def EP (X:Cx)(pins:List (Addr×Obj))(σ:St)(Q:VK)(u:Value)(s':Shared):Prop:=∃v H',eM X pins σ H' s'∧eT v u∧Q v H'
def TP (X:Cx)(pins:List (Addr×Obj))(σ:St)(Q:Bool→Hp→Prop)(b:Bool)(s':Shared):Prop:=∃H',eM X pins σ H' s'∧Q b H'
def AP (X:Cx)(pins:List (Addr×Obj))(σ:St)(Q:List V→Hp→Prop)(us:List Value)(s':Shared):Prop:=∃vs H',eM X pins σ H' s'∧fH vs us∧Q vs H'
def SP (X:Cx)(pins:List (Addr×Obj))(D:lV)(f:Flow)(s':Shared):Prop:=
 match f with
 |.next=>∃σ' H',eM X pins σ' H' s'∧D.nx σ' H'
 |.brk=>∃σ' H',eM X pins σ' H' s'∧D.bk σ' H'
 |.cont=>∃σ' H',eM X pins σ' H' s'∧D.ct σ' H'
 |.ret u=>∃v σ' H',eM X pins σ' H' s'∧eT v u∧D.rt v H'
def PE (X:Cx)(e:Expr)(t:TE):Prop:=
 ∀(pins:List (Addr×Obj)) (s:Shared) (σ:St) (H:Hp) (Q:VK),eM X pins σ H s→t σ H Q→wpAny (model X.prog X.w) X.A (eval e X.env) (EP X pins σ Q) X.xe s
def PT (X:Cx)(e:Expr)(t:TT):Prop:=
 ∀(pins:List (Addr×Obj)) (s:Shared) (σ:St) (H:Hp) (Q:Bool→Hp→Prop),eM X pins σ H s→t σ H Q→wpAny (model X.prog X.w) X.A (isTrue e X.env (eval e X.env)) (TP X pins σ Q) X.xe s
def PW (X:Cx)(e:Expr)(t:TT):Prop:=
 ∀(whole:Sem Value) (pins:List (Addr×Obj)) (s:Shared) (σ:St) (H:Hp) (Q:Bool→Hp→Prop),eM X pins σ H s→t σ H Q→wpAny (model X.prog X.w) X.A (isTrue e X.env whole) (TP X pins σ Q) X.xe s
theorem PW.pt {t:TT}(h:PW X e t):PT X e t:=h _
def PA (X:Cx)(es:List Expr)(t:TA):Prop:=
 ∀(pos:Pos) (pins:List (Addr×Obj)) (s:Shared) (σ:St) (H:Hp) (Q:List V→Hp→Prop),eM X pins σ H s→t σ H Q→wpAny (model X.prog X.w) X.A (spliced (backTo pos (starEach es X.env))) (AP X pins σ Q) X.xe s
def PS (X:Cx)(st:Stmt)(t:TS):Prop:=
 ∀(pins:List (Addr×Obj)) (s:Shared) (σ:St) (H:Hp) (D:lV),eM X pins σ H s→t D σ H→wpAny (model X.prog X.w) X.A (exec st X.env) (SP X pins D) X.xe s
def lW (X:Cx)(st:List Stmt)(t:TS):Prop:=
 ∀(pins:List (Addr×Obj)) (s:Shared) (σ:St) (H:Hp) (D:lV),eM X pins σ H s→t D σ H→wpAny (model X.prog X.w) X.A (execs st X.env) (SP X pins D) X.xe s
theorem fG {α:Type}{t:Sem α}{Q Q':α→Shared→Prop}(h:wpAny M A t Q E s)(hQ:∀a s,Q a s→Q' a s):wpAny M A t Q' E s:=bO h hQ fun _ _ x=>x
section
inductive Dd (i:Nat)(σ:St)(H:Hp)(Q:VK):Prop
 |mk (v:_)(_:σ[i]?=some (some v))(_:Q v H):Dd i σ H Q
def mU (i:Nat):TE:=fun σ H Q=>Dd i σ H Q
def tC (v:V):TE:=fun _ H Q=>Q v H
theorem DW (o:X.N[i]?=some x)(q:Da X.env.scope x)(hd:(x == ("__debug__" : Str))=false:=by decide)(hcd:(x == ("__classdict__" : Str))=false:=by decide):PE X (.Name x pos) (mU i):=by
 intro pins s σ H Q I h;obtain⟨v,e,h⟩:=h;obtain⟨m,j,g⟩:=I.loc;obtain⟨u,r,l⟩:=g i x v o e q;have b:EP X pins σ Q u s:=⟨v,H,I,r,h⟩;rcases l with ⟨hk,p⟩ | ⟨hk,c,d,a⟩
 ·exact wpAny_Name (wpAny_loadName_local I.ok.kind hk j p b) hd
 ·rcases hk with hk | hk
  ·exact wpAny_Name (wpAny_loadName_cell I.ok.kind hk d a b) hd
  ·exact wpAny_Name (wpAny_loadName_free I.ok.kind hk d a b hcd) hd
theorem ef {i j pos}:PE X (.Constant (.int i) j pos) (tC (.int i)):=fun _ _ _ H _ I h=>wpAny_Constant_int ⟨.int i,H,I.tok _,⟨_,rfl⟩,h⟩
theorem mF {b j pos}:PE X (.Constant (.bool b) j pos) (tC (.bl b)):=fun _ _ _ H _ I h=>Constant_bool ⟨.bl b,H,I,rfl,h⟩
theorem iO {j pos}:PE X (.Constant .none j pos) (tC .non):=fun _ _ _ H _ I h=>Constant_none ⟨.non,H,I,rfl,h⟩
theorem gX {x j pos}:PE X (.Constant (.str x) j pos) (tC (.str x)):=fun _ _ _ H _ I h=>Calls.Constant_str ⟨.str x,H,I.tok _,⟨_,rfl⟩,h⟩
def Gl (X:Cx)(x:Str):Prop:=X.env.kindOf x=some .globalImplicit
theorem vX {u:Value}(I:eM X pins σ H s)(a:Gl X x)(b:X.mg x=some u)(h:Q u s)(hd:(x == ("__debug__" : Str))=false:=by decide):wpAny (model X.prog X.w) X.A (eval (.Name x pos) X.env) Q E s:=
 Calls.Name_function_global I.ok.kind a (Calls.loadGlobal_global (by rw[I.ok.glob];exact I.mod.glob.keeps I.bk) b h) hd
theorem jS {u:Value}(I:eM X pins σ H s)(d:Gl X x)(a:X.mg x=none)(b:bootBuiltins x=some u)(h:Q u s)(hn:x≠"__name__":=by decide)(hd:(x == ("__debug__" : Str))=false:=by decide):wpAny (model X.prog X.w) X.A (eval (.Name x pos) X.env) Q E s:=by
 obtain⟨e,h1,h2⟩:=I.mod.blt;exact Calls.Name_function_global I.ok.kind d (Calls.loadGlobal_builtin (by rw[I.ok.glob];exact I.mod.glob.keeps I.bk) a (by rw[I.ok.blt];exact h1.keeps I.bk) ((h2 x hn).trans b) h) hd
theorem BI {u:Value}(a:Gl X x)(b:X.mg x=none)(d:bootBuiltins x=some u)(r:eT v u)(hn:x≠"__name__":=by decide)(hd:(x == ("__debug__" : Str))=false:=by decide):PE X (.Name x pos) (tC v):=
 fun _ _ _ H _ I h=>jS I a b d ⟨v,H,I,r,h⟩ hn hd
variable {a b:Expr}{tb:TE}
def PC (X:Cx)(op:CmpOp)(a b:Expr)(t:TE):Prop:=
 ∀(pins:List (Addr×Obj)) (s:Shared) (σ:St) (H:Hp) (Q:VK),eM X pins σ H s→t σ H Q→
  wpAny (model X.prog X.w) X.A (eval a X.env) (fun v s₁=>wpAny (model X.prog X.w) X.A (eval b X.env) (fun u s₂=>wpAny (model X.prog X.w) X.A (compareOp op v u) (EP X pins σ Q) X.xe s₂) X.xe s₁) X.xe s
theorem zG (b:Expr)(h:op≠.In)(h2:op≠.NotIn):behindInMarks op b=false:=by
 have d:(op == CmpOp.In)=false:=by cases op <;> first | rfl | exact absurd rfl h
 have a:(op == CmpOp.NotIn)=false:=by cases op <;> first | rfl | exact absurd rfl h2
 cases b <;> simp[behindInMarks,d,a]
def GY (ta:TE):TE:=fun σ H Q=>ta σ H fun x H1=>Q (.bl (decide (x=.non))) H1
def E4 (ta:TE):TE:=fun σ H Q=>ta σ H fun x H1=>Q (.bl (!decide (x=.non))) H1
theorem eT.Ji {x:V}{v:Value}(r:eT x v):(v == Value.none)=decide (x=.non):=by
 cases x with
 |non=>cases r;rfl
 |bl _=>cases r;rfl
 |int _=>obtain⟨t,rfl⟩:=r;rfl
 |str _=>obtain⟨t,rfl⟩:=r;rfl
 |byt _=>obtain⟨t,rfl⟩:=r;rfl
 |flt _=>obtain⟨t,rfl⟩:=r;rfl
 |ref _=>cases r;rfl
 |ty _=>cases r;rfl
theorem zj {j pos'}(b:PE X a ta):PC X .Is a (.Constant .none j pos') (GY ta):=by
 intro pins s σ H Q I h;refine fG (b pins s σ H _ I h) ?_;rintro v i ⟨x,H1,g,d,e⟩;exact Constant_none (is_none_gen ⟨.bl _,H1,g,by rw[d.Ji];rfl,e⟩)
theorem vP {j pos'}(b:PE X a ta):PC X .IsNot a (.Constant .none j pos') (E4 ta):=by
 intro pins s σ H Q I h;refine fG (b pins s σ H _ I h) ?_;rintro v i ⟨x,H1,g,d,e⟩;exact Constant_none (isnot_none_gen ⟨.bl _,H1,g,by rw[d.Ji];rfl,e⟩)
inductive Iu (Q:Bool→Hp→Prop)(x:V)(H1:Hp):Prop
 |mk (c:_)(_:x=.bl c)(_:Q c H1):Iu Q x H1
def tB (t:TE):TT:=fun σ H Q=>t σ H fun x H1=>Iu Q x H1
theorem iN {t:TE}(h:PC X op a b t)(h1:behindInMarks op b=false:=by first | exact zG _ (by decide) (by decide) | rfl):PT X (.Compare a [op] [b] pos) (tB t):=by
 intro pins s σ H Q I e;refine wpAny_isTrue_Compare1 (fG (h pins s σ H _ I e) fun v l h1=>fG h1 fun u o h2=>fG h2 ?_) h1;rintro c m ⟨x,H1,i,g,j⟩;obtain⟨d,rfl,q⟩:=j;cases g;exact bN ⟨H1,i,q⟩
theorem j3 {t:TE}(h:PE X e t)(he:∀whole,isTrue e X.env whole=(do let v ←whole;standAt e.pos;holding [v] (truthy v)):=by intro _;rfl):PT X e (tB t):=by
 intro pins s σ H Q I a;refine isTrue_plain (fG (h pins s σ H _ I a) ?_) (he _);rintro v j ⟨x,H1,g,b,i⟩;obtain⟨d,rfl,q⟩:=i;cases b;exact bN ⟨H1,g,q⟩
variable {tA tB':TT}{rest:List Expr}
def Hi (t u:TT):TT:=fun σ H Q=>t σ H fun c H1=>if c=true then u σ H1 Q else Q false H1
def IC (t u:TT):TT:=fun σ H Q=>t σ H fun c H1=>if c=true then Q true H1 else u σ H1 Q
def E5 (t:TT):TT:=fun σ H Q=>t σ H fun c H1=>Q (!c) H1
theorem nB (b:PT X a tA):PW X (.BoolOp .And [a] pos) tA:=by
 intro d pins s σ H Q I h;refine isTrue_and (fG (b pins s σ H Q I h) fun c g e=>?_);cases c with
 |true=>exact isTrue_and_nil e
 |false=>exact e
theorem oJ (b:PT X a tA):PW X (.BoolOp .Or [a] pos) tA:=by
 intro d pins s σ H Q I h;refine isTrue_or (fG (b pins s σ H Q I h) fun c g e=>?_);cases c with
 |false=>exact isTrue_or_nil e
 |true=>exact e
theorem rE (g:PT X a tA)(l:PW X (.BoolOp .And (b::rest) pos) tB'):PW X (.BoolOp .And (a::b::rest) pos) (Hi tA tB'):=by
 intro i pins s σ H Q I h;refine isTrue_and (fG (g pins s σ H _ I h) ?_);rintro c j ⟨H1,e,d⟩;cases c with
 |true=>exact l i pins j σ H1 Q e d
 |false=>exact⟨H1,e,d⟩
theorem p8 (g:PT X a tA)(l:PW X (.BoolOp .Or (b::rest) pos) tB'):PW X (.BoolOp .Or (a::b::rest) pos) (IC tA tB'):=by
 intro i pins s σ H Q I h;refine isTrue_or (fG (g pins s σ H _ I h) ?_);rintro c j ⟨H1,e,d⟩;cases c with
 |true=>exact⟨H1,e,d⟩
 |false=>exact l i pins j σ H1 Q e d
theorem jw (b:PT X a tA):PT X (.UnaryOp .Not a pos) (E5 tA):=by
 intro pins s σ H Q I h;exact isTrue_not (b pins s σ H (fun c H1=>Q (!c) H1) I h)
inductive AV (tb:TE)(σ:St)(Q:VK)(x:V)(H1:Hp):Prop
 |mk (c:_)(_:x=.bl c)(_:if c=true then tb σ H1 Q else Q (.bl false) H1):AV tb σ Q x H1
def Fg (ta tb:TE):TE:=fun σ H Q=>ta σ H fun x H1=>AV tb σ Q x H1
inductive AQ (Q:VK)(x:V)(H1:Hp):Prop
 |mk (c:_)(_:x=.bl c)(_:Q (.bl (!c)) H1):AQ Q x H1
def E3 (ta:TE):TE:=fun σ H Q=>ta σ H fun x H1=>AQ Q x H1
theorem rJ {op}{t:TE}(h:PE X a t):PE X (.BoolOp op [a] pos) t:=fun pins s σ H Q I hw=>BoolOp_one (h pins s σ H Q I hw)
theorem rK (g:PE X a ta)(l:PE X (.BoolOp .And (b::rest) pos) tb):PE X (.BoolOp .And (a::b::rest) pos) (Fg ta tb):=by
 intro pins s σ H Q I h;refine BoolOp_and (fG (g pins s σ H _ I h) ?_);rintro v j ⟨x,H1,e,i,d⟩;obtain⟨c,rfl,d⟩:=d;cases i;refine bN ?_;cases c with
 |true=>exact l pins j σ H1 Q e d
 |false=>exact⟨.bl false,H1,e,rfl,d⟩
theorem zb (d:PE X a ta):PE X (.UnaryOp .Not a pos) (E3 ta):=by
 intro pins s σ H Q I h;refine UnaryOp_ (fG (d pins s σ H _ I h) ?_);rintro v i ⟨x,H1,g,e,b⟩;obtain⟨c,rfl,b⟩:=b;cases e;exact not_of (bN ⟨.bl (!c),H1,g,rfl,b⟩)
def Ie (t:TT)(ta tb:TE):TE:=fun σ H Q=>t σ H fun c H1=>if c=true then ta σ H1 Q else tb σ H1 Q
theorem zd {c:Expr}(m:PT X c tA)(j:PE X a ta)(l:PE X b tb):PE X (.IfExp c a b pos) (Ie tA ta tb):=by
 intro pins s σ H Q I h;refine wpAny_IfExp (fG (m pins s σ H _ I h) ?_);rintro d g ⟨H1,i,e⟩;cases d with
 |true=>exact j pins g σ H1 Q i e
 |false=>exact l pins g σ H1 Q i e
end
def eX (K:W.Frag)(H:Hp)(a:Addr)(xs:List V):Prop:=
 Rd H a (.lst xs)∨
  ∃(o:Obj) (its:Array Value) (n:Nat),K.lookup a=some o∧o.cls=.type "list"∧o.dict=none∧o.data=.seq its n∧its.size≤sizeLine∧fH xs its.toList
def ia (K:W.Frag)(H:Hp)(a:Addr)(xs:List V):Prop:=
 Rd H a (.tup xs)∨
  ∃(o:Obj) (its:Array Value) (n:Nat),K.lookup a=some o∧o.cls=.type "tuple"∧o.data=.seq its n∧its.size≤sizeLine∧fH xs its.toList
def HQ:Value→Option V
 |.none=>some .non
 |.bool b=>some (.bl b)
 |.int i _=>some (.int i)
 |.str x _=>some (.str x)
 |.bytes b _=>some (.byt b)
 |.float b _=>some (.flt b)
 |.ref a=>some (.ref a)
 |.type n=>some (.ty n)
 |_=>none
theorem eT.abs {x:V}{u:Value}(r:eT x u):HQ u=some x:=by
 cases x with
 |non=>cases r;rfl
 |bl _=>cases r;rfl
 |int _=>obtain⟨t,rfl⟩:=r;rfl
 |str _=>obtain⟨t,rfl⟩:=r;rfl
 |byt _=>obtain⟨t,rfl⟩:=r;rfl
 |flt _=>obtain⟨t,rfl⟩:=r;rfl
 |ref _=>cases r;rfl
 |ty _=>cases r;rfl
theorem eT.inj {x:V}{u:Value}(r:eT x u)(q:eT y u):x=y:=Option.some.inj (r.abs.symm.trans q.abs)
theorem fH.inj:∀{xs ys:List V} {us:List Value},fH xs us→fH ys us→xs=ys
 |_,_,_,.nil,.nil=>rfl
 |_,_,_,.cons r t,.cons r' t'=>by rw[r.inj r',fH.inj t t']
section
variable {ys:List V}
theorem eX.of (h:H a=some (.lst xs)):eX K H a xs:=.inl (.inl h)
theorem ia.of (h:H a=some (.tup xs)):ia K H a xs:=.inl (.inl h)
theorem eM.list (I:eM X pins σ H s)(h:eX X.K H a xs):∃its:List Value,fH xs its∧PlainL s.heap a its.toArray∧xs.length≤sizeLine:=by
 rcases h with h | ⟨o,its,n,d,i,b,g,j,r⟩
 ·obtain⟨z,its,n,r,e⟩:=h.ok I.hok;exact⟨its,r,⟨_,n,e,rfl,rfl,rfl⟩,z⟩
 ·refine⟨its.toList,r,⟨o,n,I.kIn a o d,i,b,by simpa using g⟩,?_⟩;have e:=r.length;simp only[bF]at e
  lia
theorem eM.tuple (I:eM X pins σ H s)(h:ia X.K H a xs):∃its:List Value,fH xs its∧IsTup s.heap a its.toArray∧xs.length≤sizeLine:=by
 rcases h with h | ⟨o,its,n,b,g,d,i,r⟩
 ·obtain⟨z,its,r,p⟩:=h.ok I.hok;exact⟨its,r,p,z⟩
 ·refine⟨its.toList,r,⟨o,I.kIn a o b,g,n,by simpa using d⟩,?_⟩;have e:=r.length;simp only[bF]at e
  lia
theorem eM.Jj (I:eM X pins σ H s)(h:eX X.K H a xs)(h':eX X.K H a ys):xs=ys:=by
 obtain⟨g,r,⟨o,n,e,_,_,d⟩,_⟩:=I.list h;obtain⟨b,l,⟨o',p,j,_,_,i⟩,_⟩:=I.list h';rw[e]at j;cases j;rw[d]at i;injection i with m _
 have:g=b:=by simpa using congrArg Array.toList m
 subst this;exact r.inj l
end
abbrev Cx.Jk (X:Cx)(E:Value→Shared→Prop):Cx:={X with xe:=E}
abbrev Cx.nox (X:Cx):Cx:=X.Jk fun _ _=>False
theorem Cx.Ok.Jk (ok:X.Ok)(E:Value→Shared→Prop):(X.Jk E).Ok:=
 ⟨ok.mod,ok.kind,ok.glob,ok.blt,ok.above,ok.inj,ok.has,ok.cab,ok.hd,ok.frames,ok.stk,ok.exf,ok.bs,ok.bsz,ok.noex,ok.exfs,ok.funs,ok.frf⟩
theorem Cx.Ok.Jl (ok:(X.Jk E).Ok):X.Ok:=
 ⟨ok.mod,ok.kind,ok.glob,ok.blt,ok.above,ok.inj,ok.has,ok.cab,ok.hd,ok.frames,ok.stk,ok.exf,ok.bs,ok.bsz,ok.noex,ok.exfs,ok.funs,ok.frf⟩
theorem eM.Jk (I:eM X pins σ H s)(E:Value→Shared→Prop):eM (X.Jk E) pins σ H s:=⟨I.ok.Jk E,I.os,I.bare,I.base,I.loc,I.cell,I.free,I.freeC,I.pin,I.hok,I.len⟩
theorem eM.Jl (I:eM (X.Jk E) pins σ H s):eM X pins σ H s:=⟨I.ok.Jl,I.os,I.bare,I.base,I.loc,I.cell,I.free,I.freeC,I.pin,I.hok,I.len⟩
theorem SP.Jl {f:Flow}(h:SP (X.Jk E) pins D f s'):SP X pins D f s':=by
 cases f with
 |next=>obtain⟨σ',H',I,q⟩:=h;exact⟨σ',H',I.Jl,q⟩
 |brk=>obtain⟨σ',H',I,q⟩:=h;exact⟨σ',H',I.Jl,q⟩
 |cont=>obtain⟨σ',H',I,q⟩:=h;exact⟨σ',H',I.Jl,q⟩
 |ret u=>obtain⟨v,σ',H',I,r,q⟩:=h;exact⟨v,σ',H',I.Jl,r,q⟩
theorem lW.nox {st:List Stmt}{t:TS}(h:lW X.nox st t):lW X st t:=fun pins s σ H D I hw=>
 bO (h pins s σ H D (I.Jk _) hw) (fun _ _ q=>q.Jl) fun _ _ z=>False.elim z
section
variable {st:Stmt}{rest:List Stmt}{t u:TS}
def E6:TS:=fun D σ H=>D.nx σ H
def GU (t u:TS):TS:=fun D σ H=>t {D with nx:=u D} σ H
theorem ff:lW X [] E6:=fun _ _ σ H _ I h=>wpAny_execs_nil ⟨σ,H,I,h⟩
theorem dX (h1:PS X st t)(h2:lW X rest u):lW X (st::rest) (GU t u):=by
 intro pins s σ H D I h;refine wpAny_execs_cons (fG (h1 pins s σ H {D with nx:=u D} I h) fun f b q=>?_);cases f with
 |next=>
  obtain⟨σ',H',a,q⟩:=q;exact h2 pins b σ' H' D a q
 |ret v=>exact q
 |brk=>exact q
 |cont=>exact q
theorem eg (h1:PS X st t):lW X [st] t:=by
 intro pins s σ H D I h;refine wpAny_execs_cons (fG (h1 pins s σ H D I h) fun f a q=>?_);cases f with
 |next=>exact wpAny_execs_nil q
 |ret v=>exact q
 |brk=>exact q
 |cont=>exact q
def Fc:TS:=fun D σ H=>D.ct σ H
theorem sM:PS X (.Continue pos) Fc:=fun _ _ σ H _ I h=>wpAny_Continue ⟨σ,H,I,h⟩
theorem eM.quiet (I:eM X pins σ H s):interactive X.env=false:=by simp[interactive,I.ok.kind]
def E8 (te:TE):TS:=fun D σ H=>te σ H fun _ H1=>D.nx σ H1
theorem fU (a:PE X e te)(hs:swapsWith e none pos.line X.env=pure false:=by rfl):PS X (.Expr e pos) (E8 te):=by
 intro pins s σ H D I h;exact wpAny_Expr_any (fG (a pins s σ H _ I h) (by rintro v i ⟨x,H1,d,g,b⟩;exact⟨σ,H1,d,b⟩)) I.quiet hs
def GV (te:TE):TS:=fun D σ H=>te σ H D.rt
theorem eR (a:PE X e te):PS X (.Return (some e) pos) (GV te):=by
 intro pins s σ H D I h;exact wpAny_Return_some (fG (a pins s σ H _ I h) (by rintro v i ⟨x,H1,g,b,d⟩;exact⟨x,σ,H1,g,b,d⟩))
def Hc (c:TT)(t u:TS):TS:=fun D σ H=>c σ H fun b H1=>if b=true then t D σ H1 else u D σ H1
theorem gj {c:Expr}{a b:List Stmt}{tc:TT}(m:PT X c tc)(j:lW X a t)(l:lW X b u):PS X (.If c a b pos) (Hc tc t u):=by
 intro pins s σ H D I h;refine wpAny_If (fG (m pins s σ H _ I h) ?_);rintro d g ⟨H1,i,e⟩;cases d with
 |true=>exact j pins g σ H1 D i e
 |false=>exact l pins g σ H1 D i e
def Dy:TS:=fun _ _ _=>False
theorem jd {sts:List Stmt}:lW X sts Dy:=fun _ _ _ _ _ _ h=>h.elim
end
abbrev TG:=V→St→Hp→(St→Hp→Prop)→Prop
abbrev wK:=List V→St→Hp→(St→Hp→Prop)→Prop
def PG (X:Cx)(target:Expr)(t:TG):Prop:=
 ∀(pins:List (Addr×Obj)) (s:Shared) (σ:St) (H:Hp) (v:V) (u:Value) (Q:St→Hp→Prop),eM X pins σ H s→eT v u→t v σ H Q→
  wpAny (model X.prog X.w) X.A (assign target X.env u) (fun _ s'=>∃σ' H',eM X pins σ' H' s'∧Q σ' H') X.xe s
def GO (X:Cx)(ts:List Expr)(t:wK):Prop:=
 ∀(pins:List (Addr×Obj)) (s:Shared) (σ:St) (H:Hp) (vs:List V) (us:List Value) (Q:St→Hp→Prop),eM X pins σ H s→fH vs us→t vs σ H Q→
  wpAny (model X.prog X.w) X.A (assignInOrder ((assignEach ts X.env).map (·.2)) us) (fun _ s'=>∃σ' H',eM X pins σ' H' s'∧Q σ' H') X.xe s
abbrev Gc:=V→V→Hp→VK→Prop
def Gh (X:Cx)(op:Operator)(t:Gc):Prop:=
 ∀(pins:List (Addr×Obj)) (s:Shared) (σ:St) (H:Hp) (x y:V) (v u:Value) (Q:VK),eM X pins σ H s→eT x v→eT y u→t x y H Q→
  wpAny (model X.prog X.w) X.A (inplaceOp op v u) (EP X pins σ Q) X.xe s
def iJ (i:Nat):TG:=fun v σ H Q=>Q (σ.set i (some v)) H
theorem eK (b:X.N.Nodup)(hi:X.N[i]?=some x)(d:Gn X.env.scope x)(hf:X.fn x=true∨X.env.scope.names.lookup x=some .local:=by first | exact .inl rfl | exact .inr rfl | assumption):PG X (.Name x pos) (iJ i):=by
 intro pins s σ H v u Q I r h;exact wpAny_assign_Name (nW I b hi d r (fun s' a=>⟨_,H,a,h⟩) hf)
def Eu:wK:=fun vs σ H Q=>vs=[]∧Q σ H
inductive A1 (t:TG)(u:wK)(vs:List V)(σ:St)(H:Hp)(Q:St→Hp→Prop):Prop
 |mk (v r:_)(_:vs=v::r)(_:t v σ H fun σ' H'=>u r σ' H' Q):A1 t u vs σ H Q
def zZ (t:TG)(u:wK):wK:=fun vs σ H Q=>A1 t u vs σ H Q
theorem lJ:GO X [] Eu:=by
 intro pins s σ H vs us Q I r h;obtain⟨e,h⟩:=h;subst e;cases r;exact assignInOrder_nil ⟨σ,H,I,h⟩
theorem gT {t:TG}{u:wK}(h1:PG X e t)(h2:GO X es u)(hs:(assignEach (e::es) X.env).map (·.2)=assign e X.env::(assignEach es X.env).map (·.2):=by rfl):GO X (e::es) (zZ t u):=by
 intro pins s σ H vs us Q I r h;obtain⟨v,i,d,h⟩:=h;subst d;cases r with
 |cons r rr=>
  rw[hs];refine assignInOrder_cons (fG (h1 pins s σ H _ _ _ I r h) ?_);rintro _ a ⟨σ1,H1,b,g⟩;exact h2 pins a σ1 H1 _ _ Q b rr g
inductive Ds (K:W.Frag)(n:Nat)(t:wK)(v:V)(σ:St)(H:Hp)(Q:St→Hp→Prop):Prop
 |mk (a xs:_)(_:v=.ref a)(_:ia K H a xs)(_:xs.length=n)(_:t xs σ H Q):Ds K n t v σ H Q
def FT (K:W.Frag)(n:Nat)(t:wK):TG:=fun v σ H Q=>Ds K n t v σ H Q
theorem oP {k:Nat}{t:wK}{n:Nat}(x:X.calm=true)(h:GO X es t)(hn:(assignEach es X.env).length=n:=by rfl)(hst:(assignEach es X.env).findIdx? (·.1)=none:=by rfl):PG X (.Tuple es k pos) (FT X.K n t):=by
 intro pins s σ H v u Q I r d;obtain⟨a,xs,q,p,i,d⟩:=d;subst q;cases r;obtain⟨w,g,j,y⟩:=I.tuple p;refine assign_Tuple_tuple (I.ok.hd x) j (by simp[hn,←i,g.length]) hst fun h' m=>?_;have l:eM X pins σ H {s with heap:=h'}:=I.kept (t':=s.toks) fun b o e=>m b o (aX (aS e)) e;exact h pins _ σ H xs _ Q l (by simpa using g) d
def Ff (te:TE)(g:TG):TS:=fun D σ H=>te σ H fun x H1=>g x σ H1 D.nx
theorem DS (j:PE X e te)(i:PG X tg g)(hs:swapsWithSole [tg] e pos.line X.env=pure false:=by rfl)(hw:swappedStores [tg] e X.env=pure none:=by rfl)(h1:(assignEach [tg] X.env).map (·.2)=[assign tg X.env]:=by rfl):PS X (.Assign [tg] e pos) (Ff te g):=by
 intro pins s σ H D I h;refine wpAny_Assign_stores (fG (j pins s σ H _ I h) ?_) hs hw;rintro v b ⟨x,H1,d,a,l⟩;rw[h1];exact fG (i pins b σ H1 x v _ d a l) fun _ m q=>q
theorem eF (g:X.N.Nodup)(hi:X.N[i]?=some x)(d:Gn X.env.scope x)(j:PE X e te)(hs:swapsWith e (some (.Name x pos')) pos.line X.env=pure false:=by rfl)(hf:X.fn x=true∨X.env.scope.names.lookup x=some .local:=by first | exact .inl rfl | exact .inr rfl | assumption):PS X (.Assign [.Name x pos'] e pos) (Ff te (iJ i)):=by
 intro pins s σ H D I h;refine wpAny_Assign_Name (fG (j pins s σ H _ I h) ?_) hs;rintro v o ⟨y,H1,b,a,l⟩;exact nW b g hi d a (fun p m=>⟨_,H1,m,l⟩) hf
inductive Dh (i:Nat)(te:TE)(ti:Gc)(D:lV)(σ:St)(H:Hp):Prop
 |mk (x:_)(_:σ[i]?=some (some x))(_:te σ H fun y H1=>ti x y H1 fun z H2=>D.nx (σ.set i (some z)) H2):Dh i te ti D σ H
def Hh (i:Nat)(te:TE)(ti:Gc):TS:=fun D σ H=>Dh i te ti D σ H
theorem jO {op:Operator}{ti:Gc}(M:X.N.Nodup)(hi:X.N[i]?=some x)(b:Gn X.env.scope x)(L:PE X e te)(B:Gh X op ti)(hf:X.fn x=true∨X.env.scope.names.lookup x=some .local:=by first | exact .inl rfl | exact .inr rfl | assumption):PS X (.AugAssign (.Name x pos') op e pos) (Hh i te ti):=by
 intro pins s σ H D I h;obtain⟨v,K,h⟩:=h;obtain⟨m,F,C⟩:=I.loc;have d:Da X.env.scope x:=by rcases b with k | k;exact .inl k;exact .inr (.inl k)
 obtain⟨u,r,l⟩:=C i x v hi K d;refine wpAny_AugAssign_Name ?_;have g:wpAny (model X.prog X.w) X.A (eval e X.env) (fun w s₂=>wpAny (model X.prog X.w) X.A (inplaceOp op u w) (fun r s₃=>wpAny (model X.prog X.w) X.A (storeName X.env x r) (fun _=>SP X pins D .next) X.xe s₃) X.xe s₂) X.xe s:=by
  refine fG (L pins s σ H _ I h) ?_;rintro w E ⟨y,H1,o,j,q⟩;refine fG (B pins E σ H1 v y u w _ o r j q) ?_;rintro z Q ⟨R,H2,t,G,P⟩;exact nW t M hi b G (fun S p=>⟨_,H2,p,P⟩) hf
 rcases l with ⟨hk,J⟩ | ⟨hk,c,O,a⟩
 ·exact wpAny_loadName_local I.ok.kind hk F J g
 ·rcases hk with hk | hk
  ·exact wpAny_loadName_cell I.ok.kind hk O a g
  ·rcases b with k | k
   ·have:X.env.scope.names.lookup x=some .free:=hk;rw[k]at this;cases this
   ·have:X.env.scope.names.lookup x=some .free:=hk;rw[k]at this;cases this
inductive Gx (f:Int→Int→Int)(x:V)(y:V)(H:Hp)(Q:VK):Prop
 |mk (i j:_)(_:x=.int i)(_:y=.int j)(_:Q (.int (f i j)) H):Gx f x y H Q
def Ik (f:Int→Int→Int):Gc:=fun x y H Q=>Gx f x y H Q
theorem zT:Gh X .Add (Ik fun i j=>i+j):=by
 intro pins s σ H x y v u Q I a b h;obtain⟨i,j,d,e,q⟩:=h;subst d;subst e;obtain⟨t,rfl⟩:=a;obtain⟨t',rfl⟩:=b;exact iadd_int ⟨.int _,H,I.tok _,⟨_,rfl⟩,q⟩
theorem Eo:Gh X .Sub (Ik fun i j=>i-j):=by
 intro pins s σ H x y v u Q I a b h;obtain⟨i,j,d,e,q⟩:=h;subst d;subst e;obtain⟨t,rfl⟩:=a;obtain⟨t',rfl⟩:=b;exact isub_int ⟨.int _,H,I.tok _,⟨_,rfl⟩,q⟩
def Dw (c:TT)(tb:TS):TS:=fun D σ H=>∃W:Nat→St→Hp→Prop,(∃m,W m σ H)∧∀m σ H,W m σ H→
 c σ H fun b H1=>if b=true then ∃N:St→Hp→Prop,(∀σ' H',N σ' H'→∃m',m'<m∧W m' σ' H')∧tb {D with nx:=N,ct:=N,bk:=D.nx} σ H1 else D.nx σ H1
theorem jD {c:Expr}{tc:TT}(hp:PassesOwn (model X.prog X.w) X.A X.env X.xe)(y:PT X c tc)(r:lW X body tb):PS X (.While c body [] pos) (Dw tc tb):=by
 intro pins s σ H D I h;obtain⟨W,⟨z,B⟩,d⟩:=h;refine wpAny_While (codeAny_whileLoop (fun n s'=>∃σ' H',eM X pins σ' H' s'∧W n σ' H') ?_ z ⟨σ,H,I,B⟩);rintro n C ⟨σ1,H1,t,q⟩;refine cH hp (fG (y pins C σ1 H1 _ t (d n σ1 H1 q)) ?_);rintro b x ⟨H2,o,g⟩;cases b with
 |true=>
  obtain⟨N,p,g⟩:=g;rw[if_pos rfl];refine cH hp (fG (r pins x σ1 H2 _ o g) fun f E e=>?_);cases f with
  |next=>
   obtain⟨σ3,a,l,j⟩:=e;obtain⟨m',m,i⟩:=p σ3 a j;exact⟨m',m,σ3,a,l,i⟩
  |cont=>
   obtain⟨σ3,a,l,j⟩:=e;obtain⟨m',m,i⟩:=p σ3 a j;exact⟨m',m,σ3,a,l,i⟩
  |brk=>exact e
  |ret v=>exact e
 |false=>
  rw[if_neg aP];exact wpAny_execs_nil ⟨σ1,H2,o,g⟩
structure It where
 go:Nat→Hp→Prop
 yld:Nat→Hp→V→Hp→Prop
 stop:Nat→Hp→Prop
def jB (X:Cx)(pins:List (Addr×Obj))(H:Hp)(b:Addr):Prop:=
 H b=none∧b≠X.env.locals∧b∉X.fs∧(b∈X.ex∨X.s₀.heap.get? b=none)∧(∀x c,X.env.cells.lookup x=some c→c≠b)∧∀p∈X.pn++pins,p.1≠b
theorem eM.Jm (I:eM X pins σ H s)(a:s.heap.objs.size≤b)(d:H' b=none):jB X pins H' b:=by
 refine⟨d,Nat.ne_of_gt (bb I.lt a),I.Jd a,.inr (bo (bj I.sz a)),fun x c e z=>?_,fun p hp z=>?_⟩
 ·obtain⟨v,q⟩:=I.cell x c e;exact absurd (bb q.lt (by rw[z];exact a)) (cQ _)
 ·exact absurd (bb (aS (I.pin p hp).1) (by rw[z];exact a)) (cQ _)
structure si (P:Program)(w:World)(K:W.Frag)(tg:Expr)(J:It)(fp:List Addr)(it:Addr)(tn:Nat→Heap→Prop):Prop where
 mem:it∈fp
 obj:∀i h,tn i h→∀b∈fp,∃o,h.get? b=some o∧∀v,o.data≠.cell v
 keep:∀i h h',tn i h→(∀b∈fp,∀o,h.get? b=some o→h'.get? b=some o)→tn i h'
 item:∀(X:Cx),X.prog=P→X.w=w→X.K=K→X.calm=true→∀(i:Nat) (pins:List (Addr×Obj)) (s:Shared) (σ:St) (H:Hp) (E:Value→Shared→Prop),eM X pins σ H s→(∀b∈fp,jB X pins H b)→tn i s.heap→J.go i H→
  wpAny (model P w) X.A (pyNext (.ref it)) (fun r s1=>∃u,r=some u∧wpAny (model P w) X.A (letOwnedTupleGo tg (.ref it) u) (fun _ s2=>∃x H',eM X pins σ H' s2∧eT x u∧J.yld i H x H'∧tn (i+1) s2.heap∧∀b∈fp,H' b=none) E s1) E s
 done:∀(X:Cx),X.prog=P→X.w=w→X.K=K→X.calm=true→∀(i:Nat) (pins:List (Addr×Obj)) (s:Shared) (σ:St) (H:Hp) (E:Value→Shared→Prop),eM X pins σ H s→(∀b∈fp,jB X pins H b)→tn i s.heap→J.stop i H→
  wpAny (model P w) X.A (pyNext (.ref it)) (fun r s1=>r=none∧eM X pins σ H s1) E s
 self:∀(A:Around) (i:Nat) (s:Shared) (Q:Value→Shared→Prop) (E:Value→Shared→Prop),tn i s.heap→Q (.ref it) s→wpAny (model P w) A (pyIter (.ref it)) Q E s
abbrev TI:=St→Hp→(It→Hp→Prop)→Prop
def GN (X:Cx)(pins:List (Addr×Obj))(σ:St)(tg:Expr)(R:It→Hp→Prop)(itv:Value)(s2:Shared):Prop:=
 ∃(it:Addr) (fp:List Addr) (tn:Nat→Heap→Prop) (J:It) (H':Hp),itv=.ref it∧eM X pins σ H' s2∧si X.prog X.w X.K tg J fp it tn∧tn 0 s2.heap∧(∀b∈fp,jB X pins H' b)∧R J H'
def PI (X:Cx)(tg iter:Expr)(wi:TI):Prop:=
 ∀(pins:List (Addr×Obj)) (s:Shared) (σ:St) (H:Hp) (R:It→Hp→Prop),eM X pins σ H s→wi σ H R→
  wpAny (model X.prog X.w) X.A (eval iter X.env) (fun v s1=>wpAny (model X.prog X.w) X.A (pyIter v) (GN X pins σ tg R) X.xe s1) X.xe s
theorem tj {it:Addr}{u:Value}{o:Obj}{n:String}{vs:Array Value}{Q:Unit→Shared→Prop}(d:s.heap.get? it=some o)(e:o.cls=.type n)(b:o.data=.fields vs)(g:["enumerate","zip","dict_itemiterator","dict_reverseitemiterator","odict_iterator","itertools.zip_longest","itertools.pairwise"].contains n=false)(a:Q () s):wpAny M A (letOwnedTupleGo tg (.ref it) u) Q E s:=by
 unfold letOwnedTupleGo;cases tg <;> first
  |exact ar a
  |(cases u <;> first
    |exact ar a
    |(refine ac (wpAny_load d ?_)
      rw[e,b];show wpAny M A (if (["enumerate","zip","dict_itemiterator","dict_reverseitemiterator","odict_iterator","itertools.zip_longest","itertools.pairwise"].contains n&&vs[0]? == some (rawInt _))=true then _ else _) Q E s;rw[if_neg (by intro h;rw[g,bT]at h;cases h)]
      exact ar a))
def EK (K:W.Frag)(a:Addr):It:=
 ⟨fun i H=>∃xs x,eX K H a xs∧xs[i]?=some x,fun i H x H'=>H'=H∧∀xs,eX K H a xs→xs[i]?=some x,fun i H=>∃xs,eX K H a xs∧xs.length≤i⟩
def EJ (lo:Int)(n:Nat):It:=⟨fun i _=>i<n,fun i H x H'=>H'=H∧x=.int (lo+i),fun i _=>n≤i⟩
theorem wU (a it:Addr):si P w K tg (EK K a) [it] it (fun i h=>h.IsListIter it a i) where
 mem:=by simp
 obj:=fun i h st b g=>by
  have e:b=it:=by simpa using g
  subst e;obtain⟨o,e,c,d⟩:=st;exact⟨o,e,fun v z=>by rw[d]at z;cases z⟩
 keep:=fun i h h' st k=>st.at fun o e=>k it (by simp) o e
 item:=by
  intro X J C A M i pins s σ H E I m st q;subst J C A;obtain⟨xs,x,l,F⟩:=q;obtain⟨y,B,p,Q⟩:=I.list l;obtain⟨u,S,U⟩:=B.get F;obtain⟨r,t,T,L,G,D⟩:=m it (by simp);refine wpAny_pyNext_list_item st p.isList (x:=u) (by simpa using S) fun h' j Y=>?_;have N:eM X pins σ H {s with heap:=h'}:=I.turned (t':=s.toks) (fun b o g e=>(Y.2 b g).trans e) r t L G D;obtain⟨o,e,c,d⟩:=id j;exact⟨u,rfl,tj (s:={s with heap:=h'}) e c d (by decide) ⟨x,H,N,U,⟨rfl,fun ys R=>by rw[I.Jj R l];exact F⟩,j,fun b g=>(m b g).1⟩⟩
 done:=by
  intro X J C A M i pins s σ H E I m st q;subst J C A;obtain⟨xs,l,F⟩:=q;obtain⟨y,B,p,Q⟩:=I.list l;obtain⟨r,t,T,L,G,D⟩:=m it (by simp);have Z:=B.length;exact wpAny_pyNext_list_end (I.ok.hd M) st p.isList (by simp;lia) fun h' O=>⟨rfl,I.turned (t':=s.toks) (fun b o g e=>O b o g e) r t L G D⟩
 self:=fun _ _ _ _ _ st h=>wpAny_pyIter_listiter st h
theorem ui (it:Addr)(lo:Int)(n:Nat):si P w K tg (EJ lo n) [it] it (fun i h=>IsRangeIter h it (lo+(i:Nat)*1) ((n:Int)-(i:Nat)) 1) where
 mem:=by simp
 obj:=fun i h st b a=>by
  have e:b=it:=by simpa using a
  subst e
  exact⟨_,st,fun v z=>by
   have C:Data.fields _=Data.cell v:=z
   cases C⟩
 keep:=fun i h h' st k=>k it (by simp) _ st
 item:=by
  intro X y q p B i pins s σ H E I g st j;subst y q p;obtain⟨l,m,J,A,x,r⟩:=g it (by simp);have W:=Walks.range (prog:=X.prog) (w:=X.w) (I.ok.hd B) it lo 1 n;refine W.item i s _ _ j st fun v h' tk L d F=>?_;obtain⟨t,rfl⟩:=L;have D:eM X pins σ H {s with heap:=h',toks:=tk}:=I.turned (fun b o a e=>F b o (by simpa using a) e) l m A x r;refine⟨_,rfl,tj (s:={s with heap:=h',toks:=tk}) (n:="range_iterator") d rfl rfl (by decide) ⟨.int (lo+i),H,D,⟨t,?_⟩,⟨rfl,rfl⟩,d,fun b a=>(g b a).1⟩⟩;rw[Int.mul_one]
 done:=by
  intro X y q p B i pins s σ H E I g st j;subst y q p;obtain⟨l,m,J,A,x,r⟩:=g it (by simp);exact wpAny_pyNext_range_end (I.ok.hd B) st (by have:n≤i:=j;lia) fun h' G=>⟨rfl,I.turned (t':=s.toks) (fun b o a e=>G b o a e) l m A x r⟩
 self:=fun _ _ _ _ _ st h=>wpAny_pyIter_rangeiter st h
inductive A0 (K:W.Frag)(R:It→Hp→Prop)(x:V)(H1:Hp):Prop
 |mk (a:_)(_:x=.ref a)(_:(∃xs,eX K H1 a xs))(_:R (EK K a) H1):A0 K R x H1
def FR (K:W.Frag)(tl:TE):TI:=fun σ H R=>tl σ H fun x H1=>A0 K R x H1
theorem fh {l:Expr}{tl:TE}(i:PE X l tl):PI X tg l (FR X.K tl):=by
 intro pins s σ H R I h;refine fG (i pins s σ H _ I h) ?_;rintro v d ⟨x,H1,g,j,w⟩;obtain⟨a,e,⟨xs,r⟩,q⟩:=w;subst e;cases j;obtain⟨t,y,p,z⟩:=g.list r;refine wpAny_pyIter_list p.isList ?_;refine⟨d.heap.objs.size,[d.heap.objs.size],_,_,H1,rfl,g.kept (t':=d.toks) fun b o e=>aC _ e,wU a _,⟨_,aT _ rfl,rfl,rfl⟩,fun b m=>?_,q⟩
 have e:b=d.heap.objs.size:=by simpa using m
 subst e;exact g.Jm (aq _) (g.hok.fresh (aq _))
theorem yX {R:It→Hp→Prop}{lo hi:Int}{t u v:Tok}{tk:Nat}(I:eM X pins σ H s)(h1:-(2^62)≤lo)(h2:lo<2^62)(h:-(2^62)≤hi)(g:hi<2^62)(q:R (EJ lo (hi-lo).toNat) H):wpAny (model X.prog X.w) X.A (pyIter (.ref s.heap.objs.size)) (GN X pins σ tg R) E {s with heap:=s.heap.push {cls:=.type "range",data:=.fields #[.int lo t,.int hi u,.int 1 v]},toks:=tk}:=by
 refine wpAny_pyIter_range (IsRange.new ..) (small_one h1 h2 h g) ?_;have a:eM X pins σ H {s with heap:=s.heap.push {cls:=.type "range",data:=.fields #[.int lo t,.int hi u,.int 1 v]},toks:=tk}:=I.kept fun b o e=>aC _ e;refine⟨(s.heap.push {cls:=.type "range",data:=.fields #[.int lo t,.int hi u,.int 1 v]}).objs.size,[(s.heap.push {cls:=.type "range",data:=.fields #[.int lo t,.int hi u,.int 1 v]}).objs.size],_,_,H,rfl,a.kept (t':=tk) fun b o e=>aC _ e,ui _ lo (hi-lo).toNat,?_,fun b i=>?_,q⟩
 ·have d:lo+((0:Nat):Int)*1=lo:=by simp
  have j:(((hi-lo).toNat:Nat):Int)-((0:Nat):Int)=Builtin.Range.rangeSize lo hi 1:=by rw[rangeSize_one];split <;> lia
  show IsRangeIter _ _ (lo+((0:Nat):Int)*1) ((((hi-lo).toNat:Nat):Int)-((0:Nat):Int)) 1;rw[d,j];exact aT _ rfl
 ·have e:b=(s.heap.push {cls:=.type "range",data:=.fields #[.int lo t,.int hi u,.int 1 v]}).objs.size:=by simpa using i
  subst e;exact a.Jm (aq _) (a.hok.fresh (aq _))
inductive AZ (R:It→Hp→Prop)(vs:List V)(H1:Hp):Prop
 |mk (j:Int)(_:vs=[.int j])(_:-(2^62)≤j)(_:j<2^62)(_:R (EJ 0 j.toNat) H1):AZ R vs H1
def FQ (ta:TA):TI:=fun σ H R=>ta σ H fun vs H1=>AZ R vs H1
theorem me {a:Expr}{ta:TA}(i:Gl X "range")(l:X.mg "range" = none)(m:PA X [a] ta)(hs:starEach [a] X.env=[(false,eval a X.env)]:=by rfl):PI X tg (.Call (.Name "range" p) [a] [] pos) (FQ ta):=by
 intro pins s σ H R I h;refine Call_ (jS I i l boot_range (PyProof.Rows.callWith_type1 (fG (m pos pins s σ H _ I h) ?_) hs rfl));rintro us v ⟨vs,H1,g,d,b⟩;obtain⟨j,e,b,o,q⟩:=b;subst e;cases d with
 |cons r rr=>
  cases rr;obtain⟨t,rfl⟩:=r;exact call_range_1 (yX g (by lia) (by lia) b o (by simpa using q))
def He (wi:TI)(g:TG)(tb:TS):TS:=fun D σ H=>wi σ H fun J H1=>∃W:Nat→Nat→St→Hp→Prop,(∃m,W 0 m σ H1)∧∀i m σ H,W i m σ H→
 (J.stop i H∧D.nx σ H)∨(J.go i H∧∃N:St→Hp→Prop,(∀σ' H',N σ' H'→∃m',m'<m∧W (i+1) m' σ' H')∧∀x H',J.yld i H x H'→g x σ H' fun σ2 H2=>tb {D with nx:=N,ct:=N,bk:=D.nx} σ2 H2)
def oO (fp:List Addr)(h:Heap):List (Addr×Obj):=fp.filterMap fun b=>(h.get? b).map fun o=>(b,o)
theorem jR {o:Obj}(hb:b∈fp)(e:h.get? b=some o):(b,o)∈oO fp h:=List.mem_filterMap.mpr ⟨b,hb,by rw[e];rfl⟩
theorem xG {p:Addr×Obj}(hp:p∈oO fp h):p.1∈fp∧h.get? p.1=some p.2:=by
 obtain⟨b,d,e⟩:=List.mem_filterMap.mp hp;cases q:h.get? b with
 |none=>rw[q]at e;cases e
 |some o=>
  rw[q]at e;have a:(b,o)=p:=Option.some.inj e;subst a;exact⟨d,q⟩
theorem eM.pinned (I:eM X pins σ H s)(hf:∀b∈fp,jB X pins H b)(ho:∀b∈fp,∃o,s.heap.get? b=some o∧∀v,o.data≠.cell v):eM X (pins++oO fp s.heap) σ H s:=
 I.Jg fun p hp=>(ay.mp hp).elim (fun z=>I.pin p (aI _ z)) fun z=>by
  obtain⟨hb,e⟩:=xG z;obtain⟨f0,f1,f2,_⟩:=hf p.1 hb;obtain⟨o,e',d⟩:=ho p.1 hb;rw[e]at e';cases e';exact⟨e,f0,f1,f2,d⟩
theorem eM.Jn {pl:List (Addr×Obj)}(I:eM X (pins++pl) σ H s):eM X pins σ H s:=I.Jg fun p hp=>I.pin p (aI _ (aJ _ hp))
theorem fN {iter:Expr}{wi:TI}(hp:PassesOwn (model X.prog X.w) X.A X.env X.xe)(U:X.calm=true)(hi:PI X tg iter wi)(hg:PG X tg g)(a:lW X body tb)(hs:∀x,foldedSetIterable iter X.env x=pure x:=by intro _;rfl):PS X (.For tg iter body [] pos) (He wi g tb):=by
 intro pins s σ H D I h;refine wpAny_For (fG (hi pins s σ H _ I h) fun v s1 h1=>fG h1 fun aa s2 h2=>?_) hs;obtain⟨it,fp,R,J,H2,e,I2,T,F,Q,W,⟨m0,w0⟩,C⟩:=h2;subst e;have l:∀{H':Hp},(∀b∈fp,H' b=none)→∀b∈fp,jB X pins H' b:=fun hn b a=>⟨hn b a,(Q b a).2⟩;refine codeAny_forLoop_any (fun n s'=>∃i σ' H',eM X pins σ' H' s'∧R i s'.heap∧(∀b∈fp,H' b=none)∧W i n σ' H') ?_ m0 ⟨0,σ,H2,I2,F,fun b a=>(Q b a).1,w0⟩;rintro n S ⟨i,σ3,E,P,Fh,z,w3⟩;rcases C i n σ3 E w3 with ⟨stop,qn⟩ | ⟨go,N,hN,step⟩
 ·refine cH hp (fG (T.done X rfl rfl rfl U i pins S σ3 E X.xe P (l z) Fh stop) ?_);rintro r s4 ⟨K,I4⟩;subst K;exact wpAny_execs_nil ⟨σ3,E,I4,qn⟩
 ·refine cH hp (fG (T.item X rfl rfl rfl U i pins S σ3 E X.xe P (l z) Fh go) ?_);rintro r s4 ⟨u,K,h4⟩;subst K;refine cH hp (fG h4 ?_);rintro _ Y ⟨x,O,I5,r5,y5,y,L⟩;have M:=I5.pinned (l L) (T.obj _ _ y);refine cH hp (fG (hg _ Y σ3 O x u _ M r5 (step x O y5)) ?_);rintro _ s6 ⟨σ6,Z,I6,q6⟩;refine cH hp (fG (a _ s6 σ6 Z _ I6 q6) fun f G t=>?_);have p:∀{σ7:St} {q:Hp},eM X (pins++oO fp Y.heap) σ7 q G→N σ7 q→∃m,m<n∧∃i σ' H',eM X pins σ' H' G∧R i G.heap∧(∀b∈fp,H' b=none)∧W i m σ' H':=fun {σ7 q} j B=>by
   obtain⟨m',hm,w7⟩:=hN σ7 q B;refine⟨m',hm,i+1,σ7,q,j.Jn,T.keep _ _ _ y fun b a o e=>(j.pin (b,o) (aI _ (aI _ (jR a e)))).1,fun b a=>?_,w7⟩;obtain⟨o,e,d⟩:=T.obj _ _ y b a;exact(j.pin (b,o) (aI _ (aI _ (jR a e)))).2.1
  cases f with
  |next=>obtain⟨σ7,q,j,B⟩:=t;exact p j B
  |cont=>obtain⟨σ7,q,j,B⟩:=t;exact p j B
  |brk=>obtain⟨σ7,q,j,t⟩:=t;exact⟨σ7,q,j.Jn,t⟩
  |ret v=>obtain⟨x7,σ7,q,j,r7,t⟩:=t;exact⟨x7,σ7,q,j.Jn,r7,t⟩
theorem fR (b:Nat→St→Hp→Prop)(o:b 0 σ H)(h:∀i σ H,i≤xs.length→b i σ H→eX K H a xs)(l:∀i x σ H,xs[i]?=some x→b i σ H→g x σ H fun σ2 H2=>tb {D with nx:=b (i+1),ct:=b (i+1),bk:=D.nx} σ2 H2)(d:∀σ H,b xs.length σ H→D.nx σ H):∃W:Nat→Nat→St→Hp→Prop,(∃m,W 0 m σ H)∧∀i m σ H,W i m σ H→((EK K a).stop i H∧D.nx σ H)∨((EK K a).go i H∧∃N:St→Hp→Prop,(∀σ' H',N σ' H'→∃m',m'<m∧W (i+1) m' σ' H')∧∀x H',(EK K a).yld i H x H'→g x σ H' fun σ2 H2=>tb {D with nx:=N,ct:=N,bk:=D.nx} σ2 H2):=by
 refine⟨fun i m σ H=>m=xs.length-i∧i≤xs.length∧b i σ H,⟨xs.length,by simp,bp _,o⟩,?_⟩;rintro i m σ H ⟨rfl,hi,p⟩;have q:=h i σ H hi p;by_cases hlt:i<xs.length
 ·refine .inr ⟨⟨xs,xs[i],q,by simp[hlt]⟩,b (i+1),fun σ' H' j=>⟨xs.length-(i+1),by lia,rfl,hlt,j⟩,fun x H' y=>?_⟩;obtain⟨e,y⟩:=y;subst e;exact l i x σ _ (y xs q) p
 ·have e:i=xs.length:=by lia
  subst e;exact .inl ⟨⟨xs,q,aq _⟩,d σ H p⟩
theorem qm {lo:Int}{n:Nat}(a:Nat→St→Hp→Prop)(j:a 0 σ H)(h:∀i σ H,i<n→a i σ H→g (.int (lo+i)) σ H fun σ2 H2=>tb {D with nx:=a (i+1),ct:=a (i+1),bk:=D.nx} σ2 H2)(b:∀σ H,a n σ H→D.nx σ H):∃W:Nat→Nat→St→Hp→Prop,(∃m,W 0 m σ H)∧∀i m σ H,W i m σ H→((EJ lo n).stop i H∧D.nx σ H)∨((EJ lo n).go i H∧∃N:St→Hp→Prop,(∀σ' H',N σ' H'→∃m',m'<m∧W (i+1) m' σ' H')∧∀x H',(EJ lo n).yld i H x H'→g x σ H' fun σ2 H2=>tb {D with nx:=N,ct:=N,bk:=D.nx} σ2 H2):=by
 refine⟨fun i m σ H=>m=n-i∧i≤n∧a i σ H,⟨n,by simp,bp _,j⟩,?_⟩;rintro i m σ H ⟨rfl,hi,p⟩;by_cases hlt:i<n
 ·refine .inr ⟨hlt,a (i+1),fun σ' H' d=>⟨n-(i+1),by lia,rfl,hlt,d⟩,fun x H' y=>?_⟩;obtain⟨e,y⟩:=y;subst e y;exact h i σ _ hlt p
 ·have e:i=n:=by lia
  subst e;exact .inl ⟨aq _,b σ H p⟩
abbrev R2:=V→V→Hp→VK→Prop
def pE (X:Cx)(f:Value→Value→Sem Value)(r:R2):Prop:=
 ∀(pins:List (Addr×Obj)) (s:Shared) (σ:St) (H:Hp) (x y:V) (v u:Value) (Q:VK),eM X pins σ H s→eT x v→eT y u→r x y H Q→
  wpAny (model X.prog X.w) X.A (f v u) (EP X pins σ Q) X.xe s
def GL (X:Cx)(f:Value→Sem Value)(r:V→Hp→VK→Prop):Prop:=
 ∀(pins:List (Addr×Obj)) (s:Shared) (σ:St) (H:Hp) (x:V) (v:Value) (Q:VK),eM X pins σ H s→eT x v→r x H Q→
  wpAny (model X.prog X.w) X.A (f v) (EP X pins σ Q) X.xe s
def ju (X:Cx)(f:Value)(r:List V→Hp→VK→Prop):Prop:=
 ∀(pins:List (Addr×Obj)) (s:Shared) (σ:St) (H:Hp) (xs:List V) (us:List Value) (Q:VK),eM X pins σ H s→fH xs us→r xs H Q→
  wpAny (model X.prog X.w) X.A (call f us) (EP X pins σ Q) X.xe s
def HR (X:Cx)(r:V→Hp→(Bool→Hp→Prop)→Prop):Prop:=
 ∀(pins:List (Addr×Obj)) (s:Shared) (σ:St) (H:Hp) (x:V) (v:Value) (Q:Bool→Hp→Prop),eM X pins σ H s→eT x v→r x H Q→
  wpAny (model X.prog X.w) X.A (truthy v) (TP X pins σ Q) X.xe s
def GB (r:R2)(ta tb:TE):TE:=fun σ H Q=>ta σ H fun x H1=>tb σ H1 fun y H2=>r x y H2 Q
def IA (r:V→Hp→VK→Prop)(ta:TE):TE:=fun σ H Q=>ta σ H fun x H1=>r x H1 Q
inductive Ix (C:Int→Int→Prop)(g:Int→Int→V)(x:V)(y:V)(H:Hp)(Q:VK):Prop
 |mk (i j:_)(_:x=.int i)(_:y=.int j)(_:C i j)(_:Q (g i j) H):Ix C g x y H Q
def rI (C:Int→Int→Prop)(g:Int→Int→V):R2:=fun x y H Q=>Ix C g x y H Q
inductive Gu (g:Int→Int→V)(x:V)(y:V)(H:Hp)(Q:VK):Prop
 |mk (i j:_)(_:x=.int i)(_:y=.int j)(_:Q (g i j) H):Gu g x y H Q
def Bv (g:Int→Int→V):R2:=fun x y H Q=>Gu g x y H Q
inductive Iw (g:Int→V)(x:V)(H:Hp)(Q:VK):Prop
 |mk (i:_)(_:x=.int i)(_:Q (g i) H):Iw g x H Q
def rU (g:Int→V):V→Hp→VK→Prop:=fun x H Q=>Iw g x H Q
section
variable {a b c:Expr}{tb tc:TE}
theorem EE (m:PE X a ta)(i:PE X b tb){R:V→V→Hp→Prop}(I:eM X pins σ H s)(h:ta σ H fun x H1=>tb σ H1 fun y H2=>R x y H2){Q:Value→Shared→Prop}{f:Value→Value→Sem Value}(d:∀v u s2 x y H2,eM X pins σ H2 s2→eT x v→eT y u→R x y H2→wpAny (model X.prog X.w) X.A (f v u) Q X.xe s2):wpAny (model X.prog X.w) X.A (eval a X.env) (fun v s₁=>wpAny (model X.prog X.w) X.A (eval b X.env) (fun u s₂=>wpAny (model X.prog X.w) X.A (f v u) Q X.xe s₂) X.xe s₁) X.xe s:=by
 refine fG (m pins s σ H _ I h) ?_;rintro v g ⟨x,H1,j,e,o⟩;refine fG (i pins g σ H1 _ j o) ?_;rintro u s2 ⟨y,H2,p,l,q⟩;exact d v u s2 x y H2 p e l q
theorem eW {op:Operator}(d:pE X (binaryOp op) r)(l:PE X a ta)(g:PE X b tb):PE X (.BinOp a op b pos) (GB r ta tb):=by
 intro pins s σ H Q I h;exact wpAny_BinOp (EE l g I h fun v u j x y H2 m e i q=>d pins j σ H2 x y v u Q m e i q)
theorem iY {op:UnaryOp}{r:V→Hp→VK→Prop}(b:GL X (unaryOp op) r)(d:PE X a ta):PE X (.UnaryOp op a pos) (IA r ta):=by
 intro pins s σ H Q I h;exact UnaryOp_ (fG (d pins s σ H _ I h) (by rintro v i ⟨x,H1,j,e,g⟩;exact b pins i σ H1 x v Q j e g))
theorem GD {f:Value→Value→Sem Value}{C:Int→Int→Prop}{g:Int→Int→Int}(a:∀(i j:Int) (t u:Tok) (s:Shared) (Q:Value→Shared→Prop) (E:Value→Shared→Prop),C i j→Q (.int (g i j) s.toks) {s with toks:=s.toks+1}→wpAny (model X.prog X.w) X.A (f (.int i t) (.int j u)) Q E s):pE X f (rI C fun i j=>.int (g i j)):=by
 intro pins s σ H x y v u Q I b d h;obtain⟨i,j,rfl,rfl,e,q⟩:=h;obtain⟨t,rfl⟩:=b;obtain⟨t',rfl⟩:=d;exact a i j t t' s _ _ e ⟨.int (g i j),H,I.tok _,⟨_,rfl⟩,q⟩
theorem BK {f:Value→Value→Sem Value}{g:Int→Int→Int}(a:∀(i j:Int) (t u:Tok) (s:Shared) (Q:Value→Shared→Prop) (E:Value→Shared→Prop),Q (.int (g i j) s.toks) {s with toks:=s.toks+1}→wpAny (model X.prog X.w) X.A (f (.int i t) (.int j u)) Q E s):pE X f (Bv fun i j=>.int (g i j)):=by
 intro pins s σ H x y v u Q I b d h;obtain⟨i,j,rfl,rfl,q⟩:=h;obtain⟨t,rfl⟩:=b;obtain⟨t',rfl⟩:=d;exact a i j t t' s _ _ ⟨.int (g i j),H,I.tok _,⟨_,rfl⟩,q⟩
theorem D0 {f:Value→Value→Sem Value}{g:Int→Int→Bool}(a:∀(i j:Int) (t u:Tok) (s:Shared) (Q:Value→Shared→Prop) (E:Value→Shared→Prop),Q (.bool (g i j)) s→wpAny (model X.prog X.w) X.A (f (.int i t) (.int j u)) Q E s):pE X f (Bv fun i j=>.bl (g i j)):=by
 intro pins s σ H x y v u Q I b d h;obtain⟨i,j,rfl,rfl,q⟩:=h;obtain⟨t,rfl⟩:=b;obtain⟨t',rfl⟩:=d;exact a i j t t' s _ _ ⟨.bl (g i j),H,I,rfl,q⟩
def Ic (i j:Int):Prop:=0<j∧j<1073741824
def HZ (i j:Int):Prop:=0≤j∧j≤1000000∧i.natAbs<2^64
def EO (i j:Int):Prop:=(-(2^64)<i∧i<2^64)∨(-(2^64)<j∧j<2^64)
theorem EO.ok {i j:Int}(h:EO i j):IntMulOk i j:=by
 rcases h with ⟨h1,h2⟩ | ⟨h1,h2⟩
 ·exact .of_left (intBits_le_64 h1 h2)
 ·exact .of_right (intBits_le_64 h1 h2)
theorem lg:pE X (binaryOp .Add) (Bv fun i j=>.int (i+j)):=BK fun _ _ _ _ _ _ _ q=>add_int q
theorem zm:pE X (binaryOp .Sub) (Bv fun i j=>.int (i-j)):=BK fun _ _ _ _ _ _ _ q=>sub_int q
theorem rM:pE X (binaryOp .Mult) (rI EO fun i j=>.int (i*j)):=GD fun _ _ _ _ _ _ _ hc q=>mul_int q hc.ok
theorem iR:pE X (binaryOp .FloorDiv) (rI Ic fun i j=>.int (i / j)):=GD fun i j _ _ _ _ _ hc q=>by
 have h1:(0:Int)<j:=hc.1;have h2:j<1073741824:=hc.2;exact floordiv_int (by lia) (by rw[Int.fdiv_eq_ediv_of_nonneg i (by lia)];exact q) (.inl (PyProof.noPylong_small (by lia)))
theorem jP:pE X (binaryOp .Mod) (rI (fun _ j=>0<j) fun i j=>.int (i % j)):=GD fun i j _ _ _ _ _ hc q=>by
 have h1:(0:Int)<j:=hc;exact mod_int' (by lia) (by rw[Int.fmod_eq_emod_of_nonneg i (by lia)];exact q)
theorem uL:pE X (binaryOp .Pow) (rI HZ fun i j=>.int (i^j.toNat)):=GD fun _ _ _ _ _ _ _ hc q=>pow_int_small hc.1 hc.2.1 hc.2.2 q
theorem gM:pE X (binaryOp .BitAnd) (Bv fun i j=>.int (Builtin.bitAnd i j)):=BK fun _ _ _ _ _ _ _ q=>and_int q
theorem qf:pE X (binaryOp .BitOr) (Bv fun i j=>.int (Builtin.bitOr i j)):=BK fun _ _ _ _ _ _ _ q=>or_int q
theorem Id {f:Value→Sem Value}{g:Int→Int}(a:∀(i:Int) (t:Tok) (s:Shared) (Q:Value→Shared→Prop) (E:Value→Shared→Prop),Q (.int (g i) s.toks) {s with toks:=s.toks+1}→wpAny (model X.prog X.w) X.A (f (.int i t)) Q E s):GL X f (rU fun i=>.int (g i)):=by
 intro pins s σ H x v Q I b h;obtain⟨i,rfl,q⟩:=h;obtain⟨t,rfl⟩:=b;exact a i t s _ _ ⟨.int (g i),H,I.tok _,⟨_,rfl⟩,q⟩
theorem jM:GL X (unaryOp .USub) (rU fun i=>.int (-i)):=Id fun _ _ _ _ _ q=>neg_int q
theorem jW:GL X (unaryOp .Invert) (rU fun i=>.int (Builtin.bitNot i)):=Id fun _ _ _ _ _ q=>invert_int q
end
def Fi:V→V→Bool
 |.non,.non=>true | .non,.int _=>true | .int _,.non=>true | .non,.bl _=>true | .bl _,.non=>true | .non,.str _=>true | .str _,.non=>true
 |.int _,.int _=>true | .bl _,.bl _=>true | .str _,.str _=>true | .byt _,.byt _=>true
 |.int _,.str _=>true | .str _,.int _=>true | .bl _,.str _=>true | .str _,.bl _=>true
 |_,_=>false
def IH:R2:=fun x y H Q=>Fi x y=true∧Q (.bl (decide (x=y))) H
def IG:R2:=fun x y H Q=>Fi x y=true∧Q (.bl (!decide (x=y))) H
theorem wb {i j:Int}:decide (V.int i=V.int j)=(i == j):=by
 rw[cN];simp
theorem Ah {i j:Bool}:decide (V.bl i=V.bl j)=(i == j):=by
 rw[cN];simp
theorem v9 {i j:Str}:decide (V.str i=V.str j)=(i == j):=by
 rw[cN];simp
theorem wc {i j:Array UInt8}:decide (V.byt i=V.byt j)=(i.toList == j.toList):=by
 rw[cN];cases i;cases j;simp
section
variable {a b c:Expr}{tb tc:TE}
theorem fO {Q:VK}{k k':Bool}(I:eM X pins σ H s)(q:Q (.bl k) H)(e:k=k'):EP X pins σ Q (.bool k') s:=by
 subst e;exact⟨.bl k,H,I,rfl,q⟩
theorem lN:pE X (compareOp .Eq) IH:=by
 intro pins s σ H x y v u Q I d a h;obtain⟨b,q⟩:=h;cases x with
 |non=>
  cases d;cases y with
  |non=>cases a;exact PySem.EqNone.eq_none_none (fO I q (by simp))
  |bl j=>cases a;exact PySem.EqNone.eq_none_bool (fO I q (by simp))
  |int j=>obtain⟨t',rfl⟩:=a;exact PySem.EqNone.eq_none_int (fO I q (by simp))
  |str j=>obtain⟨t',rfl⟩:=a;exact PySem.EqNone.eq_none_str (fO I q (by simp))
  |_=>exact absurd (show false=true from b) aP
 |bl i=>
  cases d;cases y with
  |non=>cases a;exact PySem.EqNone.eq_bool_none (fO I q (by simp))
  |bl j=>cases a;exact eq_bool (fO I q Ah)
  |str j=>obtain⟨t',rfl⟩:=a;exact PySem.EqMixed.eq_bool_str (fO I q (by simp))
  |_=>exact absurd (show false=true from b) aP
 |int i=>
  obtain⟨t,rfl⟩:=d;cases y with
  |non=>cases a;exact PySem.EqNone.eq_int_none (fO I q (by simp))
  |int j=>obtain⟨t',rfl⟩:=a;exact eq_int (fO I q wb)
  |str j=>obtain⟨t',rfl⟩:=a;exact PySem.EqMixed.eq_int_str (fO I q (by simp))
  |_=>exact absurd (show false=true from b) aP
 |str i=>
  obtain⟨t,rfl⟩:=d;cases y with
  |non=>cases a;exact PySem.EqNone.eq_str_none (fO I q (by simp))
  |bl j=>cases a;exact PySem.EqMixed.eq_str_bool (fO I q (by simp))
  |int j=>obtain⟨t',rfl⟩:=a;exact PySem.EqMixed.eq_str_int (fO I q (by simp))
  |str j=>obtain⟨t',rfl⟩:=a;exact eq_str (fO I q v9)
  |_=>exact absurd (show false=true from b) aP
 |byt i=>
  obtain⟨t,rfl⟩:=d;cases y with
  |byt j=>obtain⟨t',rfl⟩:=a;exact W.eq_bytes (fO I q wc)
  |_=>exact absurd (show false=true from b) aP
 |_=>cases y <;> exact absurd (show false=true from b) aP
theorem CP:pE X (compareOp .NotEq) IG:=by
 intro pins s σ H x y v u Q I d a h;obtain⟨b,q⟩:=h;cases x with
 |non=>
  cases d;cases y with
  |non=>cases a;exact PySem.EqNone.ne_none_none (fO I q (by simp))
  |bl j=>cases a;exact PySem.EqNone.ne_none_bool (fO I q (by simp))
  |int j=>obtain⟨t',rfl⟩:=a;exact PySem.EqNone.ne_none_int (fO I q (by simp))
  |str j=>obtain⟨t',rfl⟩:=a;exact PySem.EqNone.ne_none_str (fO I q (by simp))
  |_=>exact absurd (show false=true from b) aP
 |bl i=>
  cases d;cases y with
  |non=>cases a;exact PySem.EqNone.ne_bool_none (fO I q (by simp))
  |bl j=>cases a;exact ne_bool (fO I q (congrArg not Ah))
  |str j=>obtain⟨t',rfl⟩:=a;exact PySem.EqMixed.ne_bool_str (fO I q (by simp))
  |_=>exact absurd (show false=true from b) aP
 |int i=>
  obtain⟨t,rfl⟩:=d;cases y with
  |non=>cases a;exact PySem.EqNone.ne_int_none (fO I q (by simp))
  |int j=>obtain⟨t',rfl⟩:=a;exact ne_int (fO I q (congrArg not wb))
  |str j=>obtain⟨t',rfl⟩:=a;exact PySem.EqMixed.ne_int_str (fO I q (by simp))
  |_=>exact absurd (show false=true from b) aP
 |str i=>
  obtain⟨t,rfl⟩:=d;cases y with
  |non=>cases a;exact PySem.EqNone.ne_str_none (fO I q (by simp))
  |bl j=>cases a;exact PySem.EqMixed.ne_str_bool (fO I q (by simp))
  |int j=>obtain⟨t',rfl⟩:=a;exact PySem.EqMixed.ne_str_int (fO I q (by simp))
  |str j=>obtain⟨t',rfl⟩:=a;exact ne_str (fO I q (congrArg not v9))
  |_=>exact absurd (show false=true from b) aP
 |byt i=>
  obtain⟨t,rfl⟩:=d;cases y with
  |byt j=>obtain⟨t',rfl⟩:=a;exact W.ne_bytes (fO I q (congrArg not wc))
  |_=>exact absurd (show false=true from b) aP
 |_=>cases y <;> exact absurd (show false=true from b) aP
theorem zn:pE X (compareOp .Lt) (Bv fun i j=>.bl (decide (i<j))):=D0 fun _ _ _ _ _ _ _ q=>lt_int q
theorem vQ:pE X (compareOp .LtE) (Bv fun i j=>.bl (decide (i≤j))):=D0 fun _ _ _ _ _ _ _ q=>le_int q
theorem zo:pE X (compareOp .Gt) (Bv fun i j=>.bl (decide (j<i))):=D0 fun _ _ _ _ _ _ _ q=>gt_int q
theorem gJ (b:Expr)(h:op≠.In:=by decide)(h2:op≠.NotIn:=by decide):behindInMarks op b=false:=by
 have d:(op == CmpOp.In)=false:=by cases op <;> first | rfl | exact absurd rfl h
 have a:(op == CmpOp.NotIn)=false:=by cases op <;> first | rfl | exact absurd rfl h2
 cases b <;> simp[behindInMarks,d,a]
theorem nF (d:pE X (compareOp op) r)(m:PE X a ta)(g:PE X b tb)(j:behindInMarks op b=false):PE X (.Compare a [op] [b] pos) (GB r ta tb):=by
 intro pins s σ H Q I h;exact wpAny_Compare1 (EE m g I h fun v u l x y H2 o e i q=>d pins l σ H2 x y v u Q o e i q) j
inductive AN (Q:Bool→Hp→Prop)(x:V)(H':Hp):Prop
 |mk (k:_)(_:x=.bl k)(_:Q k H'):AN Q x H'
def E1 (t:TE):TT:=fun σ H Q=>t σ H fun x H'=>AN Q x H'
theorem gu (g:pE X (compareOp op) r)(A:PE X a ta)(l:PE X b tb)(q:behindInMarks op b=false):PT X (.Compare a [op] [b] pos) (E1 (GB r ta tb)):=by
 intro pins s σ H Q I h;refine wpAny_isTrue_Compare1 (fG (A pins s σ H _ I h) fun v j ⟨x,H1,m,i,B⟩=>fG (l pins j σ H1 _ m B) fun u w ⟨y,H2,D,p,E⟩=>fG (g pins w σ H2 x y v u _ D i p E) fun c F ⟨z,o,t,d,k,e,C⟩=>?_) q;subst e;cases d;exact bN ⟨o,t,C⟩
inductive wQ (r':R2)(tc:TE)(σ:St)(Q:VK)(y:V)(z:V)(H3:Hp):Prop
 |mk (k:_)(_:z=.bl k)(_:(if k=true then tc σ H3 fun w' H4=>r' y w' H4 Q else Q (.bl false) H3)):wQ r' tc σ Q y z H3
def DG (r r':R2)(ta tb tc:TE):TE:=fun σ H Q=>ta σ H fun x H1=>tb σ H1 fun y H2=>r x y H2 fun z H3=>wQ r' tc σ Q y z H3
theorem zh {op':CmpOp}{r':R2}(L:pE X (compareOp op) r)(g:pE X (compareOp op') r')(P:PE X a ta)(A:PE X b tb)(J:PE X c tc)(hm:lastMarks [op,op'] [b,c]=false:=by with_unfolding_all rfl):PE X (.Compare a [op,op'] [b,c] pos) (DG r r' ta tb tc):=by
 intro pins s σ H Q I h;refine Compare_chain (fG (P pins s σ H _ I h) fun v N ⟨x,H1,C,t,G⟩=>chain_link (fG (A pins N σ H1 _ C G) fun u F ⟨y,H2,K,m,R⟩=>fG (L pins F σ H2 x y v u _ K t m R) fun d O ⟨z,i,j,q,k,e,l⟩=>?_)) hm;subst e;cases q;refine bN ?_;cases k with
 |false=>exact ite_ff ⟨.bl false,i,j,rfl,l⟩
 |true=>exact ite_tt (chain_last (fG (J pins O σ i _ j l) (by rintro p o ⟨B,E,w,D,M⟩;exact g pins o σ E y B u p Q w m D M)))
def F0 (K:W.Frag)(x:V)(H:Hp)(k:Bool):Prop:=
 match x with
 |.non=>k=false
 |.bl b=>k=b
 |.int i=>k=(i != 0)
 |.str y=>y.length≤sizeLine∧k=((y.length:Int) != 0)
 |.byt y=>y.size≤sizeLine∧k=((y.size:Int) != 0)
 |.ref p=>(∃xs,eX K H p xs∧k=!xs.isEmpty)∨(∃xs,ia K H p xs∧k=!xs.isEmpty)∨∃kvs,H p=some (.dK kvs)∧k=!kvs.isEmpty
 |_=>False
theorem oZ {κ:Type}{kvs:List (κ×V)}{vs:List (κ×Value)}(r:KV kvs vs):(!vs.isEmpty)=!kvs.isEmpty:=by
 cases r <;> rfl
theorem oY {its:List Value}(r:fH xs its):(!its.toArray.isEmpty)=!xs.isEmpty:=by
 cases r <;> simp
theorem rT:(sizeLine:Nat)<2^63:=by rw[ce];decide
theorem yy:HR X (fun x H Q=>∃k,F0 X.K x H k∧Q k H):=by
 intro pins s σ H x v Q I g h;obtain⟨k,e,q⟩:=h;have z:=rT;have A:sizeLine=16777216:=ce;cases x with
 |non=>
  cases g;have a:k=false:=e;subst a;exact truthy_none ⟨H,I,q⟩
 |bl b=>
  cases g;have a:k=b:=e;subst a;exact bN ⟨H,I,q⟩
 |int i=>
  obtain⟨t,rfl⟩:=g;have a:k=(i != 0):=e;subst a;exact PySem.P.truthy_int ⟨H,I,q⟩
 |str y=>
  obtain⟨t,rfl⟩:=g;obtain⟨hy,a⟩:y.length≤sizeLine∧k=((y.length:Int) != 0):=e;subst a;exact PySem.P.truthy_str (by lia) ⟨H,I.tok _,q⟩
 |byt y=>
  obtain⟨t,rfl⟩:=g;obtain⟨hy,a⟩:y.size≤sizeLine∧k=((y.size:Int) != 0):=e;subst a;exact W.truthy_bytes (by lia) ⟨H,I.tok _,q⟩
 |ref p=>
  cases g;have a:(∃xs,eX X.K H p xs∧k=!xs.isEmpty)∨(∃xs,ia X.K H p xs∧k=!xs.isEmpty)∨∃kvs,H p=some (.dK kvs)∧k=!kvs.isEmpty:=e;rcases a with ⟨xs,j,a⟩ | ⟨xs,j,a⟩ | ⟨kvs,j,a⟩
  ·subst a;obtain⟨l,r,pl,o⟩:=I.list j;have d:=r.length;exact wpAny_truthy_list pl.isList (by simp only[aO];lia) ⟨H,I.tok _,by rw[oY r];exact q⟩
  ·subst a;obtain⟨l,r,pl,o⟩:=I.tuple j;have d:=r.length;exact truthy_tuple pl (by simp only[aO];lia) ⟨H,I.tok _,by rw[oY r];exact q⟩
  ·subst a;obtain⟨o,hS,vs,r,m⟩:kvs.length≤sizeLine∧(p == sysModules)=false∧∃vs,KV kvs vs∧s.heap.DictOf (fg X.prog X.w) p vs:=I.hok p _ j;have d:kvs.length=vs.length:=Paired.length r;exact wpAny_truthy_dict hS m (by lia) ⟨H,I.tok _,by rw[oZ r];exact q⟩
 |_=>exact(show False from e).elim
theorem iw (d:PE X a ta)(b:∀whole,isTrue a X.env whole=(do let v ←whole;standAt a.pos;holding [v] (truthy v))):PT X a (fun σ H Q=>ta σ H fun x H'=>∃k,F0 X.K x H' k∧Q k H'):=by
 intro pins s σ H Q I h;exact isTrue_plain (fG (d pins s σ H _ I h) (by rintro v i ⟨x,H1,j,e,g⟩;exact yy pins i σ H1 x v Q j e g)) (b _)
theorem jm {x:V}(r:fH [x] us):∃u,us=[u]∧eT x u:=by
 cases r with
 |cons r1 r2=>cases r2;exact⟨_,rfl,r1⟩
theorem vE {x:V}(r:fH [x,y] us):∃u w',us=[u,w']∧eT x u∧eT y w':=by
 cases r with
 |cons r1 r2=>
  cases r2 with
  |cons r3 r4=>cases r4;exact⟨_,_,rfl,r1,r3⟩
theorem qt (a:X.calm=true):ju X (.builtin "max") (fun xs H Q=>∃i j,xs=[.int i,.int j]∧Q (.int (if j>i then j else i)) H):=by
 intro pins s σ H xs us Q I r h;obtain⟨i,j,rfl,q⟩:=h;obtain⟨u,b,rfl,⟨t,rfl⟩,⟨t',rfl⟩⟩:=vE r;refine max_two_ints (I.ok.hd a) fun h' tk k=>⟨_,H,I.kept k,?_,q⟩;by_cases hj:j>i
 ·rw[if_pos hj,if_pos hj];exact⟨_,rfl⟩
 ·rw[if_neg hj,if_neg hj];exact⟨_,rfl⟩
theorem qr (a:X.calm=true):ju X (.builtin "min") (fun xs H Q=>∃i j,xs=[.int i,.int j]∧Q (.int (if j<i then j else i)) H):=by
 intro pins s σ H xs us Q I r h;obtain⟨i,j,rfl,q⟩:=h;obtain⟨u,b,rfl,⟨t,rfl⟩,⟨t',rfl⟩⟩:=vE r;refine min_two_ints (I.ok.hd a) fun h' tk k=>⟨_,H,I.kept k,?_,q⟩;by_cases hj:j<i
 ·rw[if_pos hj,if_pos hj];exact⟨_,rfl⟩
 ·rw[if_neg hj,if_neg hj];exact⟨_,rfl⟩
end
structure vz (h:Heap)(x dx C:Addr)(mA:Str→Option Value):Prop where
 obj:h.get? x=some (W.instObj C dx)
 ns:h.Ns1 dx mA
 ne:dx≠x
theorem xP (n:h.Ns1 dx mA):∃od,h.get? dx=some od∧∀name,W.lookIn name od=some (mA name):=by
 obtain⟨o,es,ep,g,d,l,_,j⟩:=n;refine⟨o,g,fun name=>?_⟩;have e:=j name;unfold nsFind findBy at e;rw[←Array.find?_toList]at e;unfold W.lookIn;rw[d];dsimp only
 split
 ·rename_i y q
  rw[q]at e;exact congrArg some e
 ·rename_i q
  rw[q]at e;have a:es.toList.any (·.refKey)=false:=by
   rw[List.any_eq_false];intro y i;obtain⟨z,t,b⟩:=l y (Array.mem_toList_iff.mp i);simp[DictEntry.refKey,b]
  have m:¬es.toList.any (·.refKey)=true:=by rw[a];exact aP
  rw[if_neg m];exact congrArg some e
theorem vz.look {x:Addr}(I:vz h x dx C mA):∃od,W.InstAt h x (W.instObj C dx) C (some od)∧∀name,W.lookIn name od=some (mA name):=
 let ⟨od,ho,hl⟩:=xP I.ns
 ⟨od,⟨I.obj,rfl,rfl,ho⟩,hl⟩
section
variable {prog:Program}{x f:Addr}{name:Str}{v:Value}
theorem Ck {expr:Bool}(X:K.In s.heap)(I:vz s.heap x dx C mA)(i:W.plainGet K C name=true)(g:W.hasDictIn K C=true)(e:W.findIn K (.ref C) name=some none)(d:mA name=some v)(a:W.handedIn v=true)(h:Q v {s with toks:=s.toks+1}):wpAny (model prog w) A (getAttr (.ref x) name expr) Q E s:=by
 obtain⟨j,J,b⟩:=I.look;exact W.get_value X J (W.plainGet_of i).1 (W.findObj_own g e rfl (by rw[b,d])) a h
theorem zY {Q:Value×List Value→Shared→Prop}(X:K.In s.heap)(I:vz s.heap x dx C mA)(a:W.plainGet K C name=true)(b:W.findIn K (.ref C) name=some (some (.ref f)))(i:W.isFn K (.ref f)=true)(g:mA name=none)(h:Q (.ref f,[.ref x]) s):wpAny (model prog w) A (getMethod (.ref x) name pl) Q E s:=by
 obtain⟨d,J,e⟩:=I.look;exact W.method_fn X J (W.plainGet_of a).1 (W.plainGet_of a).2 b (beq_iff_eq.mp i) (by show(W.lookIn name d).map (·.isSome)=some false;rw[e,g];rfl) h
theorem Bm {ns:List Str}{Q:Unit→Shared→Prop}(X:K.In s.heap)(I:vz s.heap x dx C mA)(q:W.findIn K (.ref C) "__setattr__" = some (some (.builtin "object.__setattr__")))(hp:W.plainOver K C=true)(p:W.takerIn K C name=some none)(o:W.hasDictIn K C=true)(m:PySem.Within mA ns)(hsz:ns.length≤sizeLine)(h:∀h',vz h' x dx C (fun y=>if y=name then some v else mA y)→Heap.SameBut dx s.heap h'→Q () {s with heap:=h',toks:=s.toks+2}):wpAny (model prog w) A (setAttr (.ref x) name v) Q E s:=by
 obtain⟨H,J,F⟩:=I.look;refine W.set_plain X J q (W.osa_open (s:={s with toks:=s.toks+1}) (r:=none) X J hp p fun b=>?_);obtain⟨cd,B,j⟩:=W.any_some o;have t:s.heap.get? x=some ⟨.ref C,some dx,.plain,#[]⟩:=I.obj;refine ac (ar (ac (ac (wpAny_loadPart t (ac (W.Looks.here (s:={s with toks:=s.toks+1}) (W.looks_clsIn X B) ?_))))));rw[j];refine ar (a:=some dx) (ac (ar (ac ?_)));refine wpAny_nsSet1 (s:={s with toks:=s.toks+1}) I.ns fun h' e d=>?_;obtain⟨G,D,z,i,l,g⟩:=e.count (PySem.Within.cons name v m);refine ac (wpAny_lookBehind i (by rw[l];exact pastItsLine_dict (bj g (by rw[aB];lia))) ?_);exact ar (h _ ⟨(d.2 _ (Ne.symm I.ne)).trans I.obj,e,I.ne⟩ d)
theorem zJ {R:Result→Shared→Prop}{vs:List Value}(X:K.In s.heap)(b:W.makesIn K C=true)(hi:W.findIn K (.ref C) "__init__" = some (some (.ref f)))(e:W.typeIn K (.ref f)=some (.type "function"))(h:codeAny (model prog w) (A.under (.builtin "type.__call__" ⟨.ref C::vs,kw⟩)) (.call (.ref f) ⟨.ref (s.heap.objs.size+1)::vs,kw⟩) (W.InitBack (s.heap.objs.size+1) R) {s with heap:=(s.heap.push W.emptyDict).push (W.instObj C s.heap.objs.size)}):codeAny (model prog w) A (.call (.ref C) ⟨vs,kw⟩) R s:=by
 obtain⟨j,g,d,t,i⟩:=s;exact W.make_core (W.makes_of X b) (W.looks_findIn X hi) (fun a=>W.bind_fn X a e) (.inl rfl) h
end
def fM (f:Str)(v:V):List (Str×V)→List (Str×V)
 |[]=>[(f,v)]
 |(g,x)::r=>if g=f then (g,v)::r else (g,x)::fM f v r
theorem ii (f g:Str)(v:V):∀fs:List (Str×V),(fM f v fs).lookup g=if g=f then some v else fs.lookup g
 |[]=>by
  show List.lookup g [(f,v)]=_;by_cases h:g=f
  ·have hb:(g == f)=true:=beq_iff_eq.mpr h;simp only[List.lookup,hb,if_pos h]
  ·have hb:(g == f)=false:=beq_eq_false_iff_ne.mpr h;simp only[List.lookup,hb,if_neg h]
 |(k,x)::r=>by
  have ih:=ii f g v r;rw[show fM f v ((k,x)::r)=(if k=f then (k,v)::r else (k,x)::fM f v r) from rfl];by_cases hk:k=f
  ·rw[if_pos hk];by_cases h:g=k
   ·have hb:(g == k)=true:=beq_iff_eq.mpr h;simp only[List.lookup,hb,if_pos (h.trans hk)]
   ·have hb:(g == k)=false:=beq_eq_false_iff_ne.mpr h;simp only[List.lookup,hb,if_neg (fun e:g=f=>h (e.trans hk.symm))]
  ·rw[if_neg hk];by_cases h:g=k
   ·have hb:(g == k)=true:=beq_iff_eq.mpr h;simp only[List.lookup,hb,if_neg (fun e:g=f=>hk (h.symm.trans e))]
   ·have hb:(g == k)=false:=beq_eq_false_iff_ne.mpr h;simp only[List.lookup,hb];exact ih
theorem ml (f:Str)(v:V):∀fs:List (Str×V),f∈(fM f v fs).map (·.1)∧∀g,g∈fs.map (·.1)→g∈(fM f v fs).map (·.1)
 |[]=>⟨by simp[fM],fun g h=>by simp at h⟩
 |(k,x)::r=>by
  obtain⟨i1,i2⟩:=ml f v r;rw[show fM f v ((k,x)::r)=(if k=f then (k,v)::r else (k,x)::fM f v r) from rfl];by_cases hk:k=f
  ·rw[if_pos hk];subst hk;exact⟨by simp,fun g h=>by simpa using h⟩
  ·rw[if_neg hk];refine⟨?_,fun g h=>?_⟩
   ·rw[aD];exact aZ _ i1
   ·rw[aD]at h ⊢;rcases ak.mp h with e | e
    ·exact ak.mpr (.inl e)
    ·exact aZ _ (i2 g e)
theorem mK (f:Str)(v:V):∀fs:List (Str×V),(fM f v fs).length≤fs.length+1
 |[]=>by simp[fM]
 |(k,x)::r=>by
  have ih:=mK f v r;rw[show fM f v ((k,x)::r)=(if k=f then (k,v)::r else (k,x)::fM f v r) from rfl];by_cases hk:k=f
  ·rw[if_pos hk,aB,aB];lia
  ·rw[if_neg hk,aB,aB];lia
theorem jc.some_of {o:Option Value}(r:jc (some v) o):∃u,o=some u∧eT v u:=by
 cases o with
 |none=>exact(show False from r).elim
 |some u=>exact⟨u,rfl,r⟩
theorem jc.none_of {o:Option Value}(r:jc none o):o=none:=by
 cases o with
 |none=>rfl
 |some u=>exact(show False from r).elim
theorem x3 {u:Value}(r:eT v u):W.handedIn u=true:=by
 cases v with
 |non=>cases (show u=Value.none from r);rfl
 |bl b=>cases (show u=Value.bool b from r);rfl
 |int i=>obtain⟨t,e⟩:=(show ∃t,u=Value.int i t from r);cases e;rfl
 |str x=>obtain⟨t,e⟩:=(show ∃t,u=Value.str x t from r);cases e;rfl
 |byt b=>obtain⟨t,e⟩:=(show ∃t,u=Value.bytes b t from r);cases e;rfl
 |flt b=>obtain⟨t,e⟩:=(show ∃t,u=Value.float b t from r);cases e;rfl
 |ref a=>cases (show u=Value.ref a from r);rfl
 |ty n=>cases (show u=Value.type n from r);rfl
section
variable {fs fs':List (Str×V)}
theorem nM (b:kF P w H h)(e:H a=some (.ins C dx fs)):∃mA,vz h a dx C mA∧(∀f,jc (fs.lookup f) (mA f))∧PySem.Within mA (fs.map (·.1))∧fs.length≤1000∧H dx=some (.own a):=by
 obtain⟨d,z,g,i,mA,n,r,q⟩:=(show fC P w H h a (.ins C dx fs) from b a _ e);exact⟨mA,⟨i,n,g⟩,r,q,z,d⟩
end
structure pV (K:W.Frag)(C:Addr):Prop where
 pg:W.plainGet K C Str.empty=true
 hd:W.hasDictIn K C=true
 po:W.plainOver K C=true
 sa:W.findIn K (.ref C) "__setattr__" = some (some (.builtin "object.__setattr__"))
theorem pV.get (c:pV K C)(f:Str):W.plainGet K C f=true:=c.pg
def fF (K:W.Frag)(C:Addr)(f:Str):Prop:=W.findIn K (.ref C) f=some none
theorem fF.taker {f:Str}(n:fF K C f):W.takerIn K C f=some none:=by
 unfold W.takerIn;rw[show W.findIn K (.ref C) f=some none from n];rfl
structure yh (K:W.Frag)(C:Addr)(m:Str)(f:Addr):Prop where
 at_:W.findIn K (.ref C) m=some (some (.ref f))
 fn:W.isFn K (.ref f)=true
 kp:W.keepIn K (.ref f)=true
section
variable {fs:List (Str×V)}{f:Str}
theorem lq {b:Bool}(I:eM X pins σ H s)(e:H a=some (.ins C dx fs))(c:pV X.K C)(n:fF X.K C f)(l:fs.lookup f=some v)(h:∀u s',eM X pins σ H s'→eT v u→Q u s'):wpAny (model X.prog X.w) A (getAttr (.ref a) f b) Q E s:=by
 obtain⟨mA,O,r,_,_,_⟩:=nM I.hok e;obtain⟨u,g,d⟩:=jc.some_of (v:=v) (o:=mA f) (by rw[←l];exact r f);exact Ck I.kIn O (c.get f) c.hd n g (x3 d) (h u _ (I.tok _) d)
theorem pc {g:Addr}{Q:Value×List Value→Shared→Prop}(I:eM X pins σ H s)(e:H a=some (.ins C dx fs))(c:pV X.K C)(k:yh X.K C m g)(l:fs.lookup m=none)(h:Q (.ref g,[.ref a]) s):wpAny (model X.prog X.w) A (getMethod (.ref a) m pl) Q E s:=by
 obtain⟨mA,O,r,_,_,_⟩:=nM I.hok e;have b:mA m=none:=jc.none_of (by rw[←l];exact r m);exact zY I.kIn O (c.get m) k.at_ k.fn b h
theorem kZ {u:Value}{Q:Unit→Shared→Prop}(I:eM X pins σ H s)(e:H a=some (.ins C dx fs))(c:pV X.K C)(n:fF X.K C f)(v:fs.length<1000)(l:eT y u)(h:∀s',eM X pins σ (upd H a (.ins C dx (fM f y fs))) s'→Q () s'):wpAny (model X.prog X.w) A (setAttr (.ref a) f u) Q E s:=by
 obtain⟨mA,O,r,wi,_,d⟩:=nM I.hok e;have t:(fs.map (·.1)).length≤sizeLine:=by rw[ab,ce];lia
 refine Bm I.kIn O c.sa c.po n.taker c.hd wi t fun h' O' m=>h _ ?_;have hd:∃o,h'.get? dx=some o:=(by obtain⟨o,_,_,p,_⟩:=O'.ns;exact⟨o,p⟩);refine I.write (x:=a) (e:=dx) (by rw[e];exact True.intro) (.inr d) (fun b q i z=>(m.2 b i).trans z) hd ?_;refine⟨by rw[dY O.ne];exact d,?_,O.ne,O'.obj,_,O'.ns,fun g=>?_,fun g j=>?_⟩
 ·have:=mK f y fs;lia
 ·show jc ((fM f y fs).lookup g) (if g=f then some u else mA g);rw[ii];by_cases q:g=f
  ·rw[if_pos q,if_pos q];exact l
  ·rw[if_neg q,if_neg q];exact r g
 ·by_cases q:g=f
  ·rw[q];exact(ml f y fs).1
  ·refine(ml f y fs).2 g (wi g fun z=>j ?_);show(if g=f then some u else mA g)=none;rw[if_neg q];exact z
theorem eM.made (I:eM X pins σ H s):eM X pins σ (upd (upd H s.heap.objs.size (.own (s.heap.objs.size+1))) (s.heap.objs.size+1) (.ins C s.heap.objs.size [])) {s with heap:=(s.heap.push W.emptyDict).push (W.instObj C s.heap.objs.size)}:=by
 have d:(s.heap.push W.emptyDict).get? s.heap.objs.size=some W.emptyDict:=aT s.heap rfl;have m:((s.heap.push W.emptyDict).push (W.instObj C s.heap.objs.size)).get? (s.heap.objs.size+1)=some (W.instObj C s.heap.objs.size):=by
  have:=aT (s.heap.push W.emptyDict) (o:=W.instObj C s.heap.objs.size) rfl;rwa[Heap.size_push]at this
 have h:(s.heap.push W.emptyDict).Ns s.heap.objs.size (fun _=>none):=⟨W.emptyDict,#[],_,d,rfl,(fun e i=>absurd i (by simp)),fun _=>rfl⟩;have l:=I.laid (a:=s.heap.objs.size) (o:=.own (s.heap.objs.size+1)) (h':=s.heap.push W.emptyDict) (t':=s.toks) (fun b u q=>aC _ q) (aq _) ⟨_,d⟩;refine l.laid (a:=s.heap.objs.size+1) (o:=.ins C s.heap.objs.size []) (t':=s.toks) (fun b u q=>aC _ q) (dz (Heap.size_push _ _)) ?_
 have g:s.heap.objs.size≠s.heap.objs.size+1:=aX (cW _);refine⟨by rw[dY g,dW],bp _,g,m,fun _=>none,(Heap.Ns1.of_empty h).at fun o q=>aC _ q,fun _=>True.intro,fun y j=>absurd rfl j⟩
theorem wj {prog:Program}{env:Env}{f:Str}(hb:attributeBase e f env (eval e env)=eval e env)(h:wpAny (model prog w) A (eval e env) (fun o s₁=>wpAny (model prog w) A (getAttr o f true) Q E s₁) E s):wpAny (model prog w) A (eval (.Attribute e f pos) env) Q E s:=
 Attribute_any_ h (by rw[arm_eval_Attribute,hb])
end
inductive Df (K:W.Frag)(f:Str)(Q:VK)(x:V)(H1:Hp):Prop
 |mk (a C dx fs v:_)(_:x=.ref a)(_:H1 a=some (.ins C dx fs))(_:pV K C)(_:fF K C f)(_:fs.lookup f=some v)(_:Q v H1):Df K f Q x H1
def Hf (K:W.Frag)(ta:TE)(f:Str):TE:=fun σ H Q=>ta σ H fun x H1=>Df K f Q x H1
inductive Di (K:W.Frag)(f:Str)(D:lV)(σ:St)(y:V)(x:V)(H2:Hp):Prop
 |mk (a C dx fs:_)(_:x=.ref a)(_:H2 a=some (.ins C dx fs))(_:pV K C)(_:fF K C f)(_:fs.length<1000)(_:D.nx σ (upd H2 a (.ins C dx (fM f y fs)))):Di K f D σ y x H2
def Hv (K:W.Frag)(ta tv:TE)(f:Str):TS:=fun D σ H=>tv σ H fun y H1=>ta σ H1 fun x H2=>Di K f D σ y x H2
def EN (X:Cx)(op:Operator)(rd:V→V→Hp→VK→Prop):Prop:=
 ∀(pins:List (Addr×Obj)) (s:Shared) (σ:St) (H:Hp) (x y:V) (u v:Value) (Q:VK),eM X pins σ H s→eT x u→eT y v→rd x y H Q→wpAny (model X.prog X.w) X.A (inplaceOp op u v) (EP X pins σ Q) X.xe s
section
variable {o value:Expr}{f:Str}{tpos:Pos}{tv:TE}
theorem lb (j:PE X e ta)(g:attributeBase e f X.env (eval e X.env)=eval e X.env):PE X (.Attribute e f pos) (Hf X.K ta f):=by
 intro pins s σ H Q I h;refine wj g (fG (j pins s σ H _ I h) ?_);rintro u p ⟨x,H1,d,b,a,C,dx,fs,v,ex,m,c,n,l,q⟩;subst ex;obtain rfl:u=Value.ref a:=b;exact lq d m c n l fun t r o i=>⟨v,H1,o,i,q⟩
theorem yY (r:PE X o ta)(p:PE X value tv)(j:swapsWith value (some (.Attribute o f pos')) pos.line X.env=pure false):PS X (.Assign [.Attribute o f pos'] value pos) (Hv X.K ta tv f):=by
 intro pins s σ H D I h;refine plainObj_wpAny_Assign_Attribute (fG (p pins s σ H _ I h) ?_) j;rintro u b ⟨y,H1,e,g,q⟩;refine fG (r pins b σ H1 _ e q) ?_;rintro i A ⟨x,H2,v,d,a,C,dx,fs,ex,t,c,n,l,w⟩;subst ex;obtain rfl:i=Value.ref a:=d;exact kZ v t c n l g fun z m=>⟨σ,_,m,w⟩
end
section
variable {c:Value}{b:Bool}
inductive kJ (K:W.Frag)(H:Hp):V→Value→Prop where
 |non:kJ K H .non (.type "NoneType")
 |bl (x:Bool):kJ K H (.bl x) (.type "bool")
 |int (i:Int):kJ K H (.int i) (.type "int")
 |str (x:Str):kJ K H (.str x) (.type "str")
 |flt (x:UInt64):kJ K H (.flt x) (.type "float")
 |lst {a:Addr} {xs:List V} (e:H a=some (.lst xs)):kJ K H (.ref a) (.type "list")
 |frz {a:Addr} {o:Obj} {xs:List V} (e:H a=some (.frz o (.lst xs))):kJ K H (.ref a) (.type "list")
 |tup {a:Addr} {xs:List V} (e:H a=some (.tup xs)):kJ K H (.ref a) (.type "tuple")
 |dK {a:Addr} {kvs:List (fZ×V)} (e:H a=some (.dK kvs)):kJ K H (.ref a) (.type "dict")
 |dT {a:Addr} {kvs:List (List fZ×V)} (e:H a=some (.dT kvs)):kJ K H (.ref a) (.type "dict")
 |ins {a C dx:Addr} {fs:List (Str×V)} (e:H a=some (.ins C dx fs)) (cl:pV K C) (ha:W.findIn K (.ref C) "__class__" = some (some (.builtin "object.__class__")))
   (hn:W.specialIn K (.builtin "object.__class__") "__get__" = some (some (.builtin "getset_descriptor.__get__"))) (htk:W.takesIn K (.builtin "object.__class__")=some true)
   (hm:W.mroIn K C (.type "object")=some true):kJ K H (.ref a) (.ref C)
theorem xW {x:V}{u t:Value}(I:eM X pins σ H s)(d:eT x u)(ty:kJ X.K H x t)(e:W.kitOne X.K t c=some b)(h:∀tk,Q (.bool b) {s with toks:=tk}):wpAny (model X.prog X.w) A (call (.builtin "isinstance") [u,c]) Q E s:=by
 cases ty with
 |non=>cases (show u=Value.none from d);exact dj W.kitx_none I.kIn True.intro e (fun z=>nomatch z) h
 |bl y=>cases (show u=Value.bool y from d);exact dj W.kitx_bool I.kIn True.intro e (fun z=>nomatch z) h
 |int i=>obtain⟨t,q⟩:=(show ∃t,u=Value.int i t from d);cases q;exact dj W.kitx_int I.kIn True.intro e (fun z=>nomatch z) h
 |str y=>obtain⟨t,q⟩:=(show ∃t,u=Value.str y t from d);cases q;exact dj W.kitx_str I.kIn True.intro e (fun z=>nomatch z) h
 |flt y=>obtain⟨t,q⟩:=(show ∃t,u=Value.float y t from d);cases q;exact dj W.kitx_float I.kIn True.intro e (fun z=>nomatch z) h
 |@lst a xs ea=>
  cases (show u=Value.ref a from d);obtain⟨_,_,n,_,h1⟩:=(show fC X.prog X.w H s.heap a (.lst xs) from I.hok a _ ea);exact dj W.kitx_list I.kIn ⟨_,h1,rfl⟩ e (fun z=>nomatch z) h
 |@frz a ob xs ea=>
  cases (show u=Value.ref a from d);obtain⟨_,_,_,n,_,h1⟩:=(show fC X.prog X.w H s.heap a (.frz ob (.lst xs)) from I.hok a _ ea);exact dj W.kitx_list I.kIn ⟨_,h1,rfl⟩ e (fun z=>nomatch z) h
 |@tup a xs ea=>
  cases (show u=Value.ref a from d);obtain⟨_,_,_,p⟩:=(show fC X.prog X.w H s.heap a (.tup xs) from I.hok a _ ea);obtain⟨o,h1,h2,_⟩:=p;exact dj W.kitx_tuple I.kIn ⟨o,h1,h2⟩ e (fun z=>nomatch z) h
 |@dK a kvs ea=>
  cases (show u=Value.ref a from d);obtain⟨_,_,vs,_,p⟩:=(show fC X.prog X.w H s.heap a (.dK kvs) from I.hok a _ ea);obtain⟨o,es,ep,h1,h2,_⟩:=p;exact dj W.kitx_dict I.kIn ⟨o,h1,h2.1⟩ e (fun z=>nomatch z) h
 |@dT a kvs ea=>
  cases (show u=Value.ref a from d);obtain⟨_,_,xs,_,o,es,ep,h1,h2,_⟩:=(show fC X.prog X.w H s.heap a (.dT kvs) from I.hok a _ ea);exact dj W.kitx_dict I.kIn ⟨o,h1,h2.1⟩ e (fun z=>nomatch z) h
 |@ins a C dx fs ea cl ha hn htk hm=>
  cases (show u=Value.ref a from d);obtain⟨mA,O,_⟩:=nM I.hok ea;obtain⟨g,J,_⟩:=O.look;exact dj (W.kitx_own (cl.get _) cl.hd ha hn htk hm) I.kIn J e (fun z=>nomatch z) h
end
structure gE (k:Nat)(A:Around):Prop where
 hd:A.handled=none
 dp:A.depth+3*k+5<recursionLimit
 un:A.units+16*k+200<cLine
theorem gE.mono {k:Nat}(r:gE k A)(h:j≤k):gE j A:=⟨r.hd,by have:=r.dp;lia,by have:=r.un;lia⟩
theorem gE.deeper {k:Nat}(r:gE (k+1) A)(env:Env):gE k (A.deeper env):=
 ⟨r.hd,by have:=r.dp;show A.depth+1+3*k+5<_;lia,by have:=r.un;show A.units+3+16*k+200<_;lia⟩
theorem gE.in1 {k:Nat}(r:gE (k+1) A):gE k A.in1:=
 ⟨r.hd,by have:=r.dp;show A.depth+3*k+5<_;lia,by have:=r.un;show A.units+1+16*k+200<_;lia⟩
theorem u3:(A.under (.builtin "type.__call__" ⟨.ref C::us,kw⟩)).depth=A.depth+1:=by
 first | rfl | simp[Around.under,Code.weight,Code.isCreation,Code.isGuard,Code.isCaller,Code.frames,Code.isFrame,guardIds]
theorem u1:(A.under (.builtin "type.__call__" ⟨.ref C::us,kw⟩)).units=A.units+1:=by
 first | rfl | simp[Around.under,Code.cUnits,Code.frames,Code.isFrame]
theorem gE.make {k:Nat}(r:gE (k+1) A)(C:Addr)(us:List Value)(kw:List (Str×Value)):gE k (A.under (.builtin "type.__call__" ⟨.ref C::us,kw⟩)):=
 ⟨r.hd,by have:=r.dp;rw[u3];lia,by have:=r.un;rw[u1];lia⟩
theorem gE.depth {k:Nat}(r:gE k A):A.depth<recursionLimit:=by have:=r.dp;lia
theorem gE.units {k:Nat}(r:gE k A):A.units+64<cLine:=by have:=r.un;lia
def wW:TA:=fun _ H Q=>Q [] H
def pZ (ta:TE)(tr:TA):TA:=fun σ H Q=>ta σ H fun x H1=>tr σ H1 fun xs H2=>Q (x::xs) H2
theorem ee:PA X [] wW:=fun _ _ _ _ H Q I h=>Calls.spliced_nil ⟨[],H,I,.nil,h⟩
theorem dU (j:PE X e te)(b:PA X es t)(hs:starEach (e::es) X.env=(false,eval e X.env)::starEach es X.env:=by rfl):PA X (e::es) (pZ te t):=by
 intro pos pins s σ H Q I h;rw[hs];show wpAny _ _ (spliced ((false,eval e X.env)::backTo pos (starEach es X.env))) _ _ s;refine Calls.spliced_cons (fG (j pins s σ H _ I h) ?_);rintro u d ⟨x,H1,g,a,l⟩;exact fG (b pos pins d σ H1 _ g l) (by rintro us p ⟨xs,H2,m,i,o⟩;exact⟨x::xs,H2,m,.cons a i,o⟩)
def EZ (t:TA):TE:=fun σ H Q=>t σ H fun xs H1=>xs.length≤sizeLine∧∀p,H1 p=none→Q (.ref p) (upd H1 p (.tup xs))
def GX (t:TA):TE:=fun σ H Q=>t σ H fun xs H1=>xs.length≤sizeLine∧∀p,H1 p=none→Q (.ref p) (upd H1 p (.lst xs))
theorem ge {x1}(h:PA X es t):PE X (.Tuple es x1 pos) (EZ t):=by
 intro pins s σ H Q I i;refine wpAny_Tuple_spliced (fG (h pos pins s σ H _ I i) ?_);rintro us a ⟨xs,H1,d,r,z,q⟩;refine⟨by rw[←r.length];exact z,?_⟩;have g:H1 a.heap.objs.size=none:=d.hok.fresh (aq _);refine⟨.ref a.heap.objs.size,upd H1 a.heap.objs.size (.tup xs),d.laid (t':=a.toks) (fun b u e=>aC _ e) (aq _) ?_,rfl,q _ g⟩
 exact⟨z,us,r,⟨_,aT _ rfl,rfl,_,rfl⟩⟩
theorem gf (h:PA X es t):PE X (.List es pos) (GX t):=by
 intro pins s σ H Q I i;refine wpAny_List_spliced (fG (h pos pins s σ H _ I i) ?_);rintro us a ⟨xs,H1,d,r,z,q⟩;refine⟨by rw[←r.length];exact z,?_⟩;have g:H1 a.heap.objs.size=none:=d.hok.fresh (aq _);refine⟨.ref a.heap.objs.size,upd H1 a.heap.objs.size (.lst xs),d.laid (t':=a.toks) (fun b u e=>aC _ e) (aq _) ?_,rfl,q _ g⟩
 exact⟨z,us,0,r,aT _ rfl⟩
abbrev Sp:=List V→Hp→VK→XK→Prop
abbrev wT:=List Env→Hp→Shared→XK→Value→Shared→Prop
structure vB (P:Program)(w:World)(K:W.Frag)(mg:Str→Option Value)(base:Heap)(A:Around)(outer:List Env)(s:Shared)(H:Hp):Prop where
 frames:A.frames=some outer
 mod:Mod K mg base
 bs:∀b o,base.get? b=some o→s.heap.get? b=some o∧H b=none
 bsz:base.objs.size≤s.heap.objs.size
 funs:s.heap.FunFrames base outer
 frf:∀b∈Ab outer,H b=none
 hok:kF P w H s.heap
 bare:AllBare s.gens
def CE (outer:List Env)(P:Program)(w:World)(H:Hp)(s:Shared)(Q:VK)(u:Value)(s':Shared):Prop:=
 ∃v H',s'.os=s.os∧AllBare s'.gens∧Un (Ab outer) [] H H' s.heap s'.heap∧kF P w H' s'.heap∧eT v u∧Q v H'
def CR (CX:wT)(outer:List Env)(P:Program)(w:World)(H:Hp)(s:Shared)(Q:VK)(E:XK)(r:Result)(s':Shared):Prop:=
 match r with
 |.ok (.ret u)=>CE outer P w H s Q u s'
 |.ok _=>False
 |.error e=>CX outer H s E e s'
structure fb (P:Program)(w:World)(K:W.Frag)(mg:Str→Option Value)(base:Heap)(CX:wT)(k:Nat)(f:Addr)(fd:FuncData)(ps:List Str)(sp:Sp):Prop where
 len:∀vs H Q E,sp vs H Q E→vs.length=ps.length
 run:∀(A:Around) (outer:List Env) (s:Shared) (H:Hp) (args:Args) (us:List Value) (vs:List V) (Q:VK) (E:XK),gE k A→vB P w K mg base A outer s H→BindsTo s fd args (ps.zip us)→fH vs us→sp vs H Q E→
  codeAny (model P w) A (.call (.ref f) args) (CR CX outer P w H s Q E) s
theorem fb.mono {base:Heap}{k:Nat}{f:Addr}(F:fb P w K mg base CX j f fd ps sp)(h:j≤k):fb P w K mg base CX k f fd ps sp:=⟨F.len,fun A outer s H args us vs Q E hr=>F.run A outer s H args us vs Q E (hr.mono h)⟩
theorem vB.make {base:Heap}{outer:List Env}(e:vB P w K mg base A outer s H)(C:Addr)(us:List Value)(kw:List (Str×Value)):vB P w K mg base (A.under (.builtin "type.__call__" ⟨.ref C::us,kw⟩)) outer s H:=⟨by first | exact e.frames | (simpa [Around.under,Code.envs,Code.isFrame,pushEnvs] using e.frames),e.mod,e.bs,e.bsz,e.funs,e.frf,e.hok,e.bare⟩
theorem eM.Jo (I:eM X pins σ H s):vB X.prog X.w X.K X.mg X.base X.A X.stack s H:=
 ⟨I.ok.frames,I.ok.mod,I.bs,bj I.ok.bsz I.sz,I.stack,I.Jf,I.hok,I.bare⟩
theorem eM.after {Q:VK}{u:Value}(I:eM X pins σ H s)(h:CE X.stack X.prog X.w H s Q u s'):EP X pins σ Q u s':=by
 obtain⟨v,H',os,a,un,e,r,q⟩:=h;obtain⟨j,g,d,t,i⟩:=s';obtain rfl:i=s.os:=os;exact⟨v,H',I.call (h':=j) (g':=g) (d':=d) (t':=t) (ch:=[]) un e a (fun b z=>absurd z (by simp)),r,q⟩
def CD (sp:Sp)(dvs:List V)(E:XK)(t:TA):TE:=fun σ H Q=>t σ H fun vs H1=>sp (vs++dvs) H1 Q E
inductive AR (C:Addr)(m:Str)(sp:Sp)(dvs:List V)(E:XK)(t:TA)(σ:St)(Q:VK)(x:V)(H1:Hp):Prop
 |mk (a dx fs:_)(_:x=.ref a)(_:H1 a=some (.ins C dx fs))(_:fs.lookup m=none)(_:t σ H1 fun vs H2=>sp (x::(vs++dvs)) H2 Q E):AR C m sp dvs E t σ Q x H1
def sw (C:Addr)(m:Str)(sp:Sp)(dvs:List V)(E:XK)(ta:TE)(t:TA):TE:=fun σ H Q=>ta σ H fun x H1=>AR C m sp dvs E t σ Q x H1
def Cz (C:Addr)(sp:Sp)(dvs:List V)(E:XK)(t:TA):TE:=fun σ H Q=>t σ H fun vs H1=>∀x dx,H1 x=none→H1 dx=none→dx≠x→
 sp (.ref x::(vs++dvs)) (upd (upd H1 dx (.own x)) x (.ins C dx [])) (fun v H2=>v=.non∧Q (.ref x) H2) E
def gs (K:W.Frag)(fd:FuncData)(ps:List Str)(ds:List Value):Prop:=
 ∀(s:Shared) (us:List Value),K.In s.heap→(us++ds).length=ps.length→BindsTo s fd ⟨us,[]⟩ (ps.zip (us++ds))
theorem gs.all (h:∀us:List Value,us.length=ps.length→bindArgs fd ⟨us,[]⟩=pure (ps.zip us)):gs K fd ps []:=fun s us _ hl=>by
 rw[cf]at hl ⊢;exact .of_eq (h us hl)
def jA (CX:wT)(X:Cx)(E:XK):Prop:=∀(pins:List (Addr×Obj)) (σ:St) (H:Hp) (s:Shared) (e:Value) (s':Shared),eM X pins σ H s→CX X.stack H s E e s'→X.xe e s'
section
variable {k:Nat}{f:Addr}{dvs:List V}{ds:List Value}{E:XK}{apos:Pos}{o:Expr}
theorem uH {Q:VK}(F:fb X.prog X.w X.K X.mg X.base CX k f fd ps sp)(i:gE k X.A)(j:gs X.K fd ps ds)(d:fH dvs ds)(l:jA CX X E)(I:eM X pins σ H s)(r:fH vs us)(h:sp (vs++dvs) H Q E):wpAny (model X.prog X.w) X.A (call (.ref f) us) (EP X pins σ Q) X.xe s:=by
 have b:fH (vs++dvs) (us++ds):=r.append d;have g:(us++ds).length=ps.length:=by rw[←b.length];exact F.len _ _ _ _ h
 refine wpAny_call (codeAny_mono (F.run X.A X.stack s H ⟨us,[]⟩ (us++ds) (vs++dvs) Q E i I.Jo (j s us I.kIn g) b h) fun r s' a=>?_);cases r with
 |error e=>exact l pins σ H s e s' I a
 |ok fl=>
  cases fl with
  |ret u=>exact I.after a
  |next=>exact False.elim a
  |brk=>exact False.elim a
  |cont=>exact False.elim a
theorem fw (F:fb X.prog X.w X.K X.mg X.base CX k f fd ps sp)(d:gE k X.A)(i:Gl X x)(l:X.mg x=some (.ref f))(m:W.keepIn X.K (.ref f)=true)(g:gs X.K fd ps ds)(b:fH dvs ds)(j:jA CX X E)(o:PA X (e::es) t)(hdb:(x == ("__debug__" : Str))=false:=by decide)(he:starEach (e::es) X.env=(false,eval e X.env)::starEach es X.env:=by rfl)(hpl:(backTo pos (starEach es X.env)).any (·.1)=false:=by rfl):PE X (.Call (.Name x p) (e::es) [] pos) (CD sp dvs E t):=by
 intro pins s σ H Q I h;refine bU (vX I i l ?_ hdb);refine W.callWith_K (h₀:=X.base) I.ok.mod.kin m (fG (o pos pins s σ H _ I h) ?_) he hpl;rintro us v ⟨vs,H1,a,r,q⟩;refine⟨a.kIn,?_⟩;exact uH F d g b j a r q
theorem BF (B:PE X o ta)(c:pV X.K C)(d:yh X.K C m f)(F:fb X.prog X.w X.K X.mg X.base CX k f fd ps sp)(j:gE k X.A)(y:gs X.K fd ps ds)(i:fH dvs ds)(z:jA CX X E)(D:PA X (e::es) t)(hst:starEach (e::es) X.env=(false,eval e X.env)::starEach es X.env:=by rfl)(hpl:(backTo pos (starEach es X.env)).any (·.1)=false:=by rfl)(ht:eval (.Call (.Attribute o m apos) (e::es) [] pos) X.env=(do
   let ov ←eval o X.env
   standAt apos.atName
   let (f,first) ←holding [ov] (getMethod ov m pl)
   callWith pos f first (backTo pos (starEach (e::es) X.env)) (backToKw pos (keywordEach [] X.env))):=by rfl) :
  PE X (.Call (.Attribute o m apos) (e::es) [] pos) (sw C m sp dvs E ta t):=by
 intro pins s σ H Q I h;refine W.methodCall_KW (pl:=pl) (fG (B pins s σ H _ I h) ?_) ht;rintro u p ⟨x,H1,b,v,a,dx,fs,ex,G,l,q⟩;subst ex;obtain rfl:u=Value.ref a:=v;refine pc b G c d l ?_;refine W.callWith_K (first:=[.ref a]) (h₀:=X.base) I.ok.mod.kin d.kp (fG (D pos pins p σ H1 _ b q) ?_) hst hpl;rintro us L ⟨vs,H2,g,r,J⟩;refine⟨g.kIn,?_⟩;exact uH (us:=.ref a::us) (vs:=.ref a::vs) F j y i z g (.cons rfl r) J
theorem zc (r:PE X o ta)(c:pV X.K C)(d:yh X.K C m f)(F:fb X.prog X.w X.K X.mg X.base CX k f fd ps sp)(g:gE k X.A)(j:gs X.K fd ps ds)(e:fH dvs ds)(p:jA CX X E)(ht:eval (.Call (.Attribute o m apos) [] [] pos) X.env=(do
   let ov ←eval o X.env
   standAt apos.atName
   let (f,first) ←holding [ov] (getMethod ov m pl)
   callWith pos f first (backTo pos (starEach [] X.env)) (backToKw pos (keywordEach [] X.env))):=by rfl) :
  PE X (.Call (.Attribute o m apos) [] [] pos) (sw C m sp dvs E ta wW):=by
 intro pins s σ H Q I h;refine W.methodCall_KW (pl:=pl) (fG (r pins s σ H _ I h) ?_) ht;rintro u v ⟨x,H1,b,i,a,dx,fs,ex,t,l,q⟩;subst ex;obtain rfl:u=Value.ref a:=i;refine pc b t c d l ?_;exact W.callWith_K0 (first:=[.ref a]) b.kIn d.kp (uH (us:=[.ref a]) (vs:=[.ref a]) F g j e p b (.cons rfl .nil) q)
structure Mk (K:W.Frag)(C f:Addr):Prop where
 makes:W.makesIn K C=true
 init:W.findIn K (.ref C) "__init__" = some (some (.ref f))
 fn:W.isFn K (.ref f)=true
 kp:W.keepIn K (.ref C)=true
theorem yU {Q:VK}(M:Mk X.K C f)(F:fb X.prog X.w X.K X.mg X.base CX k f fd ps sp)(l:gE (k+1) X.A)(m:gs X.K fd ps ds)(i:fH dvs ds)(o:jA CX X E)(I:eM X pins σ H s)(r:fH vs us)(h:∀x dx,H x=none→H dx=none→dx≠x→sp (.ref x::(vs++dvs)) (upd (upd H dx (.own x)) x (.ins C dx [])) (fun v H2=>v=.non∧Q (.ref x) H2) E):wpAny (model X.prog X.w) X.A (call (.ref C) us) (EP X pins σ Q) X.xe s:=by
 have g:=h (s.heap.objs.size+1) s.heap.objs.size (I.hok.fresh (dG _)) (I.hok.fresh (aq _)) (aX (cW _));have b:=eM.made (C:=C) I;have d:fH (V.ref (s.heap.objs.size+1)::(vs++dvs)) (Value.ref (s.heap.objs.size+1)::(us++ds)):=.cons rfl (r.append i);have j:(Value.ref (s.heap.objs.size+1)::us++ds).length=ps.length:=by
  have e:=d.length;rw[F.len _ _ _ _ g]at e;exact e.symm
 refine wpAny_call (zJ (f:=f) I.kIn M.makes M.init (beq_iff_eq.mp M.fn) (codeAny_mono (F.run _ X.stack _ _ ⟨Value.ref (s.heap.objs.size+1)::us,[]⟩ (Value.ref (s.heap.objs.size+1)::(us++ds)) _ _ E (l.make C us []) (b.Jo.make C us []) (m _ (Value.ref (s.heap.objs.size+1)::us) b.kIn j) d g) fun r s' a=>?_));cases r with
 |error e=>exact o pins σ _ _ e s' b a
 |ok fl=>
  cases fl with
  |ret u=>
   obtain⟨v,H',q,y,p,t⟩:=b.after a;subst p;exact⟨y,⟨V.ref (s.heap.objs.size+1),H',q,rfl,t⟩⟩
  |next=>exact False.elim a
  |brk=>exact False.elim a
  |cont=>exact False.elim a
theorem BG (M:Mk X.K C f)(F:fb X.prog X.w X.K X.mg X.base CX k f fd ps sp)(d:gE (k+1) X.A)(i:Gl X x)(l:X.mg x=some (.ref C))(g:gs X.K fd ps ds)(b:fH dvs ds)(j:jA CX X E)(m:PA X (e::es) t)(hdb:(x == ("__debug__" : Str))=false:=by decide)(he:starEach (e::es) X.env=(false,eval e X.env)::starEach es X.env:=by rfl)(hpl:(backTo pos (starEach es X.env)).any (·.1)=false:=by rfl):PE X (.Call (.Name x p) (e::es) [] pos) (Cz C sp dvs E t):=by
 intro pins s σ H Q I h;refine bU (vX I i l ?_ hdb);refine W.callWith_K (h₀:=X.base) I.ok.mod.kin M.kp (fG (m pos pins s σ H _ I h) ?_) he hpl;rintro us o ⟨vs,H1,a,r,q⟩;refine⟨a.kIn,?_⟩;exact yU M F d g b j a r q
end
section
variable {k:Nat}{f:Addr}{ks:List Str}{E:XK}{apos kpos:Pos}{o:Expr}{kws:List Keyword}{tk:TA}{nm:Option Str}
variable {g:List Value→List Value→List Value}{gV:List V→List V→List V}
end
structure eG (N P:List Str)(sc:Scope):Prop where
 kind:sc.kind=.function
 co:sc.isCoroutine=false
 gen:sc.isGenerator=false
 nd:N.Nodup
 pre:N.take P.length=P
 par:∀x∈P,sc.names.lookup x=some .local∨sc.names.lookup x=some .cell
 nofree:∀y∈sc.names,y.2≠.free
theorem qu {kindOf:Str→Option NameKind}{x:Str}:∀{binds:List (Str×Value)} {m:Str→Option Value},(∀v,(x,v)∉binds)→bindL kindOf binds m x=m x
 |[],_,_=>rfl
 |(n,v)::r,m,h=>by
  unfold bindL;rw[qu fun w hw=>h w (aZ _ hw)]
  split
  ·have:x≠n:=by rintro rfl;exact h v bh
   simp[this]
  ·rfl
theorem qw {kindOf:Str→Option NameKind}{x:Str}:∀{binds:List (Str×Value)} {m:Str→Option Value},(∀v,(x,v)∉binds)→bindC kindOf binds m x=m x
 |[],_,_=>rfl
 |(n,v)::r,m,h=>by
  unfold bindC;rw[qw fun w hw=>h w (aZ _ hw)]
  split
  ·rfl
  ·have:x≠n:=by rintro rfl;exact h v bh
   simp[this]
theorem qv {kindOf:Str→Option NameKind}{x:Str}{v:Value}:∀{P:List Str} {vs:List Value} {i:Nat} {m:Str→Option Value},P.Nodup→P[i]?=some x→vs[i]?=some v→kindOf x=some .local→bindL kindOf (P.zip vs) m x=some v
 |[],_,_,_,_,h,_,_=>by simp at h
 |_::_,[],_,_,_,_,h,_=>by simp at h
 |p::P,w::vs,0,m,nd,h1,h2,hk=>by
  simp at h1 h2;subst h1;subst h2;show bindL kindOf ((p,w)::P.zip vs) m p=_;unfold bindL;rw[qu fun v hv=>(aU.mp nd).1 (List.of_mem_zip hv).1,if_pos hk];simp
 |p::P,w::vs,i+1,m,nd,h1,h2,hk=>by
  show bindL kindOf ((p,w)::P.zip vs) m x=_;unfold bindL;exact qv (i:=i) (aU.mp nd).2 (by simpa using h1) (by simpa using h2) hk
theorem qx {kindOf:Str→Option NameKind}{x:Str}{v:Value}:∀{P:List Str} {vs:List Value} {i:Nat} {m:Str→Option Value},P.Nodup→P[i]?=some x→vs[i]?=some v→kindOf x≠some .local→bindC kindOf (P.zip vs) m x=some v
 |[],_,_,_,_,h,_,_=>by simp at h
 |_::_,[],_,_,_,_,h,_=>by simp at h
 |p::P,w::vs,0,m,nd,h1,h2,hk=>by
  simp at h1 h2;subst h1;subst h2;show bindC kindOf ((p,w)::P.zip vs) m p=_;unfold bindC;rw[qw fun v hv=>(aU.mp nd).1 (List.of_mem_zip hv).1,if_neg hk];simp
 |p::P,w::vs,i+1,m,nd,h1,h2,hk=>by
  show bindC kindOf ((p,w)::P.zip vs) m x=_;unfold bindC;exact qx (i:=i) (aU.mp nd).2 (by simpa using h1) (by simpa using h2) hk
def start (N:List Str)(vs:List V):St:=vs.map some++List.replicate (N.length-vs.length) none
def tI (CX:wT)(P:Program)(w:World)(K:W.Frag)(mg:Str→Option Value)(base:Heap)(N:List Str)(qual:Str)(scope:Scope)(f:Addr)(cd:Value)(A:Around)(outer:List Env)(s:Shared)(H:Hp)(E:XK):Cx where
 prog:=P
 w:=w
 K:=K
 mg:=mg
 base:=base
 A:=A.deeper (envOfC qual scope s.heap.objs.size f cd)
 N:=N
 s₀:=s
 H₀:=H
 env:=envOfC qual scope s.heap.objs.size f cd
 outer:=outer
 stack:=envOfC qual scope s.heap.objs.size f cd::outer
 ex:=[]
 calm:=true
 fn:=fun _=>true
 pn:=[]
 xe:=fun e s'=>wpAny (model P w) (A.deeper (envOfC qual scope s.heap.objs.size f cd)) (leaving (envOfC qual scope s.heap.objs.size f cd) e) (fun _ s''=>CX outer H s E e s'') (fun e' s''=>CX outer H s E e' s'') s'
theorem tN {sc:Scope}{n:Nat}(h:sc.names.lookup x=some .cell):∃c,(cellsFrom n sc.names []).lookup x=some c:=by
 have q:=W.cellsFrom_some sc.names n [] (.inl h);exact Option.isSome_iff_exists.mp q
theorem xX {base:Heap}{N:List Str}{qual:Str}{scope:Scope}{f:Addr}{cd:Value}{outer:List Env}{s1:Shared}{E:XK}(S:eG N ps scope)(o:A.handled=none)(d:vB P w K mg base A outer s H)(D:vs.length=ps.length)(r:fH vs us)(x:InCallC s s.heap.objs.size (bindL (envOfC qual scope s.heap.objs.size f cd).kindOf (ps.zip us) fun _=>none) (cellsFrom (s.heap.objs.size+1) scope.names []) (bindC (envOfC qual scope s.heap.objs.size f cd).kindOf (ps.zip us) fun _=>none) s1):eM (tI CX P w K mg base N qual scope f cd A outer s H E) [] (start N vs) H s1:=by
 have t:ps.length≤N.length:=by have:=congrArg List.length S.pre;rw[aN]at this;lia
 obtain⟨h1,tk,rfl,m⟩:=x.done;have g:∀b:Addr,b∉(tI CX P w K mg base N qual scope f cd A outer s H E).ex:=fun b z=>absurd (show b∈([]:List Addr) from z) (by simp);refine⟨⟨d.mod,S.kind,rfl,rfl,aq _,fun y z c h1 h2=>?_,fun y hy=>?_,fun y c _ h=>?_,fun _=>o,Around.frames_deeper d.frames,.inr ⟨rfl,rfl⟩,fun b z=>absurd z (g b),d.bs,d.bsz,fun b _ _=>g b,fun b z=>absurd z (g b),d.funs,d.frf⟩,rfl,d.bare,Un.kept m,⟨_,x.toInCall.ns,fun i y v h1 h2 F=>?_⟩,fun y c h=>⟨_,x.cell y c h⟩,d.hok.fresh (aq _),fun y c h=>?_,fun p hp=>absurd (show p∈([]:List (Addr×Obj)) from hp) (by simp),d.hok.kept m,?_⟩
 ·exact name_of_addr x.apart (bn h1) (bn h2)
 ·have hy:scope.names.lookup y=some .cell∨scope.names.lookup y=some .free:=hy;rcases hy with hy | hy
  ·exact tN hy
  ·exact absurd rfl (S.nofree _ (bn hy))
 ·exact cK (x.above y c (bn h))
 ·have hi:i<vs.length:=by
   unfold start at h2;by_cases hi:i<vs.length
   ·exact hi
   ·rw[aW (by simpa using hi)]at h2;rw[List.getElem?_replicate]at h2
    split at h2 <;> cases h2
  have B:vs[i]?=some v:=by
   unfold start at h2;rw[aK (by simpa using hi),ae]at h2
   cases e:vs[i]? with
   |none=>rw[e]at h2;cases h2
   |some a=>rw[e]at h2;cases h2;rfl
  obtain⟨u,l,C⟩:=r.get B;have hp:ps[i]?=some y:=by
   rw[←S.pre,List.getElem?_take_of_lt (by lia)];exact h1
  have j:ps.Nodup:=by rw[←S.pre];exact S.nd.sublist (dQ _ _)
  refine⟨u,C,?_⟩;rcases S.par y (aj hp) with k | k
  ·exact .inl ⟨k,qv j hp l k⟩
  ·obtain⟨c,e⟩:=tN (n:=s.heap.objs.size+1) k;refine .inr ⟨.inl k,c,e,?_⟩;have q:=x.cell y c e;rw[qx j hp l (by show scope.names.lookup y≠_;rw[k];decide)]at q;exact q
 ·exact d.hok.fresh (cK (x.above y c (bn h)))
 ·unfold start;show _=N.length;rw[aE,ab,List.length_replicate]
  lia
theorem CW {base:Heap}{k:Nat}{f:Addr}{name qual:Str}{params:Arguments}{scope:Scope}{dV kV doc pm cdv ct oc:Value}{an od:Option Addr}{osl:Array (Option Value)}{N ps:List Str}{sp:Sp}(F:K.lookup f=some ⟨oc,od,.func (W.fnOf name qual params body scope dV kV doc pm an cdv ct),osl⟩)(z:W.codeIn K cdv qual=true)(S:eG N ps scope)(len:∀vs H Q E,sp vs H Q E→vs.length=ps.length)(d:∀(A:Around) (outer:List Env) (s:Shared) (H:Hp) (vs:List V) (Q:VK) (E:XK),gE k (A.deeper (envOfC qual scope s.heap.objs.size f cdv))→sp vs H Q E→∃t,lW (tI CX P w K mg base N qual scope f cdv A outer s H E) body t∧t {nx:=fun _ H'=>Q .non H',rt:=Q} (start N vs) H):fb P w K mg base CX (k+1) f (W.fnOf name qual params body scope dV kV doc pm an cdv ct) ps sp:=by
 refine⟨len,fun A outer s H B us vs Q E p h L r j=>?_⟩;have T:=len _ _ _ _ j;have C:K.In s.heap:=h.mod.kin.keeps fun b o e=>(h.bs b o e).1;have l:s.heap.NoLimit:=h.mod.nolimit.keeps fun b o e=>(h.bs b o e).1;have a:∀y∈ps.zip us,scope.names.lookup y.1=some .local∨(scope.names.lookup y.1=some .cell∧((cellsFrom (s.heap.objs.size+1) scope.names []).lookup y.1).isSome=true):=fun⟨n,v⟩ R=>by
  rcases S.par n (List.of_mem_zip R).1 with q | q
  ·exact .inl q
  ·exact .inr ⟨q,W.cellsFrom_some _ _ _ (.inl q)⟩
 refine codeAny_call_function p.depth (C _ _ F) rfl S.co S.gen rfl (W.codeRec_of C z) (L _ _ _ _ ?_);refine wpAny_newFunctionEnv_cells S.kind a fun O U D x=>?_;subst U;refine⟨l.keeps x.toInCall.keep,codeAny_func ?_⟩;obtain⟨t,G,M⟩:=d A outer s H vs Q E (p.deeper _) j;have I:eM (tI CX P w K mg base N qual scope f cdv A outer s H E) [] (start N vs) H D:=xX S p.hd h T r x;refine bO (G [] D (start N vs) H _ I M) (fun fl s' g=>?_) fun e s' g=>g;have i:∀{σ':St} {H':Hp} {v:V} {u:Value},eM (tI CX P w K mg base N qual scope f cdv A outer s H E) [] σ' H' s'→eT v u→Q v H'→CE outer P w H s Q u s':=
  fun {σ' H' v u} J m q=>⟨v,H',J.os,J.bare,J.base,J.hok,m,q⟩
 cases fl with
 |ret u=>
  obtain⟨v,σ',H',J,m,q⟩:=g;exact i J m q
 |next=>
  obtain⟨σ',H',J,q⟩:=g;exact i (v:=V.non) (u:=Value.none) J rfl q
 |brk=>
  obtain⟨_,_,_,q⟩:=g;exact False.elim q
 |cont=>
  obtain⟨_,_,_,q⟩:=g;exact False.elim q
section
variable {id T:String}{r:List V→Hp→VK→Prop}
def Ig (r:List V→Hp→VK→Prop)(t:TA):TE:=fun σ H Q=>t σ H fun vs H1=>r vs H1 Q
theorem fK (o:ju X (.builtin id) r)(j:Gl X x)(a:X.mg x=none)(b:bootBuiltins x=some (.builtin id))(d:PA X (e::es) t)(hn:x≠"__name__":=by decide)(hdb:(x == ("__debug__" : Str))=false:=by decide)(he:starEach (e::es) X.env=(false,eval e X.env)::starEach es X.env:=by rfl)(hpl:(backTo pos (starEach es X.env)).any (·.1)=false:=by rfl):PE X (.Call (.Name x p) (e::es) [] pos) (Ig r t):=by
 intro pins s σ H Q I h;refine bU (jS I j a b ?_ hn hdb);exact PyProof.Rows.callWith_builtin1 (fG (d pos pins s σ H _ I h) (by rintro us l ⟨vs,H1,m,g,i⟩;exact o pins l σ H1 vs us Q m g i)) he hpl
theorem iP (o:ju X (.type T) r)(j:Gl X x)(a:X.mg x=none)(b:bootBuiltins x=some (.type T))(d:PA X (e::es) t)(hn:x≠"__name__":=by decide)(hdb:(x == ("__debug__" : Str))=false:=by decide)(he:starEach (e::es) X.env=(false,eval e X.env)::starEach es X.env:=by rfl)(hpl:(backTo pos (starEach es X.env)).any (·.1)=false:=by rfl):PE X (.Call (.Name x p) (e::es) [] pos) (Ig r t):=by
 intro pins s σ H Q I h;refine bU (jS I j a b ?_ hn hdb);exact PyProof.Rows.callWith_type1 (fG (d pos pins s σ H _ I h) (by rintro us l ⟨vs,H1,m,g,i⟩;exact o pins l σ H1 vs us Q m g i)) he hpl
end
end L2
namespace HT
open PySem PyProof.Rows
section
open PySem.SeqAt
open PySem.AutoSeq1 (wpAny_loadPart')
open PySem.MeetsSeq PySem.MeetsSeq2 PySem.MeetsSeq3
end
section
variable {prog:Program}{w:World}{A:Around}{E:Value→Shared→Prop}{s:Shared}
def nz (n d:Nat):Option Int→Nat
 |none=>d
 |some v=>if v<0 then (v+(n:Int)).toNat else min v.toNat n
theorem yP (n d:Nat):nz n d none=d:=rfl
theorem vL (n d k:Nat):nz n d (some (k:Int))=min k n:=by
 show(if (k:Int)<0 then ((k:Int)+(n:Int)).toNat else min (k:Int).toNat n)=min k n;rw[if_neg (by lia),bI]
end
end HT
namespace L2
open PySem PySem.Spec PyProof.Rows
variable {A:Around}{E Q:Value→Shared→Prop}{H H':Hp}{P:Program}{T:String}{X:Cx}{a:Addr}{e:Expr}{kvs:List (fZ×V)}{o:Option V}{pins:List (Addr×Obj)}{pos:Pos}{s:Shared}{v y:V}{w:World}{σ:St}
abbrev TO:=St→Hp→(Option Int→Hp→Prop)→Prop
def PO (X:Cx)(e:Option Expr)(t:TO):Prop:=
 ∀(pins:List (Addr×Obj)) (s:Shared) (σ:St) (H:Hp) (Q:Option Int→Hp→Prop),eM X pins σ H s→t σ H Q→
  wpAny (model X.prog X.w) X.A (evalPart e X.env) (fun u s'=>∃o H',eM X pins σ H' s'∧IsPart u o∧Q o H') X.xe s
def Be:TO:=fun _ H Q=>Q none H
inductive AO (Q:Option Int→Hp→Prop)(x:V)(H1:Hp):Prop
 |mk (i:_)(_:x=.int i)(_:Q (some i) H1):AO Q x H1
def E2 (t:TE):TO:=fun σ H Q=>t σ H fun x H1=>AO Q x H1
theorem u9 {ns:List Int}:∀{us:List Value},fH (ns.map V.int) us→IntsAre us ns:=by
 induction ns with
 |nil=>intro us r;rw[cM]at r;cases r;exact .nil
 |cons n ns ih=>
  intro us r;rw[aD]at r;cases r with
  |cons r1 r2=>
   obtain⟨t,e⟩:=r1;subst e;exact .cons n t (ih r2)
section
variable {te:TE}{lo hi:Option Expr}{tl th:TO}{p2:Pos}
theorem rF:PO X none Be:=by
 intro pins s σ H Q I h;rw[evalPart_none];exact ar ⟨none,H,I,.none,h⟩
theorem lI (h:PE X e te):PO X (some e) (E2 te):=by
 intro pins s σ H Q I a;rw[evalPart_some];refine fG (h pins s σ H _ I a) ?_;rintro u j ⟨x,H1,d,b,g⟩;obtain⟨i,rfl,q⟩:=g;obtain⟨t,rfl⟩:=b;exact⟨some i,H1,d,.int i t,q⟩
def Im (X:Cx)(r:V→Option Int→Option Int→Hp→VK→Prop):Prop:=
 ∀(pins:List (Addr×Obj)) (s:Shared) (σ:St) (H:Hp) (x:V) (v vl vu:Value) (lo hi:Option Int) (sl:Addr) (Q:VK),eM X pins σ H s→eT x v→s.heap.IsSliceOf sl vl vu .none→IsPart vl lo→IsPart vu hi→r x lo hi H Q→
  ∃T id,typeLookup (.type T) "__getitem__" = pure (some (.builtin id))∧s.TypeIs v T∧wpAny (model X.prog X.w) X.A (getItem v (.ref sl)) (EP X pins σ Q) X.xe s
def IB (r:V→Option Int→Option Int→Hp→VK→Prop)(te:TE)(tl th:TO):TE:=fun σ H Q=>te σ H fun x H1=>tl σ H1 fun l H2=>th σ H2 fun u H3=>r x l u H3 Q
theorem lK {r:V→Option Int→Option Int→Hp→VK→Prop}(F:Im X r)(L:PE X e te)(E:PO X lo tl)(K:PO X hi th):PE X (.Subscript e (.Slice lo hi none p2) pos) (IB r te tl th):=by
 intro pins s σ H Q I h;refine Subscript_ (fG (L pins s σ H _ I h) ?_);rintro v J ⟨x,H1,o,i,B⟩;refine wpAny_Slice (fG (E pins J σ H1 _ o B) ?_);rintro d y ⟨l,H2,D,pl,M⟩;refine fG (K pins y σ H2 _ D M) ?_;rintro a s3 ⟨u,g,t,G,C⟩;rw[evalPart_none];refine ar ?_;have j:eM X pins σ g {s3 with heap:=s3.heap.push {cls:=.type "slice",data:=.fields #[d,a,.none]}}:=t.kept (t':=s3.toks) fun b N q=>aC _ q;obtain⟨T,id,z,m,p⟩:=F pins {s3 with heap:=s3.heap.push {cls:=.type "slice",data:=.fields #[d,a,.none]}} σ g x v d a l u s3.heap.objs.size Q j i (Heap.IsSliceOf.new ..) pl G C;show wpAny (model X.prog X.w) X.A (subscriptTail e (.Slice lo hi none p2) v (.ref s3.heap.objs.size)) (EP X pins σ Q) X.xe {s3 with heap:=s3.heap.push {cls:=.type "slice",data:=.fields #[d,a,.none]}};exact tail_any (ops:=[.ref s3.heap.objs.size,v]) m z p (by with_unfolding_all rfl)
def pz (xs:List V)(lo hi:Option Int):List V:=(xs.drop (HT.nz xs.length 0 lo)).take (HT.nz xs.length xs.length hi-HT.nz xs.length 0 lo)
theorem tK (xs:List V)(lo hi:Option Int):(pz xs lo hi).length≤xs.length:=by
 unfold pz;rw[aN,List.length_drop]
 lia
end
def Em (n:Nat)(i:Int):Option Nat:=if 0≤i then (if i<n then some i.toNat else none) else if -(n:Int)≤i then some (i+n).toNat else none
def vp {α:Type}(xs:List α)(i:Int):Option α:=(Em xs.length i).bind fun j=>xs[j]?
theorem Cf {n:Nat}{i:Int}{j:Nat}(h:Em n i=some j):seqIndex? i n=some j∧j<n∧-(n:Int)≤i∧i<n:=by
 unfold Em at h;by_cases h0:0≤i
 ·rw[if_pos h0]at h;by_cases h1:i<n
  ·rw[if_pos h1]at h;have e:i.toNat=j:=Option.some.inj h;exact⟨by rw[seqIndex_of h0 h1,e],by lia,by lia,h1⟩
  ·rw[if_neg h1]at h;cases h
 ·rw[if_neg h0]at h;by_cases h1:-(n:Int)≤i
  ·rw[if_pos h1]at h;have e:(i+n).toNat=j:=Option.some.inj h;exact⟨by rw[seqIndex_neg (by lia) h1,e],by lia,h1,by lia⟩
  ·rw[if_neg h1]at h;cases h
theorem wm {α:Type}{xs:List α}{i:Int}{v:α}(h:vp xs i=some v):∃j,seqIndex? i xs.length=some j∧xs[j]?=some v∧j<xs.length∧-(xs.length:Int)≤i∧i<xs.length:=by
 unfold vp at h;cases e:Em xs.length i with
 |none=>rw[e]at h;cases h
 |some j=>
  rw[e]at h;obtain⟨h1,h2,a,b⟩:=Cf e;exact⟨j,h1,h,h2,a,b⟩
theorem wl {α:Type}{xs:List α}{j:Nat}{v:α}(h:xs[j]?=some v):vp xs (j:Int)=some v:=by
 have a:j<xs.length:=(af.mp h).1;have e:Em xs.length (j:Int)=some j:=by
  unfold Em;rw[if_pos (by lia),if_pos (by lia)];simp
 unfold vp;rw[e];exact h
def Cw (b:Expr):Prop:=∀o i,subscripted b false o i=operate [o,i] (getItem o i)
def ES (X:Cx)(r:R2):Prop:=
 ∀(value slice:Expr) (pins:List (Addr×Obj)) (s:Shared) (σ:St) (H:Hp) (x y:V) (v u:Value) (Q:VK),eM X pins σ H s→eT x v→eT y u→r x y H Q→
  subscripted slice false v u=operate [v,u] (getItem v u)→wpAny (model X.prog X.w) X.A (subscriptTail value slice v u) (EP X pins σ Q) X.xe s
def Io (X:Cx)(id:String)(r:V→List V→Hp→VK→Prop):Prop:=
 ∀(pins:List (Addr×Obj)) (s:Shared) (σ:St) (H:Hp) (x:V) (xs:List V) (v:Value) (us:List Value) (Q:VK),eM X pins σ H s→eT x v→fH xs us→r x xs H Q→
  wpAny (model X.prog X.w) X.A (call (.builtin id) (v::us)) (EP X pins σ Q) X.xe s
section
variable {a b:Expr}{ta tb:TE}
theorem eO {r:R2}(d:ES X r)(m:PE X a ta)(j:PE X b tb)(g:Cw b):PE X (.Subscript a b pos) (GB r ta tb):=by
 intro pins s σ H Q I h;exact Subscript_ (EE m j I h fun v u l x y H2 o e i q=>d a b pins l σ H2 x y v u Q o e i q (g _ _))
inductive Do (K:W.Frag)(x:V)(y:V)(H:Hp)(Q:VK):Prop
 |mk (p xs i v:_)(_:x=.ref p)(_:y=.int i)(_:eX K H p xs)(_:vp xs i=some v)(_:Q v H):Do K x y H Q
def Fz (K:W.Frag):R2:=fun x y H Q=>Do K x y H Q
inductive Dn (K:W.Frag)(x:V)(y:V)(H:Hp)(Q:VK):Prop
 |mk (p xs i v:_)(_:x=.ref p)(_:y=.int i)(_:ia K H p xs)(_:vp xs i=some v)(_:Q v H):Dn K x y H Q
def uI (K:W.Frag):R2:=fun x y H Q=>Dn K x y H Q
theorem fE:ES X (Fz X.K):=by
 intro value b pins s σ H x y v u Q I D E h m;obtain⟨p,xs,i,z,rfl,rfl,o,F,q⟩:=h;cases D;obtain⟨t,rfl⟩:=E;obtain⟨e,r,pl,G⟩:=I.list o;obtain⟨j,h1,h2,J,A,B⟩:=wm F;obtain⟨w,l,d⟩:=r.get h2;have C:=r.length;have L:=rT;have a:EP X pins σ Q w s:=⟨z,H,I,d,q⟩;by_cases h0:0≤i
 ·have g:i.toNat=j:=by
   rw[seqIndex_of h0 B]at h1;exact Option.some.inj h1
  exact item_listR pl.isList h0 (by lia) (by rw[g];simpa using l) a m
 ·have g:(i+(e.toArray.size:Int)).toNat=j:=by
   rw[seqIndex_neg (by lia) A]at h1;rw[aO,←C];exact Option.some.inj h1
  exact subscriptTail_builtinR (x:=w) pl.isList.typeIs slot_list_getitem.lookup
   (wpAny_getItem_list_neg (Q:=fun r s'=>r=w∧EP X pins σ Q r s') pl.isList (by lia) (by rw[aO] <;> lia) (by lia) (by rw[g];simpa using l) ⟨rfl,a⟩) m
theorem eQ:ES X (uI X.K):=by
 intro value a pins s σ H x y v u Q I o B h A;obtain⟨p,xs,i,z,rfl,rfl,e,C,q⟩:=h;cases o;obtain⟨t,rfl⟩:=B;obtain⟨g,r,pl,F⟩:=I.tuple e;obtain⟨j,h1,h2,G,D,E⟩:=wm C;obtain⟨w,l,d⟩:=r.get h2;have m:=r.length;have J:=rT;have b:EP X pins σ Q w s:=⟨z,H,I,d,q⟩;exact subscriptTail_builtinR (x:=w) pl.typeIs slot_tuple_getitem.lookup
  (getItem_tuple (j:=j) (Q:=fun r s'=>r=w∧EP X pins σ Q r s') pl (by lia) (by lia) (by rw[aO,←m];exact h1) (by simpa using l) ⟨rfl,b⟩) A
theorem qU (lo hi:Option Int)(n:Nat):(sliceBounds lo hi none n).1=((HT.nz n 0 lo:Nat):Int)∧(sliceBounds lo hi none n).2.1=((HT.nz n n hi:Nat):Int)∧(sliceBounds lo hi none n).2.2=1:=by
 refine⟨?_,?_,rfl⟩
 ·cases lo with
  |none=>simp[sliceBounds,HT.nz]
  |some i=>
   simp only[sliceBounds,HT.nz,Option.getD_none,show(1:Int)>0 by decide,if_true];by_cases h:i<0
   ·simp only[h,if_true] <;> lia
   ·simp only[h,if_false] <;> lia
 ·cases hi with
  |none=>simp[sliceBounds,HT.nz]
  |some i=>
   simp only[sliceBounds,HT.nz,Option.getD_none,show(1:Int)>0 by decide,if_true];by_cases h:i<0
   ·simp only[h,if_true] <;> lia
   ·simp only[h,if_false] <;> lia
theorem pK (a:List Value)(lo hi:Option Int):slicePick a.toArray lo hi none=((a.drop (HT.nz a.length 0 lo)).take (HT.nz a.length a.length hi-HT.nz a.length 0 lo)).toArray:=by
 obtain⟨h1,h2,b⟩:=qU lo hi a.toArray.size;unfold slicePick;rw[h1,h2,b];simp only[sliceRange_one,pick_run,aO] <;> rfl
inductive Dj (K:W.Frag)(x:V)(lo:Option Int)(hi:Option Int)(H:Hp)(Q:VK):Prop
 |mk (a xs:_)(_:x=.ref a)(_:eX K H a xs)(_:∀p,H p=none→Q (.ref p) (upd H p (.lst (pz xs lo hi)))):Dj K x lo hi H Q
def Hy (K:W.Frag):V→Option Int→Option Int→Hp→VK→Prop:=fun x lo hi H Q=>Dj K x lo hi H Q
theorem nw:Im X (Hy X.K):=by
 intro pins s σ H x v w t lo hi y Q I i j pl g h;obtain⟨a,xs,rfl,l,q⟩:=h;cases i;obtain⟨m,r,e,p⟩:=I.list l;have d:=r.length;refine⟨"list",_,slot_list_getitem.lookup,e.isList.typeIs,?_⟩;refine wpAny_getItem_list_slice e.isList j pl g .none (by simp) ?_ (by rw[aO] <;> lia)
 rw[pK,←d];refine⟨.ref s.heap.objs.size,_,I.laid (t':=s.toks) (o:=.lst (pz xs lo hi)) (fun b z q=>aC _ q) (aq _) ?_,rfl,q _ (I.hok.fresh (aq _))⟩
 exact⟨bj (tK xs lo hi) p,_,0,(r.drop (HT.nz xs.length 0 lo)).take (HT.nz xs.length xs.length hi-HT.nz xs.length 0 lo),aT _ rfl⟩
theorem gQ:ju X (.builtin "len") (fun xs H Q=>∃p ys,xs=[.ref p]∧(eX X.K H p ys∨ia X.K H p ys)∧Q (.int ys.length) H):=by
 intro pins s σ H xs us Q I r h;obtain⟨p,ys,rfl,hq,q⟩:=h;obtain⟨u,rfl,e⟩:=jm r;cases e;have i:=rT;rcases hq with hq | hq
 ·obtain⟨d,b,pl,g⟩:=I.list hq;have a:=b.length;exact Calls.call_len_list pl.isList (by simp only[aO] <;> lia) ⟨.int ys.length,H,I.tok _,⟨s.toks+1,by rw[aO,a]⟩,q⟩
 ·obtain⟨d,b,pl,g⟩:=I.tuple hq;have a:=b.length;exact len_tuple pl (by simp only[aO] <;> lia) ⟨.int ys.length,H,I.tok _,⟨s.toks+1,by rw[aO,a]⟩,q⟩
theorem jb:ju X (.type "list") (fun xs H Q=>∃p ys,xs=[.ref p]∧(eX X.K H p ys∨ia X.K H p ys)∧∀l,H l=none→Q (.ref l) (upd H l (.lst ys))):=by
 intro pins s σ H xs us Q I r h;obtain⟨p,ys,rfl,hq,q⟩:=h;obtain⟨u,rfl,x⟩:=jm r;cases x;have g:∀(a:List Value),fH ys a→ys.length≤sizeLine→∀(h':Heap) (c':Nat),(∀b o',s.heap.get? b=some o'→h'.get? b=some o')→
   h'.get? s.heap.objs.size=some {cls:=.type "list",dict:=none,data:=.seq a.toArray c',slots:=#[]}→EP X pins σ Q (.ref s.heap.objs.size) {s with heap:=h'}:=fun a d j h' c' kp e=>
  ⟨.ref s.heap.objs.size,_,I.laid (t':=s.toks) kp (aq _) (show fC X.prog X.w _ h' _ (.lst ys) from⟨j,a,c',d,e⟩),rfl,q _ (I.hok.fresh (aq _))⟩
 rcases hq with hq | hq
 ·obtain⟨a,d,pl,j⟩:=I.list hq;have i:=d.length;obtain⟨o,t,v,n,m⟩:=pl.isList;exact call_list_seq p (.inl rfl) t v m (fun h' c' kp e=>g a d j h' c' kp e) (by simp only[aO] <;> lia)
 ·obtain⟨a,d,pl,j⟩:=I.tuple hq;have i:=d.length;obtain⟨o,t,v,n,m⟩:=pl;exact call_list_seq p (.inr rfl) t v m (fun h' c' kp e=>g a d j h' c' kp e) (by simp only[aO] <;> lia)
def GT (K:W.Frag)(T:String)(x:V)(H:Hp):Prop:=match x with
 |.str _=>T = "str"
 |.int _=>T = "int"
 |.ref p=>(T = "list"∧∃xs,eX K H p xs)∨(T = "tuple"∧∃o,K.lookup p=some o∧o.cls=.type "tuple"∧o.dict=none)∨
   (T = "dict"∧((∃kvs,H p=some (.dK kvs))∨∃kvs,H p=some (.dT kvs)))∨(T = "set"∧∃S n,H p=some (.set S n))
 |_=>False
theorem yt {x:V}{v:Value}(I:eM X pins σ H s)(r:eT x v)(ty:GT X.K T x H):s.TypeIs v T∧∀a,v=.ref a→∃ob,s.heap.get? a=some ob∧ob.dict=none:=by
 cases x with
 |str z=>
  obtain⟨t,rfl⟩:=r;cases (show T = "str" from ty);exact⟨typeIs_str s z t,fun _ e=>nomatch e⟩
 |int i=>
  obtain⟨t,rfl⟩:=r;cases (show T = "int" from ty);exact⟨typeIs_int s i t,fun _ e=>nomatch e⟩
 |ref p=>
  cases r;rcases ty with ⟨rfl,xs,h⟩ | ⟨rfl,o,b,l,d⟩ | ⟨rfl,b⟩ | ⟨rfl,S,n,b⟩
  ·obtain⟨j,_,pl,_⟩:=I.list h;refine⟨pl.isList.typeIs,fun a e=>?_⟩;cases e;obtain⟨o,n,e,c,d,_⟩:=pl;exact⟨o,e,d⟩
  ·refine⟨⟨o,I.kIn p o b,l⟩,fun a e=>?_⟩;cases e;exact⟨o,I.kIn _ o b,d⟩
  ·have z:∃o,s.heap.get? p=some o∧o.ExactDict:=by
    rcases b with ⟨kvs,b⟩ | ⟨kvs,b⟩
    ·obtain⟨_,_,_,_,o,_,_,e,ex,_⟩:=I.hok p _ b;exact⟨o,e,ex⟩
    ·obtain⟨_,_,_,_,o,_,_,e,ex,_⟩:=I.hok p _ b;exact⟨o,e,ex⟩
   obtain⟨o,e,ex⟩:=z;refine⟨⟨o,e,ex.1⟩,fun a g=>?_⟩;cases g;exact⟨o,e,ex.2.1⟩
  ·obtain⟨o,_,_,_,e,ex,_⟩:=I.hok p _ b;refine⟨⟨o,e,ex.1⟩,fun a g=>?_⟩;cases g;exact⟨o,e,ex.2.1⟩
 |_=>exact False.elim ty
def Hg (K:W.Frag)(T:String)(r:V→List V→Hp→VK→Prop)(to:TE):TE:=fun σ H Q=>to σ H fun x H1=>GT K T x H1∧r x [] H1 Q
def IE (K:W.Frag)(T:String)(r:V→List V→Hp→VK→Prop)(to:TE)(t:TA):TE:=fun σ H Q=>to σ H fun x H1=>GT K T x H1∧t σ H1 fun xs H2=>r x xs H2 Q
variable {o:Expr}{es:List Expr}{to:TE}{t:TA}{name:Str}{apos cpos:Pos}{id:String}{r:V→List V→Hp→VK→Prop}
theorem zi (m:PlainAttrs T)(a:Slot T name id)(b:typeOf (.builtin id)=pure (.type "method_descriptor"))(j:Io X id r)(g:PE X o to)(hbase:attributeBase o name X.env (eval o X.env)=eval o X.env:=by rfl)(hline:(apos.endLine == cpos.line)=true:=by rfl):PE X (.Call (.Attribute o name apos) [] [] cpos) (Hg X.K T r to):=by
 intro pins s σ H Q I h;refine wpAny_Call_method0_late hbase hline (fG (g pins s σ H _ I h) ?_);rintro v i ⟨x,H1,e,d,ty,l⟩;obtain⟨h1,h2⟩:=yt e d ty;exact⟨T,id,m,a,b,h1,h2,Calls.callWith_builtin rfl (PySem.evalArgs_none (j pins i σ H1 x [] v [] Q e d .nil l))⟩
theorem je (z:PlainAttrs T)(a:Slot T name id)(b:typeOf (.builtin id)=pure (.type "method_descriptor"))(p:Io X id r)(j:PE X o to)(w:PA X (e::es) t)(hbase:attributeBase o name X.env (eval o X.env)=eval o X.env:=by rfl)(hfew:((backTo cpos (starEach (e::es) X.env)).all (fun x=>!x.1)&&(backToKw cpos (keywordEach [] X.env)).all (fun x=>x.1.isSome)&&decide ((e::es).length+([]:List Keyword).length+(if ([]:List Keyword).isEmpty then 0 else 1)<30))=true:=by rfl)(hline:(apos.endLine == cpos.line)=true:=by rfl)(hs:starEach (e::es) X.env=(false,eval e X.env)::starEach es X.env:=by rfl)(hplain:(backTo cpos (starEach es X.env)).any (·.1)=false:=by rfl):PE X (.Call (.Attribute o name apos) (e::es) [] cpos) (IE X.K T r to t):=by
 intro pins s σ H Q I h;refine wpAny_Call_method_late hbase hfew hline rfl (fG (j pins s σ H _ I h) ?_);rintro v l ⟨x,H1,g,d,ty,y⟩;obtain⟨h1,h2⟩:=yt g d ty;refine⟨T,id,z,a,b,h1,h2,?_⟩;have i:=w cpos pins l σ H1 _ g y;rw[hs]at i ⊢;refine Calls.callWith_builtin (by show(false||(backTo cpos (starEach es X.env)).any (·.1))=false;rw[hplain] <;> rfl) (Calls.evalArgs_plain ?_)
 exact fG i (by rintro us q ⟨vs,H2,A,m,B⟩;exact p pins q σ H2 x vs v us Q A d m B)
end
def Gk (X:Cx)(id:String)(r:V→List V→Hp→VK→Prop):Prop:=
 ∀(pins:List (Addr×Obj)) (s:Shared) (σ:St) (H:Hp) (x:V) (xs:List V) (v:Value) (us:List Value) (Q:VK),eM X pins σ H s→eT x v→fH xs us→r x xs H Q→
  wpAny (model X.prog X.w) X.A (call (.builtin id) (v::us)) (EP X pins σ Q) X.xe s
theorem fH.one:∀{x:V} {us:List Value},fH [x] us→∃u,us=[u]∧eT x u
 |_,_,.cons r .nil=>⟨_,rfl,r⟩
theorem fH.zero:∀{us:List Value},fH [] us→us=[]
 |_,.nil=>rfl
theorem fH.dropLast {xs:List V}{us:List Value}(h:fH xs us):fH xs.dropLast us.dropLast:=by
 induction h with
 |nil=>exact .nil
 |cons r t ih=>
  cases t with
  |nil=>exact .nil
  |cons q t'=>exact .cons r ih
theorem ve {α:Type}(l:List α):l.eraseIdx (l.length-1)=l.dropLast:=by
 induction l with
 |nil=>rfl
 |cons a r ih=>
  cases r with
  |nil=>rfl
  |cons b r=>
   have e:(a::b::r).length-1=((b::r).length-1)+1:=by
    have h1:(a::b::r).length=r.length+2:=rfl;have h2:(b::r).length=r.length+1:=rfl
    lia
   rw[e,List.eraseIdx_cons_succ,ih]
   all_goals rfl
section
variable {l b:Addr}{xs ys zs:List V}
theorem eM.Jp {its its':List Value}{n:Nat}{f:Array Value→Array Value}{t':Nat}(I:eM X pins σ H s)(d:H l=some (.lst xs))(e:s.heap.get? l=some {cls:=.type "list",data:=.seq its.toArray n})(a:f its.toArray=its'.toArray)(b:fH ys its')(hz:ys.length≤sizeLine):eM X pins σ (upd H l (.lst ys)) {s with heap:=s.heap.update l (Obj.mapSeq f),toks:=t'}:=by
 have q:=PySem.IsL.update e f;rw[a]at q;refine I.write (x:=l) (e:=l) (by rw[d];exact trivial) (.inl rfl) (fun i u h g=>(Heap.get?_update_other s.heap (Obj.mapSeq f) (Ne.symm h)).trans g) ⟨_,q⟩ ?_
 exact⟨hz,its',_,b,q⟩
theorem eM.Jq (I:eM X pins σ H s)(a:H l=some (.lst xs)):xs.length≤sizeLine∧∃(its:List Value) (n:Nat),fH xs its∧xs.length=its.length∧s.heap.get? l=some {cls:=.type "list",data:=.seq its.toArray n}:=by
 obtain⟨z,its,n,r,e⟩:=I.hok l _ a;exact⟨z,its,n,r,r.length,e⟩
theorem zF {n:Nat}(h:n≤sizeLine):Builtin.List.listTooLong n=false:=by
 unfold Builtin.List.listTooLong;exact au (by lia)
end
inductive uc (x:V)(vs:List V)(H:Hp)(Q:VK):Prop
 |mk (l xs y:_)(_:x=.ref l)(_:vs=[y])(_:H l=some (.lst xs))(_:xs.length<sizeLine)(_:Q .non (upd H l (.lst (xs++[y])))):uc x vs H Q
def Bx:V→List V→Hp→VK→Prop:=fun x vs H Q=>uc x vs H Q
theorem gq:Gk X "list.append" Bx:=by
 intro pins s σ H x vs v us Q I d i h;obtain⟨l,xs,y,rfl,rfl,b,m,q⟩:=h;cases d;obtain⟨u,rfl,g⟩:=i.one;obtain⟨z,a,n,r,j,e⟩:=I.Jq b;refine call_meets F.slot_list_append ⟨_,e,rfl⟩ F.entry_list_append (F.args_list_append_2 _ _) (PySem.list_append l a.toArray n u (by rw[aO];lia)) ⟨e,?_⟩;refine⟨.non,_,I.Jp (its':=a++[u]) b e (by simp) (r.append (.cons g .nil)) ?_,rfl,q⟩;rw[aE,aR]
 lia
inductive ub (x:V)(vs:List V)(H:Hp)(Q:VK):Prop
 |mk (l b xs zs:_)(_:x=.ref l)(_:vs=[.ref b])(_:H l=some (.lst xs))(_:H b=some (.lst zs))(_:xs.length+zs.length≤sizeLine)(_:Q .non (upd H l (.lst (xs++zs)))):ub x vs H Q
def Bw:V→List V→Hp→VK→Prop:=fun x vs H Q=>ub x vs H Q
theorem xK:Gk X "list.extend" Bw:=by
 intro pins s σ H x vs v us Q I t p h;obtain⟨l,b,xs,zs,rfl,rfl,j,A,D,q⟩:=h;cases t;obtain⟨u,rfl,y⟩:=p.one;cases y;obtain⟨z,d,n,r,E,e⟩:=I.Jq j;obtain⟨C,a,B,w,m,o⟩:=I.Jq A;have i:d.toArray.size+a.toArray.size≤sizeLine:=by rw[aO,aO];lia
 have g:¬(!d.toArray.isEmpty&&Builtin.List.listTooLong (d.toArray.size+a.toArray.size))=true:=by
  rw[zF i,Bool.and_false];exact aP
 refine call_meets F.slot_list_extend ⟨_,e,rfl⟩ F.entry_list_extend (F.args_list_extend_2 _ _)
  (AutoSeq1.list_extend_list_list_0 l d.toArray n b a.toArray B g (by rw[aO];lia) (by lia)) ⟨e,o,?_⟩
 refine⟨.non,_,I.Jp (its':=d++a) j e (by simp) (r.append w) ?_,rfl,q⟩;rw[aE]
 lia
inductive Dk (x:V)(vs:List V)(H:Hp)(Q:VK):Prop
 |mk (l xs y:_)(_:x=.ref l)(_:vs=[])(_:H l=some (.lst xs))(_:xs[xs.length-1]?=some y)(_:Q y (upd H l (.lst xs.dropLast))):Dk x vs H Q
def Hz:V→List V→Hp→VK→Prop:=fun x vs H Q=>Dk x vs H Q
theorem zI:Gk X "list.pop" Hz:=by
 intro pins s σ H x vs v us Q I o t h;obtain⟨l,xs,y,rfl,rfl,g,j,q⟩:=h;cases o;have d:=t.zero;subst d;obtain⟨z,a,n,r,i,e⟩:=I.Jq g;obtain⟨u,m,p⟩:=r.get j;have b:a.toArray[a.toArray.size-1]?=some u:=by
  show a.toArray[a.length-1]?=some u;rw[←bR,←i];exact m
 refine call_meets F.slot_list_pop ⟨_,e,rfl⟩ F.entry_list_pop (F.args_list_pop_1 _) (MeetsSeq.list_pop_last l a.toArray n u b (by rw[aO];lia)) ⟨e,?_⟩;refine⟨y,_,I.Jp (its':=a.dropLast) g e ?_ r.dropLast ?_,p,q⟩
 ·show a.toArray.eraseIdxIfInBounds (a.toArray.size-1)=a.dropLast.toArray;rw[aO,List.eraseIdxIfInBounds_toArray,ve]
 ·rw[List.length_dropLast]
  lia
section
variable {prog:Program}
end
section
variable {κ:Type} [DecidableEq κ]
def eN (kvs:List (κ×V))(k:κ):Option V:=(kvs.find? fun kv=>decide (kv.1=k)).map (·.2)
def eY (kvs:List (κ×V))(k:κ)(v:V):List (κ×V):=
 if (kvs.any fun kv=>decide (kv.1=k))=true then kvs.map (fun kv=>if kv.1=k then (kv.1,v) else kv) else kvs++[(k,v)]
def jq (kvs:List (κ×V))(k:κ):List (κ×V):=kvs.filter fun kv=>decide (kv.1≠k)
theorem fX {p:κ×V}{r:List (κ×V)}{k:κ}(e:p.1=k):eN (p::r) k=some p.2:=by simp[eN,bi,e]
theorem fQ {p:κ×V}{r:List (κ×V)}{k:κ}(e:¬p.1=k):eN (p::r) k=eN r k:=by simp[eN,bi,e]
theorem iG (k:κ):∀kvs:List (κ×V),(kvs.any fun kv=>decide (kv.1=k))=(eN kvs k).isSome
 |[]=>rfl
 |p::r=>by
  rw[List.any_cons];by_cases e:p.1=k
  ·simp only[fX e,ao e,Bool.true_or,Option.isSome_some]
  ·rw[fQ e,au e,Bool.false_or];exact iG k r
theorem sv (k j:κ)(y:V):∀kvs:List (κ×V),eN (kvs.map fun kv=>if kv.1=k then (kv.1,y) else kv) j=(eN kvs j).map fun x=>if j=k then y else x
 |[]=>rfl
 |p::r=>by
  have ih:=sv k j y r;rw[aD];by_cases h:p.1=k
  ·rw[if_pos h];by_cases e:p.1=j
   ·rw[fX (p:=(p.1,y)) e,fX e,Option.map_some,if_pos (e.symm.trans h)]
   ·rw[fQ (p:=(p.1,y)) e,fQ e,ih]
  ·rw[if_neg h];by_cases e:p.1=j
   ·rw[fX (p:=p) e,fX e,Option.map_some,if_neg (fun z=>h (e.trans z))]
   ·rw[fQ (p:=p) e,fQ e,ih]
theorem pY (k j:κ)(y:V):∀kvs:List (κ×V),eN kvs k=none→eN (kvs++[(k,y)]) j=if j=k then some y else eN kvs j
 |[],_=>by
  by_cases e:k=j
  ·rw[if_pos e.symm];exact fX (p:=(k,y)) e
  ·rw[if_neg (fun z=>e z.symm)];exact fQ (p:=(k,y)) e
 |p::r,hn=>by
  rw[cY];have hk:¬p.1=k:=fun z=>by rw[fX z]at hn;cases hn
  rw[fQ hk]at hn;have ih:=pY k j y r hn;by_cases e:p.1=j
  ·rw[fX e,fX e,if_neg (fun z=>hk (e.trans z))]
  ·rw[fQ e,fQ e,ih]
theorem fJ (kvs:List (κ×V))(k j:κ)(y:V):eN (eY kvs k y) j=if j=k then some y else eN kvs j:=by
 unfold eY;by_cases a:(kvs.any fun b=>decide (b.1=k))=true
 ·rw[if_pos a,sv];rw[iG]at a;by_cases e:j=k
  ·obtain⟨x,d⟩:=Option.isSome_iff_exists.mp a;rw[if_pos e,e,d,Option.map_some,if_pos rfl]
  ·rw[if_neg e];cases eN kvs j with
   |none=>rfl
   |some x=>rw[Option.map_some,if_neg e]
 ·rw[if_neg a];refine pY k j y kvs ?_;rw[iG]at a;cases q:eN kvs k with
  |none=>rfl
  |some x=>rw[q]at a;exact(a rfl).elim
theorem fD (kvs:List (κ×V))(k:κ)(v:V):(eY kvs k v).length≤kvs.length+1:=by
 unfold eY
 split
 ·rw[ab];lia
 ·rw[aE,aB,List.length_nil];lia
theorem gR {kvs:List (κ×V)}{k:κ}(v:V)(h:eN kvs k=none):eY kvs k v=kvs++[(k,v)]:=by
 unfold eY;rw[iG,h];exact if_neg (by decide)
theorem jc.Jr {u:Option Value}(r:jc o u):o.isSome=u.isSome:=by
 cases o with
 |none=>cases u with
  |none=>rfl
  |some _=>exact(show False from r).elim
 |some _=>cases u with
  |none=>exact(show False from r).elim
  |some _=>rfl
theorem jc.getD {u:Option Value}{d:V}{d':Value}(r:jc o u)(rd:eT d d'):eT (o.getD d) (u.getD d'):=by
 cases o with
 |none=>cases u with
  |none=>exact rd
  |some _=>exact(show False from r).elim
 |some _=>cases u with
  |none=>exact(show False from r).elim
  |some _=>exact r
theorem KV.val {kvs:List (κ×V)}{vs:List (κ×Value)}(r:KV kvs vs)(k:κ):jc (eN kvs k) (valueAt vs k):=by
 unfold KV at r
 induction r with
 |nil=>exact True.intro
 |@cons p q ps qs h t ih=>
  obtain⟨h1,h2⟩:=h;by_cases e:p.1=k
  ·have a:q.1=k:=h1.symm.trans e;have b:valueAt (q::qs) k=some q.2:=by simp[valueAt,bi,a]
   rw[fX e,b];exact h2
  ·have a:¬q.1=k:=fun z=>e (h1.trans z);have b:valueAt (q::qs) k=valueAt qs k:=by simp[valueAt,bi,a]
   rw[fQ e,b];exact ih
theorem KV.any {kvs:List (κ×V)}{vs:List (κ×Value)}(r:KV kvs vs)(k:κ):(kvs.any fun kv=>decide (kv.1=k))=vs.any fun kv=>decide (kv.1=k):=by
 unfold KV at r
 induction r with
 |nil=>rfl
 |cons h t ih=>rw[List.any_cons,List.any_cons,ih,h.1]
theorem KV.Js {kvs:List (κ×V)}{vs:List (κ×Value)}(r:KV kvs vs)(k:κ){u:Value}(a:eT y u):KV (kvs.map fun kv=>if kv.1=k then (kv.1,y) else kv) (vs.map fun kv=>if kv.1=k then (kv.1,u) else kv):=by
 unfold KV at r ⊢
 induction r with
 |nil=>exact .nil
 |@cons p q ps qs h t ih=>
  rw[aD,aD];refine .cons ?_ ih;obtain⟨h1,h2⟩:=h;by_cases e:p.1=k
  ·rw[if_pos e,if_pos (h1.symm.trans e)];exact⟨h1,a⟩
  ·rw[if_neg e,if_neg (fun z=>e (h1.trans z))];exact⟨h1,h2⟩
theorem KV.put {kvs:List (κ×V)}{vs:List (κ×Value)}(r:KV kvs vs)(k:κ){u:Value}(a:eT y u):KV (eY kvs k y) (stored vs k u):=by
 unfold eY stored;rw[r.any k];by_cases e:(vs.any fun b=>decide (b.1=k))=true
 ·rw[if_pos e,if_pos e];exact r.Js k a
 ·rw[if_neg e,if_neg e];exact Paired.snoc r ⟨rfl,a⟩
theorem KV.drop {kvs:List (κ×V)}{vs:List (κ×Value)}(r:KV kvs vs)(k:κ):KV (jq kvs k) (without vs k):=by
 unfold KV at r ⊢;unfold jq without
 induction r with
 |nil=>exact .nil
 |@cons p q ps qs h t ih=>
  obtain⟨h1,h2⟩:=h;rw[aG,aG];by_cases e:p.1=k
  ·have a:¬decide (p.1≠k)=true:=by simp[e]
   have b:¬decide (q.1≠k)=true:=by simp[h1.symm.trans e]
   rw[if_neg a,if_neg b];exact ih
  ·have d:¬q.1=k:=fun z=>e (h1.trans z);have a:decide (p.1≠k)=true:=by simp[e]
   have b:decide (q.1≠k)=true:=by simp[d]
   rw[if_pos a,if_pos b];exact .cons ⟨h1,h2⟩ ih
theorem KV.keys {kvs:List (κ×V)}{vs:List (κ×Value)}(r:KV kvs vs):kvs.map (·.1)=vs.map (·.1):=by
 unfold KV at r
 induction r with
 |nil=>rfl
 |cons h t ih=>rw[aD,aD,ih,h.1]
theorem KV.length {kvs:List (κ×V)}{vs:List (κ×Value)}(r:KV kvs vs):kvs.length=vs.length:=Paired.length r
theorem Ae (kvs:List (κ×V))(k:κ):(jq kvs k).length≤kvs.length:=bt _ _
end
theorem lR {k:fZ}{u:Value}(r:eT (kV k) u):(fg P w).is k u=true:=by
 cases k with
 |inl i=>obtain⟨t,e⟩:=(show ∃t,u=Value.int i t from r);subst e;exact sW P w i t
 |inr x=>obtain⟨t,e⟩:=(show ∃t,u=Value.str x t from r);subst e;exact sV P w x t
theorem ql {P:Program}{w:World}:∀{ks:List fZ} {us:List Value},fH (ks.map kV) us→ItemsAre (fg P w) ks us
 |[],_,r=>by rw[cM]at r;cases r;exact .nil
 |k::ks,_,r=>by
  rw[aD]at r;cases r with
  |cons h t=>exact .cons (lR h) (ql t)
abbrev KT (H:Hp):List (List fZ×V)→List (List fZ×Addr×Value)→Prop:=Paired fun p q=>p.1=q.1∧H q.2.1=some (.tup (p.1.map kV))∧eT p.2 q.2.2
theorem KT.val {kvs:List (List fZ×V)}{xs:List (List fZ×Addr×Value)}(r:KT H kvs xs)(k:List fZ):jc (eN kvs k) ((atKey xs k).map (·.2)):=by
 induction r with
 |nil=>exact True.intro
 |@cons p q ps qs h t ih=>
  obtain⟨h1,_,h2⟩:=h;by_cases e:p.1=k
  ·have a:q.1=k:=h1.symm.trans e;have b:atKey (q::qs) k=some q.2:=by simp[atKey,bi,a]
   rw[fX e,b];exact h2
  ·have a:¬q.1=k:=fun z=>e (h1.trans z);have b:atKey (q::qs) k=atKey qs k:=by simp[atKey,bi,a]
   rw[fQ e,b];exact ih
theorem KT.Js {kvs:List (List fZ×V)}{xs:List (List fZ×Addr×Value)}(r:KT H kvs xs)(k:List fZ){u:Value}(b:eT y u):KT H (kvs.map fun kv=>if kv.1=k then (kv.1,y) else kv) (xs.map (putAt k u)):=by
 induction r with
 |nil=>exact .nil
 |@cons p q ps qs h t ih=>
  rw[aD,aD];refine .cons ?_ ih;obtain⟨h1,h2,a⟩:=h;unfold putAt;by_cases e:p.1=k
  ·rw[if_pos e,if_pos (h1.symm.trans e)];exact⟨h1,h2,b⟩
  ·rw[if_neg e,if_neg (fun z=>e (h1.trans z))];exact⟨h1,h2,a⟩
theorem KT.put {kvs:List (List fZ×V)}{xs:List (List fZ×Addr×Value)}(r:KT H kvs xs)(k:List fZ){b:Addr}{u:Value}(g:H b=some (.tup (k.map kV)))(a:eT y u):KT H (eY kvs k y) (storedH xs k b u):=by
 have e:(kvs.any fun d=>decide (d.1=k))=(atKey xs k).isSome:=by
  rw[iG,(r.val k).Jr,Option.isSome_map]
 unfold eY storedH;rw[e];by_cases q:(atKey xs k).isSome=true
 ·rw[if_pos q,if_pos q];exact r.Js k a
 ·rw[if_neg q,if_neg q];exact Paired.snoc r ⟨rfl,g,a⟩
theorem KT.keeps {kvs:List (List fZ×V)}{xs:List (List fZ×Addr×Value)}(r:KT H kvs xs)(ht:∀b ys,H b=some (.tup ys)→H' b=some (.tup ys)):KT H' kvs xs:=
 Paired.Ja r fun _ _ z=>⟨z.1,ht _ _ z.2.1,z.2.2⟩
section
variable {h:Heap}
theorem yW {u:HO}(ok:kF P w H h)(e:Rd H a u):fC P w H h a u:=e.ok ok
theorem j9 (ok:kF P w H h)(e:Rd H a (.dK kvs)):kvs.length≤sizeLine∧(a == sysModules)=false∧∃vs,KV kvs vs∧h.DictOf (fg P w) a vs:=
 show fC P w H h a (.dK kvs) from yW ok e
theorem qp (ok:kF P w H h)(e:H a=some (.dK kvs)):kvs.length≤sizeLine∧(a == sysModules)=false∧∃vs,KV kvs vs∧h.DictOf (fg P w) a vs:=j9 ok (.inl e)
theorem ll {ks:List fZ}(ok:kF P w H h)(e:H a=some (.tup (ks.map kV))):(tupleKind (fg P w)).is h ks a:=by
 obtain⟨_,b,r,o,h1,h2,n,d⟩:=(show fC P w H h a (.tup (ks.map kV)) from ok a _ e);exact⟨o,b.toArray,n,h1,h2,d,by simpa using ql r⟩
theorem pf {kvs:List (List fZ×V)}(ok:kF P w H h)(e:Rd H a (.dT kvs)):kvs.length≤sizeLine∧(a == sysModules)=false∧∃xs,KT H kvs xs∧h.DictOfH (tupleKind (fg P w)) a xs:=by
 obtain⟨z,y,xs,r,o,es,ep,h1,h2,b,d,g⟩:=(show fC P w H h a (.dT kvs) from yW ok e);refine⟨z,y,xs,r,o,es,ep,h1,h2,b,d,fun x hx=>?_,g⟩;have all:∀{l:List (List fZ×V)} {m:List (List fZ×Addr×Value)},KT H l m→∀x∈m,(tupleKind (fg P w)).is h x.1 x.2.1:=by
  intro l m q
  induction q with
  |nil=>intro x hx;exact nomatch hx
  |@cons p q ps qs hq t ih=>
   intro x hx;rcases ak.mp hx with e | hx
   ·subst e;exact ll ok (by rw[←hq.1];exact hq.2.1)
   ·exact ih x hx
 exact all r x hx
theorem FU {kvs:List (List fZ×V)}(ok:kF P w H h)(e:H a=some (.dT kvs)):kvs.length≤sizeLine∧(a == sysModules)=false∧∃xs,KT H kvs xs∧h.DictOfH (tupleKind (fg P w)) a xs:=pf ok (.inl e)
end
def hJ (H:Hp)(a:Addr)(y:V)(r:Option V):Prop:=
 (∃kvs k,Rd H a (.dK kvs)∧y=kV k∧r=eN kvs k)∨∃kvs k b,Rd H a (.dT kvs)∧y=.ref b∧H b=some (.tup (k.map kV))∧r=eN kvs k
def ki (H:Hp)(a:Addr)(y v:V)(H':Hp):Prop:=
 (∃kvs k,H a=some (.dK kvs)∧y=kV k∧kvs.length<sizeLine∧H'=upd H a (.dK (eY kvs k v)))∨
 ∃kvs k b,H a=some (.dT kvs)∧y=.ref b∧H b=some (.tup (k.map kV))∧kvs.length<sizeLine∧H'=upd H a (.dT (eY kvs k v))
theorem hJ.k {k:fZ}(e:H a=some (.dK kvs)):hJ H a (kV k) (eN kvs k):=.inl ⟨kvs,k,.inl e,rfl,rfl⟩
theorem ki.k {k:fZ}(e:H a=some (.dK kvs))(hl:kvs.length<sizeLine):ki H a (kV k) v (upd H a (.dK (eY kvs k v))):=.inl ⟨kvs,k,e,rfl,hl,rfl⟩
section
variable {u r:Value}
theorem eM.big (I:eM X pins σ H s):sysModules<s.heap.objs.size:=by
 have h:mainGlobals<s.heap.objs.size:=(I.mod.glob.keeps I.bk).lt;exact Nat.lt_trans (by decide) h
theorem x5 (x:A.units+1<cLine)(I:eM X pins σ H s)(g:hJ H a y (some v))(r:eT y u)(h:∀w' s',eM X pins σ H s'→eT v w'→Q w' s'):wpAny (model X.prog X.w) A (getItem (.ref a) u) Q E s:=by
 rcases g with ⟨kvs,k,e,m,l⟩ | ⟨kvs,k,b,e,m,B,l⟩
 ·subst m;obtain⟨z,t,vs,rel,j⟩:=j9 I.hok e;obtain⟨w',i,d⟩:=jc.some_of (v:=v) (o:=valueAt vs k) (by rw[l];exact rel.val k);exact wpAny_getItem_of (lR r) j.mapOf i (h w' _ (I.tok _) d)
 ·subst m;cases (show u=Value.ref b from r);obtain⟨z,t,xs,rel,j⟩:=pf I.hok e;obtain⟨w',i,d⟩:=jc.some_of (v:=v) (o:=(atKey xs k).map (·.2)) (by rw[l];exact rel.val k);obtain⟨p,hp,q⟩:=ax.mp i;refine wpAny_getItem_heap (dh x) (ll I.hok B) j hp ?_;rw[q];exact h w' _ (I.tok _) d
theorem HN (p:A.units+1<cLine)(I:eM X pins σ H s)(g:hJ H a y o)(m:eT y u)(h:∀s',eM X pins σ H s'→Q (.bool o.isSome) s'):wpAny (model X.prog X.w) A (compareOp .In u (.ref a)) Q E s:=by
 rcases g with ⟨kvs,k,e,i,l⟩ | ⟨kvs,k,b,e,i,r,l⟩
 ·subst i;obtain⟨z,d,vs,rel,j⟩:=j9 I.hok e;refine wpAny_in_of (lR m) d j.mapOf ?_;rw[←(rel.val k).Jr,←l];exact h _ (I.tok _)
 ·subst i;cases (show u=Value.ref b from m);obtain⟨z,d,xs,rel,j⟩:=pf I.hok e;refine wpAny_in_heap (dh p) (ll I.hok r) d j ?_;have q:=(rel.val k).Jr;rw[Option.isSome_map]at q;rw[←q,←l];exact h _ (I.tok _)
theorem Ct (p:A.units+1<cLine)(I:eM X pins σ H s)(g:hJ H a y o)(m:eT y u)(h:∀s',eM X pins σ H s'→Q (.bool (!o.isSome)) s'):wpAny (model X.prog X.w) A (compareOp .NotIn u (.ref a)) Q E s:=by
 rcases g with ⟨kvs,k,e,i,l⟩ | ⟨kvs,k,b,e,i,r,l⟩
 ·subst i;obtain⟨z,d,vs,rel,j⟩:=j9 I.hok e;refine wpAny_notIn_of (lR m) d j.mapOf ?_;rw[←(rel.val k).Jr,←l];exact h _ (I.tok _)
 ·subst i;cases (show u=Value.ref b from m);obtain⟨z,d,xs,rel,j⟩:=pf I.hok e;refine wpAny_notIn_heap (dh p) (ll I.hok r) d j ?_;have q:=(rel.val k).Jr;rw[Option.isSome_map]at q;rw[←q,←l];exact h _ (I.tok _)
theorem jr {h':Heap}{t':Nat}{ob:HO}(I:eM X pins σ H s)(mu:Gj (H a))(hs:Heap.SameBut a s.heap h')(he:∃q,h'.get? a=some q)(new:fC X.prog X.w (upd H a ob) h' a ob):eM X pins σ (upd H a ob) {s with heap:=h',toks:=t'}:=
 I.write (x:=a) (e:=a) mu (.inl rfl) (fun b q hb z=>(hs.2 b hb).trans z) he new
theorem pr {h':Heap}{vs:List (fZ×Value)}(z:kvs.length≤sizeLine)(hd:(a == sysModules)=false)(rel:KV kvs vs)(dd:h'.DictOf (fg P w) a vs):fC P w H' h' a (.dK kvs):=⟨z,hd,vs,rel,dd⟩
theorem x4 {Q:Unit→Shared→Prop}(L:A.units+1<cLine)(I:eM X pins σ H s)(g:ki H a y v H')(G:eT y u)(F:eT v r)(h:∀s',eM X pins σ H' s'→Q () s'):wpAny (model X.prog X.w) A (setItem (.ref a) u r) Q E s:=by
 rcases g with ⟨kvs,k,e,B,l,m⟩ | ⟨kvs,k,b,e,B,D,l,m⟩
 ·subst B m;obtain⟨z,j,vs,rel,x⟩:=qp I.hok e;have o:vs.length≤sizeLine:=by rw[←rel.length];exact z
  have p:(eY kvs k v).length≤sizeLine:=by have:=fD kvs k v;lia
  refine wpAny_setItem_pairs (hsz:=o) (lR G) x fun h' d t=>h _ ?_;have N:∃q,h'.get? a=some q:=(by obtain⟨q,_,_,i,_⟩:=d;exact⟨q,i⟩);exact jr I (by rw[e];exact True.intro) t N (pr p j (rel.put k F) d)
 ·subst B m;cases (show u=Value.ref b from G);obtain⟨z,j,xs,rel,x⟩:=FU I.hok e;have o:xs.length≤sizeLine:=by rw[←Paired.length rel];exact z
  have p:(eY kvs k v).length≤sizeLine:=by have:=fD kvs k v;lia
  refine wpAny_setItem_heap (hsz:=o) (dh L) (ll I.hok D) x fun h' d t=>h _ ?_;obtain⟨q,es,ep,i,h2,M,J,_,K⟩:=d;refine jr I (by rw[e];exact True.intro) t ⟨q,i⟩ ⟨p,j,_,(rel.put k D F).keeps fun c ys C=>?_,q,es,ep,i,h2,M,J,K⟩;rw[dY (fe C e (fun z=>nomatch z))];exact C
end
section
variable {k:fZ}{u:Value}
theorem FW {more:List Value}(I:eM X pins σ H s)(e:H a=some (.dK kvs))(d:eT (kV k) u)(l:eN kvs k=some v)(m:more=[]∨∃x,more=[x])(h:∀w' s',eM X pins σ (upd H a (.dK (jq kvs k))) s'→eT v w'→Q w' s'):wpAny (model X.prog X.w) A (call (.builtin "dict.pop") (.ref a::u::more)) Q E s:=by
 obtain⟨z,p,vs,rel,j⟩:=qp I.hok e;obtain⟨w',r,g⟩:=jc.some_of (v:=v) (o:=valueAt vs k) (by rw[←l];exact rel.val k);have hp:(keyPart u).isSome=true:=by
  cases k with
  |inl i=>obtain⟨t,q⟩:=(show ∃t,u=Value.int i t from d);subst q;rfl
  |inr x=>obtain⟨t,q⟩:=(show ∃t,u=Value.str x t from d);subst q;rfl
 have D:argsOk "dict.pop" ⟨.ref a::u::more,[]⟩:=by
  rcases m with q | ⟨x,q⟩
  ·subst q;exact PySem.F.args_dict_pop_2 _ _
  ·subst q;exact PySem.F.args_dict_pop_3 _ _ _
 refine call_meetsIn PySem.F.slot_dict_pop j.typeIs PySem.F.entry_dict_pop D (meets_dict_pop_there (fg X.prog X.w) a (lR d) more m hp)
  ⟨vs,w',j,by rw[←rel.length];exact z,r,fun h' b y=>h w' _ ?_ g⟩
 have C:∃q,h'.get? a=some q:=(by obtain⟨q,_,_,B,_⟩:=b;exact⟨q,B⟩);exact jr I (by rw[e];exact True.intro) y C (pr (bj (Ae kvs k) z) p (rel.drop k) b)
theorem FX (I:eM X pins σ H s)(e:Rd H a (.dK kvs))(h:∀t s',eM X pins σ H s'→Q (.int kvs.length t) s'):wpAny (model X.prog X.w) A (call (.builtin "len") [.ref a]) Q E s:=by
 obtain⟨z,b,vs,rel,d⟩:=j9 I.hok e;refine call_len_dict b d (by rw[←rel.length];rw[ce]at z;lia) ?_;rw[←rel.length];exact h _ _ (I.tok _)
end
def EH (i:Expr):Prop:=∀ov iv,subscripted i false ov iv=operate [ov,iv] (getItem ov iv)
theorem vG {prog:Program}{env:Env}{value slice:Expr}{id:String}(d:typeLookup (.type T) "__getitem__" = pure (some (.builtin id)))(e:EH slice)(h:wpAny (model prog w) A (eval value env) (fun o s₁=>wpAny (model prog w) A (eval slice env) (fun i s₂=>s₂.TypeIs o T∧wpAny (model prog w) A (getItem o i) Q E s₂) E s₁) E s):wpAny (model prog w) A (eval (.Subscript value slice pos) env) Q E s:=by
 refine Subscript_ (bO h (fun o s₁ h₁=>bO h₁ (fun i s₂ h₂=>?_) fun _ _ x=>x) fun _ _ x=>x);obtain⟨b,h₂⟩:=h₂;unfold subscriptTail;refine ac ?_;rw[getitemInPython_of_ne b.not_modules];refine ac (wpAny_specialOf b d ?_);have a:wpAny (model prog w) A (subscripted slice false o i) (fun r s₃=>wpAny (model prog w) A (letTemporaryGo value o r >>= fun _=>pure r) Q E s₃) E s₂:=by
  rw[e o i];exact wpAny_operating (bO h₂ (fun r s₃ h₃=>ac (wpAny_letTemporaryGo (ar h₃))) fun _ _ x=>x)
 first
  |exact ar (ac a)
  |exact ac (ar (ac a))
  |exact ac a
theorem tH (I:eM X pins σ H s)(g:hJ H a y o):s.TypeIs (.ref a) "dict":=by
 rcases g with ⟨kvs,k,e,_,_⟩ | ⟨kvs,k,b,e,_,_,_⟩
 ·obtain⟨_,_,vs,_,d⟩:=j9 I.hok e;exact d.typeIs
 ·obtain⟨_,_,xs,_,d⟩:=pf I.hok e;exact d.typeIs
inductive AU (Q:VK)(x:V)(y:V)(H2:Hp):Prop
 |mk (a v:_)(_:x=.ref a)(_:hJ H2 a y (some v))(_:Q v H2):AU Q x y H2
def CA (td ty:TE):TE:=fun σ H Q=>td σ H fun x H1=>ty σ H1 fun y H2=>AU Q x y H2
inductive Dg (Q:VK)(y:V)(x:V)(H2:Hp):Prop
 |mk (a o:_)(_:x=.ref a)(_:hJ H2 a y o)(_:Q (.bl o.isSome) H2):Dg Q y x H2
def Fb (ty td:TE):TE:=fun σ H Q=>ty σ H fun y H1=>td σ H1 fun x H2=>Dg Q y x H2
inductive t9 (Q:VK)(y:V)(x:V)(H2:Hp):Prop
 |mk (a o:_)(_:x=.ref a)(_:hJ H2 a y o)(_:Q (.bl (!o.isSome)) H2):t9 Q y x H2
def Bg (ty td:TE):TE:=fun σ H Q=>ty σ H fun y H1=>td σ H1 fun x H2=>t9 Q y x H2
inductive AX (D:lV)(σ:St)(v:V)(x:V)(y:V)(H3:Hp):Prop
 |mk (a H4:_)(_:x=.ref a)(_:ki H3 a y v H4)(_:D.nx σ H4):AX D σ v x y H3
def Fx (td ty tv:TE):TS:=fun D σ H=>tv σ H fun v H1=>td σ H1 fun x H2=>ty σ H2 fun y H3=>AX D σ v x y H3
section
variable {o i value:Expr}{pos' tpos:Pos}{td ty tv:TE}
theorem fL (j:X.A.units+1<cLine)(e:PE X o td)(hi:PE X i ty)(r:EH i):PE X (.Subscript o i pos) (CA td ty):=by
 intro pins s σ H Q I h;refine vG PySem.F.slot_dict_getitem.lookup r (fG (e pins s σ H _ I h) ?_);rintro u l ⟨x,H1,p,m,w⟩;refine fG (hi pins l σ H1 _ p w) ?_;rintro E C ⟨y,H2,d,q,a,v,ex,g,z⟩;subst ex;obtain rfl:u=Value.ref a:=m;exact⟨tH d g,x5 j d g q fun B D t b=>⟨v,H2,t,b,z⟩⟩
theorem rL (p:X.A.units+1<cLine)(hi:PE X i ty)(b:PE X o td):PC X .In i o (Fb ty td):=by
 intro pins s σ H Q I h;refine fG (hi pins s σ H _ I h) ?_;rintro B d ⟨y,H1,l,m,r⟩;refine fG (b pins d σ H1 _ l r) ?_;rintro u w ⟨x,H2,t,e,a,j,ex,g,v⟩;subst ex;obtain rfl:u=Value.ref a:=e;exact HN p t g m fun z q=>⟨.bl j.isSome,H2,q,rfl,v⟩
theorem kr (p:X.A.units+1<cLine)(hi:PE X i ty)(b:PE X o td):PC X .NotIn i o (Bg ty td):=by
 intro pins s σ H Q I h;refine fG (hi pins s σ H _ I h) ?_;rintro B d ⟨y,H1,l,m,r⟩;refine fG (b pins d σ H1 _ l r) ?_;rintro u w ⟨x,H2,t,e,a,j,ex,g,v⟩;subst ex;obtain rfl:u=Value.ref a:=e;exact Ct p t g m fun z q=>⟨.bl (!j.isSome),H2,q,rfl,v⟩
theorem iB (B:X.A.units+1<cLine)(w:PE X o td)(hi:PE X i ty)(G:PE X value tv)(E:swapsWith value (some (.Subscript o i pos')) pos.line X.env=pure false):PS X (.Assign [.Subscript o i pos'] value pos) (Fx td ty tv):=by
 intro pins s σ H D I h;refine wpAny_Assign_Subscript (fG (G pins s σ H _ I h) ?_) E;rintro r z ⟨v,H1,d,t,m⟩;refine fG (w pins z σ H1 _ d m) ?_;rintro u l ⟨x,H2,q,C,J⟩;refine fG (hi pins l σ H2 _ q J) ?_;rintro N M ⟨y,L,e,F,a,j,ex,g,p⟩;subst ex;obtain rfl:u=Value.ref a:=C;exact x4 B e g F t fun K b=>⟨σ,j,b,p⟩
end
theorem pw (h:Heap)(hb:sysModules<h.objs.size):fC P w H (h.push {cls:=.type "dict",data:=.dict #[]}) h.objs.size (.dK []):=
 ⟨bp _,beq_eq_false_iff_ne.mpr (Ne.symm (aX hb)),[],.nil,Heap.DictOf.new h⟩
def DD:TE:=fun _ H Q=>∀p,H p=none→Q (.ref p) (upd H p (.dK []))
theorem gH:PE X (.Dict [] [] pos) DD:=fun pins s σ H Q I h=>
 wpAny_Dict_empty ⟨.ref s.heap.objs.size,_,I.laid (a:=s.heap.objs.size) (o:=.dK []) (t':=s.toks) (fun _ _ q=>aC _ q) (aq _) (pw s.heap I.big),rfl,h _ (I.hok.fresh (aq _))⟩
def qF:List (TE×TE)→St→Hp→(List (V×V)→Hp→Prop)→Prop
 |[],_,H,Q=>Q [] H
 |(tk,tv)::r,σ,H,Q=>tk σ H fun x H1=>tv σ H1 fun y H2=>qF r σ H2 fun ps H3=>Q ((x,y)::ps) H3
abbrev VV:List (V×V)→List (Value×Value)→Prop:=Paired fun p q=>eT p.1 q.1∧eT p.2 q.2
def Gg (X:Cx)(pos:Pos)(keys:List (Option Expr))(values:List Expr)(trs:List (TE×TE)):Prop:=
 ∀(pins:List (Addr×Obj)) (s:Shared) (σ:St) (H:Hp) (Q:List (V×V)→Hp→Prop),eM X pins σ H s→qF trs σ H Q→
  wpAny (model X.prog X.w) X.A (evalPairs (pairTrees keys values X.env pos)) (fun vs s'=>∃ps H',eM X pins σ H' s'∧VV ps vs∧Q ps H') X.xe s
theorem vO:Gg X pos [] [] []:=fun pins s σ H Q I h=>pairTrees_nil_walk ⟨[],H,I,.nil,h⟩
theorem sN {k v:Expr}{ks:List (Option Expr)}{vs:List Expr}{tk tv:TE}{trs:List (TE×TE)}(hk:PE X k tk)(hv:PE X v tv)(hr:Gg X pos ks vs trs):Gg X pos (some k::ks) (v::vs) ((tk,tv)::trs):=fun pins s σ H Q I h=>
 pairTrees_cons_walk (fG (hk pins s σ H _ I h) fun u s1 ⟨x,H1,I1,rx,q1⟩=>fG (hv pins s1 σ H1 _ I1 q1) (by rintro w2 s2 ⟨y,H2,I2,ry,q2⟩;exact fG (hr pins s2 σ H2 _ I2 q2) (by rintro ws s3 ⟨ps,H3,I3,rel,q3⟩;exact⟨(x,y)::ps,H3,I3,.cons ⟨rx,ry⟩ rel,q3⟩)))
def jz (kvs more:List (fZ×V)):List (fZ×V):=more.foldl (fun acc kv=>eY acc kv.1 kv.2) kvs
theorem KV.merge:∀{more:List (fZ×V)} {rs:List (fZ×Value)} {kvs:List (fZ×V)} {vs:List (fZ×Value)},KV more rs→KV kvs vs→KV (jz kvs more) (merged vs rs):=by
 intro more rs kvs vs r;unfold KV at r
 induction r generalizing kvs vs with
 |nil=>intro q;exact q
 |@cons p q ps qs h t ih=>
  intro a;have e:KV (eY kvs p.1 p.2) (stored vs q.1 q.2):=by
   have:=a.put p.1 h.2;rw[←h.1];exact this
  exact ih e
theorem kT:∀(more kvs:List (fZ×V)),(jz kvs more).length≤kvs.length+more.length
 |[],kvs=>by show kvs.length≤kvs.length+0;lia
 |p::r,kvs=>by
  have h1:=kT r (eY kvs p.1 p.2);have h2:=fD kvs p.1 p.2;show(jz (eY kvs p.1 p.2) r).length≤_;rw[aB];lia
theorem pB {P:Program}{w:World}:∀{kvs:List (fZ×V)} {ws:List (Value×Value)},VV (kvs.map fun kv=>(kV kv.1,kv.2)) ws→∃rs,Carries (fg P w) ws rs∧KV kvs rs
 |[],_,r=>by rw[cM]at r;cases r;exact⟨[],True.intro,.nil⟩
 |p::kvs,_,r=>by
  rw[aD]at r;cases r with
  |@cons a b as bs h t=>
   obtain⟨rs,c,q⟩:=pB (P:=P) (w:=w) t;obtain⟨b1,b2⟩:=b;exact⟨(p.1,b2)::rs,⟨lR h.1,rfl,c⟩,.cons ⟨rfl,h.2⟩ q⟩
def E9 (trs:List (TE×TE)):TE:=fun σ H Q=>∀p,H p=none→qF trs σ (upd H p (.dK [])) fun ps H2=>H2 p=some (.dK [])∧∃kvs:List (fZ×V),ps=kvs.map (fun kv=>(kV kv.1,kv.2))∧kvs.length≤15∧Q (.ref p) (upd H2 p (.dK (jz [] kvs)))
theorem BH {keys:List (Option Expr)}{values:List Expr}{trs:List (TE×TE)}(h:Gg X pos keys values trs)(b:keys.all (·.isSome)=true)(y:keys.length=values.length)(l:keys≠[])(g:keys.length≤15):PE X (.Dict keys values pos) (E9 trs):=by
 intro pins s σ H Q I q;have B:=I.hok.fresh (aq s.heap.objs.size);have m:=I.laid (a:=s.heap.objs.size) (o:=.dK []) (h':=s.heap.push {cls:=.type "dict",data:=.dict #[]}) (t':=s.toks) (fun _ _ q=>aC _ q) (aq _) (pw s.heap I.big);refine wpAny_Dict_walk (knd:=fg X.prog X.w) b y l g (fG (h pins _ σ _ _ m (q _ B)) ?_);rintro K J ⟨ps,H2,i,rel,e,kvs,ep,G,F⟩;subst ep;obtain⟨x,c,t⟩:=pB (P:=X.prog) (w:=X.w) rel;obtain⟨z,j,D,r,C⟩:=qp i.hok e;cases r;refine⟨x,c,C,fun h' d A=>⟨.ref s.heap.objs.size,_,?_,rfl,F⟩⟩;have v:(jz [] kvs).length≤sizeLine:=by
  have h1:=kT kvs [];rw[List.length_nil]at h1;rw[ce];lia
 have E:∃q,h'.get? s.heap.objs.size=some q:=(by obtain⟨q,_,_,p,_⟩:=d;exact⟨q,p⟩);exact jr i (by rw[e];exact True.intro) A E (pr v j (t.merge .nil) d)
structure M1 (X:Cx)(o:Expr)(m:Str)(apos:Pos)(e:Expr)(cpos:Pos):Prop where
 base:attributeBase o m X.env (eval o X.env)=eval o X.env
 few:((backTo cpos (starEach [e] X.env)).all (fun x=>!x.1)&&(backToKw cpos (keywordEach [] X.env)).all (fun x=>x.1.isSome)&&decide (([e]:List Expr).length+([]:List Keyword).length+(if ([]:List Keyword).isEmpty then 0 else 1)<30))=true
 line:(apos.endLine == cpos.line)=true
 trees:backTo cpos (starEach [e] X.env)=[(false,eval e X.env)]
structure M2 (X:Cx)(o:Expr)(m:Str)(apos:Pos)(e f:Expr)(cpos:Pos):Prop where
 base:attributeBase o m X.env (eval o X.env)=eval o X.env
 few:((backTo cpos (starEach [e,f] X.env)).all (fun x=>!x.1)&&(backToKw cpos (keywordEach [] X.env)).all (fun x=>x.1.isSome)&&decide (([e,f]:List Expr).length+([]:List Keyword).length+(if ([]:List Keyword).isEmpty then 0 else 1)<30))=true
 line:(apos.endLine == cpos.line)=true
 trees:backTo cpos (starEach [e,f] X.env)=[(false,eval e X.env),(false,eval f X.env)]
def Gs (H:Hp)(a:Addr):Prop:=(∃kvs,Rd H a (.dK kvs))∨∃kvs,Rd H a (.dT kvs)
theorem u8 (I:eM X pins σ H s)(d:Gs H a):s.TypeIs (.ref a) "dict"∧(∀b,Value.ref a=.ref b→∃ob,s.heap.get? b=some ob∧ob.dict=none)∧(a == sysModules)=false:=by
 rcases d with ⟨kvs,e⟩ | ⟨kvs,e⟩
 ·obtain⟨_,h,vs,_,g⟩:=j9 I.hok e;refine⟨g.typeIs,fun b q=>?_,h⟩;cases q;obtain⟨ob,_,_,h1,h2,_⟩:=g;exact⟨ob,h1,h2.2.1⟩
 ·obtain⟨_,h,xs,_,g⟩:=pf I.hok e;refine⟨g.typeIs,fun b q=>?_,h⟩;cases q;obtain⟨ob,_,_,h1,h2,_⟩:=g;exact⟨ob,h1,h2.2.1⟩
section
variable {d:V}{u r:Value}
theorem Ez (q:A.units+1<cLine)(I:eM X pins σ H s)(g:hJ H a y o)(p:eT y u)(rd:eT d r)(h:∀w' s',eM X pins σ H s'→eT (o.getD d) w'→Q w' s'):wpAny (model X.prog X.w) A (call (.builtin "dict.get") [.ref a,u,r]) Q E s:=by
 rcases g with ⟨kvs,k,e,m,l⟩ | ⟨kvs,k,b,e,m,t,l⟩
 ·subst m;obtain⟨z,j,vs,rel,i⟩:=j9 I.hok e;refine call_meetsIn PySem.F.slot_dict_get i.typeIs PySem.F.entry_dict_get (PySem.F.args_dict_get_3 _ _ _) (meets_dict_get_default (fg X.prog X.w) a (lR p) j r) ⟨_,i.mapOf,h _ _ (I.tok _) ?_⟩;rw[l];exact(rel.val k).getD rd
 ·subst m;cases (show u=Value.ref b from p);obtain⟨z,j,xs,rel,i⟩:=pf I.hok e;refine call_meetsIn PySem.F.slot_dict_get i.typeIs PySem.F.entry_dict_get (PySem.F.args_dict_get_3 _ _ _) (meetsH_dict_get_default (tupleKind (fg X.prog X.w)) a b j r) ⟨dh q,k,xs,ll I.hok t,i,h _ _ (I.tok _) ?_⟩;rw[l];exact(rel.val k).getD rd
end
inductive wP (ty:TE)(tx:TE)(σ:St)(Q:VK)(x:V)(H1:Hp):Prop
 |mk (a:_)(_:x=.ref a)(_:Gs H1 a)(_:ty σ H1 fun y H2=>tx σ H2 fun z H3=>∃o,hJ H3 a y o∧Q (o.getD z) H3):wP ty tx σ Q x H1
def DF (td ty tx:TE):TE:=fun σ H Q=>td σ H fun x H1=>wP ty tx σ Q x H1
inductive wN (ty:TE)(σ:St)(Q:VK)(x:V)(H1:Hp):Prop
 |mk (a:_)(_:x=.ref a)(_:Gs H1 a)(_:ty σ H1 fun y H2=>∃kvs k v,H2 a=some (.dK kvs)∧y=kV k∧eN kvs k=some v∧Q v (upd H2 a (.dK (jq kvs k)))):wN ty σ Q x H1
def DB (td ty:TE):TE:=fun σ H Q=>td σ H fun x H1=>wN ty σ Q x H1
section
variable {o f:Expr}{apos cpos:Pos}{td ty tx:TE}
theorem jE (G:X.A.units+1<cLine)(C:PE X o td)(M:PE X e ty)(B:PE X f tx)(m:M2 X o "get" apos e f cpos):PE X (.Call (.Attribute o "get" apos) [e,f] [] cpos) (DF td ty tx):=by
 intro pins s σ H Q I h;refine dq m.base m.few m.line PySem.F.plainAttrs_dict PySem.F.slot_dict_get PySem.F.type_dict_get (fG (C pins s σ H _ I h) ?_);rintro u E ⟨x,H1,i,J,a,ex,d,t⟩;subst ex;obtain rfl:u=Value.ref a:=J;obtain⟨D,j,_⟩:=u8 i d;refine⟨D,j,?_⟩;rw[m.trees];refine Calls.callWith_builtin rfl (Calls.evalArgs_plain (Calls.spliced_cons (fG (M pins E σ H1 _ i t) fun T r ⟨y,H2,w,K,N⟩=>Calls.spliced_cons (fG (B pins r σ H2 _ w N) fun U S ⟨z,p,q,L,R,g,v⟩=>Calls.spliced_nil ?_))));exact Ez G q g K L fun P O l b=>⟨_,p,l,b,v⟩
theorem zg (r:PE X o td)(B:PE X e ty)(m:M1 X o "pop" apos e cpos):PE X (.Call (.Attribute o "pop" apos) [e] [] cpos) (DB td ty):=by
 intro pins s σ H Q I h;refine dq m.base m.few m.line PySem.F.plainAttrs_dict PySem.F.slot_dict_pop PySem.F.type_dict_pop (fG (r pins s σ H _ I h) ?_);rintro u w ⟨x,H1,g,z,a,ex,d,p⟩;subst ex;obtain rfl:u=Value.ref a:=z;obtain⟨t,i,_⟩:=u8 g d;refine⟨t,i,?_⟩;rw[m.trees];refine Calls.callWith_builtin rfl (Calls.evalArgs_plain (Calls.spliced_cons (fG (B pins w σ H1 _ g p) ?_)));rintro L J ⟨y,H2,q,A,kvs,k,v,D,C,l,E⟩;refine Calls.spliced_nil ?_;subst C;exact FW q D A l (.inl rfl) fun G K j b=>⟨v,_,j,b,E⟩
end
theorem Ai (I:eM X pins σ H s)(e:Rd H a (.dK kvs))(h:∀p s',H p=none→eM X pins σ (upd H p (.dK kvs)) s'→Q (.ref p) s'):wpAny (model X.prog X.w) A (call (.type "dict") [.ref a]) Q E s:=by
 obtain⟨z,i,vs,rel,l⟩:=j9 I.hok e;refine kt_call_dict i l (by rw[←rel.length];exact z) fun h' d j=>?_;refine h _ _ (I.hok.fresh (aq _)) (I.laid (a:=s.heap.objs.size) (o:=.dK kvs) (t':=s.toks) (fun b q g=>?_) (aq _) (pr z (beq_eq_false_iff_ne.mpr (Ne.symm (aX I.big))) rel d));exact(j.2 b (aX (aS g))).trans (aC _ g)
section
variable {u:Value}
end
end L2
namespace Att
open PySem PySem.W PySem.Calls PyProof.Rows
theorem ng {P:Params}{h:Heap}:∀(ns:List Int) (vs:List Value),WellAll P h vs (ns.map WData.int)→IntsAre vs ns:=by
 intro ns
 induction ns with
 |nil=>
  intro vs w;rw[cM]at w;cases w;exact .nil
 |cons n ns ih=>
  intro vs w;rw[aD]at w;cases w with
  |cons a b=>
   cases a;exact .cons _ _ (ih _ b)
theorem wZ {l:OpenLaw}{n:Nat}(t:l.most=some n){P:Params}{h:Heap}{args:List WData}{vals:List Value}(b:l.row.toRowW.claim.pre args=true)(m:WellAll P h vals args):∃a vs ns,vals=[Value.ref a]∧args=[WData.list (ns.map WData.int)]∧h.get? a=some {cls:=.type "list",data:=.seq vs.toArray}∧IntsAre vs ns∧ns.length≤n:=by
 have j:WShape.hasAll [] args [.list .int]=true:=(pre_splitW b).1;have o:l.pre.holds [] {args:=args}=true:=(pre_splitW b).2;obtain⟨d,r,rfl,h1,h2⟩:=hasAllW_cons j;obtain rfl:=hasAllW_nil h2;obtain⟨xs,rfl,p⟩:=hasW_list h1;obtain⟨ns,rfl⟩:=items_int p;have e:ns.length≤n:=by
  unfold OpenLaw.pre at o;have g:(WTm.not (.lt (.lit (.int (n:Int))) (.len (.arg 0)))).holds [] {args:=[.list (ns.map .int)]}=true:=by
   have g:=(holds_andW o).1;rw[t]at g;exact g
  have i:=condW_of g (w_not (w_lt w_lit (w_len_list (w_arg rfl))));rw[ab]at i;refine Nat.le_of_not_lt fun q=>?_;have s:(n:Int)<((ns.length:Nat):Int):=by lia
  first
   |(rw[ao s]at i;exact absurd i (by decide))
   |(simp at i;lia)
 cases m with
 |cons w1 w2=>
  cases w2;cases w1 with
  |list ho hall=>exact⟨_,_,ns,rfl,rfl,ho,ng ns _ hall,e⟩
theorem xf (l:OpenLaw)(args:List WData):l.row.toRowW.claim.post args (.bool true) args=true:=
 postW_of (r:=l.row.toRowW) (X:=(true == true))
  (show WShape.has [] (.bool true) .bool=true by first | rfl | decide | simp[WShape.has,WShape.arms,WShape.armsAll])
  (show(WTm.eq .res (.lit (.bool true))).value [] {args:=args,res:=some (.bool true),after:=args}=some (.bool (true == true)) from w_eq_bool (w_res rfl) w_lit) rfl
theorem tQ {l:OpenLaw}{n:Nat}{q:Program}{loose:List Str}{XP:(Str→Option Value)→Heap→Prop}{YP:World→Heap→Prop}{d:DefRec}(H:l.most=some n)(j:d.params.defaults=[])(call:∀(w:World) (s₀ s₁:Shared) (mg mb:Str→Option Value) (fa:Addr) (o:Obj) (pm cd doc:Value) (a:Addr) (vs:List Value) (ns:List Int),Ground q loose [] XP w s₀ mg mb s₁.heap→YP w s₁.heap→s₁.heap.get? fa=some o→o.data=.func (docDef d.name d.params d.body d.scope pm cd doc)→s₁.heap.CodeRec cd d.name→mg d.name=some (.ref fa)→s₁.heap.get? a=some {cls:=.type "list",data:=.seq vs.toArray}→IntsAre vs ns→ns.length≤n→s₁.gens=#[]→codeAny (model l.prog w) callerA (.call (.ref fa) ⟨[.ref a],[]⟩) (fun r s'=>r=.ok (.ret (.bool true))∧OldK s₁.heap s'.heap∧s'.os=s₁.os∧AllBare s'.gens) s₁):WalkO q loose XP YP l.row.toRowW d [] (fun f vs=>PySem.call f vs):=by
 intro w s₀ s₁ mg mb G Y fa o pm cd doc K kV D z p x m A t v L h y E i J;obtain rfl:K=.none:=Dflts.none x j;obtain rfl:kV=.none:=Dflts.noKw x;obtain⟨a,vs,ns,rfl,rfl,e,b,g⟩:=wZ H h i;refine enter_call (codeAny_mono (call w s₀ s₁ mg mb fa o pm cd doc a vs ns G Y D (fd_plain z) p m e b g A) fun r s' B=>?_);obtain⟨rfl,h2,F,C⟩:=B;exact⟨.inl ⟨.bool true,.bool true,[],rfl,fun _=>rfl,.bool true,xf l _,fun _=>⟨List.Pairwise.nil,fun _ I=>(nomatch I)⟩⟩,h2,F,C⟩
section
variable {prog:Program}{w:World}{A:Around}{E:Value→Shared→Prop}{s:Shared}{K:Frag}
end
end Att
namespace L2
open PySem PySem.Spec PyProof.Rows
variable {A B:Prop}{H:Hp}{qual x:Str}{st:Stmt}
theorem lX:∀{vs:List Value} {ns:List Int},IntsAre vs ns→fH (ns.map V.int) vs
 |_,_,.nil=>.nil
 |_,_,.cons n t h=>.cons ⟨t,rfl⟩ (lX h)
def fi (s:Stmt)(j:Nat):Stmt:=match s with
 |.ClassDef _ _ _ body _ _ _ _ _ _ _=>body.getD j (.Pass ⟨0,0,0,0⟩)
 |_=>.Pass ⟨0,0,0,0⟩
def gO (s:Stmt):Arguments:=match s with
 |.FunctionDef _ a _ _ _ _ _ _ _ _=>a
 |_=>{posonlyargs:=[],args:=[],vararg:=none,kwonlyargs:=[],kw_defaults:=[],kwarg:=none,defaults:=[]}
def gi (s:Stmt):List Stmt:=match s with
 |.FunctionDef _ _ b _ _ _ _ _ _ _=>b
 |_=>[]
def eA (s:Stmt):Scope:=match s with
 |.FunctionDef _ _ _ _ _ _ sc _ _ _=>sc
 |_=>{kind:=.function,names:=[],isGenerator:=false,isCoroutine:=false}
abbrev eZ:wT:=fun _ _ _ _ _ _=>False
abbrev E0:XK:=fun _ _ _=>False
theorem eP {X:Cx}:jA eZ X E0:=fun _ _ _ _ _ _ _ h=>h.elim
structure iL (K:W.Frag)(x qual:Str)(st:Stmt)(f:Addr)(fd:FuncData):Prop where
 ex:∃(oc:Value) (od:Option Addr) (kV doc pm:Value) (an:Option Addr) (cdv ct:Value) (osl:Array (Option Value)),
  fd=W.fnOf x qual (gO st) (gi st) (eA st) .none kV doc pm an cdv ct∧K.lookup f=some ⟨oc,od,.func fd,osl⟩∧W.codeIn K cdv qual=true
 kp:W.keepIn K (.ref f)=true
section
variable {P:Program}{w:World}{K:W.Frag}{mg:Str→Option Value}{base:Heap}
theorem iL.ok {f:Addr}{fd:FuncData}{N ps:List Str}{k:Nat}{sp:Sp}(F:iL K x qual st f fd)(S:eG N ps (eA st))(len:∀vs H Q E,sp vs H Q E→vs.length=ps.length)(a:∀(cdv:Value) (A:Around) (outer:List Env) (s:Shared) (H:Hp) (vs:List V) (Q:VK) (E:XK),gE k (A.deeper (envOfC qual (eA st) s.heap.objs.size f cdv))→sp vs H Q E→∃t,lW (tI eZ P w K mg base N qual (eA st) f cdv A outer s H E).nox (gi st) t∧t {nx:=fun _ H'=>Q .non H',rt:=Q} (start N vs) H):fb P w K mg base eZ (k+1) f fd ps sp:=by
 obtain⟨l,o,kV,i,pm,m,cdv,p,j,rfl,e,d⟩:=F.ex;refine CW e d S len fun A outer s H vs Q E g b=>?_;obtain⟨t,h,q⟩:=a cdv A outer s H vs Q E g b;exact⟨t,h.nox,q⟩
theorem iL.binds {f:Addr}{fd:FuncData}{ps:List Str}(F:iL K x qual st f fd)(h:∀(kV doc pm:Value) (an:Option Addr) (cdv ct:Value) (us:List Value),us.length=ps.length→bindArgs (W.fnOf x qual (gO st) (gi st) (eA st) .none kV doc pm an cdv ct) ⟨us,[]⟩=pure (ps.zip us)):gs K fd ps []:=by
 obtain⟨g,d,kV,doc,pm,an,cdv,ct,b,rfl,e,a⟩:=F.ex;exact .all (h kV doc pm an cdv ct)
theorem mq {f:Addr}{oc:Value}{od an:Option Addr}{osl:Array (Option Value)}{kV doc pm cdv ct:Value}(l:K.lookup f=some ⟨oc,od,.func (W.fnOf x qual (gO st) (gi st) (eA st) .none kV doc pm an cdv ct),osl⟩)(c:W.codeIn K cdv qual=true)(k:W.keepIn K (.ref f)=true):iL K x qual st f (W.fnOf x qual (gO st) (gi st) (eA st) .none kV doc pm an cdv ct):=⟨⟨oc,od,kV,doc,pm,an,cdv,ct,osl,rfl,l,c⟩,k⟩
end
theorem gc {A:Around}{k:Nat}(hr:gE k A):A.units+1<cLine:=bz (Nat.add_le_add_left (by decide:1≤64) _) hr.units
theorem eE {n:Nat}(h:n≤1000):n<sizeLine:=bz h (by decide)
section
variable {X:Cx}
theorem pv (i:Nat){pos:Pos}(hN:X.N[i]?=some x:=by rfl)(hv:Da X.env.scope x:=by first | exact Or.inl rfl | exact Or.inr (Or.inl rfl) | exact Or.inr (Or.inr rfl))(hd:(x == ("__debug__" : Str))=false:=by decide)(hcd:(x == ("__classdict__" : Str))=false:=by decide):PE X (.Name x pos) (mU i):=DW hN hv hd hcd
end
theorem gv (h:B):if false=true then A else B:=by
 rw[if_neg aP];exact h
theorem ir (h:A):if true=true then A else B:=by
 rw[if_pos rfl];exact h
theorem mn {c:Prop} [Decidable c] (h1:c→A)(h2:¬c→B):if c then A else B:=by
 by_cases h:c
 ·rw[if_pos h];exact h1 h
 ·rw[if_neg h];exact h2 h
def eB (H H':Hp):Prop:=∀b o,H b=some o→H' b=some o
theorem eB.refl (H:Hp):eB H H:=fun _ _ h=>h
theorem eB.trans {H1 H2:Hp}(a:eB H H1)(b:eB H1 H2):eB H H2:=fun c o h=>b c o (a c o h)
theorem eB.free {H':Hp}(e:eB H H'){l:Addr}(h:H' l=Option.none):H l=Option.none:=by
 cases q:H l with
 |none=>rfl
 |some o=>
  rw[e l o q]at h;cases h
theorem eB.seq {K:W.Frag}{H':Hp}{a:Addr}{xs:List V}(e:eB H H')(h:eX K H a xs):eX K H' a xs:=by
 rcases h with (h | ⟨o,h⟩) | h
 ·exact .inl (.inl (e _ _ h))
 ·exact .inl (.inr ⟨o,e _ _ h⟩)
 ·exact .inr h
section
variable {κ:Type} [DecidableEq κ]
theorem iA {kvs:List (κ×V)}{k:κ}{v:V}(h:eN kvs k=some v):k∈kvs.map (·.1):=by
 have q:(kvs.any fun a=>decide (a.1=k))=true:=by
  rw[iG,h]
  all_goals rfl
 obtain⟨p,hp,e⟩:=dC.mp q;exact av.mpr ⟨p,hp,bc e⟩
theorem nI:∀{l:List κ} {k:κ},l.Nodup→¬k∈l→(l++[k]).Nodup
 |[],k,_,_=>by simp
 |a::r,k,h,hk=>by
  obtain⟨h1,h2⟩:=aU.mp h;show(a::(r++[k])).Nodup;refine aU.mpr ⟨fun m=>?_,nI h2 fun m=>hk (ak.mpr (Or.inr m))⟩;rcases ay.mp m with q | q
  ·exact h1 q
  ·exact hk (ak.mpr (Or.inl (ai.mp q).symm))
end
end L2
set_option maxHeartbeats 4000000
namespace L2
open PySem PySem.Spec PyProof.Rows
variable {A:Around}{E:Value→Shared→Prop}{H H':Hp}{K:W.Frag}{N':List Str}{P:Program}{Q:VK}{X:Cx}{a d:Addr}{e:Expr}{es:Array DictEntry}{g:TG}{h:Heap}{i j:Nat}{ks:List fB}{kvs:List (fB×V)}{pins:List (Addr×Obj)}{pos:Pos}{s:Shared}{scope:Scope}{te:TE}{tt:TT}{v:Value}{w:World}{x:Str}{xs:List (fB×Value×Value)}{y:V}{σ:St}
mutual
inductive t6 (H:Hp):V→PyData→Prop
 |non:t6 H .non .none
 |bl (b:Bool):t6 H (.bl b) (.bool b)
 |int (i:Int):t6 H (.int i) (.int i)
 |str (x:Str):t6 H (.str x) (.str x)
 |lst {a:Addr} {xs:List V} {ds:List PyData}:H a=some (.lst xs)→pD H xs ds→t6 H (.ref a) (.list ds)
 |tup {a:Addr} {xs:List V} {ds:List PyData}:H a=some (.tup xs)→pD H xs ds→t6 H (.ref a) (.tuple ds)
inductive pD (H:Hp):List V→List PyData→Prop
 |nil:pD H [] []
 |cons {v:V} {d:PyData} {vs:List V} {ds:List PyData}:t6 H v d→pD H vs ds→pD H (v::vs) (d::ds)
end
mutual
theorem t6.reads (I:eM X pins σ H s):∀{v:V} {d:PyData} {u:Value},t6 H v d→eT v u→∃as,Reads s.heap u d as
 |_,_,u,.non,r=>by cases (show u=Value.none from r);exact⟨_,.none⟩
 |_,_,u,.bl b,r=>by cases (show u=Value.bool b from r);exact⟨_,.bool b⟩
 |_,_,u,.int i,r=>by obtain⟨t,e⟩:=(show ∃t,u=Value.int i t from r);subst e;exact⟨_,.int i t⟩
 |_,_,u,.str x,r=>by obtain⟨t,e⟩:=(show ∃t,u=Value.str x t from r);subst e;exact⟨_,.str x t⟩
 |_,_,u,.lst (a:=a) (xs:=xs) h q,r=>by
  cases (show u=Value.ref a from r);obtain⟨z,its,n,rv,e⟩:=(show fC X.prog X.w H s.heap a (.lst xs) from I.hok a _ h);obtain⟨as,k⟩:=pD.readsAll I q rv;exact⟨_,.list e rfl rfl (by simpa using k)⟩
 |_,_,u,.tup (a:=a) (xs:=xs) h q,r=>by
  cases (show u=Value.ref a from r);obtain⟨z,its,rv,o,e,c,n,dd⟩:=(show fC X.prog X.w H s.heap a (.tup xs) from I.hok a _ h);obtain⟨as,k⟩:=pD.readsAll I q rv;exact⟨_,.tuple e c dd (by simpa using k)⟩
theorem pD.readsAll (I:eM X pins σ H s):∀{vs:List V} {ds:List PyData} {us:List Value},pD H vs ds→fH vs us→∃as,ReadsAll s.heap us ds as
 |_,_,_,.nil,.nil=>⟨_,.nil⟩
 |_,_,_,.cons r t,.cons h k=>by
  obtain⟨as,e⟩:=t6.reads I r h;obtain⟨bs,f⟩:=pD.readsAll I t k;exact⟨_,.cons e f⟩
end
inductive Dm (x:V)(y:V)(H:Hp)(Q:VK):Prop
 |mk (d e:_)(_:t6 H x d)(_:t6 H y e)(_:SeqAt.shaped d=true)(_:SeqAt.shaped e=true)(_:Q (.bl (!PyData.eqv d e)) H):Dm x y H Q
def HD:R2:=fun x y H Q=>Dm x y H Q
theorem DZ (b:X.A.units+64<cLine):pE X (compareOp .NotEq) HD:=by
 intro pins s σ H x y u v Q I g j h;obtain⟨d,e,h1,h2,i,m,q⟩:=h;obtain⟨o,a⟩:=h1.reads I g;obtain⟨bs,l⟩:=h2.reads I j;exact ne_dataH a l i m b ⟨.bl _,H,I,rfl,q⟩
inductive Dp (neg:Bool)(x:V)(y:V)(H:Hp)(Q:VK):Prop
 |mk (d es:_)(_:t6 H x d)(_:t6 H y (.list es))(_:d.canLay0=true)(_:PyData.canLayAll0 es=true)(_:d.depth≤60)(_:Q (.bl (if neg then !(es.any fun z=>PyData.eqv z d) else es.any fun z=>PyData.eqv z d)) H):Dp neg x y H Q
def HE (neg:Bool):R2:=fun x y H Q=>Dp neg x y H Q
theorem qg (m:X.A.units+64<cLine):pE X (compareOp .NotIn) (HE true):=by
 intro pins s σ H x y u v Q I b g h;obtain⟨d,es,h1,h2,e,j,o,q⟩:=h;obtain⟨l,a⟩:=h1.reads I b;obtain⟨bs,i⟩:=h2.reads I g;refine SeqAt.notIn_list_reads i a j e ?_ ⟨.bl _,H,I,rfl,q⟩;have:=Nat.min_le_right (PyData.depthAll es) d.depth
 lia
theorem fC.some {o:HO}(x:fC P w H h a o):∃ob,h.get? a=Option.some ob:=by
 cases o with
 |lst xs=>obtain⟨_,_,_,_,e⟩:=x;exact⟨_,e⟩
 |tup xs=>obtain⟨_,_,_,o,e,_⟩:=x;exact⟨o,e⟩
 |dK kvs=>obtain⟨_,_,_,_,o,_,_,e,_⟩:=x;exact⟨o,e⟩
 |dT kvs=>obtain⟨_,_,_,_,o,_,_,e,_⟩:=x;exact⟨o,e⟩
 |dN kvs=>obtain⟨_,_,_,_,o,_,_,e,_⟩:=x;exact⟨o,e⟩
 |set S n=>obtain⟨o,_,_,_,e,_⟩:=x;exact⟨o,e⟩
 |ins C dx fs=>obtain⟨_,_,_,e,_⟩:=x;exact⟨_,e⟩
 |own y=>exact x
 |xd fs=>obtain⟨_,⟨o,_,_,e,_⟩,_⟩:=x;exact⟨o,e⟩
 |rng lo hi=>obtain⟨_,_,_,e⟩:=x;exact⟨_,e⟩
 |frz ob u=>exact⟨_,x.1⟩
 |tbl ps=>exact⟨_,x⟩
 |met f y=>exact⟨_,x⟩
 |ext φ=>exact x.2.1
section
variable {x:Addr}{cls:Value}{M:Model}
theorem eM.Jt {b:Addr}(I:eM X pins σ H s)(a:s.heap.get? b=none)(h:H' b=none):jB X pins H' b:=by
 refine⟨h,fun z=>?_,fun z=>?_,?_,fun y c e z=>?_,fun p hp z=>?_⟩
 ·obtain⟨m,⟨o,_,_,d,_⟩,_⟩:=I.loc;rw[z,d]at a;cases a
 ·obtain⟨_,o,d,_⟩:=I.funs.mem z;rw[d]at a;cases a
 ·by_cases hx:b∈X.ex
  ·exact .inl hx
  ·refine .inr ?_;cases e:X.s₀.heap.get? b with
   |none=>rfl
   |some o=>
    obtain⟨o',g⟩:=I.base.there b o e hx;rw[g]at a;cases a
 ·obtain⟨v,o,d,_⟩:=I.cell y c e;rw[z,a]at d;cases d
 ·have q:=(I.pin p hp).1;rw[z,a]at q;cases q
end
section
variable {s':Shared}{e:Value}{E:XK}
end
section
variable {mg:Str→Option Value}{base:Heap}
end
section
variable {np cpos:Pos}{a:Expr}{t:TA}{C:Addr}{bmB:List Value}{B newId initId:String}{W:List (Addr×Obj)→St→Value→Hp→Prop}
end
section
variable {pins':List (Addr×Obj)}{A':Around}{c':Bool}{E':Value→Shared→Prop}{pn':List (Addr×Obj)}
end
section
variable {CX:wT}{k:Nat}{f:Addr}{fd:FuncData}{ps:List Str}{sp:Sp}{EX:St→XK}{p:Pos}{es:List Expr}{t:TA}
end
abbrev sq (X:Cx)(N':List Str)(scope:Scope)(cl:List (Str×Addr))(C:Addr)(s₂:Shared)(H₂:Hp)(fp:List Addr):Cx:=
 {X with N:=N',s₀:=s₂,H₀:=H₂,env:=compEnvC scope cl C X.env,outer:=X.stack,ex:=fp,fn:=fun _=>false,pn:=[],xe:=fun _ _=>False}
def GK (n:Nat)(g:TG):Prop:=∀v σ H Q,g v σ H Q→g v σ H fun σ2 H2=>Q σ2 H2∧σ2.length=σ.length∧∀i,n≤i→σ2[i]?=σ[i]?
def GR (n:Nat)(g:wK):Prop:=∀v σ H Q,g v σ H Q→g v σ H fun σ2 H2=>Q σ2 H2∧σ2.length=σ.length∧∀i,n≤i→σ2[i]?=σ[i]?
theorem gF {n:Nat}(h:i<n):GK n (iJ i):=fun v σ H Q q=>by
 refine⟨q,by simp,fun j hj=>?_⟩;rw[List.getElem?_set_ne (by lia)]
theorem Cj {n:Nat}:GR n Eu:=(by rintro v σ H Q ⟨e,q⟩;exact⟨e,q,rfl,fun _ _=>rfl⟩)
def GM (g:TG):Prop:=∀v σ H (Q Q':St→Hp→Prop),(∀a b,Q a b→Q' a b)→g v σ H Q→g v σ H Q'
def GQ (g:wK):Prop:=∀v σ H (Q Q':St→Hp→Prop),(∀a b,Q a b→Q' a b)→g v σ H Q→g v σ H Q'
theorem rX:GM (iJ i):=fun _ _ _ _ _ h q=>h _ _ q
theorem v5:GQ Eu:=(by rintro _ _ _ _ _ h ⟨e,q⟩;exact⟨e,h _ _ q⟩)
theorem zX {t:TG}{u:wK}(ht:GM t)(hu:GQ u):GQ (zZ t u):=(by rintro v σ H Q Q' h ⟨x,r,e,q⟩;exact⟨x,r,e,ht _ _ _ _ _ (fun a b z=>hu _ _ _ _ _ h z) q⟩)
theorem tw {n:Nat}{t:TG}{u:wK}(ht:GK n t)(mt:GM t)(hu:GR n u)(mu:GQ u):GR n (zZ t u):=fun v σ H Q ⟨x,r,e,q⟩=>by
 refine⟨x,r,e,mt _ _ _ _ _ (fun a b z=>?_) (ht _ _ _ _ q)⟩;obtain⟨z1,z2,z3⟩:=z;refine mu _ _ _ _ _ (fun c d y=>?_) (hu _ _ _ _ z1);exact⟨y.1,y.2.1.trans z2,fun i hi=>(y.2.2 i hi).trans (z3 i hi)⟩
theorem Et {n m:Nat}{t:wK}(h:GR n t):GK n (FT K m t):=(by rintro v σ H Q ⟨a,xs,e,s,l,q⟩;exact⟨a,xs,e,s,l,h _ _ _ _ q⟩)
def Gf (X:Cx)(ifs:List Expr)(t:TT):Prop:=
 ∀(pins:List (Addr×Obj)) (s:Shared) (σ:St) (H:Hp) (Q:Bool→Hp→Prop),eM X pins σ H s→t σ H Q→
  wpAny (model X.prog X.w) X.A (forIn ifs true fun c r=>if r=true then do let ok ←isTrue c X.env (eval c X.env);pure (ForInStep.yield ok) else pure (ForInStep.yield r)) (TP X pins σ Q) X.xe s
def mT:TT:=fun _ H Q=>Q true H
theorem iH:Gf X [] mT:=fun pins s σ H Q I h=>wpAny_tests_nil ⟨H,I,h⟩
theorem nE {c:Expr}{t:TT}(h:PT X c t):Gf X [c] t:=fun pins s σ H Q I q=>wpAny_tests_one (h pins s σ H Q I q)
def pI (J:It)(g:TG)(tt:TT)(te:TE)(σ':St)(H1:Hp)(Q:VK):Prop:=∀D,H1 D=none→∃W:Nat→Nat→List V→Hp→Prop,(∃m,W 0 m [] (upd H1 D (.lst [])))∧∀i m ys H,W i m ys H→H D=some (.lst ys)∧ys.length<sizeLine∧
 ((J.stop i H∧Q (.ref D) H)∨(J.go i H∧∃N:List V→Hp→Prop,(∀zs H',N zs H'→∃m',m'<m∧W (i+1) m' zs H')∧∀x H2,J.yld i H x H2→g x σ' H2 fun σ2 H3=>tt σ2 H3 fun b H4=>if b=true then te σ2 H4 fun y H5=>H5 D=some (.lst ys)∧N (ys++[y]) (upd H5 D (.lst (ys++[y]))) else N ys H4))
theorem gy {xs:List V}{σ':St}{H1:Hp}(d:Addr→Nat→List V→Hp→Prop)(o:∀D,H1 D=none→d D 0 [] (upd H1 D (.lst [])))(l:∀D i ys H,i≤xs.length→d D i ys H→eX K H a xs∧H D=some (.lst ys)∧ys.length<sizeLine)(q:∀D i x ys H,xs[i]?=some x→d D i ys H→g x σ' H fun σ2 H3=>tt σ2 H3 fun b H4=>if b=true then te σ2 H4 fun y H5=>H5 D=some (.lst ys)∧d D (i+1) (ys++[y]) (upd H5 D (.lst (ys++[y]))) else d D (i+1) ys H4)(j:∀D ys H,d D xs.length ys H→Q (.ref D) H):pI (EK K a) g tt te σ' H1 Q:=by
 intro D r;refine⟨fun i m ys H=>m=xs.length-i∧i≤xs.length∧d D i ys H,⟨xs.length,by simp,bp _,o D r⟩,?_⟩;rintro i m ys H ⟨rfl,hi,p⟩;obtain⟨h,v,t⟩:=l D i ys H hi p;refine⟨v,t,?_⟩;by_cases hlt:i<xs.length
 ·refine .inr ⟨⟨xs,xs[i],h,by simp[hlt]⟩,d D (i+1),fun zs H' s=>⟨xs.length-(i+1),by lia,rfl,hlt,s⟩,fun x H' y=>?_⟩;obtain⟨e,y⟩:=y;subst e;exact q D i x ys _ (y xs h) p
 ·have e:i=xs.length:=by lia
  subst e;exact .inl ⟨⟨xs,h,aq _⟩,j D ys H p⟩
theorem vg {lo:Int}{n:Nat}{σ':St}{H1:Hp}(a:Addr→Nat→List V→Hp→Prop)(j:∀D,H1 D=none→a D 0 [] (upd H1 D (.lst [])))(h:∀D i ys H,i≤n→a D i ys H→H D=some (.lst ys)∧ys.length<sizeLine)(l:∀D i ys H,i<n→a D i ys H→g (.int (lo+i)) σ' H fun σ2 H3=>tt σ2 H3 fun b H4=>if b=true then te σ2 H4 fun y H5=>H5 D=some (.lst ys)∧a D (i+1) (ys++[y]) (upd H5 D (.lst (ys++[y]))) else a D (i+1) ys H4)(d:∀D ys H,a D n ys H→Q (.ref D) H):pI (EJ lo n) g tt te σ' H1 Q:=by
 intro D o;refine⟨fun i m ys H=>m=n-i∧i≤n∧a D i ys H,⟨n,by simp,bp _,j D o⟩,?_⟩;rintro i m ys H ⟨rfl,hi,p⟩;obtain⟨s,r⟩:=h D i ys H hi p;refine⟨s,r,?_⟩;by_cases hlt:i<n
 ·refine .inr ⟨hlt,a D (i+1),fun zs H' q=>⟨n-(i+1),by lia,rfl,hlt,q⟩,fun x H' y=>?_⟩;obtain⟨e,y⟩:=y;subst e y;exact l D i ys _ hlt p
 ·have e:i=n:=by lia
  subst e;exact .inl ⟨aq _,d D ys H p⟩
structure ib (X:Cx)(N':List Str)(scope:Scope)(cl:List (Str×Addr))(n:Nat)(js:List Nat):Prop where
 clos:closureFor scope X.env=pure cl
 cell:∀y∈scope.names,y.2≠.cell
 kind:scope.kind=.function
 names:∀y∈scope.names,y.2=.local→scope.names.lookup y.1=some .local
 sub:∀y c,cl.lookup y=some c→X.env.cells.lookup y=some c
 has:∀y,((relabel scope X.env).names.lookup y=some .cell∨(relabel scope X.env).names.lookup y=some .free)→∃c,cl.lookup y=some c
 len:N'.length=n+js.length
 frees:∀(k j:Nat),js[k]?=some j→∃y,N'[n+k]?=some y∧X.N[j]?=some y∧(X.env.kindOf y=some .cell∨X.env.kindOf y=some .free)∧
  ((relabel scope X.env).names.lookup y=some .cell∨(relabel scope X.env).names.lookup y=some .free)∧cl.lookup y=X.env.cells.lookup y
theorem pN {env:Env}(h:∀y∈scope.names,y.2≠.free):(relabel scope env).names=scope.names:=by
 show scope.names.map _=scope.names;refine map_eq_self fun y b=>?_;obtain⟨a,k⟩:=y;have e:(k == NameKind.free)=false:=by simpa using h _ b
 simp[e]
theorem ib.closed {n:Nat}(a:∀y∈scope.names,y.2≠.free)(b:∀y∈scope.names,y.2≠.cell)(d:scope.kind=.function)(i:∀y∈scope.names,y.2=.local→scope.names.lookup y.1=some .local)(g:N'.length=n):ib X N' scope [] n [] where
 clos:=closureFor_none a
 cell:=b
 kind:=d
 names:=i
 sub:=fun y c e=>by simp at e
 has:=fun y h=>by
  rw[pN a]at h;rcases h with h | h
  ·exact absurd rfl (b _ (bn h))
  ·exact absurd rfl (a _ (bn h))
 len:=by simpa using g
 frees:=fun k j e=>by simp at e
theorem ib.one {y:Str}{c:Addr}{n:Nat}(h1:closureFor scope X.env=pure [(y,c)])(h2:X.env.cells.lookup y=some c)(r:∀z∈scope.names,z.2≠.cell)(C:scope.kind=.function)(A:∀z∈scope.names,z.2=.local→scope.names.lookup z.1=some .local)(s:∀z∈scope.names,z.2=.free→z.1=y)(x:N'[n]?=some y)(t:N'.length=n+1)(D:X.N[j]?=some y)(v:X.env.kindOf y=some .cell)(w:(relabel scope X.env).names.lookup y=some .cell):ib X N' scope [(y,c)] n [j] where
 clos:=h1
 cell:=r
 kind:=C
 names:=A
 sub:=fun z d e=>by
  by_cases q:z=y
  ·subst q;rw[aY,beq_self_eq_true]at e;rw[h2];exact e
  ·have b:(z == y)=false:=beq_false_of_ne q;rw[aY,b]at e;simp at e
 has:=fun z h=>by
  have mem:∃k,(k=NameKind.cell∨k=NameKind.free)∧(z,k)∈(relabel scope X.env).names:=by
   rcases h with h | h
   ·exact⟨_,.inl rfl,bn h⟩
   ·exact⟨_,.inr rfl,bn h⟩
  obtain⟨k,g,B⟩:=mem;obtain⟨⟨a,m⟩,p,e⟩:=av.mp (show(z,k)∈scope.names.map _ from B);have G:z=y:=by
   by_cases hfree:m=.free
   ·have F:z=a:=by
     dsimp only at e
     split at e
     ·exact(Prod.mk.inj e).1.symm
     ·exact(Prod.mk.inj e).1.symm
    rw[F];exact s _ p hfree
   ·have b:(m == NameKind.free)=false:=by simpa using hfree
    simp only[b,bT,cr,if_false]at e;have o:=(Prod.mk.inj e).2;rcases g with q | q
    ·exact absurd (o.trans q) (r _ p)
    ·exact absurd (o.trans q) hfree
  subst G;exact⟨c,by rw[aY,beq_self_eq_true]⟩
 len:=by simpa using t
 frees:=fun k i e=>by
  have l:k=0:=by
   cases k with
   |zero=>rfl
   |succ k=>simp at e
  subst l;have E:j=i:=by simpa using e
  subst E;exact⟨y,x,D,.inl v,.inl w,by rw[h2,aY,beq_self_eq_true]⟩
def frees (n:Nat)(js:List Nat)(σ:St):St:=List.replicate n none++js.map fun j=>σ.getD j none
section
variable {s₂:Shared}{H₂:Hp}{elt iter target:Expr}{ifs:List Expr}{cl:List (Str×Addr)}{n:Nat}{js:List Nat}
theorem pA {J:It}{fp:List Addr}{it:Addr}{tn:Nat→Heap→Prop}{RR:Value→Addr→Result→Shared→Prop}(hc:X.calm=true)(S:ib X N' scope cl n js)(gk:GK n g)(hg:∀C s₂ H₂ fp,PG (sq X N' scope cl C s₂ H₂ fp) target g)(ht:∀C s₂ H₂ fp,Gf (sq X N' scope cl C s₂ H₂ fp) ifs tt)(he:∀C s₂ H₂ fp,PE (sq X N' scope cl C s₂ H₂ fp) elt te)(I:eM X pins σ H₂ s₂)(T:si X.prog X.w X.K target J fp it tn)(st:tn 0 s₂.heap)(B:∀b∈fp,jB X pins H₂ b)(R:pI J g tt te (frees n js σ) H₂ Q)(bf:∀D C s' H',eM X pins σ H' s'→(∃m,s'.heap.Ns C m)→jB X pins H' C→Q (.ref D) H'→RR (.ref D) C (.ok .next) s'):wpAny (model X.prog X.w) X.A (newList []) (fun acc s₃=>wpAny (model X.prog X.w) X.A (newFunctionEnv scope X.env.globals cl [] X.env.qual none .none (some X.env)) (fun cenv s₄=>codeAny (model X.prog X.w) X.A (.compStart (.ListComp elt [⟨target,iter,ifs,0⟩] scope pos) 0 (.ref it) acc {cenv with scope:=relabel scope X.env}) (RR acc cenv.locals) s₄) E s₃) E s₂:=by
 refine dP (wpAny_newFunctionEnv S.cell (by intro y hy;simp at hy) (fun h1 Y G=>?_) S.kind);dsimp only at Y G ⊢;generalize P:s₂.heap.push {cls:=.type "list",dict:=none,data:=.seq ([]:List Value).toArray}=h3 at Y G ⊢;generalize Z:s₂.heap.objs.size=D at *;generalize bx:h3.objs.size=C at *;have eC:C=D+1:=by rw[←bx,←P,Heap.size_push,Z]
 have ap:D≠C:=by lia
 have U:∀b o,s₂.heap.get? b=some o→b<D:=fun b o e=>Z▸aS e;have old:∀b o,s₂.heap.get? b=some o→h1.get? b=some o:=fun b o e=>by
  have l:=U b o e;refine G.extBut b o (aX (bb l (by lia))) (aC _ ?_)
  rw[←P];exact aC _ e
 have ah:h1.get? D=some {cls:=.type "list",data:=.seq ([]:List Value).toArray 0}:=by
  refine G.extBut D _ ap (aC _ ?_)
  rw[←P,←Z];exact aT _ rfl
 have b2:s₂.heap.get? D=none:=Z▸bo (aq _);have bm:s₂.heap.get? C=none:=bo (by lia);have as:H₂ D=none:=I.hok.fresh (by lia);have bq:H₂ C=none:=I.hok.fresh (by lia);have L:∀b∈fp,b<D:=fun b a=>by
  obtain⟨o,e,_⟩:=T.obj 0 _ st b a;exact U b o e
 obtain⟨W,⟨m0,w0⟩,a0⟩:=R D as;have F:(sq X N' scope cl C s₂ H₂ fp).Ok:=by
  refine⟨I.ok.mod,S.kind,I.ok.glob,I.ok.blt,?_,?_,fun y hy=>S.has y hy,(fun y c hf _=>by cases hf),I.ok.hd,I.ok.frames,.inl rfl,?_,I.bs,bj I.ok.bsz I.sz,?_,?_,I.stack,I.Jf⟩
  ·show s₂.heap.objs.size≤C
   lia
  ·exact fun y z c h1 h2=>I.ok.inj y z c (S.sub y c h1) (S.sub z c h2)
  ·intro b a;refine⟨?_,fun y c e=>(B b a).2.2.2.2.1 y c (S.sub y c e)⟩;exact aX (bb (L b a) (show D≤C by lia))
  ·intro b o e a;rcases (B b a).2.2.2.1 with z | z
   ·exact I.ok.noex b o e z
   ·rw[(I.ok.bs b o e).1]at z;cases z
  ·intro b a hz;rcases ak.mp (I.Je b hz) with z | z
   ·exact(B b a).2.1 z
   ·exact(B b a).2.2.1 z
 have I4:eM (sq X N' scope cl C s₂ H₂ fp) [] (frees n js σ) (upd H₂ D (.lst [])) {s₂ with heap:=h1,toks:=s₂.toks+([]:List (Str×Value)).length}:=by
  refine⟨F,rfl,I.bare,?_,⟨_,Y,fun i y v e1 t e3=>?_⟩,fun y c e=>?_,?_,fun y c e=>?_,fun p hp=>absurd hp (by simp),?_,?_⟩
  ·exact Un.laid (fun b u e=>old b u e) (dz Z) as
  ·have b3:n≤i:=by
    refine Nat.le_of_not_lt fun hi=>?_;unfold frees at t;rw[aK (by simpa using hi),List.getElem?_replicate]at t
    split at t <;> cases t
   obtain⟨k,rfl⟩:∃k,i=n+k:=⟨i-n,by lia⟩;unfold frees at t;rw[aW (by simp),List.length_replicate,Nat.add_sub_cancel_left,ae]at t
   cases ej:js[k]? with
   |none=>rw[ej]at t;cases t
   |some j=>
    rw[ej]at t;have h:σ.getD j none=some v:=Option.some.inj t;obtain⟨y',a1,a2,a3,a4,a5⟩:=S.frees k j ej;have ey:y'=y:=Option.some.inj (a1.symm.trans e1);subst ey;have e4:σ[j]?=some (some v):=by
     rw[ba]at h;cases q:σ[j]? with
     |none=>rw[q]at h;cases h
     |some z=>rw[q]at h;exact congrArg some h
    obtain⟨m,hm,hl⟩:=I.loc;have bv:Da X.env.scope y':=by
     rcases a3 with z | z
     ·exact .inr (.inl z)
     ·exact .inr (.inr z)
    obtain⟨u,ru,lk⟩:=hl j y' v a2 e4 bv;refine⟨u,ru,?_⟩;rcases lk with ⟨z,_⟩ | ⟨_,c,z1,o,z2,z3⟩
    ·rcases a3 with y | y <;> (rw[z]at y;cases y)
    ·exact .inr ⟨a4,c,a5.trans z1,o,old c o z2,z3⟩
  ·obtain⟨v,o,z1,z2⟩:=I.cell y c (S.sub y c e);exact⟨v,o,old c o z1,z2⟩
  ·show upd H₂ D _ C=none;rw[dY (Ne.symm ap)];exact bq
  ·obtain⟨v,o,z1,z2⟩:=I.cell y c (S.sub y c e);have l:=U c o z1;rw[dY (aX l)];exact I.freeC y c (S.sub y c e)
  ·exact I.hok.laid old (dz Z) ⟨bp _,[],0,.nil,ah⟩
  ·unfold frees;show _=N'.length;rw[S.len,aE,List.length_replicate,ab]
 have fY:∀{H':Hp},(∀b∈fp,H' b=none)→∀b∈fp,jB (sq X N' scope cl C s₂ H₂ fp) [] H' b:=fun hn b a=>by
  refine⟨hn b a,(F.exf b a).1,F.exfs b a,.inl a,(F.exf b a).2,fun p hp=>absurd hp (by simp)⟩
 have ad:tn 0 h1:=T.keep _ _ _ st fun b a o e=>old b o e;have b1:∀b∈fp,upd H₂ D (.lst []) b=none:=fun b a=>by
  rw[dY (aX (L b a))];exact(B b a).1
 have M:∀s3:Shared,s3={s₂ with heap:=h1,toks:=s₂.toks+([]:List (Str×Value)).length}→
   codeAny (model X.prog X.w) X.A (.compLoop (.ListComp elt [⟨target,iter,ifs,0⟩] scope pos) 0 (.ref it) (.ref D) (compEnvC scope cl C X.env)) (RR (.ref D) C) s3:=by
  rintro s3 rfl;refine codeAny_loop rfl (fun k s'=>∃i ys H',eM (sq X N' scope cl C s₂ H₂ fp) [] (frees n js σ) H' s'∧tn i s'.heap∧(∀b∈fp,H' b=none)∧W i k ys H') (fun k s5 hI=>?_) m0 ⟨0,[],_,I4,ad,b1,w0⟩;obtain⟨i,ys,H5,I5,aa,an,w5⟩:=hI;obtain⟨b4,a7,bd⟩:=a0 i k ys H5 w5;show wpAny _ X.A ((compTurn (.ListComp elt [⟨target,iter,ifs,0⟩] scope pos) 0 (.ref it) (.ref D) (compEnvC scope cl C X.env)).onRaise (fun x=>do noteFrame x (compEnvC scope cl C X.env);theTreesLotGoes x)) _ _ s5;refine wpAny_noted ?_;rw[compTurn_list];refine ac (wpAny_standAt ?_);rcases bd with ⟨stop,q⟩ | ⟨go,NN,a8,step⟩
  ·refine ac (fG (T.done (sq X N' scope cl C s₂ H₂ fp) rfl rfl rfl hc i [] s5 _ H5 _ I5 (fY an) aa stop) fun r s6 hr=>?_);obtain⟨rfl,I6⟩:=hr;refine ar (bf D C s6 H5 ?_ ?_ ?_ q)
   ·exact I.Jh (ch:=fp) I6.os I6.base I6.hok I6.bare fun b a=>⟨(B b a).2.2.2.1,(B b a).2.1,(B b a).2.2.2.2.1,(B b a).2.2.2.2.2⟩
   ·obtain⟨m,hm,_⟩:=I6.loc;exact⟨m,hm⟩
   ·exact I.Jt bm I6.free
  ·refine ac (fG (T.item (sq X N' scope cl C s₂ H₂ fp) rfl rfl rfl hc i [] s5 _ H5 _ I5 (fY an) aa go) fun r s6 hr=>?_);obtain⟨u,rfl,h6⟩:=hr;refine ac (fG h6 fun _ s7 h7=>?_);obtain⟨x,H7,I7,r7,y7,O,bl⟩:=h7;have a6:=I7.pinned (fY bl) (T.obj _ _ O);have al:∀{σ8:St} {N:Hp} {s8:Shared} {zs:List V},eM (sq X N' scope cl C s₂ H₂ fp) ([]++oO fp s7.heap) σ8 N s8→(σ8.length=(frees n js σ).length∧∀i,n≤i→σ8[i]?=(frees n js σ)[i]?)→NN zs N→
     ∃m,m<k∧∃i ys H',eM (sq X N' scope cl C s₂ H₂ fp) [] (frees n js σ) H' s8∧tn i s8.heap∧(∀b∈fp,H' b=none)∧W i m ys H':=fun {σ8 N s8 zs} I8 ag n8=>by
    obtain⟨m',hm,w8⟩:=a8 zs N n8;refine⟨m',hm,i+1,zs,N,?_,T.keep _ _ _ O fun b a o e=>(I8.pin (b,o) (aI _ (aI _ (jR a e)))).1,fun b a=>?_,w8⟩
    ·refine(I8.Jn).weak ag.1.symm fun j v e=>?_;by_cases hj:n≤j
     ·rw[ag.2 j hj];exact e
     ·unfold frees at e;rw[aK (by simpa using hj),List.getElem?_replicate]at e
      split at e <;> cases e
    ·obtain⟨o,e,d⟩:=T.obj _ _ O b a;exact(I8.pin (b,o) (aI _ (aI _ (jR a e)))).2.1
   refine ac (bO (hg C s₂ H₂ fp _ s7 _ H7 x u _ a6 r7 (gk _ _ _ _ (step x H7 y7))) (fun _ s8 h8=>?_) fun _ _ z=>z.elim);obtain⟨σ8,N,I8,q8,ag⟩:=h8;refine ac (bO (ht C s₂ H₂ fp _ s8 σ8 N _ I8 q8) (fun ok s9 h9=>?_) fun _ _ z=>z.elim);obtain⟨H9,I9,q9⟩:=h9;cases ok with
   |false=>
    rw[if_neg (by decide)]at q9;exact ar ⟨rfl,al I9 ag q9⟩
   |true=>
    rw[if_pos rfl]at q9;refine ac (ac (bO (he C s₂ H₂ fp _ s9 σ8 H9 _ I9 q9) (fun y sa ha=>?_) fun _ _ z=>z.elim));obtain⟨yv,Ha,Ia,ra,a9,wa⟩:=ha;refine ac (bO (gq (X:=sq X N' scope cl C s₂ H₂ fp) _ sa σ8 Ha (.ref D) [yv] (.ref D) [y] (fun v H'=>v=.non∧H'=upd Ha D (.lst (ys++[yv]))) Ia rfl (.cons ra .nil) ⟨D,ys,yv,rfl,rfl,a9,a7,rfl,rfl⟩) (fun v sb a=>?_) fun _ _ z=>z.elim);obtain⟨v',Hb,Ib,rb,_,rfl⟩:=a;exact ar (ar ⟨rfl,al Ib ag wa⟩)
 exact codeAny_compStart_list (M _ rfl) (T.self X.A 0 _ _ _ ad (M _ rfl))
end
section
variable {elt iter target:Expr}{ifs:List Expr}{cl:List (Str×Addr)}{n:Nat}{js:List Nat}{wi:TI}
def Fd (wi:TI)(g:TG)(tt:TT)(te:TE)(n:Nat)(js:List Nat):TE:=fun σ H Q=>wi σ H fun J H1=>pI J g tt te (frees n js σ) H1 Q
theorem ik (B:X.calm=true)(S:ib X N' scope cl n js)(r:GK n g)(hi:PI X target iter wi)(p:∀C s₂ H₂ fp,PG (sq X N' scope cl C s₂ H₂ fp) target g)(j:∀C s₂ H₂ fp,Gf (sq X N' scope cl C s₂ H₂ fp) ifs tt)(z:∀C s₂ H₂ fp,PE (sq X N' scope cl C s₂ H₂ fp) elt te)(hs:∀x,foldedSetIterable iter X.env x=pure x:=by intro _;rfl):PE X (.ListComp elt [⟨target,iter,ifs,0⟩] scope pos) (Fd wi g tt te n js):=by
 intro pins s σ H Q I h;rw[eval_ListComp];refine wpAny_comprehension_free (use:=none) rfl hs S.clos S.kind S.names (fG (hi pins s σ H _ I h) fun v F h1=>fG h1 fun i E h2=>?_);obtain⟨it,fp,G,J,H2,rfl,w,T,a,y,R⟩:=h2;refine pA B S r p j z w T a y R fun D C s' H' t d f q=>?_;obtain⟨m,d⟩:=d;refine⟨m,d,fun h' A=>⟨.ref D,H',?_,rfl,q⟩⟩;exact t.turned (t':=s'.toks) (fun b o l e=>(A.2 b l).trans e) f.1 f.2.1 f.2.2.2.1 f.2.2.2.2.1 f.2.2.2.2.2
def Fe (i:Nat)(wi:TI)(g:TG)(tt:TT)(te:TE)(n:Nat)(js:List Nat):TS:=fun D σ H=>wi σ H fun J H1=>pI J g tt te (frees n js σ) H1 fun v H'=>D.nx (σ.set i (some v)) H'
theorem vN {pos' spos:Pos}(hc:X.calm=true)(S:ib X N' scope cl n js)(K:GK n g)(P:X.N.Nodup)(O:X.N[i]?=some x)(y:X.env.scope.names.lookup x=some .local)(hi:PI X target iter wi)(G:∀C s₂ H₂ fp,PG (sq X N' scope cl C s₂ H₂ fp) target g)(E:∀C s₂ H₂ fp,Gf (sq X N' scope cl C s₂ H₂ fp) ifs tt)(Z:∀C s₂ H₂ fp,PE (sq X N' scope cl C s₂ H₂ fp) elt te)(hsw:swapsWith (.ListComp elt [⟨target,iter,ifs,0⟩] scope pos) (some (.Name x pos')) spos.line X.env=pure true:=by rfl)(hs:∀x,foldedSetIterable iter X.env x=pure x:=by intro _;rfl):PS X (.Assign [.Name x pos'] (.ListComp elt [⟨target,iter,ifs,0⟩] scope pos) spos) (Fe i wi g tt te n js):=by
 intro pins s σ H D I h;rw[exec_Assign_Name_used _ _ _ _ hsw];refine ac (wpAny_standAt (ac ?_));show wpAny _ X.A (do let _ ←comprehension (.ListComp elt [⟨target,iter,ifs,0⟩] scope pos) scope X.env _ (newList []) false (eval iter X.env) (some (assign (.Name x pos') X.env))) _ _ s;refine ac (bO (wpAny_comprehension_free (use:=some (assign (.Name x pos') X.env)) (Q:=fun _ s'=>SP X pins D .next s') rfl hs S.clos S.kind S.names (fG (hi pins s σ H _ I h) fun v s1 h1=>fG h1 fun B s2 h2=>?_)) (fun _ s' q=>ar (ar q)) fun _ _ e=>e);obtain⟨it,fp,tn,J,H2,rfl,M,T,d,U,R⟩:=h2;refine pA hc S K G E Z M T d U R fun w C s' H' L t f q=>?_;obtain⟨m,t⟩:=t;show wpAny _ X.A (assign (.Name x pos') X.env (.ref w)) _ _ s';refine wpAny_assign_Name (p0 (v:=.ref w) L P O (.inl y) rfl (?_) (.inr y));rintro j p ⟨a,sb,Y⟩;have r:C≠a:=by
  rcases Y with z | z
  ·rw[z];exact f.2.1
  ·exact Ne.symm (f.2.2.2.2.1 _ _ z)
 refine⟨m,t.sameBut sb r,fun h' l=>⟨_,H',?_,q⟩⟩;exact p.turned (t':=j.toks) (fun b o F e=>(l.2 b F).trans e) f.1 f.2.1 f.2.2.2.1 f.2.2.2.2.1 f.2.2.2.2.2
end
theorem iD:ju X (.builtin "isinstance") (fun xs H Q=>∃(x:V) (T:String) (t:Value) (b:Bool),xs=[x,.ty T]∧kJ X.K H x t∧W.kitOne X.K t (.type T)=some b∧Q (.bl b) H):=by
 intro pins s σ H xs us Q I r h;obtain⟨x,T,t,b,rfl,ty,e,q⟩:=h;obtain⟨u,g,rfl,a,d⟩:=vE r;cases (show g=Value.type T from d);exact xW I a ty e fun tk=>⟨.bl b,H,I.tok tk,rfl,q⟩
theorem ut {vs:List Value}{out:Array Value}{ns':List Int}(I:eM X pins σ H s)(hi:IntsAre out.toList ns')(a:ns'.length≤sizeLine):eM X pins σ (upd H (s.heap.objs.size+1) (.lst (ns'.map V.int))) {s with heap:=sortedAll s.heap vs out}:=by
 obtain⟨e,d⟩:=sortedAll_at s.heap vs out;refine I.laid (t':=s.toks) (fun b u q=>sortedAll_old q) (dG _) ⟨by rw[ab];exact a,out.toList,e,lX hi,?_⟩;rw[d]
def Dx (K:W.Frag)(te:TE):TE:=fun σ H Q=>te σ H fun x H1=>∃(a:Addr) (ns:List Int),x=.ref a∧eX K H1 a (ns.map V.int)∧ns.length<64∧∀(p:Addr) (ns':List Int),H1 p=none→ns'.Perm ns→ns'.Pairwise (· ≥ ·)→Q (.ref p) (upd H1 p (.lst (ns'.map V.int)))
theorem za {p kp cp:Pos}{k:Nat}(v:Gl X "sorted")(w:X.mg "sorted" = none)(A:PE X e te)(hs:starEach [e] X.env=[(false,eval e X.env)]:=by rfl):PE X (.Call (.Name "sorted" p) [e] [⟨some "reverse",.Constant (.bool true) k cp,kp⟩] pos) (Dx X.K te):=by
 intro pins s σ H Q I h;refine bU (jS I v w boot_sorted ?_ (by decide) (by decide));refine callWith_kw ?_ (by rw[hs];rfl) (by rw[hs];rfl);have C:=(dU A ee hs) pos pins s σ H (fun vs H1=>match vs with | [x]=>(∃(a:Addr) (ns:List Int),x=.ref a∧eX X.K H1 a (ns.map V.int)∧ns.length<64∧∀(p:Addr) (d:List Int),H1 p=none→d.Perm ns→d.Pairwise (· ≥ ·)→Q (.ref p) (upd H1 p (.lst (d.map V.int)))) | _=>False) I h;refine fG C ?_;rintro us t ⟨vs,H1,g,r,m⟩
 match vs,r,m with
 |[x],r,⟨a,ns,e2,hS,h64,q⟩=>
  subst e2;obtain⟨u,rfl,o⟩:=jm r;cases (show u=Value.ref a from o);refine kws_cons (Constant_bool (kws_nil ?_));obtain⟨i,l,pl,E⟩:=g.list hS;have hi:=u9 l;have D:i.length=ns.length:=by rw[←l.length,ab]
  refine sorted_ints_rev (b:=true) pl.isList hi (by omega) fun out d y j B=>?_;have z:=j.length_eq;refine⟨.ref (t.heap.objs.size+1),_,ut g y ?_,rfl,q _ d (g.hok.fresh (dG _)) j B⟩;rw[z];exact bj (cK h64) (by decide)
section
variable {prog:Program}{it l:Addr}{items:Array Value}
end
theorem eM.adopt {p:Addr}{o:HO}(I:eM X pins σ H s)(f:jB X pins H p)(new:fC X.prog X.w (upd H p o) s.heap p o):eM X pins σ (upd H p o) s:=by
 have d:∀b u,H b=some u→b≠p:=fun b u e=>d0 e f.1;refine I.step (h':=s.heap) (g':=s.gens) (d':=s.drawn) (t':=s.toks) (ch:=[p]) (fun b a=>?_) (fun b o _ _ _ e _=>e) (fun b o _ _ _ e _=>⟨o.slots,e⟩) (fun b o a _ n=>?_) (fun b o _ e=>⟨o,e⟩) (fun b xs e=>?_) (fun b u v e=>?_) (fun b ps e=>⟨#[],?_⟩) (fun m g=>g) (fun b u e=>?_) I.bare
 ·have e:b=p:=by simpa using a
  subst e;exact⟨f.2.2.2.1,f.2.1,f.2.2.2.2.1,f.2.2.2.2.2⟩
 ·rw[dY (fun z=>a (by simp[z]))];exact n
 ·rw[dY (d b _ e)];exact e
 ·rw[dY (d b _ e)];exact e
 ·rw[dY (d b _ e),e];simp
 ·by_cases a:b=p
  ·subst a;rw[dW]at e;cases e;exact new
  ·rw[dY a]at e;exact(I.hok b u e).Jb (fun c v _ q=>q) (fun c q=>by rw[dY (d c _ q)];exact q) fun c xs q=>by rw[dY (d c _ q)];exact q
section
def nh (P:Program)(w:World)(h:Heap):fB→Value→Prop
 |none,u=>u=.none
 |some ks,u=>∃b,u=.ref b∧(tupleKind (fg P w)).is h ks b
theorem nh.inj {u:Value}:∀{x y:fB},nh P w h x u→nh P w h y u→x=y
 |none,none,_,_=>rfl
 |none,some _,hx,⟨b,e,_⟩=>by rw[show u=Value.none from hx]at e;cases e
 |some _,none,⟨b,e,_⟩,hy=>by rw[show u=Value.none from hy]at e;cases e
 |some x,some y,⟨b,e,hb⟩,⟨c,f,hc⟩=>by rw[e]at f;cases f;rw[(tupleKind (fg P w)).inj hb hc]
theorem nh.keep {h':Heap}{k:fB}{u:Value}{o:Obj}{ep:Nat}(x:nh P w h k u)(i:h.get? d=some o)(a:o.data=.dict es ep)(j:Heap.SameBut d h h'):nh P w h' k u:=by
 cases k with
 |none=>exact x
 |some ks=>obtain⟨b,e,g⟩:=x;exact⟨b,e,(tupleKind (fg P w)).keeps g i a j⟩
theorem nK {k:fB}{u:Value}(ok:kF P w H h)(x:vA H k u):nh P w h k u:=by
 cases k with
 |none=>exact x
 |some ks=>obtain⟨b,e,a⟩:=x;exact⟨b,e,ll ok a⟩
theorem uY {k:fB}{u:Value}{Q:Int→Shared→Prop}(a:A.units<cLine)(d:nh P w s.heap k u)(h:∀tk,Q (kU P w k) {s with toks:=tk}):wpAny (model P w) A (pyHash u) Q E s:=by
 cases k with
 |none=>
  rw[show u=Value.none from d];exact W.pyHash_laid .none .none A s Q rfl .none a h
 |some ks=>
  obtain⟨b,rfl,e⟩:=d;exact(tupleKind (fg P w)).pyHash a e (h _)
theorem vU {ks:List fZ}{b:Addr}(x:(tupleKind (fg P w)).is h ks b):∃its,h.IsTuple b its:=by
 obtain⟨o,its,n,h1,h2,a,_⟩:=(show IsTupleKey (fg P w) h ks b from x);exact⟨its,o,h1,h2,n,a⟩
theorem n_eq {x y:fB}{u:Value}{Q:Bool→Shared→Prop}(d:A.units<cLine)(j:nh P w s.heap x u)(a:nh P w s.heap y v)(h:Q (decide (x=y)) s):wpAny (model P w) A (eqBool u v) Q E s:=by
 cases x with
 |none=>
  rw[show u=Value.none from j];cases y with
  |none=>
   rw[show v=Value.none from a];exact SeqAt.eqBoolOverData P w A E s .none .none .none .none _ _ Q .none .none rfl rfl d h
  |some ys=>
   obtain⟨b,rfl,e⟩:=a;obtain⟨g,i⟩:=vU e;exact SeqAt.EqAt.none_tuple i d P w E Q h
 |some xs=>
  obtain⟨b,rfl,e⟩:=j;cases y with
  |none=>
   rw[show v=Value.none from a];obtain⟨g,i⟩:=vU e;exact SeqAt.EqAt.tuple_none i d P w E Q h
  |some ys=>
   obtain⟨c,rfl,l⟩:=a;refine(tupleKind (fg P w)).eqBool d e l ?_;by_cases q:xs=ys
   ·subst q;simpa using h
   ·rw[au q];rw[au (fun z=>q (Option.some.inj z))]at h;exact h
theorem vW {k:fB}{u:Value}{Q:Bool→Shared→Prop}(a:nh P w s.heap k u)(h:Q true s):wpAny (model P w) A (eqIsQuiet 8 u) Q E s:=by
 cases k with
 |none=>rw[show u=Value.none from a];exact ar h
 |some ks=>obtain⟨b,rfl,d⟩:=a;exact(tupleKind (fg P w)).quiet d h
theorem vV {k:fB}{u:Value}{us:List Value}{Q:Bool→Shared→Prop}(b:nh P w s.heap k u)(a:∀v∈us,∃j,nh P w s.heap j v)(h:Q false s):wpAny (model P w) A (tableMayTell u us) Q E s:=by
 unfold tableMayTell
 split
 ·exact ar h
 refine ac (vW b ?_);rw[if_neg (by decide)];refine ac (cV _ (fun rest r s'=>s'=s∧r=(none,())∧∀v∈rest,∃j,nh P w s.heap j v) _ ?_ ?_ _ _ ⟨rfl,rfl,a⟩)
 ·rintro v rest r s' ⟨rfl,rfl,all⟩;obtain⟨j,d⟩:=all v (by simp);refine ac (vW d ?_);rw[if_neg (by decide)];exact ar ⟨rfl,rfl,fun z e=>all z (by simp[e])⟩
 ·rintro r s' ⟨rfl,rfl,_⟩;exact ar h
structure pG (P:Program)(w:World)(h:Heap)(es:Array DictEntry)(ks:List fB):Prop where
 nd:ks.Nodup
 sz:es.size=ks.length
 at_:∀(i:Nat) (k:fB),ks[i]?=some k→∃e,es[i]?=some e∧e.hash=kU P w k∧nh P w h k e.key
theorem pG.back (x:pG P w h es ks){e:DictEntry}(q:es[i]?=some e):∃k,ks[i]?=some k∧e.hash=kU P w k∧nh P w h k e.key:=by
 have hi:i<ks.length:=by rw[←x.sz];exact(Array.getElem?_eq_some_iff.mp q).1
 obtain⟨b,h1,h2,a⟩:=x.at_ i ks[i] (am hi);rw[q]at h1;cases h1;exact⟨_,am hi,h2,a⟩
theorem pG.one (x:pG P w h es ks){k:fB}(hi:ks[i]?=some k)(hj:ks[j]?=some k):i=j:=
 (cc (af.mp hi).1 x.nd).mp (hi.trans hj.symm)
variable {o:Obj}{ep:Nat}{k:fB}{u:Value}{Q:Option Nat→Shared→Prop}
theorem Ca (x:A.units<cLine)(C:nh P w s.heap k u)(h:s.heap.get? d=some o)(g:o.data=.dict es ep)(X:pG P w s.heap es ks)(l:List Nat)(t:∀i∈l,∃e,es[i]?=some e∧(e.hash == kU P w k)=true)(B:(∀j∈l,ks[j]?≠some k)→Q none s)(h1:∀j∈l,ks[j]?=some k→Q (some j) s):wpAny (model P w) A (dictWalkPlain d u (kU P w k) es l) Q E s:=by
 unfold dictWalkPlain;refine ac (cV _ (fun rest b s'=>s'=s∧b=(none,())∧(∀i∈rest,i∈l)∧((∀j∈rest,ks[j]?≠some k)→Q none s)) _ ?_ ?_ _ _ ⟨rfl,rfl,fun _ z=>z,B⟩)
 ·rintro i rest b s' ⟨rfl,rfl,sub,no⟩;obtain⟨e,m,v⟩:=t i (sub i (by simp));obtain⟨j,p,_,r⟩:=X.back m;simp only[m];rw[if_pos v];refine ac (bB h g (ac (n_eq x r C (ac (bB h g ?_)))));rw[if_neg (by simp)];by_cases q:j=k
  ·rw[ao q,if_pos rfl];exact ac (cb (ar (ar (h1 i (sub i (by simp)) (q▸p)))))
  ·rw[au q,if_neg (by decide)];refine ac (cb (ar ⟨rfl,rfl,fun z a=>sub z (by simp[a]),fun all=>no fun z a=>?_⟩));rcases ak.mp a with y | y
   ·subst y;rw[p];exact fun y=>q (Option.some.inj y)
   ·exact all z y
 ·rintro b s' ⟨rfl,rfl,_,no⟩;exact ar (no fun _ z=>nomatch z)
theorem uZ (L:A.units<cLine)(F:nh P w s.heap k u)(G:s.heap.get? d=some o)(D:o.data=.dict es ep)(X:pG P w s.heap es ks)(T:k∉ks→Q none s)(h1:∀j,ks[j]?=some k→Q (some j) s):wpAny (model P w) A (dictFind d u (kU P w k)) Q E s:=by
 generalize B:placesWithHash es.size (fun i=>es[i]?.map (·.hash)) (kU P w k)=pl;have p:∀i,i∈pl→∃e,es[i]?=some e∧(e.hash == kU P w k)=true:=fun i hi=>by
  rw[←B,placesWithHash,aV]at hi;cases l:es[i]? with
  |none=>rw[l]at hi;simp at hi
  |some e=>rw[l]at hi;exact⟨e,rfl,by simpa using hi.2⟩
 have M:∀j,ks[j]?=some k→j∈pl:=fun j g=>by
  obtain⟨e,l,C,_⟩:=X.at_ j k g;rw[←B,placesWithHash,aV,List.mem_range];exact⟨(Array.getElem?_eq_some_iff.mp l).1,by rw[l];simp[C]⟩
 have H:pl.Nodup:=by rw[←B,placesWithHash];exact List.Pairwise.filter _ List.nodup_range
 have t:(∀j∈pl,ks[j]?≠some k)→Q none s:=fun all=>T fun O=>by
  obtain⟨j,g⟩:=az.mp O;exact all j (M j g) g
 have K:∀v∈pl.filterMap (fun i=>es[i]?.map (·.key)),∃j,nh P w s.heap j v:=fun v I=>by
  obtain⟨i,hi,I⟩:=List.mem_filterMap.mp I;obtain⟨e,l,_⟩:=p i hi;rw[l]at I;obtain⟨j,_,_,g⟩:=X.back l;cases I;exact⟨j,g⟩
 have R:u=.none∨∃b,u=.ref b:=by
  cases k with
  |none=>exact .inl F
  |some x=>obtain⟨b,e,_⟩:=F;exact .inr ⟨b,e⟩
 unfold dictFind
 try with_reducible refine bw ?_
 refine ac (cO G D ?_);rcases R with rfl | ⟨b,rfl⟩
 ·dsimp only;rw[B];by_cases I:((Value.none::pl.filterMap fun i=>es[i]?.map (·.key)).all carriedByValue)=true
  ·rw[if_pos I];exact Ca L F G D X pl p t fun j _ g=>h1 j g
  rw[if_neg I];by_cases hone:((pl.filterMap fun i=>es[i]?.map (·.key)) == [Value.none])=true
  ·rw[if_pos hone];refine ac (ar ?_);rw[if_neg (by simp)];refine ac (cV _ (fun rest b s'=>s'=s∧(∀i∈rest,i∈pl)∧rest.Nodup∧((b=(none,none)∧((∀j∈rest,ks[j]?≠some k)→Q none s))∨∃j,b=(none,some j)∧ks[j]?=some k∧j∉rest)) _ ?_ ?_ _ _ ⟨rfl,fun _ z=>z,H,.inl ⟨rfl,t⟩⟩)
   ·rintro i rest r s' ⟨rfl,sub,nd,st⟩;obtain⟨e,l,C⟩:=p i (sub i (by simp));obtain⟨j,g,_,J⟩:=X.back l;rw[aU]at nd;simp only[l];rw[if_pos C];refine ac (bB G D (ac (n_eq L J F (ac (bB G D ?_)))));rw[if_neg (by simp)];by_cases q:j=k
    ·rw[ao q,if_pos rfl];subst q;rcases st with ⟨rfl,no⟩ | ⟨j',rfl,a,m⟩
     ·rw[if_neg (by simp)];refine ac (cb ?_)
      split
      ·exact ar (ar (h1 i g))
      ·exact ar ⟨rfl,fun z h=>sub z (by simp[h]),nd.2,.inr ⟨i,rfl,g,nd.1⟩⟩
     ·exact absurd (X.one g a) (fun z=>m (by simp[z]))
    ·rw[au q,if_neg (by decide)];refine ac (cb ?_);rw[if_neg (by simp)];refine ar ⟨rfl,fun z h=>sub z (by simp[h]),nd.2,?_⟩;rcases st with ⟨rfl,no⟩ | ⟨j',rfl,a,m⟩
     ·refine .inl ⟨rfl,fun all=>no fun z h=>?_⟩;rcases ak.mp h with y | y
      ·subst y;rw[g];exact fun y=>q (Option.some.inj y)
      ·exact all z y
     ·exact .inr ⟨j',rfl,a,fun z=>m (by simp[z])⟩
   ·rintro r s' ⟨rfl,_,_,st⟩;rcases st with ⟨rfl,no⟩ | ⟨j',rfl,a,_⟩
    ·exact ar (no fun _ z=>nomatch z)
    ·exact ar (h1 j' a)
  ·rw[if_neg hone];refine ac (vV F K ?_);rw[if_neg (by simp)];refine ac (cV _ (fun rest b s'=>s'=s∧(∀i∈rest,i∈pl)∧rest.Nodup∧((b=(none,none)∧((∀j∈rest,ks[j]?≠some k)→Q none s))∨∃j,b=(none,some j)∧ks[j]?=some k∧j∉rest)) _ ?_ ?_ _ _ ⟨rfl,fun _ z=>z,H,.inl ⟨rfl,t⟩⟩)
   ·rintro i rest r s' ⟨rfl,sub,nd,st⟩;obtain⟨e,l,C⟩:=p i (sub i (by simp));obtain⟨j,g,_,J⟩:=X.back l;rw[aU]at nd;simp only[l];rw[if_pos C];refine ac (bB G D (ac (n_eq L J F (ac (bB G D ?_)))));rw[if_neg (by simp)];by_cases q:j=k
    ·rw[ao q,if_pos rfl];subst q;rcases st with ⟨rfl,no⟩ | ⟨j',rfl,a,m⟩
     ·rw[if_neg (by simp)];refine ac (cb ?_)
      split
      ·exact ar (ar (h1 i g))
      ·exact ar ⟨rfl,fun z h=>sub z (by simp[h]),nd.2,.inr ⟨i,rfl,g,nd.1⟩⟩
     ·exact absurd (X.one g a) (fun z=>m (by simp[z]))
    ·rw[au q,if_neg (by decide)];refine ac (cb ?_);rw[if_neg (by simp)];refine ar ⟨rfl,fun z h=>sub z (by simp[h]),nd.2,?_⟩;rcases st with ⟨rfl,no⟩ | ⟨j',rfl,a,m⟩
     ·refine .inl ⟨rfl,fun all=>no fun z h=>?_⟩;rcases ak.mp h with y | y
      ·subst y;rw[g];exact fun y=>q (Option.some.inj y)
      ·exact all z y
     ·exact .inr ⟨j',rfl,a,fun z=>m (by simp[z])⟩
   ·rintro r s' ⟨rfl,_,_,st⟩;rcases st with ⟨rfl,no⟩ | ⟨j',rfl,a,_⟩
    ·exact ar (no fun _ z=>nomatch z)
    ·exact ar (h1 j' a)
 ·have I:¬((Value.ref b::pl.filterMap fun i=>es[i]?.map (·.key)).all carriedByValue)=true:=by simp[carriedByValue]
  have N:¬(es.any fun e=>e.key == Value.ref b&&e.hash != kU P w k)=true:=by
   rw[←Array.any_toList,dC];rintro⟨e,O,S⟩;obtain⟨i,hi⟩:=az.mp O;rw[bR]at hi;obtain⟨j,_,C,g⟩:=X.back hi;rw[aH,beq_iff_eq,bne_iff_ne]at S;rw[S.1]at g;exact S.2 (by rw[C,g.inj F])
  dsimp only;rw[B,if_neg I,if_neg N];by_cases hone:((pl.filterMap fun i=>es[i]?.map (·.key)) == [Value.ref b])=true
  ·rw[if_pos hone];refine ac (ar ?_);rw[if_neg (by simp)];refine ac (cV _ (fun rest b s'=>s'=s∧(∀i∈rest,i∈pl)∧rest.Nodup∧((b=(none,none)∧((∀j∈rest,ks[j]?≠some k)→Q none s))∨∃j,b=(none,some j)∧ks[j]?=some k∧j∉rest)) _ ?_ ?_ _ _ ⟨rfl,fun _ z=>z,H,.inl ⟨rfl,t⟩⟩)
   ·rintro i rest r s' ⟨rfl,sub,nd,st⟩;obtain⟨e,l,C⟩:=p i (sub i (by simp));obtain⟨j,g,_,J⟩:=X.back l;rw[aU]at nd;simp only[l];rw[if_pos C];refine ac (bB G D (ac (n_eq L J F (ac (bB G D ?_)))));rw[if_neg (by simp)];by_cases q:j=k
    ·rw[ao q,if_pos rfl];subst q;rcases st with ⟨rfl,no⟩ | ⟨j',rfl,a,m⟩
     ·rw[if_neg (by simp)];refine ac (cb ?_)
      split
      ·exact ar (ar (h1 i g))
      ·exact ar ⟨rfl,fun z h=>sub z (by simp[h]),nd.2,.inr ⟨i,rfl,g,nd.1⟩⟩
     ·exact absurd (X.one g a) (fun z=>m (by simp[z]))
    ·rw[au q,if_neg (by decide)];refine ac (cb ?_);rw[if_neg (by simp)];refine ar ⟨rfl,fun z h=>sub z (by simp[h]),nd.2,?_⟩;rcases st with ⟨rfl,no⟩ | ⟨j',rfl,a,m⟩
     ·refine .inl ⟨rfl,fun all=>no fun z h=>?_⟩;rcases ak.mp h with y | y
      ·subst y;rw[g];exact fun y=>q (Option.some.inj y)
      ·exact all z y
     ·exact .inr ⟨j',rfl,a,fun z=>m (by simp[z])⟩
   ·rintro r s' ⟨rfl,_,_,st⟩;rcases st with ⟨rfl,no⟩ | ⟨j',rfl,a,_⟩
    ·exact ar (no fun _ z=>nomatch z)
    ·exact ar (h1 j' a)
  ·rw[if_neg hone];refine ac (vV F K ?_);rw[if_neg (by simp)];refine ac (cV _ (fun rest b s'=>s'=s∧(∀i∈rest,i∈pl)∧rest.Nodup∧((b=(none,none)∧((∀j∈rest,ks[j]?≠some k)→Q none s))∨∃j,b=(none,some j)∧ks[j]?=some k∧j∉rest)) _ ?_ ?_ _ _ ⟨rfl,fun _ z=>z,H,.inl ⟨rfl,t⟩⟩)
   ·rintro i rest r s' ⟨rfl,sub,nd,st⟩;obtain⟨e,l,C⟩:=p i (sub i (by simp));obtain⟨j,g,_,J⟩:=X.back l;rw[aU]at nd;simp only[l];rw[if_pos C];refine ac (bB G D (ac (n_eq L J F (ac (bB G D ?_)))));rw[if_neg (by simp)];by_cases q:j=k
    ·rw[ao q,if_pos rfl];subst q;rcases st with ⟨rfl,no⟩ | ⟨j',rfl,a,m⟩
     ·rw[if_neg (by simp)];refine ac (cb ?_)
      split
      ·exact ar (ar (h1 i g))
      ·exact ar ⟨rfl,fun z h=>sub z (by simp[h]),nd.2,.inr ⟨i,rfl,g,nd.1⟩⟩
     ·exact absurd (X.one g a) (fun z=>m (by simp[z]))
    ·rw[au q,if_neg (by decide)];refine ac (cb ?_);rw[if_neg (by simp)];refine ar ⟨rfl,fun z h=>sub z (by simp[h]),nd.2,?_⟩;rcases st with ⟨rfl,no⟩ | ⟨j',rfl,a,m⟩
     ·refine .inl ⟨rfl,fun all=>no fun z h=>?_⟩;rcases ak.mp h with y | y
      ·subst y;rw[g];exact fun y=>q (Option.some.inj y)
      ·exact all z y
     ·exact .inr ⟨j',rfl,a,fun z=>m (by simp[z])⟩
   ·rintro r s' ⟨rfl,_,_,st⟩;rcases st with ⟨rfl,no⟩ | ⟨j',rfl,a,_⟩
    ·exact ar (no fun _ z=>nomatch z)
    ·exact ar (h1 j' a)
end
def kH (xs:List (fB×Value×Value))(k:fB):Option Value:=(xs.find? fun x=>decide (x.1=k)).map (·.2.2)
def pM (k:fB)(v:Value)(x:fB×Value×Value):fB×Value×Value:=if x.1=k then (x.1,x.2.1,v) else x
def pO (xs:List (fB×Value×Value))(k:fB)(u v:Value):List (fB×Value×Value):=if (kH xs k).isSome=true then xs.map (pM k v) else xs++[(k,u,v)]
def mS (P:Program)(w:World)(h:Heap)(d:Addr)(xs:List (fB×Value×Value)):Prop:=
 ∃o es ep,h.get? d=some o∧o.ExactDict∧o.data=.dict es ep∧es.toList=xs.map (tE P w)∧(∀x∈xs,nh P w h x.1 x.2.1)∧(xs.map (·.1)).Nodup
theorem kE {k:fB}(h:k∉xs.map (·.1)):kH xs k=none:=by
 unfold kH;rw[dM.mpr fun x a b=>h (av.mpr ⟨x,a,bc b⟩)];rfl
theorem nO {k:fB}{p:Value×Value}:∀{xs:List (fB×Value×Value)} {j:Nat},(xs.map (·.1)).Nodup→xs[j]?=some (k,p)→kH xs k=some p.2
 |[],j,_,h=>by simp at h
 |x::xs,0,_,h=>by
  have e:x=(k,p):=by simpa using h
  subst e;simp[kH]
 |x::xs,j+1,hn,h=>by
  rw[aD,aU]at hn;have h':xs[j]?=some (k,p):=by simpa using h
  have a:¬x.1=k:=fun e=>hn.1 (e▸av.mpr ⟨(k,p),aj h',rfl⟩);have:=nO hn.2 h';simpa [kH,bi,a] using this
theorem yV (k:fB)(v:Value)(x:fB×Value×Value):(pM k v x).1=x.1:=by unfold pM;split <;> rfl
section
variable {k:fB}{u:Value}
theorem mS.typeIs (D:mS P w s.heap d xs):s.TypeIs (.ref d) "dict":=(by obtain⟨o,_,_,ho,hc,_⟩:=D;exact⟨o,ho,hc.1⟩)
theorem rZ (b:es.toList=xs.map (tE P w))(hi:∀x∈xs,nh P w h x.1 x.2.1)(e:(xs.map (·.1)).Nodup):pG P w h es (xs.map (·.1)):=by
 refine⟨e,by rw[←bF,b,ab,ab],fun i k a=>?_⟩;rw[ae]at a;obtain⟨x,d,rfl⟩:=ax.mp a;exact⟨tE P w x,by rw[←bR,b,ae,d];rfl,rfl,hi x (aj d)⟩
theorem D9 {Q:Option Value→Shared→Prop}(i:A.units<cLine)(p:nh P w s.heap k u)(D:mS P w s.heap d xs)(h:∀tk,Q (kH xs k) {s with toks:=tk}):wpAny (model P w) A (dictGet d u) Q E s:=by
 obtain⟨o,es,ep,g,_,b,q,hi,m⟩:=D;unfold dictGet
 try with_reducible refine bw ?_
 refine ac (uY i p fun tk=>ac (uZ (s:={s with toks:=tk}) i p g b (rZ q hi m) (fun a=>?_) (fun j r=>?_)))
 ·rw[kE a]at h;exact ar (h tk)
 ·rw[ae]at r;obtain⟨x,l,e⟩:=ax.mp r;obtain⟨t,v⟩:=x;obtain rfl:k=t:=e.symm;rw[nO m l]at h;refine ac (cO (s:={s with toks:=tk}) g b (ar ?_));rw[←bR,q,ae,l]
  exact h tk
theorem D8 {Q:Unit→Shared→Prop}(G:A.units<cLine)(C:nh P w s.heap k u)(D:mS P w s.heap d xs)(hz:xs.length≤sizeLine)(h:∀h' tk,mS P w h' d (pO xs k u v)→Heap.SameBut d s.heap h'→Q () {s with heap:=h',toks:=tk}):wpAny (model P w) A (dictSet d u v) Q E s:=by
 obtain⟨o,es,ep,p,J,g,B,hi,t⟩:=D;have L:es.size=xs.length:=by rw[←bF,B,ab]
 unfold dictSet
 try with_reducible refine bw ?_
 refine ac (uY G C fun tk=>?_);unfold dictSetHashed
 try with_reducible refine bw ?_
 refine ac (uZ (s:={s with toks:=tk}) G C p g (rZ B hi t) (fun r=>?_) (fun j H=>?_))
 ·have hp:pO xs k u v=xs++[(k,u,v)]:=by unfold pO;rw[kE r,if_neg (by decide)]
  refine ac (cb (wpAny_updateDictKeys (hz:=by lia) (s:={s with toks:=tk}) p g (h _ tk ?_ (Heap.SameBut.update ..))));refine⟨_,_,ep+1,dB _ p (Obj.isFreed_of_dict (Obj.data_mapDictKeys g _)),J.mapDictKeys _,Obj.data_mapDictKeys g _,?_,fun x i=>?_,?_⟩
  ·rw[hp];simp[B,tE]
  ·rw[hp]at i;rcases ay.mp i with z | z
   ·exact(hi x z).keep p g (Heap.SameBut.update ..)
   ·rw[ai.mp z];exact C.keep p g (Heap.SameBut.update ..)
  ·rw[hp,aw,bQ];refine⟨t,by simp,fun a I b F z=>r ?_⟩;rw[aD,cM,ai]at F;rw[z,F]at I;exact I
 ·rw[ae]at H;obtain⟨x,i,e⟩:=ax.mp H;obtain⟨O,N⟩:=x;obtain rfl:k=O:=e.symm;have hp:pO xs k u v=xs.map (pM k v):=by unfold pO;rw[nO t i,if_pos (show(some N.2).isSome=true from rfl)]
  refine ac (cb (ac (wpAny_updateDict (s:={s with toks:=tk}) p g (wpAny_point (h _ tk ?_ (Heap.SameBut.update ..))))));refine⟨_,_,ep,dB _ p (Obj.isFreed_of_dict (Obj.data_mapDict g _)),J.mapDict _,Obj.data_mapDict g _,?_,fun x i=>?_,?_⟩
  ·rw[hp,Array.toList_modify,B,ck];refine List.ext_getElem? fun m=>?_;rw[List.getElem?_modify,ae,ae]
   cases hm:xs[m]? with
   |none=>rfl
   |some y=>
    by_cases hjm:j=m
    ·subst hjm;rw[i]at hm;cases hm;simp[tE,pM]
    ·have K:¬y.1=k:=fun z=>hjm ((cc (by rw[ab];exact(af.mp i).1) t).mp (by rw[ae,ae,i,hm];exact congrArg some z.symm))
     simp[pM,K,hjm]
  ·rw[hp]at i;obtain⟨y,M,rfl⟩:=av.mp i;have q:=(hi y M).keep p g (Heap.SameBut.update s.heap d (Obj.mapDict (fun l=>l.modify j fun e=>{e with val:=v})));unfold pM
   split
   ·exact q
   ·exact q
  ·rw[hp,ck,show((fun x:fB×Value×Value=>x.1) ∘ pM k v)=(·.1) from funext fun x=>yV k v x];exact t
theorem Cg {Q:Value→Shared→Prop}(a:s.TypeIs (.ref d) "dict")(h:wpAny (model P w) A.in1 (dictGet d u) (fun r s'=>∃v,r=some v∧Q v s') E s):wpAny (model P w) A (getItem (.ref d) u) Q E s:=by
 unfold getItem
 try with_reducible refine bw ?_
 refine ac (wpAny_sequenceKey a (by decide) (ac (dg (name:=Str.ofString "__getitem__") a slot_dict_getitem (ca slot_dict_getitem a entry_dict_getitem ?_ (args_dict_getitem _ _)))))
 show wpAny _ _ (dictGet d u >>= _) _ _ s;refine ac (bO h (?_) fun _ _ z=>z);rintro r s' ⟨v,e,q⟩;subst e;exact ar ⟨v,rfl,ar q⟩
theorem FP {Q:Bool→Shared→Prop}(a:s.TypeIs (.ref d) "dict")(b:(d == sysModules)=false)(h:wpAny (model P w) A.in1 (dictGet d u) (fun r s'=>Q r.isSome s') E s):wpAny (model P w) A (contains (.ref d) u) Q E s:=by
 unfold contains
 try with_reducible refine bw ?_
 refine ac (wpAny_specialOf a slot_dict_contains.lookup ?_);show wpAny _ _ (if (some (Value.builtin "dict.__contains__") == some Value.none)=true then _ else _) _ _ s;rw[if_neg (by rw[beq_builtin_none];exact aP)];refine ac (wpAny_callSpecialUnlessNone?_slot (name:=Str.ofString "__contains__") a slot_dict_contains (ca slot_dict_contains a entry_dict_contains ?_ (args_dict_contains _ _)))
 show wpAny _ _ (dictGet d u >>= _) _ _ s;refine ac (bO h (fun r s' q=>?_) fun _ _ z=>z);cases r with
 |some v=>exact ar ⟨_,rfl,bN q⟩
 |none=>exact ac (wpAny_pendingKey_other b (ar ⟨_,rfl,bN q⟩))
theorem yA {Q:Unit→Shared→Prop}(a:s.TypeIs (.ref d) "dict")(h:wpAny (model P w) A.in1 (dictSet d u v) Q E s):wpAny (model P w) A (setItem (.ref d) u v) Q E s:=by
 unfold setItem
 try with_reducible refine bw ?_
 refine ac (wpAny_sequenceKey a (by decide) (ac (dg (name:=Str.ofString "__setitem__") a slot_dict_setitem (ca slot_dict_setitem a entry_dict_setitem ?_ (args_dict_setitem _ _ _)))))
 refine ac (dw a ?_);show wpAny _ _ (dictSet d u v >>= _) _ _ s;exact ac (bO h (fun _ s' q=>ar ⟨.none,rfl,ar q⟩) fun _ _ z=>z)
end
theorem AM.val (r:AM H kvs xs)(k:fB):jc (eN kvs k) (kH xs k):=by
 induction r with
 |nil=>exact True.intro
 |@cons p q ps qs h t ih=>
  obtain⟨h1,_,h2⟩:=h;by_cases e:p.1=k
  ·have b:kH (q::qs) k=some q.2.2:=by simp[kH,bi,h1.symm.trans e]
   rw[fX e,b];exact h2
  ·have a:¬q.1=k:=fun z=>e (h1.trans z);have b:kH (q::qs) k=kH qs k:=by simp[kH,bi,a]
   rw[fQ e,b];exact ih
theorem AM.rep (r:AM H kvs xs)(k:fB)(b:eT y v):AM H (kvs.map fun kv=>if kv.1=k then (kv.1,y) else kv) (xs.map (pM k v)):=by
 induction r with
 |nil=>exact .nil
 |@cons p q ps qs h t ih=>
  obtain⟨h1,h2,a⟩:=h;rw[aD,aD];refine .cons ?_ ih;unfold pM;by_cases e:p.1=k
  ·rw[if_pos e,if_pos (h1.symm.trans e)];exact⟨h1,h2,b⟩
  ·rw[if_neg e,if_neg (fun z=>e (h1.trans z))];exact⟨h1,h2,a⟩
theorem AM.put (r:AM H kvs xs)(k:fB){u:Value}(b:vA H k u)(a:eT y v):AM H (eY kvs k y) (pO xs k u v):=by
 unfold eY pO;rw[iG,(r.val k).Jr];by_cases q:(kH xs k).isSome=true
 ·rw[if_pos q,if_pos q];exact r.rep k a
 ·rw[if_neg q,if_neg q];exact Paired.snoc r ⟨rfl,b,a⟩
theorem vA.keeps {k:fB}{u:Value}(x:vA H k u)(a:∀b ys,H b=some (.tup ys)→H' b=some (.tup ys)):vA H' k u:=by
 cases k with
 |none=>exact x
 |some ks=>obtain⟨b,e,d⟩:=x;exact⟨b,e,a _ _ d⟩
def kO (H:Hp):fB→V→Prop
 |none,y=>y=.non
 |some ks,y=>∃b,y=.ref b∧H b=some (.tup (ks.map kV))
theorem kO.rel {k:fB}{u:Value}(x:kO H k y)(r:eT y u):vA H k u:=by
 cases k with
 |none=>rw[show y=V.non from x]at r;exact r
 |some ks=>obtain⟨b,rfl,a⟩:=x;exact⟨b,r,a⟩
theorem tG (ok:kF P w H h)(e:Rd H a (.dN kvs)):kvs.length≤sizeLine∧(a == sysModules)=false∧∃xs,AM H kvs xs∧mS P w h a xs:=by
 obtain⟨z,y,xs,r,o,es,ep,h1,h2,b,d,g⟩:=(show fC P w H h a (.dN kvs) from yW ok e);have all:∀{l:List (fB×V)} {m:List (fB×Value×Value)},AM H l m→∀x∈m,nh P w h x.1 x.2.1:=by
  intro l m q
  induction q with
  |nil=>intro x hx;exact nomatch hx
  |@cons p q ps qs hq t ih=>
   intro x hx;rcases ak.mp hx with e | hx
   ·subst e;rw[←hq.1];exact nK ok hq.2.1
   ·exact ih x hx
 exact⟨z,y,xs,r,o,es,ep,h1,h2,b,d,all r,g⟩
def iq (H:Hp)(a:Addr)(y:V)(r:Option V):Prop:=∃kvs k,Rd H a (.dN kvs)∧kO H k y∧r=eN kvs k
def kg (H:Hp)(a:Addr)(y v:V)(H':Hp):Prop:=∃kvs k,H a=some (.dN kvs)∧kO H k y∧kvs.length<sizeLine∧H'=upd H a (.dN (eY kvs k v))
theorem iq.of {k:fB}(e:H a=some (.dN kvs))(hk:kO H k y):iq H a y (eN kvs k):=⟨kvs,k,.inl e,hk,rfl⟩
theorem kg.of {k:fB}{v:V}(e:H a=some (.dN kvs))(hk:kO H k y)(hl:kvs.length<sizeLine):kg H a y v (upd H a (.dN (eY kvs k v))):=⟨kvs,k,e,hk,hl,rfl⟩
section
variable {v:V}{u r:Value}{o:Option V}
theorem vf {Q:Option Value→Shared→Prop}(d:A.units<cLine)(I:eM X pins σ H s)(g:iq H a y o)(i:eT y u)(h:∀o' s',eM X pins σ H s'→jc o o'→Q o' s'):wpAny (model X.prog X.w) A (dictGet a u) Q E s:=by
 obtain⟨kvs,k,e,b,rfl⟩:=g;obtain⟨z,l,xs,rel,j⟩:=tG I.hok e;exact D9 d (nK I.hok (b.rel i)) j fun tk=>h _ _ (I.tok tk) (rel.val k)
theorem nR (I:eM X pins σ H s)(g:iq H a y o):s.TypeIs (.ref a) "dict"∧(a == sysModules)=false:=by
 obtain⟨kvs,k,e,h,rfl⟩:=g;obtain⟨z,b,xs,rel,d⟩:=tG I.hok e;exact⟨d.typeIs,b⟩
theorem pi {Q:Value→Shared→Prop}(j:A.units+1<cLine)(I:eM X pins σ H s)(g:iq H a y (some v))(l:eT y u)(h:∀w' s',eM X pins σ H s'→eT v w'→Q w' s'):wpAny (model X.prog X.w) A (getItem (.ref a) u) Q E s:=by
 refine Cg (nR I g).1 (vf j I g l fun o' s' i d=>?_);obtain⟨w',e,b⟩:=jc.some_of d;exact⟨w',e,h w' s' i b⟩
theorem FV {Q:Bool→Shared→Prop}(i:A.units+1<cLine)(I:eM X pins σ H s)(g:iq H a y o)(j:eT y u)(h:∀s',eM X pins σ H s'→Q o.isSome s'):wpAny (model X.prog X.w) A (contains (.ref a) u) Q E s:=by
 obtain⟨t,b⟩:=nR I g;refine FP t b (vf i I g j fun o' s' e d=>?_);rw[←d.Jr];exact h s' e
theorem ph {Q:Unit→Shared→Prop}(p:A.units+1<cLine)(I:eM X pins σ H s)(g:kg H a y v H')(i:eT y u)(D:eT v r)(h:∀s',eM X pins σ H' s'→Q () s'):wpAny (model X.prog X.w) A (setItem (.ref a) u r) Q E s:=by
 obtain⟨kvs,k,e,l,G,rfl⟩:=g;obtain⟨z,o,xs,rel,j⟩:=tG I.hok (.inl e);have F:xs.length≤sizeLine:=by rw[←Paired.length rel];exact z
 have hp:(eY kvs k v).length≤sizeLine:=by have:=fD kvs k v;lia
 refine yA j.typeIs (D8 p (nK I.hok (l.rel i)) j F fun h' tk b x=>h _ ?_);obtain⟨m,es,ep,h1,h2,t,B,_,C⟩:=b;have keep:∀c ys,H c=some (.tup ys)→upd H a (.dN (eY kvs k v)) c=some (.tup ys):=fun c ys d=>by
  rw[dY (fe d e (fun z=>nomatch z))];exact d
 exact jr I (by rw[e];exact True.intro) x ⟨m,h1⟩ ⟨hp,o,_,Paired.Ja (rel.put k (l.rel i) D) fun _ _ q=>⟨q.1,q.2.1.keeps keep,q.2.2⟩,m,es,ep,h1,h2,t,B,C⟩
end
inductive wO (Q:VK)(x:V)(y:V)(H2:Hp):Prop
 |mk (a v:_)(_:x=.ref a)(_:iq H2 a y (some v))(_:Q v H2):wO Q x y H2
def DE (td ty:TE):TE:=fun σ H Q=>td σ H fun x H1=>ty σ H1 fun y H2=>wO Q x y H2
inductive AS (neg:Bool)(Q:VK)(y:V)(x:V)(H2:Hp):Prop
 |mk (a o:_)(_:x=.ref a)(_:iq H2 a y o)(_:Q (.bl (if neg then !o.isSome else o.isSome)) H2):AS neg Q y x H2
def Fa (neg:Bool)(ty td:TE):TE:=fun σ H Q=>ty σ H fun y H1=>td σ H1 fun x H2=>AS neg Q y x H2
inductive wR (D:lV)(σ:St)(v:V)(x:V)(y:V)(H3:Hp):Prop
 |mk (a H4:_)(_:x=.ref a)(_:kg H3 a y v H4)(_:D.nx σ H4):wR D σ v x y H3
def DP (td ty tv:TE):TS:=fun D σ H=>tv σ H fun v H1=>td σ H1 fun x H2=>ty σ H2 fun y H3=>wR D σ v x y H3
section
variable {o i value:Expr}{pos' tpos:Pos}{td ty tv:TE}
theorem eV (j:X.A.units+1<cLine)(e:PE X o td)(hi:PE X i ty)(r:EH i):PE X (.Subscript o i pos) (DE td ty):=by
 intro pins s σ H Q I h;refine vG PySem.F.slot_dict_getitem.lookup r (fG (e pins s σ H _ I h) ?_);rintro u l ⟨x,H1,p,m,w⟩;refine fG (hi pins l σ H1 _ p w) ?_;rintro E C ⟨y,H2,d,q,a,v,ex,g,z⟩;subst ex;obtain rfl:u=Value.ref a:=m;exact⟨(nR d g).1,pi j d g q fun B D t b=>⟨v,H2,t,b,z⟩⟩
theorem BJ (p:X.A.units+1<cLine)(hi:PE X i ty)(b:PE X o td):PC X .In i o (Fa false ty td):=by
 intro pins s σ H Q I h;refine fG (hi pins s σ H _ I h) ?_;rintro B d ⟨y,H1,l,m,r⟩;refine fG (b pins d σ H1 _ l r) ?_;rintro u w ⟨x,H2,t,e,a,j,ex,g,v⟩;subst ex;obtain rfl:u=Value.ref a:=e;exact ac (FV p t g m fun z q=>ar ⟨.bl j.isSome,H2,q,rfl,v⟩)
theorem j4 (B:X.A.units+1<cLine)(w:PE X o td)(hi:PE X i ty)(G:PE X value tv)(E:swapsWith value (some (.Subscript o i pos')) pos.line X.env=pure false):PS X (.Assign [.Subscript o i pos'] value pos) (DP td ty tv):=by
 intro pins s σ H D I h;refine wpAny_Assign_Subscript (fG (G pins s σ H _ I h) ?_) E;rintro r z ⟨v,H1,d,t,m⟩;refine fG (w pins z σ H1 _ d m) ?_;rintro u l ⟨x,H2,q,C,J⟩;refine fG (hi pins l σ H2 _ q J) ?_;rintro N M ⟨y,L,e,F,a,j,ex,g,p⟩;subst ex;obtain rfl:u=Value.ref a:=C;exact ph B e g F t fun K b=>⟨σ,j,b,p⟩
end
def DC:TE:=fun _ H Q=>∀p,H p=none→Q (.ref p) (upd H p (.dN []))
theorem Af (h:Heap)(hb:sysModules<h.objs.size):fC P w H (h.push {cls:=.type "dict",data:=.dict #[]}) h.objs.size (.dN []):=
 ⟨bp _,beq_eq_false_iff_ne.mpr (Ne.symm (aX hb)),[],.nil,_,#[],0,aT _ rfl,⟨rfl,rfl,rfl⟩,rfl,rfl,bS⟩
theorem lM:PE X (.Dict [] [] pos) DC:=fun pins s σ H Q I h=>
 wpAny_Dict_empty ⟨.ref s.heap.objs.size,_,I.laid (a:=s.heap.objs.size) (o:=.dN []) (t':=s.toks) (fun _ _ q=>aC _ q) (aq _) (Af s.heap I.big),rfl,h _ (I.hok.fresh (aq _))⟩
def rN (P:Program)(w:World):PySem.KeyKind P w Unit where
 is:=fun _ v=>match v with | .none=>true | _=>false
 hash:=fun _=>W.hashW w.params .none
 inj:=fun _ _ _ _ _=>rfl
 byValue:=fun _ v h=>by cases v <;> first | rfl | (simp at h)
 pyHash:=fun {A E s k v Q} hv h=>by
  cases v <;> first | (simp at hv;done) | skip
  exact W.pyHash_slot (T:="NoneType") rfl PySem.F.slot_NoneType_hash PySem.F.entry_NoneType_hash (PySem.F.args_NoneType_hash_1 _) (beq_builtin_none _) (.inl rfl) (ac (ar (ac (wpAny_mkInt (ar ⟨_,_,rfl,h⟩)))))
 eqBool:=fun {A E s a b u v Q} hu hv h=>by
  cases u <;> first | (simp at hu;done) | skip
  cases v <;> first | (simp at hv;done) | skip
  unfold eqBool
  try with_reducible refine bw ?_
  show wpAny _ _ (if (Value.none == Value.none)=true then _ else _) Q E s;rw[if_pos (show(Value.none == Value.none)=true by simp)];exact ac (cb (ar (by simpa using h)))
 «strs»:=fun k x t v h=>by simp at h
def Dz (tv:TE):TE:=fun σ H Q=>∀p,H p=none→tv σ (upd H p (.dK [])) fun v H2=>H2 p=some (.dK [])∧Q (.ref p) (upd H2 p (.dN [(none,v)]))
def FD (F:V→Hp→Prop):List (V×V)→Hp→Prop
 |[(.non,y)],H=>F y H
 |_,_=>False
theorem zp {F:V→Hp→Prop}{ps:List (V×V)}(h:FD F ps H):∃y,ps=[(V.non,y)]∧F y H:=by
 cases ps with
 |nil=>exact h.elim
 |cons p t=>
  obtain⟨x,y⟩:=p;cases t with
  |cons _ _=>cases x <;> exact h.elim
  |nil=>
   cases x with
   |non=>exact⟨y,rfl,h⟩
   |_=>exact h.elim
theorem sP {kpos:Pos}{v:Expr}{tv:TE}(R:PE X v tv):PE X (.Dict [some (.Constant .none j kpos)] [v] pos) (Dz tv):=by
 intro pins s σ H Q I q;have hn:=I.hok.fresh (aq s.heap.objs.size);have I1:=I.laid (a:=s.heap.objs.size) (o:=.dK []) (h':=s.heap.push {cls:=.type "dict",data:=.dict #[]}) (t':=s.toks) (fun _ _ q=>aC _ q) (aq _) (pw s.heap I.big);have P:Gg X pos [some (.Constant .none j kpos)] [v] [(tC .non,tv)]:=sN iO R vO;generalize hp:s.heap.objs.size=p at *;have q1:=q p hn;have hq:qF [(tC .non,tv)] σ (upd H p (.dK [])) (FD fun y H2=>H2 p=some (.dK [])∧Q (.ref p) (upd H2 p (.dN [(none,y)]))):=q1;have U:=P pins _ σ _ _ I1 hq;refine wpAny_Dict_walk (knd:=rN X.prog X.w) rfl rfl (by simp) (by show 1≤15;decide) (fG U fun ws s2 r=>?_);obtain⟨ps,H2,D,rel,Y⟩:=r;obtain⟨y,rfl,e,S⟩:=zp Y;cases rel with
 |@cons _ b _ _ h1 t1=>
  cases t1;obtain⟨Z,h⟩:=b;cases (show Z=Value.none from h1.1);obtain⟨z,T,N,F,o,es,ep,g1,g2,g3,g4,g5,g6⟩:=qp D.hok e;cases F;have t:es=#[]:=by
   have:=g5.length;rw[List.length_nil,bF]at this;exact Array.eq_empty_of_size_eq_zero this
  subst t;rw[hp];refine⟨[((),h)],⟨rfl,rfl,True.intro⟩,⟨o,#[],ep,g1,g2,g3,fun _ O=>by simp at O,.nil,bS⟩,fun h' x hs=>⟨.ref p,upd H2 p (.dN [(none,y)]),?_,rfl,S⟩⟩;obtain⟨o',d,m,B,L,f3,M,K,f6⟩:=x;have g:Pairs (rN X.prog X.w) d.toList [((),h)]:=K;refine jr D (by rw[e];exact True.intro) hs ⟨o',B⟩ ⟨by show 1≤sizeLine;decide,T,[(none,.none,h)],.cons ⟨rfl,rfl,h1.2⟩ .nil,o',d,m,B,L,f3,?_,by simp⟩;generalize J:d.toList=l at g;cases g with
  |@cons e0 _ es0 _ k1 k2 k3=>
   cases k3;obtain⟨k',kk,kh⟩:=M e0 (Array.mem_toList_iff.mp (by rw[J];simp));obtain⟨G,C,E⟩:=e0;have A:C=Value.none:=by
    cases C <;> first | rfl | (simp[rN]at k1)
   subst A;cases (show E=h from k2);have i:G=W.hashW X.w.params .none:=kh;rw[i];rfl
section
variable {kvs:List (fZ×V)}{k:fZ}{u r:Value}{z:V}
theorem Ey {Q:Value→Shared→Prop}(I:eM X pins σ H s)(e:H a=some (.dK kvs))(i:eT (kV k) u)(j:eT z r)(B:kvs.length<sizeLine)(h1:∀v w' s',eN kvs k=some v→eM X pins σ H s'→eT v w'→Q w' s')(h2:eN kvs k=none→∀s',eM X pins σ (upd H a (.dK (eY kvs k z))) s'→Q r s'):wpAny (model X.prog X.w) A (call (.builtin "dict.setdefault") [.ref a,u,r]) Q E s:=by
 obtain⟨y,d,vs,rel,g⟩:=qp I.hok e;refine call_meetsIn PySem.F.slot_dict_setdefault g.typeIs PySem.F.entry_dict_setdefault (PySem.F.args_dict_setdefault_3 _ _ _) (kt_meets_setdefault (fg X.prog X.w) a (lR i) d r)
  ⟨vs,g,by rw[←rel.length];exact y,fun v p=>?_,fun m h' b h=>?_⟩
 ·have q:=rel.val k;rw[p]at q;cases l:eN kvs k with
  |none=>rw[l]at q;exact q.elim
  |some x=>rw[l]at q;exact h1 x v _ l (I.tok _) q
 ·have q:=rel.val k;rw[m]at q;have l:eN kvs k=none:=by
   cases l:eN kvs k with
   |none=>rfl
   |some x=>rw[l]at q;exact q.elim
  have hp:(eY kvs k z).length≤sizeLine:=by have:=fD kvs k z;omega
  have t:∃q,h'.get? a=some q:=(by obtain⟨q,_,_,o,_⟩:=b;exact⟨q,o⟩);exact h2 l _ (jr I (by rw[e];exact True.intro) h t (pr hp d (rel.put k j) b))
end
inductive wM (ty:TE)(tx:TE)(σ:St)(Q:VK)(x:V)(H1:Hp):Prop
 |mk (a:_)(_:x=.ref a)(_:Gs H1 a)(_:ty σ H1 fun y H2=>tx σ H2 fun z H3=>∃kvs k,H3 a=some (.dK kvs)∧y=kV k∧kvs.length<sizeLine∧(∀v,eN kvs k=some v→Q v H3)∧(eN kvs k=none→Q z (upd H3 a (.dK (eY kvs k z))))):wM ty tx σ Q x H1
def DA (td ty tx:TE):TE:=fun σ H Q=>td σ H fun x H1=>wM ty tx σ Q x H1
theorem zf {o f:Expr}{apos cpos:Pos}{td ty tx:TE}(E:PE X o td)(O:PE X e ty)(D:PE X f tx)(m:M2 X o "setdefault" apos e f cpos):PE X (.Call (.Attribute o "setdefault" apos) [e,f] [] cpos) (DA td ty tx):=by
 intro pins s σ H Q I h;refine dq m.base m.few m.line PySem.F.plainAttrs_dict PySem.F.slot_dict_setdefault PySem.F.type_dict_setdefault (fG (E pins s σ H _ I h) ?_);rintro u L ⟨x,H1,g,M,a,ex,d,w⟩;subst ex;obtain rfl:u=Value.ref a:=M;obtain⟨G,j,_⟩:=u8 g d;refine⟨G,j,?_⟩;rw[m.trees];refine Calls.callWith_builtin rfl (Calls.evalArgs_plain (Calls.spliced_cons (fG (O pins L σ H1 _ g w) fun Y t ⟨y,H2,B,N,S⟩=>Calls.spliced_cons (fG (D pins t σ H2 _ B S) fun Z U ⟨z,q,r,i,kvs,k,R,P,K,A,J⟩=>Calls.spliced_nil ?_))));subst P;exact Ey r R N i K (fun v T p l b C=>⟨v,q,b,C,A v l⟩) fun l p b=>⟨z,_,b,i,J l⟩
theorem jF {α β:Type}{F:α→β→Prop}:∀{as:List α} {bs:List β},as.length=bs.length→(∀(i:Nat) x y,as[i]?=some x→bs[i]?=some y→F x y)→Paired F as bs
 |[],[],_,_=>.nil
 |a::as,b::bs,hl,h=>.cons (h 0 a b rfl rfl) (jF (by simpa using hl) fun i x y hx hy=>h (i+1) x y (by simpa using hx) (by simpa using hy))
 |[],_::_,hl,_=>by simp at hl
 |_::_,[],hl,_=>by simp at hl
theorem u7 {k:fZ}{u:Value}(h:(fg P w).is k u=true):eT (kV k) u:=by
 rcases gl h with ⟨i,t,rfl,rfl⟩ | ⟨x,t,rfl,rfl⟩
 ·exact⟨t,rfl⟩
 ·exact⟨t,rfl⟩
theorem vi (J:X.calm=true):ju X (.type "list") (fun xs H Q=>∃p kvs,xs=[.ref p]∧H p=some (.dK kvs)∧∀l,H l=none→Q (.ref l) (upd H l (.lst (kvs.map fun kv=>kV kv.1)))):=by
 intro pins s σ H xs us Q I r h;obtain⟨p,kvs,rfl,e,q⟩:=h;obtain⟨u,rfl,C⟩:=jm r;cases (show u=Value.ref p from C);obtain⟨z,hd,vs,rel,F⟩:=qp I.hok e;obtain⟨ep,m⟩:=F.dictAt;have B:=rel.length;refine W.kdl_call (W.kdl_dict (knd:=fg X.prog X.w) (kvs:=vs) (ep:=ep) hd) (I.ok.hd J) m (by rw[←B];exact z) fun h' tk t c D G d=>?_;have E:=I.hok.fresh (aq s.heap.objs.size);refine⟨.ref s.heap.objs.size,_,I.laid (a:=s.heap.objs.size) (o:=.lst (kvs.map fun kv=>kV kv.1)) (t':=tk) (fun b o q=>D b o q) (aq _) ?_,rfl,q _ E⟩;refine⟨by rw[ab];exact z,t.toList,c,?_,by rw[G]⟩;refine jF (by rw[ab,B,bF];exact d.1.symm) fun i x y j A=>?_;rw[bR]at A;obtain⟨k,v,h1,h2⟩:=d.2 i y A;rw[ae]at j;have g:kvs[i]?.map (·.1)=vs[i]?.map (·.1):=by rw[←ae,←ae,rel.keys]
 rw[h1]at g;cases hi:kvs[i]? with
 |none=>rw[hi]at j;cases j
 |some kv=>
  rw[hi]at j g;cases j;have:kv.1=k:=by simpa using g
  show eT (kV kv.1) y;rw[this];exact u7 h2
theorem ib.two {y y':Str}{c c':Addr}{n j':Nat}(h1:closureFor scope X.env=pure [(y,c),(y',c')])(h2:X.env.cells.lookup y=some c)(l:X.env.cells.lookup y'=some c')(g:y'≠y)(A:∀z∈scope.names,z.2≠.cell)(B:scope.kind=.function)(J:∀z∈scope.names,z.2=.local→scope.names.lookup z.1=some .local)(E:∀z∈scope.names,z.2=.free→z.1=y∨z.1=y')(I:N'[n]?=some y)(p:N'[n+1]?=some y')(F:N'.length=n+2)(L:X.N[j]?=some y)(s:X.N[j']?=some y')(G:X.env.kindOf y=some .cell)(t:X.env.kindOf y'=some .cell)(H:(relabel scope X.env).names.lookup y=some .cell)(o:(relabel scope X.env).names.lookup y'=some .cell):ib X N' scope [(y,c),(y',c')] n [j,j'] where
 clos:=h1
 cell:=A
 kind:=B
 names:=J
 sub:=fun z d e=>by
  by_cases q:z=y
  ·subst q;rw[aY,beq_self_eq_true]at e;rw[h2];exact e
  ·have b:(z == y)=false:=beq_false_of_ne q;by_cases q':z=y'
   ·subst q';rw[aY,b,aY,beq_self_eq_true]at e;rw[l];exact e
   ·have b':(z == y')=false:=beq_false_of_ne q';rw[aY,b,aY,b']at e;simp at e
 has:=fun z h=>by
  have mem:∃k,(k=NameKind.cell∨k=NameKind.free)∧(z,k)∈(relabel scope X.env).names:=by
   rcases h with h | h
   ·exact⟨_,.inl rfl,bn h⟩
   ·exact⟨_,.inr rfl,bn h⟩
  obtain⟨k,m,K⟩:=mem;obtain⟨⟨a,v⟩,x,e⟩:=av.mp (show(z,k)∈scope.names.map _ from K);have D:z=y∨z=y':=by
   by_cases hfree:v=.free
   ·have C:z=a:=by
     dsimp only at e
     split at e
     ·exact(Prod.mk.inj e).1.symm
     ·exact(Prod.mk.inj e).1.symm
    rw[C];exact E _ x hfree
   ·have b:(v == NameKind.free)=false:=by simpa using hfree
    simp only[b,bT,cr,if_false]at e;have w:=(Prod.mk.inj e).2;rcases m with q | q
    ·exact absurd (w.trans q) (A _ x)
    ·exact absurd (w.trans q) hfree
  rcases D with q | q
  ·subst q;exact⟨c,by rw[aY,beq_self_eq_true]⟩
  ·subst q;have b:(z == y)=false:=beq_false_of_ne g;exact⟨c',by rw[aY,b,aY,beq_self_eq_true]⟩
 len:=by simpa using F
 frees:=fun k i e=>by
  match k,e with
  |0,e=>
   have r:j=i:=by simpa using e
   subst r;exact⟨y,I,L,.inl G,.inl H,by rw[h2,aY,beq_self_eq_true]⟩
  |1,e=>
   have r:j'=i:=by simpa using e
   subst r;have b:(y' == y)=false:=beq_false_of_ne g;exact⟨y',p,s,.inl t,.inl o,by rw[l,aY,b,aY,beq_self_eq_true]⟩
  |k+2,e=>simp at e
end L2
namespace FB
open PySem
def ug:Nat→PyData→Bool
 |_,.none=>true
 |_,.int _=>true
 |_,.str x=>PyData.strOk x
 |k+1,.list xs=>xs.all (ug k)
 |k+1,.tuple xs=>xs.all (ug k)
 |_,_=>false
theorem vS:∀(k:Nat) (d:PyData),ug k d=true→d.canLay0=true∧d.depth≤k:=by
 intro k
 induction k with
 |zero=>
  intro d h;cases d <;> simp_all [ug,PyData.canLay0,PyData.depth]
 |succ k ih=>
  have all:∀xs:List PyData,xs.all (ug k)=true→PyData.canLayAll0 xs=true∧PyData.depthAll xs≤k:=by
   intro xs
   induction xs with
   |nil=>intro _;exact⟨rfl,bp _⟩
   |cons x xs ihx=>
    intro h;rw[List.all_cons,aH]at h;have h1:=ih x h.1;have h2:=ihx h.2;refine⟨?_,?_⟩
    ·rw[PyData.canLayAll0,h1.1,h2.1];rfl
    ·rw[PyData.depthAll];lia
  intro d h;cases d with
  |list xs=>
   have z:=all xs (by simpa [ug] using h);exact⟨by rw[PyData.canLay0];exact z.1,by rw[PyData.depth];lia⟩
  |tuple xs=>
   have z:=all xs (by simpa [ug] using h);exact⟨by rw[PyData.canLay0];exact z.1,by rw[PyData.depth];lia⟩
  |dict kvs=>simp[ug]at h
  |bool b=>simp[ug]at h
  |none=>simp[PyData.canLay0,PyData.depth]
  |int i=>simp[PyData.canLay0,PyData.depth]
  |str x=>simp_all [ug,PyData.canLay0,PyData.depth]
theorem uU {k:Nat}{d:PyData}(h:ug k d=true)(a:k≤64):SeqAt.shaped d=true:=by
 have z:=vS k d h;unfold SeqAt.shaped;rw[z.1,cD];exact ao (bj z.2 a)
abbrev Nd:=Str×Int×Int
abbrev En:=Str×Int×List Nd
def B9 (n:Nd):PyData:=.tuple [.str n.1,.int n.2.1,.int n.2.2]
def eL (e:En):Str×Int:=(e.1,e.2.1)
structure ij (x:Str):Prop where
 ok:PyData.strOk x=true
 sh:(reprText x).length≤1000
structure pH (e:En):Prop where
 pt:ij e.1
 nd:∀n∈e.2.2,ij n.1
 few:e.2.2.length≤100
theorem D6 {n:Nd}(h:ij n.1):ug 1 (B9 n)=true:=by simp[B9,ug,h.ok]
def li (n:Nd)(e:En):Bool:=decide (e.1=n.1)&&(decide (n.2.1≤e.2.1)&&decide (e.2.1≤n.2.2))
def jH (es:List En)(n:Nd):List Int:=(es.filter (li n)).map fun e=>e.2.1
theorem lO (es:List En)(n:Nd):(jH es n).length≤es.length:=by
 unfold jH;rw[ab];exact bt _ _
end FB
namespace FB
open PySem L2 PyProof.Rows
variable {H H':Hp}{es:List En}{p:Addr}{ps:List Addr}{v:V}
def del (H:Hp)(ps:List Addr):Hp:=fun b=>if b∈ps then none else H b
theorem el {b:Addr}(h:b∉ps):del H ps b=H b:=by unfold del;rw[if_neg h]
theorem fq {b:Addr}(h:b∈ps):del H ps b=none:=by unfold del;rw[if_pos h]
theorem eU (H:Hp)(ps:List Addr):eB (del H ps) H:=fun b o e=>by
 by_cases h:b∈ps
 ·rw[fq h]at e;cases e
 ·rw[el h]at e;exact e
theorem iU {o:HO}(h:p∈ps):del (upd H p o) ps=del H ps:=by
 funext b
 by_cases hb:b∈ps
 ·rw[fq hb,fq hb]
 ·rw[el hb,el hb,dY (fun z=>hb (by rw[z];exact h))]
theorem eB.del (e:eB H H')(ps:List Addr):eB (del H ps) (del H' ps):=fun b o q=>by
 by_cases h:b∈ps
 ·rw[fq h]at q;cases q
 ·rw[el h]at q ⊢;exact e b o q
theorem eo (h:H p=none)(o:HO):eB H (upd H p o):=fun b u q=>by rw[dY (d0 q h)];exact q
theorem eB.upd (e:eB H H'){o:HO}(h:H p=none):eB H (upd H' p o):=fun b u q=>by rw[dY (d0 q h)];exact e b u q
def fA (H:Hp)(v:V)(n:Nd):Prop:=∃q,v=.ref q∧H q=some (.tup [.str n.1,.int n.2.1,.int n.2.2])
def fj (H:Hp)(v:V)(k:Str×Int):Prop:=∃q,v=.ref q∧H q=some (.tup [.str k.1,.int k.2])
def iC (H:Hp)(v:V)(e:En):Prop:=∃q a xs,v=.ref q∧H q=some (.tup [.str e.1,.int e.2.1,.ref a])∧H a=some (.lst xs)∧Paired (fA H) xs e.2.2
def jk (H:Hp)(a:Addr)(es:List En):Prop:=∃xs,H a=some (.lst xs)∧Paired (iC H) xs es
theorem fA.same (e:eB H H'){n:Nd}(h:fA H v n):fA H' v n:=(by obtain⟨q,h1,h2⟩:=h;exact⟨q,h1,e _ _ h2⟩)
theorem fj.same (e:eB H H'){k:Str×Int}(h:fj H v k):fj H' v k:=(by obtain⟨q,h1,h2⟩:=h;exact⟨q,h1,e _ _ h2⟩)
theorem iC.same (e:eB H H'){n:En}(h:iC H v n):iC H' v n:=
 (by obtain⟨q,a,xs,h1,h2,h3,h4⟩:=h;exact⟨q,a,xs,h1,e _ _ h2,e _ _ h3,Paired.Ja h4 fun _ _ z=>fA.same e z⟩)
theorem jk.same (e:eB H H'){a:Addr}(h:jk H a es):jk H' a es:=
 (by obtain⟨xs,h1,h2⟩:=h;exact⟨xs,e _ _ h1,Paired.Ja h2 fun _ _ z=>iC.same e z⟩)
theorem fA.rep {n:Nd}(h:fA H v n):t6 H v (B9 n):=by
 obtain⟨q,rfl,h2⟩:=h;exact .tup h2 (.cons (.str _) (.cons (.int _) (.cons (.int _) .nil)))
def sO (k:Str×Int):PyData:=.tuple [.str k.1,.int k.2]
theorem fj.rep {k:Str×Int}(h:fj H v k):t6 H v (sO k):=by
 obtain⟨q,rfl,h2⟩:=h;exact .tup h2 (.cons (.str _) (.cons (.int _) .nil))
theorem nA {H:Hp}{α:Type}{R:V→α→Prop}{f:α→PyData}(h:∀v a,R v a→t6 H v (f a)):∀{vs:List V} {as:List α},Paired R vs as→pD H vs (as.map f)
 |_,_,.nil=>.nil
 |_,_,.cons r t=>.cons (h _ _ r) (nA h t)
theorem Paired.Ju {α β:Type}{F:α→β→Prop}:∀{as:List α} {bs:List β} {i:Nat} {a:α},Paired F as bs→as[i]?=some a→∃b,bs[i]?=some b∧F a b
 |_,_,_,_,.nil,e=>by simp at e
 |_,_,0,_,.cons r _,e=>by simp at e;subst e;exact⟨_,rfl,r⟩
 |_,_,i+1,a,.cons _ t,e=>by
  obtain⟨b,h1,h2⟩:=Paired.Ju (i:=i) (a:=a) t (by simpa using e);exact⟨b,by simpa using h1,h2⟩
theorem vo {xs:List V}{i:Int}(d:0≤i)(h1:i<(xs.length:Int)):∃v,vp xs i=some v∧v∈xs:=by
 have a:i.toNat<xs.length:=by omega
 have b:i=((i.toNat:Nat):Int):=by omega
 have q:vp xs ((i.toNat:Nat):Int)=some xs[i.toNat]:=wl (am a);rw[←b]at q;exact⟨_,q,List.getElem_mem a⟩
theorem jT {ns:List Int}{i:Int}(a:0≤i)(h1:i<(ns.length:Int)):∃z,vp (ns.map V.int) i=some (.int z)∧z∈ns:=by
 obtain⟨v,h2,b⟩:=vo (xs:=ns.map V.int) a (by rw[ab];exact h1);obtain⟨z,d,rfl⟩:=av.mp b;exact⟨z,h2,d⟩
def gL (es:List En)(x:Str):List Int:=(es.filter fun e=>decide (e.1=x)).map fun e=>e.2.1
theorem mB (es:List En)(e:En)(x:Str):gL (es++[e]) x=if e.1=x then gL es x++[e.2.1] else gL es x:=by
 unfold gL;rw[cq,aw];by_cases h:e.1=x
 ·rw[if_pos h,aG,if_pos (ao h)];rfl
 ·rw[if_neg h,aG,if_neg (by simpa using h)];simp
theorem jv (es:List En)(x:Str):(gL es x).length≤es.length:=by
 unfold gL;rw[ab];exact bt _ _
def jV (n:Nd)(z:Int):Bool:=decide (n.2.1≤z)&&decide (z≤n.2.2)
theorem oV (es:List En)(n:Nd):jH es n=(gL es n.1).filter (jV n):=by
 induction es with
 |nil=>rfl
 |cons e es ih=>
  unfold jH gL at ih ⊢;rw[aG,aG];by_cases h:e.1=n.1
  ·rw[if_pos (ao h),aD,aG];have a:li n e=jV n e.2.1:=by unfold li jV;rw[ao h,cD]
   rw[a];by_cases hb:jV n e.2.1=true
   ·rw[if_pos hb,if_pos hb,aD,ih]
   ·rw[if_neg hb,if_neg hb,ih]
  ·have a:¬li n e=true:=by unfold li;rw[au h];simp
   rw[if_neg a,if_neg (by simpa using h),ih]
theorem y9 {n:Nd}{ms:List Int}(h:ms.Perm (gL es n.1)):(ms.filter (jV n)).Perm (jH es n):=by
 rw[oV];exact h.filter _
def ja (k:Str×Int):List L2.fZ:=[Sum.inr k.1,Sum.inl k.2]
theorem pj {k j:Str×Int}(h:ja k=ja j):k=j:=by
 obtain⟨a,b⟩:=k;obtain⟨c,d⟩:=j;unfold ja at h;injection h with h1 h2
 injection h2 with e g
 injection h1 with h1
 injection e with e
 exact Prod.ext h1 e
theorem nv:¬(("needs" : Str) = "versions"):=by decide +kernel
def jJ (dn dv:Addr):List (Str×V):=fM "versions" (.ref dv) (fM "needs" (.ref dn) [])
theorem gm (a b:Addr):(jJ a b).lookup ("needs" : Str)=some (.ref a):=by
 unfold jJ;rw[ii,if_neg nv,ii,if_pos rfl]
theorem ji (b a:Addr):(jJ b a).lookup ("versions" : Str)=some (.ref a):=by
 unfold jJ;rw[ii,if_pos rfl]
theorem pC (b a:Addr){m:Str}(h1:¬m = "versions")(h2:¬m = "needs"):(jJ b a).lookup m=none:=by
 unfold jJ;rw[ii,if_neg h1,ii,if_neg h2]
 all_goals rfl
def lT (H:Hp)(kv:fB×V)(e:En):Prop:=kv.1=some (ja (eL e))∧∃a zs,kv.2=.ref a∧H a=some (.lst zs)∧Paired (fA H) zs e.2.2
def t0 (H:Hp)(vk:List (fZ×V))(es:List En)(d:Str→Prop):Prop:=
 ∀x:Str,(eN vk (Sum.inr x)=none∧gL es x=[])∨∃l ms,eN vk (Sum.inr x)=some (.ref l)∧H l=some (.lst (List.map V.int ms))∧ms.Perm (gL es x)∧(d x→ms.Pairwise (· ≥ ·))
inductive uf (C:Addr)(H:Hp)(p st:Addr)(es:List En):Prop
 |mk (dx dn dv nks vk:_)(_:H p=some (.ins C dx (jJ dn dv)))(_:Rd H dn (.dN ((none,.ref st)::nks)))(_:Paired (lT H) nks es)(_:Rd H dv (.dK vk))(_:t0 H vk es fun _=>True):uf C H p st es
structure fV (C:Addr)(H:Hp)(p st:Addr)(es:List En):Prop where
 ex:uf C H p st es
theorem lT.same (e:eB H H'){kv:fB×V}{n:En}(h:lT H kv n):lT H' kv n:=
 (by obtain⟨h1,a,zs,h2,h3,h4⟩:=h;exact⟨h1,a,zs,h2,e _ _ h3,Paired.Ja h4 fun _ _ z=>fA.same e z⟩)
theorem t0.same (e:eB H H'){vk:List (fZ×V)}{d:Str→Prop}(h:t0 H vk es d):t0 H' vk es d:=fun x=>by
 rcases h x with z | ⟨l,ms,h1,h2,h3,h4⟩
 ·exact .inl z
 ·exact .inr ⟨l,ms,h1,e _ _ h2,h3,h4⟩
theorem hU (e:eB H H'){a:Addr}{u:HO}(h:Rd H a u):Rd H' a u:=h.imp (e _ _) (by rintro⟨o,z⟩;exact⟨o,e _ _ z⟩)
theorem fV.same {C:Addr}(e:eB H H'){st:Addr}(h:fV C H p st es):fV C H' p st es:=by
 obtain⟨dx,b,g,a,vk,h1,h2,j,d,i⟩:=h.ex;exact⟨dx,b,g,a,vk,e _ _ h1,hU e h2,Paired.Ja j fun _ _ z=>lT.same e z,hU e d,i.same e⟩
theorem qE {H:Hp}:∀{nks:List (fB×V)} {es:List En},Paired (lT H) nks es→∀k:Str×Int,(k∉es.map eL∧eN nks (some (ja k))=none)∨∃e∈es,eL e=k∧∃a zs,eN nks (some (ja k))=some (.ref a)∧H a=some (.lst zs)∧Paired (fA H) zs e.2.2
 |_,_,.nil,k=>.inl ⟨by simp,rfl⟩
 |_,_,.cons (a:=kv) (b:=e) r t,k=>by
  obtain⟨h1,a,zs,h2,h3,h4⟩:=r;by_cases hk:eL e=k
  ·refine .inr ⟨e,by simp,hk,a,zs,?_,h3,h4⟩;rw[fX (by rw[h1,hk]),h2]
  ·have hn:¬kv.1=some (ja k):=by
    rw[h1];exact fun z=>hk (pj (Option.some.inj z))
   rw[fQ hn];rcases qE t k with ⟨i,g⟩ | ⟨h,d,z⟩
   ·refine .inl ⟨?_,g⟩;rw[aD,ak];exact fun y=>y.elim (fun q=>hk q.symm) i
   ·exact .inr ⟨h,by simp[d],z⟩
end FB
namespace L2
open PySem PySem.Spec PyProof.Rows
variable {X:Cx}{pos:Pos}
section
variable {pins:List (Addr×Obj)}{σ:St}{H:Hp}{s:Shared}{h':Heap}
theorem eM.Jv {t':Nat}{ch:List Addr}(I:eM X pins σ H s)(d:∀b∈ch,jB X pins H b)(k:∀b o,b∉ch→s.heap.get? b=some o→h'.get? b=some o):eM X pins σ H {s with heap:=h',toks:=t'}:=by
 refine I.step (g':=s.gens) (d':=s.drawn) (ch:=ch) (fun b i=>?_) (fun b o _ _ a e _=>k b o a e) (fun b o _ _ a e _=>⟨o.slots,k b o a e⟩) (fun _ _ _ _ n=>n)
  (fun b o a e=>⟨o,k b o a e⟩) (fun _ _ e=>e) (fun _ _ _ e=>e) (fun b ps e=>⟨#[],by rw[e];simp⟩) (fun m j=>?_) (fun b u e=>?_) I.bare
 ·obtain⟨w,p,x,t,l,h⟩:=d b i;exact⟨t,p,l,h⟩
 ·obtain⟨o,es,ep,g,r⟩:=j;exact⟨o,es,ep,k _ o (fun z=>(d _ z).2.1 rfl) g,r⟩
 ·have out:∀c v,H c=some v→c∉ch:=fun c v q z=>by rw[(d c z).1]at q;cases q
  refine(I.hok b u e).Jb (fun c v a q=>k c v ?_ q) (fun _ q=>q) fun _ _ q=>q;rcases a with z | z
  ·rw[z];exact out b u e
  ·exact out c _ z
end
def EV (K:W.Frag)(a:Addr):It:=
 ⟨fun i H=>∃xs x,eX K H a xs∧xs[i]?=some x,fun i H x H'=>∃t y,H t=none∧x=.ref t∧H'=upd H t (.tup [.int i,y])∧∀xs,eX K H a xs→xs[i]?=some y,fun i H=>∃xs,eX K H a xs∧xs.length≤i⟩
theorem wV {P:Program}{w:World}{K:W.Frag}{elts:List Expr}{k:Nat}(a e it:Addr)(al:e≠it):si P w K (.Tuple elts k pos) (EV K a) [e,it] e (fun i h=>(∃old,IsEnum h e it i old)∧h.IsListIter it a i) where
 mem:=by simp
 obj:=fun i h st b l=>by
  obtain⟨⟨old,j⟩,o,e1,c,d⟩:=st;rcases ak.mp l with z | z
  ·subst z
   exact⟨_,j,fun v z=>by
    have z':Data.fields _=Data.cell v:=z
    cases z'⟩
  ·rw[ai.mp z];exact⟨o,e1,fun v z=>by rw[d]at z;cases z⟩
 keep:=fun i h h' st G=>⟨(by obtain⟨old,j⟩:=st.1;exact⟨old,G e (by simp) _ j⟩),st.2.at fun o z=>G it (by simp) o z⟩
 item:=by
  intro X B Q hK Y i pins s σ H E I M st Z;subst B Q hK;obtain⟨xs,x,L,S⟩:=Z;obtain⟨g,rv,p,hz⟩:=I.list L;obtain⟨u,hu,ru⟩:=rv.get S;obtain⟨⟨old,j⟩,m⟩:=st;have J:s.heap.IsList a g.toArray:=p.isList;have ag:a≠e:=fun z=>by
   obtain⟨o,h1,h2,_⟩:=J;rw[z,j]at h1;cases h1;exact absurd h2 (show ¬(Value.type "enumerate" = Value.type "list") by decide)
  have U:a≠it:=fun z=>by
   obtain⟨o,h1,h2,_⟩:=J;obtain⟨o',g1,g2,_⟩:=m;rw[z,g1]at h1;cases h1;rw[g2]at h2;exact absurd h2 (by decide)
  have hi:i<g.toArray.size:=by
   have:=(af.mp hu).1;simpa using this
  have W:=WalksT.enumerate (prog:=X.prog) (w:=X.w) (A:=X.A) (I.ok.hd Y) e it a al ag U g.toArray;refine W.item i s _ _ hi ⟨⟨old,j⟩,m,J⟩ fun T ap h' tk B hT r hM G=>⟨.ref T,rfl,W.go elts k pos i T _ _ _ hM fun aa C D=>?_⟩;have ad:s.heap.get? T=none:=bo hT;have q:H T=none:=I.hok.fresh hT;have F:T∉[e,it]:=W.apart i T _ hM;have I1:eM X pins σ H {s with heap:=aa,toks:=tk}:=I.Jv (ch:=[e,it]) M fun b o l z=>D b o l (G b o l z);obtain⟨o,ho,an,n,R⟩:=r;have O:=D T o F ho;obtain⟨t,y,N,rfl⟩:=B;have ah:y=u:=by
   have:g.toArray[i]?=some u:=by simpa using hu
   rw[this]at N;exact(Option.some.inj N).symm
  subst ah;refine⟨.ref T,upd H T (.tup [.int i,x]),I1.adopt (I.Jt ad q) ⟨by show 2≤sizeLine;decide,[.int i t,y],.cons ⟨t,rfl⟩ (.cons ru .nil),o,O,an,n,R⟩,rfl,⟨T,x,q,rfl,rfl,fun ys N=>by rw[I.Jj N L];exact S⟩,⟨C.1,C.2.1⟩,fun b l=>?_⟩;rw[dY (show b≠T from fun z=>F (by rw[←z];exact l))];exact(M b l).1
 done:=by
  intro X B Q hK Y i pins s σ H E I M st Z;subst B Q hK;obtain⟨xs,L,S⟩:=Z;obtain⟨g,rv,p,hz⟩:=I.list L;obtain⟨⟨old,j⟩,m⟩:=st;have J:=rv.length;obtain⟨f0,f1,f2,f3,f4,f5⟩:=M it (by simp);exact wpAny_pyNext_enum_end (I.ok.hd Y) j m p.isList (by simp;omega) fun h' eb=>⟨rfl,I.turned (t':=s.toks) (fun b o l e=>eb b o l e) f0 f1 f3 f4 f5⟩
 self:=fun _ _ _ _ _ st h=>(by obtain⟨_,j⟩:=st.1;exact wpAny_pyIter_enum j h)
def FS (K:W.Frag)(tl:TE):TI:=fun σ H R=>tl σ H fun x H1=>∃a xs,x=.ref a∧H1 a=some (.lst xs)∧R (EV K a) H1
theorem BD {elts:List Expr}{k:Nat}{tpos p:Pos}{l:Expr}{tl:TE}(v:Gl X "enumerate")(E:X.mg "enumerate" = none)(D:PE X l tl)(hs:starEach [l] X.env=[(false,eval l X.env)]:=by rfl):PI X (.Tuple elts k tpos) (.Call (.Name "enumerate" p) [l] [] pos) (FS X.K tl):=by
 intro pins s σ H R I h;refine bU (jS I v E PyProof.Rows.boot_enumerate ?_ (by decide) (by decide));refine PyProof.Rows.callWith_type1 ?_ hs rfl;have B:=(dU D ee hs) pos pins s σ H (fun vs H1=>match vs with | [x]=>(∃a xs,x=.ref a∧H1 a=some (.lst xs)∧R (EV X.K a) H1) | _=>False) I h;refine fG B ?_;rintro us s1 ⟨vs,H1,d,r,m⟩
 match vs,r,m with
 |[x],r,⟨a,xs,e2,hS,q⟩=>
  subst e2;obtain⟨u,rfl,o⟩:=jm r;cases (show u=Value.ref a from o);obtain⟨J,A,n,G,e⟩:=(show fC X.prog X.w H1 s1.heap a (.lst xs) from d.hok a _ hS);refine call_enumerate_1 e fun h' i g C y=>?_;refine wpAny_pyIter_enum (s:={s1 with heap:=h'}) i ?_;have j:s1.heap.get? s1.heap.objs.size=none:=bo (aq _);have F:s1.heap.get? (s1.heap.objs.size+1)=none:=bo (dG _);refine⟨s1.heap.objs.size+1,[s1.heap.objs.size+1,s1.heap.objs.size],_,_,H1,rfl,d.kept (t':=s1.toks) y,wV a _ _ (Nat.succ_ne_self _),⟨⟨_,i⟩,g⟩,fun b t=>?_,q⟩;rcases ak.mp t with z | z
  ·subst z;exact d.Jt F (d.hok.fresh (dG _))
  ·rw[ai.mp z];exact d.Jt j (d.hok.fresh (aq _))
theorem Ad {K:W.Frag}{a:Addr}{xs:List V}{g:TG}{tb:TS}{D:lV}{σ:St}{H:Hp}(b:Nat→St→Hp→Prop)(l:b 0 σ H)(h:∀i σ H,i≤xs.length→b i σ H→eX K H a xs)(o:∀i x σ H t,xs[i]?=some x→b i σ H→H t=none→g (.ref t) σ (upd H t (.tup [.int (i:Nat),x])) fun σ2 H2=>tb {D with nx:=b (i+1),ct:=b (i+1),bk:=D.nx} σ2 H2)(e:∀σ H,b xs.length σ H→D.nx σ H):∃W:Nat→Nat→St→Hp→Prop,(∃m,W 0 m σ H)∧∀i m σ H,W i m σ H→((EV K a).stop i H∧D.nx σ H)∨((EV K a).go i H∧∃N:St→Hp→Prop,(∀σ' H',N σ' H'→∃m',m'<m∧W (i+1) m' σ' H')∧∀x H',(EV K a).yld i H x H'→g x σ H' fun σ2 H2=>tb {D with nx:=N,ct:=N,bk:=D.nx} σ2 H2):=by
 refine⟨fun i m σ H=>m=xs.length-i∧i≤xs.length∧b i σ H,⟨xs.length,by simp,bp _,l⟩,?_⟩;rintro i m σ H ⟨rfl,hi,p⟩;have q:=h i σ H hi p;rcases de i xs.length with d | hge
 ·refine .inr ⟨⟨xs,xs[i],q,by simp[d]⟩,b (i+1),fun σ' H' r=>⟨xs.length-(i+1),by omega,rfl,d,r⟩,fun x H' y=>?_⟩;obtain⟨t,z,j,rfl,rfl,y⟩:=y;exact o i z σ _ t (y xs q) p j
 ·obtain rfl:i=xs.length:=Nat.le_antisymm hi hge;exact .inl ⟨⟨xs,q,aq _⟩,e σ H p⟩
section
variable {k:Nat}{x:Str}{p:Pos}{e:Expr}{es:List Expr}{t:TA}{i:Nat}
end
section
variable {P:Program}{w:World}{A:Around}{R:Result→Shared→Prop}{S it l:Addr}{items:Array Value}{ks:List (fZ×Value)}
end
end L2
namespace FB
open PySem L2 PyProof.Rows
variable {H:Hp}
abbrev Pk:=Str×Int
def mR (H:Hp)(a:Addr)(ps:List Pk):Prop:=∃xs,H a=some (.lst xs)∧Paired (fj H) xs ps
def gB (H:Hp)(a:Addr)(ns:List Nd):Prop:=∃zs,H a=some (.lst zs)∧Paired (fA H) zs ns
theorem mR.same {H':Hp}(e:eB H H'){a:Addr}{ps:List Pk}(h:mR H a ps):mR H' a ps:=(by obtain⟨xs,h1,h2⟩:=h;exact⟨xs,e _ _ h1,Paired.Ja h2 fun _ _ z=>fj.same e z⟩)
theorem gB.same {H':Hp}(e:eB H H'){a:Addr}{ns:List Nd}(h:gB H a ns):gB H' a ns:=(by obtain⟨xs,h1,h2⟩:=h;exact⟨xs,e _ _ h1,Paired.Ja h2 fun _ _ z=>fA.same e z⟩)
def mZ (ps:List Pk):List (fZ×V):=ps.map fun k=>(Sum.inr k.1,V.int k.2)
def ip (ps:List Pk)(x:Str):Option Int:=(ps.find? fun k=>decide (k.1=x)).map (·.2)
theorem iF (x:Str):∀ps:List Pk,eN (mZ ps) (Sum.inr x:fZ)=(ip ps x).map V.int
 |[]=>rfl
 |k::ps=>by
  have ih:=iF x ps;unfold mZ ip at *;rw[aD];by_cases h:k.1=x
  ·rw[fX (by rw[h]),bi,ao h];rfl
  ·rw[fQ (fun z=>h (Sum.inr.inj z)),ih,bi,au h]
theorem kz:∀(ps qs:List Pk),((qs++ps).map (·.1)).Nodup→jz (mZ qs) (mZ ps)=mZ (qs++ps)
 |[],qs,_=>by rw[cf];rfl
 |k::ps,qs,h=>by
  have hv:eN (mZ qs) (Sum.inr k.1:fZ)=none:=by
   rw[iF];have:ip qs k.1=none:=by
    unfold ip;rw[dM.mpr]
    ·rfl
    ·intro x b a;rw[aw,bQ]at h;exact h.2.2 x.1 (bg b) k.1 (by simp) (bc a)
   rw[this];rfl
  show jz (eY (mZ qs) (Sum.inr k.1) (V.int k.2)) (mZ ps)=_;rw[gR _ hv];have e:mZ qs++[((Sum.inr k.1:fZ),V.int k.2)]=mZ (qs++[k]):=by unfold mZ;rw[aw];rfl
  rw[e,kz ps (qs++[k]) (by rw[bu];exact h),bu];rfl
def EB (ps:List Pk)(n:Nd):Bool:=match ip ps n.1 with
 |none=>false
 |some z=>!(jV n z)
def zQ (ps:List Pk)(n:Nd):Bool:=(ip ps n.1).isNone
def gN (es:List En)(k:Pk):List Nd:=match es.find? fun e=>decide (eL e=k) with
 |some e=>e.2.2
 |none=>[]
def xc (es:List En)(st:List Nd)(ps:List Pk):List (List Nd):=st::ps.map (gN es)
def AI (p:Nd→Bool)(L:List (List Nd)):Prop:=∀ns∈L,∀m∈ns,p m=false
theorem j6 {es:List En}(b:(es.map eL).Nodup){e:En}(d:e∈es):gN es (eL e)=e.2.2:=by
 unfold gN;have:es.find? (fun x=>decide (eL x=eL e))=some e:=by
  induction es with
  |nil=>cases d
  |cons a es ih=>
   rw[aD,aU]at b;rw[bi];rcases ak.mp d with z | z
   ·subst z;rw[ao rfl]
   ·have:¬eL a=eL e:=fun y=>b.1 (y▸bg z);rw[au this];exact ih b.2 z
 rw[this]
theorem fV.start {C:Addr}{p st:Addr}{es:List En}(B:fV C H p st es):∃dx dn dv,H p=some (.ins C dx (jJ dn dv))∧iq H dn .non (some (.ref st))∧∀(v:V) (k:Pk),fj H v k→(k∉es.map eL∧iq H dn v none)∨(k∈es.map eL∧∃e∈es,eL e=k∧∃a zs,iq H dn v (some (.ref a))∧H a=some (.lst zs)∧Paired (fA H) zs e.2.2):=by
 obtain⟨dx,dn,dv,l,vk,h1,h2,m,t,w⟩:=B.ex;refine⟨dx,dn,dv,h1,⟨_,none,h2,rfl,by rw[fX rfl]⟩,fun v k s=>?_⟩;obtain⟨q,rfl,r⟩:=s;have i:kO H (some (ja k)) (.ref q):=⟨q,rfl,r⟩;have b:¬((none:fB)=some (ja k)):=by intro z;cases z
 rcases qE m k with ⟨h,g⟩ | ⟨e,j,d,a,zs,h,g,o⟩
 ·exact .inl ⟨h,_,_,h2,i,by rw[fQ b,g]⟩
 ·exact .inr ⟨d▸bg j,e,j,d,a,zs,⟨_,_,h2,i,by rw[fQ b,h]⟩,g,o⟩
end FB
namespace L2
open PySem PySem.Spec PyProof.Rows
def HY (K:W.Frag)(a b:Addr):It:=
 ⟨fun i H=>∃xs ys x y,eX K H a xs∧eX K H b ys∧xs[i]?=some x∧ys[i]?=some y,fun i H v H'=>∃t x y,H t=none∧v=.ref t∧H'=upd H t (.tup [x,y])∧(∀xs,eX K H a xs→xs[i]?=some x)∧∀ys,eX K H b ys→ys[i]?=some y,fun i H=>∃xs ys,eX K H a xs∧eX K H b ys∧(xs.length≤i∨ys.length≤i)⟩
theorem pW {h:Heap}{n l1 l2:Addr}{xs ys:Array Value}{f0 a b:Value}{i:Nat}{m1 m2:Addr}(hz:IsZip h (n+4) (n+2) (n+3) f0)(E:IsPair h (n+3) a b)(h1:h.IsListIter n m1 i)(h2:h.IsListIter (n+1) m2 i)(m:h.IsList l1 xs)(j:h.IsList l2 ys):ZipApart (n+4) (n+2) (n+3) n (n+1) l1 l2:=by
 have out:∀{l:Addr} {zs:Array Value},h.IsList l zs→l≠n+4∧l≠n+3∧l≠n∧l≠n+1:=by
  intro l zs v;obtain⟨o,e,g,_⟩:=v;obtain⟨I,A,G,_⟩:=h1;obtain⟨H,F,s,_⟩:=h2;refine⟨fun z=>?_,fun z=>?_,fun z=>?_,fun z=>?_⟩
  ·rw[z,hz]at e;cases e;exact absurd g (show ¬(Value.type "zip" = Value.type "list") by decide)
  ·rw[z,E]at e;cases e;exact absurd g (show ¬(Value.type "tuple" = Value.type "list") by decide)
  ·rw[z,A]at e;cases e;rw[G]at g;exact absurd g (by decide)
  ·rw[z,F]at e;cases e;rw[s]at g;exact absurd g (by decide)
 obtain⟨B,C,D,r⟩:=out m;obtain⟨t,x,y,w⟩:=out j;have d:∀(p q:Nat),p≠q→n+p≠n+q:=fun p q h z=>h (Nat.add_left_cancel z);exact⟨d 2 4 (by decide),d 3 4 (by decide),d 0 4 (by decide),d 1 4 (by decide),d 2 3 (by decide),d 2 0 (by decide),d 2 1 (by decide),d 3 0 (by decide),d 3 1 (by decide),d 0 1 (by decide),B,C,D,r,t,x,y,w⟩
theorem yw {P:Program}{w:World}{K:W.Frag}{elts:List Expr}{k:Nat}{pos:Pos}(a b n:Addr):si P w K (.Tuple elts k pos) (HY K a b) [n+4,n+2,n+3,n,n+1] (n+4) (fun i h=>IsZip h (n+4) (n+2) (n+3) .none∧IsPair h (n+2) (.ref n) (.ref (n+1))∧(∃a b,IsPair h (n+3) a b)∧h.IsListIter n a i∧h.IsListIter (n+1) b i) where
 mem:=by simp
 obj:=fun i h st c e=>by
  obtain⟨r,C,⟨_,_,t⟩,⟨o4,e4,_,d4⟩,⟨o5,e5,_,d5⟩⟩:=st;simp only[ak,aM,or_false]at e;rcases e with rfl | rfl | rfl | rfl | rfl
  ·exact⟨_,r,fun v z=>by have S:Data.fields _=Data.cell v:=z;cases S⟩
  ·exact⟨_,C,fun v z=>by have S:Data.seq _=Data.cell v:=z;cases S⟩
  ·exact⟨_,t,fun v z=>by have S:Data.seq _=Data.cell v:=z;cases S⟩
  ·exact⟨o4,e4,fun v z=>by rw[d4]at z;cases z⟩
  ·exact⟨o5,e5,fun v z=>by rw[d5]at z;cases z⟩
 keep:=fun i h h' st q=>by
  obtain⟨r,C,⟨x,y,t⟩,G,M⟩:=st;exact⟨q _ (by simp) _ r,q _ (by simp) _ C,⟨x,y,q _ (by simp) _ t⟩,G.at fun o z=>q n (by simp) o z,M.at fun o z=>q (n+1) (by simp) o z⟩
 item:=by
  intro X R hw hK e i pins s σ H E I hf st hg;subst R hw hK;obtain⟨xs,ys,x,y,hq,hr,hx,hy⟩:=hg;obtain⟨g,rv,p,hz⟩:=I.list hq;obtain⟨d,J,p2,ad⟩:=I.list hr;obtain⟨u,hu,ru⟩:=rv.get hx;obtain⟨v,hv,an⟩:=J.get hy;obtain⟨r,C,⟨c1,c2,t⟩,G,M⟩:=st;have Q:s.heap.IsList a g.toArray:=p.isList;have l:s.heap.IsList b d.toArray:=p2.isList;have D:=pW r t G M Q l;have W:=WalksT.zip2 (prog:=X.prog) (w:=X.w) (A:=X.A) (I.ok.hd e) _ _ _ _ _ a b D g.toArray d.toArray;have i1:i<g.toArray.size:=by have:=(af.mp hu).1;simpa using this
  have i2:i<d.toArray.size:=by have:=(af.mp hv).1;simpa using this
  refine W.item i s _ _ (by lia) ⟨r,C,⟨c1,c2,t⟩,G,M,Q,l⟩ fun T a1 h' tk R hT O hM q=>⟨.ref T,rfl,W.go elts k pos i T _ _ _ hM fun al ap Z=>?_⟩;have L:s.heap.get? T=none:=bo hT;have N:H T=none:=I.hok.fresh hT;have j:T∉[n+4,n+3,n,n+1]:=W.apart i T _ hM;have ah:T≠n+2:=fun z=>by rw[z,C]at L;cases L
  have F:∀c∈[n+4,n+3,n,n+1],jB X pins H c:=fun c e=>hf c (by simp only[ak,aM,or_false]at e ⊢;rcases e with z | z | z | z <;> simp[z])
  have I1:eM X pins σ H {s with heap:=al,toks:=tk}:=I.Jv (ch:=[n+4,n+3,n,n+1]) F fun b o B z=>Z b o B (q b o B z);obtain⟨o,ho,a0,m,ag⟩:=O;have aa:=Z T o j ho;obtain⟨u',v',Y,U,rfl⟩:=R;have e1:u'=u:=by
   have:g.toArray[i]?=some u:=by simpa using hu
   rw[this]at Y;exact(Option.some.inj Y).symm
  have e2:v'=v:=by
   have:d.toArray[i]?=some v:=by simpa using hv
   rw[this]at U;exact(Option.some.inj U).symm
  subst e1 e2;obtain⟨t1,t2,t3,t4,t5,_⟩:=ap;refine⟨.ref T,upd H T (.tup [x,y]),I1.adopt (I.Jt L N) ⟨by show 2≤sizeLine;decide,[u',v'],.cons ru (.cons an .nil),o,aa,a0,m,ag⟩,rfl,⟨T,x,y,N,rfl,rfl,fun zs hy=>by rw[I.Jj hy hq];exact hx,fun zs as=>by rw[I.Jj as hr];exact hy⟩,⟨t1,t2,t3,t4,t5⟩,fun c e=>?_⟩;have:c≠T:=fun z=>by
   subst z;simp only[ak,aM,or_false]at e j;rcases e with z | z | z | z | z
   ·exact j (.inl z)
   ·exact ah z
   ·exact j (.inr (.inl z))
   ·exact j (.inr (.inr (.inl z)))
   ·exact j (.inr (.inr (.inr z)))
  rw[dY this];exact(hf c e).1
 done:=by
  intro X R hw hK e i pins s σ H E I hf st hg;subst R hw hK;obtain⟨xs,ys,hq,hr,hx⟩:=hg;obtain⟨g,rv,p,hz⟩:=I.list hq;obtain⟨d,J,p2,ad⟩:=I.list hr;obtain⟨r,C,⟨c1,c2,t⟩,G,M⟩:=st;have Q:s.heap.IsList a g.toArray:=p.isList;have l:s.heap.IsList b d.toArray:=p2.isList;have l1:=rv.length;have l2:=J.length;have F:∀c∈[n+4,n+3,n,n+1],jB X pins H c:=fun c e=>hf c (by simp only[ak,aM,or_false]at e ⊢;rcases e with z | z | z | z <;> simp[z])
  refine wpAny_pyNext_zip_end (I.ok.hd e) (pW r t G M Q l) r C t G M Q l ?_ fun h' q=>⟨rfl,I.Jv (t':=s.toks) (ch:=[n+4,n+3,n,n+1]) F fun b o B z=>?_⟩
  ·rcases hx with z | z
   ·left;simp;lia
   ·right;simp;lia
  ·simp only[ak,aM,or_false,not_or]at B;exact q b o B.1 B.2.1 B.2.2.1 B.2.2.2 z
 self:=fun _ _ _ _ _ st h=>wpAny_pyIter_zip st.1 h
def HH (K:W.Frag)(tl tm:TE):TI:=fun σ H R=>tl σ H fun x H1=>tm σ H1 fun y H2=>∃a b xs ys,x=.ref a∧y=.ref b∧H2 a=some (.lst xs)∧H2 b=some (.lst ys)∧R (HY K a b) H2
theorem DT {X:Cx}{elts:List Expr}{k:Nat}{tpos p pos:Pos}{l m:Expr}{tl tm:TE}(E:Gl X "zip")(T:X.mg "zip" = none)(P:PE X l tl)(G:PE X m tm)(hs1:starEach [m] X.env=[(false,eval m X.env)]:=by rfl)(hs:starEach [l,m] X.env=[(false,eval l X.env),(false,eval m X.env)]:=by rfl):PI X (.Tuple elts k tpos) (.Call (.Name "zip" p) [l,m] [] pos) (HH X.K tl tm):=by
 intro pins s σ H R I h;refine bU (jS I E T PyProof.Rows.boot_zip ?_ (by decide) (by decide));refine PyProof.Rows.callWith_type1 ?_ (by rw[hs,hs1]) (by rw[hs1];rfl);have L:=(dU P (dU G ee hs1) (by rw[hs,hs1])) pos pins s σ H (fun vs H1=>match vs with | [x,y]=>(∃a b xs ys,x=.ref a∧y=.ref b∧H1 a=some (.lst xs)∧H1 b=some (.lst ys)∧R (HY X.K a b) H1) | _=>False) I h;refine fG L ?_;rintro us s1 ⟨vs,H1,d,r,C⟩
 match vs,r,C with
 |[x,y],r,⟨a,b,xs,ys,e1,e2,hS,hT,q⟩=>
  subst e1 e2;obtain⟨u,v,rfl,D,S⟩:=vE r;cases (show u=Value.ref a from D);cases (show v=Value.ref b from S);obtain⟨hz,o,n,Z,t⟩:=(show fC X.prog X.w H1 s1.heap a (.lst xs) from d.hok a _ hS);obtain⟨N,i,n2,Q,g⟩:=(show fC X.prog X.w H1 s1.heap b (.lst ys) from d.hok b _ hT);refine call_zip_2 (xs:=o.toArray) (ys:=i.toArray) ⟨_,t,rfl,_,rfl⟩ ⟨_,g,rfl,_,rfl⟩ fun h' A F Y O U M J=>?_;refine wpAny_pyIter_zip (s:={s1 with heap:=h'}) A ?_;have e:∀j,s1.heap.get? (s1.heap.objs.size+j)=none:=fun j=>bo (cX _ _);refine⟨s1.heap.objs.size+4,[s1.heap.objs.size+4,s1.heap.objs.size+2,s1.heap.objs.size+3,s1.heap.objs.size,s1.heap.objs.size+1],_,_,H1,rfl,d.kept (t':=s1.toks) J,yw a b s1.heap.objs.size,⟨A,F,⟨_,_,Y⟩,O,U⟩,fun c B=>?_,q⟩;have fr:∀j,jB X pins H1 (s1.heap.objs.size+j)→True:=fun _ _=>trivial;simp only[ak,aM,or_false]at B;rcases B with z | z | z | z | z
  ·subst z;exact d.Jt (e 4) (d.hok.fresh (cX _ _))
  ·subst z;exact d.Jt (e 2) (d.hok.fresh (cX _ _))
  ·subst z;exact d.Jt (e 3) (d.hok.fresh (cX _ _))
  ·subst z;exact d.Jt (e 0) (d.hok.fresh (aq _))
  ·subst z;exact d.Jt (e 1) (d.hok.fresh (cX _ _))
end L2
namespace FB
open PySem L2 PyProof.Rows
variable {H H':Hp}{i:Int}{v:V}
inductive ye where
 |one (k:Pk)
 |many (bs:List Int)
structure Rs where
 who:Option Pk
 place:Int
 told:ye
abbrev Ln:=List Pk×Rs
def Du:ye→Str
 |.one _=>"outside"
 |.many _=>"open"
def gr (H:Hp)(v:V):Option Pk→Prop
 |none=>v=.non
 |some k=>fj H v k
def lC (H:Hp)(v:V):ye→Prop
 |.one k=>fj H v k
 |.many bs=>∃a,v=.ref a∧H a=some (.lst (bs.map V.int))
def my (H:Hp)(v:V)(r:Rs):Prop:=∃q wv tv,v=.ref q∧H q=some (.tup [.str (Du r.told),wv,.int r.place,tv])∧gr H wv r.who∧lC H tv r.told
def yi (H:Hp)(v:V)(l:Ln):Prop:=∃q a rv,v=.ref q∧H q=some (.tup [.ref a,rv])∧mR H a l.1∧my H rv l.2
def qA (H:Hp)(a:Addr)(ls:List Ln):Prop:=∃xs,H a=some (.lst xs)∧Paired (yi H) xs ls
theorem gr.same (e:eB H H'):∀{o:Option Pk},gr H v o→gr H' v o
 |none,h=>h
 |some _,h=>fj.same e h
theorem lC.same (e:eB H H'):∀{t:ye},lC H v t→lC H' v t
 |.one _,h=>fj.same e h
 |.many _,⟨a,h1,h2⟩=>⟨a,h1,e _ _ h2⟩
theorem my.same (e:eB H H'){r:Rs}(h:my H v r):my H' v r:=
 (by obtain⟨q,wv,tv,h1,h2,h3,h4⟩:=h;exact⟨q,wv,tv,h1,e _ _ h2,h3.same e,h4.same e⟩)
theorem yi.same (e:eB H H'){l:Ln}(h:yi H v l):yi H' v l:=
 (by obtain⟨q,a,rv,h1,h2,h3,h4⟩:=h;exact⟨q,a,rv,h1,e _ _ h2,h3.same e,h4.same e⟩)
theorem qA.same (e:eB H H'){a:Addr}{ls:List Ln}(h:qA H a ls):qA H' a ls:=
 (by obtain⟨xs,h1,h2⟩:=h;exact⟨xs,e _ _ h1,Paired.Ja h2 fun _ _ z=>yi.same e z⟩)
def jx {α:Type}(xs:List α)(i:Int):Option α:=if 0≤i then xs[i.toNat]? else none
theorem nH {α:Type}{xs:List α}{x:α}(h:jx xs i=some x):vp xs i=some x:=by
 unfold jx at h;by_cases h0:0≤i
 ·rw[if_pos h0]at h;have:=wl h;rwa[Int.toNat_of_nonneg h0]at this
 ·rw[if_neg h0]at h;cases h
theorem mi {α β:Type}{F:α→β→Prop}{as:List α}{bs:List β}{b:β}(h:Paired F as bs)(d:jx bs i=some b):∃a,jx as i=some a∧F a b:=by
 unfold jx at d ⊢;by_cases h0:0≤i
 ·rw[if_pos h0]at d ⊢;have l:=Paired.length h;have g:i.toNat<bs.length:=(af.mp d).1;have e:as[i.toNat]?=some as[i.toNat]:=am (by lia);obtain⟨j,h1,h2⟩:=Paired.Ju h e;rw[d]at h1;cases h1;exact⟨_,e,h2⟩
 ·rw[if_neg h0]at d;cases d
theorem iI {α:Type}(xs:List α)(i:Nat):jx xs (i:Int)=xs[i]?:=by
 unfold jx;rw[if_pos (by lia),bI]
theorem zD {α:Type}{xs:List α}{x:α}(h:jx xs i=some x):x∈xs:=by
 unfold jx at h;by_cases h0:0≤i
 ·rw[if_pos h0]at h;exact aj h
 ·rw[if_neg h0]at h;cases h
def jy (es:List En)(n:Nd):List Int:=(jH es n).mergeSort fun a b=>decide (b≤a)
theorem ou:∀{xs ys:List Int},xs.Pairwise (· ≥ ·)→ys.Pairwise (· ≥ ·)→xs.Perm ys→xs=ys
 |[],ys,_,_,h=>(List.nil_perm.mp h).symm
 |x::xs,[],_,_,h=>absurd h.length_eq (by simp)
 |x::xs,y::ys,hx,hy,h=>by
  rw[List.pairwise_cons]at hx hy;have e:x=y:=by
   have h1:x∈y::ys:=h.subset (bh ..);have h2:y∈x::xs:=h.symm.subset (bh ..);rcases ak.mp h1 with z | z
   ·exact z
   ·rcases ak.mp h2 with y' | y'
    ·exact y'.symm
    ·have:=hx.1 y y';have:=hy.1 x z;lia
  subst e;rw[ou hx.2 hy.2 ((List.perm_cons x).mp h)]
theorem sT {es:List En}{n:Nd}{ms:List Int}(h:ms.Perm (jH es n))(h2:ms.Pairwise (· ≥ ·)):ms=jy es n:=by
 refine ou h2 ?_ (h.trans (List.mergeSort_perm _ _).symm);have:=List.pairwise_mergeSort (le:=fun a b:Int=>decide (b≤a)) (fun a b c h1 h2=>by simp only[aA]at *;lia) (fun a b=>by simp only[dm,aA];lia) (jH es n);exact this.imp fun h=>bc h
theorem mH (es:List En)(n:Nd):(jy es n).length≤es.length:=by
 unfold jy;rw[(List.mergeSort_perm _ _).length_eq];exact lO es n
def iy (es:List En)(sn:List Nd):Option Pk→List Nd
 |none=>sn
 |some k=>gN es k
def EW (es:List En)(ps:List Pk):Option Pk→Bool
 |none=>true
 |some k=>decide (k∈ps)&&decide (k∈es.map eL)
def pS (n:Nd)(k:Pk):Bool:=decide (k.1=n.1)&&!(jV n k.2)
def ya (ls:List Ln)(spot:Int)(ps:List Pk)(x:Str)(b v:Int):Bool:=decide (0≤b)&&(decide (b<spot)&&match jx ls b with
 |none=>false
 |some l=>l.1.all fun p=>decide (p∈ps)||decide (p=(x,v)))
def mN (es:List En)(ls:List Ln)(spot:Int)(ps:List Pk)(n:Nd)(bs:List Int):Bool:=
 decide (bs.length=(jy es n).length)&&(bs.zip (jy es n)).all fun bv=>ya ls spot ps n.1 bv.1 bv.2
def EY (es:List En)(ls:List Ln)(spot:Int)(ps:List Pk)(n:Nd):ye→Bool
 |.one k=>decide (k∈ps)&&pS n k
 |.many bs=>mN es ls spot ps n bs
def jU (es:List En)(sn:List Nd)(ls:List Ln)(spot:Int)(l:Ln):Bool:=
 EW es l.1 l.2.who&&match jx (iy es sn l.2.who) l.2.place with
 |none=>false
 |some n=>EY es ls spot l.1 n l.2.told
end FB
namespace L2
open PySem PySem.Spec PyProof.Rows
variable {A:Around}{D:lV}{E Q:Value→Shared→Prop}{H:Hp}{K:W.Frag}{P:Program}{X:Cx}{a d:Addr}{b:SI}{g:TG}{i m:Nat}{kvs:List (fB×V)}{o:Obj}{p:Array Nat}{pins:List (Addr×Obj)}{s:Shared}{tb:TS}{tg:Expr}{w:World}{σ:St}
theorem y8 {α β:Type}{F:α→β→Prop}:∀{as:List α} {bs:List β} {i:Nat} {a:α},Paired F as bs→as[i]?=some a→∃b,bs[i]?=some b∧F a b
 |_,_,_,_,.nil,e=>by simp at e
 |_,_,0,_,.cons r _,e=>by simp at e;subst e;exact⟨_,rfl,r⟩
 |_,_,i+1,a,.cons _ t,e=>by
  obtain⟨b,h1,h2⟩:=y8 (i:=i) (a:=a) t (by simpa using e);exact⟨b,by simpa using h1,h2⟩
def Cy:HO→Prop
 |.dK _=>True
 |.dN _=>True
 |_=>False
theorem eM.freeze {u:HO}(I:eM X pins σ H s)(e:H a=some u)(i:Cy u):∃o,s.heap.get? a=some o∧eM X pins σ (upd H a (.frz o u)) s:=by
 obtain⟨o,h⟩:=(I.hok a u e).some;have g:∀b v,H b=some v→¬Cy v→b≠a:=fun b v q n z=>n (by rw[z,e]at q;cases q;exact i);have own:∀b x,H b=some (.own x)→upd H a (.frz o u) b=some (.own x):=fun b x q=>by rw[dY (g b _ q fun z=>z)];exact q
 have tup:∀b xs,H b=some (.tup xs)→upd H a (.frz o u) b=some (.tup xs):=fun b xs q=>by rw[dY (g b _ q fun z=>z)];exact q
 have J:=I.un (H':=upd H a (.frz o u)) (h':=s.heap) (t':=s.toks) ⟨fun b _ q _ _ _=>q,fun b d q _ _ _=>⟨d.slots,q⟩,fun b d _ n _=>(by rw[dY (fun z=>by rw[z,e]at n;cases n)];exact n),fun b d q _=>⟨d,q⟩,tup,fun b d v q=>(by rw[dY (g b _ q fun z=>z)];exact q),fun b ps q=>⟨#[],by rw[dY (g b _ q fun z=>z),q];simp⟩⟩ (fun b v q=>by
   by_cases hb:b=a
   ·subst hb;rw[dW]at q;cases q;exact⟨h,(I.hok b u e).Jb (fun _ _ _ z=>z) (fun c z=>own c b z) tup⟩
   ·rw[dY hb]at q
    exact(I.hok b v q).Jb (fun _ _ _ z=>z) (fun c z=>own c b z) tup)
 exact⟨o,h,J⟩
inductive Gr (Q:VK)(x:V)(H1:Hp):Prop
 |mk (a u:_)(_:x=.ref a)(_:H1 a=some u)(_:Cy u)(_:∀o,Q x (upd H1 a (.frz o u))):Gr Q x H1
def ID (te:TE):TE:=fun σ H Q=>te σ H fun x H1=>Gr Q x H1
theorem ze {e:Expr}{te:TE}(i:PE X e te):PE X e (ID te):=by
 intro pins s σ H Q I h;refine fG (i pins s σ H _ I h) ?_;rintro v m ⟨x,H1,g,b,a,u,ex,j,d,q⟩;obtain⟨o,_,l⟩:=g.freeze j d;exact⟨x,_,l,b,q o⟩
section
variable {it:Addr}{es:Array DictEntry}{ep:Nat}
theorem nL (a:s.heap.get? d=some o)(i:o.ExactDict)(e:o.data=.dict es ep)(h:(d == sysModules)=false)(g:Q (.ref s.heap.objs.size) {s with heap:=s.heap.push {cls:=.type "dict_keyiterator",data:=.fields #[.ref d,.int 0 0,.int es.size 0,.int ep 0]}}):wpAny (model P w) A (pyIter (.ref d)) Q E s:=by
 have b:s.TypeIs (.ref d) "dict":=⟨o,a,i.1⟩;refine wpAny_pyIter_slot b F.slot_dict_iter (ca F.slot_dict_iter b F.entry_dict_iter ?_ (F.args_dict_iter_1 _));unfold Builtin.«dict.__iter__»;refine ac ?_;unfold Builtin.Dict.dictSlotNone;refine ac (dw b ?_);show wpAny _ _ (pure (Value.ref d)) _ _ s;refine ar ?_;show wpAny _ _ (Builtin.Dict.showsAll d >>= _) _ _ s;unfold Builtin.Dict.showsAll;rw[if_neg (by rw[h];exact aP)];refine ac (ar ?_);refine ac (cO a e (ac (bB a e ?_)));refine ac (dP (ar ⟨_,rfl,"dict_keyiterator",_,⟨_,aT _ rfl,rfl⟩,F.slot_dict_keyiterator_next.lookup,?_⟩));simpa [rawInt] using g
theorem nG {Q:Option Value→Shared→Prop}(a:s.heap.IsKeyIter it d i es.size ep)(j:s.heap.get? d=some o)(h:o.data=.dict es ep)(m:i<es.size)(p:∀h',h'.IsKeyIter it d (i+1) es.size ep→Heap.SameBut it s.heap h'→Q (some es[i].key) {s with heap:=h'}):wpAny (model P w) A (pyNext (.ref it)) Q E s:=by
 obtain⟨r,e,q,l⟩:=id a;unfold pyNext;refine ac (wpAny_attempt (dg (name:=Str.ofString "__next__") a.typeIs F.slot_dict_keyiterator_next (ca F.slot_dict_keyiterator_next a.typeIs F.entry_dict_keyiterator_next ?_ (F.args_dict_keyiterator_next_1 _))))
 refine ac (ar ?_);refine ac ?_;refine ac ?_
 first | (refine ac (cE a.typeIs (ar ?_))) | (refine ac (db a.typeIs (ar ?_)))
 refine ac (wpAny_fieldsOf e l ?_);have g:Builtin.Dict_items.ownsTuple "dict_keyiterator" = false:=by decide +kernel
 simp only[g,cr,if_false];show wpAny _ _ (if (Value.ref d == Value.none)=true then _ else _) _ _ s;rw[if_neg (fun z:(Value.ref d == Value.none)=true=>aP z)];refine ac (ar ?_);refine ac (cO j h ?_);rw[if_neg (by simp)];refine ac (ar ?_);refine ac (bB j h ?_);rw[if_neg (by simp)];refine ar ?_;simp only[show ¬((i:Int)<0) by omega,if_false,bI,cU m];refine ac ?_
 first | (refine ac (cE a.typeIs (ar ?_))) | (refine ac (db a.typeIs (ar ?_)))
 refine ac (wpAny_isOneOf_keyiter a.typeIs ?_);show wpAny _ _ (setField (.ref it) 1 (rawInt ((i:Int)+1)) >>= _) _ _ s;refine ac (wpAny_setField e l (by simp) ?_);have b:(s.heap.update it (Obj.mapFields (·.setIfInBounds 1 (rawInt ((i:Int)+1))))).IsKeyIter it d (i+1) es.size ep:=⟨_,dB _ e (Obj.isFreed_of_fields (Obj.data_mapFields l _)),(Obj.cls_mapFields ..).trans q,by rw[Obj.data_mapFields l];simp[rawInt]⟩;refine ac (bw ?_);refine ac (wpAny_isOneOf_keyiter (s:={s with heap:=s.heap.update it (Obj.mapFields (·.setIfInBounds 1 (rawInt ((i:Int)+1))))}) b.typeIs ?_);show wpAny _ _ (pure es[i].key) _ _ _;exact ar (ar ⟨_,rfl,ar (p _ b (Heap.SameBut.update ..))⟩)
end
section
variable {it:Addr}{es:Array DictEntry}{ep:Nat}
theorem uW {Q:Option Value→Shared→Prop}(r:A.handled=none)(e:s.heap.IsKeyIter it d i es.size ep)(l:s.heap.get? d=some o)(h:o.data=.dict es ep)(p:es.size≤i)(t:∀h',Heap.ExtBut it s.heap h'→Q none {s with heap:=h'}):wpAny (model P w) A (pyNext (.ref it)) Q E s:=by
 obtain⟨v,j,x,q⟩:=id e;unfold pyNext;refine ac (wpAny_attempt (dg (name:=Str.ofString "__next__") e.typeIs F.slot_dict_keyiterator_next (ca F.slot_dict_keyiterator_next e.typeIs F.entry_dict_keyiterator_next ?_ (F.args_dict_keyiterator_next_1 _))))
 refine ac (ar ?_);refine ac ?_;refine ac ?_
 first | (refine ac (cE e.typeIs (ar ?_))) | (refine ac (db e.typeIs (ar ?_)))
 refine ac (wpAny_fieldsOf j q ?_);have g:Builtin.Dict_items.ownsTuple "dict_keyiterator" = false:=by decide +kernel
 simp only[g,cr,if_false];show wpAny _ _ (if (Value.ref d == Value.none)=true then _ else _) _ _ s;rw[if_neg (fun z:(Value.ref d == Value.none)=true=>aP z)];refine ac (ar ?_);refine ac (cO l h ?_);rw[if_neg (by simp)];refine ac (ar ?_);refine ac (bB l h ?_);rw[if_neg (by simp)];refine ar ?_;simp only[show ¬((i:Int)<0) by lia,if_false,bI,Array.getElem?_eq_none p];refine ac ?_
 first | (refine ac (cE e.typeIs (ar ?_))) | (refine ac (db e.typeIs (ar ?_)))
 show wpAny _ _ (setField (.ref it) 0 .none >>= _) _ _ s;refine ac (wpAny_setField j q (by simp) ?_);show wpAny _ _ (newExc (.type "StopIteration") [] >>= _) _ _ _;refine ac ?_;simp only[newExc,newTuple];refine ac (dP ?_ (by size_fits));refine ac (m:=firstArgMember _ _) (wpAny_of_eq (a:=Value.none) (by first | rfl | (simp only[firstArgMember];rfl)) ?_);refine dP ?_ (by size_fits);simp only[raiseNew];refine ac (wpAny_handled ?_);rw[show A.in1.handled=none from r];refine ac (ar (wpAny_throw ?_));refine ac (wpAny_isInstance (T:="StopIteration") (b:=true) ⟨_,aT _ rfl,rfl⟩ isSubtype_stop ?_);exact ar (t _ (((Heap.SameBut.update ..).extBut.push _).push _))
end
def EL (a:Addr)(o:Obj)(kvs:List (fZ×V)):It:=
 ⟨fun i H=>i<kvs.length∧H a=some (.frz o (.dK kvs)),fun i H x H'=>H'=H∧∃kv,kvs[i]?=some kv∧x=kV kv.1,fun i H=>kvs.length≤i∧H a=some (.frz o (.dK kvs))⟩
def EU (a:Addr)(o:Obj)(kvs:List (fB×V)):It:=
 ⟨fun i H=>i<kvs.length∧H a=some (.frz o (.dN kvs)),fun i H x H'=>H'=H∧∃kv,kvs[i]?=some kv∧kO H kv.1 x,fun i H=>kvs.length≤i∧H a=some (.frz o (.dN kvs))⟩
theorem mO {h:Heap}{kvs:List (fZ×V)}(ok:kF P w H h)(e:H a=some (.frz o (.dK kvs))):h.get? a=some o∧(a == sysModules)=false∧o.ExactDict∧∃es ep,o.data=.dict es ep∧es.size=kvs.length∧∀(i:Nat) (kv:fZ×V) (hi:i<es.size),kvs[i]?=some kv→eT (kV kv.1) es[i].key:=by
 obtain⟨b,q⟩:=(show h.get? a=some o∧fC P w H h a (.dK kvs) from ok a _ e);obtain⟨z,s,vs,r,o',es,ep,h1,h2,l,x,j,t⟩:=q;rw[b]at h1;cases h1;have y:es.size=vs.length:=by rw[←j.length];simp
 have A:kvs.length=vs.length:=Paired.length r;refine⟨b,s,h2,es,ep,l,by lia,fun i kv hi m=>?_⟩;have g:vs[i]?=some vs[i]:=am (by lia);obtain⟨u,d,p⟩:=y8 r m;rw[g]at d;cases d;have:=(j.get? (e:=es[i]) (k:=vs[i].1) (v:=vs[i].2) (by simp[hi]) g).1;rw[show kv.1=vs[i].1 from p.1];exact u7 this
theorem Aa {h:Heap}(ok:kF P w H h)(e:H a=some (.frz o (.dN kvs))):h.get? a=some o∧(a == sysModules)=false∧o.ExactDict∧∃es ep,o.data=.dict es ep∧es.size=kvs.length∧∀(i:Nat) (kv:fB×V) (hi:i<es.size),kvs[i]?=some kv→∃x,eT x es[i].key∧kO H kv.1 x:=by
 obtain⟨g,q⟩:=(show h.get? a=some o∧fC P w H h a (.dN kvs) from ok a _ e);obtain⟨z,y,xs,r,o',es,ep,h1,h2,p,l,E⟩:=q;rw[g]at h1;cases h1;have C:es.size=xs.length:=by rw[←bF,l,ab]
 have D:kvs.length=xs.length:=Paired.length r;refine⟨g,y,h2,es,ep,p,by lia,fun i kv hi s=>?_⟩;obtain⟨u,m,v⟩:=y8 r s;have j:es.toList[i]?=some (tE P w u):=by rw[l,ae,m];rfl
 rw[bR,cU hi]at j
 rw[Option.some.inj j];obtain⟨B,d,_⟩:=v;show ∃x,eT x u.2.1∧kO H kv.1 x
 revert d
 cases kv.1 with
 |none=>exact fun d=>⟨.non,d,rfl⟩
 |some ks=>exact(by rintro⟨b,t,A⟩;exact⟨.ref b,t,b,rfl,A⟩)
theorem vF (a it:Addr)(o:Obj)(es:Array DictEntry)(ep:Nat)(kvs:List (fZ×V))(hd:o.data=.dict es ep)(Y:es.size=kvs.length):si P w K tg (EL a o kvs) [it] it (fun i h=>h.IsKeyIter it a i es.size ep) where
 mem:=by simp
 obj:=fun i h st b d=>by
  obtain⟨J,e,c,B⟩:=st;rw[ai.mp d];exact⟨J,e,fun v z=>by rw[B]at z;cases z⟩
 keep:=fun i h h' st k=>st.at fun o e=>k it (by simp) o e
 item:=by
  intro X D x t L i pins s σ H E I m st ⟨hi,p⟩;subst D x t;obtain⟨q,r,T,F,C,A⟩:=m it (by simp);obtain⟨y,hS,Z,Q,N,l,S,R⟩:=mO I.hok p;rw[hd]at l;cases l;have g:i<es.size:=by lia
  have G:kvs[i]?=some kvs[i]:=am hi;refine nG st y hd g fun h' j U=>?_;have M:eM X pins σ H {s with heap:=h'}:=I.turned (t':=s.toks) (fun b o d e=>(U.2 b d).trans e) q r F C A;obtain⟨J,e,c,B⟩:=id j;exact⟨_,rfl,tj (s:={s with heap:=h'}) e c B (by decide) ⟨kV kvs[i].1,H,M,R i _ g G,⟨rfl,_,G,rfl⟩,j,fun b d=>(m b d).1⟩⟩
 done:=by
  intro X D x t L i pins s σ H E I m st ⟨hi,p⟩;subst D x t;obtain⟨q,r,T,F,C,A⟩:=m it (by simp);obtain⟨y,_⟩:=mO I.hok p;exact uW (I.ok.hd L) st y hd (by lia) fun h' O=>⟨rfl,I.turned (t':=s.toks) (fun b o d e=>O b o d e) q r F C A⟩
 self:=fun _ _ _ _ _ st h=>wpAny_pyIter_keyiter st h
theorem Bd (a it:Addr)(o:Obj)(es:Array DictEntry)(ep:Nat)(kvs:List (fB×V))(hd:o.data=.dict es ep)(hl:es.size=kvs.length):si P w K tg (EU a o kvs) [it] it (fun i h=>h.IsKeyIter it a i es.size ep) where
 mem:=by simp
 obj:=fun i h st b d=>by
  obtain⟨L,e,c,C⟩:=st;rw[ai.mp d];exact⟨L,e,fun v z=>by rw[C]at z;cases z⟩
 keep:=fun i h h' st k=>st.at fun o e=>k it (by simp) o e
 item:=by
  intro X F y t M i pins s σ H E I m st ⟨hi,p⟩;subst F y t;obtain⟨q,r,Z,G,D,B⟩:=m it (by simp);obtain⟨A,hS,hx,S,Q,l,U,T⟩:=Aa I.hok p;rw[hd]at l;cases l;have g:i<es.size:=by lia
  have J:kvs[i]?=some kvs[i]:=am hi;obtain⟨x,Y,N⟩:=T i _ g J;refine nG st A hd g fun h' j sb=>?_;have O:eM X pins σ H {s with heap:=h'}:=I.turned (t':=s.toks) (fun b o d e=>(sb.2 b d).trans e) q r G D B;obtain⟨L,e,c,C⟩:=id j;exact⟨_,rfl,tj (s:={s with heap:=h'}) e c C (by decide) ⟨x,H,O,Y,⟨rfl,_,J,N⟩,j,fun b d=>(m b d).1⟩⟩
 done:=by
  intro X F y t M i pins s σ H E I m st ⟨hi,p⟩;subst F y t;obtain⟨q,r,Z,G,D,B⟩:=m it (by simp);obtain⟨A,_⟩:=Aa I.hok p;exact uW (I.ok.hd M) st A hd (by lia) fun h' R=>⟨rfl,I.turned (t':=s.toks) (fun b o d e=>R b o d e) q r G D B⟩
 self:=fun _ _ _ _ _ st h=>wpAny_pyIter_keyiter st h
section
variable {l:Expr}{tl:TE}
inductive Gy (R:It→Hp→Prop)(x:V)(H1:Hp):Prop
 |mk (a o kvs:_)(_:x=.ref a)(_:H1 a=some (.frz o (.dK kvs)))(_:R (EL a o kvs) H1):Gy R x H1
def IS (tl:TE):TI:=fun σ H R=>tl σ H fun x H1=>Gy R x H1
theorem y6 (m:PE X l tl):PI X tg l (IS tl):=by
 intro pins s σ H R I h;refine fG (m pins s σ H _ I h) ?_;rintro v g ⟨x,H1,d,p,a,o,kvs,ex,z,q⟩;subst ex;cases (show v=Value.ref a from p);obtain⟨j,y,t,es,ep,i,w,_⟩:=mO d.hok z;refine nL j t i y ⟨g.heap.objs.size,[g.heap.objs.size],_,_,H1,rfl,d.kept (t':=g.toks) fun b o e=>aC _ e,vF a _ o es ep kvs i w,⟨_,aT _ rfl,rfl,rfl⟩,fun b r=>?_,q⟩
 rw[ai.mp r];exact d.Jm (aq _) (d.hok.fresh (aq _))
end
theorem va {J:It}{n:Nat}(a:Nat→St→Hp→Prop)(o:a 0 σ H)(h:∀i σ H,i<n→a i σ H→J.go i H)(e:∀σ H,a n σ H→J.stop n H)(l:∀i x σ H H',i<n→J.yld i H x H'→a i σ H→g x σ H' fun σ2 H2=>tb {D with nx:=a (i+1),ct:=a (i+1),bk:=D.nx} σ2 H2)(d:∀σ H,a n σ H→D.nx σ H):∃W:Nat→Nat→St→Hp→Prop,(∃m,W 0 m σ H)∧∀i m σ H,W i m σ H→(J.stop i H∧D.nx σ H)∨(J.go i H∧∃N:St→Hp→Prop,(∀σ' H',N σ' H'→∃m',m'<m∧W (i+1) m' σ' H')∧∀x H',J.yld i H x H'→g x σ H' fun σ2 H2=>tb {D with nx:=N,ct:=N,bk:=D.nx} σ2 H2):=by
 refine⟨fun i m σ H=>m=n-i∧i≤n∧a i σ H,⟨n,by simp,bp _,o⟩,?_⟩;rintro i m σ H ⟨rfl,hi,p⟩;rcases de i n with b | hge
 ·exact .inr ⟨h i σ H b p,a (i+1),fun σ' H' j=>⟨n-(i+1),by lia,rfl,b,j⟩,fun x H' y=>l i x σ H H' b y p⟩
 ·obtain rfl:i=n:=Nat.le_antisymm hi hge;exact .inl ⟨e σ H p,d σ H p⟩
theorem rY {kvs:List (fZ×V)}(Pv:Nat→St→Hp→Prop)(h0:Pv 0 σ H)(hl:∀i σ H,i≤kvs.length→Pv i σ H→H a=some (.frz o (.dK kvs)))(hs:∀i kv σ H,kvs[i]?=some kv→Pv i σ H→g (kV kv.1) σ H fun σ2 H2=>tb {D with nx:=Pv (i+1),ct:=Pv (i+1),bk:=D.nx} σ2 H2)(hd:∀σ H,Pv kvs.length σ H→D.nx σ H):∃W:Nat→Nat→St→Hp→Prop,(∃m,W 0 m σ H)∧∀i m σ H,W i m σ H→((EL a o kvs).stop i H∧D.nx σ H)∨((EL a o kvs).go i H∧∃N:St→Hp→Prop,(∀σ' H',N σ' H'→∃m',m'<m∧W (i+1) m' σ' H')∧∀x H',(EL a o kvs).yld i H x H'→g x σ H' fun σ2 H2=>tb {D with nx:=N,ct:=N,bk:=D.nx} σ2 H2):=
 va Pv h0 (fun i σ H hi p=>⟨hi,hl i σ H (cK hi) p⟩) (fun σ H p=>⟨aq _,hl _ σ H (aq _) p⟩) (fun i x σ H H' hi y p=>by
  obtain⟨rfl,kv,hk,rfl⟩:=y
  exact hs i kv σ _ hk p) hd
theorem vc (Pv:Nat→St→Hp→Prop)(h0:Pv 0 σ H)(hl:∀i σ H,i≤kvs.length→Pv i σ H→H a=some (.frz o (.dN kvs)))(hs:∀i kv x σ H,kvs[i]?=some kv→kO H kv.1 x→Pv i σ H→g x σ H fun σ2 H2=>tb {D with nx:=Pv (i+1),ct:=Pv (i+1),bk:=D.nx} σ2 H2)(hd:∀σ H,Pv kvs.length σ H→D.nx σ H):∃W:Nat→Nat→St→Hp→Prop,(∃m,W 0 m σ H)∧∀i m σ H,W i m σ H→((EU a o kvs).stop i H∧D.nx σ H)∨((EU a o kvs).go i H∧∃N:St→Hp→Prop,(∀σ' H',N σ' H'→∃m',m'<m∧W (i+1) m' σ' H')∧∀x H',(EU a o kvs).yld i H x H'→g x σ H' fun σ2 H2=>tb {D with nx:=N,ct:=N,bk:=D.nx} σ2 H2):=
 va Pv h0 (fun i σ H hi p=>⟨hi,hl i σ H (cK hi) p⟩) (fun σ H p=>⟨aq _,hl _ σ H (aq _) p⟩) (fun i x σ H H' hi y p=>by
  obtain⟨rfl,kv,hk,kx⟩:=y
  exact hs i kv x σ _ hk kx p) hd
theorem we {J:It}{n:Nat}{tt:TT}{te:TE}{σ':St}{H1:Hp}{Q:VK}(a:Addr→Nat→List V→Hp→Prop)(l:∀D,H1 D=none→a D 0 [] (upd H1 D (.lst [])))(j:∀D i ys H,i≤n→a D i ys H→(i<n→J.go i H)∧(i=n→J.stop i H)∧H D=some (.lst ys)∧ys.length<sizeLine)(o:∀D i x ys H H2,i<n→J.yld i H x H2→a D i ys H→g x σ' H2 fun σ2 H3=>tt σ2 H3 fun b H4=>if b=true then te σ2 H4 fun y H5=>H5 D=some (.lst ys)∧a D (i+1) (ys++[y]) (upd H5 D (.lst (ys++[y]))) else a D (i+1) ys H4)(e:∀D ys H,a D n ys H→Q (.ref D) H):pI J g tt te σ' H1 Q:=by
 intro D q;refine⟨fun i m ys H=>m=n-i∧i≤n∧a D i ys H,⟨n,by simp,bp _,l D q⟩,?_⟩;rintro i m ys H ⟨rfl,hi,p⟩;obtain⟨h,s,v,t⟩:=j D i ys H hi p;refine⟨v,t,?_⟩;rcases de i n with d | hge
 ·exact .inr ⟨h d,a D (i+1),fun zs H' r=>⟨n-(i+1),by lia,rfl,d,r⟩,fun x H' y=>o D i x ys H H' d y p⟩
 ·obtain rfl:i=n:=Nat.le_antisymm hi hge;exact .inl ⟨s rfl,e D ys H p⟩
def ET (K:W.Frag)(a:Addr)(xs:List V):It:=
 ⟨fun i H=>i<xs.length∧eX K H a xs,fun i H x H'=>H'=H∧xs[xs.length-1-i]?=some x,fun i _=>xs.length≤i⟩
theorem yx (a it:Addr)(xs:List V):si P w K tg (ET K a xs) [it] it (fun i h=>i≤xs.length∧h.IsRevIter it a ((xs.length:Int)-1-(i:Int))) where
 mem:=by simp
 obj:=fun i h st b g=>by
  obtain⟨_,G,e,c,B⟩:=st;rw[ai.mp g];exact⟨G,e,fun v z=>by rw[B]at z;cases z⟩
 keep:=fun i h h' st k=>⟨st.1,st.2.at fun o e=>k it (by simp) o e⟩
 item:=by
  intro X D y t L i pins s σ H E I l st ⟨hi,m⟩;subst D y t;obtain⟨q,r,T,F,C,A⟩:=l it (by simp);obtain⟨O,Q,p,Z⟩:=I.list m;have J:xs[xs.length-1-i]?=some xs[xs.length-1-i]:=am (by omega);obtain⟨u,S,U⟩:=Q.get J;have d:=st.2;rw[show(xs.length:Int)-1-(i:Int)=((xs.length-1-i:Nat):Int) by omega]at d;refine wpAny_pyNext_rev_item d p.isList (x:=u) (by simpa using S) fun h' j Y=>?_;rw[show((xs.length-1-i:Nat):Int)-1=(xs.length:Int)-1-((i+1:Nat):Int) by omega]at j;have M:eM X pins σ H {s with heap:=h'}:=I.turned (t':=s.toks) (fun b o g e=>(Y.2 b g).trans e) q r F C A;obtain⟨G,e,c,B⟩:=id j;exact⟨_,rfl,tj (s:={s with heap:=h'}) e c B (by decide) ⟨_,H,M,U,⟨rfl,J⟩,⟨hi,j⟩,fun b g=>(l b g).1⟩⟩
 done:=by
  intro X D y t L i pins s σ H E I l st m;subst D y t;obtain⟨q,r,T,F,C,A⟩:=l it (by simp);have d:=st.2;have h1:=st.1;have N:xs.length≤i:=m;rw[show(xs.length:Int)-1-(i:Int)=-1 by omega]at d;exact wpAny_pyNext_rev_end (I.ok.hd L) d fun h' R=>⟨rfl,I.turned (t':=s.toks) (fun b o g e=>R b o g e) q r F C A⟩
 self:=fun _ _ _ _ _ st h=>wpAny_pyIter_revIter st.2 h
def HI (K:W.Frag)(tl:TE):TI:=fun σ H R=>tl σ H fun x H1=>∃a xs,x=.ref a∧eX K H1 a xs∧R (ET K a xs) H1
theorem DU {l:Expr}{tl:TE}{p pos:Pos}(y:Gl X "reversed")(z:X.mg "reversed" = none)(m:PE X l tl)(hs:starEach [l] X.env=[(false,eval l X.env)]:=by rfl):PI X tg (.Call (.Name "reversed" p) [l] [] pos) (HI X.K tl):=by
 intro pins s σ H R I h;refine bU (jS I y z PyProof.Rows.Boot.«reversed» ?_ (by decide) (by decide));refine PyProof.Rows.callWith_type1 ?_ hs rfl;have A:=(dU m ee hs) pos pins s σ H (fun vs H1=>match vs with | [x]=>(∃a xs,x=.ref a∧eX X.K H1 a xs∧R (ET X.K a xs) H1) | _=>False) I h;refine fG A ?_;rintro us s1 ⟨vs,H1,i,r,j⟩
 match vs,r,j with
 |[x],r,⟨a,xs,e2,hS,q⟩=>
  subst e2;obtain⟨u,rfl,t⟩:=jm r;cases (show u=Value.ref a from t);obtain⟨d,B,pl,C⟩:=i.list hS;have v:d.length=xs.length:=B.length.symm;refine call_reversed_list pl.isList ?_;have g:(s1.heap.push (revObj a ((d.toArray.size:Int)-1))).get? s1.heap.objs.size=some (revObj a ((d.toArray.size:Int)-1)):=aT _ rfl;refine wpAny_pyIter_revIter (s:={s1 with heap:=s1.heap.push (revObj a ((d.toArray.size:Int)-1))}) ⟨_,g,rfl,rfl⟩ ?_;refine⟨s1.heap.objs.size,[s1.heap.objs.size],_,_,H1,rfl,i.kept (t':=s1.toks) fun b o e=>aC _ e,yx a _ xs,⟨bp _,_,g,rfl,?_⟩,fun b w=>?_,q⟩
  ·show(revObj a ((d.toArray.size:Int)-1)).data=_;rw[aO,v];simp[revObj]
  ·rw[ai.mp w];exact i.Jm (aq _) (i.hok.fresh (aq _))
theorem Cm {xs:List V}(Pv:Nat→St→Hp→Prop)(h0:Pv 0 σ H)(hl:∀i σ H,i<xs.length→Pv i σ H→eX K H a xs)(hs:∀i x σ H,i<xs.length→xs[xs.length-1-i]?=some x→Pv i σ H→g x σ H fun σ2 H2=>tb {D with nx:=Pv (i+1),ct:=Pv (i+1),bk:=D.nx} σ2 H2)(hd:∀σ H,Pv xs.length σ H→D.nx σ H):∃W:Nat→Nat→St→Hp→Prop,(∃m,W 0 m σ H)∧∀i m σ H,W i m σ H→((ET K a xs).stop i H∧D.nx σ H)∨((ET K a xs).go i H∧∃N:St→Hp→Prop,(∀σ' H',N σ' H'→∃m',m'<m∧W (i+1) m' σ' H')∧∀x H',(ET K a xs).yld i H x H'→g x σ H' fun σ2 H2=>tb {D with nx:=N,ct:=N,bk:=D.nx} σ2 H2):=
 va Pv h0 (fun i σ H hi p=>⟨hi,hl i σ H hi p⟩) (fun σ H p=>aq _) (fun i x σ H H' hi y p=>by
  obtain⟨rfl,hk⟩:=y
  exact hs i x σ _ hi hk p) hd
theorem j5 (ns:List Int):∀j,j≤ns.length→preSum (fun i=>ns.getD i 0) j=(ns.take j).sum
 |0,_=>by simp[preSum]
 |j+1,h=>by
  have e:=j5 ns j (by omega);have h2:ns.take (j+1)=ns.take j++[ns[j]]:=by rw[aQ,am (show j<ns.length by omega)];rfl
  rw[preSum,e,h2,List.sum_append,ba,am (show j<ns.length by omega)]
  simp
theorem x6 (hc:X.calm=true):ju X (.builtin "sum") (fun xs H Q=>∃(a:Addr) (ns:List Int),xs=[.ref a]∧eX X.K H a (ns.map V.int)∧(∀j,j<ns.length→0≤ns.getD j 0)∧ns.sum<2^63∧Q (.int ns.sum) H):=by
 intro pins s σ H xs us Q I r h;obtain⟨a,ns,rfl,hS,N,aa,q⟩:=h;obtain⟨u,rfl,S⟩:=jm r;cases (show u=Value.ref a from S);obtain⟨d,P,p,hz⟩:=I.list hS;have m:d.length=ns.length:=by rw[←P.length,ab]
 have g:∀(l:List Int),(∀x∈l,0≤x)→0≤l.sum:=fun l=>by
  induction l with
  |nil=>intro _;simp
  |cons x l ih=>intro z;rw[List.sum_cons];have:=z x (by simp);have:=ih fun y C=>z y (by simp[C]);omega
 have R:∀x∈ns,0≤x:=fun x z=>by
  obtain⟨j,D,e⟩:=List.mem_iff_getElem.mp z;have:=N j D;rw[ba,am D]at this
  rw[←e];exact this
 have M:∀j,(ns.take j).sum≤ns.sum:=fun j=>by
  have:ns.sum=(ns.take j).sum+(ns.drop j).sum:=by rw[←List.sum_append,dA]
  have:=g (ns.drop j) fun x z=>R x (List.mem_of_mem_drop z);omega
 refine call_sum_walk (wpAny_pyIter_list p.isList ?_);have E:a≠s.heap.objs.size:=by
  obtain⟨o,L,_⟩:=p.isList;exact aX (aS L)
 have J:a<s.heap.objs.size:=by
  obtain⟨o,L,_⟩:=p.isList;exact aS L
 refine⟨s.heap.objs.size,_,_,d.toArray.size,_,_,fun i=>ns.getD i 0,rfl,Walks.list (prog:=X.prog) (w:=X.w) (A:=X.A.in1) (I.ok.hd hc) _ a E d.toArray,⟨⟨_,aT _ rfl,rfl,rfl⟩,p.isList.push _⟩,fun b O=>?_,fun i v Z=>?_,fun j D=>?_,fun h' tk t' T=>?_⟩
 ·rw[Heap.size_push];simp only[ak,aM,or_false]at O;rcases O with rfl | rfl
  ·exact cW _
  ·exact dt J
 ·have G:d[i]?=some v:=by simpa using Z
  obtain⟨y,C,U⟩:=y8 (F:=fun u x=>eT x u) (as:=d) (bs:=ns.map V.int) (by
   have:∀{as:List V} {bs:List Value},fH as bs→Paired (fun u x=>eT x u) bs as:=fun q=>by
    induction q with
    |nil=>exact .nil
    |cons r _ ih=>exact .cons r ih
   exact this P) G
  rw[ae]at C;obtain⟨n,Y,rfl⟩:=ax.mp C;show ∃t,v=Value.int (ns.getD i 0) t;rw[ba,Y];exact U
 ·have B:j<ns.length:=by simpa [m] using D
  have h1:=M (j+1);have h3:=g (ns.take j) fun x z=>R x (dF z);have h5:(ns.take (j+1)).sum=(ns.take j).sum+ns.getD j 0:=by
   have h2:ns.take (j+1)=ns.take j++[ns[j]]:=by rw[aQ,am B];rfl
   rw[h2,List.sum_append,ba,am B]
   simp
  have h4:=N j B;rw[j5 ns (j+1) (by omega)];dsimp only;unfold InLong;omega
 ·refine⟨.int ns.sum,H,I.kept (t':=tk) fun b o e=>?_,⟨t',?_⟩,q⟩
  ·exact T b o (by simpa using aX (aS e)) (aC _ e)
  ·rw[aO,m,j5 ns ns.length (aq _),aF]
theorem mo {α:Type} [BEq α] [LawfulBEq α]:∀{l:List α} {k:α} {m:Nat} (hm:m<l.length),m<l.idxOf k→¬l[m]=k
 |a::l,k,0,_,h,e=>by
  have e':a=k:=e;rw[e',cw]at h;exact absurd h (cQ _)
 |a::l,k,m+1,hm,h,e=>by
  by_cases ha:a=k
  ·rw[ha,cw]at h;exact absurd h (bZ _)
  ·rw[List.idxOf_cons,beq_false_of_ne ha]at h;exact mo (l:=l) (by simpa using hm) (Nat.lt_of_succ_lt_succ h) e
theorem xI:Gk X "list.index" (fun x vs H Q=>∃(l:Addr) (ss:List Str) (k:Str),x=.ref l∧vs=[.str k]∧H l=some (.lst (ss.map V.str))∧k∈ss∧Q (.int (ss.idxOf k:Nat)) H):=by
 intro pins s σ H x vs v us Q I J C h;obtain⟨l,ss,k,rfl,rfl,G,B,q⟩:=h;cases (show v=Value.ref l from J);obtain⟨u,rfl,t,rfl⟩:=jm C;obtain⟨z,b,n,r,e⟩:=(show fC X.prog X.w H s.heap l (.lst (ss.map V.str)) from I.hok l _ G);have j:b.length=ss.length:=by rw[←r.length,ab]
 have M:ss.length≤16777216:=by rw[ab,ce]at z;exact z
 have d:∀(m:Nat) (g:m<b.length),∃t',b[m]=.str (ss[m]'(by omega)) t':=fun m g=>by
  have K:(ss.map V.str)[m]?=some (V.str (ss[m]'(by omega))):=by rw[ae,am (by omega)];rfl
  obtain⟨w,A,t',e⟩:=r.get K;rw[am g]at A;exact⟨t',by rw[Option.some.inj A];exact e⟩
 have L:ss.idxOf k<ss.length:=br.mpr B;refine call_meets PySem.F.slot_list_index ⟨_,e,rfl⟩ PySem.F.entry_list_index (PySem.F.args_list_index_2 _ _)
  (SeqAt.list_indexAt l b.toArray n none #[] (.str k t) (fun v=>match v with | .str a _=>a == k | _=>false) (ss.idxOf k) (by simpa [j] using L) (by omega) ?_ ?_) ⟨e,fun y E=>?_,⟨.int (ss.idxOf k:Nat),H,I.tok _,⟨_,rfl⟩,q⟩⟩
 ·obtain⟨t',i⟩:=d (ss.idxOf k) (by omega);show(match b[ss.idxOf k]'(by omega) with | .str a _=>a == k | _=>false)=true;rw[i];simp
 ·intro m g o;have p:m<b.length:=by simpa using g
  obtain⟨t',i⟩:=d m p;show(match b[m] with | .str a _=>a == k | _=>false)=false;rw[i];have:¬ss[m]'(by omega)=k:=mo (by omega) o;simpa using this
 ·obtain⟨m,g,D⟩:=List.mem_iff_getElem.mp (show y∈b by simpa using E);obtain⟨t',i⟩:=d m g;rw[←D,i];exact SeqAt.EqAt.str_str _ _ _ _
theorem xJ:Gk X "list.index" (fun x vs H Q=>∃(l:Addr) (bs:List Bool),x=.ref l∧vs=[.bl true]∧H l=some (.lst (bs.map V.bl))∧true∈bs∧Q (.int (bs.idxOf true:Nat)) H):=by
 intro pins s σ H x vs v us Q I G B h;obtain⟨l,d,rfl,rfl,E,A,q⟩:=h;cases (show v=Value.ref l from G);obtain⟨u,rfl,L⟩:=jm B;cases (show u=Value.bool true from L);obtain⟨z,b,n,r,e⟩:=(show fC X.prog X.w H s.heap l (.lst (d.map V.bl)) from I.hok l _ E);have j:b.length=d.length:=by rw[←r.length,ab]
 have M:d.length≤16777216:=by rw[ab,ce]at z;exact z
 have g:∀(m:Nat) (i:m<b.length),b[m]=.bool (d[m]'(by omega)):=fun m i=>by
  have J:(d.map V.bl)[m]?=some (V.bl (d[m]'(by omega))):=by rw[ae,am (by omega)];rfl
  obtain⟨w,t,e⟩:=r.get J;rw[am i]at t;rw[Option.some.inj t];exact e
 have K:d.idxOf true<d.length:=br.mpr A;refine call_meets PySem.F.slot_list_index ⟨_,e,rfl⟩ PySem.F.entry_list_index (PySem.F.args_list_index_2 _ _)
  (SeqAt.list_indexAt l b.toArray n none #[] (.bool true) (fun v=>match v with | .bool a=>a == true | _=>false) (d.idxOf true) (by simpa [j] using K) (by omega) ?_ ?_) ⟨e,fun y D=>?_,⟨.int (d.idxOf true:Nat),H,I.tok _,⟨_,rfl⟩,q⟩⟩
 ·show(match b[d.idxOf true]'(by omega) with | .bool a=>a == true | _=>false)=true;rw[g (d.idxOf true) (by omega)];simp
 ·intro m i o;have p:m<b.length:=by simpa using i
  show(match b[m] with | .bool a=>a == true | _=>false)=false;rw[g m p];have:¬d[m]'(by omega)=true:=mo (by omega) o;simpa using this
 ·obtain⟨m,i,C⟩:=List.mem_iff_getElem.mp (show y∈b by simpa using D);rw[←C,g m i];exact SeqAt.EqAt.bool_bool _ _
inductive Dl (x:V)(y:V)(H:Hp)(Q:VK):Prop
 |mk (i j:_)(_:x=.int i)(_:y=.int j)(_:Q (.int (Builtin.bitOr i j)) H):Dl x y H Q
def Fy:V→V→Hp→VK→Prop:=fun x y H Q=>Dl x y H Q
inductive AY (x:V)(y:V)(H:Hp)(Q:VK):Prop
 |mk (i j:_)(_:x=.int i)(_:y=.int j)(_:Q (.int (Builtin.bitAnd i j)) H):AY x y H Q
def FA:V→V→Hp→VK→Prop:=fun x y H Q=>AY x y H Q
theorem zU:EN X .BitOr Fy:=by
 rintro pins s σ H x y u v Q I a b ⟨i,j,rfl,rfl,q⟩;obtain⟨t,rfl⟩:=(show ∃t,u=Value.int i t from a);obtain⟨t',rfl⟩:=(show ∃t',v=Value.int j t' from b);exact PyProof.Rows.ior_int ⟨.int _,H,I.tok _,⟨_,rfl⟩,q⟩
theorem sZ:Gh X .BitOr Fy:=fun pins s σ H x y u v Q I rx ry h=>zU pins s σ H x y u v Q I rx ry h
theorem Ep:Gh X .BitAnd FA:=by
 rintro pins s σ H x y u v Q I a b ⟨i,j,rfl,rfl,q⟩;obtain⟨t,rfl⟩:=(show ∃t,u=Value.int i t from a);obtain⟨t',rfl⟩:=(show ∃t',v=Value.int j t' from b);exact PyProof.Rows.iand_int ⟨.int _,H,I.tok _,⟨_,rfl⟩,q⟩
section
variable {xs:List (fB×Value×Value)}{k:fB}{u:Value}
theorem D7 {v:Value}(r:A.units<cLine)(q:nh P w s.heap k u)(D:mS P w s.heap d xs)(hz:xs.length≤sizeLine)(h1:∀x tk,kH xs k=some x→Q x {s with toks:=tk})(h2:kH xs k=none→∀h' tk,mS P w h' d (pO xs k u v)→Heap.SameBut d s.heap h'→Q v {s with heap:=h',toks:=tk}):wpAny (model P w) A (dictSetDefault d u v) Q E s:=by
 obtain⟨o,es,ep,i,F,g,m,hi,p⟩:=D;have G:es.size=xs.length:=by rw[←bF,m,ab]
 unfold dictSetDefault
 try with_reducible refine bw ?_
 refine ac (uY r q fun tk=>ac (uZ (s:={s with toks:=tk}) r q i g (rZ m hi p) (fun h=>?_) (fun j y=>?_)))
 ·have hp:pO xs k u v=xs++[(k,u,v)]:=by unfold pO;rw[kE h,if_neg (by decide)]
  refine ac (cb (ac (wpAny_updateDictKeys (hz:=by lia) (s:={s with toks:=tk}) i g (ar (h2 (kE h) _ tk ?_ (Heap.SameBut.update ..))))));refine⟨_,_,ep+1,dB _ i (Obj.isFreed_of_dict (Obj.data_mapDictKeys g _)),F.mapDictKeys _,Obj.data_mapDictKeys g _,?_,fun x l=>?_,?_⟩
  ·rw[hp];simp[m,tE]
  ·rw[hp]at l;rcases ay.mp l with z | z
   ·exact(hi x z).keep i g (Heap.SameBut.update ..)
   ·rw[ai.mp z];exact q.keep i g (Heap.SameBut.update ..)
  ·rw[hp,aw,bQ];refine⟨p,by simp,fun a B b t z=>h ?_⟩;rw[aD,cM,ai]at t;rw[z,t]at B;exact B
 ·rw[ae]at y;obtain⟨x,l,e⟩:=ax.mp y;obtain⟨C,H⟩:=x;obtain rfl:k=C:=e.symm;refine ac (cO (s:={s with toks:=tk}) i g ?_);rw[←bR,m,ae,l]
  exact ac (cb (ar (h1 _ tk (nO p l))))
end
section
variable {y v:V}{u r:Value}{o:Option V}
theorem Cs {z:V}(m:A.units+1<cLine)(I:eM X pins σ H s)(g:iq H a y o)(p:eT y u)(q:eT z r)(h:∀w' s',eM X pins σ H s'→eT (o.getD z) w'→Q w' s'):wpAny (model X.prog X.w) A (call (.builtin "dict.get") [.ref a,u,r]) Q E s:=by
 obtain⟨d,l⟩:=nR I g;refine ca PySem.F.slot_dict_get d PySem.F.entry_dict_get ?_ (PySem.F.args_dict_get_3 _ _ _);unfold Builtin.«dict.get»;refine ac ?_;unfold Builtin.Dict.keyAndDefault;refine ac (dw d ?_);show wpAny _ _ (pure (a,u,some r)) _ _ s;refine ar ?_;refine ac (vf m I g p fun o' s' j i=>?_);cases o with
 |some x=>
  obtain⟨w',rfl,b⟩:=jc.some_of i;exact ar ⟨w',rfl,h w' s' j b⟩
 |none=>
  have e:o'=none:=jc.none_of i;subst e;refine ac ?_;unfold Builtin.Dict.missed;dsimp only;rw[if_neg (by rw[l];exact aP)];exact ar (ar ⟨r,rfl,h r s' j q⟩)
theorem Cr {z:V}{k:fB}(D:A.units+1<cLine)(I:eM X pins σ H s)(e:H a=some (.dN kvs))(h:kO H k y)(P:kvs.length<sizeLine)(o:eT y u)(J:eT z r)(h1:∀v w' s',eN kvs k=some v→eM X pins σ H s'→eT v w'→Q w' s')(h2:eN kvs k=none→∀s',eM X pins σ (upd H a (.dN (eY kvs k z))) s'→Q r s'):wpAny (model X.prog X.w) A (call (.builtin "dict.setdefault") [.ref a,u,r]) Q E s:=by
 obtain⟨N,d,xs,rel,p⟩:=tG I.hok (.inl e);have B:xs.length≤sizeLine:=by rw[←Paired.length rel];exact N
 have hp:(eY kvs k z).length≤sizeLine:=by have:=fD kvs k z;lia
 have i:=p.typeIs;refine ca PySem.F.slot_dict_setdefault i PySem.F.entry_dict_setdefault ?_ (PySem.F.args_dict_setdefault_3 _ _ _);unfold Builtin.«dict.setdefault»;refine ac ?_;unfold Builtin.Dict.keyAndDefault;refine ac (dw i ?_);show wpAny _ _ (pure (a,u,some r)) _ _ s;refine ar ?_;show wpAny _ _ (if (a == sysModules)=true then _ else (dictSetDefault a u r >>= _)) _ _ s;rw[if_neg (by rw[d];exact aP)];have q:=rel.val k;refine ac (D7 D (nK I.hok (h.rel o)) p B (fun x tk K=>?_) fun L h' tk b G=>?_)
 ·rw[K]at q;cases l:eN kvs k with
  |none=>rw[l]at q;exact q.elim
  |some v=>rw[l]at q;exact ar ⟨x,rfl,h1 v x _ l (I.tok _) q⟩
 ·rw[L]at q;have l:eN kvs k=none:=by
   cases l:eN kvs k with
   |none=>rfl
   |some x=>rw[l]at q;exact q.elim
  refine ar ⟨r,rfl,h2 l _ ?_⟩;obtain⟨j,es,ep,m,t,O,C,_,M⟩:=b;have keep:∀c ys,H c=some (.tup ys)→upd H a (.dN (eY kvs k z)) c=some (.tup ys):=fun c ys g=>by
   rw[dY (fe g e (fun z=>nomatch z))];exact g
  exact jr I (by rw[e];exact True.intro) G ⟨j,m⟩ ⟨hp,d,_,Paired.Ja (rel.put k (h.rel o) J) fun _ _ q=>⟨q.1,q.2.1.keeps keep,q.2.2⟩,j,es,ep,m,t,O,C,M⟩
end
def EM (H:Hp)(a:Addr):Prop:=∃kvs,Rd H a (.dN kvs)
theorem v4 (I:eM X pins σ H s)(d:EM H a):s.TypeIs (.ref a) "dict"∧(∀b,Value.ref a=.ref b→∃ob,s.heap.get? b=some ob∧ob.dict=none):=by
 obtain⟨kvs,e⟩:=d;obtain⟨_,h,xs,_,g⟩:=tG I.hok e;refine⟨g.typeIs,fun b q=>?_⟩;cases q;obtain⟨ob,_,_,h1,h2,_⟩:=g;exact⟨ob,h1,h2.2.1⟩
inductive ua (ty:TE)(tx:TE)(σ:St)(Q:VK)(x:V)(H1:Hp):Prop
 |mk (a:_)(_:x=.ref a)(_:EM H1 a)(_:ty σ H1 fun y H2=>tx σ H2 fun z H3=>∃o,iq H3 a y o∧Q (o.getD z) H3):ua ty tx σ Q x H1
def Bh (td ty tx:TE):TE:=fun σ H Q=>td σ H fun x H1=>ua ty tx σ Q x H1
inductive t8 (ty:TE)(tx:TE)(σ:St)(Q:VK)(x:V)(H1:Hp):Prop
 |mk (a:_)(_:x=.ref a)(_:EM H1 a)(_:ty σ H1 fun y H2=>tx σ H2 fun z H3=>∃kvs k,H3 a=some (.dN kvs)∧kO H3 k y∧kvs.length<sizeLine∧(∀v,eN kvs k=some v→Q v H3)∧(eN kvs k=none→Q z (upd H3 a (.dN (eY kvs k z))))):t8 ty tx σ Q x H1
def Bf (td ty tx:TE):TE:=fun σ H Q=>td σ H fun x H1=>t8 ty tx σ Q x H1
inductive wS (tv:TE)(rd:V→V→Hp→VK→Prop)(D:lV)(σ:St)(x:V)(y:V)(H2:Hp):Prop
 |mk (a v:_)(_:x=.ref a)(_:iq H2 a y (some v))(_:tv σ H2 fun y2 H3=>rd v y2 H3 fun z H4=>∃H5,kg H4 a y z H5∧D.nx σ H5):wS tv rd D σ x y H2
def DQ (td ty tv:TE)(rd:V→V→Hp→VK→Prop):TS:=fun D σ H=>td σ H fun x H1=>ty σ H1 fun y H2=>wS tv rd D σ x y H2
section
variable {o e f i value:Expr}{apos cpos pos tpos:Pos}{td ty tx tv:TE}
theorem qe (G:X.A.units+1<cLine)(C:PE X o td)(M:PE X e ty)(B:PE X f tx)(m:M2 X o "get" apos e f cpos):PE X (.Call (.Attribute o "get" apos) [e,f] [] cpos) (Bh td ty tx):=by
 intro pins s σ H Q I h;refine dq m.base m.few m.line PySem.F.plainAttrs_dict PySem.F.slot_dict_get PySem.F.type_dict_get (fG (C pins s σ H _ I h) ?_);rintro u E ⟨x,H1,i,J,a,ex,d,t⟩;subst ex;obtain rfl:u=Value.ref a:=J;obtain⟨D,j⟩:=v4 i d;refine⟨D,j,?_⟩;rw[m.trees];refine Calls.callWith_builtin rfl (Calls.evalArgs_plain (Calls.spliced_cons (fG (M pins E σ H1 _ i t) fun T r ⟨y,H2,w,K,N⟩=>Calls.spliced_cons (fG (B pins r σ H2 _ w N) fun U S ⟨z,p,q,L,R,g,v⟩=>Calls.spliced_nil ?_))));exact Cs G q g K L fun P O l b=>⟨_,p,l,b,v⟩
theorem xh (O:X.A.units+1<cLine)(J:PE X o td)(S:PE X e ty)(G:PE X f tx)(m:M2 X o "setdefault" apos e f cpos):PE X (.Call (.Attribute o "setdefault" apos) [e,f] [] cpos) (Bf td ty tx):=by
 intro pins s σ H Q I h;refine dq m.base m.few m.line PySem.F.plainAttrs_dict PySem.F.slot_dict_setdefault PySem.F.type_dict_setdefault (fG (J pins s σ H _ I h) ?_);rintro u N ⟨x,H1,g,P,a,ex,d,B⟩;subst ex;obtain rfl:u=Value.ref a:=P;obtain⟨K,j⟩:=v4 g d;refine⟨K,j,?_⟩;rw[m.trees];refine Calls.callWith_builtin rfl (Calls.evalArgs_plain (Calls.spliced_cons (fG (S pins N σ H1 _ g B) fun iv w ⟨y,H2,D,R,U⟩=>Calls.spliced_cons (fG (G pins w σ H2 _ D U) fun fv Z ⟨z,q,r,i,kvs,k,T,t,M,C,L⟩=>Calls.spliced_nil ?_))));exact Cr O r T t M R i (fun v Y p l b E=>⟨v,q,b,E,C v l⟩) fun l p b=>⟨z,_,b,i,L l⟩
theorem yZ {op:Operator}{rd:V→V→Hp→VK→Prop}(j:X.A.units+1<cLine)(K:PE X o td)(hi:PE X i ty)(R:PE X value tv)(b:EN X op rd)(S:∀ov iv new,augStore i ov iv new=(do holding [new,ov,iv] (setItem ov iv new);release [new,ov,iv] [];pure .next)):PS X (.AugAssign (.Subscript o i tpos) op value pos) (DQ td ty tv rd):=by
 intro pins s σ H D I h;refine wpAny_AugAssign_SubscriptAny (fG (K pins s σ H _ I h) ?_) S;rintro u M ⟨x,H1,r,N,E⟩;refine fG (hi pins M σ H1 _ r E) ?_;rintro iv s2 ⟨y,H2,G,l,a,v,ex,g,U⟩;subst ex;obtain rfl:u=Value.ref a:=N;refine pi j G g l fun p Q B d=>fG (R pins Q σ H2 _ B U) ?_;rintro T m ⟨Y,t,q,e,F⟩;refine fG (b pins m σ t v Y p T _ q d e F) ?_;rintro w3 s5 ⟨z,H4,C,O,w,P,L⟩;exact ph j C P l O fun Z J=>⟨σ,w,J,L⟩
end
theorem tO (J:X.calm=true):ju X (.type "list") (fun xs H Q=>∃p kvs,xs=[.ref p]∧Rd H p (.dK kvs)∧∀l,H l=none→Q (.ref l) (upd H l (.lst (kvs.map fun kv=>kV kv.1)))):=by
 intro pins s σ H xs us Q I r h;obtain⟨p,kvs,rfl,e,q⟩:=h;obtain⟨u,rfl,C⟩:=jm r;cases (show u=Value.ref p from C);obtain⟨z,hd,vs,rel,F⟩:=j9 I.hok e;obtain⟨ep,m⟩:=F.dictAt;have B:=rel.length;refine W.kdl_call (W.kdl_dict (knd:=fg X.prog X.w) (kvs:=vs) (ep:=ep) hd) (I.ok.hd J) m (by rw[←B];exact z) fun h' tk t c D G d=>?_;have E:=I.hok.fresh (aq s.heap.objs.size);refine⟨.ref s.heap.objs.size,_,I.laid (a:=s.heap.objs.size) (o:=.lst (kvs.map fun kv=>kV kv.1)) (t':=tk) (fun b o q=>D b o q) (aq _) ?_,rfl,q _ E⟩;refine⟨by rw[ab];exact z,t.toList,c,?_,by rw[G]⟩;refine jF (by rw[ab,B,bF];exact d.1.symm) fun i x y j A=>?_;rw[bR]at A;obtain⟨k,v,h1,h2⟩:=d.2 i y A;rw[ae]at j;have g:kvs[i]?.map (·.1)=vs[i]?.map (·.1):=by rw[←ae,←ae,rel.keys]
 rw[h1]at g;cases hi:kvs[i]? with
 |none=>rw[hi]at j;cases j
 |some kv=>
  rw[hi]at j g;cases j;have:kv.1=k:=by simpa using g
  show eT (kV kv.1) y;rw[this];exact u7 h2
theorem vm:ju X (.type "dict") (fun xs H Q=>∃p kvs,xs=[.ref p]∧Rd H p (.dK kvs)∧∀l,H l=none→Q (.ref l) (upd H l (.dK kvs))):=by
 intro pins s σ H xs us Q I r h;obtain⟨p,kvs,rfl,e,q⟩:=h;obtain⟨u,rfl,a⟩:=jm r;cases (show u=Value.ref p from a);exact Ai I e fun l s' b d=>⟨.ref l,_,d,rfl,q l b⟩
theorem Bz {a:Expr}{ta:TE}(j:PE X a ta)(i:∀whole,isTrue a X.env whole=(do let v ←whole;standAt a.pos;holding [v] (truthy v))):PT X a (fun σ H Q=>ta σ H fun x H'=>∃p kvs,x=.ref p∧Rd H' p (.dK kvs)∧Q (!kvs.isEmpty) H'):=by
 intro pins s σ H Q I h;refine isTrue_plain (fG (j pins s σ H _ I h) ?_) (i _);rintro v o ⟨x,H1,b,e,p,kvs,ex,g,q⟩;subst ex;cases (show v=Value.ref p from e);obtain⟨w,l,vs,r,m⟩:=j9 b.hok g;have d:kvs.length=vs.length:=Paired.length r;have t:sizeLine=16777216:=ce;exact wpAny_truthy_dict l m (by lia) ⟨H1,b.tok _,by rw[oZ r];exact q⟩
def KT.all {α:Type}(lt:Nat→Nat→Bool)(n:Nat)(Q:α→Prop):W.KasT α→Prop
 |.ret a=>Q a
 |.ask i j k=>i<n∧j<n∧KT.all lt n Q (k (lt i j))
theorem KT.bind {α β:Type}{lt:Nat→Nat→Bool}{n:Nat}{Q:β→Prop}{f:α→W.KasT β}:∀{t:W.KasT α},KT.all lt n (fun a=>KT.all lt n Q (f a)) t→KT.all lt n Q (t.bind f)
 |.ret _,h=>h
 |.ask i j k,h=>⟨h.1,h.2.1,KT.bind (t:=k (lt i j)) h.2.2⟩
theorem KT.mono {α:Type}{lt:Nat→Nat→Bool}{n:Nat}{Q Q':α→Prop}(hq:∀a,Q a→Q' a):∀{t:W.KasT α},KT.all lt n Q t→KT.all lt n Q' t
 |.ret a,h=>hq a h
 |.ask i j k,h=>⟨h.1,h.2.1,KT.mono hq (t:=k (lt i j)) h.2.2⟩
structure SO (lt:Nat→Nat→Bool):Prop where
 tr:∀a b c,lt a b=true→lt b c=true→lt a c=true
 as:∀a b,lt a b=true→lt b a=false
structure yn (lt:Nat→Nat→Bool)(n:Nat)(p:Array Nat):Prop where
 sz:p.size=n
 bd:∀i,i<n→p.getD i 0<n
 tt:∀i j,i<n→j<n→i≠j→lt (p.getD i 0) (p.getD j 0)=true∨lt (p.getD j 0) (p.getD i 0)=true
def lB (lt:Nat→Nat→Bool)(p:Array Nat)(m:Nat):Prop:=∀i j,i<j→j<m→lt (p.getD i 0) (p.getD j 0)=true
def yj (lt:Nat→Nat→Bool)(p:Array Nat)(m:Nat):Prop:=∀i j,i<j→j<m→lt (p.getD j 0) (p.getD i 0)=true
theorem tz {q:Array Nat}{j:Nat}(h:p[i]?=q[j]?):p.getD i 0=q.getD j 0:=by
 rw[cg,cg,h]
section
variable {lt:Nat→Nat→Bool}{n:Nat}
theorem lB.more (S:SO lt)(h:lB lt p m)(h1:1≤m)(hl:lt (p.getD (m-1) 0) (p.getD m 0)=true):lB lt p (m+1):=fun i j hij hj=>by
 by_cases e:j=m
 ·subst e;by_cases e2:i=j-1
  ·subst e2;exact hl
  ·exact S.tr _ _ _ (h i (j-1) (by lia) (by lia)) hl
 ·exact h i j hij (by lia)
theorem yj.more (S:SO lt)(h:yj lt p m)(h1:1≤m)(hl:lt (p.getD m 0) (p.getD (m-1) 0)=true):yj lt p (m+1):=fun i j hij hj=>by
 by_cases e:j=m
 ·subst e;by_cases e2:i=j-1
  ·subst e2;exact hl
  ·exact S.tr _ _ _ hl (h i (j-1) (by lia) (by lia))
 ·exact h i j hij (by lia)
theorem vq (S:SO lt){p:Array Nat}(P:yn lt n p):∀(f m:Nat),f=n-m→1≤m→m≤n→lB lt p m→KT.all lt n (fun r=>m≤r∧r≤n∧lB lt p r∧(r=n∨lt (p.getD r 0) (p.getD (r-1) 0)=true)) (W.kas_asc p f m)
 |0,m,hf,h1,hm,hu=>⟨aq _,hm,hu,.inl (by lia)⟩
 |f+1,m,hf,h1,hm,hu=>by
  refine⟨P.bd _ (by lia),P.bd _ (by lia),?_⟩;show KT.all lt n _ (if lt (p.getD m 0) (p.getD (m-1) 0)=true then W.KasT.ret m else W.kas_asc p f (m+1));by_cases hc:lt (p.getD m 0) (p.getD (m-1) 0)=true
  ·rw[if_pos hc];exact⟨aq _,hm,hu,.inr hc⟩
  ·rw[if_neg hc];have hl:=(P.tt m (m-1) (by lia) (by lia) (by lia)).resolve_left hc;exact KT.mono (fun r hr=>⟨by lia,hr.2⟩) (vq S P f (m+1) (by lia) (by lia) (by lia) (hu.more S h1 hl))
theorem v8 (S:SO lt){p:Array Nat}(P:yn lt n p):∀(f m:Nat),f=n-m→1≤m→m≤n→yj lt p m→KT.all lt n (fun r=>r.1=p∧m≤r.2.1∧r.2.1≤n∧yj lt p r.2.1∧r.2.2=0) (W.kas_desc f p m 0)
 |0,m,hf,h1,hm,hu=>⟨rfl,aq _,hm,hu,rfl⟩
 |f+1,m,hf,h1,hm,hu=>by
  refine⟨P.bd _ (by lia),P.bd _ (by lia),?_⟩;show KT.all lt n _ (if lt (p.getD m 0) (p.getD (m-1) 0)=true then (if 0>0 then W.kas_desc f (W.kas_rev p (m-(0+1)) m) (m+1) 0 else W.kas_desc f p (m+1) 0) else W.KasT.ask (p.getD (m-1) 0) (p.getD m 0) fun d=>if d=true then .ret (p,m,0) else W.kas_desc f p (m+1) (0+1));by_cases hc:lt (p.getD m 0) (p.getD (m-1) 0)=true
  ·rw[if_pos hc,if_neg (by decide)];exact KT.mono (fun r hr=>⟨hr.1,by lia,hr.2.2⟩) (v8 S P f (m+1) (by lia) (by lia) (by lia) (hu.more S h1 hc))
  ·rw[if_neg hc];have hl:=(P.tt m (m-1) (by lia) (by lia) (by lia)).resolve_left hc;refine⟨P.bd _ (by lia),P.bd _ (by lia),?_⟩;show KT.all lt n _ (if lt (p.getD (m-1) 0) (p.getD m 0)=true then W.KasT.ret (p,m,0) else W.kas_desc f p (m+1) (0+1));rw[if_pos hl];exact⟨rfl,aq _,hm,hu,rfl⟩
theorem oH (a:m≤p.size)(k:Nat):(W.kas_rev p 0 m).getD k 0=if k<m then p.getD (m-1-k) 0 else p.getD k 0:=by
 have e:=getElem?_mirror_all (i:=0) a k;unfold W.kas_rev;by_cases h:k<m
 ·rw[if_pos h];rw[if_pos ⟨bp _,h⟩,Nat.zero_add]at e;exact tz e
 ·rw[if_neg h];rw[if_neg (fun z=>h z.2)]at e;exact tz e
theorem DR (P:yn lt n p)(a:m≤n):yn lt n (W.kas_rev p 0 m):=by
 refine⟨(W.kas_rev_size 0 m).trans P.sz,fun i hi=>?_,fun i j hi d b=>?_⟩
 ·rw[oH (by rw[P.sz];exact a)];by_cases h:i<m
  ·rw[if_pos h];exact P.bd _ (by lia)
  ·rw[if_neg h];exact P.bd _ hi
 ·rw[oH (by rw[P.sz];exact a),oH (by rw[P.sz];exact a)]
  repeat' split
  all_goals exact P.tt _ _ (by lia) (by lia) (by lia)
theorem yz (S:SO lt)(P:yn lt n p)(h1:1≤m)(a:m≤n)(e:yj lt p m):KT.all lt n (fun r=>1≤r.1∧r.1≤n∧lB lt r.2 r.1∧yn lt n r.2∧r.2.Perm p) (W.kas_tail3 m n p):=by
 have b:=DR P a;have h:lB lt (W.kas_rev p 0 m) m:=fun i j l g=>by
  rw[oH (by rw[P.sz];exact a),oH (by rw[P.sz];exact a),if_pos (by lia),if_pos g];exact e _ _ (by lia) (by lia)
 refine KT.bind (KT.mono (fun r d=>?_) (vq S b (n-m) m rfl h1 a h));exact⟨by lia,d.2.1,d.2.2.1,b,mirror_perm _ _ _ _⟩
theorem Al (S:SO lt)(P:yn lt n p)(h2:2≤n):KT.all lt n (fun r=>1≤r.1∧r.1≤n∧lB lt r.2 r.1∧yn lt n r.2∧r.2.Perm p) (W.kas_count n p):=by
 unfold W.kas_count;refine KT.bind (KT.mono (fun m w=>?_) (vq S P (n-1) 1 rfl (aq _) (by lia) fun i j a b=>by lia));obtain⟨g,h,d,l⟩:=w;by_cases e:m=n
 ·rw[if_pos (by simpa using e)];exact⟨g,h,d,P,Array.Perm.refl _⟩
 ·rw[if_neg (by simpa using e)];by_cases h1:m>1
  ·rw[if_pos h1];refine⟨P.bd _ (by lia),P.bd _ (by lia),?_⟩;show KT.all lt n _ (if lt (p.getD 0 0) (p.getD (m-1) 0)=true then W.KasT.ret (m,p) else W.kas_descPart m n (W.kas_rev p 0 m));rw[if_pos (d 0 (m-1) (by lia) (by lia))];exact⟨g,h,d,P,Array.Perm.refl _⟩
  ·rw[if_neg h1];have:m=1:=by lia
   subst this;have o:=l.resolve_left (by lia);unfold W.kas_descPart;refine KT.bind (KT.mono (fun r s=>?_) (v8 S P (n-(1+1)) (1+1) rfl (by lia) (by lia) fun i j a b=>?_))
   ·obtain⟨q,y,v,t,x⟩:=s;rw[if_neg (by lia),q];exact yz S P (by lia) v t
   ·have:i=0∧j=1:=by lia
    obtain⟨rfl,rfl⟩:=this;exact o
theorem oM (S:SO lt){p:Array Nat}(P:yn lt n p){k:Nat}(g:k<n)(d:lB lt p k):∀(f l r:Nat),r-l≤f→l≤r→r≤k→(∀i,i<l→lt (p.getD i 0) (p.getD k 0)=true)→(∀i,r≤i→i<k→lt (p.getD k 0) (p.getD i 0)=true)→KT.all lt n (fun x=>x≤k∧(∀i,i<x→lt (p.getD i 0) (p.getD k 0)=true)∧∀i,x≤i→i<k→lt (p.getD k 0) (p.getD i 0)=true) (W.kas_place p k f l r)
 |0,l,r,hf,hlr,hrk,h1,h2=>by
  have:l=r:=by lia
  subst this;exact⟨hrk,h1,h2⟩
 |f+1,l,r,hf,hlr,hrk,h1,h2=>by
  unfold W.kas_place;by_cases e:l ≥ r
  ·rw[if_pos e];have:l=r:=by lia
   subst this;exact⟨hrk,h1,h2⟩
  ·rw[if_neg e];refine⟨P.bd _ (by lia),P.bd _ (by lia),?_⟩;show KT.all lt n _ (if lt (p.getD k 0) (p.getD ((l+r) / 2) 0)=true then W.kas_place p k f l ((l+r) / 2) else W.kas_place p k f ((l+r) / 2+1) r);by_cases hc:lt (p.getD k 0) (p.getD ((l+r) / 2) 0)=true
   ·rw[if_pos hc];refine oM S P g d f l ((l+r) / 2) (by lia) (by lia) (by lia) h1 fun i a b=>?_;by_cases e2:i=(l+r) / 2
    ·subst e2;exact hc
    ·exact S.tr _ _ _ hc (d _ _ (by lia) b)
   ·rw[if_neg hc];have h:=(P.tt k ((l+r) / 2) g (by lia) (by lia)).resolve_left hc;refine oM S P g d f ((l+r) / 2+1) r (by lia) (by lia) hrk (fun i a=>?_) h2;by_cases e2:i=(l+r) / 2
    ·subst e2;exact h
    ·exact S.tr _ _ _ (d i _ (by lia) (by lia)) h
theorem ED {k d:Nat}(b:k<p.size)(a:d≤k)(i:Nat):(bubble p k d).getD i 0=if i=k-d then p.getD k 0 else if k-d<i∧i≤k then p.getD (i-1) 0 else p.getD i 0:=by
 have e:=getElem?_bubble b d a i;by_cases h1:i=k-d
 ·rw[if_pos h1]at e ⊢;exact tz e
 ·rw[if_neg h1]at e ⊢;by_cases h2:k-d<i∧i≤k
  ·rw[if_pos h2]at e ⊢;exact tz e
  ·rw[if_neg h2]at e ⊢;exact tz e
theorem Ao (S:SO lt):∀(f k:Nat) (p:Array Nat),yn lt n p→f=n-k→k≤n→lB lt p k→KT.all lt n (fun q=>lB lt q n∧yn lt n q∧q.Perm p) (W.kas_bin f p k)
 |0,k,p,P,hf,hk,hu=>by
  have:k=n:=by lia
  subst this;exact⟨hu,P,Array.Perm.refl _⟩
 |f+1,k,p,P,hf,hk,hu=>by
  have m:k<n:=by lia
  have w:k<p.size:=by rw[P.sz];exact m
  unfold W.kas_bin;refine KT.bind (KT.mono (fun l v=>?_) (oM S P m hu k 0 k (by lia) (by lia) (aq _) (fun i a=>by lia) fun i a b=>by lia));obtain⟨y,s,t⟩:=v;have d:=fun i=>ED (p:=p) w (show k-l≤k by lia) i;rw[show k-(k-l)=l by lia]at d;have e:=P.tt;have h:=P.bd;unfold lB at hu;obtain⟨g,hg⟩:∃g:Nat→Nat,∀i,p.getD i 0=g i:=⟨fun i=>p.getD i 0,fun _=>rfl⟩;simp only[hg]at d s t e hu h;refine KT.mono (fun q r=>⟨r.1,r.2.1,r.2.2.trans (bubble_perm _ _ _)⟩) (Ao S f (k+1) (bubble p k (k-l)) ⟨(bubble_size _ _ _).trans P.sz,fun i hi=>?_,fun i j hi x o=>?_⟩ (by lia) (by lia) fun i j o x=>?_)
  ·rw[d]
   repeat' split
   all_goals exact h _ (by lia)
  ·rw[d,d]
   repeat' split
   all_goals first | (exfalso;lia) | exact e _ _ (by lia) (by lia) (by lia)
  ·rw[d,d]
   repeat' split
   all_goals first | (exfalso;lia) | exact s _ (by lia) | exact t _ (by lia) (by lia) | exact hu _ _ (by lia) (by lia)
theorem Bk (S:SO lt)(h2:2≤n)(tt:∀i j,i<n→j<n→i≠j→lt i j=true∨lt j i=true):KT.all lt n (fun q=>lB lt q n∧q.size=n∧q.toList.Perm (List.range n)) (W.kas_sort n):=by
 have e:∀i,i<n→(List.toArray (List.range n)).getD i 0=i:=fun i hi=>by
  rw[cg];simp[hi]
 have P:yn lt n (List.toArray (List.range n)):=⟨by simp,fun i hi=>by rw[e i hi];exact hi,fun i j hi h b=>by rw[e i hi,e j h];exact tt i j hi h b⟩;unfold W.kas_sort;refine KT.bind (KT.mono (fun r l=>?_) (Al S P h2));obtain⟨p,m,d,g,o⟩:=l;have pm:∀{q:Array Nat},q.Perm r.2→q.toList.Perm (List.range n):=fun a=>by
  have:=Array.perm_iff_toList_perm.mp (a.trans o);simpa using this
 by_cases hlt:r.1<n
 ·rw[if_pos hlt,show max r.1 1=r.1 by lia];exact KT.mono (fun q a=>⟨a.1,a.2.1.sz,pm a.2.2⟩) (Ao S (n-r.1) r.1 r.2 g rfl m d)
 ·rw[if_neg hlt];have:r.1=n:=by lia
  rw[this]at d;exact⟨d,g.sz,pm (Array.Perm.refl _)⟩
end
theorem KT.wp {α:Type}{lt:Nat→Nat→Bool}{n:Nat}{cmp:Nat→Nat→(Bool→Shared→Prop)→Shared→Prop}{s:Shared}{Q:α→Prop}{R:α→Shared→Prop}(hc:∀i j,i<n→j<n→∀(C:Bool→Shared→Prop),C (lt i j) s→cmp i j C s)(hr:∀a,Q a→R a s):∀{t:W.KasT α},KT.all lt n Q t→t.kasWp cmp R s
 |.ret a,h=>hr a h
 |.ask i j k,h=>hc i j h.1 h.2.1 _ (KT.wp hc hr (t:=k (lt i j)) h.2.2)
abbrev SI:=Str×Int
def pQ (a b:SI):Bool:=if a.1=b.1 then decide (a.2<b.2) else decide (a.1.cps.toList<b.1.cps.toList)
theorem uj {a b:Str}(h:a.cps.toList=b.cps.toList):a=b:=by
 cases a;cases b;simp only[Str.mk.injEq];exact Array.toList_inj.mp h
theorem xL {a c:SI}(h1:pQ a b=true)(h2:pQ b c=true):pQ a c=true:=by
 unfold pQ at *;by_cases e1:a.1=b.1
 ·by_cases e2:b.1=c.1
  ·rw[if_pos e1]at h1;rw[if_pos e2]at h2;rw[if_pos (e1.trans e2)];simp only[aA]at *;lia
  ·rw[if_neg e2]at h2;rw[if_neg (fun z=>e2 (e1.symm.trans z)),e1];exact h2
 ·by_cases e2:b.1=c.1
  ·rw[if_neg e1]at h1;rw[if_neg (fun z=>e1 (z.trans e2.symm)),←e2];exact h1
  ·rw[if_neg e1]at h1;rw[if_neg e2]at h2;simp only[aA]at h1 h2;have d:=List.lt_trans h1 h2;rw[if_neg (fun z=>by rw[z]at d;exact List.lt_irrefl _ d)];simpa using d
theorem xN {a:SI}(h:pQ a b=true):pQ b a=false:=by
 unfold pQ at *;by_cases e:a.1=b.1
 ·rw[if_pos e]at h;rw[if_pos e.symm];simp only[aA,decide_eq_false_iff_not]at *;lia
 ·rw[if_neg e]at h;rw[if_neg (fun z=>e z.symm)];simp only[aA,decide_eq_false_iff_not]at *;exact fun z=>List.lt_irrefl _ (List.lt_trans h z)
theorem xM {a:SI}(h:a≠b):pQ a b=true∨pQ b a=true:=by
 unfold pQ;by_cases e:a.1=b.1
 ·rw[if_pos e,if_pos e.symm];simp only[aA];have:a.2≠b.2:=fun z=>h (Prod.ext e z)
  lia
 ·rw[if_neg e,if_neg (fun z=>e z.symm)];simp only[aA];by_cases h1:a.1.cps.toList<b.1.cps.toList
  ·exact .inl h1
  ·by_cases h2:b.1.cps.toList<a.1.cps.toList
   ·exact .inr h2
   ·exact absurd (uj (List.le_antisymm (List.not_lt.mp h2) (List.not_lt.mp h1))) e
section
variable {prog:Program}
theorem xO {vs:List Value}{n:Nat}{P:PySem.Fin→Shared→Prop}{lt:Nat→Nat→Bool}{κ:SortKind}(x:s.heap.get? a=some (seqObj "list" vs.toArray n))(F:vs.length<64)(S:SO lt)(tt:∀i j,i<vs.length→j<vs.length→i≠j→lt i j=true∨lt j i=true)(N:∀h',(∀b o,b≠a→s.heap.get? b=some o→h'.get? b=some o)→2≤vs.length→∀Q:SortKind→Shared→Prop,Q κ {s with heap:=h'}→wpAny (model prog w) A (keyKind' vs.toArray) Q E {s with heap:=h'})(O:∀h',(∀b o,b≠a→s.heap.get? b=some o→h'.get? b=some o)→∀i j,i<vs.length→j<vs.length→∀C:Bool→Shared→Prop,C (lt i j) {s with heap:=h'}→W.kas_ask prog w A κ vs i j C {s with heap:=h'})(h:∀p:List Nat,p.Perm (List.range vs.length)→p.Pairwise (fun i j=>lt i j=true)→P (.done (.ret .none)) {s with heap:=sortedHeap s.heap a vs (p.map fun i=>vs.getD i Value.none).toArray}):wpAny (model prog w) A (Builtin.«list.sort» ⟨[.ref a],[]⟩) P E s:=by
 rw[list_sort_plain];have J:a<s.heap.objs.size:=aS x;have R:vs.toArray.size=vs.length:=aO ..;refine ac (listItems_at x rfl (ac (listUpdate_at x rfl ?_)));obtain⟨e1,ho1⟩:∃e1,(s.heap.update a (Obj.mapSeq fun _=>(#[]:Array Value))).get? a=some (seqObj "list" #[] e1):=⟨_,get?_update_seq x (fun _=>#[])⟩;refine ac (seqEpoch_at ho1 rfl (ac (wpAny_newTuple (ac (wpAny_newList (bw ?_))))));have keep:∀b o,b≠a→s.heap.get? b=some o→(((s.heap.update a (Obj.mapSeq fun _=>(#[]:Array Value))).push (seqObj "tuple" vs.toArray 0)).push (seqObj "list" #[] 0)).get? b=some o:=fun b o M e=>by
  have m:=aS e;rw[cR _ _ _ (by rw[size_push',dD];exact aX (dt m)),cR _ _ _ (by rw[dD];exact aX m),Heap.get?_update_ne _ _ _ _ M]
  exact e
 have d:(((s.heap.update a (Obj.mapSeq fun _=>(#[]:Array Value))).push (seqObj "tuple" vs.toArray 0)).push (seqObj "list" #[] 0)).get? a=some (seqObj "list" #[] e1):=by
  rw[cR _ _ _ (by rw[size_push',dD];exact aX (dt J)),cR _ _ _ (by rw[dD];exact aX J)]
  exact ho1
 show wpAny (model prog w) A _ P E {s with heap:=((s.heap.update a (Obj.mapSeq fun _=>(#[]:Array Value))).push (seqObj "tuple" vs.toArray 0)).push (seqObj "list" #[] 0)};dsimp only;by_cases h2:vs.toArray.size<2
 ·rw[if_pos h2,if_pos h2];refine ac (ar ?_);rw[StateT.run_pure];refine ac (ar ?_);dsimp only;refine ac (seqEpoch_at d rfl (ac (listUpdate_at d rfl ?_ (hsz2:=by rw[Array.size_map];show(pairsOf vs).size≤_;rw[pairsOf_size,ce];lia))));simp only[bne_self_eq_false,cr,if_false];have e:Array.map (·.2) (arrOf (SortSt.mk' general' (vs.toArray.zip vs.toArray) #[] 7 none))=((List.range vs.length).map fun i=>vs.getD i Value.none).toArray:=by
   show Array.map (·.2) (vs.toArray.zip vs.toArray)=_
   match vs,h2 with
   |[],_=>simp
   |[v],_=>simp
   |_::_::_,h2=>exact absurd h2 (by simp)
  rw[e];refine ar (h (List.range vs.length) (List.Perm.refl _) ?_);have:vs.length<2:=by lia
  match hl:vs.length,this with
  |0,_=>exact List.Pairwise.nil
  |1,_=>exact List.pairwise_singleton _ _
 ·rw[if_neg h2,if_neg h2];refine ac (N _ keep (by lia) _ ?_);refine ac (bO (W.kat_run (ks:=vs) (vs:=vs) (Q:=fun g s'=>s'={s with heap:=((s.heap.update a (Obj.mapSeq fun _=>(#[]:Array Value))).push (seqObj "tuple" vs.toArray 0)).push (seqObj "list" #[] 0)}∧failedOf g=none∧∃p:Array Nat,arrOf g=p.map (W.kas_item (vs.toArray.zip vs.toArray))∧lB lt p vs.length∧p.size=vs.length∧p.toList.Perm (List.range vs.length)) (G:=fun p s'=>s'={s with heap:=((s.heap.update a (Obj.mapSeq fun _=>(#[]:Array Value))).push (seqObj "tuple" vs.toArray 0)).push (seqObj "list" #[] 0)}∧lB lt p vs.length∧p.size=vs.length∧p.toList.Perm (List.range vs.length)) rfl (by lia) F (fun p g s' hp l y H=>⟨H.1,y,p,l,H.2⟩) (KT.wp (O _ keep) (fun p hp=>⟨rfl,hp⟩) (Bk S (by lia) tt))) (fun r s' K=>?_) fun _ _ z=>z);obtain⟨⟨⟩,g⟩:=r;obtain⟨rfl,y,p,l,L,t,B⟩:=K;have q:=W.kat_snds (ks:=vs) (vs:=vs) rfl l;dsimp only;rw[q,y];refine ac (seqEpoch_at d rfl (ac (listUpdate_at d rfl ?_ (hsz2:=by rw[aO,ab,bF,t,ce];lia))));simp only[bne_self_eq_false,cr,if_false];refine ar (h p.toList B ?_);rw[List.pairwise_iff_getElem];intro i j hi I D;have:=L i j D (by rw[←t];simpa using I);rw[cg,cg,cU (by simpa using hi),cU (by simpa using I)]at this
  simpa using this
theorem uu {l:Addr}{vs:List Value}{lt:Nat→Nat→Bool}{κ:SortKind}(t:s.heap.IsList l vs.toArray)(r:vs.length<64)(S:SO lt)(tt:∀i j,i<vs.length→j<vs.length→i≠j→lt i j=true∨lt j i=true)(v:∀(A':Around) (E':Value→Shared→Prop) h',(∀b o,s.heap.get? b=some o→h'.get? b=some o)→2≤vs.length→∀Q:SortKind→Shared→Prop,Q κ {s with heap:=h'}→wpAny (model prog w) A' (keyKind' vs.toArray) Q E' {s with heap:=h'})(x:∀h',(∀b o,s.heap.get? b=some o→h'.get? b=some o)→∀i j,i<vs.length→j<vs.length→∀C:Bool→Shared→Prop,C (lt i j) {s with heap:=h'}→W.kas_ask prog w A.in1.in1 κ vs i j C {s with heap:=h'})(h:∀p:List Nat,p.Perm (List.range vs.length)→p.Pairwise (fun i j=>lt i j=true)→Q (.ref (s.heap.objs.size+1)) {s with heap:=sortedAll s.heap vs (p.map fun i=>vs.getD i Value.none).toArray}):wpAny (model prog w) A (call (.builtin "sorted") [.ref l]) Q E s:=by
 refine Calls.call_function_entry kind_sorted plain_sorted entry_sorted (args_sorted1 _) ?_;unfold Builtin.«sorted»;refine ac (m:=checkCount "sorted" 1 1 _) (ar ?_);refine ac (collect_list t (ac (wpAny_newList ?_)) (by rw[ce];lia));have d:((s.heap.push (seqObj "list" #[] 0)).update s.heap.objs.size (Obj.mapSeq (·++vs.toArray))).objs.size=s.heap.objs.size+1:=by rw[dD,size_push']
 have e:(((s.heap.push (seqObj "list" #[] 0)).update s.heap.objs.size (Obj.mapSeq (·++vs.toArray))).push (seqObj "list" vs.toArray 0)).get? (s.heap.objs.size+1)=some (seqObj "list" vs.toArray 0):=by rw[←d];exact aT _ rfl
 have keep:∀b o,s.heap.get? b=some o→b≠s.heap.objs.size+1∧(((s.heap.push (seqObj "list" #[] 0)).update s.heap.objs.size (Obj.mapSeq (·++vs.toArray))).push (seqObj "list" vs.toArray 0)).get? b=some o:=fun b o q=>by
  have a:b<s.heap.objs.size:=aS q;refine⟨aX (dt a),?_⟩;rw[cR _ _ _ (by rw[d];exact aX (dt a)),Heap.get?_update_ne _ _ _ _ (aX a),cR _ _ _ (aX a)]
  exact q
 show wpAny _ _ _ _ _ {s with heap:=((s.heap.push (seqObj "list" #[] 0)).update s.heap.objs.size (Obj.mapSeq (·++vs.toArray))).push (seqObj "list" vs.toArray 0)};rw[d];refine ac (bw (ca slot_list_sort ⟨_,e,rfl⟩ entry_list_sort (xO e r S tt (fun h' kp=>v _ _ h' fun b o q=>kp b o (keep b o q).1 (keep b o q).2) (fun h' kp=>x h' fun b o q=>kp b o (keep b o q).1 (keep b o q).2) fun p hp g=>⟨_,rfl,?_⟩) (args_list_sort _)));exact ar ⟨_,rfl,h p hp g⟩
end
def t7 (H:Hp)(v:V)(k:SI):Prop:=∃q,v=.ref q∧H q=some (.tup [.str k.1,.int k.2])
theorem xg {α:Type}{d:α}{xs:List α}{p:List Nat}(h:p.Perm (List.range xs.length)):(p.map fun i=>xs.getD i d).Perm xs:=by
 refine(h.map _).trans (List.Perm.of_eq ?_);refine List.ext_getElem? fun i=>?_;rw[ae];by_cases hi:i<xs.length
 ·rw[am (by simpa using hi),am hi]
  simp[hi]
 ·rw[List.getElem?_eq_none (by simpa using hi),List.getElem?_eq_none (by lia)]
  rfl
theorem r9:ju X (.builtin "sorted") (fun xs H Q=>∃(a:Addr) (vs:List V) (ks:List SI),xs=[.ref a]∧eX X.K H a vs∧Paired (t7 H) vs ks∧ks.Nodup∧ks.length<64∧∀(p:Addr) (vs':List V) (ks':List SI),H p=none→Paired (t7 H) vs' ks'→ks'.Perm ks→ks'.Pairwise (fun a b=>pQ a b=true)→Q (.ref p) (upd H p (.lst vs'))):=by
 intro pins s σ H xs us Q I r h;obtain⟨a,vs,ks,rfl,hS,hp,ah,an,q⟩:=h;obtain⟨u,rfl,r1⟩:=jm r;cases (show u=Value.ref a from r1);obtain⟨g,rv,pl,hz⟩:=I.list hS;have l1:vs.length=g.length:=rv.length;have l2:vs.length=ks.length:=Paired.length hp;have B:∀i,(hi:i<g.length)→∃(b:Addr) (o:Obj) (t t':Tok) (n:Nat),g[i]=.ref b∧vs[i]?=some (V.ref b)∧H b=some (.tup [.str (ks.getD i (Str.empty,0)).1,.int (ks.getD i (Str.empty,0)).2])∧s.heap.get? b=some o∧o.cls=.type "tuple"∧o.data=.seq #[.str (ks.getD i (Str.empty,0)).1 t,.int (ks.getD i (Str.empty,0)).2 t'] n:=fun i hi=>by
  have D:vs[i]?=some (vs[i]'(by lia)):=am (by lia);obtain⟨w',hw,M⟩:=rv.get D;rw[am hi]at hw;obtain⟨k,hk,b,S,L⟩:=y8 hp D;have aa:ks.getD i (Str.empty,0)=k:=by rw[ba,hk];rfl
  rw[S]at M D;obtain⟨z,ts,rt,o,e,c,n,dd⟩:=(show fC X.prog X.w H s.heap b (.tup [.str k.1,.int k.2]) from I.hok b _ L);cases rt with
  |cons r1 r2=>
   cases r2 with
   |cons r3 r4=>
    cases r4;obtain⟨t,rfl⟩:=r1;obtain⟨t',rfl⟩:=r3;rw[aa];exact⟨b,o,t,t',n,(Option.some.inj hw).trans (show w'=Value.ref b from M),D,L,e,c,dd⟩
 have gd:∀i,(hi:i<g.length)→g.getD i Value.none=g[i]:=fun i hi=>by rw[ba,am hi];rfl
 refine uu (lt:=fun i j=>pQ (ks.getD i (Str.empty,0)) (ks.getD j (Str.empty,0))) (κ:=tuples' (Value.type "str" != Value.type "tuple")) pl.isList (by lia) ⟨fun _ _ _=>xL,fun _ _=>xN⟩ (fun i j hi G ag=>xM fun z=>ag ?_) (fun A' E' h' kp h2 Q' hq=>?_) (fun h' kp i j hi G C E=>?_) fun p F Y=>?_
 ·rw[ba,ba,am (by lia),am (by lia)]at z
  exact(List.getElem_inj ah).mp z
 ·have P:∀(m:Nat),m≤g.length→∃fs,W.KatTups h' (g.drop m) fs∧fs.length=g.length-m∧∀v∈fs,∃x t,v=.str x t:=by
   intro m hm;obtain⟨d,hd⟩:∃d,d=g.length-m:=⟨_,rfl⟩
   induction d generalizing m with
   |zero=>
    have:m=g.length:=by lia
    subst this;exact⟨[],by rw[List.drop_length];exact .nil,by simp,fun v D=>nomatch D⟩
   |succ d ih=>
    have O:m<g.length:=by lia
    obtain⟨fs,f1,f2,f3⟩:=ih (m+1) (by lia) (by lia);obtain⟨b,o,t,t',n,y,_,_,e3,e4,U⟩:=B m O;refine⟨.str (ks.getD m (Str.empty,0)).1 t::fs,?_,by rw[aB];lia,fun v D=>?_⟩
    ·rw[dO O,y];exact .cons (kp _ _ e3) e4 U rfl f1
    ·rcases ak.mp D with z | z
     ·exact⟨_,_,z⟩
     ·exact f3 v z
  obtain⟨fs,f1,f2,f3⟩:=P 0 (bp _);refine W.kat_kind (s:={s with heap:=h'}) (T:=.type "str") (fs:=fs) (by simpa using f1) (by lia) (fun v D=>?_) (by decide) hq;obtain⟨x,t,rfl⟩:=f3 v D;exact .now
 ·obtain⟨b,o,t,t',n,y,_,_,e3,e4,U⟩:=B i hi;obtain⟨b2,o2,t2,Z,n2,g1,_,_,g3,g4,g5⟩:=B j G;unfold W.kas_ask;rw[gd i hi,gd j G,y,g1,show(Value.type "str" != Value.type "tuple")=true by decide];generalize ks.getD i (Str.empty,0)=k1 at *;generalize ks.getD j (Str.empty,0)=k2 at *;refine W.kat_lt (s:={s with heap:=h'}) (kp _ _ e3) U (kp _ _ g3) g5 ?_;show W.KatLex X.prog X.w X.A.in1.in1 true (decide (2<2)) C [(.str k1.1 t,.str k2.1 t2),(.int k1.2 t',.int k2.2 Z)] 0 _;refine W.kat_cons (SeqAt.EqAt.str_str _ _ _ _ _ _ _ _ ?_);refine W.kat_go (fun J=>W.kat_yes (W.kat_cons (SeqAt.EqAt.int_int _ _ _ _ _ _ _ _ (W.kat_go (fun R=>W.kat_yes (W.kat_nil ?_)) fun R=>W.kat_no ?_)))) (fun J=>W.kat_no ?_)
  ·have y:k1.1=k2.1:=by simpa using J
   have e2:k1.2=k2.2:=by simpa using R
   have:pQ k1 k2=decide (2<2):=by unfold pQ;rw[if_pos y,e2];simp
   try dsimp only at E
   rw[this]at E;exact E
  ·have y:k1.1=k2.1:=by simpa using J
   refine W.kat_one _ _ (lt_int ?_);have:pQ k1 k2=decide (k1.2<k2.2):=by unfold pQ;rw[if_pos y]
   try dsimp only at E
   rw[this]at E;exact E
  ·have y:¬k1.1=k2.1:=by simpa using J
   have:pQ k1 k2=decide (k1.1.cps.toList<k2.1.cps.toList):=by unfold pQ;rw[if_neg y]
   try dsimp only at E
   rw[this]at E;exact oneLt_str E
 ·have L:∀i∈p,i<g.length:=fun i hi=>List.mem_range.mp (F.subset hi);have pk:∀(l:List Nat),(∀i∈l,i<g.length)→Paired (t7 H) (l.map fun i=>vs.getD i V.non) (l.map fun i=>ks.getD i (Str.empty,0)):=fun l=>by
   induction l with
   |nil=>exact fun _=>.nil
   |cons i l ih=>
    intro N;obtain⟨b,o,t,t',n,y,ev,S,_⟩:=B i (N i (by simp));rw[aD,aD];refine .cons ⟨b,?_,S⟩ (ih fun j G=>N j (by simp[G]));rw[ba,ev];rfl
  have pv:∀(l:List Nat),(∀i∈l,i<g.length)→fH (l.map fun i=>vs.getD i V.non) (l.map fun i=>g.getD i Value.none):=fun l=>by
   induction l with
   |nil=>exact fun _=>.nil
   |cons i l ih=>
    intro N;have hi:=N i (by simp);obtain⟨b,o,t,t',n,y,ev,S,_⟩:=B i hi;rw[aD,aD];refine .cons ?_ (ih fun j G=>N j (by simp[G]));rw[ba,ev,gd i hi,y];exact rfl
  have al:p.length=g.length:=by rw[F.length_eq,List.length_range]
  have ad:=I.hok.fresh (dG s.heap.objs.size);obtain⟨e,J⟩:=sortedAll_at s.heap g (p.map fun i=>g.getD i Value.none).toArray;refine⟨.ref (s.heap.objs.size+1),upd H (s.heap.objs.size+1) (.lst (p.map fun i=>vs.getD i V.non)),I.laid (t':=s.toks) (fun b u q=>sortedAll_old q) (dG _) ⟨?_,_,e,pv p L,by rw[J]⟩,rfl,q _ _ _ ad (pk p L) (xg ?_) ?_⟩
  ·rw[ab,al,←l1];exact hz
  ·rw[show ks.length=g.length by lia];exact F
  ·rw[cA];exact Y
end L2
namespace FB
open PySem L2 PyProof.Rows
variable {F:List Fk}{L L':ic}{a b i m m' p spot:Nat}{es:List En}{j:Pk}{ls:List Ln}{s:Sd}{v:Int}{w:Option Pk}{x:Str}
structure dZ where
 es:List En
 sn:List Nd
 ks:List Pk
 mem:∀k,k∈ks↔k∈es.map eL
 nd:ks.Nodup
 pm:ks.Perm (es.map eL)
 ord:ks.Pairwise fun a b=>pQ a b=true
 srt:∀(i j:Nat) (a b:Pk),ks[i]?=some a→ks[j]?=some b→i<j→a.1=b.1→a.2<b.2
def dZ.n (c:dZ):Nat:=c.ks.length
def dZ.ix (c:dZ)(k:Pk):Nat:=c.ks.idxOf k
def dZ.has (c:dZ)(m:Nat)(k:Pk):Prop:=k∈c.ks∧m.testBit (c.ix k)=true
instance (c:dZ) (m:Nat) (k:Pk):Decidable (c.has m k):=inferInstanceAs (Decidable (_∧_))
def dZ.bit (c:dZ)(k:Pk):Nat:=2^c.ix k
def dZ.Jw (c:dZ):Option Pk→Nat
 |none=>0
 |some k=>c.bit k
def dZ.listed (c:dZ)(m:Nat):List Pk:=c.ks.filter fun k=>m.testBit (c.ix k)
def hZ (a b:Nat):Nat:=a ^^^ (a &&& b)
theorem dZ.Jx (c:dZ){k:Pk}(h:k∈c.ks):c.ix k<c.n:=br.mpr h
theorem dZ.Jy (c:dZ){k:Pk}(h:k∈c.ks):c.ks[c.ix k]?=some k:=by
 rw[am (c.Jx h)];exact congrArg some (cm (c.Jx h))
theorem dZ.Jz (c:dZ){k:Pk}(a:j∈c.ks)(b:k∈c.ks)(h:c.ix j=c.ix k):j=k:=by
 have h1:=c.Jy a;rw[h,c.Jy b]at h1;exact(Option.some.inj h1).symm
theorem dZ.JA (c:dZ){k:Pk}(h:c.ks[i]?=some k):c.ix k=i:=by
 have a:=aj h;have h1:=c.Jy a;have hi:=(af.mp h).1;have b:=c.Jx a;rw[am hi]at h;rw[am b]at h1;exact(List.getElem_inj c.nd).mp ((Option.some.inj h1).trans (Option.some.inj h).symm)
theorem dZ.JB {c:dZ}{k:Pk}:k∈c.listed m↔c.has m k:=by
 unfold dZ.listed dZ.has;rw[aV]
theorem dZ.JC {c:dZ}{k:Pk}:c.has (a ||| b) k↔c.has a k∨c.has b k:=by
 unfold dZ.has;rw[Nat.testBit_or,dm]
 constructor
 ·rintro⟨h,x | x⟩
  ·exact .inl ⟨h,x⟩
  ·exact .inr ⟨h,x⟩
 ·rintro(⟨h,x⟩ | ⟨h,x⟩)
  ·exact⟨h,.inl x⟩
  ·exact⟨h,.inr x⟩
theorem dZ.JD {c:dZ}{k:Pk}:c.has (a &&& b) k↔c.has a k∧c.has b k:=by
 unfold dZ.has;rw[Nat.testBit_and,aH]
 constructor
 ·rintro⟨h,x,y⟩;exact⟨⟨h,x⟩,⟨h,y⟩⟩
 ·rintro⟨⟨h,x⟩,⟨_,y⟩⟩;exact⟨h,x,y⟩
theorem mE (a b i:Nat):(hZ a b).testBit i=(a.testBit i&&!b.testBit i):=by
 unfold hZ;rw[Nat.testBit_xor,Nat.testBit_and];cases a.testBit i <;> cases b.testBit i <;> rfl
theorem dZ.JE {c:dZ}{k:Pk}:c.has (hZ a b) k↔c.has a k∧¬c.has b k:=by
 unfold dZ.has;rw[mE,aH,bJ]
 constructor
 ·rintro⟨h,x,y⟩;exact⟨⟨h,x⟩,fun z=>by rw[z.2]at y;cases y⟩
 ·rintro⟨⟨h,x⟩,y⟩;exact⟨h,x,bY.mpr fun z=>y ⟨h,z⟩⟩
theorem dZ.JF {c:dZ}{k:Pk}(a:j∈c.ks):c.has (c.bit j) k↔k=j:=by
 unfold dZ.has dZ.bit;rw[Nat.testBit_two_pow]
 constructor
 ·rintro⟨h,x⟩;exact c.Jz h a (bc x).symm
 ·rintro rfl;exact⟨a,ao rfl⟩
theorem dZ.JG {c:dZ}{k:Pk}:¬c.has 0 k:=fun h=>by
 have:=h.2;rw[Nat.zero_testBit]at this;cases this
theorem dZ.JH (c:dZ){k:Pk}(h:k∈c.ks):c.bit k<2^c.n:=Nat.pow_lt_pow_right (by decide) (c.Jx h)
theorem i4 {n:Nat}(ha:a<2^n)(hb:b<2^n):a ||| b<2^n:=Nat.or_lt_two_pow ha hb
theorem mx {n:Nat}(ha:a<2^n):a &&& b<2^n:=bz Nat.and_le_left ha
theorem jg {n:Nat}(ha:a<2^n):hZ a b<2^n:=Nat.xor_lt_two_pow ha (mx ha)
theorem dZ.ext {c:dZ}(j:a<2^c.n)(l:b<2^c.n)(h:∀k,c.has a k↔c.has b k):a=b:=by
 refine Nat.eq_of_testBit_eq fun i=>?_;by_cases hi:i<c.n
 ·have e:c.ks[i]?=some c.ks[i]:=am hi;have d:=aj e;have g:=c.JA e;have:=h c.ks[i];unfold dZ.has at this;rw[g]at this;rw[cN]
  constructor
  ·exact fun z=>(this.mp ⟨d,z⟩).2
  ·exact fun z=>(this.mpr ⟨d,z⟩).2
 ·have hp:2^c.n≤2^i:=Nat.pow_le_pow_right (by decide) (by lia);rw[Nat.testBit_lt_two_pow (by lia),Nat.testBit_lt_two_pow (by lia)]
theorem dZ.JI {c:dZ}(ha:a<2^c.n)(h:∀k,¬c.has a k):a=0:=dZ.ext ha (bE _) fun k=>⟨fun z=>(h k z).elim,fun z=>(dZ.JG z).elim⟩
theorem dZ.JJ {c:dZ}(d:a<2^c.n):c.listed a=[]↔a=0:=by
 constructor
 ·intro h;refine dZ.JI d fun k b=>?_;have:=dZ.JB.mpr b;rw[h]at this;cases this
 ·rintro rfl;unfold dZ.listed;simp
theorem dZ.JK (c:dZ)(m:Nat):(c.listed m).Nodup:=c.nd.sublist List.filter_sublist
def dZ.maskOf (c:dZ)(p:Pk→Bool):Nat:=(c.ks.filter p).foldl (fun m k=>m ||| c.bit k) 0
theorem dZ.JL {c:dZ}:∀(l:List Pk) (m:Nat),(∀k∈l,k∈c.ks)→∀k,c.has (l.foldl (fun m k=>m ||| c.bit k) m) k↔c.has m k∨k∈l
 |[],m,_,k=>by simp
 |x::l,m,h,k=>by
  rw[List.foldl_cons,dZ.JL l _ (fun y hy=>h y (by simp[hy])),dZ.JC,dZ.JF (h x (by simp)),ak,or_assoc]
theorem dZ.fold_lt {c:dZ}:∀(l:List Pk) (m:Nat),(∀k∈l,k∈c.ks)→m<2^c.n→l.foldl (fun m k=>m ||| c.bit k) m<2^c.n
 |[],m,_,hm=>hm
 |x::l,m,h,hm=>dZ.fold_lt l _ (fun y hy=>h y (by simp[hy])) (i4 hm (c.JH (h x (by simp))))
theorem dZ.JM {c:dZ}{p:Pk→Bool}{k:Pk}:c.has (c.maskOf p) k↔k∈c.ks∧p k=true:=by
 unfold dZ.maskOf;rw[dZ.JL _ _ fun y a=>(aV.mp a).1,aV];exact⟨fun z=>z.elim (fun y=>(dZ.JG y).elim) id,.inr⟩
theorem dZ.JN (c:dZ)(p:Pk→Bool):c.maskOf p<2^c.n:=dZ.fold_lt _ _ (fun y hy=>(aV.mp hy).1) (bE _)
def dZ.needs (c:dZ)(w:Option Pk):List Nd:=iy c.es c.sn w
def dZ.JO (c:dZ)(w:Option Pk)(k:Pk):Prop:=∃n∈c.needs w,pS n k=true
def dZ.foe (c:dZ)(j k:Pk):Prop:=c.JO (some j) k∨c.JO (some k) j
theorem dZ.JP {c:dZ}{k:Pk}(h:c.foe j k):c.foe k j:=h.elim .inr .inl
def dZ.JQ (c:dZ)(m:Nat):Option Pk→Prop
 |none=>True
 |some k=>c.has m k
abbrev ic:=List (Nat×Rs)
def dZ.ln (c:dZ)(e:Nat×Rs):Ln:=(c.listed e.1,e.2)
def dZ.lns (c:dZ)(L:ic):List Ln:=L.map c.ln
def dZ.JR (c:dZ)(m:Nat):Prop:=∀j k,c.has m j→c.has m k→j.1=k.1→j=k
structure gC (c:dZ)(L:ic):Prop where
 good:∀i e,L[i]?=some e→jU c.es c.sn (c.lns L) (i:Nat) (c.ln e)=true
 lt:∀e∈L,e.1<2^c.n
 one:∀e∈L,c.JR e.1
 nd:(L.map (·.1)).Nodup
theorem zE {α:Type}{xs ys:List α}{i:Int}(h:i<(xs.length:Int)):jx (xs++ys) i=jx xs i:=by
 unfold jx;by_cases h0:0≤i
 ·rw[if_pos h0,if_pos h0,aK (by lia)]
 ·rw[if_neg h0,if_neg h0]
theorem Aq {ys:List Ln}{ps:List Pk}{b:Int}(h:spot≤ls.length):ya (ls++ys) spot ps x b v=ya ls spot ps x b v:=by
 unfold ya;by_cases hb:b<(spot:Int)
 ·rw[zE (by lia)]
 ·rw[au hb,bT,bT]
theorem qj {sn:List Nd}{ys:List Ln}{l:Ln}(h:spot≤ls.length):jU es sn (ls++ys) spot l=jU es sn ls spot l:=by
 unfold jU;cases hn:jx (iy es sn l.2.who) l.2.place with
 |none=>rfl
 |some n=>
  dsimp only
  congr 1
  cases ht:l.2.told with
  |one k=>rfl
  |many bs=>
   show mN es (ls++ys) spot l.1 n bs=mN es ls spot l.1 n bs;unfold mN
   congr 1
   refine congrArg (fun f=>List.all _ f) (funext fun a=>?_);exact Aq h
theorem gC.nil (c:dZ):gC c []:=⟨(fun i e h=>by simp at h),(fun e h=>nomatch h),(fun e h=>nomatch h),bS⟩
theorem gC.add {c:dZ}(h:gC c L){r:Rs}(j:m<2^c.n)(l:c.JR m)(t:m∉L.map (·.1))(q:jU c.es c.sn (c.lns L) (L.length:Nat) (c.listed m,r)=true):gC c (L++[(m,r)]):=by
 have o:c.lns (L++[(m,r)])=c.lns L++[(c.listed m,r)]:=by unfold dZ.lns;rw[aw];rfl
 have v:(c.lns L).length=L.length:=ab _;refine⟨fun i e d=>?_,fun e d=>?_,fun e d=>?_,?_⟩
 ·rw[o];by_cases hi:i<L.length
  ·rw[aK hi]at d;rw[qj (by lia)];exact h.good i e d
  ·have g:i=L.length:=by
    have:=(af.mp d).1;rw[aE,aR]at this
    lia
   subst g;rw[aW (aq _),bK]at d;have:e=(m,r):=by simpa using d.symm
   subst this;rw[qj (by lia)];exact q
 ·rcases ay.mp d with y | y
  ·exact h.lt e y
  ·rw[ai.mp y];exact j
 ·rcases ay.mp d with y | y
  ·exact h.one e y
  ·rw[ai.mp y];exact l
 ·rw[aw,bQ];exact⟨h.nd,by simp,fun a p b s e=>t (by rw[show b=m by simpa using s]at e;exact e▸p)⟩
theorem yp {c:dZ}(h:c.JQ m w):EW c.es (c.listed m) w=true:=by
 cases w with
 |none=>rfl
 |some k=>
  have a:c.has m k:=h;show(decide (k∈c.listed m)&&decide (k∈c.es.map eL))=true;rw[ao (dZ.JB.mpr a),ao ((c.mem k).mp a.1)];rfl
theorem zk {c:dZ}{k:Pk}{n:Nd}(a:c.JQ m w)(d:c.has m k)(e:(c.needs w)[i]?=some n)(b:pS n k=true):jU c.es c.sn ls spot (c.listed m,⟨w,(i:Nat),.one k⟩)=true:=by
 unfold jU;rw[yp a];dsimp only;rw[iI,show(iy c.es c.sn w)[i]?=some n from e];show(decide (k∈c.listed m)&&pS n k)=true;rw[ao (dZ.JB.mpr d),b];rfl
theorem xi {c:dZ}{n:Nd}{bs:List Nat}(h:c.JQ m w)(t:(c.needs w)[i]?=some n)(o:bs.length=(jy c.es n).length)(r:∀(j b:Nat) (v:Int),bs[j]?=some b→(jy c.es n)[j]?=some v→∃e,L[b]?=some e∧∀x,c.has e.1 x→x=(n.1,v)∨c.has m x):jU c.es c.sn (c.lns L) (L.length:Nat) (c.listed m,⟨w,(i:Nat),.many (bs.map fun b:Nat=>(b:Int))⟩)=true:=by
 unfold jU;rw[yp h];dsimp only;rw[iI,show(iy c.es c.sn w)[i]?=some n from t];show mN c.es (c.lns L) (L.length:Nat) (c.listed m) n (bs.map fun b:Nat=>(b:Int))=true;unfold mN;rw[ab,ao o,cD,cZ];rintro⟨b,v⟩ d;obtain⟨j,z⟩:=az.mp d;obtain⟨h1,h2⟩:=List.getElem?_zip_eq_some.mp z;rw[ae]at h1;obtain⟨a,q,rfl⟩:=ax.mp h1;obtain⟨e,g,s⟩:=r j a v q h2;have l:a<L.length:=(af.mp g).1;unfold ya;dsimp only;rw[ao (by lia),ao (p:=((a:Nat):Int)<((L.length:Nat):Int)) (by lia),cD,cD,iI];have A:(c.lns L)[a]?=some (c.ln e):=by unfold dZ.lns;rw[ae,g];rfl
 rw[A];show((c.listed e.1).all fun p=>decide (p∈c.listed m)||decide (p=(n.1,v)))=true;rw[cZ];intro p hp;rcases s p (dZ.JB.mp hp) with y | y
 ·rw[ao y,Bool.or_true]
 ·rw[ao (dZ.JB.mpr y),Bool.true_or]
def dZ.JS (c:dZ)(L:ic)(m:Nat)(k:Pk):Prop:=∃e∈L,c.has e.1 k∧∀j,c.has e.1 j→j=k∨c.has m j
def dZ.JT (c:dZ)(L:ic)(m:Nat)(k:Pk):Prop:=c.JO none k∨c.foe k k∨(∃j,c.has m j∧c.foe k j)∨c.JS L m k
theorem dZ.JS.mono {c:dZ}{k:Pk}(h:c.JS L m k)(hL:∀e∈L,e∈L')(hm:∀j,c.has m j→c.has m' j):c.JS L' m' k:=
 (by obtain⟨e,he,h1,h2⟩:=h;exact⟨e,hL e he,h1,fun j hj=>(h2 j hj).imp id (hm j)⟩)
theorem dZ.JT.mono {c:dZ}{k:Pk}(h:c.JT L m k)(b:∀e∈L,e∈L')(a:∀j,c.has m j→c.has m' j):c.JT L' m' k:=by
 rcases h with h | h | ⟨j,h1,h2⟩ | h
 ·exact .inl h
 ·exact .inr (.inl h)
 ·exact .inr (.inr (.inl ⟨j,a j h1,h2⟩))
 ·exact .inr (.inr (.inr (dZ.JS.mono h b a)))
structure Sd where
 picked:Nat
 dead:Nat
 wanted:List (Str×Option Pk)
def eJ:List Nd→List Str
 |[]=>[]
 |n::ns=>n.1::(eJ ns).filter fun x=>!decide (x=n.1)
theorem gK {x:Str}:∀{ns:List Nd},x∈eJ ns↔∃n∈ns,n.1=x
 |[]=>by simp[eJ]
 |n::ns=>by
  rw[eJ,ak,aV,gK (ns:=ns)]
  constructor
  ·rintro(rfl | ⟨⟨m,hm,rfl⟩,_⟩)
   ·exact⟨n,by simp,rfl⟩
   ·exact⟨m,by simp[hm],rfl⟩
  ·rintro⟨m,hm,rfl⟩;by_cases h:m.1=n.1
   ·exact .inl h
   ·rcases ak.mp hm with rfl | hm
    ·exact absurd rfl h
    ·exact .inr ⟨⟨m,hm,rfl⟩,by simpa using h⟩
theorem iZ:∀ns:List Nd,(eJ ns).Nodup
 |[]=>bS
 |n::ns=>by
  rw[eJ,aU];exact⟨fun h=>by simpa using (aV.mp h).2,(iZ ns).sublist List.filter_sublist⟩
def dZ.start (c:dZ):List Str:=eJ c.sn
def dZ.isP (c:dZ)(m:Nat)(x:Str):Prop:=∃j,c.has m j∧j.1=x
inductive dZ.Named (c:dZ)(m:Nat):Pk→Prop
 |start {k:Pk}:c.has m k→k.1∈(c.needs none).map (·.1)→c.Named m k
 |next {j k:Pk}:c.Named m j→c.has m k→k.1∈(c.needs (some j)).map (·.1)→c.Named m k
structure iz (c:dZ)(L:ic)(s:Sd):Prop where
 pl:s.picked<2^c.n
 dl:s.dead<2^c.n
 just:∀k,c.has s.dead k→c.JT L s.picked k
 sup:∀k∈c.ks,(c.JO none k∨c.foe k k∨∃j,c.has s.picked j∧c.foe k j)→c.has s.dead k
 off:∀k,c.has s.dead k→¬c.has s.picked k
 one:c.JR s.picked
 named:∀k,c.has s.picked k→c.Named s.picked k
 wk:(s.wanted.map (·.1)).Nodup
 w1:∀x w,(x,w)∈s.wanted→¬c.isP s.picked x∧c.JQ s.picked w∧x∈(c.needs w).map (·.1)
 w2:∀w,c.JQ s.picked w→∀n∈c.needs w,c.isP s.picked n.1∨n.1∈s.wanted.map (·.1)
 ws:∀(i j:Nat) (x y:Str),(s.wanted.map (·.1))[i]?=some x→(s.wanted.map (·.1))[j]?=some y→y∈c.start→i<j→x∈c.start∧c.start.idxOf x<c.start.idxOf y
theorem iz.led {c:dZ}(h:iz c L s)(hL:∀e∈L,e∈L'):iz c L' s:=⟨h.pl,h.dl,fun k hk=>dZ.JT.mono (h.just k hk) hL fun _ z=>z,h.sup,h.off,h.one,h.named,h.wk,h.w1,h.w2,h.ws⟩
theorem iz.bar {c:dZ}(h:iz c L s){k:Pk}(b:k∈c.ks)(g:¬c.has s.picked k)(d:c.JS L s.picked k):iz c L {s with dead:=s.dead ||| c.bit k}:=by
 refine⟨h.pl,i4 h.dl (c.JH b),fun j a=>?_,fun j a e=>dZ.JC.mpr (.inl (h.sup j a e)),fun j a=>?_,h.one,h.named,h.wk,h.w1,h.w2,h.ws⟩
 ·rcases dZ.JC.mp a with y | y
  ·exact h.just j y
  ·rw[(dZ.JF b).mp y];exact .inr (.inr (.inr d))
 ·rcases dZ.JC.mp a with y | y
  ·exact h.off j y
  ·rw[(dZ.JF b).mp y];exact g
structure Fk where
 part:Str
 sd:Sd
 bit:Option Pk
def dZ.Rule (c:dZ)(x:Str)(s:Sd):Prop:=
 (x∈c.start∧∀y∈c.start,c.start.idxOf y<c.start.idxOf x→c.isP s.picked y)∨(∀j j',j∈c.ks→j'∈c.ks→j.1=x→j'.1=x→¬c.has s.dead j→¬c.has s.dead j'→j=j')∨∀y∈c.start,c.isP s.picked y
structure jL (c:dZ)(f:Fk):Prop where
 open_:f.part∈f.sd.wanted.map (·.1)
 rule:c.Rule f.part f.sd
 bit:∀k,f.bit=some k→k∈c.ks∧k.1=f.part∧∀j∈c.ks,j.1=f.part→k.2<j.2→c.has f.sd.dead j
def dZ.JU (c:dZ)(f:Fk)(s:Sd):Prop:=∃k,f.bit=some k∧s.picked=f.sd.picked ||| c.bit k∧∀j,c.has f.sd.dead j→c.has s.dead j
inductive fz (c:dZ)(L:ic):List Fk→Sd→Prop
 |nil {s:Sd}:s.picked=0→iz c L s→fz c L [] s
 |cons {f:Fk} {F:List Fk} {s:Sd}:fz c L F f.sd→jL c f→c.JU f s→iz c L s→fz c L (f::F) s
theorem fz.sd {c:dZ}(h:fz c L F s):iz c L s:=by
 cases h with
 |nil _ h=>exact h
 |cons _ _ _ h=>exact h
theorem fz.led {c:dZ}(a:∀e∈L,e∈L')(h:fz c L F s):fz c L' F s:=by
 induction h with
 |nil h1 h2=>exact .nil h1 (h2.led a)
 |cons _ h2 h3 h4 ih=>exact .cons ih h2 h3 (h4.led a)
theorem jL.out {c:dZ}{f:Fk}(h:jL c f)(a:iz c L f.sd):¬c.isP f.sd.picked f.part:=by
 obtain⟨⟨x,w⟩,b,e⟩:=av.mp h.open_;have:=(a.w1 x w b).1;rw[show f.part=x from e.symm];exact this
theorem jL.JV {c:dZ}{f:Fk}{k:Pk}(h:jL c f)(hs:iz c L f.sd)(hk:f.bit=some k):¬c.has f.sd.picked k:=fun z=>h.out hs ⟨k,z,(h.bit k hk).2.1⟩
theorem fz.sub {c:dZ}(h:fz c L F s):∀g∈F,(∀j,c.has g.sd.picked j→c.has s.picked j)∧(∀j,c.has g.sd.dead j→c.has s.dead j)∧∀k,g.bit=some k→c.has s.picked k:=by
 induction h with
 |nil _ _=>intro g hg;cases hg
 |@cons f F s h1 h2 h3 h4 ih=>
  obtain⟨k,i,hp,e⟩:=h3;intro g hg;have d:=(h2.bit k i).1;rcases ak.mp hg with rfl | hg
  ·refine⟨fun j b=>by rw[hp];exact dZ.JC.mpr (.inl b),e,fun l a=>?_⟩;rw[i]at a;cases a;rw[hp];exact dZ.JC.mpr (.inr ((dZ.JF d).mpr rfl))
  ·obtain⟨m,p,o⟩:=ih g hg;refine⟨fun j b=>by rw[hp];exact dZ.JC.mpr (.inl (m j b)),fun j b=>e j (p j b),fun l a=>by rw[hp];exact dZ.JC.mpr (.inl (o l a))⟩
theorem fz.from {c:dZ}(h:fz c L F s):∀j,c.has s.picked j→∃g∈F,g.bit=some j:=by
 induction h with
 |nil h1 _=>intro j a;rw[h1]at a;exact(dZ.JG a).elim
 |@cons f F s h1 h2 h3 h4 ih=>
  obtain⟨k,d,hp,i⟩:=h3;intro j a;rw[hp]at a;rcases dZ.JC.mp a with y | y
  ·obtain⟨g,e,b⟩:=ih j y;exact⟨g,by simp[e],b⟩
  ·rw[(dZ.JF (h2.bit k d).1).mp y];exact⟨f,by simp,d⟩
theorem fz.live {c:dZ}(h:fz c L F s):∀g∈F,∀k,g.bit=some k→¬c.has g.sd.dead k:=fun g hg k hk z=>by
 obtain⟨_,h2,h3⟩:=h.sub g hg;exact h.sd.off k (h2 k z) (h3 k hk)
theorem fz.to {c:dZ}(h:fz c L F s):∀{A:List Fk} {g:Fk} {B:List Fk},F=A++g::B→fz c L B g.sd∧jL c g:=by
 induction h with
 |nil _ _=>intro A g B e;simp at e
 |@cons f F s h1 h2 h3 h4 ih=>
  intro A g B e;cases A with
  |nil=>
   rw[dH]at e;cases e;exact⟨h1,h2⟩
  |cons a A=>
   rw[cY]at e;injection e with d b
   exact ih b
def dZ.JW (c:dZ)(k:Pk)(m:Nat)(s:Sd):Sd:=if hZ (hZ m (c.bit k)) s.picked=0 then {s with dead:=s.dead ||| c.bit k} else s
def dZ.JX (c:dZ)(k:Pk)(m:Nat)(f:Fk):Fk:={f with sd:=c.JW k m f.sd}
theorem dZ.JY (c:dZ)(k:Pk)(m:Nat)(s:Sd):(c.JW k m s).picked=s.picked:=by unfold dZ.JW;split <;> rfl
theorem dZ.JZ (c:dZ)(k:Pk)(m:Nat)(s:Sd):(c.JW k m s).wanted=s.wanted:=by unfold dZ.JW;split <;> rfl
theorem dZ.J0 {c:dZ}{k:Pk}(h:c.has s.dead j):c.has (c.JW k m s).dead j:=by
 unfold dZ.JW
 split
 ·exact dZ.JC.mpr (.inl h)
 ·exact h
theorem dZ.J1 {c:dZ}{k:Pk}(a:k∈c.ks)(h:c.has (c.JW k m s).dead j):c.has s.dead j∨j=k:=by
 unfold dZ.JW at h
 split at h
 ·exact(dZ.JC.mp h).imp id (dZ.JF a).mp
 ·exact .inl h
theorem dZ.J2 {c:dZ}{k:Pk}(b:k∈c.ks)(d:m<2^c.n):hZ (hZ m (c.bit k)) s.picked=0↔∀j,c.has m j→j=k∨c.has s.picked j:=by
 constructor
 ·intro h j a;by_cases e:j=k
  ·exact .inl e
  ·refine .inr (Decidable.byContradiction fun z=>?_);have:c.has (hZ (hZ m (c.bit k)) s.picked) j:=dZ.JE.mpr ⟨dZ.JE.mpr ⟨a,fun y=>e ((dZ.JF b).mp y)⟩,z⟩;rw[h]at this;exact dZ.JG this
 ·intro h;refine dZ.JI (jg (jg d)) fun j a=>?_;obtain⟨h1,h2⟩:=dZ.JE.mp a;obtain⟨i,g⟩:=dZ.JE.mp h1;rcases h j i with y | y
  ·exact g ((dZ.JF b).mpr y)
  ·exact h2 y
theorem iz.JW {c:dZ}(h:iz c L s){k:Pk}{e:Nat×Rs}(b:k∈c.ks)(g:e∈L)(d:e.1<2^c.n)(a:c.has e.1 k)(i:¬c.has s.picked k):iz c L (c.JW k e.1 s):=by
 unfold dZ.JW
 split
 ·next z=>exact h.bar b i ⟨e,g,a,(dZ.J2 b d).mp z⟩
 ·exact h
theorem Rule.JW {c:dZ}{k:Pk}(h:c.Rule x s):c.Rule x (c.JW k m s):=by
 unfold dZ.Rule at *;rw[dZ.JY];rcases h with h | h | h
 ·exact .inl h
 ·exact .inr (.inl fun j j' b d e a g i=>h j j' b d e a (fun z=>g (dZ.J0 z)) fun z=>i (dZ.J0 z))
 ·exact .inr (.inr h)
theorem jL.JX {c:dZ}{f:Fk}{k:Pk}(h:jL c f):jL c (c.JX k m f):=by
 refine⟨?_,Rule.JW h.rule,fun j a=>?_⟩
 ·show f.part∈(c.JW k m f.sd).wanted.map (·.1);rw[dZ.JZ];exact h.open_
 ·obtain⟨h1,h2,e⟩:=h.bit j a;exact⟨h1,h2,fun i b d g=>dZ.J0 (e i b d g)⟩
theorem fz.JX {c:dZ}(h:fz c L F s){k:Pk}{e:Nat×Rs}(b:k∈c.ks)(t:e∈L)(l:e.1<2^c.n)(d:c.has e.1 k):¬c.has s.picked k→fz c L (F.map (c.JX k e.1)) (c.JW k e.1 s):=by
 induction h with
 |@nil s h1 h2=>exact fun g=>.nil (by rw[dZ.JY];exact h1) (h2.JW b t l d g)
 |@cons f F s h1 h2 h3 h4 ih=>
  intro g;obtain⟨x,q,hp,v⟩:=h3;have m:¬c.has f.sd.picked k:=fun z=>g (by rw[hp];exact dZ.JC.mpr (.inl z));refine .cons (ih m) h2.JX ⟨x,q,?_,fun j r=>?_⟩ (h4.JW b t l d g)
  ·rw[dZ.JY,hp];show _=(c.JW k e.1 f.sd).picked ||| _;rw[dZ.JY]
  ·by_cases hj2:c.has f.sd.dead j
   ·exact dZ.J0 (v j hj2)
   ·have w:hZ (hZ e.1 (c.bit k)) f.sd.picked=0:=Decidable.byContradiction fun z=>by
     have a:c.has (c.JW k e.1 f.sd).dead j:=r;unfold dZ.JW at a;rw[if_neg z]at a;exact hj2 a
    have o:j=k:=(dZ.J1 b r).elim (fun z=>absurd z hj2) id;have p:hZ (hZ e.1 (c.bit k)) s.picked=0:=(dZ.J2 b l).mpr fun i hi=>((dZ.J2 b l).mp w i hi).imp id fun z=>by rw[hp];exact dZ.JC.mpr (.inl z)
    unfold dZ.JW;rw[if_pos p,o];exact dZ.JC.mpr (.inr ((dZ.JF b).mpr rfl))
def dZ.left (c:dZ)(x:Str)(s:Sd):List Pk:=c.ks.filter fun k=>decide (k.1=x)&&!decide (c.has s.dead k)
theorem dZ.J3 {c:dZ}{k:Pk}:k∈c.left x s↔k∈c.ks∧k.1=x∧¬c.has s.dead k:=by
 unfold dZ.left;rw[aV,aH,aA,bJ,decide_eq_false_iff_not]
def dZ.cnt (c:dZ)(f:Fk):Nat:=(c.left f.part f.sd).length
theorem dZ.J4 (c:dZ)(f:Fk):c.cnt f≤c.n:=bt _ _
def dZ.mv (c:dZ):Nat→List Fk→Nat
 |0,_=>0
 |d+1,[]=>(c.n+1)*(c.n+2)^d+c.mv d []
 |d+1,f::F=>c.cnt f*(c.n+2)^d+c.mv d F
theorem dZ.J5 (c:dZ):∀(d:Nat) (F:List Fk),c.mv d F<(c.n+2)^d
 |0,_=>by unfold dZ.mv;exact Nat.one_pos
 |d+1,[]=>by
  have:=dZ.J5 c d [];unfold dZ.mv;rw[cJ,Nat.mul_comm ((c.n+2)^d),show c.n+2=(c.n+1)+1 from rfl,Nat.add_mul ((c.n+1))];rw[show c.n+1+1=c.n+2 from rfl]
  lia
 |d+1,f::F=>by
  have h1:=dZ.J5 c d F;have h2:=c.J4 f;have h3:c.cnt f*(c.n+2)^d≤(c.n+1)*(c.n+2)^d:=dE _ (by lia);unfold dZ.mv;rw[cJ,Nat.mul_comm ((c.n+2)^d),show c.n+2=(c.n+1)+1 from rfl,Nat.add_mul ((c.n+1))];rw[show c.n+1+1=c.n+2 from rfl]
  lia
theorem dZ.J6 (c:dZ)(g:Fk):∀(d:Nat) (F:List Fk),F.length<d→c.mv d (F++[g])<c.mv d F
 |0,_,h=>absurd h (bZ _)
 |d+1,[],_=>by
  have h2:=c.J4 g;have h3:c.cnt g*(c.n+2)^d+(c.n+2)^d≤(c.n+1)*(c.n+2)^d:=by
   rw[←Nat.succ_mul];exact dE _ (by lia)
  have b:0<(c.n+2)^d:=Nat.pow_pos (by lia);show c.cnt g*(c.n+2)^d+c.mv d []<(c.n+1)*(c.n+2)^d+c.mv d []
  lia
 |d+1,f::F,h=>by
  have a:=dZ.J6 c g d F (by rw[aB]at h;lia);show c.cnt f*(c.n+2)^d+c.mv d (F++[g])<c.cnt f*(c.n+2)^d+c.mv d F
  lia
theorem dZ.J7 (c:dZ){f g:Fk}{B:List Fk}(b:c.cnt g<c.cnt f):∀(d:Nat) (A A':List Fk),A'.length=A.length→(∀(i:Nat) (a a':Fk),A[i]?=some a→A'[i]?=some a'→c.cnt a'≤c.cnt a)→A.length<d→c.mv d (A'++[g])<c.mv d (A++f::B)
 |0,_,_,_,_,h=>absurd h (bZ _)
 |d+1,[],A',h1,_,_=>by
  have:A'=[]:=bH.mp h1;subst this;have h2:=dZ.J5 c d [];have h3:c.cnt g*(c.n+2)^d+(c.n+2)^d≤c.cnt f*(c.n+2)^d:=by
   rw[←Nat.succ_mul];exact dE _ b
  show c.cnt g*(c.n+2)^d+c.mv d []<c.cnt f*(c.n+2)^d+c.mv d B
  lia
 |d+1,a::A,A',h1,h2,h3=>by
  cases A' with
  |nil=>simp at h1
  |cons a' A'=>
   have m:=dZ.J7 c b (B:=B) d A A' (by simpa using h1) (fun i x l e j=>h2 (i+1) x l (by simpa using e) (by simpa using j)) (by rw[aB]at h3;lia);have o:=dE ((c.n+2)^d) (h2 0 a a' rfl rfl);show c.cnt a'*(c.n+2)^d+c.mv d (A'++[g])<c.cnt a*(c.n+2)^d+c.mv d (A++f::B)
   lia
theorem Ew (k j:Str×Int):PyData.eqv (sO k) (sO j)=decide (k=j):=by
 obtain⟨a,b⟩:=k;obtain⟨c,d⟩:=j;have e:PyData.eqv (sO (a,b)) (sO (c,d))=((a == c)&&((b == d)&&true)):=by
  simp[sO,PyData.eqv,PyData.eqvAll]
 rw[e,Bool.and_true];by_cases h1:a=c
 ·subst h1;by_cases h2:b=d
  ·subst h2;rw[ao rfl];simp
  ·rw[au (fun z=>h2 (Prod.mk.inj z).2)];simp[h2]
 ·rw[au (fun z=>h1 (Prod.mk.inj z).1)];have g:(a == c)=false:=beq_false_of_ne h1;rw[g,bT]
theorem vt (k:Str×Int):∀ks:List (Str×Int),((ks.map sO).any fun z=>PyData.eqv z (sO k))=decide (k∈ks)
 |[]=>by simp
 |j::ks=>by
  rw[aD,List.any_cons,Ew,vt k ks];by_cases h:j=k
  ·subst h;simp
  ·rw[au h,Bool.false_or];have:(k∈j::ks)↔k∈ks:=by
    rw[ak];exact⟨fun z=>z.resolve_left fun y=>h y.symm,.inr⟩
   simp only[this]
theorem oN {k:Str×Int}(h:ij k.1):(sO k).canLay0=true∧(sO k).depth≤60:=by
 have z:=vS 1 (sO k) (by simp[sO,ug,h.ok]);exact⟨z.1,by lia⟩
theorem rG:∀{ks:List (Str×Int)},(∀k∈ks,ij k.1)→PyData.canLayAll0 (ks.map sO)=true
 |[],_=>rfl
 |k::ks,h=>by
  rw[aD,PyData.canLayAll0,(oN (h k (by simp))).1,rG fun j hj=>h j (by simp[hj])];rfl
theorem jX {α:Type} [DecidableEq α]:∀{l m:List α},l.Nodup→(∀x∈l,x∈m)→l.length≤m.length
 |[],_,_,_=>bp _
 |x::l,m,hn,hs=>by
  rw[aU]at hn;have hx:x∈m:=hs x (by simp);have ih:l.length≤(m.erase x).length:=jX hn.2 fun y hy=>by
   refine(List.mem_erase_of_ne ?_).mpr (hs y (by simp[hy]));intro e;subst e;exact hn.1 hy
  have:=List.length_erase_of_mem hx;have:=List.length_pos_of_mem hx;rw[aB]
  lia
theorem fz.bits {c:dZ}(h:fz c L F s):∃ps:List Pk,ps.length=F.length∧ps.Nodup∧∀k∈ps,c.has s.picked k:=by
 induction h with
 |nil _ _=>exact⟨[],rfl,bS,fun k a=>nomatch a⟩
 |@cons f F s h1 h2 h3 h4 ih=>
  obtain⟨k,a,hp,g⟩:=h3;obtain⟨ps,d,e,b⟩:=ih;refine⟨k::ps,by rw[aB,aB,d],aU.mpr ⟨fun z=>h2.JV h1.sd a (b k z),e⟩,fun j hj=>?_⟩;rw[hp];rcases ak.mp hj with rfl | hj
  ·exact dZ.JC.mpr (.inr ((dZ.JF (h2.bit j a).1).mpr rfl))
  ·exact dZ.JC.mpr (.inl (b j hj))
theorem fz.depth {c:dZ}(h:fz c L F s):F.length≤c.n:=by
 obtain⟨ps,b,e,d⟩:=h.bits;rw[←b];exact jX e fun k a=>(d k a).1
def dZ.J8 (c:dZ)(wanted:List (Str×Option Pk))(w:Option Pk)(pm:Nat)(g:List (Str×Option Pk)):Prop:=
 ∃E:List Str,g.map (·.1)=wanted.map (·.1)++E∧E.Sublist (eJ (c.needs w))∧(∀x∈E,¬c.isP pm x∧x∉wanted.map (·.1))∧(∀x∈eJ (c.needs w),c.isP pm x∨x∈wanted.map (·.1)∨x∈E)∧
  ∀x u,(x,u)∈g→(x,u)∈wanted∨(u=w∧x∈eJ (c.needs w)∧¬c.isP pm x)
theorem iT {ns:List Nd}:x∈eJ ns↔x∈ns.map (·.1):=by
 rw[gK,av]
theorem rW {α:Type} [DecidableEq α] {a b:α}{l:List α}(h:¬a=b):(a::l).idxOf b=l.idxOf b+1:=by
 rw[List.idxOf_cons];have:(a == b)=false:=by simpa using h
 rw[this];rfl
theorem rV {α:Type} [DecidableEq α]:∀{E P:List α},P.Nodup→E.Sublist P→∀(i j:Nat) (x y:α),E[i]?=some x→E[j]?=some y→i<j→P.idxOf x<P.idxOf y
 |_,_,_,.slnil,i,j,x,y,hx,_,_=>by simp at hx
 |E,p::P,hn,.cons _ h,i,j,x,y,hx,hy,hij=>by
  rw[aU]at hn;have hxp:¬p=x:=fun e=>hn.1 (e▸h.subset (aj hx));have hyp:¬p=y:=fun e=>hn.1 (e▸h.subset (aj hy));rw[rW hxp,rW hyp];exact Nat.succ_lt_succ (rV hn.2 h i j x y hx hy hij)
 |e::E,_::P,hn,.cons₂ _ h,i,j,x,y,hx,hy,hij=>by
  rw[aU]at hn;cases j with
  |zero=>exact absurd hij (bZ _)
  |succ j=>
   have hy':E[j]?=some y:=by simpa using hy
   have hyp:¬e=y:=fun z=>hn.1 (z▸h.subset (aj hy'));rw[rW hyp];cases i with
   |zero=>
    have:e=x:=by simpa using hx
    subst this;rw[cw]
    lia
   |succ i=>
    have a:E[i]?=some x:=by simpa using hx
    have hxp:¬e=x:=fun z=>hn.1 (z▸h.subset (aj a));rw[rW hxp];exact Nat.succ_lt_succ (rV hn.2 h i j x y a hy' (by lia))
theorem uK {c:dZ}{d:Nat}{g:List (Str×Option Pk)}(t:d<2^c.n)(m:∀k,c.has d k↔k∈c.ks∧(c.JO none k∨c.foe k k))(F:c.J8 [] none 0 g):iz c L ⟨0,d,g⟩:=by
 obtain⟨E,h,l,I,G,A⟩:=F;rw[cM,dH]at h;have a:∀k,¬c.has 0 k:=fun k=>dZ.JG;have e:∀x,¬c.isP 0 x:=(by rintro x ⟨j,m,_⟩;exact a j m)
 have s:∀x,x∈E↔x∈eJ (c.needs none):=fun x=>⟨fun z=>l.subset z,fun z=>by
  rcases G x z with y | y | y
  ·exact(e x y).elim
  ·cases y
  ·exact y⟩
 refine⟨bE _,t,fun k r=>?_,fun k r C=>(m k).mpr ⟨r,?_⟩,fun k _=>a k,fun j k z=>(a j z).elim,fun k z=>(a k z).elim,?_,fun x w q=>?_,fun w v n D=>?_,fun i j x y q B H p=>?_⟩
 ·rcases ((m k).mp r).2 with y | y
  ·exact .inl y
  ·exact .inr (.inl y)
 ·rcases C with y | y | ⟨j,y,_⟩
  ·exact .inl y
  ·exact .inr y
  ·exact(a j y).elim
 ·show(g.map (·.1)).Nodup;rw[h];exact(iZ _).sublist l
 ·rcases A x w q with y | ⟨rfl,y,_⟩
  ·cases y
  ·exact⟨e x,trivial,iT.mp y⟩
 ·cases w with
  |some k=>exact(a k v).elim
  |none=>
   right
   show n.1∈g.map (·.1);rw[h,s];exact gK.mpr ⟨n,D,rfl⟩
 ·have b:E[i]?=some x:=by rw[←h];exact q
  have o:E[j]?=some y:=by rw[←h];exact B
  exact⟨l.subset (aj b),rV (iZ _) l i j x y b o p⟩
theorem Named.mono {c:dZ}(a:∀j,c.has m j→c.has m' j){k:Pk}(h:c.Named m k):c.Named m' k:=by
 induction h with
 |start h1 h2=>exact .start (a _ h1) h2
 |next _ h2 h3 ih=>exact .next ih (a _ h2) h3
theorem jQ {α:Type}{p:α→Bool}:∀{xs:List α} {i j:Nat} {x y:α},(xs.filter p)[i]?=some x→(xs.filter p)[j]?=some y→i<j→∃i' j':Nat,xs[i']?=some x∧xs[j']?=some y∧i'<j'
 |[],i,j,x,y,hx,_,_=>by simp at hx
 |a::xs,i,j,x,y,hx,hy,hij=>by
  by_cases ha:p a=true
  ·rw[aG,if_pos ha]at hx hy;cases j with
   |zero=>exact absurd hij (bZ _)
   |succ j=>
    have hy':(xs.filter p)[j]?=some y:=by simpa using hy
    cases i with
    |zero=>
     have e:a=x:=by simpa using hx
     obtain⟨j',d⟩:=az.mp (aV.mp (aj hy')).1;exact⟨0,j'+1,by simpa using e,by simpa using d,by lia⟩
    |succ i=>
     have b:(xs.filter p)[i]?=some x:=by simpa using hx
     obtain⟨i',j',h1,h2,g⟩:=jQ b hy' (by lia);exact⟨i'+1,j'+1,by simpa using h1,by simpa using h2,by lia⟩
  ·rw[aG,if_neg ha]at hx hy;obtain⟨i',j',h1,h2,g⟩:=jQ hx hy hij;exact⟨i'+1,j'+1,by simpa using h1,by simpa using h2,by lia⟩
theorem yC {c:dZ}{f:Fk}{k:Pk}{d:Nat}{g:List (Str×Option Pk)}(o:iz c L f.sd)(hf:jL c f)(O:k∈c.ks)(p:k.1=f.part)(B:¬c.has f.sd.dead k)(hd:d<2^c.n)(C:∀j,c.has f.sd.dead j→c.has d j)(aa:∀j∈c.ks,c.foe k j→c.has d j)(G:∀j,c.has d j→c.has f.sd.dead j∨c.foe k j∨(c.JS L (f.sd.picked ||| c.bit k) j∧¬c.has (f.sd.picked ||| c.bit k) j))(hg:c.J8 f.sd.wanted (some k) (f.sd.picked ||| c.bit k) g):iz c L ⟨f.sd.picked ||| c.bit k,d,g.filter fun xu=>!decide (xu.1=f.part)⟩:=by
 obtain⟨E,M,e2,e3,e4,e5⟩:=hg;have s:=hf.out o;have h:∀j,c.has (f.sd.picked ||| c.bit k) j↔c.has f.sd.picked j∨j=k:=fun j=>by rw[dZ.JC,dZ.JF O]
 have ah:¬c.has f.sd.picked k:=fun z=>s ⟨k,z,p⟩;have T:∀j,c.has f.sd.picked j→¬c.foe k j:=fun j l z=>B (o.sup k O (.inr (.inr ⟨j,l,z⟩)));have U:¬c.foe k k:=fun z=>B (o.sup k O (.inr (.inl z)));have v:∀x,c.isP (f.sd.picked ||| c.bit k) x↔c.isP f.sd.picked x∨x=f.part:=fun x=>by
  constructor
  ·rintro⟨j,l,rfl⟩;rcases (h j).mp l with y | rfl
   ·exact .inl ⟨j,y,rfl⟩
   ·exact .inr p
  ·rintro(⟨j,l,rfl⟩ | rfl)
   ·exact⟨j,(h j).mpr (.inl l),rfl⟩
   ·exact⟨k,(h k).mpr (.inr rfl),p⟩
 have t:(g.filter fun xu=>!decide (xu.1=f.part)).map (·.1)=(g.map (·.1)).filter fun x=>!decide (x=f.part):=by rw[List.filter_map];rfl
 refine⟨i4 o.pl (c.JH O),hd,fun j l=>?_,fun j l ad=>?_,fun j l z=>?_,fun i j hi l e=>?_,fun j l=>?_,?_,fun x w K=>?_,fun w hw m hm=>?_,fun i j x y K hy H S=>?_⟩
 ·rcases G j l with y | y | ⟨y,_⟩
  ·exact dZ.JT.mono (o.just j y) (fun _ z=>z) fun i hi=>(h i).mpr (.inl hi)
  ·exact .inr (.inr (.inl ⟨k,(h k).mpr (.inr rfl),dZ.JP y⟩))
  ·exact .inr (.inr (.inr y))
 ·rcases ad with y | y | ⟨i,hi,y⟩
  ·exact C j (o.sup j l (.inl y))
  ·exact C j (o.sup j l (.inr (.inl y)))
  ·rcases (h i).mp hi with z | rfl
   ·exact C j (o.sup j l (.inr (.inr ⟨i,z,y⟩)))
   ·exact aa j l (dZ.JP y)
 ·rcases G j l with y | y | ⟨_,y⟩
  ·rcases (h j).mp z with u | rfl
   ·exact o.off j y u
   ·exact B y
  ·rcases (h j).mp z with u | rfl
   ·exact T j u y
   ·exact U y
  ·exact y z
 ·rcases (h i).mp hi with y | rfl
  ·rcases (h j).mp l with z | rfl
   ·exact o.one i j y z e
   ·exact(s ⟨i,y,by rw[e,p]⟩).elim
  ·rcases (h j).mp l with z | rfl
   ·exact(s ⟨j,z,by rw[←e,p]⟩).elim
   ·rfl
 ·have A:∀i,c.has f.sd.picked i→c.has (f.sd.picked ||| c.bit k) i:=fun i hi=>(h i).mpr (.inl hi);rcases (h j).mp l with y | rfl
  ·exact Named.mono A (o.named j y)
  ·obtain⟨⟨x,w⟩,K,ex⟩:=av.mp hf.open_;obtain⟨_,h2,J⟩:=o.w1 x w K;have ex':x=f.part:=ex;rw[ex',←p]at J;cases w with
   |none=>exact .start l J
   |some q=>exact .next (Named.mono A (o.named q h2)) l J
 ·show((g.filter fun xu=>!decide (xu.1=f.part)).map (·.1)).Nodup;rw[t,M];refine List.Nodup.sublist List.filter_sublist (bQ.mpr ⟨o.wk,(iZ _).sublist e2,fun a ha b hb e=>?_⟩);exact(e3 b hb).2 (e▸ha)
 ·obtain⟨Z,Q⟩:=aV.mp K;have D:¬x=f.part:=by simpa using Q
  rcases e5 x w Z with y | ⟨rfl,y,z⟩
  ·obtain⟨h1,h2,J⟩:=o.w1 x w y;refine⟨fun z=>?_,?_,J⟩
   ·rcases (v x).mp z with u | u
    ·exact h1 u
    ·exact D u
   ·cases w with
    |none=>trivial
    |some q=>exact(h q).mpr (.inl h2)
  ·exact⟨z,(h k).mpr (.inr rfl),iT.mp y⟩
 ·show c.isP (f.sd.picked ||| c.bit k) m.1∨m.1∈(g.filter fun xu=>!decide (xu.1=f.part)).map (·.1);by_cases hmp:m.1=f.part
  ·exact .inl ((v m.1).mpr (.inr hmp))
  ·have r:m.1∈g.map (·.1)→m.1∈(g.filter fun xu=>!decide (xu.1=f.part)).map (·.1):=fun z=>by
    rw[t];exact aV.mpr ⟨z,by simpa using hmp⟩
   have old:c.JQ f.sd.picked w→c.isP (f.sd.picked ||| c.bit k) m.1∨m.1∈(g.filter fun xu=>!decide (xu.1=f.part)).map (·.1):=fun R=>by
    rcases o.w2 w R m hm with y | y
    ·exact .inl ((v m.1).mpr (.inl y))
    ·exact .inr (r (by rw[M];exact aJ _ y))
   cases w with
   |none=>exact old trivial
   |some q=>
    rcases (h q).mp hw with y | rfl
    ·exact old y
    ·rcases e4 m.1 (gK.mpr ⟨m,hm,rfl⟩) with y | y | y
     ·exact .inl y
     ·exact .inr (r (by rw[M];exact aJ _ y))
     ·exact .inr (r (by rw[M];exact aI _ y))
 ·have P:((g.map (·.1)).filter fun x=>!decide (x=f.part))[i]?=some x:=by rw[←t];exact K
  have ag:((g.map (·.1)).filter fun x=>!decide (x=f.part))[j]?=some y:=by rw[←t];exact hy
  obtain⟨i',j',a1,N,a3⟩:=jQ P ag S;rw[M]at a1 N;have X:j'<(f.sd.wanted.map (·.1)).length:=Nat.lt_of_not_le fun z=>by
   rw[aW z]at N;have Y:=aj N;have I:=e3 y Y;obtain⟨n,hn,F⟩:=gK.mp H;rcases o.w2 none trivial n hn with u | u
   ·rw[F]at u;exact I.1 ((v y).mpr (.inl u))
   ·rw[F]at u;exact I.2 u
  rw[aK X]at N;rw[aK (by lia)]at a1;exact o.ws i' j' x y a1 N H a3
theorem rD {c:dZ}{first:Str}(i:iz c L s)(g:(s.wanted.map (·.1))[0]?=some first)(r:(x=first∧first∈c.start)∨first∉c.start∨(c.left x s).length≤1):c.Rule x s:=by
 rcases r with ⟨rfl,hf⟩ | hf | hl
 ·refine .inl ⟨hf,fun y e m=>?_⟩;obtain⟨n,o,b⟩:=gK.mp e;rcases i.w2 none trivial n o with u | u
  ·rw[b]at u;exact u
  ·rw[b]at u;obtain⟨j,d⟩:=az.mp u;rcases dJ j with rfl | hp
   ·rw[g]at d;cases d;exact absurd m (cQ _)
   ·have:=(i.ws 0 j x y g d e hp).2
    lia
 ·refine .inr (.inr fun y e=>?_);obtain⟨n,o,b⟩:=gK.mp e;rcases i.w2 none trivial n o with u | u
  ·rw[b]at u;exact u
  ·rw[b]at u;obtain⟨j,d⟩:=az.mp u;rcases dJ j with rfl | hp
   ·rw[g]at d;cases d;exact absurd e hf
   ·exact absurd (i.ws 0 j first y g d e hp).1 hf
 ·refine .inr (.inl fun j j' v w z q A t=>?_);have h:=dZ.J3.mpr ⟨v,z,A⟩;have p:=dZ.J3.mpr ⟨w,q,t⟩;cases hl2:c.left x s with
  |nil=>rw[hl2]at h;cases h
  |cons a l=>
   rw[hl2]at h p hl;have:l=[]:=by
    rw[aB]at hl;exact bH.mp (by lia)
   subst this;rw[ai.mp h,ai.mp p]
def dZ.stop (c:dZ)(m:Nat)(f:Fk):Bool:=match f.bit with
 |none=>false
 |some k=>decide (c.has m k)
theorem Cu {c:dZ}:∀{F:List Fk} {s:Sd},fz c L F s→(∀j,c.has m j→c.has s.picked j)→((F.dropWhile fun f=>!c.stop m f)=[]∧∀j,¬c.has m j)∨∃A g B k,F=A++g::B∧(F.dropWhile fun f=>!c.stop m f)=g::B∧g.bit=some k∧c.has m k∧(∀j,c.has m j→j=k∨c.has g.sd.picked j)∧fz c L B g.sd∧jL c g∧¬c.has g.sd.dead k:=by
 intro F s h
 induction h with
 |nil h1 _=>exact fun p=>.inl ⟨rfl,fun j a=>by have:=p j a;rw[h1]at this;exact dZ.JG this⟩
 |@cons f F s h1 h2 h3 h4 ih=>
  obtain⟨k,l,hp,q⟩:=h3;have i:=(h2.bit k l).1;intro p;have b:¬c.has f.sd.dead k:=fun z=>h4.off k (q k z) (by rw[hp];exact dZ.JC.mpr (.inr ((dZ.JF i).mpr rfl)));have d:∀j,c.has m j→c.has f.sd.picked j∨j=k:=fun j a=>by
   have:=p j a;rw[hp]at this;exact(dZ.JC.mp this).imp id (dZ.JF i).mp
  by_cases hst:c.has m k
  ·refine .inr ⟨[],f,F,k,rfl,?_,l,hst,fun j a=>(d j a).symm,h1,h2,b⟩;rw[List.dropWhile_cons_of_neg];unfold dZ.stop;rw[l];simp[hst]
  ·have o:∀j,c.has m j→c.has f.sd.picked j:=fun j a=>(d j a).elim id fun e=>absurd (e▸a) hst;have w:((f::F).dropWhile fun f=>!c.stop m f)=F.dropWhile fun f=>!c.stop m f:=by
    rw[List.dropWhile_cons_of_pos];unfold dZ.stop;rw[l];simp[hst]
   rw[w];rcases ih o with y | ⟨A,g,B,G,x,H,C,E,r,D,t,v⟩
   ·exact .inl y
   ·exact .inr ⟨f::A,g,B,G,by rw[x];rfl,H,C,E,r,D,t,v⟩
theorem v7:∀a b:Nat,hZ a b+(a &&& b)=a:=by
 intro a
 induction a using Nat.strongRecOn with
 |_ a ih=>
  intro b;by_cases h0:a=0
  ·subst h0;simp[hZ]
  ·have h1:=ih (a / 2) (by lia) (b / 2);have i:hZ a b / 2=hZ (a / 2) (b / 2):=by unfold hZ;rw[Nat.xor_div_two,Nat.and_div_two]
   have g:(a &&& b) / 2=a / 2 &&& b / 2:=Nat.and_div_two;have e:=mE a b 0;have d:=Nat.testBit_and a b 0;simp only[Nat.testBit_zero]at e d;rw[←i,←g]at h1;have h:(hZ a b % 2=1)↔(a % 2=1∧¬b % 2=1):=by
    have:=congrArg (·=true) e;simpa using this
   have p2:((a &&& b) % 2=1)↔(a % 2=1∧b % 2=1):=by
    have:=congrArg (·=true) d;simpa using this
   generalize hZ a b=x at *;generalize (a &&& b)=y at *;by_cases ea:a % 2=1 <;> by_cases eb:b % 2=1 <;> simp only[ea,eb,not_true_eq_false,not_false_eq_true,and_true,and_false,iff_true,iff_false,true_and,false_and]at h p2 <;> lia
theorem mw (a b:Nat):Builtin.bitAnd (a:Int) (b:Int)=((a &&& b:Nat):Int):=by
 rw[bitAnd_pp (by lia) (by lia),bI,bI]
theorem pT (a b:Nat):Builtin.bitAnd (a:Int) (Builtin.bitNot (b:Int))=((hZ a b:Nat):Int):=by
 rw[bitAnd_not,mw];have:=v7 a b
 lia
theorem wg (a b:Nat):Builtin.bitOr (a:Int) (b:Int)=((a ||| b:Nat):Int):=by
 unfold Builtin.bitOr;have d:∀x:Nat,Builtin.bitNot (Builtin.bitNot (x:Int))=x:=fun x=>by unfold Builtin.bitNot;lia
 rw[bitAnd_nn (by unfold Builtin.bitNot;lia) (by unfold Builtin.bitNot;lia),d a,d b,bI,bI,d]
theorem u5:∀m:Nat,m≠0→∃i q,m=2^i*(2*q+1):=by
 intro m
 induction m using Nat.strongRecOn with
 |_ m ih=>
  intro h;rcases Nat.mod_two_eq_zero_or_one m with e | e
  ·obtain⟨i,q,a⟩:=ih (m / 2) (by lia) (by lia);exact⟨i+1,q,by rw[cJ,Nat.mul_assoc,Nat.mul_left_comm,←a];lia⟩
  ·exact⟨0,m / 2,by lia⟩
theorem sg (i q j:Nat):(2^i*(2*q+1)).testBit j=(decide (i=j)||(2^(i+1)*q).testBit j):=by
 rw[cB,cB];rcases Nat.lt_trichotomy j i with h | h | h
 ·rw[au (by lia),au (show ¬i=j by lia),au (show ¬i+1≤j by lia)];rfl
 ·subst h;rw[ao (aq _),bK,ao rfl,Nat.testBit_zero];simp
 ·rw[ao (by lia),au (show ¬i=j by lia),ao (show i+1≤j by lia)];obtain⟨d,rfl⟩:∃d,j=i+1+d:=⟨j-(i+1),by lia⟩;rw[show i+1+d-i=d+1 by lia,show i+1+d-(i+1)=d by lia,Nat.testBit_succ,show(2*q+1) / 2=q by lia];simp
theorem rS (i q:Nat):(2^i*(2*q+1)) &&& (2^i*(2*q+1)-1)=2^(i+1)*q:=by
 have e:2^i*(2*q+1)-1=2^(i+1)*q+(2^i-1):=by
  have h1:0<2^i:=bE i;have h2:2^i*(2*q+1)=2^(i+1)*q+2^i:=by rw[Nat.mul_add,Nat.mul_one,cJ,←Nat.mul_assoc]
  lia
 refine Nat.eq_of_testBit_eq fun j=>?_;have a:2^i-1<2^(i+1):=by have:=bE i;rw[cJ];lia
 rw[Nat.testBit_and,sg,e,Nat.testBit_two_pow_mul_add _ a,cB];by_cases h:j<i+1
 ·rw[if_pos h,au (show ¬i+1≤j by lia),bT,Bool.or_false];rw[Nat.testBit_two_pow_sub_one];by_cases h2:i=j
  ·subst h2;simp
  ·simp[h2]
 ·rw[if_neg h,ao (show i+1≤j by lia),au (show ¬i=j by lia)];simp
theorem Cb (i q:Nat):Builtin.bitAnd ((2^i*(2*q+1):Nat):Int) (-((2^i*(2*q+1):Nat):Int))=((2^i:Nat):Int):=by
 have h1:0<2^i:=bE i;have h2:2^i*(2*q+1)=2^(i+1)*q+2^i:=by rw[Nat.mul_add,Nat.mul_one,cJ,←Nat.mul_assoc]
 have e:-((2^i*(2*q+1):Nat):Int)=Builtin.bitNot ((2^i*(2*q+1)-1:Nat):Int):=by unfold Builtin.bitNot;lia
 rw[e,pT];have:=v7 (2^i*(2*q+1)) (2^i*(2*q+1)-1);rw[rS]at this
 lia
theorem nJ (i q:Nat):2^i*(2*q+1)-2^i=2^(i+1)*q:=by
 have h2:2^i*(2*q+1)=2^(i+1)*q+2^i:=by rw[Nat.mul_add,Nat.mul_one,cJ,←Nat.mul_assoc]
 lia
theorem lj {c:dZ}{q:Nat}(h:2^i*(2*q+1)<2^c.n):∃k,c.ks[i]?=some k∧c.ix k=i∧c.listed (2^i*(2*q+1))=k::c.listed (2^(i+1)*q):=by
 have hi:i<c.n:=by
  refine Nat.lt_of_not_le fun z=>?_;have h1:=Nat.pow_le_pow_right (show 0<2 by decide) z;have h2:2^i≤2^i*(2*q+1):=Nat.le_mul_of_pos_right _ (by lia)
  lia
 have d:c.ks[i]?=some c.ks[i]:=am hi;refine⟨_,d,c.JA d,?_⟩;have g:c.ks=c.ks.take i++c.ks[i]::c.ks.drop (i+1):=by rw[←dO hi,dA]
 have lo:∀(m:Nat),(∀j,j<i→m.testBit j=false)→(c.ks.take i).filter (fun k=>m.testBit (c.ix k))=[]:=fun m p=>by
  rw[List.filter_eq_nil_iff];intro k a;obtain⟨j,b⟩:=az.mp a;rw[b0]at b
  split at b
  ·next hlt=>rw[c.JA b,p j hlt];decide
  ·cases b
 have e:∀k∈c.ks.drop (i+1),i<c.ix k:=fun k a=>by
  obtain⟨j,b⟩:=az.mp a;rw[List.getElem?_drop]at b;rw[c.JA b]
  lia
 have s:∀j,j<i→(2^i*(2*q+1)).testBit j=false:=fun j b=>by rw[cB,au (by lia),bT]
 have l:∀j,j<i+1→(2^(i+1)*q).testBit j=false:=fun j b=>by rw[cB,au (by lia),bT]
 have r:c.listed (2^i*(2*q+1))=c.ks[i]::(c.ks.drop (i+1)).filter (fun k=>(2^i*(2*q+1)).testBit (c.ix k)):=by
  unfold dZ.listed
  conv=>lhs;rw[g]
  rw[cq,lo _ s,dH,aG,if_pos];rw[c.JA d,sg,ao rfl,Bool.true_or]
 have o:c.listed (2^(i+1)*q)=(c.ks.drop (i+1)).filter (fun k=>(2^(i+1)*q).testBit (c.ix k)):=by
  unfold dZ.listed
  conv=>lhs;rw[g]
  rw[cq,lo _ (fun j b=>l j (by lia)),dH,aG,if_neg];rw[c.JA d,l i (by lia)];decide
 rw[r,o]
 congr 1
 refine List.filter_congr fun k a=>?_;rw[sg,au (show ¬i=c.ix k by have:=e k a;lia),Bool.false_or]
theorem zK {q n:Nat}(h:2^i*(2*q+1)<2^n):2^(i+1)*q<2^n:=by
 have:=nJ i q;have:=bE i
 lia
structure mz (es:List En)(sn:List Nd)(ps:List Pk):Prop where
 one:∀j∈ps,∀k∈ps,j.1=k.1→j=k
 key:∀k∈ps,k∈es.map eL
 met:∀w:Option Pk,(∀k,w=some k→k∈ps)→∀n∈iy es sn w,∃j∈ps,j.1=n.1∧jV n j.2=true
theorem lP {n:Nd}:v∈jH es n↔(n.1,v)∈es.map eL∧jV n v=true:=by
 rw[oV,aV];refine and_congr_left fun _=>?_;unfold gL;simp only[av,aV,aA]
 constructor
 ·rintro⟨e,⟨a,h1⟩,h2⟩;exact⟨e,a,Prod.ext h1 h2⟩
 ·rintro⟨e,a,h⟩;have h':(e.1,e.2.1)=(n.1,v):=h;rw[Prod.mk.injEq]at h';exact⟨e,⟨a,h'.1⟩,h'.2⟩
theorem rR {n:Nd}:v∈jy es n↔(n.1,v)∈es.map eL∧jV n v=true:=by
 unfold jy;rw[(List.mergeSort_perm _ _).mem_iff,lP]
theorem CG {sn:List Nd}{ps:List Pk}(D:∀(i:Nat) (l:Ln),ls[i]?=some l→jU es sn ls (i:Nat) l=true)(x:mz es sn ps):∀(i:Nat) (l:Ln),ls[i]?=some l→¬∀p∈l.1,p∈ps:=by
 intro i
 induction i using Nat.strongRecOn with
 |_ i ih=>
  intro l F b;have h:=D i l F;unfold jU at h;rw[aH]at h;obtain⟨B,h⟩:=h;cases hn:jx (iy es sn l.2.who) l.2.place with
  |none=>rw[hn]at h;cases h
  |some n=>
   rw[hn]at h;dsimp only at h;have q:=zD hn
   obtain⟨j,y,g,r⟩:=x.met l.2.who (fun k e=>b k (by
    rw[e]at B;have d:(decide (k∈l.1)&&decide (k∈es.map eL))=true:=B;rw[aH]at d
    exact bc d.1)) n q
   cases ht:l.2.told with
   |one k=>
    rw[ht]at h;have h':(decide (k∈l.1)&&pS n k)=true:=h;unfold pS at h';simp only[aH,aA,bJ]at h';obtain⟨h1,h2,C⟩:=h';have e:=x.one j y k (b k h1) (by rw[g,h2]);rw[←e,r]at C;cases C
   |many bs=>
    rw[ht]at h;have h':mN es ls (i:Nat) l.1 n bs=true:=h;unfold mN at h';rw[aH,aA,cZ]at h';obtain⟨h1,h2⟩:=h';have m:j=(n.1,j.2):=Prod.ext g rfl;have H:j.2∈jy es n:=rR.mpr ⟨m▸x.key j y,r⟩;obtain⟨t,o⟩:=az.mp H;have w:t<bs.length:=by rw[h1];exact(af.mp o).1
    have E:(bs.zip (jy es n))[t]?=some (bs[t],j.2):=List.getElem?_zip_eq_some.mpr ⟨am w,o⟩
    have s:=h2 _ (aj E);unfold ya at s;dsimp only at s;simp only[aH,aA]at s;obtain⟨A,G,a⟩:=s;cases hl2:jx ls bs[t] with
    |none=>rw[hl2]at a;cases a
    |some l'=>
     rw[hl2]at a;dsimp only at a;rw[cZ]at a;have v:ls[bs[t].toNat]?=some l':=by
      unfold jx at hl2;rw[if_pos A]at hl2;exact hl2
     refine ih bs[t].toNat (by omega) l' v fun p hp=>?_;have:=a p hp;rw[dm,aA,aA]at this;rcases this with z | z
     ·exact b p z
     ·rw[z,←m];exact y
theorem iz.fit {c:dZ}(h:iz c L s)(o:s.wanted=[]):mz c.es c.sn (c.listed s.picked):=by
 refine⟨fun j b k g e=>h.one j k (dZ.JB.mp b) (dZ.JB.mp g) e,fun k g=>(c.mem k).mp (dZ.JB.mp g).1,fun w i n m=>?_⟩;have a:c.JQ s.picked w:=by
  cases w with
  |none=>trivial
  |some k=>exact dZ.JB.mp (i k rfl)
 rcases h.w2 w a n m with ⟨j,b,d⟩ | z
 ·refine⟨j,dZ.JB.mpr b,d,Decidable.byContradiction fun z=>?_⟩;have l:c.JO w j:=⟨n,m,by unfold pS;rw[ao d,bY.mpr z];rfl⟩;refine h.off j (h.sup j b.1 ?_) b;cases w with
  |none=>exact .inl l
  |some q=>exact .inr (.inr ⟨q,a,.inr l⟩)
 ·rw[o]at z;cases z
theorem xQ {c:dZ}{k:Pk}(h:∀j,c.has m j↔j∈c.left x s)(g:(c.listed m).getLast?=some k):k∈c.ks∧k.1=x∧¬c.has s.dead k∧∀j∈c.ks,j.1=x→k.2<j.2→c.has s.dead j:=by
 have d:=dZ.J3.mp ((h k).mp (dZ.JB.mp (List.mem_of_getLast? g)));refine⟨d.1,d.2.1,d.2.2,fun j p b l=>Decidable.byContradiction fun z=>?_⟩;have e:j∈c.listed m:=dZ.JB.mpr ((h j).mpr (dZ.J3.mpr ⟨p,b,z⟩));obtain⟨i,hi⟩:=az.mp e;have a:(c.listed m)[(c.listed m).length-1]?=some k:=by rw[←List.getLast?_eq_getElem?];exact g
 have o:=(af.mp hi).1;rcases de i ((c.listed m).length-1) with h1 | h1
 ·obtain⟨v,j',q,r,t⟩:=jQ hi a h1;have:=c.srt _ _ j k q r t (by rw[b,d.2.1]);omega
 ·have:i=(c.listed m).length-1:=by omega
  rw[this,a]at hi;cases hi;omega
theorem wX {c:dZ}(b:m<2^c.n)(e:m≠0)(h:m &&& (m-1)=0):∃k∈c.ks,m=c.bit k:=by
 obtain⟨i,q,rfl⟩:=u5 m e;rw[rS]at h;have d:q=0:=by
  rcases dJ q with z | z
  ·exact z
  ·have:=Nat.mul_pos (bE (i+1)) z;omega
 subst d;obtain⟨k,a,g,_⟩:=lj b;refine⟨k,aj a,?_⟩;unfold dZ.bit;rw[g];simp
theorem vv {c:dZ}{e:Nat×Rs}{k:Pk}(a:k∈c.ks)(g:e∈L)(h:hZ e.1 p=c.bit k):c.JS L p k∧¬c.has p k:=by
 have h1:c.has (hZ e.1 p) k:=by rw[h];exact(dZ.JF a).mpr rfl
 obtain⟨h2,b⟩:=dZ.JE.mp h1;refine⟨⟨e,g,h2,fun j d=>?_⟩,b⟩;by_cases hp:c.has p j
 ·exact .inr hp
 ·have:c.has (hZ e.1 p) j:=dZ.JE.mpr ⟨d,hp⟩;rw[h]at this;exact .inl ((dZ.JF a).mp this)
theorem uV {c:dZ}{e:Nat×Rs}{k:Pk}(d:k∈c.ks)(g:e.1<2^c.n)(h1:c.has e.1 k)(h2:∀j,c.has e.1 j→j=k∨c.has p j)(h:¬c.has p k):hZ e.1 p=c.bit k:=by
 refine dZ.ext (jg g) (c.JH d) fun j=>?_;rw[dZ.JE,dZ.JF d]
 constructor
 ·rintro⟨a,b⟩;exact(h2 j a).elim id fun z=>absurd z b
 ·rintro rfl;exact⟨h1,h⟩
def dZ.J9 (c:dZ)(L:ic)(k:Pk)(p:Nat):Nat:=(L.filter fun e=>decide (c.has e.1 k)).foldl (fun b e=>let r:=hZ e.1 p;if r &&& (r-1)=0 then b ||| r else b) 0
theorem ke {c:dZ}{p:Nat}:∀(L:ic) (b:Nat),(∀e∈L,e.1<2^c.n)→b<2^c.n→(L.foldl (fun b e=>let r:=hZ e.1 p;if r &&& (r-1)=0 then b ||| r else b) b<2^c.n)∧∀j,c.has (L.foldl (fun b e=>let r:=hZ e.1 p;if r &&& (r-1)=0 then b ||| r else b) b) j→c.has b j∨∃e∈L,hZ e.1 p=c.bit j
 |[],b,_,hb=>⟨hb,fun j hj=>.inl hj⟩
 |e::L,b,hL,hb=>by
  rw[List.foldl_cons];dsimp only;have he:=hL e (by simp);by_cases h:hZ e.1 p &&& (hZ e.1 p-1)=0
  ·rw[if_pos h];obtain⟨i1,i2⟩:=ke (c:=c) (p:=p) L (b ||| hZ e.1 p) (fun x hx=>hL x (by simp[hx])) (i4 hb (jg he));refine⟨i1,fun j hj=>?_⟩;rcases i2 j hj with z | ⟨x,hx,y⟩
   ·rcases dZ.JC.mp z with z | z
    ·exact .inl z
    ·refine .inr ⟨e,by simp,?_⟩;have h0:hZ e.1 p≠0:=fun w=>by rw[w]at z;exact dZ.JG z
     obtain⟨k,hk,e2⟩:=wX (jg he) h0 h;rw[e2]at z ⊢;rw[(dZ.JF hk).mp z]
   ·exact .inr ⟨x,by simp[hx],y⟩
  ·rw[if_neg h];obtain⟨i1,i2⟩:=ke (c:=c) (p:=p) L b (fun x hx=>hL x (by simp[hx])) hb;refine⟨i1,fun j hj=>?_⟩;rcases i2 j hj with z | ⟨x,hx,y⟩
   ·exact .inl z
   ·exact .inr ⟨x,by simp[hx],y⟩
theorem x9 {c:dZ}{k:Pk}(d:gC c L):c.J9 L k p<2^c.n∧∀j,c.has (c.J9 L k p) j→c.JS L p j∧¬c.has p j:=by
 obtain⟨h1,h2⟩:=ke (c:=c) (p:=p) (L.filter fun e=>decide (c.has e.1 k)) 0 (fun e a=>d.lt e (aV.mp a).1) (bE _);refine⟨h1,fun j b=>?_⟩;rcases h2 j b with z | ⟨e,a,y⟩
 ·exact(dZ.JG z).elim
 ·exact vv b.1 (aV.mp a).1 y
end FB
namespace L2
open PySem PySem.Spec PyProof.Rows FB
variable {H:Hp}{Q:Value→Shared→Prop}{X:Cx}{body e:Expr}{cy cy':Addr}{j j':Nat}{params:Arguments}{pos:Pos}{s:Shared}{scope:Scope}{x y y':Str}{σ:St}
abbrev HP (X:Cx)(A:Around)(qual:Str)(scope:Scope)(q c:Addr)(cl:List (Str×Addr))(N':List Str)(s:Shared)(H:Hp):Cx:=
 {X with A:=A.deeper (W.envX qual scope s.heap.objs.size q (.ref c) cl),N:=N',s₀:=s,H₀:=H,env:=W.envX qual scope s.heap.objs.size q (.ref c) cl,outer:=X.stack,stack:=W.envX qual scope s.heap.objs.size q (.ref c) cl::X.stack,ex:=[],fn:=fun _=>false,calm:=true,pn:=[],xe:=fun _ _=>False}
structure EI (X:Cx)(scope:Scope)(x y y':Str)(cy cy':Addr)(j j':Nat):Prop where
 clos:closureFor scope X.env=pure [(y,cy),(y',cy')]
 l1:X.env.cells.lookup y=some cy
 l2:X.env.cells.lookup y'=some cy'
 kind:scope.kind=.function
 co:scope.isCoroutine=false
 gen:scope.isGenerator=false
 px:scope.names.lookup x=some .local
 nocell:∀z∈scope.names,z.2≠.cell
 frees:∀z,scope.names.lookup z=some .free→z=y∨z=y'
 f1:scope.names.lookup y=some .free
 f2:scope.names.lookup y'=some .free
 n1:X.N[j]?=some y
 n2:X.N[j']?=some y'
 k1:X.env.kindOf y=some .cell
 k2:X.env.kindOf y'=some .cell
 v1:Da X.env.scope y
 v2:Da X.env.scope y'
 ne:y'≠y
 xy:x≠y
 xy':x≠y'
section
variable {pins:List (Addr×Obj)}
theorem zP {A:Around}{k:Nat}{qual:Str}{pm ctv:Value}{q c:Addr}{te:TE}{v a b:V}{u:Value}{Q:VK}(S:EI X scope x y y' cy cy' j j')(hA:A.frames=some X.stack)(Y:gE (k+1) A)(I:eM X pins σ H s)(ho:s.heap.get? q=some (W.kla_obj "<lambda>" qual params body scope [(y,cy),(y',cy')] pm c ctv))(U:s.heap.CodeRec (.ref c) qual)(G:∀u:Value,bindArgs (W.kla_fn "<lambda>" qual params body scope [(y,cy),(y',cy')] pm (.ref c) ctv) ⟨[u],[]⟩=pure [(x,u)])(e1:σ[j]?=some (some a))(e2:σ[j']?=some (some b))(rv:eT v u)(hB:PE (HP X A qual scope q c [(y,cy),(y',cy')] [x,y,y'] s H) body te)(h:te [some v,some a,some b] H Q):codeAny (model X.prog X.w) A (.call (.ref q) ⟨[u],[]⟩) (CR eZ X.stack X.prog X.w H s Q E0) s:=by
 have L:(([(y,cy),(y',cy')]:List (Str×Addr)).lookup y)=some cy:=by rw[aY,beq_self_eq_true]
 have K:(([(y,cy),(y',cy')]:List (Str×Addr)).lookup y')=some cy':=by rw[aY,beq_false_of_ne S.ne,aY,beq_self_eq_true]
 have E:∀z d,([(y,cy),(y',cy')]:List (Str×Addr)).lookup z=some d→X.env.cells.lookup z=some d:=fun z d e=>by
  by_cases q:z=y
  ·subst q;rw[L]at e;rw[S.l1];exact e
  ·by_cases q':z=y'
   ·subst q';rw[K]at e;rw[S.l2];exact e
   ·rw[aY,beq_false_of_ne q,aY,beq_false_of_ne q']at e;simp at e
 refine W.kla_callFunE Y.depth ho rfl S.co S.gen rfl U ?_;rw[G u];refine ar (wpAny_newFunctionEnv S.nocell (fun z hz=>by rw[ai.mp hz];exact S.px) (fun h₁ T R=>?_) S.kind);have F:∀b o,s.heap.get? b=some o→h₁.get? b=some o:=fun b o e=>R.extBut b o (aX (aS e)) (aC _ e);refine⟨I.nolimit.keeps F,W.kla_codeExpr ?_⟩;show wpAny (model X.prog X.w) (A.deeper (W.envX qual scope s.heap.objs.size q (.ref c) [(y,cy),(y',cy')])) (eval body (W.envX qual scope s.heap.objs.size q (.ref c) [(y,cy),(y',cy')])) _ _ _;have C:∀{i:Nat} {z:Str} {cz:Addr} {t:V},X.N[i]?=some z→σ[i]?=some (some t)→Da X.env.scope z→X.env.kindOf z=some .cell→X.env.cells.lookup z=some cz→∃D,eT t D∧s.heap.IsCell cz (some D):=fun {i z cz t} hn hs hv hk hl=>by
  obtain⟨m,_,loc⟩:=I.loc;obtain⟨D,r,l⟩:=loc i z t hn hs hv;rcases l with ⟨k,_⟩ | ⟨_,c2,e,g⟩
  ·rw[hk]at k;cases k
  ·rw[hl]at e;cases e;exact⟨D,r,g⟩
 have B:∀{cz:Addr} {t:Option Value},s.heap.IsCell cz t→h₁.IsCell cz t:=fun {cz t} ⟨o,e,d⟩=>⟨o,F _ _ e,d⟩;have J:eM (HP X A qual scope q c [(y,cy),(y',cy')] [x,y,y'] s H) [] [some v,some a,some b] H {s with heap:=h₁,toks:=s.toks+1}:=by
  refine⟨⟨I.ok.mod,S.kind,rfl,rfl,aq _,fun z1 Z d h1 h2=>I.ok.inj z1 Z d (E _ _ h1) (E _ _ h2),fun z hz=>?_,fun z d hf _=>absurd (show false=true from hf) (by decide),fun _=>Y.hd,Around.frames_deeper hA,.inr ⟨rfl,rfl⟩,fun b G=>absurd (show b∈([]:List Addr) from G) (by simp),I.bs,bj I.ok.bsz I.sz,fun b _ _ G=>absurd (show b∈([]:List Addr) from G) (by simp),fun b G=>absurd (show b∈([]:List Addr) from G) (by simp),I.stack,I.Jf⟩,rfl,I.bare,Un.kept F,⟨_,T,fun i z t h1 h2 h3=>?_⟩,fun z d e=>?_,I.hok.fresh (aq _),fun z d e=>I.freeC z d (E z d e),fun p hp=>absurd (show p∈([]:List (Addr×Obj)) from hp) (by simp),I.hok.kept F,rfl⟩
  ·have hz:scope.names.lookup z=some .cell∨scope.names.lookup z=some .free:=hz;rcases hz with hz | hz
   ·exact absurd rfl (S.nocell _ (bn hz))
   ·rcases S.frees z hz with rfl | rfl
    ·exact⟨cy,L⟩
    ·exact⟨cy',K⟩
  ·match i,h1,h2 with
   |0,h1,h2=>
    have O:x=z:=by simpa using h1
    have M:v=t:=by simpa using h2
    subst O M;exact⟨u,rv,.inl ⟨S.px,by simp⟩⟩
   |1,h1,h2=>
    have O:y=z:=by simpa using h1
    have M:a=t:=by simpa using h2
    subst O M;obtain⟨D,r,g⟩:=C S.n1 e1 S.v1 S.k1 S.l1;exact⟨D,r,.inr ⟨.inr S.f1,cy,L,B g⟩⟩
   |2,h1,h2=>
    have O:y'=z:=by simpa using h1
    have M:b=t:=by simpa using h2
    subst O M;obtain⟨D,r,g⟩:=C S.n2 e2 S.v2 S.k2 S.l2;exact⟨D,r,.inr ⟨.inr S.f2,cy',K,B g⟩⟩
   |i+3,h1,_=>simp at h1
  ·obtain⟨t,g⟩:=I.cell z d (E z d e);exact⟨t,B g⟩
 refine bO (hB [] _ _ H Q J h) (fun D s' hE=>?_) fun e s' hF=>False.elim hF;obtain⟨t,H',P,r,hq⟩:=hE;exact⟨t,H',P.os,P.bare,P.base,P.hok,r,hq⟩
end
def gW (qual:Str)(lp:Pos)(H:Hp)(P:Addr):Prop:=H P=some (.tbl #[])∨∃c:Addr,H P=some (.tbl #[rawInt lp.line,rawInt lp.col,.ref c])∧H c=some (.ext fun h=>h.CodeRec (.ref c) qual)
def sk (mg:Str→Option Value)(base:Heap):Prop:=∃bm ob,mg "__builtins__" = some (.ref bm)∧bm≠builtinsNs∧base.get? bm=some ob∧ob.cls=.type "module"∧ob.dict=some builtinsNs∧ob.data=.plain
section
variable {pins:List (Addr×Obj)}{A:Around}{E:Value→Shared→Prop}
theorem zO {c P:Addr}{lp:Pos}(S:EI X scope x y y' cy cy' j j')(d:X.env.code=.ref c)(aa:W.codeHdIn X.K c P=true)(BM:sk X.mg X.base)(ag:defaultsOf params X.env=([],[]))(I:eM X pins σ H s)(hT:gW (X.env.qual++"<lambda>") lp H P)(k:∀(q c':Addr) (ctv:Value) (s':Shared) (H':Hp),eM X (pins++[(q,W.kla_obj "<lambda>" (X.env.qual++"<lambda>") params body scope [(y,cy),(y',cy')] ((X.mg "__name__").getD .none) c' ctv)]) σ H' s'→eB (del H [P]) H'→gW (X.env.qual++"<lambda>") lp H' P→H' c'=some (.ext fun h=>h.CodeRec (.ref c') (X.env.qual++"<lambda>"))→Q (.ref q) s'):wpAny (model X.prog X.w) A (eval (.Lambda params body scope lp) X.env) Q E s:=by
 refine W.kla_eval ag ?_;obtain⟨Z,ob,b1,b2,Y,b4,b5,b6⟩:=BM;have tP:∃ps,H P=some (.tbl ps):=by
  rcases hT with e | ⟨c',e,_⟩
  ·exact⟨_,e⟩
  ·exact⟨_,e⟩
 obtain⟨ap,U⟩:=tP;have gP:∀{ps:Array Value},H P=some (.tbl ps)→s.heap.get? P=some (W.tabObj ps):=fun e=>(show fC X.prog X.w H s.heap P (.tbl _) from I.hok P _ e);have D:s.heap.Ns mainGlobals X.mg:=I.mod.glob.keeps I.bk;have hC:W.CodeHd s.heap c P:=W.codeHd_of_K I.kIn aa;have al:mainGlobals≠P:=fun q=>by
  obtain⟨o,es,ep,e,M,_⟩:=D;have:=gP U;rw[←q,e]at this;cases this;cases M
 have ad:Z≠P:=fun q=>by
  have:=(I.bs Z ob Y).2;rw[q,U]at this;cases this
 have ah:Z≠mainGlobals:=fun q=>by
  obtain⟨o,es,ep,e,M,_⟩:=I.mod.glob;rw[q,e]at Y;cases Y;rw[M]at b6;cases b6
 have BA:s.heap.BuiltinsAt X.mg P:=⟨Z,ob,b1,b2,ah,ad,I.bk _ _ Y,b4,b5,b6⟩;have T:∀{c':Addr} {ctv:Value} {h':Heap} {tk:Nat} {H':Hp},eM X pins σ H' {s with heap:=h',toks:=tk}→eB (del H [P]) H'→gW (X.env.qual++"<lambda>") lp H' P→H' c'=some (.ext fun h=>h.CodeRec (.ref c') (X.env.qual++"<lambda>"))→
   Q (.ref h'.objs.size) {s with heap:=h'.push (W.kla_obj "<lambda>" (X.env.qual++"<lambda>") params body scope [(y,cy),(y',cy')] ((X.mg "__name__").getD .none) c' ctv),toks:=tk}:=fun {c' ctv h' tk H'} G hs ht hc=>by
  have I2:eM X pins σ H' {s with heap:=h'.push (W.kla_obj "<lambda>" (X.env.qual++"<lambda>") params body scope [(y,cy),(y',cy')] ((X.mg "__name__").getD .none) c' ctv),toks:=tk}:=G.kept (t':=tk) fun b o e=>aC _ e;refine k _ c' ctv _ H' (I2.Jg fun p hp=>?_) hs ht hc;rcases ay.mp hp with z | z
  ·exact I2.pin p (aI _ z)
  ·rw[ai.mp z]
   exact⟨aT _ rfl,G.hok.fresh (aq _),Nat.ne_of_gt G.lt,G.Jd (aq _),fun v z=>by
    have z':Data.func _=Data.cell v:=z
    cases z'⟩
 have B:eB (del H [P]) H:=eU _ _;rcases hT with e | ⟨c',e,ec⟩
 ·refine W.kla_makeFunction S.clos I.ok.glob D d hC (gP e) trivial rfl al BA fun c' ctv h' tk C N as l L=>?_;have a:H c'=none:=I.hok.fresh N;have R:c'≠P:=fun z=>by rw[z,e]at a;cases a
  have nP:∀b,H b=none→b≠P:=fun b n z=>by rw[z,e]at n;cases n
  have nC:∀b o,s.heap.get? b=some o→b≠c':=fun b o q=>aX (bb (aS q) N);have i:∀b,b≠c'→b≠P→upd (upd H P (.tbl #[rawInt lp.line,rawInt lp.col,.ref c'])) c' (.ext fun h=>h.CodeRec (.ref c') (X.env.qual++"<lambda>")) b=H b:=fun b h1 h2=>by rw[dY h1,dY h2]
  have g:∀b u,H b=some u→(∀ps,u≠.tbl ps)→upd (upd H P (.tbl #[rawInt lp.line,rawInt lp.col,.ref c'])) c' (.ext fun h=>h.CodeRec (.ref c') (X.env.qual++"<lambda>")) b=some u:=fun b u q nt=>by
   rw[i b (fun z=>by rw[z,a]at q;cases q) (fun z=>by rw[z,e]at q;cases q;exact nt _ rfl)];exact q
  have G:eM X pins σ (upd (upd H P (.tbl #[rawInt lp.line,rawInt lp.col,.ref c'])) c' (.ext fun h=>h.CodeRec (.ref c') (X.env.qual++"<lambda>"))) {s with heap:=h',toks:=tk}:=by
   refine I.step (g':=s.gens) (d':=s.drawn) (ch:=[]) (fun _ z=>nomatch z) (fun b o _ _ _ q n=>C b o (nP b n) q) (fun b o _ _ _ q n=>⟨o.slots,C b o (nP b n) q⟩) (fun b o _ q n=>by rw[i b (nC b o q) (nP b n)];exact n) (fun b o _ q=>?_)
    (fun b xs q=>g b _ q (fun ps z=>nomatch z)) (fun b o u q=>g b _ q (fun ps z=>nomatch z)) (fun b ps q=>?_) (fun m hm=>?_) (fun b u q=>?_) I.bare
   ·by_cases hb:b=P
    ·exact⟨_,by rw[hb];exact L⟩
    ·exact⟨o,C b o hb q⟩
   ·by_cases hb:b=P
    ·subst hb;rw[e]at q;cases q;exact⟨#[rawInt lp.line,rawInt lp.col,.ref c'],by rw[dY (Ne.symm R),dW];simp⟩
    ·exact⟨#[],by rw[i b (fun z=>by rw[z,a]at q;cases q) hb,q];simp⟩
   ·obtain⟨o,es,ep,ho,r⟩:=hm;exact⟨o,es,ep,C _ o (nP _ I.free) ho,r⟩
   ·by_cases hb:b=c'
    ·subst hb;rw[dW]at q;cases q;obtain⟨F,oc,vs,t,e2,O,M,hv⟩:=l;cases e2
     exact⟨⟨_,oc,vs,t,rfl,O,M,hv⟩,⟨oc,O⟩,fun h1 h2 ⟨c3,o3,v3,t3,g1,g2,g3,g4⟩ hk=>by
      cases g1
      exact⟨_,o3,v3,t3,rfl,hk _ g2,g3,g4⟩⟩
    ·rw[dY hb]at q;by_cases hb2:b=P
     ·subst hb2;rw[dW]at q;cases q;show h'.get? b=some (W.tabObj _);rw[L];simp
     ·rw[dY hb2]at q;refine(I.hok b u q).Jb (fun F w' hc2 z=>C F w' (fun J=>?_) z) (fun F z=>g F _ z (fun ps J=>nomatch J)) fun F xs z=>g F _ z (fun ps J=>nomatch J);rcases hc2 with hc2 | hc2
      ·exact hb2 (hc2▸J)
      ·rw[J,e]at hc2;cases hc2
  refine T G (fun b u q=>?_) (.inr ⟨c',by rw[dY (Ne.symm R),dW],dW⟩) dW;by_cases hb:b=P
  ·rw[hb,fq (by simp)]at q;cases q
  ·rw[el (by simpa using hb)]at q;rw[i b (fun z=>by rw[z,a]at q;cases q) hb];exact q
 ·have l:s.heap.CodeRec (.ref c') (X.env.qual++"<lambda>"):=(show fC X.prog X.w H s.heap c' (.ext fun h=>h.CodeRec (.ref c') (X.env.qual++"<lambda>")) from I.hok c' _ ec).1;refine W.kla_makeFunctionHit (cv:=.ref c') S.clos I.ok.glob D d hC (gP e) trivial (by simp[codeAmong,rawInt]) BA fun ctv h' tk C an=>?_;exact T (I.kept (t':=tk) C) B (.inr ⟨c',e,ec⟩) ec
end
section
variable {pq:List (Addr×Obj)}{d q it S:Addr}{o oq:Obj}{kvs:List (fZ×V)}{es:Array DictEntry}{ep:Nat}{kf:Nat→Int}{R:Result→Shared→Prop}
def sj (X:Cx)(σ:St)(H:Hp)(q:Addr)(oq:Obj)(kvs:List (fZ×V))(kf:Nat→Int):Prop:=∀(i:Nat) (kv:fZ×V),kvs[i]?=some kv→∀(pins:List (Addr×Obj)) (s:Shared) (u:Value),eM X pins σ H s→(q,oq)∈pins→eT (kV kv.1) u→
 wpAny (model X.prog X.w) X.A.in1 (call (.ref q) [u]) (EP X pins σ fun v H'=>v=.int (kf i)∧H'=H) (fun _ _=>False) s
theorem sX {i:Nat}{kv:fZ×V}{u:Value}(a:sj X σ H q oq kvs kf)(y:(q,oq)∈pq)(e:jB X pq H it)(d:jB X pq H S)(o:kvs[i]?=some kv)(C:eT (kV kv.1) u)(I:eM X pq σ H s){oI oS:Obj}(B:s.heap.get? it=some oI)(m:s.heap.get? S=some oS)(j:∀v,oI.data≠.cell v)(l:∀v,oS.data≠.cell v)(h:∀s' t,eM X pq σ H s'→s'.heap.get? it=some oI→s'.heap.get? S=some oS→Q (.int (kf i) t) s'):wpAny (model X.prog X.w) X.A.in1 (call (.ref q) [u]) Q (fun _ _=>False) s:=by
 have J:eM X (pq++[(it,oI),(S,oS)]) σ H s:=I.Jg fun p hp=>by
  rcases ay.mp hp with z | z
  ·exact I.pin p (aI _ z)
  ·rcases ak.mp z with z | z
   ·rw[z];exact⟨B,e.1,e.2.1,e.2.2.1,j⟩
   ·rw[ai.mp z];exact⟨m,d.1,d.2.1,d.2.2.1,l⟩
 refine bO (a i kv o _ s u J (aJ _ y) C) (fun v s' g=>?_) fun _ _ z=>z;obtain⟨E,H',b,r,x,D⟩:=g;subst x D;obtain⟨t,rfl⟩:=(show ∃t,v=Value.int (kf i) t from r);exact h s' t b.Jn (b.pin (it,oI) (aI _ (aI _ (by simp)))).1 (b.pin (S,oS) (aI _ (aI _ (by simp)))).1
theorem Ea (hc:X.calm=true)(hH:H d=some (.frz o (.dK kvs)))(hd:o.data=.dict es ep)(hq:(q,oq)∈pq)(L:S≠it)(B:jB X pq H it)(m:jB X pq H S)(Y:sj X σ H q oq kvs kf)(hR:∀i kv u s',kvs[i]?=some kv→(∀j,j<kvs.length→kf i≤kf j)→eM X pq σ H s'→eT (kV kv.1) u→R (.ok (.ret u)) s'):∀(r j i:Nat) (s:Shared) (vb:Value) (tb:Tok) (c:Nat) (kv:fZ×V),es.size-(j+1)=r→j+1≤es.size→eM X pq σ H s→s.heap.get? S=some (seqObj "list" #[vb,.int (kf i) tb] c)→s.heap.IsKeyIter it d (j+1) es.size ep→kvs[i]?=some kv→eT (kV kv.1) vb→(∀j',j'≤j→kf i≤kf j')→codeAny (model X.prog X.w) X.A (.builtin "min.loop" ⟨[.ref it,.ref q,.ref S],[]⟩) R s:=by
 have l:(toString "min"++toString ".loop" : String) = "min.loop":=by decide
 intro r
 induction r with
 |zero=>
  intro j i s vb tb c kv hr hj I N J hk rk g;obtain⟨ho,_,_,ad,aa,y,hn,p⟩:=mO I.hok hH;rw[hd]at y;cases y;refine codeAny_builtin PySem.F.entry_min_loop ?_;rw[Around.under_plainId PySem.F.plain_min_loop _];show wpAny _ X.A.in1 (seqItems? (.ref S) >>= _) _ _ _;refine ac (wpAny_seqItems N rfl ?_);show wpAny _ X.A.in1 (tryCatch (pyNext (.ref it)) _ >>= _) _ _ _;refine ac (du (uW (show X.A.in1.handled=none from I.ok.hd hc) J ho hd (by omega) fun h' P=>?_));have I1:eM X pq σ H {s with heap:=h'}:=I.turned (t':=s.toks) (fun b o C e=>P b o C e) B.1 B.2.1 B.2.2.2.1 B.2.2.2.2.1 B.2.2.2.2.2;have K:=P S _ L N;have s1:=Heap.SameBut.update h' S (Obj.mapSeq fun _=>(#[]:Array Value));have Z:eM X pq σ H {s with heap:=h'.update S (Obj.mapSeq fun _=>(#[]:Array Value))}:=I1.turned (t':=s.toks) (fun b o C e=>(s1.2 b C).trans e) m.1 m.2.1 m.2.2.2.1 m.2.2.2.2.1 m.2.2.2.2.2;show wpAny _ X.A.in1 (updateSeq S (fun _=>#[]) >>= _) _ _ _;refine ac ?_;refine wpAny_updateSeq K rfl (ac (wpAny_letGo (ar ?_)));exact hR i kv vb _ hk (fun j' T=>g j' (by omega)) Z rk
 |succ r ih=>
  intro j i s vb tb c kv hr hj I N J hk rk g;obtain⟨ho,_,_,ad,aa,y,hn,p⟩:=mO I.hok hH;rw[hd]at y;cases y;have h:j+1<es.size:=by omega
  have D:kvs[j+1]?=some (kvs[j+1]'(by omega)):=am (by omega);refine codeAny_builtin PySem.F.entry_min_loop ?_;rw[Around.under_plainId PySem.F.plain_min_loop _];show wpAny _ X.A.in1 (seqItems? (.ref S) >>= _) _ _ _;refine ac (wpAny_seqItems N rfl ?_);show wpAny _ X.A.in1 (tryCatch (pyNext (.ref it)) _ >>= _) _ _ _;refine ac (du (nG J ho hd h fun h' M sb=>?_));have I1:eM X pq σ H {s with heap:=h'}:=I.turned (t':=s.toks) (fun b o C e=>(sb.2 b C).trans e) B.1 B.2.1 B.2.2.2.1 B.2.2.2.2.1 B.2.2.2.2.2;have K:h'.get? S=_:=(sb.2 S L).trans N;obtain⟨oI,eI,cI,dI⟩:=id M;show wpAny _ X.A.in1 (tryCatch (holding [es[j+1].key] (call (.ref q) [es[j+1].key])) _ >>= _) _ _ _;refine ac (du (bw (bO (sX Y hq B m D (p _ _ h D) I1 eI K (fun v z=>by rw[dI]at z;cases z) (fun v z=>by cases z) (Q:=fun v s'=>∃t,v=Value.int (kf (j+1)) t∧eM X pq σ H s'∧s'.heap.get? it=some oI∧s'.heap.get? S=some (seqObj "list" #[vb,.int (kf i) tb] c)) fun s' t a b e=>⟨t,rfl,a,b,e⟩) (fun x s2 he=>?_) fun _ _ hF=>hF.elim)));obtain⟨E,rfl,Z,U,G⟩:=he;have O:s2.heap.IsKeyIter it d (j+1+1) es.size ep:=⟨oI,U,cI,dI⟩;show wpAny _ X.A.in1 (tryCatch (holding [es[j+1].key,.int (kf (j+1)) E] (richCompare .Lt (.int (kf (j+1)) E) (.int (kf i) tb) >>= _)) _ >>= _) _ _ _;refine ac (du (bw (ac (lt_int ?_))));refine ac (bw (bN ?_));refine ac (wpAny_letGo (ar ?_));by_cases C:kf (j+1)<kf i
  ·have s1:=Heap.SameBut.update s2.heap S (Obj.mapSeq fun _=>#[es[j+1].key,.int (kf (j+1)) E]);obtain⟨c2,hc2⟩:∃c2,(s2.heap.update S (Obj.mapSeq fun _=>#[es[j+1].key,.int (kf (j+1)) E])).get? S=some (seqObj "list" #[es[j+1].key,.int (kf (j+1)) E] c2):=⟨_,get?_update_seq G fun _=>#[es[j+1].key,.int (kf (j+1)) E]⟩;have I3:eM X pq σ H {s2 with heap:=s2.heap.update S (Obj.mapSeq fun _=>#[es[j+1].key,.int (kf (j+1)) E])}:=Z.turned (t':=s2.toks) (fun b o C e=>(s1.2 b C).trans e) m.1 m.2.1 m.2.2.2.1 m.2.2.2.2.1 m.2.2.2.2.2;simp only[C,decide_true,if_true];refine ac ?_;refine wpAny_updateSeq G rfl (ac (wpAny_letGo ?_));rw[l]
   exact ar ⟨plainId_quiet PySem.F.plain_min_loop _,ih (j+1) (j+1) _ _ E c2 _ (by omega) h I3 hc2 ⟨oI,(s1.2 it L.symm).trans U,cI,dI⟩ D (p _ _ h D) fun j' T=>by
    by_cases e:j'=j+1
    ·subst e;exact Int.le_refl _
    ·have:=g j' (by omega);omega⟩
  ·simp only[C,decide_false,cr,if_false];refine ac (wpAny_letGo ?_);rw[l]
   exact ar ⟨plainId_quiet PySem.F.plain_min_loop _,ih (j+1) i _ vb tb c kv (by omega) h Z G O hk rk fun j' T=>by
    by_cases e:j'=j+1
    ·subst e;omega
    ·exact g j' (by omega)⟩
theorem Eb {E:Value→Shared→Prop}(hc:X.calm=true)(I:eM X pq σ H s)(T:H d=some (.frz o (.dK kvs)))(K:0<kvs.length)(hq:(q,oq)∈pq)(r:sj X σ H q oq kvs kf)(hQ:∀i kv u s',kvs[i]?=some kv→(∀j,j<kvs.length→kf i≤kf j)→eM X pq σ H s'→eT (kV kv.1) u→Q u s'):wpAny (model X.prog X.w) X.A (call (.builtin "min") [.ref d] [(Str.ofString "key",.ref q)]) Q E s:=by
 have g:(toString "min"++toString ".loop" : String) = "min.loop":=by decide
 obtain⟨ho,hS,hx,es,ep,N,hn,p⟩:=mO I.hok T;refine kmk_tree PySem.F.kind_min PySem.F.plain_min PySem.F.entry_min (kmk_min_key _ _) ?_;show wpAny _ X.A.in1 (Builtin.Builtins.bindParams "min" ["key","default"] 0 ⟨[],[(Str.ofString "key",.ref q)]⟩ >>= _) _ _ s;refine ac (wpAny_of_eq (show Builtin.Builtins.bindParams "min" ["key","default"] 0 ⟨[],[(Str.ofString "key",.ref q)]⟩=pure [some (.ref q),none] from rfl) (ac (ar ?_)));refine ac (nL ho hx N hS (ac (wpAny_newList ?_ (bp _))));rw[g];generalize h:s.heap.objs.size=it;have z0:s.heap.get? it=none:=h▸bo (aq _);have P:eM X pq σ H {s with heap:=s.heap.push {cls:=.type "dict_keyiterator",data:=.fields #[.ref d,.int 0 0,.int es.size 0,.int ep 0]}}:=I.kept (t':=s.toks) fun b o e=>aC _ e;have D:jB X pq H it:=I.Jt z0 (I.hok.fresh (dz h));have J:(s.heap.push {cls:=.type "dict_keyiterator",data:=.fields #[.ref d,.int 0 0,.int es.size 0,.int ep 0]}).get? it=some {cls:=.type "dict_keyiterator",data:=.fields #[.ref d,.int 0 0,.int es.size 0,.int ep 0]}:=by rw[←h];exact aT _ rfl
 generalize s.heap.push {cls:=.type "dict_keyiterator",data:=.fields #[.ref d,.int 0 0,.int es.size 0,.int ep 0]}=h1 at *;generalize C:h1.objs.size=S;have R:h1.get? S=none:=C▸bo (aq _);have G:S≠it:=fun z=>by rw[z,J]at R;cases R
 have B:jB X pq H S:=P.Jt R (P.hok.fresh (dz C));have I2:eM X pq σ H {s with heap:=h1.push (seqObj "list" #[] 0)}:=P.kept (t':=s.toks) fun b o e=>aC _ e;have gS:(h1.push (seqObj "list" #[] 0)).get? S=some (seqObj "list" #[] 0):=by rw[←C];exact aT _ rfl
 have gI:(h1.push (seqObj "list" #[] 0)).IsKeyIter it d 0 es.size ep:=⟨_,aC _ J,rfl,rfl⟩;have Z:(h1.push (seqObj "list" #[] 0)).get? d=some o:=(mO I2.hok T).1;have l:0<es.size:=by omega
 have m:kvs[0]?=some (kvs[0]'K):=am K;refine ar ⟨plainId_quiet PySem.F.plain_min_loop _,codeAny_builtin PySem.F.entry_min_loop ?_⟩;rw[Around.under_plainId PySem.F.plain_min_loop _];show wpAny _ X.A.in1 (seqItems? (.ref S) >>= _) _ _ {s with heap:=h1.push (seqObj "list" #[] 0)};refine ac (wpAny_seqItems gS rfl ?_);show wpAny _ X.A.in1 (tryCatch (pyNext (.ref it)) _ >>= _) _ _ _;refine ac (du (nG gI Z N l fun h' M sb=>?_));have I3:eM X pq σ H {s with heap:=h'}:=I2.turned (t':=s.toks) (fun b o O e=>(sb.2 b O).trans e) D.1 D.2.1 D.2.2.2.1 D.2.2.2.2.1 D.2.2.2.2.2;have Y:h'.get? S=_:=(sb.2 S G).trans gS;obtain⟨oI,eI,cI,dI⟩:=id M;show wpAny _ X.A.in1 (tryCatch (holding [es[0].key] (call (.ref q) [es[0].key])) _ >>= _) _ _ _;refine ac (du (bw (bO (sX r hq D B m (p _ _ l m) I3 eI Y (fun v z=>by rw[dI]at z;cases z) (fun v z=>by cases z) (Q:=fun v s'=>∃t,v=Value.int (kf 0) t∧eM X pq σ H s'∧s'.heap.get? it=some oI∧s'.heap.get? S=some (seqObj "list" #[] 0)) fun s' t a b e=>⟨t,rfl,a,b,e⟩) (fun x s2 he=>?_) fun _ _ hF=>hF.elim)));obtain⟨y,rfl,I4,U,L⟩:=he;have s1:=Heap.SameBut.update s2.heap S (Obj.mapSeq fun _=>#[es[0].key,.int (kf 0) y]);obtain⟨c2,hc2⟩:∃c2,(s2.heap.update S (Obj.mapSeq fun _=>#[es[0].key,.int (kf 0) y])).get? S=some (seqObj "list" #[es[0].key,.int (kf 0) y] c2):=⟨_,get?_update_seq L fun _=>#[es[0].key,.int (kf 0) y]⟩;have I5:eM X pq σ H {s2 with heap:=s2.heap.update S (Obj.mapSeq fun _=>#[es[0].key,.int (kf 0) y])}:=I4.turned (t':=s2.toks) (fun b o O e=>(s1.2 b O).trans e) B.1 B.2.1 B.2.2.2.1 B.2.2.2.2.1 B.2.2.2.2.2;show wpAny _ X.A.in1 (updateSeq S (fun _=>#[es[0].key,.int (kf 0) y]) >>= _) _ _ _;refine ac ?_;refine wpAny_updateSeq L rfl ?_;rw[g]
 exact ar ⟨plainId_quiet PySem.F.plain_min_loop _,Ea hc T N hq G D B r (fun i kv u s' a b e f=>hQ i kv u s' a b e f) _ 0 0 _ _ y c2 _ rfl l I5 hc2 ⟨oI,(s1.2 it G.symm).trans U,cI,dI⟩ m (p _ _ l m) fun j' aa=>by
  have:j'=0:=by omega
  subst this;exact Int.le_refl _⟩
end
section
variable {c P:Addr}{lp p kp:Pos}{te tb:TE}{k:Nat}
def E7 (qual:Str)(lp:Pos)(P:Addr)(j j':Nat)(te tb:TE):TE:=fun σ H Q=>te σ H fun x H1=>∃d o kvs a b,x=.ref d∧H1 d=some (.frz o (.dK kvs))∧0<kvs.length∧gW qual lp H1 P∧σ[j]?=some (some a)∧σ[j']?=some (some b)∧
 ∀H2,eB (del H1 [P]) H2→gW qual lp H2 P→∃kf:Nat→Int,(∀i kv,kvs[i]?=some kv→tb [some (kV kv.1),some a,some b] H2 fun v H4=>v=.int (kf i)∧H4=H2)∧∀i kv,kvs[i]?=some kv→(∀m,m<kvs.length→kf i≤kf m)→Q (kV kv.1) H2
theorem BE (hc:X.calm=true)(hr:gE (k+2) X.A)(S:EI X scope x y y' cy cy' j j')(B:X.env.code=.ref c)(O:W.codeHdIn X.K c P=true)(BM:sk X.mg X.base)(L:defaultsOf params X.env=([],[]))(hg:Gl X "min")(hm:X.mg "min" = none)(he:PE X e te)(Z:∀(c':Addr) (ctv pm u:Value),bindArgs (W.kla_fn "<lambda>" (X.env.qual++"<lambda>") params body scope [(y,cy),(y',cy')] pm (.ref c') ctv) ⟨[u],[]⟩=pure [(x,u)])(hB:∀q c' s H,PE (HP X X.A.in1 (X.env.qual++"<lambda>") scope q c' [(y,cy),(y',cy')] [x,y,y'] s H) body tb)(hs:starEach [e] X.env=[(false,eval e X.env)]:=by rfl):PE X (.Call (.Name "min" p) [e] [⟨some "key",.Lambda params body scope lp,kp⟩] pos) (E7 (X.env.qual++"<lambda>") lp P j j' te tb):=by
 intro pins s σ H Q I h;refine bU (jS I hg hm PyProof.Rows.Boot.«min» ?_ (by decide) (by decide));refine callWith_kw ?_ (by rw[hs];rfl) (by rw[hs];rfl)
 have hA:=(dU he ee hs) pos pins s σ H (fun vs H1=>match vs with | [x]=>(∃d o kvs a b,x=.ref d∧H1 d=some (.frz o (.dK kvs))∧0<kvs.length∧gW (X.env.qual++"<lambda>") lp H1 P∧σ[j]?=some (some a)∧σ[j']?=some (some b)∧
  ∀H2,eB (del H1 [P]) H2→gW (X.env.qual++"<lambda>") lp H2 P→∃kf:Nat→Int,(∀i g,kvs[i]?=some g→tb [some (kV g.1),some a,some b] H2 fun v H4=>v=.int (kf i)∧H4=H2)∧∀i g,kvs[i]?=some g→(∀m,m<kvs.length→kf i≤kf m)→Q (kV g.1) H2) | _=>False) I h
 refine fG hA ?_;rintro us s1 ⟨vs,H1,I1,r,U⟩
 match vs,r,U with
 |[xv],r,⟨d,o,kvs,a,b,e2,hd,hne,hT,ea,eb,hq⟩=>
  subst e2;obtain⟨u,rfl,Y⟩:=jm r;cases (show u=Value.ref d from Y);refine kws_cons (zO S B O BM L I1 hT fun q c' ctv s2 H2 I2 T J N=>kws_nil ?_);obtain⟨kf,hk,hQ⟩:=hq H2 T J;have M:d≠P:=fun z=>by
   rcases hT with w | ⟨_,w,_⟩ <;> (rw[←z,hd]at w;cases w)
  have F:H2 d=some (.frz o (.dK kvs)):=T _ _ (by rw[el (by simpa using M)];exact hd);refine Eb (kf:=kf) hc I2 F hne (aI _ (ai.mpr rfl)) (fun i g hi pins' E u' t hp R=>?_) fun i g u' E hi l t R=>⟨kV g.1,H2,t.Jn,R,hQ i g hi l⟩;have D:E.heap.CodeRec (.ref c') (X.env.qual++"<lambda>"):=(show fC X.prog X.w H2 E.heap c' (.ext fun h=>h.CodeRec (.ref c') (X.env.qual++"<lambda>")) from t.hok c' _ N).1;have G:X.A.in1.frames=some X.stack:=t.ok.frames;refine wpAny_call (codeAny_mono (zP (k:=k) S G hr.in1 t (t.pin _ (aI _ hp)).1 D (Z c' ctv _) ea eb R (hB q c' E H2) (hk i g hi)) fun rr s4 C=>?_);cases rr with
  |error e=>exact(show False from C).elim
  |ok fl=>
   cases fl with
   |ret u2=>exact t.after C
   |next=>exact False.elim C
   |brk=>exact False.elim C
   |cont=>exact False.elim C
end
section
variable {C:Addr}{o value:Expr}{f m:Str}{pos' tpos apos:Pos}{ta tv:TE}{t:TA}{es:List Expr}
inductive Ir (C:Addr)(f:Str)(Q:VK)(x:V)(H1:Hp):Prop
 |mk (a dx fs v:_)(_:x=.ref a)(_:H1 a=some (.ins C dx fs))(_:fs.lookup f=some v)(_:Q v H1):Ir C f Q x H1
def tF (C:Addr)(f:Str)(ta:TE):TE:=fun σ H Q=>ta σ H fun x H1=>Ir C f Q x H1
theorem eD (c:pV X.K C)(n:fF X.K C f)(i:PE X e ta)(hb:attributeBase e f X.env (eval e X.env)=eval e X.env:=by rfl):PE X (.Attribute e f pos) (tF C f ta):=by
 intro pins s σ H Q I h;refine wj hb (fG (i pins s σ H _ I h) ?_);rintro u o ⟨x,H1,d,b,a,dx,fs,v,ex,j,l,q⟩;subst ex;obtain rfl:u=Value.ref a:=b;exact lq d j c n l fun r p m g=>⟨v,H1,m,g,q⟩
inductive Iv (C:Addr)(f:Str)(D:lV)(σ:St)(y:V)(x:V)(H2:Hp):Prop
 |mk (a dx fs:_)(_:x=.ref a)(_:H2 a=some (.ins C dx fs))(_:fs.length<1000)(_:D.nx σ (upd H2 a (.ins C dx (fM f y fs)))):Iv C f D σ y x H2
def sF (C:Addr)(f:Str)(ta tv:TE):TS:=fun D σ H=>tv σ H fun y H1=>ta σ H1 fun x H2=>Iv C f D σ y x H2
theorem jl (c:pV X.K C)(n:fF X.K C f)(p:PE X o ta)(m:PE X value tv)(hs:swapsWith value (some (.Attribute o f pos')) pos.line X.env=pure false:=by rfl):PS X (.Assign [.Attribute o f pos'] value pos) (sF C f ta tv):=by
 intro pins s σ H D I h;refine plainObj_wpAny_Assign_Attribute (fG (m pins s σ H _ I h) ?_) hs;rintro u b ⟨y,H1,e,g,q⟩;refine fG (p pins b σ H1 _ e q) ?_;rintro i z ⟨x,H2,t,d,a,dx,fs,ex,r,l,v⟩;subst ex;obtain rfl:i=Value.ref a:=d;exact kZ t r c n l g fun w j=>⟨σ,_,j,v⟩
inductive AW (C:Addr)(f:Str)(tv:TE)(rd:V→V→Hp→VK→Prop)(D:lV)(σ:St)(x:V)(H1:Hp):Prop
 |mk (a dx fs v:_)(_:x=.ref a)(_:H1 a=some (.ins C dx fs))(_:fs.lookup f=some v)(_:tv σ H1 fun y H2=>rd v y H2 fun z H3=>∃dx' fs',H3 a=some (.ins C dx' fs')∧fs'.length<1000∧D.nx σ (upd H3 a (.ins C dx' (fM f z fs')))):AW C f tv rd D σ x H1
def Fw (C:Addr)(f:Str)(ta tv:TE)(rd:V→V→Hp→VK→Prop):TS:=fun D σ H=>ta σ H fun x H1=>AW C f tv rd D σ x H1
theorem BB {op:Operator}{rd:V→V→Hp→VK→Prop}(c:pV X.K C)(n:fF X.K C f)(M:PE X o ta)(J:PE X value tv)(b:EN X op rd):PS X (.AugAssign (.Attribute o f tpos) op value pos) (Fw C f ta tv rd):=by
 intro pins s σ H D I h;refine wpAny_AugAssign_AttributeAny (fG (M pins s σ H _ I h) ?_);rintro B T ⟨x,H1,i,A,a,dx,fs,v,ex,P,l,q⟩;subst ex;obtain rfl:B=Value.ref a:=A;refine lq i P c n l fun u m t L=>fG (J pins m σ H1 _ t q) ?_;rintro e G ⟨y,H2,j,E,r⟩;refine fG (b pins G σ H2 v y u e _ j L E r) ?_;rintro Q R ⟨z,S,g,F,O,fs',d,N,w⟩;exact kZ g d c n N F fun U p=>⟨σ,_,p,w⟩
end
structure Mt (P:Program)(w:World)(K:W.Frag)(mg:Str→Option Value)(base:Heap)(C:Addr)(CX:wT)(k:Nat)(m:Str)(ps:List Str)(sp:Sp):Prop where
 cl:pV K C
 ex:∃g gd,fb P w K mg base CX k g gd ps sp∧gs K gd ps []∧yh K C m g
section
variable {CX:wT}{k:Nat}{C:Addr}{o:Expr}{es:List Expr}{m:Str}{ps:List Str}{sp:Sp}{E:XK}{apos:Pos}{ta:TE}{t:TA}
theorem gY {pl:Sem Bool}(M:Mt X.prog X.w X.K X.mg X.base C CX k m ps sp)(h:gE k X.A)(i:jA CX X E)(a:PE X o ta)(d:PA X (e::es) t)(hst:starEach (e::es) X.env=(false,eval e X.env)::starEach es X.env:=by rfl)(hpl:(backTo pos (starEach es X.env)).any (·.1)=false:=by rfl)(ht:eval (.Call (.Attribute o m apos) (e::es) [] pos) X.env=(do
   let ov ←eval o X.env
   standAt apos.atName
   let (f,first) ←holding [ov] (getMethod ov m pl)
   callWith pos f first (backTo pos (starEach (e::es) X.env)) (backToKw pos (keywordEach [] X.env))):=by rfl) :
  PE X (.Call (.Attribute o m apos) (e::es) [] pos) (sw C m sp [] E ta t):=by
 obtain⟨g,gd,F,b,j⟩:=M.ex;exact BF a M.cl j F h b .nil i d hst hpl ht
theorem qd {pl:Sem Bool}(M:Mt X.prog X.w X.K X.mg X.base C CX k m ps sp)(d:gE k X.A)(e:jA CX X E)(a:PE X o ta)(ht:eval (.Call (.Attribute o m apos) [] [] pos) X.env=(do
   let ov ←eval o X.env
   standAt apos.atName
   let (f,first) ←holding [ov] (getMethod ov m pl)
   callWith pos f first (backTo pos (starEach [] X.env)) (backToKw pos (keywordEach [] X.env))):=by rfl) :
  PE X (.Call (.Attribute o m apos) [] [] pos) (sw C m sp [] E ta wW):=by
 obtain⟨g,gd,F,b,h⟩:=M.ex;exact zc a M.cl h F d b .nil e ht
end
end L2
namespace FB
open PySem L2 PyProof.Rows
variable {H H':Hp}{a:Addr}{v:V}{w:Option Pk}{x:Str}
def dZ.Who (c:dZ)(w:Option Pk):Prop:=∀k,w=some k→k∈c.ks
def dZ.Ka (c:dZ)(w:Option Pk)(k:Pk):Bool:=(c.needs w).any fun n=>pS n k
theorem dZ.Kb {c:dZ}{k:Pk}:c.Ka w k=true↔c.JO w k:=by
 unfold dZ.Ka dZ.JO;rw[dC]
def dZ.Kc (c:dZ)(x:Str):Nat:=c.maskOf fun k=>decide (k.1=x)
def jf (ns:List Nd)(x:Str)(v:Int):Bool:=ns.all fun n=>!decide (n.1=x)||jV n v
def dZ.Kd (c:dZ)(w:Option Pk)(x:Str):Nat:=c.maskOf fun k=>decide (k.1=x)&&jf (c.needs w) x k.2
def dZ.Ke (c:dZ)(w:Option Pk):Nat:=c.maskOf (c.Ka w)
def dZ.Kf (c:dZ):Option Pk→Nat
 |none=>c.Ke none
 |some k=>c.maskOf fun j=>c.Ka (some k) j||c.Ka (some j) k
theorem dZ.Kg {c:dZ}{k:Pk}:c.has (c.Kc x) k↔k∈c.ks∧k.1=x:=by
 unfold dZ.Kc;rw[dZ.JM,aA]
theorem dZ.Kh {c:dZ}{k:Pk}:c.has (c.Ke w) k↔k∈c.ks∧c.JO w k:=by
 unfold dZ.Ke;rw[dZ.JM,dZ.Kb]
theorem dZ.Ki {c:dZ}{j k:Pk}:c.has (c.Kf (some k)) j↔j∈c.ks∧c.foe k j:=by
 show c.has (c.maskOf _) j↔_;rw[dZ.JM,dm,dZ.Kb,dZ.Kb];exact Iff.rfl
theorem dZ.Kj (c:dZ)(w:Option Pk):c.Kf w<2^c.n:=by
 cases w <;> exact c.JN _
theorem lh {ns:List Nd}{v:Int}:jf ns x v=true↔∀n∈ns,n.1=x→jV n v=true:=by
 unfold jf;rw[cZ];refine forall_congr' fun n=>forall_congr' fun _=>?_;rw[dm,bJ,decide_eq_false_iff_not];exact⟨fun h e=>h.resolve_left fun z=>z e,fun h=>(Decidable.em (n.1=x)).elim (fun z=>.inr (h z)) .inl⟩
theorem dZ.Kk {c:dZ}(h:c.Who w):c.Jw w<2^c.n:=by
 cases w with
 |none=>exact bE _
 |some k=>exact c.JH (h k rfl)
theorem dZ.Kl {c:dZ}(h:c.Who w){j:Pk}:c.has (c.Jw w) j↔w=some j:=by
 cases w with
 |none=>exact⟨fun z=>(dZ.JG z).elim,fun z=>by cases z⟩
 |some k=>rw[show c.Jw (some k)=c.bit k from rfl,dZ.JF (h k rfl)];exact⟨fun z=>by rw[z],fun z=>(Option.some.inj z).symm⟩
theorem DY {a b:Nat}(h:a &&& b=0):a ||| b=a+b:=by
 have h1:=bitOr_and (a:Int) (b:Int);rw[wg,mw,h]at h1
 lia
theorem dZ.Km {c:dZ}:∀(l:List Pk),l.Nodup→(∀k∈l,k∈c.ks)→(l.map fun k=>(c.bit k:Int)).sum=(c.maskOf fun k=>decide (k∈l):Nat)
 |[],_,_=>by
  have:c.maskOf (fun k=>decide (k∈([]:List Pk)))=0:=dZ.JI (c.JN _) fun k hk=>by
   have:=(dZ.JM.mp hk).2;simp at this
  rw[this];rfl
 |x::l,hn,hk=>by
  rw[aU]at hn;have ih:=dZ.Km l hn.2 fun k h=>hk k (by simp[h]);have hx:=hk x (by simp);rw[aD,List.sum_cons,ih];have e:c.maskOf (fun k=>decide (k∈x::l))=c.bit x ||| c.maskOf (fun k=>decide (k∈l)):=by
   refine dZ.ext (c.JN _) (i4 (c.JH hx) (c.JN _)) fun k=>?_;rw[dZ.JC,dZ.JM,dZ.JM,dZ.JF hx,aA,aA,ak]
   constructor
   ·rintro⟨h1,h2 | h2⟩
    ·exact .inl h2
    ·exact .inr ⟨h1,h2⟩
   ·rintro(h | ⟨h1,h2⟩)
    ·exact⟨h▸hx,.inl h⟩
    ·exact⟨h1,.inr h2⟩
  have d:c.bit x &&& c.maskOf (fun k=>decide (k∈l))=0:=dZ.JI (mx (c.JH hx)) fun k h=>by
   obtain⟨h1,h2⟩:=dZ.JD.mp h;rw[(dZ.JF hx).mp h1]at h2;exact hn.1 (bc (dZ.JM.mp h2).2)
  rw[e,DY d]
  lia
def fc (w:Option Pk):fB:=w.map ja
theorem ie {v:Option Pk}(h:fc v=fc w):v=w:=by
 cases v with
 |none=>cases w with
  |none=>rfl
  |some k=>cases h
 |some j=>cases w with
  |none=>cases h
  |some k=>exact congrArg some (pj (Option.some.inj h))
theorem gr.key (h:gr H v w):kO H (fc w) v:=by
 cases w with
 |none=>exact h
 |some k=>obtain⟨q,rfl,e⟩:=(show fj H v k from h);exact⟨q,rfl,e⟩
theorem gr.of (h:kO H (fc w) v):gr H v w:=by
 cases w with
 |none=>exact h
 |some k=>obtain⟨q,rfl,e⟩:=(show ∃b,v=.ref b∧H b=some (.tup ((ja k).map kV)) from h);exact⟨q,rfl,e⟩
def gZ (H:Hp)(a:Addr)(c:dZ)(g:Option Pk→Nat):Prop:=∃kvs,Rd H a (.dN kvs)∧∀w,c.Who w→eN kvs (fc w)=some (.int (g w))
def jK (H:Hp)(a:Addr)(c:dZ)(g:Option Pk→Nat):Prop:=∃kvs,Rd H a (.dN kvs)∧(∀kv∈kvs,∃w,c.Who w∧kv.1=fc w)∧∀w,c.Who w→eN kvs (fc w)=some (.int (g w))
theorem jK.to {c:dZ}{g:Option Pk→Nat}(h:jK H a c g):gZ H a c g:=(by obtain⟨kvs,h1,_,h3⟩:=h;exact⟨kvs,h1,h3⟩)
def nr (H:Hp)(a:Addr)(c:dZ):Prop:=∃kvs,Rd H a (.dK kvs)∧∀k∈c.ks,∃v,eN kvs (Sum.inl (c.bit k:Int))=some v∧fj H v k
def kN (H:Hp)(a:Addr)(c:dZ):Prop:=∃kvs,Rd H a (.dK kvs)∧∀x:Str,(eN kvs (Sum.inr x)).getD (.int 0)=.int (c.Kc x)∧((∃k∈c.ks,k.1=x)→eN kvs (Sum.inr x)=some (.int (c.Kc x)))
def iK (H:Hp)(d:Addr)(c:dZ)(w:Option Pk):Prop:=∃o akv,H d=some (.frz o (.dK akv))∧akv.map (·.1)=(eJ (c.needs w)).map Sum.inr∧∀x∈eJ (c.needs w),eN akv (Sum.inr x)=some (.int (c.Kd w x))
def so (H:Hp)(a:Addr)(c:dZ):Prop:=∃kvs,Rd H a (.dN kvs)∧∀w,c.Who w→∃d,eN kvs (fc w)=some (.ref d)∧iK H d c w
theorem gZ.same (e:eB H H'){c:dZ}{g:Option Pk→Nat}(h:gZ H a c g):gZ H' a c g:=(by obtain⟨kvs,h1,h2⟩:=h;exact⟨kvs,hU e h1,h2⟩)
theorem jK.same (e:eB H H'){c:dZ}{g:Option Pk→Nat}(h:jK H a c g):jK H' a c g:=(by obtain⟨kvs,h1,h2⟩:=h;exact⟨kvs,hU e h1,h2⟩)
theorem kN.same (e:eB H H'){c:dZ}(h:kN H a c):kN H' a c:=(by obtain⟨kvs,h1,h2⟩:=h;exact⟨kvs,hU e h1,h2⟩)
theorem iK.same (e:eB H H'){d:Addr}{c:dZ}(h:iK H d c w):iK H' d c w:=(by obtain⟨o,akv,h1,h2⟩:=h;exact⟨o,akv,e _ _ h1,h2⟩)
theorem so.same (e:eB H H'){c:dZ}(h:so H a c):so H' a c:=(by obtain⟨kvs,h1,h2⟩:=h;exact⟨kvs,hU e h1,fun w hw=>(by obtain⟨d,g1,g2⟩:=h2 w hw;exact⟨d,g1,g2.same e⟩)⟩)
theorem gZ.get {c:dZ}{g:Option Pk→Nat}(h:gZ H a c g)(hw:c.Who w)(hv:gr H v w):iq H a v (some (.int (g w))):=(by obtain⟨kvs,h1,h2⟩:=h;exact⟨kvs,fc w,h1,hv.key,(h2 w hw).symm⟩)
theorem jK.get {c:dZ}{g:Option Pk→Nat}(h:jK H a c g)(hw:c.Who w)(hv:gr H v w):iq H a v (some (.int (g w))):=h.to.get hw hv
theorem so.get {c:dZ}(h:so H a c)(hw:c.Who w)(hv:gr H v w):∃d,iq H a v (some (.ref d))∧iK H d c w:=let ⟨kvs,h1,h2⟩:=h;(by obtain⟨d,g1,g2⟩:=h2 w hw;exact⟨d,⟨kvs,fc w,h1,hv.key,g1.symm⟩,g2⟩)
theorem kN.get {c:dZ}(h:kN H a c)(x:Str):∃o,hJ H a (.str x) o∧o.getD (.int 0)=.int (c.Kc x):=(by obtain⟨kvs,h1,h2⟩:=h;exact⟨_,.inl ⟨kvs,Sum.inr x,h1,rfl,rfl⟩,(h2 x).1⟩)
theorem kN.isD {c:dZ}(h:kN H a c):Gs H a:=(by obtain⟨kvs,h1,_⟩:=h;exact .inl ⟨kvs,h1⟩)
theorem iK.get {d:Addr}{c:dZ}(h:iK H d c w)(hx:x∈eJ (c.needs w)):hJ H d (.str x) (some (.int (c.Kd w x))):=(by obtain⟨o,akv,h1,_,h3⟩:=h;exact .inl ⟨akv,Sum.inr x,.inr ⟨o,h1⟩,rfl,(h3 x hx).symm⟩)
abbrev EC (b bits by_ ofp al sh fo:Addr):List (Str×V):=[("board",.ref b),("bits",.ref bits),("by_bit",.ref by_),("of_part",.ref ofp),("allowed",.ref al),("shut_out",.ref sh),("foes",.ref fo)]
inductive ue (CB CC:Addr)(H:Hp)(p:Addr)(c:dZ):Prop
 |mk (dx b bits by_ ofp al sh fo st:_)(_:H p=some (.ins CC dx (EC b bits by_ ofp al sh fo)))(_:fV CB H b st c.es)(_:gB H st c.sn)(_:gZ H bits c c.Jw)(_:nr H by_ c)(_:kN H ofp c)(_:so H al c)(_:gZ H sh c c.Ke)(_:jK H fo c c.Kf):ue CB CC H p c
structure im (CB CC:Addr)(H:Hp)(p:Addr)(c:dZ):Prop where
 ex:ue CB CC H p c
structure TC (K:W.Frag)(mg:Str→Option Value)(C:Addr):Prop where
 cl:pV K C
 nBoard:fF K C "board"
 nBits:fF K C "bits"
 nBy:fF K C "by_bit"
 nOf:fF K C "of_part"
 nAl:fF K C "allowed"
 nSh:fF K C "shut_out"
 nFo:fF K C "foes"
 sorted:mg "sorted" = none
 max:mg "max" = none
 min:mg "min" = none
 sum:mg "sum" = none
end FB
namespace L2
open PySem PySem.Spec PyProof.Rows FB
variable {H H':Hp}{b:Addr}
def er (H H':Hp):Prop:=∀b u,H b=some u→H' b=some u∨(Cy u∧∃o,H' b=some (.frz o u))
theorem eB.toF (e:eB H H'):er H H':=fun b u h=>.inl (e b u h)
theorem er.refl (H:Hp):er H H:=fun _ _ h=>.inl h
theorem er.trans {H1 H2:Hp}(a:er H H1)(b:er H1 H2):er H H2:=fun c u h=>by
 rcases a c u h with z | ⟨f,o,z⟩
 ·exact b c u z
 ·rcases b c _ z with y | ⟨g,_⟩
  ·exact .inr ⟨f,o,y⟩
  ·exact g.elim
theorem er.no (e:er H H'){u:HO}(h:H b=some u)(n:¬Cy u):H' b=some u:=(e b u h).resolve_right fun z=>n z.1
theorem er.lst (e:er H H'){xs:List V}(h:H b=some (.lst xs)):H' b=some (.lst xs):=e.no h fun z=>z
theorem er.tup (e:er H H'){xs:List V}(h:H b=some (.tup xs)):H' b=some (.tup xs):=e.no h fun z=>z
theorem er.ins (e:er H H'){C dx:Addr}{fs:List (Str×V)}(h:H b=some (.ins C dx fs)):H' b=some (.ins C dx fs):=e.no h fun z=>z
theorem er.frz (e:er H H'){o:Obj}{u:HO}(h:H b=some (.frz o u)):H' b=some (.frz o u):=e.no h fun z=>z
theorem er.rd (e:er H H'){u:HO}(h:Rd H b u):Rd H' b u:=by
 rcases h with h | ⟨o,h⟩
 ·rcases e b u h with z | ⟨_,o,z⟩
  ·exact .inl z
  ·exact .inr ⟨o,z⟩
 ·exact .inr ⟨o,e.frz h⟩
theorem er.free (e:er H H')(h:H' b=Option.none):H b=Option.none:=by
 cases q:H b with
 |none=>rfl
 |some u=>
  rcases e b u q with z | ⟨_,o,z⟩
  ·rw[z]at h;cases h
  ·rw[z]at h;cases h
theorem er.upd (e:er H H'){u:HO}(h:H b=Option.none):er H (upd H' b u):=fun c v q=>by
 have:c≠b:=fun z=>by rw[z,h]at q;cases q
 rcases e c v q with z | ⟨f,o,z⟩
 ·exact .inl (by rw[dY this];exact z)
 ·exact .inr ⟨f,o,by rw[dY this];exact z⟩
section
variable {X:Cx}{tg l:Expr}{tl:TE}
inductive Dr (R:It→Hp→Prop)(x:V)(H1:Hp):Prop
 |mk (a kvs:_)(_:x=.ref a)(_:Rd H1 a (.dK kvs))(_:∀o H2,er H1 H2→(∀b,b≠a→H2 b=H1 b)→H2 a=some (.frz o (.dK kvs))→R (EL a o kvs) H2):Dr R x H1
def HK (tl:TE):TI:=fun σ H R=>tl σ H fun x H1=>Dr R x H1
inductive Dq (R:It→Hp→Prop)(x:V)(H1:Hp):Prop
 |mk (a kvs:_)(_:x=.ref a)(_:Rd H1 a (.dN kvs))(_:∀o H2,er H1 H2→(∀b,b≠a→H2 b=H1 b)→H2 a=some (.frz o (.dN kvs))→R (EU a o kvs) H2):Dq R x H1
def HJ (tl:TE):TI:=fun σ H R=>tl σ H fun x H1=>Dq R x H1
theorem p7 {a:Addr}{u:HO}{o:Obj}(e:H a=some u)(hu:Cy u):er H (upd H a (.frz o u)):=fun b v h=>by
 by_cases hb:b=a
 ·subst hb;rw[e]at h;cases h;exact .inr ⟨hu,o,dW⟩
 ·exact .inl (by rw[dY hb];exact h)
theorem DV (B:PE X l tl):PI X tg l (HK tl):=by
 intro pins s σ H R I h;refine fG (B pins s σ H _ I h) ?_;rintro v i ⟨x,H1,p,t,a,kvs,ex,d,q⟩;subst ex;cases (show v=Value.ref a from t);have r:∀(o:Obj) (H2:Hp),eM X pins σ H2 i→H2 a=some (.frz o (.dK kvs))→R (EL a o kvs) H2→wpAny (model X.prog X.w) X.A (pyIter (.ref a)) (GN X pins σ tg R) X.xe i:=fun o H2 g y F=>by
  obtain⟨z,E,C,es,ep,m,D,_⟩:=mO g.hok y;refine nL z C m E ⟨i.heap.objs.size,[i.heap.objs.size],_,_,H2,rfl,g.kept (t':=i.toks) fun b o e=>aC _ e,vF a _ o es ep kvs m D,⟨_,aT _ rfl,rfl,rfl⟩,fun b j=>?_,F⟩
  rw[ai.mp j];exact g.Jm (aq _) (g.hok.fresh (aq _))
 rcases d with d | ⟨o,d⟩
 ·obtain⟨o,_,g⟩:=p.freeze d trivial;exact r o _ g dW (q o _ (p7 d trivial) (fun b j=>dY j) dW)
 ·exact r o H1 p d (q o H1 (er.refl _) (fun _ _=>rfl) d)
theorem rH (B:PE X l tl):PI X tg l (HJ tl):=by
 intro pins s σ H R I h;refine fG (B pins s σ H _ I h) ?_;rintro v i ⟨x,H1,p,t,a,kvs,ex,d,q⟩;subst ex;cases (show v=Value.ref a from t);have r:∀(o:Obj) (H2:Hp),eM X pins σ H2 i→H2 a=some (.frz o (.dN kvs))→R (EU a o kvs) H2→wpAny (model X.prog X.w) X.A (pyIter (.ref a)) (GN X pins σ tg R) X.xe i:=fun o H2 g y F=>by
  obtain⟨z,E,C,es,ep,m,D,_⟩:=Aa g.hok y;refine nL z C m E ⟨i.heap.objs.size,[i.heap.objs.size],_,_,H2,rfl,g.kept (t':=i.toks) fun b o e=>aC _ e,Bd a _ o es ep kvs m D,⟨_,aT _ rfl,rfl,rfl⟩,fun b j=>?_,F⟩
  rw[ai.mp j];exact g.Jm (aq _) (g.hok.fresh (aq _))
 rcases d with d | ⟨o,d⟩
 ·obtain⟨o,_,g⟩:=p.freeze d trivial;exact r o _ g dW (q o _ (p7 d trivial) (fun b j=>dY j) dW)
 ·exact r o H1 p d (q o H1 (er.refl _) (fun _ _=>rfl) d)
end
end L2
namespace FB
open PySem L2 PyProof.Rows
variable {G G' H H':Hp}{L:ic}{O O' Ol:List Addr}{a b p pp:Addr}{j m pm:Nat}{kl:List Pk}{kvp:List (fB×V)}{v:V}{w:Option Pk}{x:Str}
section
variable {H H':Hp}(e:er H H')
include e
theorem fj.f {k:Pk}(h:fj H v k):fj H' v k:=(by obtain⟨q,h1,h2⟩:=h;exact⟨q,h1,e.tup h2⟩)
theorem fA.f {n:Nd}(h:fA H v n):fA H' v n:=(by obtain⟨q,h1,h2⟩:=h;exact⟨q,h1,e.tup h2⟩)
theorem gB.f {ns:List Nd}(h:gB H a ns):gB H' a ns:=(by obtain⟨xs,h1,h2⟩:=h;exact⟨xs,e.lst h1,Paired.Ja h2 fun _ _ z=>fA.f e z⟩)
theorem lT.f {kv:fB×V}{n:En}(h:lT H kv n):lT H' kv n:=(by obtain⟨h1,a,zs,h2,h3,h4⟩:=h;exact⟨h1,a,zs,h2,e.lst h3,Paired.Ja h4 fun _ _ z=>fA.f e z⟩)
theorem fV.f {C st:Addr}{es:List En}(h:fV C H p st es):fV C H' p st es:=by
 obtain⟨dx,g,j,a,vk,h1,h2,m,q,r⟩:=h.ex;refine⟨dx,g,j,a,vk,e.ins h1,e.rd h2,Paired.Ja m fun _ _ z=>lT.f e z,e.rd q,fun x=>?_⟩;rcases r x with z | ⟨l,b,i,o,s,d⟩
 ·exact .inl z
 ·exact .inr ⟨l,b,i,e.lst o,s,d⟩
theorem gZ.f {c:dZ}{g:Option Pk→Nat}(h:gZ H a c g):gZ H' a c g:=(by obtain⟨kvs,h1,h2⟩:=h;exact⟨kvs,e.rd h1,h2⟩)
theorem jK.f {c:dZ}{g:Option Pk→Nat}(h:jK H a c g):jK H' a c g:=(by obtain⟨kvs,h1,h2⟩:=h;exact⟨kvs,e.rd h1,h2⟩)
theorem nr.f {c:dZ}(h:nr H a c):nr H' a c:=(by obtain⟨kvs,h1,h2⟩:=h;exact⟨kvs,e.rd h1,fun k hk=>(by obtain⟨v,g1,g2⟩:=h2 k hk;exact⟨v,g1,fj.f e g2⟩)⟩)
theorem kN.f {c:dZ}(h:kN H a c):kN H' a c:=(by obtain⟨kvs,h1,h2⟩:=h;exact⟨kvs,e.rd h1,h2⟩)
theorem iK.f {d:Addr}{c:dZ}(h:iK H d c w):iK H' d c w:=(by obtain⟨o,akv,h1,h2⟩:=h;exact⟨o,akv,e.frz h1,h2⟩)
theorem so.f {c:dZ}(h:so H a c):so H' a c:=(by obtain⟨kvs,h1,h2⟩:=h;exact⟨kvs,e.rd h1,fun w hw=>(by obtain⟨d,g1,g2⟩:=h2 w hw;exact⟨d,g1,g2.f e⟩)⟩)
theorem im.f {CB CC:Addr}{c:dZ}(h:im CB CC H p c):im CB CC H' p c:=by
 obtain⟨dx,b,bits,d,a,i,l,o,st,h1,h2,j,r,t,m,s,g,q⟩:=h.ex;exact⟨dx,b,bits,d,a,i,l,o,st,e.ins h1,h2.f e,j.f e,r.f e,t.f e,m.f e,s.f e,g.f e,q.f e⟩
theorem gr.f {o:Option Pk}(h:gr H v o):gr H' v o:=by
 cases o with
 |none=>exact h
 |some k=>exact fj.f e h
end
theorem py {ps:List Addr}{u:HO}(h:b∈ps):del (upd H b u) ps=del H ps:=by
 funext x
 unfold del;by_cases hx:x∈ps
 ·rw[if_pos hx,if_pos hx]
 ·rw[if_neg hx,if_neg hx,dY (fun z:x=b=>hx (by rw[z];exact h))]
theorem EA {es:List En}(sn:List Nd){ks:List Pk}(hn:(es.map eL).Nodup)(hp:ks.Perm (es.map eL))(ho:ks.Pairwise fun a b=>pQ a b=true):∃c:dZ,c.es=es∧c.sn=sn∧c.ks=ks:=
 ⟨⟨es,sn,ks,fun k=>hp.mem_iff,hp.nodup_iff.mpr hn,hp,ho,fun i j a b hi hj hij e=>by
  obtain⟨h1,e1⟩:=af.mp hi;obtain⟨h2,e2⟩:=af.mp hj;have:=List.pairwise_iff_getElem.mp ho i j h1 h2 hij;rw[e1,e2]at this;unfold pQ at this;rw[if_pos e]at this
  exact bc this⟩,rfl,rfl,rfl⟩
structure iu (G H:Hp)(O:List Addr)(G' H':Hp)(O':List Addr):Prop where
 gg:er G G'
 gh:er G' H'
 gn:∀a,G a=none→G' a≠none→H a=none
 on:∀a∈O',a∈O∨H a=none
 fr:er (del H O) H'
 lv:∀a,H' a=none→H a=none
theorem iu.refl (h:er G H):iu G H O G H O:=⟨er.refl _,h,fun a e n=>absurd e n,fun a h=>.inl h,(eU _ _).toF,fun _ h=>h⟩
theorem iu.trans {G1 H1 G2 H2:Hp}{O1 O2:List Addr}(a:iu G H O G1 H1 O1)(b:iu G1 H1 O1 G2 H2 O2):iu G H O G2 H2 O2:=by
 refine⟨a.gg.trans b.gg,b.gh,fun x e n=>?_,fun x l=>?_,fun x u e=>?_,fun x e=>a.lv x (b.lv x e)⟩
 ·cases h1:G1 x with
  |some u=>exact a.gn x e (by rw[h1];exact fun z=>nomatch z)
  |none=>exact a.lv x (b.gn x h1 n)
 ·rcases b.on x l with z | z
  ·exact a.on x z
  ·exact .inr (a.lv x z)
 ·have g:x∉O:=fun z=>by rw[fq z]at e;cases e
  have j:H x=some u:=by rw[el g]at e;exact e
  have d:x∉O1:=fun z=>by
   rcases a.on x z with y | y
   ·exact g y
   ·rw[j]at y;cases y
  rcases a.fr x u e with z | ⟨i,o,h⟩
  ·exact b.fr x u (by rw[el d];exact z)
  ·exact .inr ⟨i,o,b.fr.frz (by rw[el d];exact h)⟩
theorem iu.same (h:er G H)(e:eB H H'):iu G H O G H' O:=⟨er.refl _,h.trans e.toF,fun a e n=>absurd e n,fun a h=>.inl h,((eU _ _).trans e).toF,fun _ h=>e.free h⟩
theorem iu.put {u:HO}(h:er G H)(e:H a=none):iu G H O (upd G a u) (upd H a u) O:=by
 refine⟨(er.refl G).upd (h.free e),fun x v q=>?_,fun x g n=>?_,fun x b=>.inl b,fun x v q=>?_,fun x q=>?_⟩
 ·by_cases z:x=a
  ·subst z;rw[dW]at q ⊢;exact .inl q
  ·rw[dY z]at q ⊢;exact h x v q
 ·by_cases z:x=a
  ·rw[z];exact e
  ·rw[dY z]at n;exact absurd g n
 ·refine .inl ?_;have:H x=some v:=eU _ _ x v q;rw[dY (d0 this e)];exact this
 ·by_cases z:x=a
  ·subst z;exact e
  ·rw[dY z]at q;exact q
theorem iu.keep (g:iu G H O G' H' O'){u:HO}(n:a∉O)(e:H a=some u)(f:¬Cy u):H' a=some u:=g.fr.no (by rw[el n];exact e) f
theorem iu.out (g:iu G H O G' H' O'){u:HO}(n:a∉O)(e:H a=some u):a∉O':=fun z=>by
 rcases g.on a z with y | y
 ·exact n y
 ·rw[e]at y;cases y
theorem iu.off (g:iu G H O G' H' O'){u:HO}(n:G a=none)(e:H a=some u):G' a=none:=by
 cases h:G' a with
 |none=>rfl
 |some v=>
  have:=g.gn a n (by rw[h];exact fun z=>nomatch z);rw[e]at this;cases this
theorem iu.own (g:iu G H O G' H' O'){u:HO}(d:H b=none)(i:G' b=none):iu G H O G' (upd H' b u) O':=by
 refine⟨g.gg,g.gh.upd i,g.gn,g.on,g.fr.upd ?_,fun a e=>?_⟩
 ·cases h:del H O b with
  |none=>rfl
  |some v=>rw[eU _ _ b v h]at d;cases d
 ·by_cases z:a=b
  ·rw[z];exact d
  ·rw[dY z]at e;exact g.lv a e
theorem iu.base (g:iu G H O G' H' O')(gh:er G H){u:HO}(d:H b=none)(e:H' b=some u):iu G H O (upd G' b u) H' O':=by
 refine⟨g.gg.upd (gh.free d),fun a v q=>?_,fun a e n=>?_,g.on,g.fr,g.lv⟩
 ·by_cases z:a=b
  ·rw[z,dW]at q;rw[z];exact .inl (e.trans q)
  ·rw[dY z]at q;exact g.gh a v q
 ·by_cases z:a=b
  ·rw[z];exact d
  ·rw[dY z]at n;exact g.gn a e n
def oK (m:Nat):ic→Nat→Option Nat
 |[],_=>none
 |e::L,i=>if e.1=m then some i else oK m L (i+1)
def l7 (L:ic)(m:Nat):Option Nat:=oK m L 0
theorem l8 (m:Nat)(e:Nat×Rs):∀(L:ic) (i:Nat),oK m (L++[e]) i=match oK m L i with
  |some j=>some j
  |none=>if e.1=m then some (i+L.length) else none
 |[],i=>by simp[oK]
 |x::L,i=>by
  rw[cY];unfold oK;by_cases h:x.1=m
  ·rw[if_pos h,if_pos h]
  ·rw[if_neg h,if_neg h,l8 m e L (i+1),aB,show i+1+L.length=i+(L.length+1) by omega]
theorem qa {m:Nat}:∀{L:ic} {i j:Nat},oK m L i=some j→∃e,i≤j∧L[j-i]?=some e∧e.1=m
 |[],i,j,h=>nomatch h
 |x::L,i,j,h=>by
  unfold oK at h;by_cases hx:x.1=m
  ·rw[if_pos hx]at h;cases h;exact⟨x,aq _,by rw[bK];rfl,hx⟩
  ·rw[if_neg hx]at h;obtain⟨e,h1,h2,h3⟩:=qa h;exact⟨e,by omega,by rw[show j-i=(j-(i+1))+1 by omega];exact h2,h3⟩
theorem l9 {m:Nat}:∀{L:ic} {i:Nat},oK m L i=none↔m∉L.map (·.1)
 |[],i=>by simp[oK]
 |x::L,i=>by
  unfold oK;by_cases hx:x.1=m
  ·rw[if_pos hx];simp[hx]
  ·rw[if_neg hx,l9,aD,ak,not_or];exact⟨fun h=>⟨fun z=>hx z.symm,h⟩,fun h=>h.2⟩
theorem p9 (h:l7 L m=some j):∃e,L[j]?=some e∧e.1=m:=(by obtain⟨e,_,h2,h3⟩:=qa h;exact⟨e,h2,h3⟩)
theorem pP {e:Nat×Rs}(h:l7 L m=some j):l7 (L++[e]) m=some j:=by
 unfold l7 at *;rw[l8,h]
theorem kS {e:Nat×Rs}(h:l7 L m=none):l7 (L++[e]) m=if e.1=m then some L.length else none:=by
 unfold l7 at *;rw[l8,h,Nat.zero_add]
def dZ.Kn (c:dZ)(k:Pk):ic→Nat→List Nat
 |[],_=>[]
 |e::L,i=>if c.has e.1 k then i::c.Kn k L (i+1) else c.Kn k L (i+1)
def dZ.plc (c:dZ)(L:ic)(k:Pk):List Nat:=c.Kn k L 0
theorem dZ.Ko (c:dZ)(k:Pk)(e:Nat×Rs):∀(L:ic) (i:Nat),c.Kn k (L++[e]) i=c.Kn k L i++if c.has e.1 k then [i+L.length] else []
 |[],i=>by
  rw[dH];unfold dZ.Kn;by_cases h:c.has e.1 k
  ·rw[if_pos h,if_pos h];rfl
  ·rw[if_neg h,if_neg h];rfl
 |x::L,i=>by
  rw[cY];unfold dZ.Kn;rw[dZ.Ko c k e L (i+1),aB,show i+1+L.length=i+(L.length+1) by omega];by_cases h:c.has x.1 k
  ·rw[if_pos h,if_pos h];rfl
  ·rw[if_neg h,if_neg h]
theorem dZ.Kp (c:dZ)(L:ic)(k:Pk)(e:Nat×Rs):c.plc (L++[e]) k=c.plc L k++if c.has e.1 k then [L.length] else []:=by
 unfold dZ.plc;rw[dZ.Ko,Nat.zero_add]
theorem dZ.Kq (c:dZ)(k:Pk):∀(L:ic) (i:Nat),(c.Kn k L i).length≤L.length
 |[],i=>aq _
 |x::L,i=>by
  unfold dZ.Kn;have:=dZ.Kq c k L (i+1)
  split
  ·rw[aB,aB];omega
  ·rw[aB];omega
theorem dZ.Kr {c:dZ}{k:Pk}{j:Nat}:∀{L:ic} {i:Nat},j∈c.Kn k L i↔∃e,i≤j∧L[j-i]?=some e∧c.has e.1 k
 |[],i=>by simp[dZ.Kn]
 |x::L,i=>by
  have ih:=dZ.Kr (c:=c) (k:=k) (j:=j) (L:=L) (i:=i+1);have key:j∈c.Kn k (x::L) i↔(j=i∧c.has x.1 k)∨j∈c.Kn k L (i+1):=by
   show j∈(if c.has x.1 k then i::c.Kn k L (i+1) else c.Kn k L (i+1))↔_;by_cases h:c.has x.1 k
   ·rw[if_pos h,ak];exact⟨fun z=>z.imp (fun y=>⟨y,h⟩) id,fun z=>z.imp (fun y=>y.1) id⟩
   ·rw[if_neg h];exact⟨.inr,fun z=>z.elim (fun y=>absurd y.2 h) id⟩
  rw[key,ih]
  constructor
  ·rintro(⟨rfl,h⟩ | ⟨e,h1,h2,a⟩)
   ·exact⟨x,aq _,by rw[bK];rfl,h⟩
   ·exact⟨e,by omega,by rw[show j-i=(j-(i+1))+1 by omega];exact h2,a⟩
  ·rintro⟨e,h1,h2,a⟩;rcases Nat.eq_or_lt_of_le h1 with z | z
   ·subst z;rw[bK]at h2;have:x=e:=by simpa using h2
    exact .inl ⟨rfl,this▸a⟩
   ·exact .inr ⟨e,z,by rw[show j-i=(j-(i+1))+1 by omega]at h2;exact h2,a⟩
theorem dZ.Ks {c:dZ}{k:Pk}:j∈c.plc L k↔∃e,L[j]?=some e∧c.has e.1 k:=by
 unfold dZ.plc;rw[dZ.Kr];exact⟨(by rintro⟨e,_,h2,a⟩;exact⟨e,h2,a⟩),(by rintro⟨e,h2,a⟩;exact⟨e,bp _,h2,a⟩)⟩
def ud:HO→Prop
 |.tbl _=>True
 |.ext _=>True
 |_=>False
def gz (l:List Nat):List V:=l.map fun i=>V.int (i:Nat)
structure qz (H:Hp)(c:dZ)(pp:Addr)(g:Pk→List Nat)(Ol:List Addr)(kvp:List (fB×V))(kl:List Pk):Prop where
 d:H pp=some (.dN kvp)
 keys:kvp.map (·.1)=kl.map (fun k=>fc (some k))
 nd:kl.Nodup
 sub:∀k∈kl,k∈c.ks
 val:∀k∈c.ks,(eN kvp (fc (some k))=none∧g k=[])∨∃l,eN kvp (fc (some k))=some (.ref l)∧l∈Ol∧H l=some (.lst (gz (g k)))
 inj:∀k k' l,eN kvp (fc (some k))=some (.ref l)→eN kvp (fc (some k'))=some (.ref l)→k=k'
def HU (H:Hp)(c:dZ)(pp:Addr)(g:Pk→List Nat)(Ol:List Addr):Prop:=∃(kvp:List (fB×V)) (kl:List Pk),qz H c pp g Ol kvp kl
theorem qz.keep {c:dZ}{g:Pk→List Nat}(B:qz H c pp g Ol kvp kl)(h:H' pp=H pp)(k:∀a∈Ol,H' a=H a):qz H' c pp g Ol kvp kl:=
 ⟨by rw[h];exact B.d,B.keys,B.nd,B.sub,fun x hx=>(B.val x hx).imp id (by rintro⟨l,z1,z2,z3⟩;exact⟨l,z1,z2,by rw[k l z2];exact z3⟩),B.inj⟩
theorem qz.len {c:dZ}{g:Pk→List Nat}(B:qz H c pp g Ol kvp kl):kvp.length≤c.n:=by
 have h:=congrArg List.length B.keys;rw[ab,ab]at h;rw[h];exact jX B.nd B.sub
theorem qz.old {c:dZ}{g:Pk→List Nat}(B:qz H c pp g Ol kvp kl){k:Pk}{l:Addr}{i:Nat}(q:k∈c.ks)(h:eN kvp (fc (some k))=some (.ref l))(j:pp∉Ol):l∈Ol∧H l=some (.lst (gz (g k)))∧qz (upd H l (.lst (gz (g k)++[.int (i:Nat)]))) c pp (fun x=>if x=k then g k++[i] else g x) Ol kvp kl:=by
 have a:l∈Ol∧H l=some (.lst (gz (g k))):=by
  rcases B.val k q with ⟨z,_⟩ | ⟨o,b,m,p⟩
  ·rw[h]at z;cases z
  ·rw[h]at b;cases b;exact⟨m,p⟩
 refine⟨a.1,a.2,?_,B.keys,B.nd,B.sub,fun x r=>?_,B.inj⟩
 ·rw[dY (fun z=>j (by rw[z];exact a.1))];exact B.d
 ·by_cases e:x=k
  ·subst e;refine .inr ⟨l,h,a.1,?_⟩;rw[if_pos rfl,dW];unfold gz;rw[aw];rfl
  ·rw[if_neg e];rcases B.val x r with z | ⟨o,b,m,p⟩
   ·exact .inl z
   ·refine .inr ⟨o,b,m,?_⟩;rw[dY (fun y:o=l=>e (B.inj x k l (y▸b) h))];exact p
theorem qz.new {c:dZ}{g:Pk→List Nat}(B:qz H c pp g Ol kvp kl){k:Pk}{l:Addr}{i:Nat}(D:k∈c.ks)(p:eN kvp (fc (some k))=none)(r:pp∉Ol)(A:l∉Ol)(L:l≠pp)(h1:H' pp=some (.dN (eY kvp (fc (some k)) (.ref l))))(h2:H' l=some (.lst [.int (i:Nat)]))(E:∀b,b≠pp→b≠l→H' b=H b):qz H' c pp (fun x=>if x=k then g k++[i] else g x) (l::Ol) (eY kvp (fc (some k)) (.ref l)) (kl++[k]):=by
 have J:g k=[]:=by
  rcases B.val k D with ⟨_,z⟩ | ⟨h,m,_⟩
  ·exact z
  ·rw[p]at m;cases m
 have t:k∉kl:=fun z=>by
  have h1:fc (some k)∈kvp.map (·.1):=by rw[B.keys];exact bg z
  obtain⟨G,v,w⟩:=av.mp h1;unfold eN at p;rw[Option.map_eq_none_iff,dM]at p;exact p G v (by simpa using w)
 refine⟨h1,?_,?_,fun x d=>?_,fun x d=>?_,fun x y h d j=>?_⟩
 ·rw[gR _ p,aw,B.keys,aw];rfl
 ·rw[bQ];exact⟨B.nd,by simp,fun a K b F e=>t (by rw[show b=k by simpa using F]at e;exact e▸K)⟩
 ·rcases ay.mp d with z | z
  ·exact B.sub x z
  ·rw[ai.mp z];exact D
 ·rw[fJ];by_cases e:x=k
  ·subst e;refine .inr ⟨l,if_pos rfl,by simp,?_⟩;rw[if_pos rfl,h2,J];rfl
  ·rw[if_neg (fun z=>e (Option.some.inj (ie z))),if_neg e];rcases B.val x d with z | ⟨h,m,q,I⟩
   ·exact .inl z
   ·refine .inr ⟨h,m,by simp[q],?_⟩;rw[E h (fun y=>r (y▸q)) (fun y=>A (y▸q))];exact I
 ·have o:∀x h,x≠k→eN kvp (fc (some x))=some (.ref h)→h≠l:=fun x h e z y=>by
   have s:x∈c.ks:=by
    have:=iA z;rw[B.keys]at this;obtain⟨u,v,w⟩:=av.mp this;rw[←Option.some.inj (ie w)];exact B.sub u v
   rcases B.val x s with ⟨C,_⟩ | ⟨M,m,q,_⟩
   ·rw[z]at C;cases C
   ·rw[z]at m;cases m;exact A (y▸q)
  rw[fJ]at d j;by_cases ex:x=k
  ·by_cases ey:y=k
   ·rw[ex,ey]
   ·rw[if_pos (by rw[ex])]at d;rw[if_neg (fun z=>ey (Option.some.inj (ie z)))]at j;cases d;exact absurd rfl (o y l ey j)
  ·rw[if_neg (fun z=>ex (Option.some.inj (ie z)))]at d;by_cases ey:y=k
   ·rw[if_pos (by rw[ey])]at j;cases j;exact absurd rfl (o x l ex d)
   ·rw[if_neg (fun z=>ey (Option.some.inj (ie z)))]at j;exact B.inj x y h d j
theorem qz.fn {c:dZ}{g g':Pk→List Nat}(B:qz H c pp g Ol kvp kl)(h:∀k∈c.ks,g k=g' k):qz H c pp g' Ol kvp kl:=
 ⟨B.d,B.keys,B.nd,B.sub,fun k hk=>by rw[←h k hk];exact B.val k hk,B.inj⟩
theorem ig (h:er G H)(off:∀a∈O,G a=none)(fr:er (del H O) H'):er G H':=fun a u e=>by
 have na:a∉O:=fun z=>by rw[off a z]at e;cases e
 rcases h a u e with z | ⟨z1,o,z2⟩
 ·exact fr a u (by rw[el na];exact z)
 ·exact .inr ⟨z1,o,fr.frz (by rw[el na];exact z2)⟩
abbrev zN (ch ma re pm pp:Addr):List (Str×V):=[("chart",.ref ch),("masks",.ref ma),("reasons",.ref re),("place_by_mask",.ref pm),("places_by_pick",.ref pp)]
inductive AL (CL:Addr)(G H:Hp)(p ch:Addr)(c:dZ)(L:ic)(O:List Addr):Prop
 |mk (dx ma re pm pp:Addr)(kvm:List (fZ×V))(rs:List V)(Ol:List Addr)(_:O=ma::re::pm::pp::Ol)(_:G p=some (.ins CL dx (zN ch ma re pm pp)))(_:H ma=some (.lst (gz (L.map (·.1)))))(_:H re=some (.lst rs))(_:Paired (my G) rs (L.map (·.2)))(_:H pm=some (.dK kvm))(_:kvm.length≤L.length)(_:(∀m:Nat,eN kvm (Sum.inl (m:Int))=(l7 L m).map fun i=>V.int (i:Nat)))(_:HU H c pp (c.plc L) Ol):AL CL G H p ch c L O
structure fT (CL:Addr)(G H:Hp)(p ch:Addr)(c:dZ)(L:ic)(O:List Addr):Prop where
 ex:AL CL G H p ch c L O
 off:∀a∈O,G a=none
 liv:∀a∈O,∃u,H a=some u
 nf:∀a∈O,∀u,H a=some u→¬ud u
 nd:O.Nodup
theorem lC.f (e:er H H'):∀{t:ye},lC H v t→lC H' v t
 |.one k,h=>fj.f e h
 |.many bs,⟨a,h1,h2⟩=>⟨a,h1,e.lst h2⟩
theorem my.f (e:er H H'){r:Rs}(h:my H v r):my H' v r:=
 (by obtain⟨q,wv,tv,h1,h2,h3,h4⟩:=h;exact⟨q,wv,tv,h1,e.tup h2,h3.f e,h4.f e⟩)
theorem fT.grow {CL:Addr}{ch:Addr}{c:dZ}(h:fT CL G H p ch c L O)(e:er G G')(off:∀a∈O,G' a=none)(k:∀a∈O,H' a=H a):fT CL G' H' p ch c L O:=by
 obtain⟨dx,i,g,pm,pp,d,j,Ol,rfl,h1,h2,l,o,r,m,q,⟨kvp,kl,B⟩⟩:=h.ex;refine⟨⟨dx,i,g,pm,pp,d,j,Ol,rfl,e.ins h1,by rw[k i (by simp)];exact h2,by rw[k g (by simp)];exact l,Paired.Ja o fun _ _ z=>my.f e z,by rw[k pm (by simp)];exact r,m,q,⟨kvp,kl,B.keep (k pp (by simp)) fun a b=>k a (by simp[b])⟩⟩,off,fun a b=>by rw[k a b];exact h.liv a b,fun a b=>by rw[k a b];exact h.nf a b,h.nd⟩
structure TL (K:W.Frag)(mg:Str→Option Value)(C:Addr):Prop where
 cl:pV K C
 nCh:fF K C "chart"
 nMa:fF K C "masks"
 nRe:fF K C "reasons"
 nPm:fF K C "place_by_mask"
 nPp:fF K C "places_by_pick"
 len:mg "len" = none
 zip:mg "zip" = none
theorem lS {α:Type}{x:α}{l:List α}:vp (x::l) 0=some x:=nH (show jx (x::l) ((0:Nat):Int)=some x by rw[iI];rfl)
inductive De (Q:Bool→Hp→Prop)(x:V)(H':Hp):Prop
 |mk (i:_)(_:x=.int i)(_:Q (i != 0) H'):De Q x H'
def GZ (ta:TE):TT:=fun σ H Q=>ta σ H fun x H'=>De Q x H'
theorem uJ {X:Cx}{a:Expr}{ta:TE}(d:PE X a ta)(b:∀whole,isTrue a X.env whole=(do let v ←whole;standAt a.pos;holding [v] (truthy v))):PT X a (GZ ta):=by
 intro pins s σ H Q I h;exact isTrue_plain (fG (d pins s σ H _ I h) (by rintro v m ⟨x,H1,l,g,i,e,j⟩;exact yy pins m σ H1 x v Q l g ⟨_,by subst e;rfl,j⟩)) (b _)
def dZ.Kt (c:dZ)(wanted:List (Str×Option Pk))(w:Option Pk)(pm:Nat)(ps:List Str)(g:List (Str×Option Pk)):Prop:=
 ∃E:List Str,g.map (·.1)=wanted.map (·.1)++E∧E.Sublist ps∧(∀x∈E,¬c.isP pm x∧x∉wanted.map (·.1))∧(∀x∈ps,c.isP pm x∨x∈wanted.map (·.1)∨x∈E)∧
  ∀x u,(x,u)∈g→(x,u)∈wanted∨(u=w∧x∈ps∧¬c.isP pm x)
theorem mh:∀ns:List Nd,(eJ ns).length≤ns.length
 |[]=>aq _
 |n::ns=>by
  rw[eJ,aB,aB];have h1:=bt (fun x=>!decide (x=n.1)) (eJ ns);have h2:=mh ns
  lia
theorem GrowP.nil {c:dZ}{wanted:List (Str×Option Pk)}:c.Kt wanted w pm [] wanted:=⟨[],by simp,.slnil,(fun x h=>nomatch h),(fun x h=>nomatch h),fun x u h=>.inl h⟩
section
variable {c:dZ}{wanted g:List (Str×Option Pk)}{ps:List Str}
theorem GrowP.skip (h:c.Kt wanted w pm ps g)(i:c.isP pm x):c.Kt wanted w pm (ps++[x]) g:=by
 obtain⟨E,h1,h2,e,b,d⟩:=h;refine⟨E,h1,h2.trans (List.sublist_append_left _ _),e,fun y a=>?_,fun y u a=>(d y u a).imp id fun z=>⟨z.1,aJ _ z.2.1,z.2.2⟩⟩;rcases ay.mp a with z | z
 ·exact b y z
 ·rw[ai.mp z];exact .inl i
theorem GrowP.new (h:c.Kt wanted w pm ps g)(b:¬c.isP pm x)(d:x∉g.map (·.1)):c.Kt wanted w pm (ps++[x]) (g++[(x,w)]):=by
 obtain⟨E,h1,h2,j,e,i⟩:=h;rw[h1]at d;refine⟨E++[x],by rw[aw,h1,bu];rfl,h2.append (List.Sublist.refl _),fun y a=>?_,fun y a=>?_,fun y u a=>?_⟩
 ·rcases ay.mp a with z | z
  ·exact j y z
  ·rw[ai.mp z];exact⟨b,fun q=>d (aJ _ q)⟩
 ·rcases ay.mp a with z | z
  ·exact(e y z).imp id fun q=>q.imp id fun q=>aJ _ q
  ·rw[ai.mp z];exact .inr (.inr (by simp))
 ·rcases ay.mp a with z | z
  ·exact(i y u z).imp id fun q=>⟨q.1,aJ _ q.2.1,q.2.2⟩
  ·rw[ai,Prod.mk.injEq]at z;exact .inr ⟨z.2,by simp[z.1],z.1▸b⟩
theorem GrowP.Jb (h:c.Kt wanted w pm ps g)(d:x∈g.map (·.1))(a:x∉ps):c.Kt wanted w pm (ps++[x]) g:=by
 obtain⟨E,h1,h2,j,e,i⟩:=h;refine⟨E,h1,h2.trans (List.sublist_append_left _ _),j,fun y b=>?_,fun y u b=>(i y u b).imp id fun z=>⟨z.1,aJ _ z.2.1,z.2.2⟩⟩;rcases ay.mp b with z | z
 ·exact e y z
 ·rw[ai.mp z];rw[h1]at d;exact .inr (.inl ((ay.mp d).resolve_right fun q=>a (h2.subset q)))
theorem GrowP.swap (h:c.Kt wanted w pm ps g)(m:¬c.isP pm x)(o:x∈g.map (·.1))(a:x∉ps):c.Kt wanted w pm (ps++[x]) (g.map fun yu=>if yu.1=x then (yu.1,w) else yu):=by
 obtain⟨E,h1,h2,l,d,j⟩:=GrowP.Jb h o a;have e:(g.map fun yu=>if yu.1=x then (yu.1,w) else yu).map (·.1)=g.map (·.1):=by
  rw[ck];refine List.map_congr_left fun yu _=>?_;show(if yu.1=x then (yu.1,w) else yu).1=yu.1
  split <;> rfl
 refine⟨E,by rw[e];exact h1,h2,l,d,fun y u i=>?_⟩;obtain⟨yu,b,z⟩:=av.mp i;by_cases q:yu.1=x
 ·rw[if_pos q]at z;cases z;exact .inr ⟨rfl,by simp[q],q▸m⟩
 ·rw[if_neg q]at z;subst z;exact j y u b
end
theorem vZ {c:dZ}:(pm &&& c.Kc x≠0)↔c.isP pm x:=by
 have a:pm &&& c.Kc x<2^c.n:=bz Nat.and_le_right (c.JN _)
 constructor
 ·intro h;refine Classical.byContradiction fun z=>h (dZ.JI a fun k b=>z ?_);obtain⟨h1,h2⟩:=dZ.JD.mp b;exact⟨k,h1,(dZ.Kg.mp h2).2⟩
 ·rintro⟨j,h1,h2⟩ h;have:c.has (pm &&& c.Kc x) j:=dZ.JD.mpr ⟨h1,dZ.Kg.mpr ⟨h1.1,h2⟩⟩;rw[h]at this;exact dZ.JG this
theorem mr {α β:Type}{f:α→List β}{n:Nat}:∀{l:List α},(∀x∈l,(f x).length≤n)→(l.flatMap f).length≤l.length*n
 |[],_=>by simp
 |x::l,h=>by
  have h1:=mr (l:=l) fun y hy=>h y (by simp[hy]);have h2:=h x (by simp);rw[List.flatMap_cons,aE,aB,Nat.succ_mul]
  lia
theorem iz.Ku {c:dZ}{s:Sd}(h:iz c L s)(a:∀w,(c.needs w).length≤100)(j:c.n<64):s.wanted.length≤7000:=by
 have h1:(s.wanted.map (·.1)).length≤((none::c.ks.map some).flatMap fun w=>(c.needs w).map (·.1)).length:=by
  refine jX h.wk fun x i=>?_;obtain⟨⟨y,w⟩,b,e⟩:=av.mp i;have g:y=x:=e;subst g;obtain⟨_,h2,d⟩:=h.w1 y w b;refine List.mem_flatMap.mpr ⟨w,?_,d⟩;cases w with
  |none=>exact bh
  |some k=>exact aZ _ (bg h2.1)
 have h2:=mr (f:=fun w=>(c.needs w).map (·.1)) (n:=100) (l:=none::c.ks.map some) fun w _=>by rw[ab];exact a w
 rw[aB,ab]at h2;rw[ab]at h1;have:c.ks.length<64:=j
 lia
def vw (H:Hp)(kv:fZ×V)(xu:Str×Option Pk):Prop:=kv.1=Sum.inr xu.1∧gr H kv.2 xu.2
def vy (G:Hp)(a:Addr)(wanted:List (Str×Option Pk)):Prop:=∃o kvs,G a=some (.frz o (.dK kvs))∧Paired (vw G) kvs wanted
theorem vw.f (e:er H H'){kv:fZ×V}{xu:Str×Option Pk}(h:vw H kv xu):vw H' kv xu:=⟨h.1,h.2.f e⟩
theorem vy.f (e:er H H'){ws:List (Str×Option Pk)}(h:vy H a ws):vy H' a ws:=(by obtain⟨o,kvs,h1,h2⟩:=h;exact⟨o,kvs,e.frz h1,Paired.Ja h2 fun _ _ z=>z.f e⟩)
theorem vC {H:Hp}:∀{kvs:List (fZ×V)} {g:List (Str×Option Pk)},Paired (vw H) kvs g→kvs.map (·.1)=(g.map (·.1)).map Sum.inr
 |_,_,.nil=>rfl
 |_,_,.cons h r=>by rw[aD,aD,aD,vC r,h.1]
theorem qC {H:Hp}:∀{kvs:List (fZ×V)} {g:List (Str×Option Pk)} {x:Str},Paired (vw H) kvs g→(eN kvs (Sum.inr x)=none↔x∉g.map (·.1))
 |_,_,x,.nil=>by simp[eN]
 |kv::kvs,xu::g,x,.cons h r=>by
  have ih:=qC (x:=x) r;unfold eN at ih ⊢;rw[bi,h.1,aD,ak,not_or];by_cases e:xu.1=x
  ·rw[ao (by rw[e])];simp[e]
  ·rw[au (fun z=>e (Sum.inr.inj z))];exact ih.trans ⟨fun z=>⟨fun y=>e y.symm,z⟩,fun z=>z.2⟩
theorem nu {H:Hp}:∀{kvs:List (fZ×V)} {g:List (Str×Option Pk)} {x:Str},Paired (vw H) kvs g→x∈g.map (·.1)→∃v u,eN kvs (Sum.inr x)=some v∧(x,u)∈g∧gr H v u
 |_,_,x,.nil,h=>nomatch h
 |kv::kvs,xu::g,x,.cons h r,hx=>by
  by_cases e:xu.1=x
  ·refine⟨kv.2,xu.2,?_,by rw[←e];exact bh,h.2⟩;unfold eN;rw[bi,h.1,ao (by rw[e])];rfl
  ·rw[aD,ak]at hx;obtain⟨v,u,h1,h2,h3⟩:=nu r (hx.resolve_left fun z=>e z.symm);refine⟨v,u,?_,aZ _ h2,h3⟩;unfold eN at h1 ⊢;rw[bi,h.1,au (fun z=>e (Sum.inr.inj z))];exact h1
theorem Dv {kvs:List (fZ×V)}{g:List (Str×Option Pk)}(h:Paired (vw H) kvs g)(b:gr H v w):Paired (vw H) (eY kvs (Sum.inr x) v) (if x∈g.map (·.1) then g.map (fun yu=>if yu.1=x then (yu.1,w) else yu) else g++[(x,w)]):=by
 by_cases hx:x∈g.map (·.1)
 ·rw[if_pos hx];have d:(kvs.any fun a=>decide (a.1=Sum.inr x))=true:=by
   have:(Sum.inr x:fZ)∈kvs.map (·.1):=by rw[vC h];exact bg hx
   obtain⟨a,j,i⟩:=av.mp this;exact dC.mpr ⟨a,j,ao i⟩
  unfold eY;rw[if_pos d];clear d hx
  induction h with
  |nil=>exact .nil
  |@cons a xu kvs g h r ih=>
   refine .cons ?_ ih;dsimp only;by_cases e:xu.1=x
   ·rw[if_pos (show a.1=Sum.inr x by rw[h.1,e]),if_pos e];exact⟨h.1,b⟩
   ·rw[if_neg (show ¬a.1=Sum.inr x from fun z=>e (Sum.inr.inj (h.1.symm.trans z))),if_neg e];exact h
 ·rw[if_neg hx,gR _ ((qC h).mpr hx)];exact Paired.snoc h ⟨rfl,b⟩
theorem vD {H:Hp}{x:Str}:∀{kvs:List (fZ×V)} {g:List (Str×Option Pk)},Paired (vw H) kvs g→Paired (vw H) (jq kvs (Sum.inr x)) (g.filter fun xu=>!decide (xu.1=x))
 |_,_,.nil=>.nil
 |kv::kvs,xu::g,.cons h r=>by
  have ih:=vD (x:=x) r;unfold jq at ih ⊢;by_cases e:xu.1=x
  ·rw[aG,aG,if_neg (by rw[h.1];simp[e]),if_neg (by simp[e])];exact ih
  ·rw[aG,aG,if_pos (by rw[h.1];simpa using e),if_pos (by simpa using e)];exact .cons h ih
def i7 (i:Nat):Stmt:=PySem.Challenge.pw_fitboard_k08_whole_no_choice_is_newer.main.body.getD i (.Pass ⟨0,0,0,0⟩)
abbrev oF:Stmt:=i7 4
abbrev yQ:Stmt:=fi (i7 5) 0
abbrev oC:Stmt:=fi (i7 5) 1
abbrev uF:Stmt:=i7 7
abbrev rA:Stmt:=fi (i7 8) 0
abbrev yS:Stmt:=fi (i7 8) 1
abbrev oG:Stmt:=fi (i7 8) 2
abbrev oy:Stmt:=fi (i7 8) 3
abbrev ri:Stmt:=fi (i7 8) 4
abbrev rj:Stmt:=fi (i7 8) 5
abbrev rl:Stmt:=fi (i7 10) 0
abbrev DO:Stmt:=fi (i7 10) 1
abbrev rg:Stmt:=fi (i7 10) 2
abbrev rC:Stmt:=fi (i7 10) 3
abbrev uy:Stmt:=fi (i7 10) 4
abbrev qY:Stmt:=i7 12
abbrev q5:Stmt:=fi (i7 13) 0
abbrev rq:Stmt:=fi (i7 14) 0
abbrev rc:Stmt:=fi (i7 15) 0
abbrev oA:Stmt:=fi (i7 15) 1
abbrev qZ:Stmt:=fi (i7 15) 2
abbrev yO:Stmt:=fi (i7 15) 3
abbrev sJ:Stmt:=fi (i7 15) 4
abbrev yR:Stmt:=fi (i7 15) 5
abbrev rB:Stmt:=fi (i7 15) 6
abbrev rp:Stmt:=fi (i7 15) 7
abbrev yN:Stmt:=fi (i7 15) 8
abbrev yL:Stmt:=fi (i7 15) 9
abbrev rf:Stmt:=fi (i7 15) 10
abbrev uD:Stmt:=fi (i7 15) 11
abbrev oz:Stmt:=fi (i7 15) 12
abbrev uz:Stmt:=fi (i7 15) 13
abbrev rh:Stmt:=fi (i7 15) 14
abbrev uA:Stmt:=fi (i7 15) 15
abbrev ux:Stmt:=i7 17
abbrev Hw:Stmt:=i7 18
abbrev DN:Stmt:=i7 19
abbrev yM:Stmt:=i7 20
abbrev uB:Stmt:=i7 21
abbrev ow:Stmt:=i7 22
abbrev yT:Stmt:=i7 23
abbrev oB:Stmt:=i7 24
abbrev rm:Stmt:=i7 25
abbrev rn:Stmt:=i7 26
abbrev l6:Stmt:=i7 27
abbrev uE:Stmt:=i7 28
abbrev uG:Stmt:=i7 29
abbrev yK:Stmt:=i7 30
abbrev oE:Stmt:=i7 31
abbrev uC:Stmt:=i7 32
abbrev mY:Stmt:=i7 33
end FB
namespace FB
open PySem L2 PyProof.Rows
seal lW PS PE PT PA
variable {C CB CC CL CS a ch dx g p:Addr}{G H H' Hd:Hp}{K:W.Frag}{P:Program}{es:List En}{fd gd:FuncData}{i j m:Nat}{mg:Str→Option Value}{vk:List (fZ×V)}{w:World}{x:Str}
structure TB (K:W.Frag)(mg:Str→Option Value)(C:Addr):Prop where
 cl:pV K C
 nN:fF K C "needs"
 nV:fF K C "versions"
 mC:mg "Board" = some (.ref C)
 list:mg "list" = none
 sorted:mg "sorted" = none
theorem mQ {y:Str}:decide (V.str x=V.str y)=decide (x=y):=by
 by_cases h:x=y
 ·rw[ao h,ao (congrArg V.str h)]
 ·rw[au h,au (fun z=>h (V.str.inj z))]
def r8 (n:Nd)(k:Str×Int):Bool:=decide (k.1=n.1)&&!(jV n k.2)
inductive tY (vs:List V)(H:Hp)(Q:VK)(E:XK):Prop
 |mk (v pk:V)(n:Nd)(k:Str×Int)(_:vs=[v,pk])(_:fA H v n)(_:fj H pk k)(_:Q (.bl (r8 n k)) H):tY vs H Q E
def km:Sp:=tY
inductive tX (C:Addr)(vs:List V)(H:Hp)(Q:VK)(E:XK):Prop
 |mk (p st:Addr)(es:List En)(v:V)(n:Nd)(_:vs=[.ref p,v])(_:fV C H p st es)(_:fA H v n)(_:es.length<64)(_:∀l (ms:List Int) H',eB H H'→H l=none→H' l=some (.lst (ms.map V.int))→ms.Perm (jH es n)→ms.Pairwise (· ≥ ·)→Q (.ref l) H'):tX C vs H Q E
def jC (C:Addr):Sp:=tX C
section
variable {base:Heap}{f:Addr}
theorem i8 {N Ps:List Str}{sc:Scope}(a:sc.kind=.function:=by rfl)(b:sc.isCoroutine=false:=by rfl)(c:sc.isGenerator=false:=by rfl)(d:N.Nodup:=by decide +kernel)(e:N.take Ps.length=Ps:=by rfl)(f:∀x∈Ps,sc.names.lookup x=some .local∨sc.names.lookup x=some .cell:=by decide +kernel)(g:∀y∈sc.names,y.2≠.free:=by decide +kernel):eG N Ps sc:=⟨a,b,c,d,e,f,g⟩
theorem Ht:eG ["need","pick"] ["need","pick"] (eA oF):=i8
theorem uS (F:iL K "clashes" "clashes" oF f fd):fb P w K mg base eZ 1 f fd ["need","pick"] km:=by
 refine F.ok Ht (fun vs H Q E h=>?_) (fun cdv A outer s H vs Q E g h=>?_)
 ·obtain⟨v,e,n,k,rfl,_⟩:=h;rfl
 obtain⟨v,e,n,k,rfl,⟨a,rfl,b⟩,⟨d,rfl,hp⟩,q⟩:=h;refine⟨_,eg (eR (rK (nF lN (eO eQ (pv 1) ef (fun _ _=>rfl)) (eO eQ (pv 0) ef (fun _ _=>rfl)) (gJ _)) (rJ (zb (zh vQ vQ (eO eQ (pv 0) ef (fun _ _=>rfl)) (eO eQ (pv 1) ef (fun _ _=>rfl)) (eO eQ (pv 0) ef (fun _ _=>rfl))))))),?_⟩;unfold r8 jV at q;refine⟨_,rfl,d,_,_,_,rfl,rfl,ia.of hp,rfl,_,rfl,a,_,_,_,rfl,rfl,ia.of b,rfl,rfl,_,rfl,?_⟩;rw[mQ];refine mn (fun c=>?_) (fun c=>?_)
 ·rw[c,cD]at q;refine⟨_,rfl,a,_,_,_,rfl,rfl,ia.of b,rfl,_,rfl,d,_,_,_,rfl,rfl,ia.of hp,rfl,_,_,rfl,rfl,_,rfl,?_⟩;refine mn (fun c=>?_) (fun c=>?_)
  ·refine⟨_,rfl,a,_,_,_,rfl,rfl,ia.of b,rfl,_,_,rfl,rfl,_,rfl,?_⟩;rw[c,cD]at q;exact q
  ·rw[bY.mpr c,bT]at q;exact⟨_,rfl,q⟩
 ·rw[bY.mpr c,bT]at q;exact q
end
theorem uX {α:Type}{l:List α}{x:α}(h:(l.take i).Nodup)(e:l[i]?=some x):(l.take (i+1)).Nodup↔¬x∈l.take i:=by
 have g:l.take (i+1)=l.take i++[x]:=by rw[aQ,e];rfl
 rw[g,bQ]
 constructor
 ·intro z m;exact z.2.2 x m x (by simp) rfl
 ·intro z;refine⟨h,by simp,fun a d b j e=>z ?_⟩;rw[ai.mp j]at e;rw[←e];exact d
theorem iS {α:Type}{l:List α}(i:Nat)(h:l.Nodup):(l.take i).Nodup:=h.sublist (dQ _ _)
theorem lQ {κ:Type} [DecidableEq κ] {kvs:List (κ×V)}{k:κ}{v:V}(h:(eN kvs k).isSome=true):(eY kvs k v).map (·.1)=kvs.map (·.1):=by
 unfold eY;rw[iG,if_pos h,ck];refine List.map_congr_left fun a _=>?_;show(if a.1=k then (a.1,v) else a).1=a.1
 split <;> rfl
theorem jk.apart {fs:List (Str×V)}(hp:H p=some (.ins C dx fs))(h:jk H a es):jk (del H [p]) a es:=by
 have out:∀b o,H b=some o→o≠.ins C dx fs→del H [p] b=some o:=fun b o e m=>by
  rw[el (by simpa using fe e hp m)];exact e
 obtain⟨xs,h1,h2⟩:=h;refine⟨xs,out _ _ h1 (by intro z;cases z),Paired.Ja h2 fun v e z=>?_⟩;obtain⟨q,d,zs,j,s,l,r⟩:=z;refine⟨q,d,zs,j,out _ _ s (by intro z;cases z),out _ _ l (by intro z;cases z),Paired.Ja r fun v n z=>?_⟩;obtain⟨q,g,i⟩:=z;exact⟨q,g,out _ _ i (by intro z;cases z)⟩
structure jj (Hd H:Hp)(vk:List (fZ×V))(es:List En):Prop where
 at_:∀x:Str,(eN vk (Sum.inr x)=none∧gL es x=[])∨∃l,eN vk (Sum.inr x)=some (.ref l)∧Hd l=none∧H l=some (.lst ((gL es x).map V.int))
 inj:∀(x y:Str) (l:Addr),eN vk (Sum.inr x)=some (.ref l)→eN vk (Sum.inr y)=some (.ref l)→x=y
 keys:∀kv∈vk,∃x:Str,kv.1=Sum.inr x
 len:vk.length≤es.length
theorem jj.same (R:jj Hd H vk es)(s:eB H H'):jj Hd H' vk es:=
 ⟨fun x=>(R.at_ x).imp id (by rintro⟨l,h1,h2,h3⟩;exact⟨l,h1,h2,s _ _ h3⟩),R.inj,R.keys,R.len⟩
theorem jj.dict (R:jj Hd H vk es)(s:∀b xs,H b=some (.lst xs)→H' b=some (.lst xs)):jj Hd H' vk es:=
 ⟨fun x=>(R.at_ x).imp id (by rintro⟨l,h1,h2,h3⟩;exact⟨l,h1,h2,s _ _ h3⟩),R.inj,R.keys,R.len⟩
theorem jj.more {e:En}{l:Addr}(R:jj Hd H vk es)(h:eN vk (Sum.inr e.1)=some (.ref l)):Hd l=none∧H l=some (.lst ((gL es e.1).map V.int))∧jj Hd (upd H l (.lst ((gL es e.1).map V.int++[.int e.2.1]))) vk (es++[e]):=by
 have a:Hd l=none∧H l=some (.lst ((gL es e.1).map V.int)):=by
  rcases R.at_ e.1 with ⟨z,_⟩ | ⟨d,h1,h2,b⟩
  ·rw[h]at z;cases z
  ·rw[h]at h1;cases h1;exact⟨h2,b⟩
 refine⟨a.1,a.2,fun x=>?_,R.inj,R.keys,by rw[aE];exact bj R.len (cX _ _)⟩;rw[mB];by_cases hx:e.1=x
 ·subst hx;refine .inr ⟨l,h,a.1,?_⟩;rw[dW,if_pos rfl,aw];rfl
 ·rw[if_neg hx];rcases R.at_ x with z | ⟨d,h1,h2,b⟩
  ·exact .inl z
  ·refine .inr ⟨d,h1,h2,?_⟩;rw[dY (fun z=>hx (R.inj _ _ l h (by rw[←z];exact h1)))];exact b
theorem jj.first {e:En}{l:Addr}(R:jj Hd H vk es)(h:eN vk (Sum.inr e.1)=none)(q:H l=some (.lst []))(j:Hd l=none)(i:∀x:Str,eN vk (Sum.inr x)≠some (.ref l)):jj Hd (upd H l (.lst [.int e.2.1])) (eY vk (Sum.inr e.1) (.ref l)) (es++[e]):=by
 refine⟨fun x=>?_,fun x y g a b=>?_,fun p d=>?_,?_⟩
 ·rw[mB,fJ];by_cases a:e.1=x
  ·subst a;refine .inr ⟨l,by rw[if_pos rfl],j,?_⟩;have m:gL es e.1=[]:=by
    rcases R.at_ e.1 with ⟨_,z⟩ | ⟨g,h1,_⟩
    ·exact z
    ·rw[h]at h1;cases h1
   rw[dW,if_pos rfl,m];rfl
  ·rw[if_neg (fun z=>a (Sum.inr.inj z).symm),if_neg a];rcases R.at_ x with z | ⟨g,h1,h2,o⟩
   ·exact .inl z
   ·refine .inr ⟨g,h1,h2,?_⟩;rw[dY (fun z=>i x (by rw[←z];exact h1))];exact o
 ·rw[fJ]at a b;by_cases ex:(Sum.inr x:fZ)=Sum.inr e.1
  ·by_cases ey:(Sum.inr y:fZ)=Sum.inr e.1
   ·exact(Sum.inr.inj ex).trans (Sum.inr.inj ey).symm
   ·rw[if_pos ex]at a;rw[if_neg ey]at b;cases a;exact absurd b (i y)
  ·rw[if_neg ex]at a;by_cases ey:(Sum.inr y:fZ)=Sum.inr e.1
   ·rw[if_pos ey]at b;cases b;exact absurd a (i x)
   ·rw[if_neg ey]at b;exact R.inj x y g a b
 ·rw[gR _ h]at d;rcases ay.mp d with z | z
  ·exact R.keys p z
  ·rw[ai.mp z];exact⟨_,rfl⟩
 ·rw[gR _ h,aE,aE];exact Nat.add_le_add_right R.len _
inductive Gw (C:Addr)(Hd:Hp)(es:List En)(p a st dx dn dv:Addr)(i:Nat)(σ:L2.St)(H2:Hp):Prop
 |mk (nks vk o3 o4 o5:_)(_:σ=[some (.ref p),some (.ref a),some (.ref st),o3,o4,o5])(_:H2 p=some (.ins C dx (jJ dn dv)))(_:H2 dn=some (.dN ((none,.ref st)::nks)))(_:Paired (lT Hd) nks (es.take i))(_:H2 dv=some (.dK vk))(_:jj Hd H2 vk (es.take i)):Gw C Hd es p a st dx dn dv i σ H2
structure IZ (C:Addr)(Hd:Hp)(es:List En)(p a st dx dn dv:Addr)(i:Nat)(σ:L2.St)(H2:Hp):Prop where
 ex:Gw C Hd es p a st dx dn dv i σ H2
 sm:eB Hd H2
 nd:((es.map eL).take i).Nodup
inductive Gv (C:Addr)(Hd:Hp)(es:List En)(p a st dx dn dv:Addr)(nks:List (fB×V))(ks:List fZ)(j:Nat)(σ:L2.St)(H2:Hp):Prop
 |mk (vk o3 o4 o5:_)(_:σ=[some (.ref p),some (.ref a),some (.ref st),o3,o4,o5])(_:H2 p=some (.ins C dx (jJ dn dv)))(_:H2 dn=some (.dN ((none,.ref st)::nks)))(_:H2 dv=some (.dK vk))(_:vk.map (·.1)=ks)(_:t0 H2 vk es fun x=>(Sum.inr x:fZ)∈ks.take j):Gv C Hd es p a st dx dn dv nks ks j σ H2
structure IY (C:Addr)(Hd:Hp)(es:List En)(p a st dx dn dv:Addr)(nks:List (fB×V))(ks:List fZ)(j:Nat)(σ:L2.St)(H2:Hp):Prop where
 ex:Gv C Hd es p a st dx dn dv nks ks j σ H2
 sm:eB Hd H2
section
variable {base:Heap}{f:Addr}
theorem yH:eG ["self","shelf","start","part","version","needs"] ["self","shelf","start"] (eA yQ):=i8
end
theorem FL:(["version","part","need"]:List Str).Nodup:=by decide +kernel
section
variable {base:Heap}{f:Addr}
theorem Fr:eG ["self","need","part"] ["self","need"] (eA oC):=i8
theorem uR (F:iL K "meeting" "Board.meeting" oC f fd)(T:TB K mg C)(G:fb P w K mg base eZ 1 g gd ["need","pick"] km)(bG:gs K gd ["need","pick"] [])(kG:W.keepIn K (.ref g)=true)(mG:mg "clashes" = some (.ref g)):fb P w K mg base eZ 2 f fd ["self","need"] (jC C):=by
 refine F.ok Fr (fun vs H Q E h=>?_) (fun cdv A outer s H vs Q E Y h=>?_)
 ·obtain⟨p,st,es,v,n,rfl,_⟩:=h;rfl
 obtain⟨p,st,es,v,n,rfl,⟨dx,dn,Z,aa,vk,hp,hn,hk,R,hV⟩,⟨L,rfl,J⟩,hl,q⟩:=h;have hu:=gc Y;refine⟨_,(dX (eF (i:=2) Fr.nd rfl (Or.inr rfl) (eO eQ (pv 1) ef (fun _ _=>rfl))) (eg (eR (ik (N':=["version","part","need"]) (n:=1) (js:=[2,1]) rfl (ib.two (c:=s.heap.objs.size+2) (c':=s.heap.objs.size+1) (y:="part") (y':="need") rfl rfl rfl (by decide +kernel) (by decide +kernel) rfl (by decide +kernel) (by decide +kernel) rfl rfl rfl rfl rfl rfl rfl rfl rfl) (gF (by decide)) (fh (jE hu (lb (pv 0) rfl) (pv 2) (gf ee) ⟨rfl,rfl,rfl,rfl⟩)) (fun C X H2 fp=>eK (i:=0) FL rfl (Or.inl rfl)) (fun C X H2 fp=>nE (jw (j3 (fw G Y rfl mG kG bG .nil eP (dU (pv 2) (dU (ge (dU (pv 1) (dU (pv 0) ee))) ee)))))) (fun C X H2 fp=>pv 0))))),?_⟩;refine⟨_,rfl,L,_,_,_,rfl,rfl,ia.of J,rfl,?_⟩;refine⟨_,rfl,p,C,dx,_,_,rfl,hp,T.cl,T.nV,ji _ _,Z,rfl,.inl ⟨_,R⟩,_,rfl,(by show 0≤sizeLine;decide),fun o N=>?_⟩;have e:=eo N (.lst []);have b:∀(l:Addr) (a:List Int),upd H o (.lst []) l=some (.lst (a.map V.int))→a.Perm (gL es n.1)→a.Pairwise (· ≥ ·)→pI (EK K l) (iJ 0)
   (E5 (tB (CD km [] E0 (pZ (mU 2) (pZ (EZ (pZ (mU 1) (pZ (mU 0) wW))) wW))))) (mU 0) (frees 1 [2,1] [some (.ref p),some (.ref L),some (.str n.1)]) (upd H o (.lst [])) Q:=by
  intro l a h1 h2 O;have lm:a.length<64:=by
   rw[h2.length_eq];exact bz (jv _ _) hl
  refine gy (xs:=a.map V.int) (fun D i ys H2=>ys=((a.take i).filter (jV n)).map V.int∧H2 D=some (.lst ys)∧eB (upd H o (.lst [])) H2∧upd H o (.lst []) D=none) (fun D U=>⟨by simp,dW,eo U _,U⟩)
   (fun D i ys H2 hi ⟨j,d,m,_⟩=>⟨eX.of (m _ _ h1),d,?_⟩) (fun D i x ys H2 hi ⟨j,d,m,I⟩=>?_) (fun D ys H2 ⟨j,d,m,I⟩=>?_)
  ·rw[j,ab];have:=bt (jV n) (a.take i);rw[aN]at this;exact eE (by lia)
  ·rw[ae]at hi;obtain⟨z,hz,rfl⟩:=ax.mp hi;have ht:a.take (i+1)=a.take i++[z]:=by rw[aQ,hz];rfl
   have M:(a.take (i+1)).filter (jV n)=(a.take i).filter (jV n)++(if jV n z=true then [z] else []):=by
    rw[ht,cq,aG];rfl
   unfold iJ;refine⟨_,rfl,_,rfl,_,rfl,(by show 2≤sizeLine;decide),fun t r=>?_⟩;have B:=eo r (.tup [.str n.1,.int z]);refine⟨.ref L,.ref t,n,(n.1,z),rfl,⟨L,rfl,B _ _ (m _ _ (e _ _ J))⟩,⟨t,rfl,dW⟩,_,rfl,?_⟩;have S:r8 n (n.1,z)=!(jV n z):=by unfold r8;simp
   rw[S];dsimp only;rw[Bool.not_not];have nD:D≠t:=d0 d r;by_cases hb:jV n z=true
   ·rw[if_pos hb]at M;rw[if_pos hb];refine⟨_,rfl,B _ _ d,?_,dW,eB.upd (m.trans B) I,I⟩;rw[M,j,aw];rfl
   ·rw[if_neg hb,cf]at M;rw[if_neg hb];exact⟨by rw[M];exact j,B _ _ d,m.trans B,I⟩
  ·rw[ab,aF]at j;subst j;exact q D _ H2 (e.trans m) (e.free I) d (y9 h2) (O.filter _)
 rcases hV n.1 with ⟨z1,z2⟩ | ⟨l,a,h1,h2,O,h4⟩
 ·refine⟨none,.inl ⟨_,Sum.inr n.1,hU e R,rfl,z1.symm⟩,o,rfl,⟨_,eX.of dW⟩,b o [] dW (by rw[z2]) .nil⟩
 ·refine⟨some (.ref l),.inl ⟨_,Sum.inr n.1,hU e R,rfl,h1.symm⟩,l,rfl,⟨_,eX.of (e _ _ h2)⟩,b l a (e _ _ h2) O (h4 trivial)⟩
end
inductive AC (vs:List V)(H:Hp)(Q:VK)(E:XK):Prop
 |mk (c:dZ)(m:Nat)(_:vs=[.int (m:Int)])(_:m<2^c.n)(_:Q (.int ((c.listed m).length:Nat)) H):AC vs H Q E
def qS:Sp:=AC
inductive wA (CC:Addr)(vs:List V)(H:Hp)(Q:VK)(E:XK):Prop
 |mk (G:Hp)(p dx by_:Addr)(fs:List (Str×V))(c:dZ)(m:Nat)(_:vs=[.ref p,.int (m:Int)])(_:er G H)(_:H p=some (.ins CC dx fs))(_:fs.lookup ("by_bit" : Str)=some (V.ref by_))(_:nr G by_ c)(_:c.n<64)(_:m<2^c.n)(_:∀l xs H',eB H H'→H l=none→H' l=some (.lst xs)→Paired (fj G) xs (c.listed m)→(∀b,b≠l→H' b=H b)→Q (.ref l) H'):wA CC vs H Q E
def iX (CC:Addr):Sp:=wA CC
theorem FG:((m:Int) != 0)=true↔m≠0:=by
 rw[bne_iff_ne];omega
theorem pb:((m:Int) != 0)=!decide (m=0):=by
 by_cases h:m=0
 ·subst h;rfl
 ·rw[au h,FG.mpr h];rfl
theorem mI (c:dZ):c.listed 0=[]:=(dZ.JJ (bE _)).mpr rfl
theorem u6 (c:dZ)(m:Nat):(c.listed m).length≤c.n:=bt _ _
section
variable {base:Heap}{f:Addr}
theorem vK:eG ["mask","count"] ["mask"] (eA uF):=i8
theorem zB (F:iL K "count_picks" "count_picks" uF f fd):fb P w K mg base eZ 1 f fd ["mask"] qS:=by
 refine F.ok vK (fun vs H Q E h=>?_) (fun cdv A outer s H vs Q E j h=>?_)
 ·obtain⟨c,m,rfl,_⟩:=h;rfl
 obtain⟨c,m,rfl,g,q⟩:=h;refine⟨_,(dX (eF (i:=1) vK.nd rfl (Or.inl rfl) ef) (dX (jD PassesOwn.never (iw (pv 0) (fun _=>rfl)) (dX (jO (i:=0) vK.nd rfl (Or.inl rfl) (eW zm (pv 0) ef) Ep) (eg (jO (i:=1) vK.nd rfl (Or.inl rfl) ef zT)))) (eg (eR (pv 1))))),?_⟩;refine⟨fun k σ H2=>∃(n t:Nat),σ=[some (.int (n:Int)),some (.int (t:Int))]∧H2=H∧k=n∧n<2^c.n∧t+(c.listed n).length=(c.listed m).length,⟨m,m,0,rfl,rfl,rfl,g,by omega⟩,?_⟩;rintro k σ H2 ⟨n,t,rfl,rfl,rfl,b,a⟩;refine⟨_,rfl,_,rfl,?_⟩;rw[pb];by_cases h0:k=0
 ·subst h0;rw[mI]at a;refine gv ⟨_,rfl,?_⟩;rw[show(c.listed m).length=t by simpa using a.symm]at q;exact q
 ·rw[au h0];refine ir ⟨fun σ' H'=>∃m',m'<k∧_,fun _ _ h=>h,?_⟩;obtain⟨i,r,rfl⟩:=u5 k h0;obtain⟨x,l,_,d⟩:=lj b;have e:((2^i*(2*r+1):Nat):Int)-1=((2^i*(2*r+1)-1:Nat):Int):=by omega
  refine⟨_,rfl,_,rfl,_,_,rfl,rfl,_,_,rfl,rfl,?_⟩;rw[e,mw,rS];refine⟨_,rfl,_,_,rfl,rfl,2^(i+1)*r,?_,2^(i+1)*r,t+1,rfl,rfl,rfl,zK b,?_⟩
  ·have:=nJ i r;have:=bE i;omega
  ·rw[d,aB]at a;omega
theorem Bs:eG ["self","mask","picks","bit"] ["self","mask"] (eA rj):=i8
theorem xw (F:iL K "listed" "Chart.listed" rj f fd)(T:TC K mg CC):fb P w K mg base eZ 1 f fd ["self","mask"] (iX CC):=by
 refine F.ok Bs (fun vs H Q E h=>?_) (fun cdv A outer s H vs Q E Z h=>?_)
 ·obtain⟨G,p,dx,g,fs,c,m,rfl,_⟩:=h;rfl
 obtain⟨G,p,dx,g,fs,c,m,rfl,gh,hp,Y,⟨kvs,C,hB⟩,aa,hm,q⟩:=h;have U:=gh.rd C;have hu:=gc Z;refine⟨_,(dX (eF (i:=2) Bs.nd rfl (Or.inl rfl) (gf ee)) (dX (jD PassesOwn.never (iw (pv 1) (fun _=>rfl)) (dX (eF (i:=3) Bs.nd rfl (Or.inl rfl) (eW gM (pv 1) (iY jM (pv 1)))) (dX (fU (je PySem.F.plainAttrs_list PySem.F.slot_list_append PySem.F.type_list_append gq (pv 2) (dU (fL hu (eD T.cl T.nBy (pv 0)) (pv 3) (fun _ _=>rfl)) ee))) (eg (jO (i:=1) Bs.nd rfl (Or.inl rfl) (pv 3) Eo))))) (eg (eR (pv 2))))),?_⟩;refine⟨(by show 0≤sizeLine;decide),fun l I=>?_⟩;have S:p≠l:=d0 hp I;refine⟨fun k σ H2=>∃(n:Nat) (xs:List V) (ks:List Pk) (N:Option V),σ=[some (.ref p),some (.int (n:Int)),some (.ref l),N]∧H2 l=some (.lst xs)∧(∀b,b≠l→H2 b=H b)∧k=n∧n<2^c.n∧Paired (fj G) xs ks∧ks++c.listed n=c.listed m,⟨m,m,[],[],none,rfl,dW,fun b j=>dY j,rfl,hm,.nil,rfl⟩,?_⟩;rintro k σ H2 ⟨n,xs,ks,N,rfl,d,h2,rfl,O,J,a⟩;have y:eB H H2:=fun b o e=>by rw[h2 b (fun z=>by rw[z,I]at e;cases e)];exact e
 refine⟨_,rfl,_,rfl,?_⟩;rw[pb];by_cases h0:k=0
 ·subst h0;rw[mI,cf]at a;refine gv ⟨_,rfl,?_⟩;exact q l xs H2 y I d (a▸J) h2
 ·rw[au h0];refine ir ⟨fun σ' H'=>∃m',m'<k∧_,fun _ _ h=>h,?_⟩;obtain⟨i,r,rfl⟩:=u5 k h0;obtain⟨x,L,t,M⟩:=lj O;obtain⟨v,R,D⟩:=hB x (aj L);have B:(c.bit x:Int)=((2^i:Nat):Int):=by unfold dZ.bit;rw[t]
  rw[B]at R;have lx:=Paired.length J;have X:ks.length<64:=by
   have:=congrArg List.length a;rw[aE]at this;have:=u6 c m;omega
  refine⟨_,rfl,_,rfl,_,rfl,_,_,rfl,rfl,?_⟩;dsimp only;rw[Cb];refine⟨_,rfl,.inl ⟨rfl,_,eX.of d⟩,_,rfl,p,dx,fs,_,rfl,y _ _ hp,Y,_,rfl,g,v,rfl,.inl ⟨kvs,Sum.inl ((2^i:Nat):Int),hU y U,rfl,R.symm⟩,l,xs,v,rfl,rfl,d,eE (by omega),?_⟩;have e:((2^i*(2*r+1):Nat):Int)-((2^i:Nat):Int)=((2^(i+1)*r:Nat):Int):=by
   have:=nJ i r;have:2^i≤2^i*(2*r+1):=Nat.le_mul_of_pos_right _ (by omega);omega
  refine⟨_,rfl,_,rfl,_,_,rfl,rfl,?_⟩;dsimp only;rw[e];refine⟨2^(i+1)*r,?_,2^(i+1)*r,xs++[v],ks++[x],_,rfl,dW,fun b j=>by rw[dY j];exact h2 b j,rfl,zK O,Paired.snoc J D,?_⟩
  ·have:=nJ i r;have:=bE i;omega
  ·rw[←a,M,bu];rfl
end
abbrev ym (b bits by_ ofp:Addr):List (Str×V):=[("board",.ref b),("bits",.ref bits),("by_bit",.ref by_),("of_part",.ref ofp)]
inductive C8 (CB CC:Addr)(vs:List V)(H:Hp)(Q:VK)(E:XK):Prop
 |mk (p dx b bits by_ ofp st:Addr)(es:List En)(sn:List Nd)(_:vs=[.ref p])(_:H p=some (.ins CC dx (ym b bits by_ ofp)))(_:fV CB H b st es)(_:(es.map eL).Nodup)(_:es.length<64)(_:H bits=some (.dN [(none,.int 0)]))(_:H by_=some (.dK []))(_:H ofp=some (.dK []))(_:by_≠ofp)(_:∀(c:dZ) H',c.es=es→c.sn=sn→er (del H [bits,by_,ofp]) H'→gZ H' bits c c.Jw→nr H' by_ c→kN H' ofp c→Q .non H'):C8 CB CC vs H Q E
def uq (CB CC:Addr):Sp:=C8 CB CC
def dZ.upM (c:dZ)(i:Nat)(x:Str):Nat:=c.maskOf fun k=>decide (k.1=x)&&decide (c.ix k<i)
theorem dZ.Kv (c:dZ)(x:Str):c.upM 0 x=0:=dZ.JI (c.JN _) fun k h=>by
 have:=(dZ.JM.mp h).2;simp at this
theorem dZ.Kw (c:dZ)(x:Str):c.upM c.n x=c.Kc x:=dZ.ext (c.JN _) (c.JN _) fun k=>by
 rw[dZ.Kg];unfold dZ.upM;rw[dZ.JM,aH,aA,aA];exact⟨fun h=>⟨h.1,h.2.1⟩,fun h=>⟨h.1,h.2,c.Jx h.1⟩⟩
theorem dZ.Kx {c:dZ}{k:Pk}(d:c.ks[i]?=some k)(x:Str):c.upM (i+1) x=if k.1=x then c.upM i x ||| c.bit k else c.upM i x:=by
 have a:=aj d;have l:=c.JA d;have key:∀j,j∈c.ks→(c.ix j<i+1↔c.ix j<i∨j=k):=fun j g=>by
  constructor
  ·intro h;by_cases e:c.ix j=i
   ·exact .inr (c.Jz g a (e.trans l.symm))
   ·exact .inl (by lia)
  ·rintro(h | rfl)
   ·lia
   ·lia
 by_cases e:k.1=x
 ·rw[if_pos e];refine dZ.ext (c.JN _) (i4 (c.JN _) (c.JH a)) fun j=>?_;rw[dZ.JC,dZ.JF a];unfold dZ.upM;simp only[dZ.JM,aH,aA]
  constructor
  ·rintro⟨h1,h2,b⟩;rcases (key j h1).mp b with z | z
   ·exact .inl ⟨h1,h2,z⟩
   ·exact .inr z
  ·rintro(⟨h1,h2,b⟩ | rfl)
   ·exact⟨h1,h2,by lia⟩
   ·exact⟨a,e,by lia⟩
 ·rw[if_neg e];refine dZ.ext (c.JN _) (c.JN _) fun j=>?_;unfold dZ.upM;simp only[dZ.JM,aH,aA]
  constructor
  ·rintro⟨h1,h2,b⟩;rcases (key j h1).mp b with z | z
   ·exact⟨h1,h2,z⟩
   ·rw[z]at h2;exact absurd h2 e
  ·rintro⟨h1,h2,b⟩;exact⟨h1,h2,by lia⟩
theorem BC (h:((2^i:Nat):Int)=((2^j:Nat):Int)):i=j:=by
 rcases Nat.lt_trichotomy i j with z | z | z
 ·have:=Nat.pow_lt_pow_right (a:=2) (by decide) z;lia
 ·exact z
 ·have:=Nat.pow_lt_pow_right (a:=2) (by decide) z;lia
theorem nd1:(["pick"]:List Str).Nodup:=by decide +kernel
section
variable {base:Heap}{f:Addr}
theorem Bu:eG ["self","bit","pick"] ["self"] (eA yS):=i8
inductive Gz (c:dZ)(H1:Hp)(p bits by_ ofp:Addr)(i:Nat)(σ:L2.St)(H2:Hp):Prop
 |mk (kb ky ko o2:_)(_:σ=[some (.ref p),some (.int ((2^i:Nat):Int)),o2])(_:H2 bits=some (.dN kb))(_:H2 by_=some (.dK ky))(_:H2 ofp=some (.dK ko))(_:kb.length≤i+1)(_:ky.length≤i)(_:ko.length≤i)(_:eN kb none=some (.int 0))(_:(∀(j:Nat) (k:Pk),j<i→c.ks[j]?=some k→eN kb (some (ja k))=some (.int (c.bit k))∧∃v,eN ky (Sum.inl (c.bit k:Int))=some v∧fj H1 v k))(_:∀x:Str,(eN ko (Sum.inr x)).getD (.int 0)=.int (c.upM i x)∧((∃(j:Nat) (k:Pk),j<i∧c.ks[j]?=some k∧k.1=x)→eN ko (Sum.inr x)=some (.int (c.upM i x)))):Gz c H1 p bits by_ ofp i σ H2
structure I0 (c:dZ)(H1:Hp)(p bits by_ ofp:Addr)(i:Nat)(σ:L2.St)(H2:Hp):Prop where
 ex:Gz c H1 p bits by_ ofp i σ H2
 sm:eB (del H1 [bits,by_,ofp]) H2
theorem BX (F:iL K "give_bits" "Chart.give_bits" yS f fd)(T:TC K mg CC)(bf:TB K mg CB):fb P w K mg base eZ 1 f fd ["self"] (uq CB CC):=by
 refine F.ok Bu (fun vs H Q E h=>?_) (fun cdv A outer s H vs Q E hr h=>?_)
 ·obtain⟨p,dx,b,bits,d,l,st,es,sn,rfl,_⟩:=h;rfl
 obtain⟨p,dx,b,bits,d,l,st,es,sn,rfl,hp,hB,cd,c6,as,a2,a4,a7,q⟩:=h;have hu:=gc hr;refine⟨_,(dX (eF (i:=1) Bu.nd rfl (Or.inl rfl) ef) (eg (fN PassesOwn.never rfl (fh (fK r9 rfl T.sorted boot_sorted (dU (ik (N':=["pick"]) (n:=1) (js:=[]) rfl (ib.closed (by decide +kernel) (by decide +kernel) rfl (by decide +kernel) rfl) (gF (by decide)) (rH (eD bf.cl bf.nN (eD T.cl T.nBoard (pv 0)))) (fun C s2 H2 fp=>eK (i:=0) nd1 rfl (Or.inl rfl)) (fun C s2 H2 fp=>nE (iN (vP (pv 0)))) (fun C s2 H2 fp=>pv 0)) ee))) (eK (i:=2) Bu.nd rfl (Or.inl rfl)) (dX (j4 hu (eD T.cl T.nBits (pv 0)) (pv 2) (pv 1) rfl) (dX (iB hu (eD T.cl T.nBy (pv 0)) (pv 1) (pv 2) rfl) (dX (iB hu (eD T.cl T.nOf (pv 0)) (eO eQ (pv 2) ef (fun _ _=>rfl)) (eW qf (jE hu (eD T.cl T.nOf (pv 0)) (eO eQ (pv 2) ef (fun _ _=>rfl)) ef ⟨rfl,rfl,rfl,rfl⟩) (pv 1)) rfl) (eg (jO (i:=1) Bu.nd rfl (Or.inl rfl) (pv 1) zT)))))))),?_⟩;obtain⟨bx,dn,dv,bd,vk,b1,b2,b3,b4,b5⟩:=id hB.ex;have ln:=Paired.length b3;refine⟨_,rfl,p,dx,_,_,rfl,hp,(by kernel_rfl),b,bx,_,_,rfl,b1,gm _ _,dn,_,rfl,b2,fun o H1 sf bl a3=>?_⟩;refine we (n:=bd.length+1) (fun D i ys H3=>H3=upd H1 D (.lst ys)∧H1 D=none∧Paired (t7 H1) ys ((es.take (i-1)).map eL)) (fun D hD=>⟨rfl,hD,.nil⟩) (fun D i ys H3 hi ⟨e1,e2,e3⟩=>?_) (fun D i x ys H3 H4 hi hy ⟨e1,e2,e3⟩=>?_) (fun D ys H3 ⟨e1,e2,e3⟩=>?_)
 ·subst e1;have B9:dn≠D:=d0 a3 e2;refine⟨fun cx=>⟨cx,by rw[dY B9];exact a3⟩,fun c8=>⟨by rw[c8];exact aq _,by rw[dY B9];exact a3⟩,dW,?_⟩;have:=Paired.length e3;rw[ab,aN]at this;exact eE (by lia)
 ·obtain⟨rfl,kv,G,kx⟩:=hy;subst e1;unfold iJ
  match i,G,hi,e3 with
  |0,G,hi,e3=>
   have cv:kv=(none,.ref st):=by simpa using G.symm
   subst cv;cases (show x=.non from kx);exact⟨_,rfl,_,rfl,gv ⟨rfl,e2,e3⟩⟩
  |i+1,G,hi,e3=>
   have m:bd[i]?=some kv:=by simpa using G
   obtain⟨e,c4,ch,_⟩:=Paired.Ju b3 m;rw[ch]at kx;obtain⟨bq,rfl,al⟩:=kx;have nb:bq≠D:=fun z=>by rw[z,dW]at al;cases al
   rw[dY nb]at al;refine⟨_,rfl,_,rfl,ir ⟨_,rfl,dW,by rw[iQ],e2,?_⟩⟩;have ht:es.take (i+1+1-1)=es.take i++[e]:=by rw[dL,aQ,c4];rfl
   rw[ht,aw];exact Paired.snoc e3 ⟨bq,rfl,al⟩
 ·subst e1;rw[dL,ln,aF]at e3;have sD:=eo e2 (.lst ys);have dc:Paired (t7 (upd H1 D (.lst ys))) ys (es.map eL):=Paired.Ja e3 fun _ _ ⟨z,z1,z2⟩=>⟨z,z1,sD _ _ z2⟩;refine⟨D,ys,es.map eL,rfl,eX.of dW,dc,cd,by rw[ab];exact c6,fun L r dp hL O a9 c7=>?_⟩;have sL:=eo hL (.lst r);obtain⟨c,c1,c2,c3⟩:=EA sn cd a9 c7;have cn:c.n=r.length:=by unfold dZ.n;rw[c3];exact(Paired.length O).symm
  have an:er H (upd (upd H1 D (.lst ys)) L (.lst r)):=sf.trans (sD.trans sL).toF;generalize hH:upd (upd H1 D (.lst ys)) L (.lst r)=H4 at *;have b6:H4 L=some (.lst r):=by rw[←hH];exact dW
  have cs:Paired (fj H4) r c.ks:=by rw[c3];exact Paired.Ja O fun _ _ ⟨z,z1,z2⟩=>⟨z,z1,sL _ _ z2⟩
  refine⟨L,rfl,⟨_,eX.of b6⟩,?_⟩;have da:bits≠dn:=fun z=>by
   rw[z]at as;rcases b2 with y | ⟨o',y⟩ <;> (rw[as]at y;cases y)
  have c9:d≠dn:=fun z=>by
   rw[z]at a2;rcases b2 with y | ⟨o',y⟩ <;> (rw[a2]at y;cases y)
  have cz:l≠dn:=fun z=>by
   rw[z]at a4;rcases b2 with y | ⟨o',y⟩ <;> (rw[a4]at y;cases y)
  have a0:∀{a u},a≠dn→H a=some u→H4 a=some u:=fun {a u} na e=>by
   have e1:H1 a=some u:=by rw[bl a na];exact e
   exact sL _ _ (sD _ _ e1)
  have aa:=a0 da as;have a6:=a0 c9 a2;have a1:=a0 cz a4;have b8:d≠bits:=fe a6 aa (fun z=>nomatch z);have bv:l≠bits:=fe a1 aa (fun z=>nomatch z);have cp:H4 p=some (.ins CC dx (ym b bits d l)):=an.ins hp
  have out:∀{H2:Hp},eB (del H4 [bits,d,l]) H2→∀{a u},H4 a=some u→(∀kvs,u≠.dN kvs)→(∀kvs,u≠.dK kvs)→H2 a=some u:=fun {H2} sm {a u} e n1 n2=>sm _ _ (by
   rw[el (by
    simp only[ak,aM,or_false,not_or]
    exact⟨fun z=>n1 _ (by rw[z,aa]at e;exact(Option.some.inj e).symm),fun z=>n2 _ (by rw[z,a6]at e;exact(Option.some.inj e).symm),fun z=>n2 _ (by rw[z,a1]at e;exact(Option.some.inj e).symm)⟩)]
   exact e)
  refine fR (K:=K) (a:=L) (xs:=r) (I0 c H4 p bits d l) ⟨⟨_,_,_,none,rfl,aa,a6,a1,aq _,aq _,aq _,rfl,fun j k B=>absurd B (bZ _),fun x=>⟨by rw[dZ.Kv];rfl,fun⟨j,_,B,_⟩=>absurd B (bZ _)⟩⟩,eU _ _⟩
   (fun i σ H2 _ J=>eX.of (out J.sm b6 (fun _ z=>nomatch z) fun _ z=>nomatch z)) ?_ ?_
  ·rintro i x σ H2 hi ⟨⟨kb,ky,ko,o2,rfl,U,Z,ag,l1,l2,l3,v0,vj,vx⟩,sm⟩;obtain⟨k,ad,G⟩:=Paired.Ju cs hi;obtain⟨kq,rfl,hq⟩:=id G;have dd:i<r.length:=(af.mp hi).1;have c5:i<64:=by
    rw[Paired.length O,a9.length_eq,ab]at dd
    lia
   have a5:c.bit k=2^i:=by unfold dZ.bit;rw[c.JA ad]
   have ah:=out sm hq (fun _ z=>nomatch z) fun _ z=>nomatch z;have N:=out sm cp (fun _ z=>nomatch z) fun _ z=>nomatch z;have a8:p≠bits:=fe N U (fun z=>nomatch z);have ct:p≠d:=fe N Z (fun z=>nomatch z);have dl:p≠l:=fe N ag (fun z=>nomatch z);have df:kq≠bits:=fe ah U (fun z=>nomatch z);have cy:kq≠d:=fe ah Z (fun z=>nomatch z);refine⟨_,rfl,_,rfl,p,dx,_,_,rfl,N,(by kernel_rfl),_,rfl,bits,_,rfl,kg.of (k:=some (ja k)) U ⟨kq,rfl,ah⟩ (eE (by lia)),?_⟩;refine⟨_,rfl,_,rfl,p,dx,_,_,rfl,(by rw[dY a8];exact N),(by kernel_rfl),_,rfl,d,_,rfl,ki.k (k:=Sum.inl ((2^i:Nat):Int)) (by rw[dY b8];exact Z) (eE (by lia)),?_⟩;generalize M:upd (upd H2 bits (.dN (eY kb (some (ja k)) (.int ((2^i:Nat):Int))))) d (.dK (eY ky (Sum.inl ((2^i:Nat):Int)) (.ref kq)))=H3;have ap:H3 l=some (.dK ko):=by rw[←M,dY (Ne.symm a7),dY bv];exact ag
   have b7:H3 p=some (.ins CC dx (ym b bits d l)):=by rw[←M,dY ct,dY a8];exact N
   have bm:H3 kq=some (.tup [.str k.1,.int k.2]):=by rw[←M,dY cy,dY df];exact ah
   refine⟨_,rfl,p,dx,_,_,rfl,b7,(by kernel_rfl),l,rfl,.inl ⟨_,.inl ap⟩,_,rfl,kq,_,_,_,rfl,rfl,ia.of bm,rfl,_,hJ.k (k:=Sum.inr k.1) ap,_,rfl,_,_,(vx k.1).1,rfl,?_⟩;dsimp only;rw[wg];refine⟨_,rfl,p,dx,_,_,rfl,b7,(by kernel_rfl),_,rfl,kq,_,_,_,rfl,rfl,ia.of bm,rfl,l,_,rfl,ki.k (k:=Sum.inr k.1) ap (eE (by lia)),?_⟩;refine⟨_,rfl,_,rfl,_,_,rfl,rfl,?_⟩;have e2:((2^i:Nat):Int)+((2^i:Nat):Int)=((2^(i+1):Nat):Int):=by rw[cJ];lia
   dsimp only;rw[e2];refine⟨⟨eY kb (some (ja k)) (.int ((2^i:Nat):Int)),eY ky (Sum.inl ((2^i:Nat):Int)) (.ref kq),eY ko (Sum.inr k.1) (.int ((c.upM i k.1 ||| 2^i:Nat):Int)),_,rfl,?_,?_,dW,?_,?_,?_,?_,fun j k' B m=>?_,fun x=>?_⟩,fun b' u t=>?_⟩
   ·rw[dY (Ne.symm bv),←M,dY (Ne.symm b8),dW]
   ·rw[dY a7,←M,dW]
   ·have:=fD kb (some (ja k)) (V.int ((2^i:Nat):Int));lia
   ·have:=fD ky (Sum.inl ((2^i:Nat):Int)) (V.ref kq);lia
   ·have:=fD ko (Sum.inr k.1) (V.int ((c.upM i k.1 ||| 2^i:Nat):Int));lia
   ·rw[fJ,if_neg (fun z=>nomatch z)];exact v0
   ·rw[fJ,fJ];by_cases ej:j=i
    ·subst ej;rw[ad]at m;cases m;rw[if_pos rfl,a5,if_pos rfl];exact⟨rfl,_,rfl,G⟩
    ·have R:c.bit k'≠2^i:=fun z=>ej (by
      unfold dZ.bit at z;rw[c.JA m]at z
      exact BC (by rw[z]))
     have co:¬(some (ja k')=some (ja k)):=fun z=>by
      have:=pj (Option.some.inj z);rw[this]at R;exact R a5
     obtain⟨g1,g2⟩:=vj j k' (by lia) m;rw[if_neg co,if_neg (fun z=>R (by have:=Sum.inl.inj z;lia))];exact⟨g1,g2⟩
   ·rw[fJ,dZ.Kx ad x];by_cases ex:k.1=x
    ·subst ex;rw[if_pos rfl,if_pos rfl,a5];exact⟨rfl,fun _=>rfl⟩
    ·rw[if_neg (fun z=>ex (Sum.inr.inj z).symm),if_neg ex];refine⟨(vx x).1,?_⟩;rintro⟨j,k',B,m,ek⟩;refine(vx x).2 ⟨j,k',?_,m,ek⟩;by_cases ej:j=i
     ·subst ej;rw[ad]at m;cases m;exact absurd ek ex
     ·lia
   ·have Y:b'∉[bits,d,l]:=fun z=>by rw[fq z]at t;cases t
    have I:=Y;simp only[ak,aM,or_false,not_or]at I;rw[dY I.2.2,←M,dY I.2.1,dY I.1];exact sm _ _ t
  ·rintro σ H2 ⟨⟨kb,ky,ko,o2,rfl,U,Z,ag,l1,l2,l3,v0,vj,vx⟩,sm⟩;have b9:er (del H [bits,d,l]) H2:=fun b' u t=>by
    have Y:b'∉[bits,d,l]:=fun z=>by rw[fq z]at t;cases t
    rw[el Y]at t;rcases an b' u t with z | ⟨g,o',z⟩
    ·exact .inl (sm _ _ (by rw[el Y];exact z))
    ·exact .inr ⟨g,o',sm _ _ (by rw[el Y];exact z)⟩
   have X:∀k∈c.ks,∃j:Nat,j<r.length∧c.ks[j]?=some k:=fun k G=>by
    obtain⟨j,B⟩:=az.mp G;have:=(af.mp B).1;exact⟨j,by rw[←cn];exact this,B⟩
   refine q c H2 c1 c2 b9 ⟨kb,.inl U,fun w hw=>?_⟩ ⟨ky,.inl Z,fun k G=>?_⟩ ⟨ko,.inl ag,fun x=>?_⟩
   ·cases w with
    |none=>exact v0
    |some k=>
     obtain⟨j,B,S⟩:=X k (hw k rfl);exact(vj j k B S).1
   ·obtain⟨j,B,S⟩:=X k G;obtain⟨_,v,g1,g2⟩:=vj j k B S;obtain⟨z,z1,z2⟩:=g2;exact⟨v,g1,z,z1,out sm z2 (fun _ z=>nomatch z) fun _ z=>nomatch z⟩
   ·rw[←dZ.Kw,cn];exact⟨(vx x).1,fun⟨k,G,ek⟩=>let ⟨j,B,S⟩:=X k G;(vx x).2 ⟨j,k,B,S,ek⟩⟩
end
theorem dZ.en (c:dZ):(c.es.map eL).Nodup:=c.pm.nodup_iff.mp c.nd
theorem dZ.n_eq (c:dZ):c.n=c.es.length:=by unfold dZ.n;rw[c.pm.length_eq,ab]
theorem i6 {st:Addr}{c:dZ}(B:fV C H p st c.es)(N:gB H st c.sn):∃dx dn dv,H p=some (.ins C dx (jJ dn dv))∧∀w v,c.Who w→gr H v w→∃a,iq H dn v (some (.ref a))∧gB H a (c.needs w):=by
 obtain⟨dx,dn,dv,h1,h2,h⟩:=B.start;refine⟨dx,dn,dv,h1,fun w v d b=>?_⟩;cases w with
 |none=>cases (show v=.non from b);exact⟨st,h2,N⟩
 |some k=>
  rcases h v k b with ⟨z,_⟩ | ⟨_,e,l,i,a,zs,g,j,m⟩
  ·exact absurd ((c.mem k).mp (d k rfl)) z
  ·refine⟨a,g,zs,j,?_⟩;show Paired (fA H) zs (gN c.es k);rw[←i,j6 c.en l];exact m
theorem lc (n:Nd):∀l:List Nd,eJ (l++[n])=if n.1∈eJ l then eJ l else eJ l++[n.1]
 |[]=>by simp[eJ]
 |m::l=>by
  rw[cY,eJ,eJ,lc n l];by_cases h1:n.1∈eJ l
  ·rw[if_pos h1];have:n.1∈m.1::(eJ l).filter fun x=>!decide (x=m.1):=by
    by_cases e:n.1=m.1
    ·rw[e];simp
    ·exact aZ _ (aV.mpr ⟨h1,by simpa using e⟩)
   rw[if_pos this]
  ·rw[if_neg h1,cq];by_cases e:n.1=m.1
   ·rw[if_pos (by rw[e];simp)];simp[e]
   ·rw[if_neg]
    ·simp[e]
    ·rw[ak,not_or];exact⟨e,fun z=>h1 (aV.mp z).1⟩
theorem j7 (l:List Nd)(n:Nd)(x:Str)(v:Int):jf (l++[n]) x v=(jf l x v&&(!decide (n.1=x)||jV n v)):=by
 unfold jf;rw[List.all_append];simp
theorem sY {l:List Nd}(h:x∉eJ l)(v:Int):jf l x v=true:=lh.mpr fun n hn e=>absurd (gK.mpr ⟨n,hn,e⟩) h
theorem Ch (x:Str)(lo hi b a v:Int):jV (x,(if b>lo then b else lo),(if a<hi then a else hi)) v=(jV (x,b,a) v&&jV (x,lo,hi) v):=by
 unfold jV;rw[cN];simp only[aH,aA]
 split <;> split <;> lia
inductive tZ (CB CC:Addr)(vs:List V)(H:Hp)(Q:VK)(E:XK):Prop
 |mk (p dx b bits st:Addr)(fs:List (Str×V))(wv:V)(c:dZ)(w:Option Pk)(_:vs=[.ref p,wv])(_:H p=some (.ins CC dx fs))(_:fs.lookup ("board" : Str)=some (V.ref b))(_:fs.lookup ("bits" : Str)=some (V.ref bits))(_:fV CB H b st c.es)(_:gB H st c.sn)(_:gZ H bits c c.Jw)(_:c.Who w)(_:gr H wv w)(_:c.n<64)(_:(c.needs w).length≤100)(_:∀d H',eB H H'→H d=none→iK H' d c w→Q (.ref d) H'):tZ CB CC vs H Q E
def l5 (CB CC:Addr):Sp:=tZ CB CC
theorem IN:(["version","self","part"]:List Str).Nodup:=by decide +kernel
theorem Ag (e:eB H H'){y:V}{r:Option V}(h:iq H a y r):iq H' a y r:=by
 obtain⟨kvs,k,h1,h2,g⟩:=h;refine⟨kvs,k,hU e h1,?_,g⟩;cases k with
 |none=>exact h2
 |some ks=>obtain⟨b,d,i⟩:=h2;exact⟨b,d,e _ _ i⟩
theorem Ec (h:(es.map eL).Nodup)(n:Nd):(jH es n).Nodup:=by
 unfold jH;rw[List.nodup_iff_pairwise_ne,cA]at *;refine List.Pairwise.imp_of_mem (fun {a b} ha hb hab z=>?_) (h.filter (li n));have h1:=(aV.mp ha).2;have h2:=(aV.mp hb).2;unfold li at h1 h2;simp only[aH,aA]at h1 h2;exact hab (Prod.ext (h1.1.trans h2.1.symm) z)
theorem yd {c:dZ}{w:Option Pk}{lo hi:Int}{ms:List Int}(b:ms.Perm (jH c.es (x,lo,hi)))(j:∀v,jV (x,lo,hi) v=jf (c.needs w) x v):(ms.map fun v=>(c.bit (x,v):Int)).sum=(c.Kd w x:Nat)∧(∀v∈ms,(x,v)∈c.ks):=by
 have i:∀v∈ms,(x,v)∈c.ks:=fun v a=>(c.mem _).mpr (lP.mp (b.subset a)).1;refine⟨?_,i⟩;have o:(ms.map fun v=>((x,v):Pk)).Nodup:=by
  rw[List.nodup_iff_pairwise_ne,cA];exact(b.nodup_iff.mpr (Ec c.en _)).imp fun h z=>h (Prod.mk.inj z).2
 have:=dZ.Km (c:=c) (ms.map fun v=>((x,v):Pk)) o (fun k d=>by obtain⟨v,a,rfl⟩:=av.mp d;exact i v a);rw[ck]at this;rw[show(ms.map fun v=>(c.bit (x,v):Int))=ms.map ((fun k=>(c.bit k:Int)) ∘ fun v=>(x,v)) from rfl,this]
 congr 1
 unfold dZ.Kd;refine dZ.ext (c.JN _) (c.JN _) fun k=>?_;rw[dZ.JM,dZ.JM,aA,aH,aA];refine and_congr_right fun g=>?_
 constructor
 ·intro h;obtain⟨v,a,rfl⟩:=av.mp h;exact⟨rfl,by rw[←j];exact(lP.mp (b.subset a)).2⟩
 ·rintro⟨h1,h2⟩;obtain⟨l,m⟩:=k;have e:l=x:=h1;subst e;exact av.mpr ⟨m,b.symm.subset (lP.mpr ⟨(c.mem _).mp g,by rw[j];exact h2⟩),rfl⟩
inductive Gq (H:Hp)(ns:List Nd)(j:Addr)(i:Nat)(H2:Hp):Prop
 |mk (kj:_)(_:H2 j=some (.dK kj))(_:kj.map (·.1)=(eJ (ns.take i)).map Sum.inr)(_:kj.length≤i)(_:∀x∈eJ (ns.take i),∃q lo hi,eN kj (Sum.inr x)=some (.ref q)∧del H2 [j] q=some (.tup [.str x,.int lo,.int hi])∧∀v,jV (x,lo,hi) v=jf (ns.take i) x v):Gq H ns j i H2
structure IX (H:Hp)(ns:List Nd)(j:Addr)(i:Nat)(H2:Hp):Prop where
 ex:Gq H ns j i H2
 sm:eB H H2
section
variable {base:Heap}{f:Addr}
theorem qX:eG ["self","who","joint","part","low","high","earlier","allowed","versions"] ["self","who"] (eA oG):=i8
theorem uT (F:iL K "allowed_by" "Chart.allowed_by" oG f fd)(T:TC K mg CC)(a7:TB K mg CB)(MM:Mt P w K mg base CB eZ 2 "meeting" ["self","need"] (jC CB)):fb P w K mg base eZ 3 f fd ["self","who"] (l5 CB CC):=by
 refine F.ok qX (fun vs H Q E h=>?_) (fun cdv A outer s H vs Q E hr h=>?_)
 ·obtain⟨p,dx,b,bits,st,fs,wv,c,w,rfl,_⟩:=h;rfl
 obtain⟨p,dx,b,bits,st,fs,wv,c,w,rfl,hp,b4,cz,hB,hN,ct,hw,cx,cv,df,q⟩:=h;have hu:=gc hr;refine⟨_,(dX (eF (i:=2) qX.nd rfl (Or.inl rfl) gH) (dX (fN PassesOwn.never rfl (fh (eV hu (eD a7.cl a7.nN (eD T.cl T.nBoard (pv 0))) (pv 1) (fun _ _=>rfl))) (oP rfl (gT (eK (i:=3) qX.nd rfl (Or.inr rfl)) (gT (eK (i:=4) qX.nd rfl (Or.inl rfl)) (gT (eK (i:=5) qX.nd rfl (Or.inl rfl)) lJ)))) (dX (eF (i:=6) qX.nd rfl (Or.inl rfl) (jE hu (pv 2) (pv 3) (ge (dU (pv 3) (dU (pv 4) (dU (pv 5) ee)))) ⟨rfl,rfl,rfl,rfl⟩)) (eg (iB hu (pv 2) (pv 3) (ge (dU (pv 3) (dU (fK (qt rfl) rfl T.max boot_max (dU (pv 4) (dU (eO eQ (pv 6) ef (fun _ _=>rfl)) ee))) (dU (fK (qr rfl) rfl T.min boot_min (dU (pv 5) (dU (eO eQ (pv 6) ef (fun _ _=>rfl)) ee))) ee)))) rfl)))) (dX (eF (i:=7) qX.nd rfl (Or.inl rfl) gH) (dX (fN PassesOwn.never rfl (DV (pv 2)) (eK (i:=3) qX.nd rfl (Or.inr rfl)) (dX (eF (i:=8) qX.nd rfl (Or.inl rfl) (gY MM hr eP (eD T.cl T.nBoard (pv 0)) (dU (fL hu (pv 2) (pv 3) (fun _ _=>rfl)) ee))) (eg (iB hu (pv 7) (pv 3) (fK (x6 rfl) rfl T.sum boot_sum (dU (ik (N':=["version","self","part"]) (n:=1) (js:=[0,3]) rfl (ib.two (c:=s.heap.objs.size+1) (c':=s.heap.objs.size+2) (y:="self") (y':="part") rfl rfl rfl (by decide +kernel) (by decide +kernel) rfl (by decide +kernel) (by decide +kernel) rfl rfl rfl rfl rfl rfl rfl rfl rfl) (gF (by decide)) (fh (pv 8)) (fun C s2 H2 fp=>eK (i:=0) IN rfl (Or.inl rfl)) (fun C s2 H2 fp=>iH) (fun C s2 H2 fp=>eV hu (eD T.cl T.nBits (pv 1)) (ge (dU (pv 2) (dU (pv 0) ee))) (fun _ _=>rfl))) ee)) rfl)))) (eg (eR (ze (pv 7)))))))),?_⟩;intro j hj;have s0:=eo hj (.dK []);obtain⟨bx,dn,dv,b7,cp⟩:=i6 hB hN;obtain⟨na,b9,zs,hz,b5⟩:=cp w wv hw cx;refine⟨_,rfl,p,dx,_,_,rfl,s0 _ _ hp,b4,b,bx,_,_,rfl,s0 _ _ b7,gm _ _,_,rfl,dn,_,rfl,Ag s0 b9,na,rfl,⟨_,eX.of (s0 _ _ hz)⟩,?_⟩;have lz:=Paired.length b5;refine fR (K:=K) (a:=na) (xs:=zs) (fun i σ H2=>∃o3 o4 o5 o6,σ=[some (.ref p),some wv,some (.ref j),o3,o4,o5,o6,none,none]∧IX H (c.needs w) j i H2)
  ⟨none,none,none,none,rfl,⟨[],dW,rfl,aq _,fun x G=>nomatch G⟩,s0⟩ ((by rintro i σ H2 _ ⟨_,_,_,_,_,J⟩;exact eX.of (J.sm _ _ hz))) ?_ ?_
 ·rintro i x σ H2 hi ⟨o3,o4,o5,o6,rfl,⟨L,R,d,a5,B⟩,sm⟩;obtain⟨n,bq,hn⟩:=Paired.Ju b5 hi;obtain⟨nq,rfl,c8⟩:=hn;obtain⟨x,N,r⟩:=n;have ht:(c.needs w).take (i+1)=(c.needs w).take i++[(x,N,r)]:=by rw[aQ,bq];rfl
  have c7:i<100:=by have:=(af.mp bq).1;lia
  refine⟨nq,_,rfl,ia.of (sm _ _ c8),rfl,_,_,rfl,_,_,rfl,_,_,rfl,rfl,?_⟩;refine⟨_,rfl,j,rfl,.inl ⟨_,.inl R⟩,_,rfl,_,rfl,_,rfl,_,rfl,(by show 3≤sizeLine;decide),fun t as=>?_⟩;have st:=eo as (.tup [.str x,.int N,.int r]);have dd:j≠t:=d0 R as;generalize b8:upd H2 t (.tup [.str x,.int N,.int r])=H3 at *;have a1:H3 j=some (.dK L):=st _ _ R;have old:∃q' M g,(eN L (Sum.inr x)).getD (.ref t)=.ref q'∧H3 q'=some (.tup [.str x,.int M,.int g])∧∀v,(jV (x,M,g) v&&jV (x,N,r) v)=jf ((c.needs w).take (i+1)) x v:=by
   by_cases G:x∈eJ ((c.needs w).take i)
   ·obtain⟨q',M,g,g1,S,g3⟩:=B x G;have ch:q'≠j:=fun z=>by rw[z,fq (by simp)]at S;cases S
    refine⟨q',M,g,by rw[g1];rfl,st _ _ (by rw[el (by simpa using ch)]at S;exact S),fun v=>?_⟩;rw[ht,j7,g3,ao rfl];rfl
   ·have hv:eN L (Sum.inr x)=none:=by
     cases hq:eN L (Sum.inr x) with
     |none=>rfl
     |some u=>
      have:=iA hq;rw[d]at this;obtain⟨y,I,e⟩:=av.mp this;rw[Sum.inr.inj e]at I;exact absurd I G
    refine⟨t,N,r,by rw[hv];rfl,by rw[←b8];exact dW,fun v=>?_⟩;rw[ht,j7,sY G,ao rfl,Bool.and_self];rfl
  obtain⟨q',M,g,g1,S,g3⟩:=old;refine⟨_,hJ.k (k:=Sum.inr x) a1,?_⟩;rw[g1];refine⟨_,rfl,_,rfl,_,rfl,q',_,_,_,rfl,rfl,ia.of S,rfl,_,_,rfl,_,rfl,_,rfl,q',_,_,_,rfl,rfl,ia.of S,rfl,_,_,rfl,(by show 3≤sizeLine;decide),fun t2 b1=>?_⟩;have a3:=eo b1 (.tup [.str x,.int (if M>N then M else N),.int (if g<r then g else r)]);have bl:j≠t2:=d0 a1 b1;refine⟨_,rfl,_,rfl,j,_,rfl,ki.k (k:=Sum.inr x) (a3 _ _ a1) (eE (by lia)),?_⟩;refine⟨_,_,_,_,rfl,⟨eY L (Sum.inr x) (.ref t2),dW,?_,?_,fun y I=>?_⟩,eB.upd (sm.trans (st.trans a3)) hj⟩
  ·rw[ht,lc];by_cases G:x∈eJ ((c.needs w).take i)
   ·rw[if_pos G];obtain⟨_,_,_,z,_⟩:=B x G;rw[lQ (by rw[z];rfl)];exact d
   ·have hv:eN L (Sum.inr x)=none:=by
     cases hq:eN L (Sum.inr x) with
     |none=>rfl
     |some u=>
      have:=iA hq;rw[d]at this;obtain⟨y,I,e⟩:=av.mp this;rw[Sum.inr.inj e]at I;exact absurd I G
    rw[if_neg G,gR _ hv,aw,d,aw];rfl
  ·have:=fD L (Sum.inr x) (V.ref t2);lia
  ·rw[fJ,py (by simp)];by_cases ey:y=x
   ·subst ey;rw[if_pos rfl];refine⟨t2,_,_,rfl,by rw[el (by simpa using Ne.symm bl)];exact dW,fun v=>?_⟩;rw[←g3];exact Ch _ _ _ _ _ v
   ·rw[if_neg (fun z=>ey (Sum.inr.inj z))];have c6:y∈eJ ((c.needs w).take i):=by
     rw[ht,lc]at I;by_cases G:x∈eJ ((c.needs w).take i)
     ·rw[if_pos G]at I;exact I
     ·rw[if_neg G]at I;exact(ay.mp I).elim id fun z=>absurd (ai.mp z) ey
    obtain⟨q0,cy,ag,f1,f2,f3⟩:=B y c6;have ad:q0≠j:=fun z=>by rw[z,fq (by simp)]at f2;cases f2
    rw[el (by simpa using ad)]at f2;refine⟨q0,cy,ag,f1,by rw[el (by simpa using ad)];exact a3 _ _ (st _ _ f2),fun v=>?_⟩;rw[f3,ht,j7,au (fun z=>ey z.symm)];simp
 ·rintro σ H2 ⟨o3,o4,o5,o6,rfl,⟨L,R,d,a5,B⟩,sm⟩;rw[lz,aF]at d B;intro O an;have Z:j≠O:=d0 R an;have a2:=eo an (.dK []);have a4:=sm.trans a2;have X:H O=none:=sm.free an;refine⟨_,rfl,j,L,rfl,.inl (a2 _ _ R),fun o H4 sf a8 bd=>?_⟩;have h4:∀a,a≠j→H4 a=upd H2 O (.dK []) a:=a8;have s4:eB H H4:=fun a u e=>by
   rw[h4 a (fun z=>by rw[z,hj]at e;cases e)];exact a4 _ _ e
  have bf:H4 O=some (.dK []):=by rw[h4 O (Ne.symm Z)];exact dW
  have c5:L.length=(eJ (c.needs w)).length:=by
   have:=congrArg List.length d;rw[ab,ab]at this;exact this
  refine rY (kvs:=L) (fun i σ H5=>∃U o3 o4 o5 o6 o8,σ=[some (.ref p),some wv,some (.ref j),o3,o4,o5,o6,some (.ref O),o8]∧H5 O=some (.dK U)∧eB (del H4 [O]) H5∧U.map (·.1)=((eJ (c.needs w)).take i).map Sum.inr∧U.length≤i∧∀x∈(eJ (c.needs w)).take i,eN U (Sum.inr x)=some (.int (c.Kd w x)))
   ⟨[],_,_,_,_,none,rfl,bf,eU _ _,rfl,aq _,fun x G=>by simp at G⟩ ((by rintro i σ H5 _ ⟨_,_,_,_,_,_,_,_,e,_⟩;exact e _ _ (by rw[el (by simpa using Z)];exact bd))) ?_ ?_
  ·rintro i kv σ H5 hi ⟨U,o3,o4,o5,o6,o8,rfl,aa,s5,Y,c1,ap⟩;have b3:(L.map (·.1))[i]?=some kv.1:=by rw[ae,hi];rfl
   rw[d,ae]at b3;obtain⟨x,G,ex⟩:=ax.mp b3;rw[←ex];have cs:=aj G;obtain⟨q0,lo,ag,g1,S,g3⟩:=B x cs;have ad:q0≠j:=fun z=>by rw[z,fq (by simp)]at S;cases S
   rw[el (by simpa using ad)]at S;have c7:i<100:=by
    have h1:=(af.mp hi).1;have h2:L.length≤(c.needs w).length:=by rw[←lz]at *;lia
    lia
   have ah:eB H H5:=fun a u e=>s5 _ _ (by rw[el (by simpa using fun z=>by rw[z,X]at e;cases e)];exact s4 _ _ e)
   have cn:H5 q0=some (.tup [.str x,.int lo,.int ag]):=s5 _ _ (by
    have:q0≠O:=d0 S an;rw[el (by simpa using this),h4 q0 ad]
    exact a2 _ _ S)
   have cd:H5 j=some (.frz o (.dK L)):=s5 _ _ (by rw[el (by simpa using Z)];exact bd);refine⟨_,rfl,p,dx,_,_,rfl,ah _ _ hp,b4,b,bx,_,rfl,ah _ _ b7,pC _ _ (by decide +kernel) (by decide +kernel),_,rfl,_,rfl,j,_,rfl,.inl ⟨L,Sum.inr x,.inr ⟨o,cd⟩,rfl,g1.symm⟩,b,st,c.es,_,(x,lo,ag),rfl,hB.same ah,⟨q0,rfl,cn⟩,by rw[←c.n_eq];exact cv,fun l ms H6 s6 hl bv a6 dc=>?_⟩;obtain⟨a0,c2⟩:=yd (c:=c) (w:=w) a6 g3;have da:ms.length<64:=by
    rw[a6.length_eq];have:=lO c.es (x,lo,ag);rw[←c.n_eq]at this
    lia
   refine⟨_,rfl,l,rfl,⟨_,eX.of bv⟩,?_⟩;have c3:=ah.trans s6;refine gy (xs:=ms.map V.int) (fun D i ys H7=>ys=((ms.take i).map fun v=>V.int (c.bit (x,v)))∧H7 D=some (.lst ys)∧eB H6 H7∧H6 D=none) (fun D hD=>⟨by simp,dW,eo hD _,hD⟩)
    (fun D i ys H7 hi ⟨e1,e2,e3,_⟩=>⟨eX.of (e3 _ _ bv),e2,?_⟩) (fun D i y ys H7 hi ⟨e1,e2,e3,e4⟩=>?_) (fun D ys H7 ⟨e1,e2,e3,e4⟩=>?_)
   ·rw[e1,ab,aN];exact eE (by lia)
   ·rw[ae]at hi;obtain⟨z,bm,rfl⟩:=ax.mp hi;unfold iJ mT;dsimp only;rw[if_pos rfl];have b2:=c3.trans e3;refine⟨_,rfl,p,dx,_,_,rfl,b2 _ _ hp,cz,_,rfl,_,rfl,(by show 2≤sizeLine;decide),fun t as=>?_⟩;have s8:=eo as (.tup [.str x,.int z]);refine⟨bits,_,rfl,(ct.same (b2.trans s8)).get (w:=some (x,z)) (fun k e=>by cases e;exact c2 z (aj bm)) ⟨t,rfl,dW⟩,s8 _ _ e2,?_,dW,eB.upd (e3.trans s8) e4,e4⟩;rw[e1,aQ,bm,aw];rfl
   ·rw[ab,aF]at e1;subst e1;have a9:(ms.map fun v=>V.int (c.bit (x,v)))=(ms.map fun v=>(c.bit (x,v):Int)).map V.int:=by rw[ck];rfl
    rw[a9]at e2;have c9:c.Kd w x<2^63:=bb (c.JN _) (Nat.pow_le_pow_right (by decide) (by lia));refine⟨D,_,rfl,eX.of e2,fun m hm=>?_,by rw[a0];lia,?_⟩
    ·rw[ba,ae]
     cases ms[m]? with
     |none=>exact Int.le_refl _
     |some v=>show(0:Int)≤(c.bit (x,v):Nat);lia
    rw[a0];have b6:H7 O=some (.dK U):=e3 _ _ (s6 _ _ aa);refine⟨_,rfl,_,rfl,O,_,rfl,ki.k (k:=Sum.inr x) b6 (eE (by lia)),?_⟩;have co:x∉(eJ (c.needs w)).take i:=fun z=>by
     obtain⟨i',g⟩:=az.mp z;rw[b0]at g
     split at g
     ·next hlt2=>
      have:=(cc (af.mp g).1 (iZ (c.needs w))).mp (g.trans G.symm)
      lia
     ·cases g
    have c4:eN U (Sum.inr x)=none:=by
     cases hq:eN U (Sum.inr x) with
     |none=>rfl
     |some u=>
      have:=iA hq;rw[Y]at this;obtain⟨y,I,e⟩:=av.mp this;rw[Sum.inr.inj e]at I;exact absurd I co
    have ht:(eJ (c.needs w)).take (i+1)=(eJ (c.needs w)).take i++[x]:=by rw[aQ,G];rfl
    refine⟨_,_,_,_,_,_,rfl,dW,fun a u e=>?_,?_,?_,fun y I=>?_⟩
    ·have na:a≠O:=fun z=>by rw[z,fq (by simp)]at e;cases e
     rw[dY na];exact e3 _ _ (s6 _ _ (s5 _ _ e))
    ·rw[gR _ c4,aw,Y,ht,aw];rfl
    ·have:=fD U (Sum.inr x) (V.int ((c.Kd w x:Nat):Int));lia
    ·rw[fJ];by_cases ey:y=x
     ·subst ey;rw[if_pos rfl]
     ·rw[if_neg (fun z=>ey (Sum.inr.inj z))];rw[ht]at I;exact ap y ((ay.mp I).elim id fun z=>absurd (ai.mp z) ey)
  ·rintro σ H5 ⟨U,o3,o4,o5,o6,o8,rfl,aa,s5,Y,c1,ap⟩;rw[c5,aF]at Y ap;refine⟨_,rfl,O,_,rfl,aa,trivial,fun o'=>q O _ (fun a u e=>?_) X ⟨o',U,dW,Y,ap⟩⟩;have na:a≠O:=fun z=>by rw[z,X]at e;cases e
   rw[dY na];exact s5 _ _ (by rw[el (by simpa using na)];exact s4 _ _ e)
end
inductive tT (CC:Addr)(vs:List V)(H:Hp)(Q:VK)(E:XK):Prop
 |mk (p dx al ofp d:Addr)(fs:List (Str×V))(wv:V)(c:dZ)(w:Option Pk)(_:vs=[.ref p,wv])(_:H p=some (.ins CC dx fs))(_:fs.lookup ("allowed" : Str)=some (V.ref al))(_:fs.lookup ("of_part" : Str)=some (V.ref ofp))(_:iq H al wv (some (.ref d)))(_:iK H d c w)(_:kN H ofp c)(_:Q (.int (c.Ke w)) H):tT CC vs H Q E
def lY (CC:Addr):Sp:=tT CC
def dZ.Ky (c:dZ)(w:Option Pk)(ps:List Str):Nat:=c.maskOf fun k=>decide (k.1∈ps)&&!jf (c.needs w) k.1 k.2
theorem dZ.Kz (c:dZ)(w:Option Pk):c.Ky w []=0:=dZ.JI (c.JN _) fun k h=>by
 have:=(dZ.JM.mp h).2;simp at this
theorem dZ.KA (c:dZ)(w:Option Pk)(ps:List Str)(x:Str):c.Ky w (ps++[x])=c.Ky w ps ||| hZ (c.Kc x) (c.Kd w x):=by
 refine dZ.ext (c.JN _) (i4 (c.JN _) (jg (c.JN _))) fun k=>?_;rw[dZ.JC,dZ.JE,dZ.Kg];unfold dZ.Ky dZ.Kd;simp only[dZ.JM,aH,aA,ay,ai,bJ]
 constructor
 ·rintro⟨h1,h2 | h2,a⟩
  ·exact .inl ⟨h1,h2,a⟩
  ·exact .inr ⟨⟨h1,h2⟩,fun z=>by rw[h2,z.2.2]at a;cases a⟩
 ·rintro(⟨h1,h2,a⟩ | ⟨⟨h1,h2⟩,a⟩)
  ·exact⟨h1,.inl h2,a⟩
  ·refine⟨h1,.inr h2,bY.mpr fun z=>a ⟨h1,h2,?_⟩⟩;rw[←h2];exact z
theorem dZ.KB (c:dZ)(w:Option Pk):c.Ky w (eJ (c.needs w))=c.Ke w:=by
 refine dZ.ext (c.JN _) (c.JN _) fun k=>?_;unfold dZ.Ky;rw[dZ.Kh,dZ.JM,aH,aA,bJ,gK];unfold dZ.JO
 constructor
 ·rintro⟨h1,_,b⟩;refine⟨h1,Decidable.byContradiction fun z=>?_⟩;rw[bY]at b;refine b (lh.mpr fun n a e=>Decidable.byContradiction fun y=>z ⟨n,a,?_⟩);unfold pS;rw[ao e.symm,bY.mpr y];rfl
 ·rintro⟨h1,n,a,h2⟩;unfold pS at h2;rw[aH,aA,bJ]at h2;refine⟨h1,⟨n,a,h2.1.symm⟩,bY.mpr fun z=>?_⟩;rw[lh.mp z n a h2.1.symm]at h2;cases h2.2
section
variable {base:Heap}{f:Addr}
theorem Bp:eG ["self","who","mask","part"] ["self","who"] (eA oy):=i8
theorem uN (F:iL K "shut_out_by" "Chart.shut_out_by" oy f fd)(T:TC K mg CC):fb P w K mg base eZ 1 f fd ["self","who"] (lY CC):=by
 refine F.ok Bp (fun vs H Q E h=>?_) (fun cdv A outer s H vs Q E O h=>?_)
 ·obtain⟨p,dx,B,g,d,fs,L,c,w,rfl,_⟩:=h;rfl
 obtain⟨p,dx,B,g,d,fs,L,c,w,rfl,hp,j,y,D,I,G,q⟩:=h;have t:=gc O;refine⟨_,(dX (eF (i:=2) Bp.nd rfl (Or.inl rfl) ef) (dX (fN PassesOwn.never rfl (y6 (eV t (eD T.cl T.nAl (pv 0)) (pv 1) (fun _ _=>rfl))) (eK (i:=3) Bp.nd rfl (Or.inl rfl)) (eg (jO (i:=2) Bp.nd rfl (Or.inl rfl) (eW gM (jE t (eD T.cl T.nOf (pv 0)) (pv 3) ef ⟨rfl,rfl,rfl,rfl⟩) (iY jW (fL t (eV t (eD T.cl T.nAl (pv 0)) (pv 1) (fun _ _=>rfl)) (pv 3) (fun _ _=>rfl)))) sZ))) (eg (eR (pv 2))))),?_⟩;obtain⟨o,a,b,m,M⟩:=id I;have R:a.length=(eJ (c.needs w)).length:=by
  have:=congrArg List.length m;rw[ab,ab]at this;exact this
 refine⟨_,rfl,p,dx,_,_,rfl,hp,j,_,rfl,B,_,rfl,D,d,o,a,rfl,b,?_⟩;refine rY (kvs:=a) (fun i σ H2=>∃z,σ=[some (.ref p),some L,some (.int ((c.Ky w ((eJ (c.needs w)).take i):Nat):Int)),z]∧H2=H) ⟨none,by rw[cT,dZ.Kz];rfl,rfl⟩ (fun i σ H2 _ ⟨_,_,e⟩=>by rw[e];exact b) ?_ ?_
 ·rintro i S σ H2 hi ⟨z,rfl,rfl⟩;have l:(a.map (·.1))[i]?=some S.1:=by rw[ae,hi];rfl
  rw[m,ae]at l;obtain⟨x,J,ex⟩:=ax.mp l;rw[←ex];obtain⟨r,C,v⟩:=G.get x;have N:(eJ (c.needs w)).take (i+1)=(eJ (c.needs w)).take i++[x]:=by rw[aQ,J];rfl
  refine⟨_,rfl,_,rfl,p,dx,_,_,rfl,hp,y,g,rfl,G.isD,_,rfl,r,C,?_⟩;rw[v];refine⟨_,rfl,p,dx,_,_,rfl,hp,j,_,rfl,B,_,rfl,D,_,rfl,d,_,rfl,I.get (aj J),_,rfl,_,_,rfl,rfl,_,_,rfl,rfl,?_⟩;refine⟨some (.str x),?_,rfl⟩;rw[pT,wg,N,dZ.KA];rfl
 ·rintro σ H2 ⟨z,rfl,rfl⟩;rw[R,aF,dZ.KB];exact⟨_,rfl,q⟩
end
inductive wz (CC:Addr)(vs:List V)(H:Hp)(Q:VK)(E:XK):Prop
 |mk (p dx b bits by_ ofp al sh fo:Addr)(c:dZ)(ksh kfo:List (fB×V))(_:vs=[.ref p])(_:H p=some (.ins CC dx (EC b bits by_ ofp al sh fo)))(_:gZ H bits c c.Jw)(_:nr H by_ c)(_:c.n<64)(_:bits≠fo)(_:sh≠fo)(_:H sh=some (.dN ksh))(_:(∀kv∈ksh,∃w,c.Who w∧kv.1=fc w))(_:(∀w,c.Who w→eN ksh (fc w)=some (.int (c.Ke w))))(_:H fo=some (.dN kfo))(_:kfo.length≤64)(_:(∀kv∈kfo,∃w,c.Who w∧kv.1=fc w))(_:(∀w,c.Who w→eN kfo (fc w)=some (.int (c.Ke w))))(_:∀H',er (del H [fo]) H'→jK H' fo c c.Kf→Q .non H'):wz CC vs H Q E
def oe (CC:Addr):Sp:=wz CC
def dZ.KC (c:dZ)(vs:List (Option Pk)):Option Pk→Nat
 |none=>c.Ke none
 |some k=>c.maskOf fun j=>c.Ka (some k) j||(decide (some j∈vs)&&c.Ka (some j) k)
theorem dZ.KD (c:dZ)(w:Option Pk):c.KC [] w=c.Ke w:=by
 cases w with
 |none=>rfl
 |some k=>
  refine dZ.ext (c.JN _) (c.JN _) fun j=>?_;show c.has (c.maskOf _) j↔c.has (c.maskOf _) j;rw[dZ.JM,dZ.JM];simp
theorem dZ.KF (c:dZ)(vs:List (Option Pk))(w:Option Pk):c.KC vs w<2^c.n:=by
 cases w <;> exact c.JN _
theorem dZ.KG (c:dZ){vs:List (Option Pk)}(h:∀k∈c.ks,some k∈vs)(w:Option Pk):c.KC vs w=c.Kf w:=by
 cases w with
 |none=>rfl
 |some k=>
  refine dZ.ext (c.JN _) (c.JN _) fun j=>?_;show c.has (c.maskOf _) j↔c.has (c.maskOf _) j;rw[dZ.JM,dZ.JM];refine and_congr_right fun a=>?_;rw[ao (h j a),cD]
def dZ.KH (c:dZ)(vs:List (Option Pk))(v:Option Pk)(ps:List Pk):Option Pk→Nat
 |none=>c.Ke none
 |some k=>if k∈ps then c.KC vs (some k) ||| c.Jw v else c.KC vs (some k)
theorem dZ.KI (c:dZ)(vs:List (Option Pk))(v w:Option Pk):c.KH vs v [] w=c.KC vs w:=by
 cases w with
 |none=>rfl
 |some k=>
  show(if k∈([]:List Pk) then c.KC vs (some k) ||| c.Jw v else c.KC vs (some k))=_;rw[if_neg (fun z=>nomatch z)]
theorem dZ.KJ (c:dZ)(vs:List (Option Pk)){v w:Option Pk}(b:c.Who v)(e:c.Who w):c.KH vs v (c.listed (c.Ke v)) w=c.KC (vs++[v]) w:=by
 cases w with
 |none=>rfl
 |some k=>
  have g:=e k rfl;show(if k∈c.listed (c.Ke v) then c.KC vs (some k) ||| c.Jw v else c.KC vs (some k))=_;have d:k∈c.listed (c.Ke v)↔c.JO v k:=by rw[dZ.JB,dZ.Kh];exact⟨fun z=>z.2,fun z=>⟨g,z⟩⟩
  refine dZ.ext ?_ (c.JN _) fun j=>?_
  ·split
   ·exact i4 (c.KF _ _) (dZ.Kk b)
   ·exact c.KF _ _
  ·have key:c.has (c.KC (vs++[v]) (some k)) j↔c.has (c.KC vs (some k)) j∨(j∈c.ks∧v=some j∧c.JO v k):=by
    unfold dZ.KC;simp only[dZ.JM,dm,aH,aA,ay,ai,dZ.Kb]
    constructor
    ·rintro⟨h1,h2 | ⟨h2 | h2,a⟩⟩
     ·exact .inl ⟨h1,.inl h2⟩
     ·exact .inl ⟨h1,.inr ⟨h2,a⟩⟩
     ·exact .inr ⟨h1,h2.symm,h2▸a⟩
    ·rintro(⟨h1,h2 | ⟨h2,a⟩⟩ | ⟨h1,h2,a⟩)
     ·exact⟨h1,.inl h2⟩
     ·exact⟨h1,.inr ⟨.inl h2,a⟩⟩
     ·exact⟨h1,.inr ⟨.inr h2.symm,h2▸a⟩⟩
   rw[key];by_cases hs:c.JO v k
   ·rw[if_pos (d.mpr hs),dZ.JC,dZ.Kl b];refine or_congr_right ?_;exact⟨fun z=>⟨b j z,z,hs⟩,fun z=>z.2.1⟩
   ·rw[if_neg (fun z=>hs (d.mp z))];exact⟨.inl,fun z=>z.elim id fun y=>absurd y.2.2 hs⟩
theorem qD {c:dZ}:∀{ksh:List (fB×V)},(∀kv∈ksh,∃w,c.Who w∧kv.1=fc w)→∃ws:List (Option Pk),ksh.map (·.1)=ws.map fc∧∀w∈ws,c.Who w
 |[],_=>⟨[],rfl,fun w hw=>nomatch hw⟩
 |kv::ksh,h=>by
  obtain⟨ws,e1,e2⟩:=qD (c:=c) (ksh:=ksh) fun x hx=>h x (by simp[hx]);obtain⟨w,h1,h2⟩:=h kv (by simp);refine⟨w::ws,by rw[aD,aD,e1,h2],fun x hx=>?_⟩;rcases ak.mp hx with rfl | hx
  ·exact h1
  ·exact e2 x hx
theorem fW {c:dZ}{k:Pk}(h:k∈c.ks):c.Who (some k):=fun j e=>by cases e;exact h
theorem iW {c:dZ}:c.Who none:=fun j e=>nomatch e
section
variable {base:Heap}{f:Addr}
theorem DK:eG ["self","who","pick"] ["self"] (eA ri):=i8
theorem xq (F:iL K "make_foes_mutual" "Chart.make_foes_mutual" ri f fd)(T:TC K mg CC)(ML:Mt P w K mg base CC eZ 1 "listed" ["self","mask"] (iX CC)):fb P w K mg base eZ 2 f fd ["self"] (oe CC):=by
 refine F.ok DK (fun vs H Q E h=>?_) (fun cdv A outer s H vs Q E hr h=>?_)
 ·obtain⟨p,dx,b,bits,J,a5,al,sh,m,c,G,M,rfl,_⟩:=h;rfl
 obtain⟨p,dx,b,bits,J,a5,al,sh,m,c,G,M,rfl,hp,b7,co,b8,an,cv,cy,cp,ap,b3,b5,cn,cs,q⟩:=h;have hu:=gc hr;refine⟨_,(eg (fN PassesOwn.never rfl (rH (eD T.cl T.nSh (pv 0))) (eK (i:=1) DK.nd rfl (Or.inl rfl)) (eg (fN PassesOwn.never rfl (fh (gY ML hr eP (pv 0) (dU (eV hu (eD T.cl T.nSh (pv 0)) (pv 1) (fun _ _=>rfl)) ee))) (eK (i:=2) DK.nd rfl (Or.inl rfl)) (eg (yZ hu (eD T.cl T.nFo (pv 0)) (pv 2) (eV hu (eD T.cl T.nBits (pv 0)) (pv 1) (fun _ _=>rfl)) zU (fun _ _ _=>rfl))))))),?_⟩;obtain⟨O,Z,bq⟩:=qD cp;refine⟨_,rfl,p,dx,_,_,rfl,hp,(by kernel_rfl),sh,G,rfl,.inl cy,fun o H1 sf a2 a4=>?_⟩;have L:H1 m=some (.dN M):=by rw[a2 m (Ne.symm cv)];exact b3
 have a0:H1 p=some (.ins CC dx (EC b bits J a5 al sh m)):=sf.ins hp
 have keep:∀{H2:Hp},eB (del H1 [m]) H2→∀{a u},H1 a=some u→(∀kvs,u≠.dN kvs)→H2 a=some u:=fun {H2} t {a u} e n1=>t _ _ (by
   rw[el (by simpa using fun z:a=m=>n1 _ (by rw[z,L]at e;exact(Option.some.inj e).symm))]
   exact e)
 have b4:∀{H2:Hp},eB (del H1 [m]) H2→gZ H2 bits c c.Jw:=fun {H2} t=>by
  obtain⟨kvs,g1,g2⟩:=b7.f sf;refine⟨kvs,hU t ?_,g2⟩;exact g1.imp (fun z=>by rw[el (by simpa using an)];exact z) (by rintro⟨o',z⟩;exact⟨o',by rw[el (by simpa using an)];exact z⟩)
 have bx:∀{H2:Hp},eB (del H1 [m]) H2→nr H2 J c:=fun {H2} t=>by
  obtain⟨kvs,g1,g2⟩:=co.f sf;have nb:J≠m:=fun z=>by
   rw[z]at g1;rcases g1 with y | ⟨o',y⟩ <;> (rw[L]at y;cases y)
  refine⟨kvs,hU t (g1.imp (fun z=>by rw[el (by simpa using nb)];exact z) (by rintro⟨o',z⟩;exact⟨o',by rw[el (by simpa using nb)];exact z⟩)),fun k hk=>?_⟩;obtain⟨v,y1,y2,y3,y4⟩:=g2 k hk;exact⟨v,y1,y2,y3,keep t y4 fun _ z=>nomatch z⟩
 refine vc (kvs:=G) (fun i σ H2=>∃kf o1 o2,σ=[some (.ref p),o1,o2]∧H2 m=some (.dN kf)∧(kf.length≤64∧kf.map (·.1)=M.map (·.1))∧(∀w,c.Who w→eN kf (fc w)=some (.int (c.KC (O.take i) w)))∧eB (del H1 [m]) H2)
  ⟨M,none,none,rfl,L,⟨b5,rfl⟩,fun w hw=>by rw[cT,dZ.KD];exact cs w hw,eU _ _⟩ ((by rintro i σ H2 _ ⟨_,_,_,_,_,_,_,t⟩;exact keep t a4 fun _ z=>nomatch z)) ?_ ?_
 ·rintro i kv x σ H2 hi kx ⟨kf,o1,o2,rfl,D,ah,R,t⟩;have a8:(G.map (·.1))[i]?=some kv.1:=by rw[ae,hi];rfl
  rw[Z,ae]at a8;obtain⟨v,hv,ev⟩:=ax.mp a8;rw[←ev]at kx;have a1:=gr.of kx;have ad:=bq v (aj hv);have ht:O.take (i+1)=O.take i++[v]:=by rw[aQ,hv];rfl
  have aa:=keep t a0 fun _ z=>nomatch z;have cx:=keep t a4 fun _ z=>nomatch z;refine⟨_,rfl,p,dx,_,rfl,aa,(by kernel_rfl),_,rfl,p,dx,_,_,rfl,aa,(by kernel_rfl),_,rfl,sh,_,rfl,⟨G,fc v,.inr ⟨o,cx⟩,kx,(ap v ad).symm⟩,H2,p,dx,J,_,c,_,rfl,er.refl _,aa,(by kernel_rfl),bx t,b8,c.JN _,fun l xs H3 s3 hl bl a7 ct=>?_⟩;refine⟨l,rfl,⟨_,eX.of bl⟩,?_⟩;have b6:l≠m:=Ne.symm (d0 D hl);refine fR (K:=K) (a:=l) (xs:=xs) (fun j σ X=>∃g o2,σ=[some (.ref p),some x,o2]∧X m=some (.dN g)∧(g.length≤64∧g.map (·.1)=M.map (·.1))∧(∀w,c.Who w→eN g (fc w)=some (.int (c.KH (O.take i) v ((c.listed (c.Ke v)).take j) w)))∧eB (del H3 [m]) X)
   ⟨kf,_,rfl,s3 _ _ D,ah,fun w hw=>by rw[cT,dZ.KI];exact R w hw,eU _ _⟩ ((by rintro j σ X _ ⟨_,_,_,_,_,_,r⟩;exact eX.of (r _ _ (by rw[el (by simpa using b6)];exact bl)))) ?_ ?_
  ·rintro j y σ X hj ⟨g,b9,rfl,S,B,d,r⟩;obtain⟨k,Y,hk⟩:=Paired.Ju a7 hj;have b2:=aj Y;have N:k∈c.ks:=(dZ.JB.mp b2).1;have bd:eB (del H1 [m]) X:=fun a u e=>by
    have U:a≠m:=fun z=>by rw[z,fq (by simp)]at e;cases e
    refine r _ _ ?_;rw[el (by simpa using U)];exact s3 _ _ (t _ _ e)
   have as:=keep bd a0 fun _ z=>nomatch z;obtain⟨kq,rfl,ag⟩:=id hk;have cd:kq≠m:=fun z=>by rw[z,D]at ag;cases ag
   have bf:gr X (.ref kq) (some k):=⟨kq,rfl,r _ _ (by rw[el (by simpa using cd)];exact s3 _ _ ag)⟩;have bv:gr X x v:=by
    cases v with
    |none=>exact a1
    |some kk=>
     obtain⟨q0,e1,e2⟩:=(show fj H2 x kk from a1);have n0:q0≠m:=fun z=>by rw[z,D]at e2;cases e2
     exact⟨q0,e1,r _ _ (by rw[el (by simpa using n0)];exact s3 _ _ e2)⟩
   have a6:(c.listed (c.Ke v)).take (j+1)=(c.listed (c.Ke v)).take j++[k]:=by rw[aQ,Y];rfl
   refine⟨_,rfl,p,dx,_,_,rfl,as,(by kernel_rfl),_,rfl,m,_,rfl,⟨g,fc (some k),.inl S,bf.key,(d (some k) (fW N)).symm⟩,_,rfl,p,dx,_,_,rfl,as,(by kernel_rfl),_,rfl,bits,_,rfl,(b4 bd).get ad bv,_,_,rfl,rfl,?_⟩;rw[wg];have bm:k∉(c.listed (c.Ke v)).take j:=fun z=>by
    obtain⟨i',I⟩:=az.mp z;rw[b0]at I
    split at I
    ·next hlt2=>
     have:=(cc (af.mp I).1 (c.JK _)).mp (I.trans Y.symm)
     lia
    ·cases I
   have b1:(c.KH (O.take i) v ((c.listed (c.Ke v)).take j) (some k))=c.KC (O.take i) (some k):=by
    show(if _ then _ else _)=_;rw[if_neg bm]
   rw[b1];refine⟨_,kg.of (k:=fc (some k)) S bf.key (eE (by have:=B.1;lia)),_,_,rfl,dW,?_,fun u C=>?_,fun a u e=>?_⟩
   ·refine⟨?_,by rw[lQ (by rw[d _ (fW N)];rfl)];exact B.2⟩;have:(eY g (fc (some k)) (V.int ((c.KC (O.take i) (some k) ||| c.Jw v:Nat):Int))).length=g.length:=by
     have:=congrArg List.length (lQ (kvs:=g) (k:=fc (some k)) (v:=V.int ((c.KC (O.take i) (some k) ||| c.Jw v:Nat):Int)) (by rw[d _ (fW N)];rfl));simpa using this
    have:=B.1
    lia
   ·rw[fJ];by_cases eu:u=some k
    ·subst eu;rw[if_pos rfl];show _=some (V.int ((if _ then _ else _:Nat):Int));rw[if_pos (by rw[a6];simp)]
    ·rw[if_neg (fun z=>eu (ie z)),d u C];cases u with
     |none=>rfl
     |some k'=>
      have:k'≠k:=fun z=>eu (by rw[z]);show some (V.int ((if _ then _ else _:Nat):Int))=some (V.int ((if _ then _ else _:Nat):Int));rw[a6];simp[this]
   ·have U:a≠m:=fun z=>by rw[z,fq (by simp)]at e;cases e
    rw[dY U];exact r _ _ e
  ·rintro σ X ⟨g,b9,rfl,S,B,d,r⟩;have lx:xs.length=(c.listed (c.Ke v)).length:=Paired.length a7;rw[lx,aF]at d;refine⟨g,_,_,rfl,S,B,fun u C=>?_,fun a u e=>?_⟩
   ·rw[ht,←dZ.KJ c _ ad C];exact d u C
   ·have U:a≠m:=fun z=>by rw[z,fq (by simp)]at e;cases e
    refine r _ _ ?_;rw[el (by simpa using U)];exact s3 _ _ (t _ _ e)
 ·rintro σ H2 ⟨kf,o1,o2,rfl,D,ah,R,t⟩;have lw:G.length=O.length:=by
   have:=congrArg List.length Z;rw[ab,ab]at this;exact this
  rw[lw,aF]at R;refine q H2 (fun a u e=>?_) ⟨kf,.inl D,fun kv a3=>?_,fun w hw=>?_⟩
  ·have U:a≠m:=fun z=>by rw[z,fq (by simp)]at e;cases e
   rw[el (by simpa using U)]at e;rcases sf a u e with z | ⟨z1,o',z2⟩
   ·exact .inl (t _ _ (by rw[el (by simpa using U)];exact z))
   ·exact .inr ⟨z1,o',t _ _ (by rw[el (by simpa using U)];exact z2)⟩
  ·have h1:kv.1∈kf.map (·.1):=bg a3;rw[ah.2]at h1;obtain⟨ch,h2,h3⟩:=av.mp h1;rw[←h3];exact cn ch h2
  ·rw[R w hw,dZ.KG c fun k hk=>?_];have:=iA (ap (some k) (fW hk));rw[Z]at this;obtain⟨u,a9,C⟩:=av.mp this;rw[ie C]at a9;exact a9
end
section
variable {H:Hp}{p C dx:Addr}{fs:List (Str×V)}(hp:H p=some (.ins C dx fs))
include hp
theorem jo {u:HO}(e:H a=some u)(h:u≠.ins C dx fs):del H [p] a=some u:=by
 rw[el (by simpa using fe e hp h)];exact e
theorem jZ {u:HO}(h:Rd H a u)(n:u≠.ins C dx fs):Rd (del H [p]) a u:=h.imp (fun z=>jo hp z n) (by rintro⟨o,z⟩;exact⟨o,jo hp z fun y=>nomatch y⟩)
theorem gB.apart {ns:List Nd}(h:gB H a ns):gB (del H [p]) a ns:=(by obtain⟨xs,h1,h2⟩:=h;exact⟨xs,jo hp h1 (fun z=>nomatch z),Paired.Ja h2 (by rintro _ _ ⟨q,e1,e2⟩;exact⟨q,e1,jo hp e2 fun z=>nomatch z⟩)⟩)
theorem fV.apart {b st:Addr}(h:fV CB H b st es)(v:b≠p):fV CB (del H [p]) b st es:=by
 obtain⟨o,r,s,d,vk,h1,h2,t,y,A⟩:=h.ex;refine⟨o,r,s,d,vk,by rw[el (by simpa using v)];exact h1,jZ hp h2 (fun z=>nomatch z),Paired.Ja t fun _ _ z=>?_,jZ hp y (fun z=>nomatch z),fun x=>?_⟩
 ·obtain⟨g,a,zs,i,j,e⟩:=z;exact⟨g,a,zs,i,jo hp j (fun z=>nomatch z),Paired.Ja e (by rintro _ _ ⟨q,w,B⟩;exact⟨q,w,jo hp B fun z=>nomatch z⟩)⟩
 ·rcases A x with z | ⟨l,m,g,i,j,e⟩
  ·exact .inl z
  ·exact .inr ⟨l,m,g,jo hp i (fun z=>nomatch z),j,e⟩
theorem gZ.apart {c:dZ}{g:Option Pk→Nat}(h:gZ H a c g):gZ (del H [p]) a c g:=(by obtain⟨kvs,h1,h2⟩:=h;exact⟨kvs,jZ hp h1 (fun z=>nomatch z),h2⟩)
theorem nr.apart {c:dZ}(h:nr H a c):nr (del H [p]) a c:=(by obtain⟨kvs,h1,h2⟩:=h;exact⟨kvs,jZ hp h1 (fun z=>nomatch z),fun k hk=>(by obtain⟨v,g1,q,g2,g3⟩:=h2 k hk;exact⟨v,g1,q,g2,jo hp g3 fun z=>nomatch z⟩)⟩)
theorem kN.apart {c:dZ}(h:kN H a c):kN (del H [p]) a c:=(by obtain⟨kvs,h1,h2⟩:=h;exact⟨kvs,jZ hp h1 (fun z=>nomatch z),h2⟩)
end
theorem An {CB b st H p C dx}(h:fV CB H b st es)(hp:H p=some (.ins C dx [])):b≠p:=by
 obtain⟨g,d,e,a,vk,h1,_⟩:=h.ex;refine fe h1 hp fun z=>?_;injection z with _ _ z
 have:=gm d e;rw[z]at this;cases this
theorem iK.upd {d:Addr}{c:dZ}{w:Option Pk}{k:List (fB×V)}{u:HO}(h:iK H d c w)(g:H a=some (.dN k)):iK (upd H a u) d c w:=by
 obtain⟨o,b,h1,h2,e⟩:=h;exact⟨o,b,by rw[dY (fe h1 g fun z=>nomatch z)];exact h1,h2,e⟩
theorem xa (e:er (del H [p]) H'):er (del H [p]) (del H' [p]):=fun a u h=>by
 have na:a≠p:=fun z=>by rw[z,fq (by simp)]at h;cases h
 rcases e a u h with z | ⟨z,o,y⟩
 ·exact .inl (by rw[el (by simpa using na)];exact z)
 ·exact .inr ⟨z,o,by rw[el (by simpa using na)];exact y⟩
inductive wH (CB CC:Addr)(vs:List V)(H:Hp)(Q:VK)(E:XK):Prop
 |mk (p dx b st:Addr)(es:List En)(sn:List Nd)(_:vs=[.ref p,.ref b])(_:H p=some (.ins CC dx []))(_:fV CB H b st es)(_:gB H st sn)(_:(es.map eL).Nodup)(_:es.length<64)(_:(∀w,(iy es sn w).length≤100))(_:∀(c:dZ) H',c.es=es→c.sn=sn→er (del H [p]) H'→im CB CC H' p c→Q .non H'):wH CB CC vs H Q E
def om (CB CC:Addr):Sp:=wH CB CC
structure EQ (G H:Hp)(pp C dx aa:Addr)(fs':List (Str×V))(u:HO)(H':Hp):Prop where
 g:er G H'
 p:H' pp=some (.ins C dx fs')
 a:H' aa=some u
 o:∀b,b≠pp→b≠aa→H' b=H b
 ga:G aa=none
 np:aa≠pp
 keep:∀b v,b≠pp→H b=some v→H' b=some v
theorem iV {fs fs':List (Str×V)}{u:HO}(g:er G H)(h:G p=none)(hp:H p=some (.ins C dx fs))(d:H a=none):EQ G H p C dx a fs' u (upd (upd H a u) p (.ins C dx fs')):=by
 have np:p≠a:=d0 hp d;exact⟨(g.upd (g.free d)).upd h,dW,by rw[dY (Ne.symm np)];exact dW,fun b h1 h2=>by rw[dY h1,dY h2],g.free d,Ne.symm np,fun b v h1 e=>by rw[dY h1,dY (d0 e d)];exact e⟩
theorem vY {H:Hp}:∀{nks:List (fB×V)} {es:List En},Paired (lT H) nks es→nks.map (·.1)=es.map fun e=>fc (some (eL e))
 |_,_,.nil=>rfl
 |_,_,.cons h r=>by rw[aD,aD,vY r,h.1];rfl
abbrev HL (b:Addr):List (Str×V):=[("board",.ref b)]
abbrev GJ (b bits:Addr):List (Str×V):=[("board",.ref b),("bits",.ref bits)]
abbrev GI (b bits by_:Addr):List (Str×V):=[("board",.ref b),("bits",.ref bits),("by_bit",.ref by_)]
theorem IM (b:Addr):fM ("board" : Str) (V.ref b) []=HL b:=by kernel_rfl
theorem IL (b bits:Addr):fM ("bits" : Str) (V.ref bits) (HL b)=GJ b bits:=by kernel_rfl
theorem IK (b bits a:Addr):fM ("by_bit" : Str) (V.ref a) (GJ b bits)=GI b bits a:=by kernel_rfl
theorem IJ (b bits a d:Addr):fM ("of_part" : Str) (V.ref d) (GI b bits a)=ym b bits a d:=by kernel_rfl
theorem II (b bits d a e h g:Addr):fM ("foes" : Str) (V.ref g) (fM ("shut_out" : Str) (V.ref h) (fM ("allowed" : Str) (V.ref e) (ym b bits d a)))=EC b bits d a e h g:=by kernel_rfl
section
variable {base:Heap}{f:Addr}
theorem CH:eG ["self","board","who"] ["self","board"] (eA rA):=i8
theorem xD (F:iL K "__init__" "Chart.__init__" rA f fd)(T:TC K mg CC)(c4:TB K mg CB)(MG:Mt P w K mg base CC eZ 1 "give_bits" ["self"] (uq CB CC))(MA:Mt P w K mg base CC eZ 3 "allowed_by" ["self","who"] (l5 CB CC))(MS:Mt P w K mg base CC eZ 1 "shut_out_by" ["self","who"] (lY CC))(MM:Mt P w K mg base CC eZ 2 "make_foes_mutual" ["self"] (oe CC)):fb P w K mg base eZ 4 f fd ["self","board"] (om CB CC):=by
 refine F.ok CH (fun vs H Q E h=>?_) (fun cdv A outer s H vs Q E hr h=>?_)
 ·obtain⟨p,dx,b,st,es,sn,rfl,_⟩:=h;rfl
 obtain⟨p,dx,b,st,es,sn,rfl,hp,hB,hN,eb,dc,fr,q⟩:=h;have hu:=gc hr;refine⟨_,(dX (jl T.cl T.nBoard (pv 0) (pv 1)) (dX (jl T.cl T.nBits (pv 0) (sP ef)) (dX (jl T.cl T.nBy (pv 0) gH) (dX (jl T.cl T.nOf (pv 0) gH) (dX (fU (qd MG (hr.mono (by decide)) eP (pv 0))) (dX (jl T.cl T.nAl (pv 0) lM) (dX (jl T.cl T.nSh (pv 0) lM) (dX (jl T.cl T.nFo (pv 0) lM) (dX (fN PassesOwn.never rfl (rH (eD c4.cl c4.nN (pv 1))) (eK (i:=2) CH.nd rfl (Or.inl rfl)) (dX (j4 hu (eD T.cl T.nAl (pv 0)) (pv 2) (gY MA hr eP (pv 0) (dU (pv 2) ee)) rfl) (dX (j4 hu (eD T.cl T.nSh (pv 0)) (pv 2) (gY MS (hr.mono (by decide)) eP (pv 0) (dU (pv 2) ee)) rfl) (eg (j4 hu (eD T.cl T.nFo (pv 0)) (pv 2) (eV hu (eD T.cl T.nSh (pv 0)) (pv 2) (fun _ _=>rfl)) rfl))))) (eg (fU (qd MM (hr.mono (by decide)) eP (pv 0))))))))))))),?_⟩;have a0:del H [p] p=none:=fq (by simp);have fx:=An hB hp;have B0:=hB.apart hp fx;have N0:=hN.apart hp;generalize ds:del H [p]=G0 at *;have fk:er G0 H:=by rw[←ds];exact(eU _ _).toF
 refine⟨_,rfl,_,rfl,p,dx,_,rfl,hp,(by decide),?_⟩;generalize c9:upd H p (.ins CC dx (fM ("board" : Str) (V.ref b) []))=H1;have bl:H1 p=some (.ins CC dx (HL b)):=by rw[←c9,dW,IM]
 have fa:er G0 H1:=by rw[←c9];exact fk.upd a0
 intro bits an;have et:p≠bits:=d0 bl an;refine⟨dW,_,rfl,p,dx,_,rfl,(by rw[iQ,dY et];exact bl),(by show 1<1000;decide),?_⟩;rw[iQ,IL];have A2:=iV (fs':=GJ b bits) (u:=.dN [(none,.int 0)]) fa a0 bl an;generalize upd (upd H1 bits (.dN [(none,.int 0)])) p (.ins CC dx (GJ b bits))=H2 at A2 ⊢;intro j c7;have e0:p≠j:=d0 A2.p c7;refine⟨_,rfl,p,dx,_,rfl,(by rw[dY e0];exact A2.p),(by show 2<1000;decide),?_⟩;rw[IK];have Y:=iV (fs':=GI b bits j) (u:=.dK []) A2.g a0 A2.p c7;generalize upd (upd H2 j (.dK [])) p (.ins CC dx (GI b bits j))=J at Y ⊢;intro l ap;have ei:p≠l:=d0 Y.p ap;refine⟨_,rfl,p,dx,_,rfl,(by rw[dY ei];exact Y.p),(by show 3<1000;decide),?_⟩;rw[IJ];have Z:=iV (fs':=ym b bits j l) (u:=.dK []) Y.g a0 Y.p ap;generalize upd (upd J l (.dK [])) p (.ins CC dx (ym b bits j l))=H4 at Z ⊢;have a6:=Z.keep _ _ A2.np (Y.keep _ _ A2.np A2.a);have dy:=Z.keep _ _ Y.np Y.a;refine⟨_,rfl,p,dx,_,rfl,Z.p,(by kernel_rfl),p,dx,b,bits,j,l,st,es,sn,rfl,Z.p,B0.f Z.g,eb,dc,a6,dy,Z.a,d0 Y.a ap,fun c H5 c1 c2 bv M5 fv ep=>?_⟩;subst c1;subst c2;have ct:er G0 H5:=fun a u e=>by
  rcases Z.g a u e with z | ⟨z1,o,z2⟩
  ·refine bv a u ?_
   rw[el (by
    simp only[ak,aM,or_false,not_or]
    exact⟨(fun y=>by rw[y,A2.ga]at e;cases e),(fun y=>by rw[y,Y.ga]at e;cases e),(fun y=>by rw[y,Z.ga]at e;cases e)⟩)]
   exact z
  ·refine .inr ⟨z1,o,bv.frz ?_⟩
   rw[el (by
    simp only[ak,aM,or_false,not_or]
    exact⟨(fun y=>by rw[y,A2.ga]at e;cases e),(fun y=>by rw[y,Y.ga]at e;cases e),(fun y=>by rw[y,Z.ga]at e;cases e)⟩)]
   exact z2
 have B:H5 p=some (.ins CC dx (ym b bits j l)):=bv.ins (by
  rw[el (by
    simp only[ak,aM,or_false,not_or]
    exact⟨Ne.symm A2.np,Ne.symm Y.np,Ne.symm Z.np⟩)]
  exact Z.p)
 have cd:del H5 [p] p=none:=fq (by simp);have ej:er (del H5 [p]) H5:=(eU _ _).toF;have gg:er G0 (del H5 [p]):=by
  rw[←ds]at ct ⊢;exact xa ct
 have M1:=M5.apart B;have cv:=fv.apart B;have c6:=ep.apart B;generalize f1:del H5 [p]=G1 at *;have B1:=B0.f gg;have N1:=N0.f gg;intro m cy;have e9:p≠m:=d0 B cy;refine⟨_,rfl,p,dx,_,rfl,(by rw[dY e9];exact B),(by show 4<1000;decide),?_⟩;have N:=iV (fs':=fM ("allowed" : Str) (V.ref m) (ym b bits j l)) (u:=.dN []) ej cd B cy;generalize upd (upd H5 m (.dN [])) p (.ins CC dx (fM ("allowed" : Str) (V.ref m) (ym b bits j l)))=H6 at N ⊢;intro t cp;have fl:p≠t:=d0 N.p cp;refine⟨_,rfl,p,dx,_,rfl,(by rw[dY fl];exact N.p),(by show 5<1000;decide),?_⟩;have R:=iV (fs':=fM ("shut_out" : Str) (V.ref t) (fM ("allowed" : Str) (V.ref m) (ym b bits j l))) (u:=.dN []) N.g cd N.p cp;generalize upd (upd H6 t (.dN [])) p (.ins CC dx (fM ("shut_out" : Str) (V.ref t) (fM ("allowed" : Str) (V.ref m) (ym b bits j l))))=H7 at R ⊢;intro C a4;have ed:p≠C:=d0 R.p a4;refine⟨_,rfl,p,dx,_,rfl,(by rw[dY ed];exact R.p),(by show 6<1000;decide),?_⟩;rw[II];have U:=iV (fs':=EC b bits j l m t C) (u:=.dN []) R.g cd R.p a4;generalize upd (upd H7 C (.dN [])) p (.ins CC dx (EC b bits j l m t C))=H8 at U ⊢;have d5:=U.keep _ _ N.np (R.keep _ _ N.np N.a);have da:=U.keep _ _ R.np R.a;have cz:=U.a;have ea:m≠t:=d0 N.a cp;have b9:m≠C:=d0 (R.keep _ _ N.np N.a) a4;have a9:t≠C:=d0 R.a a4;obtain⟨bx,dn,dv,ag,vk,b1,b2,b3,b4,b5⟩:=id B1.ex;have ln:=Paired.length b3;have fp:=U.g.rd b2;have bm:G1 dn≠none:=fun z=>by rcases b2 with y | ⟨o,y⟩ <;> (rw[z]at y;cases y)
 have d3:dn≠m:=fun z=>bm (by rw[z];exact N.ga);have d4:dn≠t:=fun z=>bm (by rw[z];exact R.ga);have c3:dn≠C:=fun z=>bm (by rw[z];exact U.ga);refine⟨_,rfl,b,bx,_,_,rfl,U.g.ins b1,gm _ _,dn,_,rfl,fp,fun o H9 d8 ah e6=>?_⟩;have c5:H9 m=some (.dN []):=by rw[ah m (Ne.symm d3)];exact d5
 have dr:H9 t=some (.dN []):=by rw[ah t (Ne.symm d4)];exact da
 have d7:H9 C=some (.dN []):=by rw[ah C (Ne.symm c3)];exact cz
 have eq:er G1 H9:=U.g.trans d8;have fu:=d8.ins U.p
 let ws:List (Option Pk):=none::c.es.map fun e=>some (eL e)
 have df:((none,V.ref st)::ag).map (·.1)=ws.map fc:=by
  rw[aD,vY b3];show _=fc none::(c.es.map fun e=>some (eL e)).map fc;rw[ck];rfl
 have dd:((none,V.ref st)::ag).length=ws.length:=by
  have:=congrArg List.length df;rw[ab,ab]at this;exact this
 have f0:ws.length≤64:=by
  show(none::c.es.map fun e=>some (eL e)).length≤64;rw[aB,ab];lia
 have ad:∀w∈ws,c.Who w:=fun w I k e=>by
  subst e;rcases ak.mp I with z | z
  ·cases z
  ·obtain⟨e,he,z⟩:=av.mp z;exact(c.mem k).mpr (Option.some.inj z▸bg he)
 have L:∀w,c.Who w→w∈ws:=fun w I=>by
  cases w with
  |none=>exact bh
  |some k=>
   obtain⟨e,he,z⟩:=av.mp ((c.mem k).mp (I k rfl));exact aZ _ (av.mpr ⟨e,he,by rw[z]⟩)
 have ec:ws.Nodup:=by
  refine aU.mpr ⟨fun z=>?_,?_⟩
  ·obtain⟨e,_,z⟩:=av.mp z;cases z
  ·have:(c.es.map fun e=>some (eL e))=(c.es.map eL).map some:=by rw[ck];rfl
   rw[this];exact cA.mpr (eb.imp fun h z=>h (Option.some.inj z))
 have cn:c.n<64:=by rw[c.n_eq];exact dc
 refine vc (kvs:=(none,.ref st)::ag) (fun i σ H2=>∃D ks kf o2,σ=[some (.ref p),some (.ref b),o2]∧H2 p=some (.ins CC dx (EC b bits j l m t C))∧H2 dn=some (.frz o (.dN ((none,.ref st)::ag)))∧H2 m=some (.dN D)∧H2 t=some (.dN ks)∧H2 C=some (.dN kf)∧D.length≤i∧ks.map (·.1)=(ws.take i).map fc∧kf.map (·.1)=(ws.take i).map fc∧(∀w∈ws.take i,(∃d,eN D (fc w)=some (.ref d)∧iK H2 d c w)∧eN ks (fc w)=some (.int (c.Ke w))∧eN kf (fc w)=some (.int (c.Ke w)))∧er G1 H2)
  ⟨[],[],[],none,rfl,fu,e6,c5,dr,d7,aq _,by simp,by simp,fun w I=>by simp at I,eq⟩ ((by rintro i σ H2 _ ⟨_,_,_,_,_,_,e,_⟩;exact e)) ?_ ?_
 ·rintro i kv x σ H2 hi kx ⟨D,ks,kf,o2,rfl,G,dl,cs,bd,a1,la,S,lf,r,g2⟩;have d6:(((none,V.ref st)::ag).map (·.1))[i]?=some kv.1:=by rw[ae,hi];rfl
  rw[df,ae]at d6;obtain⟨v,hv,ev⟩:=ax.mp d6;rw[←ev]at kx;have a3:=gr.of kx;have ew:=aj hv;have e5:=ad v ew;have f5:i<64:=by
   have:=(af.mp hv).1
   lia
  have ht:ws.take (i+1)=ws.take i++[v]:=by rw[aQ,hv];rfl
  have d9:v∉ws.take i:=fun z=>by
   obtain⟨i',aa⟩:=az.mp z;rw[b0]at aa
   split at aa
   ·next hlt2=>
    have:=(cc (af.mp aa).1 ec).mp (aa.trans hv.symm)
    lia
   ·cases aa
  have GE:kf.length≤i:=by
   have:=congrArg List.length lf;rw[ab,ab,aN]at this
   lia
  have fy:ks.length≤i:=by
   have:=congrArg List.length S;rw[ab,ab,aN]at this
   lia
  refine⟨_,rfl,p,dx,_,rfl,G,(by kernel_rfl),_,rfl,p,dx,b,bits,st,_,x,c,v,rfl,G,(by kernel_rfl),(by kernel_rfl),B1.f g2,N1.f g2,M1.f g2,e5,a3,cn,fr v,fun d J s3 hd ey=>?_⟩;have f3:p≠d:=d0 G hd;have a7:=s3 _ _ G;have a2:=s3 _ _ cs;have e7:kO J (fc v) x:=(a3.same s3).key;refine⟨_,rfl,p,dx,_,_,rfl,a7,(by kernel_rfl),_,rfl,m,_,rfl,kg.of (k:=fc v) a2 e7 (eE (by lia)),?_⟩;have g3:er G1 J:=g2.trans s3.toF;have g4:er G1 (upd J m (.dN (eY D (fc v) (.ref d)))):=g3.upd N.ga;have c8:upd J m (.dN (eY D (fc v) (.ref d))) m=some (.dN (eY D (fc v) (.ref d))):=dW;have bf:iK (upd J m (.dN (eY D (fc v) (.ref d)))) d c v:=ey.upd a2;have k4:∀{a u},a≠m→J a=some u→upd J m (.dN (eY D (fc v) (.ref d))) a=some u:=fun {a u} n e=>by rw[dY n];exact e
  have b7:∀w∈ws.take i,∃d',eN D (fc w)=some (.ref d')∧iK (upd J m (.dN (eY D (fc v) (.ref d)))) d' c w:=fun w I=>by
   obtain⟨⟨d',e1,M⟩,_⟩:=r w I;exact⟨d',e1,(M.same s3).upd a2⟩
  have a8:gr (upd J m (.dN (eY D (fc v) (.ref d)))) x v:=by
   cases v with
   |none=>exact a3
   |some kk=>
    obtain⟨q0,e1,M⟩:=(show fj H2 x kk from a3);exact⟨q0,e1,k4 (fe (s3 _ _ M) a2 fun z=>nomatch z) (s3 _ _ M)⟩
  have as:=k4 (Ne.symm N.np) a7;have a5:=k4 (Ne.symm ea) (s3 _ _ bd);have e8:=k4 (Ne.symm b9) (s3 _ _ a1);have e4:=k4 d3 (s3 _ _ dl)
  clear_value ws
  generalize f4:upd J m (.dN (eY D (fc v) (.ref d)))=H4 at *;refine⟨_,rfl,p,dx,_,rfl,as,(by kernel_rfl),_,rfl,p,dx,m,l,d,_,x,c,v,rfl,as,(by kernel_rfl),(by kernel_rfl),⟨_,fc v,.inl c8,a8.key,by rw[fJ,if_pos rfl]⟩,bf,c6.f g4,?_⟩;refine⟨_,rfl,p,dx,_,_,rfl,as,(by kernel_rfl),_,rfl,t,_,rfl,kg.of (k:=fc v) a5 a8.key (eE (by lia)),?_⟩;have g5:er G1 (upd H4 t (.dN (eY ks (fc v) (.int (c.Ke v))))):=g4.upd R.ga;have k5:∀{a u},a≠t→H4 a=some u→upd H4 t (.dN (eY ks (fc v) (.int (c.Ke v)))) a=some u:=fun {a u} n e=>by rw[dY n];exact e
  have d2:upd H4 t (.dN (eY ks (fc v) (.int (c.Ke v)))) t=some (.dN (eY ks (fc v) (.int (c.Ke v)))):=dW;have B:=k5 (Ne.symm R.np) as;have ek:=k5 ea c8;have co:=k5 (Ne.symm a9) e8;have ft:=k5 d4 e4;have d1:gr (upd H4 t (.dN (eY ks (fc v) (.int (c.Ke v))))) x v:=by
   cases v with
   |none=>exact a8
   |some kk=>
    obtain⟨q0,e1,M⟩:=(show fj H4 x kk from a8);exact⟨q0,e1,k5 (fe M a5 fun z=>nomatch z) M⟩
  have cx:=bf.upd (u:=.dN (eY ks (fc v) (.int (c.Ke v)))) a5;have b6:∀w∈ws.take i,∃d,eN D (fc w)=some (.ref d)∧iK (upd H4 t (.dN (eY ks (fc v) (.int (c.Ke v))))) d c w:=fun w I=>by
   obtain⟨d',e1,M⟩:=b7 w I;exact⟨d',e1,M.upd a5⟩
  generalize f2:upd H4 t (.dN (eY ks (fc v) (.int (c.Ke v))))=H5' at *;refine⟨_,rfl,p,dx,_,_,rfl,B,(by kernel_rfl),_,rfl,t,_,rfl,⟨_,fc v,.inl d2,d1.key,by rw[fJ,if_pos rfl]⟩,_,rfl,p,dx,_,_,rfl,B,(by kernel_rfl),_,rfl,C,_,rfl,kg.of (k:=fc v) co d1.key (eE (by lia)),?_⟩;have k6:∀{a u},a≠C→H5' a=some u→upd H5' C (.dN (eY kf (fc v) (.int (c.Ke v)))) a=some u:=fun {a u} n e=>by rw[dY n];exact e
  refine⟨_,_,_,_,rfl,k6 (Ne.symm U.np) B,k6 c3 ft,k6 b9 ek,k6 a9 d2,dW,?_,?_,?_,fun u O=>?_,g5.upd U.ga⟩
  ·have:=fD D (fc v) (V.ref d);lia
  ·have bq:eN ks (fc v)=none:=by
    cases hq:eN ks (fc v) with
    |none=>rfl
    |some u=>
     have:=iA hq;rw[S]at this;obtain⟨y,hy,e⟩:=av.mp this;rw[ie e]at hy;exact absurd hy d9
   rw[gR _ bq,aw,S,ht,aw];rfl
  ·have bq:eN kf (fc v)=none:=by
    cases hq:eN kf (fc v) with
    |none=>rfl
    |some u=>
     have:=iA hq;rw[lf]at this;obtain⟨y,hy,e⟩:=av.mp this;rw[ie e]at hy;exact absurd hy d9
   rw[gR _ bq,aw,lf,ht,aw];rfl
  ·rw[fJ,fJ,fJ];by_cases eu:u=v
   ·subst eu;rw[if_pos rfl,if_pos rfl,if_pos rfl];exact⟨⟨d,rfl,cx.upd co⟩,rfl,rfl⟩
   ·have ne:¬fc u=fc v:=fun z=>eu (ie z);rw[if_neg ne,if_neg ne,if_neg ne];have dp:u∈ws.take i:=by
     rw[ht]at O;exact(ay.mp O).elim id fun z=>absurd (ai.mp z) eu
    obtain⟨d',e1,M⟩:=b6 u dp;exact⟨⟨d',e1,M.upd co⟩,(r u dp).2⟩
 ·rintro σ H2 ⟨D,ks,kf,o2,rfl,G,dl,cs,bd,a1,la,S,lf,r,g2⟩;rw[dd,aF]at S r lf;rw[dd]at la;have GE:kf.length≤64:=by
   have:=congrArg List.length lf;rw[ab,ab]at this
   lia
  have eh:bits≠C:=fun z=>by
   obtain⟨kvs,y,_⟩:=M1;rw[z]at y;rcases y with y | ⟨o',y⟩ <;> (rw[U.ga]at y;cases y)
  refine⟨_,rfl,p,dx,_,rfl,G,(by kernel_rfl),p,dx,b,bits,j,l,m,t,C,c,ks,kf,rfl,G,M1.f g2,cv.f g2,cn,eh,a9,bd,fun kv b8=>?_,fun w I=>(r w (L w I)).2.1,a1,GE,fun kv b8=>?_,fun w I=>(r w (L w I)).2.2,fun J X ez=>?_⟩
  ·have:kv.1∈ks.map (·.1):=bg b8;rw[S]at this;obtain⟨u,ch,O⟩:=av.mp this;exact⟨u,ad u ch,O.symm⟩
  ·have:kv.1∈kf.map (·.1):=bg b8;rw[lf]at this;obtain⟨u,ch,O⟩:=av.mp this;exact⟨u,ad u ch,O.symm⟩
  ·have g3:er G1 J:=fun a u e=>by
    have na:a≠C:=fun z=>by rw[z,U.ga]at e;cases e
    rcases g2 a u e with z | ⟨z1,o',z2⟩
    ·exact X a u (by rw[el (by simpa using na)];exact z)
    ·exact .inr ⟨z1,o',X.frz (by rw[el (by simpa using na)];exact z2)⟩
   have a7:=X.ins (b:=p) (by rw[el (by simpa using ed)];exact G);refine q c J rfl rfl (gg.trans g3) ⟨dx,b,bits,j,l,m,t,C,st,a7,B1.f g3,N1.f g3,M1.f g3,cv.f g3,c6.f g3,?_,?_,ez⟩
   ·refine⟨D,X.rd (.inl (by rw[el (by simpa using b9)];exact cs)),fun w I=>?_⟩;obtain⟨⟨d,e1,o',em,M,e3⟩,_⟩:=r w (L w I);exact⟨d,e1,o',em,X.frz (by rw[el (by simpa using fe M a1 fun z=>nomatch z)];exact M),e3⟩
   ·exact⟨ks,X.rd (.inl (by rw[el (by simpa using a9)];exact bd)),fun w I=>(r w (L w I)).2.1⟩
end
inductive FZ (CB CC CL:Addr)(vs:List V)(H:Hp)(Q:VK)(E:XK):Prop
 |mk (G:Hp)(p ch:Addr)(c:dZ)(L:ic)(O:List Addr)(m:Nat)(r:V)(rr:Rs)(_:vs=[.ref p,.int (m:Int),r])(_:er G H)(_:im CB CC G ch c)(_:fT CL G H p ch c L O)(_:my G r rr)(_:m<2^c.n)(_:c.n<64)(_:L.length<sizeLine)(_:(∀j,l7 L m=some j→Q (.int (j:Nat)) H))(_:(l7 L m=none→∀H' O',iu G H O G H' O'→fT CL G H' p ch c (L++[(m,rr)]) O'→Q (.int (L.length:Nat)) H')):FZ CB CC CL vs H Q E
def vJ (CB CC CL:Addr):Sp:=FZ CB CC CL
theorem Ii {b c d:Addr}{l:List Addr}(h:(a::b::c::d::l).Nodup):a≠b∧a≠c∧a≠d∧b≠c∧b≠d∧c≠d∧a∉l∧b∉l∧c∉l∧d∉l:=by
 simp only[aU,ak,not_or]at h;obtain⟨⟨h1,h2,q,m⟩,⟨p,g,o⟩,⟨j,i⟩,e,_⟩:=h;exact⟨h1,h2,q,p,g,j,m,o,i,e⟩
theorem tM {c:dZ}(h:im CB CC H p c):∃dx by_ fs,H p=some (.ins CC dx fs)∧fs.lookup ("by_bit" : Str)=some (V.ref by_)∧nr H by_ c∧fs.lookup ("listed" : Str)=none:=by
 obtain⟨dx,b,bits,by_,a,j,m,g,st,h1,h2,l,i,d,e⟩:=h.ex;exact⟨dx,by_,_,h1,(by kernel_rfl),d,(by kernel_rfl)⟩
theorem lH (e:eB H H'){u:HO}(h:H a=some u):H' a=H a:=(e a u h).trans h.symm
theorem oU {α:Type}{l:List α}(hn:l.Nodup){k:α}(h:l[j]?=some k):k∉l.take j:=fun z=>by
 obtain⟨i',hi'⟩:=az.mp z;rw[b0]at hi'
 split at hi'
 ·next hlt2=>
  have:=(cc (af.mp hi').1 hn).mp (hi'.trans h.symm)
  lia
 ·cases hi'
theorem fm {α:Type}{l:List α}{k:α}(h:l[j]?=some k):l.take (j+1)=l.take j++[k]:=by rw[aQ,h];rfl
section
variable {base:Heap}{f:Addr}
theorem DH:eG ["self","mask","reason","place","pick"] ["self","mask","reason"] (eA DO):=i8
theorem D2 (F:iL K "put_down" "Ledger.put_down" DO f fd)(T:TL K mg CL)(ML:Mt P w K mg base CC eZ 1 "listed" ["self","mask"] (iX CC)):fb P w K mg base eZ 2 f fd ["self","mask","reason"] (vJ CB CC CL):=by
 refine F.ok DH (fun vs H Q E h=>?_) (fun cdv A outer s H vs Q E hr h=>?_)
 ·obtain⟨G,p,ch,c,L,O,m,r,rr,rfl,_⟩:=h;rfl
 obtain⟨G,p,ch,c,L,O,m,r,rr,rfl,gh,hC,U,hR,hm,d5,cd,q1,q2⟩:=h;have hu:=gc hr;refine⟨_,(dX (gj (iN (kr hu (pv 1) (eD T.cl T.nPm (pv 0)))) (dX (eF (i:=3) DH.nd rfl (Or.inl rfl) (fK gQ rfl T.len cF (dU (eD T.cl T.nMa (pv 0)) ee))) (dX (fU (je PySem.F.plainAttrs_list PySem.F.slot_list_append PySem.F.type_list_append gq (eD T.cl T.nMa (pv 0)) (dU (pv 1) ee))) (dX (fU (je PySem.F.plainAttrs_list PySem.F.slot_list_append PySem.F.type_list_append gq (eD T.cl T.nRe (pv 0)) (dU (pv 2) ee))) (dX (iB hu (eD T.cl T.nPm (pv 0)) (pv 1) (pv 3) rfl) (eg (fN PassesOwn.never rfl (fh (gY ML hr eP (eD T.cl T.nCh (pv 0)) (dU (pv 1) ee))) (eK (i:=4) DH.nd rfl (Or.inl rfl)) (eg (fU (je PySem.F.plainAttrs_list PySem.F.slot_list_append PySem.F.type_list_append gq (xh hu (eD T.cl T.nPp (pv 0)) (pv 4) (gf ee) ⟨rfl,rfl,rfl,rfl⟩) (dU (pv 3) ee)))))))))) ff) (eg (eR (fL hu (eD T.cl T.nPm (pv 0)) (pv 1) (fun _ _=>rfl))))),?_⟩;obtain⟨dx,D,I,pm,pp,N,rs,Ol,rfl,hp,cs,dd,dc,cz,eh,c4,kvp,kl,hB⟩:=id U.ex;have ag:H p=some (.ins CL dx (zN ch D I pm pp)):=gh.ins hp;obtain⟨n1,n2,n3,n4,n5,n6,n7,n8,n9,ec⟩:=Ii U.nd;have co:hJ H pm (.int (m:Int)) ((l7 L m).map fun i=>V.int (i:Nat)):=.inl ⟨N,Sum.inl (m:Int),.inl cz,rfl,(c4 m).symm⟩;refine⟨_,rfl,_,rfl,p,dx,_,_,rfl,ag,(by kernel_rfl),pm,_,rfl,co,_,rfl,?_⟩;cases hpos:l7 L m with
 |some j=>
  rw[hpos]at co;exact gv ⟨_,rfl,p,dx,_,_,rfl,ag,(by kernel_rfl),_,rfl,pm,_,rfl,co,q1 j hpos⟩
 |none=>
  refine ir ?_;have dp:p∉D::I::pm::pp::Ol:=fun z=>by rw[U.off p z]at hp;cases hp
  have ct:∀{a},a∈D::I::pm::pp::Ol→p≠a:=fun {a} h z=>dp (z▸h);have c1:p≠D:=ct (by simp);have d8:p≠I:=ct (by simp);have ea:p≠pm:=ct (by simp);have lL:(gz (L.map (·.1))).length=L.length:=by unfold gz;rw[ab,ab]
  have d4:rs.length=L.length:=by rw[Paired.length dc,ab]
  refine⟨_,rfl,p,dx,_,_,rfl,ag,(by kernel_rfl),D,_,rfl,.inl (eX.of cs),?_⟩;rw[lL];refine⟨_,rfl,p,dx,_,V.ref D,rfl,ag,(by kernel_rfl),.inl ⟨rfl,_,eX.of cs⟩,_,rfl,D,_,_,rfl,rfl,cs,(by rw[lL];exact cd),?_⟩;refine⟨_,rfl,p,dx,_,V.ref I,rfl,(by rw[dY c1];exact ag),(by kernel_rfl),.inl ⟨rfl,_,eX.of (by rw[dY (Ne.symm n1)];exact dd)⟩,_,rfl,I,_,_,rfl,rfl,(by rw[dY (Ne.symm n1)];exact dd),(by rw[d4];exact cd),?_⟩;refine⟨_,rfl,_,rfl,p,dx,_,_,rfl,(by rw[dY d8,dY c1];exact ag),(by kernel_rfl),_,rfl,pm,_,rfl,ki.k (k:=Sum.inl (m:Int)) (by rw[dY (Ne.symm n4),dY (Ne.symm n2)];exact cz) (by lia),?_⟩;have bx:upd (upd (upd H D (.lst (gz (L.map (·.1))++[.int (m:Int)]))) I (.lst (rs++[r]))) pm (.dK (eY N (Sum.inl (m:Int)) (.int (L.length:Nat)))) D=some (.lst (gz ((L++[(m,rr)]).map (·.1)))):=by
   rw[dY n2,dY n1,dW];unfold gz;rw[aw,aw];rfl
  have bm:upd (upd (upd H D (.lst (gz (L.map (·.1))++[.int (m:Int)]))) I (.lst (rs++[r]))) pm (.dK (eY N (Sum.inl (m:Int)) (.int (L.length:Nat)))) I=some (.lst (rs++[r])):=by rw[dY n4,dW]
  have as:upd (upd (upd H D (.lst (gz (L.map (·.1))++[.int (m:Int)]))) I (.lst (rs++[r]))) pm (.dK (eY N (Sum.inl (m:Int)) (.int (L.length:Nat)))) pm=some (.dK (eY N (Sum.inl (m:Int)) (.int (L.length:Nat)))):=dW;have R:∀b,b≠D→b≠I→b≠pm→upd (upd (upd H D (.lst (gz (L.map (·.1))++[.int (m:Int)]))) I (.lst (rs++[r]))) pm (.dK (eY N (Sum.inl (m:Int)) (.int (L.length:Nat)))) b=H b:=fun b b1 b2 b3=>by rw[dY b3,dY b2,dY b1]
  generalize upd (upd (upd H D (.lst (gz (L.map (·.1))++[.int (m:Int)]))) I (.lst (rs++[r]))) pm (.dK (eY N (Sum.inl (m:Int)) (.int (L.length:Nat))))=H3 at bx bm as R ⊢;have c6:eB (del H (D::I::pm::pp::Ol)) H3:=fun a u e=>by
   have na:a∉D::I::pm::pp::Ol:=fun z=>by rw[fq z]at e;cases e
   rw[el na]at e;simp only[ak,not_or]at na;rw[R a na.1 na.2.1 na.2.2.1];exact e
  have g3:er G H3:=ig gh U.off c6.toF;have b9:qz H3 c pp (c.plc L) Ol kvp kl:=hB.keep (R pp (Ne.symm n3) (Ne.symm n5) (Ne.symm n6)) fun a g=>R a (fun z=>n7 (z▸g)) (fun z=>n8 (z▸g)) (fun z=>n9 (z▸g));have d2:∀a,H3 a=none→H a=none:=fun a e=>by
   by_cases z1:a=D
   ·rw[z1,bx]at e;cases e
   by_cases z2:a=I
   ·rw[z2,bm]at e;cases e
   by_cases z3:a=pm
   ·rw[z3,as]at e;cases e
   rw[←R a z1 z2 z3];exact e
  obtain⟨cx,dl,ei,c3,d1,d6,dy⟩:=tM (hC.f g3);refine⟨_,rfl,p,dx,_,_,rfl,g3.ins hp,(by kernel_rfl),ch,cx,_,rfl,c3,dy,_,rfl,H3,ch,cx,dl,_,c,m,rfl,er.refl _,c3,d1,d6,d5,hm,fun l xs H4 s4 hl c7 da dn=>?_⟩;refine⟨l,rfl,⟨_,eX.of c7⟩,?_⟩;have lx:xs.length=(c.listed m).length:=Paired.length da;have c5:l∉D::I::pm::pp::Ol:=fun z=>by
   simp only[ak]at z;rcases z with z | z | z | z | z
   ·rw[z,bx]at hl;cases hl
   ·rw[z,bm]at hl;cases hl
   ·rw[z,as]at hl;cases hl
   ·rw[z,b9.d]at hl;cases hl
   ·obtain⟨u,B⟩:=U.liv l (by simp[z]);rw[R l (fun y=>n7 (y▸z)) (fun y=>n8 (y▸z)) (fun y=>n9 (y▸z)),B]at hl;cases hl
  have h4:∀a u,H3 a=some u→H4 a=some u:=s4;have d3:eB (del H (D::I::pm::pp::Ol)) H4:=c6.trans s4;refine fR (K:=K) (a:=l) (xs:=xs) (fun j σ J=>∃kvp kl Ol' o4,σ=[some (.ref p),some (.int (m:Int)),some r,some (.int (L.length:Nat)),o4]∧qz J c pp (fun k=>c.plc L k++if k∈(c.listed m).take j then [L.length] else []) Ol' kvp kl∧(D::I::pm::pp::Ol').Nodup∧(∀a∈Ol',a∈Ol∨H a=none)∧(∀a∈Ol',G a=none)∧(∀a∈Ol',∃u,J a=some u)∧(∀a∈Ol',∀u,J a=some u→¬ud u)∧l∉Ol'∧J D=some (.lst (gz ((L++[(m,rr)]).map (·.1))))∧J I=some (.lst (rs++[r]))∧J pm=some (.dK (eY N (Sum.inl (m:Int)) (.int (L.length:Nat))))∧J l=some (.lst xs)∧eB (del H (D::I::pm::pp::Ol)) J∧(∀v k,fj H3 v k→fj J v k)∧∀a,J a=none→H a=none)
   ⟨kvp,kl,Ol,none,rfl,?_,U.nd,fun a g=>.inl g,fun a g=>U.off a (by simp[g]),fun a g=>?_,fun a g u df=>?_,fun z=>c5 (by simp[z]),h4 _ _ bx,h4 _ _ bm,h4 _ _ as,c7,d3,(by rintro v k ⟨q,e1,e2⟩;exact⟨q,e1,h4 _ _ e2⟩),fun a e=>d2 a (s4.free e)⟩ ((by rintro j σ J _ ⟨_,_,_,_,_,_,_,_,_,_,_,_,_,_,_,e,_⟩;exact eX.of e)) ?_ ?_
  ·refine(b9.keep (lH s4 b9.d) fun a g=>?_).fn fun k hk=>?_
   ·obtain⟨u,B⟩:=U.liv a (by simp[g]);exact lH s4 ((R a (fun z=>n7 (z▸g)) (fun z=>n8 (z▸g)) (fun z=>n9 (z▸g))).trans B)
   ·rw[cT,if_neg (fun z=>nomatch z),cf]
  ·obtain⟨u,B⟩:=U.liv a (by simp[g]);exact⟨u,s4 _ _ ((R a (fun z=>n7 (z▸g)) (fun z=>n8 (z▸g)) (fun z=>n9 (z▸g))).trans B)⟩
  ·obtain⟨v,c2⟩:=U.liv a (by simp[g]);have e4:=s4 _ _ ((R a (fun z=>n7 (z▸g)) (fun z=>n8 (z▸g)) (fun z=>n9 (z▸g))).trans c2);rw[df]at e4;cases e4;exact U.nf a (by simp[g]) _ c2
  ·rintro j x σ J hj ⟨C,cn,S,o4,rfl,B5,ah,al,ad,M,bv,ap,aa,Z,X,bl,Y,bf,an⟩;obtain⟨k,a0,d7⟩:=Paired.Ju da hj;obtain⟨kq,rfl,c8⟩:=bf _ _ d7;have cp:=(dZ.JB.mp (aj a0)).1;have b8:=oU (c.JK m) a0;have g5:er G J:=ig gh U.off Y.toF;have bq:=g5.ins hp;obtain⟨m1,m2,m3,m4,m5,m6,m7,m8,m9,b4⟩:=Ii ah;have gk:(c.plc L k++if k∈(c.listed m).take j then [L.length] else [])=c.plc L k:=by rw[if_neg b8,cf]
   have lk:(gz (c.plc L k++if k∈(c.listed m).take j then [L.length] else [])).length<sizeLine:=by
    rw[gk];unfold gz;rw[ab];exact bz (c.Kq k L 0) cd
   refine⟨_,rfl,p,dx,_,V.ref pp,rfl,bq,(by kernel_rfl),pp,rfl,⟨_,.inl B5.d⟩,_,rfl,(by show 0≤sizeLine;decide),fun tl t=>?_⟩;have st:=eo t (.lst []);have bd:tl≠pp:=fun z=>by rw[z,B5.d]at t;cases t
   have b5:tl∉S:=fun z=>by obtain⟨u,B⟩:=M tl z;rw[B]at t;cases t
   have cv:tl≠D:=fun z=>by rw[z,aa]at t;cases t
   have c9:tl≠I:=fun z=>by rw[z,Z]at t;cases t
   have b6:tl≠pm:=fun z=>by rw[z,X]at t;cases t
   have cy:tl≠l:=fun z=>by rw[z,bl]at t;cases t
   have ed:tl≠kq:=fun z=>by rw[z,c8]at t;cases t
   have eb:=B5.len;refine⟨C,fc (some k),st _ _ B5.d,⟨kq,rfl,st _ _ c8⟩,eE (by lia),fun v hv=>?_,fun hn=>?_⟩
   ·have B6:qz (upd J tl (.lst [])) c pp _ S C cn:=B5.keep (lH st B5.d) fun a g=>by obtain⟨u,B⟩:=M a g;exact lH st B
    obtain⟨l',e1⟩:∃l',v=.ref l':=by
     rcases B5.val k cp with ⟨z,_⟩ | ⟨l',z1,_⟩
     ·rw[hv]at z;cases z
     ·rw[hv]at z1;cases z1;exact⟨l',rfl⟩
    subst e1;obtain⟨i1,i2,i3⟩:=B6.old (i:=L.length) cp hv b4;refine⟨.inl ⟨rfl,_,eX.of i2⟩,_,rfl,l',_,_,rfl,rfl,i2,lk,?_⟩;have ds:∀{a},a∉S→a≠l':=fun {a} h z=>h (z▸i1);have d9:l'∉D::I::pm::pp::S→False:=fun z=>z (by simp[i1]);have k6:∀{a u},a∉S→J a=some u→upd (upd J tl (.lst [])) l' (.lst (gz (c.plc L k++if k∈(c.listed m).take j then [L.length] else [])++[.int (L.length:Nat)])) a=some u:=fun {a u} h e=>by rw[dY (ds h)];exact st _ _ e
    refine⟨_,_,_,_,rfl,i3.fn fun y hy=>?_,ah,al,ad,fun a g=>?_,fun a g v o=>?_,ap,k6 m7 aa,k6 m8 Z,k6 m9 X,k6 ap bl,fun a u e=>?_,fun v y hy=>?_,fun a e=>?_⟩
    ·rw[fm a0];by_cases ey:y=k
     ·subst ey;rw[if_pos rfl,if_neg b8,cf,if_pos (by simp)]
     ·rw[if_neg ey]
      congr 1
      simp only[ay,ai,ey,or_false]
    ·by_cases z:a=l'
     ·exact⟨_,by rw[z];exact dW⟩
     ·obtain⟨u,B⟩:=M a g;exact⟨u,by rw[dY z];exact st _ _ B⟩
    ·by_cases z:a=l'
     ·rw[z,dW]at o;cases o;exact fun q=>q
     ·obtain⟨u,B⟩:=M a g;rw[dY z,st _ _ B]at o;cases o;exact bv a g _ B
    ·have na:a≠l':=fun z=>by
      rcases al l' i1 with y | y
      ·rw[z,fq (by simp[y])]at e;cases e
      ·have:=eU _ _ a u e;rw[z,y]at this;cases this
     rw[dY na];exact st _ _ (Y _ _ e)
    ·obtain⟨yq,y1,y2⟩:=bf v y hy;exact⟨yq,y1,by rw[dY (fe (st _ _ y2) i2 fun z=>nomatch z)];exact st _ _ y2⟩
    ·by_cases z:a=l'
     ·rw[z,dW]at e;cases e
     ·rw[dY z]at e;exact an a (st.free e)
   ·have b7:upd (upd J tl (.lst [])) pp (.dN (eY C (fc (some k)) (.ref tl))) tl=some (.lst []):=by rw[dY bd];exact dW
    refine⟨.inl ⟨rfl,_,eX.of b7⟩,_,rfl,tl,_,_,rfl,rfl,b7,(by show 0<sizeLine;decide),?_⟩;have e1:upd (upd (upd J tl (.lst [])) pp (.dN (eY C (fc (some k)) (.ref tl)))) tl (.lst ([]++[.int (L.length:Nat)])) pp=some (.dN (eY C (fc (some k)) (.ref tl))):=by rw[dY (Ne.symm bd),dW]
    have e2:upd (upd (upd J tl (.lst [])) pp (.dN (eY C (fc (some k)) (.ref tl)))) tl (.lst ([]++[.int (L.length:Nat)])) tl=some (.lst [.int (L.length:Nat)]):=dW;have e3:∀b,b≠pp→b≠tl→upd (upd (upd J tl (.lst [])) pp (.dN (eY C (fc (some k)) (.ref tl)))) tl (.lst ([]++[.int (L.length:Nat)])) b=J b:=fun b b1 b2=>by rw[dY b2,dY b1,dY b2]
    generalize upd (upd (upd J tl (.lst [])) pp (.dN (eY C (fc (some k)) (.ref tl)))) tl (.lst ([]++[.int (L.length:Nat)]))=H7 at e1 e2 e3 ⊢;have B7:=B5.new (i:=L.length) cp hn b4 b5 bd e1 e2 e3;refine⟨_,_,tl::S,_,rfl,B7.fn fun y hy=>?_,?_,fun a g=>?_,fun a g=>?_,fun a g=>?_,fun a g v o=>?_,fun z=>?_,by rw[e3 D m3 (Ne.symm cv)];exact aa,by rw[e3 I m5 (Ne.symm c9)];exact Z,by rw[e3 pm m6 (Ne.symm b6)];exact X,?_,fun a u e=>?_,fun v y hy=>?_,fun a e=>?_⟩
    ·rw[fm a0];by_cases ey:y=k
     ·subst ey;rw[if_pos rfl,if_neg b8,cf,if_pos (by simp)]
     ·rw[if_neg ey]
      congr 1
      simp only[ay,ai,ey,or_false]
    ·simp only[aU,ak,not_or]at ah ⊢;obtain⟨⟨a1,a2,a3,a4⟩,⟨a5,a6,a7⟩,⟨a8,a9⟩,dr,dv⟩:=ah;exact⟨⟨a1,a2,a3,Ne.symm cv,a4⟩,⟨a5,a6,Ne.symm c9,a7⟩,⟨a8,Ne.symm b6,a9⟩,⟨Ne.symm bd,dr⟩,b5,dv⟩
    ·rcases ak.mp g with z | z
     ·rw[z];exact .inr (an tl t)
     ·exact al a z
    ·rcases ak.mp g with z | z
     ·rw[z];exact g5.free t
     ·exact ad a z
    ·rcases ak.mp g with z | z
     ·rw[z];exact⟨_,e2⟩
     ·obtain⟨u,B⟩:=M a z;exact⟨u,by rw[e3 a (fun y=>b4 (y▸z)) (fun y=>b5 (y▸z))];exact B⟩
    ·rcases ak.mp g with z | z
     ·rw[z,e2]at o;cases o;exact fun q=>q
     ·rw[e3 a (fun y=>b4 (y▸z)) (fun y=>b5 (y▸z))]at o;exact bv a z v o
    ·rcases ak.mp z with y | y
     ·exact cy y.symm
     ·exact ap y
    ·rw[e3 l (fun z=>c5 (by simp[z])) (Ne.symm cy)];exact bl
    ·have na:a≠pp:=fun z=>by rw[z,fq (by simp)]at e;cases e
     have nt:a≠tl:=fun z=>by
      have:=Y _ _ e;rw[z,t]at this;cases this
     rw[e3 a na nt];exact Y _ _ e
    ·obtain⟨yq,y1,y2⟩:=bf v y hy;exact⟨yq,y1,by rw[e3 yq (fe y2 B5.d fun z=>nomatch z) (d0 y2 t)];exact y2⟩
    ·by_cases z1:a=pp
     ·rw[z1,e1]at e;cases e
     by_cases z2:a=tl
     ·rw[z2,e2]at e;cases e
     rw[e3 a z1 z2]at e;exact an a e
  ·rintro σ J ⟨C,cn,S,o4,rfl,B5,ah,al,ad,M,bv,ap,aa,Z,X,bl,Y,bf,an⟩;rw[lx,aF]at B5;have g5:er G J:=ig gh U.off Y.toF;refine⟨_,rfl,p,dx,_,_,rfl,g5.ins hp,(by kernel_rfl),_,rfl,pm,_,rfl,.inl ⟨_,Sum.inl (m:Int),.inl X,rfl,by rw[fJ,if_pos rfl]⟩,q2 hpos J (D::I::pm::pp::S) ?_ ?_⟩
   ·refine⟨er.refl _,g5,fun a e n=>absurd e n,fun a g=>?_,Y.toF,an⟩;simp only[ak]at g ⊢;rcases g with z | z | z | z | z
    ·exact .inl (.inl z)
    ·exact .inl (.inr (.inl z))
    ·exact .inl (.inr (.inr (.inl z)))
    ·exact .inl (.inr (.inr (.inr (.inl z))))
    ·rcases al a z with y | y
     ·exact .inl (.inr (.inr (.inr (.inr y))))
     ·exact .inr y
   ·refine⟨⟨dx,D,I,pm,pp,_,_,S,rfl,hp,aa,Z,?_,X,?_,fun m'=>?_,⟨C,cn,B5.fn fun k hk=>?_⟩⟩,fun a g=>?_,fun a g=>?_,fun a g v o=>?_,ah⟩
    ·rw[aw];exact Paired.snoc dc hR
    ·have:=fD N (Sum.inl (m:Int)) (V.int (L.length:Nat));rw[aE,aR]
     lia
    ·rw[fJ];by_cases em:m'=m
     ·subst em;rw[if_pos rfl,kS hpos,if_pos rfl];rfl
     ·rw[if_neg (fun z=>em (by have:=Sum.inl.inj z;lia)),c4 m'];cases hq:l7 L m' with
      |some j=>rw[pP hq]
      |none=>rw[kS hq,if_neg (fun z=>em z.symm)]
    ·rw[dZ.Kp]
     congr 1
     by_cases hh:c.has m k
     ·rw[if_pos hh,if_pos (dZ.JB.mpr hh)]
     ·rw[if_neg hh,if_neg (fun z=>hh (dZ.JB.mp z))]
    ·simp only[ak]at g;rcases g with z | z | z | z | z
     ·exact U.off a (by simp[z])
     ·exact U.off a (by simp[z])
     ·exact U.off a (by simp[z])
     ·exact U.off a (by simp[z])
     ·exact ad a z
    ·simp only[ak]at g;rcases g with z | z | z | z | z
     ·exact⟨_,by rw[z];exact aa⟩
     ·exact⟨_,by rw[z];exact Z⟩
     ·exact⟨_,by rw[z];exact X⟩
     ·exact⟨_,by rw[z];exact B5.d⟩
     ·exact M a z
    ·simp only[ak]at g;rcases g with z | z | z | z | z
     ·rw[z,aa]at o;cases o;exact fun q=>q
     ·rw[z,Z]at o;cases o;exact fun q=>q
     ·rw[z,X]at o;cases o;exact fun q=>q
     ·rw[z,B5.d]at o;cases o;exact fun q=>q
     ·exact bv a z v o
end
inductive wy (CB CC CL:Addr)(vs:List V)(H:Hp)(Q:VK)(E:XK):Prop
 |mk (G:Hp)(p ch:Addr)(c:dZ)(L:ic)(O:List Addr)(v:V)(k:Pk)(pk:Nat)(_:vs=[.ref p,v,.int (pk:Int)])(_:er G H)(_:im CB CC G ch c)(_:fT CL G H p ch c L O)(_:fj H v k)(_:k∈c.ks)(_:(∀(H':Hp) (j:Nat) (e:Nat×Rs),eB H H'→L[j]?=some e→hZ e.1 pk=c.bit k→Q (.int (j:Nat)) H'))(_:((∀e∈L,c.has e.1 k→hZ e.1 pk≠c.bit k)→∀H',eB H H'→Q .non H')):wy CB CC CL vs H Q E
def nZ (CB CC CL:Addr):Sp:=wy CB CC CL
inductive wJ (CB CC CL:Addr)(vs:List V)(H:Hp)(Q:VK)(E:XK):Prop
 |mk (G:Hp)(p ch:Addr)(c:dZ)(L:ic)(O:List Addr)(v:V)(k:Pk)(pk:Nat)(_:vs=[.ref p,v,.int (pk:Int)])(_:er G H)(_:im CB CC G ch c)(_:fT CL G H p ch c L O)(_:fj H v k)(_:k∈c.ks)(_:∀H',eB H H'→Q (.int (c.J9 L k pk:Nat)) H'):wJ CB CC CL vs H Q E
def ot (CB CC CL:Addr):Sp:=wJ CB CC CL
theorem qb {c:dZ}{k:Pk}:∀(L:ic) (i:Nat),Paired (fun(j:Nat) (e:Nat×Rs)=>i≤j∧L[j-i]?=some e) (c.Kn k L i) (L.filter fun e=>decide (c.has e.1 k))
 |[],i=>.nil
 |x::L,i=>by
  have ih:=qb (c:=c) (k:=k) L (i+1);have ih2:Paired (fun(j:Nat) (e:Nat×Rs)=>i≤j∧(x::L)[j-i]?=some e) (c.Kn k L (i+1)) (L.filter fun e=>decide (c.has e.1 k)):=Paired.Ja ih fun j e ⟨h1,h2⟩=>⟨by lia,by rw[show j-i=(j-(i+1))+1 by lia];exact h2⟩;unfold dZ.Kn;by_cases h:c.has x.1 k
  ·rw[if_pos h,aG,if_pos (ao h)];exact .cons ⟨aq _,by rw[bK];rfl⟩ ih2
  ·rw[if_neg h,aG,if_neg (by rw[au h];exact fun z=>nomatch z)];exact ih2
theorem y0 (c:dZ)(L:ic)(k:Pk):Paired (fun(j:Nat) (e:Nat×Rs)=>L[j]?=some e) (c.plc L k) (L.filter fun e=>decide (c.has e.1 k)):=Paired.Ja (qb L 0) fun j e h=>h.2
theorem qz.get {c:dZ}{pp:Addr}{g:Pk→List Nat}{Ol:List Addr}{kvp:List (fB×V)}{kl:List Pk}(B:qz H c pp g Ol kvp kl){k:Pk}(d:k∈c.ks){t:Addr}(s:eB H H')(h:H' t=some (.lst [])):∃a,(eN kvp (fc (some k))).getD (.ref t)=.ref a∧H' a=some (.lst (gz (g k))):=by
 rcases B.val k d with ⟨b,e⟩ | ⟨l,b,_,i⟩
 ·exact⟨t,by rw[b];rfl,by rw[e];exact h⟩
 ·exact⟨l,by rw[b];rfl,s _ _ i⟩
theorem rP {l:List Nat}{x:V}(h:(gz l)[i]?=some x):∃j,l[i]?=some j∧x=.int (j:Nat):=by
 unfold gz at h;rw[ae]at h;obtain⟨j,h1,h2⟩:=ax.mp h;exact⟨j,h1,h2.symm⟩
theorem jG {l:List Nat}(h:l[i]?=some m):vp (gz l) (i:Int)=some (V.int (m:Nat)):=by
 refine nH ?_;rw[iI];unfold gz;rw[ae,h];rfl
theorem yb (r:Nat):Builtin.bitAnd (r:Int) ((r:Int)-1)=((r &&& (r-1):Nat):Int):=by
 rcases dJ r with z | z
 ·subst z;have e:((0:Nat):Int)-1=Builtin.bitNot ((0:Nat):Int):=by unfold Builtin.bitNot;lia
  rw[e,pT];rfl
 ·rw[show(r:Int)-1=((r-1:Nat):Int) by lia,mw]
theorem r6 {a b:Nat}:decide (V.int (a:Int)=V.int (b:Int))=decide (a=b):=by
 by_cases h:a=b
 ·rw[h,ao rfl,ao rfl]
 ·rw[au h,au];intro z;injection z with z
  lia
section
variable {base:Heap}{f:Addr}
theorem Fp:eG ["self","pick","picked","place"] ["self","pick","picked"] (eA rg):=i8
theorem xp (F:iL K "place_against" "Ledger.place_against" rg f fd)(T:TL K mg CL)(J:TC K mg CC):fb P w K mg base eZ 1 f fd ["self","pick","picked"] (nZ CB CC CL):=by
 refine F.ok Fp (fun vs H Q E h=>?_) (fun cdv A outer s H vs Q E hr h=>?_)
 ·obtain⟨G,p,ch,c,L,O,v,k,r,rfl,_⟩:=h;rfl
 obtain⟨G,p,ch,c,L,O,v,k,r,rfl,gh,hC,hL,X,Y,q1,q2⟩:=h;have U:=gc hr;refine⟨_,(dX (fN PassesOwn.never rfl (fh (qe U (eD T.cl T.nPp (pv 0)) (pv 1) (gf ee) ⟨rfl,rfl,rfl,rfl⟩)) (eK (i:=3) Fp.nd rfl (Or.inl rfl)) (eg (gj (gu lN (eW gM (eO fE (eD T.cl T.nMa (pv 0)) (pv 3) (fun _ _=>rfl)) (iY jW (pv 2))) (eV U (eD J.cl J.nBits (eD T.cl T.nCh (pv 0))) (pv 1) (fun _ _=>rfl)) (gJ _)) (eg (eR (pv 3))) ff))) (eg (eR iO))),?_⟩;obtain⟨dx,Z,re,pm,pp,ap,rs,Ol,rfl,hp,R,a0,an,ag,ah,as,kvp,kl,S⟩:=id hL.ex;have q:H p=some (.ins CL dx (zN ch Z re pm pp)):=gh.ins hp;obtain⟨cx,b,bits,ad,aa,al,sh,fo,st,c1,c2,c3,c4,c5,c6,c7,c8,c9⟩:=(hC.f gh).ex;refine⟨_,rfl,p,dx,_,_,rfl,q,(by kernel_rfl),pp,rfl,⟨_,.inl S.d⟩,_,rfl,(by show 0≤sizeLine;decide),fun t ht=>?_⟩;have g:=eo ht (.lst []);obtain⟨a,M,I⟩:=S.get Y g (t:=t) dW;refine⟨_,⟨kvp,fc (some k),.inl (g _ _ S.d),gr.key (w:=some k) (fj.same g X),rfl⟩,?_⟩;rw[M];refine⟨a,rfl,⟨_,eX.of I⟩,?_⟩;generalize upd H t (.lst [])=H1 at *;refine fR (K:=K) (a:=a) (xs:=gz (c.plc L k)) (fun i σ H2=>∃N,σ=[some (.ref p),some v,some (.int (r:Int)),N]∧H2=H1∧∀j∈(c.plc L k).take i,∀e,L[j]?=some e→hZ e.1 r≠c.bit k) ⟨none,rfl,rfl,fun j o=>by simp at o⟩ (fun i σ H2 _ ⟨_,_,e,_⟩=>by rw[e];exact eX.of I) ?_ ?_
 ·rintro i x σ H2 hi ⟨N,rfl,rfl,l⟩;obtain⟨j,o,rfl⟩:=rP hi;obtain⟨e,C,y⟩:=dZ.Ks.mp (aj o);have hm:(L.map (·.1))[j]?=some e.1:=by rw[ae,C];rfl
  refine⟨_,rfl,p,dx,_,_,rfl,g _ _ q,(by kernel_rfl),_,rfl,Z,_,_,_,rfl,rfl,eX.of (g _ _ R),jG hm,_,rfl,_,rfl,_,_,rfl,rfl,?_⟩;refine⟨_,rfl,p,dx,_,_,rfl,g _ _ q,(by kernel_rfl),ch,cx,_,_,rfl,g _ _ c1,(by kernel_rfl),_,rfl,bits,_,rfl,(c4.same g).get (w:=some k) (fW Y) (fj.same g X),rfl,_,rfl,?_⟩;dsimp only;have B:decide (V.int (Builtin.bitAnd (e.1:Int) (Builtin.bitNot (r:Int)))=V.int ((c.Jw (some k):Nat):Int))=decide (hZ e.1 r=c.bit k):=by
   rw[pT];exact r6
  rw[B];by_cases hd:hZ e.1 r=c.bit k
  ·rw[ao hd];exact ir ⟨_,rfl,q1 H2 j e g C hd⟩
  ·rw[au hd];refine gv ⟨_,rfl,rfl,fun j' D e' m=>?_⟩;rw[fm o]at D;rcases ay.mp D with z | z
   ·exact l j' z e' m
   ·rw[ai.mp z,C]at m;cases m;exact hd
 ·rintro σ H2 ⟨N,rfl,rfl,l⟩;unfold gz at l;rw[ab,aF]at l;refine q2 (fun e C y=>?_) H2 g;obtain⟨j,o⟩:=az.mp C;exact l j (dZ.Ks.mpr ⟨e,o,y⟩) e o
theorem yJ:eG ["self","pick","picked","barred","place","rest"] ["self","pick","picked"] (eA rC):=i8
theorem xF (F:iL K "barred_with" "Ledger.barred_with" rC f fd)(T:TL K mg CL):fb P w K mg base eZ 1 f fd ["self","pick","picked"] (ot CB CC CL):=by
 refine F.ok yJ (fun vs H Q E h=>?_) (fun cdv A outer s H vs Q E hr h=>?_)
 ·obtain⟨G,p,ch,c,L,O,v,k,g,rfl,_⟩:=h;rfl
 obtain⟨G,p,ch,c,L,O,v,k,g,rfl,gh,hC,Y,hv,hk,q⟩:=h;have hu:=gc hr;refine⟨_,(dX (eF (i:=3) yJ.nd rfl (Or.inl rfl) ef) (dX (fN PassesOwn.never rfl (fh (qe hu (eD T.cl T.nPp (pv 0)) (pv 1) (gf ee) ⟨rfl,rfl,rfl,rfl⟩)) (eK (i:=4) yJ.nd rfl (Or.inl rfl)) (dX (eF (i:=5) yJ.nd rfl (Or.inl rfl) (eW gM (eO fE (eD T.cl T.nMa (pv 0)) (pv 4) (fun _ _=>rfl)) (iY jW (pv 2)))) (eg (gj (gu lN (eW gM (pv 5) (eW zm (pv 5) ef)) ef (gJ _)) (eg (jO (i:=3) yJ.nd rfl (Or.inl rfl) (pv 5) sZ)) ff)))) (eg (eR (pv 3))))),?_⟩;obtain⟨dx,U,re,pm,pp,ag,rs,Ol,rfl,hp,M,al,ad,Z,aa,ah,kvp,kl,S⟩:=id Y.ex;have z:H p=some (.ins CL dx (zN ch U re pm pp)):=gh.ins hp;refine⟨_,rfl,p,dx,_,_,rfl,z,(by kernel_rfl),pp,rfl,⟨_,.inl S.d⟩,_,rfl,(by show 0≤sizeLine;decide),fun t X=>?_⟩;have m:=eo X (.lst []);obtain⟨a,C,B⟩:=S.get hk m (t:=t) dW;refine⟨_,⟨kvp,fc (some k),.inl (m _ _ S.d),gr.key (w:=some k) (fj.same m hv),rfl⟩,?_⟩;rw[C];refine⟨a,rfl,⟨_,eX.of B⟩,?_⟩;generalize upd H t (.lst [])=H1 at *;have o:=y0 c L k;have lp:=Paired.length o;generalize J:(L.filter fun e=>decide (c.has e.1 k))=es at *
 let bf:Nat→Nat×Rs→Nat:=fun b e=>let r:=hZ e.1 g;if r &&& (r-1)=0 then b ||| r else b
 have I:c.J9 L k g=es.foldl bf 0:=by unfold dZ.J9;rw[J]
 refine fR (K:=K) (a:=a) (xs:=gz (c.plc L k)) (fun i σ H2=>∃N D,σ=[some (.ref p),some v,some (.int (g:Int)),some (.int (((es.take i).foldl bf 0:Nat):Int)),N,D]∧H2=H1) ⟨none,none,rfl,rfl⟩ (fun i σ H2 _ ⟨_,_,_,e⟩=>by rw[e];exact eX.of B) ?_ ?_
 ·rintro i x σ H2 hi ⟨N,D,rfl,rfl⟩;obtain⟨j,hj,rfl⟩:=rP hi;obtain⟨e,R,he⟩:=Paired.Ju o hj;have hm:(L.map (·.1))[j]?=some e.1:=by rw[ae,he];rfl
  refine⟨_,rfl,p,dx,_,_,rfl,m _ _ z,(by kernel_rfl),_,rfl,U,_,_,_,rfl,rfl,eX.of (m _ _ M),jG hm,_,rfl,_,rfl,_,_,rfl,rfl,?_⟩;dsimp only;rw[pT];refine⟨_,rfl,_,rfl,_,_,rfl,rfl,_,_,rfl,rfl,rfl,_,rfl,?_⟩;have y:decide (V.int (Builtin.bitAnd ((hZ e.1 g:Nat):Int) (((hZ e.1 g:Nat):Int)-1))=V.int 0)=decide (hZ e.1 g &&& (hZ e.1 g-1)=0):=by
   rw[yb];exact r6 (b:=0)
  skip;rw[y];have l:(es.take (i+1)).foldl bf 0=bf ((es.take i).foldl bf 0) e:=by rw[fm R,List.foldl_append];rfl
  by_cases hd:hZ e.1 g &&& (hZ e.1 g-1)=0
  ·rw[ao hd];refine ir ⟨_,rfl,_,rfl,_,_,rfl,rfl,some (.int (j:Nat)),some (.int (hZ e.1 g:Nat)),?_,rfl⟩;rw[wg,l];show _=[some (V.ref p),some v,some (V.int ↑g),some (V.int ((if _ then _ else _:Nat):Int)),_,_];rw[if_pos hd];rfl
  ·rw[au hd];refine gv ⟨some (.int (j:Nat)),some (.int (hZ e.1 g:Nat)),?_,rfl⟩;rw[l];show _=[some (V.ref p),some v,some (V.int ↑g),some (V.int ((if _ then _ else _:Nat):Int)),_,_];rw[if_neg hd];rfl
 ·rintro σ H2 ⟨N,D,rfl,rfl⟩;unfold gz;rw[ab,lp,aF,←I];exact⟨_,rfl,q H2 m⟩
end
inductive As (CB CC CL:Addr)(vs:List V)(H:Hp)(Q:VK)(E:XK):Prop
 |mk (G:Hp)(p ch:Addr)(c:dZ)(L:ic)(O:List Addr)(_:vs=[.ref p])(_:er G H)(_:im CB CC G ch c)(_:fT CL G H p ch c L O)(_:c.n<64)(_:(∀e∈L,e.1<2^c.n))(_:L.length<sizeLine)(_:∀a H',eB H H'→qA H' a (c.lns L)→Q (.ref a) H'):As CB CC CL vs H Q E
def qI (CB CC CL:Addr):Sp:=As CB CC CL
theorem xb {ps:List Addr}(e:eB H H'):eB (del H ps) (del H' ps):=fun a u h=>by
 have na:a∉ps:=fun z=>by rw[fq z]at h;cases h
 rw[el na]at h ⊢;exact e a u h
theorem CQ:(["mask","reason","self"]:List Str).Nodup:=by decide +kernel
abbrev yk (a b w:V):List (Str×V):=[("picked",a),("dead",b),("wanted",w)]
abbrev tD (x s b:V):List (Str×V):=[("part",x),("stand",s),("bit",b)]
abbrev wY (ch le fl:Addr):List (Str×V):=[("chart",.ref ch),("ledger",.ref le),("forks",.ref fl)]
inductive wu (C:Addr)(vs:List V)(H:Hp)(Q:VK)(E:XK):Prop
 |mk (p dx:Addr)(a b w:V)(_:vs=[.ref p,a,b,w])(_:H p=some (.ins C dx []))(_:Q .non (upd H p (.ins C dx (yk a b w)))):wu C vs H Q E
def lE (C:Addr):Sp:=wu C
inductive wG (C:Addr)(vs:List V)(H:Hp)(Q:VK)(E:XK):Prop
 |mk (p dx:Addr)(x s:V)(_:vs=[.ref p,x,s])(_:H p=some (.ins C dx []))(_:Q .non (upd H p (.ins C dx (tD x s (.int 0))))):wG C vs H Q E
def ol (C:Addr):Sp:=wG C
structure Cv (K:W.Frag)(mg:Str→Option Value)(C:Addr):Prop where
 cl:pV K C
 nPi:fF K C "picked"
 nDe:fF K C "dead"
 nWa:fF K C "wanted"
structure AH (K:W.Frag)(mg:Str→Option Value)(C:Addr):Prop where
 cl:pV K C
 nPa:fF K C "part"
 nSt:fF K C "stand"
 nBi:fF K C "bit"
theorem IF (a:V):fM ("picked" : Str) a []=([("picked",a)]:List (Str×V)):=by kernel_rfl
theorem Fh (a b w:V):fM ("wanted" : Str) w (fM ("dead" : Str) b (fM ("picked" : Str) a []))=yk a b w:=by kernel_rfl
theorem IT (a b w:V):fM ("bit" : Str) w (fM ("stand" : Str) b (fM ("part" : Str) a []))=tD a b w:=by kernel_rfl
section
variable {base:Heap}{f:Addr}
theorem Hm:eG ["self"] ["self"] (eA uy):=i8
theorem zr (F:iL K "told" "Ledger.told" uy f fd)(T:TL K mg CL)(ML:Mt P w K mg base CC eZ 1 "listed" ["self","mask"] (iX CC)):fb P w K mg base eZ 2 f fd ["self"] (qI CB CC CL):=by
 refine F.ok Hm (fun vs H Q E h=>?_) (fun cdv A outer s H vs Q E hr h=>?_)
 ·obtain⟨G,p,ch,c,L,O,rfl,_⟩:=h;rfl
 obtain⟨G,p,ch,c,L,O,rfl,gh,hC,hL,bm,a4,b3,q⟩:=h;have hu:=gc hr;refine⟨_,(eg (eR (ik (N':=["mask","reason","self"]) (n:=2) (js:=[0]) rfl (ib.one (c:=s.heap.objs.size+1) (y:="self") rfl rfl (by decide +kernel) rfl (by decide +kernel) (by decide +kernel) rfl rfl rfl rfl rfl) (Et (m:=2) (tw (gF (by decide)) rX (tw (gF (by decide)) rX Cj v5) (zX rX v5))) (DT rfl T.zip (eD T.cl T.nMa (pv 0)) (eD T.cl T.nRe (pv 0))) (fun C s2 H2 fp=>oP (n:=2) rfl (gT (eK (i:=0) CQ rfl (Or.inl rfl)) (gT (eK (i:=1) CQ rfl (Or.inl rfl)) lJ))) (fun C s2 H2 fp=>iH) (fun C s2 H2 fp=>ge (dU (gY ML hr eP (eD T.cl T.nCh (pv 2)) (dU (pv 0) ee)) (dU (pv 1) ee)))))),?_⟩;obtain⟨dx,ma,re,pm,pp,b2,rs,Ol,rfl,hp,d,j,Y,bv,b1,b5,kvp,kl,hB⟩:=id hL.ex;have R:H p=some (.ins CL dx (zN ch ma re pm pp)):=gh.ins hp;have lL:(gz (L.map (·.1))).length=L.length:=by unfold gz;rw[ab,ab]
 have bf:rs.length=L.length:=by rw[Paired.length Y,ab]
 have a8:(c.lns L).length=L.length:=by unfold dZ.lns;rw[ab]
 refine⟨_,rfl,p,dx,_,_,rfl,R,(by kernel_rfl),_,rfl,p,dx,_,_,rfl,R,(by kernel_rfl),ma,re,_,_,rfl,rfl,d,j,?_⟩;refine we (n:=L.length) (fun D i ys H2=>H D=none∧H2 D=some (.lst ys)∧eB H H2∧Paired (yi (del H2 [D])) ys ((c.lns L).take i)) (fun D hD=>⟨hD,dW,eo hD _,.nil⟩) (fun D i ys H2 hi ⟨N,I,b,J⟩=>?_) (fun D i x ys H2 H3 hi hy ⟨N,I,b,J⟩=>?_) (fun D ys H2 ⟨N,I,b,J⟩=>?_)
 ·refine⟨fun r=>⟨_,_,(gz (L.map (·.1)))[i]'(by rw[lL];exact r),rs[i]'(by rw[bf];exact r),eX.of (b _ _ d),eX.of (b _ _ j),am _,am _⟩,fun al=>⟨_,_,eX.of (b _ _ d),eX.of (b _ _ j),.inl (by rw[lL,al];exact aq _)⟩,I,?_⟩
  have:=Paired.length J;rw[aN]at this
  lia
 ·obtain⟨t,mv,g,ht,rfl,rfl,hm,ah⟩:=hy;obtain⟨m,Z,rfl⟩:=rP (hm _ (eX.of (b _ _ d)));have bl:=ah _ (eX.of (b _ _ j));rw[ae]at Z;obtain⟨e,he,rfl⟩:=ax.mp Z;have ag:my G g e.2:=by
   obtain⟨r',U,ad⟩:=Paired.Ju Y bl;rw[ae,he]at U;cases U;exact ad
  have s1:=eo ht (.tup [.int (e.1:Nat),g]);have bx:D≠t:=d0 I ht;have a2:=b.trans s1;have g1:er G (upd H2 t (.tup [.int (e.1:Nat),g])):=gh.trans a2.toF;have a0:(c.lns L)[i]?=some (c.listed e.1,e.2):=by unfold dZ.lns;rw[ae,he];rfl
  generalize a3:upd H2 t (.tup [.int (e.1:Nat),g])=H3 at *;have a1:H3 t=some (.tup [.int (e.1:Nat),g]):=by rw[←a3];exact dW
  refine⟨t,_,rfl,ia.of a1,rfl,_,_,rfl,_,_,rfl,rfl,?_⟩;unfold mT;dsimp only;rw[if_pos rfl];obtain⟨cx,ap,b4,aa,bd,bq,a9⟩:=tM (hC.f g1);refine⟨_,rfl,p,dx,_,_,rfl,g1.ins hp,(by kernel_rfl),ch,cx,_,rfl,aa,a9,_,rfl,H3,ch,cx,ap,_,c,_,rfl,er.refl _,aa,bd,bq,bm,a4 e (aj he),fun l xs H4 s4 hl an a5 as=>?_⟩;refine⟨_,rfl,(by show 2≤sizeLine;decide),fun u M=>?_⟩;have S:=eo M (.tup [.ref l,g]);have B:=s1 _ _ I;have X:=s4 _ _ B;have a7:D≠l:=d0 B hl;have a6:D≠u:=d0 X M;have o:eB H2 (upd H4 u (.tup [.ref l,g])):=s1.trans (s4.trans S);refine⟨S _ _ X,N,dW,fun a v z=>?_,?_⟩
  ·rw[dY (fun y:a=D=>by rw[y,N]at z;cases z)];exact o _ _ (b _ _ z)
  ·rw[py (by simp),fm a0];refine Paired.snoc (Paired.Ja J fun _ _ z=>z.same (xb o)) ⟨u,l,g,rfl,?_,⟨xs,?_,?_⟩,?_⟩
   ·rw[el (by simpa using Ne.symm a6)];exact dW
   ·rw[el (by simpa using Ne.symm a7)];exact S _ _ an
   ·refine Paired.Ja a5 ?_;rintro v k ⟨kq,z1,z2⟩;refine⟨kq,z1,?_⟩;rw[el (by simpa using fun y:kq=D=>by rw[y,B]at z2;cases z2)];exact S _ _ (s4 _ _ z2)
   ·have sG:er G (del (upd H4 u (.tup [.ref l,g])) [D]):=fun a v z=>by
     have nD:a≠D:=fun y=>by
      have:=gh a v z;rcases this with w | ⟨_,_,w⟩ <;> (rw[y,N]at w;cases w)
     rw[el (by simpa using nD)];exact(g1.trans (s4.trans S).toF) a v z
    exact ag.f sG
 ·rw[←a8,aF]at J;exact q D H2 b ⟨ys,I,Paired.Ja J fun _ _ z=>z.same (eU _ _)⟩
theorem Fm:eG ["self","picked","dead","wanted"] ["self","picked","dead","wanted"] (eA q5):=i8
theorem xm (F:iL K "__init__" "Stand.__init__" q5 f fd)(T:Cv K mg C):fb P w K mg base eZ 1 f fd ["self","picked","dead","wanted"] (lE C):=by
 refine F.ok Fm (fun vs H Q E h=>?_) (fun cdv A outer s H vs Q E d h=>?_)
 ·obtain⟨p,dx,a,b,w,rfl,_⟩:=h;rfl
 obtain⟨p,dx,a,b,w,rfl,hp,q⟩:=h;refine⟨_,(dX (jl T.cl T.nPi (pv 0) (pv 1)) (dX (jl T.cl T.nDe (pv 0) (pv 2)) (eg (jl T.cl T.nWa (pv 0) (pv 3))))),?_⟩;refine⟨_,rfl,_,rfl,p,dx,_,rfl,hp,(by decide),_,rfl,_,rfl,p,dx,_,rfl,dW,(by rw[IF];show 1<1000;decide),_,rfl,_,rfl,p,dx,_,rfl,dW,?_,?_⟩
 ·have:=Fh a b w;refine bz (m:=2) ?_ (by decide);have e:(fM ("dead" : Str) b (fM ("picked" : Str) a []))=([("picked",a),("dead",b)]:List (Str×V)):=by kernel_rfl
  rw[e];exact aq _
 ·rw[iQ,iQ,Fh];exact q
theorem Hr:eG ["self","part","stand"] ["self","part","stand"] (eA rq):=i8
theorem xC (F:iL K "__init__" "Fork.__init__" rq f fd)(T:AH K mg C):fb P w K mg base eZ 1 f fd ["self","part","stand"] (ol C):=by
 refine F.ok Hr (fun vs H Q E h=>?_) (fun cdv A outer s H vs Q E d h=>?_)
 ·obtain⟨p,dx,a,b,rfl,_⟩:=h;rfl
 obtain⟨p,dx,a,b,rfl,hp,q⟩:=h;refine⟨_,(dX (jl T.cl T.nPa (pv 0) (pv 1)) (dX (jl T.cl T.nSt (pv 0) (pv 2)) (eg (jl T.cl T.nBi (pv 0) ef)))),?_⟩;refine⟨_,rfl,_,rfl,p,dx,_,rfl,hp,(by decide),_,rfl,_,rfl,p,dx,_,rfl,dW,?_,_,rfl,p,dx,_,rfl,dW,?_,?_⟩
 ·have e:(fM ("part" : Str) a [])=([("part",a)]:List (Str×V)):=by kernel_rfl
  rw[e];show 1<1000;decide
 ·have e:(fM ("stand" : Str) b (fM ("part" : Str) a []))=([("part",a),("stand",b)]:List (Str×V)):=by kernel_rfl
  rw[e];show 2<1000;decide
 ·rw[iQ,iQ,IT];exact q
end
inductive Gm (P:Program)(w:World)(K:W.Frag)(mg:Str→Option Value)(base:Heap)(C:Addr)(CX:wT)(k:Nat)(x:Str)(ps:List Str)(sp:Sp):Prop
 |mk (f fd:_)(_:Mk K C f)(_:fb P w K mg base CX k f fd ps sp)(_:gs K fd ps []):Gm P w K mg base C CX k x ps sp
structure wL (P:Program)(w:World)(K:W.Frag)(mg:Str→Option Value)(base:Heap)(C:Addr)(CX:wT)(k:Nat)(x:Str)(ps:List Str)(sp:Sp):Prop where
 nm:mg x=some (.ref C)
 ex:Gm P w K mg base C CX k x ps sp
theorem oQ {X:Cx}{CX:wT}{k:Nat}{e:Expr}{es:List Expr}{ps:List Str}{sp:Sp}{E:XK}{pos p:Pos}{t:TA}(M:wL X.prog X.w X.K X.mg X.base C CX k x ps sp)(d:gE (k+1) X.A)(g:Gl X x)(h:jA CX X E)(a:PA X (e::es) t)(hdb:(x == ("__debug__" : Str))=false:=by decide)(he:starEach (e::es) X.env=(false,eval e X.env)::starEach es X.env:=by rfl)(hpl:(backTo pos (starEach es X.env)).any (·.1)=false:=by rfl):PE X (.Call (.Name x p) (e::es) [] pos) (Cz C sp [] E t):=by
 obtain⟨f,fd,m,F,b⟩:=M.ex;exact BG m F d g M.nm b .nil h a hdb he hpl
inductive wB (CL:Addr)(vs:List V)(H:Hp)(Q:VK)(E:XK):Prop
 |mk (p dx ch:Addr)(_:vs=[.ref p,.ref ch])(_:H p=some (.ins CL dx []))(_:∀(ma re pm pp:Addr) (H':Hp),er (del H [p]) H'→H' p=some (.ins CL dx (zN ch ma re pm pp))→H' ma=some (.lst [])→H' re=some (.lst [])→H' pm=some (.dK [])→H' pp=some (.dN [])→[ma,re,pm,pp].Nodup→(∀a∈[ma,re,pm,pp],H a=none)→Q .non H'):wB CL vs H Q E
def og (CL:Addr):Sp:=wB CL
inductive ww (CL CS:Addr)(vs:List V)(H:Hp)(Q:VK)(E:XK):Prop
 |mk (G:Hp)(p dx ch:Addr)(c:dZ)(_:vs=[.ref p,.ref ch])(_:er G H)(_:G p=none)(_:H p=some (.ins CS dx []))(_:∀(G' H':Hp) (le fl:Addr) (O:List Addr),er G G'→er G' H'→(∀a,G a=none→G' a≠none→H a=none∨a=p)→(∀a∈O,H a=none)→H fl=none→fl∉O→G' fl=none→er (del H [p]) H'→G' p=some (.ins CS dx (wY ch le fl))→fT CL G' H' le ch c [] O→H' fl=some (.lst [])→Q .non H'):ww CL CS vs H Q E
def nY (CL CS:Addr):Sp:=ww CL CS
abbrev ER (ch:Addr):List (Str×V):=[("chart",.ref ch)]
abbrev GH (ch ma:Addr):List (Str×V):=[("chart",.ref ch),("masks",.ref ma)]
abbrev GG (ch ma re:Addr):List (Str×V):=[("chart",.ref ch),("masks",.ref ma),("reasons",.ref re)]
abbrev GF (ch ma re pm:Addr):List (Str×V):=[("chart",.ref ch),("masks",.ref ma),("reasons",.ref re),("place_by_mask",.ref pm)]
theorem Ij (ch:Addr):fM ("chart" : Str) (V.ref ch) []=ER ch:=by kernel_rfl
theorem GE (ch a:Addr):fM ("masks" : Str) (V.ref a) (ER ch)=GH ch a:=by kernel_rfl
theorem IR (ch a b:Addr):fM ("reasons" : Str) (V.ref b) (GH ch a)=GG ch a b:=by kernel_rfl
theorem IQ (ch a b pm:Addr):fM ("place_by_mask" : Str) (V.ref pm) (GG ch a b)=GF ch a b pm:=by kernel_rfl
theorem IO (ch a b pm pp:Addr):fM ("places_by_pick" : Str) (V.ref pp) (GF ch a b pm)=zN ch a b pm pp:=by kernel_rfl
abbrev Hx (ch le:Addr):List (Str×V):=[("chart",.ref ch),("ledger",.ref le)]
theorem Hk (ch le:Addr):fM ("ledger" : Str) (V.ref le) (ER ch)=Hx ch le:=by kernel_rfl
theorem Hj (ch le fl:Addr):fM ("forks" : Str) (V.ref fl) (Hx ch le)=wY ch le fl:=by kernel_rfl
structure sr (K:W.Frag)(mg:Str→Option Value)(C:Addr):Prop where
 cl:pV K C
 nCh:fF K C "chart"
 nLe:fF K C "ledger"
 nFo:fF K C "forks"
 dict:mg "dict" = none
 min:mg "min" = none
 list:mg "list" = none
 enum:mg "enumerate" = none
 rev:mg "reversed" = none
section
variable {base:Heap}{f:Addr}
theorem Ft:eG ["self","chart"] ["self","chart"] (eA rl):=i8
theorem xz (F:iL K "__init__" "Ledger.__init__" rl f fd)(T:TL K mg CL):fb P w K mg base eZ 1 f fd ["self","chart"] (og CL):=by
 refine F.ok Ft (fun vs H Q E h=>?_) (fun cdv A outer s H vs Q E hr h=>?_)
 ·obtain⟨p,dx,ch,rfl,_⟩:=h;rfl
 obtain⟨p,dx,ch,rfl,hp,q⟩:=h;refine⟨_,(dX (jl T.cl T.nCh (pv 0) (pv 1)) (dX (jl T.cl T.nMa (pv 0) (gf ee)) (dX (jl T.cl T.nRe (pv 0) (gf ee)) (dX (jl T.cl T.nPm (pv 0) gH) (eg (jl T.cl T.nPp (pv 0) lM)))))),?_⟩;have m:del H [p] p=none:=fq (by simp);have I:er (del H [p]) H:=(eU _ _).toF;generalize D:del H [p]=G0 at *;refine⟨_,rfl,_,rfl,p,dx,_,rfl,hp,(by decide),?_⟩;generalize x:upd H p (.ins CL dx (fM ("chart" : Str) (V.ref ch) []))=H1;have v:H1 p=some (.ins CL dx (ER ch)):=by rw[←x,dW,Ij]
 have G:er G0 H1:=by rw[←x];exact I.upd m
 have aa:∀a,H1 a=none→H a=none:=fun a e=>by
  rw[←x]at e;by_cases z:a=p
  ·rw[z,dW]at e;cases e
  ·rw[dY z]at e;exact e
 refine⟨(by show 0≤sizeLine;decide),fun b B=>?_⟩;refine⟨_,rfl,p,dx,_,rfl,(by rw[dY (d0 v B)];exact v),(by show 1<1000;decide),?_⟩;rw[GE];have j:=iV (fs':=GH ch b) (u:=.lst []) G m v B;generalize upd (upd H1 b (.lst [])) p (.ins CL dx (GH ch b))=H2 at j ⊢;refine⟨(by show 0≤sizeLine;decide),fun o y=>?_⟩;refine⟨_,rfl,p,dx,_,rfl,(by rw[dY (d0 j.p y)];exact j.p),(by show 2<1000;decide),?_⟩;rw[IR];have i:=iV (fs':=GG ch b o) (u:=.lst []) j.g m j.p y;generalize upd (upd H2 o (.lst [])) p (.ins CL dx (GG ch b o))=H3 at i ⊢;intro pm t;refine⟨_,rfl,p,dx,_,rfl,(by rw[dY (d0 i.p t)];exact i.p),(by show 3<1000;decide),?_⟩;rw[IQ];have d:=iV (fs':=GF ch b o pm) (u:=.dK []) i.g m i.p t;generalize upd (upd H3 pm (.dK [])) p (.ins CL dx (GF ch b o pm))=H4 at d ⊢;intro pp l;refine⟨_,rfl,p,dx,_,rfl,(by rw[dY (d0 d.p l)];exact d.p),(by show 4<1000;decide),?_⟩;rw[IO];have r:=iV (fs':=zN ch b o pm pp) (u:=.dN []) d.g m d.p l;generalize upd (upd H4 pp (.dN [])) p (.ins CL dx (zN ch b o pm pp))=H5 at r ⊢;have J:=i.keep _ _ j.np j.a;have N:=d.keep _ _ j.np J;have Y:=r.keep _ _ j.np N;have L:=d.keep _ _ i.np i.a;have X:=r.keep _ _ i.np L;have O:=r.keep _ _ d.np d.a;have Z:b≠o:=d0 j.a y;have U:b≠pm:=d0 J t;have e3:b≠pp:=d0 N l;have e4:o≠pm:=d0 i.a t;have R:o≠pp:=d0 L l;have S:pm≠pp:=d0 d.a l;have C:∀a,G0 a=none→a≠p→H a=none:=fun a e n=>by rw[←D,el (by simpa using n)]at e;exact e
 refine q b o pm pp H5 r.g r.p Y X O r.a ?_ fun a M=>?_
 ·simp only[aU,ak,aM,or_false,not_or,not_false_eq_true,bS,and_true];exact⟨⟨Z,U,e3⟩,⟨e4,R⟩,S⟩
 ·simp only[ak,aM,or_false]at M;rcases M with z | z | z | z
  ·rw[z];exact C _ j.ga j.np
  ·rw[z];exact C _ i.ga i.np
  ·rw[z];exact C _ d.ga d.np
  ·rw[z];exact C _ r.ga r.np
theorem Fo:eG ["self","chart"] ["self","chart"] (eA rc):=i8
theorem xn (F:iL K "__init__" "Search.__init__" rc f fd)(T:sr K mg CS)(ML:wL P w K mg base CL eZ 1 "Ledger" ["self","chart"] (og CL)):fb P w K mg base eZ 3 f fd ["self","chart"] (nY CL CS):=by
 refine F.ok Fo (fun vs H Q E h=>?_) (fun cdv A outer s H vs Q E hr h=>?_)
 ·obtain⟨G,p,dx,ch,c,rfl,_⟩:=h;rfl
 obtain⟨G,p,dx,ch,c,rfl,gh,gp,hp,q⟩:=h;refine⟨_,(dX (jl T.cl T.nCh (pv 0) (pv 1)) (dX (jl T.cl T.nLe (pv 0) (oQ ML hr rfl eP (dU (pv 1) ee))) (eg (jl T.cl T.nFo (pv 0) (gf ee))))),?_⟩;have ah:del H [p] p=none:=fq (by simp);have a5:er (del H [p]) H:=(eU _ _).toF;have J:er G (del H [p]):=fun a u e=>by
  have na:a≠p:=fun z=>by rw[z,gp]at e;cases e
  rw[el (by simpa using na)];exact gh a u e
 generalize bf:del H [p]=G0 at *;refine⟨_,rfl,_,rfl,p,dx,_,rfl,hp,(by decide),?_⟩;generalize ad:upd H p (.ins CS dx (fM ("chart" : Str) (V.ref ch) []))=H1;have M:H1 p=some (.ins CS dx (ER ch)):=by rw[←ad,dW,Ij]
 have B:er G0 H1:=by rw[←ad];exact a5.upd ah
 have aa:∀a,H1 a=none→H a=none:=fun a e=>by
  rw[←ad]at e;by_cases z:a=p
  ·rw[z,dW]at e;cases e
  ·rw[dY z]at e;exact e
 refine⟨_,rfl,fun d r I as a6=>?_⟩;have n1:p≠d:=d0 M I;have n2:p≠r:=d0 M as;have s2:eB H1 (upd (upd H1 r (.own d)) d (.ins CL r [])):=(eo as _).trans (eo (by rw[dY (Ne.symm a6)];exact I) _);have Y:upd (upd H1 r (.own d)) d (.ins CL r []) d=some (.ins CL r []):=dW;have an:∀a,upd (upd H1 r (.own d)) d (.ins CL r []) a=none→H1 a=none:=fun a e=>s2.free e;generalize upd (upd H1 r (.own d)) d (.ins CL r [])=H2 at *;refine⟨d,r,ch,rfl,Y,fun C x pm pp t R D S N L j a9 a0=>⟨rfl,?_⟩⟩;have O:t p=some (.ins CS dx (ER ch)):=R.ins (by rw[el (by simpa using n1)];exact s2 _ _ M);refine⟨_,rfl,p,dx,_,rfl,O,(by show 1<1000;decide),?_⟩;rw[Hk];refine⟨(by show 0≤sizeLine;decide),fun fl U=>?_⟩;have n3:p≠fl:=fun z=>by rw[z,dW]at U;cases U
 refine⟨_,rfl,p,dx,_,rfl,(by rw[dY n3];exact dW),(by show 2<1000;decide),?_⟩;rw[Hj];have b:t fl=none:=by rw[dY (Ne.symm n3)]at U;exact U
 have eH:upd (upd (upd t p (.ins CS dx (Hx ch d))) fl (.lst [])) p (.ins CS dx (wY ch d fl))=upd (upd t fl (.lst [])) p (.ins CS dx (wY ch d fl)):=by
  funext a
  by_cases z:a=p
  ·rw[z,dW,dW]
  ·rw[dY z,dY z];by_cases y:a=fl
   ·rw[y,dW,dW]
   ·rw[dY y,dY y,dY z]
 rw[eH];have k4:∀a,a≠p→a≠fl→upd (upd t fl (.lst [])) p (.ins CS dx (wY ch d fl)) a=t a:=fun a z y=>by rw[dY z,dY y]
 have a4:upd (upd t fl (.lst [])) p (.ins CS dx (wY ch d fl)) p=some (.ins CS dx (wY ch d fl)):=dW;have a3:upd (upd t fl (.lst [])) p (.ins CS dx (wY ch d fl)) fl=some (.lst []):=by rw[dY (Ne.symm n3)];exact dW
 generalize upd (upd t fl (.lst [])) p (.ins CS dx (wY ch d fl))=H4 at *;have hO:∀a∈[C,x,pm,pp],H1 a=none:=fun a g=>an a (a0 a g);have a8:∀a,t a=none→H2 a=none:=fun a e=>by
  by_cases z:a=d
  ·rw[z,D]at e;cases e
  ·have:=R.free e;rw[el (by simpa using z)]at this;exact this
 have Z:H1 fl=none:=an fl (a8 fl b);have X:fl∉[C,x,pm,pp]:=fun z=>by
  simp only[ak,aM,or_false]at z;rcases z with z | z | z | z
  ·rw[z,S]at b;cases b
  ·rw[z,N]at b;cases b
  ·rw[z,L]at b;cases b
  ·rw[z,j]at b;cases b
 have a2:d≠fl:=d0 D b;have ag:∀a∈[C,x,pm,pp],a≠p:=fun a g z=>by have:=hO a g;rw[z,M]at this;cases this
 have bd:∀a∈[C,x,pm,pp],a≠d:=fun a g z=>by have:=a0 a g;rw[z,Y]at this;cases this
 have a7:∀a∈[C,x,pm,pp],a≠fl:=fun a g z=>X (z▸g);have ap:er G0 t:=fun a u e=>by
  have na:a≠d:=fun z=>by
   have:=B.free I;rw[z,this]at e;cases e
  rcases B a u e with z | ⟨z1,o,z2⟩
  ·exact R a u (by rw[el (by simpa using na)];exact s2 _ _ z)
  ·exact .inr ⟨z1,o,R.frz (by rw[el (by simpa using na)];exact s2 _ _ z2)⟩
 have a1:er G0 H4:=fun a u e=>by
  have z1:a≠p:=fun z=>by rw[z,ah]at e;cases e
  have z2:a≠fl:=fun z=>by
   have:=ap.free b;rw[z,this]at e;cases e
  rw[k4 a z1 z2];exact ap a u e
 have al:H4 d=some (.ins CL r (zN ch C x pm pp)):=by rw[k4 d (Ne.symm n1) a2];exact D
 refine q (upd (upd G d (.ins CL r (zN ch C x pm pp))) p (.ins CS dx (wY ch d fl))) H4 d fl [C,x,pm,pp] ?_ ?_ ?_ ?_ (aa fl Z) X ?_ a1 dW ?_ a3
 ·exact((er.refl G).upd (J.free (B.free I))).upd gp
 ·intro a u e;by_cases z:a=p
  ·rw[z,dW]at e;rw[z,a4];exact .inl e
  ·rw[dY z]at e;by_cases y:a=d
   ·rw[y,dW]at e;rw[y,al];exact .inl e
   ·rw[dY y]at e;exact(J.trans a1) a u e
 ·intro a e n;by_cases z:a=p
  ·exact .inr z
  ·rw[dY z]at n;by_cases y:a=d
   ·rw[y];exact .inl (aa d I)
   ·rw[dY y]at n;exact absurd e n
 ·exact fun a g=>aa a (hO a g)
 ·rw[dY (Ne.symm n3),dY (Ne.symm a2)];exact J.free (B.free Z)
 ·have k5:∀a∈[C,x,pm,pp],H4 a=t a:=fun a g=>k4 a (ag a g) (a7 a g);refine⟨⟨r,C,x,pm,pp,[],[],[],rfl,?_,?_,?_,.nil,?_,aq _,fun m=>rfl,[],[],?_,rfl,bS,(fun k hk=>nomatch hk),(fun k hk=>Or.inl ⟨rfl,rfl⟩),(fun k k2 l h=>nomatch h)⟩,fun a g=>?_,fun a g=>?_,fun a g v i=>?_,a9⟩
  ·rw[dY (Ne.symm n1),dW]
  ·rw[k5 C (by simp)];exact S
  ·rw[k5 x (by simp)];exact N
  ·rw[k5 pm (by simp)];exact L
  ·rw[k5 pp (by simp)];exact j
  ·rw[dY (ag a g),dY (bd a g)];exact J.free (B.free (hO a g))
  ·rw[k5 a g];simp only[ak,aM,or_false]at g;rcases g with z | z | z | z
   ·exact⟨_,by rw[z];exact S⟩
   ·exact⟨_,by rw[z];exact N⟩
   ·exact⟨_,by rw[z];exact L⟩
   ·exact⟨_,by rw[z];exact j⟩
  ·rw[k5 a g]at i;simp only[ak,aM,or_false]at g;rcases g with z | z | z | z
   ·rw[z,S]at i;cases i;exact fun q=>q
   ·rw[z,N]at i;cases i;exact fun q=>q
   ·rw[z,L]at i;cases i;exact fun q=>q
   ·rw[z,j]at i;cases i;exact fun q=>q
end
structure Se (CB CC CS:Addr)(G H:Hp)(p ch le fl:Addr)(c:dZ):Prop where
 gh:er G H
 self:∃dx,G p=some (.ins CS dx (wY ch le fl))
 chart:im CB CC G ch c
 n:c.n<64
 nds:∀w,(c.needs w).length≤100
 sm:∀L,gC c L→L.length<sizeLine
theorem Se.grow {G':Hp}{le fl:Addr}{c:dZ}(h:Se CB CC CS G H p ch le fl c)(gg:er G G')(gh:er G' H'):Se CB CC CS G' H' p ch le fl c:=
 ⟨gh,let ⟨dx,e⟩:=h.self;⟨dx,gg.ins e⟩,h.chart.f gg,h.n,h.nds,h.sm⟩
theorem Se.same {le fl:Addr}{c:dZ}(h:Se CB CC CS G H p ch le fl c)(e:eB H H'):Se CB CC CS G H' p ch le fl c:=h.grow (er.refl _) (h.gh.trans e.toF)
def kK (CT:Addr)(G H:Hp)(s:Addr)(sd:Sd):Prop:=∃dx w,H s=some (.ins CT dx (yk (.int (sd.picked:Nat)) (.int (sd.dead:Nat)) (.ref w)))∧vy G w sd.wanted
inductive C5 (CB CC CS CT:Addr)(vs:List V)(H:Hp)(Q:VK)(E:XK):Prop
 |mk (G:Hp)(p ch le fl s:Addr)(c:dZ)(sd:Sd)(x:Str)(_:vs=[.ref p,.ref s,.str x])(_:Se CB CC CS G H p ch le fl c)(_:kK CT G H s sd)(_:Q (.int (hZ (c.Kc x) sd.dead:Nat)) H):C5 CB CC CS CT vs H Q E
def qP (CB CC CS CT:Addr):Sp:=C5 CB CC CS CT
inductive wt (CB CC CS:Addr)(vs:List V)(H:Hp)(Q:VK)(E:XK):Prop
 |mk (G:Hp)(p ch le fl w0:Addr)(c:dZ)(kvs0:List (fZ×V))(wanted:List (Str×Option Pk))(wv:V)(who:Option Pk)(pm:Nat)(_:vs=[.ref p,.ref w0,wv,.int (pm:Nat)])(_:Se CB CC CS G H p ch le fl c)(_:Rd H w0 (.dK kvs0))(_:Paired (vw G) kvs0 wanted)(_:wanted.length≤7000)(_:(∀x u,(x,u)∈wanted→c.Who u∧x∈eJ (c.needs u)))(_:c.Who who)(_:gr G wv who)(_:∀(a:Addr) (H':Hp) (kvs:List (fZ×V)) (g:List (Str×Option Pk)),eB H H'→H a=none→H' a=some (.dK kvs)→Paired (vw G) kvs g→c.J8 wanted who pm g→Q (.ref a) H'):wt CB CC CS vs H Q E
def lD (CB CC CS:Addr):Sp:=wt CB CC CS
theorem sH {n:Nat}(h:n≤10000):n<sizeLine:=bz h (by decide)
section
variable {base:Heap}{f:Addr}
theorem Fs:eG ["self","stand","part"] ["self","stand","part"] (eA yO):=i8
theorem BV {CT:Addr}(F:iL K "left" "Search.left" yO f fd)(T:sr K mg CS)(a:TC K mg CC)(TT:Cv K mg CT):fb P w K mg base eZ 1 f fd ["self","stand","part"] (qP CB CC CS CT):=by
 refine F.ok Fs (fun vs H Q E h=>?_) (fun cdv A outer s H vs Q E v h=>?_)
 ·obtain⟨G,p,ch,l,fl,s,c,sd,x,rfl,_⟩:=h;rfl
 obtain⟨G,p,ch,l,fl,C,c,sd,x,rfl,d,⟨z,Y,B,M⟩,q⟩:=h;have y:=gc v;refine⟨_,(eg (eR (eW gM (jE y (eD a.cl a.nOf (eD T.cl T.nCh (pv 0))) (pv 2) ef ⟨rfl,rfl,rfl,rfl⟩) (iY jW (eD TT.cl TT.nDe (pv 1)))))),?_⟩;obtain⟨dx,hp⟩:=d.self;obtain⟨m,b,bits,o,e,R,I,U,st,t,N,O,X,S,j,L,D,J⟩:=(d.chart.f d.gh).ex;obtain⟨r,i,g⟩:=j.get x;refine⟨_,rfl,p,dx,_,_,rfl,d.gh.ins hp,(by kernel_rfl),ch,m,_,_,rfl,t,(by kernel_rfl),e,rfl,j.isD,_,rfl,r,i,?_⟩;rw[g];refine⟨_,rfl,C,z,_,V.int (sd.dead:Nat),rfl,B,(by kernel_rfl),_,rfl,_,_,rfl,rfl,?_⟩;dsimp only;rw[pT];exact q
theorem Bo:eG ["self","wanted","who","picked","allowed","grown","part"] ["self","wanted","who","picked"] (eA qZ):=i8
theorem xl (F:iL K "wanted_by" "Search.wanted_by" qZ f fd)(T:sr K mg CS)(L:TC K mg CC)(GC:fb P w K mg base eZ 1 g gd ["mask"] qS)(bG:gs K gd ["mask"] [])(kG:W.keepIn K (.ref g)=true)(mG:mg "count_picks" = some (.ref g)):fb P w K mg base eZ 2 f fd ["self","wanted","who","picked"] (lD CB CC CS):=by
 refine F.ok Bo (fun vs H Q E h=>?_) (fun cdv A outer s H vs Q E hr h=>?_)
 ·obtain⟨G,p,ch,le,fl,w0,c,j,wanted,X,who,pm,rfl,_⟩:=h;rfl
 obtain⟨G,p,ch,le,fl,w0,c,j,wanted,X,who,pm,rfl,M,a7,ap,bm,Z,C,S,q⟩:=h;have J:=gc hr;refine⟨_,(dX (eF (i:=4) Bo.nd rfl (Or.inl rfl) (eD L.cl L.nAl (eD T.cl T.nCh (pv 0)))) (dX (eF (i:=5) Bo.nd rfl (Or.inl rfl) (iP vm rfl T.dict PyProof.Rows.boot_dict (dU (pv 1) ee))) (dX (fN PassesOwn.never rfl (y6 (eV J (pv 4) (pv 2) (fun _ _=>rfl))) (eK (i:=6) Bo.nd rfl (Or.inl rfl)) (dX (gj (iw (eW gM (pv 3) (jE J (eD L.cl L.nOf (eD T.cl T.nCh (pv 0))) (pv 6) ef ⟨rfl,rfl,rfl,rfl⟩)) (fun _=>rfl)) (eg sM) ff) (eg (gj (PW.pt (p8 (iN (kr J (pv 6) (pv 5))) (oJ (gu zn (fw GC hr rfl mG kG bG .nil eP (dU (fL J (eV J (pv 4) (pv 2) (fun _ _=>rfl)) (pv 6) (fun _ _=>rfl)) ee)) (fw GC hr rfl mG kG bG .nil eP (dU (fL J (eV J (pv 4) (fL J (pv 5) (pv 6) (fun _ _=>rfl)) (fun _ _=>rfl)) (pv 6) (fun _ _=>rfl)) ee)) (gJ _))))) (eg (iB J (pv 5) (pv 6) (pv 2) rfl)) ff)))) (eg (eR (pv 5)))))),?_⟩;obtain⟨dx,hp⟩:=M.self;obtain⟨cx,b,bits,bq,a2,Y,sh,fo,st,c1,c2,c3,c4,c5,c6,c7,c8,c9⟩:=(M.chart.f M.gh).ex;refine⟨_,rfl,p,dx,_,_,rfl,M.gh.ins hp,(by kernel_rfl),ch,cx,_,V.ref Y,rfl,c1,(by kernel_rfl),?_⟩;refine⟨_,rfl,w0,j,rfl,a7,fun a ha=>?_⟩;have s1:=eo ha (.dK j);have ah:upd H a (.dK j) a=some (.dK j):=dW;generalize upd H a (.dK j)=H1 at *;obtain⟨d,a5,a1⟩:=(c7.same s1).get C ((S.f M.gh).same s1);obtain⟨o,I,R,as,bv⟩:=id a1;have a9:d≠a:=fe R ah fun z=>nomatch z;have la:I.length=(eJ (c.needs who)).length:=by
  have:=congrArg List.length as;rw[ab,ab]at this;exact this
 refine⟨_,rfl,_,rfl,Y,_,rfl,a5,d,o,I,rfl,R,?_⟩;refine rY (kvs:=I) (fun i σ H2=>∃kvs D o6,σ=[some (.ref p),some (.ref w0),some X,some (.int (pm:Nat)),some (.ref Y),some (.ref a),o6]∧H2 a=some (.dK kvs)∧(∀b,b≠a→H2 b=H1 b)∧kvs.length≤7000+i∧Paired (vw G) kvs D∧c.Kt wanted who pm ((eJ (c.needs who)).take i) D)
  ⟨j,wanted,none,rfl,ah,fun _ _=>rfl,by rw[Paired.length ap];lia,ap,GrowP.nil⟩ (fun i σ H2 _ ⟨_,_,_,_,_,e,_⟩=>by rw[e d a9];exact R) ?_ ?_
 ·rintro i kv σ H2 hi ⟨kvs,D,o6,rfl,y,B,bd,t,m⟩;have ad:(I.map (·.1))[i]?=some kv.1:=by rw[ae,hi];rfl
  rw[as,ae]at ad;obtain⟨x,U,ex⟩:=ax.mp ad;rw[←ex];have a0:=aj U;have an:=oU (iZ (c.needs who)) U;have bx:i<100:=by
   have h1:=(af.mp U).1;have h2:(eJ (c.needs who)).length≤(c.needs who).length:=mh _;have:=M.nds who
   lia
  have l:eB H H2:=fun b u e=>by
   have nb:b≠a:=d0 e ha;rw[B b nb];exact s1 _ _ e
  obtain⟨r,a8,a3⟩:=(c6.same l).get x;refine⟨_,rfl,_,rfl,p,dx,_,_,rfl,l _ _ (M.gh.ins hp),(by kernel_rfl),ch,cx,_,_,rfl,l _ _ c1,(by kernel_rfl),a2,rfl,(c6.same l).isD,_,rfl,r,a8,?_⟩;rw[a3];refine⟨_,_,rfl,rfl,_,rfl,?_⟩;dsimp only;rw[mw,pb];by_cases hip:c.isP pm x
  ·rw[au (vZ.mpr hip)];refine ir ?_;exact⟨kvs,D,_,rfl,y,B,by lia,t,by rw[fm U];exact GrowP.skip m hip⟩
  ·rw[ao (Classical.byContradiction fun z=>hip (vZ.mp z))];refine gv ?_;have aa:hJ H2 a (.str x) (eN kvs (Sum.inr x)):=hJ.k (k:=Sum.inr x) y;refine⟨_,rfl,_,rfl,a,_,rfl,aa,_,rfl,?_⟩;have b1:=fD kvs (Sum.inr x) X;have ag:c.Kt wanted who pm ((eJ (c.needs who)).take (i+1)) (if x∈D.map (·.1) then D.map (fun yu=>if yu.1=x then (yu.1,who) else yu) else D++[(x,who)])→
     ∃kvs' gg' o6,[some (.ref p),some (.ref w0),some X,some (.int (pm:Nat)),some (.ref Y),some (.ref a),some (.str x)]=[some (.ref p),some (.ref w0),some X,some (.int (pm:Nat)),some (.ref Y),some (.ref a),o6]∧upd H2 a (.dK (eY kvs (Sum.inr x) X)) a=some (.dK kvs')∧(∀b,b≠a→upd H2 a (.dK (eY kvs (Sum.inr x) X)) b=H1 b)∧kvs'.length≤7000+(i+1)∧Paired (vw G) kvs' gg'∧c.Kt wanted who pm ((eJ (c.needs who)).take (i+1)) gg':=
    fun hg=>⟨_,_,_,rfl,dW,fun b hb=>by rw[dY hb];exact B b hb,by lia,Dv t S,hg⟩
   by_cases hxg:x∈D.map (·.1)
   ·obtain⟨v,u,bf,a4,a6⟩:=nu t hxg;have N:=aa;rw[bf]at N ⊢;refine gv ?_;have O:c.Who u∧x∈eJ (c.needs u):=by
     obtain⟨_,_,_,_,_,h5⟩:=m;rcases h5 x u a4 with z | ⟨z1,z2,_⟩
     ·exact Z x u z
     ·rw[z1];exact⟨C,a0⟩
    obtain⟨d1,e1,e2⟩:=(c7.same l).get C ((S.f M.gh).same l);obtain⟨d2,e3,e4⟩:=(c7.same l).get O.1 ((a6.f M.gh).same l);refine⟨_,rfl,_,rfl,Y,_,rfl,e1,_,rfl,d1,_,rfl,e2.get a0,c,_,rfl,c.JN _,?_⟩;refine⟨_,rfl,_,rfl,_,rfl,a,_,rfl,N,Y,_,rfl,e3,_,rfl,d2,_,rfl,e4.get O.2,c,_,rfl,c.JN _,_,_,rfl,rfl,_,rfl,?_⟩;by_cases hlt:(((c.listed (c.Kd who x)).length:Nat):Int)<(((c.listed (c.Kd u x)).length:Nat):Int)
    ·rw[ao hlt];refine ir ?_;refine⟨_,rfl,_,rfl,_,rfl,a,_,rfl,ki.k (k:=Sum.inr x) y (sH (by lia)),ag ?_⟩;rw[if_pos hxg,fm U];exact GrowP.swap m hip hxg an
    ·rw[au hlt];refine gv ⟨kvs,D,_,rfl,y,B,by lia,t,?_⟩;rw[fm U];exact GrowP.Jb m hxg an
   ·have bl:=(qC t).mpr hxg;rw[bl];refine ir ?_;refine⟨_,rfl,_,rfl,_,rfl,a,_,rfl,ki.k (k:=Sum.inr x) y (sH (by lia)),ag ?_⟩;rw[if_neg hxg,fm U];exact GrowP.new m hip hxg
 ·rintro σ H2 ⟨kvs,D,o6,rfl,y,B,bd,t,m⟩;rw[la,aF]at m;refine⟨_,rfl,q a H2 kvs D (fun b u e=>?_) ha y t m⟩;rw[B b (d0 e ha)];exact s1 _ _ e
end
def NZ (L:ic):Prop:=∀e∈L,e.1≠0
def AK (CL:Addr)(G H:Hp)(O:List Addr)(le ch:Addr)(c:dZ)(L:ic)(m:Nat→Prop)(Q:VK):Prop:=
 ∀(G' H':Hp) (O':List Addr) (L':ic) (j:Nat) (e:Nat×Rs),iu G H O G' H' O'→fT CL G' H' le ch c L' O'→gC c L'→(∃X,L'=L++X)→L'[j]?=some e→m e.1→(NZ L→NZ L'∨(e.1=0∧L'.getLast?=some e))→Q (.int (j:Nat)) H'
inductive wx (CB CC CS:Addr)(vs:List V)(H:Hp)(Q:VK)(E:XK):Prop
 |mk (G:Hp)(p ch le fl:Addr)(c:dZ)(wv:V)(who:Option Pk)(x:Str)(_:vs=[.ref p,wv,.str x])(_:Se CB CC CS G H p ch le fl c)(_:c.Who who)(_:gr H wv who)(_:x∈(c.needs who).map (·.1))(_:∀H',eB H H'→Q (.int (((c.needs who).map (·.1)).idxOf x:Nat)) H'):wx CB CC CS vs H Q E
def lF (CB CC CS:Addr):Sp:=wx CB CC CS
inductive tU (CB CC CL CS:Addr)(vs:List V)(H:Hp)(Q:VK)(E:XK):Prop
 |mk (G:Hp)(p ch le fl:Addr)(c:dZ)(L:ic)(O:List Addr)(wv v:V)(who:Option Pk)(k:Pk)(_:vs=[.ref p,wv,v])(_:Se CB CC CS G H p ch le fl c)(_:fT CL G H le ch c L O)(_:gC c L)(_:c.Who who)(_:gr G wv who)(_:fj G v k)(_:k∈c.ks)(_:c.JO who k)(_:c.JR (c.Jw who ||| c.bit k))(_:AK CL G H O le ch c L (fun m=>m=c.Jw who ||| c.bit k) Q):tU CB CC CL CS vs H Q E
def lZ (CB CC CL CS:Addr):Sp:=tU CB CC CL CS
theorem FJ:(["need"]:List Str).Nodup:=by decide +kernel
theorem FI:(["need","pick"]:List Str).Nodup:=by decide +kernel
theorem fT.same {c:dZ}{L:ic}{O:List Addr}(h:fT CL G H p ch c L O)(e:eB H H'):fT CL G H' p ch c L O:=
 h.grow (er.refl _) h.off fun a ha=>by obtain⟨u,hu⟩:=h.liv a ha;exact lH e hu
theorem fT.put {c:dZ}{L:ic}{O:List Addr}(h:fT CL G H p ch c L O)(i:er G H){t:Addr}{u:HO}(e:H t=none):fT CL (upd G t u) (upd H t u) p ch c L O:=by
 have d:∀a∈O,a≠t:=fun a b z=>by obtain⟨v,g⟩:=h.liv a b;rw[z,e]at g;cases g
 exact h.grow ((er.refl _).upd (i.free e)) (fun a b=>by rw[dY (d a b)];exact h.off a b) fun a b=>by rw[dY (d a b)]
section
variable {base:Heap}{f:Addr}
theorem Hn:eG ["self","who","part"] ["self","who","part"] (eA rf):=i8
theorem xo (F:iL K "place_of_need" "Search.place_of_need" rf f fd)(T:sr K mg CS)(r:TC K mg CC)(l:TB K mg CB):fb P w K mg base eZ 1 f fd ["self","who","part"] (lF CB CC CS):=by
 refine F.ok Hn (fun vs H Q E h=>?_) (fun cdv A outer s H vs Q E hr h=>?_)
 ·obtain⟨G,p,ch,X,fl,c,O,who,x,rfl,_⟩:=h;rfl
 obtain⟨G,p,ch,X,fl,c,O,who,x,rfl,o,j,t,hx,q⟩:=h;have hu:=gc hr;refine⟨_,(eg (eR (je PySem.F.plainAttrs_list PySem.F.slot_list_index PySem.F.type_list_index xI (ik (N':=["need"]) (n:=1) (js:=[]) rfl (ib.closed (by decide +kernel) (by decide +kernel) rfl (by decide +kernel) rfl) (gF (by decide)) (fh (eV hu (eD l.cl l.nN (eD r.cl r.nBoard (eD T.cl T.nCh (pv 0)))) (pv 1) (fun _ _=>rfl))) (fun C R H2 fp=>eK (i:=0) FJ rfl (Or.inl rfl)) (fun C R H2 fp=>iH) (fun C R H2 fp=>eO (eQ:ES _ (uI K)) (pv 0) ef (fun _ _=>rfl))) (dU (pv 2) ee)))),?_⟩;obtain⟨dx,hp⟩:=o.self;obtain⟨Y,b,bits,Z,S,al,sh,fo,st,c1,c2,c3,c4,c5,c6,c7,c8,c9⟩:=(o.chart.f o.gh).ex;obtain⟨U,dn,dv,J,I⟩:=i6 c2 c3;obtain⟨na,B,zs,N,m⟩:=I who O j t;have lz:=Paired.length m;have M:=o.nds who;refine⟨_,rfl,p,dx,_,_,rfl,o.gh.ins hp,(by kernel_rfl),ch,Y,_,_,rfl,c1,(by kernel_rfl),b,U,_,_,rfl,J,gm _ _,_,rfl,dn,_,rfl,B,na,rfl,⟨_,eX.of N⟩,?_⟩;refine gy (xs:=zs) (fun D i ys e=>ys=(((c.needs who).take i).map (·.1)).map V.str∧e D=some (.lst ys)∧eB H e∧H D=none) (fun D L=>⟨by simp,dW,eo L _,L⟩)
  (fun D i ys e hi ⟨d,a,g,_⟩=>⟨eX.of (g _ _ N),a,?_⟩) (fun D i y ys e hi ⟨d,a,g,z⟩=>?_) (fun D ys e ⟨d,a,g,z⟩=>?_)
 ·rw[d,ab,ab,aN];exact eE (by lia)
 ·obtain⟨n,v,nq,rfl,hn⟩:=Paired.Ju m hi;unfold iJ mT;dsimp only;rw[if_pos rfl];refine⟨_,rfl,nq,_,_,_,rfl,rfl,ia.of (g _ _ hn),rfl,a,?_,dW,eB.upd g z,z⟩;rw[d,fm v,aw,aw];rfl
 ·rw[lz,aF]at d;subst d;exact⟨.inl ⟨rfl,_,eX.of a⟩,_,rfl,D,_,x,rfl,rfl,a,hx,q e g⟩
theorem DI:eG ["self","who","pick","needs","place"] ["self","who","pick"] (eA oz):=i8
theorem uO (F:iL K "outside" "Search.outside" oz f fd)(T:sr K mg CS)(m:TC K mg CC)(aa:TB K mg CB)(GC:fb P w K mg base eZ 1 g gd ["need","pick"] km)(bG:gs K gd ["need","pick"] [])(kG:W.keepIn K (.ref g)=true)(mG:mg "clashes" = some (.ref g))(MP:Mt P w K mg base CL eZ 2 "put_down" ["self","mask","reason"] (vJ CB CC CL)):fb P w K mg base eZ 3 f fd ["self","who","pick"] (lZ CB CC CL CS):=by
 refine F.ok DI (fun vs H Q E h=>?_) (fun cdv A outer s H vs Q E hr h=>?_)
 ·obtain⟨G,p,ch,le,fl,c,L,O,r,v,who,k,rfl,_⟩:=h;rfl
 obtain⟨G,p,ch,le,fl,c,L,O,r,v,who,k,rfl,d,hL,o,l,M,hv,hk,a7,Y,q⟩:=h;have hu:=gc hr;refine⟨_,(dX (eF (i:=3) DI.nd rfl (Or.inl rfl) (eV hu (eD aa.cl aa.nN (eD m.cl m.nBoard (eD T.cl T.nCh (pv 0)))) (pv 1) (fun _ _=>rfl))) (dX (eF (i:=4) DI.nd rfl (Or.inl rfl) (je PySem.F.plainAttrs_list PySem.F.slot_list_index PySem.F.type_list_index xJ (ik (N':=["need","pick"]) (n:=1) (js:=[2]) rfl (ib.one (c:=s.heap.objs.size+1) (y:="pick") rfl rfl (by decide +kernel) rfl (by decide +kernel) (by decide +kernel) rfl rfl rfl rfl rfl) (gF (by decide)) (fh (pv 3)) (fun C s2 H2 fp=>eK (i:=0) FI rfl (Or.inl rfl)) (fun C s2 H2 fp=>iH) (fun C s2 H2 fp=>fw GC (hr.mono (by decide)) rfl mG kG bG .nil eP (dU (pv 0) (dU (pv 1) ee)))) (dU mF ee))) (eg (eR (gY MP hr eP (eD T.cl T.nLe (pv 0)) (dU (eW qf (eV hu (eD m.cl m.nBits (eD T.cl T.nCh (pv 0))) (pv 1) (fun _ _=>rfl)) (eV hu (eD m.cl m.nBits (eD T.cl T.nCh (pv 0))) (pv 2) (fun _ _=>rfl))) (dU (ge (dU gX (dU (pv 1) (dU (pv 4) (dU (pv 2) ee))))) ee))))))),?_⟩;obtain⟨dx,hp⟩:=d.self;obtain⟨cx,b,bits,bq,bm,al,sh,fo,st,c1,c2,c3,c4,c5,c6,c7,c8,c9⟩:=(d.chart.f d.gh).ex;obtain⟨bx,dn,dv,a9,a5⟩:=i6 c2 c3;obtain⟨na,a1,zs,hz,ad⟩:=a5 who r l (M.f d.gh);have lz:=Paired.length ad;have bf:=d.nds who;have B:=d.gh.ins hp;refine⟨_,rfl,p,dx,_,_,rfl,B,(by kernel_rfl),ch,cx,_,_,rfl,c1,(by kernel_rfl),b,bx,_,_,rfl,a9,gm _ _,_,rfl,dn,_,rfl,a1,?_⟩;refine⟨_,rfl,na,rfl,⟨_,eX.of hz⟩,?_⟩;refine gy (xs:=zs) (fun D i ys I=>ys=(((c.needs who).take i).map fun n=>pS n k).map V.bl∧I D=some (.lst ys)∧eB H I∧H D=none) (fun D hD=>⟨by simp,dW,eo hD _,hD⟩)
  (fun D i ys I hi ⟨S,R,a,_⟩=>⟨eX.of (a _ _ hz),R,?_⟩) (fun D i y ys I hi ⟨S,R,a,e4⟩=>?_) (fun D ys I ⟨S,R,a,e4⟩=>?_)
 ·rw[S,ab,ab,aN];exact eE (by lia)
 ·obtain⟨n,an,hn⟩:=Paired.Ju ad hi;unfold iJ mT;dsimp only;rw[if_pos rfl];refine⟨_,rfl,_,rfl,_,_,n,k,rfl,fA.same a hn,fj.same a (fj.f d.gh hv),R,?_,dW,eB.upd a e4,e4⟩;rw[S,fm an,aw,aw];rfl
 ·rw[lz,aF]at S;subst S;have X:true∈(c.needs who).map fun n=>pS n k:=by
   obtain⟨n,ag,a6⟩:=a7;exact av.mpr ⟨n,ag,a6⟩
  refine⟨.inl ⟨rfl,_,eX.of R⟩,D,_,rfl,rfl,R,X,?_⟩;have Z:=(M.f d.gh).same a;have as:fj I v k:=fj.same a (fj.f d.gh hv);obtain⟨lx,ma,re,pm,pp,bv,rs,Ol,hO,bd,a0⟩:=id hL.ex;refine⟨_,rfl,p,dx,_,V.ref le,rfl,a _ _ B,(by kernel_rfl),le,lx,_,rfl,a _ _ (d.gh.ins bd),(by kernel_rfl),?_⟩;refine⟨_,rfl,p,dx,_,_,rfl,a _ _ B,(by kernel_rfl),ch,cx,_,_,rfl,a _ _ c1,(by kernel_rfl),_,rfl,bits,_,rfl,(c4.same a).get l Z,_,rfl,p,dx,_,_,rfl,a _ _ B,(by kernel_rfl),ch,cx,_,_,rfl,a _ _ c1,(by kernel_rfl),_,rfl,bits,_,rfl,(c4.same a).get (w:=some k) (fW hk) as,_,_,rfl,rfl,?_⟩;dsimp only;rw[wg];refine⟨_,rfl,_,rfl,_,rfl,(by show 4≤sizeLine;decide),fun t ht=>?_⟩;have N:er G I:=d.gh.trans a.toF;have gt:G t=none:=N.free ht;have GW:iu G H O (upd G t (.tup [.str ("outside" : Str),r,.int (((c.needs who).map fun n=>pS n k).idxOf true:Nat),v])) (upd I t (.tup [.str ("outside" : Str),r,.int (((c.needs who).map fun n=>pS n k).idxOf true:Nat),v])) O:=(iu.same d.gh a).trans (iu.put N ht);have U:=(hL.same a).put N (u:=.tup [.str ("outside" : Str),r,.int (((c.needs who).map fun n=>pS n k).idxOf true:Nat),v]) ht;obtain⟨i,n,hi,hin,hcl⟩:∃i n,((c.needs who).map fun n=>pS n k).idxOf true=i∧(c.needs who)[i]?=some n∧pS n k=true:=by
   have a2:=br.mpr X;have hg:=cm a2;rw[List.getElem_map]at hg;exact⟨_,_,rfl,am _,hg⟩
  have hR:my (upd G t (.tup [.str ("outside" : Str),r,.int (((c.needs who).map fun n=>pS n k).idxOf true:Nat),v])) (.ref t) ⟨who,(i:Nat),.one k⟩:=by
   have gG:=(er.refl G).upd (u:=.tup [.str ("outside" : Str),r,.int (((c.needs who).map fun n=>pS n k).idxOf true:Nat),v]) gt;refine⟨t,r,v,rfl,?_,M.f gG,fj.f gG hv⟩;rw[hi];exact dW
  have J:c.Jw who ||| c.bit k<2^c.n:=i4 (dZ.Kk l) (c.JH hk);have ap:=d.chart.f GW.gg;generalize upd G t (.tup [.str ("outside" : Str),r,.int (((c.needs who).map fun n=>pS n k).idxOf true:Nat),v])=G' at *;generalize upd I t (.tup [.str ("outside" : Str),r,.int (((c.needs who).map fun n=>pS n k).idxOf true:Nat),v])=H8 at *;refine⟨G',le,ch,c,L,O,c.Jw who ||| c.bit k,_,_,rfl,GW.gh,ap,U,hR,J,d.n,d.sm L o,fun j hj=>?_,fun hn H9 O9 g9 a3=>?_⟩
  ·obtain⟨e,ah,a4⟩:=p9 hj;exact q G' H8 O L j e GW U o ⟨[],by simp⟩ ah a4 .inl
  ·refine q G' H9 O9 _ L.length (c.Jw who ||| c.bit k,⟨who,(i:Nat),.one k⟩) (GW.trans g9) a3 (o.add J Y (l9.mp hn) ?_) ⟨_,rfl⟩ ?_ rfl (fun a8=>.inl fun x hx=>?_)
   ·refine zk ?_ (dZ.JC.mpr (.inr ((dZ.JF hk).mpr rfl))) hin hcl;cases who with
    |none=>trivial
    |some k0=>exact dZ.JC.mpr (.inl ((dZ.Kl l).mpr rfl))
   ·rw[aW (aq _),bK];rfl
   ·rcases ay.mp hx with z | z
    ·exact a8 x z
    ·rw[ai.mp z];intro y;have:c.has (c.Jw who ||| c.bit k) k:=dZ.JC.mpr (.inr ((dZ.JF hk).mpr rfl));rw[show c.Jw who ||| c.bit k=0 from y]at this;exact dZ.JG this
end
end FB
namespace FB
open PySem L2 PyProof.Rows
variable {H:Hp}{L:ic}{O:List Addr}
def pF (c:dZ)(F:List Fk):Prop:=∀(i i':Nat) (f f':Fk),i≤i'→F[i]?=some f→F[i']?=some f'→∀j,c.has f.sd.picked j→c.has f'.sd.picked j
theorem pF.snoc {c:dZ}{F:List Fk}{g:Fk}(h:pF c F)(a:∀f∈F,∀j,c.has f.sd.picked j→c.has g.sd.picked j):pF c (F++[g]):=fun i i' f f' hi h1 h2 j hj=>by
 have e2:i'<F.length∨i'=F.length:=by
  have:=(af.mp h2).1;rw[aE,aR]at this
  lia
 rcases e2 with e2 | e2
 ·rw[aK e2]at h2;rw[aK (by lia)]at h1;exact h i i' f f' hi h1 h2 j hj
 ·subst e2;rw[aW (aq _),bK]at h2;have:g=f':=by simpa using h2
  subst this;rcases de i F.length with z | z
  ·rw[aK z]at h1;exact a f (aj h1) j hj
  ·have:i=F.length:=by lia
   subst this;rw[aW (aq _),bK]at h1;have:g=f:=by simpa using h1
   subst this;exact hj
theorem fz.mono {c:dZ}{R:List Fk}{s:Sd}(h:fz c L R s):∀g:Fk,g.sd=s→pF c (R.reverse++[g]):=by
 induction h with
 |nil _ _=>
  intro g _;exact pF.snoc (F:=[]) (fun i o f m _ h1=>by simp at h1) fun f a=>nomatch a
 |@cons f F s h1 h2 h3 h4 ih=>
  intro g d;rw[dR];refine pF.snoc (ih f rfl) fun x l j b=>?_;rw[d];have e:fz c L (f::F) s:=.cons h1 h2 h3 h4;refine(e.sub x ?_).1 j b;rcases ay.mp l with z | z
  ·exact aZ _ (ci.mp z)
  ·rw[ai.mp z];exact bh
theorem fz.fks {c:dZ}{R:List Fk}{s:Sd}(h:fz c L R s):∀f∈R,jL c f∧iz c L f.sd:=by
 induction h with
 |nil _ _=>exact fun f a=>nomatch a
 |cons h1 h2 h3 h4 ih=>
  intro x hx;rcases ak.mp hx with rfl | hx
  ·exact⟨h2,h1.sd⟩
  ·exact ih x hx
def dZ.KK (c:dZ)(m:Nat)(F:List Fk):List Fk:=match F.getLast? with
 |some g=>(match g.bit with
  |some k=>F.map (c.JX k m)
  |none=>F)
 |none=>F
theorem lr {α:Type}{p q:α→Bool}:∀{l:List α},(∀x∈l,q x=true→p x=true)→(l.filter q).length≤(l.filter p).length
 |[],_=>aq _
 |x::l,h=>by
  have ih:=lr (l:=l) fun y hy=>h y (by simp[hy]);rw[aG,aG];by_cases hq:q x=true
  ·rw[if_pos hq,if_pos (h x (by simp) hq),aB,aB];lia
  ·rw[if_neg hq]
   split
   ·rw[aB];lia
   ·exact ih
theorem qo {α:Type}{p q:α→Bool}{k:α}:∀{l:List α},(∀x∈l,q x=true→p x=true)→k∈l→p k=true→q k=false→(l.filter q).length<(l.filter p).length
 |[],_,hk,_,_=>nomatch hk
 |x::l,h,hk,hp,hq=>by
  have hl:∀y∈l,q y=true→p y=true:=fun y hy=>h y (by simp[hy]);rw[aG,aG];rcases ak.mp hk with rfl | hk
  ·rw[if_neg (by rw[hq];decide),if_pos hp,aB];have:=lr hl
   lia
  ·have ih:=qo hl hk hp hq;by_cases hx:q x=true
   ·rw[if_pos hx,if_pos (h x (by simp) hx),aB,aB];lia
   ·rw[if_neg hx]
    split
    ·rw[aB];lia
    ·exact ih
theorem dZ.KL (c:dZ)(k:Pk)(m:Nat)(f:Fk):c.cnt (c.JX k m f)≤c.cnt f:=by
 unfold dZ.cnt dZ.left;refine lr fun x a h=>?_;simp only[aH,aA,bJ,decide_eq_false_iff_not]at h ⊢;exact⟨h.1,fun z=>h.2 (dZ.J0 z)⟩
theorem dZ.KM {c:dZ}{k:Pk}{m:Nat}{f:Fk}(a:k∈c.ks)(hp:k.1=f.part)(b:¬c.has f.sd.dead k)(d:hZ (hZ m (c.bit k)) f.sd.picked=0):c.cnt (c.JX k m f)<c.cnt f:=by
 unfold dZ.cnt dZ.left;refine qo (k:=k) (fun x e h=>?_) a ?_ ?_
 ·simp only[aH,aA,bJ,decide_eq_false_iff_not]at h ⊢;exact⟨h.1,fun z=>h.2 (dZ.J0 z)⟩
 ·simp only[aH,aA,bJ,decide_eq_false_iff_not];exact⟨hp,b⟩
 ·have:c.has (c.JX k m f).sd.dead k:=by
   show c.has (c.JW k m f.sd).dead k;unfold dZ.JW;rw[if_pos d];exact dZ.JC.mpr (.inr ((dZ.JF a).mpr rfl))
  rw[ao this];simp
theorem yc {c:dZ}{B:List Fk}{g:Fk}{e:Nat×Rs}{n:Nat}(h:fz c L B.reverse g.sd)(C:jL c g)(F:e∈L)(q:e.1<2^c.n)(w:∀j,c.has e.1 j→c.has g.sd.picked j)(d:((B++[g]).take n).reverse=(B++[g]).reverse.dropWhile (fun f=>!c.stop e.1 f)):((B++[g]).take n=[]∧e.1=0)∨∃B2 g2,c.KK e.1 ((B++[g]).take n)=B2++[g2]∧fz c L B2.reverse g2.sd∧jL c g2∧c.mv (c.n+1) (B2++[g2])<c.mv (c.n+1) (B++[g])∧e.1≠0:=by
 have r:c.stop e.1 g=false:=by
  unfold dZ.stop;cases hb:g.bit with
  |none=>rfl
  |some k=>exact au fun z=>C.JV h.sd hb (w k z)
 rw[cC,List.reverse_singleton,List.singleton_append,List.dropWhile_cons,if_pos (by rw[r];rfl)]at d;rcases Cu h w with ⟨G,D⟩ | ⟨A',b,l,k,E,I,o,v,x,t,m,y⟩
 ·left
  rw[G]at d;exact⟨List.reverse_eq_nil_iff.mp d,dZ.JI q D⟩
 ·right
  rw[I]at d;have A:(B++[g]).take n=l.reverse++[b]:=by
   have:=congrArg List.reverse d;rw[cS,dR]at this;exact this
  have H:B=l.reverse++b::A'.reverse:=by
   have:=congrArg List.reverse E;rw[cS,cC,dR,bu]at this;exact this
  have s:k∈c.ks:=(m.bit k o).1;have p:¬c.has b.sd.picked k:=m.JV t.sd o;have J:hZ (hZ e.1 (c.bit k)) b.sd.picked=0:=(dZ.J2 s q).mpr x;refine⟨l.reverse.map (c.JX k e.1),c.JX k e.1 b,?_,?_,m.JX,?_,fun z=>?_⟩
  ·rw[A];unfold dZ.KK;rw[List.getLast?_append];simp only[List.getLast?_singleton,Option.some_or];rw[o];show List.map (c.JX k e.1) (l.reverse++[b])=_;rw[aw];rfl
  ·have:=t.JX s F q v p;rw[←List.map_reverse,cS];exact this
  ·rw[H,bu,cY];refine dZ.J7 c (dZ.KM s (m.bit k o).2.1 y J) (c.n+1) _ _ (by rw[ab]) (fun i a K h1 h2=>?_) ?_
   ·rw[ae,h1]at h2;cases h2;exact c.KL k e.1 a
   ·have:=t.depth;rw[c0]
    lia
  ·rw[z]at v;exact dZ.JG v
def iE (H:Hp)(O:List Addr)(H':Hp)(O':List Addr):Prop:=∀x u,H x=some u→ud u→x∉O→H' x=some u∧x∉O'
theorem iE.refl (H:Hp)(O:List Addr):iE H O H O:=fun x u h _ n=>⟨h,n⟩
theorem iE.trans {H1 H2:Hp}{O1 O2:List Addr}(a:iE H O H1 O1)(b:iE H1 O1 H2 O2):iE H O H2 O2:=fun x u h f n=>(by obtain⟨h1,n1⟩:=a x u h f n;exact b x u h1 f n1)
theorem iu.KN {G G' H':Hp}{O':List Addr}(g:iu G H O G' H' O'):iE H O H' O':=fun x u h f n=>⟨g.keep n h (by cases u <;> first | exact fun z=>z | exact f.elim),g.out n h⟩
theorem iE.del {H':Hp}{ys:List Addr}(e:er (del H ys) H')(hy:∀y∈ys,∃u,H y=some u∧¬ud u):iE H O H' O:=fun x u h f n=>by
 have nx:x∉ys:=fun z=>by obtain⟨v,h1,h2⟩:=hy x z;rw[h]at h1;cases h1;exact h2 f
 refine⟨e.no (by rw[el nx];exact h) ?_,n⟩;cases u <;> first | exact fun z=>z | exact f.elim
end FB
namespace FB
open PySem L2 PyProof.Rows
seal lW PS PE PT PA
variable {A:List (Addr×Addr)}{CB CC CF CL CS CT fl:Addr}{F:List Fk}{G G' H H':Hp}{K:W.Frag}{O O':List Addr}{P:Program}{fd:FuncData}{m:Nat}{mg:Str→Option Value}{w:World}
theorem kK.grow {s:Addr}{sd:Sd}(h:kK CT G H s sd)(g:iu G H O G' H' O')(n:s∉O):kK CT G' H' s sd:=
 (by obtain⟨dx,w,h1,h2⟩:=h;exact⟨dx,w,g.keep n h1 fun z=>z,h2.f g.gg⟩)
def lU (CF CT:Addr)(G H:Hp)(c:dZ)(a:Addr×Addr)(fk:Fk):Prop:=(∃dx,H a.1=some (.ins CF dx (tD (.str fk.part) (.ref a.2) (.int (c.Jw fk.bit:Nat)))))∧kK CT G H a.2 fk.sd
structure iM (CF CT:Addr)(G H:Hp)(c:dZ)(fl:Addr)(A:List (Addr×Addr))(F:List Fk):Prop where
 l:H fl=some (.lst (A.map fun a=>V.ref a.1))
 p:Paired (lU CF CT G H c) A F
 offl:G fl=none
 off:∀a∈A,G a.1=none∧G a.2=none
 nd1:(A.map (·.1)).Nodup
 nd2:(A.map (·.2)).Nodup
def yf (O:List Addr)(fl:Addr)(A:List (Addr×Addr)):Prop:=fl∉O∧∀a∈A,a.1∉O∧a.2∉O
theorem iM.grow {c:dZ}(h:iM CF CT G H c fl A F)(g:iu G H O G' H' O')(s:yf O fl A):iM CF CT G' H' c fl A F:=by
 have j:∀a∈A,∃d,lU CF CT G H c a d:=fun a b=>by
  obtain⟨i,hi⟩:=az.mp b;obtain⟨d,_,o⟩:=Paired.Ju h.p hi;exact⟨d,o⟩
 refine⟨g.keep s.1 h.l fun z=>z,?_,g.off h.offl h.l,fun a b=>?_,h.nd1,h.nd2⟩
 ·have:=h.p;have key:∀{A:List (Addr×Addr)} {F:List Fk},(∀a∈A,a.1∉O∧a.2∉O)→Paired (lU CF CT G H c) A F→Paired (lU CF CT G' H' c) A F:=by
   intro A F m hp
   induction hp with
   |nil=>exact .nil
   |cons h1 _ ih=>exact .cons ⟨(by obtain⟨dx,e⟩:=h1.1;exact⟨dx,g.keep (m _ (by simp)).1 e fun z=>z⟩),h1.2.grow g (m _ (by simp)).2⟩ (ih fun a b=>m a (by simp[b]))
  exact key s.2 h.p
 ·obtain⟨d,⟨dx,q⟩,t,w,r,_⟩:=j a b;exact⟨g.off (h.off a b).1 q,g.off (h.off a b).2 r⟩
theorem yf.grow {c:dZ}(h:iM CF CT G H c fl A F)(g:iu G H O G' H' O')(s:yf O fl A):yf O' fl A:=by
 refine⟨g.out s.1 h.l,fun a b=>?_⟩;obtain⟨i,hi⟩:=az.mp b;obtain⟨j,_,⟨dx,d⟩,m,w,e,_⟩:=Paired.Ju h.p hi;exact⟨g.out (s.2 a b).1 d,g.out (s.2 a b).2 e⟩
theorem wn {c:dZ}{k:Pk}(a:k∈c.ks):m &&& c.bit k≠0↔c.has m k:=by
 have b:m &&& c.bit k<2^c.n:=bz Nat.and_le_right (c.JH a)
 constructor
 ·intro h;refine Classical.byContradiction fun z=>h (dZ.JI b fun j d=>z ?_);obtain⟨h1,h2⟩:=dZ.JD.mp d;rw[←(dZ.JF a).mp h2];exact h1
 ·intro h z;have:c.has (m &&& c.bit k) k:=dZ.JD.mpr ⟨h,(dZ.JF a).mpr rfl⟩;rw[z]at this;exact dZ.JG this
theorem jt {c:dZ}{k:Pk}(a:k∈c.ks):(((m &&& c.bit k:Nat):Int) != 0)=decide (c.has m k):=by
 rw[pb];by_cases h:c.has m k
 ·rw[au (wn a |>.mpr h),ao h];rfl
 ·rw[ao (Classical.byContradiction fun z=>h ((wn a).mp z)),au h];rfl
def HX (c:dZ)(F:List Fk)(k:Pk)(m:Nat):Prop:=c.has m k∧∀f∈F,c.has f.sd.dead k→∀j,c.has m j→j=k∨c.has f.sd.picked j
inductive Az (CB CC CL CS CF CT:Addr)(vs:List V)(H:Hp)(Q:VK)(E:XK):Prop
 |mk (G:Hp)(p ch le fl:Addr)(c:dZ)(L:ic)(O:List Addr)(A:List (Addr×Addr))(F:List Fk)(v:V)(k:Pk)(_:vs=[.ref p,v])(_:Se CB CC CS G H p ch le fl c)(_:fT CL G H le ch c L O)(_:gC c L)(_:iM CF CT G H c fl A F)(_:fj G v k)(_:k∈c.ks)(_:pF c F)(_:(∀f∈F,iz c L f.sd))(_:(∃f0∈F,c.has f0.sd.dead k∧¬c.isP f0.sd.picked k.1))(_:F.length≤64)(_:AK CL G H O le ch c L (HX c F k) Q):Az CB CC CL CS CF CT vs H Q E
def lG (CB CC CL CS CF CT:Addr):Sp:=Az CB CC CL CS CF CT
theorem vR {c:dZ}{j k:Pk}(g:j∈c.ks)(d:k∈c.ks)(h:j.1=k.1→j=k):c.JR (c.bit j ||| c.bit k):=by
 intro a b i l e;rcases dZ.JC.mp i with x | x <;> rcases dZ.JC.mp l with y | y
 ·rw[(dZ.JF g).mp x,(dZ.JF g).mp y]
 ·rw[(dZ.JF g).mp x,(dZ.JF d).mp y]at e ⊢;exact h e
 ·rw[(dZ.JF d).mp x,(dZ.JF g).mp y]at e ⊢;exact(h e.symm).symm
 ·rw[(dZ.JF d).mp x,(dZ.JF d).mp y]
theorem BL {c:dZ}{k:Pk}(d:k∈c.ks):c.JR (0 ||| c.bit k):=by
 intro a b g e _;rw[Nat.zero_or]at g e;rw[(dZ.JF d).mp g,(dZ.JF d).mp e]
theorem FM:(["fork","bit"]:List Str).Nodup:=by decide +kernel
section
variable {base:Heap}{f:Addr}
theorem Bt:eG ["self","pick","bit","stand","foes"] ["self","pick"] (eA uD):=i8
theorem BU (F:iL K "line_against" "Search.line_against" uD f fd)(T:sr K mg CS)(J:TC K mg CC)(TT:Cv K mg CT)(TF:AH K mg CF)(MO:Mt P w K mg base CS eZ 3 "outside" ["self","who","pick"] (lZ CB CC CL CS))(ML:Mt P w K mg base CC eZ 1 "listed" ["self","mask"] (iX CC))(MA:Mt P w K mg base CL eZ 1 "place_against" ["self","pick","picked"] (nZ CB CC CL)):fb P w K mg base eZ 4 f fd ["self","pick"] (lG CB CC CL CS CF CT):=by
 refine F.ok Bt (fun vs H Q E h=>?_) (fun cdv A outer s H vs Q E hr h=>?_)
 ·obtain⟨G,p,ch,le,fl,c,L,O,AA,FF,v,k,rfl,_⟩:=h;rfl
 obtain⟨G,p,ch,le,fl,c,L,O,AA,FF,v,k,rfl,M,hL,I,hF,hv,o,a7,bm,⟨f0,b2,b1,dc⟩,dv,q⟩:=h;have hu:=gc hr;refine⟨_,(dX (eF (i:=2) Bt.nd rfl (Or.inr rfl) (eV hu (eD J.cl J.nBits (eD T.cl T.nCh (pv 0))) (pv 1) (fun _ _=>rfl))) (dX (eF (i:=3) Bt.nd rfl (Or.inl rfl) (eO fE (ik (N':=["fork","bit"]) (n:=1) (js:=[2]) rfl (ib.one (c:=s.heap.objs.size+1) (y:="bit") rfl rfl (by decide +kernel) rfl (by decide +kernel) (by decide +kernel) rfl rfl rfl rfl rfl) (gF (by decide)) (fh (eD T.cl T.nFo (pv 0))) (fun C s2 H2 fp=>eK (i:=0) FM rfl (Or.inl rfl)) (fun C s2 H2 fp=>nE (uJ (eW gM (eD TT.cl TT.nDe (eD TF.cl TF.nSt (pv 0))) (pv 1)) (fun _=>rfl))) (fun C s2 H2 fp=>eD TF.cl TF.nSt (pv 0))) ef (fun _ _=>rfl))) (dX (gj (iw (eW gM (eV hu (eD J.cl J.nFo (eD T.cl T.nCh (pv 0))) iO (fun _ _=>rfl)) (pv 2)) (fun _=>rfl)) (eg (eR (gY MO hr eP (pv 0) (dU iO (dU (pv 1) ee))))) ff) (dX (eF (i:=4) Bt.nd rfl (Or.inl rfl) (gY ML (hr.mono (by decide)) eP (eD T.cl T.nCh (pv 0)) (dU (eW gM (eV hu (eD J.cl J.nFo (eD T.cl T.nCh (pv 0))) (pv 1) (fun _ _=>rfl)) (eW qf (eD TT.cl TT.nPi (pv 3)) (pv 2))) ee))) (dX (gj (jw (iw (pv 4) (fun _=>rfl))) (eg (eR (gY MA (hr.mono (by decide)) eP (eD T.cl T.nLe (pv 0)) (dU (pv 1) (dU (eD TT.cl TT.nPi (pv 3)) ee))))) ff) (dX (gj (iw (eW gM (eV hu (eD J.cl J.nSh (eD T.cl T.nCh (pv 0))) (eO fE (pv 4) ef (fun _ _=>rfl)) (fun _ _=>rfl)) (pv 2)) (fun _=>rfl)) (eg (eR (gY MO hr eP (pv 0) (dU (eO fE (pv 4) ef (fun _ _=>rfl)) (dU (pv 1) ee))))) ff) (eg (eR (gY MO hr eP (pv 0) (dU (pv 1) (dU (eO fE (pv 4) ef (fun _ _=>rfl)) ee))))))))))),?_⟩;obtain⟨dx,hp⟩:=M.self;have t:=M.gh.ins hp;obtain⟨cx,b,bits,dn,dy,al,sh,fo,st,c1,c2,c3,c4,c5,c6,c7,c8,c9⟩:=(M.chart.f M.gh).ex;have a9:fj H v k:=fj.f M.gh hv;have lA:AA.length=FF.length:=Paired.length hF.p;refine⟨_,rfl,p,dx,_,_,rfl,t,(by kernel_rfl),ch,cx,_,_,rfl,c1,(by kernel_rfl),_,rfl,bits,_,rfl,c4.get (w:=some k) (fW o) a9,?_⟩;refine⟨_,rfl,p,dx,_,_,rfl,t,(by kernel_rfl),fl,rfl,⟨_,eX.of hF.l⟩,?_⟩;refine gy (xs:=AA.map fun a=>V.ref a.1) (fun D i ys H7=>H7 D=some (.lst ys)∧eB H H7∧H D=none∧ys.length≤i∧((ys=[]∧∀N<i,∀f:Fk,FF[N]?=some f→¬c.has f.sd.dead k)∨∃(i0:Nat) (a:Addr) (g:Fk) (rest:List V),ys=.ref a::rest∧FF[i0]?=some g∧kK CT G H a g.sd∧c.has g.sd.dead k∧∀N<i0,∀f:Fk,FF[N]?=some f→¬c.has f.sd.dead k))
  (fun D hD=>⟨dW,eo hD _,hD,aq _,.inl ⟨rfl,fun N x=>absurd x (bZ _)⟩⟩) (fun D i ys H7 hi ⟨e1,r,e3,e4,_⟩=>⟨eX.of (r _ _ hF.l),e1,?_⟩) (fun D i y ys H7 hi ⟨e1,r,e3,e4,e5⟩=>?_) (fun D ys H7 ⟨e1,r,e3,e4,e5⟩=>?_)
 ·rw[ab]at hi;exact eE (by lia)
 ·rw[ae]at hi;obtain⟨a,ha,rfl⟩:=ax.mp hi;obtain⟨fk,bx,⟨fx,bf⟩,aa⟩:=Paired.Ju hF.p ha;obtain⟨sx,wa,ag,da⟩:=id aa;unfold iJ;refine⟨_,rfl,a.1,fx,_,V.ref a.2,rfl,r _ _ bf,(by kernel_rfl),a.2,sx,_,V.int (fk.sd.dead:Nat),rfl,r _ _ ag,(by kernel_rfl),_,rfl,_,_,rfl,rfl,_,rfl,?_⟩;rw[mw,show c.Jw (some k)=c.bit k from rfl,jt o];by_cases hd:c.has fk.sd.dead k
  ·rw[ao hd];refine ir ⟨_,rfl,a.1,fx,_,V.ref a.2,rfl,r _ _ bf,(by kernel_rfl),e1,dW,eB.upd r e3,e3,by rw[aE,aR];lia,.inr ?_⟩;rcases e5 with ⟨z1,z2⟩ | ⟨i0,a0,g,rest,z1,z2⟩
   ·subst z1;exact⟨i,a.2,fk,[],rfl,bx,aa,hd,z2⟩
   ·exact⟨i0,a0,g,rest++[.ref a.2],by rw[z1];rfl,z2⟩
  ·rw[au hd];refine gv ⟨e1,r,e3,by lia,?_⟩;rcases e5 with ⟨z1,z2⟩ | z
   ·refine .inl ⟨z1,fun N x f hf=>?_⟩;rcases de N i with y | y
    ·exact z2 N y f hf
    ·have:N=i:=by lia
     rw[this,bx]at hf;cases hf;exact hd
   ·exact .inr z
 ·rw[ab]at e5;have b3:¬(ys=[]∧∀N<AA.length,∀f,FF[N]?=some f→¬c.has f.sd.dead k):=fun⟨_,z⟩=>by
   obtain⟨N,x⟩:=az.mp b2;exact z N (by rw[lA];exact(af.mp x).1) f0 x b1
  obtain⟨i0,sa,g,rest,rfl,hg,aa,bl,ad⟩:=e5.resolve_left b3;have bq:=aj hg;have a2:∀f∈FF,c.has f.sd.dead k→∀j,c.has g.sd.picked j→c.has f.sd.picked j:=fun f hf a5=>by
   obtain⟨N,x⟩:=az.mp hf;exact a7 i0 N g f (Nat.le_of_not_lt fun z=>ad N z f x a5) hg x
  have co:¬c.isP g.sd.picked k.1:=(by rintro⟨j,h1,h2⟩;exact dc ⟨j,a2 f0 b2 b1 j h1,h2⟩);have a6:∀m,c.has m k→(∀j,c.has m j→j=k∨c.has g.sd.picked j)→HX c FF k m:=fun m h1 h2=>⟨h1,fun f hf a5 j R=>(h2 j R).imp id (a2 f hf a5 j)⟩;obtain⟨sx,wa,ag,da⟩:=id aa;have g7:er G H7:=M.gh.trans r.toF;have cv:=M.same r;have cp:=hL.same r;have GW:=iu.same (O:=O) M.gh r;refine⟨D,_,_,V.ref sa,rfl,rfl,eX.of e1,lS,?_⟩;refine⟨_,rfl,p,dx,_,_,rfl,r _ _ t,(by kernel_rfl),ch,cx,_,_,rfl,r _ _ c1,(by kernel_rfl),fo,_,rfl,(c9.same r).get (w:=none) iW rfl,_,rfl,_,_,rfl,rfl,_,rfl,?_⟩;dsimp only;rw[mw,show c.Jw (some k)=c.bit k from rfl,jt o];by_cases hns:c.has (c.Kf none) k
  ·rw[ao hns];refine ir ⟨_,rfl,p,dx,_,rfl,r _ _ t,(by kernel_rfl),_,rfl,G,p,ch,le,fl,c,L,O,_,v,none,k,rfl,cv,cp,I,iW,rfl,hv,o,(dZ.Kh.mp hns).2,BL o,?_⟩;intro G' H' O' L' j e gw hl B hx R hm Y;refine q G' H' O' L' j e (GW.trans gw) hl B hx R ?_ Y;have U:e.1=0 ||| c.bit k:=hm;rw[U,Nat.zero_or];exact a6 _ ((dZ.JF o).mpr rfl) fun j R=>.inl ((dZ.JF o).mp R)
  ·rw[au hns];refine gv ?_;have b9:c.Kf (some k) &&& (g.sd.picked ||| c.bit k)<2^c.n:=mx (c.Kj _);have dd:=M.chart;obtain⟨gx,gb,ct,b7,ds,d7,dp,d8,dl,d1,d2,d3,d4,d5,d6⟩:=dd.ex;refine⟨_,rfl,p,dx,_,V.ref ch,rfl,r _ _ t,(by kernel_rfl),ch,gx,_,rfl,g7.ins d1,(by kernel_rfl),_,rfl,p,dx,_,_,rfl,r _ _ t,(by kernel_rfl),ch,cx,_,_,rfl,r _ _ c1,(by kernel_rfl),_,rfl,fo,_,rfl,(c9.same r).get (w:=some k) (fW o) (fj.same r a9),_,rfl,sa,sx,_,V.int (g.sd.picked:Nat),rfl,r _ _ ag,(by kernel_rfl),_,rfl,_,_,rfl,rfl,_,_,rfl,rfl,?_⟩;dsimp only;rw[wg,mw];refine⟨G,ch,gx,b7,_,c,_,rfl,g7,g7.ins d1,(by kernel_rfl),d5,M.n,b9,fun l xs H8 s8 df Z a8 cy=>?_⟩;have d:=r.trans s8;have g8:er G H8:=M.gh.trans d.toF;have bd:=M.same d;have an:=hL.same d;have a3:=iu.same (O:=O) M.gh d;refine⟨_,rfl,_,.inl ⟨xs,eX.of Z,rfl⟩,?_⟩;have lx:=Paired.length a8;cases hxs:c.listed (c.Kf (some k) &&& (g.sd.picked ||| c.bit k)) with
   |nil=>
    rw[hxs]at lx;have:xs=[]:=bH.mp lx;subst this;refine ir ?_;have ap:∀j,c.foe k j→(j=k∨c.has g.sd.picked j)→j∈c.ks→False:=fun j h1 h2 h3=>by
     have:j∈c.listed (c.Kf (some k) &&& (g.sd.picked ||| c.bit k)):=dZ.JB.mpr (dZ.JD.mpr ⟨dZ.Ki.mpr ⟨h3,h1⟩,dZ.JC.mpr (h2.elim (fun z=>.inr ((dZ.JF o).mpr z)) .inl)⟩);rw[hxs]at this;cases this
    have cs:c.JS L g.sd.picked k:=by
     rcases (bm g bq).just k bl with z | z | ⟨j,z1,z2⟩ | z
     ·exact absurd (dZ.Kh.mpr ⟨o,z⟩) hns
     ·exact(ap k z (.inl rfl) o).elim
     ·exact(ap j z2 (.inr z1) z1.1).elim
     ·exact z
    obtain⟨b8,ma,re,pm,pp,dr,rs,Ol,hO,cn,b5⟩:=id hL.ex;refine⟨_,rfl,p,dx,_,V.ref le,rfl,d _ _ t,(by kernel_rfl),le,b8,_,rfl,d _ _ (M.gh.ins cn),(by kernel_rfl),_,rfl,_,rfl,sa,sx,_,V.int (g.sd.picked:Nat),rfl,d _ _ ag,(by kernel_rfl),G,le,ch,c,L,O,v,k,g.sd.picked,rfl,g8,M.chart,an,fj.same d a9,o,fun H' j e s' R he=>?_,fun b6=>?_⟩
    ·refine q G H' O L j e (a3.trans (iu.same g8 s')) (an.same s') I ⟨[],by simp⟩ R ?_ .inl;have h1:c.has (hZ e.1 g.sd.picked) k:=by rw[he];exact(dZ.JF o).mpr rfl
     refine a6 _ (dZ.JE.mp h1).1 fun j' cz=>?_;by_cases ah:c.has g.sd.picked j'
     ·exact .inr ah
     ·have:c.has (hZ e.1 g.sd.picked) j':=dZ.JE.mpr ⟨cz,ah⟩;rw[he]at this;exact .inl ((dZ.JF o).mp this)
    ·obtain⟨e,he,h1,h2⟩:=cs;exact absurd (uV o (I.lt e he) h1 h2 ((bm g bq).off k bl)) (b6 e he h1)
   |cons j0 js=>
    rw[hxs]at lx;obtain⟨x0,xr,rfl⟩:∃x0 xr,xs=x0::xr:=by
     cases xs with
     |nil=>simp at lx
     |cons a b=>exact⟨a,b,rfl⟩
    rw[hxs]at a8;have a4:fj G x0 j0:=by cases a8 with | cons h _=>exact h
    have b4:j0∈c.listed (c.Kf (some k) &&& (g.sd.picked ||| c.bit k)):=by rw[hxs];exact bh
    obtain⟨cd,ah⟩:=dZ.JD.mp (dZ.JB.mp b4);obtain⟨S,bv⟩:=dZ.Ki.mp cd;have a1:j0=k∨c.has g.sd.picked j0:=(dZ.JC.mp ah).elim .inr fun z=>.inl ((dZ.JF o).mp z);have X:j0.1=k.1→j0=k:=fun e=>a1.resolve_right fun z=>co ⟨j0,z,e⟩;have as:HX c FF k (c.bit j0 ||| c.bit k):=a6 _ (dZ.JC.mpr (.inr ((dZ.JF o).mpr rfl))) fun j R=>(dZ.JC.mp R).elim (fun z=>by rw[(dZ.JF S).mp z];exact a1) fun z=>.inl ((dZ.JF o).mp z);refine gv ?_;refine⟨_,rfl,p,dx,_,_,rfl,d _ _ t,(by kernel_rfl),ch,cx,_,_,rfl,d _ _ c1,(by kernel_rfl),_,rfl,l,_,_,x0,rfl,rfl,eX.of Z,lS,sh,_,rfl,(c8.same d).get (w:=some j0) (fW S) (fj.f g8 a4),_,rfl,_,_,rfl,rfl,_,rfl,?_⟩;dsimp only;rw[mw,jt o];by_cases hsj:c.has (c.Ke (some j0)) k
    ·rw[ao hsj];refine ir ⟨_,rfl,p,dx,_,rfl,d _ _ t,(by kernel_rfl),_,rfl,l,_,_,x0,rfl,rfl,eX.of Z,lS,_,rfl,G,p,ch,le,fl,c,L,O,_,v,some j0,k,rfl,bd,an,I,fW S,a4,hv,o,(dZ.Kh.mp hsj).2,vR S o X,?_⟩;intro G' H' O' L' j e gw hl B hx R hm Y;refine q G' H' O' L' j e (a3.trans gw) hl B hx R ?_ Y;have U:e.1=c.bit j0 ||| c.bit k:=hm;rw[U];exact as
    ·rw[au hsj];refine gv ⟨_,rfl,p,dx,_,rfl,d _ _ t,(by kernel_rfl),_,rfl,_,rfl,l,_,_,x0,rfl,rfl,eX.of Z,lS,G,p,ch,le,fl,c,L,O,v,x0,some k,j0,rfl,bd,an,I,fW o,hv,a4,S,?_,vR o S (fun e=>(X e.symm).symm),?_⟩
     ·rcases bv with z | z
      ·exact z
      ·exact absurd (dZ.Kh.mpr ⟨o,z⟩) hsj
     intro G' H' O' L' j e gw hl B hx R hm Y;refine q G' H' O' L' j e (a3.trans gw) hl B hx R ?_ Y;have U:e.1=c.bit k ||| c.bit j0:=hm;rw[U,Nat.or_comm];exact as
end
def Gp (c:dZ)(L:ic)(kvs:List (fZ×V)):Option (Pk×Nat×Nat)→Prop
 |none=>kvs=[]
 |some (k0,j0,m0)=>k0∈c.ks∧kvs=[(Sum.inl (c.bit k0:Int),V.int (j0:Nat))]∧∃e,L[j0]?=some e∧e.1=m0
def HS (c:dZ)(fk:Fk)(kn:Option (Pk×Nat×Nat))(m:Nat):Prop:=∀j,c.has m j→c.has fk.sd.picked j∨∃k0 j0 m0,kn=some (k0,j0,m0)∧c.has m0 j∧j≠k0
inductive CZ (CB CC CL CS CF CT:Addr)(vs:List V)(H:Hp)(Q:VK)(E:XK):Prop
 |mk (G:Hp)(p ch le fl:Addr)(c:dZ)(L:ic)(O:List Addr)(A:List (Addr×Addr))(F:List Fk)(i:Nat)(a:Addr×Addr)(fk:Fk)(kd:Addr)(kvs:List (fZ×V))(kn:Option (Pk×Nat×Nat))(_:vs=[.ref p,.ref a.1,.ref kd])(_:Se CB CC CS G H p ch le fl c)(_:fT CL G H le ch c L O)(_:gC c L)(_:iM CF CT G H c fl A F)(_:yf O fl A)(_:pF c F)(_:(∀f∈F,iz c L f.sd))(_:F.length≤64)(_:A[i]?=some a)(_:F[i]?=some fk)(_:fk.part∈fk.sd.wanted.map (·.1))(_:Rd H kd (.dK kvs))(_:kd∉O)(_:Gp c L kvs kn)(_:(∀k∈c.ks,k.1=fk.part→c.has fk.sd.dead k∨∃j0 m0,kn=some (k,j0,m0)))(_:(∀m,HS c fk kn m→c.JR m))(_:AK CL G H O le ch c L (HS c fk kn) Q):CZ CB CC CL CS CF CT vs H Q E
def qJ (CB CC CL CS CF CT:Addr):Sp:=CZ CB CC CL CS CF CT
theorem Ed {c:dZ}{L:ic}{kvs:List (fZ×V)}{kn:Option (Pk×Nat×Nat)}(h:Gp c L kvs kn){k:Pk}(a:k∈c.ks):(eN kvs (Sum.inl (c.bit k:Int))=none∧∀j0 m0,kn≠some (k,j0,m0))∨∃(j0 m0:Nat) (e:Nat×Rs),kn=some (k,j0,m0)∧eN kvs (Sum.inl (c.bit k:Int))=some (.int (j0:Nat))∧L[j0]?=some e∧e.1=m0:=by
 match kn,h with
 |none,h=>exact .inl ⟨by rw[show kvs=[] from h];rfl,fun _ _ z=>nomatch z⟩
 |some (k0,j0,m0),⟨h1,h2,e,h3,h4⟩=>
  by_cases z:k=k0
  ·subst z;refine .inr ⟨j0,m0,e,rfl,?_,h3,h4⟩;rw[h2];exact fX rfl
  ·refine .inl ⟨?_,fun _ _ y=>z (by cases y;rfl)⟩;rw[h2];unfold eN;rw[bi,au]
   ·rfl
   ·intro y;have d:=Sum.inl.inj y;have:c.bit k0=c.bit k:=by lia
    refine z ?_;have b:c.has (c.bit k0) k:=by rw[this];exact(dZ.JF a).mpr rfl
    exact(dZ.JF h1).mp b
theorem vT {α:Type} [DecidableEq α] {β:Type}{f:β→α}{l:List β}{x:α}(h:x∈l.map f):∃y,l[(l.map f).idxOf x]?=some y∧f y=x:=by
 have a:=br.mpr h;have b:=cm a;rw[List.getElem_map]at b;exact⟨_,am _,b⟩
section
variable {base:Heap}{f:Addr}
theorem jY:eG ["self","fork","known","who","place","need","mask","below","version","pick","bit","at"] ["self","fork","known"] (eA yL):=i8
theorem BP (F:iL K "shut" "Search.shut" yL f fd)(T:sr K mg CS)(S:TC K mg CC)(ev:TL K mg CL)(f0:TB K mg CB)(TT:Cv K mg CT)(TF:AH K mg CF)(MN:Mt P w K mg base CS eZ 1 "place_of_need" ["self","who","part"] (lF CB CC CS))(MM:Mt P w K mg base CB eZ 2 "meeting" ["self","need"] (jC CB))(MA:Mt P w K mg base CS eZ 4 "line_against" ["self","pick"] (lG CB CC CL CS CF CT))(MP:Mt P w K mg base CL eZ 2 "put_down" ["self","mask","reason"] (vJ CB CC CL)):fb P w K mg base eZ 5 f fd ["self","fork","known"] (qJ CB CC CL CS CF CT):=by
 refine F.ok jY (fun vs H Q E h=>?_) (fun cdv A outer s H vs Q E hr h=>?_)
 ·obtain⟨G,p,ch,le,fl,c,L,O,AA,FF,i,a,d,U,kvs,kn,rfl,_⟩:=h;rfl
 obtain⟨G,p,ch,le,fl,c,L,O,AA,FF,i,a,d,U,kvs,kn,rfl,M,hL,fa,hF,b6,eb,f2,i1,et,df,ea,hn,f1,h7,b7,eq,q⟩:=h;have hu:=gc hr;refine⟨_,(dX (eF (i:=3) jY.nd rfl (Or.inl rfl) (fL hu (eD TT.cl TT.nWa (eD TF.cl TF.nSt (pv 1))) (eD TF.cl TF.nPa (pv 1)) (fun _ _=>rfl))) (dX (eF (i:=4) jY.nd rfl (Or.inl rfl) (gY MN (hr.mono (by decide)) eP (pv 0) (dU (pv 3) (dU (eD TF.cl TF.nPa (pv 1)) ee)))) (dX (eF (i:=5) jY.nd rfl (Or.inl rfl) (eO fE (eV hu (eD f0.cl f0.nN (eD S.cl S.nBoard (eD T.cl T.nCh (pv 0)))) (pv 3) (fun _ _=>rfl)) (pv 4) (fun _ _=>rfl))) (dX (eF (i:=6) jY.nd rfl (Or.inl rfl) (eV hu (eD S.cl S.nBits (eD T.cl T.nCh (pv 0))) (pv 3) (fun _ _=>rfl))) (dX (eF (i:=7) jY.nd rfl (Or.inl rfl) (gf ee)) (dX (fN PassesOwn.never rfl (fh (gY MM (hr.mono (by decide)) eP (eD S.cl S.nBoard (eD T.cl T.nCh (pv 0))) (dU (pv 5) ee))) (eK (i:=8) jY.nd rfl (Or.inl rfl)) (dX (eF (i:=9) jY.nd rfl (Or.inl rfl) (ge (dU (eD TF.cl TF.nPa (pv 1)) (dU (pv 8) ee)))) (dX (eF (i:=10) jY.nd rfl (Or.inl rfl) (eV hu (eD S.cl S.nBits (eD T.cl T.nCh (pv 0))) (pv 9) (fun _ _=>rfl))) (dX (eF (i:=11) jY.nd rfl (Or.inl rfl) (zd (iN (rL hu (pv 10) (pv 2))) (fL hu (pv 2) (pv 10) (fun _ _=>rfl)) (gY MA hr eP (pv 0) (dU (pv 9) ee)))) (dX (fU (je PySem.F.plainAttrs_list PySem.F.slot_list_append PySem.F.type_list_append gq (pv 7) (dU (pv 11) ee))) (eg (jO (i:=6) jY.nd rfl (Or.inl rfl) (eW gM (eO fE (eD ev.cl ev.nMa (eD T.cl T.nLe (pv 0))) (pv 11) (fun _ _=>rfl)) (iY jW (pv 10))) sZ))))))) (eg (eR (gY MP (hr.mono (by decide)) eP (eD T.cl T.nLe (pv 0)) (dU (pv 6) (dU (ge (dU gX (dU (pv 3) (dU (pv 4) (dU (pv 7) ee))))) ee))))))))))),?_⟩;obtain⟨dx,hp⟩:=M.self;have hy:=M.gh.ins hp;have bd:=aj df;have em:=f2 d bd;obtain⟨⟨fx,hfa⟩,sx,wa,hsa,wo,wkvs,hwa,hwp⟩:lU CF CT G H c a d:=by
  obtain⟨h0,h1,h2⟩:=Paired.Ju hF.p et;rw[df]at h1;cases h1;exact h2
 obtain⟨wv,u,e6,e8,an⟩:=nu hwp ea;obtain⟨j2,fu,ft⟩:=em.w1 d.part u e8;have I:c.Who u:=fun k e=>by subst e;exact fu.1
 refine⟨_,rfl,a.1,fx,_,V.ref a.2,rfl,hfa,(by kernel_rfl),a.2,sx,_,V.ref wa,rfl,hsa,(by kernel_rfl),_,rfl,a.1,fx,_,V.str d.part,rfl,hfa,(by kernel_rfl),wa,_,rfl,.inl ⟨wkvs,Sum.inr d.part,.inr ⟨wo,M.gh.frz hwa⟩,rfl,e6.symm⟩,?_⟩;refine⟨_,rfl,p,dx,_,rfl,hy,(by kernel_rfl),_,rfl,_,rfl,a.1,fx,_,V.str d.part,rfl,hfa,(by kernel_rfl),G,p,ch,le,fl,c,wv,u,d.part,rfl,M,I,an.f M.gh,ft,fun H1 s1=>?_⟩;obtain⟨n,fp,gk⟩:=vT ft;generalize ko:((c.needs u).map (·.1)).idxOf d.part=pl at *;have g1:er G H1:=M.gh.trans s1.toF;obtain⟨cx,b,bits,kk,k3,al,sh,fo,st,c1,c2,c3,c4,c5,c6,c7,c8,c9⟩:=(M.chart.f g1).ex;obtain⟨bx,dn,dv,gn,hd⟩:=i6 c2 c3;obtain⟨na,g6,zs,hz,gb⟩:=hd u wv I (an.f g1);have lz:=Paired.length gb;obtain⟨zv,h8,ih⟩:=mi gb (show jx (c.needs u) (pl:Int)=some n by rw[iI];exact fp);have js:vp zs (pl:Int)=some zv:=nH h8;have ct:=g1.ins hp;refine⟨_,rfl,p,dx,_,_,rfl,ct,(by kernel_rfl),ch,cx,_,_,rfl,c1,(by kernel_rfl),b,bx,_,_,rfl,gn,gm _ _,_,rfl,dn,_,rfl,g6,_,rfl,na,_,_,zv,rfl,rfl,eX.of hz,js,?_⟩;refine⟨_,rfl,p,dx,_,_,rfl,ct,(by kernel_rfl),ch,cx,_,_,rfl,c1,(by kernel_rfl),_,rfl,bits,_,rfl,c4.get I (an.f g1),?_⟩;refine⟨(by show 0≤sizeLine;decide),fun g J=>?_⟩;have s2:=eo J (.lst []);have b9:upd H1 g (.lst []) g=some (.lst []):=dW;generalize upd H1 g (.lst [])=H2 at *;have ec:=s1.trans s2;have g2:er G H2:=M.gh.trans ec.toF;refine⟨_,rfl,p,dx,_,_,rfl,s2 _ _ ct,(by kernel_rfl),ch,cx,_,V.ref b,rfl,s2 _ _ c1,(by kernel_rfl),b,bx,_,rfl,s2 _ _ gn,pC _ _ (by decide +kernel) (by decide +kernel),_,rfl,b,st,c.es,_,n,rfl,c2.same s2,fA.same s2 ih,by rw[←c.n_eq];exact M.n,fun l ms H3 s3 hl go gx i3=>?_⟩;have gd:=sT gx i3;subst gd;have N:H g=none:=s1.free J;have ei:=ec.trans s3;have ga:l≠g:=fun z=>by rw[z,b9]at hl;cases hl
 have hg:l∉O:=fun z=>by obtain⟨v,hv⟩:=hL.liv l z;rw[ec _ _ hv]at hl;cases hl
 have f6:g∉O:=fun z=>by obtain⟨v,hv⟩:=hL.liv g z;rw[N]at hv;cases hv
 refine⟨l,rfl,⟨_,eX.of go⟩,?_⟩;refine fR (K:=K) (a:=l) (xs:=(jy c.es n).map V.int) (fun t σ H4=>∃(G':Hp) (O':List Addr) (L':ic) (bs:List Nat) (m:Nat) (o8 o9 cz da:Option V),σ=[some (.ref p),some (.ref a.1),some (.ref U),some wv,some (.int (pl:Nat)),some zv,some (.int (m:Nat)),some (.ref g),o8,o9,cz,da]∧iu G H O G' H4 O'∧fT CL G' H4 le ch c L' O'∧gC c L'∧(∃X,L'=L++X)∧(NZ L→NZ L')∧iM CF CT G' H4 c fl AA FF∧yf O' fl AA∧H4 g=some (.lst (gz bs))∧g∉O'∧G' g=none∧H4 l=some (.lst ((jy c.es n).map V.int))∧l∉O'∧Rd H4 U (.dK kvs)∧U∉O'∧bs.length=t∧(∀(j b:Nat) (v:Int),bs[j]?=some b→(jy c.es n)[j]?=some v→∃e,L'[b]?=some e∧∀x,c.has e.1 x→x=(n.1,v)∨c.has m x)∧m<2^c.n∧HS c d kn m∧c.JQ m u) ?_ ((by rintro t σ H4 _ ⟨_,_,_,_,_,_,_,_,_,_,_,_,_,_,_,_,_,_,_,_,e,_⟩;exact eX.of e)) ?_ ?_
 ·have GW:=iu.same (O:=O) M.gh ei;have b1:∀j,c.has (c.Jw u) j→c.has d.sd.picked j:=fun j hj=>by
   have:=(dZ.Kl I).mp hj;subst this;exact fu
  refine⟨G,O,L,[],c.Jw u,none,none,none,none,rfl,GW,hL.same ei,fa,⟨[],by simp⟩,id,hF.grow GW b6,b6,s3 _ _ b9,f6,M.gh.free N,go,hg,hU ei hn,f1,rfl,fun j b v h=>by simp at h,dZ.Kk I,fun j hj=>.inl (b1 j hj),?_⟩;cases u with
  |none=>trivial
  |some k=>exact(dZ.Kl I).mpr rfl
 ·rintro t x σ H4 ht ⟨G4,O4,L4,bs,m,o8,o9,cz,da,rfl,gw,a3,r,a1,ah,cy,B,R,ad,a5,e1,ed,cp,a8,J,cs,ap,bf,dc⟩;rw[ae]at ht;obtain⟨v,hv,rfl⟩:=ax.mp ht;have g7:=aj hv;obtain⟨⟨fx4,hfa4⟩,hst4⟩:lU CF CT G4 H4 c a d:=by
   obtain⟨h0,h1,h2⟩:=Paired.Ju cy.p et;rw[df]at h1;cases h1;exact h2
  have hk:(d.part,v)∈c.ks:=(c.mem _).mpr (by rw[←gk];exact(rR.mp g7).1);refine⟨_,rfl,a.1,fx4,_,V.str d.part,rfl,hfa4,(by kernel_rfl),_,rfl,(by show 2≤sizeLine;decide),fun tp bm=>?_⟩;have ep:g≠tp:=d0 R bm;have b4:=gw.trans (iu.put (O:=O4) (u:=.tup [.str d.part,.int v]) gw.gh bm);have b3:=a3.put gw.gh (u:=.tup [.str d.part,.int v]) bm;have f4:=iu.put (O:=O4) (u:=.tup [.str d.part,.int v]) gw.gh bm;have bv:=cy.grow f4 B;have d7:=eo bm (.tup [.str d.part,.int v]);have ez:fj (upd G4 tp (.tup [.str d.part,.int v])) (.ref tp) (d.part,v):=⟨tp,rfl,dW⟩;have ew:upd G4 tp (.tup [.str d.part,.int v]) g=none:=by rw[dY ep];exact a5
  generalize upd G4 tp (.tup [.str d.part,.int v])=G5 at *;generalize upd H4 tp (.tup [.str d.part,.int v])=H5 at *;have a0:Se CB CC CS G5 H5 p ch le fl c:=M.grow b4.gg b4.gh;have e7:=a0.gh.ins (b4.gg.ins hp);obtain⟨ho,b5,dp,kl,kq,k2,k8,kp,kh,d1,d2,d3,d4,d5,d6⟩:=(a0.chart.f a0.gh).ex;refine⟨_,rfl,p,dx,_,_,rfl,e7,(by kernel_rfl),ch,ho,_,_,rfl,d1,(by kernel_rfl),_,rfl,dp,_,rfl,d4.get (w:=some (d.part,v)) (fW hk) (fj.f a0.gh ez),?_⟩;have e5:∀f∈FF,iz c L4 f.sd:=fun f hf=>(f2 f hf).led fun e he=>by obtain⟨X,hX⟩:=a1;rw[hX];exact aJ _ he
  have a9:=a8;have d9:Rd H5 U (.dK kvs):=hU d7 cp;have bq:=d7 _ _ R;have ey:=d7 _ _ e1;have key:∀(Q':VK) (σ:L2.St),σ[0]?=some (some (.ref p))→σ[2]?=some (some (.ref U))→σ[9]?=some (some (.ref tp))→σ[10]?=some (some (.int (c.Jw (some (d.part,v)):Nat)))→
    (∀(G' H':Hp) (O':List Addr) (L':ic) (j:Nat) (e:Nat×Rs),iu G5 H5 O4 G' H' O'→fT CL G' H' le ch c L' O'→gC c L'→(∃X,L'=L4++X)→L'[j]?=some e→(∀x,c.has e.1 x→x=(d.part,v)∨c.has d.sd.picked x∨∃k0 j0 m0,kn=some (k0,j0,m0)∧c.has m0 x∧x≠k0)→(NZ L4→NZ L')→Q' (.int (j:Nat)) H')→
    Ie (tB (Fb (mU 10) (mU 2))) (CA (mU 2) (mU 10)) (sw CS ("line_against" : Str) (lG CB CC CL CS CF CT) [] E0 (mU 0) (pZ (mU 9) wW)) σ H5 Q':=by
   intro Q' σ e0 e2 e9 e4 hq;have d8:hJ H5 U (.int (c.Jw (some (d.part,v)):Nat)) (eN kvs (Sum.inl (c.bit (d.part,v):Int))):=.inl ⟨kvs,Sum.inl (c.bit (d.part,v):Int),d9,rfl,rfl⟩;refine⟨_,e4,_,e2,U,_,rfl,d8,_,rfl,?_⟩;rcases Ed h7 hk with ⟨z1,z2⟩ | ⟨j0,m0,e,z1,z2,z3,z4⟩
   ·rw[z1];refine gv ⟨_,e0,p,dx,_,rfl,e7,(by kernel_rfl),_,e9,G5,p,ch,le,fl,c,L4,O4,AA,FF,.ref tp,(d.part,v),rfl,a0,b3,r,bv,ez,hk,eb,e5,⟨d,bd,(b7 _ hk rfl).resolve_right (by rintro⟨j0,m0,z⟩;exact z2 j0 m0 z),j2⟩,i1,?_⟩;intro G' H' O' L' j e it ka dy j1 h4 b8 fv;refine hq G' H' O' L' j e it ka dy j1 h4 (fun x Z=>?_) (fun z=>?_)
    ·exact(b8.2 d bd ((b7 _ hk rfl).resolve_right (by rintro⟨j0,m0,z⟩;exact z2 j0 m0 z)) x Z).imp id .inl
    ·rcases fv z with y | ⟨y,_⟩
     ·exact y
     ·have:=b8.1;rw[y]at this;exact(dZ.JG this).elim
   ·rw[z2]at d8 ⊢;refine ir ⟨_,e2,_,e4,U,_,rfl,d8,?_⟩;obtain⟨X,hX⟩:=a1;have jn:L4[j0]?=some e:=by rw[hX,aK (af.mp z3).1];exact z3
    refine hq G5 H5 O4 L4 j0 e (iu.refl a0.gh) b3 r ⟨[],by simp⟩ jn (fun x Z=>?_) id;by_cases y:x=(d.part,v)
    ·exact .inl y
    ·exact .inr (.inr ⟨_,j0,m0,z1,by rw[←z4];exact Z,y⟩)
  refine key _ _ rfl rfl rfl rfl fun G6 H6 O6 L6 j e D a6 a4 eu cv dd e3=>?_;have ds:=b4.trans D;have kt:=ds.gh.ins (ds.gg.ins hp);have as:H6 g=some (.lst (gz bs)):=D.keep ad bq fun z=>z;have cn:=D.out ad bq;have cd:=D.off ew bq;have hs:=D.keep ed ey fun z=>z;have hc:=D.out ed ey;have kc:bs.length<64:=by
   have h1:=(af.mp hv).1;have h2:=mH c.es n;have h3:=M.n;rw[c.n_eq]at h3
   lia
  refine⟨_,rfl,.inl ⟨rfl,_,eX.of as⟩,_,rfl,g,_,_,rfl,rfl,as,(by unfold gz;rw[ab];exact eE (by lia)),?_⟩;have aa:∀b,b≠g→upd H6 g (.lst (gz bs++[.int (j:Nat)])) b=H6 b:=fun b hb=>dY hb;have ek:upd H6 g (.lst (gz bs++[.int (j:Nat)])) g=some (.lst (gz (bs++[j]))):=by
   rw[dW];unfold gz;rw[aw];rfl
  have b2:=ds.own (u:=.lst (gz bs++[.int (j:Nat)])) N cd;generalize upd H6 g (.lst (gz bs++[.int (j:Nat)]))=H7 at *;have f5:fT CL G6 H7 le ch c L6 O6:=a6.grow (er.refl _) a6.off fun x Z=>aa x fun z=>cn (z▸Z);obtain⟨hi,f8,k7,k4,kv,kf,kj,kw,kx,f3,f7,gp⟩:=id f5.ex;have h9:(L6.map (·.1))[j]?=some e.1:=by rw[ae,cv];rfl
  have g3:=b2.gh.ins (b2.gg.ins hp);refine⟨_,rfl,_,rfl,p,dx,_,V.ref le,rfl,g3,(by kernel_rfl),le,hi,_,V.ref f8,rfl,b2.gh.ins f3,(by kernel_rfl),_,rfl,f8,_,_,_,rfl,rfl,eX.of f7,jG h9,_,rfl,_,rfl,_,_,rfl,rfl,_,_,rfl,rfl,?_⟩;dsimp only;rw[pT,wg,show c.Jw (some (d.part,v))=c.bit (d.part,v) from rfl];have fy:e.1<2^c.n:=a4.lt e (aj cv);have hm:∃X,L6=L++X:=by
   obtain⟨X,hX⟩:=a1;obtain⟨Y,hY⟩:=eu;exact⟨X++Y,by rw[hY,hX,bu]⟩
  have a2:=bv.grow D B;have dl:=yf.grow bv D B;have ag:∀{x C dx fs},H6 x=some (.ins C dx fs)→x≠g:=fun {x C dx fs} h=>fe h as fun z=>nomatch z;have g0:iM CF CT G6 H7 c fl AA FF:=by
   have ha:fl≠g:=fun z=>by
    have:=D.keep B.1 bv.l fun z=>z;have co:=hF.l;rw[z,N]at co;cases co
   refine⟨by rw[aa fl ha];exact a2.l,?_,a2.offl,a2.off,a2.nd1,a2.nd2⟩;refine Paired.Ja a2.p (by rintro x y ⟨⟨d1,z1⟩,d2,w2,z2,z3⟩;exact⟨⟨d1,by rw[aa _ (ag z1)];exact z1⟩,d2,w2,by rw[aa _ (ag z2)];exact z2,z3⟩)
  have f9:U∉O6:=fun z=>by
   rcases D.on U z with y | y
   ·exact a9 y
   ·rcases d9 with h | ⟨o,h⟩ <;> (rw[y]at h;cases h)
  have hw:Rd H7 U (.dK kvs):=by
   have k6:Rd H6 U (.dK kvs):=D.fr.rd (d9.imp (fun h=>by rw[el a9];exact h) (by rintro⟨o,h⟩;exact⟨o,by rw[el a9];exact h⟩));have ej:U≠g:=fun z=>by
    rw[z]at k6;rcases k6 with h | ⟨o,h⟩ <;> (rw[as]at h;cases h)
   exact k6.imp (fun h=>by rw[aa U ej];exact h) (by rintro⟨o,h⟩;exact⟨o,by rw[aa U ej];exact h⟩)
  refine⟨G6,O6,L6,bs++[j],m ||| hZ e.1 (c.bit (d.part,v)),some (.int v),some (.ref tp),some (.int (c.bit (d.part,v):Nat)),some (.int (j:Nat)),rfl,b2,f5,a4,hm,fun z=>e3 (ah z),g0,dl,ek,cn,cd,by rw[aa l ga];exact hs,hc,hw,f9,by rw[aE,J];rfl,fun j' b' v' h1 h2=>?_,i4 ap (jg fy),fun x Z=>?_,?_⟩
  ·by_cases hjt:j'<bs.length
   ·rw[aK hjt]at h1;obtain⟨e',z1,z2⟩:=cs j' b' v' h1 h2;obtain⟨Y,hY⟩:=eu;refine⟨e',by rw[hY,aK (af.mp z1).1];exact z1,fun x Z=>(z2 x Z).imp id fun z=>dZ.JC.mpr (.inl z)⟩
   ·have h6:j'=bs.length:=by
     have:=(af.mp h1).1;rw[aE,aR]at this
     lia
    subst h6;rw[aW (aq _),bK]at h1;have iv:j=b':=by simpa using h1
    subst iv;rw[J,hv]at h2;cases h2;refine⟨e,cv,fun x Z=>?_⟩;by_cases y:x=(d.part,v)
    ·exact .inl (by rw[gk];exact y)
    ·exact .inr (dZ.JC.mpr (.inr (dZ.JE.mpr ⟨Z,fun z=>y ((dZ.JF hk).mp z)⟩)))
  ·rcases dZ.JC.mp Z with z | z
   ·exact bf x z
   ·obtain⟨z1,z2⟩:=dZ.JE.mp z;exact(dd x z1).resolve_left fun y=>z2 ((dZ.JF hk).mpr y)
  ·cases u with
   |none=>trivial
   |some k=>exact dZ.JC.mpr (.inl dc)
 ·rintro σ H4 ⟨G4,O4,L4,bs,m,o8,o9,cz,da,rfl,gw,a3,r,a1,ah,cy,B,R,ad,a5,e1,ed,cp,a8,J,cs,ap,bf,dc⟩;rw[ab]at J;obtain⟨g8,ma,re,pm,pp,k1,rs,Ol,hO,i0,g5⟩:=id a3.ex;have gt:=gw.gh.ins (gw.gg.ins hp);refine⟨_,rfl,p,dx,_,V.ref le,rfl,gt,(by kernel_rfl),le,g8,_,rfl,gw.gh.ins i0,(by kernel_rfl),_,rfl,_,rfl,_,rfl,_,rfl,(by show 4≤sizeLine;decide),fun t ht=>?_⟩;have i2:g≠t:=d0 R ht;have k5:H t=none:=gw.lv t ht;have ky:G4 t=none:=gw.gh.free ht;have eh:iu G H O (upd G4 g (.lst (gz bs))) H4 O4:=gw.base M.gh N R;have a7:=eh.trans (iu.put (u:=.tup [.str ("open" : Str),wv,.int (pl:Nat),.ref g]) eh.gh ht);have b3:fT CL (upd G4 g (.lst (gz bs))) H4 le ch c L4 O4:=a3.grow ((er.refl _).upd a5) (fun x Z=>by rw[dY (fun z:x=g=>ad (z▸Z))];exact a3.off x Z) fun _ _=>rfl;have a6:=b3.put eh.gh (u:=.tup [.str ("open" : Str),wv,.int (pl:Nat),.ref g]) ht;have hR:my (upd (upd G4 g (.lst (gz bs))) t (.tup [.str ("open" : Str),wv,.int (pl:Nat),.ref g])) (.ref t) ⟨u,(pl:Nat),.many (bs.map fun b:Nat=>(b:Int))⟩:=by
   refine⟨t,wv,.ref g,rfl,dW,an.f a7.gg,g,rfl,?_⟩;rw[dY i2,dW,ck];rfl
  have hh:=M.chart.f a7.gg;generalize upd (upd G4 g (.lst (gz bs))) t (.tup [.str ("open" : Str),wv,.int (pl:Nat),.ref g])=G6 at *;generalize upd H4 t (.tup [.str ("open" : Str),wv,.int (pl:Nat),.ref g])=H6 at *;refine⟨G6,le,ch,c,L4,O4,m,_,_,rfl,a7.gh,hh,a6,hR,ap,M.n,M.sm L4 r,fun j hj=>?_,fun dr H9 O9 g9 is=>?_⟩
  ·obtain⟨e,g4,kb⟩:=p9 hj;exact q G6 H6 O4 L4 j e a7 a6 r a1 g4 (by rw[kb];exact bf) fun z=>.inl (ah z)
  ·obtain⟨X,hX⟩:=a1;refine q G6 H9 O9 _ L4.length (m,⟨u,(pl:Nat),.many (bs.map fun b:Nat=>(b:Int))⟩) (a7.trans g9) is (r.add ap (eq m bf) (l9.mp dr) ?_) ⟨X++[(m,⟨u,(pl:Nat),.many (bs.map fun b:Nat=>(b:Int))⟩)],by rw[hX,bu]⟩ ?_ bf fun h5=>?_
   ·exact xi dc fp J cs
   ·rw[aW (aq _),bK];rfl
   ·by_cases b1:m=0
    ·exact .inr ⟨b1,by rw[List.getLast?_append];rfl⟩
    ·refine .inl fun x Z=>?_;rcases ay.mp Z with z | z
     ·exact ah h5 x z
     ·rw[ai.mp z];exact b1
end
theorem nS {α:Type}{l:List α}{x:α}(h:l[l.length-1]?=some x):vp l (-1)=some x:=by
 have a:=(af.mp h).1;unfold vp Em;rw[if_neg (by decide)];have:(((-1:Int)+(l.length:Int)).toNat)=l.length-1:=by lia
 first
 |(rw[if_pos (by lia)];simp only[Option.bind_some];rw[this];exact h)
 |(rw[if_pos (by lia)];show l[_]?=some x;rw[show((l.length:Int)+-1).toNat=l.length-1 by lia];exact h)
inductive C3 (CB CC CL CS CF CT:Addr)(vs:List V)(H:Hp)(Q:VK)(E:XK):Prop
 |mk (G:Hp)(p ch le fl:Addr)(c:dZ)(L:ic)(O:List Addr)(A:List (Addr×Addr))(F:List Fk)(k:Pk)(j:Nat)(e:Nat×Rs)(_:vs=[.ref p,.int (c.bit k:Nat),.int (j:Nat)])(_:Se CB CC CS G H p ch le fl c)(_:fT CL G H le ch c L O)(_:iM CF CT G H c fl A F)(_:L[j]?=some e)(_:F.length≤64)(_:∀H',eB (del H (A.map (·.2))) H'→iM CF CT G H' c fl A (F.map (c.JX k e.1))→Q .non H'):C3 CB CC CL CS CF CT vs H Q E
def qO (CB CC CL CS CF CT:Addr):Sp:=C3 CB CC CL CS CF CT
theorem Bi (a b d w:V):fM ("dead" : Str) d (yk a b w)=yk a d w:=by kernel_rfl
theorem zS {α:Type}{t i:Nat}(h:¬t=i)(x y:α):(if t<i+1 then x else y)=if t<i then x else y:=by
 by_cases z:t<i
 ·rw[if_pos z,if_pos (by lia)]
 ·rw[if_neg z,if_neg (by lia)]
theorem FN:(["fork"]:List Str).Nodup:=by decide +kernel
theorem yD {a b dx dy:Addr}{x s t y z w:V}(h1:H a=some (.ins CF dx (tD x s t)))(h2:H b=some (.ins CT dy (yk y z w))):a≠b:=by
 refine fe h1 h2 fun e=>?_;injection e with _ _ e
 injection e with e _
 injection e with e _
 exact absurd e (by decide +kernel)
section
variable {base:Heap}{f:Addr}
theorem DL:eG ["self","bit","place","others","stand"] ["self","bit","place"] (eA yN):=i8
theorem BS (F:iL K "mark_dead" "Search.mark_dead" yN f fd)(T:sr K mg CS)(ah:TL K mg CL)(TT:Cv K mg CT)(TF:AH K mg CF):fb P w K mg base eZ 1 f fd ["self","bit","place"] (qO CB CC CL CS CF CT):=by
 refine F.ok DL (fun vs H Q E h=>?_) (fun cdv A outer s H vs Q E hr h=>?_)
 ·obtain⟨G,p,ch,le,fl,c,L,O,m,FF,k,j,e,rfl,_⟩:=h;rfl
 obtain⟨G,p,ch,le,fl,c,L,O,m,FF,k,j,e,rfl,hS,hL,r,hj,a7,q⟩:=h;have hu:=gc hr;refine⟨_,(dX (eF (i:=3) DL.nd rfl (Or.inl rfl) (eW gM (eO fE (eD ah.cl ah.nMa (eD T.cl T.nLe (pv 0))) (pv 2) (fun _ _=>rfl)) (iY jW (pv 1)))) (eg (fN PassesOwn.never rfl (fh (ik (N':=["fork"]) (n:=1) (js:=[]) rfl (ib.closed (by decide +kernel) (by decide +kernel) rfl (by decide +kernel) rfl) (gF (by decide)) (fh (eD T.cl T.nFo (pv 0))) (fun C s2 H2 fp=>eK (i:=0) FN rfl (Or.inl rfl)) (fun C s2 H2 fp=>iH) (fun C s2 H2 fp=>eD TF.cl TF.nSt (pv 0)))) (eK (i:=4) DL.nd rfl (Or.inl rfl)) (eg (gj (gu lN (eW gM (pv 3) (iY jW (eD TT.cl TT.nPi (pv 4)))) ef (gJ _)) (eg (BB TT.cl TT.nDe (pv 4) (pv 1) zU)) ff))))),?_⟩;obtain⟨dx,hp⟩:=hS.self;have ag:=hS.gh.ins hp;obtain⟨lx,ma,re,pm,pp,a6,rs,Ol,hO,a4,a2,as⟩:=id hL.ex;have a0:(L.map (·.1))[j]?=some e.1:=by rw[ae,hj];rfl
 have lA:m.length=FF.length:=Paired.length r.p;refine⟨_,rfl,p,dx,_,V.ref le,rfl,ag,(by kernel_rfl),le,lx,_,V.ref ma,rfl,hS.gh.ins a4,(by kernel_rfl),_,rfl,ma,_,_,_,rfl,rfl,eX.of a2,jG a0,_,rfl,_,rfl,_,_,rfl,rfl,?_⟩;dsimp only;rw[pT];refine⟨_,rfl,p,dx,_,V.ref fl,rfl,ag,(by kernel_rfl),fl,rfl,⟨_,eX.of r.l⟩,?_⟩;refine gy (xs:=m.map fun a=>V.ref a.1) (fun D i ys H7=>H7 D=some (.lst ys)∧eB H H7∧H D=none∧ys=(m.take i).map fun a=>V.ref a.2)
  (fun D hD=>⟨dW,eo hD _,hD,by simp⟩) (fun D i ys H7 hi ⟨e1,N,e3,e4⟩=>⟨eX.of (N _ _ r.l),e1,?_⟩) (fun D i y ys H7 hi ⟨e1,N,e3,e4⟩=>?_) (fun D ys H7 ⟨e1,N,e3,e4⟩=>?_)
 ·rw[ab]at hi;rw[e4,ab,aN];exact eE (by lia)
 ·rw[ae]at hi;obtain⟨a,v,rfl⟩:=ax.mp hi;obtain⟨d,J,⟨fx,I⟩,a5⟩:=Paired.Ju r.p v;unfold iJ mT;dsimp only;rw[if_pos rfl];refine⟨_,rfl,a.1,fx,_,V.ref a.2,rfl,N _ _ I,(by kernel_rfl),e1,dW,eB.upd N e3,e3,?_⟩;rw[e4,fm v,aw];rfl
 ·rw[ab,aF]at e4;subst e4;refine⟨D,rfl,⟨_,eX.of e1⟩,?_⟩;have a1:∀(t:Nat) (a:Addr×Addr) (d:Fk),m[t]?=some a→FF[t]?=some d→lU CF CT G H c a d:=fun t a d h1 h2=>by
   obtain⟨B,X,z2⟩:=Paired.Ju r.p h1;rw[h2]at X;cases X;exact z2
  have aa:∀{a},a∈m→a.2∈m.map (·.2):=fun h=>bg h;have kp:∀{H2:Hp},eB (del H (m.map (·.2))) H2→∀{x u},H x=some u→x∉m.map (·.2)→H2 x=some u:=fun {H2} U {x u} h n=>U _ _ (by rw[el n];exact h);have R:∀{x},x∈m.map (·.2)→∃dy y z w,H x=some (.ins CT dy (yk y z w)):=fun {x} hx=>by
   obtain⟨a,v,rfl⟩:=av.mp hx;obtain⟨t,M⟩:=az.mp v;obtain⟨d,_,_,sx,wa,o,_⟩:=Paired.Ju r.p M;exact⟨_,_,_,_,o⟩
  have nD:D∉m.map (·.2):=fun z=>by obtain⟨_,_,_,_,h⟩:=R z;rw[e3]at h;cases h
  refine fR (K:=K) (a:=D) (xs:=m.map fun a=>V.ref a.2) (fun i σ H2=>∃o4,σ=[some (.ref p),some (.int (c.bit k:Nat)),some (.int (j:Nat)),some (.int (hZ e.1 (c.bit k):Nat)),o4]∧eB (del H (m.map (·.2))) H2∧H2 D=some (.lst (m.map fun a=>V.ref a.2))∧∀(t:Nat) (a:Addr×Addr) (d:Fk),m[t]?=some a→FF[t]?=some d→lU CF CT G H2 c a (if t<i then c.JX k e.1 d else d))
   ⟨none,rfl,(eU _ _).trans N,e1,fun t a d h1 h2=>by rw[if_neg (bZ _)];obtain⟨⟨d1,X⟩,d2,w2,z2,z3⟩:=a1 t a d h1 h2;exact⟨⟨d1,N _ _ X⟩,d2,w2,N _ _ z2,z3⟩⟩ ((by rintro i σ H2 _ ⟨_,_,_,e,_⟩;exact eX.of e)) ?_ ?_
  ·rintro i x σ H2 hi ⟨o4,rfl,U,Y,g⟩;rw[ae]at hi;obtain⟨a,v,rfl⟩:=ax.mp hi;obtain⟨d,J,_⟩:=Paired.Ju r.p v;have S:=g i a d v J;rw[if_neg (cQ _)]at S;obtain⟨⟨fx,I⟩,sx,wa,o,a3⟩:=S;refine⟨_,rfl,_,rfl,a.2,sx,_,V.int (d.sd.picked:Nat),rfl,o,(by kernel_rfl),_,rfl,_,_,rfl,rfl,rfl,_,rfl,?_⟩;have ad:decide (V.int (Builtin.bitAnd ((hZ e.1 (c.bit k):Nat):Int) (Builtin.bitNot (d.sd.picked:Nat)))=V.int 0)=decide (hZ (hZ e.1 (c.bit k)) d.sd.picked=0):=by
    rw[pT];exact r6 (b:=0)
   dsimp only;rw[ad];by_cases hd:hZ (hZ e.1 (c.bit k)) d.sd.picked=0
   ·rw[ao hd];refine ir ⟨_,rfl,a.2,sx,_,V.int (d.sd.dead:Nat),rfl,o,(by kernel_rfl),_,rfl,_,_,rfl,rfl,sx,_,o,(by show 3<1000;decide),?_⟩;dsimp only;rw[wg,Bi];refine⟨_,rfl,fun b u hb=>?_,?_,fun t a' B h1 h2=>?_⟩
    ·have nb:b≠a.2:=fun z=>by rw[z,fq (aa (aj v))]at hb;cases hb
     rw[dY nb];exact U _ _ hb
    ·rw[dY (fun z:D=a.2=>nD (z▸aa (aj v)))];exact Y
    ·by_cases M:t=i
     ·subst M;rw[v]at h1;rw[J]at h2;cases h1;cases h2;rw[if_pos (cW _)];refine⟨⟨fx,by rw[dY (yD I o)];exact I⟩,sx,wa,?_,?_⟩
      ·rw[dW];show _=some (HO.ins CT sx (yk (.int ((c.JW k e.1 d.sd).picked:Nat)) (.int ((c.JW k e.1 d.sd).dead:Nat)) (.ref wa)));unfold dZ.JW;rw[if_pos hd]
      ·show vy G wa (c.JW k e.1 d.sd).wanted;rw[dZ.JZ];exact a3
     ·have al:=g t a' B h1 h2;rw[zS M];obtain⟨⟨d1,X⟩,d2,w2,z2,z3⟩:=al;have na:a'.2≠a.2:=fun z=>by
       have Z:(m.map (·.2))[t]?=some a'.2:=by rw[ae,h1];rfl
       have an:(m.map (·.2))[i]?=some a.2:=by rw[ae,v];rfl
       rw[z]at Z;exact M ((cc (af.mp Z).1 r.nd2).mp (Z.trans an.symm))
      exact⟨⟨d1,by rw[dY (yD X o)];exact X⟩,d2,w2,by rw[dY na];exact z2,z3⟩
   ·rw[au hd];refine gv ⟨_,rfl,U,Y,fun t a' B h1 h2=>?_⟩;by_cases M:t=i
    ·subst M;have:=g t a' B h1 h2;rw[J]at h2;cases h2;rw[if_neg (cQ _)]at this;rw[if_pos (cW _)];have eb:c.JX k e.1 d=d:=by
      unfold dZ.JX dZ.JW;rw[if_neg hd]
     rw[eb];exact this
    ·rw[zS M];exact g t a' B h1 h2
  ·rintro σ H2 ⟨o4,rfl,U,Y,g⟩;refine q H2 U ⟨?_,?_,r.offl,r.off,r.nd1,r.nd2⟩
   ·refine kp U r.l fun z=>?_;obtain⟨_,_,_,_,h⟩:=R z;rw[r.l]at h;cases h
   ·refine jF (by rw[ab];exact lA) fun t a d h1 h2=>?_;rw[ae]at h2;obtain⟨ap,h3,rfl⟩:=ax.mp h2;have:=g t a ap h1 h3;rw[if_pos (by rw[ab];exact(af.mp h1).1)]at this;exact this
end
inductive wF (CB CC CL CS CF CT:Addr)(vs:List V)(H:Hp)(Q:VK)(E:XK):Prop
 |mk (G:Hp)(p ch le fl:Addr)(c:dZ)(L:ic)(O:List Addr)(A:List (Addr×Addr))(F:List Fk)(j:Nat)(e:Nat×Rs)(_:vs=[.ref p,.int (j:Nat)])(_:Se CB CC CS G H p ch le fl c)(_:fT CL G H le ch c L O)(_:iM CF CT G H c fl A F)(_:yf O fl A)(_:L[j]?=some e)(_:F.length≤64)(_:(∀f∈F,∀k,f.bit=some k→k∈c.ks))(_:∀(n:Nat) (H':Hp),n≤F.length→(F.take n).reverse=F.reverse.dropWhile (fun f=>!c.stop e.1 f)→eB (del H (fl::A.map (·.2))) H'→iM CF CT G H' c fl (A.take n) (c.KK e.1 (F.take n))→Q .non H'):wF CB CC CL CS CF CT vs H Q E
def oj (CB CC CL CS CF CT:Addr):Sp:=wF CB CC CL CS CF CT
theorem sK {α:Type}{l:List α}{n:Nat}{x:α}(h:l[n]?=some x):(l.take (n+1)).reverse=x::(l.take n).reverse:=by
 rw[fm h,cC];rfl
theorem oT {α β:Type}{R:α→β→Prop}:∀{as:List α} {bs:List β} (n:Nat),Paired R as bs→Paired R (as.take n) (bs.take n)
 |_,_,0,_=>.nil
 |_,_,_+1,.nil=>.nil
 |_,_,n+1,.cons h r=>.cons h (oT n r)
theorem yB {c:dZ}{f:Fk}(a:∀k,f.bit=some k→k∈c.ks):(((c.Jw f.bit &&& m:Nat):Int) != 0)=c.stop m f:=by
 unfold dZ.stop;cases h:f.bit with
 |none=>
  show(((0 &&& m:Nat):Int) != 0)=false;rw[Nat.zero_and];rfl
 |some k=>
  show(((c.bit k &&& m:Nat):Int) != 0)=decide (c.has m k);rw[Nat.and_comm,jt (a k h)]
section
variable {base:Heap}{f:Addr}
theorem Fv:eG ["self","place","mask"] ["self","place"] (eA rp):=i8
theorem xB (F:iL K "go_back" "Search.go_back" rp f fd)(T:sr K mg CS)(ah:TL K mg CL)(TF:AH K mg CF)(MM:Mt P w K mg base CS eZ 1 "mark_dead" ["self","bit","place"] (qO CB CC CL CS CF CT)):fb P w K mg base eZ 2 f fd ["self","place"] (oj CB CC CL CS CF CT):=by
 refine F.ok Fv (fun vs H Q E h=>?_) (fun cdv A outer s H vs Q E hr h=>?_)
 ·obtain⟨G,p,ch,S,fl,c,L,O,t,J,j,e,rfl,_⟩:=h;rfl
 obtain⟨G,p,ch,S,fl,c,L,O,t,J,j,e,rfl,hS,hL,B,ag,hj,a8,Z,q⟩:=h;have hu:=gc hr;refine⟨_,(dX (eF (i:=2) Fv.nd rfl (Or.inl rfl) (eO fE (eD ah.cl ah.nMa (eD T.cl T.nLe (pv 0))) (pv 1) (fun _ _=>rfl))) (dX (jD PassesOwn.never (PW.pt (rE (iw (eD T.cl T.nFo (pv 0)) (fun _=>rfl)) (nB (jw (uJ (eW gM (eD TF.cl TF.nBi (eO fE (eD T.cl T.nFo (pv 0)) (iY jM ef) (fun _ _=>rfl))) (pv 2)) (fun _=>rfl)))))) (eg (fU (zi PySem.F.plainAttrs_list PySem.F.slot_list_pop PySem.F.type_list_pop zI (eD T.cl T.nFo (pv 0)))))) (eg (gj (iw (eD T.cl T.nFo (pv 0)) (fun _=>rfl)) (eg (fU (gY MM hr eP (pv 0) (dU (eD TF.cl TF.nBi (eO fE (eD T.cl T.nFo (pv 0)) (iY jM ef) (fun _ _=>rfl))) (dU (pv 1) ee))))) ff)))),?_⟩;obtain⟨dx,hp⟩:=hS.self;have U:=hS.gh.ins hp;obtain⟨lx,ma,re,pm,pp,a7,rs,Ol,hO,a4,a2,as⟩:=id hL.ex;have a1:(L.map (·.1))[j]?=some e.1:=by rw[ae,hj];rfl
 have lA:t.length=J.length:=Paired.length B.p;have a0:p≠fl:=fe U B.l fun z=>nomatch z;refine⟨_,rfl,p,dx,_,V.ref S,rfl,U,(by kernel_rfl),S,lx,_,V.ref ma,rfl,hS.gh.ins a4,(by kernel_rfl),_,rfl,ma,_,_,_,rfl,rfl,eX.of a2,jG a1,?_⟩;have C:∀{n:Nat} {H2:Hp},H2 fl=some (.lst ((t.take n).map fun a=>V.ref a.1))→(∀b,b≠fl→H2 b=H b)→iM CF CT G H2 c fl (t.take n) (J.take n):=fun {n H2} h1 h2=>by
  refine⟨h1,Paired.Ja (oT n B.p) fun x y ⟨⟨d1,z1⟩,d2,w2,z2,z3⟩=>⟨⟨d1,?_⟩,d2,w2,?_,z3⟩,B.offl,fun a ha=>B.off a (dF ha),?_,?_⟩
  ·rw[h2 _ (fe z1 B.l fun z=>nomatch z)];exact z1
  ·rw[h2 _ (fe z2 B.l fun z=>nomatch z)];exact z2
  ·rw[cj];exact B.nd1.sublist (dQ _ _)
  ·rw[cj];exact B.nd2.sublist (dQ _ _)
 refine⟨fun m σ H2=>m≤J.length∧J.reverse.dropWhile (fun f=>!c.stop e.1 f)=(J.take m).reverse.dropWhile (fun f=>!c.stop e.1 f)∧σ=[some (.ref p),some (.int (j:Nat)),some (.int (e.1:Nat))]∧H2 fl=some (.lst ((t.take m).map fun a=>V.ref a.1))∧∀b,b≠fl→H2 b=H b,⟨J.length,aq _,by rw[aF],rfl,by rw[←lA,aF];exact B.l,fun _ _=>rfl⟩,?_⟩;rintro n σ H2 ⟨hn,v,rfl,d,g⟩;have r:H2 p=some (.ins CS dx (wY ch S fl)):=by rw[g p a0];exact U
 refine⟨_,rfl,p,dx,_,V.ref fl,rfl,r,(by kernel_rfl),_,.inl ⟨_,eX.of d,rfl⟩,?_⟩;cases n with
 |zero=>
  refine gv (gv ?_);refine⟨_,rfl,p,dx,_,V.ref fl,rfl,r,(by kernel_rfl),_,.inl ⟨_,eX.of d,rfl⟩,gv ?_⟩;refine q 0 H2 (bp _) (by rw[v];rfl) (fun b u o=>?_) (C d g);have N:b≠fl:=fun z=>by rw[z,fq (by simp)]at o;cases o
  rw[g b N];exact eU _ _ b u o
 |succ n=>
  obtain⟨a,ha⟩:∃a,t[n]?=some a:=⟨t[n]'(by lia),am _⟩;obtain⟨I,M,⟨fx,aa⟩,a6⟩:=Paired.Ju B.p ha;have X:((t.take (n+1)).map fun a=>V.ref a.1)=((t.take n).map fun a=>V.ref a.1)++[.ref a.1]:=by rw[fm ha,aw];rfl
  have Y:(((t.take (n+1)).map fun a=>V.ref a.1))[((t.take (n+1)).map fun a=>V.ref a.1).length-1]?=some (.ref a.1):=by
   rw[X,aE,aR,dL,aW (aq _),bK];rfl
  have ad:(!((t.take (n+1)).map fun a=>V.ref a.1).isEmpty)=true:=by rw[X];simp
  have D:H2 a.1=some (.ins CF fx (tD (.str I.part) (.ref a.2) (.int (c.Jw I.bit:Nat)))):=by rw[g a.1 (fe aa B.l fun z=>nomatch z)];exact aa
  rw[ad];refine ir ?_;refine⟨_,rfl,p,dx,_,V.ref fl,rfl,r,(by kernel_rfl),_,rfl,fl,_,_,V.ref a.1,rfl,rfl,eX.of d,nS Y,a.1,fx,_,V.int (c.Jw I.bit:Nat),rfl,D,(by kernel_rfl),_,rfl,_,_,rfl,rfl,_,rfl,?_⟩;dsimp only;rw[mw,yB (Z I (aj M))];rw[sK M]at v;by_cases hst2:c.stop e.1 I=true
  ·rw[hst2];refine gv ?_;rw[List.dropWhile_cons,if_neg (by rw[hst2];decide)]at v;refine⟨_,rfl,p,dx,_,V.ref fl,rfl,r,(by kernel_rfl),_,.inl ⟨_,eX.of d,rfl⟩,?_⟩;rw[ad];refine ir ?_;obtain⟨k,hk⟩:∃k,I.bit=some k:=by
    unfold dZ.stop at hst2;cases h:I.bit with
    |none=>rw[h]at hst2;cases hst2
    |some k=>exact⟨k,rfl⟩
   have ap:Se CB CC CS G H2 p ch S fl c:=hS.grow (er.refl _) (fun b u o=>by
    have N:b≠fl:=fun z=>by rw[z,B.offl]at o;cases o
    rw[g b N];exact hS.gh b u o)
   have a5:fT CL G H2 S ch c L O:=hL.grow (er.refl _) hL.off fun b o=>g b fun z=>ag.1 (z▸o);have a3:c.Jw I.bit=c.bit k:=by rw[hk];rfl
   have al:=C d g;rw[a3]at D;refine⟨_,rfl,p,dx,_,rfl,r,(by kernel_rfl),_,rfl,p,dx,_,V.ref fl,rfl,r,(by kernel_rfl),_,rfl,fl,_,_,V.ref a.1,rfl,rfl,eX.of d,nS Y,a.1,fx,_,V.int (c.bit k:Nat),rfl,D,(by kernel_rfl),_,rfl,G,p,ch,S,fl,c,L,O,t.take (n+1),J.take (n+1),k,j,e,rfl,ap,a5,al,hj,by rw[aN];lia,fun H3 s3 an=>?_⟩;refine q (n+1) H3 hn (by rw[sK M,v]) (fun b u o=>?_) ?_
   ·have N:b∉fl::t.map (·.2):=fun z=>by rw[fq z]at o;cases o
    rw[el N]at o;simp only[ak,not_or]at N;refine s3 b u ?_
    rw[el (fun z=>N.2 (by
     rw[cj]at z
     exact dF z)),g b N.1]
    exact o
   ·have:c.KK e.1 (J.take (n+1))=(J.take (n+1)).map (c.JX k e.1):=by
     unfold dZ.KK;rw[fm M,List.getLast?_append];simp only[List.getLast?_singleton,Option.some_or];rw[hk]
    rw[this];exact an
  ·have R:c.stop e.1 I=false:=by cases h:c.stop e.1 I <;> simp_all
   rw[R];refine ir ⟨fun σ' H'=>∃m',m'<n+1∧_,fun _ _ h=>h,?_⟩;rw[List.dropWhile_cons,if_pos (by rw[R];rfl)]at v;refine⟨_,rfl,p,dx,_,V.ref fl,rfl,r,(by kernel_rfl),.inl ⟨rfl,_,eX.of d⟩,fl,_,_,rfl,rfl,d,Y,?_⟩;refine⟨n,cW _,by lia,v,rfl,?_,fun b o=>?_⟩
   ·rw[dW,X,List.dropLast_concat]
   ·rw[dY o];exact g b o
end
def EF (CT:Addr)(G H:Hp)(O:List Addr)(sd:Sd→Prop)(Q:VK):Prop:=
 ∀(G' H':Hp) (s:Addr) (d:Sd),iu G H O G' H' O→H s=none→G' s=none→kK CT G' H' s d→sd d→(∀a∈O,H' a=H a)→Q (.ref s) H'
inductive wI (CB CC CL CS CF CT:Addr)(vs:List V)(H:Hp)(Q:VK)(E:XK):Prop
 |mk (G:Hp)(p ch le fl:Addr)(c:dZ)(L:ic)(O:List Addr)(a:Addr×Addr)(fk:Fk)(k:Pk)(_:vs=[.ref p,.ref a.1])(_:Se CB CC CS G H p ch le fl c)(_:fT CL G H le ch c L O)(_:gC c L)(_:lU CF CT G H c a fk)(_:fk.bit=some k)(_:jL c fk)(_:iz c L fk.sd)(_:¬c.has fk.sd.dead k)(_:EF CT G H O (fun d=>iz c L d∧c.JU fk d) Q):wI CB CC CL CS CF CT vs H Q E
def oo (CB CC CL CS CF CT:Addr):Sp:=wI CB CC CL CS CF CT
inductive tV (CB CC CL CS CT:Addr)(vs:List V)(H:Hp)(Q:VK)(E:XK):Prop
 |mk (G:Hp)(p ch le fl:Addr)(c:dZ)(O:List Addr)(_:vs=[.ref p])(_:Se CB CC CS G H p ch le fl c)(_:(∀a∈O,∃u,H a=some u))(_:(∀a∈O,G a=none))(_:∀(G' H':Hp) (s:Addr) (d:Sd),iu G H O G' H' O→H s=none→G' s=none→kK CT G' H' s d→(∀L,iz c L d)→d.picked=0→(∀a∈O,H' a=H a)→Q (.ref s) H'):tV CB CC CL CS CT vs H Q E
def l4 (CB CC CL CS CT:Addr):Sp:=tV CB CC CL CS CT
theorem made {x dx C:Addr}(h1:H x=none)(h2:H dx=none)(n:dx≠x):eB H (upd (upd H dx (.own x)) x (.ins C dx [])):=(eo h2 _).trans (eo (by rw[dY (Ne.symm n)];exact h1) _)
section
variable {base:Heap}{f:Addr}
theorem yI:eG ["self","fork","pick","picked","dead","wanted"] ["self","fork"] (eA rB):=i8
theorem xE (F:iL K "stand_behind" "Search.stand_behind" rB f fd)(T:sr K mg CS)(N:TC K mg CC)(TT:Cv K mg CT)(t:AH K mg CF)(MB:Mt P w K mg base CL eZ 1 "barred_with" ["self","pick","picked"] (ot CB CC CL))(MW:Mt P w K mg base CS eZ 2 "wanted_by" ["self","wanted","who","picked"] (lD CB CC CS))(MS:wL P w K mg base CT eZ 1 "Stand" ["self","picked","dead","wanted"] (lE CT)):fb P w K mg base eZ 3 f fd ["self","fork"] (oo CB CC CL CS CF CT):=by
 refine F.ok yI (fun vs H Q E h=>?_) (fun cdv A outer s H vs Q E hr h=>?_)
 ·obtain⟨G,p,ch,le,fl,c,L,O,a,b,k,rfl,_⟩:=h;rfl
 obtain⟨G,p,ch,le,fl,c,L,O,a,b,k,rfl,d,hL,a7,b9,v,D,I,Z,q⟩:=h;have hu:=gc hr;refine⟨_,(dX (eF (i:=2) yI.nd rfl (Or.inl rfl) (fL hu (eD N.cl N.nBy (eD T.cl T.nCh (pv 0))) (eD t.cl t.nBi (pv 1)) (fun _ _=>rfl))) (dX (eF (i:=3) yI.nd rfl (Or.inl rfl) (eW qf (eD TT.cl TT.nPi (eD t.cl t.nSt (pv 1))) (eD t.cl t.nBi (pv 1)))) (dX (eF (i:=4) yI.nd rfl (Or.inl rfl) (eW qf (eW qf (eD TT.cl TT.nDe (eD t.cl t.nSt (pv 1))) (eV hu (eD N.cl N.nFo (eD T.cl T.nCh (pv 0))) (pv 2) (fun _ _=>rfl))) (gY MB (hr.mono (by decide)) eP (eD T.cl T.nLe (pv 0)) (dU (pv 2) (dU (pv 3) ee))))) (dX (eF (i:=5) yI.nd rfl (Or.inl rfl) (gY MW hr eP (pv 0) (dU (eD TT.cl TT.nWa (eD t.cl t.nSt (pv 1))) (dU (pv 2) (dU (pv 3) ee))))) (dX (fU (zg (pv 5) (eD t.cl t.nPa (pv 1)) ⟨rfl,rfl,rfl,rfl⟩)) (eg (eR (oQ MS (hr.mono (by decide)) rfl eP (dU (pv 3) (dU (pv 4) (dU (ze (pv 5)) ee))))))))))),?_⟩;obtain⟨dx,hp⟩:=d.self;have J:=d.gh.ins hp;obtain⟨⟨fx,r⟩,sx,wa,ad,wo,a1,cv,cy⟩:=b9;obtain⟨hk,bv,_⟩:=D.bit k v;have cx:c.Jw b.bit=c.bit k:=by rw[v];rfl
 rw[cx]at r;obtain⟨gx,gb,co,ap,c4,c5,c2,a4,cz,d1,d2,d3,d4,⟨b8,cd,a6⟩,d6,d7,d8,d9⟩:=d.chart.ex;obtain⟨X,a3,B⟩:=a6 k hk;refine⟨_,rfl,p,dx,_,V.ref ch,rfl,J,(by kernel_rfl),ch,gx,_,V.ref ap,rfl,d.gh.ins d1,(by kernel_rfl),_,rfl,a.1,fx,_,V.int (c.bit k:Nat),rfl,r,(by kernel_rfl),ap,X,rfl,.inl ⟨b8,Sum.inl (c.bit k:Int),d.gh.rd cd,rfl,a3.symm⟩,?_⟩;refine⟨_,rfl,a.1,fx,_,V.ref a.2,rfl,r,(by kernel_rfl),a.2,sx,_,V.int (b.sd.picked:Nat),rfl,ad,(by kernel_rfl),_,rfl,a.1,fx,_,V.int (c.bit k:Nat),rfl,r,(by kernel_rfl),_,_,rfl,rfl,?_⟩;dsimp only;rw[wg];obtain⟨lx,ma,re,pm,pp,c3,rs,Ol,hO,b5,bq⟩:=id hL.ex;refine⟨_,rfl,a.1,fx,_,V.ref a.2,rfl,r,(by kernel_rfl),a.2,sx,_,V.int (b.sd.dead:Nat),rfl,ad,(by kernel_rfl),_,rfl,p,dx,_,V.ref ch,rfl,J,(by kernel_rfl),ch,gx,_,V.ref a4,rfl,d.gh.ins d1,(by kernel_rfl),_,rfl,a4,_,rfl,(d9.f d.gh).get (w:=some k) (fW hk) (fj.f d.gh B),_,_,rfl,rfl,?_⟩;dsimp only;rw[wg];refine⟨_,rfl,p,dx,_,V.ref le,rfl,J,(by kernel_rfl),le,lx,_,rfl,d.gh.ins b5,(by kernel_rfl),_,rfl,_,rfl,G,le,ch,c,L,O,X,k,b.sd.picked ||| c.bit k,rfl,d.gh,d.chart,hL,fj.f d.gh B,hk,fun H1 s1=>?_⟩;refine⟨_,_,rfl,rfl,?_⟩;skip;rw[wg];have bf:=s1 _ _ J;have U:=s1 _ _ r;have a0:=s1 _ _ ad;have cn:=I.Ku d.nds d.n;refine⟨_,rfl,p,dx,_,rfl,bf,(by kernel_rfl),_,rfl,a.1,fx,_,V.ref a.2,rfl,U,(by kernel_rfl),a.2,sx,_,V.ref wa,rfl,a0,(by kernel_rfl),_,rfl,_,rfl,G,p,ch,le,fl,wa,c,a1,b.sd.wanted,X,some k,b.sd.picked ||| c.bit k,rfl,d.same s1,.inr ⟨wo,s1 _ _ (d.gh.frz cv)⟩,cy,cn,fun x u hx=>?_,fW hk,B,fun m H2 kvs g s2 b3 al a2 a5=>?_⟩
 ·obtain⟨_,z2,z3⟩:=I.w1 x u hx;exact⟨fun k e=>by subst e;exact z2.1,iT.mpr z3⟩
 have an:=s2 _ _ U;have ct:b.part∈g.map (·.1):=by
  obtain⟨E,e1,_⟩:=a5;rw[e1];exact aJ _ D.open_
 obtain⟨v0,u0,cs,_,_⟩:=nu a2 ct;refine⟨_,rfl,m,rfl,.inl ⟨_,.inl al⟩,_,rfl,a.1,fx,_,V.str b.part,rfl,an,(by kernel_rfl),kvs,Sum.inr b.part,v0,al,rfl,cs,?_⟩;refine⟨_,rfl,_,rfl,_,rfl,m,_,rfl,dW,trivial,fun R=>?_⟩;rw[iQ];have ag:=s1.trans s2;have c1:er G H2:=d.gh.trans ag.toF;have o:H m=none:=s1.free b3;have ah:G m=none:=d.gh.free o;have bx:=iu.same (O:=O) d.gh ag;have cp:=bx.own (u:=.frz R (.dK (jq kvs (Sum.inr b.part)))) o ah;have b2:upd H2 m (.frz R (.dK (jq kvs (Sum.inr b.part)))) m=some (.frz R (.dK (jq kvs (Sum.inr b.part)))):=dW;have M:=cp.base d.gh o b2;have b1:vy (upd G m (.frz R (.dK (jq kvs (Sum.inr b.part))))) m (g.filter fun xu=>!decide (xu.1=b.part)):=⟨R,_,dW,Paired.Ja (vD a2) fun _ _ z=>z.f ((er.refl G).upd ah)⟩;have b6:∀y∈O,upd H2 m (.frz R (.dK (jq kvs (Sum.inr b.part)))) y=H y:=fun y hy=>by
  obtain⟨u,l⟩:=hL.liv y hy;rw[dY (fun z:y=m=>by rw[z,o]at l;cases l),ag _ _ l,l]
 generalize upd G m (.frz R (.dK (jq kvs (Sum.inr b.part))))=G4 at *;generalize upd H2 m (.frz R (.dK (jq kvs (Sum.inr b.part))))=H4 at *;intro x S hx a9 a8;have sm:=made (C:=CT) hx a9 a8;have bm:upd (upd H4 S (.own x)) x (.ins CT S []) x=some (.ins CT S []):=dW;have b4:=M.trans (iu.same (O:=O) M.gh sm);generalize upd (upd H4 S (.own x)) x (.ins CT S [])=H5 at *;have aa:H x=none:=M.lv x hx;have as:G4 x=none:=M.gh.free hx;refine⟨x,S,_,_,_,rfl,bm,rfl,?_⟩;have bd:=b4.own (u:=.ins CT S (yk (.int ((b.sd.picked ||| c.bit k:Nat):Int)) (.int ((b.sd.dead ||| c.Kf (some k) ||| c.J9 L k (b.sd.picked ||| c.bit k):Nat):Int)) (.ref m))) aa as;obtain⟨b7,bl⟩:=x9 (k:=k) (p:=b.sd.picked ||| c.bit k) a7;refine q G4 _ x ⟨b.sd.picked ||| c.bit k,b.sd.dead ||| c.Kf (some k) ||| c.J9 L k (b.sd.picked ||| c.bit k),g.filter fun xu=>!decide (xu.1=b.part)⟩ bd aa as ⟨S,m,dW,b1⟩ ⟨?_,k,v,rfl,fun j Y=>dZ.JC.mpr (.inl (dZ.JC.mpr (.inl Y)))⟩ (fun y hy=>?_)
 rotate_left
 ·obtain⟨u,l⟩:=hL.liv y hy;have h6:=(b6 y hy).trans l;rw[dY (fun z:y=x=>by rw[z,aa]at l;cases l),sm _ _ h6,l]
 refine yC I D hk bv Z (i4 (i4 I.dl (c.Kj _)) b7) (fun j Y=>dZ.JC.mpr (.inl (dZ.JC.mpr (.inl Y)))) (fun j Y hf=>dZ.JC.mpr (.inl (dZ.JC.mpr (.inr (dZ.Ki.mpr ⟨Y,hf⟩))))) (fun j Y=>?_) a5;rcases dZ.JC.mp Y with z | z
 ·rcases dZ.JC.mp z with y | y
  ·exact .inl y
  ·exact .inr (.inl (dZ.Ki.mp y).2)
 ·exact .inr (.inr (bl j z))
end
theorem iu.KO (h:er G H)(e:er H H'):iu G H O G H' O:=⟨er.refl _,h.trans e,fun a e n=>absurd e n,fun a h=>.inl h,(eU _ _).toF.trans e,fun _ h=>e.free h⟩
def dZ.KP (c:dZ)(ws:List (Option Pk)):Nat:=c.Kf none ||| c.maskOf fun j=>decide (some j∈ws)&&(c.Ka (some j) j)
theorem dZ.KQ (c:dZ):c.KP []=c.Kf none:=by
 unfold dZ.KP;have:c.maskOf (fun j=>decide (some j∈([]:List (Option Pk)))&&(c.Ka (some j) j))=0:=dZ.JI (c.JN _) fun k h=>by
  have:=(dZ.JM.mp h).2;simp at this
 rw[this,Nat.or_zero]
theorem pd {c:dZ}{k:Pk}:c.foe k k↔c.JO (some k) k:=⟨fun h=>h.elim id id,.inl⟩
theorem dZ.KR {c:dZ}{ws:List (Option Pk)}{w:Option Pk}(b:c.Who w):c.KP (ws++[w])=c.KP ws ||| (c.Kf w &&& c.Jw w):=by
 refine dZ.ext (i4 (c.Kj _) (c.JN _)) (i4 (i4 (c.Kj _) (c.JN _)) (mx (c.Kj _))) fun j=>?_;unfold dZ.KP;simp only[dZ.JC,dZ.JD,dZ.JM,aH,aA,ay,ai,dZ.Kl b,dZ.Kb]
 constructor
 ·rintro(h | ⟨h1,h2 | h2,a⟩)
  ·exact .inl (.inl h)
  ·exact .inl (.inr ⟨h1,h2,a⟩)
  ·rw[←h2];exact .inr ⟨dZ.Ki.mpr ⟨h1,pd.mpr a⟩,rfl⟩
 ·rintro((h | ⟨h1,h2,a⟩) | ⟨h1,h2⟩)
  ·exact .inl h
  ·exact .inr ⟨h1,.inl h2,a⟩
  ·rw[h2]at h1;obtain⟨a,d⟩:=dZ.Ki.mp h1;exact .inr ⟨a,.inr h2.symm,pd.mp d⟩
theorem dZ.KS {c:dZ}{ws:List (Option Pk)}(h:∀k∈c.ks,some k∈ws){k:Pk}:c.has (c.KP ws) k↔k∈c.ks∧(c.JO none k∨c.foe k k):=by
 unfold dZ.KP;rw[dZ.JC,show c.Kf none=c.Ke none from rfl,dZ.Kh,dZ.JM,aH,aA,dZ.Kb,pd]
 constructor
 ·rintro(⟨h1,h2⟩ | ⟨h1,_,h2⟩)
  ·exact⟨h1,.inl h2⟩
  ·exact⟨h1,.inr h2⟩
 ·rintro⟨h1,h2 | h2⟩
  ·exact .inl ⟨h1,h2⟩
  ·exact .inr ⟨h1,h k h1,h2⟩
section
variable {base:Heap}{f:Addr}
theorem Br:eG ["self","dead","pick"] ["self"] (eA oA):=i8
theorem uP (F:iL K "opening" "Search.opening" oA f fd)(T:sr K mg CS)(j:TC K mg CC)(MW:Mt P w K mg base CS eZ 2 "wanted_by" ["self","wanted","who","picked"] (lD CB CC CS))(MS:wL P w K mg base CT eZ 1 "Stand" ["self","picked","dead","wanted"] (lE CT)):fb P w K mg base eZ 3 f fd ["self"] (l4 CB CC CL CS CT):=by
 refine F.ok Br (fun vs H Q E h=>?_) (fun cdv A outer s H vs Q E hr h=>?_)
 ·obtain⟨G,p,ch,le,fl,c,O,rfl,_⟩:=h;rfl
 obtain⟨G,p,ch,le,fl,c,O,rfl,r,M,ah,q⟩:=h;have hu:=gc hr;refine⟨_,(dX (eF (i:=1) Br.nd rfl (Or.inl rfl) (eV hu (eD j.cl j.nFo (eD T.cl T.nCh (pv 0))) iO (fun _ _=>rfl))) (dX (fN PassesOwn.never rfl (rH (eD j.cl j.nFo (eD T.cl T.nCh (pv 0)))) (eK (i:=2) Br.nd rfl (Or.inl rfl)) (eg (jO (i:=1) Br.nd rfl (Or.inl rfl) (eW gM (eV hu (eD j.cl j.nFo (eD T.cl T.nCh (pv 0))) (pv 2) (fun _ _=>rfl)) (eV hu (eD j.cl j.nBits (eD T.cl T.nCh (pv 0))) (pv 2) (fun _ _=>rfl))) sZ))) (eg (eR (oQ MS (hr.mono (by decide)) rfl eP (dU ef (dU (pv 1) (dU (ze (gY MW hr eP (pv 0) (dU gH (dU iO (dU ef ee))))) ee)))))))),?_⟩;obtain⟨dx,hp⟩:=r.self;have ag:=r.gh.ins hp;obtain⟨gx,gb,t,cd,cn,b9,b8,d,b7,d1,d2,d3,d4,d5,d6,d7,d8,B,U,as,a0⟩:=r.chart.ex;have d9:jK G d c c.Kf:=⟨B,U,as,a0⟩;refine⟨_,rfl,p,dx,_,V.ref ch,rfl,ag,(by kernel_rfl),ch,gx,_,V.ref d,rfl,r.gh.ins d1,(by kernel_rfl),d,_,rfl,(d9.f r.gh).get (w:=none) iW rfl,?_⟩;refine⟨_,rfl,p,dx,_,V.ref ch,rfl,ag,(by kernel_rfl),ch,gx,_,V.ref d,rfl,r.gh.ins d1,(by kernel_rfl),d,B,rfl,r.gh.rd U,fun o H1 sf ap b6=>?_⟩;have g1:er G H1:=r.gh.trans sf;have N:=g1.ins hp;have ad:=g1.ins d1;obtain⟨ws,R,a9⟩:=qD as;have lw:B.length=ws.length:=by
  have:=congrArg List.length R;rw[ab,ab]at this;exact this
 refine vc (kvs:=B) (fun i σ H2=>∃o2,σ=[some (.ref p),some (.int (c.KP (ws.take i):Nat)),o2]∧H2=H1) ⟨none,by rw[cT,dZ.KQ];rfl,rfl⟩ (fun i σ H2 _ ⟨_,_,e⟩=>by rw[e];exact b6) ?_ ?_
 ·rintro i kv x σ H2 hi kx ⟨o2,rfl,rfl⟩;have al:(B.map (·.1))[i]?=some kv.1:=by rw[ae,hi];rfl
  rw[R,ae]at al;obtain⟨v,hv,ev⟩:=ax.mp al;rw[←ev]at kx;have an:=gr.of kx;have X:=a9 v (aj hv);refine⟨_,rfl,_,rfl,p,dx,_,V.ref ch,rfl,N,(by kernel_rfl),ch,gx,_,V.ref d,rfl,ad,(by kernel_rfl),_,rfl,d,_,rfl,(d9.f g1).get X an,_,rfl,p,dx,_,V.ref ch,rfl,N,(by kernel_rfl),ch,gx,_,V.ref t,rfl,ad,(by kernel_rfl),_,rfl,t,_,rfl,(d4.f g1).get X an,_,_,rfl,rfl,_,_,rfl,rfl,?_⟩;refine⟨some x,?_,rfl⟩;rw[mw,wg,fm hv,dZ.KR X];rfl
 ·rintro σ H2 ⟨o2,rfl,rfl⟩;rw[lw,aF];have a1:∀k∈c.ks,some k∈ws:=fun k hk=>by
   have:=iA (a0 (some k) (fW hk));rw[R]at this;obtain⟨u,b,a7⟩:=av.mp this;rw[ie a7]at b;exact b
  refine⟨_,rfl,_,rfl,p,dx,_,rfl,N,(by kernel_rfl),fun e0 a6=>?_⟩;have s3:=eo a6 (.dK []);have bl:upd H2 e0 (.dK []) e0=some (.dK []):=dW;generalize upd H2 e0 (.dK [])=H3 at *;have g3:er G H3:=g1.trans s3.toF;refine⟨G,p,ch,le,fl,e0,c,[],[],.non,none,0,rfl,r.grow (er.refl _) g3,.inl bl,.nil,bp _,(fun x u h=>nomatch h),iW,rfl,fun m H4 kvs g s4 b4 bd bf b2=>?_⟩;refine⟨m,_,rfl,bd,trivial,fun J=>?_⟩;have bq:er H H4:=sf.trans (s3.trans s4).toF;have l:H m=none:=sf.free (s3.free b4);have aa:G m=none:=r.gh.free l;have b3:=iu.KO (O:=O) r.gh bq;have b5:=b3.own (u:=.frz J (.dK kvs)) l aa;have bv:upd H4 m (.frz J (.dK kvs)) m=some (.frz J (.dK kvs)):=dW;have D:=b5.base r.gh l bv;have a3:vy (upd G m (.frz J (.dK kvs))) m g:=⟨J,_,dW,Paired.Ja bf fun _ _ z=>z.f ((er.refl G).upd aa)⟩;have bx:∀a∈O,a≠d:=fun a S z=>by
   have:=ah a S;rw[z]at this;rcases U with y | ⟨o',y⟩ <;> (rw[this]at y;cases y)
  have a5:∀a∈O,upd H4 m (.frz J (.dK kvs)) a=H a:=fun a S=>by
   obtain⟨u,b⟩:=M a S;have h1:H2 a=some u:=by rw[ap a (bx a S)];exact b
   have h4:=s4 _ _ (s3 _ _ h1);rw[dY (fun z:a=m=>by rw[z,l]at b;cases b),h4,b]
  generalize upd G m (.frz J (.dK kvs))=G6 at *;generalize upd H4 m (.frz J (.dK kvs))=H6 at *;intro x I hx a4 a2;have sm:=made (C:=CT) hx a4 a2;have bm:upd (upd H6 I (.own x)) x (.ins CT I []) x=some (.ins CT I []):=dW;have b1:=D.trans (iu.same (O:=O) D.gh sm);generalize upd (upd H6 I (.own x)) x (.ins CT I [])=H7 at *;have Y:H x=none:=D.lv x hx;have Z:G6 x=none:=D.gh.free hx;refine⟨x,I,_,_,_,rfl,bm,rfl,?_⟩;have a8:=b1.own (u:=.ins CT I (yk (.int 0) (.int ((c.KP ws:Nat):Int)) (.ref m))) Y Z;refine q G6 _ x ⟨0,c.KP ws,g⟩ a8 Y Z ⟨I,m,dW,a3⟩ (fun L=>?_) rfl fun a S=>?_
  ·exact uK (i4 (c.Kj _) (c.JN _)) (fun k=>dZ.KS a1) b2
  ·obtain⟨u,b⟩:=M a S;have h6:H6 a=some u:=(a5 a S).trans b;rw[dY (fun z:a=x=>by rw[z,Y]at b;cases b),sm _ _ h6,b]
end
structure SS (CB CC CL CS CF CT:Addr)(G H:Hp)(p ch le fl:Addr)(c:dZ)(L:ic)(O:List Addr)(A:List (Addr×Addr))(F:List Fk):Prop where
 se:Se CB CC CS G H p ch le fl c
 led:fT CL G H le ch c L O
 ok:gC c L
 fk:iM CF CT G H c fl A F
 sep:yf O fl A
theorem SS.grow {p ch le:Addr}{c:dZ}{L L':ic}(h:SS CB CC CL CS CF CT G H p ch le fl c L O A F)(g:iu G H O G' H' O')(hl:fT CL G' H' le ch c L' O')(hok:gC c L'):SS CB CC CL CS CF CT G' H' p ch le fl c L' O' A F:=
 ⟨h.se.grow g.gg g.gh,hl,hok,h.fk.grow g h.sep,yf.grow h.fk g h.sep⟩
def yg (H:Hp)(O:List Addr)(G G':Hp):Prop:=∀x u,H x=some u→ud u→x∉O→G x=none→G' x=none
inductive C7 (CB CC CL CS CF CT:Addr)(vs:List V)(H:Hp)(Q:VK)(E:XK):Prop
 |mk (G:Hp)(p ch le fl:Addr)(c:dZ)(L:ic)(O:List Addr)(A:List (Addr×Addr))(B:List Fk)(g:Fk)(_:vs=[.ref p])(_:SS CB CC CL CS CF CT G H p ch le fl c L O A (B++[g]))(_:fz c L B.reverse g.sd)(_:jL c g)(_:NZ L)(_:(∀(G' H':Hp) (L':ic) (O':List Addr) (A':List (Addr×Addr)) (F':List Fk) (s:Addr) (d:Sd),er G G'→iE H O H' O'→yg H O G G'→SS CB CC CL CS CF CT G' H' p ch le fl c L' O' A' F'→fz c L' F'.reverse d→NZ L'→kK CT G' H' s d→G' s=none→s∉O'→s∉A'.map (·.2)→c.mv (c.n+1) F'≤c.mv (c.n+1) (B++[g])→Q (.ref s) H'))(_:(∀(G' H':Hp) (L':ic) (O':List Addr) (A':List (Addr×Addr)) (F':List Fk) (e:Nat×Rs),er G G'→iE H O H' O'→yg H O G G'→SS CB CC CL CS CF CT G' H' p ch le fl c L' O' A' F'→L'.getLast?=some e→e.1=0→Q .non H')):C7 CB CC CL CS CF CT vs H Q E
def uo (CB CC CL CS CF CT:Addr):Sp:=C7 CB CC CL CS CF CT
theorem Ev (a b t t':V):fM ("bit" : Str) t' (tD a b t)=tD a b t':=by kernel_rfl
theorem mj {c:dZ}{x:Str}{s:Sd}:∀j,c.has (hZ (c.Kc x) s.dead) j↔j∈c.left x s:=fun j=>by
 rw[dZ.JE,dZ.Kg,dZ.J3];exact⟨(by rintro⟨⟨h1,h2⟩,h3⟩;exact⟨h1,h2,h3⟩),(by rintro⟨h1,h2,h3⟩;exact⟨⟨h1,h2⟩,h3⟩)⟩
theorem zH {c:dZ}{g g':Fk}(hp:g'.part=g.part)(hs:g'.sd=g.sd):∀(d:Nat) (B:List Fk),c.mv d (B++[g'])=c.mv d (B++[g])
 |0,_=>by unfold dZ.mv;rfl
 |d+1,[]=>by
  show c.cnt g'*(c.n+2)^d+c.mv d []=c.cnt g*(c.n+2)^d+c.mv d [];unfold dZ.cnt;rw[hp,hs]
 |d+1,f::B=>by
  show c.cnt f*(c.n+2)^d+c.mv d (B++[g'])=c.cnt f*(c.n+2)^d+c.mv d (B++[g]);rw[zH hp hs d B]
section
variable {base:Heap}{f:Addr}
theorem DM:eG ["self","fork","left"] ["self"] (eA yR):=i8
theorem BW (F:iL K "go_on" "Search.go_on" yR f fd)(T:sr K mg CS)(df:TC K mg CC)(TF:AH K mg CF)(d8:Mt P w K mg base CC eZ 1 "listed" ["self","mask"] (iX CC))(ep:Mt P w K mg base CS eZ 1 "left" ["self","stand","part"] (qP CB CC CS CT))(MB:Mt P w K mg base CS eZ 3 "stand_behind" ["self","fork"] (oo CB CC CL CS CF CT))(MS:Mt P w K mg base CS eZ 5 "shut" ["self","fork","known"] (qJ CB CC CL CS CF CT))(MG:Mt P w K mg base CS eZ 2 "go_back" ["self","place"] (oj CB CC CL CS CF CT)):fb P w K mg base eZ 6 f fd ["self"] (uo CB CC CL CS CF CT):=by
 refine F.ok DM (fun vs H Q E h=>?_) (fun cdv A outer s H vs Q E hr h=>?_)
 ·obtain⟨G,p,ch,le,fl,c,L,O,AA,B,g,rfl,_⟩:=h;rfl
 obtain⟨G,p,ch,le,fl,c,L,O,AA,B,g,rfl,e1,ew,hg,e4,q1,q2⟩:=h;have hu:=gc hr;refine⟨_,(dX (jD PassesOwn.never (iw (eD T.cl T.nFo (pv 0)) (fun _=>rfl)) (dX (eF (i:=1) DM.nd rfl (Or.inl rfl) (eO fE (eD T.cl T.nFo (pv 0)) (iY jM ef) (fun _ _=>rfl))) (dX (eF (i:=2) DM.nd rfl (Or.inl rfl) (gY d8 (hr.mono (by decide)) eP (eD T.cl T.nCh (pv 0)) (dU (gY ep (hr.mono (by decide)) eP (pv 0) (dU (eD TF.cl TF.nSt (pv 1)) (dU (eD TF.cl TF.nPa (pv 1)) ee))) ee))) (dX (gj (iw (pv 2) (fun _=>rfl)) (dX (jl TF.cl TF.nBi (pv 1) (eV hu (eD df.cl df.nBits (eD T.cl T.nCh (pv 0))) (eO fE (pv 2) (iY jM ef) (fun _ _=>rfl)) (fun _ _=>rfl))) (eg (eR (gY MB (hr.mono (by decide)) eP (pv 0) (dU (pv 1) ee))))) ff) (eg (fU (gY MG (hr.mono (by decide)) eP (pv 0) (dU (gY MS hr eP (pv 0) (dU (pv 1) (dU gH ee))) ee)))))))) (eg (eR iO))),?_⟩;refine⟨fun m σ H2=>∃(S:Hp) (L2:ic) (Y:List Addr) (r:List (Addr×Addr)) (F2:List Fk) (o1 o2:Option V),σ=[some (.ref p),o1,o2]∧er G S∧iE H O H2 Y∧yg H O G S∧SS CB CC CL CS CF CT S H2 p ch le fl c L2 Y r F2∧((F2=[]∧m=0∧∃e,L2.getLast?=some e∧e.1=0)∨∃o g2,F2=o++[g2]∧m=c.mv (c.n+1) F2+1∧c.mv (c.n+1) F2≤c.mv (c.n+1) (B++[g])∧fz c L2 o.reverse g2.sd∧jL c g2∧NZ L2),⟨c.mv (c.n+1) (B++[g])+1,G,L,O,AA,B++[g],none,none,rfl,er.refl _,iE.refl _ _,(fun _ _ _ _ _ h=>h),e1,.inr ⟨B,g,rfl,rfl,aq _,ew,hg,e4⟩⟩,?_⟩;rintro m σ H2 ⟨S,L2,Y,r,F2,o1,o2,rfl,bv,an,bm,M,b3⟩;obtain⟨dx,hp⟩:=M.se.self;have al:=M.se.gh.ins hp;refine⟨_,rfl,p,dx,_,V.ref fl,rfl,al,(by kernel_rfl),_,.inl ⟨_,eX.of M.fk.l,rfl⟩,?_⟩;have lA:=Paired.length M.fk.p;rcases b3 with ⟨rfl,rfl,e,d7,e3⟩ | ⟨o,g2,rfl,rfl,c7,d,a0,a2⟩
 ·have:r=[]:=bH.mp (by simpa using lA);subst this;refine gv ?_;exact q2 S H2 L2 Y [] [] e bv an bm M d7 e3
 ·have ct:=d.depth;rw[c0]at ct;have et:=M.se.n;rw[aE,aR]at lA;obtain⟨a,ha⟩:∃a,r[o.length]?=some a:=⟨r[o.length]'(by lia),am _⟩;have bl:(o++[g2])[o.length]?=some g2:=by rw[aW (aq _),bK];rfl
  have ev:lU CF CT S H2 c a g2:=by
   obtain⟨c3,N,z2⟩:=Paired.Ju M.fk.p ha;rw[bl]at N;cases N;exact z2
  obtain⟨⟨fx,a8⟩,ed⟩:=id ev;have dv:r=r.take o.length++[a]:=by rw[←fm ha,←lA,aF]
  have ey:(r.map fun a=>V.ref a.1)[(r.map fun a=>V.ref a.1).length-1]?=some (.ref a.1):=by
   rw[ab,lA,dL,ae,ha];rfl
  have dl:(!(r.map fun a=>V.ref a.1).isEmpty)=true:=by rw[dv];simp
  rw[dl];refine ir ⟨fun σ' H'=>∃m',m'<c.mv (c.n+1) (o++[g2])+1∧_,fun _ _ h=>h,?_⟩;refine⟨_,rfl,p,dx,_,V.ref fl,rfl,al,(by kernel_rfl),_,rfl,fl,_,_,V.ref a.1,rfl,rfl,eX.of M.fk.l,nS ey,?_⟩;obtain⟨gx,gb,ap,eh,e7,e8,e6,e9,e5,d1,d2,d3,d4,d5,d6⟩:=M.se.chart.ex;refine⟨_,rfl,p,dx,_,V.ref ch,rfl,al,(by kernel_rfl),ch,gx,_,rfl,M.se.gh.ins d1,(by kernel_rfl),_,rfl,p,dx,_,rfl,al,(by kernel_rfl),_,rfl,a.1,fx,_,V.ref a.2,rfl,a8,(by kernel_rfl),_,rfl,a.1,fx,_,V.str g2.part,rfl,a8,(by kernel_rfl),S,p,ch,le,fl,a.2,c,g2.sd,g2.part,rfl,M.se,ed,?_⟩;have d9:hZ (c.Kc g2.part) g2.sd.dead<2^c.n:=jg (c.JN _);refine⟨S,ch,gx,eh,_,c,_,rfl,M.se.gh,M.se.gh.ins d1,(by kernel_rfl),d5,et,d9,fun l xs H3 s3 hl b6 c4 e0=>?_⟩;have as:=iu.same (O:=Y) M.se.gh s3;have C:=M.grow as (M.led.same s3) M.ok;have b1:=s3 _ _ al;have R:=s3 _ _ a8;have lx:=Paired.length c4;refine⟨_,rfl,_,.inl ⟨xs,eX.of b6,rfl⟩,?_⟩;by_cases hxe:xs=[]
  ·subst hxe;refine gv ?_;have b9:c.listed (hZ (c.Kc g2.part) g2.sd.dead)=[]:=bH.mp lx.symm;have bf:∀k∈c.ks,k.1=g2.part→c.has g2.sd.dead k:=fun k hk ah=>Classical.byContradiction fun z=>by
    have:k∈c.listed (hZ (c.Kc g2.part) g2.sd.dead):=dZ.JB.mpr ((mj k).mpr (dZ.J3.mpr ⟨hk,ah,z⟩));rw[b9]at this;cases this
   have da:∀f∈o++[g2],iz c L2 f.sd:=fun f hf=>by
    rcases ay.mp hf with z | z
    ·exact(d.fks f (ci.mpr z)).2
    ·rw[ai.mp z];exact d.sd
   have b2:pF c (o++[g2]):=by
    have:=d.mono g2 rfl;rw[cS]at this;exact this
   refine⟨_,rfl,p,dx,_,rfl,b1,(by kernel_rfl),_,rfl,p,dx,_,rfl,b1,(by kernel_rfl),_,rfl,fun kd a5=>?_⟩;have s4:=eo a5 (.dK []);have em:upd H3 kd (.dK []) kd=some (.dK []):=dW;generalize upd H3 kd (.dK [])=H4 at *;have b5:=iu.same (O:=Y) C.se.gh s4;have S4:=C.grow b5 (C.led.same s4) C.ok;have eu:kd∉Y:=fun z=>by obtain⟨u,D⟩:=C.led.liv kd z;rw[a5]at D;cases D
   refine⟨S,p,ch,le,fl,c,L2,Y,r,o++[g2],o.length,a,g2,kd,[],none,rfl,S4.se,S4.led,S4.ok,S4.fk,S4.sep,b2,da,by rw[aE,aR];lia,ha,bl,a0.open_,.inl em,eu,rfl,fun k hk ah=>.inl (bf k hk ah),fun m hm=>?_,?_⟩
   ·intro j1 j2 h1 h2 e;have N:=(hm j1 h1).resolve_right (by rintro⟨_,_,_,z,_⟩;exact nomatch z);have z2:=(hm j2 h2).resolve_right (by rintro⟨_,_,_,z,_⟩;exact nomatch z);exact d.sd.one j1 j2 N z2 e
   intro G5 H5 O5 L5 j e v bx ag eq cs cn a6;have I:=S4.grow v bx ag;have c2:∀j,c.has e.1 j→c.has g2.sd.picked j:=fun j hj=>(cn j hj).resolve_right (by rintro⟨_,_,_,z,_⟩;exact nomatch z);have bd:=aj cs;have b7:fz c L5 o.reverse g2.sd:=d.led fun x hx=>by obtain⟨X,hX⟩:=eq;rw[hX];exact aJ _ hx
   have bq:∀f∈o++[g2],∀k,f.bit=some k→k∈c.ks:=fun f hf k hk=>by
    rcases ay.mp hf with z | z
    ·exact((d.fks f (ci.mpr z)).1.bit k hk).1
    ·rw[ai.mp z]at hk;exact(a0.bit k hk).1
   refine⟨G5,p,ch,le,fl,c,L5,O5,r,o++[g2],j,e,rfl,I.se,I.led,I.fk,I.sep,cs,by rw[aE,aR];lia,bq,fun n H6 hn eb s6 es=>?_⟩;have ez:∀y∈fl::r.map (·.2),∃u,H5 y=some u∧¬ud u:=fun y U=>by
    rcases ak.mp U with z | z
    ·exact⟨.lst _,by rw[z];exact I.fk.l,fun q=>q⟩
    ·obtain⟨a',J,rfl⟩:=av.mp z;obtain⟨t,ht⟩:=az.mp J;obtain⟨fk,_,_,sx,wa,aa,_⟩:=Paired.Ju I.fk.p ht;exact⟨.ins _ _ _,aa,fun q=>q⟩
   have c5:∀y∈fl::r.map (·.2),G5 y=none:=fun y U=>by
    rcases ak.mp U with z | z
    ·rw[z];exact I.fk.offl
    ·obtain⟨a',J,rfl⟩:=av.mp z;exact(I.fk.off a' J).2
   have cy:∀y∈O5,y∉fl::r.map (·.2):=fun y U z=>by
    rcases ak.mp z with z | z
    ·exact I.sep.1 (z▸U)
    ·obtain⟨a',J,rfl⟩:=av.mp z;exact(I.sep.2 a' J).2 U
   have g6:er G5 H6:=ig I.se.gh c5 s6.toF;have dn:fT CL G5 H6 le ch c L5 O5:=I.led.grow (er.refl _) I.led.off fun y U=>by
    obtain⟨u,D⟩:=I.led.liv y U;rw[s6 y u (by rw[el (cy y U)];exact D),D]
   have S6:SS CB CC CL CS CF CT G5 H6 p ch le fl c L5 O5 (r.take n) (c.KK e.1 ((o++[g2]).take n)):=⟨I.se.grow (er.refl _) g6,dn,ag,es,I.sep.1,fun a' J=>I.sep.2 a' (dF J)⟩;have b8:iE H O H6 O5:=an.trans ((as.KN.trans (b5.KN.trans v.KN)).trans (iE.del s6.toF ez));have c6:er G G5:=bv.trans v.gg;have a3:yg H O G G5:=fun x u h f n g=>v.off (bm x u h f n g) ((an.trans (as.KN.trans b5.KN)) x u h f n).1;rcases yc b7 a0 bd (ag.lt e bd) c2 eb with ⟨N,z2⟩ | ⟨B3,g3,N,z2,z3,z4,z5⟩
   ·have ej:c.KK e.1 ((o++[g2]).take n)=[]:=by rw[N];rfl
    rw[ej]at S6;refine⟨0,Nat.succ_pos _,G5,L5,O5,r.take n,[],_,_,rfl,c6,b8,a3,S6,.inl ⟨rfl,rfl,e,?_,z2⟩⟩;rcases a6 a2 with y | ⟨_,y⟩
    ·exact absurd z2 (y e bd)
    ·exact y
   ·rw[N]at S6;refine⟨_,Nat.succ_lt_succ z4,G5,L5,O5,r.take n,B3++[g3],_,_,rfl,c6,b8,a3,S6,.inr ⟨B3,g3,rfl,rfl,bj (cK z4) c7,z2,z3,?_⟩⟩;rcases a6 a2 with y | ⟨y,_⟩
    ·exact y
    ·exact absurd y z5
  ·have dd:(!xs.isEmpty)=true:=by cases xs with | nil=>exact absurd rfl hxe | cons a b=>rfl
   rw[dd];refine ir ?_;have ea:c.listed (hZ (c.Kc g2.part) g2.sd.dead)≠[]:=fun z=>hxe (bH.mp (by rw[lx,z];rfl));obtain⟨k,hkl⟩:∃k,(c.listed (hZ (c.Kc g2.part) g2.sd.dead)).getLast?=some k:=⟨_,List.getLast?_eq_some_getLast ea⟩;obtain⟨hk,ah,a5,a4⟩:=xQ mj hkl;obtain⟨x,a1,a9⟩:∃x,xs[xs.length-1]?=some x∧fj S x k:=by
    have h1:(c.listed (hZ (c.Kc g2.part) g2.sd.dead))[xs.length-1]?=some k:=by rw[lx,←List.getLast?_eq_getElem?];exact hkl
    obtain⟨x,N,z2⟩:=mi c4 (i:=((xs.length-1:Nat):Int)) (by rw[iI];exact h1);rw[iI]at N;exact⟨x,N,z2⟩
   have g3:=C.se.gh;refine⟨_,rfl,p,dx,_,V.ref ch,rfl,b1,(by kernel_rfl),ch,gx,_,V.ref ap,rfl,g3.ins d1,(by kernel_rfl),_,rfl,_,rfl,l,_,_,x,rfl,rfl,eX.of b6,nS a1,ap,_,rfl,(d4.f g3).get (w:=some k) (fW hk) (fj.f g3 a9),_,rfl,a.1,fx,_,rfl,R,(by show 3<1000;decide),?_⟩;rw[Ev];have c8:=aj ha;have cv:∀{y dy y1 y2 y3},H3 y=some (.ins CT dy (yk y1 y2 y3))→y≠a.1:=fun h=>Ne.symm (yD R h);have fa:l≠a.1:=fe b6 R fun z=>nomatch z;have Z:∀b,b≠a.1→upd H3 a.1 (.ins CF fx (tD (.str g2.part) (.ref a.2) (.int (c.Jw (some k):Nat)))) b=H3 b:=fun b hb=>dY hb;have cp:upd H3 a.1 (.ins CF fx (tD (.str g2.part) (.ref a.2) (.int (c.Jw (some k):Nat)))) a.1=some (.ins CF fx (tD (.str g2.part) (.ref a.2) (.int (c.Jw (some k):Nat)))):=dW;generalize upd H3 a.1 (.ins CF fx (tD (.str g2.part) (.ref a.2) (.int (c.Jw (some k):Nat))))=H4 at *;have g4:er S H4:=fun b u e=>by
    have nb:b≠a.1:=fun z=>by rw[z,(C.fk.off a c8).1]at e;cases e
    rw[Z b nb];exact g3 b u e
   have dr:a.1∉Y:=(C.sep.2 a c8).1;have ad:fT CL S H4 le ch c L2 Y:=C.led.grow (er.refl _) C.led.off fun y U=>Z y fun z=>dr (z▸U);obtain⟨⟨fx3,hfa3⟩,hst3⟩:lU CF CT S H3 c a g2:=by
    obtain⟨c3,N,z2⟩:=Paired.Ju C.fk.p ha;rw[bl]at N;cases N;exact z2
   have ei:fl≠a.1:=fe C.fk.l R fun z=>nomatch z;have ec:∀(t:Nat) (b:Addr×Addr),r[t]?=some b→t≠o.length→b.1≠a.1:=fun t b hb ht z=>by
    have a1:(r.map (·.1))[t]?=some b.1:=by rw[ae,hb];rfl
    have a9:(r.map (·.1))[o.length]?=some a.1:=by rw[ae,ha];rfl
    rw[z]at a1;exact ht ((cc (af.mp a1).1 C.fk.nd1).mp (a1.trans a9.symm))
   have a7:kK CT S H4 a.2 g2.sd:=by
    obtain⟨sx,wa,aa,e2⟩:=hst3;exact⟨sx,wa,by rw[Z _ (cv aa)];exact aa,e2⟩
   have cd:iM CF CT S H4 c fl r (o++[{g2 with bit:=some k}]):=by
    refine⟨by rw[Z fl ei];exact C.fk.l,jF (by rw[aE,aR];exact lA) fun t b fk h1 h2=>?_,C.fk.offl,C.fk.off,C.fk.nd1,C.fk.nd2⟩;by_cases ht:t=o.length
    ·subst ht;rw[ha]at h1;cases h1;rw[aW (aq _),bK]at h2;have:({g2 with bit:=some k}:Fk)=fk:=by simpa using h2
     subst this;exact⟨⟨fx,cp⟩,a7⟩
    ·have c9:t<o.length:=by
      have:=(af.mp h2).1;rw[aE,aR]at this
      lia
     rw[aK c9]at h2;obtain⟨c3,N,⟨y1,z2⟩,y2,w2,z3,z4⟩:=Paired.Ju C.fk.p h1;rw[aK c9,h2]at N;cases N;exact⟨⟨y1,by rw[Z _ (ec t b h1 ht)];exact z2⟩,y2,w2,by rw[Z _ (cv z3)];exact z3,z4⟩
   have dc:jL c {g2 with bit:=some k}:=⟨a0.open_,a0.rule,fun j hj=>by cases hj;exact⟨hk,ah,a4⟩⟩;have ds:H4 p=some (.ins CS dx (wY ch le fl)):=g4.ins hp;have S4:SS CB CC CL CS CF CT S H4 p ch le fl c L2 Y r (o++[{g2 with bit:=some k}]):=⟨C.se.grow (er.refl _) g4,ad,C.ok,cd,C.sep⟩
   have cz:iE H3 Y H4 Y:=iE.del (ys:=[a.1]) (fun b u hb=>by
    have nb:b≠a.1:=fun z=>by rw[z,fq (by simp)]at hb;cases hb
    rw[Z b nb];exact .inl (eU _ _ b u hb)) fun y U=>by rw[ai.mp U];exact⟨_,R,fun q=>q⟩
   refine⟨_,rfl,p,dx,_,rfl,ds,(by kernel_rfl),_,rfl,S,p,ch,le,fl,c,L2,Y,a,{g2 with bit:=some k},k,rfl,S4.se,ad,S4.ok,⟨⟨fx,cp⟩,a7⟩,rfl,dc,d.sd,a5,?_⟩;intro G5 H5 s5 d5 v co ek cx ⟨c1,b4⟩ dp;have bx:fT CL G5 H5 le ch c L2 Y:=ad.grow v.gg (fun y U=>by obtain⟨u,D⟩:=ad.liv y U;exact v.off (ad.off y U) D) dp;have I:=S4.grow v bx S4.ok;have a3:yg H O G G5:=fun x u h f n g=>v.off (bm x u h f n g) ((an.trans (as.KN.trans cz)) x u h f n).1;refine q1 G5 H5 L2 Y r _ s5 d5 (bv.trans v.gg) (an.trans (as.KN.trans (cz.trans v.KN))) a3 I ?_ a2 cx ek (fun z=>?_) (fun z=>?_) (by rw[zH (g:=g2) (g':={g2 with bit:=some k}) rfl rfl];exact c7)
   ·rw[cC,List.reverse_singleton,List.singleton_append];exact .cons d dc b4 c1
   ·obtain⟨u,D⟩:=ad.liv s5 z;rw[co]at D;cases D
   ·obtain⟨a',J,rfl⟩:=av.mp z;obtain⟨t,ht⟩:=az.mp J;obtain⟨fk,_,_,sx,wa,aa,_⟩:=Paired.Ju cd.p ht;rw[co]at aa;cases aa
end
end FB
namespace FB
open PySem L2 PyProof.Rows
structure A9 (K:W.Frag)(x qual:Str)(st:Stmt)(f:Addr)(fd:FuncData)(c:Addr):Prop where
 ex:∃(oc:Value) (od:Option Addr) (kV doc pm:Value) (an:Option Addr) (ct:Value) (osl:Array (Option Value)),
  fd=W.fnOf x qual (gO st) (gi st) (eA st) .none kV doc pm an (.ref c) ct∧K.lookup f=some ⟨oc,od,.func fd,osl⟩∧W.codeIn K (.ref c) qual=true
 kp:W.keepIn K (.ref f)=true
section
variable {P:Program}{w:World}{K:W.Frag}{mg:Str→Option Value}{base:Heap}
theorem A9.ok {x qual:Str}{st:Stmt}{f c:Addr}{fd:FuncData}{N ps:List Str}{k:Nat}{sp:Sp}(F:A9 K x qual st f fd c)(S:eG N ps (eA st))(len:∀vs H Q E,sp vs H Q E→vs.length=ps.length)(a:∀(A:Around) (outer:List Env) (s:Shared) (H:Hp) (vs:List V) (Q:VK) (E:XK),gE k (A.deeper (envOfC qual (eA st) s.heap.objs.size f (.ref c)))→sp vs H Q E→∃t,lW (tI eZ P w K mg base N qual (eA st) f (.ref c) A outer s H E).nox (gi st) t∧t {nx:=fun _ H'=>Q .non H',rt:=Q} (start N vs) H):fb P w K mg base eZ (k+1) f fd ps sp:=by
 obtain⟨l,o,kV,i,pm,m,p,j,rfl,e,d⟩:=F.ex;refine CW e d S len fun A outer s H vs Q E g b=>?_;obtain⟨t,h,q⟩:=a A outer s H vs Q E g b;exact⟨t,h.nox,q⟩
end
end FB
namespace FB
open PySem L2 PyProof.Rows
seal lW PS PE PT PA
def yl:Pos:=match gi sJ with
 |(.Assign _ (.Call _ _ [⟨_,.Lambda _ _ _ lp,_⟩] _) _)::_=>lp
 |_=>⟨0,0,0,0⟩
def Bb:Str:=(envOfC "Search.next_part" (eA sJ) 0 0 .none).qual++"<lambda>"
theorem Ac {names:List (Str×NameKind)}{y y':Str}(h:∀p∈names,p.2=.free→p.1=y∨p.1=y'):∀z,names.lookup z=some .free→z=y∨z=y':=fun z hz=>by
 induction names with
 |nil=>cases hz
 |cons a l ih=>
  rw[aY]at hz;by_cases e:(z == a.1)=true
  ·rw[e]at hz;have e1:z=a.1:=by simpa using e
   have d:a.2=.free:=Option.some.inj hz;rw[e1];exact h a (by simp) d
  ·have b:(z == a.1)=false:=by cases hh:(z == a.1) <;> simp_all
   rw[b]at hz;exact ih (fun p hp=>h p (by simp[hp])) hz
theorem Cd {c:dZ}{x:Str}{s:Sd}:c.listed (hZ (c.Kc x) s.dead)=c.left x s:=by
 unfold dZ.listed dZ.left;refine List.filter_congr fun k a=>?_;rw[cN,aH,aA,bJ,decide_eq_false_iff_not];have h1:=mj (c:=c) (x:=x) (s:=s) k;rw[dZ.J3]at h1;exact⟨fun z=>(h1.mp ⟨a,z⟩).2,fun z=>(h1.mpr ⟨a,z⟩).2⟩
inductive C1 (CB CC CS CT:Addr)(tq:Str)(lp:Pos)(PT':Addr)(vs:List V)(H:Hp)(Q:VK)(E:XK):Prop
 |mk (G:Hp)(p ch le fl s:Addr)(c:dZ)(L:ic)(sd:Sd)(_:vs=[.ref p,.ref s])(_:Se CB CC CS G H p ch le fl c)(_:kK CT G H s sd)(_:iz c L sd)(_:sd.wanted≠[])(_:gW tq lp H PT')(_:G PT'=none)(_:∀(x:Str) (H':Hp),x∈sd.wanted.map (·.1)→c.Rule x sd→eB (del H [PT']) H'→gW tq lp H' PT'→Q (.str x) H'):C1 CB CC CS CT tq lp PT' vs H Q E
def uk (CB CC CS CT:Addr)(tq:Str)(lp:Pos)(PT':Addr):Sp:=C1 CB CC CS CT tq lp PT'
section
variable {P:Program}{w:World}{K:W.Frag}{mg:Str→Option Value}{base:Heap}{f cd:Addr}{fd:FuncData}
theorem DJ:eG ["self","stand","fewest","first"] ["self","stand"] (eA sJ):=i8
theorem BQ {CB CC CS CT g PP:Addr}{gd:FuncData}(F:A9 K "next_part" "Search.next_part" sJ f fd cd)(a3:W.codeHdIn K cd PP=true)(BM:sk mg base)(T:sr K mg CS)(as:TC K mg CC)(TT:Cv K mg CT)(GC:fb P w K mg base eZ 1 g gd ["mask"] qS)(bG:gs K gd ["mask"] [])(kG:W.keepIn K (.ref g)=true)(mG:mg "count_picks" = some (.ref g))(ML:Mt P w K mg base CS eZ 1 "left" ["self","stand","part"] (qP CB CC CS CT)):fb P w K mg base eZ 5 f fd ["self","stand"] (uk CB CC CS CT Bb yl PP):=by
 refine F.ok DJ (fun vs H Q E h=>?_) (fun A outer s H vs Q E hr h=>?_)
 ·obtain⟨G,p,ch,le,fl,s,c,L,sd,rfl,_⟩:=h;rfl
 obtain⟨G,p,ch,le,fl,R,c,L,sd,rfl,hS,a6,aa,a0,hT,gP,q⟩:=h;have hu:=gc hr;refine⟨_,(dX (eF (i:=2) DJ.nd rfl (Or.inl rfl) (BE (k:=2) (x:="part") (y:="stand") (y':="self") (j:=1) (j':=0) (cy:=s.heap.objs.size+2) (cy':=s.heap.objs.size+1) rfl hr ⟨rfl,rfl,rfl,rfl,rfl,rfl,rfl,by decide +kernel,Ac (by decide +kernel),rfl,rfl,rfl,rfl,rfl,rfl,Or.inr (Or.inl rfl),Or.inr (Or.inl rfl),by decide +kernel,by decide +kernel,by decide +kernel⟩ rfl a3 BM rfl rfl T.min (eD TT.cl TT.nWa (pv 1)) (fun _ _ _ _=>rfl) (fun q c' s H=>fw GC (gE.mono (gE.deeper (gE.in1 hr) _) (by decide:1≤2)) rfl mG kG bG .nil eP (dU (gY ML (gE.mono (gE.deeper (gE.in1 hr) _) (by decide:1≤2)) eP (pv 2) (dU (pv 1) (dU (pv 0) ee))) ee)))) (dX (eF (i:=3) DJ.nd rfl (Or.inl rfl) (eO fE (iP (tO rfl) rfl T.list boot_list (dU (eD TT.cl TT.nWa (pv 1)) ee)) ef (fun _ _=>rfl))) (dX (gj (PW.pt (rE (iN (rL hu (pv 3) (eV hu (eD as.cl as.nAl (eD T.cl T.nCh (pv 0))) iO (fun _ _=>rfl)))) (nB (gu zo (fw GC (hr.mono (by decide:1≤4)) rfl mG kG bG .nil eP (dU (gY ML (hr.mono (by decide:1≤4)) eP (pv 0) (dU (pv 1) (dU (pv 2) ee))) ee)) ef (gJ _))))) (eg (eR (pv 3))) ff) (eg (eR (pv 2)))))),?_⟩;obtain⟨dx,hp⟩:=hS.self;have bl:=hS.gh.ins hp;obtain⟨sx,wa,S,wo,m,J,M⟩:=id a6;have lw:=Paired.length M;obtain⟨⟨x0,u0⟩,wr,hw0⟩:∃xu wr,sd.wanted=xu::wr:=by
  cases h:sd.wanted with
  |nil=>exact absurd h a0
  |cons a b=>exact⟨a,b,rfl⟩
 have B:0<m.length:=by rw[lw,hw0];exact Nat.succ_pos _
 have r:∀(i:Nat) (o:fZ×V),m[i]?=some o→∃x u,sd.wanted[i]?=some (x,u)∧o.1=Sum.inr x:=fun i o h=>by
  obtain⟨⟨x,u⟩,D,I⟩:=Paired.Ju M h;exact⟨x,u,D,I.1⟩
 have hP:∃u,H PP=some u∧ud u:=by
  rcases hT with z | ⟨c',z,_⟩
  ·exact⟨_,z,trivial⟩
  ·exact⟨_,z,trivial⟩
 have nP:∀{a C d fs},H a=some (.ins C d fs)→a≠PP:=fun {a C d fs} h z=>by
  obtain⟨u,D,I⟩:=hP;rw[z,D]at h;cases h;exact I
 refine⟨_,rfl,R,sx,_,V.ref wa,rfl,S,(by kernel_rfl),wa,wo,m,V.ref R,V.ref p,rfl,hS.gh.frz J,B,hT,rfl,rfl,fun H2 sm a1=>?_⟩;have g2:er G H2:=ig hS.gh (O:=[PP]) (fun a ha=>by rw[ai.mp ha];exact gP) sm.toF;have ag:Se CB CC CS G H2 p ch le fl c:=hS.grow (er.refl _) g2;have a5:=g2.ins hp;have t:H2 R=some (.ins CT sx (yk (.int (sd.picked:Nat)) (.int (sd.dead:Nat)) (.ref wa))):=sm _ _ (by rw[el (by simpa using nP S)];exact S);have an:kK CT G H2 R sd:=⟨sx,wa,t,wo,m,J,M⟩
 refine⟨fun i=>match sd.wanted[i]? with
  |some xu=>((c.listed (hZ (c.Kc xu.1) sd.dead)).length:Nat)
  |none=>0,fun i o hi=>?_,fun i o hi a9=>?_⟩
 ·obtain⟨x,u,D,I⟩:=r i o hi;dsimp only;rw[D,I];exact⟨_,rfl,p,dx,_,rfl,a5,(by kernel_rfl),_,rfl,_,rfl,G,p,ch,le,fl,R,c,sd,x,rfl,ag,an,c,_,rfl,jg (c.JN _),rfl,rfl⟩
 ·obtain⟨x,u,D,I⟩:=r i o hi;rw[I];have ap:x∈sd.wanted.map (·.1):=av.mpr ⟨(x,u),aj D,rfl⟩;refine⟨_,rfl,R,sx,_,V.ref wa,rfl,t,(by kernel_rfl),wa,m,rfl,.inr ⟨wo,g2.frz J⟩,fun l hl=>?_⟩;have Z:=eo hl (.lst (m.map fun o=>kV o.1));obtain⟨kv0,kvr,hk0,hk1⟩:∃kv0 kvr,m=kv0::kvr∧kv0.1=Sum.inr x0:=by
   cases hwk:m with
   |nil=>rw[hwk]at B;cases B
   |cons a b=>
    obtain⟨x',u',y1,y2⟩:=r 0 a (by rw[hwk];rfl);rw[hw0]at y1;cases y1;exact⟨a,b,rfl,y2⟩
  have a8:upd H2 l (.lst (m.map fun o=>kV o.1)) l=some (.lst (V.str x0::kvr.map fun o=>kV o.1)):=by
   rw[dW,hk0,aD,hk1];rfl
  generalize upd H2 l (.lst (m.map fun o=>kV o.1))=H3 at *;have g3:er G H3:=g2.trans Z.toF;have ad:=g3.ins hp;refine⟨l,_,_,V.str x0,rfl,rfl,eX.of a8,lS,?_⟩;obtain⟨gx,gb,a4,bm,bv,al,bf,bq,bd,d1,d2,d3,d4,d5,d6,d7,d8,d9⟩:=hS.chart.ex;obtain⟨da,e1,oa,U,e2,e3,e4⟩:=(d7.f g3).get (w:=none) iW rfl;refine⟨_,rfl,_,rfl,p,dx,_,V.ref ch,rfl,ad,(by kernel_rfl),ch,gx,_,V.ref al,rfl,g3.ins d1,(by kernel_rfl),al,_,rfl,e1,da,_,rfl,.inl ⟨U,Sum.inr x0,.inr ⟨oa,e2⟩,rfl,rfl⟩,_,rfl,?_⟩;have a7:(eN U (Sum.inr x0)).isSome=decide (x0∈c.start):=by
   by_cases hx:x0∈c.start
   ·rw[e4 x0 hx,ao hx];rfl
   ·rw[au hx];cases hq:eN U (Sum.inr x0) with
    |none=>rfl
    |some v=>
     have:=iA hq;rw[e3]at this;obtain⟨y,hy,e⟩:=av.mp this;rw[Sum.inr.inj e]at hy;exact absurd hy hx
  rw[a7];have h0:(sd.wanted.map (·.1))[0]?=some x0:=by rw[hw0];rfl
  have N:x0∈sd.wanted.map (·.1):=by rw[hw0];exact bh
  have X:eB (del H [PP]) H3:=sm.trans Z;have Y:gW Bb yl H3 PP:=by
   rcases a1 with z | ⟨c',D,I⟩
   ·exact .inl (Z _ _ z)
   ·exact .inr ⟨c',Z _ _ D,Z _ _ I⟩
  have a2:=ag.same Z;have ah:kK CT G H3 R sd:=⟨sx,wa,Z _ _ t,wo,m,J,M⟩;by_cases hx:x0∈c.start
  ·rw[ao hx];refine ir ?_;refine⟨_,rfl,p,dx,_,rfl,ad,(by kernel_rfl),_,rfl,_,rfl,G,p,ch,le,fl,R,c,sd,x,rfl,a2,ah,c,_,rfl,jg (c.JN _),_,_,rfl,rfl,_,rfl,?_⟩;dsimp only;rw[Cd];by_cases h1:(1:Int)<((c.left x sd).length:Nat)
   ·rw[ao h1];exact ir ⟨_,rfl,q x0 H3 N (rD aa h0 (.inl ⟨rfl,hx⟩)) X Y⟩
   ·rw[au h1];exact gv ⟨_,rfl,q x H3 ap (rD aa h0 (.inr (.inr (by omega)))) X Y⟩
  ·rw[au hx];refine gv (gv ⟨_,rfl,q x H3 ap (rD aa h0 (.inr (.inl hx))) X Y⟩)
end
def dZ.KU (c:dZ)(n:Nd)(k:Pk):List Pk:=((jy c.es n).filter fun v=>decide (k.2<v)).map fun v=>(k.1,v)
inductive Ax (CB CC CS CF CT:Addr)(vs:List V)(H:Hp)(Q:VK)(E:XK):Prop
 |mk (G:Hp)(p ch le fl:Addr)(c:dZ)(O:List Addr)(a:Addr×Addr)(fk:Fk)(k:Pk)(_:vs=[.ref p,.ref a.1])(_:Se CB CC CS G H p ch le fl c)(_:lU CF CT G H c a fk)(_:fk.bit=some k)(_:k∈c.ks)(_:k.1=fk.part)(_:fk.part∈(c.needs none).map (·.1))(_:(∀a∈O,∃u,H a=some u))(_:∀(G' H':Hp) (l:Addr) (xs:List V) (n:Nd),iu G H O G' H' O→(∀a∈O,H' a=H a)→H l=none→G' l=none→H' l=some (.lst xs)→(c.needs none)[((c.needs none).map (·.1)).idxOf fk.part]?=some n→n.1=fk.part→Paired (fj G') xs (c.KU n k)→Q (.ref l) H'):Ax CB CC CS CF CT vs H Q E
def qM (CB CC CS CF CT:Addr):Sp:=Ax CB CC CS CF CT
theorem FH:(["version","picked","fork"]:List Str).Nodup:=by decide +kernel
section
variable {P:Program}{w:World}{K:W.Frag}{mg:Str→Option Value}{base:Heap}{f:Addr}{fd:FuncData}
theorem yG:eG ["self","fork","need","picked"] ["self","fork"] (eA rh):=i8
theorem zx {CB CC CS CF CT:Addr}(F:iL K "newer_picks" "Search.newer_picks" rh f fd)(T:sr K mg CS)(g:TC K mg CC)(aa:TB K mg CB)(X:AH K mg CF)(MN:Mt P w K mg base CS eZ 1 "place_of_need" ["self","who","part"] (lF CB CC CS))(MM:Mt P w K mg base CB eZ 2 "meeting" ["self","need"] (jC CB)):fb P w K mg base eZ 3 f fd ["self","fork"] (qM CB CC CS CF CT):=by
 refine F.ok yG (fun vs H Q E h=>?_) (fun cdv A outer s H vs Q E hr h=>?_)
 ·obtain⟨G,p,ch,le,fl,c,O,a,l,k,rfl,_⟩:=h;rfl
 obtain⟨G,p,ch,le,fl,c,O,a,l,k,rfl,e,bq,al,hk,a7,ag,ad,q⟩:=h;have hu:=gc hr;refine⟨_,(dX (eF (i:=2) yG.nd rfl (Or.inl rfl) (eO fE (eV hu (eD aa.cl aa.nN (eD g.cl g.nBoard (eD T.cl T.nCh (pv 0)))) iO (fun _ _=>rfl)) (gY MN (hr.mono (by decide:1≤2)) eP (pv 0) (dU iO (dU (eD X.cl X.nPa (pv 1)) ee))) (fun _ _=>rfl))) (dX (eF (i:=3) yG.nd rfl (Or.inr rfl) (eO eQ (fL hu (eD g.cl g.nBy (eD T.cl T.nCh (pv 0))) (eD X.cl X.nBi (pv 1)) (fun _ _=>rfl)) ef (fun _ _=>rfl))) (eg (eR (ik (N':=["version","picked","fork"]) (n:=1) (js:=[3,1]) rfl (ib.two (c:=s.heap.objs.size+2) (c':=s.heap.objs.size+1) (y:="picked") (y':="fork") rfl rfl rfl (by decide +kernel) (by decide +kernel) rfl (by decide +kernel) (by decide +kernel) rfl rfl rfl rfl rfl rfl rfl rfl rfl) (gF (by decide)) (fh (gY MM hr eP (eD g.cl g.nBoard (eD T.cl T.nCh (pv 0))) (dU (pv 2) ee))) (fun C s2 H2 fp=>eK (i:=0) FH rfl (Or.inl rfl)) (fun C s2 H2 fp=>nE (gu zo (pv 0) (pv 1) (gJ _))) (fun C s2 H2 fp=>ge (dU (eD X.cl X.nPa (pv 2)) (dU (pv 0) ee)))))))),?_⟩;obtain⟨dx,hp⟩:=e.self;have U:=e.gh.ins hp;obtain⟨⟨fx,B⟩,b7⟩:=bq;have b4:c.Jw l.bit=c.bit k:=by rw[al];rfl
 rw[b4]at B;obtain⟨gx,gb,b2,ah,cn,co,cd,cp,a4,d1,d2,d3,d4,⟨bm,bv,a1⟩,d6⟩:=e.chart.ex;obtain⟨b8,as,pq,rfl,b1⟩:=a1 k hk;obtain⟨bx,dn,dv,a2,bf⟩:=i6 (d2.f e.gh) (d3.f e.gh);obtain⟨na,a8,zs,hz,b3⟩:=bf none .non iW rfl;obtain⟨n,Y,b5⟩:=vT ag;refine⟨_,rfl,p,dx,_,V.ref ch,rfl,U,(by kernel_rfl),ch,gx,_,V.ref gb,rfl,e.gh.ins d1,(by kernel_rfl),gb,bx,_,_,rfl,a2,gm _ _,dn,_,rfl,a8,_,rfl,p,dx,_,rfl,U,(by kernel_rfl),_,rfl,a.1,fx,_,V.str l.part,rfl,B,(by kernel_rfl),G,p,ch,le,fl,c,.non,none,l.part,rfl,e,iW,rfl,ag,fun H1 R=>?_⟩;obtain⟨zv,a5,bd⟩:=mi b3 (show jx (c.needs none) ((((c.needs none).map (·.1)).idxOf l.part:Nat):Int)=some n by rw[iI];exact Y);refine⟨na,_,_,zv,rfl,rfl,eX.of (R _ _ hz),nH a5,?_⟩;have g1:er G H1:=e.gh.trans R.toF;have Z:=R _ _ U;have r:=R _ _ B;refine⟨_,rfl,p,dx,_,V.ref ch,rfl,Z,(by kernel_rfl),ch,gx,_,V.ref ah,rfl,g1.ins d1,(by kernel_rfl),_,rfl,a.1,fx,_,V.int (c.bit k:Nat),rfl,r,(by kernel_rfl),ah,V.ref pq,rfl,.inl ⟨bm,Sum.inl (c.bit k:Int),g1.rd bv,rfl,as.symm⟩,pq,_,_,V.int k.2,rfl,rfl,ia.of (g1.tup b1),rfl,?_⟩;refine⟨_,rfl,p,dx,_,V.ref ch,rfl,Z,(by kernel_rfl),ch,gx,_,V.ref gb,rfl,g1.ins d1,(by kernel_rfl),gb,bx,_,rfl,R _ _ a2,pC _ _ (by decide +kernel) (by decide +kernel),_,rfl,gb,a4,c.es,_,n,rfl,d2.f g1,fA.same R bd,by rw[←c.n_eq];exact e.n,fun l0 ms H2 s2 b9 J a6 bl=>?_⟩;have a0:=sT a6 bl;subst a0;have d:=R.trans s2;refine⟨l0,rfl,⟨_,eX.of J⟩,?_⟩;have cs:(jy c.es n).length<64:=by
  have h1:=mH c.es n;have h2:=e.n;rw[c.n_eq]at h2;omega
 refine gy (xs:=(jy c.es n).map V.int) (fun D i ys o=>∃j,iu G H O j o O∧H2 D=none∧j D=none∧o D=some (.lst ys)∧eB (del H2 [D]) o∧Paired (fj j) ys ((((jy c.es n).take i).filter fun v=>decide (k.2<v)).map fun v=>(k.1,v)))
  (fun D hD=>⟨G,(iu.same e.gh d).own (d.free hD) (e.gh.free (d.free hD)),hD,e.gh.free (d.free hD),dW,fun b u I=>by
   have nb:b≠D:=fun z=>by rw[z,fq (by simp)]at I;cases I
   rw[dY nb];exact eU _ _ b u I,by rw[cT];exact .nil⟩)
  (fun D i ys o hi ⟨j,L,m,e3,S,N,M⟩=>⟨eX.of (N _ _ (by rw[el (by simpa using d0 J m)];exact J)),S,?_⟩) (fun D i y ys o hi ⟨j,L,m,e3,S,N,M⟩=>?_) (fun D ys o ⟨j,L,m,e3,S,N,M⟩=>?_)
 ·have h1:=Paired.length M;rw[ab]at h1;have h2:=bt (fun v=>decide (k.2<v)) ((jy c.es n).take i);rw[aN]at h2;exact eE (by omega)
 ·rw[ae]at hi;obtain⟨v,hv,rfl⟩:=ax.mp hi;have a3:∀{x u},H2 x=some u→o x=some u:=fun {x u} h=>N _ _ (by rw[el (by simpa using d0 h m)];exact h);unfold iJ;refine⟨_,rfl,_,rfl,_,_,rfl,rfl,_,rfl,?_⟩;skip;have an:=fm hv;by_cases hlt:k.2<v
  ·rw[ao hlt];refine ir ⟨_,rfl,a.1,fx,_,V.str l.part,rfl,a3 (s2 _ _ r),(by kernel_rfl),_,rfl,(by show 2≤sizeLine;decide),fun t ht=>?_⟩;have a9:D≠t:=d0 S ht;have gw:=L.trans (iu.put (O:=O) (u:=.tup [.str l.part,.int v]) L.gh ht);have st:=eo ht (.tup [.str l.part,.int v]);have b6:H D=none:=d.free m;have gD:upd j t (.tup [.str l.part,.int v]) D=none:=by rw[dY a9];exact e3
   refine⟨st _ _ S,upd j t (.tup [.str l.part,.int v]),gw.own b6 gD,m,gD,dW,fun b u I=>?_,?_⟩
   ·have nb:b≠D:=fun z=>by rw[z,fq (by simp)]at I;cases I
    rw[dY nb];exact st _ _ (N _ _ I)
   ·rw[an,cq,aw];have e9:([v].filter fun v=>decide (k.2<v))=[v]:=by rw[aG,if_pos (by simpa using hlt)];rfl
    rw[e9];refine Paired.snoc (Paired.Ja M fun _ _ z=>fj.f ((er.refl j).upd (L.gh.free ht)) z) ⟨t,rfl,?_⟩;rw[dW,←a7]
  ·rw[au hlt];refine gv ⟨j,L,m,e3,S,N,?_⟩;rw[an,cq,aw];have e9:([v].filter fun v=>decide (k.2<v))=[]:=by rw[aG,if_neg (by simpa using hlt)];rfl
   rw[e9,cM,cf];exact M
 ·rw[ab,aF]at M;refine q j o D ys n L (fun y hy=>?_) (d.free m) e3 S Y b5 M;obtain⟨u,ap⟩:=ad y hy;have h2:=d _ _ ap;rw[N y u (by rw[el (by simpa using d0 h2 m)];exact h2),ap]
end
end FB
namespace FB
open PySem L2 PyProof.Rows
variable {F:List Fk}{L:ic}{d:Sd}{g:Fk}{t:Nat}
theorem yE {α:Type}{l:List α}{x:α}(h:l[t]?=some x):l=l.take t++x::l.drop (t+1):=by
 obtain⟨h1,h2⟩:=af.mp h;subst h2;rw[←dO h1,dA]
theorem jh {c:dZ}(h:fz c L F.reverse d)(a:F[t]?=some g):fz c L (F.take t).reverse g.sd∧jL c g:=by
 have e:F.reverse=(F.drop (t+1)).reverse++g::(F.take t).reverse:=by
  conv=>lhs;rw[yE a]
  rw[cC,dR,bu];rfl
 exact h.to e
theorem Cc {c:dZ}(h:fz c L F.reverse d){g':Fk}(o:F[t]?=some g)(a:F[t+1]?=some g'):∃k,g.bit=some k∧k∈c.ks∧k.1=g.part∧g'.sd.picked=g.sd.picked ||| c.bit k∧¬c.has g.sd.dead k:=by
 obtain⟨h1,_⟩:=jh h a;have e:(F.take (t+1)).reverse=g::(F.take t).reverse:=by
  rw[aQ,o,cC];rfl
 rw[e]at h1;have j:=h1.live g (by simp);cases h1 with
 |cons a1 a2 a3 a4=>
  obtain⟨k,b,l,p⟩:=a3;obtain⟨m,i,_⟩:=a2.bit k b;exact⟨k,b,m,i,l,j k b⟩
theorem vn {c:dZ}(h:fz c L F.reverse d)(hg:g∈F):∃k,g.bit=some k∧k∈c.ks∧k.1=g.part∧c.has d.picked k∧¬c.has g.sd.dead k:=by
 have a:g∈F.reverse:=ci.mpr hg;obtain⟨h1,_⟩:=h.fks g a;have key:∀{R:List Fk} {s:Sd},fz c L R s→∀g∈R,∃k,g.bit=some k:=by
  intro R s j
  induction j with
  |nil _ _=>exact fun g hg=>nomatch hg
  |cons _ _ a3 _ ih=>
   intro g hg;rcases ak.mp hg with rfl | hg
   ·obtain⟨k,b,_⟩:=a3;exact⟨k,b⟩
   ·exact ih g hg
 obtain⟨k,e⟩:=key h g a;obtain⟨l,i,_⟩:=h1.bit k e;exact⟨k,e,l,i,(h.sub g a).2.2 k e,h.live g a k e⟩
def dZ.KW (c:dZ)(pk:Nat)(x:Str):Nat:=c.maskOf fun k=>decide (c.has pk k)&&decide (k.1∈c.start.take (c.start.idxOf x))
theorem dZ.KY {c:dZ}{pk:Nat}{x:Str}{k:Pk}:c.has (c.KW pk x) k↔c.has pk k∧k.1∈c.start.take (c.start.idxOf x):=by
 unfold dZ.KW;rw[dZ.JM,aH,aA,aA];exact⟨fun h=>h.2,fun h=>⟨h.1.1,h⟩⟩
theorem rQ {α:Type} [DecidableEq α] {l:List α}{x:α}{n:Nat}(h:x∈l)(b:l.idxOf x<n):x∈l.take n:=by
 have a:=br.mpr h;refine az.mpr ⟨l.idxOf x,?_⟩;rw[b0,if_pos b,am a]
 exact congrArg some (cm a)
theorem Ci {α:Type} [DecidableEq α] {l:List α}{x y:α}(a:x∈l)(b:y∈l)(h:l.idxOf x=l.idxOf y):x=y:=by
 have h1:=cm (br.mpr a);have h2:=cm (br.mpr b);rw[←h1,←h2]
 congr 1
theorem xj {c:dZ}(h:fz c L F.reverse d)(I:pF c F){N:Nat}{fk:Fk}{k:Pk}(C:F[N]?=some fk)(e:F[t]?=some g)(b:t<N)(m:fk.part∈c.start)(x:g.bit=some k)(J:¬c.has (c.KW d.picked fk.part) k):∀j∈c.ks,j.1=g.part→c.has g.sd.dead j∨j=k:=by
 obtain⟨D,E⟩:=jh h C;obtain⟨M,p⟩:=jh h e;have a:=E.out D.sd;have q:=vn h (aj e);obtain⟨Q,B,P,o,O,G⟩:=q;rw[x]at B;cases B;have A:∀y,c.isP g.sd.picked y→c.isP fk.sd.picked y:=(by rintro y ⟨j,h1,h2⟩;exact⟨j,I t N g fk (cK b) e C j h1,h2⟩);have s:g∈(F.take N).reverse:=by
  rw[ci];refine az.mpr ⟨t,?_⟩;rw[b0,if_pos b];exact e
 have v:c.has fk.sd.picked k:=(D.sub g s).2.2 k x;have i:¬g.part=fk.part:=fun z=>a ⟨k,v,by rw[o,z]⟩;rcases p.rule with ⟨w,H⟩ | r | r
 ·exfalso;rcases Nat.lt_trichotomy (c.start.idxOf g.part) (c.start.idxOf fk.part) with z | z | z
  ·exact J (dZ.KY.mpr ⟨O,by rw[o];exact rQ w z⟩)
  ·exact i (Ci w m z)
  ·exact a (A _ (H fk.part m z))
 ·intro j K l;by_cases hd:c.has g.sd.dead j
  ·exact .inl hd
  ·exact .inr (r j k K P l o hd G)
 ·exact absurd (A _ (r fk.part m)) a
theorem B4 {c:dZ}{pk:Nat}{e:Nat×Rs}(g:gC c L)(b:mz c.es c.sn (c.listed pk))(d:e∈L)(h:∀j,c.has e.1 j→c.has pk j):False:=by
 obtain⟨i,hi⟩:=az.mp d;refine CG (ls:=c.lns L) (fun i l a=>?_) b i (c.ln e) ?_ fun p hp=>dZ.JB.mpr (h p (dZ.JB.mp hp))
 ·unfold dZ.lns at a;rw[ae]at a;obtain⟨x,m,rfl⟩:=ax.mp a;exact g.good i x m
 ·unfold dZ.lns;rw[ae,hi];rfl
end FB
namespace FB
open PySem L2 PyProof.Rows
seal lW PS PE PT PA
def qB (H:Hp)(O:List Addr)(A:List (Addr×Addr))(H':Hp)(O':List Addr):Prop:=∀b u,H b=some u→b∉O→b∉A.map (·.2)→(H' b=some u∨(Cy u∧∃o,H' b=some (.frz o u)))∧b∉O'
theorem iu.frx {G H G' H':Hp}{O O':List Addr}{A:List (Addr×Addr)}(g:iu G H O G' H' O'):qB H O A H' O':=fun b u h n _=>⟨g.fr b u (by rw[el n];exact h),g.out n h⟩
theorem qB.trans {H H1 H2:Hp}{O O1 O2:List Addr}{A:List (Addr×Addr)}(a:qB H O A H1 O1)(b:qB H1 O1 A H2 O2):qB H O A H2 O2:=fun x u h n m=>by
 obtain⟨z,y⟩:=a x u h n m;rcases z with z | ⟨z1,o,z2⟩
 ·exact b x u z y m
 ·obtain⟨w1,w2⟩:=b x _ z2 y m;refine⟨.inr ⟨z1,o,?_⟩,w2⟩;rcases w1 with w | ⟨w,_⟩
  ·exact w
  ·exact w.elim
inductive Av (CB CC CL CS CF CT:Addr)(vs:List V)(H:Hp)(Q:VK)(E:XK):Prop
 |mk (G:Hp)(p ch le fl sl:Addr)(c:dZ)(L:ic)(O:List Addr)(A:List (Addr×Addr))(F:List Fk)(N:Nat)(fk:Fk)(d:Sd)(v:V)(k:Pk)(_:vs=[.ref p,v,.int (c.KW d.picked fk.part:Nat),.ref sl])(_:SS CB CC CL CS CF CT G H p ch le fl c L O A F)(_:fj G v k)(_:F[N]?=some fk)(_:k∈c.ks)(_:k.1=fk.part)(_:c.has fk.sd.dead k)(_:fk.part∈c.start)(_:fz c L F.reverse d)(_:mz c.es c.sn (c.listed d.picked))(_:¬c.has d.picked k)(_:H sl=some (.lst ((A.take N).map fun a=>V.ref a.1)))(_:sl∉O)(_:∀(G' H':Hp) (L':ic) (O':List Addr) (e:Nat×Rs),er G G'→qB H O A H' O'→SS CB CC CL CS CF CT G' H' p ch le fl c L' O' A (F.map (c.JX k e.1))→(∃X,L'=L++X)→e∈L'→(∀j,c.has e.1 j→j=k∨c.has (c.KW d.picked fk.part) j)→fz c L' (F.map (c.JX k e.1)).reverse (c.JW k e.1 d)→Q .non H'):Av CB CC CL CS CF CT vs H Q E
def qL (CB CC CL CS CF CT:Addr):Sp:=Av CB CC CL CS CF CT
section
variable {P:Program}{w:World}{K:W.Frag}{mg:Str→Option Value}{base:Heap}{f:Addr}{fd:FuncData}
theorem Bq:eG ["self","pick","kept","forks","place","fork"] ["self","pick","kept","forks"] (eA uA):=i8
theorem zu {CB CC CL CS CF CT:Addr}(F:iL K "show_barred" "Search.show_barred" uA f fd)(T:sr K mg CS)(cz:TC K mg CC)(bv:TL K mg CL)(TF:AH K mg CF)(MA:Mt P w K mg base CS eZ 4 "line_against" ["self","pick"] (lG CB CC CL CS CF CT))(MS:Mt P w K mg base CS eZ 5 "shut" ["self","fork","known"] (qJ CB CC CL CS CF CT))(MM:Mt P w K mg base CS eZ 1 "mark_dead" ["self","bit","place"] (qO CB CC CL CS CF CT)):fb P w K mg base eZ 6 f fd ["self","pick","kept","forks"] (qL CB CC CL CS CF CT):=by
 refine F.ok Bq (fun vs H Q E h=>?_) (fun cdv A outer s H vs Q E hr h=>?_)
 ·obtain⟨G,p,ch,le,fl,sl,c,L,O,AA,FF,N,fk,d,v,k,rfl,_⟩:=h;rfl
 obtain⟨G,p,ch,le,fl,sl,c,L,O,AA,FF,N,fk,d,v,k,rfl,l,hv,hN,hk,c6,M,dc,C,cp,c1,bd,an,q⟩:=h;have hu:=gc hr;refine⟨_,(dX (eF (i:=4) Bq.nd rfl (Or.inl rfl) (gY MA (hr.mono (by decide:4≤5)) eP (pv 0) (dU (pv 1) ee))) (dX (fN PassesOwn.never rfl (DU rfl T.rev (pv 3)) (eK (i:=5) Bq.nd rfl (Or.inl rfl)) (eg (gj (uJ (eW gM (eW gM (eO fE (eD bv.cl bv.nMa (eD T.cl T.nLe (pv 0))) (pv 4) (fun _ _=>rfl)) (eD TF.cl TF.nBi (pv 5))) (iY jW (pv 2))) (fun _=>rfl)) (eg (eF (i:=4) Bq.nd rfl (Or.inl rfl) (gY MS hr eP (pv 0) (dU (pv 5) (dU (BH (sN (eD TF.cl TF.nBi (pv 5)) (pv 4) vO) rfl rfl (by intro z;cases z) (by decide)) ee))))) ff))) (eg (fU (gY MM (hr.mono (by decide:1≤5)) eP (pv 0) (dU (eV hu (eD cz.cl cz.nBits (eD T.cl T.nCh (pv 0))) (pv 1) (fun _ _=>rfl)) (dU (pv 4) ee))))))),?_⟩;obtain⟨dx,hp⟩:=l.se.self;have dy:=l.se.gh.ins hp;have I:pF c FF:=by
  have b7:=C.mono ⟨fk.part,d,none⟩ rfl;rw[cS]at b7;intro i i' f f' hi h1 h2;refine b7 i i' f f' hi ?_ ?_
  ·rw[aK (af.mp h1).1];exact h1
  ·rw[aK (af.mp h2).1];exact h2
 have a8:∀f∈FF,iz c L f.sd:=fun f hf=>(C.fks f (ci.mpr hf)).2;have ag:FF.length≤64:=by
  have:=C.depth;rw[c0]at this;have:=l.se.n
  lia
 obtain⟨co,dp⟩:=jh C hN;have ah:¬c.isP fk.sd.picked k.1:=by rw[c6];exact dp.out co.sd
 have ew:N<FF.length:=(af.mp hN).1;have lA:AA.length=FF.length:=Paired.length l.fk.p;have U:=aj hN;have ct:∀j,c.has fk.sd.picked j→c.has d.picked j:=(C.sub fk (ci.mpr U)).1;have d8:∀a b,(a=k∨c.has fk.sd.picked a)→(b=k∨c.has fk.sd.picked b)→a.1=b.1→a=b:=fun a b h1 h2 e=>by
  rcases h1 with rfl | h1 <;> rcases h2 with rfl | h2
  ·rfl
  ·exact absurd ⟨b,h2,e.symm⟩ ah
  ·exact absurd ⟨a,h1,e⟩ ah
  ·exact co.sd.one a b h1 h2 e
 refine⟨_,rfl,p,dx,_,rfl,dy,(by kernel_rfl),_,rfl,G,p,ch,le,fl,c,L,O,AA,FF,v,k,rfl,l.se,l.led,l.ok,l.fk,hv,hk,I,a8,⟨fk,U,M,ah⟩,ag,?_⟩;intro G1 H1 O1 L1 j1 e1 bf dd cx c2 c8 a2 _;have cv:=bf.keep an bd fun z=>z;have ej:=bf.out an bd;refine⟨_,rfl,sl,_,rfl,eX.of cv,?_⟩;refine Cm (K:=K) (a:=sl) (xs:=(AA.take N).map fun a=>V.ref a.1) (fun i σ H2=>∃(G2:Hp) (O2:List Addr) (Z:ic) (j:Nat) (e:Nat×Rs) (o5:Option V),σ=[some (.ref p),some v,some (.int (c.KW d.picked fk.part:Nat)),some (.ref sl),some (.int (j:Nat)),o5]∧iu G H O G2 H2 O2∧fT CL G2 H2 le ch c Z O2∧gC c Z∧(∃X,Z=L++X)∧Z[j]?=some e∧(∀x,c.has e.1 x→x=k∨c.has fk.sd.picked x)∧(∀g,FF[N-i]?=some g→∀x,c.has e.1 x→x=k∨c.has (c.KW d.picked fk.part) x∨c.has g.sd.picked x))
  ⟨G1,O1,L1,j1,e1,none,rfl,bf,dd,cx,c2,c8,fun x hx=>a2.2 fk U M x hx,fun g hg x hx=>?_⟩ ((by rintro i σ H2 _ ⟨_,_,_,_,_,_,_,o,_⟩;exact eX.of (o.keep an bd fun z=>z))) ?_ ?_
 ·rw[Nat.sub_zero,hN]at hg;cases hg;exact(a2.2 fk U M x hx).imp id .inr
 ·rintro i x σ H2 ed hi ⟨G2,O2,Z,j,e,o5,rfl,o,D,t,aa,R,a3,J⟩;rw[ab,aN]at ed hi;have et:i<N:=by lia
  have b6:min N AA.length=N:=by lia
  rw[b6,ae,b0]at hi
  rw[if_pos (by lia)]at hi;obtain⟨a,ha,rfl⟩:=ax.mp hi;have a4:=l.fk.grow o l.sep;have r:=yf.grow l.fk o l.sep;obtain⟨g,hg,⟨fx,a5⟩,ei⟩:=Paired.Ju a4.p ha;obtain⟨g',hg'⟩:∃g',FF[N-i]?=some g':=⟨FF[N-i]'(by lia),am _⟩;have bq:N-1-i+1=N-i:=by lia
  obtain⟨S,b1,b2,b3,b4,b5⟩:=Cc C hg (by rw[bq];exact hg');have ec:c.Jw g.bit=c.bit S:=by rw[b1];rfl
  rw[ec]at a5;have as:=l.se.grow o.gg o.gh;have al:=o.gh.ins (o.gg.ins hp);obtain⟨lx,ma,re,pm,pp,eq,rs,Ol,hO,dl,eb,c5⟩:=id D.ex;have c9:(Z.map (·.1))[j]?=some e.1:=by rw[ae,R];rfl
  have c7:=t.lt e (aj R);refine⟨_,rfl,p,dx,_,V.ref le,rfl,al,(by kernel_rfl),le,lx,_,V.ref ma,rfl,o.gh.ins dl,(by kernel_rfl),_,rfl,ma,_,_,_,rfl,rfl,eX.of eb,jG c9,_,rfl,a.1,fx,_,V.int (c.bit S:Nat),rfl,a5,(by kernel_rfl),_,_,rfl,rfl,_,rfl,_,rfl,_,_,rfl,rfl,_,rfl,?_⟩;dsimp only;rw[mw,pT,pb];have hX:∀y,c.has (hZ (e.1 &&& c.bit S) (c.KW d.picked fk.part)) y↔(c.has e.1 y∧y=S)∧¬c.has (c.KW d.picked fk.part) y:=fun y=>by rw[dZ.JE,dZ.JD,dZ.JF b2]
  have cd:∀y,c.has g.sd.picked y→c.has fk.sd.picked y:=I (N-1-i) N g fk (by lia) hg hN;have ap:N-(i+1)=N-1-i:=by lia
  by_cases hc0:hZ (e.1 &&& c.bit S) (c.KW d.picked fk.part)=0
  ·rw[ao hc0];refine gv ⟨G2,O2,Z,j,e,_,rfl,o,D,t,aa,R,a3,fun g2 a1 y B=>?_⟩;rw[ap,hg]at a1;cases a1;rcases J g' hg' y B with z | z | z
   ·exact .inl z
   ·exact .inr (.inl z)
   ·rw[b4]at z;rcases dZ.JC.mp z with u | u
    ·exact .inr (.inr u)
    ·have eh:=(dZ.JF b2).mp u;refine .inr (.inl (Classical.byContradiction fun nk=>?_));have:=(hX y).mpr ⟨⟨B,eh⟩,nk⟩;rw[hc0]at this;exact dZ.JG this
  ·rw[au hc0];refine ir ?_;have b9:c.has e.1 S∧¬c.has (c.KW d.picked fk.part) S:=by
    refine Classical.byContradiction fun nk=>hc0 (dZ.JI (jg (mx c7)) fun y B=>?_);obtain⟨⟨z1,z2⟩,z3⟩:=(hX y).mp B;rw[z2]at z1 z3;exact nk ⟨z1,z3⟩
   refine⟨_,rfl,p,dx,_,rfl,al,(by kernel_rfl),_,rfl,fun kd M=>?_⟩;have ea:a.1≠kd:=d0 a5 M;refine⟨_,rfl,a.1,fx,_,V.int (c.bit S:Nat),rfl,(by rw[dY ea];exact a5),(by kernel_rfl),_,rfl,dW,[(Sum.inl (c.bit S:Int),V.int (j:Nat))],rfl,(by show 1≤15;decide),?_⟩;rw[iQ];have s3:=eo M (.dK (jz [] [(Sum.inl (c.bit S:Int),V.int (j:Nat))]));have dr:upd H2 kd (.dK (jz [] [(Sum.inl (c.bit S:Int),V.int (j:Nat))])) kd=some (.dK [(Sum.inl (c.bit S:Int),V.int (j:Nat))]):=dW;generalize upd H2 kd (.dK (jz [] [(Sum.inl (c.bit S:Int),V.int (j:Nat))]))=H3 at *;have bx:=iu.same (O:=O2) o.gh s3;have dv:kd∉O2:=fun z=>by obtain⟨u,ad⟩:=D.liv kd z;rw[M]at ad;cases ad
   have bl:=a4.grow bx r;have bm:∀x∈L,x∈Z:=fun x hx=>by obtain⟨X,hX⟩:=aa;rw[hX];exact aJ _ hx
   refine⟨G2,p,ch,le,fl,c,Z,O2,AA,FF,N-1-i,a,g,kd,_,some (S,j,e.1),rfl,as.same s3,D.same s3,t,bl,r,I,fun f hf=>(a8 f hf).led bm,ag,ha,hg,(jh C hg).2.open_,.inl dr,dv,⟨b2,rfl,e,R,rfl⟩,fun y B d7=>?_,fun m hm=>?_,?_⟩
   ·rcases xj C I hN hg (by lia) dc b1 b9.2 y B d7 with z | z
    ·exact .inl z
    ·exact .inr ⟨j,e.1,by rw[z]⟩
   ·have cy:∀y,c.has m y→y=k∨c.has fk.sd.picked y:=fun y B=>by
     rcases hm y B with z | ⟨k0,j0,m0,z1,z2,z3⟩
     ·exact .inr (cd y z)
     ·cases z1;exact a3 y z2
    exact fun y1 y2 h1 h2 e=>d8 y1 y2 (cy y1 h1) (cy y2 h2) e
   intro G4 H4 O4 L4 j' e' d6 c3 b8 df d9 a9 _;have dn:∃X,L4=L++X:=by
    obtain⟨X,hX⟩:=aa;obtain⟨Y,hY⟩:=df;exact⟨X++Y,by rw[hY,hX,bu]⟩
   refine⟨G4,O4,L4,j',e',_,rfl,o.trans (bx.trans d6),c3,b8,dn,d9,fun y B=>?_,fun g2 a1 y B=>?_⟩
   ·rcases a9 y B with z | ⟨k0,j0,m0,z1,z2,z3⟩
    ·exact .inr (cd y z)
    ·cases z1;exact a3 y z2
   ·rw[ap,hg]at a1;cases a1;rcases a9 y B with z | ⟨k0,j0,m0,z1,z2,z3⟩
    ·exact .inr (.inr z)
    ·cases z1;rcases J g' hg' y z2 with z | z | z
     ·exact .inl z
     ·exact .inr (.inl z)
     ·rw[b4]at z;rcases dZ.JC.mp z with u | u
      ·exact .inr (.inr u)
      ·exact absurd ((dZ.JF b2).mp u) z3
 ·rintro σ H2 ⟨G2,O2,Z,j,e,o5,rfl,o,D,t,aa,R,a3,J⟩;rw[ab,aN,show min N AA.length=N by lia,bK]at J;obtain⟨g0,hg0⟩:∃g0,FF[0]?=some g0:=⟨FF[0]'(by lia),am _⟩;have da:g0.sd.picked=0:=by
   have h0:=(jh C hg0).1;rw[cT,List.reverse_nil]at h0;cases h0 with
   |nil h1 _=>exact h1
  have cs:∀y,c.has e.1 y→y=k∨c.has (c.KW d.picked fk.part) y:=fun y B=>by
   rcases J g0 hg0 y B with z | z | z
   ·exact .inl z
   ·exact .inr z
   ·rw[da]at z;exact(dZ.JG z).elim
  have a6:=aj R;have ds:c.has e.1 k:=Classical.byContradiction fun nk=>B4 t cp a6 fun y B=>by
   rcases a3 y B with z | z
   ·rw[z]at B;exact absurd B nk
   ·exact ct y z
  have as:=l.se.grow o.gg o.gh;have a4:=l.fk.grow o l.sep;have r:=yf.grow l.fk o l.sep;have al:=o.gh.ins (o.gg.ins hp);obtain⟨gx,gb,a0,ep,es,eu,em,ev,ek,d1,d2,d3,d4,d5⟩:=as.chart.ex;refine⟨_,rfl,p,dx,_,rfl,al,(by kernel_rfl),_,rfl,p,dx,_,V.ref ch,rfl,al,(by kernel_rfl),ch,gx,_,V.ref a0,rfl,o.gh.ins d1,(by kernel_rfl),_,rfl,a0,_,rfl,(d4.f o.gh).get (w:=some k) (fW hk) (fj.f o.gh (fj.f o.gg hv)),_,rfl,G2,p,ch,le,fl,c,Z,O2,AA,FF,k,j,e,rfl,as,D,a4,R,ag,fun H3 s3 bl=>?_⟩;have a7:∀{x},x∈AA.map (·.2)→G2 x=none∧x∉O2:=fun {x} hx=>by
   obtain⟨a,ha,rfl⟩:=av.mp hx;exact⟨(a4.off a ha).2,(r.2 a ha).2⟩
  have g3:er G2 H3:=ig o.gh (fun x hx=>(a7 hx).1) s3.toF;have c4:fT CL G2 H3 le ch c Z O2:=D.grow (er.refl _) D.off fun y B=>by
   obtain⟨u,ad⟩:=D.liv y B;rw[s3 y u (by rw[el (fun z=>(a7 z).2 B)];exact ad),ad]
  have cn:=(C.led (L':=Z) fun x hx=>by obtain⟨X,hX⟩:=aa;rw[hX];exact aJ _ hx).JX hk a6 (t.lt e a6) ds c1;refine q G2 H3 Z O2 e o.gg (o.frx.trans fun b u hb n m=>⟨.inl (s3 b u (by rw[el m];exact hb)),n⟩) ⟨as.grow (er.refl _) g3,c4,t,bl,r⟩ aa a6 cs ?_;rw[←List.map_reverse];exact cn
end
end FB
namespace FB
open PySem L2 PyProof.Rows
variable {i:Nat}
def dZ.firstM (c:dZ)(pk:Nat)(i:Nat):Nat:=c.maskOf fun k=>decide (c.has pk k)&&decide (k.1∈c.start.take i)
theorem dZ.KZ (c:dZ)(pk:Nat)(x:Str):c.KW pk x=c.firstM pk (c.start.idxOf x):=rfl
theorem dZ.K0 (c:dZ)(pk:Nat):c.firstM pk 0=0:=dZ.JI (c.JN _) fun k h=>by
 have:=(dZ.JM.mp h).2;simp at this
theorem dZ.K1 {c:dZ}{pk:Nat}{x:Str}(h:c.start[i]?=some x):c.firstM pk (i+1)=c.firstM pk i ||| (c.Kc x &&& pk):=by
 refine dZ.ext (c.JN _) (i4 (c.JN _) (mx (c.JN _))) fun k=>?_;rw[dZ.JC,dZ.JD,dZ.Kg];unfold dZ.firstM;rw[aQ,h];simp only[dZ.JM,aH,aA,ay,Option.toList_some,ai]
 constructor
 ·rintro⟨h1,h2,h3 | h3⟩
  ·exact .inl ⟨h1,h2,h3⟩
  ·exact .inr ⟨⟨h1,h3⟩,h2⟩
 ·rintro(⟨h1,h2,h3⟩ | ⟨⟨h1,h3⟩,h2⟩)
  ·exact⟨h1,h2,.inl h3⟩
  ·exact⟨h1,h2,.inr h3⟩
theorem Es {α:Type} [DecidableEq α] {l:List α}(e:l.Nodup){x:α}(h:l[i]?=some x):l.idxOf x=i:=by
 have b:=aj h;have a:=br.mpr b;have h1:=cm a;obtain⟨h2,d⟩:=af.mp h;exact(List.getElem_inj e).mp (h1.trans d.symm)
def pL (f:Fk):Str×Option Pk:=(f.part,f.bit)
theorem Bl (c:dZ)(k:Pk)(m:Nat)(F:List Fk):(F.map (c.JX k m)).map pL=F.map pL:=by
 rw[ck];rfl
theorem yF {F F':List Fk}(h:F'.map pL=F.map pL){f:Fk}(b:F[i]?=some f):∃f',F'[i]?=some f'∧f'.part=f.part∧f'.bit=f.bit:=by
 have h1:(F'.map pL)[i]?=some (pL f):=by rw[h,ae,b];rfl
 rw[ae]at h1;obtain⟨f',h2,a⟩:=ax.mp h1;exact⟨f',h2,congrArg (·.1) a,congrArg (·.2) a⟩
end FB
namespace FB
open PySem L2 PyProof.Rows
seal lW PS PE PT PA
variable {A:List (Addr×Addr)}{CB CC CF CT PP a b:Addr}{H H':Hp}{K:W.Frag}{O O':List Addr}{P:Program}{fd:FuncData}{mg:Str→Option Value}{w:World}
def Dc (c:dZ)(L:ic)(pk:Nat)(f:Fk):Prop:=f.part∈c.start→∀k,f.bit=some k→∀n,(c.needs none)[((c.needs none).map (·.1)).idxOf f.part]?=some n→∀kk∈c.KU n k,∃e∈L,∀j,c.has e.1 j→j=kk∨c.has (c.KW pk f.part) j
inductive Au (CB CC CL CS CF CT:Addr)(vs:List V)(H:Hp)(Q:VK)(E:XK):Prop
 |mk (G:Hp)(p ch le fl:Addr)(c:dZ)(L:ic)(O:List Addr)(A:List (Addr×Addr))(F:List Fk)(d:Sd)(_:vs=[.ref p,.int (d.picked:Nat)])(_:SS CB CC CL CS CF CT G H p ch le fl c L O A F)(_:fz c L F.reverse d)(_:mz c.es c.sn (c.listed d.picked))(_:∀(G' H':Hp) (L':ic) (O':List Addr) (F':List Fk),er G G'→qB H O A H' O'→SS CB CC CL CS CF CT G' H' p ch le fl c L' O' A F'→(∀f∈F,Dc c L' d.picked f)→Q .non H'):Au CB CC CL CS CF CT vs H Q E
def qK (CB CC CL CS CF CT:Addr):Sp:=Au CB CC CL CS CF CT
theorem qB.refl (H:Hp)(O:List Addr)(A:List (Addr×Addr)):qB H O A H O:=fun b u h n _=>⟨.inl h,n⟩
theorem qB.rd (g:qB H O A H' O'){u:HO}(h:Rd H b u)(n:b∉O)(m:b∉A.map (·.2)):Rd H' b u:=by
 rcases h with h | ⟨o,h⟩
 ·rcases (g b u h n m).1 with z | ⟨_,o,z⟩
  ·exact .inl z
  ·exact .inr ⟨o,z⟩
 ·rcases (g b _ h n m).1 with z | ⟨z,_⟩
  ·exact .inr ⟨o,z⟩
  ·exact z.elim
theorem qB.no (g:qB H O A H' O'){u:HO}(h:H b=some u)(n:b∉O)(m:b∉A.map (·.2))(f:¬Cy u):H' b=some u:=(g b u h n m).1.resolve_right fun z=>f z.1
theorem Aj {xs:List V}{n:Nat}(h:n≤xs.length):pz xs none (some (n:Int))=xs.take n:=by
 unfold pz;rw[HT.yP,HT.vL,List.drop_zero,Nat.sub_zero,Nat.min_eq_left h]
section
variable {base:Heap}{f:Addr}
theorem sI:eG ["self","picked","ahead","mask","part","number","fork","pick"] ["self","picked"] (eA uz):=i8
theorem zt {CL CS:Addr}(F:iL K "show_newest" "Search.show_newest" uz f fd)(T:sr K mg CS)(a9:TC K mg CC)(TF:AH K mg CF)(MN:Mt P w K mg base CS eZ 3 "newer_picks" ["self","fork"] (qM CB CC CS CF CT))(MB:Mt P w K mg base CS eZ 6 "show_barred" ["self","pick","kept","forks"] (qL CB CC CL CS CF CT)):fb P w K mg base eZ 7 f fd ["self","picked"] (qK CB CC CL CS CF CT):=by
 refine F.ok sI (fun vs H Q E h=>?_) (fun cdv A outer s H vs Q E hr h=>?_)
 ·obtain⟨G,p,ch,le,fl,c,L,O,J,FF,d,rfl,_⟩:=h;rfl
 obtain⟨G,p,ch,le,fl,c,L,O,J,FF,d,rfl,o,gd,bq,q⟩:=h;have hu:=gc hr;refine⟨_,(dX (eF (i:=2) sI.nd rfl (Or.inl rfl) gH) (dX (eF (i:=3) sI.nd rfl (Or.inl rfl) ef) (dX (fN PassesOwn.never rfl (y6 (eV hu (eD a9.cl a9.nAl (eD T.cl T.nCh (pv 0))) iO (fun _ _=>rfl))) (eK (i:=4) sI.nd rfl (Or.inl rfl)) (dX (iB hu (pv 2) (pv 4) (pv 3) rfl) (eg (jO (i:=3) sI.nd rfl (Or.inl rfl) (eW gM (fL hu (eD a9.cl a9.nOf (eD T.cl T.nCh (pv 0))) (pv 4) (fun _ _=>rfl)) (pv 1)) sZ)))) (eg (fN PassesOwn.never rfl (BD rfl T.enum (eD T.cl T.nFo (pv 0))) (oP (n:=2) rfl (gT (eK (i:=5) sI.nd rfl (Or.inl rfl)) (gT (eK (i:=6) sI.nd rfl (Or.inl rfl)) lJ))) (eg (gj (iN (rL hu (eD TF.cl TF.nPa (pv 6)) (pv 2))) (eg (fN PassesOwn.never rfl (fh (gY MN (hr.mono (by decide:3≤6)) eP (pv 0) (dU (pv 6) ee))) (eK (i:=7) sI.nd rfl (Or.inl rfl)) (eg (fU (gY MB hr eP (pv 0) (dU (pv 7) (dU (fL hu (pv 2) (eD TF.cl TF.nPa (pv 6)) (fun _ _=>rfl)) (dU (lK nw (eD T.cl T.nFo (pv 0)) rF (lI (pv 5))) ee)))))))) ff))))))),?_⟩;obtain⟨dx,hp⟩:=o.se.self;have e6:=o.se.gh.ins hp;obtain⟨gx,gb,e9,g8,d9,dd,g4,g6,g7,d1,d2,d3,d4,d5,d6,d7,d8⟩:=o.se.chart.ex;have lA:J.length=FF.length:=Paired.length o.fk.p;intro m a2;have s1:=eo a2 (.dK []);have bm:upd H m (.dK []) m=some (.dK []):=dW;generalize upd H m (.dK [])=H1 at *;have g1:er G H1:=o.se.gh.trans s1.toF;have c7:G m=none:=o.se.gh.free a2;obtain⟨da,e1,oa,a1,e2,e3,e4⟩:=(d7.f g1).get (w:=none) iW rfl;have e5:da≠m:=fe e2 bm fun z=>nomatch z;have la:a1.length=c.start.length:=by
  have:=congrArg List.length e3;rw[ab,ab]at this;exact this
 have g9:c.start.length≤100:=bj (mh _) (o.se.nds none);refine⟨_,rfl,p,dx,_,V.ref ch,rfl,g1.ins hp,(by kernel_rfl),ch,gx,_,V.ref dd,rfl,g1.ins d1,(by kernel_rfl),dd,_,rfl,e1,da,oa,a1,rfl,e2,?_⟩;refine rY (kvs:=a1) (fun i σ H2=>∃kvs o4,σ=[some (.ref p),some (.int (d.picked:Nat)),some (.ref m),some (.int (c.firstM d.picked i:Nat)),o4,none,none,none]∧H2 m=some (.dK kvs)∧(∀b,b≠m→H2 b=H1 b)∧kvs.map (·.1)=(c.start.take i).map Sum.inr∧∀x∈c.start.take i,eN kvs (Sum.inr x)=some (.int (c.KW d.picked x:Nat)))
  ⟨[],none,by rw[dZ.K0];rfl,bm,fun _ _=>rfl,by simp,fun x hx=>by simp at hx⟩ (by
   rintro i σ H2 _ ⟨_,_,_,_,e,_⟩;rw[e da e5]
   exact e2) ?_ ?_
 ·rintro i kv σ H2 hi ⟨kvs,o4,rfl,as,a7,B,a3⟩;have ap:(a1.map (·.1))[i]?=some kv.1:=by rw[ae,hi];rfl
  rw[e3,ae]at ap;obtain⟨x,hx,ex⟩:=ax.mp ap;rw[←ex];have N:c.start[i]?=some x:=hx;have f9:=aj N;have dl:i<100:=by have:=(af.mp N).1;lia
  have ec:c.start.idxOf x=i:=Es (iZ _) N;have lk:kvs.length≤i:=by
   have:=congrArg List.length B;rw[ab,ab,aN]at this
   lia
  have g2:er G H2:=fun b u e=>by
   have nb:b≠m:=fun z=>by rw[z,c7]at e;cases e
   rw[a7 b nb];exact g1 b u e
  have et:=oU (iZ _) N;have gk:eN kvs (Sum.inr x)=none:=by
   cases hq:eN kvs (Sum.inr x) with
   |none=>rfl
   |some u=>
    have:=iA hq;rw[B]at this;obtain⟨y,hy,e⟩:=av.mp this;rw[Sum.inr.inj e]at hy;exact absurd hy et
  refine⟨_,rfl,_,rfl,_,rfl,m,_,rfl,ki.k (k:=Sum.inr x) as (eE (by lia)),?_⟩;have eh:∀b,b≠m→upd H2 m (.dK (eY kvs (Sum.inr x) (.int (c.firstM d.picked i:Nat)))) b=H1 b:=fun b hb=>by rw[dY hb];exact a7 b hb
  have g3:er G (upd H2 m (.dK (eY kvs (Sum.inr x) (.int (c.firstM d.picked i:Nat))))):=g2.upd c7;have fy:upd H2 m (.dK (eY kvs (Sum.inr x) (.int (c.firstM d.picked i:Nat)))) m=some (.dK (eY kvs (Sum.inr x) (.int (c.firstM d.picked i:Nat)))):=dW;generalize upd H2 m (.dK (eY kvs (Sum.inr x) (.int (c.firstM d.picked i:Nat))))=H3 at *;obtain⟨ew,eq,es⟩:=d6.f g3;have gn:∃k∈c.ks,k.1=x:=by
   obtain⟨n,hn,eu⟩:=gK.mp f9;obtain⟨j,f2,fo,_⟩:=bq.met none (fun k z=>nomatch z) n hn;exact⟨j,(dZ.JB.mp f2).1,fo.trans eu⟩
  refine⟨_,rfl,_,rfl,p,dx,_,V.ref ch,rfl,g3.ins hp,(by kernel_rfl),ch,gx,_,V.ref d9,rfl,g3.ins d1,(by kernel_rfl),_,rfl,d9,_,rfl,.inl ⟨ew,Sum.inr x,eq,rfl,((es x).2 gn).symm⟩,_,rfl,_,_,rfl,rfl,_,_,rfl,rfl,?_⟩;refine⟨_,some (.str x),?_,fy,eh,?_,fun y hy=>?_⟩
  ·rw[mw,wg,dZ.K1 N];rfl
  ·rw[gR _ gk,aw,B,fm N,aw];rfl
  ·rw[fJ];by_cases ey:y=x
   ·subst ey;rw[if_pos rfl,dZ.KZ,ec]
   ·rw[if_neg (fun z=>ey (Sum.inr.inj z))];rw[fm N]at hy;exact a3 y ((ay.mp hy).elim id fun z=>absurd (ai.mp z) ey)
 ·rintro σ H2 ⟨kvs,o4,rfl,as,a7,B,a3⟩;rw[la,aF]at B a3;have c2:eB H H2:=fun b u e=>by rw[a7 b (d0 e a2)];exact s1 _ _ e
  have ds:=iu.same (O:=O) o.se.gh c2;have S2:=o.grow ds (o.led.same c2) o.ok;have bd:m∉O:=fun z=>by obtain⟨u,r⟩:=o.led.liv m z;rw[a2]at r;cases r
  have b8:∀{G3 H3 F3},iM CF CT G3 H3 c fl J F3→∀{x},x∈J.map (·.2)→∃C dy fs,H3 x=some (.ins C dy fs):=fun {G3 H3 F3} hF3 {x} hx=>by
   obtain⟨a,ha,rfl⟩:=av.mp hx;obtain⟨t,ht⟩:=az.mp ha;obtain⟨fk,_,_,sx,wa,ez,_⟩:=Paired.Ju hF3.p ht;exact⟨_,_,_,ez⟩
  have Z:m∉J.map (·.2):=fun z=>by obtain⟨C,dy,fs,h⟩:=b8 S2.fk z;rw[as]at h;cases h
  have bx:∀x,eN kvs (Sum.inr x)=if x∈c.start then some (.int (c.KW d.picked x:Nat)) else none:=fun x=>by
   by_cases hx:x∈c.start
   ·rw[if_pos hx];exact a3 x hx
   ·rw[if_neg hx];cases hq:eN kvs (Sum.inr x) with
    |none=>rfl
    |some u=>
     have:=iA hq;rw[B]at this;obtain⟨y,hy,e⟩:=av.mp this;rw[Sum.inr.inj e]at hy;exact absurd hy hx
  have f5:=c2 _ _ e6;refine⟨_,rfl,p,dx,_,V.ref fl,rfl,f5,(by kernel_rfl),fl,_,rfl,S2.fk.l,?_⟩;refine Ad (K:=K) (a:=fl) (xs:=J.map fun a=>V.ref a.1) (fun i σ H3=>∃(G3:Hp) (L3:ic) (O3:List Addr) (F3:List Fk) (d3:Sd) (o3 o4 o5 o6 o7:Option V),σ=[some (.ref p),some (.int (d.picked:Nat)),some (.ref m),o3,o4,o5,o6,o7]∧er G G3∧qB H2 O J H3 O3∧SS CB CC CL CS CF CT G3 H3 p ch le fl c L3 O3 J F3∧F3.map pL=FF.map pL∧fz c L3 F3.reverse d3∧d3.picked=d.picked∧∀i'<i,∀f,FF[i']?=some f→Dc c L3 d.picked f)
   ⟨G,L,O,FF,d,_,_,_,_,_,rfl,er.refl _,qB.refl _ _ _,S2,rfl,gd,rfl,fun i' ct=>absurd ct (bZ _)⟩ (by rintro i σ H3 _ ⟨_,_,_,_,_,_,_,_,_,_,_,_,_,S,_⟩;exact eX.of S.fk.l) ?_ ?_
  ·rintro i x σ H3 t hi ⟨G3,L3,O3,F3,d3,o3,o4,o5,o6,o7,rfl,an,co,S3,U,ah,cs,g⟩ ht;rw[ae]at hi;obtain⟨a,ha,rfl⟩:=ax.mp hi;obtain⟨f3,cx,g0⟩:=Paired.Ju S3.fk.p ha;obtain⟨f0,cp,ag,bl⟩:=yF U.symm cx;have s4:=eo ht (.tup [.int (i:Nat),.ref a.1]);have gp:upd H3 t (.tup [.int (i:Nat),.ref a.1]) t=some (.tup [.int (i:Nat),.ref a.1]):=dW;generalize upd H3 t (.tup [.int (i:Nat),.ref a.1])=H4 at *;have df:=iu.same (O:=O3) S3.se.gh s4;have S4:=S3.grow df (S3.led.same s4) S3.ok;have a6:qB H2 O J H4 O3:=co.trans df.frx;obtain⟨⟨fx,hfa⟩,hstA⟩:lU CF CT G3 H4 c a f3:=by
    obtain⟨e7,z1,z2⟩:=Paired.Ju S4.fk.p ha;rw[cx]at z1;cases z1;exact z2
   have b6:Rd H4 m (.dK kvs):=a6.rd (.inl as) bd Z;have b7:m∉O3:=(a6 m _ as bd Z).2;refine⟨t,_,rfl,ia.of gp,rfl,_,_,rfl,_,_,rfl,rfl,?_⟩;refine⟨_,rfl,a.1,fx,_,V.str f3.part,rfl,hfa,(by kernel_rfl),_,rfl,m,_,rfl,.inl ⟨kvs,Sum.inr f3.part,b6,rfl,rfl⟩,_,rfl,?_⟩;rw[bx f3.part];by_cases hps:f3.part∈c.start
   ·rw[if_pos hps];refine ir ?_;obtain⟨k,b1,b2,b3,b4,b5⟩:=vn ah (aj cx);have ej:=S4.se.gh.ins (an.ins hp);have a4:f3.part∈(c.needs none).map (·.1):=iT.mp hps;refine⟨_,rfl,p,dx,_,rfl,ej,(by kernel_rfl),_,rfl,G3,p,ch,le,fl,c,O3,a,f3,k,rfl,S4.se,⟨⟨fx,hfa⟩,hstA⟩,b1,b2,b3,a4,S4.led.liv,fun G5 H5 l xs n R fr hl g5 cn ft go ea=>?_⟩;have f8:fT CL G5 H5 le ch c L3 O3:=S4.led.grow R.gg (fun y hy=>by obtain⟨u,r⟩:=S4.led.liv y hy;exact R.off (S4.led.off y hy) r) fr;have S5:=S4.grow R f8 S4.ok;have ek:l∉O3:=fun z=>by obtain⟨u,r⟩:=S4.led.liv l z;rw[hl]at r;cases r
    have ei:l∉J.map (·.2):=fun z=>by obtain⟨C,dy,fs,h⟩:=b8 S5.fk z;rw[cn]at h;cases h
    refine⟨l,rfl,⟨_,eX.of cn⟩,?_⟩;have lx:=Paired.length ea;have ed:∀M∈c.KU n k,M∈c.ks∧M.1=f3.part∧k.2<M.2:=fun M B=>by
     obtain⟨v,f4,rfl⟩:=av.mp B;obtain⟨ev,ga⟩:=aV.mp f4;refine⟨(c.mem _).mpr ?_,b3,bc ga⟩;have:=(rR.mp ev).1;rw[go,←b3]at this;exact this
    refine fR (K:=K) (a:=l) (xs:=xs) (fun j σ H6=>∃(G6:Hp) (L6:ic) (O6:List Addr) (F6:List Fk) (d6:Sd) (o7:Option V),σ=[some (.ref p),some (.int (d.picked:Nat)),some (.ref m),o3,o4,some (.int (i:Nat)),some (.ref a.1),o7]∧er G5 G6∧qB H5 O3 J H6 O6∧SS CB CC CL CS CF CT G6 H6 p ch le fl c L6 O6 J F6∧(∃X,L6=L3++X)∧F6.map pL=FF.map pL∧fz c L6 F6.reverse d6∧d6.picked=d.picked∧∀M∈(c.KU n k).take j,∃e∈L6,∀x,c.has e.1 x→x=M∨c.has (c.KW d.picked f3.part) x)
     ⟨G5,L3,O3,F3,d3,_,rfl,er.refl _,qB.refl _ _ _,S5,⟨[],by simp⟩,U,ah,cs,fun M B=>by simp at B⟩ (by rintro j σ H6 _ ⟨_,_,_,_,_,_,_,_,fx,_⟩;exact eX.of (fx.no cn ek ei fun z=>z)) ?_ ?_
    ·rintro j x σ H6 hj ⟨G6,L6,O6,F6,d6,f7,rfl,a0,a5,S6,cd,I,D,al,aa⟩;obtain⟨M,dp,em⟩:=Paired.Ju ea hj;obtain⟨ap,cv,cy⟩:=ed M (aj dp);obtain⟨f6,a8,dv,dr⟩:=yF I cp;have ep:f6.part=f3.part:=by rw[dv,ag]
     have eb:f6.bit=some k:=by rw[dr,bl,b1]
     have dn:=S6.se.gh.ins (a0.ins (R.gg.ins (an.ins hp)));obtain⟨⟨fx7,hfa7⟩,hst7⟩:lU CF CT G6 H6 c a f6:=by
      obtain⟨e7,z1,z2⟩:=Paired.Ju S6.fk.p ha;rw[a8]at z1;cases z1;exact z2
     have c6:Rd H6 m (.dK kvs):=a5.rd (R.frx.rd (A:=J) b6 b7 Z) b7 Z;refine⟨_,rfl,p,dx,_,rfl,dn,(by kernel_rfl),_,rfl,_,rfl,_,rfl,a.1,fx7,_,V.str f6.part,rfl,hfa7,(by kernel_rfl),m,_,rfl,.inl ⟨kvs,Sum.inr f6.part,c6,rfl,by rw[ep,bx f3.part,if_pos hps]⟩,_,rfl,p,dx,_,V.ref fl,rfl,dn,(by kernel_rfl),_,rfl,_,rfl,fl,_,rfl,eX.of S6.fk.l,fun sl bf=>?_⟩;have dl:i≤(J.map fun a=>V.ref a.1).length:=by
      rw[ab];exact cK (af.mp ha).1
     rw[Aj dl,←cj];have s7:=eo bf (.lst ((J.take i).map fun a=>V.ref a.1));have f1:upd H6 sl (.lst ((J.take i).map fun a=>V.ref a.1)) sl=some (.lst ((J.take i).map fun a=>V.ref a.1)):=dW;generalize upd H6 sl (.lst ((J.take i).map fun a=>V.ref a.1))=H7 at *;have dc:=iu.same (O:=O6) S6.se.gh s7;have S7:=S6.grow dc (S6.led.same s7) S6.ok;have gt:sl∉O6:=fun z=>by obtain⟨u,r⟩:=S6.led.liv sl z;rw[bf]at r;cases r
     obtain⟨hc,c5⟩:=jh D a8;have e0:c.has f6.sd.dead M:=(c5.bit k eb).2.2 M ap (by rw[cv,ep]) cy;have fp:¬c.has d6.picked M:=fun z=>by
      obtain⟨k',c1,_,_,c4,_⟩:=vn D (aj a8);rw[eb]at c1;cases c1;have:=D.sd.one k M c4 z (by rw[b3,cv]);rw[this]at cy;exact absurd cy (Int.lt_irrefl _)
     refine⟨G6,p,ch,le,fl,sl,c,L6,O6,J,F6,i,f6,d6,x,M,by rw[al,ep];rfl,S7,fj.f a0 em,a8,ap,by rw[cv,ep],e0,by rw[ep];exact hps,D,by rw[al];exact bq,fp,f1,gt,?_⟩;intro G8 H8 L8 O8 e8 fa fv S8 c8 gw cz c9;have fu:∃X,L8=L3++X:=by
      obtain⟨X,hX⟩:=cd;obtain⟨Y,hY⟩:=c8;exact⟨X++Y,by rw[hY,hX,bu]⟩
     refine⟨G8,L8,O8,_,_,_,rfl,a0.trans fa,a5.trans ((dc.frx).trans fv),S8,fu,by rw[Bl];exact I,c9,by rw[dZ.JY];exact al,fun k2 bv=>?_⟩;rw[fm dp]at bv;rcases ay.mp bv with z | z
     ·obtain⟨e,b9,c3⟩:=aa k2 z;obtain⟨Y,hY⟩:=c8;exact⟨e,by rw[hY];exact aJ _ b9,c3⟩
     ·rw[ai.mp z];refine⟨e8,gw,fun y hy=>?_⟩;have:=cz y hy;rw[al,ep]at this;exact this
    ·rintro σ H6 ⟨G6,L6,O6,F6,d6,f7,rfl,a0,a5,S6,cd,I,D,al,aa⟩;rw[lx,aF]at aa;refine⟨G6,L6,O6,F6,d6,_,_,_,_,_,rfl,an.trans (R.gg.trans a0),a6.trans (R.frx.trans a5),S6,I,D,al,fun i' ct f hf=>?_⟩;rcases de i' i with z | z
     ·have:=g i' z f hf;intro h1 k1 h2 n1 h3 M h4;obtain⟨e,b9,c3⟩:=this h1 k1 h2 n1 h3 M h4;obtain⟨X,hX⟩:=cd;exact⟨e,by rw[hX];exact aJ _ b9,c3⟩
     ·have:i'=i:=by lia
      subst this;rw[cp]at hf;cases hf;intro h1 k1 h2 n1 h3 M h4;rw[bl,b1]at h2;cases h2;rw[ag,ft]at h3;cases h3;rw[ag];exact aa M h4
   ·rw[if_neg hps];refine gv ⟨G3,L3,O3,F3,d3,_,_,_,_,_,rfl,an,a6,S4,U,ah,cs,fun i' ct f hf=>?_⟩;rcases de i' i with z | z
    ·exact g i' z f hf
    ·have:i'=i:=by lia
     subst this;rw[cp]at hf;cases hf;intro h1;rw[ag]at h1;exact absurd h1 hps
  ·rintro σ H3 ⟨G3,L3,O3,F3,d3,o3,o4,o5,o6,o7,rfl,an,co,S3,U,ah,cs,g⟩;rw[ab,lA]at g;refine q G3 H3 L3 O3 F3 an (ds.frx.trans co) S3 fun f hf=>?_;obtain⟨t,ht⟩:=az.mp hf;exact g t (af.mp ht).1 f ht
end
inductive AB (C:Addr)(vs:List V)(H:Hp)(Q:VK)(E:XK):Prop
 |mk (p dx a st:Addr)(es:List En)(_:vs=[.ref p,.ref a,.ref st])(_:H p=some (.ins C dx []))(_:jk H a es)(_:es.length<64)(_:(es.map eL).Nodup)(_:∀H',eB (del H [p]) H'→fV C H' p st es→Q .non H'):AB C vs H Q E
def qR (C:Addr):Sp:=AB C
section
variable {base:Heap}{f:Addr}
theorem zA {C:Addr}(F:iL K "__init__" "Board.__init__" yQ f fd)(T:TB K mg C):fb P w K mg base eZ 1 f fd ["self","shelf","start"] (qR C):=by
 refine F.ok yH (fun vs H Q E h=>?_) (fun cdv A outer s H vs Q E hr h=>?_)
 ·obtain⟨p,dx,a,st,es,rfl,_⟩:=h;rfl
 obtain⟨p,dx,a,st,es,rfl,hp,da,hl,bv,q1⟩:=h;have hu:=gc hr;refine⟨_,(dX (yY (pv 0) (sP (pv 2)) rfl) (dX (yY (pv 0) gH rfl) (dX (fN PassesOwn.never rfl (fh (pv 1)) (oP rfl (gT (eK (i:=3) yH.nd rfl (Or.inl rfl)) (gT (eK (i:=4) yH.nd rfl (Or.inl rfl)) (gT (eK (i:=5) yH.nd rfl (Or.inl rfl)) lJ)))) (dX (gj (iN (BJ hu (ge (dU (pv 3) (dU (pv 4) ee))) (lb (pv 0) rfl))) jd ff) (dX (j4 hu (lb (pv 0) rfl) (ge (dU (pv 3) (dU (pv 4) ee))) (pv 5) rfl) (eg (fU (je PySem.F.plainAttrs_list PySem.F.slot_list_append PySem.F.type_list_append gq (zf (lb (pv 0) rfl) (pv 3) (gf ee) ⟨rfl,rfl,rfl,rfl⟩) (dU (pv 4) ee))))))) (eg (fN PassesOwn.never rfl (fh (iP (vi rfl) rfl T.list boot_list (dU (lb (pv 0) rfl) ee))) (eK (i:=3) yH.nd rfl (Or.inl rfl)) (eg (iB hu (lb (pv 0) rfl) (pv 3) (za rfl T.sorted (fL hu (lb (pv 0) rfl) (pv 3) (fun _ _=>rfl))) rfl))))))),?_⟩;have cx:=jk.apart hp da;generalize b2:del H [p]=Hd at *;have sd:eB Hd H:=b2▸eU H [p];have b3:Hd p=none:=by rw[←b2];exact fq (by simp)
 obtain⟨xs,hx,bl⟩:=cx;have lx:xs.length=es.length:=Paired.length bl;refine fun q a3=>⟨_,rfl,dW,?_⟩;have N:p≠q:=d0 hp a3;refine⟨_,rfl,p,C,dx,_,rfl,by rw[dY N,dY N];exact hp,T.cl,T.nN,(by show 0<1000;decide),?_⟩;rw[iQ];generalize a5:upd (upd H q (.dN [(none,.ref st)])) p (.ins C dx (fM "needs" (.ref q) []))=H1;have a2:H1 p=some (.ins C dx (fM "needs" (.ref q) [])):=by rw[←a5];exact dW
 have bq:H1 q=some (.dN [(none,.ref st)]):=by rw[←a5,dY (Ne.symm N)];exact dW
 have s1:eB Hd H1:=by rw[←a5];exact eB.upd (eB.upd sd (sd.free a3)) b3
 refine fun m M=>⟨_,rfl,p,C,dx,_,rfl,by rw[dY (d0 a2 M)];exact a2,T.cl,T.nV,(by show 1<1000;decide),?_⟩;generalize ah:upd (upd H1 m (.dK [])) p (.ins C dx (fM "versions" (.ref m) (fM "needs" (.ref q) [])))=H2;have ct:H2 p=some (.ins C dx (jJ q m)):=by rw[←ah];exact dW
 have b8:H2 q=some (.dN [(none,.ref st)]):=by rw[←ah,dY (Ne.symm N),dY (d0 bq M)];exact bq
 have cd:H2 m=some (.dK []):=by rw[←ah,dY (Ne.symm (d0 a2 M))];exact dW
 have s2:eB Hd H2:=by rw[←ah];exact eB.upd (eB.upd s1 (s1.free M)) b3
 refine⟨_,rfl,a,rfl,⟨xs,eX.of (s2 _ _ hx)⟩,fR (K:=K) (a:=a) (xs:=xs) (fun i σ H2=>IZ C Hd es p a st dx q m i σ H2) ⟨⟨[],[],none,none,none,rfl,ct,b8,.nil,cd,⟨fun x=>.inl ⟨rfl,rfl⟩,fun x y l z=>(nomatch z),fun kv z=>(nomatch z),aq _⟩⟩,s2,bS⟩ (fun i σ H2 _ I=>eX.of (I.sm _ _ hx)) ?_ ?_⟩
 ·rintro i x σ H3 hi ⟨⟨t,vk,o3,o4,o5,rfl,L,O,G,X,R⟩,s3,an⟩;obtain⟨e,he,q0,na,zs,rfl,e1,e2,e3⟩:=Paired.Ju bl hi;have g1:=s3 _ _ e1;have dl:i<es.length:=(af.mp he).1;have ht:es.take (i+1)=es.take i++[e]:=by rw[aQ,he];rfl
  have c2:(es.map eL)[i]?=some (eL e):=by rw[ae,he];rfl
  have b7:=uX an c2;have lk:t.length=i:=by rw[Paired.length G,aN];lia
  have lv:=R.len;rw[aN]at lv;refine⟨q0,_,rfl,ia.of g1,rfl,_,_,rfl,_,_,rfl,_,_,rfl,rfl,?_⟩;refine⟨_,rfl,_,rfl,(by show 2≤sizeLine;decide),fun kt cv=>?_⟩;have s4:=eo cv (.tup [.str e.1,.int e.2.1]);refine⟨_,rfl,p,C,dx,_,_,rfl,s4 _ _ L,T.cl,T.nN,gm _ _,q,_,rfl,iq.of (k:=some (ja (eL e))) (s4 _ _ O) ⟨kt,rfl,dW⟩,_,rfl,?_⟩;rw[fQ (by intro z;cases z)];rcases qE G (eL e) with ⟨cp,hv⟩ | ⟨e',cn,ch,df,dd,hv,_⟩
  ·rw[hv];refine gv ?_;refine⟨_,rfl,_,rfl,p,C,dx,_,_,rfl,s4 _ _ L,T.cl,T.nN,gm _ _,_,rfl,_,rfl,(by show 2≤sizeLine;decide),fun b4 b6=>?_⟩;have s5:=s4.trans (eo b6 (.tup [.str e.1,.int e.2.1]));have c3:eN ((none,V.ref st)::t) (some (ja (eL e)))=none:=by rw[fQ (by intro z;cases z)];exact hv
   refine⟨q,_,rfl,kg.of (k:=some (ja (eL e))) (s5 _ _ O) ⟨b4,rfl,dW⟩ (eE (by rw[aB];lia)),?_⟩;rw[gR _ c3];generalize Z:upd (upd (upd H3 kt (.tup [.str e.1,.int e.2.1])) b4 (.tup [.str e.1,.int e.2.1])) q (.dN (((none,V.ref st)::t)++[(some (ja (eL e)),.ref na)]))=D;have dc:p≠q:=N;have g:D p=some (.ins C dx (jJ q m)):=by rw[←Z,dY N];exact s5 _ _ L
   have r:D q=some (.dN ((none,V.ref st)::(t++[(some (ja (eL e)),.ref na)]))):=by rw[←Z];exact dW
   have d:D m=some (.dK vk):=by rw[←Z,dY (fe X O (by intro z;cases z))];exact s5 _ _ X
   have bm:Hd q=none:=by
    cases z:Hd q with
    |none=>rfl
    |some o=>
     have:=s2 _ _ z;rw[b8]at this;cases this;have:=sd _ _ z;rw[a3]at this;cases this
   have S:eB Hd D:=by rw[←Z];exact eB.upd (s3.trans s5) bm
   have bx:∀b ys,H3 b=some (.lst ys)→D b=some (.lst ys):=fun b ys z=>by
    rw[←Z,dY (fe z O (by intro y;cases y))];exact s5 _ _ z
   have R5:jj Hd D vk (es.take i):=R.dict bx;have ap:Paired (lT Hd) (t++[(some (ja (eL e)),V.ref na)]) (es.take (i+1)):=by
    rw[ht];exact Paired.snoc G ⟨rfl,na,zs,rfl,e2,e3⟩
   have b9:¬eL e∈(es.map eL).take i:=by rw[←cj];exact cp
   have as:=b7.mpr b9;refine⟨_,rfl,p,C,dx,_,_,rfl,g,T.cl,T.nV,ji _ _,m,rfl,.inl ⟨_,.inl d⟩,_,rfl,(by show 0≤sizeLine;decide),fun l0 B=>?_⟩;have J:=eo B (.lst []);refine⟨vk,Sum.inr e.1,J _ _ d,rfl,eE (by lia),fun v ad=>?_,fun ad=>?_⟩
   ·obtain⟨l,rfl⟩:∃l,v=.ref l:=by
     rcases R.at_ e.1 with ⟨z,_⟩ | ⟨l,z,_⟩
     ·rw[ad]at z;cases z
     ·rw[ad]at z;cases z;exact⟨l,rfl⟩
    obtain⟨cy,Y,R8⟩:=(R5.same J).more ad;refine⟨.inl ⟨rfl,_,eX.of Y⟩,_,rfl,l,_,_,rfl,rfl,Y,?_,?_⟩
    ·rw[ab];have:=jv (es.take i) e.1;rw[aN]at this;exact eE (by lia)
    ·have a8:p≠l:=fe (J _ _ g) Y (by intro z;cases z);have a4:q≠l:=fe (J _ _ r) Y (by intro z;cases z);have al:m≠l:=fe (J _ _ d) Y (by intro z;cases z);refine⟨⟨_,vk,_,_,_,rfl,by rw[dY a8];exact J _ _ g,by rw[dY a4];exact J _ _ r,ap,by rw[dY al];exact J _ _ d,by rw[ht];exact R8⟩,eB.upd (S.trans J) cy,as⟩
   ·have al:m≠l0:=d0 d B;have a8:p≠l0:=d0 g B;have a4:q≠l0:=d0 r B;have a6:p≠m:=fe g d (by intro z;cases z);have a9:q≠m:=fe r d (by intro z;cases z);have a0:upd (upd D l0 (.lst [])) m (.dK (eY vk (Sum.inr e.1) (.ref l0))) l0=some (.lst []):=by rw[dY (Ne.symm al)];exact dW
    refine⟨.inl ⟨rfl,_,eX.of a0⟩,_,rfl,l0,_,_,rfl,rfl,a0,(by show 0<sizeLine;decide),?_⟩;have U:Hd m=none:=by
     cases z:Hd m with
     |none=>rfl
     |some o=>
      have:=s1 _ _ z;rw[M]at this;cases this
    have R8:jj Hd (upd (upd D l0 (.lst [])) m (.dK (eY vk (Sum.inr e.1) (.ref l0)))) vk (es.take i):=(R5.same J).dict fun b ys z=>by
     rw[dY (fe z (J _ _ d) (by intro y;cases y))];exact z
    have R9:=R8.first (l:=l0) ad a0 (S.free B) (fun x z=>by
     rcases R5.at_ x with ⟨y,_⟩ | ⟨l',y,_,y2⟩
     ·rw[z]at y;cases y
     ·rw[z]at y;cases y;rw[B]at y2;cases y2)
    refine⟨⟨_,_,_,_,_,rfl,by rw[dY a8,dY a6];exact J _ _ g,by rw[dY a4,dY a9];exact J _ _ r,ap,by rw[dY al];exact dW,by rw[ht];exact R9⟩,eB.upd (eB.upd (S.trans J) U) (S.free B),as⟩
  ·rw[hv];refine ir ?_
   exact(b7.mp (iS (i+1) bv) (by
    rw[←cj,←ch]
    exact bg cn)).elim
 ·rintro σ H3 ⟨⟨t,vk,o3,o4,o5,rfl,L,O,G,X,R⟩,s3,an⟩;rw[lx]at G an R;rw[aF]at G R;rw[List.take_of_length_le (by rw[ab];exact aq _)]at an;have lv:=R.len;refine⟨_,rfl,p,C,dx,_,_,rfl,L,T.cl,T.nV,ji _ _,m,vk,rfl,X,fun la c6=>?_⟩;have s4:=eo c6 (.lst (vk.map fun kv=>kV kv.1));have U:Hd m=none:=by
   cases z:Hd m with
   |none=>rfl
   |some o=>
    have:=s1 _ _ z;rw[M]at this;cases this
  refine⟨la,rfl,⟨_,eX.of dW⟩,fR (K:=K) (a:=la) (xs:=vk.map fun kv=>kV kv.1) (fun j σ D=>IY C Hd es p a st dx q m t (vk.map (·.1)) j σ D∧D la=some (.lst (vk.map fun kv=>kV kv.1))) ⟨⟨⟨vk,_,_,_,rfl,s4 _ _ L,s4 _ _ O,s4 _ _ X,rfl,fun x=>?_⟩,s3.trans s4⟩,dW⟩ (fun j σ D _ I=>eX.of I.2) ?_ ?_⟩
  ·rcases R.at_ x with z | ⟨l,h1,_,h2⟩
   ·exact .inl z
   ·exact .inr ⟨l,_,h1,s4 _ _ h2,List.Perm.refl _,fun z=>by simp at z⟩
  ·rintro j x σ D hj ⟨⟨⟨ag,c8,c7,c4,rfl,g,r,d,aa,V5⟩,s5⟩,a1⟩;rw[ae]at hj;obtain⟨kv,b1,rfl⟩:=ax.mp hj;obtain⟨y,hy⟩:=R.keys kv (aj b1);have bf:(vk.map (·.1))[j]?=some (Sum.inr y):=by rw[ae,b1];exact congrArg some hy
   have c9:(vk.map (·.1)).take (j+1)=(vk.map (·.1)).take j++[Sum.inr y]:=by rw[aQ,bf];rfl
   have a7:(eN ag (Sum.inr y:fZ)).isSome=true:=by
    rw[←iG,dC];have:(Sum.inr y:fZ)∈ag.map (·.1):=by rw[aa];exact aj bf
    obtain⟨c5,h1,h2⟩:=av.mp this;exact⟨c5,h1,ao h2⟩
   rcases V5 y with ⟨z,_⟩ | ⟨l,ms,h1,h2,h3,_⟩
   ·rw[z]at a7;cases a7
   have lm:ms.length<64:=by
    rw[h3.length_eq];exact bz (jv _ _) hl
   rw[hy];refine⟨_,rfl,p,C,dx,_,_,rfl,g,T.cl,T.nV,ji _ _,_,rfl,m,_,rfl,hJ.k (k:=Sum.inr y) d |> (h1▸·),l,ms,rfl,eX.of h2,lm,fun l2 bd b5 co c1=>?_⟩;have S:=eo b5 (.lst (List.map V.int bd));refine⟨_,rfl,p,C,dx,_,_,rfl,S _ _ g,T.cl,T.nV,ji _ _,_,rfl,m,_,rfl,ki.k (k:=Sum.inr y) (S _ _ d) (eE ?_),?_⟩
   ·have:=congrArg List.length aa;rw[ab,ab]at this
    lia
   ·have a6:p≠m:=fe g d (by intro z;cases z);have a9:q≠m:=fe r d (by intro z;cases z);have cz:la≠m:=fe a1 d (by intro z;cases z);refine⟨⟨⟨_,_,_,_,rfl,by rw[dY a6];exact S _ _ g,by rw[dY a9];exact S _ _ r,dW,by rw[lQ a7];exact aa,fun x=>?_⟩,eB.upd (s5.trans S) U⟩,by rw[dY cz];exact S _ _ a1⟩;rw[fJ];by_cases hxy:x=y
    ·subst hxy;refine .inr ⟨l2,bd,by rw[if_pos rfl],?_,co.trans h3,fun _=>c1⟩;rw[dY (Ne.symm (d0 d b5))];exact dW
    ·rw[if_neg (fun z=>hxy (Sum.inr.inj z))];rcases V5 x with z | ⟨l',cs,g1,g2,g3,g4⟩
     ·exact .inl z
     ·refine .inr ⟨l',cs,g1,?_,g3,fun z=>g4 ?_⟩
      ·rw[dY (fe g2 d (by intro z;cases z))];exact S _ _ g2
      ·rw[c9]at z;rcases ay.mp z with z | z
       ·exact z
       ·exact absurd (Sum.inr.inj (ai.mp z)) hxy
  ·rintro σ D ⟨⟨⟨ag,c8,c7,c4,rfl,g,r,d,aa,V5⟩,s5⟩,a1⟩;refine q1 D s5 ⟨dx,q,m,t,ag,g,.inl r,Paired.Ja G fun _ _ z=>lT.same s5 z,.inl d,fun x=>?_⟩;rcases V5 x with z | ⟨l,ms,g1,g2,g3,g4⟩
   ·exact .inl z
   ·refine .inr ⟨l,ms,g1,g2,g3,fun _=>g4 ?_⟩;rw[List.take_of_length_le (by rw[ab,ab];exact aq _),←aa];exact iA g1
end
section
variable {H:Hp}{p:Addr}{t:HO}(hp:H p=some t)(ft:ud t)
include hp ft
theorem il {u:HO}(e:H a=some u)(h:¬ud u):del H [p] a=some u:=by
 rw[el (by simpa using fe e hp fun z=>h (z▸ft))];exact e
theorem jN {u:HO}(h:Rd H a u)(n:¬ud u):Rd (del H [p]) a u:=h.imp (fun z=>il hp ft z n) (by rintro⟨o,z⟩;exact⟨o,il hp ft z fun y=>y⟩)
theorem gB.fix {ns:List Nd}(h:gB H a ns):gB (del H [p]) a ns:=(by obtain⟨xs,h1,h2⟩:=h;exact⟨xs,il hp ft h1 (fun z=>z),Paired.Ja h2 (by rintro _ _ ⟨q,e1,e2⟩;exact⟨q,e1,il hp ft e2 fun z=>z⟩)⟩)
theorem fV.fix {st:Addr}{es:List En}(h:fV CB H b st es):fV CB (del H [p]) b st es:=by
 obtain⟨o,r,s,d,vk,h1,h2,t,w,y⟩:=h.ex;refine⟨o,r,s,d,vk,il hp ft h1 (fun z=>z),jN hp ft h2 (fun z=>z),Paired.Ja t fun _ _ z=>?_,jN hp ft w (fun z=>z),fun x=>?_⟩
 ·obtain⟨g,a,zs,i,j,e⟩:=z;exact⟨g,a,zs,i,il hp ft j (fun z=>z),Paired.Ja e (by rintro _ _ ⟨q,v,A⟩;exact⟨q,v,il hp ft A fun z=>z⟩)⟩
 ·rcases y x with z | ⟨l,m,g,i,j,e⟩
  ·exact .inl z
  ·exact .inr ⟨l,m,g,il hp ft i (fun z=>z),j,e⟩
theorem im.fix {ch:Addr}{c:dZ}(h:im CB CC H ch c):im CB CC (del H [p]) ch c:=by
 obtain⟨dx,b,bits,i,a,K,A,Q,st,h1,h2,O,⟨R,G,N⟩,⟨D,E,r⟩,⟨L,P,t⟩,⟨y,s,I⟩,⟨x,m,S⟩,B,M,F⟩:=h.ex;refine⟨dx,b,bits,i,a,K,A,Q,st,il hp ft h1 (fun z=>z),h2.fix hp ft,O.fix hp ft,⟨R,jN hp ft G (fun z=>z),N⟩,⟨D,jN hp ft E (fun z=>z),fun k C=>?_⟩,⟨L,jN hp ft P (fun z=>z),t⟩,⟨y,jN hp ft s (fun z=>z),fun w J=>?_⟩,⟨x,jN hp ft m (fun z=>z),S⟩,B,jN hp ft M (fun z=>z),F⟩
 ·obtain⟨v,g,q,e,l⟩:=r k C;exact⟨v,g,q,e,il hp ft l fun z=>z⟩
 ·obtain⟨d,g,o,j,e,l⟩:=I w J;exact⟨d,g,o,j,il hp ft e (fun z=>z),l⟩
end
def Db (H:Hp)(O:List Addr)(PP:Addr):Prop:=gW Bb yl H PP∧PP∉O∧∀c' u,H PP=some (.tbl #[rawInt yl.line,rawInt yl.col,.ref c'])→H c'=some u→ud u→c'∉O
theorem Db.fix (h:Db H O PP):∃u,H PP=some u∧ud u:=by
 rcases h.1 with z | ⟨c',z,_⟩
 ·exact⟨_,z,trivial⟩
 ·exact⟨_,z,trivial⟩
theorem Db.keep (h:Db H O PP)(k:iE H O H' O'):Db H' O' PP:=by
 rcases h.1 with z | ⟨c',g,d⟩
 ·obtain⟨a,b⟩:=k PP _ z trivial h.2.1;refine⟨.inl a,b,fun c' u e=>?_⟩;rw[a]at e;have:=Option.some.inj e;injection this with this
  exact absurd (show(0:Nat)=3 from congrArg Array.size this) (by decide)
 ·obtain⟨a,b⟩:=k PP _ g trivial h.2.1;obtain⟨i,j⟩:=k c' _ d trivial (h.2.2 c' _ g d trivial);refine⟨.inr ⟨c',a,i⟩,b,fun l u e m _=>?_⟩;rw[a]at e;have:=Option.some.inj e;injection this with this
  injection this with this
  injection this with _ this
  injection this with _ this
  injection this with this _
  injection this with this
  rw[←this];exact j
theorem qB.KN {G:Hp}{c:dZ}{fl:Addr}{F:List Fk}(g:qB H O A H' O')(h:iM CF CT G H c fl A F):iE H O H' O':=fun x u hx f n=>by
 have m:x∉A.map (·.2):=fun z=>by
  obtain⟨a,ha,rfl⟩:=av.mp z;obtain⟨t,ht⟩:=az.mp ha;obtain⟨fk,_,_,sx,wa,hsa,_⟩:=Paired.Ju h.p ht;rw[hsa]at hx;cases hx;exact f
 obtain⟨z,y⟩:=g x u hx n m;refine⟨z.resolve_right ?_,y⟩;rintro⟨w,_⟩;cases u <;> first | exact w | exact f
theorem gW.f {tq:Str}{lp:Pos}(e:er H H')(h:gW tq lp H PP):gW tq lp H' PP:=by
 rcases h with z | ⟨c',b,a⟩
 ·exact .inl (e.no z fun y=>y)
 ·exact .inr ⟨c',e.no b (fun y=>y),e.no a fun y=>y⟩
inductive AF (c:dZ)(H:Hp)(t:Addr)(L:ic)(pk:Nat):Prop
 |mk (la ln:_)(_:H t=some (.tup [.ref la,.ref ln]))(_:mR H la (c.listed pk))(_:qA H ln (c.lns L)):AF c H t L pk
structure Ga (c:dZ)(H:Hp)(t:Addr)(L:ic)(pk:Nat):Prop where
 ex:AF c H t L pk
 ok:gC c L
 fit:mz c.es c.sn (c.listed pk)
 one:c.JR pk
 lt:pk<2^c.n
 named:∀k,c.has pk k→c.Named pk k
 shown:∀k,c.has pk k→k.1∈c.start→∀n,(c.needs none)[((c.needs none).map (·.1)).idxOf k.1]?=some n→∀kk∈c.KU n k,∃e∈L,∀j,c.has e.1 j→j=kk∨c.has (c.KW pk k.1) j
inductive AG (c:dZ)(H:Hp)(t:Addr)(L:ic):Prop
 |mk (ln:_)(_:H t=some (.tup [.non,.ref ln]))(_:qA H ln (c.lns L)):AG c H t L
structure Gb (c:dZ)(H:Hp)(t:Addr)(L:ic):Prop where
 ex:AG c H t L
 ok:gC c L
 last:∃e,L.getLast?=some e∧e.1=0
inductive wq (PP:Addr)(vs:List V)(H:Hp)(Q:VK)(E:XK):Prop
 |mk (sh st:Addr)(es:List En)(sn:List Nd)(_:vs=[.ref sh,.ref st])(_:jk H sh es)(_:es.length<64)(_:(es.map eL).Nodup)(_:gB H st sn)(_:(∀w,(iy es sn w).length≤100))(_:gW Bb yl H PP)(_:(∀c:dZ,c.es=es→c.sn=sn→∀L,gC c L→L.length<sizeLine))(_:∀(c:dZ) (H':Hp) (t:Addr),c.es=es→c.sn=sn→er (del H [PP]) H'→gW Bb yl H' PP→((∃L,Gb c H' t L)∨∃L pk,Ga c H' t L pk)→Q (.ref t) H'):wq PP vs H Q E
def nX (PP:Addr):Sp:=wq PP
section
variable {base:Heap}{f:Addr}
theorem Bn:eG ["shelf","start","search","stand"] ["shelf","start"] (eA qY):=i8
theorem xk {CL CS:Addr}(F:iL K "worked_out" "worked_out" qY f fd)(T:sr K mg CS)(TT:Cv K mg CT)(h0:wL P w K mg base CB eZ 1 "Board" ["self","shelf","start"] (qR CB))(e1:wL P w K mg base CC eZ 4 "Chart" ["self","board"] (om CB CC))(is:wL P w K mg base CS eZ 3 "Search" ["self","chart"] (nY CL CS))(i1:wL P w K mg base CF eZ 1 "Fork" ["self","part","stand"] (ol CF))(g2:Mt P w K mg base CS eZ 3 "opening" ["self"] (l4 CB CC CL CS CT))(hv:Mt P w K mg base CS eZ 5 "next_part" ["self","stand"] (uk CB CC CS CT Bb yl PP))(e7:Mt P w K mg base CS eZ 6 "go_on" ["self"] (uo CB CC CL CS CF CT))(da:Mt P w K mg base CL eZ 2 "told" ["self"] (qI CB CC CL))(fv:Mt P w K mg base CS eZ 7 "show_newest" ["self","picked"] (qK CB CC CL CS CF CT))(fo:Mt P w K mg base CC eZ 1 "listed" ["self","mask"] (iX CC)):fb P w K mg base eZ 8 f fd ["shelf","start"] (nX PP):=by
 refine F.ok Bn (fun vs H Q E h=>?_) (fun cdv A outer s H vs Q E hr h=>?_)
 ·obtain⟨sh,st,es,sn,rfl,_⟩:=h;rfl
 obtain⟨sh,st,es,sn,rfl,hc,cd,dp,ft,df,hT,e4,q1⟩:=h;have hu:=gc hr;refine⟨_,(dX (eF (i:=2) Bn.nd rfl (Or.inl rfl) (oQ is (hr.mono (by decide:4≤7)) rfl eP (dU (oQ e1 (hr.mono (by decide:5≤7)) rfl eP (dU (oQ h0 (hr.mono (by decide:2≤7)) rfl eP (dU (pv 0) (dU (pv 1) ee))) ee)) ee))) (dX (eF (i:=3) Bn.nd rfl (Or.inl rfl) (qd g2 (hr.mono (by decide:3≤7)) eP (pv 2))) (dX (jD PassesOwn.never (PW.pt (rE (iN (vP (pv 3))) (nB (Bz (eD TT.cl TT.nWa (pv 3)) (fun _=>rfl))))) (dX (fU (je PySem.F.plainAttrs_list PySem.F.slot_list_append PySem.F.type_list_append gq (eD T.cl T.nFo (pv 2)) (dU (oQ i1 (hr.mono (by decide:2≤7)) rfl eP (dU (gY hv (hr.mono (by decide:5≤7)) eP (pv 2) (dU (pv 3) ee)) (dU (pv 3) ee))) ee))) (eg (eF (i:=3) Bn.nd rfl (Or.inl rfl) (qd e7 (hr.mono (by decide:6≤7)) eP (pv 2)))))) (dX (gj (iN (zj (pv 3))) (eg (eR (ge (dU iO (dU (qd da (hr.mono (by decide:2≤7)) eP (eD T.cl T.nLe (pv 2))) ee))))) ff) (dX (fU (gY fv hr eP (pv 2) (dU (eD TT.cl TT.nPi (pv 3)) ee))) (eg (eR (ge (dU (gY fo (hr.mono (by decide:1≤7)) eP (eD T.cl T.nCh (pv 2)) (dU (eD TT.cl TT.nPi (pv 3)) ee)) (dU (qd da (hr.mono (by decide:2≤7)) eP (eD T.cl T.nLe (pv 2))) ee)))))))))),?_⟩;refine⟨_,rfl,_,rfl,fun b bx hb fu hw=>?_⟩;have s1:=made (C:=CB) hb fu hw;have gw:upd (upd H bx (.own b)) b (.ins CB bx []) b=some (.ins CB bx []):=dW;generalize upd (upd H bx (.own b)) b (.ins CB bx [])=H1 at *;have hd:eB H (del H1 [b]):=fun a u e=>by rw[el (by simpa using d0 e hb)];exact s1 _ _ e
 refine⟨b,bx,sh,st,es,rfl,gw,jk.same s1 hc,cd,dp,fun H2 s2 hB=>⟨rfl,?_⟩⟩;have cs:eB H H2:=hd.trans s2;intro ch cx et ho f8;have s3:=made (C:=CC) et ho f8;have hm:upd (upd H2 cx (.own ch)) ch (.ins CC cx []) ch=some (.ins CC cx []):=dW;generalize upd (upd H2 cx (.own ch)) ch (.ins CC cx [])=H3 at *;refine⟨ch,cx,b,st,es,sn,rfl,hm,hB.same s3,ft.same (cs.trans s3),dp,cd,df,fun c H4 c1 c2 go hC=>⟨rfl,?_⟩⟩;subst c1;subst c2;have e6:eB H (del H3 [ch]):=fun a u e=>by rw[el (by simpa using d0 (cs _ _ e) et)];exact s3 _ _ (cs _ _ e)
 have a7:er H H4:=e6.toF.trans go;have dn:gW Bb yl H4 PP:=gW.f a7 hT;obtain⟨tu,hP4,fP⟩:∃u,H4 PP=some u∧ud u:=by
  rcases dn with z | ⟨c',z,_⟩
  ·exact⟨_,z,trivial⟩
  ·exact⟨_,z,trivial⟩
 intro se sx ah kf h6;have s5:=made (C:=CS) ah kf h6;have i0:upd (upd H4 sx (.own se)) se (.ins CS sx []) se=some (.ins CS sx []):=dW;generalize upd (upd H4 sx (.own se)) se (.ins CS sx [])=H5 at *;have eq:=s5 _ _ hP4;have i3:del H4 [PP] se=none:=by
  cases h:del H4 [PP] se with
  |none=>rfl
  |some u=>rw[eU _ _ se u h]at ah;cases ah
 have hg:=hC.fix hP4 fP;have hf:del H4 [PP] PP=none:=fq (by simp);have c4:er (del H [PP]) (del H4 [PP]):=fun a u e=>by
  have na:a∉[PP]:=fun z=>by rw[fq z]at e;cases e
  rw[el na]at e ⊢;exact a7 a u e
 refine⟨del H4 [PP],se,sx,ch,c,rfl,((eU _ _).trans s5).toF,i3,i0,fun G6 H6 N fl O ed cz jn f3 kv bd f0 g1 bl X a5=>⟨rfl,?_⟩⟩;generalize del H4 [PP]=G at *;have dx:er H4 H6:=fun a u e=>g1 a u (by rw[el (by simpa using d0 e ah)];exact s5 _ _ e);have j1:G6 PP=none:=by
  cases h:G6 PP with
  |none=>rfl
  |some u=>
   rcases jn PP hf (by rw[h];exact fun z=>nomatch z) with z | z
   ·rw[eq]at z;cases z
   ·rw[z,ah]at hP4;cases hP4
 have gk:PP∉O:=fun z=>by have:=f3 PP z;rw[eq]at this;cases this
 have ep:Db H6 O PP:=⟨gW.f dx dn,gk,fun c' u _ e2 f2 z=>X.nf c' z u e2 f2⟩;have cn:c.n<64:=by rw[c.n_eq];exact cd
 have bm:Se CB CC CS G6 H6 se ch N fl c:=⟨cz,⟨sx,bl⟩,hg.f ed,cn,df,e4 c rfl rfl⟩;refine⟨_,rfl,se,sx,_,rfl,cz.ins bl,(by kernel_rfl),G6,se,ch,N,fl,c,O,rfl,bm,X.liv,X.off,fun G7 H7 s7 d7 J gt e3 c9 dl j2 h3=>?_⟩;have it:fT CL G7 H7 N ch c [] O:=X.grow J.gg (fun a D=>by obtain⟨u,o⟩:=X.liv a D;exact J.off (X.off a D) o) h3;have S7:SS CB CC CL CS CF CT G7 H7 se ch N fl c [] O [] []:=⟨bm.grow J.gg J.gh,it,gC.nil c,⟨J.keep bd a5 (fun z=>z),.nil,J.off f0 a5,(fun a D=>nomatch D),bS,bS⟩,bd,fun a D=>nomatch D⟩;have g0:=ep.keep J.KN;have gp:G7 PP=none:=by
  obtain⟨u,o,_⟩:=ep.fix;exact J.off j1 o
 have f5:s7∉O:=fun z=>by obtain⟨u,o⟩:=X.liv s7 z;rw[gt]at o;cases o
 refine⟨fun m σ H8=>∃(r:Hp) (Y:ic) (R:List Addr) (S:List (Addr×Addr)) (F8:List Fk),er G r∧SS CB CC CL CS CF CT r H8 se ch N fl c Y R S F8∧Db H8 R PP∧r PP=none∧((σ=[some (.ref sh),some (.ref st),some (.ref se),some .non]∧m=0∧∃e,Y.getLast?=some e∧e.1=0)∨∃v U,σ=[some (.ref sh),some (.ref st),some (.ref se),some (.ref v)]∧m=c.mv (c.n+1) F8+1∧fz c Y F8.reverse U∧NZ Y∧kK CT r H8 v U∧r v=none∧v∉R∧v∉S.map (·.2)),⟨c.mv (c.n+1) []+1,G7,[],O,[],[],ed.trans J.gg,S7,g0,gp,.inr ⟨s7,d7,rfl,rfl,.nil j2 (dl []),(fun e he=>nomatch he),c9,e3,f5,(fun z=>nomatch z)⟩⟩,?_⟩;rintro m σ H8 ⟨r,Y,R,S,F8,a0,j,an,b3,cp⟩;obtain⟨ag,a4⟩:=j.se.self;have aa:=j.se.gh.ins a4;obtain⟨gd,k8,k4,lo,kx,ko,lp,k6,ky,ec,ey⟩:=id j.led.ex;have hj:∀{L:Hp},er r L→er (del H [PP]) L:=fun {L} h=>c4.trans (a0.trans h);rcases cp with ⟨rfl,rfl,e,e5,kd⟩ | ⟨v,U,rfl,rfl,d,ew,ap,g7,bq,d9⟩
 ·refine⟨_,rfl,_,rfl,gv (gv ?_)⟩;refine⟨_,rfl,_,rfl,ir ?_⟩;refine⟨_,rfl,se,ag,_,V.ref N,rfl,aa,(by kernel_rfl),N,gd,_,rfl,j.se.gh.ins ec,(by kernel_rfl),r,N,ch,c,Y,R,rfl,j.se.gh,j.se.chart,j.led,cn,j.ok.lt,j.se.sm Y j.ok,fun ln L s9 b1=>?_⟩;refine⟨(by show 2≤sizeLine;decide),fun t ht=>?_⟩;have st:=eo ht (.tup [.non,.ref ln]);have sA:=s9.trans st;exact q1 c _ t rfl rfl (hj (j.se.gh.trans sA.toF)) (gW.f sA.toF an.1) (.inl ⟨Y,⟨ln,dW,b1.same st⟩,j.ok,e,e5,kd⟩)
 ·obtain⟨b2,wa,as,wo,Z,g8,kh⟩:=id ap;refine⟨_,rfl,_,rfl,ir ?_⟩;refine⟨_,rfl,v,b2,_,V.ref wa,rfl,as,(by kernel_rfl),wa,Z,rfl,.inr ⟨wo,j.se.gh.frz g8⟩,?_⟩;have lw:=Paired.length kh;by_cases hwe:U.wanted=[]
  ·have hs:Z=[]:=bH.mp (by rw[lw,hwe];rfl);rw[hs];refine gv ?_;have a8:=d.sd.fit hwe;refine⟨_,rfl,_,rfl,gv ?_⟩;refine⟨_,rfl,se,ag,_,rfl,aa,(by kernel_rfl),_,rfl,v,b2,_,V.int (U.picked:Nat),rfl,as,(by kernel_rfl),r,se,ch,N,fl,c,Y,R,S,F8,U,rfl,j,d,a8,fun G9 L L9 O9 F9 f4 ei M a3=>?_⟩;have f1:=ei.no as bq d9 fun z=>z;have co:=an.keep (ei.KN j.fk);obtain⟨c7,c3⟩:=M.se.self;have bf:=M.se.gh.ins c3;obtain⟨gx,gb,g3,h4,lf,k1,kq,k2,k5,d1,d2,d3,d4,d5,d6⟩:=M.se.chart.ex;refine⟨_,rfl,se,c7,_,V.ref ch,rfl,bf,(by kernel_rfl),ch,gx,_,rfl,M.se.gh.ins d1,(by kernel_rfl),_,rfl,v,b2,_,V.int (U.picked:Nat),rfl,f1,(by kernel_rfl),G9,ch,gx,h4,_,c,_,rfl,M.se.gh,M.se.gh.ins d1,(by kernel_rfl),d5,cn,d.sd.pl,fun l xs Ha sa hl hz js kc=>?_⟩;obtain⟨h7,lk,ks,k3,k7,kj,k0,lm,kp,dd,ez⟩:=id M.led.ex;have ga:er G9 Ha:=M.se.gh.trans sa.toF;refine⟨_,rfl,se,c7,_,V.ref N,rfl,sa _ _ bf,(by kernel_rfl),N,h7,_,rfl,ga.ins dd,(by kernel_rfl),G9,N,ch,c,L9,O9,rfl,ga,M.se.chart,M.led.same sa,cn,M.ok.lt,M.se.sm L9 M.ok,fun ln Hb sb b1=>?_⟩;refine⟨(by show 2≤sizeLine;decide),fun t ht=>?_⟩;have st:=eo ht (.tup [.ref l,.ref ln]);have sA:=sa.trans (sb.trans st);have gA:er G9 (upd Hb t (.tup [.ref l,.ref ln])):=M.se.gh.trans sA.toF;refine q1 c _ t rfl rfl (c4.trans (a0.trans (f4.trans gA))) (gW.f sA.toF co.1) (.inr ⟨L9,U.picked,⟨l,ln,dW,⟨xs,st _ _ (sb _ _ hz),Paired.Ja js fun _ _ z=>fj.f gA z⟩,b1.same st⟩,M.ok,a8,d.sd.one,d.sd.pl,d.sd.named,fun k hk dc n hn kk hp=>?_⟩);obtain⟨g,cy,ev⟩:=d.from k hk;have gn:=ci.mp cy;have ih:k.1=g.part:=((d.fks g cy).1.bit k ev).2.1;rw[ih]at dc hn ⊢;exact a3 g gn dc k ev n hn kk hp
  ·have e0:(!Z.isEmpty)=true:=by
    cases Z with
    |nil=>exact absurd (bH.mp lw.symm) hwe
    |cons a b=>rfl
   rw[e0];refine ir ⟨fun σ' H'=>∃m',m'<c.mv (c.n+1) F8+1∧_,fun _ _ h=>h,?_⟩;refine⟨_,rfl,se,ag,_,V.ref fl,rfl,aa,(by kernel_rfl),.inl ⟨rfl,_,eX.of j.fk.l⟩,?_⟩;refine⟨_,rfl,se,ag,_,rfl,aa,(by kernel_rfl),_,rfl,r,se,ch,N,fl,v,c,Y,U,rfl,j.se,ap,d.sd,hwe,an.1,b3,fun x L hx b6 s9 c6=>?_⟩;refine⟨_,rfl,fun q fx dr h8 hi=>?_⟩;obtain⟨kw,g4,g6⟩:=an.fix;have nP:∀{a u},H8 a=some u→¬ud u→a∉[PP]:=fun {a u} h n z=>by
    rw[ai.mp z,g4]at h;cases h;exact n g6
   have k9:∀{a u},H8 a=some u→¬ud u→L a=some u:=fun {a u} h n=>s9 _ _ (by rw[el (nP h n)];exact h);have g9:er r L:=ig j.se.gh (O:=[PP]) (fun a D=>by rw[ai.mp D];exact b3) s9.toF;have a2:fT CL r L N ch c Y R:=j.led.grow (er.refl _) j.led.off fun a D=>by
    obtain⟨u,o⟩:=j.led.liv a D;rw[k9 o (j.led.nf a D u o),o]
   have fr:∃u,L PP=some u:=by
    rcases c6 with z | ⟨c',z,_⟩
    ·exact⟨_,z⟩
    ·exact⟨_,z⟩
   have c5:iu r H8 [PP] r L [PP]:=⟨er.refl _,g9,fun a e n=>absurd e n,fun a h=>.inl h,s9.toF,fun a e=>by
    by_cases z:a=PP
    ·obtain⟨u,o⟩:=fr;rw[z,o]at e;cases e
    ·have:=s9.free e;rw[el (by simpa using z)]at this
     exact this⟩
   have ds:yf [PP] fl S:=⟨nP j.fk.l fun z=>z,fun a D=>by
    obtain⟨t,ht⟩:=az.mp D;obtain⟨fk,_,⟨ld,h1⟩,la,kt,h2,_⟩:=Paired.Ju j.fk.p ht
    exact⟨nP h1 fun z=>z,nP h2 fun z=>z⟩⟩
   have B:=j.fk.grow c5 ds;have a6:=ap.grow c5 (nP as fun z=>z);have M:SS CB CC CL CS CF CT r L se ch N fl c Y R S F8:=⟨j.se.grow (er.refl _) g9,a2,j.ok,B,j.sep⟩;have co:Db L R PP:=⟨c6,an.2.1,fun c' u _ e2 f2 z=>a2.nf c' z u e2 f2⟩;have sm:=made (C:=CF) dr h8 hi;have I:=dr;have g5:upd (upd L fx (.own q)) q (.ins CF fx []) q=some (.ins CF fx []):=dW;generalize upd (upd L fx (.own q)) q (.ins CF fx [])=Ha at *;have eh:=iu.same (O:=R) g9 sm;have Sa:=M.grow eh (a2.same sm) M.ok;have kn:kK CT r Ha v U:=a6.grow eh bq;refine⟨q,fx,_,_,rfl,g5,rfl,?_⟩;have em:fl≠q:=fun z=>by have:=B.l;rw[z,I]at this;cases this
   have cv:r q=none:=g9.free I;have bv:(S.map fun a=>V.ref a.1).length<sizeLine:=by
    rw[ab,Paired.length j.fk.p];have:=d.depth;rw[c0]at this;exact eE (by lia)
   refine⟨fl,_,_,rfl,rfl,(by rw[dY em];exact Sa.fk.l),bv,?_⟩;have b9:∀y,y≠q→y≠fl→upd (upd Ha q (.ins CF fx (tD (.str x) (.ref v) (.int 0)))) fl (.lst ((S.map fun a=>V.ref a.1)++[.ref q])) y=Ha y:=fun y h1 h2=>by rw[dY h2,dY h1]
   have fp:upd (upd Ha q (.ins CF fx (tD (.str x) (.ref v) (.int 0)))) fl (.lst ((S.map fun a=>V.ref a.1)++[.ref q])) q=some (.ins CF fx (tD (.str x) (.ref v) (.int 0))):=by rw[dY (Ne.symm em),dW]
   have f9:upd (upd Ha q (.ins CF fx (tD (.str x) (.ref v) (.int 0)))) fl (.lst ((S.map fun a=>V.ref a.1)++[.ref q])) fl=some (.lst ((S++[(q,v)]).map fun a=>V.ref a.1)):=by rw[dW,aw];rfl
   have gb:er r (upd (upd Ha q (.ins CF fx (tD (.str x) (.ref v) (.int 0)))) fl (.lst ((S.map fun a=>V.ref a.1)++[.ref q]))):=(Sa.se.gh.upd cv).upd Sa.fk.offl;generalize upd (upd Ha q (.ins CF fx (tD (.str x) (.ref v) (.int 0)))) fl (.lst ((S.map fun a=>V.ref a.1)++[.ref q]))=Hb at *;have al:∀{y C dy fs},L y=some (.ins C dy fs)→y≠q∧y≠fl:=fun {y C dy fs} h=>⟨d0 h I,fe h B.l fun z=>nomatch z⟩;have kb:∀{y C dy fs},L y=some (.ins C dy fs)→Hb y=some (.ins C dy fs):=fun {y C dy fs} h=>by rw[b9 y (al h).1 (al h).2];exact sm _ _ h
   have a9:q∉R:=fun z=>by obtain⟨u,o⟩:=a2.liv q z;rw[I]at o;cases o
   have iv:fT CL r Hb N ch c Y R:=Sa.led.grow (er.refl _) Sa.led.off fun y hy=>b9 y (fun z=>a9 (z▸hy)) fun z=>j.sep.1 (z▸hy);have eu:kK CT r Hb v U:=by
    obtain⟨y1,y2,y3,y4⟩:=a6;exact⟨y1,y2,kb y3,y4⟩
   have e8:iM CF CT r Hb c fl (S++[(q,v)]) (F8++[⟨x,U,none⟩]):=by
    refine⟨f9,Paired.snoc (Paired.Ja B.p (by rintro _ _ ⟨⟨z1,z2⟩,z3,z4,z5,z6⟩;exact⟨⟨z1,kb z2⟩,z3,z4,kb z5,z6⟩)) ⟨⟨fx,fp⟩,eu⟩,B.offl,fun a D=>?_,?_,?_⟩
    ·rcases ay.mp D with z | z
     ·exact B.off a z
     ·rw[ai.mp z];exact⟨cv,g7⟩
    ·rw[aw,bQ];refine⟨B.nd1,by simp,fun a D y hy e=>?_⟩;rw[show y=q by simpa using hy]at e;obtain⟨a',hh,e'⟩:=av.mp D;obtain⟨t,ht⟩:=az.mp hh;obtain⟨fk,_,⟨z1,z2⟩,_⟩:=Paired.Ju B.p ht;rw[e',e,I]at z2;cases z2
    ·rw[aw,bQ];refine⟨B.nd2,by simp,fun a D y hy e=>?_⟩;rw[show y=v by simpa using hy]at e;exact d9 (e▸D)
   have Sb:SS CB CC CL CS CF CT r Hb se ch N fl c Y R (S++[(q,v)]) (F8++[⟨x,U,none⟩]):=⟨j.se.grow (er.refl _) gb,iv,j.ok,e8,j.sep.1,fun a D=>by
    rcases ay.mp D with z | z
    ·exact j.sep.2 a z
    ·rw[ai.mp z];exact⟨a9,bq⟩⟩
   have f7:iE L R Hb R:=fun y u hy fy ny=>by
    have n1:y≠q:=d0 hy I;have n2:y≠fl:=fun z=>by rw[z,B.l]at hy;cases hy;exact fy
    exact⟨by rw[b9 y n1 n2];exact sm _ _ hy,ny⟩
   have a1:=co.keep f7;have ct:=gb.ins a4;have ka:jL c ⟨x,U,none⟩:=⟨hx,b6,fun k hk=>nomatch hk⟩;have ek:F8.length<c.n+1:=by
    have:=d.depth;rw[c0]at this
    lia
   have e9:=c.J6 ⟨x,U,none⟩ (c.n+1) F8 ek;obtain⟨h9,i2,f6⟩:=a1.fix;have ad:∀{G':Hp},yg Hb R r G'→G' PP=none:=fun {G'} ox=>ox PP h9 i2 f6 a1.2.1 b3;refine⟨_,rfl,se,ag,_,rfl,ct,(by kernel_rfl),r,se,ch,N,fl,c,Y,R,S++[(q,v)],F8,⟨x,U,none⟩,rfl,Sb,d,ka,ew,fun G' H' L' O' A' F' s' d' b4 b5 b7 S' eb ea c8 h5 hq j0 kl=>?_,fun G' H' L' O' A' F' e' b4 b5 b7 S' ej dv=>?_⟩
   ·have b8:=a1.keep b5;refine⟨c.mv (c.n+1) F'+1,by lia,G',L',O',A',F',a0.trans b4,S',b8,ad b7,.inr ⟨s',d',rfl,rfl,eb,ea,c8,h5,hq,j0⟩⟩
   ·have b8:=a1.keep b5;exact⟨0,Nat.succ_pos _,G',L',O',A',F',a0.trans b4,S',b8,ad b7,.inl ⟨rfl,rfl,e',ej,dv⟩⟩
end
end FB
namespace FB
open PySem L2 PyProof.Rows
variable {m:Nat}
def tL (Vs:List Int):List Str→List (List (Option Int))
 |[]=>[[]]
 |_::ps=>(none::Vs.map some).flatMap fun o=>(tL Vs ps).map fun r=>o::r
theorem qq (Vs:List Int):∀ps:List Str,(tL Vs ps).length≤(Vs.length+1)^ps.length
 |[]=>aq _
 |_::ps=>by
  have ih:=qq Vs ps;have h:=mr (f:=fun o:Option Int=>(tL Vs ps).map fun r=>o::r) (n:=(Vs.length+1)^ps.length) (l:=none::Vs.map some) fun o _=>by rw[ab];exact ih
  rw[aB,ab]at h;rw[aB,cJ,Nat.mul_comm];exact h
def dZ.K2 (c:dZ)(m:Nat)(x:Str):Option Int:=((c.listed m).find? fun k=>decide (k.1=x)).map (·.2)
def dZ.code (c:dZ)(Ps:List Str)(m:Nat):List (Option Int):=Ps.map (c.K2 m)
theorem pX {c:dZ}(h1:c.JR m){k:Pk}(a:c.has m k):c.K2 m k.1=some k.2:=by
 unfold dZ.K2;cases h:(c.listed m).find? fun j=>decide (j.1=k.1) with
 |none=>
  have:=dM.mp h k (dZ.JB.mpr a);simp at this
 |some j=>
  have b:j.1=k.1:=by simpa using List.find?_some h
  have d:=dZ.JB.mp (cu h);rw[h1 j k d a b];rfl
theorem nT {c:dZ}{x:Str}{v:Int}(h:c.K2 m x=some v):c.has m (x,v):=by
 unfold dZ.K2 at h;obtain⟨j,h1,h2⟩:=ax.mp h;have b:j.1=x:=by simpa using List.find?_some h1
 have a:=dZ.JB.mp (cu h1);have:j=(x,v):=Prod.ext b h2;rw[←this];exact a
theorem wf {c:dZ}{Vs:List Int}(hv:∀k∈c.ks,k.2∈Vs)(m:Nat):∀Ps:List Str,c.code Ps m∈tL Vs Ps
 |[]=>ai.mpr rfl
 |x::ps=>by
  refine List.mem_flatMap.mpr ⟨c.K2 m x,?_,av.mpr ⟨c.code ps m,wf hv m ps,rfl⟩⟩;cases h:c.K2 m x with
  |none=>exact bh
  |some v=>exact aZ _ (bg (hv (x,v) (nT h).1))
theorem Am {c:dZ}{Ps:List Str}(hp:∀k∈c.ks,k.1∈Ps){m':Nat}(e:m<2^c.n)(b:m'<2^c.n)(h1:c.JR m)(h2:c.JR m')(h:c.code Ps m=c.code Ps m'):m=m':=by
 have key:∀x∈Ps,c.K2 m x=c.K2 m' x:=fun x j=>by
  obtain⟨i,hi⟩:=az.mp j;have d:(c.code Ps m)[i]?=some (c.K2 m x):=by unfold dZ.code;rw[ae,hi];rfl
  have g:(c.code Ps m')[i]?=some (c.K2 m' x):=by unfold dZ.code;rw[ae,hi];rfl
  rw[h,g]at d;exact(Option.some.inj d).symm
 refine dZ.ext e b fun k=>⟨fun a=>?_,fun a=>?_⟩
 ·have:=pX h1 a;rw[key k.1 (hp k a.1)]at this;exact nT this
 ·have:=pX h2 a;rw[←key k.1 (hp k a.1)]at this;exact nT this
theorem xR {c:dZ}{L:ic}{Ps:List Str}{Vs:List Int}(d:gC c L)(hp:∀k∈c.ks,k.1∈Ps)(l:∀k∈c.ks,k.2∈Vs):L.length≤(Vs.length+1)^Ps.length:=by
 have h1:(L.map fun e=>c.code Ps e.1).Nodup:=by
  refine cA.mpr ?_;have h2:L.Pairwise fun a b=>a.1≠b.1:=cA.mp d.nd;exact h2.imp_of_mem fun h j g z=>g (Am hp (d.lt _ h) (d.lt _ j) (d.one _ h) (d.one _ j) z)
 have i:(L.map fun e=>c.code Ps e.1).length≤(tL Vs Ps).length:=jX h1 fun r m=>by
  obtain⟨e,_,rfl⟩:=av.mp m;exact wf l e.1 Ps
 rw[ab]at i;exact bj i (qq Vs Ps)
end FB
namespace FB
open PySem L2 PyProof.Rows
seal lW PS PE PT PA
structure AE (K:W.Frag)(mg:Str→Option Value):Prop where
 len:mg "len" = none
 range:mg "range" = none
 list:mg "list" = none
 tuple:mg "tuple" = none
 str:mg "str" = none
 int:mg "int" = none
 bool:mg "bool" = none
 isin:mg "isinstance" = none
 sorted:mg "sorted" = none
 rev:mg "reversed" = none
inductive Il (K:W.Frag)(vs:List V)(H:Hp)(Q:VK)(E:XK):Prop
 |mk (a:Addr)(ns:List Int)(k:Int)(_:vs=[.ref a,.int k])(_:eX K H a (ns.map V.int))(_:0≤k)(_:∀z,Q (.int z) H):Il K vs H Q E
def Bj (K:W.Frag):Sp:=Il K
def gU:List Str:=["ashenashenashen","as","","ashenashxnashen"]
def p6:List Int:=[9,10,-10,100,0,-1,10^30]
inductive FY (vs:List V)(H:Hp)(Q:VK)(E:XK):Prop
 |mk (c:Int)(_:vs=[.int c])(_:∀z H',eB H H'→z∈p6→Q (.int z) H'):FY vs H Q E
def sy:Sp:=FY
inductive C2 (vs:List V)(H:Hp)(Q:VK)(E:XK):Prop
 |mk (c:Int)(_:vs=[.int c])(_:∀q (n:Nd) H',eB H H'→H q=none→H' q=some (.tup [.str n.1,.int n.2.1,.int n.2.2])→n.1∈gU→Q (.ref q) H'):C2 vs H Q E
def ul:Sp:=C2
inductive wC (K:W.Frag)(vs:List V)(H:Hp)(Q:VK)(E:XK):Prop
 |mk (v:V)(n:Nd)(z:Int)(_:vs=[v,.int z])(_:fA H v n)(_:Q (.bl (decide (n.2.1≤z)&&decide (z≤n.2.2))) H):wC K vs H Q E
def sB (K:W.Frag):Sp:=wC K
section
variable {P:Program}{w:World}{K:W.Frag}{mg:Str→Option Value}{base:Heap}{f:Addr}{fd:FuncData}
theorem Hu:eG ["_law_script","_law_k"] ["_law_script","_law_k"] (eA Hw):=i8
theorem FE (F:iL K "_law_at" "_law_at" Hw f fd)(T:AE K mg):fb P w K mg base eZ 1 f fd ["_law_script","_law_k"] (Bj K):=by
 refine F.ok Hu (fun vs H Q E h=>?_) (fun cdv A outer s H vs Q E i h=>?_)
 ·obtain⟨a,b,k,rfl,_⟩:=h;rfl
 obtain⟨a,b,k,rfl,d,e,q⟩:=h;refine⟨_,dX (gj (gu zn (pv 1) (fK gQ rfl T.len cF (dU (pv 0) ee)) (gJ _)) (eg (eR (eO fE (pv 0) (pv 1) (fun _ _=>rfl)))) ff) (eg (eR ef)),?_⟩;refine⟨_,rfl,_,rfl,a,_,rfl,.inl d,_,_,rfl,rfl,_,rfl,?_⟩;refine mn (fun c=>?_) (fun c=>?_)
 ·have c':k<(((b.map V.int).length:Nat):Int):=bc c;rw[ab]at c';obtain⟨z,g,_⟩:=jT e c';exact⟨_,rfl,_,rfl,a,_,_,_,rfl,rfl,d,g,q z⟩
 ·exact q 0
theorem Fl:eG ["_law_cell"] ["_law_cell"] (eA DN):=i8
theorem D1 (F:iL K "_law_version_by" "_law_version_by" DN f fd):fb P w K mg base eZ 1 f fd ["_law_cell"] sy:=by
 refine F.ok Fl (fun vs H Q E h=>?_) (fun cdv A outer s H vs Q E d h=>?_)
 ·obtain⟨c,rfl,_⟩:=h;rfl
 obtain⟨c,rfl,q⟩:=h;refine⟨_,dX (gj (gu lN (eW jP (pv 0) ef) ef (gJ _)) (eg (eR (eO fE (gf (dU ef (dU ef (dU (iY jM ef) (dU ef ee))))) (eW jP (eW iR (pv 0) ef) ef) (fun _ _=>rfl)))) ff) (eg (eR (eO fE (gf (dU ef (dU (iY jM ef) (dU (eW uL ef ef) ee)))) (eW jP (pv 0) ef) (fun _ _=>rfl)))),?_⟩;refine⟨_,rfl,_,_,rfl,rfl,(by show(0:Int)<7;decide),rfl,_,rfl,?_⟩;refine mn (fun _=>?_) (fun _=>?_)
 ·refine⟨_,rfl,(by show 4≤sizeLine;decide),fun p hp=>?_⟩;obtain⟨z,b,a⟩:=jT (ns:=[9,10,-10,100]) (i:=c / 7 % 4) (dk _ (by decide)) (cG _ (by decide));exact⟨_,rfl,_,_,rfl,rfl,⟨by decide,by decide⟩,_,_,rfl,rfl,(by show(0:Int)<4;decide),p,_,_,_,rfl,rfl,eX.of dW,b,q z _ (eo hp _) (aJ [0,-1,10^30] a)⟩
 ·refine⟨_,rfl,_,_,rfl,rfl,⟨by decide,by decide,by decide⟩,(by show 3≤sizeLine;decide),fun p hp=>?_⟩;obtain⟨z,b,a⟩:=jT (ns:=[0,-1,10^(30:Int).toNat]) (i:=c % 3) (dk _ (by decide)) (cG _ (by decide));exact⟨_,rfl,_,_,rfl,rfl,(by show(0:Int)<3;decide),p,_,_,_,rfl,rfl,eX.of dW,b,q z _ (eo hp _) (aI [9,10,-10,100] a)⟩
theorem CO:ij "ashenashenashen":=⟨by decide +kernel,by decide +kernel⟩
theorem CN:ij "as":=⟨by decide +kernel,by decide +kernel⟩
theorem CM:ij "":=⟨by decide +kernel,by decide +kernel⟩
theorem CK:ij "ashenashxnashen":=⟨by decide +kernel,by decide +kernel⟩
theorem nQ {x:Str}(h:x∈gU):ij x:=by
 unfold gU at h;simp only[ak,aM,or_false]at h;rcases h with rfl | rfl | rfl | rfl
 ·exact CO
 ·exact CN
 ·exact CM
 ·exact CK
theorem FC {v:V}(a:v∈[V.str "ashenashenashen",V.str "as",V.str "",V.str "ashenashxnashen"]):∃x,v=.str x∧x∈gU:=by
 obtain⟨x,b,rfl⟩:=av.mp (show v∈gU.map V.str from a);exact⟨x,rfl,b⟩
theorem qW:eG ["_law_cell","_law_part","_law_low","_law_high"] ["_law_cell"] (eA yM):=i8
theorem BR {g:Addr}{gd:FuncData}(F:iL K "_law_need_by" "_law_need_by" yM f fd)(G:fb P w K mg base eZ 1 g gd ["_law_cell"] sy)(j:gs K gd ["_law_cell"] [])(C:W.keepIn K (.ref g)=true)(B:mg "_law_version_by" = some (.ref g)):fb P w K mg base eZ 2 f fd ["_law_cell"] ul:=by
 refine F.ok qW (fun vs H Q E h=>?_) (fun cdv A outer s H vs Q E m h=>?_)
 ·obtain⟨c,rfl,_⟩:=h;rfl
 obtain⟨c,rfl,q⟩:=h;refine⟨_,dX (eF (i:=1) qW.nd rfl (Or.inl rfl) (eO fE (gf (dU gX (dU gX (dU gX (dU gX ee))))) (eW jP (pv 0) ef) (fun _ _=>rfl))) (dX (eF (i:=2) qW.nd rfl (Or.inl rfl) (fw G m rfl B C j .nil eP (dU (eW iR (pv 0) ef) ee))) (dX (eF (i:=3) qW.nd rfl (Or.inl rfl) (eO fE (gf (dU ef (dU (iY jM ef) (dU (eW uL ef ef) (dU (eW uL ef ef) (dU (pv 2) (dU (iY jM ef) ee))))))) (eW jP (eW iR (pv 0) ef) ef) (fun _ _=>rfl))) (eg (eR (ge (dU (pv 1) (dU (pv 2) (dU (pv 3) ee)))))))),?_⟩;refine⟨(by show 4≤sizeLine;decide),fun p hp=>?_⟩;obtain⟨v,z,y⟩:=vo (xs:=[.str "ashenashenashen",.str "as",.str "",.str "ashenashxnashen"]) (i:=c % 4) (dk _ (by decide)) (cG _ (by decide));obtain⟨x,rfl,t⟩:=FC y;refine⟨_,rfl,_,_,rfl,rfl,(by show(0:Int)<4;decide),p,_,_,_,rfl,rfl,eX.of dW,z,?_⟩;have o:=eo hp (.lst [.str "ashenashenashen",.str "as",.str "",.str "ashenashxnashen"]);refine⟨_,rfl,_,_,rfl,rfl,⟨by decide,by decide⟩,_,rfl,fun lo H2 l _=>?_⟩;refine⟨_,rfl,_,_,rfl,rfl,⟨by decide,by decide,by decide⟩,_,_,rfl,rfl,⟨by decide,by decide,by decide⟩,_,rfl,_,rfl,(by show 6≤sizeLine;decide),fun p2 d=>?_⟩;obtain⟨hi,b,_⟩:=jT (ns:=[0,-1,10^(30:Int).toNat,10^(30:Int).toNat,lo,-9]) (i:=c / 12 % 6) (dk _ (by decide)) (cG _ (by decide));refine⟨_,rfl,_,_,rfl,rfl,⟨by decide,by decide⟩,_,_,rfl,rfl,(by show(0:Int)<6;decide),p2,_,_,_,rfl,rfl,eX.of dW,b,?_⟩;have e:=(o.trans l).trans (eo d (.lst [.int 0,.int (-1),.int (10^(30:Int).toNat),.int (10^(30:Int).toNat),.int lo,.int (-9)]));refine⟨_,rfl,_,rfl,_,rfl,(by show 3≤sizeLine;decide),fun r a=>?_⟩;exact q r (x,lo,hi) _ (e.trans (eo a _)) (e.free a) dW t
theorem Hq:eG ["_law_need","_law_version"] ["_law_need","_law_version"] (eA rm):=i8
theorem xt (F:iL K "_law_meets" "_law_meets" rm f fd):fb P w K mg base eZ 1 f fd ["_law_need","_law_version"] (sB K):=by
 refine F.ok Hq (fun vs H Q E h=>?_) (fun cdv A outer s H vs Q E d h=>?_)
 ·obtain⟨v,n,z,rfl,_⟩:=h;rfl
 obtain⟨v,n,z,rfl,⟨a,rfl,b⟩,q⟩:=h;refine⟨_,eg (eR (rK (nF vQ (eO eQ (pv 0) ef (fun _ _=>rfl)) (pv 1) (gJ _)) (rJ (nF vQ (pv 1) (eO eQ (pv 0) ef (fun _ _=>rfl)) (gJ _))))),?_⟩;refine⟨_,rfl,a,_,_,_,rfl,rfl,ia.of b,rfl,_,rfl,_,_,rfl,rfl,_,rfl,?_⟩;refine mn (fun c=>?_) (fun c=>?_)
 ·refine⟨_,rfl,_,rfl,a,_,_,_,rfl,rfl,ia.of b,rfl,_,_,rfl,rfl,?_⟩;rw[c,cD]at q;exact q
 ·rw[bY.mpr c,bT]at q;exact q
end
end FB
namespace L2
open PySem PyProof.Rows
theorem qc {X:Cx}{x:Str}{n:String}{pos:Pos}(a:Gl X x)(b:X.mg x=none)(d:bootBuiltins x=some (.type n))(hn:x≠"__name__":=by decide)(hd:(x == ("__debug__" : Str))=false:=by decide):PE X (.Name x pos) (tC (.ty n)):=
 BI (v:=.ty n) a b d rfl hn hd
end L2
namespace FB
open PySem L2 PyProof.Rows
seal lW PS PE PT PA
theorem Ef (K:W.Frag):W.kitOne K (.type "list") (.type "list")=some true:=by kernel_rfl
theorem zR (K:W.Frag):W.kitOne K (.type "tuple") (.type "tuple")=some true:=by kernel_rfl
theorem Ee (K:W.Frag):W.kitOne K (.type "str") (.type "str")=some true:=by kernel_rfl
theorem Eg (K:W.Frag):W.kitOne K (.type "int") (.type "int")=some true:=by kernel_rfl
theorem Eh (K:W.Frag):W.kitOne K (.type "int") (.type "bool")=some false:=by kernel_rfl
theorem Cq (ds:List PyData):PyData.eqv (.list ds) (.list [])=ds.isEmpty:=by
 cases ds <;> simp[PyData.eqv,PyData.eqvAll]
theorem xT {α:Type}(xs:List α)(x:α):(xs++[x])[(xs++[x]).length-1]?=some x:=by simp
section
variable {P:Program}{w:World}{K:W.Frag}{mg:Str→Option Value}{base:Heap}{f:Addr}{fd:FuncData}
end
end FB
namespace L2
open PySem PyProof.Rows
def vM (K:W.Frag):List V→Hp→VK→Prop:=fun xs H Q=>∃p ys,xs=[.ref p]∧(eX K H p ys∨ia K H p ys)∧∀l,H l=none→Q (.ref l) (upd H l (.lst ys))
theorem vh {X:Cx}:ju X (.type "list") (vM X.K):=jb
end L2
namespace FB
open PySem L2 PyProof.Rows
seal lW PS PE PT PA
variable {K:W.Frag}{P:Program}{fd gd:FuncData}{g:Addr}{mg:Str→Option Value}{w:World}
theorem FK:(["_law_k","_law_script"]:List Str).Nodup:=by decide +kernel
theorem CV:(["_law_entry"]:List Str).Nodup:=by decide +kernel
inductive Ay (K:W.Frag)(vs:List V)(H:Hp)(Q:VK)(E:XK):Prop
 |mk (a:Addr)(ns:List Int)(_:vs=[.ref a])(_:eX K H a (ns.map V.int))(_:ns.length≤1000)(_:∀p (ms:List Int) H',eB H H'→H' p=some (.lst (ms.map V.int))→ms.length=ns.length→Q (.ref p) H'):Ay K vs H Q E
def qN (K:W.Frag):Sp:=Ay K
inductive C9 (vs:List V)(H:Hp)(Q:VK)(E:XK):Prop
 |mk (a:Addr)(es:List En)(_:vs=[.ref a])(_:jk H a es)(_:es.length≤1000)(_:∀p H',eB H H'→jk H' p es→Q (.ref p) H'):C9 vs H Q E
def ur:Sp:=C9
section
variable {base:Heap}{f:Addr}
theorem Ho:eG ["_law_script"] ["_law_script"] (eA uC):=i8
theorem zy (F:iL K "_law_mixed" "_law_mixed" uC f fd)(T:AE K mg):fb P w K mg base eZ 1 f fd ["_law_script"] (qN K):=by
 refine F.ok Ho (fun vs H Q E h=>?_) (fun cdv A outer s H vs Q E G h=>?_)
 ·obtain⟨a,ns,rfl,_⟩:=h;rfl
 obtain⟨a,ns,rfl,t,B,q⟩:=h;refine⟨_,eg (eR (ik (N':=["_law_k","_law_script"]) (n:=1) (js:=[0]) rfl (ib.one (c:=s.heap.objs.size+1) (y:="_law_script") rfl rfl (by decide +kernel) rfl (by decide +kernel) (by decide +kernel) rfl rfl rfl rfl rfl) (gF (by decide)) (me rfl T.range (dU (fK gQ rfl T.len cF (dU (pv 0) ee)) ee)) (fun C p H2 fp=>eK (i:=0) FK rfl (Or.inl rfl)) (fun C p H2 fp=>iH) (fun C p H2 fp=>eW jP (eW rM (eW lg (eO (r:=Fz K) fE (pv 1) (pv 0) (fun _ _=>rfl)) (eW rM ef (pv 0))) ef) ef))),?_⟩;have b:(ns.map V.int).length=ns.length:=ab _;refine⟨_,rfl,a,_,rfl,.inl t,_,rfl,by rw[b];lia,by rw[b];lia,?_⟩;refine vg (fun D i ys H2=>∃d:List Int,ys=d.map V.int∧d.length=i∧H2 D=some (.lst ys)∧eB H H2∧H D=none) (fun D o=>⟨[],rfl,rfl,dW,eo o _,o⟩) (fun D i ys H2 hi ⟨d,e,l,g,j,_⟩=>⟨g,?_⟩) (fun D i ys H2 hi ⟨d,e,l,g,j,m⟩=>?_) (fun D ys H2 ⟨d,e,l,g,j,_⟩=>?_)
 ·rw[e,ab];exact eE (by rw[b]at hi;lia)
 ·have x:((i:Nat):Int)<(ns.length:Int):=by rw[b]at hi;lia
  obtain⟨z,v,_⟩:=jT (ns:=ns) (i:=0+(i:Int)) (by lia) (by lia);unfold iJ mT;dsimp only;rw[if_pos rfl];refine⟨_,rfl,_,rfl,a,_,_,_,rfl,rfl,j.seq t,v,_,rfl,_,_,rfl,rfl,.inl ⟨by decide,by decide⟩,_,_,rfl,rfl,_,_,rfl,rfl,.inr ⟨by decide,by decide⟩,_,_,rfl,rfl,(by show(0:Int)<1000003;decide),g,?_⟩;exact⟨d++[_],by rw[e,aw];rfl,by rw[aE,l];rfl,dW,eB.upd j m,m⟩
 ·exact q D d H2 j (e▸g) (by rw[l,bI,b])
theorem Hs:eG ["_law_shelf"] ["_law_shelf"] (eA yT):=i8
theorem BY (F:iL K "_law_copy_of" "_law_copy_of" yT f fd)(T:AE K mg):fb P w K mg base eZ 1 f fd ["_law_shelf"] ur:=by
 refine F.ok Hs (fun vs H Q E h=>?_) (fun cdv A outer s H vs Q E hr h=>?_)
 ·obtain⟨a,es,rfl,_⟩:=h;rfl
 obtain⟨a,es,rfl,⟨xs,S,hp⟩,hl,q⟩:=h;refine⟨_,eg (eR (ik (N':=["_law_entry"]) (n:=1) (js:=[]) rfl (ib.closed (by decide +kernel) (by decide +kernel) rfl (by decide +kernel) rfl) (gF (by decide)) (fh (pv 0)) (fun C g H2 fp=>eK (i:=0) CV rfl (Or.inl rfl)) (fun C g H2 fp=>iH) (fun C g H2 fp=>ge (dU (eO (r:=uI K) eQ (pv 0) ef (fun _ _=>rfl)) (dU (eO (r:=uI K) eQ (pv 0) ef (fun _ _=>rfl)) (dU (iP (r:=vM K) vh rfl T.list boot_list (dU (eO (r:=uI K) eQ (pv 0) ef (fun _ _=>rfl)) ee)) ee)))))),?_⟩;have Y:xs.length=es.length:=Paired.length hp;refine⟨_,rfl,a,rfl,⟨xs,eX.of S⟩,?_⟩;refine gy (xs:=xs) (fun D i ys H2=>Paired (iC (del H2 [D])) ys (es.take i)∧H2 D=some (.lst ys)∧eB H H2∧H D=none) (fun D N=>⟨by simpa using Paired.nil,dW,eo N _,N⟩)
  (fun D i ys H2 hi ⟨l,b,d,_⟩=>⟨eX.of (d _ _ S),b,?_⟩) (fun D i x ys H2 hi ⟨l,b,d,J⟩=>?_) (fun D ys H2 ⟨l,b,d,J⟩=>?_)
 ·rw[Paired.length l,aN];exact eE (by lia)
 ·obtain⟨e,he,B,na,zs,rfl,h1,h2,h3⟩:=Paired.Ju hp hi;have I:=d _ _ h1;have X:=d _ _ h2;unfold iJ mT;dsimp only;rw[if_pos rfl];refine⟨_,rfl,B,_,_,_,rfl,rfl,ia.of I,rfl,_,rfl,B,_,_,_,rfl,rfl,ia.of I,rfl,_,rfl,B,_,_,_,rfl,rfl,ia.of I,rfl,na,_,rfl,.inl (eX.of X),fun t m=>?_⟩;have R:eB H2 (upd H2 t (.lst zs)):=eo m _;refine⟨(by show 3≤sizeLine;decide),fun O j=>?_⟩;have g:=R.trans (eo j (.tup [.str e.1,.int e.2.1,.ref t]));have G:t≠D:=Ne.symm (d0 b m);have L:O≠D:=Ne.symm (d0 (R _ _ b) j);refine⟨g _ _ b,?_,dW,eB.upd (d.trans g) J,J⟩;have U:es.take (i+1)=es.take i++[e]:=by rw[aQ,he];rfl
  rw[U,iU (by simp)];refine Paired.snoc (Paired.Ja l fun _ _ z=>iC.same (eB.del g [D]) z) ⟨O,t,zs,rfl,?_,?_,?_⟩
  ·rw[el (by simpa using L)];exact dW
  ·rw[el (by simpa using G),dY (Ne.symm (d0 (o:=.lst zs) dW j).symm)];exact dW
  ·refine Paired.Ja h3 fun v n z=>?_;obtain⟨Z,y,M⟩:=z;have p:=d _ _ M;refine⟨Z,y,?_⟩;rw[el (by simpa using fe p b (by intro z;cases z))];exact g _ _ p
 ·rw[Y,aF]at l;exact q D H2 d ⟨ys,b,Paired.Ja l fun _ _ z=>iC.same (eU _ _) z⟩
end
inductive tS (K:W.Frag)(vs:List V)(H:Hp)(Q:VK)(E:XK):Prop
 |mk (a:Addr)(ns:List Int)(_:vs=[.ref a])(_:eX K H a (ns.map V.int))(_:ns.length≤63)(_:∀p (sn:List Nd) H',eB H H'→gB H' p sn→(∀n∈sn,n.1∈gU)→sn.length≤ns.length→Q (.ref p) H'):tS K vs H Q E
def p3 (K:W.Frag):Sp:=tS K
inductive tW (vs:List V)(H:Hp)(Q:VK)(E:XK):Prop
 |mk (a:Addr)(v:V)(es:List En)(k:Pk)(_:vs=[.ref a,v])(_:jk H a es)(_:fj H v k)(_:(es.map eL).Nodup)(_:(∀e∈es,eL e=k→∀na zs,H na=some (.lst zs)→Paired (fA H) zs e.2.2→Q (.ref na) H))(_:(k∉es.map eL→Q .non H)):tW vs H Q E
def p4:Sp:=tW
theorem D5:(["_law_cell"]:List Str).Nodup:=by decide +kernel
section
variable {base:Heap}{f:Addr}
theorem Fn:eG ["_law_cells"] ["_law_cells"] (eA ow):=i8
theorem uM (F:iL K "_law_start_by" "_law_start_by" ow f fd)(G:fb P w K mg base eZ 2 g gd ["_law_cell"] ul)(N:gs K gd ["_law_cell"] [])(X:W.keepIn K (.ref g)=true)(U:mg "_law_need_by" = some (.ref g)):fb P w K mg base eZ 3 f fd ["_law_cells"] (p3 K):=by
 refine F.ok Fn (fun vs H Q E h=>?_) (fun cdv A outer s H vs Q E O h=>?_)
 ·obtain⟨a,l,rfl,_⟩:=h;rfl
 obtain⟨a,l,rfl,M,hl,q⟩:=h;refine⟨_,eg (eR (ik (N':=["_law_cell"]) (n:=1) (js:=[]) rfl (ib.closed (by decide +kernel) (by decide +kernel) rfl (by decide +kernel) rfl) (gF (by decide)) (fh (pv 0)) (fun C L H2 fp=>eK (i:=0) D5 rfl (Or.inl rfl)) (fun C L H2 fp=>iH) (fun C L H2 fp=>fw G O rfl U X N .nil eP (dU (eW lg (eW iR (pv 0) ef) ef) ee)))),?_⟩;have Y:(l.map V.int).length=l.length:=ab _;refine⟨_,rfl,a,rfl,⟨_,M⟩,?_⟩;refine gy (xs:=l.map V.int) (fun D i ys H2=>∃b:List Nd,Paired (fA (del H2 [D])) ys b∧(∀n∈b,n.1∈gU)∧b.length≤i∧H2 D=some (.lst ys)∧eB H H2∧H D=none) (fun D J=>⟨[],.nil,by simp,aq _,dW,eo J _,J⟩)
  (fun D i ys H2 hi ⟨b,j,p,r,d,e,o⟩=>⟨e.seq M,d,?_⟩) (fun D i x ys H2 hi ⟨b,j,p,r,d,e,o⟩=>?_) (fun D ys H2 ⟨b,j,p,r,d,e,o⟩=>?_)
 ·rw[Paired.length j];exact eE (by lia)
 ·rw[ae]at hi;obtain⟨c,hc,rfl⟩:=ax.mp hi;unfold iJ mT;dsimp only;rw[if_pos rfl];refine⟨_,rfl,_,_,rfl,rfl,⟨by decide,by decide⟩,_,_,rfl,rfl,_,rfl,fun I n Z B v t S=>?_⟩;have R:I≠D:=Ne.symm (d0 d v);refine⟨B _ _ d,b++[n],?_,fun m T=>?_,by rw[aE,aR];lia,dW,eB.upd (e.trans B) o,o⟩
  ·rw[iU (by simp)];refine Paired.snoc (Paired.Ja j fun _ _ y=>fA.same (eB.del B _) y) ⟨I,rfl,?_⟩;rw[el (by simpa using R)];exact t
  ·rcases ay.mp T with y | y
   ·exact p m y
   ·rw[ai.mp y];exact S
 ·rw[Y]at r;exact q D b H2 e ⟨ys,d,Paired.Ja j fun _ _ z=>fA.same (eU _ _) z⟩ p r
theorem Fq:eG ["_law_shelf","_law_pick","_law_entry"] ["_law_shelf","_law_pick"] (eA oB):=i8
theorem uQ (F:iL K "_law_needs_in" "_law_needs_in" oB f fd):fb P w K mg base eZ 1 f fd ["_law_shelf","_law_pick"] p4:=by
 refine F.ok Fq (fun vs H Q E h=>?_) (fun cdv A outer s H vs Q E R h=>?_)
 ·obtain⟨a,v,es,k,rfl,_⟩:=h;rfl
 obtain⟨a,v,es,k,rfl,⟨xs,t,hp⟩,⟨q,rfl,r⟩,N,J,O⟩:=h;refine⟨_,(dX (fN PassesOwn.never rfl (fh (pv 0)) (eK (i:=2) Fq.nd rfl (Or.inl rfl)) (eg (gj (PW.pt (rE (gu lN (eO eQ (pv 2) ef (fun _ _=>rfl)) (eO eQ (pv 1) ef (fun _ _=>rfl)) (gJ _)) (nB (gu lN (eO eQ (pv 2) ef (fun _ _=>rfl)) (eO eQ (pv 1) ef (fun _ _=>rfl)) (gJ _))))) (eg (eR (eO eQ (pv 2) ef (fun _ _=>rfl)))) ff))) (eg (eR iO))),?_⟩;have G:xs.length=es.length:=Paired.length hp;refine⟨_,rfl,a,rfl,⟨xs,eX.of t⟩,fR (K:=K) (a:=a) (xs:=xs) (fun i σ H2=>∃o,σ=[some (.ref a),some (.ref q),o]∧H2=H∧k∉(es.take i).map eL) ⟨none,rfl,rfl,by simp⟩ ((by rintro i σ H2 _ ⟨_,_,e,_⟩;exact e▸eX.of t)) ?_ ?_⟩
 ·rintro i x σ H2 hi ⟨o,rfl,rfl,b⟩;obtain⟨e,C,d,M,zs,rfl,p,I,L⟩:=Paired.Ju hp hi;have D:es.take (i+1)=es.take i++[e]:=by rw[aQ,C];rfl
  have step:¬eL e=k→k∉(es.take (i+1)).map eL:=fun g B=>by
   rw[D,aw]at B;rcases ay.mp B with y | y
   ·exact b y
   ·rw[aD,cM,ai]at y;exact g y.symm
  refine⟨_,rfl,d,_,_,_,rfl,rfl,ia.of p,rfl,_,rfl,q,_,_,_,rfl,rfl,ia.of r,rfl,rfl,_,rfl,?_⟩;rw[mQ];refine mn (fun c=>?_) (fun c=>?_)
  ·refine⟨_,rfl,d,_,_,_,rfl,rfl,ia.of p,rfl,_,rfl,q,_,_,_,rfl,rfl,ia.of r,rfl,rfl,_,rfl,?_⟩;refine mn (fun m=>?_) (fun m=>?_)
   ·have j:e.1=k.1:=bc c;have l:e.2.1=k.2:=V.int.inj (bc m);exact⟨_,rfl,d,_,_,_,rfl,rfl,ia.of p,rfl,J e (aj C) (Prod.ext j l) M zs I L⟩
   ·refine⟨_,rfl,rfl,step fun z=>m (ao ?_)⟩;rw[←z];rfl
  ·refine gv ⟨_,rfl,rfl,step fun z=>c (ao ?_)⟩;rw[←z];rfl
 ·rintro σ H2 ⟨o,rfl,rfl,b⟩;rw[G,aF]at b;exact O b
end
def Lw (e:En):Prop:=e.1∈gU∧e.2.1∈p6∧∀n∈e.2.2,n.1∈gU
theorem DX {v:V}(a:v∈[V.str "as",V.str "ashenashenashen",V.str "ashenashxnashen",V.str ""]):∃x,v=.str x∧ij x∧x∈gU:=by
 simp only[ak,aM,or_false]at a;rcases a with rfl | rfl | rfl | rfl
 ·exact⟨_,rfl,CN,by unfold gU;simp⟩
 ·exact⟨_,rfl,CO,by unfold gU;simp⟩
 ·exact⟨_,rfl,CK,by unfold gU;simp⟩
 ·exact⟨_,rfl,CM,by unfold gU;simp⟩
inductive Aw (K:W.Frag)(vs:List V)(H:Hp)(Q:VK)(E:XK):Prop
 |mk (a:Addr)(ns:List Int)(_:vs=[.ref a])(_:eX K H a (ns.map V.int))(_:ns.length≤63)(_:∀p (es:List En) xs H',eB H H'→H p=none→H' p=some (.lst xs)→Paired (iC (del H' [p])) xs es→(es.map eL).Nodup→(∀e∈es,pH e)→es.length≤ns.length→(∀e∈es,Lw e)→Q (.ref p) H'):Aw K vs H Q E
def vI (K:W.Frag):Sp:=Aw K
inductive Ge (H:Hp)(a p t:Addr)(i:Nat)(σ:L2.St)(H2:Hp):Prop
 |mk (es:List En)(xs ys:List V)(o3 o4 o5 o6 o7 o8:Option V)(_:σ=[some (.ref a),some (.ref p),some (.ref t),o3,o4,o5,o6,o7,o8])(_:H2 p=some (.lst xs))(_:H2 t=some (.lst ys))(_:Paired (iC (del H2 [p,t])) xs es)(_:Paired (fj (del H2 [p,t])) ys (es.map eL))(_:(es.map eL).Nodup)(_:(∀e∈es,pH e∧Lw e))(_:es.length≤i):Ge H a p t i σ H2
structure IV (H:Hp)(a p t:Addr)(i:Nat)(σ:L2.St)(H2:Hp):Prop where
 ex:Ge H a p t i σ H2
 sm:eB H H2
inductive Gi (Hb:Hp)(p t nd:Addr)(σ0:Option V→L2.St)(j:Nat)(σ:L2.St)(H6:Hp):Prop
 |mk (zs:List V)(nds:List Nd)(o8:Option V)(_:σ=σ0 o8)(_:H6 nd=some (.lst zs))(_:Paired (fA (del H6 [p,t,nd])) zs nds)(_:(∀n∈nds,n.1∈gU))(_:nds.length≤j):Gi Hb p t nd σ0 j σ H6
structure IW (Hb:Hp)(p t nd:Addr)(σ0:Option V→L2.St)(j:Nat)(σ:L2.St)(H6:Hp):Prop where
 ex:Gi Hb p t nd σ0 j σ H6
 sm:eB Hb H6
section
variable {base:Heap}{f:Addr}
theorem qV:eG ["_law_cells","_law_shelf","_law_there","_law_k","_law_cell","_law_part","_law_pick","_law_needs","_law_j"] ["_law_cells"] (eA uB):=i8
theorem zw {g2:Addr}{gd2:FuncData}(F:iL K "_law_shelf_by" "_law_shelf_by" uB f fd)(T:AE K mg)(G:fb P w K mg base eZ 1 g gd ["_law_cell"] sy)(bG:gs K gd ["_law_cell"] [])(kG:W.keepIn K (.ref g)=true)(mG:mg "_law_version_by" = some (.ref g))(G2:fb P w K mg base eZ 2 g2 gd2 ["_law_cell"] ul)(b9:gs K gd2 ["_law_cell"] [])(b3:W.keepIn K (.ref g2)=true)(co:mg "_law_need_by" = some (.ref g2)):fb P w K mg base eZ 3 f fd ["_law_cells"] (vI K):=by
 refine F.ok qV (fun vs H Q E h=>?_) (fun cdv A outer s H vs Q E hr h=>?_)
 ·obtain⟨a,ns,rfl,_⟩:=h;rfl
 obtain⟨a,ns,rfl,hS,hl,q⟩:=h;have bx:gE 1 _:=hr.mono (by decide);refine⟨_,(dX (eF (i:=1) qV.nd rfl (Or.inl rfl) (gf ee)) (dX (eF (i:=2) qV.nd rfl (Or.inl rfl) (gf ee)) (dX (fN PassesOwn.never rfl (me rfl T.range (dU (fK gQ rfl T.len cF (dU (pv 0) ee)) ee)) (eK (i:=3) qV.nd rfl (Or.inl rfl)) (dX (eF (i:=4) qV.nd rfl (Or.inl rfl) (eO fE (pv 0) (pv 3) (fun _ _=>rfl))) (dX (eF (i:=5) qV.nd rfl (Or.inl rfl) (eO fE (gf (dU gX (dU gX (dU gX (dU gX ee))))) (eW jP (eW lg (pv 4) (pv 3)) ef) (fun _ _=>rfl))) (dX (eF (i:=6) qV.nd rfl (Or.inl rfl) (ge (dU (pv 5) (dU (fw G bx rfl mG kG bG .nil eP (dU (eW lg (eW iR (pv 4) ef) (eW iR (pv 3) ef)) ee)) ee)))) (dX (eF (i:=7) qV.nd rfl (Or.inl rfl) (gf ee)) (dX (fN PassesOwn.never rfl (me rfl T.range (dU (eO fE (gf (dU ef (dU ef (dU ef (dU ef (dU ef (dU ef (dU ef (dU ef (dU ef (dU ef ee))))))))))) (eW jP (eW iR (pv 4) ef) ef) (fun _ _=>rfl)) ee)) (eK (i:=8) qV.nd rfl (Or.inl rfl)) (eg (fU (je PySem.F.plainAttrs_list PySem.F.slot_list_append PySem.F.type_list_append gq (pv 7) (dU (fw G2 hr rfl co b3 b9 .nil eP (dU (eW lg (eW lg (eW iR (pv 4) ef) (eW rM ef (pv 8))) (eW rM ef (pv 3))) ee)) ee))))) (eg (gj (gu (qg hr.units) (pv 6) (pv 2) (by with_unfolding_all rfl)) (dX (fU (je PySem.F.plainAttrs_list PySem.F.slot_list_append PySem.F.type_list_append gq (pv 2) (dU (pv 6) ee))) (eg (fU (je PySem.F.plainAttrs_list PySem.F.slot_list_append PySem.F.type_list_append gq (pv 1) (dU (ge (dU (eO eQ (pv 6) ef (fun _ _=>rfl)) (dU (eO eQ (pv 6) ef (fun _ _=>rfl)) (dU (pv 7) ee)))) ee))))) ff)))))))) (eg (eR (pv 1)))))),?_⟩;have X:(ns.map V.int).length=ns.length:=ab _;refine⟨(by show 0≤sizeLine;decide),fun p hp=>⟨(by show 0≤sizeLine;decide),fun t ht=>?_⟩⟩;have s1:eB H (upd H p (.lst [])):=eo hp _;have ap:p≠t:=d0 (o:=.lst []) dW ht;have b2:H t=none:=s1.free ht;have s2:eB H (upd (upd H p (.lst [])) t (.lst [])):=s1.trans (eo ht _);refine⟨_,rfl,a,_,rfl,.inl (s2.seq hS),_,rfl,by rw[X];omega,by rw[X];omega,?_⟩;refine qm (fun i σ H2=>IV H a p t i σ H2) ⟨⟨[],[],[],none,none,none,none,none,none,rfl,by rw[dY ap];exact dW,dW,.nil,.nil,bS,by simp,aq _⟩,s2⟩ ?_ ?_
 ·rintro i σ H2 hi ⟨⟨es,xs,ys,o3,o4,o5,o6,o7,o8,rfl,al,bd,M,L,Z,B,I⟩,sm⟩;have cy:((i:Nat):Int)<(ns.length:Int):=by rw[X,bI]at hi;omega
  have ct:i<ns.length:=by omega
  obtain⟨c,hc,_⟩:=jT (ns:=ns) (i:=0+(i:Int)) (by omega) (by omega);refine⟨_,rfl,_,rfl,a,_,_,_,rfl,rfl,sm.seq hS,hc,?_⟩;refine⟨(by show 4≤sizeLine;decide),fun l1 b1=>?_⟩;obtain⟨v,hv,hm⟩:=vo (xs:=[.str "as",.str "ashenashenashen",.str "ashenashxnashen",.str ""]) (i:=(c+(0+(i:Int))) % 4) (dk _ (by decide)) (cG _ (by decide));obtain⟨x,rfl,hx,bq⟩:=DX hm;refine⟨_,rfl,_,rfl,_,_,rfl,rfl,_,_,rfl,rfl,(by show(0:Int)<4;decide),l1,_,_,_,rfl,rfl,eX.of dW,hv,?_⟩;have sa:=eo b1 (.lst [.str "as",.str "ashenashenashen",.str "ashenashxnashen",.str ""]);refine⟨_,rfl,_,rfl,_,_,rfl,rfl,⟨by decide,by decide⟩,_,rfl,_,_,rfl,rfl,⟨by decide,by decide⟩,_,_,rfl,rfl,_,rfl,fun z H3 s3 b5=>⟨(by show 2≤sizeLine;decide),fun l cn=>?_⟩⟩;have sb:eB H2 (upd H3 l (.tup [.str x,.int z])):=(sa.trans s3).trans (eo cn _);generalize b6:upd H3 l (.tup [.str x,.int z])=Hb at sb;have cp:Hb l=some (.tup [.str x,.int z]):=by rw[←b6];exact dW
  have a1:=sb _ _ al;have ag:=sb _ _ bd;refine⟨(by show 0≤sizeLine;decide),fun nd r=>?_⟩;have b8:nd≠p:=Ne.symm (d0 a1 r);have a3:nd≠t:=Ne.symm (d0 ag r);refine⟨(by show 10≤sizeLine;decide),fun l2 a7=>?_⟩;obtain⟨jn,hj,bv⟩:=jT (ns:=[0,1,2,0,1,2,0,1,2,4]) (i:=c / 12 % 10) (dk _ (by decide)) (cG _ (by decide));have cx:0≤jn∧jn≤4:=by
   simp only[ak,aM,or_false]at bv;omega
  refine⟨_,rfl,_,_,rfl,rfl,⟨by decide,by decide⟩,_,_,rfl,rfl,(by show(0:Int)<10;decide),l2,_,_,_,rfl,rfl,eX.of dW,hj,jn,rfl,by omega,by omega,?_⟩;have sd:eB Hb (upd (upd Hb nd (.lst [])) l2 (.lst [.int 0,.int 1,.int 2,.int 0,.int 1,.int 2,.int 0,.int 1,.int 2,.int 4])):=(eo r _).trans (eo a7 _);refine qm (fun j σ H6=>IW Hb p t nd (fun o8=>[some (.ref a),some (.ref p),some (.ref t),some (.int (0+(i:Int))),some (.int c),some (.str x),some (.ref l),some (.ref nd),o8]) j σ H6)
   ⟨⟨[],[],o8,rfl,by rw[dY (d0 (o:=.lst []) dW a7)];exact dW,.nil,by simp,aq _⟩,sd⟩ ?_ ?_
  ·rintro j σ H6 cv ⟨⟨zs,Y,bm,rfl,D,U,aa,cl⟩,s6⟩;refine⟨_,rfl,.inl ⟨rfl,_,eX.of D⟩,_,rfl,_,_,rfl,rfl,⟨by decide,by decide⟩,_,rfl,_,_,rfl,rfl,.inl ⟨by decide,by decide⟩,_,_,rfl,rfl,_,rfl,_,_,rfl,rfl,.inl ⟨by decide,by decide⟩,_,_,rfl,rfl,_,rfl,fun q0 n N s7 an cd hn=>?_⟩;have lz:=Paired.length U;refine⟨nd,_,_,rfl,rfl,s7 _ _ D,eE (by omega),⟨zs++[.ref q0],Y++[n],_,rfl,dW,?_,?_,by rw[aE,aR];omega⟩,eB.upd (s6.trans s7) r⟩
   ·rw[iU (by simp)];refine Paired.snoc (Paired.Ja U fun _ _ y=>fA.same (eB.del s7 _) y) ⟨q0,rfl,?_⟩;rw[el]
    ·exact cd
    ·simp only[ak,aM,or_false,not_or];exact⟨Ne.symm (d0 (s6 _ _ a1) an),Ne.symm (d0 (s6 _ _ ag) an),Ne.symm (d0 D an)⟩
   ·intro m hm;rcases ay.mp hm with y | y
    ·exact aa m y
    ·rw[ai.mp y];exact hn
  ·rintro σ H6 ⟨⟨zs,Y,bm,rfl,D,U,aa,cl⟩,s6⟩;have ad:=s6 _ _ a1;have J:=s6 _ _ ag;have O:=s6 _ _ cp;have C:eB H2 H6:=sb.trans s6;have b4:l≠p:=Ne.symm (fe ad O (by intro y;cases y));have a6:l≠t:=Ne.symm (fe J O (by intro y;cases y));have a4:Paired (fj H6) ys (es.map eL):=Paired.Ja L fun _ _ y=>fj.same ((eB.del C _).trans (eU _ _)) y;have ch:∀k∈es.map eL,ij k.1:=fun k hk=>by
    obtain⟨e,he,rfl⟩:=av.mp hk;exact(B e he).1.pt
   refine⟨_,rfl,_,rfl,sO (x,z),(es.map eL).map sO,fj.rep ⟨l,rfl,O⟩,.lst J (nA (fun _ _ y=>fj.rep y) a4),(oN hx).1,rG ch,(oN hx).2,_,rfl,?_⟩;rw[vt];refine mn (fun as=>?_) (fun as=>?_)
   ·have a8:¬(x,z)∈es.map eL:=by
     intro y;rw[ao y]at as;exact absurd as (by decide)
    have ly:=Paired.length L;have lx:=Paired.length M;rw[ab]at ly;refine⟨_,rfl,.inl ⟨rfl,_,eX.of J⟩,_,rfl,t,_,_,rfl,rfl,J,eE (by omega),?_⟩;generalize d:upd H6 t (.lst (ys++[.ref l]))=N;have ah:N p=some (.lst xs):=by rw[←d,dY ap];exact ad
    have a0:N l=some (.tup [.str x,.int z]):=by rw[←d,dY a6];exact O
    have cs:N nd=some (.lst zs):=by rw[←d,dY a3];exact D
    have a5:N t=some (.lst (ys++[.ref l])):=by rw[←d];exact dW
    refine⟨_,rfl,.inl ⟨rfl,_,eX.of ah⟩,_,rfl,l,_,_,_,rfl,rfl,ia.of a0,rfl,_,rfl,l,_,_,_,rfl,rfl,ia.of a0,rfl,_,rfl,(by show 3≤sizeLine;decide),fun en a2=>?_⟩;have s8:=eo a2 (.tup [.str x,.int z,.ref nd]);have b7:en≠p:=Ne.symm (d0 ah a2);have bl:en≠t:=Ne.symm (d0 a5 a2);refine⟨p,xs,_,rfl,rfl,s8 _ _ ah,eE (by omega),?_⟩;have d9:del (upd (upd N en (.tup [.str x,.int z,.ref nd])) p (.lst (xs++[.ref en]))) [p,t]=del (upd N en (.tup [.str x,.int z,.ref nd])) [p,t]:=iU (by simp);have d7:del N [p,t]=del H6 [p,t]:=by rw[←d];exact iU (by simp)
    have a9:eB (del H2 [p,t]) (del (upd N en (.tup [.str x,.int z,.ref nd])) [p,t]):=(eB.del C _).trans (d7▸eB.del s8 _);refine⟨⟨es++[(x,z,Y)],xs++[.ref en],ys++[.ref l],_,_,_,_,_,_,rfl,dW,?_,?_,?_,?_,?_,by rw[aE,aR];omega⟩,?_⟩
    ·rw[dY (Ne.symm ap)];exact s8 _ _ a5
    ·rw[d9];refine Paired.snoc (Paired.Ja M fun _ _ y=>iC.same a9 y) ⟨en,nd,zs,rfl,?_,?_,?_⟩
     ·rw[el (by simp only[ak,aM,or_false,not_or];exact⟨b7,bl⟩)];exact dW
     ·rw[el (by simp only[ak,aM,or_false,not_or];exact⟨b8,a3⟩)];exact s8 _ _ cs
     ·refine Paired.Ja U fun _ m y=>fA.same (fun b o R=>?_) y;have S:b∉[p,t,nd]:=fun y=>by rw[fq y]at R;cases R
      rw[el S]at R;simp only[ak,aM,or_false,not_or]at S;rw[el (by simp only[ak,aM,or_false,not_or];exact⟨S.1,S.2.1⟩)];refine s8 _ _ ?_;rw[←d,dY S.2.1];exact R
    ·rw[d9,aw];refine Paired.snoc (Paired.Ja L fun _ _ y=>fj.same a9 y) ⟨l,rfl,?_⟩;rw[el (by simp only[ak,aM,or_false,not_or];exact⟨b4,a6⟩)];exact s8 _ _ a0
    ·rw[aw];exact nI Z a8
    ·intro e he;rcases ay.mp he with y | y
     ·exact B e y
     ·rw[ai.mp y];exact⟨⟨hx,fun n hn=>nQ (aa n hn),by show Y.length≤100;omega⟩,bq,b5,aa⟩
    ·have bf:eB H N:=by rw[←d];exact eB.upd (sm.trans C) b2
     exact eB.upd (bf.trans s8) hp
   ·exact⟨⟨es,xs,ys,_,_,_,_,_,_,rfl,ad,J,Paired.Ja M fun _ _ y=>iC.same (eB.del C _) y,Paired.Ja L fun _ _ y=>fj.same (eB.del C _) y,Z,B,by omega⟩,sm.trans C⟩
 ·rintro σ H2 ⟨⟨es,xs,ys,o3,o4,o5,o6,o7,o8,rfl,al,bd,M,L,Z,B,I⟩,sm⟩;refine⟨_,rfl,q p es xs H2 sm hp al (Paired.Ja M fun _ _ y=>iC.same (fun b o R=>?_) y) Z (fun e he=>(B e he).1) (by rw[X,bI]at I;exact I) (fun e he=>(B e he).2)⟩;have S:b∉[p,t]:=fun y=>by rw[fq y]at R;cases R
  rw[el S]at R;simp only[ak,aM,or_false,not_or]at S;rw[el (by simpa using S.1)];exact R
end
inductive Ar (vs:List V)(H:Hp)(Q:VK)(E:XK):Prop
 |mk (i:Int)(_:vs=[.int i])(_:Q (.bl true) H):Ar vs H Q E
def vH:Sp:=Ar
section
variable {base:Heap}{f:Addr}
theorem Hl:eG ["_law_found"] ["_law_found"] (eA ux):=i8
theorem zq (F:iL K "_law_whole" "_law_whole" ux f fd)(T:AE K mg):fb P w K mg base eZ 1 f fd ["_law_found"] vH:=by
 refine F.ok Hl (fun vs H Q E h=>?_) (fun cdv A outer s H vs Q E a h=>?_)
 ·obtain⟨i,rfl,_⟩:=h;rfl
 obtain⟨i,rfl,q⟩:=h;refine⟨_,eg (eR (rK (fK iD rfl T.isin di (dU (pv 0) (dU (qc rfl T.int boot_int) ee))) (rJ (zb (fK iD rfl T.isin di (dU (pv 0) (dU (qc rfl T.bool boot_bool) ee))))))),?_⟩;refine⟨_,rfl,_,_,_,_,rfl,.int i,Eg K,_,rfl,ir ⟨_,rfl,_,_,_,_,rfl,.int i,Eh K,_,rfl,q⟩⟩
end
inductive wE (vs:List V)(H:Hp)(Q:VK)(E:XK):Prop
 |mk (v:V)(k:Pk)(_:vs=[v])(_:fj H v k)(_:Q (.bl true) H):wE vs H Q E
def sE:Sp:=wE
inductive qy (vs:List V)(H:Hp)(Q:VK)(E:XK):Prop
 |mk (a:Addr)(ks:List Pk)(_:vs=[.ref a])(_:mR H a ks)(_:Q (.bl true) H):qy vs H Q E
def kY:Sp:=qy
section
variable {base:Heap}{f:Addr}
theorem Fu:eG ["_law_found"] ["_law_found"] (eA rn):=i8
theorem xA (F:iL K "_law_is_pick" "_law_is_pick" rn f fd)(T:AE K mg)(G:fb P w K mg base eZ 1 g gd ["_law_found"] vH)(e:gs K gd ["_law_found"] [])(j:W.keepIn K (.ref g)=true)(i:mg "_law_whole" = some (.ref g)):fb P w K mg base eZ 2 f fd ["_law_found"] sE:=by
 refine F.ok Fu (fun vs H Q E h=>?_) (fun cdv A outer s H vs Q E d h=>?_)
 ·obtain⟨v,k,rfl,_⟩:=h;rfl
 obtain⟨v,k,rfl,⟨b,rfl,a⟩,q⟩:=h;refine⟨_,(dX (gj (PW.pt (p8 (jw (j3 (fK iD rfl T.isin di (dU (pv 0) (dU (qc rfl T.tuple boot_tuple) ee))))) (oJ (gu CP (fK gQ rfl T.len cF (dU (pv 0) ee)) ef (gJ _))))) (eg (eR mF)) ff) (eg (eR (rK (fK iD rfl T.isin di (dU (eO eQ (pv 0) ef (fun _ _=>rfl)) (dU (qc rfl T.str boot_str) ee))) (rJ (fw G d rfl i j e .nil eP (dU (eO eQ (pv 0) ef (fun _ _=>rfl)) ee))))))),?_⟩;refine⟨_,rfl,_,_,_,_,rfl,kJ.tup a,zR K,_,rfl,gv ?_⟩;refine⟨_,rfl,b,_,rfl,.inr (ia.of a),rfl,_,rfl,gv ?_⟩;exact⟨_,rfl,b,_,_,_,rfl,rfl,ia.of a,rfl,_,_,_,_,rfl,.str k.1,Ee K,_,rfl,ir ⟨_,rfl,b,_,_,_,rfl,rfl,ia.of a,rfl,k.2,rfl,q⟩⟩
theorem CJ:eG ["_law_found","_law_pick"] ["_law_found"] (eA l6):=i8
theorem sQ (F:iL K "_law_are_picks" "_law_are_picks" l6 f fd)(T:AE K mg)(G:fb P w K mg base eZ 2 g gd ["_law_found"] sE)(l:gs K gd ["_law_found"] [])(p:W.keepIn K (.ref g)=true)(o:mg "_law_is_pick" = some (.ref g)):fb P w K mg base eZ 3 f fd ["_law_found"] kY:=by
 refine F.ok CJ (fun vs H Q E h=>?_) (fun cdv A outer s H vs Q E j h=>?_)
 ·obtain⟨a,ks,rfl,_⟩:=h;rfl
 obtain⟨a,ks,rfl,⟨xs,b,hp⟩,q⟩:=h;refine⟨_,(dX (gj (jw (j3 (fK iD rfl T.isin di (dU (pv 0) (dU (qc rfl T.list boot_list) ee))))) (eg (eR mF)) ff) (dX (fN PassesOwn.never rfl (fh (pv 0)) (eK (i:=1) CJ.nd rfl (Or.inl rfl)) (eg (gj (jw (j3 (fw G j rfl o p l .nil eP (dU (pv 1) ee)))) (eg (eR mF)) ff))) (eg (eR mF)))),?_⟩;refine⟨_,rfl,_,_,_,_,rfl,kJ.lst b,Ef K,_,rfl,gv ?_⟩;refine⟨_,rfl,a,rfl,⟨_,eX.of b⟩,?_⟩;refine fR (K:=K) (a:=a) (xs:=xs) (fun i σ H2=>∃d,σ=[some (.ref a),d]∧H2=H) ⟨none,rfl,rfl⟩ (fun i σ H2 _ ⟨_,_,e⟩=>by rw[e];exact eX.of b) ?_ ?_
 ·rintro i x σ H2 hi ⟨d,rfl,rfl⟩;obtain⟨k,_,m⟩:=Paired.Ju hp hi;exact⟨_,rfl,x,k,rfl,m,_,rfl,gv ⟨_,rfl,rfl⟩⟩
 ·rintro σ H2 ⟨d,rfl,rfl⟩;exact q
end
inductive AD (K:W.Frag)(vs:List V)(H:Hp)(Q:VK)(E:XK):Prop
 |mk (a:Addr)(ns:List Int)(_:vs=[.ref a])(_:eX K H a (ns.map V.int))(_:ns.length≤63)(_:∀t sh st (es:List En) (sn:List Nd) H',eB H H'→H' t=some (.tup [.ref sh,.ref st])→jk H' sh es→(es.map eL).Nodup→(∀e∈es,pH e)→es.length≤59→(∀e∈es,Lw e)→gB H' st sn→(∀n∈sn,n.1∈gU)→sn.length≤63→Q (.ref t) H'):AD K vs H Q E
def qT (K:W.Frag):Sp:=AD K
theorem tJ (ns:List Int)(lo hi:Option Int):∃ms:List Int,pz (ns.map V.int) lo hi=ms.map V.int∧ms.length≤ns.length:=by
 refine⟨(ns.drop (HT.nz (ns.map V.int).length 0 lo)).take (HT.nz (ns.map V.int).length (ns.map V.int).length hi-HT.nz (ns.map V.int).length 0 lo),?_,?_⟩
 ·unfold pz;rw[cj,List.map_drop]
 ·rw[aN,List.length_drop];omega
theorem Ak (ns:List Int)(k:Nat):∃ms:List Int,pz (ns.map V.int) (some (k:Int)) none=ms.map V.int∧ms.length≤ns.length-k:=by
 have e:HT.nz (ns.map V.int).length 0 (some (k:Int))=min k (ns.map V.int).length:=HT.vL _ _ k;refine⟨(ns.drop (HT.nz (ns.map V.int).length 0 (some (k:Int)))).take (HT.nz (ns.map V.int).length (ns.map V.int).length none-HT.nz (ns.map V.int).length 0 (some (k:Int))),?_,?_⟩
 ·unfold pz;rw[cj,List.map_drop]
 ·rw[aN,List.length_drop,e,ab];omega
section
variable {base:Heap}{f:Addr}
theorem CI:eG ["_law_script","_law_shelf"] ["_law_script"] (eA uG):=i8
theorem zC {g2 g3:Addr}{gd2 gd3:FuncData}(F:iL K "_law_asked_by" "_law_asked_by" uG f fd)(G:fb P w K mg base eZ 3 g gd ["_law_cells"] (vI K))(X:gs K gd ["_law_cells"] [])(kG:W.keepIn K (.ref g)=true)(mG:mg "_law_shelf_by" = some (.ref g))(G2:fb P w K mg base eZ 3 g2 gd2 ["_law_cells"] (p3 K))(M:gs K gd2 ["_law_cells"] [])(l:W.keepIn K (.ref g2)=true)(v:mg "_law_start_by" = some (.ref g2))(G3:fb P w K mg base eZ 1 g3 gd3 ["_law_script","_law_k"] (Bj K))(C:gs K gd3 ["_law_script","_law_k"] [])(N:W.keepIn K (.ref g3)=true)(p:mg "_law_at" = some (.ref g3)):fb P w K mg base eZ 4 f fd ["_law_script"] (qT K):=by
 refine F.ok CI (fun vs H Q E h=>?_) (fun cdv A outer s H vs Q E r h=>?_)
 ·obtain⟨a,d,rfl,_⟩:=h;rfl
 obtain⟨a,d,rfl,L,hl,q⟩:=h;have D:gE 1 _:=r.mono (by decide);refine⟨_,(dX (eF (i:=1) CI.nd rfl (Or.inl rfl) (fw G r rfl mG kG X .nil eP (dU (lK nw (pv 0) (lI ef) rF) ee))) (eg (eR (ge (dU (pv 1) (dU (fw G2 r rfl v l M .nil eP (dU (lK nw (pv 0) (lI ef) (lI (eW lg ef (eW jP (fw G3 D rfl p N C .nil eP (dU (pv 0) (dU ef ee))) ef)))) ee)) ee)))))),?_⟩;obtain⟨x,e1,l1⟩:=Ak d 4;refine⟨_,rfl,4,rfl,a,_,rfl,L,fun p1 j=>?_⟩;rw[show pz (d.map V.int) (some 4) none=x.map V.int from e1];have s1:=eo j (.lst (x.map V.int));refine⟨p1,x,rfl,eX.of dW,by omega,fun S es xs H2 s2 aa h2 J B I ad m=>?_⟩;have b:=s1.trans s2;refine⟨_,rfl,_,rfl,1,rfl,_,rfl,a,d,0,rfl,b.seq L,Int.le_refl 0,fun z=>⟨_,_,rfl,rfl,(by show(0:Int)<4;decide),_,_,rfl,rfl,_,rfl,a,_,rfl,b.seq L,fun p2 o=>?_⟩⟩;obtain⟨R,e2,l2⟩:=tJ d (some 1) (some (1+z % 4));rw[e2];have s3:=eo o (.lst (R.map V.int));refine⟨p2,R,rfl,eX.of dW,by omega,fun st sn H4 U h4 O Z=>?_⟩;refine⟨(by show 2≤sizeLine;decide),fun t Y=>?_⟩;have T:=eo Y (.tup [.ref S,.ref st]);have e:=(s3.trans U).trans T;exact q t S st es sn _ (b.trans e) dW (jk.same e ⟨xs,h2,Paired.Ja J fun _ _ y=>iC.same (eU _ _) y⟩) B I (by omega) m (gB.same T h4) O (by omega)
end
end FB
namespace FB
open PySem L2 PyProof.Rows
variable {nm:List Str}{x:Str}
inductive Wk (es:List En)(ps:List Pk):List Nd→List Str→List Str→Prop
 |done {nm:List Str}:Wk es ps [] nm nm
 |old {ah:List Nd} {n:Nd} {nm fin:List Str}:n.1∈nm→Wk es ps ah nm fin→Wk es ps (ah++[n]) nm fin
 |new {ah:List Nd} {n:Nd} {nm fin:List Str} {z:Int}:n.1∉nm→ip ps n.1=some z→Wk es ps (ah++gN es (n.1,z)) (nm++[n.1]) fin→Wk es ps (ah++[n]) nm fin
def Ba (es:List En)(sn:List Nd)(ps:List Pk):Prop:=AI (EB ps) (xc es sn ps)∧AI (zQ ps) (xc es sn ps)
theorem qG:∀{l m:List Str},l.Nodup→(∀x∈l,x∈m)→l.length≤m.length
 |[],_,_,_=>bp _
 |x::l,m,hn,hs=>by
  rw[aU]at hn;have hx:=hs x (by simp);have ih:=qG (l:=l) (m:=m.erase x) hn.2 fun y hy=>by
   have hne:y≠x:=fun e=>hn.1 (e▸hy);exact(List.mem_erase_of_ne hne).mpr (hs y (by simp[hy]))
  have hlen:(m.erase x).length=m.length-1:=List.length_erase_of_mem hx;have:0<m.length:=List.length_pos_of_mem hx;rw[aB];omega
theorem uh {ps:List Pk}{z:Int}(h:ip ps x=some z):(x,z)∈ps:=by
 unfold ip at h;obtain⟨k,a,rfl⟩:=ax.mp h;have h1:=cu a;have h2:=List.find?_some a;have b:k.1=x:=bc h2;rw[←b];exact h1
theorem j8 {ps:List Pk}(b:(ps.map (·.1)).Nodup){k:Pk}(h:k∈ps):ip ps k.1=some k.2:=by
 unfold ip
 induction ps with
 |nil=>cases h
 |cons a ps ih=>
  rw[aD,aU]at b;rw[bi];rcases ak.mp h with z | z
  ·subst z;rw[ao rfl];rfl
  ·have:¬a.1=k.1:=fun y=>b.1 (y▸bg z);rw[au this];exact ih b.2 z
def jp (ps:List Pk)(nm:List Str):Nat:=(ps.filter fun k=>decide (k.1∉nm)).length
theorem zL (ps:List Pk)(nm:List Str):jp ps nm≤ps.length:=bt _ _
theorem oW {x:Str}{nm:List Str}:∀ps:List Pk,jp ps (nm++[x])≤jp ps nm
 |[]=>aq _
 |k::ps=>by
  have ih:=oW (x:=x) (nm:=nm) ps;unfold jp at *;rw[aG,aG];by_cases h:k.1∈nm++[x]
  ·rw[if_neg (fun z=>absurd h (bc z))]
   split
   ·rw[aB];omega
   ·exact ih
  ·have h':k.1∉nm:=fun z=>h (aJ _ z);rw[if_pos (ao h),if_pos (ao h'),aB,aB];omega
theorem oX {x:Str}{nm:List Str}(hx:x∉nm):∀{ps:List Pk},x∈ps.map (·.1)→jp ps (nm++[x])+1≤jp ps nm
 |[],h=>by simp at h
 |k::ps,h=>by
  rw[aD,ak]at h;by_cases hk:k.1=x
  ·have m:=oW (x:=x) (nm:=nm) ps;unfold jp at *;rw[aG,aG,if_neg (fun z=>absurd (show k.1∈nm++[x] by rw[hk];simp) (bc z)),if_pos (by rw[hk];exact ao hx),aB];omega
  ·have ih:=oX hx (ps:=ps) (h.resolve_left fun z=>hk z.symm);unfold jp at *;rw[aG,aG];by_cases h2:k.1∈nm++[x]
   ·rw[if_neg (fun z=>absurd h2 (bc z))]
    split
    ·rw[aB];omega
    ·exact ih
   ·have h':k.1∉nm:=fun z=>h2 (aJ _ z);rw[if_pos (ao h2),if_pos (ao h'),aB,aB];omega
def nc (nm:List Str):List (fZ×V):=nm.map fun x=>(Sum.inr x,V.bl true)
theorem nU (x:Str):∀nm:List Str,(eN (nc nm) (Sum.inr x:fZ)).isSome=decide (x∈nm)
 |[]=>by simp[nc,eN]
 |y::nm=>by
  have ih:=nU x nm;unfold nc at *;rw[aD];by_cases h:y=x
  ·rw[fX (by rw[h]),h];simp
  ·rw[fQ (fun z=>h (Sum.inr.inj z)),ih];have:(x∈y::nm)↔x∈nm:=by
    rw[ak];exact⟨fun z=>z.resolve_left fun q=>h q.symm,.inr⟩
   simp only[this]
theorem By (h:x∉nm):eY (nc nm) (Sum.inr x) (V.bl true)=nc (nm++[x]):=by
 have a:eN (nc nm) (Sum.inr x:fZ)=none:=by
  have z:=nU x nm;rw[au h]at z;cases y:eN (nc nm) (Sum.inr x:fZ) with
  |none=>rfl
  |some u=>rw[y]at z;cases z
 rw[gR _ a];unfold nc;rw[aw];rfl
theorem qh {es:List En}(a:∀e∈es,pH e)(k:Pk):(gN es k).length≤100:=by
 unfold gN
 split
 next e h=>exact(a e (cu h)).few
 next=>exact bp _
theorem rO {es:List En}(a:∀e∈es,pH e)(k:Pk):∀n∈gN es k,ij n.1:=by
 unfold gN
 split
 next e h=>exact(a e (cu h)).nd
 next=>intro n b;cases b
end FB
namespace L2
open PySem PySem.Spec PyProof.Rows
theorem x8 {X:Cx}:ju X (.builtin "len") (fun xs H Q=>∃a kvs,xs=[V.ref a]∧H a=some (.dK kvs)∧Q (.int kvs.length) H):=by
 intro pins s σ H xs us Q I r h;obtain⟨a,kvs,rfl,b,q⟩:=h;obtain⟨u,rfl,d⟩:=jm r;cases d;exact FX I (.inl b) fun t s' e=>⟨.int kvs.length,H,e,⟨t,rfl⟩,q⟩
end L2
namespace FB
open PySem L2 PyProof.Rows
def BN (es:List En)(ps:List Pk):Prop:=∀k∈ps,k∈es.map eL
end FB
namespace FB
open PySem L2 PyProof.Rows
seal lW PS PE PT PA
theorem fA.K3 {H:Hp}{p:Addr}{ys zs:List V}{v:V}{n:Nd}(hp:H p=some (.lst ys))(h:fA H v n):fA (upd H p (.lst zs)) v n:=by
 obtain⟨q,h1,h2⟩:=h;exact⟨q,h1,by rw[dY (fe h2 hp (by intro z;cases z))];exact h2⟩
theorem D4 {sn:List Nd}(h:∀n∈sn,ij n.1):ug 2 (.list (sn.map B9))=true:=by
 rw[ug,cZ];intro d a;obtain⟨n,b,rfl⟩:=av.mp a;exact D6 (h n b)
theorem fA.K4 {H:Hp}{p:Addr}{o o':HO}{v:V}{n:Nd}(hp:H p=some o)(a:∀xs,HO.tup xs≠o)(h:fA H v n):fA (upd H p o') v n:=by
 obtain⟨q,h1,h2⟩:=h;exact⟨q,h1,by rw[dY (fe h2 hp (a _))];exact h2⟩
def Er (es:List En)(sn:List Nd)(ps:List Pk)(n:Nd):Prop:=∃ns∈xc es sn ps,n∈ns
theorem HF (a:List Str)(ps:List Pk):decide (V.int ((nc a).length:Int)=V.int (ps.length:Int))=decide (a.length=ps.length):=by
 have h1:(nc a).length=a.length:=by unfold nc;rw[ab]
 rw[h1];by_cases z:a.length=ps.length
 ·rw[ao z,ao (by rw[z])]
 ·rw[au z,au (fun y=>z (by injection y with y;exact Int.ofNat.inj y))]
section
variable {P:Program}{w:World}{K:W.Frag}{mg:Str→Option Value}{base:Heap}{f:Addr}{fd:FuncData}
theorem w9:eG ["_law_shelf","_law_start","_law_picks","_law_version","_law_pick","_law_wanted","_law_seen","_law_need"] ["_law_shelf","_law_start","_law_picks"] (eA uE):=i8
end
inductive wD (vs:List V)(H:Hp)(Q:VK)(E:XK):Prop
 |mk (sh st pk:Addr)(es:List En)(sn:List Nd)(ps:List Pk)(_:vs=[.ref sh,.ref st,.ref pk])(_:jk H sh es)(_:(es.map eL).Nodup)(_:(∀e∈es,pH e))(_:gB H st sn)(_:(∀n∈sn,ij n.1))(_:sn.length≤900)(_:mR H pk ps)(_:BN es ps)(_:(ps.map (·.1)).Nodup)(_:ps.length≤900)(_:Ba es sn ps)(_:∀fin,Wk es ps sn [] fin→fin.Nodup→(∀x∈fin,x∈ps.map (·.1))→fin.length=ps.length)(_:∀H',eB H H'→Q (.bl true) H'):wD vs H Q E
def oh:Sp:=wD
inductive Go (H0:Hp)(es:List En)(sn:List Nd)(ps:List Pk)(sh st pk vd wa sd:Addr)(m:Nat)(σ:L2.St)(H:Hp):Prop
 |mk (zs an nm o4 o7:_)(_:σ=[some (.ref sh),some (.ref st),some (.ref pk),some (.ref vd),o4,some (.ref wa),some (.ref sd),o7])(_:H vd=some (.dK (mZ ps)))(_:H sd=some (.dK (nc nm)))(_:H wa=some (.lst zs))(_:Paired (fA H) zs an)(_:(∀n∈an,ij n.1∧Er es sn ps n))(_:nm.Nodup)(_:(∀x∈nm,x∈ps.map (·.1)))(_:(∀fin,Wk es ps an nm fin→Wk es ps sn [] fin))(_:nm.length+jp ps nm≤ps.length)(_:101*jp ps nm+an.length=m):Go H0 es sn ps sh st pk vd wa sd m σ H
structure Iq (H0:Hp)(es:List En)(sn:List Nd)(ps:List Pk)(sh st pk vd wa sd:Addr)(m:Nat)(σ:L2.St)(H:Hp):Prop where
 ex:Go H0 es sn ps sh st pk vd wa sd m σ H
 sm:eB H0 H
 le:m≤100000
section
variable {P:Program}{w:World}{K:W.Frag}{mg:Str→Option Value}{base:Heap}{f:Addr}{fd:FuncData}
theorem xx {g g2:Addr}{gd gd2:FuncData}(F:iL K "_law_fits" "_law_fits" uE f fd)(T:AE K mg)(G:fb P w K mg base eZ 1 g gd ["_law_shelf","_law_pick"] p4)(bG:gs K gd ["_law_shelf","_law_pick"] [])(kG:W.keepIn K (.ref g)=true)(mG:mg "_law_needs_in" = some (.ref g))(G2:fb P w K mg base eZ 1 g2 gd2 ["_law_need","_law_version"] (sB K))(c5:gs K gd2 ["_law_need","_law_version"] [])(ct:W.keepIn K (.ref g2)=true)(c9:mg "_law_meets" = some (.ref g2)):fb P w K mg base eZ 2 f fd ["_law_shelf","_law_start","_law_picks"] oh:=by
 refine F.ok w9 (fun vs H Q E h=>?_) (fun cdv A outer s H vs Q E hr h=>?_)
 ·obtain⟨sh,st,pk,es,sn,ps,rfl,_⟩:=h;rfl
 obtain⟨sh,st,pk,es,sn,ps,rfl,b9,al,a8,⟨r,cp,co⟩,c4,dn,⟨xs,L,hp⟩,a6,dc,dy,Y,b3,q⟩:=h;have hu:=gc hr;refine⟨_,(dX (eF (i:=3) w9.nd rfl (Or.inl rfl) gH) (dX (fN PassesOwn.never rfl (fh (pv 2)) (eK (i:=4) w9.nd rfl (Or.inl rfl)) (dX (gj (PW.pt (p8 (iN (rL hu (eO eQ (pv 4) ef (fun _ _=>rfl)) (pv 3))) (oJ (iN (zj (fw G hr rfl mG kG bG .nil eP (dU (pv 0) (dU (pv 4) ee)))))))) jd ff) (eg (iB hu (pv 3) (eO eQ (pv 4) ef (fun _ _=>rfl)) (eO eQ (pv 4) ef (fun _ _=>rfl)) rfl)))) (dX (eF (i:=5) w9.nd rfl (Or.inl rfl) (iP jb rfl T.list boot_list (dU (pv 1) ee))) (dX (eF (i:=6) w9.nd rfl (Or.inl rfl) gH) (dX (jD PassesOwn.never (gu (DZ hr.units) (pv 5) (gf ee) (gJ _)) (dX (eF (i:=7) w9.nd rfl (Or.inl rfl) (zi PySem.F.plainAttrs_list PySem.F.slot_list_pop PySem.F.type_list_pop zI (pv 5))) (dX (gj (PW.pt (p8 (iN (kr hu (eO eQ (pv 7) ef (fun _ _=>rfl)) (pv 3))) (oJ (jw (j3 (fw G2 hr rfl c9 ct c5 .nil eP (dU (pv 7) (dU (fL hu (pv 3) (eO eQ (pv 7) ef (fun _ _=>rfl)) (fun _ _=>rfl)) ee)))))))) jd ff) (eg (gj (iN (kr hu (eO eQ (pv 7) ef (fun _ _=>rfl)) (pv 6))) (dX (iB hu (pv 6) (eO eQ (pv 7) ef (fun _ _=>rfl)) mF rfl) (eg (fU (je PySem.F.plainAttrs_list PySem.F.slot_list_extend PySem.F.type_list_extend xK (pv 5) (dU (fw G hr rfl mG kG bG .nil eP (dU (pv 0) (dU (ge (dU (eO eQ (pv 7) ef (fun _ _=>rfl)) (dU (fL hu (pv 3) (eO eQ (pv 7) ef (fun _ _=>rfl)) (fun _ _=>rfl)) ee))) ee))) ee))))) ff))))) (eg (eR (nF lN (fK x8 rfl T.len cF (dU (pv 6) ee)) (fK gQ rfl T.len cF (dU (pv 2) ee)) (gJ _))))))))),?_⟩;have lx:xs.length=ps.length:=Paired.length hp;refine fun p b2=>?_;have s1:=eo b2 (.dK []);refine⟨_,rfl,pk,rfl,⟨xs,eX.of (s1 _ _ L)⟩,fR (K:=K) (a:=pk) (xs:=xs) (fun i σ H2=>∃o4,σ=[some (.ref sh),some (.ref st),some (.ref pk),some (.ref p),o4,none,none,none]∧eB H H2∧H2 p=some (.dK (mZ (ps.take i)))) ⟨none,rfl,s1,dW⟩ ((by rintro i σ H2 _ ⟨_,_,s,_⟩;exact eX.of (s _ _ L))) ?_ ?_⟩
 ·rintro i x σ H2 hi ⟨o4,rfl,s2,h2⟩;obtain⟨k,hk,kq,rfl,c3⟩:=Paired.Ju hp hi;have g1:=s2 _ _ c3;have d7:i<ps.length:=(af.mp hk).1;have ht:ps.take (i+1)=ps.take i++[k]:=by rw[aQ,hk];rfl
  have a5:=a6 k (aj hk);have a0:((ps.take i++[k]).map (·.1)).Nodup:=by rw[←ht,cj];exact iS _ dc
  have c7:ip (ps.take i) k.1=none:=by
   cases e:ip (ps.take i) k.1 with
   |none=>rfl
   |some z=>
    have:=uh e;rw[aw,bQ]at a0;exact absurd rfl (a0.2.2 k.1 (av.mpr ⟨_,this,rfl⟩) k.1 (by simp))
  have d:=iF k.1 (ps.take i);rw[c7]at d;refine⟨_,rfl,kq,_,_,_,rfl,rfl,ia.of g1,rfl,_,rfl,p,_,rfl,hJ.k (k:=Sum.inr k.1) h2,_,rfl,?_⟩;rw[d];refine gv ?_;refine⟨_,rfl,_,rfl,sh,.ref kq,es,k,rfl,jk.same s2 b9,⟨kq,rfl,g1⟩,al,fun e he bm na zs bd X=>?_,fun z=>absurd a5 z⟩;refine⟨_,rfl,gv ?_⟩;refine⟨_,rfl,kq,_,_,_,rfl,rfl,ia.of g1,rfl,_,rfl,_,rfl,kq,_,_,_,rfl,rfl,ia.of g1,rfl,p,_,rfl,ki.k (k:=Sum.inr k.1) h2 (eE (by unfold mZ;rw[ab,aN];lia)),?_⟩;refine⟨_,rfl,eB.upd s2 b2,?_⟩;have hm:=kz [k] (ps.take i) a0;rw[dW,ht,←hm];rfl
 rintro σ H2 ⟨o4,rfl,s2,h2⟩;rw[lx,aF]at h2;refine⟨_,rfl,st,r,rfl,.inl (eX.of (s2 _ _ cp)),fun j b6=>?_⟩;have s3:=eo b6 (.lst r);have bx:H j=none:=s2.free b6;refine fun sd R=>?_;have s4:=s3.trans (eo R (.dK []));have da:H sd=none:=(s2.trans s3).free R;have b7:upd (upd H2 j (.lst r)) sd (.dK []) j=some (.lst r):=(eo R _) _ _ dW;have bq:upd (upd H2 j (.lst r)) sd (.dK []) sd=some (.dK (nc [])):=dW;generalize d4:upd (upd H2 j (.lst r)) sd (.dK [])=H4 at *;have bv:=s2.trans s4;have cd:=zL ps [];have cx:p≠sd:=fun e=>by
  have:=s3 _ _ h2;rw[e,R]at this;cases this
 refine⟨Iq H es sn ps sh st pk p j sd,⟨101*jp ps []+sn.length,⟨r,sn,[],o4,none,rfl,s4 _ _ h2,bq,b7,Paired.Ja co fun _ _ z=>fA.same bv z,fun n hn=>⟨c4 n hn,sn,by simp[xc],hn⟩,bS,(fun x L=>nomatch L),fun O h=>h,by rw[List.length_nil,Nat.zero_add];exact cd,rfl⟩,bv,by lia⟩,?_⟩;rintro m σ H5 ⟨⟨zs,an,nm,d2,o7,rfl,cy,c2,ah,hz,l,N,M,hW,c8,hm⟩,sm,dv⟩;refine⟨_,rfl,(by show 0≤sizeLine;decide),fun e0 ch=>?_⟩;have s6:=eo ch (.lst []);refine⟨.list (an.map B9),.list [],.lst (s6 _ _ ah) (nA (fun _ _ z=>fA.rep z) (Paired.Ja hz fun _ _ z=>fA.same s6 z)),.lst dW .nil,uU (D4 fun n hn=>(l n hn).1) (by decide),rfl,_,rfl,?_⟩;rw[Cq];have a1:=sm.trans s6;have bf:=s6 _ _ cy;have aa:=s6 _ _ c2;have B:=s6 _ _ ah;have bl:Paired (fA (upd H5 e0 (.lst []))) zs an:=Paired.Ja hz fun _ _ z=>fA.same s6 z;generalize d6:upd H5 e0 (.lst [])=H6 at *;by_cases hnil:an=[]
 ·subst hnil;refine gv ?_;refine⟨_,rfl,sd,nc nm,rfl,aa,_,rfl,pk,xs,rfl,.inl (eX.of (a1 _ _ L)),rfl,?_⟩;rw[lx,HF,ao (b3 nm (hW nm .done) N M)];exact q H6 a1
 obtain⟨an',n,rfl⟩:∃an' n,an=an'++[n]:=⟨an.dropLast,an.getLast hnil,(List.dropLast_concat_getLast hnil).symm⟩;have a7:(List.map B9 (an'++[n])).isEmpty=false:=by simp
 rw[a7];obtain⟨b,v,rfl,hz',hv⟩:∃b v,zs=b++[v]∧Paired (fA H6) b an'∧fA H6 v n:=by
  clear l hW hm ah B hnil a7 hz
  induction an' generalizing zs with
  |nil=>
   cases bl with
   |cons h t=>cases t;exact⟨[],_,rfl,.nil,h⟩
  |cons a an' ih=>
   cases bl with
   |cons h t=>
    obtain⟨b,v,rfl,h1,h2⟩:=ih _ t;exact⟨_::b,v,rfl,.cons h h1,h2⟩
 refine ir ⟨fun σ' H'=>∃m',m'<m∧Iq H es sn ps sh st pk p j sd m' σ' H',fun _ _ z=>z,?_⟩;obtain⟨o,rfl,b8⟩:=id hv;have dd:an'.length+1+101*jp ps nm=m:=by rw[aE,aR]at hm;lia
 refine⟨_,rfl,.inl ⟨rfl,_,eX.of B⟩,j,_,_,rfl,rfl,B,xT _ _,?_⟩;have s7:eB H (upd H6 j (.lst (b++[V.ref o]).dropLast)):=eB.upd a1 bx;have ag:upd H6 j (.lst (b++[V.ref o]).dropLast) j=some (.lst b):=by rw[dW,List.dropLast_concat]
 have U:upd H6 j (.lst (b++[V.ref o]).dropLast) p=some (.dK (mZ ps)):=by rw[dY (fe bf B (by intro z;cases z))];exact bf
 have I:upd H6 j (.lst (b++[V.ref o]).dropLast) sd=some (.dK (nc nm)):=by rw[dY (fe aa B (by intro z;cases z))];exact aa
 have C:upd H6 j (.lst (b++[V.ref o]).dropLast) o=some (.tup [.str n.1,.int n.2.1,.int n.2.2]):=by rw[dY (fe b8 B (by intro z;cases z))];exact b8
 have b1:Paired (fA (upd H6 j (.lst (b++[V.ref o]).dropLast))) b an':=Paired.Ja hz' fun _ _ y=>fA.K3 B y;generalize d5:upd H6 j (.lst (b++[V.ref o]).dropLast)=H7 at *;obtain⟨dx,a9,Z,J⟩:=l n (by simp);have d:=iF n.1 ps;refine⟨_,rfl,o,_,_,_,rfl,rfl,ia.of C,rfl,_,rfl,p,_,rfl,hJ.k (k:=Sum.inr n.1) U,_,rfl,?_⟩;cases hvz:ip ps n.1 with
 |none=>
  have:=Y.2 a9 Z n J;unfold zQ at this;rw[hvz]at this;cases this
 |some z=>
 rw[hvz]at d;rw[d];refine gv ?_;have c6:hJ H7 p (.str n.1) (some (.int z)):=by
  have:=hJ.k (k:=Sum.inr n.1) U;rw[d]at this;exact this
 refine⟨_,rfl,_,rfl,_,rfl,o,_,_,_,rfl,rfl,ia.of C,rfl,p,_,rfl,c6,.ref o,n,z,rfl,⟨o,rfl,C⟩,_,rfl,?_⟩;refine mn (fun c=>?_) (fun c=>?_)
 ·have:=Y.1 a9 Z n J;unfold EB at this;rw[hvz]at this;dsimp only at this;unfold jV at this;rw[c]at this;cases this
 have D:=uh hvz;refine⟨_,rfl,o,_,_,_,rfl,rfl,ia.of C,rfl,_,rfl,sd,_,rfl,hJ.k (k:=Sum.inr n.1) I,_,rfl,?_⟩;rw[nU];by_cases hin:n.1∈nm
 ·rw[ao hin];refine gv ⟨101*jp ps nm+an'.length,by lia,⟨b,an',nm,_,_,rfl,U,I,ag,b1,fun x L=>l x (by simp[L]),N,M,fun O h=>hW O (.old hin h),c8,rfl⟩,s7,by lia⟩
 ·rw[au hin];refine ir ?_;have d3:=oX hin (ps:=ps) (av.mpr ⟨_,D,rfl⟩);have dp:(nc nm).length≤900:=by unfold nc;rw[ab];lia
  refine⟨_,rfl,_,rfl,o,_,_,_,rfl,rfl,ia.of C,rfl,sd,_,rfl,ki.k (k:=Sum.inr n.1) I (eE (by lia)),?_⟩;rw[By hin];have s8:eB H (upd H7 sd (.dK (nc (nm++[n.1])))):=eB.upd s7 da;have S:upd H7 sd (.dK (nc (nm++[n.1]))) j=some (.lst b):=by rw[dY (fe ag I (by intro z;cases z))];exact ag
  have ad:upd H7 sd (.dK (nc (nm++[n.1]))) p=some (.dK (mZ ps)):=by rw[dY cx];exact U
  have a2:upd H7 sd (.dK (nc (nm++[n.1]))) sd=some (.dK (nc (nm++[n.1]))):=dW;have b5:upd H7 sd (.dK (nc (nm++[n.1]))) o=some (.tup [.str n.1,.int n.2.1,.int n.2.2]):=by rw[dY (fe C I (by intro z;cases z))];exact C
  have cl:Paired (fA (upd H7 sd (.dK (nc (nm++[n.1]))))) b an':=Paired.Ja b1 fun _ _ y=>fA.K4 I (by intro xs z;cases z) y;generalize d1:upd H7 sd (.dK (nc (nm++[n.1])))=H8 at *;have a3:hJ H8 p (.str n.1) (some (.int z)):=by
   have:=hJ.k (k:=Sum.inr n.1) ad;rw[d]at this;exact this
  refine⟨_,rfl,.inl ⟨rfl,_,eX.of S⟩,_,rfl,_,rfl,o,_,_,_,rfl,rfl,ia.of b5,rfl,_,rfl,_,rfl,o,_,_,_,rfl,rfl,ia.of b5,rfl,p,_,rfl,a3,(by show 2≤sizeLine;decide),fun kt cv=>?_⟩;have s9:=eo cv (.tup [.str n.1,.int z]);refine⟨sh,.ref kt,es,(n.1,z),rfl,jk.same (s8.trans s9) b9,⟨kt,rfl,dW⟩,al,fun e he bm na b4 bd X=>?_,fun y=>absurd (a6 _ D) y⟩;have c1:gN es (n.1,z)=e.2.2:=by rw[←bm,j6 al he]
  rw[←c1]at X;have dl:=Paired.length hz';have dr:=Paired.length X;have df:=qh a8 (n.1,z);have a4:=s9 _ _ S;refine⟨j,na,b,b4,rfl,rfl,a4,bd,by rw[ce];lia,?_⟩;have cn:p≠j:=fe ad S (by intro z;cases z);have cz:sd≠j:=fe a2 S (by intro z;cases z);refine⟨101*jp ps (nm++[n.1])+(an'++gN es (n.1,z)).length,by rw[aE];lia,⟨b++b4,an'++gN es (n.1,z),nm++[n.1],_,_,rfl,by rw[dY cn];exact s9 _ _ ad,by rw[dY cz];exact s9 _ _ a2,dW,?_,fun x L=>?_,nI N hin,fun x L=>?_,fun O h=>hW O (.new hin hvz h),by rw[aE,aR];lia,rfl⟩,eB.upd (s8.trans s9) bx,by rw[aE];lia⟩
  ·have ap:∀{as bs:List V} {cs ds:List Nd},Paired (fA (upd H8 kt (.tup [.str n.1,.int z]))) as cs→Paired (fA (upd H8 kt (.tup [.str n.1,.int z]))) bs ds→Paired (fA (upd H8 kt (.tup [.str n.1,.int z]))) (as++bs) (cs++ds):=by
    intro as bs cs ds r1 r2
    induction r1 with
    |nil=>exact r2
    |cons h t ih=>exact .cons h ih
   exact Paired.Ja (ap (Paired.Ja cl fun _ _ y=>fA.same s9 y) X) fun _ _ y=>fA.K3 a4 y
  ·rcases ay.mp L with y | y
   ·exact l x (by simp[y])
   ·exact⟨rO a8 _ x y,_,by unfold xc;exact aZ _ (av.mpr ⟨_,D,rfl⟩),y⟩
  ·rcases ay.mp L with y | y
   ·exact M x y
   ·rw[ai.mp y];exact av.mpr ⟨_,D,rfl⟩
end
end FB
namespace FB
open PySem L2 PyProof.Rows
variable {es:List En}
theorem Wk.closed {ps:List Pk}{an:List Nd}{nm fin:List Str}(h:Wk es ps an nm fin):(∀x∈nm,x∈fin)∧(∀n∈an,n.1∈fin)∧∀x z,ip ps x=some z→x∈fin→x∉nm→∀n∈gN es (x,z),n.1∈fin:=by
 induction h with
 |done=>exact⟨fun _ h=>h,(by simp),fun x z _ h1 h2=>absurd h1 h2⟩
 |@old ah n nm fin hn _ ih=>
  obtain⟨d,g,i⟩:=ih;refine⟨d,fun m b=>?_,i⟩;rcases ay.mp b with y | y
  ·exact g m y
  ·rw[ai.mp y];exact d _ hn
 |@new ah n nm fin z hn hv _ ih=>
  obtain⟨d,g,i⟩:=ih;refine⟨fun x l=>d x (by simp[l]),fun m b=>?_,fun x j a h1 h2 m b=>?_⟩
  ·rcases ay.mp b with y | y
   ·exact g m (by simp[y])
   ·rw[ai.mp y];exact d _ (by simp)
  ·by_cases e:x=n.1
   ·subst e;rw[hv]at a;cases a;exact g m (by simp[b])
   ·exact i x j a h1 (by simp[h2,e]) m b
theorem ku {c:dZ}{pk:Nat}(h:c.JR pk):((c.listed pk).map (·.1)).Nodup:=by
 refine cA.mpr ?_;have:(c.listed pk).Nodup:=c.nd.filter _;exact this.imp_of_mem fun d b a z=>a (h _ _ (dZ.JB.mp d) (dZ.JB.mp b) z)
theorem Co {sn:List Nd}{ps:List Pk}(h:mz es sn ps)(g:(ps.map (·.1)).Nodup):Ba es sn ps:=by
 have key:∀d∈xc es sn ps,∀m∈d,∃v,ip ps m.1=some v∧jV m v=true:=fun d a m b=>by
  obtain⟨j,hj,e1,e2⟩:∃j∈ps,j.1=m.1∧jV m j.2=true:=by
   rcases ak.mp a with y | y
   ·subst y;exact h.met none (fun _ z=>nomatch z) m b
   ·obtain⟨k,e,rfl⟩:=av.mp y;exact h.met (some k) (fun _ z=>by cases z;exact e) m b
  exact⟨j.2,by rw[←e1];exact j8 g hj,e2⟩
 constructor
 ·intro d a m b;obtain⟨v,h1,h2⟩:=key d a m b;unfold EB;rw[h1];simp[h2]
 ·intro d a m b;obtain⟨v,h1,h2⟩:=key d a m b;unfold zQ;rw[h1];rfl
theorem Cn {c:dZ}{pk:Nat}{fin:List Str}(h1:c.JR pk)(g:∀k,c.has pk k→c.Named pk k)(q:Wk c.es (c.listed pk) c.sn [] fin)(o:fin.Nodup)(p:∀x∈fin,x∈(c.listed pk).map (·.1)):fin.length=(c.listed pk).length:=by
 have d:=ku h1;obtain⟨_,t,r⟩:=q.closed;have all:∀k,c.Named pk k→k.1∈fin:=fun k i=>by
  induction i with
  |@start k h h'=>
   obtain⟨n,g,e⟩:=av.mp h';rw[←e];exact t n g
  |@next j k hj i h' ih=>
   obtain⟨n,g,e⟩:=av.mp h';rw[←e];have l:c.has pk j:=by
    cases hj with
    |start h _=>exact h
    |next _ h _=>exact h
   exact r j.1 j.2 (j8 d (dZ.JB.mpr l)) ih (by simp) n g
 have a:=qG o p;have b:=qG d (m:=fin) fun x s=>by
  obtain⟨k,i,rfl⟩:=av.mp s;exact all k (g k (dZ.JB.mp i))
 rw[ab]at a b;omega
theorem mJ {c:dZ}{m:Nat}:(c.listed m).length≤c.es.length:=by
 have:=c.pm.length_eq;rw[ab]at this;rw[←this];exact bt _ _
theorem zM {c:dZ}{L:ic}(hL:gC c L):∀(i:Nat) (l:Ln),(c.lns L)[i]?=some l→jU c.es c.sn (c.lns L) (i:Nat) l=true:=fun i l hl=>by
 unfold dZ.lns at hl;rw[ae]at hl;obtain⟨e,he,rfl⟩:=ax.mp hl;exact hL.good i e he
theorem Ce {c:dZ}{L:ic}(d:gC c L)(h:∀e∈c.es,Lw e):L.length<sizeLine:=by
 have:=xR (Ps:=gU) (Vs:=p6) d (fun k a=>by
  obtain⟨e,b,rfl⟩:=av.mp ((c.mem k).mp a)
  exact(h e b).1) fun k a=>by
  obtain⟨e,b,rfl⟩:=av.mp ((c.mem k).mp a);exact(h e b).2.1
 have e:(p6.length+1)^gU.length=4096:=by decide
 rw[e]at this;rw[ce];omega
theorem sU {sn:List Nd}(hok:∀e∈es,pH e)(hs:sn.length≤100):∀w,(iy es sn w).length≤100
 |none=>hs
 |some k=>qh hok k
end FB
namespace FB
open PySem L2 PyProof.Rows
seal lW PS PE PT PA
inductive Iy (P:Program)(w:World)(K:W.Frag)(mg:Str→Option Value)(base:Heap)(CX:wT)(k:Nat)(x:Str)(ps:List Str)(sp:Sp):Prop
 |mk (g gd:_)(_:fb P w K mg base CX k g gd ps sp)(_:gs K gd ps [])(_:W.keepIn K (.ref g)=true)(_:mg x=some (.ref g)):Iy P w K mg base CX k x ps sp
structure Gd (P:Program)(w:World)(K:W.Frag)(mg:Str→Option Value)(base:Heap)(CX:wT)(k:Nat)(x:Str)(ps:List Str)(sp:Sp):Prop where
 ex:Iy P w K mg base CX k x ps sp
end FB
namespace FB
open PySem PySem.Spec L2 PyProof.Rows
variable {C PP:Addr}{K:W.Frag}{ps:List Str}{st:Stmt}{x:Str}
theorem Cl {qual:Str}{f c:Addr}{oc:Value}{od an:Option Addr}{osl:Array (Option Value)}{kV doc pm ct:Value}(l:K.lookup f=some ⟨oc,od,.func (W.fnOf x qual (gO st) (gi st) (eA st) .none kV doc pm an (.ref c) ct),osl⟩)(hc:W.codeIn K (.ref c) qual=true)(k:W.keepIn K (.ref f)=true):A9 K x qual st f (W.fnOf x qual (gO st) (gi st) (eA st) .none kV doc pm an (.ref c) ct) c:=⟨⟨oc,od,kV,doc,pm,an,ct,osl,rfl,l,hc⟩,k⟩
theorem xS {P:Program}{w:World}{mg mb:Str→Option Value}{k:Nat}{fa a cP:Addr}{fd:FuncData}{sp:Sp}{s₁:Shared}{vs:List Value}{ns:List Int}(S:K.In s₁.heap)(G:s₁.heap.Ns mainGlobals mg)(g:s₁.heap.Ns builtinsNs mb)(Z:∀x:Str,x≠"__name__"→mb x=bootBuiltins x)(I:s₁.heap.NoLimit)(hg:s₁.gens=#[])(C:s₁.heap.get? a=some {cls:=.type "list",data:=.seq vs.toArray})(hi:IntsAre vs ns)(hl:ns.length≤sizeLine)(hr:gE k callerA)(D:s₁.heap.get? PP=some (W.tabObj #[]))(hC:W.codeHdIn K cP PP=true)(Q:K.lookup PP=none)(aa:sk mg s₁.heap)(F:∀base:Heap,K.In base→base.Ns mainGlobals mg→sk mg base→fb P w K mg base eZ k fa fd [x] sp)(B:∀(s:Shared) (u:Value),BindsTo s fd ⟨[u],[]⟩ [(x,u)])(ag:∀H:Hp,eX K H a (ns.map V.int)→H PP=some (.tbl #[])→sp [.ref a] H (fun v _=>v=.bl true) fun _ _ _=>False):codeAny (model P w) callerA (.call (.ref fa) ⟨[.ref a],[]⟩) (fun r s'=>r=.ok (.ret (.bool true))∧OldK s₁.heap s'.heap∧s'.os=s₁.os∧AllBare s'.gens) s₁:=by
 have rv:=lX hi;have J:=hi.length;have L:a≠PP:=fun e=>by
  rw[e,D]at C;cases C
 have t:∀H:Hp,(∀b,H b=none∨(b=PP∧H b=some (.tbl #[]))∨∃o xs,H b=some (.frz o (.lst xs)))→H PP=some (.tbl #[])→eX K H a (ns.map V.int)→kF P w H s₁.heap→(∀b,H b≠none→b=a∨b=PP)→(H a≠none→K.lookup a=none)→
   codeAny (model P w) callerA (.call (.ref fa) ⟨[.ref a],[]⟩) (fun r s'=>r=.ok (.ret (.bool true))∧OldK s₁.heap s'.heap∧s'.os=s₁.os∧AllBare s'.gens) s₁:=by
  intro H hO R hS M X hK;have i:∀{b:Addr} {o:Obj},s₁.heap.get? b=some o→H b=none→(pR s₁.heap H).get? b=some o:=fun e n=>zW e n;have ad:∀{b:Addr} {o:Obj},s₁.heap.get? b=some o→o.cls≠.none→(∀z y,o.data≠.seq z y)→H b=none:=fun {b o} e d1 d2=>by
   cases q:H b with
   |none=>rfl
   |some u=>
    rcases X b (by rw[q];simp) with e' | e'
    ·subst e';rw[C]at e;cases e;exact absurd rfl (d2 _ _)
    ·subst e';rw[D]at e;cases e;exact absurd rfl d1
  have ah:∀{b:Addr} {o:Obj} {es:Array DictEntry} {ep:Nat},s₁.heap.get? b=some o→o.data=.dict es ep→H b=none:=fun {b o es ep} e d=>by
   cases q:H b with
   |none=>rfl
   |some u=>
    rcases X b (by rw[q];simp) with e' | e'
    ·subst e';rw[C]at e;cases e;have d':Data.seq vs.toArray _=Data.dict es ep:=d;cases d'
    ·subst e';rw[D]at e;cases e;have d':Data.fields #[]=Data.dict es ep:=d;cases d'
  have l:∀{b:Addr} {m:Str→Option Value},s₁.heap.Ns b m→(pR s₁.heap H).Ns b m:=fun {b m} ⟨o,es,ep,e,d,r⟩=>⟨o,es,ep,i e (ah e d),d,r⟩
  have N:K.In (pR s₁.heap H):=fun b o e=>i (S b o e) (by
   cases q:H b with
   |none=>rfl
   |some u=>
    rcases X b (by rw[q];simp) with e' | e'
    ·subst e';rw[hK (by rw[q];simp)]at e;cases e
    ·subst e'
     rw[Q]at e;cases e)
  have hM:Mod K mg (pR s₁.heap H):=⟨N,l G,⟨mb,l g,Z⟩,(by obtain⟨mc,h1,h2⟩:=I;exact⟨mc,l h1,h2⟩)⟩;have O:sk mg (pR s₁.heap H):=by
   obtain⟨bm,U,b1,b2,b3,b4,b5,b6⟩:=aa;exact⟨bm,U,b1,b2,i b3 (ad b3 (by rw[b4];exact fun z=>nomatch z) fun _ _ z=>by rw[b6]at z;cases z),b4,b5,b6⟩
  have e0:vB P w K mg (pR s₁.heap H) callerA [] s₁ H:=⟨rfl,hM,fun b o e=>BZ e,dz (xZ _ _),trivial,fun b g=>absurd (show b∈([]:List Addr) from g) (by simp),M,.of_eq hg⟩;refine codeAny_mono ((F _ N (l G) O).run callerA [] s₁ H ⟨[.ref a],[]⟩ [.ref a] [.ref a] _ _ hr e0 (B s₁ (.ref a)) (.cons rfl .nil) (ag H hS R)) fun r s' h=>?_;cases r with
  |error e=>exact False.elim h
  |ok fl=>
   cases fl with
   |next=>exact False.elim h
   |brk=>exact False.elim h
   |cont=>exact False.elim h
   |ret u=>
    obtain⟨v,H',os,E,un,A,r',q⟩:=h;have q':v=.bl true:=q;subst q';obtain rfl:u=Value.bool true:=r';refine⟨rfl,⟨fun b o e=>?_,fun b o e=>un.there b o e (by simp)⟩,os,E⟩;rcases hO b with z | ⟨rfl,z⟩ | ⟨U,xs,z⟩
    ·exact .inl (un.keep b o e z (by intro z;exact absurd (show b∈([]:List Addr) from z) (by simp)) (by simp))
    ·obtain⟨more,T⟩:=un.tbls b _ z;have Y:s'.heap.get? b=some {cls:=.none,data:=.fields (#[]++more)}:=A b _ T;rw[D]at e;cases e;exact .inr (.inl ⟨((W.codeHd_of_K S hC).tab D).isCodeTable,rfl,#[],more,rfl,Y⟩)
    ·have T:=un.frzs b U _ z;obtain⟨e1,_⟩:=M b _ z;obtain⟨Y,_⟩:=A b _ T;rw[e]at e1;cases e1;exact .inl Y
 have j:∀H:Hp,fC P w H s₁.heap PP (.tbl #[]):=fun H=>D;cases hk:K.lookup a with
 |some o=>
  have e:=S a o hk;rw[C]at e;cases e;refine t (fun b=>if b=PP then some (.tbl #[]) else none) (fun b=>?_) (if_pos rfl) (.inr ⟨_,vs.toArray,_,hk,rfl,rfl,rfl,by rw[aO,J];exact hl,by simpa using rv⟩) (fun b u z=>?_) (fun b z=>?_) fun z=>absurd (if_neg L) z
  ·by_cases g:b=PP
   ·exact .inr (.inl ⟨g,if_pos g⟩)
   ·exact .inl (if_neg g)
  ·by_cases g:b=PP
   ·have p:=(if_pos g).symm.trans z;cases p;subst g;exact j _
   ·have p:=(if_neg g).symm.trans z;cases p
  ·by_cases g:b=PP
   ·exact .inr g
   ·exact absurd (if_neg g) z
 |none=>
  refine t (fun b=>if b=PP then some (.tbl #[]) else if b=a then some (.frz {cls:=.type "list",data:=.seq vs.toArray} (.lst (ns.map V.int))) else none) (fun b=>?_) (if_pos rfl) (.inl (.inr ⟨{cls:=.type "list",data:=.seq vs.toArray},(if_neg L).trans (if_pos rfl)⟩)) (fun b u z=>?_) (fun b z=>?_) fun _=>hk
  ·by_cases g:b=PP
   ·exact .inr (.inl ⟨g,if_pos g⟩)
   ·by_cases hb2:b=a
    ·exact .inr (.inr ⟨_,_,(if_neg g).trans (if_pos hb2)⟩)
    ·exact .inl ((if_neg g).trans (if_neg hb2))
  ·by_cases g:b=PP
   ·have p:=(if_pos g).symm.trans z;cases p;subst g;exact j _
   ·by_cases hb2:b=a
    ·have p:=((if_neg g).trans (if_pos hb2)).symm.trans z;cases p;subst hb2;exact⟨C,by rw[ab];exact hl,vs,_,rv,C⟩
    ·have p:=((if_neg g).trans (if_neg hb2)).symm.trans z;cases p
  ·by_cases g:b=PP
   ·exact .inr g
   ·by_cases hb2:b=a
    ·exact .inl hb2
    ·exact absurd ((if_neg g).trans (if_neg hb2)) z
theorem yr {l:W.OpenLaw}{n k:Nat}{q:Program}{loose:List Str}{XP:(Str→Option Value)→Heap→Prop}{YP:World→Heap→Prop}{d:DefRec}{K:Params→W.Frag}{sp:World→Sp}(M:l.most=some n)(t:n≤sizeLine)(p:d.params.defaults=[])(J:gE k callerA)(I:∀(w:World) (h:Heap),YP w h→(K w.params).In h)(r:∀(w:World) (h:Heap),YP w h→h.get? PP=some (W.tabObj #[]))(m:∀w:World,(K w.params).lookup PP=none)(F:∀(w:World) (mg:Str→Option Value) (fa:Addr) (h:Heap),(K w.params).In h→h.Ns mainGlobals mg→mg d.name=some (.ref fa)→∃(fd:FuncData) (cP:Addr),W.codeHdIn (K w.params) cP PP=true∧(∀(s:Shared) (u:Value),BindsTo s fd ⟨[u],[]⟩ [(x,u)])∧∀base:Heap,(K w.params).In base→base.Ns mainGlobals mg→sk mg base→fb l.prog w (K w.params) mg base eZ k fa fd [x] (sp w))(z:∀(w:World) (H:Hp) (a:Addr) (ns:List Int),ns.length≤n→eX (K w.params) H a (ns.map V.int)→H PP=some (.tbl #[])→sp w [.ref a] H (fun v _=>v=.bl true) fun _ _ _=>False):W.WalkO q loose XP YP l.row.toRowW d [] (fun f vs=>PySem.call f vs):=by
 refine Att.tQ M p fun w s₀ s₁ mg R fa o pm cd L a vs ns G Y S Q P y j i e D=>?_;have A:=I w _ Y;obtain⟨fd,cP,B,C,E⟩:=F w mg fa _ A G.T.g y;exact xS A G.T.g G.T.b G.T.builtins G.T.nolimit D j i (bj e t) J (r w _ Y) B (m w) G.T.bmain E C fun H O N=>z w H a ns e O N
theorem kI {α:Type}{p:List α→Prop}(h:∀a,p [a]):∀us:List α,us.length=1→p us
 |[a],_=>h a
theorem jI {α:Type}{p:List α→Prop}(h:∀a b,p [a,b]):∀us:List α,us.length=2→p us
 |[a,b],_=>h a b
theorem pe {α:Type}{p:List α→Prop}(h:∀a b c,p [a,b,c]):∀us:List α,us.length=3→p us
 |[a,b,c],_=>h a b c
theorem Ex {α:Type}{p:List α→Prop}(h:∀a b c d,p [a,b,c,d]):∀us:List α,us.length=4→p us
 |[a,b,c,d],_=>h a b c d
inductive pJ (K:W.Frag)(x:Str)(st:Stmt)(f:Addr):Prop
 |mk {oc kV dc pm cd ct:Value}{od an:Option Addr}{sl:Array (Option Value)}(_:W.nsIn K mainGlobals x=some (some (.ref f)))(_:K.lookup f=some ⟨oc,od,.func (W.fnOf x x (gO st) (gi st) (eA st) .none kV dc pm an cd ct),sl⟩)(_:W.codeIn K cd x=true)(_:W.keepIn K (.ref f)=true):pJ K x st f
inductive kQ (K:W.Frag)(C:Addr)(m q:Str)(st:Stmt)(f:Addr):Prop
 |mk {oc kV dc pm cd ct:Value}{od an:Option Addr}{sl:Array (Option Value)}(_:W.findIn K (.ref C) m=some (some (.ref f)))(_:W.isFn K (.ref f)=true)(_:K.lookup f=some ⟨oc,od,.func (W.fnOf m q (gO st) (gi st) (eA st) .none kV dc pm an cd ct),sl⟩)(_:W.codeIn K cd q=true)(_:W.keepIn K (.ref f)=true):kQ K C m q st f
inductive GS (K:W.Frag)(C:Addr)(m q:Str)(st:Stmt)(f PP:Addr):Prop
 |mk {oc kV dc pm ct:Value}{cd:Addr}{od an:Option Addr}{sl:Array (Option Value)}(_:W.findIn K (.ref C) m=some (some (.ref f)))(_:W.isFn K (.ref f)=true)(_:K.lookup f=some ⟨oc,od,.func (W.fnOf m q (gO st) (gi st) (eA st) .none kV dc pm an (.ref cd) ct),sl⟩)(_:W.codeIn K (.ref cd) q=true)(_:W.keepIn K (.ref f)=true)(_:W.codeHdIn K cd PP=true):GS K C m q st f PP
structure Dt (K:W.Frag)(x:Str)(C:Addr):Prop where
 a:W.nsIn K mainGlobals x=some (some (.ref C))
 pg:W.plainGet K C Str.empty=true
 hd:W.hasDictIn K C=true
 po:W.plainOver K C=true
 sa:W.findIn K (.ref C) "__setattr__" = some (some (.builtin "object.__setattr__"))
 mk_:W.makesIn K C=true
 kc:W.keepIn K (.ref C)=true
section
variable {K:W.Frag}{h:Heap}{mg:Str→Option Value}(X:K.In h)(G:h.Ns mainGlobals mg)
theorem Dt.c (d:Dt K x C):pV K C:=⟨d.pg,d.hd,d.po,d.sa⟩
include X G in
theorem pJ.u {f:Addr}(d:pJ K x st f)(b:∀(kV doc pm:Value) (an:Option Addr) (cdv ct:Value) (us:List Value),us.length=ps.length→bindArgs (W.fnOf x x (gO st) (gi st) (eA st) .none kV doc pm an cdv ct) ⟨us,[]⟩=pure (ps.zip us)):∃fd,iL K x x st f fd∧gs K fd ps []∧W.keepIn K (.ref f)=true∧mg x=some (.ref f):=by
 obtain @⟨i,kV,h,pm,cd,ct,g,an,e,a,l,c,k⟩:=d;exact⟨_,mq l c k,(mq l c k).binds b,k,W.mg_of X G a⟩
theorem kQ.u {m q:Str}{f:Addr}(d:kQ K C m q st f)(b:∀(kV doc pm:Value) (an:Option Addr) (cdv ct:Value) (us:List Value),us.length=ps.length→bindArgs (W.fnOf m q (gO st) (gi st) (eA st) .none kV doc pm an cdv ct) ⟨us,[]⟩=pure (ps.zip us)):∃fd,iL K m q st f fd∧gs K fd ps []∧yh K C m f:=by
 obtain @⟨j,kV,h,pm,cd,ct,g,an,e,a,i,l,c,k⟩:=d;exact⟨_,mq l c k,(mq l c k).binds b,a,i,k⟩
theorem GS.u {m q:Str}{f:Addr}(d:GS K C m q st f PP)(e:∀(kV doc pm:Value) (an:Option Addr) (cdv ct:Value) (us:List Value),us.length=ps.length→bindArgs (W.fnOf m q (gO st) (gi st) (eA st) .none kV doc pm an cdv ct) ⟨us,[]⟩=pure (ps.zip us)):∃fd cd,A9 K m q st f fd cd∧gs K fd ps []∧yh K C m f∧W.codeHdIn K cd PP=true:=by
 obtain @⟨o,kV,j,pm,ct,cd,h,an,g,a,i,l,c,k,b⟩:=d;exact⟨_,cd,Cl l c k,(mq l c k).binds e,⟨a,i,k⟩,b⟩
end
end FB
namespace FB
open PySem L2 PyProof.Rows
structure GP (H H':Hp):Prop where
 l:∀a xs,H a=some (.lst xs)→H' a=some (.lst xs)
 t:∀a xs,H a=some (.tup xs)→H' a=some (.tup xs)
theorem GP.tab {H H':Hp}{PP:Addr}(b:gW Bb yl H PP)(e:er (del H [PP]) H'):GP H H':=by
 obtain⟨u,hu,fu⟩:∃u,H PP=some u∧ud u:=by
  rcases b with z | ⟨c',z,_⟩
  ·exact⟨_,z,trivial⟩
  ·exact⟨_,z,trivial⟩
 exact⟨fun a xs h=>e.lst (il hu fu h fun z=>z),fun a xs h=>e.tup (il hu fu h fun z=>z)⟩
section
variable {H H':Hp}(e:GP H H')
include e
theorem fA.k {v:V}{n:Nd}(h:fA H v n):fA H' v n:=(by obtain⟨q,h1,h2⟩:=h;exact⟨q,h1,e.t _ _ h2⟩)
theorem gB.k {a:Addr}{ns:List Nd}(h:gB H a ns):gB H' a ns:=(by obtain⟨xs,h1,h2⟩:=h;exact⟨xs,e.l _ _ h1,Paired.Ja h2 fun _ _ z=>fA.k e z⟩)
theorem iC.k {v:V}{n:En}(h:iC H v n):iC H' v n:=(by obtain⟨q,a,xs,h1,h2,h3,h4⟩:=h;exact⟨q,a,xs,h1,e.t _ _ h2,e.l _ _ h3,Paired.Ja h4 fun _ _ z=>fA.k e z⟩)
theorem jk.k {a:Addr}{es:List En}(h:jk H a es):jk H' a es:=(by obtain⟨xs,h1,h2⟩:=h;exact⟨xs,e.l _ _ h1,Paired.Ja h2 fun _ _ z=>iC.k e z⟩)
end
end FB
namespace FB
open PySem L2 PyProof.Rows
seal lW PS PE PT PA
variable {ds:List Pk}{es:List En}
def yo (v:Int)(n:Nd):Nd:=(n.1,if v<n.2.1 then v else n.2.1,if v>n.2.2 then v else n.2.2)
theorem Bc (v:Int)(n:Nd):jV (yo v n) v=true:=by
 unfold jV yo;dsimp only;rw[aH,aA,aA]
 constructor <;> split <;> lia
def io (ds:List Pk)(n:Nd):Nd:=yo ((ip ds n.1).getD 0) n
def i5 (ds:List Pk)(e:En):En:=if ip ds e.1=some e.2.1 then (e.1,e.2.1,e.2.2.map (io ds)) else e
structure ni (ds:List Pk):Prop where
 pt:ds.map (·.1)=gU
 vr:∀d∈ds,d.2∈p6
theorem v6:gU.Nodup:=by decide +kernel
theorem ni.nd (h:ni ds):(ds.map (·.1)).Nodup:=by rw[h.pt];exact v6
theorem ni.get (h:ni ds){x:Str}(b:x∈gU):∃v,ip ds x=some v∧(x,v)∈ds:=by
 rw[←h.pt]at b;obtain⟨d,a,rfl⟩:=av.mp b;exact⟨d.2,j8 h.nd a,a⟩
def AJ (ds:List Pk)(n:Nd):Prop:=∃v,ip ds n.1=some v∧jV n v=true
theorem su (h:ni ds){n:Nd}(b:n.1∈gU):AJ ds (io ds n):=by
 obtain⟨v,a,_⟩:=h.get b;refine⟨v,a,?_⟩;unfold io;rw[a];exact Bc v n
inductive CY (vs:List V)(H:Hp)(Q:VK)(E:XK):Prop
 |mk (nv:V)(dr:Addr)(n:Nd)(ds:List Pk)(_:vs=[nv,.ref dr])(_:fA H nv n)(_:H dr=some (.dK (mZ ds)))(_:ni ds)(_:n.1∈gU)(_:∀q H',eB H H'→H q=none→H' q=some (.tup [.str (io ds n).1,.int (io ds n).2.1,.int (io ds n).2.2])→Q (.ref q) H'):CY vs H Q E
def qH:Sp:=CY
section
variable {P:Program}{w:World}{K:W.Frag}{mg:Str→Option Value}{base:Heap}{f:Addr}{fd:FuncData}
theorem Fj:eG ["_law_need","_law_drawn","_law_version"] ["_law_need","_law_drawn"] (eA yK):=i8
theorem BO (F:iL K "_law_wide" "_law_wide" yK f fd)(g:mg "min" = none)(m:mg "max" = none):fb P w K mg base eZ 1 f fd ["_law_need","_law_drawn"] qH:=by
 refine F.ok Fj (fun vs H Q E h=>?_) (fun cdv A outer s H vs Q E x h=>?_)
 ·obtain⟨nv,j,n,ds,rfl,_⟩:=h;rfl
 obtain⟨nv,j,n,ds,rfl,⟨d,rfl,a⟩,l,z,e,q⟩:=h;have y:=gc x;refine⟨_,(dX (eF (i:=2) Fj.nd rfl (Or.inl rfl) (fL y (pv 1) (eO eQ (pv 0) ef (fun _ _=>rfl)) (fun _ _=>rfl))) (eg (eR (ge (dU (eO eQ (pv 0) ef (fun _ _=>rfl)) (dU (fK (qr rfl) rfl g boot_min (dU (eO eQ (pv 0) ef (fun _ _=>rfl)) (dU (pv 2) ee))) (dU (fK (qt rfl) rfl m boot_max (dU (eO eQ (pv 0) ef (fun _ _=>rfl)) (dU (pv 2) ee))) ee))))))),?_⟩;obtain⟨v,r,_⟩:=z.get e;have b:=iF n.1 ds;rw[r]at b;have o:hJ H j (.str n.1) (some (.int v)):=by
  have:=hJ.k (k:=Sum.inr n.1) l;rw[b]at this;exact this
 refine⟨_,rfl,_,rfl,d,_,_,_,rfl,rfl,ia.of a,rfl,j,_,rfl,o,?_⟩;refine⟨_,rfl,d,_,_,_,rfl,rfl,ia.of a,rfl,_,rfl,d,_,_,_,rfl,rfl,ia.of a,rfl,_,rfl,_,_,rfl,_,rfl,d,_,_,_,rfl,rfl,ia.of a,rfl,_,rfl,_,_,rfl,(by show 3≤sizeLine;decide),fun t p=>?_⟩;refine q t _ (eo p _) p ?_;rw[dW];unfold io;rw[r];rfl
end
theorem CU:(["_law_need","_law_drawn"]:List Str).Nodup:=by decide +kernel
structure pU (ds:List Pk)(es:List En)(i:Nat):Prop where
 nd:(es.map eL).Nodup
 ok:∀e∈es,pH e∧Lw e
 dr:∀d∈ds.take i,d∈es.map eL
 met:∀e∈es,eL e∈ds→∀n∈e.2.2,AJ ds n
theorem qi (ds:List Pk)(e:En):eL (i5 ds e)=eL e:=by
 unfold i5
 split <;> rfl
theorem u4 (p:ni ds)(l:(es.map eL).Nodup)(g:∀e∈es,pH e)(a:∀e∈es,Lw e):pU ds (es.map (i5 ds)) 0:=by
 refine⟨?_,fun e i=>?_,(fun d q=>nomatch q),fun e i o n h=>?_⟩
 ·rw[ck,show eL ∘ i5 ds=eL from funext (qi ds)];exact l
 ·obtain⟨e,b,rfl⟩:=av.mp i;unfold i5
  split
  ·refine⟨⟨(g e b).pt,fun n l=>?_,by show(e.2.2.map (io ds)).length≤100;rw[ab];exact(g e b).few⟩,(a e b).1,(a e b).2.1,fun n l=>?_⟩
   ·obtain⟨m,j,rfl⟩:=av.mp l;exact(g e b).nd m j
   ·obtain⟨m,j,rfl⟩:=av.mp l;exact(a e b).2.2 m j
  ·exact⟨g e b,a e b⟩
 ·obtain⟨e,b,rfl⟩:=av.mp i;rw[qi]at o;have r:ip ds e.1=some e.2.1:=j8 p.nd o;unfold i5 at h;rw[if_pos r]at h;obtain⟨m,j,rfl⟩:=av.mp h;exact su p ((a e b).2.2 m j)
theorem pU.next {i:Nat}{d:Pk}(h:pU ds es i)(b:ds[i]?=some d)(e:d∈es.map eL):pU ds es (i+1):=by
 refine⟨h.nd,h.ok,fun x a=>?_,h.met⟩;rw[aQ,b]at a;rcases ay.mp a with z | z
 ·exact h.dr x z
 ·rw[show x=d by simpa using z];exact e
theorem pU.add {i:Nat}{d:Pk}(h:pU ds es i)(o:ni ds)(j:ds[i]?=some d)(q:d∉es.map eL):pU ds (es++[(d.1,d.2,[])]) (i+1):=by
 have l:=aj j;have m:d.1∈gU:=by rw[←o.pt];exact av.mpr ⟨d,l,rfl⟩
 refine⟨?_,fun e b=>?_,fun x p=>?_,fun e b g n a=>?_⟩
 ·rw[aw];exact nI h.nd q
 ·rcases ay.mp b with z | z
  ·exact h.ok e z
  ·rw[ai.mp z];exact⟨⟨nQ m,(fun n a=>nomatch a),by show 0≤100;decide⟩,m,o.vr d l,fun n a=>nomatch a⟩
 ·rw[aw];rw[aQ,j]at p;rcases ay.mp p with z | z
  ·exact aJ _ (h.dr x z)
  ·rw[show x=d by simpa using z];exact aI _ (ai.mpr rfl)
 ·rcases ay.mp b with z | z
  ·exact h.met e z g n a
  ·rw[ai.mp z]at a;cases a
inductive C4 (vs:List V)(H:Hp)(Q:VK)(E:XK):Prop
 |mk (sh dr:Addr)(es:List En)(ds:List Pk)(_:vs=[.ref sh,.ref dr])(_:jk H sh es)(_:(es.map eL).Nodup)(_:∀e∈es,pH e)(_:∀e∈es,Lw e)(_:es.length≤59)(_:H dr=some (.dK (mZ ds)))(_:ni ds)(_:∀p es' H',eB H H'→jk H' p es'→pU ds es' 4→es'.length<64→Q (.ref p) H'):C4 vs H Q E
def um:Sp:=C4
inductive HV (H:Hp)(es:List En)(ds:List Pk)(sh dr md:Addr)(i:Nat)(σ:L2.St)(H2:Hp):Prop
 |mk (xs:List V)(o3 o4:Option V)(_:σ=[some (.ref sh),some (.ref dr),some (.ref md),o3,o4,none])(_:eB H H2)(_:H2 md=some (.lst xs))(_:Paired (iC (del H2 [md])) xs ((es.take i).map (i5 ds))):HV H es ds sh dr md i σ H2
inductive Ip (H:Hp)(n:Nat)(ds:List Pk)(sh dr md:Addr)(o3 o4:Option V)(i:Nat)(σ:L2.St)(H2:Hp):Prop
 |mk (xs:List V)(es:List En)(o5:Option V)(_:σ=[some (.ref sh),some (.ref dr),some (.ref md),o3,o4,o5])(_:eB H H2)(_:H2 md=some (.lst xs))(_:Paired (iC (del H2 [md])) xs es)(_:pU ds es i)(_:es.length≤n+i):Ip H n ds sh dr md o3 o4 i σ H2
section
variable {P:Program}{w:World}{K:W.Frag}{mg:Str→Option Value}{base:Heap}{f:Addr}{fd:FuncData}
theorem w6:eG ["_law_shelf","_law_drawn","_law_made","_law_entry","_law_needs","_law_part"] ["_law_shelf","_law_drawn"] (eA oE):=i8
theorem BT {g:Addr}{gd:FuncData}(F:iL K "_law_made_fit" "_law_made_fit" oE f fd)(T:AE K mg)(G:fb P w K mg base eZ 1 g gd ["_law_need","_law_drawn"] qH)(bG:gs K gd ["_law_need","_law_drawn"] [])(kG:W.keepIn K (.ref g)=true)(mG:mg "_law_wide" = some (.ref g)):fb P w K mg base eZ 2 f fd ["_law_shelf","_law_drawn"] um:=by
 refine F.ok w6 (fun vs H Q E h=>?_) (fun cdv A outer s H vs Q E hr h=>?_)
 ·obtain⟨sh,dr,es,ds,rfl,_⟩:=h;rfl
 obtain⟨sh,dr,es,ds,rfl,⟨xs,hx,b1⟩,c7,b2,a7,dc,bv,O,q⟩:=h;have hu:=gc hr;refine⟨_,(dX (eF (i:=2) w6.nd rfl (Or.inl rfl) (gf ee)) (dX (fN PassesOwn.never rfl (fh (pv 0)) (eK (i:=3) w6.nd rfl (Or.inl rfl)) (dX (eF (i:=4) w6.nd rfl (Or.inl rfl) (iP jb rfl T.list boot_list (dU (eO eQ (pv 3) ef (fun _ _=>rfl)) ee))) (dX (gj (gu lN (fL hu (pv 1) (eO eQ (pv 3) ef (fun _ _=>rfl)) (fun _ _=>rfl)) (eO eQ (pv 3) ef (fun _ _=>rfl)) (gJ _)) (eg (vN (i:=4) (N':=["_law_need","_law_drawn"]) (n:=1) (js:=[1]) rfl (ib.one (c:=s.heap.objs.size+1) (y:="_law_drawn") rfl rfl (by decide +kernel) rfl (by decide +kernel) (by decide +kernel) rfl rfl rfl rfl rfl) (gF (by decide)) w6.nd rfl rfl (fh (pv 4)) (fun C Y H2 fp=>eK (i:=0) CU rfl (Or.inl rfl)) (fun C Y H2 fp=>iH) (fun C Y H2 fp=>fw G hr rfl mG kG bG .nil eP (dU (pv 0) (dU (pv 1) ee))))) ff) (eg (fU (je PySem.F.plainAttrs_list PySem.F.slot_list_append PySem.F.type_list_append gq (pv 2) (dU (ge (dU (eO eQ (pv 3) ef (fun _ _=>rfl)) (dU (eO eQ (pv 3) ef (fun _ _=>rfl)) (dU (pv 4) ee)))) ee))))))) (dX (fN PassesOwn.never rfl (fh (gf (dU gX (dU gX (dU gX (dU gX ee)))))) (eK (i:=5) w6.nd rfl (Or.inl rfl)) (eg (gj (gu (qg hr.units) (ge (dU (pv 5) (dU (fL hu (pv 1) (pv 5) (fun _ _=>rfl)) ee))) (ik (N':=["_law_entry"]) (n:=1) (js:=[]) rfl (ib.closed (by decide +kernel) (by decide +kernel) rfl (by decide +kernel) rfl) (gF (by decide)) (fh (pv 2)) (fun C Y H2 fp=>eK (i:=0) CV rfl (Or.inl rfl)) (fun C Y H2 fp=>iH) (fun C Y H2 fp=>ge (dU (eO (eQ:ES _ (uI K)) (pv 0) ef (fun _ _=>rfl)) (dU (eO (eQ:ES _ (uI K)) (pv 0) ef (fun _ _=>rfl)) ee)))) (by with_unfolding_all rfl)) (eg (fU (je PySem.F.plainAttrs_list PySem.F.slot_list_append PySem.F.type_list_append gq (pv 2) (dU (ge (dU (pv 5) (dU (fL hu (pv 1) (pv 5) (fun _ _=>rfl)) (dU (gf ee) ee)))) ee)))) ff))) (eg (eR (pv 2)))))),?_⟩;have lx:=Paired.length b1;refine⟨(by show 0≤sizeLine;decide),fun p ap=>?_⟩;have s1:=eo ap (.lst []);refine⟨_,rfl,sh,rfl,⟨_,eX.of (s1 _ _ hx)⟩,fR (K:=K) (a:=sh) (xs:=xs) (HV H es ds sh dr p) ⟨[],none,none,rfl,s1,dW,.nil⟩ (by rintro i σ H2 _ ⟨_,_,_,_,Y,_⟩;exact eX.of (Y _ _ hx)) ?_ ?_⟩
 ·rintro i x σ H2 hi ⟨ys,o3,o4,rfl,Y,ah,ag⟩;obtain⟨e,bf,eq,ea,zs,rfl,cl,c6,a9⟩:=Paired.Ju b1 hi;have dd:i<es.length:=(af.mp bf).1;have ad:=aj bf;have ht:(es.take (i+1)).map (i5 ds)=(es.take i).map (i5 ds)++[i5 ds e]:=by rw[aQ,bf,aw];rfl
  have g1:=Y _ _ cl;refine⟨_,rfl,eq,_,_,_,rfl,rfl,ia.of g1,rfl,ea,_,rfl,.inl (eX.of (Y _ _ c6)),fun nl al=>?_⟩;have S:=eo al (.lst zs);have L:=Y.trans S;have bq:upd H2 nl (.lst zs) nl=some (.lst zs):=dW;have I:=S _ _ ah;have bd:nl≠p:=Ne.symm (d0 ah al);have aa:Paired (iC (del (upd H2 nl (.lst zs)) [p])) ys ((es.take i).map (i5 ds)):=Paired.Ja ag fun _ _ y=>iC.same (eB.del S _) y;generalize upd H2 nl (.lst zs)=H3 at *;have ly:=Paired.length ag;rw[ab,aN]at ly;obtain⟨v,hv,_⟩:=O.get (a7 e ad).1;have J:=iF e.1 ds;rw[hv]at J;have a0:hJ H3 dr (.str e.1) (some (.int v)):=by
   have:=hJ.k (k:=Sum.inr e.1) (L _ _ bv);rw[J]at this;exact this
  have go:∀(a8:List Nd) (M:Addr) (us:List V) (m:Hp) (o:Option V),i5 ds e=(e.1,e.2.1,a8)→eB H3 m→m M=some (.lst us)→M≠p→Paired (fA (del m [p])) us a8→∀t,m t=none→
    HV H es ds sh dr p (i+1) [some (.ref sh),some (.ref dr),some (.ref p),some (.ref eq),some (.ref M),none] (upd (upd m t (.tup [.str e.1,.int e.2.1,.ref M])) p (.lst (ys++[.ref t]))):=fun a8 M us m o em s4 cp nn Z t l=>by
   have U:=eo l (.tup [.str e.1,.int e.2.1,.ref M]);have a5:t≠p:=Ne.symm (d0 (s4 _ _ I) l);refine⟨ys++[.ref t],_,_,rfl,eB.upd (L.trans (s4.trans U)) ap,dW,?_⟩;rw[ht,iU (by simp),em];refine Paired.snoc (Paired.Ja aa fun _ _ y=>iC.same (eB.del (s4.trans U) _) y) ⟨t,M,us,rfl,?_,?_,Paired.Ja Z fun _ _ y=>fA.same (eB.del U _) y⟩
   ·rw[el (by simpa using a5)];exact dW
   ·rw[el (by simpa using nn)];exact U _ _ cp
  refine⟨_,rfl,_,rfl,eq,_,_,_,rfl,rfl,ia.of (S _ _ g1),rfl,dr,_,rfl,a0,_,rfl,eq,_,_,_,rfl,rfl,ia.of (S _ _ g1),rfl,rfl,_,rfl,mn (fun c=>?_) (fun c=>?_)⟩
  ·have ev:v=e.2.1:=by
    have:=bc c;injection this
   have em:i5 ds e=(e.1,e.2.1,e.2.2.map (io ds)):=by unfold i5;rw[if_pos (by rw[hv,ev])]
   have lz:=Paired.length a9
   refine⟨_,rfl,nl,rfl,⟨_,eX.of bq⟩,gy (xs:=zs) (fun D j us m=>Paired (fA (del m [D])) us ((e.2.2.take j).map (io ds))∧m D=some (.lst us)∧eB H3 m∧H3 D=none) (fun D O=>⟨.nil,dW,eo O _,O⟩) (by
     rintro D j us m hj ⟨X,R,B,k4⟩;refine⟨eX.of (B _ _ bq),R,?_⟩;rw[Paired.length X,ab]
     exact eE (bj (List.length_take_le' _ _) (bj (b2 e ad).few (by decide)))) ?_ ?_⟩
   ·rintro D j x us m hj ⟨X,R,B,k4⟩;obtain⟨n,b9,hn⟩:=Paired.Ju a9 hj;have bl:(e.2.2.take (j+1)).map (io ds)=(e.2.2.take j).map (io ds)++[io ds n]:=by rw[aQ,b9,aw];rfl
    unfold iJ mT;dsimp only;rw[if_pos rfl];refine⟨_,rfl,_,rfl,_,dr,n,ds,rfl,hn.same (L.trans B),(L.trans B) _ _ bv,O,(a7 e ad).2.2 n (aj b9),fun r H5 U cx co=>?_⟩;have cv:r≠D:=Ne.symm (d0 R cx);refine⟨U _ _ R,?_,dW,eB.upd (B.trans U) k4,k4⟩;rw[iU (by simp),bl];refine Paired.snoc (Paired.Ja X fun _ _ y=>fA.same (eB.del U _) y) ⟨r,rfl,?_⟩;rw[el (by simpa using cv)];exact co
   ·rintro D us m ⟨X,R,B,k4⟩;rw[lz,aF]at X;have ch:D≠p:=Ne.symm (d0 I k4);refine⟨_,rfl,.inl ⟨rfl,_,eX.of (B _ _ I)⟩,_,rfl,eq,_,_,_,rfl,rfl,ia.of (B _ _ (S _ _ g1)),rfl,_,rfl,eq,_,_,_,rfl,rfl,ia.of (B _ _ (S _ _ g1)),rfl,_,rfl,(by show 3≤sizeLine;decide),fun t l=>?_⟩;refine⟨p,ys,_,rfl,rfl,(eo l _) _ _ (B _ _ I),eE (by lia),go _ D us m none em B R ch ?_ t l⟩;have cy:∀b o,del m [D] b=some o→(∀zs,o≠.lst zs)→del m [p] b=some o:=fun b o hb no=>by
     have nb:b∉[D]:=fun y=>by rw[fq y]at hb;cases hb
     rw[el nb]at hb
     rw[el (by
      simp only[ai];rintro rfl;rw[B _ _ I]at hb;cases hb
      exact no _ rfl)]
     exact hb
    exact Paired.Ja X (by rintro _ _ ⟨z1,z2,z3⟩;exact⟨z1,z2,cy _ _ z3 fun _ y=>nomatch y⟩)
  ·have em:i5 ds e=(e.1,e.2.1,e.2.2):=by
    unfold i5;rw[if_neg (fun z=>c (ao (by rw[hv]at z;injection z with z;rw[z])))]
   refine⟨_,rfl,.inl ⟨rfl,_,eX.of I⟩,_,rfl,eq,_,_,_,rfl,rfl,ia.of (S _ _ g1),rfl,_,rfl,eq,_,_,_,rfl,rfl,ia.of (S _ _ g1),rfl,_,rfl,(by show 3≤sizeLine;decide),fun t l=>?_⟩;refine⟨p,ys,_,rfl,rfl,(eo l _) _ _ I,eE (by lia),go _ nl zs H3 none em (eB.refl _) bq bd ?_ t l⟩;have sd:eB H (del H3 [p]):=fun b o hb=>by
    rw[el (by simpa using d0 hb ap)];exact L _ _ hb
   exact Paired.Ja a9 fun _ _ y=>fA.same sd y
 rintro σ H2 ⟨ys,o3,o4,rfl,Y,ah,ag⟩;rw[lx,aF]at ag;refine⟨(by show 4≤sizeLine;decide),fun lp cd=>?_⟩;have S:=eo cd (.lst [.str "ashenashenashen",.str "as",.str "",.str "ashenashxnashen"]);have b8:upd H2 lp (.lst [.str "ashenashenashen",.str "as",.str "",.str "ashenashxnashen"]) lp=some (.lst (gU.map V.str)):=dW;have I:=S _ _ ah;have c8:lp≠p:=Ne.symm (d0 ah cd);have aa:Paired (iC (del (upd H2 lp (.lst [.str "ashenashenashen",.str "as",.str "",.str "ashenashxnashen"])) [p])) ys (es.map (i5 ds)):=Paired.Ja ag fun _ _ y=>iC.same (eB.del S _) y;have L:=Y.trans S;generalize upd H2 lp (.lst [.str "ashenashenashen",.str "as",.str "",.str "ashenashxnashen"])=H3 at *;refine⟨lp,rfl,⟨_,eX.of b8⟩,fR (K:=K) (a:=lp) (xs:=gU.map V.str) (fun i σ m=>Ip H es.length ds sh dr p o3 o4 i σ m∧m lp=some (.lst (gU.map V.str))) ⟨⟨ys,_,none,rfl,L,I,aa,u4 O c7 b2 a7,by rw[ab];exact aq _⟩,b8⟩ (by rintro i σ m _ ⟨_,h⟩;exact eX.of h) ?_ ?_⟩
 ·rintro i x σ m hi ⟨⟨us,N,o5,rfl,s4,bx,Z,hM,b5⟩,b7⟩;rw[ae]at hi;obtain⟨y,hy,rfl⟩:=ax.mp hi;have da:i<4:=(af.mp hy).1;obtain⟨d,hd,rfl⟩:∃d,ds[i]?=some d∧d.1=y:=by
   rw[←O.pt,ae]at hy;exact ax.mp hy
  have b6:=aj hd;have hv:ip ds d.1=some d.2:=j8 O.nd b6;have J:=iF d.1 ds;rw[hv]at J;have a0:∀{H':Hp},eB H H'→hJ H' dr (.str d.1) (some (.int d.2)):=fun {H'} e=>by
   have:=hJ.k (k:=Sum.inr d.1) (e _ _ bv);rw[J]at this;exact this
  have c2:d.1∈gU:=by rw[←O.pt];exact av.mpr ⟨d,b6,rfl⟩
  have lu:=Paired.length Z;refine⟨_,rfl,_,rfl,_,rfl,dr,_,rfl,a0 s4,(by show 2≤sizeLine;decide),fun kt cs=>?_⟩;have U:=eo cs (.tup [.str d.1,.int d.2]);have bm:=U _ _ bx;have b4:=U _ _ b7;have cn:upd m kt (.tup [.str d.1,.int d.2]) kt=some (.tup [.str d.1,.int d.2]):=dW;have a4:Paired (iC (del (upd m kt (.tup [.str d.1,.int d.2])) [p])) us N:=Paired.Ja Z fun _ _ y=>iC.same (eB.del U _) y;have c1:=s4.trans U;generalize upd m kt (.tup [.str d.1,.int d.2])=H5 at *
  refine⟨_,rfl,p,rfl,⟨_,eX.of bm⟩,gy (xs:=us) (fun D j vs H6=>Paired (fj (del H6 [D])) vs ((N.take j).map eL)∧H6 D=some (.lst vs)∧eB H5 H6∧H5 D=none) (fun D O=>⟨.nil,dW,eo O _,O⟩) (by
    rintro D j vs H6 hj ⟨X,R,B,k4⟩;refine⟨eX.of (B _ _ bm),R,?_⟩;rw[Paired.length X,ab,aN]
    exact eE (by lia)) ?_ ?_⟩
  ·rintro D j x vs H6 hj ⟨X,R,B,k4⟩;obtain⟨e,c4,q0,ea,zs,rfl,g1,_⟩:=Paired.Ju a4 hj;have bl:(N.take (j+1)).map eL=(N.take j).map eL++[eL e]:=by rw[aQ,c4,aw];rfl
   have g2:=B _ _ (eU _ _ _ _ g1);unfold iJ mT;dsimp only;rw[if_pos rfl];refine⟨_,rfl,q0,_,_,_,rfl,rfl,ia.of g2,rfl,_,rfl,q0,_,_,_,rfl,rfl,ia.of g2,rfl,(by show 2≤sizeLine;decide),fun t l=>?_⟩;have s7:=eo l (.tup [.str e.1,.int e.2.1]);have c9:t≠D:=Ne.symm (d0 R l);refine⟨s7 _ _ R,?_,dW,eB.upd (B.trans s7) k4,k4⟩;rw[iU (by simp),bl];refine Paired.snoc (Paired.Ja X fun _ _ y=>fj.same (eB.del s7 _) y) ⟨t,rfl,?_⟩;rw[el (by simpa using c9)];exact dW
  ·rintro D vs H6 ⟨X,R,B,k4⟩;rw[lu,aF]at X;have c3:∀k∈N.map eL,ij k.1:=fun k hk=>by
    obtain⟨e,he,rfl⟩:=av.mp hk;exact(hM.ok e he).1.pt
   have b3:=nQ c2;have a6:=c1.trans B;have a3:Paired (iC (del H6 [p])) us N:=Paired.Ja a4 fun _ _ y=>iC.same (eB.del B _) y;refine⟨sO d,(N.map eL).map sO,fj.rep ⟨kt,rfl,B _ _ cn⟩,.lst R (nA (fun _ _ y=>fj.rep y) (Paired.Ja X fun _ _ y=>fj.same (eU _ _) y)),(oN b3).1,rG c3,(oN b3).2,_,rfl,?_⟩;rw[if_pos rfl,vt];have an:=B _ _ bm;refine mn (fun c=>?_) (fun c=>?_)
   ·have cz:d∉N.map eL:=fun z=>by rw[ao z]at c;cases c
    refine⟨_,rfl,.inl ⟨rfl,_,eX.of an⟩,_,rfl,_,rfl,_,rfl,dr,_,rfl,a0 a6,(by show 0≤sizeLine;decide),fun nl al=>⟨(by show 3≤sizeLine;decide),fun t l=>?_⟩⟩;have a1:=eo al (.lst []);have a2:=eo l (.tup [.str d.1,.int d.2,.ref nl]);have as:=a1.trans a2;have ct:=as _ _ an;have bd:nl≠p:=Ne.symm (d0 an al);have a5:t≠p:=Ne.symm (d0 (a1 _ _ an) l);refine⟨p,us,_,rfl,rfl,ct,eE (by lia),⟨us++[.ref t],N++[(d.1,d.2,[])],_,rfl,eB.upd (a6.trans as) ap,dW,?_,hM.add O hd cz,by rw[aE,aR];lia⟩,?_⟩
    ·rw[iU (by simp)];refine Paired.snoc (Paired.Ja a3 fun _ _ y=>iC.same (eB.del as _) y) ⟨t,nl,[],rfl,?_,?_,.nil⟩
     ·rw[el (by simpa using a5)];exact dW
     ·rw[el (by simpa using bd)];exact a2 _ _ dW
    ·rw[dY c8];exact as _ _ (B _ _ b4)
   ·have c5:d∈N.map eL:=by
     by_cases z:d∈N.map eL
     ·exact z
     ·exact absurd (by rw[au z];rfl) c
    exact⟨⟨us,N,_,rfl,a6,an,a3,hM.next hd c5,by lia⟩,B _ _ b4⟩
 ·rintro σ m ⟨⟨us,N,o5,rfl,s4,bx,Z,hM,b5⟩,b7⟩;have e4:(gU.map V.str).length=4:=rfl;rw[e4]at hM b5;exact⟨_,rfl,q p N m s4 ⟨us,bx,Paired.Ja Z fun _ _ y=>iC.same (eU _ _) y⟩ hM (by lia)⟩
end
end FB
namespace FB
open PySem L2 PyProof.Rows
variable {L:ic}{ds:List Pk}
theorem zV {α:Type} [DecidableEq α] {a x:α}{l:List α}(h:a≠x):(a::l).idxOf x=l.idxOf x+1:=by
 rw[List.idxOf_cons,beq_false_of_ne h];rfl
theorem i9 {α:Type} [DecidableEq α] {p:α→Bool}{x y:α}(hx:p x=true):∀{l:List α},y∈(l.filter p).take ((l.filter p).idxOf x)→y∈l.take (l.idxOf x)
 |[],h=>h
 |a::l,h=>by
  by_cases e:a=x
  ·subst e;rw[aG,if_pos hx,cw]at h;cases h
  ·rw[zV e,List.take_succ_cons];rw[aG]at h
   split at h
   ·rw[zV e,List.take_succ_cons]at h;rcases ak.mp h with z | z
    ·rw[z];exact bh ..
    ·exact aZ _ (i9 hx z)
   ·exact aZ _ (i9 hx h)
theorem oR {x y:Str}:∀{ns:List Nd},y∈(eJ ns).take ((eJ ns).idxOf x)→y∈(ns.map (·.1)).take ((ns.map (·.1)).idxOf x)
 |[],h=>h
 |n::ns,h=>by
  rw[eJ]at h;rw[aD];by_cases e:n.1=x
  ·rw[e,cw]at h;cases h
  ·rw[zV e,List.take_succ_cons]at h ⊢;rcases ak.mp h with z | z
   ·rw[z];exact bh ..
   ·exact aZ _ (oR (i9 (by simpa using fun z=>e z.symm) z))
theorem xY {x:Str}{A B:List Str}(h:x∉A):(A++x::B).idxOf x=A.length:=by
 rw[List.idxOf_append,if_neg h,cw,Nat.zero_add]
theorem uv {c:dZ}{pk:Nat}{n:Nd}{A B:List Nd}{k:Pk}{v:Int}{ah:List Pk}(r:∀k,c.has pk k→k.1∈c.start→∀n,(c.needs none)[((c.needs none).map (·.1)).idxOf k.1]?=some n→∀kk∈c.KU n k,∃e∈L,∀j,c.has e.1 j→j=kk∨c.has (c.KW pk k.1) j)(b:c.sn=A++n::B)(d:n.1∉A.map (·.1))(s:c.has pk k)(a:k.1=n.1)(w:v∈jy c.es n)(g:k.2<v)(x:∀j,c.has pk j→j.1∈A.map (·.1)→j∈ah):∃l∈c.lns L,∀p∈l.1,p∈ah++[(n.1,v)]:=by
 have o:c.needs none=A++n::B:=b;have m:((A++n::B).map (·.1)).idxOf k.1=A.length:=by
  rw[a,aw,aD,xY d,ab]
 have i:k.1∈c.start:=by
  unfold dZ.start;rw[gK,a];exact⟨n,by rw[b];simp,rfl⟩
 obtain⟨e,t,h⟩:=r k s i n (by rw[o,m,aW (aq _),bK];rfl) (k.1,v) (by
  unfold dZ.KU
  exact av.mpr ⟨v,aV.mpr ⟨w,ao g⟩,rfl⟩)
 refine⟨c.ln e,av.mpr ⟨e,t,rfl⟩,fun p hp=>?_⟩;rcases h p (dZ.JB.mp hp) with z | z
 ·rw[z,a];simp
 ·obtain⟨h1,h2⟩:=dZ.KY.mp z;unfold dZ.start at h2;have:=oR h2;rw[b,m,aw]at this;have q:(A.map (·.1)++(n::B).map (·.1)).take A.length=A.map (·.1):=by
   rw[←ab (as:=A) (f:=(·.1)),List.take_left]
  rw[q]at this;exact aJ _ (x p h1 this)
theorem sS {c:dZ}(b:gC c L)(a:mz c.es c.sn ds){l:Ln}(d:l∈c.lns L)(h:∀p∈l.1,p∈ds):False:=by
 obtain⟨i,hi⟩:=az.mp d;exact CG (zM b) a i l hi h
theorem B8 {c:dZ}(d:gC c L)(a:mz c.es c.sn ds){e:Nat×Rs}(g:L.getLast?=some e)(b:e.1=0):False:=by
 refine sS d a (av.mpr ⟨e,List.mem_of_getLast? g,rfl⟩) fun p hp=>?_;have:=(dZ.JB.mp hp).2;rw[b]at this;simp at this
theorem xH {c:dZ}{pk:Nat}{n:Nd}{A B:List Nd}{k:Pk}{v:Int}(hL:gC c L)(hf:mz c.es c.sn ds)(hs:∀k,c.has pk k→k.1∈c.start→∀n,(c.needs none)[((c.needs none).map (·.1)).idxOf k.1]?=some n→∀kk∈c.KU n k,∃e∈L,∀j,c.has e.1 j→j=kk∨c.has (c.KW pk k.1) j)(hsn:c.sn=A++n::B)(hk:c.has pk k)(hkn:k.1=n.1)(hv:(n.1,v)∈ds)(hA:∀j,c.has pk j→j.1∈A.map (·.1)→j∈ds):¬k.2<v:=fun hlt=>by
 by_cases hna:n.1∈A.map (·.1)
 ·have:=hf.one k (hA k hk (hkn▸hna)) _ hv hkn;rw[this]at hlt;exact Int.lt_irrefl _ hlt
 ·obtain⟨j,hj,e1,e2⟩:=hf.met none (fun _ z=>nomatch z) n (by show n∈c.sn;rw[hsn];simp);have ej:=hf.one j hj _ hv e1
  obtain⟨l,hl,h⟩:=uv (ah:=ds) hs hsn hna hk hkn (v:=v) (by
   unfold jy;rw[List.mem_mergeSort]
   exact lP.mpr ⟨hf.key _ hv,by rw[ej]at e2;exact e2⟩) hlt hA
  refine sS hL hf hl fun p hp=>?_;rcases ay.mp (h p hp) with z | z
  ·exact z
  ·rw[ai.mp z];exact hv
end FB
namespace FB
open PySem L2 PyProof.Rows
seal lW PS PE PT PA
theorem HM {ds:List Pk}{es:List En}{sn:List Nd}(g:ni ds)(d:pU ds es 4)(p:∀n∈sn,AJ ds n):mz es sn ds:=by
 have o:ds.length=4:=by rw[←ab (as:=ds) (f:=(·.1)),g.pt];rfl
 have a:∀k∈ds,k∈es.map eL:=fun k a=>d.dr k (by rw[List.take_of_length_le (dz o)];exact a);have key:∀{n:Nd},AJ ds n→∃j∈ds,j.1=n.1∧jV n j.2=true:=fun {n} h=>by
  obtain⟨v,q,hi⟩:=h;exact⟨(n.1,v),uh q,rfl,hi⟩
 refine⟨fun j r k a e=>?_,a,fun w i n l=>?_⟩
 ·have h1:=j8 g.nd r;have h2:=j8 g.nd a;rw[e,h2]at h1;exact Prod.ext e (Option.some.inj h1).symm
 ·cases w with
  |none=>exact key (p n l)
  |some k=>
   obtain⟨e,m,rfl⟩:=av.mp (a k (i k rfl));have b:n∈gN es (eL e):=l;rw[j6 d.nd m]at b;exact key (d.met e m (i _ rfl) n b)
abbrev Ih:List Str:=["_law_script","_law_shelf","_law_start","_law_drawn","_law_seed","_law_part","_law_found","_law_there","_law_pick","_law_need"]
theorem uw:eG Ih ["_law_script"] (eA mY):=i8
structure IU (H:Hp)(c:dZ)(L:ic)(pk:Nat)(ds:List Pk)(st dr tf pa ln:Addr):Prop where
 st:gB H st c.sn
 dr:Rd H dr (.dK (mZ ds))
 tf:H tf=some (.tup [.ref pa,.ref ln])
 pa:mR H pa (c.listed pk)
 s4:∀n∈c.sn,n.1∈gU
 e64:c.es.length<64
 D:ni ds
 df:mz c.es c.sn ds
 led:gC c L
 fit:mz c.es c.sn (c.listed pk)
 one:c.JR pk
 shown:∀k,c.has pk k→k.1∈c.start→∀n,(c.needs none)[((c.needs none).map (·.1)).idxOf k.1]?=some n→∀kk∈c.KU n k,∃e∈L,∀j,c.has e.1 j→j=kk∨c.has (c.KW pk k.1) j
def EG (P:Program)(w:World)(K:W.Frag)(mg:Str→Option Value)(base:Heap)(f:Addr)(cdv:Value)(A:Around)(outer:List Env)(s:Shared)(H:Hp)(Q:VK)(E:XK):Prop:=
 ∃tR:TS,lW (tI eZ P w K mg base Ih "law" (eA mY) f cdv A outer s H E).nox ((gi mY).drop 11) tR∧
   ∀(c:dZ) (L:ic) (pk:Nat) (ds:List Pk) (st dr tf pa ln:Addr) (H1:Hp) (o0 o1 o4 o5:Option V),IU H1 c L pk ds st dr tf pa ln→
    tR {nx:=fun _ H'=>Q .non H',rt:=Q} [o0,o1,some (.ref st),some (.ref dr),o4,o5,some (.ref tf),none,none,none] H1
section
variable {P:Program}{w:World}{K:W.Frag}{mg:Str→Option Value}{base:Heap}{f:Addr}{fd:FuncData}{cdv:Value}{A:Around}{outer:List Env}{s:Shared}{H:Hp}{Q:VK}{E:XK}
theorem FO (hr:gE 9 (A.deeper (envOfC "law" (eA mY) s.heap.objs.size f cdv)))(q:∀H',Q (.bl true) H'):EG P w K mg base f cdv A outer s H Q E:=by
 have t:=gc hr;refine⟨_,(dX (eF (i:=7) uw.nd rfl (Or.inl rfl) gH) (dX (fN PassesOwn.never rfl (fh (eO eQ (pv 6) ef (fun _ _=>rfl))) (eK (i:=8) uw.nd rfl (Or.inl rfl)) (eg (iB t (pv 7) (eO eQ (pv 8) ef (fun _ _=>rfl)) (eO eQ (pv 8) ef (fun _ _=>rfl)) rfl))) (dX (fN PassesOwn.never rfl (fh (pv 2)) (eK (i:=9) uw.nd rfl (Or.inl rfl)) (dX (gj (gu zo (fL t (pv 7) (eO eQ (pv 9) ef (fun _ _=>rfl)) (fun _ _=>rfl)) (fL t (pv 3) (eO eQ (pv 9) ef (fun _ _=>rfl)) (fun _ _=>rfl)) (gJ _)) (eg (eR mF)) ff) (eg (gj (gu zn (fL t (pv 7) (eO eQ (pv 9) ef (fun _ _=>rfl)) (fun _ _=>rfl)) (fL t (pv 3) (eO eQ (pv 9) ef (fun _ _=>rfl)) (fun _ _=>rfl)) (gJ _)) jd ff)))) (eg (eR mF))))),?_⟩;intro c L e ds st dr tf pa ln H1 o0 o1 o4 o5 M;obtain⟨xs,hx,hp⟩:=M.pa;have G:=ku M.one;have ag:(c.listed e).length<64:=bz mJ M.e64;have lx:=Paired.length hp;refine fun l p=>?_;have T:=eo p (.dK []);refine⟨_,rfl,tf,_,_,_,rfl,rfl,ia.of (T _ _ M.tf),rfl,pa,rfl,⟨xs,eX.of (T _ _ hx)⟩,fR (K:=K) (a:=pa) (xs:=xs) (fun i σ H2=>∃O,σ=[o0,o1,some (.ref st),some (.ref dr),o4,o5,some (.ref tf),some (.ref l),O,none]∧eB H1 H2∧H2 l=some (.dK (mZ ((c.listed e).take i)))) ⟨none,rfl,T,dW⟩ (by rintro i σ H2 _ ⟨_,_,s,_⟩;exact eX.of (s _ _ hx)) ?_ ?_⟩
 ·rintro i x σ H2 hi ⟨O,rfl,m,h2⟩;obtain⟨k,J,kq,rfl,S⟩:=Paired.Ju hp hi;have F:=m _ _ S;have o:(c.listed e).take (i+1)=(c.listed e).take i++[k]:=by rw[aQ,J];rfl
  have Y:(((c.listed e).take i++[k]).map (·.1)).Nodup:=by rw[←o,cj];exact iS _ G
  refine⟨_,rfl,kq,_,_,_,rfl,rfl,ia.of F,rfl,_,rfl,_,rfl,kq,_,_,_,rfl,rfl,ia.of F,rfl,l,_,rfl,ki.k (k:=Sum.inr k.1) h2 (eE (by unfold mZ;rw[ab,aN];lia)),?_⟩;refine⟨_,rfl,eB.upd m p,?_⟩;have hm:=kz [k] ((c.listed e).take i) Y;rw[dW,o,←hm];rfl
 rintro σ H2 ⟨O,rfl,m,h2⟩;rw[lx,aF]at h2;obtain⟨zs,hz,X⟩:=M.st;refine⟨_,rfl,st,rfl,⟨zs,eX.of (m _ _ hz)⟩,fR (K:=K) (a:=st) (xs:=zs) (fun i σ d=>∃o9,σ=[o0,o1,some (.ref st),some (.ref dr),o4,o5,some (.ref tf),some (.ref l),O,o9]∧d=H2∧∀j,c.has e j→j.1∈(c.sn.take i).map (·.1)→j∈ds) ⟨none,rfl,rfl,(fun j _ I=>by simp at I)⟩ (by rintro i σ d _ ⟨_,_,rfl,_⟩;exact eX.of (m _ _ hz)) ?_ ?_⟩
 ·rintro i x σ d hi ⟨o9,rfl,rfl,y⟩;obtain⟨n,hn,N,rfl,Z⟩:=Paired.Ju X hi;have o:c.sn.take (i+1)=c.sn.take i++[n]:=by rw[aQ,hn];rfl
  have U:c.sn=c.sn.take i++n::c.sn.drop (i+1):=by
   have:=dA (i+1) c.sn;rw[o,bu]at this;exact this.symm
  have R:=m _ _ Z;have h:=aj hn;obtain⟨k,J,b,ad⟩:=M.fit.met none (fun _ z=>nomatch z) n h;have C:=dZ.JB.mp J;obtain⟨v,hv,g⟩:=M.D.get (M.s4 n h);have F:hJ d l (.str n.1) (some (.int k.2)):=by
   have:=hJ.k (k:=Sum.inr n.1) h2;rw[iF n.1 (c.listed e),←b,j8 G J,b]at this;exact this
  have g2:hJ d dr (.str n.1) (some (.int v)):=by
   have:hJ d dr (kV (Sum.inr n.1)) (eN (mZ ds) (Sum.inr n.1)):=.inl ⟨_,_,m.toF.rd M.dr,rfl,rfl⟩;rw[iF n.1 ds,hv]at this;exact this
  have B:=xH M.led M.df M.shown U C b g y;refine⟨_,rfl,_,rfl,N,_,_,_,rfl,rfl,ia.of R,rfl,l,_,rfl,F,_,rfl,_,rfl,N,_,_,_,rfl,rfl,ia.of R,rfl,dr,_,rfl,g2,_,_,rfl,rfl,_,rfl,mn (fun _=>q d) (fun c1=>?_)⟩;have aa:k.2≤v:=Int.not_lt.mp fun z=>c1 (ao z);have ev:k.2=v:=Int.le_antisymm aa (Int.not_lt.mp B);refine⟨_,rfl,_,rfl,N,_,_,_,rfl,rfl,ia.of R,rfl,l,_,rfl,F,_,rfl,_,rfl,N,_,_,_,rfl,rfl,ia.of R,rfl,dr,_,rfl,g2,_,_,rfl,rfl,_,rfl,mn (fun c2=>(B (bc c2)).elim) (fun _=>?_)⟩;refine⟨_,rfl,rfl,fun j I r=>?_⟩;rw[o,aw]at r;rcases ay.mp r with z | z
  ·exact y j I z
  ·rw[M.one j k I C ((show j.1=n.1 by simpa using z).trans b.symm),show k=(n.1,v) from Prod.ext b ev];exact g
 ·rintro σ d ⟨o9,rfl,rfl,_⟩;exact q d
inductive C6 (K:W.Frag)(PP:Addr)(vs:List V)(H:Hp)(Q:VK)(E:XK):Prop
 |mk (a:Addr)(ns:List Int)(_:vs=[.ref a])(_:eX K H a (ns.map V.int))(_:ns.length≤63)(_:gW Bb yl H PP)(_:∀H',Q (.bl true) H'):C6 K PP vs H Q E
def qQ (K:W.Frag)(PP:Addr):Sp:=C6 K PP
inductive Iz (H:Hp)(sc sh st dr:Addr)(i:Nat)(σ:L2.St)(H2:Hp):Prop
 |mk (ds:List Pk)(z:Int)(o5:Option V)(_:σ=[some (.ref sc),some (.ref sh),some (.ref st),some (.ref dr),some (.int z),o5,none,none,none,none])(_:eB H H2)(_:H2 dr=some (.dK (mZ ds)))(_:ds.map (·.1)=gU.take i)(_:∀d∈ds,d.2∈p6):Iz H sc sh st dr i σ H2
theorem D3 {PP:Addr}(F:iL K "law" "law" mY f fd)(T:AE K mg)(df:Gd P w K mg base eZ 9 "_law_at" ["_law_script","_law_k"] (Bj K))(as:Gd P w K mg base eZ 9 "_law_version_by" ["_law_cell"] sy)(a6:Gd P w K mg base eZ 9 "_law_asked_by" ["_law_script"] (qT K))(b2:Gd P w K mg base eZ 9 "_law_made_fit" ["_law_shelf","_law_drawn"] um)(c7:Gd P w K mg base eZ 9 "_law_wide" ["_law_need","_law_drawn"] qH)(ad:Gd P w K mg base eZ 9 "_law_copy_of" ["_law_shelf"] ur)(a9:Gd P w K mg base eZ 9 "_law_mixed" ["_law_script"] (qN K))(dp:Gd P w K mg base eZ 9 "_law_are_picks" ["_law_found"] kY)(b8:Gd P w K mg base eZ 9 "_law_fits" ["_law_shelf","_law_start","_law_picks"] oh)(cy:Gd P w K mg base eZ 9 "worked_out" ["shelf","start"] (nX PP)):fb P w K mg base eZ 10 f fd ["_law_script"] (qQ K PP):=by
 refine F.ok uw (fun vs H Q E h=>?_) (fun cdv A outer s H vs Q E l h=>?_)
 ·obtain⟨a,ns,rfl,_⟩:=h;rfl
 obtain⟨a,ns,rfl,hS,d3,hT,q⟩:=h;obtain⟨_,_,At,bA,kA,mA⟩:=df.ex;obtain⟨_,_,Vr,bV,cs,mV⟩:=as.ex;obtain⟨_,_,cz,b7,cv,b6⟩:=a6.ex;obtain⟨_,_,Md,bM,kM,mM⟩:=b2.ex;obtain⟨_,_,Wd,bD,kD,mD⟩:=c7.ex;obtain⟨_,_,Mx,bX,kX,mX⟩:=a9.ex;obtain⟨_,_,Cp,bC,kC,mC⟩:=ad.ex;obtain⟨_,_,Ap,bP,kP,mP⟩:=dp.ex;obtain⟨_,_,Lf,bL,kL,mL⟩:=b8.ex;obtain⟨_,_,Wo,bW,kW,mW⟩:=cy.ex;have hu:=gc l;obtain⟨tR,hR,kR⟩:=FO (P:=P) (w:=w) (K:=K) (mg:=mg) (base:=base) (A:=A) (outer:=outer) (cdv:=cdv) (s:=s) (H:=H) (Q:=Q) (E:=E) (f:=f) l q;refine⟨_,(dX (eF (i:=0) uw.nd rfl (Or.inl rfl) (lK nw (pv 0) rF (lI ef))) (dX (eF (i:=0) uw.nd rfl (Or.inl rfl) (fw Mx l rfl mX kX bX .nil eP (dU (pv 0) ee))) (dX (DS (fw cz l rfl b6 cv b7 .nil eP (dU (pv 0) ee)) (oP (n:=2) rfl (gT (eK (i:=1) uw.nd rfl (Or.inl rfl)) (gT (eK (i:=2) uw.nd rfl (Or.inl rfl)) lJ)))) (dX (eF (i:=3) uw.nd rfl (Or.inr rfl) gH) (dX (eF (i:=4) uw.nd rfl (Or.inl rfl) (eW iR (fw At l rfl mA kA bA .nil eP (dU (pv 0) (dU ef ee))) ef)) (dX (fN PassesOwn.never rfl (fh (gf (dU gX (dU gX (dU gX (dU gX ee)))))) (eK (i:=5) uw.nd rfl (Or.inl rfl)) (dX (iB hu (pv 3) (pv 5) (fw Vr l rfl mV cs bV .nil eP (dU (pv 4) ee)) rfl) (eg (eF (i:=4) uw.nd rfl (Or.inl rfl) (eW iR (pv 4) ef))))) (dX (eF (i:=1) uw.nd rfl (Or.inl rfl) (fw Md l rfl mM kM bM .nil eP (dU (pv 1) (dU (pv 3) ee)))) (dX (vN (i:=2) (N':=["_law_need","_law_drawn"]) (n:=1) (js:=[3]) rfl (ib.one (c:=s.heap.objs.size+1) (y:="_law_drawn") rfl rfl (by decide +kernel) rfl (by decide +kernel) (by decide +kernel) rfl rfl rfl rfl rfl) (gF (by decide)) uw.nd rfl rfl (fh (pv 2)) (fun C s2 H2 fp=>eK (i:=0) CU rfl (Or.inl rfl)) (fun C s2 H2 fp=>iH) (fun C s2 H2 fp=>fw Wd l rfl mD kD bD .nil eP (dU (pv 0) (dU (pv 1) ee)))) (dX (eF (i:=6) uw.nd rfl (Or.inl rfl) (fw Wo l rfl mW kW bW .nil eP (dU (fw Cp l rfl mC kC bC .nil eP (dU (pv 1) ee)) (dU (iP jb rfl T.list boot_list (dU (pv 2) ee)) ee)))) (dX (gj (PW.pt (p8 (jw (j3 (fK iD rfl T.isin di (dU (pv 6) (dU (qc rfl T.tuple boot_tuple) ee))))) (p8 (gu CP (fK gQ rfl T.len cF (dU (pv 6) ee)) ef (gJ _)) (oJ (jw (j3 (fw Ap l rfl mP kP bP .nil eP (dU (eO eQ (pv 6) ef (fun _ _=>rfl)) ee)))))))) jd ff) (dX (gj (jw (j3 (fw Lf l rfl mL kL bL .nil eP (dU (pv 1) (dU (pv 2) (dU (eO eQ (pv 6) ef (fun _ _=>rfl)) ee)))))) jd ff) hR))))))))))),?_⟩;obtain⟨m1,e1,l1⟩:=tJ ns none (some 500);refine⟨_,rfl,500,rfl,a,_,rfl,hS,fun p1 c4=>?_⟩;rw[e1];have s1:=eo c4 (.lst (m1.map V.int));refine⟨_,rfl,p1,m1,rfl,eX.of dW,by lia,fun p2 m2 H2 s2 h2 l2=>?_⟩;refine⟨_,rfl,p2,m2,rfl,eX.of h2,by lia,fun t sh st es sn H3 s3 h3 dd c8 b4 cp h4 b9 al cd=>?_⟩;refine⟨t,_,rfl,ia.of h3,rfl,_,_,rfl,_,_,rfl,rfl,?_⟩;have b3:=gW.f ((s1.trans s2).trans s3).toF hT;refine fun I bx=>?_;have s4:=eo bx (.dK []);refine⟨_,rfl,p2,m2,0,rfl,eX.of (s4 _ _ (s3 _ _ h2)),Int.le_refl 0,fun z0=>⟨_,_,rfl,rfl,⟨by decide,by decide⟩,(by show 4≤sizeLine;decide),fun lp dn=>?_⟩⟩;have s5:=eo dn (.lst [.str "ashenashenashen",.str "as",.str "",.str "ashenashxnashen"]);have a8:upd (upd H3 I (.dK [])) lp (.lst [.str "ashenashenashen",.str "as",.str "",.str "ashenashxnashen"]) lp=some (.lst (gU.map V.str)):=dW;have c9:=s5 _ _ (dW (H:=H3) (a:=I) (o:=.dK []));have ch:=s4.trans s5;generalize upd (upd H3 I (.dK [])) lp (.lst [.str "ashenashenashen",.str "as",.str "",.str "ashenashxnashen"])=H5 at *;refine⟨lp,rfl,⟨_,eX.of a8⟩,fR (K:=K) (a:=lp) (xs:=gU.map V.str) (fun i σ H4=>Iz H3 p2 sh st I i σ H4∧H4 lp=some (.lst (gU.map V.str))) ⟨⟨[],_,none,rfl,ch,c9,rfl,(fun d hd=>nomatch hd)⟩,a8⟩ (by rintro i σ H4 _ ⟨_,h⟩;exact eX.of h) ?_ ?_⟩
 ·rintro i x σ H4 hi ⟨⟨ds,z,o5,rfl,s6,B,p,an⟩,ah⟩;rw[ae]at hi;obtain⟨y,hy,rfl⟩:=ax.mp hi;have d2:i<4:=(af.mp hy).1;have et:gU.take (i+1)=gU.take i++[y]:=by rw[aQ,hy];rfl
  refine⟨_,rfl,z,rfl,fun v H7 S c3=>?_⟩;have bq:=S _ _ B;have ld:ds.length≤4:=by
   have:=congrArg List.length p;rw[ab]at this;rw[this];exact List.length_take_le' _ _
  refine⟨_,rfl,_,rfl,I,_,rfl,ki.k (k:=Sum.inr y) bq (eE (by unfold mZ;rw[ab];lia)),?_⟩;refine⟨_,rfl,_,_,rfl,rfl,⟨by decide,by decide⟩,⟨ds++[(y,v)],_,_,rfl,eB.upd (s6.trans S) bx,?_,by rw[aw,p,et];rfl,fun d hd=>?_⟩,?_⟩
  ·have da:((ds++[((y,v):Pk)]).map (·.1)).Nodup:=by
    rw[aw,p];show(gU.take i++[y]).Nodup;rw[←et];exact iS _ v6
   have hm:=kz [((y,v):Pk)] ds da;rw[dW,←hm];rfl
  ·rcases ay.mp hd with z | z
   ·exact an d z
   ·rw[ai.mp z];exact c3
  ·rw[dY (fe (S _ _ ah) bq fun z=>nomatch z)];exact S _ _ ah
 rintro σ H4 ⟨⟨ds,z,o5,rfl,s6,B,p,an⟩,ah⟩;have N:ni ds:=⟨p,an⟩;refine⟨_,rfl,_,rfl,sh,I,es,ds,rfl,dd.same s6,c8,b4,h4,cp,B,N,fun mf G H7 S c5 hM a7=>?_⟩;have a0:=s6.trans S;obtain⟨zs,hz,bm⟩:=b9.same a0;have lz:=Paired.length bm
 refine⟨_,rfl,st,rfl,⟨_,eX.of hz⟩,gy (xs:=zs) (fun D j us H8=>Paired (fA (del H8 [D])) us ((sn.take j).map (io ds))∧H8 D=some (.lst us)∧eB H7 H8∧H7 D=none) (fun D N=>⟨.nil,dW,eo N _,N⟩) (by
   rintro D j us H8 hj ⟨k1,k2,M,k4⟩;refine⟨eX.of (M _ _ hz),k2,?_⟩;rw[Paired.length k1,ab]
   exact eE (bj (List.length_take_le' _ _) (by lia))) ?_ ?_⟩
 ·rintro D j x us H8 hj ⟨k1,k2,M,k4⟩;obtain⟨n,b1,hn⟩:=Paired.Ju bm hj;have cx:(sn.take (j+1)).map (io ds)=(sn.take j).map (io ds)++[io ds n]:=by rw[aQ,b1,aw];rfl
  unfold iJ mT;dsimp only;rw[if_pos rfl];refine⟨_,rfl,_,rfl,_,I,n,ds,rfl,hn.same M,(S.trans M) _ _ B,N,al n (aj b1),fun r H9 s9 dc cl=>?_⟩;have cn:r≠D:=Ne.symm (d0 k2 dc);refine⟨s9 _ _ k2,?_,dW,eB.upd (M.trans s9) k4,k4⟩;rw[iU (by simp),cx];refine Paired.snoc (Paired.Ja k1 fun _ _ y=>fA.same (eB.del s9 _) y) ⟨r,rfl,?_⟩;rw[el (by simpa using cn)];exact cl
 rintro D us H8 ⟨k1,k2,M,k4⟩;rw[lz,aF]at k1;have U:gB H8 D (sn.map (io ds)):=⟨us,k2,Paired.Ja k1 fun _ _ y=>fA.same (eU _ _) y⟩;have O:∀n∈sn.map (io ds),n.1∈gU:=fun n hn=>by
  obtain⟨m,hm,rfl⟩:=av.mp hn;exact al m hm
 have a1:∀n∈sn.map (io ds),AJ ds n:=fun n hn=>by
  obtain⟨m,hm,rfl⟩:=av.mp hn;exact su N (al m hm)
 have dv:(sn.map (io ds)).length≤63:=by rw[ab];exact cd
 generalize sn.map (io ds)=sn' at *;have R:=c5.same M;have Z:∀e∈G,pH e:=fun e he=>(hM.ok e he).1;have bl:∀e∈G,Lw e:=fun e he=>(hM.ok e he).2;refine⟨_,rfl,mf,G,rfl,R,by lia,fun hd H9 s9 c6=>?_⟩;obtain⟨ws,hw,dl⟩:=gB.same s9 U;refine⟨_,rfl,D,ws,rfl,.inl (eX.of hw),fun nd bf=>?_⟩;have sA:=eo bf (.lst ws);have bv:gB (upd H9 nd (.lst ws)) nd sn':=⟨ws,dW,Paired.Ja dl fun _ _ z=>fA.same sA z⟩;have J:=s9.trans sA;have ag:=gW.f (a0.trans (M.trans J)).toF b3;have co:=(S.trans (M.trans J)) _ _ B;have X:=U.same J;have bd:=R.same J;have a2:=c6.same sA;generalize upd H9 nd (.lst ws)=HA at *;refine⟨hd,nd,G,sn',rfl,a2,a7,hM.nd,bv,sU Z (by lia),ag,fun c c1 c2 L hL=>Ce hL (by rw[c1];exact bl),fun c HB tf c1 c2 a5 d4 aa=>?_⟩;subst c1;subst c2;have kB:=GP.tab ag a5;have a3:=HM N hM a1;rcases aa with ⟨L,_,hL,e,hl,h0⟩ | ⟨L,pk,⟨pa,ln,ht,ap,dx⟩,hL,Y,g,dy,b5,a4⟩
 ·exact(B8 hL a3 hl h0).elim
 ·obtain⟨u,hu1,fu⟩:∃u,HA PP=some u∧ud u:=by
   rcases ag with z | ⟨c',z,_⟩
   ·exact⟨_,z,trivial⟩
   ·exact⟨_,z,trivial⟩
  have ct:Rd HB I (.dK (mZ ds)):=a5.rd (jN hu1 fu (.inl co) fun z=>z);refine⟨_,rfl,_,_,_,_,rfl,kJ.tup ht,zR K,_,rfl,gv ?_⟩;refine⟨_,rfl,tf,_,rfl,.inr (ia.of ht),rfl,_,rfl,gv ?_⟩;refine⟨_,rfl,tf,_,_,_,rfl,rfl,ia.of ht,rfl,pa,_,rfl,ap,_,rfl,gv ?_⟩;refine⟨_,rfl,_,rfl,_,rfl,tf,_,_,_,rfl,rfl,ia.of ht,rfl,mf,D,pa,c.es,c.sn,c.listed pk,rfl,bd.k kB,hM.nd,Z,X.k kB,(fun n hn=>nQ (O n hn)),by lia,ap,fun k hk=>(c.mem k).mp (dZ.JB.mp hk).1,ku g,bj mJ (by lia),Co Y (ku g),fun d1 a b d=>Cn g b5 a b d,fun HC sC=>⟨_,rfl,gv ?_⟩⟩;exact kR c L pk ds D I tf pa ln HC _ _ _ _ ⟨(X.k kB).same sC,sC.toF.rd ct,sC _ _ ht,ap.same sC,O,a7,N,a3,hL,Y,g,a4⟩
end
end FB
structure PySem.W.Fast:Prop where
 (tw11797573517171710926 tw2250721697981342782 tw15029587322767159541 tw1984840060281462849 tw11697912213201550431 tw7123786307624239027 tw8104323208613098537 tw8331360456947632105 tw16276761428834988305 tw17989147989816016189 tw16266463670604055676 tw8288436387915202133 tw2233450591464823002 tw12689460371451423616 tw16673254152086383383 tw16900281946989597679 tw17707399189713253777 tw1376870978588995649 tw7261821028894404178 tw953647143296769545 tw10547101642344472702 tw5751748945870021625 tw16949735228980713557 tw153789088985690425 tw9023997165602836246 tw6850272414143893735 tw3999152835187302257 tw18395155177400730330 tw8112478089788127720 tw4027834880882873407 tw4093408956487231198 tw16433214675440575899 tw8509269765413722014 tw9455020466485746536 tw5996117724421706193 tw10516647819629666600 tw3226918281620296532 tw5177963160672816720 tw15839684802100564268 tw16394227715429951723 tw18144169457676892080 tw10858085269773292001 tw16891808594464958885 tw15482623078177961126 tw14614937592535677575 tw13868495408478644803 tw11841876894155936903 tw2546178994660665515 tw11841404814651148710 tw7290042849739888063 tw12039529736536314778 tw17876071951638841317 tw16125105146670095732 tw6794702251256750345 tw12537621792283776907 tw564954614586051763 tw3575968765164568213 tw6313238373513812464 tw7921533696100114456 tw2112334790244184547 tw15189443401321126344 tw17307257279212141468 tw9456838955042114512 tw10464143319509805545 tw12323807798545495299 tw18121811425877489002 tw2009545487552759763 tw2199864997142272254 tw7065209107246358318 tw16546891573274359897 tw8126945165117254956 tw1779240660384773398 tw4915372493248038293 tw17882040288125959165 tw887088528351249712 tw12900120105591239157 tw11537547839725118387 tw8687225749072441043 tw7348789069249813618 tw9391978849118407278 tw14233418009275732099 tw12797403666362725988 tw14778476873829373665 tw15421413555649569610 tw11572642321897467939 tw2344031008628085326 tw6738972406607429742 tw8272850122991198723 tw1531009020974686378 tw519400604984441369 tw6869088753854164403 tw8479282773727971781 tw11997401270871885679 tw17889568383061889116 tw18377758372835387835 tw12962883998551554763 tw15014415910327008527 tw1792750526705175446 tw7933297569088231607 tw8697347022793102029 tw16990427830690657220 tw8988237200092275635 tw11664238160325128919 tw18432894267830784012 tw3300904659253574589 tw2817798992275303246 tw13847867780834944529 tw5378082408090724480 tw15352328195745065573 tw5646688893893691961 tw16556586633535251040 tw13588348845091500020 tw345869147141566404 tw17087981491769254648 tw3584673453586414963 tw7521753104520378182 tw13482137603292362537 tw4363634111131954838 tw17472263849567349999 tw11008399986941443484 tw14302859242870231746 tw1952301727558395264 tw2836525632090809494 tw559389386423139363 tw17139960316528818621 tw16623419608635995010 tw16447103804942057647 tw13675519854605800500 tw8654578180413490066 tw13933261446975860939 tw9072930349902670571 tw13213872490799451936 tw10632064873633263534 tw11964714600309880110 tw15541748565558183885 tw15935386379351139306 tw10269135856980384408 tw2050249595115797660 tw6455537759102679706 tw15738845660094651761 tw11352381598026670619 tw5881191034698824263 tw13989430578244413780 tw11468659787612381422 tw2077771263973831779 tw14958142318048775178 tw12937608160078820491 tw3670481325390321507 tw461128267006427560 tw12200936984028311625 tw12364597907391099464 tw14889414799078965736 tw9703732513767323698 tw13094237489684044026 tw15035786851713740998 tw8888158668341727926 tw7890838604030318183 tw7555634667612883934 tw12746927953524231234 tw16683500084057013973 tw2654493999294412479 tw17165193111004281875 tw3670067158844961317 tw892232644656819754 tw2920784577786688190 tw12005534318234274416 tw16806999665700894715 tw807198839727591222 tw809637492933270157 tw17235455723995964447 tw15982917141883390491 tw808454915267481811 tw8918014631462066394 tw15212853190775643130 tw4790144835081936399 tw10666545393828784827 tw13510120148120357824 tw1896761287509301529 tw6787460603819762860 tw4654605355977383403 tw8852650714509114643 tw8437135473089366354 tw4969891291601066851 tw12162853010451327602 tw5434499378878278789 tw12520462713087392893 tw12682018388669041925 tw12450337899991220198 tw8942671986227107426 tw13582901439929099848 tw15110394477406858506 tw17848222503283549469 tw13695370937480535012 tw12913135661632421415 tw9619553917297238011 tw14048633827307669099 tw16959797425064860574 tw4050312466111542221 tw12073475154328031262 tw1510544866734401139 tw5060452657131115119 tw17951769700893203218 tw15067762507529380820 tw5081929899481593365 tw5844444472478611234 tw9546901838704533414 tw13093776422801069523 tw10710295516698855422 tw6326469639556357757 tw3691537921796331041 tw12001012780410436632 tw12508615001322587004 tw16236008397859585890 tw17026665455621292352 tw14014827318032989739 tw2533746466411197938 tw13354126676026399150 tw7668055294320784141 tw12747968810099623358 tw16203545402721029920 tw15420807827953476523 tw4397186162466232094 tw4778017467740604761 tw2323347222657814927 tw1740045542104842440 tw12084036059185607801 tw5324946186552274789 tw12738644307218234176 tw15792175250629370460 tw3189639337948849604 tw14580391012631481142 tw11611073206501699937 tw9862218740438551887 tw9612414608123679057 tw17591753863587772902 tw16058968246954189196 tw5499737069730870720 tw10621259741766078317 tw193293708925453423 tw17885592495122408113 tw15905558446673766209 tw8751001830196229809 tw17864004428605601596 tw2270945423838610451 tw8740476032718501564 tw3988225862555291754 tw1664091351305183066 tw7268187484346903530 tw17531561312358337155 tw9838710213431202787 tw13703931657203819564 tw4248806061814034005 tw4181632091199956391 tw10426782458870625125 tw11442798245035312785 tw14170090667885055132 tw14503509446975906228 tw10357993681879019748 tw6216466737902366437 tw6282828922552340350 tw7662742171580992008 tw240573855760488028 tw4262180428761343971 tw6049902066024510299 tw6351628589220677219 tw10191917371718582201 tw6418404478605495689 tw11279368519507296263 tw3499829201204162736 tw15482585662034732186 tw15613884468565734551 tw5737527870709139786 tw11872170437206323814 tw15547007709408712689 tw10208657510310602673 tw13771091224789614325 tw16823404869445516352 tw6888050493165700226 tw8105183743329271570 tw15594388397582662472 tw17583716475402693221 tw12739013728216687057 tw15831803750648774470 tw17229419559741277301 tw5688323023023593580 tw12921254620143494792 tw2497442416677745987 tw5545204771753547359 tw18233101353399623666 tw1928456239373910884 tw4835664517764964389 tw5869705607313707249 tw8398566827674135948 tw11672749832475799930 tw2185215378063319163 tw16462995279307852304 tw5187517497303894926 tw16618432155569341580 tw8432936574495600209 tw3552955233619906040 tw1790562688076374384 tw1614822076043636084 tw12074263156535805655 tw16214355607417270926 tw127677612296145394 tw4127777807675722919 tw753465693340572555 tw13612429978870930407 tw8372522828125616590 tw15349769787559843909 tw3068740822193507095 tw2805838853093787396 tw15247953406266332158 tw18090237023448077976 tw11438439964295929208 tw9332215735821128085 tw12017028700712696085 tw7373941709049140911 tw9357970410558679000 tw6162504728076524125 tw13316266394674367906 tw2135200789807051195 tw9506704513426036371 tw11545963406002107258 tw13329960561833625513 tw12718406945720555482 tw8513884208863688020 tw12554987310698824980 tw5463711793898346512 tw4583584925571391566 tw13871780016220876225 tw3285685505500271894:True)
namespace FB
open PySem L2
theorem all_mk {l:W.OpenLaw}{w:World}{K:W.Frag}{h:Heap}{mg:Str→Option Value}{fa CB CC CL CT CF CS f1 f2 f3 f4 f5 f6 f7 f8 f9 f10 f11 f12 f13 f14 f15 f16 f17 f18 f19 f20 fm1 fm2 fm3 fm4 fm5 fm6 fm7 fm8 fm9 fm10 fm11 fm12 fm13 fm14 fm15 fm16 fm17 fm18 fm19 fm20 fm21 fm22 fm23 fm24 fm25 fm26 fm27 fm28 fm29 fm30 fm31 PP:Addr}(X:K.In h)(G:h.Ns mainGlobals mg)(kn:mg "law" = some (.ref fa))(O:Dt K "Board" CB)(L:W.findIn K (.ref CB) "needs" = some none)(p:W.findIn K (.ref CB) "versions" = some none)(r:Dt K "Chart" CC)(R:W.findIn K (.ref CC) "board" = some none)(Y:W.findIn K (.ref CC) "bits" = some none)(C:W.findIn K (.ref CC) "by_bit" = some none)(x:W.findIn K (.ref CC) "of_part" = some none)(z:W.findIn K (.ref CC) "allowed" = some none)(t:W.findIn K (.ref CC) "shut_out" = some none)(aa:W.findIn K (.ref CC) "foes" = some none)(A:Dt K "Ledger" CL)(U:W.findIn K (.ref CL) "chart" = some none)(I:W.findIn K (.ref CL) "masks" = some none)(y:W.findIn K (.ref CL) "reasons" = some none)(j:W.findIn K (.ref CL) "place_by_mask" = some none)(i:W.findIn K (.ref CL) "places_by_pick" = some none)(al:Dt K "Stand" CT)(E:W.findIn K (.ref CT) "picked" = some none)(ad:W.findIn K (.ref CT) "dead" = some none)(F:W.findIn K (.ref CT) "wanted" = some none)(ag:Dt K "Fork" CF)(Z:W.findIn K (.ref CF) "part" = some none)(S:W.findIn K (.ref CF) "stand" = some none)(ah:W.findIn K (.ref CF) "bit" = some none)(d:Dt K "Search" CS)(Q:W.findIn K (.ref CS) "chart" = some none)(D:W.findIn K (.ref CS) "ledger" = some none)(H:W.findIn K (.ref CS) "forks" = some none)(d1:pJ K "clashes" oF f1)(d2:pJ K "count_picks" uF f2)(d3:pJ K "worked_out" qY f3)(d4:pJ K "_law_whole" ux f4)(d5:pJ K "_law_at" Hw f5)(d6:pJ K "_law_version_by" DN f6)(d7:pJ K "_law_need_by" yM f7)(d8:pJ K "_law_shelf_by" uB f8)(d9:pJ K "_law_start_by" ow f9)(n1:pJ K "_law_copy_of" yT f10)(hk:pJ K "_law_needs_in" oB f11)(nj:pJ K "_law_meets" rm f12)(hd:pJ K "_law_is_pick" rn f13)(md:pJ K "_law_are_picks" l6 f14)(n2:pJ K "_law_fits" uE f15)(ky:pJ K "_law_asked_by" uG f16)(kj:pJ K "_law_wide" yK f17)(he:pJ K "_law_made_fit" oE f18)(kq:pJ K "_law_mixed" uC f19)(h6:kQ K CB "__init__" "Board.__init__" yQ fm1)(hf:kQ K CB "meeting" "Board.meeting" oC fm2)(h1:kQ K CC "__init__" "Chart.__init__" rA fm3)(hs:kQ K CC "give_bits" "Chart.give_bits" yS fm4)(nl:kQ K CC "allowed_by" "Chart.allowed_by" oG fm5)(hg:kQ K CC "shut_out_by" "Chart.shut_out_by" oy fm6)(ma:kQ K CC "make_foes_mutual" "Chart.make_foes_mutual" ri fm7)(hm:kQ K CC "listed" "Chart.listed" rj fm8)(nk:kQ K CL "__init__" "Ledger.__init__" rl fm9)(cp:kQ K CL "put_down" "Ledger.put_down" DO fm10)(e4:kQ K CL "place_against" "Ledger.place_against" rg fm11)(cs:kQ K CL "barred_with" "Ledger.barred_with" rC fm12)(ep:kQ K CL "told" "Ledger.told" uy fm13)(ft:kQ K CT "__init__" "Stand.__init__" q5 fm14)(bd:kQ K CF "__init__" "Fork.__init__" rq fm15)(c2:kQ K CS "__init__" "Search.__init__" rc fm16)(bq:kQ K CS "opening" "Search.opening" oA fm17)(g8:kQ K CS "wanted_by" "Search.wanted_by" qZ fm18)(da:kQ K CS "left" "Search.left" yO fm19)(bx:GS K CS "next_part" "Search.next_part" sJ fm20 PP)(fv:kQ K CS "go_on" "Search.go_on" yR fm21)(ed:kQ K CS "stand_behind" "Search.stand_behind" rB fm22)(c3:kQ K CS "go_back" "Search.go_back" rp fm23)(gt:kQ K CS "mark_dead" "Search.mark_dead" yN fm24)(fl:kQ K CS "shut" "Search.shut" yL fm25)(ch:kQ K CS "place_of_need" "Search.place_of_need" rf fm26)(dl:kQ K CS "line_against" "Search.line_against" uD fm27)(e5:kQ K CS "outside" "Search.outside" oz fm28)(e3:kQ K CS "show_newest" "Search.show_newest" uz fm29)(em:kQ K CS "newer_picks" "Search.newer_picks" rh fm30)(es:kQ K CS "show_barred" "Search.show_barred" uA fm31){oc kV dc pm cd ct:Value}{od an:Option Addr}{sl:Array (Option Value)}(aL:W.nsIn K mainGlobals "law" = some (some (.ref f20)))(lL:K.lookup f20=some ⟨oc,od,.func (W.fnOf "law" "law" (gO mY) (gi mY) (eA mY) .none kV dc pm an cd ct),sl⟩)(cL:W.codeIn K cd "law" = true)(kL:W.keepIn K (.ref f20)=true)(z1:W.nsIn K mainGlobals "len" = some none)(z2:W.nsIn K mainGlobals "range" = some none)(z3:W.nsIn K mainGlobals "list" = some none)(z4:W.nsIn K mainGlobals "tuple" = some none)(z5:W.nsIn K mainGlobals "str" = some none)(z6:W.nsIn K mainGlobals "int" = some none)(z7:W.nsIn K mainGlobals "bool" = some none)(z8:W.nsIn K mainGlobals "isinstance" = some none)(z9:W.nsIn K mainGlobals "sorted" = some none)(a6:W.nsIn K mainGlobals "reversed" = some none)(nx:W.nsIn K mainGlobals "zip" = some none)(ev:W.nsIn K mainGlobals "max" = some none)(a1:W.nsIn K mainGlobals "min" = some none)(hx:W.nsIn K mainGlobals "sum" = some none)(ms:W.nsIn K mainGlobals "dict" = some none)(ld:W.nsIn K mainGlobals "enumerate" = some none):∃(fd:FuncData) (cP:Addr),W.codeHdIn K cP PP=true∧(∀(s:Shared) (v:Value),BindsTo s fd ⟨[v],[]⟩ [("_law_script",v)])∧∀base:Heap,K.In base→base.Ns mainGlobals mg→sk mg base→fb l.prog w K mg base eZ 10 fa fd ["_law_script"] (qQ K PP):=by
 have e:=kn.symm.trans (W.mg_of X G aL);cases e;have T:AE K mg:=⟨(be X G z1),(be X G z2),(be X G z3),(be X G z4),(be X G z5),(be X G z6),(be X G z7),(be X G z8),(be X G z9),(be X G a6)⟩;obtain⟨_,F1,b1,k1,m1⟩:=d1.u X G (ps:=["need","pick"]) fun _ _ _ _ _ _=>jI fun _ _=>rfl;obtain⟨_,F2,b2,k2,m2⟩:=d2.u X G (ps:=["mask"]) fun _ _ _ _ _ _=>kI fun _=>rfl;obtain⟨_,F3,b3,k3,m3⟩:=d3.u X G (ps:=["shelf","start"]) fun _ _ _ _ _ _=>jI fun _ _=>rfl;obtain⟨_,F4,b4,k4,m4⟩:=d4.u X G (ps:=["_law_found"]) fun _ _ _ _ _ _=>kI fun _=>rfl;obtain⟨_,F5,b5,k5,m5⟩:=d5.u X G (ps:=["_law_script","_law_k"]) fun _ _ _ _ _ _=>jI fun _ _=>rfl;obtain⟨_,F6,b6,k6,m6⟩:=d6.u X G (ps:=["_law_cell"]) fun _ _ _ _ _ _=>kI fun _=>rfl;obtain⟨_,F7,b7,k7,m7⟩:=d7.u X G (ps:=["_law_cell"]) fun _ _ _ _ _ _=>kI fun _=>rfl;obtain⟨_,F8,b8,k8,m8⟩:=d8.u X G (ps:=["_law_cells"]) fun _ _ _ _ _ _=>kI fun _=>rfl;obtain⟨_,F9,b9,k9,m9⟩:=d9.u X G (ps:=["_law_cells"]) fun _ _ _ _ _ _=>kI fun _=>rfl;obtain⟨_,nf,mm,ih,kd⟩:=n1.u X G (ps:=["_law_shelf"]) fun _ _ _ _ _ _=>kI fun _=>rfl;obtain⟨_,ko,hr,i2,hn⟩:=hk.u X G (ps:=["_law_shelf","_law_pick"]) fun _ _ _ _ _ _=>jI fun _ _=>rfl;obtain⟨_,j0,nt,nq,kw⟩:=nj.u X G (ps:=["_law_need","_law_version"]) fun _ _ _ _ _ _=>jI fun _ _=>rfl;obtain⟨_,lx,mp,nb,l0⟩:=hd.u X G (ps:=["_law_found"]) fun _ _ _ _ _ _=>kI fun _=>rfl;obtain⟨_,kl,mb,ht,lw⟩:=md.u X G (ps:=["_law_found"]) fun _ _ _ _ _ _=>kI fun _=>rfl;obtain⟨_,hq,lz,h7,lo⟩:=n2.u X G (ps:=["_law_shelf","_law_start","_law_picks"]) fun _ _ _ _ _ _=>pe fun _ _ _=>rfl;obtain⟨_,h3,h2,i0,kp⟩:=ky.u X G (ps:=["_law_script"]) fun _ _ _ _ _ _=>kI fun _=>rfl;obtain⟨_,kb,c8,g7,dr⟩:=kj.u X G (ps:=["_law_need","_law_drawn"]) fun _ _ _ _ _ _=>jI fun _ _=>rfl;obtain⟨_,lf,mc,ka,h8⟩:=he.u X G (ps:=["_law_shelf","_law_drawn"]) fun _ _ _ _ _ _=>jI fun _ _=>rfl;obtain⟨_,h0,ny,nn,ne⟩:=kq.u X G (ps:=["_law_script"]) fun _ _ _ _ _ _=>kI fun _=>rfl;obtain⟨_,kk,hb,cy⟩:=h6.u (ps:=["self","shelf","start"]) fun _ _ _ _ _ _=>pe fun _ _ _=>rfl;obtain⟨_,kv,kh,lv⟩:=hf.u (ps:=["self","need"]) fun _ _ _ _ _ _=>jI fun _ _=>rfl;obtain⟨_,mf,n0,fx⟩:=h1.u (ps:=["self","board"]) fun _ _ _ _ _ _=>jI fun _ _=>rfl;obtain⟨_,le,la,is⟩:=hs.u (ps:=["self"]) fun _ _ _ _ _ _=>kI fun _=>rfl;obtain⟨_,hz,h4,na⟩:=nl.u (ps:=["self","who"]) fun _ _ _ _ _ _=>jI fun _ _=>rfl;obtain⟨_,nm,hc,hy⟩:=hg.u (ps:=["self","who"]) fun _ _ _ _ _ _=>jI fun _ _=>rfl;obtain⟨_,np,ls,it⟩:=ma.u (ps:=["self"]) fun _ _ _ _ _ _=>kI fun _=>rfl;obtain⟨_,jn,mt,j1⟩:=hm.u (ps:=["self","mask"]) fun _ _ _ _ _ _=>jI fun _ _=>rfl;obtain⟨_,h9,h5,fu⟩:=nk.u (ps:=["self","chart"]) fun _ _ _ _ _ _=>jI fun _ _=>rfl;obtain⟨_,dv,c7,gk⟩:=cp.u (ps:=["self","mask","reason"]) fun _ _ _ _ _ _=>pe fun _ _ _=>rfl;obtain⟨_,dp,a9,ei⟩:=e4.u (ps:=["self","pick","picked"]) fun _ _ _ _ _ _=>pe fun _ _ _=>rfl;obtain⟨_,ha,eb,f0⟩:=cs.u (ps:=["self","pick","picked"]) fun _ _ _ _ _ _=>pe fun _ _ _=>rfl;obtain⟨_,g2,gn,ex⟩:=ep.u (ps:=["self"]) fun _ _ _ _ _ _=>kI fun _=>rfl;obtain⟨_,ew,dn,as⟩:=ft.u (ps:=["self","picked","dead","wanted"]) fun _ _ _ _ _ _=>Ex fun _ _ _ _=>rfl;obtain⟨_,g0,e6,ap⟩:=bd.u (ps:=["self","part","stand"]) fun _ _ _ _ _ _=>pe fun _ _ _=>rfl;obtain⟨_,gw,eu,a0⟩:=c2.u (ps:=["self","chart"]) fun _ _ _ _ _ _=>jI fun _ _=>rfl;obtain⟨_,a4,g9,c9⟩:=bq.u (ps:=["self"]) fun _ _ _ _ _ _=>kI fun _=>rfl;obtain⟨_,gg,fk,gx⟩:=g8.u (ps:=["self","wanted","who","picked"]) fun _ _ _ _ _ _=>Ex fun _ _ _ _=>rfl;obtain⟨_,fy,c4,c6⟩:=da.u (ps:=["self","stand","part"]) fun _ _ _ _ _ _=>pe fun _ _ _=>rfl;obtain⟨_,_,a3,e8,eq,dy⟩:=bx.u (ps:=["self","stand"]) fun _ _ _ _ _ _=>jI fun _ _=>rfl;obtain⟨_,cn,fr,e2⟩:=fv.u (ps:=["self"]) fun _ _ _ _ _ _=>kI fun _=>rfl;obtain⟨_,gd,fp,ez⟩:=ed.u (ps:=["self","fork"]) fun _ _ _ _ _ _=>jI fun _ _=>rfl;obtain⟨_,e9,bl,cv⟩:=c3.u (ps:=["self","place"]) fun _ _ _ _ _ _=>jI fun _ _=>rfl;obtain⟨_,cx,dd,a8⟩:=gt.u (ps:=["self","bit","place"]) fun _ _ _ _ _ _=>pe fun _ _ _=>rfl;obtain⟨_,gp,ey,dx⟩:=fl.u (ps:=["self","fork","known"]) fun _ _ _ _ _ _=>pe fun _ _ _=>rfl;obtain⟨_,bf,ga,bm⟩:=ch.u (ps:=["self","who","part"]) fun _ _ _ _ _ _=>pe fun _ _ _=>rfl;obtain⟨_,eh,gb,c1⟩:=dl.u (ps:=["self","pick"]) fun _ _ _ _ _ _=>jI fun _ _=>rfl;obtain⟨_,gh,g4,df⟩:=e5.u (ps:=["self","who","pick"]) fun _ _ _ _ _ _=>pe fun _ _ _=>rfl;obtain⟨_,ds,a7,g1⟩:=e3.u (ps:=["self","picked"]) fun _ _ _ _ _ _=>jI fun _ _=>rfl;obtain⟨_,et,a5,fo⟩:=em.u (ps:=["self","fork"]) fun _ _ _ _ _ _=>jI fun _ _=>rfl;obtain⟨_,ea,ek,e7⟩:=es.u (ps:=["self","pick","kept","forks"]) fun _ _ _ _ _ _=>Ex fun _ _ _ _=>rfl;have ns:=mq (st:=mY) lL cL kL;refine⟨W.fnOf "law" "law" (gO mY) (gi mY) (eA mY) .none kV dc pm an cd ct,_,dy,fun s v=>.of_eq rfl,fun base _ _ hw=>?_⟩;have q:TB K mg CB:=⟨O.c,L,p,W.mg_of X G O.a,(be X G z3),(be X G z9)⟩;have b:TC K mg CC:=⟨r.c,R,Y,C,x,z,t,aa,(be X G z9),(be X G ev),(be X G a1),(be X G hx)⟩;have o:TL K mg CL:=⟨A.c,U,I,y,j,i,(be X G z1),(be X G nx)⟩;have B:Cv K mg CT:=⟨al.c,E,ad,F⟩;have m:AH K mg CF:=⟨ag.c,Z,S,ah⟩;have g:sr K mg CS:=⟨d.c,Q,D,H,(be X G ms),(be X G a1),(be X G z3),(be X G ld),(be X G a6)⟩;have bv:=uS (P:=l.prog) (w:=w) (mg:=mg) (base:=base) F1;have ec:=zB (P:=l.prog) (w:=w) (mg:=mg) (base:=base) F2;have lk:wL l.prog w K mg base CB eZ 1 "Board" ["self","shelf","start"] (qR CB):=⟨W.mg_of X G O.a,_,_,⟨O.mk_,cy.at_,cy.fn,O.kc⟩,zA kk q,hb⟩;have a2:Mt l.prog w K mg base CB eZ 2 "meeting" ["self","need"] (jC CB):=⟨O.c,_,_,uR kv q bv b1 k1 m1,kh,lv⟩;have J:Mt l.prog w K mg base CC eZ 1 "listed" ["self","mask"] (iX CC):=⟨r.c,_,_,xw jn b,mt,j1⟩;have js:Mt l.prog w K mg base CC eZ 1 "give_bits" ["self"] (uq CB CC):=⟨r.c,_,_,BX le b q,la,is⟩;have lu:Mt l.prog w K mg base CC eZ 3 "allowed_by" ["self","who"] (l5 CB CC):=⟨r.c,_,_,uT hz b q a2,h4,na⟩;have i1:Mt l.prog w K mg base CC eZ 1 "shut_out_by" ["self","who"] (lY CC):=⟨r.c,_,_,uN nm b,hc,hy⟩;have kt:Mt l.prog w K mg base CC eZ 2 "make_foes_mutual" ["self"] (oe CC):=⟨r.c,_,_,xq np b J,ls,it⟩;have hi:wL l.prog w K mg base CC eZ 4 "Chart" ["self","board"] (om CB CC):=⟨W.mg_of X G r.a,_,_,⟨r.mk_,fx.at_,fx.fn,r.kc⟩,xD mf b q js lu i1 kt,n0⟩;have l2:wL l.prog w K mg base CL eZ 1 "Ledger" ["self","chart"] (og CL):=⟨W.mg_of X G A.a,_,_,⟨A.mk_,fu.at_,fu.fn,A.kc⟩,xz h9 o,h5⟩;have co:Mt l.prog w K mg base CL eZ 2 "put_down" ["self","mask","reason"] (vJ CB CC CL):=⟨A.c,_,_,D2 dv o J,c7,gk⟩;have hp:Mt l.prog w K mg base CL eZ 1 "place_against" ["self","pick","picked"] (nZ CB CC CL):=⟨A.c,_,_,xp dp o b,a9,ei⟩;have kf:Mt l.prog w K mg base CL eZ 1 "barred_with" ["self","pick","picked"] (ot CB CC CL):=⟨A.c,_,_,xF ha o,eb,f0⟩;have i3:Mt l.prog w K mg base CL eZ 2 "told" ["self"] (qI CB CC CL):=⟨A.c,_,_,zr g2 o J,gn,ex⟩;have go:wL l.prog w K mg base CT eZ 1 "Stand" ["self","picked","dead","wanted"] (lE CT):=⟨W.mg_of X G al.a,_,_,⟨al.mk_,as.at_,as.fn,al.kc⟩,xm ew B,dn⟩;have mu:wL l.prog w K mg base CF eZ 1 "Fork" ["self","part","stand"] (ol CF):=⟨W.mg_of X G ag.a,_,_,⟨ag.mk_,ap.at_,ap.fn,ag.kc⟩,xC g0 m,e6⟩;have l3:wL l.prog w K mg base CS eZ 3 "Search" ["self","chart"] (nY CL CS):=⟨W.mg_of X G d.a,_,_,⟨d.mk_,a0.at_,a0.fn,d.kc⟩,xn gw g l2,eu⟩;have ej:Mt l.prog w K mg base CS eZ 1 "left" ["self","stand","part"] (qP CB CC CS CT):=⟨d.c,_,_,BV fy g b B,c4,c6⟩;have c5:Mt l.prog w K mg base CS eZ 2 "wanted_by" ["self","wanted","who","picked"] (lD CB CC CS):=⟨d.c,_,_,xl gg g b ec b2 k2 m2,fk,gx⟩;have e1:Mt l.prog w K mg base CS eZ 1 "place_of_need" ["self","who","part"] (lF CB CC CS):=⟨d.c,_,_,xo bf g b q,ga,bm⟩;have hu:Mt l.prog w K mg base CS eZ 3 "outside" ["self","who","pick"] (lZ CB CC CL CS):=⟨d.c,_,_,uO gh g b q bv b1 k1 m1 co,g4,df⟩;have cl:Mt l.prog w K mg base CS eZ 4 "line_against" ["self","pick"] (lG CB CC CL CS CF CT):=⟨d.c,_,_,BU eh g b B m hu J hp,gb,c1⟩;have cz:Mt l.prog w K mg base CS eZ 5 "shut" ["self","fork","known"] (qJ CB CC CL CS CF CT):=⟨d.c,_,_,BP gp g b o q B m e1 a2 cl co,ey,dx⟩;have e0:Mt l.prog w K mg base CS eZ 1 "mark_dead" ["self","bit","place"] (qO CB CC CL CS CF CT):=⟨d.c,_,_,BS cx g o B m,dd,a8⟩;have iv:Mt l.prog w K mg base CS eZ 2 "go_back" ["self","place"] (oj CB CC CL CS CF CT):=⟨d.c,_,_,xB e9 g o m e0,bl,cv⟩;have m0:Mt l.prog w K mg base CS eZ 3 "stand_behind" ["self","fork"] (oo CB CC CL CS CF CT):=⟨d.c,_,_,xE gd g b B m kf c5 go,fp,ez⟩;have j2:Mt l.prog w K mg base CS eZ 3 "opening" ["self"] (l4 CB CC CL CS CT):=⟨d.c,_,_,uP a4 g b c5 go,g9,c9⟩;have ho:Mt l.prog w K mg base CS eZ 6 "go_on" ["self"] (uo CB CC CL CS CF CT):=⟨d.c,_,_,BW cn g b m J ej m0 cz iv,fr,e2⟩;have kx:Mt l.prog w K mg base CS eZ 5 "next_part" ["self","stand"] (uk CB CC CS CT Bb yl PP):=⟨d.c,_,_,BQ a3 dy hw g b B ec b2 k2 m2 ej,e8,eq⟩;have lp:Mt l.prog w K mg base CS eZ 3 "newer_picks" ["self","fork"] (qM CB CC CS CF CT):=⟨d.c,_,_,zx et g b q m e1 a2,a5,fo⟩;have hj:Mt l.prog w K mg base CS eZ 6 "show_barred" ["self","pick","kept","forks"] (qL CB CC CL CS CF CT):=⟨d.c,_,_,zu ea g b o m cl cz e0,ek,e7⟩;have hv:Mt l.prog w K mg base CS eZ 7 "show_newest" ["self","picked"] (qK CB CC CL CS CF CT):=⟨d.c,_,_,zt ds g b m lp hj,a7,g1⟩;have WO:=xk F3 g B lk hi l3 mu j2 kx ho i3 hv J;have V:=D1 (P:=l.prog) (w:=w) (mg:=mg) (base:=base) F6;have N:=BR F7 V b6 k6 m6;have M:=xt (P:=l.prog) (w:=w) (mg:=mg) (base:=base) j0;have SB:=uM F9 N b7 k7 m7;have NI:=uQ (P:=l.prog) (w:=w) (mg:=mg) (base:=base) ko;have AT:=FE (P:=l.prog) (w:=w) (base:=base) F5 T;have SH:=zw F8 T V b6 k6 m6 N b7 k7 m7;have WH:=zq (P:=l.prog) (w:=w) (base:=base) F4 T;have IP:=xA lx T WH b4 k4 m4;have AP:=sQ kl T IP mp nb l0;have WD:=BO (P:=l.prog) (w:=w) (mg:=mg) (base:=base) kb (be X G a1) (be X G ev);have g5:Gd l.prog w K mg base eZ 9 "_law_at" ["_law_script","_law_k"] (Bj K):=⟨_,_,(AT).mono (by decide),b5,k5,m5⟩;have g6:Gd l.prog w K mg base eZ 9 "_law_version_by" ["_law_cell"] sy:=⟨_,_,(V).mono (by decide),b6,k6,m6⟩;have ly:Gd l.prog w K mg base eZ 9 "_law_asked_by" ["_law_script"] (qT K):=⟨_,_,(zC h3 SH b8 k8 m8 SB b9 k9 m9 AT b5 k5 m5).mono (by decide),h2,i0,kp⟩;have ks:Gd l.prog w K mg base eZ 9 "_law_made_fit" ["_law_shelf","_law_drawn"] um:=⟨_,_,(BT lf T WD c8 g7 dr).mono (by decide),mc,ka,h8⟩;have hl:Gd l.prog w K mg base eZ 9 "_law_wide" ["_law_need","_law_drawn"] qH:=⟨_,_,(WD).mono (by decide),c8,g7,dr⟩;have l1:Gd l.prog w K mg base eZ 9 "_law_copy_of" ["_law_shelf"] ur:=⟨_,_,(BY nf T).mono (by decide),mm,ih,kd⟩;have k0:Gd l.prog w K mg base eZ 9 "_law_mixed" ["_law_script"] (qN K):=⟨_,_,(zy h0 T).mono (by decide),ny,nn,ne⟩;have lm:Gd l.prog w K mg base eZ 9 "_law_are_picks" ["_law_found"] kY:=⟨_,_,(AP).mono (by decide),mb,ht,lw⟩;have hh:Gd l.prog w K mg base eZ 9 "_law_fits" ["_law_shelf","_law_start","_law_picks"] oh:=⟨_,_,(xx hq T NI hr i2 hn M nt nq kw).mono (by decide),lz,h7,lo⟩;have g3:Gd l.prog w K mg base eZ 9 "worked_out" ["shelf","start"] (nX PP):=⟨_,_,(WO).mono (by decide),b3,k3,m3⟩;exact D3 ns T g5 g6 ly ks hl l1 k0 lm hh g3
theorem walk {l:W.OpenLaw}{q:Program}{loose:List Str}{XP:(Str→Option Value)→Heap→Prop}{YP:World→Heap→Prop}{d:DefRec}{K:Params→W.Frag}{PP:Addr}(hn:l.most=some 63)(hdf:d.params.defaults=[])(hY:∀(w:World) (h:Heap),YP w h→(K w.params).In h)(hY2:∀(w:World) (h:Heap),YP w h→h.get? PP=some (W.tabObj #[]))(hKP:∀w:World,(K w.params).lookup PP=none)(F:∀(w:World) (mg:Str→Option Value) (fa:Addr) (h:Heap),(K w.params).In h→h.Ns mainGlobals mg→mg d.name=some (.ref fa)→∃(fd:FuncData) (cP:Addr),W.codeHdIn (K w.params) cP PP=true∧(∀(s:Shared) (u:Value),BindsTo s fd ⟨[u],[]⟩ [("_law_script",u)])∧∀base:Heap,(K w.params).In base→base.Ns mainGlobals mg→sk mg base→fb l.prog w (K w.params) mg base eZ 10 fa fd ["_law_script"] (qQ (K w.params) PP)):W.WalkO q loose XP YP l.row.toRowW d [] (fun f vs=>PySem.call f vs):=
 yr (n:=63) (k:=10) (x:="_law_script") (sp:=fun w=>qQ (K w.params) PP) hn (by decide) hdf ⟨rfl,by decide,by decide⟩ hY hY2 hKP F fun _ _ a ns hl hS hP=>⟨a,ns,rfl,hS,hl,.inl hP,fun _=>rfl⟩
end FB
open PySem PySem.W PyProof.Rows
set_option maxRecDepth 100000 in
set_option maxHeartbeats 0 in
theorem PySem.Challenge.cw_fitboard_k08_whole_no_choice_is_newer_holds : PySem.Challenge.rw_fitboard_k08_whole_no_choice_is_newer.Holds := by
 w_on;o_law;k_head;(case hw=>w_witness2)
 k_fill
 refine FB.walk (l:=PySem.Challenge.rw_fitboard_k08_whole_no_choice_is_newer) rfl rfl (fun w h Y=>W.km_in_of Y) (fun w h Y=>W.km_tabs_of Y _ (List.Mem.head _)) (fun w=>by kernel_rfl) ?F
 case F=>
  intro w mg fa h KX G hmg;refine' FB.all_mk KX G hmg ⟨?_,?_,?_,?_,?_,?_,?_⟩ ?_ ?_ ⟨?_,?_,?_,?_,?_,?_,?_⟩ ?_ ?_ ?_ ?_ ?_ ?_ ?_ ⟨?_,?_,?_,?_,?_,?_,?_⟩ ?_ ?_ ?_ ?_ ?_ ⟨?_,?_,?_,?_,?_,?_,?_⟩ ?_ ?_ ?_ ⟨?_,?_,?_,?_,?_,?_,?_⟩ ?_ ?_ ?_ ⟨?_,?_,?_,?_,?_,?_,?_⟩ ?_ ?_ ?_ (.mk ?_ ?_ ?_ ?_) (.mk ?_ ?_ ?_ ?_) (.mk ?_ ?_ ?_ ?_) (.mk ?_ ?_ ?_ ?_) (.mk ?_ ?_ ?_ ?_) (.mk ?_ ?_ ?_ ?_) (.mk ?_ ?_ ?_ ?_) (.mk ?_ ?_ ?_ ?_) (.mk ?_ ?_ ?_ ?_) (.mk ?_ ?_ ?_ ?_) (.mk ?_ ?_ ?_ ?_) (.mk ?_ ?_ ?_ ?_) (.mk ?_ ?_ ?_ ?_) (.mk ?_ ?_ ?_ ?_) (.mk ?_ ?_ ?_ ?_) (.mk ?_ ?_ ?_ ?_) (.mk ?_ ?_ ?_ ?_) (.mk ?_ ?_ ?_ ?_) (.mk ?_ ?_ ?_ ?_) (.mk ?_ ?_ ?_ ?_ ?_) (.mk ?_ ?_ ?_ ?_ ?_) (.mk ?_ ?_ ?_ ?_ ?_) (.mk ?_ ?_ ?_ ?_ ?_) (.mk ?_ ?_ ?_ ?_ ?_) (.mk ?_ ?_ ?_ ?_ ?_) (.mk ?_ ?_ ?_ ?_ ?_) (.mk ?_ ?_ ?_ ?_ ?_) (.mk ?_ ?_ ?_ ?_ ?_) (.mk ?_ ?_ ?_ ?_ ?_) (.mk ?_ ?_ ?_ ?_ ?_) (.mk ?_ ?_ ?_ ?_ ?_) (.mk ?_ ?_ ?_ ?_ ?_) (.mk ?_ ?_ ?_ ?_ ?_) (.mk ?_ ?_ ?_ ?_ ?_) (.mk ?_ ?_ ?_ ?_ ?_) (.mk ?_ ?_ ?_ ?_ ?_) (.mk ?_ ?_ ?_ ?_ ?_) (.mk ?_ ?_ ?_ ?_ ?_) (.mk ?_ ?_ ?_ ?_ ?_ ?_) (.mk ?_ ?_ ?_ ?_ ?_) (.mk ?_ ?_ ?_ ?_ ?_) (.mk ?_ ?_ ?_ ?_ ?_) (.mk ?_ ?_ ?_ ?_ ?_) (.mk ?_ ?_ ?_ ?_ ?_) (.mk ?_ ?_ ?_ ?_ ?_) (.mk ?_ ?_ ?_ ?_ ?_) (.mk ?_ ?_ ?_ ?_ ?_) (.mk ?_ ?_ ?_ ?_ ?_) (.mk ?_ ?_ ?_ ?_ ?_) (.mk ?_ ?_ ?_ ?_ ?_) ?_ ?_ ?_ ?_ ?_ ?_ ?_ ?_ ?_ ?_ ?_ ?_ ?_ ?_ ?_ ?_ ?_ ?_ ?_ ?_
  all_goals try first | k_is | k_exc | kernel_rfl
