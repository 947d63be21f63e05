import PyProof.Rows.All
import Wide.All
import OpenK.AllK
import Wide.FinOn
import PyProof.EqAt
import PyProof.EqKinds
import PyProof.TupleCall
import KE.KMinKey
import KE.KSortTup
import PyProof.EqLayable
import Lean
import PySem.Challenge.RW_fitboard_k10_whole_what_is_not_picked
set_option Elab.async false
set_option linter.all false
set_option compiler.extract_closed false
set_option genSizeOfSpec false
set_option maxRecDepth 100000
section
open PySem PySem.Spec PyProof.Rows
abbrev ab:=@List.length_map
abbrev ac:=@wpAny_bind
abbrev ae:=@List.getElem?_map
abbrev af:=@List.getElem?_eq_some_iff
abbrev ai:=@List.mem_of_getElem?
abbrev aj:=@List.mem_singleton
abbrev ak:=@List.getElem?_eq_getElem
abbrev am:=@List.mem_cons
abbrev ao:=@Nat.le_refl
abbrev aq:=@decide_eq_true
abbrev ar:=@wpAny_pure
abbrev au:=@decide_eq_false
abbrev av:=@if_neg
abbrev aw:=@List.mem_map
abbrev ax:=@if_pos
abbrev ay:=@List.map_append
abbrev az:=@Option.map_eq_some_iff
abbrev aA:=@Heap.get?_push_of_some
abbrev aB:=@decide_eq_true_eq
abbrev aC:=@List.mem_iff_getElem?
abbrev aD:=@List.mem_append
abbrev aE:=@List.length_cons
abbrev aF:=@List.length_append
abbrev aG:=@List.map_cons
abbrev aH:=@Bool.and_eq_true
abbrev aI:=@List.take_length
abbrev aJ:=@List.filter_cons
abbrev aK:=@Heap.get?_push_size
abbrev aM:=@List.size_toArray
abbrev aN:=@Bool.false_ne_true
abbrev aO:=@List.mem_append_right
abbrev aP:=@List.mem_append_left
abbrev aQ:=@List.getElem?_append_left
abbrev aR:=@List.not_mem_nil
abbrev aS:=@Heap.lt_size
abbrev aT:=@List.length_take
abbrev aU:=@List.length_singleton
abbrev aV:=@of_decide_eq_true
abbrev aW:=@Nat.ne_of_lt
abbrev aX:=@List.take_succ
abbrev aY:=@List.nodup_cons
abbrev aZ:=@List.mem_filter
abbrev bb:=@List.getElem?_append_right
abbrev bc:=@List.mem_cons_of_mem
abbrev be:=@List.lookup_cons
abbrev bg:=@Nat.lt_of_lt_of_le
abbrev bh:=@List.getD_eq_getElem?_getD
abbrev bi:=@Heap.get?_none_of_le
abbrev bj:=@W.mg_none_of
abbrev bn:=@List.mem_map_of_mem
abbrev bo:=@Nat.zero_le
abbrev bp:=@PySem.boot_len
abbrev br:=@Int.toNat_natCast
abbrev bt:=@List.mem_cons_self
abbrev bu:=@List.find?_cons
abbrev bw:=@Array.length_toList
abbrev bz:=@Nat.le_trans
abbrev bA:=@wpAny_holding
abbrev bB:=@PySem.mem_of_lookup
abbrev bC:=@List.idxOf_lt_length_iff
abbrev bD:=@wpAny_Call_Name_kw
abbrev bE:=@List.length_filter_le
abbrev bF:=@Array.getElem?_toList
abbrev bH:=@List.append_assoc
abbrev bI:=@Nat.lt_of_le_of_lt
abbrev bJ:=@wpAny_dictEpoch
abbrev bK:=@boot_isinstance
abbrev bL:=@Nat.two_pow_pos
abbrev bM:=@List.nodup_nil
abbrev bN:=@List.nodup_append
abbrev bO:=@List.length_eq_zero_iff
abbrev bP:=@Bool.not_eq_true'
abbrev bQ:=@Nat.sub_self
abbrev bR:=@wpAny_truthy_bool
abbrev bS:=@wpAny_mono
abbrev bT:=@Bool.eq_false_iff
abbrev bU:=@Bool.false_and
abbrev bV:=@sizeLine_eq
abbrev bW:=@List.append_nil
abbrev bX:=@List.mem_of_find?_eq_some
abbrev bY:=@Nat.not_lt_zero
abbrev bZ:=@wpAny_rule
abbrev b0:=@List.getElem?_take
abbrev ca:=@List.filter_append
abbrev cb:=@Bool.false_eq_true
abbrev cc:=@wpAny_call_entry
abbrev ce:=@List.getElem?_inj
abbrev cf:=@List.length_reverse
abbrev cg:=@Array.getD_eq_getD_getElem?
abbrev ci:=@List.mem_reverse
abbrev cj:=@List.all_eq_true
abbrev ck:=@List.map_take
abbrev cm:=@List.getElem_idxOf
abbrev cq:=@Bool.true_and
abbrev cr:=@Array.getElem?_eq_getElem
abbrev cu:=@List.idxOf_cons_self
abbrev cw:=@List.pairwise_map
abbrev cA:=@Nat.le_of_lt
abbrev cB:=@Nat.le_of_eq
abbrev cC:=@List.map_map
abbrev cD:=@Nat.testBit_two_pow_mul
abbrev cE:=@Nat.lt_irrefl
abbrev cF:=@List.reverse_append
abbrev cG:=@wpAny_typeNameOfWhole_keyiter
abbrev cH:=@Int.emod_lt_of_pos
abbrev cJ:=@wpAny_passesOwn
abbrev cK:=@wpAny_notOrdered_dict
abbrev cM:=@boot_list
abbrev cN:=@Nat.pow_succ
abbrev cO:=@List.map_nil
abbrev cQ:=@List.length_nil
abbrev cR:=@Heap.get?_update_self
abbrev cS:=@Bool.or_eq_true
abbrev cT:=@Bool.eq_iff_iff
abbrev cU:=@wpAny_dictEntries
abbrev cV:=@List.reverse_cons
abbrev cW:=@Heap.get?_push_ne
abbrev cX:=@List.reverse_reverse
abbrev cY:=@wpAny_tryCatch
abbrev cZ:=@List.take_zero
abbrev db:=@List.drop_eq_getElem_cons
abbrev de:=@wpAny_forIn_list
abbrev df:=@Nat.lt_succ_self
abbrev dg:=@Nat.le_add_right
abbrev dh:=@List.cons_append
abbrev di:=@wpAny_typeNameOf_keyiter
abbrev dj:=@Nat.lt_or_ge
abbrev dk:=@wpAny_ite_split
abbrev dm:=@wpAny_callSpecial?_slot
abbrev dq:=@tupleKind_room_in1
abbrev dr:=@plainId_quiet
abbrev dt:=@W.kia_one
abbrev du:=@Int.emod_nonneg
abbrev dw:=@wpAny_Call_method
abbrev dz:=@Nat.lt_succ_of_lt
abbrev dA:=@Nat.le_succ
abbrev dB:=@List.take_append_drop
abbrev dC:=@List.getElem?_eq_none
abbrev dD:=@List.any_eq_true
abbrev dE:=@Heap.size_update
abbrev dF:=@Nat.mul_le_mul_right
abbrev dG:=@List.mem_of_mem_take
abbrev dH:=@codeAny_builtin
abbrev dJ:=@List.nil_append
abbrev dL:=@Nat.zero_add
abbrev dM:=@Nat.eq_zero_or_pos
abbrev dO:=@Nat.add_sub_cancel
abbrev dP:=@List.find?_eq_none
abbrev dQ:=@wpAny_seqItems
abbrev dR:=@List.getElem?_zip_eq_some
abbrev dU:=@Heap.size_push
abbrev dW:=@wpAny_newObj_type
abbrev dX:=@List.take_sublist
abbrev dY:=@List.sublist_append_left
end
namespace L2
open PySem PySem.Spec PyProof.Rows
variable {A:Around}{C a b dx:Addr}{CX:uC}{D:mN}{E Q:Value->Shared->Prop}{H H':Hp}{K:W.Frag}{M:Model}{P:Program}{X:Cx}{body:List Stmt}{ch fp:List Addr}{e tg:Expr}{es:List Expr}{fd:FuncData}{g:TG}{h h':Heap}{i j t':Nat}{kw:List (Str×Value)}{m x:Str}{mA mg:Str->Option Value}{o:HO}{op:CmpOp}{p pos pos':Pos}{pins:List (Addr×Obj)}{pl:Sem Bool}{ps:List Str}{r:R2}{s s':Shared}{sp:Sp}{t ta te:TE}{tb:TS}{us:List Value}{v y:V}{vs xs:List V}{w:World}{σ:St}
abbrev gz:=Sum Int Str
def qI:gz->Value->Bool
 |.inl k,v=>Value.isInt k v
 |.inr x,v=>Value.isStrOf x v
def IB (w:World):gz->Int
 |.inl k=>hashInt k
 |.inr x=>hashStr w x
theorem gO:∀{k:gz} {v:Value},qI k v=true->(∃i t,k=Sum.inl i/\v=Value.int i t)\/(∃x t,k=Sum.inr x/\v=Value.str x t)
 |.inl i,v,h=>by
  obtain⟨t,e⟩:=Value.isInt_shape (k:=i) (v:=v) h;exact .inl ⟨i,t,rfl,e⟩
 |.inr x,v,h=>by
  obtain⟨t,e⟩:=Value.isStrOf_shape (x:=x) (v:=v) h;exact .inr ⟨x,t,rfl,e⟩
theorem yi (i:Int)(t:Tok):qI (.inl i) (.int i t)=true:=by simp[qI,Value.isInt]
theorem yh (x:Str)(t:Tok):qI (.inr x) (.str x t)=true:=by simp[qI,Value.isStrOf]
theorem Ep (a b:Int):decide ((Sum.inl a:gz)=Sum.inl b)=(a == b):=by
 by_cases e:a=b
 ·subst e;simp
 ·have h:¬(Sum.inl a:gz)=Sum.inl b:=λq=>e (Sum.inl.inj q);rw[au h];exact(beq_eq_false_iff_ne.mpr e).symm
theorem El (a b:Str):decide ((Sum.inr a:gz)=Sum.inr b)=decide (a=b):=by
 by_cases e:a=b
 ·subst e;simp
 ·have h:¬(Sum.inr a:gz)=Sum.inr b:=λq=>e (Sum.inr.inj q);rw[au h,au e]
theorem Eo (a:Int)(b:Str):decide ((Sum.inl a:gz)=Sum.inr b)=false:=au (λq=>nomatch q)
theorem Em (a:Str)(b:Int):decide ((Sum.inr a:gz)=Sum.inl b)=false:=au (λq=>nomatch q)
def fb (prog:Program)(w:World):PySem.KeyKind prog w gz where
 is:=qI
 hash:=IB w
 inj:=λv a b ha hb=>by
  rcases gO ha with ⟨i,t,rfl,rfl⟩ | ⟨x,t,rfl,rfl⟩
  ·rcases gO hb with ⟨j,u,rfl,e⟩ | ⟨y,u,rfl,e⟩
   ·injection e with e1 _;rw[e1]
   ·exact nomatch e
  ·rcases gO hb with ⟨j,u,rfl,e⟩ | ⟨y,u,rfl,e⟩
   ·exact nomatch e
   ·injection e with e1 _;rw[e1]
 byValue:=λk v h=>by
  rcases gO h with ⟨i,t,rfl,rfl⟩ | ⟨x,t,rfl,rfl⟩ <;> rfl
 pyHash:=λhv h=>by
  rcases gO hv with ⟨i,t,rfl,rfl⟩ | ⟨x,t,rfl,rfl⟩
  ·exact wpAny_pyHash_int h
  ·exact wpAny_pyHash_str h
 eqBool:=λhu hv h=>by
  rcases gO hu with ⟨i,t,rfl,rfl⟩ | ⟨x,t,rfl,rfl⟩
  ·rcases gO hv with ⟨j,u,rfl,rfl⟩ | ⟨y,u,rfl,rfl⟩
   ·rw[Ep]at h;exact wpAny_eqBool_int h
   ·rw[Eo]at h;exact SeqAt.EqAt.int_str i t y u _ _ _ _ h
  ·rcases gO hv with ⟨j,u,rfl,rfl⟩ | ⟨y,u,rfl,rfl⟩
   ·rw[Em]at h;exact SeqAt.EqAt.str_int x t j u _ _ _ _ h
   ·rw[El]at h;exact wpAny_eqBool_str h
 «strs»:=λk x t v h=>by
  rcases gO h with ⟨i,u,rfl,e⟩ | ⟨y,u,rfl,e⟩
  ·exact nomatch e
  ·injection e with e1 _
   subst e1;cases v <;> rfl
theorem t8 (prog:Program)(w:World)(i:Int)(t:Tok):(fb prog w).is (.inl i) (.int i t)=true:=yi i t
theorem t7 (prog:Program)(w:World)(x:Str)(t:Tok):(fb prog w).is (.inr x) (.str x t)=true:=yh x t
inductive V where
 |non | bl (b:Bool) | int (i:Int) | str (x:Str) | byt (b:Array UInt8) | flt (b:UInt64) | ref (a:Addr) | ty (n:String)
 deriving DecidableEq
def eZ:V->Value->Prop
 |.non,u=>u=Value.none
 |.bl b,u=>u=Value.bool b
 |.int i,u=>∃t,u=Value.int i t
 |.str x,u=>∃t,u=Value.str x t
 |.byt b,u=>∃t,u=Value.bytes b t
 |.flt b,u=>∃t,u=Value.float b t
 |.ref a,u=>u=Value.ref a
 |.ty n,u=>u=Value.type n
abbrev fU:List V->List Value->Prop:=Paired eZ
theorem fU.length (r:fU xs us):xs.length=us.length:=Paired.length r
theorem fU.get:∀{xs:List V} {us:List Value} {i:Nat} {x:V},fU xs us->xs[i]?=some x->∃u,us[i]?=some u/\eZ x u
 |_,_,_,_,.nil,e=>by simp at e
 |_,_,0,_,.cons r _,e=>by simp at e;subst e;exact⟨_,rfl,r⟩
 |_,_,i+1,x,.cons _ t,e=>by
  obtain⟨u,h1,h2⟩:=fU.get (i:=i) (x:=x) t (by simpa using e);exact⟨u,by simpa using h1,h2⟩
theorem fU.append:∀{xs ys:List V} {us ws:List Value},fU xs us->fU ys ws->fU (xs++ys) (us++ws)
 |_,_,_,_,.nil,s=>s
 |_,_,_,_,.cons r t,s=>.cons r (fU.append t s)
theorem fU.take:∀{xs:List V} {us:List Value} (n:Nat),fU xs us->fU (xs.take n) (us.take n)
 |_,_,0,_=>.nil
 |_,_,_+1,.nil=>.nil
 |_,_,n+1,.cons r t=>.cons r (fU.take n t)
theorem fU.drop:∀{xs:List V} {us:List Value} (n:Nat),fU xs us->fU (xs.drop n) (us.drop n)
 |_,_,0,r=>r
 |_,_,_+1,.nil=>.nil
 |_,_,n+1,.cons _ t=>fU.drop n t
def jB:Option V->Option Value->Prop
 |some v,some u=>eZ v u
 |none,none=>True
 |_,_=>False
def KV {κ:Type}:List (κ×V)->List (κ×Value)->Prop:=Paired λ(p:κ×V) (q:κ×Value)=>p.1=q.1/\eZ p.2 q.2
def kV:gz->V
 |.inl i=>.int i
 |.inr x=>.str x
inductive HO where
  |lst (xs:List V)
  |tup (xs:List V)
  |dK (kvs:List (gz×V)) | dT (kvs:List (List gz×V)) | dN (kvs:List (Option (List gz)×V))
  |set (S:Int->Bool) (n:Nat)
  |ins (C dx:Addr) (fs:List (Str×V))
  |own (x:Addr)
  |xd (fs:List (Str×V))
  |met (f x:Addr)
  |rng (lo hi:Int)
  |frz (o:Obj) (u:HO)
  |tbl (ps:Array Value)
  |ext (φ:Heap->Prop)
abbrev Hp:=Addr->Option HO
abbrev fV:=Option (List gz)
def v7 (H:Hp):fV->Value->Prop
 |none,u=>u=.none
 |some ks,u=>∃b,u=.ref b/\H b=some (.tup (ks.map kV))
def lU (P:Program)(w:World):fV->Int
 |none=>W.hashW w.params .none
 |some ks=>(tupleKind (fb P w)).hash ks
def uj (P:Program)(w:World)(x:fV×Value×Value):DictEntry:=⟨lU P w x.1,x.2.1,x.2.2⟩
abbrev Be (H:Hp):List (fV×V)->List (fV×Value×Value)->Prop:=Paired λp q=>p.1=q.1/\v7 H p.1 q.2.1/\eZ p.2 q.2.2
def upd (H:Hp)(a:Addr)(o:HO):Hp:=λb=>if b=a then some o else H b
theorem d0:upd H a o a=some o:=by unfold upd;rw[ax rfl]
theorem ef (h:b≠a):upd H a o b=H b:=by unfold upd;rw[av h]
theorem i6 {u:HO}:upd (upd H a o) a u=upd H a u:=by
 funext b;unfold upd;split <;> rfl
theorem fh {u:HO}(h:H a=some o)(h':H b=some u)(d:o≠u):a≠b:=by
 intro e;subst e;rw[h]at h';exact d (Option.some.inj h')
theorem et (h:H a=some o)(h':H b=none):a≠b:=by
 intro e;subst e;rw[h]at h';cases h'
section
variable (P:Program)(w:World)
def fR (H:Hp)(h:Heap)(a:Addr):HO->Prop
 |.lst xs=>xs.length<=sizeLine/\∃(its:List Value) (n:Nat),fU xs its/\h.get? a=some {cls:=.type "list",data:=.seq its.toArray n}
 |.tup xs=>xs.length<=sizeLine/\∃its:List Value,fU xs its/\IsTup h a its.toArray
 |.dK kvs=>kvs.length<=sizeLine/\(a == sysModules)=false/\∃vs,KV kvs vs/\h.DictOf (fb P w) a vs
 |.dT kvs=>kvs.length<=sizeLine/\(a == sysModules)=false/\∃xs:List (List gz×Addr×Value),
   Paired (λ(p:List gz×V) (q:List gz×Addr×Value)=>p.1=q.1/\H q.2.1=some (.tup (p.1.map kV))/\eZ p.2 q.2.2) kvs xs/\
   ∃o es ep,h.get? a=some o/\o.ExactDict/\o.data=.dict es ep/\es.toList=xs.map (entryOfKey (tupleKind (fb P w)))/\(xs.map (·.1)).Nodup
 |.dN kvs=>kvs.length<=sizeLine/\(a == sysModules)=false/\∃xs,Be H kvs xs/\∃o es ep,h.get? a=some o/\o.ExactDict/\o.data=.dict es ep/\es.toList=xs.map (uj P w)/\(xs.map (·.1)).Nodup
 |.set S n=>h.SetOf (intKind P w) a S n
 |.ins C dx fs=>H dx=some (.own a)/\fs.length<=1000/\dx≠a/\h.get? a=some (W.instObj C dx)/\
   ∃mA,h.Ns1 dx mA/\(∀f,jB (fs.lookup f) (mA f))/\PySem.Within mA (fs.map (·.1))
 |.own _=>∃o,h.get? a=some o
 |.xd fs=>∃mA,h.Ns1 a mA/\∀f,jB (fs.lookup f) (mA f)
 |.rng lo hi=>∃t u v,h.get? a=some {cls:=.type "range",data:=.fields #[.int lo t,.int hi u,.int 1 v]}
 |.frz o u=>h.get? a=some o/\fR H h a u
 |.tbl ps=>h.get? a=some {cls:=.none,data:=.fields ps}
 |.met f x=>h.get? a=some (W.methodObj (.ref f) (.ref x))
 |.ext φ=>φ h/\(∃o,h.get? a=some o)/\∀h1 h2:Heap,φ h1->(∀o,h1.get? a=some o->h2.get? a=some o)->φ h2
def lM (H:Hp)(h:Heap):Prop:=∀a o,H a=some o->fR P w H h a o
end
theorem fR.lt (x:fR P w H h a o):a<h.objs.size:=by
 cases o with
 |lst xs=>obtain⟨_,_,_,_,e⟩:=x;exact aS e
 |tup xs=>obtain⟨_,_,_,p⟩:=x;exact p.lt
 |dK kvs=>obtain⟨_,_,_,_,o,_,_,e,_⟩:=x;exact aS e
 |dT kvs=>obtain⟨_,_,_,_,o,_,_,e,_⟩:=x;exact aS e
 |dN kvs=>obtain⟨_,_,_,_,o,_,_,e,_⟩:=x;exact aS e
 |set S n=>obtain⟨o,_,_,_,e,_⟩:=x;exact aS e
 |ins C dx fs=>obtain⟨_,_,_,e,_⟩:=x;exact aS e
 |own y=>obtain⟨_,e⟩:=x;exact aS e
 |xd fs=>obtain⟨_,⟨_,_,_,e,_⟩,_⟩:=x;exact aS e
 |rng lo hi=>obtain⟨_,_,_,e⟩:=x;exact aS e
 |frz ob u=>obtain⟨e,_⟩:=x;exact aS e
 |tbl ps=>exact aS (show h.get? a=some _ from x)
 |met f y=>exact aS (show h.get? a=some _ from x)
 |ext φ=>obtain⟨_,⟨_,e⟩,_⟩:=x;exact aS e
theorem Paired.J4 {α β:Type}{F G:α->β->Prop}:∀{l₁:List α} {l₂:List β},Paired F l₁ l₂->(∀a b,F a b->G a b)->Paired G l₁ l₂
 |_,_,.nil,_=>.nil
 |_,_,.cons r t,f=>.cons (f _ _ r) (Paired.J4 t f)
theorem fR.J5 (x:fR P w H h a o)(k:∀b u,(b=a\/H b=some (.own a))->h.get? b=some u->h'.get? b=some u)(E:∀b,H b=some (.own a)->H' b=some (.own a))(A:∀b xs,H b=some (.tup xs)->H' b=some (.tup xs)):fR P w H' h' a o:=by
 induction o with
 |lst xs=>obtain⟨z,l,n,r,e⟩:=x;exact⟨z,l,n,r,k _ _ (.inl rfl) e⟩
 |tup xs=>obtain⟨z,l,r,g,e,c⟩:=x;exact⟨z,l,r,g,k _ _ (.inl rfl) e,c⟩
 |dK kvs=>obtain⟨z,y,G,r,g,i,j,e,c⟩:=x;exact⟨z,y,G,r,g,i,j,k _ _ (.inl rfl) e,c⟩
 |dT kvs=>
  obtain⟨z,y,xs,r,g,i,j,e,c⟩:=x;exact⟨z,y,xs,Paired.J4 r λp q z=>⟨z.1,A _ _ z.2.1,z.2.2⟩,g,i,j,k _ _ (.inl rfl) e,c⟩
 |dN kvs=>
  obtain⟨z,y,xs,r,g,i,j,e,c⟩:=x;refine⟨z,y,xs,Paired.J4 r λp q z=>⟨z.1,?_,z.2.2⟩,g,i,j,k _ _ (.inl rfl) e,c⟩;obtain⟨D,L⟩:=p;cases D with
  |none=>exact z.2.1
  |some ks=>obtain⟨b,F,I⟩:=z.2.1;exact⟨b,F,A _ _ I⟩
 |set S n=>obtain⟨g,i,j,t,e,c⟩:=x;exact⟨g,i,j,t,k _ _ (.inl rfl) e,c⟩
 |ins C dx fs=>
  obtain⟨d,z,J,e,m,⟨s,i,j,K,c⟩,r⟩:=x;exact⟨E _ d,z,J,k _ _ (.inl rfl) e,m,⟨s,i,j,k _ _ (.inr d) K,c⟩,r⟩
 |own y=>obtain⟨g,e⟩:=x;exact⟨g,k _ _ (.inl rfl) e⟩
 |xd fs=>obtain⟨m,⟨s,i,j,e,c⟩,r⟩:=x;exact⟨m,⟨s,i,j,k _ _ (.inl rfl) e,c⟩,r⟩
 |rng lo hi=>obtain⟨t,u,v,e⟩:=x;exact⟨t,u,v,k _ _ (.inl rfl) e⟩
 |frz g u ih=>obtain⟨e,q⟩:=x;exact⟨k _ _ (.inl rfl) e,ih q⟩
 |tbl ps=>
  have e:h.get? a=some {cls:=.none,data:=.fields ps}:=x;show h'.get? a=some {cls:=.none,data:=.fields ps};exact k a _ (.inl rfl) e
 |met f y=>
  have e:h.get? a=some (W.methodObj (.ref f) (.ref y)):=x;show h'.get? a=some (W.methodObj (.ref f) (.ref y));exact k a _ (.inl rfl) e
 |ext φ=>obtain⟨p,⟨o,e⟩,B⟩:=x;exact⟨B _ _ p λo q=>k _ _ (.inl rfl) q,⟨o,k _ _ (.inl rfl) e⟩,B⟩
theorem lM.lt (x:lM P w H h)(e:H a=some o):a<h.objs.size:=(x a o e).lt
theorem lM.fresh (x:lM P w H h)(e:h.objs.size<=a):H a=none:=by
 cases q:H a with
 |none=>rfl
 |some u=>exact absurd (bg (x.lt q) e) (cE _)
theorem lM.kept (x:lM P w H h)(k:∀b u,h.get? b=some u->h'.get? b=some u):lM P w H h':=λa o e=>
 (x a o e).J5 (λb u _ q=>k b u q) (λ_ q=>q) λ_ _ q=>q
theorem lM.laid (x:lM P w H h)(k:∀b u,h.get? b=some u->h'.get? b=some u)(hp:h.objs.size<=a)(new:fR P w (upd H a o) h' a o):lM P w (upd H a o) h':=λb u e=>by
 have hn:=x.fresh hp;by_cases hb:b=a
 ·subst hb;rw[d0]at e;cases e;exact new
 ·rw[ef hb]at e;exact(x b u e).J5 (λc v _ q=>k c v q) (λc q=>by rw[ef (et q hn)];exact q) λc xs q=>by rw[ef (et q hn)];exact q
def Rd (H:Hp)(a:Addr)(u:HO):Prop:=H a=some u\/∃o,H a=some (.frz o u)
theorem Rd.ok {u:HO}(r:Rd H a u)(x:lM P w H h):fR P w H h a u:=by
 rcases r with r | ⟨o,r⟩
 ·exact x a u r
 ·obtain⟨_,q⟩:=x a _ r;exact q
def GI:Option HO->Prop
 |some (.lst _)=>True
 |some (.dK _)=>True
 |some (.dT _)=>True
 |some (.dN _)=>True
 |some (.set _ _)=>True
 |some (.ins _ _ _)=>True
 |some (.ext _)=>True
 |_=>False
section
variable {x e:Addr}{o':HO}
theorem lM.write (ok:lM P w H h)(a:GI (H x))(g:e=x\/H e=some (.own x))(k:∀b u,b≠e->h.get? b=some u->h'.get? b=some u)(d:∃u,h'.get? e=some u)(new:fR P w (upd H x o') h' x o'):lM P w (upd H x o') h':=λb u q=>by
 have nown:∀c y,H c=some (.own y)->c≠x:=λc y r z=>by subst z;rw[r]at a;exact a
 have ntup:∀c xs,H c=some (.tup xs)->c≠x:=λc xs r z=>by subst z;rw[r]at a;exact a
 by_cases hb:b=x
 ·subst hb;rw[d0]at q;cases q;exact new
 ·rw[ef hb]at q;by_cases hbe:b=e
  ·have q':H b=some (.own x):=by
    rcases g with z | z
    ·exact absurd (hbe.trans z) hb
    ·rw[hbe];exact z
   rw[q]at q';cases q';obtain⟨v,i⟩:=d;exact⟨v,by rw[hbe];exact i⟩
  ·refine(ok b u q).J5 (λc v hc r=>k c v ?_ r) (λc r=>by rw[ef (nown c b r)];exact r) λc xs r=>by rw[ef (ntup c xs r)];exact r
   rcases hc with rfl | hc
   ·exact hbe
   ·rintro rfl;rcases g with z | z
    ·exact nown c b hc z
    ·rw[hc]at z;cases z;exact hb rfl
end
structure Un (fs ex:List Addr)(H H':Hp)(h h':Heap):Prop where
 keep:∀b o,h.get? b=some o->H b=none->b∉fs->b∉ex->h'.get? b=some o
 slot:∀b o,h.get? b=some o->H b=none->b∈fs->b∉ex->∃sl,h'.get? b=some {o with slots:=sl}
 free:∀b o,h.get? b=some o->H b=none->b∉ex->H' b=none
 there:∀b o,h.get? b=some o->b∉ex->∃o',h'.get? b=some o'
 tups:∀b xs,H b=some (.tup xs)->H' b=some (.tup xs)
 frzs:∀b o u,H b=some (.frz o u)->H' b=some (.frz o u)
 tbls:∀b ps,H b=some (.tbl ps)->∃more,H' b=some (.tbl (ps++more))
section
variable {fs fs' ex ex':List Addr}{H1 H2:Hp}{h1 h2:Heap}{x e:Addr}
theorem Un.any (u:Un fs ex H H1 h h1){ob:Obj}(q:h.get? b=some ob)(n:H b=none)(a:b∉ex):∃sl,h1.get? b=some {ob with slots:=sl}:=by
 by_cases hb:b∈fs
 ·exact u.slot b ob q n hb a
 ·exact⟨ob.slots,u.keep b ob q n hb a⟩
theorem Un.kept (k:∀b u,h.get? b=some u->h'.get? b=some u):Un fs ex H H h h':=
 ⟨λb ob q _ _ _=>k b ob q,λb ob q _ _ _=>⟨ob.slots,k b ob q⟩,λ_ _ _ n _=>n,λb ob q _=>⟨ob,k b ob q⟩,λ_ _ q=>q,λ_ _ _ q=>q,λ_ ps q=>⟨#[],by rw[q];simp⟩⟩
theorem Un.refl:Un fs ex H H h h:=Un.kept λ_ _ q=>q
theorem Un.laid (k:∀b u,h.get? b=some u->h'.get? b=some u)(hp:h.objs.size<=a)(hn:H a=none):Un fs ex H (upd H a o) h h' where
 keep:=λb u q _ _ _=>k b u q
 slot:=λb u q _ _ _=>⟨u.slots,k b u q⟩
 free:=λb u q n _=>by rw[ef (aW (bg (aS q) hp))];exact n
 there:=λb u q _=>⟨u,k b u q⟩
 tups:=λb xs q=>by rw[ef (et q hn)];exact q
 frzs:=λb u xs q=>by rw[ef (et q hn)];exact q
 tbls:=λb ps q=>⟨#[],by rw[ef (et q hn),q];simp⟩
theorem Un.write (a:GI (H x))(m:e=x\/H e=some (.own x))(k:∀b u,b≠e->h.get? b=some u->h'.get? b=some u)(g:∃u,h'.get? e=some u):Un fs ex H (upd H x o) h h':=by
 have j:∀b,H b=none->b≠x:=λb n z=>by subst z;rw[n]at a;exact a
 have i:∀b,H b=none->b≠e:=λb n z=>by
  subst z;rcases m with r | r
  ·exact j b n r
  ·rw[n]at r;cases r
 have d:∀b u,H b=some u->¬GI (some u)->b≠x:=λb u q l z=>by subst z;rw[q]at a;exact l a
 refine⟨λb u q n _ _=>k b u (i b n) q,λb u q n _ _=>⟨u.slots,k b u (i b n) q⟩,λb u q n _=>by rw[ef (j b n)];exact n,λb u q _=>?_,
  λb p q=>by rw[ef (d b _ q λz=>z)];exact q,λb u p q=>by rw[ef (d b _ q λz=>z)];exact q,λb s q=>⟨#[],by rw[ef (d b _ q λz=>z),q];simp⟩⟩
 by_cases hbe:b=e
 ·subst hbe;exact g
 ·exact⟨u,k b u hbe q⟩
end
def Hq (h:Heap)(H:Hp):List Addr:=(List.range h.objs.size).filter λa=>(H a).isSome
def qj (h:Heap)(H:Hp):Heap:=W.hideAll h (Hq h H)
theorem ym (h:Heap)(H:Hp):(qj h H).objs.size=h.objs.size:=W.hideAll_size _ _
theorem Az {o:Obj}(e:h.get? b=some o)(n:H b=none):(qj h H).get? b=some o:=
 W.hideAll_get _ e λhm=>by
  have q:(H b).isSome=true:=(aZ.mp hm).2;rw[n]at q;simp at q
theorem Ci {o:Obj}(e:(qj h H).get? b=some o):h.get? b=some o/\H b=none:=by
 have a:h.get? b=some o:=W.of_hideAll (Hq h H) e;refine⟨a,?_⟩;cases q:H b with
 |none=>rfl
 |some x=>
  have d:b∈Hq h H:=aZ.mpr ⟨List.mem_range.mpr (aS a),by simp[q]⟩;have z:(qj h H).get? b=none:=W.hideAll_none (Hq h H) d;rw[z]at e;cases e
structure Mod (K:W.Frag)(mg:Str->Option Value)(base:Heap):Prop where
 kin:K.In base
 glob:base.Ns mainGlobals mg
 blt:∃mb,base.Ns builtinsNs mb/\∀x:Str,x≠"__name__"->mb x=bootBuiltins x
 nolimit:base.NoLimit
structure Cx where
 prog:Program
 w:World
 K:W.Frag
 mg:Str->Option Value
 base:Heap
 A:Around
 N:List Str
 s₀:Shared
 H₀:Hp
 env:Env
 outer:List Env
 stack:List Env
 ex:List Addr
 fn:Str->Bool
 calm:Bool
 pn:List (Addr×Obj)
 xe:Value->Shared->Prop
def AF (l:List Env):List Addr:=l.filterMap (·.frame)
abbrev Cx.fs (X:Cx):List Addr:=AF X.outer
def CO (sc:Scope)(x:Str):Prop:=sc.names.lookup x=some .local\/sc.names.lookup x=some .cell\/sc.names.lookup x=some .free
def GL (sc:Scope)(x:Str):Prop:=sc.names.lookup x=some .local\/sc.names.lookup x=some .cell
def IV (env:Env)(h:Heap)(m:Str->Option Value)(x:Str)(u:Value):Prop:=
 (env.kindOf x=some .local/\m x=some u)\/((env.kindOf x=some .cell\/env.kindOf x=some .free)/\∃c,env.cells.lookup x=some c/\h.IsCell c (some u))
structure Cx.Ok (X:Cx):Prop where
 mod:Mod X.K X.mg X.base
 kind:X.env.scope.kind=.function
 glob:X.env.globals=mainGlobals
 blt:X.env.builtins=builtinsNs
 above:X.s₀.heap.objs.size<=X.env.locals
 inj:∀x y c,X.env.cells.lookup x=some c->X.env.cells.lookup y=some c->x=y
 has:∀x,(X.env.kindOf x=some .cell\/X.env.kindOf x=some .free)->∃c,X.env.cells.lookup x=some c
 cab:∀x c,X.fn x=true->X.env.cells.lookup x=some c->X.s₀.heap.objs.size<=c
 hd:X.calm=true->X.A.handled=none
 frames:X.A.frames=some X.stack
 stk:X.stack=X.outer\/(X.stack=X.env::X.outer/\X.env.frame=some X.env.locals)
 exf:∀b∈X.ex,b≠X.env.locals/\∀x c,X.env.cells.lookup x=some c->c≠b
 bs:∀b o,X.base.get? b=some o->X.s₀.heap.get? b=some o/\X.H₀ b=none
 bsz:X.base.objs.size<=X.s₀.heap.objs.size
 noex:∀b o,X.base.get? b=some o->b∉X.ex
 exfs:∀b∈X.ex,b∉X.fs
 funs:X.s₀.heap.FunFrames X.base X.outer
 frf:∀b∈X.fs,X.H₀ b=none
structure eT (X:Cx)(pins:List (Addr×Obj))(σ:List (Option V))(H:Hp)(s:Shared):Prop where
 ok:X.Ok
 os:s.os=X.s₀.os
 bare:AllBare s.gens
 base:Un X.fs X.ex X.H₀ H X.s₀.heap s.heap
 loc:∃m,s.heap.Ns X.env.locals m/\∀(i:Nat) (x:Str) (v:V),X.N[i]?=some x->σ[i]?=some (some v)->CO X.env.scope x->∃u,eZ v u/\IV X.env s.heap m x u
 cell:∀x c,X.env.cells.lookup x=some c->∃v,s.heap.IsCell c v
 free:H X.env.locals=none
 freeC:∀x c,X.env.cells.lookup x=some c->H c=none
 pin:∀p∈X.pn++pins,s.heap.get? p.1=some p.2/\H p.1=none/\p.1≠X.env.locals/\p.1∉X.fs/\∀v,p.2.data≠.cell v
 hok:lM X.prog X.w H s.heap
 len:σ.length=X.N.length
section
variable {σ:List (Option V)}
theorem Cx.Ok.J6 (ok:X.Ok){o:Obj}(e:X.base.get? b=some o):b∉X.fs:=λhb=>by
 have:=(ok.funs.mem hb).1;rw[e]at this;cases this
theorem eT.bs (I:eT X pins σ H s):∀b o,X.base.get? b=some o->s.heap.get? b=some o/\H b=none:=λb o e=>
 ⟨I.base.keep b o (I.ok.bs b o e).1 (I.ok.bs b o e).2 (I.ok.J6 e) (I.ok.noex b o e),I.base.free b o (I.ok.bs b o e).1 (I.ok.bs b o e).2 (I.ok.noex b o e)⟩
theorem eT.bk (I:eT X pins σ H s):∀b o,X.base.get? b=some o->s.heap.get? b=some o:=λb o e=>(I.bs b o e).1
theorem eT.mod (I:eT X pins σ H s):Mod X.K X.mg X.base:=I.ok.mod
theorem eT.kIn (I:eT X pins σ H s):X.K.In s.heap:=I.ok.mod.kin.keeps I.bk
theorem eT.nolimit (I:eT X pins σ H s):s.heap.NoLimit:=I.ok.mod.nolimit.keeps I.bk
theorem eT.lt (I:eT X pins σ H s):X.env.locals<s.heap.objs.size:=(by obtain⟨_,hn,_⟩:=I.loc;exact hn.lt)
theorem eT.sz (I:eT X pins σ H s):X.s₀.heap.objs.size<=s.heap.objs.size:=bz I.ok.above (cA I.lt)
theorem eT.J7 (I:eT X pins σ H s)(h:s.heap.objs.size<=a):a∉X.fs:=λhb=>by
 obtain⟨_,o,ho,_⟩:=I.ok.funs.mem hb;exact absurd (bg (aS ho) (bz I.sz h)) (cE _)
theorem eT.cne (I:eT X pins σ H s):∀x c,X.env.cells.lookup x=some c->c≠X.env.locals:=λx c e z=>by
 obtain⟨v,o,ho,hd⟩:=I.cell x c e;obtain⟨m,⟨o',es,ep,ho',hd',_⟩,_⟩:=I.loc;rw[z,ho']at ho;cases ho;rw[hd']at hd;cases hd
theorem eT.funs (I:eT X pins σ H s):s.heap.FunFrames X.base X.outer:=by
 have all:∀(l:List Env),(∀b∈AF l,b∈X.fs)->X.s₀.heap.FunFrames X.base l->s.heap.FunFrames X.base l:=by
  intro l
  induction l with
  |nil=>intro _ _;trivial
  |cons env r ih=>
   intro hs j;obtain⟨p,⟨L,o,a,hn,i,h⟩,m⟩:=j;have g:L∈X.fs:=hs L (by unfold AF;rw[List.filterMap_cons,a];exact bt);obtain⟨q,e⟩:=I.base.slot L o i (I.ok.frf L g) g λz=>I.ok.exfs L z g;exact⟨p,⟨L,_,a,hn,e,h⟩,ih (λb d=>hs b (by unfold AF;rw[List.filterMap_cons,a];exact bc _ d)) m⟩
 exact all X.outer (λ_ d=>d) I.ok.funs
theorem eT.stack (I:eT X pins σ H s):s.heap.FunFrames X.base X.stack:=by
 rcases I.ok.stk with e | ⟨e,a⟩
 ·rw[e];exact I.funs
 ·rw[e];obtain⟨m,hn,_⟩:=I.loc;refine .cons (by rw[I.ok.kind];decide) a hn ?_ I.funs;exact bi (bz I.ok.bsz I.ok.above)
theorem eT.J8 (I:eT X pins σ H s):∀b∈AF X.stack,b∈X.env.locals::X.fs:=λb hb=>by
 rcases I.ok.stk with e | ⟨e,hf⟩
 ·rw[e]at hb;exact bc _ hb
 ·rw[e]at hb;unfold AF at hb;rw[List.filterMap_cons,hf]at hb;exact hb
theorem eT.J9 (I:eT X pins σ H s):∀b∈AF X.stack,H b=none:=λb hb=>by
 rcases am.mp (I.J8 b hb) with e | hb
 ·rw[e];exact I.free
 ·obtain⟨_,o,ho,_⟩:=I.ok.funs.mem hb;exact I.base.free b o ho (I.ok.frf b hb) λz=>I.ok.exfs b z hb
theorem eT.step {g':Array GenState}{d':Drawn}(I:eT X pins σ H s)(j:∀b∈ch,(b∈X.ex\/X.s₀.heap.get? b=none)/\b≠X.env.locals/\(∀x c,X.env.cells.lookup x=some c->c≠b)/\∀p∈X.pn++pins,p.1≠b)(keep:∀b o,b≠X.env.locals->b∉X.fs->b∉ch->s.heap.get? b=some o->H b=none->h'.get? b=some o)(slot:∀b o,b≠X.env.locals->b∈X.fs->b∉ch->s.heap.get? b=some o->H b=none->∃sl,h'.get? b=some {o with slots:=sl})(free:∀b o,b∉ch->s.heap.get? b=some o->H b=none->H' b=none)(there:∀b o,b∉ch->s.heap.get? b=some o->∃o',h'.get? b=some o')(tups:∀b xs,H b=some (.tup xs)->H' b=some (.tup xs))(frzs:∀b o u,H b=some (.frz o u)->H' b=some (.frz o u))(tbls:∀b ps,H b=some (.tbl ps)->∃more,H' b=some (.tbl (ps++more)))(ns:∀m,s.heap.Ns X.env.locals m->h'.Ns X.env.locals m)(F:lM X.prog X.w H' h')(M:AllBare g'):eT X pins σ H' {s with heap:=h',gens:=g',drawn:=d',toks:=t'}:=by
 have C:∀b o,X.s₀.heap.get? b=some o->b≠X.env.locals:=λb o e=>aW (bg (aS e) I.ok.above);have t:∀b o,X.s₀.heap.get? b=some o->b∉X.ex->b∉ch:=λb o e a A=>by
  rcases (j b A).1 with z | z
  ·exact a z
  ·rw[e]at z;cases z
 have g:∀x c,X.env.cells.lookup x=some c->∀v,s.heap.IsCell c v->h'.IsCell c v:=λx c e v ⟨o,B,E⟩=>by
  have h:c∉ch:=λz=>(j c z).2.2.1 x c e rfl;by_cases hc:c∈X.fs
  ·obtain⟨sl,q⟩:=slot c o (I.cne x c e) hc h B (I.freeC x c e);exact⟨_,q,E⟩
  ·exact⟨o,keep c o (I.cne x c e) hc h B (I.freeC x c e),E⟩
 refine⟨I.ok,I.os,M,⟨λb o e n A a=>?_,λb o e n A a=>?_,λb o e n a=>?_,λb o e a=>?_,λb xs e=>tups b xs (I.base.tups b xs e),λb o xs e=>frzs b o xs (I.base.frzs b o xs e),λb ps e=>?_⟩,?_,λx c e=>?_,?_,λx c e=>?_,λp hp=>?_,F,I.len⟩
 ·exact keep b o (C b o e) A (t b o e a) (I.base.keep b o e n A a) (I.base.free b o e n a)
 ·obtain⟨sl,y⟩:=I.base.slot b o e n A a;obtain⟨G,D⟩:=slot b _ (C b o e) A (t b o e a) y (I.base.free b o e n a);exact⟨G,D⟩
 ·obtain⟨o',y⟩:=I.base.there b o e a;exact free b o' (t b o e a) y (I.base.free b o e n a)
 ·obtain⟨o',y⟩:=I.base.there b o e a;exact there b o' (t b o e a) y
 ·obtain⟨O,y⟩:=I.base.tbls b ps e;obtain⟨L,D⟩:=tbls b _ y;exact⟨O++L,by rw[D,Array.append_assoc]⟩
 ·obtain⟨m,hn,N⟩:=I.loc;refine⟨m,ns m hn,λi x v y D P=>?_⟩;obtain⟨u,r,l⟩:=N i x v y D P;refine⟨u,r,?_⟩;rcases l with l | ⟨k,c,e,z⟩
  ·exact .inl l
  ·exact .inr ⟨k,c,e,g x c e _ z⟩
 ·obtain⟨v,z⟩:=I.cell x c e;exact⟨v,g x c e v z⟩
 ·obtain⟨m,⟨o,_,_,B,_⟩,_⟩:=I.loc;exact free _ o (λz=>(j _ z).2.1 rfl) B I.free
 ·obtain⟨v,o,B,E⟩:=I.cell x c e;exact free c o (λz=>(j c z).2.2.1 x c e rfl) B (I.freeC x c e)
 ·obtain⟨e,n,J,K,d⟩:=I.pin p hp;have h:p.1∉ch:=λz=>(j p.1 z).2.2.2 p hp rfl;exact⟨keep p.1 p.2 J K h e n,free p.1 p.2 h e n,J,K,d⟩
theorem eT.un (I:eT X pins σ H s)(u:Un X.fs [] H H' s.heap h')(g:lM X.prog X.w H' h'):eT X pins σ H' {s with heap:=h',toks:=t'}:=by
 obtain⟨m,⟨o,t,y,j,r⟩,_⟩:=id I.loc;obtain⟨A,q⟩:=u.any j I.free (by simp)
 exact I.step (g':=s.gens) (d':=s.drawn) (ch:=[]) (λ_ z=>nomatch z) (λb o _ d _ e n=>u.keep b o e n d (by simp)) (λb o _ d _ e n=>u.slot b o e n d (by simp)) (λb o _ e n=>u.free b o e n (by simp)) (λb o _ e=>u.there b o e (by simp)) u.tups u.frzs u.tbls (λx p=>by
  obtain⟨v,i,h,a,l⟩:=p;rw[j]at a;cases a
  exact⟨_,i,h,q,l⟩) g I.bare
theorem eT.call {g':Array GenState}{d':Drawn}(I:eT X pins σ H s)(u:Un (AF X.stack) ch H H' s.heap h')(h:lM X.prog X.w H' h')(y:AllBare g')(g:∀b∈ch,(b∈X.ex\/X.s₀.heap.get? b=none)/\b≠X.env.locals/\(∀x c,X.env.cells.lookup x=some c->c≠b)/\∀p∈X.pn++pins,p.1≠b):eT X pins σ H' {s with heap:=h',gens:=g',drawn:=d',toks:=t'}:=by
 obtain⟨m,⟨o,B,E,q,r⟩,_⟩:=id I.loc;obtain⟨F,j⟩:=u.any q I.free λz=>(g _ z).2.1 rfl
 exact I.step (ch:=ch) g (λb o j v a e n=>u.keep b o e n (λz=>(am.mp (I.J8 b z)).elim j v) a) (λb o _ _ a e n=>u.any e n a) (λb o a e n=>u.free b o e n a) (λb o a e=>u.there b o e a) u.tups u.frzs u.tbls (λD A=>by
  obtain⟨C,l,i,d,t⟩:=A;rw[q]at d;cases d
  exact⟨_,l,i,j,t⟩) h y
theorem eT.turned {it:Addr}(I:eT X pins σ H s)(k:∀b o,b≠it->s.heap.get? b=some o->h'.get? b=some o)(hn:H it=none)(g:it≠X.env.locals)(A:it∈X.ex\/X.s₀.heap.get? it=none)(i:∀x c,X.env.cells.lookup x=some c->c≠it)(t:∀p∈X.pn++pins,p.1≠it):eT X pins σ H {s with heap:=h',toks:=t'}:=by
 have d:∀b u,H b=some u->b≠it:=λb u e z=>by rw[z,hn]at e;cases e
 refine I.step (g':=s.gens) (d':=s.drawn) (ch:=[it]) (λb l=>?_) (λb o _ _ a e _=>k b o (λz=>a (by simp[z])) e) (λb o _ _ a e _=>⟨o.slots,k b o (λz=>a (by simp[z])) e⟩) (λ_ _ _ _ n=>n)
  (λb o a e=>⟨o,k b o (λz=>a (by simp[z])) e⟩) (λ_ _ e=>e) (λ_ _ _ e=>e) (λb B e=>⟨#[],by rw[e];simp⟩) (λm w=>?_) (λb u e=>?_) I.bare
 ·have e:b=it:=by simpa using l
  subst e;exact⟨A,g,i,t⟩
 ·obtain⟨o,j,y,h,r⟩:=w;exact⟨o,j,y,k _ o (Ne.symm g) h,r⟩
 ·refine(I.hok b u e).J5 (λc v a q=>k c v ?_ q) (λ_ q=>q) λ_ _ q=>q;rcases a with z | z
  ·rw[z];exact d b u e
  ·exact d c _ z
theorem eT.tok (I:eT X pins σ H s)(t:Nat):eT X pins σ H {s with toks:=t}:=I.un (h':=s.heap) (t':=t) Un.refl I.hok
theorem eT.kept (I:eT X pins σ H s)(k:∀b u,s.heap.get? b=some u->h'.get? b=some u):eT X pins σ H {s with heap:=h',toks:=t'}:=I.un (Un.kept k) (I.hok.kept k)
theorem eT.laid (I:eT X pins σ H s)(k:∀b u,s.heap.get? b=some u->h'.get? b=some u)(hp:s.heap.objs.size<=a)(new:fR X.prog X.w (upd H a o) h' a o):eT X pins σ (upd H a o) {s with heap:=h',toks:=t'}:=I.un (Un.laid k hp (I.hok.fresh hp)) (I.hok.laid k hp new)
theorem eT.write {x e:Addr}(I:eT X pins σ H s)(mu:GI (H x))(he:e=x\/H e=some (.own x))(k:∀b u,b≠e->s.heap.get? b=some u->h'.get? b=some u)(heo:∃u,h'.get? e=some u)(new:fR X.prog X.w (upd H x o) h' x o):eT X pins σ (upd H x o) {s with heap:=h',toks:=t'}:=I.un (Un.write mu he k heo) (I.hok.write mu he k heo new)
theorem eT.weak {σ':List (Option V)}(I:eT X pins σ H s)(hl:σ'.length=σ.length)(w:∀(i:Nat) v,σ'[i]?=some (some v)->σ[i]?=some (some v)):eT X pins σ' H s:=
 ⟨I.ok,I.os,I.bare,I.base,(by obtain⟨m,hn,hl'⟩:=I.loc;exact⟨m,hn,λi x v e1 e2 e3=>hl' i x v e1 (w i v e2) e3⟩),I.cell,I.free,I.freeC,I.pin,I.hok,hl.trans I.len⟩
theorem eT.Ka {pins':List (Addr×Obj)}(I:eT X pins σ H s)(h:∀p∈pins',s.heap.get? p.1=some p.2/\H p.1=none/\p.1≠X.env.locals/\p.1∉X.fs/\∀v,p.2.data≠.cell v):eT X pins' σ H s:=
 ⟨I.ok,I.os,I.bare,I.base,I.loc,I.cell,I.free,I.freeC,λp hp=>(aD.mp hp).elim (λz=>I.pin p (aP _ z)) (h p),I.hok,I.len⟩
theorem tY {N:List Str}(e:N.Nodup)(a:N[i]?=some x)(b:N[j]?=some x):i=j:=by
 obtain⟨h,d⟩:=af.mp a;obtain⟨l,g⟩:=af.mp b;exact(List.getElem_inj e).mp (d.trans g.symm)
theorem qw {u:Value}{Q:Unit->Shared->Prop}(I:eT X pins σ H s)(hN:X.N.Nodup)(R:X.N[i]?=some x)(t:GL X.env.scope x)(r:eZ v u)(h:∀s',eT X pins (σ.set i (some v)) H s'->(∃a,Heap.SameBut a s.heap s'.heap/\(a=X.env.locals\/X.env.cells.lookup x=some a))->Q () s')(hf:X.fn x=true\/X.env.scope.names.lookup x=some .local:=by first | exact .inl rfl | exact .inr rfl | assumption):wpAny M A (storeName X.env x u) Q E s:=by
 obtain⟨m,hn,hl⟩:=id I.loc;have P:(X.env.scope.kind == .class||(X.env.scope.kind == .module&&X.env.locals != X.env.globals))=false:=by rw[I.ok.kind];rfl
 have O:i<σ.length:=by rw[I.len];exact(af.mp R).1
 have cne:=I.cne;have g:∀{a:Addr} {G:Heap},(∃o,s.heap.get? a=some o/\H a=none)->Heap.SameBut a s.heap G->lM X.prog X.w H G:=λ{a G} ha hs b ob e=>by
  obtain⟨_,_,B⟩:=ha;refine(I.hok b ob e).J5 (λc S hc q=>(hs.2 c ?_).trans q) (λ_ q=>q) λ_ _ q=>q;rintro rfl;rcases hc with rfl | hc
  ·rw[B]at e;cases e
  ·rw[B]at hc;cases hc
 rcases t with hk | hk
 ·refine wpAny_storeName_local hk hn (λG hn' hs=>?_) P;obtain⟨oL,_,_,aa,_⟩:=id hn;refine h _ ⟨I.ok,I.os,I.bare,⟨λb o e n D t=>?_,λb o e n D t=>?_,I.base.free,λb o e t=>?_,I.base.tups,I.base.frzs,I.base.tbls⟩,⟨_,hn',λj y Z l C e3=>?_⟩,λy c e=>?_,I.free,I.freeC,λp hp=>?_,g ⟨oL,aa,I.free⟩ hs,by simpa using I.len⟩ ⟨_,hs,.inl rfl⟩
  ·exact(hs.2 b (aW (bg (aS e) I.ok.above))).trans (I.base.keep b o e n D t)
  ·obtain⟨sl,l⟩:=I.base.slot b o e n D t;exact⟨sl,(hs.2 b (aW (bg (aS e) I.ok.above))).trans l⟩
  ·obtain⟨o',l⟩:=I.base.there b o e t;exact⟨o',(hs.2 b (aW (bg (aS e) I.ok.above))).trans l⟩
  ·by_cases hj:j=i
   ·subst hj;rw[R]at l;cases l;rw[List.getElem?_set_self O]at C;cases C;exact⟨u,r,.inl ⟨hk,by simp⟩⟩
   ·rw[List.getElem?_set_ne (Ne.symm hj)]at C;obtain⟨u',Y,q⟩:=hl j y Z l C e3;refine⟨u',Y,?_⟩;rcases q with ⟨k,e⟩ | ⟨k,c,e,z⟩
    ·refine .inl ⟨k,?_⟩;have:y≠x:=λe=>hj (tY hN l (e▸R));simp[this,e]
    ·exact .inr ⟨k,c,e,z.sameBut hs (cne y c e)⟩
  ·obtain⟨S,z⟩:=I.cell y c e;exact⟨S,z.sameBut hs (cne y c e)⟩
  ·obtain⟨e,n,U,nf,d⟩:=I.pin p hp;exact⟨(hs.2 p.1 U).trans e,n,U,nf,d⟩
 ·have F:X.fn x=true:=by
   rcases hf with z | z
   ·exact z
   ·rw[z]at hk;cases hk
  obtain⟨c,hc⟩:=I.ok.has x (.inl hk);obtain⟨S,z⟩:=I.cell x c hc;refine wpAny_storeName_cell I.ok.kind hk hc z (λG L hs=>?_);obtain⟨oc,J,K⟩:=id z;refine h {s with heap:=G} ⟨I.ok,I.os,I.bare,⟨λb o e n D t=>?_,λb o e n D t=>?_,I.base.free,λb o e t=>?_,I.base.tups,I.base.frzs,I.base.tbls⟩,⟨m,hn.sameBut hs (Ne.symm (cne x c hc)),λj y Z l C e3=>?_⟩,λy T e=>?_,I.free,I.freeC,λp hp=>?_,g ⟨oc,J,I.freeC x c hc⟩ hs,by simpa using I.len⟩ ⟨c,hs,.inr hc⟩
  ·exact(hs.2 b (aW (bg (aS e) (I.ok.cab x c F hc)))).trans (I.base.keep b o e n D t)
  ·obtain⟨sl,l⟩:=I.base.slot b o e n D t;exact⟨sl,(hs.2 b (aW (bg (aS e) (I.ok.cab x c F hc)))).trans l⟩
  ·obtain⟨o',l⟩:=I.base.there b o e t;exact⟨o',(hs.2 b (aW (bg (aS e) (I.ok.cab x c F hc)))).trans l⟩
  ·by_cases hj:j=i
   ·subst hj;rw[R]at l;cases l;rw[List.getElem?_set_self O]at C;cases C;exact⟨u,r,.inr ⟨.inl hk,c,hc,L⟩⟩
   ·rw[List.getElem?_set_ne (Ne.symm hj)]at C;obtain⟨u',Y,q⟩:=hl j y Z l C e3;refine⟨u',Y,?_⟩;rcases q with q | ⟨k,T,e,z'⟩
    ·exact .inl q
    ·refine .inr ⟨k,T,e,z'.sameBut hs ?_⟩;rintro rfl;exact hj (tY hN l (I.ok.inj _ _ _ e hc▸R))
  ·by_cases hcc:T=c
   ·subst hcc;exact⟨_,L⟩
   ·obtain⟨w2,z2⟩:=I.cell y T e;exact⟨w2,z2.sameBut hs hcc⟩
  ·obtain⟨e,n,U,nf,d⟩:=I.pin p hp;refine⟨(hs.2 p.1 ?_).trans e,n,U,nf,d⟩;intro q;rw[q,J]at e;have q':oc=p.2:=Option.some.inj e;exact d S (by rw[<-q'];exact K)
theorem oM {u:Value}{Q:Unit->Shared->Prop}(I:eT X pins σ H s)(e:X.N.Nodup)(b:X.N[i]?=some x)(d:GL X.env.scope x)(r:eZ v u)(h:∀s',eT X pins (σ.set i (some v)) H s'->Q () s')(hf:X.fn x=true\/X.env.scope.names.lookup x=some .local:=by first | exact .inl rfl | exact .inr rfl | assumption):wpAny M A (storeName X.env x u) Q E s:=
 qw I e b d r (λs' a _=>h s' a) hf
theorem eT.Kb (I:eT X pins σ H s)(g:s'.os=s.os)(u:Un (AF X.stack) ch H H' s.heap s'.heap)(a:lM X.prog X.w H' s'.heap)(h:AllBare s'.gens)(d:∀b∈ch,(b∈X.ex\/X.s₀.heap.get? b=none)/\b≠X.env.locals/\(∀x c,X.env.cells.lookup x=some c->c≠b)/\∀p∈X.pn++pins,p.1≠b):eT X pins σ H' s':=by
 obtain⟨j,g',d',t',i⟩:=s';have e:i=s.os:=g;subst e;exact I.call (g':=g') (t':=t') (d':=d') u a h d
end
abbrev XK:=Value->Option Addr->Hp->Prop
abbrev St:=List (Option V)
abbrev VK:=V->Hp->Prop
abbrev TE:=St->Hp->VK->Prop
abbrev TT:=St->Hp->(Bool->Hp->Prop)->Prop
abbrev TA:=St->Hp->(List V->Hp->Prop)->Prop
structure mN where
 nx:St->Hp->Prop
 rt:VK
 bk:St->Hp->Prop:=λ_ _=>False
 ct:St->Hp->Prop:=λ_ _=>False
abbrev TS:=mN->St->Hp->Prop
def EP (X:Cx)(pins:List (Addr×Obj))(σ:St)(Q:VK)(u:Value)(s':Shared):Prop:=∃v H',eT X pins σ H' s'/\eZ v u/\Q v H'
def TP (X:Cx)(pins:List (Addr×Obj))(σ:St)(Q:Bool->Hp->Prop)(b:Bool)(s':Shared):Prop:=∃H',eT X pins σ H' s'/\Q b H'
def AP (X:Cx)(pins:List (Addr×Obj))(σ:St)(Q:List V->Hp->Prop)(us:List Value)(s':Shared):Prop:=∃vs H',eT X pins σ H' s'/\fU vs us/\Q vs H'
def SP (X:Cx)(pins:List (Addr×Obj))(D:mN)(f:Flow)(s':Shared):Prop:=
 match f with
 |.next=>∃σ' H',eT X pins σ' H' s'/\D.nx σ' H'
 |.brk=>∃σ' H',eT X pins σ' H' s'/\D.bk σ' H'
 |.cont=>∃σ' H',eT X pins σ' H' s'/\D.ct σ' H'
 |.ret u=>∃v σ' H',eT X pins σ' H' s'/\eZ v u/\D.rt v H'
def PE (X:Cx)(e:Expr)(t:TE):Prop:=
 ∀(pins:List (Addr×Obj)) (s:Shared) (σ:St) (H:Hp) (Q:VK),eT X pins σ H s->t σ H Q->wpAny (model X.prog X.w) X.A (eval e X.env) (EP X pins σ Q) X.xe s
def PT (X:Cx)(e:Expr)(t:TT):Prop:=
 ∀(pins:List (Addr×Obj)) (s:Shared) (σ:St) (H:Hp) (Q:Bool->Hp->Prop),eT X pins σ H s->t σ H Q->wpAny (model X.prog X.w) X.A (isTrue e X.env (eval e X.env)) (TP X pins σ Q) X.xe s
def PW (X:Cx)(e:Expr)(t:TT):Prop:=
 ∀(whole:Sem Value) (pins:List (Addr×Obj)) (s:Shared) (σ:St) (H:Hp) (Q:Bool->Hp->Prop),eT X pins σ H s->t σ H Q->wpAny (model X.prog X.w) X.A (isTrue e X.env whole) (TP X pins σ Q) X.xe s
theorem PW.pt {t:TT}(h:PW X e t):PT X e t:=h _
def PA (X:Cx)(es:List Expr)(t:TA):Prop:=
 ∀(pos:Pos) (pins:List (Addr×Obj)) (s:Shared) (σ:St) (H:Hp) (Q:List V->Hp->Prop),eT X pins σ H s->t σ H Q->wpAny (model X.prog X.w) X.A (spliced (backTo pos (starEach es X.env))) (AP X pins σ Q) X.xe s
def PS (X:Cx)(st:Stmt)(t:TS):Prop:=
 ∀(pins:List (Addr×Obj)) (s:Shared) (σ:St) (H:Hp) (D:mN),eT X pins σ H s->t D σ H->wpAny (model X.prog X.w) X.A (exec st X.env) (SP X pins D) X.xe s
def mj (X:Cx)(st:List Stmt)(t:TS):Prop:=
 ∀(pins:List (Addr×Obj)) (s:Shared) (σ:St) (H:Hp) (D:mN),eT X pins σ H s->t D σ H->wpAny (model X.prog X.w) X.A (execs st X.env) (SP X pins D) X.xe s
theorem fW {α:Type}{t:Sem α}{Q Q':α->Shared->Prop}(h:wpAny M A t Q E s)(hQ:∀a s,Q a s->Q' a s):wpAny M A t Q' E s:=bS h hQ λ_ _ x=>x
section
inductive GR (i:Nat)(σ:St)(H:Hp)(Q:VK):Prop
 |mk (v:_)(_:σ[i]?=some (some v))(_:Q v H)
def nQ (i:Nat):TE:=λσ H Q=>GR i σ H Q
def tC (v:V):TE:=λ_ H Q=>Q v H
theorem zA (o:X.N[i]?=some x)(q:CO X.env.scope x)(hd:(x == ("__debug__":Str))=false:=by decide)(hcd:(x == ("__classdict__":Str))=false:=by decide):PE X (.Name x pos) (nQ i):=by
 intro d s σ H Q I h;obtain⟨v,e,h⟩:=h;obtain⟨m,hn,j⟩:=I.loc;obtain⟨u,r,l⟩:=j i x v o e q;have b:EP X d σ Q u s:=⟨v,H,I,r,h⟩;rcases l with ⟨hk,p⟩ | ⟨hk,c,g,a⟩
 ·exact wpAny_Name (wpAny_loadName_local I.ok.kind hk hn p b) hd
 ·rcases hk with hk | hk
  ·exact wpAny_Name (wpAny_loadName_cell I.ok.kind hk g a b) hd
  ·exact wpAny_Name (wpAny_loadName_free I.ok.kind hk g a b hcd) hd
theorem er {i j pos}:PE X (.Constant (.int i) j pos) (tC (.int i)):=λ_ _ _ H _ I h=>wpAny_Constant_int ⟨.int i,H,I.tok _,⟨_,rfl⟩,h⟩
theorem iU {b j pos}:PE X (.Constant (.bool b) j pos) (tC (.bl b)):=λ_ _ _ H _ I h=>Constant_bool ⟨.bl b,H,I,rfl,h⟩
theorem iH {j pos}:PE X (.Constant .none j pos) (tC .non):=λ_ _ _ H _ I h=>Constant_none ⟨.non,H,I,rfl,h⟩
theorem jd {x j pos}:PE X (.Constant (.str x) j pos) (tC (.str x)):=λ_ _ _ H _ I h=>Calls.Constant_str ⟨.str x,H,I.tok _,⟨_,rfl⟩,h⟩
def Gl (X:Cx)(x:Str):Prop:=X.env.kindOf x=some .globalImplicit
theorem sr {u:Value}(I:eT X pins σ H s)(a:Gl X x)(b:X.mg x=some u)(h:Q u s)(hd:(x == ("__debug__":Str))=false:=by decide):wpAny (model X.prog X.w) X.A (eval (.Name x pos) X.env) Q E s:=
 Calls.Name_function_global I.ok.kind a (Calls.loadGlobal_global (by rw[I.ok.glob];exact I.mod.glob.keeps I.bk) b h) hd
theorem jI {u:Value}(I:eT X pins σ H s)(b:Gl X x)(d:X.mg x=none)(e:bootBuiltins x=some u)(h:Q u s)(hn:x≠"__name__":=by decide)(hd:(x == ("__debug__":Str))=false:=by decide):wpAny (model X.prog X.w) X.A (eval (.Name x pos) X.env) Q E s:=by
 obtain⟨i,a,g⟩:=I.mod.blt;exact Calls.Name_function_global I.ok.kind b (Calls.loadGlobal_builtin (by rw[I.ok.glob];exact I.mod.glob.keeps I.bk) d (by rw[I.ok.blt];exact a.keeps I.bk) ((g x hn).trans e) h) hd
theorem wy {u:Value}(a:Gl X x)(b:X.mg x=some u)(r:eZ v u)(hd:(x == ("__debug__":Str))=false:=by decide):PE X (.Name x pos) (tC v):=
 λ_ _ _ H _ I h=>sr I a b ⟨v,H,I,r,h⟩ hd
theorem BV {u:Value}(a:Gl X x)(b:X.mg x=none)(d:bootBuiltins x=some u)(r:eZ v u)(hn:x≠"__name__":=by decide)(hd:(x == ("__debug__":Str))=false:=by decide):PE X (.Name x pos) (tC v):=
 λ_ _ _ H _ I h=>jI I a b d ⟨v,H,I,r,h⟩ hn hd
variable {a b:Expr}{tb:TE}
def PC (X:Cx)(op:CmpOp)(a b:Expr)(t:TE):Prop:=
 ∀(pins:List (Addr×Obj)) (s:Shared) (σ:St) (H:Hp) (Q:VK),eT X pins σ H s->t σ H Q->
  wpAny (model X.prog X.w) X.A (eval a X.env) (λv s₁=>wpAny (model X.prog X.w) X.A (eval b X.env) (λu s₂=>wpAny (model X.prog X.w) X.A (compareOp op v u) (EP X pins σ Q) X.xe s₂) X.xe s₁) X.xe s
theorem tZ (b:Expr)(h:op≠.In)(a:op≠.NotIn):behindInMarks op b=false:=by
 have e:(op == CmpOp.In)=false:=by cases op <;> first | rfl | exact absurd rfl h
 have d:(op == CmpOp.NotIn)=false:=by cases op <;> first | rfl | exact absurd rfl a
 cases b <;> simp[behindInMarks,e,d]
def HL (ta:TE):TE:=λσ H Q=>ta σ H λx H1=>Q (.bl (decide (x=.non))) H1
def Fr (ta:TE):TE:=λσ H Q=>ta σ H λx H1=>Q (.bl (!decide (x=.non))) H1
theorem eZ.Kc {x:V}{v:Value}(r:eZ x v):(v == Value.none)=decide (x=.non):=by
 cases x with
 |non=>cases r;rfl
 |bl _=>cases r;rfl
 |int _=>obtain⟨t,rfl⟩:=r;rfl
 |str _=>obtain⟨t,rfl⟩:=r;rfl
 |byt _=>obtain⟨t,rfl⟩:=r;rfl
 |flt _=>obtain⟨t,rfl⟩:=r;rfl
 |ref _=>cases r;rfl
 |ty _=>cases r;rfl
theorem rW {j pos'}(e:PE X a ta):PC X .Is a (.Constant .none j pos') (HL ta):=by
 intro b s σ H Q I h;refine fW (e b s σ H _ I h) ?_;rintro v m ⟨x,d,l,g,i⟩;exact Constant_none (is_none_gen ⟨.bl _,d,l,by rw[g.Kc];rfl,i⟩)
theorem my {j pos'}(e:PE X a ta):PC X .IsNot a (.Constant .none j pos') (Fr ta):=by
 intro b s σ H Q I h;refine fW (e b s σ H _ I h) ?_;rintro v m ⟨x,d,l,g,i⟩;exact Constant_none (isnot_none_gen ⟨.bl _,d,l,by rw[g.Kc];rfl,i⟩)
inductive JW (Q:Bool->Hp->Prop)(x:V)(H1:Hp):Prop
 |mk (c:_)(_:x=.bl c)(_:Q c H1)
def tB (t:TE):TT:=λσ H Q=>t σ H λx H1=>JW Q x H1
theorem zH (h:PC X op a b t)(h1:behindInMarks op b=false:=by first | exact tZ _ (by decide) (by decide) | rfl):PE X (.Compare a [op] [b] pos) t:=λd s σ H Q I e=>wpAny_Compare1 (h d s σ H Q I e) h1
theorem hJ (h:PC X op a b t)(h1:behindInMarks op b=false:=by first | exact tZ _ (by decide) (by decide) | rfl):PT X (.Compare a [op] [b] pos) (tB t):=by
 intro e s σ H Q I g;refine wpAny_isTrue_Compare1 (fW (h e s σ H _ I g) λv p h1=>fW h1 λu w j=>fW j ?_) h1;rintro c r ⟨x,i,m,l,o⟩;obtain⟨d,rfl,q⟩:=o;cases l;exact bR ⟨i,m,q⟩
theorem gH (h:PE X e t)(he:∀whole,isTrue e X.env whole=(do let v <-whole;standAt e.pos;holding [v] (truthy v)):=by intro _;rfl):PT X e (tB t):=by
 intro a s σ H Q I b;refine isTrue_plain (fW (h a s σ H _ I b) ?_) (he _);rintro v m ⟨x,g,j,i,l⟩;obtain⟨d,rfl,q⟩:=l;cases i;exact bR ⟨g,j,q⟩
variable {tA tB':TT}{rest:List Expr}
def HU (t u:TT):TT:=λσ H Q=>t σ H λc H1=>if c=true then u σ H1 Q else Q false H1
def Jz (t u:TT):TT:=λσ H Q=>t σ H λc H1=>if c=true then Q true H1 else u σ H1 Q
def Fs (t:TT):TT:=λσ H Q=>t σ H λc H1=>Q (!c) H1
theorem jR (d:PT X a tA):PW X (.BoolOp .And [a] pos) tA:=by
 intro g b s σ H Q I h;refine isTrue_and (fW (d b s σ H Q I h) λc i e=>?_);cases c with
 |true=>exact isTrue_and_nil e
 |false=>exact e
theorem iR (d:PT X a tA):PW X (.BoolOp .Or [a] pos) tA:=by
 intro g b s σ H Q I h;refine isTrue_or (fW (d b s σ H Q I h) λc i e=>?_);cases c with
 |false=>exact isTrue_or_nil e
 |true=>exact e
theorem kY (j:PT X a tA)(o:PW X (.BoolOp .And (b::rest) pos) tB'):PW X (.BoolOp .And (a::b::rest) pos) (HU tA tB'):=by
 intro l d s σ H Q I h;refine isTrue_and (fW (j d s σ H _ I h) ?_);rintro c m ⟨e,i,g⟩;cases c with
 |true=>exact o l d m σ e Q i g
 |false=>exact⟨e,i,g⟩
theorem ja (j:PT X a tA)(o:PW X (.BoolOp .Or (b::rest) pos) tB'):PW X (.BoolOp .Or (a::b::rest) pos) (Jz tA tB'):=by
 intro l d s σ H Q I h;refine isTrue_or (fW (j d s σ H _ I h) ?_);rintro c m ⟨e,i,g⟩;cases c with
 |true=>exact⟨e,i,g⟩
 |false=>exact o l d m σ e Q i g
theorem gJ (e:PT X a tA):PT X (.UnaryOp .Not a pos) (Fs tA):=by
 intro b s σ H Q I h;exact isTrue_not (e b s σ H (λc d=>Q (!c) d) I h)
inductive E4 (tb:TE)(σ:St)(Q:VK)(x:V)(H1:Hp):Prop
 |mk (c:_)(_:x=.bl c)(_:if c=true then tb σ H1 Q else Q (.bl false) H1)
def FD (ta tb:TE):TE:=λσ H Q=>ta σ H λx H1=>E4 tb σ Q x H1
inductive EZ (Q:VK)(x:V)(H1:Hp):Prop
 |mk (c:_)(_:x=.bl c)(_:Q (.bl (!c)) H1)
def Fq (ta:TE):TE:=λσ H Q=>ta σ H λx H1=>EZ Q x H1
theorem lZ {op}(h:PE X a t):PE X (.BoolOp op [a] pos) t:=λpins s σ H Q I hw=>BoolOp_one (h pins s σ H Q I hw)
theorem lg (j:PE X a ta)(o:PE X (.BoolOp .And (b::rest) pos) tb):PE X (.BoolOp .And (a::b::rest) pos) (FD ta tb):=by
 intro d s σ H Q I h;refine BoolOp_and (fW (j d s σ H _ I h) ?_);rintro v m ⟨x,g,i,l,e⟩;obtain⟨c,rfl,e⟩:=e;cases l;refine bR ?_;cases c with
 |true=>exact o d m σ g Q i e
 |false=>exact⟨.bl false,g,i,rfl,e⟩
theorem uY (g:PE X a ta):PE X (.UnaryOp .Not a pos) (Fq ta):=by
 intro b s σ H Q I h;refine UnaryOp_ (fW (g b s σ H _ I h) ?_);rintro v l ⟨x,e,j,i,d⟩;obtain⟨c,rfl,d⟩:=d;cases i;exact not_of (bR ⟨.bl (!c),e,j,rfl,d⟩)
def Jk (t:TT)(ta tb:TE):TE:=λσ H Q=>t σ H λc H1=>if c=true then ta σ H1 Q else tb σ H1 Q
theorem zD {c:Expr}(p:PT X c tA)(m:PE X a ta)(o:PE X b tb):PE X (.IfExp c a b pos) (Jk tA ta tb):=by
 intro e s σ H Q I h;refine wpAny_IfExp (fW (p e s σ H _ I h) ?_);rintro d j ⟨g,l,i⟩;cases d with
 |true=>exact m e j σ g Q l i
 |false=>exact o e j σ g Q l i
end
def eX (K:W.Frag)(H:Hp)(a:Addr)(xs:List V):Prop:=
 Rd H a (.lst xs)\/
  ∃(o:Obj) (its:Array Value) (n:Nat),K.lookup a=some o/\o.cls=.type "list"/\o.dict=none/\o.data=.seq its n/\its.size<=sizeLine/\fU xs its.toList
def gs (K:W.Frag)(H:Hp)(a:Addr)(xs:List V):Prop:=
 Rd H a (.tup xs)\/
  ∃(o:Obj) (its:Array Value) (n:Nat),K.lookup a=some o/\o.cls=.type "tuple"/\o.data=.seq its n/\its.size<=sizeLine/\fU xs its.toList
def IK:Value->Option V
 |.none=>some .non
 |.bool b=>some (.bl b)
 |.int i _=>some (.int i)
 |.str x _=>some (.str x)
 |.bytes b _=>some (.byt b)
 |.float b _=>some (.flt b)
 |.ref a=>some (.ref a)
 |.type n=>some (.ty n)
 |_=>none
theorem eZ.abs {x:V}{u:Value}(r:eZ x u):IK u=some x:=by
 cases x with
 |non=>cases r;rfl
 |bl _=>cases r;rfl
 |int _=>obtain⟨t,rfl⟩:=r;rfl
 |str _=>obtain⟨t,rfl⟩:=r;rfl
 |byt _=>obtain⟨t,rfl⟩:=r;rfl
 |flt _=>obtain⟨t,rfl⟩:=r;rfl
 |ref _=>cases r;rfl
 |ty _=>cases r;rfl
theorem eZ.inj {x:V}{u:Value}(r:eZ x u)(q:eZ y u):x=y:=Option.some.inj (r.abs.symm.trans q.abs)
theorem fU.inj:∀{xs ys:List V} {us:List Value},fU xs us->fU ys us->xs=ys
 |_,_,_,.nil,.nil=>rfl
 |_,_,_,.cons r t,.cons r' t'=>by rw[r.inj r',fU.inj t t']
section
variable {ys:List V}
theorem eX.of (h:H a=some (.lst xs)):eX K H a xs:=.inl (.inl h)
theorem gs.of (h:H a=some (.tup xs)):gs K H a xs:=.inl (.inl h)
theorem eT.list (I:eT X pins σ H s)(h:eX X.K H a xs):∃its:List Value,fU xs its/\PlainL s.heap a its.toArray/\xs.length<=sizeLine:=by
 rcases h with h | ⟨o,its,n,d,g,b,hs,i,r⟩
 ·obtain⟨z,its,n,r,e⟩:=h.ok I.hok;exact⟨its,r,⟨_,n,e,rfl,rfl,rfl⟩,z⟩
 ·refine⟨its.toList,r,⟨o,n,I.kIn a o d,g,b,by simpa using hs⟩,?_⟩;have e:=r.length;simp only[bw]at e
  lia
theorem eT.tuple (I:eT X pins σ H s)(h:gs X.K H a xs):∃its:List Value,fU xs its/\IsTup s.heap a its.toArray/\xs.length<=sizeLine:=by
 rcases h with h | ⟨o,its,n,b,d,hs,g,r⟩
 ·obtain⟨z,its,r,p⟩:=h.ok I.hok;exact⟨its,r,p,z⟩
 ·refine⟨its.toList,r,⟨o,I.kIn a o b,d,n,by simpa using hs⟩,?_⟩;have e:=r.length;simp only[bw]at e
  lia
theorem eT.Kd (I:eT X pins σ H s)(h:eX X.K H a xs)(h':eX X.K H a ys):xs=ys:=by
 obtain⟨g,r,⟨o,n,e,_,_,d⟩,_⟩:=I.list h;obtain⟨b,l,⟨q,p,j,_,_,i⟩,_⟩:=I.list h';rw[e]at j;cases j;rw[d]at i;injection i with m _
 have:g=b:=by simpa using congrArg Array.toList m
 subst this;exact r.inj l
theorem eT.Ke (I:eT X pins σ H s)(h:gs X.K H a xs)(h':gs X.K H a ys):xs=ys:=by
 obtain⟨g,r,⟨o,e,_,n,d⟩,_⟩:=I.tuple h;obtain⟨b,l,⟨q,j,_,p,i⟩,_⟩:=I.tuple h';rw[e]at j;cases j;rw[d]at i;injection i with m _
 have:g=b:=by simpa using congrArg Array.toList m
 subst this;exact r.inj l
end
abbrev Cx.Kf (X:Cx)(E:Value->Shared->Prop):Cx:={X with xe:=E}
abbrev Cx.nox (X:Cx):Cx:=X.Kf λ_ _=>False
theorem Cx.Ok.Kf (ok:X.Ok)(E:Value->Shared->Prop):(X.Kf E).Ok:=
 ⟨ok.mod,ok.kind,ok.glob,ok.blt,ok.above,ok.inj,ok.has,ok.cab,ok.hd,ok.frames,ok.stk,ok.exf,ok.bs,ok.bsz,ok.noex,ok.exfs,ok.funs,ok.frf⟩
theorem Cx.Ok.Kg (ok:(X.Kf E).Ok):X.Ok:=
 ⟨ok.mod,ok.kind,ok.glob,ok.blt,ok.above,ok.inj,ok.has,ok.cab,ok.hd,ok.frames,ok.stk,ok.exf,ok.bs,ok.bsz,ok.noex,ok.exfs,ok.funs,ok.frf⟩
theorem eT.Kf (I:eT X pins σ H s)(E:Value->Shared->Prop):eT (X.Kf E) pins σ H s:=⟨I.ok.Kf E,I.os,I.bare,I.base,I.loc,I.cell,I.free,I.freeC,I.pin,I.hok,I.len⟩
theorem eT.Kg (I:eT (X.Kf E) pins σ H s):eT X pins σ H s:=⟨I.ok.Kg,I.os,I.bare,I.base,I.loc,I.cell,I.free,I.freeC,I.pin,I.hok,I.len⟩
theorem SP.Kg {f:Flow}(h:SP (X.Kf E) pins D f s'):SP X pins D f s':=by
 cases f with
 |next=>obtain⟨σ',a,I,q⟩:=h;exact⟨σ',a,I.Kg,q⟩
 |brk=>obtain⟨σ',a,I,q⟩:=h;exact⟨σ',a,I.Kg,q⟩
 |cont=>obtain⟨σ',a,I,q⟩:=h;exact⟨σ',a,I.Kg,q⟩
 |ret u=>obtain⟨v,σ',a,I,r,q⟩:=h;exact⟨v,σ',a,I.Kg,r,q⟩
theorem mj.nox {st:List Stmt}{t:TS}(h:mj X.nox st t):mj X st t:=λpins s σ H D I hw=>
 bS (h pins s σ H D (I.Kf _) hw) (λ_ _ q=>q.Kg) λ_ _ z=>False.elim z
section
variable {st:Stmt}{rest:List Stmt}{t u:TS}
def Ft:TS:=λD σ H=>D.nx σ H
def HI (t u:TS):TS:=λD σ H=>t {D with nx:=u D} σ H
theorem eP:mj X [] Ft:=λ_ _ σ H _ I h=>wpAny_execs_nil ⟨σ,H,I,h⟩
theorem ee (d:PS X st t)(b:mj X rest u):mj X (st::rest) (HI t u):=by
 intro a s σ H D I h;refine wpAny_execs_cons (fW (d a s σ H {D with nx:=u D} I h) λf i q=>?_);cases f with
 |next=>
  obtain⟨σ',g,e,q⟩:=q;exact b a i σ' g D e q
 |ret v=>exact q
 |brk=>exact q
 |cont=>exact q
theorem eo (b:PS X st t):mj X [st] t:=by
 intro a s σ H D I h;refine wpAny_execs_cons (fW (b a s σ H D I h) λf d q=>?_);cases f with
 |next=>exact wpAny_execs_nil q
 |ret v=>exact q
 |brk=>exact q
 |cont=>exact q
def Fy:TS:=λD σ H=>D.ct σ H
theorem tU:PS X (.Continue pos) Fy:=λ_ _ σ H _ I h=>wpAny_Continue ⟨σ,H,I,h⟩
theorem eT.quiet (I:eT X pins σ H s):interactive X.env=false:=by simp[interactive,I.ok.kind]
def Fv (te:TE):TS:=λD σ H=>te σ H λ_ H1=>D.nx σ H1
theorem gm (d:PE X e te)(hs:swapsWith e none pos.line X.env=pure false:=by rfl):PS X (.Expr e pos) (Fv te):=by
 intro a s σ H D I h;exact wpAny_Expr_any (fW (d a s σ H _ I h) (by rintro v l ⟨x,b,i,j,g⟩;exact⟨σ,b,i,g⟩)) I.quiet hs
def HJ (te:TE):TS:=λD σ H=>te σ H D.rt
theorem eQ (d:PE X e te):PS X (.Return (some e) pos) (HJ te):=by
 intro a s σ H D I h;exact wpAny_Return_some (fW (d a s σ H _ I h) (by rintro v l ⟨x,b,j,g,i⟩;exact⟨x,σ,b,j,g,i⟩))
def HN (c:TT)(t u:TS):TS:=λD σ H=>c σ H λb H1=>if b=true then t D σ H1 else u D σ H1
theorem fz {c:Expr}{a b:List Stmt}{tc:TT}(p:PT X c tc)(m:mj X a t)(o:mj X b u):PS X (.If c a b pos) (HN tc t u):=by
 intro e s σ H D I h;refine wpAny_If (fW (p e s σ H _ I h) ?_);rintro d j ⟨g,l,i⟩;cases d with
 |true=>exact m e j σ g D l i
 |false=>exact o e j σ g D l i
def Dx:TS:=λ_ _ _=>False
theorem fT {sts:List Stmt}:mj X sts Dx:=λ_ _ _ _ _ _ h=>h.elim
end
abbrev TG:=V->St->Hp->(St->Hp->Prop)->Prop
abbrev xh:=List V->St->Hp->(St->Hp->Prop)->Prop
def PG (X:Cx)(target:Expr)(t:TG):Prop:=
 ∀(pins:List (Addr×Obj)) (s:Shared) (σ:St) (H:Hp) (v:V) (u:Value) (Q:St->Hp->Prop),eT X pins σ H s->eZ v u->t v σ H Q->
  wpAny (model X.prog X.w) X.A (assign target X.env u) (λ_ s'=>∃σ' H',eT X pins σ' H' s'/\Q σ' H') X.xe s
def HD (X:Cx)(ts:List Expr)(t:xh):Prop:=
 ∀(pins:List (Addr×Obj)) (s:Shared) (σ:St) (H:Hp) (vs:List V) (us:List Value) (Q:St->Hp->Prop),eT X pins σ H s->fU vs us->t vs σ H Q->
  wpAny (model X.prog X.w) X.A (assignInOrder ((assignEach ts X.env).map (·.2)) us) (λ_ s'=>∃σ' H',eT X pins σ' H' s'/\Q σ' H') X.xe s
abbrev GD:=V->V->Hp->VK->Prop
def GH (X:Cx)(op:Operator)(t:GD):Prop:=
 ∀(pins:List (Addr×Obj)) (s:Shared) (σ:St) (H:Hp) (x y:V) (v u:Value) (Q:VK),eT X pins σ H s->eZ x v->eZ y u->t x y H Q->
  wpAny (model X.prog X.w) X.A (inplaceOp op v u) (EP X pins σ Q) X.xe s
def jq (i:Nat):TG:=λv σ H Q=>Q (σ.set i (some v)) H
theorem eL (d:X.N.Nodup)(hi:X.N[i]?=some x:=by rfl)(hx:GL X.env.scope x:=by first | exact Or.inl rfl | exact Or.inr rfl)(hf:X.fn x=true\/X.env.scope.names.lookup x=some .local:=by first | exact .inl rfl | exact .inr rfl | assumption):PG X (.Name x pos) (jq i):=by
 intro a s σ H v u Q I r h;exact wpAny_assign_Name (oM I d hi hx r (λe b=>⟨_,H,b,h⟩) hf)
def Ex:xh:=λvs σ H Q=>vs=[]/\Q σ H
inductive Fc (t:TG)(u:xh)(vs:List V)(σ:St)(H:Hp)(Q:St->Hp->Prop):Prop
 |mk (v r:_)(_:vs=v::r)(_:t v σ H λσ' H'=>u r σ' H' Q)
def AD (t:TG)(u:xh):xh:=λvs σ H Q=>Fc t u vs σ H Q
theorem jT:HD X [] Ex:=by
 intro a s σ H d b Q I r h;obtain⟨e,h⟩:=h;subst e;cases r;exact assignInOrder_nil ⟨σ,H,I,h⟩
theorem gj {t:TG}{u:xh}(m:PG X e t)(d:HD X es u)(hs:(assignEach (e::es) X.env).map (·.2)=assign e X.env::(assignEach es X.env).map (·.2):=by rfl):HD X (e::es) (AD t u):=by
 intro a s σ H q p Q I r h;obtain⟨v,o,j,h⟩:=h;subst j;cases r with
 |cons r rr=>
  rw[hs];refine assignInOrder_cons (fW (m a s σ H _ _ _ I r h) ?_);rintro _ g ⟨σ1,b,i,l⟩;exact d a g σ1 b _ _ Q i rr l
inductive Ho (K:W.Frag)(n:Nat)(t:xh)(v:V)(σ:St)(H:Hp)(Q:St->Hp->Prop):Prop
 |mk (a xs:_)(_:v=.ref a)(_:gs K H a xs)(_:xs.length=n)(_:t xs σ H Q)
def Gs (K:W.Frag)(n:Nat)(t:xh):TG:=λv σ H Q=>Ho K n t v σ H Q
theorem lc {k:Nat}{t:xh}{n:Nat}(A:X.calm=true)(h:HD X es t)(hn:(assignEach es X.env).length=n:=by rfl)(hst:(assignEach es X.env).findIdx? (·.1)=none:=by rfl):PG X (.Tuple es k pos) (Gs X.K n t):=by
 intro d s σ H v u Q I r g;obtain⟨a,l,y,x,j,g⟩:=g;subst y;cases r;obtain⟨z,i,m,B⟩:=I.tuple x;refine assign_Tuple_tuple (I.ok.hd A) m (by simp[hn,<-j,i.length]) hst λw q=>?_;have p:eT X d σ H {s with heap:=w}:=I.kept (t':=s.toks) λb o e=>q b o (aW (aS e)) e;exact h d _ σ H l _ Q p (by simpa using i) g
def FC (te:TE)(g:TG):TS:=λD σ H=>te σ H λx H1=>g x σ H1 D.nx
theorem zt (m:PE X e te)(l:PG X tg g)(hs:swapsWithSole [tg] e pos.line X.env=pure false:=by rfl)(hw:swappedStores [tg] e X.env=pure none:=by rfl)(h1:(assignEach [tg] X.env).map (·.2)=[assign tg X.env]:=by rfl):PS X (.Assign [tg] e pos) (FC te g):=by
 intro a s σ H D I h;refine wpAny_Assign_stores (fW (m a s σ H _ I h) ?_) hs hw;rintro v i ⟨x,b,j,d,o⟩;rw[h1];exact fW (l a i σ b x v _ j d o) λ_ p q=>q
theorem eJ (o:X.N.Nodup)(g:PE X e te)(hi:X.N[i]?=some x:=by rfl)(hx:GL X.env.scope x:=by first | exact Or.inl rfl | exact Or.inr rfl)(hs:swapsWith e (some (.Name x pos')) pos.line X.env=pure false:=by rfl)(hf:X.fn x=true\/X.env.scope.names.lookup x=some .local:=by first | exact .inl rfl | exact .inr rfl | assumption):PS X (.Assign [.Name x pos'] e pos) (FC te (jq i)):=by
 intro a s σ H D I h;refine wpAny_Assign_Name (fW (g a s σ H _ I h) ?_) hs;rintro v q ⟨y,b,m,j,l⟩;exact oM m o hi hx j (λp d=>⟨_,b,d,l⟩) hf
inductive GV (i:Nat)(te:TE)(ti:GD)(D:mN)(σ:St)(H:Hp):Prop
 |mk (x:_)(_:σ[i]?=some (some x))(_:te σ H λy H1=>ti x y H1 λz H2=>D.nx (σ.set i (some z)) H2)
def HS (i:Nat)(te:TE)(ti:GD):TS:=λD σ H=>GV i te ti D σ H
theorem kH {op:Operator}{ti:GD}(O:X.N.Nodup)(M:PE X e te)(B:GH X op ti)(hi:X.N[i]?=some x:=by rfl)(hx:GL X.env.scope x:=by first | exact Or.inl rfl | exact Or.inr rfl)(hf:X.fn x=true\/X.env.scope.names.lookup x=some .local:=by first | exact .inl rfl | exact .inr rfl | assumption):PS X (.AugAssign (.Name x pos') op e pos) (HS i te ti):=by
 intro a s σ H D I h;obtain⟨v,L,h⟩:=h;obtain⟨m,hn,E⟩:=I.loc;have d:CO X.env.scope x:=by rcases hx with k | k;exact .inl k;exact .inr (.inl k)
 obtain⟨u,r,l⟩:=E i x v hi L d;refine wpAny_AugAssign_Name ?_;have g:wpAny (model X.prog X.w) X.A (eval e X.env) (λw s₂=>wpAny (model X.prog X.w) X.A (inplaceOp op u w) (λr s₃=>wpAny (model X.prog X.w) X.A (storeName X.env x r) (λ_=>SP X a D .next) X.xe s₃) X.xe s₂) X.xe s:=by
  refine fW (M a s σ H _ I h) ?_;rintro w F ⟨y,C,o,j,q⟩;refine fW (B a F σ C v y u w _ o r j q) ?_;rintro z R ⟨S,K,t,G,Q⟩;exact oM t O hi hx G (λT p=>⟨_,K,p,Q⟩) hf
 rcases l with ⟨hk,J⟩ | ⟨hk,c,P,b⟩
 ·exact wpAny_loadName_local I.ok.kind hk hn J g
 ·rcases hk with hk | hk
  ·exact wpAny_loadName_cell I.ok.kind hk P b g
  ·rcases hx with k | k
   ·have:X.env.scope.names.lookup x=some .free:=hk;rw[k]at this;cases this
   ·have:X.env.scope.names.lookup x=some .free:=hk;rw[k]at this;cases this
inductive Jd (f:Int->Int->Int)(x:V)(y:V)(H:Hp)(Q:VK):Prop
 |mk (i j:_)(_:x=.int i)(_:y=.int j)(_:Q (.int (f i j)) H)
def Jp (f:Int->Int->Int):GD:=λx y H Q=>Jd f x y H Q
theorem Av:GH X .Add (Jp λi j=>i+j):=by
 intro a s σ H x y v u Q I b d h;obtain⟨i,j,e,g,q⟩:=h;subst e;subst g;obtain⟨t,rfl⟩:=b;obtain⟨l,rfl⟩:=d;exact iadd_int ⟨.int _,H,I.tok _,⟨_,rfl⟩,q⟩
theorem Es:GH X .Sub (Jp λi j=>i-j):=by
 intro a s σ H x y v u Q I b d h;obtain⟨i,j,e,g,q⟩:=h;subst e;subst g;obtain⟨t,rfl⟩:=b;obtain⟨l,rfl⟩:=d;exact isub_int ⟨.int _,H,I.tok _,⟨_,rfl⟩,q⟩
def Dv (c:TT)(tb:TS):TS:=λD σ H=>∃W:Nat->St->Hp->Prop,(∃m,W m σ H)/\∀m σ H,W m σ H->
 c σ H λb H1=>if b=true then ∃N:St->Hp->Prop,(∀σ' H',N σ' H'->∃m',m'<m/\W m' σ' H')/\tb {D with nx:=N,ct:=N,bk:=D.nx} σ H1 else D.nx σ H1
theorem jE {c:Expr}{tc:TT}(hp:PassesOwn (model X.prog X.w) X.A X.env X.xe)(F:PT X c tc)(B:mj X body tb):PS X (.While c body [] pos) (Dv tc tb):=by
 intro a s σ H D I h;obtain⟨W,⟨G,J⟩,e⟩:=h;refine wpAny_While (codeAny_whileLoop (λn z=>∃σ' H',eT X a σ' H' z/\W n σ' H') ?_ G ⟨σ,H,I,J⟩);rintro n K ⟨σ1,r,C,y⟩;refine cJ hp (fW (F a K σ1 r _ C (e n σ1 r y)) ?_);rintro b E ⟨t,q,i⟩;cases b with
 |true=>
  obtain⟨N,x,i⟩:=i;rw[ax rfl];refine cJ hp (fW (B a E σ1 t _ q i) λf L g=>?_);cases f with
  |next=>
   obtain⟨σ3,d,m,l⟩:=g;obtain⟨o,p,j⟩:=x σ3 d l;exact⟨o,p,σ3,d,m,j⟩
  |cont=>
   obtain⟨σ3,d,m,l⟩:=g;obtain⟨o,p,j⟩:=x σ3 d l;exact⟨o,p,σ3,d,m,j⟩
  |brk=>exact g
  |ret v=>exact g
 |false=>
  rw[av aN];exact wpAny_execs_nil ⟨σ1,t,q,i⟩
structure It where
 go:Nat->Hp->Prop
 yld:Nat->Hp->V->Hp->Prop
 stop:Nat->Hp->Prop
def jP (X:Cx)(pins:List (Addr×Obj))(H:Hp)(b:Addr):Prop:=
 H b=none/\b≠X.env.locals/\b∉X.fs/\(b∈X.ex\/X.s₀.heap.get? b=none)/\(∀x c,X.env.cells.lookup x=some c->c≠b)/\∀p∈X.pn++pins,p.1≠b
theorem eT.Kh (I:eT X pins σ H s)(a:s.heap.objs.size<=b)(hn:H' b=none):jP X pins H' b:=by
 refine⟨hn,Nat.ne_of_gt (bg I.lt a),I.J7 a,.inr (bi (bz I.sz a)),λx c e z=>?_,λp hp z=>?_⟩
 ·obtain⟨v,q⟩:=I.cell x c e;exact absurd (bg q.lt (by rw[z];exact a)) (cE _)
 ·exact absurd (bg (aS (I.pin p hp).1) (by rw[z];exact a)) (cE _)
structure qp (P:Program)(w:World)(K:W.Frag)(tg:Expr)(J:It)(fp:List Addr)(it:Addr)(tn:Nat->Heap->Prop):Prop where
 mem:it∈fp
 obj:∀i h,tn i h->∀b∈fp,∃o,h.get? b=some o/\∀v,o.data≠.cell v
 keep:∀i h h',tn i h->(∀b∈fp,∀o,h.get? b=some o->h'.get? b=some o)->tn i h'
 item:∀(X:Cx),X.prog=P->X.w=w->X.K=K->X.calm=true->∀(i:Nat) (pins:List (Addr×Obj)) (s:Shared) (σ:St) (H:Hp) (E:Value->Shared->Prop),eT X pins σ H s->(∀b∈fp,jP X pins H b)->tn i s.heap->J.go i H->
  wpAny (model P w) X.A (pyNext (.ref it)) (λr s1=>∃u,r=some u/\wpAny (model P w) X.A (letOwnedTupleGo tg (.ref it) u) (λ_ s2=>∃x H',eT X pins σ H' s2/\eZ x u/\J.yld i H x H'/\tn (i+1) s2.heap/\∀b∈fp,H' b=none) E s1) E s
 done:∀(X:Cx),X.prog=P->X.w=w->X.K=K->X.calm=true->∀(i:Nat) (pins:List (Addr×Obj)) (s:Shared) (σ:St) (H:Hp) (E:Value->Shared->Prop),eT X pins σ H s->(∀b∈fp,jP X pins H b)->tn i s.heap->J.stop i H->
  wpAny (model P w) X.A (pyNext (.ref it)) (λr s1=>r=none/\eT X pins σ H s1) E s
 self:∀(A:Around) (i:Nat) (s:Shared) (Q:Value->Shared->Prop) (E:Value->Shared->Prop),tn i s.heap->Q (.ref it) s->wpAny (model P w) A (pyIter (.ref it)) Q E s
abbrev TI:=St->Hp->(It->Hp->Prop)->Prop
def HA (X:Cx)(pins:List (Addr×Obj))(σ:St)(tg:Expr)(R:It->Hp->Prop)(itv:Value)(s2:Shared):Prop:=
 ∃(it:Addr) (fp:List Addr) (tn:Nat->Heap->Prop) (J:It) (H':Hp),itv=.ref it/\eT X pins σ H' s2/\qp X.prog X.w X.K tg J fp it tn/\tn 0 s2.heap/\(∀b∈fp,jP X pins H' b)/\R J H'
def PI (X:Cx)(tg iter:Expr)(wi:TI):Prop:=
 ∀(pins:List (Addr×Obj)) (s:Shared) (σ:St) (H:Hp) (R:It->Hp->Prop),eT X pins σ H s->wi σ H R->
  wpAny (model X.prog X.w) X.A (eval iter X.env) (λv s1=>wpAny (model X.prog X.w) X.A (pyIter v) (HA X pins σ tg R) X.xe s1) X.xe s
theorem qK {it:Addr}{u:Value}{o:Obj}{n:String}{vs:Array Value}{Q:Unit->Shared->Prop}(d:s.heap.get? it=some o)(e:o.cls=.type n)(b:o.data=.fields vs)(hn:["enumerate","zip","dict_itemiterator","dict_reverseitemiterator","odict_iterator","itertools.zip_longest","itertools.pairwise"].contains n=false)(a:Q () s):wpAny M A (letOwnedTupleGo tg (.ref it) u) Q E s:=by
 unfold letOwnedTupleGo;cases tg <;> first
  |exact ar a
  |(cases u <;> first
    |exact ar a
    |(refine ac (wpAny_load d ?_)
      rw[e,b];show wpAny M A (if (["enumerate","zip","dict_itemiterator","dict_reverseitemiterator","odict_iterator","itertools.zip_longest","itertools.pairwise"].contains n&&vs[0]? == some (rawInt _))=true then _ else _) Q E s;rw[av (by intro h;rw[hn,bU]at h;cases h)]
      exact ar a))
def EU (K:W.Frag)(a:Addr):It:=
 ⟨λi H=>∃xs x,eX K H a xs/\xs[i]?=some x,λi H x H'=>H'=H/\∀xs,eX K H a xs->xs[i]?=some x,λi H=>∃xs,eX K H a xs/\xs.length<=i⟩
def GQ (K:W.Frag)(a:Addr):It:=
 ⟨λi H=>∃xs x,gs K H a xs/\xs[i]?=some x,λi H x H'=>H'=H/\∀xs,gs K H a xs->xs[i]?=some x,λi H=>∃xs,gs K H a xs/\xs.length<=i⟩
def ET (lo:Int)(n:Nat):It:=⟨λi _=>i<n,λi H x H'=>H'=H/\x=.int (lo+i),λi _=>n<=i⟩
theorem xi (a m:Addr):qp P w K tg (EU K a) [m] m (λi h=>h.IsListIter m a i) where
 mem:=by simp
 obj:=λi h g b l=>by
  have e:b=m:=by simpa using l
  subst e;obtain⟨o,e,c,d⟩:=g;exact⟨o,e,λv z=>by rw[d]at z;cases z⟩
 keep:=λi h r g k=>g.at λo e=>k m (by simp) o e
 item:=by
  intro X O J F R i j s σ H E I y g A;subst O J F;obtain⟨Z,x,t,M⟩:=A;obtain⟨D,G,p,U⟩:=I.list t;obtain⟨u,hu,ru⟩:=G.get M;obtain⟨B,C,f2,Q,N,L⟩:=y m (by simp);refine wpAny_pyNext_list_item g p.isList (x:=u) (by simpa using hu) λr q sb=>?_;have S:eT X j σ H {s with heap:=r}:=I.turned (t':=s.toks) (λb o l e=>(sb.2 b l).trans e) B C Q N L;obtain⟨o,e,c,d⟩:=id q;exact⟨u,rfl,qK (s:={s with heap:=r}) e c d (by decide) ⟨x,H,S,ru,⟨rfl,λys Y=>by rw[I.Kd Y t];exact M⟩,q,λb l=>(y b l).1⟩⟩
 done:=by
  intro X O J F R i j s σ H E I y g A;subst O J F;obtain⟨Z,t,M⟩:=A;obtain⟨D,G,p,U⟩:=I.list t;obtain⟨B,C,f2,Q,N,L⟩:=y m (by simp);have hl:=G.length;exact wpAny_pyNext_list_end (I.ok.hd R) g p.isList (by simp;lia) λr T=>⟨rfl,I.turned (t':=s.toks) (λb o l e=>T b o l e) B C Q N L⟩
 self:=λ_ _ _ _ _ g h=>wpAny_pyIter_listiter g h
theorem uE (a q:Addr):qp P w K tg (GQ K a) [q] q (λi h=>h.IsTupleIter q a i) where
 mem:=by simp
 obj:=λi h g b l=>by
  have e:b=q:=by simpa using l
  subst e;obtain⟨o,e,c,d⟩:=g;exact⟨o,e,λv z=>by rw[d]at z;cases z⟩
 keep:=λi h t g k=>g.at λo e=>k q (by simp) o e
 item:=by
  intro X O J F R i j s σ H E I A g B;subst O J F;obtain⟨Z,x,y,M⟩:=B;obtain⟨m,G,p,U⟩:=I.tuple y;obtain⟨u,hu,ru⟩:=G.get M;obtain⟨C,D,f2,Q,N,L⟩:=A q (by simp);refine wpAny_pyNext_tuple_item g (show s.heap.IsTuple a m.toArray from p) (x:=u) (by simpa using hu) λt r sb=>?_;have S:eT X j σ H {s with heap:=t}:=I.turned (t':=s.toks) (λb o l e=>(sb.2 b l).trans e) C D Q N L;obtain⟨o,e,c,d⟩:=id r;exact⟨u,rfl,qK (s:={s with heap:=t}) e c d (by decide) ⟨x,H,S,ru,⟨rfl,λys Y=>by rw[I.Ke Y y];exact M⟩,r,λb l=>(A b l).1⟩⟩
 done:=by
  intro X O J F R i j s σ H E I A g B;subst O J F;obtain⟨Z,y,M⟩:=B;obtain⟨m,G,p,U⟩:=I.tuple y;obtain⟨C,D,f2,Q,N,L⟩:=A q (by simp);have hl:=G.length;exact wpAny_pyNext_tuple_end (I.ok.hd R) g (show s.heap.IsTuple a m.toArray from p) (by simp;lia) λt T=>⟨rfl,I.turned (t':=s.toks) (λb o l e=>T b o l e) C D Q N L⟩
 self:=λ_ _ _ _ _ g h=>wpAny_pyIter_tupleiter g h
theorem uF (g:Addr)(p:Int)(n:Nat):qp P w K tg (ET p n) [g] g (λi h=>IsRangeIter h g (p+(i:Nat)*1) ((n:Int)-(i:Nat)) 1) where
 mem:=by simp
 obj:=λi h a b j=>by
  have e:b=g:=by simpa using j
  subst e
  exact⟨_,a,λv z=>by
   have M:Data.fields _=Data.cell v:=z
   cases M⟩
 keep:=λi h m a k=>k g (by simp) _ a
 item:=by
  intro X F B A J i d s σ H E I q a r;subst F B A;obtain⟨x,y,R,G,D,C⟩:=q g (by simp);have W:=Walks.range (prog:=X.prog) (w:=X.w) (I.ok.hd J) g p 1 n;refine W.item i s _ _ r a λv m L S l O=>?_;obtain⟨t,rfl⟩:=S;have N:eT X d σ H {s with heap:=m,toks:=L}:=I.turned (λb o j e=>O b o (by simpa using j) e) x y G D C;refine⟨_,rfl,qK (s:={s with heap:=m,toks:=L}) (n:="range_iterator") l rfl rfl (by decide) ⟨.int (p+i),H,N,⟨t,?_⟩,⟨rfl,rfl⟩,l,λb j=>(q b j).1⟩⟩;rw[Int.mul_one]
 done:=by
  intro X F B A J i d s σ H E I q a r;subst F B A;obtain⟨x,y,R,G,D,C⟩:=q g (by simp);exact wpAny_pyNext_range_end (I.ok.hd J) a (by have:n<=i:=r;lia) λm Q=>⟨rfl,I.turned (t':=s.toks) (λb o j e=>Q b o j e) x y G D C⟩
 self:=λ_ _ _ _ _ a h=>wpAny_pyIter_rangeiter a h
inductive Fb (K:W.Frag)(R:It->Hp->Prop)(x:V)(H1:Hp):Prop
 |mk (a:_)(_:x=.ref a)(_:∃xs,eX K H1 a xs)(_:R (EU K a) H1)
def Gq (K:W.Frag)(tl:TE):TI:=λσ H R=>tl σ H λx H1=>Fb K R x H1
inductive Hl (K:W.Frag)(R:It->Hp->Prop)(x:V)(H1:Hp):Prop
 |mk (a:_)(_:x=.ref a)(_:∃xs,gs K H1 a xs)(_:R (GQ K a) H1)
def ID (K:W.Frag)(tl:TE):TI:=λσ H R=>tl σ H λx H1=>Hl K R x H1
theorem fD {l:Expr}{tl:TE}(m:PE X l tl):PI X tg l (Gq X.K tl):=by
 intro d s σ H R I h;refine fW (m d s σ H _ I h) ?_;rintro v g ⟨x,j,i,r,z⟩;obtain⟨a,e,⟨A,w⟩,q⟩:=z;subst e;cases r;obtain⟨y,B,p,C⟩:=i.list w;refine wpAny_pyIter_list p.isList ?_;refine⟨g.heap.objs.size,[g.heap.objs.size],_,_,j,rfl,i.kept (t':=g.toks) λb o e=>aA _ e,xi a _,⟨_,aK _ rfl,rfl,rfl⟩,λb t=>?_,q⟩
 have e:b=g.heap.objs.size:=by simpa using t
 subst e;exact i.Kh (ao _) (i.hok.fresh (ao _))
theorem DX {l:Expr}{tl:TE}(r:PE X l tl):PI X tg l (ID X.K tl):=by
 intro d s σ H R I h;refine fW (r d s σ H _ I h) ?_;rintro v g ⟨x,m,i,t,z⟩;obtain⟨a,e,⟨A,y⟩,q⟩:=z;subst e;cases t;obtain⟨j,B,p,C⟩:=i.tuple y;refine wpAny_pyIter_tuple (show g.heap.IsTuple a j.toArray from p) ?_;refine⟨g.heap.objs.size,[g.heap.objs.size],_,_,m,rfl,i.kept (t':=g.toks) λb o e=>aA _ e,uE a _,⟨_,aK _ rfl,rfl,rfl⟩,λb w=>?_,q⟩
 have e:b=g.heap.objs.size:=by simpa using w
 subst e;exact i.Kh (ao _) (i.hok.fresh (ao _))
theorem zp {R:It->Hp->Prop}{lo hi:Int}{t u v:Tok}{tk:Nat}(I:eT X pins σ H s)(i:-(2^62)<=lo)(g:lo<2^62)(j:-(2^62)<=hi)(h:hi<2^62)(q:R (ET lo (hi-lo).toNat) H):wpAny (model X.prog X.w) X.A (pyIter (.ref s.heap.objs.size)) (HA X pins σ tg R) E {s with heap:=s.heap.push {cls:=.type "range",data:=.fields #[.int lo t,.int hi u,.int 1 v]},toks:=tk}:=by
 refine wpAny_pyIter_range (IsRange.new ..) (small_one i g j h) ?_;have a:eT X pins σ H {s with heap:=s.heap.push {cls:=.type "range",data:=.fields #[.int lo t,.int hi u,.int 1 v]},toks:=tk}:=I.kept λb o e=>aA _ e;refine⟨(s.heap.push {cls:=.type "range",data:=.fields #[.int lo t,.int hi u,.int 1 v]}).objs.size,[(s.heap.push {cls:=.type "range",data:=.fields #[.int lo t,.int hi u,.int 1 v]}).objs.size],_,_,H,rfl,a.kept (t':=tk) λb o e=>aA _ e,uF _ lo (hi-lo).toNat,?_,λb l=>?_,q⟩
 ·have d:lo+((0:Nat):Int)*1=lo:=by simp
  have m:(((hi-lo).toNat:Nat):Int)-((0:Nat):Int)=Builtin.Range.rangeSize lo hi 1:=by rw[rangeSize_one];split <;> lia
  show IsRangeIter _ _ (lo+((0:Nat):Int)*1) ((((hi-lo).toNat:Nat):Int)-((0:Nat):Int)) 1;rw[d,m];exact aK _ rfl
 ·have e:b=(s.heap.push {cls:=.type "range",data:=.fields #[.int lo t,.int hi u,.int 1 v]}).objs.size:=by simpa using l
  subst e;exact a.Kh (ao _) (a.hok.fresh (ao _))
inductive Fa (R:It->Hp->Prop)(vs:List V)(H1:Hp):Prop
 |mk (j:Int)(_:vs=[.int j])(_:-(2^62)<=j)(_:j<2^62)(_:R (ET 0 j.toNat) H1)
def Gp (ta:TA):TI:=λσ H R=>ta σ H λvs H1=>Fa R vs H1
theorem jC {a:Expr}{ta:TA}(l:Gl X "range")(m:X.mg "range" = none)(o:PA X [a] ta)(hs:starEach [a] X.env=[(false,eval a X.env)]:=by rfl):PI X tg (.Call (.Name "range" p) [a] [] pos) (Gp ta):=by
 intro b s σ H R I h;refine Call_ (jI I l m boot_range (PyProof.Rows.callWith_type1 (fW (o pos b s σ H _ I h) ?_) hs rfl));rintro y x ⟨z,w,i,g,d⟩;obtain⟨j,e,d,v,q⟩:=d;subst e;cases g with
 |cons r rr=>
  cases rr;obtain⟨t,rfl⟩:=r;exact call_range_1 (zp i (by lia) (by lia) d v (by simpa using q))
def HP (wi:TI)(g:TG)(tb:TS):TS:=λD σ H=>wi σ H λJ H1=>∃W:Nat->Nat->St->Hp->Prop,(∃m,W 0 m σ H1)/\∀i m σ H,W i m σ H->
 (J.stop i H/\D.nx σ H)\/(J.go i H/\∃N:St->Hp->Prop,(∀σ' H',N σ' H'->∃m',m'<m/\W (i+1) m' σ' H')/\∀x H',J.yld i H x H'->g x σ H' λσ2 H2=>tb {D with nx:=N,ct:=N,bk:=D.nx} σ2 H2)
def pj (fp:List Addr)(h:Heap):List (Addr×Obj):=fp.filterMap λb=>(h.get? b).map λo=>(b,o)
theorem kJ {o:Obj}(hb:b∈fp)(e:h.get? b=some o):(b,o)∈pj fp h:=List.mem_filterMap.mpr ⟨b,hb,by rw[e];rfl⟩
theorem xX {p:Addr×Obj}(hp:p∈pj fp h):p.1∈fp/\h.get? p.1=some p.2:=by
 obtain⟨b,d,e⟩:=List.mem_filterMap.mp hp;cases q:h.get? b with
 |none=>rw[q]at e;cases e
 |some o=>
  rw[q]at e;have a:(b,o)=p:=Option.some.inj e;subst a;exact⟨d,q⟩
theorem eT.pinned (I:eT X pins σ H s)(hf:∀b∈fp,jP X pins H b)(ho:∀b∈fp,∃o,s.heap.get? b=some o/\∀v,o.data≠.cell v):eT X (pins++pj fp s.heap) σ H s:=
 I.Ka λp hp=>(aD.mp hp).elim (λz=>I.pin p (aO _ z)) λz=>by
  obtain⟨hb,e⟩:=xX z;obtain⟨f0,f1,f2,_⟩:=hf p.1 hb;obtain⟨o,e',d⟩:=ho p.1 hb;rw[e]at e';cases e';exact⟨e,f0,f1,f2,d⟩
theorem eT.Ki {pl:List (Addr×Obj)}(I:eT X (pins++pl) σ H s):eT X pins σ H s:=I.Ka λp hp=>I.pin p (aO _ (aP _ hp))
theorem fG {iter:Expr}{wi:TI}(hi:PI X tg iter wi)(hg:PG X tg g)(j:mj X body tb)(hp:PassesOwn (model X.prog X.w) X.A X.env X.xe:=by exact PassesOwn.never)(hc:X.calm=true:=by rfl)(hs:∀x,foldedSetIterable iter X.env x=pure x:=by intro _;rfl):PS X (.For tg iter body [] pos) (HP wi g tb):=by
 intro a s σ H D I h;refine wpAny_For (fW (hi a s σ H _ I h) λv s1 h1=>fW h1 λaa s2 h2=>?_) hs;obtain⟨it,E,U,J,H2,e,I2,T,K,S,W,⟨m0,w0⟩,F⟩:=h2;subst e;have p:∀{H':Hp},(∀b∈E,H' b=none)->∀b∈E,jP X a H' b:=λhn b j=>⟨hn b j,(S b j).2⟩;refine codeAny_forLoop_any (λn s'=>∃i σ' H',eT X a σ' H' s'/\U i s'.heap/\(∀b∈E,H' b=none)/\W i n σ' H') ?_ m0 ⟨0,σ,H2,I2,K,λb j=>(S b j).1,w0⟩;rintro n Y ⟨i,σ3,G,R,FE,B,w3⟩;rcases F i n σ3 G w3 with ⟨stop,qn⟩ | ⟨go,N,hN,step⟩
 ·refine cJ hp (fW (T.done X rfl rfl rfl hc i a Y σ3 G X.xe R (p B) FE stop) ?_);rintro r s4 ⟨M,I4⟩;subst M;exact wpAny_execs_nil ⟨σ3,G,I4,qn⟩
 ·refine cJ hp (fW (T.item X rfl rfl rfl hc i a Y σ3 G X.xe R (p B) FE go) ?_);rintro r s4 ⟨u,M,h4⟩;subst M;refine cJ hp (fW h4 ?_);rintro _ Z ⟨x,Q,I5,r5,y5,z,O⟩;have P:=I5.pinned (p O) (T.obj _ _ z);refine cJ hp (fW (hg _ Z σ3 Q x u _ P r5 (step x Q y5)) ?_);rintro _ s6 ⟨σ6,H6,I6,q6⟩;refine cJ hp (fW (j _ s6 σ6 H6 _ I6 q6) λf L y=>?_);have q:∀{σ7:St} {t:Hp},eT X (a++pj E Z.heap) σ7 t L->N σ7 t->∃m,m<n/\∃i σ' H',eT X a σ' H' L/\U i L.heap/\(∀b∈E,H' b=none)/\W i m σ' H':=λ{σ7 t} l C=>by
   obtain⟨m',hm,w7⟩:=hN σ7 t C;refine⟨m',hm,i+1,σ7,t,l.Ki,T.keep _ _ _ z λb j o e=>(l.pin (b,o) (aO _ (aO _ (kJ j e)))).1,λb j=>?_,w7⟩;obtain⟨o,e,d⟩:=T.obj _ _ z b j;exact(l.pin (b,o) (aO _ (aO _ (kJ j e)))).2.1
  cases f with
  |next=>obtain⟨σ7,t,l,C⟩:=y;exact q l C
  |cont=>obtain⟨σ7,t,l,C⟩:=y;exact q l C
  |brk=>obtain⟨σ7,t,l,y⟩:=y;exact⟨σ7,t,l.Ki,y⟩
  |ret v=>obtain⟨x7,σ7,t,l,r7,y⟩:=y;exact⟨x7,σ7,t,l.Ki,r7,y⟩
theorem fQ (b:Nat->St->Hp->Prop)(l:b 0 σ H)(h:∀i σ H,i<=xs.length->b i σ H->eX K H a xs)(hs:∀i x σ H,xs[i]?=some x->b i σ H->g x σ H λσ2 H2=>tb {D with nx:=b (i+1),ct:=b (i+1),bk:=D.nx} σ2 H2)(d:∀σ H,b xs.length σ H->D.nx σ H):∃W:Nat->Nat->St->Hp->Prop,(∃m,W 0 m σ H)/\∀i m σ H,W i m σ H->((EU K a).stop i H/\D.nx σ H)\/((EU K a).go i H/\∃N:St->Hp->Prop,(∀σ' H',N σ' H'->∃m',m'<m/\W (i+1) m' σ' H')/\∀x H',(EU K a).yld i H x H'->g x σ H' λσ2 H2=>tb {D with nx:=N,ct:=N,bk:=D.nx} σ2 H2):=by
 refine⟨λi m σ H=>m=xs.length-i/\i<=xs.length/\b i σ H,⟨xs.length,by simp,bo _,l⟩,?_⟩;rintro i m σ H ⟨rfl,o,p⟩;have q:=h i σ H o p;by_cases hlt:i<xs.length
 ·refine .inr ⟨⟨xs,xs[i],q,by simp[hlt]⟩,b (i+1),λσ' H' j=>⟨xs.length-(i+1),by lia,rfl,hlt,j⟩,λx H' y=>?_⟩;obtain⟨e,y⟩:=y;subst e;exact hs i x σ _ (y xs q) p
 ·have e:i=xs.length:=by lia
  subst e;exact .inl ⟨⟨xs,q,ao _⟩,d σ H p⟩
theorem CA (b:Nat->St->Hp->Prop)(l:b 0 σ H)(h:∀i σ H,i<=xs.length->b i σ H->gs K H a xs)(hs:∀i x σ H,xs[i]?=some x->b i σ H->g x σ H λσ2 H2=>tb {D with nx:=b (i+1),ct:=b (i+1),bk:=D.nx} σ2 H2)(d:∀σ H,b xs.length σ H->D.nx σ H):∃W:Nat->Nat->St->Hp->Prop,(∃m,W 0 m σ H)/\∀i m σ H,W i m σ H->((GQ K a).stop i H/\D.nx σ H)\/((GQ K a).go i H/\∃N:St->Hp->Prop,(∀σ' H',N σ' H'->∃m',m'<m/\W (i+1) m' σ' H')/\∀x H',(GQ K a).yld i H x H'->g x σ H' λσ2 H2=>tb {D with nx:=N,ct:=N,bk:=D.nx} σ2 H2):=by
 refine⟨λi m σ H=>m=xs.length-i/\i<=xs.length/\b i σ H,⟨xs.length,by simp,bo _,l⟩,?_⟩;rintro i m σ H ⟨rfl,o,p⟩;have q:=h i σ H o p;by_cases hlt:i<xs.length
 ·refine .inr ⟨⟨xs,xs[i],q,by simp[hlt]⟩,b (i+1),λσ' H' j=>⟨xs.length-(i+1),by lia,rfl,hlt,j⟩,λx H' y=>?_⟩;obtain⟨e,y⟩:=y;subst e;exact hs i x σ _ (y xs q) p
 ·have e:i=xs.length:=by lia
  subst e;exact .inl ⟨⟨xs,q,ao _⟩,d σ H p⟩
theorem kA {lo:Int}{n:Nat}(a:Nat->St->Hp->Prop)(h:a 0 σ H)(hs:∀i σ H,i<n->a i σ H->g (.int (lo+i)) σ H λσ2 H2=>tb {D with nx:=a (i+1),ct:=a (i+1),bk:=D.nx} σ2 H2)(b:∀σ H,a n σ H->D.nx σ H):∃W:Nat->Nat->St->Hp->Prop,(∃m,W 0 m σ H)/\∀i m σ H,W i m σ H->((ET lo n).stop i H/\D.nx σ H)\/((ET lo n).go i H/\∃N:St->Hp->Prop,(∀σ' H',N σ' H'->∃m',m'<m/\W (i+1) m' σ' H')/\∀x H',(ET lo n).yld i H x H'->g x σ H' λσ2 H2=>tb {D with nx:=N,ct:=N,bk:=D.nx} σ2 H2):=by
 refine⟨λi m σ H=>m=n-i/\i<=n/\a i σ H,⟨n,by simp,bo _,h⟩,?_⟩;rintro i m σ H ⟨rfl,j,p⟩;by_cases hlt:i<n
 ·refine .inr ⟨hlt,a (i+1),λσ' H' d=>⟨n-(i+1),by lia,rfl,hlt,d⟩,λx H' y=>?_⟩;obtain⟨e,y⟩:=y;subst e y;exact hs i σ _ hlt p
 ·have e:i=n:=by lia
  subst e;exact .inl ⟨ao _,b σ H p⟩
abbrev R2:=V->V->Hp->VK->Prop
def nF (X:Cx)(f:Value->Value->Sem Value)(r:R2):Prop:=
 ∀(pins:List (Addr×Obj)) (s:Shared) (σ:St) (H:Hp) (x y:V) (v u:Value) (Q:VK),eT X pins σ H s->eZ x v->eZ y u->r x y H Q->
  wpAny (model X.prog X.w) X.A (f v u) (EP X pins σ Q) X.xe s
def Hz (X:Cx)(f:Value->Sem Value)(r:V->Hp->VK->Prop):Prop:=
 ∀(pins:List (Addr×Obj)) (s:Shared) (σ:St) (H:Hp) (x:V) (v:Value) (Q:VK),eT X pins σ H s->eZ x v->r x H Q->
  wpAny (model X.prog X.w) X.A (f v) (EP X pins σ Q) X.xe s
def jv (X:Cx)(f:Value)(r:List V->Hp->VK->Prop):Prop:=
 ∀(pins:List (Addr×Obj)) (s:Shared) (σ:St) (H:Hp) (xs:List V) (us:List Value) (Q:VK),eT X pins σ H s->fU xs us->r xs H Q->
  wpAny (model X.prog X.w) X.A (call f us) (EP X pins σ Q) X.xe s
def IM (X:Cx)(r:V->Hp->(Bool->Hp->Prop)->Prop):Prop:=
 ∀(pins:List (Addr×Obj)) (s:Shared) (σ:St) (H:Hp) (x:V) (v:Value) (Q:Bool->Hp->Prop),eT X pins σ H s->eZ x v->r x H Q->
  wpAny (model X.prog X.w) X.A (truthy v) (TP X pins σ Q) X.xe s
def Hr (r:R2)(ta tb:TE):TE:=λσ H Q=>ta σ H λx H1=>tb σ H1 λy H2=>r x y H2 Q
def Jx (r:V->Hp->VK->Prop)(ta:TE):TE:=λσ H Q=>ta σ H λx H1=>r x H1 Q
inductive JZ (C:Int->Int->Prop)(g:Int->Int->V)(x:V)(y:V)(H:Hp)(Q:VK):Prop
 |mk (i j:_)(_:x=.int i)(_:y=.int j)(_:C i j)(_:Q (g i j) H)
def rI (C:Int->Int->Prop)(g:Int->Int->V):R2:=λx y H Q=>JZ C g x y H Q
inductive Ja (g:Int->Int->V)(x:V)(y:V)(H:Hp)(Q:VK):Prop
 |mk (i j:_)(_:x=.int i)(_:y=.int j)(_:Q (g i j) H)
def Bn (g:Int->Int->V):R2:=λx y H Q=>Ja g x y H Q
inductive JY (g:Int->V)(x:V)(H:Hp)(Q:VK):Prop
 |mk (i:_)(_:x=.int i)(_:Q (g i) H)
def rU (g:Int->V):V->Hp->VK->Prop:=λx H Q=>JY g x H Q
section
variable {a b c:Expr}{tb tc:TE}
theorem EJ (g:PE X a ta)(o:PE X b tb){R:V->V->Hp->Prop}(I:eT X pins σ H s)(h:ta σ H λx H1=>tb σ H1 λy H2=>R x y H2){Q:Value->Shared->Prop}{f:Value->Value->Sem Value}(e:∀v u s2 x y H2,eT X pins σ H2 s2->eZ x v->eZ y u->R x y H2->wpAny (model X.prog X.w) X.A (f v u) Q X.xe s2):wpAny (model X.prog X.w) X.A (eval a X.env) (λv s₁=>wpAny (model X.prog X.w) X.A (eval b X.env) (λu s₂=>wpAny (model X.prog X.w) X.A (f v u) Q X.xe s₂) X.xe s₁) X.xe s:=by
 refine fW (g pins s σ H _ I h) ?_;rintro v m ⟨x,H1,p,j,l⟩;refine fW (o pins m σ H1 _ p l) ?_;rintro u s2 ⟨y,H2,i,d,q⟩;exact e v u s2 x y H2 i j d q
theorem fe {op:Operator}(e:nF X (binaryOp op) r)(o:PE X a ta)(i:PE X b tb):PE X (.BinOp a op b pos) (Hr r ta tb):=by
 intro d s σ H Q I h;exact wpAny_BinOp (EJ o i I h λv u m x y l p g j q=>e d m σ l x y v u Q p g j q)
theorem jb {op:UnaryOp}{r:V->Hp->VK->Prop}(d:Hz X (unaryOp op) r)(g:PE X a ta):PE X (.UnaryOp op a pos) (Jx r ta):=by
 intro b s σ H Q I h;exact UnaryOp_ (fW (g b s σ H _ I h) (by rintro v l ⟨x,e,m,i,j⟩;exact d b l σ e x v Q m i j))
theorem Hs {f:Value->Value->Sem Value}{C:Int->Int->Prop}{g:Int->Int->Int}(a:∀(i j:Int) (t u:Tok) (s:Shared) (Q:Value->Shared->Prop) (E:Value->Shared->Prop),C i j->Q (.int (g i j) s.toks) {s with toks:=s.toks+1}->wpAny (model X.prog X.w) X.A (f (.int i t) (.int j u)) Q E s):nF X f (rI C λi j=>.int (g i j)):=by
 intro b s σ H x y v u Q I e l h;obtain⟨i,j,rfl,rfl,m,q⟩:=h;obtain⟨t,rfl⟩:=e;obtain⟨d,rfl⟩:=l;exact a i j t d s _ _ m ⟨.int (g i j),H,I.tok _,⟨_,rfl⟩,q⟩
theorem BY {f:Value->Value->Sem Value}{g:Int->Int->Int}(a:∀(i j:Int) (t u:Tok) (s:Shared) (Q:Value->Shared->Prop) (E:Value->Shared->Prop),Q (.int (g i j) s.toks) {s with toks:=s.toks+1}->wpAny (model X.prog X.w) X.A (f (.int i t) (.int j u)) Q E s):nF X f (Bn λi j=>.int (g i j)):=by
 intro b s σ H x y v u Q I e l h;obtain⟨i,j,rfl,rfl,q⟩:=h;obtain⟨t,rfl⟩:=e;obtain⟨d,rfl⟩:=l;exact a i j t d s _ _ ⟨.int (g i j),H,I.tok _,⟨_,rfl⟩,q⟩
theorem BZ {f:Value->Value->Sem Value}{g:Int->Int->Bool}(a:∀(i j:Int) (t u:Tok) (s:Shared) (Q:Value->Shared->Prop) (E:Value->Shared->Prop),Q (.bool (g i j)) s->wpAny (model X.prog X.w) X.A (f (.int i t) (.int j u)) Q E s):nF X f (Bn λi j=>.bl (g i j)):=by
 intro b s σ H x y v u Q I e l h;obtain⟨i,j,rfl,rfl,q⟩:=h;obtain⟨t,rfl⟩:=e;obtain⟨d,rfl⟩:=l;exact a i j t d s _ _ ⟨.bl (g i j),H,I,rfl,q⟩
def Ji (i j:Int):Prop:=0<j/\j<1073741824
def Jh (i j:Int):Prop:=0<=j/\j<=1000000/\i.natAbs<2^64
def Fd (i j:Int):Prop:=(-(2^64)<i/\i<2^64)\/(-(2^64)<j/\j<2^64)
theorem Fd.ok {i j:Int}(h:Fd i j):IntMulOk i j:=by
 rcases h with ⟨a,b⟩ | ⟨a,b⟩
 ·exact .of_left (intBits_le_64 a b)
 ·exact .of_right (intBits_le_64 a b)
theorem lh:nF X (binaryOp .Add) (Bn λi j=>.int (i+j)):=BY λ_ _ _ _ _ _ _ q=>add_int q
theorem zP:nF X (binaryOp .Sub) (Bn λi j=>.int (i-j)):=BY λ_ _ _ _ _ _ _ q=>sub_int q
theorem rX:nF X (binaryOp .Mult) (rI Fd λi j=>.int (i*j)):=Hs λ_ _ _ _ _ _ _ hc q=>mul_int q hc.ok
theorem jx:nF X (binaryOp .FloorDiv) (rI Ji λi j=>.int (i / j)):=Hs λi j _ _ _ _ _ hc q=>by
 have h1:(0:Int)<j:=hc.1;have h2:j<1073741824:=hc.2;exact floordiv_int (by lia) (by rw[Int.fdiv_eq_ediv_of_nonneg i (by lia)];exact q) (.inl (PyProof.noPylong_small (by lia)))
theorem j7:nF X (binaryOp .Mod) (rI (λ_ j=>0<j) λi j=>.int (i % j)):=Hs λi j _ _ _ _ _ hc q=>by
 have h1:(0:Int)<j:=hc;exact mod_int' (by lia) (by rw[Int.fmod_eq_emod_of_nonneg i (by lia)];exact q)
theorem u5:nF X (binaryOp .Pow) (rI Jh λi j=>.int (i^j.toNat)):=Hs λ_ _ _ _ _ _ _ hc q=>pow_int_small hc.1 hc.2.1 hc.2.2 q
theorem ic:nF X (binaryOp .BitAnd) (Bn λi j=>.int (Builtin.bitAnd i j)):=BY λ_ _ _ _ _ _ _ q=>and_int q
theorem qD:nF X (binaryOp .BitOr) (Bn λi j=>.int (Builtin.bitOr i j)):=BY λ_ _ _ _ _ _ _ q=>or_int q
theorem Jj {f:Value->Sem Value}{g:Int->Int}(a:∀(i:Int) (t:Tok) (s:Shared) (Q:Value->Shared->Prop) (E:Value->Shared->Prop),Q (.int (g i) s.toks) {s with toks:=s.toks+1}->wpAny (model X.prog X.w) X.A (f (.int i t)) Q E s):Hz X f (rU λi=>.int (g i)):=by
 intro b s σ H x v Q I d h;obtain⟨i,rfl,q⟩:=h;obtain⟨t,rfl⟩:=d;exact a i t s _ _ ⟨.int (g i),H,I.tok _,⟨_,rfl⟩,q⟩
theorem j6:Hz X (unaryOp .USub) (rU λi=>.int (-i)):=Jj λ_ _ _ _ _ q=>neg_int q
theorem kS:Hz X (unaryOp .Invert) (rU λi=>.int (Builtin.bitNot i)):=Jj λ_ _ _ _ _ q=>invert_int q
end
def FH:V->V->Bool
 |.non,.non=>true | .non,.int _=>true | .int _,.non=>true | .non,.bl _=>true | .bl _,.non=>true | .non,.str _=>true | .str _,.non=>true
 |.int _,.int _=>true | .bl _,.bl _=>true | .str _,.str _=>true | .byt _,.byt _=>true
 |.int _,.str _=>true | .str _,.int _=>true | .bl _,.str _=>true | .str _,.bl _=>true
 |_,_=>false
def JE:R2:=λx y H Q=>FH x y=true/\Q (.bl (decide (x=y))) H
def JD:R2:=λx y H Q=>FH x y=true/\Q (.bl (!decide (x=y))) H
theorem wP {i j:Int}:decide (V.int i=V.int j)=(i == j):=by
 rw[cT];simp
theorem AM {i j:Bool}:decide (V.bl i=V.bl j)=(i == j):=by
 rw[cT];simp
theorem wO {i j:Str}:decide (V.str i=V.str j)=(i == j):=by
 rw[cT];simp
theorem wQ {i j:Array UInt8}:decide (V.byt i=V.byt j)=(i.toList == j.toList):=by
 rw[cT];cases i;cases j;simp
section
variable {a b c:Expr}{tb tc:TE}
theorem gr {Q:VK}{k k':Bool}(I:eT X pins σ H s)(q:Q (.bl k) H)(e:k=k'):EP X pins σ Q (.bool k') s:=by
 subst e;exact⟨.bl k,H,I,rfl,q⟩
theorem km:nF X (compareOp .Eq) JE:=by
 intro e s σ H x y v u Q I d a h;obtain⟨hs,q⟩:=h;cases x with
 |non=>
  cases d;cases y with
  |non=>cases a;exact PySem.EqNone.eq_none_none (gr I q (by simp))
  |bl j=>cases a;exact PySem.EqNone.eq_none_bool (gr I q (by simp))
  |int j=>obtain⟨b,rfl⟩:=a;exact PySem.EqNone.eq_none_int (gr I q (by simp))
  |str j=>obtain⟨b,rfl⟩:=a;exact PySem.EqNone.eq_none_str (gr I q (by simp))
  |_=>exact absurd (show false=true from hs) aN
 |bl i=>
  cases d;cases y with
  |non=>cases a;exact PySem.EqNone.eq_bool_none (gr I q (by simp))
  |bl j=>cases a;exact eq_bool (gr I q AM)
  |str j=>obtain⟨b,rfl⟩:=a;exact PySem.EqMixed.eq_bool_str (gr I q (by simp))
  |_=>exact absurd (show false=true from hs) aN
 |int i=>
  obtain⟨t,rfl⟩:=d;cases y with
  |non=>cases a;exact PySem.EqNone.eq_int_none (gr I q (by simp))
  |int j=>obtain⟨b,rfl⟩:=a;exact eq_int (gr I q wP)
  |str j=>obtain⟨b,rfl⟩:=a;exact PySem.EqMixed.eq_int_str (gr I q (by simp))
  |_=>exact absurd (show false=true from hs) aN
 |str i=>
  obtain⟨t,rfl⟩:=d;cases y with
  |non=>cases a;exact PySem.EqNone.eq_str_none (gr I q (by simp))
  |bl j=>cases a;exact PySem.EqMixed.eq_str_bool (gr I q (by simp))
  |int j=>obtain⟨b,rfl⟩:=a;exact PySem.EqMixed.eq_str_int (gr I q (by simp))
  |str j=>obtain⟨b,rfl⟩:=a;exact eq_str (gr I q wO)
  |_=>exact absurd (show false=true from hs) aN
 |byt i=>
  obtain⟨t,rfl⟩:=d;cases y with
  |byt j=>obtain⟨b,rfl⟩:=a;exact W.eq_bytes (gr I q wQ)
  |_=>exact absurd (show false=true from hs) aN
 |_=>cases y <;> exact absurd (show false=true from hs) aN
theorem mB:nF X (compareOp .NotEq) JD:=by
 intro e s σ H x y v u Q I d a h;obtain⟨hs,q⟩:=h;cases x with
 |non=>
  cases d;cases y with
  |non=>cases a;exact PySem.EqNone.ne_none_none (gr I q (by simp))
  |bl j=>cases a;exact PySem.EqNone.ne_none_bool (gr I q (by simp))
  |int j=>obtain⟨b,rfl⟩:=a;exact PySem.EqNone.ne_none_int (gr I q (by simp))
  |str j=>obtain⟨b,rfl⟩:=a;exact PySem.EqNone.ne_none_str (gr I q (by simp))
  |_=>exact absurd (show false=true from hs) aN
 |bl i=>
  cases d;cases y with
  |non=>cases a;exact PySem.EqNone.ne_bool_none (gr I q (by simp))
  |bl j=>cases a;exact ne_bool (gr I q (congrArg not AM))
  |str j=>obtain⟨b,rfl⟩:=a;exact PySem.EqMixed.ne_bool_str (gr I q (by simp))
  |_=>exact absurd (show false=true from hs) aN
 |int i=>
  obtain⟨t,rfl⟩:=d;cases y with
  |non=>cases a;exact PySem.EqNone.ne_int_none (gr I q (by simp))
  |int j=>obtain⟨b,rfl⟩:=a;exact ne_int (gr I q (congrArg not wP))
  |str j=>obtain⟨b,rfl⟩:=a;exact PySem.EqMixed.ne_int_str (gr I q (by simp))
  |_=>exact absurd (show false=true from hs) aN
 |str i=>
  obtain⟨t,rfl⟩:=d;cases y with
  |non=>cases a;exact PySem.EqNone.ne_str_none (gr I q (by simp))
  |bl j=>cases a;exact PySem.EqMixed.ne_str_bool (gr I q (by simp))
  |int j=>obtain⟨b,rfl⟩:=a;exact PySem.EqMixed.ne_str_int (gr I q (by simp))
  |str j=>obtain⟨b,rfl⟩:=a;exact ne_str (gr I q (congrArg not wO))
  |_=>exact absurd (show false=true from hs) aN
 |byt i=>
  obtain⟨t,rfl⟩:=d;cases y with
  |byt j=>obtain⟨b,rfl⟩:=a;exact W.ne_bytes (gr I q (congrArg not wQ))
  |_=>exact absurd (show false=true from hs) aN
 |_=>cases y <;> exact absurd (show false=true from hs) aN
theorem wz:nF X (compareOp .Lt) (Bn λi j=>.bl (decide (i<j))):=BZ λ_ _ _ _ _ _ _ q=>lt_int q
theorem wA:nF X (compareOp .LtE) (Bn λi j=>.bl (decide (i<=j))):=BZ λ_ _ _ _ _ _ _ q=>le_int q
theorem Dj:nF X (compareOp .Gt) (Bn λi j=>.bl (decide (j<i))):=BZ λ_ _ _ _ _ _ _ q=>gt_int q
theorem Dk:nF X (compareOp .GtE) (Bn λi j=>.bl (decide (j<=i))):=BZ λ_ _ _ _ _ _ _ q=>ge_int q
theorem fO (b:Expr)(h:op≠.In:=by decide)(h2:op≠.NotIn:=by decide):behindInMarks op b=false:=by
 have d:(op == CmpOp.In)=false:=by cases op <;> first | rfl | exact absurd rfl h
 have a:(op == CmpOp.NotIn)=false:=by cases op <;> first | rfl | exact absurd rfl h2
 cases b <;> simp[behindInMarks,d,a]
theorem jU (e:nF X (compareOp op) r)(p:PE X a ta)(i:PE X b tb)(m:behindInMarks op b=false):PE X (.Compare a [op] [b] pos) (Hr r ta tb):=by
 intro d s σ H Q I h;exact wpAny_Compare1 (EJ p i I h λv u o x y l t g j q=>e d o σ l x y v u Q t g j q) m
inductive EW (Q:Bool->Hp->Prop)(x:V)(H':Hp):Prop
 |mk (k:_)(_:x=.bl k)(_:Q k H')
def Fn (t:TE):TT:=λσ H Q=>t σ H λx H'=>EW Q x H'
theorem fC (j:nF X (compareOp op) r)(D:PE X a ta)(o:PE X b tb)(w:behindInMarks op b=false):PT X (.Compare a [op] [b] pos) (Fn (Hr r ta tb)):=by
 intro d s σ H Q I h;refine wpAny_isTrue_Compare1 (fW (D d s σ H _ I h) λv m ⟨x,g,p,l,E⟩=>fW (o d m σ g _ p E) λu C ⟨y,A,G,t,J⟩=>fW (j d C σ A x y v u _ G l t J) λc K ⟨z,q,B,i,k,e,F⟩=>?_) w;subst e;cases i;exact bR ⟨q,B,F⟩
inductive C3 (r':R2)(tc:TE)(σ:St)(Q:VK)(y:V)(z:V)(H3:Hp):Prop
 |mk (k:_)(_:z=.bl k)(_:if k=true then tc σ H3 λw' H4=>r' y w' H4 Q else Q (.bl false) H3)
def DF (r r':R2)(ta tb tc:TE):TE:=λσ H Q=>ta σ H λx H1=>tb σ H1 λy H2=>r x y H2 λz H3=>C3 r' tc σ Q y z H3
theorem zI {op':CmpOp}{r':R2}(M:nF X (compareOp op) r)(i:nF X (compareOp op') r')(T:PE X a ta)(B:PE X b tb)(K:PE X c tc)(hm:lastMarks [op,op'] [b,c]=false:=by with_unfolding_all rfl):PE X (.Compare a [op,op'] [b,c] pos) (DF r r' ta tb tc):=by
 intro g s σ H Q I h;refine Compare_chain (fW (T g s σ H _ I h) λv P ⟨x,O,D,w,J⟩=>chain_link (fW (B g P σ O _ D J) λu G ⟨y,R,L,o,U⟩=>fW (M g G σ R x y v u _ L w o U) λd S ⟨z,j,l,t,k,e,m⟩=>?_)) hm;subst e;cases t;refine bR ?_;cases k with
 |false=>exact ite_ff ⟨.bl false,j,l,rfl,m⟩
 |true=>exact ite_tt (chain_last (fW (K g S σ j _ l m) (by rintro q p ⟨C,F,A,E,N⟩;exact i g p σ F y C u q Q A o E N)))
def Gz (K:W.Frag)(x:V)(H:Hp)(k:Bool):Prop:=
 match x with
 |.non=>k=false
 |.bl b=>k=b
 |.int i=>k=(i != 0)
 |.str y=>y.length<=sizeLine/\k=((y.length:Int) != 0)
 |.byt y=>y.size<=sizeLine/\k=((y.size:Int) != 0)
 |.ref p=>(∃xs,eX K H p xs/\k=!xs.isEmpty)\/(∃xs,gs K H p xs/\k=!xs.isEmpty)\/∃kvs,H p=some (.dK kvs)/\k=!kvs.isEmpty
 |_=>False
theorem pF {κ:Type}{kvs:List (κ×V)}{vs:List (κ×Value)}(r:KV kvs vs):(!vs.isEmpty)=!kvs.isEmpty:=by
 cases r <;> rfl
theorem pE {its:List Value}(r:fU xs its):(!its.toArray.isEmpty)=!xs.isEmpty:=by
 cases r <;> simp
theorem so:(sizeLine:Nat)<2^63:=by rw[bV];decide
theorem yP:IM X (λx H Q=>∃k,Gz X.K x H k/\Q k H):=by
 intro B s σ H x v Q I l h;obtain⟨k,e,q⟩:=h;have D:=so;have hs:sizeLine=16777216:=bV;cases x with
 |non=>
  cases l;have a:k=false:=e;subst a;exact truthy_none ⟨H,I,q⟩
 |bl b=>
  cases l;have a:k=b:=e;subst a;exact bR ⟨H,I,q⟩
 |int i=>
  obtain⟨t,rfl⟩:=l;have a:k=(i != 0):=e;subst a;exact PySem.P.truthy_int ⟨H,I,q⟩
 |str y=>
  obtain⟨t,rfl⟩:=l;obtain⟨hy,a⟩:y.length<=sizeLine/\k=((y.length:Int) != 0):=e;subst a;exact PySem.P.truthy_str (by lia) ⟨H,I.tok _,q⟩
 |byt y=>
  obtain⟨t,rfl⟩:=l;obtain⟨hy,a⟩:y.size<=sizeLine/\k=((y.size:Int) != 0):=e;subst a;exact W.truthy_bytes (by lia) ⟨H,I.tok _,q⟩
 |ref p=>
  cases l;have a:(∃j,eX X.K H p j/\k=!j.isEmpty)\/(∃j,gs X.K H p j/\k=!j.isEmpty)\/∃d,H p=some (.dK d)/\k=!d.isEmpty:=e;rcases a with ⟨j,o,a⟩ | ⟨j,o,a⟩ | ⟨d,o,a⟩
  ·subst a;obtain⟨A,r,z,C⟩:=I.list o;have g:=r.length;exact wpAny_truthy_list z.isList (by simp only[aM];lia) ⟨H,I.tok _,by rw[pE r];exact q⟩
  ·subst a;obtain⟨A,r,z,C⟩:=I.tuple o;have g:=r.length;exact truthy_tuple z (by simp only[aM];lia) ⟨H,I.tok _,by rw[pE r];exact q⟩
  ·subst a;obtain⟨C,hS,vs,r,m⟩:d.length<=sizeLine/\(p == sysModules)=false/\∃vs,KV d vs/\s.heap.DictOf (fb X.prog X.w) p vs:=I.hok p _ o;have g:d.length=vs.length:=Paired.length r;exact wpAny_truthy_dict hS m (by lia) ⟨H,I.tok _,by rw[pF r];exact q⟩
 |_=>exact(show False from e).elim
theorem iz (g:PE X a ta)(e:∀whole,isTrue a X.env whole=(do let v <-whole;standAt a.pos;holding [v] (truthy v))):PT X a (λσ H Q=>ta σ H λx H'=>∃k,Gz X.K x H' k/\Q k H'):=by
 intro b s σ H Q I h;exact isTrue_plain (fW (g b s σ H _ I h) (by rintro v l ⟨x,d,m,i,j⟩;exact yP b l σ d x v Q m i j)) (e _)
theorem jk {x:V}(r:fU [x] us):∃u,us=[u]/\eZ x u:=by
 cases r with
 |cons r1 r2=>cases r2;exact⟨_,rfl,r1⟩
theorem we {x:V}(r:fU [x,y] us):∃u w',us=[u,w']/\eZ x u/\eZ y w':=by
 cases r with
 |cons r1 r2=>
  cases r2 with
  |cons r3 r4=>cases r4;exact⟨_,_,rfl,r1,r3⟩
theorem yw (b:X.calm=true):jv X (.builtin "max") (λxs H Q=>∃i j,xs=[.int i,.int j]/\Q (.int (if j>i then j else i)) H):=by
 intro a s σ H xs g Q I r h;obtain⟨i,j,rfl,q⟩:=h;obtain⟨u,d,rfl,⟨t,rfl⟩,⟨e,rfl⟩⟩:=we r;refine max_two_ints (I.ok.hd b) λl m k=>⟨_,H,I.kept k,?_,q⟩;by_cases hj:j>i
 ·rw[ax hj,ax hj];exact⟨_,rfl⟩
 ·rw[av hj,av hj];exact⟨_,rfl⟩
theorem yt (b:X.calm=true):jv X (.builtin "min") (λxs H Q=>∃i j,xs=[.int i,.int j]/\Q (.int (if j<i then j else i)) H):=by
 intro a s σ H xs g Q I r h;obtain⟨i,j,rfl,q⟩:=h;obtain⟨u,d,rfl,⟨t,rfl⟩,⟨e,rfl⟩⟩:=we r;refine min_two_ints (I.ok.hd b) λl m k=>⟨_,H,I.kept k,?_,q⟩;by_cases hj:j<i
 ·rw[ax hj,ax hj];exact⟨_,rfl⟩
 ·rw[av hj,av hj];exact⟨_,rfl⟩
end
structure v5 (h:Heap)(x dx C:Addr)(mA:Str->Option Value):Prop where
 obj:h.get? x=some (W.instObj C dx)
 ns:h.Ns1 dx mA
 ne:dx≠x
theorem ya (n:h.Ns1 dx mA):∃od,h.get? dx=some od/\∀name,W.lookIn name od=some (mA name):=by
 obtain⟨o,d,r,i,g,m,_,l⟩:=n;refine⟨o,i,λname=>?_⟩;have e:=l name;unfold nsFind findBy at e;rw[<-Array.find?_toList]at e;unfold W.lookIn;rw[g];dsimp only
 split
 ·rename_i y q
  rw[q]at e;exact congrArg some e
 ·rename_i q
  rw[q]at e;have a:d.toList.any (·.refKey)=false:=by
   rw[List.any_eq_false];intro y j;obtain⟨z,t,b⟩:=m y (Array.mem_toList_iff.mp j);simp[DictEntry.refKey,b]
  have p:¬d.toList.any (·.refKey)=true:=by rw[a];exact aN
  rw[av p];exact congrArg some e
theorem v5.look {x:Addr}(I:v5 h x dx C mA):∃od,W.InstAt h x (W.instObj C dx) C (some od)/\∀name,W.lookIn name od=some (mA name):=
 let ⟨od,ho,hl⟩:=ya I.ns
 ⟨od,⟨I.obj,rfl,rfl,ho⟩,hl⟩
section
variable {prog:Program}{x f:Addr}{name:Str}{v:Value}
theorem Cy {expr:Bool}(X:K.In s.heap)(I:v5 s.heap x dx C mA)(i:W.plainGet K C name=true)(g:W.hasDictIn K C=true)(e:W.findIn K (.ref C) name=some none)(d:mA name=some v)(a:W.handedIn v=true)(h:Q v {s with toks:=s.toks+1}):wpAny (model prog w) A (getAttr (.ref x) name expr) Q E s:=by
 obtain⟨j,J,b⟩:=I.look;exact W.get_value X J (W.plainGet_of i).1 (W.findObj_own g e rfl (by rw[b,d])) a h
theorem AC {Q:Value×List Value->Shared->Prop}(X:K.In s.heap)(I:v5 s.heap x dx C mA)(a:W.plainGet K C name=true)(b:W.findIn K (.ref C) name=some (some (.ref f)))(i:W.isFn K (.ref f)=true)(g:mA name=none)(h:Q (.ref f,[.ref x]) s):wpAny (model prog w) A (getMethod (.ref x) name pl) Q E s:=by
 obtain⟨d,J,e⟩:=I.look;exact W.method_fn X J (W.plainGet_of a).1 (W.plainGet_of a).2 b (beq_iff_eq.mp i) (by show(W.lookIn name d).map (·.isSome)=some false;rw[e,g];rfl) h
theorem By {ns:List Str}{Q:Unit->Shared->Prop}(X:K.In s.heap)(I:v5 s.heap x dx C mA)(hs:W.findIn K (.ref C) "__setattr__" = some (some (.builtin "object.__setattr__")))(hp:W.plainOver K C=true)(p:W.takerIn K C name=some none)(o:W.hasDictIn K C=true)(m:PySem.Within mA ns)(hsz:ns.length<=sizeLine)(h:∀h',v5 h' x dx C (λy=>if y=name then some v else mA y)->Heap.SameBut dx s.heap h'->Q () {s with heap:=h',toks:=s.toks+2}):wpAny (model prog w) A (setAttr (.ref x) name v) Q E s:=by
 obtain⟨H,J,F⟩:=I.look;refine W.set_plain X J hs (W.osa_open (s:={s with toks:=s.toks+1}) (r:=none) X J hp p λb=>?_);obtain⟨D,z,j⟩:=W.any_some o;have q:s.heap.get? x=some ⟨.ref C,some dx,.plain,#[]⟩:=I.obj;refine ac (ar (ac (ac (wpAny_loadPart q (ac (W.Looks.here (s:={s with toks:=s.toks+1}) (W.looks_clsIn X z) ?_))))));rw[j];refine ar (a:=some dx) (ac (ar (ac ?_)));refine wpAny_nsSet1 (s:={s with toks:=s.toks+1}) I.ns λh' e d=>?_;obtain⟨G,B,t,i,l,g⟩:=e.count (PySem.Within.cons name v m);refine ac (wpAny_lookBehind i (by rw[l];exact pastItsLine_dict (bz g (by rw[aE];lia))) ?_);exact ar (h _ ⟨(d.2 _ (Ne.symm I.ne)).trans I.obj,e,I.ne⟩ d)
theorem Ak {R:Result->Shared->Prop}{vs:List Value}(X:K.In s.heap)(b:W.makesIn K C=true)(i:W.findIn K (.ref C) "__init__" = some (some (.ref f)))(e:W.typeIn K (.ref f)=some (.type "function"))(h:codeAny (model prog w) (A.under (.builtin "type.__call__" ⟨.ref C::vs,kw⟩)) (.call (.ref f) ⟨.ref (s.heap.objs.size+1)::vs,kw⟩) (W.InitBack (s.heap.objs.size+1) R) {s with heap:=(s.heap.push W.emptyDict).push (W.instObj C s.heap.objs.size)}):codeAny (model prog w) A (.call (.ref C) ⟨vs,kw⟩) R s:=by
 obtain⟨l,g,d,t,j⟩:=s;exact W.make_core (W.makes_of X b) (W.looks_findIn X i) (λa=>W.bind_fn X a e) (.inl rfl) h
end
def gq (f:Str)(v:V):List (Str×V)->List (Str×V)
 |[]=>[(f,v)]
 |(g,x)::r=>if g=f then (g,v)::r else (g,x)::gq f v r
theorem iB (f g:Str)(v:V):∀fs:List (Str×V),(gq f v fs).lookup g=if g=f then some v else fs.lookup g
 |[]=>by
  show List.lookup g [(f,v)]=_;by_cases h:g=f
  ·have hb:(g == f)=true:=beq_iff_eq.mpr h;simp only[List.lookup,hb,ax h]
  ·have hb:(g == f)=false:=beq_eq_false_iff_ne.mpr h;simp only[List.lookup,hb,av h]
 |(k,x)::r=>by
  have ih:=iB f g v r;rw[show gq f v ((k,x)::r)=(if k=f then (k,v)::r else (k,x)::gq f v r) from rfl];by_cases hk:k=f
  ·rw[ax hk];by_cases h:g=k
   ·have hb:(g == k)=true:=beq_iff_eq.mpr h;simp only[List.lookup,hb,ax (h.trans hk)]
   ·have hb:(g == k)=false:=beq_eq_false_iff_ne.mpr h;simp only[List.lookup,hb,av (λe:g=f=>h (e.trans hk.symm))]
  ·rw[av hk];by_cases h:g=k
   ·have hb:(g == k)=true:=beq_iff_eq.mpr h;simp only[List.lookup,hb,av (λe:g=f=>hk (h.symm.trans e))]
   ·have hb:(g == k)=false:=beq_eq_false_iff_ne.mpr h;simp only[List.lookup,hb];exact ih
theorem nh (f:Str)(v:V):∀fs:List (Str×V),f∈(gq f v fs).map (·.1)/\∀g,g∈fs.map (·.1)->g∈(gq f v fs).map (·.1)
 |[]=>⟨by simp[gq],λg h=>by simp at h⟩
 |(k,x)::r=>by
  obtain⟨i1,i2⟩:=nh f v r;rw[show gq f v ((k,x)::r)=(if k=f then (k,v)::r else (k,x)::gq f v r) from rfl];by_cases hk:k=f
  ·rw[ax hk];subst hk;exact⟨by simp,λg h=>by simpa using h⟩
  ·rw[av hk];refine⟨?_,λg h=>?_⟩
   ·rw[aG];exact bc _ i1
   ·rw[aG]at h ⊢;rcases am.mp h with e | e
    ·exact am.mpr (.inl e)
    ·exact bc _ (i2 g e)
theorem nL (f:Str)(v:V):∀fs:List (Str×V),(gq f v fs).length<=fs.length+1
 |[]=>by simp[gq]
 |(k,x)::r=>by
  have ih:=nL f v r;rw[show gq f v ((k,x)::r)=(if k=f then (k,v)::r else (k,x)::gq f v r) from rfl];by_cases hk:k=f
  ·rw[ax hk,aE,aE];lia
  ·rw[av hk,aE,aE];lia
theorem jB.some_of {o:Option Value}(r:jB (some v) o):∃u,o=some u/\eZ v u:=by
 cases o with
 |none=>exact(show False from r).elim
 |some u=>exact⟨u,rfl,r⟩
theorem jB.none_of {o:Option Value}(r:jB none o):o=none:=by
 cases o with
 |none=>rfl
 |some u=>exact(show False from r).elim
theorem yn {u:Value}(r:eZ v u):W.handedIn u=true:=by
 cases v with
 |non=>cases (show u=Value.none from r);rfl
 |bl b=>cases (show u=Value.bool b from r);rfl
 |int i=>obtain⟨t,e⟩:=(show ∃t,u=Value.int i t from r);cases e;rfl
 |str x=>obtain⟨t,e⟩:=(show ∃t,u=Value.str x t from r);cases e;rfl
 |byt b=>obtain⟨t,e⟩:=(show ∃t,u=Value.bytes b t from r);cases e;rfl
 |flt b=>obtain⟨t,e⟩:=(show ∃t,u=Value.float b t from r);cases e;rfl
 |ref a=>cases (show u=Value.ref a from r);rfl
 |ty n=>cases (show u=Value.type n from r);rfl
section
variable {fs fs':List (Str×V)}
theorem ou (b:lM P w H h)(e:H a=some (.ins C dx fs)):∃mA,v5 h a dx C mA/\(∀f,jB (fs.lookup f) (mA f))/\PySem.Within mA (fs.map (·.1))/\fs.length<=1000/\H dx=some (.own a):=by
 obtain⟨d,z,g,i,mA,n,r,q⟩:=(show fR P w H h a (.ins C dx fs) from b a _ e);exact⟨mA,⟨i,n,g⟩,r,q,z,d⟩
end
structure p9 (K:W.Frag)(C:Addr):Prop where
 pg:W.plainGet K C Str.empty=true
 hd:W.hasDictIn K C=true
 po:W.plainOver K C=true
 sa:W.findIn K (.ref C) "__setattr__" = some (some (.builtin "object.__setattr__"))
theorem p9.get (c:p9 K C)(f:Str):W.plainGet K C f=true:=c.pg
def gf (K:W.Frag)(C:Addr)(f:Str):Prop:=W.findIn K (.ref C) f=some none
theorem gf.taker {f:Str}(n:gf K C f):W.takerIn K C f=some none:=by
 unfold W.takerIn;rw[show W.findIn K (.ref C) f=some none from n];rfl
structure v6 (K:W.Frag)(C:Addr)(m:Str)(f:Addr):Prop where
 at_:W.findIn K (.ref C) m=some (some (.ref f))
 fn:W.isFn K (.ref f)=true
 kp:W.keepIn K (.ref f)=true
section
variable {fs:List (Str×V)}{f:Str}
theorem md {b:Bool}(I:eT X pins σ H s)(e:H a=some (.ins C dx fs))(c:p9 X.K C)(n:gf X.K C f)(l:fs.lookup f=some v)(h:∀u s',eT X pins σ H s'->eZ v u->Q u s'):wpAny (model X.prog X.w) A (getAttr (.ref a) f b) Q E s:=by
 obtain⟨i,O,r,_,_,_⟩:=ou I.hok e;obtain⟨u,g,d⟩:=jB.some_of (v:=v) (o:=i f) (by rw[<-l];exact r f);exact Cy I.kIn O (c.get f) c.hd n g (yn d) (h u _ (I.tok _) d)
theorem pI {g:Addr}{Q:Value×List Value->Shared->Prop}(I:eT X pins σ H s)(e:H a=some (.ins C dx fs))(c:p9 X.K C)(k:v6 X.K C m g)(l:fs.lookup m=none)(h:Q (.ref g,[.ref a]) s):wpAny (model X.prog X.w) A (getMethod (.ref a) m pl) Q E s:=by
 obtain⟨b,O,r,_,_,_⟩:=ou I.hok e;have hn:b m=none:=jB.none_of (by rw[<-l];exact r m);exact AC I.kIn O (c.get m) k.at_ k.fn hn h
theorem lW {u:Value}{Q:Unit->Shared->Prop}(I:eT X pins σ H s)(e:H a=some (.ins C dx fs))(c:p9 X.K C)(n:gf X.K C f)(G:fs.length<1000)(t:eZ y u)(h:∀s',eT X pins σ (upd H a (.ins C dx (gq f y fs))) s'->Q () s'):wpAny (model X.prog X.w) A (setAttr (.ref a) f u) Q E s:=by
 obtain⟨l,O,r,i,_,j⟩:=ou I.hok e;have F:(fs.map (·.1)).length<=sizeLine:=by rw[ab,bV];lia
 refine By I.kIn O c.sa c.po n.taker c.hd i F λv d B=>h _ ?_;have hd:∃o,v.get? dx=some o:=(by obtain⟨o,_,_,D,_⟩:=d.ns;exact⟨o,D⟩);refine I.write (x:=a) (e:=dx) (by rw[e];exact True.intro) (.inr j) (λb q m z=>(B.2 b m).trans z) hd ?_;refine⟨by rw[ef O.ne];exact j,?_,O.ne,d.obj,_,d.ns,λg=>?_,λg p=>?_⟩
 ·have:=nL f y fs;lia
 ·show jB ((gq f y fs).lookup g) (if g=f then some u else l g);rw[iB];by_cases q:g=f
  ·rw[ax q,ax q];exact t
  ·rw[av q,av q];exact r g
 ·by_cases q:g=f
  ·rw[q];exact(nh f y fs).1
  ·refine(nh f y fs).2 g (i g λz=>p ?_);show(if g=f then some u else l g)=none;rw[av q];exact z
theorem eT.made (I:eT X pins σ H s):eT X pins σ (upd (upd H s.heap.objs.size (.own (s.heap.objs.size+1))) (s.heap.objs.size+1) (.ins C s.heap.objs.size [])) {s with heap:=(s.heap.push W.emptyDict).push (W.instObj C s.heap.objs.size)}:=by
 have d:(s.heap.push W.emptyDict).get? s.heap.objs.size=some W.emptyDict:=aK s.heap rfl;have m:((s.heap.push W.emptyDict).push (W.instObj C s.heap.objs.size)).get? (s.heap.objs.size+1)=some (W.instObj C s.heap.objs.size):=by
  have:=aK (s.heap.push W.emptyDict) (o:=W.instObj C s.heap.objs.size) rfl;rwa[dU]at this
 have h:(s.heap.push W.emptyDict).Ns s.heap.objs.size (λ_=>none):=⟨W.emptyDict,#[],_,d,rfl,(λe i=>absurd i (by simp)),λ_=>rfl⟩;have l:=I.laid (a:=s.heap.objs.size) (o:=.own (s.heap.objs.size+1)) (h':=s.heap.push W.emptyDict) (t':=s.toks) (λb u q=>aA _ q) (ao _) ⟨_,d⟩;refine l.laid (a:=s.heap.objs.size+1) (o:=.ins C s.heap.objs.size []) (t':=s.toks) (λb u q=>aA _ q) (cB (dU _ _)) ?_
 have g:s.heap.objs.size≠s.heap.objs.size+1:=aW (df _);refine⟨by rw[ef g,d0],bo _,g,m,λ_=>none,(Heap.Ns1.of_empty h).at λo q=>aA _ q,λ_=>True.intro,λy j=>absurd rfl j⟩
theorem wU {prog:Program}{env:Env}{f:Str}(hb:attributeBase e f env (eval e env)=eval e env)(h:wpAny (model prog w) A (eval e env) (λo s₁=>wpAny (model prog w) A (getAttr o f true) Q E s₁) E s):wpAny (model prog w) A (eval (.Attribute e f pos) env) Q E s:=
 Attribute_any_ h (by rw[arm_eval_Attribute,hb])
end
inductive GT (K:W.Frag)(f:Str)(Q:VK)(x:V)(H1:Hp):Prop
 |mk (a C dx fs v:_)(_:x=.ref a)(_:H1 a=some (.ins C dx fs))(_:p9 K C)(_:gf K C f)(_:fs.lookup f=some v)(_:Q v H1)
def HQ (K:W.Frag)(ta:TE)(f:Str):TE:=λσ H Q=>ta σ H λx H1=>GT K f Q x H1
inductive GX (K:W.Frag)(f:Str)(D:mN)(σ:St)(y:V)(x:V)(H2:Hp):Prop
 |mk (a C dx fs:_)(_:x=.ref a)(_:H2 a=some (.ins C dx fs))(_:p9 K C)(_:gf K C f)(_:fs.length<1000)(_:D.nx σ (upd H2 a (.ins C dx (gq f y fs))))
def Ij (K:W.Frag)(ta tv:TE)(f:Str):TS:=λD σ H=>tv σ H λy H1=>ta σ H1 λx H2=>GX K f D σ y x H2
def E9 (X:Cx)(op:Operator)(rd:V->V->Hp->VK->Prop):Prop:=
 ∀(pins:List (Addr×Obj)) (s:Shared) (σ:St) (H:Hp) (x y:V) (u v:Value) (Q:VK),eT X pins σ H s->eZ x u->eZ y v->rd x y H Q->wpAny (model X.prog X.w) X.A (inplaceOp op u v) (EP X pins σ Q) X.xe s
section
variable {o value:Expr}{f:Str}{tpos:Pos}{tv:TE}
theorem jG (p:PE X e ta)(m:attributeBase e f X.env (eval e X.env)=eval e X.env):PE X (.Attribute e f pos) (HQ X.K ta f):=by
 intro b s σ H Q I h;refine wU m (fW (p b s σ H _ I h) ?_);rintro u w ⟨x,g,j,i,a,C,A,fs,v,d,r,c,n,l,q⟩;subst d;obtain rfl:u=Value.ref a:=i;exact md j r c n l λz y t o=>⟨v,g,t,o,q⟩
theorem zq (v:PE X o ta)(t:PE X value tv)(hs:swapsWith value (some (.Attribute o f pos')) pos.line X.env=pure false):PS X (.Assign [.Attribute o f pos'] value pos) (Ij X.K ta tv f):=by
 intro b s σ H D I h;refine plainObj_wpAny_Assign_Attribute (fW (t b s σ H _ I h) ?_) hs;rintro u g ⟨y,e,j,m,q⟩;refine fW (v b g σ e _ j q) ?_;rintro p F ⟨x,B,z,i,a,C,G,fs,d,w,c,n,l,A⟩;subst d;obtain rfl:p=Value.ref a:=i;exact lW z w c n l m λE r=>⟨σ,_,r,A⟩
end
section
variable {c:Value}{b:Bool}
inductive jA (K:W.Frag)(H:Hp):V->Value->Prop where
 |non:jA K H .non (.type "NoneType")
 |bl (x:Bool):jA K H (.bl x) (.type "bool")
 |int (i:Int):jA K H (.int i) (.type "int")
 |str (x:Str):jA K H (.str x) (.type "str")
 |flt (x:UInt64):jA K H (.flt x) (.type "float")
 |lst {a:Addr} {xs:List V} (e:H a=some (.lst xs)):jA K H (.ref a) (.type "list")
 |frz {a:Addr} {o:Obj} {xs:List V} (e:H a=some (.frz o (.lst xs))):jA K H (.ref a) (.type "list")
 |tup {a:Addr} {xs:List V} (e:H a=some (.tup xs)):jA K H (.ref a) (.type "tuple")
 |dK {a:Addr} {kvs:List (gz×V)} (e:H a=some (.dK kvs)):jA K H (.ref a) (.type "dict")
 |dT {a:Addr} {kvs:List (List gz×V)} (e:H a=some (.dT kvs)):jA K H (.ref a) (.type "dict")
 |ins {a C dx:Addr} {fs:List (Str×V)} (e:H a=some (.ins C dx fs)) (cl:p9 K C) (ha:W.findIn K (.ref C) "__class__" = some (some (.builtin "object.__class__")))
   (hn:W.specialIn K (.builtin "object.__class__") "__get__" = some (some (.builtin "getset_descriptor.__get__"))) (htk:W.takesIn K (.builtin "object.__class__")=some true)
   (hm:W.mroIn K C (.type "object")=some true):jA K H (.ref a) (.ref C)
theorem yj {x:V}{u t:Value}(I:eT X pins σ H s)(d:eZ x u)(r:jA X.K H x t)(e:W.kitOne X.K t c=some b)(h:∀tk,Q (.bool b) {s with toks:=tk}):wpAny (model X.prog X.w) A (call (.builtin "isinstance") [u,c]) Q E s:=by
 cases r with
 |non=>cases (show u=Value.none from d);exact dt W.kitx_none I.kIn True.intro e (λz=>nomatch z) h
 |bl y=>cases (show u=Value.bool y from d);exact dt W.kitx_bool I.kIn True.intro e (λz=>nomatch z) h
 |int i=>obtain⟨t,q⟩:=(show ∃t,u=Value.int i t from d);cases q;exact dt W.kitx_int I.kIn True.intro e (λz=>nomatch z) h
 |str y=>obtain⟨t,q⟩:=(show ∃t,u=Value.str y t from d);cases q;exact dt W.kitx_str I.kIn True.intro e (λz=>nomatch z) h
 |flt y=>obtain⟨t,q⟩:=(show ∃t,u=Value.float y t from d);cases q;exact dt W.kitx_float I.kIn True.intro e (λz=>nomatch z) h
 |@lst a j ea=>
  cases (show u=Value.ref a from d);obtain⟨_,_,n,_,g⟩:=(show fR X.prog X.w H s.heap a (.lst j) from I.hok a _ ea);exact dt W.kitx_list I.kIn ⟨_,g,rfl⟩ e (λz=>nomatch z) h
 |@frz a ob j ea=>
  cases (show u=Value.ref a from d);obtain⟨_,_,_,n,_,g⟩:=(show fR X.prog X.w H s.heap a (.frz ob (.lst j)) from I.hok a _ ea);exact dt W.kitx_list I.kIn ⟨_,g,rfl⟩ e (λz=>nomatch z) h
 |@tup a j ea=>
  cases (show u=Value.ref a from d);obtain⟨_,_,_,p⟩:=(show fR X.prog X.w H s.heap a (.tup j) from I.hok a _ ea);obtain⟨o,g,l,_⟩:=p;exact dt W.kitx_tuple I.kIn ⟨o,g,l⟩ e (λz=>nomatch z) h
 |@dK a kvs ea=>
  cases (show u=Value.ref a from d);obtain⟨_,_,D,_,p⟩:=(show fR X.prog X.w H s.heap a (.dK kvs) from I.hok a _ ea);obtain⟨o,m,v,g,l,_⟩:=p;exact dt W.kitx_dict I.kIn ⟨o,g,l.1⟩ e (λz=>nomatch z) h
 |@dT a kvs ea=>
  cases (show u=Value.ref a from d);obtain⟨_,_,j,_,o,m,v,g,l,_⟩:=(show fR X.prog X.w H s.heap a (.dT kvs) from I.hok a _ ea);exact dt W.kitx_dict I.kIn ⟨o,g,l.1⟩ e (λz=>nomatch z) h
 |@ins a C dx fs ea cl ha hn htk hm=>
  cases (show u=Value.ref a from d);obtain⟨B,O,_⟩:=ou I.hok ea;obtain⟨F,J,_⟩:=O.look;exact dt (W.kitx_own (cl.get _) cl.hd ha hn htk hm) I.kIn J e (λz=>nomatch z) h
end
structure gK (k:Nat)(A:Around):Prop where
 hd:A.handled=none
 dp:A.depth+3*k+5<recursionLimit
 un:A.units+16*k+200<cLine
theorem gK.mono {k:Nat}(r:gK k A)(h:j<=k):gK j A:=⟨r.hd,by have:=r.dp;lia,by have:=r.un;lia⟩
theorem gK.deeper {k:Nat}(r:gK (k+1) A)(env:Env):gK k (A.deeper env):=
 ⟨r.hd,by have:=r.dp;show A.depth+1+3*k+5<_;lia,by have:=r.un;show A.units+3+16*k+200<_;lia⟩
theorem gK.in1 {k:Nat}(r:gK (k+1) A):gK k A.in1:=
 ⟨r.hd,by have:=r.dp;show A.depth+3*k+5<_;lia,by have:=r.un;show A.units+1+16*k+200<_;lia⟩
theorem vw:(A.under (.builtin "type.__call__" ⟨.ref C::us,kw⟩)).depth=A.depth+1:=by
 first | rfl | simp[Around.under,Code.weight,Code.isCreation,Code.isGuard,Code.isCaller,Code.frames,Code.isFrame,guardIds]
theorem vv:(A.under (.builtin "type.__call__" ⟨.ref C::us,kw⟩)).units=A.units+1:=by
 first | rfl | simp[Around.under,Code.cUnits,Code.frames,Code.isFrame]
theorem gK.make {k:Nat}(r:gK (k+1) A)(C:Addr)(us:List Value)(kw:List (Str×Value)):gK k (A.under (.builtin "type.__call__" ⟨.ref C::us,kw⟩)):=
 ⟨r.hd,by have:=r.dp;rw[vw];lia,by have:=r.un;rw[vv];lia⟩
theorem gK.depth {k:Nat}(r:gK k A):A.depth<recursionLimit:=by have:=r.dp;lia
theorem gK.units {k:Nat}(r:gK k A):A.units+64<cLine:=by have:=r.un;lia
def xk:TA:=λ_ H Q=>Q [] H
def qu (ta:TE)(tr:TA):TA:=λσ H Q=>ta σ H λx H1=>tr σ H1 λxs H2=>Q (x::xs) H2
section
variable {t:TA}
theorem eg:PA X [] xk:=λ_ _ _ _ H Q I h=>Calls.spliced_nil ⟨[],H,I,.nil,h⟩
theorem dZ (q:PE X e te)(i:PA X es t)(hs:starEach (e::es) X.env=(false,eval e X.env)::starEach es X.env:=by rfl):PA X (e::es) (qu te t):=by
 intro b a s σ H Q I h;rw[hs];show wpAny _ _ (spliced ((false,eval e X.env)::backTo b (starEach es X.env))) _ _ s;refine Calls.spliced_cons (fW (q a s σ H _ I h) ?_);rintro u l ⟨x,d,m,g,r⟩;exact fW (i b a l σ d _ m r) (by rintro y z ⟨j,p,v,o,w⟩;exact⟨x::j,p,v,.cons g o,w⟩)
def Fm (t:TA):TE:=λσ H Q=>t σ H λxs H1=>xs.length<=sizeLine/\∀p,H1 p=none->Q (.ref p) (upd H1 p (.tup xs))
def HK (t:TA):TE:=λσ H Q=>t σ H λxs H1=>xs.length<=sizeLine/\∀p,H1 p=none->Q (.ref p) (upd H1 p (.lst xs))
theorem gL {x1}(h:PA X es t):PE X (.Tuple es x1 pos) (Fm t):=by
 intro a s σ H Q I o;refine wpAny_Tuple_spliced (fW (h pos a s σ H _ I o) ?_);rintro m d ⟨l,g,i,r,z,q⟩;refine⟨by rw[<-r.length];exact z,?_⟩;have j:g d.heap.objs.size=none:=i.hok.fresh (ao _);refine⟨.ref d.heap.objs.size,upd g d.heap.objs.size (.tup l),i.laid (t':=d.toks) (λb u e=>aA _ e) (ao _) ?_,rfl,q _ j⟩
 exact⟨z,m,r,⟨_,aK _ rfl,rfl,_,rfl⟩⟩
theorem gM (h:PA X es t):PE X (.List es pos) (HK t):=by
 intro a s σ H Q I o;refine wpAny_List_spliced (fW (h pos a s σ H _ I o) ?_);rintro m d ⟨l,g,i,r,z,q⟩;refine⟨by rw[<-r.length];exact z,?_⟩;have j:g d.heap.objs.size=none:=i.hok.fresh (ao _);refine⟨.ref d.heap.objs.size,upd g d.heap.objs.size (.lst l),i.laid (t':=d.toks) (λb u e=>aA _ e) (ao _) ?_,rfl,q _ j⟩
 exact⟨z,m,0,r,aK _ rfl⟩
end
abbrev Sp:=List V->Hp->VK->XK->Prop
abbrev uC:=List Env->Hp->Shared->XK->Value->Shared->Prop
structure v8 (P:Program)(w:World)(K:W.Frag)(mg:Str->Option Value)(base:Heap)(A:Around)(outer:List Env)(s:Shared)(H:Hp):Prop where
 frames:A.frames=some outer
 mod:Mod K mg base
 bs:∀b o,base.get? b=some o->s.heap.get? b=some o/\H b=none
 bsz:base.objs.size<=s.heap.objs.size
 funs:s.heap.FunFrames base outer
 frf:∀b∈AF outer,H b=none
 hok:lM P w H s.heap
 bare:AllBare s.gens
def CE (outer:List Env)(P:Program)(w:World)(H:Hp)(s:Shared)(Q:VK)(u:Value)(s':Shared):Prop:=
 ∃v H',s'.os=s.os/\AllBare s'.gens/\Un (AF outer) [] H H' s.heap s'.heap/\lM P w H' s'.heap/\eZ v u/\Q v H'
def CR (CX:uC)(outer:List Env)(P:Program)(w:World)(H:Hp)(s:Shared)(Q:VK)(E:XK)(r:Result)(s':Shared):Prop:=
 match r with
 |.ok (.ret u)=>CE outer P w H s Q u s'
 |.ok _=>False
 |.error e=>CX outer H s E e s'
structure fi (P:Program)(w:World)(K:W.Frag)(mg:Str->Option Value)(base:Heap)(CX:uC)(k:Nat)(f:Addr)(fd:FuncData)(ps:List Str)(sp:Sp):Prop where
 len:∀vs H Q E,sp vs H Q E->vs.length=ps.length
 run:∀(A:Around) (outer:List Env) (s:Shared) (H:Hp) (args:Args) (us:List Value) (vs:List V) (Q:VK) (E:XK),gK k A->v8 P w K mg base A outer s H->BindsTo s fd args (ps.zip us)->fU vs us->sp vs H Q E->
  codeAny (model P w) A (.call (.ref f) args) (CR CX outer P w H s Q E) s
theorem fi.mono {base:Heap}{k:Nat}{f:Addr}(F:fi P w K mg base CX j f fd ps sp)(h:j<=k):fi P w K mg base CX k f fd ps sp:=⟨F.len,λA outer s H args us vs Q E hr=>F.run A outer s H args us vs Q E (hr.mono h)⟩
theorem fi.imp {base:Heap}{k:Nat}{f:Addr}{sp':Sp}(F:fi P w K mg base CX k f fd ps sp)(h:∀vs H Q E,sp' vs H Q E->sp vs H Q E):fi P w K mg base CX k f fd ps sp':=
 ⟨λvs H Q E q=>F.len vs H Q E (h _ _ _ _ q),λA outer s H args us vs Q E hr he hb hv hs=>F.run A outer s H args us vs Q E hr he hb hv (h _ _ _ _ hs)⟩
theorem v8.make {base:Heap}{outer:List Env}(e:v8 P w K mg base A outer s H)(C:Addr)(us:List Value)(kw:List (Str×Value)):v8 P w K mg base (A.under (.builtin "type.__call__" ⟨.ref C::us,kw⟩)) outer s H:=⟨by first | exact e.frames | (simpa [Around.under,Code.envs,Code.isFrame,pushEnvs] using e.frames),e.mod,e.bs,e.bsz,e.funs,e.frf,e.hok,e.bare⟩
theorem eT.Kj (I:eT X pins σ H s):v8 X.prog X.w X.K X.mg X.base X.A X.stack s H:=
 ⟨I.ok.frames,I.ok.mod,I.bs,bz I.ok.bsz I.sz,I.stack,I.J9,I.hok,I.bare⟩
theorem eT.after {Q:VK}{u:Value}(I:eT X pins σ H s)(h:CE X.stack X.prog X.w H s Q u s'):EP X pins σ Q u s':=by
 obtain⟨v,l,os,a,un,e,r,q⟩:=h;obtain⟨j,g,d,t,i⟩:=s';obtain rfl:i=s.os:=os;exact⟨v,l,I.call (h':=j) (g':=g) (d':=d) (t':=t) (ch:=[]) un e a (λb z=>absurd z (by simp)),r,q⟩
def yS (sp:Sp)(dvs:List V)(E:XK)(t:TA):TE:=λσ H Q=>t σ H λvs H1=>sp (vs++dvs) H1 Q E
inductive E1 (C:Addr)(m:Str)(sp:Sp)(dvs:List V)(E:XK)(t:TA)(σ:St)(Q:VK)(x:V)(H1:Hp):Prop
 |mk (a dx fs:_)(_:x=.ref a)(_:H1 a=some (.ins C dx fs))(_:fs.lookup m=none)(_:t σ H1 λvs H2=>sp (x::(vs++dvs)) H2 Q E)
def tJ (C:Addr)(m:Str)(sp:Sp)(dvs:List V)(E:XK)(ta:TE)(t:TA):TE:=λσ H Q=>ta σ H λx H1=>E1 C m sp dvs E t σ Q x H1
def C9 (C:Addr)(sp:Sp)(dvs:List V)(E:XK)(t:TA):TE:=λσ H Q=>t σ H λvs H1=>∀x dx,H1 x=none->H1 dx=none->dx≠x->
 sp (.ref x::(vs++dvs)) (upd (upd H1 dx (.own x)) x (.ins C dx [])) (λv H2=>v=.non/\Q (.ref x) H2) E
def iC (K:W.Frag)(fd:FuncData)(ps:List Str)(ds:List Value):Prop:=
 ∀(s:Shared) (us:List Value),K.In s.heap->(us++ds).length=ps.length->BindsTo s fd ⟨us,[]⟩ (ps.zip (us++ds))
theorem iC.all (h:∀us:List Value,us.length=ps.length->bindArgs fd ⟨us,[]⟩=pure (ps.zip us)):iC K fd ps []:=λs us _ hl=>by
 rw[bW]at hl ⊢;exact .of_eq (h us hl)
def j9 (CX:uC)(X:Cx)(E:XK):Prop:=∀(pins:List (Addr×Obj)) (σ:St) (H:Hp) (s:Shared) (e:Value) (s':Shared),eT X pins σ H s->CX X.stack H s E e s'->X.xe e s'
section
variable {k:Nat}{f:Addr}{dvs:List V}{ds:List Value}{E:XK}{apos:Pos}{o:Expr}{t:TA}
theorem rQ {Q:VK}(F:fi X.prog X.w X.K X.mg X.base CX k f fd ps sp)(j:gK k X.A)(l:iC X.K fd ps ds)(d:fU dvs ds)(m:j9 CX X E)(I:eT X pins σ H s)(r:fU vs us)(h:sp (vs++dvs) H Q E):wpAny (model X.prog X.w) X.A (call (.ref f) us) (EP X pins σ Q) X.xe s:=by
 have b:fU (vs++dvs) (us++ds):=r.append d;have i:(us++ds).length=ps.length:=by rw[<-b.length];exact F.len _ _ _ _ h
 refine wpAny_call (codeAny_mono (F.run X.A X.stack s H ⟨us,[]⟩ (us++ds) (vs++dvs) Q E j I.Kj (l s us I.kIn i) b h) λr g a=>?_);cases r with
 |error e=>exact m pins σ H s e g I a
 |ok fl=>
  cases fl with
  |ret u=>exact I.after a
  |next=>exact False.elim a
  |brk=>exact False.elim a
  |cont=>exact False.elim a
theorem BU (F:fi X.prog X.w X.K X.mg X.base CX k f fd ps sp)(g:gK k X.A)(j:Gl X x)(m:X.mg x=some (.ref f))(o:W.keepIn X.K (.ref f)=true)(i:iC X.K fd ps ds)(d:fU dvs ds)(l:j9 CX X E)(v:PA X (e::es) t)(hdb:(x == ("__debug__":Str))=false:=by decide)(he:starEach (e::es) X.env=(false,eval e X.env)::starEach es X.env:=by rfl)(hpl:(backTo pos (starEach es X.env)).any (·.1)=false:=by rfl):PE X (.Call (.Name x p) (e::es) [] pos) (yS sp dvs E t):=by
 intro a s σ H Q I h;refine bD (sr I j m ?_ hdb);refine W.callWith_K (h₀:=X.base) I.ok.mod.kin o (fW (v pos a s σ H _ I h) ?_) he hpl;rintro B z ⟨C,y,b,r,q⟩;refine⟨b.kIn,?_⟩;exact rQ F g i d l b r q
theorem BR (J:PE X o ta)(c:p9 X.K C)(g:v6 X.K C m f)(F:fi X.prog X.w X.K X.mg X.base CX k f fd ps sp)(y:gK k X.A)(D:iC X.K fd ps ds)(j:fU dvs ds)(G:j9 CX X E)(L:PA X (e::es) t)(hst:starEach (e::es) X.env=(false,eval e X.env)::starEach es X.env:=by rfl)(hpl:(backTo pos (starEach es X.env)).any (·.1)=false:=by rfl)(ht:eval (.Call (.Attribute o m apos) (e::es) [] pos) X.env=(do
   let ov <-eval o X.env
   standAt apos.atName
   let (f,first) <-holding [ov] (getMethod ov m pl)
   callWith pos f first (backTo pos (starEach (e::es) X.env)) (backToKw pos (keywordEach [] X.env))):=by rfl) :
  PE X (.Call (.Attribute o m apos) (e::es) [] pos) (tJ C m sp dvs E ta t):=by
 intro b s σ H Q I h;refine W.methodCall_KW (pl:=pl) (fW (J b s σ H _ I h) ?_) ht;rintro u z ⟨x,v,d,B,a,R,fs,p,M,l,q⟩;subst p;obtain rfl:u=Value.ref a:=B;refine pI d M c g l ?_;refine W.callWith_K (first:=[.ref a]) (h₀:=X.base) I.ok.mod.kin g.kp (fW (L pos b z σ v _ d q) ?_) hst hpl;rintro us P ⟨vs,O,i,r,N⟩;refine⟨i.kIn,?_⟩;exact rQ (us:=.ref a::us) (vs:=.ref a::vs) F y D j G i (.cons rfl r) N
theorem zC (v:PE X o ta)(c:p9 X.K C)(e:v6 X.K C m f)(F:fi X.prog X.w X.K X.mg X.base CX k f fd ps sp)(j:gK k X.A)(r:iC X.K fd ps ds)(g:fU dvs ds)(t:j9 CX X E)(ht:eval (.Call (.Attribute o m apos) [] [] pos) X.env=(do
   let ov <-eval o X.env
   standAt apos.atName
   let (f,first) <-holding [ov] (getMethod ov m pl)
   callWith pos f first (backTo pos (starEach [] X.env)) (backToKw pos (keywordEach [] X.env))):=by rfl) :
  PE X (.Call (.Attribute o m apos) [] [] pos) (tJ C m sp dvs E ta xk):=by
 intro b s σ H Q I h;refine W.methodCall_KW (pl:=pl) (fW (v b s σ H _ I h) ?_) ht;rintro u B ⟨x,z,d,p,a,D,fs,i,y,l,q⟩;subst i;obtain rfl:u=Value.ref a:=p;refine pI d y c e l ?_;exact W.callWith_K0 (first:=[.ref a]) d.kIn e.kp (rQ (us:=[.ref a]) (vs:=[.ref a]) F j r g t d (.cons rfl .nil) q)
structure Mk (K:W.Frag)(C f:Addr):Prop where
 makes:W.makesIn K C=true
 init:W.findIn K (.ref C) "__init__" = some (some (.ref f))
 fn:W.isFn K (.ref f)=true
 kp:W.keepIn K (.ref C)=true
theorem zm {Q:VK}(M:Mk X.K C f)(F:fi X.prog X.w X.K X.mg X.base CX k f fd ps sp)(m:gK (k+1) X.A)(o:iC X.K fd ps ds)(i:fU dvs ds)(p:j9 CX X E)(I:eT X pins σ H s)(r:fU vs us)(h:∀x dx,H x=none->H dx=none->dx≠x->sp (.ref x::(vs++dvs)) (upd (upd H dx (.own x)) x (.ins C dx [])) (λv H2=>v=.non/\Q (.ref x) H2) E):wpAny (model X.prog X.w) X.A (call (.ref C) us) (EP X pins σ Q) X.xe s:=by
 have g:=h (s.heap.objs.size+1) s.heap.objs.size (I.hok.fresh (dA _)) (I.hok.fresh (ao _)) (aW (df _));have b:=eT.made (C:=C) I;have d:fU (V.ref (s.heap.objs.size+1)::(vs++dvs)) (Value.ref (s.heap.objs.size+1)::(us++ds)):=.cons rfl (r.append i);have l:(Value.ref (s.heap.objs.size+1)::us++ds).length=ps.length:=by
  have e:=d.length;rw[F.len _ _ _ _ g]at e;exact e.symm
 refine wpAny_call (Ak (f:=f) I.kIn M.makes M.init (beq_iff_eq.mp M.fn) (codeAny_mono (F.run _ X.stack _ _ ⟨Value.ref (s.heap.objs.size+1)::us,[]⟩ (Value.ref (s.heap.objs.size+1)::(us++ds)) _ _ E (m.make C us []) (b.Kj.make C us []) (o _ (Value.ref (s.heap.objs.size+1)::us) b.kIn l) d g) λr j a=>?_));cases r with
 |error e=>exact p pins σ _ _ e j b a
 |ok fl=>
  cases fl with
  |ret u=>
   obtain⟨v,y,t,B,q,z⟩:=b.after a;subst q;exact⟨B,⟨V.ref (s.heap.objs.size+1),y,t,rfl,z⟩⟩
  |next=>exact False.elim a
  |brk=>exact False.elim a
  |cont=>exact False.elim a
theorem BS (M:Mk X.K C f)(F:fi X.prog X.w X.K X.mg X.base CX k f fd ps sp)(g:gK (k+1) X.A)(j:Gl X x)(m:X.mg x=some (.ref C))(i:iC X.K fd ps ds)(d:fU dvs ds)(l:j9 CX X E)(o:PA X (e::es) t)(hdb:(x == ("__debug__":Str))=false:=by decide)(he:starEach (e::es) X.env=(false,eval e X.env)::starEach es X.env:=by rfl)(hpl:(backTo pos (starEach es X.env)).any (·.1)=false:=by rfl):PE X (.Call (.Name x p) (e::es) [] pos) (C9 C sp dvs E t):=by
 intro a s σ H Q I h;refine bD (sr I j m ?_ hdb);refine W.callWith_K (h₀:=X.base) I.ok.mod.kin M.kp (fW (o pos a s σ H _ I h) ?_) he hpl;rintro z y ⟨B,v,b,r,q⟩;refine⟨b.kIn,?_⟩;exact zm M F g i d l b r q
end
section
variable {k:Nat}{f:Addr}{ks:List Str}{E:XK}{apos kpos:Pos}{o:Expr}{kws:List Keyword}{t tk:TA}{nm:Option Str}
variable {g:List Value->List Value->List Value}{gV:List V->List V->List V}
end
structure eM (N P:List Str)(sc:Scope):Prop where
 kind:sc.kind=.function:=by rfl
 co:sc.isCoroutine=false:=by rfl
 gen:sc.isGenerator=false:=by rfl
 nd:N.Nodup:=by decide +kernel
 pre:N.take P.length=P:=by rfl
 par:∀x∈P,sc.names.lookup x=some .local\/sc.names.lookup x=some .cell:=by decide +kernel
 nofree:∀y∈sc.names,y.2≠.free:=by decide +kernel
theorem qP {kindOf:Str->Option NameKind}{x:Str}:∀{binds:List (Str×Value)} {m:Str->Option Value},(∀v,(x,v)∉binds)->bindL kindOf binds m x=m x
 |[],_,_=>rfl
 |(n,v)::r,m,h=>by
  unfold bindL;rw[qP λw hw=>h w (bc _ hw)]
  split
  ·have:x≠n:=by rintro rfl;exact h v bt
   simp[this]
  ·rfl
theorem qR {kindOf:Str->Option NameKind}{x:Str}:∀{binds:List (Str×Value)} {m:Str->Option Value},(∀v,(x,v)∉binds)->bindC kindOf binds m x=m x
 |[],_,_=>rfl
 |(n,v)::r,m,h=>by
  unfold bindC;rw[qR λw hw=>h w (bc _ hw)]
  split
  ·rfl
  ·have:x≠n:=by rintro rfl;exact h v bt
   simp[this]
theorem qQ {kindOf:Str->Option NameKind}{x:Str}{v:Value}:∀{P:List Str} {vs:List Value} {i:Nat} {m:Str->Option Value},P.Nodup->P[i]?=some x->vs[i]?=some v->kindOf x=some .local->bindL kindOf (P.zip vs) m x=some v
 |[],_,_,_,_,h,_,_=>by simp at h
 |_::_,[],_,_,_,_,h,_=>by simp at h
 |p::P,w::vs,0,m,nd,h1,h2,hk=>by
  simp at h1 h2;subst h1;subst h2;show bindL kindOf ((p,w)::P.zip vs) m p=_;unfold bindL;rw[qP λv hv=>(aY.mp nd).1 (List.of_mem_zip hv).1,ax hk];simp
 |p::P,w::vs,i+1,m,nd,h1,h2,hk=>by
  show bindL kindOf ((p,w)::P.zip vs) m x=_;unfold bindL;exact qQ (i:=i) (aY.mp nd).2 (by simpa using h1) (by simpa using h2) hk
theorem qS {kindOf:Str->Option NameKind}{x:Str}{v:Value}:∀{P:List Str} {vs:List Value} {i:Nat} {m:Str->Option Value},P.Nodup->P[i]?=some x->vs[i]?=some v->kindOf x≠some .local->bindC kindOf (P.zip vs) m x=some v
 |[],_,_,_,_,h,_,_=>by simp at h
 |_::_,[],_,_,_,_,h,_=>by simp at h
 |p::P,w::vs,0,m,nd,h1,h2,hk=>by
  simp at h1 h2;subst h1;subst h2;show bindC kindOf ((p,w)::P.zip vs) m p=_;unfold bindC;rw[qR λv hv=>(aY.mp nd).1 (List.of_mem_zip hv).1,av hk];simp
 |p::P,w::vs,i+1,m,nd,h1,h2,hk=>by
  show bindC kindOf ((p,w)::P.zip vs) m x=_;unfold bindC;exact qS (i:=i) (aY.mp nd).2 (by simpa using h1) (by simpa using h2) hk
def start (N:List Str)(vs:List V):St:=vs.map some++List.replicate (N.length-vs.length) none
def qk (CX:uC)(P:Program)(w:World)(K:W.Frag)(mg:Str->Option Value)(base:Heap)(N:List Str)(qual:Str)(scope:Scope)(f:Addr)(cd:Value)(A:Around)(outer:List Env)(s:Shared)(H:Hp)(E:XK):Cx where
 prog:=P
 w:=w
 K:=K
 mg:=mg
 base:=base
 A:=A.deeper (envOfC qual scope s.heap.objs.size f cd)
 N:=N
 s₀:=s
 H₀:=H
 env:=envOfC qual scope s.heap.objs.size f cd
 outer:=outer
 stack:=envOfC qual scope s.heap.objs.size f cd::outer
 ex:=[]
 calm:=true
 fn:=λ_=>true
 pn:=[]
 xe:=λe s'=>wpAny (model P w) (A.deeper (envOfC qual scope s.heap.objs.size f cd)) (leaving (envOfC qual scope s.heap.objs.size f cd) e) (λ_ s''=>CX outer H s E e s'') (λe' s''=>CX outer H s E e' s'') s'
theorem ut {sc:Scope}{n:Nat}(h:sc.names.lookup x=some .cell):∃c,(cellsFrom n sc.names []).lookup x=some c:=by
 have q:=W.cellsFrom_some sc.names n [] (.inl h);exact Option.isSome_iff_exists.mp q
theorem yk {base:Heap}{N:List Str}{qual:Str}{scope:Scope}{f:Addr}{cd:Value}{outer:List Env}{s1:Shared}{E:XK}(S:eM N ps scope)(C:A.handled=none)(g:v8 P w K mg base A outer s H)(I:vs.length=ps.length)(r:fU vs us)(x:InCallC s s.heap.objs.size (bindL (envOfC qual scope s.heap.objs.size f cd).kindOf (ps.zip us) λ_=>none) (cellsFrom (s.heap.objs.size+1) scope.names []) (bindC (envOfC qual scope s.heap.objs.size f cd).kindOf (ps.zip us) λ_=>none) s1):eT (qk CX P w K mg base N qual scope f cd A outer s H E) [] (start N vs) H s1:=by
 have D:ps.length<=N.length:=by have:=congrArg List.length S.pre;rw[aT]at this;lia
 obtain⟨o,L,rfl,B⟩:=x.done;have j:∀b:Addr,b∉(qk CX P w K mg base N qual scope f cd A outer s H E).ex:=λb z=>absurd (show b∈([]:List Addr) from z) (by simp);refine⟨⟨g.mod,S.kind,rfl,rfl,ao _,λy z c o d=>?_,λy hy=>?_,λy c _ h=>?_,λ_=>C,Around.frames_deeper g.frames,.inr ⟨rfl,rfl⟩,λb z=>absurd z (j b),g.bs,g.bsz,λb _ _=>j b,λb z=>absurd z (j b),g.funs,g.frf⟩,rfl,g.bare,Un.kept B,⟨_,x.toInCall.ns,λi y v o d J=>?_⟩,λy c h=>⟨_,x.cell y c h⟩,g.hok.fresh (ao _),λy c h=>?_,λp hp=>absurd (show p∈([]:List (Addr×Obj)) from hp) (by simp),g.hok.kept B,?_⟩
 ·exact name_of_addr x.apart (bB o) (bB d)
 ·have hy:scope.names.lookup y=some .cell\/scope.names.lookup y=some .free:=hy;rcases hy with hy | hy
  ·exact ut hy
  ·exact absurd rfl (S.nofree _ (bB hy))
 ·exact cA (x.above y c (bB h))
 ·have m:i<vs.length:=by
   unfold start at d;by_cases m:i<vs.length
   ·exact m
   ·rw[bb (by simpa using m)]at d;rw[List.getElem?_replicate]at d
    split at d <;> cases d
  have F:vs[i]?=some v:=by
   unfold start at d;rw[aQ (by simpa using m),ae]at d
   cases e:vs[i]? with
   |none=>rw[e]at d;cases d
   |some a=>rw[e]at d;cases d;rfl
  obtain⟨u,t,G⟩:=r.get F;have hp:ps[i]?=some y:=by
   rw[<-S.pre,List.getElem?_take_of_lt (by lia)];exact o
  have l:ps.Nodup:=by rw[<-S.pre];exact S.nd.sublist (dX _ _)
  refine⟨u,G,?_⟩;rcases S.par y (ai hp) with k | k
  ·exact .inl ⟨k,qQ l hp t k⟩
  ·obtain⟨c,e⟩:=ut (n:=s.heap.objs.size+1) k;refine .inr ⟨.inl k,c,e,?_⟩;have q:=x.cell y c e;rw[qS l hp t (by show scope.names.lookup y≠_;rw[k];decide)]at q;exact q
 ·exact g.hok.fresh (cA (x.above y c (bB h)))
 ·unfold start;show _=N.length;rw[aF,ab,List.length_replicate]
  lia
theorem Dm {base:Heap}{k:Nat}{f:Addr}{name qual:Str}{params:Arguments}{scope:Scope}{dV kV doc pm cdv ct oc:Value}{an od:Option Addr}{osl:Array (Option Value)}{N ps:List Str}{sp:Sp}(F:K.lookup f=some ⟨oc,od,.func (W.fnOf name qual params body scope dV kV doc pm an cdv ct),osl⟩)(z:W.codeIn K cdv qual=true)(S:eM N ps scope)(len:∀vs H Q E,sp vs H Q E->vs.length=ps.length)(d:∀(A:Around) (outer:List Env) (s:Shared) (H:Hp) (vs:List V) (Q:VK) (E:XK),gK k (A.deeper (envOfC qual scope s.heap.objs.size f cdv))->sp vs H Q E->∃t,mj (qk CX P w K mg base N qual scope f cdv A outer s H E) body t/\t {nx:=λ_ H'=>Q .non H',rt:=Q} (start N vs) H):fi P w K mg base CX (k+1) f (W.fnOf name qual params body scope dV kV doc pm an cdv ct) ps sp:=by
 refine⟨len,λA outer s H B X vs Q E p g L r i=>?_⟩;have T:=len _ _ _ _ i;have C:K.In s.heap:=g.mod.kin.keeps λb o e=>(g.bs b o e).1;have l:s.heap.NoLimit:=g.mod.nolimit.keeps λb o e=>(g.bs b o e).1;have a:∀y∈ps.zip X,scope.names.lookup y.1=some .local\/(scope.names.lookup y.1=some .cell/\((cellsFrom (s.heap.objs.size+1) scope.names []).lookup y.1).isSome=true):=λ⟨n,v⟩ R=>by
  rcases S.par n (List.of_mem_zip R).1 with q | q
  ·exact .inl q
  ·exact .inr ⟨q,W.cellsFrom_some _ _ _ (.inl q)⟩
 refine codeAny_call_function p.depth (C _ _ F) rfl S.co S.gen rfl (W.codeRec_of C z) (L _ _ _ _ ?_);refine wpAny_newFunctionEnv_cells S.kind a λO Y D x=>?_;subst Y;refine⟨l.keeps x.toInCall.keep,codeAny_func ?_⟩;obtain⟨t,G,M⟩:=d A outer s H vs Q E (p.deeper _) i;have I:eT (qk CX P w K mg base N qual scope f cdv A outer s H E) [] (start N vs) H D:=yk S p.hd g T r x;refine bS (G [] D (start N vs) H _ I M) (λU j hs=>?_) λe j hs=>hs;have h:∀{σ':St} {H':Hp} {v:V} {u:Value},eT (qk CX P w K mg base N qual scope f cdv A outer s H E) [] σ' H' j->eZ v u->Q v H'->CE outer P w H s Q u j:=
  λ{σ' H' v u} J m q=>⟨v,H',J.os,J.bare,J.base,J.hok,m,q⟩
 cases U with
 |ret u=>
  obtain⟨v,σ',H',J,m,q⟩:=hs;exact h J m q
 |next=>
  obtain⟨σ',H',J,q⟩:=hs;exact h (v:=V.non) (u:=Value.none) J rfl q
 |brk=>
  obtain⟨_,_,_,q⟩:=hs;exact False.elim q
 |cont=>
  obtain⟨_,_,_,q⟩:=hs;exact False.elim q
section
variable {t:TA}{id T:String}{r:List V->Hp->VK->Prop}
def Jl (r:List V->Hp->VK->Prop)(t:TA):TE:=λσ H Q=>t σ H λvs H1=>r vs H1 Q
theorem eW (y:jv X (.builtin id) r)(q:Gl X x)(b:X.mg x=none)(j:bootBuiltins x=some (.builtin id))(l:PA X (e::es) t)(hn:x≠"__name__":=by decide)(hdb:(x == ("__debug__":Str))=false:=by decide)(he:starEach (e::es) X.env=(false,eval e X.env)::starEach es X.env:=by rfl)(hpl:(backTo pos (starEach es X.env)).any (·.1)=false:=by rfl):PE X (.Call (.Name x p) (e::es) [] pos) (Jl r t):=by
 intro a s σ H Q I h;refine bD (jI I q b j ?_ hn hdb);exact PyProof.Rows.callWith_builtin1 (fW (l pos a s σ H _ I h) (by rintro d v ⟨g,i,w,m,o⟩;exact y a v σ i g d Q w m o)) he hpl
theorem gX (y:jv X (.type T) r)(q:Gl X x)(b:X.mg x=none)(j:bootBuiltins x=some (.type T))(l:PA X (e::es) t)(hn:x≠"__name__":=by decide)(hdb:(x == ("__debug__":Str))=false:=by decide)(he:starEach (e::es) X.env=(false,eval e X.env)::starEach es X.env:=by rfl)(hpl:(backTo pos (starEach es X.env)).any (·.1)=false:=by rfl):PE X (.Call (.Name x p) (e::es) [] pos) (Jl r t):=by
 intro a s σ H Q I h;refine bD (jI I q b j ?_ hn hdb);exact PyProof.Rows.callWith_type1 (fW (l pos a s σ H _ I h) (by rintro d v ⟨g,i,w,m,o⟩;exact y a v σ i g d Q w m o)) he hpl
end
end L2
namespace HT
open PySem PyProof.Rows
section
open PySem.SeqAt
open PySem.AutoSeq1 (wpAny_loadPart')
open PySem.MeetsSeq PySem.MeetsSeq2 PySem.MeetsSeq3
end
section
variable {prog:Program}{w:World}{A:Around}{E:Value->Shared->Prop}{s:Shared}
def oe (n d:Nat):Option Int->Nat
 |none=>d
 |some v=>if v<0 then (v+(n:Int)).toNat else min v.toNat n
theorem zf (n d:Nat):oe n d none=d:=rfl
theorem wt (n d k:Nat):oe n d (some (k:Int))=min k n:=by
 show(if (k:Int)<0 then ((k:Int)+(n:Int)).toNat else min (k:Int).toNat n)=min k n;rw[av (by lia),br]
end
end HT
namespace L2
open PySem PySem.Spec PyProof.Rows
variable {A:Around}{E Q:Value->Shared->Prop}{H H':Hp}{P:Program}{T:String}{X:Cx}{a:Addr}{e:Expr}{kvs:List (gz×V)}{o:Option V}{pins:List (Addr×Obj)}{pos:Pos}{s:Shared}{t':Nat}{v y:V}{w:World}{xs:List V}{σ:St}
abbrev TO:=St->Hp->(Option Int->Hp->Prop)->Prop
def PO (X:Cx)(e:Option Expr)(t:TO):Prop:=
 ∀(pins:List (Addr×Obj)) (s:Shared) (σ:St) (H:Hp) (Q:Option Int->Hp->Prop),eT X pins σ H s->t σ H Q->
  wpAny (model X.prog X.w) X.A (evalPart e X.env) (λu s'=>∃o H',eT X pins σ H' s'/\IsPart u o/\Q o H') X.xe s
def Bq:TO:=λ_ H Q=>Q none H
inductive EY (Q:Option Int->Hp->Prop)(x:V)(H1:Hp):Prop
 |mk (i:_)(_:x=.int i)(_:Q (some i) H1)
def Fp (t:TE):TO:=λσ H Q=>t σ H λx H1=>EY Q x H1
theorem pG {ns:List Int}:∀{us:List Value},fU (ns.map V.int) us->IntsAre us ns:=by
 induction ns with
 |nil=>intro us r;rw[cO]at r;cases r;exact .nil
 |cons n ns ih=>
  intro us r;rw[aG]at r;cases r with
  |cons r1 r2=>
   obtain⟨t,e⟩:=r1;subst e;exact .cons n t (ih r2)
section
variable {te:TE}{lo hi:Option Expr}{tl th:TO}{p2:Pos}
theorem rT:PO X none Bq:=by
 intro a s σ H Q I h;rw[evalPart_none];exact ar ⟨none,H,I,.none,h⟩
theorem mo (h:PE X e te):PO X (some e) (Fp te):=by
 intro a s σ H Q I b;rw[evalPart_some];refine fW (h a s σ H _ I b) ?_;rintro u m ⟨x,d,j,g,l⟩;obtain⟨i,rfl,q⟩:=l;obtain⟨t,rfl⟩:=g;exact⟨some i,d,j,.int i t,q⟩
def Jq (X:Cx)(r:V->Option Int->Option Int->Hp->VK->Prop):Prop:=
 ∀(pins:List (Addr×Obj)) (s:Shared) (σ:St) (H:Hp) (x:V) (v vl vu:Value) (lo hi:Option Int) (sl:Addr) (Q:VK),eT X pins σ H s->eZ x v->s.heap.IsSliceOf sl vl vu .none->IsPart vl lo->IsPart vu hi->r x lo hi H Q->
  ∃T id,typeLookup (.type T) "__getitem__" = pure (some (.builtin id))/\s.TypeIs v T/\wpAny (model X.prog X.w) X.A (getItem v (.ref sl)) (EP X pins σ Q) X.xe s
def Jy (r:V->Option Int->Option Int->Hp->VK->Prop)(te:TE)(tl th:TO):TE:=λσ H Q=>te σ H λx H1=>tl σ H1 λl H2=>th σ H2 λu H3=>r x l u H3 Q
theorem mw {r:V->Option Int->Option Int->Hp->VK->Prop}(K:Jq X r)(P:PE X e te)(G:PO X lo tl)(N:PO X hi th):PE X (.Subscript e (.Slice lo hi none p2) pos) (Jy r te tl th):=by
 intro a s σ H Q I h;refine Subscript_ (fW (P a s σ H _ I h) ?_);rintro v M ⟨x,F,p,j,C⟩;refine wpAny_Slice (fW (G a M σ F _ p C) ?_);rintro g z ⟨l,O,E,J,R⟩;refine fW (N a z σ O _ E R) ?_;rintro d s3 ⟨u,i,y,L,D⟩;rw[evalPart_none];refine ar ?_;have m:eT X a σ i {s3 with heap:=s3.heap.push {cls:=.type "slice",data:=.fields #[g,d,.none]}}:=y.kept (t':=s3.toks) λb S q=>aA _ q;obtain⟨T,id,B,o,t⟩:=K a {s3 with heap:=s3.heap.push {cls:=.type "slice",data:=.fields #[g,d,.none]}} σ i x v g d l u s3.heap.objs.size Q m j (Heap.IsSliceOf.new ..) J L D;show wpAny (model X.prog X.w) X.A (subscriptTail e (.Slice lo hi none p2) v (.ref s3.heap.objs.size)) (EP X a σ Q) X.xe {s3 with heap:=s3.heap.push {cls:=.type "slice",data:=.fields #[g,d,.none]}};exact tail_any (ops:=[.ref s3.heap.objs.size,v]) o B t (by with_unfolding_all rfl)
def pQ (xs:List V)(lo hi:Option Int):List V:=(xs.drop (HT.oe xs.length 0 lo)).take (HT.oe xs.length xs.length hi-HT.oe xs.length 0 lo)
theorem uo (xs:List V)(a b:Option Int):(pQ xs a b).length<=xs.length:=by
 unfold pQ;rw[aT,List.length_drop]
 lia
end
def Cs (n:Nat)(i:Int):Option Nat:=if 0<=i then (if i<n then some i.toNat else none) else if -(n:Int)<=i then some (i+n).toNat else none
def sM {α:Type}(xs:List α)(i:Int):Option α:=(Cs xs.length i).bind λj=>xs[j]?
theorem Cr {n:Nat}{i:Int}{j:Nat}(h:Cs n i=some j):seqIndex? i n=some j/\j<n/\-(n:Int)<=i/\i<n:=by
 unfold Cs at h;by_cases h0:0<=i
 ·rw[ax h0]at h;by_cases h1:i<n
  ·rw[ax h1]at h;have e:i.toNat=j:=Option.some.inj h;exact⟨by rw[seqIndex_of h0 h1,e],by lia,by lia,h1⟩
  ·rw[av h1]at h;cases h
 ·rw[av h0]at h;by_cases h1:-(n:Int)<=i
  ·rw[ax h1]at h;have e:(i+n).toNat=j:=Option.some.inj h;exact⟨by rw[seqIndex_neg (by lia) h1,e],by lia,h1,by lia⟩
  ·rw[av h1]at h;cases h
theorem wV {α:Type}{xs:List α}{i:Int}{v:α}(h:sM xs i=some v):∃j,seqIndex? i xs.length=some j/\xs[j]?=some v/\j<xs.length/\-(xs.length:Int)<=i/\i<xs.length:=by
 unfold sM at h;cases e:Cs xs.length i with
 |none=>rw[e]at h;cases h
 |some j=>
  rw[e]at h;obtain⟨a,b,g,d⟩:=Cr e;exact⟨j,a,h,b,g,d⟩
theorem oA {α:Type}{xs:List α}{j:Nat}{v:α}(h:xs[j]?=some v):sM xs (j:Int)=some v:=by
 have a:j<xs.length:=(af.mp h).1;have e:Cs xs.length (j:Int)=some j:=by
  unfold Cs;rw[ax (by lia),ax (by lia)];simp
 unfold sM;rw[e];exact h
theorem AX {α:Type}(xs:List α)(v:α):sM (xs++[v]) (-1)=some v:=by
 have a:(xs++[v]).length=xs.length+1:=by simp
 have e:Cs (xs++[v]).length (-1)=some xs.length:=by
  unfold Cs;rw[a,av (by decide),ax (by lia)]
  congr 1
  lia
 unfold sM;rw[e];show(xs++[v])[xs.length]?=some v;simp
def CQ (b:Expr):Prop:=∀o i,subscripted b false o i=operate [o,i] (getItem o i)
def GP (X:Cx)(r:R2):Prop:=
 ∀(value slice:Expr) (pins:List (Addr×Obj)) (s:Shared) (σ:St) (H:Hp) (x y:V) (v u:Value) (Q:VK),eT X pins σ H s->eZ x v->eZ y u->r x y H Q->
  subscripted slice false v u=operate [v,u] (getItem v u)->wpAny (model X.prog X.w) X.A (subscriptTail value slice v u) (EP X pins σ Q) X.xe s
def Js (X:Cx)(id:String)(r:V->List V->Hp->VK->Prop):Prop:=
 ∀(pins:List (Addr×Obj)) (s:Shared) (σ:St) (H:Hp) (x:V) (xs:List V) (v:Value) (us:List Value) (Q:VK),eT X pins σ H s->eZ x v->fU xs us->r x xs H Q->
  wpAny (model X.prog X.w) X.A (call (.builtin id) (v::us)) (EP X pins σ Q) X.xe s
section
variable {a b:Expr}{ta tb:TE}
theorem eG {r:R2}(e:GP X r)(o:PE X a ta)(i:PE X b tb)(hs:CQ b:=by exact λ_ _=>rfl):PE X (.Subscript a b pos) (Hr r ta tb):=by
 intro d s σ H Q I h;exact Subscript_ (EJ o i I h λv u m x y l p g j q=>e a b d m σ l x y v u Q p g j q (hs _ _))
inductive Hh (K:W.Frag)(x:V)(y:V)(H:Hp)(Q:VK):Prop
 |mk (p xs i v:_)(_:x=.ref p)(_:y=.int i)(_:eX K H p xs)(_:sM xs i=some v)(_:Q v H)
def FX (K:W.Frag):R2:=λx y H Q=>Hh K x y H Q
inductive Hg (K:W.Frag)(x:V)(y:V)(H:Hp)(Q:VK):Prop
 |mk (p xs i v:_)(_:x=.ref p)(_:y=.int i)(_:gs K H p xs)(_:sM xs i=some v)(_:Q v H)
def xt (K:W.Frag):R2:=λx y H Q=>Hg K x y H Q
theorem fc:GP X (FX X.K):=by
 intro g e a s σ H x y v u Q I L M h hs;obtain⟨p,P,i,z,rfl,rfl,E,N,q⟩:=h;cases L;obtain⟨t,rfl⟩:=M;obtain⟨m,r,o,O⟩:=I.list E;obtain⟨j,d,D,R,F,G⟩:=wV N;obtain⟨w,B,l⟩:=r.get D;have J:=r.length;have hn:=so;have b:EP X a σ Q w s:=⟨z,H,I,l,q⟩;by_cases h0:0<=i
 ·have A:i.toNat=j:=by
   rw[seqIndex_of h0 G]at d;exact Option.some.inj d
  exact item_listR o.isList h0 (by lia) (by rw[A];simpa using B) b hs
 ·have A:(i+(m.toArray.size:Int)).toNat=j:=by
   rw[seqIndex_neg (by lia) F]at d;rw[aM,<-J];exact Option.some.inj d
  exact subscriptTail_builtinR (x:=w) o.isList.typeIs slot_list_getitem.lookup
   (wpAny_getItem_list_neg (Q:=λr C=>r=w/\EP X a σ Q r C) o.isList (by lia) (by rw[aM] <;> lia) (by lia) (by rw[A];simpa using B) ⟨rfl,b⟩) hs
theorem eN:GP X (xt X.K):=by
 intro d b a s σ H x y v u Q I F G h hs;obtain⟨p,O,i,z,rfl,rfl,A,J,q⟩:=h;cases F;obtain⟨t,rfl⟩:=G;obtain⟨B,r,l,N⟩:=I.tuple A;obtain⟨j,C,o,P,L,M⟩:=wV J;obtain⟨w,D,g⟩:=r.get o;have E:=r.length;have hn:=so;have e:EP X a σ Q w s:=⟨z,H,I,g,q⟩;exact subscriptTail_builtinR (x:=w) l.typeIs slot_tuple_getitem.lookup
  (getItem_tuple (j:=j) (Q:=λr m=>r=w/\EP X a σ Q r m) l (by lia) (by lia) (by rw[aM,<-E];exact C) (by simpa using D) ⟨rfl,e⟩) hs
theorem rf (a b:Option Int)(n:Nat):(sliceBounds a b none n).1=((HT.oe n 0 a:Nat):Int)/\(sliceBounds a b none n).2.1=((HT.oe n n b:Nat):Int)/\(sliceBounds a b none n).2.2=1:=by
 refine⟨?_,?_,rfl⟩
 ·cases a with
  |none=>simp[sliceBounds,HT.oe]
  |some i=>
   simp only[sliceBounds,HT.oe,Option.getD_none,show(1:Int)>0 by decide,if_true];by_cases h:i<0
   ·simp only[h,if_true] <;> lia
   ·simp only[h,if_false] <;> lia
 ·cases b with
  |none=>simp[sliceBounds,HT.oe]
  |some i=>
   simp only[sliceBounds,HT.oe,Option.getD_none,show(1:Int)>0 by decide,if_true];by_cases h:i<0
   ·simp only[h,if_true] <;> lia
   ·simp only[h,if_false] <;> lia
theorem qc (a:List Value)(b d:Option Int):slicePick a.toArray b d none=((a.drop (HT.oe a.length 0 b)).take (HT.oe a.length a.length d-HT.oe a.length 0 b)).toArray:=by
 obtain⟨e,h,g⟩:=rf b d a.toArray.size;unfold slicePick;rw[e,h,g];simp only[sliceRange_one,pick_run,aM] <;> rfl
inductive GZ (K:W.Frag)(x:V)(lo:Option Int)(hi:Option Int)(H:Hp)(Q:VK):Prop
 |mk (a xs:_)(_:x=.ref a)(_:eX K H a xs)(_:∀p,H p=none->Q (.ref p) (upd H p (.lst (pQ xs lo hi))))
def Im (K:W.Frag):V->Option Int->Option Int->Hp->VK->Prop:=λx lo hi H Q=>GZ K x lo hi H Q
theorem nZ:Jq X (Im X.K):=by
 intro j s σ H x v B A g i C Q I t hs m p h;obtain⟨a,d,rfl,w,q⟩:=h;cases t;obtain⟨y,r,l,z⟩:=I.list w;have e:=r.length;refine⟨"list",_,slot_list_getitem.lookup,l.isList.typeIs,?_⟩;refine wpAny_getItem_list_slice l.isList hs m p .none (by simp) ?_ (by rw[aM] <;> lia)
 rw[qc,<-e];refine⟨.ref s.heap.objs.size,_,I.laid (t':=s.toks) (o:=.lst (pQ d g i)) (λb D q=>aA _ q) (ao _) ?_,rfl,q _ (I.hok.fresh (ao _))⟩
 exact⟨bz (uo d g i) z,_,0,(r.drop (HT.oe d.length 0 g)).take (HT.oe d.length d.length i-HT.oe d.length 0 g),aK _ rfl⟩
theorem fj:jv X (.builtin "len") (λxs H Q=>∃p ys,xs=[.ref p]/\(eX X.K H p ys\/gs X.K H p ys)/\Q (.int ys.length) H):=by
 intro g s σ H xs l Q I r h;obtain⟨p,ys,rfl,hq,q⟩:=h;obtain⟨u,rfl,i⟩:=jk r;cases i;have hn:=so;rcases hq with hq | hq
 ·obtain⟨e,b,d,j⟩:=I.list hq;have a:=b.length;exact Calls.call_len_list d.isList (by simp only[aM] <;> lia) ⟨.int ys.length,H,I.tok _,⟨s.toks+1,by rw[aM,a]⟩,q⟩
 ·obtain⟨e,b,d,j⟩:=I.tuple hq;have a:=b.length;exact len_tuple d (by simp only[aM] <;> lia) ⟨.int ys.length,H,I.tok _,⟨s.toks+1,by rw[aM,a]⟩,q⟩
theorem ig:jv X (.type "list") (λxs H Q=>∃p ys,xs=[.ref p]/\(eX X.K H p ys\/gs X.K H p ys)/\∀l,H l=none->Q (.ref l) (upd H l (.lst ys))):=by
 intro m s σ H xs D Q I r h;obtain⟨p,ys,rfl,hq,q⟩:=h;obtain⟨u,rfl,C⟩:=jk r;cases C;have t:∀(a:List Value),fU ys a->ys.length<=sizeLine->∀(d:Heap) (i:Nat),(∀b o',s.heap.get? b=some o'->d.get? b=some o')->
   d.get? s.heap.objs.size=some {cls:=.type "list",dict:=none,data:=.seq a.toArray i,slots:=#[]}->EP X m σ Q (.ref s.heap.objs.size) {s with heap:=d}:=λa g x d i j e=>
  ⟨.ref s.heap.objs.size,_,I.laid (t':=s.toks) j (ao _) (show fR X.prog X.w _ d _ (.lst ys) from⟨x,a,i,g,e⟩),rfl,q _ (I.hok.fresh (ao _))⟩
 rcases hq with hq | hq
 ·obtain⟨a,g,A,x⟩:=I.list hq;have v:=g.length;obtain⟨o,z,B,n,y⟩:=A.isList;exact call_list_seq p (.inl rfl) z B y (λd i j e=>t a g x d i j e) (by simp only[aM] <;> lia)
 ·obtain⟨a,g,A,x⟩:=I.tuple hq;have v:=g.length;obtain⟨o,z,B,n,y⟩:=A;exact call_list_seq p (.inr rfl) z B y (λd i j e=>t a g x d i j e) (by simp only[aM] <;> lia)
def HH (K:W.Frag)(T:String)(x:V)(H:Hp):Prop:=match x with
 |.str _=>T = "str"
 |.int _=>T = "int"
 |.ref p=>(T = "list"/\∃xs,eX K H p xs)\/(T = "tuple"/\∃o,K.lookup p=some o/\o.cls=.type "tuple"/\o.dict=none)\/
   (T = "dict"/\((∃kvs,H p=some (.dK kvs))\/∃kvs,H p=some (.dT kvs)))\/(T = "set"/\∃S n,H p=some (.set S n))
 |_=>False
theorem yM {x:V}{v:Value}(I:eT X pins σ H s)(r:eZ x v)(g:HH X.K T x H):s.TypeIs v T/\∀a,v=.ref a->∃ob,s.heap.get? a=some ob/\ob.dict=none:=by
 cases x with
 |str z=>
  obtain⟨t,rfl⟩:=r;cases (show T = "str" from g);exact⟨typeIs_str s z t,λ_ e=>nomatch e⟩
 |int i=>
  obtain⟨t,rfl⟩:=r;cases (show T = "int" from g);exact⟨typeIs_int s i t,λ_ e=>nomatch e⟩
 |ref p=>
  cases r;rcases g with ⟨rfl,A,q⟩ | ⟨rfl,o,b,y,h⟩ | ⟨rfl,b⟩ | ⟨rfl,S,n,b⟩
  ·obtain⟨w,_,m,_⟩:=I.list q;refine⟨m.isList.typeIs,λa e=>?_⟩;cases e;obtain⟨o,n,e,c,h,_⟩:=m;exact⟨o,e,h⟩
  ·refine⟨⟨o,I.kIn p o b,y⟩,λa e=>?_⟩;cases e;exact⟨o,I.kIn _ o b,h⟩
  ·have z:∃o,s.heap.get? p=some o/\o.ExactDict:=by
    rcases b with ⟨j,b⟩ | ⟨j,b⟩
    ·obtain⟨_,_,_,_,o,_,_,e,d,_⟩:=I.hok p _ b;exact⟨o,e,d⟩
    ·obtain⟨_,_,_,_,o,_,_,e,d,_⟩:=I.hok p _ b;exact⟨o,e,d⟩
   obtain⟨o,e,d⟩:=z;refine⟨⟨o,e,d.1⟩,λa l=>?_⟩;cases l;exact⟨o,e,d.2.1⟩
  ·obtain⟨o,_,_,_,e,d,_⟩:=I.hok p _ b;refine⟨⟨o,e,d.1⟩,λa l=>?_⟩;cases l;exact⟨o,e,d.2.1⟩
 |_=>exact False.elim g
def HR (K:W.Frag)(T:String)(r:V->List V->Hp->VK->Prop)(to:TE):TE:=λσ H Q=>to σ H λx H1=>HH K T x H1/\r x [] H1 Q
def JB (K:W.Frag)(T:String)(r:V->List V->Hp->VK->Prop)(to:TE)(t:TA):TE:=λσ H Q=>to σ H λx H1=>HH K T x H1/\t σ H1 λxs H2=>r x xs H2 Q
variable {o:Expr}{es:List Expr}{to:TE}{t:TA}{name:Str}{apos cpos:Pos}{id:String}{r:V->List V->Hp->VK->Prop}
theorem uZ (y:PlainAttrs T)(b:Slot T name id)(d:typeOf (.builtin id)=pure (.type "method_descriptor"))(q:Js X id r)(i:PE X o to)(hbase:attributeBase o name X.env (eval o X.env)=eval o X.env:=by rfl)(hline:(apos.endLine == cpos.line)=true:=by rfl):PE X (.Call (.Attribute o name apos) [] [] cpos) (HR X.K T r to):=by
 intro a s σ H Q I h;refine wpAny_Call_method0_late hbase hline (fW (i a s σ H _ I h) ?_);rintro v m ⟨x,j,g,e,p,t⟩;obtain⟨w,l⟩:=yM g e p;exact⟨T,id,y,b,d,w,l,Calls.callWith_builtin rfl (PySem.evalArgs_none (q a m σ j x [] v [] Q g e .nil t))⟩
theorem ju (J:PlainAttrs T)(b:Slot T name id)(d:typeOf (.builtin id)=pure (.type "method_descriptor"))(z:Js X id r)(l:PE X o to)(E:PA X (e::es) t)(hbase:attributeBase o name X.env (eval o X.env)=eval o X.env:=by rfl)(hfew:((backTo cpos (starEach (e::es) X.env)).all (λx=>!x.1)&&(backToKw cpos (keywordEach [] X.env)).all (λx=>x.1.isSome)&&decide ((e::es).length+([]:List Keyword).length+(if ([]:List Keyword).isEmpty then 0 else 1)<30))=true:=by rfl)(hline:(apos.endLine == cpos.line)=true:=by rfl)(hs:starEach (e::es) X.env=(false,eval e X.env)::starEach es X.env:=by rfl)(hplain:(backTo cpos (starEach es X.env)).any (·.1)=false:=by rfl):PE X (.Call (.Attribute o name apos) (e::es) [] cpos) (JB X.K T r to t):=by
 intro a s σ H Q I h;refine wpAny_Call_method_late hbase hfew hline rfl (fW (l a s σ H _ I h) ?_);rintro v q ⟨x,m,i,g,w,F⟩;obtain⟨G,p⟩:=yM i g w;refine⟨T,id,J,b,d,G,p,?_⟩;have j:=E cpos a q σ m _ i F;rw[hs]at j ⊢;refine Calls.callWith_builtin (by show(false||(backTo cpos (starEach es X.env)).any (·.1))=false;rw[hplain] <;> rfl) (Calls.evalArgs_plain ?_)
 exact fW j (by rintro B D ⟨C,A,L,y,M⟩;exact z a D σ A x C v B Q L g y M)
end
def GJ (X:Cx)(id:String)(r:V->List V->Hp->VK->Prop):Prop:=
 ∀(pins:List (Addr×Obj)) (s:Shared) (σ:St) (H:Hp) (x:V) (xs:List V) (v:Value) (us:List Value) (Q:VK),eT X pins σ H s->eZ x v->fU xs us->r x xs H Q->
  wpAny (model X.prog X.w) X.A (call (.builtin id) (v::us)) (EP X pins σ Q) X.xe s
theorem fU.one:∀{x:V} {us:List Value},fU [x] us->∃u,us=[u]/\eZ x u
 |_,_,.cons r .nil=>⟨_,rfl,r⟩
theorem fU.zero:∀{us:List Value},fU [] us->us=[]
 |_,.nil=>rfl
theorem fU.dropLast {us:List Value}(h:fU xs us):fU xs.dropLast us.dropLast:=by
 induction h with
 |nil=>exact .nil
 |cons r t ih=>
  cases t with
  |nil=>exact .nil
  |cons q t'=>exact .cons r ih
theorem fU.reverse {us:List Value}(h:fU xs us):fU xs.reverse us.reverse:=by
 induction h with
 |nil=>exact .nil
 |cons r t ih=>rw[cV,cV];exact fU.append ih (.cons r .nil)
theorem vF {α:Type}(l:List α):l.eraseIdx (l.length-1)=l.dropLast:=by
 induction l with
 |nil=>rfl
 |cons a r ih=>
  cases r with
  |nil=>rfl
  |cons b r=>
   have e:(a::b::r).length-1=((b::r).length-1)+1:=by
    have d:(a::b::r).length=r.length+2:=rfl;have g:(b::r).length=r.length+1:=rfl
    lia
   rw[e,List.eraseIdx_cons_succ,ih]
   all_goals rfl
section
variable {l b:Addr}{ys zs:List V}
theorem eT.Kk {its its':List Value}{n:Nat}{f:Array Value->Array Value}(I:eT X pins σ H s)(d:H l=some (.lst xs))(e:s.heap.get? l=some {cls:=.type "list",data:=.seq its.toArray n})(a:f its.toArray=its'.toArray)(b:fU ys its')(hz:ys.length<=sizeLine):eT X pins σ (upd H l (.lst ys)) {s with heap:=s.heap.update l (Obj.mapSeq f),toks:=t'}:=by
 have q:=PySem.IsL.update e f;rw[a]at q;refine I.write (x:=l) (e:=l) (by rw[d];exact trivial) (.inl rfl) (λi u h g=>(Heap.get?_update_other s.heap (Obj.mapSeq f) (Ne.symm h)).trans g) ⟨_,q⟩ ?_
 exact⟨hz,its',_,b,q⟩
theorem eT.Kl {its:List Value}(I:eT X pins σ H s)(hv:fU ys its)(hz:ys.length<=sizeLine):eT X pins σ (upd H s.heap.objs.size (.lst ys)) {s with heap:=s.heap.push {cls:=.type "list",data:=.seq its.toArray},toks:=t'}:=
 I.laid (λ_ _ q=>aA _ q) (ao _) ⟨hz,its,0,hv,aK _ rfl⟩
theorem eT.fresh (I:eT X pins σ H s):H s.heap.objs.size=none:=I.hok.fresh (ao _)
theorem eT.Km (I:eT X pins σ H s)(a:H l=some (.lst xs)):xs.length<=sizeLine/\∃(its:List Value) (n:Nat),fU xs its/\xs.length=its.length/\s.heap.get? l=some {cls:=.type "list",data:=.seq its.toArray n}:=by
 obtain⟨z,its,n,r,e⟩:=I.hok l _ a;exact⟨z,its,n,r,r.length,e⟩
theorem Ah {n:Nat}(h:n<=sizeLine):Builtin.List.listTooLong n=false:=by
 unfold Builtin.List.listTooLong;exact au (by lia)
end
inductive Bj (x:V)(vs:List V)(H:Hp)(Q:VK):Prop
 |mk (l xs y:_)(_:x=.ref l)(_:vs=[y])(_:H l=some (.lst xs))(_:xs.length<sizeLine)(_:Q .non (upd H l (.lst (xs++[y]))))
def BJ:V->List V->Hp->VK->Prop:=λx vs H Q=>Bj x vs H Q
theorem gR:GJ X "list.append" BJ:=by
 intro d s σ H x t v p Q I g j h;obtain⟨l,o,y,rfl,rfl,b,w,q⟩:=h;cases g;obtain⟨u,rfl,i⟩:=j.one;obtain⟨z,a,n,r,m,e⟩:=I.Km b;refine call_meets F.slot_list_append ⟨_,e,rfl⟩ F.entry_list_append (F.args_list_append_2 _ _) (PySem.list_append l a.toArray n u (by rw[aM];lia)) ⟨e,?_⟩;refine⟨.non,_,I.Kk (its':=a++[u]) b e (by simp) (r.append (.cons i .nil)) ?_,rfl,q⟩;rw[aF,aU]
 lia
inductive Bi (x:V)(vs:List V)(H:Hp)(Q:VK):Prop
 |mk (l b xs zs:_)(_:x=.ref l)(_:vs=[.ref b])(_:H l=some (.lst xs))(_:H b=some (.lst zs))(_:xs.length+zs.length<=sizeLine)(_:Q .non (upd H l (.lst (xs++zs))))
def BI:V->List V->Hp->VK->Prop:=λx vs H Q=>Bi x vs H Q
theorem qG:GJ X "list.extend" BI:=by
 intro m s σ H x G v M Q I w t h;obtain⟨l,b,L,D,rfl,rfl,j,B,J,q⟩:=h;cases w;obtain⟨u,rfl,A⟩:=t.one;cases A;obtain⟨z,d,n,r,K,e⟩:=I.Km j;obtain⟨E,a,C,y,o,p⟩:=I.Km B;have i:d.toArray.size+a.toArray.size<=sizeLine:=by rw[aM,aM];lia
 have g:¬(!d.toArray.isEmpty&&Builtin.List.listTooLong (d.toArray.size+a.toArray.size))=true:=by
  rw[Ah i,Bool.and_false];exact aN
 refine call_meets F.slot_list_extend ⟨_,e,rfl⟩ F.entry_list_extend (F.args_list_extend_2 _ _)
  (AutoSeq1.list_extend_list_list_0 l d.toArray n b a.toArray C g (by rw[aM];lia) (by lia)) ⟨e,p,?_⟩
 refine⟨.non,_,I.Kk (its':=d++a) j e (by simp) (r.append y) ?_,rfl,q⟩;rw[aF]
 lia
inductive Hc (x:V)(vs:List V)(H:Hp)(Q:VK):Prop
 |mk (l xs y:_)(_:x=.ref l)(_:vs=[])(_:H l=some (.lst xs))(_:xs[xs.length-1]?=some y)(_:Q y (upd H l (.lst xs.dropLast)))
def Io:V->List V->Hp->VK->Prop:=λx vs H Q=>Hc x vs H Q
theorem vq:GJ X "list.pop" Io:=by
 intro i s σ H x C v B Q I p w h;obtain⟨l,A,y,rfl,rfl,g,m,q⟩:=h;cases p;have d:=w.zero;subst d;obtain⟨z,a,n,r,j,e⟩:=I.Km g;obtain⟨u,o,t⟩:=r.get m;have b:a.toArray[a.toArray.size-1]?=some u:=by
  show a.toArray[a.length-1]?=some u;rw[<-bF,<-j];exact o
 refine call_meets F.slot_list_pop ⟨_,e,rfl⟩ F.entry_list_pop (F.args_list_pop_1 _) (MeetsSeq.list_pop_last l a.toArray n u b (by rw[aM];lia)) ⟨e,?_⟩;refine⟨y,_,I.Kk (its':=a.dropLast) g e ?_ r.dropLast ?_,t,q⟩
 ·show a.toArray.eraseIdxIfInBounds (a.toArray.size-1)=a.dropLast.toArray;rw[aM,List.eraseIdxIfInBounds_toArray,vF]
 ·rw[List.length_dropLast]
  lia
inductive Hk (x:V)(y:V)(H:Hp)(Q:VK):Prop
 |mk (l b xs zs:_)(_:x=.ref l)(_:y=.ref b)(_:H l=some (.lst xs))(_:H b=some (.lst zs))(_:xs.length+zs.length<=sizeLine)(_:∀p,H p=none->Q (.ref p) (upd H p (.lst (xs++zs))))
def Ir:R2:=λx y H Q=>Hk x y H Q
theorem D3:nF X (binaryOp .Add) Ir:=by
 intro g s σ H x y v u Q I o p h;obtain⟨l,b,F,B,rfl,rfl,m,A,D,q⟩:=h;cases o;cases p;obtain⟨z,d,n,r,E,e⟩:=I.Km m;obtain⟨C,a,G,t,i,j⟩:=I.Km A;refine PySem.P.add_list e j ?_ (by rw[aM,aM];lia);have w:d.toArray++a.toArray=(d++a).toArray:=by simp
 rw[w];exact⟨.ref _,_,I.Kl (t':=s.toks) (r.append t) (by rw[aF];lia),rfl,q _ I.fresh⟩
section
variable {prog:Program}
end
section
variable {κ:Type} [DecidableEq κ]
def eV (kvs:List (κ×V))(k:κ):Option V:=(kvs.find? λkv=>decide (kv.1=k)).map (·.2)
def fm (kvs:List (κ×V))(k:κ)(v:V):List (κ×V):=
 if (kvs.any λkv=>decide (kv.1=k))=true then kvs.map (λkv=>if kv.1=k then (kv.1,v) else kv) else kvs++[(k,v)]
def jX (kvs:List (κ×V))(k:κ):List (κ×V):=kvs.filter λkv=>decide (kv.1≠k)
theorem gF {p:κ×V}{r:List (κ×V)}{k:κ}(e:p.1=k):eV (p::r) k=some p.2:=by simp[eV,bu,e]
theorem gu {p:κ×V}{r:List (κ×V)}{k:κ}(e:¬p.1=k):eV (p::r) k=eV r k:=by simp[eV,bu,e]
theorem i5 (k:κ):∀kvs:List (κ×V),(kvs.any λkv=>decide (kv.1=k))=(eV kvs k).isSome
 |[]=>rfl
 |p::r=>by
  rw[List.any_cons];by_cases e:p.1=k
  ·simp only[gF e,aq e,Bool.true_or,Option.isSome_some]
  ·rw[gu e,au e,Bool.false_or];exact i5 k r
theorem tI (k j:κ)(y:V):∀kvs:List (κ×V),eV (kvs.map λkv=>if kv.1=k then (kv.1,y) else kv) j=(eV kvs j).map λx=>if j=k then y else x
 |[]=>rfl
 |p::r=>by
  have ih:=tI k j y r;rw[aG];by_cases h:p.1=k
  ·rw[ax h];by_cases e:p.1=j
   ·rw[gF (p:=(p.1,y)) e,gF e,Option.map_some,ax (e.symm.trans h)]
   ·rw[gu (p:=(p.1,y)) e,gu e,ih]
  ·rw[av h];by_cases e:p.1=j
   ·rw[gF (p:=p) e,gF e,Option.map_some,av (λz=>h (e.trans z))]
   ·rw[gu (p:=p) e,gu e,ih]
theorem qt (k j:κ)(y:V):∀kvs:List (κ×V),eV kvs k=none->eV (kvs++[(k,y)]) j=if j=k then some y else eV kvs j
 |[],_=>by
  by_cases e:k=j
  ·rw[ax e.symm];exact gF (p:=(k,y)) e
  ·rw[av (λz=>e z.symm)];exact gu (p:=(k,y)) e
 |p::r,hn=>by
  rw[dh];have hk:¬p.1=k:=λz=>by rw[gF z]at hn;cases hn
  rw[gu hk]at hn;have ih:=qt k j y r hn;by_cases e:p.1=j
  ·rw[gF e,gF e,av (λz=>hk (e.trans z))]
  ·rw[gu e,gu e,ih]
theorem gi (kvs:List (κ×V))(k j:κ)(y:V):eV (fm kvs k y) j=if j=k then some y else eV kvs j:=by
 unfold fm;by_cases a:(kvs.any λb=>decide (b.1=k))=true
 ·rw[ax a,tI];rw[i5]at a;by_cases e:j=k
  ·obtain⟨x,d⟩:=Option.isSome_iff_exists.mp a;rw[ax e,e,d,Option.map_some,ax rfl]
  ·rw[av e];cases eV kvs j with
   |none=>rfl
   |some x=>rw[Option.map_some,av e]
 ·rw[av a];refine qt k j y kvs ?_;rw[i5]at a;cases q:eV kvs k with
  |none=>rfl
  |some x=>rw[q]at a;exact(a rfl).elim
theorem fZ (kvs:List (κ×V))(k:κ)(v:V):(fm kvs k v).length<=kvs.length+1:=by
 unfold fm
 split
 ·rw[ab];lia
 ·rw[aF,aE,cQ];lia
theorem ii {kvs:List (κ×V)}{k:κ}(v:V)(h:eV kvs k=none):fm kvs k v=kvs++[(k,v)]:=by
 unfold fm;rw[i5,h];exact av (by decide)
theorem jB.Kn {u:Option Value}(r:jB o u):o.isSome=u.isSome:=by
 cases o with
 |none=>cases u with
  |none=>rfl
  |some _=>exact(show False from r).elim
 |some _=>cases u with
  |none=>exact(show False from r).elim
  |some _=>rfl
theorem jB.getD {u:Option Value}{d:V}{d':Value}(r:jB o u)(rd:eZ d d'):eZ (o.getD d) (u.getD d'):=by
 cases o with
 |none=>cases u with
  |none=>exact rd
  |some _=>exact(show False from r).elim
 |some _=>cases u with
  |none=>exact(show False from r).elim
  |some _=>exact r
theorem KV.val {kvs:List (κ×V)}{vs:List (κ×Value)}(r:KV kvs vs)(k:κ):jB (eV kvs k) (valueAt vs k):=by
 unfold KV at r
 induction r with
 |nil=>exact True.intro
 |@cons p q ps qs h t ih=>
  obtain⟨d,g⟩:=h;by_cases e:p.1=k
  ·have a:q.1=k:=d.symm.trans e;have b:valueAt (q::qs) k=some q.2:=by simp[valueAt,bu,a]
   rw[gF e,b];exact g
  ·have a:¬q.1=k:=λz=>e (d.trans z);have b:valueAt (q::qs) k=valueAt qs k:=by simp[valueAt,bu,a]
   rw[gu e,b];exact ih
theorem KV.any {kvs:List (κ×V)}{vs:List (κ×Value)}(r:KV kvs vs)(k:κ):(kvs.any λkv=>decide (kv.1=k))=vs.any λkv=>decide (kv.1=k):=by
 unfold KV at r
 induction r with
 |nil=>rfl
 |cons h t ih=>rw[List.any_cons,List.any_cons,ih,h.1]
theorem KV.Ko {kvs:List (κ×V)}{vs:List (κ×Value)}(r:KV kvs vs)(k:κ){u:Value}(b:eZ y u):KV (kvs.map λkv=>if kv.1=k then (kv.1,y) else kv) (vs.map λkv=>if kv.1=k then (kv.1,u) else kv):=by
 unfold KV at r ⊢
 induction r with
 |nil=>exact .nil
 |@cons p q ps qs h t ih=>
  rw[aG,aG];refine .cons ?_ ih;obtain⟨a,d⟩:=h;by_cases e:p.1=k
  ·rw[ax e,ax (a.symm.trans e)];exact⟨a,b⟩
  ·rw[av e,av (λz=>e (a.trans z))];exact⟨a,d⟩
theorem KV.put {kvs:List (κ×V)}{vs:List (κ×Value)}(r:KV kvs vs)(k:κ){u:Value}(a:eZ y u):KV (fm kvs k y) (stored vs k u):=by
 unfold fm stored;rw[r.any k];by_cases e:(vs.any λb=>decide (b.1=k))=true
 ·rw[ax e,ax e];exact r.Ko k a
 ·rw[av e,av e];exact Paired.snoc r ⟨rfl,a⟩
theorem KV.drop {kvs:List (κ×V)}{vs:List (κ×Value)}(r:KV kvs vs)(k:κ):KV (jX kvs k) (without vs k):=by
 unfold KV at r ⊢;unfold jX without
 induction r with
 |nil=>exact .nil
 |@cons p q ps qs h t ih=>
  obtain⟨d,i⟩:=h;rw[aJ,aJ];by_cases e:p.1=k
  ·have a:¬decide (p.1≠k)=true:=by simp[e]
   have b:¬decide (q.1≠k)=true:=by simp[d.symm.trans e]
   rw[av a,av b];exact ih
  ·have g:¬q.1=k:=λz=>e (d.trans z);have a:decide (p.1≠k)=true:=by simp[e]
   have b:decide (q.1≠k)=true:=by simp[g]
   rw[ax a,ax b];exact .cons ⟨d,i⟩ ih
theorem KV.keys {kvs:List (κ×V)}{vs:List (κ×Value)}(r:KV kvs vs):kvs.map (·.1)=vs.map (·.1):=by
 unfold KV at r
 induction r with
 |nil=>rfl
 |cons h t ih=>rw[aG,aG,ih,h.1]
theorem KV.length {kvs:List (κ×V)}{vs:List (κ×Value)}(r:KV kvs vs):kvs.length=vs.length:=Paired.length r
theorem AJ (kvs:List (κ×V))(k:κ):(jX kvs k).length<=kvs.length:=bE _ _
end
theorem lT {k:gz}{u:Value}(r:eZ (kV k) u):(fb P w).is k u=true:=by
 cases k with
 |inl i=>obtain⟨t,e⟩:=(show ∃t,u=Value.int i t from r);subst e;exact t8 P w i t
 |inr x=>obtain⟨t,e⟩:=(show ∃t,u=Value.str x t from r);subst e;exact t7 P w x t
theorem Er {a b:gz}(e:kV a=kV b):a=b:=by
 cases a with
 |inl i=>cases b with
  |inl j=>have d:V.int i=V.int j:=e;injection d with d;rw[d]
  |inr y=>exact nomatch (show V.int i=V.str y from e)
 |inr x=>cases b with
  |inl j=>exact nomatch (show V.str x=V.int j from e)
  |inr y=>have d:V.str x=V.str y:=e;injection d with d;rw[d]
theorem wH:∀{a b:List gz},a.map kV=b.map kV->a=b
 |[],[],_=>rfl
 |[],_::_,e=>by simp at e
 |_::_,[],e=>by simp at e
 |x::xs,y::ys,e=>by
  rw[aG,aG]at e;injection e with e1 e2
  rw[Er e1,wH e2]
theorem qJ {P:Program}{w:World}:∀{ks:List gz} {us:List Value},fU (ks.map kV) us->ItemsAre (fb P w) ks us
 |[],_,r=>by rw[cO]at r;cases r;exact .nil
 |k::ks,_,r=>by
  rw[aG]at r;cases r with
  |cons h t=>exact .cons (lT h) (qJ t)
abbrev KT (H:Hp):List (List gz×V)->List (List gz×Addr×Value)->Prop:=Paired λp q=>p.1=q.1/\H q.2.1=some (.tup (p.1.map kV))/\eZ p.2 q.2.2
theorem KT.val {kvs:List (List gz×V)}{xs:List (List gz×Addr×Value)}(r:KT H kvs xs)(k:List gz):jB (eV kvs k) ((atKey xs k).map (·.2)):=by
 induction r with
 |nil=>exact True.intro
 |@cons p q ps qs h t ih=>
  obtain⟨d,_,g⟩:=h;by_cases e:p.1=k
  ·have a:q.1=k:=d.symm.trans e;have b:atKey (q::qs) k=some q.2:=by simp[atKey,bu,a]
   rw[gF e,b];exact g
  ·have a:¬q.1=k:=λz=>e (d.trans z);have b:atKey (q::qs) k=atKey qs k:=by simp[atKey,bu,a]
   rw[gu e,b];exact ih
theorem KT.Ko {kvs:List (List gz×V)}{xs:List (List gz×Addr×Value)}(r:KT H kvs xs)(k:List gz){u:Value}(g:eZ y u):KT H (kvs.map λkv=>if kv.1=k then (kv.1,y) else kv) (xs.map (putAt k u)):=by
 induction r with
 |nil=>exact .nil
 |@cons p q ps qs h t ih=>
  rw[aG,aG];refine .cons ?_ ih;obtain⟨a,b,d⟩:=h;unfold putAt;by_cases e:p.1=k
  ·rw[ax e,ax (a.symm.trans e)];exact⟨a,b,g⟩
  ·rw[av e,av (λz=>e (a.trans z))];exact⟨a,b,d⟩
theorem KT.put {kvs:List (List gz×V)}{xs:List (List gz×Addr×Value)}(r:KT H kvs xs)(k:List gz){b:Addr}{u:Value}(g:H b=some (.tup (k.map kV)))(a:eZ y u):KT H (fm kvs k y) (storedH xs k b u):=by
 have e:(kvs.any λd=>decide (d.1=k))=(atKey xs k).isSome:=by
  rw[i5,(r.val k).Kn,Option.isSome_map]
 unfold fm storedH;rw[e];by_cases q:(atKey xs k).isSome=true
 ·rw[ax q,ax q];exact r.Ko k a
 ·rw[av q,av q];exact Paired.snoc r ⟨rfl,g,a⟩
theorem KT.keeps {kvs:List (List gz×V)}{xs:List (List gz×Addr×Value)}(r:KT H kvs xs)(ht:∀b ys,H b=some (.tup ys)->H' b=some (.tup ys)):KT H' kvs xs:=
 Paired.J4 r λ_ _ z=>⟨z.1,ht _ _ z.2.1,z.2.2⟩
section
variable {h:Heap}
theorem zo {u:HO}(ok:lM P w H h)(e:Rd H a u):fR P w H h a u:=e.ok ok
theorem lB (ok:lM P w H h)(e:Rd H a (.dK kvs)):kvs.length<=sizeLine/\(a == sysModules)=false/\∃vs,KV kvs vs/\h.DictOf (fb P w) a vs:=
 show fR P w H h a (.dK kvs) from zo ok e
theorem qM (ok:lM P w H h)(e:H a=some (.dK kvs)):kvs.length<=sizeLine/\(a == sysModules)=false/\∃vs,KV kvs vs/\h.DictOf (fb P w) a vs:=lB ok (.inl e)
theorem l9 {ks:List gz}(ok:lM P w H h)(e:H a=some (.tup (ks.map kV))):(tupleKind (fb P w)).is h ks a:=by
 obtain⟨_,b,r,o,g,d,n,i⟩:=(show fR P w H h a (.tup (ks.map kV)) from ok a _ e);exact⟨o,b.toArray,n,g,d,i,by simpa using qJ r⟩
theorem pK {kvs:List (List gz×V)}(ok:lM P w H h)(e:Rd H a (.dT kvs)):kvs.length<=sizeLine/\(a == sysModules)=false/\∃xs,KT H kvs xs/\h.DictOfH (tupleKind (fb P w)) a xs:=by
 obtain⟨z,y,xs,r,o,d,i,s,b,g,j,v⟩:=(show fR P w H h a (.dT kvs) from zo ok e);refine⟨z,y,xs,r,o,d,i,s,b,g,j,λx hx=>?_,v⟩;have all:∀{l:List (List gz×V)} {m:List (List gz×Addr×Value)},KT H l m->∀x∈m,(tupleKind (fb P w)).is h x.1 x.2.1:=by
  intro l m q
  induction q with
  |nil=>intro x hx;exact nomatch hx
  |@cons p q ps qs hq t ih=>
   intro x hx;rcases am.mp hx with e | hx
   ·subst e;exact l9 ok (by rw[<-hq.1];exact hq.2.1)
   ·exact ih x hx
 exact all r x hx
theorem Gu {kvs:List (List gz×V)}(ok:lM P w H h)(e:H a=some (.dT kvs)):kvs.length<=sizeLine/\(a == sysModules)=false/\∃xs,KT H kvs xs/\h.DictOfH (tupleKind (fb P w)) a xs:=pK ok (.inl e)
end
def iu (H:Hp)(a:Addr)(y:V)(r:Option V):Prop:=
 (∃kvs k,Rd H a (.dK kvs)/\y=kV k/\r=eV kvs k)\/∃kvs k b,Rd H a (.dT kvs)/\y=.ref b/\H b=some (.tup (k.map kV))/\r=eV kvs k
def kP (H:Hp)(a:Addr)(y v:V)(H':Hp):Prop:=
 (∃kvs k,H a=some (.dK kvs)/\y=kV k/\kvs.length<sizeLine/\H'=upd H a (.dK (fm kvs k v)))\/
 ∃kvs k b,H a=some (.dT kvs)/\y=.ref b/\H b=some (.tup (k.map kV))/\kvs.length<sizeLine/\H'=upd H a (.dT (fm kvs k v))
theorem iu.k {k:gz}(e:H a=some (.dK kvs)):iu H a (kV k) (eV kvs k):=.inl ⟨kvs,k,.inl e,rfl,rfl⟩
theorem kP.k {k:gz}(e:H a=some (.dK kvs))(hl:kvs.length<sizeLine):kP H a (kV k) v (upd H a (.dK (fm kvs k v))):=.inl ⟨kvs,k,e,rfl,hl,rfl⟩
section
variable {u r:Value}
theorem eT.big (I:eT X pins σ H s):sysModules<s.heap.objs.size:=by
 have h:mainGlobals<s.heap.objs.size:=(I.mod.glob.keeps I.bk).lt;exact Nat.lt_trans (by decide) h
theorem yp (C:A.units+1<cLine)(I:eT X pins σ H s)(g:iu H a y (some v))(t:eZ y u)(h:∀w' s',eT X pins σ H s'->eZ v w'->Q w' s'):wpAny (model X.prog X.w) A (getItem (.ref a) u) Q E s:=by
 rcases g with ⟨j,k,e,q,l⟩ | ⟨j,k,b,e,q,F,l⟩
 ·subst q;obtain⟨z,x,D,rel,m⟩:=lB I.hok e;obtain⟨w',i,d⟩:=jB.some_of (v:=v) (o:=valueAt D k) (by rw[l];exact rel.val k);exact wpAny_getItem_of (lT t) m.mapOf i (h w' _ (I.tok _) d)
 ·subst q;cases (show u=Value.ref b from t);obtain⟨z,x,B,rel,m⟩:=pK I.hok e;obtain⟨w',i,d⟩:=jB.some_of (v:=v) (o:=(atKey B k).map (·.2)) (by rw[l];exact rel.val k);obtain⟨p,hp,r⟩:=az.mp i;refine wpAny_getItem_heap (dq C) (l9 I.hok F) m hp ?_;rw[r];exact h w' _ (I.tok _) d
theorem II (r:A.units+1<cLine)(I:eT X pins σ H s)(g:iu H a y o)(p:eZ y u)(h:∀s',eT X pins σ H s'->Q (.bool o.isSome) s'):wpAny (model X.prog X.w) A (compareOp .In u (.ref a)) Q E s:=by
 rcases g with ⟨i,k,e,j,l⟩ | ⟨i,k,b,e,j,t,l⟩
 ·subst j;obtain⟨z,d,v,rel,m⟩:=lB I.hok e;refine wpAny_in_of (lT p) d m.mapOf ?_;rw[<-(rel.val k).Kn,<-l];exact h _ (I.tok _)
 ·subst j;cases (show u=Value.ref b from p);obtain⟨z,d,x,rel,m⟩:=pK I.hok e;refine wpAny_in_heap (dq r) (l9 I.hok t) d m ?_;have q:=(rel.val k).Kn;rw[Option.isSome_map]at q;rw[<-q,<-l];exact h _ (I.tok _)
theorem CJ (r:A.units+1<cLine)(I:eT X pins σ H s)(g:iu H a y o)(p:eZ y u)(h:∀s',eT X pins σ H s'->Q (.bool (!o.isSome)) s'):wpAny (model X.prog X.w) A (compareOp .NotIn u (.ref a)) Q E s:=by
 rcases g with ⟨i,k,e,j,l⟩ | ⟨i,k,b,e,j,t,l⟩
 ·subst j;obtain⟨z,d,v,rel,m⟩:=lB I.hok e;refine wpAny_notIn_of (lT p) d m.mapOf ?_;rw[<-(rel.val k).Kn,<-l];exact h _ (I.tok _)
 ·subst j;cases (show u=Value.ref b from p);obtain⟨z,d,x,rel,m⟩:=pK I.hok e;refine wpAny_notIn_heap (dq r) (l9 I.hok t) d m ?_;have q:=(rel.val k).Kn;rw[Option.isSome_map]at q;rw[<-q,<-l];exact h _ (I.tok _)
theorem jZ {h':Heap}{ob:HO}(I:eT X pins σ H s)(mu:GI (H a))(hs:Heap.SameBut a s.heap h')(he:∃q,h'.get? a=some q)(new:fR X.prog X.w (upd H a ob) h' a ob):eT X pins σ (upd H a ob) {s with heap:=h',toks:=t'}:=
 I.write (x:=a) (e:=a) mu (.inl rfl) (λb q hb z=>(hs.2 b hb).trans z) he new
theorem nu {h':Heap}{vs:List (gz×Value)}(z:kvs.length<=sizeLine)(hd:(a == sysModules)=false)(rel:KV kvs vs)(dd:h'.DictOf (fb P w) a vs):fR P w H' h' a (.dK kvs):=⟨z,hd,vs,rel,dd⟩
theorem yo {Q:Unit->Shared->Prop}(R:A.units+1<cLine)(I:eT X pins σ H s)(g:kP H a y v H')(J:eZ y u)(G:eZ v r)(h:∀s',eT X pins σ H' s'->Q () s'):wpAny (model X.prog X.w) A (setItem (.ref a) u r) Q E s:=by
 rcases g with ⟨d,k,e,B,l,o⟩ | ⟨d,k,b,e,B,F,l,o⟩
 ·subst B o;obtain⟨z,m,L,rel,x⟩:=qM I.hok e;have p:L.length<=sizeLine:=by rw[<-rel.length];exact z
  have t:(fm d k v).length<=sizeLine:=by have:=fZ d k v;lia
  refine wpAny_setItem_pairs (hsz:=p) (lT J) x λD i hs=>h _ ?_;have U:∃q,D.get? a=some q:=(by obtain⟨q,_,_,j,_⟩:=i;exact⟨q,j⟩);exact jZ I (by rw[e];exact True.intro) hs U (nu t m (rel.put k G) i)
 ·subst B o;cases (show u=Value.ref b from J);obtain⟨z,m,O,rel,x⟩:=Gu I.hok e;have p:O.length<=sizeLine:=by rw[<-Paired.length rel];exact z
  have t:(fm d k v).length<=sizeLine:=by have:=fZ d k v;lia
  refine wpAny_setItem_heap (hsz:=p) (dq R) (l9 I.hok F) x λD i hs=>h _ ?_;obtain⟨q,P,T,j,K,S,M,_,N⟩:=i;refine jZ I (by rw[e];exact True.intro) hs ⟨q,j⟩ ⟨t,m,_,(rel.put k F G).keeps λc Y C=>?_,q,P,T,j,K,S,M,N⟩;rw[ef (fh C e (λz=>nomatch z))];exact C
end
section
variable {k:gz}{u:Value}
theorem Gv {more:List Value}(I:eT X pins σ H s)(e:H a=some (.dK kvs))(d:eZ (kV k) u)(l:eV kvs k=some v)(m:more=[]\/∃x,more=[x])(h:∀w' s',eT X pins σ (upd H a (.dK (jX kvs k))) s'->eZ v w'->Q w' s'):wpAny (model X.prog X.w) A (call (.builtin "dict.pop") (.ref a::u::more)) Q E s:=by
 obtain⟨z,r,p,rel,j⟩:=qM I.hok e;obtain⟨w',y,g⟩:=jB.some_of (v:=v) (o:=valueAt p k) (by rw[<-l];exact rel.val k);have hp:(keyPart u).isSome=true:=by
  cases k with
  |inl i=>obtain⟨t,q⟩:=(show ∃t,u=Value.int i t from d);subst q;rfl
  |inr x=>obtain⟨t,q⟩:=(show ∃t,u=Value.str x t from d);subst q;rfl
 have G:argsOk "dict.pop" ⟨.ref a::u::more,[]⟩:=by
  rcases m with q | ⟨x,q⟩
  ·subst q;exact PySem.F.args_dict_pop_2 _ _
  ·subst q;exact PySem.F.args_dict_pop_3 _ _ _
 refine call_meetsIn PySem.F.slot_dict_pop j.typeIs PySem.F.entry_dict_pop G (meets_dict_pop_there (fb X.prog X.w) a (lT d) more m hp)
  ⟨p,w',j,by rw[<-rel.length];exact z,y,λB b hs=>h w' _ ?_ g⟩
 have D:∃q,B.get? a=some q:=(by obtain⟨q,_,_,C,_⟩:=b;exact⟨q,C⟩);exact jZ I (by rw[e];exact True.intro) hs D (nu (bz (AJ kvs k) z) r (rel.drop k) b)
theorem Gw (I:eT X pins σ H s)(e:Rd H a (.dK kvs))(h:∀t s',eT X pins σ H s'->Q (.int kvs.length t) s'):wpAny (model X.prog X.w) A (call (.builtin "len") [.ref a]) Q E s:=by
 obtain⟨z,b,g,rel,d⟩:=lB I.hok e;refine call_len_dict b d (by rw[<-rel.length];rw[bV]at z;lia) ?_;rw[<-rel.length];exact h _ _ (I.tok _)
end
def EO (i:Expr):Prop:=∀ov iv,subscripted i false ov iv=operate [ov,iv] (getItem ov iv)
theorem wg {prog:Program}{env:Env}{value slice:Expr}{id:String}(d:typeLookup (.type T) "__getitem__" = pure (some (.builtin id)))(hs:EO slice)(h:wpAny (model prog w) A (eval value env) (λo s₁=>wpAny (model prog w) A (eval slice env) (λi s₂=>s₂.TypeIs o T/\wpAny (model prog w) A (getItem o i) Q E s₂) E s₁) E s):wpAny (model prog w) A (eval (.Subscript value slice pos) env) Q E s:=by
 refine Subscript_ (bS h (λo s₁ h₁=>bS h₁ (λi s₂ h₂=>?_) λ_ _ x=>x) λ_ _ x=>x);obtain⟨b,h₂⟩:=h₂;unfold subscriptTail;refine ac ?_;rw[getitemInPython_of_ne b.not_modules];refine ac (wpAny_specialOf b d ?_);have a:wpAny (model prog w) A (subscripted slice false o i) (λr s₃=>wpAny (model prog w) A (letTemporaryGo value o r >>= λ_=>pure r) Q E s₃) E s₂:=by
  rw[hs o i];exact wpAny_operating (bS h₂ (λr s₃ h₃=>ac (wpAny_letTemporaryGo (ar h₃))) λ_ _ x=>x)
 first
  |exact ar (ac a)
  |exact ac (ar (ac a))
  |exact ac a
theorem ul (I:eT X pins σ H s)(g:iu H a y o):s.TypeIs (.ref a) "dict":=by
 rcases g with ⟨d,k,e,_,_⟩ | ⟨d,k,b,e,_,_,_⟩
 ·obtain⟨_,_,i,_,h⟩:=lB I.hok e;exact h.typeIs
 ·obtain⟨_,_,j,_,h⟩:=pK I.hok e;exact h.typeIs
inductive E3 (Q:VK)(x:V)(y:V)(H2:Hp):Prop
 |mk (a v:_)(_:x=.ref a)(_:iu H2 a y (some v))(_:Q v H2)
def Db (td ty:TE):TE:=λσ H Q=>td σ H λx H1=>ty σ H1 λy H2=>E3 Q x y H2
inductive GU (Q:VK)(y:V)(x:V)(H2:Hp):Prop
 |mk (a o:_)(_:x=.ref a)(_:iu H2 a y o)(_:Q (.bl o.isSome) H2)
def Fx (ty td:TE):TE:=λσ H Q=>ty σ H λy H1=>td σ H1 λx H2=>GU Q y x H2
inductive Bg (Q:VK)(y:V)(x:V)(H2:Hp):Prop
 |mk (a o:_)(_:x=.ref a)(_:iu H2 a y o)(_:Q (.bl (!o.isSome)) H2)
def Bs (ty td:TE):TE:=λσ H Q=>ty σ H λy H1=>td σ H1 λx H2=>Bg Q y x H2
inductive E6 (D:mN)(σ:St)(v:V)(x:V)(y:V)(H3:Hp):Prop
 |mk (a H4:_)(_:x=.ref a)(_:kP H3 a y v H4)(_:D.nx σ H4)
def FV (td ty tv:TE):TS:=λD σ H=>tv σ H λv H1=>td σ H1 λx H2=>ty σ H2 λy H3=>E6 D σ v x y H3
section
variable {o i value:Expr}{pos' tpos:Pos}{td ty tv:TE}
theorem gN (p:X.A.units+1<cLine)(l:PE X o td)(z:PE X i ty)(hs:EO i:=by exact λ_ _=>rfl):PE X (.Subscript o i pos) (Db td ty):=by
 intro b s σ H Q I h;refine wg PySem.F.slot_dict_getitem.lookup hs (fW (l b s σ H _ I h) ?_);rintro u q ⟨x,m,t,r,D⟩;refine fW (z b q σ m _ t D) ?_;rintro L J ⟨y,B,e,w,a,v,j,g,E⟩;subst j;obtain rfl:u=Value.ref a:=r;exact⟨ul e g,yp p e g w λG K C d=>⟨v,B,C,d,E⟩⟩
theorem mU (v:X.A.units+1<cLine)(t:PE X i ty)(e:PE X o td):PC X .In i o (Fx ty td):=by
 intro b s σ H Q I h;refine fW (t b s σ H _ I h) ?_;rintro G l ⟨y,j,q,r,B⟩;refine fW (e b l σ j _ q B) ?_;rintro u E ⟨x,w,C,m,a,p,d,g,D⟩;subst d;obtain rfl:u=Value.ref a:=m;exact II v C g r λF z=>⟨.bl p.isSome,w,z,rfl,D⟩
theorem jD (v:X.A.units+1<cLine)(t:PE X i ty)(e:PE X o td):PC X .NotIn i o (Bs ty td):=by
 intro b s σ H Q I h;refine fW (t b s σ H _ I h) ?_;rintro G l ⟨y,j,q,r,B⟩;refine fW (e b l σ j _ q B) ?_;rintro u E ⟨x,w,C,m,a,p,d,g,D⟩;subst d;obtain rfl:u=Value.ref a:=m;exact CJ v C g r λF z=>⟨.bl (!p.isSome),w,z,rfl,D⟩
theorem iD (F:X.A.units+1<cLine)(B:PE X o td)(K:PE X i ty)(M:PE X value tv)(hs:swapsWith value (some (.Subscript o i pos')) pos.line X.env=pure false):PS X (.Assign [.Subscript o i pos'] value pos) (FV td ty tv):=by
 intro b s σ H D I h;refine wpAny_Assign_Subscript (fW (M b s σ H _ I h) ?_) hs;rintro r E ⟨v,C,j,z,q⟩;refine fW (B b E σ C _ j q) ?_;rintro u p ⟨x,L,w,G,N⟩;refine fW (K b p σ L _ w N) ?_;rintro R Q ⟨y,P,l,J,a,m,d,g,t⟩;subst d;obtain rfl:u=Value.ref a:=G;exact yo F l g J z λO e=>⟨σ,m,e,t⟩
end
theorem pO (h:Heap)(hb:sysModules<h.objs.size):fR P w H (h.push {cls:=.type "dict",data:=.dict #[]}) h.objs.size (.dK []):=
 ⟨bo _,beq_eq_false_iff_ne.mpr (Ne.symm (aW hb)),[],.nil,Heap.DictOf.new h⟩
def DC:TE:=λ_ H Q=>∀p,H p=none->Q (.ref p) (upd H p (.dK []))
theorem gY:PE X (.Dict [] [] pos) DC:=λpins s σ H Q I h=>
 wpAny_Dict_empty ⟨.ref s.heap.objs.size,_,I.laid (a:=s.heap.objs.size) (o:=.dK []) (t':=s.toks) (λ_ _ q=>aA _ q) (ao _) (pO s.heap I.big),rfl,h _ (I.hok.fresh (ao _))⟩
def q5:List (TE×TE)->St->Hp->(List (V×V)->Hp->Prop)->Prop
 |[],_,H,Q=>Q [] H
 |(tk,tv)::r,σ,H,Q=>tk σ H λx H1=>tv σ H1 λy H2=>q5 r σ H2 λps H3=>Q ((x,y)::ps) H3
abbrev VV:List (V×V)->List (Value×Value)->Prop:=Paired λp q=>eZ p.1 q.1/\eZ p.2 q.2
def GG (X:Cx)(pos:Pos)(keys:List (Option Expr))(values:List Expr)(trs:List (TE×TE)):Prop:=
 ∀(pins:List (Addr×Obj)) (s:Shared) (σ:St) (H:Hp) (Q:List (V×V)->Hp->Prop),eT X pins σ H s->q5 trs σ H Q->
  wpAny (model X.prog X.w) X.A (evalPairs (pairTrees keys values X.env pos)) (λvs s'=>∃ps H',eT X pins σ H' s'/\VV ps vs/\Q ps H') X.xe s
theorem ww:GG X pos [] [] []:=λpins s σ H Q I h=>pairTrees_nil_walk ⟨[],H,I,.nil,h⟩
theorem tV {k v:Expr}{ks:List (Option Expr)}{vs:List Expr}{tk tv:TE}{trs:List (TE×TE)}(hk:PE X k tk)(hv:PE X v tv)(hr:GG X pos ks vs trs):GG X pos (some k::ks) (v::vs) ((tk,tv)::trs):=λpins s σ H Q I h=>
 pairTrees_cons_walk (fW (hk pins s σ H _ I h) λu s1 ⟨x,H1,I1,rx,q1⟩=>fW (hv pins s1 σ H1 _ I1 q1) (by rintro w2 s2 ⟨y,H2,I2,ry,q2⟩;exact fW (hr pins s2 σ H2 _ I2 q2) (by rintro ws s3 ⟨ps,H3,I3,rel,q3⟩;exact⟨(x,y)::ps,H3,I3,.cons ⟨rx,ry⟩ rel,q3⟩)))
def iJ (kvs more:List (gz×V)):List (gz×V):=more.foldl (λacc kv=>fm acc kv.1 kv.2) kvs
theorem KV.merge:∀{more:List (gz×V)} {rs:List (gz×Value)} {kvs:List (gz×V)} {vs:List (gz×Value)},KV more rs->KV kvs vs->KV (iJ kvs more) (merged vs rs):=by
 intro more rs kvs vs r;unfold KV at r
 induction r generalizing kvs vs with
 |nil=>intro q;exact q
 |@cons p q ps qs h t ih=>
  intro a;have e:KV (fm kvs p.1 p.2) (stored vs q.1 q.2):=by
   have:=a.put p.1 h.2;rw[<-h.1];exact this
  exact ih e
theorem j8:∀(more kvs:List (gz×V)),(iJ kvs more).length<=kvs.length+more.length
 |[],kvs=>by show kvs.length<=kvs.length+0;lia
 |p::r,kvs=>by
  have h1:=j8 r (fm kvs p.1 p.2);have h2:=fZ kvs p.1 p.2;show(iJ (fm kvs p.1 p.2) r).length<=_;rw[aE];lia
theorem pS {P:Program}{w:World}:∀{kvs:List (gz×V)} {ws:List (Value×Value)},VV (kvs.map λkv=>(kV kv.1,kv.2)) ws->∃rs,Carries (fb P w) ws rs/\KV kvs rs
 |[],_,r=>by rw[cO]at r;cases r;exact⟨[],True.intro,.nil⟩
 |p::kvs,_,r=>by
  rw[aG]at r;cases r with
  |@cons a b as bs h t=>
   obtain⟨rs,c,q⟩:=pS (P:=P) (w:=w) t;obtain⟨b1,b2⟩:=b;exact⟨(p.1,b2)::rs,⟨lT h.1,rfl,c⟩,.cons ⟨rfl,h.2⟩ q⟩
def Fw (trs:List (TE×TE)):TE:=λσ H Q=>∀p,H p=none->q5 trs σ (upd H p (.dK [])) λps H2=>H2 p=some (.dK [])/\∃kvs:List (gz×V),ps=kvs.map (λkv=>(kV kv.1,kv.2))/\kvs.length<=15/\Q (.ref p) (upd H2 p (.dK (iJ [] kvs)))
theorem BT {keys:List (Option Expr)}{values:List Expr}{trs:List (TE×TE)}(h:GG X pos keys values trs)(g:keys.all (·.isSome)=true)(C:keys.length=values.length)(p:keys≠[])(j:keys.length<=15):PE X (.Dict keys values pos) (Fw trs):=by
 intro d s σ H Q I q;have hn:=I.hok.fresh (ao s.heap.objs.size);have r:=I.laid (a:=s.heap.objs.size) (o:=.dK []) (h':=s.heap.push {cls:=.type "dict",data:=.dict #[]}) (t':=s.toks) (λ_ _ q=>aA _ q) (ao _) (pO s.heap I.big);refine wpAny_Dict_walk (knd:=fb X.prog X.w) g C p j (fW (h d _ σ _ _ r (q _ hn)) ?_);rintro N M ⟨L,O,l,rel,e,b,E,K,J⟩;subst E;obtain⟨B,c,y⟩:=pS (P:=X.prog) (w:=X.w) rel;obtain⟨z,m,F,v,D⟩:=qM l.hok e;cases v;refine⟨B,c,D,λh' i hs=>⟨.ref s.heap.objs.size,_,?_,rfl,J⟩⟩;have A:(iJ [] b).length<=sizeLine:=by
  have x:=j8 b [];rw[cQ]at x;rw[bV];lia
 have G:∃q,h'.get? s.heap.objs.size=some q:=(by obtain⟨q,_,_,t,_⟩:=i;exact⟨q,t⟩);exact jZ l (by rw[e];exact True.intro) hs G (nu A m (y.merge .nil) i)
structure M1 (X:Cx)(o:Expr)(m:Str)(apos:Pos)(e:Expr)(cpos:Pos):Prop where
 base:attributeBase o m X.env (eval o X.env)=eval o X.env
 few:((backTo cpos (starEach [e] X.env)).all (λx=>!x.1)&&(backToKw cpos (keywordEach [] X.env)).all (λx=>x.1.isSome)&&decide (([e]:List Expr).length+([]:List Keyword).length+(if ([]:List Keyword).isEmpty then 0 else 1)<30))=true
 line:(apos.endLine == cpos.line)=true
 trees:backTo cpos (starEach [e] X.env)=[(false,eval e X.env)]
structure M2 (X:Cx)(o:Expr)(m:Str)(apos:Pos)(e f:Expr)(cpos:Pos):Prop where
 base:attributeBase o m X.env (eval o X.env)=eval o X.env
 few:((backTo cpos (starEach [e,f] X.env)).all (λx=>!x.1)&&(backToKw cpos (keywordEach [] X.env)).all (λx=>x.1.isSome)&&decide (([e,f]:List Expr).length+([]:List Keyword).length+(if ([]:List Keyword).isEmpty then 0 else 1)<30))=true
 line:(apos.endLine == cpos.line)=true
 trees:backTo cpos (starEach [e,f] X.env)=[(false,eval e X.env),(false,eval f X.env)]
def GY (H:Hp)(a:Addr):Prop:=(∃kvs,Rd H a (.dK kvs))\/∃kvs,Rd H a (.dT kvs)
theorem vB (I:eT X pins σ H s)(d:GY H a):s.TypeIs (.ref a) "dict"/\(∀b,Value.ref a=.ref b->∃ob,s.heap.get? b=some ob/\ob.dict=none)/\(a == sysModules)=false:=by
 rcases d with ⟨i,e⟩ | ⟨i,e⟩
 ·obtain⟨_,h,m,_,g⟩:=lB I.hok e;refine⟨g.typeIs,λb q=>?_,h⟩;cases q;obtain⟨ob,_,_,l,j,_⟩:=g;exact⟨ob,l,j.2.1⟩
 ·obtain⟨_,h,o,_,g⟩:=pK I.hok e;refine⟨g.typeIs,λb q=>?_,h⟩;cases q;obtain⟨ob,_,_,l,j,_⟩:=g;exact⟨ob,l,j.2.1⟩
section
variable {d:V}{u r:Value}
theorem EF (v:A.units+1<cLine)(I:eT X pins σ H s)(g:iu H a y o)(q:eZ y u)(rd:eZ d r)(h:∀w' s',eT X pins σ H s'->eZ (o.getD d) w'->Q w' s'):wpAny (model X.prog X.w) A (call (.builtin "dict.get") [.ref a,u,r]) Q E s:=by
 rcases g with ⟨m,k,e,p,l⟩ | ⟨m,k,b,e,p,x,l⟩
 ·subst p;obtain⟨z,j,B,rel,i⟩:=lB I.hok e;refine call_meetsIn PySem.F.slot_dict_get i.typeIs PySem.F.entry_dict_get (PySem.F.args_dict_get_3 _ _ _) (meets_dict_get_default (fb X.prog X.w) a (lT q) j r) ⟨_,i.mapOf,h _ _ (I.tok _) ?_⟩;rw[l];exact(rel.val k).getD rd
 ·subst p;cases (show u=Value.ref b from q);obtain⟨z,j,t,rel,i⟩:=pK I.hok e;refine call_meetsIn PySem.F.slot_dict_get i.typeIs PySem.F.entry_dict_get (PySem.F.args_dict_get_3 _ _ _) (meetsH_dict_get_default (tupleKind (fb X.prog X.w)) a b j r) ⟨dq v,k,t,l9 I.hok x,i,h _ _ (I.tok _) ?_⟩;rw[l];exact(rel.val k).getD rd
end
inductive CZ (ty:TE)(tx:TE)(σ:St)(Q:VK)(x:V)(H1:Hp):Prop
 |mk (a:_)(_:x=.ref a)(_:GY H1 a)(_:ty σ H1 λy H2=>tx σ H2 λz H3=>∃o,iu H3 a y o/\Q (o.getD z) H3)
def DE (td ty tx:TE):TE:=λσ H Q=>td σ H λx H1=>CZ ty tx σ Q x H1
inductive CW (ty:TE)(σ:St)(Q:VK)(x:V)(H1:Hp):Prop
 |mk (a:_)(_:x=.ref a)(_:GY H1 a)(_:ty σ H1 λy H2=>∃kvs k v,H2 a=some (.dK kvs)/\y=kV k/\eV kvs k=some v/\Q v (upd H2 a (.dK (jX kvs k))))
def DA (td ty:TE):TE:=λσ H Q=>td σ H λx H1=>CW ty σ Q x H1
section
variable {o f:Expr}{apos cpos:Pos}{td ty tx:TE}
theorem kg (L:X.A.units+1<cLine)(E:PE X o td)(R:PE X e ty)(D:PE X f tx)(m:M2 X o "get" apos e f cpos):PE X (.Call (.Attribute o "get" apos) [e,f] [] cpos) (DE td ty tx):=by
 intro b s σ H Q I h;refine dw m.base m.few m.line PySem.F.plainAttrs_dict PySem.F.slot_dict_get PySem.F.type_dict_get (fW (E b s σ H _ I h) ?_);rintro u K ⟨x,J,j,M,a,l,d,w⟩;subst l;obtain rfl:u=Value.ref a:=M;obtain⟨G,p,_⟩:=vB j d;refine⟨G,p,?_⟩;rw[m.trees];refine Calls.callWith_builtin rfl (Calls.evalArgs_plain (Calls.spliced_cons (fW (R b K σ J _ j w) λiv v ⟨y,P,C,N,S⟩=>Calls.spliced_cons (fW (D b v σ P _ C S) λfv Z ⟨z,r,t,O,Y,g,B⟩=>Calls.spliced_nil ?_))));exact EF L t g N O λU T q i=>⟨_,r,q,i,B⟩
theorem zG (z:PE X o td)(G:PE X e ty)(m:M1 X o "pop" apos e cpos):PE X (.Call (.Attribute o "pop" apos) [e] [] cpos) (DA td ty):=by
 intro b s σ H Q I h;refine dw m.base m.few m.line PySem.F.plainAttrs_dict PySem.F.slot_dict_pop PySem.F.type_dict_pop (fW (z b s σ H _ I h) ?_);rintro u C ⟨x,B,i,D,a,j,d,t⟩;subst j;obtain rfl:u=Value.ref a:=D;obtain⟨A,p,_⟩:=vB i d;refine⟨A,p,?_⟩;rw[m.trees];refine Calls.callWith_builtin rfl (Calls.evalArgs_plain (Calls.spliced_cons (fW (G b C σ B _ i t) ?_)));rintro R N ⟨y,O,w,E,q,k,v,K,J,l,L⟩;refine Calls.spliced_nil ?_;subst J;exact Gv w K E l (.inl rfl) λM P r g=>⟨v,_,r,g,L⟩
end
theorem AN (I:eT X pins σ H s)(e:Rd H a (.dK kvs))(h:∀p s',H p=none->eT X pins σ (upd H p (.dK kvs)) s'->Q (.ref p) s'):wpAny (model X.prog X.w) A (call (.type "dict") [.ref a]) Q E s:=by
 obtain⟨z,i,m,rel,j⟩:=lB I.hok e;refine kt_call_dict i j (by rw[<-rel.length];exact z) λl d hs=>?_;refine h _ _ (I.hok.fresh (ao _)) (I.laid (a:=s.heap.objs.size) (o:=.dK kvs) (t':=s.toks) (λb q g=>?_) (ao _) (nu z (beq_eq_false_iff_ne.mpr (Ne.symm (aW I.big))) rel d));exact(hs.2 b (aW (aS g))).trans (aA _ g)
section
variable {u:Value}
end
end L2
namespace Att
open PySem PySem.W PySem.Calls PyProof.Rows
theorem nT {P:Params}{h:Heap}:∀(ns:List Int) (vs:List Value),WellAll P h vs (ns.map WData.int)->IntsAre vs ns:=by
 intro ns
 induction ns with
 |nil=>
  intro vs w;rw[cO]at w;cases w;exact .nil
 |cons n ns ih=>
  intro vs w;rw[aG]at w;cases w with
  |cons a b=>
   cases a;exact .cons _ _ (ih _ b)
theorem xn {l:OpenLaw}{n:Nat}(hn:l.most=some n){P:Params}{h:Heap}{args:List WData}{vals:List Value}(b:l.row.toRowW.claim.pre args=true)(m:WellAll P h vals args):∃a vs ns,vals=[Value.ref a]/\args=[WData.list (ns.map WData.int)]/\h.get? a=some {cls:=.type "list",data:=.seq vs.toArray}/\IntsAre vs ns/\ns.length<=n:=by
 have j:WShape.hasAll [] args [.list .int]=true:=(pre_splitW b).1;have o:l.pre.holds [] {args:=args}=true:=(pre_splitW b).2;obtain⟨d,r,rfl,s,p⟩:=hasAllW_cons j;obtain rfl:=hasAllW_nil p;obtain⟨w,rfl,t⟩:=hasW_list s;obtain⟨ns,rfl⟩:=items_int t;have e:ns.length<=n:=by
  unfold OpenLaw.pre at o;have g:(WTm.not (.lt (.lit (.int (n:Int))) (.len (.arg 0)))).holds [] {args:=[.list (ns.map .int)]}=true:=by
   have g:=(holds_andW o).1;rw[hn]at g;exact g
  have i:=condW_of g (w_not (w_lt w_lit (w_len_list (w_arg rfl))));rw[ab]at i;refine Nat.le_of_not_lt λq=>?_;have v:(n:Int)<((ns.length:Nat):Int):=by lia
  first
   |(rw[aq v]at i;exact absurd i (by decide))
   |(simp at i;lia)
 cases m with
 |cons w1 w2=>
  cases w2;cases w1 with
  |list ho hall=>exact⟨_,_,ns,rfl,rfl,ho,nT ns _ hall,e⟩
theorem xw (l:OpenLaw)(args:List WData):l.row.toRowW.claim.post args (.bool true) args=true:=
 postW_of (r:=l.row.toRowW) (X:=(true == true))
  (show WShape.has [] (.bool true) .bool=true by first | rfl | decide | simp[WShape.has,WShape.arms,WShape.armsAll])
  (show(WTm.eq .res (.lit (.bool true))).value [] {args:=args,res:=some (.bool true),after:=args}=some (.bool (true == true)) from w_eq_bool (w_res rfl) w_lit) rfl
theorem ux {l:OpenLaw}{n:Nat}{q:Program}{loose:List Str}{XP:(Str->Option Value)->Heap->Prop}{YP:World->Heap->Prop}{d:DefRec}(hn:l.most=some n)(j:d.params.defaults=[])(call:∀(w:World) (s₀ s₁:Shared) (mg mb:Str->Option Value) (fa:Addr) (o:Obj) (pm cd doc:Value) (a:Addr) (vs:List Value) (ns:List Int),Ground q loose [] XP w s₀ mg mb s₁.heap->YP w s₁.heap->s₁.heap.get? fa=some o->o.data=.func (docDef d.name d.params d.body d.scope pm cd doc)->s₁.heap.CodeRec cd d.name->mg d.name=some (.ref fa)->s₁.heap.get? a=some {cls:=.type "list",data:=.seq vs.toArray}->IntsAre vs ns->ns.length<=n->s₁.gens=#[]->codeAny (model l.prog w) callerA (.call (.ref fa) ⟨[.ref a],[]⟩) (λr s'=>r=.ok (.ret (.bool true))/\OldK s₁.heap s'.heap/\s'.os=s₁.os/\AllBare s'.gens) s₁):WalkO q loose XP YP l.row.toRowW d [] (λf vs=>PySem.call f vs):=by
 intro w s₀ s₁ mg mb G Y fa o pm cd doc K kV E z p x m B t v L h y F i J;obtain rfl:K=.none:=Dflts.none x j;obtain rfl:kV=.none:=Dflts.noKw x;obtain⟨a,vs,ns,rfl,rfl,e,b,g⟩:=xn hn h i;refine enter_call (codeAny_mono (call w s₀ s₁ mg mb fa o pm cd doc a vs ns G Y E (fd_plain z) p m e b g B) λr s' C=>?_);obtain⟨rfl,A,H,D⟩:=C;exact⟨.inl ⟨.bool true,.bool true,[],rfl,λ_=>rfl,.bool true,xw l _,λ_=>⟨List.Pairwise.nil,λ_ I=>(nomatch I)⟩⟩,A,H,D⟩
section
variable {prog:Program}{w:World}{A:Around}{E:Value->Shared->Prop}{s:Shared}{K:Frag}
end
end Att
namespace L2
open PySem PySem.Spec PyProof.Rows
variable {A B:Prop}{H:Hp}{qual x:Str}{st:Stmt}
theorem mP:∀{vs:List Value} {ns:List Int},IntsAre vs ns->fU (ns.map V.int) vs
 |_,_,.nil=>.nil
 |_,_,.cons n t h=>.cons ⟨t,rfl⟩ (mP h)
def fF (s:Stmt)(j:Nat):Stmt:=match s with
 |.ClassDef _ _ _ body _ _ _ _ _ _ _=>body.getD j (.Pass ⟨0,0,0,0⟩)
 |_=>.Pass ⟨0,0,0,0⟩
def ie (s:Stmt):Arguments:=match s with
 |.FunctionDef _ a _ _ _ _ _ _ _ _=>a
 |_=>{posonlyargs:=[],args:=[],vararg:=none,kwonlyargs:=[],kw_defaults:=[],kwarg:=none,defaults:=[]}
def gC (s:Stmt):List Stmt:=match s with
 |.FunctionDef _ _ b _ _ _ _ _ _ _=>b
 |_=>[]
def eB (s:Stmt):Scope:=match s with
 |.FunctionDef _ _ _ _ _ _ sc _ _ _=>sc
 |_=>{kind:=.function,names:=[],isGenerator:=false,isCoroutine:=false}
abbrev fB:uC:=λ_ _ _ _ _ _=>False
abbrev E0:XK:=λ_ _ _=>False
theorem fE {X:Cx}:j9 fB X E0:=λ_ _ _ _ _ _ _ h=>h.elim
structure iL (K:W.Frag)(x qual:Str)(st:Stmt)(f:Addr)(fd:FuncData):Prop where
 ex:∃(oc:Value) (od:Option Addr) (kV doc pm:Value) (an:Option Addr) (cdv ct:Value) (osl:Array (Option Value)),
  fd=W.fnOf x qual (ie st) (gC st) (eB st) .none kV doc pm an cdv ct/\K.lookup f=some ⟨oc,od,.func fd,osl⟩/\W.codeIn K cdv qual=true
 kp:W.keepIn K (.ref f)=true
section
variable {P:Program}{w:World}{K:W.Frag}{mg:Str->Option Value}{base:Heap}
theorem iL.ok {f:Addr}{fd:FuncData}{N ps:List Str}{k:Nat}{sp:Sp}(F:iL K x qual st f fd)(S:eM N ps (eB st))(a:∀(cdv:Value) (A:Around) (outer:List Env) (s:Shared) (H:Hp) (vs:List V) (Q:VK) (E:XK),gK k (A.deeper (envOfC qual (eB st) s.heap.objs.size f cdv))->sp vs H Q E->∃t,mj (qk fB P w K mg base N qual (eB st) f cdv A outer s H E).nox (gC st) t/\t {nx:=λ_ H'=>Q .non H',rt:=Q} (start N vs) H)(len:∀vs H Q E,sp vs H Q E->vs.length=ps.length:=by intro _ _ _ _ h;cases h;subst_vars;rfl):fi P w K mg base fB (k+1) f fd ps sp:=by
 obtain⟨m,p,kV,i,l,o,cdv,r,j,rfl,e,d⟩:=F.ex;refine Dm e d S len λA outer s H vs Q E g b=>?_;obtain⟨t,h,q⟩:=a cdv A outer s H vs Q E g b;exact⟨t,h.nox,q⟩
theorem iL.binds {f:Addr}{fd:FuncData}{ps:List Str}(F:iL K x qual st f fd)(h:∀(kV doc pm:Value) (an:Option Addr) (cdv ct:Value) (us:List Value),us.length=ps.length->bindArgs (W.fnOf x qual (ie st) (gC st) (eB st) .none kV doc pm an cdv ct) ⟨us,[]⟩=pure (ps.zip us)):iC K fd ps []:=by
 obtain⟨g,d,kV,doc,pm,an,cdv,ct,b,rfl,e,a⟩:=F.ex;exact .all (h kV doc pm an cdv ct)
theorem nn {f:Addr}{oc:Value}{od an:Option Addr}{osl:Array (Option Value)}{kV doc pm cdv ct:Value}(l:K.lookup f=some ⟨oc,od,.func (W.fnOf x qual (ie st) (gC st) (eB st) .none kV doc pm an cdv ct),osl⟩)(c:W.codeIn K cdv qual=true)(k:W.keepIn K (.ref f)=true):iL K x qual st f (W.fnOf x qual (ie st) (gC st) (eB st) .none kV doc pm an cdv ct):=⟨⟨oc,od,kV,doc,pm,an,cdv,ct,osl,rfl,l,c⟩,k⟩
end
theorem gB {A:Around}{k:Nat}(hr:gK k A):A.units+1<cLine:=bI (Nat.add_le_add_left (by decide:1<=64) _) hr.units
theorem eO {n:Nat}(h:n<=1000):n<sizeLine:=bI h (by decide)
theorem tH:0<=sizeLine:=by decide
theorem Jw:1<=sizeLine:=by decide
theorem tG:2<=sizeLine:=by decide
theorem Ff:3<=sizeLine:=by decide
theorem Fl:4<=sizeLine:=by decide
theorem Jv:6<=sizeLine:=by decide
theorem HG:10<=sizeLine:=by decide
section
variable {X:Cx}
theorem pv (i:Nat){pos:Pos}(hN:X.N[i]?=some x:=by rfl)(hv:CO X.env.scope x:=by first | exact Or.inl rfl | exact Or.inr (Or.inl rfl) | exact Or.inr (Or.inr rfl))(hd:(x == ("__debug__":Str))=false:=by decide)(hcd:(x == ("__classdict__":Str))=false:=by decide):PE X (.Name x pos) (nQ i):=zA hN hv hd hcd
end
theorem ff (h:B):if false=true then A else B:=by
 rw[av aN];exact h
theorem gW (h:A):if true=true then A else B:=by
 rw[ax rfl];exact h
theorem jO {c:Prop} [Decidable c] (a:c->A)(b:¬c->B):if c then A else B:=by
 by_cases h:c
 ·rw[ax h];exact a h
 ·rw[av h];exact b h
def eF (H H':Hp):Prop:=∀b o,H b=some o->H' b=some o
theorem eF.refl (H:Hp):eF H H:=λ_ _ h=>h
theorem eF.trans {H1 H2:Hp}(a:eF H H1)(b:eF H1 H2):eF H H2:=λc o h=>b c o (a c o h)
theorem eF.free {H':Hp}(e:eF H H'){l:Addr}(h:H' l=Option.none):H l=Option.none:=by
 cases q:H l with
 |none=>rfl
 |some o=>
  rw[e l o q]at h;cases h
theorem eF.seq {K:W.Frag}{H':Hp}{a:Addr}{xs:List V}(e:eF H H')(h:eX K H a xs):eX K H' a xs:=by
 rcases h with (h | ⟨o,h⟩) | h
 ·exact .inl (.inl (e _ _ h))
 ·exact .inl (.inr ⟨o,e _ _ h⟩)
 ·exact .inr h
section
variable {κ:Type} [DecidableEq κ]
theorem iP {kvs:List (κ×V)}{k:κ}{v:V}(h:eV kvs k=some v):k∈kvs.map (·.1):=by
 have q:(kvs.any λa=>decide (a.1=k))=true:=by
  rw[i5,h]
  all_goals rfl
 obtain⟨p,hp,e⟩:=dD.mp q;exact aw.mpr ⟨p,hp,aV e⟩
theorem ol:∀{l:List κ} {k:κ},l.Nodup->¬k∈l->(l++[k]).Nodup
 |[],k,_,_=>by simp
 |a::r,k,h,hk=>by
  obtain⟨h1,h2⟩:=aY.mp h;show(a::(r++[k])).Nodup;refine aY.mpr ⟨λm=>?_,ol h2 λm=>hk (am.mpr (Or.inr m))⟩;rcases aD.mp m with q | q
  ·exact h1 q
  ·exact hk (am.mpr (Or.inl (aj.mp q).symm))
end
end L2
set_option maxHeartbeats 4000000
namespace L2
open PySem PySem.Spec PyProof.Rows
variable {A:Around}{E Q:Value->Shared->Prop}{H H':Hp}{K:W.Frag}{N':List Str}{P:Program}{X:Cx}{a d:Addr}{e:Expr}{es:Array DictEntry}{g:TG}{h:Heap}{i j:Nat}{ks:List fV}{kvs:List (fV×V)}{p pos:Pos}{pins:List (Addr×Obj)}{s:Shared}{scope:Scope}{te:TE}{tt:TT}{v:Value}{w:World}{x:Str}{xs:List (fV×Value×Value)}{y:V}{σ:St}
mutual
inductive qT (H:Hp):V->PyData->Prop
 |non:qT H .non .none
 |bl (b:Bool):qT H (.bl b) (.bool b)
 |int (i:Int):qT H (.int i) (.int i)
 |str (x:Str):qT H (.str x) (.str x)
 |lst {a:Addr} {xs:List V} {ds:List PyData}:H a=some (.lst xs)->nU H xs ds->qT H (.ref a) (.list ds)
 |tup {a:Addr} {xs:List V} {ds:List PyData}:H a=some (.tup xs)->nU H xs ds->qT H (.ref a) (.tuple ds)
inductive nU (H:Hp):List V->List PyData->Prop
 |nil:nU H [] []
 |cons {v:V} {d:PyData} {vs:List V} {ds:List PyData}:qT H v d->nU H vs ds->nU H (v::vs) (d::ds)
end
mutual
theorem qT.reads (I:eT X pins σ H s):∀{v:V} {d:PyData} {u:Value},qT H v d->eZ v u->∃as,Reads s.heap u d as
 |_,_,u,.non,r=>by cases (show u=Value.none from r);exact⟨_,.none⟩
 |_,_,u,.bl b,r=>by cases (show u=Value.bool b from r);exact⟨_,.bool b⟩
 |_,_,u,.int i,r=>by obtain⟨t,e⟩:=(show ∃t,u=Value.int i t from r);subst e;exact⟨_,.int i t⟩
 |_,_,u,.str x,r=>by obtain⟨t,e⟩:=(show ∃t,u=Value.str x t from r);subst e;exact⟨_,.str x t⟩
 |_,_,u,.lst (a:=a) (xs:=xs) h q,r=>by
  cases (show u=Value.ref a from r);obtain⟨z,its,n,rv,e⟩:=(show fR X.prog X.w H s.heap a (.lst xs) from I.hok a _ h);obtain⟨as,k⟩:=nU.readsAll I q rv;exact⟨_,.list e rfl rfl (by simpa using k)⟩
 |_,_,u,.tup (a:=a) (xs:=xs) h q,r=>by
  cases (show u=Value.ref a from r);obtain⟨z,its,rv,o,e,c,n,dd⟩:=(show fR X.prog X.w H s.heap a (.tup xs) from I.hok a _ h);obtain⟨as,k⟩:=nU.readsAll I q rv;exact⟨_,.tuple e c dd (by simpa using k)⟩
theorem nU.readsAll (I:eT X pins σ H s):∀{vs:List V} {ds:List PyData} {us:List Value},nU H vs ds->fU vs us->∃as,ReadsAll s.heap us ds as
 |_,_,_,.nil,.nil=>⟨_,.nil⟩
 |_,_,_,.cons r t,.cons h k=>by
  obtain⟨as,e⟩:=qT.reads I r h;obtain⟨bs,f⟩:=nU.readsAll I t k;exact⟨_,.cons e f⟩
end
inductive Hj (x:V)(y:V)(H:Hp)(Q:VK):Prop
 |mk (d e:_)(_:qT H x d)(_:qT H y e)(_:SeqAt.shaped d=true)(_:SeqAt.shaped e=true)(_:Q (.bl (PyData.eqv d e)) H)
def Iq:R2:=λx y H Q=>Hj x y H Q
inductive Hf (x:V)(y:V)(H:Hp)(Q:VK):Prop
 |mk (d e:_)(_:qT H x d)(_:qT H y e)(_:SeqAt.shaped d=true)(_:SeqAt.shaped e=true)(_:Q (.bl (!PyData.eqv d e)) H)
def Ip:R2:=λx y H Q=>Hf x y H Q
theorem D2 (i:X.A.units+64<cLine):nF X (compareOp .Eq) Iq:=by
 intro a s σ H x y u v Q I j m h;obtain⟨d,e,r,g,l,p,q⟩:=h;obtain⟨t,b⟩:=r.reads I j;obtain⟨bs,o⟩:=g.reads I m;exact eq_dataH b o l p i ⟨.bl _,H,I,rfl,q⟩
theorem zQ (i:X.A.units+64<cLine):nF X (compareOp .NotEq) Ip:=by
 intro a s σ H x y u v Q I j m h;obtain⟨d,e,r,g,l,p,q⟩:=h;obtain⟨t,b⟩:=r.reads I j;obtain⟨bs,o⟩:=g.reads I m;exact ne_dataH b o l p i ⟨.bl _,H,I,rfl,q⟩
inductive Hi (neg:Bool)(x:V)(y:V)(H:Hp)(Q:VK):Prop
 |mk (d es:_)(_:qT H x d)(_:qT H y (.list es))(_:d.canLay0=true)(_:PyData.canLayAll0 es=true)(_:d.depth<=60)(_:Q (.bl (if neg then !(es.any λz=>PyData.eqv z d) else es.any λz=>PyData.eqv z d)) H)
def FY (neg:Bool):R2:=λx y H Q=>Hi neg x y H Q
theorem u6 (t:X.A.units+64<cLine):nF X (compareOp .In) (FY false):=by
 intro a s σ H x y u v Q I i l h;obtain⟨d,g,p,e,j,o,w,q⟩:=h;obtain⟨r,b⟩:=p.reads I i;obtain⟨bs,m⟩:=e.reads I l;refine SeqAt.in_list_reads m b o j ?_ ⟨.bl _,H,I,rfl,q⟩;have:=Nat.min_le_right (PyData.depthAll g) d.depth
 lia
theorem mX (t:X.A.units+64<cLine):nF X (compareOp .NotIn) (FY true):=by
 intro a s σ H x y u v Q I i l h;obtain⟨d,g,p,e,j,o,w,q⟩:=h;obtain⟨r,b⟩:=p.reads I i;obtain⟨bs,m⟩:=e.reads I l;refine SeqAt.notIn_list_reads m b o j ?_ ⟨.bl _,H,I,rfl,q⟩;have:=Nat.min_le_right (PyData.depthAll g) d.depth
 lia
theorem fR.some {o:HO}(x:fR P w H h a o):∃ob,h.get? a=Option.some ob:=by
 cases o with
 |lst xs=>obtain⟨_,_,_,_,e⟩:=x;exact⟨_,e⟩
 |tup xs=>obtain⟨_,_,_,o,e,_⟩:=x;exact⟨o,e⟩
 |dK kvs=>obtain⟨_,_,_,_,o,_,_,e,_⟩:=x;exact⟨o,e⟩
 |dT kvs=>obtain⟨_,_,_,_,o,_,_,e,_⟩:=x;exact⟨o,e⟩
 |dN kvs=>obtain⟨_,_,_,_,o,_,_,e,_⟩:=x;exact⟨o,e⟩
 |set S n=>obtain⟨o,_,_,_,e,_⟩:=x;exact⟨o,e⟩
 |ins C dx fs=>obtain⟨_,_,_,e,_⟩:=x;exact⟨_,e⟩
 |own y=>exact x
 |xd fs=>obtain⟨_,⟨o,_,_,e,_⟩,_⟩:=x;exact⟨o,e⟩
 |rng lo hi=>obtain⟨_,_,_,e⟩:=x;exact⟨_,e⟩
 |frz ob u=>exact⟨_,x.1⟩
 |tbl ps=>exact⟨_,x⟩
 |met f y=>exact⟨_,x⟩
 |ext φ=>exact x.2.1
section
variable {x:Addr}{cls:Value}{M:Model}
theorem eT.Kp {b:Addr}(I:eT X pins σ H s)(a:s.heap.get? b=none)(hn:H' b=none):jP X pins H' b:=by
 refine⟨hn,λz=>?_,λz=>?_,?_,λy c e z=>?_,λp hp z=>?_⟩
 ·obtain⟨m,⟨o,_,_,d,_⟩,_⟩:=I.loc;rw[z,d]at a;cases a
 ·obtain⟨_,o,d,_⟩:=I.funs.mem z;rw[d]at a;cases a
 ·by_cases hx:b∈X.ex
  ·exact .inl hx
  ·refine .inr ?_;cases e:X.s₀.heap.get? b with
   |none=>rfl
   |some o=>
    obtain⟨h,g⟩:=I.base.there b o e hx;rw[g]at a;cases a
 ·obtain⟨v,o,d,_⟩:=I.cell y c e;rw[z,a]at d;cases d
 ·have q:=(I.pin p hp).1;rw[z,a]at q;cases q
end
section
variable {s':Shared}{e:Value}{E:XK}
end
section
variable {mg:Str->Option Value}{base:Heap}
end
section
variable {np cpos:Pos}{a:Expr}{t:TA}{C:Addr}{bmB:List Value}{B newId initId:String}{W:List (Addr×Obj)->St->Value->Hp->Prop}
end
section
variable {pins':List (Addr×Obj)}{A':Around}{c':Bool}{E':Value->Shared->Prop}{pn':List (Addr×Obj)}
end
section
variable {CX:uC}{k:Nat}{f:Addr}{fd:FuncData}{ps:List Str}{sp:Sp}{EX:St->XK}{es:List Expr}{t:TA}
end
abbrev tD (X:Cx)(N':List Str)(scope:Scope)(cl:List (Str×Addr))(C:Addr)(s₂:Shared)(H₂:Hp)(fp:List Addr):Cx:=
 {X with N:=N',s₀:=s₂,H₀:=H₂,env:=compEnvC scope cl C X.env,outer:=X.stack,ex:=fp,fn:=λ_=>false,pn:=[],xe:=λ_ _=>False}
def GK (n:Nat)(g:TG):Prop:=∀v σ H Q,g v σ H Q->g v σ H λσ2 H2=>Q σ2 H2/\σ2.length=σ.length/\∀i,n<=i->σ2[i]?=σ[i]?
def HF (n:Nat)(g:xh):Prop:=∀v σ H Q,g v σ H Q->g v σ H λσ2 H2=>Q σ2 H2/\σ2.length=σ.length/\∀i,n<=i->σ2[i]?=σ[i]?
theorem ip {n:Nat}(h:i<n):GK n (jq i):=λv σ H Q q=>by
 refine⟨q,by simp,λj hj=>?_⟩;rw[List.getElem?_set_ne (by lia)]
theorem Cw {n:Nat}:HF n Ex:=(by rintro v σ H Q ⟨e,q⟩;exact⟨e,q,rfl,λ_ _=>rfl⟩)
def GM (g:TG):Prop:=∀v σ H (Q Q':St->Hp->Prop),(∀a b,Q a b->Q' a b)->g v σ H Q->g v σ H Q'
def HE (g:xh):Prop:=∀v σ H (Q Q':St->Hp->Prop),(∀a b,Q a b->Q' a b)->g v σ H Q->g v σ H Q'
theorem sy:GM (jq i):=λ_ _ _ _ _ h q=>h _ _ q
theorem wK:HE Ex:=(by rintro _ _ _ _ _ h ⟨e,q⟩;exact⟨e,h _ _ q⟩)
theorem AB {t:TG}{u:xh}(ht:GM t)(hu:HE u):HE (AD t u):=(by rintro v σ H Q Q' h ⟨x,r,e,q⟩;exact⟨x,r,e,ht _ _ _ _ _ (λa b z=>hu _ _ _ _ _ h z) q⟩)
theorem ue {n:Nat}{t:TG}{u:xh}(ht:GK n t)(mt:GM t)(hu:HF n u)(mu:HE u):HF n (AD t u):=λv σ H Q ⟨x,r,e,q⟩=>by
 refine⟨x,r,e,mt _ _ _ _ _ (λa b z=>?_) (ht _ _ _ _ q)⟩;obtain⟨z1,z2,z3⟩:=z;refine mu _ _ _ _ _ (λc d y=>?_) (hu _ _ _ _ z1);exact⟨y.1,y.2.1.trans z2,λi hi=>(y.2.2 i hi).trans (z3 i hi)⟩
theorem Ew {n m:Nat}{t:xh}(h:HF n t):GK n (Gs K m t):=(by rintro v σ H Q ⟨a,xs,e,s,l,q⟩;exact⟨a,xs,e,s,l,h _ _ _ _ q⟩)
def GF (X:Cx)(ifs:List Expr)(t:TT):Prop:=
 ∀(pins:List (Addr×Obj)) (s:Shared) (σ:St) (H:Hp) (Q:Bool->Hp->Prop),eT X pins σ H s->t σ H Q->
  wpAny (model X.prog X.w) X.A (forIn ifs true λc r=>if r=true then do let ok <-isTrue c X.env (eval c X.env);pure (ForInStep.yield ok) else pure (ForInStep.yield r)) (TP X pins σ Q) X.xe s
def qb:TT:=λ_ H Q=>Q true H
theorem jw:GF X [] qb:=λpins s σ H Q I h=>wpAny_tests_nil ⟨H,I,h⟩
theorem oh {c:Expr}{t:TT}(h:PT X c t):GF X [c] t:=λpins s σ H Q I q=>wpAny_tests_one (h pins s σ H Q I q)
def p7 (J:It)(g:TG)(tt:TT)(te:TE)(σ':St)(H1:Hp)(Q:VK):Prop:=∀D,H1 D=none->∃W:Nat->Nat->List V->Hp->Prop,(∃m,W 0 m [] (upd H1 D (.lst [])))/\∀i m ys H,W i m ys H->H D=some (.lst ys)/\ys.length<sizeLine/\
 ((J.stop i H/\Q (.ref D) H)\/(J.go i H/\∃N:List V->Hp->Prop,(∀zs H',N zs H'->∃m',m'<m/\W (i+1) m' zs H')/\∀x H2,J.yld i H x H2->g x σ' H2 λσ2 H3=>tt σ2 H3 λb H4=>if b=true then te σ2 H4 λy H5=>H5 D=some (.lst ys)/\N (ys++[y]) (upd H5 D (.lst (ys++[y]))) else N ys H4))
theorem ik {xs:List V}{σ':St}{H1:Hp}{Q:VK}(d:Addr->Nat->List V->Hp->Prop)(o:∀D,H1 D=none->d D 0 [] (upd H1 D (.lst [])))(l:∀D i ys H,i<=xs.length->d D i ys H->eX K H a xs/\H D=some (.lst ys)/\ys.length<sizeLine)(hs:∀D i x ys H,xs[i]?=some x->d D i ys H->g x σ' H λσ2 H3=>tt σ2 H3 λb H4=>if b=true then te σ2 H4 λy H5=>H5 D=some (.lst ys)/\d D (i+1) (ys++[y]) (upd H5 D (.lst (ys++[y]))) else d D (i+1) ys H4)(j:∀D ys H,d D xs.length ys H->Q (.ref D) H):p7 (EU K a) g tt te σ' H1 Q:=by
 intro D r;refine⟨λi m ys H=>m=xs.length-i/\i<=xs.length/\d D i ys H,⟨xs.length,by simp,bo _,o D r⟩,?_⟩;rintro i m ys H ⟨rfl,q,p⟩;obtain⟨h,w,v⟩:=l D i ys H q p;refine⟨w,v,?_⟩;by_cases hlt:i<xs.length
 ·refine .inr ⟨⟨xs,xs[i],h,by simp[hlt]⟩,d D (i+1),λz t s=>⟨xs.length-(i+1),by lia,rfl,hlt,s⟩,λx t y=>?_⟩;obtain⟨e,y⟩:=y;subst e;exact hs D i x ys _ (y xs h) p
 ·have e:i=xs.length:=by lia
  subst e;exact .inl ⟨⟨xs,h,ao _⟩,j D ys H p⟩
theorem vH {lo:Int}{n:Nat}{σ':St}{H1:Hp}{Q:VK}(a:Addr->Nat->List V->Hp->Prop)(j:∀D,H1 D=none->a D 0 [] (upd H1 D (.lst [])))(h:∀D i ys H,i<=n->a D i ys H->H D=some (.lst ys)/\ys.length<sizeLine)(hs:∀D i ys H,i<n->a D i ys H->g (.int (lo+i)) σ' H λσ2 H3=>tt σ2 H3 λb H4=>if b=true then te σ2 H4 λy H5=>H5 D=some (.lst ys)/\a D (i+1) (ys++[y]) (upd H5 D (.lst (ys++[y]))) else a D (i+1) ys H4)(d:∀D ys H,a D n ys H->Q (.ref D) H):p7 (ET lo n) g tt te σ' H1 Q:=by
 intro D o;refine⟨λi m ys H=>m=n-i/\i<=n/\a D i ys H,⟨n,by simp,bo _,j D o⟩,?_⟩;rintro i m ys H ⟨rfl,l,p⟩;obtain⟨t,s⟩:=h D i ys H l p;refine⟨t,s,?_⟩;by_cases hlt:i<n
 ·refine .inr ⟨hlt,a D (i+1),λv r q=>⟨n-(i+1),by lia,rfl,hlt,q⟩,λx r y=>?_⟩;obtain⟨e,y⟩:=y;subst e y;exact hs D i ys _ hlt p
 ·have e:i=n:=by lia
  subst e;exact .inl ⟨ao _,d D ys H p⟩
structure iG (X:Cx)(N':List Str)(scope:Scope)(cl:List (Str×Addr))(n:Nat)(js:List Nat):Prop where
 clos:closureFor scope X.env=pure cl
 cell:∀y∈scope.names,y.2≠.cell
 kind:scope.kind=.function
 names:∀y∈scope.names,y.2=.local->scope.names.lookup y.1=some .local
 sub:∀y c,cl.lookup y=some c->X.env.cells.lookup y=some c
 has:∀y,((relabel scope X.env).names.lookup y=some .cell\/(relabel scope X.env).names.lookup y=some .free)->∃c,cl.lookup y=some c
 len:N'.length=n+js.length
 frees:∀(k j:Nat),js[k]?=some j->∃y,N'[n+k]?=some y/\X.N[j]?=some y/\(X.env.kindOf y=some .cell\/X.env.kindOf y=some .free)/\
  ((relabel scope X.env).names.lookup y=some .cell\/(relabel scope X.env).names.lookup y=some .free)/\cl.lookup y=X.env.cells.lookup y
theorem qf {env:Env}(h:∀y∈scope.names,y.2≠.free):(relabel scope env).names=scope.names:=by
 show scope.names.map _=scope.names;refine map_eq_self λy b=>?_;obtain⟨a,k⟩:=y;have e:(k == NameKind.free)=false:=by simpa using h _ b
 simp[e]
theorem iG.closed {n:Nat}(hf:∀y∈scope.names,y.2≠.free:=by decide +kernel)(hc:∀y∈scope.names,y.2≠.cell:=by decide +kernel)(hk:scope.kind=.function:=by rfl)(hn:∀y∈scope.names,y.2=.local->scope.names.lookup y.1=some .local:=by decide +kernel)(hl:N'.length=n:=by rfl):iG X N' scope [] n [] where
 clos:=closureFor_none hf
 cell:=hc
 kind:=hk
 names:=hn
 sub:=λy c e=>by simp at e
 has:=λy h=>by
  rw[qf hf]at h;rcases h with h | h
  ·exact absurd rfl (hc _ (bB h))
  ·exact absurd rfl (hf _ (bB h))
 len:=by simpa using hl
 frees:=λk j e=>by simp at e
theorem iG.one {y:Str}{c:Addr}{n:Nat}(h1:closureFor scope X.env=pure [(y,c)]:=by rfl)(h2:X.env.cells.lookup y=some c:=by rfl)(hc:∀z∈scope.names,z.2≠.cell:=by decide +kernel)(hk:scope.kind=.function:=by rfl)(hn:∀z∈scope.names,z.2=.local->scope.names.lookup z.1=some .local:=by decide +kernel)(ho:∀z∈scope.names,z.2=.free->z.1=y:=by decide +kernel)(hN:N'[n]?=some y:=by rfl)(hl:N'.length=n+1:=by rfl)(hj:X.N[j]?=some y:=by rfl)(hy:X.env.kindOf y=some .cell:=by rfl)(hr:(relabel scope X.env).names.lookup y=some .cell:=by rfl):iG X N' scope [(y,c)] n [j] where
 clos:=h1
 cell:=hc
 kind:=hk
 names:=hn
 sub:=λz d e=>by
  by_cases q:z=y
  ·subst q;rw[be,beq_self_eq_true]at e;rw[h2];exact e
  ·have b:(z == y)=false:=beq_false_of_ne q;rw[be,b]at e;simp at e
 has:=λz h=>by
  have l:∃k,(k=NameKind.cell\/k=NameKind.free)/\(z,k)∈(relabel scope X.env).names:=by
   rcases h with h | h
   ·exact⟨_,.inl rfl,bB h⟩
   ·exact⟨_,.inr rfl,bB h⟩
  obtain⟨k,g,s⟩:=l;obtain⟨⟨a,o⟩,r,e⟩:=aw.mp (show(z,k)∈scope.names.map _ from s);have w:z=y:=by
   by_cases hfree:o=.free
   ·have v:z=a:=by
     dsimp only at e
     split at e
     ·exact(Prod.mk.inj e).1.symm
     ·exact(Prod.mk.inj e).1.symm
    rw[v];exact ho _ r hfree
   ·have b:(o == NameKind.free)=false:=by simpa using hfree
    simp only[b,bU,cb,if_false]at e;have p:=(Prod.mk.inj e).2;rcases g with q | q
    ·exact absurd (p.trans q) (hc _ r)
    ·exact absurd (p.trans q) hfree
  subst w;exact⟨c,by rw[be,beq_self_eq_true]⟩
 len:=by simpa using hl
 frees:=λk i e=>by
  have m:k=0:=by
   cases k with
   |zero=>rfl
   |succ k=>simp at e
  subst m;have t:j=i:=by simpa using e
  subst t;exact⟨y,hN,hj,.inl hy,.inl hr,by rw[h2,be,beq_self_eq_true]⟩
def frees (n:Nat)(js:List Nat)(σ:St):St:=List.replicate n none++js.map λj=>σ.getD j none
section
variable {s₂:Shared}{H₂:Hp}{elt iter target:Expr}{ifs:List Expr}{cl:List (Str×Addr)}{n:Nat}{js:List Nat}
theorem pR {J:It}{fp:List Addr}{it:Addr}{tn:Nat->Heap->Prop}{RR:Value->Addr->Result->Shared->Prop}{Q:VK}(hc:X.calm=true)(S:iG X N' scope cl n js)(gk:GK n g)(hg:∀C s₂ H₂ fp,PG (tD X N' scope cl C s₂ H₂ fp) target g)(ht:∀C s₂ H₂ fp,GF (tD X N' scope cl C s₂ H₂ fp) ifs tt)(he:∀C s₂ H₂ fp,PE (tD X N' scope cl C s₂ H₂ fp) elt te)(I:eT X pins σ H₂ s₂)(T:qp X.prog X.w X.K target J fp it tn)(st:tn 0 s₂.heap)(B:∀b∈fp,jP X pins H₂ b)(R:p7 J g tt te (frees n js σ) H₂ Q)(bd:∀D C s' H',eT X pins σ H' s'->(∃m,s'.heap.Ns C m)->jP X pins H' C->Q (.ref D) H'->RR (.ref D) C (.ok .next) s'):wpAny (model X.prog X.w) X.A (newList []) (λacc s₃=>wpAny (model X.prog X.w) X.A (newFunctionEnv scope X.env.globals cl [] X.env.qual none .none (some X.env)) (λcenv s₄=>codeAny (model X.prog X.w) X.A (.compStart (.ListComp elt [⟨target,iter,ifs,0⟩] scope pos) 0 (.ref it) acc {cenv with scope:=relabel scope X.env}) (RR acc cenv.locals) s₄) E s₃) E s₂:=by
 refine dW (wpAny_newFunctionEnv S.cell (by intro y hy;simp at hy) (λU Z G=>?_) S.kind);dsimp only at Z G ⊢;generalize P:s₂.heap.push {cls:=.type "list",dict:=none,data:=.seq ([]:List Value).toArray}=h3 at Z G ⊢;generalize hD:s₂.heap.objs.size=D at *;generalize bv:h3.objs.size=C at *;have eC:C=D+1:=by rw[<-bv,<-P,dU,hD]
 have ap:D≠C:=by lia
 have Y:∀b o,s₂.heap.get? b=some o->b<D:=λb o e=>hD▸aS e;have old:∀b o,s₂.heap.get? b=some o->U.get? b=some o:=λb o e=>by
  have l:=Y b o e;refine G.extBut b o (aW (bg l (by lia))) (aA _ ?_)
  rw[<-P];exact aA _ e
 have ah:U.get? D=some {cls:=.type "list",data:=.seq ([]:List Value).toArray 0}:=by
  refine G.extBut D _ ap (aA _ ?_)
  rw[<-P,<-hD];exact aK _ rfl
 have b1:s₂.heap.get? D=none:=hD▸bi (ao _);have bl:s₂.heap.get? C=none:=bi (by lia);have as:H₂ D=none:=I.hok.fresh (by lia);have bm:H₂ C=none:=I.hok.fresh (by lia);have L:∀b∈fp,b<D:=λb a=>by
  obtain⟨o,e,_⟩:=T.obj 0 _ st b a;exact Y b o e
 obtain⟨W,⟨m0,w0⟩,a0⟩:=R D as;have F:(tD X N' scope cl C s₂ H₂ fp).Ok:=by
  refine⟨I.ok.mod,S.kind,I.ok.glob,I.ok.blt,?_,?_,λy hy=>S.has y hy,(λy c hf _=>by cases hf),I.ok.hd,I.ok.frames,.inl rfl,?_,I.bs,bz I.ok.bsz I.sz,?_,?_,I.stack,I.J9⟩
  ·show s₂.heap.objs.size<=C
   lia
  ·exact λy z c U h2=>I.ok.inj y z c (S.sub y c U) (S.sub z c h2)
  ·intro b a;refine⟨?_,λy c e=>(B b a).2.2.2.2.1 y c (S.sub y c e)⟩;exact aW (bg (L b a) (show D<=C by lia))
  ·intro b o e a;rcases (B b a).2.2.2.1 with z | z
   ·exact I.ok.noex b o e z
   ·rw[(I.ok.bs b o e).1]at z;cases z
  ·intro b a hz;rcases am.mp (I.J8 b hz) with z | z
   ·exact(B b a).2.1 z
   ·exact(B b a).2.2.1 z
 have I4:eT (tD X N' scope cl C s₂ H₂ fp) [] (frees n js σ) (upd H₂ D (.lst [])) {s₂ with heap:=U,toks:=s₂.toks+([]:List (Str×Value)).length}:=by
  refine⟨F,rfl,I.bare,?_,⟨_,Z,λi y v e1 t e3=>?_⟩,λy c e=>?_,?_,λy c e=>?_,λp hp=>absurd hp (by simp),?_,?_⟩
  ·exact Un.laid (λb u e=>old b u e) (cB hD) as
  ·have b2:n<=i:=by
    refine Nat.le_of_not_lt λhi=>?_;unfold frees at t;rw[aQ (by simpa using hi),List.getElem?_replicate]at t
    split at t <;> cases t
   obtain⟨k,rfl⟩:∃k,i=n+k:=⟨i-n,by lia⟩;unfold frees at t;rw[bb (by simp),List.length_replicate,Nat.add_sub_cancel_left,ae]at t
   cases ej:js[k]? with
   |none=>rw[ej]at t;cases t
   |some j=>
    rw[ej]at t;have h:σ.getD j none=some v:=Option.some.inj t;obtain⟨y',a1,a2,a3,a4,a5⟩:=S.frees k j ej;have ey:y'=y:=Option.some.inj (a1.symm.trans e1);subst ey;have e4:σ[j]?=some (some v):=by
     rw[bh]at h;cases q:σ[j]? with
     |none=>rw[q]at h;cases h
     |some z=>rw[q]at h;exact congrArg some h
    obtain⟨m,hm,hl⟩:=I.loc;have bq:CO X.env.scope y':=by
     rcases a3 with z | z
     ·exact .inr (.inl z)
     ·exact .inr (.inr z)
    obtain⟨u,ru,lk⟩:=hl j y' v a2 e4 bq;refine⟨u,ru,?_⟩;rcases lk with ⟨z,_⟩ | ⟨_,c,z1,o,z2,z3⟩
    ·rcases a3 with y | y <;> (rw[z]at y;cases y)
    ·exact .inr ⟨a4,c,a5.trans z1,o,old c o z2,z3⟩
  ·obtain⟨v,o,z1,z2⟩:=I.cell y c (S.sub y c e);exact⟨v,o,old c o z1,z2⟩
  ·show upd H₂ D _ C=none;rw[ef (Ne.symm ap)];exact bm
  ·obtain⟨v,o,z1,z2⟩:=I.cell y c (S.sub y c e);have l:=Y c o z1;rw[ef (aW l)];exact I.freeC y c (S.sub y c e)
  ·exact I.hok.laid old (cB hD) ⟨bo _,[],0,.nil,ah⟩
  ·unfold frees;show _=N'.length;rw[S.len,aF,List.length_replicate,ab]
 have fY:∀{H':Hp},(∀b∈fp,H' b=none)->∀b∈fp,jP (tD X N' scope cl C s₂ H₂ fp) [] H' b:=λhn b a=>by
  refine⟨hn b a,(F.exf b a).1,F.exfs b a,.inl a,(F.exf b a).2,λp hp=>absurd hp (by simp)⟩
 have ad:tn 0 U:=T.keep _ _ _ st λb a o e=>old b o e;have bx:∀b∈fp,upd H₂ D (.lst []) b=none:=λb a=>by
  rw[ef (aW (L b a))];exact(B b a).1
 have M:∀s3:Shared,s3={s₂ with heap:=U,toks:=s₂.toks+([]:List (Str×Value)).length}->
   codeAny (model X.prog X.w) X.A (.compLoop (.ListComp elt [⟨target,iter,ifs,0⟩] scope pos) 0 (.ref it) (.ref D) (compEnvC scope cl C X.env)) (RR (.ref D) C) s3:=by
  rintro s3 rfl;refine codeAny_loop rfl (λk s'=>∃i ys H',eT (tD X N' scope cl C s₂ H₂ fp) [] (frees n js σ) H' s'/\tn i s'.heap/\(∀b∈fp,H' b=none)/\W i k ys H') (λk s5 hI=>?_) m0 ⟨0,[],_,I4,ad,bx,w0⟩;obtain⟨i,ys,H5,I5,aa,an,w5⟩:=hI;obtain⟨b3,a7,ba⟩:=a0 i k ys H5 w5;show wpAny _ X.A ((compTurn (.ListComp elt [⟨target,iter,ifs,0⟩] scope pos) 0 (.ref it) (.ref D) (compEnvC scope cl C X.env)).onRaise (λx=>do noteFrame x (compEnvC scope cl C X.env);theTreesLotGoes x)) _ _ s5;refine wpAny_noted ?_;rw[compTurn_list];refine ac (wpAny_standAt ?_);rcases ba with ⟨stop,q⟩ | ⟨go,NN,a8,step⟩
  ·refine ac (fW (T.done (tD X N' scope cl C s₂ H₂ fp) rfl rfl rfl hc i [] s5 _ H5 _ I5 (fY an) aa stop) λr s6 hr=>?_);obtain⟨rfl,I6⟩:=hr;refine ar (bd D C s6 H5 ?_ ?_ ?_ q)
   ·exact I.Kb (ch:=fp) I6.os I6.base I6.hok I6.bare λb a=>⟨(B b a).2.2.2.1,(B b a).2.1,(B b a).2.2.2.2.1,(B b a).2.2.2.2.2⟩
   ·obtain⟨m,hm,_⟩:=I6.loc;exact⟨m,hm⟩
   ·exact I.Kp bl I6.free
  ·refine ac (fW (T.item (tD X N' scope cl C s₂ H₂ fp) rfl rfl rfl hc i [] s5 _ H5 _ I5 (fY an) aa go) λr s6 hr=>?_);obtain⟨u,rfl,h6⟩:=hr;refine ac (fW h6 λ_ s7 h7=>?_);obtain⟨x,H7,I7,r7,y7,O,bf⟩:=h7;have a6:=I7.pinned (fY bf) (T.obj _ _ O);have al:∀{σ8:St} {N:Hp} {s8:Shared} {zs:List V},eT (tD X N' scope cl C s₂ H₂ fp) ([]++pj fp s7.heap) σ8 N s8->(σ8.length=(frees n js σ).length/\∀i,n<=i->σ8[i]?=(frees n js σ)[i]?)->NN zs N->
     ∃m,m<k/\∃i ys H',eT (tD X N' scope cl C s₂ H₂ fp) [] (frees n js σ) H' s8/\tn i s8.heap/\(∀b∈fp,H' b=none)/\W i m ys H':=λ{σ8 N s8 zs} I8 ag n8=>by
    obtain⟨m',hm,w8⟩:=a8 zs N n8;refine⟨m',hm,i+1,zs,N,?_,T.keep _ _ _ O λb a o e=>(I8.pin (b,o) (aO _ (aO _ (kJ a e)))).1,λb a=>?_,w8⟩
    ·refine(I8.Ki).weak ag.1.symm λj v e=>?_;by_cases hj:n<=j
     ·rw[ag.2 j hj];exact e
     ·unfold frees at e;rw[aQ (by simpa using hj),List.getElem?_replicate]at e
      split at e <;> cases e
    ·obtain⟨o,e,d⟩:=T.obj _ _ O b a;exact(I8.pin (b,o) (aO _ (aO _ (kJ a e)))).2.1
   refine ac (bS (hg C s₂ H₂ fp _ s7 _ H7 x u _ a6 r7 (gk _ _ _ _ (step x H7 y7))) (λ_ s8 h8=>?_) λ_ _ z=>z.elim);obtain⟨σ8,N,I8,q8,ag⟩:=h8;refine ac (bS (ht C s₂ H₂ fp _ s8 σ8 N _ I8 q8) (λok s9 h9=>?_) λ_ _ z=>z.elim);obtain⟨H9,I9,q9⟩:=h9;cases ok with
   |false=>
    rw[av (by decide)]at q9;exact ar ⟨rfl,al I9 ag q9⟩
   |true=>
    rw[ax rfl]at q9;refine ac (ac (bS (he C s₂ H₂ fp _ s9 σ8 H9 _ I9 q9) (λy sa ha=>?_) λ_ _ z=>z.elim));obtain⟨yv,Ha,Ia,ra,a9,wa⟩:=ha;refine ac (bS (gR (X:=tD X N' scope cl C s₂ H₂ fp) _ sa σ8 Ha (.ref D) [yv] (.ref D) [y] (λv H'=>v=.non/\H'=upd Ha D (.lst (ys++[yv]))) Ia rfl (.cons ra .nil) ⟨D,ys,yv,rfl,rfl,a9,a7,rfl,rfl⟩) (λv sb a=>?_) λ_ _ z=>z.elim);obtain⟨v',Hb,Ib,rb,_,rfl⟩:=a;exact ar (ar ⟨rfl,al Ib ag wa⟩)
 exact codeAny_compStart_list (M _ rfl) (T.self X.A 0 _ _ _ ad (M _ rfl))
end
section
variable {elt iter target:Expr}{ifs:List Expr}{cl:List (Str×Addr)}{n:Nat}{js:List Nat}{wi:TI}
def Fz (wi:TI)(g:TG)(tt:TT)(te:TE)(n:Nat)(js:List Nat):TE:=λσ H Q=>wi σ H λJ H1=>p7 J g tt te (frees n js σ) H1 Q
theorem iQ (L:X.calm=true)(S:iG X N' scope cl n js)(w:GK n g)(B:PI X target iter wi)(t:∀C s₂ H₂ fp,PG (tD X N' scope cl C s₂ H₂ fp) target g)(p:∀C s₂ H₂ fp,GF (tD X N' scope cl C s₂ H₂ fp) ifs tt)(F:∀C s₂ H₂ fp,PE (tD X N' scope cl C s₂ H₂ fp) elt te)(hs:∀x,foldedSetIterable iter X.env x=pure x:=by intro _;rfl):PE X (.ListComp elt [⟨target,iter,ifs,0⟩] scope pos) (Fz wi g tt te n js):=by
 intro a s σ H Q I h;rw[eval_ListComp];refine wpAny_comprehension_free (use:=none) rfl hs S.clos S.kind S.names (fW (B a s σ H _ I h) λv O y=>fW y λi N l=>?_);obtain⟨U,fp,Y,J,P,rfl,A,T,d,E,R⟩:=l;refine pR L S w t p F A T d E R λD C j G z hn f q=>?_;obtain⟨m,hn⟩:=hn;refine⟨m,hn,λM K=>⟨.ref D,G,?_,rfl,q⟩⟩;exact z.turned (t':=j.toks) (λb o r e=>(K.2 b r).trans e) f.1 f.2.1 f.2.2.2.1 f.2.2.2.2.1 f.2.2.2.2.2
def FA (i:Nat)(wi:TI)(g:TG)(tt:TT)(te:TE)(n:Nat)(js:List Nat):TS:=λD σ H=>wi σ H λJ H1=>p7 J g tt te (frees n js σ) H1 λv H'=>D.nx (σ.set i (some v)) H'
theorem BL {pos' spos:Pos}(hc:X.calm=true)(S:iG X N' scope cl n js)(M:GK n g)(hN:X.N.Nodup)(Z:X.N[i]?=some x)(B:X.env.scope.names.lookup x=some .local)(Y:PI X target iter wi)(L:∀C s₂ H₂ fp,PG (tD X N' scope cl C s₂ H₂ fp) target g)(G:∀C s₂ H₂ fp,GF (tD X N' scope cl C s₂ H₂ fp) ifs tt)(he:∀C s₂ H₂ fp,PE (tD X N' scope cl C s₂ H₂ fp) elt te)(hsw:swapsWith (.ListComp elt [⟨target,iter,ifs,0⟩] scope pos) (some (.Name x pos')) spos.line X.env=pure true:=by rfl)(hs:∀x,foldedSetIterable iter X.env x=pure x:=by intro _;rfl):PS X (.Assign [.Name x pos'] (.ListComp elt [⟨target,iter,ifs,0⟩] scope pos) spos) (FA i wi g tt te n js):=by
 intro d s σ H D I h;rw[exec_Assign_Name_used _ _ _ _ hsw];refine ac (wpAny_standAt (ac ?_));show wpAny _ X.A (do let _ <-comprehension (.ListComp elt [⟨target,iter,ifs,0⟩] scope pos) scope X.env _ (newList []) false (eval iter X.env) (some (assign (.Name x pos') X.env))) _ _ s;refine ac (bS (wpAny_comprehension_free (use:=some (assign (.Name x pos') X.env)) (Q:=λ_ j=>SP X d D .next j) rfl hs S.clos S.kind S.names (fW (Y d s σ H _ I h) λv s1 O=>fW O λE s2 F=>?_)) (λ_ j q=>ar (ar q)) λ_ _ e=>e);obtain⟨it,fp,tn,J,H2,rfl,U,T,l,f2,R⟩:=F;refine pR hc S M L G he U T l f2 R λy C j H' P hn f q=>?_;obtain⟨m,hn⟩:=hn;show wpAny _ X.A (assign (.Name x pos') X.env (.ref y)) _ _ j;refine wpAny_assign_Name (qw (v:=.ref y) P hN Z (.inl B) rfl (?_) (.inr B));rintro p t ⟨a,sb,ha⟩;have w:C≠a:=by
  rcases ha with z | z
  ·rw[z];exact f.2.1
  ·exact Ne.symm (f.2.2.2.2.1 _ _ z)
 refine⟨m,hn.sameBut sb w,λh' r=>⟨_,H',?_,q⟩⟩;exact t.turned (t':=p.toks) (λb o K e=>(r.2 b K).trans e) f.1 f.2.1 f.2.2.2.1 f.2.2.2.2.1 f.2.2.2.2.2
end
theorem gl:jv X (.builtin "isinstance") (λxs H Q=>∃(x:V) (T:String) (t:Value) (b:Bool),xs=[x,.ty T]/\jA X.K H x t/\W.kitOne X.K t (.type T)=some b/\Q (.bl b) H):=by
 intro a s σ H xs l Q I r h;obtain⟨x,T,t,b,rfl,ty,e,q⟩:=h;obtain⟨u,j,rfl,d,g⟩:=we r;cases (show j=Value.type T from g);exact yj I d ty e λi=>⟨.bl b,H,I.tok i,rfl,q⟩
theorem oO {vs:List Value}{out:Array Value}{ns':List Int}(I:eT X pins σ H s)(d:IntsAre out.toList ns')(a:ns'.length<=sizeLine):eT X pins σ (upd H (s.heap.objs.size+1) (.lst (ns'.map V.int))) {s with heap:=sortedAll s.heap vs out}:=by
 obtain⟨e,g⟩:=sortedAll_at s.heap vs out;refine I.laid (t':=s.toks) (λb u q=>sortedAll_old q) (dA _) ⟨by rw[ab];exact a,out.toList,e,mP d,?_⟩;rw[g]
theorem uu:jv X (.builtin "sorted") (λxs H Q=>∃(a:Addr) (ns:List Int),xs=[.ref a]/\eX X.K H a (ns.map V.int)/\ns.length<64/\∀(p:Addr) (ns':List Int),H p=none->ns'.Perm ns->ns'.Pairwise (·<=·)->Q (.ref p) (upd H p (.lst (ns'.map V.int)))):=by
 intro e s σ H xs x Q I r h;obtain⟨a,ns,rfl,o,d,q⟩:=h;obtain⟨u,rfl,j⟩:=jk r;cases (show u=Value.ref a from j);obtain⟨b,i,p,y⟩:=I.list o;have l:=pG i;have w:b.length=ns.length:=by rw[<-i.length,ab]
 refine sorted_ints p.isList l (by omega) λout ns' m g v=>?_;have t:=g.length_eq;refine⟨.ref (s.heap.objs.size+1),_,oO I m ?_,rfl,q _ ns' (I.hok.fresh (dA _)) g v⟩;rw[t];exact bz (cA d) (by decide)
def Dw (K:W.Frag)(te:TE):TE:=λσ H Q=>te σ H λx H1=>∃(a:Addr) (ns:List Int),x=.ref a/\eX K H1 a (ns.map V.int)/\ns.length<64/\∀(p:Addr) (ns':List Int),H1 p=none->ns'.Perm ns->ns'.Pairwise (· ≥ ·)->Q (.ref p) (upd H1 p (.lst (ns'.map V.int)))
theorem zB {kp cp:Pos}{k:Nat}(A:Gl X "sorted")(C:X.mg "sorted" = none)(F:PE X e te)(hs:starEach [e] X.env=[(false,eval e X.env)]:=by rfl):PE X (.Call (.Name "sorted" p) [e] [⟨some "reverse",.Constant (.bool true) k cp,kp⟩] pos) (Dw X.K te):=by
 intro g s σ H Q I h;refine bD (jI I A C boot_sorted ?_ (by decide) (by decide));refine callWith_kw ?_ (by rw[hs];rfl) (by rw[hs];rfl);have J:=(dZ F eg hs) pos g s σ H (λl i=>match l with | [x]=>(∃(a:Addr) (ns:List Int),x=.ref a/\eX X.K i a (ns.map V.int)/\ns.length<64/\∀(p:Addr) (d:List Int),i p=none->d.Perm ns->d.Pairwise (· ≥ ·)->Q (.ref p) (upd i p (.lst (d.map V.int)))) | _=>False) I h;refine fW J ?_;rintro M z ⟨l,i,j,r,v⟩
 match l,r,v with
 |[x],r,⟨a,ns,e2,hS,h64,q⟩=>
  subst e2;obtain⟨u,rfl,w⟩:=jk r;cases (show u=Value.ref a from w);refine kws_cons (Constant_bool (kws_nil ?_));obtain⟨m,t,y,N⟩:=j.list hS;have B:=pG t;have L:m.length=ns.length:=by rw[<-t.length,ab]
  refine sorted_ints_rev (b:=true) y.isList B (by omega) λout d D o G=>?_;have E:=o.length_eq;refine⟨.ref (z.heap.objs.size+1),_,oO j D ?_,rfl,q _ d (j.hok.fresh (dA _)) o G⟩;rw[E];exact bz (cA h64) (by decide)
theorem Cn:typeLookup (.type "list_reverseiterator") "__len__" = pure none:=by rw[typeLookup_type,builtinLookup_eq_fast];kernel_rfl
theorem Al:typeLookup (.type "list_reverseiterator") "__length_hint__" = pure (some (.builtin "list_reverseiterator.__length_hint__")):=by rw[typeLookup_type,builtinLookup_eq_fast];kernel_rfl
theorem Bu:isSubtype (.type "list_reverseiterator") (.type "list_reverseiterator")=pure true:=by rw[isSubtype_type];kernel_rfl
section
variable {prog:Program}{it l:Addr}{items:Array Value}
theorem Ay {Q:Bool->Shared->Prop}(g:s.TypeIs (.ref it) "list_reverseiterator")(h:Q false s):wpAny (model prog w) A (Builtin.List.listLengthHint (.ref it)) Q E s:=by
 unfold Builtin.List.listLengthHint;refine ac (wpAny_specialOf g Cn ?_)
 wp_delta
 refine dk (λa=>absurd a (by decide +kernel)) (λ_=>?_);refine dk (λa=>absurd a (by decide +kernel)) (λ_=>?_);refine ac (wpAny_specialOf g Al ?_);generalize d:("list_reverseiterator.__length_hint__" : String)=idn
 wp_delta
 have e:splitId idn=some ("list_reverseiterator","__length_hint__"):=by subst d;decide +kernel
 rw[e];subst d;refine ac (wpAny_isInstance (T:="list_reverseiterator") (b:=true) g Bu ?_);refine dk (λz=>absurd z (by decide)) (λ_=>?_);refine dk (λ_=>?_) (λz=>absurd (by decide +kernel) z);refine dk (λz=>absurd z (by decide +kernel)) (λ_=>?_);exact ar h
theorem Ao (U:A.handled=none)(i:s.heap.IsRevIter it l ((items.size:Int)-1))(J:s.heap.IsList l items)(r:l≠it)(hz:items.size<=sizeLine)(O:∀h' tk acc c,(∀b o,b≠it->s.heap.get? b=some o->h'.get? b=some o)->h'.get? s.heap.objs.size=some {cls:=.type "list",dict:=none,data:=.seq acc c,slots:=#[]}->acc.toList=items.toList.reverse->Q (.ref s.heap.objs.size) {s with heap:=h',toks:=tk}):wpAny (model prog w) A (call (.type "list") [.ref it]) Q E s:=by
 have H:it<s.heap.objs.size:=(by obtain⟨_,e,_⟩:=i;exact aS e);have B:l<s.heap.objs.size:=(by obtain⟨_,e,_⟩:=J;exact aS e);generalize g:s.heap.objs.size=S at *;have p:S≠it:=Nat.ne_of_gt H;have D:S≠l:=Nat.ne_of_gt B;refine callType_codes (Q₁:=λm K=>m=.ref S/\K={s with heap:=s.heap.push {cls:=.type "list",data:=.seq #[]}}) PySem.F.called_list (PySem.F.typeCall_list_1 _) PySem.F.entry_list_init (code_list_new _ ⟨by rw[g],rfl⟩) λm K Z=>?_;obtain⟨rfl,rfl⟩:=Z;have q:(s.heap.push {cls:=.type "list",data:=.seq #[]}).get? S=some {cls:=.type "list",data:=.seq #[]}:=by rw[<-g];exact aK _ rfl
 refine⟨⟨_,q,rfl⟩,PySem.F.args_list_init_2 _ _,?_⟩;show wpAny _ _ (do let was <-Builtin.List.listItems (.ref S);Builtin.List.listUpdate (.ref S) (λ_=>#[]);letGo was.toList.reverse;Builtin.List.listExtendWith (.ref S) (.ref it) .none) _ _ _;refine ac ?_;unfold Builtin.List.listItems;refine ac (dQ q rfl (ar ?_));show wpAny _ _ (updateSeq S (λ_=>#[]) >>= λ_=>letGo (#[]:Array Value).toList.reverse >>= λ_=>Builtin.List.listExtendWith (.ref S) (.ref it) .none) _ _ _;refine ac (wpAny_updateSeq q rfl ?_);have t:=cR (Obj.mapSeq (λ_=>(#[]:Array Value))) q rfl;have up:∀b o,s.heap.get? b=some o->((s.heap.push {cls:=.type "list",data:=.seq #[]}).update S (Obj.mapSeq (λ_=>(#[]:Array Value)))).get? b=some o:=λb o e=>by
  have v:b≠S:=by
   have:=aS e;rw[g]at this;exact aW this
  rw[Heap.get?_update_other _ _ (Ne.symm v)];exact aA _ e
 refine ac (wpAny_letGo ?_);generalize R:(s.heap.push {cls:=.type "list",data:=.seq #[]}).update S (Obj.mapSeq (λ_=>(#[]:Array Value)))=h2 at *;have a:h2.IsRevIter it l ((items.size:Int)-1):=i.at λo e=>up it o e;have x:h2.IsList l items:=J.at λo e=>up l o e;have h:∃G,h2.get? S=some {cls:=.type "list",data:=.seq #[] G}:=⟨_,t⟩;obtain⟨G,h⟩:=h;unfold Builtin.List.listExtendWith;refine ac (wpAny_typeOf (T:="list_reverseiterator") (Heap.IsRevIter.typeIs (s:={s with heap:=h2}) a) ?_);have P:Builtin.List.listSameRef (.ref S) (.ref it)=false:=by simp[Builtin.List.listSameRef,p]
 have M:(Value.type "list_reverseiterator" == Value.type "list")=false:=by decide
 have Y:(Value.type "list_reverseiterator" == Value.type "tuple")=false:=by decide
 simp only[P,M,Y,Bool.or_false,cb,if_false];refine ac (wpAny_pyIter_revIter (s:={s with heap:=h2}) a ?_);refine ac (bA (Ay (s:={s with heap:=h2}) (Heap.IsRevIter.typeIs (s:={s with heap:=h2}) a) ?_));refine dk (λz=>absurd z (by decide +kernel)) (λ_=>?_);have y:S∉[it,l]:=by
  simp only[am,aR,or_false,not_or];exact⟨p,D⟩
 refine ar ⟨dr PySem.F.plain_extend_loop _,?_⟩;have W:=Walks.listRev (prog:=prog) (w:=w) (A:=A.in1.in1) U it l r items;refine codeAny_extend_loopS W.toS hz S y .none items.size 0 _ #[] G rfl (bo _) ⟨bo _,by simpa using a,x⟩ h (ItemsOf.nil _) λI acc N mv C d=>?_;rw[Moved.eq_with mv];refine⟨rfl,O I.heap I.toks acc N (λb o v e=>mv.heap b o (λX=>?_) (up b o e)) C ?_⟩
 ·rcases am.mp X with z | z
  ·have:=aS e;rw[g,z]at this;exact cE _ this
  ·exact v (aj.mp z)
 ·refine List.ext_getElem? λj=>?_;by_cases hj:j<items.size
  ·have L:acc[j]?=some (acc[j]'(by rw[d.1];exact hj)):=cr _;have hp:=d.2 j _ L;rw[List.getElem?_reverse (by simpa using hj),bF,bF,L,bw]
   exact hp.symm
  ·rw[dC (by rw[bw,d.1];omega),dC (by rw[cf,bw];omega)]
end
theorem eT.adopt {p:Addr}{o:HO}(I:eT X pins σ H s)(f:jP X pins H p)(new:fR X.prog X.w (upd H p o) s.heap p o):eT X pins σ (upd H p o) s:=by
 have d:∀b u,H b=some u->b≠p:=λb u e=>et e f.1;refine I.step (h':=s.heap) (g':=s.gens) (d':=s.drawn) (t':=s.toks) (ch:=[p]) (λb a=>?_) (λb o _ _ _ e _=>e) (λb o _ _ _ e _=>⟨o.slots,e⟩) (λb o a _ n=>?_) (λb o _ e=>⟨o,e⟩) (λb g e=>?_) (λb u v e=>?_) (λb i e=>⟨#[],?_⟩) (λm h=>h) (λb u e=>?_) I.bare
 ·have e:b=p:=by simpa using a
  subst e;exact⟨f.2.2.2.1,f.2.1,f.2.2.2.2.1,f.2.2.2.2.2⟩
 ·rw[ef (λz=>a (by simp[z]))];exact n
 ·rw[ef (d b _ e)];exact e
 ·rw[ef (d b _ e)];exact e
 ·rw[ef (d b _ e),e];simp
 ·by_cases a:b=p
  ·subst a;rw[d0]at e;cases e;exact new
  ·rw[ef a]at e;exact(I.hok b u e).J5 (λc v _ q=>q) (λc q=>by rw[ef (d c _ q)];exact q) λc g q=>by rw[ef (d c _ q)];exact q
def Fo (K:W.Frag)(te:TE):TE:=λσ H Q=>te σ H λx H1=>∃(a:Addr) (xs:List V),x=.ref a/\eX K H1 a xs/\∀p:Addr,H1 p=none->Q (.ref p) (upd H1 p (.lst xs.reverse))
theorem BP {p2 pos2:Pos}(hc:X.calm=true)(Y:Gl X "list")(hm:X.mg "list" = none)(E:Gl X "reversed")(D:X.mg "reversed" = none)(he:PE X e te)(hs:starEach [e] X.env=[(false,eval e X.env)]:=by rfl)(hs2:starEach [.Call (.Name "reversed" p2) [e] [] pos2] X.env=[(false,eval (.Call (.Name "reversed" p2) [e] [] pos2) X.env)]:=by rfl):PE X (.Call (.Name "list" p) [.Call (.Name "reversed" p2) [e] [] pos2] [] pos) (Fo X.K te):=by
 intro g s σ H Q I h;refine bD (jI I Y hm cM ?_ (by decide) (by decide));refine PyProof.Rows.callWith_type1 ?_ hs2 rfl;rw[hs2];refine Calls.spliced_cons ?_;refine bD (jI I E D PyProof.Rows.Boot.«reversed» ?_ (by decide) (by decide));refine PyProof.Rows.callWith_type1 ?_ hs rfl;have hA:=(dZ he eg hs) pos2 g s σ H (λC i=>match C with | [x]=>(∃(a:Addr) (xs:List V),x=.ref a/\eX X.K i a xs/\∀p:Addr,i p=none->Q (.ref p) (upd i p (.lst xs.reverse))) | _=>False) I h;refine fW hA ?_;rintro us s1 ⟨C,i,w,r,R⟩
 match C,r,R with
 |[x],r,⟨a,xs,e2,hS,q⟩=>
  subst e2;obtain⟨u,rfl,S⟩:=jk r;cases (show u=Value.ref a from S);obtain⟨d,N,F,O⟩:=w.list hS;refine call_reversed_list F.isList (Calls.spliced_nil ?_);generalize j:s1.heap.objs.size=it;have v:s1.heap.get? it=none:=j▸bi (ao _);have t:i it=none:=w.hok.fresh (cB j);have G:(s1.heap.push (revObj a ((d.toArray.size:Int)-1))).get? it=some (revObj a ((d.toArray.size:Int)-1)):=by rw[<-j];exact aK _ rfl
  have y:eT X g σ i {s1 with heap:=s1.heap.push (revObj a ((d.toArray.size:Int)-1))}:=w.kept (t':=s1.toks) λb o q=>aA _ q;have B:(s1.heap.push (revObj a ((d.toArray.size:Int)-1))).IsList a d.toArray:=F.isList.push _;have A:a≠it:=by
   obtain⟨o,P,_⟩:=F.isList;exact λz=>by rw[z,v]at P;cases P
  have lz:d.length=xs.length:=N.length.symm;refine Ao (s:={s1 with heap:=s1.heap.push (revObj a ((d.toArray.size:Int)-1))}) (y.ok.hd hc) ⟨_,G,rfl,rfl⟩ B A (by rw[aM,lz];exact O) λL M aa c k J ea=>?_;have f:=w.Kp v t;generalize l:(s1.heap.push (revObj a ((d.toArray.size:Int)-1))).objs.size=pn at J ⊢;have ad:pn=it+1:=by rw[<-l,dU,j]
  have m:i pn=none:=y.hok.fresh (cB l);refine⟨.ref pn,upd i pn (.lst xs.reverse),?_,rfl,q _ m⟩;have Z:eT X g σ i {s1 with heap:=L,toks:=M}:=y.turned (t':=M) (λb o U e=>k b o U e) t f.2.1 f.2.2.2.1 f.2.2.2.2.1 f.2.2.2.2.2;have T:jP X g i pn:=y.Kp (l▸bi (ao _)) m;refine Z.adopt T ⟨by rw[cf];exact O,d.reverse,c,?_,?_⟩
  ·exact N.reverse
  ·show L.get? pn=_;rw[J,<-ea]
section
def nW (P:Program)(w:World)(h:Heap):fV->Value->Prop
 |none,u=>u=.none
 |some ks,u=>∃b,u=.ref b/\(tupleKind (fb P w)).is h ks b
theorem nW.inj {u:Value}:∀{x y:fV},nW P w h x u->nW P w h y u->x=y
 |none,none,_,_=>rfl
 |none,some _,hx,⟨b,e,_⟩=>by rw[show u=Value.none from hx]at e;cases e
 |some _,none,⟨b,e,_⟩,hy=>by rw[show u=Value.none from hy]at e;cases e
 |some x,some y,⟨b,e,hb⟩,⟨c,f,hc⟩=>by rw[e]at f;cases f;rw[(tupleKind (fb P w)).inj hb hc]
theorem nW.keep {h':Heap}{k:fV}{u:Value}{o:Obj}{ep:Nat}(x:nW P w h k u)(i:h.get? d=some o)(a:o.data=.dict es ep)(hs:Heap.SameBut d h h'):nW P w h' k u:=by
 cases k with
 |none=>exact x
 |some ks=>obtain⟨b,e,g⟩:=x;exact⟨b,e,(tupleKind (fb P w)).keeps g i a hs⟩
theorem oo {k:fV}{u:Value}(ok:lM P w H h)(x:v7 H k u):nW P w h k u:=by
 cases k with
 |none=>exact x
 |some ks=>obtain⟨b,e,a⟩:=x;exact⟨b,e,l9 ok a⟩
theorem vo {k:fV}{u:Value}{Q:Int->Shared->Prop}(a:A.units<cLine)(d:nW P w s.heap k u)(h:∀tk,Q (lU P w k) {s with toks:=tk}):wpAny (model P w) A (pyHash u) Q E s:=by
 cases k with
 |none=>
  rw[show u=Value.none from d];exact W.pyHash_laid .none .none A s Q rfl .none a h
 |some ks=>
  obtain⟨b,rfl,e⟩:=d;exact(tupleKind (fb P w)).pyHash a e (h _)
theorem wD {ks:List gz}{b:Addr}(x:(tupleKind (fb P w)).is h ks b):∃its,h.IsTuple b its:=by
 obtain⟨o,its,n,d,a,e,_⟩:=(show IsTupleKey (fb P w) h ks b from x);exact⟨its,o,d,a,n,e⟩
theorem n_eq {x y:fV}{u:Value}{Q:Bool->Shared->Prop}(d:A.units<cLine)(j:nW P w s.heap x u)(a:nW P w s.heap y v)(h:Q (decide (x=y)) s):wpAny (model P w) A (eqBool u v) Q E s:=by
 cases x with
 |none=>
  rw[show u=Value.none from j];cases y with
  |none=>
   rw[show v=Value.none from a];exact SeqAt.eqBoolOverData P w A E s .none .none .none .none _ _ Q .none .none rfl rfl d h
  |some ys=>
   obtain⟨b,rfl,e⟩:=a;obtain⟨g,i⟩:=wD e;exact SeqAt.EqAt.none_tuple i d P w E Q h
 |some xs=>
  obtain⟨b,rfl,e⟩:=j;cases y with
  |none=>
   rw[show v=Value.none from a];obtain⟨g,i⟩:=wD e;exact SeqAt.EqAt.tuple_none i d P w E Q h
  |some ys=>
   obtain⟨c,rfl,l⟩:=a;refine(tupleKind (fb P w)).eqBool d e l ?_;by_cases q:xs=ys
   ·subst q;simpa using h
   ·rw[au q];rw[au (λz=>q (Option.some.inj z))]at h;exact h
theorem wF {k:fV}{u:Value}{Q:Bool->Shared->Prop}(a:nW P w s.heap k u)(h:Q true s):wpAny (model P w) A (eqIsQuiet 8 u) Q E s:=by
 cases k with
 |none=>rw[show u=Value.none from a];exact ar h
 |some ks=>obtain⟨b,rfl,d⟩:=a;exact(tupleKind (fb P w)).quiet d h
theorem wE {k:fV}{u:Value}{us:List Value}{Q:Bool->Shared->Prop}(e:nW P w s.heap k u)(d:∀v∈us,∃j,nW P w s.heap j v)(h:Q false s):wpAny (model P w) A (tableMayTell u us) Q E s:=by
 unfold tableMayTell
 split
 ·exact ar h
 refine ac (wF e ?_);rw[av (by decide)];refine ac (de _ (λa r b=>b=s/\r=(none,())/\∀v∈a,∃j,nW P w s.heap j v) _ ?_ ?_ _ _ ⟨rfl,rfl,d⟩)
 ·rintro v a r b ⟨rfl,rfl,all⟩;obtain⟨j,g⟩:=all v (by simp);refine ac (wF g ?_);rw[av (by decide)];exact ar ⟨rfl,rfl,λz i=>all z (by simp[i])⟩
 ·rintro r b ⟨rfl,rfl,_⟩;exact ar h
structure p4 (P:Program)(w:World)(h:Heap)(es:Array DictEntry)(ks:List fV):Prop where
 nd:ks.Nodup
 sz:es.size=ks.length
 at_:∀(i:Nat) (k:fV),ks[i]?=some k->∃e,es[i]?=some e/\e.hash=lU P w k/\nW P w h k e.key
theorem p4.back (x:p4 P w h es ks){e:DictEntry}(q:es[i]?=some e):∃k,ks[i]?=some k/\e.hash=lU P w k/\nW P w h k e.key:=by
 have b:i<ks.length:=by rw[<-x.sz];exact(Array.getElem?_eq_some_iff.mp q).1
 obtain⟨j,a,g,d⟩:=x.at_ i ks[i] (ak b);rw[q]at a;cases a;exact⟨_,ak b,g,d⟩
theorem p4.one (x:p4 P w h es ks){k:fV}(hi:ks[i]?=some k)(hj:ks[j]?=some k):i=j:=
 (ce (af.mp hi).1 x.nd).mp (hi.trans hj.symm)
variable {o:Obj}{ep:Nat}{k:fV}{u:Value}{Q:Option Nat->Shared->Prop}
theorem Cm (C:A.units<cLine)(F:nW P w s.heap k u)(p:s.heap.get? d=some o)(m:o.data=.dict es ep)(X:p4 P w s.heap es ks)(l:List Nat)(x:∀i∈l,∃e,es[i]?=some e/\(e.hash == lU P w k)=true)(D:(∀j∈l,ks[j]?≠some k)->Q none s)(G:∀j∈l,ks[j]?=some k->Q (some j) s):wpAny (model P w) A (dictWalkPlain d u (lU P w k) es l) Q E s:=by
 unfold dictWalkPlain;refine ac (de _ (λa b g=>g=s/\b=(none,())/\(∀i∈a,i∈l)/\((∀j∈a,ks[j]?≠some k)->Q none s)) _ ?_ ?_ _ _ ⟨rfl,rfl,λ_ z=>z,D⟩)
 ·rintro i a b g ⟨rfl,rfl,sub,no⟩;obtain⟨e,r,B⟩:=x i (sub i (by simp));obtain⟨j,t,_,v⟩:=X.back r;simp only[r];rw[ax B];refine ac (bJ p m (ac (n_eq C v F (ac (bJ p m ?_)))));rw[av (by simp)];by_cases q:j=k
  ·rw[aq q,ax rfl];exact ac (bZ (ar (ar (G i (sub i (by simp)) (q▸t)))))
  ·rw[au q,av (by decide)];refine ac (bZ (ar ⟨rfl,rfl,λz h=>sub z (by simp[h]),λall=>no λz h=>?_⟩));rcases am.mp h with y | y
   ·subst y;rw[t];exact λy=>q (Option.some.inj y)
   ·exact all z y
 ·rintro b g ⟨rfl,rfl,_,no⟩;exact ar (no λ_ z=>nomatch z)
theorem vp (T:A.units<cLine)(J:nW P w s.heap k u)(K:s.heap.get? d=some o)(I:o.data=.dict es ep)(X:p4 P w s.heap es ks)(h0:k∉ks->Q none s)(M:∀j,ks[j]?=some k->Q (some j) s):wpAny (model P w) A (dictFind d u (lU P w k)) Q E s:=by
 generalize G:placesWithHash es.size (λi=>es[i]?.map (·.hash)) (lU P w k)=pl;have D:∀i,i∈pl->∃e,es[i]?=some e/\(e.hash == lU P w k)=true:=λi L=>by
  rw[<-G,placesWithHash,aZ]at L;cases m:es[i]? with
  |none=>rw[m]at L;simp at L
  |some e=>rw[m]at L;exact⟨e,rfl,by simpa using L.2⟩
 have U:∀j,ks[j]?=some k->j∈pl:=λj h=>by
  obtain⟨e,m,H,_⟩:=X.at_ j k h;rw[<-G,placesWithHash,aZ,List.mem_range];exact⟨(Array.getElem?_eq_some_iff.mp m).1,by rw[m];simp[H]⟩
 have N:pl.Nodup:=by rw[<-G,placesWithHash];exact List.Pairwise.filter _ List.nodup_range
 have F:(∀j∈pl,ks[j]?≠some k)->Q none s:=λall=>h0 λZ=>by
  obtain⟨j,h⟩:=aC.mp Z;exact all j (U j h) h
 have S:∀v∈pl.filterMap (λi=>es[i]?.map (·.key)),∃j,nW P w s.heap j v:=λv O=>by
  obtain⟨i,L,O⟩:=List.mem_filterMap.mp O;obtain⟨e,m,_⟩:=D i L;rw[m]at O;obtain⟨j,_,_,h⟩:=X.back m;cases O;exact⟨j,h⟩
 have aa:u=.none\/∃b,u=.ref b:=by
  cases k with
  |none=>exact .inl J
  |some x=>obtain⟨b,e,_⟩:=J;exact .inr ⟨b,e⟩
 unfold dictFind
 try with_reducible refine bA ?_
 refine ac (cU K I ?_);rcases aa with rfl | ⟨b,rfl⟩
 ·dsimp only;rw[G];by_cases O:((Value.none::pl.filterMap λi=>es[i]?.map (·.key)).all carriedByValue)=true
  ·rw[ax O];exact Cm T J K I X pl D F λj _ h=>M j h
  rw[av O];by_cases hone:((pl.filterMap λi=>es[i]?.map (·.key)) == [Value.none])=true
  ·rw[ax hone];refine ac (ar ?_);rw[av (by simp)];refine ac (de _ (λa b B=>B=s/\(∀i∈a,i∈pl)/\a.Nodup/\((b=(none,none)/\((∀j∈a,ks[j]?≠some k)->Q none s))\/∃j,b=(none,some j)/\ks[j]?=some k/\j∉a)) _ ?_ ?_ _ _ ⟨rfl,λ_ z=>z,N,.inl ⟨rfl,F⟩⟩)
   ·rintro i a r B ⟨rfl,sub,nd,t⟩;obtain⟨e,m,H⟩:=D i (sub i (by simp));obtain⟨j,h,_,R⟩:=X.back m;rw[aY]at nd;simp only[m];rw[ax H];refine ac (bJ K I (ac (n_eq T R J (ac (bJ K I ?_)))));rw[av (by simp)];by_cases q:j=k
    ·rw[aq q,ax rfl];subst q;rcases t with ⟨rfl,no⟩ | ⟨p,rfl,g,C⟩
     ·rw[av (by simp)];refine ac (bZ ?_)
      split
      ·exact ar (ar (M i h))
      ·exact ar ⟨rfl,λz l=>sub z (by simp[l]),nd.2,.inr ⟨i,rfl,h,nd.1⟩⟩
     ·exact absurd (X.one h g) (λz=>C (by simp[z]))
    ·rw[au q,av (by decide)];refine ac (bZ ?_);rw[av (by simp)];refine ar ⟨rfl,λz l=>sub z (by simp[l]),nd.2,?_⟩;rcases t with ⟨rfl,no⟩ | ⟨p,rfl,g,C⟩
     ·refine .inl ⟨rfl,λall=>no λz l=>?_⟩;rcases am.mp l with y | y
      ·subst y;rw[h];exact λy=>q (Option.some.inj y)
      ·exact all z y
     ·exact .inr ⟨p,rfl,g,λz=>C (by simp[z])⟩
   ·rintro r B ⟨rfl,_,_,t⟩;rcases t with ⟨rfl,no⟩ | ⟨p,rfl,g,_⟩
    ·exact ar (no λ_ z=>nomatch z)
    ·exact ar (M p g)
  ·rw[av hone];refine ac (wE J S ?_);rw[av (by simp)];refine ac (de _ (λa b B=>B=s/\(∀i∈a,i∈pl)/\a.Nodup/\((b=(none,none)/\((∀j∈a,ks[j]?≠some k)->Q none s))\/∃j,b=(none,some j)/\ks[j]?=some k/\j∉a)) _ ?_ ?_ _ _ ⟨rfl,λ_ z=>z,N,.inl ⟨rfl,F⟩⟩)
   ·rintro i a r B ⟨rfl,sub,nd,t⟩;obtain⟨e,m,H⟩:=D i (sub i (by simp));obtain⟨j,h,_,R⟩:=X.back m;rw[aY]at nd;simp only[m];rw[ax H];refine ac (bJ K I (ac (n_eq T R J (ac (bJ K I ?_)))));rw[av (by simp)];by_cases q:j=k
    ·rw[aq q,ax rfl];subst q;rcases t with ⟨rfl,no⟩ | ⟨p,rfl,g,C⟩
     ·rw[av (by simp)];refine ac (bZ ?_)
      split
      ·exact ar (ar (M i h))
      ·exact ar ⟨rfl,λz l=>sub z (by simp[l]),nd.2,.inr ⟨i,rfl,h,nd.1⟩⟩
     ·exact absurd (X.one h g) (λz=>C (by simp[z]))
    ·rw[au q,av (by decide)];refine ac (bZ ?_);rw[av (by simp)];refine ar ⟨rfl,λz l=>sub z (by simp[l]),nd.2,?_⟩;rcases t with ⟨rfl,no⟩ | ⟨p,rfl,g,C⟩
     ·refine .inl ⟨rfl,λall=>no λz l=>?_⟩;rcases am.mp l with y | y
      ·subst y;rw[h];exact λy=>q (Option.some.inj y)
      ·exact all z y
     ·exact .inr ⟨p,rfl,g,λz=>C (by simp[z])⟩
   ·rintro r B ⟨rfl,_,_,t⟩;rcases t with ⟨rfl,no⟩ | ⟨p,rfl,g,_⟩
    ·exact ar (no λ_ z=>nomatch z)
    ·exact ar (M p g)
 ·have O:¬((Value.ref b::pl.filterMap λi=>es[i]?.map (·.key)).all carriedByValue)=true:=by simp[carriedByValue]
  have Y:¬(es.any λe=>e.key == Value.ref b&&e.hash != lU P w k)=true:=by
   rw[<-Array.any_toList,dD];rintro⟨e,Z,hc⟩;obtain⟨i,L⟩:=aC.mp Z;rw[bF]at L;obtain⟨j,_,H,h⟩:=X.back L;rw[aH,beq_iff_eq,bne_iff_ne]at hc;rw[hc.1]at h;exact hc.2 (by rw[H,h.inj J])
  dsimp only;rw[G,av O,av Y];by_cases hone:((pl.filterMap λi=>es[i]?.map (·.key)) == [Value.ref b])=true
  ·rw[ax hone];refine ac (ar ?_);rw[av (by simp)];refine ac (de _ (λa b B=>B=s/\(∀i∈a,i∈pl)/\a.Nodup/\((b=(none,none)/\((∀j∈a,ks[j]?≠some k)->Q none s))\/∃j,b=(none,some j)/\ks[j]?=some k/\j∉a)) _ ?_ ?_ _ _ ⟨rfl,λ_ z=>z,N,.inl ⟨rfl,F⟩⟩)
   ·rintro i a r B ⟨rfl,sub,nd,t⟩;obtain⟨e,m,H⟩:=D i (sub i (by simp));obtain⟨j,h,_,R⟩:=X.back m;rw[aY]at nd;simp only[m];rw[ax H];refine ac (bJ K I (ac (n_eq T R J (ac (bJ K I ?_)))));rw[av (by simp)];by_cases q:j=k
    ·rw[aq q,ax rfl];subst q;rcases t with ⟨rfl,no⟩ | ⟨p,rfl,g,C⟩
     ·rw[av (by simp)];refine ac (bZ ?_)
      split
      ·exact ar (ar (M i h))
      ·exact ar ⟨rfl,λz l=>sub z (by simp[l]),nd.2,.inr ⟨i,rfl,h,nd.1⟩⟩
     ·exact absurd (X.one h g) (λz=>C (by simp[z]))
    ·rw[au q,av (by decide)];refine ac (bZ ?_);rw[av (by simp)];refine ar ⟨rfl,λz l=>sub z (by simp[l]),nd.2,?_⟩;rcases t with ⟨rfl,no⟩ | ⟨p,rfl,g,C⟩
     ·refine .inl ⟨rfl,λall=>no λz l=>?_⟩;rcases am.mp l with y | y
      ·subst y;rw[h];exact λy=>q (Option.some.inj y)
      ·exact all z y
     ·exact .inr ⟨p,rfl,g,λz=>C (by simp[z])⟩
   ·rintro r B ⟨rfl,_,_,t⟩;rcases t with ⟨rfl,no⟩ | ⟨p,rfl,g,_⟩
    ·exact ar (no λ_ z=>nomatch z)
    ·exact ar (M p g)
  ·rw[av hone];refine ac (wE J S ?_);rw[av (by simp)];refine ac (de _ (λa b B=>B=s/\(∀i∈a,i∈pl)/\a.Nodup/\((b=(none,none)/\((∀j∈a,ks[j]?≠some k)->Q none s))\/∃j,b=(none,some j)/\ks[j]?=some k/\j∉a)) _ ?_ ?_ _ _ ⟨rfl,λ_ z=>z,N,.inl ⟨rfl,F⟩⟩)
   ·rintro i a r B ⟨rfl,sub,nd,t⟩;obtain⟨e,m,H⟩:=D i (sub i (by simp));obtain⟨j,h,_,R⟩:=X.back m;rw[aY]at nd;simp only[m];rw[ax H];refine ac (bJ K I (ac (n_eq T R J (ac (bJ K I ?_)))));rw[av (by simp)];by_cases q:j=k
    ·rw[aq q,ax rfl];subst q;rcases t with ⟨rfl,no⟩ | ⟨p,rfl,g,C⟩
     ·rw[av (by simp)];refine ac (bZ ?_)
      split
      ·exact ar (ar (M i h))
      ·exact ar ⟨rfl,λz l=>sub z (by simp[l]),nd.2,.inr ⟨i,rfl,h,nd.1⟩⟩
     ·exact absurd (X.one h g) (λz=>C (by simp[z]))
    ·rw[au q,av (by decide)];refine ac (bZ ?_);rw[av (by simp)];refine ar ⟨rfl,λz l=>sub z (by simp[l]),nd.2,?_⟩;rcases t with ⟨rfl,no⟩ | ⟨p,rfl,g,C⟩
     ·refine .inl ⟨rfl,λall=>no λz l=>?_⟩;rcases am.mp l with y | y
      ·subst y;rw[h];exact λy=>q (Option.some.inj y)
      ·exact all z y
     ·exact .inr ⟨p,rfl,g,λz=>C (by simp[z])⟩
   ·rintro r B ⟨rfl,_,_,t⟩;rcases t with ⟨rfl,no⟩ | ⟨p,rfl,g,_⟩
    ·exact ar (no λ_ z=>nomatch z)
    ·exact ar (M p g)
end
def lN (xs:List (fV×Value×Value))(k:fV):Option Value:=(xs.find? λx=>decide (x.1=k)).map (·.2.2)
def qe (k:fV)(v:Value)(x:fV×Value×Value):fV×Value×Value:=if x.1=k then (x.1,x.2.1,v) else x
def qg (xs:List (fV×Value×Value))(k:fV)(u v:Value):List (fV×Value×Value):=if (lN xs k).isSome=true then xs.map (qe k v) else xs++[(k,u,v)]
def nO (P:Program)(w:World)(h:Heap)(d:Addr)(xs:List (fV×Value×Value)):Prop:=
 ∃o es ep,h.get? d=some o/\o.ExactDict/\o.data=.dict es ep/\es.toList=xs.map (uj P w)/\(∀x∈xs,nW P w h x.1 x.2.1)/\(xs.map (·.1)).Nodup
theorem lJ {k:fV}(h:k∉xs.map (·.1)):lN xs k=none:=by
 unfold lN;rw[dP.mpr λx a b=>h (aw.mpr ⟨x,a,aV b⟩)];rfl
theorem ow {k:fV}{p:Value×Value}:∀{xs:List (fV×Value×Value)} {j:Nat},(xs.map (·.1)).Nodup->xs[j]?=some (k,p)->lN xs k=some p.2
 |[],j,_,h=>by simp at h
 |x::xs,0,_,h=>by
  have e:x=(k,p):=by simpa using h
  subst e;simp[lN]
 |x::xs,j+1,hn,h=>by
  rw[aG,aY]at hn;have a:xs[j]?=some (k,p):=by simpa using h
  have b:¬x.1=k:=λe=>hn.1 (e▸aw.mpr ⟨(k,p),ai a,rfl⟩);have:=ow hn.2 a;simpa [lN,bu,b] using this
theorem zn (k:fV)(v:Value)(x:fV×Value×Value):(qe k v x).1=x.1:=by unfold qe;split <;> rfl
section
variable {k:fV}{u:Value}
theorem nO.typeIs (D:nO P w s.heap d xs):s.TypeIs (.ref d) "dict":=(by obtain⟨o,_,_,ho,hc,_⟩:=D;exact⟨o,ho,hc.1⟩)
theorem sH (b:es.toList=xs.map (uj P w))(e:∀x∈xs,nW P w h x.1 x.2.1)(hn:(xs.map (·.1)).Nodup):p4 P w h es (xs.map (·.1)):=by
 refine⟨hn,by rw[<-bw,b,ab,ab],λi k a=>?_⟩;rw[ae]at a;obtain⟨x,d,rfl⟩:=az.mp a;exact⟨uj P w x,by rw[<-bF,b,ae,d];rfl,rfl,e x (ai d)⟩
theorem Ed {Q:Option Value->Shared->Prop}(i:A.units<cLine)(m:nW P w s.heap k u)(D:nO P w s.heap d xs)(h:∀tk,Q (lN xs k) {s with toks:=tk}):wpAny (model P w) A (dictGet d u) Q E s:=by
 obtain⟨o,v,z,g,_,b,p,r,hn⟩:=D;unfold dictGet
 try with_reducible refine bA ?_
 refine ac (vo i m λtk=>ac (vp (s:={s with toks:=tk}) i m g b (sH p r hn) (λa=>?_) (λj q=>?_)))
 ·rw[lJ a]at h;exact ar (h tk)
 ·rw[ae]at q;obtain⟨x,l,e⟩:=az.mp q;obtain⟨t,y⟩:=x;obtain rfl:k=t:=e.symm;rw[ow hn l]at h;refine ac (cU (s:={s with toks:=tk}) g b (ar ?_));rw[<-bF,p,ae,l]
  exact h tk
theorem Ec {Q:Unit->Shared->Prop}(G:A.units<cLine)(B:nW P w s.heap k u)(D:nO P w s.heap d xs)(hz:xs.length<=sizeLine)(h:∀h' tk,nO P w h' d (qg xs k u v)->Heap.SameBut d s.heap h'->Q () {s with heap:=h',toks:=tk}):wpAny (model P w) A (dictSet d u v) Q E s:=by
 obtain⟨o,O,H,p,K,g,t,C,hn⟩:=D;have M:O.size=xs.length:=by rw[<-bw,t,ab]
 unfold dictSet
 try with_reducible refine bA ?_
 refine ac (vo G B λtk=>?_);unfold dictSetHashed
 try with_reducible refine bA ?_
 refine ac (vp (s:={s with toks:=tk}) G B p g (sH t C hn) (λr=>?_) (λj I=>?_))
 ·have hp:qg xs k u v=xs++[(k,u,v)]:=by unfold qg;rw[lJ r,av (by decide)]
  refine ac (bZ (wpAny_updateDictKeys (hz:=by lia) (s:={s with toks:=tk}) p g (h _ tk ?_ (Heap.SameBut.update ..))));refine⟨_,_,H+1,cR _ p (Obj.isFreed_of_dict (Obj.data_mapDictKeys g _)),K.mapDictKeys _,Obj.data_mapDictKeys g _,?_,λx i=>?_,?_⟩
  ·rw[hp];simp[t,uj]
  ·rw[hp]at i;rcases aD.mp i with z | z
   ·exact(C x z).keep p g (Heap.SameBut.update ..)
   ·rw[aj.mp z];exact B.keep p g (Heap.SameBut.update ..)
  ·rw[hp,ay,bN];refine⟨hn,by simp,λa J b F z=>r ?_⟩;rw[aG,cO,aj]at F;rw[z,F]at J;exact J
 ·rw[ae]at I;obtain⟨x,i,e⟩:=az.mp I;obtain⟨S,R⟩:=x;obtain rfl:k=S:=e.symm;have hp:qg xs k u v=xs.map (qe k v):=by unfold qg;rw[ow hn i,ax (show(some R.2).isSome=true from rfl)]
  refine ac (bZ (ac (wpAny_updateDict (s:={s with toks:=tk}) p g (wpAny_point (h _ tk ?_ (Heap.SameBut.update ..))))));refine⟨_,_,H,cR _ p (Obj.isFreed_of_dict (Obj.data_mapDict g _)),K.mapDict _,Obj.data_mapDict g _,?_,λx i=>?_,?_⟩
  ·rw[hp,Array.toList_modify,t,cC];refine List.ext_getElem? λm=>?_;rw[List.getElem?_modify,ae,ae]
   cases hm:xs[m]? with
   |none=>rfl
   |some y=>
    by_cases hjm:j=m
    ·subst hjm;rw[i]at hm;cases hm;simp[uj,qe]
    ·have L:¬y.1=k:=λz=>hjm ((ce (by rw[ab];exact(af.mp i).1) hn).mp (by rw[ae,ae,i,hm];exact congrArg some z.symm))
     simp[qe,L,hjm]
  ·rw[hp]at i;obtain⟨y,N,rfl⟩:=aw.mp i;have q:=(C y N).keep p g (Heap.SameBut.update s.heap d (Obj.mapDict (λl=>l.modify j λe=>{e with val:=v})));unfold qe
   split
   ·exact q
   ·exact q
  ·rw[hp,cC,show((λx:fV×Value×Value=>x.1) ∘ qe k v)=(·.1) from funext λx=>zn k v x];exact hn
theorem Ct (a:s.TypeIs (.ref d) "dict")(h:wpAny (model P w) A.in1 (dictGet d u) (λr s'=>∃v,r=some v/\Q v s') E s):wpAny (model P w) A (getItem (.ref d) u) Q E s:=by
 unfold getItem
 try with_reducible refine bA ?_
 refine ac (wpAny_sequenceKey a (by decide) (ac (dm (name:=Str.ofString "__getitem__") a slot_dict_getitem (cc slot_dict_getitem a entry_dict_getitem ?_ (args_dict_getitem _ _)))))
 show wpAny _ _ (dictGet d u >>= _) _ _ s;refine ac (bS h (?_) λ_ _ z=>z);rintro r s' ⟨v,e,q⟩;subst e;exact ar ⟨v,rfl,ar q⟩
theorem Go {Q:Bool->Shared->Prop}(a:s.TypeIs (.ref d) "dict")(b:(d == sysModules)=false)(h:wpAny (model P w) A.in1 (dictGet d u) (λr s'=>Q r.isSome s') E s):wpAny (model P w) A (contains (.ref d) u) Q E s:=by
 unfold contains
 try with_reducible refine bA ?_
 refine ac (wpAny_specialOf a slot_dict_contains.lookup ?_);show wpAny _ _ (if (some (Value.builtin "dict.__contains__") == some Value.none)=true then _ else _) _ _ s;rw[av (by rw[beq_builtin_none];exact aN)];refine ac (wpAny_callSpecialUnlessNone?_slot (name:=Str.ofString "__contains__") a slot_dict_contains (cc slot_dict_contains a entry_dict_contains ?_ (args_dict_contains _ _)))
 show wpAny _ _ (dictGet d u >>= _) _ _ s;refine ac (bS h (λr s' q=>?_) λ_ _ z=>z);cases r with
 |some v=>exact ar ⟨_,rfl,bR q⟩
 |none=>exact ac (wpAny_pendingKey_other b (ar ⟨_,rfl,bR q⟩))
theorem yT {Q:Unit->Shared->Prop}(a:s.TypeIs (.ref d) "dict")(h:wpAny (model P w) A.in1 (dictSet d u v) Q E s):wpAny (model P w) A (setItem (.ref d) u v) Q E s:=by
 unfold setItem
 try with_reducible refine bA ?_
 refine ac (wpAny_sequenceKey a (by decide) (ac (dm (name:=Str.ofString "__setitem__") a slot_dict_setitem (cc slot_dict_setitem a entry_dict_setitem ?_ (args_dict_setitem _ _ _)))))
 refine ac (cK a ?_);show wpAny _ _ (dictSet d u v >>= _) _ _ s;exact ac (bS h (λ_ b q=>ar ⟨.none,rfl,ar q⟩) λ_ _ z=>z)
end
theorem Be.val (r:Be H kvs xs)(k:fV):jB (eV kvs k) (lN xs k):=by
 induction r with
 |nil=>exact True.intro
 |@cons p q ps qs h t ih=>
  obtain⟨a,_,g⟩:=h;by_cases e:p.1=k
  ·have b:lN (q::qs) k=some q.2.2:=by simp[lN,bu,a.symm.trans e]
   rw[gF e,b];exact g
  ·have d:¬q.1=k:=λz=>e (a.trans z);have b:lN (q::qs) k=lN qs k:=by simp[lN,bu,d]
   rw[gu e,b];exact ih
theorem Be.rep (r:Be H kvs xs)(k:fV)(g:eZ y v):Be H (kvs.map λkv=>if kv.1=k then (kv.1,y) else kv) (xs.map (qe k v)):=by
 induction r with
 |nil=>exact .nil
 |@cons p q ps qs h t ih=>
  obtain⟨a,b,d⟩:=h;rw[aG,aG];refine .cons ?_ ih;unfold qe;by_cases e:p.1=k
  ·rw[ax e,ax (a.symm.trans e)];exact⟨a,b,g⟩
  ·rw[av e,av (λz=>e (a.trans z))];exact⟨a,b,d⟩
theorem Be.put (r:Be H kvs xs)(k:fV){u:Value}(b:v7 H k u)(a:eZ y v):Be H (fm kvs k y) (qg xs k u v):=by
 unfold fm qg;rw[i5,(r.val k).Kn];by_cases q:(lN xs k).isSome=true
 ·rw[ax q,ax q];exact r.rep k a
 ·rw[av q,av q];exact Paired.snoc r ⟨rfl,b,a⟩
theorem v7.keeps {k:fV}{u:Value}(x:v7 H k u)(a:∀b ys,H b=some (.tup ys)->H' b=some (.tup ys)):v7 H' k u:=by
 cases k with
 |none=>exact x
 |some ks=>obtain⟨b,e,d⟩:=x;exact⟨b,e,a _ _ d⟩
def lQ (H:Hp):fV->V->Prop
 |none,y=>y=.non
 |some ks,y=>∃b,y=.ref b/\H b=some (.tup (ks.map kV))
theorem lQ.rel {k:fV}{u:Value}(x:lQ H k y)(r:eZ y u):v7 H k u:=by
 cases k with
 |none=>rw[show y=V.non from x]at r;exact r
 |some ks=>obtain⟨b,rfl,a⟩:=x;exact⟨b,r,a⟩
theorem uk (ok:lM P w H h)(e:Rd H a (.dN kvs)):kvs.length<=sizeLine/\(a == sysModules)=false/\∃xs,Be H kvs xs/\nO P w h a xs:=by
 obtain⟨z,y,xs,r,o,d,i,s,b,g,j,v⟩:=(show fR P w H h a (.dN kvs) from zo ok e);have all:∀{l:List (fV×V)} {m:List (fV×Value×Value)},Be H l m->∀x∈m,nW P w h x.1 x.2.1:=by
  intro l m q
  induction q with
  |nil=>intro x hx;exact nomatch hx
  |@cons p q ps qs hq t ih=>
   intro x hx;rcases am.mp hx with e | hx
   ·subst e;rw[<-hq.1];exact oo ok hq.2.1
   ·exact ih x hx
 exact⟨z,y,xs,r,o,d,i,s,b,g,j,all r,v⟩
def hU (H:Hp)(a:Addr)(y:V)(r:Option V):Prop:=∃kvs k,Rd H a (.dN kvs)/\lQ H k y/\r=eV kvs k
def lF (H:Hp)(a:Addr)(y v:V)(H':Hp):Prop:=∃kvs k,H a=some (.dN kvs)/\lQ H k y/\kvs.length<sizeLine/\H'=upd H a (.dN (fm kvs k v))
theorem hU.of {k:fV}(e:H a=some (.dN kvs))(hk:lQ H k y):hU H a y (eV kvs k):=⟨kvs,k,.inl e,hk,rfl⟩
theorem lF.of {k:fV}{v:V}(e:H a=some (.dN kvs))(hk:lQ H k y)(hl:kvs.length<sizeLine):lF H a y v (upd H a (.dN (fm kvs k v))):=⟨kvs,k,e,hk,hl,rfl⟩
section
variable {v:V}{u r:Value}{o:Option V}
theorem vG {Q:Option Value->Shared->Prop}(j:A.units<cLine)(I:eT X pins σ H s)(g:hU H a y o)(l:eZ y u)(h:∀o' s',eT X pins σ H s'->jB o o'->Q o' s'):wpAny (model X.prog X.w) A (dictGet a u) Q E s:=by
 obtain⟨b,k,e,d,rfl⟩:=g;obtain⟨z,p,q,rel,m⟩:=uk I.hok e;exact Ed j (oo I.hok (d.rel l)) m λi=>h _ _ (I.tok i) (rel.val k)
theorem oy (I:eT X pins σ H s)(g:hU H a y o):s.TypeIs (.ref a) "dict"/\(a == sysModules)=false:=by
 obtain⟨d,k,e,i,rfl⟩:=g;obtain⟨z,b,j,rel,h⟩:=uk I.hok e;exact⟨h.typeIs,b⟩
theorem pM (j:A.units+1<cLine)(I:eT X pins σ H s)(g:hU H a y (some v))(l:eZ y u)(h:∀w' s',eT X pins σ H s'->eZ v w'->Q w' s'):wpAny (model X.prog X.w) A (getItem (.ref a) u) Q E s:=by
 refine Ct (oy I g).1 (vG j I g l λm s' i d=>?_);obtain⟨w',e,b⟩:=jB.some_of d;exact⟨w',e,h w' s' i b⟩
theorem Dn {Q:Bool->Shared->Prop}(i:A.units+1<cLine)(I:eT X pins σ H s)(g:hU H a y o)(j:eZ y u)(h:∀s',eT X pins σ H s'->Q o.isSome s'):wpAny (model X.prog X.w) A (contains (.ref a) u) Q E s:=by
 obtain⟨t,b⟩:=oy I g;refine Go t b (vG i I g j λl s' e d=>?_);rw[<-d.Kn];exact h s' e
theorem pL {Q:Unit->Shared->Prop}(F:A.units+1<cLine)(I:eT X pins σ H s)(g:lF H a y v H')(l:eZ y u)(M:eZ v r)(h:∀s',eT X pins σ H' s'->Q () s'):wpAny (model X.prog X.w) A (setItem (.ref a) u r) Q E s:=by
 obtain⟨b,k,e,o,O,rfl⟩:=g;obtain⟨z,x,C,rel,m⟩:=uk I.hok (.inl e);have N:C.length<=sizeLine:=by rw[<-Paired.length rel];exact z
 have hp:(fm b k v).length<=sizeLine:=by have:=fZ b k v;lia
 refine yT m.typeIs (Ec F (oo I.hok (o.rel l)) m N λP R i hs=>h _ ?_);obtain⟨t,D,J,p,B,G,K,_,L⟩:=i;have keep:∀c d,H c=some (.tup d)->upd H a (.dN (fm b k v)) c=some (.tup d):=λc d j=>by
  rw[ef (fh j e (λz=>nomatch z))];exact j
 exact jZ I (by rw[e];exact True.intro) hs ⟨t,p⟩ ⟨hp,x,_,Paired.J4 (rel.put k (o.rel l) M) λ_ _ q=>⟨q.1,q.2.1.keeps keep,q.2.2⟩,t,D,J,p,B,G,K,L⟩
end
inductive CY (Q:VK)(x:V)(y:V)(H2:Hp):Prop
 |mk (a v:_)(_:x=.ref a)(_:hU H2 a y (some v))(_:Q v H2)
def DD (td ty:TE):TE:=λσ H Q=>td σ H λx H1=>ty σ H1 λy H2=>CY Q x y H2
inductive E2 (neg:Bool)(Q:VK)(y:V)(x:V)(H2:Hp):Prop
 |mk (a o:_)(_:x=.ref a)(_:hU H2 a y o)(_:Q (.bl (if neg then !o.isSome else o.isSome)) H2)
def Da (neg:Bool)(ty td:TE):TE:=λσ H Q=>ty σ H λy H1=>td σ H1 λx H2=>E2 neg Q y x H2
inductive C5 (D:mN)(σ:St)(v:V)(x:V)(y:V)(H3:Hp):Prop
 |mk (a H4:_)(_:x=.ref a)(_:lF H3 a y v H4)(_:D.nx σ H4)
def DS (td ty tv:TE):TS:=λD σ H=>tv σ H λv H1=>td σ H1 λx H2=>ty σ H2 λy H3=>C5 D σ v x y H3
section
variable {o i value:Expr}{pos' tpos:Pos}{td ty tv:TE}
theorem eY (p:X.A.units+1<cLine)(l:PE X o td)(z:PE X i ty)(hs:EO i:=by exact λ_ _=>rfl):PE X (.Subscript o i pos) (DD td ty):=by
 intro b s σ H Q I h;refine wg PySem.F.slot_dict_getitem.lookup hs (fW (l b s σ H _ I h) ?_);rintro u q ⟨x,m,t,r,D⟩;refine fW (z b q σ m _ t D) ?_;rintro L J ⟨y,B,e,w,a,v,j,g,E⟩;subst j;obtain rfl:u=Value.ref a:=r;exact⟨(oy e g).1,pM p e g w λG K C d=>⟨v,B,C,d,E⟩⟩
theorem BW (v:X.A.units+1<cLine)(t:PE X i ty)(e:PE X o td):PC X .In i o (Da false ty td):=by
 intro b s σ H Q I h;refine fW (t b s σ H _ I h) ?_;rintro G l ⟨y,j,q,r,B⟩;refine fW (e b l σ j _ q B) ?_;rintro u E ⟨x,w,C,m,a,p,d,g,D⟩;subst d;obtain rfl:u=Value.ref a:=m;exact ac (Dn v C g r λF z=>ar ⟨.bl p.isSome,w,z,rfl,D⟩)
theorem u3 (v:X.A.units+1<cLine)(t:PE X i ty)(e:PE X o td):PC X .NotIn i o (Da true ty td):=by
 intro b s σ H Q I h;refine fW (t b s σ H _ I h) ?_;rintro G l ⟨y,j,q,r,B⟩;refine fW (e b l σ j _ q B) ?_;rintro u E ⟨x,w,C,m,a,p,d,g,D⟩;subst d;obtain rfl:u=Value.ref a:=m;exact ac (Dn v C g r λF z=>ar ⟨.bl (!p.isSome),w,z,rfl,D⟩)
theorem kZ (F:X.A.units+1<cLine)(B:PE X o td)(K:PE X i ty)(M:PE X value tv)(hs:swapsWith value (some (.Subscript o i pos')) pos.line X.env=pure false):PS X (.Assign [.Subscript o i pos'] value pos) (DS td ty tv):=by
 intro b s σ H D I h;refine wpAny_Assign_Subscript (fW (M b s σ H _ I h) ?_) hs;rintro r E ⟨v,C,j,z,q⟩;refine fW (B b E σ C _ j q) ?_;rintro u p ⟨x,L,w,G,N⟩;refine fW (K b p σ L _ w N) ?_;rintro R Q ⟨y,P,l,J,a,m,d,g,t⟩;subst d;obtain rfl:u=Value.ref a:=G;exact pL F l g J z λO e=>⟨σ,m,e,t⟩
end
def DB:TE:=λ_ H Q=>∀p,H p=none->Q (.ref p) (upd H p (.dN []))
theorem AK (h:Heap)(hb:sysModules<h.objs.size):fR P w H (h.push {cls:=.type "dict",data:=.dict #[]}) h.objs.size (.dN []):=
 ⟨bo _,beq_eq_false_iff_ne.mpr (Ne.symm (aW hb)),[],.nil,_,#[],0,aK _ rfl,⟨rfl,rfl,rfl⟩,rfl,rfl,bM⟩
theorem mx:PE X (.Dict [] [] pos) DB:=λpins s σ H Q I h=>
 wpAny_Dict_empty ⟨.ref s.heap.objs.size,_,I.laid (a:=s.heap.objs.size) (o:=.dN []) (t':=s.toks) (λ_ _ q=>aA _ q) (ao _) (AK s.heap I.big),rfl,h _ (I.hok.fresh (ao _))⟩
def rY (P:Program)(w:World):PySem.KeyKind P w Unit where
 is:=λ_ v=>match v with | .none=>true | _=>false
 hash:=λ_=>W.hashW w.params .none
 inj:=λ_ _ _ _ _=>rfl
 byValue:=λ_ v h=>by cases v <;> first | rfl | (simp at h)
 pyHash:=λ{A E s k v Q} hv h=>by
  cases v <;> first | (simp at hv;done) | skip
  exact W.pyHash_slot (T:="NoneType") rfl PySem.F.slot_NoneType_hash PySem.F.entry_NoneType_hash (PySem.F.args_NoneType_hash_1 _) (beq_builtin_none _) (.inl rfl) (ac (ar (ac (wpAny_mkInt (ar ⟨_,_,rfl,h⟩)))))
 eqBool:=λ{A E s a b u v Q} hu hv h=>by
  cases u <;> first | (simp at hu;done) | skip
  cases v <;> first | (simp at hv;done) | skip
  unfold eqBool
  try with_reducible refine bA ?_
  show wpAny _ _ (if (Value.none == Value.none)=true then _ else _) Q E s;rw[ax (show(Value.none == Value.none)=true by simp)];exact ac (bZ (ar (by simpa using h)))
 «strs»:=λk x t v h=>by simp at h
def Dy (tv:TE):TE:=λσ H Q=>∀p,H p=none->tv σ (upd H p (.dK [])) λv H2=>H2 p=some (.dK [])/\Q (.ref p) (upd H2 p (.dN [(none,v)]))
def Ga (F:V->Hp->Prop):List (V×V)->Hp->Prop
 |[(.non,y)],H=>F y H
 |_,_=>False
theorem zR {F:V->Hp->Prop}{ps:List (V×V)}(h:Ga F ps H):∃y,ps=[(V.non,y)]/\F y H:=by
 cases ps with
 |nil=>exact h.elim
 |cons p t=>
  obtain⟨x,y⟩:=p;cases t with
  |cons _ _=>cases x <;> exact h.elim
  |nil=>
   cases x with
   |non=>exact⟨y,rfl,h⟩
   |_=>exact h.elim
theorem tW {kpos:Pos}{v:Expr}{tv:TE}(Y:PE X v tv):PE X (.Dict [some (.Constant .none j kpos)] [v] pos) (Dy tv):=by
 intro h s σ H Q I q;have hn:=I.hok.fresh (ao s.heap.objs.size);have I1:=I.laid (a:=s.heap.objs.size) (o:=.dK []) (h':=s.heap.push {cls:=.type "dict",data:=.dict #[]}) (t':=s.toks) (λ_ _ q=>aA _ q) (ao _) (pO s.heap I.big);have U:GG X pos [some (.Constant .none j kpos)] [v] [(tC .non,tv)]:=tV iH Y ww;generalize hp:s.heap.objs.size=p at *;have q1:=q p hn;have hq:q5 [(tC .non,tv)] σ (upd H p (.dK [])) (Ga λy i=>i p=some (.dK [])/\Q (.ref p) (upd i p (.dN [(none,y)]))):=q1;have w1:=U h _ σ _ _ I1 hq;refine wpAny_Dict_walk (knd:=rY X.prog X.w) rfl rfl (by simp) (by show 1<=15;decide) (fW w1 λws s2 r=>?_);obtain⟨ps,i,F,rel,q0⟩:=r;obtain⟨y,rfl,e,Z⟩:=zR q0;cases rel with
 |@cons _ b _ _ h1 t1=>
  cases t1;obtain⟨b1,m⟩:=b;cases (show b1=Value.none from h1.1);obtain⟨z,hd,S,K,o,es,P,g1,g2,g3,g4,g5,g6⟩:=qM F.hok e;cases K;have A:es=#[]:=by
   have:=g5.length;rw[cQ,bw]at this;exact Array.eq_empty_of_size_eq_zero this
  subst A;rw[hp];refine⟨[((),m)],⟨rfl,rfl,True.intro⟩,⟨o,#[],P,g1,g2,g3,λ_ T=>by simp at T,.nil,bM⟩,λh' B hs=>⟨.ref p,upd i p (.dN [(none,y)]),?_,rfl,Z⟩⟩;obtain⟨G,d,x,D,O,f3,R,N,f6⟩:=B;have g:Pairs (rY X.prog X.w) d.toList [((),m)]:=N;refine jZ F (by rw[e];exact True.intro) hs ⟨G,D⟩ ⟨by show 1<=sizeLine;decide,hd,[(none,.none,m)],.cons ⟨rfl,rfl,h1.2⟩ .nil,G,d,x,D,O,f3,?_,by simp⟩;generalize M:d.toList=l at g;cases g with
  |@cons e0 _ es0 _ k1 k2 k3=>
   cases k3;obtain⟨k',kk,kh⟩:=R e0 (Array.mem_toList_iff.mp (by rw[M];simp));obtain⟨L,E,J⟩:=e0;have C:E=Value.none:=by
    cases E <;> first | rfl | (simp[rY]at k1)
   subst C;cases (show J=m from k2);have t:L=W.hashW X.w.params .none:=kh;rw[t];rfl
section
variable {kvs:List (gz×V)}{k:gz}{u r:Value}{z:V}
theorem EE (I:eT X pins σ H s)(e:H a=some (.dK kvs))(i:eZ (kV k) u)(j:eZ z r)(D:kvs.length<sizeLine)(B:∀v w' s',eV kvs k=some v->eT X pins σ H s'->eZ v w'->Q w' s')(h:eV kvs k=none->∀s',eT X pins σ (upd H a (.dK (fm kvs k z))) s'->Q r s'):wpAny (model X.prog X.w) A (call (.builtin "dict.setdefault") [.ref a,u,r]) Q E s:=by
 obtain⟨C,d,p,rel,g⟩:=qM I.hok e;refine call_meetsIn PySem.F.slot_dict_setdefault g.typeIs PySem.F.entry_dict_setdefault (PySem.F.args_dict_setdefault_3 _ _ _) (kt_meets_setdefault (fb X.prog X.w) a (lT i) d r)
  ⟨p,g,by rw[<-rel.length];exact C,λv t=>?_,λhn m b hs=>?_⟩
 ·have q:=rel.val k;rw[t]at q;cases l:eV kvs k with
  |none=>rw[l]at q;exact q.elim
  |some x=>rw[l]at q;exact B x v _ l (I.tok _) q
 ·have q:=rel.val k;rw[hn]at q;have l:eV kvs k=none:=by
   cases l:eV kvs k with
   |none=>rfl
   |some x=>rw[l]at q;exact q.elim
  have hp:(fm kvs k z).length<=sizeLine:=by have:=fZ kvs k z;omega
  have y:∃q,m.get? a=some q:=(by obtain⟨q,_,_,o,_⟩:=b;exact⟨q,o⟩);exact h l _ (jZ I (by rw[e];exact True.intro) hs y (nu hp d (rel.put k j) b))
end
inductive CV (ty:TE)(tx:TE)(σ:St)(Q:VK)(x:V)(H1:Hp):Prop
 |mk (a:_)(_:x=.ref a)(_:GY H1 a)(_:ty σ H1 λy H2=>tx σ H2 λz H3=>∃kvs k,H3 a=some (.dK kvs)/\y=kV k/\kvs.length<sizeLine/\(∀v,eV kvs k=some v->Q v H3)/\(eV kvs k=none->Q z (upd H3 a (.dK (fm kvs k z)))))
def Dz (td ty tx:TE):TE:=λσ H Q=>td σ H λx H1=>CV ty tx σ Q x H1
theorem zF {o f:Expr}{apos cpos:Pos}{td ty tx:TE}(K:PE X o td)(U:PE X e ty)(J:PE X f tx)(m:M2 X o "setdefault" apos e f cpos):PE X (.Call (.Attribute o "setdefault" apos) [e,f] [] cpos) (Dz td ty tx):=by
 intro b s σ H Q I h;refine dw m.base m.few m.line PySem.F.plainAttrs_dict PySem.F.slot_dict_setdefault PySem.F.type_dict_setdefault (fW (K b s σ H _ I h) ?_);rintro u P ⟨x,M,i,R,a,p,d,C⟩;subst p;obtain rfl:u=Value.ref a:=R;obtain⟨L,q,_⟩:=vB i d;refine⟨L,q,?_⟩;rw[m.trees];refine Calls.callWith_builtin rfl (Calls.evalArgs_plain (Calls.spliced_cons (fW (U b P σ M _ i C) λiv B ⟨y,T,E,S,q2⟩=>Calls.spliced_cons (fW (J b B σ T _ E q2) λfv s3 ⟨z,w,A,j,r,k,Z,Y,O,D,N⟩=>Calls.spliced_nil ?_))));subst Y;exact EE A Z S j O (λv w' t l g G=>⟨v,w,g,G,D v l⟩) λl t g=>⟨z,_,g,j,N l⟩
theorem ki {α β:Type}{F:α->β->Prop}:∀{as:List α} {bs:List β},as.length=bs.length->(∀(i:Nat) x y,as[i]?=some x->bs[i]?=some y->F x y)->Paired F as bs
 |[],[],_,_=>.nil
 |a::as,b::bs,hl,h=>.cons (h 0 a b rfl rfl) (ki (by simpa using hl) λi x y hx hy=>h (i+1) x y (by simpa using hx) (by simpa using hy))
 |[],_::_,hl,_=>by simp at hl
 |_::_,[],hl,_=>by simp at hl
theorem vA {k:gz}{u:Value}(h:(fb P w).is k u=true):eZ (kV k) u:=by
 rcases gO h with ⟨i,t,rfl,rfl⟩ | ⟨x,t,rfl,rfl⟩
 ·exact⟨t,rfl⟩
 ·exact⟨t,rfl⟩
theorem vJ (N:X.calm=true):jv X (.type "list") (λxs H Q=>∃p kvs,xs=[.ref p]/\H p=some (.dK kvs)/\∀l,H l=none->Q (.ref l) (upd H l (.lst (kvs.map λkv=>kV kv.1)))):=by
 intro D s σ H xs P Q I r h;obtain⟨p,kvs,rfl,e,q⟩:=h;obtain⟨u,rfl,F⟩:=jk r;cases (show u=Value.ref p from F);obtain⟨z,hd,A,rel,L⟩:=qM I.hok e;obtain⟨ep,m⟩:=L.dictAt;have C:=rel.length;refine W.kdl_call (W.kdl_dict (knd:=fb X.prog X.w) (kvs:=A) (ep:=ep) hd) (I.ok.hd N) m (by rw[<-C];exact z) λO J t c G M d=>?_;have hn:=I.hok.fresh (ao s.heap.objs.size);refine⟨.ref s.heap.objs.size,_,I.laid (a:=s.heap.objs.size) (o:=.lst (kvs.map λkv=>kV kv.1)) (t':=J) (λb o q=>G b o q) (ao _) ?_,rfl,q _ hn⟩;refine⟨by rw[ab];exact z,t.toList,c,?_,by rw[M]⟩;refine ki (by rw[ab,C,bw];exact d.1.symm) λi x y j B=>?_;rw[bF]at B;obtain⟨k,v,K,E⟩:=d.2 i y B;rw[ae]at j;have g:kvs[i]?.map (·.1)=A[i]?.map (·.1):=by rw[<-ae,<-ae,rel.keys]
 rw[K]at g;cases hi:kvs[i]? with
 |none=>rw[hi]at j;cases j
 |some kv=>
  rw[hi]at j g;cases j;have:kv.1=k:=by simpa using g
  show eZ (kV kv.1) y;rw[this];exact vA E
theorem iG.two {y y':Str}{c c':Addr}{n j':Nat}(h1:closureFor scope X.env=pure [(y,c),(y',c')]:=by rfl)(h2:X.env.cells.lookup y=some c:=by rfl)(h2':X.env.cells.lookup y'=some c':=by rfl)(hne:y'≠y:=by decide +kernel)(hc:∀z∈scope.names,z.2≠.cell:=by decide +kernel)(hk:scope.kind=.function:=by rfl)(hn:∀z∈scope.names,z.2=.local->scope.names.lookup z.1=some .local:=by decide +kernel)(ho:∀z∈scope.names,z.2=.free->z.1=y\/z.1=y':=by decide +kernel)(hN:N'[n]?=some y:=by rfl)(hN':N'[n+1]?=some y':=by rfl)(hl:N'.length=n+2:=by rfl)(hj:X.N[j]?=some y:=by rfl)(hj':X.N[j']?=some y':=by rfl)(hy:X.env.kindOf y=some .cell:=by rfl)(hy':X.env.kindOf y'=some .cell:=by rfl)(hr:(relabel scope X.env).names.lookup y=some .cell:=by rfl)(hr':(relabel scope X.env).names.lookup y'=some .cell:=by rfl):iG X N' scope [(y,c),(y',c')] n [j,j'] where
 clos:=h1
 cell:=hc
 kind:=hk
 names:=hn
 sub:=λz d e=>by
  by_cases q:z=y
  ·subst q;rw[be,beq_self_eq_true]at e;rw[h2];exact e
  ·have b:(z == y)=false:=beq_false_of_ne q;by_cases q':z=y'
   ·subst q';rw[be,b,be,beq_self_eq_true]at e;rw[h2'];exact e
   ·have s:(z == y')=false:=beq_false_of_ne q';rw[be,b,be,s]at e;simp at e
 has:=λz h=>by
  have l:∃k,(k=NameKind.cell\/k=NameKind.free)/\(z,k)∈(relabel scope X.env).names:=by
   rcases h with h | h
   ·exact⟨_,.inl rfl,bB h⟩
   ·exact⟨_,.inr rfl,bB h⟩
  obtain⟨k,g,t⟩:=l;obtain⟨⟨a,o⟩,r,e⟩:=aw.mp (show(z,k)∈scope.names.map _ from t);have w:z=y\/z=y':=by
   by_cases hfree:o=.free
   ·have v:z=a:=by
     dsimp only at e
     split at e
     ·exact(Prod.mk.inj e).1.symm
     ·exact(Prod.mk.inj e).1.symm
    rw[v];exact ho _ r hfree
   ·have b:(o == NameKind.free)=false:=by simpa using hfree
    simp only[b,bU,cb,if_false]at e;have p:=(Prod.mk.inj e).2;rcases g with q | q
    ·exact absurd (p.trans q) (hc _ r)
    ·exact absurd (p.trans q) hfree
  rcases w with q | q
  ·subst q;exact⟨c,by rw[be,beq_self_eq_true]⟩
  ·subst q;have b:(z == y)=false:=beq_false_of_ne hne;exact⟨c',by rw[be,b,be,beq_self_eq_true]⟩
 len:=by simpa using hl
 frees:=λk i e=>by
  match k,e with
  |0,e=>
   have m:j=i:=by simpa using e
   subst m;exact⟨y,hN,hj,.inl hy,.inl hr,by rw[h2,be,beq_self_eq_true]⟩
  |1,e=>
   have m:j'=i:=by simpa using e
   subst m;have b:(y' == y)=false:=beq_false_of_ne hne;exact⟨y',hN',hj',.inl hy',.inl hr',by rw[h2',be,b,be,beq_self_eq_true]⟩
  |k+2,e=>simp at e
end L2
namespace FB
open PySem
def r8:Nat->PyData->Bool
 |_,.none=>true
 |_,.int _=>true
 |_,.str x=>PyData.strOk x
 |k+1,.list xs=>xs.all (r8 k)
 |k+1,.tuple xs=>xs.all (r8 k)
 |_,_=>false
theorem r6:∀(k:Nat) (d:PyData),r8 k d=true->d.canLay0=true/\d.depth<=k:=by
 intro k
 induction k with
 |zero=>
  intro d h;cases d <;> simp_all [r8,PyData.canLay0,PyData.depth]
 |succ k ih=>
  have all:∀a:List PyData,a.all (r8 k)=true->PyData.canLayAll0 a=true/\PyData.depthAll a<=k:=by
   intro a
   induction a with
   |nil=>intro _;exact⟨rfl,bo _⟩
   |cons x a ihx=>
    intro h;rw[List.all_cons,aH]at h;have g:=ih x h.1;have e:=ihx h.2;refine⟨?_,?_⟩
    ·rw[PyData.canLayAll0,g.1,e.1];rfl
    ·rw[PyData.depthAll];lia
  intro d h;cases d with
  |list a=>
   have z:=all a (by simpa [r8] using h);exact⟨by rw[PyData.canLay0];exact z.1,by rw[PyData.depth];lia⟩
  |tuple a=>
   have z:=all a (by simpa [r8] using h);exact⟨by rw[PyData.canLay0];exact z.1,by rw[PyData.depth];lia⟩
  |dict kvs=>simp[r8]at h
  |bool b=>simp[r8]at h
  |none=>simp[PyData.canLay0,PyData.depth]
  |int i=>simp[PyData.canLay0,PyData.depth]
  |str x=>simp_all [r8,PyData.canLay0,PyData.depth]
theorem l5 {k:Nat}{d:PyData}(h:r8 k d=true)(a:k<=64):SeqAt.shaped d=true:=by
 have z:=r6 k d h;unfold SeqAt.shaped;rw[z.1,cq];exact aq (bz z.2 a)
abbrev Nd:=Str×Int×Int
abbrev En:=Str×Int×List Nd
def Cl (n:Nd):PyData:=.tuple [.str n.1,.int n.2.1,.int n.2.2]
def eU (e:En):Str×Int:=(e.1,e.2.1)
structure fK (x:Str):Prop where
 ok:PyData.strOk x=true
 sh:(reprText x).length<=1000
structure lR (e:En):Prop where
 pt:fK e.1
 nd:∀n∈e.2.2,fK n.1
 few:e.2.2.length<=100
theorem Ea {n:Nd}(h:fK n.1):r8 1 (Cl n)=true:=by simp[Cl,r8,h.ok]
def iS (n:Nd)(e:En):Bool:=decide (e.1=n.1)&&(decide (n.2.1<=e.2.1)&&decide (e.2.1<=n.2.2))
def iW (es:List En)(n:Nd):List Int:=(es.filter (iS n)).map λe=>e.2.1
theorem jz (a:List En)(n:Nd):(iW a n).length<=a.length:=by
 unfold iW;rw[ab];exact bE _ _
theorem vt (a:List En)(e:En)(n:Nd):iW (a++[e]) n=if iS n e=true then iW a n++[e.2.1] else iW a n:=by
 unfold iW;rw[ca,ay];by_cases h:iS n e=true
 ·rw[ax h,aJ,ax h];rfl
 ·rw[av h,aJ,av h];simp
end FB
namespace FB
open PySem L2 PyProof.Rows
variable {H H':Hp}{es:List En}{p:Addr}{ps:List Addr}{v:V}
def del (H:Hp)(ps:List Addr):Hp:=λb=>if b∈ps then none else H b
theorem eE {b:Addr}(h:b∉ps):del H ps b=H b:=by unfold del;rw[av h]
theorem fM {b:Addr}(h:b∈ps):del H ps b=none:=by unfold del;rw[ax h]
theorem fq (H:Hp)(ps:List Addr):eF (del H ps) H:=λb o e=>by
 by_cases h:b∈ps
 ·rw[fM h]at e;cases e
 ·rw[eE h]at e;exact e
theorem lK {o:HO}(h:p∈ps):del (upd H p o) ps=del H ps:=by
 funext b
 by_cases hb:b∈ps
 ·rw[fM hb,fM hb]
 ·rw[eE hb,eE hb,ef (λz=>hb (by rw[z];exact h))]
theorem eF.del (e:eF H H')(ps:List Addr):eF (del H ps) (del H' ps):=λb o q=>by
 by_cases h:b∈ps
 ·rw[fM h]at q;cases q
 ·rw[eE h]at q ⊢;exact e b o q
theorem eA (h:H p=none)(o:HO):eF H (upd H p o):=λb u q=>by rw[ef (et q h)];exact q
theorem eF.upd (e:eF H H'){o:HO}(h:H p=none):eF H (upd H' p o):=λb u q=>by rw[ef (et q h)];exact e b u q
def fJ (H:Hp)(v:V)(n:Nd):Prop:=∃q,v=.ref q/\H q=some (.tup [.str n.1,.int n.2.1,.int n.2.2])
def fg (H:Hp)(v:V)(k:Str×Int):Prop:=∃q,v=.ref q/\H q=some (.tup [.str k.1,.int k.2])
def jQ (H:Hp)(v:V)(e:En):Prop:=∃q a xs,v=.ref q/\H q=some (.tup [.str e.1,.int e.2.1,.ref a])/\H a=some (.lst xs)/\Paired (fJ H) xs e.2.2
def iM (H:Hp)(a:Addr)(es:List En):Prop:=∃xs,H a=some (.lst xs)/\Paired (jQ H) xs es
theorem fJ.same (e:eF H H'){n:Nd}(h:fJ H v n):fJ H' v n:=(by obtain⟨q,h1,h2⟩:=h;exact⟨q,h1,e _ _ h2⟩)
theorem fg.same (e:eF H H'){k:Str×Int}(h:fg H v k):fg H' v k:=(by obtain⟨q,h1,h2⟩:=h;exact⟨q,h1,e _ _ h2⟩)
theorem jQ.same (e:eF H H'){n:En}(h:jQ H v n):jQ H' v n:=
 (by obtain⟨q,a,xs,h1,h2,h3,h4⟩:=h;exact⟨q,a,xs,h1,e _ _ h2,e _ _ h3,Paired.J4 h4 λ_ _=>fJ.same e⟩)
theorem iM.same (e:eF H H'){a:Addr}(h:iM H a es):iM H' a es:=
 (by obtain⟨xs,h1,h2⟩:=h;exact⟨xs,e _ _ h1,Paired.J4 h2 λ_ _=>jQ.same e⟩)
theorem fJ.rep {n:Nd}(h:fJ H v n):qT H v (Cl n):=by
 obtain⟨q,rfl,a⟩:=h;exact .tup a (.cons (.str _) (.cons (.int _) (.cons (.int _) .nil)))
def mO (k:Str×Int):PyData:=.tuple [.str k.1,.int k.2]
theorem fg.rep {k:Str×Int}(h:fg H v k):qT H v (mO k):=by
 obtain⟨q,rfl,a⟩:=h;exact .tup a (.cons (.str _) (.cons (.int _) .nil))
theorem og {H:Hp}{α:Type}{R:V->α->Prop}{f:α->PyData}(h:∀v a,R v a->qT H v (f a)):∀{vs:List V} {as:List α},Paired R vs as->nU H vs (as.map f)
 |_,_,.nil=>.nil
 |_,_,.cons r t=>.cons (h _ _ r) (og h t)
theorem Paired.Kq {α β:Type}{F:α->β->Prop}:∀{as:List α} {bs:List β} {i:Nat} {a:α},Paired F as bs->as[i]?=some a->∃b,bs[i]?=some b/\F a b
 |_,_,_,_,.nil,e=>by simp at e
 |_,_,0,_,.cons r _,e=>by simp at e;subst e;exact⟨_,rfl,r⟩
 |_,_,i+1,a,.cons _ t,e=>by
  obtain⟨b,h1,h2⟩:=Paired.Kq (i:=i) (a:=a) t (by simpa using e);exact⟨b,by simpa using h1,h2⟩
theorem vM {xs:List V}{i:Int}(e:0<=i)(d:i<(xs.length:Int)):∃v,sM xs i=some v/\v∈xs:=by
 have a:i.toNat<xs.length:=by omega
 have b:i=((i.toNat:Nat):Int):=by omega
 have q:sM xs ((i.toNat:Nat):Int)=some xs[i.toNat]:=oA (ak a);rw[<-b]at q;exact⟨_,q,List.getElem_mem a⟩
theorem kK {ns:List Int}{i:Int}(b:0<=i)(a:i<(ns.length:Int)):∃z,sM (ns.map V.int) i=some (.int z)/\z∈ns:=by
 obtain⟨v,e,d⟩:=vM (xs:=ns.map V.int) b (by rw[ab];exact a);obtain⟨z,g,rfl⟩:=aw.mp d;exact⟨z,e,g⟩
def ib (es:List En)(x:Str):List Int:=(es.filter λe=>decide (e.1=x)).map λe=>e.2.1
theorem nG (a:List En)(e:En)(x:Str):ib (a++[e]) x=if e.1=x then ib a x++[e.2.1] else ib a x:=by
 unfold ib;rw[ca,ay];by_cases h:e.1=x
 ·rw[ax h,aJ,ax (aq h)];rfl
 ·rw[av h,aJ,av (by simpa using h)];simp
theorem j5 (a:List En)(x:Str):(ib a x).length<=a.length:=by
 unfold ib;rw[ab];exact bE _ _
def lI (n:Nd)(z:Int):Bool:=decide (n.2.1<=z)&&decide (z<=n.2.2)
theorem pB (a:List En)(n:Nd):iW a n=(ib a n.1).filter (lI n):=by
 induction a with
 |nil=>rfl
 |cons e a ih=>
  unfold iW ib at ih ⊢;rw[aJ,aJ];by_cases h:e.1=n.1
  ·rw[ax (aq h),aG,aJ];have b:iS n e=lI n e.2.1:=by unfold iS lI;rw[aq h,cq]
   rw[b];by_cases hb:lI n e.2.1=true
   ·rw[ax hb,ax hb,aG,ih]
   ·rw[av hb,av hb,ih]
  ·have b:¬iS n e=true:=by unfold iS;rw[au h];simp
   rw[av b,av (by simpa using h),ih]
theorem zy {n:Nd}{ms:List Int}(h:ms.Perm (ib es n.1)):(ms.filter (lI n)).Perm (iW es n):=by
 rw[pB];exact h.filter _
def jf (k:Str×Int):List L2.gz:=[Sum.inr k.1,Sum.inl k.2]
theorem pN {k j:Str×Int}(h:jf k=jf j):k=j:=by
 obtain⟨a,b⟩:=k;obtain⟨c,d⟩:=j;unfold jf at h;injection h with e i
 injection i with g l
 injection e with e
 injection g with g
 exact Prod.ext e g
theorem nv:¬(("needs":Str) = "versions"):=by decide +kernel
def kC (dn dv:Addr):List (Str×V):=gq "versions" (.ref dv) (gq "needs" (.ref dn) [])
theorem gc (a b:Addr):(kC a b).lookup ("needs":Str)=some (.ref a):=by
 unfold kC;rw[iB,av nv,iB,ax rfl]
theorem jL (b a:Addr):(kC b a).lookup ("versions":Str)=some (.ref a):=by
 unfold kC;rw[iB,ax rfl]
theorem pU (e b:Addr){m:Str}(a:¬m = "versions")(d:¬m = "needs"):(kC e b).lookup m=none:=by
 unfold kC;rw[iB,av a,iB,av d]
 all_goals rfl
def mJ (H:Hp)(kv:fV×V)(e:En):Prop:=kv.1=some (jf (eU e))/\∃a zs,kv.2=.ref a/\H a=some (.lst zs)/\Paired (fJ H) zs e.2.2
def uz (H:Hp)(vk:List (gz×V))(es:List En)(d:Str->Prop):Prop:=
 ∀x:Str,(eV vk (Sum.inr x)=none/\ib es x=[])\/∃l ms,eV vk (Sum.inr x)=some (.ref l)/\H l=some (.lst (List.map V.int ms))/\ms.Perm (ib es x)/\(d x->ms.Pairwise (· ≥ ·))
inductive Bm (C:Addr)(H:Hp)(p st:Addr)(es:List En):Prop
 |mk (dx dn dv nks vk:_)(_:H p=some (.ins C dx (kC dn dv)))(_:Rd H dn (.dN ((none,.ref st)::nks)))(_:Paired (mJ H) nks es)(_:Rd H dv (.dK vk))(_:uz H vk es λ_=>True)
structure ge (C:Addr)(H:Hp)(p st:Addr)(es:List En):Prop where
 ex:Bm C H p st es
theorem mJ.same (e:eF H H'){kv:fV×V}{n:En}(h:mJ H kv n):mJ H' kv n:=
 (by obtain⟨h1,a,zs,h2,h3,h4⟩:=h;exact⟨h1,a,zs,h2,e _ _ h3,Paired.J4 h4 λ_ _=>fJ.same e⟩)
theorem uz.same (e:eF H H'){vk:List (gz×V)}{d:Str->Prop}(h:uz H vk es d):uz H' vk es d:=λx=>by
 rcases h x with z | ⟨l,ms,h1,h2,h3,h4⟩
 ·exact .inl z
 ·exact .inr ⟨l,ms,h1,e _ _ h2,h3,h4⟩
theorem io (e:eF H H'){a:Addr}{u:HO}(h:Rd H a u):Rd H' a u:=h.imp (e _ _) (by rintro⟨o,z⟩;exact⟨o,e _ _ z⟩)
theorem ge.same {C:Addr}(e:eF H H'){st:Addr}(h:ge C H p st es):ge C H' p st es:=by
 obtain⟨o,d,l,a,b,j,g,q,i,m⟩:=h.ex;exact⟨o,d,l,a,b,e _ _ j,io e g,Paired.J4 q λ_ _=>mJ.same e,io e i,m.same e⟩
theorem qZ {H:Hp}:∀{nks:List (fV×V)} {es:List En},Paired (mJ H) nks es->∀k:Str×Int,(k∉es.map eU/\eV nks (some (jf k))=none)\/∃e∈es,eU e=k/\∃a zs,eV nks (some (jf k))=some (.ref a)/\H a=some (.lst zs)/\Paired (fJ H) zs e.2.2
 |_,_,.nil,k=>.inl ⟨by simp,rfl⟩
 |_,_,.cons (a:=kv) (b:=e) r t,k=>by
  obtain⟨h1,a,zs,h2,h3,h4⟩:=r;by_cases hk:eU e=k
  ·refine .inr ⟨e,by simp,hk,a,zs,?_,h3,h4⟩;rw[gF (by rw[h1,hk]),h2]
  ·have hn:¬kv.1=some (jf k):=by
    rw[h1];exact λz=>hk (pN (Option.some.inj z))
   rw[gu hn];rcases qZ t k with ⟨i,g⟩ | ⟨h,d,z⟩
   ·refine .inl ⟨?_,g⟩;rw[aG,am];exact λy=>y.elim (λq=>hk q.symm) i
   ·exact .inr ⟨h,by simp[d],z⟩
end FB
namespace L2
open PySem PySem.Spec PyProof.Rows
variable {X:Cx}{pos:Pos}{w:World}
section
variable {pins:List (Addr×Obj)}{σ:St}{H:Hp}{s:Shared}{h':Heap}
theorem eT.Kr {t':Nat}{ch:List Addr}(I:eT X pins σ H s)(d:∀b∈ch,jP X pins H b)(k:∀b o,b∉ch->s.heap.get? b=some o->h'.get? b=some o):eT X pins σ H {s with heap:=h',toks:=t'}:=by
 refine I.step (g':=s.gens) (d':=s.drawn) (ch:=ch) (λb j=>?_) (λb o _ _ a e _=>k b o a e) (λb o _ _ a e _=>⟨o.slots,k b o a e⟩) (λ_ _ _ _ n=>n)
  (λb o a e=>⟨o,k b o a e⟩) (λ_ _ e=>e) (λ_ _ _ e=>e) (λb B e=>⟨#[],by rw[e];simp⟩) (λm l=>?_) (λb u e=>?_) I.bare
 ·obtain⟨y,w,A,x,t,h⟩:=d b j;exact⟨x,w,t,h⟩
 ·obtain⟨o,i,p,g,r⟩:=l;exact⟨o,i,p,k _ o (λz=>(d _ z).2.1 rfl) g,r⟩
 ·have out:∀c v,H c=some v->c∉ch:=λc v q z=>by rw[(d c z).1]at q;cases q
  refine(I.hok b u e).J5 (λc v a q=>k c v ?_ q) (λ_ q=>q) λ_ _ q=>q;rcases a with z | z
  ·rw[z];exact out b u e
  ·exact out c _ z
end
def Fj (K:W.Frag)(a:Addr):It:=
 ⟨λi H=>∃xs x,eX K H a xs/\xs[i]?=some x,λi H x H'=>∃t y,H t=none/\x=.ref t/\H'=upd H t (.tup [.int i,y])/\∀xs,eX K H a xs->xs[i]?=some y,λi H=>∃xs,eX K H a xs/\xs.length<=i⟩
theorem xj {P:Program}{K:W.Frag}{elts:List Expr}{k:Nat}(a e m:Addr)(ap:e≠m):qp P w K (.Tuple elts k pos) (Fj K a) [e,m] e (λi h=>(∃old,IsEnum h e m i old)/\h.IsListIter m a i) where
 mem:=by simp
 obj:=λi h j b q=>by
  obtain⟨⟨old,l⟩,o,e1,c,d⟩:=j;rcases am.mp q with z | z
  ·subst z
   exact⟨_,l,λv z=>by
    have z':Data.fields _=Data.cell v:=z
    cases z'⟩
  ·rw[aj.mp z];exact⟨o,e1,λv z=>by rw[d]at z;cases z⟩
 keep:=λi h h' j O=>⟨(by obtain⟨old,l⟩:=j.1;exact⟨old,O e (by simp) _ l⟩),j.2.at λo z=>O m (by simp) o z⟩
 item:=by
  intro X F Z hK hc i B s σ H E I S j hg;subst F Z hK;obtain⟨xs,x,R,hx⟩:=hg;obtain⟨g,rv,p,hz⟩:=I.list R;obtain⟨u,hu,ru⟩:=rv.get hx;obtain⟨⟨old,l⟩,r⟩:=j;have Q:s.heap.IsList a g.toArray:=p.isList;have al:a≠e:=λz=>by
   obtain⟨o,G,N,_⟩:=Q;rw[z,l]at G;cases G;exact absurd N (show ¬(Value.type "enumerate" = Value.type "list") by decide)
  have ad:a≠m:=λz=>by
   obtain⟨o,G,N,_⟩:=Q;obtain⟨o',g1,g2,_⟩:=r;rw[z,g1]at G;cases G;rw[g2]at N;exact absurd N (by decide)
  have hi:i<g.toArray.size:=by
   have:=(af.mp hu).1;simpa using this
  have W:=WalksT.enumerate (prog:=X.prog) (w:=X.w) (A:=X.A) (I.ok.hd hc) e m a ap al ad g.toArray;refine W.item i s _ _ hi ⟨⟨old,l⟩,r,Q⟩ λT a0 h' tk F hT D hM O=>⟨.ref T,rfl,W.go elts k pos i T _ _ _ hM λag J L=>?_⟩;have ah:s.heap.get? T=none:=bi hT;have C:H T=none:=I.hok.fresh hT;have M:T∉[e,m]:=W.apart i T _ hM;have I1:eT X B σ H {s with heap:=ag,toks:=tk}:=I.Kr (ch:=[e,m]) S λb o q z=>L b o q (O b o q z);obtain⟨o,ho,as,n,aa⟩:=D;have Y:=L T o M ho;obtain⟨t,y,U,rfl⟩:=F;have an:y=u:=by
   have:g.toArray[i]?=some u:=by simpa using hu
   rw[this]at U;exact(Option.some.inj U).symm
  subst an;refine⟨.ref T,upd H T (.tup [.int i,x]),I1.adopt (I.Kp ah C) ⟨by show 2<=sizeLine;decide,[.int i t,y],.cons ⟨t,rfl⟩ (.cons ru .nil),o,Y,as,n,aa⟩,rfl,⟨T,x,C,rfl,rfl,λys U=>by rw[I.Kd U R];exact hx⟩,⟨J.1,J.2.1⟩,λb q=>?_⟩;rw[ef (show b≠T from λz=>M (by rw[<-z];exact q))];exact(S b q).1
 done:=by
  intro X F Z hK hc i B s σ H E I S j hg;subst F Z hK;obtain⟨xs,R,hx⟩:=hg;obtain⟨g,rv,p,hz⟩:=I.list R;obtain⟨⟨old,l⟩,r⟩:=j;have Q:=rv.length;obtain⟨f0,f1,f2,f3,f4,f5⟩:=S m (by simp);exact wpAny_pyNext_enum_end (I.ok.hd hc) l r p.isList (by simp;omega) λh' eb=>⟨rfl,I.turned (t':=s.toks) (λb o q e=>eb b o q e) f0 f1 f3 f4 f5⟩
 self:=λ_ _ _ _ _ j h=>(by obtain⟨_,l⟩:=j.1;exact wpAny_pyIter_enum l h)
def Gr (K:W.Frag)(tl:TE):TI:=λσ H R=>tl σ H λx H1=>∃a xs,x=.ref a/\H1 a=some (.lst xs)/\R (Fj K a) H1
theorem wx {elts:List Expr}{k:Nat}{tpos p:Pos}{l:Expr}{tl:TE}(B:Gl X "enumerate")(L:X.mg "enumerate" = none)(J:PE X l tl)(hs:starEach [l] X.env=[(false,eval l X.env)]:=by rfl):PI X (.Tuple elts k tpos) (.Call (.Name "enumerate" p) [l] [] pos) (Gr X.K tl):=by
 intro g s σ H R I h;refine bD (jI I B L PyProof.Rows.boot_enumerate ?_ (by decide) (by decide));refine PyProof.Rows.callWith_type1 ?_ hs rfl;have F:=(dZ J eg hs) pos g s σ H (λi e=>match i with | [x]=>(∃a xs,x=.ref a/\e a=some (.lst xs)/\R (Fj X.K a) e) | _=>False) I h;refine fW F ?_;rintro P s1 ⟨i,e,d,r,v⟩
 match i,r,v with
 |[x],r,⟨a,xs,e2,hS,q⟩=>
  subst e2;obtain⟨u,rfl,y⟩:=jk r;cases (show u=Value.ref a from y);obtain⟨O,E,n,N,j⟩:=(show fR X.prog X.w e s1.heap a (.lst xs) from d.hok a _ hS);refine call_enumerate_1 j λC o m G D=>?_;refine wpAny_pyIter_enum (s:={s1 with heap:=C}) o ?_;have t:s1.heap.get? s1.heap.objs.size=none:=bi (ao _);have M:s1.heap.get? (s1.heap.objs.size+1)=none:=bi (dA _);refine⟨s1.heap.objs.size+1,[s1.heap.objs.size+1,s1.heap.objs.size],_,_,e,rfl,d.kept (t':=s1.toks) D,xj a _ _ (Nat.succ_ne_self _),⟨⟨_,o⟩,m⟩,λb A=>?_,q⟩;rcases am.mp A with z | z
  ·subst z;exact d.Kp M (d.hok.fresh (dA _))
  ·rw[aj.mp z];exact d.Kp t (d.hok.fresh (ao _))
theorem uh {K:W.Frag}{a:Addr}{xs:List V}{g:TG}{tb:TS}{D:mN}{σ:St}{H:Hp}(b:Nat->St->Hp->Prop)(o:b 0 σ H)(j:∀i σ H,i<=xs.length->b i σ H->eX K H a xs)(hs:∀i x σ H t,xs[i]?=some x->b i σ H->H t=none->g (.ref t) σ (upd H t (.tup [.int (i:Nat),x])) λσ2 H2=>tb {D with nx:=b (i+1),ct:=b (i+1),bk:=D.nx} σ2 H2)(h:∀σ H,b xs.length σ H->D.nx σ H):∃W:Nat->Nat->St->Hp->Prop,(∃m,W 0 m σ H)/\∀i m σ H,W i m σ H->((Fj K a).stop i H/\D.nx σ H)\/((Fj K a).go i H/\∃N:St->Hp->Prop,(∀σ' H',N σ' H'->∃m',m'<m/\W (i+1) m' σ' H')/\∀x H',(Fj K a).yld i H x H'->g x σ H' λσ2 H2=>tb {D with nx:=N,ct:=N,bk:=D.nx} σ2 H2):=by
 refine⟨λi m σ H=>m=xs.length-i/\i<=xs.length/\b i σ H,⟨xs.length,by simp,bo _,o⟩,?_⟩;rintro i m σ H ⟨rfl,e,p⟩;have q:=j i σ H e p;rcases dj i xs.length with d | hge
 ·refine .inr ⟨⟨xs,xs[i],q,by simp[d]⟩,b (i+1),λσ' H' r=>⟨xs.length-(i+1),by omega,rfl,d,r⟩,λx H' y=>?_⟩;obtain⟨t,z,l,rfl,rfl,y⟩:=y;exact hs i z σ _ t (y xs q) p l
 ·obtain rfl:i=xs.length:=Nat.le_antisymm e hge;exact .inl ⟨⟨xs,q,ao _⟩,h σ H p⟩
section
variable {k:Nat}{x:Str}{p:Pos}{e:Expr}{es:List Expr}{t:TA}{i:Nat}
inductive C4 (P:Program)(w:World)(K:W.Frag)(mg:Str->Option Value)(base:Heap)(k:Nat)(i:Nat)(t:TA)(σ:St)(H:Hp)(Q:VK):Prop
 |mk (g gd ps sp:_)(_:σ[i]?=some (some (.ref g)))(_:fi P w K mg base fB k g gd ps sp)(_:W.keepIn K (.ref g)=true)(_:iC K gd ps [])(_:t σ H λvs H1=>sp vs H1 Q E0)
def DG (P:Program)(w:World)(K:W.Frag)(mg:Str->Option Value)(base:Heap)(k i:Nat)(t:TA):TE:=λσ H Q=>C4 P w K mg base k i t σ H Q
theorem zJ (z:X.N[i]?=some x)(J:CO X.env.scope x)(j:gK k X.A)(L:PA X (e::es) t)(hd:(x == ("__debug__":Str))=false:=by decide)(hcd:(x == ("__classdict__":Str))=false:=by decide)(he:starEach (e::es) X.env=(false,eval e X.env)::starEach es X.env:=by rfl)(hpl:(backTo pos (starEach es X.env)).any (·.1)=false:=by rfl):PE X (.Call (.Name x p) (e::es) [] pos) (DG X.prog X.w X.K X.mg X.base k i t):=by
 intro a s σ H Q I h;obtain⟨g,Y,P,O,G,F,D,m,q⟩:=h;refine bD (fW (zA z J hd hcd a s σ H (λv b=>v=.ref g/\b=H) I ⟨_,G,rfl,rfl⟩) ?_);rintro u l ⟨v,b,y,r,C,o⟩;subst C o;cases (show u=Value.ref g from r);refine W.callWith_K (h₀:=X.base) I.ok.mod.kin D (fW (L pos a l σ b _ y q) ?_) he hpl;rintro S U ⟨T,R,d,B,M⟩;refine⟨d.kIn,?_⟩;exact rQ (ds:=[]) (dvs:=[]) (E:=E0) F j m .nil fE d B (by rw[bW];exact M)
end
theorem pC:typeLookup (.type "list") "keys" = pure none:=by rw[typeLookup_type,builtinLookup_eq_fast];kernel_rfl
theorem yg {prog:Program}{A:Around}{E:Value->Shared->Prop}{s:Shared}{a:Addr}{xs:Array Value}{k:Nat}{Q:Option Value->Shared->Prop}(l:s.heap.get? a=some {cls:=.type "list",data:=.seq xs k})(q:A.handled=none)(h:∀h' tk,(∀b o,s.heap.get? b=some o->h'.get? b=some o)->Q none {s with heap:=h',toks:=tk}):wpAny (model prog w) A (getAttr? (.ref a) "keys") Q E s:=by
 obtain⟨hp,g,d,tk,p⟩:=s;have m:∀j,(⟨hp,g,d,j,p⟩:Shared).TypeIs (.ref a) "list":=λ_=>⟨_,l,rfl⟩;have y:=sub_AttributeError;have z:=PySem.F.slot_list_getattribute.lookup;have v:=PySem.F.slot_list_getattribute.bind (.ref a);have r:=am_list_getattr_none;unfold getAttr? getAttrBy? getAttrBy
 repeat (any_goals (first | assumption | exact m _ | ((with_reducible show wpAny _ _ (call (Value.builtin "list.__getattribute__") _ _) _ _ _);refine call_meets PySem.F.slot_list_getattribute (m _) am_entry_list_getattribute (PySem.F.args_list_getattribute_2 _ _) (meets_getattribute_miss_list a xs k #[] "keys" _ pC (by decide +kernel) (by decide +kernel)) ⟨l,q,λh' j e i=>?_⟩) | wp_step))
 obtain⟨t,B,x⟩:=i.there;show wpAny _ _ (getattributeRaised _ _ _ _ _ _ _) _ _ _;unfold getattributeRaised
 repeat (any_goals (first | assumption | wp_step))
 exact h _ _ i.keeps
theorem lr:entryFor table "dict.update.loop" = some Builtin.«dict.update.loop»:=entryFor_of_tree (by kernel_rfl)
theorem i7:plainId "dict.update.loop" = true:=by decide +kernel
def CU (P:Program)(w:World)(h:Heap)(S it:Addr)(items:Array Value)(ks:List (gz×Value)):Prop:=
 ∀j,j<items.size->∃q k u v,items[j]?=some (.ref q)/\q≠S/\q≠it/\h.IsTuple q #[u,v]/\(fb P w).is k u=true/\ks[j]?=some (k,v)
section
variable {P:Program}{A:Around}{R:Result->Shared->Prop}{S it l:Addr}{items:Array Value}{ks:List (gz×Value)}
theorem yL (hh:A.handled=none)(m:S≠it)(O:l≠it)(F:l≠S)(ah:ks.length=items.size):∀(n i:Nat) (s:Shared) (kvs:List (gz×Value)),items.size-i=n->i<=items.size->s.heap.IsListIter it l i->s.heap.IsList l items->s.heap.DictOf (fb P w) S kvs->kvs.length+(items.size-i)<=sizeLine->CU P w s.heap S it items ks->(∀h' tk,h'.DictOf (fb P w) S (merged kvs (ks.drop i))->(∀b o,b≠S->b≠it->s.heap.get? b=some o->h'.get? b=some o)->R (.ok (.ret .none)) {s with heap:=h',toks:=tk})->codeAny (model P w) A (.builtin "dict.update.loop" ⟨[.ref S,.ref it,rawInt i,.none],[]⟩) R s:=by
 intro n
 induction n with
 |zero=>
  intro i s kvs hn hi t C T hz hp h;have X:i=items.size:=by lia
  refine dH lr ?_;rw[Around.under_plainId i7 _];show wpAny _ A.in1 (pyNext (.ref it) >>= _) _ _ s;refine ac (wpAny_pyNext_list_end hh t C (by rw[X];exact Array.getElem?_eq_none (ao _)) λh' eb=>?_)
  refine ac (ar (ar (h h' s.toks ?_ λb o p g e=>eb b o g e)));rw[List.drop_eq_nil_of_le (by lia)];obtain⟨o,Z,L,M,r⟩:=T;exact⟨o,Z,L,eb S o m M,r⟩
 |succ n ih=>
  intro i s kvs hn hi t C T hz hp h;have y:i<items.size:=by lia
  obtain⟨q,k,u,v,hx,ag,B,hq,hk,U⟩:=hp i y;refine dH lr ?_;rw[Around.under_plainId i7 _];show wpAny _ A.in1 (pyNext (.ref it) >>= _) _ _ s;refine ac (wpAny_pyNext_list_item t C hx λD z J=>?_);have a:∀b o,b≠it->s.heap.get? b=some o->D.get? b=some o:=λb o p e=>(J.2 b p).trans e;obtain⟨oq,x,G,nq,ad⟩:=id hq;have I:D.DictOf (fb P w) S kvs:=by
   obtain⟨o,Z,L,M,r⟩:=T;exact⟨o,Z,L,a S o m M,r⟩
  have hT:(⟨D,s.gens,s.drawn,s.toks,s.os⟩:Shared).TypeIs (.ref q) "tuple":=⟨_,a q oq B x,G⟩;refine ac (bA (ac (cY ?_)));unfold Builtin.Dict.pairItems;refine ac (wpAny_typeOf hT ?_);rw[ax (by decide)];refine ac (dQ (a q oq B x) ad (ar ?_));show wpAny _ _ (holding [u,v] (dictSet S u v)) _ _ _;refine bA (wpAny_dictSet_pairs (hsz:=by lia) hk I λh2 E K=>?_);have d:∀b o,b≠S->D.get? b=some o->h2.get? b=some o:=λb o p e=>(K.2 b p).trans e;refine ar ⟨dr i7 _,?_⟩;have hc:rawInt ((i:Int)+1)=rawInt ((i+1:Nat):Int):=by push_cast;rfl
  rw[hc];have aa:ks.drop i=(k,v)::ks.drop (i+1):=by
   obtain⟨Y,e'⟩:=af.mp U;rw[db Y,e']
  refine ih (i+1) _ (stored kvs k v) (by lia) y (z.at λo e=>d it o (Ne.symm m) e) (C.at λo e=>d l o F (a l o O e)) E ?_ (λj hj=>?_) λh' tk N H=>?_
  ·have:(stored kvs k v).length<=kvs.length+1:=by
    unfold stored
    split
    ·rw[ab];lia
    ·rw[aF];exact ao _
   lia
  ·obtain⟨Q,k',u',v',z1,z2,z3,⟨o',z4,z5⟩,z6⟩:=hp j hj;exact⟨Q,k',u',v',z1,z2,z3,⟨o',d Q o' z2 (a Q o' z3 z4),z5⟩,z6⟩
  ·refine h h' tk ?_ λb o p g e=>H b o p g (d b o p (a b o g e));rw[aa];exact N
end
def v4 (H:Hp)(v:V)(kv:gz×V):Prop:=∃q,v=.ref q/\H q=some (.tup [kV kv.1,kv.2])
theorem pT (hc:X.calm=true):jv X (.type "dict") (λxs H Q=>∃l ys kvs,xs=[.ref l]/\H l=some (.lst ys)/\Paired (v4 H) ys kvs/\kvs.length<=1000/\∀p,H p=none->Q (.ref p) (upd H p (.dK (iJ [] kvs)))):=by
 intro a1 s σ H xs us Q I r h;obtain⟨l,ys,kvs,rfl,e,hp,hz,q⟩:=h;obtain⟨u,rfl,r1⟩:=jk r;cases (show u=Value.ref l from r1);obtain⟨ag,g,n,rv,J⟩:=(show fR X.prog X.w H s.heap l (.lst ys) from I.hok l _ e);have N:ys.length=kvs.length:=Paired.length hp;have M:ys.length=g.length:=rv.length;generalize L:s.heap.objs.size=S;have nS:s.heap.get? S=none:=L▸bi (ao _);have an:∃K:List (gz×Value),KV kvs K/\K.length=g.length/\∀j,j<g.length->∃q k u v,g[j]?=some (.ref q)/\s.heap.IsTuple q #[u,v]/\(fb X.prog X.w).is k u=true/\K[j]?=some (k,v):=by
  clear e J ag r1 r q N M
  induction rv generalizing kvs with
  |nil=>cases hp;exact⟨[],.nil,rfl,λj O=>by simp at O⟩
  |@cons y u ys us hy t ih=>
   cases hp with
   |@cons _ kv _ kvs' i h2=>
    obtain⟨K,g1,g2,g3⟩:=ih kvs' h2 (by rw[aE]at hz;lia);obtain⟨Z,rfl,hq⟩:=i;cases (show u=Value.ref Z from hy);obtain⟨_,tv,rt,o,h3,h4,m,h5⟩:=(show fR X.prog X.w H s.heap Z (.tup [kV kv.1,kv.2]) from I.hok Z _ hq);cases rt with
    |@cons _ u1 _ _ ru1 rt2=>
     cases rt2 with
     |@cons _ u2 _ _ ru2 rt3=>
      cases rt3;refine⟨(kv.1,u2)::K,.cons ⟨rfl,ru2⟩ g1,by simp[g2],λj O=>?_⟩;cases j with
      |zero=>exact⟨Z,kv.1,u1,u2,rfl,⟨o,h3,h4,m,h5⟩,lT ru1,rfl⟩
      |succ j=>
       obtain⟨R,k',u',v',z1,U,z3,z4⟩:=g3 j (by simpa using O);exact⟨R,k',u',v',by simpa using z1,U,z3,by simpa using z4⟩
 obtain⟨K,as,a0,T⟩:=an;refine callType_codes (Q₁:=λY s1=>Y=.ref S/\s1={s with heap:=s.heap.push {cls:=.type "dict",data:=.dict #[]}}) PySem.F.kt_called_dict (PySem.F.kt_typeCall_dict_1 _) PySem.F.entry_dict_init (kt_code_dict_new _ ⟨by rw[L],rfl⟩) ?_;rintro Y s1 ⟨rfl,rfl⟩;have G:(s.heap.push {cls:=.type "dict",data:=.dict #[]}).DictOf (fb X.prog X.w) S []:=L▸Heap.DictOf.new s.heap;refine⟨G.typeIs,PySem.F.args_dict_init_2 _ _,?_⟩;unfold Builtin.«dict.__init__»;refine ac ?_;unfold Builtin.Dict.selfAndRest;refine ac (cK G.typeIs (ar ?_));show wpAny _ _ (Builtin.Dict.updateFrom "dict.__init__" S (.ref l) [] .none) _ _ _;unfold Builtin.Dict.updateFrom;have x:=aA (h:=s.heap) {cls:=.type "dict",data:=.dict #[]} J;refine ac (wpAny_typeOf ⟨_,x,rfl⟩ ?_);rw[ax (by decide)];refine ac (yg x (I.ok.hd hc) λi aa k1=>?_);rw[ax (by decide)];have C:=k1 _ _ x;refine ac (bZ (ac (wpAny_pyIter_list (s:={s with heap:=i,toks:=aa}) ⟨_,C,rfl,n,rfl⟩ (ar ⟨dr i7 _,?_⟩))));dsimp only;generalize E:i.objs.size=it;have al:i.get? it=none:=E▸bi (ao _);have D:∀b o,s.heap.get? b=some o->i.get? b=some o:=λb o z=>k1 b o (aA _ z);have eS:i.get? S=some {cls:=.type "dict",data:=.dict #[]}:=k1 S _ (by rw[<-L];exact aK _ rfl);have up:∀b o,i.get? b=some o->(i.push {cls:=.type "list_iterator",data:=.fields #[.ref l,.int 0 0]}).get? b=some o:=λb o z=>aA _ z;have d:∀b o,i.get? b=some o->b≠it:=λb o z y=>by rw[y,al]at z;cases z
 have B:∀b o,s.heap.get? b=some o->b≠S:=λb o z y=>by rw[y,nS]at z;cases z
 have ah:(i.push {cls:=.type "list_iterator",data:=.fields #[.ref l,.int 0 0]}).DictOf (fb X.prog X.w) S []:=⟨_,#[],0,up _ _ eS,⟨rfl,rfl,rfl⟩,rfl,λ_ he=>by simp at he,.nil,bM⟩;refine yL (A:=X.A.in1) (l:=l) (items:=g.toArray) (ks:=K) (I.ok.hd hc) (d S _ eS) (d l _ C) (B l _ J) (by rw[a0,aM]) g.length 0 _ [] (by simp) (bo _)
  ⟨_,by rw[<-E];exact aK _ rfl,rfl,rfl⟩ ⟨_,up _ _ C,rfl,n,rfl⟩ ah (by rw[cQ,aM];lia) (λj O=>?_) λh' tk P ad=>?_
 ·obtain⟨R,k',u',v',z1,⟨o',U,z3⟩,z4,z5⟩:=T j (by simpa using O);exact⟨R,k',u',v',by simpa using z1,B R o' U,d R o' (D _ _ U),⟨o',up _ _ (D _ _ U),z3⟩,z4,z5⟩
 ·rw[List.drop_zero]at P;have ap:H S=none:=I.hok.fresh (cB L);have hm:(iJ [] kvs).length<=sizeLine:=by
   have i:=j8 kvs [];rw[cQ]at i;rw[bV];lia
  refine⟨rfl,.ref S,upd H S (.dK (iJ [] kvs)),I.laid (a:=S) (o:=.dK (iJ [] kvs)) (h':=h') (t':=tk) (λb o z=>ad b o (B b o z) (d b o (D b o z)) (up b o (D b o z))) (cB L) (nu hm ?_ (as.merge .nil) P),rfl,q S ap⟩;exact beq_eq_false_iff_ne.mpr (Ne.symm (aW (L▸I.big)))
end L2
namespace FB
open PySem L2 PyProof.Rows
variable {H:Hp}
abbrev Pk:=Str×Int
def iO (H:Hp)(a:Addr)(ps:List Pk):Prop:=∃xs,H a=some (.lst xs)/\Paired (fg H) xs ps
def gv (H:Hp)(a:Addr)(ns:List Nd):Prop:=∃zs,H a=some (.lst zs)/\Paired (fJ H) zs ns
theorem iO.same {H':Hp}(e:eF H H'){a:Addr}{ps:List Pk}(h:iO H a ps):iO H' a ps:=(by obtain⟨xs,h1,h2⟩:=h;exact⟨xs,e _ _ h1,Paired.J4 h2 λ_ _=>fg.same e⟩)
theorem gv.same {H':Hp}(e:eF H H'){a:Addr}{ns:List Nd}(h:gv H a ns):gv H' a ns:=(by obtain⟨xs,h1,h2⟩:=h;exact⟨xs,e _ _ h1,Paired.J4 h2 λ_ _=>fJ.same e⟩)
def jS (ps:List Pk):List (gz×V):=ps.map λk=>(Sum.inr k.1,V.int k.2)
def iT (ps:List Pk)(x:Str):Option Int:=(ps.find? λk=>decide (k.1=x)).map (·.2)
theorem jl (x:Str):∀ps:List Pk,eV (jS ps) (Sum.inr x:gz)=(iT ps x).map V.int
 |[]=>rfl
 |k::ps=>by
  have ih:=jl x ps;unfold jS iT at *;rw[aG];by_cases h:k.1=x
  ·rw[gF (by rw[h]),bu,aq h];rfl
  ·rw[gu (λz=>h (Sum.inr.inj z)),ih,bu,au h]
theorem kz:∀(ps qs:List Pk),((qs++ps).map (·.1)).Nodup->iJ (jS qs) (jS ps)=jS (qs++ps)
 |[],qs,_=>by rw[bW];rfl
 |k::ps,qs,h=>by
  have hv:eV (jS qs) (Sum.inr k.1:gz)=none:=by
   rw[jl];have:iT qs k.1=none:=by
    unfold iT;rw[dP.mpr]
    ·rfl
    ·intro x b a;rw[ay,bN]at h;exact h.2.2 x.1 (bn b) k.1 (by simp) (aV a)
   rw[this];rfl
  show iJ (fm (jS qs) (Sum.inr k.1) (V.int k.2)) (jS ps)=_;rw[ii _ hv];have e:jS qs++[((Sum.inr k.1:gz),V.int k.2)]=jS (qs++[k]):=by unfold jS;rw[ay];rfl
  rw[e,kz ps (qs++[k]) (by rw[bH];exact h),bH];rfl
theorem BX {v:V}{k:Pk}(h:fg H v k):v4 H v (Sum.inr k.1,V.int k.2):=h
theorem pw {H:Hp}:∀{xs:List V} {ps:List Pk},Paired (fg H) xs ps->Paired (v4 H) xs (jS ps)
 |_,_,.nil=>.nil
 |_,_,.cons h t=>.cons (BX h) (pw t)
def qm (ps:List Pk)(n:Nd):Bool:=match iT ps n.1 with
 |none=>false
 |some z=>!(lI n z)
def kO (ps:List Pk)(n:Nd):Bool:=(iT ps n.1).isNone
def fX (es:List En)(k:Pk):List Nd:=match es.find? λe=>decide (eU e=k) with
 |some e=>e.2.2
 |none=>[]
def pe (es:List En)(st:List Nd)(ps:List Pk):List (List Nd):=st::ps.map (fX es)
def sZ (p:Nd->Bool)(L:List (List Nd)):Prop:=∀ns∈L,∀m∈ns,p m=false
theorem iA {es:List En}(hn:(es.map eU).Nodup){e:En}(b:e∈es):fX es (eU e)=e.2.2:=by
 unfold fX;have:es.find? (λx=>decide (eU x=eU e))=some e:=by
  induction es with
  |nil=>cases b
  |cons a es ih=>
   rw[aG,aY]at hn;rw[bu];rcases am.mp b with z | z
   ·subst z;rw[aq rfl]
   ·have:¬eU a=eU e:=λy=>hn.1 (y▸bn z);rw[au this];exact ih hn.2 z
 rw[this]
theorem ge.start {C:Addr}{p st:Addr}{es:List En}(B:ge C H p st es):∃dx dn dv,H p=some (.ins C dx (kC dn dv))/\hU H dn .non (some (.ref st))/\∀(v:V) (k:Pk),fg H v k->(k∉es.map eU/\hU H dn v none)\/(k∈es.map eU/\∃e∈es,eU e=k/\∃a zs,hU H dn v (some (.ref a))/\H a=some (.lst zs)/\Paired (fJ H) zs e.2.2):=by
 obtain⟨dx,dn,dv,m,x,w,g,o,y,A⟩:=B.ex;refine⟨dx,dn,dv,w,⟨_,none,g,rfl,by rw[gF rfl]⟩,λv k t=>?_⟩;obtain⟨q,rfl,s⟩:=t;have j:lQ H (some (jf k)) (.ref q):=⟨q,rfl,s⟩;have b:¬((none:fV)=some (jf k)):=by intro z;cases z
 rcases qZ o k with ⟨i,h⟩ | ⟨e,l,d,a,zs,i,h,r⟩
 ·exact .inl ⟨i,_,_,g,j,by rw[gu b,h]⟩
 ·exact .inr ⟨d▸bn l,e,l,d,a,zs,⟨_,_,g,j,by rw[gu b,i]⟩,h,r⟩
end FB
namespace L2
open PySem PySem.Spec PyProof.Rows
def IZ (K:W.Frag)(a b:Addr):It:=
 ⟨λi H=>∃xs ys x y,eX K H a xs/\eX K H b ys/\xs[i]?=some x/\ys[i]?=some y,λi H v H'=>∃t x y,H t=none/\v=.ref t/\H'=upd H t (.tup [x,y])/\(∀xs,eX K H a xs->xs[i]?=some x)/\∀ys,eX K H b ys->ys[i]?=some y,λi H=>∃xs ys,eX K H a xs/\eX K H b ys/\(xs.length<=i\/ys.length<=i)⟩
theorem qq {h:Heap}{n l1 l2:Addr}{xs ys:Array Value}{f0 a b:Value}{i:Nat}{m1 m2:Addr}(hz:IsZip h (n+4) (n+2) (n+3) f0)(H:IsPair h (n+3) a b)(F:h.IsListIter n m1 i)(x:h.IsListIter (n+1) m2 i)(m:h.IsList l1 xs)(j:h.IsList l2 ys):ZipApart (n+4) (n+2) (n+3) n (n+1) l1 l2:=by
 have out:∀{l:Addr} {r:Array Value},h.IsList l r->l≠n+4/\l≠n+3/\l≠n/\l≠n+1:=by
  intro l r w;obtain⟨o,e,g,_⟩:=w;obtain⟨L,C,J,_⟩:=F;obtain⟨K,I,t,_⟩:=x;refine⟨λz=>?_,λz=>?_,λz=>?_,λz=>?_⟩
  ·rw[z,hz]at e;cases e;exact absurd g (show ¬(Value.type "zip" = Value.type "list") by decide)
  ·rw[z,H]at e;cases e;exact absurd g (show ¬(Value.type "tuple" = Value.type "list") by decide)
  ·rw[z,C]at e;cases e;rw[J]at g;exact absurd g (by decide)
  ·rw[z,I]at e;cases e;rw[t]at g;exact absurd g (by decide)
 obtain⟨D,E,G,s⟩:=out m;obtain⟨v,A,B,y⟩:=out j;have d:∀(p q:Nat),p≠q->n+p≠n+q:=λp q h z=>h (Nat.add_left_cancel z);exact⟨d 2 4 (by decide),d 3 4 (by decide),d 0 4 (by decide),d 1 4 (by decide),d 2 3 (by decide),d 2 0 (by decide),d 2 1 (by decide),d 3 0 (by decide),d 3 1 (by decide),d 0 1 (by decide),D,E,G,s,v,A,B,y⟩
theorem yN {P:Program}{w:World}{K:W.Frag}{elts:List Expr}{k:Nat}{pos:Pos}(a b n:Addr):qp P w K (.Tuple elts k pos) (IZ K a b) [n+4,n+2,n+3,n,n+1] (n+4) (λi h=>IsZip h (n+4) (n+2) (n+3) .none/\IsPair h (n+2) (.ref n) (.ref (n+1))/\(∃a b,IsPair h (n+3) a b)/\h.IsListIter n a i/\h.IsListIter (n+1) b i) where
 mem:=by simp
 obj:=λi h t c e=>by
  obtain⟨B,G,⟨_,_,C⟩,⟨o4,e4,_,d4⟩,⟨o5,e5,_,d5⟩⟩:=t;simp only[am,aR,or_false]at e;rcases e with rfl | rfl | rfl | rfl | rfl
  ·exact⟨_,B,λv z=>by have Y:Data.fields _=Data.cell v:=z;cases Y⟩
  ·exact⟨_,G,λv z=>by have Y:Data.seq _=Data.cell v:=z;cases Y⟩
  ·exact⟨_,C,λv z=>by have Y:Data.seq _=Data.cell v:=z;cases Y⟩
  ·exact⟨o4,e4,λv z=>by rw[d4]at z;cases z⟩
  ·exact⟨o5,e5,λv z=>by rw[d5]at z;cases z⟩
 keep:=λi h h' t r=>by
  obtain⟨B,G,⟨x,y,C⟩,L,O⟩:=t;exact⟨r _ (by simp) _ B,r _ (by simp) _ G,⟨x,y,r _ (by simp) _ C⟩,L.at λo z=>r n (by simp) o z,O.at λo z=>r (n+1) (by simp) o z⟩
 item:=by
  intro X U hw hK e i g s σ H E I hf t hg;subst U hw hK;obtain⟨xs,ys,x,y,hq,hr,hx,hy⟩:=hg;obtain⟨j,rv,p,hz⟩:=I.list hq;obtain⟨d,M,p2,ah⟩:=I.list hr;obtain⟨u,hu,ru⟩:=rv.get hx;obtain⟨v,hv,as⟩:=M.get hy;obtain⟨B,G,⟨c1,c2,C⟩,L,O⟩:=t;have S:s.heap.IsList a j.toArray:=p.isList;have q:s.heap.IsList b d.toArray:=p2.isList;have D:=qq B C L O S q;have W:=WalksT.zip2 (prog:=X.prog) (w:=X.w) (A:=X.A) (I.ok.hd e) _ _ _ _ _ a b D j.toArray d.toArray;have i1:i<j.toArray.size:=by have:=(af.mp hu).1;simpa using this
  have i2:i<d.toArray.size:=by have:=(af.mp hv).1;simpa using this
  refine W.item i s _ _ (by lia) ⟨B,G,⟨c1,c2,C⟩,L,O,S,q⟩ λT a3 h' tk U hT R hM r=>⟨.ref T,rfl,W.go elts k pos i T _ _ _ hM λap a0 ad=>?_⟩;have N:s.heap.get? T=none:=bi hT;have Q:H T=none:=I.hok.fresh hT;have l:T∉[n+4,n+3,n,n+1]:=W.apart i T _ hM;have an:T≠n+2:=λz=>by rw[z,G]at N;cases N
  have J:∀c∈[n+4,n+3,n,n+1],jP X g H c:=λc e=>hf c (by simp only[am,aR,or_false]at e ⊢;rcases e with z | z | z | z <;> simp[z])
  have I1:eT X g σ H {s with heap:=ap,toks:=tk}:=I.Kr (ch:=[n+4,n+3,n,n+1]) J λb o F z=>ad b o F (r b o F z);obtain⟨o,ho,a2,m,al⟩:=R;have ag:=ad T o l ho;obtain⟨u',v',aa,Z,rfl⟩:=U;have e1:u'=u:=by
   have:j.toArray[i]?=some u:=by simpa using hu
   rw[this]at aa;exact(Option.some.inj aa).symm
  have e2:v'=v:=by
   have:d.toArray[i]?=some v:=by simpa using hv
   rw[this]at Z;exact(Option.some.inj Z).symm
  subst e1 e2;obtain⟨t1,t2,t3,t4,t5,_⟩:=a0;refine⟨.ref T,upd H T (.tup [x,y]),I1.adopt (I.Kp N Q) ⟨by show 2<=sizeLine;decide,[u',v'],.cons ru (.cons as .nil),o,ag,a2,m,al⟩,rfl,⟨T,x,y,Q,rfl,rfl,λzs hy=>by rw[I.Kd hy hq];exact hx,λzs a1=>by rw[I.Kd a1 hr];exact hy⟩,⟨t1,t2,t3,t4,t5⟩,λc e=>?_⟩;have:c≠T:=λz=>by
   subst z;simp only[am,aR,or_false]at e l;rcases e with z | z | z | z | z
   ·exact l (.inl z)
   ·exact an z
   ·exact l (.inr (.inl z))
   ·exact l (.inr (.inr (.inl z)))
   ·exact l (.inr (.inr (.inr z)))
  rw[ef this];exact(hf c e).1
 done:=by
  intro X U hw hK e i g s σ H E I hf t hg;subst U hw hK;obtain⟨xs,ys,hq,hr,hx⟩:=hg;obtain⟨j,rv,p,hz⟩:=I.list hq;obtain⟨d,M,p2,ah⟩:=I.list hr;obtain⟨B,G,⟨c1,c2,C⟩,L,O⟩:=t;have S:s.heap.IsList a j.toArray:=p.isList;have q:s.heap.IsList b d.toArray:=p2.isList;have l1:=rv.length;have l2:=M.length;have J:∀c∈[n+4,n+3,n,n+1],jP X g H c:=λc e=>hf c (by simp only[am,aR,or_false]at e ⊢;rcases e with z | z | z | z <;> simp[z])
  refine wpAny_pyNext_zip_end (I.ok.hd e) (qq B C L O S q) B G C L O S q ?_ λh' r=>⟨rfl,I.Kr (t':=s.toks) (ch:=[n+4,n+3,n,n+1]) J λb o F z=>?_⟩
  ·rcases hx with z | z
   ·left;simp;lia
   ·right;simp;lia
  ·simp only[am,aR,or_false,not_or]at F;exact r b o F.1 F.2.1 F.2.2.1 F.2.2.2 z
 self:=λ_ _ _ _ _ t h=>wpAny_pyIter_zip t.1 h
def IC (K:W.Frag)(tl tm:TE):TI:=λσ H R=>tl σ H λx H1=>tm σ H1 λy H2=>∃a b xs ys,x=.ref a/\y=.ref b/\H2 a=some (.lst xs)/\H2 b=some (.lst ys)/\R (IZ K a b) H2
theorem DW {X:Cx}{elts:List Expr}{k:Nat}{tpos p pos:Pos}{l m:Expr}{tl tm:TE}(J:Gl X "zip")(hm:X.mg "zip" = none)(U:PE X l tl)(M:PE X m tm)(hs1:starEach [m] X.env=[(false,eval m X.env)]:=by rfl)(hs:starEach [l,m] X.env=[(false,eval l X.env),(false,eval m X.env)]:=by rfl):PI X (.Tuple elts k tpos) (.Call (.Name "zip" p) [l,m] [] pos) (IC X.K tl tm):=by
 intro g s σ H R I h;refine bD (jI I J hm PyProof.Rows.boot_zip ?_ (by decide) (by decide));refine PyProof.Rows.callWith_type1 ?_ (by rw[hs,hs1]) (by rw[hs1];rfl);have P:=(dZ U (dZ M eg hs1) (by rw[hs,hs1])) pos g s σ H (λA e=>match A with | [x,y]=>(∃a b xs ys,x=.ref a/\y=.ref b/\e a=some (.lst xs)/\e b=some (.lst ys)/\R (IZ X.K a b) e) | _=>False) I h;refine fW P ?_;rintro us s1 ⟨A,e,d,r,F⟩
 match A,r,F with
 |[x,y],r,⟨a,b,xs,ys,e1,e2,hS,hT,q⟩=>
  subst e1 e2;obtain⟨u,v,rfl,G,Z⟩:=we r;cases (show u=Value.ref a from G);cases (show v=Value.ref b from Z);obtain⟨hz,B,n,rv,C⟩:=(show fR X.prog X.w e s1.heap a (.lst xs) from d.hok a _ hS);obtain⟨S,t,n2,Y,o⟩:=(show fR X.prog X.w e s1.heap b (.lst ys) from d.hok b _ hT);refine call_zip_2 (xs:=B.toArray) (ys:=t.toArray) ⟨_,C,rfl,_,rfl⟩ ⟨_,o,rfl,_,rfl⟩ λN D L g3 T g5 Q O=>?_;refine wpAny_pyIter_zip (s:={s1 with heap:=N}) D ?_;have i:∀j,s1.heap.get? (s1.heap.objs.size+j)=none:=λj=>bi (dg _ _);refine⟨s1.heap.objs.size+4,[s1.heap.objs.size+4,s1.heap.objs.size+2,s1.heap.objs.size+3,s1.heap.objs.size,s1.heap.objs.size+1],_,_,e,rfl,d.kept (t':=s1.toks) O,yN a b s1.heap.objs.size,⟨D,L,⟨_,_,g3⟩,T,g5⟩,λc E=>?_,q⟩;have fr:∀j,jP X g e (s1.heap.objs.size+j)->True:=λ_ _=>trivial;simp only[am,aR,or_false]at E;rcases E with z | z | z | z | z
  ·subst z;exact d.Kp (i 4) (d.hok.fresh (dg _ _))
  ·subst z;exact d.Kp (i 2) (d.hok.fresh (dg _ _))
  ·subst z;exact d.Kp (i 3) (d.hok.fresh (dg _ _))
  ·subst z;exact d.Kp (i 0) (d.hok.fresh (ao _))
  ·subst z;exact d.Kp (i 1) (d.hok.fresh (dg _ _))
end L2
namespace FB
open PySem L2 PyProof.Rows
variable {H H':Hp}{i:Int}{v:V}
inductive yC where
 |one (k:Pk)
 |many (bs:List Int)
structure Rs where
 who:Option Pk
 place:Int
 told:yC
abbrev Ln:=List Pk×Rs
def qW:yC->Str
 |.one _=>"outside"
 |.many _=>"open"
def gU (H:Hp)(v:V):Option Pk->Prop
 |none=>v=.non
 |some k=>fg H v k
def mi (H:Hp)(v:V):yC->Prop
 |.one k=>fg H v k
 |.many bs=>∃a,v=.ref a/\H a=some (.lst (bs.map V.int))
def nE (H:Hp)(v:V)(r:Rs):Prop:=∃q wv tv,v=.ref q/\H q=some (.tup [.str (qW r.told),wv,.int r.place,tv])/\gU H wv r.who/\mi H tv r.told
def uB (H:Hp)(v:V)(l:Ln):Prop:=∃q a rv,v=.ref q/\H q=some (.tup [.ref a,rv])/\iO H a l.1/\nE H rv l.2
def mK (H:Hp)(a:Addr)(ls:List Ln):Prop:=∃xs,H a=some (.lst xs)/\Paired (uB H) xs ls
theorem gU.same (e:eF H H'):∀{o:Option Pk},gU H v o->gU H' v o
 |none,h=>h
 |some _,h=>fg.same e h
theorem mi.same (e:eF H H'):∀{t:yC},mi H v t->mi H' v t
 |.one _,h=>fg.same e h
 |.many _,⟨a,h1,h2⟩=>⟨a,h1,e _ _ h2⟩
theorem nE.same (e:eF H H'){r:Rs}(h:nE H v r):nE H' v r:=
 (by obtain⟨q,wv,tv,h1,h2,h3,h4⟩:=h;exact⟨q,wv,tv,h1,e _ _ h2,h3.same e,h4.same e⟩)
theorem uB.same (e:eF H H'){l:Ln}(h:uB H v l):uB H' v l:=
 (by obtain⟨q,a,rv,h1,h2,h3,h4⟩:=h;exact⟨q,a,rv,h1,e _ _ h2,h3.same e,h4.same e⟩)
theorem mK.same (e:eF H H'){a:Addr}{ls:List Ln}(h:mK H a ls):mK H' a ls:=
 (by obtain⟨xs,h1,h2⟩:=h;exact⟨xs,e _ _ h1,Paired.J4 h2 λ_ _=>uB.same e⟩)
theorem iO.rep {a:Addr}{ps:List Pk}(h:iO H a ps):qT H (.ref a) (.list (ps.map mO)):=
 (by obtain⟨_,h1,h2⟩:=h;exact .lst h1 (og (λ_ _ z=>fg.rep z) h2))
structure EQ (l:Ln):Prop where
 len:l.1.length<=20000
 pk:∀p∈l.1,fK p.1
 who:∀k,l.2.who=some k->fK k.1
 one:∀k,l.2.told=.one k->fK k.1
 many:∀bs,l.2.told=.many bs->bs.length<=100
theorem Di {k:Pk}(h:fK k.1):r8 1 (mO k)=true:=by simp[mO,r8,h.ok]
def iI {α:Type}(xs:List α)(i:Int):Option α:=if 0<=i then xs[i.toNat]? else none
theorem jy {α:Type}{xs:List α}{x:α}(h:iI xs i=some x):sM xs i=some x:=by
 unfold iI at h;by_cases h0:0<=i
 ·rw[ax h0]at h;have:=oA h;rwa[Int.toNat_of_nonneg h0]at this
 ·rw[av h0]at h;cases h
theorem qE {α:Type}{xs:List α}:iI xs i=none↔(i<0\/(xs.length:Int)<=i):=by
 unfold iI;by_cases h0:0<=i
 ·rw[ax h0,List.getElem?_eq_none_iff];lia
 ·rw[av h0];exact⟨λ_=>.inl (by lia),λ_=>rfl⟩
theorem iV {α β:Type}{F:α->β->Prop}{as:List α}{bs:List β}{b:β}(h:Paired F as bs)(d:iI bs i=some b):∃a,iI as i=some a/\F a b:=by
 unfold iI at d ⊢;by_cases h0:0<=i
 ·rw[ax h0]at d ⊢;have o:=Paired.length h;have j:i.toNat<bs.length:=(af.mp d).1;have g:as[i.toNat]?=some as[i.toNat]:=ak (by lia);obtain⟨m,e,l⟩:=Paired.Kq h g;rw[d]at e;cases e;exact⟨_,g,l⟩
 ·rw[av h0]at d;cases d
theorem ij {α:Type}(xs:List α)(i:Nat):iI xs (i:Int)=xs[i]?:=by
 unfold iI;rw[ax (by lia),br]
theorem mF {α:Type}{xs:List α}{x:α}(h:iI xs i=some x):x∈xs:=by
 unfold iI at h;by_cases h0:0<=i
 ·rw[ax h0]at h;exact ai h
 ·rw[av h0]at h;cases h
def je (es:List En)(n:Nd):List Int:=(iW es n).mergeSort λa b=>decide (b<=a)
theorem oN:∀{xs ys:List Int},xs.Pairwise (· ≥ ·)->ys.Pairwise (· ≥ ·)->xs.Perm ys->xs=ys
 |[],ys,_,_,h=>(List.nil_perm.mp h).symm
 |x::xs,[],_,_,h=>absurd h.length_eq (by simp)
 |x::xs,y::ys,hx,hy,h=>by
  rw[List.pairwise_cons]at hx hy;have e:x=y:=by
   have a:x∈y::ys:=h.subset (bt ..);have b:y∈x::xs:=h.symm.subset (bt ..);rcases am.mp a with z | z
   ·exact z
   ·rcases am.mp b with y' | y'
    ·exact y'.symm
    ·have:=hx.1 y y';have:=hy.1 x z;lia
  subst e;rw[oN hx.2 hy.2 ((List.perm_cons x).mp h)]
theorem pA {es:List En}{n:Nd}{ms:List Int}(h:ms.Perm (iW es n))(d:ms.Pairwise (· ≥ ·)):ms=je es n:=by
 refine oN d ?_ (h.trans (List.mergeSort_perm _ _).symm);have:=List.pairwise_mergeSort (le:=λa b:Int=>decide (b<=a)) (λa b c e d=>by simp only[aB]at *;lia) (λa b=>by simp only[cS,aB];lia) (iW es n);exact this.imp λh=>aV h
theorem li (a:List En)(n:Nd):(je a n).length<=a.length:=by
 unfold je;rw[(List.mergeSort_perm _ _).length_eq];exact jz a n
def gT (es:List En)(sn:List Nd):Option Pk->List Nd
 |none=>sn
 |some k=>fX es k
def Du (es:List En)(ps:List Pk):Option Pk->Bool
 |none=>true
 |some k=>decide (k∈ps)&&decide (k∈es.map eU)
def p8 (n:Nd)(k:Pk):Bool:=decide (k.1=n.1)&&!(lI n k.2)
def uw (ls:List Ln)(spot:Int)(ps:List Pk)(x:Str)(b v:Int):Bool:=decide (0<=b)&&(decide (b<spot)&&match iI ls b with
 |none=>false
 |some l=>l.1.all λp=>decide (p∈ps)||decide (p=(x,v)))
def kN (es:List En)(ls:List Ln)(spot:Int)(ps:List Pk)(n:Nd)(bs:List Int):Bool:=
 decide (bs.length=(je es n).length)&&(bs.zip (je es n)).all λbv=>uw ls spot ps n.1 bv.1 bv.2
def C8 (es:List En)(ls:List Ln)(spot:Int)(ps:List Pk)(n:Nd):yC->Bool
 |.one k=>decide (k∈ps)&&p8 n k
 |.many bs=>kN es ls spot ps n bs
def jp (es:List En)(sn:List Nd)(ls:List Ln)(spot:Int)(l:Ln):Bool:=
 Du es l.1 l.2.who&&match iI (gT es sn l.2.who) l.2.place with
 |none=>false
 |some n=>C8 es ls spot l.1 n l.2.told
theorem t6 {es:List En}{sn:List Nd}(hok:∀e∈es,lR e)(hsp:∀n∈sn,fK n.1):∀(w:Option Pk) (n:Nd),n∈gT es sn w->fK n.1
 |none,n,h=>hsp n h
 |some k,n,h=>by
  have h':n∈fX es k:=h;unfold fX at h';cases hf:es.find? (λe=>decide (eU e=k)) with
  |none=>rw[hf]at h';cases h'
  |some e=>rw[hf]at h';exact(hok e (bX hf)).nd n h'
end FB
namespace L2
open PySem PySem.Spec PyProof.Rows
variable {A:Around}{D:mN}{E Q:Value->Shared->Prop}{H:Hp}{K:W.Frag}{P:Program}{X:Cx}{a d:Addr}{b:SI}{g:TG}{i m:Nat}{kvs:List (fV×V)}{o:Obj}{p:Array Nat}{pins:List (Addr×Obj)}{s:Shared}{tb:TS}{tg:Expr}{w:World}{σ:St}
theorem zx {α β:Type}{F:α->β->Prop}:∀{as:List α} {bs:List β} {i:Nat} {a:α},Paired F as bs->as[i]?=some a->∃b,bs[i]?=some b/\F a b
 |_,_,_,_,.nil,e=>by simp at e
 |_,_,0,_,.cons r _,e=>by simp at e;subst e;exact⟨_,rfl,r⟩
 |_,_,i+1,a,.cons _ t,e=>by
  obtain⟨b,h1,h2⟩:=zx (i:=i) (a:=a) t (by simpa using e);exact⟨b,by simpa using h1,h2⟩
def C7:HO->Prop
 |.dK _=>True
 |.dN _=>True
 |_=>False
theorem eT.freeze {u:HO}(I:eT X pins σ H s)(e:H a=some u)(j:C7 u):∃o,s.heap.get? a=some o/\eT X pins σ (upd H a (.frz o u)) s:=by
 obtain⟨o,i⟩:=(I.hok a u e).some;have g:∀b v,H b=some v->¬C7 v->b≠a:=λb v q n z=>n (by rw[z,e]at q;cases q;exact j);have own:∀b x,H b=some (.own x)->upd H a (.frz o u) b=some (.own x):=λb x q=>by rw[ef (g b _ q λz=>z)];exact q
 have tup:∀b h,H b=some (.tup h)->upd H a (.frz o u) b=some (.tup h):=λb h q=>by rw[ef (g b _ q λz=>z)];exact q
 have J:=I.un (H':=upd H a (.frz o u)) (h':=s.heap) (t':=s.toks) ⟨λb _ q _ _ _=>q,λb d q _ _ _=>⟨d.slots,q⟩,λb d _ n _=>(by rw[ef (λz=>by rw[z,e]at n;cases n)];exact n),λb d q _=>⟨d,q⟩,tup,λb d v q=>(by rw[ef (g b _ q λz=>z)];exact q),λb l q=>⟨#[],by rw[ef (g b _ q λz=>z),q];simp⟩⟩ (λb v q=>by
   by_cases hb:b=a
   ·subst hb;rw[d0]at q;cases q;exact⟨i,(I.hok b u e).J5 (λ_ _ _ z=>z) (λc z=>own c b z) tup⟩
   ·rw[ef hb]at q
    exact(I.hok b v q).J5 (λ_ _ _ z=>z) (λc z=>own c b z) tup)
 exact⟨o,i,J⟩
inductive I0 (Q:VK)(x:V)(H1:Hp):Prop
 |mk (a u:_)(_:x=.ref a)(_:H1 a=some u)(_:C7 u)(_:∀o,Q x (upd H1 a (.frz o u)))
def JA (te:TE):TE:=λσ H Q=>te σ H λx H1=>I0 Q x H1
theorem zE {e:Expr}{te:TE}(j:PE X e te):PE X e (JA te):=by
 intro b s σ H Q I h;refine fW (j b s σ H _ I h) ?_;rintro v t ⟨x,r,i,d,a,u,p,l,g,q⟩;obtain⟨o,_,m⟩:=i.freeze l g;exact⟨x,_,m,d,q o⟩
section
variable {it:Addr}{es:Array DictEntry}{ep:Nat}
theorem ot (a:s.heap.get? d=some o)(i:o.ExactDict)(e:o.data=.dict es ep)(h:(d == sysModules)=false)(g:Q (.ref s.heap.objs.size) {s with heap:=s.heap.push {cls:=.type "dict_keyiterator",data:=.fields #[.ref d,.int 0 0,.int es.size 0,.int ep 0]}}):wpAny (model P w) A (pyIter (.ref d)) Q E s:=by
 have b:s.TypeIs (.ref d) "dict":=⟨o,a,i.1⟩;refine wpAny_pyIter_slot b F.slot_dict_iter (cc F.slot_dict_iter b F.entry_dict_iter ?_ (F.args_dict_iter_1 _));unfold Builtin.«dict.__iter__»;refine ac ?_;unfold Builtin.Dict.dictSlotNone;refine ac (cK b ?_);show wpAny _ _ (pure (Value.ref d)) _ _ s;refine ar ?_;show wpAny _ _ (Builtin.Dict.showsAll d >>= _) _ _ s;unfold Builtin.Dict.showsAll;rw[av (by rw[h];exact aN)];refine ac (ar ?_);refine ac (cU a e (ac (bJ a e ?_)));refine ac (dW (ar ⟨_,rfl,"dict_keyiterator",_,⟨_,aK _ rfl,rfl⟩,F.slot_dict_keyiterator_next.lookup,?_⟩));simpa [rawInt] using g
theorem oj {Q:Option Value->Shared->Prop}(a:s.heap.IsKeyIter it d i es.size ep)(j:s.heap.get? d=some o)(h:o.data=.dict es ep)(m:i<es.size)(p:∀h',h'.IsKeyIter it d (i+1) es.size ep->Heap.SameBut it s.heap h'->Q (some es[i].key) {s with heap:=h'}):wpAny (model P w) A (pyNext (.ref it)) Q E s:=by
 obtain⟨r,e,q,l⟩:=id a;unfold pyNext;refine ac (wpAny_attempt (dm (name:=Str.ofString "__next__") a.typeIs F.slot_dict_keyiterator_next (cc F.slot_dict_keyiterator_next a.typeIs F.entry_dict_keyiterator_next ?_ (F.args_dict_keyiterator_next_1 _))))
 refine ac (ar ?_);refine ac ?_;refine ac ?_
 first | (refine ac (cG a.typeIs (ar ?_))) | (refine ac (di a.typeIs (ar ?_)))
 refine ac (wpAny_fieldsOf e l ?_);have g:Builtin.Dict_items.ownsTuple "dict_keyiterator" = false:=by decide +kernel
 simp only[g,cb,if_false];show wpAny _ _ (if (Value.ref d == Value.none)=true then _ else _) _ _ s;rw[av (λz:(Value.ref d == Value.none)=true=>aN z)];refine ac (ar ?_);refine ac (cU j h ?_);rw[av (by simp)];refine ac (ar ?_);refine ac (bJ j h ?_);rw[av (by simp)];refine ar ?_;simp only[show ¬((i:Int)<0) by omega,if_false,br,cr m];refine ac ?_
 first | (refine ac (cG a.typeIs (ar ?_))) | (refine ac (di a.typeIs (ar ?_)))
 refine ac (wpAny_isOneOf_keyiter a.typeIs ?_);show wpAny _ _ (setField (.ref it) 1 (rawInt ((i:Int)+1)) >>= _) _ _ s;refine ac (wpAny_setField e l (by simp) ?_);have b:(s.heap.update it (Obj.mapFields (·.setIfInBounds 1 (rawInt ((i:Int)+1))))).IsKeyIter it d (i+1) es.size ep:=⟨_,cR _ e (Obj.isFreed_of_fields (Obj.data_mapFields l _)),(Obj.cls_mapFields ..).trans q,by rw[Obj.data_mapFields l];simp[rawInt]⟩;refine ac (bA ?_);refine ac (wpAny_isOneOf_keyiter (s:={s with heap:=s.heap.update it (Obj.mapFields (·.setIfInBounds 1 (rawInt ((i:Int)+1))))}) b.typeIs ?_);show wpAny _ _ (pure es[i].key) _ _ _;exact ar (ar ⟨_,rfl,ar (p _ b (Heap.SameBut.update ..))⟩)
end
section
variable {it:Addr}{es:Array DictEntry}{ep:Nat}
theorem vm {Q:Option Value->Shared->Prop}(r:A.handled=none)(e:s.heap.IsKeyIter it d i es.size ep)(l:s.heap.get? d=some o)(h:o.data=.dict es ep)(p:es.size<=i)(t:∀h',Heap.ExtBut it s.heap h'->Q none {s with heap:=h'}):wpAny (model P w) A (pyNext (.ref it)) Q E s:=by
 obtain⟨v,j,x,q⟩:=id e;unfold pyNext;refine ac (wpAny_attempt (dm (name:=Str.ofString "__next__") e.typeIs F.slot_dict_keyiterator_next (cc F.slot_dict_keyiterator_next e.typeIs F.entry_dict_keyiterator_next ?_ (F.args_dict_keyiterator_next_1 _))))
 refine ac (ar ?_);refine ac ?_;refine ac ?_
 first | (refine ac (cG e.typeIs (ar ?_))) | (refine ac (di e.typeIs (ar ?_)))
 refine ac (wpAny_fieldsOf j q ?_);have g:Builtin.Dict_items.ownsTuple "dict_keyiterator" = false:=by decide +kernel
 simp only[g,cb,if_false];show wpAny _ _ (if (Value.ref d == Value.none)=true then _ else _) _ _ s;rw[av (λz:(Value.ref d == Value.none)=true=>aN z)];refine ac (ar ?_);refine ac (cU l h ?_);rw[av (by simp)];refine ac (ar ?_);refine ac (bJ l h ?_);rw[av (by simp)];refine ar ?_;simp only[show ¬((i:Int)<0) by lia,if_false,br,Array.getElem?_eq_none p];refine ac ?_
 first | (refine ac (cG e.typeIs (ar ?_))) | (refine ac (di e.typeIs (ar ?_)))
 show wpAny _ _ (setField (.ref it) 0 .none >>= _) _ _ s;refine ac (wpAny_setField j q (by simp) ?_);show wpAny _ _ (newExc (.type "StopIteration") [] >>= _) _ _ _;refine ac ?_;simp only[newExc,newTuple];refine ac (dW ?_ (by size_fits));refine ac (m:=firstArgMember _ _) (wpAny_of_eq (a:=Value.none) (by first | rfl | (simp only[firstArgMember];rfl)) ?_);refine dW ?_ (by size_fits);simp only[raiseNew];refine ac (wpAny_handled ?_);rw[show A.in1.handled=none from r];refine ac (ar (wpAny_throw ?_));refine ac (wpAny_isInstance (T:="StopIteration") (b:=true) ⟨_,aK _ rfl,rfl⟩ isSubtype_stop ?_);exact ar (t _ (((Heap.SameBut.update ..).extBut.push _).push _))
end
def EV (a:Addr)(o:Obj)(kvs:List (gz×V)):It:=
 ⟨λi H=>i<kvs.length/\H a=some (.frz o (.dK kvs)),λi H x H'=>H'=H/\∃kv,kvs[i]?=some kv/\x=kV kv.1,λi H=>kvs.length<=i/\H a=some (.frz o (.dK kvs))⟩
def Fi (a:Addr)(o:Obj)(kvs:List (fV×V)):It:=
 ⟨λi H=>i<kvs.length/\H a=some (.frz o (.dN kvs)),λi H x H'=>H'=H/\∃kv,kvs[i]?=some kv/\lQ H kv.1 x,λi H=>kvs.length<=i/\H a=some (.frz o (.dN kvs))⟩
theorem nM {h:Heap}{kvs:List (gz×V)}(ok:lM P w H h)(e:H a=some (.frz o (.dK kvs))):h.get? a=some o/\(a == sysModules)=false/\o.ExactDict/\∃es ep,o.data=.dict es ep/\es.size=kvs.length/\∀(i:Nat) (kv:gz×V) (hi:i<es.size),kvs[i]?=some kv->eZ (kV kv.1) es[i].key:=by
 obtain⟨d,q⟩:=(show h.get? a=some o/\fR P w H h a (.dK kvs) from ok a _ e);obtain⟨z,y,b,r,A,es,ep,l,p,s,C,m,B⟩:=q;rw[d]at l;cases l;have D:es.size=b.length:=by rw[<-m.length];simp
 have E:kvs.length=b.length:=Paired.length r;refine⟨d,y,p,es,ep,s,by lia,λi kv hi t=>?_⟩;have j:b[i]?=some b[i]:=ak (by lia);obtain⟨u,g,x⟩:=zx r t;rw[j]at g;cases g;have:=(m.get? (e:=es[i]) (k:=b[i].1) (v:=b[i].2) (by simp[hi]) j).1;rw[show kv.1=b[i].1 from x.1];exact vA this
theorem AE {h:Heap}(ok:lM P w H h)(e:H a=some (.frz o (.dN kvs))):h.get? a=some o/\(a == sysModules)=false/\o.ExactDict/\∃es ep,o.data=.dict es ep/\es.size=kvs.length/\∀(i:Nat) (kv:fV×V) (hi:i<es.size),kvs[i]?=some kv->∃x,eZ x es[i].key/\lQ H kv.1 x:=by
 obtain⟨g,q⟩:=(show h.get? a=some o/\fR P w H h a (.dN kvs) from ok a _ e);obtain⟨z,C,j,r,F,es,ep,p,s,v,m,J⟩:=q;rw[g]at p;cases p;have G:es.size=j.length:=by rw[<-bw,m,ab]
 have I:kvs.length=j.length:=Paired.length r;refine⟨g,C,s,es,ep,v,by lia,λi kv hi y=>?_⟩;obtain⟨u,t,B⟩:=zx r y;have l:es.toList[i]?=some (uj P w u):=by rw[m,ae,t];rfl
 rw[bF,cr hi]at l
 rw[Option.some.inj l];obtain⟨E,d,_⟩:=B;show ∃x,eZ x u.2.1/\lQ H kv.1 x
 revert d
 cases kv.1 with
 |none=>exact λd=>⟨.non,d,rfl⟩
 |some ks=>exact(by rintro⟨b,A,D⟩;exact⟨.ref b,A,b,rfl,D⟩)
theorem wf (a l:Addr)(o:Obj)(x:Array DictEntry)(ep:Nat)(kvs:List (gz×V))(hd:o.data=.dict x ep)(hl:x.size=kvs.length):qp P w K tg (EV a o kvs) [l] l (λi h=>h.IsKeyIter l a i x.size ep) where
 mem:=by simp
 obj:=λi h d b j=>by
  obtain⟨Q,e,c,J⟩:=d;rw[aj.mp j];exact⟨Q,e,λv z=>by rw[J]at z;cases z⟩
 keep:=λi h r d k=>d.at λo e=>k l (by simp) o e
 item:=by
  intro X M D C S i g s σ H E I t d ⟨R,y⟩;subst M D C;obtain⟨A,B,f2,N,L,G⟩:=t l (by simp);obtain⟨F,hS,hx,Z,U,q,aa,hr⟩:=nM I.hok y;rw[hd]at q;cases q;have m:i<x.size:=by lia
  have O:kvs[i]?=some kvs[i]:=ak R;refine oj d F hd m λr p sb=>?_;have T:eT X g σ H {s with heap:=r}:=I.turned (t':=s.toks) (λb o j e=>(sb.2 b j).trans e) A B N L G;obtain⟨Q,e,c,J⟩:=id p;exact⟨_,rfl,qK (s:={s with heap:=r}) e c J (by decide) ⟨kV kvs[i].1,H,T,hr i _ m O,⟨rfl,_,O,rfl⟩,p,λb j=>(t b j).1⟩⟩
 done:=by
  intro X M D C S i g s σ H E I t d ⟨R,y⟩;subst M D C;obtain⟨A,B,f2,N,L,G⟩:=t l (by simp);obtain⟨F,_⟩:=nM I.hok y;exact vm (I.ok.hd S) d F hd (by lia) λr Y=>⟨rfl,I.turned (t':=s.toks) (λb o j e=>Y b o j e) A B N L G⟩
 self:=λ_ _ _ _ _ d h=>wpAny_pyIter_keyiter d h
theorem Bp (a l:Addr)(o:Obj)(y:Array DictEntry)(ep:Nat)(kvs:List (fV×V))(hd:o.data=.dict y ep)(hl:y.size=kvs.length):qp P w K tg (Fi a o kvs) [l] l (λi h=>h.IsKeyIter l a i y.size ep) where
 mem:=by simp
 obj:=λi h d b j=>by
  obtain⟨R,e,c,L⟩:=d;rw[aj.mp j];exact⟨R,e,λv z=>by rw[L]at z;cases z⟩
 keep:=λi h r d k=>d.at λo e=>k l (by simp) o e
 item:=by
  intro X N F D T i g s σ H E I t d ⟨S,A⟩;subst N F D;obtain⟨B,C,f2,O,M,J⟩:=t l (by simp);obtain⟨G,hS,hx,aa,Z,q,ad,hr⟩:=AE I.hok A;rw[hd]at q;cases q;have m:i<y.size:=by lia
  have Q:kvs[i]?=some kvs[i]:=ak S;obtain⟨x,rx,U⟩:=hr i _ m Q;refine oj d G hd m λr p sb=>?_;have Y:eT X g σ H {s with heap:=r}:=I.turned (t':=s.toks) (λb o j e=>(sb.2 b j).trans e) B C O M J;obtain⟨R,e,c,L⟩:=id p;exact⟨_,rfl,qK (s:={s with heap:=r}) e c L (by decide) ⟨x,H,Y,rx,⟨rfl,_,Q,U⟩,p,λb j=>(t b j).1⟩⟩
 done:=by
  intro X N F D T i g s σ H E I t d ⟨S,A⟩;subst N F D;obtain⟨B,C,f2,O,M,J⟩:=t l (by simp);obtain⟨G,_⟩:=AE I.hok A;exact vm (I.ok.hd T) d G hd (by lia) λr eb=>⟨rfl,I.turned (t':=s.toks) (λb o j e=>eb b o j e) B C O M J⟩
 self:=λ_ _ _ _ _ d h=>wpAny_pyIter_keyiter d h
section
variable {l:Expr}{tl:TE}
inductive Je (R:It->Hp->Prop)(x:V)(H1:Hp):Prop
 |mk (a o kvs:_)(_:x=.ref a)(_:H1 a=some (.frz o (.dK kvs)))(_:R (EV a o kvs) H1)
def JO (tl:TE):TI:=λσ H R=>tl σ H λx H1=>Je R x H1
theorem zw (w:PE X l tl):PI X tg l (JO tl):=by
 intro d s σ H R I h;refine fW (w d s σ H _ I h) ?_;rintro v j ⟨x,t,g,y,a,o,i,p,E,q⟩;subst p;cases (show v=Value.ref a from y);obtain⟨r,D,B,z,C,m,hn,_⟩:=nM g.hok E;refine ot r B m D ⟨j.heap.objs.size,[j.heap.objs.size],_,_,t,rfl,g.kept (t':=j.toks) λb o e=>aA _ e,wf a _ o z C i m hn,⟨_,aK _ rfl,rfl,rfl⟩,λb A=>?_,q⟩
 rw[aj.mp A];exact g.Kh (ao _) (g.hok.fresh (ao _))
end
theorem vD {J:It}{n:Nat}(a:Nat->St->Hp->Prop)(l:a 0 σ H)(h:∀i σ H,i<n->a i σ H->J.go i H)(e:∀σ H,a n σ H->J.stop n H)(hs:∀i x σ H H',i<n->J.yld i H x H'->a i σ H->g x σ H' λσ2 H2=>tb {D with nx:=a (i+1),ct:=a (i+1),bk:=D.nx} σ2 H2)(d:∀σ H,a n σ H->D.nx σ H):∃W:Nat->Nat->St->Hp->Prop,(∃m,W 0 m σ H)/\∀i m σ H,W i m σ H->(J.stop i H/\D.nx σ H)\/(J.go i H/\∃N:St->Hp->Prop,(∀σ' H',N σ' H'->∃m',m'<m/\W (i+1) m' σ' H')/\∀x H',J.yld i H x H'->g x σ H' λσ2 H2=>tb {D with nx:=N,ct:=N,bk:=D.nx} σ2 H2):=by
 refine⟨λi m σ H=>m=n-i/\i<=n/\a i σ H,⟨n,by simp,bo _,l⟩,?_⟩;rintro i m σ H ⟨rfl,o,p⟩;rcases dj i n with b | hge
 ·exact .inr ⟨h i σ H b p,a (i+1),λσ' H' j=>⟨n-(i+1),by lia,rfl,b,j⟩,λx H' y=>hs i x σ H H' b y p⟩
 ·obtain rfl:i=n:=Nat.le_antisymm o hge;exact .inl ⟨e σ H p,d σ H p⟩
theorem sB {kvs:List (gz×V)}(Pv:Nat->St->Hp->Prop)(h0:Pv 0 σ H)(hl:∀i σ H,i<=kvs.length->Pv i σ H->H a=some (.frz o (.dK kvs)))(hs:∀i kv σ H,kvs[i]?=some kv->Pv i σ H->g (kV kv.1) σ H λσ2 H2=>tb {D with nx:=Pv (i+1),ct:=Pv (i+1),bk:=D.nx} σ2 H2)(hd:∀σ H,Pv kvs.length σ H->D.nx σ H):∃W:Nat->Nat->St->Hp->Prop,(∃m,W 0 m σ H)/\∀i m σ H,W i m σ H->((EV a o kvs).stop i H/\D.nx σ H)\/((EV a o kvs).go i H/\∃N:St->Hp->Prop,(∀σ' H',N σ' H'->∃m',m'<m/\W (i+1) m' σ' H')/\∀x H',(EV a o kvs).yld i H x H'->g x σ H' λσ2 H2=>tb {D with nx:=N,ct:=N,bk:=D.nx} σ2 H2):=
 vD Pv h0 (λi σ H hi p=>⟨hi,hl i σ H (cA hi) p⟩) (λσ H p=>⟨ao _,hl _ σ H (ao _) p⟩) (λi x σ H H' hi y p=>by
  obtain⟨rfl,kv,hk,rfl⟩:=y
  exact hs i kv σ _ hk p) hd
theorem vE (Pv:Nat->St->Hp->Prop)(h0:Pv 0 σ H)(hl:∀i σ H,i<=kvs.length->Pv i σ H->H a=some (.frz o (.dN kvs)))(hs:∀i kv x σ H,kvs[i]?=some kv->lQ H kv.1 x->Pv i σ H->g x σ H λσ2 H2=>tb {D with nx:=Pv (i+1),ct:=Pv (i+1),bk:=D.nx} σ2 H2)(hd:∀σ H,Pv kvs.length σ H->D.nx σ H):∃W:Nat->Nat->St->Hp->Prop,(∃m,W 0 m σ H)/\∀i m σ H,W i m σ H->((Fi a o kvs).stop i H/\D.nx σ H)\/((Fi a o kvs).go i H/\∃N:St->Hp->Prop,(∀σ' H',N σ' H'->∃m',m'<m/\W (i+1) m' σ' H')/\∀x H',(Fi a o kvs).yld i H x H'->g x σ H' λσ2 H2=>tb {D with nx:=N,ct:=N,bk:=D.nx} σ2 H2):=
 vD Pv h0 (λi σ H hi p=>⟨hi,hl i σ H (cA hi) p⟩) (λσ H p=>⟨ao _,hl _ σ H (ao _) p⟩) (λi x σ H H' hi y p=>by
  obtain⟨rfl,kv,hk,kx⟩:=y
  exact hs i kv x σ _ hk kx p) hd
theorem wR {J:It}{n:Nat}{tt:TT}{te:TE}{σ':St}{H1:Hp}{Q:VK}(a:Addr->Nat->List V->Hp->Prop)(q:∀D,H1 D=none->a D 0 [] (upd H1 D (.lst [])))(o:∀D i ys H,i<=n->a D i ys H->(i<n->J.go i H)/\(i=n->J.stop i H)/\H D=some (.lst ys)/\ys.length<sizeLine)(hs:∀D i x ys H H2,i<n->J.yld i H x H2->a D i ys H->g x σ' H2 λσ2 H3=>tt σ2 H3 λb H4=>if b=true then te σ2 H4 λy H5=>H5 D=some (.lst ys)/\a D (i+1) (ys++[y]) (upd H5 D (.lst (ys++[y]))) else a D (i+1) ys H4)(j:∀D ys H,a D n ys H->Q (.ref D) H):p7 J g tt te σ' H1 Q:=by
 intro D r;refine⟨λi m ys H=>m=n-i/\i<=n/\a D i ys H,⟨n,by simp,bo _,q D r⟩,?_⟩;rintro i m ys H ⟨rfl,e,p⟩;obtain⟨l,t,w,v⟩:=o D i ys H e p;refine⟨w,v,?_⟩;rcases dj i n with d | hge
 ·exact .inr ⟨l d,a D (i+1),λz h s=>⟨n-(i+1),by lia,rfl,d,s⟩,λx h y=>hs D i x ys H h d y p⟩
 ·obtain rfl:i=n:=Nat.le_antisymm e hge;exact .inl ⟨t rfl,j D ys H p⟩
def Fh (K:W.Frag)(a:Addr)(xs:List V):It:=
 ⟨λi H=>i<xs.length/\eX K H a xs,λi H x H'=>H'=H/\xs[xs.length-1-i]?=some x,λi _=>xs.length<=i⟩
theorem yO (a q:Addr)(xs:List V):qp P w K tg (Fh K a xs) [q] q (λi h=>i<=xs.length/\h.IsRevIter q a ((xs.length:Int)-1-(i:Int))) where
 mem:=by simp
 obj:=λi h g b l=>by
  obtain⟨_,N,e,c,G⟩:=g;rw[aj.mp l];exact⟨N,e,λv z=>by rw[G]at z;cases z⟩
 keep:=λi h r g k=>⟨g.1,g.2.at λo e=>k q (by simp) o e⟩
 item:=by
  intro X L D C Q i j s σ H E I t g ⟨hi,y⟩;subst L D C;obtain⟨A,B,f2,M,J,F⟩:=t q (by simp);obtain⟨T,U,p,hz⟩:=I.list y;have O:xs[xs.length-1-i]?=some xs[xs.length-1-i]:=ak (by omega);obtain⟨u,Z,ru⟩:=U.get O;have d:=g.2;rw[show(xs.length:Int)-1-(i:Int)=((xs.length-1-i:Nat):Int) by omega]at d;refine wpAny_pyNext_rev_item d p.isList (x:=u) (by simpa using Z) λr m sb=>?_;rw[show((xs.length-1-i:Nat):Int)-1=(xs.length:Int)-1-((i+1:Nat):Int) by omega]at m;have R:eT X j σ H {s with heap:=r}:=I.turned (t':=s.toks) (λb o l e=>(sb.2 b l).trans e) A B M J F;obtain⟨N,e,c,G⟩:=id m;exact⟨_,rfl,qK (s:={s with heap:=r}) e c G (by decide) ⟨_,H,R,ru,⟨rfl,O⟩,⟨hi,m⟩,λb l=>(t b l).1⟩⟩
 done:=by
  intro X L D C Q i j s σ H E I t g y;subst L D C;obtain⟨A,B,f2,M,J,F⟩:=t q (by simp);have d:=g.2;have h1:=g.1;have S:xs.length<=i:=y;rw[show(xs.length:Int)-1-(i:Int)=-1 by omega]at d;exact wpAny_pyNext_rev_end (I.ok.hd Q) d λr Y=>⟨rfl,I.turned (t':=s.toks) (λb o l e=>Y b o l e) A B M J F⟩
 self:=λ_ _ _ _ _ g h=>wpAny_pyIter_revIter g.2 h
def IE (K:W.Frag)(tl:TE):TI:=λσ H R=>tl σ H λx H1=>∃a xs,x=.ref a/\eX K H1 a xs/\R (Fh K a xs) H1
theorem DY {l:Expr}{tl:TE}{p pos:Pos}(C:Gl X "reversed")(D:X.mg "reversed" = none)(w:PE X l tl)(hs:starEach [l] X.env=[(false,eval l X.env)]:=by rfl):PI X tg (.Call (.Name "reversed" p) [l] [] pos) (IE X.K tl):=by
 intro i s σ H R I h;refine bD (jI I C D PyProof.Rows.Boot.«reversed» ?_ (by decide) (by decide));refine PyProof.Rows.callWith_type1 ?_ hs rfl;have E:=(dZ w eg hs) pos i s σ H (λt j=>match t with | [x]=>(∃a xs,x=.ref a/\eX X.K j a xs/\R (Fh X.K a xs) j) | _=>False) I h;refine fW E ?_;rintro G s1 ⟨t,j,m,r,v⟩
 match t,r,v with
 |[x],r,⟨a,xs,e2,hS,q⟩=>
  subst e2;obtain⟨u,rfl,y⟩:=jk r;cases (show u=Value.ref a from y);obtain⟨d,F,z,J⟩:=m.list hS;have A:d.length=xs.length:=F.length.symm;refine call_reversed_list z.isList ?_;have g:(s1.heap.push (revObj a ((d.toArray.size:Int)-1))).get? s1.heap.objs.size=some (revObj a ((d.toArray.size:Int)-1)):=aK _ rfl;refine wpAny_pyIter_revIter (s:={s1 with heap:=s1.heap.push (revObj a ((d.toArray.size:Int)-1))}) ⟨_,g,rfl,rfl⟩ ?_;refine⟨s1.heap.objs.size,[s1.heap.objs.size],_,_,j,rfl,m.kept (t':=s1.toks) λb o e=>aA _ e,yO a _ xs,⟨bo _,_,g,rfl,?_⟩,λb B=>?_,q⟩
  ·show(revObj a ((d.toArray.size:Int)-1)).data=_;rw[aM,A];simp[revObj]
  ·rw[aj.mp B];exact m.Kh (ao _) (m.hok.fresh (ao _))
theorem CD {xs:List V}(Pv:Nat->St->Hp->Prop)(h0:Pv 0 σ H)(hl:∀i σ H,i<xs.length->Pv i σ H->eX K H a xs)(hs:∀i x σ H,i<xs.length->xs[xs.length-1-i]?=some x->Pv i σ H->g x σ H λσ2 H2=>tb {D with nx:=Pv (i+1),ct:=Pv (i+1),bk:=D.nx} σ2 H2)(hd:∀σ H,Pv xs.length σ H->D.nx σ H):∃W:Nat->Nat->St->Hp->Prop,(∃m,W 0 m σ H)/\∀i m σ H,W i m σ H->((Fh K a xs).stop i H/\D.nx σ H)\/((Fh K a xs).go i H/\∃N:St->Hp->Prop,(∀σ' H',N σ' H'->∃m',m'<m/\W (i+1) m' σ' H')/\∀x H',(Fh K a xs).yld i H x H'->g x σ H' λσ2 H2=>tb {D with nx:=N,ct:=N,bk:=D.nx} σ2 H2):=
 vD Pv h0 (λi σ H hi p=>⟨hi,hl i σ H hi p⟩) (λσ H p=>ao _) (λi x σ H H' hi y p=>by
  obtain⟨rfl,hk⟩:=y
  exact hs i x σ _ hi hk p) hd
theorem lb (ns:List Int):∀j,j<=ns.length->preSum (λi=>ns.getD i 0) j=(ns.take j).sum
 |0,_=>by simp[preSum]
 |j+1,h=>by
  have e:=lb ns j (by omega);have h2:ns.take (j+1)=ns.take j++[ns[j]]:=by rw[aX,ak (show j<ns.length by omega)];rfl
  rw[preSum,e,h2,List.sum_append,bh,ak (show j<ns.length by omega)]
  simp
theorem yr (hc:X.calm=true):jv X (.builtin "sum") (λxs H Q=>∃(a:Addr) (ns:List Int),xs=[.ref a]/\eX X.K H a (ns.map V.int)/\(∀j,j<ns.length->0<=ns.getD j 0)/\ns.sum<2^63/\Q (.int ns.sum) H):=by
 intro R s σ H xs us Q I r h;obtain⟨a,ns,rfl,hS,N,aa,q⟩:=h;obtain⟨u,rfl,U⟩:=jk r;cases (show u=Value.ref a from U);obtain⟨d,P,p,hz⟩:=I.list hS;have m:d.length=ns.length:=by rw[<-P.length,ab]
 have g:∀(l:List Int),(∀x∈l,0<=x)->0<=l.sum:=λl=>by
  induction l with
  |nil=>intro _;simp
  |cons x l ih=>intro z;rw[List.sum_cons];have:=z x (by simp);have:=ih λy C=>z y (by simp[C]);omega
 have S:∀x∈ns,0<=x:=λx z=>by
  obtain⟨j,D,e⟩:=List.mem_iff_getElem.mp z;have:=N j D;rw[bh,ak D]at this
  rw[<-e];exact this
 have M:∀j,(ns.take j).sum<=ns.sum:=λj=>by
  have:ns.sum=(ns.take j).sum+(ns.drop j).sum:=by rw[<-List.sum_append,dB]
  have:=g (ns.drop j) λx z=>S x (List.mem_of_mem_drop z);omega
 refine call_sum_walk (wpAny_pyIter_list p.isList ?_);have E:a≠s.heap.objs.size:=by
  obtain⟨o,L,_⟩:=p.isList;exact aW (aS L)
 have J:a<s.heap.objs.size:=by
  obtain⟨o,L,_⟩:=p.isList;exact aS L
 refine⟨s.heap.objs.size,_,_,d.toArray.size,_,_,λi=>ns.getD i 0,rfl,Walks.list (prog:=X.prog) (w:=X.w) (A:=X.A.in1) (I.ok.hd hc) _ a E d.toArray,⟨⟨_,aK _ rfl,rfl,rfl⟩,p.isList.push _⟩,λb O=>?_,λi v hv=>?_,λj D=>?_,λh' Z t' Y=>?_⟩
 ·rw[dU];simp only[am,aR,or_false]at O;rcases O with rfl | rfl
  ·exact df _
  ·exact dz J
 ·have G:d[i]?=some v:=by simpa using hv
  obtain⟨y,C,ry⟩:=zx (F:=λu x=>eZ x u) (as:=d) (bs:=ns.map V.int) (by
   have:∀{as:List V} {bs:List Value},fU as bs->Paired (λu x=>eZ x u) bs as:=λq=>by
    induction q with
    |nil=>exact .nil
    |cons r _ ih=>exact .cons r ih
   exact this P) G
  rw[ae]at C;obtain⟨n,hn,rfl⟩:=az.mp C;show ∃t,v=Value.int (ns.getD i 0) t;rw[bh,hn];exact ry
 ·have B:j<ns.length:=by simpa [m] using D
  have h1:=M (j+1);have h3:=g (ns.take j) λx z=>S x (dG z);have h5:(ns.take (j+1)).sum=(ns.take j).sum+ns.getD j 0:=by
   have T:ns.take (j+1)=ns.take j++[ns[j]]:=by rw[aX,ak B];rfl
   rw[T,List.sum_append,bh,ak B]
   simp
  have h4:=N j B;rw[lb ns (j+1) (by omega)];dsimp only;unfold InLong;omega
 ·refine⟨.int ns.sum,H,I.kept (t':=Z) λb o e=>?_,⟨t',?_⟩,q⟩
  ·exact Y b o (by simpa using aW (aS e)) (aA _ e)
  ·rw[aM,m,lb ns ns.length (ao _),aI]
theorem ni {α:Type} [BEq α] [LawfulBEq α]:∀{l:List α} {k:α} {m:Nat} (hm:m<l.length),m<l.idxOf k->¬l[m]=k
 |a::l,k,0,_,h,e=>by
  have e':a=k:=e;rw[e',cu]at h;exact absurd h (cE _)
 |a::l,k,m+1,hm,h,e=>by
  by_cases ha:a=k
  ·rw[ha,cu]at h;exact absurd h (bY _)
  ·rw[List.idxOf_cons,beq_false_of_ne ha]at h;exact ni (l:=l) (by simpa using hm) (Nat.lt_of_succ_lt_succ h) e
theorem xY:GJ X "list.index" (λx vs H Q=>∃(l:Addr) (ss:List Str) (k:Str),x=.ref l/\vs=[.str k]/\H l=some (.lst (ss.map V.str))/\k∈ss/\Q (.int (ss.idxOf k:Nat)) H):=by
 intro C s σ H x vs v O Q I L E h;obtain⟨l,ss,k,rfl,rfl,K,D,q⟩:=h;cases (show v=Value.ref l from L);obtain⟨u,rfl,t,rfl⟩:=jk E;obtain⟨z,b,n,r,e⟩:=(show fR X.prog X.w H s.heap l (.lst (ss.map V.str)) from I.hok l _ K);have o:b.length=ss.length:=by rw[<-r.length,ab]
 have N:ss.length<=16777216:=by rw[ab,bV]at z;exact z
 have d:∀(m:Nat) (i:m<b.length),∃g,b[m]=.str (ss[m]'(by omega)) g:=λm i=>by
  have hs:(ss.map V.str)[m]?=some (V.str (ss[m]'(by omega))):=by rw[ae,ak (by omega)];rfl
  obtain⟨w,B,g,e⟩:=r.get hs;rw[ak i]at B;exact⟨g,by rw[Option.some.inj B];exact e⟩
 have M:ss.idxOf k<ss.length:=bC.mpr D;refine call_meets PySem.F.slot_list_index ⟨_,e,rfl⟩ PySem.F.entry_list_index (PySem.F.args_list_index_2 _ _)
  (SeqAt.list_indexAt l b.toArray n none #[] (.str k t) (λv=>match v with | .str a _=>a == k | _=>false) (ss.idxOf k) (by simpa [o] using M) (by omega) ?_ ?_) ⟨e,λy J=>?_,⟨.int (ss.idxOf k:Nat),H,I.tok _,⟨_,rfl⟩,q⟩⟩
 ·obtain⟨g,j⟩:=d (ss.idxOf k) (by omega);show(match b[ss.idxOf k]'(by omega) with | .str a _=>a == k | _=>false)=true;rw[j];simp
 ·intro m i p;have A:m<b.length:=by simpa using i
  obtain⟨g,j⟩:=d m A;show(match b[m] with | .str a _=>a == k | _=>false)=false;rw[j];have:¬ss[m]'(by omega)=k:=ni (by omega) p;simpa using this
 ·obtain⟨m,i,G⟩:=List.mem_iff_getElem.mp (show y∈b by simpa using J);obtain⟨g,j⟩:=d m i;rw[<-G,j];exact SeqAt.EqAt.str_str _ _ _ _
theorem xZ:GJ X "list.index" (λx vs H Q=>∃(l:Addr) (bs:List Bool),x=.ref l/\vs=[.bl true]/\H l=some (.lst (bs.map V.bl))/\true∈bs/\Q (.int (bs.idxOf true:Nat)) H):=by
 intro A s σ H x vs v N Q I J C h;obtain⟨l,d,rfl,rfl,G,B,q⟩:=h;cases (show v=Value.ref l from J);obtain⟨u,rfl,L⟩:=jk C;cases (show u=Value.bool true from L);obtain⟨z,b,n,r,e⟩:=(show fR X.prog X.w H s.heap l (.lst (d.map V.bl)) from I.hok l _ G);have j:b.length=d.length:=by rw[<-r.length,ab]
 have M:d.length<=16777216:=by rw[ab,bV]at z;exact z
 have g:∀(m:Nat) (i:m<b.length),b[m]=.bool (d[m]'(by omega)):=λm i=>by
  have hs:(d.map V.bl)[m]?=some (V.bl (d[m]'(by omega))):=by rw[ae,ak (by omega)];rfl
  obtain⟨w,t,e⟩:=r.get hs;rw[ak i]at t;rw[Option.some.inj t];exact e
 have K:d.idxOf true<d.length:=bC.mpr B;refine call_meets PySem.F.slot_list_index ⟨_,e,rfl⟩ PySem.F.entry_list_index (PySem.F.args_list_index_2 _ _)
  (SeqAt.list_indexAt l b.toArray n none #[] (.bool true) (λv=>match v with | .bool a=>a == true | _=>false) (d.idxOf true) (by simpa [j] using K) (by omega) ?_ ?_) ⟨e,λy E=>?_,⟨.int (d.idxOf true:Nat),H,I.tok _,⟨_,rfl⟩,q⟩⟩
 ·show(match b[d.idxOf true]'(by omega) with | .bool a=>a == true | _=>false)=true;rw[g (d.idxOf true) (by omega)];simp
 ·intro m i o;have p:m<b.length:=by simpa using i
  show(match b[m] with | .bool a=>a == true | _=>false)=false;rw[g m p];have:¬d[m]'(by omega)=true:=ni (by omega) o;simpa using this
 ·obtain⟨m,i,D⟩:=List.mem_iff_getElem.mp (show y∈b by simpa using E);rw[<-D,g m i];exact SeqAt.EqAt.bool_bool _ _
inductive He (x:V)(y:V)(H:Hp)(Q:VK):Prop
 |mk (i j:_)(_:x=.int i)(_:y=.int j)(_:Q (.int (Builtin.bitOr i j)) H)
def FW:V->V->Hp->VK->Prop:=λx y H Q=>He x y H Q
inductive E8 (x:V)(y:V)(H:Hp)(Q:VK):Prop
 |mk (i j:_)(_:x=.int i)(_:y=.int j)(_:Q (.int (Builtin.bitAnd i j)) H)
def FZ:V->V->Hp->VK->Prop:=λx y H Q=>E8 x y H Q
theorem Aw:E9 X .BitOr FW:=by
 rintro b s σ H x y u v Q I d e ⟨i,j,rfl,rfl,q⟩;obtain⟨t,rfl⟩:=(show ∃t,u=Value.int i t from d);obtain⟨a,rfl⟩:=(show ∃a,v=Value.int j a from e);exact PyProof.Rows.ior_int ⟨.int _,H,I.tok _,⟨_,rfl⟩,q⟩
theorem ud:GH X .BitOr FW:=λpins s σ H x y u v Q I rx ry h=>Aw pins s σ H x y u v Q I rx ry h
theorem Et:GH X .BitAnd FZ:=by
 rintro b s σ H x y u v Q I d e ⟨i,j,rfl,rfl,q⟩;obtain⟨t,rfl⟩:=(show ∃t,u=Value.int i t from d);obtain⟨a,rfl⟩:=(show ∃a,v=Value.int j a from e);exact PyProof.Rows.iand_int ⟨.int _,H,I.tok _,⟨_,rfl⟩,q⟩
section
variable {xs:List (fV×Value×Value)}{k:fV}{u:Value}
theorem Eb {v:Value}(q:A.units<cLine)(p:nW P w s.heap k u)(D:nO P w s.heap d xs)(hz:xs.length<=sizeLine)(H:∀x tk,lN xs k=some x->Q x {s with toks:=tk})(C:lN xs k=none->∀h' tk,nO P w h' d (qg xs k u v)->Heap.SameBut d s.heap h'->Q v {s with heap:=h',toks:=tk}):wpAny (model P w) A (dictSetDefault d u v) Q E s:=by
 obtain⟨o,F,G,i,J,g,m,t,hn⟩:=D;have K:F.size=xs.length:=by rw[<-bw,m,ab]
 unfold dictSetDefault
 try with_reducible refine bA ?_
 refine ac (vo q p λtk=>ac (vp (s:={s with toks:=tk}) q p i g (sH m t hn) (λh=>?_) (λj y=>?_)))
 ·have hp:qg xs k u v=xs++[(k,u,v)]:=by unfold qg;rw[lJ h,av (by decide)]
  refine ac (bZ (ac (wpAny_updateDictKeys (hz:=by lia) (s:={s with toks:=tk}) i g (ar (C (lJ h) _ tk ?_ (Heap.SameBut.update ..))))));refine⟨_,_,G+1,cR _ i (Obj.isFreed_of_dict (Obj.data_mapDictKeys g _)),J.mapDictKeys _,Obj.data_mapDictKeys g _,?_,λx l=>?_,?_⟩
  ·rw[hp];simp[m,uj]
  ·rw[hp]at l;rcases aD.mp l with z | z
   ·exact(t x z).keep i g (Heap.SameBut.update ..)
   ·rw[aj.mp z];exact p.keep i g (Heap.SameBut.update ..)
  ·rw[hp,ay,bN];refine⟨hn,by simp,λa B b r z=>h ?_⟩;rw[aG,cO,aj]at r;rw[z,r]at B;exact B
 ·rw[ae]at y;obtain⟨x,l,e⟩:=az.mp y;obtain⟨I,L⟩:=x;obtain rfl:k=I:=e.symm;refine ac (cU (s:={s with toks:=tk}) i g ?_);rw[<-bF,m,ae,l]
  exact ac (bZ (ar (H _ tk (ow hn l))))
end
section
variable {y v:V}{u r:Value}{o:Option V}
theorem CI {z:V}(m:A.units+1<cLine)(I:eT X pins σ H s)(g:hU H a y o)(p:eZ y u)(q:eZ z r)(h:∀w' s',eT X pins σ H s'->eZ (o.getD z) w'->Q w' s'):wpAny (model X.prog X.w) A (call (.builtin "dict.get") [.ref a,u,r]) Q E s:=by
 obtain⟨d,l⟩:=oy I g;refine cc PySem.F.slot_dict_get d PySem.F.entry_dict_get ?_ (PySem.F.args_dict_get_3 _ _ _);unfold Builtin.«dict.get»;refine ac ?_;unfold Builtin.Dict.keyAndDefault;refine ac (cK d ?_);show wpAny _ _ (pure (a,u,some r)) _ _ s;refine ar ?_;refine ac (vG m I g p λt s' j i=>?_);cases o with
 |some x=>
  obtain⟨w',rfl,b⟩:=jB.some_of i;exact ar ⟨w',rfl,h w' s' j b⟩
 |none=>
  have e:t=none:=jB.none_of i;subst e;refine ac ?_;unfold Builtin.Dict.missed;dsimp only;rw[av (by rw[l];exact aN)];exact ar (ar ⟨r,rfl,h r s' j q⟩)
theorem CH {z:V}{k:fV}(N:A.units+1<cLine)(I:eT X pins σ H s)(e:H a=some (.dN kvs))(i:lQ H k y)(Z:kvs.length<sizeLine)(p:eZ y u)(O:eZ z r)(G:∀v w' s',eV kvs k=some v->eT X pins σ H s'->eZ v w'->Q w' s')(B:eV kvs k=none->∀s',eT X pins σ (upd H a (.dN (fm kvs k z))) s'->Q r s'):wpAny (model X.prog X.w) A (call (.builtin "dict.setdefault") [.ref a,u,r]) Q E s:=by
 obtain⟨T,g,L,rel,t⟩:=uk I.hok (.inl e);have J:L.length<=sizeLine:=by rw[<-Paired.length rel];exact T
 have hp:(fm kvs k z).length<=sizeLine:=by have:=fZ kvs k z;lia
 have j:=t.typeIs;refine cc PySem.F.slot_dict_setdefault j PySem.F.entry_dict_setdefault ?_ (PySem.F.args_dict_setdefault_3 _ _ _);unfold Builtin.«dict.setdefault»;refine ac ?_;unfold Builtin.Dict.keyAndDefault;refine ac (cK j ?_);show wpAny _ _ (pure (a,u,some r)) _ _ s;refine ar ?_;show wpAny _ _ (if (a == sysModules)=true then _ else (dictSetDefault a u r >>= _)) _ _ s;rw[av (by rw[g];exact aN)];have q:=rel.val k;refine ac (Eb N (oo I.hok (i.rel p)) t J (λx D P=>?_) λhn Y D d hs=>?_)
 ·rw[P]at q;cases l:eV kvs k with
  |none=>rw[l]at q;exact q.elim
  |some v=>rw[l]at q;exact ar ⟨x,rfl,G v x _ l (I.tok _) q⟩
 ·rw[hn]at q;have l:eV kvs k=none:=by
   cases l:eV kvs k with
   |none=>rfl
   |some x=>rw[l]at q;exact q.elim
  refine ar ⟨r,rfl,B l _ ?_⟩;obtain⟨m,M,R,o,C,U,K,_,S⟩:=d;have keep:∀c b,H c=some (.tup b)->upd H a (.dN (fm kvs k z)) c=some (.tup b):=λc b h=>by
   rw[ef (fh h e (λz=>nomatch z))];exact h
  exact jZ I (by rw[e];exact True.intro) hs ⟨m,o⟩ ⟨hp,g,_,Paired.J4 (rel.put k (i.rel p) O) λ_ _ q=>⟨q.1,q.2.1.keeps keep,q.2.2⟩,m,M,R,o,C,U,K,S⟩
end
def E7 (H:Hp)(a:Addr):Prop:=∃kvs,Rd H a (.dN kvs)
theorem wJ (I:eT X pins σ H s)(d:E7 H a):s.TypeIs (.ref a) "dict"/\(∀b,Value.ref a=.ref b->∃ob,s.heap.get? b=some ob/\ob.dict=none):=by
 obtain⟨h,e⟩:=d;obtain⟨_,l,m,_,g⟩:=uk I.hok e;refine⟨g.typeIs,λb q=>?_⟩;cases q;obtain⟨ob,_,_,j,i,_⟩:=g;exact⟨ob,j,i.2.1⟩
inductive Bh (ty:TE)(tx:TE)(σ:St)(Q:VK)(x:V)(H1:Hp):Prop
 |mk (a:_)(_:x=.ref a)(_:E7 H1 a)(_:ty σ H1 λy H2=>tx σ H2 λz H3=>∃o,hU H3 a y o/\Q (o.getD z) H3)
def Bt (td ty tx:TE):TE:=λσ H Q=>td σ H λx H1=>Bh ty tx σ Q x H1
inductive Bf (ty:TE)(tx:TE)(σ:St)(Q:VK)(x:V)(H1:Hp):Prop
 |mk (a:_)(_:x=.ref a)(_:E7 H1 a)(_:ty σ H1 λy H2=>tx σ H2 λz H3=>∃kvs k,H3 a=some (.dN kvs)/\lQ H3 k y/\kvs.length<sizeLine/\(∀v,eV kvs k=some v->Q v H3)/\(eV kvs k=none->Q z (upd H3 a (.dN (fm kvs k z)))))
def Br (td ty tx:TE):TE:=λσ H Q=>td σ H λx H1=>Bf ty tx σ Q x H1
inductive C6 (tv:TE)(rd:V->V->Hp->VK->Prop)(D:mN)(σ:St)(x:V)(y:V)(H2:Hp):Prop
 |mk (a v:_)(_:x=.ref a)(_:hU H2 a y (some v))(_:tv σ H2 λy2 H3=>rd v y2 H3 λz H4=>∃H5,lF H4 a y z H5/\D.nx σ H5)
def DT (td ty tv:TE)(rd:V->V->Hp->VK->Prop):TS:=λD σ H=>td σ H λx H1=>ty σ H1 λy H2=>C6 tv rd D σ x y H2
section
variable {o e f i value:Expr}{apos cpos pos tpos:Pos}{td ty tx tv:TE}
theorem qC (L:X.A.units+1<cLine)(E:PE X o td)(R:PE X e ty)(D:PE X f tx)(m:M2 X o "get" apos e f cpos):PE X (.Call (.Attribute o "get" apos) [e,f] [] cpos) (Bt td ty tx):=by
 intro b s σ H Q I h;refine dw m.base m.few m.line PySem.F.plainAttrs_dict PySem.F.slot_dict_get PySem.F.type_dict_get (fW (E b s σ H _ I h) ?_);rintro u K ⟨x,J,j,M,a,l,d,w⟩;subst l;obtain rfl:u=Value.ref a:=M;obtain⟨G,p⟩:=wJ j d;refine⟨G,p,?_⟩;rw[m.trees];refine Calls.callWith_builtin rfl (Calls.evalArgs_plain (Calls.spliced_cons (fW (R b K σ J _ j w) λiv v ⟨y,P,C,N,S⟩=>Calls.spliced_cons (fW (D b v σ P _ C S) λfv Z ⟨z,r,t,O,Y,g,B⟩=>Calls.spliced_nil ?_))));exact CI L t g N O λU T q i=>⟨_,r,q,i,B⟩
theorem xz (T:X.A.units+1<cLine)(M:PE X o td)(he:PE X e ty)(L:PE X f tx)(m:M2 X o "setdefault" apos e f cpos):PE X (.Call (.Attribute o "setdefault" apos) [e,f] [] cpos) (Br td ty tx):=by
 intro b s σ H Q I h;refine dw m.base m.few m.line PySem.F.plainAttrs_dict PySem.F.slot_dict_setdefault PySem.F.type_dict_setdefault (fW (M b s σ H _ I h) ?_);rintro u S ⟨x,O,i,U,a,p,d,E⟩;subst p;obtain rfl:u=Value.ref a:=U;obtain⟨N,q⟩:=wJ i d;refine⟨N,q,?_⟩;rw[m.trees];refine Calls.callWith_builtin rfl (Calls.evalArgs_plain (Calls.spliced_cons (fW (he b S σ O _ i E) λiv D ⟨y,Z,J,Y,q2⟩=>Calls.spliced_cons (fW (L b D σ Z _ J q2) λfv s3 ⟨z,w,B,j,r,k,ea,C,R,G,P⟩=>Calls.spliced_nil ?_))));exact CH T B ea C R Y j (λv w' t l g K=>⟨v,w,g,K,G v l⟩) λl t g=>⟨z,_,g,j,P l⟩
theorem zr {op:Operator}{rd:V->V->Hp->VK->Prop}(l:X.A.units+1<cLine)(M:PE X o td)(S:PE X i ty)(Z:PE X value tv)(d:E9 X op rd)(ha:∀ov iv new,augStore i ov iv new=(do holding [new,ov,iv] (setItem ov iv new);release [new,ov,iv] [];pure .next)):PS X (.AugAssign (.Subscript o i tpos) op value pos) (DT td ty tv rd):=by
 intro b s σ H D I h;refine wpAny_AugAssign_SubscriptAny (fW (M b s σ H _ I h) ?_) ha;rintro u P ⟨x,O,w,Q,G⟩;refine fW (S b P σ O _ w G) ?_;rintro iv s2 ⟨y,T,K,m,a,v,p,g,q2⟩;subst p;obtain rfl:u=Value.ref a:=Q;refine pM l K g m λr Y E e=>fW (Z b Y σ T _ E q2) ?_;rintro w2 q ⟨y2,B,t,j,J⟩;refine fW (d b q σ B v y2 r w2 _ t e j J) ?_;rintro w3 s5 ⟨z,H4,F,R,C,U,N⟩;exact pL l F U m R λs6 L=>⟨σ,C,L,N⟩
end
theorem uv (N:X.calm=true):jv X (.type "list") (λxs H Q=>∃p kvs,xs=[.ref p]/\Rd H p (.dK kvs)/\∀l,H l=none->Q (.ref l) (upd H l (.lst (kvs.map λkv=>kV kv.1)))):=by
 intro D s σ H xs P Q I r h;obtain⟨p,kvs,rfl,e,q⟩:=h;obtain⟨u,rfl,F⟩:=jk r;cases (show u=Value.ref p from F);obtain⟨z,hd,A,rel,L⟩:=lB I.hok e;obtain⟨ep,m⟩:=L.dictAt;have C:=rel.length;refine W.kdl_call (W.kdl_dict (knd:=fb X.prog X.w) (kvs:=A) (ep:=ep) hd) (I.ok.hd N) m (by rw[<-C];exact z) λO J t c G M d=>?_;have hn:=I.hok.fresh (ao s.heap.objs.size);refine⟨.ref s.heap.objs.size,_,I.laid (a:=s.heap.objs.size) (o:=.lst (kvs.map λkv=>kV kv.1)) (t':=J) (λb o q=>G b o q) (ao _) ?_,rfl,q _ hn⟩;refine⟨by rw[ab];exact z,t.toList,c,?_,by rw[M]⟩;refine ki (by rw[ab,C,bw];exact d.1.symm) λi x y j B=>?_;rw[bF]at B;obtain⟨k,v,K,E⟩:=d.2 i y B;rw[ae]at j;have g:kvs[i]?.map (·.1)=A[i]?.map (·.1):=by rw[<-ae,<-ae,rel.keys]
 rw[K]at g;cases hi:kvs[i]? with
 |none=>rw[hi]at j;cases j
 |some kv=>
  rw[hi]at j g;cases j;have:kv.1=k:=by simpa using g
  show eZ (kV kv.1) y;rw[this];exact vA E
theorem vK:jv X (.type "dict") (λxs H Q=>∃p kvs,xs=[.ref p]/\Rd H p (.dK kvs)/\∀l,H l=none->Q (.ref l) (upd H l (.dK kvs))):=by
 intro a s σ H xs i Q I r h;obtain⟨p,kvs,rfl,e,q⟩:=h;obtain⟨u,rfl,b⟩:=jk r;cases (show u=Value.ref p from b);exact AN I e λl g hn d=>⟨.ref l,_,d,rfl,q l hn⟩
theorem BK {a:Expr}{ta:TE}(w:PE X a ta)(t:∀whole,isTrue a X.env whole=(do let v <-whole;standAt a.pos;holding [v] (truthy v))):PT X a (λσ H Q=>ta σ H λx H'=>∃p kvs,x=.ref p/\Rd H' p (.dK kvs)/\Q (!kvs.isEmpty) H'):=by
 intro b s σ H Q I h;refine isTrue_plain (fW (w b s σ H _ I h) ?_) (t _);rintro v z ⟨x,i,d,j,p,kvs,g,l,q⟩;subst g;cases (show v=Value.ref p from j);obtain⟨A,y,o,r,m⟩:=lB d.hok l;have e:kvs.length=o.length:=Paired.length r;have hs:sizeLine=16777216:=bV;exact wpAny_truthy_dict y m (by lia) ⟨i,d.tok _,by rw[pF r];exact q⟩
def KT.all {α:Type}(lt:Nat->Nat->Bool)(n:Nat)(Q:α->Prop):W.KasT α->Prop
 |.ret a=>Q a
 |.ask i j k=>i<n/\j<n/\KT.all lt n Q (k (lt i j))
theorem KT.bind {α β:Type}{lt:Nat->Nat->Bool}{n:Nat}{Q:β->Prop}{f:α->W.KasT β}:∀{t:W.KasT α},KT.all lt n (λa=>KT.all lt n Q (f a)) t->KT.all lt n Q (t.bind f)
 |.ret _,h=>h
 |.ask i j k,h=>⟨h.1,h.2.1,KT.bind (t:=k (lt i j)) h.2.2⟩
theorem KT.mono {α:Type}{lt:Nat->Nat->Bool}{n:Nat}{Q Q':α->Prop}(hq:∀a,Q a->Q' a):∀{t:W.KasT α},KT.all lt n Q t->KT.all lt n Q' t
 |.ret a,h=>hq a h
 |.ask i j k,h=>⟨h.1,h.2.1,KT.mono hq (t:=k (lt i j)) h.2.2⟩
structure SO (lt:Nat->Nat->Bool):Prop where
 tr:∀a b c,lt a b=true->lt b c=true->lt a c=true
 as:∀a b,lt a b=true->lt b a=false
structure yI (lt:Nat->Nat->Bool)(n:Nat)(p:Array Nat):Prop where
 sz:p.size=n
 bd:∀i,i<n->p.getD i 0<n
 tt:∀i j,i<n->j<n->i≠j->lt (p.getD i 0) (p.getD j 0)=true\/lt (p.getD j 0) (p.getD i 0)=true
def mh (lt:Nat->Nat->Bool)(p:Array Nat)(m:Nat):Prop:=∀i j,i<j->j<m->lt (p.getD i 0) (p.getD j 0)=true
def yF (lt:Nat->Nat->Bool)(p:Array Nat)(m:Nat):Prop:=∀i j,i<j->j<m->lt (p.getD j 0) (p.getD i 0)=true
theorem uf {q:Array Nat}{j:Nat}(h:p[i]?=q[j]?):p.getD i 0=q.getD j 0:=by
 rw[cg,cg,h]
section
variable {lt:Nat->Nat->Bool}{n:Nat}
theorem mh.more (S:SO lt)(h:mh lt p m)(h1:1<=m)(hl:lt (p.getD (m-1) 0) (p.getD m 0)=true):mh lt p (m+1):=λi j hij hj=>by
 by_cases e:j=m
 ·subst e;by_cases e2:i=j-1
  ·subst e2;exact hl
  ·exact S.tr _ _ _ (h i (j-1) (by lia) (by lia)) hl
 ·exact h i j hij (by lia)
theorem yF.more (S:SO lt)(h:yF lt p m)(h1:1<=m)(hl:lt (p.getD m 0) (p.getD (m-1) 0)=true):yF lt p (m+1):=λi j hij hj=>by
 by_cases e:j=m
 ·subst e;by_cases e2:i=j-1
  ·subst e2;exact hl
  ·exact S.tr _ _ _ hl (h i (j-1) (by lia) (by lia))
 ·exact h i j hij (by lia)
theorem vN (S:SO lt){p:Array Nat}(P:yI lt n p):∀(f m:Nat),f=n-m->1<=m->m<=n->mh lt p m->KT.all lt n (λr=>m<=r/\r<=n/\mh lt p r/\(r=n\/lt (p.getD r 0) (p.getD (r-1) 0)=true)) (W.kas_asc p f m)
 |0,m,hf,h1,hm,hu=>⟨ao _,hm,hu,.inl (by lia)⟩
 |f+1,m,hf,h1,hm,hu=>by
  refine⟨P.bd _ (by lia),P.bd _ (by lia),?_⟩;show KT.all lt n _ (if lt (p.getD m 0) (p.getD (m-1) 0)=true then W.KasT.ret m else W.kas_asc p f (m+1));by_cases hc:lt (p.getD m 0) (p.getD (m-1) 0)=true
  ·rw[ax hc];exact⟨ao _,hm,hu,.inr hc⟩
  ·rw[av hc];have hl:=(P.tt m (m-1) (by lia) (by lia) (by lia)).resolve_left hc;exact KT.mono (λr hr=>⟨by lia,hr.2⟩) (vN S P f (m+1) (by lia) (by lia) (by lia) (hu.more S h1 hl))
theorem wN (S:SO lt){p:Array Nat}(P:yI lt n p):∀(f m:Nat),f=n-m->1<=m->m<=n->yF lt p m->KT.all lt n (λr=>r.1=p/\m<=r.2.1/\r.2.1<=n/\yF lt p r.2.1/\r.2.2=0) (W.kas_desc f p m 0)
 |0,m,hf,h1,hm,hu=>⟨rfl,ao _,hm,hu,rfl⟩
 |f+1,m,hf,h1,hm,hu=>by
  refine⟨P.bd _ (by lia),P.bd _ (by lia),?_⟩;show KT.all lt n _ (if lt (p.getD m 0) (p.getD (m-1) 0)=true then (if 0>0 then W.kas_desc f (W.kas_rev p (m-(0+1)) m) (m+1) 0 else W.kas_desc f p (m+1) 0) else W.KasT.ask (p.getD (m-1) 0) (p.getD m 0) λd=>if d=true then .ret (p,m,0) else W.kas_desc f p (m+1) (0+1));by_cases hc:lt (p.getD m 0) (p.getD (m-1) 0)=true
  ·rw[ax hc,av (by decide)];exact KT.mono (λr hr=>⟨hr.1,by lia,hr.2.2⟩) (wN S P f (m+1) (by lia) (by lia) (by lia) (hu.more S h1 hc))
  ·rw[av hc];have hl:=(P.tt m (m-1) (by lia) (by lia) (by lia)).resolve_left hc;refine⟨P.bd _ (by lia),P.bd _ (by lia),?_⟩;show KT.all lt n _ (if lt (p.getD (m-1) 0) (p.getD m 0)=true then W.KasT.ret (p,m,0) else W.kas_desc f p (m+1) (0+1));rw[ax hl];exact⟨rfl,ao _,hm,hu,rfl⟩
theorem pf (a:m<=p.size)(k:Nat):(W.kas_rev p 0 m).getD k 0=if k<m then p.getD (m-1-k) 0 else p.getD k 0:=by
 have e:=getElem?_mirror_all (i:=0) a k;unfold W.kas_rev;by_cases h:k<m
 ·rw[ax h];rw[ax ⟨bo _,h⟩,dL]at e;exact uf e
 ·rw[av h];rw[av (λz=>h z.2)]at e;exact uf e
theorem DV (P:yI lt n p)(a:m<=n):yI lt n (W.kas_rev p 0 m):=by
 refine⟨(W.kas_rev_size 0 m).trans P.sz,λi b=>?_,λi j b e d=>?_⟩
 ·rw[pf (by rw[P.sz];exact a)];by_cases h:i<m
  ·rw[ax h];exact P.bd _ (by lia)
  ·rw[av h];exact P.bd _ b
 ·rw[pf (by rw[P.sz];exact a),pf (by rw[P.sz];exact a)]
  repeat' split
  all_goals exact P.tt _ _ (by lia) (by lia) (by lia)
theorem yR (S:SO lt)(P:yI lt n p)(h:1<=m)(a:m<=n)(e:yF lt p m):KT.all lt n (λr=>1<=r.1/\r.1<=n/\mh lt r.2 r.1/\yI lt n r.2/\r.2.Perm p) (W.kas_tail3 m n p):=by
 have b:=DV P a;have l:mh lt (W.kas_rev p 0 m) m:=λi j o g=>by
  rw[pf (by rw[P.sz];exact a),pf (by rw[P.sz];exact a),ax (by lia),ax g];exact e _ _ (by lia) (by lia)
 refine KT.bind (KT.mono (λr d=>?_) (vN S b (n-m) m rfl h a l));exact⟨by lia,d.2.1,d.2.2.1,b,mirror_perm _ _ _ _⟩
theorem AR (S:SO lt)(P:yI lt n p)(y:2<=n):KT.all lt n (λr=>1<=r.1/\r.1<=n/\mh lt r.2 r.1/\yI lt n r.2/\r.2.Perm p) (W.kas_count n p):=by
 unfold W.kas_count;refine KT.bind (KT.mono (λm w=>?_) (vN S P (n-1) 1 rfl (ao _) (by lia) λi j a b=>by lia));obtain⟨g,h,d,l⟩:=w;by_cases e:m=n
 ·rw[ax (by simpa using e)];exact⟨g,h,d,P,Array.Perm.refl _⟩
 ·rw[av (by simpa using e)];by_cases h1:m>1
  ·rw[ax h1];refine⟨P.bd _ (by lia),P.bd _ (by lia),?_⟩;show KT.all lt n _ (if lt (p.getD 0 0) (p.getD (m-1) 0)=true then W.KasT.ret (m,p) else W.kas_descPart m n (W.kas_rev p 0 m));rw[ax (d 0 (m-1) (by lia) (by lia))];exact⟨g,h,d,P,Array.Perm.refl _⟩
  ·rw[av h1];have:m=1:=by lia
   subst this;have o:=l.resolve_left (by lia);unfold W.kas_descPart;refine KT.bind (KT.mono (λr s=>?_) (wN S P (n-(1+1)) (1+1) rfl (by lia) (by lia) λi j a b=>?_))
   ·obtain⟨q,z,v,t,x⟩:=s;rw[av (by lia),q];exact yR S P (by lia) v t
   ·have:i=0/\j=1:=by lia
    obtain⟨rfl,rfl⟩:=this;exact o
theorem pi (S:SO lt){p:Array Nat}(P:yI lt n p){k:Nat}(g:k<n)(d:mh lt p k):∀(f l r:Nat),r-l<=f->l<=r->r<=k->(∀i,i<l->lt (p.getD i 0) (p.getD k 0)=true)->(∀i,r<=i->i<k->lt (p.getD k 0) (p.getD i 0)=true)->KT.all lt n (λx=>x<=k/\(∀i,i<x->lt (p.getD i 0) (p.getD k 0)=true)/\∀i,x<=i->i<k->lt (p.getD k 0) (p.getD i 0)=true) (W.kas_place p k f l r)
 |0,l,r,hf,hlr,hrk,h1,h2=>by
  have:l=r:=by lia
  subst this;exact⟨hrk,h1,h2⟩
 |f+1,l,r,hf,hlr,hrk,h1,h2=>by
  unfold W.kas_place;by_cases e:l ≥ r
  ·rw[ax e];have:l=r:=by lia
   subst this;exact⟨hrk,h1,h2⟩
  ·rw[av e];refine⟨P.bd _ (by lia),P.bd _ (by lia),?_⟩;show KT.all lt n _ (if lt (p.getD k 0) (p.getD ((l+r) / 2) 0)=true then W.kas_place p k f l ((l+r) / 2) else W.kas_place p k f ((l+r) / 2+1) r);by_cases hc:lt (p.getD k 0) (p.getD ((l+r) / 2) 0)=true
   ·rw[ax hc];refine pi S P g d f l ((l+r) / 2) (by lia) (by lia) (by lia) h1 λi a b=>?_;by_cases e2:i=(l+r) / 2
    ·subst e2;exact hc
    ·exact S.tr _ _ _ hc (d _ _ (by lia) b)
   ·rw[av hc];have h:=(P.tt k ((l+r) / 2) g (by lia) (by lia)).resolve_left hc;refine pi S P g d f ((l+r) / 2+1) r (by lia) (by lia) hrk (λi a=>?_) h2;by_cases e2:i=(l+r) / 2
    ·subst e2;exact h
    ·exact S.tr _ _ _ (d i _ (by lia) (by lia)) h
theorem EI {k d:Nat}(b:k<p.size)(a:d<=k)(i:Nat):(bubble p k d).getD i 0=if i=k-d then p.getD k 0 else if k-d<i/\i<=k then p.getD (i-1) 0 else p.getD i 0:=by
 have e:=getElem?_bubble b d a i;by_cases h1:i=k-d
 ·rw[ax h1]at e ⊢;exact uf e
 ·rw[av h1]at e ⊢;by_cases h2:k-d<i/\i<=k
  ·rw[ax h2]at e ⊢;exact uf e
  ·rw[av h2]at e ⊢;exact uf e
theorem AV (S:SO lt):∀(f k:Nat) (p:Array Nat),yI lt n p->f=n-k->k<=n->mh lt p k->KT.all lt n (λq=>mh lt q n/\yI lt n q/\q.Perm p) (W.kas_bin f p k)
 |0,k,p,P,hf,hk,hu=>by
  have:k=n:=by lia
  subst this;exact⟨hu,P,Array.Perm.refl _⟩
 |f+1,k,p,P,hf,hk,hu=>by
  have m:k<n:=by lia
  have hs:k<p.size:=by rw[P.sz];exact m
  unfold W.kas_bin;refine KT.bind (KT.mono (λl v=>?_) (pi S P m hu k 0 k (by lia) (by lia) (ao _) (λi a=>by lia) λi a b=>by lia));obtain⟨y,s,t⟩:=v;have d:=λi=>EI (p:=p) hs (show k-l<=k by lia) i;rw[show k-(k-l)=l by lia]at d;have e:=P.tt;have h:=P.bd;unfold mh at hu;obtain⟨g,hg⟩:∃g:Nat->Nat,∀i,p.getD i 0=g i:=⟨λi=>p.getD i 0,λ_=>rfl⟩;simp only[hg]at d s t e hu h;refine KT.mono (λq r=>⟨r.1,r.2.1,r.2.2.trans (bubble_perm _ _ _)⟩) (AV S f (k+1) (bubble p k (k-l)) ⟨(bubble_size _ _ _).trans P.sz,λi w=>?_,λi j w x o=>?_⟩ (by lia) (by lia) λi j o x=>?_)
  ·rw[d]
   repeat' split
   all_goals exact h _ (by lia)
  ·rw[d,d]
   repeat' split
   all_goals first | (exfalso;lia) | exact e _ _ (by lia) (by lia) (by lia)
  ·rw[d,d]
   repeat' split
   all_goals first | (exfalso;lia) | exact s _ (by lia) | exact t _ (by lia) (by lia) | exact hu _ _ (by lia) (by lia)
theorem Bw (S:SO lt)(o:2<=n)(s:∀i j,i<n->j<n->i≠j->lt i j=true\/lt j i=true):KT.all lt n (λq=>mh lt q n/\q.size=n/\q.toList.Perm (List.range n)) (W.kas_sort n):=by
 have e:∀i,i<n->(List.toArray (List.range n)).getD i 0=i:=λi a=>by
  rw[cg];simp[a]
 have P:yI lt n (List.toArray (List.range n)):=⟨by simp,λi a=>by rw[e i a];exact a,λi j a m d=>by rw[e i a,e j m];exact s i j a m d⟩;unfold W.kas_sort;refine KT.bind (KT.mono (λr p=>?_) (AR S P o));obtain⟨w,t,g,h,v⟩:=p;have l:∀{q:Array Nat},q.Perm r.2->q.toList.Perm (List.range n):=λb=>by
  have:=Array.perm_iff_toList_perm.mp (b.trans v);simpa using this
 by_cases hlt:r.1<n
 ·rw[ax hlt,show max r.1 1=r.1 by lia];exact KT.mono (λq b=>⟨b.1,b.2.1.sz,l b.2.2⟩) (AV S (n-r.1) r.1 r.2 h rfl t g)
 ·rw[av hlt];have:r.1=n:=by lia
  rw[this]at g;exact⟨g,h.sz,l (Array.Perm.refl _)⟩
end
theorem KT.wp {α:Type}{lt:Nat->Nat->Bool}{n:Nat}{cmp:Nat->Nat->(Bool->Shared->Prop)->Shared->Prop}{s:Shared}{Q:α->Prop}{R:α->Shared->Prop}(hc:∀i j,i<n->j<n->∀(C:Bool->Shared->Prop),C (lt i j) s->cmp i j C s)(hr:∀a,Q a->R a s):∀{t:W.KasT α},KT.all lt n Q t->t.kasWp cmp R s
 |.ret a,h=>hr a h
 |.ask i j k,h=>hc i j h.1 h.2.1 _ (KT.wp hc hr (t:=k (lt i j)) h.2.2)
abbrev SI:=Str×Int
def qi (a b:SI):Bool:=if a.1=b.1 then decide (a.2<b.2) else decide (a.1.cps.toList<b.1.cps.toList)
theorem uG {a b:Str}(h:a.cps.toList=b.cps.toList):a=b:=by
 cases a;cases b;simp only[Str.mk.injEq];exact Array.toList_inj.mp h
theorem x4 {a c:SI}(d:qi a b=true)(e:qi b c=true):qi a c=true:=by
 unfold qi at *;by_cases e1:a.1=b.1
 ·by_cases e2:b.1=c.1
  ·rw[ax e1]at d;rw[ax e2]at e;rw[ax (e1.trans e2)];simp only[aB]at *;lia
  ·rw[av e2]at e;rw[av (λz=>e2 (e1.symm.trans z)),e1];exact e
 ·by_cases e2:b.1=c.1
  ·rw[av e1]at d;rw[av (λz=>e1 (z.trans e2.symm)),<-e2];exact d
  ·rw[av e1]at d;rw[av e2]at e;simp only[aB]at d e;have g:=List.lt_trans d e;rw[av (λz=>by rw[z]at g;exact List.lt_irrefl _ g)];simpa using g
theorem x6 {a:SI}(h:qi a b=true):qi b a=false:=by
 unfold qi at *;by_cases e:a.1=b.1
 ·rw[ax e]at h;rw[ax e.symm];simp only[aB,decide_eq_false_iff_not]at *;lia
 ·rw[av e]at h;rw[av (λz=>e z.symm)];simp only[aB,decide_eq_false_iff_not]at *;exact λz=>List.lt_irrefl _ (List.lt_trans h z)
theorem x5 {a:SI}(h:a≠b):qi a b=true\/qi b a=true:=by
 unfold qi;by_cases e:a.1=b.1
 ·rw[ax e,ax e.symm];simp only[aB];have:a.2≠b.2:=λz=>h (Prod.ext e z)
  lia
 ·rw[av e,av (λz=>e z.symm)];simp only[aB];by_cases h1:a.1.cps.toList<b.1.cps.toList
  ·exact .inl h1
  ·by_cases h2:b.1.cps.toList<a.1.cps.toList
   ·exact .inr h2
   ·exact absurd (uG (List.le_antisymm (List.not_lt.mp h2) (List.not_lt.mp h1))) e
section
variable {prog:Program}
theorem x8 {vs:List Value}{n:Nat}{P:PySem.Fin->Shared->Prop}{lt:Nat->Nat->Bool}{κ:SortKind}(y:s.heap.get? a=some (seqObj "list" vs.toArray n))(H:vs.length<64)(S:SO lt)(R:∀i j,i<vs.length->j<vs.length->i≠j->lt i j=true\/lt j i=true)(T:∀h',(∀b o,b≠a->s.heap.get? b=some o->h'.get? b=some o)->2<=vs.length->∀Q:SortKind->Shared->Prop,Q κ {s with heap:=h'}->wpAny (model prog w) A (keyKind' vs.toArray) Q E {s with heap:=h'})(U:∀h',(∀b o,b≠a->s.heap.get? b=some o->h'.get? b=some o)->∀i j,i<vs.length->j<vs.length->∀C:Bool->Shared->Prop,C (lt i j) {s with heap:=h'}->W.kas_ask prog w A κ vs i j C {s with heap:=h'})(h:∀p:List Nat,p.Perm (List.range vs.length)->p.Pairwise (λi j=>lt i j=true)->P (.done (.ret .none)) {s with heap:=sortedHeap s.heap a vs (p.map λi=>vs.getD i Value.none).toArray}):wpAny (model prog w) A (Builtin.«list.sort» ⟨[.ref a],[]⟩) P E s:=by
 rw[list_sort_plain];have K:a<s.heap.objs.size:=aS y;have X:vs.toArray.size=vs.length:=aM ..;refine ac (listItems_at y rfl (ac (listUpdate_at y rfl ?_)));obtain⟨e1,ho1⟩:∃e1,(s.heap.update a (Obj.mapSeq λ_=>(#[]:Array Value))).get? a=some (seqObj "list" #[] e1):=⟨_,get?_update_seq y (λ_=>#[])⟩;refine ac (seqEpoch_at ho1 rfl (ac (wpAny_newTuple (ac (wpAny_newList (bA ?_))))));have keep:∀b o,b≠a->s.heap.get? b=some o->(((s.heap.update a (Obj.mapSeq λ_=>(#[]:Array Value))).push (seqObj "tuple" vs.toArray 0)).push (seqObj "list" #[] 0)).get? b=some o:=λb o N e=>by
  have q:=aS e;rw[cW _ _ _ (by rw[size_push',dE];exact aW (dz q)),cW _ _ _ (by rw[dE];exact aW q),Heap.get?_update_ne _ _ _ _ N]
  exact e
 have d:(((s.heap.update a (Obj.mapSeq λ_=>(#[]:Array Value))).push (seqObj "tuple" vs.toArray 0)).push (seqObj "list" #[] 0)).get? a=some (seqObj "list" #[] e1):=by
  rw[cW _ _ _ (by rw[size_push',dE];exact aW (dz K)),cW _ _ _ (by rw[dE];exact aW K)]
  exact ho1
 show wpAny (model prog w) A _ P E {s with heap:=((s.heap.update a (Obj.mapSeq λ_=>(#[]:Array Value))).push (seqObj "tuple" vs.toArray 0)).push (seqObj "list" #[] 0)};dsimp only;by_cases h2:vs.toArray.size<2
 ·rw[ax h2,ax h2];refine ac (ar ?_);rw[StateT.run_pure];refine ac (ar ?_);dsimp only;refine ac (seqEpoch_at d rfl (ac (listUpdate_at d rfl ?_ (hsz2:=by rw[Array.size_map];show(pairsOf vs).size<=_;rw[pairsOf_size,bV];lia))));simp only[bne_self_eq_false,cb,if_false];have e:Array.map (·.2) (arrOf (SortSt.mk' general' (vs.toArray.zip vs.toArray) #[] 7 none))=((List.range vs.length).map λi=>vs.getD i Value.none).toArray:=by
   show Array.map (·.2) (vs.toArray.zip vs.toArray)=_
   match vs,h2 with
   |[],_=>simp
   |[v],_=>simp
   |_::_::_,h2=>exact absurd h2 (by simp)
  rw[e];refine ar (h (List.range vs.length) (List.Perm.refl _) ?_);have:vs.length<2:=by lia
  match hl:vs.length,this with
  |0,_=>exact List.Pairwise.nil
  |1,_=>exact List.pairwise_singleton _ _
 ·rw[av h2,av h2];refine ac (T _ keep (by lia) _ ?_);refine ac (bS (W.kat_run (ks:=vs) (vs:=vs) (Q:=λg m=>m={s with heap:=((s.heap.update a (Obj.mapSeq λ_=>(#[]:Array Value))).push (seqObj "tuple" vs.toArray 0)).push (seqObj "list" #[] 0)}/\failedOf g=none/\∃p:Array Nat,arrOf g=p.map (W.kas_item (vs.toArray.zip vs.toArray))/\mh lt p vs.length/\p.size=vs.length/\p.toList.Perm (List.range vs.length)) (G:=λp m=>m={s with heap:=((s.heap.update a (Obj.mapSeq λ_=>(#[]:Array Value))).push (seqObj "tuple" vs.toArray 0)).push (seqObj "list" #[] 0)}/\mh lt p vs.length/\p.size=vs.length/\p.toList.Perm (List.range vs.length)) rfl (by lia) H (λp g m hp l B I=>⟨I.1,B,p,l,I.2⟩) (KT.wp (U _ keep) (λp hp=>⟨rfl,hp⟩) (Bw S (by lia) R))) (λr m L=>?_) λ_ _ z=>z);obtain⟨⟨⟩,g⟩:=r;obtain⟨rfl,B,p,l,M,x,D⟩:=L;have t:=W.kat_snds (ks:=vs) (vs:=vs) rfl l;dsimp only;rw[t,B];refine ac (seqEpoch_at d rfl (ac (listUpdate_at d rfl ?_ (hsz2:=by rw[aM,ab,bw,x,bV];lia))));simp only[bne_self_eq_false,cb,if_false];refine ar (h p.toList D ?_);rw[List.pairwise_iff_getElem];intro i j O J F;have:=M i j F (by rw[<-x];simpa using J);rw[cg,cg,cr (by simpa using O),cr (by simpa using J)]at this
  simpa using this
theorem uI {l:Addr}{vs:List Value}{lt:Nat->Nat->Bool}{κ:SortKind}(x:s.heap.IsList l vs.toArray)(t:vs.length<64)(S:SO lt)(z:∀i j,i<vs.length->j<vs.length->i≠j->lt i j=true\/lt j i=true)(v:∀(A':Around) (E':Value->Shared->Prop) h',(∀b o,s.heap.get? b=some o->h'.get? b=some o)->2<=vs.length->∀Q:SortKind->Shared->Prop,Q κ {s with heap:=h'}->wpAny (model prog w) A' (keyKind' vs.toArray) Q E' {s with heap:=h'})(y:∀h',(∀b o,s.heap.get? b=some o->h'.get? b=some o)->∀i j,i<vs.length->j<vs.length->∀C:Bool->Shared->Prop,C (lt i j) {s with heap:=h'}->W.kas_ask prog w A.in1.in1 κ vs i j C {s with heap:=h'})(h:∀p:List Nat,p.Perm (List.range vs.length)->p.Pairwise (λi j=>lt i j=true)->Q (.ref (s.heap.objs.size+1)) {s with heap:=sortedAll s.heap vs (p.map λi=>vs.getD i Value.none).toArray}):wpAny (model prog w) A (call (.builtin "sorted") [.ref l]) Q E s:=by
 refine Calls.call_function_entry kind_sorted plain_sorted entry_sorted (args_sorted1 _) ?_;unfold Builtin.«sorted»;refine ac (m:=checkCount "sorted" 1 1 _) (ar ?_);refine ac (collect_list x (ac (wpAny_newList ?_)) (by rw[bV];lia));have d:((s.heap.push (seqObj "list" #[] 0)).update s.heap.objs.size (Obj.mapSeq (·++vs.toArray))).objs.size=s.heap.objs.size+1:=by rw[dE,size_push']
 have e:(((s.heap.push (seqObj "list" #[] 0)).update s.heap.objs.size (Obj.mapSeq (·++vs.toArray))).push (seqObj "list" vs.toArray 0)).get? (s.heap.objs.size+1)=some (seqObj "list" vs.toArray 0):=by rw[<-d];exact aK _ rfl
 have keep:∀b o,s.heap.get? b=some o->b≠s.heap.objs.size+1/\(((s.heap.push (seqObj "list" #[] 0)).update s.heap.objs.size (Obj.mapSeq (·++vs.toArray))).push (seqObj "list" vs.toArray 0)).get? b=some o:=λb o q=>by
  have a:b<s.heap.objs.size:=aS q;refine⟨aW (dz a),?_⟩;rw[cW _ _ _ (by rw[d];exact aW (dz a)),Heap.get?_update_ne _ _ _ _ (aW a),cW _ _ _ (aW a)]
  exact q
 show wpAny _ _ _ _ _ {s with heap:=((s.heap.push (seqObj "list" #[] 0)).update s.heap.objs.size (Obj.mapSeq (·++vs.toArray))).push (seqObj "list" vs.toArray 0)};rw[d];refine ac (bA (cc slot_list_sort ⟨_,e,rfl⟩ entry_list_sort (x8 e t S z (λh' g=>v _ _ h' λb o q=>g b o (keep b o q).1 (keep b o q).2) (λh' g=>y h' λb o q=>g b o (keep b o q).1 (keep b o q).2) λp hp r=>⟨_,rfl,?_⟩) (args_list_sort _)));exact ar ⟨_,rfl,h p hp r⟩
end
def uA (H:Hp)(v:V)(k:SI):Prop:=∃q,v=.ref q/\H q=some (.tup [.str k.1,.int k.2])
theorem xx {α:Type}{d:α}{xs:List α}{p:List Nat}(h:p.Perm (List.range xs.length)):(p.map λi=>xs.getD i d).Perm xs:=by
 refine(h.map _).trans (List.Perm.of_eq ?_);refine List.ext_getElem? λi=>?_;rw[ae];by_cases hi:i<xs.length
 ·rw[ak (by simpa using hi),ak hi]
  simp[hi]
 ·rw[dC (by simpa using hi),dC (by lia)]
  rfl
theorem sJ:jv X (.builtin "sorted") (λxs H Q=>∃(a:Addr) (vs:List V) (ks:List SI),xs=[.ref a]/\eX X.K H a vs/\Paired (uA H) vs ks/\ks.Nodup/\ks.length<64/\∀(p:Addr) (vs':List V) (ks':List SI),H p=none->Paired (uA H) vs' ks'->ks'.Perm ks->ks'.Pairwise (λa b=>qi a b=true)->Q (.ref p) (upd H p (.lst vs'))):=by
 intro as s σ H xs us Q I r h;obtain⟨a,vs,ks,rfl,hS,hp,an,a0,q⟩:=h;obtain⟨u,rfl,r1⟩:=jk r;cases (show u=Value.ref a from r1);obtain⟨g,rv,pl,hz⟩:=I.list hS;have l1:vs.length=g.length:=rv.length;have l2:vs.length=ks.length:=Paired.length hp;have D:∀i,(y:i<g.length)->∃(b:Addr) (o:Obj) (t t':Tok) (n:Nat),g[i]=.ref b/\vs[i]?=some (V.ref b)/\H b=some (.tup [.str (ks.getD i (Str.empty,0)).1,.int (ks.getD i (Str.empty,0)).2])/\s.heap.get? b=some o/\o.cls=.type "tuple"/\o.data=.seq #[.str (ks.getD i (Str.empty,0)).1 t,.int (ks.getD i (Str.empty,0)).2 t'] n:=λi y=>by
  have E:vs[i]?=some (vs[i]'(by lia)):=ak (by lia);obtain⟨w',hw,N⟩:=rv.get E;rw[ak y]at hw;obtain⟨k,hk,b,Z,M⟩:=zx hp E;have ag:ks.getD i (Str.empty,0)=k:=by rw[bh,hk];rfl
  rw[Z]at N E;obtain⟨z,ts,rt,o,e,c,n,dd⟩:=(show fR X.prog X.w H s.heap b (.tup [.str k.1,.int k.2]) from I.hok b _ M);cases rt with
  |cons r1 r2=>
   cases r2 with
   |cons r3 r4=>
    cases r4;obtain⟨t,rfl⟩:=r1;obtain⟨t',rfl⟩:=r3;rw[ag];exact⟨b,o,t,t',n,(Option.some.inj hw).trans (show w'=Value.ref b from N),E,M,e,c,dd⟩
 have gd:∀i,(y:i<g.length)->g.getD i Value.none=g[i]:=λi y=>by rw[bh,ak y];rfl
 refine uI (lt:=λi j=>qi (ks.getD i (Str.empty,0)) (ks.getD j (Str.empty,0))) (κ:=tuples' (Value.type "str" != Value.type "tuple")) pl.isList (by lia) ⟨λ_ _ _=>x4,λ_ _=>x6⟩ (λi j y J al=>x5 λz=>al ?_) (λA' E' U Y h2 Q' hq=>?_) (λU Y i j y J C F=>?_) λp G aa=>?_
 ·rw[bh,bh,ak (by lia),ak (by lia)]at z
  exact(List.getElem_inj an).mp z
 ·have R:∀(m:Nat),m<=g.length->∃fs,W.KatTups U (g.drop m) fs/\fs.length=g.length-m/\∀v∈fs,∃x t,v=.str x t:=by
   intro m hm;obtain⟨d,hd⟩:∃d,d=g.length-m:=⟨_,rfl⟩
   induction d generalizing m with
   |zero=>
    have:m=g.length:=by lia
    subst this;exact⟨[],by rw[List.drop_length];exact .nil,by simp,λv E=>nomatch E⟩
   |succ d ih=>
    have P:m<g.length:=by lia
    obtain⟨fs,f1,f2,f3⟩:=ih (m+1) (by lia) (by lia);obtain⟨b,o,t,t',n,B,_,_,e3,e4,e5⟩:=D m P;refine⟨.str (ks.getD m (Str.empty,0)).1 t::fs,?_,by rw[aE];lia,λv E=>?_⟩
    ·rw[db P,B];exact .cons (Y _ _ e3) e4 e5 rfl f1
    ·rcases am.mp E with z | z
     ·exact⟨_,_,z⟩
     ·exact f3 v z
  obtain⟨fs,f1,f2,f3⟩:=R 0 (bo _);refine W.kat_kind (s:={s with heap:=U}) (T:=.type "str") (fs:=fs) (by simpa using f1) (by lia) (λv E=>?_) (by decide) hq;obtain⟨x,t,rfl⟩:=f3 v E;exact .now
 ·obtain⟨b,o,t,t',n,B,_,_,e3,e4,e5⟩:=D i y;obtain⟨b2,o2,t2,ad,n2,g1,_,_,g3,g4,g5⟩:=D j J;unfold W.kas_ask;rw[gd i y,gd j J,B,g1,show(Value.type "str" != Value.type "tuple")=true by decide];generalize ks.getD i (Str.empty,0)=k1 at *;generalize ks.getD j (Str.empty,0)=k2 at *;refine W.kat_lt (s:={s with heap:=U}) (Y _ _ e3) e5 (Y _ _ g3) g5 ?_;show W.KatLex X.prog X.w X.A.in1.in1 true (decide (2<2)) C [(.str k1.1 t,.str k2.1 t2),(.int k1.2 t',.int k2.2 ad)] 0 _;refine W.kat_cons (SeqAt.EqAt.str_str _ _ _ _ _ _ _ _ ?_);refine W.kat_go (λL=>W.kat_yes (W.kat_cons (SeqAt.EqAt.int_int _ _ _ _ _ _ _ _ (W.kat_go (λS=>W.kat_yes (W.kat_nil ?_)) λS=>W.kat_no ?_)))) (λL=>W.kat_no ?_)
  ·have B:k1.1=k2.1:=by simpa using L
   have e2:k1.2=k2.2:=by simpa using S
   have:qi k1 k2=decide (2<2):=by unfold qi;rw[ax B,e2];simp
   try dsimp only at F
   rw[this]at F;exact F
  ·have B:k1.1=k2.1:=by simpa using L
   refine W.kat_one _ _ (lt_int ?_);have:qi k1 k2=decide (k1.2<k2.2):=by unfold qi;rw[ax B]
   try dsimp only at F
   rw[this]at F;exact F
  ·have B:¬k1.1=k2.1:=by simpa using L
   have:qi k1 k2=decide (k1.1.cps.toList<k2.1.cps.toList):=by unfold qi;rw[av B]
   try dsimp only at F
   rw[this]at F;exact oneLt_str F
 ·have M:∀i∈p,i<g.length:=λi y=>List.mem_range.mp (G.subset y);have pk:∀(l:List Nat),(∀i∈l,i<g.length)->Paired (uA H) (l.map λi=>vs.getD i V.non) (l.map λi=>ks.getD i (Str.empty,0)):=λl=>by
   induction l with
   |nil=>exact λ_=>.nil
   |cons i l ih=>
    intro O;obtain⟨b,o,t,t',n,B,ev,Z,_⟩:=D i (O i (by simp));rw[aG,aG];refine .cons ⟨b,?_,Z⟩ (ih λj J=>O j (by simp[J]));rw[bh,ev];rfl
  have pv:∀(l:List Nat),(∀i∈l,i<g.length)->fU (l.map λi=>vs.getD i V.non) (l.map λi=>g.getD i Value.none):=λl=>by
   induction l with
   |nil=>exact λ_=>.nil
   |cons i l ih=>
    intro O;have y:=O i (by simp);obtain⟨b,o,t,t',n,B,ev,Z,_⟩:=D i y;rw[aG,aG];refine .cons ?_ (ih λj J=>O j (by simp[J]));rw[bh,ev,gd i y,B];exact rfl
  have ap:p.length=g.length:=by rw[G.length_eq,List.length_range]
  have ah:=I.hok.fresh (dA s.heap.objs.size);obtain⟨e,L⟩:=sortedAll_at s.heap g (p.map λi=>g.getD i Value.none).toArray;refine⟨.ref (s.heap.objs.size+1),upd H (s.heap.objs.size+1) (.lst (p.map λi=>vs.getD i V.non)),I.laid (t':=s.toks) (λb u q=>sortedAll_old q) (dA _) ⟨?_,_,e,pv p M,by rw[L]⟩,rfl,q _ _ _ ah (pk p M) (xx ?_) ?_⟩
  ·rw[ab,ap,<-l1];exact hz
  ·rw[show ks.length=g.length by lia];exact G
  ·rw[cw];exact aa
end L2
namespace FB
open PySem L2 PyProof.Rows
variable {F:List Fk}{L L':ir}{a b i m m' p spot:Nat}{es:List En}{j:Pk}{ls:List Ln}{s:Sd}{v:Int}{w:Option Pk}{x:Str}
structure el where
 es:List En
 sn:List Nd
 ks:List Pk
 mem:∀k,k∈ks↔k∈es.map eU
 nd:ks.Nodup
 pm:ks.Perm (es.map eU)
 ord:ks.Pairwise λa b=>qi a b=true
 srt:∀(i j:Nat) (a b:Pk),ks[i]?=some a->ks[j]?=some b->i<j->a.1=b.1->a.2<b.2
def el.n (c:el):Nat:=c.ks.length
def el.ix (c:el)(k:Pk):Nat:=c.ks.idxOf k
def el.has (c:el)(m:Nat)(k:Pk):Prop:=k∈c.ks/\m.testBit (c.ix k)=true
instance (c:el) (m:Nat) (k:Pk):Decidable (c.has m k):=inferInstanceAs (Decidable (_/\_))
def el.bit (c:el)(k:Pk):Nat:=2^c.ix k
def el.Ks (c:el):Option Pk->Nat
 |none=>0
 |some k=>c.bit k
def el.listed (c:el)(m:Nat):List Pk:=c.ks.filter λk=>m.testBit (c.ix k)
def iq (a b:Nat):Nat:=a ^^^ (a &&& b)
theorem el.Kt (c:el){k:Pk}(h:k∈c.ks):c.ix k<c.n:=bC.mpr h
theorem el.Ku (c:el){k:Pk}(h:k∈c.ks):c.ks[c.ix k]?=some k:=by
 rw[ak (c.Kt h)];exact congrArg some (cm (c.Kt h))
theorem el.Kv (c:el){k:Pk}(b:j∈c.ks)(d:k∈c.ks)(h:c.ix j=c.ix k):j=k:=by
 have a:=c.Ku b;rw[h,c.Ku d]at a;exact(Option.some.inj a).symm
theorem el.Kw (c:el){k:Pk}(h:c.ks[i]?=some k):c.ix k=i:=by
 have b:=ai h;have a:=c.Ku b;have d:=(af.mp h).1;have e:=c.Kt b;rw[ak d]at h;rw[ak e]at a;exact(List.getElem_inj c.nd).mp ((Option.some.inj a).trans (Option.some.inj h).symm)
theorem el.Kx {c:el}{k:Pk}:k∈c.listed m↔c.has m k:=by
 unfold el.listed el.has;rw[aZ]
theorem el.Ky {c:el}{k:Pk}:c.has (a ||| b) k↔c.has a k\/c.has b k:=by
 unfold el.has;rw[Nat.testBit_or,cS]
 constructor
 ·rintro⟨h,x | x⟩
  ·exact .inl ⟨h,x⟩
  ·exact .inr ⟨h,x⟩
 ·rintro(⟨h,x⟩ | ⟨h,x⟩)
  ·exact⟨h,.inl x⟩
  ·exact⟨h,.inr x⟩
theorem el.Kz {c:el}{k:Pk}:c.has (a &&& b) k↔c.has a k/\c.has b k:=by
 unfold el.has;rw[Nat.testBit_and,aH]
 constructor
 ·rintro⟨h,x,y⟩;exact⟨⟨h,x⟩,⟨h,y⟩⟩
 ·rintro⟨⟨h,x⟩,⟨_,y⟩⟩;exact⟨h,x,y⟩
theorem nH (a b i:Nat):(iq a b).testBit i=(a.testBit i&&!b.testBit i):=by
 unfold iq;rw[Nat.testBit_xor,Nat.testBit_and];cases a.testBit i <;> cases b.testBit i <;> rfl
theorem el.KA {c:el}{k:Pk}:c.has (iq a b) k↔c.has a k/\¬c.has b k:=by
 unfold el.has;rw[nH,aH,bP]
 constructor
 ·rintro⟨h,x,y⟩;exact⟨⟨h,x⟩,λz=>by rw[z.2]at y;cases y⟩
 ·rintro⟨⟨h,x⟩,y⟩;exact⟨h,x,bT.mpr λz=>y ⟨h,z⟩⟩
theorem el.KB {c:el}{k:Pk}(a:j∈c.ks):c.has (c.bit j) k↔k=j:=by
 unfold el.has el.bit;rw[Nat.testBit_two_pow]
 constructor
 ·rintro⟨h,x⟩;exact c.Kv h a (aV x).symm
 ·rintro rfl;exact⟨a,aq rfl⟩
theorem el.KC {c:el}{k:Pk}:¬c.has 0 k:=λh=>by
 have:=h.2;rw[Nat.zero_testBit]at this;cases this
theorem el.KD (c:el){k:Pk}(h:k∈c.ks):c.bit k<2^c.n:=Nat.pow_lt_pow_right (by decide) (c.Kt h)
theorem jo {n:Nat}(ha:a<2^n)(hb:b<2^n):a ||| b<2^n:=Nat.or_lt_two_pow ha hb
theorem nB {n:Nat}(ha:a<2^n):a &&& b<2^n:=bI Nat.and_le_left ha
theorem jJ {n:Nat}(ha:a<2^n):iq a b<2^n:=Nat.xor_lt_two_pow ha (nB ha)
theorem el.ext {c:el}(l:a<2^c.n)(j:b<2^c.n)(h:∀k,c.has a k↔c.has b k):a=b:=by
 refine Nat.eq_of_testBit_eq λi=>?_;by_cases hi:i<c.n
 ·have e:c.ks[i]?=some c.ks[i]:=ak hi;have d:=ai e;have g:=c.Kw e;have:=h c.ks[i];unfold el.has at this;rw[g]at this;rw[cT]
  constructor
  ·exact λz=>(this.mp ⟨d,z⟩).2
  ·exact λz=>(this.mpr ⟨d,z⟩).2
 ·have hp:2^c.n<=2^i:=Nat.pow_le_pow_right (by decide) (by lia);rw[Nat.testBit_lt_two_pow (by lia),Nat.testBit_lt_two_pow (by lia)]
theorem el.KF {c:el}(ha:a<2^c.n)(h:∀k,¬c.has a k):a=0:=el.ext ha (bL _) λk=>⟨λz=>(h k z).elim,λz=>(el.KC z).elim⟩
theorem el.KG {c:el}(d:a<2^c.n):c.listed a=[]↔a=0:=by
 constructor
 ·intro h;refine el.KF d λk b=>?_;have:=el.Kx.mpr b;rw[h]at this;cases this
 ·rintro rfl;unfold el.listed;simp
theorem el.KH (c:el)(m:Nat):(c.listed m).Nodup:=c.nd.sublist List.filter_sublist
def el.maskOf (c:el)(p:Pk->Bool):Nat:=(c.ks.filter p).foldl (λm k=>m ||| c.bit k) 0
theorem el.KI {c:el}:∀(l:List Pk) (m:Nat),(∀k∈l,k∈c.ks)->∀k,c.has (l.foldl (λm k=>m ||| c.bit k) m) k↔c.has m k\/k∈l
 |[],m,_,k=>by simp
 |x::l,m,h,k=>by
  rw[List.foldl_cons,el.KI l _ (λy hy=>h y (by simp[hy])),el.Ky,el.KB (h x (by simp)),am,or_assoc]
theorem el.fold_lt {c:el}:∀(l:List Pk) (m:Nat),(∀k∈l,k∈c.ks)->m<2^c.n->l.foldl (λm k=>m ||| c.bit k) m<2^c.n
 |[],m,_,hm=>hm
 |x::l,m,h,hm=>el.fold_lt l _ (λy hy=>h y (by simp[hy])) (jo hm (c.KD (h x (by simp))))
theorem el.KJ {c:el}{p:Pk->Bool}{k:Pk}:c.has (c.maskOf p) k↔k∈c.ks/\p k=true:=by
 unfold el.maskOf;rw[el.KI _ _ λy a=>(aZ.mp a).1,aZ];exact⟨λz=>z.elim (λy=>(el.KC y).elim) id,.inr⟩
theorem el.KK (c:el)(p:Pk->Bool):c.maskOf p<2^c.n:=el.fold_lt _ _ (λy hy=>(aZ.mp hy).1) (bL _)
def el.needs (c:el)(w:Option Pk):List Nd:=gT c.es c.sn w
def el.KL (c:el)(w:Option Pk)(k:Pk):Prop:=∃n∈c.needs w,p8 n k=true
def el.foe (c:el)(j k:Pk):Prop:=c.KL (some j) k\/c.KL (some k) j
theorem el.KM {c:el}{k:Pk}(h:c.foe j k):c.foe k j:=h.elim .inr .inl
def el.KN (c:el)(m:Nat):Option Pk->Prop
 |none=>True
 |some k=>c.has m k
abbrev ir:=List (Nat×Rs)
def el.ln (c:el)(e:Nat×Rs):Ln:=(c.listed e.1,e.2)
def el.lns (c:el)(L:ir):List Ln:=L.map c.ln
def el.KO (c:el)(m:Nat):Prop:=∀j k,c.has m j->c.has m k->j.1=k.1->j=k
structure gQ (c:el)(L:ir):Prop where
 good:∀i e,L[i]?=some e->jp c.es c.sn (c.lns L) (i:Nat) (c.ln e)=true
 lt:∀e∈L,e.1<2^c.n
 one:∀e∈L,c.KO e.1
 nd:(L.map (·.1)).Nodup
theorem Ag {α:Type}{xs ys:List α}{i:Int}(h:i<(xs.length:Int)):iI (xs++ys) i=iI xs i:=by
 unfold iI;by_cases h0:0<=i
 ·rw[ax h0,ax h0,aQ (by lia)]
 ·rw[av h0,av h0]
theorem AW {ys:List Ln}{ps:List Pk}{b:Int}(h:spot<=ls.length):uw (ls++ys) spot ps x b v=uw ls spot ps x b v:=by
 unfold uw;by_cases hb:b<(spot:Int)
 ·rw[Ag (by lia)]
 ·rw[au hb,bU,bU]
theorem qH {sn:List Nd}{ys:List Ln}{l:Ln}(h:spot<=ls.length):jp es sn (ls++ys) spot l=jp es sn ls spot l:=by
 unfold jp;cases hn:iI (gT es sn l.2.who) l.2.place with
 |none=>rfl
 |some n=>
  dsimp only
  congr 1
  cases ht:l.2.told with
  |one k=>rfl
  |many bs=>
   show kN es (ls++ys) spot l.1 n bs=kN es ls spot l.1 n bs;unfold kN
   congr 1
   refine congrArg (λf=>List.all _ f) (funext λa=>?_);exact AW h
theorem gQ.nil (c:el):gQ c []:=⟨(λi e h=>by simp at h),(λe h=>nomatch h),(λe h=>nomatch h),bM⟩
theorem gQ.add {c:el}(h:gQ c L){r:Rs}(j:m<2^c.n)(l:c.KO m)(hn:m∉L.map (·.1))(q:jp c.es c.sn (c.lns L) (L.length:Nat) (c.listed m,r)=true):gQ c (L++[(m,r)]):=by
 have o:c.lns (L++[(m,r)])=c.lns L++[(c.listed m,r)]:=by unfold el.lns;rw[ay];rfl
 have t:(c.lns L).length=L.length:=ab _;refine⟨λi e d=>?_,λe d=>?_,λe d=>?_,?_⟩
 ·rw[o];by_cases hi:i<L.length
  ·rw[aQ hi]at d;rw[qH (by lia)];exact h.good i e d
  ·have g:i=L.length:=by
    have:=(af.mp d).1;rw[aF,aU]at this
    lia
   subst g;rw[bb (ao _),bQ]at d;have:e=(m,r):=by simpa using d.symm
   subst this;rw[qH (by lia)];exact q
 ·rcases aD.mp d with y | y
  ·exact h.lt e y
  ·rw[aj.mp y];exact j
 ·rcases aD.mp d with y | y
  ·exact h.one e y
  ·rw[aj.mp y];exact l
 ·rw[ay,bN];exact⟨h.nd,by simp,λa p b s e=>hn (by rw[show b=m by simpa using s]at e;exact e▸p)⟩
theorem yJ {c:el}(h:c.KN m w):Du c.es (c.listed m) w=true:=by
 cases w with
 |none=>rfl
 |some k=>
  have a:c.has m k:=h;show(decide (k∈c.listed m)&&decide (k∈c.es.map eU))=true;rw[aq (el.Kx.mpr a),aq ((c.mem k).mp a.1)];rfl
theorem zO {c:el}{k:Pk}{n:Nd}(a:c.KN m w)(d:c.has m k)(hn:(c.needs w)[i]?=some n)(b:p8 n k=true):jp c.es c.sn ls spot (c.listed m,⟨w,(i:Nat),.one k⟩)=true:=by
 unfold jp;rw[yJ a];dsimp only;rw[ij,show(gT c.es c.sn w)[i]?=some n from hn];show(decide (k∈c.listed m)&&p8 n k)=true;rw[aq (el.Kx.mpr d),b];rfl
theorem xA {c:el}{n:Nd}{bs:List Nat}(l:c.KN m w)(hn:(c.needs w)[i]?=some n)(q:bs.length=(je c.es n).length)(t:∀(j b:Nat) (v:Int),bs[j]?=some b->(je c.es n)[j]?=some v->∃e,L[b]?=some e/\∀x,c.has e.1 x->x=(n.1,v)\/c.has m x):jp c.es c.sn (c.lns L) (L.length:Nat) (c.listed m,⟨w,(i:Nat),.many (bs.map λb:Nat=>(b:Int))⟩)=true:=by
 unfold jp;rw[yJ l];dsimp only;rw[ij,show(gT c.es c.sn w)[i]?=some n from hn];show kN c.es (c.lns L) (L.length:Nat) (c.listed m) n (bs.map λb:Nat=>(b:Int))=true;unfold kN;rw[ab,aq q,cq,cj];rintro⟨b,v⟩ d;obtain⟨j,A⟩:=aC.mp d;obtain⟨h,r⟩:=dR.mp A;rw[ae]at h;obtain⟨a,s,rfl⟩:=az.mp h;obtain⟨e,g,z⟩:=t j a v s r;have o:a<L.length:=(af.mp g).1;unfold uw;dsimp only;rw[aq (by lia),aq (p:=((a:Nat):Int)<((L.length:Nat):Int)) (by lia),cq,cq,ij];have B:(c.lns L)[a]?=some (c.ln e):=by unfold el.lns;rw[ae,g];rfl
 rw[B];show((c.listed e.1).all λp=>decide (p∈c.listed m)||decide (p=(n.1,v)))=true;rw[cj];intro p hp;rcases z p (el.Kx.mp hp) with y | y
 ·rw[aq y,Bool.or_true]
 ·rw[aq (el.Kx.mpr y),Bool.true_or]
def el.KP (c:el)(L:ir)(m:Nat)(k:Pk):Prop:=∃e∈L,c.has e.1 k/\∀j,c.has e.1 j->j=k\/c.has m j
def el.KQ (c:el)(L:ir)(m:Nat)(k:Pk):Prop:=c.KL none k\/c.foe k k\/(∃j,c.has m j/\c.foe k j)\/c.KP L m k
theorem el.KP.mono {c:el}{k:Pk}(h:c.KP L m k)(hL:∀e∈L,e∈L')(hm:∀j,c.has m j->c.has m' j):c.KP L' m' k:=
 (by obtain⟨e,he,h1,h2⟩:=h;exact⟨e,hL e he,h1,λj hj=>(h2 j hj).imp id (hm j)⟩)
theorem el.KQ.mono {c:el}{k:Pk}(h:c.KQ L m k)(d:∀e∈L,e∈L')(a:∀j,c.has m j->c.has m' j):c.KQ L' m' k:=by
 rcases h with h | h | ⟨j,b,g⟩ | h
 ·exact .inl h
 ·exact .inr (.inl h)
 ·exact .inr (.inr (.inl ⟨j,a j b,g⟩))
 ·exact .inr (.inr (.inr (el.KP.mono h d a)))
structure Sd where
 picked:Nat
 dead:Nat
 wanted:List (Str×Option Pk)
def eR:List Nd->List Str
 |[]=>[]
 |n::ns=>n.1::(eR ns).filter λx=>!decide (x=n.1)
theorem hZ {x:Str}:∀{ns:List Nd},x∈eR ns↔∃n∈ns,n.1=x
 |[]=>by simp[eR]
 |n::ns=>by
  rw[eR,am,aZ,hZ (ns:=ns)]
  constructor
  ·rintro(rfl | ⟨⟨m,hm,rfl⟩,_⟩)
   ·exact⟨n,by simp,rfl⟩
   ·exact⟨m,by simp[hm],rfl⟩
  ·rintro⟨m,hm,rfl⟩;by_cases h:m.1=n.1
   ·exact .inl h
   ·rcases am.mp hm with rfl | hm
    ·exact absurd rfl h
    ·exact .inr ⟨⟨m,hm,rfl⟩,by simpa using h⟩
theorem jm:∀ns:List Nd,(eR ns).Nodup
 |[]=>bM
 |n::ns=>by
  rw[eR,aY];exact⟨λh=>by simpa using (aZ.mp h).2,(jm ns).sublist List.filter_sublist⟩
def el.start (c:el):List Str:=eR c.sn
def el.isP (c:el)(m:Nat)(x:Str):Prop:=∃j,c.has m j/\j.1=x
inductive el.Named (c:el)(m:Nat):Pk->Prop
 |start {k:Pk}:c.has m k->k.1∈(c.needs none).map (·.1)->c.Named m k
 |next {j k:Pk}:c.Named m j->c.has m k->k.1∈(c.needs (some j)).map (·.1)->c.Named m k
structure iN (c:el)(L:ir)(s:Sd):Prop where
 pl:s.picked<2^c.n
 dl:s.dead<2^c.n
 just:∀k,c.has s.dead k->c.KQ L s.picked k
 sup:∀k∈c.ks,(c.KL none k\/c.foe k k\/∃j,c.has s.picked j/\c.foe k j)->c.has s.dead k
 off:∀k,c.has s.dead k->¬c.has s.picked k
 one:c.KO s.picked
 named:∀k,c.has s.picked k->c.Named s.picked k
 wk:(s.wanted.map (·.1)).Nodup
 w1:∀x w,(x,w)∈s.wanted->¬c.isP s.picked x/\c.KN s.picked w/\x∈(c.needs w).map (·.1)
 w2:∀w,c.KN s.picked w->∀n∈c.needs w,c.isP s.picked n.1\/n.1∈s.wanted.map (·.1)
 ws:∀(i j:Nat) (x y:Str),(s.wanted.map (·.1))[i]?=some x->(s.wanted.map (·.1))[j]?=some y->y∈c.start->i<j->x∈c.start/\c.start.idxOf x<c.start.idxOf y
theorem iN.led {c:el}(h:iN c L s)(hL:∀e∈L,e∈L'):iN c L' s:=⟨h.pl,h.dl,λk hk=>el.KQ.mono (h.just k hk) hL λ_ z=>z,h.sup,h.off,h.one,h.named,h.wk,h.w1,h.w2,h.ws⟩
theorem iN.bar {c:el}(h:iN c L s){k:Pk}(b:k∈c.ks)(hn:¬c.has s.picked k)(d:c.KP L s.picked k):iN c L {s with dead:=s.dead ||| c.bit k}:=by
 refine⟨h.pl,jo h.dl (c.KD b),λj a=>?_,λj a hs=>el.Ky.mpr (.inl (h.sup j a hs)),λj a=>?_,h.one,h.named,h.wk,h.w1,h.w2,h.ws⟩
 ·rcases el.Ky.mp a with y | y
  ·exact h.just j y
  ·rw[(el.KB b).mp y];exact .inr (.inr (.inr d))
 ·rcases el.Ky.mp a with y | y
  ·exact h.off j y
  ·rw[(el.KB b).mp y];exact hn
structure Fk where
 part:Str
 sd:Sd
 bit:Option Pk
def el.Rule (c:el)(x:Str)(s:Sd):Prop:=
 (x∈c.start/\∀y∈c.start,c.start.idxOf y<c.start.idxOf x->c.isP s.picked y)\/(∀j j',j∈c.ks->j'∈c.ks->j.1=x->j'.1=x->¬c.has s.dead j->¬c.has s.dead j'->j=j')\/∀y∈c.start,c.isP s.picked y
structure kF (c:el)(f:Fk):Prop where
 open_:f.part∈f.sd.wanted.map (·.1)
 rule:c.Rule f.part f.sd
 bit:∀k,f.bit=some k->k∈c.ks/\k.1=f.part/\∀j∈c.ks,j.1=f.part->k.2<j.2->c.has f.sd.dead j
def el.KR (c:el)(f:Fk)(s:Sd):Prop:=∃k,f.bit=some k/\s.picked=f.sd.picked ||| c.bit k/\∀j,c.has f.sd.dead j->c.has s.dead j
inductive fL (c:el)(L:ir):List Fk->Sd->Prop
 |nil {s:Sd}:s.picked=0->iN c L s->fL c L [] s
 |cons {f:Fk} {F:List Fk} {s:Sd}:fL c L F f.sd->kF c f->c.KR f s->iN c L s->fL c L (f::F) s
theorem fL.sd {c:el}(h:fL c L F s):iN c L s:=by
 cases h with
 |nil _ h=>exact h
 |cons _ _ _ h=>exact h
theorem fL.led {c:el}(a:∀e∈L,e∈L')(h:fL c L F s):fL c L' F s:=by
 induction h with
 |nil h1 h2=>exact .nil h1 (h2.led a)
 |cons _ h2 h3 h4 ih=>exact .cons ih h2 h3 (h4.led a)
theorem kF.out {c:el}{f:Fk}(h:kF c f)(hs:iN c L f.sd):¬c.isP f.sd.picked f.part:=by
 obtain⟨⟨x,w⟩,a,e⟩:=aw.mp h.open_;have:=(hs.w1 x w a).1;rw[show f.part=x from e.symm];exact this
theorem kF.KS {c:el}{f:Fk}{k:Pk}(h:kF c f)(hs:iN c L f.sd)(hk:f.bit=some k):¬c.has f.sd.picked k:=λz=>h.out hs ⟨k,z,(h.bit k hk).2.1⟩
theorem fL.sub {c:el}(h:fL c L F s):∀g∈F,(∀j,c.has g.sd.picked j->c.has s.picked j)/\(∀j,c.has g.sd.dead j->c.has s.dead j)/\∀k,g.bit=some k->c.has s.picked k:=by
 induction h with
 |nil _ _=>intro g hg;cases hg
 |@cons f F s h1 h2 h3 h4 ih=>
  obtain⟨k,i,hp,e⟩:=h3;intro g hg;have d:=(h2.bit k i).1;rcases am.mp hg with rfl | hg
  ·refine⟨λj b=>by rw[hp];exact el.Ky.mpr (.inl b),e,λl a=>?_⟩;rw[i]at a;cases a;rw[hp];exact el.Ky.mpr (.inr ((el.KB d).mpr rfl))
  ·obtain⟨m,p,o⟩:=ih g hg;refine⟨λj b=>by rw[hp];exact el.Ky.mpr (.inl (m j b)),λj b=>e j (p j b),λl a=>by rw[hp];exact el.Ky.mpr (.inl (o l a))⟩
theorem fL.from {c:el}(h:fL c L F s):∀j,c.has s.picked j->∃g∈F,g.bit=some j:=by
 induction h with
 |nil h1 _=>intro j a;rw[h1]at a;exact(el.KC a).elim
 |@cons f F s h1 h2 h3 h4 ih=>
  obtain⟨k,d,hp,i⟩:=h3;intro j a;rw[hp]at a;rcases el.Ky.mp a with y | y
  ·obtain⟨g,e,b⟩:=ih j y;exact⟨g,by simp[e],b⟩
  ·rw[(el.KB (h2.bit k d).1).mp y];exact⟨f,by simp,d⟩
theorem fL.live {c:el}(h:fL c L F s):∀g∈F,∀k,g.bit=some k->¬c.has g.sd.dead k:=λg hg k hk z=>by
 obtain⟨_,h2,h3⟩:=h.sub g hg;exact h.sd.off k (h2 k z) (h3 k hk)
theorem fL.to {c:el}(h:fL c L F s):∀{A:List Fk} {g:Fk} {B:List Fk},F=A++g::B->fL c L B g.sd/\kF c g:=by
 induction h with
 |nil _ _=>intro A g B e;simp at e
 |@cons f F s h1 h2 h3 h4 ih=>
  intro A g B e;cases A with
  |nil=>
   rw[dJ]at e;cases e;exact⟨h1,h2⟩
  |cons a A=>
   rw[dh]at e;injection e with d b
   exact ih b
def el.KU (c:el)(k:Pk)(m:Nat)(s:Sd):Sd:=if iq (iq m (c.bit k)) s.picked=0 then {s with dead:=s.dead ||| c.bit k} else s
def el.KW (c:el)(k:Pk)(m:Nat)(f:Fk):Fk:={f with sd:=c.KU k m f.sd}
theorem el.KY (c:el)(k:Pk)(m:Nat)(s:Sd):(c.KU k m s).picked=s.picked:=by unfold el.KU;split <;> rfl
theorem el.KZ (c:el)(k:Pk)(m:Nat)(s:Sd):(c.KU k m s).wanted=s.wanted:=by unfold el.KU;split <;> rfl
theorem el.K0 {c:el}{k:Pk}(h:c.has s.dead j):c.has (c.KU k m s).dead j:=by
 unfold el.KU
 split
 ·exact el.Ky.mpr (.inl h)
 ·exact h
theorem el.K4 {c:el}{k:Pk}(a:k∈c.ks)(h:c.has (c.KU k m s).dead j):c.has s.dead j\/j=k:=by
 unfold el.KU at h
 split at h
 ·exact(el.Ky.mp h).imp id (el.KB a).mp
 ·exact .inl h
theorem el.K5 {c:el}{k:Pk}(b:k∈c.ks)(d:m<2^c.n):iq (iq m (c.bit k)) s.picked=0↔∀j,c.has m j->j=k\/c.has s.picked j:=by
 constructor
 ·intro h j a;by_cases e:j=k
  ·exact .inl e
  ·refine .inr (Decidable.byContradiction λz=>?_);have:c.has (iq (iq m (c.bit k)) s.picked) j:=el.KA.mpr ⟨el.KA.mpr ⟨a,λy=>e ((el.KB b).mp y)⟩,z⟩;rw[h]at this;exact el.KC this
 ·intro h;refine el.KF (jJ (jJ d)) λj a=>?_;obtain⟨l,g⟩:=el.KA.mp a;obtain⟨o,i⟩:=el.KA.mp l;rcases h j o with y | y
  ·exact i ((el.KB b).mpr y)
  ·exact g y
theorem iN.KU {c:el}(h:iN c L s){k:Pk}{e:Nat×Rs}(b:k∈c.ks)(g:e∈L)(d:e.1<2^c.n)(a:c.has e.1 k)(hn:¬c.has s.picked k):iN c L (c.KU k e.1 s):=by
 unfold el.KU
 split
 ·next z=>exact h.bar b hn ⟨e,g,a,(el.K5 b d).mp z⟩
 ·exact h
theorem Rule.KU {c:el}{k:Pk}(h:c.Rule x s):c.Rule x (c.KU k m s):=by
 unfold el.Rule at *;rw[el.KY];rcases h with h | h | h
 ·exact .inl h
 ·exact .inr (.inl λj b d e g a i l=>h j b d e g a (λz=>i (el.K0 z)) λz=>l (el.K0 z))
 ·exact .inr (.inr h)
theorem kF.KW {c:el}{f:Fk}{k:Pk}(h:kF c f):kF c (c.KW k m f):=by
 refine⟨?_,Rule.KU h.rule,λj a=>?_⟩
 ·show f.part∈(c.KU k m f.sd).wanted.map (·.1);rw[el.KZ];exact h.open_
 ·obtain⟨g,d,l⟩:=h.bit j a;exact⟨g,d,λi b e o=>el.K0 (l i b e o)⟩
theorem fL.KW {c:el}(h:fL c L F s){k:Pk}{e:Nat×Rs}(b:k∈c.ks)(q:e∈L)(g:e.1<2^c.n)(d:c.has e.1 k):¬c.has s.picked k->fL c L (F.map (c.KW k e.1)) (c.KU k e.1 s):=by
 induction h with
 |@nil s h1 h2=>exact λhn=>.nil (by rw[el.KY];exact h1) (h2.KU b q g d hn)
 |@cons f F s h1 h2 h3 h4 ih=>
  intro hn;obtain⟨w,o,hp,r⟩:=h3;have hn':¬c.has f.sd.picked k:=λz=>hn (by rw[hp];exact el.Ky.mpr (.inl z));refine .cons (ih hn') h2.KW ⟨w,o,?_,λj p=>?_⟩ (h4.KU b q g d hn)
  ·rw[el.KY,hp];show _=(c.KU k e.1 f.sd).picked ||| _;rw[el.KY]
  ·by_cases hj2:c.has f.sd.dead j
   ·exact el.K0 (r j hj2)
   ·have t:iq (iq e.1 (c.bit k)) f.sd.picked=0:=Decidable.byContradiction λz=>by
     have a:c.has (c.KU k e.1 f.sd).dead j:=p;unfold el.KU at a;rw[av z]at a;exact hj2 a
    have l:j=k:=(el.K4 b p).elim (λz=>absurd z hj2) id;have m:iq (iq e.1 (c.bit k)) s.picked=0:=(el.K5 b g).mpr λi v=>((el.K5 b g).mp t i v).imp id λz=>by rw[hp];exact el.Ky.mpr (.inl z)
    unfold el.KU;rw[ax m,l];exact el.Ky.mpr (.inr ((el.KB b).mpr rfl))
def el.left (c:el)(x:Str)(s:Sd):List Pk:=c.ks.filter λk=>decide (k.1=x)&&!decide (c.has s.dead k)
theorem el.K6 {c:el}{k:Pk}:k∈c.left x s↔k∈c.ks/\k.1=x/\¬c.has s.dead k:=by
 unfold el.left;rw[aZ,aH,aB,bP,decide_eq_false_iff_not]
def el.cnt (c:el)(f:Fk):Nat:=(c.left f.part f.sd).length
theorem el.K7 (c:el)(f:Fk):c.cnt f<=c.n:=bE _ _
def el.mv (c:el):Nat->List Fk->Nat
 |0,_=>0
 |d+1,[]=>(c.n+1)*(c.n+2)^d+c.mv d []
 |d+1,f::F=>c.cnt f*(c.n+2)^d+c.mv d F
theorem el.K8 (c:el):∀(d:Nat) (F:List Fk),c.mv d F<(c.n+2)^d
 |0,_=>by unfold el.mv;exact Nat.one_pos
 |d+1,[]=>by
  have:=el.K8 c d [];unfold el.mv;rw[cN,Nat.mul_comm ((c.n+2)^d),show c.n+2=(c.n+1)+1 from rfl,Nat.add_mul ((c.n+1))];rw[show c.n+1+1=c.n+2 from rfl]
  lia
 |d+1,f::F=>by
  have h1:=el.K8 c d F;have h2:=c.K7 f;have h3:c.cnt f*(c.n+2)^d<=(c.n+1)*(c.n+2)^d:=dF _ (by lia);unfold el.mv;rw[cN,Nat.mul_comm ((c.n+2)^d),show c.n+2=(c.n+1)+1 from rfl,Nat.add_mul ((c.n+1))];rw[show c.n+1+1=c.n+2 from rfl]
  lia
theorem el.K9 (c:el)(g:Fk):∀(d:Nat) (F:List Fk),F.length<d->c.mv d (F++[g])<c.mv d F
 |0,_,h=>absurd h (bY _)
 |d+1,[],_=>by
  have h2:=c.K7 g;have h3:c.cnt g*(c.n+2)^d+(c.n+2)^d<=(c.n+1)*(c.n+2)^d:=by
   rw[<-Nat.succ_mul];exact dF _ (by lia)
  have b:0<(c.n+2)^d:=Nat.pow_pos (by lia);show c.cnt g*(c.n+2)^d+c.mv d []<(c.n+1)*(c.n+2)^d+c.mv d []
  lia
 |d+1,f::F,h=>by
  have a:=el.K9 c g d F (by rw[aE]at h;lia);show c.cnt f*(c.n+2)^d+c.mv d (F++[g])<c.cnt f*(c.n+2)^d+c.mv d F
  lia
theorem el.La (c:el){f g:Fk}{B:List Fk}(b:c.cnt g<c.cnt f):∀(d:Nat) (A A':List Fk),A'.length=A.length->(∀(i:Nat) (a a':Fk),A[i]?=some a->A'[i]?=some a'->c.cnt a'<=c.cnt a)->A.length<d->c.mv d (A'++[g])<c.mv d (A++f::B)
 |0,_,_,_,_,h=>absurd h (bY _)
 |d+1,[],A',h1,_,_=>by
  have:A'=[]:=bO.mp h1;subst this;have h2:=el.K8 c d [];have h3:c.cnt g*(c.n+2)^d+(c.n+2)^d<=c.cnt f*(c.n+2)^d:=by
   rw[<-Nat.succ_mul];exact dF _ b
  show c.cnt g*(c.n+2)^d+c.mv d []<c.cnt f*(c.n+2)^d+c.mv d B
  lia
 |d+1,a::A,A',h1,h2,h3=>by
  cases A' with
  |nil=>simp at h1
  |cons a' A'=>
   have m:=el.La c b (B:=B) d A A' (by simpa using h1) (λi x l e j=>h2 (i+1) x l (by simpa using e) (by simpa using j)) (by rw[aE]at h3;lia);have o:=dF ((c.n+2)^d) (h2 0 a a' rfl rfl);show c.cnt a'*(c.n+2)^d+c.mv d (A'++[g])<c.cnt a*(c.n+2)^d+c.mv d (A++f::B)
   lia
theorem AI (k j:Str×Int):PyData.eqv (mO k) (mO j)=decide (k=j):=by
 obtain⟨a,b⟩:=k;obtain⟨c,d⟩:=j;have e:PyData.eqv (mO (a,b)) (mO (c,d))=((a == c)&&((b == d)&&true)):=by
  simp[mO,PyData.eqv,PyData.eqvAll]
 rw[e,Bool.and_true];by_cases h1:a=c
 ·subst h1;by_cases h2:b=d
  ·subst h2;rw[aq rfl];simp
  ·rw[au (λz=>h2 (Prod.mk.inj z).2)];simp[h2]
 ·rw[au (λz=>h1 (Prod.mk.inj z).1)];have g:(a == c)=false:=beq_false_of_ne h1;rw[g,bU]
theorem nA (k:Str×Int):∀ks:List (Str×Int),((ks.map mO).any λz=>PyData.eqv z (mO k))=decide (k∈ks)
 |[]=>by simp
 |j::ks=>by
  rw[aG,List.any_cons,AI,nA k ks];by_cases h:j=k
  ·subst h;simp
  ·rw[au h,Bool.false_or];have:(k∈j::ks)↔k∈ks:=by
    rw[am];exact⟨λz=>z.resolve_left λy=>h y.symm,.inr⟩
   simp only[this]
theorem jF {k:Str×Int}(h:fK k.1):(mO k).canLay0=true/\(mO k).depth<=60:=by
 have z:=r6 1 (mO k) (by simp[mO,r8,h.ok]);exact⟨z.1,by lia⟩
theorem lG:∀{ks:List (Str×Int)},(∀k∈ks,fK k.1)->PyData.canLayAll0 (ks.map mO)=true
 |[],_=>rfl
 |k::ks,h=>by
  rw[aG,PyData.canLayAll0,(jF (h k (by simp))).1,lG λj hj=>h j (by simp[hj])];rfl
theorem kT {α:Type} [DecidableEq α]:∀{l m:List α},l.Nodup->(∀x∈l,x∈m)->l.length<=m.length
 |[],_,_,_=>bo _
 |x::l,m,hn,hs=>by
  rw[aY]at hn;have hx:x∈m:=hs x (by simp);have ih:l.length<=(m.erase x).length:=kT hn.2 λy hy=>by
   refine(List.mem_erase_of_ne ?_).mpr (hs y (by simp[hy]));intro e;subst e;exact hn.1 hy
  have:=List.length_erase_of_mem hx;have:=List.length_pos_of_mem hx;rw[aE]
  lia
theorem fL.bits {c:el}(h:fL c L F s):∃ps:List Pk,ps.length=F.length/\ps.Nodup/\∀k∈ps,c.has s.picked k:=by
 induction h with
 |nil _ _=>exact⟨[],rfl,bM,λk a=>nomatch a⟩
 |@cons f F s h1 h2 h3 h4 ih=>
  obtain⟨k,a,hp,g⟩:=h3;obtain⟨ps,d,e,b⟩:=ih;refine⟨k::ps,by rw[aE,aE,d],aY.mpr ⟨λz=>h2.KS h1.sd a (b k z),e⟩,λj hj=>?_⟩;rw[hp];rcases am.mp hj with rfl | hj
  ·exact el.Ky.mpr (.inr ((el.KB (h2.bit j a).1).mpr rfl))
  ·exact el.Ky.mpr (.inl (b j hj))
theorem fL.depth {c:el}(h:fL c L F s):F.length<=c.n:=by
 obtain⟨g,b,e,d⟩:=h.bits;rw[<-b];exact kT e λk a=>(d k a).1
def el.Lb (c:el)(wanted:List (Str×Option Pk))(w:Option Pk)(pm:Nat)(g:List (Str×Option Pk)):Prop:=
 ∃E:List Str,g.map (·.1)=wanted.map (·.1)++E/\E.Sublist (eR (c.needs w))/\(∀x∈E,¬c.isP pm x/\x∉wanted.map (·.1))/\(∀x∈eR (c.needs w),c.isP pm x\/x∈wanted.map (·.1)\/x∈E)/\
  ∀x u,(x,u)∈g->(x,u)∈wanted\/(u=w/\x∈eR (c.needs w)/\¬c.isP pm x)
theorem jh {ns:List Nd}:x∈eR ns↔x∈ns.map (·.1):=by
 rw[hZ,aw]
theorem sw {α:Type} [DecidableEq α] {a b:α}{l:List α}(h:¬a=b):(a::l).idxOf b=l.idxOf b+1:=by
 rw[List.idxOf_cons];have:(a == b)=false:=by simpa using h
 rw[this];rfl
theorem sv {α:Type} [DecidableEq α]:∀{E P:List α},P.Nodup->E.Sublist P->∀(i j:Nat) (x y:α),E[i]?=some x->E[j]?=some y->i<j->P.idxOf x<P.idxOf y
 |_,_,_,.slnil,i,j,x,y,hx,_,_=>by simp at hx
 |E,p::P,hn,.cons _ h,i,j,x,y,hx,hy,hij=>by
  rw[aY]at hn;have hxp:¬p=x:=λe=>hn.1 (e▸h.subset (ai hx));have hyp:¬p=y:=λe=>hn.1 (e▸h.subset (ai hy));rw[sw hxp,sw hyp];exact Nat.succ_lt_succ (sv hn.2 h i j x y hx hy hij)
 |e::E,_::P,hn,.cons₂ _ h,i,j,x,y,hx,hy,hij=>by
  rw[aY]at hn;cases j with
  |zero=>exact absurd hij (bY _)
  |succ j=>
   have hy':E[j]?=some y:=by simpa using hy
   have hyp:¬e=y:=λz=>hn.1 (z▸h.subset (ai hy'));rw[sw hyp];cases i with
   |zero=>
    have:e=x:=by simpa using hx
    subst this;rw[cu]
    lia
   |succ i=>
    have a:E[i]?=some x:=by simpa using hx
    have hxp:¬e=x:=λz=>hn.1 (z▸h.subset (ai a));rw[sw hxp];exact Nat.succ_lt_succ (sv hn.2 h i j x y a hy' (by lia))
theorem u4 {c:el}{d:Nat}{g:List (Str×Option Pk)}(t:d<2^c.n)(m:∀k,c.has d k↔k∈c.ks/\(c.KL none k\/c.foe k k))(C:c.Lb [] none 0 g):iN c L ⟨0,d,g⟩:=by
 obtain⟨E,h,l,G,D,A⟩:=C;rw[cO,dJ]at h;have a:∀k,¬c.has 0 k:=λk=>el.KC;have e:∀x,¬c.isP 0 x:=(by rintro x ⟨j,m,_⟩;exact a j m)
 have s:∀x,x∈E↔x∈eR (c.needs none):=λx=>⟨λz=>l.subset z,λz=>by
  rcases D x z with y | y | y
  ·exact(e x y).elim
  ·cases y
  ·exact y⟩
 refine⟨bL _,t,λk r=>?_,λk r hs=>(m k).mpr ⟨r,?_⟩,λk _=>a k,λj k z=>(a j z).elim,λk z=>(a k z).elim,?_,λx w q=>?_,λw v n hn=>?_,λi j x y q B F p=>?_⟩
 ·rcases ((m k).mp r).2 with y | y
  ·exact .inl y
  ·exact .inr (.inl y)
 ·rcases hs with y | y | ⟨j,y,_⟩
  ·exact .inl y
  ·exact .inr y
  ·exact(a j y).elim
 ·show(g.map (·.1)).Nodup;rw[h];exact(jm _).sublist l
 ·rcases A x w q with y | ⟨rfl,y,_⟩
  ·cases y
  ·exact⟨e x,trivial,jh.mp y⟩
 ·cases w with
  |some k=>exact(a k v).elim
  |none=>
   right
   show n.1∈g.map (·.1);rw[h,s];exact hZ.mpr ⟨n,hn,rfl⟩
 ·have b:E[i]?=some x:=by rw[<-h];exact q
  have o:E[j]?=some y:=by rw[<-h];exact B
  exact⟨l.subset (ai b),sv (jm _) l i j x y b o p⟩
theorem Named.mono {c:el}(a:∀j,c.has m j->c.has m' j){k:Pk}(h:c.Named m k):c.Named m' k:=by
 induction h with
 |start h1 h2=>exact .start (a _ h1) h2
 |next _ h2 h3 ih=>exact .next ih (a _ h2) h3
theorem kI {α:Type}{p:α->Bool}:∀{xs:List α} {i j:Nat} {x y:α},(xs.filter p)[i]?=some x->(xs.filter p)[j]?=some y->i<j->∃i' j':Nat,xs[i']?=some x/\xs[j']?=some y/\i'<j'
 |[],i,j,x,y,hx,_,_=>by simp at hx
 |a::xs,i,j,x,y,hx,hy,hij=>by
  by_cases ha:p a=true
  ·rw[aJ,ax ha]at hx hy;cases j with
   |zero=>exact absurd hij (bY _)
   |succ j=>
    have hy':(xs.filter p)[j]?=some y:=by simpa using hy
    cases i with
    |zero=>
     have e:a=x:=by simpa using hx
     obtain⟨j',d⟩:=aC.mp (aZ.mp (ai hy')).1;exact⟨0,j'+1,by simpa using e,by simpa using d,by lia⟩
    |succ i=>
     have b:(xs.filter p)[i]?=some x:=by simpa using hx
     obtain⟨i',j',h,g,l⟩:=kI b hy' (by lia);exact⟨i'+1,j'+1,by simpa using h,by simpa using g,by lia⟩
  ·rw[aJ,av ha]at hx hy;obtain⟨i',j',h,g,l⟩:=kI hx hy hij;exact⟨i'+1,j'+1,by simpa using h,by simpa using g,by lia⟩
theorem yV {c:el}{f:Fk}{k:Pk}{d:Nat}{g:List (Str×Option Pk)}(hs:iN c L f.sd)(hf:kF c f)(O:k∈c.ks)(o:k.1=f.part)(A:¬c.has f.sd.dead k)(hd:d<2^c.n)(B:∀j,c.has f.sd.dead j->c.has d j)(ag:∀j∈c.ks,c.foe k j->c.has d j)(G:∀j,c.has d j->c.has f.sd.dead j\/c.foe k j\/(c.KP L (f.sd.picked ||| c.bit k) j/\¬c.has (f.sd.picked ||| c.bit k) j))(hg:c.Lb f.sd.wanted (some k) (f.sd.picked ||| c.bit k) g):iN c L ⟨f.sd.picked ||| c.bit k,d,g.filter λxu=>!decide (xu.1=f.part)⟩:=by
 obtain⟨E,M,e2,e3,e4,e5⟩:=hg;have r:=hf.out hs;have h:∀j,c.has (f.sd.picked ||| c.bit k) j↔c.has f.sd.picked j\/j=k:=λj=>by rw[el.Ky,el.KB O]
 have an:¬c.has f.sd.picked k:=λz=>r ⟨k,z,o⟩;have X:∀j,c.has f.sd.picked j->¬c.foe k j:=λj l z=>A (hs.sup k O (.inr (.inr ⟨j,l,z⟩)));have Y:¬c.foe k k:=λz=>A (hs.sup k O (.inr (.inl z)));have t:∀x,c.isP (f.sd.picked ||| c.bit k) x↔c.isP f.sd.picked x\/x=f.part:=λx=>by
  constructor
  ·rintro⟨j,l,rfl⟩;rcases (h j).mp l with y | rfl
   ·exact .inl ⟨j,y,rfl⟩
   ·exact .inr o
  ·rintro(⟨j,l,rfl⟩ | rfl)
   ·exact⟨j,(h j).mpr (.inl l),rfl⟩
   ·exact⟨k,(h k).mpr (.inr rfl),o⟩
 have s:(g.filter λxu=>!decide (xu.1=f.part)).map (·.1)=(g.map (·.1)).filter λx=>!decide (x=f.part):=by rw[List.filter_map];rfl
 refine⟨jo hs.pl (c.KD O),hd,λj l=>?_,λj l ah=>?_,λj l z=>?_,λi j C l e=>?_,λj l=>?_,?_,λx w K=>?_,λw hw m hm=>?_,λi j x y K hy H T=>?_⟩
 ·rcases G j l with y | y | ⟨y,_⟩
  ·exact el.KQ.mono (hs.just j y) (λ_ z=>z) λi C=>(h i).mpr (.inl C)
  ·exact .inr (.inr (.inl ⟨k,(h k).mpr (.inr rfl),el.KM y⟩))
  ·exact .inr (.inr (.inr y))
 ·rcases ah with y | y | ⟨i,C,y⟩
  ·exact B j (hs.sup j l (.inl y))
  ·exact B j (hs.sup j l (.inr (.inl y)))
  ·rcases (h i).mp C with z | rfl
   ·exact B j (hs.sup j l (.inr (.inr ⟨i,z,y⟩)))
   ·exact ag j l (el.KM y)
 ·rcases G j l with y | y | ⟨_,y⟩
  ·rcases (h j).mp z with u | rfl
   ·exact hs.off j y u
   ·exact A y
  ·rcases (h j).mp z with u | rfl
   ·exact X j u y
   ·exact Y y
  ·exact y z
 ·rcases (h i).mp C with y | rfl
  ·rcases (h j).mp l with z | rfl
   ·exact hs.one i j y z e
   ·exact(r ⟨i,y,by rw[e,o]⟩).elim
  ·rcases (h j).mp l with z | rfl
   ·exact(r ⟨j,z,by rw[<-e,o]⟩).elim
   ·rfl
 ·have v:∀i,c.has f.sd.picked i->c.has (f.sd.picked ||| c.bit k) i:=λi C=>(h i).mpr (.inl C);rcases (h j).mp l with y | rfl
  ·exact Named.mono v (hs.named j y)
  ·obtain⟨⟨x,w⟩,K,ex⟩:=aw.mp hf.open_;obtain⟨_,S,J⟩:=hs.w1 x w K;have U:x=f.part:=ex;rw[U,<-o]at J;cases w with
   |none=>exact .start l J
   |some q=>exact .next (Named.mono v (hs.named q S)) l J
 ·show((g.filter λxu=>!decide (xu.1=f.part)).map (·.1)).Nodup;rw[s,M];refine List.Nodup.sublist List.filter_sublist (bN.mpr ⟨hs.wk,(jm _).sublist e2,λa ha b hb e=>?_⟩);exact(e3 b hb).2 (e▸ha)
 ·obtain⟨ad,Q⟩:=aZ.mp K;have D:¬x=f.part:=by simpa using Q
  rcases e5 x w ad with y | ⟨rfl,y,z⟩
  ·obtain⟨h1,S,J⟩:=hs.w1 x w y;refine⟨λz=>?_,?_,J⟩
   ·rcases (t x).mp z with u | u
    ·exact h1 u
    ·exact D u
   ·cases w with
    |none=>trivial
    |some q=>exact(h q).mpr (.inl S)
  ·exact⟨z,(h k).mpr (.inr rfl),jh.mp y⟩
 ·show c.isP (f.sd.picked ||| c.bit k) m.1\/m.1∈(g.filter λxu=>!decide (xu.1=f.part)).map (·.1);by_cases hmp:m.1=f.part
  ·exact .inl ((t m.1).mpr (.inr hmp))
  ·have p:m.1∈g.map (·.1)->m.1∈(g.filter λxu=>!decide (xu.1=f.part)).map (·.1):=λz=>by
    rw[s];exact aZ.mpr ⟨z,by simpa using hmp⟩
   have old:c.KN f.sd.picked w->c.isP (f.sd.picked ||| c.bit k) m.1\/m.1∈(g.filter λxu=>!decide (xu.1=f.part)).map (·.1):=λR=>by
    rcases hs.w2 w R m hm with y | y
    ·exact .inl ((t m.1).mpr (.inl y))
    ·exact .inr (p (by rw[M];exact aP _ y))
   cases w with
   |none=>exact old trivial
   |some q=>
    rcases (h q).mp hw with y | rfl
    ·exact old y
    ·rcases e4 m.1 (hZ.mpr ⟨m,hm,rfl⟩) with y | y | y
     ·exact .inl y
     ·exact .inr (p (by rw[M];exact aP _ y))
     ·exact .inr (p (by rw[M];exact aO _ y))
 ·have P:((g.map (·.1)).filter λx=>!decide (x=f.part))[i]?=some x:=by rw[<-s];exact K
  have al:((g.map (·.1)).filter λx=>!decide (x=f.part))[j]?=some y:=by rw[<-s];exact hy
  obtain⟨i',j',a1,N,a3⟩:=kI P al T;rw[M]at a1 N;have Z:j'<(f.sd.wanted.map (·.1)).length:=Nat.lt_of_not_le λz=>by
   rw[bb z]at N;have aa:=ai N;have I:=e3 y aa;obtain⟨n,hn,F⟩:=hZ.mp H;rcases hs.w2 none trivial n hn with u | u
   ·rw[F]at u;exact I.1 ((t y).mpr (.inl u))
   ·rw[F]at u;exact I.2 u
  rw[aQ Z]at N;rw[aQ (by lia)]at a1;exact hs.ws i' j' x y a1 N H a3
theorem rR {c:el}{first:Str}(hs:iN c L s)(g:(s.wanted.map (·.1))[0]?=some first)(p:(x=first/\first∈c.start)\/first∉c.start\/(c.left x s).length<=1):c.Rule x s:=by
 rcases p with ⟨rfl,hf⟩ | hf | hl
 ·refine .inl ⟨hf,λy e i=>?_⟩;obtain⟨n,hn,b⟩:=hZ.mp e;rcases hs.w2 none trivial n hn with u | u
  ·rw[b]at u;exact u
  ·rw[b]at u;obtain⟨j,d⟩:=aC.mp u;rcases dM j with rfl | hp
   ·rw[g]at d;cases d;exact absurd i (cE _)
   ·have:=(hs.ws 0 j x y g d e hp).2
    lia
 ·refine .inr (.inr λy e=>?_);obtain⟨n,hn,b⟩:=hZ.mp e;rcases hs.w2 none trivial n hn with u | u
  ·rw[b]at u;exact u
  ·rw[b]at u;obtain⟨j,d⟩:=aC.mp u;rcases dM j with rfl | hp
   ·rw[g]at d;cases d;exact absurd e hf
   ·exact absurd (hs.ws 0 j first y g d e hp).1 hf
 ·refine .inr (.inl λj z r t v o w q=>?_);have h:=el.K6.mpr ⟨r,v,w⟩;have m:=el.K6.mpr ⟨t,o,q⟩;cases hl2:c.left x s with
  |nil=>rw[hl2]at h;cases h
  |cons a l=>
   rw[hl2]at h m hl;have:l=[]:=by
    rw[aE]at hl;exact bO.mp (by lia)
   subst this;rw[aj.mp h,aj.mp m]
def el.stop (c:el)(m:Nat)(f:Fk):Bool:=match f.bit with
 |none=>false
 |some k=>decide (c.has m k)
theorem CM {c:el}:∀{F:List Fk} {s:Sd},fL c L F s->(∀j,c.has m j->c.has s.picked j)->((F.dropWhile λf=>!c.stop m f)=[]/\∀j,¬c.has m j)\/∃A g B k,F=A++g::B/\(F.dropWhile λf=>!c.stop m f)=g::B/\g.bit=some k/\c.has m k/\(∀j,c.has m j->j=k\/c.has g.sd.picked j)/\fL c L B g.sd/\kF c g/\¬c.has g.sd.dead k:=by
 intro F s h
 induction h with
 |nil h1 _=>exact λp=>.inl ⟨rfl,λj a=>by have:=p j a;rw[h1]at this;exact el.KC this⟩
 |@cons f F s h1 h2 h3 h4 ih=>
  obtain⟨k,l,hp,q⟩:=h3;have i:=(h2.bit k l).1;intro p;have b:¬c.has f.sd.dead k:=λz=>h4.off k (q k z) (by rw[hp];exact el.Ky.mpr (.inr ((el.KB i).mpr rfl)));have d:∀j,c.has m j->c.has f.sd.picked j\/j=k:=λj a=>by
   have:=p j a;rw[hp]at this;exact(el.Ky.mp this).imp id (el.KB i).mp
  by_cases hst:c.has m k
  ·refine .inr ⟨[],f,F,k,rfl,?_,l,hst,λj a=>(d j a).symm,h1,h2,b⟩;rw[List.dropWhile_cons_of_neg];unfold el.stop;rw[l];simp[hst]
  ·have o:∀j,c.has m j->c.has f.sd.picked j:=λj a=>(d j a).elim id λe=>absurd (e▸a) hst;have w:((f::F).dropWhile λf=>!c.stop m f)=F.dropWhile λf=>!c.stop m f:=by
    rw[List.dropWhile_cons_of_pos];unfold el.stop;rw[l];simp[hst]
   rw[w];rcases ih o with y | ⟨A,g,B,G,x,H,C,E,r,D,t,v⟩
   ·exact .inl y
   ·exact .inr ⟨f::A,g,B,G,by rw[x];rfl,H,C,E,r,D,t,v⟩
theorem wM:∀a b:Nat,iq a b+(a &&& b)=a:=by
 intro a
 induction a using Nat.strongRecOn with
 |_ a ih=>
  intro b;by_cases h0:a=0
  ·subst h0;simp[iq]
  ·have j:=ih (a / 2) (by lia) (b / 2);have l:iq a b / 2=iq (a / 2) (b / 2):=by unfold iq;rw[Nat.xor_div_two,Nat.and_div_two]
   have g:(a &&& b) / 2=a / 2 &&& b / 2:=Nat.and_div_two;have e:=nH a b 0;have d:=Nat.testBit_and a b 0;simp only[Nat.testBit_zero]at e d;rw[<-l,<-g]at j;have h:(iq a b % 2=1)↔(a % 2=1/\¬b % 2=1):=by
    have:=congrArg (·=true) e;simpa using this
   have i:((a &&& b) % 2=1)↔(a % 2=1/\b % 2=1):=by
    have:=congrArg (·=true) d;simpa using this
   generalize iq a b=x at *;generalize (a &&& b)=y at *;by_cases ea:a % 2=1 <;> by_cases eb:b % 2=1 <;> simp only[ea,eb,not_true_eq_false,not_false_eq_true,and_true,and_false,iff_true,iff_false,true_and,false_and]at h i <;> lia
theorem nz (a b:Nat):Builtin.bitAnd (a:Int) (b:Int)=((a &&& b:Nat):Int):=by
 rw[bitAnd_pp (by lia) (by lia),br,br]
theorem qo (a b:Nat):Builtin.bitAnd (a:Int) (Builtin.bitNot (b:Int))=((iq a b:Nat):Int):=by
 rw[bitAnd_not,nz];have:=wM a b
 lia
theorem wT (a b:Nat):Builtin.bitOr (a:Int) (b:Int)=((a ||| b:Nat):Int):=by
 unfold Builtin.bitOr;have d:∀x:Nat,Builtin.bitNot (Builtin.bitNot (x:Int))=x:=λx=>by unfold Builtin.bitNot;lia
 rw[bitAnd_nn (by unfold Builtin.bitNot;lia) (by unfold Builtin.bitNot;lia),d a,d b,br,br,d]
theorem vy:∀m:Nat,m≠0->∃i q,m=2^i*(2*q+1):=by
 intro m
 induction m using Nat.strongRecOn with
 |_ m ih=>
  intro h;rcases Nat.mod_two_eq_zero_or_one m with e | e
  ·obtain⟨i,q,a⟩:=ih (m / 2) (by lia) (by lia);exact⟨i+1,q,by rw[cN,Nat.mul_assoc,Nat.mul_left_comm,<-a];lia⟩
  ·exact⟨0,m / 2,by lia⟩
theorem sK (i q j:Nat):(2^i*(2*q+1)).testBit j=(decide (i=j)||(2^(i+1)*q).testBit j):=by
 rw[cD,cD];rcases Nat.lt_trichotomy j i with h | h | h
 ·rw[au (by lia),au (show ¬i=j by lia),au (show ¬i+1<=j by lia)];rfl
 ·subst h;rw[aq (ao _),bQ,aq rfl,Nat.testBit_zero];simp
 ·rw[aq (by lia),au (show ¬i=j by lia),aq (show i+1<=j by lia)];obtain⟨d,rfl⟩:∃d,j=i+1+d:=⟨j-(i+1),by lia⟩;rw[show i+1+d-i=d+1 by lia,show i+1+d-(i+1)=d by lia,Nat.testBit_succ,show(2*q+1) / 2=q by lia];simp
theorem sk (i q:Nat):(2^i*(2*q+1)) &&& (2^i*(2*q+1)-1)=2^(i+1)*q:=by
 have e:2^i*(2*q+1)-1=2^(i+1)*q+(2^i-1):=by
  have d:0<2^i:=bL i;have b:2^i*(2*q+1)=2^(i+1)*q+2^i:=by rw[Nat.mul_add,Nat.mul_one,cN,<-Nat.mul_assoc]
  lia
 refine Nat.eq_of_testBit_eq λj=>?_;have a:2^i-1<2^(i+1):=by have:=bL i;rw[cN];lia
 rw[Nat.testBit_and,sK,e,Nat.testBit_two_pow_mul_add _ a,cD];by_cases h:j<i+1
 ·rw[ax h,au (show ¬i+1<=j by lia),bU,Bool.or_false];rw[Nat.testBit_two_pow_sub_one];by_cases b:i=j
  ·subst b;simp
  ·simp[b]
 ·rw[av h,aq (show i+1<=j by lia),au (show ¬i=j by lia)];simp
theorem Co (i q:Nat):Builtin.bitAnd ((2^i*(2*q+1):Nat):Int) (-((2^i*(2*q+1):Nat):Int))=((2^i:Nat):Int):=by
 have a:0<2^i:=bL i;have b:2^i*(2*q+1)=2^(i+1)*q+2^i:=by rw[Nat.mul_add,Nat.mul_one,cN,<-Nat.mul_assoc]
 have e:-((2^i*(2*q+1):Nat):Int)=Builtin.bitNot ((2^i*(2*q+1)-1:Nat):Int):=by unfold Builtin.bitNot;lia
 rw[e,qo];have:=wM (2^i*(2*q+1)) (2^i*(2*q+1)-1);rw[sk]at this
 lia
theorem om (i q:Nat):2^i*(2*q+1)-2^i=2^(i+1)*q:=by
 have a:2^i*(2*q+1)=2^(i+1)*q+2^i:=by rw[Nat.mul_add,Nat.mul_one,cN,<-Nat.mul_assoc]
 lia
theorem l7 {c:el}{q:Nat}(h:2^i*(2*q+1)<2^c.n):∃k,c.ks[i]?=some k/\c.ix k=i/\c.listed (2^i*(2*q+1))=k::c.listed (2^(i+1)*q):=by
 have l:i<c.n:=by
  refine Nat.lt_of_not_le λz=>?_;have x:=Nat.pow_le_pow_right (show 0<2 by decide) z;have w:2^i<=2^i*(2*q+1):=Nat.le_mul_of_pos_right _ (by lia)
  lia
 have d:c.ks[i]?=some c.ks[i]:=ak l;refine⟨_,d,c.Kw d,?_⟩;have g:c.ks=c.ks.take i++c.ks[i]::c.ks.drop (i+1):=by rw[<-db l,dB]
 have p:∀(m:Nat),(∀j,j<i->m.testBit j=false)->(c.ks.take i).filter (λk=>m.testBit (c.ix k))=[]:=λm s=>by
  rw[List.filter_eq_nil_iff];intro k a;obtain⟨j,b⟩:=aC.mp a;rw[b0]at b
  split at b
  ·next hlt=>rw[c.Kw b,s j hlt];decide
  ·cases b
 have e:∀k∈c.ks.drop (i+1),i<c.ix k:=λk a=>by
  obtain⟨j,b⟩:=aC.mp a;rw[List.getElem?_drop]at b;rw[c.Kw b]
  lia
 have v:∀j,j<i->(2^i*(2*q+1)).testBit j=false:=λj b=>by rw[cD,au (by lia),bU]
 have o:∀j,j<i+1->(2^(i+1)*q).testBit j=false:=λj b=>by rw[cD,au (by lia),bU]
 have t:c.listed (2^i*(2*q+1))=c.ks[i]::(c.ks.drop (i+1)).filter (λk=>(2^i*(2*q+1)).testBit (c.ix k)):=by
  unfold el.listed
  conv=>lhs;rw[g]
  rw[ca,p _ v,dJ,aJ,ax];rw[c.Kw d,sK,aq rfl,Bool.true_or]
 have r:c.listed (2^(i+1)*q)=(c.ks.drop (i+1)).filter (λk=>(2^(i+1)*q).testBit (c.ix k)):=by
  unfold el.listed
  conv=>lhs;rw[g]
  rw[ca,p _ (λj b=>o j (by lia)),dJ,aJ,av];rw[c.Kw d,o i (by lia)];decide
 rw[t,r]
 congr 1
 refine List.filter_congr λk a=>?_;rw[sK,au (show ¬i=c.ix k by have:=e k a;lia),Bool.false_or]
theorem Am {q n:Nat}(h:2^i*(2*q+1)<2^n):2^(i+1)*q<2^n:=by
 have:=om i q;have:=bL i
 lia
structure kM (es:List En)(sn:List Nd)(ps:List Pk):Prop where
 one:∀j∈ps,∀k∈ps,j.1=k.1->j=k
 key:∀k∈ps,k∈es.map eU
 met:∀w:Option Pk,(∀k,w=some k->k∈ps)->∀n∈gT es sn w,∃j∈ps,j.1=n.1/\lI n j.2=true
theorem mG {n:Nd}:v∈iW es n↔(n.1,v)∈es.map eU/\lI n v=true:=by
 rw[pB,aZ];refine and_congr_left λ_=>?_;unfold ib;simp only[aw,aZ,aB]
 constructor
 ·rintro⟨e,⟨b,d⟩,g⟩;exact⟨e,b,Prod.ext d g⟩
 ·rintro⟨e,b,h⟩;have a:(e.1,e.2.1)=(n.1,v):=h;rw[Prod.mk.injEq]at a;exact⟨e,⟨b,a.1⟩,a.2⟩
theorem sj {n:Nd}:v∈je es n↔(n.1,v)∈es.map eU/\lI n v=true:=by
 unfold je;rw[(List.mergeSort_perm _ _).mem_iff,mG]
theorem Dc {sn:List Nd}{ps:List Pk}(G:∀(i:Nat) (l:Ln),ls[i]?=some l->jp es sn ls (i:Nat) l=true)(B:kM es sn ps):∀(i:Nat) (l:Ln),ls[i]?=some l->¬∀p∈l.1,p∈ps:=by
 intro i
 induction i using Nat.strongRecOn with
 |_ i ih=>
  intro l I b;have h:=G i l I;unfold jp at h;rw[aH]at h;obtain⟨E,h⟩:=h;cases hn:iI (gT es sn l.2.who) l.2.place with
  |none=>rw[hn]at h;cases h
  |some n=>
   rw[hn]at h;dsimp only at h;have r:=mF hn
   obtain⟨j,C,m,s⟩:=B.met l.2.who (λk e=>b k (by
    rw[e]at E;have g:(decide (k∈l.1)&&decide (k∈es.map eU))=true:=E;rw[aH]at g
    exact aV g.1)) n r
   cases ht:l.2.told with
   |one k=>
    rw[ht]at h;have d:(decide (k∈l.1)&&p8 n k)=true:=h;unfold p8 at d;simp only[aH,aB,bP]at d;obtain⟨A,w,F⟩:=d;have e:=B.one j C k (b k A) (by rw[m,w]);rw[<-e,s]at F;cases F
   |many bs=>
    rw[ht]at h;have d:kN es ls (i:Nat) l.1 n bs=true:=h;unfold kN at d;rw[aH,aB,cj]at d;obtain⟨A,w⟩:=d;have o:j=(n.1,j.2):=Prod.ext m rfl;have K:j.2∈je es n:=sj.mpr ⟨o▸B.key j C,s⟩;obtain⟨t,q⟩:=aC.mp K;have y:t<bs.length:=by rw[A];exact(af.mp q).1
    have H:(bs.zip (je es n))[t]?=some (bs[t],j.2):=dR.mpr ⟨ak y,q⟩
    have v:=w _ (ai H);unfold uw at v;dsimp only at v;simp only[aH,aB]at v;obtain⟨D,J,a⟩:=v;cases hl2:iI ls bs[t] with
    |none=>rw[hl2]at a;cases a
    |some l'=>
     rw[hl2]at a;dsimp only at a;rw[cj]at a;have x:ls[bs[t].toNat]?=some l':=by
      unfold iI at hl2;rw[ax D]at hl2;exact hl2
     refine ih bs[t].toNat (by omega) l' x λp hp=>?_;have:=a p hp;rw[cS,aB,aB]at this;rcases this with z | z
     ·exact b p z
     ·rw[z,<-o];exact C
theorem iN.fit {c:el}(h:iN c L s)(l:s.wanted=[]):kM c.es c.sn (c.listed s.picked):=by
 refine⟨λj b k g e=>h.one j k (el.Kx.mp b) (el.Kx.mp g) e,λk g=>(c.mem k).mp (el.Kx.mp g).1,λw i n hn=>?_⟩;have a:c.KN s.picked w:=by
  cases w with
  |none=>trivial
  |some k=>exact el.Kx.mp (i k rfl)
 rcases h.w2 w a n hn with ⟨j,b,d⟩ | z
 ·refine⟨j,el.Kx.mpr b,d,Decidable.byContradiction λz=>?_⟩;have hs:c.KL w j:=⟨n,hn,by unfold p8;rw[aq d,bT.mpr z];rfl⟩;refine h.off j (h.sup j b.1 ?_) b;cases w with
  |none=>exact .inl hs
  |some q=>exact .inr (.inr ⟨q,a,.inr hs⟩)
 ·rw[l]at z;cases z
theorem yb {c:el}{k:Pk}(l:∀j,c.has m j↔j∈c.left x s)(h:(c.listed m).getLast?=some k):k∈c.ks/\k.1=x/\¬c.has s.dead k/\∀j∈c.ks,j.1=x->k.2<j.2->c.has s.dead j:=by
 have e:=el.K6.mp ((l k).mp (el.Kx.mp (List.mem_of_getLast? h)));refine⟨e.1,e.2.1,e.2.2,λj q b o=>Decidable.byContradiction λz=>?_⟩;have g:j∈c.listed m:=el.Kx.mpr ((l j).mpr (el.K6.mpr ⟨q,b,z⟩));obtain⟨i,d⟩:=aC.mp g;have a:(c.listed m)[(c.listed m).length-1]?=some k:=by rw[<-List.getLast?_eq_getElem?];exact h
 have p:=(af.mp d).1;rcases dj i ((c.listed m).length-1) with h1 | h1
 ·obtain⟨y,w,r,t,v⟩:=kI d a h1;have:=c.srt _ _ j k r t v (by rw[b,e.2.1]);omega
 ·have:i=(c.listed m).length-1:=by omega
  rw[this,a]at d;cases d;omega
theorem xl {c:el}(b:m<2^c.n)(e:m≠0)(h:m &&& (m-1)=0):∃k∈c.ks,m=c.bit k:=by
 obtain⟨i,q,rfl⟩:=vy m e;rw[sk]at h;have d:q=0:=by
  rcases dM q with z | z
  ·exact z
  ·have:=Nat.mul_pos (bL (i+1)) z;omega
 subst d;obtain⟨k,a,g,_⟩:=l7 b;refine⟨k,ai a,?_⟩;unfold el.bit;rw[g];simp
theorem vO {c:el}{e:Nat×Rs}{k:Pk}(a:k∈c.ks)(l:e∈L)(h:iq e.1 p=c.bit k):c.KP L p k/\¬c.has p k:=by
 have b:c.has (iq e.1 p) k:=by rw[h];exact(el.KB a).mpr rfl
 obtain⟨i,d⟩:=el.KA.mp b;refine⟨⟨e,l,i,λj g=>?_⟩,d⟩;by_cases hp:c.has p j
 ·exact .inr hp
 ·have:c.has (iq e.1 p) j:=el.KA.mpr ⟨g,hp⟩;rw[h]at this;exact .inl ((el.KB a).mp this)
theorem vi {c:el}{e:Nat×Rs}{k:Pk}(d:k∈c.ks)(g:e.1<2^c.n)(i:c.has e.1 k)(h:∀j,c.has e.1 j->j=k\/c.has p j)(l:¬c.has p k):iq e.1 p=c.bit k:=by
 refine el.ext (jJ g) (c.KD d) λj=>?_;rw[el.KA,el.KB d]
 constructor
 ·rintro⟨a,b⟩;exact(h j a).elim id λz=>absurd z b
 ·rintro rfl;exact⟨i,l⟩
def el.Lc (c:el)(L:ir)(k:Pk)(p:Nat):Nat:=(L.filter λe=>decide (c.has e.1 k)).foldl (λb e=>let r:=iq e.1 p;if r &&& (r-1)=0 then b ||| r else b) 0
theorem lC {c:el}{p:Nat}:∀(L:ir) (b:Nat),(∀e∈L,e.1<2^c.n)->b<2^c.n->(L.foldl (λb e=>let r:=iq e.1 p;if r &&& (r-1)=0 then b ||| r else b) b<2^c.n)/\∀j,c.has (L.foldl (λb e=>let r:=iq e.1 p;if r &&& (r-1)=0 then b ||| r else b) b) j->c.has b j\/∃e∈L,iq e.1 p=c.bit j
 |[],b,_,hb=>⟨hb,λj hj=>.inl hj⟩
 |e::L,b,hL,hb=>by
  rw[List.foldl_cons];dsimp only;have he:=hL e (by simp);by_cases h:iq e.1 p &&& (iq e.1 p-1)=0
  ·rw[ax h];obtain⟨i1,i2⟩:=lC (c:=c) (p:=p) L (b ||| iq e.1 p) (λx hx=>hL x (by simp[hx])) (jo hb (jJ he));refine⟨i1,λj hj=>?_⟩;rcases i2 j hj with z | ⟨x,hx,y⟩
   ·rcases el.Ky.mp z with z | z
    ·exact .inl z
    ·refine .inr ⟨e,by simp,?_⟩;have h0:iq e.1 p≠0:=λw=>by rw[w]at z;exact el.KC z
     obtain⟨k,hk,e2⟩:=xl (jJ he) h0 h;rw[e2]at z ⊢;rw[(el.KB hk).mp z]
   ·exact .inr ⟨x,by simp[hx],y⟩
  ·rw[av h];obtain⟨i1,i2⟩:=lC (c:=c) (p:=p) L b (λx hx=>hL x (by simp[hx])) hb;refine⟨i1,λj hj=>?_⟩;rcases i2 j hj with z | ⟨x,hx,y⟩
   ·exact .inl z
   ·exact .inr ⟨x,by simp[hx],y⟩
theorem yx {c:el}{k:Pk}(h:gQ c L):c.Lc L k p<2^c.n/\∀j,c.has (c.Lc L k p) j->c.KP L p j/\¬c.has p j:=by
 obtain⟨g,d⟩:=lC (c:=c) (p:=p) (L.filter λe=>decide (c.has e.1 k)) 0 (λe a=>h.lt e (aZ.mp a).1) (bL _);refine⟨g,λj b=>?_⟩;rcases d j b with z | ⟨e,a,y⟩
 ·exact(el.KC z).elim
 ·exact vO b.1 (aZ.mp a).1 y
end FB
namespace L2
open PySem PySem.Spec PyProof.Rows FB
variable {H:Hp}{Q:Value->Shared->Prop}{X:Cx}{body e:Expr}{cy cy':Addr}{j j':Nat}{params:Arguments}{pos:Pos}{s:Shared}{scope:Scope}{x y y':Str}{σ:St}
abbrev IJ (X:Cx)(A:Around)(qual:Str)(scope:Scope)(q c:Addr)(cl:List (Str×Addr))(N':List Str)(s:Shared)(H:Hp):Cx:=
 {X with A:=A.deeper (W.envX qual scope s.heap.objs.size q (.ref c) cl),N:=N',s₀:=s,H₀:=H,env:=W.envX qual scope s.heap.objs.size q (.ref c) cl,outer:=X.stack,stack:=W.envX qual scope s.heap.objs.size q (.ref c) cl::X.stack,ex:=[],fn:=λ_=>false,calm:=true,pn:=[],xe:=λ_ _=>False}
structure ES (X:Cx)(scope:Scope)(x y y':Str)(cy cy':Addr)(j j':Nat):Prop where
 clos:closureFor scope X.env=pure [(y,cy),(y',cy')]
 l1:X.env.cells.lookup y=some cy
 l2:X.env.cells.lookup y'=some cy'
 kind:scope.kind=.function
 co:scope.isCoroutine=false
 gen:scope.isGenerator=false
 px:scope.names.lookup x=some .local
 nocell:∀z∈scope.names,z.2≠.cell
 frees:∀z,scope.names.lookup z=some .free->z=y\/z=y'
 f1:scope.names.lookup y=some .free
 f2:scope.names.lookup y'=some .free
 n1:X.N[j]?=some y
 n2:X.N[j']?=some y'
 k1:X.env.kindOf y=some .cell
 k2:X.env.kindOf y'=some .cell
 v1:CO X.env.scope y
 v2:CO X.env.scope y'
 ne:y'≠y
 xy:x≠y
 xy':x≠y'
section
variable {pins:List (Addr×Obj)}
theorem As {A:Around}{k:Nat}{qual:Str}{pm ctv:Value}{q c:Addr}{te:TE}{v a b:V}{u:Value}{Q:VK}(S:ES X scope x y y' cy cy' j j')(hA:A.frames=some X.stack)(hr:gK (k+1) A)(I:eT X pins σ H s)(ho:s.heap.get? q=some (W.kla_obj "<lambda>" qual params body scope [(y,cy),(y',cy')] pm c ctv))(Z:s.heap.CodeRec (.ref c) qual)(L:∀u:Value,bindArgs (W.kla_fn "<lambda>" qual params body scope [(y,cy),(y',cy')] pm (.ref c) ctv) ⟨[u],[]⟩=pure [(x,u)])(e1:σ[j]?=some (some a))(e2:σ[j']?=some (some b))(rv:eZ v u)(hB:PE (IJ X A qual scope q c [(y,cy),(y',cy')] [x,y,y'] s H) body te)(h:te [some v,some a,some b] H Q):codeAny (model X.prog X.w) A (.call (.ref q) ⟨[u],[]⟩) (CR fB X.stack X.prog X.w H s Q E0) s:=by
 have O:(([(y,cy),(y',cy')]:List (Str×Addr)).lookup y)=some cy:=by rw[be,beq_self_eq_true]
 have M:(([(y,cy),(y',cy')]:List (Str×Addr)).lookup y')=some cy':=by rw[be,beq_false_of_ne S.ne,be,beq_self_eq_true]
 have G:∀z d,([(y,cy),(y',cy')]:List (Str×Addr)).lookup z=some d->X.env.cells.lookup z=some d:=λz d e=>by
  by_cases q:z=y
  ·subst q;rw[O]at e;rw[S.l1];exact e
  ·by_cases q':z=y'
   ·subst q';rw[M]at e;rw[S.l2];exact e
   ·rw[be,beq_false_of_ne q,be,beq_false_of_ne q']at e;simp at e
 refine W.kla_callFunE hr.depth ho rfl S.co S.gen rfl Z ?_;rw[L u];refine ar (wpAny_newFunctionEnv S.nocell (λz hz=>by rw[aj.mp hz];exact S.px) (λh₁ Y U=>?_) S.kind);have K:∀b o,s.heap.get? b=some o->h₁.get? b=some o:=λb o e=>U.extBut b o (aW (aS e)) (aA _ e);refine⟨I.nolimit.keeps K,W.kla_codeExpr ?_⟩;show wpAny (model X.prog X.w) (A.deeper (W.envX qual scope s.heap.objs.size q (.ref c) [(y,cy),(y',cy')])) (eval body (W.envX qual scope s.heap.objs.size q (.ref c) [(y,cy),(y',cy')])) _ _ _;have C:∀{i:Nat} {z:Str} {cz:Addr} {t:V},X.N[i]?=some z->σ[i]?=some (some t)->CO X.env.scope z->X.env.kindOf z=some .cell->X.env.cells.lookup z=some cz->∃F,eZ t F/\s.heap.IsCell cz (some F):=λ{i z cz t} hn hs hv hk hl=>by
  obtain⟨m,_,loc⟩:=I.loc;obtain⟨F,r,l⟩:=loc i z t hn hs hv;rcases l with ⟨k,_⟩ | ⟨_,c2,e,g⟩
  ·rw[hk]at k;cases k
  ·rw[hl]at e;cases e;exact⟨F,r,g⟩
 have B:∀{cz:Addr} {t:Option Value},s.heap.IsCell cz t->h₁.IsCell cz t:=λ{cz t} ⟨o,e,d⟩=>⟨o,K _ _ e,d⟩;have J:eT (IJ X A qual scope q c [(y,cy),(y',cy')] [x,y,y'] s H) [] [some v,some a,some b] H {s with heap:=h₁,toks:=s.toks+1}:=by
  refine⟨⟨I.ok.mod,S.kind,rfl,rfl,ao _,λz1 z2 d D E=>I.ok.inj z1 z2 d (G _ _ D) (G _ _ E),λz hz=>?_,λz d hf _=>absurd (show false=true from hf) (by decide),λ_=>hr.hd,Around.frames_deeper hA,.inr ⟨rfl,rfl⟩,λb L=>absurd (show b∈([]:List Addr) from L) (by simp),I.bs,bz I.ok.bsz I.sz,λb _ _ L=>absurd (show b∈([]:List Addr) from L) (by simp),λb L=>absurd (show b∈([]:List Addr) from L) (by simp),I.stack,I.J9⟩,rfl,I.bare,Un.kept K,⟨_,Y,λi z t D E h3=>?_⟩,λz d e=>?_,I.hok.fresh (ao _),λz d e=>I.freeC z d (G z d e),λp hp=>absurd (show p∈([]:List (Addr×Obj)) from hp) (by simp),I.hok.kept K,rfl⟩
  ·have hz:scope.names.lookup z=some .cell\/scope.names.lookup z=some .free:=hz;rcases hz with hz | hz
   ·exact absurd rfl (S.nocell _ (bB hz))
   ·rcases S.frees z hz with rfl | rfl
    ·exact⟨cy,O⟩
    ·exact⟨cy',M⟩
  ·match i,D,E with
   |0,D,E=>
    have R:x=z:=by simpa using D
    have P:v=t:=by simpa using E
    subst R P;exact⟨u,rv,.inl ⟨S.px,by simp⟩⟩
   |1,D,E=>
    have R:y=z:=by simpa using D
    have P:a=t:=by simpa using E
    subst R P;obtain⟨F,r,g⟩:=C S.n1 e1 S.v1 S.k1 S.l1;exact⟨F,r,.inr ⟨.inr S.f1,cy,O,B g⟩⟩
   |2,D,E=>
    have R:y'=z:=by simpa using D
    have P:b=t:=by simpa using E
    subst R P;obtain⟨F,r,g⟩:=C S.n2 e2 S.v2 S.k2 S.l2;exact⟨F,r,.inr ⟨.inr S.f2,cy',M,B g⟩⟩
   |i+3,D,_=>simp at D
  ·obtain⟨t,g⟩:=I.cell z d (G z d e);exact⟨t,B g⟩
 refine bS (hB [] _ _ H Q J h) (λF s' hE=>?_) λe s' hF=>False.elim hF;obtain⟨t,H',T,r,hq⟩:=hE;exact⟨t,H',T.os,T.bare,T.base,T.hok,r,hq⟩
end
def ia (qual:Str)(lp:Pos)(H:Hp)(P:Addr):Prop:=H P=some (.tbl #[])\/∃c:Addr,H P=some (.tbl #[rawInt lp.line,rawInt lp.col,.ref c])/\H c=some (.ext λh=>h.CodeRec (.ref c) qual)
def tw (mg:Str->Option Value)(base:Heap):Prop:=∃bm ob,mg "__builtins__" = some (.ref bm)/\bm≠builtinsNs/\base.get? bm=some ob/\ob.cls=.type "module"/\ob.dict=some builtinsNs/\ob.data=.plain
section
variable {pins:List (Addr×Obj)}{A:Around}{E:Value->Shared->Prop}
theorem Ar {c P:Addr}{lp:Pos}(S:ES X scope x y y' cy cy' j j')(d:X.env.code=.ref c)(aa:W.codeHdIn X.K c P=true)(BM:tw X.mg X.base)(ag:defaultsOf params X.env=([],[]))(I:eT X pins σ H s)(hT:ia (X.env.qual++"<lambda>") lp H P)(k:∀(q c':Addr) (ctv:Value) (s':Shared) (H':Hp),eT X (pins++[(q,W.kla_obj "<lambda>" (X.env.qual++"<lambda>") params body scope [(y,cy),(y',cy')] ((X.mg "__name__").getD .none) c' ctv)]) σ H' s'->eF (del H [P]) H'->ia (X.env.qual++"<lambda>") lp H' P->H' c'=some (.ext λh=>h.CodeRec (.ref c') (X.env.qual++"<lambda>"))->Q (.ref q) s'):wpAny (model X.prog X.w) A (eval (.Lambda params body scope lp) X.env) Q E s:=by
 refine W.kla_eval ag ?_;obtain⟨bm,ob,b1,b2,b3,b4,b5,b6⟩:=BM;have tP:∃a,H P=some (.tbl a):=by
  rcases hT with e | ⟨c',e,_⟩
  ·exact⟨_,e⟩
  ·exact⟨_,e⟩
 obtain⟨ap,Z⟩:=tP;have gP:∀{a:Array Value},H P=some (.tbl a)->s.heap.get? P=some (W.tabObj a):=λe=>(show fR X.prog X.w H s.heap P (.tbl _) from I.hok P _ e);have G:s.heap.Ns mainGlobals X.mg:=I.mod.glob.keeps I.bk;have hC:W.CodeHd s.heap c P:=W.codeHd_of_K I.kIn aa;have al:mainGlobals≠P:=λq=>by
  obtain⟨o,es,ep,e,O,_⟩:=G;have:=gP Z;rw[<-q,e]at this;cases this;cases O
 have ad:bm≠P:=λq=>by
  have:=(I.bs bm ob b3).2;rw[q,Z]at this;cases this
 have ah:bm≠mainGlobals:=λq=>by
  obtain⟨o,es,ep,e,O,_⟩:=I.mod.glob;rw[q,e]at b3;cases b3;rw[O]at b6;cases b6
 have BA:s.heap.BuiltinsAt X.mg P:=⟨bm,ob,b1,b2,ah,ad,I.bk _ _ b3,b4,b5,b6⟩;have Y:∀{c':Addr} {ctv:Value} {i:Heap} {l:Nat} {H':Hp},eT X pins σ H' {s with heap:=i,toks:=l}->eF (del H [P]) H'->ia (X.env.qual++"<lambda>") lp H' P->H' c'=some (.ext λh=>h.CodeRec (.ref c') (X.env.qual++"<lambda>"))->
   Q (.ref i.objs.size) {s with heap:=i.push (W.kla_obj "<lambda>" (X.env.qual++"<lambda>") params body scope [(y,cy),(y',cy')] ((X.mg "__name__").getD .none) c' ctv),toks:=l}:=λ{c' ctv i l H'} L hs ht hc=>by
  have I2:eT X pins σ H' {s with heap:=i.push (W.kla_obj "<lambda>" (X.env.qual++"<lambda>") params body scope [(y,cy),(y',cy')] ((X.mg "__name__").getD .none) c' ctv),toks:=l}:=L.kept (t':=l) λb o e=>aA _ e;refine k _ c' ctv _ H' (I2.Ka λp hp=>?_) hs ht hc;rcases aD.mp hp with z | z
  ·exact I2.pin p (aO _ z)
  ·rw[aj.mp z]
   exact⟨aK _ rfl,L.hok.fresh (ao _),Nat.ne_of_gt L.lt,L.J7 (ao _),λv z=>by
    have z':Data.func _=Data.cell v:=z
    cases z'⟩
 have D:eF (del H [P]) H:=fq _ _;rcases hT with e | ⟨c',e,ec⟩
 ·refine W.kla_makeFunction S.clos I.ok.glob G d hC (gP e) trivial rfl al BA λc' ctv i l F R as C N=>?_;have hn':H c'=none:=I.hok.fresh R;have U:c'≠P:=λz=>by rw[z,e]at hn';cases hn'
  have nP:∀b,H b=none->b≠P:=λb n z=>by rw[z,e]at n;cases n
  have nC:∀b o,s.heap.get? b=some o->b≠c':=λb o q=>aW (bg (aS q) R);have B:∀b,b≠c'->b≠P->upd (upd H P (.tbl #[rawInt lp.line,rawInt lp.col,.ref c'])) c' (.ext λh=>h.CodeRec (.ref c') (X.env.qual++"<lambda>")) b=H b:=λb h1 h2=>by rw[ef h1,ef h2]
  have g:∀b u,H b=some u->(∀a,u≠.tbl a)->upd (upd H P (.tbl #[rawInt lp.line,rawInt lp.col,.ref c'])) c' (.ext λh=>h.CodeRec (.ref c') (X.env.qual++"<lambda>")) b=some u:=λb u q nt=>by
   rw[B b (λz=>by rw[z,hn']at q;cases q) (λz=>by rw[z,e]at q;cases q;exact nt _ rfl)];exact q
  have L:eT X pins σ (upd (upd H P (.tbl #[rawInt lp.line,rawInt lp.col,.ref c'])) c' (.ext λh=>h.CodeRec (.ref c') (X.env.qual++"<lambda>"))) {s with heap:=i,toks:=l}:=by
   refine I.step (g':=s.gens) (d':=s.drawn) (ch:=[]) (λ_ z=>nomatch z) (λb o _ _ _ q n=>F b o (nP b n) q) (λb o _ _ _ q n=>⟨o.slots,F b o (nP b n) q⟩) (λb o _ q n=>by rw[B b (nC b o q) (nP b n)];exact n) (λb o _ q=>?_)
    (λb xs q=>g b _ q (λa z=>nomatch z)) (λb o u q=>g b _ q (λa z=>nomatch z)) (λb a q=>?_) (λm hm=>?_) (λb u q=>?_) I.bare
   ·by_cases hb:b=P
    ·exact⟨_,by rw[hb];exact N⟩
    ·exact⟨o,F b o hb q⟩
   ·by_cases hb:b=P
    ·subst hb;rw[e]at q;cases q;exact⟨#[rawInt lp.line,rawInt lp.col,.ref c'],by rw[ef (Ne.symm U),d0];simp⟩
    ·exact⟨#[],by rw[B b (λz=>by rw[z,hn']at q;cases q) hb,q];simp⟩
   ·obtain⟨o,es,ep,ho,r⟩:=hm;exact⟨o,es,ep,F _ o (nP _ I.free) ho,r⟩
   ·by_cases hb:b=c'
    ·subst hb;rw[d0]at q;cases q;obtain⟨J,oc,vs,t,e2,T,O,hv⟩:=C;cases e2
     exact⟨⟨_,oc,vs,t,rfl,T,O,hv⟩,⟨oc,T⟩,λh1 h2 ⟨c3,o3,v3,t3,g1,g2,g3,g4⟩ hk=>by
      cases g1
      exact⟨_,o3,v3,t3,rfl,hk _ g2,g3,g4⟩⟩
    ·rw[ef hb]at q;by_cases hb2:b=P
     ·subst hb2;rw[d0]at q;cases q;show i.get? b=some (W.tabObj _);rw[N];simp
     ·rw[ef hb2]at q;refine(I.hok b u q).J5 (λJ w' hc2 z=>F J w' (λM=>?_) z) (λJ z=>g J _ z (λa M=>nomatch M)) λJ xs z=>g J _ z (λa M=>nomatch M);rcases hc2 with hc2 | hc2
      ·exact hb2 (hc2▸M)
      ·rw[M,e]at hc2;cases hc2
  refine Y L (λb u q=>?_) (.inr ⟨c',by rw[ef (Ne.symm U),d0],d0⟩) d0;by_cases hb:b=P
  ·rw[hb,fM (by simp)]at q;cases q
  ·rw[eE (by simpa using hb)]at q;rw[B b (λz=>by rw[z,hn']at q;cases q) hb];exact q
 ·have C:s.heap.CodeRec (.ref c') (X.env.qual++"<lambda>"):=(show fR X.prog X.w H s.heap c' (.ext λh=>h.CodeRec (.ref c') (X.env.qual++"<lambda>")) from I.hok c' _ ec).1;refine W.kla_makeFunctionHit (cv:=.ref c') S.clos I.ok.glob G d hC (gP e) trivial (by simp[codeAmong,rawInt]) BA λctv i l F an=>?_;exact Y (I.kept (t':=l) F) D (.inr ⟨c',e,ec⟩) ec
end
section
variable {pq:List (Addr×Obj)}{d q it S:Addr}{o oq:Obj}{kvs:List (gz×V)}{es:Array DictEntry}{ep:Nat}{kf:Nat->Int}{R:Result->Shared->Prop}
def tj (X:Cx)(σ:St)(H:Hp)(q:Addr)(oq:Obj)(kvs:List (gz×V))(kf:Nat->Int):Prop:=∀(i:Nat) (kv:gz×V),kvs[i]?=some kv->∀(pins:List (Addr×Obj)) (s:Shared) (u:Value),eT X pins σ H s->(q,oq)∈pins->eZ (kV kv.1) u->
 wpAny (model X.prog X.w) X.A.in1 (call (.ref q) [u]) (EP X pins σ λv H'=>v=.int (kf i)/\H'=H) (λ_ _=>False) s
theorem t9 {i:Nat}{kv:gz×V}{u:Value}(a:tj X σ H q oq kvs kf)(y:(q,oq)∈pq)(e:jP X pq H it)(d:jP X pq H S)(o:kvs[i]?=some kv)(C:eZ (kV kv.1) u)(I:eT X pq σ H s){oI oS:Obj}(B:s.heap.get? it=some oI)(m:s.heap.get? S=some oS)(j:∀v,oI.data≠.cell v)(l:∀v,oS.data≠.cell v)(h:∀s' t,eT X pq σ H s'->s'.heap.get? it=some oI->s'.heap.get? S=some oS->Q (.int (kf i) t) s'):wpAny (model X.prog X.w) X.A.in1 (call (.ref q) [u]) Q (λ_ _=>False) s:=by
 have J:eT X (pq++[(it,oI),(S,oS)]) σ H s:=I.Ka λp hp=>by
  rcases aD.mp hp with z | z
  ·exact I.pin p (aO _ z)
  ·rcases am.mp z with z | z
   ·rw[z];exact⟨B,e.1,e.2.1,e.2.2.1,j⟩
   ·rw[aj.mp z];exact⟨m,d.1,d.2.1,d.2.2.1,l⟩
 refine bS (a i kv o _ s u J (aP _ y) C) (λv s' g=>?_) λ_ _ z=>z;obtain⟨E,F,b,r,x,D⟩:=g;subst x D;obtain⟨t,rfl⟩:=(show ∃t,v=Value.int (kf i) t from r);exact h s' t b.Ki (b.pin (it,oI) (aO _ (aO _ (by simp)))).1 (b.pin (S,oS) (aO _ (aO _ (by simp)))).1
theorem Ee (hc:X.calm=true)(hH:H d=some (.frz o (.dK kvs)))(hd:o.data=.dict es ep)(hq:(q,oq)∈pq)(L:S≠it)(B:jP X pq H it)(m:jP X pq H S)(Z:tj X σ H q oq kvs kf)(hR:∀i kv u s',kvs[i]?=some kv->(∀j,j<kvs.length->kf i<=kf j)->eT X pq σ H s'->eZ (kV kv.1) u->R (.ok (.ret u)) s'):∀(r j i:Nat) (s:Shared) (vb:Value) (tb:Tok) (c:Nat) (kv:gz×V),es.size-(j+1)=r->j+1<=es.size->eT X pq σ H s->s.heap.get? S=some (seqObj "list" #[vb,.int (kf i) tb] c)->s.heap.IsKeyIter it d (j+1) es.size ep->kvs[i]?=some kv->eZ (kV kv.1) vb->(∀j',j'<=j->kf i<=kf j')->codeAny (model X.prog X.w) X.A (.builtin "min.loop" ⟨[.ref it,.ref q,.ref S],[]⟩) R s:=by
 have l:(toString "min"++toString ".loop" : String) = "min.loop":=by decide
 intro r
 induction r with
 |zero=>
  intro j i s vb tb c kv hr hj I O J hk rk g;obtain⟨ho,_,_,ad,aa,y,hn,p⟩:=nM I.hok hH;rw[hd]at y;cases y;refine dH PySem.F.entry_min_loop ?_;rw[Around.under_plainId PySem.F.plain_min_loop _];show wpAny _ X.A.in1 (seqItems? (.ref S) >>= _) _ _ _;refine ac (dQ O rfl ?_);show wpAny _ X.A.in1 (tryCatch (pyNext (.ref it)) _ >>= _) _ _ _;refine ac (cY (vm (show X.A.in1.handled=none from I.ok.hd hc) J ho hd (by omega) λM T=>?_));have I1:eT X pq σ H {s with heap:=M}:=I.turned (t':=s.toks) (λb o C e=>T b o C e) B.1 B.2.1 B.2.2.2.1 B.2.2.2.2.1 B.2.2.2.2.2;have K:=T S _ L O;have s1:=Heap.SameBut.update M S (Obj.mapSeq λ_=>(#[]:Array Value));have I2:eT X pq σ H {s with heap:=M.update S (Obj.mapSeq λ_=>(#[]:Array Value))}:=I1.turned (t':=s.toks) (λb o C e=>(s1.2 b C).trans e) m.1 m.2.1 m.2.2.2.1 m.2.2.2.2.1 m.2.2.2.2.2;show wpAny _ X.A.in1 (updateSeq S (λ_=>#[]) >>= _) _ _ _;refine ac ?_;refine wpAny_updateSeq K rfl (ac (wpAny_letGo (ar ?_)));exact hR i kv vb _ hk (λj' U=>g j' (by omega)) I2 rk
 |succ r ih=>
  intro j i s vb tb c kv hr hj I O J hk rk g;obtain⟨ho,_,_,ad,aa,y,hn,p⟩:=nM I.hok hH;rw[hd]at y;cases y;have h:j+1<es.size:=by omega
  have D:kvs[j+1]?=some (kvs[j+1]'(by omega)):=ak (by omega);refine dH PySem.F.entry_min_loop ?_;rw[Around.under_plainId PySem.F.plain_min_loop _];show wpAny _ X.A.in1 (seqItems? (.ref S) >>= _) _ _ _;refine ac (dQ O rfl ?_);show wpAny _ X.A.in1 (tryCatch (pyNext (.ref it)) _ >>= _) _ _ _;refine ac (cY (oj J ho hd h λM N sb=>?_));have I1:eT X pq σ H {s with heap:=M}:=I.turned (t':=s.toks) (λb o C e=>(sb.2 b C).trans e) B.1 B.2.1 B.2.2.2.1 B.2.2.2.2.1 B.2.2.2.2.2;have K:M.get? S=_:=(sb.2 S L).trans O;obtain⟨oI,eI,cI,dI⟩:=id N;show wpAny _ X.A.in1 (tryCatch (holding [es[j+1].key] (call (.ref q) [es[j+1].key])) _ >>= _) _ _ _;refine ac (cY (bA (bS (t9 Z hq B m D (p _ _ h D) I1 eI K (λv z=>by rw[dI]at z;cases z) (λv z=>by cases z) (Q:=λv s'=>∃t,v=Value.int (kf (j+1)) t/\eT X pq σ H s'/\s'.heap.get? it=some oI/\s'.heap.get? S=some (seqObj "list" #[vb,.int (kf i) tb] c)) λs' t a b e=>⟨t,rfl,a,b,e⟩) (λx s2 he=>?_) λ_ _ hF=>hF.elim)));obtain⟨E,rfl,I2,Y,G⟩:=he;have P:s2.heap.IsKeyIter it d (j+1+1) es.size ep:=⟨oI,Y,cI,dI⟩;show wpAny _ X.A.in1 (tryCatch (holding [es[j+1].key,.int (kf (j+1)) E] (richCompare .Lt (.int (kf (j+1)) E) (.int (kf i) tb) >>= _)) _ >>= _) _ _ _;refine ac (cY (bA (ac (lt_int ?_))));refine ac (bA (bR ?_));refine ac (wpAny_letGo (ar ?_));by_cases C:kf (j+1)<kf i
  ·have s1:=Heap.SameBut.update s2.heap S (Obj.mapSeq λ_=>#[es[j+1].key,.int (kf (j+1)) E]);obtain⟨c2,hc2⟩:∃c2,(s2.heap.update S (Obj.mapSeq λ_=>#[es[j+1].key,.int (kf (j+1)) E])).get? S=some (seqObj "list" #[es[j+1].key,.int (kf (j+1)) E] c2):=⟨_,get?_update_seq G λ_=>#[es[j+1].key,.int (kf (j+1)) E]⟩;have I3:eT X pq σ H {s2 with heap:=s2.heap.update S (Obj.mapSeq λ_=>#[es[j+1].key,.int (kf (j+1)) E])}:=I2.turned (t':=s2.toks) (λb o C e=>(s1.2 b C).trans e) m.1 m.2.1 m.2.2.2.1 m.2.2.2.2.1 m.2.2.2.2.2;simp only[C,decide_true,if_true];refine ac ?_;refine wpAny_updateSeq G rfl (ac (wpAny_letGo ?_));rw[l]
   exact ar ⟨dr PySem.F.plain_min_loop _,ih (j+1) (j+1) _ _ E c2 _ (by omega) h I3 hc2 ⟨oI,(s1.2 it L.symm).trans Y,cI,dI⟩ D (p _ _ h D) λj' U=>by
    by_cases e:j'=j+1
    ·subst e;exact Int.le_refl _
    ·have:=g j' (by omega);omega⟩
  ·simp only[C,decide_false,cb,if_false];refine ac (wpAny_letGo ?_);rw[l]
   exact ar ⟨dr PySem.F.plain_min_loop _,ih (j+1) i _ vb tb c kv (by omega) h I2 G P hk rk λj' U=>by
    by_cases e:j'=j+1
    ·subst e;omega
    ·exact g j' (by omega)⟩
theorem Ef {E:Value->Shared->Prop}(hc:X.calm=true)(I:eT X pq σ H s)(Y:H d=some (.frz o (.dK kvs)))(L:0<kvs.length)(hq:(q,oq)∈pq)(y:tj X σ H q oq kvs kf)(hQ:∀i kv u s',kvs[i]?=some kv->(∀j,j<kvs.length->kf i<=kf j)->eT X pq σ H s'->eZ (kV kv.1) u->Q u s'):wpAny (model X.prog X.w) X.A (call (.builtin "min") [.ref d] [(Str.ofString "key",.ref q)]) Q E s:=by
 have h:(toString "min"++toString ".loop" : String) = "min.loop":=by decide
 obtain⟨ho,hS,hx,g,O,P,hn,r⟩:=nM I.hok Y;refine kmk_tree PySem.F.kind_min PySem.F.plain_min PySem.F.entry_min (kmk_min_key _ _) ?_;show wpAny _ X.A.in1 (Builtin.Builtins.bindParams "min" ["key","default"] 0 ⟨[],[(Str.ofString "key",.ref q)]⟩ >>= _) _ _ s;refine ac (wpAny_of_eq (show Builtin.Builtins.bindParams "min" ["key","default"] 0 ⟨[],[(Str.ofString "key",.ref q)]⟩=pure [some (.ref q),none] from rfl) (ac (ar ?_)));refine ac (ot ho hx P hS (ac (wpAny_newList ?_ (bo _))));rw[h];generalize l:s.heap.objs.size=it;have z0:s.heap.get? it=none:=l▸bi (ao _);have T:eT X pq σ H {s with heap:=s.heap.push {cls:=.type "dict_keyiterator",data:=.fields #[.ref d,.int 0 0,.int g.size 0,.int O 0]}}:=I.kept (t':=s.toks) λb o e=>aA _ e;have G:jP X pq H it:=I.Kp z0 (I.hok.fresh (cB l));have K:(s.heap.push {cls:=.type "dict_keyiterator",data:=.fields #[.ref d,.int 0 0,.int g.size 0,.int O 0]}).get? it=some {cls:=.type "dict_keyiterator",data:=.fields #[.ref d,.int 0 0,.int g.size 0,.int O 0]}:=by rw[<-l];exact aK _ rfl
 generalize s.heap.push {cls:=.type "dict_keyiterator",data:=.fields #[.ref d,.int 0 0,.int g.size 0,.int O 0]}=h1 at *;generalize D:h1.objs.size=S;have U:h1.get? S=none:=D▸bi (ao _);have J:S≠it:=λz=>by rw[z,K]at U;cases U
 have C:jP X pq H S:=T.Kp U (T.hok.fresh (cB D));have I2:eT X pq σ H {s with heap:=h1.push (seqObj "list" #[] 0)}:=T.kept (t':=s.toks) λb o e=>aA _ e;have gS:(h1.push (seqObj "list" #[] 0)).get? S=some (seqObj "list" #[] 0):=by rw[<-D];exact aK _ rfl
 have gI:(h1.push (seqObj "list" #[] 0)).IsKeyIter it d 0 g.size O:=⟨_,aA _ K,rfl,rfl⟩;have ad:(h1.push (seqObj "list" #[] 0)).get? d=some o:=(nM I2.hok Y).1;have m:0<g.size:=by omega
 have p:kvs[0]?=some (kvs[0]'L):=ak L;refine ar ⟨dr PySem.F.plain_min_loop _,dH PySem.F.entry_min_loop ?_⟩;rw[Around.under_plainId PySem.F.plain_min_loop _];show wpAny _ X.A.in1 (seqItems? (.ref S) >>= _) _ _ {s with heap:=h1.push (seqObj "list" #[] 0)};refine ac (dQ gS rfl ?_);show wpAny _ X.A.in1 (tryCatch (pyNext (.ref it)) _ >>= _) _ _ _;refine ac (cY (oj gI ad P m λh' N sb=>?_));have I3:eT X pq σ H {s with heap:=h'}:=I2.turned (t':=s.toks) (λb o R e=>(sb.2 b R).trans e) G.1 G.2.1 G.2.2.2.1 G.2.2.2.2.1 G.2.2.2.2.2;have aa:h'.get? S=_:=(sb.2 S J).trans gS;obtain⟨oI,eI,cI,dI⟩:=id N;show wpAny _ X.A.in1 (tryCatch (holding [g[0].key] (call (.ref q) [g[0].key])) _ >>= _) _ _ _;refine ac (cY (bA (bS (t9 y hq G C p (r _ _ m p) I3 eI aa (λv z=>by rw[dI]at z;cases z) (λv z=>by cases z) (Q:=λv s'=>∃t,v=Value.int (kf 0) t/\eT X pq σ H s'/\s'.heap.get? it=some oI/\s'.heap.get? S=some (seqObj "list" #[] 0)) λs' t a b e=>⟨t,rfl,a,b,e⟩) (λx s2 he=>?_) λ_ _ hF=>hF.elim)));obtain⟨B,rfl,I4,Z,M⟩:=he;have s1:=Heap.SameBut.update s2.heap S (Obj.mapSeq λ_=>#[g[0].key,.int (kf 0) B]);obtain⟨c2,hc2⟩:∃c2,(s2.heap.update S (Obj.mapSeq λ_=>#[g[0].key,.int (kf 0) B])).get? S=some (seqObj "list" #[g[0].key,.int (kf 0) B] c2):=⟨_,get?_update_seq M λ_=>#[g[0].key,.int (kf 0) B]⟩;have I5:eT X pq σ H {s2 with heap:=s2.heap.update S (Obj.mapSeq λ_=>#[g[0].key,.int (kf 0) B])}:=I4.turned (t':=s2.toks) (λb o R e=>(s1.2 b R).trans e) C.1 C.2.1 C.2.2.2.1 C.2.2.2.2.1 C.2.2.2.2.2;show wpAny _ X.A.in1 (updateSeq S (λ_=>#[g[0].key,.int (kf 0) B]) >>= _) _ _ _;refine ac ?_;refine wpAny_updateSeq M rfl ?_;rw[h]
 exact ar ⟨dr PySem.F.plain_min_loop _,Ee hc Y P hq J G C y (λi kv u s' a b e f=>hQ i kv u s' a b e f) _ 0 0 _ _ B c2 _ rfl m I5 hc2 ⟨oI,(s1.2 it J.symm).trans Z,cI,dI⟩ p (r _ _ m p) λj' ag=>by
  have:j'=0:=by omega
  subst this;exact Int.le_refl _⟩
end
section
variable {c P:Addr}{lp p kp:Pos}{te tb:TE}{k:Nat}
def Fu (qual:Str)(lp:Pos)(P:Addr)(j j':Nat)(te tb:TE):TE:=λσ H Q=>te σ H λx H1=>∃d o kvs a b,x=.ref d/\H1 d=some (.frz o (.dK kvs))/\0<kvs.length/\ia qual lp H1 P/\σ[j]?=some (some a)/\σ[j']?=some (some b)/\
 ∀H2,eF (del H1 [P]) H2->ia qual lp H2 P->∃kf:Nat->Int,(∀i kv,kvs[i]?=some kv->tb [some (kV kv.1),some a,some b] H2 λv H4=>v=.int (kf i)/\H4=H2)/\∀i kv,kvs[i]?=some kv->(∀m,m<kvs.length->kf i<=kf m)->Q (kV kv.1) H2
theorem BQ (hc:X.calm=true)(hr:gK (k+2) X.A)(S:ES X scope x y y' cy cy' j j')(C:X.env.code=.ref c)(aa:W.codeHdIn X.K c P=true)(BM:tw X.mg X.base)(R:defaultsOf params X.env=([],[]))(hg:Gl X "min")(hm:X.mg "min" = none)(he:PE X e te)(hb:∀(c':Addr) (ctv pm u:Value),bindArgs (W.kla_fn "<lambda>" (X.env.qual++"<lambda>") params body scope [(y,cy),(y',cy')] pm (.ref c') ctv) ⟨[u],[]⟩=pure [(x,u)])(hB:∀q c' s H,PE (IJ X X.A.in1 (X.env.qual++"<lambda>") scope q c' [(y,cy),(y',cy')] [x,y,y'] s H) body tb)(hs:starEach [e] X.env=[(false,eval e X.env)]:=by rfl):PE X (.Call (.Name "min" p) [e] [⟨some "key",.Lambda params body scope lp,kp⟩] pos) (Fu (X.env.qual++"<lambda>") lp P j j' te tb):=by
 intro E s σ H Q I h;refine bD (jI I hg hm PyProof.Rows.Boot.«min» ?_ (by decide) (by decide));refine callWith_kw ?_ (by rw[hs];rfl) (by rw[hs];rfl)
 have hA:=(dZ he eg hs) pos E s σ H (λT G=>match T with | [x]=>(∃d o kvs a b,x=.ref d/\G d=some (.frz o (.dK kvs))/\0<kvs.length/\ia (X.env.qual++"<lambda>") lp G P/\σ[j]?=some (some a)/\σ[j']?=some (some b)/\
  ∀g,eF (del G [P]) g->ia (X.env.qual++"<lambda>") lp g P->∃kf:Nat->Int,(∀i l,kvs[i]?=some l->tb [some (kV l.1),some a,some b] g λv H4=>v=.int (kf i)/\H4=g)/\∀i l,kvs[i]?=some l->(∀m,m<kvs.length->kf i<=kf m)->Q (kV l.1) g) | _=>False) I h
 refine fW hA ?_;rintro us s1 ⟨T,G,I1,r,q0⟩
 match T,r,q0 with
 |[xv],r,⟨d,o,kvs,a,b,e2,hd,hne,hT,ea,eb,hq⟩=>
  subst e2;obtain⟨u,rfl,r1⟩:=jk r;cases (show u=Value.ref d from r1);refine kws_cons (Ar S C aa BM R I1 hT λq c' ctv s2 g I2 sm O Y=>kws_nil ?_);obtain⟨kf,hk,hQ⟩:=hq g sm O;have U:d≠P:=λz=>by
   rcases hT with w | ⟨_,w,_⟩ <;> (rw[<-z,hd]at w;cases w)
  have L:g d=some (.frz o (.dK kvs)):=sm _ _ (by rw[eE (by simpa using U)];exact hd);refine Ef (kf:=kf) hc I2 L hne (aO _ (aj.mpr rfl)) (λi l Z M J u' B hp ru=>?_) λi l u' J Z t B ru=>⟨kV l.1,g,B.Ki,ru,hQ i l Z t⟩;have F:J.heap.CodeRec (.ref c') (X.env.qual++"<lambda>"):=(show fR X.prog X.w g J.heap c' (.ext λh=>h.CodeRec (.ref c') (X.env.qual++"<lambda>")) from B.hok c' _ Y).1;have N:X.A.in1.frames=some X.stack:=B.ok.frames;refine wpAny_call (codeAny_mono (As (k:=k) S N hr.in1 B (B.pin _ (aO _ hp)).1 F (hb c' ctv _) ea eb ru (hB q c' J g) (hk i l Z)) λrr s4 D=>?_);cases rr with
  |error e=>exact(show False from D).elim
  |ok fl=>
   cases fl with
   |ret u2=>exact B.after D
   |next=>exact False.elim D
   |brk=>exact False.elim D
   |cont=>exact False.elim D
end
section
variable {C:Addr}{o value:Expr}{f m:Str}{pos' tpos apos:Pos}{ta tv:TE}{t:TA}{es:List Expr}
inductive JV (C:Addr)(f:Str)(Q:VK)(x:V)(H1:Hp):Prop
 |mk (a dx fs v:_)(_:x=.ref a)(_:H1 a=some (.ins C dx fs))(_:fs.lookup f=some v)(_:Q v H1)
def tF (C:Addr)(f:Str)(ta:TE):TE:=λσ H Q=>ta σ H λx H1=>JV C f Q x H1
theorem eK (c:p9 X.K C)(n:gf X.K C f)(o:PE X e ta)(hb:attributeBase e f X.env (eval e X.env)=eval e X.env:=by rfl):PE X (.Attribute e f pos) (tF C f ta):=by
 intro b s σ H Q I h;refine wU hb (fW (o b s σ H _ I h) ?_);rintro u t ⟨x,g,j,i,a,z,fs,v,d,p,l,q⟩;subst d;obtain rfl:u=Value.ref a:=i;exact md j p c n l λy w r m=>⟨v,g,r,m,q⟩
inductive JX (C:Addr)(f:Str)(D:mN)(σ:St)(y:V)(x:V)(H2:Hp):Prop
 |mk (a dx fs:_)(_:x=.ref a)(_:H2 a=some (.ins C dx fs))(_:fs.length<1000)(_:D.nx σ (upd H2 a (.ins C dx (gq f y fs))))
def sF (C:Addr)(f:Str)(ta tv:TE):TS:=λD σ H=>tv σ H λy H1=>ta σ H1 λx H2=>JX C f D σ y x H2
theorem jN (c:p9 X.K C)(n:gf X.K C f)(v:PE X o ta)(t:PE X value tv)(hs:swapsWith value (some (.Attribute o f pos')) pos.line X.env=pure false:=by rfl):PS X (.Assign [.Attribute o f pos'] value pos) (sF C f ta tv):=by
 intro b s σ H D I h;refine plainObj_wpAny_Assign_Attribute (fW (t b s σ H _ I h) ?_) hs;rintro u g ⟨y,e,j,m,q⟩;refine fW (v b g σ e _ j q) ?_;rintro p F ⟨x,B,z,i,a,G,fs,d,w,l,A⟩;subst d;obtain rfl:p=Value.ref a:=i;exact lW z w c n l m λE r=>⟨σ,_,r,A⟩
inductive E5 (C:Addr)(f:Str)(tv:TE)(rd:V->V->Hp->VK->Prop)(D:mN)(σ:St)(x:V)(H1:Hp):Prop
 |mk (a dx fs v:_)(_:x=.ref a)(_:H1 a=some (.ins C dx fs))(_:fs.lookup f=some v)(_:tv σ H1 λy H2=>rd v y H2 λz H3=>∃dx' fs',H3 a=some (.ins C dx' fs')/\fs'.length<1000/\D.nx σ (upd H3 a (.ins C dx' (gq f z fs'))))
def FU (C:Addr)(f:Str)(ta tv:TE)(rd:V->V->Hp->VK->Prop):TS:=λD σ H=>ta σ H λx H1=>E5 C f tv rd D σ x H1
theorem BN {op:Operator}{rd:V->V->Hp->VK->Prop}(c:p9 X.K C)(n:gf X.K C f)(R:PE X o ta)(P:PE X value tv)(d:E9 X op rd):PS X (.AugAssign (.Attribute o f tpos) op value pos) (FU C f ta tv rd):=by
 intro b s σ H D I h;refine wpAny_AugAssign_AttributeAny (fW (R b s σ H _ I h) ?_);rintro J s1 ⟨x,F,m,G,a,dx,fs,v,g,U,l,q⟩;subst g;obtain rfl:J=Value.ref a:=G;refine md m U c n l λu t B Q=>fW (P b t σ F _ B q) ?_;rintro i O ⟨y,N,r,L,A⟩;refine fW (d b O σ N v y u i _ r Q L A) ?_;rintro Y Z ⟨z,H3,j,M,T,p,e,S,E⟩;exact lW j e c n S M λs5 w=>⟨σ,_,w,E⟩
end
structure Mt (P:Program)(w:World)(K:W.Frag)(mg:Str->Option Value)(base:Heap)(C:Addr)(CX:uC)(k:Nat)(m:Str)(ps:List Str)(sp:Sp):Prop where
 cl:p9 K C
 ex:∃g gd,fi P w K mg base CX k g gd ps sp/\iC K gd ps []/\v6 K C m g
section
variable {CX:uC}{k:Nat}{C:Addr}{o:Expr}{es:List Expr}{m:Str}{ps:List Str}{sp:Sp}{E:XK}{apos:Pos}{ta:TE}{t:TA}
theorem il {pl:Sem Bool}(M:Mt X.prog X.w X.K X.mg X.base C CX k m ps sp)(h:gK k X.A)(i:j9 CX X E)(a:PE X o ta)(d:PA X (e::es) t)(hst:starEach (e::es) X.env=(false,eval e X.env)::starEach es X.env:=by rfl)(hpl:(backTo pos (starEach es X.env)).any (·.1)=false:=by rfl)(ht:eval (.Call (.Attribute o m apos) (e::es) [] pos) X.env=(do
   let ov <-eval o X.env
   standAt apos.atName
   let (f,first) <-holding [ov] (getMethod ov m pl)
   callWith pos f first (backTo pos (starEach (e::es) X.env)) (backToKw pos (keywordEach [] X.env))):=by rfl) :
  PE X (.Call (.Attribute o m apos) (e::es) [] pos) (tJ C m sp [] E ta t):=by
 obtain⟨g,l,F,b,j⟩:=M.ex;exact BR a M.cl j F h b .nil i d hst hpl ht
theorem qB {pl:Sem Bool}(M:Mt X.prog X.w X.K X.mg X.base C CX k m ps sp)(d:gK k X.A)(e:j9 CX X E)(a:PE X o ta)(ht:eval (.Call (.Attribute o m apos) [] [] pos) X.env=(do
   let ov <-eval o X.env
   standAt apos.atName
   let (f,first) <-holding [ov] (getMethod ov m pl)
   callWith pos f first (backTo pos (starEach [] X.env)) (backToKw pos (keywordEach [] X.env))):=by rfl) :
  PE X (.Call (.Attribute o m apos) [] [] pos) (tJ C m sp [] E ta xk):=by
 obtain⟨g,i,F,b,h⟩:=M.ex;exact zC a M.cl h F d b .nil e ht
end
end L2
namespace FB
open PySem L2 PyProof.Rows
variable {H H':Hp}{a:Addr}{v:V}{w:Option Pk}{x:Str}
def el.Who (c:el)(w:Option Pk):Prop:=∀k,w=some k->k∈c.ks
def el.Ld (c:el)(w:Option Pk)(k:Pk):Bool:=(c.needs w).any λn=>p8 n k
theorem el.Le {c:el}{k:Pk}:c.Ld w k=true↔c.KL w k:=by
 unfold el.Ld el.KL;rw[dD]
def el.Lf (c:el)(x:Str):Nat:=c.maskOf λk=>decide (k.1=x)
def jH (ns:List Nd)(x:Str)(v:Int):Bool:=ns.all λn=>!decide (n.1=x)||lI n v
def el.Lg (c:el)(w:Option Pk)(x:Str):Nat:=c.maskOf λk=>decide (k.1=x)&&jH (c.needs w) x k.2
def el.Lh (c:el)(w:Option Pk):Nat:=c.maskOf (c.Ld w)
def el.Li (c:el):Option Pk->Nat
 |none=>c.Lh none
 |some k=>c.maskOf λj=>c.Ld (some k) j||c.Ld (some j) k
theorem el.Lj {c:el}{k:Pk}:c.has (c.Lf x) k↔k∈c.ks/\k.1=x:=by
 unfold el.Lf;rw[el.KJ,aB]
theorem el.Lk {c:el}{k:Pk}:c.has (c.Lh w) k↔k∈c.ks/\c.KL w k:=by
 unfold el.Lh;rw[el.KJ,el.Le]
theorem el.Ll {c:el}{j k:Pk}:c.has (c.Li (some k)) j↔j∈c.ks/\c.foe k j:=by
 show c.has (c.maskOf _) j↔_;rw[el.KJ,cS,el.Le,el.Le];exact Iff.rfl
theorem el.Lm (c:el)(w:Option Pk):c.Li w<2^c.n:=by
 cases w <;> exact c.KK _
theorem l6 {ns:List Nd}{v:Int}:jH ns x v=true↔∀n∈ns,n.1=x->lI n v=true:=by
 unfold jH;rw[cj];refine forall_congr' λn=>forall_congr' λ_=>?_;rw[cS,bP,decide_eq_false_iff_not];exact⟨λh e=>h.resolve_left λz=>z e,λh=>(Decidable.em (n.1=x)).elim (λz=>.inr (h z)) .inl⟩
theorem el.Lo {c:el}(h:c.Who w):c.Ks w<2^c.n:=by
 cases w with
 |none=>exact bL _
 |some k=>exact c.KD (h k rfl)
theorem el.Lp {c:el}(h:c.Who w){j:Pk}:c.has (c.Ks w) j↔w=some j:=by
 cases w with
 |none=>exact⟨λz=>(el.KC z).elim,λz=>by cases z⟩
 |some k=>rw[show c.Ks (some k)=c.bit k from rfl,el.KB (h k rfl)];exact⟨λz=>by rw[z],λz=>(Option.some.inj z).symm⟩
theorem D1 {a b:Nat}(h:a &&& b=0):a ||| b=a+b:=by
 have d:=bitOr_and (a:Int) (b:Int);rw[wT,nz,h]at d
 lia
theorem el.Lq {c:el}:∀(l:List Pk),l.Nodup->(∀k∈l,k∈c.ks)->(l.map λk=>(c.bit k:Int)).sum=(c.maskOf λk=>decide (k∈l):Nat)
 |[],_,_=>by
  have:c.maskOf (λk=>decide (k∈([]:List Pk)))=0:=el.KF (c.KK _) λk hk=>by
   have:=(el.KJ.mp hk).2;simp at this
  rw[this];rfl
 |x::l,hn,hk=>by
  rw[aY]at hn;have ih:=el.Lq l hn.2 λk h=>hk k (by simp[h]);have hx:=hk x (by simp);rw[aG,List.sum_cons,ih];have e:c.maskOf (λk=>decide (k∈x::l))=c.bit x ||| c.maskOf (λk=>decide (k∈l)):=by
   refine el.ext (c.KK _) (jo (c.KD hx) (c.KK _)) λk=>?_;rw[el.Ky,el.KJ,el.KJ,el.KB hx,aB,aB,am]
   constructor
   ·rintro⟨a,h2 | h2⟩
    ·exact .inl h2
    ·exact .inr ⟨a,h2⟩
   ·rintro(h | ⟨a,h2⟩)
    ·exact⟨h▸hx,.inl h⟩
    ·exact⟨a,.inr h2⟩
  have d:c.bit x &&& c.maskOf (λk=>decide (k∈l))=0:=el.KF (nB (c.KD hx)) λk h=>by
   obtain⟨a,h2⟩:=el.Kz.mp h;rw[(el.KB hx).mp a]at h2;exact hn.1 (aV (el.KJ.mp h2).2)
  rw[e,D1 d]
  lia
def fA (w:Option Pk):fV:=w.map jf
theorem iw {v:Option Pk}(h:fA v=fA w):v=w:=by
 cases v with
 |none=>cases w with
  |none=>rfl
  |some k=>cases h
 |some j=>cases w with
  |none=>cases h
  |some k=>exact congrArg some (pN (Option.some.inj h))
theorem gU.key (h:gU H v w):lQ H (fA w) v:=by
 cases w with
 |none=>exact h
 |some k=>obtain⟨q,rfl,e⟩:=(show fg H v k from h);exact⟨q,rfl,e⟩
theorem gU.of (h:lQ H (fA w) v):gU H v w:=by
 cases w with
 |none=>exact h
 |some k=>obtain⟨q,rfl,e⟩:=(show ∃b,v=.ref b/\H b=some (.tup ((jf k).map kV)) from h);exact⟨q,rfl,e⟩
def im (H:Hp)(a:Addr)(c:el)(g:Option Pk->Nat):Prop:=∃kvs,Rd H a (.dN kvs)/\∀w,c.Who w->eV kvs (fA w)=some (.int (g w))
def kE (H:Hp)(a:Addr)(c:el)(g:Option Pk->Nat):Prop:=∃kvs,Rd H a (.dN kvs)/\(∀kv∈kvs,∃w,c.Who w/\kv.1=fA w)/\∀w,c.Who w->eV kvs (fA w)=some (.int (g w))
theorem kE.to {c:el}{g:Option Pk->Nat}(h:kE H a c g):im H a c g:=(by obtain⟨kvs,h1,_,h3⟩:=h;exact⟨kvs,h1,h3⟩)
def nX (H:Hp)(a:Addr)(c:el):Prop:=∃kvs,Rd H a (.dK kvs)/\∀k∈c.ks,∃v,eV kvs (Sum.inl (c.bit k:Int))=some v/\fg H v k
def lP (H:Hp)(a:Addr)(c:el):Prop:=∃kvs,Rd H a (.dK kvs)/\∀x:Str,(eV kvs (Sum.inr x)).getD (.int 0)=.int (c.Lf x)/\((∃k∈c.ks,k.1=x)->eV kvs (Sum.inr x)=some (.int (c.Lf x)))
def i9 (H:Hp)(d:Addr)(c:el)(w:Option Pk):Prop:=∃o akv,H d=some (.frz o (.dK akv))/\akv.map (·.1)=(eR (c.needs w)).map Sum.inr/\∀x∈eR (c.needs w),eV akv (Sum.inr x)=some (.int (c.Lg w x))
def tz (H:Hp)(a:Addr)(c:el):Prop:=∃kvs,Rd H a (.dN kvs)/\∀w,c.Who w->∃d,eV kvs (fA w)=some (.ref d)/\i9 H d c w
theorem im.same (e:eF H H'){c:el}{g:Option Pk->Nat}(h:im H a c g):im H' a c g:=(by obtain⟨kvs,h1,h2⟩:=h;exact⟨kvs,io e h1,h2⟩)
theorem kE.same (e:eF H H'){c:el}{g:Option Pk->Nat}(h:kE H a c g):kE H' a c g:=(by obtain⟨kvs,h1,h2⟩:=h;exact⟨kvs,io e h1,h2⟩)
theorem lP.same (e:eF H H'){c:el}(h:lP H a c):lP H' a c:=(by obtain⟨kvs,h1,h2⟩:=h;exact⟨kvs,io e h1,h2⟩)
theorem i9.same (e:eF H H'){d:Addr}{c:el}(h:i9 H d c w):i9 H' d c w:=(by obtain⟨o,akv,h1,h2⟩:=h;exact⟨o,akv,e _ _ h1,h2⟩)
theorem tz.same (e:eF H H'){c:el}(h:tz H a c):tz H' a c:=(by obtain⟨kvs,h1,h2⟩:=h;exact⟨kvs,io e h1,λw hw=>(by obtain⟨d,g1,g2⟩:=h2 w hw;exact⟨d,g1,g2.same e⟩)⟩)
theorem im.get {c:el}{g:Option Pk->Nat}(h:im H a c g)(hw:c.Who w)(hv:gU H v w):hU H a v (some (.int (g w))):=(by obtain⟨kvs,h1,h2⟩:=h;exact⟨kvs,fA w,h1,hv.key,(h2 w hw).symm⟩)
theorem kE.get {c:el}{g:Option Pk->Nat}(h:kE H a c g)(hw:c.Who w)(hv:gU H v w):hU H a v (some (.int (g w))):=h.to.get hw hv
theorem tz.get {c:el}(h:tz H a c)(hw:c.Who w)(hv:gU H v w):∃d,hU H a v (some (.ref d))/\i9 H d c w:=let ⟨kvs,h1,h2⟩:=h;(by obtain⟨d,g1,g2⟩:=h2 w hw;exact⟨d,⟨kvs,fA w,h1,hv.key,g1.symm⟩,g2⟩)
theorem lP.get {c:el}(h:lP H a c)(x:Str):∃o,iu H a (.str x) o/\o.getD (.int 0)=.int (c.Lf x):=(by obtain⟨kvs,h1,h2⟩:=h;exact⟨_,.inl ⟨kvs,Sum.inr x,h1,rfl,rfl⟩,(h2 x).1⟩)
theorem lP.isD {c:el}(h:lP H a c):GY H a:=(by obtain⟨kvs,h1,_⟩:=h;exact .inl ⟨kvs,h1⟩)
theorem i9.get {d:Addr}{c:el}(h:i9 H d c w)(hx:x∈eR (c.needs w)):iu H d (.str x) (some (.int (c.Lg w x))):=(by obtain⟨o,akv,h1,_,h3⟩:=h;exact .inl ⟨akv,Sum.inr x,.inr ⟨o,h1⟩,rfl,(h3 x hx).symm⟩)
abbrev EH (b bits by_ ofp al sh fo:Addr):List (Str×V):=[("board",.ref b),("bits",.ref bits),("by_bit",.ref by_),("of_part",.ref ofp),("allowed",.ref al),("shut_out",.ref sh),("foes",.ref fo)]
inductive Bl (CB CC:Addr)(H:Hp)(p:Addr)(c:el):Prop
 |mk (dx b bits by_ ofp al sh fo st:_)(_:H p=some (.ins CC dx (EH b bits by_ ofp al sh fo)))(_:ge CB H b st c.es)(_:gv H st c.sn)(_:im H bits c c.Ks)(_:nX H by_ c)(_:lP H ofp c)(_:tz H al c)(_:im H sh c c.Lh)(_:kE H fo c c.Li)
structure iF (CB CC:Addr)(H:Hp)(p:Addr)(c:el):Prop where
 ex:Bl CB CC H p c
structure TC (K:W.Frag)(mg:Str->Option Value)(C:Addr):Prop where
 cl:p9 K C
 nBoard:gf K C "board"
 nBits:gf K C "bits"
 nBy:gf K C "by_bit"
 nOf:gf K C "of_part"
 nAl:gf K C "allowed"
 nSh:gf K C "shut_out"
 nFo:gf K C "foes"
 sorted:mg "sorted" = none
 max:mg "max" = none
 min:mg "min" = none
 sum:mg "sum" = none
end FB
namespace L2
open PySem PySem.Spec PyProof.Rows FB
variable {H H':Hp}{b:Addr}
def eD (H H':Hp):Prop:=∀b u,H b=some u->H' b=some u\/(C7 u/\∃o,H' b=some (.frz o u))
theorem eF.toF (e:eF H H'):eD H H':=λb u h=>.inl (e b u h)
theorem eD.refl (H:Hp):eD H H:=λ_ _ h=>.inl h
theorem eD.trans {H1 H2:Hp}(a:eD H H1)(b:eD H1 H2):eD H H2:=λc u h=>by
 rcases a c u h with z | ⟨f,o,z⟩
 ·exact b c u z
 ·rcases b c _ z with y | ⟨g,_⟩
  ·exact .inr ⟨f,o,y⟩
  ·exact g.elim
theorem eD.no (e:eD H H'){u:HO}(h:H b=some u)(n:¬C7 u):H' b=some u:=(e b u h).resolve_right λz=>n z.1
theorem eD.lst (e:eD H H'){xs:List V}(h:H b=some (.lst xs)):H' b=some (.lst xs):=e.no h λz=>z
theorem eD.tup (e:eD H H'){xs:List V}(h:H b=some (.tup xs)):H' b=some (.tup xs):=e.no h λz=>z
theorem eD.ins (e:eD H H'){C dx:Addr}{fs:List (Str×V)}(h:H b=some (.ins C dx fs)):H' b=some (.ins C dx fs):=e.no h λz=>z
theorem eD.frz (e:eD H H'){o:Obj}{u:HO}(h:H b=some (.frz o u)):H' b=some (.frz o u):=e.no h λz=>z
theorem eD.rd (e:eD H H'){u:HO}(h:Rd H b u):Rd H' b u:=by
 rcases h with h | ⟨o,h⟩
 ·rcases e b u h with z | ⟨_,o,z⟩
  ·exact .inl z
  ·exact .inr ⟨o,z⟩
 ·exact .inr ⟨o,e.frz h⟩
theorem eD.free (e:eD H H')(h:H' b=Option.none):H b=Option.none:=by
 cases q:H b with
 |none=>rfl
 |some u=>
  rcases e b u q with z | ⟨_,o,z⟩
  ·rw[z]at h;cases h
  ·rw[z]at h;cases h
theorem eD.upd (e:eD H H'){u:HO}(h:H b=Option.none):eD H (upd H' b u):=λc v q=>by
 have:c≠b:=λz=>by rw[z,h]at q;cases q
 rcases e c v q with z | ⟨f,o,z⟩
 ·exact .inl (by rw[ef this];exact z)
 ·exact .inr ⟨f,o,by rw[ef this];exact z⟩
section
variable {X:Cx}{tg l:Expr}{tl:TE}
inductive Hn (R:It->Hp->Prop)(x:V)(H1:Hp):Prop
 |mk (a kvs:_)(_:x=.ref a)(_:Rd H1 a (.dK kvs))(_:∀o H2,eD H1 H2->(∀b,b≠a->H2 b=H1 b)->H2 a=some (.frz o (.dK kvs))->R (EV a o kvs) H2)
def IG (tl:TE):TI:=λσ H R=>tl σ H λx H1=>Hn R x H1
inductive Hm (R:It->Hp->Prop)(x:V)(H1:Hp):Prop
 |mk (a kvs:_)(_:x=.ref a)(_:Rd H1 a (.dN kvs))(_:∀o H2,eD H1 H2->(∀b,b≠a->H2 b=H1 b)->H2 a=some (.frz o (.dN kvs))->R (Fi a o kvs) H2)
def IF (tl:TE):TI:=λσ H R=>tl σ H λx H1=>Hm R x H1
theorem qx {a:Addr}{u:HO}{o:Obj}(e:H a=some u)(hu:C7 u):eD H (upd H a (.frz o u)):=λb v h=>by
 by_cases hb:b=a
 ·subst hb;rw[e]at h;cases h;exact .inr ⟨hu,o,d0⟩
 ·exact .inl (by rw[ef hb];exact h)
theorem DZ (G:PE X l tl):PI X tg l (IG tl):=by
 intro d s σ H R I h;refine fW (G d s σ H _ I h) ?_;rintro v m ⟨x,z,y,D,a,g,C,i,q⟩;subst C;cases (show v=Value.ref a from D);have B:∀(o:Obj) (p:Hp),eT X d σ p m->p a=some (.frz o (.dK g))->R (EV a o g) p->wpAny (model X.prog X.w) X.A (pyIter (.ref a)) (HA X d σ tg R) X.xe m:=λo p j E N=>by
  obtain⟨F,M,K,J,L,t,hn,_⟩:=nM j.hok E;refine ot F K t M ⟨m.heap.objs.size,[m.heap.objs.size],_,_,p,rfl,j.kept (t':=m.toks) λb o e=>aA _ e,wf a _ o J L g t hn,⟨_,aK _ rfl,rfl,rfl⟩,λb r=>?_,N⟩
  rw[aj.mp r];exact j.Kh (ao _) (j.hok.fresh (ao _))
 rcases i with i | ⟨o,i⟩
 ·obtain⟨o,_,j⟩:=y.freeze i trivial;exact B o _ j d0 (q o _ (qx i trivial) (λb r=>ef r) d0)
 ·exact B o z y i (q o z (eD.refl _) (λ_ _=>rfl) i)
theorem rV (G:PE X l tl):PI X tg l (IF tl):=by
 intro d s σ H R I h;refine fW (G d s σ H _ I h) ?_;rintro v m ⟨x,z,y,D,a,g,C,i,q⟩;subst C;cases (show v=Value.ref a from D);have B:∀(o:Obj) (p:Hp),eT X d σ p m->p a=some (.frz o (.dN g))->R (Fi a o g) p->wpAny (model X.prog X.w) X.A (pyIter (.ref a)) (HA X d σ tg R) X.xe m:=λo p j E N=>by
  obtain⟨F,M,K,J,L,t,hn,_⟩:=AE j.hok E;refine ot F K t M ⟨m.heap.objs.size,[m.heap.objs.size],_,_,p,rfl,j.kept (t':=m.toks) λb o e=>aA _ e,Bp a _ o J L g t hn,⟨_,aK _ rfl,rfl,rfl⟩,λb r=>?_,N⟩
  rw[aj.mp r];exact j.Kh (ao _) (j.hok.fresh (ao _))
 rcases i with i | ⟨o,i⟩
 ·obtain⟨o,_,j⟩:=y.freeze i trivial;exact B o _ j d0 (q o _ (qx i trivial) (λb r=>ef r) d0)
 ·exact B o z y i (q o z (eD.refl _) (λ_ _=>rfl) i)
end
end L2
namespace FB
open PySem L2 PyProof.Rows
section
variable {G G' H H':Hp}{L:ir}{O O' Ol:List Addr}{a b p pp:Addr}{j m pm:Nat}{kl:List Pk}{kvp:List (fV×V)}{v:V}{w:Option Pk}{x:Str}
section
variable {H H':Hp}(e:eD H H')
include e
theorem fg.f {k:Pk}(h:fg H v k):fg H' v k:=(by obtain⟨q,h1,h2⟩:=h;exact⟨q,h1,e.tup h2⟩)
theorem fJ.f {n:Nd}(h:fJ H v n):fJ H' v n:=(by obtain⟨q,h1,h2⟩:=h;exact⟨q,h1,e.tup h2⟩)
theorem gv.f {ns:List Nd}(h:gv H a ns):gv H' a ns:=(by obtain⟨xs,h1,h2⟩:=h;exact⟨xs,e.lst h1,Paired.J4 h2 λ_ _=>fJ.f e⟩)
theorem mJ.f {kv:fV×V}{n:En}(h:mJ H kv n):mJ H' kv n:=(by obtain⟨h1,a,zs,h2,h3,h4⟩:=h;exact⟨h1,a,zs,h2,e.lst h3,Paired.J4 h4 λ_ _=>fJ.f e⟩)
theorem ge.f {C st:Addr}{es:List En}(h:ge C H p st es):ge C H' p st es:=by
 obtain⟨w,i,o,a,g,t,m,q,s,v⟩:=h.ex;refine⟨w,i,o,a,g,e.ins t,e.rd m,Paired.J4 q λ_ _=>mJ.f e,e.rd s,λx=>?_⟩;rcases v x with z | ⟨l,b,j,r,y,d⟩
 ·exact .inl z
 ·exact .inr ⟨l,b,j,e.lst r,y,d⟩
theorem im.f {c:el}{g:Option Pk->Nat}(h:im H a c g):im H' a c g:=(by obtain⟨kvs,h1,h2⟩:=h;exact⟨kvs,e.rd h1,h2⟩)
theorem kE.f {c:el}{g:Option Pk->Nat}(h:kE H a c g):kE H' a c g:=(by obtain⟨kvs,h1,h2⟩:=h;exact⟨kvs,e.rd h1,h2⟩)
theorem nX.f {c:el}(h:nX H a c):nX H' a c:=(by obtain⟨kvs,h1,h2⟩:=h;exact⟨kvs,e.rd h1,λk hk=>(by obtain⟨v,g1,g2⟩:=h2 k hk;exact⟨v,g1,fg.f e g2⟩)⟩)
theorem lP.f {c:el}(h:lP H a c):lP H' a c:=(by obtain⟨kvs,h1,h2⟩:=h;exact⟨kvs,e.rd h1,h2⟩)
theorem i9.f {d:Addr}{c:el}(h:i9 H d c w):i9 H' d c w:=(by obtain⟨o,akv,h1,h2⟩:=h;exact⟨o,akv,e.frz h1,h2⟩)
theorem tz.f {c:el}(h:tz H a c):tz H' a c:=(by obtain⟨kvs,h1,h2⟩:=h;exact⟨kvs,e.rd h1,λw hw=>(by obtain⟨d,g1,g2⟩:=h2 w hw;exact⟨d,g1,g2.f e⟩)⟩)
theorem iF.f {CB CC:Addr}{c:el}(h:iF CB CC H p c):iF CB CC H' p c:=by
 obtain⟨y,b,bits,d,a,j,o,r,m,v,i,l,t,x,q,w,g,s⟩:=h.ex;exact⟨y,b,bits,d,a,j,o,r,m,e.ins v,i.f e,l.f e,t.f e,x.f e,q.f e,w.f e,g.f e,s.f e⟩
theorem gU.f {o:Option Pk}(h:gU H v o):gU H' v o:=by
 cases o with
 |none=>exact h
 |some k=>exact fg.f e h
end
theorem pP {ps:List Addr}{u:HO}(h:b∈ps):del (upd H b u) ps=del H ps:=by
 funext x
 unfold del;by_cases hx:x∈ps
 ·rw[ax hx,ax hx]
 ·rw[av hx,av hx,ef (λz:x=b=>hx (by rw[z];exact h))]
theorem EG {es:List En}(sn:List Nd){ks:List Pk}(hn:(es.map eU).Nodup)(hp:ks.Perm (es.map eU))(ho:ks.Pairwise λa b=>qi a b=true):∃c:el,c.es=es/\c.sn=sn/\c.ks=ks:=
 ⟨⟨es,sn,ks,λk=>hp.mem_iff,hp.nodup_iff.mpr hn,hp,ho,λi j a b hi hj hij e=>by
  obtain⟨h1,e1⟩:=af.mp hi;obtain⟨h2,e2⟩:=af.mp hj;have:=List.pairwise_iff_getElem.mp ho i j h1 h2 hij;rw[e1,e2]at this;unfold qi at this;rw[ax e]at this
  exact aV this⟩,rfl,rfl,rfl⟩
structure iK (G H:Hp)(O:List Addr)(G' H':Hp)(O':List Addr):Prop where
 gg:eD G G'
 gh:eD G' H'
 gn:∀a,G a=none->G' a≠none->H a=none
 on:∀a∈O',a∈O\/H a=none
 fr:eD (del H O) H'
 lv:∀a,H' a=none->H a=none
theorem iK.refl (h:eD G H):iK G H O G H O:=⟨eD.refl _,h,λa e n=>absurd e n,λa h=>.inl h,(fq _ _).toF,λ_ h=>h⟩
theorem iK.trans {G1 H1 G2 H2:Hp}{O1 O2:List Addr}(a:iK G H O G1 H1 O1)(b:iK G1 H1 O1 G2 H2 O2):iK G H O G2 H2 O2:=by
 refine⟨a.gg.trans b.gg,b.gh,λx e n=>?_,λx l=>?_,λx u e=>?_,λx e=>a.lv x (b.lv x e)⟩
 ·cases h1:G1 x with
  |some u=>exact a.gn x e (by rw[h1];exact λz=>nomatch z)
  |none=>exact a.lv x (b.gn x h1 n)
 ·rcases b.on x l with z | z
  ·exact a.on x z
  ·exact .inr (a.lv x z)
 ·have g:x∉O:=λz=>by rw[fM z]at e;cases e
  have j:H x=some u:=by rw[eE g]at e;exact e
  have d:x∉O1:=λz=>by
   rcases a.on x z with y | y
   ·exact g y
   ·rw[j]at y;cases y
  rcases a.fr x u e with z | ⟨i,o,h⟩
  ·exact b.fr x u (by rw[eE d];exact z)
  ·exact .inr ⟨i,o,b.fr.frz (by rw[eE d];exact h)⟩
theorem iK.same (h:eD G H)(e:eF H H'):iK G H O G H' O:=⟨eD.refl _,h.trans e.toF,λa e n=>absurd e n,λa h=>.inl h,((fq _ _).trans e).toF,λ_ h=>e.free h⟩
theorem iK.put {u:HO}(h:eD G H)(e:H a=none):iK G H O (upd G a u) (upd H a u) O:=by
 refine⟨(eD.refl G).upd (h.free e),λx v q=>?_,λx g n=>?_,λx b=>.inl b,λx v q=>?_,λx q=>?_⟩
 ·by_cases z:x=a
  ·subst z;rw[d0]at q ⊢;exact .inl q
  ·rw[ef z]at q ⊢;exact h x v q
 ·by_cases z:x=a
  ·rw[z];exact e
  ·rw[ef z]at n;exact absurd g n
 ·refine .inl ?_;have:H x=some v:=fq _ _ x v q;rw[ef (et this e)];exact this
 ·by_cases z:x=a
  ·subst z;exact e
  ·rw[ef z]at q;exact q
theorem iK.keep (g:iK G H O G' H' O'){u:HO}(n:a∉O)(e:H a=some u)(f:¬C7 u):H' a=some u:=g.fr.no (by rw[eE n];exact e) f
theorem iK.out (g:iK G H O G' H' O'){u:HO}(n:a∉O)(e:H a=some u):a∉O':=λz=>by
 rcases g.on a z with y | y
 ·exact n y
 ·rw[e]at y;cases y
theorem iK.off (g:iK G H O G' H' O'){u:HO}(n:G a=none)(e:H a=some u):G' a=none:=by
 cases h:G' a with
 |none=>rfl
 |some v=>
  have:=g.gn a n (by rw[h];exact λz=>nomatch z);rw[e]at this;cases this
theorem iK.own (g:iK G H O G' H' O'){u:HO}(d:H b=none)(i:G' b=none):iK G H O G' (upd H' b u) O':=by
 refine⟨g.gg,g.gh.upd i,g.gn,g.on,g.fr.upd ?_,λa e=>?_⟩
 ·cases h:del H O b with
  |none=>rfl
  |some v=>rw[fq _ _ b v h]at d;cases d
 ·by_cases z:a=b
  ·rw[z];exact d
  ·rw[ef z]at e;exact g.lv a e
theorem iK.base (g:iK G H O G' H' O')(gh:eD G H){u:HO}(d:H b=none)(e:H' b=some u):iK G H O (upd G' b u) H' O':=by
 refine⟨g.gg.upd (gh.free d),λa v q=>?_,λa e n=>?_,g.on,g.fr,g.lv⟩
 ·by_cases z:a=b
  ·rw[z,d0]at q;rw[z];exact .inl (e.trans q)
  ·rw[ef z]at q;exact g.gh a v q
 ·by_cases z:a=b
  ·rw[z];exact d
  ·rw[ef z]at n;exact g.gn a e n
def ph (m:Nat):ir->Nat->Option Nat
 |[],_=>none
 |e::L,i=>if e.1=m then some i else ph m L (i+1)
def mR (L:ir)(m:Nat):Option Nat:=ph m L 0
theorem mS (m:Nat)(e:Nat×Rs):∀(L:ir) (i:Nat),ph m (L++[e]) i=match ph m L i with
  |some j=>some j
  |none=>if e.1=m then some (i+L.length) else none
 |[],i=>by simp[ph]
 |x::L,i=>by
  rw[dh];unfold ph;by_cases h:x.1=m
  ·rw[ax h,ax h]
  ·rw[av h,av h,mS m e L (i+1),aE,show i+1+L.length=i+(L.length+1) by omega]
theorem qz {m:Nat}:∀{L:ir} {i j:Nat},ph m L i=some j->∃e,i<=j/\L[j-i]?=some e/\e.1=m
 |[],i,j,h=>nomatch h
 |x::L,i,j,h=>by
  unfold ph at h;by_cases hx:x.1=m
  ·rw[ax hx]at h;cases h;exact⟨x,ao _,by rw[bQ];rfl,hx⟩
  ·rw[av hx]at h;obtain⟨e,h1,h2,h3⟩:=qz h;exact⟨e,by omega,by rw[show j-i=(j-(i+1))+1 by omega];exact h2,h3⟩
theorem mT {m:Nat}:∀{L:ir} {i:Nat},ph m L i=none↔m∉L.map (·.1)
 |[],i=>by simp[ph]
 |x::L,i=>by
  unfold ph;by_cases hx:x.1=m
  ·rw[ax hx];simp[hx]
  ·rw[av hx,mT,aG,am,not_or];exact⟨λh=>⟨λz=>hx z.symm,h⟩,λh=>h.2⟩
theorem qy (h:mR L m=some j):∃e,L[j]?=some e/\e.1=m:=(by obtain⟨e,_,h2,h3⟩:=qz h;exact⟨e,h2,h3⟩)
theorem qh {e:Nat×Rs}(h:mR L m=some j):mR (L++[e]) m=some j:=by
 unfold mR at *;rw[mS,h]
theorem lS {e:Nat×Rs}(h:mR L m=none):mR (L++[e]) m=if e.1=m then some L.length else none:=by
 unfold mR at *;rw[mS,h,dL]
def el.Lr (c:el)(k:Pk):ir->Nat->List Nat
 |[],_=>[]
 |e::L,i=>if c.has e.1 k then i::c.Lr k L (i+1) else c.Lr k L (i+1)
def el.plc (c:el)(L:ir)(k:Pk):List Nat:=c.Lr k L 0
theorem el.Ls (c:el)(k:Pk)(e:Nat×Rs):∀(L:ir) (i:Nat),c.Lr k (L++[e]) i=c.Lr k L i++if c.has e.1 k then [i+L.length] else []
 |[],i=>by
  rw[dJ];unfold el.Lr;by_cases h:c.has e.1 k
  ·rw[ax h,ax h];rfl
  ·rw[av h,av h];rfl
 |x::L,i=>by
  rw[dh];unfold el.Lr;rw[el.Ls c k e L (i+1),aE,show i+1+L.length=i+(L.length+1) by omega];by_cases h:c.has x.1 k
  ·rw[ax h,ax h];rfl
  ·rw[av h,av h]
theorem el.Lu (c:el)(L:ir)(k:Pk)(e:Nat×Rs):c.plc (L++[e]) k=c.plc L k++if c.has e.1 k then [L.length] else []:=by
 unfold el.plc;rw[el.Ls,dL]
theorem el.Lv (c:el)(k:Pk):∀(L:ir) (i:Nat),(c.Lr k L i).length<=L.length
 |[],i=>ao _
 |x::L,i=>by
  unfold el.Lr;have:=el.Lv c k L (i+1)
  split
  ·rw[aE,aE];omega
  ·rw[aE];omega
theorem el.Lx {c:el}{k:Pk}{j:Nat}:∀{L:ir} {i:Nat},j∈c.Lr k L i↔∃e,i<=j/\L[j-i]?=some e/\c.has e.1 k
 |[],i=>by simp[el.Lr]
 |x::L,i=>by
  have ih:=el.Lx (c:=c) (k:=k) (j:=j) (L:=L) (i:=i+1);have key:j∈c.Lr k (x::L) i↔(j=i/\c.has x.1 k)\/j∈c.Lr k L (i+1):=by
   show j∈(if c.has x.1 k then i::c.Lr k L (i+1) else c.Lr k L (i+1))↔_;by_cases h:c.has x.1 k
   ·rw[ax h,am];exact⟨λz=>z.imp (λy=>⟨y,h⟩) id,λz=>z.imp (λy=>y.1) id⟩
   ·rw[av h];exact⟨.inr,λz=>z.elim (λy=>absurd y.2 h) id⟩
  rw[key,ih]
  constructor
  ·rintro(⟨rfl,h⟩ | ⟨e,d,a,b⟩)
   ·exact⟨x,ao _,by rw[bQ];rfl,h⟩
   ·exact⟨e,by omega,by rw[show j-i=(j-(i+1))+1 by omega];exact a,b⟩
  ·rintro⟨e,d,a,b⟩;rcases Nat.eq_or_lt_of_le d with z | z
   ·subst z;rw[bQ]at a;have:x=e:=by simpa using a
    exact .inl ⟨rfl,this▸b⟩
   ·exact .inr ⟨e,z,by rw[show j-i=(j-(i+1))+1 by omega]at a;exact a,b⟩
theorem el.Ly {c:el}{k:Pk}:j∈c.plc L k↔∃e,L[j]?=some e/\c.has e.1 k:=by
 unfold el.plc;rw[el.Lx];exact⟨(by rintro⟨e,_,a,b⟩;exact⟨e,a,b⟩),(by rintro⟨e,a,b⟩;exact⟨e,bo _,a,b⟩)⟩
def uD:HO->Prop
 |.tbl _=>True
 |.ext _=>True
 |_=>False
def gZ (l:List Nat):List V:=l.map λi=>V.int (i:Nat)
structure qU (H:Hp)(c:el)(pp:Addr)(g:Pk->List Nat)(Ol:List Addr)(kvp:List (fV×V))(kl:List Pk):Prop where
 d:H pp=some (.dN kvp)
 keys:kvp.map (·.1)=kl.map (λk=>fA (some k))
 nd:kl.Nodup
 sub:∀k∈kl,k∈c.ks
 val:∀k∈c.ks,(eV kvp (fA (some k))=none/\g k=[])\/∃l,eV kvp (fA (some k))=some (.ref l)/\l∈Ol/\H l=some (.lst (gZ (g k)))
 inj:∀k k' l,eV kvp (fA (some k))=some (.ref l)->eV kvp (fA (some k'))=some (.ref l)->k=k'
def IR (H:Hp)(c:el)(pp:Addr)(g:Pk->List Nat)(Ol:List Addr):Prop:=∃(kvp:List (fV×V)) (kl:List Pk),qU H c pp g Ol kvp kl
theorem qU.keep {c:el}{g:Pk->List Nat}(B:qU H c pp g Ol kvp kl)(h:H' pp=H pp)(k:∀a∈Ol,H' a=H a):qU H' c pp g Ol kvp kl:=
 ⟨by rw[h];exact B.d,B.keys,B.nd,B.sub,λx hx=>(B.val x hx).imp id (by rintro⟨l,z1,z2,z3⟩;exact⟨l,z1,z2,by rw[k l z2];exact z3⟩),B.inj⟩
theorem qU.len {c:el}{g:Pk->List Nat}(B:qU H c pp g Ol kvp kl):kvp.length<=c.n:=by
 have h:=congrArg List.length B.keys;rw[ab,ab]at h;rw[h];exact kT B.nd B.sub
theorem qU.old {c:el}{g:Pk->List Nat}(B:qU H c pp g Ol kvp kl){k:Pk}{l:Addr}{i:Nat}(q:k∈c.ks)(h:eV kvp (fA (some k))=some (.ref l))(j:pp∉Ol):l∈Ol/\H l=some (.lst (gZ (g k)))/\qU (upd H l (.lst (gZ (g k)++[.int (i:Nat)]))) c pp (λx=>if x=k then g k++[i] else g x) Ol kvp kl:=by
 have a:l∈Ol/\H l=some (.lst (gZ (g k))):=by
  rcases B.val k q with ⟨z,_⟩ | ⟨o,b,m,p⟩
  ·rw[h]at z;cases z
  ·rw[h]at b;cases b;exact⟨m,p⟩
 refine⟨a.1,a.2,?_,B.keys,B.nd,B.sub,λx r=>?_,B.inj⟩
 ·rw[ef (λz=>j (by rw[z];exact a.1))];exact B.d
 ·by_cases e:x=k
  ·subst e;refine .inr ⟨l,h,a.1,?_⟩;rw[ax rfl,d0];unfold gZ;rw[ay];rfl
  ·rw[av e];rcases B.val x r with z | ⟨o,b,m,p⟩
   ·exact .inl z
   ·refine .inr ⟨o,b,m,?_⟩;rw[ef (λy:o=l=>e (B.inj x k l (y▸b) h))];exact p
theorem qU.new {c:el}{g:Pk->List Nat}(B:qU H c pp g Ol kvp kl){k:Pk}{l:Addr}{i:Nat}(D:k∈c.ks)(hn:eV kvp (fA (some k))=none)(q:pp∉Ol)(A:l∉Ol)(M:l≠pp)(w:H' pp=some (.dN (fm kvp (fA (some k)) (.ref l))))(E:H' l=some (.lst [.int (i:Nat)]))(F:∀b,b≠pp->b≠l->H' b=H b):qU H' c pp (λx=>if x=k then g k++[i] else g x) (l::Ol) (fm kvp (fA (some k)) (.ref l)) (kl++[k]):=by
 have K:g k=[]:=by
  rcases B.val k D with ⟨_,z⟩ | ⟨h,m,_⟩
  ·exact z
  ·rw[hn]at m;cases m
 have s:k∉kl:=λz=>by
  have w:fA (some k)∈kvp.map (·.1):=by rw[B.keys];exact bn z
  obtain⟨I,t,v⟩:=aw.mp w;unfold eV at hn;rw[Option.map_eq_none_iff,dP]at hn;exact hn I t (by simpa using v)
 refine⟨w,?_,?_,λx d=>?_,λx d=>?_,λx y h d j=>?_⟩
 ·rw[ii _ hn,ay,B.keys,ay];rfl
 ·rw[bN];exact⟨B.nd,by simp,λa L b G e=>s (by rw[show b=k by simpa using G]at e;exact e▸L)⟩
 ·rcases aD.mp d with z | z
  ·exact B.sub x z
  ·rw[aj.mp z];exact D
 ·rw[gi];by_cases e:x=k
  ·subst e;refine .inr ⟨l,ax rfl,by simp,?_⟩;rw[ax rfl,E,K];rfl
  ·rw[av (λz=>e (Option.some.inj (iw z))),av e];rcases B.val x d with z | ⟨h,m,p,J⟩
   ·exact .inl z
   ·refine .inr ⟨h,m,by simp[p],?_⟩;rw[F h (λy=>q (y▸p)) (λy=>A (y▸p))];exact J
 ·have o:∀x h,x≠k->eV kvp (fA (some x))=some (.ref h)->h≠l:=λx h e z y=>by
   have r:x∈c.ks:=by
    have:=iP z;rw[B.keys]at this;obtain⟨u,t,v⟩:=aw.mp this;rw[<-Option.some.inj (iw v)];exact B.sub u t
   rcases B.val x r with ⟨C,_⟩ | ⟨N,m,p,_⟩
   ·rw[z]at C;cases C
   ·rw[z]at m;cases m;exact A (y▸p)
  rw[gi]at d j;by_cases ex:x=k
  ·by_cases ey:y=k
   ·rw[ex,ey]
   ·rw[ax (by rw[ex])]at d;rw[av (λz=>ey (Option.some.inj (iw z)))]at j;cases d;exact absurd rfl (o y l ey j)
  ·rw[av (λz=>ex (Option.some.inj (iw z)))]at d;by_cases ey:y=k
   ·rw[ax (by rw[ey])]at j;cases j;exact absurd rfl (o x l ex d)
   ·rw[av (λz=>ey (Option.some.inj (iw z)))]at j;exact B.inj x y h d j
theorem qU.fn {c:el}{g g':Pk->List Nat}(B:qU H c pp g Ol kvp kl)(h:∀k∈c.ks,g k=g' k):qU H c pp g' Ol kvp kl:=
 ⟨B.d,B.keys,B.nd,B.sub,λk hk=>by rw[<-h k hk];exact B.val k hk,B.inj⟩
theorem iy (h:eD G H)(off:∀a∈O,G a=none)(fr:eD (del H O) H'):eD G H':=λa u e=>by
 have na:a∉O:=λz=>by rw[off a z]at e;cases e
 rcases h a u e with z | ⟨z1,o,z2⟩
 ·exact fr a u (by rw[eE na];exact z)
 ·exact .inr ⟨z1,o,fr.frz (by rw[eE na];exact z2)⟩
abbrev Aq (ch ma re pm pp:Addr):List (Str×V):=[("chart",.ref ch),("masks",.ref ma),("reasons",.ref re),("place_by_mask",.ref pm),("places_by_pick",.ref pp)]
inductive ER (CL:Addr)(G H:Hp)(p ch:Addr)(c:el)(L:ir)(O:List Addr):Prop
 |mk (dx ma re pm pp:Addr)(kvm:List (gz×V))(rs:List V)(Ol:List Addr)(_:O=ma::re::pm::pp::Ol)(_:G p=some (.ins CL dx (Aq ch ma re pm pp)))(_:H ma=some (.lst (gZ (L.map (·.1)))))(_:H re=some (.lst rs))(_:Paired (nE G) rs (L.map (·.2)))(_:H pm=some (.dK kvm))(_:kvm.length<=L.length)(_:∀m:Nat,eV kvm (Sum.inl (m:Int))=(mR L m).map λi=>V.int (i:Nat))(_:IR H c pp (c.plc L) Ol)
structure gy (CL:Addr)(G H:Hp)(p ch:Addr)(c:el)(L:ir)(O:List Addr):Prop where
 ex:ER CL G H p ch c L O
 off:∀a∈O,G a=none
 liv:∀a∈O,∃u,H a=some u
 nf:∀a∈O,∀u,H a=some u->¬uD u
 nd:O.Nodup
theorem mi.f (e:eD H H'):∀{t:yC},mi H v t->mi H' v t
 |.one k,h=>fg.f e h
 |.many bs,⟨a,h1,h2⟩=>⟨a,h1,e.lst h2⟩
theorem nE.f (e:eD H H'){r:Rs}(h:nE H v r):nE H' v r:=
 (by obtain⟨q,wv,tv,h1,h2,h3,h4⟩:=h;exact⟨q,wv,tv,h1,e.tup h2,h3.f e,h4.f e⟩)
theorem gy.grow {CL:Addr}{ch:Addr}{c:el}(h:gy CL G H p ch c L O)(i:eD G G')(off:∀a∈O,G' a=none)(k:∀a∈O,H' a=H a):gy CL G' H' p ch c L O:=by
 obtain⟨z,m,j,g,l,e,o,A,rfl,v,q,r,t,x,s,w,⟨d,y,B⟩⟩:=h.ex;refine⟨⟨z,m,j,g,l,e,o,A,rfl,i.ins v,by rw[k m (by simp)];exact q,by rw[k j (by simp)];exact r,Paired.J4 t λ_ _=>nE.f i,by rw[k g (by simp)];exact x,s,w,⟨d,y,B.keep (k l (by simp)) λa b=>k a (by simp[b])⟩⟩,off,λa b=>by rw[k a b];exact h.liv a b,λa b=>by rw[k a b];exact h.nf a b,h.nd⟩
structure TL (K:W.Frag)(mg:Str->Option Value)(C:Addr):Prop where
 cl:p9 K C
 nCh:gf K C "chart"
 nMa:gf K C "masks"
 nRe:gf K C "reasons"
 nPm:gf K C "place_by_mask"
 nPp:gf K C "places_by_pick"
 len:mg "len" = none
 zip:mg "zip" = none
theorem mI {α:Type}{x:α}{l:List α}:sM (x::l) 0=some x:=jy (show iI (x::l) ((0:Nat):Int)=some x by rw[ij];rfl)
inductive GS (Q:Bool->Hp->Prop)(x:V)(H':Hp):Prop
 |mk (i:_)(_:x=.int i)(_:Q (i != 0) H')
def HM (ta:TE):TT:=λσ H Q=>ta σ H λx H'=>GS Q x H'
theorem uX {X:Cx}{a:Expr}{ta:TE}(j:PE X a ta)(g:∀whole,isTrue a X.env whole=(do let v <-whole;standAt a.pos;holding [v] (truthy v))):PT X a (HM ta):=by
 intro b s σ H Q I h;exact isTrue_plain (fW (j b s σ H _ I h) (by rintro v p ⟨x,d,o,l,i,e,m⟩;exact yP b p σ d x v Q o l ⟨_,by subst e;rfl,m⟩)) (g _)
def el.Lz (c:el)(wanted:List (Str×Option Pk))(w:Option Pk)(pm:Nat)(ps:List Str)(g:List (Str×Option Pk)):Prop:=
 ∃E:List Str,g.map (·.1)=wanted.map (·.1)++E/\E.Sublist ps/\(∀x∈E,¬c.isP pm x/\x∉wanted.map (·.1))/\(∀x∈ps,c.isP pm x\/x∈wanted.map (·.1)\/x∈E)/\
  ∀x u,(x,u)∈g->(x,u)∈wanted\/(u=w/\x∈ps/\¬c.isP pm x)
theorem mV:∀ns:List Nd,(eR ns).length<=ns.length
 |[]=>ao _
 |n::ns=>by
  rw[eR,aE,aE];have h1:=bE (λx=>!decide (x=n.1)) (eR ns);have h2:=mV ns
  lia
theorem GrowP.nil {c:el}{wanted:List (Str×Option Pk)}:c.Lz wanted w pm [] wanted:=⟨[],by simp,.slnil,(λx h=>nomatch h),(λx h=>nomatch h),λx u h=>.inl h⟩
section
variable {c:el}{wanted g:List (Str×Option Pk)}{ps:List Str}
theorem GrowP.skip (h:c.Lz wanted w pm ps g)(l:c.isP pm x):c.Lz wanted w pm (ps++[x]) g:=by
 obtain⟨E,e,b,j,d,i⟩:=h;refine⟨E,e,b.trans (dY _ _),j,λy a=>?_,λy u a=>(i y u a).imp id λz=>⟨z.1,aP _ z.2.1,z.2.2⟩⟩;rcases aD.mp a with z | z
 ·exact d y z
 ·rw[aj.mp z];exact .inl l
theorem GrowP.new (h:c.Lz wanted w pm ps g)(d:¬c.isP pm x)(hn:x∉g.map (·.1)):c.Lz wanted w pm (ps++[x]) (g++[(x,w)]):=by
 obtain⟨E,b,e,l,i,j⟩:=h;rw[b]at hn;refine⟨E++[x],by rw[ay,b,bH];rfl,e.append (List.Sublist.refl _),λy a=>?_,λy a=>?_,λy u a=>?_⟩
 ·rcases aD.mp a with z | z
  ·exact l y z
  ·rw[aj.mp z];exact⟨d,λq=>hn (aP _ q)⟩
 ·rcases aD.mp a with z | z
  ·exact(i y z).imp id λq=>q.imp id λq=>aP _ q
  ·rw[aj.mp z];exact .inr (.inr (by simp))
 ·rcases aD.mp a with z | z
  ·exact(j y u z).imp id λq=>⟨q.1,aP _ q.2.1,q.2.2⟩
  ·rw[aj,Prod.mk.injEq]at z;exact .inr ⟨z.2,by simp[z.1],z.1▸d⟩
theorem GrowP.J5 (h:c.Lz wanted w pm ps g)(hn:x∈g.map (·.1))(a:x∉ps):c.Lz wanted w pm (ps++[x]) g:=by
 obtain⟨E,e,d,l,i,j⟩:=h;refine⟨E,e,d.trans (dY _ _),l,λy b=>?_,λy u b=>(j y u b).imp id λz=>⟨z.1,aP _ z.2.1,z.2.2⟩⟩;rcases aD.mp b with z | z
 ·exact i y z
 ·rw[aj.mp z];rw[e]at hn;exact .inr (.inl ((aD.mp hn).resolve_right λq=>a (d.subset q)))
theorem GrowP.swap (h:c.Lz wanted w pm ps g)(p:¬c.isP pm x)(hn:x∈g.map (·.1))(a:x∉ps):c.Lz wanted w pm (ps++[x]) (g.map λyu=>if yu.1=x then (yu.1,w) else yu):=by
 obtain⟨E,l,d,o,i,m⟩:=GrowP.J5 h hn a;have e:(g.map λyu=>if yu.1=x then (yu.1,w) else yu).map (·.1)=g.map (·.1):=by
  rw[cC];refine List.map_congr_left λyu _=>?_;show(if yu.1=x then (yu.1,w) else yu).1=yu.1
  split <;> rfl
 refine⟨E,by rw[e];exact l,d,o,i,λy u j=>?_⟩;obtain⟨yu,b,z⟩:=aw.mp j;by_cases q:yu.1=x
 ·rw[ax q]at z;cases z;exact .inr ⟨rfl,by simp[q],q▸p⟩
 ·rw[av q]at z;subst z;exact m y u b
end
theorem wI {c:el}:(pm &&& c.Lf x≠0)↔c.isP pm x:=by
 have b:pm &&& c.Lf x<2^c.n:=bI Nat.and_le_right (c.KK _)
 constructor
 ·intro h;refine Classical.byContradiction λz=>h (el.KF b λk e=>z ?_);obtain⟨a,d⟩:=el.Kz.mp e;exact⟨k,a,(el.Lj.mp d).2⟩
 ·rintro⟨j,a,d⟩ h;have:c.has (pm &&& c.Lf x) j:=el.Kz.mpr ⟨a,el.Lj.mpr ⟨a.1,d⟩⟩;rw[h]at this;exact el.KC this
theorem nr {α β:Type}{f:α->List β}{n:Nat}:∀{l:List α},(∀x∈l,(f x).length<=n)->(l.flatMap f).length<=l.length*n
 |[],_=>by simp
 |x::l,h=>by
  have h1:=nr (l:=l) λy hy=>h y (by simp[hy]);have h2:=h x (by simp);rw[List.flatMap_cons,aF,aE,Nat.succ_mul]
  lia
theorem iN.LA {c:el}{s:Sd}(h:iN c L s)(a:∀w,(c.needs w).length<=100)(hn:c.n<64):s.wanted.length<=7000:=by
 have g:(s.wanted.map (·.1)).length<=((none::c.ks.map some).flatMap λw=>(c.needs w).map (·.1)).length:=by
  refine kT h.wk λx m=>?_;obtain⟨⟨y,w⟩,d,e⟩:=aw.mp m;have j:y=x:=e;subst j;obtain⟨_,b,i⟩:=h.w1 y w d;refine List.mem_flatMap.mpr ⟨w,?_,i⟩;cases w with
  |none=>exact bt
  |some k=>exact bc _ (bn b.1)
 have b:=nr (f:=λw=>(c.needs w).map (·.1)) (n:=100) (l:=none::c.ks.map some) λw _=>by rw[ab];exact a w
 rw[aE,ab]at b;rw[ab]at g;have:c.ks.length<64:=hn
 lia
def vX (H:Hp)(kv:gz×V)(xu:Str×Option Pk):Prop:=kv.1=Sum.inr xu.1/\gU H kv.2 xu.2
def vY (G:Hp)(a:Addr)(wanted:List (Str×Option Pk)):Prop:=∃o kvs,G a=some (.frz o (.dK kvs))/\Paired (vX G) kvs wanted
theorem vX.f (e:eD H H'){kv:gz×V}{xu:Str×Option Pk}(h:vX H kv xu):vX H' kv xu:=⟨h.1,h.2.f e⟩
theorem vY.f (e:eD H H'){ws:List (Str×Option Pk)}(h:vY H a ws):vY H' a ws:=(by obtain⟨o,kvs,h1,h2⟩:=h;exact⟨o,kvs,e.frz h1,Paired.J4 h2 λ_ _ z=>z.f e⟩)
theorem wb {H:Hp}:∀{kvs:List (gz×V)} {g:List (Str×Option Pk)},Paired (vX H) kvs g->kvs.map (·.1)=(g.map (·.1)).map Sum.inr
 |_,_,.nil=>rfl
 |_,_,.cons h r=>by rw[aG,aG,aG,wb r,h.1]
theorem qX {H:Hp}:∀{kvs:List (gz×V)} {g:List (Str×Option Pk)} {x:Str},Paired (vX H) kvs g->(eV kvs (Sum.inr x)=none↔x∉g.map (·.1))
 |_,_,x,.nil=>by simp[eV]
 |kv::kvs,xu::g,x,.cons h r=>by
  have ih:=qX (x:=x) r;unfold eV at ih ⊢;rw[bu,h.1,aG,am,not_or];by_cases e:xu.1=x
  ·rw[aq (by rw[e])];simp[e]
  ·rw[au (λz=>e (Sum.inr.inj z))];exact ih.trans ⟨λz=>⟨λy=>e y.symm,z⟩,λz=>z.2⟩
theorem nY {H:Hp}:∀{kvs:List (gz×V)} {g:List (Str×Option Pk)} {x:Str},Paired (vX H) kvs g->x∈g.map (·.1)->∃v u,eV kvs (Sum.inr x)=some v/\(x,u)∈g/\gU H v u
 |_,_,x,.nil,h=>nomatch h
 |kv::kvs,xu::g,x,.cons h r,hx=>by
  by_cases e:xu.1=x
  ·refine⟨kv.2,xu.2,?_,by rw[<-e];exact bt,h.2⟩;unfold eV;rw[bu,h.1,aq (by rw[e])];rfl
  ·rw[aG,am]at hx;obtain⟨v,u,h1,h2,h3⟩:=nY r (hx.resolve_left λz=>e z.symm);refine⟨v,u,?_,bc _ h2,h3⟩;unfold eV at h1 ⊢;rw[bu,h.1,au (λz=>e (Sum.inr.inj z))];exact h1
theorem Dt {kvs:List (gz×V)}{g:List (Str×Option Pk)}(h:Paired (vX H) kvs g)(b:gU H v w):Paired (vX H) (fm kvs (Sum.inr x) v) (if x∈g.map (·.1) then g.map (λyu=>if yu.1=x then (yu.1,w) else yu) else g++[(x,w)]):=by
 by_cases hx:x∈g.map (·.1)
 ·rw[ax hx];have d:(kvs.any λa=>decide (a.1=Sum.inr x))=true:=by
   have:(Sum.inr x:gz)∈kvs.map (·.1):=by rw[wb h];exact bn hx
   obtain⟨a,j,i⟩:=aw.mp this;exact dD.mpr ⟨a,j,aq i⟩
  unfold fm;rw[ax d];clear d hx
  induction h with
  |nil=>exact .nil
  |@cons a xu kvs g h r ih=>
   refine .cons ?_ ih;dsimp only;by_cases e:xu.1=x
   ·rw[ax (show a.1=Sum.inr x by rw[h.1,e]),ax e];exact⟨h.1,b⟩
   ·rw[av (show ¬a.1=Sum.inr x from λz=>e (Sum.inr.inj (h.1.symm.trans z))),av e];exact h
 ·rw[av hx,ii _ ((qX h).mpr hx)];exact Paired.snoc h ⟨rfl,b⟩
theorem wc {H:Hp}{x:Str}:∀{kvs:List (gz×V)} {g:List (Str×Option Pk)},Paired (vX H) kvs g->Paired (vX H) (jX kvs (Sum.inr x)) (g.filter λxu=>!decide (xu.1=x))
 |_,_,.nil=>.nil
 |kv::kvs,xu::g,.cons h r=>by
  have ih:=wc (x:=x) r;unfold jX at ih ⊢;by_cases e:xu.1=x
  ·rw[aJ,aJ,av (by rw[h.1];simp[e]),av (by simp[e])];exact ih
  ·rw[aJ,aJ,ax (by rw[h.1];simpa using e),ax (by simpa using e)];exact .cons h ih
def iZ (i:Nat):Stmt:=PySem.Challenge.pw_fitboard_k10_whole_what_is_not_picked.main.body.getD i (.Pass ⟨0,0,0,0⟩)
abbrev oY:Stmt:=iZ 6
abbrev zg:Stmt:=fF (iZ 7) 0
abbrev oW:Stmt:=fF (iZ 7) 1
abbrev uV:Stmt:=iZ 9
abbrev rN:Stmt:=fF (iZ 10) 0
abbrev zi:Stmt:=fF (iZ 10) 1
abbrev pc:Stmt:=fF (iZ 10) 2
abbrev oR:Stmt:=fF (iZ 10) 3
abbrev rD:Stmt:=fF (iZ 10) 4
abbrev rE:Stmt:=fF (iZ 10) 5
abbrev rF:Stmt:=fF (iZ 12) 0
abbrev DR:Stmt:=fF (iZ 12) 1
abbrev rA:Stmt:=fF (iZ 12) 2
abbrev rP:Stmt:=fF (iZ 12) 3
abbrev uM:Stmt:=fF (iZ 12) 4
abbrev rj:Stmt:=iZ 14
abbrev rm:Stmt:=fF (iZ 15) 0
abbrev rL:Stmt:=fF (iZ 16) 0
abbrev rn:Stmt:=fF (iZ 17) 0
abbrev oU:Stmt:=fF (iZ 17) 1
abbrev rl:Stmt:=fF (iZ 17) 2
abbrev zd:Stmt:=fF (iZ 17) 3
abbrev tS:Stmt:=fF (iZ 17) 4
abbrev zh:Stmt:=fF (iZ 17) 5
abbrev rO:Stmt:=fF (iZ 17) 6
abbrev rK:Stmt:=fF (iZ 17) 7
abbrev zc:Stmt:=fF (iZ 17) 8
abbrev za:Stmt:=fF (iZ 17) 9
abbrev rp:Stmt:=fF (iZ 17) 10
abbrev uS:Stmt:=fF (iZ 17) 11
abbrev oT:Stmt:=fF (iZ 17) 12
abbrev uN:Stmt:=fF (iZ 17) 13
abbrev rC:Stmt:=fF (iZ 17) 14
abbrev uO:Stmt:=fF (iZ 17) 15
abbrev zj:Stmt:=iZ 19
abbrev oZ:Stmt:=iZ 20
abbrev rM:Stmt:=iZ 21
abbrev DU:Stmt:=iZ 22
abbrev ze:Stmt:=iZ 23
abbrev uU:Stmt:=iZ 24
abbrev uQ:Stmt:=iZ 25
abbrev uL:Stmt:=iZ 27
abbrev Ik:Stmt:=iZ 28
abbrev DQ:Stmt:=iZ 29
abbrev zb:Stmt:=iZ 30
abbrev uP:Stmt:=iZ 31
abbrev oQ:Stmt:=iZ 32
abbrev zk:Stmt:=iZ 33
abbrev oV:Stmt:=iZ 34
abbrev rG:Stmt:=iZ 35
abbrev rB:Stmt:=iZ 36
abbrev rH:Stmt:=iZ 37
abbrev mQ:Stmt:=iZ 38
abbrev uT:Stmt:=iZ 39
abbrev rJ:Stmt:=iZ 40
abbrev oX:Stmt:=iZ 41
abbrev lX:Stmt:=iZ 42
abbrev uW:Stmt:=iZ 43
abbrev uR:Stmt:=iZ 44
abbrev lY:Stmt:=iZ 45
end
section
seal mj PS PE PT PA
variable {C CB CC CL CS a ch dx p:Addr}{G H H' Hd:Hp}{K:W.Frag}{P:Program}{es:List En}{fd:FuncData}{i j m:Nat}{mg:Str->Option Value}{ps:List Str}{sp:Sp}{vk:List (gz×V)}{w:World}{x:Str}
structure TB (K:W.Frag)(mg:Str->Option Value)(C:Addr):Prop where
 cl:p9 K C
 nN:gf K C "needs"
 nV:gf K C "versions"
 mC:mg "Board" = some (.ref C)
 list:mg "list" = none
 sorted:mg "sorted" = none
theorem jY {y:Str}:decide (V.str x=V.str y)=decide (x=y):=by
 by_cases h:x=y
 ·rw[aq h,aq (congrArg V.str h)]
 ·rw[au h,au (λz=>h (V.str.inj z))]
def nw (n:Nd)(k:Str×Int):Bool:=decide (k.1=n.1)&&!(lI n k.2)
inductive lE (vs:List V)(H:Hp)(Q:VK)(E:XK):Prop
 |mk (v pk:V)(n:Nd)(k:Str×Int)(_:vs=[v,pk])(_:fJ H v n)(_:fg H pk k)(_:Q (.bl (nw n k)) H)
inductive lD (C:Addr)(vs:List V)(H:Hp)(Q:VK)(E:XK):Prop
 |mk (p st:Addr)(es:List En)(v:V)(n:Nd)(_:vs=[.ref p,v])(_:ge C H p st es)(_:fJ H v n)(_:es.length<64)(_:∀l (ms:List Int) H',eF H H'->H l=none->H' l=some (.lst (ms.map V.int))->ms.Perm (iW es n)->ms.Pairwise (· ≥ ·)->Q (.ref l) H')
section
variable {base:Heap}{f:Addr}
theorem i4 {N Ps:List Str}{sc:Scope}(a:sc.kind=.function:=by rfl)(b:sc.isCoroutine=false:=by rfl)(c:sc.isGenerator=false:=by rfl)(d:N.Nodup:=by decide +kernel)(e:N.take Ps.length=Ps:=by rfl)(f:∀x∈Ps,sc.names.lookup x=some .local\/sc.names.lookup x=some .cell:=by decide +kernel)(g:∀y∈sc.names,y.2≠.free:=by decide +kernel):eM N Ps sc:=⟨a,b,c,d,e,f,g⟩
theorem Ih:eM ["need","pick"] ["need","pick"] (eB oY):=i4
theorem vg (F:iL K "clashes" "clashes" oY f fd):fi P w K mg base fB 1 f fd ["need","pick"] lE:=by
 refine F.ok Ih λg A d s H j Q E i h=>?_;obtain⟨v,l,n,k,rfl,⟨a,rfl,b⟩,⟨e,rfl,hp⟩,q⟩:=h;refine⟨_,eo (eQ (lg (jU km (eG eN (pv 1) er) (eG eN (pv 0) er) (fO _)) (lZ (uY (zI wA wA (eG eN (pv 0) er) (eG eN (pv 1) er) (eG eN (pv 0) er)))))),?_⟩;unfold nw lI at q;refine⟨_,rfl,e,_,_,_,rfl,rfl,gs.of hp,rfl,_,rfl,a,_,_,_,rfl,rfl,gs.of b,rfl,rfl,_,rfl,?_⟩;rw[jY];refine jO (λc=>?_) (λc=>?_)
 ·rw[c,cq]at q;refine⟨_,rfl,a,_,_,_,rfl,rfl,gs.of b,rfl,_,rfl,e,_,_,_,rfl,rfl,gs.of hp,rfl,_,_,rfl,rfl,_,rfl,?_⟩;refine jO (λc=>?_) (λc=>?_)
  ·refine⟨_,rfl,a,_,_,_,rfl,rfl,gs.of b,rfl,_,_,rfl,rfl,_,rfl,?_⟩;rw[c,cq]at q;exact q
  ·rw[bT.mpr c,bU]at q;exact⟨_,rfl,q⟩
 ·rw[bT.mpr c,bU]at q;exact q
end
theorem vn {α:Type}{l:List α}{x:α}(h:(l.take i).Nodup)(e:l[i]?=some x):(l.take (i+1)).Nodup↔¬x∈l.take i:=by
 have g:l.take (i+1)=l.take i++[x]:=by rw[aX,e];rfl
 rw[g,bN]
 constructor
 ·intro z m;exact z.2.2 x m x (by simp) rfl
 ·intro z;refine⟨h,by simp,λa d b j e=>z ?_⟩;rw[aj.mp j]at e;rw[<-e];exact d
theorem jg {α:Type}{l:List α}(i:Nat)(h:l.Nodup):(l.take i).Nodup:=h.sublist (dX _ _)
theorem mH {κ:Type} [DecidableEq κ] {kvs:List (κ×V)}{k:κ}{v:V}(h:(eV kvs k).isSome=true):(fm kvs k v).map (·.1)=kvs.map (·.1):=by
 unfold fm;rw[i5,ax h,cC];refine List.map_congr_left λa _=>?_;show(if a.1=k then (a.1,v) else a).1=a.1
 split <;> rfl
theorem iM.apart {fs:List (Str×V)}(hp:H p=some (.ins C dx fs))(h:iM H a es):iM (del H [p]) a es:=by
 have out:∀b o,H b=some o->o≠.ins C dx fs->del H [p] b=some o:=λb o e t=>by
  rw[eE (by simpa using fh e hp t)];exact e
 obtain⟨j,x,i⟩:=h;refine⟨j,out _ _ x (by intro z;cases z),Paired.J4 i λv e z=>?_⟩;obtain⟨q,d,l,r,y,s,w⟩:=z;refine⟨q,d,l,r,out _ _ y (by intro z;cases z),out _ _ s (by intro z;cases z),Paired.J4 w λv n z=>?_⟩;obtain⟨q,g,m⟩:=z;exact⟨q,g,out _ _ m (by intro z;cases z)⟩
structure jM (Hd H:Hp)(vk:List (gz×V))(es:List En):Prop where
 at_:∀x:Str,(eV vk (Sum.inr x)=none/\ib es x=[])\/∃l,eV vk (Sum.inr x)=some (.ref l)/\Hd l=none/\H l=some (.lst ((ib es x).map V.int))
 inj:∀(x y:Str) (l:Addr),eV vk (Sum.inr x)=some (.ref l)->eV vk (Sum.inr y)=some (.ref l)->x=y
 keys:∀kv∈vk,∃x:Str,kv.1=Sum.inr x
 len:vk.length<=es.length
theorem jM.same (R:jM Hd H vk es)(s:eF H H'):jM Hd H' vk es:=
 ⟨λx=>(R.at_ x).imp id (by rintro⟨l,h1,h2,h3⟩;exact⟨l,h1,h2,s _ _ h3⟩),R.inj,R.keys,R.len⟩
theorem jM.dict (R:jM Hd H vk es)(s:∀b xs,H b=some (.lst xs)->H' b=some (.lst xs)):jM Hd H' vk es:=
 ⟨λx=>(R.at_ x).imp id (by rintro⟨l,h1,h2,h3⟩;exact⟨l,h1,h2,s _ _ h3⟩),R.inj,R.keys,R.len⟩
theorem jM.more {e:En}{l:Addr}(R:jM Hd H vk es)(h:eV vk (Sum.inr e.1)=some (.ref l)):Hd l=none/\H l=some (.lst ((ib es e.1).map V.int))/\jM Hd (upd H l (.lst ((ib es e.1).map V.int++[.int e.2.1]))) vk (es++[e]):=by
 have d:Hd l=none/\H l=some (.lst ((ib es e.1).map V.int)):=by
  rcases R.at_ e.1 with ⟨z,_⟩ | ⟨i,a,b,g⟩
  ·rw[h]at z;cases z
  ·rw[h]at a;cases a;exact⟨b,g⟩
 refine⟨d.1,d.2,λx=>?_,R.inj,R.keys,by rw[aF];exact bz R.len (dg _ _)⟩;rw[nG];by_cases hx:e.1=x
 ·subst hx;refine .inr ⟨l,h,d.1,?_⟩;rw[d0,ax rfl,ay];rfl
 ·rw[av hx];rcases R.at_ x with z | ⟨i,a,b,g⟩
  ·exact .inl z
  ·refine .inr ⟨i,a,b,?_⟩;rw[ef (λz=>hx (R.inj _ _ l h (by rw[<-z];exact a)))];exact g
theorem jM.first {e:En}{l:Addr}(R:jM Hd H vk es)(h:eV vk (Sum.inr e.1)=none)(s:H l=some (.lst []))(m:Hd l=none)(j:∀x:Str,eV vk (Sum.inr x)≠some (.ref l)):jM Hd (upd H l (.lst [.int e.2.1])) (fm vk (Sum.inr e.1) (.ref l)) (es++[e]):=by
 refine⟨λx=>?_,λx y i a b=>?_,λr d=>?_,?_⟩
 ·rw[nG,gi];by_cases a:e.1=x
  ·subst a;refine .inr ⟨l,by rw[ax rfl],m,?_⟩;have p:ib es e.1=[]:=by
    rcases R.at_ e.1 with ⟨_,z⟩ | ⟨i,g,_⟩
    ·exact z
    ·rw[h]at g;cases g
   rw[d0,ax rfl,p];rfl
  ·rw[av (λz=>a (Sum.inr.inj z).symm),av a];rcases R.at_ x with z | ⟨i,g,o,q⟩
   ·exact .inl z
   ·refine .inr ⟨i,g,o,?_⟩;rw[ef (λz=>j x (by rw[<-z];exact g))];exact q
 ·rw[gi]at a b;by_cases ex:(Sum.inr x:gz)=Sum.inr e.1
  ·by_cases ey:(Sum.inr y:gz)=Sum.inr e.1
   ·exact(Sum.inr.inj ex).trans (Sum.inr.inj ey).symm
   ·rw[ax ex]at a;rw[av ey]at b;cases a;exact absurd b (j y)
  ·rw[av ex]at a;by_cases ey:(Sum.inr y:gz)=Sum.inr e.1
   ·rw[ax ey]at b;cases b;exact absurd a (j x)
   ·rw[av ey]at b;exact R.inj x y i a b
 ·rw[ii _ h]at d;rcases aD.mp d with z | z
  ·exact R.keys r z
  ·rw[aj.mp z];exact⟨_,rfl⟩
 ·rw[ii _ h,aF,aF];exact Nat.add_le_add_right R.len _
inductive Jc (C:Addr)(Hd:Hp)(es:List En)(p a st dx dn dv:Addr)(i:Nat)(σ:L2.St)(H2:Hp):Prop
 |mk (nks vk o3 o4 o5:_)(_:σ=[some (.ref p),some (.ref a),some (.ref st),o3,o4,o5])(_:H2 p=some (.ins C dx (kC dn dv)))(_:H2 dn=some (.dN ((none,.ref st)::nks)))(_:Paired (mJ Hd) nks (es.take i))(_:H2 dv=some (.dK vk))(_:jM Hd H2 vk (es.take i))
structure J1 (C:Addr)(Hd:Hp)(es:List En)(p a st dx dn dv:Addr)(i:Nat)(σ:L2.St)(H2:Hp):Prop where
 ex:Jc C Hd es p a st dx dn dv i σ H2
 sm:eF Hd H2
 nd:((es.map eU).take i).Nodup
inductive Jb (C:Addr)(Hd:Hp)(es:List En)(p a st dx dn dv:Addr)(nks:List (fV×V))(ks:List gz)(j:Nat)(σ:L2.St)(H2:Hp):Prop
 |mk (vk o3 o4 o5:_)(_:σ=[some (.ref p),some (.ref a),some (.ref st),o3,o4,o5])(_:H2 p=some (.ins C dx (kC dn dv)))(_:H2 dn=some (.dN ((none,.ref st)::nks)))(_:H2 dv=some (.dK vk))(_:vk.map (·.1)=ks)(_:uz H2 vk es λx=>(Sum.inr x:gz)∈ks.take j)
structure J0 (C:Addr)(Hd:Hp)(es:List En)(p a st dx dn dv:Addr)(nks:List (fV×V))(ks:List gz)(j:Nat)(σ:L2.St)(H2:Hp):Prop where
 ex:Jb C Hd es p a st dx dn dv nks ks j σ H2
 sm:eF Hd H2
section
variable {base:Heap}{f:Addr}
theorem y0:eM ["self","shelf","start","part","version","needs"] ["self","shelf","start"] (eB zg):=i4
end
theorem Gi:(["version","part","need"]:List Str).Nodup:=by decide +kernel
section
variable {base:Heap}{f:Addr}
theorem FO:eM ["self","need","part"] ["self","need"] (eB oW):=i4
inductive J3 (P:Program)(w:World)(K:W.Frag)(mg:Str->Option Value)(base:Heap)(CX:uC)(k:Nat)(x:Str)(ps:List Str)(sp:Sp):Prop
 |mk (g gd:_)(_:fi P w K mg base CX k g gd ps sp)(_:iC K gd ps [])(_:W.keepIn K (.ref g)=true)(_:mg x=some (.ref g))
structure Gd (P:Program)(w:World)(K:W.Frag)(mg:Str->Option Value)(base:Heap)(CX:uC)(k:Nat)(x:Str)(ps:List Str)(sp:Sp):Prop where
 ex:J3 P w K mg base CX k x ps sp
theorem i8 {base:Heap}{k:Nat}{f:Addr}(h:fi P w K mg base fB k f fd ps sp)(b:iC K fd ps [])(q:W.keepIn K (.ref f)=true)(m:mg x=some (.ref f)):Gd P w K mg base fB k x ps sp:=⟨f,fd,h,b,q,m⟩
theorem fN {X:Cx}{k:Nat}{p pos:Pos}{e:Expr}{es:List Expr}{t:TA}(G:Gd X.prog X.w X.K X.mg X.base fB k x ps sp)(d:gK k X.A)(a:PA X (e::es) t)(hg:Gl X x:=by rfl)(hdb:(x == ("__debug__":Str))=false:=by decide)(he:starEach (e::es) X.env=(false,eval e X.env)::starEach es X.env:=by rfl)(hpl:(backTo pos (starEach es X.env)).any (·.1)=false:=by rfl):PE X (.Call (.Name x p) (e::es) [] pos) (yS sp [] E0 t):=by
 obtain⟨_,_,F,b,k,m⟩:=G.ex;exact BU F d hg m k b .nil fE a hdb he hpl
theorem vf (F:iL K "meeting" "Board.meeting" oW f fd)(T:TB K mg C)(G:Gd P w K mg base fB 1 "clashes" ["need","pick"] lE):fi P w K mg base fB 2 f fd ["self","need"] (lD C):=by
 refine F.ok FO λad A Z s H vs Q E hr h=>?_;obtain⟨p,st,es,v,n,rfl,⟨dx,dn,dv,ag,vk,hp,hn,hk,X,hV⟩,⟨N,rfl,L⟩,hl,q⟩:=h;have hu:=gB hr;refine⟨_,(ee (eJ (i:=2) FO.nd (eG eN (pv 1) er)) (eo (eQ (iQ (N':=["version","part","need"]) (n:=1) (js:=[2,1]) rfl (iG.two (c:=s.heap.objs.size+2) (c':=s.heap.objs.size+1) (y:="part") (y':="need")) (ip (by decide)) (fD (kg hu (jG (pv 0) rfl) (pv 2) (gM eg) ⟨rfl,rfl,rfl,rfl⟩)) (λC s2 b fp=>eL (i:=0) Gi) (λC s2 b fp=>oh (gJ (gH (fN G hr (dZ (pv 2) (dZ (gL (dZ (pv 1) (dZ (pv 0) eg))) eg)))))) (λC s2 b fp=>pv 0))))),?_⟩;refine⟨_,rfl,N,_,_,_,rfl,rfl,gs.of L,rfl,?_⟩;refine⟨_,rfl,p,C,dx,_,_,rfl,hp,T.cl,T.nV,jL _ _,dv,rfl,.inl ⟨_,X⟩,_,rfl,tH,λo R=>?_⟩;have g:=eA R (.lst []);have d:∀(l:Addr) (a:List Int),upd H o (.lst []) l=some (.lst (a.map V.int))->a.Perm (ib es n.1)->a.Pairwise (· ≥ ·)->p7 (EU K l) (jq 0)
   (Fs (tB (yS lE [] E0 (qu (nQ 2) (qu (Fm (qu (nQ 1) (qu (nQ 0) xk))) xk))))) (nQ 0) (frees 1 [2,1] [some (.ref p),some (.ref N),some (.str n.1)]) (upd H o (.lst [])) Q:=by
  intro l a Y r S;have lm:a.length<64:=by
   rw[r.length_eq];exact bI (j5 _ _) hl
  refine ik (xs:=a.map V.int) (λD i M b=>M=((a.take i).filter (lI n)).map V.int/\b D=some (.lst M)/\eF (upd H o (.lst [])) b/\upd H o (.lst []) D=none) (λD hD=>⟨by simp,d0,eA hD _,hD⟩)
   (λD i M b U ⟨j,e,m,_⟩=>⟨eX.of (m _ _ Y),e,?_⟩) (λD i x M b U ⟨j,e,m,J⟩=>?_) (λD M b ⟨j,e,m,J⟩=>?_)
  ·rw[j,ab];have:=bE (lI n) (a.take i);rw[aT]at this;exact eO (by lia)
  ·rw[ae]at U;obtain⟨z,hz,rfl⟩:=az.mp U;have ht:a.take (i+1)=a.take i++[z]:=by rw[aX,hz];rfl
   have O:(a.take (i+1)).filter (lI n)=(a.take i).filter (lI n)++(if lI n z=true then [z] else []):=by
    rw[ht,ca,aJ];rfl
   unfold jq;refine⟨_,rfl,_,rfl,_,rfl,tG,λt B=>?_⟩;have I:=eA B (.tup [.str n.1,.int z]);refine⟨.ref N,.ref t,n,(n.1,z),rfl,⟨N,rfl,I _ _ (m _ _ (g _ _ L))⟩,⟨t,rfl,d0⟩,_,rfl,?_⟩;have aa:nw n (n.1,z)=!(lI n z):=by unfold nw;simp
   rw[aa];dsimp only;rw[Bool.not_not];have nD:D≠t:=et e B;by_cases hb:lI n z=true
   ·rw[ax hb]at O;rw[ax hb];refine⟨_,rfl,I _ _ e,?_,d0,eF.upd (m.trans I) J,J⟩;rw[O,j,ay];rfl
   ·rw[av hb,bW]at O;rw[av hb];exact⟨by rw[O];exact j,I _ _ e,m.trans I,J⟩
  ·rw[ab,aI]at j;subst j;exact q D _ b (g.trans m) (g.free J) e (zy r) (S.filter _)
 rcases hV n.1 with ⟨z1,z2⟩ | ⟨l,a,Y,r,S,h4⟩
 ·refine⟨none,.inl ⟨_,Sum.inr n.1,io g X,rfl,z1.symm⟩,o,rfl,⟨_,eX.of d0⟩,d o [] d0 (by rw[z2]) .nil⟩
 ·refine⟨some (.ref l),.inl ⟨_,Sum.inr n.1,io g X,rfl,Y.symm⟩,l,rfl,⟨_,eX.of (g _ _ r)⟩,d l a (g _ _ r) S (h4 trivial)⟩
end
inductive vV (vs:List V)(H:Hp)(Q:VK)(E:XK):Prop
 |mk (c:el)(m:Nat)(_:vs=[.int (m:Int)])(_:m<2^c.n)(_:Q (.int ((c.listed m).length:Nat)) H)
inductive j4 (CC:Addr)(vs:List V)(H:Hp)(Q:VK)(E:XK):Prop
 |mk (G:Hp)(p dx by_:Addr)(fs:List (Str×V))(c:el)(m:Nat)(_:vs=[.ref p,.int (m:Int)])(_:eD G H)(_:H p=some (.ins CC dx fs))(_:fs.lookup ("by_bit":Str)=some (V.ref by_))(_:nX G by_ c)(_:c.n<64)(_:m<2^c.n)(_:∀l xs H',eF H H'->H l=none->H' l=some (.lst xs)->Paired (fg G) xs (c.listed m)->(∀b,b≠l->H' b=H b)->Q (.ref l) H')
theorem Gc:((m:Int) != 0)=true↔m≠0:=by
 rw[bne_iff_ne];omega
theorem pH:((m:Int) != 0)=!decide (m=0):=by
 by_cases h:m=0
 ·subst h;rfl
 ·rw[au h,Gc.mpr h];rfl
theorem nK (c:el):c.listed 0=[]:=(el.KG (bL _)).mpr rfl
theorem vz (c:el)(m:Nat):(c.listed m).length<=c.n:=bE _ _
section
variable {base:Heap}{f:Addr}
theorem wn:eM ["mask","count"] ["mask"] (eB uV):=i4
theorem Ad (F:iL K "count_picks" "count_picks" uV f fd):fi P w K mg base fB 1 f fd ["mask"] vV:=by
 refine F.ok wn λg A b s H v Q E o h=>?_;obtain⟨c,m,rfl,l,q⟩:=h;refine⟨_,(ee (eJ (i:=1) wn.nd er) (ee (jE PassesOwn.never (iz (pv 0) (λ_=>rfl)) (ee (kH (i:=0) wn.nd (fe zP (pv 0) er) Et) (eo (kH (i:=1) wn.nd er Av)))) (eo (eQ (pv 1))))),?_⟩;refine⟨λk σ d=>∃(n t:Nat),σ=[some (.int (n:Int)),some (.int (t:Int))]/\d=H/\k=n/\n<2^c.n/\t+(c.listed n).length=(c.listed m).length,⟨m,m,0,rfl,rfl,rfl,l,by omega⟩,?_⟩;rintro k σ d ⟨n,t,rfl,rfl,rfl,hn,a⟩;refine⟨_,rfl,_,rfl,?_⟩;rw[pH];by_cases h0:k=0
 ·subst h0;rw[nK]at a;refine ff ⟨_,rfl,?_⟩;rw[show(c.listed m).length=t by simpa using a.symm]at q;exact q
 ·rw[au h0];refine gW ⟨λσ' y=>∃m',m'<k/\_,λ_ _ h=>h,?_⟩;obtain⟨i,r,rfl⟩:=vy k h0;obtain⟨x,p,_,j⟩:=l7 hn;have e:((2^i*(2*r+1):Nat):Int)-1=((2^i*(2*r+1)-1:Nat):Int):=by omega
  refine⟨_,rfl,_,rfl,_,_,rfl,rfl,_,_,rfl,rfl,?_⟩;rw[e,nz,sk];refine⟨_,rfl,_,_,rfl,rfl,2^(i+1)*r,?_,2^(i+1)*r,t+1,rfl,rfl,rfl,Am hn,?_⟩
  ·have:=om i r;have:=bL i;omega
  ·rw[j,aE]at a;omega
theorem BF:eM ["self","mask","picks","bit"] ["self","mask"] (eB rE):=i4
theorem xL (F:iL K "listed" "Chart.listed" rE f fd)(T:TC K mg CC):fi P w K mg base fB 1 f fd ["self","mask"] (j4 CC):=by
 refine F.ok BF λag A N s H vs Q E hr h=>?_;obtain⟨G,p,dx,O,fs,c,m,rfl,gh,hp,hf,⟨C,L,hB⟩,ah,hm,q⟩:=h;have hk:=gh.rd L;have hu:=gB hr;refine⟨_,(ee (eJ (i:=2) BF.nd (gM eg)) (ee (jE PassesOwn.never (iz (pv 1) (λ_=>rfl)) (ee (eJ (i:=3) BF.nd (fe ic (pv 1) (jb j6 (pv 1)))) (ee (gm (ju PySem.F.plainAttrs_list PySem.F.slot_list_append PySem.F.type_list_append gR (pv 2) (dZ (gN hu (eK T.cl T.nBy (pv 0)) (pv 3)) eg))) (eo (kH (i:=1) BF.nd (pv 3) Es))))) (eo (eQ (pv 2))))),?_⟩;refine⟨tH,λl R=>?_⟩;have aa:p≠l:=et hp R;refine⟨λk σ t=>∃(n:Nat) (g:List V) (j:List Pk) (Y:Option V),σ=[some (.ref p),some (.int (n:Int)),some (.ref l),Y]/\t l=some (.lst g)/\(∀b,b≠l->t b=H b)/\k=n/\n<2^c.n/\Paired (fg G) g j/\j++c.listed n=c.listed m,⟨m,m,[],[],none,rfl,d0,λb y=>ef y,rfl,hm,.nil,rfl⟩,?_⟩;rintro k σ t ⟨n,g,j,Y,rfl,d,D,rfl,hn,S,a⟩;have I:eF H t:=λb o e=>by rw[D b (λz=>by rw[z,R]at e;cases e)];exact e
 refine⟨_,rfl,_,rfl,?_⟩;rw[pH];by_cases h0:k=0
 ·subst h0;rw[nK,bW]at a;refine ff ⟨_,rfl,?_⟩;exact q l g t I R d (a▸S) D
 ·rw[au h0];refine gW ⟨λσ' H'=>∃m',m'<k/\_,λ_ _ h=>h,?_⟩;obtain⟨i,r,rfl⟩:=vy k h0;obtain⟨x,U,B,X⟩:=l7 hn;obtain⟨v,Z,M⟩:=hB x (ai U);have J:(c.bit x:Int)=((2^i:Nat):Int):=by unfold el.bit;rw[B]
  rw[J]at Z;have lx:=Paired.length S;have ad:j.length<64:=by
   have:=congrArg List.length a;rw[aF]at this;have:=vz c m;omega
  refine⟨_,rfl,_,rfl,_,rfl,_,_,rfl,rfl,?_⟩;dsimp only;rw[Co];refine⟨_,rfl,.inl ⟨rfl,_,eX.of d⟩,_,rfl,p,dx,fs,_,rfl,I _ _ hp,hf,_,rfl,O,v,rfl,.inl ⟨C,Sum.inl ((2^i:Nat):Int),io I hk,rfl,Z.symm⟩,l,g,v,rfl,rfl,d,eO (by omega),?_⟩;have e:((2^i*(2*r+1):Nat):Int)-((2^i:Nat):Int)=((2^(i+1)*r:Nat):Int):=by
   have:=om i r;have:2^i<=2^i*(2*r+1):=Nat.le_mul_of_pos_right _ (by omega);omega
  refine⟨_,rfl,_,rfl,_,_,rfl,rfl,?_⟩;dsimp only;rw[e];refine⟨2^(i+1)*r,?_,2^(i+1)*r,g++[v],j++[x],_,rfl,d0,λb y=>by rw[ef y];exact D b y,rfl,Am hn,Paired.snoc S M,?_⟩
  ·have:=om i r;have:=bL i;omega
  ·rw[<-a,X,bH];rfl
end
abbrev yH (b bits by_ ofp:Addr):List (Str×V):=[("board",.ref b),("bits",.ref bits),("by_bit",.ref by_),("of_part",.ref ofp)]
inductive A9 (CB CC:Addr)(vs:List V)(H:Hp)(Q:VK)(E:XK):Prop
 |mk (p dx b bits by_ ofp st:Addr)(es:List En)(sn:List Nd)(_:vs=[.ref p])(_:H p=some (.ins CC dx (yH b bits by_ ofp)))(_:ge CB H b st es)(_:(es.map eU).Nodup)(_:es.length<64)(_:H bits=some (.dN [(none,.int 0)]))(_:H by_=some (.dK []))(_:H ofp=some (.dK []))(_:by_≠ofp)(_:∀(c:el) H',c.es=es->c.sn=sn->eD (del H [bits,by_,ofp]) H'->im H' bits c c.Ks->nX H' by_ c->lP H' ofp c->Q .non H')
def el.upM (c:el)(i:Nat)(x:Str):Nat:=c.maskOf λk=>decide (k.1=x)&&decide (c.ix k<i)
theorem el.LB (c:el)(x:Str):c.upM 0 x=0:=el.KF (c.KK _) λk h=>by
 have:=(el.KJ.mp h).2;simp at this
theorem el.LC (c:el)(x:Str):c.upM c.n x=c.Lf x:=el.ext (c.KK _) (c.KK _) λk=>by
 rw[el.Lj];unfold el.upM;rw[el.KJ,aH,aB,aB];exact⟨λh=>⟨h.1,h.2.1⟩,λh=>⟨h.1,h.2,c.Kt h.1⟩⟩
theorem el.LD {c:el}{k:Pk}(l:c.ks[i]?=some k)(x:Str):c.upM (i+1) x=if k.1=x then c.upM i x ||| c.bit k else c.upM i x:=by
 have b:=ai l;have o:=c.Kw l;have key:∀j,j∈c.ks->(c.ix j<i+1↔c.ix j<i\/j=k):=λj m=>by
  constructor
  ·intro h;by_cases e:c.ix j=i
   ·exact .inr (c.Kv m b (e.trans o.symm))
   ·exact .inl (by lia)
  ·rintro(h | rfl)
   ·lia
   ·lia
 by_cases e:k.1=x
 ·rw[ax e];refine el.ext (c.KK _) (jo (c.KK _) (c.KD b)) λj=>?_;rw[el.Ky,el.KB b];unfold el.upM;simp only[el.KJ,aH,aB]
  constructor
  ·rintro⟨d,a,g⟩;rcases (key j d).mp g with z | z
   ·exact .inl ⟨d,a,z⟩
   ·exact .inr z
  ·rintro(⟨d,a,g⟩ | rfl)
   ·exact⟨d,a,by lia⟩
   ·exact⟨b,e,by lia⟩
 ·rw[av e];refine el.ext (c.KK _) (c.KK _) λj=>?_;unfold el.upM;simp only[el.KJ,aH,aB]
  constructor
  ·rintro⟨d,a,g⟩;rcases (key j d).mp g with z | z
   ·exact⟨d,a,z⟩
   ·rw[z]at a;exact absurd a e
  ·rintro⟨d,a,g⟩;exact⟨d,a,by lia⟩
theorem BO (h:((2^i:Nat):Int)=((2^j:Nat):Int)):i=j:=by
 rcases Nat.lt_trichotomy i j with z | z | z
 ·have:=Nat.pow_lt_pow_right (a:=2) (by decide) z;lia
 ·exact z
 ·have:=Nat.pow_lt_pow_right (a:=2) (by decide) z;lia
theorem nd1:(["pick"]:List Str).Nodup:=by decide +kernel
section
variable {base:Heap}{f:Addr}
theorem BH:eM ["self","bit","pick"] ["self"] (eB zi):=i4
inductive Jf (c:el)(H1:Hp)(p bits by_ ofp:Addr)(i:Nat)(σ:L2.St)(H2:Hp):Prop
 |mk (kb ky ko o2:_)(_:σ=[some (.ref p),some (.int ((2^i:Nat):Int)),o2])(_:H2 bits=some (.dN kb))(_:H2 by_=some (.dK ky))(_:H2 ofp=some (.dK ko))(_:kb.length<=i+1)(_:ky.length<=i)(_:ko.length<=i)(_:eV kb none=some (.int 0))(_:∀(j:Nat) (k:Pk),j<i->c.ks[j]?=some k->eV kb (some (jf k))=some (.int (c.bit k))/\∃v,eV ky (Sum.inl (c.bit k:Int))=some v/\fg H1 v k)(_:∀x:Str,(eV ko (Sum.inr x)).getD (.int 0)=.int (c.upM i x)/\((∃(j:Nat) (k:Pk),j<i/\c.ks[j]?=some k/\k.1=x)->eV ko (Sum.inr x)=some (.int (c.upM i x))))
structure J2 (c:el)(H1:Hp)(p bits by_ ofp:Addr)(i:Nat)(σ:L2.St)(H2:Hp):Prop where
 ex:Jf c H1 p bits by_ ofp i σ H2
 sm:eF (del H1 [bits,by_,ofp]) H2
theorem Cg (F:iL K "give_bits" "Chart.give_bits" zi f fd)(T:TC K mg CC)(bf:TB K mg CB):fi P w K mg base fB 1 f fd ["self"] (A9 CB CC):=by
 refine F.ok BH λds A da s H vs Q E hr h=>?_;obtain⟨p,dx,b,bits,d,l,st,es,sn,rfl,hp,hB,cd,c5,a0,a3,a5,a8,q⟩:=h;have hu:=gB hr;refine⟨_,(ee (eJ (i:=1) BH.nd er) (eo (fG (fD (eW sJ rfl T.sorted boot_sorted (dZ (iQ (N':=["pick"]) (n:=1) (js:=[]) rfl (iG.closed) (ip (by decide)) (rV (eK bf.cl bf.nN (eK T.cl T.nBoard (pv 0)))) (λC s2 O fp=>eL (i:=0) nd1) (λC s2 O fp=>oh (hJ (my (pv 0)))) (λC s2 O fp=>pv 0)) eg))) (eL (i:=2) BH.nd) (ee (kZ hu (eK T.cl T.nBits (pv 0)) (pv 2) (pv 1) rfl) (ee (iD hu (eK T.cl T.nBy (pv 0)) (pv 1) (pv 2) rfl) (ee (iD hu (eK T.cl T.nOf (pv 0)) (eG eN (pv 2) er) (fe qD (kg hu (eK T.cl T.nOf (pv 0)) (eG eN (pv 2) er) er ⟨rfl,rfl,rfl,rfl⟩) (pv 1)) rfl) (eo (kH (i:=1) BH.nd (pv 1) Av)))))))),?_⟩;obtain⟨bx,dn,dv,bd,vk,b1,b2,b3,b4,b5⟩:=id hB.ex;have ln:=Paired.length b3;refine⟨_,rfl,p,dx,_,_,rfl,hp,(by kernel_rfl),b,bx,_,_,rfl,b1,gc _ _,dn,_,rfl,b2,λo H1 sf bl a4=>?_⟩;refine wR (n:=bd.length+1) (λD i ys H3=>H3=upd H1 D (.lst ys)/\H1 D=none/\Paired (uA H1) ys ((es.take (i-1)).map eU)) (λD hD=>⟨rfl,hD,.nil⟩) (λD i ys H3 hi ⟨e1,e2,e3⟩=>?_) (λD i x ys H3 H4 hi hy ⟨e1,e2,e3⟩=>?_) (λD ys H3 ⟨e1,e2,e3⟩=>?_)
 ·subst e1;have Cl:dn≠D:=et a4 e2;refine⟨λcx=>⟨cx,by rw[ef Cl];exact a4⟩,λc7=>⟨by rw[c7];exact ao _,by rw[ef Cl];exact a4⟩,d0,?_⟩;have:=Paired.length e3;rw[ab,aT]at this;exact eO (by lia)
 ·obtain⟨rfl,kv,G,kx⟩:=hy;subst e1;unfold jq
  match i,G,hi,e3 with
  |0,G,hi,e3=>
   have cv:kv=(none,.ref st):=by simpa using G.symm
   subst cv;cases (show x=.non from kx);exact⟨_,rfl,_,rfl,ff ⟨rfl,e2,e3⟩⟩
  |i+1,G,hi,e3=>
   have m:bd[i]?=some kv:=by simpa using G
   obtain⟨e,c0,ch,_⟩:=Paired.Kq b3 m;rw[ch]at kx;obtain⟨bq,rfl,an⟩:=kx;have nb:bq≠D:=λz=>by rw[z,d0]at an;cases an
   rw[ef nb]at an;refine⟨_,rfl,_,rfl,gW ⟨_,rfl,d0,by rw[i6],e2,?_⟩⟩;have ht:es.take (i+1+1-1)=es.take i++[e]:=by rw[dO,aX,c0];rfl
   rw[ht,ay];exact Paired.snoc e3 ⟨bq,rfl,an⟩
 ·subst e1;rw[dO,ln,aI]at e3;have sD:=eA e2 (.lst ys);have dc:Paired (uA (upd H1 D (.lst ys))) ys (es.map eU):=Paired.J4 e3 λ_ _ ⟨z,z1,z2⟩=>⟨z,z1,sD _ _ z2⟩;refine⟨D,ys,es.map eU,rfl,eX.of d0,dc,cd,by rw[ab];exact c5,λL r dy hL R ba c6=>?_⟩;have sL:=eA hL (.lst r);obtain⟨c,c1,c2,c3⟩:=EG sn cd ba c6;have cn:c.n=r.length:=by unfold el.n;rw[c3];exact(Paired.length R).symm
  have ap:eD H (upd (upd H1 D (.lst ys)) L (.lst r)):=sf.trans (sD.trans sL).toF;generalize hH:upd (upd H1 D (.lst ys)) L (.lst r)=H4 at *;have b6:H4 L=some (.lst r):=by rw[<-hH];exact d0
  have cs:Paired (fg H4) r c.ks:=by rw[c3];exact Paired.J4 R λ_ _ ⟨z,z1,z2⟩=>⟨z,z1,sL _ _ z2⟩
  refine⟨L,rfl,⟨_,eX.of b6⟩,?_⟩;have c9:bits≠dn:=λz=>by
   rw[z]at a0;rcases b2 with y | ⟨o',y⟩ <;> (rw[a0]at y;cases y)
  have c8:d≠dn:=λz=>by
   rw[z]at a3;rcases b2 with y | ⟨o',y⟩ <;> (rw[a3]at y;cases y)
  have cz:l≠dn:=λz=>by
   rw[z]at a5;rcases b2 with y | ⟨o',y⟩ <;> (rw[a5]at y;cases y)
  have a1:∀{a u},a≠dn->H a=some u->H4 a=some u:=λ{a u} na e=>by
   have e1:H1 a=some u:=by rw[bl a na];exact e
   exact sL _ _ (sD _ _ e1)
  have ad:=a1 c9 a0;have a7:=a1 c8 a3;have a2:=a1 cz a5;have b8:d≠bits:=fh a7 ad (λz=>nomatch z);have bv:l≠bits:=fh a2 ad (λz=>nomatch z);have cp:H4 p=some (.ins CC dx (yH b bits d l)):=ap.ins hp
  have out:∀{O:Hp},eF (del H4 [bits,d,l]) O->∀{a u},H4 a=some u->(∀kvs,u≠.dN kvs)->(∀kvs,u≠.dK kvs)->O a=some u:=λ{O} sm {a u} e n1 n2=>sm _ _ (by
   rw[eE (by
    simp only[am,aR,or_false,not_or]
    exact⟨λz=>n1 _ (by rw[z,ad]at e;exact(Option.some.inj e).symm),λz=>n2 _ (by rw[z,a7]at e;exact(Option.some.inj e).symm),λz=>n2 _ (by rw[z,a2]at e;exact(Option.some.inj e).symm)⟩)]
   exact e)
  refine fQ (K:=K) (a:=L) (xs:=r) (J2 c H4 p bits d l) ⟨⟨_,_,_,none,rfl,ad,a7,a2,ao _,ao _,ao _,rfl,λj k B=>absurd B (bY _),λx=>⟨by rw[el.LB];rfl,λ⟨j,_,B,_⟩=>absurd B (bY _)⟩⟩,fq _ _⟩
   (λi σ O _ J=>eX.of (out J.sm b6 (λ_ z=>nomatch z) λ_ z=>nomatch z)) ?_ ?_
  ·rintro i x σ O hi ⟨⟨kb,ky,ko,o2,rfl,X,aa,ah,l1,l2,l3,v0,vj,vx⟩,sm⟩;obtain⟨k,ag,G⟩:=Paired.Kq cs hi;obtain⟨kq,rfl,hq⟩:=id G;have dd:i<r.length:=(af.mp hi).1;have c4:i<64:=by
    rw[Paired.length R,ba.length_eq,ab]at dd
    lia
   have a6:c.bit k=2^i:=by unfold el.bit;rw[c.Kw ag]
   have al:=out sm hq (λ_ z=>nomatch z) λ_ z=>nomatch z;have N:=out sm cp (λ_ z=>nomatch z) λ_ z=>nomatch z;have a9:p≠bits:=fh N X (λz=>nomatch z);have ct:p≠d:=fh N aa (λz=>nomatch z);have dp:p≠l:=fh N ah (λz=>nomatch z);have dl:kq≠bits:=fh al X (λz=>nomatch z);have cy:kq≠d:=fh al aa (λz=>nomatch z);refine⟨_,rfl,_,rfl,p,dx,_,_,rfl,N,(by kernel_rfl),_,rfl,bits,_,rfl,lF.of (k:=some (jf k)) X ⟨kq,rfl,al⟩ (eO (by lia)),?_⟩;refine⟨_,rfl,_,rfl,p,dx,_,_,rfl,(by rw[ef a9];exact N),(by kernel_rfl),_,rfl,d,_,rfl,kP.k (k:=Sum.inl ((2^i:Nat):Int)) (by rw[ef b8];exact aa) (eO (by lia)),?_⟩;generalize M:upd (upd O bits (.dN (fm kb (some (jf k)) (.int ((2^i:Nat):Int))))) d (.dK (fm ky (Sum.inl ((2^i:Nat):Int)) (.ref kq)))=H3;have as:H3 l=some (.dK ko):=by rw[<-M,ef (Ne.symm a8),ef bv];exact ah
   have b7:H3 p=some (.ins CC dx (yH b bits d l)):=by rw[<-M,ef ct,ef a9];exact N
   have bm:H3 kq=some (.tup [.str k.1,.int k.2]):=by rw[<-M,ef cy,ef dl];exact al
   refine⟨_,rfl,p,dx,_,_,rfl,b7,(by kernel_rfl),l,rfl,.inl ⟨_,.inl as⟩,_,rfl,kq,_,_,_,rfl,rfl,gs.of bm,rfl,_,iu.k (k:=Sum.inr k.1) as,_,rfl,_,_,(vx k.1).1,rfl,?_⟩;dsimp only;rw[wT];refine⟨_,rfl,p,dx,_,_,rfl,b7,(by kernel_rfl),_,rfl,kq,_,_,_,rfl,rfl,gs.of bm,rfl,l,_,rfl,kP.k (k:=Sum.inr k.1) as (eO (by lia)),?_⟩;refine⟨_,rfl,_,rfl,_,_,rfl,rfl,?_⟩;have e2:((2^i:Nat):Int)+((2^i:Nat):Int)=((2^(i+1):Nat):Int):=by rw[cN];lia
   dsimp only;rw[e2];refine⟨⟨fm kb (some (jf k)) (.int ((2^i:Nat):Int)),fm ky (Sum.inl ((2^i:Nat):Int)) (.ref kq),fm ko (Sum.inr k.1) (.int ((c.upM i k.1 ||| 2^i:Nat):Int)),_,rfl,?_,?_,d0,?_,?_,?_,?_,λj k' B m=>?_,λx=>?_⟩,λb' u t=>?_⟩
   ·rw[ef (Ne.symm bv),<-M,ef (Ne.symm b8),d0]
   ·rw[ef a8,<-M,d0]
   ·have:=fZ kb (some (jf k)) (V.int ((2^i:Nat):Int));lia
   ·have:=fZ ky (Sum.inl ((2^i:Nat):Int)) (V.ref kq);lia
   ·have:=fZ ko (Sum.inr k.1) (V.int ((c.upM i k.1 ||| 2^i:Nat):Int));lia
   ·rw[gi,av (λz=>nomatch z)];exact v0
   ·rw[gi,gi];by_cases ej:j=i
    ·subst ej;rw[ag]at m;cases m;rw[ax rfl,a6,ax rfl];exact⟨rfl,_,rfl,G⟩
    ·have S:c.bit k'≠2^i:=λz=>ej (by
      unfold el.bit at z;rw[c.Kw m]at z
      exact BO (by rw[z]))
     have co:¬(some (jf k')=some (jf k)):=λz=>by
      have:=pN (Option.some.inj z);rw[this]at S;exact S a6
     obtain⟨g1,g2⟩:=vj j k' (by lia) m;rw[av co,av (λz=>S (by have:=Sum.inl.inj z;lia))];exact⟨g1,g2⟩
   ·rw[gi,el.LD ag x];by_cases ex:k.1=x
    ·subst ex;rw[ax rfl,ax rfl,a6];exact⟨rfl,λ_=>rfl⟩
    ·rw[av (λz=>ex (Sum.inr.inj z).symm),av ex];refine⟨(vx x).1,?_⟩;rintro⟨j,k',B,m,ek⟩;refine(vx x).2 ⟨j,k',?_,m,ek⟩;by_cases ej:j=i
     ·subst ej;rw[ag]at m;cases m;exact absurd ek ex
     ·lia
   ·have Z:b'∉[bits,d,l]:=λz=>by rw[fM z]at t;cases t
    have I:=Z;simp only[am,aR,or_false,not_or]at I;rw[ef I.2.2,<-M,ef I.2.1,ef I.1];exact sm _ _ t
  ·rintro σ O ⟨⟨kb,ky,ko,o2,rfl,X,aa,ah,l1,l2,l3,v0,vj,vx⟩,sm⟩;have b9:eD (del H [bits,d,l]) O:=λb' u t=>by
    have Z:b'∉[bits,d,l]:=λz=>by rw[fM z]at t;cases t
    rw[eE Z]at t;rcases ap b' u t with z | ⟨g,o',z⟩
    ·exact .inl (sm _ _ (by rw[eE Z];exact z))
    ·exact .inr ⟨g,o',sm _ _ (by rw[eE Z];exact z)⟩
   have Y:∀k∈c.ks,∃j:Nat,j<r.length/\c.ks[j]?=some k:=λk G=>by
    obtain⟨j,B⟩:=aC.mp G;have:=(af.mp B).1;exact⟨j,by rw[<-cn];exact this,B⟩
   refine q c O c1 c2 b9 ⟨kb,.inl X,λw hw=>?_⟩ ⟨ky,.inl aa,λk G=>?_⟩ ⟨ko,.inl ah,λx=>?_⟩
   ·cases w with
    |none=>exact v0
    |some k=>
     obtain⟨j,B,U⟩:=Y k (hw k rfl);exact(vj j k B U).1
   ·obtain⟨j,B,U⟩:=Y k G;obtain⟨_,v,g1,g2⟩:=vj j k B U;obtain⟨z,z1,z2⟩:=g2;exact⟨v,g1,z,z1,out sm z2 (λ_ z=>nomatch z) λ_ z=>nomatch z⟩
   ·rw[<-el.LC,cn];exact⟨(vx x).1,λ⟨k,G,ek⟩=>let ⟨j,B,U⟩:=Y k G;(vx x).2 ⟨j,k,B,U,ek⟩⟩
end
theorem el.en (c:el):(c.es.map eU).Nodup:=c.pm.nodup_iff.mp c.nd
theorem el.n_eq (c:el):c.n=c.es.length:=by unfold el.n;rw[c.pm.length_eq,ab]
theorem jr {st:Addr}{c:el}(B:ge C H p st c.es)(N:gv H st c.sn):∃dx dn dv,H p=some (.ins C dx (kC dn dv))/\∀w v,c.Who w->gU H v w->∃a,hU H dn v (some (.ref a))/\gv H a (c.needs w):=by
 obtain⟨dx,dn,dv,q,i,j⟩:=B.start;refine⟨dx,dn,dv,q,λw v g d=>?_⟩;cases w with
 |none=>cases (show v=.non from d);exact⟨st,i,N⟩
 |some k=>
  rcases j v k d with ⟨z,_⟩ | ⟨_,e,o,l,a,b,h,m,r⟩
  ·exact absurd ((c.mem k).mp (g k rfl)) z
  ·refine⟨a,h,b,m,?_⟩;show Paired (fJ H) b (fX c.es k);rw[<-l,iA c.en o];exact r
theorem l4 (n:Nd):∀l:List Nd,eR (l++[n])=if n.1∈eR l then eR l else eR l++[n.1]
 |[]=>by simp[eR]
 |m::l=>by
  rw[dh,eR,eR,l4 n l];by_cases h1:n.1∈eR l
  ·rw[ax h1];have:n.1∈m.1::(eR l).filter λx=>!decide (x=m.1):=by
    by_cases e:n.1=m.1
    ·rw[e];simp
    ·exact bc _ (aZ.mpr ⟨h1,by simpa using e⟩)
   rw[ax this]
  ·rw[av h1,ca];by_cases e:n.1=m.1
   ·rw[ax (by rw[e];simp)];simp[e]
   ·rw[av]
    ·simp[e]
    ·rw[am,not_or];exact⟨e,λz=>h1 (aZ.mp z).1⟩
theorem lj (l:List Nd)(n:Nd)(x:Str)(v:Int):jH (l++[n]) x v=(jH l x v&&(!decide (n.1=x)||lI n v)):=by
 unfold jH;rw[List.all_append];simp
theorem ua {l:List Nd}(h:x∉eR l)(v:Int):jH l x v=true:=l6.mpr λn hn e=>absurd (hZ.mpr ⟨n,hn,e⟩) h
theorem Cu (x:Str)(d e b a v:Int):lI (x,(if b>d then b else d),(if a<e then a else e)) v=(lI (x,b,a) v&&lI (x,d,e) v):=by
 unfold lI;rw[cT];simp only[aH,aB]
 split <;> split <;> lia
inductive p0 (CB CC:Addr)(vs:List V)(H:Hp)(Q:VK)(E:XK):Prop
 |mk (p dx b bits st:Addr)(fs:List (Str×V))(wv:V)(c:el)(w:Option Pk)(_:vs=[.ref p,wv])(_:H p=some (.ins CC dx fs))(_:fs.lookup ("board":Str)=some (V.ref b))(_:fs.lookup ("bits":Str)=some (V.ref bits))(_:ge CB H b st c.es)(_:gv H st c.sn)(_:im H bits c c.Ks)(_:c.Who w)(_:gU H wv w)(_:c.n<64)(_:(c.needs w).length<=100)(_:∀d H',eF H H'->H d=none->i9 H' d c w->Q (.ref d) H')
theorem JK:(["version","self","part"]:List Str).Nodup:=by decide +kernel
theorem AL (e:eF H H'){y:V}{r:Option V}(h:hU H a y r):hU H' a y r:=by
 obtain⟨d,k,j,g,l⟩:=h;refine⟨d,k,io e j,?_,l⟩;cases k with
 |none=>exact g
 |some ks=>obtain⟨b,i,m⟩:=g;exact⟨b,i,e _ _ m⟩
theorem Eg (h:(es.map eU).Nodup)(n:Nd):(iW es n).Nodup:=by
 unfold iW;rw[List.nodup_iff_pairwise_ne,cw]at *;refine List.Pairwise.imp_of_mem (λ{a b} ha hb hab z=>?_) (h.filter (iS n));have d:=(aZ.mp ha).2;have e:=(aZ.mp hb).2;unfold iS at d e;simp only[aH,aB]at d e;exact hab (Prod.ext (d.1.trans e.1.symm) z)
theorem yA {c:el}{w:Option Pk}{lo hi:Int}{ms:List Int}(b:ms.Perm (iW c.es (x,lo,hi)))(j:∀v,lI (x,lo,hi) v=jH (c.needs w) x v):(ms.map λv=>(c.bit (x,v):Int)).sum=(c.Lg w x:Nat)/\(∀v∈ms,(x,v)∈c.ks):=by
 have i:∀v∈ms,(x,v)∈c.ks:=λv a=>(c.mem _).mpr (mG.mp (b.subset a)).1;refine⟨?_,i⟩;have hn:(ms.map λv=>((x,v):Pk)).Nodup:=by
  rw[List.nodup_iff_pairwise_ne,cw];exact(b.nodup_iff.mpr (Eg c.en _)).imp λh z=>h (Prod.mk.inj z).2
 have:=el.Lq (c:=c) (ms.map λv=>((x,v):Pk)) hn (λk d=>by obtain⟨v,a,rfl⟩:=aw.mp d;exact i v a);rw[cC]at this;rw[show(ms.map λv=>(c.bit (x,v):Int))=ms.map ((λk=>(c.bit k:Int)) ∘ λv=>(x,v)) from rfl,this]
 congr 1
 unfold el.Lg;refine el.ext (c.KK _) (c.KK _) λk=>?_;rw[el.KJ,el.KJ,aB,aH,aB];refine and_congr_right λg=>?_
 constructor
 ·intro h;obtain⟨v,a,rfl⟩:=aw.mp h;exact⟨rfl,by rw[<-j];exact(mG.mp (b.subset a)).2⟩
 ·rintro⟨p,o⟩;obtain⟨l,m⟩:=k;have e:l=x:=p;subst e;exact aw.mpr ⟨m,b.symm.subset (mG.mpr ⟨(c.mem _).mp g,by rw[j];exact o⟩),rfl⟩
inductive IY (H:Hp)(ns:List Nd)(j:Addr)(i:Nat)(H2:Hp):Prop
 |mk (kj:_)(_:H2 j=some (.dK kj))(_:kj.map (·.1)=(eR (ns.take i)).map Sum.inr)(_:kj.length<=i)(_:∀x∈eR (ns.take i),∃q lo hi,eV kj (Sum.inr x)=some (.ref q)/\del H2 [j] q=some (.tup [.str x,.int lo,.int hi])/\∀v,lI (x,lo,hi) v=jH (ns.take i) x v)
structure JU (H:Hp)(ns:List Nd)(j:Addr)(i:Nat)(H2:Hp):Prop where
 ex:IY H ns j i H2
 sm:eF H H2
section
variable {base:Heap}{f:Addr}
theorem ri:eM ["self","who","joint","part","low","high","earlier","allowed","versions"] ["self","who"] (eB pc):=i4
theorem vh (F:iL K "allowed_by" "Chart.allowed_by" pc f fd)(T:TC K mg CC)(a7:TB K mg CB)(MM:Mt P w K mg base CB fB 2 "meeting" ["self","need"] (lD CB)):fi P w K mg base fB 3 f fd ["self","who"] (p0 CB CC):=by
 refine F.ok ri λdc A c2 s H vs Q E hr h=>?_;obtain⟨p,dx,b,bits,st,fs,wv,c,w,rfl,hp,b3,cy,hB,hN,cs,hw,cv,ct,dl,q⟩:=h;have hu:=gB hr;refine⟨_,(ee (eJ (i:=2) ri.nd gY) (ee (fG (fD (eY hu (eK a7.cl a7.nN (eK T.cl T.nBoard (pv 0))) (pv 1))) (lc rfl (gj (eL (i:=3) ri.nd) (gj (eL (i:=4) ri.nd) (gj (eL (i:=5) ri.nd) jT)))) (ee (eJ (i:=6) ri.nd (kg hu (pv 2) (pv 3) (gL (dZ (pv 3) (dZ (pv 4) (dZ (pv 5) eg)))) ⟨rfl,rfl,rfl,rfl⟩)) (eo (iD hu (pv 2) (pv 3) (gL (dZ (pv 3) (dZ (eW (yw rfl) rfl T.max boot_max (dZ (pv 4) (dZ (eG eN (pv 6) er) eg))) (dZ (eW (yt rfl) rfl T.min boot_min (dZ (pv 5) (dZ (eG eN (pv 6) er) eg))) eg)))) rfl)))) (ee (eJ (i:=7) ri.nd gY) (ee (fG (DZ (pv 2)) (eL (i:=3) ri.nd) (ee (eJ (i:=8) ri.nd (il MM hr fE (eK T.cl T.nBoard (pv 0)) (dZ (gN hu (pv 2) (pv 3)) eg))) (eo (iD hu (pv 7) (pv 3) (eW (yr rfl) rfl T.sum boot_sum (dZ (iQ (N':=["version","self","part"]) (n:=1) (js:=[0,3]) rfl (iG.two (c:=s.heap.objs.size+1) (c':=s.heap.objs.size+2) (y:="self") (y':="part")) (ip (by decide)) (fD (pv 8)) (λC s2 H2 fp=>eL (i:=0) JK) (λC s2 H2 fp=>jw) (λC s2 H2 fp=>eY hu (eK T.cl T.nBits (pv 1)) (gL (dZ (pv 2) (dZ (pv 0) eg))))) eg)) rfl)))) (eo (eQ (zE (pv 7)))))))),?_⟩;intro j hj;have s0:=eA hj (.dK []);obtain⟨bx,dn,dv,b6,co⟩:=jr hB hN;obtain⟨na,b8,zs,hz,b4⟩:=co w wv hw cv;refine⟨_,rfl,p,dx,_,_,rfl,s0 _ _ hp,b3,b,bx,_,_,rfl,s0 _ _ b6,gc _ _,_,rfl,dn,_,rfl,AL s0 b8,na,rfl,⟨_,eX.of (s0 _ _ hz)⟩,?_⟩;have lz:=Paired.length b4;refine fQ (K:=K) (a:=na) (xs:=zs) (λi σ H2=>∃o3 o4 o5 o6,σ=[some (.ref p),some wv,some (.ref j),o3,o4,o5,o6,none,none]/\JU H (c.needs w) j i H2)
  ⟨none,none,none,none,rfl,⟨[],d0,rfl,ao _,λx G=>nomatch G⟩,s0⟩ ((by rintro i σ H2 _ ⟨_,_,_,_,_,J⟩;exact eX.of (J.sm _ _ hz))) ?_ ?_
 ·rintro i x σ H2 hi ⟨o3,o4,o5,o6,rfl,⟨L,R,d,a5,B⟩,sm⟩;obtain⟨n,bm,hn⟩:=Paired.Kq b4 hi;obtain⟨nq,rfl,c7⟩:=hn;obtain⟨x,N,r⟩:=n;have ht:(c.needs w).take (i+1)=(c.needs w).take i++[(x,N,r)]:=by rw[aX,bm];rfl
  have c6:i<100:=by have:=(af.mp bm).1;lia
  refine⟨nq,_,rfl,gs.of (sm _ _ c7),rfl,_,_,rfl,_,_,rfl,_,_,rfl,rfl,?_⟩;refine⟨_,rfl,j,rfl,.inl ⟨_,.inl R⟩,_,rfl,_,rfl,_,rfl,_,rfl,Ff,λt as=>?_⟩;have st:=eA as (.tup [.str x,.int N,.int r]);have dd:j≠t:=et R as;generalize b7:upd H2 t (.tup [.str x,.int N,.int r])=H3 at *;have a1:H3 j=some (.dK L):=st _ _ R;have old:∃q' M g,(eV L (Sum.inr x)).getD (.ref t)=.ref q'/\H3 q'=some (.tup [.str x,.int M,.int g])/\∀v,(lI (x,M,g) v&&lI (x,N,r) v)=jH ((c.needs w).take (i+1)) x v:=by
   by_cases G:x∈eR ((c.needs w).take i)
   ·obtain⟨q',M,g,g1,S,g3⟩:=B x G;have cd:q'≠j:=λz=>by rw[z,fM (by simp)]at S;cases S
    refine⟨q',M,g,by rw[g1];rfl,st _ _ (by rw[eE (by simpa using cd)]at S;exact S),λv=>?_⟩;rw[ht,lj,g3,aq rfl];rfl
   ·have hv:eV L (Sum.inr x)=none:=by
     cases hq:eV L (Sum.inr x) with
     |none=>rfl
     |some u=>
      have:=iP hq;rw[d]at this;obtain⟨y,I,e⟩:=aw.mp this;rw[Sum.inr.inj e]at I;exact absurd I G
    refine⟨t,N,r,by rw[hv];rfl,by rw[<-b7];exact d0,λv=>?_⟩;rw[ht,lj,ua G,aq rfl,Bool.and_self];rfl
  obtain⟨q',M,g,g1,S,g3⟩:=old;refine⟨_,iu.k (k:=Sum.inr x) a1,?_⟩;rw[g1];refine⟨_,rfl,_,rfl,_,rfl,q',_,_,_,rfl,rfl,gs.of S,rfl,_,_,rfl,_,rfl,_,rfl,q',_,_,_,rfl,rfl,gs.of S,rfl,_,_,rfl,Ff,λt2 bv=>?_⟩;have a3:=eA bv (.tup [.str x,.int (if M>N then M else N),.int (if g<r then g else r)]);have bf:j≠t2:=et a1 bv;refine⟨_,rfl,_,rfl,j,_,rfl,kP.k (k:=Sum.inr x) (a3 _ _ a1) (eO (by lia)),?_⟩;refine⟨_,_,_,_,rfl,⟨fm L (Sum.inr x) (.ref t2),d0,?_,?_,λy I=>?_⟩,eF.upd (sm.trans (st.trans a3)) hj⟩
  ·rw[ht,l4];by_cases G:x∈eR ((c.needs w).take i)
   ·rw[ax G];obtain⟨_,_,_,z,_⟩:=B x G;rw[mH (by rw[z];rfl)];exact d
   ·have hv:eV L (Sum.inr x)=none:=by
     cases hq:eV L (Sum.inr x) with
     |none=>rfl
     |some u=>
      have:=iP hq;rw[d]at this;obtain⟨y,I,e⟩:=aw.mp this;rw[Sum.inr.inj e]at I;exact absurd I G
    rw[av G,ii _ hv,ay,d,ay];rfl
  ·have:=fZ L (Sum.inr x) (V.ref t2);lia
  ·rw[gi,pP (by simp)];by_cases ey:y=x
   ·subst ey;rw[ax rfl];refine⟨t2,_,_,rfl,by rw[eE (by simpa using Ne.symm bf)];exact d0,λv=>?_⟩;rw[<-g3];exact Cu _ _ _ _ _ v
   ·rw[av (λz=>ey (Sum.inr.inj z))];have c5:y∈eR ((c.needs w).take i):=by
     rw[ht,l4]at I;by_cases G:x∈eR ((c.needs w).take i)
     ·rw[ax G]at I;exact I
     ·rw[av G]at I;exact(aD.mp I).elim id λz=>absurd (aj.mp z) ey
    obtain⟨q0,cx,ag,f1,f2,f3⟩:=B y c5;have ad:q0≠j:=λz=>by rw[z,fM (by simp)]at f2;cases f2
    rw[eE (by simpa using ad)]at f2;refine⟨q0,cx,ag,f1,by rw[eE (by simpa using ad)];exact a3 _ _ (st _ _ f2),λv=>?_⟩;rw[f3,ht,lj,au (λz=>ey z.symm)];simp
 ·rintro σ H2 ⟨o3,o4,o5,o6,rfl,⟨L,R,d,a5,B⟩,sm⟩;rw[lz,aI]at d B;intro O an;have Z:j≠O:=et R an;have a2:=eA an (.dK []);have a4:=sm.trans a2;have X:H O=none:=sm.free an;refine⟨_,rfl,j,L,rfl,.inl (a2 _ _ R),λo H4 sf a8 ba=>?_⟩;have h4:∀a,a≠j->H4 a=upd H2 O (.dK []) a:=a8;have s4:eF H H4:=λa u e=>by
   rw[h4 a (λz=>by rw[z,hj]at e;cases e)];exact a4 _ _ e
  have bd:H4 O=some (.dK []):=by rw[h4 O (Ne.symm Z)];exact d0
  have c4:L.length=(eR (c.needs w)).length:=by
   have:=congrArg List.length d;rw[ab,ab]at this;exact this
  refine sB (kvs:=L) (λi σ H5=>∃U o3 o4 o5 o6 o8,σ=[some (.ref p),some wv,some (.ref j),o3,o4,o5,o6,some (.ref O),o8]/\H5 O=some (.dK U)/\eF (del H4 [O]) H5/\U.map (·.1)=((eR (c.needs w)).take i).map Sum.inr/\U.length<=i/\∀x∈(eR (c.needs w)).take i,eV U (Sum.inr x)=some (.int (c.Lg w x)))
   ⟨[],_,_,_,_,none,rfl,bd,fq _ _,rfl,ao _,λx G=>by simp at G⟩ ((by rintro i σ H5 _ ⟨_,_,_,_,_,_,_,_,e,_⟩;exact e _ _ (by rw[eE (by simpa using Z)];exact ba))) ?_ ?_
  ·rintro i kv σ H5 hi ⟨U,o3,o4,o5,o6,o8,rfl,aa,s5,Y,cz,ap⟩;have b2:(L.map (·.1))[i]?=some kv.1:=by rw[ae,hi];rfl
   rw[d,ae]at b2;obtain⟨x,G,ex⟩:=az.mp b2;rw[<-ex];have cp:=ai G;obtain⟨q0,lo,ag,g1,S,g3⟩:=B x cp;have ad:q0≠j:=λz=>by rw[z,fM (by simp)]at S;cases S
   rw[eE (by simpa using ad)]at S;have c6:i<100:=by
    have h1:=(af.mp hi).1;have h2:L.length<=(c.needs w).length:=by rw[<-lz]at *;lia
    lia
   have ah:eF H H5:=λa u e=>s5 _ _ (by rw[eE (by simpa using λz=>by rw[z,X]at e;cases e)];exact s4 _ _ e)
   have ch:H5 q0=some (.tup [.str x,.int lo,.int ag]):=s5 _ _ (by
    have:q0≠O:=et S an;rw[eE (by simpa using this),h4 q0 ad]
    exact a2 _ _ S)
   have b9:H5 j=some (.frz o (.dK L)):=s5 _ _ (by rw[eE (by simpa using Z)];exact ba);refine⟨_,rfl,p,dx,_,_,rfl,ah _ _ hp,b3,b,bx,_,rfl,ah _ _ b6,pU _ _ (by decide +kernel) (by decide +kernel),_,rfl,_,rfl,j,_,rfl,.inl ⟨L,Sum.inr x,.inr ⟨o,b9⟩,rfl,g1.symm⟩,b,st,c.es,_,(x,lo,ag),rfl,hB.same ah,⟨q0,rfl,ch⟩,by rw[<-c.n_eq];exact ct,λl ms H6 s6 hl bq a6 da=>?_⟩;obtain⟨a0,c0⟩:=yA (c:=c) (w:=w) a6 g3;have c9:ms.length<64:=by
    rw[a6.length_eq];have:=jz c.es (x,lo,ag);rw[<-c.n_eq]at this
    lia
   refine⟨_,rfl,l,rfl,⟨_,eX.of bq⟩,?_⟩;have c1:=ah.trans s6;refine ik (xs:=ms.map V.int) (λD i ys H7=>ys=((ms.take i).map λv=>V.int (c.bit (x,v)))/\H7 D=some (.lst ys)/\eF H6 H7/\H6 D=none) (λD hD=>⟨by simp,d0,eA hD _,hD⟩)
    (λD i ys H7 hi ⟨e1,e2,e3,_⟩=>⟨eX.of (e3 _ _ bq),e2,?_⟩) (λD i y ys H7 hi ⟨e1,e2,e3,e4⟩=>?_) (λD ys H7 ⟨e1,e2,e3,e4⟩=>?_)
   ·rw[e1,ab,aT];exact eO (by lia)
   ·rw[ae]at hi;obtain⟨z,bl,rfl⟩:=az.mp hi;unfold jq qb;dsimp only;rw[ax rfl];have b1:=c1.trans e3;refine⟨_,rfl,p,dx,_,_,rfl,b1 _ _ hp,cy,_,rfl,_,rfl,tG,λt as=>?_⟩;have s8:=eA as (.tup [.str x,.int z]);refine⟨bits,_,rfl,(cs.same (b1.trans s8)).get (w:=some (x,z)) (λk e=>by cases e;exact c0 z (ai bl)) ⟨t,rfl,d0⟩,s8 _ _ e2,?_,d0,eF.upd (e3.trans s8) e4,e4⟩;rw[e1,aX,bl,ay];rfl
   ·rw[ab,aI]at e1;subst e1;have a9:(ms.map λv=>V.int (c.bit (x,v)))=(ms.map λv=>(c.bit (x,v):Int)).map V.int:=by rw[cC];rfl
    rw[a9]at e2;have c8:c.Lg w x<2^63:=bg (c.KK _) (Nat.pow_le_pow_right (by decide) (by lia));refine⟨D,_,rfl,eX.of e2,λm hm=>?_,by rw[a0];lia,?_⟩
    ·rw[bh,ae]
     cases ms[m]? with
     |none=>exact Int.le_refl _
     |some v=>show(0:Int)<=(c.bit (x,v):Nat);lia
    rw[a0];have b5:H7 O=some (.dK U):=e3 _ _ (s6 _ _ aa);refine⟨_,rfl,_,rfl,O,_,rfl,kP.k (k:=Sum.inr x) b5 (eO (by lia)),?_⟩;have cn:x∉(eR (c.needs w)).take i:=λz=>by
     obtain⟨i',g⟩:=aC.mp z;rw[b0]at g
     split at g
     ·next hlt2=>
      have:=(ce (af.mp g).1 (jm (c.needs w))).mp (g.trans G.symm)
      lia
     ·cases g
    have c3:eV U (Sum.inr x)=none:=by
     cases hq:eV U (Sum.inr x) with
     |none=>rfl
     |some u=>
      have:=iP hq;rw[Y]at this;obtain⟨y,I,e⟩:=aw.mp this;rw[Sum.inr.inj e]at I;exact absurd I cn
    have ht:(eR (c.needs w)).take (i+1)=(eR (c.needs w)).take i++[x]:=by rw[aX,G];rfl
    refine⟨_,_,_,_,_,_,rfl,d0,λa u e=>?_,?_,?_,λy I=>?_⟩
    ·have na:a≠O:=λz=>by rw[z,fM (by simp)]at e;cases e
     rw[ef na];exact e3 _ _ (s6 _ _ (s5 _ _ e))
    ·rw[ii _ c3,ay,Y,ht,ay];rfl
    ·have:=fZ U (Sum.inr x) (V.int ((c.Lg w x:Nat):Int));lia
    ·rw[gi];by_cases ey:y=x
     ·subst ey;rw[ax rfl]
     ·rw[av (λz=>ey (Sum.inr.inj z))];rw[ht]at I;exact ap y ((aD.mp I).elim id λz=>absurd (aj.mp z) ey)
  ·rintro σ H5 ⟨U,o3,o4,o5,o6,o8,rfl,aa,s5,Y,cz,ap⟩;rw[c4,aI]at Y ap;refine⟨_,rfl,O,_,rfl,aa,trivial,λo'=>q O _ (λa u e=>?_) X ⟨o',U,d0,Y,ap⟩⟩;have na:a≠O:=λz=>by rw[z,X]at e;cases e
   rw[ef na];exact s5 _ _ (by rw[eE (by simpa using na)];exact s4 _ _ e)
end
inductive pV (CC:Addr)(vs:List V)(H:Hp)(Q:VK)(E:XK):Prop
 |mk (p dx al ofp d:Addr)(fs:List (Str×V))(wv:V)(c:el)(w:Option Pk)(_:vs=[.ref p,wv])(_:H p=some (.ins CC dx fs))(_:fs.lookup ("allowed":Str)=some (V.ref al))(_:fs.lookup ("of_part":Str)=some (V.ref ofp))(_:hU H al wv (some (.ref d)))(_:i9 H d c w)(_:lP H ofp c)(_:Q (.int (c.Lh w)) H)
def el.LE (c:el)(w:Option Pk)(ps:List Str):Nat:=c.maskOf λk=>decide (k.1∈ps)&&!jH (c.needs w) k.1 k.2
theorem el.LF (c:el)(w:Option Pk):c.LE w []=0:=el.KF (c.KK _) λk h=>by
 have:=(el.KJ.mp h).2;simp at this
theorem el.LG (c:el)(w:Option Pk)(ps:List Str)(x:Str):c.LE w (ps++[x])=c.LE w ps ||| iq (c.Lf x) (c.Lg w x):=by
 refine el.ext (c.KK _) (jo (c.KK _) (jJ (c.KK _))) λk=>?_;rw[el.Ky,el.KA,el.Lj];unfold el.LE el.Lg;simp only[el.KJ,aH,aB,aD,aj,bP]
 constructor
 ·rintro⟨a,h2 | h2,b⟩
  ·exact .inl ⟨a,h2,b⟩
  ·exact .inr ⟨⟨a,h2⟩,λz=>by rw[h2,z.2.2]at b;cases b⟩
 ·rintro(⟨a,h2,b⟩ | ⟨⟨a,h2⟩,b⟩)
  ·exact⟨a,.inl h2,b⟩
  ·refine⟨a,.inr h2,bT.mpr λz=>b ⟨a,h2,?_⟩⟩;rw[<-h2];exact z
theorem el.LH (c:el)(w:Option Pk):c.LE w (eR (c.needs w))=c.Lh w:=by
 refine el.ext (c.KK _) (c.KK _) λk=>?_;unfold el.LE;rw[el.Lk,el.KJ,aH,aB,bP,hZ];unfold el.KL
 constructor
 ·rintro⟨b,_,d⟩;refine⟨b,Decidable.byContradiction λz=>?_⟩;rw[bT]at d;refine d (l6.mpr λn hn e=>Decidable.byContradiction λy=>z ⟨n,hn,?_⟩);unfold p8;rw[aq e.symm,bT.mpr y];rfl
 ·rintro⟨b,n,hn,a⟩;unfold p8 at a;rw[aH,aB,bP]at a;refine⟨b,⟨n,hn,a.1.symm⟩,bT.mpr λz=>?_⟩;rw[l6.mp z n hn a.1.symm]at a;cases a.2
section
variable {base:Heap}{f:Addr}
theorem BC:eM ["self","who","mask","part"] ["self","who"] (eB oR):=i4
theorem u8 (F:iL K "shut_out_by" "Chart.shut_out_by" oR f fd)(T:TC K mg CC):fi P w K mg base fB 1 f fd ["self","who"] (pV CC):=by
 refine F.ok BC λU A z s H vs Q E X h=>?_;obtain⟨p,G,M,v,d,fs,wv,c,w,rfl,hp,g,B,I,L,J,q⟩:=h;have m:=gB X;refine⟨_,(ee (eJ (i:=2) BC.nd er) (ee (fG (zw (eY m (eK T.cl T.nAl (pv 0)) (pv 1))) (eL (i:=3) BC.nd) (eo (kH (i:=2) BC.nd (fe ic (kg m (eK T.cl T.nOf (pv 0)) (pv 3) er ⟨rfl,rfl,rfl,rfl⟩) (jb kS (gN m (eY m (eK T.cl T.nAl (pv 0)) (pv 1)) (pv 3)))) ud))) (eo (eQ (pv 2))))),?_⟩;obtain⟨o,a,b,l,R⟩:=id L;have Y:a.length=(eR (c.needs w)).length:=by
  have:=congrArg List.length l;rw[ab,ab]at this;exact this
 refine⟨_,rfl,p,G,_,_,rfl,hp,g,_,rfl,M,_,rfl,I,d,o,a,rfl,b,?_⟩;refine sB (kvs:=a) (λi σ t=>∃C,σ=[some (.ref p),some wv,some (.int ((c.LE w ((eR (c.needs w)).take i):Nat):Int)),C]/\t=H) ⟨none,by rw[cZ,el.LF];rfl,rfl⟩ (λi σ t _ ⟨_,_,e⟩=>by rw[e];exact b) ?_ ?_
 ·rintro i Z σ t hi ⟨C,rfl,rfl⟩;have j:(a.map (·.1))[i]?=some Z.1:=by rw[ae,hi];rfl
  rw[l,ae]at j;obtain⟨x,N,O⟩:=az.mp j;rw[<-O];obtain⟨r,D,y⟩:=J.get x;have S:(eR (c.needs w)).take (i+1)=(eR (c.needs w)).take i++[x]:=by rw[aX,N];rfl
  refine⟨_,rfl,_,rfl,p,G,_,_,rfl,hp,B,v,rfl,J.isD,_,rfl,r,D,?_⟩;rw[y];refine⟨_,rfl,p,G,_,_,rfl,hp,g,_,rfl,M,_,rfl,I,_,rfl,d,_,rfl,L.get (ai N),_,rfl,_,_,rfl,rfl,_,_,rfl,rfl,?_⟩;refine⟨some (.str x),?_,rfl⟩;rw[qo,wT,S,el.LG];rfl
 ·rintro σ t ⟨C,rfl,rfl⟩;rw[Y,aI,el.LH];exact⟨_,rfl,q⟩
end
inductive sP (CC:Addr)(vs:List V)(H:Hp)(Q:VK)(E:XK):Prop
 |mk (p dx b bits by_ ofp al sh fo:Addr)(c:el)(ksh kfo:List (fV×V))(_:vs=[.ref p])(_:H p=some (.ins CC dx (EH b bits by_ ofp al sh fo)))(_:im H bits c c.Ks)(_:nX H by_ c)(_:c.n<64)(_:bits≠fo)(_:sh≠fo)(_:H sh=some (.dN ksh))(_:∀kv∈ksh,∃w,c.Who w/\kv.1=fA w)(_:∀w,c.Who w->eV ksh (fA w)=some (.int (c.Lh w)))(_:H fo=some (.dN kfo))(_:kfo.length<=64)(_:∀kv∈kfo,∃w,c.Who w/\kv.1=fA w)(_:∀w,c.Who w->eV kfo (fA w)=some (.int (c.Lh w)))(_:∀H',eD (del H [fo]) H'->kE H' fo c c.Li->Q .non H')
def el.LI (c:el)(vs:List (Option Pk)):Option Pk->Nat
 |none=>c.Lh none
 |some k=>c.maskOf λj=>c.Ld (some k) j||(decide (some j∈vs)&&c.Ld (some j) k)
theorem el.LJ (c:el)(w:Option Pk):c.LI [] w=c.Lh w:=by
 cases w with
 |none=>rfl
 |some k=>
  refine el.ext (c.KK _) (c.KK _) λj=>?_;show c.has (c.maskOf _) j↔c.has (c.maskOf _) j;rw[el.KJ,el.KJ];simp
theorem el.LK (c:el)(vs:List (Option Pk))(w:Option Pk):c.LI vs w<2^c.n:=by
 cases w <;> exact c.KK _
theorem el.LL (c:el){vs:List (Option Pk)}(h:∀k∈c.ks,some k∈vs)(w:Option Pk):c.LI vs w=c.Li w:=by
 cases w with
 |none=>rfl
 |some k=>
  refine el.ext (c.KK _) (c.KK _) λj=>?_;show c.has (c.maskOf _) j↔c.has (c.maskOf _) j;rw[el.KJ,el.KJ];refine and_congr_right λa=>?_;rw[aq (h j a),cq]
def el.LM (c:el)(vs:List (Option Pk))(v:Option Pk)(ps:List Pk):Option Pk->Nat
 |none=>c.Lh none
 |some k=>if k∈ps then c.LI vs (some k) ||| c.Ks v else c.LI vs (some k)
theorem el.LN (c:el)(vs:List (Option Pk))(v w:Option Pk):c.LM vs v [] w=c.LI vs w:=by
 cases w with
 |none=>rfl
 |some k=>
  show(if k∈([]:List Pk) then c.LI vs (some k) ||| c.Ks v else c.LI vs (some k))=_;rw[av (λz=>nomatch z)]
theorem el.LO (c:el)(vs:List (Option Pk)){v w:Option Pk}(d:c.Who v)(g:c.Who w):c.LM vs v (c.listed (c.Lh v)) w=c.LI (vs++[v]) w:=by
 cases w with
 |none=>rfl
 |some k=>
  have h:=g k rfl;show(if k∈c.listed (c.Lh v) then c.LI vs (some k) ||| c.Ks v else c.LI vs (some k))=_;have e:k∈c.listed (c.Lh v)↔c.KL v k:=by rw[el.Kx,el.Lk];exact⟨λz=>z.2,λz=>⟨h,z⟩⟩
  refine el.ext ?_ (c.KK _) λj=>?_
  ·split
   ·exact jo (c.LK _ _) (el.Lo d)
   ·exact c.LK _ _
  ·have key:c.has (c.LI (vs++[v]) (some k)) j↔c.has (c.LI vs (some k)) j\/(j∈c.ks/\v=some j/\c.KL v k):=by
    unfold el.LI;simp only[el.KJ,cS,aH,aB,aD,aj,el.Le]
    constructor
    ·rintro⟨a,h2 | ⟨h2 | h2,b⟩⟩
     ·exact .inl ⟨a,.inl h2⟩
     ·exact .inl ⟨a,.inr ⟨h2,b⟩⟩
     ·exact .inr ⟨a,h2.symm,h2▸b⟩
    ·rintro(⟨a,h2 | ⟨h2,b⟩⟩ | ⟨a,h2,b⟩)
     ·exact⟨a,.inl h2⟩
     ·exact⟨a,.inr ⟨.inl h2,b⟩⟩
     ·exact⟨a,.inr ⟨.inr h2.symm,h2▸b⟩⟩
   rw[key];by_cases hs:c.KL v k
   ·rw[ax (e.mpr hs),el.Ky,el.Lp d];refine or_congr_right ?_;exact⟨λz=>⟨d j z,z,hs⟩,λz=>z.2.1⟩
   ·rw[av (λz=>hs (e.mp z))];exact⟨.inl,λz=>z.elim id λy=>absurd y.2.2 hs⟩
theorem qY {c:el}:∀{ksh:List (fV×V)},(∀kv∈ksh,∃w,c.Who w/\kv.1=fA w)->∃ws:List (Option Pk),ksh.map (·.1)=ws.map fA/\∀w∈ws,c.Who w
 |[],_=>⟨[],rfl,λw hw=>nomatch hw⟩
 |kv::ksh,h=>by
  obtain⟨ws,e1,e2⟩:=qY (c:=c) (ksh:=ksh) λx hx=>h x (by simp[hx]);obtain⟨w,h1,h2⟩:=h kv (by simp);refine⟨w::ws,by rw[aG,aG,e1,h2],λx hx=>?_⟩;rcases am.mp hx with rfl | hx
  ·exact h1
  ·exact e2 x hx
theorem gE {c:el}{k:Pk}(h:k∈c.ks):c.Who (some k):=λj e=>by cases e;exact h
theorem jj {c:el}:c.Who none:=λj e=>nomatch e
section
variable {base:Heap}{f:Addr}
theorem DL:eM ["self","who","pick"] ["self"] (eB rD):=i4
theorem xJ (F:iL K "make_foes_mutual" "Chart.make_foes_mutual" rD f fd)(T:TC K mg CC)(ML:Mt P w K mg base CC fB 1 "listed" ["self","mask"] (j4 CC)):fi P w K mg base fB 2 f fd ["self"] (sP CC):=by
 refine F.ok DL λc1 A cv s H vs Q E hr h=>?_;obtain⟨p,dx,b,bits,N,b9,al,sh,m,c,J,U,rfl,hp,b7,cp,b8,as,cy,c0,cs,a0,b3,b5,co,ct,q⟩:=h;have hu:=gB hr;refine⟨_,(eo (fG (rV (eK T.cl T.nSh (pv 0))) (eL (i:=1) DL.nd) (eo (fG (fD (il ML hr fE (pv 0) (dZ (eY hu (eK T.cl T.nSh (pv 0)) (pv 1)) eg))) (eL (i:=2) DL.nd) (eo (zr hu (eK T.cl T.nFo (pv 0)) (pv 2) (eY hu (eK T.cl T.nBits (pv 0)) (pv 1)) Aw (λ_ _ _=>rfl))))))),?_⟩;obtain⟨R,ad,bq⟩:=qY cs;refine⟨_,rfl,p,dx,_,_,rfl,hp,(by kernel_rfl),sh,J,rfl,.inl c0,λo H1 sf a4 a6=>?_⟩;have L:H1 m=some (.dN U):=by rw[a4 m (Ne.symm cy)];exact b3
 have a2:H1 p=some (.ins CC dx (EH b bits N b9 al sh m)):=sf.ins hp
 have keep:∀{r:Hp},eF (del H1 [m]) r->∀{a u},H1 a=some u->(∀kvs,u≠.dN kvs)->r a=some u:=λ{r} B {a u} e n1=>B _ _ (by
   rw[eE (by simpa using λz:a=m=>n1 _ (by rw[z,L]at e;exact(Option.some.inj e).symm))]
   exact e)
 have b4:∀{r:Hp},eF (del H1 [m]) r->im r bits c c.Ks:=λ{r} B=>by
  obtain⟨kvs,g1,g2⟩:=b7.f sf;refine⟨kvs,io B ?_,g2⟩;exact g1.imp (λz=>by rw[eE (by simpa using as)];exact z) (by rintro⟨o',z⟩;exact⟨o',by rw[eE (by simpa using as)];exact z⟩)
 have bx:∀{r:Hp},eF (del H1 [m]) r->nX r N c:=λ{r} B=>by
  obtain⟨kvs,g1,g2⟩:=cp.f sf;have nb:N≠m:=λz=>by
   rw[z]at g1;rcases g1 with y | ⟨o',y⟩ <;> (rw[L]at y;cases y)
  refine⟨kvs,io B (g1.imp (λz=>by rw[eE (by simpa using nb)];exact z) (by rintro⟨o',z⟩;exact⟨o',by rw[eE (by simpa using nb)];exact z⟩)),λk hk=>?_⟩;obtain⟨v,y1,y2,y3,y4⟩:=g2 k hk;exact⟨v,y1,y2,y3,keep B y4 λ_ z=>nomatch z⟩
 refine vE (kvs:=J) (λi σ r=>∃O o1 o2,σ=[some (.ref p),o1,o2]/\r m=some (.dN O)/\(O.length<=64/\O.map (·.1)=U.map (·.1))/\(∀w,c.Who w->eV O (fA w)=some (.int (c.LI (R.take i) w)))/\eF (del H1 [m]) r)
  ⟨U,none,none,rfl,L,⟨b5,rfl⟩,λw hw=>by rw[cZ,el.LJ];exact ct w hw,fq _ _⟩ ((by rintro i σ r _ ⟨_,_,_,_,_,_,_,B⟩;exact keep B a6 λ_ z=>nomatch z)) ?_ ?_
 ·rintro i kv x σ r hi kx ⟨O,o1,o2,rfl,G,ap,S,B⟩;have a9:(J.map (·.1))[i]?=some kv.1:=by rw[ae,hi];rfl
  rw[ad,ae]at a9;obtain⟨v,hv,ev⟩:=az.mp a9;rw[<-ev]at kx;have a3:=gU.of kx;have ah:=bq v (ai hv);have ht:R.take (i+1)=R.take i++[v]:=by rw[aX,hv];rfl
  have ag:=keep B a2 λ_ z=>nomatch z;have cz:=keep B a6 λ_ z=>nomatch z;refine⟨_,rfl,p,dx,_,rfl,ag,(by kernel_rfl),_,rfl,p,dx,_,_,rfl,ag,(by kernel_rfl),_,rfl,sh,_,rfl,⟨J,fA v,.inr ⟨o,cz⟩,kx,(a0 v ah).symm⟩,r,p,dx,N,_,c,_,rfl,eD.refl _,ag,(by kernel_rfl),bx B,b8,c.KK _,λl xs H3 s3 hl bl a8 cx=>?_⟩;refine⟨l,rfl,⟨_,eX.of bl⟩,?_⟩;have b6:l≠m:=Ne.symm (et G hl);refine fQ (K:=K) (a:=l) (xs:=xs) (λj σ Z=>∃g o2,σ=[some (.ref p),some x,o2]/\Z m=some (.dN g)/\(g.length<=64/\g.map (·.1)=U.map (·.1))/\(∀w,c.Who w->eV g (fA w)=some (.int (c.LM (R.take i) v ((c.listed (c.Lh v)).take j) w)))/\eF (del H3 [m]) Z)
   ⟨O,_,rfl,s3 _ _ G,ap,λw hw=>by rw[cZ,el.LN];exact S w hw,fq _ _⟩ ((by rintro j σ Z _ ⟨_,_,_,_,_,_,t⟩;exact eX.of (t _ _ (by rw[eE (by simpa using b6)];exact bl)))) ?_ ?_
  ·rintro j y σ Z hj ⟨g,cd,rfl,X,C,d,t⟩;obtain⟨k,aa,hk⟩:=Paired.Kq a8 hj;have b2:=ai aa;have M:k∈c.ks:=(el.Kx.mp b2).1;have bd:eF (del H1 [m]) Z:=λa u e=>by
    have Y:a≠m:=λz=>by rw[z,fM (by simp)]at e;cases e
    refine t _ _ ?_;rw[eE (by simpa using Y)];exact s3 _ _ (B _ _ e)
   have a1:=keep bd a2 λ_ z=>nomatch z;obtain⟨kq,rfl,an⟩:=id hk;have ch:kq≠m:=λz=>by rw[z,G]at an;cases an
   have bf:gU Z (.ref kq) (some k):=⟨kq,rfl,t _ _ (by rw[eE (by simpa using ch)];exact s3 _ _ an)⟩;have bv:gU Z x v:=by
    cases v with
    |none=>exact a3
    |some kk=>
     obtain⟨q0,e1,e2⟩:=(show fg r x kk from a3);have n0:q0≠m:=λz=>by rw[z,G]at e2;cases e2
     exact⟨q0,e1,t _ _ (by rw[eE (by simpa using n0)];exact s3 _ _ e2)⟩
   have a7:(c.listed (c.Lh v)).take (j+1)=(c.listed (c.Lh v)).take j++[k]:=by rw[aX,aa];rfl
   refine⟨_,rfl,p,dx,_,_,rfl,a1,(by kernel_rfl),_,rfl,m,_,rfl,⟨g,fA (some k),.inl X,bf.key,(d (some k) (gE M)).symm⟩,_,rfl,p,dx,_,_,rfl,a1,(by kernel_rfl),_,rfl,bits,_,rfl,(b4 bd).get ah bv,_,_,rfl,rfl,?_⟩;rw[wT];have bm:k∉(c.listed (c.Lh v)).take j:=λz=>by
    obtain⟨i',I⟩:=aC.mp z;rw[b0]at I
    split at I
    ·next hlt2=>
     have:=(ce (af.mp I).1 (c.KH _)).mp (I.trans aa.symm)
     lia
    ·cases I
   have b1:(c.LM (R.take i) v ((c.listed (c.Lh v)).take j) (some k))=c.LI (R.take i) (some k):=by
    show(if _ then _ else _)=_;rw[av bm]
   rw[b1];refine⟨_,lF.of (k:=fA (some k)) X bf.key (eO (by have:=C.1;lia)),_,_,rfl,d0,?_,λu D=>?_,λa u e=>?_⟩
   ·refine⟨?_,by rw[mH (by rw[d _ (gE M)];rfl)];exact C.2⟩;have:(fm g (fA (some k)) (V.int ((c.LI (R.take i) (some k) ||| c.Ks v:Nat):Int))).length=g.length:=by
     have:=congrArg List.length (mH (kvs:=g) (k:=fA (some k)) (v:=V.int ((c.LI (R.take i) (some k) ||| c.Ks v:Nat):Int)) (by rw[d _ (gE M)];rfl));simpa using this
    have:=C.1
    lia
   ·rw[gi];by_cases eu:u=some k
    ·subst eu;rw[ax rfl];show _=some (V.int ((if _ then _ else _:Nat):Int));rw[ax (by rw[a7];simp)]
    ·rw[av (λz=>eu (iw z)),d u D];cases u with
     |none=>rfl
     |some k'=>
      have:k'≠k:=λz=>eu (by rw[z]);show some (V.int ((if _ then _ else _:Nat):Int))=some (V.int ((if _ then _ else _:Nat):Int));rw[a7];simp[this]
   ·have Y:a≠m:=λz=>by rw[z,fM (by simp)]at e;cases e
    rw[ef Y];exact t _ _ e
  ·rintro σ Z ⟨g,cd,rfl,X,C,d,t⟩;have lx:xs.length=(c.listed (c.Lh v)).length:=Paired.length a8;rw[lx,aI]at d;refine⟨g,_,_,rfl,X,C,λu D=>?_,λa u e=>?_⟩
   ·rw[ht,<-el.LO c _ ah D];exact d u D
   ·have Y:a≠m:=λz=>by rw[z,fM (by simp)]at e;cases e
    refine t _ _ ?_;rw[eE (by simpa using Y)];exact s3 _ _ (B _ _ e)
 ·rintro σ r ⟨O,o1,o2,rfl,G,ap,S,B⟩;have lw:J.length=R.length:=by
   have:=congrArg List.length ad;rw[ab,ab]at this;exact this
  rw[lw,aI]at S;refine q r (λa u e=>?_) ⟨O,.inl G,λkv a5=>?_,λw hw=>?_⟩
  ·have Y:a≠m:=λz=>by rw[z,fM (by simp)]at e;cases e
   rw[eE (by simpa using Y)]at e;rcases sf a u e with z | ⟨z1,o',z2⟩
   ·exact .inl (B _ _ (by rw[eE (by simpa using Y)];exact z))
   ·exact .inr ⟨z1,o',B _ _ (by rw[eE (by simpa using Y)];exact z2)⟩
  ·have h1:kv.1∈O.map (·.1):=bn a5;rw[ap.2]at h1;obtain⟨cn,h2,h3⟩:=aw.mp h1;rw[<-h3];exact co cn h2
  ·rw[S w hw,el.LL c λk hk=>?_];have:=iP (a0 (some k) (gE hk));rw[ad]at this;obtain⟨u,ba,D⟩:=aw.mp this;rw[iw D]at ba;exact ba
end
section
variable {H:Hp}{p C dx:Addr}{fs:List (Str×V)}(hp:H p=some (.ins C dx fs))
include hp
theorem jV {u:HO}(e:H a=some u)(h:u≠.ins C dx fs):del H [p] a=some u:=by
 rw[eE (by simpa using fh e hp h)];exact e
theorem kX {u:HO}(h:Rd H a u)(n:u≠.ins C dx fs):Rd (del H [p]) a u:=h.imp (λz=>jV hp z n) (by rintro⟨o,z⟩;exact⟨o,jV hp z λy=>nomatch y⟩)
theorem gv.apart {ns:List Nd}(h:gv H a ns):gv (del H [p]) a ns:=(by obtain⟨xs,h1,h2⟩:=h;exact⟨xs,jV hp h1 (λz=>nomatch z),Paired.J4 h2 (by rintro _ _ ⟨q,e1,e2⟩;exact⟨q,e1,jV hp e2 λz=>nomatch z⟩)⟩)
theorem ge.apart {b st:Addr}(h:ge CB H b st es)(A:b≠p):ge CB (del H [p]) b st es:=by
 obtain⟨r,s,v,d,o,D,t,w,C,E⟩:=h.ex;refine⟨r,s,v,d,o,by rw[eE (by simpa using A)];exact D,kX hp t (λz=>nomatch z),Paired.J4 w λ_ _ z=>?_,kX hp C (λz=>nomatch z),λx=>?_⟩
 ·obtain⟨g,a,y,i,j,e⟩:=z;exact⟨g,a,y,i,jV hp j (λz=>nomatch z),Paired.J4 e (by rintro _ _ ⟨q,B,F⟩;exact⟨q,B,jV hp F λz=>nomatch z⟩)⟩
 ·rcases E x with z | ⟨l,m,g,i,j,e⟩
  ·exact .inl z
  ·exact .inr ⟨l,m,g,jV hp i (λz=>nomatch z),j,e⟩
theorem im.apart {c:el}{g:Option Pk->Nat}(h:im H a c g):im (del H [p]) a c g:=(by obtain⟨kvs,h1,h2⟩:=h;exact⟨kvs,kX hp h1 (λz=>nomatch z),h2⟩)
theorem nX.apart {c:el}(h:nX H a c):nX (del H [p]) a c:=(by obtain⟨kvs,h1,h2⟩:=h;exact⟨kvs,kX hp h1 (λz=>nomatch z),λk hk=>(by obtain⟨v,g1,q,g2,g3⟩:=h2 k hk;exact⟨v,g1,q,g2,jV hp g3 λz=>nomatch z⟩)⟩)
theorem lP.apart {c:el}(h:lP H a c):lP (del H [p]) a c:=(by obtain⟨kvs,h1,h2⟩:=h;exact⟨kvs,kX hp h1 (λz=>nomatch z),h2⟩)
end
theorem AU {CB b st H p C dx}(h:ge CB H b st es)(hp:H p=some (.ins C dx [])):b≠p:=by
 obtain⟨j,d,g,a,i,e,_⟩:=h.ex;refine fh e hp λz=>?_;injection z with _ _ z
 have:=gc d g;rw[z]at this;cases this
theorem i9.upd {d:Addr}{c:el}{w:Option Pk}{k:List (fV×V)}{u:HO}(h:i9 H d c w)(i:H a=some (.dN k)):i9 (upd H a u) d c w:=by
 obtain⟨o,b,e,j,g⟩:=h;exact⟨o,b,by rw[ef (fh e i λz=>nomatch z)];exact e,j,g⟩
theorem xp (e:eD (del H [p]) H'):eD (del H [p]) (del H' [p]):=λa u h=>by
 have na:a≠p:=λz=>by rw[z,fM (by simp)]at h;cases h
 rcases e a u h with z | ⟨z,o,y⟩
 ·exact .inl (by rw[eE (by simpa using na)];exact z)
 ·exact .inr ⟨z,o,by rw[eE (by simpa using na)];exact y⟩
inductive sW (CB CC:Addr)(vs:List V)(H:Hp)(Q:VK)(E:XK):Prop
 |mk (p dx b st:Addr)(es:List En)(sn:List Nd)(_:vs=[.ref p,.ref b])(_:H p=some (.ins CC dx []))(_:ge CB H b st es)(_:gv H st sn)(_:(es.map eU).Nodup)(_:es.length<64)(_:∀w,(gT es sn w).length<=100)(_:∀(c:el) H',c.es=es->c.sn=sn->eD (del H [p]) H'->iF CB CC H' p c->Q .non H')
structure Fe (G H:Hp)(pp C dx aa:Addr)(fs':List (Str×V))(u:HO)(H':Hp):Prop where
 g:eD G H'
 p:H' pp=some (.ins C dx fs')
 a:H' aa=some u
 o:∀b,b≠pp->b≠aa->H' b=H b
 ga:G aa=none
 np:aa≠pp
 keep:∀b v,b≠pp->H b=some v->H' b=some v
theorem ji {fs fs':List (Str×V)}{u:HO}(h:eD G H)(i:G p=none)(hp:H p=some (.ins C dx fs))(d:H a=none):Fe G H p C dx a fs' u (upd (upd H a u) p (.ins C dx fs')):=by
 have j:p≠a:=et hp d;exact⟨(h.upd (h.free d)).upd i,d0,by rw[ef (Ne.symm j)];exact d0,λb g l=>by rw[ef g,ef l],h.free d,Ne.symm j,λb v g e=>by rw[ef g,ef (et e d)];exact e⟩
theorem wG {H:Hp}:∀{nks:List (fV×V)} {es:List En},Paired (mJ H) nks es->nks.map (·.1)=es.map λe=>fA (some (eU e))
 |_,_,.nil=>rfl
 |_,_,.cons h r=>by rw[aG,aG,wG r,h.1];rfl
abbrev IH (b:Addr):List (Str×V):=[("board",.ref b)]
abbrev Hy (b bits:Addr):List (Str×V):=[("board",.ref b),("bits",.ref bits)]
abbrev Hx (b bits by_:Addr):List (Str×V):=[("board",.ref b),("bits",.ref bits),("by_bit",.ref by_)]
theorem JJ (b:Addr):gq ("board":Str) (V.ref b) []=IH b:=by kernel_rfl
theorem JI (b bits:Addr):gq ("bits":Str) (V.ref bits) (IH b)=Hy b bits:=by kernel_rfl
theorem JH (b bits a:Addr):gq ("by_bit":Str) (V.ref a) (Hy b bits)=Hx b bits a:=by kernel_rfl
theorem JG (b bits a d:Addr):gq ("of_part":Str) (V.ref d) (Hx b bits a)=yH b bits a d:=by kernel_rfl
theorem JF (b bits d a e h g:Addr):gq ("foes":Str) (V.ref g) (gq ("shut_out":Str) (V.ref h) (gq ("allowed":Str) (V.ref e) (yH b bits d a)))=EH b bits d a e h g:=by kernel_rfl
section
variable {base:Heap}{f:Addr}
theorem Df:eM ["self","board","who"] ["self","board"] (eB rN):=i4
theorem xT (F:iL K "__init__" "Chart.__init__" rN f fd)(T:TC K mg CC)(c3:TB K mg CB)(MG:Mt P w K mg base CC fB 1 "give_bits" ["self"] (A9 CB CC))(MA:Mt P w K mg base CC fB 3 "allowed_by" ["self","who"] (p0 CB CC))(MS:Mt P w K mg base CC fB 1 "shut_out_by" ["self","who"] (pV CC))(MM:Mt P w K mg base CC fB 2 "make_foes_mutual" ["self"] (sP CC)):fi P w K mg base fB 4 f fd ["self","board"] (sW CB CC):=by
 refine F.ok Df λf3 A fu s H vs Q E hr h=>?_;obtain⟨p,m,b,st,es,sn,rfl,hp,hB,hN,ec,da,fv,q⟩:=h;have hu:=gB hr;refine⟨_,(ee (jN T.cl T.nBoard (pv 0) (pv 1)) (ee (jN T.cl T.nBits (pv 0) (tW er)) (ee (jN T.cl T.nBy (pv 0) gY) (ee (jN T.cl T.nOf (pv 0) gY) (ee (gm (qB MG (hr.mono (by decide)) fE (pv 0))) (ee (jN T.cl T.nAl (pv 0) mx) (ee (jN T.cl T.nSh (pv 0) mx) (ee (jN T.cl T.nFo (pv 0) mx) (ee (fG (rV (eK c3.cl c3.nN (pv 1))) (eL (i:=2) Df.nd) (ee (kZ hu (eK T.cl T.nAl (pv 0)) (pv 2) (il MA hr fE (pv 0) (dZ (pv 2) eg)) rfl) (ee (kZ hu (eK T.cl T.nSh (pv 0)) (pv 2) (il MS (hr.mono (by decide)) fE (pv 0) (dZ (pv 2) eg)) rfl) (eo (kZ hu (eK T.cl T.nFo (pv 0)) (pv 2) (eY hu (eK T.cl T.nSh (pv 0)) (pv 2)) rfl))))) (eo (gm (qB MM (hr.mono (by decide)) fE (pv 0))))))))))))),?_⟩;have a1:del H [p] p=none:=fM (by simp);have f0:=AU hB hp;have B0:=hB.apart hp f0;have N0:=hN.apart hp;generalize dy:del H [p]=G0 at *;have fp:eD G0 H:=by rw[<-dy];exact(fq _ _).toF
 refine⟨_,rfl,_,rfl,p,m,_,rfl,hp,(by decide),?_⟩;generalize c8:upd H p (.ins CC m (gq ("board":Str) (V.ref b) []))=H1;have bl:H1 p=some (.ins CC m (IH b)):=by rw[<-c8,d0,JJ]
 have fl:eD G0 H1:=by rw[<-c8];exact fp.upd a1
 intro bits ap;have ey:p≠bits:=et bl ap;refine⟨d0,_,rfl,p,m,_,rfl,(by rw[i6,ef ey];exact bl),(by show 1<1000;decide),?_⟩;rw[i6,JI];have A2:=ji (fs':=Hy b bits) (u:=.dN [(none,.int 0)]) fl a1 bl ap;generalize upd (upd H1 bits (.dN [(none,.int 0)])) p (.ins CC m (Hy b bits))=Z at A2 ⊢;intro j c6;have e5:p≠j:=et A2.p c6;refine⟨_,rfl,p,m,_,rfl,(by rw[ef e5];exact A2.p),(by show 2<1000;decide),?_⟩;rw[JH];have A3:=ji (fs':=Hx b bits j) (u:=.dK []) A2.g a1 A2.p c6;generalize upd (upd Z j (.dK [])) p (.ins CC m (Hx b bits j))=M at A3 ⊢;intro l as;have ej:p≠l:=et A3.p as;refine⟨_,rfl,p,m,_,rfl,(by rw[ef ej];exact A3.p),(by show 3<1000;decide),?_⟩;rw[JG];have A4:=ji (fs':=yH b bits j l) (u:=.dK []) A3.g a1 A3.p as;generalize upd (upd M l (.dK [])) p (.ins CC m (yH b bits j l))=H4 at A4 ⊢;have a7:=A4.keep _ _ A2.np (A3.keep _ _ A2.np A2.a);have d1:=A4.keep _ _ A3.np A3.a;refine⟨_,rfl,p,m,_,rfl,A4.p,(by kernel_rfl),p,m,b,bits,j,l,st,es,sn,rfl,A4.p,B0.f A4.g,ec,da,a7,d1,A4.a,et A3.a as,λc H5 c1 c2 bv M5 fy eq=>?_⟩;subst c1;subst c2;have ct:eD G0 H5:=λa u e=>by
  rcases A4.g a u e with z | ⟨z1,o,z2⟩
  ·refine bv a u ?_
   rw[eE (by
    simp only[am,aR,or_false,not_or]
    exact⟨(λy=>by rw[y,A2.ga]at e;cases e),(λy=>by rw[y,A3.ga]at e;cases e),(λy=>by rw[y,A4.ga]at e;cases e)⟩)]
   exact z
  ·refine .inr ⟨z1,o,bv.frz ?_⟩
   rw[eE (by
    simp only[am,aR,or_false,not_or]
    exact⟨(λy=>by rw[y,A2.ga]at e;cases e),(λy=>by rw[y,A3.ga]at e;cases e),(λy=>by rw[y,A4.ga]at e;cases e)⟩)]
   exact z2
 have C:H5 p=some (.ins CC m (yH b bits j l)):=bv.ins (by
  rw[eE (by
    simp only[am,aR,or_false,not_or]
    exact⟨Ne.symm A2.np,Ne.symm A3.np,Ne.symm A4.np⟩)]
  exact A4.p)
 have cd:del H5 [p] p=none:=fM (by simp);have ek:eD (del H5 [p]) H5:=(fq _ _).toF;have gg:eD G0 (del H5 [p]):=by
  rw[<-dy]at ct ⊢;exact xp ct
 have M1:=M5.apart C;have cv:=fy.apart C;have c5:=eq.apart C;generalize f4:del H5 [p]=G1 at *;have B1:=B0.f gg;have N1:=N0.f gg;intro r cy;have fk:p≠r:=et C cy;refine⟨_,rfl,p,m,_,rfl,(by rw[ef fk];exact C),(by show 4<1000;decide),?_⟩;have R:=ji (fs':=gq ("allowed":Str) (V.ref r) (yH b bits j l)) (u:=.dN []) ek cd C cy;generalize upd (upd H5 r (.dN [])) p (.ins CC m (gq ("allowed":Str) (V.ref r) (yH b bits j l)))=H6 at R ⊢;intro B cp;have fr:p≠B:=et R.p cp;refine⟨_,rfl,p,m,_,rfl,(by rw[ef fr];exact R.p),(by show 5<1000;decide),?_⟩;have U:=ji (fs':=gq ("shut_out":Str) (V.ref B) (gq ("allowed":Str) (V.ref r) (yH b bits j l))) (u:=.dN []) R.g cd R.p cp;generalize upd (upd H6 B (.dN [])) p (.ins CC m (gq ("shut_out":Str) (V.ref B) (gq ("allowed":Str) (V.ref r) (yH b bits j l))))=H7 at U ⊢;intro G a5;have eh:p≠G:=et U.p a5;refine⟨_,rfl,p,m,_,rfl,(by rw[ef eh];exact U.p),(by show 6<1000;decide),?_⟩;rw[JF];have Y:=ji (fs':=EH b bits j l r B G) (u:=.dN []) U.g cd U.p a5;generalize upd (upd H7 G (.dN [])) p (.ins CC m (EH b bits j l r B G))=H8 at Y ⊢;have d6:=Y.keep _ _ R.np (U.keep _ _ R.np R.a);have c9:=Y.keep _ _ U.np U.a;have cz:=Y.a;have eb:r≠B:=et R.a cp;have b9:r≠G:=et (U.keep _ _ R.np R.a) a5;have ba:B≠G:=et U.a a5;obtain⟨bx,dn,dv,ah,vk,b1,b2,b3,b4,b5⟩:=id B1.ex;have ln:=Paired.length b3;have ft:=Y.g.rd b2;have bm:G1 dn≠none:=λz=>by rcases b2 with y | ⟨o,y⟩ <;> (rw[z]at y;cases y)
 have d4:dn≠r:=λz=>bm (by rw[z];exact R.ga);have d5:dn≠B:=λz=>bm (by rw[z];exact U.ga);have c0:dn≠G:=λz=>bm (by rw[z];exact Y.ga);refine⟨_,rfl,b,bx,_,_,rfl,Y.g.ins b1,gc _ _,dn,_,rfl,ft,λo H9 d9 an e8=>?_⟩;have c4:H9 r=some (.dN []):=by rw[an r (Ne.symm d4)];exact d6
 have ds:H9 B=some (.dN []):=by rw[an B (Ne.symm d5)];exact c9
 have d8:H9 G=some (.dN []):=by rw[an G (Ne.symm c0)];exact cz
 have ew:eD G1 H9:=Y.g.trans d9;have fx:=d9.ins Y.p
 let ws:List (Option Pk):=none::c.es.map λe=>some (eU e)
 have dd:((none,V.ref st)::ah).map (·.1)=ws.map fA:=by
  rw[aG,wG b3];show _=fA none::(c.es.map λe=>some (eU e)).map fA;rw[cC];rfl
 have dc:((none,V.ref st)::ah).length=ws.length:=by
  have:=congrArg List.length dd;rw[ab,ab]at this;exact this
 have f2:ws.length<=64:=by
  show(none::c.es.map λe=>some (eU e)).length<=64;rw[aE,ab];lia
 have ag:∀w∈ws,c.Who w:=λw L k e=>by
  subst e;rcases am.mp L with z | z
  ·cases z
  ·obtain⟨e,he,z⟩:=aw.mp z;exact(c.mem k).mpr (Option.some.inj z▸bn he)
 have N:∀w,c.Who w->w∈ws:=λw L=>by
  cases w with
  |none=>exact bt
  |some k=>
   obtain⟨e,he,z⟩:=aw.mp ((c.mem k).mp (L k rfl));exact bc _ (aw.mpr ⟨e,he,by rw[z]⟩)
 have ed:ws.Nodup:=by
  refine aY.mpr ⟨λz=>?_,?_⟩
  ·obtain⟨e,_,z⟩:=aw.mp z;cases z
  ·have:(c.es.map λe=>some (eU e))=(c.es.map eU).map some:=by rw[cC];rfl
   rw[this];exact cw.mpr (ec.imp λh z=>h (Option.some.inj z))
 have cn:c.n<64:=by rw[c.n_eq];exact da
 refine vE (kvs:=(none,.ref st)::ah) (λi σ Z=>∃I D kf o2,σ=[some (.ref p),some (.ref b),o2]/\Z p=some (.ins CC m (EH b bits j l r B G))/\Z dn=some (.frz o (.dN ((none,.ref st)::ah)))/\Z r=some (.dN I)/\Z B=some (.dN D)/\Z G=some (.dN kf)/\I.length<=i/\D.map (·.1)=(ws.take i).map fA/\kf.map (·.1)=(ws.take i).map fA/\(∀w∈ws.take i,(∃d,eV I (fA w)=some (.ref d)/\i9 Z d c w)/\eV D (fA w)=some (.int (c.Lh w))/\eV kf (fA w)=some (.int (c.Lh w)))/\eD G1 Z)
  ⟨[],[],[],none,rfl,fx,e8,c4,ds,d8,ao _,by simp,by simp,λw L=>by simp at L,ew⟩ ((by rintro i σ Z _ ⟨_,_,_,_,_,_,e,_⟩;exact e)) ?_ ?_
 ·rintro i kv x σ Z hi kx ⟨I,D,kf,o2,rfl,J,dl,cs,bd,a2,la,X,lf,t,g2⟩;have d7:(((none,V.ref st)::ah).map (·.1))[i]?=some kv.1:=by rw[ae,hi];rfl
  rw[dd,ae]at d7;obtain⟨v,hv,ev⟩:=az.mp d7;rw[<-ev]at kx;have a4:=gU.of kx;have ez:=ai hv;have e7:=ag v ez;have f8:i<64:=by
   have:=(af.mp hv).1
   lia
  have ht:ws.take (i+1)=ws.take i++[v]:=by rw[aX,hv];rfl
  have ea:v∉ws.take i:=λz=>by
   obtain⟨i',ad⟩:=aC.mp z;rw[b0]at ad
   split at ad
   ·next hlt2=>
    have:=(ce (af.mp ad).1 ed).mp (ad.trans hv.symm)
    lia
   ·cases ad
  have Ht:kf.length<=i:=by
   have:=congrArg List.length lf;rw[ab,ab,aT]at this
   lia
  have f1:D.length<=i:=by
   have:=congrArg List.length X;rw[ab,ab,aT]at this
   lia
  refine⟨_,rfl,p,m,_,rfl,J,(by kernel_rfl),_,rfl,p,m,b,bits,st,_,x,c,v,rfl,J,(by kernel_rfl),(by kernel_rfl),B1.f g2,N1.f g2,M1.f g2,e7,a4,cn,fv v,λd M s3 hd e0=>?_⟩;have f6:p≠d:=et J hd;have a8:=s3 _ _ J;have a3:=s3 _ _ cs;have e9:lQ M (fA v) x:=(a4.same s3).key;refine⟨_,rfl,p,m,_,_,rfl,a8,(by kernel_rfl),_,rfl,r,_,rfl,lF.of (k:=fA v) a3 e9 (eO (by lia)),?_⟩;have g3:eD G1 M:=g2.trans s3.toF;have g4:eD G1 (upd M r (.dN (fm I (fA v) (.ref d)))):=g3.upd R.ga;have c7:upd M r (.dN (fm I (fA v) (.ref d))) r=some (.dN (fm I (fA v) (.ref d))):=d0;have bf:i9 (upd M r (.dN (fm I (fA v) (.ref d)))) d c v:=e0.upd a3;have k4:∀{a u},a≠r->M a=some u->upd M r (.dN (fm I (fA v) (.ref d))) a=some u:=λ{a u} n e=>by rw[ef n];exact e
  have b7:∀w∈ws.take i,∃d',eV I (fA w)=some (.ref d')/\i9 (upd M r (.dN (fm I (fA v) (.ref d)))) d' c w:=λw L=>by
   obtain⟨⟨d',e1,O⟩,_⟩:=t w L;exact⟨d',e1,(O.same s3).upd a3⟩
  have a9:gU (upd M r (.dN (fm I (fA v) (.ref d)))) x v:=by
   cases v with
   |none=>exact a4
   |some kk=>
    obtain⟨q0,e1,O⟩:=(show fg Z x kk from a4);exact⟨q0,e1,k4 (fh (s3 _ _ O) a3 λz=>nomatch z) (s3 _ _ O)⟩
  have a0:=k4 (Ne.symm R.np) a8;have a6:=k4 (Ne.symm eb) (s3 _ _ bd);have fa:=k4 (Ne.symm b9) (s3 _ _ a2);have e6:=k4 d4 (s3 _ _ dl)
  clear_value ws
  generalize f7:upd M r (.dN (fm I (fA v) (.ref d)))=H4 at *;refine⟨_,rfl,p,m,_,rfl,a0,(by kernel_rfl),_,rfl,p,m,r,l,d,_,x,c,v,rfl,a0,(by kernel_rfl),(by kernel_rfl),⟨_,fA v,.inl c7,a9.key,by rw[gi,ax rfl]⟩,bf,c5.f g4,?_⟩;refine⟨_,rfl,p,m,_,_,rfl,a0,(by kernel_rfl),_,rfl,B,_,rfl,lF.of (k:=fA v) a6 a9.key (eO (by lia)),?_⟩;have g5:eD G1 (upd H4 B (.dN (fm D (fA v) (.int (c.Lh v))))):=g4.upd U.ga;have k5:∀{a u},a≠B->H4 a=some u->upd H4 B (.dN (fm D (fA v) (.int (c.Lh v)))) a=some u:=λ{a u} n e=>by rw[ef n];exact e
  have d3:upd H4 B (.dN (fm D (fA v) (.int (c.Lh v)))) B=some (.dN (fm D (fA v) (.int (c.Lh v)))):=d0;have C:=k5 (Ne.symm U.np) a0;have em:=k5 eb c7;have co:=k5 (Ne.symm ba) fa;have fw:=k5 d5 e6;have d2:gU (upd H4 B (.dN (fm D (fA v) (.int (c.Lh v))))) x v:=by
   cases v with
   |none=>exact a9
   |some kk=>
    obtain⟨q0,e1,O⟩:=(show fg H4 x kk from a9);exact⟨q0,e1,k5 (fh O a6 λz=>nomatch z) O⟩
  have cx:=bf.upd (u:=.dN (fm D (fA v) (.int (c.Lh v)))) a6;have b6:∀w∈ws.take i,∃d,eV I (fA w)=some (.ref d)/\i9 (upd H4 B (.dN (fm D (fA v) (.int (c.Lh v))))) d c w:=λw L=>by
   obtain⟨d',e1,O⟩:=b7 w L;exact⟨d',e1,O.upd a6⟩
  generalize f5:upd H4 B (.dN (fm D (fA v) (.int (c.Lh v))))=H5' at *;refine⟨_,rfl,p,m,_,_,rfl,C,(by kernel_rfl),_,rfl,B,_,rfl,⟨_,fA v,.inl d3,d2.key,by rw[gi,ax rfl]⟩,_,rfl,p,m,_,_,rfl,C,(by kernel_rfl),_,rfl,G,_,rfl,lF.of (k:=fA v) co d2.key (eO (by lia)),?_⟩;have k6:∀{a u},a≠G->H5' a=some u->upd H5' G (.dN (fm kf (fA v) (.int (c.Lh v)))) a=some u:=λ{a u} n e=>by rw[ef n];exact e
  refine⟨_,_,_,_,rfl,k6 (Ne.symm Y.np) C,k6 c0 fw,k6 b9 em,k6 ba d3,d0,?_,?_,?_,λu S=>?_,g5.upd Y.ga⟩
  ·have:=fZ I (fA v) (V.ref d);lia
  ·have bq:eV D (fA v)=none:=by
    cases hq:eV D (fA v) with
    |none=>rfl
    |some u=>
     have:=iP hq;rw[X]at this;obtain⟨y,hy,e⟩:=aw.mp this;rw[iw e]at hy;exact absurd hy ea
   rw[ii _ bq,ay,X,ht,ay];rfl
  ·have bq:eV kf (fA v)=none:=by
    cases hq:eV kf (fA v) with
    |none=>rfl
    |some u=>
     have:=iP hq;rw[lf]at this;obtain⟨y,hy,e⟩:=aw.mp this;rw[iw e]at hy;exact absurd hy ea
   rw[ii _ bq,ay,lf,ht,ay];rfl
  ·rw[gi,gi,gi];by_cases eu:u=v
   ·subst eu;rw[ax rfl,ax rfl,ax rfl];exact⟨⟨d,rfl,cx.upd co⟩,rfl,rfl⟩
   ·have ne:¬fA u=fA v:=λz=>eu (iw z);rw[av ne,av ne,av ne];have dp:u∈ws.take i:=by
     rw[ht]at S;exact(aD.mp S).elim id λz=>absurd (aj.mp z) eu
    obtain⟨d',e1,O⟩:=b6 u dp;exact⟨⟨d',e1,O.upd co⟩,(t u dp).2⟩
 ·rintro σ Z ⟨I,D,kf,o2,rfl,J,dl,cs,bd,a2,la,X,lf,t,g2⟩;rw[dc,aI]at X t lf;rw[dc]at la;have Ht:kf.length<=64:=by
   have:=congrArg List.length lf;rw[ab,ab]at this
   lia
  have ei:bits≠G:=λz=>by
   obtain⟨kvs,y,_⟩:=M1;rw[z]at y;rcases y with y | ⟨o',y⟩ <;> (rw[Y.ga]at y;cases y)
  refine⟨_,rfl,p,m,_,rfl,J,(by kernel_rfl),p,m,b,bits,j,l,r,B,G,c,D,kf,rfl,J,M1.f g2,cv.f g2,cn,ei,ba,bd,λkv b8=>?_,λw L=>(t w (N w L)).2.1,a2,Ht,λkv b8=>?_,λw L=>(t w (N w L)).2.2,λM aa e4=>?_⟩
  ·have:kv.1∈D.map (·.1):=bn b8;rw[X]at this;obtain⟨u,ch,S⟩:=aw.mp this;exact⟨u,ag u ch,S.symm⟩
  ·have:kv.1∈kf.map (·.1):=bn b8;rw[lf]at this;obtain⟨u,ch,S⟩:=aw.mp this;exact⟨u,ag u ch,S.symm⟩
  ·have g3:eD G1 M:=λa u e=>by
    have na:a≠G:=λz=>by rw[z,Y.ga]at e;cases e
    rcases g2 a u e with z | ⟨z1,o',z2⟩
    ·exact aa a u (by rw[eE (by simpa using na)];exact z)
    ·exact .inr ⟨z1,o',aa.frz (by rw[eE (by simpa using na)];exact z2)⟩
   have a8:=aa.ins (b:=p) (by rw[eE (by simpa using eh)];exact J);refine q c M rfl rfl (gg.trans g3) ⟨m,b,bits,j,l,r,B,G,st,a8,B1.f g3,N1.f g3,M1.f g3,cv.f g3,c5.f g3,?_,?_,e4⟩
   ·refine⟨I,aa.rd (.inl (by rw[eE (by simpa using b9)];exact cs)),λw L=>?_⟩;obtain⟨⟨d,e1,o',ep,O,e3⟩,_⟩:=t w (N w L);exact⟨d,e1,o',ep,aa.frz (by rw[eE (by simpa using fh O a2 λz=>nomatch z)];exact O),e3⟩
   ·exact⟨D,aa.rd (.inl (by rw[eE (by simpa using ba)];exact bd)),λw L=>(t w (N w L)).2.1⟩
end
inductive CN (CB CC CL:Addr)(vs:List V)(H:Hp)(Q:VK)(E:XK):Prop
 |mk (G:Hp)(p ch:Addr)(c:el)(L:ir)(O:List Addr)(m:Nat)(r:V)(rr:Rs)(_:vs=[.ref p,.int (m:Int),r])(_:eD G H)(_:iF CB CC G ch c)(_:gy CL G H p ch c L O)(_:nE G r rr)(_:m<2^c.n)(_:c.n<64)(_:L.length<sizeLine)(_:∀j,mR L m=some j->Q (.int (j:Nat)) H)(_:mR L m=none->∀H' O',iK G H O G H' O'->gy CL G H' p ch c (L++[(m,rr)]) O'->Q (.int (L.length:Nat)) H')
theorem Jn {b c d:Addr}{l:List Addr}(h:(a::b::c::d::l).Nodup):a≠b/\a≠c/\a≠d/\b≠c/\b≠d/\c≠d/\a∉l/\b∉l/\c∉l/\d∉l:=by
 simp only[aY,am,not_or]at h;obtain⟨⟨p,m,s,o⟩,⟨r,g,q⟩,⟨j,i⟩,e,_⟩:=h;exact⟨p,m,s,r,g,j,o,q,i,e⟩
theorem ur {c:el}(h:iF CB CC H p c):∃dx by_ fs,H p=some (.ins CC dx fs)/\fs.lookup ("by_bit":Str)=some (V.ref by_)/\nX H by_ c/\fs.lookup ("listed":Str)=none:=by
 obtain⟨dx,b,bits,by_,a,o,r,i,l,d,j,q,m,e,g⟩:=h.ex;exact⟨dx,by_,_,d,(by kernel_rfl),e,(by kernel_rfl)⟩
theorem mn (e:eF H H'){u:HO}(h:H a=some u):H' a=H a:=(e a u h).trans h.symm
theorem pz {α:Type}{l:List α}(hn:l.Nodup){k:α}(h:l[j]?=some k):k∉l.take j:=λz=>by
 obtain⟨i',hi'⟩:=aC.mp z;rw[b0]at hi'
 split at hi'
 ·next hlt2=>
  have:=(ce (af.mp hi').1 hn).mp (hi'.trans h.symm)
  lia
 ·cases hi'
theorem fH {α:Type}{l:List α}{k:α}(h:l[j]?=some k):l.take (j+1)=l.take j++[k]:=by rw[aX,h];rfl
section
variable {base:Heap}{f:Addr}
theorem DH:eM ["self","mask","reason","place","pick"] ["self","mask","reason"] (eB DR):=i4
theorem D5 (F:iL K "put_down" "Ledger.put_down" DR f fd)(T:TL K mg CL)(ML:Mt P w K mg base CC fB 1 "listed" ["self","mask"] (j4 CC)):fi P w K mg base fB 2 f fd ["self","mask","reason"] (CN CB CC CL):=by
 refine F.ok DH λep A ec s H vs Q E hr h=>?_;obtain⟨G,p,ch,c,L,O,m,r,rr,rfl,gh,hC,Z,hR,hm,d9,cp,q1,q2⟩:=h;have hu:=gB hr;refine⟨_,(ee (fz (hJ (jD hu (pv 1) (eK T.cl T.nPm (pv 0)))) (ee (eJ (i:=3) DH.nd (eW fj rfl T.len bp (dZ (eK T.cl T.nMa (pv 0)) eg))) (ee (gm (ju PySem.F.plainAttrs_list PySem.F.slot_list_append PySem.F.type_list_append gR (eK T.cl T.nMa (pv 0)) (dZ (pv 1) eg))) (ee (gm (ju PySem.F.plainAttrs_list PySem.F.slot_list_append PySem.F.type_list_append gR (eK T.cl T.nRe (pv 0)) (dZ (pv 2) eg))) (ee (iD hu (eK T.cl T.nPm (pv 0)) (pv 1) (pv 3) rfl) (eo (fG (fD (il ML hr fE (eK T.cl T.nCh (pv 0)) (dZ (pv 1) eg))) (eL (i:=4) DH.nd) (eo (gm (ju PySem.F.plainAttrs_list PySem.F.slot_list_append PySem.F.type_list_append gR (xz hu (eK T.cl T.nPp (pv 0)) (pv 4) (gM eg) ⟨rfl,rfl,rfl,rfl⟩) (dZ (pv 3) eg)))))))))) eP) (eo (eQ (gN hu (eK T.cl T.nPm (pv 0)) (pv 1))))),?_⟩;obtain⟨dx,M,N,I,J,U,rs,Ol,rfl,hp,cy,dn,dl,c2,es,c6,bx,kl,hB⟩:=id Z.ex;have an:H p=some (.ins CL dx (Aq ch M N I J)):=gh.ins hp;obtain⟨n1,n2,n3,n4,n5,n6,n7,n8,n9,ek⟩:=Jn Z.nd;have ct:iu H I (.int (m:Int)) ((mR L m).map λi=>V.int (i:Nat)):=.inl ⟨U,Sum.inl (m:Int),.inl c2,rfl,(c6 m).symm⟩;refine⟨_,rfl,_,rfl,p,dx,_,_,rfl,an,(by kernel_rfl),I,_,rfl,ct,_,rfl,?_⟩;cases hpos:mR L m with
 |some j=>
  rw[hpos]at ct;exact ff ⟨_,rfl,p,dx,_,_,rfl,an,(by kernel_rfl),_,rfl,I,_,rfl,ct,q1 j hpos⟩
 |none=>
  refine gW ?_;have dy:p∉M::N::I::J::Ol:=λz=>by rw[Z.off p z]at hp;cases hp
  have cz:∀{a},a∈M::N::I::J::Ol->p≠a:=λ{a} h z=>dy (z▸h);have c3:p≠M:=cz (by simp);have ed:p≠N:=cz (by simp);have ei:p≠I:=cz (by simp);have lL:(gZ (L.map (·.1))).length=L.length:=by unfold gZ;rw[ab,ab]
  have d8:rs.length=L.length:=by rw[Paired.length dl,ab]
  refine⟨_,rfl,p,dx,_,_,rfl,an,(by kernel_rfl),M,_,rfl,.inl (eX.of cy),?_⟩;rw[lL];refine⟨_,rfl,p,dx,_,V.ref M,rfl,an,(by kernel_rfl),.inl ⟨rfl,_,eX.of cy⟩,_,rfl,M,_,_,rfl,rfl,cy,(by rw[lL];exact cp),?_⟩;refine⟨_,rfl,p,dx,_,V.ref N,rfl,(by rw[ef c3];exact an),(by kernel_rfl),.inl ⟨rfl,_,eX.of (by rw[ef (Ne.symm n1)];exact dn)⟩,_,rfl,N,_,_,rfl,rfl,(by rw[ef (Ne.symm n1)];exact dn),(by rw[d8];exact cp),?_⟩;refine⟨_,rfl,_,rfl,p,dx,_,_,rfl,(by rw[ef ed,ef c3];exact an),(by kernel_rfl),_,rfl,I,_,rfl,kP.k (k:=Sum.inl (m:Int)) (by rw[ef (Ne.symm n4),ef (Ne.symm n2)];exact c2) (by lia),?_⟩;have b6:upd (upd (upd H M (.lst (gZ (L.map (·.1))++[.int (m:Int)]))) N (.lst (rs++[r]))) I (.dK (fm U (Sum.inl (m:Int)) (.int (L.length:Nat)))) M=some (.lst (gZ ((L++[(m,rr)]).map (·.1)))):=by
   rw[ef n2,ef n1,d0];unfold gZ;rw[ay,ay];rfl
  have bv:upd (upd (upd H M (.lst (gZ (L.map (·.1))++[.int (m:Int)]))) N (.lst (rs++[r]))) I (.dK (fm U (Sum.inl (m:Int)) (.int (L.length:Nat)))) N=some (.lst (rs++[r])):=by rw[ef n4,d0]
  have bd:upd (upd (upd H M (.lst (gZ (L.map (·.1))++[.int (m:Int)]))) N (.lst (rs++[r]))) I (.dK (fm U (Sum.inl (m:Int)) (.int (L.length:Nat)))) I=some (.dK (fm U (Sum.inl (m:Int)) (.int (L.length:Nat)))):=d0;have X:∀b,b≠M->b≠N->b≠I->upd (upd (upd H M (.lst (gZ (L.map (·.1))++[.int (m:Int)]))) N (.lst (rs++[r]))) I (.dK (fm U (Sum.inl (m:Int)) (.int (L.length:Nat)))) b=H b:=λb b1 b2 b3=>by rw[ef b3,ef b2,ef b1]
  generalize upd (upd (upd H M (.lst (gZ (L.map (·.1))++[.int (m:Int)]))) N (.lst (rs++[r]))) I (.dK (fm U (Sum.inl (m:Int)) (.int (L.length:Nat))))=H3 at b6 bv bd X ⊢;have c8:eF (del H (M::N::I::J::Ol)) H3:=λa u e=>by
   have na:a∉M::N::I::J::Ol:=λz=>by rw[fM z]at e;cases e
   rw[eE na]at e;simp only[am,not_or]at na;rw[X a na.1 na.2.1 na.2.2.1];exact e
  have g3:eD G H3:=iy gh Z.off c8.toF;have co:qU H3 c J (c.plc L) Ol bx kl:=hB.keep (X J (Ne.symm n3) (Ne.symm n5) (Ne.symm n6)) λa g=>X a (λz=>n7 (z▸g)) (λz=>n8 (z▸g)) (λz=>n9 (z▸g));have d6:∀a,H3 a=none->H a=none:=λa e=>by
   by_cases z1:a=M
   ·rw[z1,b6]at e;cases e
   by_cases z2:a=N
   ·rw[z2,bv]at e;cases e
   by_cases z3:a=I
   ·rw[z3,bd]at e;cases e
   rw[<-X a z1 z2 z3];exact e
  obtain⟨cx,ds,eu,c5,d5,ea,d4⟩:=ur (hC.f g3);refine⟨_,rfl,p,dx,_,_,rfl,g3.ins hp,(by kernel_rfl),ch,cx,_,rfl,c5,d4,_,rfl,H3,ch,cx,ds,_,c,m,rfl,eD.refl _,c5,d5,ea,d9,hm,λl xs H4 s4 hl c9 dd dv=>?_⟩;refine⟨l,rfl,⟨_,eX.of c9⟩,?_⟩;have lx:xs.length=(c.listed m).length:=Paired.length dd;have c7:l∉M::N::I::J::Ol:=λz=>by
   simp only[am]at z;rcases z with z | z | z | z | z
   ·rw[z,b6]at hl;cases hl
   ·rw[z,bv]at hl;cases hl
   ·rw[z,bd]at hl;cases hl
   ·rw[z,co.d]at hl;cases hl
   ·obtain⟨u,C⟩:=Z.liv l (by simp[z]);rw[X l (λy=>n7 (y▸z)) (λy=>n8 (y▸z)) (λy=>n9 (y▸z)),C]at hl;cases hl
  have h4:∀a u,H3 a=some u->H4 a=some u:=s4;have d7:eF (del H (M::N::I::J::Ol)) H4:=c8.trans s4;refine fQ (K:=K) (a:=l) (xs:=xs) (λj σ R=>∃bx kl Ol' o4,σ=[some (.ref p),some (.int (m:Int)),some r,some (.int (L.length:Nat)),o4]/\qU R c J (λk=>c.plc L k++if k∈(c.listed m).take j then [L.length] else []) Ol' bx kl/\(M::N::I::J::Ol').Nodup/\(∀a∈Ol',a∈Ol\/H a=none)/\(∀a∈Ol',G a=none)/\(∀a∈Ol',∃u,R a=some u)/\(∀a∈Ol',∀u,R a=some u->¬uD u)/\l∉Ol'/\R M=some (.lst (gZ ((L++[(m,rr)]).map (·.1))))/\R N=some (.lst (rs++[r]))/\R I=some (.dK (fm U (Sum.inl (m:Int)) (.int (L.length:Nat))))/\R l=some (.lst xs)/\eF (del H (M::N::I::J::Ol)) R/\(∀v k,fg H3 v k->fg R v k)/\∀a,R a=none->H a=none)
   ⟨bx,kl,Ol,none,rfl,?_,Z.nd,λa g=>.inl g,λa g=>Z.off a (by simp[g]),λa g=>?_,λa g u dp=>?_,λz=>c7 (by simp[z]),h4 _ _ b6,h4 _ _ bv,h4 _ _ bd,c9,d7,(by rintro v k ⟨q,e1,e2⟩;exact⟨q,e1,h4 _ _ e2⟩),λa e=>d6 a (s4.free e)⟩ ((by rintro j σ R _ ⟨_,_,_,_,_,_,_,_,_,_,_,_,_,_,_,e,_⟩;exact eX.of e)) ?_ ?_
  ·refine(co.keep (mn s4 co.d) λa g=>?_).fn λk hk=>?_
   ·obtain⟨u,C⟩:=Z.liv a (by simp[g]);exact mn s4 ((X a (λz=>n7 (z▸g)) (λz=>n8 (z▸g)) (λz=>n9 (z▸g))).trans C)
   ·rw[cZ,av (λz=>nomatch z),bW]
  ·obtain⟨u,C⟩:=Z.liv a (by simp[g]);exact⟨u,s4 _ _ ((X a (λz=>n7 (z▸g)) (λz=>n8 (z▸g)) (λz=>n9 (z▸g))).trans C)⟩
  ·obtain⟨v,c4⟩:=Z.liv a (by simp[g]);have e4:=s4 _ _ ((X a (λz=>n7 (z▸g)) (λz=>n8 (z▸g)) (λz=>n9 (z▸g))).trans c4);rw[dp]at e4;cases e4;exact Z.nf a (by simp[g]) _ c4
  ·rintro j x σ R hj ⟨D,cs,Y,o4,rfl,B5,ap,as,al,S,b5,ba,ah,ag,aa,bq,ad,bm,a0⟩;obtain⟨k,bf,eb⟩:=Paired.Kq dd hj;obtain⟨kq,rfl,da⟩:=bm _ _ eb;have cv:=(el.Kx.mp (ai bf)).1;have cn:=pz (c.KH m) bf;have g5:eD G R:=iy gh Z.off ad.toF;have b4:=g5.ins hp;obtain⟨m1,m2,m3,m4,m5,m6,m7,m8,m9,b7⟩:=Jn ap;have gk:(c.plc L k++if k∈(c.listed m).take j then [L.length] else [])=c.plc L k:=by rw[av cn,bW]
   have lk:(gZ (c.plc L k++if k∈(c.listed m).take j then [L.length] else [])).length<sizeLine:=by
    rw[gk];unfold gZ;rw[ab];exact bI (c.Lv k L 0) cp
   refine⟨_,rfl,p,dx,_,V.ref J,rfl,b4,(by kernel_rfl),J,rfl,⟨_,.inl B5.d⟩,_,rfl,tH,λB t=>?_⟩;have st:=eA t (.lst []);have bl:B≠J:=λz=>by rw[z,B5.d]at t;cases t
   have b8:B∉Y:=λz=>by obtain⟨u,C⟩:=S B z;rw[C]at t;cases t
   have c0:B≠M:=λz=>by rw[z,ah]at t;cases t
   have dc:B≠N:=λz=>by rw[z,ag]at t;cases t
   have b9:B≠I:=λz=>by rw[z,aa]at t;cases t
   have c1:B≠l:=λz=>by rw[z,bq]at t;cases t
   have eq:B≠kq:=λz=>by rw[z,da]at t;cases t
   have ej:=B5.len;refine⟨D,fA (some k),st _ _ B5.d,⟨kq,rfl,st _ _ da⟩,eO (by lia),λv hv=>?_,λhn=>?_⟩
   ·have B6:qU (upd R B (.lst [])) c J _ Y D cs:=B5.keep (mn st B5.d) λa g=>by obtain⟨u,C⟩:=S a g;exact mn st C
    obtain⟨l',e1⟩:∃l',v=.ref l':=by
     rcases B5.val k cv with ⟨z,_⟩ | ⟨l',z1,_⟩
     ·rw[hv]at z;cases z
     ·rw[hv]at z1;cases z1;exact⟨l',rfl⟩
    subst e1;obtain⟨i1,i2,i3⟩:=B6.old (i:=L.length) cv hv b7;refine⟨.inl ⟨rfl,_,eX.of i2⟩,_,rfl,l',_,_,rfl,rfl,i2,lk,?_⟩;have d2:∀{a},a∉Y->a≠l':=λ{a} h z=>h (z▸i1);have eh:l'∉M::N::I::J::Y->False:=λz=>z (by simp[i1]);have k6:∀{a u},a∉Y->R a=some u->upd (upd R B (.lst [])) l' (.lst (gZ (c.plc L k++if k∈(c.listed m).take j then [L.length] else [])++[.int (L.length:Nat)])) a=some u:=λ{a u} h e=>by rw[ef (d2 h)];exact st _ _ e
    refine⟨_,_,_,_,rfl,i3.fn λy hy=>?_,ap,as,al,λa g=>?_,λa g v o=>?_,ba,k6 m7 ah,k6 m8 ag,k6 m9 aa,k6 ba bq,λa u e=>?_,λv y hy=>?_,λa e=>?_⟩
    ·rw[fH bf];by_cases ey:y=k
     ·subst ey;rw[ax rfl,av cn,bW,ax (by simp)]
     ·rw[av ey]
      congr 1
      simp only[aD,aj,ey,or_false]
    ·by_cases z:a=l'
     ·exact⟨_,by rw[z];exact d0⟩
     ·obtain⟨u,C⟩:=S a g;exact⟨u,by rw[ef z];exact st _ _ C⟩
    ·by_cases z:a=l'
     ·rw[z,d0]at o;cases o;exact λq=>q
     ·obtain⟨u,C⟩:=S a g;rw[ef z,st _ _ C]at o;cases o;exact b5 a g _ C
    ·have na:a≠l':=λz=>by
      rcases as l' i1 with y | y
      ·rw[z,fM (by simp[y])]at e;cases e
      ·have:=fq _ _ a u e;rw[z,y]at this;cases this
     rw[ef na];exact st _ _ (ad _ _ e)
    ·obtain⟨yq,y1,y2⟩:=bm v y hy;exact⟨yq,y1,by rw[ef (fh (st _ _ y2) i2 λz=>nomatch z)];exact st _ _ y2⟩
    ·by_cases z:a=l'
     ·rw[z,d0]at e;cases e
     ·rw[ef z]at e;exact a0 a (st.free e)
   ·have cd:upd (upd R B (.lst [])) J (.dN (fm D (fA (some k)) (.ref B))) B=some (.lst []):=by rw[ef bl];exact d0
    refine⟨.inl ⟨rfl,_,eX.of cd⟩,_,rfl,B,_,_,rfl,rfl,cd,(by show 0<sizeLine;decide),?_⟩;have e1:upd (upd (upd R B (.lst [])) J (.dN (fm D (fA (some k)) (.ref B)))) B (.lst ([]++[.int (L.length:Nat)])) J=some (.dN (fm D (fA (some k)) (.ref B))):=by rw[ef (Ne.symm bl),d0]
    have e2:upd (upd (upd R B (.lst [])) J (.dN (fm D (fA (some k)) (.ref B)))) B (.lst ([]++[.int (L.length:Nat)])) B=some (.lst [.int (L.length:Nat)]):=d0;have e3:∀b,b≠J->b≠B->upd (upd (upd R B (.lst [])) J (.dN (fm D (fA (some k)) (.ref B)))) B (.lst ([]++[.int (L.length:Nat)])) b=R b:=λb b1 b2=>by rw[ef b2,ef b1,ef b2]
    generalize upd (upd (upd R B (.lst [])) J (.dN (fm D (fA (some k)) (.ref B)))) B (.lst ([]++[.int (L.length:Nat)]))=H7 at e1 e2 e3 ⊢;have B7:=B5.new (i:=L.length) cv hn b7 b8 bl e1 e2 e3;refine⟨_,_,B::Y,_,rfl,B7.fn λy hy=>?_,?_,λa g=>?_,λa g=>?_,λa g=>?_,λa g v o=>?_,λz=>?_,by rw[e3 M m3 (Ne.symm c0)];exact ah,by rw[e3 N m5 (Ne.symm dc)];exact ag,by rw[e3 I m6 (Ne.symm b9)];exact aa,?_,λa u e=>?_,λv y hy=>?_,λa e=>?_⟩
    ·rw[fH bf];by_cases ey:y=k
     ·subst ey;rw[ax rfl,av cn,bW,ax (by simp)]
     ·rw[av ey]
      congr 1
      simp only[aD,aj,ey,or_false]
    ·simp only[aY,am,not_or]at ap ⊢;obtain⟨⟨a1,a2,a3,a4⟩,⟨a5,a6,a7⟩,⟨a8,a9⟩,d1,d3⟩:=ap;exact⟨⟨a1,a2,a3,Ne.symm c0,a4⟩,⟨a5,a6,Ne.symm dc,a7⟩,⟨a8,Ne.symm b9,a9⟩,⟨Ne.symm bl,d1⟩,b8,d3⟩
    ·rcases am.mp g with z | z
     ·rw[z];exact .inr (a0 B t)
     ·exact as a z
    ·rcases am.mp g with z | z
     ·rw[z];exact g5.free t
     ·exact al a z
    ·rcases am.mp g with z | z
     ·rw[z];exact⟨_,e2⟩
     ·obtain⟨u,C⟩:=S a z;exact⟨u,by rw[e3 a (λy=>b7 (y▸z)) (λy=>b8 (y▸z))];exact C⟩
    ·rcases am.mp g with z | z
     ·rw[z,e2]at o;cases o;exact λq=>q
     ·rw[e3 a (λy=>b7 (y▸z)) (λy=>b8 (y▸z))]at o;exact b5 a z v o
    ·rcases am.mp z with y | y
     ·exact c1 y.symm
     ·exact ba y
    ·rw[e3 l (λz=>c7 (by simp[z])) (Ne.symm c1)];exact bq
    ·have na:a≠J:=λz=>by rw[z,fM (by simp)]at e;cases e
     have nt:a≠B:=λz=>by
      have:=ad _ _ e;rw[z,t]at this;cases this
     rw[e3 a na nt];exact ad _ _ e
    ·obtain⟨yq,y1,y2⟩:=bm v y hy;exact⟨yq,y1,by rw[e3 yq (fh y2 B5.d λz=>nomatch z) (et y2 t)];exact y2⟩
    ·by_cases z1:a=J
     ·rw[z1,e1]at e;cases e
     by_cases z2:a=B
     ·rw[z2,e2]at e;cases e
     rw[e3 a z1 z2]at e;exact a0 a e
  ·rintro σ R ⟨D,cs,Y,o4,rfl,B5,ap,as,al,S,b5,ba,ah,ag,aa,bq,ad,bm,a0⟩;rw[lx,aI]at B5;have g5:eD G R:=iy gh Z.off ad.toF;refine⟨_,rfl,p,dx,_,_,rfl,g5.ins hp,(by kernel_rfl),_,rfl,I,_,rfl,.inl ⟨_,Sum.inl (m:Int),.inl aa,rfl,by rw[gi,ax rfl]⟩,q2 hpos R (M::N::I::J::Y) ?_ ?_⟩
   ·refine⟨eD.refl _,g5,λa e n=>absurd e n,λa g=>?_,ad.toF,a0⟩;simp only[am]at g ⊢;rcases g with z | z | z | z | z
    ·exact .inl (.inl z)
    ·exact .inl (.inr (.inl z))
    ·exact .inl (.inr (.inr (.inl z)))
    ·exact .inl (.inr (.inr (.inr (.inl z))))
    ·rcases as a z with y | y
     ·exact .inl (.inr (.inr (.inr (.inr y))))
     ·exact .inr y
   ·refine⟨⟨dx,M,N,I,J,_,_,Y,rfl,hp,ah,ag,?_,aa,?_,λm'=>?_,⟨D,cs,B5.fn λk hk=>?_⟩⟩,λa g=>?_,λa g=>?_,λa g v o=>?_,ap⟩
    ·rw[ay];exact Paired.snoc dl hR
    ·have:=fZ U (Sum.inl (m:Int)) (V.int (L.length:Nat));rw[aF,aU]
     lia
    ·rw[gi];by_cases em:m'=m
     ·subst em;rw[ax rfl,lS hpos,ax rfl];rfl
     ·rw[av (λz=>em (by have:=Sum.inl.inj z;lia)),c6 m'];cases hq:mR L m' with
      |some j=>rw[qh hq]
      |none=>rw[lS hq,av (λz=>em z.symm)]
    ·rw[el.Lu]
     congr 1
     by_cases hh:c.has m k
     ·rw[ax hh,ax (el.Kx.mpr hh)]
     ·rw[av hh,av (λz=>hh (el.Kx.mp z))]
    ·simp only[am]at g;rcases g with z | z | z | z | z
     ·exact Z.off a (by simp[z])
     ·exact Z.off a (by simp[z])
     ·exact Z.off a (by simp[z])
     ·exact Z.off a (by simp[z])
     ·exact al a z
    ·simp only[am]at g;rcases g with z | z | z | z | z
     ·exact⟨_,by rw[z];exact ah⟩
     ·exact⟨_,by rw[z];exact ag⟩
     ·exact⟨_,by rw[z];exact aa⟩
     ·exact⟨_,by rw[z];exact B5.d⟩
     ·exact S a z
    ·simp only[am]at g;rcases g with z | z | z | z | z
     ·rw[z,ah]at o;cases o;exact λq=>q
     ·rw[z,ag]at o;cases o;exact λq=>q
     ·rw[z,aa]at o;cases o;exact λq=>q
     ·rw[z,B5.d]at o;cases o;exact λq=>q
     ·exact b5 a z v o
end
inductive sO (CB CC CL:Addr)(vs:List V)(H:Hp)(Q:VK)(E:XK):Prop
 |mk (G:Hp)(p ch:Addr)(c:el)(L:ir)(O:List Addr)(v:V)(k:Pk)(pk:Nat)(_:vs=[.ref p,v,.int (pk:Int)])(_:eD G H)(_:iF CB CC G ch c)(_:gy CL G H p ch c L O)(_:fg H v k)(_:k∈c.ks)(_:∀(H':Hp) (j:Nat) (e:Nat×Rs),eF H H'->L[j]?=some e->iq e.1 pk=c.bit k->Q (.int (j:Nat)) H')(_:(∀e∈L,c.has e.1 k->iq e.1 pk≠c.bit k)->∀H',eF H H'->Q .non H')
inductive sY (CB CC CL:Addr)(vs:List V)(H:Hp)(Q:VK)(E:XK):Prop
 |mk (G:Hp)(p ch:Addr)(c:el)(L:ir)(O:List Addr)(v:V)(k:Pk)(pk:Nat)(_:vs=[.ref p,v,.int (pk:Int)])(_:eD G H)(_:iF CB CC G ch c)(_:gy CL G H p ch c L O)(_:fg H v k)(_:k∈c.ks)(_:∀H',eF H H'->Q (.int (c.Lc L k pk:Nat)) H')
theorem qA {c:el}{k:Pk}:∀(L:ir) (i:Nat),Paired (λ(j:Nat) (e:Nat×Rs)=>i<=j/\L[j-i]?=some e) (c.Lr k L i) (L.filter λe=>decide (c.has e.1 k))
 |[],i=>.nil
 |x::L,i=>by
  have ih:=qA (c:=c) (k:=k) L (i+1);have ih2:Paired (λ(j:Nat) (e:Nat×Rs)=>i<=j/\(x::L)[j-i]?=some e) (c.Lr k L (i+1)) (L.filter λe=>decide (c.has e.1 k)):=Paired.J4 ih λj e ⟨h1,h2⟩=>⟨by lia,by rw[show j-i=(j-(i+1))+1 by lia];exact h2⟩;unfold el.Lr;by_cases h:c.has x.1 k
  ·rw[ax h,aJ,ax (aq h)];exact .cons ⟨ao _,by rw[bQ];rfl⟩ ih2
  ·rw[av h,aJ,av (by rw[au h];exact λz=>nomatch z)];exact ih2
theorem zu (c:el)(L:ir)(k:Pk):Paired (λ(j:Nat) (e:Nat×Rs)=>L[j]?=some e) (c.plc L k) (L.filter λe=>decide (c.has e.1 k)):=Paired.J4 (qA L 0) λj e h=>h.2
theorem qU.get {c:el}{pp:Addr}{g:Pk->List Nat}{Ol:List Addr}{kvp:List (fV×V)}{kl:List Pk}(B:qU H c pp g Ol kvp kl){k:Pk}(d:k∈c.ks){t:Addr}(s:eF H H')(h:H' t=some (.lst [])):∃a,(eV kvp (fA (some k))).getD (.ref t)=.ref a/\H' a=some (.lst (gZ (g k))):=by
 rcases B.val k d with ⟨b,e⟩ | ⟨l,b,_,i⟩
 ·exact⟨t,by rw[b];rfl,by rw[e];exact h⟩
 ·exact⟨l,by rw[b];rfl,s _ _ i⟩
theorem sg {l:List Nat}{x:V}(h:(gZ l)[i]?=some x):∃j,l[i]?=some j/\x=.int (j:Nat):=by
 unfold gZ at h;rw[ae]at h;obtain⟨j,b,a⟩:=az.mp h;exact⟨j,b,a.symm⟩
theorem kr {l:List Nat}(h:l[i]?=some m):sM (gZ l) (i:Int)=some (V.int (m:Nat)):=by
 refine jy ?_;rw[ij];unfold gZ;rw[ae,h];rfl
theorem yy (r:Nat):Builtin.bitAnd (r:Int) ((r:Int)-1)=((r &&& (r-1):Nat):Int):=by
 rcases dM r with z | z
 ·subst z;have e:((0:Nat):Int)-1=Builtin.bitNot ((0:Nat):Int):=by unfold Builtin.bitNot;lia
  rw[e,qo];rfl
 ·rw[show(r:Int)-1=((r-1:Nat):Int) by lia,nz]
theorem sI {a b:Nat}:decide (V.int (a:Int)=V.int (b:Int))=decide (a=b):=by
 by_cases h:a=b
 ·rw[h,aq rfl,aq rfl]
 ·rw[au h,au];intro z;injection z with z
  lia
section
variable {base:Heap}{f:Addr}
theorem FM:eM ["self","pick","picked","place"] ["self","pick","picked"] (eB rA):=i4
theorem xH (F:iL K "place_against" "Ledger.place_against" rA f fd)(T:TL K mg CL)(M:TC K mg CC):fi P w K mg base fB 1 f fd ["self","pick","picked"] (sO CB CC CL):=by
 refine F.ok FM λag A Y s H vs Q E hr h=>?_;obtain⟨G,p,ch,c,L,O,v,k,C,rfl,gh,hC,hL,hv,hk,q1,q2⟩:=h;have hu:=gB hr;refine⟨_,(ee (fG (fD (qC hu (eK T.cl T.nPp (pv 0)) (pv 1) (gM eg) ⟨rfl,rfl,rfl,rfl⟩)) (eL (i:=3) FM.nd) (eo (fz (fC km (fe ic (eG fc (eK T.cl T.nMa (pv 0)) (pv 3)) (jb kS (pv 2))) (eY hu (eK M.cl M.nBits (eK T.cl T.nCh (pv 0))) (pv 1)) (fO _)) (eo (eQ (pv 3))) eP))) (eo (eQ iH))),?_⟩;obtain⟨N,ma,re,pm,pp,as,rs,Ol,rfl,hp,X,a1,ap,ah,an,a0,S,kl,Z⟩:=id hL.ex;have q:H p=some (.ins CL N (Aq ch ma re pm pp)):=gh.ins hp;obtain⟨cx,b,bits,ad,aa,al,sh,fo,st,c1,c2,c3,c4,c5,c6,c7,c8,c9⟩:=(hC.f gh).ex;refine⟨_,rfl,p,N,_,_,rfl,q,(by kernel_rfl),pp,rfl,⟨_,.inl Z.d⟩,_,rfl,tH,λt ht=>?_⟩;have g:=eA ht (.lst []);obtain⟨a,R,J⟩:=Z.get hk g (t:=t) d0;refine⟨_,⟨S,fA (some k),.inl (g _ _ Z.d),gU.key (w:=some k) (fg.same g hv),rfl⟩,?_⟩;rw[R];refine⟨a,rfl,⟨_,eX.of J⟩,?_⟩;generalize upd H t (.lst [])=H1 at *;refine fQ (K:=K) (a:=a) (xs:=gZ (c.plc L k)) (λi σ r=>∃U,σ=[some (.ref p),some v,some (.int (C:Int)),U]/\r=H1/\∀j∈(c.plc L k).take i,∀e,L[j]?=some e->iq e.1 C≠c.bit k) ⟨none,rfl,rfl,λj o=>by simp at o⟩ (λi σ r _ ⟨_,_,e,_⟩=>by rw[e];exact eX.of J) ?_ ?_
 ·rintro i x σ r hi ⟨U,rfl,rfl,l⟩;obtain⟨j,o,rfl⟩:=sg hi;obtain⟨e,D,y⟩:=el.Ly.mp (ai o);have hm:(L.map (·.1))[j]?=some e.1:=by rw[ae,D];rfl
  refine⟨_,rfl,p,N,_,_,rfl,g _ _ q,(by kernel_rfl),_,rfl,ma,_,_,_,rfl,rfl,eX.of (g _ _ X),kr hm,_,rfl,_,rfl,_,_,rfl,rfl,?_⟩;refine⟨_,rfl,p,N,_,_,rfl,g _ _ q,(by kernel_rfl),ch,cx,_,_,rfl,g _ _ c1,(by kernel_rfl),_,rfl,bits,_,rfl,(c4.same g).get (w:=some k) (gE hk) (fg.same g hv),rfl,_,rfl,?_⟩;dsimp only;have B:decide (V.int (Builtin.bitAnd (e.1:Int) (Builtin.bitNot (C:Int)))=V.int ((c.Ks (some k):Nat):Int))=decide (iq e.1 C=c.bit k):=by
   rw[qo];exact sI
  rw[B];by_cases hd:iq e.1 C=c.bit k
  ·rw[aq hd];exact gW ⟨_,rfl,q1 r j e g D hd⟩
  ·rw[au hd];refine ff ⟨_,rfl,rfl,λj' I e' m=>?_⟩;rw[fH o]at I;rcases aD.mp I with z | z
   ·exact l j' z e' m
   ·rw[aj.mp z,D]at m;cases m;exact hd
 ·rintro σ r ⟨U,rfl,rfl,l⟩;unfold gZ at l;rw[ab,aI]at l;refine q2 (λe D y=>?_) r g;obtain⟨j,o⟩:=aC.mp D;exact l j (el.Ly.mpr ⟨e,o,y⟩) e o
theorem y9:eM ["self","pick","picked","barred","place","rest"] ["self","pick","picked"] (eB rP):=i4
theorem xW (F:iL K "barred_with" "Ledger.barred_with" rP f fd)(T:TL K mg CL):fi P w K mg base fB 1 f fd ["self","pick","picked"] (sY CB CC CL):=by
 refine F.ok y9 λaa A S s H vs Q E hr h=>?_;obtain⟨G,p,ch,c,L,O,v,k,g,rfl,gh,hC,hL,hv,hk,q⟩:=h;have hu:=gB hr;refine⟨_,(ee (eJ (i:=3) y9.nd er) (ee (fG (fD (qC hu (eK T.cl T.nPp (pv 0)) (pv 1) (gM eg) ⟨rfl,rfl,rfl,rfl⟩)) (eL (i:=4) y9.nd) (ee (eJ (i:=5) y9.nd (fe ic (eG fc (eK T.cl T.nMa (pv 0)) (pv 4)) (jb kS (pv 2)))) (eo (fz (fC km (fe ic (pv 5) (fe zP (pv 5) er)) er (fO _)) (eo (kH (i:=3) y9.nd (pv 5) ud)) eP)))) (eo (eQ (pv 3))))),?_⟩;obtain⟨Z,ma,re,pm,pp,al,rs,Ol,rfl,hp,R,ap,ah,ad,ag,an,I,kl,Y⟩:=id hL.ex;have B:H p=some (.ins CL Z (Aq ch ma re pm pp)):=gh.ins hp;refine⟨_,rfl,p,Z,_,_,rfl,B,(by kernel_rfl),pp,rfl,⟨_,.inl Y.d⟩,_,rfl,tH,λt ht=>?_⟩;have m:=eA ht (.lst []);obtain⟨a,D,C⟩:=Y.get hk m (t:=t) d0;refine⟨_,⟨I,fA (some k),.inl (m _ _ Y.d),gU.key (w:=some k) (fg.same m hv),rfl⟩,?_⟩;rw[D];refine⟨a,rfl,⟨_,eX.of C⟩,?_⟩;generalize upd H t (.lst [])=H1 at *;have o:=zu c L k;have lp:=Paired.length o;generalize N:(L.filter λe=>decide (c.has e.1 k))=es at *
 let bf:Nat->Nat×Rs->Nat:=λb e=>let r:=iq e.1 g;if r &&& (r-1)=0 then b ||| r else b
 have M:c.Lc L k g=es.foldl bf 0:=by unfold el.Lc;rw[N]
 refine fQ (K:=K) (a:=a) (xs:=gZ (c.plc L k)) (λi σ z=>∃U J,σ=[some (.ref p),some v,some (.int (g:Int)),some (.int (((es.take i).foldl bf 0:Nat):Int)),U,J]/\z=H1) ⟨none,none,rfl,rfl⟩ (λi σ z _ ⟨_,_,_,e⟩=>by rw[e];exact eX.of C) ?_ ?_
 ·rintro i x σ z hi ⟨U,J,rfl,rfl⟩;obtain⟨j,hj,rfl⟩:=sg hi;obtain⟨e,X,he⟩:=Paired.Kq o hj;have hm:(L.map (·.1))[j]?=some e.1:=by rw[ae,he];rfl
  refine⟨_,rfl,p,Z,_,_,rfl,m _ _ B,(by kernel_rfl),_,rfl,ma,_,_,_,rfl,rfl,eX.of (m _ _ R),kr hm,_,rfl,_,rfl,_,_,rfl,rfl,?_⟩;dsimp only;rw[qo];refine⟨_,rfl,_,rfl,_,_,rfl,rfl,_,_,rfl,rfl,rfl,_,rfl,?_⟩;have y:decide (V.int (Builtin.bitAnd ((iq e.1 g:Nat):Int) (((iq e.1 g:Nat):Int)-1))=V.int 0)=decide (iq e.1 g &&& (iq e.1 g-1)=0):=by
   rw[yy];exact sI (b:=0)
  skip;rw[y];have l:(es.take (i+1)).foldl bf 0=bf ((es.take i).foldl bf 0) e:=by rw[fH X,List.foldl_append];rfl
  by_cases hd:iq e.1 g &&& (iq e.1 g-1)=0
  ·rw[aq hd];refine gW ⟨_,rfl,_,rfl,_,_,rfl,rfl,some (.int (j:Nat)),some (.int (iq e.1 g:Nat)),?_,rfl⟩;rw[wT,l];show _=[some (V.ref p),some v,some (V.int ↑g),some (V.int ((if _ then _ else _:Nat):Int)),_,_];rw[ax hd];rfl
  ·rw[au hd];refine ff ⟨some (.int (j:Nat)),some (.int (iq e.1 g:Nat)),?_,rfl⟩;rw[l];show _=[some (V.ref p),some v,some (V.int ↑g),some (V.int ((if _ then _ else _:Nat):Int)),_,_];rw[av hd];rfl
 ·rintro σ z ⟨U,J,rfl,rfl⟩;unfold gZ;rw[ab,lp,aI,<-M];exact⟨_,rfl,q z m⟩
end
inductive vQ (CB CC CL:Addr)(vs:List V)(H:Hp)(Q:VK)(E:XK):Prop
 |mk (G:Hp)(p ch:Addr)(c:el)(L:ir)(O:List Addr)(_:vs=[.ref p])(_:eD G H)(_:iF CB CC G ch c)(_:gy CL G H p ch c L O)(_:c.n<64)(_:∀e∈L,e.1<2^c.n)(_:L.length<sizeLine)(_:∀a H',eF H H'->mK H' a (c.lns L)->Q (.ref a) H')
theorem xq {ps:List Addr}(e:eF H H'):eF (del H ps) (del H' ps):=λa u h=>by
 have na:a∉ps:=λz=>by rw[fM z]at h;cases h
 rw[eE na]at h ⊢;exact e a u h
theorem Dl:(["mask","reason","self"]:List Str).Nodup:=by decide +kernel
abbrev yG (a b w:V):List (Str×V):=[("picked",a),("dead",b),("wanted",w)]
abbrev ui (x s b:V):List (Str×V):=[("part",x),("stand",s),("bit",b)]
abbrev xm (ch le fl:Addr):List (Str×V):=[("chart",.ref ch),("ledger",.ref le),("forks",.ref fl)]
inductive oE (C:Addr)(vs:List V)(H:Hp)(Q:VK)(E:XK):Prop
 |mk (p dx:Addr)(a b w:V)(_:vs=[.ref p,a,b,w])(_:H p=some (.ins C dx []))(_:Q .non (upd H p (.ins C dx (yG a b w))))
inductive sU (C:Addr)(vs:List V)(H:Hp)(Q:VK)(E:XK):Prop
 |mk (p dx:Addr)(x s:V)(_:vs=[.ref p,x,s])(_:H p=some (.ins C dx []))(_:Q .non (upd H p (.ins C dx (ui x s (.int 0)))))
structure CP (K:W.Frag)(mg:Str->Option Value)(C:Addr):Prop where
 cl:p9 K C
 nPi:gf K C "picked"
 nDe:gf K C "dead"
 nWa:gf K C "wanted"
structure Bc (K:W.Frag)(mg:Str->Option Value)(C:Addr):Prop where
 cl:p9 K C
 nPa:gf K C "part"
 nSt:gf K C "stand"
 nBi:gf K C "bit"
theorem JC (a:V):gq ("picked":Str) a []=([("picked",a)]:List (Str×V)):=by kernel_rfl
theorem FE (a b w:V):gq ("wanted":Str) w (gq ("dead":Str) b (gq ("picked":Str) a []))=yG a b w:=by kernel_rfl
theorem JP (a b w:V):gq ("bit":Str) w (gq ("stand":Str) b (gq ("part":Str) a []))=ui a b w:=by kernel_rfl
section
variable {base:Heap}{f:Addr}
theorem HY:eM ["self"] ["self"] (eB uM):=i4
theorem zT (F:iL K "told" "Ledger.told" uM f fd)(T:TL K mg CL)(ML:Mt P w K mg base CC fB 1 "listed" ["self","mask"] (j4 CC)):fi P w K mg base fB 2 f fd ["self"] (vQ CB CC CL):=by
 refine F.ok HY λb2 A ba s H vs Q E hr h=>?_;obtain⟨G,p,ch,c,L,O,rfl,gh,hC,hL,bv,a6,b7,q⟩:=h;have hu:=gB hr;refine⟨_,(eo (eQ (iQ (N':=["mask","reason","self"]) (n:=2) (js:=[0]) rfl (iG.one (c:=s.heap.objs.size+1) (y:="self")) (Ew (m:=2) (ue (ip (by decide)) sy (ue (ip (by decide)) sy Cw wK) (AB sy wK))) (DW rfl T.zip (eK T.cl T.nMa (pv 0)) (eK T.cl T.nRe (pv 0))) (λC s2 b fp=>lc (n:=2) rfl (gj (eL (i:=0) Dl) (gj (eL (i:=1) Dl) jT))) (λC s2 b fp=>jw) (λC s2 b fp=>gL (dZ (il ML hr fE (eK T.cl T.nCh (pv 2)) (dZ (pv 0) eg)) (dZ (pv 1) eg)))))),?_⟩;obtain⟨dx,ma,re,pm,pp,b6,rs,Ol,rfl,hp,g,o,aa,b3,b5,b9,b1,kl,hB⟩:=id hL.ex;have U:H p=some (.ins CL dx (Aq ch ma re pm pp)):=gh.ins hp;have lL:(gZ (L.map (·.1))).length=L.length:=by unfold gZ;rw[ab,ab]
 have bm:rs.length=L.length:=by rw[Paired.length aa,ab]
 have bd:(c.lns L).length=L.length:=by unfold el.lns;rw[ab]
 refine⟨_,rfl,p,dx,_,_,rfl,U,(by kernel_rfl),_,rfl,p,dx,_,_,rfl,U,(by kernel_rfl),ma,re,_,_,rfl,rfl,g,o,?_⟩;refine wR (n:=L.length) (λD i N b=>H D=none/\b D=some (.lst N)/\eF H b/\Paired (uB (del b [D])) N ((c.lns L).take i)) (λD hD=>⟨hD,d0,eA hD _,.nil⟩) (λD i N b hi ⟨S,J,d,M⟩=>?_) (λD i x N b H3 hi hy ⟨S,J,d,M⟩=>?_) (λD N b ⟨S,J,d,M⟩=>?_)
 ·refine⟨λB=>⟨_,_,(gZ (L.map (·.1)))[i]'(by rw[lL];exact B),rs[i]'(by rw[bm];exact B),eX.of (d _ _ g),eX.of (d _ _ o),ak _,ak _⟩,λap=>⟨_,_,eX.of (d _ _ g),eX.of (d _ _ o),.inl (by rw[lL,ap];exact ao _)⟩,J,?_⟩
  have:=Paired.length M;rw[aT]at this
  lia
 ·obtain⟨t,mv,j,ht,rfl,rfl,hm,an⟩:=hy;obtain⟨m,ad,rfl⟩:=sg (hm _ (eX.of (d _ _ g)));have bq:=an _ (eX.of (d _ _ o));rw[ae]at ad;obtain⟨e,he,rfl⟩:=az.mp ad;have al:nE G j e.2:=by
   obtain⟨r',Y,ah⟩:=Paired.Kq aa bq;rw[ae,he]at Y;cases Y;exact ah
  have s1:=eA ht (.tup [.int (e.1:Nat),j]);have b4:D≠t:=et J ht;have a4:=d.trans s1;have g1:eD G (upd b t (.tup [.int (e.1:Nat),j])):=gh.trans a4.toF;have a2:(c.lns L)[i]?=some (c.listed e.1,e.2):=by unfold el.lns;rw[ae,he];rfl
  generalize a5:upd b t (.tup [.int (e.1:Nat),j])=H3 at *;have a3:H3 t=some (.tup [.int (e.1:Nat),j]):=by rw[<-a5];exact d0
  refine⟨t,_,rfl,gs.of a3,rfl,_,_,rfl,_,_,rfl,rfl,?_⟩;unfold qb;dsimp only;rw[ax rfl];obtain⟨cx,a0,b8,ag,bl,bx,bf⟩:=ur (hC.f g1);refine⟨_,rfl,p,dx,_,_,rfl,g1.ins hp,(by kernel_rfl),ch,cx,_,rfl,ag,bf,_,rfl,H3,ch,cx,a0,_,c,_,rfl,eD.refl _,ag,bl,bx,bv,a6 e (ai he),λl xs H4 s4 hl as a7 a1=>?_⟩;refine⟨_,rfl,tG,λu R=>?_⟩;have X:=eA R (.tup [.ref l,j]);have I:=s1 _ _ J;have Z:=s4 _ _ I;have a9:D≠l:=et I hl;have a8:D≠u:=et Z R;have r:eF b (upd H4 u (.tup [.ref l,j])):=s1.trans (s4.trans X);refine⟨X _ _ Z,S,d0,λa v z=>?_,?_⟩
  ·rw[ef (λy:a=D=>by rw[y,S]at z;cases z)];exact r _ _ (d _ _ z)
  ·rw[pP (by simp),fH a2];refine Paired.snoc (Paired.J4 M λ_ _ z=>z.same (xq r)) ⟨u,l,j,rfl,?_,⟨xs,?_,?_⟩,?_⟩
   ·rw[eE (by simpa using Ne.symm a8)];exact d0
   ·rw[eE (by simpa using Ne.symm a9)];exact X _ _ as
   ·refine Paired.J4 a7 ?_;rintro v k ⟨kq,z1,z2⟩;refine⟨kq,z1,?_⟩;rw[eE (by simpa using λy:kq=D=>by rw[y,I]at z2;cases z2)];exact X _ _ (s4 _ _ z2)
   ·have sG:eD G (del (upd H4 u (.tup [.ref l,j])) [D]):=λa v z=>by
     have nD:a≠D:=λy=>by
      have:=gh a v z;rcases this with w | ⟨_,_,w⟩ <;> (rw[y,S]at w;cases w)
     rw[eE (by simpa using nD)];exact(g1.trans (s4.trans X).toF) a v z
    exact al.f sG
 ·rw[<-bd,aI]at M;exact q D b d ⟨N,J,Paired.J4 M λ_ _ z=>z.same (fq _ _)⟩
theorem FJ:eM ["self","picked","dead","wanted"] ["self","picked","dead","wanted"] (eB rm):=i4
theorem xE (F:iL K "__init__" "Stand.__init__" rm f fd)(T:CP K mg C):fi P w K mg base fB 1 f fd ["self","picked","dead","wanted"] (oE C):=by
 refine F.ok FJ λi A d s H l Q E j h=>?_;obtain⟨p,g,a,b,w,rfl,hp,q⟩:=h;refine⟨_,(ee (jN T.cl T.nPi (pv 0) (pv 1)) (ee (jN T.cl T.nDe (pv 0) (pv 2)) (eo (jN T.cl T.nWa (pv 0) (pv 3))))),?_⟩;refine⟨_,rfl,_,rfl,p,g,_,rfl,hp,(by decide),_,rfl,_,rfl,p,g,_,rfl,d0,(by rw[JC];show 1<1000;decide),_,rfl,_,rfl,p,g,_,rfl,d0,?_,?_⟩
 ·have:=FE a b w;refine bI (m:=2) ?_ (by decide);have e:(gq ("dead":Str) b (gq ("picked":Str) a []))=([("picked",a),("dead",b)]:List (Str×V)):=by kernel_rfl
  rw[e];exact ao _
 ·rw[i6,i6,FE];exact q
theorem Ie:eM ["self","part","stand"] ["self","part","stand"] (eB rL):=i4
theorem xS (F:iL K "__init__" "Fork.__init__" rL f fd)(T:Bc K mg C):fi P w K mg base fB 1 f fd ["self","part","stand"] (sU C):=by
 refine F.ok Ie λi A d s H l Q E j h=>?_;obtain⟨p,g,a,b,rfl,hp,q⟩:=h;refine⟨_,(ee (jN T.cl T.nPa (pv 0) (pv 1)) (ee (jN T.cl T.nSt (pv 0) (pv 2)) (eo (jN T.cl T.nBi (pv 0) er)))),?_⟩;refine⟨_,rfl,_,rfl,p,g,_,rfl,hp,(by decide),_,rfl,_,rfl,p,g,_,rfl,d0,?_,_,rfl,p,g,_,rfl,d0,?_,?_⟩
 ·have e:(gq ("part":Str) a [])=([("part",a)]:List (Str×V)):=by kernel_rfl
  rw[e];show 1<1000;decide
 ·have e:(gq ("stand":Str) b (gq ("part":Str) a []))=([("part",a),("stand",b)]:List (Str×V)):=by kernel_rfl
  rw[e];show 2<1000;decide
 ·rw[i6,i6,JP];exact q
end
inductive IU (P:Program)(w:World)(K:W.Frag)(mg:Str->Option Value)(base:Heap)(C:Addr)(CX:uC)(k:Nat)(x:Str)(ps:List Str)(sp:Sp):Prop
 |mk (f fd:_)(_:Mk K C f)(_:fi P w K mg base CX k f fd ps sp)(_:iC K fd ps [])
structure Bo (P:Program)(w:World)(K:W.Frag)(mg:Str->Option Value)(base:Heap)(C:Addr)(CX:uC)(k:Nat)(x:Str)(ps:List Str)(sp:Sp):Prop where
 nm:mg x=some (.ref C)
 ex:IU P w K mg base C CX k x ps sp
theorem nI {X:Cx}{CX:uC}{k:Nat}{e:Expr}{es:List Expr}{E:XK}{pos p:Pos}{t:TA}(M:Bo X.prog X.w X.K X.mg X.base C CX k x ps sp)(d:gK (k+1) X.A)(g:Gl X x)(h:j9 CX X E)(a:PA X (e::es) t)(hdb:(x == ("__debug__":Str))=false:=by decide)(he:starEach (e::es) X.env=(false,eval e X.env)::starEach es X.env:=by rfl)(hpl:(backTo pos (starEach es X.env)).any (·.1)=false:=by rfl):PE X (.Call (.Name x p) (e::es) [] pos) (C9 C sp [] E t):=by
 obtain⟨f,i,m,F,b⟩:=M.ex;exact BS m F d g M.nm b .nil h a hdb he hpl
inductive sQ (CL:Addr)(vs:List V)(H:Hp)(Q:VK)(E:XK):Prop
 |mk (p dx ch:Addr)(_:vs=[.ref p,.ref ch])(_:H p=some (.ins CL dx []))(_:∀(ma re pm pp:Addr) (H':Hp),eD (del H [p]) H'->H' p=some (.ins CL dx (Aq ch ma re pm pp))->H' ma=some (.lst [])->H' re=some (.lst [])->H' pm=some (.dK [])->H' pp=some (.dN [])->[ma,re,pm,pp].Nodup->(∀a∈[ma,re,pm,pp],H a=none)->Q .non H')
inductive sN (CL CS:Addr)(vs:List V)(H:Hp)(Q:VK)(E:XK):Prop
 |mk (G:Hp)(p dx ch:Addr)(c:el)(_:vs=[.ref p,.ref ch])(_:eD G H)(_:G p=none)(_:H p=some (.ins CS dx []))(_:∀(G' H':Hp) (le fl:Addr) (O:List Addr),eD G G'->eD G' H'->(∀a,G a=none->G' a≠none->H a=none\/a=p)->(∀a∈O,H a=none)->H fl=none->fl∉O->G' fl=none->eD (del H [p]) H'->G' p=some (.ins CS dx (xm ch le fl))->gy CL G' H' le ch c [] O->H' fl=some (.lst [])->Q .non H')
abbrev Fg (ch:Addr):List (Str×V):=[("chart",.ref ch)]
abbrev Hw (ch ma:Addr):List (Str×V):=[("chart",.ref ch),("masks",.ref ma)]
abbrev Hv (ch ma re:Addr):List (Str×V):=[("chart",.ref ch),("masks",.ref ma),("reasons",.ref re)]
abbrev Hu (ch ma re pm:Addr):List (Str×V):=[("chart",.ref ch),("masks",.ref ma),("reasons",.ref re),("place_by_mask",.ref pm)]
theorem Jo (ch:Addr):gq ("chart":Str) (V.ref ch) []=Fg ch:=by kernel_rfl
theorem Ht (ch a:Addr):gq ("masks":Str) (V.ref a) (Fg ch)=Hw ch a:=by kernel_rfl
theorem JN (ch a b:Addr):gq ("reasons":Str) (V.ref b) (Hw ch a)=Hv ch a b:=by kernel_rfl
theorem JM (ch a b d:Addr):gq ("place_by_mask":Str) (V.ref d) (Hv ch a b)=Hu ch a b d:=by kernel_rfl
theorem JL (ch a b d e:Addr):gq ("places_by_pick":Str) (V.ref e) (Hu ch a b d)=Aq ch a b d e:=by kernel_rfl
abbrev Il (ch le:Addr):List (Str×V):=[("chart",.ref ch),("ledger",.ref le)]
theorem HW (ch le:Addr):gq ("ledger":Str) (V.ref le) (Fg ch)=Il ch le:=by kernel_rfl
theorem HV (ch le a:Addr):gq ("forks":Str) (V.ref a) (Il ch le)=xm ch le a:=by kernel_rfl
structure tE (K:W.Frag)(mg:Str->Option Value)(C:Addr):Prop where
 cl:p9 K C
 nCh:gf K C "chart"
 nLe:gf K C "ledger"
 nFo:gf K C "forks"
 dict:mg "dict" = none
 min:mg "min" = none
 list:mg "list" = none
 enum:mg "enumerate" = none
 rev:mg "reversed" = none
section
variable {base:Heap}{f:Addr}
theorem FQ:eM ["self","chart"] ["self","chart"] (eB rF):=i4
theorem xN (F:iL K "__init__" "Ledger.__init__" rF f fd)(T:TL K mg CL):fi P w K mg base fB 1 f fd ["self","chart"] (sQ CL):=by
 refine F.ok FQ λaa A M s H vs Q E hr h=>?_;obtain⟨p,r,t,rfl,hp,q⟩:=h;refine⟨_,(ee (jN T.cl T.nCh (pv 0) (pv 1)) (ee (jN T.cl T.nMa (pv 0) (gM eg)) (ee (jN T.cl T.nRe (pv 0) (gM eg)) (ee (jN T.cl T.nPm (pv 0) gY) (eo (jN T.cl T.nPp (pv 0) mx)))))),?_⟩;have m:del H [p] p=none:=fM (by simp);have O:eD (del H [p]) H:=(fq _ _).toF;generalize L:del H [p]=G0 at *;refine⟨_,rfl,_,rfl,p,r,_,rfl,hp,(by decide),?_⟩;generalize C:upd H p (.ins CL r (gq ("chart":Str) (V.ref t) []))=H1;have B:H1 p=some (.ins CL r (Fg t)):=by rw[<-C,d0,Jo]
 have N:eD G0 H1:=by rw[<-C];exact O.upd m
 have ad:∀a,H1 a=none->H a=none:=λa e=>by
  rw[<-C]at e;by_cases z:a=p
  ·rw[z,d0]at e;cases e
  ·rw[ef z]at e;exact e
 refine⟨tH,λb I=>?_⟩;refine⟨_,rfl,p,r,_,rfl,(by rw[ef (et B I)];exact B),(by show 1<1000;decide),?_⟩;rw[Ht];have j:=ji (fs':=Hw t b) (u:=.lst []) N m B I;generalize upd (upd H1 b (.lst [])) p (.ins CL r (Hw t b))=H2 at j ⊢;refine⟨tH,λo G=>?_⟩;refine⟨_,rfl,p,r,_,rfl,(by rw[ef (et j.p G)];exact j.p),(by show 2<1000;decide),?_⟩;rw[JN];have i:=ji (fs':=Hv t b o) (u:=.lst []) j.g m j.p G;generalize upd (upd H2 o (.lst [])) p (.ins CL r (Hv t b o))=H3 at i ⊢;intro v y;refine⟨_,rfl,p,r,_,rfl,(by rw[ef (et i.p y)];exact i.p),(by show 3<1000;decide),?_⟩;rw[JM];have d:=ji (fs':=Hu t b o v) (u:=.dK []) i.g m i.p y;generalize upd (upd H3 v (.dK [])) p (.ins CL r (Hu t b o v))=H4 at d ⊢;intro D l;refine⟨_,rfl,p,r,_,rfl,(by rw[ef (et d.p l)];exact d.p),(by show 4<1000;decide),?_⟩;rw[JL];have x:=ji (fs':=Aq t b o v D) (u:=.dN []) d.g m d.p l;generalize upd (upd H4 D (.dN [])) p (.ins CL r (Aq t b o v D))=H5 at x ⊢;have R:=i.keep _ _ j.np j.a;have X:=d.keep _ _ j.np R;have m5:=x.keep _ _ j.np X;have S:=d.keep _ _ i.np i.a;have r5:=x.keep _ _ i.np S;have Y:=x.keep _ _ d.np d.a;have e1:b≠o:=et j.a G;have e2:b≠v:=et R y;have e3:b≠D:=et X l;have e4:o≠v:=et i.a y;have Z:o≠D:=et S l;have e6:v≠D:=et d.a l;have J:∀a,G0 a=none->a≠p->H a=none:=λa e n=>by rw[<-L,eE (by simpa using n)]at e;exact e
 refine q b o v D H5 x.g x.p m5 r5 Y x.a ?_ λa U=>?_
 ·simp only[aY,am,aR,or_false,not_or,not_false_eq_true,bM,and_true];exact⟨⟨e1,e2,e3⟩,⟨e4,Z⟩,e6⟩
 ·simp only[am,aR,or_false]at U;rcases U with z | z | z | z
  ·rw[z];exact J _ j.ga j.np
  ·rw[z];exact J _ i.ga i.np
  ·rw[z];exact J _ d.ga d.np
  ·rw[z];exact J _ x.ga x.np
theorem FL:eM ["self","chart"] ["self","chart"] (eB rn):=i4
theorem xF (F:iL K "__init__" "Search.__init__" rn f fd)(T:tE K mg CS)(ML:Bo P w K mg base CL fB 1 "Ledger" ["self","chart"] (sQ CL)):fi P w K mg base fB 3 f fd ["self","chart"] (sN CL CS):=by
 refine F.ok FL λb1 A bl s H vs Q E hr h=>?_;obtain⟨G,p,t,r,c,rfl,gh,gp,hp,q⟩:=h;refine⟨_,(ee (jN T.cl T.nCh (pv 0) (pv 1)) (ee (jN T.cl T.nLe (pv 0) (nI ML hr rfl fE (dZ (pv 1) eg))) (eo (jN T.cl T.nFo (pv 0) (gM eg))))),?_⟩;have a0:del H [p] p=none:=fM (by simp);have ba:eD (del H [p]) H:=(fq _ _).toF;have R:eD G (del H [p]):=λa u e=>by
  have na:a≠p:=λz=>by rw[z,gp]at e;cases e
  rw[eE (by simpa using na)];exact gh a u e
 generalize bx:del H [p]=G0 at *;refine⟨_,rfl,_,rfl,p,t,_,rfl,hp,(by decide),?_⟩;generalize ap:upd H p (.ins CS t (gq ("chart":Str) (V.ref r) []))=H1;have U:H1 p=some (.ins CS t (Fg r)):=by rw[<-ap,d0,Jo]
 have I:eD G0 H1:=by rw[<-ap];exact ba.upd a0
 have an:∀a,H1 a=none->H a=none:=λa e=>by
  rw[<-ap]at e;by_cases z:a=p
  ·rw[z,d0]at e;cases e
  ·rw[ef z]at e;exact e
 refine⟨_,rfl,λd B O a4 bd=>?_⟩;have n1:p≠d:=et U O;have n2:p≠B:=et U a4;have s2:eF H1 (upd (upd H1 B (.own d)) d (.ins CL B [])):=(eA a4 _).trans (eA (by rw[ef (Ne.symm bd)];exact O) _);have ah:upd (upd H1 B (.own d)) d (.ins CL B []) d=some (.ins CL B []):=d0;have a2:∀a,upd (upd H1 B (.own d)) d (.ins CL B []) a=none->H1 a=none:=λa e=>s2.free e;generalize upd (upd H1 B (.own d)) d (.ins CL B [])=H2 at *;refine⟨d,B,r,rfl,ah,λM D L J C Z N aa X S x bq a5=>⟨rfl,?_⟩⟩;have Y:C p=some (.ins CS t (Fg r)):=Z.ins (by rw[eE (by simpa using n1)];exact s2 _ _ U);refine⟨_,rfl,p,t,_,rfl,Y,(by show 1<1000;decide),?_⟩;rw[HW];refine⟨tH,λg ad=>?_⟩;have n3:p≠g:=λz=>by rw[z,d0]at ad;cases ad
 refine⟨_,rfl,p,t,_,rfl,(by rw[ef n3];exact d0),(by show 2<1000;decide),?_⟩;rw[HV];have b:C g=none:=by rw[ef (Ne.symm n3)]at ad;exact ad
 have eH:upd (upd (upd C p (.ins CS t (Il r d))) g (.lst [])) p (.ins CS t (xm r d g))=upd (upd C g (.lst [])) p (.ins CS t (xm r d g)):=by
  funext a
  by_cases z:a=p
  ·rw[z,d0,d0]
  ·rw[ef z,ef z];by_cases y:a=g
   ·rw[y,d0,d0]
   ·rw[ef y,ef y,ef z]
 rw[eH];have k4:∀a,a≠p->a≠g->upd (upd C g (.lst [])) p (.ins CS t (xm r d g)) a=C a:=λa z y=>by rw[ef z,ef y]
 have a9:upd (upd C g (.lst [])) p (.ins CS t (xm r d g)) p=some (.ins CS t (xm r d g)):=d0;have a8:upd (upd C g (.lst [])) p (.ins CS t (xm r d g)) g=some (.lst []):=by rw[ef (Ne.symm n3)];exact d0
 generalize upd (upd C g (.lst [])) p (.ins CS t (xm r d g))=H4 at *;have hO:∀a∈[M,D,L,J],H1 a=none:=λa i=>a2 a (a5 a i);have bm:∀a,C a=none->H2 a=none:=λa e=>by
  by_cases z:a=d
  ·rw[z,N]at e;cases e
  ·have:=Z.free e;rw[eE (by simpa using z)]at this;exact this
 have al:H1 g=none:=a2 g (bm g b);have ag:g∉[M,D,L,J]:=λz=>by
  simp only[am,aR,or_false]at z;rcases z with z | z | z | z
  ·rw[z,aa]at b;cases b
  ·rw[z,X]at b;cases b
  ·rw[z,S]at b;cases b
  ·rw[z,x]at b;cases b
 have a7:d≠g:=et N b;have as:∀a∈[M,D,L,J],a≠p:=λa i z=>by have:=hO a i;rw[z,U]at this;cases this
 have bv:∀a∈[M,D,L,J],a≠d:=λa i z=>by have:=a5 a i;rw[z,ah]at this;cases this
 have bf:∀a∈[M,D,L,J],a≠g:=λa i z=>ag (z▸i);have a3:eD G0 C:=λa u e=>by
  have na:a≠d:=λz=>by
   have:=I.free O;rw[z,this]at e;cases e
  rcases I a u e with z | ⟨z1,o,z2⟩
  ·exact Z a u (by rw[eE (by simpa using na)];exact s2 _ _ z)
  ·exact .inr ⟨z1,o,Z.frz (by rw[eE (by simpa using na)];exact s2 _ _ z2)⟩
 have a6:eD G0 H4:=λa u e=>by
  have z1:a≠p:=λz=>by rw[z,a0]at e;cases e
  have z2:a≠g:=λz=>by
   have:=a3.free b;rw[z,this]at e;cases e
  rw[k4 a z1 z2];exact a3 a u e
 have a1:H4 d=some (.ins CL B (Aq r M D L J)):=by rw[k4 d (Ne.symm n1) a7];exact N
 refine q (upd (upd G d (.ins CL B (Aq r M D L J))) p (.ins CS t (xm r d g))) H4 d g [M,D,L,J] ?_ ?_ ?_ ?_ (an g al) ag ?_ a6 d0 ?_ a8
 ·exact((eD.refl G).upd (R.free (I.free O))).upd gp
 ·intro a u e;by_cases z:a=p
  ·rw[z,d0]at e;rw[z,a9];exact .inl e
  ·rw[ef z]at e;by_cases y:a=d
   ·rw[y,d0]at e;rw[y,a1];exact .inl e
   ·rw[ef y]at e;exact(R.trans a6) a u e
 ·intro a e n;by_cases z:a=p
  ·exact .inr z
  ·rw[ef z]at n;by_cases y:a=d
   ·rw[y];exact .inl (an d O)
   ·rw[ef y]at n;exact absurd e n
 ·exact λa i=>an a (hO a i)
 ·rw[ef (Ne.symm n3),ef (Ne.symm a7)];exact R.free (I.free al)
 ·have k5:∀a∈[M,D,L,J],H4 a=C a:=λa i=>k4 a (as a i) (bf a i);refine⟨⟨B,M,D,L,J,[],[],[],rfl,?_,?_,?_,.nil,?_,ao _,λm=>rfl,[],[],?_,rfl,bM,(λk hk=>nomatch hk),(λk hk=>Or.inl ⟨rfl,rfl⟩),(λk k2 l h=>nomatch h)⟩,λa i=>?_,λa i=>?_,λa i v j=>?_,bq⟩
  ·rw[ef (Ne.symm n1),d0]
  ·rw[k5 M (by simp)];exact aa
  ·rw[k5 D (by simp)];exact X
  ·rw[k5 L (by simp)];exact S
  ·rw[k5 J (by simp)];exact x
  ·rw[ef (as a i),ef (bv a i)];exact R.free (I.free (hO a i))
  ·rw[k5 a i];simp only[am,aR,or_false]at i;rcases i with z | z | z | z
   ·exact⟨_,by rw[z];exact aa⟩
   ·exact⟨_,by rw[z];exact X⟩
   ·exact⟨_,by rw[z];exact S⟩
   ·exact⟨_,by rw[z];exact x⟩
  ·rw[k5 a i]at j;simp only[am,aR,or_false]at i;rcases i with z | z | z | z
   ·rw[z,aa]at j;cases j;exact λq=>q
   ·rw[z,X]at j;cases j;exact λq=>q
   ·rw[z,S]at j;cases j;exact λq=>q
   ·rw[z,x]at j;cases j;exact λq=>q
end
structure Se (CB CC CS:Addr)(G H:Hp)(p ch le fl:Addr)(c:el):Prop where
 gh:eD G H
 self:∃dx,G p=some (.ins CS dx (xm ch le fl))
 chart:iF CB CC G ch c
 n:c.n<64
 nds:∀w,(c.needs w).length<=100
 sm:∀L,gQ c L->L.length<sizeLine
theorem Se.grow {G':Hp}{le fl:Addr}{c:el}(h:Se CB CC CS G H p ch le fl c)(gg:eD G G')(gh:eD G' H'):Se CB CC CS G' H' p ch le fl c:=
 ⟨gh,let ⟨dx,e⟩:=h.self;⟨dx,gg.ins e⟩,h.chart.f gg,h.n,h.nds,h.sm⟩
theorem Se.same {le fl:Addr}{c:el}(h:Se CB CC CS G H p ch le fl c)(e:eF H H'):Se CB CC CS G H' p ch le fl c:=h.grow (eD.refl _) (h.gh.trans e.toF)
def lO (CT:Addr)(G H:Hp)(s:Addr)(sd:Sd):Prop:=∃dx w,H s=some (.ins CT dx (yG (.int (sd.picked:Nat)) (.int (sd.dead:Nat)) (.ref w)))/\vY G w sd.wanted
inductive w9 (CB CC CS CT:Addr)(vs:List V)(H:Hp)(Q:VK)(E:XK):Prop
 |mk (G:Hp)(p ch le fl s:Addr)(c:el)(sd:Sd)(x:Str)(_:vs=[.ref p,.ref s,.str x])(_:Se CB CC CS G H p ch le fl c)(_:lO CT G H s sd)(_:Q (.int (iq (c.Lf x) sd.dead:Nat)) H)
inductive oC (CB CC CS:Addr)(vs:List V)(H:Hp)(Q:VK)(E:XK):Prop
 |mk (G:Hp)(p ch le fl w0:Addr)(c:el)(kvs0:List (gz×V))(wanted:List (Str×Option Pk))(wv:V)(who:Option Pk)(pm:Nat)(_:vs=[.ref p,.ref w0,wv,.int (pm:Nat)])(_:Se CB CC CS G H p ch le fl c)(_:Rd H w0 (.dK kvs0))(_:Paired (vX G) kvs0 wanted)(_:wanted.length<=7000)(_:∀x u,(x,u)∈wanted->c.Who u/\x∈eR (c.needs u))(_:c.Who who)(_:gU G wv who)(_:∀(a:Addr) (H':Hp) (kvs:List (gz×V)) (g:List (Str×Option Pk)),eF H H'->H a=none->H' a=some (.dK kvs)->Paired (vX G) kvs g->c.Lb wanted who pm g->Q (.ref a) H')
theorem tL {n:Nat}(h:n<=10000):n<sizeLine:=bI h (by decide)
section
variable {base:Heap}{f:Addr}
theorem FP:eM ["self","stand","part"] ["self","stand","part"] (eB zd):=i4
theorem Cd {CT:Addr}(F:iL K "left" "Search.left" zd f fd)(T:tE K mg CS)(a:TC K mg CC)(TT:CP K mg CT):fi P w K mg base fB 1 f fd ["self","stand","part"] (w9 CB CC CS CT):=by
 refine F.ok FP λy A i s H O Q E z h=>?_;obtain⟨G,p,m,M,fl,D,c,sd,x,rfl,d,⟨C,wa,hs,S⟩,q⟩:=h;have B:=gB z;refine⟨_,(eo (eQ (fe ic (kg B (eK a.cl a.nOf (eK T.cl T.nCh (pv 0))) (pv 2) er ⟨rfl,rfl,rfl,rfl⟩) (jb kS (eK TT.cl TT.nDe (pv 1)))))),?_⟩;obtain⟨I,hp⟩:=d.self;obtain⟨o,b,bits,t,e,Y,L,fo,st,v,U,X,c4,Z,l,R,J,N⟩:=(d.chart.f d.gh).ex;obtain⟨r,j,g⟩:=l.get x;refine⟨_,rfl,p,I,_,_,rfl,d.gh.ins hp,(by kernel_rfl),m,o,_,_,rfl,v,(by kernel_rfl),e,rfl,l.isD,_,rfl,r,j,?_⟩;rw[g];refine⟨_,rfl,D,C,_,V.int (sd.dead:Nat),rfl,hs,(by kernel_rfl),_,rfl,_,_,rfl,rfl,?_⟩;dsimp only;rw[qo];exact q
theorem BB:eM ["self","wanted","who","picked","allowed","grown","part"] ["self","wanted","who","picked"] (eB rl):=i4
theorem xD (F:iL K "wanted_by" "Search.wanted_by" rl f fd)(T:tE K mg CS)(L:TC K mg CC)(GC:Gd P w K mg base fB 1 "count_picks" ["mask"] vV):fi P w K mg base fB 2 f fd ["self","wanted","who","picked"] (oC CB CC CS):=by
 refine F.ok BB λbx A bl s H vs Q E hr h=>?_;obtain⟨G,p,ch,le,fl,w0,c,g,wanted,Z,who,X,rfl,M,a8,as,bq,aa,B,S,q⟩:=h;have J:=gB hr;refine⟨_,(ee (eJ (i:=4) BB.nd (eK L.cl L.nAl (eK T.cl T.nCh (pv 0)))) (ee (eJ (i:=5) BB.nd (gX vK rfl T.dict PyProof.Rows.boot_dict (dZ (pv 1) eg))) (ee (fG (zw (eY J (pv 4) (pv 2))) (eL (i:=6) BB.nd) (ee (fz (iz (fe ic (pv 3) (kg J (eK L.cl L.nOf (eK T.cl T.nCh (pv 0))) (pv 6) er ⟨rfl,rfl,rfl,rfl⟩)) (λ_=>rfl)) (eo tU) eP) (eo (fz (PW.pt (ja (hJ (jD J (pv 6) (pv 5))) (iR (fC wz (fN GC hr (dZ (gN J (eY J (pv 4) (pv 2)) (pv 6)) eg)) (fN GC hr (dZ (gN J (eY J (pv 4) (gN J (pv 5) (pv 6))) (pv 6)) eg)) (fO _))))) (eo (iD J (pv 5) (pv 6) (pv 2) rfl)) eP)))) (eo (eQ (pv 5)))))),?_⟩;obtain⟨dx,hp⟩:=M.self;obtain⟨cx,b,bits,bv,a3,Y,sh,fo,st,c1,c2,c3,c4,c5,c6,c7,c8,c9⟩:=(M.chart.f M.gh).ex;refine⟨_,rfl,p,dx,_,_,rfl,M.gh.ins hp,(by kernel_rfl),ch,cx,_,V.ref Y,rfl,c1,(by kernel_rfl),?_⟩;refine⟨_,rfl,w0,g,rfl,a8,λa ha=>?_⟩;have s1:=eA ha (.dK g);have an:upd H a (.dK g) a=some (.dK g):=d0;generalize upd H a (.dK g)=H1 at *;obtain⟨d,a6,a2⟩:=(c7.same s1).get B ((S.f M.gh).same s1);obtain⟨o,I,R,a0,b1⟩:=id a2;have ba:d≠a:=fh R an λz=>nomatch z;have la:I.length=(eR (c.needs who)).length:=by
  have:=congrArg List.length a0;rw[ab,ab]at this;exact this
 refine⟨_,rfl,_,rfl,Y,_,rfl,a6,d,o,I,rfl,R,?_⟩;refine sB (kvs:=I) (λi σ D=>∃kvs C o6,σ=[some (.ref p),some (.ref w0),some Z,some (.int (X:Nat)),some (.ref Y),some (.ref a),o6]/\D a=some (.dK kvs)/\(∀b,b≠a->D b=H1 b)/\kvs.length<=7000+i/\Paired (vX G) kvs C/\c.Lz wanted who X ((eR (c.needs who)).take i) C)
  ⟨g,wanted,none,rfl,an,λ_ _=>rfl,by rw[Paired.length as];lia,as,GrowP.nil⟩ (λi σ D _ ⟨_,_,_,_,_,e,_⟩=>by rw[e d ba];exact R) ?_ ?_
 ·rintro i kv σ D hi ⟨kvs,C,o6,rfl,t,y,bd,m,l⟩;have ag:(I.map (·.1))[i]?=some kv.1:=by rw[ae,hi];rfl
  rw[a0,ae]at ag;obtain⟨x,U,ex⟩:=az.mp ag;rw[<-ex];have a1:=ai U;have ap:=pz (jm (c.needs who)) U;have b2:i<100:=by
   have h1:=(af.mp U).1;have h2:(eR (c.needs who)).length<=(c.needs who).length:=mV _;have:=M.nds who
   lia
  have j:eF H D:=λb u e=>by
   have nb:b≠a:=et e ha;rw[y b nb];exact s1 _ _ e
  obtain⟨r,a9,a4⟩:=(c6.same j).get x;refine⟨_,rfl,_,rfl,p,dx,_,_,rfl,j _ _ (M.gh.ins hp),(by kernel_rfl),ch,cx,_,_,rfl,j _ _ c1,(by kernel_rfl),a3,rfl,(c6.same j).isD,_,rfl,r,a9,?_⟩;rw[a4];refine⟨_,_,rfl,rfl,_,rfl,?_⟩;dsimp only;rw[nz,pH];by_cases hip:c.isP X x
  ·rw[au (wI.mpr hip)];refine gW ?_;exact⟨kvs,C,_,rfl,t,y,by lia,m,by rw[fH U];exact GrowP.skip l hip⟩
  ·rw[aq (Classical.byContradiction λz=>hip (wI.mp z))];refine ff ?_;have ad:iu D a (.str x) (eV kvs (Sum.inr x)):=iu.k (k:=Sum.inr x) t;refine⟨_,rfl,_,rfl,a,_,rfl,ad,_,rfl,?_⟩;have b3:=fZ kvs (Sum.inr x) Z;have ah:c.Lz wanted who X ((eR (c.needs who)).take (i+1)) (if x∈C.map (·.1) then C.map (λyu=>if yu.1=x then (yu.1,who) else yu) else C++[(x,who)])->
     ∃kvs' gg' o6,[some (.ref p),some (.ref w0),some Z,some (.int (X:Nat)),some (.ref Y),some (.ref a),some (.str x)]=[some (.ref p),some (.ref w0),some Z,some (.int (X:Nat)),some (.ref Y),some (.ref a),o6]/\upd D a (.dK (fm kvs (Sum.inr x) Z)) a=some (.dK kvs')/\(∀b,b≠a->upd D a (.dK (fm kvs (Sum.inr x) Z)) b=H1 b)/\kvs'.length<=7000+(i+1)/\Paired (vX G) kvs' gg'/\c.Lz wanted who X ((eR (c.needs who)).take (i+1)) gg':=
    λhg=>⟨_,_,_,rfl,d0,λb hb=>by rw[ef hb];exact y b hb,by lia,Dt m S,hg⟩
   by_cases hxg:x∈C.map (·.1)
   ·obtain⟨v,u,bf,a5,a7⟩:=nY m hxg;have N:=ad;rw[bf]at N ⊢;refine ff ?_;have O:c.Who u/\x∈eR (c.needs u):=by
     obtain⟨_,_,_,_,_,h5⟩:=l;rcases h5 x u a5 with z | ⟨z1,z2,_⟩
     ·exact aa x u z
     ·rw[z1];exact⟨B,a1⟩
    obtain⟨d1,e1,e2⟩:=(c7.same j).get B ((S.f M.gh).same j);obtain⟨d2,e3,e4⟩:=(c7.same j).get O.1 ((a7.f M.gh).same j);refine⟨_,rfl,_,rfl,Y,_,rfl,e1,_,rfl,d1,_,rfl,e2.get a1,c,_,rfl,c.KK _,?_⟩;refine⟨_,rfl,_,rfl,_,rfl,a,_,rfl,N,Y,_,rfl,e3,_,rfl,d2,_,rfl,e4.get O.2,c,_,rfl,c.KK _,_,_,rfl,rfl,_,rfl,?_⟩;by_cases hlt:(((c.listed (c.Lg who x)).length:Nat):Int)<(((c.listed (c.Lg u x)).length:Nat):Int)
    ·rw[aq hlt];refine gW ?_;refine⟨_,rfl,_,rfl,_,rfl,a,_,rfl,kP.k (k:=Sum.inr x) t (tL (by lia)),ah ?_⟩;rw[ax hxg,fH U];exact GrowP.swap l hip hxg ap
    ·rw[au hlt];refine ff ⟨kvs,C,_,rfl,t,y,by lia,m,?_⟩;rw[fH U];exact GrowP.J5 l hxg ap
   ·have bm:=(qX m).mpr hxg;rw[bm];refine gW ?_;refine⟨_,rfl,_,rfl,_,rfl,a,_,rfl,kP.k (k:=Sum.inr x) t (tL (by lia)),ah ?_⟩;rw[av hxg,fH U];exact GrowP.new l hip hxg
 ·rintro σ D ⟨kvs,C,o6,rfl,t,y,bd,m,l⟩;rw[la,aI]at l;refine⟨_,rfl,q a D kvs C (λb u e=>?_) ha t m l⟩;rw[y b (et e ha)];exact s1 _ _ e
end
def NZ (L:ir):Prop:=∀e∈L,e.1≠0
def Bd (CL:Addr)(G H:Hp)(O:List Addr)(le ch:Addr)(c:el)(L:ir)(m:Nat->Prop)(Q:VK):Prop:=
 ∀(G' H':Hp) (O':List Addr) (L':ir) (j:Nat) (e:Nat×Rs),iK G H O G' H' O'->gy CL G' H' le ch c L' O'->gQ c L'->(∃X,L'=L++X)->L'[j]?=some e->m e.1->(NZ L->NZ L'\/(e.1=0/\L'.getLast?=some e))->Q (.int (j:Nat)) H'
inductive oF (CB CC CS:Addr)(vs:List V)(H:Hp)(Q:VK)(E:XK):Prop
 |mk (G:Hp)(p ch le fl:Addr)(c:el)(wv:V)(who:Option Pk)(x:Str)(_:vs=[.ref p,wv,.str x])(_:Se CB CC CS G H p ch le fl c)(_:c.Who who)(_:gU H wv who)(_:x∈(c.needs who).map (·.1))(_:∀H',eF H H'->Q (.int (((c.needs who).map (·.1)).idxOf x:Nat)) H')
inductive pW (CB CC CL CS:Addr)(vs:List V)(H:Hp)(Q:VK)(E:XK):Prop
 |mk (G:Hp)(p ch le fl:Addr)(c:el)(L:ir)(O:List Addr)(wv v:V)(who:Option Pk)(k:Pk)(_:vs=[.ref p,wv,v])(_:Se CB CC CS G H p ch le fl c)(_:gy CL G H le ch c L O)(_:gQ c L)(_:c.Who who)(_:gU G wv who)(_:fg G v k)(_:k∈c.ks)(_:c.KL who k)(_:c.KO (c.Ks who ||| c.bit k))(_:Bd CL G H O le ch c L (λm=>m=c.Ks who ||| c.bit k) Q)
theorem Gg:(["need"]:List Str).Nodup:=by decide +kernel
theorem Gf:(["need","pick"]:List Str).Nodup:=by decide +kernel
theorem gy.same {c:el}{L:ir}{O:List Addr}(h:gy CL G H p ch c L O)(e:eF H H'):gy CL G H' p ch c L O:=
 h.grow (eD.refl _) h.off λa ha=>by obtain⟨u,hu⟩:=h.liv a ha;exact mn e hu
theorem gy.put {c:el}{L:ir}{O:List Addr}(h:gy CL G H p ch c L O)(i:eD G H){t:Addr}{u:HO}(e:H t=none):gy CL (upd G t u) (upd H t u) p ch c L O:=by
 have d:∀a∈O,a≠t:=λa b z=>by obtain⟨v,g⟩:=h.liv a b;rw[z,e]at g;cases g
 exact h.grow ((eD.refl _).upd (i.free e)) (λa b=>by rw[ef (d a b)];exact h.off a b) λa b=>by rw[ef (d a b)]
section
variable {base:Heap}{f:Addr}
theorem HZ:eM ["self","who","part"] ["self","who","part"] (eB rp):=i4
theorem xG (F:iL K "place_of_need" "Search.place_of_need" rp f fd)(T:tE K mg CS)(t:TC K mg CC)(l:TB K mg CB):fi P w K mg base fB 1 f fd ["self","who","part"] (oF CB CC CS):=by
 refine F.ok HZ λad A J s H vs Q E hr h=>?_;obtain⟨G,p,ch,le,fl,c,wv,who,x,rfl,r,j,v,hx,q⟩:=h;have hu:=gB hr;refine⟨_,(eo (eQ (ju PySem.F.plainAttrs_list PySem.F.slot_list_index PySem.F.type_list_index xY (iQ (N':=["need"]) (n:=1) (js:=[]) rfl (iG.closed) (ip (by decide)) (fD (eY hu (eK l.cl l.nN (eK t.cl t.nBoard (eK T.cl T.nCh (pv 0)))) (pv 1))) (λC Y U X=>eL (i:=0) Gg) (λC Y U X=>jw) (λC Y U X=>eG (eN:GP _ (xt K)) (pv 0) er)) (dZ (pv 2) eg)))),?_⟩;obtain⟨dx,hp⟩:=r.self;obtain⟨cx,b,bits,aa,Z,al,sh,fo,st,c1,c2,c3,c4,c5,c6,c7,c8,c9⟩:=(r.chart.f r.gh).ex;obtain⟨bx,dn,dv,M,L⟩:=jr c2 c3;obtain⟨na,I,zs,R,m⟩:=L who wv j v;have lz:=Paired.length m;have O:=r.nds who;refine⟨_,rfl,p,dx,_,_,rfl,r.gh.ins hp,(by kernel_rfl),ch,cx,_,_,rfl,c1,(by kernel_rfl),b,bx,_,_,rfl,M,gc _ _,_,rfl,dn,_,rfl,I,na,rfl,⟨_,eX.of R⟩,?_⟩;refine ik (xs:=zs) (λD i o e=>o=(((c.needs who).take i).map (·.1)).map V.str/\e D=some (.lst o)/\eF H e/\H D=none) (λD N=>⟨by simp,d0,eA N _,N⟩)
  (λD i o e S ⟨d,a,g,_⟩=>⟨eX.of (g _ _ R),a,?_⟩) (λD i y o e S ⟨d,a,g,B⟩=>?_) (λD o e ⟨d,a,g,B⟩=>?_)
 ·rw[d,ab,ab,aT];exact eO (by lia)
 ·obtain⟨n,z,nq,rfl,hn⟩:=Paired.Kq m S;unfold jq qb;dsimp only;rw[ax rfl];refine⟨_,rfl,nq,_,_,_,rfl,rfl,gs.of (g _ _ hn),rfl,a,?_,d0,eF.upd g B,B⟩;rw[d,fH z,ay,ay];rfl
 ·rw[lz,aI]at d;subst d;exact⟨.inl ⟨rfl,_,eX.of a⟩,_,rfl,D,_,x,rfl,rfl,a,hx,q e g⟩
theorem DI:eM ["self","who","pick","needs","place"] ["self","who","pick"] (eB oT):=i4
theorem u9 (F:iL K "outside" "Search.outside" oT f fd)(T:tE K mg CS)(l:TC K mg CC)(Z:TB K mg CB)(GC:Gd P w K mg base fB 1 "clashes" ["need","pick"] lE)(MP:Mt P w K mg base CL fB 2 "put_down" ["self","mask","reason"] (CN CB CC CL)):fi P w K mg base fB 3 f fd ["self","who","pick"] (pW CB CC CL CS):=by
 refine F.ok DI λbq A a3 s H vs Q E hr h=>?_;obtain⟨G,p,ch,le,fl,c,L,O,o,v,who,k,rfl,d,hL,m,g,J,hv,hk,a7,X,q⟩:=h;have hu:=gB hr;refine⟨_,(ee (eJ (i:=3) DI.nd (eY hu (eK Z.cl Z.nN (eK l.cl l.nBoard (eK T.cl T.nCh (pv 0)))) (pv 1))) (ee (eJ (i:=4) DI.nd (ju PySem.F.plainAttrs_list PySem.F.slot_list_index PySem.F.type_list_index xZ (iQ (N':=["need","pick"]) (n:=1) (js:=[2]) rfl (iG.one (c:=s.heap.objs.size+1) (y:="pick")) (ip (by decide)) (fD (pv 3)) (λC s2 H2 fp=>eL (i:=0) Gf) (λC s2 H2 fp=>jw) (λC s2 H2 fp=>fN GC (hr.mono (by decide)) (dZ (pv 0) (dZ (pv 1) eg)))) (dZ iU eg))) (eo (eQ (il MP hr fE (eK T.cl T.nLe (pv 0)) (dZ (fe qD (eY hu (eK l.cl l.nBits (eK T.cl T.nCh (pv 0))) (pv 1)) (eY hu (eK l.cl l.nBits (eK T.cl T.nCh (pv 0))) (pv 2))) (dZ (gL (dZ jd (dZ (pv 1) (dZ (pv 4) (dZ (pv 2) eg))))) eg))))))),?_⟩;obtain⟨dx,hp⟩:=d.self;obtain⟨cx,b,bits,bm,bf,al,sh,fo,st,c1,c2,c3,c4,c5,c6,c7,c8,c9⟩:=(d.chart.f d.gh).ex;obtain⟨bx,dn,dv,a9,a5⟩:=jr c2 c3;obtain⟨na,a0,zs,hz,aa⟩:=a5 who o g (J.f d.gh);have lz:=Paired.length aa;have bd:=d.nds who;have r:=d.gh.ins hp;refine⟨_,rfl,p,dx,_,_,rfl,r,(by kernel_rfl),ch,cx,_,_,rfl,c1,(by kernel_rfl),b,bx,_,_,rfl,a9,gc _ _,_,rfl,dn,_,rfl,a0,?_⟩;refine⟨_,rfl,na,rfl,⟨_,eX.of hz⟩,?_⟩;refine ik (xs:=zs) (λD i ys B=>ys=(((c.needs who).take i).map λn=>p8 n k).map V.bl/\B D=some (.lst ys)/\eF H B/\H D=none) (λD hD=>⟨by simp,d0,eA hD _,hD⟩)
  (λD i ys B hi ⟨R,N,a,_⟩=>⟨eX.of (a _ _ hz),N,?_⟩) (λD i y ys B hi ⟨R,N,a,e4⟩=>?_) (λD ys B ⟨R,N,a,e4⟩=>?_)
 ·rw[R,ab,ab,aT];exact eO (by lia)
 ·obtain⟨n,ah,hn⟩:=Paired.Kq aa hi;unfold jq qb;dsimp only;rw[ax rfl];refine⟨_,rfl,_,rfl,_,_,n,k,rfl,fJ.same a hn,fg.same a (fg.f d.gh hv),N,?_,d0,eF.upd a e4,e4⟩;rw[R,fH ah,ay,ay];rfl
 ·rw[lz,aI]at R;subst R;have U:true∈(c.needs who).map λn=>p8 n k:=by
   obtain⟨n,ad,a6⟩:=a7;exact aw.mpr ⟨n,ad,a6⟩
  refine⟨.inl ⟨rfl,_,eX.of N⟩,D,_,rfl,rfl,N,U,?_⟩;have Y:=(J.f d.gh).same a;have ap:fg B v k:=fg.same a (fg.f d.gh hv);obtain⟨lx,ma,re,pm,pp,bv,rs,Ol,hO,ba,as⟩:=id hL.ex;refine⟨_,rfl,p,dx,_,V.ref le,rfl,a _ _ r,(by kernel_rfl),le,lx,_,rfl,a _ _ (d.gh.ins ba),(by kernel_rfl),?_⟩;refine⟨_,rfl,p,dx,_,_,rfl,a _ _ r,(by kernel_rfl),ch,cx,_,_,rfl,a _ _ c1,(by kernel_rfl),_,rfl,bits,_,rfl,(c4.same a).get g Y,_,rfl,p,dx,_,_,rfl,a _ _ r,(by kernel_rfl),ch,cx,_,_,rfl,a _ _ c1,(by kernel_rfl),_,rfl,bits,_,rfl,(c4.same a).get (w:=some k) (gE hk) ap,_,_,rfl,rfl,?_⟩;dsimp only;rw[wT];refine⟨_,rfl,_,rfl,_,rfl,Fl,λt ht=>?_⟩;have M:eD G B:=d.gh.trans a.toF;have gt:G t=none:=M.free ht;have GW:iK G H O (upd G t (.tup [.str ("outside":Str),o,.int (((c.needs who).map λn=>p8 n k).idxOf true:Nat),v])) (upd B t (.tup [.str ("outside":Str),o,.int (((c.needs who).map λn=>p8 n k).idxOf true:Nat),v])) O:=(iK.same d.gh a).trans (iK.put M ht);have S:=(hL.same a).put M (u:=.tup [.str ("outside":Str),o,.int (((c.needs who).map λn=>p8 n k).idxOf true:Nat),v]) ht;obtain⟨i,n,hi,hin,hcl⟩:∃i n,((c.needs who).map λn=>p8 n k).idxOf true=i/\(c.needs who)[i]?=some n/\p8 n k=true:=by
   have a1:=bC.mpr U;have hg:=cm a1;rw[List.getElem_map]at hg;exact⟨_,_,rfl,ak _,hg⟩
  have hR:nE (upd G t (.tup [.str ("outside":Str),o,.int (((c.needs who).map λn=>p8 n k).idxOf true:Nat),v])) (.ref t) ⟨who,(i:Nat),.one k⟩:=by
   have gG:=(eD.refl G).upd (u:=.tup [.str ("outside":Str),o,.int (((c.needs who).map λn=>p8 n k).idxOf true:Nat),v]) gt;refine⟨t,o,v,rfl,?_,J.f gG,fg.f gG hv⟩;rw[hi];exact d0
  have I:c.Ks who ||| c.bit k<2^c.n:=jo (el.Lo g) (c.KD hk);have an:=d.chart.f GW.gg;generalize upd G t (.tup [.str ("outside":Str),o,.int (((c.needs who).map λn=>p8 n k).idxOf true:Nat),v])=G' at *;generalize upd B t (.tup [.str ("outside":Str),o,.int (((c.needs who).map λn=>p8 n k).idxOf true:Nat),v])=H8 at *;refine⟨G',le,ch,c,L,O,c.Ks who ||| c.bit k,_,_,rfl,GW.gh,an,S,hR,I,d.n,d.sm L m,λj hj=>?_,λhn H9 O9 g9 a2=>?_⟩
  ·obtain⟨e,ag,a4⟩:=qy hj;exact q G' H8 O L j e GW S m ⟨[],by simp⟩ ag a4 .inl
  ·refine q G' H9 O9 _ L.length (c.Ks who ||| c.bit k,⟨who,(i:Nat),.one k⟩) (GW.trans g9) a2 (m.add I X (mT.mp hn) ?_) ⟨_,rfl⟩ ?_ rfl (λa8=>.inl λx hx=>?_)
   ·refine zO ?_ (el.Ky.mpr (.inr ((el.KB hk).mpr rfl))) hin hcl;cases who with
    |none=>trivial
    |some k0=>exact el.Ky.mpr (.inl ((el.Lp g).mpr rfl))
   ·rw[bb (ao _),bQ];rfl
   ·rcases aD.mp hx with z | z
    ·exact a8 x z
    ·rw[aj.mp z];intro y;have:c.has (c.Ks who ||| c.bit k) k:=el.Ky.mpr (.inr ((el.KB hk).mpr rfl));rw[show c.Ks who ||| c.bit k=0 from y]at this;exact el.KC this
end
end
section
variable {H:Hp}{L:ir}{O:List Addr}
def p3 (c:el)(F:List Fk):Prop:=∀(i i':Nat) (f f':Fk),i<=i'->F[i]?=some f->F[i']?=some f'->∀j,c.has f.sd.picked j->c.has f'.sd.picked j
theorem p3.snoc {c:el}{F:List Fk}{g:Fk}(h:p3 c F)(a:∀f∈F,∀j,c.has f.sd.picked j->c.has g.sd.picked j):p3 c (F++[g]):=λi i' f f' hi h1 h2 j hj=>by
 have e2:i'<F.length\/i'=F.length:=by
  have:=(af.mp h2).1;rw[aF,aU]at this
  lia
 rcases e2 with e2 | e2
 ·rw[aQ e2]at h2;rw[aQ (by lia)]at h1;exact h i i' f f' hi h1 h2 j hj
 ·subst e2;rw[bb (ao _),bQ]at h2;have:g=f':=by simpa using h2
  subst this;rcases dj i F.length with z | z
  ·rw[aQ z]at h1;exact a f (ai h1) j hj
  ·have:i=F.length:=by lia
   subst this;rw[bb (ao _),bQ]at h1;have:g=f:=by simpa using h1
   subst this;exact hj
theorem fL.mono {c:el}{R:List Fk}{s:Sd}(h:fL c L R s):∀g:Fk,g.sd=s->p3 c (R.reverse++[g]):=by
 induction h with
 |nil _ _=>
  intro g _;exact p3.snoc (F:=[]) (λi p f o _ a=>by simp at a) λf b=>nomatch b
 |@cons f F s a h2 h3 h4 ih=>
  intro g e;rw[cV];refine p3.snoc (ih f rfl) λx m j d=>?_;rw[e];have l:fL c L (f::F) s:=.cons a h2 h3 h4;refine(l.sub x ?_).1 j d;rcases aD.mp m with z | z
  ·exact bc _ (ci.mp z)
  ·rw[aj.mp z];exact bt
theorem fL.fks {c:el}{R:List Fk}{s:Sd}(h:fL c L R s):∀f∈R,kF c f/\iN c L f.sd:=by
 induction h with
 |nil _ _=>exact λf a=>nomatch a
 |cons h1 h2 h3 h4 ih=>
  intro x hx;rcases am.mp hx with rfl | hx
  ·exact⟨h2,h1.sd⟩
  ·exact ih x hx
def el.LP (c:el)(m:Nat)(F:List Fk):List Fk:=match F.getLast? with
 |some g=>(match g.bit with
  |some k=>F.map (c.KW k m)
  |none=>F)
 |none=>F
theorem me {α:Type}{p q:α->Bool}:∀{l:List α},(∀x∈l,q x=true->p x=true)->(l.filter q).length<=(l.filter p).length
 |[],_=>ao _
 |x::l,h=>by
  have ih:=me (l:=l) λy hy=>h y (by simp[hy]);rw[aJ,aJ];by_cases hq:q x=true
  ·rw[ax hq,ax (h x (by simp) hq),aE,aE];lia
  ·rw[av hq]
   split
   ·rw[aE];lia
   ·exact ih
theorem qL {α:Type}{p q:α->Bool}{k:α}:∀{l:List α},(∀x∈l,q x=true->p x=true)->k∈l->p k=true->q k=false->(l.filter q).length<(l.filter p).length
 |[],_,hk,_,_=>nomatch hk
 |x::l,h,hk,hp,hq=>by
  have hl:∀y∈l,q y=true->p y=true:=λy hy=>h y (by simp[hy]);rw[aJ,aJ];rcases am.mp hk with rfl | hk
  ·rw[av (by rw[hq];decide),ax hp,aE];have:=me hl
   lia
  ·have ih:=qL hl hk hp hq;by_cases hx:q x=true
   ·rw[ax hx,ax (h x (by simp) hx),aE,aE];lia
   ·rw[av hx]
    split
    ·rw[aE];lia
    ·exact ih
theorem el.LQ (c:el)(k:Pk)(m:Nat)(f:Fk):c.cnt (c.KW k m f)<=c.cnt f:=by
 unfold el.cnt el.left;refine me λx a h=>?_;simp only[aH,aB,bP,decide_eq_false_iff_not]at h ⊢;exact⟨h.1,λz=>h.2 (el.K0 z)⟩
theorem el.LR {c:el}{k:Pk}{m:Nat}{f:Fk}(a:k∈c.ks)(hp:k.1=f.part)(b:¬c.has f.sd.dead k)(d:iq (iq m (c.bit k)) f.sd.picked=0):c.cnt (c.KW k m f)<c.cnt f:=by
 unfold el.cnt el.left;refine qL (k:=k) (λx e h=>?_) a ?_ ?_
 ·simp only[aH,aB,bP,decide_eq_false_iff_not]at h ⊢;exact⟨h.1,λz=>h.2 (el.K0 z)⟩
 ·simp only[aH,aB,bP,decide_eq_false_iff_not];exact⟨hp,b⟩
 ·have:c.has (c.KW k m f).sd.dead k:=by
   show c.has (c.KU k m f.sd).dead k;unfold el.KU;rw[ax d];exact el.Ky.mpr (.inr ((el.KB a).mpr rfl))
  rw[aq this];simp
theorem yz {c:el}{B:List Fk}{g:Fk}{e:Nat×Rs}{n:Nat}(h:fL c L B.reverse g.sd)(A:kF c g)(E:e∈L)(p:e.1<2^c.n)(hs:∀j,c.has e.1 j->c.has g.sd.picked j)(hn:((B++[g]).take n).reverse=(B++[g]).reverse.dropWhile (λf=>!c.stop e.1 f)):((B++[g]).take n=[]/\e.1=0)\/∃B2 g2,c.LP e.1 ((B++[g]).take n)=B2++[g2]/\fL c L B2.reverse g2.sd/\kF c g2/\c.mv (c.n+1) (B2++[g2])<c.mv (c.n+1) (B++[g])/\e.1≠0:=by
 have q:c.stop e.1 g=false:=by
  unfold el.stop;cases hb:g.bit with
  |none=>rfl
  |some k=>exact au λz=>A.KS h.sd hb (hs k z)
 rw[cF,List.reverse_singleton,List.singleton_append,List.dropWhile_cons,ax (by rw[q];rfl)]at hn;rcases CM h hs with ⟨F,C⟩ | ⟨J,b,d,k,D,I,m,t,w,s,l,x⟩
 ·left
  rw[F]at hn;exact⟨List.reverse_eq_nil_iff.mp hn,el.KF p C⟩
 ·right
  rw[I]at hn;have y:(B++[g]).take n=d.reverse++[b]:=by
   have:=congrArg List.reverse hn;rw[cX,cV]at this;exact this
  have H:B=d.reverse++b::J.reverse:=by
   have:=congrArg List.reverse D;rw[cX,cF,cV,bH]at this;exact this
  have r:k∈c.ks:=(l.bit k m).1;have o:¬c.has b.sd.picked k:=l.KS s.sd m;have K:iq (iq e.1 (c.bit k)) b.sd.picked=0:=(el.K5 r p).mpr w;refine⟨d.reverse.map (c.KW k e.1),c.KW k e.1 b,?_,?_,l.KW,?_,λz=>?_⟩
  ·rw[y];unfold el.LP;rw[List.getLast?_append];simp only[List.getLast?_singleton,Option.some_or];rw[m];show List.map (c.KW k e.1) (d.reverse++[b])=_;rw[ay];rfl
  ·have:=s.KW r E p t o;rw[<-List.map_reverse,cX];exact this
  ·rw[H,bH,dh];refine el.La c (el.LR r (l.bit k m).2.1 x K) (c.n+1) _ _ (by rw[ab]) (λi a M G v=>?_) ?_
   ·rw[ae,G]at v;cases v;exact c.LQ k e.1 a
   ·have:=s.depth;rw[cf]
    lia
  ·rw[z]at t;exact el.KC t
def iY (H:Hp)(O:List Addr)(H':Hp)(O':List Addr):Prop:=∀x u,H x=some u->uD u->x∉O->H' x=some u/\x∉O'
theorem iY.refl (H:Hp)(O:List Addr):iY H O H O:=λx u h _ n=>⟨h,n⟩
theorem iY.trans {H1 H2:Hp}{O1 O2:List Addr}(a:iY H O H1 O1)(b:iY H1 O1 H2 O2):iY H O H2 O2:=λx u h f n=>(by obtain⟨h1,n1⟩:=a x u h f n;exact b x u h1 f n1)
theorem iK.LS {G G' H':Hp}{O':List Addr}(g:iK G H O G' H' O'):iY H O H' O':=λx u h f n=>⟨g.keep n h (by cases u <;> first | exact λz=>z | exact f.elim),g.out n h⟩
theorem iY.del {H':Hp}{ys:List Addr}(e:eD (del H ys) H')(hy:∀y∈ys,∃u,H y=some u/\¬uD u):iY H O H' O:=λx u h f n=>by
 have nx:x∉ys:=λz=>by obtain⟨v,h1,h2⟩:=hy x z;rw[h]at h1;cases h1;exact h2 f
 refine⟨e.no (by rw[eE nx];exact h) ?_,n⟩;cases u <;> first | exact λz=>z | exact f.elim
end
section
seal mj PS PE PT PA
variable {A:List (Addr×Addr)}{CB CC CF CL CS CT fl:Addr}{F:List Fk}{G G' H H':Hp}{K:W.Frag}{O O':List Addr}{P:Program}{fd:FuncData}{m:Nat}{mg:Str->Option Value}{w:World}
theorem lO.grow {s:Addr}{sd:Sd}(h:lO CT G H s sd)(g:iK G H O G' H' O')(n:s∉O):lO CT G' H' s sd:=
 (by obtain⟨dx,w,h1,h2⟩:=h;exact⟨dx,w,g.keep n h1 λz=>z,h2.f g.gg⟩)
def mM (CF CT:Addr)(G H:Hp)(c:el)(a:Addr×Addr)(fk:Fk):Prop:=(∃dx,H a.1=some (.ins CF dx (ui (.str fk.part) (.ref a.2) (.int (c.Ks fk.bit:Nat)))))/\lO CT G H a.2 fk.sd
structure jc (CF CT:Addr)(G H:Hp)(c:el)(fl:Addr)(A:List (Addr×Addr))(F:List Fk):Prop where
 l:H fl=some (.lst (A.map λa=>V.ref a.1))
 p:Paired (mM CF CT G H c) A F
 offl:G fl=none
 off:∀a∈A,G a.1=none/\G a.2=none
 nd1:(A.map (·.1)).Nodup
 nd2:(A.map (·.2)).Nodup
def yD (O:List Addr)(fl:Addr)(A:List (Addr×Addr)):Prop:=fl∉O/\∀a∈A,a.1∉O/\a.2∉O
theorem jc.grow {c:el}(h:jc CF CT G H c fl A F)(g:iK G H O G' H' O')(s:yD O fl A):jc CF CT G' H' c fl A F:=by
 have j:∀a∈A,∃d,mM CF CT G H c a d:=λa b=>by
  obtain⟨i,q⟩:=aC.mp b;obtain⟨d,_,o⟩:=Paired.Kq h.p q;exact⟨d,o⟩
 refine⟨g.keep s.1 h.l λz=>z,?_,g.off h.offl h.l,λa b=>?_,h.nd1,h.nd2⟩
 ·have:=h.p;have key:∀{A:List (Addr×Addr)} {F:List Fk},(∀a∈A,a.1∉O/\a.2∉O)->Paired (mM CF CT G H c) A F->Paired (mM CF CT G' H' c) A F:=by
   intro A F hs hp
   induction hp with
   |nil=>exact .nil
   |cons h1 _ ih=>exact .cons ⟨(by obtain⟨m,e⟩:=h1.1;exact⟨m,g.keep (hs _ (by simp)).1 e λz=>z⟩),h1.2.grow g (hs _ (by simp)).2⟩ (ih λa b=>hs a (by simp[b]))
  exact key s.2 h.p
 ·obtain⟨d,⟨m,r⟩,v,w,t,_⟩:=j a b;exact⟨g.off (h.off a b).1 r,g.off (h.off a b).2 t⟩
theorem yD.grow {c:el}(h:jc CF CT G H c fl A F)(g:iK G H O G' H' O')(s:yD O fl A):yD O' fl A:=by
 refine⟨g.out s.1 h.l,λa b=>?_⟩;obtain⟨i,j⟩:=aC.mp b;obtain⟨m,_,⟨o,d⟩,q,w,e,_⟩:=Paired.Kq h.p j;exact⟨g.out (s.2 a b).1 d,g.out (s.2 a b).2 e⟩
theorem wX {c:el}{k:Pk}(a:k∈c.ks):m &&& c.bit k≠0↔c.has m k:=by
 have b:m &&& c.bit k<2^c.n:=bI Nat.and_le_right (c.KD a)
 constructor
 ·intro h;refine Classical.byContradiction λz=>h (el.KF b λj e=>z ?_);obtain⟨d,g⟩:=el.Kz.mp e;rw[<-(el.KB a).mp g];exact d
 ·intro h z;have:c.has (m &&& c.bit k) k:=el.Kz.mpr ⟨h,(el.KB a).mpr rfl⟩;rw[z]at this;exact el.KC this
theorem j3 {c:el}{k:Pk}(a:k∈c.ks):(((m &&& c.bit k:Nat):Int) != 0)=decide (c.has m k):=by
 rw[pH];by_cases h:c.has m k
 ·rw[au (wX a |>.mpr h),aq h];rfl
 ·rw[aq (Classical.byContradiction λz=>h ((wX a).mp z)),au h];rfl
def IX (c:el)(F:List Fk)(k:Pk)(m:Nat):Prop:=c.has m k/\∀f∈F,c.has f.sd.dead k->∀j,c.has m j->j=k\/c.has f.sd.picked j
inductive pZ (CB CC CL CS CF CT:Addr)(vs:List V)(H:Hp)(Q:VK)(E:XK):Prop
 |mk (G:Hp)(p ch le fl:Addr)(c:el)(L:ir)(O:List Addr)(A:List (Addr×Addr))(F:List Fk)(v:V)(k:Pk)(_:vs=[.ref p,v])(_:Se CB CC CS G H p ch le fl c)(_:gy CL G H le ch c L O)(_:gQ c L)(_:jc CF CT G H c fl A F)(_:fg G v k)(_:k∈c.ks)(_:p3 c F)(_:∀f∈F,iN c L f.sd)(_:∃f0∈F,c.has f0.sd.dead k/\¬c.isP f0.sd.picked k.1)(_:F.length<=64)(_:Bd CL G H O le ch c L (IX c F k) Q)
theorem wB {c:el}{j k:Pk}(d:j∈c.ks)(g:k∈c.ks)(h:j.1=k.1->j=k):c.KO (c.bit j ||| c.bit k):=by
 intro a b l i e;rcases el.Ky.mp l with x | x <;> rcases el.Ky.mp i with y | y
 ·rw[(el.KB d).mp x,(el.KB d).mp y]
 ·rw[(el.KB d).mp x,(el.KB g).mp y]at e ⊢;exact h e
 ·rw[(el.KB g).mp x,(el.KB d).mp y]at e ⊢;exact(h e.symm).symm
 ·rw[(el.KB g).mp x,(el.KB g).mp y]
theorem B4 {c:el}{k:Pk}(d:k∈c.ks):c.KO (0 ||| c.bit k):=by
 intro a b g e _;rw[Nat.zero_or]at g e;rw[(el.KB d).mp g,(el.KB d).mp e]
theorem Gj:(["fork","bit"]:List Str).Nodup:=by decide +kernel
section
variable {base:Heap}{f:Addr}
theorem BG:eM ["self","pick","bit","stand","foes"] ["self","pick"] (eB uS):=i4
theorem Cc (F:iL K "line_against" "Search.line_against" uS f fd)(T:tE K mg CS)(J:TC K mg CC)(TT:CP K mg CT)(TF:Bc K mg CF)(MO:Mt P w K mg base CS fB 3 "outside" ["self","who","pick"] (pW CB CC CL CS))(ML:Mt P w K mg base CC fB 1 "listed" ["self","mask"] (j4 CC))(MA:Mt P w K mg base CL fB 1 "place_against" ["self","pick","picked"] (sO CB CC CL)):fi P w K mg base fB 4 f fd ["self","pick"] (pZ CB CC CL CS CF CT):=by
 refine F.ok BG λea A c0 s H vs Q E hr h=>?_;obtain⟨G,p,X,le,fl,c,L,O,AA,FF,v,k,rfl,M,hL,I,hF,hv,o,a9,bq,⟨f0,b3,b2,dd⟩,d8,q⟩:=h;have hu:=gB hr;refine⟨_,(ee (eJ (i:=2) BG.nd (eY hu (eK J.cl J.nBits (eK T.cl T.nCh (pv 0))) (pv 1))) (ee (eJ (i:=3) BG.nd (eG fc (iQ (N':=["fork","bit"]) (n:=1) (js:=[2]) rfl (iG.one (c:=s.heap.objs.size+1) (y:="bit")) (ip (by decide)) (fD (eK T.cl T.nFo (pv 0))) (λC s2 H2 fp=>eL (i:=0) Gj) (λC s2 H2 fp=>oh (uX (fe ic (eK TT.cl TT.nDe (eK TF.cl TF.nSt (pv 0))) (pv 1)) (λ_=>rfl))) (λC s2 H2 fp=>eK TF.cl TF.nSt (pv 0))) er)) (ee (fz (iz (fe ic (eY hu (eK J.cl J.nFo (eK T.cl T.nCh (pv 0))) iH) (pv 2)) (λ_=>rfl)) (eo (eQ (il MO hr fE (pv 0) (dZ iH (dZ (pv 1) eg))))) eP) (ee (eJ (i:=4) BG.nd (il ML (hr.mono (by decide)) fE (eK T.cl T.nCh (pv 0)) (dZ (fe ic (eY hu (eK J.cl J.nFo (eK T.cl T.nCh (pv 0))) (pv 1)) (fe qD (eK TT.cl TT.nPi (pv 3)) (pv 2))) eg))) (ee (fz (gJ (iz (pv 4) (λ_=>rfl))) (eo (eQ (il MA (hr.mono (by decide)) fE (eK T.cl T.nLe (pv 0)) (dZ (pv 1) (dZ (eK TT.cl TT.nPi (pv 3)) eg))))) eP) (ee (fz (iz (fe ic (eY hu (eK J.cl J.nSh (eK T.cl T.nCh (pv 0))) (eG fc (pv 4) er)) (pv 2)) (λ_=>rfl)) (eo (eQ (il MO hr fE (pv 0) (dZ (eG fc (pv 4) er) (dZ (pv 1) eg))))) eP) (eo (eQ (il MO hr fE (pv 0) (dZ (pv 1) (dZ (eG fc (pv 4) er) eg))))))))))),?_⟩;obtain⟨dx,hp⟩:=M.self;have t:=M.gh.ins hp;obtain⟨cx,b,bits,ds,d9,al,sh,fo,st,c1,c2,c3,c4,c5,c6,c7,c8,c9⟩:=(M.chart.f M.gh).ex;have bd:fg H v k:=fg.f M.gh hv;have lA:AA.length=FF.length:=Paired.length hF.p;refine⟨_,rfl,p,dx,_,_,rfl,t,(by kernel_rfl),X,cx,_,_,rfl,c1,(by kernel_rfl),_,rfl,bits,_,rfl,c4.get (w:=some k) (gE o) bd,?_⟩;refine⟨_,rfl,p,dx,_,_,rfl,t,(by kernel_rfl),fl,rfl,⟨_,eX.of hF.l⟩,?_⟩;refine ik (xs:=AA.map λa=>V.ref a.1) (λD i ys H7=>H7 D=some (.lst ys)/\eF H H7/\H D=none/\ys.length<=i/\((ys=[]/\∀N<i,∀f:Fk,FF[N]?=some f->¬c.has f.sd.dead k)\/∃(i0:Nat) (a:Addr) (g:Fk) (R:List V),ys=.ref a::R/\FF[i0]?=some g/\lO CT G H a g.sd/\c.has g.sd.dead k/\∀N<i0,∀f:Fk,FF[N]?=some f->¬c.has f.sd.dead k))
  (λD hD=>⟨d0,eA hD _,hD,ao _,.inl ⟨rfl,λN x=>absurd x (bY _)⟩⟩) (λD i ys H7 hi ⟨e1,r,e3,e4,_⟩=>⟨eX.of (r _ _ hF.l),e1,?_⟩) (λD i y ys H7 hi ⟨e1,r,e3,e4,e5⟩=>?_) (λD ys H7 ⟨e1,r,e3,e4,e5⟩=>?_)
 ·rw[ab]at hi;exact eO (by lia)
 ·rw[ae]at hi;obtain⟨a,ha,rfl⟩:=az.mp hi;obtain⟨fk,b1,⟨fx,bl⟩,ag⟩:=Paired.Kq hF.p ha;obtain⟨sx,wa,an,dc⟩:=id ag;unfold jq;refine⟨_,rfl,a.1,fx,_,V.ref a.2,rfl,r _ _ bl,(by kernel_rfl),a.2,sx,_,V.int (fk.sd.dead:Nat),rfl,r _ _ an,(by kernel_rfl),_,rfl,_,_,rfl,rfl,_,rfl,?_⟩;rw[nz,show c.Ks (some k)=c.bit k from rfl,j3 o];by_cases hd:c.has fk.sd.dead k
  ·rw[aq hd];refine gW ⟨_,rfl,a.1,fx,_,V.ref a.2,rfl,r _ _ bl,(by kernel_rfl),e1,d0,eF.upd r e3,e3,by rw[aF,aU];lia,.inr ?_⟩;rcases e5 with ⟨z1,z2⟩ | ⟨i0,a0,g,R,z1,z2⟩
   ·subst z1;exact⟨i,a.2,fk,[],rfl,b1,ag,hd,z2⟩
   ·exact⟨i0,a0,g,R++[.ref a.2],by rw[z1];rfl,z2⟩
  ·rw[au hd];refine ff ⟨e1,r,e3,by lia,?_⟩;rcases e5 with ⟨z1,z2⟩ | z
   ·refine .inl ⟨z1,λN x f hf=>?_⟩;rcases dj N i with y | y
    ·exact z2 N y f hf
    ·have:N=i:=by lia
     rw[this,b1]at hf;cases hf;exact hd
   ·exact .inr z
 ·rw[ab]at e5;have b4:¬(ys=[]/\∀N<AA.length,∀f,FF[N]?=some f->¬c.has f.sd.dead k):=λ⟨_,z⟩=>by
   obtain⟨N,x⟩:=aC.mp b3;exact z N (by rw[lA];exact(af.mp x).1) f0 x b2
  obtain⟨i0,sa,g,R,rfl,hg,ag,bm,ah⟩:=e5.resolve_left b4;have bv:=ai hg;have a4:∀f∈FF,c.has f.sd.dead k->∀j,c.has g.sd.picked j->c.has f.sd.picked j:=λf hf a7=>by
   obtain⟨N,x⟩:=aC.mp hf;exact a9 i0 N g f (Nat.le_of_not_lt λz=>ah N z f x a7) hg x
  have cp:¬c.isP g.sd.picked k.1:=(by rintro⟨j,h1,h2⟩;exact dd ⟨j,a4 f0 b3 b2 j h1,h2⟩);have a8:∀m,c.has m k->(∀j,c.has m j->j=k\/c.has g.sd.picked j)->IX c FF k m:=λm h1 h2=>⟨h1,λf hf a7 j S=>(h2 j S).imp id (a4 f hf a7 j)⟩;obtain⟨sx,wa,an,dc⟩:=id ag;have g7:eD G H7:=M.gh.trans r.toF;have cy:=M.same r;have cs:=hL.same r;have GW:=iK.same (O:=O) M.gh r;refine⟨D,_,_,V.ref sa,rfl,rfl,eX.of e1,mI,?_⟩;refine⟨_,rfl,p,dx,_,_,rfl,r _ _ t,(by kernel_rfl),X,cx,_,_,rfl,r _ _ c1,(by kernel_rfl),fo,_,rfl,(c9.same r).get (w:=none) jj rfl,_,rfl,_,_,rfl,rfl,_,rfl,?_⟩;dsimp only;rw[nz,show c.Ks (some k)=c.bit k from rfl,j3 o];by_cases hns:c.has (c.Li none) k
  ·rw[aq hns];refine gW ⟨_,rfl,p,dx,_,rfl,r _ _ t,(by kernel_rfl),_,rfl,G,p,X,le,fl,c,L,O,_,v,none,k,rfl,cy,cs,I,jj,rfl,hv,o,(el.Lk.mp hns).2,B4 o,?_⟩;intro G' H' O' L' j e gw hl B hx S hm aa;refine q G' H' O' L' j e (GW.trans gw) hl B hx S ?_ aa;have Y:e.1=0 ||| c.bit k:=hm;rw[Y,Nat.zero_or];exact a8 _ ((el.KB o).mpr rfl) λj S=>.inl ((el.KB o).mp S)
  ·rw[au hns];refine ff ?_;have cd:c.Li (some k) &&& (g.sd.picked ||| c.bit k)<2^c.n:=nB (c.Lm _);have dl:=M.chart;obtain⟨gx,gb,cv,b8,d7,eb,dv,ec,dp,d1,d2,d3,d4,d5,d6⟩:=dl.ex;refine⟨_,rfl,p,dx,_,V.ref X,rfl,r _ _ t,(by kernel_rfl),X,gx,_,rfl,g7.ins d1,(by kernel_rfl),_,rfl,p,dx,_,_,rfl,r _ _ t,(by kernel_rfl),X,cx,_,_,rfl,r _ _ c1,(by kernel_rfl),_,rfl,fo,_,rfl,(c9.same r).get (w:=some k) (gE o) (fg.same r bd),_,rfl,sa,sx,_,V.int (g.sd.picked:Nat),rfl,r _ _ an,(by kernel_rfl),_,rfl,_,_,rfl,rfl,_,_,rfl,rfl,?_⟩;dsimp only;rw[wT,nz];refine⟨G,X,gx,b8,_,c,_,rfl,g7,g7.ins d1,(by kernel_rfl),d5,M.n,cd,λl xs H8 s8 dn ad ba cz=>?_⟩;have d:=r.trans s8;have g8:eD G H8:=M.gh.trans d.toF;have bf:=M.same d;have as:=hL.same d;have a5:=iK.same (O:=O) M.gh d;refine⟨_,rfl,_,.inl ⟨xs,eX.of ad,rfl⟩,?_⟩;have lx:=Paired.length ba;cases hxs:c.listed (c.Li (some k) &&& (g.sd.picked ||| c.bit k)) with
   |nil=>
    rw[hxs]at lx;have:xs=[]:=bO.mp lx;subst this;refine gW ?_;have a1:∀j,c.foe k j->(j=k\/c.has g.sd.picked j)->j∈c.ks->False:=λj h1 h2 h3=>by
     have:j∈c.listed (c.Li (some k) &&& (g.sd.picked ||| c.bit k)):=el.Kx.mpr (el.Kz.mpr ⟨el.Ll.mpr ⟨h3,h1⟩,el.Ky.mpr (h2.elim (λz=>.inr ((el.KB o).mpr z)) .inl)⟩);rw[hxs]at this;cases this
    have ct:c.KP L g.sd.picked k:=by
     rcases (bq g bv).just k bm with z | z | ⟨j,z1,z2⟩ | z
     ·exact absurd (el.Lk.mpr ⟨o,z⟩) hns
     ·exact(a1 k z (.inl rfl) o).elim
     ·exact(a1 j z2 (.inr z1) z1.1).elim
     ·exact z
    obtain⟨b9,ma,re,pm,pp,dy,rs,Ol,hO,co,b6⟩:=id hL.ex;refine⟨_,rfl,p,dx,_,V.ref le,rfl,d _ _ t,(by kernel_rfl),le,b9,_,rfl,d _ _ (M.gh.ins co),(by kernel_rfl),_,rfl,_,rfl,sa,sx,_,V.int (g.sd.picked:Nat),rfl,d _ _ an,(by kernel_rfl),G,le,X,c,L,O,v,k,g.sd.picked,rfl,g8,M.chart,as,fg.same d bd,o,λH' j e s' S he=>?_,λb7=>?_⟩
    ·refine q G H' O L j e (a5.trans (iK.same g8 s')) (as.same s') I ⟨[],by simp⟩ S ?_ .inl;have h1:c.has (iq e.1 g.sd.picked) k:=by rw[he];exact(el.KB o).mpr rfl
     refine a8 _ (el.KA.mp h1).1 λj' da=>?_;by_cases ap:c.has g.sd.picked j'
     ·exact .inr ap
     ·have:c.has (iq e.1 g.sd.picked) j':=el.KA.mpr ⟨da,ap⟩;rw[he]at this;exact .inl ((el.KB o).mp this)
    ·obtain⟨e,he,h1,h2⟩:=ct;exact absurd (vi o (I.lt e he) h1 h2 ((bq g bv).off k bm)) (b7 e he h1)
   |cons j0 js=>
    rw[hxs]at lx;obtain⟨x0,xr,rfl⟩:∃x0 xr,xs=x0::xr:=by
     cases xs with
     |nil=>simp at lx
     |cons a b=>exact⟨a,b,rfl⟩
    rw[hxs]at ba;have a6:fg G x0 j0:=by cases ba with | cons h _=>exact h
    have b5:j0∈c.listed (c.Li (some k) &&& (g.sd.picked ||| c.bit k)):=by rw[hxs];exact bt
    obtain⟨cn,ap⟩:=el.Kz.mp (el.Kx.mp b5);obtain⟨U,bx⟩:=el.Ll.mp cn;have a3:j0=k\/c.has g.sd.picked j0:=(el.Ky.mp ap).elim .inr λz=>.inl ((el.KB o).mp z);have Z:j0.1=k.1->j0=k:=λe=>a3.resolve_right λz=>cp ⟨j0,z,e⟩;have a2:IX c FF k (c.bit j0 ||| c.bit k):=a8 _ (el.Ky.mpr (.inr ((el.KB o).mpr rfl))) λj S=>(el.Ky.mp S).elim (λz=>by rw[(el.KB U).mp z];exact a3) λz=>.inl ((el.KB o).mp z);refine ff ?_;refine⟨_,rfl,p,dx,_,_,rfl,d _ _ t,(by kernel_rfl),X,cx,_,_,rfl,d _ _ c1,(by kernel_rfl),_,rfl,l,_,_,x0,rfl,rfl,eX.of ad,mI,sh,_,rfl,(c8.same d).get (w:=some j0) (gE U) (fg.f g8 a6),_,rfl,_,_,rfl,rfl,_,rfl,?_⟩;dsimp only;rw[nz,j3 o];by_cases hsj:c.has (c.Lh (some j0)) k
    ·rw[aq hsj];refine gW ⟨_,rfl,p,dx,_,rfl,d _ _ t,(by kernel_rfl),_,rfl,l,_,_,x0,rfl,rfl,eX.of ad,mI,_,rfl,G,p,X,le,fl,c,L,O,_,v,some j0,k,rfl,bf,as,I,gE U,a6,hv,o,(el.Lk.mp hsj).2,wB U o Z,?_⟩;intro G' H' O' L' j e gw hl B hx S hm aa;refine q G' H' O' L' j e (a5.trans gw) hl B hx S ?_ aa;have Y:e.1=c.bit j0 ||| c.bit k:=hm;rw[Y];exact a2
    ·rw[au hsj];refine ff ⟨_,rfl,p,dx,_,rfl,d _ _ t,(by kernel_rfl),_,rfl,_,rfl,l,_,_,x0,rfl,rfl,eX.of ad,mI,G,p,X,le,fl,c,L,O,v,x0,some k,j0,rfl,bf,as,I,gE o,hv,a6,U,?_,wB o U (λe=>(Z e.symm).symm),?_⟩
     ·rcases bx with z | z
      ·exact z
      ·exact absurd (el.Lk.mpr ⟨o,z⟩) hsj
     intro G' H' O' L' j e gw hl B hx S hm aa;refine q G' H' O' L' j e (a5.trans gw) hl B hx S ?_ aa;have Y:e.1=c.bit k ||| c.bit j0:=hm;rw[Y,Nat.or_comm];exact a2
end
def GN (c:el)(L:ir)(kvs:List (gz×V)):Option (Pk×Nat×Nat)->Prop
 |none=>kvs=[]
 |some (k0,j0,m0)=>k0∈c.ks/\kvs=[(Sum.inl (c.bit k0:Int),V.int (j0:Nat))]/\∃e,L[j0]?=some e/\e.1=m0
def IO (c:el)(fk:Fk)(kn:Option (Pk×Nat×Nat))(m:Nat):Prop:=∀j,c.has m j->c.has fk.sd.picked j\/∃k0 j0 m0,kn=some (k0,j0,m0)/\c.has m0 j/\j≠k0
inductive wY (CB CC CL CS CF CT:Addr)(vs:List V)(H:Hp)(Q:VK)(E:XK):Prop
 |mk (G:Hp)(p ch le fl:Addr)(c:el)(L:ir)(O:List Addr)(A:List (Addr×Addr))(F:List Fk)(i:Nat)(a:Addr×Addr)(fk:Fk)(kd:Addr)(kvs:List (gz×V))(kn:Option (Pk×Nat×Nat))(_:vs=[.ref p,.ref a.1,.ref kd])(_:Se CB CC CS G H p ch le fl c)(_:gy CL G H le ch c L O)(_:gQ c L)(_:jc CF CT G H c fl A F)(_:yD O fl A)(_:p3 c F)(_:∀f∈F,iN c L f.sd)(_:F.length<=64)(_:A[i]?=some a)(_:F[i]?=some fk)(_:fk.part∈fk.sd.wanted.map (·.1))(_:Rd H kd (.dK kvs))(_:kd∉O)(_:GN c L kvs kn)(_:∀k∈c.ks,k.1=fk.part->c.has fk.sd.dead k\/∃j0 m0,kn=some (k,j0,m0))(_:∀m,IO c fk kn m->c.KO m)(_:Bd CL G H O le ch c L (IO c fk kn) Q)
theorem Eh {c:el}{L:ir}{kvs:List (gz×V)}{kn:Option (Pk×Nat×Nat)}(h:GN c L kvs kn){k:Pk}(a:k∈c.ks):(eV kvs (Sum.inl (c.bit k:Int))=none/\∀j0 m0,kn≠some (k,j0,m0))\/∃(j0 m0:Nat) (e:Nat×Rs),kn=some (k,j0,m0)/\eV kvs (Sum.inl (c.bit k:Int))=some (.int (j0:Nat))/\L[j0]?=some e/\e.1=m0:=by
 match kn,h with
 |none,h=>exact .inl ⟨by rw[show kvs=[] from h];rfl,λ_ _ z=>nomatch z⟩
 |some (k0,j0,m0),⟨h1,h2,e,h3,h4⟩=>
  by_cases z:k=k0
  ·subst z;refine .inr ⟨j0,m0,e,rfl,?_,h3,h4⟩;rw[h2];exact gF rfl
  ·refine .inl ⟨?_,λ_ _ y=>z (by cases y;rfl)⟩;rw[h2];unfold eV;rw[bu,au]
   ·rfl
   ·intro y;have d:=Sum.inl.inj y;have:c.bit k0=c.bit k:=by lia
    refine z ?_;have b:c.has (c.bit k0) k:=by rw[this];exact(el.KB a).mpr rfl
    exact(el.KB h1).mp b
theorem wC {α:Type} [DecidableEq α] {β:Type}{f:β->α}{l:List β}{x:α}(h:x∈l.map f):∃y,l[(l.map f).idxOf x]?=some y/\f y=x:=by
 have a:=bC.mpr h;have b:=cm a;rw[List.getElem_map]at b;exact⟨_,ak _,b⟩
section
variable {base:Heap}{f:Addr}
theorem kU:eM ["self","fork","known","who","place","need","mask","below","version","pick","bit","at"] ["self","fork","known"] (eB za):=i4
theorem B8 (F:iL K "shut" "Search.shut" za f fd)(T:tE K mg CS)(S:TC K mg CC)(ew:TL K mg CL)(f0:TB K mg CB)(TT:CP K mg CT)(TF:Bc K mg CF)(MN:Mt P w K mg base CS fB 1 "place_of_need" ["self","who","part"] (oF CB CC CS))(MM:Mt P w K mg base CB fB 2 "meeting" ["self","need"] (lD CB))(MA:Mt P w K mg base CS fB 4 "line_against" ["self","pick"] (pZ CB CC CL CS CF CT))(MP:Mt P w K mg base CL fB 2 "put_down" ["self","mask","reason"] (CN CB CC CL)):fi P w K mg base fB 5 f fd ["self","fork","known"] (wY CB CC CL CS CF CT):=by
 refine F.ok kU λk9 A h4 s H vs Q E hr h=>?_;obtain⟨G,p,ch,le,fl,c,L,O,AA,FF,i,a,d,kd,as,kn,rfl,M,hL,fp,hF,b4,eb,f2,i2,eu,dc,ea,hn,f1,h8,b6,eq,q⟩:=h;have hu:=gB hr;refine⟨_,(ee (eJ (i:=3) kU.nd (gN hu (eK TT.cl TT.nWa (eK TF.cl TF.nSt (pv 1))) (eK TF.cl TF.nPa (pv 1)))) (ee (eJ (i:=4) kU.nd (il MN (hr.mono (by decide)) fE (pv 0) (dZ (pv 3) (dZ (eK TF.cl TF.nPa (pv 1)) eg)))) (ee (eJ (i:=5) kU.nd (eG fc (eY hu (eK f0.cl f0.nN (eK S.cl S.nBoard (eK T.cl T.nCh (pv 0)))) (pv 3)) (pv 4))) (ee (eJ (i:=6) kU.nd (eY hu (eK S.cl S.nBits (eK T.cl T.nCh (pv 0))) (pv 3))) (ee (eJ (i:=7) kU.nd (gM eg)) (ee (fG (fD (il MM (hr.mono (by decide)) fE (eK S.cl S.nBoard (eK T.cl T.nCh (pv 0))) (dZ (pv 5) eg))) (eL (i:=8) kU.nd) (ee (eJ (i:=9) kU.nd (gL (dZ (eK TF.cl TF.nPa (pv 1)) (dZ (pv 8) eg)))) (ee (eJ (i:=10) kU.nd (eY hu (eK S.cl S.nBits (eK T.cl T.nCh (pv 0))) (pv 9))) (ee (eJ (i:=11) kU.nd (zD (hJ (mU hu (pv 10) (pv 2))) (gN hu (pv 2) (pv 10)) (il MA hr fE (pv 0) (dZ (pv 9) eg)))) (ee (gm (ju PySem.F.plainAttrs_list PySem.F.slot_list_append PySem.F.type_list_append gR (pv 7) (dZ (pv 11) eg))) (eo (kH (i:=6) kU.nd (fe ic (eG fc (eK ew.cl ew.nMa (eK T.cl T.nLe (pv 0))) (pv 11)) (jb kS (pv 10))) ud))))))) (eo (eQ (il MP (hr.mono (by decide)) fE (eK T.cl T.nLe (pv 0)) (dZ (pv 6) (dZ (gL (dZ jd (dZ (pv 3) (dZ (pv 4) (dZ (pv 7) eg))))) eg))))))))))),?_⟩;obtain⟨dx,hp⟩:=M.self;have hy:=M.gh.ins hp;have ba:=ai dc;have em:=f2 d ba;obtain⟨⟨fx,hfa⟩,sx,wa,hsa,wo,wkvs,hwa,hwp⟩:mM CF CT G H c a d:=by
  obtain⟨h0,h1,h2⟩:=Paired.Kq hF.p eu;rw[dc]at h1;cases h1;exact h2
 obtain⟨wv,u,e7,fa,ah⟩:=nY hwp ea;obtain⟨ka,fv,fu⟩:=em.w1 d.part u fa;have I:c.Who u:=λk e=>by subst e;exact fv.1
 refine⟨_,rfl,a.1,fx,_,V.ref a.2,rfl,hfa,(by kernel_rfl),a.2,sx,_,V.ref wa,rfl,hsa,(by kernel_rfl),_,rfl,a.1,fx,_,V.str d.part,rfl,hfa,(by kernel_rfl),wa,_,rfl,.inl ⟨wkvs,Sum.inr d.part,.inr ⟨wo,M.gh.frz hwa⟩,rfl,e7.symm⟩,?_⟩;refine⟨_,rfl,p,dx,_,rfl,hy,(by kernel_rfl),_,rfl,_,rfl,a.1,fx,_,V.str d.part,rfl,hfa,(by kernel_rfl),G,p,ch,le,fl,c,wv,u,d.part,rfl,M,I,ah.f M.gh,fu,λH1 s1=>?_⟩;obtain⟨n,ft,gk⟩:=wC fu;generalize kp:((c.needs u).map (·.1)).idxOf d.part=pl at *;have g1:eD G H1:=M.gh.trans s1.toF;obtain⟨cx,b,bits,kl,k4,al,sh,fo,st,c1,c2,c3,c4,c5,c6,c7,c8,c9⟩:=(M.chart.f g1).ex;obtain⟨bx,dn,dv,gn,hd⟩:=jr c2 c3;obtain⟨na,g6,zs,hz,gb⟩:=hd u wv I (ah.f g1);have lz:=Paired.length gb;obtain⟨zv,h9,is⟩:=iV gb (show iI (c.needs u) (pl:Int)=some n by rw[ij];exact ft);have j1:sM zs (pl:Int)=some zv:=jy h9;have cs:=g1.ins hp;refine⟨_,rfl,p,dx,_,_,rfl,cs,(by kernel_rfl),ch,cx,_,_,rfl,c1,(by kernel_rfl),b,bx,_,_,rfl,gn,gc _ _,_,rfl,dn,_,rfl,g6,_,rfl,na,_,_,zv,rfl,rfl,eX.of hz,j1,?_⟩;refine⟨_,rfl,p,dx,_,_,rfl,cs,(by kernel_rfl),ch,cx,_,_,rfl,c1,(by kernel_rfl),_,rfl,bits,_,rfl,c4.get I (ah.f g1),?_⟩;refine⟨tH,λg J=>?_⟩;have s2:=eA J (.lst []);have b8:upd H1 g (.lst []) g=some (.lst []):=d0;generalize upd H1 g (.lst [])=H2 at *;have ec:=s1.trans s2;have g2:eD G H2:=M.gh.trans ec.toF;refine⟨_,rfl,p,dx,_,_,rfl,s2 _ _ cs,(by kernel_rfl),ch,cx,_,V.ref b,rfl,s2 _ _ c1,(by kernel_rfl),b,bx,_,rfl,s2 _ _ gn,pU _ _ (by decide +kernel) (by decide +kernel),_,rfl,b,st,c.es,_,n,rfl,c2.same s2,fJ.same s2 is,by rw[<-c.n_eq];exact M.n,λl ms H3 s3 hl go gx jn=>?_⟩;have gd:=pA gx jn;subst gd;have N:H g=none:=s1.free J;have ei:=ec.trans s3;have ga:l≠g:=λz=>by rw[z,b8]at hl;cases hl
 have hg:l∉O:=λz=>by obtain⟨v,hv⟩:=hL.liv l z;rw[ec _ _ hv]at hl;cases hl
 have f6:g∉O:=λz=>by obtain⟨v,hv⟩:=hL.liv g z;rw[N]at hv;cases hv
 refine⟨l,rfl,⟨_,eX.of go⟩,?_⟩;refine fQ (K:=K) (a:=l) (xs:=(je c.es n).map V.int) (λt σ H4=>∃(G':Hp) (O':List Addr) (L':ir) (bs:List Nat) (m:Nat) (o8 o9 cy cz:Option V),σ=[some (.ref p),some (.ref a.1),some (.ref kd),some wv,some (.int (pl:Nat)),some zv,some (.int (m:Nat)),some (.ref g),o8,o9,cy,cz]/\iK G H O G' H4 O'/\gy CL G' H4 le ch c L' O'/\gQ c L'/\(∃X,L'=L++X)/\(NZ L->NZ L')/\jc CF CT G' H4 c fl AA FF/\yD O' fl AA/\H4 g=some (.lst (gZ bs))/\g∉O'/\G' g=none/\H4 l=some (.lst ((je c.es n).map V.int))/\l∉O'/\Rd H4 kd (.dK as)/\kd∉O'/\bs.length=t/\(∀(j b:Nat) (v:Int),bs[j]?=some b->(je c.es n)[j]?=some v->∃e,L'[b]?=some e/\∀x,c.has e.1 x->x=(n.1,v)\/c.has m x)/\m<2^c.n/\IO c d kn m/\c.KN m u) ?_ ((by rintro t σ H4 _ ⟨_,_,_,_,_,_,_,_,_,_,_,_,_,_,_,_,_,_,_,_,e,_⟩;exact eX.of e)) ?_ ?_
 ·have GW:=iK.same (O:=O) M.gh ei;have bv:∀j,c.has (c.Ks u) j->c.has d.sd.picked j:=λj hj=>by
   have:=(el.Lp I).mp hj;subst this;exact fv
  refine⟨G,O,L,[],c.Ks u,none,none,none,none,rfl,GW,hL.same ei,fp,⟨[],by simp⟩,id,hF.grow GW b4,b4,s3 _ _ b8,f6,M.gh.free N,go,hg,io ei hn,f1,rfl,λj b v h=>by simp at h,el.Lo I,λj hj=>.inl (bv j hj),?_⟩;cases u with
  |none=>trivial
  |some k=>exact(el.Lp I).mpr rfl
 ·rintro t x σ H4 ht ⟨G4,O4,L4,bs,m,o8,o9,cy,cz,rfl,gw,a3,r,a1,ag,cv,B,R,aa,a5,e3,ed,co,a8,J,cp,an,bd,c0⟩;rw[ae]at ht;obtain⟨v,hv,rfl⟩:=az.mp ht;have g7:=ai hv;obtain⟨⟨fx4,hfa4⟩,hst4⟩:mM CF CT G4 H4 c a d:=by
   obtain⟨h0,h1,h2⟩:=Paired.Kq cv.p eu;rw[dc]at h1;cases h1;exact h2
  have hk:(d.part,v)∈c.ks:=(c.mem _).mpr (by rw[<-gk];exact(sj.mp g7).1);refine⟨_,rfl,a.1,fx4,_,V.str d.part,rfl,hfa4,(by kernel_rfl),_,rfl,tG,λtp bf=>?_⟩;have ep:g≠tp:=et R bf;have b3:=gw.trans (iK.put (O:=O4) (u:=.tup [.str d.part,.int v]) gw.gh bf);have b2:=a3.put gw.gh (u:=.tup [.str d.part,.int v]) bf;have f4:=iK.put (O:=O4) (u:=.tup [.str d.part,.int v]) gw.gh bf;have bq:=cv.grow f4 B;have d7:=eA bf (.tup [.str d.part,.int v]);have e1:fg (upd G4 tp (.tup [.str d.part,.int v])) (.ref tp) (d.part,v):=⟨tp,rfl,d0⟩;have ey:upd G4 tp (.tup [.str d.part,.int v]) g=none:=by rw[ef ep];exact a5
  generalize upd G4 tp (.tup [.str d.part,.int v])=G5 at *;generalize upd H4 tp (.tup [.str d.part,.int v])=H5 at *;have a0:Se CB CC CS G5 H5 p ch le fl c:=M.grow b3.gg b3.gh;have e8:=a0.gh.ins (b3.gg.ins hp);obtain⟨ho,b5,dl,ko,kt,k3,la,kq,kj,d1,d2,d3,d4,d5,d6⟩:=(a0.chart.f a0.gh).ex;refine⟨_,rfl,p,dx,_,_,rfl,e8,(by kernel_rfl),ch,ho,_,_,rfl,d1,(by kernel_rfl),_,rfl,dl,_,rfl,d4.get (w:=some (d.part,v)) (gE hk) (fg.f a0.gh e1),?_⟩;have e6:∀f∈FF,iN c L4 f.sd:=λf hf=>(f2 f hf).led λe he=>by obtain⟨X,hX⟩:=a1;rw[hX];exact aP _ he
  have a9:=a8;have d9:Rd H5 kd (.dK as):=io d7 co;have bm:=d7 _ _ R;have ez:=d7 _ _ e3;have key:∀(Q':VK) (σ:L2.St),σ[0]?=some (some (.ref p))->σ[2]?=some (some (.ref kd))->σ[9]?=some (some (.ref tp))->σ[10]?=some (some (.int (c.Ks (some (d.part,v)):Nat)))->
    (∀(G' H':Hp) (O':List Addr) (L':ir) (j:Nat) (e:Nat×Rs),iK G5 H5 O4 G' H' O'->gy CL G' H' le ch c L' O'->gQ c L'->(∃X,L'=L4++X)->L'[j]?=some e->(∀x,c.has e.1 x->x=(d.part,v)\/c.has d.sd.picked x\/∃k0 j0 m0,kn=some (k0,j0,m0)/\c.has m0 x/\x≠k0)->(NZ L4->NZ L')->Q' (.int (j:Nat)) H')->
    Jk (tB (Fx (nQ 10) (nQ 2))) (Db (nQ 2) (nQ 10)) (tJ CS ("line_against":Str) (pZ CB CC CL CS CF CT) [] E0 (nQ 0) (qu (nQ 9) xk)) σ H5 Q':=by
   intro Q' σ e0 e2 e9 e5 hq;have d8:iu H5 kd (.int (c.Ks (some (d.part,v)):Nat)) (eV as (Sum.inl (c.bit (d.part,v):Int))):=.inl ⟨as,Sum.inl (c.bit (d.part,v):Int),d9,rfl,rfl⟩;refine⟨_,e5,_,e2,kd,_,rfl,d8,_,rfl,?_⟩;rcases Eh h8 hk with ⟨z1,z2⟩ | ⟨j0,m0,e,z1,z2,z3,z4⟩
   ·rw[z1];refine ff ⟨_,e0,p,dx,_,rfl,e8,(by kernel_rfl),_,e9,G5,p,ch,le,fl,c,L4,O4,AA,FF,.ref tp,(d.part,v),rfl,a0,b2,r,bq,e1,hk,eb,e6,⟨d,ba,(b6 _ hk rfl).resolve_right (by rintro⟨j0,m0,z⟩;exact z2 j0 m0 z),ka⟩,i2,?_⟩;intro G' H' O' L' j e iv kb dy j2 h5 b7 fw;refine hq G' H' O' L' j e iv kb dy j2 h5 (λx U=>?_) (λz=>?_)
    ·exact(b7.2 d ba ((b6 _ hk rfl).resolve_right (by rintro⟨j0,m0,z⟩;exact z2 j0 m0 z)) x U).imp id .inl
    ·rcases fw z with y | ⟨y,_⟩
     ·exact y
     ·have:=b7.1;rw[y]at this;exact(el.KC this).elim
   ·rw[z2]at d8 ⊢;refine gW ⟨_,e2,_,e5,kd,_,rfl,d8,?_⟩;obtain⟨X,hX⟩:=a1;have js:L4[j0]?=some e:=by rw[hX,aQ (af.mp z3).1];exact z3
    refine hq G5 H5 O4 L4 j0 e (iK.refl a0.gh) b2 r ⟨[],by simp⟩ js (λx U=>?_) id;by_cases y:x=(d.part,v)
    ·exact .inl y
    ·exact .inr (.inr ⟨_,j0,m0,z1,by rw[<-z4];exact U,y⟩)
  refine key _ _ rfl rfl rfl rfl λG6 H6 O6 L6 j e D a6 a4 ev ct da e4=>?_;have ds:=b3.trans D;have kv:=ds.gh.ins (ds.gg.ins hp);have ap:H6 g=some (.lst (gZ bs)):=D.keep aa bm λz=>z;have cd:=D.out aa bm;have b9:=D.off ey bm;have hs:=D.keep ed ez λz=>z;have hc:=D.out ed ez;have kf:bs.length<64:=by
   have h1:=(af.mp hv).1;have h2:=li c.es n;have h3:=M.n;rw[c.n_eq]at h3
   lia
  refine⟨_,rfl,.inl ⟨rfl,_,eX.of ap⟩,_,rfl,g,_,_,rfl,rfl,ap,(by unfold gZ;rw[ab];exact eO (by lia)),?_⟩;have Z:∀b,b≠g->upd H6 g (.lst (gZ bs++[.int (j:Nat)])) b=H6 b:=λb hb=>ef hb;have ek:upd H6 g (.lst (gZ bs++[.int (j:Nat)])) g=some (.lst (gZ (bs++[j]))):=by
   rw[d0];unfold gZ;rw[ay];rfl
  have b1:=ds.own (u:=.lst (gZ bs++[.int (j:Nat)])) N b9;generalize upd H6 g (.lst (gZ bs++[.int (j:Nat)]))=H7 at *;have f5:gy CL G6 H7 le ch c L6 O6:=a6.grow (eD.refl _) a6.off λx U=>Z x λz=>cd (z▸U);obtain⟨hi,f8,k8,k5,kw,kh,kk,kx,ky,f3,f7,gp⟩:=id f5.ex;have ih:(L6.map (·.1))[j]?=some e.1:=by rw[ae,ct];rfl
  have g3:=b1.gh.ins (b1.gg.ins hp);refine⟨_,rfl,_,rfl,p,dx,_,V.ref le,rfl,g3,(by kernel_rfl),le,hi,_,V.ref f8,rfl,b1.gh.ins f3,(by kernel_rfl),_,rfl,f8,_,_,_,rfl,rfl,eX.of f7,kr ih,_,rfl,_,rfl,_,_,rfl,rfl,_,_,rfl,rfl,?_⟩;dsimp only;rw[qo,wT,show c.Ks (some (d.part,v))=c.bit (d.part,v) from rfl];have fy:e.1<2^c.n:=a4.lt e (ai ct);have hm:∃X,L6=L++X:=by
   obtain⟨X,hX⟩:=a1;obtain⟨Y,hY⟩:=ev;exact⟨X++Y,by rw[hY,hX,bH]⟩
  have a2:=bq.grow D B;have dd:=yD.grow bq D B;have ad:∀{x C dx fs},H6 x=some (.ins C dx fs)->x≠g:=λ{x C dx fs} h=>fh h ap λz=>nomatch z;have g0:jc CF CT G6 H7 c fl AA FF:=by
   have ha:fl≠g:=λz=>by
    have:=D.keep B.1 bq.l λz=>z;have cn:=hF.l;rw[z,N]at cn;cases cn
   refine⟨by rw[Z fl ha];exact a2.l,?_,a2.offl,a2.off,a2.nd1,a2.nd2⟩;refine Paired.J4 a2.p (by rintro x y ⟨⟨d1,z1⟩,d2,w2,z2,z3⟩;exact⟨⟨d1,by rw[Z _ (ad z1)];exact z1⟩,d2,w2,by rw[Z _ (ad z2)];exact z2,z3⟩)
  have f9:kd∉O6:=λz=>by
   rcases D.on kd z with y | y
   ·exact a9 y
   ·rcases d9 with h | ⟨o,h⟩ <;> (rw[y]at h;cases h)
  have hw:Rd H7 kd (.dK as):=by
   have k6:Rd H6 kd (.dK as):=D.fr.rd (d9.imp (λh=>by rw[eE a9];exact h) (by rintro⟨o,h⟩;exact⟨o,by rw[eE a9];exact h⟩));have ej:kd≠g:=λz=>by
    rw[z]at k6;rcases k6 with h | ⟨o,h⟩ <;> (rw[ap]at h;cases h)
   exact k6.imp (λh=>by rw[Z kd ej];exact h) (by rintro⟨o,h⟩;exact⟨o,by rw[Z kd ej];exact h⟩)
  refine⟨G6,O6,L6,bs++[j],m ||| iq e.1 (c.bit (d.part,v)),some (.int v),some (.ref tp),some (.int (c.bit (d.part,v):Nat)),some (.int (j:Nat)),rfl,b1,f5,a4,hm,λz=>e4 (ag z),g0,dd,ek,cd,b9,by rw[Z l ga];exact hs,hc,hw,f9,by rw[aF,J];rfl,λj' b' v' h1 h2=>?_,jo an (jJ fy),λx U=>?_,?_⟩
  ·by_cases hjt:j'<bs.length
   ·rw[aQ hjt]at h1;obtain⟨e',z1,z2⟩:=cp j' b' v' h1 h2;obtain⟨Y,hY⟩:=ev;refine⟨e',by rw[hY,aQ (af.mp z1).1];exact z1,λx U=>(z2 x U).imp id λz=>el.Ky.mpr (.inl z)⟩
   ·have h7:j'=bs.length:=by
     have:=(af.mp h1).1;rw[aF,aU]at this
     lia
    subst h7;rw[bb (ao _),bQ]at h1;have i0:j=b':=by simpa using h1
    subst i0;rw[J,hv]at h2;cases h2;refine⟨e,ct,λx U=>?_⟩;by_cases y:x=(d.part,v)
    ·exact .inl (by rw[gk];exact y)
    ·exact .inr (el.Ky.mpr (.inr (el.KA.mpr ⟨U,λz=>y ((el.KB hk).mp z)⟩)))
  ·rcases el.Ky.mp U with z | z
   ·exact bd x z
   ·obtain⟨z1,z2⟩:=el.KA.mp z;exact(da x z1).resolve_left λy=>z2 ((el.KB hk).mpr y)
  ·cases u with
   |none=>trivial
   |some k=>exact el.Ky.mpr (.inl c0)
 ·rintro σ H4 ⟨G4,O4,L4,bs,m,o8,o9,cy,cz,rfl,gw,a3,r,a1,ag,cv,B,R,aa,a5,e3,ed,co,a8,J,cp,an,bd,c0⟩;rw[ab]at J;obtain⟨g8,ma,re,pm,pp,k2,rs,Ol,hO,i1,g5⟩:=id a3.ex;have gt:=gw.gh.ins (gw.gg.ins hp);refine⟨_,rfl,p,dx,_,V.ref le,rfl,gt,(by kernel_rfl),le,g8,_,rfl,gw.gh.ins i1,(by kernel_rfl),_,rfl,_,rfl,_,rfl,_,rfl,Fl,λt ht=>?_⟩;have i3:g≠t:=et R ht;have k7:H t=none:=gw.lv t ht;have k1:G4 t=none:=gw.gh.free ht;have eh:iK G H O (upd G4 g (.lst (gZ bs))) H4 O4:=gw.base M.gh N R;have a7:=eh.trans (iK.put (u:=.tup [.str ("open":Str),wv,.int (pl:Nat),.ref g]) eh.gh ht);have b2:gy CL (upd G4 g (.lst (gZ bs))) H4 le ch c L4 O4:=a3.grow ((eD.refl _).upd a5) (λx U=>by rw[ef (λz:x=g=>aa (z▸U))];exact a3.off x U) λ_ _=>rfl;have a6:=b2.put eh.gh (u:=.tup [.str ("open":Str),wv,.int (pl:Nat),.ref g]) ht;have hR:nE (upd (upd G4 g (.lst (gZ bs))) t (.tup [.str ("open":Str),wv,.int (pl:Nat),.ref g])) (.ref t) ⟨u,(pl:Nat),.many (bs.map λb:Nat=>(b:Int))⟩:=by
   refine⟨t,wv,.ref g,rfl,d0,ah.f a7.gg,g,rfl,?_⟩;rw[ef i3,d0,cC];rfl
  have hh:=M.chart.f a7.gg;generalize upd (upd G4 g (.lst (gZ bs))) t (.tup [.str ("open":Str),wv,.int (pl:Nat),.ref g])=G6 at *;generalize upd H4 t (.tup [.str ("open":Str),wv,.int (pl:Nat),.ref g])=H6 at *;refine⟨G6,le,ch,c,L4,O4,m,_,_,rfl,a7.gh,hh,a6,hR,an,M.n,M.sm L4 r,λj hj=>?_,λdp H9 O9 g9 it=>?_⟩
  ·obtain⟨e,g4,kc⟩:=qy hj;exact q G6 H6 O4 L4 j e a7 a6 r a1 g4 (by rw[kc];exact bd) λz=>.inl (ag z)
  ·obtain⟨X,hX⟩:=a1;refine q G6 H9 O9 _ L4.length (m,⟨u,(pl:Nat),.many (bs.map λb:Nat=>(b:Int))⟩) (a7.trans g9) it (r.add an (eq m bd) (mT.mp dp) ?_) ⟨X++[(m,⟨u,(pl:Nat),.many (bs.map λb:Nat=>(b:Int))⟩)],by rw[hX,bH]⟩ ?_ bd λh6=>?_
   ·exact xA c0 ft J cp
   ·rw[bb (ao _),bQ];rfl
   ·by_cases bv:m=0
    ·exact .inr ⟨bv,by rw[List.getLast?_append];rfl⟩
    ·refine .inl λx U=>?_;rcases aD.mp U with z | z
     ·exact ag h6 x z
     ·rw[aj.mp z];exact bv
end
theorem oz {α:Type}{l:List α}{x:α}(h:l[l.length-1]?=some x):sM l (-1)=some x:=by
 have a:=(af.mp h).1;unfold sM Cs;rw[av (by decide)];have:(((-1:Int)+(l.length:Int)).toNat)=l.length-1:=by lia
 first
 |(rw[ax (by lia)];simp only[Option.bind_some];rw[this];exact h)
 |(rw[ax (by lia)];show l[_]?=some x;rw[show((l.length:Int)+-1).toNat=l.length-1 by lia];exact h)
inductive w6 (CB CC CL CS CF CT:Addr)(vs:List V)(H:Hp)(Q:VK)(E:XK):Prop
 |mk (G:Hp)(p ch le fl:Addr)(c:el)(L:ir)(O:List Addr)(A:List (Addr×Addr))(F:List Fk)(k:Pk)(j:Nat)(e:Nat×Rs)(_:vs=[.ref p,.int (c.bit k:Nat),.int (j:Nat)])(_:Se CB CC CS G H p ch le fl c)(_:gy CL G H le ch c L O)(_:jc CF CT G H c fl A F)(_:L[j]?=some e)(_:F.length<=64)(_:∀H',eF (del H (A.map (·.2))) H'->jc CF CT G H' c fl A (F.map (c.KW k e.1))->Q .non H')
theorem Bv (a b d w:V):gq ("dead":Str) d (yG a b w)=yG a d w:=by kernel_rfl
theorem Au {α:Type}{t i:Nat}(h:¬t=i)(x y:α):(if t<i+1 then x else y)=if t<i then x else y:=by
 by_cases z:t<i
 ·rw[ax z,ax (by lia)]
 ·rw[av z,av (by lia)]
theorem Gk:(["fork"]:List Str).Nodup:=by decide +kernel
theorem yW {a b dx dy:Addr}{x s t y z w:V}(d:H a=some (.ins CF dx (ui x s t)))(g:H b=some (.ins CT dy (yG y z w))):a≠b:=by
 refine fh d g λe=>?_;injection e with _ _ e
 injection e with e _
 injection e with e _
 exact absurd e (by decide +kernel)
section
variable {base:Heap}{f:Addr}
theorem DM:eM ["self","bit","place","others","stand"] ["self","bit","place"] (eB zc):=i4
theorem Cb (F:iL K "mark_dead" "Search.mark_dead" zc f fd)(T:tE K mg CS)(an:TL K mg CL)(TT:CP K mg CT)(TF:Bc K mg CF):fi P w K mg base fB 1 f fd ["self","bit","place"] (w6 CB CC CL CS CF CT):=by
 refine F.ok DM λa8 A a5 s H vs Q E hr h=>?_;obtain⟨G,p,ch,le,fl,c,L,O,m,FF,k,j,e,rfl,hS,hL,I,hj,bd,q⟩:=h;have hu:=gB hr;refine⟨_,(ee (eJ (i:=3) DM.nd (fe ic (eG fc (eK an.cl an.nMa (eK T.cl T.nLe (pv 0))) (pv 2)) (jb kS (pv 1)))) (eo (fG (fD (iQ (N':=["fork"]) (n:=1) (js:=[]) rfl (iG.closed) (ip (by decide)) (fD (eK T.cl T.nFo (pv 0))) (λC s2 v fp=>eL (i:=0) Gk) (λC s2 v fp=>jw) (λC s2 v fp=>eK TF.cl TF.nSt (pv 0)))) (eL (i:=4) DM.nd) (eo (fz (fC km (fe ic (pv 3) (jb kS (eK TT.cl TT.nPi (pv 4)))) er (fO _)) (eo (BN TT.cl TT.nDe (pv 4) (pv 1) Aw)) eP))))),?_⟩;obtain⟨dx,hp⟩:=hS.self;have al:=hS.gh.ins hp;obtain⟨lx,ma,re,pm,pp,ba,rs,Ol,hO,a7,a4,a1⟩:=id hL.ex;have a2:(L.map (·.1))[j]?=some e.1:=by rw[ae,hj];rfl
 have lA:m.length=FF.length:=Paired.length I.p;refine⟨_,rfl,p,dx,_,V.ref le,rfl,al,(by kernel_rfl),le,lx,_,V.ref ma,rfl,hS.gh.ins a7,(by kernel_rfl),_,rfl,ma,_,_,_,rfl,rfl,eX.of a4,kr a2,_,rfl,_,rfl,_,_,rfl,rfl,?_⟩;dsimp only;rw[qo];refine⟨_,rfl,p,dx,_,V.ref fl,rfl,al,(by kernel_rfl),fl,rfl,⟨_,eX.of I.l⟩,?_⟩;refine ik (xs:=m.map λa=>V.ref a.1) (λD i ys H7=>H7 D=some (.lst ys)/\eF H H7/\H D=none/\ys=(m.take i).map λa=>V.ref a.2)
  (λD hD=>⟨d0,eA hD _,hD,by simp⟩) (λD i ys H7 hi ⟨e1,U,e3,e4⟩=>⟨eX.of (U _ _ I.l),e1,?_⟩) (λD i y ys H7 hi ⟨e1,U,e3,e4⟩=>?_) (λD ys H7 ⟨e1,U,e3,e4⟩=>?_)
 ·rw[ab]at hi;rw[e4,ab,aT];exact eO (by lia)
 ·rw[ae]at hi;obtain⟨a,J,rfl⟩:=az.mp hi;obtain⟨d,R,⟨fx,N⟩,a9⟩:=Paired.Kq I.p J;unfold jq qb;dsimp only;rw[ax rfl];refine⟨_,rfl,a.1,fx,_,V.ref a.2,rfl,U _ _ N,(by kernel_rfl),e1,d0,eF.upd U e3,e3,?_⟩;rw[e4,fH J,ay];rfl
 ·rw[ab,aI]at e4;subst e4;refine⟨D,rfl,⟨_,eX.of e1⟩,?_⟩;have a3:∀(t:Nat) (a:Addr×Addr) (d:Fk),m[t]?=some a->FF[t]?=some d->mM CF CT G H c a d:=λt a d B o=>by
   obtain⟨M,z1,z2⟩:=Paired.Kq I.p B;rw[o]at z1;cases z1;exact z2
  have ag:∀{a},a∈m->a.2∈m.map (·.2):=λh=>bn h;have kp:∀{v:Hp},eF (del H (m.map (·.2))) v->∀{x u},H x=some u->x∉m.map (·.2)->v x=some u:=λ{v} Z {x u} h n=>Z _ _ (by rw[eE n];exact h);have X:∀{x},x∈m.map (·.2)->∃dy y z w,H x=some (.ins CT dy (yG y z w)):=λ{x} hx=>by
   obtain⟨a,J,rfl⟩:=aw.mp hx;obtain⟨t,S⟩:=aC.mp J;obtain⟨d,_,_,sx,wa,r,_⟩:=Paired.Kq I.p S;exact⟨_,_,_,_,r⟩
  have nD:D∉m.map (·.2):=λz=>by obtain⟨_,_,_,_,h⟩:=X z;rw[e3]at h;cases h
  refine fQ (K:=K) (a:=D) (xs:=m.map λa=>V.ref a.2) (λi σ v=>∃o4,σ=[some (.ref p),some (.int (c.bit k:Nat)),some (.int (j:Nat)),some (.int (iq e.1 (c.bit k):Nat)),o4]/\eF (del H (m.map (·.2))) v/\v D=some (.lst (m.map λa=>V.ref a.2))/\∀(t:Nat) (a:Addr×Addr) (d:Fk),m[t]?=some a->FF[t]?=some d->mM CF CT G v c a (if t<i then c.KW k e.1 d else d))
   ⟨none,rfl,(fq _ _).trans U,e1,λt a d B o=>by rw[av (bY _)];obtain⟨⟨d1,z1⟩,d2,w2,z2,z3⟩:=a3 t a d B o;exact⟨⟨d1,U _ _ z1⟩,d2,w2,U _ _ z2,z3⟩⟩ ((by rintro i σ v _ ⟨_,_,_,e,_⟩;exact eX.of e)) ?_ ?_
  ·rintro i x σ v hi ⟨o4,rfl,Z,aa,g⟩;rw[ae]at hi;obtain⟨a,J,rfl⟩:=az.mp hi;obtain⟨d,R,_⟩:=Paired.Kq I.p J;have Y:=g i a d J R;rw[av (cE _)]at Y;obtain⟨⟨fx,N⟩,sx,wa,r,a6⟩:=Y;refine⟨_,rfl,_,rfl,a.2,sx,_,V.int (d.sd.picked:Nat),rfl,r,(by kernel_rfl),_,rfl,_,_,rfl,rfl,rfl,_,rfl,?_⟩;have ah:decide (V.int (Builtin.bitAnd ((iq e.1 (c.bit k):Nat):Int) (Builtin.bitNot (d.sd.picked:Nat)))=V.int 0)=decide (iq (iq e.1 (c.bit k)) d.sd.picked=0):=by
    rw[qo];exact sI (b:=0)
   dsimp only;rw[ah];by_cases hd:iq (iq e.1 (c.bit k)) d.sd.picked=0
   ·rw[aq hd];refine gW ⟨_,rfl,a.2,sx,_,V.int (d.sd.dead:Nat),rfl,r,(by kernel_rfl),_,rfl,_,_,rfl,rfl,sx,_,r,(by show 3<1000;decide),?_⟩;dsimp only;rw[wT,Bv];refine⟨_,rfl,λb u hb=>?_,?_,λt a' M B o=>?_⟩
    ·have nb:b≠a.2:=λz=>by rw[z,fM (ag (ai J))]at hb;cases hb
     rw[ef nb];exact Z _ _ hb
    ·rw[ef (λz:D=a.2=>nD (z▸ag (ai J)))];exact aa
    ·by_cases S:t=i
     ·subst S;rw[J]at B;rw[R]at o;cases B;cases o;rw[ax (df _)];refine⟨⟨fx,by rw[ef (yW N r)];exact N⟩,sx,wa,?_,?_⟩
      ·rw[d0];show _=some (HO.ins CT sx (yG (.int ((c.KU k e.1 d.sd).picked:Nat)) (.int ((c.KU k e.1 d.sd).dead:Nat)) (.ref wa)));unfold el.KU;rw[ax hd]
      ·show vY G wa (c.KU k e.1 d.sd).wanted;rw[el.KZ];exact a6
     ·have ap:=g t a' M B o;rw[Au S];obtain⟨⟨d1,z1⟩,d2,w2,z2,z3⟩:=ap;have na:a'.2≠a.2:=λz=>by
       have ad:(m.map (·.2))[t]?=some a'.2:=by rw[ae,B];rfl
       have as:(m.map (·.2))[i]?=some a.2:=by rw[ae,J];rfl
       rw[z]at ad;exact S ((ce (af.mp ad).1 I.nd2).mp (ad.trans as.symm))
      exact⟨⟨d1,by rw[ef (yW z1 r)];exact z1⟩,d2,w2,by rw[ef na];exact z2,z3⟩
   ·rw[au hd];refine ff ⟨_,rfl,Z,aa,λt a' M B o=>?_⟩;by_cases S:t=i
    ·subst S;have:=g t a' M B o;rw[R]at o;cases o;rw[av (cE _)]at this;rw[ax (df _)];have eb:c.KW k e.1 d=d:=by
      unfold el.KW el.KU;rw[av hd]
     rw[eb];exact this
    ·rw[Au S];exact g t a' M B o
  ·rintro σ v ⟨o4,rfl,Z,aa,g⟩;refine q v Z ⟨?_,?_,I.offl,I.off,I.nd1,I.nd2⟩
   ·refine kp Z I.l λz=>?_;obtain⟨_,_,_,_,h⟩:=X z;rw[I.l]at h;cases h
   ·refine ki (by rw[ab];exact lA) λt a d B o=>?_;rw[ae]at o;obtain⟨a0,h3,rfl⟩:=az.mp o;have:=g t a a0 B h3;rw[ax (by rw[ab];exact(af.mp B).1)]at this;exact this
end
inductive sT (CB CC CL CS CF CT:Addr)(vs:List V)(H:Hp)(Q:VK)(E:XK):Prop
 |mk (G:Hp)(p ch le fl:Addr)(c:el)(L:ir)(O:List Addr)(A:List (Addr×Addr))(F:List Fk)(j:Nat)(e:Nat×Rs)(_:vs=[.ref p,.int (j:Nat)])(_:Se CB CC CS G H p ch le fl c)(_:gy CL G H le ch c L O)(_:jc CF CT G H c fl A F)(_:yD O fl A)(_:L[j]?=some e)(_:F.length<=64)(_:∀f∈F,∀k,f.bit=some k->k∈c.ks)(_:∀(n:Nat) (H':Hp),n<=F.length->(F.take n).reverse=F.reverse.dropWhile (λf=>!c.stop e.1 f)->eF (del H (fl::A.map (·.2))) H'->jc CF CT G H' c fl (A.take n) (c.LP e.1 (F.take n))->Q .non H')
theorem tT {α:Type}{l:List α}{n:Nat}{x:α}(h:l[n]?=some x):(l.take (n+1)).reverse=x::(l.take n).reverse:=by
 rw[fH h,cF];rfl
theorem py {α β:Type}{R:α->β->Prop}:∀{as:List α} {bs:List β} (n:Nat),Paired R as bs->Paired R (as.take n) (bs.take n)
 |_,_,0,_=>.nil
 |_,_,_+1,.nil=>.nil
 |_,_,n+1,.cons h r=>.cons h (py n r)
theorem yU {c:el}{f:Fk}(a:∀k,f.bit=some k->k∈c.ks):(((c.Ks f.bit &&& m:Nat):Int) != 0)=c.stop m f:=by
 unfold el.stop;cases h:f.bit with
 |none=>
  show(((0 &&& m:Nat):Int) != 0)=false;rw[Nat.zero_and];rfl
 |some k=>
  show(((c.bit k &&& m:Nat):Int) != 0)=decide (c.has m k);rw[Nat.and_comm,j3 (a k h)]
section
variable {base:Heap}{f:Addr}
theorem FT:eM ["self","place","mask"] ["self","place"] (eB rK):=i4
theorem xR (F:iL K "go_back" "Search.go_back" rK f fd)(T:tE K mg CS)(an:TL K mg CL)(TF:Bc K mg CF)(MM:Mt P w K mg base CS fB 1 "mark_dead" ["self","bit","place"] (w6 CB CC CL CS CF CT)):fi P w K mg base fB 2 f fd ["self","place"] (sT CB CC CL CS CF CT):=by
 refine F.ok FT λa9 A a5 s H vs Q E hr h=>?_;obtain⟨G,p,ch,le,d,c,L,O,D,R,j,e,rfl,hS,hL,C,al,hj,bf,ad,q⟩:=h;have hu:=gB hr;refine⟨_,(ee (eJ (i:=2) FT.nd (eG fc (eK an.cl an.nMa (eK T.cl T.nLe (pv 0))) (pv 1))) (ee (jE PassesOwn.never (PW.pt (kY (iz (eK T.cl T.nFo (pv 0)) (λ_=>rfl)) (jR (gJ (uX (fe ic (eK TF.cl TF.nBi (eG fc (eK T.cl T.nFo (pv 0)) (jb j6 er))) (pv 2)) (λ_=>rfl)))))) (eo (gm (uZ PySem.F.plainAttrs_list PySem.F.slot_list_pop PySem.F.type_list_pop vq (eK T.cl T.nFo (pv 0)))))) (eo (fz (iz (eK T.cl T.nFo (pv 0)) (λ_=>rfl)) (eo (gm (il MM hr fE (pv 0) (dZ (eK TF.cl TF.nBi (eG fc (eK T.cl T.nFo (pv 0)) (jb j6 er))) (dZ (pv 1) eg))))) eP)))),?_⟩;obtain⟨S,hp⟩:=hS.self;have Y:=hS.gh.ins hp;obtain⟨lx,ma,re,pm,pp,bd,rs,Ol,hO,a7,a4,a1⟩:=id hL.ex;have a3:(L.map (·.1))[j]?=some e.1:=by rw[ae,hj];rfl
 have lA:D.length=R.length:=Paired.length C.p;have a2:p≠d:=fh Y C.l λz=>nomatch z;refine⟨_,rfl,p,S,_,V.ref le,rfl,Y,(by kernel_rfl),le,lx,_,V.ref ma,rfl,hS.gh.ins a7,(by kernel_rfl),_,rfl,ma,_,_,_,rfl,rfl,eX.of a4,kr a3,?_⟩;have I:∀{n:Nat} {v:Hp},v d=some (.lst ((D.take n).map λa=>V.ref a.1))->(∀b,b≠d->v b=H b)->jc CF CT G v c d (D.take n) (R.take n):=λ{n v} h1 h2=>by
  refine⟨h1,Paired.J4 (py n C.p) λx y ⟨⟨d1,z1⟩,d2,w2,z2,z3⟩=>⟨⟨d1,?_⟩,d2,w2,?_,z3⟩,C.offl,λa ha=>C.off a (dG ha),?_,?_⟩
  ·rw[h2 _ (fh z1 C.l λz=>nomatch z)];exact z1
  ·rw[h2 _ (fh z2 C.l λz=>nomatch z)];exact z2
  ·rw[ck];exact C.nd1.sublist (dX _ _)
  ·rw[ck];exact C.nd2.sublist (dX _ _)
 refine⟨λm σ v=>m<=R.length/\R.reverse.dropWhile (λf=>!c.stop e.1 f)=(R.take m).reverse.dropWhile (λf=>!c.stop e.1 f)/\σ=[some (.ref p),some (.int (j:Nat)),some (.int (e.1:Nat))]/\v d=some (.lst ((D.take m).map λa=>V.ref a.1))/\∀b,b≠d->v b=H b,⟨R.length,ao _,by rw[aI],rfl,by rw[<-lA,aI];exact C.l,λ_ _=>rfl⟩,?_⟩;rintro n σ v ⟨hn,B,rfl,g,o⟩;have t:v p=some (.ins CS S (xm ch le d)):=by rw[o p a2];exact Y
 refine⟨_,rfl,p,S,_,V.ref d,rfl,t,(by kernel_rfl),_,.inl ⟨_,eX.of g,rfl⟩,?_⟩;cases n with
 |zero=>
  refine ff (ff ?_);refine⟨_,rfl,p,S,_,V.ref d,rfl,t,(by kernel_rfl),_,.inl ⟨_,eX.of g,rfl⟩,ff ?_⟩;refine q 0 v (bo _) (by rw[B];rfl) (λb u r=>?_) (I g o);have U:b≠d:=λz=>by rw[z,fM (by simp)]at r;cases r
  rw[o b U];exact fq _ _ b u r
 |succ n=>
  obtain⟨a,ha⟩:∃a,D[n]?=some a:=⟨D[n]'(by lia),ak _⟩;obtain⟨M,N,⟨fx,ag⟩,ba⟩:=Paired.Kq C.p ha;have Z:((D.take (n+1)).map λa=>V.ref a.1)=((D.take n).map λa=>V.ref a.1)++[.ref a.1]:=by rw[fH ha,ay];rfl
  have aa:(((D.take (n+1)).map λa=>V.ref a.1))[((D.take (n+1)).map λa=>V.ref a.1).length-1]?=some (.ref a.1):=by
   rw[Z,aF,aU,dO,bb (ao _),bQ];rfl
  have ah:(!((D.take (n+1)).map λa=>V.ref a.1).isEmpty)=true:=by rw[Z];simp
  have J:v a.1=some (.ins CF fx (ui (.str M.part) (.ref a.2) (.int (c.Ks M.bit:Nat)))):=by rw[o a.1 (fh ag C.l λz=>nomatch z)];exact ag
  rw[ah];refine gW ?_;refine⟨_,rfl,p,S,_,V.ref d,rfl,t,(by kernel_rfl),_,rfl,d,_,_,V.ref a.1,rfl,rfl,eX.of g,oz aa,a.1,fx,_,V.int (c.Ks M.bit:Nat),rfl,J,(by kernel_rfl),_,rfl,_,_,rfl,rfl,_,rfl,?_⟩;dsimp only;rw[nz,yU (ad M (ai N))];rw[tT N]at B;by_cases hst2:c.stop e.1 M=true
  ·rw[hst2];refine ff ?_;rw[List.dropWhile_cons,av (by rw[hst2];decide)]at B;refine⟨_,rfl,p,S,_,V.ref d,rfl,t,(by kernel_rfl),_,.inl ⟨_,eX.of g,rfl⟩,?_⟩;rw[ah];refine gW ?_;obtain⟨k,hk⟩:∃k,M.bit=some k:=by
    unfold el.stop at hst2;cases h:M.bit with
    |none=>rw[h]at hst2;cases hst2
    |some k=>exact⟨k,rfl⟩
   have a0:Se CB CC CS G v p ch le d c:=hS.grow (eD.refl _) (λb u r=>by
    have U:b≠d:=λz=>by rw[z,C.offl]at r;cases r
    rw[o b U];exact hS.gh b u r)
   have a8:gy CL G v le ch c L O:=hL.grow (eD.refl _) hL.off λb r=>o b λz=>al.1 (z▸r);have a6:c.Ks M.bit=c.bit k:=by rw[hk];rfl
   have ap:=I g o;rw[a6]at J;refine⟨_,rfl,p,S,_,rfl,t,(by kernel_rfl),_,rfl,p,S,_,V.ref d,rfl,t,(by kernel_rfl),_,rfl,d,_,_,V.ref a.1,rfl,rfl,eX.of g,oz aa,a.1,fx,_,V.int (c.bit k:Nat),rfl,J,(by kernel_rfl),_,rfl,G,p,ch,le,d,c,L,O,D.take (n+1),R.take (n+1),k,j,e,rfl,a0,a8,ap,hj,by rw[aT];lia,λH3 s3 as=>?_⟩;refine q (n+1) H3 hn (by rw[tT N,B]) (λb u r=>?_) ?_
   ·have U:b∉d::D.map (·.2):=λz=>by rw[fM z]at r;cases r
    rw[eE U]at r;simp only[am,not_or]at U;refine s3 b u ?_
    rw[eE (λz=>U.2 (by
     rw[ck]at z
     exact dG z)),o b U.1]
    exact r
   ·have:c.LP e.1 (R.take (n+1))=(R.take (n+1)).map (c.KW k e.1):=by
     unfold el.LP;rw[fH N,List.getLast?_append];simp only[List.getLast?_singleton,Option.some_or];rw[hk]
    rw[this];exact as
  ·have X:c.stop e.1 M=false:=by cases h:c.stop e.1 M <;> simp_all
   rw[X];refine gW ⟨λσ' H'=>∃m',m'<n+1/\_,λ_ _ h=>h,?_⟩;rw[List.dropWhile_cons,ax (by rw[X];rfl)]at B;refine⟨_,rfl,p,S,_,V.ref d,rfl,t,(by kernel_rfl),.inl ⟨rfl,_,eX.of g⟩,d,_,_,rfl,rfl,g,aa,?_⟩;refine⟨n,df _,by lia,B,rfl,?_,λb r=>?_⟩
   ·rw[d0,Z,List.dropLast_concat]
   ·rw[ef r];exact o b r
end
def EN (CT:Addr)(G H:Hp)(O:List Addr)(sd:Sd->Prop)(Q:VK):Prop:=
 ∀(G' H':Hp) (s:Addr) (d:Sd),iK G H O G' H' O->H s=none->G' s=none->lO CT G' H' s d->sd d->(∀a∈O,H' a=H a)->Q (.ref s) H'
inductive sX (CB CC CL CS CF CT:Addr)(vs:List V)(H:Hp)(Q:VK)(E:XK):Prop
 |mk (G:Hp)(p ch le fl:Addr)(c:el)(L:ir)(O:List Addr)(a:Addr×Addr)(fk:Fk)(k:Pk)(_:vs=[.ref p,.ref a.1])(_:Se CB CC CS G H p ch le fl c)(_:gy CL G H le ch c L O)(_:gQ c L)(_:mM CF CT G H c a fk)(_:fk.bit=some k)(_:kF c fk)(_:iN c L fk.sd)(_:¬c.has fk.sd.dead k)(_:EN CT G H O (λd=>iN c L d/\c.KR fk d) Q)
inductive pX (CB CC CL CS CT:Addr)(vs:List V)(H:Hp)(Q:VK)(E:XK):Prop
 |mk (G:Hp)(p ch le fl:Addr)(c:el)(O:List Addr)(_:vs=[.ref p])(_:Se CB CC CS G H p ch le fl c)(_:∀a∈O,∃u,H a=some u)(_:∀a∈O,G a=none)(_:∀(G' H':Hp) (s:Addr) (d:Sd),iK G H O G' H' O->H s=none->G' s=none->lO CT G' H' s d->(∀L,iN c L d)->d.picked=0->(∀a∈O,H' a=H a)->Q (.ref s) H')
theorem made {x dx C:Addr}(h1:H x=none)(h2:H dx=none)(n:dx≠x):eF H (upd (upd H dx (.own x)) x (.ins C dx [])):=(eA h2 _).trans (eA (by rw[ef (Ne.symm n)];exact h1) _)
section
variable {base:Heap}{f:Addr}
theorem y8:eM ["self","fork","pick","picked","dead","wanted"] ["self","fork"] (eB rO):=i4
theorem xV (F:iL K "stand_behind" "Search.stand_behind" rO f fd)(T:tE K mg CS)(R:TC K mg CC)(TT:CP K mg CT)(v:Bc K mg CF)(MB:Mt P w K mg base CL fB 1 "barred_with" ["self","pick","picked"] (sY CB CC CL))(MW:Mt P w K mg base CS fB 2 "wanted_by" ["self","wanted","who","picked"] (oC CB CC CS))(MS:Bo P w K mg base CT fB 1 "Stand" ["self","picked","dead","wanted"] (oE CT)):fi P w K mg base fB 3 f fd ["self","fork"] (sX CB CC CL CS CF CT):=by
 refine F.ok y8 λc5 A cp s H vs Q E hr h=>?_;obtain⟨G,p,ch,le,fl,c,L,O,a,b,k,rfl,d,hL,a8,b9,B,I,J,aa,q⟩:=h;have hu:=gB hr;refine⟨_,(ee (eJ (i:=2) y8.nd (gN hu (eK R.cl R.nBy (eK T.cl T.nCh (pv 0))) (eK v.cl v.nBi (pv 1)))) (ee (eJ (i:=3) y8.nd (fe qD (eK TT.cl TT.nPi (eK v.cl v.nSt (pv 1))) (eK v.cl v.nBi (pv 1)))) (ee (eJ (i:=4) y8.nd (fe qD (fe qD (eK TT.cl TT.nDe (eK v.cl v.nSt (pv 1))) (eY hu (eK R.cl R.nFo (eK T.cl T.nCh (pv 0))) (pv 2))) (il MB (hr.mono (by decide)) fE (eK T.cl T.nLe (pv 0)) (dZ (pv 2) (dZ (pv 3) eg))))) (ee (eJ (i:=5) y8.nd (il MW hr fE (pv 0) (dZ (eK TT.cl TT.nWa (eK v.cl v.nSt (pv 1))) (dZ (pv 2) (dZ (pv 3) eg))))) (ee (gm (zG (pv 5) (eK v.cl v.nPa (pv 1)) ⟨rfl,rfl,rfl,rfl⟩)) (eo (eQ (nI MS (hr.mono (by decide)) rfl fE (dZ (pv 3) (dZ (pv 4) (dZ (zE (pv 5)) eg))))))))))),?_⟩;obtain⟨dx,hp⟩:=d.self;have M:=d.gh.ins hp;obtain⟨⟨fx,t⟩,sx,wa,ag,wo,a2,cx,cz⟩:=b9;obtain⟨hk,bv,_⟩:=I.bit k B;have cy:c.Ks b.bit=c.bit k:=by rw[B];rfl
 rw[cy]at t;obtain⟨gx,gb,co,as,c4,c6,c2,a5,c0,d1,d2,d3,d4,⟨b8,cd,a7⟩,d6,d7,d8,d9⟩:=d.chart.ex;obtain⟨Y,a4,D⟩:=a7 k hk;refine⟨_,rfl,p,dx,_,V.ref ch,rfl,M,(by kernel_rfl),ch,gx,_,V.ref as,rfl,d.gh.ins d1,(by kernel_rfl),_,rfl,a.1,fx,_,V.int (c.bit k:Nat),rfl,t,(by kernel_rfl),as,Y,rfl,.inl ⟨b8,Sum.inl (c.bit k:Int),d.gh.rd cd,rfl,a4.symm⟩,?_⟩;refine⟨_,rfl,a.1,fx,_,V.ref a.2,rfl,t,(by kernel_rfl),a.2,sx,_,V.int (b.sd.picked:Nat),rfl,ag,(by kernel_rfl),_,rfl,a.1,fx,_,V.int (c.bit k:Nat),rfl,t,(by kernel_rfl),_,_,rfl,rfl,?_⟩;dsimp only;rw[wT];obtain⟨lx,ma,re,pm,pp,c3,rs,Ol,hO,b5,bq⟩:=id hL.ex;refine⟨_,rfl,a.1,fx,_,V.ref a.2,rfl,t,(by kernel_rfl),a.2,sx,_,V.int (b.sd.dead:Nat),rfl,ag,(by kernel_rfl),_,rfl,p,dx,_,V.ref ch,rfl,M,(by kernel_rfl),ch,gx,_,V.ref a5,rfl,d.gh.ins d1,(by kernel_rfl),_,rfl,a5,_,rfl,(d9.f d.gh).get (w:=some k) (gE hk) (fg.f d.gh D),_,_,rfl,rfl,?_⟩;dsimp only;rw[wT];refine⟨_,rfl,p,dx,_,V.ref le,rfl,M,(by kernel_rfl),le,lx,_,rfl,d.gh.ins b5,(by kernel_rfl),_,rfl,_,rfl,G,le,ch,c,L,O,Y,k,b.sd.picked ||| c.bit k,rfl,d.gh,d.chart,hL,fg.f d.gh D,hk,λH1 s1=>?_⟩;refine⟨_,_,rfl,rfl,?_⟩;skip;rw[wT];have bf:=s1 _ _ M;have X:=s1 _ _ t;have a1:=s1 _ _ ag;have cn:=J.LA d.nds d.n;refine⟨_,rfl,p,dx,_,rfl,bf,(by kernel_rfl),_,rfl,a.1,fx,_,V.ref a.2,rfl,X,(by kernel_rfl),a.2,sx,_,V.ref wa,rfl,a1,(by kernel_rfl),_,rfl,_,rfl,G,p,ch,le,fl,wa,c,a2,b.sd.wanted,Y,some k,b.sd.picked ||| c.bit k,rfl,d.same s1,.inr ⟨wo,s1 _ _ (d.gh.frz cx)⟩,cz,cn,λx u hx=>?_,gE hk,D,λo H2 m g s2 b3 an a3 a6=>?_⟩
 ·obtain⟨_,z2,z3⟩:=J.w1 x u hx;exact⟨λk e=>by subst e;exact z2.1,jh.mpr z3⟩
 have ap:=s2 _ _ X;have cv:b.part∈g.map (·.1):=by
  obtain⟨E,e1,_⟩:=a6;rw[e1];exact aP _ I.open_
 obtain⟨v0,u0,ct,_,_⟩:=nY a3 cv;refine⟨_,rfl,o,rfl,.inl ⟨_,.inl an⟩,_,rfl,a.1,fx,_,V.str b.part,rfl,ap,(by kernel_rfl),m,Sum.inr b.part,v0,an,rfl,ct,?_⟩;refine⟨_,rfl,_,rfl,_,rfl,o,_,rfl,d0,trivial,λS=>?_⟩;rw[i6];have ah:=s1.trans s2;have c1:eD G H2:=d.gh.trans ah.toF;have r:H o=none:=s1.free b3;have al:G o=none:=d.gh.free r;have bx:=iK.same (O:=O) d.gh ah;have cs:=bx.own (u:=.frz S (.dK (jX m (Sum.inr b.part)))) r al;have b2:upd H2 o (.frz S (.dK (jX m (Sum.inr b.part)))) o=some (.frz S (.dK (jX m (Sum.inr b.part)))):=d0;have N:=cs.base d.gh r b2;have b1:vY (upd G o (.frz S (.dK (jX m (Sum.inr b.part))))) o (g.filter λxu=>!decide (xu.1=b.part)):=⟨S,_,d0,Paired.J4 (wc a3) λ_ _ z=>z.f ((eD.refl G).upd al)⟩;have b6:∀y∈O,upd H2 o (.frz S (.dK (jX m (Sum.inr b.part)))) y=H y:=λy hy=>by
  obtain⟨u,l⟩:=hL.liv y hy;rw[ef (λz:y=o=>by rw[z,r]at l;cases l),ah _ _ l,l]
 generalize upd G o (.frz S (.dK (jX m (Sum.inr b.part))))=G4 at *;generalize upd H2 o (.frz S (.dK (jX m (Sum.inr b.part))))=H4 at *;intro x U hx ba a9;have sm:=made (C:=CT) hx ba a9;have bm:upd (upd H4 U (.own x)) x (.ins CT U []) x=some (.ins CT U []):=d0;have b4:=N.trans (iK.same (O:=O) N.gh sm);generalize upd (upd H4 U (.own x)) x (.ins CT U [])=H5 at *;have ad:H x=none:=N.lv x hx;have a0:G4 x=none:=N.gh.free hx;refine⟨x,U,_,_,_,rfl,bm,rfl,?_⟩;have bd:=b4.own (u:=.ins CT U (yG (.int ((b.sd.picked ||| c.bit k:Nat):Int)) (.int ((b.sd.dead ||| c.Li (some k) ||| c.Lc L k (b.sd.picked ||| c.bit k):Nat):Int)) (.ref o))) ad a0;obtain⟨b7,bl⟩:=yx (k:=k) (p:=b.sd.picked ||| c.bit k) a8;refine q G4 _ x ⟨b.sd.picked ||| c.bit k,b.sd.dead ||| c.Li (some k) ||| c.Lc L k (b.sd.picked ||| c.bit k),g.filter λxu=>!decide (xu.1=b.part)⟩ bd ad a0 ⟨U,o,d0,b1⟩ ⟨?_,k,B,rfl,λj Z=>el.Ky.mpr (.inl (el.Ky.mpr (.inl Z)))⟩ (λy hy=>?_)
 rotate_left
 ·obtain⟨u,l⟩:=hL.liv y hy;have h6:=(b6 y hy).trans l;rw[ef (λz:y=x=>by rw[z,ad]at l;cases l),sm _ _ h6,l]
 refine yV J I hk bv aa (jo (jo J.dl (c.Lm _)) b7) (λj Z=>el.Ky.mpr (.inl (el.Ky.mpr (.inl Z)))) (λj Z hf=>el.Ky.mpr (.inl (el.Ky.mpr (.inr (el.Ll.mpr ⟨Z,hf⟩))))) (λj Z=>?_) a6;rcases el.Ky.mp Z with z | z
 ·rcases el.Ky.mp z with y | y
  ·exact .inl y
  ·exact .inr (.inl (el.Ll.mp y).2)
 ·exact .inr (.inr (bl j z))
end
theorem iK.LT (h:eD G H)(e:eD H H'):iK G H O G H' O:=⟨eD.refl _,h.trans e,λa e n=>absurd e n,λa h=>.inl h,(fq _ _).toF.trans e,λ_ h=>e.free h⟩
def el.LU (c:el)(ws:List (Option Pk)):Nat:=c.Li none ||| c.maskOf λj=>decide (some j∈ws)&&(c.Ld (some j) j)
theorem el.LV (c:el):c.LU []=c.Li none:=by
 unfold el.LU;have:c.maskOf (λj=>decide (some j∈([]:List (Option Pk)))&&(c.Ld (some j) j))=0:=el.KF (c.KK _) λk h=>by
  have:=(el.KJ.mp h).2;simp at this
 rw[this,Nat.or_zero]
theorem pJ {c:el}{k:Pk}:c.foe k k↔c.KL (some k) k:=⟨λh=>h.elim id id,.inl⟩
theorem el.LW {c:el}{ws:List (Option Pk)}{w:Option Pk}(d:c.Who w):c.LU (ws++[w])=c.LU ws ||| (c.Li w &&& c.Ks w):=by
 refine el.ext (jo (c.Lm _) (c.KK _)) (jo (jo (c.Lm _) (c.KK _)) (nB (c.Lm _))) λj=>?_;unfold el.LU;simp only[el.Ky,el.Kz,el.KJ,aH,aB,aD,aj,el.Lp d,el.Le]
 constructor
 ·rintro(h | ⟨a,h2 | h2,b⟩)
  ·exact .inl (.inl h)
  ·exact .inl (.inr ⟨a,h2,b⟩)
  ·rw[<-h2];exact .inr ⟨el.Ll.mpr ⟨a,pJ.mpr b⟩,rfl⟩
 ·rintro((h | ⟨a,h2,b⟩) | ⟨a,h2⟩)
  ·exact .inl h
  ·exact .inr ⟨a,.inl h2,b⟩
  ·rw[h2]at a;obtain⟨b,e⟩:=el.Ll.mp a;exact .inr ⟨b,.inr h2.symm,pJ.mp e⟩
theorem el.LX {c:el}{ws:List (Option Pk)}(h:∀k∈c.ks,some k∈ws){k:Pk}:c.has (c.LU ws) k↔k∈c.ks/\(c.KL none k\/c.foe k k):=by
 unfold el.LU;rw[el.Ky,show c.Li none=c.Lh none from rfl,el.Lk,el.KJ,aH,aB,el.Le,pJ]
 constructor
 ·rintro(⟨a,h2⟩ | ⟨a,_,h2⟩)
  ·exact⟨a,.inl h2⟩
  ·exact⟨a,.inr h2⟩
 ·rintro⟨a,h2 | h2⟩
  ·exact .inl ⟨a,h2⟩
  ·exact .inr ⟨a,h k a,h2⟩
section
variable {base:Heap}{f:Addr}
theorem BE:eM ["self","dead","pick"] ["self"] (eB oU):=i4
theorem vc (F:iL K "opening" "Search.opening" oU f fd)(T:tE K mg CS)(j:TC K mg CC)(MW:Mt P w K mg base CS fB 2 "wanted_by" ["self","wanted","who","picked"] (oC CB CC CS))(MS:Bo P w K mg base CT fB 1 "Stand" ["self","picked","dead","wanted"] (oE CT)):fi P w K mg base fB 3 f fd ["self"] (pX CB CC CL CS CT):=by
 refine F.ok BE λcd A b3 s H vs Q E hr h=>?_;obtain⟨G,p,D,le,fl,c,O,rfl,r,N,an,q⟩:=h;have hu:=gB hr;refine⟨_,(ee (eJ (i:=1) BE.nd (eY hu (eK j.cl j.nFo (eK T.cl T.nCh (pv 0))) iH)) (ee (fG (rV (eK j.cl j.nFo (eK T.cl T.nCh (pv 0)))) (eL (i:=2) BE.nd) (eo (kH (i:=1) BE.nd (fe ic (eY hu (eK j.cl j.nFo (eK T.cl T.nCh (pv 0))) (pv 2)) (eY hu (eK j.cl j.nBits (eK T.cl T.nCh (pv 0))) (pv 2))) ud))) (eo (eQ (nI MS (hr.mono (by decide)) rfl fE (dZ er (dZ (pv 1) (dZ (zE (il MW hr fE (pv 0) (dZ gY (dZ iH (dZ er eg))))) eg)))))))),?_⟩;obtain⟨dx,hp⟩:=r.self;have al:=r.gh.ins hp;obtain⟨gx,gb,t,cp,cs,co,cn,d,b9,d1,d2,d3,d4,d5,d6,d7,d8,B,Y,a1,a2⟩:=r.chart.ex;have d9:kE G d c c.Li:=⟨B,Y,a1,a2⟩;refine⟨_,rfl,p,dx,_,V.ref D,rfl,al,(by kernel_rfl),D,gx,_,V.ref d,rfl,r.gh.ins d1,(by kernel_rfl),d,_,rfl,(d9.f r.gh).get (w:=none) jj rfl,?_⟩;refine⟨_,rfl,p,dx,_,V.ref D,rfl,al,(by kernel_rfl),D,gx,_,V.ref d,rfl,r.gh.ins d1,(by kernel_rfl),d,B,rfl,r.gh.rd Y,λo H1 sf a0 b8=>?_⟩;have g1:eD G H1:=r.gh.trans sf;have R:=g1.ins hp;have ah:=g1.ins d1;obtain⟨ws,S,bd⟩:=qY a1;have lw:B.length=ws.length:=by
  have:=congrArg List.length S;rw[ab,ab]at this;exact this
 refine vE (kvs:=B) (λi σ U=>∃o2,σ=[some (.ref p),some (.int (c.LU (ws.take i):Nat)),o2]/\U=H1) ⟨none,by rw[cZ,el.LV];rfl,rfl⟩ (λi σ U _ ⟨_,_,e⟩=>by rw[e];exact b8) ?_ ?_
 ·rintro i kv x σ U hi kx ⟨o2,rfl,rfl⟩;have ap:(B.map (·.1))[i]?=some kv.1:=by rw[ae,hi];rfl
  rw[S,ae]at ap;obtain⟨v,hv,ev⟩:=az.mp ap;rw[<-ev]at kx;have as:=gU.of kx;have Z:=bd v (ai hv);refine⟨_,rfl,_,rfl,p,dx,_,V.ref D,rfl,R,(by kernel_rfl),D,gx,_,V.ref d,rfl,ah,(by kernel_rfl),_,rfl,d,_,rfl,(d9.f g1).get Z as,_,rfl,p,dx,_,V.ref D,rfl,R,(by kernel_rfl),D,gx,_,V.ref t,rfl,ah,(by kernel_rfl),_,rfl,t,_,rfl,(d4.f g1).get Z as,_,_,rfl,rfl,_,_,rfl,rfl,?_⟩;refine⟨some x,?_,rfl⟩;rw[nz,wT,fH hv,el.LW Z];rfl
 ·rintro σ U ⟨o2,rfl,rfl⟩;rw[lw,aI];have a3:∀k∈c.ks,some k∈ws:=λk hk=>by
   have:=iP (a2 (some k) (gE hk));rw[S]at this;obtain⟨u,b,a9⟩:=aw.mp this;rw[iw a9]at b;exact b
  refine⟨_,rfl,_,rfl,p,dx,_,rfl,R,(by kernel_rfl),λe0 a8=>?_⟩;have s3:=eA a8 (.dK []);have bm:upd U e0 (.dK []) e0=some (.dK []):=d0;generalize upd U e0 (.dK [])=H3 at *;have g3:eD G H3:=g1.trans s3.toF;refine⟨G,p,D,le,fl,e0,c,[],[],.non,none,0,rfl,r.grow (eD.refl _) g3,.inl bm,.nil,bo _,(λx u h=>nomatch h),jj,rfl,λm H4 kvs g s4 b6 bf bl b4=>?_⟩;refine⟨m,_,rfl,bf,trivial,λM=>?_⟩;have bv:eD H H4:=sf.trans (s3.trans s4).toF;have l:H m=none:=sf.free (s3.free b6);have ag:G m=none:=r.gh.free l;have b5:=iK.LT (O:=O) r.gh bv;have b7:=b5.own (u:=.frz M (.dK kvs)) l ag;have bx:upd H4 m (.frz M (.dK kvs)) m=some (.frz M (.dK kvs)):=d0;have I:=b7.base r.gh l bx;have a5:vY (upd G m (.frz M (.dK kvs))) m g:=⟨M,_,d0,Paired.J4 bl λ_ _ z=>z.f ((eD.refl G).upd ag)⟩;have b1:∀a∈O,a≠d:=λa X z=>by
   have:=an a X;rw[z]at this;rcases Y with y | ⟨o',y⟩ <;> (rw[this]at y;cases y)
  have a7:∀a∈O,upd H4 m (.frz M (.dK kvs)) a=H a:=λa X=>by
   obtain⟨u,b⟩:=N a X;have h1:U a=some u:=by rw[a0 a (b1 a X)];exact b
   have h4:=s4 _ _ (s3 _ _ h1);rw[ef (λz:a=m=>by rw[z,l]at b;cases b),h4,b]
  generalize upd G m (.frz M (.dK kvs))=G6 at *;generalize upd H4 m (.frz M (.dK kvs))=H6 at *;intro x J hx a6 a4;have sm:=made (C:=CT) hx a6 a4;have bq:upd (upd H6 J (.own x)) x (.ins CT J []) x=some (.ins CT J []):=d0;have b2:=I.trans (iK.same (O:=O) I.gh sm);generalize upd (upd H6 J (.own x)) x (.ins CT J [])=H7 at *;have aa:H x=none:=I.lv x hx;have ad:G6 x=none:=I.gh.free hx;refine⟨x,J,_,_,_,rfl,bq,rfl,?_⟩;have ba:=b2.own (u:=.ins CT J (yG (.int 0) (.int ((c.LU ws:Nat):Int)) (.ref m))) aa ad;refine q G6 _ x ⟨0,c.LU ws,g⟩ ba aa ad ⟨J,m,d0,a5⟩ (λL=>?_) rfl λa X=>?_
  ·exact u4 (jo (c.Lm _) (c.KK _)) (λk=>el.LX a3) b4
  ·obtain⟨u,b⟩:=N a X;have h6:H6 a=some u:=(a7 a X).trans b;rw[ef (λz:a=x=>by rw[z,aa]at b;cases b),sm _ _ h6,b]
end
structure SS (CB CC CL CS CF CT:Addr)(G H:Hp)(p ch le fl:Addr)(c:el)(L:ir)(O:List Addr)(A:List (Addr×Addr))(F:List Fk):Prop where
 se:Se CB CC CS G H p ch le fl c
 led:gy CL G H le ch c L O
 ok:gQ c L
 fk:jc CF CT G H c fl A F
 sep:yD O fl A
theorem SS.grow {p ch le:Addr}{c:el}{L L':ir}(h:SS CB CC CL CS CF CT G H p ch le fl c L O A F)(g:iK G H O G' H' O')(hl:gy CL G' H' le ch c L' O')(hok:gQ c L'):SS CB CC CL CS CF CT G' H' p ch le fl c L' O' A F:=
 ⟨h.se.grow g.gg g.gh,hl,hok,h.fk.grow g h.sep,yD.grow h.fk g h.sep⟩
def yE (H:Hp)(O:List Addr)(G G':Hp):Prop:=∀x u,H x=some u->uD u->x∉O->G x=none->G' x=none
inductive A1 (CB CC CL CS CF CT:Addr)(vs:List V)(H:Hp)(Q:VK)(E:XK):Prop
 |mk (G:Hp)(p ch le fl:Addr)(c:el)(L:ir)(O:List Addr)(A:List (Addr×Addr))(B:List Fk)(g:Fk)(_:vs=[.ref p])(_:SS CB CC CL CS CF CT G H p ch le fl c L O A (B++[g]))(_:fL c L B.reverse g.sd)(_:kF c g)(_:NZ L)(_:∀(G' H':Hp) (L':ir) (O':List Addr) (A':List (Addr×Addr)) (F':List Fk) (s:Addr) (d:Sd),eD G G'->iY H O H' O'->yE H O G G'->SS CB CC CL CS CF CT G' H' p ch le fl c L' O' A' F'->fL c L' F'.reverse d->NZ L'->lO CT G' H' s d->G' s=none->s∉O'->s∉A'.map (·.2)->c.mv (c.n+1) F'<=c.mv (c.n+1) (B++[g])->Q (.ref s) H')(_:∀(G' H':Hp) (L':ir) (O':List Addr) (A':List (Addr×Addr)) (F':List Fk) (e:Nat×Rs),eD G G'->iY H O H' O'->yE H O G G'->SS CB CC CL CS CF CT G' H' p ch le fl c L' O' A' F'->L'.getLast?=some e->e.1=0->Q .non H')
theorem Ey (a b t t':V):gq ("bit":Str) t' (ui a b t)=ui a b t':=by kernel_rfl
theorem nc {c:el}{x:Str}{s:Sd}:∀j,c.has (iq (c.Lf x) s.dead) j↔j∈c.left x s:=λj=>by
 rw[el.KA,el.Lj,el.K6];exact⟨(by rintro⟨⟨h1,h2⟩,h3⟩;exact⟨h1,h2,h3⟩),(by rintro⟨h1,h2,h3⟩;exact⟨⟨h1,h2⟩,h3⟩)⟩
theorem Aj {c:el}{g g':Fk}(hp:g'.part=g.part)(hs:g'.sd=g.sd):∀(d:Nat) (B:List Fk),c.mv d (B++[g'])=c.mv d (B++[g])
 |0,_=>by unfold el.mv;rfl
 |d+1,[]=>by
  show c.cnt g'*(c.n+2)^d+c.mv d []=c.cnt g*(c.n+2)^d+c.mv d [];unfold el.cnt;rw[hp,hs]
 |d+1,f::B=>by
  show c.cnt f*(c.n+2)^d+c.mv d (B++[g'])=c.cnt f*(c.n+2)^d+c.mv d (B++[g]);rw[Aj hp hs d B]
section
variable {base:Heap}{f:Addr}
theorem DP:eM ["self","fork","left"] ["self"] (eB zh):=i4
theorem Cf (F:iL K "go_on" "Search.go_on" zh f fd)(T:tE K mg CS)(dd:TC K mg CC)(TF:Bc K mg CF)(d9:Mt P w K mg base CC fB 1 "listed" ["self","mask"] (j4 CC))(eq:Mt P w K mg base CS fB 1 "left" ["self","stand","part"] (w9 CB CC CS CT))(MB:Mt P w K mg base CS fB 3 "stand_behind" ["self","fork"] (sX CB CC CL CS CF CT))(MS:Mt P w K mg base CS fB 5 "shut" ["self","fork","known"] (wY CB CC CL CS CF CT))(MG:Mt P w K mg base CS fB 2 "go_back" ["self","place"] (sT CB CC CL CS CF CT)):fi P w K mg base fB 6 f fd ["self"] (A1 CB CC CL CS CF CT):=by
 refine F.ok DP λfo A e2 s H vs Q E hr h=>?_;obtain⟨G,p,Y,le,N,c,L,O,AA,B,g,rfl,e4,ez,hg,e7,q1,q2⟩:=h;have hu:=gB hr;refine⟨_,(ee (jE PassesOwn.never (iz (eK T.cl T.nFo (pv 0)) (λ_=>rfl)) (ee (eJ (i:=1) DP.nd (eG fc (eK T.cl T.nFo (pv 0)) (jb j6 er))) (ee (eJ (i:=2) DP.nd (il d9 (hr.mono (by decide)) fE (eK T.cl T.nCh (pv 0)) (dZ (il eq (hr.mono (by decide)) fE (pv 0) (dZ (eK TF.cl TF.nSt (pv 1)) (dZ (eK TF.cl TF.nPa (pv 1)) eg))) eg))) (ee (fz (iz (pv 2) (λ_=>rfl)) (ee (jN TF.cl TF.nBi (pv 1) (eY hu (eK dd.cl dd.nBits (eK T.cl T.nCh (pv 0))) (eG fc (pv 2) (jb j6 er)))) (eo (eQ (il MB (hr.mono (by decide)) fE (pv 0) (dZ (pv 1) eg))))) eP) (eo (gm (il MG (hr.mono (by decide)) fE (pv 0) (dZ (il MS hr fE (pv 0) (dZ (pv 1) (dZ gY eg))) eg)))))))) (eo (eQ iH))),?_⟩;refine⟨λm σ H2=>∃(U:Hp) (L2:ir) (O2:List Addr) (r:List (Addr×Addr)) (F2:List Fk) (o1 o2:Option V),σ=[some (.ref p),o1,o2]/\eD G U/\iY H O H2 O2/\yE H O G U/\SS CB CC CL CS CF CT U H2 p Y le N c L2 O2 r F2/\((F2=[]/\m=0/\∃e,L2.getLast?=some e/\e.1=0)\/∃o g2,F2=o++[g2]/\m=c.mv (c.n+1) F2+1/\c.mv (c.n+1) F2<=c.mv (c.n+1) (B++[g])/\fL c L2 o.reverse g2.sd/\kF c g2/\NZ L2),⟨c.mv (c.n+1) (B++[g])+1,G,L,O,AA,B++[g],none,none,rfl,eD.refl _,iY.refl _ _,(λ_ _ _ _ _ h=>h),e4,.inr ⟨B,g,rfl,rfl,ao _,ez,hg,e7⟩⟩,?_⟩;rintro m σ H2 ⟨U,L2,O2,r,F2,o1,o2,rfl,bv,ap,bm,M,b3⟩;obtain⟨dx,hp⟩:=M.se.self;have an:=M.se.gh.ins hp;refine⟨_,rfl,p,dx,_,V.ref N,rfl,an,(by kernel_rfl),_,.inl ⟨_,eX.of M.fk.l,rfl⟩,?_⟩;have lA:=Paired.length M.fk.p;rcases b3 with ⟨rfl,rfl,e,d8,e6⟩ | ⟨o,g2,rfl,rfl,c6,d,a1,a3⟩
 ·have:r=[]:=bO.mp (by simpa using lA);subst this;refine ff ?_;exact q2 U H2 L2 O2 [] [] e bv ap bm M d8 e6
 ·have ct:=d.depth;rw[cf]at ct;have ev:=M.se.n;rw[aF,aU]at lA;obtain⟨a,ha⟩:∃a,r[o.length]?=some a:=⟨r[o.length]'(by lia),ak _⟩;have bl:(o++[g2])[o.length]?=some g2:=by rw[bb (ao _),bQ];rfl
  have ey:mM CF CT U H2 c a g2:=by
   obtain⟨c2,R,z2⟩:=Paired.Kq M.fk.p ha;rw[bl]at R;cases R;exact z2
  obtain⟨⟨fx,a9⟩,eh⟩:=id ey;have d7:r=r.take o.length++[a]:=by rw[<-fH ha,<-lA,aI]
  have e0:(r.map λa=>V.ref a.1)[(r.map λa=>V.ref a.1).length-1]?=some (.ref a.1):=by
   rw[ab,lA,dO,ae,ha];rfl
  have dl:(!(r.map λa=>V.ref a.1).isEmpty)=true:=by rw[d7];simp
  rw[dl];refine gW ⟨λσ' H'=>∃m',m'<c.mv (c.n+1) (o++[g2])+1/\_,λ_ _ h=>h,?_⟩;refine⟨_,rfl,p,dx,_,V.ref N,rfl,an,(by kernel_rfl),_,rfl,N,_,_,V.ref a.1,rfl,rfl,eX.of M.fk.l,oz e0,?_⟩;obtain⟨gx,gb,as,ei,fa,fp,e9,fr,e8,d1,d2,d3,d4,d5,d6⟩:=M.se.chart.ex;refine⟨_,rfl,p,dx,_,V.ref Y,rfl,an,(by kernel_rfl),Y,gx,_,rfl,M.se.gh.ins d1,(by kernel_rfl),_,rfl,p,dx,_,rfl,an,(by kernel_rfl),_,rfl,a.1,fx,_,V.ref a.2,rfl,a9,(by kernel_rfl),_,rfl,a.1,fx,_,V.str g2.part,rfl,a9,(by kernel_rfl),U,p,Y,le,N,a.2,c,g2.sd,g2.part,rfl,M.se,eh,?_⟩;have ea:iq (c.Lf g2.part) g2.sd.dead<2^c.n:=jJ (c.KK _);refine⟨U,Y,gx,ei,_,c,_,rfl,M.se.gh,M.se.gh.ins d1,(by kernel_rfl),d5,ev,ea,λl xs H3 s3 hl b6 c3 e3=>?_⟩;have a0:=iK.same (O:=O2) M.se.gh s3;have C:=M.grow a0 (M.led.same s3) M.ok;have b1:=s3 _ _ an;have S:=s3 _ _ a9;have lx:=Paired.length c3;refine⟨_,rfl,_,.inl ⟨xs,eX.of b6,rfl⟩,?_⟩;by_cases hxe:xs=[]
  ·subst hxe;refine ff ?_;have b9:c.listed (iq (c.Lf g2.part) g2.sd.dead)=[]:=bO.mp lx.symm;have bf:∀k∈c.ks,k.1=g2.part->c.has g2.sd.dead k:=λk hk al=>Classical.byContradiction λz=>by
    have:k∈c.listed (iq (c.Lf g2.part) g2.sd.dead):=el.Kx.mpr ((nc k).mpr (el.K6.mpr ⟨hk,al,z⟩));rw[b9]at this;cases this
   have c9:∀f∈o++[g2],iN c L2 f.sd:=λf hf=>by
    rcases aD.mp hf with z | z
    ·exact(d.fks f (ci.mpr z)).2
    ·rw[aj.mp z];exact d.sd
   have b2:p3 c (o++[g2]):=by
    have:=d.mono g2 rfl;rw[cX]at this;exact this
   refine⟨_,rfl,p,dx,_,rfl,b1,(by kernel_rfl),_,rfl,p,dx,_,rfl,b1,(by kernel_rfl),_,rfl,λkd a6=>?_⟩;have s4:=eA a6 (.dK []);have ep:upd H3 kd (.dK []) kd=some (.dK []):=d0;generalize upd H3 kd (.dK [])=H4 at *;have b5:=iK.same (O:=O2) C.se.gh s4;have S4:=C.grow b5 (C.led.same s4) C.ok;have ew:kd∉O2:=λz=>by obtain⟨u,D⟩:=C.led.liv kd z;rw[a6]at D;cases D
   refine⟨U,p,Y,le,N,c,L2,O2,r,o++[g2],o.length,a,g2,kd,[],none,rfl,S4.se,S4.led,S4.ok,S4.fk,S4.sep,b2,c9,by rw[aF,aU];lia,ha,bl,a1.open_,.inl ep,ew,rfl,λk hk al=>.inl (bf k hk al),λm hm=>?_,?_⟩
   ·intro j1 j2 h1 h2 e;have R:=(hm j1 h1).resolve_right (by rintro⟨_,_,_,z,_⟩;exact nomatch z);have z2:=(hm j2 h2).resolve_right (by rintro⟨_,_,_,z,_⟩;exact nomatch z);exact d.sd.one j1 j2 R z2 e
   intro G5 H5 O5 L5 j e v bx ah es cs cn a7;have I:=S4.grow v bx ah;have c1:∀j,c.has e.1 j->c.has g2.sd.picked j:=λj hj=>(cn j hj).resolve_right (by rintro⟨_,_,_,z,_⟩;exact nomatch z);have bd:=ai cs;have b7:fL c L5 o.reverse g2.sd:=d.led λx hx=>by obtain⟨X,hX⟩:=es;rw[hX];exact aP _ hx
   have bq:∀f∈o++[g2],∀k,f.bit=some k->k∈c.ks:=λf hf k hk=>by
    rcases aD.mp hf with z | z
    ·exact((d.fks f (ci.mpr z)).1.bit k hk).1
    ·rw[aj.mp z]at hk;exact(a1.bit k hk).1
   refine⟨G5,p,Y,le,N,c,L5,O5,r,o++[g2],j,e,rfl,I.se,I.led,I.fk,I.sep,cs,by rw[aF,aU];lia,bq,λn H6 hn ec s6 eu=>?_⟩;have e1:∀y∈N::r.map (·.2),∃u,H5 y=some u/\¬uD u:=λy Z=>by
    rcases am.mp Z with z | z
    ·exact⟨.lst _,by rw[z];exact I.fk.l,λq=>q⟩
    ·obtain⟨a',J,rfl⟩:=aw.mp z;obtain⟨t,ht⟩:=aC.mp J;obtain⟨fk,_,_,sx,wa,ad,_⟩:=Paired.Kq I.fk.p ht;exact⟨.ins _ _ _,ad,λq=>q⟩
   have c4:∀y∈N::r.map (·.2),G5 y=none:=λy Z=>by
    rcases am.mp Z with z | z
    ·rw[z];exact I.fk.offl
    ·obtain⟨a',J,rfl⟩:=aw.mp z;exact(I.fk.off a' J).2
   have cy:∀y∈O5,y∉N::r.map (·.2):=λy Z z=>by
    rcases am.mp z with z | z
    ·exact I.sep.1 (z▸Z)
    ·obtain⟨a',J,rfl⟩:=aw.mp z;exact(I.sep.2 a' J).2 Z
   have g6:eD G5 H6:=iy I.se.gh c4 s6.toF;have dn:gy CL G5 H6 le Y c L5 O5:=I.led.grow (eD.refl _) I.led.off λy Z=>by
    obtain⟨u,D⟩:=I.led.liv y Z;rw[s6 y u (by rw[eE (cy y Z)];exact D),D]
   have S6:SS CB CC CL CS CF CT G5 H6 p Y le N c L5 O5 (r.take n) (c.LP e.1 ((o++[g2]).take n)):=⟨I.se.grow (eD.refl _) g6,dn,ah,eu,I.sep.1,λa' J=>I.sep.2 a' (dG J)⟩;have b8:iY H O H6 O5:=ap.trans ((a0.LS.trans (b5.LS.trans v.LS)).trans (iY.del s6.toF e1));have c5:eD G G5:=bv.trans v.gg;have a4:yE H O G G5:=λx u h f n g=>v.off (bm x u h f n g) ((ap.trans (a0.LS.trans b5.LS)) x u h f n).1;rcases yz b7 a1 bd (ah.lt e bd) c1 ec with ⟨R,z2⟩ | ⟨B3,g3,R,z2,z3,z4,z5⟩
   ·have ek:c.LP e.1 ((o++[g2]).take n)=[]:=by rw[R];rfl
    rw[ek]at S6;refine⟨0,Nat.succ_pos _,G5,L5,O5,r.take n,[],_,_,rfl,c5,b8,a4,S6,.inl ⟨rfl,rfl,e,?_,z2⟩⟩;rcases a7 a3 with y | ⟨_,y⟩
    ·exact absurd z2 (y e bd)
    ·exact y
   ·rw[R]at S6;refine⟨_,Nat.succ_lt_succ z4,G5,L5,O5,r.take n,B3++[g3],_,_,rfl,c5,b8,a4,S6,.inr ⟨B3,g3,rfl,rfl,bz (cA z4) c6,z2,z3,?_⟩⟩;rcases a7 a3 with y | ⟨y,_⟩
    ·exact y
    ·exact absurd y z5
  ·have dc:(!xs.isEmpty)=true:=by cases xs with | nil=>exact absurd rfl hxe | cons a b=>rfl
   rw[dc];refine gW ?_;have eb:c.listed (iq (c.Lf g2.part) g2.sd.dead)≠[]:=λz=>hxe (bO.mp (by rw[lx,z];rfl));obtain⟨k,hkl⟩:∃k,(c.listed (iq (c.Lf g2.part) g2.sd.dead)).getLast?=some k:=⟨_,List.getLast?_eq_some_getLast eb⟩;obtain⟨hk,al,a6,a5⟩:=yb nc hkl;obtain⟨x,a2,ba⟩:∃x,xs[xs.length-1]?=some x/\fg U x k:=by
    have h1:(c.listed (iq (c.Lf g2.part) g2.sd.dead))[xs.length-1]?=some k:=by rw[lx,<-List.getLast?_eq_getElem?];exact hkl
    obtain⟨x,R,z2⟩:=iV c3 (i:=((xs.length-1:Nat):Int)) (by rw[ij];exact h1);rw[ij]at R;exact⟨x,R,z2⟩
   have g3:=C.se.gh;refine⟨_,rfl,p,dx,_,V.ref Y,rfl,b1,(by kernel_rfl),Y,gx,_,V.ref as,rfl,g3.ins d1,(by kernel_rfl),_,rfl,_,rfl,l,_,_,x,rfl,rfl,eX.of b6,oz a2,as,_,rfl,(d4.f g3).get (w:=some k) (gE hk) (fg.f g3 ba),_,rfl,a.1,fx,_,rfl,S,(by show 3<1000;decide),?_⟩;rw[Ey];have c7:=ai ha;have cv:∀{y dy y1 y2 y3},H3 y=some (.ins CT dy (yG y1 y2 y3))->y≠a.1:=λh=>Ne.symm (yW S h);have ft:l≠a.1:=fh b6 S λz=>nomatch z;have aa:∀b,b≠a.1->upd H3 a.1 (.ins CF fx (ui (.str g2.part) (.ref a.2) (.int (c.Ks (some k):Nat)))) b=H3 b:=λb hb=>ef hb;have cp:upd H3 a.1 (.ins CF fx (ui (.str g2.part) (.ref a.2) (.int (c.Ks (some k):Nat)))) a.1=some (.ins CF fx (ui (.str g2.part) (.ref a.2) (.int (c.Ks (some k):Nat)))):=d0;generalize upd H3 a.1 (.ins CF fx (ui (.str g2.part) (.ref a.2) (.int (c.Ks (some k):Nat))))=H4 at *;have g4:eD U H4:=λb u e=>by
    have nb:b≠a.1:=λz=>by rw[z,(C.fk.off a c7).1]at e;cases e
    rw[aa b nb];exact g3 b u e
   have ds:a.1∉O2:=(C.sep.2 a c7).1;have ag:gy CL U H4 le Y c L2 O2:=C.led.grow (eD.refl _) C.led.off λy Z=>aa y λz=>ds (z▸Z);obtain⟨⟨fx3,hfa3⟩,hst3⟩:mM CF CT U H3 c a g2:=by
    obtain⟨c2,R,z2⟩:=Paired.Kq C.fk.p ha;rw[bl]at R;cases R;exact z2
   have ej:N≠a.1:=fh C.fk.l S λz=>nomatch z;have ed:∀(t:Nat) (b:Addr×Addr),r[t]?=some b->t≠o.length->b.1≠a.1:=λt b hb ht z=>by
    have a2:(r.map (·.1))[t]?=some b.1:=by rw[ae,hb];rfl
    have ba:(r.map (·.1))[o.length]?=some a.1:=by rw[ae,ha];rfl
    rw[z]at a2;exact ht ((ce (af.mp a2).1 C.fk.nd1).mp (a2.trans ba.symm))
   have a8:lO CT U H4 a.2 g2.sd:=by
    obtain⟨sx,wa,ad,e5⟩:=hst3;exact⟨sx,wa,by rw[aa _ (cv ad)];exact ad,e5⟩
   have cd:jc CF CT U H4 c N r (o++[{g2 with bit:=some k}]):=by
    refine⟨by rw[aa N ej];exact C.fk.l,ki (by rw[aF,aU];exact lA) λt b fk h1 h2=>?_,C.fk.offl,C.fk.off,C.fk.nd1,C.fk.nd2⟩;by_cases ht:t=o.length
    ·subst ht;rw[ha]at h1;cases h1;rw[bb (ao _),bQ]at h2;have:({g2 with bit:=some k}:Fk)=fk:=by simpa using h2
     subst this;exact⟨⟨fx,cp⟩,a8⟩
    ·have c8:t<o.length:=by
      have:=(af.mp h2).1;rw[aF,aU]at this
      lia
     rw[aQ c8]at h2;obtain⟨c2,R,⟨y1,z2⟩,y2,w2,z3,z4⟩:=Paired.Kq C.fk.p h1;rw[aQ c8,h2]at R;cases R;exact⟨⟨y1,by rw[aa _ (ed t b h1 ht)];exact z2⟩,y2,w2,by rw[aa _ (cv z3)];exact z3,z4⟩
   have da:kF c {g2 with bit:=some k}:=⟨a1.open_,a1.rule,λj hj=>by cases hj;exact⟨hk,al,a5⟩⟩;have dv:H4 p=some (.ins CS dx (xm Y le N)):=g4.ins hp;have S4:SS CB CC CL CS CF CT U H4 p Y le N c L2 O2 r (o++[{g2 with bit:=some k}]):=⟨C.se.grow (eD.refl _) g4,ag,C.ok,cd,C.sep⟩
   have cz:iY H3 O2 H4 O2:=iY.del (ys:=[a.1]) (λb u hb=>by
    have nb:b≠a.1:=λz=>by rw[z,fM (by simp)]at hb;cases hb
    rw[aa b nb];exact .inl (fq _ _ b u hb)) λy Z=>by rw[aj.mp Z];exact⟨_,S,λq=>q⟩
   refine⟨_,rfl,p,dx,_,rfl,dv,(by kernel_rfl),_,rfl,U,p,Y,le,N,c,L2,O2,a,{g2 with bit:=some k},k,rfl,S4.se,ag,S4.ok,⟨⟨fx,cp⟩,a8⟩,rfl,da,d.sd,a6,?_⟩;intro G5 H5 s5 d5 v co em cx ⟨c0,b4⟩ dp;have bx:gy CL G5 H5 le Y c L2 O2:=ag.grow v.gg (λy Z=>by obtain⟨u,D⟩:=ag.liv y Z;exact v.off (ag.off y Z) D) dp;have I:=S4.grow v bx S4.ok;have a4:yE H O G G5:=λx u h f n g=>v.off (bm x u h f n g) ((ap.trans (a0.LS.trans cz)) x u h f n).1;refine q1 G5 H5 L2 O2 r _ s5 d5 (bv.trans v.gg) (ap.trans (a0.LS.trans (cz.trans v.LS))) a4 I ?_ a3 cx em (λz=>?_) (λz=>?_) (by rw[Aj (g:=g2) (g':={g2 with bit:=some k}) rfl rfl];exact c6)
   ·rw[cF,List.reverse_singleton,List.singleton_append];exact .cons d da b4 c0
   ·obtain⟨u,D⟩:=ag.liv s5 z;rw[co]at D;cases D
   ·obtain⟨a',J,rfl⟩:=aw.mp z;obtain⟨t,ht⟩:=aC.mp J;obtain⟨fk,_,_,sx,wa,ad,_⟩:=Paired.Kq cd.p ht;rw[co]at ad;cases ad
end
end
section
structure Bk (K:W.Frag)(x qual:Str)(st:Stmt)(f:Addr)(fd:FuncData)(c:Addr):Prop where
 ex:∃(oc:Value) (od:Option Addr) (kV doc pm:Value) (an:Option Addr) (ct:Value) (osl:Array (Option Value)),
  fd=W.fnOf x qual (ie st) (gC st) (eB st) .none kV doc pm an (.ref c) ct/\K.lookup f=some ⟨oc,od,.func fd,osl⟩/\W.codeIn K (.ref c) qual=true
 kp:W.keepIn K (.ref f)=true
section
variable {P:Program}{w:World}{K:W.Frag}{mg:Str->Option Value}{base:Heap}
theorem Bk.ok {x qual:Str}{st:Stmt}{f c:Addr}{fd:FuncData}{N ps:List Str}{k:Nat}{sp:Sp}(F:Bk K x qual st f fd c)(S:eM N ps (eB st))(len:∀vs H Q E,sp vs H Q E->vs.length=ps.length)(a:∀(A:Around) (outer:List Env) (s:Shared) (H:Hp) (vs:List V) (Q:VK) (E:XK),gK k (A.deeper (envOfC qual (eB st) s.heap.objs.size f (.ref c)))->sp vs H Q E->∃t,mj (qk fB P w K mg base N qual (eB st) f (.ref c) A outer s H E).nox (gC st) t/\t {nx:=λ_ H'=>Q .non H',rt:=Q} (start N vs) H):fi P w K mg base fB (k+1) f fd ps sp:=by
 obtain⟨m,p,kV,i,l,o,r,j,rfl,e,d⟩:=F.ex;refine Dm e d S len λA outer s H vs Q E g b=>?_;obtain⟨t,h,q⟩:=a A outer s H vs Q E g b;exact⟨t,h.nox,q⟩
end
end
section
seal mj PS PE PT PA
def x9:Pos:=match gC tS with
 |(.Assign _ (.Call _ _ [⟨_,.Lambda _ _ _ lp,_⟩] _) _)::_=>lp
 |_=>⟨0,0,0,0⟩
def yQ:Str:=(envOfC "Search.next_part" (eB tS) 0 0 .none).qual++"<lambda>"
theorem AG {names:List (Str×NameKind)}{y y':Str}(h:∀p∈names,p.2=.free->p.1=y\/p.1=y'):∀z,names.lookup z=some .free->z=y\/z=y':=λz hz=>by
 induction names with
 |nil=>cases hz
 |cons a l ih=>
  rw[be]at hz;by_cases e:(z == a.1)=true
  ·rw[e]at hz;have e1:z=a.1:=by simpa using e
   have b:a.2=.free:=Option.some.inj hz;rw[e1];exact h a (by simp) b
  ·have d:(z == a.1)=false:=by cases hh:(z == a.1) <;> simp_all
   rw[d]at hz;exact ih (λp hp=>h p (by simp[hp])) hz
theorem Cq {c:el}{x:Str}{s:Sd}:c.listed (iq (c.Lf x) s.dead)=c.left x s:=by
 unfold el.listed el.left;refine List.filter_congr λk b=>?_;rw[cT,aH,aB,bP,decide_eq_false_iff_not];have a:=nc (c:=c) (x:=x) (s:=s) k;rw[el.K6]at a;exact⟨λz=>(a.mp ⟨b,z⟩).2,λz=>(a.mpr ⟨b,z⟩).2⟩
inductive Gx (CB CC CS CT:Addr)(tq:Str)(lp:Pos)(PT':Addr)(vs:List V)(H:Hp)(Q:VK)(E:XK):Prop
 |mk (G:Hp)(p ch le fl s:Addr)(c:el)(L:ir)(sd:Sd)(_:vs=[.ref p,.ref s])(_:Se CB CC CS G H p ch le fl c)(_:lO CT G H s sd)(_:iN c L sd)(_:sd.wanted≠[])(_:ia tq lp H PT')(_:G PT'=none)(_:∀(x:Str) (H':Hp),x∈sd.wanted.map (·.1)->c.Rule x sd->eF (del H [PT']) H'->ia tq lp H' PT'->Q (.str x) H')
def uH (CB CC CS CT:Addr)(tq:Str)(lp:Pos)(PT':Addr):Sp:=Gx CB CC CS CT tq lp PT'
section
variable {P:Program}{w:World}{K:W.Frag}{mg:Str->Option Value}{base:Heap}{f cd:Addr}{fd:FuncData}
theorem DK:eM ["self","stand","fewest","first"] ["self","stand"] (eB tS):=i4
theorem B9 {CB CC CS CT PP:Addr}(F:Bk K "next_part" "Search.next_part" tS f fd cd)(a3:W.codeHdIn K cd PP=true)(BM:tw mg base)(T:tE K mg CS)(as:TC K mg CC)(TT:CP K mg CT)(GC:Gd P w K mg base fB 1 "count_picks" ["mask"] vV)(ML:Mt P w K mg base CS fB 1 "left" ["self","stand","part"] (w9 CB CC CS CT)):fi P w K mg base fB 5 f fd ["self","stand"] (uH CB CC CS CT yQ x9 PP):=by
 refine F.ok DK (λvs H Q E h=>?_) (λA a7 s H vs Q E hr h=>?_)
 ·obtain⟨G,p,ch,le,fl,s,c,L,sd,rfl,_⟩:=h;rfl
 obtain⟨G,p,ch,le,fl,N,c,L,sd,rfl,hS,a6,aa,a0,hT,gP,q⟩:=h;have hu:=gB hr;refine⟨_,(ee (eJ (i:=2) DK.nd (BQ (k:=2) (x:="part") (y:="stand") (y':="self") (j:=1) (j':=0) (cy:=s.heap.objs.size+2) (cy':=s.heap.objs.size+1) rfl hr ⟨rfl,rfl,rfl,rfl,rfl,rfl,rfl,by decide +kernel,AG (by decide +kernel),rfl,rfl,rfl,rfl,rfl,rfl,Or.inr (Or.inl rfl),Or.inr (Or.inl rfl),by decide +kernel,by decide +kernel,by decide +kernel⟩ rfl a3 BM rfl rfl T.min (eK TT.cl TT.nWa (pv 1)) (λ_ _ _ _=>rfl) (λq c' s H=>fN GC (gK.mono (gK.deeper (gK.in1 hr) _) (by decide:1<=2)) (dZ (il ML (gK.mono (gK.deeper (gK.in1 hr) _) (by decide:1<=2)) fE (pv 2) (dZ (pv 1) (dZ (pv 0) eg))) eg)))) (ee (eJ (i:=3) DK.nd (eG fc (gX (uv rfl) rfl T.list cM (dZ (eK TT.cl TT.nWa (pv 1)) eg)) er)) (ee (fz (PW.pt (kY (hJ (mU hu (pv 3) (eY hu (eK as.cl as.nAl (eK T.cl T.nCh (pv 0))) iH))) (jR (fC Dj (fN GC (hr.mono (by decide:1<=4)) (dZ (il ML (hr.mono (by decide:1<=4)) fE (pv 0) (dZ (pv 1) (dZ (pv 2) eg))) eg)) er (fO _))))) (eo (eQ (pv 3))) eP) (eo (eQ (pv 2)))))),?_⟩;obtain⟨dx,hp⟩:=hS.self;have bl:=hS.gh.ins hp;obtain⟨sx,Z,R,wo,g,I,J⟩:=id a6;have lw:=Paired.length J;obtain⟨⟨x0,u0⟩,wr,hw0⟩:∃xu wr,sd.wanted=xu::wr:=by
  cases h:sd.wanted with
  |nil=>exact absurd h a0
  |cons a b=>exact⟨a,b,rfl⟩
 have t:0<g.length:=by rw[lw,hw0];exact Nat.succ_pos _
 have o:∀(i:Nat) (m:gz×V),g[i]?=some m->∃x u,sd.wanted[i]?=some (x,u)/\m.1=Sum.inr x:=λi m h=>by
  obtain⟨⟨x,u⟩,B,D⟩:=Paired.Kq J h;exact⟨x,u,B,D.1⟩
 have hP:∃u,H PP=some u/\uD u:=by
  rcases hT with z | ⟨c',z,_⟩
  ·exact⟨_,z,trivial⟩
  ·exact⟨_,z,trivial⟩
 have nP:∀{a C d fs},H a=some (.ins C d fs)->a≠PP:=λ{a C d fs} h z=>by
  obtain⟨u,B,D⟩:=hP;rw[z,B]at h;cases h;exact D
 refine⟨_,rfl,N,sx,_,V.ref Z,rfl,R,(by kernel_rfl),Z,wo,g,V.ref N,V.ref p,rfl,hS.gh.frz I,t,hT,rfl,rfl,λH2 sm a1=>?_⟩;have g2:eD G H2:=iy hS.gh (O:=[PP]) (λa ha=>by rw[aj.mp ha];exact gP) sm.toF;have ag:Se CB CC CS G H2 p ch le fl c:=hS.grow (eD.refl _) g2;have a5:=g2.ins hp;have r:H2 N=some (.ins CT sx (yG (.int (sd.picked:Nat)) (.int (sd.dead:Nat)) (.ref Z))):=sm _ _ (by rw[eE (by simpa using nP R)];exact R);have an:lO CT G H2 N sd:=⟨sx,Z,r,wo,g,I,J⟩
 refine⟨λi=>match sd.wanted[i]? with
  |some xu=>((c.listed (iq (c.Lf xu.1) sd.dead)).length:Nat)
  |none=>0,λi m hi=>?_,λi m hi ba=>?_⟩
 ·obtain⟨x,u,B,D⟩:=o i m hi;dsimp only;rw[B,D];exact⟨_,rfl,p,dx,_,rfl,a5,(by kernel_rfl),_,rfl,_,rfl,G,p,ch,le,fl,N,c,sd,x,rfl,ag,an,c,_,rfl,jJ (c.KK _),rfl,rfl⟩
 ·obtain⟨x,u,B,D⟩:=o i m hi;rw[D];have ap:x∈sd.wanted.map (·.1):=aw.mpr ⟨(x,u),ai B,rfl⟩;refine⟨_,rfl,N,sx,_,V.ref Z,rfl,r,(by kernel_rfl),Z,g,rfl,.inr ⟨wo,g2.frz I⟩,λl hl=>?_⟩;have Y:=eA hl (.lst (g.map λm=>kV m.1));obtain⟨kv0,kvr,hk0,hk1⟩:∃kv0 kvr,g=kv0::kvr/\kv0.1=Sum.inr x0:=by
   cases hwk:g with
   |nil=>rw[hwk]at t;cases t
   |cons a b=>
    obtain⟨x',u',y1,y2⟩:=o 0 a (by rw[hwk];rfl);rw[hw0]at y1;cases y1;exact⟨a,b,rfl,y2⟩
  have a9:upd H2 l (.lst (g.map λm=>kV m.1)) l=some (.lst (V.str x0::kvr.map λm=>kV m.1)):=by
   rw[d0,hk0,aG,hk1];rfl
  generalize upd H2 l (.lst (g.map λm=>kV m.1))=H3 at *;have g3:eD G H3:=g2.trans Y.toF;have ad:=g3.ins hp;refine⟨l,_,_,V.str x0,rfl,rfl,eX.of a9,mI,?_⟩;obtain⟨gx,gb,a4,bm,bv,al,bf,bq,bd,d1,d2,d3,d4,d5,d6,d7,d8,d9⟩:=hS.chart.ex;obtain⟨da,e1,oa,S,e2,e3,e4⟩:=(d7.f g3).get (w:=none) jj rfl;refine⟨_,rfl,_,rfl,p,dx,_,V.ref ch,rfl,ad,(by kernel_rfl),ch,gx,_,V.ref al,rfl,g3.ins d1,(by kernel_rfl),al,_,rfl,e1,da,_,rfl,.inl ⟨S,Sum.inr x0,.inr ⟨oa,e2⟩,rfl,rfl⟩,_,rfl,?_⟩;have a8:(eV S (Sum.inr x0)).isSome=decide (x0∈c.start):=by
   by_cases hx:x0∈c.start
   ·rw[e4 x0 hx,aq hx];rfl
   ·rw[au hx];cases hq:eV S (Sum.inr x0) with
    |none=>rfl
    |some v=>
     have:=iP hq;rw[e3]at this;obtain⟨y,hy,e⟩:=aw.mp this;rw[Sum.inr.inj e]at hy;exact absurd hy hx
  rw[a8];have h0:(sd.wanted.map (·.1))[0]?=some x0:=by rw[hw0];rfl
  have M:x0∈sd.wanted.map (·.1):=by rw[hw0];exact bt
  have U:eF (del H [PP]) H3:=sm.trans Y;have X:ia yQ x9 H3 PP:=by
   rcases a1 with z | ⟨c',B,D⟩
   ·exact .inl (Y _ _ z)
   ·exact .inr ⟨c',Y _ _ B,Y _ _ D⟩
  have a2:=ag.same Y;have ah:lO CT G H3 N sd:=⟨sx,Z,Y _ _ r,wo,g,I,J⟩;by_cases hx:x0∈c.start
  ·rw[aq hx];refine gW ?_;refine⟨_,rfl,p,dx,_,rfl,ad,(by kernel_rfl),_,rfl,_,rfl,G,p,ch,le,fl,N,c,sd,x,rfl,a2,ah,c,_,rfl,jJ (c.KK _),_,_,rfl,rfl,_,rfl,?_⟩;dsimp only;rw[Cq];by_cases h1:(1:Int)<((c.left x sd).length:Nat)
   ·rw[aq h1];exact gW ⟨_,rfl,q x0 H3 M (rR aa h0 (.inl ⟨rfl,hx⟩)) U X⟩
   ·rw[au h1];exact ff ⟨_,rfl,q x H3 ap (rR aa h0 (.inr (.inr (by omega)))) U X⟩
  ·rw[au hx];refine ff (ff ⟨_,rfl,q x H3 ap (rR aa h0 (.inr (.inl hx))) U X⟩)
end
def el.LY (c:el)(n:Nd)(k:Pk):List Pk:=((je c.es n).filter λv=>decide (k.2<v)).map λv=>(k.1,v)
inductive vT (CB CC CS CF CT:Addr)(vs:List V)(H:Hp)(Q:VK)(E:XK):Prop
 |mk (G:Hp)(p ch le fl:Addr)(c:el)(O:List Addr)(a:Addr×Addr)(fk:Fk)(k:Pk)(_:vs=[.ref p,.ref a.1])(_:Se CB CC CS G H p ch le fl c)(_:mM CF CT G H c a fk)(_:fk.bit=some k)(_:k∈c.ks)(_:k.1=fk.part)(_:fk.part∈(c.needs none).map (·.1))(_:∀a∈O,∃u,H a=some u)(_:∀(G' H':Hp) (l:Addr) (xs:List V) (n:Nd),iK G H O G' H' O->(∀a∈O,H' a=H a)->H l=none->G' l=none->H' l=some (.lst xs)->(c.needs none)[((c.needs none).map (·.1)).idxOf fk.part]?=some n->n.1=fk.part->Paired (fg G') xs (c.LY n k)->Q (.ref l) H')
theorem Ge:(["version","picked","fork"]:List Str).Nodup:=by decide +kernel
section
variable {P:Program}{w:World}{K:W.Frag}{mg:Str->Option Value}{base:Heap}{f:Addr}{fd:FuncData}
theorem yZ:eM ["self","fork","need","picked"] ["self","fork"] (eB rC):=i4
theorem zX {CB CC CS CF CT:Addr}(F:iL K "newer_picks" "Search.newer_picks" rC f fd)(T:tE K mg CS)(g:TC K mg CC)(ag:TB K mg CB)(TF:Bc K mg CF)(MN:Mt P w K mg base CS fB 1 "place_of_need" ["self","who","part"] (oF CB CC CS))(MM:Mt P w K mg base CB fB 2 "meeting" ["self","need"] (lD CB)):fi P w K mg base fB 3 f fd ["self","fork"] (vT CB CC CS CF CT):=by
 refine F.ok yZ λcs A b4 s H vs Q E hr h=>?_;obtain⟨G,p,I,le,fl,c,O,a,m,k,rfl,e,bv,ap,hk,a9,al,ah,q⟩:=h;have hu:=gB hr;refine⟨_,(ee (eJ (i:=2) yZ.nd (eG fc (eY hu (eK ag.cl ag.nN (eK g.cl g.nBoard (eK T.cl T.nCh (pv 0)))) iH) (il MN (hr.mono (by decide:1<=2)) fE (pv 0) (dZ iH (dZ (eK TF.cl TF.nPa (pv 1)) eg))))) (ee (eJ (i:=3) yZ.nd (eG eN (gN hu (eK g.cl g.nBy (eK T.cl T.nCh (pv 0))) (eK TF.cl TF.nBi (pv 1))) er)) (eo (eQ (iQ (N':=["version","picked","fork"]) (n:=1) (js:=[3,1]) rfl (iG.two (c:=s.heap.objs.size+2) (c':=s.heap.objs.size+1) (y:="picked") (y':="fork")) (ip (by decide)) (fD (il MM hr fE (eK g.cl g.nBoard (eK T.cl T.nCh (pv 0))) (dZ (pv 2) eg))) (λC s2 Z fp=>eL (i:=0) Ge) (λC s2 Z fp=>oh (fC Dj (pv 0) (pv 1) (fO _))) (λC s2 Z fp=>gL (dZ (eK TF.cl TF.nPa (pv 2)) (dZ (pv 0) eg)))))))),?_⟩;obtain⟨dx,hp⟩:=e.self;have X:=e.gh.ins hp;obtain⟨⟨fx,B⟩,b9⟩:=bv;have b6:c.Ks m.bit=c.bit k:=by rw[ap];rfl
 rw[b6]at B;obtain⟨gx,gb,b3,an,cp,ct,co,cv,a6,d1,d2,d3,d4,⟨bq,b1,a3⟩,d6⟩:=e.chart.ex;obtain⟨cd,a1,pq,rfl,b2⟩:=a3 k hk;obtain⟨bx,dn,dv,a4,bl⟩:=jr (d2.f e.gh) (d3.f e.gh);obtain⟨na,ba,zs,hz,b5⟩:=bl none .non jj rfl;obtain⟨n,aa,b7⟩:=wC al;refine⟨_,rfl,p,dx,_,V.ref I,rfl,X,(by kernel_rfl),I,gx,_,V.ref gb,rfl,e.gh.ins d1,(by kernel_rfl),gb,bx,_,_,rfl,a4,gc _ _,dn,_,rfl,ba,_,rfl,p,dx,_,rfl,X,(by kernel_rfl),_,rfl,a.1,fx,_,V.str m.part,rfl,B,(by kernel_rfl),G,p,I,le,fl,c,.non,none,m.part,rfl,e,jj,rfl,al,λH1 S=>?_⟩;obtain⟨zv,a7,bf⟩:=iV b5 (show iI (c.needs none) ((((c.needs none).map (·.1)).idxOf m.part:Nat):Int)=some n by rw[ij];exact aa);refine⟨na,_,_,zv,rfl,rfl,eX.of (S _ _ hz),jy a7,?_⟩;have g1:eD G H1:=e.gh.trans S.toF;have ad:=S _ _ X;have r:=S _ _ B;refine⟨_,rfl,p,dx,_,V.ref I,rfl,ad,(by kernel_rfl),I,gx,_,V.ref an,rfl,g1.ins d1,(by kernel_rfl),_,rfl,a.1,fx,_,V.int (c.bit k:Nat),rfl,r,(by kernel_rfl),an,V.ref pq,rfl,.inl ⟨bq,Sum.inl (c.bit k:Int),g1.rd b1,rfl,a1.symm⟩,pq,_,_,V.int k.2,rfl,rfl,gs.of (g1.tup b2),rfl,?_⟩;refine⟨_,rfl,p,dx,_,V.ref I,rfl,ad,(by kernel_rfl),I,gx,_,V.ref gb,rfl,g1.ins d1,(by kernel_rfl),gb,bx,_,rfl,S _ _ a4,pU _ _ (by decide +kernel) (by decide +kernel),_,rfl,gb,a6,c.es,_,n,rfl,d2.f g1,fJ.same S bf,by rw[<-c.n_eq];exact e.n,λl0 ms Z s2 cn L a8 bm=>?_⟩;have a2:=pA a8 bm;subst a2;have d:=S.trans s2;refine⟨l0,rfl,⟨_,eX.of L⟩,?_⟩;have cx:(je c.es n).length<64:=by
  have h1:=li c.es n;have Y:=e.n;rw[c.n_eq]at Y;omega
 refine ik (xs:=(je c.es n).map V.int) (λD i ys o=>∃j,iK G H O j o O/\Z D=none/\j D=none/\o D=some (.lst ys)/\eF (del Z [D]) o/\Paired (fg j) ys ((((je c.es n).take i).filter λv=>decide (k.2<v)).map λv=>(k.1,v)))
  (λD hD=>⟨G,(iK.same e.gh d).own (d.free hD) (e.gh.free (d.free hD)),hD,e.gh.free (d.free hD),d0,λb u J=>by
   have nb:b≠D:=λz=>by rw[z,fM (by simp)]at J;cases J
   rw[ef nb];exact fq _ _ b u J,by rw[cZ];exact .nil⟩)
  (λD i ys o hi ⟨j,M,l,e3,U,R,N⟩=>⟨eX.of (R _ _ (by rw[eE (by simpa using et L l)];exact L)),U,?_⟩) (λD i y ys o hi ⟨j,M,l,e3,U,R,N⟩=>?_) (λD ys o ⟨j,M,l,e3,U,R,N⟩=>?_)
 ·have h1:=Paired.length N;rw[ab]at h1;have Y:=bE (λv=>decide (k.2<v)) ((je c.es n).take i);rw[aT]at Y;exact eO (by omega)
 ·rw[ae]at hi;obtain⟨v,hv,rfl⟩:=az.mp hi;have a5:∀{x u},Z x=some u->o x=some u:=λ{x u} h=>R _ _ (by rw[eE (by simpa using et h l)];exact h);unfold jq;refine⟨_,rfl,_,rfl,_,_,rfl,rfl,_,rfl,?_⟩;skip;have as:=fH hv;by_cases hlt:k.2<v
  ·rw[aq hlt];refine gW ⟨_,rfl,a.1,fx,_,V.str m.part,rfl,a5 (s2 _ _ r),(by kernel_rfl),_,rfl,tG,λt ht=>?_⟩;have bd:D≠t:=et U ht;have gw:=M.trans (iK.put (O:=O) (u:=.tup [.str m.part,.int v]) M.gh ht);have st:=eA ht (.tup [.str m.part,.int v]);have b8:H D=none:=d.free l;have gD:upd j t (.tup [.str m.part,.int v]) D=none:=by rw[ef bd];exact e3
   refine⟨st _ _ U,upd j t (.tup [.str m.part,.int v]),gw.own b8 gD,l,gD,d0,λb u J=>?_,?_⟩
   ·have nb:b≠D:=λz=>by rw[z,fM (by simp)]at J;cases J
    rw[ef nb];exact st _ _ (R _ _ J)
   ·rw[as,ca,ay];have e9:([v].filter λv=>decide (k.2<v))=[v]:=by rw[aJ,ax (by simpa using hlt)];rfl
    rw[e9];refine Paired.snoc (Paired.J4 N λ_ _=>fg.f ((eD.refl j).upd (M.gh.free ht))) ⟨t,rfl,?_⟩;rw[d0,<-a9]
  ·rw[au hlt];refine ff ⟨j,M,l,e3,U,R,?_⟩;rw[as,ca,ay];have e9:([v].filter λv=>decide (k.2<v))=[]:=by rw[aJ,av (by simpa using hlt)];rfl
   rw[e9,cO,bW];exact N
 ·rw[ab,aI]at N;refine q j o D ys n M (λy hy=>?_) (d.free l) e3 U aa b7 N;obtain⟨u,a0⟩:=ah y hy;have Y:=d _ _ a0;rw[R y u (by rw[eE (by simpa using et Y l)];exact Y),a0]
end
end
section
variable {F:List Fk}{L:ir}{d:Sd}{g:Fk}{t:Nat}
theorem yX {α:Type}{l:List α}{x:α}(h:l[t]?=some x):l=l.take t++x::l.drop (t+1):=by
 obtain⟨a,b⟩:=af.mp h;subst b;rw[<-db a,dB]
theorem jK {c:el}(h:fL c L F.reverse d)(a:F[t]?=some g):fL c L (F.take t).reverse g.sd/\kF c g:=by
 have e:F.reverse=(F.drop (t+1)).reverse++g::(F.take t).reverse:=by
  conv=>lhs;rw[yX a]
  rw[cF,cV,bH];rfl
 exact h.to e
theorem Cp {c:el}(h:fL c L F.reverse d){g':Fk}(p:F[t]?=some g)(a:F[t+1]?=some g'):∃k,g.bit=some k/\k∈c.ks/\k.1=g.part/\g'.sd.picked=g.sd.picked ||| c.bit k/\¬c.has g.sd.dead k:=by
 obtain⟨i,_⟩:=jK h a;have e:(F.take (t+1)).reverse=g::(F.take t).reverse:=by
  rw[aX,p,cF];rfl
 rw[e]at i;have l:=i.live g (by simp);cases i with
 |cons a1 a2 a3 a4=>
  obtain⟨k,b,m,q⟩:=a3;obtain⟨o,j,_⟩:=a2.bit k b;exact⟨k,b,o,j,m,l k b⟩
theorem vL {c:el}(h:fL c L F.reverse d)(hg:g∈F):∃k,g.bit=some k/\k∈c.ks/\k.1=g.part/\c.has d.picked k/\¬c.has g.sd.dead k:=by
 have a:g∈F.reverse:=ci.mpr hg;obtain⟨l,_⟩:=h.fks g a;have key:∀{R:List Fk} {s:Sd},fL c L R s->∀g∈R,∃k,g.bit=some k:=by
  intro R s j
  induction j with
  |nil _ _=>exact λg hg=>nomatch hg
  |cons _ _ a3 _ ih=>
   intro g hg;rcases am.mp hg with rfl | hg
   ·obtain⟨k,b,_⟩:=a3;exact⟨k,b⟩
   ·exact ih g hg
 obtain⟨k,e⟩:=key h g a;obtain⟨m,i,_⟩:=l.bit k e;exact⟨k,e,m,i,(h.sub g a).2.2 k e,h.live g a k e⟩
def el.LZ (c:el)(pk:Nat)(x:Str):Nat:=c.maskOf λk=>decide (c.has pk k)&&decide (k.1∈c.start.take (c.start.idxOf x))
theorem el.L0 {c:el}{pk:Nat}{x:Str}{k:Pk}:c.has (c.LZ pk x) k↔c.has pk k/\k.1∈c.start.take (c.start.idxOf x):=by
 unfold el.LZ;rw[el.KJ,aH,aB,aB];exact⟨λh=>h.2,λh=>⟨h.1.1,h⟩⟩
theorem si {α:Type} [DecidableEq α] {l:List α}{x:α}{n:Nat}(h:x∈l)(hn:l.idxOf x<n):x∈l.take n:=by
 have a:=bC.mpr h;refine aC.mpr ⟨l.idxOf x,?_⟩;rw[b0,ax hn,ak a]
 exact congrArg some (cm a)
theorem Cv {α:Type} [DecidableEq α] {l:List α}{x y:α}(d:x∈l)(e:y∈l)(h:l.idxOf x=l.idxOf y):x=y:=by
 have a:=cm (bC.mpr d);have b:=cm (bC.mpr e);rw[<-a,<-b]
 congr 1
theorem xB {c:el}(h:fL c L F.reverse d)(I:p3 c F){N:Nat}{fk:Fk}{k:Pk}(B:F[N]?=some fk)(e:F[t]?=some g)(b:t<N)(m:fk.part∈c.start)(x:g.bit=some k)(J:¬c.has (c.LZ d.picked fk.part) k):∀j∈c.ks,j.1=g.part->c.has g.sd.dead j\/j=k:=by
 obtain⟨C,D⟩:=jK h B;obtain⟨M,p⟩:=jK h e;have a:=D.out C.sd;have q:=vL h (ai e);obtain⟨R,A,Q,o,O,E⟩:=q;rw[x]at A;cases A;have up:∀y,c.isP g.sd.picked y->c.isP fk.sd.picked y:=(by rintro y ⟨j,P,G⟩;exact⟨j,I t N g fk (cA b) e B j P,G⟩);have s:g∈(F.take N).reverse:=by
  rw[ci];refine aC.mpr ⟨t,?_⟩;rw[b0,ax b];exact e
 have v:c.has fk.sd.picked k:=(C.sub g s).2.2 k x;have i:¬g.part=fk.part:=λz=>a ⟨k,v,by rw[o,z]⟩;rcases p.rule with ⟨w,H⟩ | r | r
 ·exfalso;rcases Nat.lt_trichotomy (c.start.idxOf g.part) (c.start.idxOf fk.part) with z | z | z
  ·exact J (el.L0.mpr ⟨O,by rw[o];exact si w z⟩)
  ·exact i (Cv w m z)
  ·exact a (up _ (H fk.part m z))
 ·intro j K l;by_cases hd:c.has g.sd.dead j
  ·exact .inl hd
  ·exact .inr (r j k K Q l o hd E)
 ·exact absurd (up _ (r fk.part m)) a
theorem Cj {c:el}{pk:Nat}{e:Nat×Rs}(g:gQ c L)(b:kM c.es c.sn (c.listed pk))(d:e∈L)(h:∀j,c.has e.1 j->c.has pk j):False:=by
 obtain⟨i,m⟩:=aC.mp d;refine Dc (ls:=c.lns L) (λi l a=>?_) b i (c.ln e) ?_ λp hp=>el.Kx.mpr (h p (el.Kx.mp hp))
 ·unfold el.lns at a;rw[ae]at a;obtain⟨x,o,rfl⟩:=az.mp a;exact g.good i x o
 ·unfold el.lns;rw[ae,m];rfl
end
section
seal mj PS PE PT PA
def qV (H:Hp)(O:List Addr)(A:List (Addr×Addr))(H':Hp)(O':List Addr):Prop:=∀b u,H b=some u->b∉O->b∉A.map (·.2)->(H' b=some u\/(C7 u/\∃o,H' b=some (.frz o u)))/\b∉O'
theorem iK.frx {G H G' H':Hp}{O O':List Addr}{A:List (Addr×Addr)}(g:iK G H O G' H' O'):qV H O A H' O':=λb u h n _=>⟨g.fr b u (by rw[eE n];exact h),g.out n h⟩
theorem qV.trans {H H1 H2:Hp}{O O1 O2:List Addr}{A:List (Addr×Addr)}(a:qV H O A H1 O1)(b:qV H1 O1 A H2 O2):qV H O A H2 O2:=λx u h n m=>by
 obtain⟨z,y⟩:=a x u h n m;rcases z with z | ⟨z1,o,z2⟩
 ·exact b x u z y m
 ·obtain⟨w1,w2⟩:=b x _ z2 y m;refine⟨.inr ⟨z1,o,?_⟩,w2⟩;rcases w1 with w | ⟨w,_⟩
  ·exact w
  ·exact w.elim
inductive vS (CB CC CL CS CF CT:Addr)(vs:List V)(H:Hp)(Q:VK)(E:XK):Prop
 |mk (G:Hp)(p ch le fl sl:Addr)(c:el)(L:ir)(O:List Addr)(A:List (Addr×Addr))(F:List Fk)(N:Nat)(fk:Fk)(d:Sd)(v:V)(k:Pk)(_:vs=[.ref p,v,.int (c.LZ d.picked fk.part:Nat),.ref sl])(_:SS CB CC CL CS CF CT G H p ch le fl c L O A F)(_:fg G v k)(_:F[N]?=some fk)(_:k∈c.ks)(_:k.1=fk.part)(_:c.has fk.sd.dead k)(_:fk.part∈c.start)(_:fL c L F.reverse d)(_:kM c.es c.sn (c.listed d.picked))(_:¬c.has d.picked k)(_:H sl=some (.lst ((A.take N).map λa=>V.ref a.1)))(_:sl∉O)(_:∀(G' H':Hp) (L':ir) (O':List Addr) (e:Nat×Rs),eD G G'->qV H O A H' O'->SS CB CC CL CS CF CT G' H' p ch le fl c L' O' A (F.map (c.KW k e.1))->(∃X,L'=L++X)->e∈L'->(∀j,c.has e.1 j->j=k\/c.has (c.LZ d.picked fk.part) j)->fL c L' (F.map (c.KW k e.1)).reverse (c.KU k e.1 d)->Q .non H')
section
variable {P:Program}{w:World}{K:W.Frag}{mg:Str->Option Value}{base:Heap}{f:Addr}{fd:FuncData}
theorem BD:eM ["self","pick","kept","forks","place","fork"] ["self","pick","kept","forks"] (eB uO):=i4
theorem zV {CB CC CL CS CF CT:Addr}(F:iL K "show_barred" "Search.show_barred" uO f fd)(T:tE K mg CS)(cy:TC K mg CC)(bq:TL K mg CL)(TF:Bc K mg CF)(MA:Mt P w K mg base CS fB 4 "line_against" ["self","pick"] (pZ CB CC CL CS CF CT))(MS:Mt P w K mg base CS fB 5 "shut" ["self","fork","known"] (wY CB CC CL CS CF CT))(MM:Mt P w K mg base CS fB 1 "mark_dead" ["self","bit","place"] (w6 CB CC CL CS CF CT)):fi P w K mg base fB 6 f fd ["self","pick","kept","forks"] (vS CB CC CL CS CF CT):=by
 refine F.ok BD λew A ec s H vs Q E hr h=>?_;obtain⟨G,p,ch,le,fl,sl,c,L,O,AA,FF,N,fk,d,v,k,rfl,l,hv,hN,hk,c4,M,c9,C,co,cz,ba,an,q⟩:=h;have hu:=gB hr;refine⟨_,(ee (eJ (i:=4) BD.nd (il MA (hr.mono (by decide:4<=5)) fE (pv 0) (dZ (pv 1) eg))) (ee (fG (DY rfl T.rev (pv 3)) (eL (i:=5) BD.nd) (eo (fz (uX (fe ic (fe ic (eG fc (eK bq.cl bq.nMa (eK T.cl T.nLe (pv 0))) (pv 4)) (eK TF.cl TF.nBi (pv 5))) (jb kS (pv 2))) (λ_=>rfl)) (eo (eJ (i:=4) BD.nd (il MS hr fE (pv 0) (dZ (pv 5) (dZ (BT (tV (eK TF.cl TF.nBi (pv 5)) (pv 4) ww) rfl rfl (by intro z;cases z) (by decide)) eg))))) eP))) (eo (gm (il MM (hr.mono (by decide:1<=5)) fE (pv 0) (dZ (eY hu (eK cy.cl cy.nBits (eK T.cl T.nCh (pv 0))) (pv 1)) (dZ (pv 4) eg))))))),?_⟩;obtain⟨dx,hp⟩:=l.se.self;have dy:=l.se.gh.ins hp;have I:p3 c FF:=by
  have b6:=C.mono ⟨fk.part,d,none⟩ rfl;rw[cX]at b6;intro i i' f f' hi h1 h2;refine b6 i i' f f' hi ?_ ?_
  ·rw[aQ (af.mp h1).1];exact h1
  ·rw[aQ (af.mp h2).1];exact h2
 have a8:∀f∈FF,iN c L f.sd:=λf hf=>(C.fks f (ci.mpr hf)).2;have ag:FF.length<=64:=by
  have:=C.depth;rw[cf]at this;have:=l.se.n
  lia
 obtain⟨cn,dn⟩:=jK C hN;have ah:¬c.isP fk.sd.picked k.1:=by rw[c4];exact dn.out cn.sd
 have e0:N<FF.length:=(af.mp hN).1;have lA:AA.length=FF.length:=Paired.length l.fk.p;have U:=ai hN;have cs:∀j,c.has fk.sd.picked j->c.has d.picked j:=(C.sub fk (ci.mpr U)).1;have d8:∀a b,(a=k\/c.has fk.sd.picked a)->(b=k\/c.has fk.sd.picked b)->a.1=b.1->a=b:=λa b h1 h2 e=>by
  rcases h1 with rfl | h1 <;> rcases h2 with rfl | h2
  ·rfl
  ·exact absurd ⟨b,h2,e.symm⟩ ah
  ·exact absurd ⟨a,h1,e⟩ ah
  ·exact cn.sd.one a b h1 h2 e
 refine⟨_,rfl,p,dx,_,rfl,dy,(by kernel_rfl),_,rfl,G,p,ch,le,fl,c,L,O,AA,FF,v,k,rfl,l.se,l.led,l.ok,l.fk,hv,hk,I,a8,⟨fk,U,M,ah⟩,ag,?_⟩;intro G1 H1 O1 L1 j1 e1 bd da cv c0 c6 a2 _;have ct:=bd.keep an ba λz=>z;have ek:=bd.out an ba;refine⟨_,rfl,sl,_,rfl,eX.of ct,?_⟩;refine CD (K:=K) (a:=sl) (xs:=(AA.take N).map λa=>V.ref a.1) (λi σ H2=>∃(G2:Hp) (O2:List Addr) (Z:ir) (j:Nat) (e:Nat×Rs) (o5:Option V),σ=[some (.ref p),some v,some (.int (c.LZ d.picked fk.part:Nat)),some (.ref sl),some (.int (j:Nat)),o5]/\iK G H O G2 H2 O2/\gy CL G2 H2 le ch c Z O2/\gQ c Z/\(∃X,Z=L++X)/\Z[j]?=some e/\(∀x,c.has e.1 x->x=k\/c.has fk.sd.picked x)/\(∀g,FF[N-i]?=some g->∀x,c.has e.1 x->x=k\/c.has (c.LZ d.picked fk.part) x\/c.has g.sd.picked x))
  ⟨G1,O1,L1,j1,e1,none,rfl,bd,da,cv,c0,c6,λx hx=>a2.2 fk U M x hx,λg hg x hx=>?_⟩ ((by rintro i σ H2 _ ⟨_,_,_,_,_,_,_,o,_⟩;exact eX.of (o.keep an ba λz=>z))) ?_ ?_
 ·rw[Nat.sub_zero,hN]at hg;cases hg;exact(a2.2 fk U M x hx).imp id .inr
 ·rintro i x σ H2 eh hi ⟨G2,O2,Z,j,e,o5,rfl,o,D,t,aa,R,a3,J⟩;rw[ab,aT]at eh hi;have ev:i<N:=by lia
  have bx:min N AA.length=N:=by lia
  rw[bx,ae,b0]at hi
  rw[ax (by lia)]at hi;obtain⟨a,ha,rfl⟩:=az.mp hi;have a4:=l.fk.grow o l.sep;have r:=yD.grow l.fk o l.sep;obtain⟨g,hg,⟨fx,a5⟩,ej⟩:=Paired.Kq a4.p ha;obtain⟨g',hg'⟩:∃g',FF[N-i]?=some g':=⟨FF[N-i]'(by lia),ak _⟩;have bm:N-1-i+1=N-i:=by lia
  obtain⟨S,b1,b2,b3,b4,b5⟩:=Cp C hg (by rw[bm];exact hg');have ed:c.Ks g.bit=c.bit S:=by rw[b1];rfl
  rw[ed]at a5;have as:=l.se.grow o.gg o.gh;have al:=o.gh.ins (o.gg.ins hp);obtain⟨lx,ma,re,pm,pp,es,rs,Ol,hO,dd,eb,c3⟩:=id D.ex;have c7:(Z.map (·.1))[j]?=some e.1:=by rw[ae,R];rfl
  have c5:=t.lt e (ai R);refine⟨_,rfl,p,dx,_,V.ref le,rfl,al,(by kernel_rfl),le,lx,_,V.ref ma,rfl,o.gh.ins dd,(by kernel_rfl),_,rfl,ma,_,_,_,rfl,rfl,eX.of eb,kr c7,_,rfl,a.1,fx,_,V.int (c.bit S:Nat),rfl,a5,(by kernel_rfl),_,_,rfl,rfl,_,rfl,_,rfl,_,_,rfl,rfl,_,rfl,?_⟩;dsimp only;rw[nz,qo,pH];have hX:∀y,c.has (iq (e.1 &&& c.bit S) (c.LZ d.picked fk.part)) y↔(c.has e.1 y/\y=S)/\¬c.has (c.LZ d.picked fk.part) y:=λy=>by rw[el.KA,el.Kz,el.KB b2]
  have b9:∀y,c.has g.sd.picked y->c.has fk.sd.picked y:=I (N-1-i) N g fk (by lia) hg hN;have ap:N-(i+1)=N-1-i:=by lia
  by_cases hc0:iq (e.1 &&& c.bit S) (c.LZ d.picked fk.part)=0
  ·rw[aq hc0];refine ff ⟨G2,O2,Z,j,e,_,rfl,o,D,t,aa,R,a3,λg2 a1 y B=>?_⟩;rw[ap,hg]at a1;cases a1;rcases J g' hg' y B with z | z | z
   ·exact .inl z
   ·exact .inr (.inl z)
   ·rw[b4]at z;rcases el.Ky.mp z with u | u
    ·exact .inr (.inr u)
    ·have ei:=(el.KB b2).mp u;refine .inr (.inl (Classical.byContradiction λnk=>?_));have:=(hX y).mpr ⟨⟨B,ei⟩,nk⟩;rw[hc0]at this;exact el.KC this
  ·rw[au hc0];refine gW ?_;have b8:c.has e.1 S/\¬c.has (c.LZ d.picked fk.part) S:=by
    refine Classical.byContradiction λnk=>hc0 (el.KF (jJ (nB c5)) λy B=>?_);obtain⟨⟨z1,z2⟩,z3⟩:=(hX y).mp B;rw[z2]at z1 z3;exact nk ⟨z1,z3⟩
   refine⟨_,rfl,p,dx,_,rfl,al,(by kernel_rfl),_,rfl,λkd M=>?_⟩;have ea:a.1≠kd:=et a5 M;refine⟨_,rfl,a.1,fx,_,V.int (c.bit S:Nat),rfl,(by rw[ef ea];exact a5),(by kernel_rfl),_,rfl,d0,[(Sum.inl (c.bit S:Int),V.int (j:Nat))],rfl,(by show 1<=15;decide),?_⟩;rw[i6];have s3:=eA M (.dK (iJ [] [(Sum.inl (c.bit S:Int),V.int (j:Nat))]));have dp:upd H2 kd (.dK (iJ [] [(Sum.inl (c.bit S:Int),V.int (j:Nat))])) kd=some (.dK [(Sum.inl (c.bit S:Int),V.int (j:Nat))]):=d0;generalize upd H2 kd (.dK (iJ [] [(Sum.inl (c.bit S:Int),V.int (j:Nat))]))=H3 at *;have bv:=iK.same (O:=O2) o.gh s3;have dv:kd∉O2:=λz=>by obtain⟨u,ad⟩:=D.liv kd z;rw[M]at ad;cases ad
   have bf:=a4.grow bv r;have bl:∀x∈L,x∈Z:=λx hx=>by obtain⟨X,hX⟩:=aa;rw[hX];exact aP _ hx
   refine⟨G2,p,ch,le,fl,c,Z,O2,AA,FF,N-1-i,a,g,kd,_,some (S,j,e.1),rfl,as.same s3,D.same s3,t,bf,r,I,λf hf=>(a8 f hf).led bl,ag,ha,hg,(jK C hg).2.open_,.inl dp,dv,⟨b2,rfl,e,R,rfl⟩,λy B d7=>?_,λm hm=>?_,?_⟩
   ·rcases xB C I hN hg (by lia) c9 b1 b8.2 y B d7 with z | z
    ·exact .inl z
    ·exact .inr ⟨j,e.1,by rw[z]⟩
   ·have cx:∀y,c.has m y->y=k\/c.has fk.sd.picked y:=λy B=>by
     rcases hm y B with z | ⟨k0,j0,m0,z1,z2,z3⟩
     ·exact .inr (b9 y z)
     ·cases z1;exact a3 y z2
    exact λy1 y2 h1 h2 e=>d8 y1 y2 (cx y1 h1) (cx y2 h2) e
   intro G4 H4 O4 L4 j' e' d6 c1 b7 dc d9 a9 _;have dl:∃X,L4=L++X:=by
    obtain⟨X,hX⟩:=aa;obtain⟨Y,hY⟩:=dc;exact⟨X++Y,by rw[hY,hX,bH]⟩
   refine⟨G4,O4,L4,j',e',_,rfl,o.trans (bv.trans d6),c1,b7,dl,d9,λy B=>?_,λg2 a1 y B=>?_⟩
   ·rcases a9 y B with z | ⟨k0,j0,m0,z1,z2,z3⟩
    ·exact .inr (b9 y z)
    ·cases z1;exact a3 y z2
   ·rw[ap,hg]at a1;cases a1;rcases a9 y B with z | ⟨k0,j0,m0,z1,z2,z3⟩
    ·exact .inr (.inr z)
    ·cases z1;rcases J g' hg' y z2 with z | z | z
     ·exact .inl z
     ·exact .inr (.inl z)
     ·rw[b4]at z;rcases el.Ky.mp z with u | u
      ·exact .inr (.inr u)
      ·exact absurd ((el.KB b2).mp u) z3
 ·rintro σ H2 ⟨G2,O2,Z,j,e,o5,rfl,o,D,t,aa,R,a3,J⟩;rw[ab,aT,show min N AA.length=N by lia,bQ]at J;obtain⟨g0,hg0⟩:∃g0,FF[0]?=some g0:=⟨FF[0]'(by lia),ak _⟩;have c8:g0.sd.picked=0:=by
   have h0:=(jK C hg0).1;rw[cZ,List.reverse_nil]at h0;cases h0 with
   |nil h1 _=>exact h1
  have cp:∀y,c.has e.1 y->y=k\/c.has (c.LZ d.picked fk.part) y:=λy B=>by
   rcases J g0 hg0 y B with z | z | z
   ·exact .inl z
   ·exact .inr z
   ·rw[c8]at z;exact(el.KC z).elim
  have a6:=ai R;have ds:c.has e.1 k:=Classical.byContradiction λnk=>Cj t co a6 λy B=>by
   rcases a3 y B with z | z
   ·rw[z]at B;exact absurd B nk
   ·exact cs y z
  have as:=l.se.grow o.gg o.gh;have a4:=l.fk.grow o l.sep;have r:=yD.grow l.fk o l.sep;have al:=o.gh.ins (o.gg.ins hp);obtain⟨gx,gb,a0,eq,eu,ey,ep,ez,em,d1,d2,d3,d4,d5⟩:=as.chart.ex;refine⟨_,rfl,p,dx,_,rfl,al,(by kernel_rfl),_,rfl,p,dx,_,V.ref ch,rfl,al,(by kernel_rfl),ch,gx,_,V.ref a0,rfl,o.gh.ins d1,(by kernel_rfl),_,rfl,a0,_,rfl,(d4.f o.gh).get (w:=some k) (gE hk) (fg.f o.gh (fg.f o.gg hv)),_,rfl,G2,p,ch,le,fl,c,Z,O2,AA,FF,k,j,e,rfl,as,D,a4,R,ag,λH3 s3 bf=>?_⟩;have a7:∀{x},x∈AA.map (·.2)->G2 x=none/\x∉O2:=λ{x} hx=>by
   obtain⟨a,ha,rfl⟩:=aw.mp hx;exact⟨(a4.off a ha).2,(r.2 a ha).2⟩
  have g3:eD G2 H3:=iy o.gh (λx hx=>(a7 hx).1) s3.toF;have c2:gy CL G2 H3 le ch c Z O2:=D.grow (eD.refl _) D.off λy B=>by
   obtain⟨u,ad⟩:=D.liv y B;rw[s3 y u (by rw[eE (λz=>(a7 z).2 B)];exact ad),ad]
  have cd:=(C.led (L':=Z) λx hx=>by obtain⟨X,hX⟩:=aa;rw[hX];exact aP _ hx).KW hk a6 (t.lt e a6) ds cz;refine q G2 H3 Z O2 e o.gg (o.frx.trans λb u hb n m=>⟨.inl (s3 b u (by rw[eE m];exact hb)),n⟩) ⟨as.grow (eD.refl _) g3,c2,t,bf,r⟩ aa a6 cp ?_;rw[<-List.map_reverse];exact cd
end
end
section
variable {i:Nat}
def el.firstM (c:el)(pk:Nat)(i:Nat):Nat:=c.maskOf λk=>decide (c.has pk k)&&decide (k.1∈c.start.take i)
theorem el.L7 (c:el)(pk:Nat)(x:Str):c.LZ pk x=c.firstM pk (c.start.idxOf x):=rfl
theorem el.Ma (c:el)(pk:Nat):c.firstM pk 0=0:=el.KF (c.KK _) λk h=>by
 have:=(el.KJ.mp h).2;simp at this
theorem el.Mb {c:el}{pk:Nat}{x:Str}(h:c.start[i]?=some x):c.firstM pk (i+1)=c.firstM pk i ||| (c.Lf x &&& pk):=by
 refine el.ext (c.KK _) (jo (c.KK _) (nB (c.KK _))) λk=>?_;rw[el.Ky,el.Kz,el.Lj];unfold el.firstM;rw[aX,h];simp only[el.KJ,aH,aB,aD,Option.toList_some,aj]
 constructor
 ·rintro⟨a,b,h3 | h3⟩
  ·exact .inl ⟨a,b,h3⟩
  ·exact .inr ⟨⟨a,h3⟩,b⟩
 ·rintro(⟨a,b,h3⟩ | ⟨⟨a,h3⟩,b⟩)
  ·exact⟨a,b,.inl h3⟩
  ·exact⟨a,b,.inr h3⟩
theorem Ev {α:Type} [DecidableEq α] {l:List α}(hn:l.Nodup){x:α}(h:l[i]?=some x):l.idxOf x=i:=by
 have d:=ai h;have a:=bC.mpr d;have b:=cm a;obtain⟨g,e⟩:=af.mp h;exact(List.getElem_inj hn).mp (b.trans e.symm)
def qd (f:Fk):Str×Option Pk:=(f.part,f.bit)
theorem Bx (c:el)(k:Pk)(m:Nat)(F:List Fk):(F.map (c.KW k m)).map qd=F.map qd:=by
 rw[cC];rfl
theorem yY {F F':List Fk}(h:F'.map qd=F.map qd){f:Fk}(d:F[i]?=some f):∃f',F'[i]?=some f'/\f'.part=f.part/\f'.bit=f.bit:=by
 have a:(F'.map qd)[i]?=some (qd f):=by rw[h,ae,d];rfl
 rw[ae]at a;obtain⟨f',e,b⟩:=az.mp a;exact⟨f',e,congrArg (·.1) b,congrArg (·.2) b⟩
end
section
seal mj PS PE PT PA
variable {A:List (Addr×Addr)}{CB CC CF CT PP a b:Addr}{H H':Hp}{K:W.Frag}{O O':List Addr}{P:Program}{fd:FuncData}{mg:Str->Option Value}{w:World}
def Dq (c:el)(L:ir)(pk:Nat)(f:Fk):Prop:=f.part∈c.start->∀k,f.bit=some k->∀n,(c.needs none)[((c.needs none).map (·.1)).idxOf f.part]?=some n->∀kk∈c.LY n k,∃e∈L,∀j,c.has e.1 j->j=kk\/c.has (c.LZ pk f.part) j
inductive vR (CB CC CL CS CF CT:Addr)(vs:List V)(H:Hp)(Q:VK)(E:XK):Prop
 |mk (G:Hp)(p ch le fl:Addr)(c:el)(L:ir)(O:List Addr)(A:List (Addr×Addr))(F:List Fk)(d:Sd)(_:vs=[.ref p,.int (d.picked:Nat)])(_:SS CB CC CL CS CF CT G H p ch le fl c L O A F)(_:fL c L F.reverse d)(_:kM c.es c.sn (c.listed d.picked))(_:∀(G' H':Hp) (L':ir) (O':List Addr) (F':List Fk),eD G G'->qV H O A H' O'->SS CB CC CL CS CF CT G' H' p ch le fl c L' O' A F'->(∀f∈F,Dq c L' d.picked f)->Q .non H')
theorem qV.refl (H:Hp)(O:List Addr)(A:List (Addr×Addr)):qV H O A H O:=λb u h n _=>⟨.inl h,n⟩
theorem qV.rd (g:qV H O A H' O'){u:HO}(h:Rd H b u)(n:b∉O)(m:b∉A.map (·.2)):Rd H' b u:=by
 rcases h with h | ⟨o,h⟩
 ·rcases (g b u h n m).1 with z | ⟨_,o,z⟩
  ·exact .inl z
  ·exact .inr ⟨o,z⟩
 ·rcases (g b _ h n m).1 with z | ⟨z,_⟩
  ·exact .inr ⟨o,z⟩
  ·exact z.elim
theorem qV.no (g:qV H O A H' O'){u:HO}(h:H b=some u)(n:b∉O)(m:b∉A.map (·.2))(f:¬C7 u):H' b=some u:=(g b u h n m).1.resolve_right λz=>f z.1
theorem AO {xs:List V}{n:Nat}(h:n<=xs.length):pQ xs none (some (n:Int))=xs.take n:=by
 unfold pQ;rw[HT.zf,HT.wt,List.drop_zero,Nat.sub_zero,Nat.min_eq_left h]
section
variable {base:Heap}{f:Addr}
theorem tM:eM ["self","picked","ahead","mask","part","number","fork","pick"] ["self","picked"] (eB uN):=i4
theorem zU {CL CS:Addr}(F:iL K "show_newest" "Search.show_newest" uN f fd)(T:tE K mg CS)(a9:TC K mg CC)(TF:Bc K mg CF)(MN:Mt P w K mg base CS fB 3 "newer_picks" ["self","fork"] (vT CB CC CS CF CT))(MB:Mt P w K mg base CS fB 6 "show_barred" ["self","pick","kept","forks"] (vS CB CC CL CS CF CT)):fi P w K mg base fB 7 f fd ["self","picked"] (vR CB CC CL CS CF CT):=by
 refine F.ok tM λhe A fo s H vs Q E hr h=>?_;obtain⟨G,p,ch,le,fl,c,L,O,J,FF,d,rfl,o,gk,bm,q⟩:=h;have hu:=gB hr;refine⟨_,(ee (eJ (i:=2) tM.nd gY) (ee (eJ (i:=3) tM.nd er) (ee (fG (zw (eY hu (eK a9.cl a9.nAl (eK T.cl T.nCh (pv 0))) iH)) (eL (i:=4) tM.nd) (ee (iD hu (pv 2) (pv 4) (pv 3) rfl) (eo (kH (i:=3) tM.nd (fe ic (gN hu (eK a9.cl a9.nOf (eK T.cl T.nCh (pv 0))) (pv 4)) (pv 1)) ud)))) (eo (fG (wx rfl T.enum (eK T.cl T.nFo (pv 0))) (lc (n:=2) rfl (gj (eL (i:=5) tM.nd) (gj (eL (i:=6) tM.nd) jT))) (eo (fz (hJ (mU hu (eK TF.cl TF.nPa (pv 6)) (pv 2))) (eo (fG (fD (il MN (hr.mono (by decide:3<=6)) fE (pv 0) (dZ (pv 6) eg))) (eL (i:=7) tM.nd) (eo (gm (il MB hr fE (pv 0) (dZ (pv 7) (dZ (gN hu (pv 2) (eK TF.cl TF.nPa (pv 6))) (dZ (mw nZ (eK T.cl T.nFo (pv 0)) rT (mo (pv 5))) eg)))))))) eP))))))),?_⟩;obtain⟨dx,hp⟩:=o.se.self;have e7:=o.se.gh.ins hp;obtain⟨gx,gb,fa,g9,d9,c9,g5,g7,g8,d1,d2,d3,d4,d5,d6,d7,d8⟩:=o.se.chart.ex;have lA:J.length=FF.length:=Paired.length o.fk.p;intro m a2;have s1:=eA a2 (.dK []);have bl:upd H m (.dK []) m=some (.dK []):=d0;generalize upd H m (.dK [])=H1 at *;have g1:eD G H1:=o.se.gh.trans s1.toF;have c5:G m=none:=o.se.gh.free a2;obtain⟨da,e1,oa,a1,e2,e3,e4⟩:=(d7.f g1).get (w:=none) jj rfl;have e6:da≠m:=fh e2 bl λz=>nomatch z;have la:a1.length=c.start.length:=by
  have:=congrArg List.length e3;rw[ab,ab]at this;exact this
 have hc:c.start.length<=100:=bz (mV _) (o.se.nds none);refine⟨_,rfl,p,dx,_,V.ref ch,rfl,g1.ins hp,(by kernel_rfl),ch,gx,_,V.ref c9,rfl,g1.ins d1,(by kernel_rfl),c9,_,rfl,e1,da,oa,a1,rfl,e2,?_⟩;refine sB (kvs:=a1) (λi σ H2=>∃kvs o4,σ=[some (.ref p),some (.int (d.picked:Nat)),some (.ref m),some (.int (c.firstM d.picked i:Nat)),o4,none,none,none]/\H2 m=some (.dK kvs)/\(∀b,b≠m->H2 b=H1 b)/\kvs.map (·.1)=(c.start.take i).map Sum.inr/\∀x∈c.start.take i,eV kvs (Sum.inr x)=some (.int (c.LZ d.picked x:Nat)))
  ⟨[],none,by rw[el.Ma];rfl,bl,λ_ _=>rfl,by simp,λx hx=>by simp at hx⟩ (by
   rintro i σ H2 _ ⟨_,_,_,_,e,_⟩;rw[e da e6]
   exact e2) ?_ ?_
 ·rintro i kv σ H2 hi ⟨kvs,o4,rfl,as,a7,B,a3⟩;have ap:(a1.map (·.1))[i]?=some kv.1:=by rw[ae,hi];rfl
  rw[e3,ae]at ap;obtain⟨x,hx,ex⟩:=az.mp ap;rw[<-ex];have N:c.start[i]?=some x:=hx;have ga:=ai N;have dd:i<100:=by have:=(af.mp N).1;lia
  have ec:c.start.idxOf x=i:=Ev (jm _) N;have lk:kvs.length<=i:=by
   have:=congrArg List.length B;rw[ab,ab,aT]at this
   lia
  have g2:eD G H2:=λb u e=>by
   have nb:b≠m:=λz=>by rw[z,c5]at e;cases e
   rw[a7 b nb];exact g1 b u e
  have eu:=pz (jm _) N;have gn:eV kvs (Sum.inr x)=none:=by
   cases hq:eV kvs (Sum.inr x) with
   |none=>rfl
   |some u=>
    have:=iP hq;rw[B]at this;obtain⟨y,hy,e⟩:=aw.mp this;rw[Sum.inr.inj e]at hy;exact absurd hy eu
  refine⟨_,rfl,_,rfl,_,rfl,m,_,rfl,kP.k (k:=Sum.inr x) as (eO (by lia)),?_⟩;have eh:∀b,b≠m->upd H2 m (.dK (fm kvs (Sum.inr x) (.int (c.firstM d.picked i:Nat)))) b=H1 b:=λb hb=>by rw[ef hb];exact a7 b hb
  have g3:eD G (upd H2 m (.dK (fm kvs (Sum.inr x) (.int (c.firstM d.picked i:Nat))))):=g2.upd c5;have f1:upd H2 m (.dK (fm kvs (Sum.inr x) (.int (c.firstM d.picked i:Nat)))) m=some (.dK (fm kvs (Sum.inr x) (.int (c.firstM d.picked i:Nat)))):=d0;generalize upd H2 m (.dK (fm kvs (Sum.inr x) (.int (c.firstM d.picked i:Nat))))=H3 at *;obtain⟨ez,eq,es⟩:=d6.f g3;have go:∃k∈c.ks,k.1=x:=by
   obtain⟨n,hn,ev⟩:=hZ.mp ga;obtain⟨j,f4,fr,_⟩:=bm.met none (λk z=>nomatch z) n hn;exact⟨j,(el.Kx.mp f4).1,fr.trans ev⟩
  refine⟨_,rfl,_,rfl,p,dx,_,V.ref ch,rfl,g3.ins hp,(by kernel_rfl),ch,gx,_,V.ref d9,rfl,g3.ins d1,(by kernel_rfl),_,rfl,d9,_,rfl,.inl ⟨ez,Sum.inr x,eq,rfl,((es x).2 go).symm⟩,_,rfl,_,_,rfl,rfl,_,_,rfl,rfl,?_⟩;refine⟨_,some (.str x),?_,f1,eh,?_,λy hy=>?_⟩
  ·rw[nz,wT,el.Mb N];rfl
  ·rw[ii _ gn,ay,B,fH N,ay];rfl
  ·rw[gi];by_cases ey:y=x
   ·subst ey;rw[ax rfl,el.L7,ec]
   ·rw[av (λz=>ey (Sum.inr.inj z))];rw[fH N]at hy;exact a3 y ((aD.mp hy).elim id λz=>absurd (aj.mp z) ey)
 ·rintro σ H2 ⟨kvs,o4,rfl,as,a7,B,a3⟩;rw[la,aI]at B a3;have cz:eF H H2:=λb u e=>by rw[a7 b (et e a2)];exact s1 _ _ e
  have ds:=iK.same (O:=O) o.se.gh cz;have S2:=o.grow ds (o.led.same cz) o.ok;have ba:m∉O:=λz=>by obtain⟨u,r⟩:=o.led.liv m z;rw[a2]at r;cases r
  have b7:∀{G3 H3 F3},jc CF CT G3 H3 c fl J F3->∀{x},x∈J.map (·.2)->∃C dy fs,H3 x=some (.ins C dy fs):=λ{G3 H3 F3} hF3 {x} hx=>by
   obtain⟨a,ha,rfl⟩:=aw.mp hx;obtain⟨t,ht⟩:=aC.mp ha;obtain⟨fk,_,_,sx,wa,e0,_⟩:=Paired.Kq hF3.p ht;exact⟨_,_,_,e0⟩
  have Z:m∉J.map (·.2):=λz=>by obtain⟨C,dy,fs,h⟩:=b7 S2.fk z;rw[as]at h;cases h
  have bv:∀x,eV kvs (Sum.inr x)=if x∈c.start then some (.int (c.LZ d.picked x:Nat)) else none:=λx=>by
   by_cases hx:x∈c.start
   ·rw[ax hx];exact a3 x hx
   ·rw[av hx];cases hq:eV kvs (Sum.inr x) with
    |none=>rfl
    |some u=>
     have:=iP hq;rw[B]at this;obtain⟨y,hy,e⟩:=aw.mp this;rw[Sum.inr.inj e]at hy;exact absurd hy hx
  have f7:=cz _ _ e7;refine⟨_,rfl,p,dx,_,V.ref fl,rfl,f7,(by kernel_rfl),fl,_,rfl,S2.fk.l,?_⟩;refine uh (K:=K) (a:=fl) (xs:=J.map λa=>V.ref a.1) (λi σ H3=>∃(G3:Hp) (L3:ir) (O3:List Addr) (F3:List Fk) (d3:Sd) (o3 o4 o5 o6 o7:Option V),σ=[some (.ref p),some (.int (d.picked:Nat)),some (.ref m),o3,o4,o5,o6,o7]/\eD G G3/\qV H2 O J H3 O3/\SS CB CC CL CS CF CT G3 H3 p ch le fl c L3 O3 J F3/\F3.map qd=FF.map qd/\fL c L3 F3.reverse d3/\d3.picked=d.picked/\∀i'<i,∀f,FF[i']?=some f->Dq c L3 d.picked f)
   ⟨G,L,O,FF,d,_,_,_,_,_,rfl,eD.refl _,qV.refl _ _ _,S2,rfl,gk,rfl,λi' cs=>absurd cs (bY _)⟩ (by rintro i σ H3 _ ⟨_,_,_,_,_,_,_,_,_,_,_,_,_,S,_⟩;exact eX.of S.fk.l) ?_ ?_
  ·rintro i x σ H3 t hi ⟨G3,L3,O3,F3,d3,o3,o4,o5,o6,o7,rfl,an,cn,S3,U,ah,cp,g⟩ ht;rw[ae]at hi;obtain⟨a,ha,rfl⟩:=az.mp hi;obtain⟨f3,cv,g4⟩:=Paired.Kq S3.fk.p ha;obtain⟨f0,co,ag,bf⟩:=yY U.symm cv;have s4:=eA ht (.tup [.int (i:Nat),.ref a.1]);have gt:upd H3 t (.tup [.int (i:Nat),.ref a.1]) t=some (.tup [.int (i:Nat),.ref a.1]):=d0;generalize upd H3 t (.tup [.int (i:Nat),.ref a.1])=H4 at *;have dc:=iK.same (O:=O3) S3.se.gh s4;have S4:=S3.grow dc (S3.led.same s4) S3.ok;have a6:qV H2 O J H4 O3:=cn.trans dc.frx;obtain⟨⟨fx,hfa⟩,hstA⟩:mM CF CT G3 H4 c a f3:=by
    obtain⟨e9,z1,z2⟩:=Paired.Kq S4.fk.p ha;rw[cv]at z1;cases z1;exact z2
   have bx:Rd H4 m (.dK kvs):=a6.rd (.inl as) ba Z;have b6:m∉O3:=(a6 m _ as ba Z).2;refine⟨t,_,rfl,gs.of gt,rfl,_,_,rfl,_,_,rfl,rfl,?_⟩;refine⟨_,rfl,a.1,fx,_,V.str f3.part,rfl,hfa,(by kernel_rfl),_,rfl,m,_,rfl,.inl ⟨kvs,Sum.inr f3.part,bx,rfl,rfl⟩,_,rfl,?_⟩;rw[bv f3.part];by_cases hps:f3.part∈c.start
   ·rw[ax hps];refine gW ?_;obtain⟨k,b1,b2,b3,b4,b5⟩:=vL ah (ai cv);have ej:=S4.se.gh.ins (an.ins hp);have a4:f3.part∈(c.needs none).map (·.1):=jh.mp hps;refine⟨_,rfl,p,dx,_,rfl,ej,(by kernel_rfl),_,rfl,G3,p,ch,le,fl,c,O3,a,f3,k,rfl,S4.se,⟨⟨fx,hfa⟩,hstA⟩,b1,b2,b3,a4,S4.led.liv,λG5 H5 l xs n R fu hl g6 cd fv gp ea=>?_⟩;have f9:gy CL G5 H5 le ch c L3 O3:=S4.led.grow R.gg (λy hy=>by obtain⟨u,r⟩:=S4.led.liv y hy;exact R.off (S4.led.off y hy) r) fu;have S5:=S4.grow R f9 S4.ok;have ek:l∉O3:=λz=>by obtain⟨u,r⟩:=S4.led.liv l z;rw[hl]at r;cases r
    have ei:l∉J.map (·.2):=λz=>by obtain⟨C,dy,fs,h⟩:=b7 S5.fk z;rw[cd]at h;cases h
    refine⟨l,rfl,⟨_,eX.of cd⟩,?_⟩;have lx:=Paired.length ea;have ed:∀M∈c.LY n k,M∈c.ks/\M.1=f3.part/\k.2<M.2:=λM B=>by
     obtain⟨v,f5,rfl⟩:=aw.mp B;obtain⟨ew,gd⟩:=aZ.mp f5;refine⟨(c.mem _).mpr ?_,b3,aV gd⟩;have:=(sj.mp ew).1;rw[gp,<-b3]at this;exact this
    refine fQ (K:=K) (a:=l) (xs:=xs) (λj σ H6=>∃(G6:Hp) (L6:ir) (O6:List Addr) (F6:List Fk) (d6:Sd) (o7:Option V),σ=[some (.ref p),some (.int (d.picked:Nat)),some (.ref m),o3,o4,some (.int (i:Nat)),some (.ref a.1),o7]/\eD G5 G6/\qV H5 O3 J H6 O6/\SS CB CC CL CS CF CT G6 H6 p ch le fl c L6 O6 J F6/\(∃X,L6=L3++X)/\F6.map qd=FF.map qd/\fL c L6 F6.reverse d6/\d6.picked=d.picked/\∀M∈(c.LY n k).take j,∃e∈L6,∀x,c.has e.1 x->x=M\/c.has (c.LZ d.picked f3.part) x)
     ⟨G5,L3,O3,F3,d3,_,rfl,eD.refl _,qV.refl _ _ _,S5,⟨[],by simp⟩,U,ah,cp,λM B=>by simp at B⟩ (by rintro j σ H6 _ ⟨_,_,_,_,_,_,_,_,fx,_⟩;exact eX.of (fx.no cd ek ei λz=>z)) ?_ ?_
    ·rintro j x σ H6 hj ⟨G6,L6,O6,F6,d6,f8,rfl,a0,a5,S6,b9,I,D,al,aa⟩;obtain⟨M,dn,em⟩:=Paired.Kq ea hj;obtain⟨ap,ct,cx⟩:=ed M (ai dn);obtain⟨f6,a8,dv,dp⟩:=yY I co;have ep:f6.part=f3.part:=by rw[dv,ag]
     have eb:f6.bit=some k:=by rw[dp,bf,b1]
     have dl:=S6.se.gh.ins (a0.ins (R.gg.ins (an.ins hp)));obtain⟨⟨fx7,hfa7⟩,hst7⟩:mM CF CT G6 H6 c a f6:=by
      obtain⟨e9,z1,z2⟩:=Paired.Kq S6.fk.p ha;rw[a8]at z1;cases z1;exact z2
     have c3:Rd H6 m (.dK kvs):=a5.rd (R.frx.rd (A:=J) bx b6 Z) b6 Z;refine⟨_,rfl,p,dx,_,rfl,dl,(by kernel_rfl),_,rfl,_,rfl,_,rfl,a.1,fx7,_,V.str f6.part,rfl,hfa7,(by kernel_rfl),m,_,rfl,.inl ⟨kvs,Sum.inr f6.part,c3,rfl,by rw[ep,bv f3.part,ax hps]⟩,_,rfl,p,dx,_,V.ref fl,rfl,dl,(by kernel_rfl),_,rfl,_,rfl,fl,_,rfl,eX.of S6.fk.l,λsl bd=>?_⟩;have dd:i<=(J.map λa=>V.ref a.1).length:=by
      rw[ab];exact cA (af.mp ha).1
     rw[AO dd,<-ck];have s7:=eA bd (.lst ((J.take i).map λa=>V.ref a.1));have f2:upd H6 sl (.lst ((J.take i).map λa=>V.ref a.1)) sl=some (.lst ((J.take i).map λa=>V.ref a.1)):=d0;generalize upd H6 sl (.lst ((J.take i).map λa=>V.ref a.1))=H7 at *;have c8:=iK.same (O:=O6) S6.se.gh s7;have S7:=S6.grow c8 (S6.led.same s7) S6.ok;have gw:sl∉O6:=λz=>by obtain⟨u,r⟩:=S6.led.liv sl z;rw[bd]at r;cases r
     obtain⟨hd,c2⟩:=jK D a8;have e5:c.has f6.sd.dead M:=(c2.bit k eb).2.2 M ap (by rw[ct,ep]) cx;have ft:¬c.has d6.picked M:=λz=>by
      obtain⟨k',c1,_,_,c4,_⟩:=vL D (ai a8);rw[eb]at c1;cases c1;have:=D.sd.one k M c4 z (by rw[b3,ct]);rw[this]at cx;exact absurd cx (Int.lt_irrefl _)
     refine⟨G6,p,ch,le,fl,sl,c,L6,O6,J,F6,i,f6,d6,x,M,by rw[al,ep];rfl,S7,fg.f a0 em,a8,ap,by rw[ct,ep],e5,by rw[ep];exact hps,D,by rw[al];exact bm,ft,f2,gw,?_⟩;intro G8 H8 L8 O8 e8 fp fy S8 c6 g0 cy c7;have fw:∃X,L8=L3++X:=by
      obtain⟨X,hX⟩:=b9;obtain⟨Y,hY⟩:=c6;exact⟨X++Y,by rw[hY,hX,bH]⟩
     refine⟨G8,L8,O8,_,_,_,rfl,a0.trans fp,a5.trans ((c8.frx).trans fy),S8,fw,by rw[Bx];exact I,c7,by rw[el.KY];exact al,λk2 bq=>?_⟩;rw[fH dn]at bq;rcases aD.mp bq with z | z
     ·obtain⟨e,b8,c0⟩:=aa k2 z;obtain⟨Y,hY⟩:=c6;exact⟨e,by rw[hY];exact aP _ b8,c0⟩
     ·rw[aj.mp z];refine⟨e8,g0,λy hy=>?_⟩;have:=cy y hy;rw[al,ep]at this;exact this
    ·rintro σ H6 ⟨G6,L6,O6,F6,d6,f8,rfl,a0,a5,S6,b9,I,D,al,aa⟩;rw[lx,aI]at aa;refine⟨G6,L6,O6,F6,d6,_,_,_,_,_,rfl,an.trans (R.gg.trans a0),a6.trans (R.frx.trans a5),S6,I,D,al,λi' cs f hf=>?_⟩;rcases dj i' i with z | z
     ·have:=g i' z f hf;intro h1 k1 h2 n1 h3 M h4;obtain⟨e,b8,c0⟩:=this h1 k1 h2 n1 h3 M h4;obtain⟨X,hX⟩:=b9;exact⟨e,by rw[hX];exact aP _ b8,c0⟩
     ·have:i'=i:=by lia
      subst this;rw[co]at hf;cases hf;intro h1 k1 h2 n1 h3 M h4;rw[bf,b1]at h2;cases h2;rw[ag,fv]at h3;cases h3;rw[ag];exact aa M h4
   ·rw[av hps];refine ff ⟨G3,L3,O3,F3,d3,_,_,_,_,_,rfl,an,a6,S4,U,ah,cp,λi' cs f hf=>?_⟩;rcases dj i' i with z | z
    ·exact g i' z f hf
    ·have:i'=i:=by lia
     subst this;rw[co]at hf;cases hf;intro h1;rw[ag]at h1;exact absurd h1 hps
  ·rintro σ H3 ⟨G3,L3,O3,F3,d3,o3,o4,o5,o6,o7,rfl,an,cn,S3,U,ah,cp,g⟩;rw[ab,lA]at g;refine q G3 H3 L3 O3 F3 an (ds.frx.trans cn) S3 λf hf=>?_;obtain⟨t,ht⟩:=aC.mp hf;exact g t (af.mp ht).1 f ht
end
inductive sS (C:Addr)(vs:List V)(H:Hp)(Q:VK)(E:XK):Prop
 |mk (p dx a st:Addr)(es:List En)(_:vs=[.ref p,.ref a,.ref st])(_:H p=some (.ins C dx []))(_:iM H a es)(_:es.length<64)(_:(es.map eU).Nodup)(_:∀H',eF (del H [p]) H'->ge C H' p st es->Q .non H')
section
variable {base:Heap}{f:Addr}
theorem Aa {C:Addr}(F:iL K "__init__" "Board.__init__" zg f fd)(T:TB K mg C):fi P w K mg base fB 1 f fd ["self","shelf","start"] (sS C):=by
 refine F.ok y0 λds A dc s H vs Q E hr h=>?_;obtain⟨p,D,a,st,Y,rfl,hp,dd,hl,b1,q1⟩:=h;have hu:=gB hr;refine⟨_,(ee (zq (pv 0) (tW (pv 2)) rfl) (ee (zq (pv 0) gY rfl) (ee (fG (fD (pv 1)) (lc rfl (gj (eL (i:=3) y0.nd) (gj (eL (i:=4) y0.nd) (gj (eL (i:=5) y0.nd) jT)))) (ee (fz (hJ (BW hu (gL (dZ (pv 3) (dZ (pv 4) eg))) (jG (pv 0) rfl))) fT eP) (ee (kZ hu (jG (pv 0) rfl) (gL (dZ (pv 3) (dZ (pv 4) eg))) (pv 5) rfl) (eo (gm (ju PySem.F.plainAttrs_list PySem.F.slot_list_append PySem.F.type_list_append gR (zF (jG (pv 0) rfl) (pv 3) (gM eg) ⟨rfl,rfl,rfl,rfl⟩) (dZ (pv 4) eg))))))) (eo (fG (fD (gX (vJ rfl) rfl T.list cM (dZ (jG (pv 0) rfl) eg))) (eL (i:=3) y0.nd) (eo (iD hu (jG (pv 0) rfl) (pv 3) (zB rfl T.sorted (gN hu (jG (pv 0) rfl) (pv 3))) rfl))))))),?_⟩;have cz:=iM.apart hp dd;generalize b4:del H [p]=Hd at *;have sd:eF Hd H:=b4▸fq H [p];have b5:Hd p=none:=by rw[<-b4];exact fM (by simp)
 obtain⟨xs,hx,bq⟩:=cz;have lx:xs.length=Y.length:=Paired.length bq;refine λq a6=>⟨_,rfl,d0,?_⟩;have S:p≠q:=et hp a6;refine⟨_,rfl,p,C,D,_,rfl,by rw[ef S,ef S];exact hp,T.cl,T.nN,(by show 0<1000;decide),?_⟩;rw[i6];generalize a8:upd (upd H q (.dN [(none,.ref st)])) p (.ins C D (gq "needs" (.ref q) []))=H1;have a5:H1 p=some (.ins C D (gq "needs" (.ref q) [])):=by rw[<-a8];exact d0
 have bx:H1 q=some (.dN [(none,.ref st)]):=by rw[<-a8,ef (Ne.symm S)];exact d0
 have s1:eF Hd H1:=by rw[<-a8];exact eF.upd (eF.upd sd (sd.free a6)) b5
 refine λm O=>⟨_,rfl,p,C,D,_,rfl,by rw[ef (et a5 O)];exact a5,T.cl,T.nV,(by show 1<1000;decide),?_⟩;generalize ap:upd (upd H1 m (.dK [])) p (.ins C D (gq "versions" (.ref m) (gq "needs" (.ref q) [])))=H2;have cx:H2 p=some (.ins C D (kC q m)):=by rw[<-ap];exact d0
 have cd:H2 q=some (.dN [(none,.ref st)]):=by rw[<-ap,ef (Ne.symm S),ef (et bx O)];exact bx
 have cn:H2 m=some (.dK []):=by rw[<-ap,ef (Ne.symm (et a5 O))];exact d0
 have s2:eF Hd H2:=by rw[<-ap];exact eF.upd (eF.upd s1 (s1.free O)) b5
 refine⟨_,rfl,a,rfl,⟨xs,eX.of (s2 _ _ hx)⟩,fQ (K:=K) (a:=a) (xs:=xs) (λi σ H2=>J1 C Hd Y p a st D q m i σ H2) ⟨⟨[],[],none,none,none,rfl,cx,cd,.nil,cn,⟨λx=>.inl ⟨rfl,rfl⟩,λx y l z=>(nomatch z),λkv z=>(nomatch z),ao _⟩⟩,s2,bM⟩ (λi σ H2 _ I=>eX.of (I.sm _ _ hx)) ?_ ?_⟩
 ·rintro i x σ H3 hi ⟨⟨t,B,o3,o4,o5,rfl,N,U,L,aa,R⟩,s3,a0⟩;obtain⟨e,he,q0,na,zs,rfl,e1,e2,e3⟩:=Paired.Kq bq hi;have g1:=s3 _ _ e1;have d1:i<Y.length:=(af.mp he).1;have ht:Y.take (i+1)=Y.take i++[e]:=by rw[aX,he];rfl
  have c3:(Y.map eU)[i]?=some (eU e):=by rw[ae,he];rfl
  have b9:=vn a0 c3;have lk:t.length=i:=by rw[Paired.length L,aT];lia
  have lv:=R.len;rw[aT]at lv;refine⟨q0,_,rfl,gs.of g1,rfl,_,_,rfl,_,_,rfl,_,_,rfl,rfl,?_⟩;refine⟨_,rfl,_,rfl,tG,λkt cy=>?_⟩;have s4:=eA cy (.tup [.str e.1,.int e.2.1]);refine⟨_,rfl,p,C,D,_,_,rfl,s4 _ _ N,T.cl,T.nN,gc _ _,q,_,rfl,hU.of (k:=some (jf (eU e))) (s4 _ _ U) ⟨kt,rfl,d0⟩,_,rfl,?_⟩;rw[gu (by intro z;cases z)];rcases qZ L (eU e) with ⟨ct,hv⟩ | ⟨e',cp,co,dy,dp,hv,_⟩
  ·rw[hv];refine ff ?_;refine⟨_,rfl,_,rfl,p,C,D,_,_,rfl,s4 _ _ N,T.cl,T.nN,gc _ _,_,rfl,_,rfl,tG,λb6 b8=>?_⟩;have s5:=s4.trans (eA b8 (.tup [.str e.1,.int e.2.1]));have c4:eV ((none,V.ref st)::t) (some (jf (eU e)))=none:=by rw[gu (by intro z;cases z)];exact hv
   refine⟨q,_,rfl,lF.of (k:=some (jf (eU e))) (s5 _ _ U) ⟨b6,rfl,d0⟩ (eO (by rw[aE];lia)),?_⟩;rw[ii _ c4];generalize ag:upd (upd (upd H3 kt (.tup [.str e.1,.int e.2.1])) b6 (.tup [.str e.1,.int e.2.1])) q (.dN (((none,V.ref st)::t)++[(some (jf (eU e)),.ref na)]))=J;have dl:p≠q:=S;have g:J p=some (.ins C D (kC q m)):=by rw[<-ag,ef S];exact s5 _ _ N
   have r:J q=some (.dN ((none,V.ref st)::(t++[(some (jf (eU e)),.ref na)]))):=by rw[<-ag];exact d0
   have d:J m=some (.dK B):=by rw[<-ag,ef (fh aa U (by intro z;cases z))];exact s5 _ _ aa
   have bv:Hd q=none:=by
    cases z:Hd q with
    |none=>rfl
    |some o=>
     have:=s2 _ _ z;rw[cd]at this;cases this;have:=sd _ _ z;rw[a6]at this;cases this
   have X:eF Hd J:=by rw[<-ag];exact eF.upd (s3.trans s5) bv
   have b2:∀b ys,H3 b=some (.lst ys)->J b=some (.lst ys):=λb ys z=>by
    rw[<-ag,ef (fh z U (by intro y;cases y))];exact s5 _ _ z
   have R5:jM Hd J B (Y.take i):=R.dict b2;have a1:Paired (mJ Hd) (t++[(some (jf (eU e)),V.ref na)]) (Y.take (i+1)):=by
    rw[ht];exact Paired.snoc L ⟨rfl,na,zs,rfl,e2,e3⟩
   have ch:¬eU e∈(Y.map eU).take i:=by rw[<-ck];exact ct
   have a2:=b9.mpr ch;refine⟨_,rfl,p,C,D,_,_,rfl,g,T.cl,T.nV,jL _ _,m,rfl,.inl ⟨_,.inl d⟩,_,rfl,tH,λl0 G=>?_⟩;have M:=eA G (.lst []);refine⟨B,Sum.inr e.1,M _ _ d,rfl,eO (by lia),λv al=>?_,λal=>?_⟩
   ·obtain⟨l,rfl⟩:∃l,v=.ref l:=by
     rcases R.at_ e.1 with ⟨z,_⟩ | ⟨l,z,_⟩
     ·rw[al]at z;cases z
     ·rw[al]at z;cases z;exact⟨l,rfl⟩
    obtain⟨c0,ad,R8⟩:=(R5.same M).more al;refine⟨.inl ⟨rfl,_,eX.of ad⟩,_,rfl,l,_,_,rfl,rfl,ad,?_,?_⟩
    ·rw[ab];have:=j5 (Y.take i) e.1;rw[aT]at this;exact eO (by lia)
    ·have bd:p≠l:=fh (M _ _ g) ad (by intro z;cases z);have a7:q≠l:=fh (M _ _ r) ad (by intro z;cases z);have as:m≠l:=fh (M _ _ d) ad (by intro z;cases z);refine⟨⟨_,B,_,_,_,rfl,by rw[ef bd];exact M _ _ g,by rw[ef a7];exact M _ _ r,a1,by rw[ef as];exact M _ _ d,by rw[ht];exact R8⟩,eF.upd (X.trans M) c0,a2⟩
   ·have as:m≠l0:=et d G;have bd:p≠l0:=et g G;have a7:q≠l0:=et r G;have a9:p≠m:=fh g d (by intro z;cases z);have bf:q≠m:=fh r d (by intro z;cases z);have a3:upd (upd J l0 (.lst [])) m (.dK (fm B (Sum.inr e.1) (.ref l0))) l0=some (.lst []):=by rw[ef (Ne.symm as)];exact d0
    refine⟨.inl ⟨rfl,_,eX.of a3⟩,_,rfl,l0,_,_,rfl,rfl,a3,(by show 0<sizeLine;decide),?_⟩;have Z:Hd m=none:=by
     cases z:Hd m with
     |none=>rfl
     |some o=>
      have:=s1 _ _ z;rw[O]at this;cases this
    have R8:jM Hd (upd (upd J l0 (.lst [])) m (.dK (fm B (Sum.inr e.1) (.ref l0)))) B (Y.take i):=(R5.same M).dict λb ys z=>by
     rw[ef (fh z (M _ _ d) (by intro y;cases y))];exact z
    have R9:=R8.first (l:=l0) al a3 (X.free G) (λx z=>by
     rcases R5.at_ x with ⟨y,_⟩ | ⟨l',y,_,y2⟩
     ·rw[z]at y;cases y
     ·rw[z]at y;cases y;rw[G]at y2;cases y2)
    refine⟨⟨_,_,_,_,_,rfl,by rw[ef bd,ef a9];exact M _ _ g,by rw[ef a7,ef bf];exact M _ _ r,a1,by rw[ef as];exact d0,by rw[ht];exact R9⟩,eF.upd (eF.upd (X.trans M) Z) (X.free G),a2⟩
  ·rw[hv];refine gW ?_
   exact(b9.mp (jg (i+1) b1) (by
    rw[<-ck,<-co]
    exact bn cp)).elim
 ·rintro σ H3 ⟨⟨t,B,o3,o4,o5,rfl,N,U,L,aa,R⟩,s3,a0⟩;rw[lx]at L a0 R;rw[aI]at L R;rw[List.take_of_length_le (by rw[ab];exact ao _)]at a0;have lv:=R.len;refine⟨_,rfl,p,C,D,_,_,rfl,N,T.cl,T.nV,jL _ _,m,B,rfl,aa,λla c7=>?_⟩;have s4:=eA c7 (.lst (B.map λkv=>kV kv.1));have Z:Hd m=none:=by
   cases z:Hd m with
   |none=>rfl
   |some o=>
    have:=s1 _ _ z;rw[O]at this;cases this
  refine⟨la,rfl,⟨_,eX.of d0⟩,fQ (K:=K) (a:=la) (xs:=B.map λkv=>kV kv.1) (λj σ J=>J0 C Hd Y p a st D q m t (B.map (·.1)) j σ J/\J la=some (.lst (B.map λkv=>kV kv.1))) ⟨⟨⟨B,_,_,_,rfl,s4 _ _ N,s4 _ _ U,s4 _ _ aa,rfl,λx=>?_⟩,s3.trans s4⟩,d0⟩ (λj σ J _ I=>eX.of I.2) ?_ ?_⟩
  ·rcases R.at_ x with z | ⟨l,h1,_,h2⟩
   ·exact .inl z
   ·exact .inr ⟨l,_,h1,s4 _ _ h2,List.Perm.refl _,λz=>by simp at z⟩
  ·rintro j x σ J hj ⟨⟨⟨an,c9,c8,c5,rfl,g,r,d,ah,V5⟩,s5⟩,a4⟩;rw[ae]at hj;obtain⟨kv,b3,rfl⟩:=az.mp hj;obtain⟨y,hy⟩:=R.keys kv (ai b3);have bm:(B.map (·.1))[j]?=some (Sum.inr y):=by rw[ae,b3];exact congrArg some hy
   have da:(B.map (·.1)).take (j+1)=(B.map (·.1)).take j++[Sum.inr y]:=by rw[aX,bm];rfl
   have ba:(eV an (Sum.inr y:gz)).isSome=true:=by
    rw[<-i5,dD];have:(Sum.inr y:gz)∈an.map (·.1):=by rw[ah];exact ai bm
    obtain⟨c6,h1,h2⟩:=aw.mp this;exact⟨c6,h1,aq h2⟩
   rcases V5 y with ⟨z,_⟩ | ⟨l,ms,h1,h2,h3,_⟩
   ·rw[z]at ba;cases ba
   have lm:ms.length<64:=by
    rw[h3.length_eq];exact bI (j5 _ _) hl
   rw[hy];refine⟨_,rfl,p,C,D,_,_,rfl,g,T.cl,T.nV,jL _ _,_,rfl,m,_,rfl,iu.k (k:=Sum.inr y) d |> (h1▸·),l,ms,rfl,eX.of h2,lm,λl2 bl b7 cs c2=>?_⟩;have X:=eA b7 (.lst (List.map V.int bl));refine⟨_,rfl,p,C,D,_,_,rfl,X _ _ g,T.cl,T.nV,jL _ _,_,rfl,m,_,rfl,kP.k (k:=Sum.inr y) (X _ _ d) (eO ?_),?_⟩
   ·have:=congrArg List.length ah;rw[ab,ab]at this
    lia
   ·have a9:p≠m:=fh g d (by intro z;cases z);have bf:q≠m:=fh r d (by intro z;cases z);have c1:la≠m:=fh a4 d (by intro z;cases z);refine⟨⟨⟨_,_,_,_,rfl,by rw[ef a9];exact X _ _ g,by rw[ef bf];exact X _ _ r,d0,by rw[mH ba];exact ah,λx=>?_⟩,eF.upd (s5.trans X) Z⟩,by rw[ef c1];exact X _ _ a4⟩;rw[gi];by_cases hxy:x=y
    ·subst hxy;refine .inr ⟨l2,bl,by rw[ax rfl],?_,cs.trans h3,λ_=>c2⟩;rw[ef (Ne.symm (et d b7))];exact d0
    ·rw[av (λz=>hxy (Sum.inr.inj z))];rcases V5 x with z | ⟨l',cv,g1,g2,g3,g4⟩
     ·exact .inl z
     ·refine .inr ⟨l',cv,g1,?_,g3,λz=>g4 ?_⟩
      ·rw[ef (fh g2 d (by intro z;cases z))];exact X _ _ g2
      ·rw[da]at z;rcases aD.mp z with z | z
       ·exact z
       ·exact absurd (Sum.inr.inj (aj.mp z)) hxy
  ·rintro σ J ⟨⟨⟨an,c9,c8,c5,rfl,g,r,d,ah,V5⟩,s5⟩,a4⟩;refine q1 J s5 ⟨D,q,m,t,an,g,.inl r,Paired.J4 L λ_ _=>mJ.same s5,.inl d,λx=>?_⟩;rcases V5 x with z | ⟨l,ms,g1,g2,g3,g4⟩
   ·exact .inl z
   ·refine .inr ⟨l,ms,g1,g2,g3,λ_=>g4 ?_⟩;rw[List.take_of_length_le (by rw[ab,ab];exact ao _),<-ah];exact iP g1
end
section
variable {H:Hp}{p:Addr}{t:HO}(hp:H p=some t)(ft:uD t)
include hp ft
theorem iE {u:HO}(e:H a=some u)(h:¬uD u):del H [p] a=some u:=by
 rw[eE (by simpa using fh e hp λz=>h (z▸ft))];exact e
theorem kW {u:HO}(h:Rd H a u)(n:¬uD u):Rd (del H [p]) a u:=h.imp (λz=>iE hp ft z n) (by rintro⟨o,z⟩;exact⟨o,iE hp ft z λy=>y⟩)
theorem gv.fix {ns:List Nd}(h:gv H a ns):gv (del H [p]) a ns:=(by obtain⟨xs,h1,h2⟩:=h;exact⟨xs,iE hp ft h1 (λz=>z),Paired.J4 h2 (by rintro _ _ ⟨q,e1,e2⟩;exact⟨q,e1,iE hp ft e2 λz=>z⟩)⟩)
theorem ge.fix {st:Addr}{es:List En}(h:ge CB H b st es):ge CB (del H [p]) b st es:=by
 obtain⟨r,s,v,d,o,C,t,w,B,D⟩:=h.ex;refine⟨r,s,v,d,o,iE hp ft C (λz=>z),kW hp ft t (λz=>z),Paired.J4 w λ_ _ z=>?_,kW hp ft B (λz=>z),λx=>?_⟩
 ·obtain⟨g,a,y,i,j,e⟩:=z;exact⟨g,a,y,i,iE hp ft j (λz=>z),Paired.J4 e (by rintro _ _ ⟨q,A,E⟩;exact⟨q,A,iE hp ft E λz=>z⟩)⟩
 ·rcases D x with z | ⟨l,m,g,i,j,e⟩
  ·exact .inl z
  ·exact .inr ⟨l,m,g,iE hp ft i (λz=>z),j,e⟩
theorem iF.fix {ch:Addr}{c:el}(h:iF CB CC H ch c):iF CB CC (del H [p]) ch c:=by
 obtain⟨U,b,bits,i,a,M,B,T,R,E,s,Q,⟨X,J,P⟩,⟨F,G,r⟩,⟨N,S,x⟩,⟨A,t,K⟩,⟨y,m,Y⟩,C,O,I⟩:=h.ex;refine⟨U,b,bits,i,a,M,B,T,R,iE hp ft E (λz=>z),s.fix hp ft,Q.fix hp ft,⟨X,kW hp ft J (λz=>z),P⟩,⟨F,kW hp ft G (λz=>z),λk D=>?_⟩,⟨N,kW hp ft S (λz=>z),x⟩,⟨A,kW hp ft t (λz=>z),λw L=>?_⟩,⟨y,kW hp ft m (λz=>z),Y⟩,C,kW hp ft O (λz=>z),I⟩
 ·obtain⟨v,g,q,e,l⟩:=r k D;exact⟨v,g,q,e,iE hp ft l λz=>z⟩
 ·obtain⟨d,g,o,j,e,l⟩:=K w L;exact⟨d,g,o,j,iE hp ft e (λz=>z),l⟩
end
def Dp (H:Hp)(O:List Addr)(PP:Addr):Prop:=ia yQ x9 H PP/\PP∉O/\∀c' u,H PP=some (.tbl #[rawInt x9.line,rawInt x9.col,.ref c'])->H c'=some u->uD u->c'∉O
theorem Dp.fix (h:Dp H O PP):∃u,H PP=some u/\uD u:=by
 rcases h.1 with z | ⟨a,z,_⟩
 ·exact⟨_,z,trivial⟩
 ·exact⟨_,z,trivial⟩
theorem Dp.keep (h:Dp H O PP)(k:iY H O H' O'):Dp H' O' PP:=by
 rcases h.1 with z | ⟨b,i,g⟩
 ·obtain⟨a,d⟩:=k PP _ z trivial h.2.1;refine⟨.inl a,d,λb u e=>?_⟩;rw[a]at e;have:=Option.some.inj e;injection this with this
  exact absurd (show(0:Nat)=3 from congrArg Array.size this) (by decide)
 ·obtain⟨a,d⟩:=k PP _ i trivial h.2.1;obtain⟨j,l⟩:=k b _ g trivial (h.2.2 b _ i g trivial);refine⟨.inr ⟨b,a,j⟩,d,λm u e o _=>?_⟩;rw[a]at e;have:=Option.some.inj e;injection this with this
  injection this with this
  injection this with _ this
  injection this with _ this
  injection this with this _
  injection this with this
  rw[<-this];exact l
theorem qV.LS {G:Hp}{c:el}{fl:Addr}{F:List Fk}(g:qV H O A H' O')(h:jc CF CT G H c fl A F):iY H O H' O':=λx u hx f n=>by
 have m:x∉A.map (·.2):=λz=>by
  obtain⟨a,ha,rfl⟩:=aw.mp z;obtain⟨t,ht⟩:=aC.mp ha;obtain⟨fk,_,_,sx,wa,hsa,_⟩:=Paired.Kq h.p ht;rw[hsa]at hx;cases hx;exact f
 obtain⟨z,y⟩:=g x u hx n m;refine⟨z.resolve_right ?_,y⟩;rintro⟨w,_⟩;cases u <;> first | exact w | exact f
theorem ia.f {tq:Str}{lp:Pos}(e:eD H H')(h:ia tq lp H PP):ia tq lp H' PP:=by
 rcases h with z | ⟨d,b,a⟩
 ·exact .inl (e.no z λy=>y)
 ·exact .inr ⟨d,e.no b (λy=>y),e.no a λy=>y⟩
inductive EL (c:el)(H:Hp)(t:Addr)(L:ir)(pk:Nat):Prop
 |mk (la ln:_)(_:H t=some (.tup [.ref la,.ref ln]))(_:iO H la (c.listed pk))(_:mK H ln (c.lns L))
structure GA (c:el)(H:Hp)(t:Addr)(L:ir)(pk:Nat):Prop where
 ex:EL c H t L pk
 ok:gQ c L
 fit:kM c.es c.sn (c.listed pk)
 one:c.KO pk
 lt:pk<2^c.n
 named:∀k,c.has pk k->c.Named pk k
 shown:∀k,c.has pk k->k.1∈c.start->∀n,(c.needs none)[((c.needs none).map (·.1)).idxOf k.1]?=some n->∀kk∈c.LY n k,∃e∈L,∀j,c.has e.1 j->j=kk\/c.has (c.LZ pk k.1) j
inductive EM (c:el)(H:Hp)(t:Addr)(L:ir):Prop
 |mk (ln:_)(_:H t=some (.tup [.non,.ref ln]))(_:mK H ln (c.lns L))
structure GB (c:el)(H:Hp)(t:Addr)(L:ir):Prop where
 ex:EM c H t L
 ok:gQ c L
 last:∃e,L.getLast?=some e/\e.1=0
inductive oB (PP:Addr)(vs:List V)(H:Hp)(Q:VK)(E:XK):Prop
 |mk (sh st:Addr)(es:List En)(sn:List Nd)(_:vs=[.ref sh,.ref st])(_:iM H sh es)(_:es.length<64)(_:(es.map eU).Nodup)(_:gv H st sn)(_:∀w,(gT es sn w).length<=100)(_:ia yQ x9 H PP)(_:∀c:el,c.es=es->c.sn=sn->∀L,gQ c L->L.length<sizeLine)(_:∀(c:el) (H':Hp) (t:Addr),c.es=es->c.sn=sn->eD (del H [PP]) H'->ia yQ x9 H' PP->((∃L,GB c H' t L)\/∃L pk,GA c H' t L pk)->Q (.ref t) H')
section
variable {base:Heap}{f:Addr}
theorem Bz:eM ["shelf","start","search","stand"] ["shelf","start"] (eB rj):=i4
theorem xC {CL CS:Addr}(F:iL K "worked_out" "worked_out" rj f fd)(T:tE K mg CS)(TT:CP K mg CT)(h4:Bo P w K mg base CB fB 1 "Board" ["self","shelf","start"] (sS CB))(e4:Bo P w K mg base CC fB 4 "Chart" ["self","board"] (sW CB CC))(iv:Bo P w K mg base CS fB 3 "Search" ["self","chart"] (sN CL CS))(i3:Bo P w K mg base CF fB 1 "Fork" ["self","part","stand"] (sU CF))(g3:Mt P w K mg base CS fB 3 "opening" ["self"] (pX CB CC CL CS CT))(hz:Mt P w K mg base CS fB 5 "next_part" ["self","stand"] (uH CB CC CS CT yQ x9 PP))(e9:Mt P w K mg base CS fB 6 "go_on" ["self"] (A1 CB CC CL CS CF CT))(c9:Mt P w K mg base CL fB 2 "told" ["self"] (vQ CB CC CL))(f0:Mt P w K mg base CS fB 7 "show_newest" ["self","picked"] (vR CB CC CL CS CF CT))(fr:Mt P w K mg base CC fB 1 "listed" ["self","mask"] (j4 CC)):fi P w K mg base fB 8 f fd ["shelf","start"] (oB PP):=by
 refine F.ok Bz λlp A g8 s H vs Q E hr h=>?_;obtain⟨sh,st,es,sn,rfl,hf,cd,dp,fv,dd,hT,e6,q1⟩:=h;have hu:=gB hr;refine⟨_,(ee (eJ (i:=2) Bz.nd (nI iv (hr.mono (by decide:4<=7)) rfl fE (dZ (nI e4 (hr.mono (by decide:5<=7)) rfl fE (dZ (nI h4 (hr.mono (by decide:2<=7)) rfl fE (dZ (pv 0) (dZ (pv 1) eg))) eg)) eg))) (ee (eJ (i:=3) Bz.nd (qB g3 (hr.mono (by decide:3<=7)) fE (pv 2))) (ee (jE PassesOwn.never (PW.pt (kY (hJ (my (pv 3))) (jR (BK (eK TT.cl TT.nWa (pv 3)) (λ_=>rfl))))) (ee (gm (ju PySem.F.plainAttrs_list PySem.F.slot_list_append PySem.F.type_list_append gR (eK T.cl T.nFo (pv 2)) (dZ (nI i3 (hr.mono (by decide:2<=7)) rfl fE (dZ (il hz (hr.mono (by decide:5<=7)) fE (pv 2) (dZ (pv 3) eg)) (dZ (pv 3) eg))) eg))) (eo (eJ (i:=3) Bz.nd (qB e9 (hr.mono (by decide:6<=7)) fE (pv 2)))))) (ee (fz (hJ (rW (pv 3))) (eo (eQ (gL (dZ iH (dZ (qB c9 (hr.mono (by decide:2<=7)) fE (eK T.cl T.nLe (pv 2))) eg))))) eP) (ee (gm (il f0 hr fE (pv 2) (dZ (eK TT.cl TT.nPi (pv 3)) eg))) (eo (eQ (gL (dZ (il fr (hr.mono (by decide:1<=7)) fE (eK T.cl T.nCh (pv 2)) (dZ (eK TT.cl TT.nPi (pv 3)) eg)) (dZ (qB c9 (hr.mono (by decide:2<=7)) fE (eK T.cl T.nLe (pv 2))) eg)))))))))),?_⟩;refine⟨_,rfl,_,rfl,λb bx hb fw h0=>?_⟩;have s1:=made (C:=CB) hb fw h0;have g0:upd (upd H bx (.own b)) b (.ins CB bx []) b=some (.ins CB bx []):=d0;generalize upd (upd H bx (.own b)) b (.ins CB bx [])=H1 at *;have hg:eF H (del H1 [b]):=λa u e=>by rw[eE (by simpa using et e hb)];exact s1 _ _ e
 refine⟨b,bx,sh,st,es,rfl,g0,iM.same s1 hf,cd,dp,λH2 s2 hB=>⟨rfl,?_⟩⟩;have cs:eF H H2:=hg.trans s2;intro r cx ev hq f9;have s3:=made (C:=CC) ev hq f9;have hp:upd (upd H2 cx (.own r)) r (.ins CC cx []) r=some (.ins CC cx []):=d0;generalize upd (upd H2 cx (.own r)) r (.ins CC cx [])=H3 at *;refine⟨r,cx,b,st,es,sn,rfl,hp,hB.same s3,fv.same (cs.trans s3),dp,cd,dd,λc H4 c1 c2 gp hC=>⟨rfl,?_⟩⟩;subst c1;subst c2;have e8:eF H (del H3 [r]):=λa u e=>by rw[eE (by simpa using et (cs _ _ e) ev)];exact s3 _ _ (cs _ _ e)
 have a8:eD H H4:=e8.toF.trans gp;have dn:ia yQ x9 H4 PP:=ia.f a8 hT;obtain⟨tu,hP4,fP⟩:∃u,H4 PP=some u/\uD u:=by
  rcases dn with z | ⟨c',z,_⟩
  ·exact⟨_,z,trivial⟩
  ·exact⟨_,z,trivial⟩
 intro se sx al kj h8;have s5:=made (C:=CS) al kj h8;have i2:upd (upd H4 sx (.own se)) se (.ins CS sx []) se=some (.ins CS sx []):=d0;generalize upd (upd H4 sx (.own se)) se (.ins CS sx [])=H5 at *;have eu:=s5 _ _ hP4;have js:del H4 [PP] se=none:=by
  cases h:del H4 [PP] se with
  |none=>rfl
  |some u=>rw[fq _ _ se u h]at al;cases al
 have hi:=hC.fix hP4 fP;have hh:del H4 [PP] PP=none:=fM (by simp);have c3:eD (del H [PP]) (del H4 [PP]):=λa u e=>by
  have na:a∉[PP]:=λz=>by rw[fM z]at e;cases e
  rw[eE na]at e ⊢;exact a8 a u e
 refine⟨del H4 [PP],se,sx,r,c,rfl,((fq _ _).trans s5).toF,js,i2,λG6 H6 S B O eh cz j0 f4 kx bd f1 g2 bl Z a6=>⟨rfl,?_⟩⟩;generalize del H4 [PP]=G at *;have d9:eD H4 H6:=λa u e=>g2 a u (by rw[eE (by simpa using et e al)];exact s5 _ _ e);have ka:G6 PP=none:=by
  cases h:G6 PP with
  |none=>rfl
  |some u=>
   rcases j0 PP hh (by rw[h];exact λz=>nomatch z) with z | z
   ·rw[eu]at z;cases z
   ·rw[z,al]at hP4;cases hP4
 have gn:PP∉O:=λz=>by have:=f4 PP z;rw[eu]at this;cases this
 have eq:Dp H6 O PP:=⟨ia.f d9 dn,gn,λc' u _ e2 f2 z=>Z.nf c' z u e2 f2⟩;have cn:c.n<64:=by rw[c.n_eq];exact cd
 have bm:Se CB CC CS G6 H6 se r S B c:=⟨cz,⟨sx,bl⟩,hi.f eh,cn,dd,e6 c rfl rfl⟩;refine⟨_,rfl,se,sx,_,rfl,cz.ins bl,(by kernel_rfl),G6,se,r,S,B,c,O,rfl,bm,Z.liv,Z.off,λG7 H7 s7 d7 M gw e5 c8 dl kc h5=>?_⟩;have i0:gy CL G7 H7 S r c [] O:=Z.grow M.gg (λa J=>by obtain⟨u,o⟩:=Z.liv a J;exact M.off (Z.off a J) o) h5;have S7:SS CB CC CL CS CF CT G7 H7 se r S B c [] O [] []:=⟨bm.grow M.gg M.gh,i0,gQ.nil c,⟨M.keep bd a6 (λz=>z),.nil,M.off f1 a6,(λa J=>nomatch J),bM,bM⟩,bd,λa J=>nomatch J⟩;have g1:=eq.keep M.LS;have gt:G7 PP=none:=by
  obtain⟨u,o,_⟩:=eq.fix;exact M.off ka o
 have f6:s7∉O:=λz=>by obtain⟨u,o⟩:=Z.liv s7 z;rw[gw]at o;cases o
 refine⟨λm σ H8=>∃(v:Hp) (L8:ir) (U:List Addr) (X:List (Addr×Addr)) (F8:List Fk),eD G v/\SS CB CC CL CS CF CT v H8 se r S B c L8 U X F8/\Dp H8 U PP/\v PP=none/\((σ=[some (.ref sh),some (.ref st),some (.ref se),some .non]/\m=0/\∃e,L8.getLast?=some e/\e.1=0)\/∃D Y,σ=[some (.ref sh),some (.ref st),some (.ref se),some (.ref D)]/\m=c.mv (c.n+1) F8+1/\fL c L8 F8.reverse Y/\NZ L8/\lO CT v H8 D Y/\v D=none/\D∉U/\D∉X.map (·.2)),⟨c.mv (c.n+1) []+1,G7,[],O,[],[],eh.trans M.gg,S7,g1,gt,.inr ⟨s7,d7,rfl,rfl,.nil kc (dl []),(λe he=>nomatch he),c8,e5,f6,(λz=>nomatch z)⟩⟩,?_⟩;rintro m σ H8 ⟨v,L8,U,X,F8,a1,j,ap,b3,cp⟩;obtain⟨ah,a5⟩:=j.se.self;have ad:=j.se.gh.ins a5;obtain⟨gk,ld,k6,ls,k0,kq,lu,k8,k1,ed,e0⟩:=id j.led.ex;have ho:∀{N:Hp},eD v N->eD (del H [PP]) N:=λ{N} h=>c3.trans (a1.trans h);rcases cp with ⟨rfl,rfl,e,e7,kh⟩ | ⟨D,Y,rfl,rfl,d,ez,as,hc,bq,ea⟩
 ·refine⟨_,rfl,_,rfl,ff (ff ?_)⟩;refine⟨_,rfl,_,rfl,gW ?_⟩;refine⟨_,rfl,se,ah,_,V.ref S,rfl,ad,(by kernel_rfl),S,gk,_,rfl,j.se.gh.ins ed,(by kernel_rfl),v,S,r,c,L8,U,rfl,j.se.gh,j.se.chart,j.led,cn,j.ok.lt,j.se.sm L8 j.ok,λln N s9 b1=>?_⟩;refine⟨tG,λt ht=>?_⟩;have st:=eA ht (.tup [.non,.ref ln]);have sA:=s9.trans st;exact q1 c _ t rfl rfl (ho (j.se.gh.trans sA.toF)) (ia.f sA.toF ap.1) (.inl ⟨L8,⟨ln,d0,b1.same st⟩,j.ok,e,e7,kh⟩)
 ·obtain⟨b2,wa,a0,wo,aa,hd,kl⟩:=id as;refine⟨_,rfl,_,rfl,gW ?_⟩;refine⟨_,rfl,D,b2,_,V.ref wa,rfl,a0,(by kernel_rfl),wa,aa,rfl,.inr ⟨wo,j.se.gh.frz hd⟩,?_⟩;have lw:=Paired.length kl;by_cases hwe:Y.wanted=[]
  ·have hw:aa=[]:=bO.mp (by rw[lw,hwe];rfl);rw[hw];refine ff ?_;have a9:=d.sd.fit hwe;refine⟨_,rfl,_,rfl,ff ?_⟩;refine⟨_,rfl,se,ah,_,rfl,ad,(by kernel_rfl),_,rfl,D,b2,_,V.int (Y.picked:Nat),rfl,a0,(by kernel_rfl),v,se,r,S,B,c,L8,U,X,F8,Y,rfl,j,d,a9,λG9 N L9 O9 F9 f5 ej R a4=>?_⟩;have f3:=ej.no a0 bq ea λz=>z;have co:=ap.keep (ej.LS j.fk);obtain⟨c6,c0⟩:=R.se.self;have bf:=R.se.gh.ins c0;obtain⟨gx,gb,g4,h6,lm,k3,kt,k4,k7,d1,d2,d3,d4,d5,d6⟩:=R.se.chart.ex;refine⟨_,rfl,se,c6,_,V.ref r,rfl,bf,(by kernel_rfl),r,gx,_,rfl,R.se.gh.ins d1,(by kernel_rfl),_,rfl,D,b2,_,V.int (Y.picked:Nat),rfl,f3,(by kernel_rfl),G9,r,gx,h6,_,c,_,rfl,R.se.gh,R.se.gh.ins d1,(by kernel_rfl),d5,cn,d.sd.pl,λl xs Ha sa hl h3 j1 kf=>?_⟩;obtain⟨h9,lo,kv,k5,la,kn,k2,lq,ks,dc,e1⟩:=id R.led.ex;have ga:eD G9 Ha:=R.se.gh.trans sa.toF;refine⟨_,rfl,se,c6,_,V.ref S,rfl,sa _ _ bf,(by kernel_rfl),S,h9,_,rfl,ga.ins dc,(by kernel_rfl),G9,S,r,c,L9,O9,rfl,ga,R.se.chart,R.led.same sa,cn,R.ok.lt,R.se.sm L9 R.ok,λln Hb sb b1=>?_⟩;refine⟨tG,λt ht=>?_⟩;have st:=eA ht (.tup [.ref l,.ref ln]);have sA:=sa.trans (sb.trans st);have gA:eD G9 (upd Hb t (.tup [.ref l,.ref ln])):=R.se.gh.trans sA.toF;refine q1 c _ t rfl rfl (c3.trans (a1.trans (f5.trans gA))) (ia.f sA.toF co.1) (.inr ⟨L9,Y.picked,⟨l,ln,d0,⟨xs,st _ _ (sb _ _ h3),Paired.J4 j1 λ_ _=>fg.f gA⟩,b1.same st⟩,R.ok,a9,d.sd.one,d.sd.pl,d.sd.named,λk hk da n hn kk hs=>?_⟩);obtain⟨g,cy,ey⟩:=d.from k hk;have go:=ci.mp cy;have it:k.1=g.part:=((d.fks g cy).1.bit k ey).2.1;rw[it]at da hn ⊢;exact a4 g go da k ey n hn kk hs
  ·have e3:(!aa.isEmpty)=true:=by
    cases aa with
    |nil=>exact absurd (bO.mp lw.symm) hwe
    |cons a b=>rfl
   rw[e3];refine gW ⟨λσ' H'=>∃m',m'<c.mv (c.n+1) F8+1/\_,λ_ _ h=>h,?_⟩;refine⟨_,rfl,se,ah,_,V.ref B,rfl,ad,(by kernel_rfl),.inl ⟨rfl,_,eX.of j.fk.l⟩,?_⟩;refine⟨_,rfl,se,ah,_,rfl,ad,(by kernel_rfl),_,rfl,v,se,r,S,B,D,c,L8,Y,rfl,j.se,as,d.sd,hwe,ap.1,b3,λx N hx b6 s9 c5=>?_⟩;refine⟨_,rfl,λq fx ds ih hm=>?_⟩;obtain⟨ky,g5,g7⟩:=ap.fix;have nP:∀{a u},H8 a=some u->¬uD u->a∉[PP]:=λ{a u} h n z=>by
    rw[aj.mp z,g5]at h;cases h;exact n g7
   have k9:∀{a u},H8 a=some u->¬uD u->N a=some u:=λ{a u} h n=>s9 _ _ (by rw[eE (nP h n)];exact h);have g9:eD v N:=iy j.se.gh (O:=[PP]) (λa J=>by rw[aj.mp J];exact b3) s9.toF;have a3:gy CL v N S r c L8 U:=j.led.grow (eD.refl _) j.led.off λa J=>by
    obtain⟨u,o⟩:=j.led.liv a J;rw[k9 o (j.led.nf a J u o),o]
   have fu:∃u,N PP=some u:=by
    rcases c5 with z | ⟨c',z,_⟩
    ·exact⟨_,z⟩
    ·exact⟨_,z⟩
   have c4:iK v H8 [PP] v N [PP]:=⟨eD.refl _,g9,λa e n=>absurd e n,λa h=>.inl h,s9.toF,λa e=>by
    by_cases z:a=PP
    ·obtain⟨u,o⟩:=fu;rw[z,o]at e;cases e
    ·have:=s9.free e;rw[eE (by simpa using z)]at this
     exact this⟩
   have dv:yD [PP] B X:=⟨nP j.fk.l λz=>z,λa J=>by
    obtain⟨t,ht⟩:=aC.mp J;obtain⟨fk,_,⟨lk,h1⟩,lf,kw,h2,_⟩:=Paired.Kq j.fk.p ht
    exact⟨nP h1 λz=>z,nP h2 λz=>z⟩⟩
   have I:=j.fk.grow c4 dv;have a7:=as.grow c4 (nP a0 λz=>z);have R:SS CB CC CL CS CF CT v N se r S B c L8 U X F8:=⟨j.se.grow (eD.refl _) g9,a3,j.ok,I,j.sep⟩;have co:Dp N U PP:=⟨c5,ap.2.1,λc' u _ e2 f2 z=>a3.nf c' z u e2 f2⟩;have sm:=made (C:=CF) ds ih hm;have L:=ds;have g6:upd (upd N fx (.own q)) q (.ins CF fx []) q=some (.ins CF fx []):=d0;generalize upd (upd N fx (.own q)) q (.ins CF fx [])=Ha at *;have ei:=iK.same (O:=U) g9 sm;have Sa:=R.grow ei (a3.same sm) R.ok;have kp:lO CT v Ha D Y:=a7.grow ei bq;refine⟨q,fx,_,_,rfl,g6,rfl,?_⟩;have ep:B≠q:=λz=>by have:=I.l;rw[z,L]at this;cases this
   have cv:v q=none:=g9.free L;have bv:(X.map λa=>V.ref a.1).length<sizeLine:=by
    rw[ab,Paired.length j.fk.p];have:=d.depth;rw[cf]at this;exact eO (by lia)
   refine⟨B,_,_,rfl,rfl,(by rw[ef ep];exact Sa.fk.l),bv,?_⟩;have b9:∀y,y≠q->y≠B->upd (upd Ha q (.ins CF fx (ui (.str x) (.ref D) (.int 0)))) B (.lst ((X.map λa=>V.ref a.1)++[.ref q])) y=Ha y:=λy h1 h2=>by rw[ef h2,ef h1]
   have ft:upd (upd Ha q (.ins CF fx (ui (.str x) (.ref D) (.int 0)))) B (.lst ((X.map λa=>V.ref a.1)++[.ref q])) q=some (.ins CF fx (ui (.str x) (.ref D) (.int 0))):=by rw[ef (Ne.symm ep),d0]
   have gd:upd (upd Ha q (.ins CF fx (ui (.str x) (.ref D) (.int 0)))) B (.lst ((X.map λa=>V.ref a.1)++[.ref q])) B=some (.lst ((X++[(q,D)]).map λa=>V.ref a.1)):=by rw[d0,ay];rfl
   have gb:eD v (upd (upd Ha q (.ins CF fx (ui (.str x) (.ref D) (.int 0)))) B (.lst ((X.map λa=>V.ref a.1)++[.ref q]))):=(Sa.se.gh.upd cv).upd Sa.fk.offl;generalize upd (upd Ha q (.ins CF fx (ui (.str x) (.ref D) (.int 0)))) B (.lst ((X.map λa=>V.ref a.1)++[.ref q]))=Hb at *;have an:∀{y C dy fs},N y=some (.ins C dy fs)->y≠q/\y≠B:=λ{y C dy fs} h=>⟨et h L,fh h I.l λz=>nomatch z⟩;have kb:∀{y C dy fs},N y=some (.ins C dy fs)->Hb y=some (.ins C dy fs):=λ{y C dy fs} h=>by rw[b9 y (an h).1 (an h).2];exact sm _ _ h
   have ba:q∉U:=λz=>by obtain⟨u,o⟩:=a3.liv q z;rw[L]at o;cases o
   have i1:gy CL v Hb S r c L8 U:=Sa.led.grow (eD.refl _) Sa.led.off λy hy=>b9 y (λz=>ba (z▸hy)) λz=>j.sep.1 (z▸hy);have ew:lO CT v Hb D Y:=by
    obtain⟨y1,y2,y3,y4⟩:=a7;exact⟨y1,y2,kb y3,y4⟩
   have fo:jc CF CT v Hb c B (X++[(q,D)]) (F8++[⟨x,Y,none⟩]):=by
    refine⟨gd,Paired.snoc (Paired.J4 I.p (by rintro _ _ ⟨⟨z1,z2⟩,z3,z4,z5,z6⟩;exact⟨⟨z1,kb z2⟩,z3,z4,kb z5,z6⟩)) ⟨⟨fx,ft⟩,ew⟩,I.offl,λa J=>?_,?_,?_⟩
    ·rcases aD.mp J with z | z
     ·exact I.off a z
     ·rw[aj.mp z];exact⟨cv,hc⟩
    ·rw[ay,bN];refine⟨I.nd1,by simp,λa J y hy e=>?_⟩;rw[show y=q by simpa using hy]at e;obtain⟨a',hj,e'⟩:=aw.mp J;obtain⟨t,ht⟩:=aC.mp hj;obtain⟨fk,_,⟨z1,z2⟩,_⟩:=Paired.Kq I.p ht;rw[e',e,L]at z2;cases z2
    ·rw[ay,bN];refine⟨I.nd2,by simp,λa J y hy e=>?_⟩;rw[show y=D by simpa using hy]at e;exact ea (e▸J)
   have Sb:SS CB CC CL CS CF CT v Hb se r S B c L8 U (X++[(q,D)]) (F8++[⟨x,Y,none⟩]):=⟨j.se.grow (eD.refl _) gb,i1,j.ok,fo,j.sep.1,λa J=>by
    rcases aD.mp J with z | z
    ·exact j.sep.2 a z
    ·rw[aj.mp z];exact⟨ba,bq⟩⟩
   have f8:iY N U Hb U:=λy u hy fy ny=>by
    have n1:y≠q:=et hy L;have n2:y≠B:=λz=>by rw[z,I.l]at hy;cases hy;exact fy
    exact⟨by rw[b9 y n1 n2];exact sm _ _ hy,ny⟩
   have a2:=co.keep f8;have ct:=gb.ins a5;have kd:kF c ⟨x,Y,none⟩:=⟨hx,b6,λk hk=>nomatch hk⟩;have em:F8.length<c.n+1:=by
    have:=d.depth;rw[cf]at this
    lia
   have fp:=c.K9 ⟨x,Y,none⟩ (c.n+1) F8 em;obtain⟨is,jn,f7⟩:=a2.fix;have ag:∀{G':Hp},yE Hb U v G'->G' PP=none:=λ{G'} ox=>ox PP is jn f7 a2.2.1 b3;refine⟨_,rfl,se,ah,_,rfl,ct,(by kernel_rfl),v,se,r,S,B,c,L8,U,X++[(q,D)],F8,⟨x,Y,none⟩,rfl,Sb,d,kd,ez,λG' H' L' O' A' F' s' d' b4 b5 b7 S' ec eb c7 h7 hv j2 ko=>?_,λG' H' L' O' A' F' e' b4 b5 b7 S' ek dx=>?_⟩
   ·have b8:=a2.keep b5;refine⟨c.mv (c.n+1) F'+1,by lia,G',L',O',A',F',a1.trans b4,S',b8,ag b7,.inr ⟨s',d',rfl,rfl,ec,eb,c7,h7,hv,j2⟩⟩
   ·have b8:=a2.keep b5;exact⟨0,Nat.succ_pos _,G',L',O',A',F',a1.trans b4,S',b8,ag b7,.inl ⟨rfl,rfl,e',ek,dx⟩⟩
end
end
section
variable {m:Nat}
def uq (Vs:List Int):List Str->List (List (Option Int))
 |[]=>[[]]
 |_::ps=>(none::Vs.map some).flatMap λo=>(uq Vs ps).map λr=>o::r
theorem qN (Vs:List Int):∀ps:List Str,(uq Vs ps).length<=(Vs.length+1)^ps.length
 |[]=>ao _
 |_::ps=>by
  have ih:=qN Vs ps;have h:=nr (f:=λo:Option Int=>(uq Vs ps).map λr=>o::r) (n:=(Vs.length+1)^ps.length) (l:=none::Vs.map some) λo _=>by rw[ab];exact ih
  rw[aE,ab]at h;rw[aE,cN,Nat.mul_comm];exact h
def el.Mc (c:el)(m:Nat)(x:Str):Option Int:=((c.listed m).find? λk=>decide (k.1=x)).map (·.2)
def el.code (c:el)(Ps:List Str)(m:Nat):List (Option Int):=Ps.map (c.Mc m)
theorem qr {c:el}(b:c.KO m){k:Pk}(a:c.has m k):c.Mc m k.1=some k.2:=by
 unfold el.Mc;cases h:(c.listed m).find? λj=>decide (j.1=k.1) with
 |none=>
  have:=dP.mp h k (el.Kx.mpr a);simp at this
 |some j=>
  have d:j.1=k.1:=by simpa using List.find?_some h
  have e:=el.Kx.mp (bX h);rw[b j k e a d];rfl
theorem oK {c:el}{x:Str}{v:Int}(h:c.Mc m x=some v):c.has m (x,v):=by
 unfold el.Mc at h;obtain⟨j,a,e⟩:=az.mp h;have d:j.1=x:=by simpa using List.find?_some a
 have b:=el.Kx.mp (bX a);have:j=(x,v):=Prod.ext d e;rw[<-this];exact b
theorem wS {c:el}{Vs:List Int}(hv:∀k∈c.ks,k.2∈Vs)(m:Nat):∀Ps:List Str,c.code Ps m∈uq Vs Ps
 |[]=>aj.mpr rfl
 |x::ps=>by
  refine List.mem_flatMap.mpr ⟨c.Mc m x,?_,aw.mpr ⟨c.code ps m,wS hv m ps,rfl⟩⟩;cases h:c.Mc m x with
  |none=>exact bt
  |some v=>exact bc _ (bn (hv (x,v) (oK h).1))
theorem AS {c:el}{Ps:List Str}(hp:∀k∈c.ks,k.1∈Ps){m':Nat}(g:m<2^c.n)(b:m'<2^c.n)(l:c.KO m)(j:c.KO m')(h:c.code Ps m=c.code Ps m'):m=m':=by
 have key:∀x∈Ps,c.Mc m x=c.Mc m' x:=λx p=>by
  obtain⟨i,e⟩:=aC.mp p;have d:(c.code Ps m)[i]?=some (c.Mc m x):=by unfold el.code;rw[ae,e];rfl
  have o:(c.code Ps m')[i]?=some (c.Mc m' x):=by unfold el.code;rw[ae,e];rfl
  rw[h,o]at d;exact(Option.some.inj d).symm
 refine el.ext g b λk=>⟨λa=>?_,λa=>?_⟩
 ·have:=qr l a;rw[key k.1 (hp k a.1)]at this;exact oK this
 ·have:=qr j a;rw[<-key k.1 (hp k a.1)]at this;exact oK this
theorem yc {c:el}{L:ir}{Ps:List Str}{Vs:List Int}(d:gQ c L)(hp:∀k∈c.ks,k.1∈Ps)(m:∀k∈c.ks,k.2∈Vs):L.length<=(Vs.length+1)^Ps.length:=by
 have p:(L.map λe=>c.code Ps e.1).Nodup:=by
  refine cw.mpr ?_;have l:L.Pairwise λa b=>a.1≠b.1:=cw.mp d.nd;exact l.imp_of_mem λh j g z=>g (AS hp (d.lt _ h) (d.lt _ j) (d.one _ h) (d.one _ j) z)
 have i:(L.map λe=>c.code Ps e.1).length<=(uq Vs Ps).length:=kT p λr o=>by
  obtain⟨e,_,rfl⟩:=aw.mp o;exact wS m e.1 Ps
 rw[ab]at i;exact bz i (qN Vs Ps)
end
section
seal mj PS PE PT PA
structure vZ (K:W.Frag)(mg:Str->Option Value):Prop where
 len:mg "len" = none
 range:mg "range" = none
 list:mg "list" = none
 tuple:mg "tuple" = none
 str:mg "str" = none
 int:mg "int" = none
 bool:mg "bool" = none
 isin:mg "isinstance" = none
 sorted:mg "sorted" = none
 rev:mg "reversed" = none
inductive Gy (K:W.Frag)(vs:List V)(H:Hp)(Q:VK)(E:XK):Prop
 |mk (a:Addr)(ns:List Int)(k:Int)(_:vs=[.ref a,.int k])(_:eX K H a (ns.map V.int))(_:0<=k)(_:∀z,Q (.int z) H)
def wm:List Int:=[9,10,-10,100,0,-1,10^30]
inductive EK (vs:List V)(H:Hp)(Q:VK)(E:XK):Prop
 |mk (c:Int)(_:vs=[.int c])(_:∀z H',eF H H'->z∈wm->Q (.int z) H')
inductive AZ (vs:List V)(H:Hp)(Q:VK)(E:XK):Prop
 |mk (c:Int)(_:vs=[.int c])(_:∀q (n:Nd) H',eF H H'->H q=none->H' q=some (.tup [.str n.1,.int n.2.1,.int n.2.2])->fK n.1->Q (.ref q) H')
inductive oG (K:W.Frag)(vs:List V)(H:Hp)(Q:VK)(E:XK):Prop
 |mk (v:V)(n:Nd)(z:Int)(_:vs=[v,.int z])(_:fJ H v n)(_:Q (.bl (decide (n.2.1<=z)&&decide (z<=n.2.2))) H)
section
variable {P:Program}{w:World}{K:W.Frag}{mg:Str->Option Value}{base:Heap}{f:Addr}{fd:FuncData}
theorem Ii:eM ["_law_script","_law_k"] ["_law_script","_law_k"] (eB Ik):=i4
theorem Gb (F:iL K "_law_at" "_law_at" Ik f fd)(T:vZ K mg):fi P w K mg base fB 1 f fd ["_law_script","_law_k"] (Gy K):=by
 refine F.ok Ii λg A b s H o Q E m h=>?_;obtain⟨a,i,k,rfl,e,j,q⟩:=h;refine⟨_,ee (fz (fC wz (pv 1) (eW fj rfl T.len bp (dZ (pv 0) eg)) (fO _)) (eo (eQ (eG fc (pv 0) (pv 1)))) eP) (eo (eQ er)),?_⟩;refine⟨_,rfl,_,rfl,a,_,rfl,.inl e,_,_,rfl,rfl,_,rfl,?_⟩;refine jO (λc=>?_) (λc=>?_)
 ·have d:k<(((i.map V.int).length:Nat):Int):=aV c;rw[ab]at d;obtain⟨z,l,_⟩:=kK j d;exact⟨_,rfl,_,rfl,a,_,_,_,rfl,rfl,e,l,q z⟩
 ·exact q 0
theorem FI:eM ["_law_cell"] ["_law_cell"] (eB DQ):=i4
theorem D4 (F:iL K "_law_version_by" "_law_version_by" DQ f fd):fi P w K mg base fB 1 f fd ["_law_cell"] EK:=by
 refine F.ok FI λe A d s H j Q E g h=>?_;obtain⟨c,rfl,q⟩:=h;refine⟨_,ee (fz (fC km (fe j7 (pv 0) er) er (fO _)) (eo (eQ (eG fc (gM (dZ er (dZ er (dZ (jb j6 er) (dZ er eg))))) (fe j7 (fe jx (pv 0) er) er)))) eP) (eo (eQ (eG fc (gM (dZ er (dZ (jb j6 er) (dZ (fe u5 er er) eg)))) (fe j7 (pv 0) er)))),?_⟩;refine⟨_,rfl,_,_,rfl,rfl,(by show(0:Int)<7;decide),rfl,_,rfl,?_⟩;refine jO (λ_=>?_) (λ_=>?_)
 ·refine⟨_,rfl,Fl,λp hp=>?_⟩;obtain⟨z,b,a⟩:=kK (ns:=[9,10,-10,100]) (i:=c / 7 % 4) (du _ (by decide)) (cH _ (by decide));exact⟨_,rfl,_,_,rfl,rfl,⟨by decide,by decide⟩,_,_,rfl,rfl,(by show(0:Int)<4;decide),p,_,_,_,rfl,rfl,eX.of d0,b,q z _ (eA hp _) (aP [0,-1,10^30] a)⟩
 ·refine⟨_,rfl,_,_,rfl,rfl,⟨by decide,by decide,by decide⟩,Ff,λp hp=>?_⟩;obtain⟨z,b,a⟩:=kK (ns:=[0,-1,10^(30:Int).toNat]) (i:=c % 3) (du _ (by decide)) (cH _ (by decide));exact⟨_,rfl,_,_,rfl,rfl,(by show(0:Int)<3;decide),p,_,_,_,rfl,rfl,eX.of d0,b,q z _ (eA hp _) (aO [9,10,-10,100] a)⟩
theorem zN:fK "ashenashenashen":=⟨by decide +kernel,by decide +kernel⟩
theorem zM:fK "as":=⟨by decide +kernel,by decide +kernel⟩
theorem zL:fK "":=⟨by decide +kernel,by decide +kernel⟩
theorem zK:fK "ashenashxnashen":=⟨by decide +kernel,by decide +kernel⟩
theorem F0 {xs:List V}(h:xs=[.str "ashenashenashen",.str "as",.str "",.str "ashenashxnashen"]\/xs=[.str "as",.str "ashenashenashen",.str "ashenashxnashen",.str ""]){v:V}(a:v∈xs):∃x,v=.str x/\fK x:=by
 rcases h with rfl | rfl <;> simp only[am,aR,or_false]at a <;> rcases a with rfl | rfl | rfl | rfl
 ·exact⟨_,rfl,zN⟩
 ·exact⟨_,rfl,zM⟩
 ·exact⟨_,rfl,zL⟩
 ·exact⟨_,rfl,zK⟩
 ·exact⟨_,rfl,zM⟩
 ·exact⟨_,rfl,zN⟩
 ·exact⟨_,rfl,zK⟩
 ·exact⟨_,rfl,zL⟩
theorem rh:eM ["_law_cell","_law_part","_law_low","_law_high"] ["_law_cell"] (eB zb):=i4
theorem Ca (F:iL K "_law_need_by" "_law_need_by" zb f fd)(G:Gd P w K mg base fB 1 "_law_version_by" ["_law_cell"] EK):fi P w K mg base fB 2 f fd ["_law_cell"] AZ:=by
 refine F.ok rh λo A d s H I Q E t h=>?_;obtain⟨c,rfl,q⟩:=h;refine⟨_,ee (eJ (i:=1) rh.nd (eG fc (gM (dZ jd (dZ jd (dZ jd (dZ jd eg))))) (fe j7 (pv 0) er))) (ee (eJ (i:=2) rh.nd (fN G t (dZ (fe jx (pv 0) er) eg))) (ee (eJ (i:=3) rh.nd (eG fc (gM (dZ er (dZ (jb j6 er) (dZ (fe u5 er er) (dZ (fe u5 er er) (dZ (pv 2) (dZ (jb j6 er) eg))))))) (fe j7 (fe jx (pv 0) er) er))) (eo (eQ (gL (dZ (pv 1) (dZ (pv 2) (dZ (pv 3) eg)))))))),?_⟩;refine⟨Fl,λp hp=>?_⟩;obtain⟨v,D,C⟩:=vM (xs:=[.str "ashenashenashen",.str "as",.str "",.str "ashenashxnashen"]) (i:=c % 4) (du _ (by decide)) (cH _ (by decide));obtain⟨x,rfl,B⟩:=F0 (.inl rfl) C;refine⟨_,rfl,_,_,rfl,rfl,(by show(0:Int)<4;decide),p,_,_,_,rfl,rfl,eX.of d0,D,?_⟩;have y:=eA hp (.lst [.str "ashenashenashen",.str "as",.str "",.str "ashenashxnashen"]);refine⟨_,rfl,_,_,rfl,rfl,⟨by decide,by decide⟩,_,rfl,λg J m _=>?_⟩;refine⟨_,rfl,_,_,rfl,rfl,⟨by decide,by decide,by decide⟩,_,_,rfl,rfl,⟨by decide,by decide,by decide⟩,_,rfl,_,rfl,Jv,λl e=>?_⟩;obtain⟨z,b,_⟩:=kK (ns:=[0,-1,10^(30:Int).toNat,10^(30:Int).toNat,g,-9]) (i:=c / 12 % 6) (du _ (by decide)) (cH _ (by decide));refine⟨_,rfl,_,_,rfl,rfl,⟨by decide,by decide⟩,_,_,rfl,rfl,(by show(0:Int)<6;decide),l,_,_,_,rfl,rfl,eX.of d0,b,?_⟩;have j:=(y.trans m).trans (eA e (.lst [.int 0,.int (-1),.int (10^(30:Int).toNat),.int (10^(30:Int).toNat),.int g,.int (-9)]));refine⟨_,rfl,_,rfl,_,rfl,Ff,λr a=>?_⟩;exact q r (x,g,z) _ (j.trans (eA a _)) (j.free a) d0 B
theorem Id:eM ["_law_need","_law_version"] ["_law_need","_law_version"] (eB rG):=i4
theorem xK (F:iL K "_law_meets" "_law_meets" rG f fd):fi P w K mg base fB 1 f fd ["_law_need","_law_version"] (oG K):=by
 refine F.ok Id λe A a s H i Q E g h=>?_;obtain⟨v,n,z,rfl,⟨b,rfl,d⟩,q⟩:=h;refine⟨_,eo (eQ (lg (jU wA (eG eN (pv 0) er) (pv 1) (fO _)) (lZ (jU wA (pv 1) (eG eN (pv 0) er) (fO _))))),?_⟩;refine⟨_,rfl,b,_,_,_,rfl,rfl,gs.of d,rfl,_,rfl,_,_,rfl,rfl,_,rfl,?_⟩;refine jO (λc=>?_) (λc=>?_)
 ·refine⟨_,rfl,_,rfl,b,_,_,_,rfl,rfl,gs.of d,rfl,_,_,rfl,rfl,?_⟩;rw[c,cq]at q;exact q
 ·rw[bT.mpr c,bU]at q;exact q
end
end
end FB
namespace L2
open PySem PyProof.Rows
theorem ke {X:Cx}{x:Str}{n:String}{pos:Pos}(a:Gl X x)(b:X.mg x=none)(d:bootBuiltins x=some (.type n))(hn:x≠"__name__":=by decide)(hd:(x == ("__debug__":Str))=false:=by decide):PE X (.Name x pos) (tC (.ty n)):=
 BV (v:=.ty n) a b d rfl hn hd
end L2
namespace FB
open PySem L2 PyProof.Rows
seal mj PS PE PT PA
theorem su (K:W.Frag):W.kitOne K (.type "list") (.type "list")=some true:=by kernel_rfl
theorem ng (K:W.Frag):W.kitOne K (.type "tuple") (.type "tuple")=some true:=by kernel_rfl
theorem At (K:W.Frag):W.kitOne K (.type "str") (.type "str")=some true:=by kernel_rfl
theorem Ei (K:W.Frag):W.kitOne K (.type "int") (.type "int")=some true:=by kernel_rfl
theorem Ej (K:W.Frag):W.kitOne K (.type "int") (.type "bool")=some false:=by kernel_rfl
theorem CG (ds:List PyData):PyData.eqv (.list ds) (.list [])=ds.isEmpty:=by
 cases ds <;> simp[PyData.eqv,PyData.eqvAll]
theorem yf {α:Type}(xs:List α)(x:α):(xs++[x])[(xs++[x]).length-1]?=some x:=by simp
section
variable {P:Program}{w:World}{K:W.Frag}{mg:Str->Option Value}{base:Heap}{f:Addr}{fd:FuncData}
end
end FB
namespace L2
open PySem PyProof.Rows
def wu (K:W.Frag):List V->Hp->VK->Prop:=λxs H Q=>∃p ys,xs=[.ref p]/\(eX K H p ys\/gs K H p ys)/\∀l,H l=none->Q (.ref l) (upd H l (.lst ys))
theorem vI {X:Cx}:jv X (.type "list") (wu X.K):=ig
end L2
namespace FB
open PySem L2 PyProof.Rows
section
seal mj PS PE PT PA
variable {K:W.Frag}{P:Program}{fd:FuncData}{mg:Str->Option Value}{w:World}
theorem Gh:(["_law_k","_law_script"]:List Str).Nodup:=by decide +kernel
theorem Gm:(["_law_entry"]:List Str).Nodup:=by decide +kernel
inductive vU (K:W.Frag)(vs:List V)(H:Hp)(Q:VK)(E:XK):Prop
 |mk (a:Addr)(ns:List Int)(_:vs=[.ref a])(_:eX K H a (ns.map V.int))(_:ns.length<=1000)(_:∀p (ms:List Int) H',eF H H'->H' p=some (.lst (ms.map V.int))->ms.length=ns.length->Q (.ref p) H')
inductive xf (vs:List V)(H:Hp)(Q:VK)(E:XK):Prop
 |mk (a:Addr)(es:List En)(_:vs=[.ref a])(_:iM H a es)(_:es.length<=1000)(_:∀p H',eF H H'->iM H' p es->Q (.ref p) H')
inductive wZ (K:W.Frag)(vs:List V)(H:Hp)(Q:VK)(E:XK):Prop
 |mk (a:Addr)(v:V)(es:List En)(n:Nd)(_:vs=[.ref a,v])(_:iM H a es)(_:fJ H v n)(_:es.length<64)(_:∀p (ms:List Int) H',eF H H'->H' p=some (.lst (ms.map V.int))->ms.Perm (iW es n)->ms.Pairwise (·<=·)->∀p',H' p'=none->Q (.ref p') (upd H' p' (.lst (ms.map V.int).reverse)))
section
variable {base:Heap}{f:Addr}
theorem Ic:eM ["_law_script"] ["_law_script"] (eB uR):=i4
theorem zZ (F:iL K "_law_mixed" "_law_mixed" uR f fd)(T:vZ K mg):fi P w K mg base fB 1 f fd ["_law_script"] (vU K):=by
 refine F.ok Ic λL A p s H N Q E R h=>?_;obtain⟨a,ns,rfl,I,O,q⟩:=h;refine⟨_,eo (eQ (iQ (N':=["_law_k","_law_script"]) (n:=1) (js:=[0]) rfl (iG.one (c:=s.heap.objs.size+1) (y:="_law_script")) (ip (by decide)) (jC rfl T.range (dZ (eW fj rfl T.len bp (dZ (pv 0) eg)) eg)) (λC G d x=>eL (i:=0) Gh) (λC G d x=>jw) (λC G d x=>fe j7 (fe rX (fe lh (eG (r:=FX K) fc (pv 1) (pv 0) (λ_ _=>rfl)) (fe rX er (pv 0))) er) er))),?_⟩;have b:(ns.map V.int).length=ns.length:=ab _;refine⟨_,rfl,a,_,rfl,.inl I,_,rfl,by rw[b];lia,by rw[b];lia,?_⟩;refine vH (λD i g d=>∃e:List Int,g=e.map V.int/\e.length=i/\d D=some (.lst g)/\eF H d/\H D=none) (λD B=>⟨[],rfl,rfl,d0,eA B _,B⟩) (λD i g d t ⟨e,j,o,l,m,_⟩=>⟨l,?_⟩) (λD i g d t ⟨e,j,o,l,m,v⟩=>?_) (λD g d ⟨e,j,o,l,m,_⟩=>?_)
 ·rw[j,ab];exact eO (by rw[b]at t;lia)
 ·have M:((i:Nat):Int)<(ns.length:Int):=by rw[b]at t;lia
  obtain⟨z,J,_⟩:=kK (ns:=ns) (i:=0+(i:Int)) (by lia) (by lia);unfold jq qb;dsimp only;rw[ax rfl];refine⟨_,rfl,_,rfl,a,_,_,_,rfl,rfl,m.seq I,J,_,rfl,_,_,rfl,rfl,.inl ⟨by decide,by decide⟩,_,_,rfl,rfl,_,_,rfl,rfl,.inr ⟨by decide,by decide⟩,_,_,rfl,rfl,(by show(0:Int)<1000003;decide),l,?_⟩;exact⟨e++[_],by rw[j,ay];rfl,by rw[aF,o];rfl,d0,eF.upd m v,v⟩
 ·exact q D e d m (j▸l) (by rw[o,br,b])
theorem Ig:eM ["_law_shelf"] ["_law_shelf"] (eB zk):=i4
theorem Ch (F:iL K "_law_copy_of" "_law_copy_of" zk f fd)(T:vZ K mg):fi P w K mg base fB 1 f fd ["_law_shelf"] xf:=by
 refine F.ok Ig λaa A N s H vs Q E hr h=>?_;obtain⟨a,B,rfl,⟨xs,hx,hp⟩,hl,q⟩:=h;refine⟨_,eo (eQ (iQ (N':=["_law_entry"]) (n:=1) (js:=[]) rfl (iG.closed) (ip (by decide)) (fD (pv 0)) (λC j b X=>eL (i:=0) Gm) (λC j b X=>jw) (λC j b X=>gL (dZ (eG (r:=xt K) eN (pv 0) er (λ_ _=>rfl)) (dZ (eG (r:=xt K) eN (pv 0) er (λ_ _=>rfl)) (dZ (gX (r:=wu K) vI rfl T.list cM (dZ (eG (r:=xt K) eN (pv 0) er (λ_ _=>rfl)) eg)) eg)))))),?_⟩;have lx:xs.length=B.length:=Paired.length hp;refine⟨_,rfl,a,rfl,⟨xs,eX.of hx⟩,?_⟩;refine ik (xs:=xs) (λD i m b=>Paired (jQ (del b [D])) m (B.take i)/\b D=some (.lst m)/\eF H b/\H D=none) (λD Y=>⟨by simpa using Paired.nil,d0,eA Y _,Y⟩)
  (λD i m b hi ⟨p,d,g,_⟩=>⟨eX.of (g _ _ hx),d,?_⟩) (λD i x m b hi ⟨p,d,g,R⟩=>?_) (λD m b ⟨p,d,g,R⟩=>?_)
 ·rw[Paired.length p,aT];exact eO (by lia)
 ·obtain⟨e,he,J,na,M,rfl,h1,h2,h3⟩:=Paired.Kq hp hi;have O:=g _ _ h1;have g2:=g _ _ h2;unfold jq qb;dsimp only;rw[ax rfl];refine⟨_,rfl,J,_,_,_,rfl,rfl,gs.of O,rfl,_,rfl,J,_,_,_,rfl,rfl,gs.of O,rfl,_,rfl,J,_,_,_,rfl,rfl,gs.of O,rfl,na,_,rfl,.inl (eX.of g2),λG t=>?_⟩;have s1:eF b (upd b G (.lst M)):=eA t _;refine⟨Ff,λZ l=>?_⟩;have j:=s1.trans (eA l (.tup [.str e.1,.int e.2.1,.ref G]));have L:G≠D:=Ne.symm (et d t);have S:Z≠D:=Ne.symm (et (s1 _ _ d) l);refine⟨j _ _ d,?_,d0,eF.upd (g.trans j) R,R⟩;have ht:B.take (i+1)=B.take i++[e]:=by rw[aX,he];rfl
  rw[ht,lK (by simp)];refine Paired.snoc (Paired.J4 p λ_ _=>jQ.same (eF.del j [D])) ⟨Z,G,M,rfl,?_,?_,?_⟩
  ·rw[eE (by simpa using S)];exact d0
  ·rw[eE (by simpa using L),ef (Ne.symm (et (o:=.lst M) d0 l).symm)];exact d0
  ·refine Paired.J4 h3 λv n z=>?_;obtain⟨q1,I,U⟩:=z;have y:=g _ _ U;refine⟨q1,I,?_⟩;rw[eE (by simpa using fh y d (by intro z;cases z))];exact j _ _ y
 ·rw[lx,aI]at p;exact q D b g ⟨m,d,Paired.J4 p λ_ _=>jQ.same (fq _ _)⟩
theorem DJ:eM ["_law_shelf","_law_need","_law_found","_law_entry"] ["_law_shelf","_law_need"] (eB rB):=i4
theorem xI (F:iL K "_law_newest" "_law_newest" rB f fd)(T:vZ K mg)(G:Gd P w K mg base fB 1 "_law_meets" ["_law_need","_law_version"] (oG K)):fi P w K mg base fB 2 f fd ["_law_shelf","_law_need"] (wZ K):=by
 refine F.ok DJ λY A D s H vs Q E Z h=>?_;obtain⟨a,v,l,n,rfl,⟨xs,O,hp⟩,hn,hl,q⟩:=h;refine⟨_,(ee (eJ (i:=2) DJ.nd (gM eg)) (ee (fG (fD (pv 0)) (eL (i:=3) DJ.nd) (eo (fz (PW.pt (kY (fC km (eG eN (pv 3) er) (eG eN (pv 1) er) (fO _)) (jR (gH (fN G Z (dZ (pv 1) (dZ (eG eN (pv 3) er) eg))))))) (eo (gm (ju PySem.F.plainAttrs_list PySem.F.slot_list_append PySem.F.type_list_append gR (pv 2) (dZ (eG eN (pv 3) er) eg)))) eP))) (eo (eQ (BP rfl rfl T.list rfl T.rev (eW uu rfl T.sorted boot_sorted (dZ (pv 2) eg))))))),?_⟩;have X:xs.length=l.length:=Paired.length hp;obtain⟨t,rfl,N⟩:=hn;refine⟨tH,λy j=>?_⟩;refine⟨_,rfl,a,rfl,⟨xs,eX.of (eA j _ _ _ O)⟩,fQ (K:=K) (a:=a) (xs:=xs) (λi σ m=>∃e,σ=[some (.ref a),some (.ref t),some (.ref y),e]/\eF H m/\m y=some (.lst ((iW (l.take i) n).map V.int))) ⟨none,rfl,eA j _,by simpa [iW] using d0⟩ ((by rintro i σ m _ ⟨_,_,d,_⟩;exact eX.of (d _ _ O))) ?_ ?_⟩
 ·rintro i x σ m hi ⟨o,rfl,d,g⟩;obtain⟨e,he,B,na,zs,rfl,h3,h4,h5⟩:=Paired.Kq hp hi;have J:=d _ _ h3;have R:=d _ _ N;have U:l.take (i+1)=l.take i++[e]:=by rw[aX,he];rfl
  have b:=vt (l.take i) e n;rw[<-U]at b;refine⟨_,rfl,B,_,_,_,rfl,rfl,gs.of J,rfl,_,rfl,t,_,_,_,rfl,rfl,gs.of R,rfl,rfl,_,rfl,?_⟩;rw[jY];refine jO (λc=>?_) (λc=>?_)
  ·refine⟨_,rfl,_,rfl,B,_,_,_,rfl,rfl,gs.of J,rfl,.ref t,n,e.2.1,rfl,⟨t,rfl,R⟩,_,rfl,?_⟩;refine jO (λI=>?_) (λI=>?_)
   ·have r:iS n e=true:=by unfold iS;rw[c,I];rfl
    rw[ax r]at b;refine⟨_,rfl,.inl ⟨rfl,_,eX.of g⟩,_,rfl,B,_,_,_,rfl,rfl,gs.of J,rfl,y,_,_,rfl,rfl,g,?_,?_⟩
    ·rw[ab];have:=jz (l.take i) n;rw[aT]at this;exact eO (by lia)
    ·refine⟨_,rfl,eF.upd d j,?_⟩;rw[d0,b,ay];rfl
   ·have r:¬iS n e=true:=by unfold iS;rw[c,cq];exact I
    rw[av r]at b;exact⟨_,rfl,d,by rw[b];exact g⟩
  ·have r:¬iS n e=true:=by unfold iS;rw[bT.mpr c];simp
   rw[av r]at b;exact ff ⟨_,rfl,d,by rw[b];exact g⟩
 ·rintro σ m ⟨o,rfl,d,g⟩;rw[X,aI]at g;have aa:=jz l n;refine⟨_,rfl,y,_,rfl,eX.of g,by lia,λp S z L M=>?_⟩;refine⟨p,_,rfl,eX.of d0,λp' C=>?_⟩;exact q p S _ (d.trans (eA z _)) d0 L M p' C
end
inductive uy (K:W.Frag)(vs:List V)(H:Hp)(Q:VK)(E:XK):Prop
 |mk (a:Addr)(ns:List Int)(_:vs=[.ref a])(_:eX K H a (ns.map V.int))(_:ns.length<=63)(_:∀p (sn:List Nd) H',eF H H'->gv H' p sn->(∀n∈sn,fK n.1)->sn.length<=ns.length->Q (.ref p) H')
inductive pY (vs:List V)(H:Hp)(Q:VK)(E:XK):Prop
 |mk (a:Addr)(v:V)(es:List En)(k:Pk)(_:vs=[.ref a,v])(_:iM H a es)(_:fg H v k)(_:(es.map eU).Nodup)(_:∀e∈es,eU e=k->∀na zs,H na=some (.lst zs)->Paired (fJ H) zs e.2.2->Q (.ref na) H)(_:k∉es.map eU->Q .non H)
theorem D9:(["_law_cell"]:List Str).Nodup:=by decide +kernel
section
variable {base:Heap}{f:Addr}
theorem FK:eM ["_law_cells"] ["_law_cells"] (eB oQ):=i4
theorem u7 (F:iL K "_law_start_by" "_law_start_by" oQ f fd)(G:Gd P w K mg base fB 2 "_law_need_by" ["_law_cell"] AZ):fi P w K mg base fB 3 f fd ["_law_cells"] (uy K):=by
 refine F.ok FK λS A z s H vs Q E T h=>?_;obtain⟨a,v,rfl,R,hl,q⟩:=h;refine⟨_,eo (eQ (iQ (N':=["_law_cell"]) (n:=1) (js:=[]) rfl (iG.closed) (ip (by decide)) (fD (pv 0)) (λC O b M=>eL (i:=0) D9) (λC O b M=>jw) (λC O b M=>fN G T (dZ (fe lh (fe jx (pv 0) er) er) eg)))),?_⟩;have Y:(v.map V.int).length=v.length:=ab _;refine⟨_,rfl,a,rfl,⟨_,R⟩,?_⟩;refine ik (xs:=v.map V.int) (λD i e b=>∃d:List Nd,Paired (fJ (del b [D])) e d/\(∀n∈d,fK n.1)/\d.length<=i/\b D=some (.lst e)/\eF H b/\H D=none) (λD N=>⟨[],.nil,by simp,ao _,d0,eA N _,N⟩)
  (λD i e b I ⟨d,l,p,r,g,j,o⟩=>⟨j.seq R,g,?_⟩) (λD i x e b I ⟨d,l,p,r,g,j,o⟩=>?_) (λD e b ⟨d,l,p,r,g,j,o⟩=>?_)
 ·rw[Paired.length l];exact eO (by lia)
 ·rw[ae]at I;obtain⟨c,hc,rfl⟩:=az.mp I;unfold jq qb;dsimp only;rw[ax rfl];refine⟨_,rfl,_,_,rfl,rfl,⟨by decide,by decide⟩,_,_,rfl,rfl,_,rfl,λL n Z J B t hn=>?_⟩;have U:L≠D:=Ne.symm (et g B);refine⟨J _ _ g,d++[n],?_,λm X=>?_,by rw[aF,aU];lia,d0,eF.upd (j.trans J) o,o⟩
  ·rw[lK (by simp)];refine Paired.snoc (Paired.J4 l λ_ _=>fJ.same (eF.del J _)) ⟨L,rfl,?_⟩;rw[eE (by simpa using U)];exact t
  ·rcases aD.mp X with y | y
   ·exact p m y
   ·rw[aj.mp y];exact hn
 ·rw[Y]at r;exact q D d b j ⟨e,g,Paired.J4 l λ_ _=>fJ.same (fq _ _)⟩ p r
theorem FN:eM ["_law_shelf","_law_pick","_law_entry"] ["_law_shelf","_law_pick"] (eB oV):=i4
theorem ve (F:iL K "_law_needs_in" "_law_needs_in" oV f fd):fi P w K mg base fB 1 f fd ["_law_shelf","_law_pick"] pY:=by
 refine F.ok FN λT A q s H Z Q E hr h=>?_;obtain⟨a,v,d,k,rfl,⟨xs,D,hp⟩,⟨B,rfl,C⟩,U,O,Y⟩:=h;refine⟨_,(ee (fG (fD (pv 0)) (eL (i:=2) FN.nd) (eo (fz (PW.pt (kY (fC km (eG eN (pv 2) er) (eG eN (pv 1) er) (fO _)) (jR (fC km (eG eN (pv 2) er) (eG eN (pv 1) er) (fO _))))) (eo (eQ (eG eN (pv 2) er))) eP))) (eo (eQ iH))),?_⟩;have M:xs.length=d.length:=Paired.length hp;refine⟨_,rfl,a,rfl,⟨xs,eX.of D⟩,fQ (K:=K) (a:=a) (xs:=xs) (λi σ g=>∃o,σ=[some (.ref a),some (.ref B),o]/\g=H/\k∉(d.take i).map eU) ⟨none,rfl,rfl,by simp⟩ ((by rintro i σ g _ ⟨_,_,e,_⟩;exact e▸eX.of D)) ?_ ?_⟩
 ·rintro i x σ g X ⟨o,rfl,rfl,b⟩;obtain⟨e,I,j,S,L,rfl,t,N,R⟩:=Paired.Kq hp X;have J:d.take (i+1)=d.take i++[e]:=by rw[aX,I];rfl
  have step:¬eU e=k->k∉(d.take (i+1)).map eU:=λl G=>by
   rw[J,ay]at G;rcases aD.mp G with y | y
   ·exact b y
   ·rw[aG,cO,aj]at y;exact l y.symm
  refine⟨_,rfl,j,_,_,_,rfl,rfl,gs.of t,rfl,_,rfl,B,_,_,_,rfl,rfl,gs.of C,rfl,rfl,_,rfl,?_⟩;rw[jY];refine jO (λc=>?_) (λc=>?_)
  ·refine⟨_,rfl,j,_,_,_,rfl,rfl,gs.of t,rfl,_,rfl,B,_,_,_,rfl,rfl,gs.of C,rfl,rfl,_,rfl,?_⟩;refine jO (λr=>?_) (λr=>?_)
   ·have m:e.1=k.1:=aV c;have p:e.2.1=k.2:=V.int.inj (aV r);exact⟨_,rfl,j,_,_,_,rfl,rfl,gs.of t,rfl,O e (ai I) (Prod.ext m p) S L N R⟩
   ·refine⟨_,rfl,rfl,step λz=>r (aq ?_)⟩;rw[<-z];rfl
  ·refine ff ⟨_,rfl,rfl,step λz=>c (aq ?_)⟩;rw[<-z];rfl
 ·rintro σ g ⟨o,rfl,rfl,b⟩;rw[M,aI]at b;exact Y b
end
def ug:List Str:=["ashenashenashen","as","","ashenashxnashen"]
def Lw (e:En):Prop:=e.1∈ug/\e.2.1∈wm
theorem D0 {v:V}(a:v∈[V.str "as",V.str "ashenashenashen",V.str "ashenashxnashen",V.str ""]):∃x,v=.str x/\fK x/\x∈ug:=by
 simp only[am,aR,or_false]at a;rcases a with rfl | rfl | rfl | rfl
 ·exact⟨_,rfl,zM,by unfold ug;simp⟩
 ·exact⟨_,rfl,zN,by unfold ug;simp⟩
 ·exact⟨_,rfl,zK,by unfold ug;simp⟩
 ·exact⟨_,rfl,zL,by unfold ug;simp⟩
inductive AY (K:W.Frag)(vs:List V)(H:Hp)(Q:VK)(E:XK):Prop
 |mk (a:Addr)(ns:List Int)(_:vs=[.ref a])(_:eX K H a (ns.map V.int))(_:ns.length<=63)(_:∀p (es:List En) xs H',eF H H'->H p=none->H' p=some (.lst xs)->Paired (jQ (del H' [p])) xs es->(es.map eU).Nodup->(∀e∈es,lR e)->es.length<=ns.length->(∀e∈es,Lw e)->Q (.ref p) H')
inductive IQ (H:Hp)(a p t:Addr)(i:Nat)(σ:L2.St)(H2:Hp):Prop
 |mk (es:List En)(xs ys:List V)(o3 o4 o5 o6 o7 o8:Option V)(_:σ=[some (.ref a),some (.ref p),some (.ref t),o3,o4,o5,o6,o7,o8])(_:H2 p=some (.lst xs))(_:H2 t=some (.lst ys))(_:Paired (jQ (del H2 [p,t])) xs es)(_:Paired (fg (del H2 [p,t])) ys (es.map eU))(_:(es.map eU).Nodup)(_:∀e∈es,lR e/\Lw e)(_:es.length<=i)
structure JS (H:Hp)(a p t:Addr)(i:Nat)(σ:L2.St)(H2:Hp):Prop where
 ex:IQ H a p t i σ H2
 sm:eF H H2
inductive IT (Hb:Hp)(p t nd:Addr)(σ0:Option V->L2.St)(j:Nat)(σ:L2.St)(H6:Hp):Prop
 |mk (zs:List V)(nds:List Nd)(o8:Option V)(_:σ=σ0 o8)(_:H6 nd=some (.lst zs))(_:Paired (fJ (del H6 [p,t,nd])) zs nds)(_:∀n∈nds,fK n.1)(_:nds.length<=j)
structure JT (Hb:Hp)(p t nd:Addr)(σ0:Option V->L2.St)(j:Nat)(σ:L2.St)(H6:Hp):Prop where
 ex:IT Hb p t nd σ0 j σ H6
 sm:eF Hb H6
section
variable {base:Heap}{f:Addr}
theorem rg:eM ["_law_cells","_law_shelf","_law_there","_law_k","_law_cell","_law_part","_law_pick","_law_needs","_law_j"] ["_law_cells"] (eB uP):=i4
theorem zW (F:iL K "_law_shelf_by" "_law_shelf_by" uP f fd)(T:vZ K mg)(G:Gd P w K mg base fB 1 "_law_version_by" ["_law_cell"] EK)(G2:Gd P w K mg base fB 2 "_law_need_by" ["_law_cell"] AZ):fi P w K mg base fB 3 f fd ["_law_cells"] (AY K):=by
 refine F.ok rg λct A b9 s H vs Q E hr h=>?_;obtain⟨a,ns,rfl,hS,hl,q⟩:=h;have bv:gK 1 _:=hr.mono (by decide);refine⟨_,(ee (eJ (i:=1) rg.nd (gM eg)) (ee (eJ (i:=2) rg.nd (gM eg)) (ee (fG (jC rfl T.range (dZ (eW fj rfl T.len bp (dZ (pv 0) eg)) eg)) (eL (i:=3) rg.nd) (ee (eJ (i:=4) rg.nd (eG fc (pv 0) (pv 3))) (ee (eJ (i:=5) rg.nd (eG fc (gM (dZ jd (dZ jd (dZ jd (dZ jd eg))))) (fe j7 (fe lh (pv 4) (pv 3)) er))) (ee (eJ (i:=6) rg.nd (gL (dZ (pv 5) (dZ (fN G bv (dZ (fe lh (fe jx (pv 4) er) (fe jx (pv 3) er)) eg)) eg)))) (ee (eJ (i:=7) rg.nd (gM eg)) (ee (fG (jC rfl T.range (dZ (eG fc (gM (dZ er (dZ er (dZ er (dZ er (dZ er (dZ er (dZ er (dZ er (dZ er (dZ er eg))))))))))) (fe j7 (fe jx (pv 4) er) er)) eg)) (eL (i:=8) rg.nd) (eo (gm (ju PySem.F.plainAttrs_list PySem.F.slot_list_append PySem.F.type_list_append gR (pv 7) (dZ (fN G2 hr (dZ (fe lh (fe lh (fe jx (pv 4) er) (fe rX er (pv 8))) (fe rX er (pv 3))) eg)) eg))))) (eo (fz (fC (mX hr.units) (pv 6) (pv 2) (by with_unfolding_all rfl)) (ee (gm (ju PySem.F.plainAttrs_list PySem.F.slot_list_append PySem.F.type_list_append gR (pv 2) (dZ (pv 6) eg))) (eo (gm (ju PySem.F.plainAttrs_list PySem.F.slot_list_append PySem.F.type_list_append gR (pv 1) (dZ (gL (dZ (eG eN (pv 6) er) (dZ (eG eN (pv 6) er) (dZ (pv 7) eg)))) eg))))) eP)))))))) (eo (eQ (pv 1)))))),?_⟩;have U:(ns.map V.int).length=ns.length:=ab _;refine⟨tH,λp hp=>⟨tH,λt ht=>?_⟩⟩;have s1:eF H (upd H p (.lst [])):=eA hp _;have an:p≠t:=et (o:=.lst []) d0 ht;have b1:H t=none:=s1.free ht;have s2:eF H (upd (upd H p (.lst [])) t (.lst [])):=s1.trans (eA ht _);refine⟨_,rfl,a,_,rfl,.inl (s2.seq hS),_,rfl,by rw[U];omega,by rw[U];omega,?_⟩;refine kA (λi σ H2=>JS H a p t i σ H2) ⟨⟨[],[],[],none,none,none,none,none,none,rfl,by rw[ef an];exact d0,d0,.nil,.nil,bM,by simp,ao _⟩,s2⟩ ?_ ?_
 ·rintro i σ H2 hi ⟨⟨es,xs,ys,o3,o4,o5,o6,o7,o8,rfl,ah,ba,L,J,Y,r,D⟩,sm⟩;have cv:((i:Nat):Int)<(ns.length:Int):=by rw[U,br]at hi;omega
  have co:i<ns.length:=by omega
  obtain⟨c,hc,_⟩:=kK (ns:=ns) (i:=0+(i:Int)) (by omega) (by omega);refine⟨_,rfl,_,rfl,a,_,_,_,rfl,rfl,sm.seq hS,hc,?_⟩;refine⟨Fl,λl1 bx=>?_⟩;obtain⟨v,hv,hm⟩:=vM (xs:=[.str "as",.str "ashenashenashen",.str "ashenashxnashen",.str ""]) (i:=(c+(0+(i:Int))) % 4) (du _ (by decide)) (cH _ (by decide));obtain⟨x,rfl,hx,bm⟩:=D0 hm;refine⟨_,rfl,_,rfl,_,_,rfl,rfl,_,_,rfl,rfl,(by show(0:Int)<4;decide),l1,_,_,_,rfl,rfl,eX.of d0,hv,?_⟩;have sa:=eA bx (.lst [.str "as",.str "ashenashenashen",.str "ashenashxnashen",.str ""]);refine⟨_,rfl,_,rfl,_,_,rfl,rfl,⟨by decide,by decide⟩,_,rfl,_,_,rfl,rfl,⟨by decide,by decide⟩,_,_,rfl,rfl,_,rfl,λz H3 s3 b3=>⟨tG,λg ch=>?_⟩⟩;have sb:eF H2 (upd H3 g (.tup [.str x,.int z])):=(sa.trans s3).trans (eA ch _);generalize b4:upd H3 g (.tup [.str x,.int z])=Hb at sb;have cl:Hb g=some (.tup [.str x,.int z]):=by rw[<-b4];exact d0
  have a0:=sb _ _ ah;have ad:=sb _ _ ba;refine⟨tH,λnd l=>?_⟩;have b6:nd≠p:=Ne.symm (et a0 l);have a3:nd≠t:=Ne.symm (et ad l);refine⟨HG,λl2 a7=>?_⟩;obtain⟨jn,hj,bq⟩:=kK (ns:=[0,1,2,0,1,2,0,1,2,4]) (i:=c / 12 % 10) (du _ (by decide)) (cH _ (by decide));have cs:0<=jn/\jn<=4:=by
   simp only[am,aR,or_false]at bq;omega
  refine⟨_,rfl,_,_,rfl,rfl,⟨by decide,by decide⟩,_,_,rfl,rfl,(by show(0:Int)<10;decide),l2,_,_,_,rfl,rfl,eX.of d0,hj,jn,rfl,by omega,by omega,?_⟩;have sd:eF Hb (upd (upd Hb nd (.lst [])) l2 (.lst [.int 0,.int 1,.int 2,.int 0,.int 1,.int 2,.int 0,.int 1,.int 2,.int 4])):=(eA l _).trans (eA a7 _);refine kA (λj σ H6=>JT Hb p t nd (λo8=>[some (.ref a),some (.ref p),some (.ref t),some (.int (0+(i:Int))),some (.int c),some (.str x),some (.ref g),some (.ref nd),o8]) j σ H6)
   ⟨⟨[],[],o8,rfl,by rw[ef (et (o:=.lst []) d0 a7)];exact d0,.nil,by simp,ao _⟩,sd⟩ ?_ ?_
  ·rintro j σ H6 cp ⟨⟨zs,X,bl,rfl,C,S,a2,cd⟩,Z⟩;refine⟨_,rfl,.inl ⟨rfl,_,eX.of C⟩,_,rfl,_,_,rfl,rfl,⟨by decide,by decide⟩,_,rfl,_,_,rfl,rfl,.inl ⟨by decide,by decide⟩,_,_,rfl,rfl,_,rfl,_,_,rfl,rfl,.inl ⟨by decide,by decide⟩,_,_,rfl,rfl,_,rfl,λq0 n M s7 al b7 hn=>?_⟩;have lz:=Paired.length S;refine⟨nd,_,_,rfl,rfl,s7 _ _ C,eO (by omega),⟨zs++[.ref q0],X++[n],_,rfl,d0,?_,?_,by rw[aF,aU];omega⟩,eF.upd (Z.trans s7) l⟩
   ·rw[lK (by simp)];refine Paired.snoc (Paired.J4 S λ_ _=>fJ.same (eF.del s7 _)) ⟨q0,rfl,?_⟩;rw[eE]
    ·exact b7
    ·simp only[am,aR,or_false,not_or];exact⟨Ne.symm (et (Z _ _ a0) al),Ne.symm (et (Z _ _ ad) al),Ne.symm (et C al)⟩
   ·intro m hm;rcases aD.mp hm with y | y
    ·exact a2 m y
    ·rw[aj.mp y];exact hn
  ·rintro σ H6 ⟨⟨zs,X,bl,rfl,C,S,a2,cd⟩,Z⟩;have aa:=Z _ _ a0;have I:=Z _ _ ad;have N:=Z _ _ cl;have B:eF H2 H6:=sb.trans Z;have b2:g≠p:=Ne.symm (fh aa N (by intro y;cases y));have a6:g≠t:=Ne.symm (fh I N (by intro y;cases y));have a4:Paired (fg H6) ys (es.map eU):=Paired.J4 J λ_ _ y=>fg.same ((eF.del B _).trans (fq _ _)) y;have b8:∀k∈es.map eU,fK k.1:=λk hk=>by
    obtain⟨e,he,rfl⟩:=aw.mp hk;exact(r e he).1.pt
   refine⟨_,rfl,_,rfl,mO (x,z),(es.map eU).map mO,fg.rep ⟨g,rfl,N⟩,.lst I (og (λ_ _ y=>fg.rep y) a4),(jF hx).1,lG b8,(jF hx).2,_,rfl,?_⟩;rw[nA];refine jO (λap=>?_) (λap=>?_)
   ·have a8:¬(x,z)∈es.map eU:=by
     intro y;rw[aq y]at ap;exact absurd ap (by decide)
    have ly:=Paired.length J;have lx:=Paired.length L;rw[ab]at ly;refine⟨_,rfl,.inl ⟨rfl,_,eX.of I⟩,_,rfl,t,_,_,rfl,rfl,I,eO (by omega),?_⟩;generalize d:upd H6 t (.lst (ys++[.ref g]))=M;have ag:M p=some (.lst xs):=by rw[<-d,ef an];exact aa
    have as:M g=some (.tup [.str x,.int z]):=by rw[<-d,ef a6];exact N
    have cn:M nd=some (.lst zs):=by rw[<-d,ef a3];exact C
    have a5:M t=some (.lst (ys++[.ref g])):=by rw[<-d];exact d0
    refine⟨_,rfl,.inl ⟨rfl,_,eX.of ag⟩,_,rfl,g,_,_,_,rfl,rfl,gs.of as,rfl,_,rfl,g,_,_,_,rfl,rfl,gs.of as,rfl,_,rfl,Ff,λen a1=>?_⟩;have s8:=eA a1 (.tup [.str x,.int z,.ref nd]);have b5:en≠p:=Ne.symm (et ag a1);have bf:en≠t:=Ne.symm (et a5 a1);refine⟨p,xs,_,rfl,rfl,s8 _ _ ag,eO (by omega),?_⟩;have d9:del (upd (upd M en (.tup [.str x,.int z,.ref nd])) p (.lst (xs++[.ref en]))) [p,t]=del (upd M en (.tup [.str x,.int z,.ref nd])) [p,t]:=lK (by simp);have d7:del M [p,t]=del H6 [p,t]:=by rw[<-d];exact lK (by simp)
    have a9:eF (del H2 [p,t]) (del (upd M en (.tup [.str x,.int z,.ref nd])) [p,t]):=(eF.del B _).trans (d7▸eF.del s8 _);refine⟨⟨es++[(x,z,X)],xs++[.ref en],ys++[.ref g],_,_,_,_,_,_,rfl,d0,?_,?_,?_,?_,?_,by rw[aF,aU];omega⟩,?_⟩
    ·rw[ef (Ne.symm an)];exact s8 _ _ a5
    ·rw[d9];refine Paired.snoc (Paired.J4 L λ_ _=>jQ.same a9) ⟨en,nd,zs,rfl,?_,?_,?_⟩
     ·rw[eE (by simp only[am,aR,or_false,not_or];exact⟨b5,bf⟩)];exact d0
     ·rw[eE (by simp only[am,aR,or_false,not_or];exact⟨b6,a3⟩)];exact s8 _ _ cn
     ·refine Paired.J4 S λ_ m y=>fJ.same (λb o O=>?_) y;have R:b∉[p,t,nd]:=λy=>by rw[fM y]at O;cases O
      rw[eE R]at O;simp only[am,aR,or_false,not_or]at R;rw[eE (by simp only[am,aR,or_false,not_or];exact⟨R.1,R.2.1⟩)];refine s8 _ _ ?_;rw[<-d,ef R.2.1];exact O
    ·rw[d9,ay];refine Paired.snoc (Paired.J4 J λ_ _=>fg.same a9) ⟨g,rfl,?_⟩;rw[eE (by simp only[am,aR,or_false,not_or];exact⟨b2,a6⟩)];exact s8 _ _ as
    ·rw[ay];exact ol Y a8
    ·intro e he;rcases aD.mp he with y | y
     ·exact r e y
     ·rw[aj.mp y];exact⟨⟨hx,a2,by show X.length<=100;omega⟩,bm,b3⟩
    ·have bd:eF H M:=by rw[<-d];exact eF.upd (sm.trans B) b1
     exact eF.upd (bd.trans s8) hp
   ·exact⟨⟨es,xs,ys,_,_,_,_,_,_,rfl,aa,I,Paired.J4 L λ_ _=>jQ.same (eF.del B _),Paired.J4 J λ_ _=>fg.same (eF.del B _),Y,r,by omega⟩,sm.trans B⟩
 ·rintro σ H2 ⟨⟨es,xs,ys,o3,o4,o5,o6,o7,o8,rfl,ah,ba,L,J,Y,r,D⟩,sm⟩;refine⟨_,rfl,q p es xs H2 sm hp ah (Paired.J4 L λ_ _=>jQ.same (λb o O=>?_)) Y (λe he=>(r e he).1) (by rw[U,br]at D;exact D) (λe he=>(r e he).2)⟩;have R:b∉[p,t]:=λy=>by rw[fM y]at O;cases O
  rw[eE R]at O;simp only[am,aR,or_false,not_or]at R;rw[eE (by simpa using R.1)];exact O
end
inductive Do (vs:List V)(H:Hp)(Q:VK)(E:XK):Prop
 |mk (a:Addr)(v:V)(es:List En)(n:Nd)(_:vs=[.ref a,v])(_:iM H a es)(_:fJ H v n)(_:es.length<64)(_:∀p H',eF H H'->H p=none->H' p=some (.lst ((je es n).map V.int))->Q (.ref p) H')
theorem Iv (vs:List V)(H:Hp)(Q:VK)(E:XK)(h:Do vs H Q E):wZ K vs H Q E:=by
 obtain⟨a,v,g,n,rfl,r,l,m,q⟩:=h;refine⟨a,v,g,n,rfl,r,l,m,λp d t i s hp j o b=>?_⟩;have e:d.reverse=je g n:=pA ((List.reverse_perm d).trans hp) (List.pairwise_reverse.mpr j);refine q o _ (i.trans (eA b _)) (i.free b) ?_;rw[d0,<-e,List.map_reverse]
abbrev Jm:List Str:=["_law_shelf","_law_start","_law_lines","_law_spot","_law_picks","_law_word","_law_who","_law_place","_law_told","_law_needs","_law_need","_law_versions","_law_k","_law_pick"]
section
variable {base:Heap}{f:Addr}
theorem nR:eM Jm ["_law_shelf","_law_start","_law_lines","_law_spot"] (eB oX):=i4
end
inductive vP (vs:List V)(H:Hp)(Q:VK)(E:XK):Prop
 |mk (i:Int)(_:vs=[.int i])(_:Q (.bl true) H)
section
variable {base:Heap}{f:Addr}
theorem HX:eM ["_law_found"] ["_law_found"] (eB uL):=i4
theorem zS (F:iL K "_law_whole" "_law_whole" uL f fd)(T:vZ K mg):fi P w K mg base fB 1 f fd ["_law_found"] vP:=by
 refine F.ok HX λb A a s H d Q E e h=>?_;obtain⟨i,rfl,q⟩:=h;refine⟨_,eo (eQ (lg (eW gl rfl T.isin bK (dZ (pv 0) (dZ (ke rfl T.int boot_int) eg))) (lZ (uY (eW gl rfl T.isin bK (dZ (pv 0) (dZ (ke rfl T.bool boot_bool) eg))))))),?_⟩;refine⟨_,rfl,_,_,_,_,rfl,.int i,Ei K,_,rfl,gW ⟨_,rfl,_,_,_,_,rfl,.int i,Ej K,_,rfl,q⟩⟩
end
inductive sR (vs:List V)(H:Hp)(Q:VK)(E:XK):Prop
 |mk (v:V)(k:Pk)(_:vs=[v])(_:fg H v k)(_:Q (.bl true) H)
inductive kD (vs:List V)(H:Hp)(Q:VK)(E:XK):Prop
 |mk (a:Addr)(ks:List Pk)(_:vs=[.ref a])(_:iO H a ks)(_:Q (.bl true) H)
inductive xb (vs:List V)(H:Hp)(Q:VK)(E:XK):Prop
 |mk (v:V)(l:Ln)(_:vs=[v])(_:uB H v l)(_:Q (.bl true) H)
section
variable {base:Heap}{f:Addr}
theorem FS:eM ["_law_found"] ["_law_found"] (eB rH):=i4
theorem xO (F:iL K "_law_is_pick" "_law_is_pick" rH f fd)(T:vZ K mg)(G:Gd P w K mg base fB 1 "_law_whole" ["_law_found"] vP):fi P w K mg base fB 2 f fd ["_law_found"] sR:=by
 refine F.ok FS λe A d s H i Q E g h=>?_;obtain⟨v,k,rfl,⟨b,rfl,a⟩,q⟩:=h;refine⟨_,(ee (fz (PW.pt (ja (gJ (gH (eW gl rfl T.isin bK (dZ (pv 0) (dZ (ke rfl T.tuple boot_tuple) eg))))) (iR (fC mB (eW fj rfl T.len bp (dZ (pv 0) eg)) er (fO _))))) (eo (eQ iU)) eP) (eo (eQ (lg (eW gl rfl T.isin bK (dZ (eG eN (pv 0) er) (dZ (ke rfl T.str boot_str) eg))) (lZ (fN G g (dZ (eG eN (pv 0) er) eg))))))),?_⟩;refine⟨_,rfl,_,_,_,_,rfl,jA.tup a,ng K,_,rfl,ff ?_⟩;refine⟨_,rfl,b,_,rfl,.inr (gs.of a),rfl,_,rfl,ff ?_⟩;exact⟨_,rfl,b,_,_,_,rfl,rfl,gs.of a,rfl,_,_,_,_,rfl,.str k.1,At K,_,rfl,gW ⟨_,rfl,b,_,_,_,rfl,rfl,gs.of a,rfl,k.2,rfl,q⟩⟩
theorem Dh:eM ["_law_found","_law_pick"] ["_law_found"] (eB mQ):=i4
theorem tX (F:iL K "_law_are_picks" "_law_are_picks" mQ f fd)(T:vZ K mg)(G:Gd P w K mg base fB 2 "_law_is_pick" ["_law_found"] sR):fi P w K mg base fB 3 f fd ["_law_found"] kD:=by
 refine F.ok Dh λl A g s H t Q E m h=>?_;obtain⟨a,r,rfl,⟨xs,d,hp⟩,q⟩:=h;refine⟨_,(ee (fz (gJ (gH (eW gl rfl T.isin bK (dZ (pv 0) (dZ (ke rfl T.list cM) eg))))) (eo (eQ iU)) eP) (ee (fG (fD (pv 0)) (eL (i:=1) Dh.nd) (eo (fz (gJ (gH (fN G m (dZ (pv 1) eg)))) (eo (eQ iU)) eP))) (eo (eQ iU)))),?_⟩;refine⟨_,rfl,_,_,_,_,rfl,jA.lst d,su K,_,rfl,ff ?_⟩;refine⟨_,rfl,a,rfl,⟨_,eX.of d⟩,?_⟩;refine fQ (K:=K) (a:=a) (xs:=xs) (λi σ b=>∃j,σ=[some (.ref a),j]/\b=H) ⟨none,rfl,rfl⟩ (λi σ b _ ⟨_,_,e⟩=>by rw[e];exact eX.of d) ?_ ?_
 ·rintro i x σ b o ⟨j,rfl,rfl⟩;obtain⟨k,_,p⟩:=Paired.Kq hp o;exact⟨_,rfl,x,k,rfl,p,_,rfl,ff ⟨_,rfl,rfl⟩⟩
 ·rintro σ b ⟨j,rfl,rfl⟩;exact q
end
theorem Ap {es:List En}{sn:List Nd}{ls:List Ln}{i:Int}{l:Ln}(h:jp es sn ls i l=true):Du es l.1 l.2.who=true/\∃n,iI (gT es sn l.2.who) l.2.place=some n/\C8 es ls i l.1 n l.2.told=true:=by
 unfold jp at h;rw[aH]at h;refine⟨h.1,?_⟩;cases hn:iI (gT es sn l.2.who) l.2.place with
 |none=>rw[hn]at h;exact absurd h.2 aN
 |some n=>rw[hn]at h;exact⟨n,rfl,h.2⟩
theorem CK {ls:List Ln}{i:Int}{ps:List Pk}{x:Str}{b v:Int}(h:uw ls i ps x b v=true):0<=b/\b<i/\∃l,iI ls b=some l/\∀p∈l.1,p∈ps\/p=(x,v):=by
 unfold uw at h;rw[aH,aH,aB,aB]at h;refine⟨h.1,h.2.1,?_⟩;have a:=h.2.2;cases hl:iI ls b with
 |none=>rw[hl]at a;cases a
 |some l=>
  rw[hl]at a;refine⟨l,rfl,λp hp=>?_⟩;have:=cj.mp a p hp;rw[cS,aB,aB]at this;exact this
inductive xc (vs:List V)(H:Hp)(Q:VK)(E:XK):Prop
 |mk (sh st la:Addr)(es:List En)(sn:List Nd)(ls:List Ln)(spot:Nat)(l:Ln)(_:vs=[.ref sh,.ref st,.ref la,.int spot])(_:iM H sh es)(_:es.length<64)(_:(es.map eU).Nodup)(_:∀e∈es,lR e)(_:gv H st sn)(_:∀n∈sn,fK n.1)(_:mK H la ls)(_:∀l∈ls,EQ l)(_:ls[spot]?=some l)(_:jp es sn ls spot l=true)(_:∀H',eF H H'->Q (.bl true) H')
section
variable {base:Heap}{f:Addr}
theorem xQ (F:iL K "_law_holds" "_law_holds" oX f fd)(T:vZ K mg)(G1:Gd P w K mg base fB 1 "_law_needs_in" ["_law_shelf","_law_pick"] pY)(G2:Gd P w K mg base fB 1 "_law_meets" ["_law_need","_law_version"] (oG K))(G3:Gd P w K mg base fB 2 "_law_newest" ["_law_shelf","_law_need"] Do):fi P w K mg base fB 3 f fd ["_law_shelf","_law_start","_law_lines","_law_spot"] xc:=by
 refine F.ok nR λb8 A al s H vs Q E hr h=>?_;obtain⟨sh,st,la,D,sn,ls,o,l,rfl,bl,b7,bf,bq,bx,cd,⟨ys,hy,bd⟩,a0,b6,Z,q⟩:=h;have as:gK 1 _:=hr.mono (by decide);have an:iI ls (o:Int)=some l:=by rw[ij];exact b6
 obtain⟨lv,cy,bm⟩:=iV bd an;have R:=jy cy;have d:=a0 l (mF an);obtain⟨N,n,hn,J⟩:=Ap Z;have b4:=t6 bq cd _ n (mF hn);obtain⟨lq,pa,rv,rfl,h1,h2,cl⟩:=id bm;obtain⟨rq,wv,tv,rfl,b5,hw,I⟩:=id cl;have r4:∃tR:TS,mj (qk fB P w K mg base Jm "_law_holds" (eB oX) f b8 A al s H E).nox ((gC oX).drop 4) tR/\
   ∀(L:Addr) (U:List V) (ns:List Nd),H L=some (.lst U)->Paired (fJ H) U ns->iI ns l.2.place=some n->
    tR {nx:=λ_ H'=>Q .non H',rt:=Q} [some (.ref sh),some (.ref st),some (.ref la),some (.int o),some (.ref pa),some (.str (qW l.2.told)),some wv,some (.int l.2.place),some tv,some (.ref L),none,none,none,none] H:=by
  refine⟨_,(ee (fz (PW.pt (ja (fC wz (pv 7) er (fO _)) (iR (fC Dk (pv 7) (eW fj rfl T.len bp (dZ (pv 9) eg)) (fO _))))) fT eP) (ee (eJ (i:=10) nR.nd (eG fc (pv 9) (pv 7))) (ee (fz (fC km (pv 5) jd (fO _)) (eo (eQ (lg (jU (u6 hr.units) (pv 8) (pv 4) (by with_unfolding_all rfl)) (lg (jU km (eG eN (pv 8) er) (eG eN (pv 10) er) (fO _)) (lZ (uY (fN G2 as (dZ (pv 10) (dZ (eG eN (pv 8) er) eg))))))))) eP) (ee (eJ (i:=11) nR.nd (fN G3 hr (dZ (pv 0) (dZ (pv 10) eg)))) (ee (fz (fC mB (eW fj rfl T.len bp (dZ (pv 8) eg)) (eW fj rfl T.len bp (dZ (pv 11) eg)) (fO _)) fT eP) (ee (fG (jC rfl T.range (dZ (eW fj rfl T.len bp (dZ (pv 8) eg)) eg)) (eL (i:=12) nR.nd) (ee (fz (PW.pt (ja (fC wz (eG fc (pv 8) (pv 12)) er (fO _)) (iR (fC Dk (eG fc (pv 8) (pv 12)) (pv 3) (fO _))))) fT eP) (eo (fG (fD (eG eN (eG fc (pv 2) (eG fc (pv 8) (pv 12))) er)) (eL (i:=13) nR.nd) (eo (fz (PW.pt (kY (fC (mX hr.units) (pv 13) (pv 4) (by with_unfolding_all rfl)) (jR (fC (zQ hr.units) (pv 13) (gL (dZ (eG eN (pv 10) er) (dZ (eG fc (pv 11) (pv 12)) eg))) (fO _))))) fT eP)))))) (eo (eQ iU)))))))),?_⟩;intro L U ns C O hn;have lz:=Paired.length O;have h0:¬l.2.place<0:=λz=>by rw[qE.mpr (.inl z)]at hn;cases hn
  have h9:¬(U.length:Int)<=l.2.place:=λz=>by rw[qE.mpr (.inr (by rw[<-lz];exact z))]at hn;cases hn
  refine⟨_,rfl,_,_,rfl,rfl,_,rfl,jO (λe=>(h0 (aV e)).elim) (λ_=>?_)⟩;refine⟨_,rfl,_,rfl,L,_,rfl,.inl (eX.of C),_,_,rfl,rfl,_,rfl,jO (λe=>(h9 (aV e)).elim) (λ_=>?_)⟩;obtain⟨v,hv,ct⟩:=iV O hn;obtain⟨X,rfl,M⟩:=id ct;refine⟨_,rfl,_,rfl,L,_,_,_,rfl,rfl,eX.of C,jy hv,?_⟩;refine⟨_,rfl,rfl,_,rfl,?_⟩;cases ht:l.2.told with
  |one k=>
   rw[ht]at I J;have S:fg H tv k:=I;have g:=d.one k ht;obtain⟨kq,rfl,t⟩:=id S;have b:(decide (k∈l.1)&&(decide (k.1=n.1)&&!(lI n k.2)))=true:=J;rw[aH,aH]at b;refine jO (λ_=>?_) (λc=>absurd (show decide (V.str "outside" = V.str "outside")=true by decide +kernel) c);refine⟨_,rfl,_,rfl,mO k,l.1.map mO,S.rep,h2.rep,(jF g).1,lG d.pk,(jF g).2,_,rfl,?_⟩;rw[av aN,nA,b.1];refine gW ⟨_,rfl,kq,_,_,_,rfl,rfl,gs.of t,rfl,_,rfl,X,_,_,_,rfl,rfl,gs.of M,rfl,rfl,_,rfl,?_⟩;rw[jY,b.2.1];refine gW ⟨_,rfl,_,rfl,kq,_,_,_,rfl,rfl,gs.of t,rfl,.ref X,n,k.2,rfl,⟨X,rfl,M⟩,_,rfl,?_⟩;have q2:=q H (eF.refl _);rw[<-b.2.2]at q2;exact q2
  |many bs=>
   rw[ht]at I J;obtain⟨Y,rfl,ah⟩:=I;have b:kN D ls o l.1 n bs=true:=J;unfold kN at b;rw[aH,aB,cj]at b;obtain⟨b3,a5⟩:=b;refine jO (λc=>absurd c (show ¬decide (V.str "open" = V.str "outside")=true by decide +kernel)) (λ_=>?_);refine⟨_,rfl,_,rfl,sh,.ref X,D,n,rfl,bl,⟨X,rfl,M⟩,b7,λva H1 s1 _ a8=>?_⟩;refine⟨_,rfl,Y,_,rfl,.inl (eX.of (s1 _ _ ah)),_,rfl,va,_,rfl,.inl (eX.of a8),rfl,_,rfl,jO (λe=>?_) (λ_=>?_)⟩
   ·rw[ab,ab,b3,aq rfl]at e;cases e
   have c2:=d.many bs ht;refine⟨_,rfl,Y,_,rfl,.inl (eX.of (s1 _ _ ah)),_,rfl,by omega,by rw[ab];omega,?_⟩;refine kA (λi σ H2=>∃ag r,σ=[some (.ref sh),some (.ref st),some (.ref la),some (.int o),some (.ref pa),some (.str (qW l.2.told)),some wv,some (.int l.2.place),some (.ref Y),some (.ref L),some (.ref X),some (.ref va),ag,r]/\eF H1 H2)
    ⟨none,none,by rw[ht];rfl,eF.refl _⟩ ?_ ?_
   ·rintro i σ H2 hi ⟨ag,r,rfl,s2⟩;have cv:i<bs.length:=by rw[br,ab]at hi;exact hi
    have O:bs[i]?=some bs[i]:=ak cv;have hv:(je D n)[i]?=some (je D n)[i]:=ak (by omega);generalize bs[i]=z at O;generalize (je D n)[i]=v at hv;obtain⟨c1,cz,m,hm,a7⟩:=CK (a5 (z,v) (ai (i:=i) (dR.mpr ⟨O,hv⟩)));have G:=s1.trans s2;have ei:(0+(i:Int))=((i:Nat):Int):=by omega
    have y:sM (bs.map V.int) (0+(i:Int))=some (.int z):=by rw[ei];exact oA (by rw[ae,O];rfl)
    have ap:sM ((je D n).map V.int) (0+(i:Int))=some (.int v):=by rw[ei];exact oA (by rw[ae,hv];rfl)
    have ad:eX K H2 Y (bs.map V.int):=eX.of (G _ _ ah);refine⟨_,rfl,_,rfl,Y,_,_,_,rfl,rfl,ad,y,_,_,rfl,rfl,_,rfl,jO (λe=>absurd (aV e) (by omega)) (λ_=>?_)⟩;refine⟨_,rfl,_,rfl,Y,_,_,_,rfl,rfl,ad,y,_,rfl,_,_,rfl,rfl,_,rfl,jO (λe=>absurd (aV e) (by omega)) (λ_=>?_)⟩;obtain⟨mv,ch,b2⟩:=iV bd hm;obtain⟨mq,ma,mr,rfl,co,⟨xs,a3,cn⟩,_⟩:=uB.same G b2;have a1:=a0 m (mF hm);refine⟨_,rfl,_,rfl,_,rfl,Y,_,_,_,rfl,rfl,ad,y,la,_,_,_,rfl,rfl,eX.of (G _ _ hy),jy ch,mq,_,_,_,rfl,rfl,gs.of co,rfl,ma,rfl,⟨xs,eX.of a3⟩,?_⟩;refine fQ (K:=K) (a:=ma) (xs:=xs) (λj σ H3=>∃r,σ=[some (.ref sh),some (.ref st),some (.ref la),some (.int o),some (.ref pa),some (.str (qW l.2.told)),some wv,some (.int l.2.place),some (.ref Y),some (.ref L),some (.ref X),some (.ref va),some (.int (0+(i:Int))),r]/\eF H2 H3)
     ⟨r,rfl,eF.refl _⟩ (by rintro j σ H3 _ ⟨_,_,B⟩;exact eX.of (B _ _ a3)) ?_ ?_
    ·rintro j x σ H3 hj ⟨a4,rfl,B⟩;obtain⟨k,bv,S⟩:=Paired.Kq cn hj;obtain⟨kq,rfl,t⟩:=id S;have a2:=ai bv;have g:=a1.pk k a2;have a6:=G.trans B;refine⟨_,rfl,_,rfl,mO k,l.1.map mO,fg.rep ⟨kq,rfl,B _ _ t⟩,(iO.same a6 h2).rep,(jF g).1,lG d.pk,(jF g).2,_,rfl,?_⟩;rw[ax rfl,nA];by_cases c:k∈l.1
     ·rw[aq c];exact ff (ff ⟨_,rfl,B⟩)
     rw[au c];refine gW ⟨_,rfl,_,rfl,X,_,_,_,rfl,rfl,gs.of (a6 _ _ M),rfl,_,rfl,_,rfl,va,_,_,_,rfl,rfl,eX.of ((s2.trans B) _ _ a8),ap,tG,λt2 b9=>?_⟩;have s5:=eA b9 (.tup [.str n.1,.int v]);refine⟨mO k,mO (n.1,v),fg.rep ⟨kq,rfl,s5 _ _ (B _ _ t)⟩,fg.rep (k:=(n.1,v)) ⟨t2,rfl,d0⟩,l5 (Di g) (by decide),l5 (Di (k:=(n.1,v)) b4) (by decide),_,rfl,?_⟩;rw[AI,aq ((a7 k a2).resolve_left c)];exact ff ⟨_,rfl,B.trans s5⟩
    ·rintro σ H3 ⟨a4,rfl,B⟩;exact⟨_,_,rfl,s2.trans B⟩
   ·rintro σ H2 ⟨ag,r,rfl,s2⟩;exact q H2 (s1.trans s2)
 obtain⟨c0,cp,a9⟩:=r4;refine⟨_,(ee (eJ (i:=4) nR.nd (eG eN (eG fc (pv 2) (pv 3)) er)) (ee (zt (eG eN (eG fc (pv 2) (pv 3)) er) (lc rfl (gj (eL (i:=5) nR.nd) (gj (eL (i:=6) nR.nd) (gj (eL (i:=7) nR.nd) (gj (eL (i:=8) nR.nd) jT)))))) (ee (eJ (i:=9) nR.nd (pv 1)) (ee (fz (hJ (my (pv 6))) (ee (eJ (i:=9) nR.nd (fN G1 as (dZ (pv 0) (dZ (pv 6) eg)))) (eo (fz (PW.pt (ja (hJ (rW (pv 9))) (iR (fC (mX hr.units) (pv 6) (pv 4) (by with_unfolding_all rfl))))) fT eP))) eP) cp)))),?_⟩;refine⟨_,rfl,_,rfl,la,_,_,_,rfl,rfl,eX.of hy,R,lq,_,_,_,rfl,rfl,gs.of h1,rfl,?_⟩;refine⟨_,rfl,_,rfl,la,_,_,_,rfl,rfl,eX.of hy,R,lq,_,_,_,rfl,rfl,gs.of h1,rfl,rq,_,rfl,gs.of b5,rfl,_,_,rfl,_,_,rfl,_,_,rfl,_,_,rfl,rfl,?_⟩;refine⟨_,rfl,?_⟩;cases ew:l.2.who with
 |none=>
  rw[ew]at hw hn;cases (show wv=.non from hw);obtain⟨U,O,cs⟩:=bx;exact⟨_,rfl,_,rfl,ff (a9 st U sn O cs hn)⟩
 |some k=>
  rw[ew]at hw hn N;have S:fg H wv k:=hw;have g:=d.who k ew;obtain⟨kq,rfl,t⟩:=id S;have p:(decide (k∈l.1)&&decide (k∈D.map eU))=true:=N;rw[aH]at p;refine⟨_,rfl,_,rfl,gW ?_⟩;refine⟨_,rfl,_,rfl,sh,.ref kq,D,k,rfl,bl,S,bf,λe he b1 L U C cx=>?_,λaa=>absurd (aV p.2) aa⟩;refine⟨_,rfl,_,rfl,ff ⟨_,rfl,_,rfl,mO k,l.1.map mO,S.rep,h2.rep,(jF g).1,lG d.pk,(jF g).2,_,rfl,?_⟩⟩;rw[ax rfl,nA,p.1];refine ff (a9 L U e.2.2 C cx ?_);have aa:fX D k=e.2.2:=by rw[<-b1,iA bf he]
  rw[<-aa];exact hn
end
section
variable {base:Heap}{f:Addr}
inductive mf (vs:List V)(H:Hp)(Q:VK)(E:XK):Prop
 |mk (sh st la:Addr)(es:List En)(sn:List Nd)(ls:List Ln)(_:vs=[.ref sh,.ref st,.ref la])(_:iM H sh es)(_:es.length<64)(_:(es.map eU).Nodup)(_:∀e∈es,lR e)(_:gv H st sn)(_:∀n∈sn,fK n.1)(_:mK H la ls)(_:∀l∈ls,EQ l)(_:ls.length<sizeLine)(_:∀(i:Nat) (l:Ln),ls[i]?=some l->jp es sn ls (i:Nat) l=true)(_:∀H',eF H H'->Q (.bl true) H')
theorem FR:eM ["_law_shelf","_law_start","_law_lines","_law_spot"] ["_law_shelf","_law_start","_law_lines"] (eB lX):=i4
theorem rZ (F:iL K "_law_lines_hold" "_law_lines_hold" lX f fd)(T:vZ K mg)(G:Gd P w K mg base fB 4 "_law_is_line" ["_law_found"] xb)(G2:Gd P w K mg base fB 4 "_law_holds" ["_law_shelf","_law_start","_law_lines","_law_spot"] xc):fi P w K mg base fB 5 f fd ["_law_shelf","_law_start","_law_lines"] mf:=by
 refine F.ok FR λY A v s H vs Q E R h=>?_;obtain⟨N,S,l,es,sn,a,rfl,I,M,B,D,r,J,g,L,p,d,q⟩:=h;obtain⟨xs,C,hp⟩:=id g;have X:=Paired.length hp;refine⟨_,(ee (fz (gJ (gH (eW gl rfl T.isin bK (dZ (pv 2) (dZ (ke rfl T.list cM) eg))))) (eo (eQ iU)) eP) (ee (fG (jC rfl T.range (dZ (eW fj rfl T.len bp (dZ (pv 2) eg)) eg)) (eL (i:=3) FR.nd) (eo (fz (PW.pt (ja (gJ (gH (fN G R (dZ (eG fc (pv 2) (pv 3)) eg)))) (iR (gJ (gH (fN G2 R (dZ (pv 0) (dZ (pv 1) (dZ (pv 2) (dZ (pv 3) eg)))))))))) (eo (eQ iU)) eP))) (eo (eQ iU)))),?_⟩;refine⟨_,rfl,_,_,_,_,rfl,jA.lst C,su K,_,rfl,ff ?_⟩;have O:a.length<2^24:=bg p (by show sizeLine<=2^24;decide);refine⟨_,rfl,l,_,rfl,.inl (eX.of C),_,rfl,by lia,by lia,?_⟩;refine kA (λj σ m=>∃z,σ=[some (.ref N),some (.ref S),some (.ref l),z]/\eF H m) ⟨none,rfl,eF.refl _⟩ ?_ ?_
 ·rintro j σ m U ⟨z,rfl,b⟩;have t:j<a.length:=by rw[br,X]at U;exact U
  have e:a[j]?=some a[j]:=ak t;have Z:(0+(j:Int))=((j:Nat):Int):=by lia
  obtain⟨x,y,o⟩:=iV hp (show iI a ((j:Nat):Int)=some a[j] by rw[ij];exact e);rw[Z];refine⟨_,rfl,_,rfl,l,_,_,x,rfl,rfl,eX.of (b _ _ C),jy y,x,a[j],rfl,o.same b,_,rfl,ff ?_⟩;refine⟨_,rfl,_,rfl,_,rfl,_,rfl,N,S,l,es,sn,a,j,a[j],rfl,I.same b,M,B,D,r.same b,J,g.same b,L,e,d j a[j] e,λH3 s3=>⟨_,rfl,ff ⟨_,rfl,b.trans s3⟩⟩⟩
 ·rintro σ m ⟨z,rfl,b⟩;exact q m b
end
section
variable {base:Heap}{f:Addr}
theorem DO:eM ["_law_found","_law_reason","_law_place"] ["_law_found"] (eB rJ):=i4
theorem xP (F:iL K "_law_is_line" "_law_is_line" rJ f fd)(T:vZ K mg)(G:Gd P w K mg base fB 3 "_law_are_picks" ["_law_found"] kD)(Y:Gd P w K mg base fB 2 "_law_is_pick" ["_law_found"] sR)(X:Gd P w K mg base fB 1 "_law_whole" ["_law_found"] vP):fi P w K mg base fB 4 f fd ["_law_found"] xb:=by
 refine F.ok DO λad A N s H vs Q E R h=>?_;obtain⟨v,l,rfl,⟨t,a,rv,rfl,M,O,g,Z,U,rfl,d,y,m⟩,q⟩:=h;have D:gK 2 _:=R.mono (by decide);have L:gK 1 _:=R.mono (by decide);refine⟨_,(ee (fz (PW.pt (ja (gJ (gH (eW gl rfl T.isin bK (dZ (pv 0) (dZ (ke rfl T.tuple boot_tuple) eg))))) (ja (fC mB (eW fj rfl T.len bp (dZ (pv 0) eg)) er (fO _)) (iR (gJ (gH (fN G R (dZ (eG eN (pv 0) er) eg)))))))) (eo (eQ iU)) eP) (ee (eJ (i:=1) DO.nd (eG eN (pv 0) er)) (ee (fz (PW.pt (ja (gJ (gH (eW gl rfl T.isin bK (dZ (pv 1) (dZ (ke rfl T.tuple boot_tuple) eg))))) (ja (fC mB (eW fj rfl T.len bp (dZ (pv 1) eg)) er (fO _)) (iR (gJ (gH (eW gl rfl T.isin bK (dZ (eG eN (pv 1) er) (dZ (ke rfl T.str boot_str) eg))))))))) (eo (eQ iU)) eP) (ee (fz (PW.pt (kY (hJ (my (eG eN (pv 1) er))) (jR (gJ (gH (fN Y D (dZ (eG eN (pv 1) er) eg))))))) (eo (eQ iU)) eP) (ee (fz (gJ (gH (fN X L (dZ (eG eN (pv 1) er) eg)))) (eo (eQ iU)) eP) (ee (fz (fC km (eG eN (pv 1) er) jd (fO _)) (eo (eQ (fN Y D (dZ (eG eN (pv 1) er) eg)))) eP) (ee (fz (PW.pt (ja (fC mB (eG eN (pv 1) er) jd (fO _)) (iR (gJ (gH (eW gl rfl T.isin bK (dZ (eG eN (pv 1) er) (dZ (ke rfl T.list cM) eg)))))))) (eo (eQ iU)) eP) (ee (fG (fD (eG eN (pv 1) er)) (eL (i:=2) DO.nd) (eo (fz (gJ (gH (fN X L (dZ (pv 2) eg)))) (eo (eQ iU)) eP))) (eo (eQ iU)))))))))),?_⟩;refine⟨_,rfl,_,_,_,_,rfl,jA.tup M,ng K,_,rfl,ff ?_⟩;refine⟨_,rfl,t,_,rfl,.inr (gs.of M),rfl,_,rfl,ff ?_⟩;refine⟨_,rfl,t,_,_,_,rfl,rfl,gs.of M,rfl,a,l.1,rfl,O,_,rfl,ff ?_⟩;refine⟨_,rfl,t,_,_,_,rfl,rfl,gs.of M,rfl,?_⟩;refine⟨_,rfl,_,_,_,_,rfl,jA.tup d,ng K,_,rfl,ff ?_⟩;refine⟨_,rfl,g,_,rfl,.inr (gs.of d),rfl,_,rfl,ff ?_⟩;refine⟨_,rfl,g,_,_,_,rfl,rfl,gs.of d,rfl,_,_,_,_,rfl,.str _,At K,_,rfl,ff ?_⟩;have key:∀(b:Bool),b=true->True:=λ_ _=>trivial;obtain⟨ps,⟨S,o,r⟩⟩:=l;dsimp only at y m d;cases S with
 |none=>
  cases (show Z=.non from y);refine⟨_,rfl,g,_,_,_,rfl,rfl,gs.of d,rfl,_,rfl,ff (ff ?_)⟩;refine⟨_,rfl,g,_,_,_,rfl,rfl,gs.of d,rfl,o,rfl,_,rfl,ff ?_⟩;cases r with
  |one k=>
   refine⟨_,rfl,g,_,_,_,rfl,rfl,gs.of d,rfl,rfl,_,rfl,gW ?_⟩;exact⟨_,rfl,g,_,_,_,rfl,rfl,gs.of d,rfl,U,k,rfl,m,q⟩
  |many bs=>
   obtain⟨I,rfl,j⟩:=m;refine⟨_,rfl,g,_,_,_,rfl,rfl,gs.of d,rfl,rfl,_,rfl,ff ?_⟩;refine⟨_,rfl,g,_,_,_,rfl,rfl,gs.of d,rfl,rfl,_,rfl,ff ?_⟩;refine⟨_,rfl,g,_,_,_,rfl,rfl,gs.of d,rfl,_,_,_,_,rfl,jA.lst j,su K,_,rfl,ff ?_⟩;refine⟨_,rfl,g,_,_,_,rfl,rfl,gs.of d,rfl,I,rfl,⟨_,eX.of j⟩,?_⟩;refine fQ (K:=K) (a:=I) (xs:=bs.map V.int) (λi σ p=>∃B,σ=[some (.ref t),some (.ref g),B]/\p=H) ⟨none,rfl,rfl⟩ (λi σ p _ ⟨_,_,e⟩=>by rw[e];exact eX.of j) ?_ ?_
   ·rintro i x σ p J ⟨B,rfl,rfl⟩;rw[ae]at J;obtain⟨z,_,rfl⟩:=az.mp J;exact⟨_,rfl,z,rfl,_,rfl,ff ⟨_,rfl,rfl⟩⟩
   ·rintro σ p ⟨B,rfl,rfl⟩;exact q
 |some kw=>
  have C:fg H Z kw:=y;obtain⟨wq,rfl,aa⟩:=id C;refine⟨_,rfl,g,_,_,_,rfl,rfl,gs.of d,rfl,_,rfl,gW ?_⟩;refine⟨_,rfl,g,_,_,_,rfl,rfl,gs.of d,rfl,_,kw,rfl,C,_,rfl,ff ?_⟩;refine⟨_,rfl,g,_,_,_,rfl,rfl,gs.of d,rfl,o,rfl,_,rfl,ff ?_⟩;cases r with
  |one k=>
   refine⟨_,rfl,g,_,_,_,rfl,rfl,gs.of d,rfl,rfl,_,rfl,gW ?_⟩;exact⟨_,rfl,g,_,_,_,rfl,rfl,gs.of d,rfl,U,k,rfl,m,q⟩
  |many bs=>
   obtain⟨I,rfl,j⟩:=m;refine⟨_,rfl,g,_,_,_,rfl,rfl,gs.of d,rfl,rfl,_,rfl,ff ?_⟩;refine⟨_,rfl,g,_,_,_,rfl,rfl,gs.of d,rfl,rfl,_,rfl,ff ?_⟩;refine⟨_,rfl,g,_,_,_,rfl,rfl,gs.of d,rfl,_,_,_,_,rfl,jA.lst j,su K,_,rfl,ff ?_⟩;refine⟨_,rfl,g,_,_,_,rfl,rfl,gs.of d,rfl,I,rfl,⟨_,eX.of j⟩,?_⟩;refine fQ (K:=K) (a:=I) (xs:=bs.map V.int) (λi σ p=>∃B,σ=[some (.ref t),some (.ref g),B]/\p=H) ⟨none,rfl,rfl⟩ (λi σ p _ ⟨_,_,e⟩=>by rw[e];exact eX.of j) ?_ ?_
   ·rintro i x σ p J ⟨B,rfl,rfl⟩;rw[ae]at J;obtain⟨z,_,rfl⟩:=az.mp J;exact⟨_,rfl,z,rfl,_,rfl,ff ⟨_,rfl,rfl⟩⟩
   ·rintro σ p ⟨B,rfl,rfl⟩;exact q
end
inductive vW (K:W.Frag)(vs:List V)(H:Hp)(Q:VK)(E:XK):Prop
 |mk (a:Addr)(ns:List Int)(_:vs=[.ref a])(_:eX K H a (ns.map V.int))(_:ns.length<=63)(_:∀t sh st (es:List En) (sn:List Nd) H',eF H H'->H' t=some (.tup [.ref sh,.ref st])->iM H' sh es->(es.map eU).Nodup->(∀e∈es,lR e)->es.length<=59->(∀e∈es,Lw e)->gv H' st sn->(∀n∈sn,fK n.1)->sn.length<=63->Q (.ref t) H')
theorem um (ns:List Int)(a b:Option Int):∃ms:List Int,pQ (ns.map V.int) a b=ms.map V.int/\ms.length<=ns.length:=by
 refine⟨(ns.drop (HT.oe (ns.map V.int).length 0 a)).take (HT.oe (ns.map V.int).length (ns.map V.int).length b-HT.oe (ns.map V.int).length 0 a),?_,?_⟩
 ·unfold pQ;rw[ck,List.map_drop]
 ·rw[aT,List.length_drop];omega
theorem AQ (ns:List Int)(k:Nat):∃ms:List Int,pQ (ns.map V.int) (some (k:Int)) none=ms.map V.int/\ms.length<=ns.length-k:=by
 have e:HT.oe (ns.map V.int).length 0 (some (k:Int))=min k (ns.map V.int).length:=HT.wt _ _ k;refine⟨(ns.drop (HT.oe (ns.map V.int).length 0 (some (k:Int)))).take (HT.oe (ns.map V.int).length (ns.map V.int).length none-HT.oe (ns.map V.int).length 0 (some (k:Int))),?_,?_⟩
 ·unfold pQ;rw[ck,List.map_drop]
 ·rw[aT,List.length_drop,e,ab];omega
section
variable {base:Heap}{f:Addr}
theorem Dg:eM ["_law_script","_law_shelf"] ["_law_script"] (eB uW):=i4
theorem Af (F:iL K "_law_asked_by" "_law_asked_by" uW f fd)(G:Gd P w K mg base fB 3 "_law_shelf_by" ["_law_cells"] (AY K))(G2:Gd P w K mg base fB 3 "_law_start_by" ["_law_cells"] (uy K))(Y:Gd P w K mg base fB 1 "_law_at" ["_law_script","_law_k"] (Gy K)):fi P w K mg base fB 4 f fd ["_law_script"] (vW K):=by
 refine F.ok Dg λZ A j s H vs Q E o h=>?_;obtain⟨a,e,rfl,B,hl,q⟩:=h;have v:gK 1 _:=o.mono (by decide);refine⟨_,(ee (eJ (i:=1) Dg.nd (fN G o (dZ (mw nZ (pv 0) (mo er) rT) eg))) (eo (eQ (gL (dZ (pv 1) (dZ (fN G2 o (dZ (mw nZ (pv 0) (mo er) (mo (fe lh er (fe j7 (fN Y v (dZ (pv 0) (dZ er eg))) er)))) eg)) eg)))))),?_⟩;obtain⟨p,e1,l1⟩:=AQ e 4;refine⟨_,rfl,4,rfl,a,_,rfl,B,λp1 g=>?_⟩;rw[show pQ (e.map V.int) (some 4) none=p.map V.int from e1];have s1:=eA g (.lst (p.map V.int));refine⟨p1,p,rfl,eX.of d0,by omega,λI es xs H2 T aa M y r x ad l=>?_⟩;have b:=s1.trans T;refine⟨_,rfl,_,rfl,1,rfl,_,rfl,a,e,0,rfl,b.seq B,Int.le_refl 0,λz=>⟨_,_,rfl,rfl,(by show(0:Int)<4;decide),_,_,rfl,rfl,_,rfl,a,_,rfl,b.seq B,λO m=>?_⟩⟩;obtain⟨D,X,l2⟩:=um e (some 1) (some (1+z % 4));rw[X];have s3:=eA m (.lst (D.map V.int));refine⟨O,D,rfl,eX.of d0,by omega,λL sn H4 N U C S=>?_⟩;refine⟨tG,λt R=>?_⟩;have J:=eA R (.tup [.ref I,.ref L]);have d:=(s3.trans N).trans J;exact q t I L es sn _ (b.trans d) d0 (iM.same d ⟨xs,M,Paired.J4 y λ_ _=>jQ.same (fq _ _)⟩) r x (by omega) l (gv.same J U) C (by omega)
end
end
section
variable {nm:List Str}{x:Str}
inductive Wk (es:List En)(ps:List Pk):List Nd->List Str->List Str->Prop
 |done {nm:List Str}:Wk es ps [] nm nm
 |old {ah:List Nd} {n:Nd} {nm fin:List Str}:n.1∈nm->Wk es ps ah nm fin->Wk es ps (ah++[n]) nm fin
 |new {ah:List Nd} {n:Nd} {nm fin:List Str} {z:Int}:n.1∉nm->iT ps n.1=some z->Wk es ps (ah++fX es (n.1,z)) (nm++[n.1]) fin->Wk es ps (ah++[n]) nm fin
def v9 (es:List En)(sn:List Nd)(ps:List Pk):Prop:=sZ (qm ps) (pe es sn ps)/\sZ (kO ps) (pe es sn ps)
theorem rc:∀{l m:List Str},l.Nodup->(∀x∈l,x∈m)->l.length<=m.length
 |[],_,_,_=>bo _
 |x::l,m,hn,hs=>by
  rw[aY]at hn;have hx:=hs x (by simp);have ih:=rc (l:=l) (m:=m.erase x) hn.2 λy hy=>by
   have hne:y≠x:=λe=>hn.1 (e▸hy);exact(List.mem_erase_of_ne hne).mpr (hs y (by simp[hy]))
  have hlen:(m.erase x).length=m.length-1:=List.length_erase_of_mem hx;have:0<m.length:=List.length_pos_of_mem hx;rw[aE];omega
theorem oJ {ps:List Pk}{z:Int}(h:iT ps x=some z):(x,z)∈ps:=by
 unfold iT at h;obtain⟨k,a,rfl⟩:=az.mp h;have b:=bX a;have e:=List.find?_some a;have d:k.1=x:=aV e;rw[<-d];exact b
theorem vC {ps:List Pk}(hn:(ps.map (·.1)).Nodup){k:Pk}(h:k∈ps):iT ps k.1=some k.2:=by
 unfold iT
 induction ps with
 |nil=>cases h
 |cons a ps ih=>
  rw[aG,aY]at hn;rw[bu];rcases am.mp h with z | z
  ·subst z;rw[aq rfl];rfl
  ·have:¬a.1=k.1:=λy=>hn.1 (y▸bn z);rw[au this];exact ih hn.2 z
def iX (ps:List Pk)(nm:List Str):Nat:=(ps.filter λk=>decide (k.1∉nm)).length
theorem ub (ps:List Pk)(nm:List Str):iX ps nm<=ps.length:=bE _ _
theorem pD {x:Str}{nm:List Str}:∀ps:List Pk,iX ps (nm++[x])<=iX ps nm
 |[]=>ao _
 |k::ps=>by
  have ih:=pD (x:=x) (nm:=nm) ps;unfold iX at *;rw[aJ,aJ];by_cases h:k.1∈nm++[x]
  ·rw[av (λz=>absurd h (aV z))]
   split
   ·rw[aE];omega
   ·exact ih
  ·have h':k.1∉nm:=λz=>h (aP _ z);rw[ax (aq h),ax (aq h'),aE,aE];omega
theorem l8 {x:Str}{nm:List Str}(hx:x∉nm):∀{ps:List Pk},x∈ps.map (·.1)->iX ps (nm++[x])+1<=iX ps nm
 |[],h=>by simp at h
 |k::ps,h=>by
  rw[aG,am]at h;by_cases hk:k.1=x
  ·have m:=pD (x:=x) (nm:=nm) ps;unfold iX at *;rw[aJ,aJ,av (λz=>absurd (show k.1∈nm++[x] by rw[hk];simp) (aV z)),ax (by rw[hk];exact aq hx),aE];omega
  ·have ih:=l8 hx (ps:=ps) (h.resolve_left λz=>hk z.symm);unfold iX at *;rw[aJ,aJ];by_cases h2:k.1∈nm++[x]
   ·rw[av (λz=>absurd h2 (aV z))]
    split
    ·rw[aE];omega
    ·exact ih
   ·have h':k.1∉nm:=λz=>h2 (aP _ z);rw[ax (aq h2),ax (aq h'),aE,aE];omega
def ku (nm:List Str):List (gz×V):=nm.map λx=>(Sum.inr x,V.bl true)
theorem kQ (x:Str):∀nm:List Str,(eV (ku nm) (Sum.inr x:gz)).isSome=decide (x∈nm)
 |[]=>by simp[ku,eV]
 |y::nm=>by
  have ih:=kQ x nm;unfold ku at *;rw[aG];by_cases h:y=x
  ·rw[gF (by rw[h]),h];simp
  ·rw[gu (λz=>h (Sum.inr.inj z)),ih];have:(x∈y::nm)↔x∈nm:=by
    rw[am];exact⟨λz=>z.resolve_left λq=>h q.symm,.inr⟩
   simp only[this]
theorem rS (h:x∉nm):fm (ku nm) (Sum.inr x) (V.bl true)=ku (nm++[x]):=by
 have a:eV (ku nm) (Sum.inr x:gz)=none:=by
  have z:=kQ x nm;rw[au h]at z;cases y:eV (ku nm) (Sum.inr x:gz) with
  |none=>rfl
  |some u=>rw[y]at z;cases z
 rw[ii _ a];unfold ku;rw[ay];rfl
theorem mZ {es:List En}(a:∀e∈es,lR e)(k:Pk):(fX es k).length<=100:=by
 unfold fX
 split
 next e h=>exact(a e (bX h)).few
 next=>exact bo _
theorem r9 {es:List En}(a:∀e∈es,lR e)(k:Pk):∀n∈fX es k,fK n.1:=by
 unfold fX
 split
 next e h=>exact(a e (bX h)).nd
 next=>intro n hn;cases hn
end
end FB
namespace L2
open PySem PySem.Spec PyProof.Rows
theorem qO {X:Cx}:jv X (.builtin "len") (λxs H Q=>∃a kvs,xs=[V.ref a]/\H a=some (.dK kvs)/\Q (.int kvs.length) H):=by
 intro b s σ H xs j Q I r h;obtain⟨a,kvs,rfl,d,q⟩:=h;obtain⟨u,rfl,e⟩:=jk r;cases e;exact Gw I (.inl d) λt i g=>⟨.int kvs.length,H,g,⟨t,rfl⟩,q⟩
end L2
namespace FB
open PySem L2 PyProof.Rows
section
def lH (es:List En)(ps:List Pk):Prop:=∀k∈ps,k∈es.map eU
end
section
seal mj PS PE PT PA
theorem fJ.Md {H:Hp}{p:Addr}{ys zs:List V}{v:V}{n:Nd}(hp:H p=some (.lst ys))(h:fJ H v n):fJ (upd H p (.lst zs)) v n:=by
 obtain⟨q,b,a⟩:=h;exact⟨q,b,by rw[ef (fh a hp (by intro z;cases z))];exact a⟩
theorem wW (x:Str):∀xs:List Str,((xs.map PyData.str).any λz=>PyData.eqv z (.str x))=decide (x∈xs)
 |[]=>by simp
 |y::xs=>by
  rw[aG,List.any_cons,wW x xs];have e:PyData.eqv (.str y) (.str x)=(y == x):=by simp[PyData.eqv]
  rw[e];by_cases h:y=x
  ·subst h;simp
  ·have b:(y == x)=false:=beq_false_of_ne h;rw[b,Bool.false_or];have:(x∈y::xs)↔x∈xs:=by
    rw[am];exact⟨λz=>z.resolve_left λq=>h q.symm,.inr⟩
   simp only[this]
theorem tK:∀{xs:List Str},(∀x∈xs,fK x)->PyData.canLayAll0 (xs.map PyData.str)=true
 |[],_=>rfl
 |x::xs,h=>by
  rw[aG,PyData.canLayAll0,tK λy hy=>h y (by simp[hy])];simp[PyData.canLay0,(h x (by simp)).ok]
theorem qv (H:Hp):∀xs:List Str,nU H (xs.map V.str) (xs.map PyData.str)
 |[]=>.nil
 |x::xs=>.cons (.str x) (qv H xs)
theorem D8 {sn:List Nd}(h:∀n∈sn,fK n.1):r8 2 (.list (sn.map Cl))=true:=by
 rw[r8,cj];intro d a;obtain⟨n,hn,rfl⟩:=aw.mp a;exact Ea (h n hn)
theorem fJ.Me {H:Hp}{p:Addr}{o o':HO}{v:V}{n:Nd}(hp:H p=some o)(d:∀xs,HO.tup xs≠o)(h:fJ H v n):fJ (upd H p o') v n:=by
 obtain⟨q,b,a⟩:=h;exact⟨q,b,by rw[ef (fh a hp (d _))];exact a⟩
def Eu (es:List En)(sn:List Nd)(ps:List Pk)(n:Nd):Prop:=∃ns∈pe es sn ps,n∈ns
theorem Iy (a:List Str)(ps:List Pk):decide (V.int ((ku a).length:Int)=V.int (ps.length:Int))=decide (a.length=ps.length):=by
 have b:(ku a).length=a.length:=by unfold ku;rw[ab]
 rw[b];by_cases z:a.length=ps.length
 ·rw[aq z,aq (by rw[z])]
 ·rw[au z,au (λy=>z (by injection y with y;exact Int.ofNat.inj y))]
section
variable {P:Program}{w:World}{K:W.Frag}{mg:Str->Option Value}{base:Heap}{f:Addr}{fd:FuncData}
theorem xo:eM ["_law_shelf","_law_start","_law_picks","_law_version","_law_pick","_law_wanted","_law_seen","_law_need"] ["_law_shelf","_law_start","_law_picks"] (eB uT):=i4
end
inductive oH (vs:List V)(H:Hp)(Q:VK)(E:XK):Prop
 |mk (sh st pk:Addr)(es:List En)(sn:List Nd)(ps:List Pk)(_:vs=[.ref sh,.ref st,.ref pk])(_:iM H sh es)(_:(es.map eU).Nodup)(_:∀e∈es,lR e)(_:gv H st sn)(_:∀n∈sn,fK n.1)(_:sn.length<=900)(_:iO H pk ps)(_:lH es ps)(_:(ps.map (·.1)).Nodup)(_:ps.length<=900)(_:v9 es sn ps)(_:∀fin,Wk es ps sn [] fin->fin.Nodup->(∀x∈fin,x∈ps.map (·.1))->fin.length=ps.length)(_:∀H',eF H H'->Q (.bl true) H')
inductive IW (H0:Hp)(es:List En)(sn:List Nd)(ps:List Pk)(sh st pk vd wa sd:Addr)(m:Nat)(σ:L2.St)(H:Hp):Prop
 |mk (zs an nm o4 o7:_)(_:σ=[some (.ref sh),some (.ref st),some (.ref pk),some (.ref vd),o4,some (.ref wa),some (.ref sd),o7])(_:H vd=some (.dK (jS ps)))(_:H sd=some (.dK (ku nm)))(_:H wa=some (.lst zs))(_:Paired (fJ H) zs an)(_:∀n∈an,fK n.1/\Eu es sn ps n)(_:nm.Nodup)(_:∀x∈nm,x∈ps.map (·.1))(_:∀fin,Wk es ps an nm fin->Wk es ps sn [] fin)(_:nm.length+iX ps nm<=ps.length)(_:101*iX ps nm+an.length=m)
structure Jt (H0:Hp)(es:List En)(sn:List Nd)(ps:List Pk)(sh st pk vd wa sd:Addr)(m:Nat)(σ:L2.St)(H:Hp):Prop where
 ex:IW H0 es sn ps sh st pk vd wa sd m σ H
 sm:eF H0 H
 le:m<=100000
section
variable {P:Program}{w:World}{K:W.Frag}{mg:Str->Option Value}{base:Heap}{f:Addr}{fd:FuncData}
theorem xM (F:iL K "_law_fits" "_law_fits" uT f fd)(T:vZ K mg)(G:Gd P w K mg base fB 1 "_law_needs_in" ["_law_shelf","_law_pick"] pY)(G2:Gd P w K mg base fB 1 "_law_meets" ["_law_need","_law_version"] (oG K)):fi P w K mg base fB 2 f fd ["_law_shelf","_law_start","_law_picks"] oH:=by
 refine F.ok xo λdy A c4 s H vs Q E hr h=>?_;obtain⟨sh,st,pk,es,sn,ps,rfl,b9,a0,a9,⟨r,cp,co⟩,c2,dd,⟨xs,L,hp⟩,a7,c8,dx,Y,b3,q⟩:=h;have hu:=gB hr;refine⟨_,(ee (eJ (i:=3) xo.nd gY) (ee (fG (fD (pv 2)) (eL (i:=4) xo.nd) (ee (fz (PW.pt (ja (hJ (mU hu (eG eN (pv 4) er) (pv 3))) (iR (hJ (rW (fN G hr (dZ (pv 0) (dZ (pv 4) eg)))))))) fT eP) (eo (iD hu (pv 3) (eG eN (pv 4) er) (eG eN (pv 4) er) rfl)))) (ee (eJ (i:=5) xo.nd (gX ig rfl T.list cM (dZ (pv 1) eg))) (ee (eJ (i:=6) xo.nd gY) (ee (jE PassesOwn.never (fC (zQ hr.units) (pv 5) (gM eg) (fO _)) (ee (eJ (i:=7) xo.nd (uZ PySem.F.plainAttrs_list PySem.F.slot_list_pop PySem.F.type_list_pop vq (pv 5))) (ee (fz (PW.pt (ja (hJ (jD hu (eG eN (pv 7) er) (pv 3))) (iR (gJ (gH (fN G2 hr (dZ (pv 7) (dZ (gN hu (pv 3) (eG eN (pv 7) er)) eg)))))))) fT eP) (eo (fz (hJ (jD hu (eG eN (pv 7) er) (pv 6))) (ee (iD hu (pv 6) (eG eN (pv 7) er) iU rfl) (eo (gm (ju PySem.F.plainAttrs_list PySem.F.slot_list_extend PySem.F.type_list_extend qG (pv 5) (dZ (fN G hr (dZ (pv 0) (dZ (gL (dZ (eG eN (pv 7) er) (dZ (gN hu (pv 3) (eG eN (pv 7) er)) eg))) eg))) eg))))) eP))))) (eo (eQ (jU km (eW qO rfl T.len bp (dZ (pv 6) eg)) (eW fj rfl T.len bp (dZ (pv 2) eg)) (fO _))))))))),?_⟩;have lx:xs.length=ps.length:=Paired.length hp;refine λp b2=>?_;have s1:=eA b2 (.dK []);refine⟨_,rfl,pk,rfl,⟨xs,eX.of (s1 _ _ L)⟩,fQ (K:=K) (a:=pk) (xs:=xs) (λi σ H2=>∃o4,σ=[some (.ref sh),some (.ref st),some (.ref pk),some (.ref p),o4,none,none,none]/\eF H H2/\H2 p=some (.dK (jS (ps.take i)))) ⟨none,rfl,s1,d0⟩ ((by rintro i σ H2 _ ⟨_,_,s,_⟩;exact eX.of (s _ _ L))) ?_ ?_⟩
 ·rintro i x σ H2 hi ⟨o4,rfl,s2,Z⟩;obtain⟨k,hk,kq,rfl,c1⟩:=Paired.Kq hp hi;have g1:=s2 _ _ c1;have d7:i<ps.length:=(af.mp hk).1;have ht:ps.take (i+1)=ps.take i++[k]:=by rw[aX,hk];rfl
  have a6:=a7 k (ai hk);have a1:((ps.take i++[k]).map (·.1)).Nodup:=by rw[<-ht,ck];exact jg _ c8
  have c5:iT (ps.take i) k.1=none:=by
   cases e:iT (ps.take i) k.1 with
   |none=>rfl
   |some z=>
    have:=oJ e;rw[ay,bN]at a1;exact absurd rfl (a1.2.2 k.1 (aw.mpr ⟨_,this,rfl⟩) k.1 (by simp))
  have d:=jl k.1 (ps.take i);rw[c5]at d;refine⟨_,rfl,kq,_,_,_,rfl,rfl,gs.of g1,rfl,_,rfl,p,_,rfl,iu.k (k:=Sum.inr k.1) Z,_,rfl,?_⟩;rw[d];refine ff ?_;refine⟨_,rfl,_,rfl,sh,.ref kq,es,k,rfl,iM.same s2 b9,⟨kq,rfl,g1⟩,a0,λe he bm na zs bd X=>?_,λz=>absurd a6 z⟩;refine⟨_,rfl,ff ?_⟩;refine⟨_,rfl,kq,_,_,_,rfl,rfl,gs.of g1,rfl,_,rfl,_,rfl,kq,_,_,_,rfl,rfl,gs.of g1,rfl,p,_,rfl,kP.k (k:=Sum.inr k.1) Z (eO (by unfold jS;rw[ab,aT];lia)),?_⟩;refine⟨_,rfl,eF.upd s2 b2,?_⟩;have hm:=kz [k] (ps.take i) a1;rw[d0,ht,<-hm];rfl
 rintro σ H2 ⟨o4,rfl,s2,Z⟩;rw[lx,aI]at Z;refine⟨_,rfl,st,r,rfl,.inl (eX.of (s2 _ _ cp)),λg b6=>?_⟩;have s3:=eA b6 (.lst r);have bx:H g=none:=s2.free b6;refine λsd R=>?_;have s4:=s3.trans (eA R (.dK []));have c7:H sd=none:=(s2.trans s3).free R;have b7:upd (upd H2 g (.lst r)) sd (.dK []) g=some (.lst r):=(eA R _) _ _ d0;have bq:upd (upd H2 g (.lst r)) sd (.dK []) sd=some (.dK (ku [])):=d0;generalize d4:upd (upd H2 g (.lst r)) sd (.dK [])=H4 at *;have bv:=s2.trans s4;have cd:=ub ps [];have cv:p≠sd:=λe=>by
  have:=s3 _ _ Z;rw[e,R]at this;cases this
 refine⟨Jt H es sn ps sh st pk p g sd,⟨101*iX ps []+sn.length,⟨r,sn,[],o4,none,rfl,s4 _ _ Z,bq,b7,Paired.J4 co λ_ _=>fJ.same bv,λn hn=>⟨c2 n hn,sn,by simp[pe],hn⟩,bM,(λx L=>nomatch L),λO h=>h,by rw[cQ,dL];exact cd,rfl⟩,bv,by lia⟩,?_⟩;rintro m σ H5 ⟨⟨zs,an,j,d2,o7,rfl,cx,c0,al,hz,l,N,M,hW,c6,hm⟩,sm,dp⟩;refine⟨_,rfl,tH,λe0 ch=>?_⟩;have s6:=eA ch (.lst []);refine⟨.list (an.map Cl),.list [],.lst (s6 _ _ al) (og (λ_ _ z=>fJ.rep z) (Paired.J4 hz λ_ _=>fJ.same s6)),.lst d0 .nil,l5 (D8 λn hn=>(l n hn).1) (by decide),rfl,_,rfl,?_⟩;rw[CG];have a2:=sm.trans s6;have bf:=s6 _ _ cx;have ad:=s6 _ _ c0;have B:=s6 _ _ al;have bl:Paired (fJ (upd H5 e0 (.lst []))) zs an:=Paired.J4 hz λ_ _ z=>fJ.same s6 z;generalize d6:upd H5 e0 (.lst [])=H6 at *;by_cases hnil:an=[]
 ·subst hnil;refine ff ?_;refine⟨_,rfl,sd,ku j,rfl,ad,_,rfl,pk,xs,rfl,.inl (eX.of (a2 _ _ L)),rfl,?_⟩;rw[lx,Iy,aq (b3 j (hW j .done) N M)];exact q H6 a2
 obtain⟨an',n,rfl⟩:∃an' n,an=an'++[n]:=⟨an.dropLast,an.getLast hnil,(List.dropLast_concat_getLast hnil).symm⟩;have a8:(List.map Cl (an'++[n])).isEmpty=false:=by simp
 rw[a8];obtain⟨b,v,rfl,hz',hv⟩:∃b v,zs=b++[v]/\Paired (fJ H6) b an'/\fJ H6 v n:=by
  clear l hW hm al B hnil a8 hz
  induction an' generalizing zs with
  |nil=>
   cases bl with
   |cons h t=>cases t;exact⟨[],_,rfl,.nil,h⟩
  |cons a an' ih=>
   cases bl with
   |cons h t=>
    obtain⟨b,v,rfl,h1,Z⟩:=ih _ t;exact⟨_::b,v,rfl,.cons h h1,Z⟩
 refine gW ⟨λσ' H'=>∃m',m'<m/\Jt H es sn ps sh st pk p g sd m' σ' H',λ_ _ z=>z,?_⟩;obtain⟨o,rfl,b8⟩:=id hv;have c9:an'.length+1+101*iX ps j=m:=by rw[aF,aU]at hm;lia
 refine⟨_,rfl,.inl ⟨rfl,_,eX.of B⟩,g,_,_,rfl,rfl,B,yf _ _,?_⟩;have s7:eF H (upd H6 g (.lst (b++[V.ref o]).dropLast)):=eF.upd a2 bx;have ah:upd H6 g (.lst (b++[V.ref o]).dropLast) g=some (.lst b):=by rw[d0,List.dropLast_concat]
 have U:upd H6 g (.lst (b++[V.ref o]).dropLast) p=some (.dK (jS ps)):=by rw[ef (fh bf B (by intro z;cases z))];exact bf
 have I:upd H6 g (.lst (b++[V.ref o]).dropLast) sd=some (.dK (ku j)):=by rw[ef (fh ad B (by intro z;cases z))];exact ad
 have C:upd H6 g (.lst (b++[V.ref o]).dropLast) o=some (.tup [.str n.1,.int n.2.1,.int n.2.2]):=by rw[ef (fh b8 B (by intro z;cases z))];exact b8
 have b1:Paired (fJ (upd H6 g (.lst (b++[V.ref o]).dropLast))) b an':=Paired.J4 hz' λ_ _ y=>fJ.Md B y;generalize d5:upd H6 g (.lst (b++[V.ref o]).dropLast)=H7 at *;obtain⟨dv,ba,aa,J⟩:=l n (by simp);have d:=jl n.1 ps;refine⟨_,rfl,o,_,_,_,rfl,rfl,gs.of C,rfl,_,rfl,p,_,rfl,iu.k (k:=Sum.inr n.1) U,_,rfl,?_⟩;cases hvz:iT ps n.1 with
 |none=>
  have:=Y.2 ba aa n J;unfold kO at this;rw[hvz]at this;cases this
 |some z=>
 rw[hvz]at d;rw[d];refine ff ?_;have c3:iu H7 p (.str n.1) (some (.int z)):=by
  have:=iu.k (k:=Sum.inr n.1) U;rw[d]at this;exact this
 refine⟨_,rfl,_,rfl,_,rfl,o,_,_,_,rfl,rfl,gs.of C,rfl,p,_,rfl,c3,.ref o,n,z,rfl,⟨o,rfl,C⟩,_,rfl,?_⟩;refine jO (λc=>?_) (λc=>?_)
 ·have:=Y.1 ba aa n J;unfold qm at this;rw[hvz]at this;dsimp only at this;unfold lI at this;rw[c]at this;cases this
 have D:=oJ hvz;refine⟨_,rfl,o,_,_,_,rfl,rfl,gs.of C,rfl,_,rfl,sd,_,rfl,iu.k (k:=Sum.inr n.1) I,_,rfl,?_⟩;rw[kQ];by_cases hin:n.1∈j
 ·rw[aq hin];refine ff ⟨101*iX ps j+an'.length,by lia,⟨b,an',j,_,_,rfl,U,I,ah,b1,λx L=>l x (by simp[L]),N,M,λO h=>hW O (.old hin h),c6,rfl⟩,s7,by lia⟩
 ·rw[au hin];refine gW ?_;have d3:=l8 hin (ps:=ps) (aw.mpr ⟨_,D,rfl⟩);have dl:(ku j).length<=900:=by unfold ku;rw[ab];lia
  refine⟨_,rfl,_,rfl,o,_,_,_,rfl,rfl,gs.of C,rfl,sd,_,rfl,kP.k (k:=Sum.inr n.1) I (eO (by lia)),?_⟩;rw[rS hin];have s8:eF H (upd H7 sd (.dK (ku (j++[n.1])))):=eF.upd s7 c7;have S:upd H7 sd (.dK (ku (j++[n.1]))) g=some (.lst b):=by rw[ef (fh ah I (by intro z;cases z))];exact ah
  have ag:upd H7 sd (.dK (ku (j++[n.1]))) p=some (.dK (jS ps)):=by rw[ef cv];exact U
  have a3:upd H7 sd (.dK (ku (j++[n.1]))) sd=some (.dK (ku (j++[n.1]))):=d0;have b5:upd H7 sd (.dK (ku (j++[n.1]))) o=some (.tup [.str n.1,.int n.2.1,.int n.2.2]):=by rw[ef (fh C I (by intro z;cases z))];exact C
  have cl:Paired (fJ (upd H7 sd (.dK (ku (j++[n.1]))))) b an':=Paired.J4 b1 λ_ _ y=>fJ.Me I (by intro xs z;cases z) y;generalize d1:upd H7 sd (.dK (ku (j++[n.1])))=H8 at *;have a4:iu H8 p (.str n.1) (some (.int z)):=by
   have:=iu.k (k:=Sum.inr n.1) ag;rw[d]at this;exact this
  refine⟨_,rfl,.inl ⟨rfl,_,eX.of S⟩,_,rfl,_,rfl,o,_,_,_,rfl,rfl,gs.of b5,rfl,_,rfl,_,rfl,o,_,_,_,rfl,rfl,gs.of b5,rfl,p,_,rfl,a4,tG,λkt ct=>?_⟩;have s9:=eA ct (.tup [.str n.1,.int z]);refine⟨sh,.ref kt,es,(n.1,z),rfl,iM.same (s8.trans s9) b9,⟨kt,rfl,d0⟩,a0,λe he bm na b4 bd X=>?_,λy=>absurd (a7 _ D) y⟩;have cz:fX es (n.1,z)=e.2.2:=by rw[<-bm,iA a0 he]
  rw[<-cz]at X;have dc:=Paired.length hz';have dn:=Paired.length X;have da:=mZ a9 (n.1,z);have a5:=s9 _ _ S;refine⟨g,na,b,b4,rfl,rfl,a5,bd,by rw[bV];lia,?_⟩;have cn:p≠g:=fh ag S (by intro z;cases z);have cy:sd≠g:=fh a3 S (by intro z;cases z);refine⟨101*iX ps (j++[n.1])+(an'++fX es (n.1,z)).length,by rw[aF];lia,⟨b++b4,an'++fX es (n.1,z),j++[n.1],_,_,rfl,by rw[ef cn];exact s9 _ _ ag,by rw[ef cy];exact s9 _ _ a3,d0,?_,λx L=>?_,ol N hin,λx L=>?_,λO h=>hW O (.new hin hvz h),by rw[aF,aU];lia,rfl⟩,eF.upd (s8.trans s9) bx,by rw[aF];lia⟩
  ·have ap:∀{as bs:List V} {cs ds:List Nd},Paired (fJ (upd H8 kt (.tup [.str n.1,.int z]))) as cs->Paired (fJ (upd H8 kt (.tup [.str n.1,.int z]))) bs ds->Paired (fJ (upd H8 kt (.tup [.str n.1,.int z]))) (as++bs) (cs++ds):=by
    intro as bs cs ds r1 r2
    induction r1 with
    |nil=>exact r2
    |cons h t ih=>exact .cons h ih
   exact Paired.J4 (ap (Paired.J4 cl λ_ _=>fJ.same s9) X) λ_ _ y=>fJ.Md a5 y
  ·rcases aD.mp L with y | y
   ·exact l x (by simp[y])
   ·exact⟨r9 a9 _ x y,_,by unfold pe;exact bc _ (aw.mpr ⟨_,D,rfl⟩),y⟩
  ·rcases aD.mp L with y | y
   ·exact M x y
   ·rw[aj.mp y];exact aw.mpr ⟨_,D,rfl⟩
end
end
section
variable {L:ir}{ds:List Pk}{es:List En}{pk:Nat}
theorem Wk.closed {ps:List Pk}{an:List Nd}{nm fin:List Str}(h:Wk es ps an nm fin):(∀x∈nm,x∈fin)/\(∀n∈an,n.1∈fin)/\∀x z,iT ps x=some z->x∈fin->x∉nm->∀n∈fX es (x,z),n.1∈fin:=by
 induction h with
 |done=>exact⟨λ_ h=>h,(by simp),λx z _ l j=>absurd l j⟩
 |@old ah n nm fin hn _ ih=>
  obtain⟨d,g,i⟩:=ih;refine⟨d,λm b=>?_,i⟩;rcases aD.mp b with y | y
  ·exact g m y
  ·rw[aj.mp y];exact d _ hn
 |@new ah n nm fin z hn hv _ ih=>
  obtain⟨d,g,i⟩:=ih;refine⟨λx p=>d x (by simp[p]),λm b=>?_,λx o a l j m b=>?_⟩
  ·rcases aD.mp b with y | y
   ·exact g m (by simp[y])
   ·rw[aj.mp y];exact d _ (by simp)
  ·by_cases e:x=n.1
   ·subst e;rw[hv]at a;cases a;exact g m (by simp[b])
   ·exact i x o a l (by simp[j,e]) m b
theorem mW {c:el}(h:c.KO pk):((c.listed pk).map (·.1)).Nodup:=by
 refine cw.mpr ?_;have:(c.listed pk).Nodup:=c.nd.filter _;exact this.imp_of_mem λb d a z=>a (h _ _ (el.Kx.mp b) (el.Kx.mp d) z)
theorem sE {sn:List Nd}{ps:List Pk}(h:kM es sn ps)(hn:(ps.map (·.1)).Nodup):v9 es sn ps:=by
 have key:∀d∈pe es sn ps,∀m∈d,∃v,iT ps m.1=some v/\lI m v=true:=λd a m b=>by
  obtain⟨j,hj,e1,e2⟩:∃j∈ps,j.1=m.1/\lI m j.2=true:=by
   rcases am.mp a with y | y
   ·subst y;exact h.met none (λ_ z=>nomatch z) m b
   ·obtain⟨k,i,rfl⟩:=aw.mp y;exact h.met (some k) (λ_ z=>by cases z;exact i) m b
  exact⟨j.2,by rw[<-e1];exact vC hn hj,e2⟩
 constructor
 ·intro d a m b;obtain⟨v,e,g⟩:=key d a m b;unfold qm;rw[e];simp[g]
 ·intro d a m b;obtain⟨v,e,g⟩:=key d a m b;unfold kO;rw[e];rfl
theorem wL {c:el}{fin:List Str}(s:c.KO pk)(hn:∀k,c.has pk k->c.Named pk k)(p:Wk c.es (c.listed pk) c.sn [] fin)(l:fin.Nodup)(o:∀x∈fin,x∈(c.listed pk).map (·.1)):fin.length=(c.listed pk).length:=by
 have d:=mW s;obtain⟨_,t,q⟩:=p.closed;have all:∀k,c.Named pk k->k.1∈fin:=λk g=>by
  induction g with
  |@start k h h'=>
   obtain⟨n,hn,e⟩:=aw.mp h';rw[<-e];exact t n hn
  |@next j k hj g h' ih=>
   obtain⟨n,hn,e⟩:=aw.mp h';rw[<-e];have i:c.has pk j:=by
    cases hj with
    |start h _=>exact h
    |next _ h _=>exact h
   exact q j.1 j.2 (vC d (el.Kx.mpr i)) ih (by simp) n hn
 have a:=rc l o;have b:=rc d (m:=fin) λx r=>by
  obtain⟨k,g,rfl⟩:=aw.mp r;exact all k (hn k (el.Kx.mp g))
 rw[ab]at a b;omega
theorem ll {c:el}{m:Nat}:(c.listed m).length<=c.es.length:=by
 have:=c.pm.length_eq;rw[ab]at this;rw[<-this];exact bE _ _
theorem jW {c:el}(a:∀e∈c.es,lR e){m:Nat}{k:Pk}(h:k∈c.listed m):fK k.1:=by
 obtain⟨e,b,rfl⟩:=aw.mp ((c.mem k).mp (el.Kx.mp h).1);exact(a e b).pt
theorem yd {c:el}(hL:gQ c L)(hok:∀e∈c.es,lR e)(h64:c.es.length<64):∀l∈c.lns L,EQ l:=λl hl=>by
 obtain⟨e,he,rfl⟩:=aw.mp hl;obtain⟨i,hi⟩:=aC.mp he;have h:=hL.good i e hi;have hll:(c.listed e.1).length<=c.es.length:=ll;unfold jp at h;rw[aH]at h;obtain⟨hw,h⟩:=h;refine⟨by show(c.listed e.1).length<=_;omega,λp hp=>jW hok hp,λk hk=>?_,λk hk=>?_,λbs hb=>?_⟩
 ·rw[hk]at hw;have hw':(decide (k∈c.listed e.1)&&decide (k∈c.es.map eU))=true:=hw;rw[aH]at hw';exact jW hok (aV hw'.1)
 ·cases hn:iI (gT c.es c.sn (c.ln e).2.who) (c.ln e).2.place with
  |none=>rw[hn]at h;cases h
  |some n=>
   rw[hn]at h;dsimp only at h;rw[hk]at h;have h':(decide (k∈c.listed e.1)&&p8 n k)=true:=h;rw[aH]at h';exact jW hok (aV h'.1)
 ·cases hn:iI (gT c.es c.sn (c.ln e).2.who) (c.ln e).2.place with
  |none=>rw[hn]at h;cases h
  |some n=>
   rw[hn]at h;dsimp only at h;rw[hb]at h;have h':kN c.es (c.lns L) (i:Nat) (c.listed e.1) n bs=true:=h;unfold kN at h';rw[aH,aB]at h';have:=li c.es n;omega
theorem uc {c:el}(hL:gQ c L):∀(i:Nat) (l:Ln),(c.lns L)[i]?=some l->jp c.es c.sn (c.lns L) (i:Nat) l=true:=λi l hl=>by
 unfold el.lns at hl;rw[ae]at hl;obtain⟨e,he,rfl⟩:=az.mp hl;exact hL.good i e he
theorem sq {c:el}(d:gQ c L)(h:∀e∈c.es,Lw e):L.length<sizeLine:=by
 have:=yc (Ps:=ug) (Vs:=wm) d (λk a=>by
  obtain⟨e,b,rfl⟩:=aw.mp ((c.mem k).mp a)
  exact(h e b).1) λk a=>by
  obtain⟨e,b,rfl⟩:=aw.mp ((c.mem k).mp a);exact(h e b).2
 have e:(wm.length+1)^ug.length=4096:=by decide
 rw[e]at this;rw[bV];omega
theorem nJ {sn:List Nd}(hok:∀e∈es,lR e)(hs:sn.length<=100):∀w,(gT es sn w).length<=100
 |none=>hs
 |some k=>mZ hok k
theorem Ax {α:Type} [DecidableEq α] {a x:α}{l:List α}(h:a≠x):(a::l).idxOf x=l.idxOf x+1:=by
 rw[List.idxOf_cons,beq_false_of_ne h];rfl
theorem jt {α:Type} [DecidableEq α] {p:α->Bool}{x y:α}(hx:p x=true):∀{l:List α},y∈(l.filter p).take ((l.filter p).idxOf x)->y∈l.take (l.idxOf x)
 |[],h=>h
 |a::l,h=>by
  by_cases e:a=x
  ·subst e;rw[aJ,ax hx,cu]at h;cases h
  ·rw[Ax e,List.take_succ_cons];rw[aJ]at h
   split at h
   ·rw[Ax e,List.take_succ_cons]at h;rcases am.mp h with z | z
    ·rw[z];exact bt ..
    ·exact bc _ (jt hx z)
   ·exact bc _ (jt hx h)
theorem pr {x y:Str}:∀{ns:List Nd},y∈(eR ns).take ((eR ns).idxOf x)->y∈(ns.map (·.1)).take ((ns.map (·.1)).idxOf x)
 |[],h=>h
 |n::ns,h=>by
  rw[eR]at h;rw[aG];by_cases e:n.1=x
  ·rw[e,cu]at h;cases h
  ·rw[Ax e,List.take_succ_cons]at h ⊢;rcases am.mp h with z | z
   ·rw[z];exact bt ..
   ·exact bc _ (pr (jt (by simpa using λz=>e z.symm) z))
theorem yl {x:Str}{A B:List Str}(h:x∉A):(A++x::B).idxOf x=A.length:=by
 rw[List.idxOf_append,av h,cu,dL]
theorem uJ {c:el}{n:Nd}{A B:List Nd}{k:Pk}{v:Int}{ah:List Pk}(hs:∀k,c.has pk k->k.1∈c.start->∀n,(c.needs none)[((c.needs none).map (·.1)).idxOf k.1]?=some n->∀kk∈c.LY n k,∃e∈L,∀j,c.has e.1 j->j=kk\/c.has (c.LZ pk k.1) j)(b:c.sn=A++n::B)(d:n.1∉A.map (·.1))(s:c.has pk k)(a:k.1=n.1)(w:v∈je c.es n)(g:k.2<v)(y:∀j,c.has pk j->j.1∈A.map (·.1)->j∈ah):∃l∈c.lns L,∀p∈l.1,p∈ah++[(n.1,v)]:=by
 have q:c.needs none=A++n::B:=b;have o:((A++n::B).map (·.1)).idxOf k.1=A.length:=by
  rw[a,ay,aG,yl d,ab]
 have i:k.1∈c.start:=by
  unfold el.start;rw[hZ,a];exact⟨n,by rw[b];simp,rfl⟩
 obtain⟨e,t,h⟩:=hs k s i n (by rw[q,o,bb (ao _),bQ];rfl) (k.1,v) (by
  unfold el.LY
  exact aw.mpr ⟨v,aZ.mpr ⟨w,aq g⟩,rfl⟩)
 refine⟨c.ln e,aw.mpr ⟨e,t,rfl⟩,λp hp=>?_⟩;rcases h p (el.Kx.mp hp) with z | z
 ·rw[z,a];simp
 ·obtain⟨x,m⟩:=el.L0.mp z;unfold el.start at m;have:=pr m;rw[b,o,ay]at this;have r:(A.map (·.1)++(n::B).map (·.1)).take A.length=A.map (·.1):=by
   rw[<-ab (as:=A) (f:=(·.1)),List.take_left]
  rw[r]at this;exact aP _ (y p x this)
theorem t0 {c:el}(b:gQ c L)(a:kM c.es c.sn ds){l:Ln}(e:l∈c.lns L)(h:∀p∈l.1,p∈ds):False:=by
 obtain⟨i,d⟩:=aC.mp e;exact Dc (uc b) a i l d h
theorem Ck {c:el}(d:gQ c L)(a:kM c.es c.sn ds){e:Nat×Rs}(g:L.getLast?=some e)(b:e.1=0):False:=by
 refine t0 d a (aw.mpr ⟨e,List.mem_of_getLast? g,rfl⟩) λp hp=>?_;have:=(el.Kx.mp hp).2;rw[b]at this;simp at this
theorem qF {c:el}{n:Nd}{A B:List Nd}{k:Pk}{v:Int}(hL:gQ c L)(hf:kM c.es c.sn ds)(hs:∀k,c.has pk k->k.1∈c.start->∀n,(c.needs none)[((c.needs none).map (·.1)).idxOf k.1]?=some n->∀kk∈c.LY n k,∃e∈L,∀j,c.has e.1 j->j=kk\/c.has (c.LZ pk k.1) j)(hsn:c.sn=A++n::B)(hk:c.has pk k)(hkn:k.1=n.1)(hv:(n.1,v)∈ds)(hA:∀j,c.has pk j->j.1∈A.map (·.1)->j∈ds):¬k.2<v:=λhlt=>by
 by_cases hna:n.1∈A.map (·.1)
 ·have:=hf.one k (hA k hk (hkn▸hna)) _ hv hkn;rw[this]at hlt;exact Int.lt_irrefl _ hlt
 ·obtain⟨j,hj,e1,e2⟩:=hf.met none (λ_ z=>nomatch z) n (by show n∈c.sn;rw[hsn];simp);have ej:=hf.one j hj _ hv e1
  obtain⟨l,hl,h⟩:=uJ (ah:=ds) hs hsn hna hk hkn (v:=v) (by
   unfold je;rw[List.mem_mergeSort]
   exact mG.mpr ⟨hf.key _ hv,by rw[ej]at e2;exact e2⟩) hlt hA
  refine t0 hL hf hl λp hp=>?_;rcases aD.mp (h p hp) with z | z
  ·exact z
  ·rw[aj.mp z];exact hv
end
section
seal mj PS PE PT PA
variable {C:Addr}{K:W.Frag}{P:Program}{fd:FuncData}{mg:Str->Option Value}{w:World}
inductive yB (W:List Pk->Nd->Bool)(vs:List V)(H:Hp)(Q:VK)(E:XK):Prop
 |mk (v:V)(d:Addr)(n:Nd)(ps:List Pk)(_:vs=[v,.ref d])(_:fJ H v n)(_:H d=some (.dK (jS ps)))(_:∀H',eF H H'->Q (.bl (W ps n)) H')
inductive Ba (P:Program)(w:World)(K:W.Frag)(mg:Str->Option Value)(base:Heap)(C:Addr)(vs:List V)(H:Hp)(Q:VK)(E:XK):Prop
 |mk (b pa g st:Addr)(gd:FuncData)(Wr:List Pk->Nd->Bool)(es:List En)(sn:List Nd)(ps:List Pk)(xs:List V)(_:vs=[.ref b,.ref pa,.ref g])(_:fi P w K mg base fB 2 g gd ["need","picked"] (yB Wr))(_:W.keepIn K (.ref g)=true)(_:iC K gd ["need","picked"] [])(_:ge C H b st es)(_:(es.map eU).Nodup)(_:gv H st sn)(_:H pa=some (.lst xs))(_:Paired (fg H) xs ps)(_:lH es ps)(_:(ps.map (·.1)).Nodup)(_:ps.length<=900)(_:sZ (Wr ps) (pe es sn ps))(_:∀H',eF H H'->Q .non H')
section
variable {base:Heap}{f:Addr}
theorem Dd:eM ["need","picked","part"] ["need","picked"] (eB DU):=i4
theorem D7 (F:iL K "clashes_with" "clashes_with" DU f fd)(G:Gd P w K mg base fB 1 "clashes" ["need","pick"] lE):fi P w K mg base fB 2 f fd ["need","picked"] (yB qm):=by
 refine F.ok Dd λx A j s H B Q E o h=>?_;obtain⟨v,d,n,g,rfl,⟨l,rfl,b⟩,m,q⟩:=h;have p:=gB o;refine⟨_,(ee (eJ (i:=2) Dd.nd (eG eN (pv 0) er)) (eo (eQ (lg (zH (mU p (pv 2) (pv 1))) (lZ (fN G o (dZ (pv 0) (dZ (gL (dZ (pv 2) (dZ (gN p (pv 1) (pv 2)) eg))) eg)))))))),?_⟩;refine⟨_,rfl,l,_,_,_,rfl,rfl,gs.of b,rfl,?_⟩;refine⟨_,rfl,_,rfl,d,_,rfl,iu.k (k:=Sum.inr n.1) m,_,rfl,?_⟩;have a:=jl n.1 g;cases e:iT g n.1 with
 |none=>
  rw[e]at a;rw[a];refine ff ?_;have:=q H (eF.refl H);rw[show qm g n=false by unfold qm;rw[e]]at this;exact this
 |some z=>
  rw[e]at a;rw[a];refine gW ?_;refine⟨_,rfl,_,rfl,_,rfl,_,rfl,d,.int z,rfl,(by have:=iu.k (k:=Sum.inr n.1) m;rw[a]at this;exact this),tG,λt y=>?_⟩;have r:=eA y (.tup [.str n.1,.int z]);refine⟨.ref l,.ref t,n,(n.1,z),rfl,⟨l,rfl,r _ _ b⟩,⟨t,rfl,d0⟩,?_⟩;have:=q _ r;rw[show qm g n=nw n (n.1,z) by unfold qm nw;rw[e];simp]at this;exact this
theorem DN:eM ["need","picked"] ["need","picked"] (eB ze):=i4
theorem Ce (F:iL K "lacks_pick" "lacks_pick" ze f fd):fi P w K mg base fB 1 f fd ["need","picked"] (yB kO):=by
 refine F.ok DN λi A e s H o Q E j h=>?_;obtain⟨v,d,n,a,rfl,⟨m,rfl,b⟩,g,q⟩:=h;have l:=gB j;refine⟨_,(eo (eQ (zH (jD l (eG eN (pv 0) er) (pv 1))))),?_⟩;refine⟨_,rfl,m,_,_,_,rfl,rfl,gs.of b,rfl,_,rfl,d,_,rfl,iu.k (k:=Sum.inr n.1) g,?_⟩;have:=q H (eF.refl H)
 rw[show kO a n=!(eV (jS a) (Sum.inr n.1:gz)).isSome by
  rw[jl];unfold kO;cases iT a n.1 <;> rfl]at this
 exact this
end
section
variable {base:Heap}{f:Addr}
theorem tO:eM ["board","picks","wrong","picked","who","place","need"] ["board","picks","wrong"] (eB uU):=i4
theorem Ac (F:iL K "first_need" "first_need" uU f fd)(T:TB K mg C)(mD:mg "dict" = none)(mE:mg "enumerate" = none):fi P w K mg base fB 3 f fd ["board","picks","wrong"] (Ba P w K mg base C):=by
 refine F.ok tO λbq A a4 s H vs Q E hr h=>?_;obtain⟨b,Z,g,st,gd,W,es,sn,l,xs,rfl,FG,kG,bG,hB,a8,⟨as,a3,a2⟩,hx,hp,aa,bd,hl,an,q2⟩:=h;have hu:=gB hr;refine⟨_,(ee (eJ (i:=3) tO.nd (gX (pT rfl) rfl mD PyProof.Rows.boot_dict (dZ (pv 1) eg))) (ee (fG (fD (fe D3 (gM (dZ iH eg)) (pv 1))) (eL (i:=4) tO.nd) (eo (fG (wx rfl mE (eY hu (jG (pv 0) rfl) (pv 4))) (lc rfl (gj (eL (i:=5) tO.nd) (gj (eL (i:=6) tO.nd) jT))) (eo (fz (gH (zJ (i:=2) rfl (Or.inl rfl) hr (dZ (pv 6) (dZ (pv 3) eg)))) fT eP))))) (eo (eQ iH)))),?_⟩;have lx:xs.length=l.length:=Paired.length hp;obtain⟨dx,dn,dv,hb,v,D⟩:=hB.start;have a9:(jS l).length<=1000:=by unfold jS;rw[ab];omega
 refine⟨_,rfl,Z,xs,jS l,rfl,hx,pw hp,a9,λd hd=>?_⟩;have ba:iJ [] (jS l)=jS l:=kz l [] (by simpa using bd);rw[ba];have s1:=eA hd (.dK (jS l));generalize a7:upd H d (.dK (jS l))=H1 at *;have ah:H1 d=some (.dK (jS l)):=by rw[<-a7];exact d0
 refine⟨Jw,λl0 L=>⟨_,rfl,l0,Z,_,xs,rfl,rfl,d0,?_,?_,λR a0=>?_⟩⟩
 ·rw[ef (et (s1 _ _ hx) L)];exact s1 _ _ hx
 ·rw[bV];show 1+xs.length<=_;omega
 have s2:eF H1 (upd (upd H1 l0 (.lst [.non])) R (.lst ([V.non]++xs))):=(eA L _).trans (eA a0 _);generalize bm:upd (upd H1 l0 (.lst [.non])) R (.lst ([V.non]++xs))=H2 at *;have M:H2 R=some (.lst (V.non::xs)):=by rw[<-bm];exact d0
 have r:eF H H2:=s1.trans s2;have bl:∀(i:Nat) (x:V),(V.non::xs)[i]?=some x->∃a y U,hU H dn x (some (.ref a))/\H a=some (.lst y)/\Paired (fJ H) y U/\(pe es sn l)[i]?=some U:=λi x Y=>by
  cases i with
  |zero=>
   have e:V.non=x:=by simpa using Y
   subst e;exact⟨st,as,sn,v,a3,a2,rfl⟩
  |succ i=>
   have ad:xs[i]?=some x:=by simpa using Y
   obtain⟨k,hk,al⟩:=Paired.Kq hp ad;rcases D x k al with ⟨z,_⟩ | ⟨_,e,he,a5,a,y,z1,z2,z3⟩
   ·exact absurd (aa k (ai hk)) z
   ·refine⟨a,y,e.2.2,z1,z2,z3,?_⟩;show(sn::l.map (fX es))[i+1]?=_;rw[List.getElem?_cons_succ,ae,hk]
    show some (fX es k)=_;rw[<-a5,iA a8 he]
 have S:∀{m:Hp} {x:V} {o:Option V},eF H m->hU H dn x o->hU m dn x o:=λ{m x o} p z=>by
  obtain⟨ap,k,N,e2,e3⟩:=z;refine⟨ap,k,?_,?_,e3⟩
  ·rcases N with N | ⟨ob,N⟩
   ·exact .inl (p _ _ N)
   ·exact .inr ⟨ob,p _ _ N⟩
  ·cases k with
   |none=>exact e2
   |some ks=>obtain⟨q,h1,h2⟩:=e2;exact⟨q,h1,p _ _ h2⟩
 refine⟨R,rfl,⟨_,eX.of M⟩,fQ (K:=K) (a:=R) (xs:=V.non::xs) (λi σ m=>∃o4 I G,σ=[some (.ref b),some (.ref Z),some (.ref g),some (.ref d),o4,I,G]/\eF H2 m) ⟨none,none,none,rfl,eF.refl _⟩ (by rintro i σ m _ ⟨_,_,_,_,p⟩;exact eX.of (p _ _ M)) ?_ ?_⟩
 ·rintro i x σ m Y ⟨o4,I,G,rfl,p⟩;obtain⟨a,y,U,bf,ha,hz,O⟩:=bl i x Y;have B:eF H m:=r.trans p;refine⟨_,rfl,b,C,dx,_,_,rfl,B _ _ hb,T.cl,T.nN,gc _ _,_,rfl,dn,_,rfl,S B bf,a,y,rfl,B _ _ ha,?_⟩;refine uh (K:=K) (a:=a) (xs:=y) (λj σ X=>∃I G,σ=[some (.ref b),some (.ref Z),some (.ref g),some (.ref d),some x,I,G]/\eF H2 X)
   ⟨I,G,rfl,p⟩ (by rintro j σ X _ ⟨_,_,_,J⟩;exact eX.of ((r.trans J) _ _ ha)) ?_ ?_
  ·rintro j z σ X t hj ⟨ag,a6,rfl,J⟩ ht;obtain⟨n,hn,a1⟩:=Paired.Kq hz hj;have s5:=J.trans (eA ht (.tup [.int (j:Nat),z]));refine⟨t,_,rfl,gs.of d0,rfl,_,_,rfl,_,_,rfl,rfl,?_⟩;refine⟨g,gd,_,yB W,rfl,FG,kG,bG,_,rfl,_,rfl,z,d,n,l,rfl,fJ.same (r.trans s5) a1,s5 _ _ (s2 _ _ ah),λH6 s6=>⟨_,rfl,?_⟩⟩;rw[an U (ai O) n (ai hn)];exact ff ⟨_,_,rfl,s5.trans s6⟩
  ·rintro σ X ⟨ag,a6,rfl,J⟩;exact⟨_,_,_,rfl,J⟩
 ·rintro σ m ⟨o4,I,G,rfl,p⟩;exact q2 m (r.trans p)
end
inductive A0 (C:Addr)(vs:List V)(H:Hp)(Q:VK)(E:XK):Prop
 |mk (b pa st:Addr)(es:List En)(sn:List Nd)(ps:List Pk)(_:vs=[.ref b,.ref pa])(_:ge C H b st es)(_:(es.map eU).Nodup)(_:∀e∈es,lR e)(_:gv H st sn)(_:sn.length<=900)(_:iO H pa ps)(_:lH es ps)(_:(ps.map (·.1)).Nodup)(_:ps.length<=900)(_:sZ (kO ps) (pe es sn ps))(_:∀d (fin:List Str) H',eF H H'->Wk es ps sn [] fin->H' d=some (.dK (ku fin))->Q (.ref d) H')
inductive IS (H0:Hp)(es:List En)(sn:List Nd)(ps:List Pk)(b pa pd nd ah:Addr)(m:Nat)(σ:L2.St)(H:Hp):Prop
 |mk (zs an nm o5:_)(_:σ=[some (.ref b),some (.ref pa),some (.ref pd),some (.ref nd),some (.ref ah),o5])(_:H nd=some (.dK (ku nm)))(_:H ah=some (.lst zs))(_:Paired (fJ H0) zs an)(_:∀n∈an,kO ps n=false)(_:∀fin,Wk es ps an nm fin->Wk es ps sn [] fin)(_:nm.length+iX ps nm<=ps.length)(_:101*iX ps nm+an.length=m)
structure Jr (H0:Hp)(es:List En)(sn:List Nd)(ps:List Pk)(b pa pd nd ah:Addr)(m:Nat)(σ:L2.St)(H:Hp):Prop where
 ex:IS H0 es sn ps b pa pd nd ah m σ H
 sm:eF H0 H
 le:m<=100000
section
variable {base:Heap}{f:Addr}
theorem tN:eM ["board","picks","picked","named","ahead","part"] ["board","picks"] (eB uQ):=i4
theorem zY (F:iL K "named_parts" "named_parts" uQ f fd)(T:TB K mg C)(mD:mg "dict" = none):fi P w K mg base fB 1 f fd ["board","picks"] (A0 C):=by
 refine F.ok tN λdy A cx s H vs Q E hr h=>?_;obtain⟨b,pa,st,es,sn,ps,rfl,hB,c0,b7,⟨Y,b8,a6⟩,c8,⟨xs,hx,hp⟩,b4,c1,dp,a5,q⟩:=h;have hu:=gB hr;refine⟨_,(ee (eJ (i:=2) tN.nd (gX (pT rfl) rfl mD PyProof.Rows.boot_dict (dZ (pv 1) eg))) (ee (eJ (i:=3) tN.nd gY) (ee (eJ (i:=4) tN.nd (gX ig rfl T.list cM (dZ (eY hu (jG (pv 0) rfl) iH) eg))) (ee (jE PassesOwn.never (iz (pv 4) (λ_=>rfl)) (ee (eJ (i:=5) tN.nd (eG eN (uZ PySem.F.plainAttrs_list PySem.F.slot_list_pop PySem.F.type_list_pop vq (pv 4)) er)) (eo (fz (hJ (jD hu (pv 5) (pv 3))) (ee (iD hu (pv 3) (pv 5) iU rfl) (eo (gm (ju PySem.F.plainAttrs_list PySem.F.slot_list_extend PySem.F.type_list_extend qG (pv 4) (dZ (eY hu (jG (pv 0) rfl) (gL (dZ (pv 5) (dZ (gN hu (pv 2) (pv 5)) eg)))) eg))))) eP)))) (eo (eQ (pv 3))))))),?_⟩;obtain⟨dx,dn,dv,hb,U,ad⟩:=hB.start;have cn:(jS ps).length<=1000:=by unfold jS;rw[ab];omega
 refine⟨_,rfl,pa,xs,jS ps,rfl,hx,pw hp,cn,λg a9=>?_⟩;have cp:iJ [] (jS ps)=jS ps:=kz ps [] (by simpa using c1);rw[cp];have s1:=eA a9 (.dK (jS ps));refine λnd p=>?_;have s2:=s1.trans (eA p (.dK []));have a4:upd (upd H g (.dK (jS ps))) nd (.dK []) g=some (.dK (jS ps)):=(eA p _) _ _ d0;have a8:upd (upd H g (.dK (jS ps))) nd (.dK []) nd=some (.dK []):=d0;have bf:H nd=none:=s1.free p;generalize dd:upd (upd H g (.dK (jS ps))) nd (.dK [])=H2 at *;have a7:∀{J:Hp} {x:V} {o:Option V},eF H J->hU H dn x o->hU J dn x o:=λ{J x o} s3 z=>by
  obtain⟨ag,k,G,e2,e3⟩:=z;refine⟨ag,k,?_,?_,e3⟩
  ·rcases G with G | ⟨ob,G⟩
   ·exact .inl (s3 _ _ G)
   ·exact .inr ⟨ob,s3 _ _ G⟩
  ·cases k with
   |none=>exact e2
   |some ks=>obtain⟨q,h1,h2⟩:=e2;exact⟨q,h1,s3 _ _ h2⟩
 refine⟨_,rfl,b,C,dx,_,_,rfl,s2 _ _ hb,T.cl,T.nN,gc _ _,dn,_,rfl,a7 s2 U,st,Y,rfl,.inl (eX.of (s2 _ _ b8)),λB bd=>?_⟩;have s3:=eA bd (.lst Y);have bl:H B=none:=s2.free bd;have dl:=Paired.length a6;have b1:=ub ps [];refine⟨λm σ H'=>Jr H es sn ps b pa g nd B m σ H'/\H' g=some (.dK (jS ps)),⟨101*iX ps []+sn.length,⟨⟨Y,sn,[],none,rfl,s3 _ _ a8,d0,a6,λn hn=>a5 sn (by simp[pe]) n hn,λN h=>h,by rw[cQ,dL];exact b1,rfl⟩,s2.trans s3,by omega⟩,s3 _ _ a4⟩,?_⟩;rintro m σ J ⟨⟨⟨zs,an,j,o5,rfl,a1,D,Z,M,hW,cz,hm⟩,sm,dc⟩,bm⟩;refine⟨_,rfl,_,.inl ⟨zs,eX.of D,rfl⟩,?_⟩;by_cases hnil:an=[]
 ·subst hnil;cases Z;exact ff ⟨_,rfl,q nd j J sm (hW j .done) a1⟩
 obtain⟨an',n,rfl⟩:∃an' n,an=an'++[n]:=⟨an.dropLast,an.getLast hnil,(List.dropLast_concat_getLast hnil).symm⟩;obtain⟨d,v,rfl,hz',hv⟩:∃d v,zs=d++[v]/\Paired (fJ H) d an'/\fJ H v n:=by
  clear M hW hm D hnil
  induction an' generalizing zs with
  |nil=>
   cases Z with
   |cons h t=>cases t;exact⟨[],_,rfl,.nil,h⟩
  |cons a an' ih=>
   cases Z with
   |cons h t=>
    obtain⟨d,v,rfl,h1,h2⟩:=ih _ t;exact⟨_::d,v,rfl,.cons h h1,h2⟩
 have bx:(d++[v]).isEmpty=false:=by simp
 rw[bx];refine gW ⟨λσ' H'=>∃m',m'<m/\(Jr H es sn ps b pa g nd B m' σ' H'/\H' g=some (.dK (jS ps))),λ_ _ z=>z,?_⟩;obtain⟨S,rfl,c3⟩:=id hv;have a0:(d++[V.ref S])[(d++[V.ref S]).length-1]?=some (V.ref S):=by simp
 have c4:an'.length+1+101*iX ps j=m:=by rw[aF,aU]at hm;omega
 refine⟨_,rfl,.inl ⟨rfl,_,eX.of D⟩,B,_,_,rfl,rfl,D,a0,?_⟩;have s4:eF H (upd J B (.lst (d++[V.ref S]).dropLast)):=eF.upd sm bl;have aa:upd J B (.lst (d++[V.ref S]).dropLast) B=some (.lst d):=by rw[d0,List.dropLast_concat]
 have O:upd J B (.lst (d++[V.ref S]).dropLast) nd=some (.dK (ku j)):=by rw[ef (fh a1 D (by intro z;cases z))];exact a1
 have a3:upd J B (.lst (d++[V.ref S]).dropLast) g=some (.dK (jS ps)):=by rw[ef (fh bm D (by intro z;cases z))];exact bm
 generalize d3:upd J B (.lst (d++[V.ref S]).dropLast)=H4 at *;refine⟨S,_,_,_,rfl,rfl,gs.of (s4 _ _ c3),rfl,?_⟩;have I:kO ps n=false:=M n (by simp);refine⟨_,rfl,_,rfl,nd,_,rfl,iu.k (k:=Sum.inr n.1) O,_,rfl,?_⟩;rw[kQ];by_cases hin:n.1∈j
 ·rw[aq hin];refine ff ⟨101*iX ps j+an'.length,by omega,⟨⟨d,an',j,_,rfl,O,aa,hz',λx hx=>M x (by simp[hx]),λN h=>hW N (.old hin h),cz,rfl⟩,s4,by omega⟩,a3⟩
 ·rw[au hin];refine gW ?_;obtain⟨z,hvz⟩:∃z,iT ps n.1=some z:=by
   unfold kO at I;cases e:iT ps n.1 with
   |none=>rw[e]at I;cases I
   |some z=>exact⟨z,rfl⟩
  have r:=oJ hvz;have d2:=l8 hin (ps:=ps) (aw.mpr ⟨_,r,rfl⟩);have c9:(ku j).length<=900:=by unfold ku;rw[ab];omega
  refine⟨_,rfl,_,rfl,nd,_,rfl,kP.k (k:=Sum.inr n.1) O (eO (by omega)),?_⟩;rw[rS hin];have s5:eF H (upd H4 nd (.dK (ku (j++[n.1])))):=eF.upd s4 bf;have L:upd H4 nd (.dK (ku (j++[n.1]))) B=some (.lst d):=by rw[ef (fh aa O (by intro z;cases z))];exact aa
  have cy:g≠nd:=by
   intro e;subst e;have:H g=none:=a9;have h0:upd H g (.dK (jS ps)) g=none:=p;rw[d0]at h0;cases h0
  have al:upd H4 nd (.dK (ku (j++[n.1]))) g=some (.dK (jS ps)):=by rw[ef cy];exact a3
  have ba:upd H4 nd (.dK (ku (j++[n.1]))) nd=some (.dK (ku (j++[n.1]))):=d0;generalize d1:upd H4 nd (.dK (ku (j++[n.1])))=H5 at *;have ct:iu H5 g (.str n.1) (some (.int z)):=by
   have:=iu.k (k:=Sum.inr n.1) al;rw[jl,hvz]at this;exact this
  refine⟨_,rfl,.inl ⟨rfl,_,eX.of L⟩,_,rfl,b,C,dx,_,_,rfl,s5 _ _ hb,T.cl,T.nN,gc _ _,_,rfl,_,rfl,_,rfl,g,_,rfl,ct,tG,λkt cd=>?_⟩;have X:=eA cd (.tup [.str n.1,.int z]);have b3:∃a l,hU (upd H5 kt (.tup [.str n.1,.int z])) dn (.ref kt) (some (.ref a))/\H a=some (.lst l)/\Paired (fJ H) l (fX es (n.1,z)):=by
   have c6:=hB.same (s5.trans X);obtain⟨x1,hx1,hkx⟩:∃v1,fg H v1 (n.1,z)/\v1∈xs:=by
    obtain⟨i,hi⟩:=aC.mp r;have lx:=Paired.length hp;have bv:i<xs.length:=by rw[lx];exact(af.mp hi).1
    obtain⟨k',a2,b6⟩:=Paired.Kq hp (ak bv);rw[hi]at a2;cases a2;exact⟨_,b6,List.getElem_mem bv⟩
   rcases ad x1 (n.1,z) hx1 with ⟨z1,_⟩ | ⟨_,e,he,ch,a,l,z1,z2,z3⟩
   ·exact absurd (b4 _ r) z1
   ·obtain⟨ag,k,G,e2,e3⟩:=z1;obtain⟨q1,rfl,cv⟩:=hx1;have hk:k=some (jf (n.1,z)):=by
     cases k with
     |none=>cases e2
     |some ks=>
      obtain⟨b2,co,R⟩:=e2;cases co;rw[cv]at R;have:[V.str n.1,V.int z]=ks.map kV:=by injection R with R;injection R
      have:(jf (n.1,z)).map kV=ks.map kV:=this;rw[wH this]
    subst hk;refine⟨a,l,⟨ag,some (jf (n.1,z)),?_,⟨kt,rfl,d0⟩,e3⟩,z2,by rw[<-ch,iA c0 he];exact z3⟩;rcases G with G | ⟨ob,G⟩
    ·exact .inl ((s5.trans X) _ _ G)
    ·exact .inr ⟨ob,(s5.trans X) _ _ G⟩
  obtain⟨a,l,c2,ha,bq⟩:=b3;have c7:=Paired.length hz';have da:=Paired.length bq;have c5:=mZ b7 (n.1,z);refine⟨dn,_,rfl,c2,B,a,d,l,rfl,rfl,X _ _ L,(s5.trans X) _ _ ha,by rw[bV];omega,?_⟩;have b9:nd≠B:=fh ba L (by intro z;cases z);have b5:g≠B:=fh al L (by intro z;cases z);refine⟨101*iX ps (j++[n.1])+(an'++fX es (n.1,z)).length,by rw[aF];omega,⟨⟨d++l,an'++fX es (n.1,z),j++[n.1],_,rfl,by rw[ef b9];exact X _ _ ba,d0,?_,λx hx=>?_,λN h=>hW N (.new hin hvz h),by rw[aF,aU];omega,rfl⟩,eF.upd (s5.trans X) bl,by rw[aF];omega⟩,by rw[ef b5];exact X _ _ al⟩
  ·have ap:∀{as bs:List V} {cs ds:List Nd},Paired (fJ H) as cs->Paired (fJ H) bs ds->Paired (fJ H) (as++bs) (cs++ds):=by
    intro as bs cs ds r1 r2
    induction r1 with
    |nil=>exact r2
    |cons h t ih=>exact .cons h ih
   exact ap hz' bq
  ·rcases aD.mp hx with y | y
   ·exact M x (by simp[y])
   ·exact a5 _ (by unfold pe;exact bc _ (aw.mpr ⟨_,r,rfl⟩)) x y
end
theorem Wk.nd {es:List En}{ps:List Pk}{an:List Nd}{nm fin:List Str}(h:Wk es ps an nm fin)(a:nm.Nodup)(b:∀x∈nm,x∈ps.map (·.1)):fin.Nodup/\∀x∈fin,x∈ps.map (·.1):=by
 induction h with
 |done=>exact⟨a,b⟩
 |old _ _ ih=>exact ih a b
 |@new ah n nm fin z hn hv _ ih=>
  refine ih (ol a hn) λx d=>?_;rcases aD.mp d with y | y
  ·exact b x y
  ·rw[aj.mp y];exact aw.mpr ⟨_,oJ hv,rfl⟩
inductive xg (C:Addr)(vs:List V)(H:Hp)(Q:VK)(E:XK):Prop
 |mk (b pa st:Addr)(es:List En)(ps:List Pk)(_:vs=[.ref b,.ref pa])(_:ge C H b st es)(_:iO H pa ps)(_:ps.length<=900)(_:lH es ps)(_:(ps.map (·.1)).Nodup)(_:∀H',eF H H'->Q .non H')
inductive Bb (C:Addr)(vs:List V)(H:Hp)(Q:VK)(E:XK):Prop
 |mk (a st pa:Addr)(es:List En)(ps:List Pk)(_:vs=[.ref a,.ref st,.ref pa])(_:iM H a es)(_:es.length<64)(_:(es.map eU).Nodup)(_:iO H pa ps)(_:ps.length<=900)(_:lH es ps)(_:(ps.map (·.1)).Nodup)(_:∀b H',eF H H'->ge C H' b st es->Q (.ref b) H')
inductive sV (vs:List V)(H:Hp)(Q:VK)(E:XK):Prop
 |mk (a pa st:Addr)(es:List En)(sn:List Nd)(ps:List Pk)(_:vs=[.ref a,.ref st,.ref pa])(_:iM H a es)(_:∀e∈es,lR e)(_:es.length<64)(_:(es.map eU).Nodup)(_:gv H st sn)(_:sn.length<=900)(_:iO H pa ps)(_:lH es ps)(_:(ps.map (·.1)).Nodup)(_:ps.length<=900)(_:v9 es sn ps)(_:∀fin,Wk es ps sn [] fin->fin.Nodup->(∀x∈fin,x∈ps.map (·.1))->fin.length=ps.length)(_:∀H',eF H H'->Q (.bl true) H')
section
variable {base:Heap}{f:Addr}
theorem tQ:eM ["board","picks","pick","part","seen","version"] ["board","picks"] (eB rM):=i4
theorem xU (F:iL K "check_picks" "check_picks" rM f fd)(T:TB K mg C):fi P w K mg base fB 1 f fd ["board","picks"] (xg C):=by
 refine F.ok tQ λaa A I s H vs Q E hr h=>?_;obtain⟨b,m,st,es,d,rfl,hB,⟨xs,y,hp⟩,hl,B,O,q⟩:=h;have N:=gB hr;refine⟨_,(ee (fG (fD (pv 1)) (eL (i:=2) tQ.nd) (eo (fz (hJ (u3 N (pv 2) (jG (pv 0) rfl))) fT eP))) (ee (eJ (i:=4) tQ.nd gY) (eo (fG (fD (pv 1)) (lc (n:=2) rfl (gj (eL (i:=3) tQ.nd) (gj (eL (i:=5) tQ.nd) jT))) (ee (fz (hJ (mU N (pv 3) (pv 4))) fT eP) (eo (iD N (pv 4) (pv 3) iU rfl))))))),?_⟩;obtain⟨dx,dn,dv,hb,_,g⟩:=hB.start;have lx:xs.length=d.length:=Paired.length hp;refine⟨_,rfl,m,rfl,⟨xs,eX.of y⟩,fQ (K:=K) (a:=m) (xs:=xs) (λi σ r=>∃v,σ=[some (.ref b),some (.ref m),v,none,none,none]/\r=H) ⟨none,rfl,rfl⟩ (by rintro i σ r _ ⟨_,_,rfl⟩;exact eX.of y) ?_ ?_⟩
 ·rintro i x σ r S ⟨v,rfl,rfl⟩;obtain⟨k,t,M⟩:=Paired.Kq hp S;rcases g _ k M with ⟨Y,X⟩ | ⟨Y,e,he,_,a,zs,X,_⟩
  ·exact absurd (B k (ai t)) Y
  ·exact⟨_,rfl,_,rfl,b,C,dx,_,_,rfl,hb,T.cl,T.nN,gc _ _,dn,_,rfl,X,_,rfl,ff ⟨_,rfl,rfl⟩⟩
 ·rintro σ r ⟨v,rfl,rfl⟩;refine λsd p=>?_;have Z:=eA p (.dK []);refine⟨_,rfl,m,rfl,⟨xs,eX.of (Z _ _ y)⟩,fQ (K:=K) (a:=m) (xs:=xs) (λi σ j=>∃J G,σ=[some (.ref b),some (.ref m),v,J,some (.ref sd),G]/\eF r j/\j sd=some (.dK (ku ((d.map (·.1)).take i)))) ⟨none,none,rfl,Z,d0⟩ (by rintro i σ j _ ⟨_,_,_,l,_⟩;exact eX.of (l _ _ y)) ?_ ?_⟩
  ·rintro i x σ j S ⟨J,G,rfl,l,R⟩;obtain⟨k,t,kq,rfl,L⟩:=Paired.Kq hp S;have g1:=l _ _ L;have ad:i<d.length:=(af.mp t).1;have D:(d.map (·.1))[i]?=some k.1:=by rw[ae,t];rfl
   have U:(d.map (·.1)).take (i+1)=(d.map (·.1)).take i++[k.1]:=by rw[aX,D];rfl
   have o:k.1∉(d.map (·.1)).take i:=λz=>by
    have:=jg (i+1) O;rw[U,bN]at this;exact this.2.2 k.1 z k.1 (by simp) rfl
   refine⟨kq,_,rfl,gs.of g1,rfl,_,_,rfl,_,_,rfl,rfl,?_⟩;refine⟨_,rfl,_,rfl,sd,_,rfl,iu.k (k:=Sum.inr k.1) R,_,rfl,?_⟩;rw[kQ,au o];refine ff ?_;refine⟨_,rfl,_,rfl,sd,_,rfl,kP.k (k:=Sum.inr k.1) R (eO (by unfold ku;rw[ab,aT,ab];lia)),?_⟩;rw[rS o,<-U];exact⟨_,_,rfl,eF.upd l p,d0⟩
  ·rintro σ j ⟨J,G,rfl,l,R⟩;exact q j l
theorem De:eM ["shelf","start","picks","board"] ["shelf","start","picks"] (eB oZ):=i4
theorem Ae (F:iL K "checked_board" "checked_board" oZ f fd)(z:Bo P w K mg base C fB 1 "Board" ["self","shelf","start"] (sS C))(G:Gd P w K mg base fB 1 "check_picks" ["board","picks"] (xg C)):fi P w K mg base fB 3 f fd ["shelf","start","picks"] (Bb C):=by
 refine F.ok De λT A p s H Z Q E D h=>?_;obtain⟨a,L,Y,I,R,rfl,x,U,t,hp,l,m,v,q⟩:=h;refine⟨_,(ee (eJ (i:=3) De.nd (nI z (D.mono (by decide:2<=2)) rfl fE (dZ (pv 0) (dZ (pv 1) eg)))) (ee (gm (fN G (D.mono (by decide:1<=2)) (dZ (pv 3) (dZ (pv 2) eg)))) (eo (eQ (pv 3))))),?_⟩;refine⟨_,rfl,_,rfl,λb d B o r=>?_⟩;have J:=made (C:=C) B o r;have j:upd (upd H d (.own b)) b (.ins C d []) b=some (.ins C d []):=d0;generalize upd (upd H d (.own b)) b (.ins C d [])=H1 at *;have y:eF H (del H1 [b]):=λa u e=>by rw[eE (by simpa using et e B)];exact J _ _ e
 refine⟨b,d,a,L,I,rfl,j,iM.same J x,U,t,λX S N=>⟨rfl,?_⟩⟩;have g:eF H X:=y.trans S;exact⟨_,rfl,_,rfl,b,Y,L,I,R,rfl,N,hp.same g,l,m,v,λO M=>⟨_,rfl,q b O (g.trans M) (N.same M)⟩⟩
theorem y6:eM ["shelf","start","picks","board","wrong"] ["shelf","start","picks"] (eB zj):=i4
theorem Ab {g3 g4:Addr}{gd3 gd4:FuncData}(F:iL K "fits" "fits" zj f fd)(mL:mg "len" = none)(G1:Gd P w K mg base fB 3 "first_need" ["board","picks","wrong"] (Ba P w K mg base C))(G2:Gd P w K mg base fB 3 "checked_board" ["shelf","start","picks"] (Bb C))(G3:fi P w K mg base fB 2 g3 gd3 ["need","picked"] (yB qm))(b3:iC K gd3 ["need","picked"] [])(k3:W.keepIn K (.ref g3)=true)(m3:mg "clashes_with" = some (.ref g3))(G4:fi P w K mg base fB 2 g4 gd4 ["need","picked"] (yB kO))(b4:iC K gd4 ["need","picked"] [])(k4:W.keepIn K (.ref g4)=true)(m4:mg "lacks_pick" = some (.ref g4))(G5:Gd P w K mg base fB 1 "named_parts" ["board","picks"] (A0 C)):fi P w K mg base fB 4 f fd ["shelf","start","picks"] sV:=by
 refine F.ok y6 λal A T s H vs Q E X h=>?_;obtain⟨a,D,L,O,U,G,rfl,ah,ag,hl,o,t,S,y,m,p,l,j,I,q⟩:=h;obtain⟨xs,J,hp⟩:=id y;have ad:gK 1 _:=X.mono (by decide);refine⟨_,(ee (eJ (i:=3) y6.nd (fN G2 X (dZ (pv 0) (dZ (pv 1) (dZ (pv 2) eg))))) (ee (fG (DX (gL (dZ (wy (v:=.ref g3) rfl m3 rfl) (dZ (wy (v:=.ref g4) rfl m4 rfl) eg)))) (eL (i:=4) y6.nd) (eo (fz (hJ (my (fN G1 X (dZ (pv 3) (dZ (pv 2) (dZ (pv 4) eg)))))) fT eP))) (eo (eQ (jU km (eW qO rfl mL bp (dZ (fN G5 ad (dZ (pv 3) (dZ (pv 2) eg))) eg)) (eW fj rfl mL bp (dZ (pv 2) eg)) (fO _)))))),?_⟩;have lx:xs.length=G.length:=Paired.length hp;refine⟨_,rfl,_,rfl,_,rfl,a,L,D,O,G,rfl,ah,hl,o,y,l,m,p,λb H1 s1 hB=>?_⟩;refine⟨tG,λY aa=>?_⟩;have N:=eA aa (.tup [.ref g3,.ref g4]);refine⟨Y,rfl,⟨_,gs.of d0⟩,CA (K:=K) (a:=Y) (xs:=[.ref g3,.ref g4]) (λi σ R=>∃Z,σ=[some (.ref a),some (.ref L),some (.ref D),some (.ref b),Z]/\eF (upd H1 Y (.tup [.ref g3,.ref g4])) R) ⟨none,rfl,eF.refl _⟩ (by rintro i σ R _ ⟨_,_,s⟩;exact gs.of (s _ _ d0)) ?_ ?_⟩
 ·rintro i x σ R hi ⟨Z,rfl,z⟩;have g:=(s1.trans N).trans z;have M:=hB.same (N.trans z);rcases (by simpa using ai hi:x=V.ref g3\/x=V.ref g4) with rfl | rfl
  ·exact⟨_,rfl,_,rfl,_,rfl,b,D,g3,L,gd3,qm,O,U,G,xs,rfl,G3,k3,b3,M,o,gv.same g t,g _ _ J,Paired.J4 hp λ_ _=>fg.same g,m,p,l,j.1,λH4 B=>⟨_,rfl,ff ⟨_,rfl,z.trans B⟩⟩⟩
  ·exact⟨_,rfl,_,rfl,_,rfl,b,D,g4,L,gd4,kO,O,U,G,xs,rfl,G4,k4,b4,M,o,gv.same g t,g _ _ J,Paired.J4 hp λ_ _=>fg.same g,m,p,l,j.2,λH4 B=>⟨_,rfl,ff ⟨_,rfl,z.trans B⟩⟩⟩
 ·rintro σ R ⟨Z,rfl,z⟩;have g:=(s1.trans N).trans z;refine⟨_,rfl,_,rfl,b,D,L,O,U,G,rfl,hB.same (N.trans z),o,ag,gv.same g t,S,iO.same g y,m,p,l,j.2,λd r H3 B hw hd=>?_⟩;refine⟨d,ku r,rfl,hd,_,rfl,D,xs,rfl,.inl (eX.of ((g.trans B) _ _ J)),rfl,?_⟩;obtain⟨w1,w2⟩:=hw.nd bM (λx J=>nomatch J);have e:((ku r).length:Int)=(xs.length:Int):=by
   unfold ku;rw[ab,lx,I r hw w1 w2]
  rw[e,aq rfl];exact q H3 (g.trans B)
end
end
section
section
variable {es es':List En}{sn:List Nd}{ps:List Pk}(hn:(es.map eU).Nodup)(hn':(es'.map eU).Nodup)(hs:∀e∈es',e∈es)
include hn hn' hs
theorem mY {k:Pk}(b:k∈es'.map eU):fX es' k=fX es k:=by
 obtain⟨e,a,rfl⟩:=aw.mp b;rw[iA hn' a,iA hn (hs e a)]
theorem AH (hk:∀k∈ps,k∈es'.map eU)(h:kM es sn ps):kM es' sn ps:=⟨h.one,hk,λw hw n hne=>h.met w hw n (by
 cases w with
 |none=>exact hne
 |some k=>
  have z:n∈fX es' k:=hne;rw[mY hn hn' hs (hk k (hw k rfl))]at z
  exact z)⟩
theorem Ez (h:kM es' sn ps):kM es sn ps:=⟨h.one,λk hk=>by
  obtain⟨e,he,rfl⟩:=aw.mp (h.key k hk)
  exact aw.mpr ⟨e,hs e he,rfl⟩,λw hw n hne=>h.met w hw n (by
 cases w with
 |none=>exact hne
 |some k=>
  have z:n∈fX es k:=hne;rw[<-mY hn hn' hs (h.key k (hw k rfl))]at z
  exact z)⟩
theorem Wk.up (a:∀k∈ps,k∈es'.map eU){an:List Nd}{nm fin:List Str}(h:Wk es' ps an nm fin):Wk es ps an nm fin:=by
 induction h with
 |done=>exact .done
 |old h1 _ ih=>exact .old h1 ih
 |new h1 h2 _ ih=>
  refine .new h1 h2 ?_;rw[<-mY hn hn' hs (a _ (oJ h2))];exact ih
end
abbrev IN (c:el)(L:ir)(pk:Nat):Prop:=∀k,c.has pk k->k.1∈c.start->∀n,(c.needs none)[((c.needs none).map (·.1)).idxOf k.1]?=some n->∀kk∈c.LY n k,∃e∈L,∀j,c.has e.1 j->j=kk\/c.has (c.LZ pk k.1) j
theorem oP {c c':el}{L L':ir}{pk pk':Nat}(D:gQ c L)(q:gQ c' L')(h:c'.sn=c.sn)(E:c.KO pk)(p:c'.KO pk')(hs:IN c L pk)(o:IN c' L' pk')(y:kM c.es c.sn (c.listed pk))(s:kM c'.es c'.sn (c'.listed pk'))(A:kM c.es c.sn (c'.listed pk'))(m:kM c'.es c'.sn (c.listed pk)):∀i,(∀j,c.has pk j->j.1∈(c.sn.take i).map (·.1)->j∈c'.listed pk')/\∀j,c'.has pk' j->j.1∈(c.sn.take i).map (·.1)->j∈c.listed pk
 |0=>⟨λj _ hj=>by simp at hj,λj _ hj=>by simp at hj⟩
 |i+1=>by
  obtain⟨a,b⟩:=oP D q h E p hs o y s A m i;cases hn:c.sn[i]? with
  |none=>
   have ht:c.sn.take (i+1)=c.sn.take i:=by rw[aX,hn];exact bW _
   rw[ht];exact⟨a,b⟩
  |some n=>
   have ht:c.sn.take (i+1)=c.sn.take i++[n]:=by rw[aX,hn];rfl
   have r:c.sn=c.sn.take i++n::c.sn.drop (i+1):=by
    have:=dB (i+1) c.sn;rw[ht,bH]at this;exact this.symm
   have B:=ai hn;obtain⟨k,w,t,_⟩:=y.met none (λ_ z=>nomatch z) n B;obtain⟨x,l,d,_⟩:=s.met none (λ_ z=>nomatch z) n (by show n∈c'.sn;rw[h];exact B);have g:=el.Kx.mp w;have F:=el.Kx.mp l;have G:=qF D A hs r g t (v:=x.2) (by rw[<-d];exact l) a;have H:=qF q m o (h.trans r) F d (v:=k.2) (by rw[<-t];exact w) b;have C:k=x:=Prod.ext (t.trans d.symm) (Int.le_antisymm (Int.not_lt.mp H) (Int.not_lt.mp G));rw[ht,ay];refine⟨λj hj e=>?_,λj hj e=>?_⟩
   ·rcases aD.mp e with z | z
    ·exact a j hj z
    ·rw[E j k hj g ((show j.1=n.1 by simpa using z).trans t.symm),C];exact l
   ·rcases aD.mp e with z | z
    ·exact b j hj z
    ·rw[p j x hj F ((show j.1=n.1 by simpa using z).trans d.symm),<-C];exact w
end
section
seal mj PS PE PT PA
end
end FB
namespace FB
open PySem PySem.Spec L2 PyProof.Rows
variable {C PP:Addr}{K:W.Frag}{ps:List Str}{st:Stmt}{x:Str}
theorem Cz {qual:Str}{f c:Addr}{oc:Value}{od an:Option Addr}{osl:Array (Option Value)}{kV doc pm ct:Value}(l:K.lookup f=some ⟨oc,od,.func (W.fnOf x qual (ie st) (gC st) (eB st) .none kV doc pm an (.ref c) ct),osl⟩)(hc:W.codeIn K (.ref c) qual=true)(k:W.keepIn K (.ref f)=true):Bk K x qual st f (W.fnOf x qual (ie st) (gC st) (eB st) .none kV doc pm an (.ref c) ct) c:=⟨⟨oc,od,kV,doc,pm,an,ct,osl,rfl,l,hc⟩,k⟩
theorem ye {P:Program}{w:World}{mg mb:Str->Option Value}{k:Nat}{fa a cP:Addr}{fd:FuncData}{sp:Sp}{s₁:Shared}{vs:List Value}{ns:List Int}(S:K.In s₁.heap)(G:s₁.heap.Ns mainGlobals mg)(g:s₁.heap.Ns builtinsNs mb)(Z:∀x:Str,x≠"__name__"->mb x=bootBuiltins x)(I:s₁.heap.NoLimit)(hg:s₁.gens=#[])(C:s₁.heap.get? a=some {cls:=.type "list",data:=.seq vs.toArray})(hi:IntsAre vs ns)(hl:ns.length<=sizeLine)(hr:gK k callerA)(D:s₁.heap.get? PP=some (W.tabObj #[]))(hC:W.codeHdIn K cP PP=true)(Q:K.lookup PP=none)(aa:tw mg s₁.heap)(F:∀base:Heap,K.In base->base.Ns mainGlobals mg->tw mg base->fi P w K mg base fB k fa fd [x] sp)(B:∀(s:Shared) (u:Value),BindsTo s fd ⟨[u],[]⟩ [(x,u)])(ag:∀H:Hp,eX K H a (ns.map V.int)->H PP=some (.tbl #[])->sp [.ref a] H (λv _=>v=.bl true) λ_ _ _=>False):codeAny (model P w) callerA (.call (.ref fa) ⟨[.ref a],[]⟩) (λr s'=>r=.ok (.ret (.bool true))/\OldK s₁.heap s'.heap/\s'.os=s₁.os/\AllBare s'.gens) s₁:=by
 have rv:=mP hi;have J:=hi.length;have L:a≠PP:=λe=>by
  rw[e,D]at C;cases C
 have t:∀H:Hp,(∀b,H b=none\/(b=PP/\H b=some (.tbl #[]))\/∃o xs,H b=some (.frz o (.lst xs)))->H PP=some (.tbl #[])->eX K H a (ns.map V.int)->lM P w H s₁.heap->(∀b,H b≠none->b=a\/b=PP)->(H a≠none->K.lookup a=none)->
   codeAny (model P w) callerA (.call (.ref fa) ⟨[.ref a],[]⟩) (λr s'=>r=.ok (.ret (.bool true))/\OldK s₁.heap s'.heap/\s'.os=s₁.os/\AllBare s'.gens) s₁:=by
  intro H hO R hS M X hK;have i:∀{b:Addr} {o:Obj},s₁.heap.get? b=some o->H b=none->(qj s₁.heap H).get? b=some o:=λe n=>Az e n;have ad:∀{b:Addr} {o:Obj},s₁.heap.get? b=some o->o.cls≠.none->(∀z y,o.data≠.seq z y)->H b=none:=λ{b o} e d1 d2=>by
   cases q:H b with
   |none=>rfl
   |some u=>
    rcases X b (by rw[q];simp) with e' | e'
    ·subst e';rw[C]at e;cases e;exact absurd rfl (d2 _ _)
    ·subst e';rw[D]at e;cases e;exact absurd rfl d1
  have ah:∀{b:Addr} {o:Obj} {es:Array DictEntry} {ep:Nat},s₁.heap.get? b=some o->o.data=.dict es ep->H b=none:=λ{b o es ep} e d=>by
   cases q:H b with
   |none=>rfl
   |some u=>
    rcases X b (by rw[q];simp) with e' | e'
    ·subst e';rw[C]at e;cases e;have d':Data.seq vs.toArray _=Data.dict es ep:=d;cases d'
    ·subst e';rw[D]at e;cases e;have d':Data.fields #[]=Data.dict es ep:=d;cases d'
  have l:∀{b:Addr} {m:Str->Option Value},s₁.heap.Ns b m->(qj s₁.heap H).Ns b m:=λ{b m} ⟨o,es,ep,e,d,r⟩=>⟨o,es,ep,i e (ah e d),d,r⟩
  have N:K.In (qj s₁.heap H):=λb o e=>i (S b o e) (by
   cases q:H b with
   |none=>rfl
   |some u=>
    rcases X b (by rw[q];simp) with e' | e'
    ·subst e';rw[hK (by rw[q];simp)]at e;cases e
    ·subst e'
     rw[Q]at e;cases e)
  have hM:Mod K mg (qj s₁.heap H):=⟨N,l G,⟨mb,l g,Z⟩,(by obtain⟨mc,h1,h2⟩:=I;exact⟨mc,l h1,h2⟩)⟩;have O:tw mg (qj s₁.heap H):=by
   obtain⟨bm,U,b1,b2,b3,b4,b5,b6⟩:=aa;exact⟨bm,U,b1,b2,i b3 (ad b3 (by rw[b4];exact λz=>nomatch z) λ_ _ z=>by rw[b6]at z;cases z),b4,b5,b6⟩
  have e0:v8 P w K mg (qj s₁.heap H) callerA [] s₁ H:=⟨rfl,hM,λb o e=>Ci e,cB (ym _ _),trivial,λb g=>absurd (show b∈([]:List Addr) from g) (by simp),M,.of_eq hg⟩;refine codeAny_mono ((F _ N (l G) O).run callerA [] s₁ H ⟨[.ref a],[]⟩ [.ref a] [.ref a] _ _ hr e0 (B s₁ (.ref a)) (.cons rfl .nil) (ag H hS R)) λr s' h=>?_;cases r with
  |error e=>exact False.elim h
  |ok fl=>
   cases fl with
   |next=>exact False.elim h
   |brk=>exact False.elim h
   |cont=>exact False.elim h
   |ret u=>
    obtain⟨v,H',os,E,un,A,r',q⟩:=h;have q':v=.bl true:=q;subst q';obtain rfl:u=Value.bool true:=r';refine⟨rfl,⟨λb o e=>?_,λb o e=>un.there b o e (by simp)⟩,os,E⟩;rcases hO b with z | ⟨rfl,z⟩ | ⟨U,xs,z⟩
    ·exact .inl (un.keep b o e z (by intro z;exact absurd (show b∈([]:List Addr) from z) (by simp)) (by simp))
    ·obtain⟨more,T⟩:=un.tbls b _ z;have Y:s'.heap.get? b=some {cls:=.none,data:=.fields (#[]++more)}:=A b _ T;rw[D]at e;cases e;exact .inr (.inl ⟨((W.codeHd_of_K S hC).tab D).isCodeTable,rfl,#[],more,rfl,Y⟩)
    ·have T:=un.frzs b U _ z;obtain⟨e1,_⟩:=M b _ z;obtain⟨Y,_⟩:=A b _ T;rw[e]at e1;cases e1;exact .inl Y
 have j:∀H:Hp,fR P w H s₁.heap PP (.tbl #[]):=λH=>D;cases hk:K.lookup a with
 |some o=>
  have e:=S a o hk;rw[C]at e;cases e;refine t (λb=>if b=PP then some (.tbl #[]) else none) (λb=>?_) (ax rfl) (.inr ⟨_,vs.toArray,_,hk,rfl,rfl,rfl,by rw[aM,J];exact hl,by simpa using rv⟩) (λb u z=>?_) (λb z=>?_) λz=>absurd (av L) z
  ·by_cases g:b=PP
   ·exact .inr (.inl ⟨g,ax g⟩)
   ·exact .inl (av g)
  ·by_cases g:b=PP
   ·have p:=(ax g).symm.trans z;cases p;subst g;exact j _
   ·have p:=(av g).symm.trans z;cases p
  ·by_cases g:b=PP
   ·exact .inr g
   ·exact absurd (av g) z
 |none=>
  refine t (λb=>if b=PP then some (.tbl #[]) else if b=a then some (.frz {cls:=.type "list",data:=.seq vs.toArray} (.lst (ns.map V.int))) else none) (λb=>?_) (ax rfl) (.inl (.inr ⟨{cls:=.type "list",data:=.seq vs.toArray},(av L).trans (ax rfl)⟩)) (λb u z=>?_) (λb z=>?_) λ_=>hk
  ·by_cases g:b=PP
   ·exact .inr (.inl ⟨g,ax g⟩)
   ·by_cases hb2:b=a
    ·exact .inr (.inr ⟨_,_,(av g).trans (ax hb2)⟩)
    ·exact .inl ((av g).trans (av hb2))
  ·by_cases g:b=PP
   ·have p:=(ax g).symm.trans z;cases p;subst g;exact j _
   ·by_cases hb2:b=a
    ·have p:=((av g).trans (ax hb2)).symm.trans z;cases p;subst hb2;exact⟨C,by rw[ab];exact hl,vs,_,rv,C⟩
    ·have p:=((av g).trans (av hb2)).symm.trans z;cases p
  ·by_cases g:b=PP
   ·exact .inr g
   ·by_cases hb2:b=a
    ·exact .inl hb2
    ·exact absurd ((av g).trans (av hb2)) z
theorem yK {l:W.OpenLaw}{n k:Nat}{q:Program}{loose:List Str}{XP:(Str->Option Value)->Heap->Prop}{YP:World->Heap->Prop}{d:DefRec}{K:Params->W.Frag}{sp:World->Sp}(hn:l.most=some n)(t:n<=sizeLine)(p:d.params.defaults=[])(J:gK k callerA)(I:∀(w:World) (h:Heap),YP w h->(K w.params).In h)(r:∀(w:World) (h:Heap),YP w h->h.get? PP=some (W.tabObj #[]))(m:∀w:World,(K w.params).lookup PP=none)(F:∀(w:World) (mg:Str->Option Value) (fa:Addr) (h:Heap),(K w.params).In h->h.Ns mainGlobals mg->mg d.name=some (.ref fa)->∃(fd:FuncData) (cP:Addr),W.codeHdIn (K w.params) cP PP=true/\(∀(s:Shared) (u:Value),BindsTo s fd ⟨[u],[]⟩ [(x,u)])/\∀base:Heap,(K w.params).In base->base.Ns mainGlobals mg->tw mg base->fi l.prog w (K w.params) mg base fB k fa fd [x] (sp w))(z:∀(w:World) (H:Hp) (a:Addr) (ns:List Int),ns.length<=n->eX (K w.params) H a (ns.map V.int)->H PP=some (.tbl #[])->sp w [.ref a] H (λv _=>v=.bl true) λ_ _ _=>False):W.WalkO q loose XP YP l.row.toRowW d [] (λf vs=>PySem.call f vs):=by
 refine Att.ux hn p λw s₀ s₁ mg R fa o Q U L a vs ns G Y S P O y j i e D=>?_;have A:=I w _ Y;obtain⟨fd,cP,B,C,E⟩:=F w mg fa _ A G.T.g y;exact ye A G.T.g G.T.b G.T.builtins G.T.nolimit D j i (bz e t) J (r w _ Y) B (m w) G.T.bmain E C λH N M=>z w H a ns e N M
theorem ED {α:Type}{p:List α->Prop}(h:∀a,p [a]):∀us:List α,us.length=1->p us
 |[a],_=>h a
theorem EC {α:Type}{p:List α->Prop}(h:∀a b,p [a,b]):∀us:List α,us.length=2->p us
 |[a,b],_=>h a b
theorem EB {α:Type}{p:List α->Prop}(h:∀a b c,p [a,b,c]):∀us:List α,us.length=3->p us
 |[a,b,c],_=>h a b c
theorem EA {α:Type}{p:List α->Prop}(h:∀a b c d,p [a,b,c,d]):∀us:List α,us.length=4->p us
 |[a,b,c,d],_=>h a b c d
inductive ml (K:W.Frag)(x:Str)(st:Stmt)(f:Addr):Prop
 |mk {oc kV dc pm cd ct:Value}{od an:Option Addr}{sl:Array (Option Value)}(_:W.nsIn K mainGlobals x=some (some (.ref f)))(_:K.lookup f=some ⟨oc,od,.func (W.fnOf x x (ie st) (gC st) (eB st) .none kV dc pm an cd ct),sl⟩)(_:W.codeIn K cd x=true)(_:W.keepIn K (.ref f)=true)
inductive lV (K:W.Frag)(C:Addr)(m q:Str)(st:Stmt)(f:Addr):Prop
 |mk {oc kV dc pm cd ct:Value}{od an:Option Addr}{sl:Array (Option Value)}(_:W.findIn K (.ref C) m=some (some (.ref f)))(_:W.isFn K (.ref f)=true)(_:K.lookup f=some ⟨oc,od,.func (W.fnOf m q (ie st) (gC st) (eB st) .none kV dc pm an cd ct),sl⟩)(_:W.codeIn K cd q=true)(_:W.keepIn K (.ref f)=true)
inductive Jg (K:W.Frag)(C:Addr)(m q:Str)(st:Stmt)(f PP:Addr):Prop
 |mk {oc kV dc pm ct:Value}{cd:Addr}{od an:Option Addr}{sl:Array (Option Value)}(_:W.findIn K (.ref C) m=some (some (.ref f)))(_:W.isFn K (.ref f)=true)(_:K.lookup f=some ⟨oc,od,.func (W.fnOf m q (ie st) (gC st) (eB st) .none kV dc pm an (.ref cd) ct),sl⟩)(_:W.codeIn K (.ref cd) q=true)(_:W.keepIn K (.ref f)=true)(_:W.codeHdIn K cd PP=true)
structure Ds (K:W.Frag)(x:Str)(C:Addr):Prop where
 a:W.nsIn K mainGlobals x=some (some (.ref C))
 pg:W.plainGet K C Str.empty=true
 hd:W.hasDictIn K C=true
 po:W.plainOver K C=true
 sa:W.findIn K (.ref C) "__setattr__" = some (some (.builtin "object.__setattr__"))
 mk_:W.makesIn K C=true
 kc:W.keepIn K (.ref C)=true
section
variable {K:W.Frag}{h:Heap}{mg:Str->Option Value}(X:K.In h)(G:h.Ns mainGlobals mg)
theorem Ds.c (d:Ds K x C):p9 K C:=⟨d.pg,d.hd,d.po,d.sa⟩
include X G in
theorem ml.u {f:Addr}(d:ml K x st f)(hb:∀(kV doc pm:Value) (an:Option Addr) (cdv ct:Value) (us:List Value),us.length=ps.length->bindArgs (W.fnOf x x (ie st) (gC st) (eB st) .none kV doc pm an cdv ct) ⟨us,[]⟩=pure (ps.zip us):=by intro _ _ _ _ _ _;first | exact ED λ_=>rfl | exact EC λ_ _=>rfl | exact EB λ_ _ _=>rfl | exact EA λ_ _ _ _=>rfl):∃fd,iL K x x st f fd/\iC K fd ps []/\W.keepIn K (.ref f)=true/\mg x=some (.ref f):=by
 obtain @⟨i,kV,h,pm,e,ct,g,an,b,a,l,c,k⟩:=d;exact⟨_,nn l c k,(nn l c k).binds hb,k,W.mg_of X G a⟩
theorem lV.u {m q:Str}{f:Addr}(d:lV K C m q st f)(hb:∀(kV doc pm:Value) (an:Option Addr) (cdv ct:Value) (us:List Value),us.length=ps.length->bindArgs (W.fnOf m q (ie st) (gC st) (eB st) .none kV doc pm an cdv ct) ⟨us,[]⟩=pure (ps.zip us):=by intro _ _ _ _ _ _;first | exact ED λ_=>rfl | exact EC λ_ _=>rfl | exact EB λ_ _ _=>rfl | exact EA λ_ _ _ _=>rfl):∃fd,iL K m q st f fd/\iC K fd ps []/\v6 K C m f:=by
 obtain @⟨j,kV,h,pm,e,ct,g,an,b,a,i,l,c,k⟩:=d;exact⟨_,nn l c k,(nn l c k).binds hb,a,i,k⟩
theorem Jg.u {m q:Str}{f:Addr}(d:Jg K C m q st f PP)(hb:∀(kV doc pm:Value) (an:Option Addr) (cdv ct:Value) (us:List Value),us.length=ps.length->bindArgs (W.fnOf m q (ie st) (gC st) (eB st) .none kV doc pm an cdv ct) ⟨us,[]⟩=pure (ps.zip us):=by intro _ _ _ _ _ _;first | exact ED λ_=>rfl | exact EC λ_ _=>rfl | exact EB λ_ _ _=>rfl | exact EA λ_ _ _ _=>rfl):∃fd b,Bk K m q st f fd b/\iC K fd ps []/\v6 K C m f/\W.codeHdIn K b PP=true:=by
 obtain @⟨h,kV,g,pm,ct,b,o,an,j,a,i,l,c,k,e⟩:=d;exact⟨_,b,Cz l c k,(nn l c k).binds hb,⟨a,i,k⟩,e⟩
end
end FB
namespace FB
open PySem L2 PyProof.Rows
section
variable {H:Hp}{a:Addr}{v:V}
structure GO (H H':Hp):Prop where
 l:∀a xs,H a=some (.lst xs)->H' a=some (.lst xs)
 t:∀a xs,H a=some (.tup xs)->H' a=some (.tup xs)
theorem GO.tab {H':Hp}{PP:Addr}(d:ia yQ x9 H PP)(e:eD (del H [PP]) H'):GO H H':=by
 obtain⟨u,hu,fu⟩:∃u,H PP=some u/\uD u:=by
  rcases d with z | ⟨g,z,_⟩
  ·exact⟨_,z,trivial⟩
  ·exact⟨_,z,trivial⟩
 exact⟨λa b h=>e.lst (iE hu fu h λz=>z),λa b h=>e.tup (iE hu fu h λz=>z)⟩
section
variable {H H':Hp}(e:GO H H')
include e
theorem fJ.k {n:Nd}(h:fJ H v n):fJ H' v n:=(by obtain⟨q,h1,h2⟩:=h;exact⟨q,h1,e.t _ _ h2⟩)
theorem fg.k {n:Pk}(h:fg H v n):fg H' v n:=(by obtain⟨q,h1,h2⟩:=h;exact⟨q,h1,e.t _ _ h2⟩)
theorem gv.k {ns:List Nd}(h:gv H a ns):gv H' a ns:=(by obtain⟨xs,h1,h2⟩:=h;exact⟨xs,e.l _ _ h1,Paired.J4 h2 λ_ _=>fJ.k e⟩)
theorem iO.k {ns:List Pk}(h:iO H a ns):iO H' a ns:=(by obtain⟨xs,h1,h2⟩:=h;exact⟨xs,e.l _ _ h1,Paired.J4 h2 λ_ _=>fg.k e⟩)
theorem jQ.k {n:En}(h:jQ H v n):jQ H' v n:=(by obtain⟨q,a,xs,h1,h2,h3,h4⟩:=h;exact⟨q,a,xs,h1,e.t _ _ h2,e.l _ _ h3,Paired.J4 h4 λ_ _=>fJ.k e⟩)
theorem iM.k {es:List En}(h:iM H a es):iM H' a es:=(by obtain⟨xs,h1,h2⟩:=h;exact⟨xs,e.l _ _ h1,Paired.J4 h2 λ_ _=>jQ.k e⟩)
end
theorem mz {α β:Type}{F:α->β->Prop}:∀{A B:List β} {xs:List α},Paired F xs (A++B)->∃ys zs,xs=ys++zs/\Paired F ys A/\Paired F zs B
 |[],_,xs,h=>⟨[],xs,rfl,.nil,h⟩
 |_::A,B,_,.cons r t=>(by obtain⟨ys,zs,e,h1,h2⟩:=mz (A:=A) (B:=B) t;exact⟨_::ys,zs,by rw[e];rfl,.cons r h1,h2⟩)
theorem An {c:el}{ln:Addr}{L:ir}{e:Nat×Rs}(h:mK H ln (c.lns L))(i:L.getLast?=some e)(m:e.1=0):∃xs x q a rv,H ln=some (.lst (xs++[x]))/\x=.ref q/\H q=some (.tup [.ref a,rv])/\H a=some (.lst []):=by
 obtain⟨w,rfl⟩:=List.getLast?_eq_some_iff.mp i;obtain⟨xs,o,hp⟩:=h;unfold el.lns at hp;rw[ay]at hp;obtain⟨s,l,rfl,y,j⟩:=mz hp;cases j with
 |cons r t=>
  cases t;obtain⟨q,a,rv,rfl,g,⟨l,p,b⟩,v⟩:=r;have d:(c.ln e).1=[]:=by
   show c.listed e.1=[];rw[m];unfold el.listed;simp
  rw[d]at b;cases b;exact⟨s,_,q,a,rv,o,rfl,g,p⟩
end
section
seal mj PS PE PT PA
theorem Ek (K:W.Frag):W.kitOne K (.type "bool") (.type "bool")=some true:=by kernel_rfl
theorem Ai:(["_law_need"]:List Str).Nodup:=by decide +kernel
theorem wj {x:Str}(h:fK x):(PyData.str x).canLay0=true/\(PyData.str x).depth<=60:=by
 have z:=r6 0 (.str x) (by simp[r8,h.ok]);exact⟨z.1,by lia⟩
abbrev Iu:List Str:=["_law_script","_law_shelf","_law_start","_law_found","_law_seed","_law_fewer","_law_k","_law_told","_law_again","_law_there","_law_pick","_law_parts"]
theorem uK:eM Iu ["_law_script"] (eB lY):=i4
structure JR (H:Hp)(sn:List Nd)(ps qs:List Pk)(st tf ag pa pb:Addr):Prop where
 st:gv H st sn
 tf:∃ln,H tf=some (.tup [.ref pa,ln])
 ag:∃ln,H ag=some (.tup [.ref pb,ln])
 pa:iO H pa ps
 pb:iO H pb qs
 sp:∀n∈sn,fK n.1
 s100:sn.length<=100
 po:∀k∈ps,fK k.1
 qn:(qs.map (·.1)).Nodup
 ql:qs.length<64
 eq:∀j∈ps,j.1∈sn.map (·.1)->j∈qs
def Dr (P:Program)(w:World)(K:W.Frag)(mg:Str->Option Value)(base:Heap)(f:Addr)(cdv:Value)(A:Around)(outer:List Env)(s:Shared)(H:Hp)(Q:VK)(E:XK):Prop:=
 ∃tR:TS,mj (qk fB P w K mg base Iu "law" (eB lY) f cdv A outer s H E).nox ((gC lY).drop 16) tR/\
   ∀(sn:List Nd) (ps qs:List Pk) (st tf ag pa pb:Addr) (H1:Hp) (o0 o1 o4 o5 o6 o7:Option V),JR H1 sn ps qs st tf ag pa pb->
    tR {nx:=λ_ H'=>Q .non H',rt:=Q} [o0,o1,some (.ref st),some (.ref tf),o4,o5,o6,o7,some (.ref ag),none,none,none] H1
section
variable {P:Program}{w:World}{K:W.Frag}{mg:Str->Option Value}{base:Heap}{f:Addr}{fd:FuncData}{cdv:Value}{A:Around}{outer:List Env}{s:Shared}{H:Hp}{Q:VK}{E:XK}
theorem Iz (hr:gK 9 (A.deeper (envOfC "law" (eB lY) s.heap.objs.size f cdv)))(q:∀H',Q (.bl true) H'):Dr P w K mg base f cdv A outer s H Q E:=by
 have hu:=gB hr;refine⟨_,(ee (eJ (i:=9) uK.nd gY) (ee (fG (fD (eG eN (pv 8) er)) (eL (i:=10) uK.nd) (eo (iD hu (pv 9) (eG eN (pv 10) er) (eG eN (pv 10) er) rfl))) (ee (BL (i:=11) (N':=["_law_need"]) (n:=1) (js:=[]) rfl (iG.closed) (ip (by decide)) uK.nd rfl rfl (fD (pv 2)) (λC e d fp=>eL (i:=0) Ai) (λC e d fp=>jw) (λC e d fp=>eG (eN:GP _ (xt K)) (pv 0) er)) (ee (fG (fD (eG eN (pv 3) er)) (eL (i:=10) uK.nd) (eo (fz (PW.pt (kY (fC (u6 hr.units) (eG eN (pv 10) er) (pv 11) (by with_unfolding_all rfl)) (jR (fC mB (gN hu (pv 9) (eG eN (pv 10) er)) (eG eN (pv 10) er) (fO _))))) fT eP))) (eo (eQ iU)))))),?_⟩;intro h ps z st tf ag pa pb H1 o0 o1 o4 o5 o6 o7 M;obtain⟨ln,R⟩:=M.tf;obtain⟨lm,O⟩:=M.ag;obtain⟨xs,J,hp⟩:=M.pb;obtain⟨ys,hy,X⟩:=M.pa;obtain⟨zs,hz,G⟩:=M.st;have lx:=Paired.length hp;have lz:=Paired.length G;have ql:=M.ql;refine λr y=>?_;have T:=eA y (.dK []);refine⟨_,rfl,ag,_,_,_,rfl,rfl,gs.of (T _ _ O),rfl,pb,rfl,⟨xs,eX.of (T _ _ J)⟩,fQ (K:=K) (a:=pb) (xs:=xs) (λi σ d=>∃b,σ=[o0,o1,some (.ref st),some (.ref tf),o4,o5,o6,o7,some (.ref ag),some (.ref r),b,none]/\eF H1 d/\d r=some (.dK (jS (z.take i)))) ⟨none,rfl,T,d0⟩ (by rintro i σ d _ ⟨_,_,s,_⟩;exact eX.of (s _ _ J)) ?_ ?_⟩
 ·rintro i x σ d U ⟨b,rfl,e,I⟩;obtain⟨k,Y,t,rfl,l⟩:=Paired.Kq hp U;have v:=e _ _ l;have ht:z.take (i+1)=z.take i++[k]:=by rw[aX,Y];rfl
  have Z:((z.take i++[k]).map (·.1)).Nodup:=by rw[<-ht,ck];exact jg _ M.qn
  refine⟨_,rfl,t,_,_,_,rfl,rfl,gs.of v,rfl,_,rfl,_,rfl,t,_,_,_,rfl,rfl,gs.of v,rfl,r,_,rfl,kP.k (k:=Sum.inr k.1) I (eO (by unfold jS;rw[ab,aT];lia)),?_⟩;refine⟨_,rfl,eF.upd e y,?_⟩;have L:=kz [k] (z.take i) Z;rw[d0,ht,<-L];rfl
 rintro σ d ⟨b,rfl,e,I⟩;rw[lx,aI]at I
 refine⟨_,rfl,st,rfl,⟨_,eX.of (e _ _ hz)⟩,ik (xs:=zs) (λD j B m=>B=((h.take j).map (·.1)).map V.str/\m=upd d D (.lst B)/\d D=none) (λD hD=>⟨rfl,rfl,hD⟩) (by
   rintro D j B m hj ⟨rfl,rfl,p⟩;refine⟨eX.of ((eA p _) _ _ (e _ _ hz)),d0,?_⟩;rw[ab,ab]
   exact eO (bz (List.length_take_le' _ _) (bz M.s100 (by decide)))) ?_ ?_⟩
 ·rintro D j x B m hj ⟨rfl,rfl,p⟩;obtain⟨n,ad,nq,rfl,aa⟩:=Paired.Kq G hj;have S:((h.take (j+1)).map (·.1)).map V.str=((h.take j).map (·.1)).map V.str++[V.str n.1]:=by rw[aX,ad,ay,ay];rfl
  unfold jq qb;dsimp only;rw[ax rfl];exact⟨_,rfl,nq,_,_,_,rfl,rfl,gs.of ((eA p _) _ _ (e _ _ aa)),rfl,d0,by rw[S],by rw[i6],p⟩
 rintro D B m ⟨rfl,rfl,p⟩;rw[lz,aI];have sD:=eA p (.lst ((h.map (·.1)).map V.str));have g:=e.trans sD;have ah:upd d D (.lst ((h.map (·.1)).map V.str)) D=some (.lst ((h.map (·.1)).map V.str)):=d0;have N:=sD _ _ I;generalize upd d D (.lst ((h.map (·.1)).map V.str))=m at *;refine⟨_,rfl,tf,_,_,_,rfl,rfl,gs.of (g _ _ R),rfl,pa,rfl,⟨ys,eX.of (g _ _ hy)⟩,fQ (K:=K) (a:=pa) (xs:=ys) (λi σ o=>∃b,σ=[o0,o1,some (.ref st),some (.ref tf),o4,o5,o6,o7,some (.ref ag),some (.ref r),b,some (.ref D)]/\o=m) ⟨b,rfl,rfl⟩ (by rintro i σ o _ ⟨_,_,rfl⟩;exact eX.of (g _ _ hy)) ?_ ?_⟩
 ·rintro i x σ o U ⟨b,rfl,rfl⟩;obtain⟨k,Y,t,rfl,l⟩:=Paired.Kq X U;have v:=g _ _ l;have L:=ai Y;have F:=M.po k L
  refine⟨_,rfl,t,_,_,_,rfl,rfl,gs.of v,rfl,_,rfl,.str k.1,(h.map (·.1)).map PyData.str,.str k.1,.lst ah (qv _ _),(wj F).1,tK (λx J=>by
   obtain⟨n,hn,rfl⟩:=aw.mp J
   exact M.sp n hn),(wj F).2,_,rfl,?_⟩
  rw[av aN,wW];refine jO (λc1=>?_) (λ_=>ff ⟨_,rfl,rfl⟩);have hq:=M.eq k L (aV c1);have g2:iu o r (.str k.1) (some (.int k.2)):=by
   have:=iu.k (k:=Sum.inr k.1) N;rw[jl,vC M.qn hq]at this;exact this
  exact⟨_,rfl,_,rfl,t,_,_,_,rfl,rfl,gs.of v,rfl,r,_,rfl,g2,_,rfl,t,_,_,_,rfl,rfl,gs.of v,rfl,rfl,_,rfl,jO (λc2=>by simp at c2) (λ_=>⟨_,rfl,rfl⟩)⟩
 ·rintro σ o ⟨b,rfl,rfl⟩;exact q o
end
structure JQ (K:W.Frag)(H:Hp)(PP:Addr)(c:el)(L:ir)(pk:Nat)(ms:List Int)(sc sh st tf pa:Addr):Prop where
 sc:eX K H sc (ms.map V.int)
 sh:iM H sh c.es
 nd:(c.es.map eU).Nodup
 ok:∀e∈c.es,lR e
 lw:∀e∈c.es,Lw e
 e64:c.es.length<64
 st:gv H st c.sn
 sp:∀n∈c.sn,fK n.1
 s100:c.sn.length<=100
 tab:ia yQ x9 H PP
 tf:∃ln,H tf=some (.tup [.ref pa,ln])
 pa:iO H pa (c.listed pk)
 led:gQ c L
 fit:kM c.es c.sn (c.listed pk)
 one:c.KO pk
 named:∀k,c.has pk k->c.Named pk k
 shown:IN c L pk
inductive Ju (H1:Hp)(es:List En)(ps:List Pk)(o0:Option V)(sh st tf fw:Addr)(z:Int)(i:Nat)(σ:L2.St)(H2:Hp):Prop
 |mk (xs:List V)(e2:List En)(o6:Option V)(_:σ=[o0,some (.ref sh),some (.ref st),some (.ref tf),some (.int z),some (.ref fw),o6,none,none,none,none,none])(_:eF H1 H2)(_:H2 fw=some (.lst xs))(_:Paired (jQ (del H2 [fw])) xs e2)(_:e2.Sublist (es.take i))(_:∀e∈es.take i,eU e∈ps->e∈e2)
def GE (P:Program)(w:World)(K:W.Frag)(mg:Str->Option Value)(base:Heap)(f:Addr)(cdv:Value)(A:Around)(outer:List Env)(s:Shared)(H:Hp)(Q:VK)(E:XK)(PP:Addr):Prop:=
 ∃tR:TS,mj (qk fB P w K mg base Iu "law" (eB lY) f cdv A outer s H E).nox ((gC lY).drop 7) tR/\
   ∀(c:el) (L:ir) (pk:Nat) (ms:List Int) (sc sh st tf pa:Addr) (H1:Hp),JQ K H1 PP c L pk ms sc sh st tf pa->
    tR {nx:=λ_ H'=>Q .non H',rt:=Q} [some (.ref sc),some (.ref sh),some (.ref st),some (.ref tf),none,none,none,none,none,none,none,none] H1
section
variable {P:Program}{w:World}{K:W.Frag}{mg:Str->Option Value}{base:Heap}{f:Addr}{fd:FuncData}{cdv:Value}{A:Around}{outer:List Env}{s:Shared}{H:Hp}{Q:VK}{E:XK}
theorem IA {PP:Addr}(T:vZ K mg)(c6:Gd P w K mg base fB 9 "_law_at" ["_law_script","_law_k"] (Gy K))(J:Gd P w K mg base fB 9 "_law_copy_of" ["_law_shelf"] xf)(c8:Gd P w K mg base fB 9 "_law_are_picks" ["_law_found"] kD)(bv:Gd P w K mg base fB 9 "_law_fits" ["_law_shelf","_law_start","_law_picks"] oH)(c7:Gd P w K mg base fB 9 "fits" ["shelf","start","picks"] sV)(cz:Gd P w K mg base fB 9 "worked_out" ["shelf","start"] (oB PP))(Z:gK 9 (A.deeper (envOfC "law" (eB lY) s.heap.objs.size f cdv)))(r:Dr P w K mg base f cdv A outer s H Q E):GE P w K mg base f cdv A outer s H Q E PP:=by
 obtain⟨tR,hR,kR⟩:=r;have hu:=gB Z;refine⟨_,(ee (eJ (i:=4) uK.nd (fe jx (fN c6 Z (dZ (pv 0) (dZ er eg))) er)) (ee (eJ (i:=5) uK.nd (gM eg)) (ee (fG (jC rfl T.range (dZ (eW fj rfl T.len bp (dZ (pv 1) eg)) eg)) (eL (i:=6) uK.nd) (eo (fz (PW.pt (ja (fC (u6 Z.units) (gL (dZ (eG eN (eG fc (pv 1) (pv 6)) er) (dZ (eG eN (eG fc (pv 1) (pv 6)) er) eg))) (eG eN (pv 3) er) (by with_unfolding_all rfl)) (iR (fC mB (fe j7 (fe lh (pv 4) (pv 6)) er) er (fO _))))) (eo (gm (ju PySem.F.plainAttrs_list PySem.F.slot_list_append PySem.F.type_list_append gR (pv 5) (dZ (eG fc (pv 1) (pv 6)) eg)))) eP))) (ee (fz (gJ (gH (fN bv Z (dZ (pv 5) (dZ (pv 2) (dZ (eG eN (pv 3) er) eg)))))) fT eP) (ee (eJ (i:=7) uK.nd (fN c7 Z (dZ (fN J Z (dZ (pv 5) eg)) (dZ (gX ig rfl T.list cM (dZ (pv 2) eg)) (dZ (gX ig rfl T.list cM (dZ (eG eN (pv 3) er) eg)) eg))))) (ee (fz (PW.pt (ja (gJ (gH (eW gl rfl T.isin bK (dZ (pv 7) (dZ (ke rfl T.bool boot_bool) eg))))) (iR (gJ (gH (pv 7)))))) fT eP) (ee (eJ (i:=8) uK.nd (fN cz Z (dZ (fN J Z (dZ (pv 5) eg)) (dZ (gX ig rfl T.list cM (dZ (pv 2) eg)) eg)))) (ee (fz (PW.pt (ja (gJ (gH (eW gl rfl T.isin bK (dZ (pv 8) (dZ (ke rfl T.tuple boot_tuple) eg))))) (ja (fC mB (eW fj rfl T.len bp (dZ (pv 8) eg)) er (fO _)) (iR (gJ (gH (fN c8 Z (dZ (eG eN (pv 8) er) eg)))))))) fT eP) (ee (fz (gJ (gH (fN bv Z (dZ (pv 5) (dZ (pv 2) (dZ (eG eN (pv 8) er) eg)))))) fT eP) hR))))))))),?_⟩;intro c L D ms sc sh st tf pa H1 M;obtain⟨ln,aa⟩:=M.tf;obtain⟨xs,hx,bm⟩:=M.sh;obtain⟨zs,hz,cd⟩:=M.st;obtain⟨ys,hy,c0⟩:=M.pa;have lx:=Paired.length bm;have e64:=M.e64;have s100:=M.s100;have b5:∀j∈c.listed D,fK j.1:=λj hj=>jW M.ok hj;refine⟨_,rfl,sc,ms,0,rfl,M.sc,Int.le_refl 0,λz0=>⟨_,_,rfl,rfl,⟨by decide,by decide⟩,tH,λC a5=>?_⟩⟩;have s1:=eA a5 (.lst []);refine⟨_,rfl,sh,_,rfl,.inl (eX.of (s1 _ _ hx)),_,rfl,by lia,by lia,?_⟩;refine kA (Ju H1 c.es (c.listed D) (some (.ref sc)) sh st tf C (z0 / 4)) ⟨[],[],none,rfl,s1,d0,.nil,List.Sublist.refl _,(λe he=>nomatch he)⟩ ?_ ?_
 ·rintro i σ H2 hi ⟨us,p,o6,rfl,s2,a7,an,g,m⟩;have c5:i<c.es.length:=by rw[br,lx]at hi;exact hi
  have a8:c.es[i]?=some c.es[i]:=ak c5;have ht:c.es.take (i+1)=c.es.take i++[c.es[i]]:=by rw[aX,a8];rfl
  generalize c.es[i]=e at *;have ei:(0+(i:Int))=((i:Nat):Int):=by lia
  obtain⟨x,c4,bf⟩:=iV bm (show iI c.es ((i:Nat):Int)=some e by rw[ij];exact a8);have al:=jy c4;rw[ei];obtain⟨eq,ea,ws,rfl,cl,dp,dl⟩:=id bf;have g1:=s2 _ _ cl;have lu:=Paired.length an;have l2:p.length<=i:=bz g.length_le (List.length_take_le _ _);have bq:fK (eU e).1:=(M.ok e (ai a8)).pt;refine⟨_,rfl,_,rfl,sh,_,_,_,rfl,rfl,eX.of (s2 _ _ hx),al,eq,_,_,_,rfl,rfl,gs.of g1,rfl,_,rfl,_,rfl,sh,_,_,_,rfl,rfl,eX.of (s2 _ _ hx),al,eq,_,_,_,rfl,rfl,gs.of g1,rfl,tG,λkt cp=>?_⟩;have s3:=eA cp (.tup [.str e.1,.int e.2.1]);have l:=s2.trans s3;have I:=s3 _ _ a7;have cv:upd H2 kt (.tup [.str e.1,.int e.2.1]) kt=some (.tup [.str e.1,.int e.2.1]):=d0;have a0:Paired (jQ (del (upd H2 kt (.tup [.str e.1,.int e.2.1])) [C])) us p:=Paired.J4 an λ_ _ y=>jQ.same (eF.del s3 _) y;generalize upd H2 kt (.tup [.str e.1,.int e.2.1])=H3 at *;have sd:eF H1 (del H3 [C]):=λb o hb=>by
   rw[eE (by simpa using et hb a5)];exact l _ _ hb
  have go:Ju H1 c.es (c.listed D) (some (.ref sc)) sh st tf C (z0 / 4) (i+1) [some (.ref sc),some (.ref sh),some (.ref st),some (.ref tf),some (.int (z0 / 4)),some (.ref C),some (.int (i:Nat)),none,none,none,none,none] (upd H3 C (.lst (us++[.ref eq]))):=by
   refine⟨us++[.ref eq],p++[e],_,rfl,eF.upd l a5,d0,?_,by rw[ht];exact List.Sublist.append g (List.Sublist.refl _),λe' G Y=>?_⟩
   ·rw[lK (by simp)];exact Paired.snoc a0 (bf.same sd)
   ·rw[ht]at G;rcases aD.mp G with y | y
    ·exact aP _ (m e' y Y)
    ·exact aO _ y
  refine⟨_,rfl,tf,_,_,_,rfl,rfl,gs.of (l _ _ aa),rfl,mO (eU e),(c.listed D).map mO,fg.rep ⟨kt,rfl,cv⟩,(M.pa.same l).rep,(jF bq).1,lG b5,(jF bq).2,_,rfl,?_⟩;rw[av aN,nA];refine jO (λc1=>gW ?_) (λc1=>?_)
  ·exact⟨_,rfl,.inl ⟨rfl,_,eX.of I⟩,_,rfl,_,rfl,sh,_,_,_,rfl,rfl,eX.of (l _ _ hx),al,C,us,_,rfl,rfl,I,eO (by lia),go⟩
  ·refine⟨_,rfl,_,rfl,_,_,rfl,rfl,_,_,rfl,rfl,(by show(0:Int)<3;decide),rfl,_,rfl,jO (λ_=>?_) (λ_=>?_)⟩
   ·exact⟨_,rfl,.inl ⟨rfl,_,eX.of I⟩,_,rfl,_,rfl,sh,_,_,_,rfl,rfl,eX.of (l _ _ hx),al,C,us,_,rfl,rfl,I,eO (by lia),go⟩
   ·refine⟨us,p,_,rfl,l,I,a0,by rw[ht];exact g.trans (dY _ _),λe' G Y=>?_⟩;rw[ht]at G;rcases aD.mp G with y | y
    ·exact m e' y Y
    ·rw[aj.mp y]at Y;exact absurd (aq Y) c1
 rintro σ H2 ⟨us,p,o6,rfl,s2,a7,an,g,m⟩;rw[br,lx,aI]at g m;have U:iM H2 C p:=⟨us,a7,Paired.J4 an λ_ _=>jQ.same (fq _ _)⟩;have X:∀e∈p,e∈c.es:=λe he=>g.subset he;have h:(p.map eU).Nodup:=M.nd.sublist (g.map eU);have z:∀e∈p,lR e:=λe he=>M.ok e (X e he);have l2:p.length<64:=bI g.length_le e64;have ad:∀k∈c.listed D,k∈p.map eU:=λk Y=>by
  obtain⟨e,he,rfl⟩:=aw.mp (M.fit.key k Y);exact aw.mpr ⟨e,m e he Y,rfl⟩
 have ah:=AH M.nd h X ad M.fit;have ap:=mW M.one;have b7:(c.listed D).length<=900:=bz ll (by lia);have a2:∀B,Wk p (c.listed D) c.sn [] B->B.Nodup->(∀x∈B,x∈(c.listed D).map (·.1))->B.length=(c.listed D).length:=λB a b d=>wL M.one M.named (a.up M.nd h X ad) b d;refine⟨_,rfl,_,rfl,_,rfl,tf,_,_,_,rfl,rfl,gs.of (s2 _ _ aa),rfl,C,st,pa,p,c.sn,c.listed D,rfl,U,h,z,M.st.same s2,M.sp,by lia,M.pa.same s2,ad,ap,b7,sE ah ap,a2,λH3 s3=>⟨_,rfl,ff ?_⟩⟩;have l:=s2.trans s3;refine⟨_,rfl,C,p,rfl,U.same s3,by lia,λh4 H4 s4 cy=>?_⟩;have b4:=l.trans s4;refine⟨_,rfl,st,zs,rfl,.inl (eX.of (b4 _ _ hz)),λn5 ct=>?_⟩;have s5:=eA ct (.lst zs);have bd:=b4.trans s5;refine⟨_,rfl,tf,_,_,_,rfl,rfl,gs.of (bd _ _ aa),rfl,pa,ys,rfl,.inl (eX.of (bd _ _ hy)),λp6 cx=>?_⟩;have s6:=eA cx (.lst ys);have a6:=bd.trans s6;refine⟨h4,p6,n5,p,c.sn,c.listed D,rfl,cy.same (s5.trans s6),z,l2,h,⟨zs,s6 _ _ d0,Paired.J4 cd λ_ _=>fJ.same a6⟩,by lia,⟨ys,d0,Paired.J4 c0 λ_ _=>fg.same a6⟩,ad,ap,b7,sE ah ap,a2,λH7 s7=>?_⟩;have cs:=a6.trans s7;have as:=U.same ((((s3.trans s4).trans s5).trans s6).trans s7);refine⟨_,rfl,_,_,_,_,rfl,jA.bl true,Ek K,_,rfl,ff ?_⟩;refine⟨_,rfl,_,rfl,ff ?_⟩;refine⟨_,rfl,C,p,rfl,as,by lia,λh8 H8 s8 c3=>?_⟩;have b2:=cs.trans s8;refine⟨_,rfl,st,zs,rfl,.inl (eX.of (b2 _ _ hz)),λn9 c9=>?_⟩;have s9:=eA c9 (.lst zs);have N:=b2.trans s9;have b9:gv (upd H8 n9 (.lst zs)) n9 c.sn:=⟨zs,d0,Paired.J4 cd λ_ _=>fJ.same N⟩;have cn:=c3.same s9;have bx:=as.same (s8.trans s9);have b8:=ia.f N.toF M.tab;have a1:=M.st.same N;have b6:=M.pa.same N;have b1:=N _ _ aa;generalize upd H8 n9 (.lst zs)=H9 at *;refine⟨h8,n9,p,c.sn,rfl,cn,l2,h,b9,nJ z s100,b8,λc' c1 c2 L' S=>sq S (by rw[c1];exact λe he=>M.lw e (X e he)),λc' HB ag c1 c2 co dn a4=>?_⟩;subst c1;have kB:=GO.tab b8 co;rcases a4 with ⟨L',_,S,e,hl,h0⟩ | ⟨L',a9,⟨pb,lm,R,a3,dd⟩,S,q,v,dc,b3,ba⟩
 ·exact(Ck S (by rw[c2];exact ah) hl h0).elim
 ·refine⟨_,rfl,_,_,_,_,rfl,jA.tup R,ng K,_,rfl,ff ?_⟩;refine⟨_,rfl,ag,_,rfl,.inr (gs.of R),rfl,_,rfl,ff ?_⟩;refine⟨_,rfl,ag,_,_,_,rfl,rfl,gs.of R,rfl,pb,_,rfl,a3,_,rfl,ff ?_⟩;have O:=mW v;have da:(c'.listed a9).length<=c'.es.length:=ll;refine⟨_,rfl,_,rfl,_,rfl,ag,_,_,_,rfl,rfl,gs.of R,rfl,C,st,pb,c'.es,c'.sn,c'.listed a9,rfl,bx.k kB,h,z,by rw[c2];exact a1.k kB,by rw[c2];exact M.sp,by rw[c2];lia,a3,λk Y=>(c'.mem k).mp (el.Kx.mp Y).1,O,by lia,sE q O,λB a b d=>wL v b3 a b d,λHC sC=>⟨_,rfl,ff ?_⟩⟩;have key:=(oP M.led S c2 M.one v M.shown ba M.fit q (Ez M.nd h X (by rw[<-c2];exact q)) (by rw[c2];exact ah) c.sn.length).1;rw[aI]at key;exact kR c.sn (c.listed D) (c'.listed a9) st tf ag pa pb HC _ _ _ _ _ _ ⟨(a1.k kB).same sC,⟨_,sC _ _ (kB.t _ _ b1)⟩,⟨_,sC _ _ R⟩,(b6.k kB).same sC,a3.same sC,M.sp,s100,b5,O,by lia,λj hj ch=>key j (el.Kx.mp hj) ch⟩
inductive xa (K:W.Frag)(PP:Addr)(vs:List V)(H:Hp)(Q:VK)(E:XK):Prop
 |mk (a:Addr)(ns:List Int)(_:vs=[.ref a])(_:eX K H a (ns.map V.int))(_:ns.length<=63)(_:ia yQ x9 H PP)(_:∀H',Q (.bl true) H')
theorem D6 {PP:Addr}(F:iL K "law" "law" lY f fd)(T:vZ K mg)(a6:Gd P w K mg base fB 9 "_law_at" ["_law_script","_law_k"] (Gy K))(Y:Gd P w K mg base fB 9 "_law_asked_by" ["_law_script"] (vW K))(d:Gd P w K mg base fB 9 "_law_copy_of" ["_law_shelf"] xf)(ag:Gd P w K mg base fB 9 "_law_mixed" ["_law_script"] (vU K))(a7:Gd P w K mg base fB 9 "_law_lines_hold" ["_law_shelf","_law_start","_law_lines"] mf)(ah:Gd P w K mg base fB 9 "_law_are_picks" ["_law_found"] kD)(a1:Gd P w K mg base fB 9 "_law_fits" ["_law_shelf","_law_start","_law_picks"] oH)(a8:Gd P w K mg base fB 9 "fits" ["shelf","start","picks"] sV)(G:Gd P w K mg base fB 9 "worked_out" ["shelf","start"] (oB PP)):fi P w K mg base fB 10 f fd ["_law_script"] (xa K PP):=by
 refine F.ok uK λcdv A outer s H vs Q E j h=>?_;obtain⟨a,ns,rfl,hS,ba,hT,q⟩:=h;have hu:=j.units;obtain⟨tR,hR,kR⟩:=IA (A:=A) (outer:=outer) (cdv:=cdv) (s:=s) (H:=H) (Q:=Q) (E:=E) (f:=f) T a6 d ah a1 a8 G j (Iz j q);refine⟨_,(ee (eJ (i:=0) uK.nd (mw nZ (pv 0) rT (mo er))) (ee (eJ (i:=0) uK.nd (fN ag j (dZ (pv 0) eg))) (ee (zt (fN Y j (dZ (pv 0) eg)) (lc (n:=2) rfl (gj (eL (i:=1) uK.nd) (gj (eL (i:=2) uK.nd) jT)))) (ee (eJ (i:=3) uK.nd (fN G j (dZ (fN d j (dZ (pv 1) eg)) (dZ (gX ig rfl T.list cM (dZ (pv 2) eg)) eg)))) (ee (fz (PW.pt (ja (gJ (gH (eW gl rfl T.isin bK (dZ (pv 3) (dZ (ke rfl T.tuple boot_tuple) eg))))) (iR (fC mB (eW fj rfl T.len bp (dZ (pv 3) eg)) er (fO _))))) fT eP) (ee (fz (hJ (rW (eG eN (pv 3) er))) (eo (eQ (lg (fN a7 j (dZ (pv 1) (dZ (pv 2) (dZ (eG eN (pv 3) er) eg)))) (lZ (jU (D2 hu) (eG eN (eG fc (eG eN (pv 3) er) (jb j6 er)) er) (gM eg) (fO _)))))) eP) (ee (fz (gJ (gH (fN ah j (dZ (eG eN (pv 3) er) eg)))) fT eP) hR))))))),?_⟩;obtain⟨m1,e1,l1⟩:=um ns none (some 500);refine⟨_,rfl,500,rfl,a,_,rfl,hS,λp1 as=>?_⟩;rw[e1];have s1:=eA as (.lst (m1.map V.int));refine⟨_,rfl,p1,m1,rfl,eX.of d0,by lia,λp2 m2 H2 s2 h2 l2=>?_⟩;refine⟨_,rfl,p2,m2,rfl,eX.of h2,by lia,λt sh st es sn H3 s3 h3 Z B g a9 h4 R M bf=>?_⟩;refine⟨t,_,rfl,gs.of h3,rfl,_,_,rfl,_,_,rfl,rfl,?_⟩;refine⟨_,rfl,sh,es,rfl,Z,by lia,λhd H4 s4 a3=>?_⟩;obtain⟨C,hz,a2⟩:=gv.same s4 R;refine⟨_,rfl,st,C,rfl,.inl (eX.of hz),λnd U=>?_⟩;have s5:=eA U (.lst C);have S:gv (upd H4 nd (.lst C)) nd sn:=⟨C,d0,Paired.J4 a2 λ_ _=>fJ.same s5⟩;have m:=s4.trans s5;have J:=ia.f (((s1.trans s2).trans s3).trans m).toF hT;have ad:=gv.same m R;have O:=iM.same m Z;have X:=iM.same s5 a3;have al:=m _ _ (s3 _ _ h2);generalize upd H4 nd (.lst C)=H5 at *;refine⟨hd,nd,es,sn,rfl,X,by lia,B,S,nJ g (by lia),J,λc c1 c2 L y=>sq y (by rw[c1];exact h4),λc H6 o c1 c2 a0 a4 v=>?_⟩;subst c1;subst c2;have k6:=GO.tab J a0;have r:=O.k k6;have p:=ad.k k6;rcases v with ⟨L,⟨ln,b,z⟩,y,e,hl,h0⟩ | ⟨L,pk,⟨pa,ln,b,aa,z⟩,y,D,I,bd,ap,N⟩
 ·refine⟨_,rfl,_,_,_,_,rfl,jA.tup b,ng K,_,rfl,ff ?_⟩;refine⟨_,rfl,o,_,rfl,.inr (gs.of b),rfl,_,rfl,ff ?_⟩;refine⟨_,rfl,o,_,_,_,rfl,rfl,gs.of b,rfl,_,rfl,gW ?_⟩;refine⟨_,rfl,_,rfl,_,rfl,o,_,_,_,rfl,rfl,gs.of b,rfl,sh,st,ln,c.es,c.sn,c.lns L,rfl,r,by lia,B,g,p,M,z,yd y g (by lia),?_,uc y,λHa sa=>⟨_,rfl,gW ?_⟩⟩
  ·unfold el.lns;rw[ab];exact sq y h4
  have a5:=sa _ _ b;obtain⟨xs,x,q1,pa,rv,g1,rfl,g2,g3⟩:=An (z.same sa) hl h0;refine⟨_,rfl,o,_,_,_,rfl,rfl,gs.of a5,rfl,_,rfl,ln,_,_,_,rfl,rfl,eX.of g1,AX xs _,q1,_,_,_,rfl,rfl,gs.of g2,rfl,tH,λld an=>?_⟩;have sd:=eA an (.lst []);refine⟨.list [],.list [],.lst (sd _ _ g3) .nil,.lst d0 .nil,rfl,rfl,?_⟩;exact q _
 ·refine⟨_,rfl,_,_,_,_,rfl,jA.tup b,ng K,_,rfl,ff ?_⟩;refine⟨_,rfl,o,_,rfl,.inr (gs.of b),rfl,_,rfl,ff ?_⟩;refine⟨_,rfl,o,_,_,_,rfl,rfl,gs.of b,rfl,_,rfl,ff ?_⟩;refine⟨_,rfl,o,_,_,_,rfl,rfl,gs.of b,rfl,pa,_,rfl,aa,_,rfl,ff ?_⟩;exact kR c L pk m2 p2 sh st o pa H6 ⟨eX.of (k6.l _ _ al),r,B,g,h4,by lia,p,M,by lia,a4,⟨_,b⟩,aa,y,D,I,ap,N⟩
end
end
end FB
structure PySem.W.Fast:Prop where
 (tw15891854943655500143 tw2511258181059982944 tw15621352017765514116 tw3679848502673542720 tw3018833703614488451 tw10175499026875469124 tw17621164778847319252 tw4687698075512307052 tw3723651509097517817 tw16524867226780885232 tw4819665970775276138 tw9096653919523095786 tw668290890187370974 tw17385498112033662757 tw7305730575747941034 tw9652471849612133046 tw11001824387100989340 tw15131402045300848011 tw17766941351443575161 tw16222061309969508114 tw9358207753442999738 tw16421913877342554217 tw2943585137372089109 tw8080459518006301709 tw14841346742140276543 tw10610419494673042799 tw10070666352690374094 tw18050396527818603249 tw12335446393082140214 tw5526948290263265089 tw5654457331230189244 tw15853573171878635042 tw2653559155798781271 tw6300374792915901534 tw16893531782284393328 tw104841875970450685 tw681817055428148079 tw13721649871259956166 tw10571229006952146078 tw11339448392225144885 tw10281910681895273120 tw14534738016506319509 tw14504722163869525071 tw5145657058120020647 tw9009976846316331996 tw7230403680734314841 tw12765589807718368902 tw4051390813847646682 tw8797065029798993652 tw844554961805004408 tw2318877543385378732 tw4659098564941552836 tw10018848591396144345 tw6483721004658624183 tw15487809155685256588 tw13400635487195279720 tw5719432292930281430 tw2544962872487148841 tw10190693795459184924 tw1102898745667915936 tw15894058806060704117 tw6248234444536601642 tw15448276347989767602 tw14452362875012880632 tw1267911747141247445 tw2362953145555825804 tw17975294056983790067 tw2505085645396359052 tw12906699023143473138 tw15402401473016449019 tw13714257635119484197 tw3282095291260518678 tw17260676106100898940 tw5781838369239534792 tw11609046137145215140 tw17655622704914469012 tw1203311599541825293 tw12338142905013360793 tw12116137975128057387 tw12992127655181492275 tw1888243560802357738 tw9142881187368021067 tw15530837909060859180 tw17988896886866476164 tw6576759307210320570 tw7298890917517612943 tw8045653916481154190 tw17875712890041181984 tw6723747605097586439 tw14914779192297201538 tw16154809502034372901 tw16623333654371264949 tw6530620057457026489 tw5794542270712924003 tw15081954596160961416 tw2166885004604110130 tw7560495827147829571 tw3662513190463548943 tw14439700090445052271 tw17826759139468894982 tw6944579266815278690 tw12440009119966046398 tw13058049492424313066 tw15061161862566168424 tw13215197581171876983 tw10438576743849692603 tw11744004543163472219 tw5083745725195511464 tw5026264583035547131 tw12086412401380963578 tw11378112966807732446 tw7947449476175558148 tw7955485067522427147 tw10671429128455488097 tw5911296467252820081 tw3723758911420632595 tw6715978146095887180 tw4325078689061521874 tw9472800798469294911 tw3431664345176837378 tw18333839940558815226 tw6667526793306630973 tw3188983514087224958 tw13855849734914357923 tw1790510446414864642 tw11557858729280563443 tw9435792999162431953 tw453521239317914621 tw2215272331886431982 tw5216888632342681662 tw8055081460516206751 tw10521710027849893040 tw918177866408157687 tw8999816533265761908 tw5892030060295929159 tw10340691697474915524 tw1219857493083866881 tw8194579349016450342 tw10577714111629907382 tw17777758578587491081 tw17353099676568176439 tw11665311880897914827 tw18139387353365745938 tw7663478189782024648 tw12059170150869676142 tw16661204189055406400 tw4859710623575620095 tw16042982927075300502 tw4790497605830331145 tw5752078177160909854 tw7537058782885834458 tw1712050883337925913 tw15105323321662488955 tw5400805192674781642 tw16910941434017811013 tw3393367321574538432 tw15743665692647990190 tw14559675329767207722 tw3045800692488069974 tw6269281719600567924 tw7283823409622142298 tw18283985801758926968 tw15074811577859192307 tw11560073476691668908 tw3493529678510273363 tw11223533182734225271 tw7652860940075517404 tw10542399062971303439 tw4523053960271174342 tw8405105225989628835 tw10363419054111583454 tw17712092876212474029 tw14290416299002109858 tw15344581153444768748 tw16424602790437332729 tw5455076244922619729 tw16638379122397200027 tw3143271173775787194 tw3984544734258660464 tw8858692522924161405 tw6778770900266060104 tw13990989891373627709 tw8078138281413742335 tw8880093589787242169 tw3134196839820326742 tw7207806175344442741 tw3353102491775209344 tw12653166234151210960 tw1568971488562757114 tw5786927939966428649 tw5485355672215279282 tw9451268312037940163 tw4433743981293808631 tw11530118545151970650 tw878805241342122384 tw11780697539119803843 tw17550372401699935564 tw192344793627271601 tw14161674757825598685 tw13530272716239117891 tw9158636526256937303 tw3916463327965093904 tw7707332561035394331 tw10880200291178351196 tw1681680038798692676 tw12231077032511941720 tw13454975013449860277 tw7522944915242929012 tw11370423451099965492 tw18094309474979298390 tw11222078488763518430 tw12254788595083999558 tw8462043564059123371 tw11004945872029730442 tw12966109711137267396 tw5603961114535028045 tw16168025165643514364 tw14296291448311194935 tw3968892891450569306 tw7206446537428653939 tw302970562062050014 tw14641117332683249218 tw6100752428379627789 tw3946738302344929085 tw5275851124520131044 tw7610282286716590874 tw3771003773897238961 tw3401276394653265270 tw6058994105405589603 tw13436401293133047986 tw3756962700069143854 tw4682353498982902766 tw10576141801048181225 tw5825103928630524413 tw3335644570186540348 tw2015583265839303689 tw10735116249609564832 tw7636324686378475187 tw2403282630042069597 tw7597672387099666202 tw14858608194386399137 tw4180393465272497078 tw6536593906768283012 tw15780669675489896942 tw936925120541225318 tw3947542004275934866 tw16425930929592713962 tw6903605949063771111 tw14837282811270324061 tw16005149835480126102 tw6680133969028365635 tw2719175000589915220 tw4257017542414111997 tw9697396080312947445 tw488164739668610660 tw3023530694378690645 tw1759272903029043578 tw4034982399347557963 tw4237494759026794245 tw15341165594366445695 tw10707716507549887507 tw11834048193066885365 tw12138696689985452212 tw12022639408988945692 tw119562765629590751 tw15039498192686600907 tw8177607645870654632 tw9690607181149956827 tw17958558847435159279 tw14946139960350574129 tw8547317560610456237:True)
namespace FB
open PySem L2
theorem Iw {P1:Program}{w1:World}{K1:W.Frag}{mg1:Str->Option Value}{base1:Heap}{C1:Addr}{f1:Addr}{CX1:uC}{fd1:FuncData}{k1:Nat}{x1:Str}{ps1:List Str}(sp1:Sp)(c:p9 K1 C1)(h:fi P1 w1 K1 mg1 base1 CX1 k1 f1 fd1 ps1 sp1)(b:iC K1 fd1 ps1 [])(m:v6 K1 C1 x1 f1):Mt P1 w1 K1 mg1 base1 C1 CX1 k1 x1 ps1 sp1:=⟨c,f1,fd1,h,b,m⟩
theorem Ix {P2:Program}{w2:World}{K2:W.Frag}{mg2:Str->Option Value}{base2:Heap}{C2:Addr}{f2:Addr}{CX2:uC}{fd2:FuncData}{k2:Nat}{x2:Str}{ps2:List Str}(sp2:Sp)(a:mg2 x2=some (.ref C2))(M:Mk K2 C2 f2)(h:fi P2 w2 K2 mg2 base2 CX2 k2 f2 fd2 ps2 sp2)(b:iC K2 fd2 ps2 []):Bo P2 w2 K2 mg2 base2 C2 CX2 k2 x2 ps2 sp2:=⟨a,f2,fd2,M,h,b⟩
theorem Gn {P3:Program}{w3:World}{K3:W.Frag}{mg3:Str->Option Value}{base3:Heap}{f3:Addr}{CX3:uC}{fd3:FuncData}{k3:Nat}{x3:Str}{ps3:List Str}(a:Sp)(h:fi P3 w3 K3 mg3 base3 CX3 k3 f3 fd3 ps3 a)(b:iC K3 fd3 ps3 [])(q:W.keepIn K3 (.ref f3)=true)(m:mg3 x3=some (.ref f3))(hk:k3<=9:=by decide):Gd P3 w3 K3 mg3 base3 CX3 9 x3 ps3 a:=⟨f3,fd3,h.mono hk,b,q,m⟩
theorem all_mk {l:W.OpenLaw}{w:World}{K:W.Frag}{h:Heap}{mg:Str->Option Value}{fa CB CC CL CT CF CS f1 f2 f3 f4 f5 f6 f7 f8 f9 f10 f11 f12 f13 f14 f15 f16 f17 f18 f19 f20 f21 f22 f23 f24 f25 f26 f27 f28 f29 fm1 fm2 fm3 fm4 fm5 fm6 fm7 fm8 fm9 fm10 fm11 fm12 fm13 fm14 fm15 fm16 fm17 fm18 fm19 fm20 fm21 fm22 fm23 fm24 fm25 fm26 fm27 fm28 fm29 fm30 fm31 PP:Addr}(X:K.In h)(G:h.Ns mainGlobals mg)(n2:mg "law" = some (.ref fa))(Z:Ds K "Board" CB)(Y:W.findIn K (.ref CB) "needs" = some none)(r:W.findIn K (.ref CB) "versions" = some none)(t:Ds K "Chart" CC)(ad:W.findIn K (.ref CC) "board" = some none)(al:W.findIn K (.ref CC) "bits" = some none)(I:W.findIn K (.ref CC) "by_bit" = some none)(A:W.findIn K (.ref CC) "of_part" = some none)(C:W.findIn K (.ref CC) "allowed" = some none)(x:W.findIn K (.ref CC) "shut_out" = some none)(as:W.findIn K (.ref CC) "foes" = some none)(D:Ds K "Ledger" CL)(ah:W.findIn K (.ref CL) "chart" = some none)(S:W.findIn K (.ref CL) "masks" = some none)(B:W.findIn K (.ref CL) "reasons" = some none)(j:W.findIn K (.ref CL) "place_by_mask" = some none)(i:W.findIn K (.ref CL) "places_by_pick" = some none)(a3:Ds K "Stand" CT)(L:W.findIn K (.ref CT) "picked" = some none)(a0:W.findIn K (.ref CT) "dead" = some none)(O:W.findIn K (.ref CT) "wanted" = some none)(a1:Ds K "Fork" CF)(ap:W.findIn K (.ref CF) "part" = some none)(ag:W.findIn K (.ref CF) "stand" = some none)(a2:W.findIn K (.ref CF) "bit" = some none)(d:Ds K "Search" CS)(aa:W.findIn K (.ref CS) "chart" = some none)(J:W.findIn K (.ref CS) "ledger" = some none)(R:W.findIn K (.ref CS) "forks" = some none)(d1:ml K "clashes" oY f1)(d2:ml K "count_picks" uV f2)(d3:ml K "worked_out" rj f3)(d4:ml K "fits" zj f4)(d5:ml K "checked_board" oZ f5)(d6:ml K "check_picks" rM f6)(d7:ml K "clashes_with" DU f7)(d8:ml K "lacks_pick" ze f8)(d9:ml K "first_need" uU f9)(rb:ml K "named_parts" uQ f10)(i2:ml K "_law_whole" uL f11)(qa:ml K "_law_at" Ik f12)(h7:ml K "_law_version_by" DQ f13)(pk:ml K "_law_need_by" zb f14)(re:ml K "_law_shelf_by" uP f15)(op:ml K "_law_start_by" oQ f16)(np:ml K "_law_copy_of" zk f17)(h8:ml K "_law_needs_in" oV f18)(n6:ml K "_law_meets" rG f19)(mm:ml K "_law_newest" rB f20)(kb:ml K "_law_is_pick" rH f21)(pl:ml K "_law_are_picks" mQ f22)(kp:ml K "_law_fits" uT f23)(l2:ml K "_law_is_line" rJ f24)(qs:ml K "_law_holds" oX f25)(kq:ml K "_law_lines_hold" lX f26)(kl:ml K "_law_asked_by" uW f27)(mu:ml K "_law_mixed" uR f28)(lm:lV K CB "__init__" "Board.__init__" zg fm1)(h9:lV K CB "meeting" "Board.meeting" oW fm2)(k0:lV K CC "__init__" "Chart.__init__" rN fm3)(kd:lV K CC "give_bits" "Chart.give_bits" zi fm4)(qn:lV K CC "allowed_by" "Chart.allowed_by" pc fm5)(ih:lV K CC "shut_out_by" "Chart.shut_out_by" oR fm6)(pd:lV K CC "make_foes_mutual" "Chart.make_foes_mutual" rD fm7)(js:lV K CC "listed" "Chart.listed" rE fm8)(ql:lV K CL "__init__" "Ledger.__init__" rF fm9)(c4:lV K CL "put_down" "Ledger.put_down" DR fm10)(ga:lV K CL "place_against" "Ledger.place_against" rA fm11)(c5:lV K CL "barred_with" "Ledger.barred_with" rP fm12)(e8:lV K CL "told" "Ledger.told" uM fm13)(g6:lV K CT "__init__" "Stand.__init__" rm fm14)(co:lV K CF "__init__" "Fork.__init__" rL fm15)(ds:lV K CS "__init__" "Search.__init__" rn fm16)(cx:lV K CS "opening" "Search.opening" oU fm17)(hz:lV K CS "wanted_by" "Search.wanted_by" rl fm18)(eh:lV K CS "left" "Search.left" zd fm19)(cy:Jg K CS "next_part" "Search.next_part" tS fm20 PP)(hb:lV K CS "go_on" "Search.go_on" zh fm21)(e1:lV K CS "stand_behind" "Search.stand_behind" rO fm22)(dv:lV K CS "go_back" "Search.go_back" rK fm23)(hq:lV K CS "mark_dead" "Search.mark_dead" zc fm24)(gx:lV K CS "shut" "Search.shut" za fm25)(cz:lV K CS "place_of_need" "Search.place_of_need" rp fm26)(ek:lV K CS "line_against" "Search.line_against" uS fm27)(gb:lV K CS "outside" "Search.outside" oT fm28)(f0:lV K CS "show_newest" "Search.show_newest" uN fm29)(e7:lV K CS "newer_picks" "Search.newer_picks" rC fm30)(fk:lV K CS "show_barred" "Search.show_barred" uO fm31){oc kV dc pm cd ct:Value}{od an:Option Addr}{sl:Array (Option Value)}(aL:W.nsIn K mainGlobals "law" = some (some (.ref f29)))(lL:K.lookup f29=some ⟨oc,od,.func (W.fnOf "law" "law" (ie lY) (gC lY) (eB lY) .none kV dc pm an cd ct),sl⟩)(cL:W.codeIn K cd "law" = true)(kL:W.keepIn K (.ref f29)=true)(z1:W.nsIn K mainGlobals "len" = some none)(z2:W.nsIn K mainGlobals "range" = some none)(z3:W.nsIn K mainGlobals "list" = some none)(z4:W.nsIn K mainGlobals "tuple" = some none)(z5:W.nsIn K mainGlobals "str" = some none)(z6:W.nsIn K mainGlobals "int" = some none)(z7:W.nsIn K mainGlobals "bool" = some none)(z8:W.nsIn K mainGlobals "isinstance" = some none)(z9:W.nsIn K mainGlobals "sorted" = some none)(bv:W.nsIn K mainGlobals "reversed" = some none)(q9:W.nsIn K mainGlobals "zip" = some none)(nm:W.nsIn K mainGlobals "max" = some none)(ch:W.nsIn K mainGlobals "min" = some none)(ks:W.nsIn K mainGlobals "sum" = some none)(ba:W.nsIn K mainGlobals "dict" = some none)(gp:W.nsIn K mainGlobals "enumerate" = some none):∃(fd:FuncData) (cP:Addr),W.codeHdIn K cP PP=true/\(∀(s:Shared) (v:Value),BindsTo s fd ⟨[v],[]⟩ [("_law_script",v)])/\∀base:Heap,K.In base->base.Ns mainGlobals mg->tw mg base->fi l.prog w K mg base fB 10 fa fd ["_law_script"] (xa K PP):=by
 have e:=n2.symm.trans (W.mg_of X G aL);cases e;have T:vZ K mg:=⟨(bj X G z1),(bj X G z2),(bj X G z3),(bj X G z4),(bj X G z5),(bj X G z6),(bj X G z7),(bj X G z8),(bj X G z9),(bj X G bv)⟩;obtain⟨_,F1,b1,k1,m1⟩:=d1.u X G (ps:=["need","pick"]);obtain⟨_,F2,b2,k2,m2⟩:=d2.u X G (ps:=["mask"]);obtain⟨_,F3,b3,k3,m3⟩:=d3.u X G (ps:=["shelf","start"]);obtain⟨_,F4,b4,k4,m4⟩:=d4.u X G (ps:=["shelf","start","picks"]);obtain⟨_,F5,b5,k5,m5⟩:=d5.u X G (ps:=["shelf","start","picks"]);obtain⟨_,F6,b6,k6,m6⟩:=d6.u X G (ps:=["board","picks"]);obtain⟨_,F7,b7,k7,m7⟩:=d7.u X G (ps:=["need","picked"]);obtain⟨_,F8,b8,k8,m8⟩:=d8.u X G (ps:=["need","picked"]);obtain⟨_,F9,b9,k9,m9⟩:=d9.u X G (ps:=["board","picks","wrong"]);obtain⟨_,p6,po,lq,ne⟩:=rb.u X G (ps:=["board","picks"]);obtain⟨_,n3,c6,ex,c1⟩:=i2.u X G (ps:=["_law_found"]);obtain⟨_,mp,h0,hx,gd⟩:=qa.u X G (ps:=["_law_script","_law_k"]);obtain⟨_,o7,he,hl,g8⟩:=h7.u X G (ps:=["_law_cell"]);obtain⟨_,n0,g9,c8,g5⟩:=pk.u X G (ps:=["_law_cell"]);obtain⟨_,ka,o9,lo,o0⟩:=re.u X G (ps:=["_law_cells"]);obtain⟨_,ld,la,ly,n4⟩:=op.u X G (ps:=["_law_cells"]);obtain⟨_,nb,kw,q1,lu⟩:=np.u X G (ps:=["_law_shelf"]);obtain⟨_,ox,ha,e5,ep⟩:=h8.u X G (ps:=["_law_shelf","_law_pick"]);obtain⟨_,kx,bl,bf,bd⟩:=n6.u X G (ps:=["_law_need","_law_version"]);obtain⟨_,q4,lv,i1,nf⟩:=mm.u X G (ps:=["_law_shelf","_law_need"]);obtain⟨_,m0,c9,hy,dd⟩:=kb.u X G (ps:=["_law_found"]);obtain⟨_,iv,fv,gk,dy⟩:=pl.u X G (ps:=["_law_found"]);obtain⟨_,mb,na,l0,kf⟩:=kp.u X G (ps:=["_law_shelf","_law_start","_law_picks"]);obtain⟨_,n8,n5,oa,q6⟩:=l2.u X G (ps:=["_law_found"]);obtain⟨_,ov,ky,h4,pp⟩:=qs.u X G (ps:=["_law_shelf","_law_start","_law_lines","_law_spot"]);obtain⟨_,ma,h5,j0,pq⟩:=kq.u X G (ps:=["_law_shelf","_law_start","_law_lines"]);obtain⟨_,ns,kk,q7,q3⟩:=kl.u X G (ps:=["_law_script"]);obtain⟨_,o4,p5,le,on⟩:=mu.u X G (ps:=["_law_script"]);obtain⟨_,nx,h3,dl⟩:=lm.u (ps:=["self","shelf","start"]);obtain⟨_,n9,nl,o6⟩:=h9.u (ps:=["self","need"]);obtain⟨_,pn,ra,hc⟩:=k0.u (ps:=["self","board"]);obtain⟨_,os,oq,ls⟩:=kd.u (ps:=["self"]);obtain⟨_,kv,lf,p2⟩:=qn.u (ps:=["self","who"]);obtain⟨_,q0,h6,kt⟩:=ih.u (ps:=["self","who"]);obtain⟨_,q2,o3,lw⟩:=pd.u (ps:=["self"]);obtain⟨_,l3,pu,mq⟩:=js.u (ps:=["self","mask"]);obtain⟨_,lp,lk,g7⟩:=ql.u (ps:=["self","chart"]);obtain⟨_,eu,ec,hm⟩:=c4.u (ps:=["self","mask","reason"]);obtain⟨_,eq,cn,e3⟩:=ga.u (ps:=["self","pick","picked"]);obtain⟨_,h2,ez,hf⟩:=c5.u (ps:=["self","pick","picked"]);obtain⟨_,hv,hn,fr⟩:=e8.u (ps:=["self"]);obtain⟨_,fp,em,a5⟩:=g6.u (ps:=["self","picked","dead","wanted"]);obtain⟨_,ht,gg,a4⟩:=co.u (ps:=["self","part","stand"]);obtain⟨_,hr,fo,a6⟩:=ds.u (ps:=["self","chart"]);obtain⟨_,bm,h1,ed⟩:=cx.u (ps:=["self"]);obtain⟨_,hj,gw,hs⟩:=hz.u (ps:=["self","wanted","who","picked"]);obtain⟨_,hd,dx,eb⟩:=eh.u (ps:=["self","stand","part"]);obtain⟨_,_,a9,gn,e9,ew⟩:=cy.u (ps:=["self","stand"]);obtain⟨_,c2,g2,fy⟩:=hb.u (ps:=["self"]);obtain⟨_,hi,g1,fu⟩:=e1.u (ps:=["self","fork"]);obtain⟨_,go,cs,c7⟩:=dv.u (ps:=["self","place"]);obtain⟨_,da,ei,cl⟩:=hq.u (ps:=["self","bit","place"]);obtain⟨_,hp,ft,ev⟩:=gx.u (ps:=["self","fork","known"]);obtain⟨_,cp,hg,cv⟩:=cz.u (ps:=["self","who","part"]);obtain⟨_,e2,hh,dp⟩:=ek.u (ps:=["self","pick"]);obtain⟨_,hk,hw,ej⟩:=gb.u (ps:=["self","who","pick"]);obtain⟨_,es,bx,hu⟩:=f0.u (ps:=["self","picked"]);obtain⟨_,fl,bq,g0⟩:=e7.u (ps:=["self","fork"]);obtain⟨_,ey,e6,gh⟩:=fk.u (ps:=["self","pick","kept","forks"]);have nj:=nn (st:=lY) lL cL kL;refine⟨W.fnOf "law" "law" (ie lY) (gC lY) (eB lY) .none kV dc pm an cd ct,_,ew,λs v=>.of_eq rfl,λbase _ _ ko=>?_⟩;have m:=@Iw l.prog w K mg base;have mr:=@Ix l.prog w K mg base;have y:=@Gn l.prog w K mg base;have o:TB K mg CB:=⟨Z.c,Y,r,W.mg_of X G Z.a,(bj X G z3),(bj X G z9)⟩;have b:TC K mg CC:=⟨t.c,ad,al,I,A,C,x,as,(bj X G z9),(bj X G nm),(bj X G ch),(bj X G ks)⟩;have q:TL K mg CL:=⟨D.c,ah,S,B,j,i,(bj X G z1),(bj X G q9)⟩;have F:CP K mg CT:=⟨a3.c,L,a0,O⟩;have p:Bc K mg CF:=⟨a1.c,ap,ag,a2⟩;have g:tE K mg CS:=⟨d.c,aa,J,R,(bj X G ba),(bj X G ch),(bj X G z3),(bj X G gp),(bj X G bv)⟩;have a7:=vg (P:=l.prog) (w:=w) (mg:=mg) (base:=base) F1;have e0:=Ad (P:=l.prog) (w:=w) (mg:=mg) (base:=base) F2;have gt:=mr (sS CB) (W.mg_of X G Z.a) ⟨Z.mk_,dl.at_,dl.fn,Z.kc⟩ (Aa nx o) h3;have a8:=m (lD CB) Z.c (vf n9 o (i8 a7 b1 k1 m1)) nl o6;have U:=m (j4 CC) t.c (xL l3 b) pu mq;have mc:=m (A9 CB CC) t.c (Cg os b o) oq ls;have o5:=m (p0 CB CC) t.c (vh kv b o a8) lf p2;have lz:=m (pV CC) t.c (u8 q0 b) h6 kt;have n7:=m (sP CC) t.c (xJ q2 b U) o3 lw;have is:=mr (sW CB CC) (W.mg_of X G t.a) ⟨t.mk_,hc.at_,hc.fn,t.kc⟩ (xT pn b o mc o5 lz n7) ra;have pa:=mr (sQ CL) (W.mg_of X G D.a) ⟨D.mk_,g7.at_,g7.fn,D.kc⟩ (xN lp q) lk;have c3:=m (CN CB CC CL) D.c (D5 eu q U) ec hm;have j2:=m (sO CB CC CL) D.c (xH eq q b) cn e3;have nk:=m (sY CB CC CL) D.c (xW h2 q) ez hf;have l1:=m (vQ CB CC CL) D.c (zT hv q U) hn fr;have ho:=mr (oE CT) (W.mg_of X G a3.a) ⟨a3.mk_,a5.at_,a5.fn,a3.kc⟩ (xE fp F) em;have px:=mr (sU CF) (W.mg_of X G a1.a) ⟨a1.mk_,a4.at_,a4.fn,a1.kc⟩ (xS ht p) gg;have pb:=mr (sN CL CS) (W.mg_of X G d.a) ⟨d.mk_,a6.at_,a6.fn,d.kc⟩ (xF hr g pa) fo;have e4:=m (w9 CB CC CS CT) d.c (Cd hd g b F) dx eb;have ea:=m (oC CB CC CS) d.c (xD hj g b (i8 e0 b2 k2 m2)) gw hs;have fx:=m (oF CB CC CS) d.c (xG cp g b o) hg cv;have kh:=m (pW CB CC CL CS) d.c (u9 hk g b o (i8 a7 b1 k1 m1) c3) hw ej;have c0:=m (pZ CB CC CL CS CF CT) d.c (Cc e2 g b F p kh U j2) hh dp;have dn:=m (wY CB CC CL CS CF CT) d.c (B8 hp g b q o F p fx a8 c0 c3) ft ev;have fw:=m (w6 CB CC CL CS CF CT) d.c (Cb da g q F p) ei cl;have lx:=m (sT CB CC CL CS CF CT) d.c (xR go g q p fw) cs c7;have p1:=m (sX CB CC CL CS CF CT) d.c (xV hi g b F p nk ea ho) g1 fu;have ms:=m (pX CB CC CL CS CT) d.c (vc bm g b ea ho) h1 ed;have j1:=m (A1 CB CC CL CS CF CT) d.c (Cf c2 g b p U e4 p1 dn lx) g2 fy;have ob:=m (uH CB CC CS CT yQ x9 PP) d.c (B9 a9 ew ko g b F (i8 e0 b2 k2 m2) e4) gn e9;have o2:=m (vT CB CC CS CF CT) d.c (zX fl g b o p fx a8) bq g0;have it:=m (vS CB CC CL CS CF CT) d.c (zV ey g b q p c0 dn fw) e6 gh;have kn:=m (vR CB CC CL CS CF CT) d.c (zU es g b p o2 it) bx hu;have WO:=xC F3 g F gt is pb px ms ob j1 l1 kn U;have V:=D4 (P:=l.prog) (w:=w) (mg:=mg) (base:=base) o7;have N:=Ca n0 (i8 V he hl g8);have M:=xK (P:=l.prog) (w:=w) (mg:=mg) (base:=base) kx;have SB:=u7 ld (i8 N g9 c8 g5);have NI:=ve (P:=l.prog) (w:=w) (mg:=mg) (base:=base) ox;have AT:=Gb (P:=l.prog) (w:=w) (base:=base) mp T;have SH:=zW ka T (i8 V he hl g8) (i8 N g9 c8 g5);have NW:=xI q4 T (i8 M bl bf bd);have HO:=xQ ov T (i8 NI ha e5 ep) (i8 M bl bf bd) (i8 (NW.imp λvs H Q E z=>Iv vs H Q E z) lv i1 nf);have WH:=zS (P:=l.prog) (w:=w) (base:=base) n3 T;have IP:=xO m0 T (i8 WH c6 ex c1);have AP:=tX iv T (i8 IP c9 hy dd);have IL:=xP n8 T (i8 AP fv gk dy) (i8 IP c9 hy dd) (i8 WH c6 ex c1);have q8:=xU (P:=l.prog) (w:=w) (mg:=mg) (base:=base) F6 o;have n1:=Ae F5 gt (i8 q8 b6 k6 m6);have i0:=D7 F7 (i8 a7 b1 k1 m1);have pg:=Ce (P:=l.prog) (w:=w) (mg:=mg) (base:=base) F8;have o8:=Ac (P:=l.prog) (w:=w) (base:=base) F9 o (bj X G ba) (bj X G gp);have i3:=zY (P:=l.prog) (w:=w) (base:=base) p6 o (bj X G ba);have g4:=y sV (Ab F4 (bj X G z1) (i8 o8 b9 k9 m9) (i8 n1 b5 k5 m5) i0 b7 (k7) m7 (pg.mono (by decide)) b8 (k8) m8 (i8 i3 po lq ne)) b4 k4 m4;have nq:=y (Gy K) (AT) h0 hx gd;have kj:=y (vW K) (Af ns (i8 SH o9 lo o0) (i8 SB la ly n4) (i8 AT h0 hx gd)) kk q7 q3;have jn:=y xf (Ch nb T) kw q1 lu;have o1:=y (vU K) (zZ o4 T) p5 le on;have ny:=y mf (rZ ma T (i8 IL n5 oa q6) (i8 (HO.mono (by decide)) ky h4 pp)) h5 j0 pq;have nt:=y kD (AP) fv gk dy;have oi:=y oH (xM mb T (i8 NI ha e5 ep) (i8 M bl bf bd)) na l0 kf;have g3:=y (oB PP) (WO) b3 k3 m3;exact D6 nj T nq kj jn o1 ny nt oi g4 g3
theorem walk {l:W.OpenLaw}{q:Program}{loose:List Str}{XP:(Str->Option Value)->Heap->Prop}{YP:World->Heap->Prop}{d:DefRec}{K:Params->W.Frag}{PP:Addr}(hn:l.most=some 63)(hdf:d.params.defaults=[])(hY:∀(w:World) (h:Heap),YP w h->(K w.params).In h)(hY2:∀(w:World) (h:Heap),YP w h->h.get? PP=some (W.tabObj #[]))(hKP:∀w:World,(K w.params).lookup PP=none)(F:∀(w:World) (mg:Str->Option Value) (fa:Addr) (h:Heap),(K w.params).In h->h.Ns mainGlobals mg->mg d.name=some (.ref fa)->∃(fd:FuncData) (cP:Addr),W.codeHdIn (K w.params) cP PP=true/\(∀(s:Shared) (u:Value),BindsTo s fd ⟨[u],[]⟩ [("_law_script",u)])/\∀base:Heap,(K w.params).In base->base.Ns mainGlobals mg->tw mg base->fi l.prog w (K w.params) mg base fB 10 fa fd ["_law_script"] (xa (K w.params) PP)):W.WalkO q loose XP YP l.row.toRowW d [] (λf vs=>PySem.call f vs):=
 yK (n:=63) (k:=10) (x:="_law_script") (sp:=λw=>xa (K w.params) PP) hn (by decide) hdf ⟨rfl,by decide,by decide⟩ hY hY2 hKP F λ_ _ a ns hl hS hP=>⟨a,ns,rfl,hS,hl,.inl hP,λ_=>rfl⟩
end FB
open PySem PySem.W PyProof.Rows
set_option maxRecDepth 100000 in
set_option maxHeartbeats 0 in
theorem PySem.Challenge.cw_fitboard_k10_whole_what_is_not_picked_holds : PySem.Challenge.rw_fitboard_k10_whole_what_is_not_picked.Holds := by
 w_on;o_law;k_head;(case hw=>w_witness2)
 k_fill
 refine FB.walk (l:=PySem.Challenge.rw_fitboard_k10_whole_what_is_not_picked) rfl rfl (λw h Y=>W.km_in_of Y) (λw h Y=>W.km_tabs_of Y _ (List.Mem.head _)) (λw=>by kernel_rfl) ?F
 case F=>
  intro w mg fa h KX G hmg;refine' FB.all_mk KX G hmg ⟨?_,?_,?_,?_,?_,?_,?_⟩ ?_ ?_ ⟨?_,?_,?_,?_,?_,?_,?_⟩ ?_ ?_ ?_ ?_ ?_ ?_ ?_ ⟨?_,?_,?_,?_,?_,?_,?_⟩ ?_ ?_ ?_ ?_ ?_ ⟨?_,?_,?_,?_,?_,?_,?_⟩ ?_ ?_ ?_ ⟨?_,?_,?_,?_,?_,?_,?_⟩ ?_ ?_ ?_ ⟨?_,?_,?_,?_,?_,?_,?_⟩ ?_ ?_ ?_ (.mk ?_ ?_ ?_ ?_) (.mk ?_ ?_ ?_ ?_) (.mk ?_ ?_ ?_ ?_) (.mk ?_ ?_ ?_ ?_) (.mk ?_ ?_ ?_ ?_) (.mk ?_ ?_ ?_ ?_) (.mk ?_ ?_ ?_ ?_) (.mk ?_ ?_ ?_ ?_) (.mk ?_ ?_ ?_ ?_) (.mk ?_ ?_ ?_ ?_) (.mk ?_ ?_ ?_ ?_) (.mk ?_ ?_ ?_ ?_) (.mk ?_ ?_ ?_ ?_) (.mk ?_ ?_ ?_ ?_) (.mk ?_ ?_ ?_ ?_) (.mk ?_ ?_ ?_ ?_) (.mk ?_ ?_ ?_ ?_) (.mk ?_ ?_ ?_ ?_) (.mk ?_ ?_ ?_ ?_) (.mk ?_ ?_ ?_ ?_) (.mk ?_ ?_ ?_ ?_) (.mk ?_ ?_ ?_ ?_) (.mk ?_ ?_ ?_ ?_) (.mk ?_ ?_ ?_ ?_) (.mk ?_ ?_ ?_ ?_) (.mk ?_ ?_ ?_ ?_) (.mk ?_ ?_ ?_ ?_) (.mk ?_ ?_ ?_ ?_) (.mk ?_ ?_ ?_ ?_ ?_) (.mk ?_ ?_ ?_ ?_ ?_) (.mk ?_ ?_ ?_ ?_ ?_) (.mk ?_ ?_ ?_ ?_ ?_) (.mk ?_ ?_ ?_ ?_ ?_) (.mk ?_ ?_ ?_ ?_ ?_) (.mk ?_ ?_ ?_ ?_ ?_) (.mk ?_ ?_ ?_ ?_ ?_) (.mk ?_ ?_ ?_ ?_ ?_) (.mk ?_ ?_ ?_ ?_ ?_) (.mk ?_ ?_ ?_ ?_ ?_) (.mk ?_ ?_ ?_ ?_ ?_) (.mk ?_ ?_ ?_ ?_ ?_) (.mk ?_ ?_ ?_ ?_ ?_) (.mk ?_ ?_ ?_ ?_ ?_) (.mk ?_ ?_ ?_ ?_ ?_) (.mk ?_ ?_ ?_ ?_ ?_) (.mk ?_ ?_ ?_ ?_ ?_) (.mk ?_ ?_ ?_ ?_ ?_) (.mk ?_ ?_ ?_ ?_ ?_ ?_) (.mk ?_ ?_ ?_ ?_ ?_) (.mk ?_ ?_ ?_ ?_ ?_) (.mk ?_ ?_ ?_ ?_ ?_) (.mk ?_ ?_ ?_ ?_ ?_) (.mk ?_ ?_ ?_ ?_ ?_) (.mk ?_ ?_ ?_ ?_ ?_) (.mk ?_ ?_ ?_ ?_ ?_) (.mk ?_ ?_ ?_ ?_ ?_) (.mk ?_ ?_ ?_ ?_ ?_) (.mk ?_ ?_ ?_ ?_ ?_) (.mk ?_ ?_ ?_ ?_ ?_) ?_ ?_ ?_ ?_ ?_ ?_ ?_ ?_ ?_ ?_ ?_ ?_ ?_ ?_ ?_ ?_ ?_ ?_ ?_ ?_
  all_goals try first | k_is | k_exc | kernel_rfl
