import PyProof.Rows.All
import Wide.All
import OpenK.AllK
import Wide.FinOn
import PyProof.EqAt
import PyProof.EqKinds
import PyProof.TupleCall
import KE.KMinKey
import KE.KSortTup
import PyProof.EqLayable
import Lean
import PySem.Challenge.RW_fitboard_k09_whole_more_needs
set_option Elab.async false
set_option linter.all false
set_option compiler.extract_closed false
set_option genSizeOfSpec false
noncomputable section
set_option maxRecDepth 100000
section
open PySem PySem.Spec PyProof.Rows
abbrev dX:=@Around
abbrev dY:=@Addr
abbrev dZ:=@Value
abbrev d0:=@Shared
abbrev ee:=@Program
abbrev ef:=@List
abbrev eg:=@FuncData
abbrev el:=@Option
abbrev ab:=@List.length_map
abbrev ac:=@wpAny_bind
abbrev ae:=@List.getElem?_map
abbrev af:=@List.getElem?_eq_some_iff
abbrev ai:=@List.mem_of_getElem?
abbrev aj:=@List.mem_singleton
abbrev ak:=@List.getElem?_eq_getElem
abbrev am:=@Nat.le_refl
abbrev ao:=@List.mem_cons
abbrev aq:=@decide_eq_true
abbrev ar:=@wpAny_pure
abbrev au:=@decide_eq_false
abbrev av:=@if_neg
abbrev aw:=@decide_eq_true_eq
abbrev ax:=@Option.map_eq_some_iff
abbrev ay:=@if_pos
abbrev az:=@Heap.get?_push_of_some
abbrev aA:=@List.mem_append
abbrev aB:=@List.mem_iff_getElem?
abbrev aC:=@List.mem_map
abbrev aD:=@List.length_append
abbrev aE:=@List.length_cons
abbrev aF:=@Bool.and_eq_true
abbrev aG:=@List.map_append
abbrev aH:=@List.map_cons
abbrev aI:=@of_decide_eq_true
abbrev aJ:=@List.filter_cons
abbrev aK:=@List.take_length
abbrev aM:=@Heap.get?_push_size
abbrev aN:=@List.size_toArray
abbrev aO:=@List.mem_append_left
abbrev aP:=@List.length_singleton
abbrev aQ:=@List.getElem?_append_left
abbrev aR:=@List.not_mem_nil
abbrev aS:=@List.mem_append_right
abbrev aT:=@Bool.false_ne_true
abbrev aU:=@Heap.lt_size
abbrev aV:=@List.length_take
abbrev aW:=@Nat.ne_of_lt
abbrev aX:=@List.nodup_cons
abbrev aY:=@W.mg_none_of
abbrev aZ:=@List.mem_filter
abbrev bb:=@Nat.lt_of_lt_of_le
abbrev bc:=@List.take_succ
abbrev bg:=@List.lookup_cons
abbrev bh:=@List.getElem?_append_right
abbrev bi:=@List.getD_eq_getElem?_getD
abbrev bj:=@List.mem_cons_of_mem
abbrev bn:=@Heap.get?_none_of_le
abbrev bo:=@List.mem_map_of_mem
abbrev bp:=@PySem.boot_len
abbrev br:=@Nat.zero_le
abbrev bt:=@sizeLine_eq
abbrev bu:=@List.find?_cons
abbrev bw:=@Array.length_toList
abbrev bz:=@Nat.le_trans
abbrev bA:=@Int.toNat_natCast
abbrev bB:=@wpAny_holding
abbrev bC:=@List.mem_cons_self
abbrev bD:=@List.length_filter_le
abbrev bE:=@PySem.mem_of_lookup
abbrev bF:=@List.idxOf_lt_length_iff
abbrev bH:=@wpAny_Call_Name_kw
abbrev bI:=@Array.getElem?_toList
abbrev bJ:=@Bool.eq_false_iff
abbrev bK:=@Nat.lt_of_le_of_lt
abbrev bL:=@wpAny_dictEpoch
abbrev bM:=@Nat.two_pow_pos
abbrev bN:=@List.nodup_append
abbrev bO:=@List.length_eq_zero_iff
abbrev bP:=@List.append_assoc
abbrev bQ:=@Bool.not_eq_true'
abbrev bR:=@List.filter_append
abbrev bS:=@boot_isinstance
abbrev bT:=@List.nodup_nil
abbrev bU:=@wpAny_truthy_bool
abbrev bV:=@wpAny_mono
abbrev bW:=@Nat.sub_self
abbrev bX:=@Bool.false_and
abbrev bY:=@List.append_nil
abbrev bZ:=@List.all_eq_true
abbrev b0:=@List.mem_of_find?_eq_some
abbrev ca:=@Nat.not_lt_zero
abbrev cb:=@wpAny_rule
abbrev cc:=@List.getElem?_take
abbrev ce:=@Bool.false_eq_true
abbrev cf:=@wpAny_call_entry
abbrev cg:=@List.getElem?_inj
abbrev ci:=@List.length_reverse
abbrev cj:=@Array.getD_eq_getD_getElem?
abbrev ck:=@List.mem_reverse
abbrev cm:=@List.getElem_idxOf
abbrev cq:=@Bool.true_and
abbrev cr:=@Array.getElem?_eq_getElem
abbrev cu:=@List.pairwise_map
abbrev cw:=@Bool.or_eq_true
abbrev cA:=@Nat.le_of_lt
abbrev cB:=@Nat.le_of_eq
abbrev cC:=@List.map_map
abbrev cD:=@Nat.testBit_two_pow_mul
abbrev cE:=@Nat.lt_irrefl
abbrev cF:=@List.reverse_append
abbrev cG:=@List.map_take
abbrev cH:=@wpAny_typeNameOfWhole_keyiter
abbrev cJ:=@Int.emod_lt_of_pos
abbrev cK:=@wpAny_passesOwn
abbrev cM:=@wpAny_notOrdered_dict
abbrev cN:=@Nat.pow_succ
abbrev cO:=@Nat.lt_or_ge
abbrev cQ:=@List.map_nil
abbrev cR:=@List.length_nil
abbrev cS:=@Heap.get?_update_self
abbrev cT:=@Bool.eq_iff_iff
abbrev cU:=@wpAny_dictEntries
abbrev cV:=@List.reverse_cons
abbrev cW:=@Heap.get?_push_ne
abbrev cX:=@List.reverse_reverse
abbrev cY:=@wpAny_tryCatch
abbrev cZ:=@boot_list
abbrev db:=@List.take_zero
abbrev de:=@List.getElem?_zip_eq_some
abbrev df:=@List.drop_eq_getElem_cons
abbrev dg:=@wpAny_forIn_list
abbrev dh:=@Nat.lt_succ_self
abbrev di:=@Nat.le_add_right
abbrev dj:=@List.cons_append
abbrev dk:=@wpAny_typeNameOf_keyiter
abbrev dm:=@wpAny_ite_split
abbrev dq:=@wpAny_callSpecial?_slot
abbrev dr:=@tupleKind_room_in1
abbrev dt:=@plainId_quiet
abbrev du:=@W.kia_one
abbrev dw:=@Int.emod_nonneg
abbrev dz:=@wpAny_Call_method
abbrev dA:=@Nat.lt_succ_of_lt
abbrev dB:=@Nat.le_succ
abbrev dC:=@List.getElem?_eq_none
abbrev dD:=@List.any_eq_true
abbrev dE:=@Heap.size_update
abbrev dF:=@Nat.mul_le_mul_right
abbrev dG:=@List.mem_of_mem_take
abbrev dH:=@codeAny_builtin
abbrev dJ:=@List.nil_append
abbrev dL:=@Nat.eq_zero_or_pos
abbrev dM:=@Nat.add_sub_cancel
abbrev dO:=@List.find?_eq_none
abbrev dP:=@wpAny_seqItems
abbrev dQ:=@Heap.size_push
abbrev dR:=@wpAny_newObj_type
abbrev dU:=@Option.isSome_iff_exists
abbrev dW:=@List.take_sublist
end
namespace Lake
open PySem PySem.Spec PyProof.Rows
variable {A:dX}{C a b dx:dY}{CX:u4}{D:mN}{E Q:dZ->d0->Prop}{H H':Hp}{K:W.Frag}{M:Model}{P:ee}{X:Cx}{body:ef Stmt}{ch fp:ef dY}{e tg:Expr}{es:ef Expr}{fd:eg}{g:TG}{h h':Heap}{i j t':Nat}{kw:ef (Str×dZ)}{m x:Str}{mA mg:Str->el dZ}{o:HO}{op:CmpOp}{p pos pos':Pos}{pins:ef (dY×Obj)}{pl:Sem Bool}{ps:ef Str}{r:R2}{s s':d0}{sp:Sp}{t ta te:TE}{tb:TS}{us:ef dZ}{v y:V}{vs xs:ef V}{w:World}{σ:St}
abbrev gM:=Sum Int Str
noncomputable def rc:gM->dZ->Bool
 |.inl k,v=>Value.isInt k v
 |.inr x,v=>Value.isStrOf x v
noncomputable def Jr (w:World):gM->Int
 |.inl k=>hashInt k
 |.inr x=>hashStr w x
def gZ:∀{k:gM} {v:dZ},rc k v=true->(∃i t,k=Sum.inl i/\v=Value.int i t)\/(∃x t,k=Sum.inr x/\v=Value.str x t)
 |.inl i,v,h=>by obtain⟨t,e⟩:=Value.isInt_shape (k:=i) (v:=v) h;exact .inl ⟨i,t,rfl,e⟩
 |.inr x,v,h=>by obtain⟨t,e⟩:=Value.isStrOf_shape (x:=x) (v:=v) h;exact .inr ⟨x,t,rfl,e⟩
def yT (i:Int)(t:Tok):rc (.inl i) (.int i t)=true:=by simp[rc,Value.isInt]
def yS (x:Str)(t:Tok):rc (.inr x) (.str x t)=true:=by simp[rc,Value.isStrOf]
def E4 (a b:Int):decide ((Sum.inl a:gM)=Sum.inl b)=(a == b):=by by_cases e:a=b;subst e;simp;have h:¬(Sum.inl a:gM)=Sum.inl b:=λq=>e (Sum.inl.inj q);rw[au h];exact(beq_eq_false_iff_ne.mpr e).symm
def E1 (a b:Str):decide ((Sum.inr a:gM)=Sum.inr b)=decide (a=b):=by by_cases e:a=b;subst e;simp;have h:¬(Sum.inr a:gM)=Sum.inr b:=λq=>e (Sum.inr.inj q);rw[au h,au e]
def E3 (a:Int)(b:Str):decide ((Sum.inl a:gM)=Sum.inr b)=false:=au (λq=>nomatch q)
def E2 (a:Str)(b:Int):decide ((Sum.inr a:gM)=Sum.inl b)=false:=au (λq=>nomatch q)
def fq (prog:ee)(w:World):PySem.KeyKind prog w gM where
 is:=rc
 hash:=Jr w
 inj:=λv a b ha hb=>by
  rcases gZ ha with ⟨i,t,rfl,rfl⟩|⟨x,t,rfl,rfl⟩
  rcases gZ hb with ⟨j,u,rfl,e⟩|⟨y,u,rfl,e⟩
  injection e with e1 _;rw[e1]
  exact nomatch e;rcases gZ hb with ⟨j,u,rfl,e⟩|⟨y,u,rfl,e⟩
  exact nomatch e;injection e with e1 _;rw[e1]
 byValue:=λk v h=>by rcases gZ h with ⟨i,t,rfl,rfl⟩|⟨x,t,rfl,rfl⟩ <;> rfl
 pyHash:=λhv h=>by
  rcases gZ hv with ⟨i,t,rfl,rfl⟩|⟨x,t,rfl,rfl⟩
  exact wpAny_pyHash_int h;exact wpAny_pyHash_str h
 eqBool:=λhu hv h=>by
  rcases gZ hu with ⟨i,t,rfl,rfl⟩|⟨x,t,rfl,rfl⟩
  rcases gZ hv with ⟨j,u,rfl,rfl⟩|⟨y,u,rfl,rfl⟩
  rw[E4]at h;exact wpAny_eqBool_int h;rw[E3]at h;exact SeqAt.EqAt.int_str i t y u _ _ _ _ h;rcases gZ hv with ⟨j,u,rfl,rfl⟩|⟨y,u,rfl,rfl⟩
  rw[E2]at h;exact SeqAt.EqAt.str_int x t j u _ _ _ _ h;rw[E1]at h;exact wpAny_eqBool_str h
 «strs»:=λk x t v h=>by
  rcases gZ h with ⟨i,u,rfl,e⟩|⟨y,u,rfl,e⟩
  exact nomatch e;injection e with e1 _
  subst e1;cases v <;> rfl
def uv (prog:ee)(w:World)(i:Int)(t:Tok):(fq prog w).is (.inl i) (.int i t)=true:=yT i t
def uu (prog:ee)(w:World)(x:Str)(t:Tok):(fq prog w).is (.inr x) (.str x t)=true:=yS x t
inductive V where
 |non|bl (b:Bool)|int (i:Int)|str (x:Str)|byt (b:Array UInt8)|flt (b:UInt64)|ref (a:dY)|ty (n:String)
 deriving DecidableEq
def fi:V->dZ->Prop
 |.non,u=>u=Value.none
 |.bl b,u=>u=Value.bool b
 |.int i,u=>∃t,u=Value.int i t
 |.str x,u=>∃t,u=Value.str x t
 |.byt b,u=>∃t,u=Value.bytes b t
 |.flt b,u=>∃t,u=Value.float b t
 |.ref a,u=>u=Value.ref a
 |.ty n,u=>u=Value.type n
abbrev gj:ef V->ef dZ->Prop:=Paired fi
def gj.length (r:gj xs us):xs.length=us.length:=Paired.length r
theorem gj.get:∀{xs:ef V} {us:ef dZ} {i:Nat} {x:V},gj xs us->xs[i]?=some x->∃u,us[i]?=some u/\fi x u
 |_,_,_,_,.nil,e=>by simp at e
 |_,_,0,_,.cons r _,e=>by simp at e;subst e;exact⟨_,rfl,r⟩
 |_,_,i+1,x,.cons _ t,e=>by obtain⟨u,h1,h2⟩:=gj.get (i:=i) (x:=x) t (by simpa using e);exact⟨u,by simpa using h1,h2⟩
theorem gj.append:∀{xs ys:ef V} {us ws:ef dZ},gj xs us->gj ys ws->gj (xs++ys) (us++ws)
 |_,_,_,_,.nil,s=>s
 |_,_,_,_,.cons r t,s=>.cons r (gj.append t s)
theorem gj.take:∀{xs:ef V} {us:ef dZ} (n:Nat),gj xs us->gj (xs.take n) (us.take n)
 |_,_,0,_=>.nil
 |_,_,_+1,.nil=>.nil
 |_,_,n+1,.cons r t=>.cons r (gj.take n t)
theorem gj.drop:∀{xs:ef V} {us:ef dZ} (n:Nat),gj xs us->gj (xs.drop n) (us.drop n)
 |_,_,0,r=>r
 |_,_,_+1,.nil=>.nil
 |_,_,n+1,.cons _ t=>gj.drop n t
def jG:el V->el dZ->Prop
 |some v,some u=>fi v u
 |none,none=>True
 |_,_=>False
def KV {κ:Type}:ef (κ×V)->ef (κ×dZ)->Prop:=Paired λ(p:κ×V) (q:κ×dZ)=>p.1=q.1/\fi p.2 q.2
noncomputable def kV:gM->V
 |.inl i=>.int i
 |.inr x=>.str x
inductive HO where
  |lst (xs:ef V)
  |tup (xs:ef V)
  |dK (kvs:ef (gM×V))|dT (kvs:ef (ef gM×V))|dN (kvs:ef (el (ef gM)×V))
  |set (S:Int->Bool) (n:Nat)
  |ins (C dx:dY) (fs:ef (Str×V))
  |own (x:dY)
  |xd (fs:ef (Str×V))
  |met (f x:dY)
  |rng (lo hi:Int)
  |frz (o:Obj) (u:HO)
  |tbl (ps:Array dZ)
  |ext (φ:Heap->Prop)
abbrev Hp:=dY->el HO
abbrev gi:=el (ef gM)
def wI (H:Hp):gi->dZ->Prop
 |none,u=>u=.none
 |some ks,u=>∃b,u=.ref b/\H b=some (.tup (ks.map kV))
def mj (P:ee)(w:World):gi->Int
 |none=>W.hashW w.params .none
 |some ks=>(tupleKind (fq P w)).hash ks
def uI (P:ee)(w:World)(x:gi×dZ×dZ):DictEntry:=⟨mj P w x.1,x.2.1,x.2.2⟩
abbrev BQ (H:Hp):ef (gi×V)->ef (gi×dZ×dZ)->Prop:=Paired λp q=>p.1=q.1/\wI H p.1 q.2.1/\fi p.2 q.2.2
noncomputable def upd (H:Hp)(a:dY)(o:HO):Hp:=λb=>if b=a then some o else H b
def er:upd H a o a=some o:=by unfold upd;rw[ay rfl]
def eB (h:b≠a):upd H a o b=H b:=by unfold upd;rw[av h]
def jo {u:HO}:upd (upd H a o) a u=upd H a u:=by funext b;unfold upd;split <;> rfl
def fF {u:HO}(h:H a=some o)(h':H b=some u)(d:o≠u):a≠b:=by intro e;subst e;rw[h]at h';exact d (Option.some.inj h')
def eG (h:H a=some o)(h':H b=none):a≠b:=by intro e;subst e;rw[h]at h';cases h'
section
variable (P:ee)(w:World)
def gf (H:Hp)(h:Heap)(a:dY):HO->Prop
 |.lst xs=>xs.length<=sizeLine/\∃(its:ef dZ) (n:Nat),gj xs its/\h.get? a=some {cls:=.type "list",data:=.seq its.toArray n}
 |.tup xs=>xs.length<=sizeLine/\∃its:ef dZ,gj xs its/\IsTup h a its.toArray
 |.dK kvs=>kvs.length<=sizeLine/\(a == sysModules)=false/\∃vs,KV kvs vs/\h.DictOf (fq P w) a vs
 |.dT kvs=>kvs.length<=sizeLine/\(a == sysModules)=false/\∃xs:ef (ef gM×dY×dZ),
   Paired (λ(p:ef gM×V) (q:ef gM×dY×dZ)=>p.1=q.1/\H q.2.1=some (.tup (p.1.map kV))/\fi p.2 q.2.2) kvs xs/\
   ∃o es ep,h.get? a=some o/\o.ExactDict/\o.data=.dict es ep/\es.toList=xs.map (entryOfKey (tupleKind (fq P w)))/\(xs.map (·.1)).Nodup
 |.dN kvs=>kvs.length<=sizeLine/\(a == sysModules)=false/\∃xs,BQ H kvs xs/\∃o es ep,h.get? a=some o/\o.ExactDict/\o.data=.dict es ep/\es.toList=xs.map (uI P w)/\(xs.map (·.1)).Nodup
 |.set S n=>h.SetOf (intKind P w) a S n
 |.ins C dx fs=>H dx=some (.own a)/\fs.length<=1000/\dx≠a/\h.get? a=some (W.instObj C dx)/\
   ∃mA,h.Ns1 dx mA/\(∀f,jG (fs.lookup f) (mA f))/\PySem.Within mA (fs.map (·.1))
 |.own _=>∃o,h.get? a=some o
 |.xd fs=>∃mA,h.Ns1 a mA/\∀f,jG (fs.lookup f) (mA f)
 |.rng lo hi=>∃t u v,h.get? a=some {cls:=.type "range",data:=.fields #[.int lo t,.int hi u,.int 1 v]}
 |.frz o u=>h.get? a=some o/\gf H h a u
 |.tbl ps=>h.get? a=some {cls:=.none,data:=.fields ps}
 |.met f x=>h.get? a=some (W.methodObj (.ref f) (.ref x))
 |.ext φ=>φ h/\(∃o,h.get? a=some o)/\∀h1 h2:Heap,φ h1->(∀o,h1.get? a=some o->h2.get? a=some o)->φ h2
def lZ (H:Hp)(h:Heap):Prop:=∀a o,H a=some o->gf P w H h a o
end
def gf.lt (x:gf P w H h a o):a<h.objs.size:=by cases o with|lst xs=>obtain⟨_,_,_,_,e⟩:=x;exact aU e|tup xs=>obtain⟨_,_,_,p⟩:=x;exact p.lt|dK kvs=>obtain⟨_,_,_,_,o,_,_,e,_⟩:=x;exact aU e|dT kvs=>obtain⟨_,_,_,_,o,_,_,e,_⟩:=x;exact aU e|dN kvs=>obtain⟨_,_,_,_,o,_,_,e,_⟩:=x;exact aU e|set S n=>obtain⟨o,_,_,_,e,_⟩:=x;exact aU e|ins C dx fs=>obtain⟨_,_,_,e,_⟩:=x;exact aU e|own y=>obtain⟨_,e⟩:=x;exact aU e|xd fs=>obtain⟨_,⟨_,_,_,e,_⟩,_⟩:=x;exact aU e|rng lo hi=>obtain⟨_,_,_,e⟩:=x;exact aU e|frz ob u=>obtain⟨e,_⟩:=x;exact aU e|tbl ps=>exact aU (show h.get? a=some _ from x)|met f y=>exact aU (show h.get? a=some _ from x)|ext φ=>obtain⟨_,⟨_,e⟩,_⟩:=x;exact aU e
theorem Paired.KG {α β:Type}{F G:α->β->Prop}:∀{l₁:ef α} {l₂:ef β},Paired F l₁ l₂->(∀a b,F a b->G a b)->Paired G l₁ l₂
 |_,_,.nil,_=>.nil
 |_,_,.cons r t,f=>.cons (f _ _ r) (Paired.KG t f)
def gf.KH (x:gf P w H h a o)(k:∀b u,(b=a\/H b=some (.own a))->h.get? b=some u->h'.get? b=some u)(E:∀b,H b=some (.own a)->H' b=some (.own a))(A:∀b xs,H b=some (.tup xs)->H' b=some (.tup xs)):gf P w H' h' a o:=by
 induction o with
 |lst xs=>obtain⟨z,l,n,r,e⟩:=x;exact⟨z,l,n,r,k _ _ (.inl rfl) e⟩
 |tup xs=>obtain⟨z,l,r,g,e,c⟩:=x;exact⟨z,l,r,g,k _ _ (.inl rfl) e,c⟩
 |dK kvs=>obtain⟨z,y,G,r,g,i,j,e,c⟩:=x;exact⟨z,y,G,r,g,i,j,k _ _ (.inl rfl) e,c⟩
 |dT kvs=>obtain⟨z,y,xs,r,g,i,j,e,c⟩:=x;exact⟨z,y,xs,Paired.KG r λp q z=>⟨z.1,A _ _ z.2.1,z.2.2⟩,g,i,j,k _ _ (.inl rfl) e,c⟩
 |dN kvs=>obtain⟨z,y,xs,r,g,i,j,e,c⟩:=x;refine⟨z,y,xs,Paired.KG r λp q z=>⟨z.1,?_,z.2.2⟩,g,i,j,k _ _ (.inl rfl) e,c⟩;obtain⟨D,L⟩:=p;cases D with|none=>exact z.2.1|some ks=>obtain⟨b,F,I⟩:=z.2.1;exact⟨b,F,A _ _ I⟩
 |set S n=>obtain⟨g,i,j,t,e,c⟩:=x;exact⟨g,i,j,t,k _ _ (.inl rfl) e,c⟩
 |ins C dx fs=>obtain⟨d,z,J,e,m,⟨s,i,j,K,c⟩,r⟩:=x;exact⟨E _ d,z,J,k _ _ (.inl rfl) e,m,⟨s,i,j,k _ _ (.inr d) K,c⟩,r⟩
 |own y=>obtain⟨g,e⟩:=x;exact⟨g,k _ _ (.inl rfl) e⟩
 |xd fs=>obtain⟨m,⟨s,i,j,e,c⟩,r⟩:=x;exact⟨m,⟨s,i,j,k _ _ (.inl rfl) e,c⟩,r⟩
 |rng lo hi=>obtain⟨t,u,v,e⟩:=x;exact⟨t,u,v,k _ _ (.inl rfl) e⟩
 |frz g u ih=>obtain⟨e,q⟩:=x;exact⟨k _ _ (.inl rfl) e,ih q⟩
 |tbl ps=>have e:h.get? a=some {cls:=.none,data:=.fields ps}:=x;show h'.get? a=some {cls:=.none,data:=.fields ps};exact k a _ (.inl rfl) e
 |met f y=>have e:h.get? a=some (W.methodObj (.ref f) (.ref y)):=x;show h'.get? a=some (W.methodObj (.ref f) (.ref y));exact k a _ (.inl rfl) e
 |ext φ=>obtain⟨p,⟨o,e⟩,B⟩:=x;exact⟨B _ _ p λo q=>k _ _ (.inl rfl) q,⟨o,k _ _ (.inl rfl) e⟩,B⟩
def lZ.lt (x:lZ P w H h)(e:H a=some o):a<h.objs.size:=(x a o e).lt
def lZ.fresh (x:lZ P w H h)(e:h.objs.size<=a):H a=none:=by cases q:H a with|none=>rfl|some u=>exact absurd (bb (x.lt q) e) (cE _)
def lZ.kept (x:lZ P w H h)(k:∀b u,h.get? b=some u->h'.get? b=some u):lZ P w H h':=λa o e=>
 (x a o e).KH (λb u _ q=>k b u q) (λ_ q=>q) λ_ _ q=>q
def lZ.laid (x:lZ P w H h)(k:∀b u,h.get? b=some u->h'.get? b=some u)(hp:h.objs.size<=a)(new:gf P w (upd H a o) h' a o):lZ P w (upd H a o) h':=λb u e=>by
 have hn:=x.fresh hp;by_cases hb:b=a;subst hb;rw[er]at e;cases e;exact new;rw[eB hb]at e;exact(x b u e).KH (λc v _ q=>k c v q) (λc q=>by rw[eB (eG q hn)];exact q) λc xs q=>by rw[eB (eG q hn)];exact q
def Rd (H:Hp)(a:dY)(u:HO):Prop:=H a=some u\/∃o,H a=some (.frz o u)
def Rd.ok {u:HO}(r:Rd H a u)(x:lZ P w H h):gf P w H h a u:=by rcases r with r|⟨o,r⟩;exact x a u r;obtain⟨_,q⟩:=x a _ r;exact q
def HF:el HO->Prop
 |some (.lst _)=>True
 |some (.dK _)=>True
 |some (.dT _)=>True
 |some (.dN _)=>True
 |some (.set _ _)=>True
 |some (.ins _ _ _)=>True
 |some (.ext _)=>True
 |_=>False
section
variable {x e:dY}{o':HO}
def lZ.write (ok:lZ P w H h)(a:HF (H x))(g:e=x\/H e=some (.own x))(k:∀b u,b≠e->h.get? b=some u->h'.get? b=some u)(d:∃u,h'.get? e=some u)(new:gf P w (upd H x o') h' x o'):lZ P w (upd H x o') h':=λb u q=>by
 have nown:∀c y,H c=some (.own y)->c≠x:=λc y r z=>by subst z;rw[r]at a;exact a
 have ntup:∀c xs,H c=some (.tup xs)->c≠x:=λc xs r z=>by subst z;rw[r]at a;exact a
 by_cases hb:b=x;subst hb;rw[er]at q;cases q;exact new;rw[eB hb]at q;by_cases hbe:b=e;have q':H b=some (.own x):=by rcases g with z|z;exact absurd (hbe.trans z) hb;rw[hbe];exact z
 rw[q]at q';cases q';obtain⟨v,i⟩:=d;exact⟨v,by rw[hbe];exact i⟩;refine(ok b u q).KH (λc v hc r=>k c v ?_ r) (λc r=>by rw[eB (nown c b r)];exact r) λc xs r=>by rw[eB (ntup c xs r)];exact r
 rcases hc with rfl|hc;exact hbe;rintro rfl;rcases g with z|z;exact nown c b hc z;rw[hc]at z;cases z;exact hb rfl
end
structure Un (fs ex:ef dY)(H H':Hp)(h h':Heap):Prop where
 keep:∀b o,h.get? b=some o->H b=none->b∉fs->b∉ex->h'.get? b=some o
 slot:∀b o,h.get? b=some o->H b=none->b∈fs->b∉ex->∃sl,h'.get? b=some {o with slots:=sl}
 free:∀b o,h.get? b=some o->H b=none->b∉ex->H' b=none
 there:∀b o,h.get? b=some o->b∉ex->∃o',h'.get? b=some o'
 tups:∀b xs,H b=some (.tup xs)->H' b=some (.tup xs)
 frzs:∀b o u,H b=some (.frz o u)->H' b=some (.frz o u)
 tbls:∀b ps,H b=some (.tbl ps)->∃more,H' b=some (.tbl (ps++more))
section
variable {fs fs' ex ex':ef dY}{H1 H2:Hp}{h1 h2:Heap}{x e:dY}
def Un.any (u:Un fs ex H H1 h h1){ob:Obj}(q:h.get? b=some ob)(n:H b=none)(a:b∉ex):∃sl,h1.get? b=some {ob with slots:=sl}:=by by_cases hb:b∈fs;exact u.slot b ob q n hb a;exact⟨ob.slots,u.keep b ob q n hb a⟩
def Un.kept (k:∀b u,h.get? b=some u->h'.get? b=some u):Un fs ex H H h h':=
 ⟨λb ob q _ _ _=>k b ob q,λb ob q _ _ _=>⟨ob.slots,k b ob q⟩,λ_ _ _ n _=>n,λb ob q _=>⟨ob,k b ob q⟩,λ_ _ q=>q,λ_ _ _ q=>q,λ_ ps q=>⟨#[],by rw[q];simp⟩⟩
def Un.refl:Un fs ex H H h h:=Un.kept λ_ _ q=>q
def Un.laid (k:∀b u,h.get? b=some u->h'.get? b=some u)(hp:h.objs.size<=a)(hn:H a=none):Un fs ex H (upd H a o) h h' where
 keep:=λb u q _ _ _=>k b u q
 slot:=λb u q _ _ _=>⟨u.slots,k b u q⟩
 free:=λb u q n _=>by rw[eB (aW (bb (aU q) hp))];exact n
 there:=λb u q _=>⟨u,k b u q⟩
 tups:=λb xs q=>by rw[eB (eG q hn)];exact q
 frzs:=λb u xs q=>by rw[eB (eG q hn)];exact q
 tbls:=λb ps q=>⟨#[],by rw[eB (eG q hn),q];simp⟩
def Un.write (a:HF (H x))(m:e=x\/H e=some (.own x))(k:∀b u,b≠e->h.get? b=some u->h'.get? b=some u)(g:∃u,h'.get? e=some u):Un fs ex H (upd H x o) h h':=by
 have j:∀b,H b=none->b≠x:=λb n z=>by subst z;rw[n]at a;exact a
 have i:∀b,H b=none->b≠e:=λb n z=>by subst z;rcases m with r|r;exact j b n r;rw[n]at r;cases r
 have d:∀b u,H b=some u->¬HF (some u)->b≠x:=λb u q l z=>by subst z;rw[q]at a;exact l a
 refine⟨λb u q n _ _=>k b u (i b n) q,λb u q n _ _=>⟨u.slots,k b u (i b n) q⟩,λb u q n _=>by rw[eB (j b n)];exact n,λb u q _=>?_,
  λb p q=>by rw[eB (d b _ q λz=>z)];exact q,λb u p q=>by rw[eB (d b _ q λz=>z)];exact q,λb s q=>⟨#[],by rw[eB (d b _ q λz=>z),q];simp⟩⟩
 by_cases hbe:b=e;subst hbe;exact g;exact⟨u,k b u hbe q⟩
end
noncomputable def Ik (h:Heap)(H:Hp):ef dY:=(List.range h.objs.size).filter λa=>(H a).isSome
def qF (h:Heap)(H:Hp):Heap:=W.hideAll h (Ik h H)
def yW (h:Heap)(H:Hp):(qF h H).objs.size=h.objs.size:=W.hideAll_size _ _
def Bk {o:Obj}(e:h.get? b=some o)(n:H b=none):(qF h H).get? b=some o:=
 W.hideAll_get _ e λhm=>by have q:(H b).isSome=true:=(aZ.mp hm).2;rw[n]at q;simp at q
def C6 {o:Obj}(e:(qF h H).get? b=some o):h.get? b=some o/\H b=none:=by have a:h.get? b=some o:=W.of_hideAll (Ik h H) e;refine⟨a,?_⟩;cases q:H b with|none=>rfl|some x=>have d:b∈Ik h H:=aZ.mpr ⟨List.mem_range.mpr (aU a),by simp[q]⟩;have z:(qF h H).get? b=none:=W.hideAll_none (Ik h H) d;rw[z]at e;cases e
structure Mod (K:W.Frag)(mg:Str->el dZ)(base:Heap):Prop where
 kin:K.In base
 glob:base.Ns mainGlobals mg
 blt:∃mb,base.Ns builtinsNs mb/\∀x:Str,x≠"__name__"->mb x=bootBuiltins x
 nolimit:base.NoLimit
structure Cx where
 prog:ee
 w:World
 K:W.Frag
 mg:Str->el dZ
 base:Heap
 A:dX
 N:ef Str
 s₀:d0
 H₀:Hp
 env:Env
 outer:ef Env
 stack:ef Env
 ex:ef dY
 fn:Str->Bool
 calm:Bool
 pn:ef (dY×Obj)
 xe:dZ->d0->Prop
noncomputable def Bp (l:ef Env):ef dY:=l.filterMap (·.frame)
abbrev Cx.fs (X:Cx):ef dY:=Bp X.outer
def Dv (sc:Scope)(x:Str):Prop:=sc.names.lookup x=some .local\/sc.names.lookup x=some .cell\/sc.names.lookup x=some .free
def HH (sc:Scope)(x:Str):Prop:=sc.names.lookup x=some .local\/sc.names.lookup x=some .cell
def JJ (env:Env)(h:Heap)(m:Str->el dZ)(x:Str)(u:dZ):Prop:=
 (env.kindOf x=some .local/\m x=some u)\/((env.kindOf x=some .cell\/env.kindOf x=some .free)/\∃c,env.cells.lookup x=some c/\h.IsCell c (some u))
structure Cx.Ok (X:Cx):Prop where
 mod:Mod X.K X.mg X.base
 kind:X.env.scope.kind=.function
 glob:X.env.globals=mainGlobals
 blt:X.env.builtins=builtinsNs
 above:X.s₀.heap.objs.size<=X.env.locals
 inj:∀x y c,X.env.cells.lookup x=some c->X.env.cells.lookup y=some c->x=y
 has:∀x,(X.env.kindOf x=some .cell\/X.env.kindOf x=some .free)->∃c,X.env.cells.lookup x=some c
 cab:∀x c,X.fn x=true->X.env.cells.lookup x=some c->X.s₀.heap.objs.size<=c
 hd:X.calm=true->X.A.handled=none
 frames:X.A.frames=some X.stack
 stk:X.stack=X.outer\/(X.stack=X.env::X.outer/\X.env.frame=some X.env.locals)
 exf:∀b∈X.ex,b≠X.env.locals/\∀x c,X.env.cells.lookup x=some c->c≠b
 bs:∀b o,X.base.get? b=some o->X.s₀.heap.get? b=some o/\X.H₀ b=none
 bsz:X.base.objs.size<=X.s₀.heap.objs.size
 noex:∀b o,X.base.get? b=some o->b∉X.ex
 exfs:∀b∈X.ex,b∉X.fs
 funs:X.s₀.heap.FunFrames X.base X.outer
 frf:∀b∈X.fs,X.H₀ b=none
structure eX (X:Cx)(pins:ef (dY×Obj))(σ:ef (el V))(H:Hp)(s:d0):Prop where
 ok:X.Ok
 os:s.os=X.s₀.os
 bare:AllBare s.gens
 base:Un X.fs X.ex X.H₀ H X.s₀.heap s.heap
 loc:∃m,s.heap.Ns X.env.locals m/\∀(i:Nat) (x:Str) (v:V),X.N[i]?=some x->σ[i]?=some (some v)->Dv X.env.scope x->∃u,fi v u/\JJ X.env s.heap m x u
 cell:∀x c,X.env.cells.lookup x=some c->∃v,s.heap.IsCell c v
 free:H X.env.locals=none
 freeC:∀x c,X.env.cells.lookup x=some c->H c=none
 pin:∀p∈X.pn++pins,s.heap.get? p.1=some p.2/\H p.1=none/\p.1≠X.env.locals/\p.1∉X.fs/\∀v,p.2.data≠.cell v
 hok:lZ X.prog X.w H s.heap
 len:σ.length=X.N.length
section
variable {σ:ef (el V)}
def Cx.Ok.KI (ok:X.Ok){o:Obj}(e:X.base.get? b=some o):b∉X.fs:=λhb=>by
 have:=(ok.funs.mem hb).1;rw[e]at this;cases this
def eX.bs (I:eX X pins σ H s):∀b o,X.base.get? b=some o->s.heap.get? b=some o/\H b=none:=λb o e=>
 ⟨I.base.keep b o (I.ok.bs b o e).1 (I.ok.bs b o e).2 (I.ok.KI e) (I.ok.noex b o e),I.base.free b o (I.ok.bs b o e).1 (I.ok.bs b o e).2 (I.ok.noex b o e)⟩
def eX.bk (I:eX X pins σ H s):∀b o,X.base.get? b=some o->s.heap.get? b=some o:=λb o e=>(I.bs b o e).1
def eX.mod (I:eX X pins σ H s):Mod X.K X.mg X.base:=I.ok.mod
def eX.kIn (I:eX X pins σ H s):X.K.In s.heap:=I.ok.mod.kin.keeps I.bk
def eX.nolimit (I:eX X pins σ H s):s.heap.NoLimit:=I.ok.mod.nolimit.keeps I.bk
def eX.lt (I:eX X pins σ H s):X.env.locals<s.heap.objs.size:=(by obtain⟨_,hn,_⟩:=I.loc;exact hn.lt)
def eX.sz (I:eX X pins σ H s):X.s₀.heap.objs.size<=s.heap.objs.size:=bz I.ok.above (cA I.lt)
def eX.KJ (I:eX X pins σ H s)(h:s.heap.objs.size<=a):a∉X.fs:=λhb=>by
 obtain⟨_,o,ho,_⟩:=I.ok.funs.mem hb;exact absurd (bb (aU ho) (bz I.sz h)) (cE _)
def eX.cne (I:eX X pins σ H s):∀x c,X.env.cells.lookup x=some c->c≠X.env.locals:=λx c e z=>by
 obtain⟨v,o,ho,hd⟩:=I.cell x c e;obtain⟨m,⟨o',es,ep,ho',hd',_⟩,_⟩:=I.loc;rw[z,ho']at ho;cases ho;rw[hd']at hd;cases hd
def eX.funs (I:eX X pins σ H s):s.heap.FunFrames X.base X.outer:=by
 have all:∀(l:ef Env),(∀b∈Bp l,b∈X.fs)->X.s₀.heap.FunFrames X.base l->s.heap.FunFrames X.base l:=by intro l;induction l with|nil=>intro _ _;trivial|cons env r ih=>intro h m;obtain⟨t,⟨L,o,a,q,j,i⟩,p⟩:=m;have g:L∈X.fs:=h L (by unfold Bp;rw[List.filterMap_cons,a];exact bC);obtain⟨v,e⟩:=I.base.slot L o j (I.ok.frf L g) g λz=>I.ok.exfs L z g;exact⟨t,⟨L,_,a,q,e,i⟩,ih (λb d=>h b (by unfold Bp;rw[List.filterMap_cons,a];exact bj _ d)) p⟩
 exact all X.outer (λ_ d=>d) I.ok.funs
def eX.stack (I:eX X pins σ H s):s.heap.FunFrames X.base X.stack:=by rcases I.ok.stk with e|⟨e,a⟩;rw[e];exact I.funs;rw[e];obtain⟨m,b,_⟩:=I.loc;refine .cons (by rw[I.ok.kind];decide) a b ?_ I.funs;exact bn (bz I.ok.bsz I.ok.above)
def eX.KK (I:eX X pins σ H s):∀b∈Bp X.stack,b∈X.env.locals::X.fs:=λb hb=>by
 rcases I.ok.stk with e|⟨e,hf⟩;rw[e]at hb;exact bj _ hb;rw[e]at hb;unfold Bp at hb;rw[List.filterMap_cons,hf]at hb;exact hb
def eX.KL (I:eX X pins σ H s):∀b∈Bp X.stack,H b=none:=λb hb=>by
 rcases ao.mp (I.KK b hb) with e|hb;rw[e];exact I.free;obtain⟨_,o,ho,_⟩:=I.ok.funs.mem hb;exact I.base.free b o ho (I.ok.frf b hb) λz=>I.ok.exfs b z hb
def eX.step {g':Array GenState}{d':Drawn}(I:eX X pins σ H s)(j:∀b∈ch,(b∈X.ex\/X.s₀.heap.get? b=none)/\b≠X.env.locals/\(∀x c,X.env.cells.lookup x=some c->c≠b)/\∀p∈X.pn++pins,p.1≠b)(keep:∀b o,b≠X.env.locals->b∉X.fs->b∉ch->s.heap.get? b=some o->H b=none->h'.get? b=some o)(slot:∀b o,b≠X.env.locals->b∈X.fs->b∉ch->s.heap.get? b=some o->H b=none->∃sl,h'.get? b=some {o with slots:=sl})(free:∀b o,b∉ch->s.heap.get? b=some o->H b=none->H' b=none)(there:∀b o,b∉ch->s.heap.get? b=some o->∃o',h'.get? b=some o')(tups:∀b xs,H b=some (.tup xs)->H' b=some (.tup xs))(frzs:∀b o u,H b=some (.frz o u)->H' b=some (.frz o u))(tbls:∀b ps,H b=some (.tbl ps)->∃more,H' b=some (.tbl (ps++more)))(ns:∀m,s.heap.Ns X.env.locals m->h'.Ns X.env.locals m)(F:lZ X.prog X.w H' h')(M:AllBare g'):eX X pins σ H' {s with heap:=h',gens:=g',drawn:=d',toks:=t'}:=by
 have C:∀b o,X.s₀.heap.get? b=some o->b≠X.env.locals:=λb o e=>aW (bb (aU e) I.ok.above);have t:∀b o,X.s₀.heap.get? b=some o->b∉X.ex->b∉ch:=λb o e a A=>by rcases (j b A).1 with z|z;exact a z;rw[e]at z;cases z
 have g:∀x c,X.env.cells.lookup x=some c->∀v,s.heap.IsCell c v->h'.IsCell c v:=λx c e v ⟨o,B,E⟩=>by have h:c∉ch:=λz=>(j c z).2.2.1 x c e rfl;by_cases hc:c∈X.fs;obtain⟨sl,q⟩:=slot c o (I.cne x c e) hc h B (I.freeC x c e);exact⟨_,q,E⟩;exact⟨o,keep c o (I.cne x c e) hc h B (I.freeC x c e),E⟩
 refine⟨I.ok,I.os,M,⟨λb o e n A a=>?_,λb o e n A a=>?_,λb o e n a=>?_,λb o e a=>?_,λb xs e=>tups b xs (I.base.tups b xs e),λb o xs e=>frzs b o xs (I.base.frzs b o xs e),λb ps e=>?_⟩,?_,λx c e=>?_,?_,λx c e=>?_,λp hp=>?_,F,I.len⟩;exact keep b o (C b o e) A (t b o e a) (I.base.keep b o e n A a) (I.base.free b o e n a);obtain⟨sl,y⟩:=I.base.slot b o e n A a;obtain⟨G,D⟩:=slot b _ (C b o e) A (t b o e a) y (I.base.free b o e n a);exact⟨G,D⟩;obtain⟨o',y⟩:=I.base.there b o e a;exact free b o' (t b o e a) y (I.base.free b o e n a);obtain⟨o',y⟩:=I.base.there b o e a;exact there b o' (t b o e a) y;obtain⟨O,y⟩:=I.base.tbls b ps e;obtain⟨L,D⟩:=tbls b _ y;exact⟨O++L,by rw[D,Array.append_assoc]⟩;obtain⟨m,P,N⟩:=I.loc;refine⟨m,ns m P,λi x v y D Q=>?_⟩;obtain⟨u,r,l⟩:=N i x v y D Q;refine⟨u,r,?_⟩;rcases l with l|⟨k,c,e,z⟩;exact .inl l;exact .inr ⟨k,c,e,g x c e _ z⟩;obtain⟨v,z⟩:=I.cell x c e;exact⟨v,g x c e v z⟩;obtain⟨m,⟨o,_,_,B,_⟩,_⟩:=I.loc;exact free _ o (λz=>(j _ z).2.1 rfl) B I.free;obtain⟨v,o,B,E⟩:=I.cell x c e;exact free c o (λz=>(j c z).2.2.1 x c e rfl) B (I.freeC x c e);obtain⟨e,n,J,K,d⟩:=I.pin p hp;have h:p.1∉ch:=λz=>(j p.1 z).2.2.2 p hp rfl;exact⟨keep p.1 p.2 J K h e n,free p.1 p.2 h e n,J,K,d⟩
def eX.un (I:eX X pins σ H s)(u:Un X.fs [] H H' s.heap h')(g:lZ X.prog X.w H' h'):eX X pins σ H' {s with heap:=h',toks:=t'}:=by
 obtain⟨m,⟨o,t,y,j,r⟩,_⟩:=id I.loc;obtain⟨A,q⟩:=u.any j I.free (by simp);exact I.step (g':=s.gens) (d':=s.drawn) (ch:=[]) (λ_ z=>nomatch z) (λb o _ d _ e n=>u.keep b o e n d (by simp)) (λb o _ d _ e n=>u.slot b o e n d (by simp)) (λb o _ e n=>u.free b o e n (by simp)) (λb o _ e=>u.there b o e (by simp)) u.tups u.frzs u.tbls (λx p=>by
  obtain⟨v,i,h,a,l⟩:=p;rw[j]at a;cases a
  exact⟨_,i,h,q,l⟩) g I.bare
def eX.call {g':Array GenState}{d':Drawn}(I:eX X pins σ H s)(u:Un (Bp X.stack) ch H H' s.heap h')(h:lZ X.prog X.w H' h')(y:AllBare g')(g:∀b∈ch,(b∈X.ex\/X.s₀.heap.get? b=none)/\b≠X.env.locals/\(∀x c,X.env.cells.lookup x=some c->c≠b)/\∀p∈X.pn++pins,p.1≠b):eX X pins σ H' {s with heap:=h',gens:=g',drawn:=d',toks:=t'}:=by
 obtain⟨m,⟨o,B,E,q,r⟩,_⟩:=id I.loc;obtain⟨F,j⟩:=u.any q I.free λz=>(g _ z).2.1 rfl;exact I.step (ch:=ch) g (λb o j v a e n=>u.keep b o e n (λz=>(ao.mp (I.KK b z)).elim j v) a) (λb o _ _ a e n=>u.any e n a) (λb o a e n=>u.free b o e n a) (λb o a e=>u.there b o e a) u.tups u.frzs u.tbls (λD A=>by
  obtain⟨C,l,i,d,t⟩:=A;rw[q]at d;cases d
  exact⟨_,l,i,j,t⟩) h y
def eX.turned {it:dY}(I:eX X pins σ H s)(k:∀b o,b≠it->s.heap.get? b=some o->h'.get? b=some o)(w:H it=none)(g:it≠X.env.locals)(B:it∈X.ex\/X.s₀.heap.get? it=none)(i:∀x c,X.env.cells.lookup x=some c->c≠it)(t:∀p∈X.pn++pins,p.1≠it):eX X pins σ H {s with heap:=h',toks:=t'}:=by
 have d:∀b u,H b=some u->b≠it:=λb u e z=>by rw[z,w]at e;cases e
 refine I.step (g':=s.gens) (d':=s.drawn) (ch:=[it]) (λb l=>?_) (λb o _ _ a e _=>k b o (λz=>a (by simp[z])) e) (λb o _ _ a e _=>⟨o.slots,k b o (λz=>a (by simp[z])) e⟩) (λ_ _ _ _ n=>n)
  (λb o a e=>⟨o,k b o (λz=>a (by simp[z])) e⟩) (λ_ _ e=>e) (λ_ _ _ e=>e) (λb C e=>⟨#[],by rw[e];simp⟩) (λm y=>?_) (λb u e=>?_) I.bare
 have e:b=it:=by simpa using l
 subst e;exact⟨B,g,i,t⟩;obtain⟨o,j,A,h,r⟩:=y;exact⟨o,j,A,k _ o (Ne.symm g) h,r⟩;refine(I.hok b u e).KH (λc v a q=>k c v ?_ q) (λ_ q=>q) λ_ _ q=>q;rcases a with z|z;rw[z];exact d b u e;exact d c _ z
def eX.tok (I:eX X pins σ H s)(t:Nat):eX X pins σ H {s with toks:=t}:=I.un (h':=s.heap) (t':=t) Un.refl I.hok
def eX.kept (I:eX X pins σ H s)(k:∀b u,s.heap.get? b=some u->h'.get? b=some u):eX X pins σ H {s with heap:=h',toks:=t'}:=I.un (Un.kept k) (I.hok.kept k)
def eX.laid (I:eX X pins σ H s)(k:∀b u,s.heap.get? b=some u->h'.get? b=some u)(hp:s.heap.objs.size<=a)(new:gf X.prog X.w (upd H a o) h' a o):eX X pins σ (upd H a o) {s with heap:=h',toks:=t'}:=I.un (Un.laid k hp (I.hok.fresh hp)) (I.hok.laid k hp new)
def eX.write {x e:dY}(I:eX X pins σ H s)(mu:HF (H x))(he:e=x\/H e=some (.own x))(k:∀b u,b≠e->s.heap.get? b=some u->h'.get? b=some u)(heo:∃u,h'.get? e=some u)(new:gf X.prog X.w (upd H x o) h' x o):eX X pins σ (upd H x o) {s with heap:=h',toks:=t'}:=I.un (Un.write mu he k heo) (I.hok.write mu he k heo new)
def eX.weak {σ':ef (el V)}(I:eX X pins σ H s)(hl:σ'.length=σ.length)(w:∀(i:Nat) v,σ'[i]?=some (some v)->σ[i]?=some (some v)):eX X pins σ' H s:=
 ⟨I.ok,I.os,I.bare,I.base,(by obtain⟨m,hn,hl'⟩:=I.loc;exact⟨m,hn,λi x v e1 e2 e3=>hl' i x v e1 (w i v e2) e3⟩),I.cell,I.free,I.freeC,I.pin,I.hok,hl.trans I.len⟩
def eX.KM {pins':ef (dY×Obj)}(I:eX X pins σ H s)(h:∀p∈pins',s.heap.get? p.1=some p.2/\H p.1=none/\p.1≠X.env.locals/\p.1∉X.fs/\∀v,p.2.data≠.cell v):eX X pins' σ H s:=
 ⟨I.ok,I.os,I.bare,I.base,I.loc,I.cell,I.free,I.freeC,λp hp=>(aA.mp hp).elim (λz=>I.pin p (aO _ z)) (h p),I.hok,I.len⟩
def ur {N:ef Str}(e:N.Nodup)(a:N[i]?=some x)(b:N[j]?=some x):i=j:=by obtain⟨h,d⟩:=af.mp a;obtain⟨l,g⟩:=af.mp b;exact(List.getElem_inj e).mp (d.trans g.symm)
def qP {u:dZ}{Q:Unit->d0->Prop}(I:eX X pins σ H s)(hN:X.N.Nodup)(S:X.N[i]?=some x)(B:HH X.env.scope x)(r:fi v u)(h:∀s',eX X pins (σ.set i (some v)) H s'->(∃a,Heap.SameBut a s.heap s'.heap/\(a=X.env.locals\/X.env.cells.lookup x=some a))->Q () s')(hf:X.fn x=true\/X.env.scope.names.lookup x=some .local:=by first|exact .inl rfl|exact .inr rfl|assumption):wpAny M A (storeName X.env x u) Q E s:=by
 obtain⟨m,hn,hl⟩:=id I.loc;have R:(X.env.scope.kind == .class||(X.env.scope.kind == .module&&X.env.locals != X.env.globals))=false:=by rw[I.ok.kind];rfl
 have P:i<σ.length:=by rw[I.len];exact(af.mp S).1
 have cne:=I.cne;have l:∀{a:dY} {J:Heap},(∃o,s.heap.get? a=some o/\H a=none)->Heap.SameBut a s.heap J->lZ X.prog X.w H J:=λ{a J} ha g b ob e=>by obtain⟨_,_,C⟩:=ha;refine(I.hok b ob e).KH (λc T hc q=>(g.2 c ?_).trans q) (λ_ q=>q) λ_ _ q=>q;rintro rfl;rcases hc with rfl|hc;rw[C]at e;cases e;rw[C]at hc;cases hc
 rcases B with hk|hk;refine wpAny_storeName_local hk hn (λJ aa g=>?_) R;obtain⟨oL,_,_,ad,_⟩:=id hn;refine h _ ⟨I.ok,I.os,I.bare,⟨λb o e n F B=>?_,λb o e n F B=>?_,I.base.free,λb o e B=>?_,I.base.tups,I.base.frzs,I.base.tbls⟩,⟨_,aa,λj y v' t D e3=>?_⟩,λy c e=>?_,I.free,I.freeC,λp hp=>?_,l ⟨oL,ad,I.free⟩ g,by simpa using I.len⟩ ⟨_,g,.inl rfl⟩;exact(g.2 b (aW (bb (aU e) I.ok.above))).trans (I.base.keep b o e n F B);obtain⟨sl,t⟩:=I.base.slot b o e n F B;exact⟨sl,(g.2 b (aW (bb (aU e) I.ok.above))).trans t⟩;obtain⟨o',t⟩:=I.base.there b o e B;exact⟨o',(g.2 b (aW (bb (aU e) I.ok.above))).trans t⟩;by_cases hj:j=i;subst hj;rw[S]at t;cases t;rw[List.getElem?_set_self P]at D;cases D;exact⟨u,r,.inl ⟨hk,by simp⟩⟩;rw[List.getElem?_set_ne (Ne.symm hj)]at D;obtain⟨u',Z,q⟩:=hl j y v' t D e3;refine⟨u',Z,?_⟩;rcases q with ⟨k,e⟩|⟨k,c,e,z⟩;refine .inl ⟨k,?_⟩;have:y≠x:=λe=>hj (ur hN t (e▸S));simp[this,e];exact .inr ⟨k,c,e,z.sameBut g (cne y c e)⟩;obtain⟨T,z⟩:=I.cell y c e;exact⟨T,z.sameBut g (cne y c e)⟩;obtain⟨e,n,Y,nf,d⟩:=I.pin p hp;exact⟨(g.2 p.1 Y).trans e,n,Y,nf,d⟩;have G:X.fn x=true:=by rcases hf with z|z;exact z;rw[z]at hk;cases hk
 obtain⟨c,hc⟩:=I.ok.has x (.inl hk);obtain⟨T,z⟩:=I.cell x c hc;refine wpAny_storeName_cell I.ok.kind hk hc z (λJ O g=>?_);obtain⟨oc,K,L⟩:=id z;refine h {s with heap:=J} ⟨I.ok,I.os,I.bare,⟨λb o e n F B=>?_,λb o e n F B=>?_,I.base.free,λb o e B=>?_,I.base.tups,I.base.frzs,I.base.tbls⟩,⟨m,hn.sameBut g (Ne.symm (cne x c hc)),λj y v' t D e3=>?_⟩,λy U e=>?_,I.free,I.freeC,λp hp=>?_,l ⟨oc,K,I.freeC x c hc⟩ g,by simpa using I.len⟩ ⟨c,g,.inr hc⟩;exact(g.2 b (aW (bb (aU e) (I.ok.cab x c G hc)))).trans (I.base.keep b o e n F B);obtain⟨sl,t⟩:=I.base.slot b o e n F B;exact⟨sl,(g.2 b (aW (bb (aU e) (I.ok.cab x c G hc)))).trans t⟩;obtain⟨o',t⟩:=I.base.there b o e B;exact⟨o',(g.2 b (aW (bb (aU e) (I.ok.cab x c G hc)))).trans t⟩;by_cases hj:j=i;subst hj;rw[S]at t;cases t;rw[List.getElem?_set_self P]at D;cases D;exact⟨u,r,.inr ⟨.inl hk,c,hc,O⟩⟩;rw[List.getElem?_set_ne (Ne.symm hj)]at D;obtain⟨u',Z,q⟩:=hl j y v' t D e3;refine⟨u',Z,?_⟩;rcases q with q|⟨k,U,e,z'⟩;exact .inl q;refine .inr ⟨k,U,e,z'.sameBut g ?_⟩;rintro rfl;exact hj (ur hN t (I.ok.inj _ _ _ e hc▸S));by_cases hcc:U=c;subst hcc;exact⟨_,O⟩;obtain⟨w2,z2⟩:=I.cell y U e;exact⟨w2,z2.sameBut g hcc⟩;obtain⟨e,n,Y,nf,d⟩:=I.pin p hp;refine⟨(g.2 p.1 ?_).trans e,n,Y,nf,d⟩;intro q;rw[q,K]at e;have q':oc=p.2:=Option.some.inj e;exact d T (by rw[<-q'];exact L)
def pj {u:dZ}{Q:Unit->d0->Prop}(I:eX X pins σ H s)(e:X.N.Nodup)(b:X.N[i]?=some x)(d:HH X.env.scope x)(r:fi v u)(h:∀s',eX X pins (σ.set i (some v)) H s'->Q () s')(hf:autoParam (X.fn x=true\/X.env.scope.names.lookup x=some .local) qP._auto_1):wpAny M A (storeName X.env x u) Q E s:=
 qP I e b d r (λs' a _=>h s' a) hf
def eX.KN (I:eX X pins σ H s)(g:s'.os=s.os)(u:Un (Bp X.stack) ch H H' s.heap s'.heap)(a:lZ X.prog X.w H' s'.heap)(h:AllBare s'.gens)(d:∀b∈ch,(b∈X.ex\/X.s₀.heap.get? b=none)/\b≠X.env.locals/\(∀x c,X.env.cells.lookup x=some c->c≠b)/\∀p∈X.pn++pins,p.1≠b):eX X pins σ H' s':=by obtain⟨j,g',d',t',i⟩:=s';have e:i=s.os:=g;subst e;exact I.call (g':=g') (t':=t') (d':=d') u a h d
end
abbrev XK:=dZ->el dY->Hp->Prop
abbrev St:=ef (el V)
abbrev VK:=V->Hp->Prop
abbrev TE:=St->Hp->VK->Prop
abbrev TT:=St->Hp->(Bool->Hp->Prop)->Prop
abbrev TA:=St->Hp->(ef V->Hp->Prop)->Prop
structure mN where
 nx:St->Hp->Prop
 rt:VK
 bk:St->Hp->Prop:=λ_ _=>False
 ct:St->Hp->Prop:=λ_ _=>False
abbrev TS:=mN->St->Hp->Prop
def EP (X:Cx)(pins:ef (dY×Obj))(σ:St)(Q:VK)(u:dZ)(s':d0):Prop:=∃v H',eX X pins σ H' s'/\fi v u/\Q v H'
def TP (X:Cx)(pins:ef (dY×Obj))(σ:St)(Q:Bool->Hp->Prop)(b:Bool)(s':d0):Prop:=∃H',eX X pins σ H' s'/\Q b H'
def AP (X:Cx)(pins:ef (dY×Obj))(σ:St)(Q:ef V->Hp->Prop)(us:ef dZ)(s':d0):Prop:=∃vs H',eX X pins σ H' s'/\gj vs us/\Q vs H'
def SP (X:Cx)(pins:ef (dY×Obj))(D:mN)(f:Flow)(s':d0):Prop:=
 match f with
 |.next=>∃σ' H',eX X pins σ' H' s'/\D.nx σ' H'
 |.brk=>∃σ' H',eX X pins σ' H' s'/\D.bk σ' H'
 |.cont=>∃σ' H',eX X pins σ' H' s'/\D.ct σ' H'
 |.ret u=>∃v σ' H',eX X pins σ' H' s'/\fi v u/\D.rt v H'
def PE (X:Cx)(e:Expr)(t:TE):Prop:=
 ∀(pins:ef (dY×Obj)) (s:d0) (σ:St) (H:Hp) (Q:VK),eX X pins σ H s->t σ H Q->wpAny (model X.prog X.w) X.A (eval e X.env) (EP X pins σ Q) X.xe s
def PT (X:Cx)(e:Expr)(t:TT):Prop:=
 ∀(pins:ef (dY×Obj)) (s:d0) (σ:St) (H:Hp) (Q:Bool->Hp->Prop),eX X pins σ H s->t σ H Q->wpAny (model X.prog X.w) X.A (isTrue e X.env (eval e X.env)) (TP X pins σ Q) X.xe s
def PW (X:Cx)(e:Expr)(t:TT):Prop:=
 ∀(whole:Sem dZ) (pins:ef (dY×Obj)) (s:d0) (σ:St) (H:Hp) (Q:Bool->Hp->Prop),eX X pins σ H s->t σ H Q->wpAny (model X.prog X.w) X.A (isTrue e X.env whole) (TP X pins σ Q) X.xe s
def PW.pt {t:TT}(h:PW X e t):PT X e t:=h _
def PA (X:Cx)(es:ef Expr)(t:TA):Prop:=
 ∀(pos:Pos) (pins:ef (dY×Obj)) (s:d0) (σ:St) (H:Hp) (Q:ef V->Hp->Prop),eX X pins σ H s->t σ H Q->wpAny (model X.prog X.w) X.A (spliced (backTo pos (starEach es X.env))) (AP X pins σ Q) X.xe s
def PS (X:Cx)(st:Stmt)(t:TS):Prop:=
 ∀(pins:ef (dY×Obj)) (s:d0) (σ:St) (H:Hp) (D:mN),eX X pins σ H s->t D σ H->wpAny (model X.prog X.w) X.A (exec st X.env) (SP X pins D) X.xe s
def ni (X:Cx)(st:ef Stmt)(t:TS):Prop:=
 ∀(pins:ef (dY×Obj)) (s:d0) (σ:St) (H:Hp) (D:mN),eX X pins σ H s->t D σ H->wpAny (model X.prog X.w) X.A (execs st X.env) (SP X pins D) X.xe s
def gm {α:Type}{t:Sem α}{Q Q':α->d0->Prop}(h:wpAny M A t Q E s)(hQ:∀a s,Q a s->Q' a s):wpAny M A t Q' E s:=bV h hQ λ_ _ x=>x
section
inductive HL (i:Nat)(σ:St)(H:Hp)(Q:VK):Prop
 |mk (v:_)(_:σ[i]?=some (some v))(_:Q v H)
def oA (i:Nat):TE:=λσ H Q=>HL i σ H Q
def tC (v:V):TE:=λ_ H Q=>Q v H
def Aq (p:X.N[i]?=some x)(t:Dv X.env.scope x)(hd:(x == ("__debug__":Str))=false:=by decide)(hcd:(x == ("__classdict__":Str))=false:=by decide):PE X (.Name x pos) (oA i):=by intro d s σ H Q I h;obtain⟨v,e,h⟩:=h;obtain⟨m,o,j⟩:=I.loc;obtain⟨u,r,l⟩:=j i x v p e t;have b:EP X d σ Q u s:=⟨v,H,I,r,h⟩;rcases l with ⟨hk,q⟩|⟨hk,c,g,a⟩;exact wpAny_Name (wpAny_loadName_local I.ok.kind hk o q b) hd;rcases hk with hk|hk;exact wpAny_Name (wpAny_loadName_cell I.ok.kind hk g a b) hd;exact wpAny_Name (wpAny_loadName_free I.ok.kind hk g a b hcd) hd
def eF {i j pos}:PE X (.Constant (.int i) j pos) (tC (.int i)):=λ_ _ _ H _ I h=>wpAny_Constant_int ⟨.int i,H,I.tok _,⟨_,rfl⟩,h⟩
def ik {b j pos}:PE X (.Constant (.bool b) j pos) (tC (.bl b)):=λ_ _ _ H _ I h=>Constant_bool ⟨.bl b,H,I,rfl,h⟩
def iJ {j pos}:PE X (.Constant .none j pos) (tC .non):=λ_ _ _ H _ I h=>Constant_none ⟨.non,H,I,rfl,h⟩
def iI {x j pos}:PE X (.Constant (.str x) j pos) (tC (.str x)):=λ_ _ _ H _ I h=>Calls.Constant_str ⟨.str x,H,I.tok _,⟨_,rfl⟩,h⟩
def Gl (X:Cx)(x:Str):Prop:=X.env.kindOf x=some .globalImplicit
def sX {u:dZ}(I:eX X pins σ H s)(a:Gl X x)(b:X.mg x=some u)(h:Q u s)(hd:autoParam ((x == ("__debug__":Str))=false) Aq._auto_1):wpAny (model X.prog X.w) X.A (eval (.Name x pos) X.env) Q E s:=
 Calls.Name_function_global I.ok.kind a (Calls.loadGlobal_global (by rw[I.ok.glob];exact I.mod.glob.keeps I.bk) b h) hd
def jP {u:dZ}(I:eX X pins σ H s)(b:Gl X x)(d:X.mg x=none)(e:bootBuiltins x=some u)(h:Q u s)(hn:autoParam (x≠"__name__") Aq._auto_1)(hd:autoParam ((x == ("__debug__":Str))=false) Aq._auto_1):wpAny (model X.prog X.w) X.A (eval (.Name x pos) X.env) Q E s:=by obtain⟨i,a,g⟩:=I.mod.blt;exact Calls.Name_function_global I.ok.kind b (Calls.loadGlobal_builtin (by rw[I.ok.glob];exact I.mod.glob.keeps I.bk) d (by rw[I.ok.blt];exact a.keeps I.bk) ((g x hn).trans e) h) hd
def wV {u:dZ}(a:Gl X x)(b:X.mg x=some u)(r:fi v u)(hd:autoParam ((x == ("__debug__":Str))=false) Aq._auto_1):PE X (.Name x pos) (tC v):=
 λ_ _ _ H _ I h=>sX I a b ⟨v,H,I,r,h⟩ hd
def CI {u:dZ}(a:Gl X x)(b:X.mg x=none)(d:bootBuiltins x=some u)(r:fi v u)(hn:autoParam (x≠"__name__") Aq._auto_1)(hd:autoParam ((x == ("__debug__":Str))=false) Aq._auto_1):PE X (.Name x pos) (tC v):=
 λ_ _ _ H _ I h=>jP I a b d ⟨v,H,I,r,h⟩ hn hd
variable {a b:Expr}{tb:TE}
def PC (X:Cx)(op:CmpOp)(a b:Expr)(t:TE):Prop:=
 ∀(pins:ef (dY×Obj)) (s:d0) (σ:St) (H:Hp) (Q:VK),eX X pins σ H s->t σ H Q->
  wpAny (model X.prog X.w) X.A (eval a X.env) (λv s₁=>wpAny (model X.prog X.w) X.A (eval b X.env) (λu s₂=>wpAny (model X.prog X.w) X.A (compareOp op v u) (EP X pins σ Q) X.xe s₂) X.xe s₁) X.xe s
def ut (b:Expr)(h:op≠.In)(a:op≠.NotIn):behindInMarks op b=false:=by
 have e:(op == CmpOp.In)=false:=by cases op <;> first|rfl|exact absurd rfl h
 have d:(op == CmpOp.NotIn)=false:=by cases op <;> first|rfl|exact absurd rfl a
 cases b <;> simp[behindInMarks,e,d]
def II (ta:TE):TE:=λσ H Q=>ta σ H λx H1=>Q (.bl (decide (x=.non))) H1
def Gk (ta:TE):TE:=λσ H Q=>ta σ H λx H1=>Q (.bl (!decide (x=.non))) H1
def fi.KO {x:V}{v:dZ}(r:fi x v):(v == Value.none)=decide (x=.non):=by cases x with|non=>cases r;rfl|bl _=>cases r;rfl|int _=>obtain⟨t,rfl⟩:=r;rfl|str _=>obtain⟨t,rfl⟩:=r;rfl|byt _=>obtain⟨t,rfl⟩:=r;rfl|flt _=>obtain⟨t,rfl⟩:=r;rfl|ref _=>cases r;rfl|ty _=>cases r;rfl
def nG {j pos'}(e:PE X a ta):PC X .Is a (.Constant .none j pos') (II ta):=by intro b s σ H Q I h;refine gm (e b s σ H _ I h) ?_;rintro v m ⟨x,d,l,g,i⟩;exact Constant_none (is_none_gen ⟨.bl _,d,l,by rw[g.KO];rfl,i⟩)
def kW {j pos'}(e:PE X a ta):PC X .IsNot a (.Constant .none j pos') (Gk ta):=by intro b s σ H Q I h;refine gm (e b s σ H _ I h) ?_;rintro v m ⟨x,d,l,g,i⟩;exact Constant_none (isnot_none_gen ⟨.bl _,d,l,by rw[g.KO];rfl,i⟩)
inductive Kw (Q:Bool->Hp->Prop)(x:V)(H1:Hp):Prop
 |mk (c:_)(_:x=.bl c)(_:Q c H1)
def tB (t:TE):TT:=λσ H Q=>t σ H λx H1=>Kw Q x H1
def sK (h:PC X op a b t)(h1:behindInMarks op b=false:=by first|exact ut _ (by decide) (by decide)|rfl):PE X (.Compare a [op] [b] pos) t:=λd s σ H Q I e=>wpAny_Compare1 (h d s σ H Q I e) h1
def gN (h:PC X op a b t)(h1:autoParam (behindInMarks op b=false) sK._auto_1):PT X (.Compare a [op] [b] pos) (tB t):=by intro e s σ H Q I g;refine wpAny_isTrue_Compare1 (gm (h e s σ H _ I g) λv p h1=>gm h1 λu w j=>gm j ?_) h1;rintro c r ⟨x,i,m,l,o⟩;obtain⟨d,rfl,q⟩:=o;cases l;exact bU ⟨i,m,q⟩
def gT (h:PE X e t)(he:∀whole,isTrue e X.env whole=(do let v <-whole;standAt e.pos;holding [v] (truthy v)):=by intro _;rfl):PT X e (tB t):=by intro a s σ H Q I b;refine isTrue_plain (gm (h a s σ H _ I b) ?_) (he _);rintro v m ⟨x,g,j,i,l⟩;obtain⟨d,rfl,q⟩:=l;cases i;exact bU ⟨g,j,q⟩
variable {tA tB':TT}{rest:ef Expr}
def IR (t u:TT):TT:=λσ H Q=>t σ H λc H1=>if c=true then u σ H1 Q else Q false H1
def Kb (t u:TT):TT:=λσ H Q=>t σ H λc H1=>if c=true then Q true H1 else u σ H1 Q
def Gm (t:TT):TT:=λσ H Q=>t σ H λc H1=>Q (!c) H1
def jX (d:PT X a tA):PW X (.BoolOp .And [a] pos) tA:=by intro g b s σ H Q I h;refine isTrue_and (gm (d b s σ H Q I h) λc i e=>?_);cases c with|true=>exact isTrue_and_nil e|false=>exact e
def iS (d:PT X a tA):PW X (.BoolOp .Or [a] pos) tA:=by intro g b s σ H Q I h;refine isTrue_or (gm (d b s σ H Q I h) λc i e=>?_);cases c with|false=>exact isTrue_or_nil e|true=>exact e
def lH (j:PT X a tA)(o:PW X (.BoolOp .And (b::rest) pos) tB'):PW X (.BoolOp .And (a::b::rest) pos) (IR tA tB'):=by intro l d s σ H Q I h;refine isTrue_and (gm (j d s σ H _ I h) ?_);rintro c m ⟨e,i,g⟩;cases c with|true=>exact o l d m σ e Q i g|false=>exact⟨e,i,g⟩
def jl (j:PT X a tA)(o:PW X (.BoolOp .Or (b::rest) pos) tB'):PW X (.BoolOp .Or (a::b::rest) pos) (Kb tA tB'):=by intro l d s σ H Q I h;refine isTrue_or (gm (j d s σ H _ I h) ?_);rintro c m ⟨e,i,g⟩;cases c with|true=>exact⟨e,i,g⟩|false=>exact o l d m σ e Q i g
def gX (e:PT X a tA):PT X (.UnaryOp .Not a pos) (Gm tA):=by intro b s σ H Q I h;exact isTrue_not (e b s σ H (λc d=>Q (!c) d) I h)
inductive FL (tb:TE)(σ:St)(Q:VK)(x:V)(H1:Hp):Prop
 |mk (c:_)(_:x=.bl c)(_:if c=true then tb σ H1 Q else Q (.bl false) H1)
def Gx (ta tb:TE):TE:=λσ H Q=>ta σ H λx H1=>FL tb σ Q x H1
inductive FH (Q:VK)(x:V)(H1:Hp):Prop
 |mk (c:_)(_:x=.bl c)(_:Q (.bl (!c)) H1)
def Gj (ta:TE):TE:=λσ H Q=>ta σ H λx H1=>FH Q x H1
def lJ {op}(h:PE X a t):PE X (.BoolOp op [a] pos) t:=λpins s σ H Q I hw=>BoolOp_one (h pins s σ H Q I hw)
def kU (j:PE X a ta)(o:PE X (.BoolOp .And (b::rest) pos) tb):PE X (.BoolOp .And (a::b::rest) pos) (Gx ta tb):=by intro d s σ H Q I h;refine BoolOp_and (gm (j d s σ H _ I h) ?_);rintro v m ⟨x,g,i,l,e⟩;obtain⟨c,rfl,e⟩:=e;cases l;refine bU ?_;cases c with|true=>exact o d m σ g Q i e|false=>exact⟨.bl false,g,i,rfl,e⟩
def vA (g:PE X a ta):PE X (.UnaryOp .Not a pos) (Gj ta):=by intro b s σ H Q I h;refine UnaryOp_ (gm (g b s σ H _ I h) ?_);rintro v l ⟨x,e,j,i,d⟩;obtain⟨c,rfl,d⟩:=d;cases i;exact not_of (bU ⟨.bl (!c),e,j,rfl,d⟩)
def JY (t:TT)(ta tb:TE):TE:=λσ H Q=>t σ H λc H1=>if c=true then ta σ H1 Q else tb σ H1 Q
def At {c:Expr}(p:PT X c tA)(m:PE X a ta)(o:PE X b tb):PE X (.IfExp c a b pos) (JY tA ta tb):=by intro e s σ H Q I h;refine wpAny_IfExp (gm (p e s σ H _ I h) ?_);rintro d j ⟨g,l,i⟩;cases d with|true=>exact m e j σ g Q l i|false=>exact o e j σ g Q l i
end
def ff (K:W.Frag)(H:Hp)(a:dY)(xs:ef V):Prop:=
 Rd H a (.lst xs)\/
  ∃(o:Obj) (its:Array dZ) (n:Nat),K.lookup a=some o/\o.cls=.type "list"/\o.dict=none/\o.data=.seq its n/\its.size<=sizeLine/\gj xs its.toList
def gC (K:W.Frag)(H:Hp)(a:dY)(xs:ef V):Prop:=
 Rd H a (.tup xs)\/
  ∃(o:Obj) (its:Array dZ) (n:Nat),K.lookup a=some o/\o.cls=.type "tuple"/\o.data=.seq its n/\its.size<=sizeLine/\gj xs its.toList
noncomputable def JB:dZ->el V
 |.none=>some .non
 |.bool b=>some (.bl b)
 |.int i _=>some (.int i)
 |.str x _=>some (.str x)
 |.bytes b _=>some (.byt b)
 |.float b _=>some (.flt b)
 |.ref a=>some (.ref a)
 |.type n=>some (.ty n)
 |_=>none
def fi.abs {x:V}{u:dZ}(r:fi x u):JB u=some x:=by cases x with|non=>cases r;rfl|bl _=>cases r;rfl|int _=>obtain⟨t,rfl⟩:=r;rfl|str _=>obtain⟨t,rfl⟩:=r;rfl|byt _=>obtain⟨t,rfl⟩:=r;rfl|flt _=>obtain⟨t,rfl⟩:=r;rfl|ref _=>cases r;rfl|ty _=>cases r;rfl
def fi.inj {x:V}{u:dZ}(r:fi x u)(q:fi y u):x=y:=Option.some.inj (r.abs.symm.trans q.abs)
theorem gj.inj:∀{xs ys:ef V} {us:ef dZ},gj xs us->gj ys us->xs=ys
 |_,_,_,.nil,.nil=>rfl
 |_,_,_,.cons r t,.cons r' t'=>by rw[r.inj r',gj.inj t t']
section
variable {ys:ef V}
def ff.of (h:H a=some (.lst xs)):ff K H a xs:=.inl (.inl h)
def gC.of (h:H a=some (.tup xs)):gC K H a xs:=.inl (.inl h)
theorem eX.list (I:eX X pins σ H s)(h:ff X.K H a xs):∃its:ef dZ,gj xs its/\PlainL s.heap a its.toArray/\xs.length<=sizeLine:=by rcases h with h|⟨o,its,n,d,i,b,g,j,r⟩;obtain⟨z,its,n,r,e⟩:=h.ok I.hok;exact⟨its,r,⟨_,n,e,rfl,rfl,rfl⟩,z⟩;refine⟨its.toList,r,⟨o,n,I.kIn a o d,i,b,by simpa using g⟩,?_⟩;have e:=r.length;simp only[bw]at e;lia
theorem eX.tuple (I:eX X pins σ H s)(h:gC X.K H a xs):∃its:ef dZ,gj xs its/\IsTup s.heap a its.toArray/\xs.length<=sizeLine:=by rcases h with h|⟨o,its,n,b,g,d,i,r⟩;obtain⟨z,its,r,p⟩:=h.ok I.hok;exact⟨its,r,p,z⟩;refine⟨its.toList,r,⟨o,I.kIn a o b,g,n,by simpa using d⟩,?_⟩;have e:=r.length;simp only[bw]at e;lia
def eX.KP (I:eX X pins σ H s)(h:ff X.K H a xs)(h':ff X.K H a ys):xs=ys:=by
 obtain⟨g,r,⟨o,n,e,_,_,d⟩,_⟩:=I.list h;obtain⟨b,l,⟨q,p,j,_,_,i⟩,_⟩:=I.list h';rw[e]at j;cases j;rw[d]at i;injection i with m _
 have:g=b:=by simpa using congrArg Array.toList m
 subst this;exact r.inj l
def eX.KQ (I:eX X pins σ H s)(h:gC X.K H a xs)(h':gC X.K H a ys):xs=ys:=by
 obtain⟨g,r,⟨o,e,_,n,d⟩,_⟩:=I.tuple h;obtain⟨b,l,⟨q,j,_,p,i⟩,_⟩:=I.tuple h';rw[e]at j;cases j;rw[d]at i;injection i with m _
 have:g=b:=by simpa using congrArg Array.toList m
 subst this;exact r.inj l
end
noncomputable abbrev Cx.KR (X:Cx)(E:dZ->d0->Prop):Cx:={X with xe:=E}
abbrev Cx.nox (X:Cx):Cx:=X.KR λ_ _=>False
def Cx.Ok.KR (ok:X.Ok)(E:dZ->d0->Prop):(X.KR E).Ok:=
 ⟨ok.mod,ok.kind,ok.glob,ok.blt,ok.above,ok.inj,ok.has,ok.cab,ok.hd,ok.frames,ok.stk,ok.exf,ok.bs,ok.bsz,ok.noex,ok.exfs,ok.funs,ok.frf⟩
def Cx.Ok.KS (ok:(X.KR E).Ok):X.Ok:=
 ⟨ok.mod,ok.kind,ok.glob,ok.blt,ok.above,ok.inj,ok.has,ok.cab,ok.hd,ok.frames,ok.stk,ok.exf,ok.bs,ok.bsz,ok.noex,ok.exfs,ok.funs,ok.frf⟩
def eX.KR (I:eX X pins σ H s)(E:dZ->d0->Prop):eX (X.KR E) pins σ H s:=⟨I.ok.KR E,I.os,I.bare,I.base,I.loc,I.cell,I.free,I.freeC,I.pin,I.hok,I.len⟩
def eX.KS (I:eX (X.KR E) pins σ H s):eX X pins σ H s:=⟨I.ok.KS,I.os,I.bare,I.base,I.loc,I.cell,I.free,I.freeC,I.pin,I.hok,I.len⟩
def SP.KS {f:Flow}(h:SP (X.KR E) pins D f s'):SP X pins D f s':=by cases f with|next=>obtain⟨σ',a,I,q⟩:=h;exact⟨σ',a,I.KS,q⟩|brk=>obtain⟨σ',a,I,q⟩:=h;exact⟨σ',a,I.KS,q⟩|cont=>obtain⟨σ',a,I,q⟩:=h;exact⟨σ',a,I.KS,q⟩|ret u=>obtain⟨v,σ',a,I,r,q⟩:=h;exact⟨v,σ',a,I.KS,r,q⟩
def ni.nox {st:ef Stmt}{t:TS}(h:ni X.nox st t):ni X st t:=λpins s σ H D I hw=>
 bV (h pins s σ H D (I.KR _) hw) (λ_ _ q=>q.KS) λ_ _ z=>False.elim z
section
variable {st:Stmt}{rest:ef Stmt}{t u:TS}
def Gn:TS:=λD σ H=>D.nx σ H
def IF (t u:TS):TS:=λD σ H=>t {D with nx:=u D} σ H
def eV:ni X [] Gn:=λ_ _ σ H _ I h=>wpAny_execs_nil ⟨σ,H,I,h⟩
def et (d:PS X st t)(b:ni X rest u):ni X (st::rest) (IF t u):=by intro a s σ H D I h;refine wpAny_execs_cons (gm (d a s σ H {D with nx:=u D} I h) λf i q=>?_);cases f with|next=>obtain⟨σ',g,e,q⟩:=q;exact b a i σ' g D e q|ret v=>exact q|brk=>exact q|cont=>exact q
def eE (b:PS X st t):ni X [st] t:=by intro a s σ H D I h;refine wpAny_execs_cons (gm (b a s σ H D I h) λf d q=>?_);cases f with|next=>exact wpAny_execs_nil q|ret v=>exact q|brk=>exact q|cont=>exact q
def Gs:TS:=λD σ H=>D.ct σ H
def uk:PS X (.Continue pos) Gs:=λ_ _ σ H _ I h=>wpAny_Continue ⟨σ,H,I,h⟩
def eX.quiet (I:eX X pins σ H s):interactive X.env=false:=by simp[interactive,I.ok.kind]
def Gp (te:TE):TS:=λD σ H=>te σ H λ_ H1=>D.nx σ H1
def gF (d:PE X e te)(hs:swapsWith e none pos.line X.env=pure false:=by rfl):PS X (.Expr e pos) (Gp te):=by intro a s σ H D I h;exact wpAny_Expr_any (gm (d a s σ H _ I h) (by rintro v l ⟨x,b,i,j,g⟩;exact⟨σ,b,i,g⟩)) I.quiet hs
def IG (te:TE):TS:=λD σ H=>te σ H D.rt
def eU (d:PE X e te):PS X (.Return (some e) pos) (IG te):=by intro a s σ H D I h;exact wpAny_Return_some (gm (d a s σ H _ I h) (by rintro v l ⟨x,b,j,g,i⟩;exact⟨x,σ,b,j,g,i⟩))
def IK (c:TT)(t u:TS):TS:=λD σ H=>c σ H λb H1=>if b=true then t D σ H1 else u D σ H1
def fm {c:Expr}{a b:ef Stmt}{tc:TT}(p:PT X c tc)(m:ni X a t)(o:ni X b u):PS X (.If c a b pos) (IK tc t u):=by intro e s σ H D I h;refine wpAny_If (gm (p e s σ H _ I h) ?_);rintro d j ⟨g,l,i⟩;cases d with|true=>exact m e j σ g D l i|false=>exact o e j σ g D l i
def D7:TS:=λ_ _ _=>False
def fR {sts:ef Stmt}:ni X sts D7:=λ_ _ _ _ _ _ h=>h.elim
end
abbrev TG:=V->St->Hp->(St->Hp->Prop)->Prop
abbrev xR:=ef V->St->Hp->(St->Hp->Prop)->Prop
def PG (X:Cx)(target:Expr)(t:TG):Prop:=
 ∀(pins:ef (dY×Obj)) (s:d0) (σ:St) (H:Hp) (v:V) (u:dZ) (Q:St->Hp->Prop),eX X pins σ H s->fi v u->t v σ H Q->
  wpAny (model X.prog X.w) X.A (assign target X.env u) (λ_ s'=>∃σ' H',eX X pins σ' H' s'/\Q σ' H') X.xe s
def IA (X:Cx)(ts:ef Expr)(t:xR):Prop:=
 ∀(pins:ef (dY×Obj)) (s:d0) (σ:St) (H:Hp) (vs:ef V) (us:ef dZ) (Q:St->Hp->Prop),eX X pins σ H s->gj vs us->t vs σ H Q->
  wpAny (model X.prog X.w) X.A (assignInOrder ((assignEach ts X.env).map (·.2)) us) (λ_ s'=>∃σ' H',eX X pins σ' H' s'/\Q σ' H') X.xe s
abbrev HA:=V->V->Hp->VK->Prop
def HE (X:Cx)(op:Operator)(t:HA):Prop:=
 ∀(pins:ef (dY×Obj)) (s:d0) (σ:St) (H:Hp) (x y:V) (v u:dZ) (Q:VK),eX X pins σ H s->fi x v->fi y u->t x y H Q->
  wpAny (model X.prog X.w) X.A (inplaceOp op v u) (EP X pins σ Q) X.xe s
def jw (i:Nat):TG:=λv σ H Q=>Q (σ.set i (some v)) H
def eR (d:X.N.Nodup)(hi:autoParam (X.N[i]?=some x) gF._auto_1)(hx:HH X.env.scope x:=by first|exact Or.inl rfl|exact Or.inr rfl)(hf:autoParam (X.fn x=true\/X.env.scope.names.lookup x=some .local) qP._auto_1):PG X (.Name x pos) (jw i):=by intro a s σ H v u Q I r h;exact wpAny_assign_Name (pj I d hi hx r (λe b=>⟨_,H,b,h⟩) hf)
def Fc:xR:=λvs σ H Q=>vs=[]/\Q σ H
inductive FT (t:TG)(u:xR)(vs:ef V)(σ:St)(H:Hp)(Q:St->Hp->Prop):Prop
 |mk (v r:_)(_:vs=v::r)(_:t v σ H λσ' H'=>u r σ' H' Q)
def Bn (t:TG)(u:xR):xR:=λvs σ H Q=>FT t u vs σ H Q
def jD:IA X [] Fc:=by intro a s σ H d b Q I r h;obtain⟨e,h⟩:=h;subst e;cases r;exact assignInOrder_nil ⟨σ,H,I,h⟩
def gl {t:TG}{u:xR}(m:PG X e t)(d:IA X es u)(hs:autoParam ((assignEach (e::es) X.env).map (·.2)=assign e X.env::(assignEach es X.env).map (·.2)) gF._auto_1):IA X (e::es) (Bn t u):=by intro a s σ H q p Q I r h;obtain⟨v,o,j,h⟩:=h;subst j;cases r with|cons r rr=>rw[hs];refine assignInOrder_cons (gm (m a s σ H _ _ _ I r h) ?_);rintro _ g ⟨σ1,b,i,l⟩;exact d a g σ1 b _ _ Q i rr l
inductive Ii (K:W.Frag)(n:Nat)(t:xR)(v:V)(σ:St)(H:Hp)(Q:St->Hp->Prop):Prop
 |mk (a xs:_)(_:v=.ref a)(_:gC K H a xs)(_:xs.length=n)(_:t xs σ H Q)
def Hu (K:W.Frag)(n:Nat)(t:xR):TG:=λv σ H Q=>Ii K n t v σ H Q
def kS {k:Nat}{t:xR}{n:Nat}(A:X.calm=true)(h:IA X es t)(hn:autoParam ((assignEach es X.env).length=n) gF._auto_1)(hst:autoParam ((assignEach es X.env).findIdx? (·.1)=none) gF._auto_1):PG X (.Tuple es k pos) (Hu X.K n t):=by intro d s σ H v u Q I r g;obtain⟨a,l,y,x,j,g⟩:=g;subst y;cases r;obtain⟨z,i,m,B⟩:=I.tuple x;refine assign_Tuple_tuple (I.ok.hd A) m (by simp[hn,<-j,i.length]) hst λw q=>?_;have p:eX X d σ H {s with heap:=w}:=I.kept (t':=s.toks) λb o e=>q b o (aW (aU e)) e;exact h d _ σ H l _ Q p (by simpa using i) g
def Gw (te:TE)(g:TG):TS:=λD σ H=>te σ H λx H1=>g x σ H1 D.nx
def Aj (m:PE X e te)(l:PG X tg g)(hs:autoParam (swapsWithSole [tg] e pos.line X.env=pure false) gF._auto_1)(hw:autoParam (swappedStores [tg] e X.env=pure none) gF._auto_1)(h1:autoParam ((assignEach [tg] X.env).map (·.2)=[assign tg X.env]) gF._auto_1):PS X (.Assign [tg] e pos) (Gw te g):=by intro a s σ H D I h;refine wpAny_Assign_stores (gm (m a s σ H _ I h) ?_) hs hw;rintro v i ⟨x,b,j,d,o⟩;rw[h1];exact gm (l a i σ b x v _ j d o) λ_ p q=>q
def eO (o:X.N.Nodup)(g:PE X e te)(hi:autoParam (X.N[i]?=some x) gF._auto_1)(hx:autoParam (HH X.env.scope x) eR._auto_1)(hs:autoParam (swapsWith e (some (.Name x pos')) pos.line X.env=pure false) gF._auto_1)(hf:autoParam (X.fn x=true\/X.env.scope.names.lookup x=some .local) qP._auto_1):PS X (.Assign [.Name x pos'] e pos) (Gw te (jw i)):=by intro a s σ H D I h;refine wpAny_Assign_Name (gm (g a s σ H _ I h) ?_) hs;rintro v q ⟨y,b,m,j,l⟩;exact pj m o hi hx j (λp d=>⟨_,b,d,l⟩) hf
inductive HQ (i:Nat)(te:TE)(ti:HA)(D:mN)(σ:St)(H:Hp):Prop
 |mk (x:_)(_:σ[i]?=some (some x))(_:te σ H λy H1=>ti x y H1 λz H2=>D.nx (σ.set i (some z)) H2)
def IQ (i:Nat)(te:TE)(ti:HA):TS:=λD σ H=>HQ i te ti D σ H
def kP {op:Operator}{ti:HA}(P:X.N.Nodup)(O:PE X e te)(B:HE X op ti)(hi:autoParam (X.N[i]?=some x) gF._auto_1)(hx:autoParam (HH X.env.scope x) eR._auto_1)(hf:autoParam (X.fn x=true\/X.env.scope.names.lookup x=some .local) qP._auto_1):PS X (.AugAssign (.Name x pos') op e pos) (IQ i te ti):=by
 intro a s σ H D I h;obtain⟨v,M,h⟩:=h;obtain⟨m,G,E⟩:=I.loc;have d:Dv X.env.scope x:=by rcases hx with k|k;exact .inl k;exact .inr (.inl k)
 obtain⟨u,r,l⟩:=E i x v hi M d;refine wpAny_AugAssign_Name ?_;have g:wpAny (model X.prog X.w) X.A (eval e X.env) (λw s₂=>wpAny (model X.prog X.w) X.A (inplaceOp op u w) (λr s₃=>wpAny (model X.prog X.w) X.A (storeName X.env x r) (λ_=>SP X a D .next) X.xe s₃) X.xe s₂) X.xe s:=by refine gm (O a s σ H _ I h) ?_;rintro w F ⟨y,C,o,j,q⟩;refine gm (B a F σ C v y u w _ o r j q) ?_;rintro z S ⟨T,L,t,J,R⟩;exact pj t P hi hx J (λU p=>⟨_,L,p,R⟩) hf
 rcases l with ⟨hk,K⟩|⟨hk,c,Q,b⟩;exact wpAny_loadName_local I.ok.kind hk G K g;rcases hk with hk|hk;exact wpAny_loadName_cell I.ok.kind hk Q b g;rcases hx with k|k;have:X.env.scope.names.lookup x=some .free:=hk;rw[k]at this;cases this;have:X.env.scope.names.lookup x=some .free:=hk;rw[k]at this;cases this
inductive JR (f:Int->Int->Int)(x:V)(y:V)(H:Hp)(Q:VK):Prop
 |mk (i j:_)(_:x=.int i)(_:y=.int j)(_:Q (.int (f i j)) H)
def J3 (f:Int->Int->Int):HA:=λx y H Q=>JR f x y H Q
def Bh:HE X .Add (J3 λi j=>i+j):=by intro a s σ H x y v u Q I b d h;obtain⟨i,j,e,g,q⟩:=h;subst e;subst g;obtain⟨t,rfl⟩:=b;obtain⟨l,rfl⟩:=d;exact iadd_int ⟨.int _,H,I.tok _,⟨_,rfl⟩,q⟩
def E7:HE X .Sub (J3 λi j=>i-j):=by intro a s σ H x y v u Q I b d h;obtain⟨i,j,e,g,q⟩:=h;subst e;subst g;obtain⟨t,rfl⟩:=b;obtain⟨l,rfl⟩:=d;exact isub_int ⟨.int _,H,I.tok _,⟨_,rfl⟩,q⟩
def D5 (c:TT)(tb:TS):TS:=λD σ H=>∃W:Nat->St->Hp->Prop,(∃m,W m σ H)/\∀m σ H,W m σ H->
 c σ H λb H1=>if b=true then ∃N:St->Hp->Prop,(∀σ' H',N σ' H'->∃m',m'<m/\W m' σ' H')/\tb {D with nx:=N,ct:=N,bk:=D.nx} σ H1 else D.nx σ H1
def jK {c:Expr}{tc:TT}(hp:PassesOwn (model X.prog X.w) X.A X.env X.xe)(F:PT X c tc)(B:ni X body tb):PS X (.While c body [] pos) (D5 tc tb):=by
 intro a s σ H D I h;obtain⟨W,⟨G,J⟩,e⟩:=h;refine wpAny_While (codeAny_whileLoop (λn z=>∃σ' H',eX X a σ' H' z/\W n σ' H') ?_ G ⟨σ,H,I,J⟩);rintro n K ⟨σ1,r,C,y⟩;refine cK hp (gm (F a K σ1 r _ C (e n σ1 r y)) ?_);rintro b E ⟨t,q,i⟩;cases b with
 |true=>obtain⟨N,x,i⟩:=i;rw[ay rfl];refine cK hp (gm (B a E σ1 t _ q i) λf L g=>?_);cases f with|next=>obtain⟨σ3,d,m,l⟩:=g;obtain⟨o,p,j⟩:=x σ3 d l;exact⟨o,p,σ3,d,m,j⟩|cont=>obtain⟨σ3,d,m,l⟩:=g;obtain⟨o,p,j⟩:=x σ3 d l;exact⟨o,p,σ3,d,m,j⟩|brk=>exact g|ret v=>exact g
 |false=>rw[av aT];exact wpAny_execs_nil ⟨σ1,t,q,i⟩
structure It where
 go:Nat->Hp->Prop
 yld:Nat->Hp->V->Hp->Prop
 stop:Nat->Hp->Prop
def jW (X:Cx)(pins:ef (dY×Obj))(H:Hp)(b:dY):Prop:=
 H b=none/\b≠X.env.locals/\b∉X.fs/\(b∈X.ex\/X.s₀.heap.get? b=none)/\(∀x c,X.env.cells.lookup x=some c->c≠b)/\∀p∈X.pn++pins,p.1≠b
def eX.KU (I:eX X pins σ H s)(a:s.heap.objs.size<=b)(d:H' b=none):jW X pins H' b:=by refine⟨d,Nat.ne_of_gt (bb I.lt a),I.KJ a,.inr (bn (bz I.sz a)),λx c e z=>?_,λp hp z=>?_⟩;obtain⟨v,q⟩:=I.cell x c e;exact absurd (bb q.lt (by rw[z];exact a)) (cE _);exact absurd (bb (aU (I.pin p hp).1) (by rw[z];exact a)) (cE _)
structure qJ (P:ee)(w:World)(K:W.Frag)(tg:Expr)(J:It)(fp:ef dY)(it:dY)(tn:Nat->Heap->Prop):Prop where
 mem:it∈fp
 obj:∀i h,tn i h->∀b∈fp,∃o,h.get? b=some o/\∀v,o.data≠.cell v
 keep:∀i h h',tn i h->(∀b∈fp,∀o,h.get? b=some o->h'.get? b=some o)->tn i h'
 item:∀(X:Cx),X.prog=P->X.w=w->X.K=K->X.calm=true->∀(i:Nat) (pins:ef (dY×Obj)) (s:d0) (σ:St) (H:Hp) (E:dZ->d0->Prop),eX X pins σ H s->(∀b∈fp,jW X pins H b)->tn i s.heap->J.go i H->
  wpAny (model P w) X.A (pyNext (.ref it)) (λr s1=>∃u,r=some u/\wpAny (model P w) X.A (letOwnedTupleGo tg (.ref it) u) (λ_ s2=>∃x H',eX X pins σ H' s2/\fi x u/\J.yld i H x H'/\tn (i+1) s2.heap/\∀b∈fp,H' b=none) E s1) E s
 done:∀(X:Cx),X.prog=P->X.w=w->X.K=K->X.calm=true->∀(i:Nat) (pins:ef (dY×Obj)) (s:d0) (σ:St) (H:Hp) (E:dZ->d0->Prop),eX X pins σ H s->(∀b∈fp,jW X pins H b)->tn i s.heap->J.stop i H->
  wpAny (model P w) X.A (pyNext (.ref it)) (λr s1=>r=none/\eX X pins σ H s1) E s
 self:∀(A:dX) (i:Nat) (s:d0) (Q:dZ->d0->Prop) (E:dZ->d0->Prop),tn i s.heap->Q (.ref it) s->wpAny (model P w) A (pyIter (.ref it)) Q E s
abbrev TI:=St->Hp->(It->Hp->Prop)->Prop
def Iz (X:Cx)(pins:ef (dY×Obj))(σ:St)(tg:Expr)(R:It->Hp->Prop)(itv:dZ)(s2:d0):Prop:=
 ∃(it:dY) (fp:ef dY) (tn:Nat->Heap->Prop) (J:It) (H':Hp),itv=.ref it/\eX X pins σ H' s2/\qJ X.prog X.w X.K tg J fp it tn/\tn 0 s2.heap/\(∀b∈fp,jW X pins H' b)/\R J H'
def PI (X:Cx)(tg iter:Expr)(wi:TI):Prop:=
 ∀(pins:ef (dY×Obj)) (s:d0) (σ:St) (H:Hp) (R:It->Hp->Prop),eX X pins σ H s->wi σ H R->
  wpAny (model X.prog X.w) X.A (eval iter X.env) (λv s1=>wpAny (model X.prog X.w) X.A (pyIter v) (Iz X pins σ tg R) X.xe s1) X.xe s
def rg {it:dY}{u:dZ}{o:Obj}{n:String}{vs:Array dZ}{Q:Unit->d0->Prop}(d:s.heap.get? it=some o)(e:o.cls=.type n)(b:o.data=.fields vs)(g:["enumerate","zip","dict_itemiterator","dict_reverseitemiterator","odict_iterator","itertools.zip_longest","itertools.pairwise"].contains n=false)(a:Q () s):wpAny M A (letOwnedTupleGo tg (.ref it) u) Q E s:=by
 unfold letOwnedTupleGo;cases tg <;> first
  |exact ar a
  |(cases u <;> first
    |exact ar a
    |(refine ac (wpAny_load d ?_)
      rw[e,b];show wpAny M A (if (["enumerate","zip","dict_itemiterator","dict_reverseitemiterator","odict_iterator","itertools.zip_longest","itertools.pairwise"].contains n&&vs[0]? == some (rawInt _))=true then _ else _) Q E s;rw[av (by intro h;rw[g,bX]at h;cases h)]
      exact ar a))
def FA (K:W.Frag)(a:dY):It:=
 ⟨λi H=>∃xs x,ff K H a xs/\xs[i]?=some x,λi H x H'=>H'=H/\∀xs,ff K H a xs->xs[i]?=some x,λi H=>∃xs,ff K H a xs/\xs.length<=i⟩
def HK (K:W.Frag)(a:dY):It:=
 ⟨λi H=>∃xs x,gC K H a xs/\xs[i]?=some x,λi H x H'=>H'=H/\∀xs,gC K H a xs->xs[i]?=some x,λi H=>∃xs,gC K H a xs/\xs.length<=i⟩
def Fz (lo:Int)(n:Nat):It:=⟨λi _=>i<n,λi H x H'=>H'=H/\x=.int (lo+i),λi _=>n<=i⟩
theorem xS (a m:dY):qJ P w K tg (FA K a) [m] m (λi h=>h.IsListIter m a i) where
 mem:=by simp
 obj:=λi h g b l=>by
  have e:b=m:=by simpa using l
  subst e;obtain⟨o,e,c,d⟩:=g;exact⟨o,e,λv z=>by rw[d]at z;cases z⟩
 keep:=λi h r g k=>g.at λo e=>k m (by simp) o e
 item:=by
  intro X O J F R i j s σ H E I y g A;subst O J F;obtain⟨Z,x,t,M⟩:=A;obtain⟨D,G,p,U⟩:=I.list t;obtain⟨u,hu,ru⟩:=G.get M;obtain⟨B,C,f2,Q,N,L⟩:=y m (by simp);refine wpAny_pyNext_list_item g p.isList (x:=u) (by simpa using hu) λr q sb=>?_;have S:eX X j σ H {s with heap:=r}:=I.turned (t':=s.toks) (λb o l e=>(sb.2 b l).trans e) B C Q N L;obtain⟨o,e,c,d⟩:=id q;exact⟨u,rfl,rg (s:={s with heap:=r}) e c d (by decide) ⟨x,H,S,ru,⟨rfl,λys Y=>by rw[I.KP Y t];exact M⟩,q,λb l=>(y b l).1⟩⟩
 done:=by
  intro X O J F R i j s σ H E I y g A;subst O J F;obtain⟨Z,t,M⟩:=A;obtain⟨D,G,p,U⟩:=I.list t;obtain⟨B,C,f2,Q,N,L⟩:=y m (by simp);have hl:=G.length;exact wpAny_pyNext_list_end (I.ok.hd R) g p.isList (by simp;lia) λr T=>⟨rfl,I.turned (t':=s.toks) (λb o l e=>T b o l e) B C Q N L⟩
 self:=λ_ _ _ _ _ g h=>wpAny_pyIter_listiter g h
theorem u7 (a q:dY):qJ P w K tg (HK K a) [q] q (λi h=>h.IsTupleIter q a i) where
 mem:=by simp
 obj:=λi h g b l=>by
  have e:b=q:=by simpa using l
  subst e;obtain⟨o,e,c,d⟩:=g;exact⟨o,e,λv z=>by rw[d]at z;cases z⟩
 keep:=λi h t g k=>g.at λo e=>k q (by simp) o e
 item:=by
  intro X O J F R i j s σ H E I A g B;subst O J F;obtain⟨Z,x,y,M⟩:=B;obtain⟨m,G,p,U⟩:=I.tuple y;obtain⟨u,hu,ru⟩:=G.get M;obtain⟨C,D,f2,Q,N,L⟩:=A q (by simp);refine wpAny_pyNext_tuple_item g (show s.heap.IsTuple a m.toArray from p) (x:=u) (by simpa using hu) λt r sb=>?_;have S:eX X j σ H {s with heap:=t}:=I.turned (t':=s.toks) (λb o l e=>(sb.2 b l).trans e) C D Q N L;obtain⟨o,e,c,d⟩:=id r;exact⟨u,rfl,rg (s:={s with heap:=t}) e c d (by decide) ⟨x,H,S,ru,⟨rfl,λys Y=>by rw[I.KQ Y y];exact M⟩,r,λb l=>(A b l).1⟩⟩
 done:=by
  intro X O J F R i j s σ H E I A g B;subst O J F;obtain⟨Z,y,M⟩:=B;obtain⟨m,G,p,U⟩:=I.tuple y;obtain⟨C,D,f2,Q,N,L⟩:=A q (by simp);have hl:=G.length;exact wpAny_pyNext_tuple_end (I.ok.hd R) g (show s.heap.IsTuple a m.toArray from p) (by simp;lia) λt T=>⟨rfl,I.turned (t':=s.toks) (λb o l e=>T b o l e) C D Q N L⟩
 self:=λ_ _ _ _ _ g h=>wpAny_pyIter_tupleiter g h
theorem u8 (g:dY)(p:Int)(n:Nat):qJ P w K tg (Fz p n) [g] g (λi h=>IsRangeIter h g (p+(i:Nat)*1) ((n:Int)-(i:Nat)) 1) where
 mem:=by simp
 obj:=λi h a b j=>by
  have e:b=g:=by simpa using j
  subst e
  exact⟨_,a,λv z=>by
   have M:Data.fields _=Data.cell v:=z
   cases M⟩
 keep:=λi h m a k=>k g (by simp) _ a
 item:=by
  intro X F B A J i d s σ H E I q a r;subst F B A;obtain⟨x,y,R,G,D,C⟩:=q g (by simp);have W:=Walks.range (prog:=X.prog) (w:=X.w) (I.ok.hd J) g p 1 n;refine W.item i s _ _ r a λv m L S l O=>?_;obtain⟨t,rfl⟩:=S;have N:eX X d σ H {s with heap:=m,toks:=L}:=I.turned (λb o j e=>O b o (by simpa using j) e) x y G D C;refine⟨_,rfl,rg (s:={s with heap:=m,toks:=L}) (n:="range_iterator") l rfl rfl (by decide) ⟨.int (p+i),H,N,⟨t,?_⟩,⟨rfl,rfl⟩,l,λb j=>(q b j).1⟩⟩;rw[Int.mul_one]
 done:=by
  intro X F B A J i d s σ H E I q a r;subst F B A;obtain⟨x,y,R,G,D,C⟩:=q g (by simp);exact wpAny_pyNext_range_end (I.ok.hd J) a (by have:n<=i:=r;lia) λm Q=>⟨rfl,I.turned (t':=s.toks) (λb o j e=>Q b o j e) x y G D C⟩
 self:=λ_ _ _ _ _ a h=>wpAny_pyIter_rangeiter a h
inductive FS (K:W.Frag)(R:It->Hp->Prop)(x:V)(H1:Hp):Prop
 |mk (a:_)(_:x=.ref a)(_:∃xs,ff K H1 a xs)(_:R (FA K a) H1)
def Hs (K:W.Frag)(tl:TE):TI:=λσ H R=>tl σ H λx H1=>FS K R x H1
inductive Ie (K:W.Frag)(R:It->Hp->Prop)(x:V)(H1:Hp):Prop
 |mk (a:_)(_:x=.ref a)(_:∃xs,gC K H1 a xs)(_:R (HK K a) H1)
def Jt (K:W.Frag)(tl:TE):TI:=λσ H R=>tl σ H λx H1=>Ie K R x H1
def fL {l:Expr}{tl:TE}(m:PE X l tl):PI X tg l (Hs X.K tl):=by
 intro d s σ H R I h;refine gm (m d s σ H _ I h) ?_;rintro v g ⟨x,j,i,r,z⟩;obtain⟨a,e,⟨A,w⟩,q⟩:=z;subst e;cases r;obtain⟨y,B,p,C⟩:=i.list w;refine wpAny_pyIter_list p.isList ?_;refine⟨g.heap.objs.size,[g.heap.objs.size],_,_,j,rfl,i.kept (t':=g.toks) λb o e=>az _ e,xS a _,⟨_,aM _ rfl,rfl,rfl⟩,λb t=>?_,q⟩;have e:b=g.heap.objs.size:=by simpa using t
 subst e;exact i.KU (am _) (i.hok.fresh (am _))
def EB {l:Expr}{tl:TE}(r:PE X l tl):PI X tg l (Jt X.K tl):=by
 intro d s σ H R I h;refine gm (r d s σ H _ I h) ?_;rintro v g ⟨x,m,i,t,z⟩;obtain⟨a,e,⟨A,y⟩,q⟩:=z;subst e;cases t;obtain⟨j,B,p,C⟩:=i.tuple y;refine wpAny_pyIter_tuple (show g.heap.IsTuple a j.toArray from p) ?_;refine⟨g.heap.objs.size,[g.heap.objs.size],_,_,m,rfl,i.kept (t':=g.toks) λb o e=>az _ e,u7 a _,⟨_,aM _ rfl,rfl,rfl⟩,λb w=>?_,q⟩;have e:b=g.heap.objs.size:=by simpa using w
 subst e;exact i.KU (am _) (i.hok.fresh (am _))
theorem Ag {R:It->Hp->Prop}{lo hi:Int}{t u v:Tok}{tk:Nat}(I:eX X pins σ H s)(i:-(2^62)<=lo)(g:lo<2^62)(j:-(2^62)<=hi)(h:hi<2^62)(q:R (Fz lo (hi-lo).toNat) H):wpAny (model X.prog X.w) X.A (pyIter (.ref s.heap.objs.size)) (Iz X pins σ tg R) E {s with heap:=s.heap.push {cls:=.type "range",data:=.fields #[.int lo t,.int hi u,.int 1 v]},toks:=tk}:=by
 refine wpAny_pyIter_range (IsRange.new ..) (small_one i g j h) ?_;have a:eX X pins σ H {s with heap:=s.heap.push {cls:=.type "range",data:=.fields #[.int lo t,.int hi u,.int 1 v]},toks:=tk}:=I.kept λb o e=>az _ e;refine⟨(s.heap.push {cls:=.type "range",data:=.fields #[.int lo t,.int hi u,.int 1 v]}).objs.size,[(s.heap.push {cls:=.type "range",data:=.fields #[.int lo t,.int hi u,.int 1 v]}).objs.size],_,_,H,rfl,a.kept (t':=tk) λb o e=>az _ e,u8 _ lo (hi-lo).toNat,?_,λb l=>?_,q⟩;have d:lo+((0:Nat):Int)*1=lo:=by simp
 have m:(((hi-lo).toNat:Nat):Int)-((0:Nat):Int)=Builtin.Range.rangeSize lo hi 1:=by rw[rangeSize_one];split <;> lia
 show IsRangeIter _ _ (lo+((0:Nat):Int)*1) ((((hi-lo).toNat:Nat):Int)-((0:Nat):Int)) 1;rw[d,m];exact aM _ rfl;have e:b=(s.heap.push {cls:=.type "range",data:=.fields #[.int lo t,.int hi u,.int 1 v]}).objs.size:=by simpa using l
 subst e;exact a.KU (am _) (a.hok.fresh (am _))
inductive FR (R:It->Hp->Prop)(vs:ef V)(H1:Hp):Prop
 |mk (j:Int)(_:vs=[.int j])(_:-(2^62)<=j)(_:j<2^62)(_:R (Fz 0 j.toNat) H1)
def Hr (ta:TA):TI:=λσ H R=>ta σ H λvs H1=>FR R vs H1
theorem jH {a:Expr}{ta:TA}(l:Gl X "range")(m:X.mg "range" = none)(o:PA X [a] ta)(hs:autoParam (starEach [a] X.env=[(false,eval a X.env)]) gF._auto_1):PI X tg (.Call (.Name "range" p) [a] [] pos) (Hr ta):=by intro b s σ H R I h;refine Call_ (jP I l m boot_range (PyProof.Rows.callWith_type1 (gm (o pos b s σ H _ I h) ?_) hs rfl));rintro y x ⟨z,w,i,g,d⟩;obtain⟨j,e,d,v,q⟩:=d;subst e;cases g with|cons r rr=>cases rr;obtain⟨t,rfl⟩:=r;exact call_range_1 (Ag i (by lia) (by lia) d v (by simpa using q))
def IM (wi:TI)(g:TG)(tb:TS):TS:=λD σ H=>wi σ H λJ H1=>∃W:Nat->Nat->St->Hp->Prop,(∃m,W 0 m σ H1)/\∀i m σ H,W i m σ H->
 (J.stop i H/\D.nx σ H)\/(J.go i H/\∃N:St->Hp->Prop,(∀σ' H',N σ' H'->∃m',m'<m/\W (i+1) m' σ' H')/\∀x H',J.yld i H x H'->g x σ H' λσ2 H2=>tb {D with nx:=N,ct:=N,bk:=D.nx} σ2 H2)
noncomputable def pM (fp:ef dY)(h:Heap):ef (dY×Obj):=fp.filterMap λb=>(h.get? b).map λo=>(b,o)
def ld {o:Obj}(hb:b∈fp)(e:h.get? b=some o):(b,o)∈pM fp h:=List.mem_filterMap.mpr ⟨b,hb,by rw[e];rfl⟩
def yB {p:dY×Obj}(hp:p∈pM fp h):p.1∈fp/\h.get? p.1=some p.2:=by obtain⟨b,d,e⟩:=List.mem_filterMap.mp hp;cases q:h.get? b with|none=>rw[q]at e;cases e|some o=>rw[q]at e;have a:(b,o)=p:=Option.some.inj e;subst a;exact⟨d,q⟩
def eX.pinned (I:eX X pins σ H s)(hf:∀b∈fp,jW X pins H b)(ho:∀b∈fp,∃o,s.heap.get? b=some o/\∀v,o.data≠.cell v):eX X (pins++pM fp s.heap) σ H s:=
 I.KM λp hp=>(aA.mp hp).elim (λz=>I.pin p (aS _ z)) λz=>by obtain⟨hb,e⟩:=yB z;obtain⟨f0,f1,f2,_⟩:=hf p.1 hb;obtain⟨o,e',d⟩:=ho p.1 hb;rw[e]at e';cases e';exact⟨e,f0,f1,f2,d⟩
def eX.KW {pl:ef (dY×Obj)}(I:eX X (pins++pl) σ H s):eX X pins σ H s:=I.KM λp hp=>I.pin p (aS _ (aO _ hp))
def fO {iter:Expr}{wi:TI}(hi:PI X tg iter wi)(hg:PG X tg g)(j:ni X body tb)(hp:PassesOwn (model X.prog X.w) X.A X.env X.xe:=by exact PassesOwn.never)(hc:autoParam (X.calm=true) gF._auto_1)(hs:autoParam (∀x,foldedSetIterable iter X.env x=pure x) gT._auto_1):PS X (.For tg iter body [] pos) (IM wi g tb):=by
 intro a s σ H D I h;refine wpAny_For (gm (hi a s σ H _ I h) λv s1 h1=>gm h1 λaa s2 h2=>?_) hs;obtain⟨it,E,U,J,H2,e,I2,T,K,S,W,⟨m0,w0⟩,F⟩:=h2;subst e;have p:∀{H':Hp},(∀b∈E,H' b=none)->∀b∈E,jW X a H' b:=λhn b j=>⟨hn b j,(S b j).2⟩;refine codeAny_forLoop_any (λn s'=>∃i σ' H',eX X a σ' H' s'/\U i s'.heap/\(∀b∈E,H' b=none)/\W i n σ' H') ?_ m0 ⟨0,σ,H2,I2,K,λb j=>(S b j).1,w0⟩;rintro n Y ⟨i,σ3,G,R,Gy,B,w3⟩;rcases F i n σ3 G w3 with ⟨stop,qn⟩|⟨go,N,hN,step⟩;refine cK hp (gm (T.done X rfl rfl rfl hc i a Y σ3 G X.xe R (p B) Gy stop) ?_);rintro r s4 ⟨M,I4⟩;subst M;exact wpAny_execs_nil ⟨σ3,G,I4,qn⟩;refine cK hp (gm (T.item X rfl rfl rfl hc i a Y σ3 G X.xe R (p B) Gy go) ?_);rintro r s4 ⟨u,M,h4⟩;subst M;refine cK hp (gm h4 ?_);rintro _ Z ⟨x,Q,I5,r5,y5,z,O⟩;have P:=I5.pinned (p O) (T.obj _ _ z);refine cK hp (gm (hg _ Z σ3 Q x u _ P r5 (step x Q y5)) ?_);rintro _ s6 ⟨σ6,H6,I6,q6⟩;refine cK hp (gm (j _ s6 σ6 H6 _ I6 q6) λf L y=>?_);have q:∀{σ7:St} {t:Hp},eX X (a++pM E Z.heap) σ7 t L->N σ7 t->∃m,m<n/\∃i σ' H',eX X a σ' H' L/\U i L.heap/\(∀b∈E,H' b=none)/\W i m σ' H':=λ{σ7 t} l C=>by obtain⟨m',hm,w7⟩:=hN σ7 t C;refine⟨m',hm,i+1,σ7,t,l.KW,T.keep _ _ _ z λb j o e=>(l.pin (b,o) (aS _ (aS _ (ld j e)))).1,λb j=>?_,w7⟩;obtain⟨o,e,d⟩:=T.obj _ _ z b j;exact(l.pin (b,o) (aS _ (aS _ (ld j e)))).2.1
 cases f with|next=>obtain⟨σ7,t,l,C⟩:=y;exact q l C|cont=>obtain⟨σ7,t,l,C⟩:=y;exact q l C|brk=>obtain⟨σ7,t,l,y⟩:=y;exact⟨σ7,t,l.KW,y⟩|ret v=>obtain⟨x7,σ7,t,l,r7,y⟩:=y;exact⟨x7,σ7,t,l.KW,r7,y⟩
theorem fW (b:Nat->St->Hp->Prop)(o:b 0 σ H)(h:∀i σ H,i<=xs.length->b i σ H->ff K H a xs)(l:∀i x σ H,xs[i]?=some x->b i σ H->g x σ H λσ2 H2=>tb {D with nx:=b (i+1),ct:=b (i+1),bk:=D.nx} σ2 H2)(d:∀σ H,b xs.length σ H->D.nx σ H):∃W:Nat->Nat->St->Hp->Prop,(∃m,W 0 m σ H)/\∀i m σ H,W i m σ H->((FA K a).stop i H/\D.nx σ H)\/((FA K a).go i H/\∃N:St->Hp->Prop,(∀σ' H',N σ' H'->∃m',m'<m/\W (i+1) m' σ' H')/\∀x H',(FA K a).yld i H x H'->g x σ H' λσ2 H2=>tb {D with nx:=N,ct:=N,bk:=D.nx} σ2 H2):=by
 refine⟨λi m σ H=>m=xs.length-i/\i<=xs.length/\b i σ H,⟨xs.length,by simp,br _,o⟩,?_⟩;rintro i m σ H ⟨rfl,r,p⟩;have q:=h i σ H r p;by_cases hlt:i<xs.length;refine .inr ⟨⟨xs,xs[i],q,by simp[hlt]⟩,b (i+1),λσ' H' j=>⟨xs.length-(i+1),by lia,rfl,hlt,j⟩,λx H' y=>?_⟩;obtain⟨e,y⟩:=y;subst e;exact l i x σ _ (y xs q) p;have e:i=xs.length:=by lia
 subst e;exact .inl ⟨⟨xs,q,am _⟩,d σ H p⟩
theorem Dm (b:Nat->St->Hp->Prop)(o:b 0 σ H)(h:∀i σ H,i<=xs.length->b i σ H->gC K H a xs)(l:∀i x σ H,xs[i]?=some x->b i σ H->g x σ H λσ2 H2=>tb {D with nx:=b (i+1),ct:=b (i+1),bk:=D.nx} σ2 H2)(d:∀σ H,b xs.length σ H->D.nx σ H):∃W:Nat->Nat->St->Hp->Prop,(∃m,W 0 m σ H)/\∀i m σ H,W i m σ H->((HK K a).stop i H/\D.nx σ H)\/((HK K a).go i H/\∃N:St->Hp->Prop,(∀σ' H',N σ' H'->∃m',m'<m/\W (i+1) m' σ' H')/\∀x H',(HK K a).yld i H x H'->g x σ H' λσ2 H2=>tb {D with nx:=N,ct:=N,bk:=D.nx} σ2 H2):=by
 refine⟨λi m σ H=>m=xs.length-i/\i<=xs.length/\b i σ H,⟨xs.length,by simp,br _,o⟩,?_⟩;rintro i m σ H ⟨rfl,r,p⟩;have q:=h i σ H r p;by_cases hlt:i<xs.length;refine .inr ⟨⟨xs,xs[i],q,by simp[hlt]⟩,b (i+1),λσ' H' j=>⟨xs.length-(i+1),by lia,rfl,hlt,j⟩,λx H' y=>?_⟩;obtain⟨e,y⟩:=y;subst e;exact l i x σ _ (y xs q) p;have e:i=xs.length:=by lia
 subst e;exact .inl ⟨⟨xs,q,am _⟩,d σ H p⟩
theorem kH {lo:Int}{n:Nat}(a:Nat->St->Hp->Prop)(j:a 0 σ H)(h:∀i σ H,i<n->a i σ H->g (.int (lo+i)) σ H λσ2 H2=>tb {D with nx:=a (i+1),ct:=a (i+1),bk:=D.nx} σ2 H2)(b:∀σ H,a n σ H->D.nx σ H):∃W:Nat->Nat->St->Hp->Prop,(∃m,W 0 m σ H)/\∀i m σ H,W i m σ H->((Fz lo n).stop i H/\D.nx σ H)\/((Fz lo n).go i H/\∃N:St->Hp->Prop,(∀σ' H',N σ' H'->∃m',m'<m/\W (i+1) m' σ' H')/\∀x H',(Fz lo n).yld i H x H'->g x σ H' λσ2 H2=>tb {D with nx:=N,ct:=N,bk:=D.nx} σ2 H2):=by
 refine⟨λi m σ H=>m=n-i/\i<=n/\a i σ H,⟨n,by simp,br _,j⟩,?_⟩;rintro i m σ H ⟨rfl,l,p⟩;by_cases hlt:i<n;refine .inr ⟨hlt,a (i+1),λσ' H' d=>⟨n-(i+1),by lia,rfl,hlt,d⟩,λx H' y=>?_⟩;obtain⟨e,y⟩:=y;subst e y;exact h i σ _ hlt p;have e:i=n:=by lia
 subst e;exact .inl ⟨am _,b σ H p⟩
abbrev R2:=V->V->Hp->VK->Prop
def oy (X:Cx)(f:dZ->dZ->Sem dZ)(r:R2):Prop:=
 ∀(pins:ef (dY×Obj)) (s:d0) (σ:St) (H:Hp) (x y:V) (v u:dZ) (Q:VK),eX X pins σ H s->fi x v->fi y u->r x y H Q->
  wpAny (model X.prog X.w) X.A (f v u) (EP X pins σ Q) X.xe s
def Ix (X:Cx)(f:dZ->Sem dZ)(r:V->Hp->VK->Prop):Prop:=
 ∀(pins:ef (dY×Obj)) (s:d0) (σ:St) (H:Hp) (x:V) (v:dZ) (Q:VK),eX X pins σ H s->fi x v->r x H Q->
  wpAny (model X.prog X.w) X.A (f v) (EP X pins σ Q) X.xe s
def jC (X:Cx)(f:dZ)(r:ef V->Hp->VK->Prop):Prop:=
 ∀(pins:ef (dY×Obj)) (s:d0) (σ:St) (H:Hp) (xs:ef V) (us:ef dZ) (Q:VK),eX X pins σ H s->gj xs us->r xs H Q->
  wpAny (model X.prog X.w) X.A (call f us) (EP X pins σ Q) X.xe s
def JC (X:Cx)(r:V->Hp->(Bool->Hp->Prop)->Prop):Prop:=
 ∀(pins:ef (dY×Obj)) (s:d0) (σ:St) (H:Hp) (x:V) (v:dZ) (Q:Bool->Hp->Prop),eX X pins σ H s->fi x v->r x H Q->
  wpAny (model X.prog X.w) X.A (truthy v) (TP X pins σ Q) X.xe s
def Il (r:R2)(ta tb:TE):TE:=λσ H Q=>ta σ H λx H1=>tb σ H1 λy H2=>r x y H2 Q
def J9 (r:V->Hp->VK->Prop)(ta:TE):TE:=λσ H Q=>ta σ H λx H1=>r x H1 Q
inductive Kz (C:Int->Int->Prop)(g:Int->Int->V)(x:V)(y:V)(H:Hp)(Q:VK):Prop
 |mk (i j:_)(_:x=.int i)(_:y=.int j)(_:C i j)(_:Q (g i j) H)
def rI (C:Int->Int->Prop)(g:Int->Int->V):R2:=λx y H Q=>Kz C g x y H Q
inductive JO (g:Int->Int->V)(x:V)(y:V)(H:Hp)(Q:VK):Prop
 |mk (i j:_)(_:x=.int i)(_:y=.int j)(_:Q (g i j) H)
def BZ (g:Int->Int->V):R2:=λx y H Q=>JO g x y H Q
inductive Ky (g:Int->V)(x:V)(H:Hp)(Q:VK):Prop
 |mk (i:_)(_:x=.int i)(_:Q (g i) H)
def rU (g:Int->V):V->Hp->VK->Prop:=λx H Q=>Ky g x H Q
section
variable {a b c:Expr}{tb tc:TE}
def Fq (g:PE X a ta)(o:PE X b tb){R:V->V->Hp->Prop}(I:eX X pins σ H s)(h:ta σ H λx H1=>tb σ H1 λy H2=>R x y H2){Q:dZ->d0->Prop}{f:dZ->dZ->Sem dZ}(e:∀v u s2 x y H2,eX X pins σ H2 s2->fi x v->fi y u->R x y H2->wpAny (model X.prog X.w) X.A (f v u) Q X.xe s2):wpAny (model X.prog X.w) X.A (eval a X.env) (λv s₁=>wpAny (model X.prog X.w) X.A (eval b X.env) (λu s₂=>wpAny (model X.prog X.w) X.A (f v u) Q X.xe s₂) X.xe s₁) X.xe s:=by refine gm (g pins s σ H _ I h) ?_;rintro v m ⟨x,H1,p,j,l⟩;refine gm (o pins m σ H1 _ p l) ?_;rintro u s2 ⟨y,H2,i,d,q⟩;exact e v u s2 x y H2 i j d q
def fh {op:Operator}(e:oy X (binaryOp op) r)(o:PE X a ta)(i:PE X b tb):PE X (.BinOp a op b pos) (Il r ta tb):=by intro d s σ H Q I h;exact wpAny_BinOp (Fq o i I h λv u m x y l p g j q=>e d m σ l x y v u Q p g j q)
def ja {op:UnaryOp}{r:V->Hp->VK->Prop}(d:Ix X (unaryOp op) r)(g:PE X a ta):PE X (.UnaryOp op a pos) (J9 r ta):=by intro b s σ H Q I h;exact UnaryOp_ (gm (g b s σ H _ I h) (by rintro v l ⟨x,e,m,i,j⟩;exact d b l σ e x v Q m i j))
def Im {f:dZ->dZ->Sem dZ}{C:Int->Int->Prop}{g:Int->Int->Int}(a:∀(i j:Int) (t u:Tok) (s:d0) (Q:dZ->d0->Prop) (E:dZ->d0->Prop),C i j->Q (.int (g i j) s.toks) {s with toks:=s.toks+1}->wpAny (model X.prog X.w) X.A (f (.int i t) (.int j u)) Q E s):oy X f (rI C λi j=>.int (g i j)):=by intro b s σ H x y v u Q I e l h;obtain⟨i,j,rfl,rfl,m,q⟩:=h;obtain⟨t,rfl⟩:=e;obtain⟨d,rfl⟩:=l;exact a i j t d s _ _ m ⟨.int (g i j),H,I.tok _,⟨_,rfl⟩,q⟩
def CK {f:dZ->dZ->Sem dZ}{g:Int->Int->Int}(a:∀(i j:Int) (t u:Tok) (s:d0) (Q:dZ->d0->Prop) (E:dZ->d0->Prop),Q (.int (g i j) s.toks) {s with toks:=s.toks+1}->wpAny (model X.prog X.w) X.A (f (.int i t) (.int j u)) Q E s):oy X f (BZ λi j=>.int (g i j)):=by intro b s σ H x y v u Q I e l h;obtain⟨i,j,rfl,rfl,q⟩:=h;obtain⟨t,rfl⟩:=e;obtain⟨d,rfl⟩:=l;exact a i j t d s _ _ ⟨.int (g i j),H,I.tok _,⟨_,rfl⟩,q⟩
def CM {f:dZ->dZ->Sem dZ}{g:Int->Int->Bool}(a:∀(i j:Int) (t u:Tok) (s:d0) (Q:dZ->d0->Prop) (E:dZ->d0->Prop),Q (.bool (g i j)) s->wpAny (model X.prog X.w) X.A (f (.int i t) (.int j u)) Q E s):oy X f (BZ λi j=>.bl (g i j)):=by intro b s σ H x y v u Q I e l h;obtain⟨i,j,rfl,rfl,q⟩:=h;obtain⟨t,rfl⟩:=e;obtain⟨d,rfl⟩:=l;exact a i j t d s _ _ ⟨.bl (g i j),H,I,rfl,q⟩
def JW (i j:Int):Prop:=0<j/\j<1073741824
def JV (i j:Int):Prop:=0<=j/\j<=1000000/\i.natAbs<2^64
def FV (i j:Int):Prop:=(-(2^64)<i/\i<2^64)\/(-(2^64)<j/\j<2^64)
def FV.ok {i j:Int}(h:FV i j):IntMulOk i j:=by rcases h with ⟨a,b⟩|⟨a,b⟩;exact .of_left (intBits_le_64 a b);exact .of_right (intBits_le_64 a b)
def mx:oy X (binaryOp .Add) (BZ λi j=>.int (i+j)):=CK λ_ _ _ _ _ _ _ q=>add_int q
def AC:oy X (binaryOp .Sub) (BZ λi j=>.int (i-j)):=CK λ_ _ _ _ _ _ _ q=>sub_int q
def sM:oy X (binaryOp .Mult) (rI FV λi j=>.int (i*j)):=Im λ_ _ _ _ _ _ _ hc q=>mul_int q hc.ok
theorem jE:oy X (binaryOp .FloorDiv) (rI JW λi j=>.int (i / j)):=Im λi j _ _ _ _ _ hc q=>by
 have h1:(0:Int)<j:=hc.1;have h2:j<1073741824:=hc.2;exact floordiv_int (by lia) (by rw[Int.fdiv_eq_ediv_of_nonneg i (by lia)];exact q) (.inl (PyProof.noPylong_small (by lia)))
theorem kg:oy X (binaryOp .Mod) (rI (λ_ j=>0<j) λi j=>.int (i % j)):=Im λi j _ _ _ _ _ hc q=>by
 have h1:(0:Int)<j:=hc;exact mod_int' (by lia) (by rw[Int.fmod_eq_emod_of_nonneg i (by lia)];exact q)
def nK:oy X (binaryOp .Pow) (rI JV λi j=>.int (i^j.toNat)):=Im λ_ _ _ _ _ _ _ hc q=>pow_int_small hc.1 hc.2.1 hc.2.2 q
def im:oy X (binaryOp .BitAnd) (BZ λi j=>.int (Builtin.bitAnd i j)):=CK λ_ _ _ _ _ _ _ q=>and_int q
def qX:oy X (binaryOp .BitOr) (BZ λi j=>.int (Builtin.bitOr i j)):=CK λ_ _ _ _ _ _ _ q=>or_int q
def JX {f:dZ->Sem dZ}{g:Int->Int}(a:∀(i:Int) (t:Tok) (s:d0) (Q:dZ->d0->Prop) (E:dZ->d0->Prop),Q (.int (g i) s.toks) {s with toks:=s.toks+1}->wpAny (model X.prog X.w) X.A (f (.int i t)) Q E s):Ix X f (rU λi=>.int (g i)):=by intro b s σ H x v Q I d h;obtain⟨i,rfl,q⟩:=h;obtain⟨t,rfl⟩:=d;exact a i t s _ _ ⟨.int (g i),H,I.tok _,⟨_,rfl⟩,q⟩
def jy:Ix X (unaryOp .USub) (rU λi=>.int (-i)):=JX λ_ _ _ _ _ q=>neg_int q
def lC:Ix X (unaryOp .Invert) (rU λi=>.int (Builtin.bitNot i)):=JX λ_ _ _ _ _ q=>invert_int q
end
noncomputable def Gz:V->V->Bool
 |.non,.non=>true|.non,.int _=>true|.int _,.non=>true|.non,.bl _=>true|.bl _,.non=>true|.non,.str _=>true|.str _,.non=>true
 |.int _,.int _=>true|.bl _,.bl _=>true|.str _,.str _=>true|.byt _,.byt _=>true
 |.int _,.str _=>true|.str _,.int _=>true|.bl _,.str _=>true|.str _,.bl _=>true
 |_,_=>false
def Kg:R2:=λx y H Q=>Gz x y=true/\Q (.bl (decide (x=y))) H
def Kf:R2:=λx y H Q=>Gz x y=true/\Q (.bl (!decide (x=y))) H
def xx {i j:Int}:decide (V.int i=V.int j)=(i == j):=by rw[cT];simp
def Bv {i j:Bool}:decide (V.bl i=V.bl j)=(i == j):=by rw[cT];simp
def xw {i j:Str}:decide (V.str i=V.str j)=(i == j):=by rw[cT];simp
def xz {i j:Array UInt8}:decide (V.byt i=V.byt j)=(i.toList == j.toList):=by rw[cT];cases i;cases j;simp
section
variable {a b c:Expr}{tb tc:TE}
def gB {Q:VK}{k k':Bool}(I:eX X pins σ H s)(q:Q (.bl k) H)(e:k=k'):EP X pins σ Q (.bool k') s:=by subst e;exact⟨.bl k,H,I,rfl,q⟩
def jM:oy X (compareOp .Eq) Kg:=by
 intro g s σ H x y v u Q I e a h;obtain⟨d,q⟩:=h;cases x with
 |non=>cases e;cases y with|non=>cases a;exact PySem.EqNone.eq_none_none (gB I q (by simp))|bl j=>cases a;exact PySem.EqNone.eq_none_bool (gB I q (by simp))|int j=>obtain⟨b,rfl⟩:=a;exact PySem.EqNone.eq_none_int (gB I q (by simp))|str j=>obtain⟨b,rfl⟩:=a;exact PySem.EqNone.eq_none_str (gB I q (by simp))|_=>exact absurd (show false=true from d) aT
 |bl i=>cases e;cases y with|non=>cases a;exact PySem.EqNone.eq_bool_none (gB I q (by simp))|bl j=>cases a;exact eq_bool (gB I q Bv)|str j=>obtain⟨b,rfl⟩:=a;exact PySem.EqMixed.eq_bool_str (gB I q (by simp))|_=>exact absurd (show false=true from d) aT
 |int i=>obtain⟨t,rfl⟩:=e;cases y with|non=>cases a;exact PySem.EqNone.eq_int_none (gB I q (by simp))|int j=>obtain⟨b,rfl⟩:=a;exact eq_int (gB I q xx)|str j=>obtain⟨b,rfl⟩:=a;exact PySem.EqMixed.eq_int_str (gB I q (by simp))|_=>exact absurd (show false=true from d) aT
 |str i=>obtain⟨t,rfl⟩:=e;cases y with|non=>cases a;exact PySem.EqNone.eq_str_none (gB I q (by simp))|bl j=>cases a;exact PySem.EqMixed.eq_str_bool (gB I q (by simp))|int j=>obtain⟨b,rfl⟩:=a;exact PySem.EqMixed.eq_str_int (gB I q (by simp))|str j=>obtain⟨b,rfl⟩:=a;exact eq_str (gB I q xw)|_=>exact absurd (show false=true from d) aT
 |byt i=>obtain⟨t,rfl⟩:=e;cases y with|byt j=>obtain⟨b,rfl⟩:=a;exact W.eq_bytes (gB I q xz)|_=>exact absurd (show false=true from d) aT
 |_=>cases y <;> exact absurd (show false=true from d) aT
def ol:oy X (compareOp .NotEq) Kf:=by
 intro g s σ H x y v u Q I e a h;obtain⟨d,q⟩:=h;cases x with
 |non=>cases e;cases y with|non=>cases a;exact PySem.EqNone.ne_none_none (gB I q (by simp))|bl j=>cases a;exact PySem.EqNone.ne_none_bool (gB I q (by simp))|int j=>obtain⟨b,rfl⟩:=a;exact PySem.EqNone.ne_none_int (gB I q (by simp))|str j=>obtain⟨b,rfl⟩:=a;exact PySem.EqNone.ne_none_str (gB I q (by simp))|_=>exact absurd (show false=true from d) aT
 |bl i=>cases e;cases y with|non=>cases a;exact PySem.EqNone.ne_bool_none (gB I q (by simp))|bl j=>cases a;exact ne_bool (gB I q (congrArg not Bv))|str j=>obtain⟨b,rfl⟩:=a;exact PySem.EqMixed.ne_bool_str (gB I q (by simp))|_=>exact absurd (show false=true from d) aT
 |int i=>obtain⟨t,rfl⟩:=e;cases y with|non=>cases a;exact PySem.EqNone.ne_int_none (gB I q (by simp))|int j=>obtain⟨b,rfl⟩:=a;exact ne_int (gB I q (congrArg not xx))|str j=>obtain⟨b,rfl⟩:=a;exact PySem.EqMixed.ne_int_str (gB I q (by simp))|_=>exact absurd (show false=true from d) aT
 |str i=>obtain⟨t,rfl⟩:=e;cases y with|non=>cases a;exact PySem.EqNone.ne_str_none (gB I q (by simp))|bl j=>cases a;exact PySem.EqMixed.ne_str_bool (gB I q (by simp))|int j=>obtain⟨b,rfl⟩:=a;exact PySem.EqMixed.ne_str_int (gB I q (by simp))|str j=>obtain⟨b,rfl⟩:=a;exact ne_str (gB I q (congrArg not xw))|_=>exact absurd (show false=true from d) aT
 |byt i=>obtain⟨t,rfl⟩:=e;cases y with|byt j=>obtain⟨b,rfl⟩:=a;exact W.ne_bytes (gB I q (congrArg not xz))|_=>exact absurd (show false=true from d) aT
 |_=>cases y <;> exact absurd (show false=true from d) aT
def qY:oy X (compareOp .Lt) (BZ λi j=>.bl (decide (i<j))):=CM λ_ _ _ _ _ _ _ q=>lt_int q
def w6:oy X (compareOp .LtE) (BZ λi j=>.bl (decide (i<=j))):=CM λ_ _ _ _ _ _ _ q=>le_int q
def DS:oy X (compareOp .Gt) (BZ λi j=>.bl (decide (j<i))):=CM λ_ _ _ _ _ _ _ q=>gt_int q
def w9:oy X (compareOp .GtE) (BZ λi j=>.bl (decide (j<=i))):=CM λ_ _ _ _ _ _ _ q=>ge_int q
def fQ (b:Expr)(h:autoParam (op≠.In) Aq._auto_1)(h2:autoParam (op≠.NotIn) Aq._auto_1):behindInMarks op b=false:=by
 have d:(op == CmpOp.In)=false:=by cases op <;> first|rfl|exact absurd rfl h
 have a:(op == CmpOp.NotIn)=false:=by cases op <;> first|rfl|exact absurd rfl h2
 cases b <;> simp[behindInMarks,d,a]
def kT (e:oy X (compareOp op) r)(p:PE X a ta)(i:PE X b tb)(m:behindInMarks op b=false):PE X (.Compare a [op] [b] pos) (Il r ta tb):=by intro d s σ H Q I h;exact wpAny_Compare1 (Fq p i I h λv u o x y l t g j q=>e d o σ l x y v u Q t g j q) m
inductive FD (Q:Bool->Hp->Prop)(x:V)(H':Hp):Prop
 |mk (k:_)(_:x=.bl k)(_:Q k H')
def Gg (t:TE):TT:=λσ H Q=>t σ H λx H'=>FD Q x H'
def fD (j:oy X (compareOp op) r)(D:PE X a ta)(o:PE X b tb)(w:behindInMarks op b=false):PT X (.Compare a [op] [b] pos) (Gg (Il r ta tb)):=by intro d s σ H Q I h;refine wpAny_isTrue_Compare1 (gm (D d s σ H _ I h) λv m ⟨x,g,p,l,E⟩=>gm (o d m σ g _ p E) λu C ⟨y,A,G,t,J⟩=>gm (j d C σ A x y v u _ G l t J) λc K ⟨z,q,B,i,k,e,F⟩=>?_) w;subst e;cases i;exact bU ⟨q,B,F⟩
inductive DD (r':R2)(tc:TE)(σ:St)(Q:VK)(y:V)(z:V)(H3:Hp):Prop
 |mk (k:_)(_:z=.bl k)(_:if k=true then tc σ H3 λw' H4=>r' y w' H4 Q else Q (.bl false) H3)
def Ef (r r':R2)(ta tb tc:TE):TE:=λσ H Q=>ta σ H λx H1=>tb σ H1 λy H2=>r x y H2 λz H3=>DD r' tc σ Q y z H3
def Ax {op':CmpOp}{r':R2}(M:oy X (compareOp op) r)(i:oy X (compareOp op') r')(T:PE X a ta)(B:PE X b tb)(K:PE X c tc)(hm:lastMarks [op,op'] [b,c]=false:=by with_unfolding_all rfl):PE X (.Compare a [op,op'] [b,c] pos) (Ef r r' ta tb tc):=by intro g s σ H Q I h;refine Compare_chain (gm (T g s σ H _ I h) λv P ⟨x,O,D,w,J⟩=>chain_link (gm (B g P σ O _ D J) λu G ⟨y,R,L,o,U⟩=>gm (M g G σ R x y v u _ L w o U) λd S ⟨z,j,l,t,k,e,m⟩=>?_)) hm;subst e;cases t;refine bU ?_;cases k with|false=>exact ite_ff ⟨.bl false,j,l,rfl,m⟩|true=>exact ite_tt (chain_last (gm (K g S σ j _ l m) (by rintro q p ⟨C,F,A,E,N⟩;exact i g p σ F y C u q Q A o E N)))
def Hz (K:W.Frag)(x:V)(H:Hp)(k:Bool):Prop:=
 match x with
 |.non=>k=false
 |.bl b=>k=b
 |.int i=>k=(i != 0)
 |.str y=>y.length<=sizeLine/\k=((y.length:Int) != 0)
 |.byt y=>y.size<=sizeLine/\k=((y.size:Int) != 0)
 |.ref p=>(∃xs,ff K H p xs/\k=!xs.isEmpty)\/(∃xs,gC K H p xs/\k=!xs.isEmpty)\/∃kvs,H p=some (.dK kvs)/\k=!kvs.isEmpty
 |_=>False
def pV {κ:Type}{kvs:ef (κ×V)}{vs:ef (κ×dZ)}(r:KV kvs vs):(!vs.isEmpty)=!kvs.isEmpty:=by cases r <;> rfl
def pU {its:ef dZ}(r:gj xs its):(!its.toArray.isEmpty)=!xs.isEmpty:=by cases r <;> simp
def sV:(sizeLine:Nat)<2^63:=by rw[bt];decide
theorem zx:JC X (λx H Q=>∃k,Hz X.K x H k/\Q k H):=by
 intro B s σ H x v Q I l h;obtain⟨k,e,q⟩:=h;have D:=sV;have E:sizeLine=16777216:=bt;cases x with
 |non=>cases l;have a:k=false:=e;subst a;exact truthy_none ⟨H,I,q⟩
 |bl b=>cases l;have a:k=b:=e;subst a;exact bU ⟨H,I,q⟩
 |int i=>obtain⟨t,rfl⟩:=l;have a:k=(i != 0):=e;subst a;exact PySem.P.truthy_int ⟨H,I,q⟩
 |str y=>obtain⟨t,rfl⟩:=l;obtain⟨hy,a⟩:y.length<=sizeLine/\k=((y.length:Int) != 0):=e;subst a;exact PySem.P.truthy_str (by lia) ⟨H,I.tok _,q⟩
 |byt y=>obtain⟨t,rfl⟩:=l;obtain⟨hy,a⟩:y.size<=sizeLine/\k=((y.size:Int) != 0):=e;subst a;exact W.truthy_bytes (by lia) ⟨H,I.tok _,q⟩
 |ref p=>cases l;have a:(∃j,ff X.K H p j/\k=!j.isEmpty)\/(∃j,gC X.K H p j/\k=!j.isEmpty)\/∃d,H p=some (.dK d)/\k=!d.isEmpty:=e;rcases a with ⟨j,o,a⟩|⟨j,o,a⟩|⟨d,o,a⟩;subst a;obtain⟨A,r,z,C⟩:=I.list o;have g:=r.length;exact wpAny_truthy_list z.isList (by simp only[aN];lia) ⟨H,I.tok _,by rw[pU r];exact q⟩;subst a;obtain⟨A,r,z,C⟩:=I.tuple o;have g:=r.length;exact truthy_tuple z (by simp only[aN];lia) ⟨H,I.tok _,by rw[pU r];exact q⟩;subst a;obtain⟨C,hS,vs,r,m⟩:d.length<=sizeLine/\(p == sysModules)=false/\∃vs,KV d vs/\s.heap.DictOf (fq X.prog X.w) p vs:=I.hok p _ o;have g:d.length=vs.length:=Paired.length r;exact wpAny_truthy_dict hS m (by lia) ⟨H,I.tok _,by rw[pV r];exact q⟩
 |_=>exact(show False from e).elim
def iH (g:PE X a ta)(e:∀whole,isTrue a X.env whole=(do let v <-whole;standAt a.pos;holding [v] (truthy v))):PT X a (λσ H Q=>ta σ H λx H'=>∃k,Hz X.K x H' k/\Q k H'):=by intro b s σ H Q I h;exact isTrue_plain (gm (g b s σ H _ I h) (by rintro v l ⟨x,d,m,i,j⟩;exact zx b l σ d x v Q m i j)) (e _)
def jt {x:V}(r:gj [x] us):∃u,us=[u]/\fi x u:=by cases r with|cons r1 r2=>cases r2;exact⟨_,rfl,r1⟩
def wM {x:V}(r:gj [x,y] us):∃u w',us=[u,w']/\fi x u/\fi y w':=by cases r with|cons r1 r2=>cases r2 with|cons r3 r4=>cases r4;exact⟨_,_,rfl,r1,r3⟩
def y9 (b:X.calm=true):jC X (.builtin "max") (λxs H Q=>∃i j,xs=[.int i,.int j]/\Q (.int (if j>i then j else i)) H):=by intro a s σ H xs g Q I r h;obtain⟨i,j,rfl,q⟩:=h;obtain⟨u,d,rfl,⟨t,rfl⟩,⟨e,rfl⟩⟩:=wM r;refine max_two_ints (I.ok.hd b) λl m k=>⟨_,H,I.kept k,?_,q⟩;by_cases hj:j>i;rw[ay hj,ay hj];exact⟨_,rfl⟩;rw[av hj,av hj];exact⟨_,rfl⟩
def y8 (b:X.calm=true):jC X (.builtin "min") (λxs H Q=>∃i j,xs=[.int i,.int j]/\Q (.int (if j<i then j else i)) H):=by intro a s σ H xs g Q I r h;obtain⟨i,j,rfl,q⟩:=h;obtain⟨u,d,rfl,⟨t,rfl⟩,⟨e,rfl⟩⟩:=wM r;refine min_two_ints (I.ok.hd b) λl m k=>⟨_,H,I.kept k,?_,q⟩;by_cases hj:j<i;rw[ay hj,ay hj];exact⟨_,rfl⟩;rw[av hj,av hj];exact⟨_,rfl⟩
end
structure wG (h:Heap)(x dx C:dY)(mA:Str->el dZ):Prop where
 obj:h.get? x=some (W.instObj C dx)
 ns:h.Ns1 dx mA
 ne:dx≠x
def yK (n:h.Ns1 dx mA):∃od,h.get? dx=some od/\∀name,W.lookIn name od=some (mA name):=by
 obtain⟨o,d,r,i,g,m,_,l⟩:=n;refine⟨o,i,λname=>?_⟩;have e:=l name;unfold nsFind findBy at e;rw[<-Array.find?_toList]at e;unfold W.lookIn;rw[g];dsimp only;split;rename_i y q;rw[q]at e;exact congrArg some e;rename_i q;rw[q]at e;have a:d.toList.any (·.refKey)=false:=by rw[List.any_eq_false];intro y j;obtain⟨z,t,b⟩:=m y (Array.mem_toList_iff.mp j);simp[DictEntry.refKey,b]
 have p:¬d.toList.any (·.refKey)=true:=by rw[a];exact aT
 rw[av p];exact congrArg some e
def wG.look {x:dY}(I:wG h x dx C mA):∃od,W.InstAt h x (W.instObj C dx) C (some od)/\∀name,W.lookIn name od=some (mA name):=
 let ⟨od,ho,hl⟩:=yK I.ns
 ⟨od,⟨I.obj,rfl,rfl,ho⟩,hl⟩
section
variable {prog:ee}{x f:dY}{name:Str}{v:dZ}
def Dj {expr:Bool}(X:K.In s.heap)(I:wG s.heap x dx C mA)(i:W.plainGet K C name=true)(g:W.hasDictIn K C=true)(e:W.findIn K (.ref C) name=some none)(d:mA name=some v)(a:W.handedIn v=true)(h:Q v {s with toks:=s.toks+1}):wpAny (model prog w) A (getAttr (.ref x) name expr) Q E s:=by obtain⟨j,J,b⟩:=I.look;exact W.get_value X J (W.plainGet_of i).1 (W.findObj_own g e rfl (by rw[b,d])) a h
def Bm {Q:dZ×ef dZ->d0->Prop}(X:K.In s.heap)(I:wG s.heap x dx C mA)(a:W.plainGet K C name=true)(b:W.findIn K (.ref C) name=some (some (.ref f)))(i:W.isFn K (.ref f)=true)(g:mA name=none)(h:Q (.ref f,[.ref x]) s):wpAny (model prog w) A (getMethod (.ref x) name pl) Q E s:=by obtain⟨d,J,e⟩:=I.look;exact W.method_fn X J (W.plainGet_of a).1 (W.plainGet_of a).2 b (beq_iff_eq.mp i) (by show(W.lookIn name d).map (·.isSome)=some false;rw[e,g];rfl) h
theorem Ch {ns:ef Str}{Q:Unit->d0->Prop}(X:K.In s.heap)(I:wG s.heap x dx C mA)(q:W.findIn K (.ref C) "__setattr__" = some (some (.builtin "object.__setattr__")))(hp:W.plainOver K C=true)(p:W.takerIn K C name=some none)(o:W.hasDictIn K C=true)(m:PySem.Within mA ns)(hsz:ns.length<=sizeLine)(h:∀h',wG h' x dx C (λy=>if y=name then some v else mA y)->Heap.SameBut dx s.heap h'->Q () {s with heap:=h',toks:=s.toks+2}):wpAny (model prog w) A (setAttr (.ref x) name v) Q E s:=by obtain⟨L,J,G⟩:=I.look;refine W.set_plain X J q (W.osa_open (s:={s with toks:=s.toks+1}) (r:=none) X J hp p λb=>?_);obtain⟨F,B,j⟩:=W.any_some o;have t:s.heap.get? x=some ⟨.ref C,some dx,.plain,#[]⟩:=I.obj;refine ac (ar (ac (ac (wpAny_loadPart t (ac (W.Looks.here (s:={s with toks:=s.toks+1}) (W.looks_clsIn X B) ?_))))));rw[j];refine ar (a:=some dx) (ac (ar (ac ?_)));refine wpAny_nsSet1 (s:={s with toks:=s.toks+1}) I.ns λh' e d=>?_;obtain⟨H,D,z,i,l,g⟩:=e.count (PySem.Within.cons name v m);refine ac (wpAny_lookBehind i (by rw[l];exact pastItsLine_dict (bz g (by rw[aE];lia))) ?_);exact ar (h _ ⟨(d.2 _ (Ne.symm I.ne)).trans I.obj,e,I.ne⟩ d)
def A0 {R:Result->d0->Prop}{vs:ef dZ}(X:K.In s.heap)(b:W.makesIn K C=true)(i:W.findIn K (.ref C) "__init__" = some (some (.ref f)))(e:W.typeIn K (.ref f)=some (.type "function"))(h:codeAny (model prog w) (A.under (.builtin "type.__call__" ⟨.ref C::vs,kw⟩)) (.call (.ref f) ⟨.ref (s.heap.objs.size+1)::vs,kw⟩) (W.InitBack (s.heap.objs.size+1) R) {s with heap:=(s.heap.push W.emptyDict).push (W.instObj C s.heap.objs.size)}):codeAny (model prog w) A (.call (.ref C) ⟨vs,kw⟩) R s:=by obtain⟨l,g,d,t,j⟩:=s;exact W.make_core (W.makes_of X b) (W.looks_findIn X i) (λa=>W.bind_fn X a e) (.inl rfl) h
end
noncomputable def gz (f:Str)(v:V):ef (Str×V)->ef (Str×V)
 |[]=>[(f,v)]
 |(g,x)::r=>if g=f then (g,v)::r else (g,x)::gz f v r
theorem iL (f g:Str)(v:V):∀fs:ef (Str×V),(gz f v fs).lookup g=if g=f then some v else fs.lookup g
 |[]=>by show List.lookup g [(f,v)]=_;by_cases h:g=f;have hb:(g == f)=true:=beq_iff_eq.mpr h;simp only[List.lookup,hb,ay h];have hb:(g == f)=false:=beq_eq_false_iff_ne.mpr h;simp only[List.lookup,hb,av h]
 |(k,x)::r=>by have ih:=iL f g v r;rw[show gz f v ((k,x)::r)=(if k=f then (k,v)::r else (k,x)::gz f v r) from rfl];by_cases hk:k=f;rw[ay hk];by_cases h:g=k;have hb:(g == k)=true:=beq_iff_eq.mpr h;simp only[List.lookup,hb,ay (h.trans hk)];have hb:(g == k)=false:=beq_eq_false_iff_ne.mpr h;simp only[List.lookup,hb,av (λe:g=f=>h (e.trans hk.symm))];rw[av hk];by_cases h:g=k;have hb:(g == k)=true:=beq_iff_eq.mpr h;simp only[List.lookup,hb,av (λe:g=f=>hk (h.symm.trans e))];have hb:(g == k)=false:=beq_eq_false_iff_ne.mpr h;simp only[List.lookup,hb];exact ih
theorem nQ (f:Str)(v:V):∀fs:ef (Str×V),f∈(gz f v fs).map (·.1)/\∀g,g∈fs.map (·.1)->g∈(gz f v fs).map (·.1)
 |[]=>⟨by simp[gz],λg h=>by simp at h⟩
 |(k,x)::r=>by obtain⟨i1,i2⟩:=nQ f v r;rw[show gz f v ((k,x)::r)=(if k=f then (k,v)::r else (k,x)::gz f v r) from rfl];by_cases hk:k=f;rw[ay hk];subst hk;exact⟨by simp,λg h=>by simpa using h⟩;rw[av hk];refine⟨?_,λg h=>?_⟩;rw[aH];exact bj _ i1;rw[aH]at h ⊢;rcases ao.mp h with e|e;exact ao.mpr (.inl e);exact bj _ (i2 g e)
theorem ou (f:Str)(v:V):∀fs:ef (Str×V),(gz f v fs).length<=fs.length+1
 |[]=>by simp[gz]
 |(k,x)::r=>by have ih:=ou f v r;rw[show gz f v ((k,x)::r)=(if k=f then (k,v)::r else (k,x)::gz f v r) from rfl];by_cases hk:k=f;rw[ay hk,aE,aE];lia;rw[av hk,aE,aE];lia
def jG.some_of {o:el dZ}(r:jG (some v) o):∃u,o=some u/\fi v u:=by cases o with|none=>exact(show False from r).elim|some u=>exact⟨u,rfl,r⟩
def jG.none_of {o:el dZ}(r:jG none o):o=none:=by cases o with|none=>rfl|some u=>exact(show False from r).elim
def yX {u:dZ}(r:fi v u):W.handedIn u=true:=by cases v with|non=>cases (show u=Value.none from r);rfl|bl b=>cases (show u=Value.bool b from r);rfl|int i=>obtain⟨t,e⟩:=(show ∃t,u=Value.int i t from r);cases e;rfl|str x=>obtain⟨t,e⟩:=(show ∃t,u=Value.str x t from r);cases e;rfl|byt b=>obtain⟨t,e⟩:=(show ∃t,u=Value.bytes b t from r);cases e;rfl|flt b=>obtain⟨t,e⟩:=(show ∃t,u=Value.float b t from r);cases e;rfl|ref a=>cases (show u=Value.ref a from r);rfl|ty n=>cases (show u=Value.type n from r);rfl
section
variable {fs fs':ef (Str×V)}
def oT (b:lZ P w H h)(e:H a=some (.ins C dx fs)):∃mA,wG h a dx C mA/\(∀f,jG (fs.lookup f) (mA f))/\PySem.Within mA (fs.map (·.1))/\fs.length<=1000/\H dx=some (.own a):=by obtain⟨d,z,g,i,mA,n,r,q⟩:=(show gf P w H h a (.ins C dx fs) from b a _ e);exact⟨mA,⟨i,n,g⟩,r,q,z,d⟩
end
structure qx (K:W.Frag)(C:dY):Prop where
 pg:W.plainGet K C Str.empty=true
 hd:W.hasDictIn K C=true
 po:W.plainOver K C=true
 sa:W.findIn K (.ref C) "__setattr__" = some (some (.builtin "object.__setattr__"))
def qx.get (c:qx K C)(f:Str):W.plainGet K C f=true:=c.pg
def gs (K:W.Frag)(C:dY)(f:Str):Prop:=W.findIn K (.ref C) f=some none
def gs.taker {f:Str}(n:gs K C f):W.takerIn K C f=some none:=by unfold W.takerIn;rw[show W.findIn K (.ref C) f=some none from n];rfl
structure wH (K:W.Frag)(C:dY)(m:Str)(f:dY):Prop where
 at_:W.findIn K (.ref C) m=some (some (.ref f))
 fn:W.isFn K (.ref f)=true
 kp:W.keepIn K (.ref f)=true
section
variable {fs:ef (Str×V)}{f:Str}
def mG {b:Bool}(I:eX X pins σ H s)(e:H a=some (.ins C dx fs))(c:qx X.K C)(n:gs X.K C f)(l:fs.lookup f=some v)(h:∀u s',eX X pins σ H s'->fi v u->Q u s'):wpAny (model X.prog X.w) A (getAttr (.ref a) f b) Q E s:=by obtain⟨i,O,r,_,_,_⟩:=oT I.hok e;obtain⟨u,g,d⟩:=jG.some_of (v:=v) (o:=i f) (by rw[<-l];exact r f);exact Dj I.kIn O (c.get f) c.hd n g (yX d) (h u _ (I.tok _) d)
def pZ {g:dY}{Q:dZ×ef dZ->d0->Prop}(I:eX X pins σ H s)(e:H a=some (.ins C dx fs))(c:qx X.K C)(k:wH X.K C m g)(l:fs.lookup m=none)(h:Q (.ref g,[.ref a]) s):wpAny (model X.prog X.w) A (getMethod (.ref a) m pl) Q E s:=by obtain⟨d,O,r,_,_,_⟩:=oT I.hok e;have b:d m=none:=jG.none_of (by rw[<-l];exact r m);exact Bm I.kIn O (c.get m) k.at_ k.fn b h
theorem mn {u:dZ}{Q:Unit->d0->Prop}(I:eX X pins σ H s)(e:H a=some (.ins C dx fs))(c:qx X.K C)(n:gs X.K C f)(G:fs.length<1000)(t:fi y u)(h:∀s',eX X pins σ (upd H a (.ins C dx (gz f y fs))) s'->Q () s'):wpAny (model X.prog X.w) A (setAttr (.ref a) f u) Q E s:=by
 obtain⟨l,O,r,i,_,j⟩:=oT I.hok e;have F:(fs.map (·.1)).length<=sizeLine:=by rw[ab,bt];lia
 refine Ch I.kIn O c.sa c.po n.taker c.hd i F λv d B=>h _ ?_;have hd:∃o,v.get? dx=some o:=(by obtain⟨o,_,_,D,_⟩:=d.ns;exact⟨o,D⟩);refine I.write (x:=a) (e:=dx) (by rw[e];exact True.intro) (.inr j) (λb q m z=>(B.2 b m).trans z) hd ?_;refine⟨by rw[eB O.ne];exact j,?_,O.ne,d.obj,_,d.ns,λg=>?_,λg p=>?_⟩;have:=ou f y fs;lia;show jG ((gz f y fs).lookup g) (if g=f then some u else l g);rw[iL];by_cases q:g=f;rw[ay q,ay q];exact t;rw[av q,av q];exact r g;by_cases q:g=f;rw[q];exact(nQ f y fs).1;refine(nQ f y fs).2 g (i g λz=>p ?_);show(if g=f then some u else l g)=none;rw[av q];exact z
def eX.made (I:eX X pins σ H s):eX X pins σ (upd (upd H s.heap.objs.size (.own (s.heap.objs.size+1))) (s.heap.objs.size+1) (.ins C s.heap.objs.size [])) {s with heap:=(s.heap.push W.emptyDict).push (W.instObj C s.heap.objs.size)}:=by
 have d:(s.heap.push W.emptyDict).get? s.heap.objs.size=some W.emptyDict:=aM s.heap rfl;have m:((s.heap.push W.emptyDict).push (W.instObj C s.heap.objs.size)).get? (s.heap.objs.size+1)=some (W.instObj C s.heap.objs.size):=by have:=aM (s.heap.push W.emptyDict) (o:=W.instObj C s.heap.objs.size) rfl;rwa[dQ]at this
 have h:(s.heap.push W.emptyDict).Ns s.heap.objs.size (λ_=>none):=⟨W.emptyDict,#[],_,d,rfl,(λe i=>absurd i (by simp)),λ_=>rfl⟩;have l:=I.laid (a:=s.heap.objs.size) (o:=.own (s.heap.objs.size+1)) (h':=s.heap.push W.emptyDict) (t':=s.toks) (λb u q=>az _ q) (am _) ⟨_,d⟩;refine l.laid (a:=s.heap.objs.size+1) (o:=.ins C s.heap.objs.size []) (t':=s.toks) (λb u q=>az _ q) (cB (dQ _ _)) ?_;have g:s.heap.objs.size≠s.heap.objs.size+1:=aW (dh _);refine⟨by rw[eB g,er],br _,g,m,λ_=>none,(Heap.Ns1.of_empty h).at λo q=>az _ q,λ_=>True.intro,λy j=>absurd rfl j⟩
def xD {prog:ee}{env:Env}{f:Str}(hb:attributeBase e f env (eval e env)=eval e env)(h:wpAny (model prog w) A (eval e env) (λo s₁=>wpAny (model prog w) A (getAttr o f true) Q E s₁) E s):wpAny (model prog w) A (eval (.Attribute e f pos) env) Q E s:=
 Attribute_any_ h (by rw[arm_eval_Attribute,hb])
end
inductive HN (K:W.Frag)(f:Str)(Q:VK)(x:V)(H1:Hp):Prop
 |mk (a C dx fs v:_)(_:x=.ref a)(_:H1 a=some (.ins C dx fs))(_:qx K C)(_:gs K C f)(_:fs.lookup f=some v)(_:Q v H1)
def IN (K:W.Frag)(ta:TE)(f:Str):TE:=λσ H Q=>ta σ H λx H1=>HN K f Q x H1
inductive HR (K:W.Frag)(f:Str)(D:mN)(σ:St)(y:V)(x:V)(H2:Hp):Prop
 |mk (a C dx fs:_)(_:x=.ref a)(_:H2 a=some (.ins C dx fs))(_:qx K C)(_:gs K C f)(_:fs.length<1000)(_:D.nx σ (upd H2 a (.ins C dx (gz f y fs))))
def Jc (K:W.Frag)(ta tv:TE)(f:Str):TS:=λD σ H=>tv σ H λy H1=>ta σ H1 λx H2=>HR K f D σ y x H2
def FQ (X:Cx)(op:Operator)(rd:V->V->Hp->VK->Prop):Prop:=
 ∀(pins:ef (dY×Obj)) (s:d0) (σ:St) (H:Hp) (x y:V) (u v:dZ) (Q:VK),eX X pins σ H s->fi x u->fi y v->rd x y H Q->wpAny (model X.prog X.w) X.A (inplaceOp op u v) (EP X pins σ Q) X.xe s
section
variable {o value:Expr}{f:Str}{tpos:Pos}{tv:TE}
def jj (p:PE X e ta)(m:attributeBase e f X.env (eval e X.env)=eval e X.env):PE X (.Attribute e f pos) (IN X.K ta f):=by intro b s σ H Q I h;refine xD m (gm (p b s σ H _ I h) ?_);rintro u w ⟨x,g,j,i,a,C,A,fs,v,d,r,c,n,l,q⟩;subst d;obtain rfl:u=Value.ref a:=i;exact mG j r c n l λz y t o=>⟨v,g,t,o,q⟩
def Ah (w:PE X o ta)(v:PE X value tv)(r:swapsWith value (some (.Attribute o f pos')) pos.line X.env=pure false):PS X (.Assign [.Attribute o f pos'] value pos) (Jc X.K ta tv f):=by intro b s σ H D I h;refine plainObj_wpAny_Assign_Attribute (gm (v b s σ H _ I h) ?_) r;rintro u g ⟨y,e,j,m,q⟩;refine gm (w b g σ e _ j q) ?_;rintro p G ⟨x,E,A,i,a,C,J,fs,d,z,c,n,l,B⟩;subst d;obtain rfl:p=Value.ref a:=i;exact mn A z c n l m λF t=>⟨σ,_,t,B⟩
end
section
variable {c:dZ}{b:Bool}
inductive jU (K:W.Frag)(H:Hp):V->dZ->Prop where
 |non:jU K H .non (.type "NoneType")
 |bl (x:Bool):jU K H (.bl x) (.type "bool")
 |int (i:Int):jU K H (.int i) (.type "int")
 |str (x:Str):jU K H (.str x) (.type "str")
 |flt (x:UInt64):jU K H (.flt x) (.type "float")
 |lst {a:dY} {xs:ef V} (e:H a=some (.lst xs)):jU K H (.ref a) (.type "list")
 |frz {a:dY} {o:Obj} {xs:ef V} (e:H a=some (.frz o (.lst xs))):jU K H (.ref a) (.type "list")
 |tup {a:dY} {xs:ef V} (e:H a=some (.tup xs)):jU K H (.ref a) (.type "tuple")
 |dK {a:dY} {kvs:ef (gM×V)} (e:H a=some (.dK kvs)):jU K H (.ref a) (.type "dict")
 |dT {a:dY} {kvs:ef (ef gM×V)} (e:H a=some (.dT kvs)):jU K H (.ref a) (.type "dict")
 |ins {a C dx:dY} {fs:ef (Str×V)} (e:H a=some (.ins C dx fs)) (cl:qx K C) (ha:W.findIn K (.ref C) "__class__" = some (some (.builtin "object.__class__")))
   (hn:W.specialIn K (.builtin "object.__class__") "__get__" = some (some (.builtin "getset_descriptor.__get__"))) (htk:W.takesIn K (.builtin "object.__class__")=some true)
   (hm:W.mroIn K C (.type "object")=some true):jU K H (.ref a) (.ref C)
def yU {x:V}{u t:dZ}(I:eX X pins σ H s)(d:fi x u)(r:jU X.K H x t)(e:W.kitOne X.K t c=some b)(h:∀tk,Q (.bool b) {s with toks:=tk}):wpAny (model X.prog X.w) A (call (.builtin "isinstance") [u,c]) Q E s:=by cases r with|non=>cases (show u=Value.none from d);exact du W.kitx_none I.kIn True.intro e (λz=>nomatch z) h|bl y=>cases (show u=Value.bool y from d);exact du W.kitx_bool I.kIn True.intro e (λz=>nomatch z) h|int i=>obtain⟨t,q⟩:=(show ∃t,u=Value.int i t from d);cases q;exact du W.kitx_int I.kIn True.intro e (λz=>nomatch z) h|str y=>obtain⟨t,q⟩:=(show ∃t,u=Value.str y t from d);cases q;exact du W.kitx_str I.kIn True.intro e (λz=>nomatch z) h|flt y=>obtain⟨t,q⟩:=(show ∃t,u=Value.float y t from d);cases q;exact du W.kitx_float I.kIn True.intro e (λz=>nomatch z) h|@lst a j ea=>cases (show u=Value.ref a from d);obtain⟨_,_,n,_,g⟩:=(show gf X.prog X.w H s.heap a (.lst j) from I.hok a _ ea);exact du W.kitx_list I.kIn ⟨_,g,rfl⟩ e (λz=>nomatch z) h|@frz a ob j ea=>cases (show u=Value.ref a from d);obtain⟨_,_,_,n,_,g⟩:=(show gf X.prog X.w H s.heap a (.frz ob (.lst j)) from I.hok a _ ea);exact du W.kitx_list I.kIn ⟨_,g,rfl⟩ e (λz=>nomatch z) h|@tup a j ea=>cases (show u=Value.ref a from d);obtain⟨_,_,_,p⟩:=(show gf X.prog X.w H s.heap a (.tup j) from I.hok a _ ea);obtain⟨o,g,l,_⟩:=p;exact du W.kitx_tuple I.kIn ⟨o,g,l⟩ e (λz=>nomatch z) h|@dK a kvs ea=>cases (show u=Value.ref a from d);obtain⟨_,_,D,_,p⟩:=(show gf X.prog X.w H s.heap a (.dK kvs) from I.hok a _ ea);obtain⟨o,m,v,g,l,_⟩:=p;exact du W.kitx_dict I.kIn ⟨o,g,l.1⟩ e (λz=>nomatch z) h|@dT a kvs ea=>cases (show u=Value.ref a from d);obtain⟨_,_,j,_,o,m,v,g,l,_⟩:=(show gf X.prog X.w H s.heap a (.dT kvs) from I.hok a _ ea);exact du W.kitx_dict I.kIn ⟨o,g,l.1⟩ e (λz=>nomatch z) h|@ins a C dx fs ea cl ha hn htk hm=>cases (show u=Value.ref a from d);obtain⟨B,O,_⟩:=oT I.hok ea;obtain⟨F,J,_⟩:=O.look;exact du (W.kitx_own (cl.get _) cl.hd ha hn htk hm) I.kIn J e (λz=>nomatch z) h
end
structure gU (k:Nat)(A:dX):Prop where
 hd:A.handled=none
 dp:A.depth+3*k+5<recursionLimit
 un:A.units+16*k+200<cLine
theorem gU.mono {k:Nat}(r:gU k A)(h:j<=k):gU j A:=⟨r.hd,by have:=r.dp;lia,by have:=r.un;lia⟩
theorem gU.deeper {k:Nat}(r:gU (k+1) A)(env:Env):gU k (A.deeper env):=
 ⟨r.hd,by have:=r.dp;show A.depth+1+3*k+5<_;lia,by have:=r.un;show A.units+3+16*k+200<_;lia⟩
theorem gU.in1 {k:Nat}(r:gU (k+1) A):gU k A.in1:=
 ⟨r.hd,by have:=r.dp;show A.depth+3*k+5<_;lia,by have:=r.un;show A.units+1+16*k+200<_;lia⟩
def vW:(A.under (.builtin "type.__call__" ⟨.ref C::us,kw⟩)).depth=A.depth+1:=by first|rfl|simp[Around.under,Code.weight,Code.isCreation,Code.isGuard,Code.isCaller,Code.frames,Code.isFrame,guardIds]
def vV:(A.under (.builtin "type.__call__" ⟨.ref C::us,kw⟩)).units=A.units+1:=by first|rfl|simp[Around.under,Code.cUnits,Code.frames,Code.isFrame]
theorem gU.make {k:Nat}(r:gU (k+1) A)(C:dY)(us:ef dZ)(kw:ef (Str×dZ)):gU k (A.under (.builtin "type.__call__" ⟨.ref C::us,kw⟩)):=
 ⟨r.hd,by have:=r.dp;rw[vW];lia,by have:=r.un;rw[vV];lia⟩
theorem gU.depth {k:Nat}(r:gU k A):A.depth<recursionLimit:=by have:=r.dp;lia
theorem gU.units {k:Nat}(r:gU k A):A.units+64<cLine:=by have:=r.un;lia
def xU:TA:=λ_ H Q=>Q [] H
def qO (ta:TE)(tr:TA):TA:=λσ H Q=>ta σ H λx H1=>tr σ H1 λxs H2=>Q (x::xs) H2
section
variable {t:TA}
def eA:PA X [] xU:=λ_ _ _ _ H Q I h=>Calls.spliced_nil ⟨[],H,I,.nil,h⟩
def eo (q:PE X e te)(i:PA X es t)(hs:autoParam (starEach (e::es) X.env=(false,eval e X.env)::starEach es X.env) gF._auto_1):PA X (e::es) (qO te t):=by intro b a s σ H Q I h;rw[hs];show wpAny _ _ (spliced ((false,eval e X.env)::backTo b (starEach es X.env))) _ _ s;refine Calls.spliced_cons (gm (q a s σ H _ I h) ?_);rintro u l ⟨x,d,m,g,r⟩;exact gm (i b a l σ d _ m r) (by rintro y z ⟨j,p,v,o,w⟩;exact⟨x::j,p,v,.cons g o,w⟩)
def Gf (t:TA):TE:=λσ H Q=>t σ H λxs H1=>xs.length<=sizeLine/\∀p,H1 p=none->Q (.ref p) (upd H1 p (.tup xs))
def IH (t:TA):TE:=λσ H Q=>t σ H λxs H1=>xs.length<=sizeLine/\∀p,H1 p=none->Q (.ref p) (upd H1 p (.lst xs))
def gL {x1}(h:PA X es t):PE X (.Tuple es x1 pos) (Gf t):=by intro a s σ H Q I o;refine wpAny_Tuple_spliced (gm (h pos a s σ H _ I o) ?_);rintro m d ⟨l,g,i,r,z,q⟩;refine⟨by rw[<-r.length];exact z,?_⟩;have j:g d.heap.objs.size=none:=i.hok.fresh (am _);refine⟨.ref d.heap.objs.size,upd g d.heap.objs.size (.tup l),i.laid (t':=d.toks) (λb u e=>az _ e) (am _) ?_,rfl,q _ j⟩;exact⟨z,m,r,⟨_,aM _ rfl,rfl,_,rfl⟩⟩
def gy (h:PA X es t):PE X (.List es pos) (IH t):=by intro a s σ H Q I o;refine wpAny_List_spliced (gm (h pos a s σ H _ I o) ?_);rintro m d ⟨l,g,i,r,z,q⟩;refine⟨by rw[<-r.length];exact z,?_⟩;have j:g d.heap.objs.size=none:=i.hok.fresh (am _);refine⟨.ref d.heap.objs.size,upd g d.heap.objs.size (.lst l),i.laid (t':=d.toks) (λb u e=>az _ e) (am _) ?_,rfl,q _ j⟩;exact⟨z,m,0,r,aM _ rfl⟩
end
abbrev Sp:=ef V->Hp->VK->XK->Prop
abbrev u4:=ef Env->Hp->d0->XK->dZ->d0->Prop
structure wJ (P:ee)(w:World)(K:W.Frag)(mg:Str->el dZ)(base:Heap)(A:dX)(outer:ef Env)(s:d0)(H:Hp):Prop where
 frames:A.frames=some outer
 mod:Mod K mg base
 bs:∀b o,base.get? b=some o->s.heap.get? b=some o/\H b=none
 bsz:base.objs.size<=s.heap.objs.size
 funs:s.heap.FunFrames base outer
 frf:∀b∈Bp outer,H b=none
 hok:lZ P w H s.heap
 bare:AllBare s.gens
def CE (outer:ef Env)(P:ee)(w:World)(H:Hp)(s:d0)(Q:VK)(u:dZ)(s':d0):Prop:=
 ∃v H',s'.os=s.os/\AllBare s'.gens/\Un (Bp outer) [] H H' s.heap s'.heap/\lZ P w H' s'.heap/\fi v u/\Q v H'
def CR (CX:u4)(outer:ef Env)(P:ee)(w:World)(H:Hp)(s:d0)(Q:VK)(E:XK)(r:Result)(s':d0):Prop:=
 match r with
 |.ok (.ret u)=>CE outer P w H s Q u s'
 |.ok _=>False
 |.error e=>CX outer H s E e s'
structure fB (P:ee)(w:World)(K:W.Frag)(mg:Str->el dZ)(base:Heap)(CX:u4)(k:Nat)(f:dY)(fd:eg)(ps:ef Str)(sp:Sp):Prop where
 len:∀vs H Q E,sp vs H Q E->vs.length=ps.length
 run:∀(A:dX) (outer:ef Env) (s:d0) (H:Hp) (args:Args) (us:ef dZ) (vs:ef V) (Q:VK) (E:XK),gU k A->wJ P w K mg base A outer s H->BindsTo s fd args (ps.zip us)->gj vs us->sp vs H Q E->
  codeAny (model P w) A (.call (.ref f) args) (CR CX outer P w H s Q E) s
def fB.mono {base:Heap}{k:Nat}{f:dY}(F:fB P w K mg base CX j f fd ps sp)(h:j<=k):fB P w K mg base CX k f fd ps sp:=⟨F.len,λA outer s H args us vs Q E hr=>F.run A outer s H args us vs Q E (hr.mono h)⟩
def fB.imp {base:Heap}{k:Nat}{f:dY}{sp':Sp}(F:fB P w K mg base CX k f fd ps sp)(h:∀vs H Q E,sp' vs H Q E->sp vs H Q E):fB P w K mg base CX k f fd ps sp':=
 ⟨λvs H Q E q=>F.len vs H Q E (h _ _ _ _ q),λA outer s H args us vs Q E hr he hb hv hs=>F.run A outer s H args us vs Q E hr he hb hv (h _ _ _ _ hs)⟩
def wJ.make {base:Heap}{outer:ef Env}(e:wJ P w K mg base A outer s H)(C:dY)(us:ef dZ)(kw:ef (Str×dZ)):wJ P w K mg base (A.under (.builtin "type.__call__" ⟨.ref C::us,kw⟩)) outer s H:=⟨by first|exact e.frames|(simpa [Around.under,Code.envs,Code.isFrame,pushEnvs] using e.frames),e.mod,e.bs,e.bsz,e.funs,e.frf,e.hok,e.bare⟩
def eX.KY (I:eX X pins σ H s):wJ X.prog X.w X.K X.mg X.base X.A X.stack s H:=
 ⟨I.ok.frames,I.ok.mod,I.bs,bz I.ok.bsz I.sz,I.stack,I.KL,I.hok,I.bare⟩
def eX.after {Q:VK}{u:dZ}(I:eX X pins σ H s)(h:CE X.stack X.prog X.w H s Q u s'):EP X pins σ Q u s':=by obtain⟨v,l,os,a,un,e,r,q⟩:=h;obtain⟨j,g,d,t,i⟩:=s';obtain rfl:i=s.os:=os;exact⟨v,l,I.call (h':=j) (g':=g) (d':=d) (t':=t) (ch:=[]) un e a (λb z=>absurd z (by simp)),r,q⟩
def zD (sp:Sp)(dvs:ef V)(E:XK)(t:TA):TE:=λσ H Q=>t σ H λvs H1=>sp (vs++dvs) H1 Q E
inductive FI (C:dY)(m:Str)(sp:Sp)(dvs:ef V)(E:XK)(t:TA)(σ:St)(Q:VK)(x:V)(H1:Hp):Prop
 |mk (a dx fs:_)(_:x=.ref a)(_:H1 a=some (.ins C dx fs))(_:fs.lookup m=none)(_:t σ H1 λvs H2=>sp (x::(vs++dvs)) H2 Q E)
def uc (C:dY)(m:Str)(sp:Sp)(dvs:ef V)(E:XK)(ta:TE)(t:TA):TE:=λσ H Q=>ta σ H λx H1=>FI C m sp dvs E t σ Q x H1
def DJ (C:dY)(sp:Sp)(dvs:ef V)(E:XK)(t:TA):TE:=λσ H Q=>t σ H λvs H1=>∀x dx,H1 x=none->H1 dx=none->dx≠x->
 sp (.ref x::(vs++dvs)) (upd (upd H1 dx (.own x)) x (.ins C dx [])) (λv H2=>v=.non/\Q (.ref x) H2) E
def iM (K:W.Frag)(fd:eg)(ps:ef Str)(ds:ef dZ):Prop:=
 ∀(s:d0) (us:ef dZ),K.In s.heap->(us++ds).length=ps.length->BindsTo s fd ⟨us,[]⟩ (ps.zip (us++ds))
def iM.all (h:∀us:ef dZ,us.length=ps.length->bindArgs fd ⟨us,[]⟩=pure (ps.zip us)):iM K fd ps []:=λs us _ hl=>by
 rw[bY]at hl ⊢;exact .of_eq (h us hl)
def ku (CX:u4)(X:Cx)(E:XK):Prop:=∀(pins:ef (dY×Obj)) (σ:St) (H:Hp) (s:d0) (e:dZ) (s':d0),eX X pins σ H s->CX X.stack H s E e s'->X.xe e s'
section
variable {k:Nat}{f:dY}{dvs:ef V}{ds:ef dZ}{E:XK}{apos:Pos}{o:Expr}{t:TA}
def sC {Q:VK}(F:fB X.prog X.w X.K X.mg X.base CX k f fd ps sp)(j:gU k X.A)(l:iM X.K fd ps ds)(d:gj dvs ds)(m:ku CX X E)(I:eX X pins σ H s)(r:gj vs us)(h:sp (vs++dvs) H Q E):wpAny (model X.prog X.w) X.A (call (.ref f) us) (EP X pins σ Q) X.xe s:=by
 have b:gj (vs++dvs) (us++ds):=r.append d;have i:(us++ds).length=ps.length:=by rw[<-b.length];exact F.len _ _ _ _ h
 refine wpAny_call (codeAny_mono (F.run X.A X.stack s H ⟨us,[]⟩ (us++ds) (vs++dvs) Q E j I.KY (l s us I.kIn i) b h) λr g a=>?_);cases r with|error e=>exact m pins σ H s e g I a|ok fl=>cases fl with|ret u=>exact I.after a|next=>exact False.elim a|brk=>exact False.elim a|cont=>exact False.elim a
def CH (F:fB X.prog X.w X.K X.mg X.base CX k f fd ps sp)(g:gU k X.A)(j:Gl X x)(m:X.mg x=some (.ref f))(o:W.keepIn X.K (.ref f)=true)(i:iM X.K fd ps ds)(d:gj dvs ds)(l:ku CX X E)(v:PA X (e::es) t)(hdb:autoParam ((x == ("__debug__":Str))=false) Aq._auto_1)(he:autoParam (starEach (e::es) X.env=(false,eval e X.env)::starEach es X.env) gF._auto_1)(hpl:autoParam ((backTo pos (starEach es X.env)).any (·.1)=false) gF._auto_1):PE X (.Call (.Name x p) (e::es) [] pos) (zD sp dvs E t):=by intro a s σ H Q I h;refine bH (sX I j m ?_ hdb);refine W.callWith_K (h₀:=X.base) I.ok.mod.kin o (gm (v pos a s σ H _ I h) ?_) he hpl;rintro B z ⟨C,y,b,r,q⟩;refine⟨b.kIn,?_⟩;exact sC F g i d l b r q
def CA (J:PE X o ta)(c:qx X.K C)(g:wH X.K C m f)(F:fB X.prog X.w X.K X.mg X.base CX k f fd ps sp)(y:gU k X.A)(D:iM X.K fd ps ds)(j:gj dvs ds)(G:ku CX X E)(L:PA X (e::es) t)(hst:autoParam (starEach (e::es) X.env=(false,eval e X.env)::starEach es X.env) gF._auto_1)(hpl:autoParam ((backTo pos (starEach es X.env)).any (·.1)=false) gF._auto_1)(ht:eval (.Call (.Attribute o m apos) (e::es) [] pos) X.env=(do
   let ov <-eval o X.env
   standAt apos.atName
   let (f,first) <-holding [ov] (getMethod ov m pl)
   callWith pos f first (backTo pos (starEach (e::es) X.env)) (backToKw pos (keywordEach [] X.env))):=by rfl) :
  PE X (.Call (.Attribute o m apos) (e::es) [] pos) (uc C m sp dvs E ta t):=by
 intro b s σ H Q I h;refine W.methodCall_KW (pl:=pl) (gm (J b s σ H _ I h) ?_) ht;rintro u z ⟨x,v,d,B,a,R,fs,p,M,l,q⟩;subst p;obtain rfl:u=Value.ref a:=B;refine pZ d M c g l ?_;refine W.callWith_K (first:=[.ref a]) (h₀:=X.base) I.ok.mod.kin g.kp (gm (L pos b z σ v _ d q) ?_) hst hpl;rintro us P ⟨vs,O,i,r,N⟩;refine⟨i.kIn,?_⟩;exact sC (us:=.ref a::us) (vs:=.ref a::vs) F y D j G i (.cons rfl r) N
def As (v:PE X o ta)(c:qx X.K C)(e:wH X.K C m f)(F:fB X.prog X.w X.K X.mg X.base CX k f fd ps sp)(j:gU k X.A)(r:iM X.K fd ps ds)(g:gj dvs ds)(t:ku CX X E)(ht:eval (.Call (.Attribute o m apos) [] [] pos) X.env=(do
   let ov <-eval o X.env
   standAt apos.atName
   let (f,first) <-holding [ov] (getMethod ov m pl)
   callWith pos f first (backTo pos (starEach [] X.env)) (backToKw pos (keywordEach [] X.env))):=by rfl) :
  PE X (.Call (.Attribute o m apos) [] [] pos) (uc C m sp dvs E ta xU):=by
 intro b s σ H Q I h;refine W.methodCall_KW (pl:=pl) (gm (v b s σ H _ I h) ?_) ht;rintro u B ⟨x,z,d,p,a,D,fs,i,y,l,q⟩;subst i;obtain rfl:u=Value.ref a:=p;refine pZ d y c e l ?_;exact W.callWith_K0 (first:=[.ref a]) d.kIn e.kp (sC (us:=[.ref a]) (vs:=[.ref a]) F j r g t d (.cons rfl .nil) q)
structure Mk (K:W.Frag)(C f:dY):Prop where
 makes:W.makesIn K C=true
 init:W.findIn K (.ref C) "__init__" = some (some (.ref f))
 fn:W.isFn K (.ref f)=true
 kp:W.keepIn K (.ref C)=true
def Ad {Q:VK}(M:Mk X.K C f)(F:fB X.prog X.w X.K X.mg X.base CX k f fd ps sp)(m:gU (k+1) X.A)(o:iM X.K fd ps ds)(i:gj dvs ds)(p:ku CX X E)(I:eX X pins σ H s)(r:gj vs us)(h:∀x dx,H x=none->H dx=none->dx≠x->sp (.ref x::(vs++dvs)) (upd (upd H dx (.own x)) x (.ins C dx [])) (λv H2=>v=.non/\Q (.ref x) H2) E):wpAny (model X.prog X.w) X.A (call (.ref C) us) (EP X pins σ Q) X.xe s:=by
 have g:=h (s.heap.objs.size+1) s.heap.objs.size (I.hok.fresh (dB _)) (I.hok.fresh (am _)) (aW (dh _));have b:=eX.made (C:=C) I;have d:gj (V.ref (s.heap.objs.size+1)::(vs++dvs)) (Value.ref (s.heap.objs.size+1)::(us++ds)):=.cons rfl (r.append i);have l:(Value.ref (s.heap.objs.size+1)::us++ds).length=ps.length:=by have e:=d.length;rw[F.len _ _ _ _ g]at e;exact e.symm
 refine wpAny_call (A0 (f:=f) I.kIn M.makes M.init (beq_iff_eq.mp M.fn) (codeAny_mono (F.run _ X.stack _ _ ⟨Value.ref (s.heap.objs.size+1)::us,[]⟩ (Value.ref (s.heap.objs.size+1)::(us++ds)) _ _ E (m.make C us []) (b.KY.make C us []) (o _ (Value.ref (s.heap.objs.size+1)::us) b.kIn l) d g) λr j a=>?_));cases r with|error e=>exact p pins σ _ _ e j b a|ok fl=>cases fl with|ret u=>obtain⟨v,y,t,B,q,z⟩:=b.after a;subst q;exact⟨B,⟨V.ref (s.heap.objs.size+1),y,t,rfl,z⟩⟩|next=>exact False.elim a|brk=>exact False.elim a|cont=>exact False.elim a
def CD (M:Mk X.K C f)(F:fB X.prog X.w X.K X.mg X.base CX k f fd ps sp)(g:gU (k+1) X.A)(j:Gl X x)(m:X.mg x=some (.ref C))(i:iM X.K fd ps ds)(d:gj dvs ds)(l:ku CX X E)(o:PA X (e::es) t)(hdb:autoParam ((x == ("__debug__":Str))=false) Aq._auto_1)(he:autoParam (starEach (e::es) X.env=(false,eval e X.env)::starEach es X.env) gF._auto_1)(hpl:autoParam ((backTo pos (starEach es X.env)).any (·.1)=false) gF._auto_1):PE X (.Call (.Name x p) (e::es) [] pos) (DJ C sp dvs E t):=by intro a s σ H Q I h;refine bH (sX I j m ?_ hdb);refine W.callWith_K (h₀:=X.base) I.ok.mod.kin M.kp (gm (o pos a s σ H _ I h) ?_) he hpl;rintro z y ⟨B,v,b,r,q⟩;refine⟨b.kIn,?_⟩;exact Ad M F g i d l b r q
end
section
variable {k:Nat}{f:dY}{ks:ef Str}{E:XK}{apos kpos:Pos}{o:Expr}{kws:ef Keyword}{t tk:TA}{nm:el Str}
variable {g:ef dZ->ef dZ->ef dZ}{gV:ef V->ef V->ef V}
end
structure eQ (N P:ef Str)(sc:Scope):Prop where
 kind:sc.kind=.function:=by rfl
 co:sc.isCoroutine=false:=by rfl
 gen:sc.isGenerator=false:=by rfl
 nd:N.Nodup:=by decide +kernel
 pre:N.take P.length=P:=by rfl
 par:∀x∈P,sc.names.lookup x=some .local\/sc.names.lookup x=some .cell:=by decide +kernel
 nofree:∀y∈sc.names,y.2≠.free:=by decide +kernel
theorem rm {kindOf:Str->el NameKind}{x:Str}:∀{binds:ef (Str×dZ)} {m:Str->el dZ},(∀v,(x,v)∉binds)->bindL kindOf binds m x=m x
 |[],_,_=>rfl
 |(n,v)::r,m,h=>by
  unfold bindL;rw[rm λw hw=>h w (bj _ hw)];split;have:x≠n:=by rintro rfl;exact h v bC
  simp[this];rfl
theorem rp {kindOf:Str->el NameKind}{x:Str}:∀{binds:ef (Str×dZ)} {m:Str->el dZ},(∀v,(x,v)∉binds)->bindC kindOf binds m x=m x
 |[],_,_=>rfl
 |(n,v)::r,m,h=>by
  unfold bindC;rw[rp λw hw=>h w (bj _ hw)];split;rfl;have:x≠n:=by rintro rfl;exact h v bC
  simp[this]
theorem rn {kindOf:Str->el NameKind}{x:Str}{v:dZ}:∀{P:ef Str} {vs:ef dZ} {i:Nat} {m:Str->el dZ},P.Nodup->P[i]?=some x->vs[i]?=some v->kindOf x=some .local->bindL kindOf (P.zip vs) m x=some v
 |[],_,_,_,_,h,_,_=>by simp at h
 |_::_,[],_,_,_,_,h,_=>by simp at h
 |p::P,w::vs,0,m,nd,h1,h2,hk=>by simp at h1 h2;subst h1;subst h2;show bindL kindOf ((p,w)::P.zip vs) m p=_;unfold bindL;rw[rm λv hv=>(aX.mp nd).1 (List.of_mem_zip hv).1,ay hk];simp
 |p::P,w::vs,i+1,m,nd,h1,h2,hk=>by show bindL kindOf ((p,w)::P.zip vs) m x=_;unfold bindL;exact rn (i:=i) (aX.mp nd).2 (by simpa using h1) (by simpa using h2) hk
theorem rA {kindOf:Str->el NameKind}{x:Str}{v:dZ}:∀{P:ef Str} {vs:ef dZ} {i:Nat} {m:Str->el dZ},P.Nodup->P[i]?=some x->vs[i]?=some v->kindOf x≠some .local->bindC kindOf (P.zip vs) m x=some v
 |[],_,_,_,_,h,_,_=>by simp at h
 |_::_,[],_,_,_,_,h,_=>by simp at h
 |p::P,w::vs,0,m,nd,h1,h2,hk=>by simp at h1 h2;subst h1;subst h2;show bindC kindOf ((p,w)::P.zip vs) m p=_;unfold bindC;rw[rp λv hv=>(aX.mp nd).1 (List.of_mem_zip hv).1,av hk];simp
 |p::P,w::vs,i+1,m,nd,h1,h2,hk=>by show bindC kindOf ((p,w)::P.zip vs) m x=_;unfold bindC;exact rA (i:=i) (aX.mp nd).2 (by simpa using h1) (by simpa using h2) hk
noncomputable def start (N:ef Str)(vs:ef V):St:=vs.map some++List.replicate (N.length-vs.length) none
noncomputable def qG (CX:u4)(P:ee)(w:World)(K:W.Frag)(mg:Str->el dZ)(base:Heap)(N:ef Str)(qual:Str)(scope:Scope)(f:dY)(cd:dZ)(A:dX)(outer:ef Env)(s:d0)(H:Hp)(E:XK):Cx where
 prog:=P
 w:=w
 K:=K
 mg:=mg
 base:=base
 A:=A.deeper (envOfC qual scope s.heap.objs.size f cd)
 N:=N
 s₀:=s
 H₀:=H
 env:=envOfC qual scope s.heap.objs.size f cd
 outer:=outer
 stack:=envOfC qual scope s.heap.objs.size f cd::outer
 ex:=[]
 calm:=true
 fn:=λ_=>true
 pn:=[]
 xe:=λe s'=>wpAny (model P w) (A.deeper (envOfC qual scope s.heap.objs.size f cd)) (leaving (envOfC qual scope s.heap.objs.size f cd) e) (λ_ s''=>CX outer H s E e s'') (λe' s''=>CX outer H s E e' s'') s'
def uP {sc:Scope}{n:Nat}(h:sc.names.lookup x=some .cell):∃c,(cellsFrom n sc.names []).lookup x=some c:=by have q:=W.cellsFrom_some sc.names n [] (.inl h);exact dU.mp q
theorem yV {base:Heap}{N:ef Str}{qual:Str}{scope:Scope}{f:dY}{cd:dZ}{outer:ef Env}{s1:d0}{E:XK}(S:eQ N ps scope)(C:A.handled=none)(g:wJ P w K mg base A outer s H)(I:vs.length=ps.length)(r:gj vs us)(x:InCallC s s.heap.objs.size (bindL (envOfC qual scope s.heap.objs.size f cd).kindOf (ps.zip us) λ_=>none) (cellsFrom (s.heap.objs.size+1) scope.names []) (bindC (envOfC qual scope s.heap.objs.size f cd).kindOf (ps.zip us) λ_=>none) s1):eX (qG CX P w K mg base N qual scope f cd A outer s H E) [] (start N vs) H s1:=by
 have D:ps.length<=N.length:=by have:=congrArg List.length S.pre;rw[aV]at this;lia
 obtain⟨o,L,rfl,B⟩:=x.done;have j:∀b:dY,b∉(qG CX P w K mg base N qual scope f cd A outer s H E).ex:=λb z=>absurd (show b∈([]:ef dY) from z) (by simp);refine⟨⟨g.mod,S.kind,rfl,rfl,am _,λy z c o d=>?_,λy hy=>?_,λy c _ h=>?_,λ_=>C,Around.frames_deeper g.frames,.inr ⟨rfl,rfl⟩,λb z=>absurd z (j b),g.bs,g.bsz,λb _ _=>j b,λb z=>absurd z (j b),g.funs,g.frf⟩,rfl,g.bare,Un.kept B,⟨_,x.toInCall.ns,λi y v o d J=>?_⟩,λy c h=>⟨_,x.cell y c h⟩,g.hok.fresh (am _),λy c h=>?_,λp hp=>absurd (show p∈([]:ef (dY×Obj)) from hp) (by simp),g.hok.kept B,?_⟩;exact name_of_addr x.apart (bE o) (bE d);have hy:scope.names.lookup y=some .cell\/scope.names.lookup y=some .free:=hy;rcases hy with hy|hy;exact uP hy;exact absurd rfl (S.nofree _ (bE hy));exact cA (x.above y c (bE h));have m:i<vs.length:=by unfold start at d;by_cases m:i<vs.length;exact m;rw[bh (by simpa using m)]at d;rw[List.getElem?_replicate]at d;split at d <;> cases d
 have F:vs[i]?=some v:=by unfold start at d;rw[aQ (by simpa using m),ae]at d;cases e:vs[i]? with|none=>rw[e]at d;cases d|some a=>rw[e]at d;cases d;rfl
 obtain⟨u,t,G⟩:=r.get F;have hp:ps[i]?=some y:=by rw[<-S.pre,List.getElem?_take_of_lt (by lia)];exact o
 have l:ps.Nodup:=by rw[<-S.pre];exact S.nd.sublist (dW _ _)
 refine⟨u,G,?_⟩;rcases S.par y (ai hp) with k|k;exact .inl ⟨k,rn l hp t k⟩;obtain⟨c,e⟩:=uP (n:=s.heap.objs.size+1) k;refine .inr ⟨.inl k,c,e,?_⟩;have q:=x.cell y c e;rw[rA l hp t (by show scope.names.lookup y≠_;rw[k];decide)]at q;exact q;exact g.hok.fresh (cA (x.above y c (bE h)));unfold start;show _=N.length;rw[aD,ab,List.length_replicate];lia
def DW {base:Heap}{k:Nat}{f:dY}{name qual:Str}{params:Arguments}{scope:Scope}{dV kV doc pm cdv ct oc:dZ}{an od:el dY}{osl:Array (el dZ)}{N ps:ef Str}{sp:Sp}(G:K.lookup f=some ⟨oc,od,.func (W.fnOf name qual params body scope dV kV doc pm an cdv ct),osl⟩)(B:W.codeIn K cdv qual=true)(S:eQ N ps scope)(len:∀vs H Q E,sp vs H Q E->vs.length=ps.length)(d:∀(A:dX) (outer:ef Env) (s:d0) (H:Hp) (vs:ef V) (Q:VK) (E:XK),gU k (A.deeper (envOfC qual scope s.heap.objs.size f cdv))->sp vs H Q E->∃t,ni (qG CX P w K mg base N qual scope f cdv A outer s H E) body t/\t {nx:=λ_ H'=>Q .non H',rt:=Q} (start N vs) H):fB P w K mg base CX (k+1) f (W.fnOf name qual params body scope dV kV doc pm an cdv ct) ps sp:=by
 refine⟨len,λA outer s H C Y vs Q E z h M r j=>?_⟩;have U:=len _ _ _ _ j;have D:K.In s.heap:=h.mod.kin.keeps λb o e=>(h.bs b o e).1;have m:s.heap.NoLimit:=h.mod.nolimit.keeps λb o e=>(h.bs b o e).1;have a:∀y∈ps.zip Y,scope.names.lookup y.1=some .local\/(scope.names.lookup y.1=some .cell/\((cellsFrom (s.heap.objs.size+1) scope.names []).lookup y.1).isSome=true):=λ⟨n,v⟩ T=>by rcases S.par n (List.of_mem_zip T).1 with q|q;exact .inl q;exact .inr ⟨q,W.cellsFrom_some _ _ _ (.inl q)⟩
 refine codeAny_call_function z.depth (D _ _ G) rfl S.co S.gen rfl (W.codeRec_of D B) (M _ _ _ _ ?_);refine wpAny_newFunctionEnv_cells S.kind a λR Z F x=>?_;subst Z;refine⟨m.keeps x.toInCall.keep,codeAny_func ?_⟩;obtain⟨t,L,O⟩:=d A outer s H vs Q E (z.deeper _) j;have I:eX (qG CX P w K mg base N qual scope f cdv A outer s H E) [] (start N vs) H F:=yV S z.hd h U r x;refine bV (L [] F (start N vs) H _ I O) (λX l g=>?_) λe l g=>g;have i:∀{σ':St} {H':Hp} {v:V} {u:dZ},eX (qG CX P w K mg base N qual scope f cdv A outer s H E) [] σ' H' l->fi v u->Q v H'->CE outer P w H s Q u l:=λ{σ' H' v u} J p q=>⟨v,H',J.os,J.bare,J.base,J.hok,p,q⟩;cases X with|ret u=>obtain⟨v,σ',H',J,p,q⟩:=g;exact i J p q|next=>obtain⟨σ',H',J,q⟩:=g;exact i (v:=V.non) (u:=Value.none) J rfl q|brk=>obtain⟨_,_,_,q⟩:=g;exact False.elim q|cont=>obtain⟨_,_,_,q⟩:=g;exact False.elim q
section
variable {t:TA}{id T:String}{r:ef V->Hp->VK->Prop}
def JZ (r:ef V->Hp->VK->Prop)(t:TA):TE:=λσ H Q=>t σ H λvs H1=>r vs H1 Q
def fe (y:jC X (.builtin id) r)(q:Gl X x)(b:X.mg x=none)(j:bootBuiltins x=some (.builtin id))(l:PA X (e::es) t)(hn:autoParam (x≠"__name__") Aq._auto_1)(hdb:autoParam ((x == ("__debug__":Str))=false) Aq._auto_1)(he:autoParam (starEach (e::es) X.env=(false,eval e X.env)::starEach es X.env) gF._auto_1)(hpl:autoParam ((backTo pos (starEach es X.env)).any (·.1)=false) gF._auto_1):PE X (.Call (.Name x p) (e::es) [] pos) (JZ r t):=by intro a s σ H Q I h;refine bH (jP I q b j ?_ hn hdb);exact PyProof.Rows.callWith_builtin1 (gm (l pos a s σ H _ I h) (by rintro d v ⟨g,i,w,m,o⟩;exact y a v σ i g d Q w m o)) he hpl
def ig (y:jC X (.type T) r)(q:Gl X x)(b:X.mg x=none)(j:bootBuiltins x=some (.type T))(l:PA X (e::es) t)(hn:autoParam (x≠"__name__") Aq._auto_1)(hdb:autoParam ((x == ("__debug__":Str))=false) Aq._auto_1)(he:autoParam (starEach (e::es) X.env=(false,eval e X.env)::starEach es X.env) gF._auto_1)(hpl:autoParam ((backTo pos (starEach es X.env)).any (·.1)=false) gF._auto_1):PE X (.Call (.Name x p) (e::es) [] pos) (JZ r t):=by intro a s σ H Q I h;refine bH (jP I q b j ?_ hn hdb);exact PyProof.Rows.callWith_type1 (gm (l pos a s σ H _ I h) (by rintro d v ⟨g,i,w,m,o⟩;exact y a v σ i g d Q w m o)) he hpl
end
end Lake
namespace HT
open PySem PyProof.Rows
section
open PySem.SeqAt
open PySem.AutoSeq1 (wpAny_loadPart')
open PySem.MeetsSeq PySem.MeetsSeq2 PySem.MeetsSeq3
end
section
variable {prog:ee}{w:World}{A:dX}{E:dZ->d0->Prop}{s:d0}
noncomputable def oK (n d:Nat):el Int->Nat
 |none=>d
 |some v=>if v<0 then (v+(n:Int)).toNat else min v.toNat n
def zX (n d:Nat):oK n d none=d:=rfl
theorem wR (n d k:Nat):oK n d (some (k:Int))=min k n:=by show(if (k:Int)<0 then ((k:Int)+(n:Int)).toNat else min (k:Int).toNat n)=min k n;rw[av (by lia),bA]
end
end HT
namespace Lake
open PySem PySem.Spec PyProof.Rows
variable {A:dX}{E Q:dZ->d0->Prop}{H H':Hp}{P:ee}{T:String}{X:Cx}{a:dY}{e:Expr}{kvs:ef (gM×V)}{o:el V}{pins:ef (dY×Obj)}{pos:Pos}{s:d0}{t':Nat}{v y:V}{w:World}{xs:ef V}{σ:St}
abbrev TO:=St->Hp->(el Int->Hp->Prop)->Prop
def PO (X:Cx)(e:el Expr)(t:TO):Prop:=
 ∀(pins:ef (dY×Obj)) (s:d0) (σ:St) (H:Hp) (Q:el Int->Hp->Prop),eX X pins σ H s->t σ H Q->
  wpAny (model X.prog X.w) X.A (evalPart e X.env) (λu s'=>∃o H',eX X pins σ H' s'/\IsPart u o/\Q o H') X.xe s
def B9:TO:=λ_ H Q=>Q none H
inductive FE (Q:el Int->Hp->Prop)(x:V)(H1:Hp):Prop
 |mk (i:_)(_:x=.int i)(_:Q (some i) H1)
def Gi (t:TE):TO:=λσ H Q=>t σ H λx H1=>FE Q x H1
def pW {ns:ef Int}:∀{us:ef dZ},gj (ns.map V.int) us->IntsAre us ns:=by induction ns with|nil=>intro us r;rw[cQ]at r;cases r;exact .nil|cons n ns ih=>intro us r;rw[aH]at r;cases r with|cons r1 r2=>obtain⟨t,e⟩:=r1;subst e;exact .cons n t (ih r2)
section
variable {te:TE}{lo hi:el Expr}{tl th:TO}{p2:Pos}
def sI:PO X none B9:=by intro a s σ H Q I h;rw[evalPart_none];exact ar ⟨none,H,I,.none,h⟩
def mQ (h:PE X e te):PO X (some e) (Gi te):=by intro a s σ H Q I b;rw[evalPart_some];refine gm (h a s σ H _ I b) ?_;rintro u m ⟨x,d,j,g,l⟩;obtain⟨i,rfl,q⟩:=l;obtain⟨t,rfl⟩:=g;exact⟨some i,d,j,.int i t,q⟩
def J4 (X:Cx)(r:V->el Int->el Int->Hp->VK->Prop):Prop:=
 ∀(pins:ef (dY×Obj)) (s:d0) (σ:St) (H:Hp) (x:V) (v vl vu:dZ) (lo hi:el Int) (sl:dY) (Q:VK),eX X pins σ H s->fi x v->s.heap.IsSliceOf sl vl vu .none->IsPart vl lo->IsPart vu hi->r x lo hi H Q->
  ∃T id,typeLookup (.type T) "__getitem__" = pure (some (.builtin id))/\s.TypeIs v T/\wpAny (model X.prog X.w) X.A (getItem v (.ref sl)) (EP X pins σ Q) X.xe s
def Ka (r:V->el Int->el Int->Hp->VK->Prop)(te:TE)(tl th:TO):TE:=λσ H Q=>te σ H λx H1=>tl σ H1 λl H2=>th σ H2 λu H3=>r x l u H3 Q
def mU {r:V->el Int->el Int->Hp->VK->Prop}(K:J4 X r)(P:PE X e te)(G:PO X lo tl)(N:PO X hi th):PE X (.Subscript e (.Slice lo hi none p2) pos) (Ka r te tl th):=by intro a s σ H Q I h;refine Subscript_ (gm (P a s σ H _ I h) ?_);rintro v M ⟨x,F,p,j,C⟩;refine wpAny_Slice (gm (G a M σ F _ p C) ?_);rintro g z ⟨l,O,E,J,R⟩;refine gm (N a z σ O _ E R) ?_;rintro d s3 ⟨u,i,y,L,D⟩;rw[evalPart_none];refine ar ?_;have m:eX X a σ i {s3 with heap:=s3.heap.push {cls:=.type "slice",data:=.fields #[g,d,.none]}}:=y.kept (t':=s3.toks) λb S q=>az _ q;obtain⟨T,id,B,o,t⟩:=K a {s3 with heap:=s3.heap.push {cls:=.type "slice",data:=.fields #[g,d,.none]}} σ i x v g d l u s3.heap.objs.size Q m j (Heap.IsSliceOf.new ..) J L D;show wpAny (model X.prog X.w) X.A (subscriptTail e (.Slice lo hi none p2) v (.ref s3.heap.objs.size)) (EP X a σ Q) X.xe {s3 with heap:=s3.heap.push {cls:=.type "slice",data:=.fields #[g,d,.none]}};exact tail_any (ops:=[.ref s3.heap.objs.size,v]) o B t (by with_unfolding_all rfl)
def qd (xs:ef V)(lo hi:el Int):ef V:=(xs.drop (HT.oK xs.length 0 lo)).take (HT.oK xs.length xs.length hi-HT.oK xs.length 0 lo)
theorem uM (xs:ef V)(a b:el Int):(qd xs a b).length<=xs.length:=by unfold qd;rw[aV,List.length_drop];lia
end
noncomputable def E6 (n:Nat)(i:Int):el Nat:=if 0<=i then (if i<n then some i.toNat else none) else if -(n:Int)<=i then some (i+n).toNat else none
def uT {α:Type}(xs:ef α)(i:Int):el α:=(E6 xs.length i).bind λj=>xs[j]?
theorem De {n:Nat}{i:Int}{j:Nat}(h:E6 n i=some j):seqIndex? i n=some j/\j<n/\-(n:Int)<=i/\i<n:=by unfold E6 at h;by_cases h0:0<=i;rw[ay h0]at h;by_cases h1:i<n;rw[ay h1]at h;have e:i.toNat=j:=Option.some.inj h;exact⟨by rw[seqIndex_of h0 h1,e],by lia,by lia,h1⟩;rw[av h1]at h;cases h;rw[av h0]at h;by_cases h1:-(n:Int)<=i;rw[ay h1]at h;have e:(i+n).toNat=j:=Option.some.inj h;exact⟨by rw[seqIndex_neg (by lia) h1,e],by lia,h1,by lia⟩;rw[av h1]at h;cases h
def xE {α:Type}{xs:ef α}{i:Int}{v:α}(h:uT xs i=some v):∃j,seqIndex? i xs.length=some j/\xs[j]?=some v/\j<xs.length/\-(xs.length:Int)<=i/\i<xs.length:=by unfold uT at h;cases e:E6 xs.length i with|none=>rw[e]at h;cases h|some j=>rw[e]at h;obtain⟨a,b,g,d⟩:=De e;exact⟨j,a,h,b,g,d⟩
theorem oX {α:Type}{xs:ef α}{j:Nat}{v:α}(h:xs[j]?=some v):uT xs (j:Int)=some v:=by
 have a:j<xs.length:=(af.mp h).1;have e:E6 xs.length (j:Int)=some j:=by unfold E6;rw[ay (by lia),ay (by lia)];simp
 unfold uT;rw[e];exact h
def Dx (b:Expr):Prop:=∀o i,subscripted b false o i=operate [o,i] (getItem o i)
def HJ (X:Cx)(r:R2):Prop:=
 ∀(value slice:Expr) (pins:ef (dY×Obj)) (s:d0) (σ:St) (H:Hp) (x y:V) (v u:dZ) (Q:VK),eX X pins σ H s->fi x v->fi y u->r x y H Q->
  subscripted slice false v u=operate [v,u] (getItem v u)->wpAny (model X.prog X.w) X.A (subscriptTail value slice v u) (EP X pins σ Q) X.xe s
def J6 (X:Cx)(id:String)(r:V->ef V->Hp->VK->Prop):Prop:=
 ∀(pins:ef (dY×Obj)) (s:d0) (σ:St) (H:Hp) (x:V) (xs:ef V) (v:dZ) (us:ef dZ) (Q:VK),eX X pins σ H s->fi x v->gj xs us->r x xs H Q->
  wpAny (model X.prog X.w) X.A (call (.builtin id) (v::us)) (EP X pins σ Q) X.xe s
section
variable {a b:Expr}{ta tb:TE}
def eP {r:R2}(e:HJ X r)(o:PE X a ta)(i:PE X b tb)(hs:Dx b:=by exact λ_ _=>rfl):PE X (.Subscript a b pos) (Il r ta tb):=by intro d s σ H Q I h;exact Subscript_ (Fq o i I h λv u m x y l p g j q=>e a b d m σ l x y v u Q p g j q (hs _ _))
inductive HZ (K:W.Frag)(x:V)(y:V)(H:Hp)(Q:VK):Prop
 |mk (p xs i v:_)(_:x=.ref p)(_:y=.int i)(_:ff K H p xs)(_:uT xs i=some v)(_:Q v H)
def GT (K:W.Frag):R2:=λx y H Q=>HZ K x y H Q
inductive HY (K:W.Frag)(x:V)(y:V)(H:Hp)(Q:VK):Prop
 |mk (p xs i v:_)(_:x=.ref p)(_:y=.int i)(_:gC K H p xs)(_:uT xs i=some v)(_:Q v H)
def x5 (K:W.Frag):R2:=λx y H Q=>HY K x y H Q
theorem fw:HJ X (GT X.K):=by
 intro g e a s σ H x y v u Q I M N h C;obtain⟨p,R,i,z,rfl,rfl,F,O,q⟩:=h;cases M;obtain⟨t,rfl⟩:=N;obtain⟨m,r,o,P⟩:=I.list F;obtain⟨j,d,E,S,G,J⟩:=xE O;obtain⟨w,B,l⟩:=r.get E;have L:=r.length;have T:=sV;have b:EP X a σ Q w s:=⟨z,H,I,l,q⟩;by_cases h0:0<=i;have A:i.toNat=j:=by rw[seqIndex_of h0 J]at d;exact Option.some.inj d
 exact item_listR o.isList h0 (by lia) (by rw[A];simpa using B) b C;have A:(i+(m.toArray.size:Int)).toNat=j:=by rw[seqIndex_neg (by lia) G]at d;rw[aN,<-L];exact Option.some.inj d
 exact subscriptTail_builtinR (x:=w) o.isList.typeIs slot_list_getitem.lookup
  (wpAny_getItem_list_neg (Q:=λr D=>r=w/\EP X a σ Q r D) o.isList (by lia) (by rw[aN] <;> lia) (by lia) (by rw[A];simpa using B) ⟨rfl,b⟩) C
theorem eW:HJ X (x5 X.K):=by
 intro d b a s σ H x y v u Q I F J h G;obtain⟨p,P,i,z,rfl,rfl,A,L,q⟩:=h;cases F;obtain⟨t,rfl⟩:=J;obtain⟨B,r,l,O⟩:=I.tuple A;obtain⟨j,C,o,R,M,N⟩:=xE L;obtain⟨w,D,g⟩:=r.get o;have E:=r.length;have S:=sV;have e:EP X a σ Q w s:=⟨z,H,I,g,q⟩;exact subscriptTail_builtinR (x:=w) l.typeIs slot_tuple_getitem.lookup
  (getItem_tuple (j:=j) (Q:=λr m=>r=w/\EP X a σ Q r m) l (by lia) (by lia) (by rw[aN,<-E];exact C) (by simpa using D) ⟨rfl,e⟩) G
theorem rN (a b:el Int)(n:Nat):(sliceBounds a b none n).1=((HT.oK n 0 a:Nat):Int)/\(sliceBounds a b none n).2.1=((HT.oK n n b:Nat):Int)/\(sliceBounds a b none n).2.2=1:=by
 refine⟨?_,?_,rfl⟩;cases a with|none=>simp[sliceBounds,HT.oK]|some i=>
  simp only[sliceBounds,HT.oK,Option.getD_none,show(1:Int)>0 by decide,if_true];by_cases h:i<0;simp only[h,if_true] <;> lia
  simp only[h,if_false] <;> lia
 cases b with|none=>simp[sliceBounds,HT.oK]|some i=>
  simp only[sliceBounds,HT.oK,Option.getD_none,show(1:Int)>0 by decide,if_true];by_cases h:i<0;simp only[h,if_true] <;> lia
  simp only[h,if_false] <;> lia
def qy (a:ef dZ)(b d:el Int):slicePick a.toArray b d none=((a.drop (HT.oK a.length 0 b)).take (HT.oK a.length a.length d-HT.oK a.length 0 b)).toArray:=by obtain⟨e,h,g⟩:=rN b d a.toArray.size;unfold slicePick;rw[e,h,g];simp only[sliceRange_one,pick_run,aN] <;> rfl
inductive HU (K:W.Frag)(x:V)(lo:el Int)(hi:el Int)(H:Hp)(Q:VK):Prop
 |mk (a xs:_)(_:x=.ref a)(_:ff K H a xs)(_:∀p,H p=none->Q (.ref p) (upd H p (.lst (qd xs lo hi))))
def Jf (K:W.Frag):V->el Int->el Int->Hp->VK->Prop:=λx lo hi H Q=>HU K x lo hi H Q
theorem oJ:J4 X (Jf X.K):=by
 intro j s σ H x v C B g i D Q I t w m p h;obtain⟨a,d,rfl,y,q⟩:=h;cases t;obtain⟨z,r,l,A⟩:=I.list y;have e:=r.length;refine⟨"list",_,slot_list_getitem.lookup,l.isList.typeIs,?_⟩;refine wpAny_getItem_list_slice l.isList w m p .none (by simp) ?_ (by rw[aN] <;> lia)
 rw[qy,<-e];refine⟨.ref s.heap.objs.size,_,I.laid (t':=s.toks) (o:=.lst (qd d g i)) (λb E q=>az _ q) (am _) ?_,rfl,q _ (I.hok.fresh (am _))⟩;exact⟨bz (uM d g i) A,_,0,(r.drop (HT.oK d.length 0 g)).take (HT.oK d.length d.length i-HT.oK d.length 0 g),aM _ rfl⟩
theorem fA:jC X (.builtin "len") (λxs H Q=>∃p ys,xs=[.ref p]/\(ff X.K H p ys\/gC X.K H p ys)/\Q (.int ys.length) H):=by
 intro g s σ H xs m Q I r h;obtain⟨p,ys,rfl,hq,q⟩:=h;obtain⟨u,rfl,i⟩:=jt r;cases i;have l:=sV;rcases hq with hq|hq;obtain⟨e,b,d,j⟩:=I.list hq;have a:=b.length;exact Calls.call_len_list d.isList (by simp only[aN] <;> lia) ⟨.int ys.length,H,I.tok _,⟨s.toks+1,by rw[aN,a]⟩,q⟩
 obtain⟨e,b,d,j⟩:=I.tuple hq;have a:=b.length;exact len_tuple d (by simp only[aN] <;> lia) ⟨.int ys.length,H,I.tok _,⟨s.toks+1,by rw[aN,a]⟩,q⟩
theorem iO:jC X (.type "list") (λxs H Q=>∃p ys,xs=[.ref p]/\(ff X.K H p ys\/gC X.K H p ys)/\∀l,H l=none->Q (.ref l) (upd H l (.lst ys))):=by
 intro m s σ H xs D Q I r h;obtain⟨p,ys,rfl,hq,q⟩:=h;obtain⟨u,rfl,C⟩:=jt r;cases C;have t:∀(a:ef dZ),gj ys a->ys.length<=sizeLine->∀(d:Heap) (i:Nat),(∀b o',s.heap.get? b=some o'->d.get? b=some o')->
   d.get? s.heap.objs.size=some {cls:=.type "list",dict:=none,data:=.seq a.toArray i,slots:=#[]}->EP X m σ Q (.ref s.heap.objs.size) {s with heap:=d}:=λa g x d i j e=>
  ⟨.ref s.heap.objs.size,_,I.laid (t':=s.toks) j (am _) (show gf X.prog X.w _ d _ (.lst ys) from⟨x,a,i,g,e⟩),rfl,q _ (I.hok.fresh (am _))⟩
 rcases hq with hq|hq;obtain⟨a,g,A,x⟩:=I.list hq;have v:=g.length;obtain⟨o,z,B,n,y⟩:=A.isList;exact call_list_seq p (.inl rfl) z B y (λd i j e=>t a g x d i j e) (by simp only[aN] <;> lia)
 obtain⟨a,g,A,x⟩:=I.tuple hq;have v:=g.length;obtain⟨o,z,B,n,y⟩:=A;exact call_list_seq p (.inr rfl) z B y (λd i j e=>t a g x d i j e) (by simp only[aN] <;> lia)
def IE (K:W.Frag)(T:String)(x:V)(H:Hp):Prop:=match x with
 |.str _=>T = "str"
 |.int _=>T = "int"
 |.ref p=>(T = "list"/\∃xs,ff K H p xs)\/(T = "tuple"/\∃o,K.lookup p=some o/\o.cls=.type "tuple"/\o.dict=none)\/
   (T = "dict"/\((∃kvs,H p=some (.dK kvs))\/∃kvs,H p=some (.dT kvs)))\/(T = "set"/\∃S n,H p=some (.set S n))
 |_=>False
def zt {x:V}{v:dZ}(I:eX X pins σ H s)(r:fi x v)(g:IE X.K T x H):s.TypeIs v T/\∀a,v=.ref a->∃ob,s.heap.get? a=some ob/\ob.dict=none:=by
 cases x with
 |str z=>obtain⟨t,rfl⟩:=r;cases (show T = "str" from g);exact⟨typeIs_str s z t,λ_ e=>nomatch e⟩
 |int i=>obtain⟨t,rfl⟩:=r;cases (show T = "int" from g);exact⟨typeIs_int s i t,λ_ e=>nomatch e⟩
 |ref p=>
  cases r;rcases g with ⟨rfl,A,q⟩|⟨rfl,o,b,y,h⟩|⟨rfl,b⟩|⟨rfl,S,n,b⟩;obtain⟨w,_,m,_⟩:=I.list q;refine⟨m.isList.typeIs,λa e=>?_⟩;cases e;obtain⟨o,n,e,c,h,_⟩:=m;exact⟨o,e,h⟩;refine⟨⟨o,I.kIn p o b,y⟩,λa e=>?_⟩;cases e;exact⟨o,I.kIn _ o b,h⟩;have z:∃o,s.heap.get? p=some o/\o.ExactDict:=by rcases b with ⟨j,b⟩|⟨j,b⟩;obtain⟨_,_,_,_,o,_,_,e,d,_⟩:=I.hok p _ b;exact⟨o,e,d⟩;obtain⟨_,_,_,_,o,_,_,e,d,_⟩:=I.hok p _ b;exact⟨o,e,d⟩
  obtain⟨o,e,d⟩:=z;refine⟨⟨o,e,d.1⟩,λa l=>?_⟩;cases l;exact⟨o,e,d.2.1⟩;obtain⟨o,_,_,_,e,d,_⟩:=I.hok p _ b;refine⟨⟨o,e,d.1⟩,λa l=>?_⟩;cases l;exact⟨o,e,d.2.1⟩
 |_=>exact False.elim g
def IO (K:W.Frag)(T:String)(r:V->ef V->Hp->VK->Prop)(to:TE):TE:=λσ H Q=>to σ H λx H1=>IE K T x H1/\r x [] H1 Q
def Kd (K:W.Frag)(T:String)(r:V->ef V->Hp->VK->Prop)(to:TE)(t:TA):TE:=λσ H Q=>to σ H λx H1=>IE K T x H1/\t σ H1 λxs H2=>r x xs H2 Q
variable {o:Expr}{es:ef Expr}{to:TE}{t:TA}{name:Str}{apos cpos:Pos}{id:String}{r:V->ef V->Hp->VK->Prop}
def vB (y:PlainAttrs T)(b:Slot T name id)(d:typeOf (.builtin id)=pure (.type "method_descriptor"))(q:J6 X id r)(i:PE X o to)(hbase:autoParam (attributeBase o name X.env (eval o X.env)=eval o X.env) gF._auto_1)(hline:autoParam ((apos.endLine == cpos.line)=true) gF._auto_1):PE X (.Call (.Attribute o name apos) [] [] cpos) (IO X.K T r to):=by intro a s σ H Q I h;refine wpAny_Call_method0_late hbase hline (gm (i a s σ H _ I h) ?_);rintro v m ⟨x,j,g,e,p,t⟩;obtain⟨w,l⟩:=zt g e p;exact⟨T,id,y,b,d,w,l,Calls.callWith_builtin rfl (PySem.evalArgs_none (q a m σ j x [] v [] Q g e .nil t))⟩
def jL (J:PlainAttrs T)(b:Slot T name id)(d:typeOf (.builtin id)=pure (.type "method_descriptor"))(z:J6 X id r)(l:PE X o to)(E:PA X (e::es) t)(hbase:autoParam (attributeBase o name X.env (eval o X.env)=eval o X.env) gF._auto_1)(hfew:autoParam (((backTo cpos (starEach (e::es) X.env)).all (λx=>!x.1)&&(backToKw cpos (keywordEach [] X.env)).all (λx=>x.1.isSome)&&decide ((e::es).length+([]:ef Keyword).length+(if ([]:ef Keyword).isEmpty then 0 else 1)<30))=true) gF._auto_1)(hline:autoParam ((apos.endLine == cpos.line)=true) gF._auto_1)(hs:autoParam (starEach (e::es) X.env=(false,eval e X.env)::starEach es X.env) gF._auto_1)(hplain:autoParam ((backTo cpos (starEach es X.env)).any (·.1)=false) gF._auto_1):PE X (.Call (.Attribute o name apos) (e::es) [] cpos) (Kd X.K T r to t):=by
 intro a s σ H Q I h;refine wpAny_Call_method_late hbase hfew hline rfl (gm (l a s σ H _ I h) ?_);rintro v q ⟨x,m,i,g,w,F⟩;obtain⟨G,p⟩:=zt i g w;refine⟨T,id,J,b,d,G,p,?_⟩;have j:=E cpos a q σ m _ i F;rw[hs]at j ⊢;refine Calls.callWith_builtin (by show(false||(backTo cpos (starEach es X.env)).any (·.1))=false;rw[hplain] <;> rfl) (Calls.evalArgs_plain ?_)
 exact gm j (by rintro B D ⟨C,A,L,y,M⟩;exact z a D σ A x C v B Q L g y M)
end
def HG (X:Cx)(id:String)(r:V->ef V->Hp->VK->Prop):Prop:=
 ∀(pins:ef (dY×Obj)) (s:d0) (σ:St) (H:Hp) (x:V) (xs:ef V) (v:dZ) (us:ef dZ) (Q:VK),eX X pins σ H s->fi x v->gj xs us->r x xs H Q->
  wpAny (model X.prog X.w) X.A (call (.builtin id) (v::us)) (EP X pins σ Q) X.xe s
def gj.one:∀{x:V} {us:ef dZ},gj [x] us->∃u,us=[u]/\fi x u
 |_,_,.cons r .nil=>⟨_,rfl,r⟩
def gj.zero:∀{us:ef dZ},gj [] us->us=[]
 |_,.nil=>rfl
def gj.dropLast {us:ef dZ}(h:gj xs us):gj xs.dropLast us.dropLast:=by induction h with|nil=>exact .nil|cons r t ih=>cases t with|nil=>exact .nil|cons q t'=>exact .cons r ih
def gj.reverse {us:ef dZ}(h:gj xs us):gj xs.reverse us.reverse:=by induction h with|nil=>exact .nil|cons r t ih=>rw[cV,cV];exact gj.append ih (.cons r .nil)
theorem v7 {α:Type}(l:ef α):l.eraseIdx (l.length-1)=l.dropLast:=by
 induction l with|nil=>rfl|cons a r ih=>
  cases r with|nil=>rfl|cons b r=>
   have e:(a::b::r).length-1=((b::r).length-1)+1:=by have d:(a::b::r).length=r.length+2:=rfl;have g:(b::r).length=r.length+1:=rfl;lia
   rw[e,List.eraseIdx_cons_succ,ih];all_goals rfl
section
variable {l b:dY}{ys zs:ef V}
def eX.KZ {its its':ef dZ}{n:Nat}{f:Array dZ->Array dZ}(I:eX X pins σ H s)(d:H l=some (.lst xs))(e:s.heap.get? l=some {cls:=.type "list",data:=.seq its.toArray n})(a:f its.toArray=its'.toArray)(b:gj ys its')(hz:ys.length<=sizeLine):eX X pins σ (upd H l (.lst ys)) {s with heap:=s.heap.update l (Obj.mapSeq f),toks:=t'}:=by have q:=PySem.IsL.update e f;rw[a]at q;refine I.write (x:=l) (e:=l) (by rw[d];exact trivial) (.inl rfl) (λi u h g=>(Heap.get?_update_other s.heap (Obj.mapSeq f) (Ne.symm h)).trans g) ⟨_,q⟩ ?_;exact⟨hz,its',_,b,q⟩
def eX.K0 {its:ef dZ}(I:eX X pins σ H s)(hv:gj ys its)(hz:ys.length<=sizeLine):eX X pins σ (upd H s.heap.objs.size (.lst ys)) {s with heap:=s.heap.push {cls:=.type "list",data:=.seq its.toArray},toks:=t'}:=
 I.laid (λ_ _ q=>az _ q) (am _) ⟨hz,its,0,hv,aM _ rfl⟩
def eX.fresh (I:eX X pins σ H s):H s.heap.objs.size=none:=I.hok.fresh (am _)
def eX.K4 (I:eX X pins σ H s)(a:H l=some (.lst xs)):xs.length<=sizeLine/\∃(its:ef dZ) (n:Nat),gj xs its/\xs.length=its.length/\s.heap.get? l=some {cls:=.type "list",data:=.seq its.toArray n}:=by obtain⟨z,its,n,r,e⟩:=I.hok l _ a;exact⟨z,its,n,r,r.length,e⟩
theorem AX {n:Nat}(h:n<=sizeLine):Builtin.List.listTooLong n=false:=by unfold Builtin.List.listTooLong;exact au (by lia)
end
inductive BV (x:V)(vs:ef V)(H:Hp)(Q:VK):Prop
 |mk (l xs y:_)(_:x=.ref l)(_:vs=[y])(_:H l=some (.lst xs))(_:xs.length<sizeLine)(_:Q .non (upd H l (.lst (xs++[y]))))
def Cs:V->ef V->Hp->VK->Prop:=λx vs H Q=>BV x vs H Q
theorem hZ:HG X "list.append" Cs:=by intro d s σ H x t v p Q I g j h;obtain⟨l,o,y,rfl,rfl,b,w,q⟩:=h;cases g;obtain⟨u,rfl,i⟩:=j.one;obtain⟨z,a,n,r,m,e⟩:=I.K4 b;refine call_meets F.slot_list_append ⟨_,e,rfl⟩ F.entry_list_append (F.args_list_append_2 _ _) (PySem.list_append l a.toArray n u (by rw[aN];lia)) ⟨e,?_⟩;refine⟨.non,_,I.KZ (its':=a++[u]) b e (by simp) (r.append (.cons i .nil)) ?_,rfl,q⟩;rw[aD,aP];lia
inductive BU (x:V)(vs:ef V)(H:Hp)(Q:VK):Prop
 |mk (l b xs zs:_)(_:x=.ref l)(_:vs=[.ref b])(_:H l=some (.lst xs))(_:H b=some (.lst zs))(_:xs.length+zs.length<=sizeLine)(_:Q .non (upd H l (.lst (xs++zs))))
def Cr:V->ef V->Hp->VK->Prop:=λx vs H Q=>BU x vs H Q
theorem qZ:HG X "list.extend" Cr:=by
 intro m s σ H x G v M Q I w t h;obtain⟨l,b,L,D,rfl,rfl,j,B,J,q⟩:=h;cases w;obtain⟨u,rfl,A⟩:=t.one;cases A;obtain⟨z,d,n,r,K,e⟩:=I.K4 j;obtain⟨E,a,C,y,o,p⟩:=I.K4 B;have i:d.toArray.size+a.toArray.size<=sizeLine:=by rw[aN,aN];lia
 have g:¬(!d.toArray.isEmpty&&Builtin.List.listTooLong (d.toArray.size+a.toArray.size))=true:=by rw[AX i,Bool.and_false];exact aT
 refine call_meets F.slot_list_extend ⟨_,e,rfl⟩ F.entry_list_extend (F.args_list_extend_2 _ _)
  (AutoSeq1.list_extend_list_list_0 l d.toArray n b a.toArray C g (by rw[aN];lia) (by lia)) ⟨e,p,?_⟩
 refine⟨.non,_,I.KZ (its':=d++a) j e (by simp) (r.append y) ?_,rfl,q⟩;rw[aD];lia
inductive HV (x:V)(vs:ef V)(H:Hp)(Q:VK):Prop
 |mk (l xs y:_)(_:x=.ref l)(_:vs=[])(_:H l=some (.lst xs))(_:xs[xs.length-1]?=some y)(_:Q y (upd H l (.lst xs.dropLast)))
def Jg:V->ef V->Hp->VK->Prop:=λx vs H Q=>HV x vs H Q
theorem vT:HG X "list.pop" Jg:=by
 intro i s σ H x C v B Q I p w h;obtain⟨l,A,y,rfl,rfl,g,m,q⟩:=h;cases p;have d:=w.zero;subst d;obtain⟨z,a,n,r,j,e⟩:=I.K4 g;obtain⟨u,o,t⟩:=r.get m;have b:a.toArray[a.toArray.size-1]?=some u:=by show a.toArray[a.length-1]?=some u;rw[<-bI,<-j];exact o
 refine call_meets F.slot_list_pop ⟨_,e,rfl⟩ F.entry_list_pop (F.args_list_pop_1 _) (MeetsSeq.list_pop_last l a.toArray n u b (by rw[aN];lia)) ⟨e,?_⟩;refine⟨y,_,I.KZ (its':=a.dropLast) g e ?_ r.dropLast ?_,t,q⟩;show a.toArray.eraseIdxIfInBounds (a.toArray.size-1)=a.dropLast.toArray;rw[aN,List.eraseIdxIfInBounds_toArray,v7];rw[List.length_dropLast];lia
inductive Id (x:V)(y:V)(H:Hp)(Q:VK):Prop
 |mk (l b xs zs:_)(_:x=.ref l)(_:y=.ref b)(_:H l=some (.lst xs))(_:H b=some (.lst zs))(_:xs.length+zs.length<=sizeLine)(_:∀p,H p=none->Q (.ref p) (upd H p (.lst (xs++zs))))
def Ji:R2:=λx y H Q=>Id x y H Q
theorem kY:oy X (binaryOp .Add) Ji:=by
 intro g s σ H x y v u Q I o p h;obtain⟨l,b,F,B,rfl,rfl,m,A,D,q⟩:=h;cases o;cases p;obtain⟨z,d,n,r,E,e⟩:=I.K4 m;obtain⟨C,a,G,t,i,j⟩:=I.K4 A;refine PySem.P.add_list e j ?_ (by rw[aN,aN];lia);have w:d.toArray++a.toArray=(d++a).toArray:=by simp
 rw[w];exact⟨.ref _,_,I.K0 (t':=s.toks) (r.append t) (by rw[aD];lia),rfl,q _ I.fresh⟩
section
variable {prog:ee}
end
section
variable {κ:Type} [DecidableEq κ]
noncomputable def fc (kvs:ef (κ×V))(k:κ):el V:=(kvs.find? λkv=>decide (kv.1=k)).map (·.2)
noncomputable def fJ (kvs:ef (κ×V))(k:κ)(v:V):ef (κ×V):=
 if (kvs.any λkv=>decide (kv.1=k))=true then kvs.map (λkv=>if kv.1=k then (kv.1,v) else kv) else kvs++[(k,v)]
noncomputable def j5 (kvs:ef (κ×V))(k:κ):ef (κ×V):=kvs.filter λkv=>decide (kv.1≠k)
def gR {p:κ×V}{r:ef (κ×V)}{k:κ}(e:p.1=k):fc (p::r) k=some p.2:=by simp[fc,bu,e]
def gE {p:κ×V}{r:ef (κ×V)}{k:κ}(e:¬p.1=k):fc (p::r) k=fc r k:=by simp[fc,bu,e]
theorem jh (k:κ):∀kvs:ef (κ×V),(kvs.any λkv=>decide (kv.1=k))=(fc kvs k).isSome
 |[]=>rfl
 |p::r=>by rw[List.any_cons];by_cases e:p.1=k;simp only[gR e,aq e,Bool.true_or,Option.isSome_some];rw[gE e,au e,Bool.false_or];exact jh k r
theorem ub (k j:κ)(y:V):∀kvs:ef (κ×V),fc (kvs.map λkv=>if kv.1=k then (kv.1,y) else kv) j=(fc kvs j).map λx=>if j=k then y else x
 |[]=>rfl
 |p::r=>by have ih:=ub k j y r;rw[aH];by_cases h:p.1=k;rw[ay h];by_cases e:p.1=j;rw[gR (p:=(p.1,y)) e,gR e,Option.map_some,ay (e.symm.trans h)];rw[gE (p:=(p.1,y)) e,gE e,ih];rw[av h];by_cases e:p.1=j;rw[gR (p:=p) e,gR e,Option.map_some,av (λz=>h (e.trans z))];rw[gE (p:=p) e,gE e,ih]
theorem qN (k j:κ)(y:V):∀kvs:ef (κ×V),fc kvs k=none->fc (kvs++[(k,y)]) j=if j=k then some y else fc kvs j
 |[],_=>by by_cases e:k=j;rw[ay e.symm];exact gR (p:=(k,y)) e;rw[av (λz=>e z.symm)];exact gE (p:=(k,y)) e
 |p::r,hn=>by
  rw[dj];have hk:¬p.1=k:=λz=>by rw[gR z]at hn;cases hn
  rw[gE hk]at hn;have ih:=qN k j y r hn;by_cases e:p.1=j;rw[gR e,gR e,av (λz=>hk (e.trans z))];rw[gE e,gE e,ih]
def gq (kvs:ef (κ×V))(k j:κ)(y:V):fc (fJ kvs k y) j=if j=k then some y else fc kvs j:=by
 unfold fJ;by_cases a:(kvs.any λb=>decide (b.1=k))=true;rw[ay a,ub];rw[jh]at a;by_cases e:j=k;obtain⟨x,d⟩:=dU.mp a;rw[ay e,e,d,Option.map_some,ay rfl];rw[av e];cases fc kvs j with|none=>rfl|some x=>rw[Option.map_some,av e]
 rw[av a];refine qN k j y kvs ?_;rw[jh]at a;cases q:fc kvs k with|none=>rfl|some x=>rw[q]at a;exact(a rfl).elim
theorem ge (kvs:ef (κ×V))(k:κ)(v:V):(fJ kvs k v).length<=kvs.length+1:=by unfold fJ;split;rw[ab];lia;rw[aD,aE,cR];lia
def ip {kvs:ef (κ×V)}{k:κ}(v:V)(h:fc kvs k=none):fJ kvs k v=kvs++[(k,v)]:=by unfold fJ;rw[jh,h];exact av (by decide)
def jG.K5 {u:el dZ}(r:jG o u):o.isSome=u.isSome:=by
 cases o with
 |none=>cases u with
  |none=>rfl
  |some _=>exact(show False from r).elim
 |some _=>cases u with
  |none=>exact(show False from r).elim
  |some _=>rfl
def jG.getD {u:el dZ}{d:V}{d':dZ}(r:jG o u)(rd:fi d d'):fi (o.getD d) (u.getD d'):=by
 cases o with
 |none=>cases u with
  |none=>exact rd
  |some _=>exact(show False from r).elim
 |some _=>cases u with
  |none=>exact(show False from r).elim
  |some _=>exact r
def KV.val {kvs:ef (κ×V)}{vs:ef (κ×dZ)}(r:KV kvs vs)(k:κ):jG (fc kvs k) (valueAt vs k):=by
 unfold KV at r;induction r with|nil=>exact True.intro|@cons p q ps qs h t ih=>
  obtain⟨d,g⟩:=h;by_cases e:p.1=k;have a:q.1=k:=d.symm.trans e;have b:valueAt (q::qs) k=some q.2:=by simp[valueAt,bu,a]
  rw[gR e,b];exact g;have a:¬q.1=k:=λz=>e (d.trans z);have b:valueAt (q::qs) k=valueAt qs k:=by simp[valueAt,bu,a]
  rw[gE e,b];exact ih
def KV.any {kvs:ef (κ×V)}{vs:ef (κ×dZ)}(r:KV kvs vs)(k:κ):(kvs.any λkv=>decide (kv.1=k))=vs.any λkv=>decide (kv.1=k):=by unfold KV at r;induction r with|nil=>rfl|cons h t ih=>rw[List.any_cons,List.any_cons,ih,h.1]
def KV.K6 {kvs:ef (κ×V)}{vs:ef (κ×dZ)}(r:KV kvs vs)(k:κ){u:dZ}(b:fi y u):KV (kvs.map λkv=>if kv.1=k then (kv.1,y) else kv) (vs.map λkv=>if kv.1=k then (kv.1,u) else kv):=by unfold KV at r ⊢;induction r with|nil=>exact .nil|@cons p q ps qs h t ih=>rw[aH,aH];refine .cons ?_ ih;obtain⟨a,d⟩:=h;by_cases e:p.1=k;rw[ay e,ay (a.symm.trans e)];exact⟨a,b⟩;rw[av e,av (λz=>e (a.trans z))];exact⟨a,d⟩
def KV.put {kvs:ef (κ×V)}{vs:ef (κ×dZ)}(r:KV kvs vs)(k:κ){u:dZ}(a:fi y u):KV (fJ kvs k y) (stored vs k u):=by unfold fJ stored;rw[r.any k];by_cases e:(vs.any λb=>decide (b.1=k))=true;rw[ay e,ay e];exact r.K6 k a;rw[av e,av e];exact Paired.snoc r ⟨rfl,a⟩
def KV.drop {kvs:ef (κ×V)}{vs:ef (κ×dZ)}(r:KV kvs vs)(k:κ):KV (j5 kvs k) (without vs k):=by
 unfold KV at r ⊢;unfold j5 without;induction r with|nil=>exact .nil|@cons p q ps qs h t ih=>
  obtain⟨d,i⟩:=h;rw[aJ,aJ];by_cases e:p.1=k;have a:¬decide (p.1≠k)=true:=by simp[e]
  have b:¬decide (q.1≠k)=true:=by simp[d.symm.trans e]
  rw[av a,av b];exact ih;have g:¬q.1=k:=λz=>e (d.trans z);have a:decide (p.1≠k)=true:=by simp[e]
  have b:decide (q.1≠k)=true:=by simp[g]
  rw[ay a,ay b];exact .cons ⟨d,i⟩ ih
def KV.keys {kvs:ef (κ×V)}{vs:ef (κ×dZ)}(r:KV kvs vs):kvs.map (·.1)=vs.map (·.1):=by unfold KV at r;induction r with|nil=>rfl|cons h t ih=>rw[aH,aH,ih,h.1]
def KV.length {kvs:ef (κ×V)}{vs:ef (κ×dZ)}(r:KV kvs vs):kvs.length=vs.length:=Paired.length r
def Bs (kvs:ef (κ×V))(k:κ):(j5 kvs k).length<=kvs.length:=bD _ _
end
def mi {k:gM}{u:dZ}(r:fi (kV k) u):(fq P w).is k u=true:=by cases k with|inl i=>obtain⟨t,e⟩:=(show ∃t,u=Value.int i t from r);subst e;exact uv P w i t|inr x=>obtain⟨t,e⟩:=(show ∃t,u=Value.str x t from r);subst e;exact uu P w x t
def E5 {a b:gM}(e:kV a=kV b):a=b:=by
 cases a with
 |inl i=>cases b with
  |inl j=>have d:V.int i=V.int j:=e;injection d with d;rw[d]
  |inr y=>exact nomatch (show V.int i=V.str y from e)
 |inr x=>cases b with
  |inl j=>exact nomatch (show V.str x=V.int j from e)
  |inr y=>have d:V.str x=V.str y:=e;injection d with d;rw[d]
theorem xk:∀{a b:ef gM},a.map kV=b.map kV->a=b
 |[],[],_=>rfl
 |[],_::_,e=>by simp at e
 |_::_,[],e=>by simp at e
 |x::xs,y::ys,e=>by
  rw[aH,aH]at e;injection e with e1 e2
  rw[E5 e1,xk e2]
theorem rf {P:ee}{w:World}:∀{ks:ef gM} {us:ef dZ},gj (ks.map kV) us->ItemsAre (fq P w) ks us
 |[],_,r=>by rw[cQ]at r;cases r;exact .nil
 |k::ks,_,r=>by rw[aH]at r;cases r with|cons h t=>exact .cons (mi h) (rf t)
abbrev KT (H:Hp):ef (ef gM×V)->ef (ef gM×dY×dZ)->Prop:=Paired λp q=>p.1=q.1/\H q.2.1=some (.tup (p.1.map kV))/\fi p.2 q.2.2
def KT.val {kvs:ef (ef gM×V)}{xs:ef (ef gM×dY×dZ)}(r:KT H kvs xs)(k:ef gM):jG (fc kvs k) ((atKey xs k).map (·.2)):=by
 induction r with|nil=>exact True.intro|@cons p q ps qs h t ih=>
  obtain⟨d,_,g⟩:=h;by_cases e:p.1=k;have a:q.1=k:=d.symm.trans e;have b:atKey (q::qs) k=some q.2:=by simp[atKey,bu,a]
  rw[gR e,b];exact g;have a:¬q.1=k:=λz=>e (d.trans z);have b:atKey (q::qs) k=atKey qs k:=by simp[atKey,bu,a]
  rw[gE e,b];exact ih
def KT.K6 {kvs:ef (ef gM×V)}{xs:ef (ef gM×dY×dZ)}(r:KT H kvs xs)(k:ef gM){u:dZ}(g:fi y u):KT H (kvs.map λkv=>if kv.1=k then (kv.1,y) else kv) (xs.map (putAt k u)):=by induction r with|nil=>exact .nil|@cons p q ps qs h t ih=>rw[aH,aH];refine .cons ?_ ih;obtain⟨a,b,d⟩:=h;unfold putAt;by_cases e:p.1=k;rw[ay e,ay (a.symm.trans e)];exact⟨a,b,g⟩;rw[av e,av (λz=>e (a.trans z))];exact⟨a,b,d⟩
def KT.put {kvs:ef (ef gM×V)}{xs:ef (ef gM×dY×dZ)}(r:KT H kvs xs)(k:ef gM){b:dY}{u:dZ}(g:H b=some (.tup (k.map kV)))(a:fi y u):KT H (fJ kvs k y) (storedH xs k b u):=by
 have e:(kvs.any λd=>decide (d.1=k))=(atKey xs k).isSome:=by rw[jh,(r.val k).K5,Option.isSome_map]
 unfold fJ storedH;rw[e];by_cases q:(atKey xs k).isSome=true;rw[ay q,ay q];exact r.K6 k a;rw[av q,av q];exact Paired.snoc r ⟨rfl,g,a⟩
def KT.keeps {kvs:ef (ef gM×V)}{xs:ef (ef gM×dY×dZ)}(r:KT H kvs xs)(ht:∀b ys,H b=some (.tup ys)->H' b=some (.tup ys)):KT H' kvs xs:=
 Paired.KG r λ_ _ z=>⟨z.1,ht _ _ z.2.1,z.2.2⟩
section
variable {h:Heap}
def Af {u:HO}(ok:lZ P w H h)(e:Rd H a u):gf P w H h a u:=e.ok ok
def lQ (ok:lZ P w H h)(e:Rd H a (.dK kvs)):kvs.length<=sizeLine/\(a == sysModules)=false/\∃vs,KV kvs vs/\h.DictOf (fq P w) a vs:=
 show gf P w H h a (.dK kvs) from Af ok e
def ri (ok:lZ P w H h)(e:H a=some (.dK kvs)):kvs.length<=sizeLine/\(a == sysModules)=false/\∃vs,KV kvs vs/\h.DictOf (fq P w) a vs:=lQ ok (.inl e)
def mF {ks:ef gM}(ok:lZ P w H h)(e:H a=some (.tup (ks.map kV))):(tupleKind (fq P w)).is h ks a:=by obtain⟨_,b,r,o,g,d,n,i⟩:=(show gf P w H h a (.tup (ks.map kV)) from ok a _ e);exact⟨o,b.toArray,n,g,d,i,by simpa using rf r⟩
def p3 {kvs:ef (ef gM×V)}(ok:lZ P w H h)(e:Rd H a (.dT kvs)):kvs.length<=sizeLine/\(a == sysModules)=false/\∃xs,KT H kvs xs/\h.DictOfH (tupleKind (fq P w)) a xs:=by
 obtain⟨z,y,xs,r,o,d,i,s,b,g,j,v⟩:=(show gf P w H h a (.dT kvs) from Af ok e);refine⟨z,y,xs,r,o,d,i,s,b,g,j,λx hx=>?_,v⟩;have all:∀{l:ef (ef gM×V)} {m:ef (ef gM×dY×dZ)},KT H l m->∀x∈m,(tupleKind (fq P w)).is h x.1 x.2.1:=by intro l m q;induction q with|nil=>intro x hx;exact nomatch hx|@cons p q ps qs hq t ih=>intro x hx;rcases ao.mp hx with e|hx;subst e;exact mF ok (by rw[<-hq.1];exact hq.2.1);exact ih x hx
 exact all r x hx
def Hv {kvs:ef (ef gM×V)}(ok:lZ P w H h)(e:H a=some (.dT kvs)):kvs.length<=sizeLine/\(a == sysModules)=false/\∃xs,KT H kvs xs/\h.DictOfH (tupleKind (fq P w)) a xs:=p3 ok (.inl e)
end
def iP (H:Hp)(a:dY)(y:V)(r:el V):Prop:=
 (∃kvs k,Rd H a (.dK kvs)/\y=kV k/\r=fc kvs k)\/∃kvs k b,Rd H a (.dT kvs)/\y=.ref b/\H b=some (.tup (k.map kV))/\r=fc kvs k
def lT (H:Hp)(a:dY)(y v:V)(H':Hp):Prop:=
 (∃kvs k,H a=some (.dK kvs)/\y=kV k/\kvs.length<sizeLine/\H'=upd H a (.dK (fJ kvs k v)))\/
 ∃kvs k b,H a=some (.dT kvs)/\y=.ref b/\H b=some (.tup (k.map kV))/\kvs.length<sizeLine/\H'=upd H a (.dT (fJ kvs k v))
def iP.k {k:gM}(e:H a=some (.dK kvs)):iP H a (kV k) (fc kvs k):=.inl ⟨kvs,k,.inl e,rfl,rfl⟩
def lT.k {k:gM}(e:H a=some (.dK kvs))(hl:kvs.length<sizeLine):lT H a (kV k) v (upd H a (.dK (fJ kvs k v))):=.inl ⟨kvs,k,e,rfl,hl,rfl⟩
section
variable {u r:dZ}
def eX.big (I:eX X pins σ H s):sysModules<s.heap.objs.size:=by have h:mainGlobals<s.heap.objs.size:=(I.mod.glob.keeps I.bk).lt;exact Nat.lt_trans (by decide) h
def yZ (C:A.units+1<cLine)(I:eX X pins σ H s)(g:iP H a y (some v))(t:fi y u)(h:∀w' s',eX X pins σ H s'->fi v w'->Q w' s'):wpAny (model X.prog X.w) A (getItem (.ref a) u) Q E s:=by rcases g with ⟨j,k,e,q,l⟩|⟨j,k,b,e,q,F,l⟩;subst q;obtain⟨z,x,D,rel,m⟩:=lQ I.hok e;obtain⟨w',i,d⟩:=jG.some_of (v:=v) (o:=valueAt D k) (by rw[l];exact rel.val k);exact wpAny_getItem_of (mi t) m.mapOf i (h w' _ (I.tok _) d);subst q;cases (show u=Value.ref b from t);obtain⟨z,x,B,rel,m⟩:=p3 I.hok e;obtain⟨w',i,d⟩:=jG.some_of (v:=v) (o:=(atKey B k).map (·.2)) (by rw[l];exact rel.val k);obtain⟨p,hp,r⟩:=ax.mp i;refine wpAny_getItem_heap (dr C) (mF I.hok F) m hp ?_;rw[r];exact h w' _ (I.tok _) d
def Jy (r:A.units+1<cLine)(I:eX X pins σ H s)(g:iP H a y o)(p:fi y u)(h:∀s',eX X pins σ H s'->Q (.bool o.isSome) s'):wpAny (model X.prog X.w) A (compareOp .In u (.ref a)) Q E s:=by rcases g with ⟨i,k,e,j,l⟩|⟨i,k,b,e,j,t,l⟩;subst j;obtain⟨z,d,v,rel,m⟩:=lQ I.hok e;refine wpAny_in_of (mi p) d m.mapOf ?_;rw[<-(rel.val k).K5,<-l];exact h _ (I.tok _);subst j;cases (show u=Value.ref b from p);obtain⟨z,d,x,rel,m⟩:=p3 I.hok e;refine wpAny_in_heap (dr r) (mF I.hok t) d m ?_;have q:=(rel.val k).K5;rw[Option.isSome_map]at q;rw[<-q,<-l];exact h _ (I.tok _)
def Dr (r:A.units+1<cLine)(I:eX X pins σ H s)(g:iP H a y o)(p:fi y u)(h:∀s',eX X pins σ H s'->Q (.bool (!o.isSome)) s'):wpAny (model X.prog X.w) A (compareOp .NotIn u (.ref a)) Q E s:=by rcases g with ⟨i,k,e,j,l⟩|⟨i,k,b,e,j,t,l⟩;subst j;obtain⟨z,d,v,rel,m⟩:=lQ I.hok e;refine wpAny_notIn_of (mi p) d m.mapOf ?_;rw[<-(rel.val k).K5,<-l];exact h _ (I.tok _);subst j;cases (show u=Value.ref b from p);obtain⟨z,d,x,rel,m⟩:=p3 I.hok e;refine wpAny_notIn_heap (dr r) (mF I.hok t) d m ?_;have q:=(rel.val k).K5;rw[Option.isSome_map]at q;rw[<-q,<-l];exact h _ (I.tok _)
def j7 {h':Heap}{ob:HO}(I:eX X pins σ H s)(mu:HF (H a))(hs:Heap.SameBut a s.heap h')(he:∃q,h'.get? a=some q)(new:gf X.prog X.w (upd H a ob) h' a ob):eX X pins σ (upd H a ob) {s with heap:=h',toks:=t'}:=
 I.write (x:=a) (e:=a) mu (.inl rfl) (λb q hb z=>(hs.2 b hb).trans z) he new
def nW {h':Heap}{vs:ef (gM×dZ)}(z:kvs.length<=sizeLine)(hd:(a == sysModules)=false)(rel:KV kvs vs)(dd:h'.DictOf (fq P w) a vs):gf P w H' h' a (.dK kvs):=⟨z,hd,vs,rel,dd⟩
theorem yY {Q:Unit->d0->Prop}(S:A.units+1<cLine)(I:eX X pins σ H s)(g:lT H a y v H')(K:fi y u)(J:fi v r)(h:∀s',eX X pins σ H' s'->Q () s'):wpAny (model X.prog X.w) A (setItem (.ref a) u r) Q E s:=by
 rcases g with ⟨d,k,e,C,l,o⟩|⟨d,k,b,e,C,G,l,o⟩;subst C o;obtain⟨z,m,M,rel,B⟩:=ri I.hok e;have p:M.length<=sizeLine:=by rw[<-rel.length];exact z
 have t:(fJ d k v).length<=sizeLine:=by have:=ge d k v;lia
 refine wpAny_setItem_pairs (hsz:=p) (mi K) B λF i x=>h _ ?_;have Y:∃q,F.get? a=some q:=(by obtain⟨q,_,_,j,_⟩:=i;exact⟨q,j⟩);exact j7 I (by rw[e];exact True.intro) x Y (nW t m (rel.put k J) i);subst C o;cases (show u=Value.ref b from K);obtain⟨z,m,P,rel,B⟩:=Hv I.hok e;have p:P.length<=sizeLine:=by rw[<-Paired.length rel];exact z
 have t:(fJ d k v).length<=sizeLine:=by have:=ge d k v;lia
 refine wpAny_setItem_heap (hsz:=p) (dr S) (mF I.hok G) B λF i x=>h _ ?_;obtain⟨q,R,U,j,L,T,N,_,O⟩:=i;refine j7 I (by rw[e];exact True.intro) x ⟨q,j⟩ ⟨t,m,_,(rel.put k G J).keeps λc Z D=>?_,q,R,U,j,L,T,N,O⟩;rw[eB (fF D e (λz=>nomatch z))];exact D
end
section
variable {k:gM}{u:dZ}
def Hw {more:ef dZ}(I:eX X pins σ H s)(e:H a=some (.dK kvs))(d:fi (kV k) u)(l:fc kvs k=some v)(m:more=[]\/∃x,more=[x])(h:∀w' s',eX X pins σ (upd H a (.dK (j5 kvs k))) s'->fi v w'->Q w' s'):wpAny (model X.prog X.w) A (call (.builtin "dict.pop") (.ref a::u::more)) Q E s:=by
 obtain⟨z,r,p,rel,j⟩:=ri I.hok e;obtain⟨w',y,g⟩:=jG.some_of (v:=v) (o:=valueAt p k) (by rw[<-l];exact rel.val k);have hp:(keyPart u).isSome=true:=by cases k with|inl i=>obtain⟨t,q⟩:=(show ∃t,u=Value.int i t from d);subst q;rfl|inr x=>obtain⟨t,q⟩:=(show ∃t,u=Value.str x t from d);subst q;rfl
 have J:argsOk "dict.pop" ⟨.ref a::u::more,[]⟩:=by rcases m with q|⟨x,q⟩;subst q;exact PySem.F.args_dict_pop_2 _ _;subst q;exact PySem.F.args_dict_pop_3 _ _ _
 refine call_meetsIn PySem.F.slot_dict_pop j.typeIs PySem.F.entry_dict_pop J (meets_dict_pop_there (fq X.prog X.w) a (mi d) more m hp)
  ⟨p,w',j,by rw[<-rel.length];exact z,y,λC b B=>h w' _ ?_ g⟩
 have G:∃q,C.get? a=some q:=(by obtain⟨q,_,_,D,_⟩:=b;exact⟨q,D⟩);exact j7 I (by rw[e];exact True.intro) B G (nW (bz (Bs kvs k) z) r (rel.drop k) b)
theorem Hx (I:eX X pins σ H s)(e:Rd H a (.dK kvs))(h:∀t s',eX X pins σ H s'->Q (.int kvs.length t) s'):wpAny (model X.prog X.w) A (call (.builtin "len") [.ref a]) Q E s:=by obtain⟨z,b,g,rel,d⟩:=lQ I.hok e;refine call_len_dict b d (by rw[<-rel.length];rw[bt]at z;lia) ?_;rw[<-rel.length];exact h _ _ (I.tok _)
end
def Fw (i:Expr):Prop:=∀ov iv,subscripted i false ov iv=operate [ov,iv] (getItem ov iv)
def wO {prog:ee}{env:Env}{value slice:Expr}{id:String}(d:typeLookup (.type T) "__getitem__" = pure (some (.builtin id)))(e:Fw slice)(h:wpAny (model prog w) A (eval value env) (λo s₁=>wpAny (model prog w) A (eval slice env) (λi s₂=>s₂.TypeIs o T/\wpAny (model prog w) A (getItem o i) Q E s₂) E s₁) E s):wpAny (model prog w) A (eval (.Subscript value slice pos) env) Q E s:=by
 refine Subscript_ (bV h (λo s₁ h₁=>bV h₁ (λi s₂ h₂=>?_) λ_ _ x=>x) λ_ _ x=>x);obtain⟨b,h₂⟩:=h₂;unfold subscriptTail;refine ac ?_;rw[getitemInPython_of_ne b.not_modules];refine ac (wpAny_specialOf b d ?_);have a:wpAny (model prog w) A (subscripted slice false o i) (λr s₃=>wpAny (model prog w) A (letTemporaryGo value o r >>= λ_=>pure r) Q E s₃) E s₂:=by rw[e o i];exact wpAny_operating (bV h₂ (λr s₃ h₃=>ac (wpAny_letTemporaryGo (ar h₃))) λ_ _ x=>x)
 first
  |exact ar (ac a)
  |exact ac (ar (ac a))
  |exact ac a
def uK (I:eX X pins σ H s)(g:iP H a y o):s.TypeIs (.ref a) "dict":=by rcases g with ⟨d,k,e,_,_⟩|⟨d,k,b,e,_,_,_⟩;obtain⟨_,_,i,_,h⟩:=lQ I.hok e;exact h.typeIs;obtain⟨_,_,j,_,h⟩:=p3 I.hok e;exact h.typeIs
inductive FK (Q:VK)(x:V)(y:V)(H2:Hp):Prop
 |mk (a v:_)(_:x=.ref a)(_:iP H2 a y (some v))(_:Q v H2)
def DL (td ty:TE):TE:=λσ H Q=>td σ H λx H1=>ty σ H1 λy H2=>FK Q x y H2
inductive HP (Q:VK)(y:V)(x:V)(H2:Hp):Prop
 |mk (a o:_)(_:x=.ref a)(_:iP H2 a y o)(_:Q (.bl o.isSome) H2)
def Gr (ty td:TE):TE:=λσ H Q=>ty σ H λy H1=>td σ H1 λx H2=>HP Q y x H2
inductive BS (Q:VK)(y:V)(x:V)(H2:Hp):Prop
 |mk (a o:_)(_:x=.ref a)(_:iP H2 a y o)(_:Q (.bl (!o.isSome)) H2)
def Cb (ty td:TE):TE:=λσ H Q=>ty σ H λy H1=>td σ H1 λx H2=>BS Q y x H2
inductive FN (D:mN)(σ:St)(v:V)(x:V)(y:V)(H3:Hp):Prop
 |mk (a H4:_)(_:x=.ref a)(_:lT H3 a y v H4)(_:D.nx σ H4)
def GR (td ty tv:TE):TS:=λD σ H=>tv σ H λv H1=>td σ H1 λx H2=>ty σ H2 λy H3=>FN D σ v x y H3
section
variable {o i value:Expr}{pos' tpos:Pos}{td ty tv:TE}
def hJ (p:X.A.units+1<cLine)(l:PE X o td)(z:PE X i ty)(hs:autoParam (Fw i) eP._auto_1):PE X (.Subscript o i pos) (DL td ty):=by intro b s σ H Q I h;refine wO PySem.F.slot_dict_getitem.lookup hs (gm (l b s σ H _ I h) ?_);rintro u q ⟨x,m,t,r,D⟩;refine gm (z b q σ m _ t D) ?_;rintro L J ⟨y,B,e,w,a,v,j,g,E⟩;subst j;obtain rfl:u=Value.ref a:=r;exact⟨uK e g,yZ p e g w λG K C d=>⟨v,B,C,d,E⟩⟩
def nH (v:X.A.units+1<cLine)(t:PE X i ty)(e:PE X o td):PC X .In i o (Gr ty td):=by intro b s σ H Q I h;refine gm (t b s σ H _ I h) ?_;rintro G l ⟨y,j,q,r,B⟩;refine gm (e b l σ j _ q B) ?_;rintro u E ⟨x,w,C,m,a,p,d,g,D⟩;subst d;obtain rfl:u=Value.ref a:=m;exact Jy v C g r λF z=>⟨.bl p.isSome,w,z,rfl,D⟩
def jI (v:X.A.units+1<cLine)(t:PE X i ty)(e:PE X o td):PC X .NotIn i o (Cb ty td):=by intro b s σ H Q I h;refine gm (t b s σ H _ I h) ?_;rintro G l ⟨y,j,q,r,B⟩;refine gm (e b l σ j _ q B) ?_;rintro u E ⟨x,w,C,m,a,p,d,g,D⟩;subst d;obtain rfl:u=Value.ref a:=m;exact Dr v C g r λF z=>⟨.bl (!p.isSome),w,z,rfl,D⟩
def i6 (F:X.A.units+1<cLine)(B:PE X o td)(L:PE X i ty)(N:PE X value tv)(J:swapsWith value (some (.Subscript o i pos')) pos.line X.env=pure false):PS X (.Assign [.Subscript o i pos'] value pos) (GR td ty tv):=by intro b s σ H D I h;refine wpAny_Assign_Subscript (gm (N b s σ H _ I h) ?_) J;rintro r E ⟨v,C,j,z,q⟩;refine gm (B b E σ C _ j q) ?_;rintro u p ⟨x,M,w,G,O⟩;refine gm (L b p σ M _ w O) ?_;rintro S R ⟨y,Q,l,K,a,m,d,g,t⟩;subst d;obtain rfl:u=Value.ref a:=G;exact yY F l g K z λP e=>⟨σ,m,e,t⟩
end
def qb (h:Heap)(hb:sysModules<h.objs.size):gf P w H (h.push {cls:=.type "dict",data:=.dict #[]}) h.objs.size (.dK []):=
 ⟨br _,beq_eq_false_iff_ne.mpr (Ne.symm (aW hb)),[],.nil,Heap.DictOf.new h⟩
def Ec:TE:=λ_ H Q=>∀p,H p=none->Q (.ref p) (upd H p (.dK []))
def ie:PE X (.Dict [] [] pos) Ec:=λpins s σ H Q I h=>
 wpAny_Dict_empty ⟨.ref s.heap.objs.size,_,I.laid (a:=s.heap.objs.size) (o:=.dK []) (t':=s.toks) (λ_ _ q=>az _ q) (am _) (qb s.heap I.big),rfl,h _ (I.hok.fresh (am _))⟩
def rM:ef (TE×TE)->St->Hp->(ef (V×V)->Hp->Prop)->Prop
 |[],_,H,Q=>Q [] H
 |(tk,tv)::r,σ,H,Q=>tk σ H λx H1=>tv σ H1 λy H2=>rM r σ H2 λps H3=>Q ((x,y)::ps) H3
abbrev VV:ef (V×V)->ef (dZ×dZ)->Prop:=Paired λp q=>fi p.1 q.1/\fi p.2 q.2
def HD (X:Cx)(pos:Pos)(keys:ef (el Expr))(values:ef Expr)(trs:ef (TE×TE)):Prop:=
 ∀(pins:ef (dY×Obj)) (s:d0) (σ:St) (H:Hp) (Q:ef (V×V)->Hp->Prop),eX X pins σ H s->rM trs σ H Q->
  wpAny (model X.prog X.w) X.A (evalPairs (pairTrees keys values X.env pos)) (λvs s'=>∃ps H',eX X pins σ H' s'/\VV ps vs/\Q ps H') X.xe s
def wT:HD X pos [] [] []:=λpins s σ H Q I h=>pairTrees_nil_walk ⟨[],H,I,.nil,h⟩
def ul {k v:Expr}{ks:ef (el Expr)}{vs:ef Expr}{tk tv:TE}{trs:ef (TE×TE)}(hk:PE X k tk)(hv:PE X v tv)(hr:HD X pos ks vs trs):HD X pos (some k::ks) (v::vs) ((tk,tv)::trs):=λpins s σ H Q I h=>
 pairTrees_cons_walk (gm (hk pins s σ H _ I h) λu s1 ⟨x,H1,I1,rx,q1⟩=>gm (hv pins s1 σ H1 _ I1 q1) (by rintro w2 s2 ⟨y,H2,I2,ry,q2⟩;exact gm (hr pins s2 σ H2 _ I2 q2) (by rintro ws s3 ⟨ps,H3,I3,rel,q3⟩;exact⟨(x,y)::ps,H3,I3,.cons ⟨rx,ry⟩ rel,q3⟩)))
def iT (kvs more:ef (gM×V)):ef (gM×V):=more.foldl (λacc kv=>fJ acc kv.1 kv.2) kvs
def KV.merge:∀{more:ef (gM×V)} {rs:ef (gM×dZ)} {kvs:ef (gM×V)} {vs:ef (gM×dZ)},KV more rs->KV kvs vs->KV (iT kvs more) (merged vs rs):=by
 intro more rs kvs vs r;unfold KV at r;induction r generalizing kvs vs with|nil=>intro q;exact q|@cons p q ps qs h t ih=>
  intro a;have e:KV (fJ kvs p.1 p.2) (stored vs q.1 q.2):=by have:=a.put p.1 h.2;rw[<-h.1];exact this
  exact ih e
theorem km:∀(more kvs:ef (gM×V)),(iT kvs more).length<=kvs.length+more.length
 |[],kvs=>by show kvs.length<=kvs.length+0;lia
 |p::r,kvs=>by have h1:=km r (fJ kvs p.1 p.2);have h2:=ge kvs p.1 p.2;show(iT (fJ kvs p.1 p.2) r).length<=_;rw[aE];lia
theorem qg {P:ee}{w:World}:∀{kvs:ef (gM×V)} {ws:ef (dZ×dZ)},VV (kvs.map λkv=>(kV kv.1,kv.2)) ws->∃rs,Carries (fq P w) ws rs/\KV kvs rs
 |[],_,r=>by rw[cQ]at r;cases r;exact⟨[],True.intro,.nil⟩
 |p::kvs,_,r=>by rw[aH]at r;cases r with|@cons a b as bs h t=>obtain⟨rs,c,q⟩:=qg (P:=P) (w:=w) t;obtain⟨b1,b2⟩:=b;exact⟨(p.1,b2)::rs,⟨mi h.1,rfl,c⟩,.cons ⟨rfl,h.2⟩ q⟩
def Gq (trs:ef (TE×TE)):TE:=λσ H Q=>∀p,H p=none->rM trs σ (upd H p (.dK [])) λps H2=>H2 p=some (.dK [])/\∃kvs:ef (gM×V),ps=kvs.map (λkv=>(kV kv.1,kv.2))/\kvs.length<=15/\Q (.ref p) (upd H2 p (.dK (iT [] kvs)))
theorem CG {keys:ef (el Expr)}{values:ef Expr}{trs:ef (TE×TE)}(h:HD X pos keys values trs)(g:keys.all (·.isSome)=true)(C:keys.length=values.length)(p:keys≠[])(j:keys.length<=15):PE X (.Dict keys values pos) (Gq trs):=by
 intro d s σ H Q I q;have E:=I.hok.fresh (am s.heap.objs.size);have r:=I.laid (a:=s.heap.objs.size) (o:=.dK []) (h':=s.heap.push {cls:=.type "dict",data:=.dict #[]}) (t':=s.toks) (λ_ _ q=>az _ q) (am _) (qb s.heap I.big);refine wpAny_Dict_walk (knd:=fq X.prog X.w) g C p j (gm (h d _ σ _ _ r (q _ E)) ?_);rintro R O ⟨N,S,l,rel,e,b,G,M,L⟩;subst G;obtain⟨B,c,y⟩:=qg (P:=X.prog) (w:=X.w) rel;obtain⟨z,m,J,v,F⟩:=ri l.hok e;cases v;refine⟨B,c,F,λh' i D=>⟨.ref s.heap.objs.size,_,?_,rfl,L⟩⟩;have A:(iT [] b).length<=sizeLine:=by have x:=km b [];rw[cR]at x;rw[bt];lia
 have K:∃q,h'.get? s.heap.objs.size=some q:=(by obtain⟨q,_,_,t,_⟩:=i;exact⟨q,t⟩);exact j7 l (by rw[e];exact True.intro) D K (nW A m (y.merge .nil) i)
structure M1 (X:Cx)(o:Expr)(m:Str)(apos:Pos)(e:Expr)(cpos:Pos):Prop where
 base:attributeBase o m X.env (eval o X.env)=eval o X.env
 few:((backTo cpos (starEach [e] X.env)).all (λx=>!x.1)&&(backToKw cpos (keywordEach [] X.env)).all (λx=>x.1.isSome)&&decide (([e]:ef Expr).length+([]:ef Keyword).length+(if ([]:ef Keyword).isEmpty then 0 else 1)<30))=true
 line:(apos.endLine == cpos.line)=true
 trees:backTo cpos (starEach [e] X.env)=[(false,eval e X.env)]
structure M2 (X:Cx)(o:Expr)(m:Str)(apos:Pos)(e f:Expr)(cpos:Pos):Prop where
 base:attributeBase o m X.env (eval o X.env)=eval o X.env
 few:((backTo cpos (starEach [e,f] X.env)).all (λx=>!x.1)&&(backToKw cpos (keywordEach [] X.env)).all (λx=>x.1.isSome)&&decide (([e,f]:ef Expr).length+([]:ef Keyword).length+(if ([]:ef Keyword).isEmpty then 0 else 1)<30))=true
 line:(apos.endLine == cpos.line)=true
 trees:backTo cpos (starEach [e,f] X.env)=[(false,eval e X.env),(false,eval f X.env)]
def HS (H:Hp)(a:dY):Prop:=(∃kvs,Rd H a (.dK kvs))\/∃kvs,Rd H a (.dT kvs)
def v4 (I:eX X pins σ H s)(d:HS H a):s.TypeIs (.ref a) "dict"/\(∀b,Value.ref a=.ref b->∃ob,s.heap.get? b=some ob/\ob.dict=none)/\(a == sysModules)=false:=by rcases d with ⟨i,e⟩|⟨i,e⟩;obtain⟨_,h,m,_,g⟩:=lQ I.hok e;refine⟨g.typeIs,λb q=>?_,h⟩;cases q;obtain⟨ob,_,_,l,j,_⟩:=g;exact⟨ob,l,j.2.1⟩;obtain⟨_,h,o,_,g⟩:=p3 I.hok e;refine⟨g.typeIs,λb q=>?_,h⟩;cases q;obtain⟨ob,_,_,l,j,_⟩:=g;exact⟨ob,l,j.2.1⟩
section
variable {d:V}{u r:dZ}
def Fm (v:A.units+1<cLine)(I:eX X pins σ H s)(g:iP H a y o)(q:fi y u)(rd:fi d r)(h:∀w' s',eX X pins σ H s'->fi (o.getD d) w'->Q w' s'):wpAny (model X.prog X.w) A (call (.builtin "dict.get") [.ref a,u,r]) Q E s:=by rcases g with ⟨m,k,e,p,l⟩|⟨m,k,b,e,p,x,l⟩;subst p;obtain⟨z,j,B,rel,i⟩:=lQ I.hok e;refine call_meetsIn PySem.F.slot_dict_get i.typeIs PySem.F.entry_dict_get (PySem.F.args_dict_get_3 _ _ _) (meets_dict_get_default (fq X.prog X.w) a (mi q) j r) ⟨_,i.mapOf,h _ _ (I.tok _) ?_⟩;rw[l];exact(rel.val k).getD rd;subst p;cases (show u=Value.ref b from q);obtain⟨z,j,t,rel,i⟩:=p3 I.hok e;refine call_meetsIn PySem.F.slot_dict_get i.typeIs PySem.F.entry_dict_get (PySem.F.args_dict_get_3 _ _ _) (meetsH_dict_get_default (tupleKind (fq X.prog X.w)) a b j r) ⟨dr v,k,t,mF I.hok x,i,h _ _ (I.tok _) ?_⟩;rw[l];exact(rel.val k).getD rd
end
inductive DC (ty:TE)(tx:TE)(σ:St)(Q:VK)(x:V)(H1:Hp):Prop
 |mk (a:_)(_:x=.ref a)(_:HS H1 a)(_:ty σ H1 λy H2=>tx σ H2 λz H3=>∃o,iP H3 a y o/\Q (o.getD z) H3)
def Ee (td ty tx:TE):TE:=λσ H Q=>td σ H λx H1=>DC ty tx σ Q x H1
inductive DA (ty:TE)(σ:St)(Q:VK)(x:V)(H1:Hp):Prop
 |mk (a:_)(_:x=.ref a)(_:HS H1 a)(_:ty σ H1 λy H2=>∃kvs k v,H2 a=some (.dK kvs)/\y=kV k/\fc kvs k=some v/\Q v (upd H2 a (.dK (j5 kvs k))))
def Ea (td ty:TE):TE:=λσ H Q=>td σ H λx H1=>DA ty σ Q x H1
section
variable {o f:Expr}{apos cpos:Pos}{td ty tx:TE}
def kC (L:X.A.units+1<cLine)(E:PE X o td)(R:PE X e ty)(D:PE X f tx)(m:M2 X o "get" apos e f cpos):PE X (.Call (.Attribute o "get" apos) [e,f] [] cpos) (Ee td ty tx):=by intro b s σ H Q I h;refine dz m.base m.few m.line PySem.F.plainAttrs_dict PySem.F.slot_dict_get PySem.F.type_dict_get (gm (E b s σ H _ I h) ?_);rintro u K ⟨x,J,j,M,a,l,d,w⟩;subst l;obtain rfl:u=Value.ref a:=M;obtain⟨G,p,_⟩:=v4 j d;refine⟨G,p,?_⟩;rw[m.trees];refine Calls.callWith_builtin rfl (Calls.evalArgs_plain (Calls.spliced_cons (gm (R b K σ J _ j w) λiv v ⟨y,P,C,N,S⟩=>Calls.spliced_cons (gm (D b v σ P _ C S) λfv Z ⟨z,r,t,O,Y,g,B⟩=>Calls.spliced_nil ?_))));exact Fm L t g N O λU T q i=>⟨_,r,q,i,B⟩
def Aw (z:PE X o td)(G:PE X e ty)(m:M1 X o "pop" apos e cpos):PE X (.Call (.Attribute o "pop" apos) [e] [] cpos) (Ea td ty):=by intro b s σ H Q I h;refine dz m.base m.few m.line PySem.F.plainAttrs_dict PySem.F.slot_dict_pop PySem.F.type_dict_pop (gm (z b s σ H _ I h) ?_);rintro u C ⟨x,B,i,D,a,j,d,t⟩;subst j;obtain rfl:u=Value.ref a:=D;obtain⟨A,p,_⟩:=v4 i d;refine⟨A,p,?_⟩;rw[m.trees];refine Calls.callWith_builtin rfl (Calls.evalArgs_plain (Calls.spliced_cons (gm (G b C σ B _ i t) ?_)));rintro R N ⟨y,O,w,E,q,k,v,K,J,l,L⟩;refine Calls.spliced_nil ?_;subst J;exact Hw w K E l (.inl rfl) λM P r g=>⟨v,_,r,g,L⟩
end
def Bw (I:eX X pins σ H s)(e:Rd H a (.dK kvs))(h:∀p s',H p=none->eX X pins σ (upd H p (.dK kvs)) s'->Q (.ref p) s'):wpAny (model X.prog X.w) A (call (.type "dict") [.ref a]) Q E s:=by obtain⟨z,i,r,rel,l⟩:=lQ I.hok e;refine kt_call_dict i l (by rw[<-rel.length];exact z) λm d j=>?_;refine h _ _ (I.hok.fresh (am _)) (I.laid (a:=s.heap.objs.size) (o:=.dK kvs) (t':=s.toks) (λb q g=>?_) (am _) (nW z (beq_eq_false_iff_ne.mpr (Ne.symm (aW I.big))) rel d));exact(j.2 b (aW (aU g))).trans (az _ g)
section
variable {u:dZ}
end
end Lake
namespace Att
open PySem PySem.W PySem.Calls PyProof.Rows
def oC {P:Params}{h:Heap}:∀(ns:ef Int) (vs:ef dZ),WellAll P h vs (ns.map WData.int)->IntsAre vs ns:=by intro ns;induction ns with|nil=>intro vs w;rw[cQ]at w;cases w;exact .nil|cons n ns ih=>intro vs w;rw[aH]at w;cases w with|cons a b=>cases a;exact .cons _ _ (ih _ b)
theorem xX {l:OpenLaw}{n:Nat}(w:l.most=some n){P:Params}{h:Heap}{args:ef WData}{vals:ef dZ}(b:l.row.toRowW.claim.pre args=true)(m:WellAll P h vals args):∃a vs ns,vals=[Value.ref a]/\args=[WData.list (ns.map WData.int)]/\h.get? a=some {cls:=.type "list",data:=.seq vs.toArray}/\IntsAre vs ns/\ns.length<=n:=by
 have j:WShape.hasAll [] args [.list .int]=true:=(pre_splitW b).1;have o:l.pre.holds [] {args:=args}=true:=(pre_splitW b).2;obtain⟨d,r,rfl,s,p⟩:=hasAllW_cons j;obtain rfl:=hasAllW_nil p;obtain⟨x,rfl,t⟩:=hasW_list s;obtain⟨ns,rfl⟩:=items_int t;have e:ns.length<=n:=by
  unfold OpenLaw.pre at o;have g:(WTm.not (.lt (.lit (.int (n:Int))) (.len (.arg 0)))).holds [] {args:=[.list (ns.map .int)]}=true:=by have g:=(holds_andW o).1;rw[w]at g;exact g
  have i:=condW_of g (w_not (w_lt w_lit (w_len_list (w_arg rfl))));rw[ab]at i;refine Nat.le_of_not_lt λq=>?_;have v:(n:Int)<((ns.length:Nat):Int):=by lia
  first
   |(rw[aq v]at i;exact absurd i (by decide))
   |(simp at i;lia)
 cases m with|cons w1 w2=>cases w2;cases w1 with|list ho hall=>exact⟨_,_,ns,rfl,rfl,ho,oC ns _ hall,e⟩
def x6 (l:OpenLaw)(args:ef WData):l.row.toRowW.claim.post args (.bool true) args=true:=
 postW_of (r:=l.row.toRowW) (X:=(true == true))
  (show WShape.has [] (.bool true) .bool=true by first|rfl|decide|simp[WShape.has,WShape.arms,WShape.armsAll])
  (show(WTm.eq .res (.lit (.bool true))).value [] {args:=args,res:=some (.bool true),after:=args}=some (.bool (true == true)) from w_eq_bool (w_res rfl) w_lit) rfl
def uS {l:OpenLaw}{n:Nat}{q:ee}{loose:ef Str}{XP:(Str->el dZ)->Heap->Prop}{YP:World->Heap->Prop}{d:DefRec}(I:l.most=some n)(j:d.params.defaults=[])(call:∀(w:World) (s₀ s₁:d0) (mg mb:Str->el dZ) (fa:dY) (o:Obj) (pm cd doc:dZ) (a:dY) (vs:ef dZ) (ns:ef Int),Ground q loose [] XP w s₀ mg mb s₁.heap->YP w s₁.heap->s₁.heap.get? fa=some o->o.data=.func (docDef d.name d.params d.body d.scope pm cd doc)->s₁.heap.CodeRec cd d.name->mg d.name=some (.ref fa)->s₁.heap.get? a=some {cls:=.type "list",data:=.seq vs.toArray}->IntsAre vs ns->ns.length<=n->s₁.gens=#[]->codeAny (model l.prog w) callerA (.call (.ref fa) ⟨[.ref a],[]⟩) (λr s'=>r=.ok (.ret (.bool true))/\OldK s₁.heap s'.heap/\s'.os=s₁.os/\AllBare s'.gens) s₁):WalkO q loose XP YP l.row.toRowW d [] (λf vs=>PySem.call f vs):=by intro w s₀ s₁ mg mb G Y fa o pm cd doc L kV E z p x m B t v M h y F i K;obtain rfl:L=.none:=Dflts.none x j;obtain rfl:kV=.none:=Dflts.noKw x;obtain⟨a,vs,ns,rfl,rfl,e,b,g⟩:=xX I h i;refine enter_call (codeAny_mono (call w s₀ s₁ mg mb fa o pm cd doc a vs ns G Y E (fd_plain z) p m e b g B) λr s' C=>?_);obtain⟨rfl,A,H,D⟩:=C;exact⟨.inl ⟨.bool true,.bool true,[],rfl,λ_=>rfl,.bool true,x6 l _,λ_=>⟨List.Pairwise.nil,λ_ J=>(nomatch J)⟩⟩,A,H,D⟩
section
variable {prog:ee}{w:World}{A:dX}{E:dZ->d0->Prop}{s:d0}{K:Frag}
end
end Att
namespace Lake
open PySem PySem.Spec PyProof.Rows
variable {A B:Prop}{H:Hp}{qual x:Str}{st:Stmt}
theorem nw:∀{vs:ef dZ} {ns:ef Int},IntsAre vs ns->gj (ns.map V.int) vs
 |_,_,.nil=>.nil
 |_,_,.cons n t h=>.cons ⟨t,rfl⟩ (nw h)
noncomputable def fT (s:Stmt)(j:Nat):Stmt:=match s with
 |.ClassDef _ _ _ body _ _ _ _ _ _ _=>body.getD j (.Pass ⟨0,0,0,0⟩)
 |_=>.Pass ⟨0,0,0,0⟩
noncomputable def io (s:Stmt):Arguments:=match s with
 |.FunctionDef _ a _ _ _ _ _ _ _ _=>a
 |_=>{posonlyargs:=[],args:=[],vararg:=none,kwonlyargs:=[],kw_defaults:=[],kwarg:=none,defaults:=[]}
def gO (s:Stmt):ef Stmt:=match s with
 |.FunctionDef _ _ b _ _ _ _ _ _ _=>b
 |_=>[]
noncomputable def eK (s:Stmt):Scope:=match s with
 |.FunctionDef _ _ _ _ _ _ sc _ _ _=>sc
 |_=>{kind:=.function,names:=[],isGenerator:=false,isCoroutine:=false}
abbrev fC:u4:=λ_ _ _ _ _ _=>False
abbrev E0:XK:=λ_ _ _=>False
def fN {X:Cx}:ku fC X E0:=λ_ _ _ _ _ _ _ h=>h.elim
structure iE (K:W.Frag)(x qual:Str)(st:Stmt)(f:dY)(fd:eg):Prop where
 ex:∃(oc:dZ) (od:el dY) (kV doc pm:dZ) (an:el dY) (cdv ct:dZ) (osl:Array (el dZ)),
  fd=W.fnOf x qual (io st) (gO st) (eK st) .none kV doc pm an cdv ct/\K.lookup f=some ⟨oc,od,.func fd,osl⟩/\W.codeIn K cdv qual=true
 kp:W.keepIn K (.ref f)=true
section
variable {P:ee}{w:World}{K:W.Frag}{mg:Str->el dZ}{base:Heap}
theorem iE.ok {f:dY}{fd:eg}{N ps:ef Str}{k:Nat}{sp:Sp}(F:iE K x qual st f fd)(S:eQ N ps (eK st))(a:∀(cdv:dZ) (A:dX) (outer:ef Env) (s:d0) (H:Hp) (vs:ef V) (Q:VK) (E:XK),gU k (A.deeper (envOfC qual (eK st) s.heap.objs.size f cdv))->sp vs H Q E->∃t,ni (qG fC P w K mg base N qual (eK st) f cdv A outer s H E).nox (gO st) t/\t {nx:=λ_ H'=>Q .non H',rt:=Q} (start N vs) H)(len:∀vs H Q E,sp vs H Q E->vs.length=ps.length:=by intro _ _ _ _ h;cases h;subst_vars;rfl):fB P w K mg base fC (k+1) f fd ps sp:=by obtain⟨m,p,kV,i,l,o,cdv,r,j,rfl,e,d⟩:=F.ex;refine DW e d S len λA outer s H vs Q E g b=>?_;obtain⟨t,h,q⟩:=a cdv A outer s H vs Q E g b;exact⟨t,h.nox,q⟩
def iE.binds {f:dY}{fd:eg}{ps:ef Str}(F:iE K x qual st f fd)(h:∀(kV doc pm:dZ) (an:el dY) (cdv ct:dZ) (us:ef dZ),us.length=ps.length->bindArgs (W.fnOf x qual (io st) (gO st) (eK st) .none kV doc pm an cdv ct) ⟨us,[]⟩=pure (ps.zip us)):iM K fd ps []:=by obtain⟨g,d,kV,doc,pm,an,cdv,ct,b,rfl,e,a⟩:=F.ex;exact .all (h kV doc pm an cdv ct)
def nT {f:dY}{oc:dZ}{od an:el dY}{osl:Array (el dZ)}{kV doc pm cdv ct:dZ}(l:K.lookup f=some ⟨oc,od,.func (W.fnOf x qual (io st) (gO st) (eK st) .none kV doc pm an cdv ct),osl⟩)(c:W.codeIn K cdv qual=true)(k:W.keepIn K (.ref f)=true):iE K x qual st f (W.fnOf x qual (io st) (gO st) (eK st) .none kV doc pm an cdv ct):=⟨⟨oc,od,kV,doc,pm,an,cdv,ct,osl,rfl,l,c⟩,k⟩
end
def gH {A:dX}{k:Nat}(hr:gU k A):A.units+1<cLine:=bK (Nat.add_le_add_left (by decide:1<=64) _) hr.units
def eY {n:Nat}(h:n<=1000):n<sizeLine:=bK h (by decide)
def u6:0<=sizeLine:=by decide
def DI:1<=sizeLine:=by decide
def qK:2<=sizeLine:=by decide
def B4:3<=sizeLine:=by decide
def Ge:4<=sizeLine:=by decide
def J8:6<=sizeLine:=by decide
def ID:10<=sizeLine:=by decide
section
variable {X:Cx}
def pv (i:Nat){pos:Pos}(hN:autoParam (X.N[i]?=some x) gF._auto_1)(hv:Dv X.env.scope x:=by first|exact Or.inl rfl|exact Or.inr (Or.inl rfl)|exact Or.inr (Or.inr rfl))(hd:autoParam ((x == ("__debug__":Str))=false) Aq._auto_1)(hcd:autoParam ((x == ("__classdict__":Str))=false) Aq._auto_1):PE X (.Name x pos) (oA i):=Aq hN hv hd hcd
end
def fz (h:B):if false=true then A else B:=by rw[av aT];exact h
def gY (h:A):if true=true then A else B:=by rw[ay rfl];exact h
def jg {c:Prop} [Decidable c] (a:c->A)(b:¬c->B):if c then A else B:=by by_cases h:c;rw[ay h];exact a h;rw[av h];exact b h
def eN (H H':Hp):Prop:=∀b o,H b=some o->H' b=some o
def eN.refl (H:Hp):eN H H:=λ_ _ h=>h
def eN.trans {H1 H2:Hp}(a:eN H H1)(b:eN H1 H2):eN H H2:=λc o h=>b c o (a c o h)
def eN.free {H':Hp}(e:eN H H'){l:dY}(h:H' l=Option.none):H l=Option.none:=by cases q:H l with|none=>rfl|some o=>rw[e l o q]at h;cases h
def eN.seq {K:W.Frag}{H':Hp}{a:dY}{xs:ef V}(e:eN H H')(h:ff K H a xs):ff K H' a xs:=by rcases h with (h|⟨o,h⟩)|h;exact .inl (.inl (e _ _ h));exact .inl (.inr ⟨o,e _ _ h⟩);exact .inr h
section
variable {κ:Type} [DecidableEq κ]
def i5 {kvs:ef (κ×V)}{k:κ}{v:V}(h:fc kvs k=some v):k∈kvs.map (·.1):=by
 have q:(kvs.any λa=>decide (a.1=k))=true:=by rw[jh,h];all_goals rfl
 obtain⟨p,hp,e⟩:=dD.mp q;exact aC.mpr ⟨p,hp,aI e⟩
theorem sQ:∀{l:ef κ} {k:κ},l.Nodup->¬k∈l->(l++[k]).Nodup
 |[],k,_,_=>by simp
 |a::r,k,h,hk=>by obtain⟨h1,h2⟩:=aX.mp h;show(a::(r++[k])).Nodup;refine aX.mpr ⟨λm=>?_,sQ h2 λm=>hk (ao.mpr (Or.inr m))⟩;rcases aA.mp m with q|q;exact h1 q;exact hk (ao.mpr (Or.inl (aj.mp q).symm))
end
end Lake
set_option maxHeartbeats 4000000
namespace Lake
open PySem PySem.Spec PyProof.Rows
variable {A:dX}{E Q:dZ->d0->Prop}{H H':Hp}{K:W.Frag}{N':ef Str}{P:ee}{X:Cx}{a d:dY}{e:Expr}{es:Array DictEntry}{g:TG}{h:Heap}{i j:Nat}{ks:ef gi}{kvs:ef (gi×V)}{p pos:Pos}{pins:ef (dY×Obj)}{s:d0}{scope:Scope}{te:TE}{tt:TT}{v:dZ}{w:World}{x:Str}{xs:ef (gi×dZ×dZ)}{y:V}{σ:St}
mutual
inductive ua (H:Hp):V->PyData->Prop
 |non:ua H .non .none
 |bl (b:Bool):ua H (.bl b) (.bool b)
 |int (i:Int):ua H (.int i) (.int i)
 |str (x:Str):ua H (.str x) (.str x)
 |lst {a:dY} {xs:ef V} {ds:ef PyData}:H a=some (.lst xs)->qt H xs ds->ua H (.ref a) (.list ds)
 |tup {a:dY} {xs:ef V} {ds:ef PyData}:H a=some (.tup xs)->qt H xs ds->ua H (.ref a) (.tuple ds)
inductive qt (H:Hp):ef V->ef PyData->Prop
 |nil:qt H [] []
 |cons {v:V} {d:PyData} {vs:ef V} {ds:ef PyData}:ua H v d->qt H vs ds->qt H (v::vs) (d::ds)
end
mutual
theorem ua.reads (I:eX X pins σ H s):∀{v:V} {d:PyData} {u:dZ},ua H v d->fi v u->∃as,Reads s.heap u d as
 |_,_,u,.non,r=>by cases (show u=Value.none from r);exact⟨_,.none⟩
 |_,_,u,.bl b,r=>by cases (show u=Value.bool b from r);exact⟨_,.bool b⟩
 |_,_,u,.int i,r=>by obtain⟨t,e⟩:=(show ∃t,u=Value.int i t from r);subst e;exact⟨_,.int i t⟩
 |_,_,u,.str x,r=>by obtain⟨t,e⟩:=(show ∃t,u=Value.str x t from r);subst e;exact⟨_,.str x t⟩
 |_,_,u,.lst (a:=a) (xs:=xs) h q,r=>by cases (show u=Value.ref a from r);obtain⟨z,its,n,rv,e⟩:=(show gf X.prog X.w H s.heap a (.lst xs) from I.hok a _ h);obtain⟨as,k⟩:=qt.readsAll I q rv;exact⟨_,.list e rfl rfl (by simpa using k)⟩
 |_,_,u,.tup (a:=a) (xs:=xs) h q,r=>by cases (show u=Value.ref a from r);obtain⟨z,its,rv,o,e,c,n,dd⟩:=(show gf X.prog X.w H s.heap a (.tup xs) from I.hok a _ h);obtain⟨as,k⟩:=qt.readsAll I q rv;exact⟨_,.tuple e c dd (by simpa using k)⟩
theorem qt.readsAll (I:eX X pins σ H s):∀{vs:ef V} {ds:ef PyData} {us:ef dZ},qt H vs ds->gj vs us->∃as,ReadsAll s.heap us ds as
 |_,_,_,.nil,.nil=>⟨_,.nil⟩
 |_,_,_,.cons r t,.cons h k=>by obtain⟨as,e⟩:=ua.reads I r h;obtain⟨bs,f⟩:=qt.readsAll I t k;exact⟨_,.cons e f⟩
end
inductive HX (x:V)(y:V)(H:Hp)(Q:VK):Prop
 |mk (d e:_)(_:ua H x d)(_:ua H y e)(_:SeqAt.shaped d=true)(_:SeqAt.shaped e=true)(_:Q (.bl (!PyData.eqv d e)) H)
def Jh:R2:=λx y H Q=>HX x y H Q
def vD (i:X.A.units+64<cLine):oy X (compareOp .NotEq) Jh:=by intro a s σ H x y u v Q I j m h;obtain⟨d,e,r,g,l,p,q⟩:=h;obtain⟨t,b⟩:=r.reads I j;obtain⟨bs,o⟩:=g.reads I m;exact ne_dataH b o l p i ⟨.bl _,H,I,rfl,q⟩
inductive Ic (neg:Bool)(x:V)(y:V)(H:Hp)(Q:VK):Prop
 |mk (d es:_)(_:ua H x d)(_:ua H y (.list es))(_:d.canLay0=true)(_:PyData.canLayAll0 es=true)(_:d.depth<=60)(_:Q (.bl (if neg then !(es.any λz=>PyData.eqv z d) else es.any λz=>PyData.eqv z d)) H)
def GU (neg:Bool):R2:=λx y H Q=>Ic neg x y H Q
theorem EG (t:X.A.units+64<cLine):oy X (compareOp .In) (GU false):=by intro a s σ H x y u v Q I i l h;obtain⟨d,g,p,e,j,o,w,q⟩:=h;obtain⟨r,b⟩:=p.reads I i;obtain⟨bs,m⟩:=e.reads I l;refine SeqAt.in_list_reads m b o j ?_ ⟨.bl _,H,I,rfl,q⟩;have:=Nat.min_le_right (PyData.depthAll g) d.depth;lia
theorem nL (t:X.A.units+64<cLine):oy X (compareOp .NotIn) (GU true):=by intro a s σ H x y u v Q I i l h;obtain⟨d,g,p,e,j,o,w,q⟩:=h;obtain⟨r,b⟩:=p.reads I i;obtain⟨bs,m⟩:=e.reads I l;refine SeqAt.notIn_list_reads m b o j ?_ ⟨.bl _,H,I,rfl,q⟩;have:=Nat.min_le_right (PyData.depthAll g) d.depth;lia
def gf.some {o:HO}(x:gf P w H h a o):∃ob,h.get? a=Option.some ob:=by cases o with|lst xs=>obtain⟨_,_,_,_,e⟩:=x;exact⟨_,e⟩|tup xs=>obtain⟨_,_,_,o,e,_⟩:=x;exact⟨o,e⟩|dK kvs=>obtain⟨_,_,_,_,o,_,_,e,_⟩:=x;exact⟨o,e⟩|dT kvs=>obtain⟨_,_,_,_,o,_,_,e,_⟩:=x;exact⟨o,e⟩|dN kvs=>obtain⟨_,_,_,_,o,_,_,e,_⟩:=x;exact⟨o,e⟩|set S n=>obtain⟨o,_,_,_,e,_⟩:=x;exact⟨o,e⟩|ins C dx fs=>obtain⟨_,_,_,e,_⟩:=x;exact⟨_,e⟩|own y=>exact x|xd fs=>obtain⟨_,⟨o,_,_,e,_⟩,_⟩:=x;exact⟨o,e⟩|rng lo hi=>obtain⟨_,_,_,e⟩:=x;exact⟨_,e⟩|frz ob u=>exact⟨_,x.1⟩|tbl ps=>exact⟨_,x⟩|met f y=>exact⟨_,x⟩|ext φ=>exact x.2.1
section
variable {x:dY}{cls:dZ}{M:Model}
def eX.K7 {b:dY}(I:eX X pins σ H s)(a:s.heap.get? b=none)(h:H' b=none):jW X pins H' b:=by
 refine⟨h,λz=>?_,λz=>?_,?_,λy c e z=>?_,λp hp z=>?_⟩;obtain⟨m,⟨o,_,_,d,_⟩,_⟩:=I.loc;rw[z,d]at a;cases a;obtain⟨_,o,d,_⟩:=I.funs.mem z;rw[d]at a;cases a;by_cases hx:b∈X.ex;exact .inl hx;refine .inr ?_;cases e:X.s₀.heap.get? b with|none=>rfl|some o=>obtain⟨i,g⟩:=I.base.there b o e hx;rw[g]at a;cases a
 obtain⟨v,o,d,_⟩:=I.cell y c e;rw[z,a]at d;cases d;have q:=(I.pin p hp).1;rw[z,a]at q;cases q
end
section
variable {s':d0}{e:dZ}{E:XK}
end
section
variable {mg:Str->el dZ}{base:Heap}
end
section
variable {np cpos:Pos}{a:Expr}{t:TA}{C:dY}{bmB:ef dZ}{B newId initId:String}{W:ef (dY×Obj)->St->dZ->Hp->Prop}
end
section
variable {pins':ef (dY×Obj)}{A':dX}{c':Bool}{E':dZ->d0->Prop}{pn':ef (dY×Obj)}
end
section
variable {CX:u4}{k:Nat}{f:dY}{fd:eg}{ps:ef Str}{sp:Sp}{EX:St->XK}{es:ef Expr}{t:TA}
end
noncomputable abbrev t8 (X:Cx)(N':ef Str)(scope:Scope)(cl:ef (Str×dY))(C:dY)(s₂:d0)(H₂:Hp)(fp:ef dY):Cx:=
 {X with N:=N',s₀:=s₂,H₀:=H₂,env:=compEnvC scope cl C X.env,outer:=X.stack,ex:=fp,fn:=λ_=>false,pn:=[],xe:=λ_ _=>False}
def GK (n:Nat)(g:TG):Prop:=∀v σ H Q,g v σ H Q->g v σ H λσ2 H2=>Q σ2 H2/\σ2.length=σ.length/\∀i,n<=i->σ2[i]?=σ[i]?
def IC (n:Nat)(g:xR):Prop:=∀v σ H Q,g v σ H Q->g v σ H λσ2 H2=>Q σ2 H2/\σ2.length=σ.length/\∀i,n<=i->σ2[i]?=σ[i]?
theorem iC {n:Nat}(h:i<n):GK n (jw i):=λv σ H Q q=>by
 refine⟨q,by simp,λj hj=>?_⟩;rw[List.getElem?_set_ne (by lia)]
def Di {n:Nat}:IC n Fc:=(by rintro v σ H Q ⟨e,q⟩;exact⟨e,q,rfl,λ_ _=>rfl⟩)
def GM (g:TG):Prop:=∀v σ H (Q Q':St->Hp->Prop),(∀a b,Q a b->Q' a b)->g v σ H Q->g v σ H Q'
def IB (g:xR):Prop:=∀v σ H (Q Q':St->Hp->Prop),(∀a b,Q a b->Q' a b)->g v σ H Q->g v σ H Q'
def tw:GM (jw i):=λ_ _ _ _ _ h q=>h _ _ q
def xn:IB Fc:=(by rintro _ _ _ _ _ h ⟨e,q⟩;exact⟨e,h _ _ q⟩)
def Bl {t:TG}{u:xR}(ht:GM t)(hu:IB u):IB (Bn t u):=(by rintro v σ H Q Q' h ⟨x,r,e,q⟩;exact⟨x,r,e,ht _ _ _ _ _ (λa b z=>hu _ _ _ _ _ h z) q⟩)
def uB {n:Nat}{t:TG}{u:xR}(ht:GK n t)(mt:GM t)(hu:IC n u)(mu:IB u):IC n (Bn t u):=λv σ H Q ⟨x,r,e,q⟩=>by
 refine⟨x,r,e,mt _ _ _ _ _ (λa b z=>?_) (ht _ _ _ _ q)⟩;obtain⟨z1,z2,z3⟩:=z;refine mu _ _ _ _ _ (λc d y=>?_) (hu _ _ _ _ z1);exact⟨y.1,y.2.1.trans z2,λi hi=>(y.2.2 i hi).trans (z3 i hi)⟩
def Fb {n m:Nat}{t:xR}(h:IC n t):GK n (Hu K m t):=(by rintro v σ H Q ⟨a,xs,e,s,l,q⟩;exact⟨a,xs,e,s,l,h _ _ _ _ q⟩)
def HC (X:Cx)(ifs:ef Expr)(t:TT):Prop:=
 ∀(pins:ef (dY×Obj)) (s:d0) (σ:St) (H:Hp) (Q:Bool->Hp->Prop),eX X pins σ H s->t σ H Q->
  wpAny (model X.prog X.w) X.A (forIn ifs true λc r=>if r=true then do let ok <-isTrue c X.env (eval c X.env);pure (ForInStep.yield ok) else pure (ForInStep.yield r)) (TP X pins σ Q) X.xe s
def rL:TT:=λ_ H Q=>Q true H
def jY:HC X [] rL:=λpins s σ H Q I h=>wpAny_tests_nil ⟨H,I,h⟩
def mP {c:Expr}{t:TT}(h:PT X c t):HC X [c] t:=λpins s σ H Q I q=>wpAny_tests_one (h pins s σ H Q I q)
def qw (J:It)(g:TG)(tt:TT)(te:TE)(σ':St)(H1:Hp)(Q:VK):Prop:=∀D,H1 D=none->∃W:Nat->Nat->ef V->Hp->Prop,(∃m,W 0 m [] (upd H1 D (.lst [])))/\∀i m ys H,W i m ys H->H D=some (.lst ys)/\ys.length<sizeLine/\
 ((J.stop i H/\Q (.ref D) H)\/(J.go i H/\∃N:ef V->Hp->Prop,(∀zs H',N zs H'->∃m',m'<m/\W (i+1) m' zs H')/\∀x H2,J.yld i H x H2->g x σ' H2 λσ2 H3=>tt σ2 H3 λb H4=>if b=true then te σ2 H4 λy H5=>H5 D=some (.lst ys)/\N (ys++[y]) (upd H5 D (.lst (ys++[y]))) else N ys H4))
theorem iy {xs:ef V}{σ':St}{H1:Hp}{Q:VK}(d:dY->Nat->ef V->Hp->Prop)(o:∀D,H1 D=none->d D 0 [] (upd H1 D (.lst [])))(l:∀D i ys H,i<=xs.length->d D i ys H->ff K H a xs/\H D=some (.lst ys)/\ys.length<sizeLine)(q:∀D i x ys H,xs[i]?=some x->d D i ys H->g x σ' H λσ2 H3=>tt σ2 H3 λb H4=>if b=true then te σ2 H4 λy H5=>H5 D=some (.lst ys)/\d D (i+1) (ys++[y]) (upd H5 D (.lst (ys++[y]))) else d D (i+1) ys H4)(j:∀D ys H,d D xs.length ys H->Q (.ref D) H):qw (FA K a) g tt te σ' H1 Q:=by
 intro D s;refine⟨λi m ys H=>m=xs.length-i/\i<=xs.length/\d D i ys H,⟨xs.length,by simp,br _,o D s⟩,?_⟩;rintro i m ys H ⟨rfl,r,p⟩;obtain⟨h,z,w⟩:=l D i ys H r p;refine⟨z,w,?_⟩;by_cases hlt:i<xs.length;refine .inr ⟨⟨xs,xs[i],h,by simp[hlt]⟩,d D (i+1),λA v t=>⟨xs.length-(i+1),by lia,rfl,hlt,t⟩,λx v y=>?_⟩;obtain⟨e,y⟩:=y;subst e;exact q D i x ys _ (y xs h) p;have e:i=xs.length:=by lia
 subst e;exact .inl ⟨⟨xs,h,am _⟩,j D ys H p⟩
theorem wb {lo:Int}{n:Nat}{σ':St}{H1:Hp}{Q:VK}(a:dY->Nat->ef V->Hp->Prop)(j:∀D,H1 D=none->a D 0 [] (upd H1 D (.lst [])))(h:∀D i ys H,i<=n->a D i ys H->H D=some (.lst ys)/\ys.length<sizeLine)(l:∀D i ys H,i<n->a D i ys H->g (.int (lo+i)) σ' H λσ2 H3=>tt σ2 H3 λb H4=>if b=true then te σ2 H4 λy H5=>H5 D=some (.lst ys)/\a D (i+1) (ys++[y]) (upd H5 D (.lst (ys++[y]))) else a D (i+1) ys H4)(d:∀D ys H,a D n ys H->Q (.ref D) H):qw (Fz lo n) g tt te σ' H1 Q:=by
 intro D q;refine⟨λi m ys H=>m=n-i/\i<=n/\a D i ys H,⟨n,by simp,br _,j D q⟩,?_⟩;rintro i m ys H ⟨rfl,o,p⟩;obtain⟨v,t⟩:=h D i ys H o p;refine⟨v,t,?_⟩;by_cases hlt:i<n;refine .inr ⟨hlt,a D (i+1),λw s r=>⟨n-(i+1),by lia,rfl,hlt,r⟩,λx s y=>?_⟩;obtain⟨e,y⟩:=y;subst e y;exact l D i ys _ hlt p;have e:i=n:=by lia
 subst e;exact .inl ⟨am _,d D ys H p⟩
structure iR (X:Cx)(N':ef Str)(scope:Scope)(cl:ef (Str×dY))(n:Nat)(js:ef Nat):Prop where
 clos:closureFor scope X.env=pure cl
 cell:∀y∈scope.names,y.2≠.cell
 kind:scope.kind=.function
 names:∀y∈scope.names,y.2=.local->scope.names.lookup y.1=some .local
 sub:∀y c,cl.lookup y=some c->X.env.cells.lookup y=some c
 has:∀y,((relabel scope X.env).names.lookup y=some .cell\/(relabel scope X.env).names.lookup y=some .free)->∃c,cl.lookup y=some c
 len:N'.length=n+js.length
 frees:∀(k j:Nat),js[k]?=some j->∃y,N'[n+k]?=some y/\X.N[j]?=some y/\(X.env.kindOf y=some .cell\/X.env.kindOf y=some .free)/\
  ((relabel scope X.env).names.lookup y=some .cell\/(relabel scope X.env).names.lookup y=some .free)/\cl.lookup y=X.env.cells.lookup y
def qB {env:Env}(h:∀y∈scope.names,y.2≠.free):(relabel scope env).names=scope.names:=by
 show scope.names.map _=scope.names;refine map_eq_self λy b=>?_;obtain⟨a,k⟩:=y;have e:(k == NameKind.free)=false:=by simpa using h _ b
 simp[e]
def iR.closed {n:Nat}(hf:∀y∈scope.names,y.2≠.free:=by decide +kernel)(hc:∀y∈scope.names,y.2≠.cell:=by decide +kernel)(hk:autoParam (scope.kind=.function) gF._auto_1)(hn:∀y∈scope.names,y.2=.local->scope.names.lookup y.1=some .local:=by decide +kernel)(hl:autoParam (N'.length=n) gF._auto_1):iR X N' scope [] n [] where
 clos:=closureFor_none hf
 cell:=hc
 kind:=hk
 names:=hn
 sub:=λy c e=>by simp at e
 has:=λy h=>by
  rw[qB hf]at h;rcases h with h|h
  exact absurd rfl (hc _ (bE h));exact absurd rfl (hf _ (bE h))
 len:=by simpa using hl
 frees:=λk j e=>by simp at e
def iR.one {y:Str}{c:dY}{n:Nat}(h1:autoParam (closureFor scope X.env=pure [(y,c)]) gF._auto_1)(h2:autoParam (X.env.cells.lookup y=some c) gF._auto_1)(hc:autoParam (∀z∈scope.names,z.2≠.cell) iR.closed._auto_1)(hk:autoParam (scope.kind=.function) gF._auto_1)(hn:autoParam (∀z∈scope.names,z.2=.local->scope.names.lookup z.1=some .local) iR.closed._auto_1)(ho:autoParam (∀z∈scope.names,z.2=.free->z.1=y) iR.closed._auto_1)(hN:autoParam (N'[n]?=some y) gF._auto_1)(hl:autoParam (N'.length=n+1) gF._auto_1)(hj:autoParam (X.N[j]?=some y) gF._auto_1)(hy:autoParam (X.env.kindOf y=some .cell) gF._auto_1)(hr:autoParam ((relabel scope X.env).names.lookup y=some .cell) gF._auto_1):iR X N' scope [(y,c)] n [j] where
 clos:=h1
 cell:=hc
 kind:=hk
 names:=hn
 sub:=λz d e=>by
  by_cases q:z=y;subst q;rw[bg,beq_self_eq_true]at e;rw[h2];exact e;have b:(z == y)=false:=beq_false_of_ne q;rw[bg,b]at e;simp at e
 has:=λz h=>by
  have l:∃k,(k=NameKind.cell\/k=NameKind.free)/\(z,k)∈(relabel scope X.env).names:=by
   rcases h with h|h
   exact⟨_,.inl rfl,bE h⟩;exact⟨_,.inr rfl,bE h⟩
  obtain⟨k,g,s⟩:=l;obtain⟨⟨a,o⟩,r,e⟩:=aC.mp (show(z,k)∈scope.names.map _ from s);have w:z=y:=by
   by_cases hfree:o=.free;have v:z=a:=by
    dsimp only at e
    split at e
    exact(Prod.mk.inj e).1.symm;exact(Prod.mk.inj e).1.symm
   rw[v];exact ho _ r hfree;have b:(o == NameKind.free)=false:=by simpa using hfree
   simp only[b,bX,ce,if_false]at e;have p:=(Prod.mk.inj e).2;rcases g with q|q
   exact absurd (p.trans q) (hc _ r);exact absurd (p.trans q) hfree
  subst w;exact⟨c,by rw[bg,beq_self_eq_true]⟩
 len:=by simpa using hl
 frees:=λk i e=>by
  have m:k=0:=by cases k with|zero=>rfl|succ k=>simp at e
  subst m;have t:j=i:=by simpa using e
  subst t;exact⟨y,hN,hj,.inl hy,.inl hr,by rw[h2,bg,beq_self_eq_true]⟩
noncomputable def frees (n:Nat)(js:ef Nat)(σ:St):St:=List.replicate n none++js.map λj=>σ.getD j none
section
variable {s₂:d0}{H₂:Hp}{elt iter target:Expr}{ifs:ef Expr}{cl:ef (Str×dY)}{n:Nat}{js:ef Nat}
theorem qe {J:It}{fp:ef dY}{it:dY}{tn:Nat->Heap->Prop}{RR:dZ->dY->Result->d0->Prop}{Q:VK}(hc:X.calm=true)(S:iR X N' scope cl n js)(gk:GK n g)(hg:∀C s₂ H₂ fp,PG (t8 X N' scope cl C s₂ H₂ fp) target g)(ht:∀C s₂ H₂ fp,HC (t8 X N' scope cl C s₂ H₂ fp) ifs tt)(he:∀C s₂ H₂ fp,PE (t8 X N' scope cl C s₂ H₂ fp) elt te)(I:eX X pins σ H₂ s₂)(T:qJ X.prog X.w X.K target J fp it tn)(st:tn 0 s₂.heap)(B:∀b∈fp,jW X pins H₂ b)(R:qw J g tt te (frees n js σ) H₂ Q)(bd:∀D C s' H',eX X pins σ H' s'->(∃m,s'.heap.Ns C m)->jW X pins H' C->Q (.ref D) H'->RR (.ref D) C (.ok .next) s'):wpAny (model X.prog X.w) X.A (newList []) (λacc s₃=>wpAny (model X.prog X.w) X.A (newFunctionEnv scope X.env.globals cl [] X.env.qual none .none (some X.env)) (λcenv s₄=>codeAny (model X.prog X.w) X.A (.compStart (.ListComp elt [⟨target,iter,ifs,0⟩] scope pos) 0 (.ref it) acc {cenv with scope:=relabel scope X.env}) (RR acc cenv.locals) s₄) E s₃) E s₂:=by
 refine dR (wpAny_newFunctionEnv S.cell (by intro y hy;simp at hy) (λU Z G=>?_) S.kind);dsimp only at Z G ⊢;generalize P:s₂.heap.push {cls:=.type "list",dict:=none,data:=.seq ([]:ef dZ).toArray}=h3 at Z G ⊢;generalize hD:s₂.heap.objs.size=D at *;generalize bq:h3.objs.size=C at *;have eC:C=D+1:=by rw[<-bq,<-P,dQ,hD]
 have ap:D≠C:=by lia
 have Y:∀b o,s₂.heap.get? b=some o->b<D:=λb o e=>hD▸aU e;have old:∀b o,s₂.heap.get? b=some o->U.get? b=some o:=λb o e=>by have l:=Y b o e;refine G.extBut b o (aW (bb l (by lia))) (az _ ?_);rw[<-P];exact az _ e
 have ah:U.get? D=some {cls:=.type "list",data:=.seq ([]:ef dZ).toArray 0}:=by refine G.extBut D _ ap (az _ ?_);rw[<-P,<-hD];exact aM _ rfl
 have bx:s₂.heap.get? D=none:=hD▸bn (am _);have bf:s₂.heap.get? C=none:=bn (by lia);have as:H₂ D=none:=I.hok.fresh (by lia);have bl:H₂ C=none:=I.hok.fresh (by lia);have L:∀b∈fp,b<D:=λb a=>by obtain⟨o,e,_⟩:=T.obj 0 _ st b a;exact Y b o e
 obtain⟨W,⟨m0,w0⟩,a0⟩:=R D as;have F:(t8 X N' scope cl C s₂ H₂ fp).Ok:=by refine⟨I.ok.mod,S.kind,I.ok.glob,I.ok.blt,?_,?_,λy hy=>S.has y hy,(λy c hf _=>by cases hf),I.ok.hd,I.ok.frames,.inl rfl,?_,I.bs,bz I.ok.bsz I.sz,?_,?_,I.stack,I.KL⟩;show s₂.heap.objs.size<=C;lia;exact λy z c U h2=>I.ok.inj y z c (S.sub y c U) (S.sub z c h2);intro b a;refine⟨?_,λy c e=>(B b a).2.2.2.2.1 y c (S.sub y c e)⟩;exact aW (bb (L b a) (show D<=C by lia));intro b o e a;rcases (B b a).2.2.2.1 with z|z;exact I.ok.noex b o e z;rw[(I.ok.bs b o e).1]at z;cases z;intro b a hz;rcases ao.mp (I.KK b hz) with z|z;exact(B b a).2.1 z;exact(B b a).2.2.1 z
 have I4:eX (t8 X N' scope cl C s₂ H₂ fp) [] (frees n js σ) (upd H₂ D (.lst [])) {s₂ with heap:=U,toks:=s₂.toks+([]:ef (Str×dZ)).length}:=by
  refine⟨F,rfl,I.bare,?_,⟨_,Z,λi y v e1 t e3=>?_⟩,λy c e=>?_,?_,λy c e=>?_,λp hp=>absurd hp (by simp),?_,?_⟩;exact Un.laid (λb u e=>old b u e) (cB hD) as;have b1:n<=i:=by refine Nat.le_of_not_lt λhi=>?_;unfold frees at t;rw[aQ (by simpa using hi),List.getElem?_replicate]at t;split at t <;> cases t
  obtain⟨k,rfl⟩:∃k,i=n+k:=⟨i-n,by lia⟩;unfold frees at t;rw[bh (by simp),List.length_replicate,Nat.add_sub_cancel_left,ae]at t;cases ej:js[k]? with|none=>rw[ej]at t;cases t|some j=>
   rw[ej]at t;have h:σ.getD j none=some v:=Option.some.inj t;obtain⟨y',a1,a2,a3,a4,a5⟩:=S.frees k j ej;have ey:y'=y:=Option.some.inj (a1.symm.trans e1);subst ey;have e4:σ[j]?=some (some v):=by rw[bi]at h;cases q:σ[j]? with|none=>rw[q]at h;cases h|some z=>rw[q]at h;exact congrArg some h
   obtain⟨m,hm,hl⟩:=I.loc;have bm:Dv X.env.scope y':=by rcases a3 with z|z;exact .inr (.inl z);exact .inr (.inr z)
   obtain⟨u,ru,lk⟩:=hl j y' v a2 e4 bm;refine⟨u,ru,?_⟩;rcases lk with ⟨z,_⟩|⟨_,c,z1,o,z2,z3⟩;rcases a3 with y|y <;> (rw[z]at y;cases y)
   exact .inr ⟨a4,c,a5.trans z1,o,old c o z2,z3⟩
  obtain⟨v,o,z1,z2⟩:=I.cell y c (S.sub y c e);exact⟨v,o,old c o z1,z2⟩;show upd H₂ D _ C=none;rw[eB (Ne.symm ap)];exact bl;obtain⟨v,o,z1,z2⟩:=I.cell y c (S.sub y c e);have l:=Y c o z1;rw[eB (aW l)];exact I.freeC y c (S.sub y c e);exact I.hok.laid old (cB hD) ⟨br _,[],0,.nil,ah⟩;unfold frees;show _=N'.length;rw[S.len,aD,List.length_replicate,ab]
 have fY:∀{H':Hp},(∀b∈fp,H' b=none)->∀b∈fp,jW (t8 X N' scope cl C s₂ H₂ fp) [] H' b:=λhn b a=>by refine⟨hn b a,(F.exf b a).1,F.exfs b a,.inl a,(F.exf b a).2,λp hp=>absurd hp (by simp)⟩
 have ad:tn 0 U:=T.keep _ _ _ st λb a o e=>old b o e;have bv:∀b∈fp,upd H₂ D (.lst []) b=none:=λb a=>by rw[eB (aW (L b a))];exact(B b a).1
 have M:∀s3:d0,s3={s₂ with heap:=U,toks:=s₂.toks+([]:ef (Str×dZ)).length}->
   codeAny (model X.prog X.w) X.A (.compLoop (.ListComp elt [⟨target,iter,ifs,0⟩] scope pos) 0 (.ref it) (.ref D) (compEnvC scope cl C X.env)) (RR (.ref D) C) s3:=by
  rintro s3 rfl;refine codeAny_loop rfl (λk s'=>∃i ys H',eX (t8 X N' scope cl C s₂ H₂ fp) [] (frees n js σ) H' s'/\tn i s'.heap/\(∀b∈fp,H' b=none)/\W i k ys H') (λk s5 hI=>?_) m0 ⟨0,[],_,I4,ad,bv,w0⟩;obtain⟨i,ys,H5,I5,aa,an,w5⟩:=hI;obtain⟨b2,a7,ba⟩:=a0 i k ys H5 w5;show wpAny _ X.A ((compTurn (.ListComp elt [⟨target,iter,ifs,0⟩] scope pos) 0 (.ref it) (.ref D) (compEnvC scope cl C X.env)).onRaise (λx=>do noteFrame x (compEnvC scope cl C X.env);theTreesLotGoes x)) _ _ s5;refine wpAny_noted ?_;rw[compTurn_list];refine ac (wpAny_standAt ?_);rcases ba with ⟨stop,q⟩|⟨go,NN,a8,step⟩;refine ac (gm (T.done (t8 X N' scope cl C s₂ H₂ fp) rfl rfl rfl hc i [] s5 _ H5 _ I5 (fY an) aa stop) λr s6 hr=>?_);obtain⟨rfl,I6⟩:=hr;refine ar (bd D C s6 H5 ?_ ?_ ?_ q);exact I.KN (ch:=fp) I6.os I6.base I6.hok I6.bare λb a=>⟨(B b a).2.2.2.1,(B b a).2.1,(B b a).2.2.2.2.1,(B b a).2.2.2.2.2⟩;obtain⟨m,hm,_⟩:=I6.loc;exact⟨m,hm⟩;exact I.K7 bf I6.free;refine ac (gm (T.item (t8 X N' scope cl C s₂ H₂ fp) rfl rfl rfl hc i [] s5 _ H5 _ I5 (fY an) aa go) λr s6 hr=>?_);obtain⟨u,rfl,h6⟩:=hr;refine ac (gm h6 λ_ s7 h7=>?_);obtain⟨x,H7,I7,r7,y7,O,be⟩:=h7;have a6:=I7.pinned (fY be) (T.obj _ _ O);have al:∀{σ8:St} {N:Hp} {s8:d0} {zs:ef V},eX (t8 X N' scope cl C s₂ H₂ fp) ([]++pM fp s7.heap) σ8 N s8->(σ8.length=(frees n js σ).length/\∀i,n<=i->σ8[i]?=(frees n js σ)[i]?)->NN zs N->
    ∃m,m<k/\∃i ys H',eX (t8 X N' scope cl C s₂ H₂ fp) [] (frees n js σ) H' s8/\tn i s8.heap/\(∀b∈fp,H' b=none)/\W i m ys H':=λ{σ8 N s8 zs} I8 ag n8=>by
   obtain⟨m',hm,w8⟩:=a8 zs N n8;refine⟨m',hm,i+1,zs,N,?_,T.keep _ _ _ O λb a o e=>(I8.pin (b,o) (aS _ (aS _ (ld a e)))).1,λb a=>?_,w8⟩;refine(I8.KW).weak ag.1.symm λj v e=>?_;by_cases hj:n<=j;rw[ag.2 j hj];exact e;unfold frees at e;rw[aQ (by simpa using hj),List.getElem?_replicate]at e;split at e <;> cases e
   obtain⟨o,e,d⟩:=T.obj _ _ O b a;exact(I8.pin (b,o) (aS _ (aS _ (ld a e)))).2.1
  refine ac (bV (hg C s₂ H₂ fp _ s7 _ H7 x u _ a6 r7 (gk _ _ _ _ (step x H7 y7))) (λ_ s8 h8=>?_) λ_ _ z=>z.elim);obtain⟨σ8,N,I8,q8,ag⟩:=h8;refine ac (bV (ht C s₂ H₂ fp _ s8 σ8 N _ I8 q8) (λok s9 h9=>?_) λ_ _ z=>z.elim);obtain⟨H9,I9,q9⟩:=h9;cases ok with|false=>rw[av (by decide)]at q9;exact ar ⟨rfl,al I9 ag q9⟩|true=>rw[ay rfl]at q9;refine ac (ac (bV (he C s₂ H₂ fp _ s9 σ8 H9 _ I9 q9) (λy sa ha=>?_) λ_ _ z=>z.elim));obtain⟨yv,Ha,Ia,ra,a9,wa⟩:=ha;refine ac (bV (hZ (X:=t8 X N' scope cl C s₂ H₂ fp) _ sa σ8 Ha (.ref D) [yv] (.ref D) [y] (λv H'=>v=.non/\H'=upd Ha D (.lst (ys++[yv]))) Ia rfl (.cons ra .nil) ⟨D,ys,yv,rfl,rfl,a9,a7,rfl,rfl⟩) (λv sb a=>?_) λ_ _ z=>z.elim);obtain⟨v',Hb,Ib,rb,_,rfl⟩:=a;exact ar (ar ⟨rfl,al Ib ag wa⟩)
 exact codeAny_compStart_list (M _ rfl) (T.self X.A 0 _ _ _ ad (M _ rfl))
end
section
variable {elt iter target:Expr}{ifs:ef Expr}{cl:ef (Str×dY)}{n:Nat}{js:ef Nat}{wi:TI}
def Gu (wi:TI)(g:TG)(tt:TT)(te:TE)(n:Nat)(js:ef Nat):TE:=λσ H Q=>wi σ H λJ H1=>qw J g tt te (frees n js σ) H1 Q
def i7 (M:X.calm=true)(S:iR X N' scope cl n js)(y:GK n g)(E:PI X target iter wi)(w:∀C s₂ H₂ fp,PG (t8 X N' scope cl C s₂ H₂ fp) target g)(r:∀C s₂ H₂ fp,HC (t8 X N' scope cl C s₂ H₂ fp) ifs tt)(G:∀C s₂ H₂ fp,PE (t8 X N' scope cl C s₂ H₂ fp) elt te)(hs:autoParam (∀x,foldedSetIterable iter X.env x=pure x) gT._auto_1):PE X (.ListComp elt [⟨target,iter,ifs,0⟩] scope pos) (Gu wi g tt te n js):=by intro a s σ H Q I h;rw[eval_ListComp];refine wpAny_comprehension_free (use:=none) rfl hs S.clos S.kind S.names (gm (E a s σ H _ I h) λv P z=>gm z λj O p=>?_);obtain⟨Y,fp,Z,J,U,rfl,B,T,d,F,R⟩:=p;refine qe M S y w r G B T d F R λD C l K A i f q=>?_;obtain⟨m,i⟩:=i;refine⟨m,i,λN L=>⟨.ref D,K,?_,rfl,q⟩⟩;exact A.turned (t':=l.toks) (λb o t e=>(L.2 b t).trans e) f.1 f.2.1 f.2.2.2.1 f.2.2.2.2.1 f.2.2.2.2.2
def Gv (i:Nat)(wi:TI)(g:TG)(tt:TT)(te:TE)(n:Nat)(js:ef Nat):TS:=λD σ H=>wi σ H λJ H1=>qw J g tt te (frees n js σ) H1 λv H'=>D.nx (σ.set i (some v)) H'
def Cu {pos' spos:Pos}(hc:X.calm=true)(S:iR X N' scope cl n js)(O:GK n g)(hN:X.N.Nodup)(hx:X.N[i]?=some x)(E:X.env.scope.names.lookup x=some .local)(Z:PI X target iter wi)(M:∀C s₂ H₂ fp,PG (t8 X N' scope cl C s₂ H₂ fp) target g)(K:∀C s₂ H₂ fp,HC (t8 X N' scope cl C s₂ H₂ fp) ifs tt)(he:∀C s₂ H₂ fp,PE (t8 X N' scope cl C s₂ H₂ fp) elt te)(hsw:autoParam (swapsWith (.ListComp elt [⟨target,iter,ifs,0⟩] scope pos) (some (.Name x pos')) spos.line X.env=pure true) gF._auto_1)(hs:autoParam (∀x,foldedSetIterable iter X.env x=pure x) gT._auto_1):PS X (.Assign [.Name x pos'] (.ListComp elt [⟨target,iter,ifs,0⟩] scope pos) spos) (Gv i wi g tt te n js):=by
 intro d s σ H D I h;rw[exec_Assign_Name_used _ _ _ _ hsw];refine ac (wpAny_standAt (ac ?_));show wpAny _ X.A (do let _ <-comprehension (.ListComp elt [⟨target,iter,ifs,0⟩] scope pos) scope X.env _ (newList []) false (eval iter X.env) (some (assign (.Name x pos') X.env))) _ _ s;refine ac (bV (wpAny_comprehension_free (use:=some (assign (.Name x pos') X.env)) (Q:=λ_ j=>SP X d D .next j) rfl hs S.clos S.kind S.names (gm (Z d s σ H _ I h) λv s1 P=>gm P λF s2 G=>?_)) (λ_ j q=>ar (ar q)) λ_ _ e=>e);obtain⟨it,fp,tn,J,H2,rfl,Y,T,l,f2,R⟩:=G;refine qe hc S O M K he Y T l f2 R λB C j H' U y f q=>?_;obtain⟨m,y⟩:=y;show wpAny _ X.A (assign (.Name x pos') X.env (.ref B)) _ _ j;refine wpAny_assign_Name (qP (v:=.ref B) U hN hx (.inl E) rfl (?_) (.inr E));rintro p t ⟨a,sb,ha⟩;have w:C≠a:=by rcases ha with z|z;rw[z];exact f.2.1;exact Ne.symm (f.2.2.2.2.1 _ _ z)
 refine⟨m,y.sameBut sb w,λh' r=>⟨_,H',?_,q⟩⟩;exact t.turned (t':=p.toks) (λb o L e=>(r.2 b L).trans e) f.1 f.2.1 f.2.2.2.1 f.2.2.2.2.1 f.2.2.2.2.2
end
def gJ:jC X (.builtin "isinstance") (λxs H Q=>∃(x:V) (T:String) (t:dZ) (b:Bool),xs=[x,.ty T]/\jU X.K H x t/\W.kitOne X.K t (.type T)=some b/\Q (.bl b) H):=by intro a s σ H xs l Q I r h;obtain⟨x,T,t,b,rfl,ty,e,q⟩:=h;obtain⟨u,j,rfl,d,g⟩:=wM r;cases (show j=Value.type T from g);exact yU I d ty e λi=>⟨.bl b,H,I.tok i,rfl,q⟩
def pw {vs:ef dZ}{out:Array dZ}{ns':ef Int}(I:eX X pins σ H s)(d:IntsAre out.toList ns')(a:ns'.length<=sizeLine):eX X pins σ (upd H (s.heap.objs.size+1) (.lst (ns'.map V.int))) {s with heap:=sortedAll s.heap vs out}:=by obtain⟨e,g⟩:=sortedAll_at s.heap vs out;refine I.laid (t':=s.toks) (λb u q=>sortedAll_old q) (dB _) ⟨by rw[ab];exact a,out.toList,e,nw d,?_⟩;rw[g]
def uQ:jC X (.builtin "sorted") (λxs H Q=>∃(a:dY) (ns:ef Int),xs=[.ref a]/\ff X.K H a (ns.map V.int)/\ns.length<64/\∀(p:dY) (ns':ef Int),H p=none->ns'.Perm ns->ns'.Pairwise (·<=·)->Q (.ref p) (upd H p (.lst (ns'.map V.int)))):=by
 intro e s σ H xs x Q I r h;obtain⟨a,ns,rfl,o,d,q⟩:=h;obtain⟨u,rfl,j⟩:=jt r;cases (show u=Value.ref a from j);obtain⟨b,i,p,y⟩:=I.list o;have l:=pW i;have w:b.length=ns.length:=by rw[<-i.length,ab]
 refine sorted_ints p.isList l (by omega) λout ns' m g v=>?_;have t:=g.length_eq;refine⟨.ref (s.heap.objs.size+1),_,pw I m ?_,rfl,q _ ns' (I.hok.fresh (dB _)) g v⟩;rw[t];exact bz (cA d) (by decide)
def D6 (K:W.Frag)(te:TE):TE:=λσ H Q=>te σ H λx H1=>∃(a:dY) (ns:ef Int),x=.ref a/\ff K H1 a (ns.map V.int)/\ns.length<64/\∀(p:dY) (ns':ef Int),H1 p=none->ns'.Perm ns->ns'.Pairwise (· ≥ ·)->Q (.ref p) (upd H1 p (.lst (ns'.map V.int)))
def Ar {kp cp:Pos}{k:Nat}(A:Gl X "sorted")(C:X.mg "sorted" = none)(F:PE X e te)(hs:autoParam (starEach [e] X.env=[(false,eval e X.env)]) gF._auto_1):PE X (.Call (.Name "sorted" p) [e] [⟨some "reverse",.Constant (.bool true) k cp,kp⟩] pos) (D6 X.K te):=by
 intro g s σ H Q I h;refine bH (jP I A C boot_sorted ?_ (by decide) (by decide));refine callWith_kw ?_ (by rw[hs];rfl) (by rw[hs];rfl);have J:=(eo F eA hs) pos g s σ H (λl i=>match l with|[x]=>(∃(a:dY) (ns:ef Int),x=.ref a/\ff X.K i a (ns.map V.int)/\ns.length<64/\∀(p:dY) (d:ef Int),i p=none->d.Perm ns->d.Pairwise (· ≥ ·)->Q (.ref p) (upd i p (.lst (d.map V.int))))|_=>False) I h;refine gm J ?_;rintro M z ⟨l,i,j,r,v⟩
 match l,r,v with
 |[x],r,⟨a,ns,e2,hS,h64,q⟩=>
  subst e2;obtain⟨u,rfl,w⟩:=jt r;cases (show u=Value.ref a from w);refine kws_cons (Constant_bool (kws_nil ?_));obtain⟨m,t,y,N⟩:=j.list hS;have B:=pW t;have L:m.length=ns.length:=by rw[<-t.length,ab]
  refine sorted_ints_rev (b:=true) y.isList B (by omega) λout d D o G=>?_;have E:=o.length_eq;refine⟨.ref (z.heap.objs.size+1),_,pw j D ?_,rfl,q _ d (j.hok.fresh (dB _)) o G⟩;rw[E];exact bz (cA h64) (by decide)
def Da:typeLookup (.type "list_reverseiterator") "__len__" = pure none:=by rw[typeLookup_type,builtinLookup_eq_fast];kernel_rfl
def A1:typeLookup (.type "list_reverseiterator") "__length_hint__" = pure (some (.builtin "list_reverseiterator.__length_hint__")):=by rw[typeLookup_type,builtinLookup_eq_fast];kernel_rfl
def Cd:isSubtype (.type "list_reverseiterator") (.type "list_reverseiterator")=pure true:=by rw[isSubtype_type];kernel_rfl
section
variable {prog:ee}{it l:dY}{items:Array dZ}
def Bj {Q:Bool->d0->Prop}(g:s.TypeIs (.ref it) "list_reverseiterator")(h:Q false s):wpAny (model prog w) A (Builtin.List.listLengthHint (.ref it)) Q E s:=by
 unfold Builtin.List.listLengthHint;refine ac (wpAny_specialOf g Da ?_)
 wp_delta
 refine dm (λa=>absurd a (by decide +kernel)) (λ_=>?_);refine dm (λa=>absurd a (by decide +kernel)) (λ_=>?_);refine ac (wpAny_specialOf g A1 ?_);generalize d:("list_reverseiterator.__length_hint__" : String)=idn
 wp_delta
 have e:splitId idn=some ("list_reverseiterator","__length_hint__"):=by subst d;decide +kernel
 rw[e];subst d;refine ac (wpAny_isInstance (T:="list_reverseiterator") (b:=true) g Cd ?_);refine dm (λz=>absurd z (by decide)) (λ_=>?_);refine dm (λ_=>?_) (λz=>absurd (by decide +kernel) z);refine dm (λz=>absurd z (by decide +kernel)) (λ_=>?_);exact ar h
def Ba (X:A.handled=none)(i:s.heap.IsRevIter it l ((items.size:Int)-1))(K:s.heap.IsList l items)(r:l≠it)(hz:items.size<=sizeLine)(P:∀h' tk acc c,(∀b o,b≠it->s.heap.get? b=some o->h'.get? b=some o)->h'.get? s.heap.objs.size=some {cls:=.type "list",dict:=none,data:=.seq acc c,slots:=#[]}->acc.toList=items.toList.reverse->Q (.ref s.heap.objs.size) {s with heap:=h',toks:=tk}):wpAny (model prog w) A (call (.type "list") [.ref it]) Q E s:=by
 have I:it<s.heap.objs.size:=(by obtain⟨_,e,_⟩:=i;exact aU e);have B:l<s.heap.objs.size:=(by obtain⟨_,e,_⟩:=K;exact aU e);generalize g:s.heap.objs.size=S at *;have p:S≠it:=Nat.ne_of_gt I;have D:S≠l:=Nat.ne_of_gt B;refine callType_codes (Q₁:=λm L=>m=.ref S/\L={s with heap:=s.heap.push {cls:=.type "list",data:=.seq #[]}}) PySem.F.called_list (PySem.F.typeCall_list_1 _) PySem.F.entry_list_init (code_list_new _ ⟨by rw[g],rfl⟩) λm L e1=>?_;obtain⟨rfl,rfl⟩:=e1;have q:(s.heap.push {cls:=.type "list",data:=.seq #[]}).get? S=some {cls:=.type "list",data:=.seq #[]}:=by rw[<-g];exact aM _ rfl
 refine⟨⟨_,q,rfl⟩,PySem.F.args_list_init_2 _ _,?_⟩;show wpAny _ _ (do let was <-Builtin.List.listItems (.ref S);Builtin.List.listUpdate (.ref S) (λ_=>#[]);letGo was.toList.reverse;Builtin.List.listExtendWith (.ref S) (.ref it) .none) _ _ _;refine ac ?_;unfold Builtin.List.listItems;refine ac (dP q rfl (ar ?_));show wpAny _ _ (updateSeq S (λ_=>#[]) >>= λ_=>letGo (#[]:Array dZ).toList.reverse >>= λ_=>Builtin.List.listExtendWith (.ref S) (.ref it) .none) _ _ _;refine ac (wpAny_updateSeq q rfl ?_);have t:=cS (Obj.mapSeq (λ_=>(#[]:Array dZ))) q rfl;have G:∀b o,s.heap.get? b=some o->((s.heap.push {cls:=.type "list",data:=.seq #[]}).update S (Obj.mapSeq (λ_=>(#[]:Array dZ)))).get? b=some o:=λb o e=>by
  have v:b≠S:=by have:=aU e;rw[g]at this;exact aW this
  rw[Heap.get?_update_other _ _ (Ne.symm v)];exact az _ e
 refine ac (wpAny_letGo ?_);generalize U:(s.heap.push {cls:=.type "list",data:=.seq #[]}).update S (Obj.mapSeq (λ_=>(#[]:Array dZ)))=h2 at *;have a:h2.IsRevIter it l ((items.size:Int)-1):=i.at λo e=>G it o e;have x:h2.IsList l items:=K.at λo e=>G l o e;have h:∃H,h2.get? S=some {cls:=.type "list",data:=.seq #[] H}:=⟨_,t⟩;obtain⟨H,h⟩:=h;unfold Builtin.List.listExtendWith;refine ac (wpAny_typeOf (T:="list_reverseiterator") (Heap.IsRevIter.typeIs (s:={s with heap:=h2}) a) ?_);have R:Builtin.List.listSameRef (.ref S) (.ref it)=false:=by simp[Builtin.List.listSameRef,p]
 have N:(Value.type "list_reverseiterator" == Value.type "list")=false:=by decide
 have Z:(Value.type "list_reverseiterator" == Value.type "tuple")=false:=by decide
 simp only[R,N,Z,Bool.or_false,ce,if_false];refine ac (wpAny_pyIter_revIter (s:={s with heap:=h2}) a ?_);refine ac (bB (Bj (s:={s with heap:=h2}) (Heap.IsRevIter.typeIs (s:={s with heap:=h2}) a) ?_));refine dm (λz=>absurd z (by decide +kernel)) (λ_=>?_);have y:S∉[it,l]:=by simp only[ao,aR,or_false,not_or];exact⟨p,D⟩
 refine ar ⟨dt PySem.F.plain_extend_loop _,?_⟩;have W:=Walks.listRev (prog:=prog) (w:=w) (A:=A.in1.in1) X it l r items;refine codeAny_extend_loopS W.toS hz S y .none items.size 0 _ #[] H rfl (br _) ⟨br _,by simpa using a,x⟩ h (ItemsOf.nil _) λJ acc O mv C d=>?_;rw[Moved.eq_with mv];refine⟨rfl,P J.heap J.toks acc O (λb o v e=>mv.heap b o (λY=>?_) (G b o e)) C ?_⟩;rcases ao.mp Y with z|z;have:=aU e;rw[g,z]at this;exact cE _ this;exact v (aj.mp z);refine List.ext_getElem? λj=>?_;by_cases hj:j<items.size;have M:acc[j]?=some (acc[j]'(by rw[d.1];exact hj)):=cr _;have hp:=d.2 j _ M;rw[List.getElem?_reverse (by simpa using hj),bI,bI,M,bw];exact hp.symm;rw[dC (by rw[bw,d.1];omega),dC (by rw[ci,bw];omega)]
end
def eX.adopt {p:dY}{o:HO}(I:eX X pins σ H s)(f:jW X pins H p)(new:gf X.prog X.w (upd H p o) s.heap p o):eX X pins σ (upd H p o) s:=by
 have d:∀b u,H b=some u->b≠p:=λb u e=>eG e f.1;refine I.step (h':=s.heap) (g':=s.gens) (d':=s.drawn) (t':=s.toks) (ch:=[p]) (λb a=>?_) (λb o _ _ _ e _=>e) (λb o _ _ _ e _=>⟨o.slots,e⟩) (λb o a _ n=>?_) (λb o _ e=>⟨o,e⟩) (λb g e=>?_) (λb u v e=>?_) (λb i e=>⟨#[],?_⟩) (λm h=>h) (λb u e=>?_) I.bare;have e:b=p:=by simpa using a
 subst e;exact⟨f.2.2.2.1,f.2.1,f.2.2.2.2.1,f.2.2.2.2.2⟩;rw[eB (λz=>a (by simp[z]))];exact n;rw[eB (d b _ e)];exact e;rw[eB (d b _ e)];exact e;rw[eB (d b _ e),e];simp;by_cases a:b=p;subst a;rw[er]at e;cases e;exact new;rw[eB a]at e;exact(I.hok b u e).KH (λc v _ q=>q) (λc q=>by rw[eB (d c _ q)];exact q) λc g q=>by rw[eB (d c _ q)];exact q
def Gh (K:W.Frag)(te:TE):TE:=λσ H Q=>te σ H λx H1=>∃(a:dY) (xs:ef V),x=.ref a/\ff K H1 a xs/\∀p:dY,H1 p=none->Q (.ref p) (upd H1 p (.lst xs.reverse))
def Cy {p2 pos2:Pos}(hc:X.calm=true)(Y:Gl X "list")(hm:X.mg "list" = none)(E:Gl X "reversed")(D:X.mg "reversed" = none)(he:PE X e te)(hs:autoParam (starEach [e] X.env=[(false,eval e X.env)]) gF._auto_1)(hs2:autoParam (starEach [.Call (.Name "reversed" p2) [e] [] pos2] X.env=[(false,eval (.Call (.Name "reversed" p2) [e] [] pos2) X.env)]) gF._auto_1):PE X (.Call (.Name "list" p) [.Call (.Name "reversed" p2) [e] [] pos2] [] pos) (Gh X.K te):=by
 intro g s σ H Q I h;refine bH (jP I Y hm cZ ?_ (by decide) (by decide));refine PyProof.Rows.callWith_type1 ?_ hs2 rfl;rw[hs2];refine Calls.spliced_cons ?_;refine bH (jP I E D PyProof.Rows.Boot.«reversed» ?_ (by decide) (by decide));refine PyProof.Rows.callWith_type1 ?_ hs rfl;have hA:=(eo he eA hs) pos2 g s σ H (λC i=>match C with|[x]=>(∃(a:dY) (xs:ef V),x=.ref a/\ff X.K i a xs/\∀p:dY,i p=none->Q (.ref p) (upd i p (.lst xs.reverse)))|_=>False) I h;refine gm hA ?_;rintro us s1 ⟨C,i,w,r,R⟩
 match C,r,R with
 |[x],r,⟨a,xs,e2,hS,q⟩=>
  subst e2;obtain⟨u,rfl,S⟩:=jt r;cases (show u=Value.ref a from S);obtain⟨d,N,F,O⟩:=w.list hS;refine call_reversed_list F.isList (Calls.spliced_nil ?_);generalize j:s1.heap.objs.size=it;have v:s1.heap.get? it=none:=j▸bn (am _);have t:i it=none:=w.hok.fresh (cB j);have G:(s1.heap.push (revObj a ((d.toArray.size:Int)-1))).get? it=some (revObj a ((d.toArray.size:Int)-1)):=by rw[<-j];exact aM _ rfl
  have y:eX X g σ i {s1 with heap:=s1.heap.push (revObj a ((d.toArray.size:Int)-1))}:=w.kept (t':=s1.toks) λb o q=>az _ q;have B:(s1.heap.push (revObj a ((d.toArray.size:Int)-1))).IsList a d.toArray:=F.isList.push _;have A:a≠it:=by obtain⟨o,P,_⟩:=F.isList;exact λz=>by rw[z,v]at P;cases P
  have lz:d.length=xs.length:=N.length.symm;refine Ba (s:={s1 with heap:=s1.heap.push (revObj a ((d.toArray.size:Int)-1))}) (y.ok.hd hc) ⟨_,G,rfl,rfl⟩ B A (by rw[aN,lz];exact O) λL M aa c k J ea=>?_;have f:=w.K7 v t;generalize l:(s1.heap.push (revObj a ((d.toArray.size:Int)-1))).objs.size=pn at J ⊢;have ad:pn=it+1:=by rw[<-l,dQ,j]
  have m:i pn=none:=y.hok.fresh (cB l);refine⟨.ref pn,upd i pn (.lst xs.reverse),?_,rfl,q _ m⟩;have Z:eX X g σ i {s1 with heap:=L,toks:=M}:=y.turned (t':=M) (λb o U e=>k b o U e) t f.2.1 f.2.2.2.1 f.2.2.2.2.1 f.2.2.2.2.2;have T:jW X g i pn:=y.K7 (l▸bn (am _)) m;refine Z.adopt T ⟨by rw[ci];exact O,d.reverse,c,?_,?_⟩;exact N.reverse;show L.get? pn=_;rw[J,<-ea]
section
def oE (P:ee)(w:World)(h:Heap):gi->dZ->Prop
 |none,u=>u=.none
 |some ks,u=>∃b,u=.ref b/\(tupleKind (fq P w)).is h ks b
def oE.inj {u:dZ}:∀{x y:gi},oE P w h x u->oE P w h y u->x=y
 |none,none,_,_=>rfl
 |none,some _,hx,⟨b,e,_⟩=>by rw[show u=Value.none from hx]at e;cases e
 |some _,none,⟨b,e,_⟩,hy=>by rw[show u=Value.none from hy]at e;cases e
 |some x,some y,⟨b,e,hb⟩,⟨c,f,hc⟩=>by rw[e]at f;cases f;rw[(tupleKind (fq P w)).inj hb hc]
def oE.keep {h':Heap}{k:gi}{u:dZ}{o:Obj}{ep:Nat}(x:oE P w h k u)(i:h.get? d=some o)(a:o.data=.dict es ep)(j:Heap.SameBut d h h'):oE P w h' k u:=by cases k with|none=>exact x|some ks=>obtain⟨b,e,g⟩:=x;exact⟨b,e,(tupleKind (fq P w)).keeps g i a j⟩
def oQ {k:gi}{u:dZ}(ok:lZ P w H h)(x:wI H k u):oE P w h k u:=by cases k with|none=>exact x|some ks=>obtain⟨b,e,a⟩:=x;exact⟨b,e,mF ok a⟩
def vR {k:gi}{u:dZ}{Q:Int->d0->Prop}(a:A.units<cLine)(d:oE P w s.heap k u)(h:∀tk,Q (mj P w k) {s with toks:=tk}):wpAny (model P w) A (pyHash u) Q E s:=by cases k with|none=>rw[show u=Value.none from d];exact W.pyHash_laid .none .none A s Q rfl .none a h|some ks=>obtain⟨b,rfl,e⟩:=d;exact(tupleKind (fq P w)).pyHash a e (h _)
def xg {ks:ef gM}{b:dY}(x:(tupleKind (fq P w)).is h ks b):∃its,h.IsTuple b its:=by obtain⟨o,its,n,d,a,e,_⟩:=(show IsTupleKey (fq P w) h ks b from x);exact⟨its,o,d,a,n,e⟩
def n_eq {x y:gi}{u:dZ}{Q:Bool->d0->Prop}(d:A.units<cLine)(j:oE P w s.heap x u)(a:oE P w s.heap y v)(h:Q (decide (x=y)) s):wpAny (model P w) A (eqBool u v) Q E s:=by
 cases x with
 |none=>rw[show u=Value.none from j];cases y with|none=>rw[show v=Value.none from a];exact SeqAt.eqBoolOverData P w A E s .none .none .none .none _ _ Q .none .none rfl rfl d h|some ys=>obtain⟨b,rfl,e⟩:=a;obtain⟨g,i⟩:=xg e;exact SeqAt.EqAt.none_tuple i d P w E Q h
 |some xs=>obtain⟨b,rfl,e⟩:=j;cases y with|none=>rw[show v=Value.none from a];obtain⟨g,i⟩:=xg e;exact SeqAt.EqAt.tuple_none i d P w E Q h|some ys=>obtain⟨c,rfl,l⟩:=a;refine(tupleKind (fq P w)).eqBool d e l ?_;by_cases q:xs=ys;subst q;simpa using h;rw[au q];rw[au (λz=>q (Option.some.inj z))]at h;exact h
def xi {k:gi}{u:dZ}{Q:Bool->d0->Prop}(a:oE P w s.heap k u)(h:Q true s):wpAny (model P w) A (eqIsQuiet 8 u) Q E s:=by cases k with|none=>rw[show u=Value.none from a];exact ar h|some ks=>obtain⟨b,rfl,d⟩:=a;exact(tupleKind (fq P w)).quiet d h
def xh {k:gi}{u:dZ}{us:ef dZ}{Q:Bool->d0->Prop}(e:oE P w s.heap k u)(d:∀v∈us,∃j,oE P w s.heap j v)(h:Q false s):wpAny (model P w) A (tableMayTell u us) Q E s:=by unfold tableMayTell;split;exact ar h;refine ac (xi e ?_);rw[av (by decide)];refine ac (dg _ (λa r b=>b=s/\r=(none,())/\∀v∈a,∃j,oE P w s.heap j v) _ ?_ ?_ _ _ ⟨rfl,rfl,d⟩);rintro v a r b ⟨rfl,rfl,all⟩;obtain⟨j,g⟩:=all v (by simp);refine ac (xi g ?_);rw[av (by decide)];exact ar ⟨rfl,rfl,λz i=>all z (by simp[i])⟩;rintro r b ⟨rfl,rfl,_⟩;exact ar h
structure qv (P:ee)(w:World)(h:Heap)(es:Array DictEntry)(ks:ef gi):Prop where
 nd:ks.Nodup
 sz:es.size=ks.length
 at_:∀(i:Nat) (k:gi),ks[i]?=some k->∃e,es[i]?=some e/\e.hash=mj P w k/\oE P w h k e.key
def qv.back (x:qv P w h es ks){e:DictEntry}(q:es[i]?=some e):∃k,ks[i]?=some k/\e.hash=mj P w k/\oE P w h k e.key:=by
 have b:i<ks.length:=by rw[<-x.sz];exact(Array.getElem?_eq_some_iff.mp q).1
 obtain⟨j,a,g,d⟩:=x.at_ i ks[i] (ak b);rw[q]at a;cases a;exact⟨_,ak b,g,d⟩
def qv.one (x:qv P w h es ks){k:gi}(hi:ks[i]?=some k)(hj:ks[j]?=some k):i=j:=
 (cg (af.mp hi).1 x.nd).mp (hi.trans hj.symm)
variable {o:Obj}{ep:Nat}{k:gi}{u:dZ}{Q:el Nat->d0->Prop}
def C9 (C:A.units<cLine)(F:oE P w s.heap k u)(p:s.heap.get? d=some o)(m:o.data=.dict es ep)(X:qv P w s.heap es ks)(l:ef Nat)(x:∀i∈l,∃e,es[i]?=some e/\(e.hash == mj P w k)=true)(D:(∀j∈l,ks[j]?≠some k)->Q none s)(G:∀j∈l,ks[j]?=some k->Q (some j) s):wpAny (model P w) A (dictWalkPlain d u (mj P w k) es l) Q E s:=by unfold dictWalkPlain;refine ac (dg _ (λa b g=>g=s/\b=(none,())/\(∀i∈a,i∈l)/\((∀j∈a,ks[j]?≠some k)->Q none s)) _ ?_ ?_ _ _ ⟨rfl,rfl,λ_ z=>z,D⟩);rintro i a b g ⟨rfl,rfl,sub,no⟩;obtain⟨e,r,B⟩:=x i (sub i (by simp));obtain⟨j,t,_,v⟩:=X.back r;simp only[r];rw[ay B];refine ac (bL p m (ac (n_eq C v F (ac (bL p m ?_)))));rw[av (by simp)];by_cases q:j=k;rw[aq q,ay rfl];exact ac (cb (ar (ar (G i (sub i (by simp)) (q▸t)))));rw[au q,av (by decide)];refine ac (cb (ar ⟨rfl,rfl,λz h=>sub z (by simp[h]),λall=>no λz h=>?_⟩));rcases ao.mp h with y|y;subst y;rw[t];exact λy=>q (Option.some.inj y);exact all z y;rintro b g ⟨rfl,rfl,_,no⟩;exact ar (no λ_ z=>nomatch z)
def vS (U:A.units<cLine)(K:oE P w s.heap k u)(L:s.heap.get? d=some o)(J:o.data=.dict es ep)(X:qv P w s.heap es ks)(h0:k∉ks->Q none s)(N:∀j,ks[j]?=some k->Q (some j) s):wpAny (model P w) A (dictFind d u (mj P w k)) Q E s:=by
 generalize H:placesWithHash es.size (λi=>es[i]?.map (·.hash)) (mj P w k)=pl;have F:∀i,i∈pl->∃e,es[i]?=some e/\(e.hash == mj P w k)=true:=λi M=>by rw[<-H,placesWithHash,aZ]at M;cases m:es[i]? with|none=>rw[m]at M;simp at M|some e=>rw[m]at M;exact⟨e,rfl,by simpa using M.2⟩
 have Y:∀j,ks[j]?=some k->j∈pl:=λj h=>by obtain⟨e,m,I,_⟩:=X.at_ j k h;rw[<-H,placesWithHash,aZ,List.mem_range];exact⟨(Array.getElem?_eq_some_iff.mp m).1,by rw[m];simp[I]⟩
 have O:pl.Nodup:=by rw[<-H,placesWithHash];exact List.Pairwise.filter _ List.nodup_range
 have G:(∀j∈pl,ks[j]?≠some k)->Q none s:=λall=>h0 λhm=>by obtain⟨j,h⟩:=aB.mp hm;exact all j (Y j h) h
 have T:∀v∈pl.filterMap (λi=>es[i]?.map (·.key)),∃j,oE P w s.heap j v:=λv R=>by obtain⟨i,M,R⟩:=List.mem_filterMap.mp R;obtain⟨e,m,_⟩:=F i M;rw[m]at R;obtain⟨j,_,_,h⟩:=X.back m;cases R;exact⟨j,h⟩
 have aa:u=.none\/∃b,u=.ref b:=by cases k with|none=>exact .inl K|some x=>obtain⟨b,e,_⟩:=K;exact .inr ⟨b,e⟩
 unfold dictFind;try with_reducible refine bB ?_
 refine ac (cU L J ?_);rcases aa with rfl|⟨b,rfl⟩;dsimp only;rw[H];by_cases R:((Value.none::pl.filterMap λi=>es[i]?.map (·.key)).all carriedByValue)=true;rw[ay R];exact C9 U K L J X pl F G λj _ h=>N j h;rw[av R];by_cases hone:((pl.filterMap λi=>es[i]?.map (·.key)) == [Value.none])=true;rw[ay hone];refine ac (ar ?_);rw[av (by simp)];refine ac (dg _ (λa b C=>C=s/\(∀i∈a,i∈pl)/\a.Nodup/\((b=(none,none)/\((∀j∈a,ks[j]?≠some k)->Q none s))\/∃j,b=(none,some j)/\ks[j]?=some k/\j∉a)) _ ?_ ?_ _ _ ⟨rfl,λ_ z=>z,O,.inl ⟨rfl,G⟩⟩);rintro i a r C ⟨rfl,sub,t,B⟩;obtain⟨e,m,I⟩:=F i (sub i (by simp));obtain⟨j,h,_,S⟩:=X.back m;rw[aX]at t;simp only[m];rw[ay I];refine ac (bL L J (ac (n_eq U S K (ac (bL L J ?_)))));rw[av (by simp)];by_cases q:j=k;rw[aq q,ay rfl];subst q;rcases B with ⟨rfl,no⟩|⟨p,rfl,g,D⟩;rw[av (by simp)];refine ac (cb ?_);split;exact ar (ar (N i h));exact ar ⟨rfl,λz l=>sub z (by simp[l]),t.2,.inr ⟨i,rfl,h,t.1⟩⟩;exact absurd (X.one h g) (λz=>D (by simp[z]));rw[au q,av (by decide)];refine ac (cb ?_);rw[av (by simp)];refine ar ⟨rfl,λz l=>sub z (by simp[l]),t.2,?_⟩;rcases B with ⟨rfl,no⟩|⟨p,rfl,g,D⟩;refine .inl ⟨rfl,λall=>no λz l=>?_⟩;rcases ao.mp l with y|y;subst y;rw[h];exact λy=>q (Option.some.inj y);exact all z y;exact .inr ⟨p,rfl,g,λz=>D (by simp[z])⟩;rintro r C ⟨rfl,_,_,B⟩;rcases B with ⟨rfl,no⟩|⟨p,rfl,g,_⟩;exact ar (no λ_ z=>nomatch z);exact ar (N p g);rw[av hone];refine ac (xh K T ?_);rw[av (by simp)];refine ac (dg _ (λa b C=>C=s/\(∀i∈a,i∈pl)/\a.Nodup/\((b=(none,none)/\((∀j∈a,ks[j]?≠some k)->Q none s))\/∃j,b=(none,some j)/\ks[j]?=some k/\j∉a)) _ ?_ ?_ _ _ ⟨rfl,λ_ z=>z,O,.inl ⟨rfl,G⟩⟩);rintro i a r C ⟨rfl,sub,t,B⟩;obtain⟨e,m,I⟩:=F i (sub i (by simp));obtain⟨j,h,_,S⟩:=X.back m;rw[aX]at t;simp only[m];rw[ay I];refine ac (bL L J (ac (n_eq U S K (ac (bL L J ?_)))));rw[av (by simp)];by_cases q:j=k;rw[aq q,ay rfl];subst q;rcases B with ⟨rfl,no⟩|⟨p,rfl,g,D⟩;rw[av (by simp)];refine ac (cb ?_);split;exact ar (ar (N i h));exact ar ⟨rfl,λz l=>sub z (by simp[l]),t.2,.inr ⟨i,rfl,h,t.1⟩⟩;exact absurd (X.one h g) (λz=>D (by simp[z]));rw[au q,av (by decide)];refine ac (cb ?_);rw[av (by simp)];refine ar ⟨rfl,λz l=>sub z (by simp[l]),t.2,?_⟩;rcases B with ⟨rfl,no⟩|⟨p,rfl,g,D⟩;refine .inl ⟨rfl,λall=>no λz l=>?_⟩;rcases ao.mp l with y|y;subst y;rw[h];exact λy=>q (Option.some.inj y);exact all z y;exact .inr ⟨p,rfl,g,λz=>D (by simp[z])⟩;rintro r C ⟨rfl,_,_,B⟩;rcases B with ⟨rfl,no⟩|⟨p,rfl,g,_⟩;exact ar (no λ_ z=>nomatch z);exact ar (N p g);have R:¬((Value.ref b::pl.filterMap λi=>es[i]?.map (·.key)).all carriedByValue)=true:=by simp[carriedByValue]
 have Z:¬(es.any λe=>e.key == Value.ref b&&e.hash != mj P w k)=true:=by rw[<-Array.any_toList,dD];rintro⟨e,hm,hc⟩;obtain⟨i,M⟩:=aB.mp hm;rw[bI]at M;obtain⟨j,_,I,h⟩:=X.back M;rw[aF,beq_iff_eq,bne_iff_ne]at hc;rw[hc.1]at h;exact hc.2 (by rw[I,h.inj K])
 dsimp only;rw[H,av R,av Z];by_cases hone:((pl.filterMap λi=>es[i]?.map (·.key)) == [Value.ref b])=true;rw[ay hone];refine ac (ar ?_);rw[av (by simp)];refine ac (dg _ (λa b C=>C=s/\(∀i∈a,i∈pl)/\a.Nodup/\((b=(none,none)/\((∀j∈a,ks[j]?≠some k)->Q none s))\/∃j,b=(none,some j)/\ks[j]?=some k/\j∉a)) _ ?_ ?_ _ _ ⟨rfl,λ_ z=>z,O,.inl ⟨rfl,G⟩⟩);rintro i a r C ⟨rfl,sub,t,B⟩;obtain⟨e,m,I⟩:=F i (sub i (by simp));obtain⟨j,h,_,S⟩:=X.back m;rw[aX]at t;simp only[m];rw[ay I];refine ac (bL L J (ac (n_eq U S K (ac (bL L J ?_)))));rw[av (by simp)];by_cases q:j=k;rw[aq q,ay rfl];subst q;rcases B with ⟨rfl,no⟩|⟨p,rfl,g,D⟩;rw[av (by simp)];refine ac (cb ?_);split;exact ar (ar (N i h));exact ar ⟨rfl,λz l=>sub z (by simp[l]),t.2,.inr ⟨i,rfl,h,t.1⟩⟩;exact absurd (X.one h g) (λz=>D (by simp[z]));rw[au q,av (by decide)];refine ac (cb ?_);rw[av (by simp)];refine ar ⟨rfl,λz l=>sub z (by simp[l]),t.2,?_⟩;rcases B with ⟨rfl,no⟩|⟨p,rfl,g,D⟩;refine .inl ⟨rfl,λall=>no λz l=>?_⟩;rcases ao.mp l with y|y;subst y;rw[h];exact λy=>q (Option.some.inj y);exact all z y;exact .inr ⟨p,rfl,g,λz=>D (by simp[z])⟩;rintro r C ⟨rfl,_,_,B⟩;rcases B with ⟨rfl,no⟩|⟨p,rfl,g,_⟩;exact ar (no λ_ z=>nomatch z);exact ar (N p g);rw[av hone];refine ac (xh K T ?_);rw[av (by simp)];refine ac (dg _ (λa b C=>C=s/\(∀i∈a,i∈pl)/\a.Nodup/\((b=(none,none)/\((∀j∈a,ks[j]?≠some k)->Q none s))\/∃j,b=(none,some j)/\ks[j]?=some k/\j∉a)) _ ?_ ?_ _ _ ⟨rfl,λ_ z=>z,O,.inl ⟨rfl,G⟩⟩);rintro i a r C ⟨rfl,sub,t,B⟩;obtain⟨e,m,I⟩:=F i (sub i (by simp));obtain⟨j,h,_,S⟩:=X.back m;rw[aX]at t;simp only[m];rw[ay I];refine ac (bL L J (ac (n_eq U S K (ac (bL L J ?_)))));rw[av (by simp)];by_cases q:j=k;rw[aq q,ay rfl];subst q;rcases B with ⟨rfl,no⟩|⟨p,rfl,g,D⟩;rw[av (by simp)];refine ac (cb ?_);split;exact ar (ar (N i h));exact ar ⟨rfl,λz l=>sub z (by simp[l]),t.2,.inr ⟨i,rfl,h,t.1⟩⟩;exact absurd (X.one h g) (λz=>D (by simp[z]));rw[au q,av (by decide)];refine ac (cb ?_);rw[av (by simp)];refine ar ⟨rfl,λz l=>sub z (by simp[l]),t.2,?_⟩;rcases B with ⟨rfl,no⟩|⟨p,rfl,g,D⟩;refine .inl ⟨rfl,λall=>no λz l=>?_⟩;rcases ao.mp l with y|y;subst y;rw[h];exact λy=>q (Option.some.inj y);exact all z y;exact .inr ⟨p,rfl,g,λz=>D (by simp[z])⟩;rintro r C ⟨rfl,_,_,B⟩;rcases B with ⟨rfl,no⟩|⟨p,rfl,g,_⟩;exact ar (no λ_ z=>nomatch z);exact ar (N p g)
end
noncomputable def l9 (xs:ef (gi×dZ×dZ))(k:gi):el dZ:=(xs.find? λx=>decide (x.1=k)).map (·.2.2)
noncomputable def qA (k:gi)(v:dZ)(x:gi×dZ×dZ):gi×dZ×dZ:=if x.1=k then (x.1,x.2.1,v) else x
def qC (xs:ef (gi×dZ×dZ))(k:gi)(u v:dZ):ef (gi×dZ×dZ):=if (l9 xs k).isSome=true then xs.map (qA k v) else xs++[(k,u,v)]
def oz (P:ee)(w:World)(h:Heap)(d:dY)(xs:ef (gi×dZ×dZ)):Prop:=
 ∃o es ep,h.get? d=some o/\o.ExactDict/\o.data=.dict es ep/\es.toList=xs.map (uI P w)/\(∀x∈xs,oE P w h x.1 x.2.1)/\(xs.map (·.1)).Nodup
def lY {k:gi}(h:k∉xs.map (·.1)):l9 xs k=none:=by unfold l9;rw[dO.mpr λx a b=>h (aC.mpr ⟨x,a,aI b⟩)];rfl
theorem oU {k:gi}{p:dZ×dZ}:∀{xs:ef (gi×dZ×dZ)} {j:Nat},(xs.map (·.1)).Nodup->xs[j]?=some (k,p)->l9 xs k=some p.2
 |[],j,_,h=>by simp at h
 |x::xs,0,_,h=>by
  have e:x=(k,p):=by simpa using h
  subst e;simp[l9]
 |x::xs,j+1,hn,h=>by
  rw[aH,aX]at hn;have a:xs[j]?=some (k,p):=by simpa using h
  have b:¬x.1=k:=λe=>hn.1 (e▸aC.mpr ⟨(k,p),ai a,rfl⟩);have:=oU hn.2 a;simpa [l9,bu,b] using this
def Ae (k:gi)(v:dZ)(x:gi×dZ×dZ):(qA k v x).1=x.1:=by unfold qA;split <;> rfl
section
variable {k:gi}{u:dZ}
def oz.typeIs (D:oz P w s.heap d xs):s.TypeIs (.ref d) "dict":=(by obtain⟨o,_,_,ho,hc,_⟩:=D;exact⟨o,ho,hc.1⟩)
def tD (b:es.toList=xs.map (uI P w))(e:∀x∈xs,oE P w h x.1 x.2.1)(g:(xs.map (·.1)).Nodup):qv P w h es (xs.map (·.1)):=by refine⟨g,by rw[<-bw,b,ab,ab],λi k a=>?_⟩;rw[ae]at a;obtain⟨x,d,rfl⟩:=ax.mp a;exact⟨uI P w x,by rw[<-bI,b,ae,d];rfl,rfl,e x (ai d)⟩
def ER {Q:el dZ->d0->Prop}(i:A.units<cLine)(p:oE P w s.heap k u)(D:oz P w s.heap d xs)(h:∀tk,Q (l9 xs k) {s with toks:=tk}):wpAny (model P w) A (dictGet d u) Q E s:=by
 obtain⟨o,y,B,g,_,b,q,t,m⟩:=D;unfold dictGet;try with_reducible refine bB ?_
 refine ac (vR i p λtk=>ac (vS (s:={s with toks:=tk}) i p g b (tD q t m) (λa=>?_) (λj r=>?_)));rw[lY a]at h;exact ar (h tk);rw[ae]at r;obtain⟨x,l,e⟩:=ax.mp r;obtain⟨v,z⟩:=x;obtain rfl:k=v:=e.symm;rw[oU m l]at h;refine ac (cU (s:={s with toks:=tk}) g b (ar ?_));rw[<-bI,q,ae,l];exact h tk
theorem EQ {Q:Unit->d0->Prop}(H:A.units<cLine)(C:oE P w s.heap k u)(D:oz P w s.heap d xs)(hz:xs.length<=sizeLine)(h:∀h' tk,oz P w h' d (qC xs k u v)->Heap.SameBut d s.heap h'->Q () {s with heap:=h',toks:=tk}):wpAny (model P w) A (dictSet d u v) Q E s:=by
 obtain⟨o,R,I,p,L,g,B,F,t⟩:=D;have N:R.size=xs.length:=by rw[<-bw,B,ab]
 unfold dictSet;try with_reducible refine bB ?_
 refine ac (vR H C λtk=>?_);unfold dictSetHashed;try with_reducible refine bB ?_
 refine ac (vS (s:={s with toks:=tk}) H C p g (tD B F t) (λr=>?_) (λj J=>?_));have hp:qC xs k u v=xs++[(k,u,v)]:=by unfold qC;rw[lY r,av (by decide)]
 refine ac (cb (wpAny_updateDictKeys (hz:=by lia) (s:={s with toks:=tk}) p g (h _ tk ?_ (Heap.SameBut.update ..))));refine⟨_,_,I+1,cS _ p (Obj.isFreed_of_dict (Obj.data_mapDictKeys g _)),L.mapDictKeys _,Obj.data_mapDictKeys g _,?_,λx i=>?_,?_⟩;rw[hp];simp[B,uI];rw[hp]at i;rcases aA.mp i with z|z;exact(F x z).keep p g (Heap.SameBut.update ..);rw[aj.mp z];exact C.keep p g (Heap.SameBut.update ..);rw[hp,aG,bN];refine⟨t,by simp,λa K b G z=>r ?_⟩;rw[aH,cQ,aj]at G;rw[z,G]at K;exact K;rw[ae]at J;obtain⟨x,i,e⟩:=ax.mp J;obtain⟨T,S⟩:=x;obtain rfl:k=T:=e.symm;have hp:qC xs k u v=xs.map (qA k v):=by unfold qC;rw[oU t i,ay (show(some S.2).isSome=true from rfl)]
 refine ac (cb (ac (wpAny_updateDict (s:={s with toks:=tk}) p g (wpAny_point (h _ tk ?_ (Heap.SameBut.update ..))))));refine⟨_,_,I,cS _ p (Obj.isFreed_of_dict (Obj.data_mapDict g _)),L.mapDict _,Obj.data_mapDict g _,?_,λx i=>?_,?_⟩;rw[hp,Array.toList_modify,B,cC];refine List.ext_getElem? λm=>?_;rw[List.getElem?_modify,ae,ae];cases hm:xs[m]? with|none=>rfl|some y=>by_cases hjm:j=m;subst hjm;rw[i]at hm;cases hm;simp[uI,qA];have M:¬y.1=k:=λz=>hjm ((cg (by rw[ab];exact(af.mp i).1) t).mp (by rw[ae,ae,i,hm];exact congrArg some z.symm));simp[qA,M,hjm]
 rw[hp]at i;obtain⟨y,O,rfl⟩:=aC.mp i;have q:=(F y O).keep p g (Heap.SameBut.update s.heap d (Obj.mapDict (λl=>l.modify j λe=>{e with val:=v})));unfold qA;split;exact q;exact q;rw[hp,cC,show((λx:gi×dZ×dZ=>x.1) ∘ qA k v)=(·.1) from funext λx=>Ae k v x];exact t
def Df (a:s.TypeIs (.ref d) "dict")(h:wpAny (model P w) A.in1 (dictGet d u) (λr s'=>∃v,r=some v/\Q v s') E s):wpAny (model P w) A (getItem (.ref d) u) Q E s:=by
 unfold getItem;try with_reducible refine bB ?_
 refine ac (wpAny_sequenceKey a (by decide) (ac (dq (name:=Str.ofString "__getitem__") a slot_dict_getitem (cf slot_dict_getitem a entry_dict_getitem ?_ (args_dict_getitem _ _)))));show wpAny _ _ (dictGet d u >>= _) _ _ s;refine ac (bV h (?_) λ_ _ z=>z);rintro r s' ⟨v,e,q⟩;subst e;exact ar ⟨v,rfl,ar q⟩
def Hq {Q:Bool->d0->Prop}(a:s.TypeIs (.ref d) "dict")(b:(d == sysModules)=false)(h:wpAny (model P w) A.in1 (dictGet d u) (λr s'=>Q r.isSome s') E s):wpAny (model P w) A (contains (.ref d) u) Q E s:=by
 unfold contains;try with_reducible refine bB ?_
 refine ac (wpAny_specialOf a slot_dict_contains.lookup ?_);show wpAny _ _ (if (some (Value.builtin "dict.__contains__") == some Value.none)=true then _ else _) _ _ s;rw[av (by rw[beq_builtin_none];exact aT)];refine ac (wpAny_callSpecialUnlessNone?_slot (name:=Str.ofString "__contains__") a slot_dict_contains (cf slot_dict_contains a entry_dict_contains ?_ (args_dict_contains _ _)));show wpAny _ _ (dictGet d u >>= _) _ _ s;refine ac (bV h (λr s' q=>?_) λ_ _ z=>z);cases r with|some v=>exact ar ⟨_,rfl,bU q⟩|none=>exact ac (wpAny_pendingKey_other b (ar ⟨_,rfl,bU q⟩))
def zE {Q:Unit->d0->Prop}(a:s.TypeIs (.ref d) "dict")(h:wpAny (model P w) A.in1 (dictSet d u v) Q E s):wpAny (model P w) A (setItem (.ref d) u v) Q E s:=by
 unfold setItem;try with_reducible refine bB ?_
 refine ac (wpAny_sequenceKey a (by decide) (ac (dq (name:=Str.ofString "__setitem__") a slot_dict_setitem (cf slot_dict_setitem a entry_dict_setitem ?_ (args_dict_setitem _ _ _)))));refine ac (cM a ?_);show wpAny _ _ (dictSet d u v >>= _) _ _ s;exact ac (bV h (λ_ b q=>ar ⟨.none,rfl,ar q⟩) λ_ _ z=>z)
end
def BQ.val (r:BQ H kvs xs)(k:gi):jG (fc kvs k) (l9 xs k):=by
 induction r with|nil=>exact True.intro|@cons p q ps qs h t ih=>
  obtain⟨a,_,g⟩:=h;by_cases e:p.1=k;have b:l9 (q::qs) k=some q.2.2:=by simp[l9,bu,a.symm.trans e]
  rw[gR e,b];exact g;have d:¬q.1=k:=λz=>e (a.trans z);have b:l9 (q::qs) k=l9 qs k:=by simp[l9,bu,d]
  rw[gE e,b];exact ih
def BQ.rep (r:BQ H kvs xs)(k:gi)(g:fi y v):BQ H (kvs.map λkv=>if kv.1=k then (kv.1,y) else kv) (xs.map (qA k v)):=by induction r with|nil=>exact .nil|@cons p q ps qs h t ih=>obtain⟨a,b,d⟩:=h;rw[aH,aH];refine .cons ?_ ih;unfold qA;by_cases e:p.1=k;rw[ay e,ay (a.symm.trans e)];exact⟨a,b,g⟩;rw[av e,av (λz=>e (a.trans z))];exact⟨a,b,d⟩
def BQ.put (r:BQ H kvs xs)(k:gi){u:dZ}(b:wI H k u)(a:fi y v):BQ H (fJ kvs k y) (qC xs k u v):=by unfold fJ qC;rw[jh,(r.val k).K5];by_cases q:(l9 xs k).isSome=true;rw[ay q,ay q];exact r.rep k a;rw[av q,av q];exact Paired.snoc r ⟨rfl,b,a⟩
def wI.keeps {k:gi}{u:dZ}(x:wI H k u)(a:∀b ys,H b=some (.tup ys)->H' b=some (.tup ys)):wI H' k u:=by cases k with|none=>exact x|some ks=>obtain⟨b,e,d⟩:=x;exact⟨b,e,a _ _ d⟩
def mf (H:Hp):gi->V->Prop
 |none,y=>y=.non
 |some ks,y=>∃b,y=.ref b/\H b=some (.tup (ks.map kV))
def mf.rel {k:gi}{u:dZ}(x:mf H k y)(r:fi y u):wI H k u:=by cases k with|none=>rw[show y=V.non from x]at r;exact r|some ks=>obtain⟨b,rfl,a⟩:=x;exact⟨b,r,a⟩
def uJ (ok:lZ P w H h)(e:Rd H a (.dN kvs)):kvs.length<=sizeLine/\(a == sysModules)=false/\∃xs,BQ H kvs xs/\oz P w h a xs:=by
 obtain⟨z,y,xs,r,o,d,i,s,b,g,j,v⟩:=(show gf P w H h a (.dN kvs) from Af ok e);have all:∀{l:ef (gi×V)} {m:ef (gi×dZ×dZ)},BQ H l m->∀x∈m,oE P w h x.1 x.2.1:=by intro l m q;induction q with|nil=>intro x hx;exact nomatch hx|@cons p q ps qs hq t ih=>intro x hx;rcases ao.mp hx with e|hx;subst e;rw[<-hq.1];exact oQ ok hq.2.1;exact ih x hx
 exact⟨z,y,xs,r,o,d,i,s,b,g,j,all r,v⟩
def hU (H:Hp)(a:dY)(y:V)(r:el V):Prop:=∃kvs k,Rd H a (.dN kvs)/\mf H k y/\r=fc kvs k
def lS (H:Hp)(a:dY)(y v:V)(H':Hp):Prop:=∃kvs k,H a=some (.dN kvs)/\mf H k y/\kvs.length<sizeLine/\H'=upd H a (.dN (fJ kvs k v))
def hU.of {k:gi}(e:H a=some (.dN kvs))(hk:mf H k y):hU H a y (fc kvs k):=⟨kvs,k,.inl e,hk,rfl⟩
def lS.of {k:gi}{v:V}(e:H a=some (.dN kvs))(hk:mf H k y)(hl:kvs.length<sizeLine):lS H a y v (upd H a (.dN (fJ kvs k v))):=⟨kvs,k,e,hk,hl,rfl⟩
section
variable {v:V}{u r:dZ}{o:el V}
def v9 {Q:el dZ->d0->Prop}(j:A.units<cLine)(I:eX X pins σ H s)(g:hU H a y o)(l:fi y u)(h:∀o' s',eX X pins σ H s'->jG o o'->Q o' s'):wpAny (model X.prog X.w) A (dictGet a u) Q E s:=by obtain⟨b,k,e,d,rfl⟩:=g;obtain⟨z,p,q,rel,m⟩:=uJ I.hok e;exact ER j (oQ I.hok (d.rel l)) m λi=>h _ _ (I.tok i) (rel.val k)
def oV (I:eX X pins σ H s)(g:hU H a y o):s.TypeIs (.ref a) "dict"/\(a == sysModules)=false:=by obtain⟨d,k,e,i,rfl⟩:=g;obtain⟨z,b,j,rel,h⟩:=uJ I.hok e;exact⟨h.typeIs,b⟩
def p8 (j:A.units+1<cLine)(I:eX X pins σ H s)(g:hU H a y (some v))(l:fi y u)(h:∀w' s',eX X pins σ H s'->fi v w'->Q w' s'):wpAny (model X.prog X.w) A (getItem (.ref a) u) Q E s:=by refine Df (oV I g).1 (v9 j I g l λm s' i d=>?_);obtain⟨w',e,b⟩:=jG.some_of d;exact⟨w',e,h w' s' i b⟩
def DX {Q:Bool->d0->Prop}(i:A.units+1<cLine)(I:eX X pins σ H s)(g:hU H a y o)(j:fi y u)(h:∀s',eX X pins σ H s'->Q o.isSome s'):wpAny (model X.prog X.w) A (contains (.ref a) u) Q E s:=by obtain⟨t,b⟩:=oV I g;refine Hq t b (v9 i I g j λl s' e d=>?_);rw[<-d.K5];exact h s' e
theorem p4 {Q:Unit->d0->Prop}(F:A.units+1<cLine)(I:eX X pins σ H s)(g:lS H a y v H')(l:fi y u)(N:fi v r)(h:∀s',eX X pins σ H' s'->Q () s'):wpAny (model X.prog X.w) A (setItem (.ref a) u r) Q E s:=by
 obtain⟨b,k,e,o,P,rfl⟩:=g;obtain⟨z,x,C,rel,m⟩:=uJ I.hok (.inl e);have O:C.length<=sizeLine:=by rw[<-Paired.length rel];exact z
 have hp:(fJ b k v).length<=sizeLine:=by have:=ge b k v;lia
 refine zE m.typeIs (EQ F (oQ I.hok (o.rel l)) m O λR S i J=>h _ ?_);obtain⟨t,D,K,p,B,G,L,_,M⟩:=i;have keep:∀c d,H c=some (.tup d)->upd H a (.dN (fJ b k v)) c=some (.tup d):=λc d j=>by rw[eB (fF j e (λz=>nomatch z))];exact j
 exact j7 I (by rw[e];exact True.intro) J ⟨t,p⟩ ⟨hp,x,_,Paired.KG (rel.put k (o.rel l) N) λ_ _ q=>⟨q.1,q.2.1.keeps keep,q.2.2⟩,t,D,K,p,B,G,L,M⟩
end
inductive DB (Q:VK)(x:V)(y:V)(H2:Hp):Prop
 |mk (a v:_)(_:x=.ref a)(_:hU H2 a y (some v))(_:Q v H2)
def Ed (td ty:TE):TE:=λσ H Q=>td σ H λx H1=>ty σ H1 λy H2=>DB Q x y H2
inductive FJ (neg:Bool)(Q:VK)(y:V)(x:V)(H2:Hp):Prop
 |mk (a o:_)(_:x=.ref a)(_:hU H2 a y o)(_:Q (.bl (if neg then !o.isSome else o.isSome)) H2)
def DK (neg:Bool)(ty td:TE):TE:=λσ H Q=>ty σ H λy H1=>td σ H1 λx H2=>FJ neg Q y x H2
inductive DF (D:mN)(σ:St)(v:V)(x:V)(y:V)(H3:Hp):Prop
 |mk (a H4:_)(_:x=.ref a)(_:lS H3 a y v H4)(_:D.nx σ H4)
def Ew (td ty tv:TE):TS:=λD σ H=>tv σ H λv H1=>td σ H1 λx H2=>ty σ H2 λy H3=>DF D σ v x y H3
section
variable {o i value:Expr}{pos' tpos:Pos}{td ty tv:TE}
def fg (p:X.A.units+1<cLine)(l:PE X o td)(z:PE X i ty)(hs:autoParam (Fw i) eP._auto_1):PE X (.Subscript o i pos) (Ed td ty):=by intro b s σ H Q I h;refine wO PySem.F.slot_dict_getitem.lookup hs (gm (l b s σ H _ I h) ?_);rintro u q ⟨x,m,t,r,D⟩;refine gm (z b q σ m _ t D) ?_;rintro L J ⟨y,B,e,w,a,v,j,g,E⟩;subst j;obtain rfl:u=Value.ref a:=r;exact⟨(oV e g).1,p8 p e g w λG K C d=>⟨v,B,C,d,E⟩⟩
def wW (v:X.A.units+1<cLine)(t:PE X i ty)(e:PE X o td):PC X .In i o (DK false ty td):=by intro b s σ H Q I h;refine gm (t b s σ H _ I h) ?_;rintro G l ⟨y,j,q,r,B⟩;refine gm (e b l σ j _ q B) ?_;rintro u E ⟨x,w,C,m,a,p,d,g,D⟩;subst d;obtain rfl:u=Value.ref a:=m;exact ac (DX v C g r λF z=>ar ⟨.bl p.isSome,w,z,rfl,D⟩)
def kX (v:X.A.units+1<cLine)(t:PE X i ty)(e:PE X o td):PC X .NotIn i o (DK true ty td):=by intro b s σ H Q I h;refine gm (t b s σ H _ I h) ?_;rintro G l ⟨y,j,q,r,B⟩;refine gm (e b l σ j _ q B) ?_;rintro u E ⟨x,w,C,m,a,p,d,g,D⟩;subst d;obtain rfl:u=Value.ref a:=m;exact ac (DX v C g r λF z=>ar ⟨.bl (!p.isSome),w,z,rfl,D⟩)
def kB (F:X.A.units+1<cLine)(B:PE X o td)(L:PE X i ty)(N:PE X value tv)(J:swapsWith value (some (.Subscript o i pos')) pos.line X.env=pure false):PS X (.Assign [.Subscript o i pos'] value pos) (Ew td ty tv):=by intro b s σ H D I h;refine wpAny_Assign_Subscript (gm (N b s σ H _ I h) ?_) J;rintro r E ⟨v,C,j,z,q⟩;refine gm (B b E σ C _ j q) ?_;rintro u p ⟨x,M,w,G,O⟩;refine gm (L b p σ M _ w O) ?_;rintro S R ⟨y,Q,l,K,a,m,d,g,t⟩;subst d;obtain rfl:u=Value.ref a:=G;exact p4 F l g K z λP e=>⟨σ,m,e,t⟩
end
def Eb:TE:=λ_ H Q=>∀p,H p=none->Q (.ref p) (upd H p (.dN []))
def Bt (h:Heap)(hb:sysModules<h.objs.size):gf P w H (h.push {cls:=.type "dict",data:=.dict #[]}) h.objs.size (.dN []):=
 ⟨br _,beq_eq_false_iff_ne.mpr (Ne.symm (aW hb)),[],.nil,_,#[],0,aM _ rfl,⟨rfl,rfl,rfl⟩,rfl,rfl,bT⟩
def lK:PE X (.Dict [] [] pos) Eb:=λpins s σ H Q I h=>
 wpAny_Dict_empty ⟨.ref s.heap.objs.size,_,I.laid (a:=s.heap.objs.size) (o:=.dN []) (t':=s.toks) (λ_ _ q=>az _ q) (am _) (Bt s.heap I.big),rfl,h _ (I.hok.fresh (am _))⟩
noncomputable def sN (P:ee)(w:World):PySem.KeyKind P w Unit where
 is:=λ_ v=>match v with|.none=>true|_=>false
 hash:=λ_=>W.hashW w.params .none
 inj:=λ_ _ _ _ _=>rfl
 byValue:=λ_ v h=>by cases v <;> first|rfl|(simp at h)
 pyHash:=λ{A E s k v Q} hv h=>by
  cases v <;> first|(simp at hv;done)|skip
  exact W.pyHash_slot (T:="NoneType") rfl PySem.F.slot_NoneType_hash PySem.F.entry_NoneType_hash (PySem.F.args_NoneType_hash_1 _) (beq_builtin_none _) (.inl rfl) (ac (ar (ac (wpAny_mkInt (ar ⟨_,_,rfl,h⟩)))))
 eqBool:=λ{A E s a b u v Q} hu hv h=>by
  cases u <;> first|(simp at hu;done)|skip
  cases v <;> first|(simp at hv;done)|skip
  unfold eqBool
  try with_reducible refine bB ?_
  show wpAny _ _ (if (Value.none == Value.none)=true then _ else _) Q E s;rw[ay (show(Value.none == Value.none)=true by simp)];exact ac (cb (ar (by simpa using h)))
 «strs»:=λk x t v h=>by simp at h
def D8 (tv:TE):TE:=λσ H Q=>∀p,H p=none->tv σ (upd H p (.dK [])) λv H2=>H2 p=some (.dK [])/\Q (.ref p) (upd H2 p (.dN [(none,v)]))
def GY (F:V->Hp->Prop):ef (V×V)->Hp->Prop
 |[(.non,y)],H=>F y H
 |_,_=>False
def AD {F:V->Hp->Prop}{ps:ef (V×V)}(h:GY F ps H):∃y,ps=[(V.non,y)]/\F y H:=by cases ps with|nil=>exact h.elim|cons p t=>obtain⟨x,y⟩:=p;cases t with|cons _ _=>cases x <;> exact h.elim|nil=>cases x with|non=>exact⟨y,rfl,h⟩|_=>exact h.elim
def um {kpos:Pos}{v:Expr}{tv:TE}(Y:PE X v tv):PE X (.Dict [some (.Constant .none j kpos)] [v] pos) (D8 tv):=by
 intro h s σ H Q I q;have hn:=I.hok.fresh (am s.heap.objs.size);have I1:=I.laid (a:=s.heap.objs.size) (o:=.dK []) (h':=s.heap.push {cls:=.type "dict",data:=.dict #[]}) (t':=s.toks) (λ_ _ q=>az _ q) (am _) (qb s.heap I.big);have U:HD X pos [some (.Constant .none j kpos)] [v] [(tC .non,tv)]:=ul iJ Y wT;generalize hp:s.heap.objs.size=p at *;have q1:=q p hn;have hq:rM [(tC .non,tv)] σ (upd H p (.dK [])) (GY λy i=>i p=some (.dK [])/\Q (.ref p) (upd i p (.dN [(none,y)]))):=q1;have w1:=U h _ σ _ _ I1 hq;refine wpAny_Dict_walk (knd:=sN X.prog X.w) rfl rfl (by simp) (by show 1<=15;decide) (gm w1 λws s2 r=>?_);obtain⟨ps,i,F,rel,q0⟩:=r;obtain⟨y,rfl,e,Z⟩:=AD q0;cases rel with|@cons _ b _ _ h1 t1=>
  cases t1;obtain⟨b1,m⟩:=b;cases (show b1=Value.none from h1.1);obtain⟨z,hd,S,K,o,es,P,g1,g2,g3,g4,g5,g6⟩:=ri F.hok e;cases K;have A:es=#[]:=by have:=g5.length;rw[cR,bw]at this;exact Array.eq_empty_of_size_eq_zero this
  subst A;rw[hp];refine⟨[((),m)],⟨rfl,rfl,True.intro⟩,⟨o,#[],P,g1,g2,g3,λ_ T=>by simp at T,.nil,bT⟩,λh' B hs=>⟨.ref p,upd i p (.dN [(none,y)]),?_,rfl,Z⟩⟩;obtain⟨G,d,x,D,O,f3,R,N,f6⟩:=B;have g:Pairs (sN X.prog X.w) d.toList [((),m)]:=N;refine j7 F (by rw[e];exact True.intro) hs ⟨G,D⟩ ⟨by show 1<=sizeLine;decide,hd,[(none,.none,m)],.cons ⟨rfl,rfl,h1.2⟩ .nil,G,d,x,D,O,f3,?_,by simp⟩;generalize M:d.toList=l at g;cases g with|@cons e0 _ es0 _ k1 k2 k3=>
   cases k3;obtain⟨k',kk,kh⟩:=R e0 (Array.mem_toList_iff.mp (by rw[M];simp));obtain⟨L,E,J⟩:=e0;have C:E=Value.none:=by cases E <;> first|rfl|(simp[sN]at k1)
   subst C;cases (show J=m from k2);have t:L=W.hashW X.w.params .none:=kh;rw[t];rfl
section
variable {kvs:ef (gM×V)}{k:gM}{u r:dZ}{z:V}
def Fl (I:eX X pins σ H s)(e:H a=some (.dK kvs))(j:fi (kV k) u)(m:fi z r)(J:kvs.length<sizeLine)(D:∀v w' s',fc kvs k=some v->eX X pins σ H s'->fi v w'->Q w' s')(h:fc kvs k=none->∀s',eX X pins σ (upd H a (.dK (fJ kvs k z))) s'->Q r s'):wpAny (model X.prog X.w) A (call (.builtin "dict.setdefault") [.ref a,u,r]) Q E s:=by
 obtain⟨G,d,y,rel,g⟩:=ri I.hok e;refine call_meetsIn PySem.F.slot_dict_setdefault g.typeIs PySem.F.entry_dict_setdefault (PySem.F.args_dict_setdefault_3 _ _ _) (kt_meets_setdefault (fq X.prog X.w) a (mi j) d r)
  ⟨y,g,by rw[<-rel.length];exact G,λv B=>?_,λo p b i=>?_⟩
 have q:=rel.val k;rw[B]at q;cases l:fc kvs k with|none=>rw[l]at q;exact q.elim|some x=>rw[l]at q;exact D x v _ l (I.tok _) q
 have q:=rel.val k;rw[o]at q;have l:fc kvs k=none:=by cases l:fc kvs k with|none=>rfl|some x=>rw[l]at q;exact q.elim
 have hp:(fJ kvs k z).length<=sizeLine:=by have:=ge kvs k z;omega
 have C:∃q,p.get? a=some q:=(by obtain⟨q,_,_,t,_⟩:=b;exact⟨q,t⟩);exact h l _ (j7 I (by rw[e];exact True.intro) i C (nW hp d (rel.put k m) b))
end
inductive Dz (ty:TE)(tx:TE)(σ:St)(Q:VK)(x:V)(H1:Hp):Prop
 |mk (a:_)(_:x=.ref a)(_:HS H1 a)(_:ty σ H1 λy H2=>tx σ H2 λz H3=>∃kvs k,H3 a=some (.dK kvs)/\y=kV k/\kvs.length<sizeLine/\(∀v,fc kvs k=some v->Q v H3)/\(fc kvs k=none->Q z (upd H3 a (.dK (fJ kvs k z)))))
def D9 (td ty tx:TE):TE:=λσ H Q=>td σ H λx H1=>Dz ty tx σ Q x H1
def Av {o f:Expr}{apos cpos:Pos}{td ty tx:TE}(K:PE X o td)(U:PE X e ty)(J:PE X f tx)(m:M2 X o "setdefault" apos e f cpos):PE X (.Call (.Attribute o "setdefault" apos) [e,f] [] cpos) (D9 td ty tx):=by intro b s σ H Q I h;refine dz m.base m.few m.line PySem.F.plainAttrs_dict PySem.F.slot_dict_setdefault PySem.F.type_dict_setdefault (gm (K b s σ H _ I h) ?_);rintro u P ⟨x,M,i,R,a,p,d,C⟩;subst p;obtain rfl:u=Value.ref a:=R;obtain⟨L,q,_⟩:=v4 i d;refine⟨L,q,?_⟩;rw[m.trees];refine Calls.callWith_builtin rfl (Calls.evalArgs_plain (Calls.spliced_cons (gm (U b P σ M _ i C) λiv B ⟨y,T,E,S,q2⟩=>Calls.spliced_cons (gm (J b B σ T _ E q2) λfv s3 ⟨z,w,A,j,r,k,Z,Y,O,D,N⟩=>Calls.spliced_nil ?_))));subst Y;exact Fl A Z S j O (λv w' t l g G=>⟨v,w,g,G,D v l⟩) λl t g=>⟨z,_,g,j,N l⟩
theorem kD {α β:Type}{F:α->β->Prop}:∀{as:ef α} {bs:ef β},as.length=bs.length->(∀(i:Nat) x y,as[i]?=some x->bs[i]?=some y->F x y)->Paired F as bs
 |[],[],_,_=>.nil
 |a::as,b::bs,hl,h=>.cons (h 0 a b rfl rfl) (kD (by simpa using hl) λi x y hx hy=>h (i+1) x y (by simpa using hx) (by simpa using hy))
 |[],_::_,hl,_=>by simp at hl
 |_::_,[],hl,_=>by simp at hl
def vZ {k:gM}{u:dZ}(h:(fq P w).is k u=true):fi (kV k) u:=by rcases gZ h with ⟨i,t,rfl,rfl⟩|⟨x,t,rfl,rfl⟩;exact⟨t,rfl⟩;exact⟨t,rfl⟩
def we (O:X.calm=true):jC X (.type "list") (λxs H Q=>∃p kvs,xs=[.ref p]/\H p=some (.dK kvs)/\∀l,H l=none->Q (.ref l) (upd H l (.lst (kvs.map λkv=>kV kv.1)))):=by
 intro D s σ H xs R Q I r h;obtain⟨p,kvs,rfl,e,q⟩:=h;obtain⟨u,rfl,F⟩:=jt r;cases (show u=Value.ref p from F);obtain⟨z,hd,A,rel,M⟩:=ri I.hok e;obtain⟨ep,m⟩:=M.dictAt;have C:=rel.length;refine W.kdl_call (W.kdl_dict (knd:=fq X.prog X.w) (kvs:=A) (ep:=ep) hd) (I.ok.hd O) m (by rw[<-C];exact z) λP J t c G N d=>?_;have L:=I.hok.fresh (am s.heap.objs.size);refine⟨.ref s.heap.objs.size,_,I.laid (a:=s.heap.objs.size) (o:=.lst (kvs.map λkv=>kV kv.1)) (t':=J) (λb o q=>G b o q) (am _) ?_,rfl,q _ L⟩;refine⟨by rw[ab];exact z,t.toList,c,?_,by rw[N]⟩;refine kD (by rw[ab,C,bw];exact d.1.symm) λi x y j B=>?_;rw[bI]at B;obtain⟨k,v,K,E⟩:=d.2 i y B;rw[ae]at j;have g:kvs[i]?.map (·.1)=A[i]?.map (·.1):=by rw[<-ae,<-ae,rel.keys]
 rw[K]at g;cases hi:kvs[i]? with|none=>rw[hi]at j;cases j|some kv=>
  rw[hi]at j g;cases j;have:kv.1=k:=by simpa using g
  show fi (kV kv.1) y;rw[this];exact vZ E
def iR.two {y y':Str}{c c':dY}{n j':Nat}(h1:autoParam (closureFor scope X.env=pure [(y,c),(y',c')]) gF._auto_1)(h2:autoParam (X.env.cells.lookup y=some c) gF._auto_1)(h2':autoParam (X.env.cells.lookup y'=some c') gF._auto_1)(hne:autoParam (y'≠y) iR.closed._auto_1)(hc:autoParam (∀z∈scope.names,z.2≠.cell) iR.closed._auto_1)(hk:autoParam (scope.kind=.function) gF._auto_1)(hn:autoParam (∀z∈scope.names,z.2=.local->scope.names.lookup z.1=some .local) iR.closed._auto_1)(ho:autoParam (∀z∈scope.names,z.2=.free->z.1=y\/z.1=y') iR.closed._auto_1)(hN:autoParam (N'[n]?=some y) gF._auto_1)(hN':autoParam (N'[n+1]?=some y') gF._auto_1)(hl:autoParam (N'.length=n+2) gF._auto_1)(hj:autoParam (X.N[j]?=some y) gF._auto_1)(hj':autoParam (X.N[j']?=some y') gF._auto_1)(hy:autoParam (X.env.kindOf y=some .cell) gF._auto_1)(hy':autoParam (X.env.kindOf y'=some .cell) gF._auto_1)(hr:autoParam ((relabel scope X.env).names.lookup y=some .cell) gF._auto_1)(hr':autoParam ((relabel scope X.env).names.lookup y'=some .cell) gF._auto_1):iR X N' scope [(y,c),(y',c')] n [j,j'] where
 clos:=h1
 cell:=hc
 kind:=hk
 names:=hn
 sub:=λz d e=>by
  by_cases q:z=y;subst q;rw[bg,beq_self_eq_true]at e;rw[h2];exact e;have b:(z == y)=false:=beq_false_of_ne q;by_cases q':z=y';subst q';rw[bg,b,bg,beq_self_eq_true]at e;rw[h2'];exact e;have s:(z == y')=false:=beq_false_of_ne q';rw[bg,b,bg,s]at e;simp at e
 has:=λz h=>by
  have l:∃k,(k=NameKind.cell\/k=NameKind.free)/\(z,k)∈(relabel scope X.env).names:=by
   rcases h with h|h
   exact⟨_,.inl rfl,bE h⟩;exact⟨_,.inr rfl,bE h⟩
  obtain⟨k,g,t⟩:=l;obtain⟨⟨a,o⟩,r,e⟩:=aC.mp (show(z,k)∈scope.names.map _ from t);have w:z=y\/z=y':=by
   by_cases hfree:o=.free;have v:z=a:=by
    dsimp only at e
    split at e
    exact(Prod.mk.inj e).1.symm;exact(Prod.mk.inj e).1.symm
   rw[v];exact ho _ r hfree;have b:(o == NameKind.free)=false:=by simpa using hfree
   simp only[b,bX,ce,if_false]at e;have p:=(Prod.mk.inj e).2;rcases g with q|q
   exact absurd (p.trans q) (hc _ r);exact absurd (p.trans q) hfree
  rcases w with q|q
  subst q;exact⟨c,by rw[bg,beq_self_eq_true]⟩;subst q;have b:(z == y)=false:=beq_false_of_ne hne;exact⟨c',by rw[bg,b,bg,beq_self_eq_true]⟩
 len:=by simpa using hl
 frees:=λk i e=>by
  match k,e with
  |0,e=>
   have m:j=i:=by simpa using e
   subst m;exact⟨y,hN,hj,.inl hy,.inl hr,by rw[h2,bg,beq_self_eq_true]⟩
  |1,e=>
   have m:j'=i:=by simpa using e
   subst m;have b:(y' == y)=false:=beq_false_of_ne hne;exact⟨y',hN',hj',.inl hy',.inl hr',by rw[h2',bg,b,bg,beq_self_eq_true]⟩
  |k+2,e=>simp at e
end Lake
namespace Lake.FB
open PySem
noncomputable def t6:Nat->PyData->Bool
 |_,.none=>true
 |_,.int _=>true
 |_,.str x=>PyData.strOk x
 |k+1,.list xs=>xs.all (t6 k)
 |k+1,.tuple xs=>xs.all (t6 k)
 |_,_=>false
theorem xb:∀(k:Nat) (d:PyData),t6 k d=true->d.canLay0=true/\d.depth<=k:=by
 intro k;induction k with|zero=>intro d h;cases d <;> simp_all [t6,PyData.canLay0,PyData.depth]|succ k ih=>
  have all:∀a:ef PyData,a.all (t6 k)=true->PyData.canLayAll0 a=true/\PyData.depthAll a<=k:=by intro a;induction a with|nil=>intro _;exact⟨rfl,br _⟩|cons x a ihx=>intro h;rw[List.all_cons,aF]at h;have g:=ih x h.1;have e:=ihx h.2;refine⟨?_,?_⟩;rw[PyData.canLayAll0,g.1,e.1];rfl;rw[PyData.depthAll];lia
  intro d h;cases d with|list a=>have z:=all a (by simpa [t6] using h);exact⟨by rw[PyData.canLay0];exact z.1,by rw[PyData.depth];lia⟩|tuple a=>have z:=all a (by simpa [t6] using h);exact⟨by rw[PyData.canLay0];exact z.1,by rw[PyData.depth];lia⟩|dict kvs=>simp[t6]at h|bool b=>simp[t6]at h|none=>simp[PyData.canLay0,PyData.depth]|int i=>simp[PyData.canLay0,PyData.depth]|str x=>simp_all [t6,PyData.canLay0,PyData.depth]
def kZ {k:Nat}{d:PyData}(h:t6 k d=true)(a:k<=64):SeqAt.shaped d=true:=by have z:=xb k d h;unfold SeqAt.shaped;rw[z.1,cq];exact aq (bz z.2 a)
abbrev Nd:=Str×Int×Int
abbrev En:=Str×Int×ef Nd
noncomputable def C8 (n:Nd):PyData:=.tuple [.str n.1,.int n.2.1,.int n.2.2]
noncomputable def fb (e:En):Str×Int:=(e.1,e.2.1)
structure fU (x:Str):Prop where
 ok:PyData.strOk x=true
 sh:(reprText x).length<=1000
structure ll (e:En):Prop where
 pt:fU e.1
 nd:∀n∈e.2.2,fU n.1
 few:e.2.2.length<=100
def EN {n:Nd}(h:fU n.1):t6 1 (C8 n)=true:=by simp[C8,t6,h.ok]
noncomputable def i9 (n:Nd)(e:En):Bool:=decide (e.1=n.1)&&(decide (n.2.1<=e.2.1)&&decide (e.2.1<=n.2.2))
def jc (es:ef En)(n:Nd):ef Int:=(es.filter (i9 n)).map λe=>e.2.1
def jF (a:ef En)(n:Nd):(jc a n).length<=a.length:=by unfold jc;rw[ab];exact bD _ _
def vU (a:ef En)(e:En)(n:Nd):jc (a++[e]) n=if i9 n e=true then jc a n++[e.2.1] else jc a n:=by unfold jc;rw[bR,aG];by_cases h:i9 n e=true;rw[ay h,aJ,ay h];rfl;rw[av h,aJ,av h];simp
end Lake.FB
namespace Lake.FB
open PySem PyProof.Rows
variable {H H':Hp}{es:ef En}{p:dY}{ps:ef dY}{v:V}
noncomputable def del (H:Hp)(ps:ef dY):Hp:=λb=>if b∈ps then none else H b
def eM {b:dY}(h:b∉ps):del H ps b=H b:=by unfold del;rw[av h]
def gc {b:dY}(h:b∈ps):del H ps b=none:=by unfold del;rw[ay h]
def fM (H:Hp)(ps:ef dY):eN (del H ps) H:=λb o e=>by
 by_cases h:b∈ps;rw[gc h]at e;cases e;rw[eM h]at e;exact e
def nc {o:HO}(h:p∈ps):del (upd H p o) ps=del H ps:=by funext b;by_cases hb:b∈ps;rw[gc hb,gc hb];rw[eM hb,eM hb,eB (λz=>hb (by rw[z];exact h))]
def eN.del (e:eN H H')(ps:ef dY):eN (del H ps) (del H' ps):=λb o q=>by
 by_cases h:b∈ps;rw[gc h]at q;cases q;rw[eM h]at q ⊢;exact e b o q
def eJ (h:H p=none)(o:HO):eN H (upd H p o):=λb u q=>by rw[eB (eG q h)];exact q
def eN.upd (e:eN H H'){o:HO}(h:H p=none):eN H (upd H' p o):=λb u q=>by rw[eB (eG q h)];exact e b u q
def fH (H:Hp)(v:V)(n:Nd):Prop:=∃q,v=.ref q/\H q=some (.tup [.str n.1,.int n.2.1,.int n.2.2])
def fj (H:Hp)(v:V)(k:Str×Int):Prop:=∃q,v=.ref q/\H q=some (.tup [.str k.1,.int k.2])
def lr (H:Hp)(v:V)(e:En):Prop:=∃q a xs,v=.ref q/\H q=some (.tup [.str e.1,.int e.2.1,.ref a])/\H a=some (.lst xs)/\Paired (fH H) xs e.2.2
def iZ (H:Hp)(a:dY)(es:ef En):Prop:=∃xs,H a=some (.lst xs)/\Paired (lr H) xs es
def fH.same (e:eN H H'){n:Nd}(h:fH H v n):fH H' v n:=(by obtain⟨q,h1,h2⟩:=h;exact⟨q,h1,e _ _ h2⟩)
def fj.same (e:eN H H'){k:Str×Int}(h:fj H v k):fj H' v k:=(by obtain⟨q,h1,h2⟩:=h;exact⟨q,h1,e _ _ h2⟩)
def lr.same (e:eN H H'){n:En}(h:lr H v n):lr H' v n:=
 (by obtain⟨q,a,xs,h1,h2,h3,h4⟩:=h;exact⟨q,a,xs,h1,e _ _ h2,e _ _ h3,Paired.KG h4 λ_ _=>fH.same e⟩)
def iZ.same (e:eN H H'){a:dY}(h:iZ H a es):iZ H' a es:=
 (by obtain⟨xs,h1,h2⟩:=h;exact⟨xs,e _ _ h1,Paired.KG h2 λ_ _=>lr.same e⟩)
def fH.rep {n:Nd}(h:fH H v n):ua H v (C8 n):=by obtain⟨q,rfl,a⟩:=h;exact .tup a (.cons (.str _) (.cons (.int _) (.cons (.int _) .nil)))
noncomputable def mT (k:Str×Int):PyData:=.tuple [.str k.1,.int k.2]
def fj.rep {k:Str×Int}(h:fj H v k):ua H v (mT k):=by obtain⟨q,rfl,a⟩:=h;exact .tup a (.cons (.str _) (.cons (.int _) .nil))
theorem oM {H:Hp}{α:Type}{R:V->α->Prop}{f:α->PyData}(h:∀v a,R v a->ua H v (f a)):∀{vs:ef V} {as:ef α},Paired R vs as->qt H vs (as.map f)
 |_,_,.nil=>.nil
 |_,_,.cons r t=>.cons (h _ _ r) (oM h t)
theorem Paired.K8 {α β:Type}{F:α->β->Prop}:∀{as:ef α} {bs:ef β} {i:Nat} {a:α},Paired F as bs->as[i]?=some a->∃b,bs[i]?=some b/\F a b
 |_,_,_,_,.nil,e=>by simp at e
 |_,_,0,_,.cons r _,e=>by simp at e;subst e;exact⟨_,rfl,r⟩
 |_,_,i+1,a,.cons _ t,e=>by obtain⟨b,h1,h2⟩:=Paired.K8 (i:=i) (a:=a) t (by simpa using e);exact⟨b,by simpa using h1,h2⟩
def wj {xs:ef V}{i:Int}(e:0<=i)(d:i<(xs.length:Int)):∃v,uT xs i=some v/\v∈xs:=by
 have a:i.toNat<xs.length:=by omega
 have b:i=((i.toNat:Nat):Int):=by omega
 have q:uT xs ((i.toNat:Nat):Int)=some xs[i.toNat]:=oX (ak a);rw[<-b]at q;exact⟨_,q,List.getElem_mem a⟩
def lg {ns:ef Int}{i:Int}(b:0<=i)(a:i<(ns.length:Int)):∃z,uT (ns.map V.int) i=some (.int z)/\z∈ns:=by obtain⟨v,e,d⟩:=wj (xs:=ns.map V.int) b (by rw[ab];exact a);obtain⟨z,g,rfl⟩:=aC.mp d;exact⟨z,e,g⟩
noncomputable def il (es:ef En)(x:Str):ef Int:=(es.filter λe=>decide (e.1=x)).map λe=>e.2.1
def oh (a:ef En)(e:En)(x:Str):il (a++[e]) x=if e.1=x then il a x++[e.2.1] else il a x:=by unfold il;rw[bR,aG];by_cases h:e.1=x;rw[ay h,aJ,ay (aq h)];rfl;rw[av h,aJ,av (by simpa using h)];simp
def ke (a:ef En)(x:Str):(il a x).length<=a.length:=by unfold il;rw[ab];exact bD _ _
noncomputable def lX (n:Nd)(z:Int):Bool:=decide (n.2.1<=z)&&decide (z<=n.2.2)
def pQ (a:ef En)(n:Nd):jc a n=(il a n.1).filter (lX n):=by
 induction a with|nil=>rfl|cons e a ih=>
  unfold jc il at ih ⊢;rw[aJ,aJ];by_cases h:e.1=n.1;rw[ay (aq h),aH,aJ];have b:i9 n e=lX n e.2.1:=by unfold i9 lX;rw[aq h,cq]
  rw[b];by_cases hb:lX n e.2.1=true;rw[ay hb,ay hb,aH,ih];rw[av hb,av hb,ih];have b:¬i9 n e=true:=by unfold i9;rw[au h];simp
  rw[av b,av (by simpa using h),ih]
def Ap {n:Nd}{ms:ef Int}(h:ms.Perm (il es n.1)):(ms.filter (lX n)).Perm (jc es n):=by rw[pQ];exact h.filter _
noncomputable def iY (k:Str×Int):ef Lake.gM:=[Sum.inr k.1,Sum.inl k.2]
def mY {k j:Str×Int}(h:iY k=iY j):k=j:=by
 obtain⟨a,b⟩:=k;obtain⟨c,d⟩:=j;unfold iY at h;injection h with e i
 injection i with g l
 injection e with e
 injection g with g
 exact Prod.ext e g
def nv:¬(("needs":Str) = "versions"):=by decide +kernel
def kI (dn dv:dY):ef (Str×V):=gz "versions" (.ref dv) (gz "needs" (.ref dn) [])
def fE (a b:dY):(kI a b).lookup ("needs":Str)=some (.ref a):=by unfold kI;rw[iL,av nv,iL,ay rfl]
def jS (b a:dY):(kI b a).lookup ("versions":Str)=some (.ref a):=by unfold kI;rw[iL,ay rfl]
def qi (e b:dY){m:Str}(a:¬m = "versions")(d:¬m = "needs"):(kI e b).lookup m=none:=by unfold kI;rw[iL,av a,iL,av d];all_goals rfl
def nn (H:Hp)(kv:gi×V)(e:En):Prop:=kv.1=some (iY (fb e))/\∃a zs,kv.2=.ref a/\H a=some (.lst zs)/\Paired (fH H) zs e.2.2
def uY (H:Hp)(vk:ef (gM×V))(es:ef En)(d:Str->Prop):Prop:=
 ∀x:Str,(fc vk (Sum.inr x)=none/\il es x=[])\/∃l ms,fc vk (Sum.inr x)=some (.ref l)/\H l=some (.lst (List.map V.int ms))/\ms.Perm (il es x)/\(d x->ms.Pairwise (· ≥ ·))
inductive BY (C:dY)(H:Hp)(p st:dY)(es:ef En):Prop
 |mk (dx dn dv nks vk:_)(_:H p=some (.ins C dx (kI dn dv)))(_:Rd H dn (.dN ((none,.ref st)::nks)))(_:Paired (nn H) nks es)(_:Rd H dv (.dK vk))(_:uY H vk es λ_=>True)
structure fZ (C:dY)(H:Hp)(p st:dY)(es:ef En):Prop where
 ex:BY C H p st es
def nn.same (e:eN H H'){kv:gi×V}{n:En}(h:nn H kv n):nn H' kv n:=
 (by obtain⟨h1,a,zs,h2,h3,h4⟩:=h;exact⟨h1,a,zs,h2,e _ _ h3,Paired.KG h4 λ_ _=>fH.same e⟩)
def uY.same (e:eN H H'){vk:ef (gM×V)}{d:Str->Prop}(h:uY H vk es d):uY H' vk es d:=λx=>by
 rcases h x with z|⟨l,ms,h1,h2,h3,h4⟩;exact .inl z;exact .inr ⟨l,ms,h1,e _ _ h2,h3,h4⟩
def iB (e:eN H H'){a:dY}{u:HO}(h:Rd H a u):Rd H' a u:=h.imp (e _ _) (by rintro⟨o,z⟩;exact⟨o,e _ _ z⟩)
def fZ.same {C:dY}(e:eN H H'){st:dY}(h:fZ C H p st es):fZ C H' p st es:=by obtain⟨o,d,l,a,b,j,g,q,i,m⟩:=h.ex;exact⟨o,d,l,a,b,e _ _ j,iB e g,Paired.KG q λ_ _=>nn.same e,iB e i,m.same e⟩
theorem rK {H:Hp}:∀{nks:ef (gi×V)} {es:ef En},Paired (nn H) nks es->∀k:Str×Int,(k∉es.map fb/\fc nks (some (iY k))=none)\/∃e∈es,fb e=k/\∃a zs,fc nks (some (iY k))=some (.ref a)/\H a=some (.lst zs)/\Paired (fH H) zs e.2.2
 |_,_,.nil,k=>.inl ⟨by simp,rfl⟩
 |_,_,.cons (a:=kv) (b:=e) r t,k=>by
  obtain⟨h1,a,zs,h2,h3,h4⟩:=r;by_cases hk:fb e=k;refine .inr ⟨e,by simp,hk,a,zs,?_,h3,h4⟩;rw[gR (by rw[h1,hk]),h2];have hn:¬kv.1=some (iY k):=by rw[h1];exact λz=>hk (mY (Option.some.inj z))
  rw[gE hn];rcases rK t k with ⟨i,g⟩|⟨h,d,z⟩;refine .inl ⟨?_,g⟩;rw[aH,ao];exact λy=>y.elim (λq=>hk q.symm) i;exact .inr ⟨h,by simp[d],z⟩
end Lake.FB
namespace Lake
open PySem PySem.Spec PyProof.Rows
variable {X:Cx}{pos:Pos}{w:World}
section
variable {pins:ef (dY×Obj)}{σ:St}{H:Hp}{s:d0}{h':Heap}
def eX.K9 {t':Nat}{ch:ef dY}(I:eX X pins σ H s)(d:∀b∈ch,jW X pins H b)(k:∀b o,b∉ch->s.heap.get? b=some o->h'.get? b=some o):eX X pins σ H {s with heap:=h',toks:=t'}:=by
 refine I.step (g':=s.gens) (d':=s.drawn) (ch:=ch) (λb j=>?_) (λb o _ _ a e _=>k b o a e) (λb o _ _ a e _=>⟨o.slots,k b o a e⟩) (λ_ _ _ _ n=>n)
  (λb o a e=>⟨o,k b o a e⟩) (λ_ _ e=>e) (λ_ _ _ e=>e) (λb B e=>⟨#[],by rw[e];simp⟩) (λm l=>?_) (λb u e=>?_) I.bare
 obtain⟨y,w,A,x,t,h⟩:=d b j;exact⟨x,w,t,h⟩;obtain⟨o,i,p,g,r⟩:=l;exact⟨o,i,p,k _ o (λz=>(d _ z).2.1 rfl) g,r⟩;have out:∀c v,H c=some v->c∉ch:=λc v q z=>by rw[(d c z).1]at q;cases q
 refine(I.hok b u e).KH (λc v a q=>k c v ?_ q) (λ_ q=>q) λ_ _ q=>q;rcases a with z|z;rw[z];exact out b u e;exact out c _ z
end
def Gc (K:W.Frag)(a:dY):It:=
 ⟨λi H=>∃xs x,ff K H a xs/\xs[i]?=some x,λi H x H'=>∃t y,H t=none/\x=.ref t/\H'=upd H t (.tup [.int i,y])/\∀xs,ff K H a xs->xs[i]?=some y,λi H=>∃xs,ff K H a xs/\xs.length<=i⟩
def xT {P:ee}{K:W.Frag}{elts:ef Expr}{k:Nat}(a e m:dY)(ap:e≠m):qJ P w K (.Tuple elts k pos) (Gc K a) [e,m] e (λi h=>(∃old,IsEnum h e m i old)/\h.IsListIter m a i) where
 mem:=by simp
 obj:=λi h j b q=>by
  obtain⟨⟨old,l⟩,o,e1,c,d⟩:=j;rcases ao.mp q with z|z
  subst z
  exact⟨_,l,λv z=>by
   have z':Data.fields _=Data.cell v:=z
   cases z'⟩
  rw[aj.mp z];exact⟨o,e1,λv z=>by rw[d]at z;cases z⟩
 keep:=λi h h' j O=>⟨(by obtain⟨old,l⟩:=j.1;exact⟨old,O e (by simp) _ l⟩),j.2.at λo z=>O m (by simp) o z⟩
 item:=by
  intro X F Z hK hc i B s σ H E I S j hg;subst F Z hK;obtain⟨xs,x,R,hx⟩:=hg;obtain⟨g,rv,p,hz⟩:=I.list R;obtain⟨u,hu,ru⟩:=rv.get hx;obtain⟨⟨old,l⟩,r⟩:=j;have Q:s.heap.IsList a g.toArray:=p.isList;have al:a≠e:=λz=>by
   obtain⟨o,G,N,_⟩:=Q;rw[z,l]at G;cases G;exact absurd N (show ¬(Value.type "enumerate" = Value.type "list") by decide)
  have ad:a≠m:=λz=>by
   obtain⟨o,G,N,_⟩:=Q;obtain⟨o',g1,g2,_⟩:=r;rw[z,g1]at G;cases G;rw[g2]at N;exact absurd N (by decide)
  have hi:i<g.toArray.size:=by
   have:=(af.mp hu).1;simpa using this
  have W:=WalksT.enumerate (prog:=X.prog) (w:=X.w) (A:=X.A) (I.ok.hd hc) e m a ap al ad g.toArray;refine W.item i s _ _ hi ⟨⟨old,l⟩,r,Q⟩ λT a0 h' tk F hT D hM O=>⟨.ref T,rfl,W.go elts k pos i T _ _ _ hM λag J L=>?_⟩;have ah:s.heap.get? T=none:=bn hT;have C:H T=none:=I.hok.fresh hT;have M:T∉[e,m]:=W.apart i T _ hM;have I1:eX X B σ H {s with heap:=ag,toks:=tk}:=I.K9 (ch:=[e,m]) S λb o q z=>L b o q (O b o q z);obtain⟨o,ho,as,n,aa⟩:=D;have Y:=L T o M ho;obtain⟨t,y,U,rfl⟩:=F;have an:y=u:=by
   have:g.toArray[i]?=some u:=by simpa using hu
   rw[this]at U;exact(Option.some.inj U).symm
  subst an;refine⟨.ref T,upd H T (.tup [.int i,x]),I1.adopt (I.K7 ah C) ⟨by show 2<=sizeLine;decide,[.int i t,y],.cons ⟨t,rfl⟩ (.cons ru .nil),o,Y,as,n,aa⟩,rfl,⟨T,x,C,rfl,rfl,λys U=>by rw[I.KP U R];exact hx⟩,⟨J.1,J.2.1⟩,λb q=>?_⟩;rw[eB (show b≠T from λz=>M (by rw[<-z];exact q))];exact(S b q).1
 done:=by
  intro X F Z hK hc i B s σ H E I S j hg;subst F Z hK;obtain⟨xs,R,hx⟩:=hg;obtain⟨g,rv,p,hz⟩:=I.list R;obtain⟨⟨old,l⟩,r⟩:=j;have Q:=rv.length;obtain⟨f0,f1,f2,f3,f4,f5⟩:=S m (by simp);exact wpAny_pyNext_enum_end (I.ok.hd hc) l r p.isList (by simp;omega) λh' eb=>⟨rfl,I.turned (t':=s.toks) (λb o q e=>eb b o q e) f0 f1 f3 f4 f5⟩
 self:=λ_ _ _ _ _ j h=>(by obtain⟨_,l⟩:=j.1;exact wpAny_pyIter_enum l h)
def Ht (K:W.Frag)(tl:TE):TI:=λσ H R=>tl σ H λx H1=>∃a xs,x=.ref a/\H1 a=some (.lst xs)/\R (Gc K a) H1
def wU {elts:ef Expr}{k:Nat}{tpos p:Pos}{l:Expr}{tl:TE}(B:Gl X "enumerate")(L:X.mg "enumerate" = none)(J:PE X l tl)(hs:autoParam (starEach [l] X.env=[(false,eval l X.env)]) gF._auto_1):PI X (.Tuple elts k tpos) (.Call (.Name "enumerate" p) [l] [] pos) (Ht X.K tl):=by
 intro g s σ H R I h;refine bH (jP I B L PyProof.Rows.boot_enumerate ?_ (by decide) (by decide));refine PyProof.Rows.callWith_type1 ?_ hs rfl;have F:=(eo J eA hs) pos g s σ H (λi e=>match i with|[x]=>(∃a xs,x=.ref a/\e a=some (.lst xs)/\R (Gc X.K a) e)|_=>False) I h;refine gm F ?_;rintro P s1 ⟨i,e,d,r,v⟩
 match i,r,v with
 |[x],r,⟨a,xs,e2,hS,q⟩=>subst e2;obtain⟨u,rfl,y⟩:=jt r;cases (show u=Value.ref a from y);obtain⟨O,E,n,N,j⟩:=(show gf X.prog X.w e s1.heap a (.lst xs) from d.hok a _ hS);refine call_enumerate_1 j λC o m G D=>?_;refine wpAny_pyIter_enum (s:={s1 with heap:=C}) o ?_;have t:s1.heap.get? s1.heap.objs.size=none:=bn (am _);have M:s1.heap.get? (s1.heap.objs.size+1)=none:=bn (dB _);refine⟨s1.heap.objs.size+1,[s1.heap.objs.size+1,s1.heap.objs.size],_,_,e,rfl,d.kept (t':=s1.toks) D,xT a _ _ (Nat.succ_ne_self _),⟨⟨_,o⟩,m⟩,λb A=>?_,q⟩;rcases ao.mp A with z|z;subst z;exact d.K7 M (d.hok.fresh (dB _));rw[aj.mp z];exact d.K7 t (d.hok.fresh (am _))
def uE {K:W.Frag}{a:dY}{xs:ef V}{g:TG}{tb:TS}{D:mN}{σ:St}{H:Hp}(b:Nat->St->Hp->Prop)(o:b 0 σ H)(j:∀i σ H,i<=xs.length->b i σ H->ff K H a xs)(r:∀i x σ H t,xs[i]?=some x->b i σ H->H t=none->g (.ref t) σ (upd H t (.tup [.int (i:Nat),x])) λσ2 H2=>tb {D with nx:=b (i+1),ct:=b (i+1),bk:=D.nx} σ2 H2)(h:∀σ H,b xs.length σ H->D.nx σ H):∃W:Nat->Nat->St->Hp->Prop,(∃m,W 0 m σ H)/\∀i m σ H,W i m σ H->((Gc K a).stop i H/\D.nx σ H)\/((Gc K a).go i H/\∃N:St->Hp->Prop,(∀σ' H',N σ' H'->∃m',m'<m/\W (i+1) m' σ' H')/\∀x H',(Gc K a).yld i H x H'->g x σ H' λσ2 H2=>tb {D with nx:=N,ct:=N,bk:=D.nx} σ2 H2):=by refine⟨λi m σ H=>m=xs.length-i/\i<=xs.length/\b i σ H,⟨xs.length,by simp,br _,o⟩,?_⟩;rintro i m σ H ⟨rfl,e,p⟩;have q:=j i σ H e p;rcases cO i xs.length with d|hge;refine .inr ⟨⟨xs,xs[i],q,by simp[d]⟩,b (i+1),λσ' H' s=>⟨xs.length-(i+1),by omega,rfl,d,s⟩,λx H' y=>?_⟩;obtain⟨t,z,l,rfl,rfl,y⟩:=y;exact r i z σ _ t (y xs q) p l;obtain rfl:i=xs.length:=Nat.le_antisymm e hge;exact .inl ⟨⟨xs,q,am _⟩,h σ H p⟩
section
variable {k:Nat}{x:Str}{p:Pos}{e:Expr}{es:ef Expr}{t:TA}{i:Nat}
inductive DE (P:ee)(w:World)(K:W.Frag)(mg:Str->el dZ)(base:Heap)(k:Nat)(i:Nat)(t:TA)(σ:St)(H:Hp)(Q:VK):Prop
 |mk (g gd ps sp:_)(_:σ[i]?=some (some (.ref g)))(_:fB P w K mg base fC k g gd ps sp)(_:W.keepIn K (.ref g)=true)(_:iM K gd ps [])(_:t σ H λvs H1=>sp vs H1 Q E0)
def Eg (P:ee)(w:World)(K:W.Frag)(mg:Str->el dZ)(base:Heap)(k i:Nat)(t:TA):TE:=λσ H Q=>DE P w K mg base k i t σ H Q
def Ay (z:X.N[i]?=some x)(J:Dv X.env.scope x)(j:gU k X.A)(L:PA X (e::es) t)(hd:autoParam ((x == ("__debug__":Str))=false) Aq._auto_1)(hcd:autoParam ((x == ("__classdict__":Str))=false) Aq._auto_1)(he:autoParam (starEach (e::es) X.env=(false,eval e X.env)::starEach es X.env) gF._auto_1)(hpl:autoParam ((backTo pos (starEach es X.env)).any (·.1)=false) gF._auto_1):PE X (.Call (.Name x p) (e::es) [] pos) (Eg X.prog X.w X.K X.mg X.base k i t):=by intro a s σ H Q I h;obtain⟨g,Y,P,O,G,F,D,m,q⟩:=h;refine bH (gm (Aq z J hd hcd a s σ H (λv b=>v=.ref g/\b=H) I ⟨_,G,rfl,rfl⟩) ?_);rintro u l ⟨v,b,y,r,C,o⟩;subst C o;cases (show u=Value.ref g from r);refine W.callWith_K (h₀:=X.base) I.ok.mod.kin D (gm (L pos a l σ b _ y q) ?_) he hpl;rintro S U ⟨T,R,d,B,M⟩;refine⟨d.kIn,?_⟩;exact sC (ds:=[]) (dvs:=[]) (E:=E0) F j m .nil fN d B (by rw[bY];exact M)
end
def pR:typeLookup (.type "list") "keys" = pure none:=by rw[typeLookup_type,builtinLookup_eq_fast];kernel_rfl
theorem yR {prog:ee}{A:dX}{E:dZ->d0->Prop}{s:d0}{a:dY}{xs:Array dZ}{k:Nat}{Q:el dZ->d0->Prop}(l:s.heap.get? a=some {cls:=.type "list",data:=.seq xs k})(q:A.handled=none)(h:∀h' tk,(∀b o,s.heap.get? b=some o->h'.get? b=some o)->Q none {s with heap:=h',toks:=tk}):wpAny (model prog w) A (getAttr? (.ref a) "keys") Q E s:=by
 obtain⟨hp,g,d,tk,p⟩:=s;have m:∀j,(⟨hp,g,d,j,p⟩:d0).TypeIs (.ref a) "list":=λ_=>⟨_,l,rfl⟩;have y:=sub_AttributeError;have z:=PySem.F.slot_list_getattribute.lookup;have v:=PySem.F.slot_list_getattribute.bind (.ref a);have r:=am_list_getattr_none;unfold getAttr? getAttrBy? getAttrBy
 repeat (any_goals (first|assumption|exact m _|((with_reducible show wpAny _ _ (call (Value.builtin "list.__getattribute__") _ _) _ _ _);refine call_meets PySem.F.slot_list_getattribute (m _) am_entry_list_getattribute (PySem.F.args_list_getattribute_2 _ _) (meets_getattribute_miss_list a xs k #[] "keys" _ pR (by decide +kernel) (by decide +kernel)) ⟨l,q,λh' j e i=>?_⟩)|wp_step))
 obtain⟨t,B,x⟩:=i.there;show wpAny _ _ (getattributeRaised _ _ _ _ _ _ _) _ _ _;unfold getattributeRaised
 repeat (any_goals (first|assumption|wp_step))
 exact h _ _ i.keeps
def lP:entryFor table "dict.update.loop" = some Builtin.«dict.update.loop»:=entryFor_of_tree (by kernel_rfl)
def ji:plainId "dict.update.loop" = true:=by decide +kernel
def Dy (P:ee)(w:World)(h:Heap)(S it:dY)(items:Array dZ)(ks:ef (gM×dZ)):Prop:=
 ∀j,j<items.size->∃q k u v,items[j]?=some (.ref q)/\q≠S/\q≠it/\h.IsTuple q #[u,v]/\(fq P w).is k u=true/\ks[j]?=some (k,v)
section
variable {P:ee}{A:dX}{R:Result->d0->Prop}{S it l:dY}{items:Array dZ}{ks:ef (gM×dZ)}
theorem zr (hh:A.handled=none)(m:S≠it)(O:l≠it)(F:l≠S)(ah:ks.length=items.size):∀(n i:Nat) (s:d0) (kvs:ef (gM×dZ)),items.size-i=n->i<=items.size->s.heap.IsListIter it l i->s.heap.IsList l items->s.heap.DictOf (fq P w) S kvs->kvs.length+(items.size-i)<=sizeLine->Dy P w s.heap S it items ks->(∀h' tk,h'.DictOf (fq P w) S (merged kvs (ks.drop i))->(∀b o,b≠S->b≠it->s.heap.get? b=some o->h'.get? b=some o)->R (.ok (.ret .none)) {s with heap:=h',toks:=tk})->codeAny (model P w) A (.builtin "dict.update.loop" ⟨[.ref S,.ref it,rawInt i,.none],[]⟩) R s:=by
 intro n;induction n with
 |zero=>
  intro i s kvs hn hi t C T hz hp h;have X:i=items.size:=by lia
  refine dH lP ?_;rw[Around.under_plainId ji _];show wpAny _ A.in1 (pyNext (.ref it) >>= _) _ _ s;refine ac (wpAny_pyNext_list_end hh t C (by rw[X];exact Array.getElem?_eq_none (am _)) λh' eb=>?_);refine ac (ar (ar (h h' s.toks ?_ λb o p g e=>eb b o g e)));rw[List.drop_eq_nil_of_le (by lia)];obtain⟨o,Z,L,M,r⟩:=T;exact⟨o,Z,L,eb S o m M,r⟩
 |succ n ih=>
 intro i s kvs hn hi t C T hz hp h;have y:i<items.size:=by lia
 obtain⟨q,k,u,v,hx,ag,B,hq,hk,U⟩:=hp i y;refine dH lP ?_;rw[Around.under_plainId ji _];show wpAny _ A.in1 (pyNext (.ref it) >>= _) _ _ s;refine ac (wpAny_pyNext_list_item t C hx λD z J=>?_);have a:∀b o,b≠it->s.heap.get? b=some o->D.get? b=some o:=λb o p e=>(J.2 b p).trans e;obtain⟨oq,x,G,nq,ad⟩:=id hq;have I:D.DictOf (fq P w) S kvs:=by obtain⟨o,Z,L,M,r⟩:=T;exact⟨o,Z,L,a S o m M,r⟩
 have hT:(⟨D,s.gens,s.drawn,s.toks,s.os⟩:d0).TypeIs (.ref q) "tuple":=⟨_,a q oq B x,G⟩;refine ac (bB (ac (cY ?_)));unfold Builtin.Dict.pairItems;refine ac (wpAny_typeOf hT ?_);rw[ay (by decide)];refine ac (dP (a q oq B x) ad (ar ?_));show wpAny _ _ (holding [u,v] (dictSet S u v)) _ _ _;refine bB (wpAny_dictSet_pairs (hsz:=by lia) hk I λh2 E K=>?_);have d:∀b o,b≠S->D.get? b=some o->h2.get? b=some o:=λb o p e=>(K.2 b p).trans e;refine ar ⟨dt ji _,?_⟩;have hc:rawInt ((i:Int)+1)=rawInt ((i+1:Nat):Int):=by push_cast;rfl
 rw[hc];have aa:ks.drop i=(k,v)::ks.drop (i+1):=by obtain⟨Y,e'⟩:=af.mp U;rw[df Y,e']
 refine ih (i+1) _ (stored kvs k v) (by lia) y (z.at λo e=>d it o (Ne.symm m) e) (C.at λo e=>d l o F (a l o O e)) E ?_ (λj hj=>?_) λh' tk N H=>?_;have:(stored kvs k v).length<=kvs.length+1:=by unfold stored;split;rw[ab];lia;rw[aD];exact am _
 lia;obtain⟨Q,k',u',v',z1,z2,z3,⟨o',z4,z5⟩,z6⟩:=hp j hj;exact⟨Q,k',u',v',z1,z2,z3,⟨o',d Q o' z2 (a Q o' z3 z4),z5⟩,z6⟩;refine h h' tk ?_ λb o p g e=>H b o p g (d b o p (a b o g e));rw[aa];exact N
end
def wF (H:Hp)(v:V)(kv:gM×V):Prop:=∃q,v=.ref q/\H q=some (.tup [kV kv.1,kv.2])
theorem qh (hc:X.calm=true):jC X (.type "dict") (λxs H Q=>∃l ys kvs,xs=[.ref l]/\H l=some (.lst ys)/\Paired (wF H) ys kvs/\kvs.length<=1000/\∀p,H p=none->Q (.ref p) (upd H p (.dK (iT [] kvs)))):=by
 intro a1 s σ H xs us Q I r h;obtain⟨l,ys,kvs,rfl,e,hp,hz,q⟩:=h;obtain⟨u,rfl,r1⟩:=jt r;cases (show u=Value.ref l from r1);obtain⟨ag,g,n,rv,J⟩:=(show gf X.prog X.w H s.heap l (.lst ys) from I.hok l _ e);have N:ys.length=kvs.length:=Paired.length hp;have M:ys.length=g.length:=rv.length;generalize L:s.heap.objs.size=S;have nS:s.heap.get? S=none:=L▸bn (am _);have an:∃K:ef (gM×dZ),KV kvs K/\K.length=g.length/\∀j,j<g.length->∃q k u v,g[j]?=some (.ref q)/\s.heap.IsTuple q #[u,v]/\(fq X.prog X.w).is k u=true/\K[j]?=some (k,v):=by clear e J ag r1 r q N M;induction rv generalizing kvs with|nil=>cases hp;exact⟨[],.nil,rfl,λj O=>by simp at O⟩|@cons y u ys us hy t ih=>cases hp with|@cons _ kv _ kvs' i h2=>obtain⟨K,g1,g2,g3⟩:=ih kvs' h2 (by rw[aE]at hz;lia);obtain⟨qa,rfl,hq⟩:=i;cases (show u=Value.ref qa from hy);obtain⟨_,tv,rt,o,h3,h4,m,h5⟩:=(show gf X.prog X.w H s.heap qa (.tup [kV kv.1,kv.2]) from I.hok qa _ hq);cases rt with|@cons _ u1 _ _ ru1 rt2=>cases rt2 with|@cons _ u2 _ _ ru2 rt3=>cases rt3;refine⟨(kv.1,u2)::K,.cons ⟨rfl,ru2⟩ g1,by simp[g2],λj O=>?_⟩;cases j with|zero=>exact⟨qa,kv.1,u1,u2,rfl,⟨o,h3,h4,m,h5⟩,mi ru1,rfl⟩|succ j=>obtain⟨R,k',u',v',z1,U,z3,z4⟩:=g3 j (by simpa using O);exact⟨R,k',u',v',by simpa using z1,U,z3,by simpa using z4⟩
 obtain⟨K,as,a0,T⟩:=an;refine callType_codes (Q₁:=λY s1=>Y=.ref S/\s1={s with heap:=s.heap.push {cls:=.type "dict",data:=.dict #[]}}) PySem.F.kt_called_dict (PySem.F.kt_typeCall_dict_1 _) PySem.F.entry_dict_init (kt_code_dict_new _ ⟨by rw[L],rfl⟩) ?_;rintro Y s1 ⟨rfl,rfl⟩;have G:(s.heap.push {cls:=.type "dict",data:=.dict #[]}).DictOf (fq X.prog X.w) S []:=L▸Heap.DictOf.new s.heap;refine⟨G.typeIs,PySem.F.args_dict_init_2 _ _,?_⟩;unfold Builtin.«dict.__init__»;refine ac ?_;unfold Builtin.Dict.selfAndRest;refine ac (cM G.typeIs (ar ?_));show wpAny _ _ (Builtin.Dict.updateFrom "dict.__init__" S (.ref l) [] .none) _ _ _;unfold Builtin.Dict.updateFrom;have x:=az (h:=s.heap) {cls:=.type "dict",data:=.dict #[]} J;refine ac (wpAny_typeOf ⟨_,x,rfl⟩ ?_);rw[ay (by decide)];refine ac (yR x (I.ok.hd hc) λi aa k1=>?_);rw[ay (by decide)];have C:=k1 _ _ x;refine ac (cb (ac (wpAny_pyIter_list (s:={s with heap:=i,toks:=aa}) ⟨_,C,rfl,n,rfl⟩ (ar ⟨dt ji _,?_⟩))));dsimp only;generalize E:i.objs.size=it;have al:i.get? it=none:=E▸bn (am _);have D:∀b o,s.heap.get? b=some o->i.get? b=some o:=λb o z=>k1 b o (az _ z);have eS:i.get? S=some {cls:=.type "dict",data:=.dict #[]}:=k1 S _ (by rw[<-L];exact aM _ rfl);have Z:∀b o,i.get? b=some o->(i.push {cls:=.type "list_iterator",data:=.fields #[.ref l,.int 0 0]}).get? b=some o:=λb o z=>az _ z;have d:∀b o,i.get? b=some o->b≠it:=λb o z y=>by rw[y,al]at z;cases z
 have B:∀b o,s.heap.get? b=some o->b≠S:=λb o z y=>by rw[y,nS]at z;cases z
 have ah:(i.push {cls:=.type "list_iterator",data:=.fields #[.ref l,.int 0 0]}).DictOf (fq X.prog X.w) S []:=⟨_,#[],0,Z _ _ eS,⟨rfl,rfl,rfl⟩,rfl,λ_ he=>by simp at he,.nil,bT⟩;refine zr (A:=X.A.in1) (l:=l) (items:=g.toArray) (ks:=K) (I.ok.hd hc) (d S _ eS) (d l _ C) (B l _ J) (by rw[a0,aN]) g.length 0 _ [] (by simp) (br _)
  ⟨_,by rw[<-E];exact aM _ rfl,rfl,rfl⟩ ⟨_,Z _ _ C,rfl,n,rfl⟩ ah (by rw[cR,aN];lia) (λj O=>?_) λh' tk P ad=>?_
 obtain⟨R,k',u',v',z1,⟨o',U,z3⟩,z4,z5⟩:=T j (by simpa using O);exact⟨R,k',u',v',by simpa using z1,B R o' U,d R o' (D _ _ U),⟨o',Z _ _ (D _ _ U),z3⟩,z4,z5⟩;rw[List.drop_zero]at P;have ap:H S=none:=I.hok.fresh (cB L);have hm:(iT [] kvs).length<=sizeLine:=by have i:=km kvs [];rw[cR]at i;rw[bt];lia
 refine⟨rfl,.ref S,upd H S (.dK (iT [] kvs)),I.laid (a:=S) (o:=.dK (iT [] kvs)) (h':=h') (t':=tk) (λb o z=>ad b o (B b o z) (d b o (D b o z)) (Z b o (D b o z))) (cB L) (nW hm ?_ (as.merge .nil) P),rfl,q S ap⟩;exact beq_eq_false_iff_ne.mpr (Ne.symm (aW (L▸I.big)))
end Lake
namespace Lake.FB
open PySem PyProof.Rows
variable {H:Hp}
abbrev Pk:=Str×Int
def je (H:Hp)(a:dY)(ps:ef Pk):Prop:=∃xs,H a=some (.lst xs)/\Paired (fj H) xs ps
def gv (H:Hp)(a:dY)(ns:ef Nd):Prop:=∃zs,H a=some (.lst zs)/\Paired (fH H) zs ns
def je.same {H':Hp}(e:eN H H'){a:dY}{ps:ef Pk}(h:je H a ps):je H' a ps:=(by obtain⟨xs,h1,h2⟩:=h;exact⟨xs,e _ _ h1,Paired.KG h2 λ_ _=>fj.same e⟩)
def gv.same {H':Hp}(e:eN H H'){a:dY}{ns:ef Nd}(h:gv H a ns):gv H' a ns:=(by obtain⟨xs,h1,h2⟩:=h;exact⟨xs,e _ _ h1,Paired.KG h2 λ_ _=>fH.same e⟩)
noncomputable def kz (ps:ef Pk):ef (gM×V):=ps.map λk=>(Sum.inr k.1,V.int k.2)
noncomputable def iX (ps:ef Pk)(x:Str):el Int:=(ps.find? λk=>decide (k.1=x)).map (·.2)
theorem jJ (x:Str):∀ps:ef Pk,fc (kz ps) (Sum.inr x:gM)=(iX ps x).map V.int
 |[]=>rfl
 |k::ps=>by have ih:=jJ x ps;unfold kz iX at *;rw[aH];by_cases h:k.1=x;rw[gR (by rw[h]),bu,aq h];rfl;rw[gE (λz=>h (Sum.inr.inj z)),ih,bu,au h]
theorem lW:∀(ps qs:ef Pk),((qs++ps).map (·.1)).Nodup->iT (kz qs) (kz ps)=kz (qs++ps)
 |[],qs,_=>by rw[bY];rfl
 |k::ps,qs,h=>by
  have hv:fc (kz qs) (Sum.inr k.1:gM)=none:=by
   rw[jJ];have:iX qs k.1=none:=by unfold iX;rw[dO.mpr];rfl;intro x b a;rw[aG,bN]at h;exact h.2.2 x.1 (bo b) k.1 (by simp) (aI a)
   rw[this];rfl
  show iT (fJ (kz qs) (Sum.inr k.1) (V.int k.2)) (kz ps)=_;rw[ip _ hv];have e:kz qs++[((Sum.inr k.1:gM),V.int k.2)]=kz (qs++[k]):=by unfold kz;rw[aG];rfl
  rw[e,lW ps (qs++[k]) (by rw[bP];exact h),bP];rfl
def CJ {v:V}{k:Pk}(h:fj H v k):wF H v (Sum.inr k.1,V.int k.2):=h
theorem pN {H:Hp}:∀{xs:ef V} {ps:ef Pk},Paired (fj H) xs ps->Paired (wF H) xs (kz ps)
 |_,_,.nil=>.nil
 |_,_,.cons h t=>.cons (CJ h) (pN t)
def ng (ps:ef Pk)(n:Nd):Bool:=match iX ps n.1 with
 |none=>false
 |some z=>!(lX n z)
def jA (ps:ef Pk)(n:Nd):Bool:=(iX ps n.1).isNone
def gu (es:ef En)(k:Pk):ef Nd:=match es.find? λe=>decide (fb e=k) with
 |some e=>e.2.2
 |none=>[]
def lj (es:ef En)(st:ef Nd)(ps:ef Pk):ef (ef Nd):=st::ps.map (gu es)
structure tY (p:Nd->Bool)(L:ef (ef Nd))(i j:Nat):Prop where
 at_:∃ns n,L[i]?=some ns/\ns[j]?=some n/\p n=true/\∀m∈ns.take j,p m=false
 be:∀i' ns,i'<i->L[i']?=some ns->∀m∈ns,p m=false
def mK (p:Nd->Bool)(L:ef (ef Nd)):Prop:=∀ns∈L,∀m∈ns,p m=false
def tY.not {p:Nd->Bool}{L:ef (ef Nd)}{i j:Nat}(h:tY p L i j)(h':mK p L):False:=by obtain⟨a,n,d,e,b,_⟩:=h.at_;have:=h' a (ai d) n (ai e);rw[b]at this;cases this
def jb {es:ef En}(b:(es.map fb).Nodup){e:En}(d:e∈es):gu es (fb e)=e.2.2:=by
 unfold gu;have:es.find? (λx=>decide (fb x=fb e))=some e:=by induction es with|nil=>cases d|cons a es ih=>rw[aH,aX]at b;rw[bu];rcases ao.mp d with z|z;subst z;rw[aq rfl];have:¬fb a=fb e:=λy=>b.1 (y▸bo z);rw[au this];exact ih b.2 z
 rw[this]
def fZ.start {C:dY}{p st:dY}{es:ef En}(B:fZ C H p st es):∃dx dn dv,H p=some (.ins C dx (kI dn dv))/\hU H dn .non (some (.ref st))/\∀(v:V) (k:Pk),fj H v k->(k∉es.map fb/\hU H dn v none)\/(k∈es.map fb/\∃e∈es,fb e=k/\∃a zs,hU H dn v (some (.ref a))/\H a=some (.lst zs)/\Paired (fH H) zs e.2.2):=by
 obtain⟨dx,dn,dv,m,x,w,g,o,y,A⟩:=B.ex;refine⟨dx,dn,dv,w,⟨_,none,g,rfl,by rw[gR rfl]⟩,λv k t=>?_⟩;obtain⟨q,rfl,s⟩:=t;have j:mf H (some (iY k)) (.ref q):=⟨q,rfl,s⟩;have b:¬((none:gi)=some (iY k)):=by intro z;cases z
 rcases rK o k with ⟨i,h⟩|⟨e,l,d,a,zs,i,h,r⟩;exact .inl ⟨i,_,_,g,j,by rw[gE b,h]⟩;exact .inr ⟨d▸bo l,e,l,d,a,zs,⟨_,_,g,j,by rw[gE b,i]⟩,h,r⟩
end Lake.FB
namespace Lake
open PySem PySem.Spec PyProof.Rows
def F0 (K:W.Frag)(a b:dY):It:=
 ⟨λi H=>∃xs ys x y,ff K H a xs/\ff K H b ys/\xs[i]?=some x/\ys[i]?=some y,λi H v H'=>∃t x y,H t=none/\v=.ref t/\H'=upd H t (.tup [x,y])/\(∀xs,ff K H a xs->xs[i]?=some x)/\∀ys,ff K H b ys->ys[i]?=some y,λi H=>∃xs ys,ff K H a xs/\ff K H b ys/\(xs.length<=i\/ys.length<=i)⟩
def qL {h:Heap}{n l1 l2:dY}{xs ys:Array dZ}{f0 a b:dZ}{i:Nat}{m1 m2:dY}(hz:IsZip h (n+4) (n+2) (n+3) f0)(H:IsPair h (n+3) a b)(F:h.IsListIter n m1 i)(x:h.IsListIter (n+1) m2 i)(m:h.IsList l1 xs)(j:h.IsList l2 ys):ZipApart (n+4) (n+2) (n+3) n (n+1) l1 l2:=by
 have out:∀{l:dY} {r:Array dZ},h.IsList l r->l≠n+4/\l≠n+3/\l≠n/\l≠n+1:=by intro l r w;obtain⟨o,e,g,_⟩:=w;obtain⟨L,C,J,_⟩:=F;obtain⟨K,I,t,_⟩:=x;refine⟨λz=>?_,λz=>?_,λz=>?_,λz=>?_⟩;rw[z,hz]at e;cases e;exact absurd g (show ¬(Value.type "zip" = Value.type "list") by decide);rw[z,H]at e;cases e;exact absurd g (show ¬(Value.type "tuple" = Value.type "list") by decide);rw[z,C]at e;cases e;rw[J]at g;exact absurd g (by decide);rw[z,I]at e;cases e;rw[t]at g;exact absurd g (by decide)
 obtain⟨D,E,G,s⟩:=out m;obtain⟨v,A,B,y⟩:=out j;have d:∀(p q:Nat),p≠q->n+p≠n+q:=λp q h z=>h (Nat.add_left_cancel z);exact⟨d 2 4 (by decide),d 3 4 (by decide),d 0 4 (by decide),d 1 4 (by decide),d 2 3 (by decide),d 2 0 (by decide),d 2 1 (by decide),d 3 0 (by decide),d 3 1 (by decide),d 0 1 (by decide),D,E,G,s,v,A,B,y⟩
theorem zu {P:ee}{w:World}{K:W.Frag}{elts:ef Expr}{k:Nat}{pos:Pos}(a b n:dY):qJ P w K (.Tuple elts k pos) (F0 K a b) [n+4,n+2,n+3,n,n+1] (n+4) (λi h=>IsZip h (n+4) (n+2) (n+3) .none/\IsPair h (n+2) (.ref n) (.ref (n+1))/\(∃a b,IsPair h (n+3) a b)/\h.IsListIter n a i/\h.IsListIter (n+1) b i) where
 mem:=by simp
 obj:=λi h t c e=>by
  obtain⟨B,G,⟨_,_,C⟩,⟨o4,e4,_,d4⟩,⟨o5,e5,_,d5⟩⟩:=t;simp only[ao,aR,or_false]at e;rcases e with rfl|rfl|rfl|rfl|rfl
  exact⟨_,B,λv z=>by have Y:Data.fields _=Data.cell v:=z;cases Y⟩;exact⟨_,G,λv z=>by have Y:Data.seq _=Data.cell v:=z;cases Y⟩;exact⟨_,C,λv z=>by have Y:Data.seq _=Data.cell v:=z;cases Y⟩;exact⟨o4,e4,λv z=>by rw[d4]at z;cases z⟩;exact⟨o5,e5,λv z=>by rw[d5]at z;cases z⟩
 keep:=λi h h' t r=>by
  obtain⟨B,G,⟨x,y,C⟩,L,O⟩:=t;exact⟨r _ (by simp) _ B,r _ (by simp) _ G,⟨x,y,r _ (by simp) _ C⟩,L.at λo z=>r n (by simp) o z,O.at λo z=>r (n+1) (by simp) o z⟩
 item:=by
  intro X U hw hK e i g s σ H E I hf t hg;subst U hw hK;obtain⟨xs,ys,x,y,hq,hr,hx,hy⟩:=hg;obtain⟨j,rv,p,hz⟩:=I.list hq;obtain⟨d,M,p2,ah⟩:=I.list hr;obtain⟨u,hu,ru⟩:=rv.get hx;obtain⟨v,hv,as⟩:=M.get hy;obtain⟨B,G,⟨c1,c2,C⟩,L,O⟩:=t;have S:s.heap.IsList a j.toArray:=p.isList;have q:s.heap.IsList b d.toArray:=p2.isList;have D:=qL B C L O S q;have W:=WalksT.zip2 (prog:=X.prog) (w:=X.w) (A:=X.A) (I.ok.hd e) _ _ _ _ _ a b D j.toArray d.toArray;have i1:i<j.toArray.size:=by have:=(af.mp hu).1;simpa using this
  have i2:i<d.toArray.size:=by have:=(af.mp hv).1;simpa using this
  refine W.item i s _ _ (by lia) ⟨B,G,⟨c1,c2,C⟩,L,O,S,q⟩ λT a3 h' tk U hT R hM r=>⟨.ref T,rfl,W.go elts k pos i T _ _ _ hM λap a0 ad=>?_⟩;have N:s.heap.get? T=none:=bn hT;have Q:H T=none:=I.hok.fresh hT;have l:T∉[n+4,n+3,n,n+1]:=W.apart i T _ hM;have an:T≠n+2:=λz=>by rw[z,G]at N;cases N
  have J:∀c∈[n+4,n+3,n,n+1],jW X g H c:=λc e=>hf c (by simp only[ao,aR,or_false]at e ⊢;rcases e with z|z|z|z <;> simp[z])
  have I1:eX X g σ H {s with heap:=ap,toks:=tk}:=I.K9 (ch:=[n+4,n+3,n,n+1]) J λb o F z=>ad b o F (r b o F z);obtain⟨o,ho,a2,m,al⟩:=R;have ag:=ad T o l ho;obtain⟨u',v',aa,Z,rfl⟩:=U;have e1:u'=u:=by
   have:j.toArray[i]?=some u:=by simpa using hu
   rw[this]at aa;exact(Option.some.inj aa).symm
  have e2:v'=v:=by
   have:d.toArray[i]?=some v:=by simpa using hv
   rw[this]at Z;exact(Option.some.inj Z).symm
  subst e1 e2;obtain⟨t1,t2,t3,t4,t5,_⟩:=a0;refine⟨.ref T,upd H T (.tup [x,y]),I1.adopt (I.K7 N Q) ⟨by show 2<=sizeLine;decide,[u',v'],.cons ru (.cons as .nil),o,ag,a2,m,al⟩,rfl,⟨T,x,y,Q,rfl,rfl,λzs hy=>by rw[I.KP hy hq];exact hx,λzs a1=>by rw[I.KP a1 hr];exact hy⟩,⟨t1,t2,t3,t4,t5⟩,λc e=>?_⟩;have:c≠T:=λz=>by
   subst z;simp only[ao,aR,or_false]at e l;rcases e with z|z|z|z|z
   exact l (.inl z);exact an z;exact l (.inr (.inl z));exact l (.inr (.inr (.inl z)));exact l (.inr (.inr (.inr z)))
  rw[eB this];exact(hf c e).1
 done:=by
  intro X U hw hK e i g s σ H E I hf t hg;subst U hw hK;obtain⟨xs,ys,hq,hr,hx⟩:=hg;obtain⟨j,rv,p,hz⟩:=I.list hq;obtain⟨d,M,p2,ah⟩:=I.list hr;obtain⟨B,G,⟨c1,c2,C⟩,L,O⟩:=t;have S:s.heap.IsList a j.toArray:=p.isList;have q:s.heap.IsList b d.toArray:=p2.isList;have l1:=rv.length;have l2:=M.length;have J:∀c∈[n+4,n+3,n,n+1],jW X g H c:=λc e=>hf c (by simp only[ao,aR,or_false]at e ⊢;rcases e with z|z|z|z <;> simp[z])
  refine wpAny_pyNext_zip_end (I.ok.hd e) (qL B C L O S q) B G C L O S q ?_ λh' r=>⟨rfl,I.K9 (t':=s.toks) (ch:=[n+4,n+3,n,n+1]) J λb o F z=>?_⟩
  rcases hx with z|z
  left;simp;lia
  right;simp;lia
  simp only[ao,aR,or_false,not_or]at F;exact r b o F.1 F.2.1 F.2.2.1 F.2.2.2 z
 self:=λ_ _ _ _ _ t h=>wpAny_pyIter_zip t.1 h
def Js (K:W.Frag)(tl tm:TE):TI:=λσ H R=>tl σ H λx H1=>tm σ H1 λy H2=>∃a b xs ys,x=.ref a/\y=.ref b/\H2 a=some (.lst xs)/\H2 b=some (.lst ys)/\R (F0 K a b) H2
def Am {X:Cx}{elts:ef Expr}{k:Nat}{tpos p pos:Pos}{l m:Expr}{tl tm:TE}(J:Gl X "zip")(hm:X.mg "zip" = none)(U:PE X l tl)(M:PE X m tm)(hs1:autoParam (starEach [m] X.env=[(false,eval m X.env)]) gF._auto_1)(hs:autoParam (starEach [l,m] X.env=[(false,eval l X.env),(false,eval m X.env)]) gF._auto_1):PI X (.Tuple elts k tpos) (.Call (.Name "zip" p) [l,m] [] pos) (Js X.K tl tm):=by
 intro g s σ H R I h;refine bH (jP I J hm PyProof.Rows.boot_zip ?_ (by decide) (by decide));refine PyProof.Rows.callWith_type1 ?_ (by rw[hs,hs1]) (by rw[hs1];rfl);have P:=(eo U (eo M eA hs1) (by rw[hs,hs1])) pos g s σ H (λA e=>match A with|[x,y]=>(∃a b xs ys,x=.ref a/\y=.ref b/\e a=some (.lst xs)/\e b=some (.lst ys)/\R (F0 X.K a b) e)|_=>False) I h;refine gm P ?_;rintro us s1 ⟨A,e,d,r,F⟩
 match A,r,F with
 |[x,y],r,⟨a,b,xs,ys,e1,e2,hS,hT,q⟩=>subst e1 e2;obtain⟨u,v,rfl,G,Z⟩:=wM r;cases (show u=Value.ref a from G);cases (show v=Value.ref b from Z);obtain⟨hz,B,n,rv,C⟩:=(show gf X.prog X.w e s1.heap a (.lst xs) from d.hok a _ hS);obtain⟨S,t,n2,Y,o⟩:=(show gf X.prog X.w e s1.heap b (.lst ys) from d.hok b _ hT);refine call_zip_2 (xs:=B.toArray) (ys:=t.toArray) ⟨_,C,rfl,_,rfl⟩ ⟨_,o,rfl,_,rfl⟩ λN D L g3 T g5 Q O=>?_;refine wpAny_pyIter_zip (s:={s1 with heap:=N}) D ?_;have i:∀j,s1.heap.get? (s1.heap.objs.size+j)=none:=λj=>bn (di _ _);refine⟨s1.heap.objs.size+4,[s1.heap.objs.size+4,s1.heap.objs.size+2,s1.heap.objs.size+3,s1.heap.objs.size,s1.heap.objs.size+1],_,_,e,rfl,d.kept (t':=s1.toks) O,zu a b s1.heap.objs.size,⟨D,L,⟨_,_,g3⟩,T,g5⟩,λc E=>?_,q⟩;have fr:∀j,jW X g e (s1.heap.objs.size+j)->True:=λ_ _=>trivial;simp only[ao,aR,or_false]at E;rcases E with z|z|z|z|z;subst z;exact d.K7 (i 4) (d.hok.fresh (di _ _));subst z;exact d.K7 (i 2) (d.hok.fresh (di _ _));subst z;exact d.K7 (i 3) (d.hok.fresh (di _ _));subst z;exact d.K7 (i 0) (d.hok.fresh (am _));subst z;exact d.K7 (i 1) (d.hok.fresh (di _ _))
theorem Dl {K:W.Frag}{a b:dY}{xs ys:ef V}{g:TG}{tb:TS}{D:mN}{σ:St}{H:Hp}(d:Nat->St->Hp->Prop)(v:d 0 σ H)(j:xs.length=ys.length)(r:∀i σ H,i<=xs.length->d i σ H->ff K H a xs/\ff K H b ys)(A:∀i x y σ H t,xs[i]?=some x->ys[i]?=some y->d i σ H->H t=none->g (.ref t) σ (upd H t (.tup [x,y])) λσ2 H2=>tb {D with nx:=d (i+1),ct:=d (i+1),bk:=D.nx} σ2 H2)(o:∀σ H,d xs.length σ H->D.nx σ H):∃W:Nat->Nat->St->Hp->Prop,(∃m,W 0 m σ H)/\∀i m σ H,W i m σ H->((F0 K a b).stop i H/\D.nx σ H)\/((F0 K a b).go i H/\∃N:St->Hp->Prop,(∀σ' H',N σ' H'->∃m',m'<m/\W (i+1) m' σ' H')/\∀x H',(F0 K a b).yld i H x H'->g x σ H' λσ2 H2=>tb {D with nx:=N,ct:=N,bk:=D.nx} σ2 H2):=by refine⟨λi m σ H=>m=xs.length-i/\i<=xs.length/\d i σ H,⟨xs.length,by simp,br _,v⟩,?_⟩;rintro i m σ H ⟨rfl,l,p⟩;obtain⟨q,h⟩:=r i σ H l p;rcases cO i xs.length with e|hge;refine .inr ⟨⟨xs,ys,xs[i],ys[i]'(j▸e),q,h,by simp[e],by simp⟩,d (i+1),λσ' H' B=>⟨xs.length-(i+1),by lia,rfl,e,B⟩,λx H' y=>?_⟩;obtain⟨t,z,w,s,rfl,rfl,y,C⟩:=y;exact A i z w σ _ t (y xs q) (C ys h) p s;obtain rfl:i=xs.length:=Nat.le_antisymm l hge;exact .inl ⟨⟨xs,ys,q,h,.inl (am _)⟩,o σ H p⟩
end Lake
namespace Lake.FB
open PySem PyProof.Rows
variable {H H':Hp}{i:Int}{v:V}
inductive wE where
 |one (k:Pk)
 |many (bs:ef Int)
structure Rs where
 who:el Pk
 place:Int
 told:wE
abbrev Ln:=ef Pk×Rs
noncomputable def rF:wE->Str
 |.one _=>"outside"
 |.many _=>"open"
def gW (H:Hp)(v:V):el Pk->Prop
 |none=>v=.non
 |some k=>fj H v k
def kr (H:Hp)(v:V):wE->Prop
 |.one k=>fj H v k
 |.many bs=>∃a,v=.ref a/\H a=some (.lst (bs.map V.int))
def mJ (H:Hp)(v:V)(r:Rs):Prop:=∃q wv tv,v=.ref q/\H q=some (.tup [.str (rF r.told),wv,.int r.place,tv])/\gW H wv r.who/\kr H tv r.told
def nr (H:Hp)(v:V)(l:Ln):Prop:=∃q a rv,v=.ref q/\H q=some (.tup [.ref a,rv])/\je H a l.1/\mJ H rv l.2
def jB (H:Hp)(a:dY)(ls:ef Ln):Prop:=∃xs,H a=some (.lst xs)/\Paired (nr H) xs ls
def gW.same (e:eN H H'):∀{o:el Pk},gW H v o->gW H' v o
 |none,h=>h
 |some _,h=>fj.same e h
def kr.same (e:eN H H'):∀{t:wE},kr H v t->kr H' v t
 |.one _,h=>fj.same e h
 |.many _,⟨a,h1,h2⟩=>⟨a,h1,e _ _ h2⟩
def mJ.same (e:eN H H'){r:Rs}(h:mJ H v r):mJ H' v r:=
 (by obtain⟨q,wv,tv,h1,h2,h3,h4⟩:=h;exact⟨q,wv,tv,h1,e _ _ h2,h3.same e,h4.same e⟩)
def nr.same (e:eN H H'){l:Ln}(h:nr H v l):nr H' v l:=
 (by obtain⟨q,a,rv,h1,h2,h3,h4⟩:=h;exact⟨q,a,rv,h1,e _ _ h2,h3.same e,h4.same e⟩)
def jB.same (e:eN H H'){a:dY}{ls:ef Ln}(h:jB H a ls):jB H' a ls:=
 (by obtain⟨xs,h1,h2⟩:=h;exact⟨xs,e _ _ h1,Paired.KG h2 λ_ _=>nr.same e⟩)
def je.rep {a:dY}{ps:ef Pk}(h:je H a ps):ua H (.ref a) (.list (ps.map mT)):=
 (by obtain⟨_,h1,h2⟩:=h;exact .lst h1 (oM (λ_ _ z=>fj.rep z) h2))
structure zh (l:Ln):Prop where
 len:l.1.length<=20000
 pk:∀p∈l.1,fU p.1
 who:∀k,l.2.who=some k->fU k.1
 one:∀k,l.2.told=.one k->fU k.1
 many:∀bs,l.2.told=.many bs->bs.length<=100
def Al {k:Pk}(h:fU k.1):t6 1 (mT k)=true:=by simp[mT,t6,h.ok]
noncomputable def ij {α:Type}(xs:ef α)(i:Int):el α:=if 0<=i then xs[i.toNat]? else none
def i8 {α:Type}{xs:ef α}{x:α}(h:ij xs i=some x):uT xs i=some x:=by unfold ij at h;by_cases h0:0<=i;rw[ay h0]at h;have:=oX h;rwa[Int.toNat_of_nonneg h0]at this;rw[av h0]at h;cases h
theorem kE {α:Type}{xs:ef α}:ij xs i=none↔(i<0\/(xs.length:Int)<=i):=by unfold ij;by_cases h0:0<=i;rw[ay h0,List.getElem?_eq_none_iff];lia;rw[av h0];exact⟨λ_=>.inl (by lia),λ_=>rfl⟩
theorem iu {α β:Type}{F:α->β->Prop}{as:ef α}{bs:ef β}{b:β}(h:Paired F as bs)(d:ij bs i=some b):∃a,ij as i=some a/\F a b:=by unfold ij at d ⊢;by_cases h0:0<=i;rw[ay h0]at d ⊢;have o:=Paired.length h;have j:i.toNat<bs.length:=(af.mp d).1;have g:as[i.toNat]?=some as[i.toNat]:=ak (by lia);obtain⟨m,e,l⟩:=Paired.K8 h g;rw[d]at e;cases e;exact⟨_,g,l⟩;rw[av h0]at d;cases d
theorem ii {α:Type}(xs:ef α)(i:Nat):ij xs (i:Int)=xs[i]?:=by unfold ij;rw[ay (by lia),bA]
def jN {α:Type}{xs:ef α}{x:α}(h:ij xs i=some x):x∈xs:=by unfold ij at h;by_cases h0:0<=i;rw[ay h0]at h;exact ai h;rw[av h0]at h;cases h
def jz (es:ef En)(n:Nd):ef Int:=(jc es n).mergeSort λa b=>decide (b<=a)
theorem pr:∀{xs ys:ef Int},xs.Pairwise (· ≥ ·)->ys.Pairwise (· ≥ ·)->xs.Perm ys->xs=ys
 |[],ys,_,_,h=>(List.nil_perm.mp h).symm
 |x::xs,[],_,_,h=>absurd h.length_eq (by simp)
 |x::xs,y::ys,hx,hy,h=>by
  rw[List.pairwise_cons]at hx hy;have e:x=y:=by have a:x∈y::ys:=h.subset (bC ..);have b:y∈x::xs:=h.symm.subset (bC ..);rcases ao.mp a with z|z;exact z;rcases ao.mp b with y'|y';exact y'.symm;have:=hx.1 y y';have:=hy.1 x z;lia
  subst e;rw[pr hx.2 hy.2 ((List.perm_cons x).mp h)]
theorem mW {es:ef En}{n:Nd}{ms:ef Int}(h:ms.Perm (jc es n))(d:ms.Pairwise (· ≥ ·)):ms=jz es n:=by refine pr d ?_ (h.trans (List.mergeSort_perm _ _).symm);have:=List.pairwise_mergeSort (le:=λa b:Int=>decide (b<=a)) (λa b c e d=>by simp only[aw]at *;lia) (λa b=>by simp only[cw,aw];lia) (jc es n);exact this.imp λh=>aI h
def lM (a:ef En)(n:Nd):(jz a n).length<=a.length:=by unfold jz;rw[(List.mergeSort_perm _ _).length_eq];exact jF a n
def gr (es:ef En)(sn:ef Nd):el Pk->ef Nd
 |none=>sn
 |some k=>gu es k
def zp (es:ef En)(ps:ef Pk):el Pk->Bool
 |none=>true
 |some k=>decide (k∈ps)&&decide (k∈es.map fb)
def qf (n:Nd)(k:Pk):Bool:=decide (k.1=n.1)&&!(lX n k.2)
def qI (ls:ef Ln)(spot:Int)(ps:ef Pk)(x:Str)(b v:Int):Bool:=decide (0<=b)&&(decide (b<spot)&&match ij ls b with
 |none=>false
 |some l=>l.1.all λp=>decide (p∈ps)||decide (p=(x,v)))
def j4 (es:ef En)(ls:ef Ln)(spot:Int)(ps:ef Pk)(n:Nd)(bs:ef Int):Bool:=
 decide (bs.length=(jz es n).length)&&(bs.zip (jz es n)).all λbv=>qI ls spot ps n.1 bv.1 bv.2
def zA (es:ef En)(ls:ef Ln)(spot:Int)(ps:ef Pk)(n:Nd):wE->Bool
 |.one k=>decide (k∈ps)&&qf n k
 |.many bs=>j4 es ls spot ps n bs
def ir (es:ef En)(sn:ef Nd)(ls:ef Ln)(spot:Int)(l:Ln):Bool:=
 zp es l.1 l.2.who&&match ij (gr es sn l.2.who) l.2.place with
 |none=>false
 |some n=>zA es ls spot l.1 n l.2.told
def oo {es:ef En}{sn:ef Nd}(hok:∀e∈es,ll e)(hsp:∀n∈sn,fU n.1):∀(w:el Pk) (n:Nd),n∈gr es sn w->fU n.1
 |none,n,h=>hsp n h
 |some k,n,h=>by have h':n∈gu es k:=h;unfold gu at h';cases hf:es.find? (λe=>decide (fb e=k)) with|none=>rw[hf]at h';cases h'|some e=>rw[hf]at h';exact(hok e (b0 hf)).nd n h'
end Lake.FB
namespace Lake
open PySem PySem.Spec PyProof.Rows
variable {A:dX}{D:mN}{E Q:dZ->d0->Prop}{H:Hp}{K:W.Frag}{P:ee}{X:Cx}{a d:dY}{b:SI}{g:TG}{i m:Nat}{kvs:ef (gi×V)}{o:Obj}{p:Array Nat}{pins:ef (dY×Obj)}{s:d0}{tb:TS}{tg:Expr}{w:World}{σ:St}
theorem Ao {α β:Type}{F:α->β->Prop}:∀{as:ef α} {bs:ef β} {i:Nat} {a:α},Paired F as bs->as[i]?=some a->∃b,bs[i]?=some b/\F a b
 |_,_,_,_,.nil,e=>by simp at e
 |_,_,0,_,.cons r _,e=>by simp at e;subst e;exact⟨_,rfl,r⟩
 |_,_,i+1,a,.cons _ t,e=>by obtain⟨b,h1,h2⟩:=Ao (i:=i) (a:=a) t (by simpa using e);exact⟨b,by simpa using h1,h2⟩
def DH:HO->Prop
 |.dK _=>True
 |.dN _=>True
 |_=>False
def eX.freeze {u:HO}(I:eX X pins σ H s)(e:H a=some u)(j:DH u):∃o,s.heap.get? a=some o/\eX X pins σ (upd H a (.frz o u)) s:=by
 obtain⟨o,i⟩:=(I.hok a u e).some;have g:∀b v,H b=some v->¬DH v->b≠a:=λb v q n z=>n (by rw[z,e]at q;cases q;exact j);have own:∀b x,H b=some (.own x)->upd H a (.frz o u) b=some (.own x):=λb x q=>by rw[eB (g b _ q λz=>z)];exact q
 have tup:∀b h,H b=some (.tup h)->upd H a (.frz o u) b=some (.tup h):=λb h q=>by rw[eB (g b _ q λz=>z)];exact q
 have J:=I.un (H':=upd H a (.frz o u)) (h':=s.heap) (t':=s.toks) ⟨λb _ q _ _ _=>q,λb d q _ _ _=>⟨d.slots,q⟩,λb d _ n _=>(by rw[eB (λz=>by rw[z,e]at n;cases n)];exact n),λb d q _=>⟨d,q⟩,tup,λb d v q=>(by rw[eB (g b _ q λz=>z)];exact q),λb l q=>⟨#[],by rw[eB (g b _ q λz=>z),q];simp⟩⟩ (λb v q=>by
   by_cases hb:b=a;subst hb;rw[er]at q;cases q;exact⟨i,(I.hok b u e).KH (λ_ _ _ z=>z) (λc z=>own c b z) tup⟩;rw[eB hb]at q
   exact(I.hok b v q).KH (λ_ _ _ z=>z) (λc z=>own c b z) tup)
 exact⟨o,i,J⟩
inductive JN (Q:VK)(x:V)(H1:Hp):Prop
 |mk (a u:_)(_:x=.ref a)(_:H1 a=some u)(_:DH u)(_:∀o,Q x (upd H1 a (.frz o u)))
def Kc (te:TE):TE:=λσ H Q=>te σ H λx H1=>JN Q x H1
def Au {e:Expr}{te:TE}(j:PE X e te):PE X e (Kc te):=by intro b s σ H Q I h;refine gm (j b s σ H _ I h) ?_;rintro v t ⟨x,r,i,d,a,u,p,l,g,q⟩;obtain⟨o,_,m⟩:=i.freeze l g;exact⟨x,_,m,d,q o⟩
section
variable {it:dY}{es:Array DictEntry}{ep:Nat}
def oR (a:s.heap.get? d=some o)(i:o.ExactDict)(e:o.data=.dict es ep)(h:(d == sysModules)=false)(g:Q (.ref s.heap.objs.size) {s with heap:=s.heap.push {cls:=.type "dict_keyiterator",data:=.fields #[.ref d,.int 0 0,.int es.size 0,.int ep 0]}}):wpAny (model P w) A (pyIter (.ref d)) Q E s:=by have b:s.TypeIs (.ref d) "dict":=⟨o,a,i.1⟩;refine wpAny_pyIter_slot b F.slot_dict_iter (cf F.slot_dict_iter b F.entry_dict_iter ?_ (F.args_dict_iter_1 _));unfold Builtin.«dict.__iter__»;refine ac ?_;unfold Builtin.Dict.dictSlotNone;refine ac (cM b ?_);show wpAny _ _ (pure (Value.ref d)) _ _ s;refine ar ?_;show wpAny _ _ (Builtin.Dict.showsAll d >>= _) _ _ s;unfold Builtin.Dict.showsAll;rw[av (by rw[h];exact aT)];refine ac (ar ?_);refine ac (cU a e (ac (bL a e ?_)));refine ac (dR (ar ⟨_,rfl,"dict_keyiterator",_,⟨_,aM _ rfl,rfl⟩,F.slot_dict_keyiterator_next.lookup,?_⟩));simpa [rawInt] using g
def oN {Q:el dZ->d0->Prop}(a:s.heap.IsKeyIter it d i es.size ep)(j:s.heap.get? d=some o)(h:o.data=.dict es ep)(m:i<es.size)(p:∀h',h'.IsKeyIter it d (i+1) es.size ep->Heap.SameBut it s.heap h'->Q (some es[i].key) {s with heap:=h'}):wpAny (model P w) A (pyNext (.ref it)) Q E s:=by
 obtain⟨r,e,q,l⟩:=id a;unfold pyNext;refine ac (wpAny_attempt (dq (name:=Str.ofString "__next__") a.typeIs F.slot_dict_keyiterator_next (cf F.slot_dict_keyiterator_next a.typeIs F.entry_dict_keyiterator_next ?_ (F.args_dict_keyiterator_next_1 _))));refine ac (ar ?_);refine ac ?_;refine ac ?_;first|(refine ac (cH a.typeIs (ar ?_)))|(refine ac (dk a.typeIs (ar ?_)))
 refine ac (wpAny_fieldsOf e l ?_);have g:Builtin.Dict_items.ownsTuple "dict_keyiterator" = false:=by decide +kernel
 simp only[g,ce,if_false];show wpAny _ _ (if (Value.ref d == Value.none)=true then _ else _) _ _ s;rw[av (λz:(Value.ref d == Value.none)=true=>aT z)];refine ac (ar ?_);refine ac (cU j h ?_);rw[av (by simp)];refine ac (ar ?_);refine ac (bL j h ?_);rw[av (by simp)];refine ar ?_;simp only[show ¬((i:Int)<0) by omega,if_false,bA,cr m];refine ac ?_;first|(refine ac (cH a.typeIs (ar ?_)))|(refine ac (dk a.typeIs (ar ?_)))
 refine ac (wpAny_isOneOf_keyiter a.typeIs ?_);show wpAny _ _ (setField (.ref it) 1 (rawInt ((i:Int)+1)) >>= _) _ _ s;refine ac (wpAny_setField e l (by simp) ?_);have b:(s.heap.update it (Obj.mapFields (·.setIfInBounds 1 (rawInt ((i:Int)+1))))).IsKeyIter it d (i+1) es.size ep:=⟨_,cS _ e (Obj.isFreed_of_fields (Obj.data_mapFields l _)),(Obj.cls_mapFields ..).trans q,by rw[Obj.data_mapFields l];simp[rawInt]⟩;refine ac (bB ?_);refine ac (wpAny_isOneOf_keyiter (s:={s with heap:=s.heap.update it (Obj.mapFields (·.setIfInBounds 1 (rawInt ((i:Int)+1))))}) b.typeIs ?_);show wpAny _ _ (pure es[i].key) _ _ _;exact ar (ar ⟨_,rfl,ar (p _ b (Heap.SameBut.update ..))⟩)
end
section
variable {it:dY}{es:Array DictEntry}{ep:Nat}
theorem vP {Q:el dZ->d0->Prop}(r:A.handled=none)(e:s.heap.IsKeyIter it d i es.size ep)(l:s.heap.get? d=some o)(h:o.data=.dict es ep)(p:es.size<=i)(t:∀h',Heap.ExtBut it s.heap h'->Q none {s with heap:=h'}):wpAny (model P w) A (pyNext (.ref it)) Q E s:=by
 obtain⟨v,j,x,q⟩:=id e;unfold pyNext;refine ac (wpAny_attempt (dq (name:=Str.ofString "__next__") e.typeIs F.slot_dict_keyiterator_next (cf F.slot_dict_keyiterator_next e.typeIs F.entry_dict_keyiterator_next ?_ (F.args_dict_keyiterator_next_1 _))));refine ac (ar ?_);refine ac ?_;refine ac ?_;first|(refine ac (cH e.typeIs (ar ?_)))|(refine ac (dk e.typeIs (ar ?_)))
 refine ac (wpAny_fieldsOf j q ?_);have g:Builtin.Dict_items.ownsTuple "dict_keyiterator" = false:=by decide +kernel
 simp only[g,ce,if_false];show wpAny _ _ (if (Value.ref d == Value.none)=true then _ else _) _ _ s;rw[av (λz:(Value.ref d == Value.none)=true=>aT z)];refine ac (ar ?_);refine ac (cU l h ?_);rw[av (by simp)];refine ac (ar ?_);refine ac (bL l h ?_);rw[av (by simp)];refine ar ?_;simp only[show ¬((i:Int)<0) by lia,if_false,bA,Array.getElem?_eq_none p];refine ac ?_;first|(refine ac (cH e.typeIs (ar ?_)))|(refine ac (dk e.typeIs (ar ?_)))
 show wpAny _ _ (setField (.ref it) 0 .none >>= _) _ _ s;refine ac (wpAny_setField j q (by simp) ?_);show wpAny _ _ (newExc (.type "StopIteration") [] >>= _) _ _ _;refine ac ?_;simp only[newExc,newTuple];refine ac (dR ?_ (by size_fits));refine ac (m:=firstArgMember _ _) (wpAny_of_eq (a:=Value.none) (by first|rfl|(simp only[firstArgMember];rfl)) ?_);refine dR ?_ (by size_fits);simp only[raiseNew];refine ac (wpAny_handled ?_);rw[show A.in1.handled=none from r];refine ac (ar (wpAny_throw ?_));refine ac (wpAny_isInstance (T:="StopIteration") (b:=true) ⟨_,aM _ rfl,rfl⟩ isSubtype_stop ?_);exact ar (t _ (((Heap.SameBut.update ..).extBut.push _).push _))
end
def FC (a:dY)(o:Obj)(kvs:ef (gM×V)):It:=
 ⟨λi H=>i<kvs.length/\H a=some (.frz o (.dK kvs)),λi H x H'=>H'=H/\∃kv,kvs[i]?=some kv/\x=kV kv.1,λi H=>kvs.length<=i/\H a=some (.frz o (.dK kvs))⟩
def Gb (a:dY)(o:Obj)(kvs:ef (gi×V)):It:=
 ⟨λi H=>i<kvs.length/\H a=some (.frz o (.dN kvs)),λi H x H'=>H'=H/\∃kv,kvs[i]?=some kv/\mf H kv.1 x,λi H=>kvs.length<=i/\H a=some (.frz o (.dN kvs))⟩
theorem ow {h:Heap}{kvs:ef (gM×V)}(ok:lZ P w H h)(e:H a=some (.frz o (.dK kvs))):h.get? a=some o/\(a == sysModules)=false/\o.ExactDict/\∃es ep,o.data=.dict es ep/\es.size=kvs.length/\∀(i:Nat) (kv:gM×V) (hi:i<es.size),kvs[i]?=some kv->fi (kV kv.1) es[i].key:=by
 obtain⟨d,q⟩:=(show h.get? a=some o/\gf P w H h a (.dK kvs) from ok a _ e);obtain⟨z,y,b,r,A,es,ep,l,p,s,C,m,B⟩:=q;rw[d]at l;cases l;have D:es.size=b.length:=by rw[<-m.length];simp
 have E:kvs.length=b.length:=Paired.length r;refine⟨d,y,p,es,ep,s,by lia,λi kv hi t=>?_⟩;have j:b[i]?=some b[i]:=ak (by lia);obtain⟨u,g,x⟩:=Ao r t;rw[j]at g;cases g;have:=(m.get? (e:=es[i]) (k:=b[i].1) (v:=b[i].2) (by simp[hi]) j).1;rw[show kv.1=b[i].1 from x.1];exact vZ this
theorem Bo {h:Heap}(ok:lZ P w H h)(e:H a=some (.frz o (.dN kvs))):h.get? a=some o/\(a == sysModules)=false/\o.ExactDict/\∃es ep,o.data=.dict es ep/\es.size=kvs.length/\∀(i:Nat) (kv:gi×V) (hi:i<es.size),kvs[i]?=some kv->∃x,fi x es[i].key/\mf H kv.1 x:=by
 obtain⟨g,q⟩:=(show h.get? a=some o/\gf P w H h a (.dN kvs) from ok a _ e);obtain⟨z,C,j,r,F,es,ep,p,s,v,m,J⟩:=q;rw[g]at p;cases p;have G:es.size=j.length:=by rw[<-bw,m,ab]
 have I:kvs.length=j.length:=Paired.length r;refine⟨g,C,s,es,ep,v,by lia,λi kv hi y=>?_⟩;obtain⟨u,t,B⟩:=Ao r y;have l:es.toList[i]?=some (uI P w u):=by rw[m,ae,t];rfl
 rw[bI,cr hi]at l;rw[Option.some.inj l];obtain⟨E,d,_⟩:=B;show ∃x,fi x u.2.1/\mf H kv.1 x;revert d;cases kv.1 with|none=>exact λd=>⟨.non,d,rfl⟩|some ks=>exact(by rintro⟨b,A,D⟩;exact⟨.ref b,A,b,rfl,D⟩)
theorem wN (a l:dY)(o:Obj)(x:Array DictEntry)(ep:Nat)(kvs:ef (gM×V))(hd:o.data=.dict x ep)(hl:x.size=kvs.length):qJ P w K tg (FC a o kvs) [l] l (λi h=>h.IsKeyIter l a i x.size ep) where
 mem:=by simp
 obj:=λi h d b j=>by
  obtain⟨Q,e,c,J⟩:=d;rw[aj.mp j];exact⟨Q,e,λv z=>by rw[J]at z;cases z⟩
 keep:=λi h r d k=>d.at λo e=>k l (by simp) o e
 item:=by
  intro X M D C S i g s σ H E I t d ⟨R,y⟩;subst M D C;obtain⟨A,B,f2,N,L,G⟩:=t l (by simp);obtain⟨F,hS,hx,Z,U,q,aa,hr⟩:=ow I.hok y;rw[hd]at q;cases q;have m:i<x.size:=by lia
  have O:kvs[i]?=some kvs[i]:=ak R;refine oN d F hd m λr p sb=>?_;have T:eX X g σ H {s with heap:=r}:=I.turned (t':=s.toks) (λb o j e=>(sb.2 b j).trans e) A B N L G;obtain⟨Q,e,c,J⟩:=id p;exact⟨_,rfl,rg (s:={s with heap:=r}) e c J (by decide) ⟨kV kvs[i].1,H,T,hr i _ m O,⟨rfl,_,O,rfl⟩,p,λb j=>(t b j).1⟩⟩
 done:=by
  intro X M D C S i g s σ H E I t d ⟨R,y⟩;subst M D C;obtain⟨A,B,f2,N,L,G⟩:=t l (by simp);obtain⟨F,_⟩:=ow I.hok y;exact vP (I.ok.hd S) d F hd (by lia) λr Y=>⟨rfl,I.turned (t':=s.toks) (λb o j e=>Y b o j e) A B N L G⟩
 self:=λ_ _ _ _ _ d h=>wpAny_pyIter_keyiter d h
theorem B8 (a l:dY)(o:Obj)(y:Array DictEntry)(ep:Nat)(kvs:ef (gi×V))(hd:o.data=.dict y ep)(hl:y.size=kvs.length):qJ P w K tg (Gb a o kvs) [l] l (λi h=>h.IsKeyIter l a i y.size ep) where
 mem:=by simp
 obj:=λi h d b j=>by
  obtain⟨R,e,c,L⟩:=d;rw[aj.mp j];exact⟨R,e,λv z=>by rw[L]at z;cases z⟩
 keep:=λi h r d k=>d.at λo e=>k l (by simp) o e
 item:=by
  intro X N F D T i g s σ H E I t d ⟨S,A⟩;subst N F D;obtain⟨B,C,f2,O,M,J⟩:=t l (by simp);obtain⟨G,hS,hx,aa,Z,q,ad,hr⟩:=Bo I.hok A;rw[hd]at q;cases q;have m:i<y.size:=by lia
  have Q:kvs[i]?=some kvs[i]:=ak S;obtain⟨x,rx,U⟩:=hr i _ m Q;refine oN d G hd m λr p sb=>?_;have Y:eX X g σ H {s with heap:=r}:=I.turned (t':=s.toks) (λb o j e=>(sb.2 b j).trans e) B C O M J;obtain⟨R,e,c,L⟩:=id p;exact⟨_,rfl,rg (s:={s with heap:=r}) e c L (by decide) ⟨x,H,Y,rx,⟨rfl,_,Q,U⟩,p,λb j=>(t b j).1⟩⟩
 done:=by
  intro X N F D T i g s σ H E I t d ⟨S,A⟩;subst N F D;obtain⟨B,C,f2,O,M,J⟩:=t l (by simp);obtain⟨G,_⟩:=Bo I.hok A;exact vP (I.ok.hd T) d G hd (by lia) λr eb=>⟨rfl,I.turned (t':=s.toks) (λb o j e=>eb b o j e) B C O M J⟩
 self:=λ_ _ _ _ _ d h=>wpAny_pyIter_keyiter d h
section
variable {l:Expr}{tl:TE}
inductive JS (R:It->Hp->Prop)(x:V)(H1:Hp):Prop
 |mk (a o kvs:_)(_:x=.ref a)(_:H1 a=some (.frz o (.dK kvs)))(_:R (FC a o kvs) H1)
def Kq (tl:TE):TI:=λσ H R=>tl σ H λx H1=>JS R x H1
def An (w:PE X l tl):PI X tg l (Kq tl):=by intro d s σ H R I h;refine gm (w d s σ H _ I h) ?_;rintro v j ⟨x,t,g,y,a,o,i,p,F,q⟩;subst p;cases (show v=Value.ref a from y);obtain⟨r,E,B,z,D,m,C,_⟩:=ow g.hok F;refine oR r B m E ⟨j.heap.objs.size,[j.heap.objs.size],_,_,t,rfl,g.kept (t':=j.toks) λb o e=>az _ e,wN a _ o z D i m C,⟨_,aM _ rfl,rfl,rfl⟩,λb A=>?_,q⟩;rw[aj.mp A];exact g.KU (am _) (g.hok.fresh (am _))
end
theorem v5 {J:It}{n:Nat}(a:Nat->St->Hp->Prop)(o:a 0 σ H)(h:∀i σ H,i<n->a i σ H->J.go i H)(e:∀σ H,a n σ H->J.stop n H)(l:∀i x σ H H',i<n->J.yld i H x H'->a i σ H->g x σ H' λσ2 H2=>tb {D with nx:=a (i+1),ct:=a (i+1),bk:=D.nx} σ2 H2)(d:∀σ H,a n σ H->D.nx σ H):∃W:Nat->Nat->St->Hp->Prop,(∃m,W 0 m σ H)/\∀i m σ H,W i m σ H->(J.stop i H/\D.nx σ H)\/(J.go i H/\∃N:St->Hp->Prop,(∀σ' H',N σ' H'->∃m',m'<m/\W (i+1) m' σ' H')/\∀x H',J.yld i H x H'->g x σ H' λσ2 H2=>tb {D with nx:=N,ct:=N,bk:=D.nx} σ2 H2):=by refine⟨λi m σ H=>m=n-i/\i<=n/\a i σ H,⟨n,by simp,br _,o⟩,?_⟩;rintro i m σ H ⟨rfl,q,p⟩;rcases cO i n with b|hge;exact .inr ⟨h i σ H b p,a (i+1),λσ' H' j=>⟨n-(i+1),by lia,rfl,b,j⟩,λx H' y=>l i x σ H H' b y p⟩;obtain rfl:i=n:=Nat.le_antisymm q hge;exact .inl ⟨e σ H p,d σ H p⟩
def tz {kvs:ef (gM×V)}(Pv:Nat->St->Hp->Prop)(h0:Pv 0 σ H)(hl:∀i σ H,i<=kvs.length->Pv i σ H->H a=some (.frz o (.dK kvs)))(hs:∀i kv σ H,kvs[i]?=some kv->Pv i σ H->g (kV kv.1) σ H λσ2 H2=>tb {D with nx:=Pv (i+1),ct:=Pv (i+1),bk:=D.nx} σ2 H2)(hd:∀σ H,Pv kvs.length σ H->D.nx σ H):∃W:Nat->Nat->St->Hp->Prop,(∃m,W 0 m σ H)/\∀i m σ H,W i m σ H->((FC a o kvs).stop i H/\D.nx σ H)\/((FC a o kvs).go i H/\∃N:St->Hp->Prop,(∀σ' H',N σ' H'->∃m',m'<m/\W (i+1) m' σ' H')/\∀x H',(FC a o kvs).yld i H x H'->g x σ H' λσ2 H2=>tb {D with nx:=N,ct:=N,bk:=D.nx} σ2 H2):=
 v5 Pv h0 (λi σ H hi p=>⟨hi,hl i σ H (cA hi) p⟩) (λσ H p=>⟨am _,hl _ σ H (am _) p⟩) (λi x σ H H' hi y p=>by
  obtain⟨rfl,kv,hk,rfl⟩:=y
  exact hs i kv σ _ hk p) hd
def v6 (Pv:Nat->St->Hp->Prop)(h0:Pv 0 σ H)(hl:∀i σ H,i<=kvs.length->Pv i σ H->H a=some (.frz o (.dN kvs)))(hs:∀i kv x σ H,kvs[i]?=some kv->mf H kv.1 x->Pv i σ H->g x σ H λσ2 H2=>tb {D with nx:=Pv (i+1),ct:=Pv (i+1),bk:=D.nx} σ2 H2)(hd:∀σ H,Pv kvs.length σ H->D.nx σ H):∃W:Nat->Nat->St->Hp->Prop,(∃m,W 0 m σ H)/\∀i m σ H,W i m σ H->((Gb a o kvs).stop i H/\D.nx σ H)\/((Gb a o kvs).go i H/\∃N:St->Hp->Prop,(∀σ' H',N σ' H'->∃m',m'<m/\W (i+1) m' σ' H')/\∀x H',(Gb a o kvs).yld i H x H'->g x σ H' λσ2 H2=>tb {D with nx:=N,ct:=N,bk:=D.nx} σ2 H2):=
 v5 Pv h0 (λi σ H hi p=>⟨hi,hl i σ H (cA hi) p⟩) (λσ H p=>⟨am _,hl _ σ H (am _) p⟩) (λi x σ H H' hi y p=>by
  obtain⟨rfl,kv,hk,kx⟩:=y
  exact hs i kv x σ _ hk kx p) hd
theorem xA {J:It}{n:Nat}{tt:TT}{te:TE}{σ':St}{H1:Hp}{Q:VK}(a:dY->Nat->ef V->Hp->Prop)(q:∀D,H1 D=none->a D 0 [] (upd H1 D (.lst [])))(o:∀D i ys H,i<=n->a D i ys H->(i<n->J.go i H)/\(i=n->J.stop i H)/\H D=some (.lst ys)/\ys.length<sizeLine)(r:∀D i x ys H H2,i<n->J.yld i H x H2->a D i ys H->g x σ' H2 λσ2 H3=>tt σ2 H3 λb H4=>if b=true then te σ2 H4 λy H5=>H5 D=some (.lst ys)/\a D (i+1) (ys++[y]) (upd H5 D (.lst (ys++[y]))) else a D (i+1) ys H4)(j:∀D ys H,a D n ys H->Q (.ref D) H):qw J g tt te σ' H1 Q:=by intro D s;refine⟨λi m ys H=>m=n-i/\i<=n/\a D i ys H,⟨n,by simp,br _,q D s⟩,?_⟩;rintro i m ys H ⟨rfl,e,p⟩;obtain⟨l,v,z,w⟩:=o D i ys H e p;refine⟨z,w,?_⟩;rcases cO i n with d|hge;exact .inr ⟨l d,a D (i+1),λA h t=>⟨n-(i+1),by lia,rfl,d,t⟩,λx h y=>r D i x ys H h d y p⟩;obtain rfl:i=n:=Nat.le_antisymm e hge;exact .inl ⟨v rfl,j D ys H p⟩
def Ga (K:W.Frag)(a:dY)(xs:ef V):It:=
 ⟨λi H=>i<xs.length/\ff K H a xs,λi H x H'=>H'=H/\xs[xs.length-1-i]?=some x,λi _=>xs.length<=i⟩
def zw (a q:dY)(xs:ef V):qJ P w K tg (Ga K a xs) [q] q (λi h=>i<=xs.length/\h.IsRevIter q a ((xs.length:Int)-1-(i:Int))) where
 mem:=by simp
 obj:=λi h g b l=>by
  obtain⟨_,N,e,c,G⟩:=g;rw[aj.mp l];exact⟨N,e,λv z=>by rw[G]at z;cases z⟩
 keep:=λi h r g k=>⟨g.1,g.2.at λo e=>k q (by simp) o e⟩
 item:=by
  intro X L D C Q i j s σ H E I t g ⟨hi,y⟩;subst L D C;obtain⟨A,B,f2,M,J,F⟩:=t q (by simp);obtain⟨T,U,p,hz⟩:=I.list y;have O:xs[xs.length-1-i]?=some xs[xs.length-1-i]:=ak (by omega);obtain⟨u,Z,ru⟩:=U.get O;have d:=g.2;rw[show(xs.length:Int)-1-(i:Int)=((xs.length-1-i:Nat):Int) by omega]at d;refine wpAny_pyNext_rev_item d p.isList (x:=u) (by simpa using Z) λr m sb=>?_;rw[show((xs.length-1-i:Nat):Int)-1=(xs.length:Int)-1-((i+1:Nat):Int) by omega]at m;have R:eX X j σ H {s with heap:=r}:=I.turned (t':=s.toks) (λb o l e=>(sb.2 b l).trans e) A B M J F;obtain⟨N,e,c,G⟩:=id m;exact⟨_,rfl,rg (s:={s with heap:=r}) e c G (by decide) ⟨_,H,R,ru,⟨rfl,O⟩,⟨hi,m⟩,λb l=>(t b l).1⟩⟩
 done:=by
  intro X L D C Q i j s σ H E I t g y;subst L D C;obtain⟨A,B,f2,M,J,F⟩:=t q (by simp);have d:=g.2;have h1:=g.1;have S:xs.length<=i:=y;rw[show(xs.length:Int)-1-(i:Int)=-1 by omega]at d;exact wpAny_pyNext_rev_end (I.ok.hd Q) d λr Y=>⟨rfl,I.turned (t':=s.toks) (λb o l e=>Y b o l e) A B M J F⟩
 self:=λ_ _ _ _ _ g h=>wpAny_pyIter_revIter g.2 h
def Ju (K:W.Frag)(tl:TE):TI:=λσ H R=>tl σ H λx H1=>∃a xs,x=.ref a/\ff K H1 a xs/\R (Ga K a xs) H1
def EC {l:Expr}{tl:TE}{p pos:Pos}(C:Gl X "reversed")(D:X.mg "reversed" = none)(w:PE X l tl)(hs:autoParam (starEach [l] X.env=[(false,eval l X.env)]) gF._auto_1):PI X tg (.Call (.Name "reversed" p) [l] [] pos) (Ju X.K tl):=by
 intro i s σ H R I h;refine bH (jP I C D PyProof.Rows.Boot.«reversed» ?_ (by decide) (by decide));refine PyProof.Rows.callWith_type1 ?_ hs rfl;have E:=(eo w eA hs) pos i s σ H (λt j=>match t with|[x]=>(∃a xs,x=.ref a/\ff X.K j a xs/\R (Ga X.K a xs) j)|_=>False) I h;refine gm E ?_;rintro G s1 ⟨t,j,m,r,v⟩
 match t,r,v with
 |[x],r,⟨a,xs,e2,hS,q⟩=>subst e2;obtain⟨u,rfl,y⟩:=jt r;cases (show u=Value.ref a from y);obtain⟨d,F,z,J⟩:=m.list hS;have A:d.length=xs.length:=F.length.symm;refine call_reversed_list z.isList ?_;have g:(s1.heap.push (revObj a ((d.toArray.size:Int)-1))).get? s1.heap.objs.size=some (revObj a ((d.toArray.size:Int)-1)):=aM _ rfl;refine wpAny_pyIter_revIter (s:={s1 with heap:=s1.heap.push (revObj a ((d.toArray.size:Int)-1))}) ⟨_,g,rfl,rfl⟩ ?_;refine⟨s1.heap.objs.size,[s1.heap.objs.size],_,_,j,rfl,m.kept (t':=s1.toks) λb o e=>az _ e,zw a _ xs,⟨br _,_,g,rfl,?_⟩,λb B=>?_,q⟩;show(revObj a ((d.toArray.size:Int)-1)).data=_;rw[aN,A];simp[revObj];rw[aj.mp B];exact m.KU (am _) (m.hok.fresh (am _))
def Dn {xs:ef V}(Pv:Nat->St->Hp->Prop)(h0:Pv 0 σ H)(hl:∀i σ H,i<xs.length->Pv i σ H->ff K H a xs)(hs:∀i x σ H,i<xs.length->xs[xs.length-1-i]?=some x->Pv i σ H->g x σ H λσ2 H2=>tb {D with nx:=Pv (i+1),ct:=Pv (i+1),bk:=D.nx} σ2 H2)(hd:∀σ H,Pv xs.length σ H->D.nx σ H):∃W:Nat->Nat->St->Hp->Prop,(∃m,W 0 m σ H)/\∀i m σ H,W i m σ H->((Ga K a xs).stop i H/\D.nx σ H)\/((Ga K a xs).go i H/\∃N:St->Hp->Prop,(∀σ' H',N σ' H'->∃m',m'<m/\W (i+1) m' σ' H')/\∀x H',(Ga K a xs).yld i H x H'->g x σ H' λσ2 H2=>tb {D with nx:=N,ct:=N,bk:=D.nx} σ2 H2):=
 v5 Pv h0 (λi σ H hi p=>⟨hi,hl i σ H hi p⟩) (λσ H p=>am _) (λi x σ H H' hi y p=>by
  obtain⟨rfl,hk⟩:=y
  exact hs i x σ _ hi hk p) hd
theorem lI (ns:ef Int):∀j,j<=ns.length->preSum (λi=>ns.getD i 0) j=(ns.take j).sum
 |0,_=>by simp[preSum]
 |j+1,h=>by
  have e:=lI ns j (by omega);have h2:ns.take (j+1)=ns.take j++[ns[j]]:=by rw[bc,ak (show j<ns.length by omega)];rfl
  rw[preSum,e,h2,List.sum_append,bi,ak (show j<ns.length by omega)];simp
def y6 (hc:X.calm=true):jC X (.builtin "sum") (λxs H Q=>∃(a:dY) (ns:ef Int),xs=[.ref a]/\ff X.K H a (ns.map V.int)/\(∀j,j<ns.length->0<=ns.getD j 0)/\ns.sum<2^63/\Q (.int ns.sum) H):=by
 intro R s σ H xs us Q I r h;obtain⟨a,ns,rfl,hS,N,aa,q⟩:=h;obtain⟨u,rfl,U⟩:=jt r;cases (show u=Value.ref a from U);obtain⟨d,P,p,hz⟩:=I.list hS;have m:d.length=ns.length:=by rw[<-P.length,ab]
 have g:∀(l:ef Int),(∀x∈l,0<=x)->0<=l.sum:=λl=>by induction l with|nil=>intro _;simp|cons x l ih=>intro z;rw[List.sum_cons];have:=z x (by simp);have:=ih λy C=>z y (by simp[C]);omega
 have S:∀x∈ns,0<=x:=λx z=>by obtain⟨j,D,e⟩:=List.mem_iff_getElem.mp z;have:=N j D;rw[bi,ak D]at this;rw[<-e];exact this
 have M:∀j,(ns.take j).sum<=ns.sum:=λj=>by
  have:ns.sum=(ns.take j).sum+(ns.drop j).sum:=by rw[<-List.sum_append,List.take_append_drop]
  have:=g (ns.drop j) λx z=>S x (List.mem_of_mem_drop z);omega
 refine call_sum_walk (wpAny_pyIter_list p.isList ?_);have E:a≠s.heap.objs.size:=by obtain⟨o,L,_⟩:=p.isList;exact aW (aU L)
 have J:a<s.heap.objs.size:=by obtain⟨o,L,_⟩:=p.isList;exact aU L
 refine⟨s.heap.objs.size,_,_,d.toArray.size,_,_,λi=>ns.getD i 0,rfl,Walks.list (prog:=X.prog) (w:=X.w) (A:=X.A.in1) (I.ok.hd hc) _ a E d.toArray,⟨⟨_,aM _ rfl,rfl,rfl⟩,p.isList.push _⟩,λb O=>?_,λi v hv=>?_,λj D=>?_,λh' Z t' Y=>?_⟩;rw[dQ];simp only[ao,aR,or_false]at O;rcases O with rfl|rfl;exact dh _;exact dA J;have G:d[i]?=some v:=by simpa using hv
 obtain⟨y,C,ry⟩:=Ao (F:=λu x=>fi x u) (as:=d) (bs:=ns.map V.int) (by
  have:∀{as:ef V} {bs:ef dZ},gj as bs->Paired (λu x=>fi x u) bs as:=λq=>by induction q with|nil=>exact .nil|cons r _ ih=>exact .cons r ih
  exact this P) G
 rw[ae]at C;obtain⟨n,hn,rfl⟩:=ax.mp C;show ∃t,v=Value.int (ns.getD i 0) t;rw[bi,hn];exact ry;have B:j<ns.length:=by simpa [m] using D
 have h1:=M (j+1);have h3:=g (ns.take j) λx z=>S x (dG z);have h5:(ns.take (j+1)).sum=(ns.take j).sum+ns.getD j 0:=by
  have T:ns.take (j+1)=ns.take j++[ns[j]]:=by rw[bc,ak B];rfl
  rw[T,List.sum_append,bi,ak B];simp
 have h4:=N j B;rw[lI ns (j+1) (by omega)];dsimp only;unfold InLong;omega;refine⟨.int ns.sum,H,I.kept (t':=Z) λb o e=>?_,⟨t',?_⟩,q⟩;exact Y b o (by simpa using aW (aU e)) (az _ e);rw[aN,m,lI ns ns.length (am _),aK]
theorem nR {α:Type} [BEq α] [LawfulBEq α]:∀{l:ef α} {k:α} {m:Nat} (hm:m<l.length),m<l.idxOf k->¬l[m]=k
 |a::l,k,0,_,h,e=>by have e':a=k:=e;rw[e',List.idxOf_cons_self]at h;exact absurd h (cE _)
 |a::l,k,m+1,hm,h,e=>by by_cases ha:a=k;rw[ha,List.idxOf_cons_self]at h;exact absurd h (ca _);rw[List.idxOf_cons,beq_false_of_ne ha]at h;exact nR (l:=l) (by simpa using hm) (Nat.lt_of_succ_lt_succ h) e
def yD:HG X "list.index" (λx vs H Q=>∃(l:dY) (ss:ef Str) (k:Str),x=.ref l/\vs=[.str k]/\H l=some (.lst (ss.map V.str))/\k∈ss/\Q (.int (ss.idxOf k:Nat)) H):=by
 intro C s σ H x vs v P Q I L E h;obtain⟨l,ss,k,rfl,rfl,K,D,q⟩:=h;cases (show v=Value.ref l from L);obtain⟨u,rfl,t,rfl⟩:=jt E;obtain⟨z,b,n,r,e⟩:=(show gf X.prog X.w H s.heap l (.lst (ss.map V.str)) from I.hok l _ K);have o:b.length=ss.length:=by rw[<-r.length,ab]
 have O:ss.length<=16777216:=by rw[ab,bt]at z;exact z
 have d:∀(m:Nat) (i:m<b.length),∃g,b[m]=.str (ss[m]'(by omega)) g:=λm i=>by
  have M:(ss.map V.str)[m]?=some (V.str (ss[m]'(by omega))):=by rw[ae,ak (by omega)];rfl
  obtain⟨w,B,g,e⟩:=r.get M;rw[ak i]at B;exact⟨g,by rw[Option.some.inj B];exact e⟩
 have N:ss.idxOf k<ss.length:=bF.mpr D;refine call_meets PySem.F.slot_list_index ⟨_,e,rfl⟩ PySem.F.entry_list_index (PySem.F.args_list_index_2 _ _)
  (SeqAt.list_indexAt l b.toArray n none #[] (.str k t) (λv=>match v with|.str a _=>a == k|_=>false) (ss.idxOf k) (by simpa [o] using N) (by omega) ?_ ?_) ⟨e,λy J=>?_,⟨.int (ss.idxOf k:Nat),H,I.tok _,⟨_,rfl⟩,q⟩⟩
 obtain⟨g,j⟩:=d (ss.idxOf k) (by omega);show(match b[ss.idxOf k]'(by omega) with|.str a _=>a == k|_=>false)=true;rw[j];simp;intro m i p;have A:m<b.length:=by simpa using i
 obtain⟨g,j⟩:=d m A;show(match b[m] with|.str a _=>a == k|_=>false)=false;rw[j];have:¬ss[m]'(by omega)=k:=nR (by omega) p;simpa using this;obtain⟨m,i,G⟩:=List.mem_iff_getElem.mp (show y∈b by simpa using J);obtain⟨g,j⟩:=d m i;rw[<-G,j];exact SeqAt.EqAt.str_str _ _ _ _
def yE:HG X "list.index" (λx vs H Q=>∃(l:dY) (bs:ef Bool),x=.ref l/\vs=[.bl true]/\H l=some (.lst (bs.map V.bl))/\true∈bs/\Q (.int (bs.idxOf true:Nat)) H):=by
 intro A s σ H x vs v O Q I J C h;obtain⟨l,d,rfl,rfl,G,B,q⟩:=h;cases (show v=Value.ref l from J);obtain⟨u,rfl,M⟩:=jt C;cases (show u=Value.bool true from M);obtain⟨z,b,n,r,e⟩:=(show gf X.prog X.w H s.heap l (.lst (d.map V.bl)) from I.hok l _ G);have j:b.length=d.length:=by rw[<-r.length,ab]
 have N:d.length<=16777216:=by rw[ab,bt]at z;exact z
 have g:∀(m:Nat) (i:m<b.length),b[m]=.bool (d[m]'(by omega)):=λm i=>by
  have K:(d.map V.bl)[m]?=some (V.bl (d[m]'(by omega))):=by rw[ae,ak (by omega)];rfl
  obtain⟨w,t,e⟩:=r.get K;rw[ak i]at t;rw[Option.some.inj t];exact e
 have L:d.idxOf true<d.length:=bF.mpr B;refine call_meets PySem.F.slot_list_index ⟨_,e,rfl⟩ PySem.F.entry_list_index (PySem.F.args_list_index_2 _ _)
  (SeqAt.list_indexAt l b.toArray n none #[] (.bool true) (λv=>match v with|.bool a=>a == true|_=>false) (d.idxOf true) (by simpa [j] using L) (by omega) ?_ ?_) ⟨e,λy E=>?_,⟨.int (d.idxOf true:Nat),H,I.tok _,⟨_,rfl⟩,q⟩⟩
 show(match b[d.idxOf true]'(by omega) with|.bool a=>a == true|_=>false)=true;rw[g (d.idxOf true) (by omega)];simp;intro m i o;have p:m<b.length:=by simpa using i
 show(match b[m] with|.bool a=>a == true|_=>false)=false;rw[g m p];have:¬d[m]'(by omega)=true:=nR (by omega) o;simpa using this;obtain⟨m,i,D⟩:=List.mem_iff_getElem.mp (show y∈b by simpa using E);rw[<-D,g m i];exact SeqAt.EqAt.bool_bool _ _
inductive HW (x:V)(y:V)(H:Hp)(Q:VK):Prop
 |mk (i j:_)(_:x=.int i)(_:y=.int j)(_:Q (.int (Builtin.bitOr i j)) H)
def GS:V->V->Hp->VK->Prop:=λx y H Q=>HW x y H Q
inductive FP (x:V)(y:V)(H:Hp)(Q:VK):Prop
 |mk (i j:_)(_:x=.int i)(_:y=.int j)(_:Q (.int (Builtin.bitAnd i j)) H)
def GV:V->V->Hp->VK->Prop:=λx y H Q=>FP x y H Q
def Bi:FQ X .BitOr GS:=by rintro b s σ H x y u v Q I d e ⟨i,j,rfl,rfl,q⟩;obtain⟨t,rfl⟩:=(show ∃t,u=Value.int i t from d);obtain⟨a,rfl⟩:=(show ∃a,v=Value.int j a from e);exact PyProof.Rows.ior_int ⟨.int _,H,I.tok _,⟨_,rfl⟩,q⟩
def uA:HE X .BitOr GS:=λpins s σ H x y u v Q I rx ry h=>Bi pins s σ H x y u v Q I rx ry h
def E8:HE X .BitAnd GV:=by rintro b s σ H x y u v Q I d e ⟨i,j,rfl,rfl,q⟩;obtain⟨t,rfl⟩:=(show ∃t,u=Value.int i t from d);obtain⟨a,rfl⟩:=(show ∃a,v=Value.int j a from e);exact PyProof.Rows.iand_int ⟨.int _,H,I.tok _,⟨_,rfl⟩,q⟩
section
variable {xs:ef (gi×dZ×dZ)}{k:gi}{u:dZ}
theorem EO {v:dZ}(r:A.units<cLine)(q:oE P w s.heap k u)(D:oz P w s.heap d xs)(hz:xs.length<=sizeLine)(I:∀x tk,l9 xs k=some x->Q x {s with toks:=tk})(F:l9 xs k=none->∀h' tk,oz P w h' d (qC xs k u v)->Heap.SameBut d s.heap h'->Q v {s with heap:=h',toks:=tk}):wpAny (model P w) A (dictSetDefault d u v) Q E s:=by
 obtain⟨o,G,H,i,K,g,m,y,p⟩:=D;have L:G.size=xs.length:=by rw[<-bw,m,ab]
 unfold dictSetDefault;try with_reducible refine bB ?_
 refine ac (vR r q λtk=>ac (vS (s:={s with toks:=tk}) r q i g (tD m y p) (λh=>?_) (λj B=>?_)));have hp:qC xs k u v=xs++[(k,u,v)]:=by unfold qC;rw[lY h,av (by decide)]
 refine ac (cb (ac (wpAny_updateDictKeys (hz:=by lia) (s:={s with toks:=tk}) i g (ar (F (lY h) _ tk ?_ (Heap.SameBut.update ..))))));refine⟨_,_,H+1,cS _ i (Obj.isFreed_of_dict (Obj.data_mapDictKeys g _)),K.mapDictKeys _,Obj.data_mapDictKeys g _,?_,λx l=>?_,?_⟩;rw[hp];simp[m,uI];rw[hp]at l;rcases aA.mp l with z|z;exact(y x z).keep i g (Heap.SameBut.update ..);rw[aj.mp z];exact q.keep i g (Heap.SameBut.update ..);rw[hp,aG,bN];refine⟨p,by simp,λa C b t z=>h ?_⟩;rw[aH,cQ,aj]at t;rw[z,t]at C;exact C;rw[ae]at B;obtain⟨x,l,e⟩:=ax.mp B;obtain⟨J,M⟩:=x;obtain rfl:k=J:=e.symm;refine ac (cU (s:={s with toks:=tk}) i g ?_);rw[<-bI,m,ae,l];exact ac (cb (ar (I _ tk (oU p l))))
end
section
variable {y v:V}{u r:dZ}{o:el V}
def Dq {z:V}(m:A.units+1<cLine)(I:eX X pins σ H s)(g:hU H a y o)(p:fi y u)(q:fi z r)(h:∀w' s',eX X pins σ H s'->fi (o.getD z) w'->Q w' s'):wpAny (model X.prog X.w) A (call (.builtin "dict.get") [.ref a,u,r]) Q E s:=by obtain⟨d,l⟩:=oV I g;refine cf PySem.F.slot_dict_get d PySem.F.entry_dict_get ?_ (PySem.F.args_dict_get_3 _ _ _);unfold Builtin.«dict.get»;refine ac ?_;unfold Builtin.Dict.keyAndDefault;refine ac (cM d ?_);show wpAny _ _ (pure (a,u,some r)) _ _ s;refine ar ?_;refine ac (v9 m I g p λt s' j i=>?_);cases o with|some x=>obtain⟨w',rfl,b⟩:=jG.some_of i;exact ar ⟨w',rfl,h w' s' j b⟩|none=>have e:t=none:=jG.none_of i;subst e;refine ac ?_;unfold Builtin.Dict.missed;dsimp only;rw[av (by rw[l];exact aT)];exact ar (ar ⟨r,rfl,h r s' j q⟩)
theorem Dp {z:V}{k:gi}(N:A.units+1<cLine)(I:eX X pins σ H s)(e:H a=some (.dN kvs))(i:mf H k y)(hl:kvs.length<sizeLine)(p:fi y u)(P:fi z r)(G:∀v w' s',fc kvs k=some v->eX X pins σ H s'->fi v w'->Q w' s')(B:fc kvs k=none->∀s',eX X pins σ (upd H a (.dN (fJ kvs k z))) s'->Q r s'):wpAny (model X.prog X.w) A (call (.builtin "dict.setdefault") [.ref a,u,r]) Q E s:=by
 obtain⟨Y,g,L,rel,t⟩:=uJ I.hok (.inl e);have J:L.length<=sizeLine:=by rw[<-Paired.length rel];exact Y
 have hp:(fJ kvs k z).length<=sizeLine:=by have:=ge kvs k z;lia
 have j:=t.typeIs;refine cf PySem.F.slot_dict_setdefault j PySem.F.entry_dict_setdefault ?_ (PySem.F.args_dict_setdefault_3 _ _ _);unfold Builtin.«dict.setdefault»;refine ac ?_;unfold Builtin.Dict.keyAndDefault;refine ac (cM j ?_);show wpAny _ _ (pure (a,u,some r)) _ _ s;refine ar ?_;show wpAny _ _ (if (a == sysModules)=true then _ else (dictSetDefault a u r >>= _)) _ _ s;rw[av (by rw[g];exact aT)];have q:=rel.val k;refine ac (EO N (oQ I.hok (i.rel p)) t J (λx D R=>?_) λS h' D d O=>?_);rw[R]at q;cases l:fc kvs k with|none=>rw[l]at q;exact q.elim|some v=>rw[l]at q;exact ar ⟨x,rfl,G v x _ l (I.tok _) q⟩
 rw[S]at q;have l:fc kvs k=none:=by cases l:fc kvs k with|none=>rfl|some x=>rw[l]at q;exact q.elim
 refine ar ⟨r,rfl,B l _ ?_⟩;obtain⟨m,M,T,o,C,Z,K,_,U⟩:=d;have keep:∀c b,H c=some (.tup b)->upd H a (.dN (fJ kvs k z)) c=some (.tup b):=λc b h=>by rw[eB (fF h e (λz=>nomatch z))];exact h
 exact j7 I (by rw[e];exact True.intro) O ⟨m,o⟩ ⟨hp,g,_,Paired.KG (rel.put k (i.rel p) P) λ_ _ q=>⟨q.1,q.2.1.keeps keep,q.2.2⟩,m,M,T,o,C,Z,K,U⟩
end
def FO (H:Hp)(a:dY):Prop:=∃kvs,Rd H a (.dN kvs)
def xm (I:eX X pins σ H s)(d:FO H a):s.TypeIs (.ref a) "dict"/\(∀b,Value.ref a=.ref b->∃ob,s.heap.get? b=some ob/\ob.dict=none):=by obtain⟨h,e⟩:=d;obtain⟨_,l,m,_,g⟩:=uJ I.hok e;refine⟨g.typeIs,λb q=>?_⟩;cases q;obtain⟨ob,_,_,j,i,_⟩:=g;exact⟨ob,j,i.2.1⟩
inductive BT (ty:TE)(tx:TE)(σ:St)(Q:VK)(x:V)(H1:Hp):Prop
 |mk (a:_)(_:x=.ref a)(_:FO H1 a)(_:ty σ H1 λy H2=>tx σ H2 λz H3=>∃o,hU H3 a y o/\Q (o.getD z) H3)
def Cc (td ty tx:TE):TE:=λσ H Q=>td σ H λx H1=>BT ty tx σ Q x H1
inductive BR (ty:TE)(tx:TE)(σ:St)(Q:VK)(x:V)(H1:Hp):Prop
 |mk (a:_)(_:x=.ref a)(_:FO H1 a)(_:ty σ H1 λy H2=>tx σ H2 λz H3=>∃kvs k,H3 a=some (.dN kvs)/\mf H3 k y/\kvs.length<sizeLine/\(∀v,fc kvs k=some v->Q v H3)/\(fc kvs k=none->Q z (upd H3 a (.dN (fJ kvs k z)))))
def Ca (td ty tx:TE):TE:=λσ H Q=>td σ H λx H1=>BR ty tx σ Q x H1
inductive DG (tv:TE)(rd:V->V->Hp->VK->Prop)(D:mN)(σ:St)(x:V)(y:V)(H2:Hp):Prop
 |mk (a v:_)(_:x=.ref a)(_:hU H2 a y (some v))(_:tv σ H2 λy2 H3=>rd v y2 H3 λz H4=>∃H5,lS H4 a y z H5/\D.nx σ H5)
def Ex (td ty tv:TE)(rd:V->V->Hp->VK->Prop):TS:=λD σ H=>td σ H λx H1=>ty σ H1 λy H2=>DG tv rd D σ x y H2
section
variable {o e f i value:Expr}{apos cpos pos tpos:Pos}{td ty tx tv:TE}
def qW (L:X.A.units+1<cLine)(E:PE X o td)(R:PE X e ty)(D:PE X f tx)(m:M2 X o "get" apos e f cpos):PE X (.Call (.Attribute o "get" apos) [e,f] [] cpos) (Cc td ty tx):=by intro b s σ H Q I h;refine dz m.base m.few m.line PySem.F.plainAttrs_dict PySem.F.slot_dict_get PySem.F.type_dict_get (gm (E b s σ H _ I h) ?_);rintro u K ⟨x,J,j,M,a,l,d,w⟩;subst l;obtain rfl:u=Value.ref a:=M;obtain⟨G,p⟩:=xm j d;refine⟨G,p,?_⟩;rw[m.trees];refine Calls.callWith_builtin rfl (Calls.evalArgs_plain (Calls.spliced_cons (gm (R b K σ J _ j w) λiv v ⟨y,P,C,N,S⟩=>Calls.spliced_cons (gm (D b v σ P _ C S) λfv Z ⟨z,r,t,O,Y,g,B⟩=>Calls.spliced_nil ?_))));exact Dq L t g N O λU T q i=>⟨_,r,q,i,B⟩
def x9 (T:X.A.units+1<cLine)(M:PE X o td)(he:PE X e ty)(L:PE X f tx)(m:M2 X o "setdefault" apos e f cpos):PE X (.Call (.Attribute o "setdefault" apos) [e,f] [] cpos) (Ca td ty tx):=by intro b s σ H Q I h;refine dz m.base m.few m.line PySem.F.plainAttrs_dict PySem.F.slot_dict_setdefault PySem.F.type_dict_setdefault (gm (M b s σ H _ I h) ?_);rintro u S ⟨x,O,i,U,a,p,d,E⟩;subst p;obtain rfl:u=Value.ref a:=U;obtain⟨N,q⟩:=xm i d;refine⟨N,q,?_⟩;rw[m.trees];refine Calls.callWith_builtin rfl (Calls.evalArgs_plain (Calls.spliced_cons (gm (he b S σ O _ i E) λiv D ⟨y,Z,J,Y,q2⟩=>Calls.spliced_cons (gm (L b D σ Z _ J q2) λfv s3 ⟨z,w,B,j,r,k,ea,C,R,G,P⟩=>Calls.spliced_nil ?_))));exact Dp T B ea C R Y j (λv w' t l g K=>⟨v,w,g,K,G v l⟩) λl t g=>⟨z,_,g,j,P l⟩
def Ai {op:Operator}{rd:V->V->Hp->VK->Prop}(l:X.A.units+1<cLine)(M:PE X o td)(S:PE X i ty)(Z:PE X value tv)(d:FQ X op rd)(ha:∀ov iv new,augStore i ov iv new=(do holding [new,ov,iv] (setItem ov iv new);release [new,ov,iv] [];pure .next)):PS X (.AugAssign (.Subscript o i tpos) op value pos) (Ex td ty tv rd):=by intro b s σ H D I h;refine wpAny_AugAssign_SubscriptAny (gm (M b s σ H _ I h) ?_) ha;rintro u P ⟨x,O,w,Q,G⟩;refine gm (S b P σ O _ w G) ?_;rintro iv s2 ⟨y,T,K,m,a,v,p,g,q2⟩;subst p;obtain rfl:u=Value.ref a:=Q;refine p8 l K g m λr Y E e=>gm (Z b Y σ T _ E q2) ?_;rintro w2 q ⟨y2,B,t,j,J⟩;refine gm (d b q σ B v y2 r w2 _ t e j J) ?_;rintro w3 s5 ⟨z,H4,F,R,C,U,N⟩;exact p4 l F U m R λs6 L=>⟨σ,C,L,N⟩
end
def uR (O:X.calm=true):jC X (.type "list") (λxs H Q=>∃p kvs,xs=[.ref p]/\Rd H p (.dK kvs)/\∀l,H l=none->Q (.ref l) (upd H l (.lst (kvs.map λkv=>kV kv.1)))):=by
 intro D s σ H xs R Q I r h;obtain⟨p,kvs,rfl,e,q⟩:=h;obtain⟨u,rfl,F⟩:=jt r;cases (show u=Value.ref p from F);obtain⟨z,hd,A,rel,M⟩:=lQ I.hok e;obtain⟨ep,m⟩:=M.dictAt;have C:=rel.length;refine W.kdl_call (W.kdl_dict (knd:=fq X.prog X.w) (kvs:=A) (ep:=ep) hd) (I.ok.hd O) m (by rw[<-C];exact z) λP J t c G N d=>?_;have L:=I.hok.fresh (am s.heap.objs.size);refine⟨.ref s.heap.objs.size,_,I.laid (a:=s.heap.objs.size) (o:=.lst (kvs.map λkv=>kV kv.1)) (t':=J) (λb o q=>G b o q) (am _) ?_,rfl,q _ L⟩;refine⟨by rw[ab];exact z,t.toList,c,?_,by rw[N]⟩;refine kD (by rw[ab,C,bw];exact d.1.symm) λi x y j B=>?_;rw[bI]at B;obtain⟨k,v,K,E⟩:=d.2 i y B;rw[ae]at j;have g:kvs[i]?.map (·.1)=A[i]?.map (·.1):=by rw[<-ae,<-ae,rel.keys]
 rw[K]at g;cases hi:kvs[i]? with|none=>rw[hi]at j;cases j|some kv=>
  rw[hi]at j g;cases j;have:kv.1=k:=by simpa using g
  show fi (kV kv.1) y;rw[this];exact vZ E
def wf:jC X (.type "dict") (λxs H Q=>∃p kvs,xs=[.ref p]/\Rd H p (.dK kvs)/\∀l,H l=none->Q (.ref l) (upd H l (.dK kvs))):=by intro a s σ H xs j Q I r h;obtain⟨p,kvs,rfl,e,q⟩:=h;obtain⟨u,rfl,b⟩:=jt r;cases (show u=Value.ref p from b);exact Bw I e λl i d g=>⟨.ref l,_,g,rfl,q l d⟩
theorem Ct {a:Expr}{ta:TE}(w:PE X a ta)(t:∀whole,isTrue a X.env whole=(do let v <-whole;standAt a.pos;holding [v] (truthy v))):PT X a (λσ H Q=>ta σ H λx H'=>∃p kvs,x=.ref p/\Rd H' p (.dK kvs)/\Q (!kvs.isEmpty) H'):=by intro b s σ H Q I h;refine isTrue_plain (gm (w b s σ H _ I h) ?_) (t _);rintro v z ⟨x,i,d,j,p,kvs,g,l,q⟩;subst g;cases (show v=Value.ref p from j);obtain⟨B,y,o,r,m⟩:=lQ d.hok l;have e:kvs.length=o.length:=Paired.length r;have A:sizeLine=16777216:=bt;exact wpAny_truthy_dict y m (by lia) ⟨i,d.tok _,by rw[pV r];exact q⟩
def KT.all {α:Type}(lt:Nat->Nat->Bool)(n:Nat)(Q:α->Prop):W.KasT α->Prop
 |.ret a=>Q a
 |.ask i j k=>i<n/\j<n/\KT.all lt n Q (k (lt i j))
theorem KT.bind {α β:Type}{lt:Nat->Nat->Bool}{n:Nat}{Q:β->Prop}{f:α->W.KasT β}:∀{t:W.KasT α},KT.all lt n (λa=>KT.all lt n Q (f a)) t->KT.all lt n Q (t.bind f)
 |.ret _,h=>h
 |.ask i j k,h=>⟨h.1,h.2.1,KT.bind (t:=k (lt i j)) h.2.2⟩
theorem KT.mono {α:Type}{lt:Nat->Nat->Bool}{n:Nat}{Q Q':α->Prop}(hq:∀a,Q a->Q' a):∀{t:W.KasT α},KT.all lt n Q t->KT.all lt n Q' t
 |.ret a,h=>hq a h
 |.ask i j k,h=>⟨h.1,h.2.1,KT.mono hq (t:=k (lt i j)) h.2.2⟩
structure SO (lt:Nat->Nat->Bool):Prop where
 tr:∀a b c,lt a b=true->lt b c=true->lt a c=true
 as:∀a b,lt a b=true->lt b a=false
structure zn (lt:Nat->Nat->Bool)(n:Nat)(p:Array Nat):Prop where
 sz:p.size=n
 bd:∀i,i<n->p.getD i 0<n
 tt:∀i j,i<n->j<n->i≠j->lt (p.getD i 0) (p.getD j 0)=true\/lt (p.getD j 0) (p.getD i 0)=true
def mI (lt:Nat->Nat->Bool)(p:Array Nat)(m:Nat):Prop:=∀i j,i<j->j<m->lt (p.getD i 0) (p.getD j 0)=true
def zi (lt:Nat->Nat->Bool)(p:Array Nat)(m:Nat):Prop:=∀i j,i<j->j<m->lt (p.getD j 0) (p.getD i 0)=true
def uC {q:Array Nat}{j:Nat}(h:p[i]?=q[j]?):p.getD i 0=q.getD j 0:=by rw[cj,cj,h]
section
variable {lt:Nat->Nat->Bool}{n:Nat}
theorem mI.more (S:SO lt)(h:mI lt p m)(h1:1<=m)(hl:lt (p.getD (m-1) 0) (p.getD m 0)=true):mI lt p (m+1):=λi j hij hj=>by
 by_cases e:j=m;subst e;by_cases e2:i=j-1;subst e2;exact hl;exact S.tr _ _ _ (h i (j-1) (by lia) (by lia)) hl;exact h i j hij (by lia)
theorem zi.more (S:SO lt)(h:zi lt p m)(h1:1<=m)(hl:lt (p.getD m 0) (p.getD (m-1) 0)=true):zi lt p (m+1):=λi j hij hj=>by
 by_cases e:j=m;subst e;by_cases e2:i=j-1;subst e2;exact hl;exact S.tr _ _ _ hl (h i (j-1) (by lia) (by lia));exact h i j hij (by lia)
theorem wm (S:SO lt){p:Array Nat}(P:zn lt n p):∀(f m:Nat),f=n-m->1<=m->m<=n->mI lt p m->KT.all lt n (λr=>m<=r/\r<=n/\mI lt p r/\(r=n\/lt (p.getD r 0) (p.getD (r-1) 0)=true)) (W.kas_asc p f m)
 |0,m,hf,h1,hm,hu=>⟨am _,hm,hu,.inl (by lia)⟩
 |f+1,m,hf,h1,hm,hu=>by refine⟨P.bd _ (by lia),P.bd _ (by lia),?_⟩;show KT.all lt n _ (if lt (p.getD m 0) (p.getD (m-1) 0)=true then W.KasT.ret m else W.kas_asc p f (m+1));by_cases hc:lt (p.getD m 0) (p.getD (m-1) 0)=true;rw[ay hc];exact⟨am _,hm,hu,.inr hc⟩;rw[av hc];have hl:=(P.tt m (m-1) (by lia) (by lia) (by lia)).resolve_left hc;exact KT.mono (λr hr=>⟨by lia,hr.2⟩) (wm S P f (m+1) (by lia) (by lia) (by lia) (hu.more S h1 hl))
theorem xt (S:SO lt){p:Array Nat}(P:zn lt n p):∀(f m:Nat),f=n-m->1<=m->m<=n->zi lt p m->KT.all lt n (λr=>r.1=p/\m<=r.2.1/\r.2.1<=n/\zi lt p r.2.1/\r.2.2=0) (W.kas_desc f p m 0)
 |0,m,hf,h1,hm,hu=>⟨rfl,am _,hm,hu,rfl⟩
 |f+1,m,hf,h1,hm,hu=>by refine⟨P.bd _ (by lia),P.bd _ (by lia),?_⟩;show KT.all lt n _ (if lt (p.getD m 0) (p.getD (m-1) 0)=true then (if 0>0 then W.kas_desc f (W.kas_rev p (m-(0+1)) m) (m+1) 0 else W.kas_desc f p (m+1) 0) else W.KasT.ask (p.getD (m-1) 0) (p.getD m 0) λd=>if d=true then .ret (p,m,0) else W.kas_desc f p (m+1) (0+1));by_cases hc:lt (p.getD m 0) (p.getD (m-1) 0)=true;rw[ay hc,av (by decide)];exact KT.mono (λr hr=>⟨hr.1,by lia,hr.2.2⟩) (xt S P f (m+1) (by lia) (by lia) (by lia) (hu.more S h1 hc));rw[av hc];have hl:=(P.tt m (m-1) (by lia) (by lia) (by lia)).resolve_left hc;refine⟨P.bd _ (by lia),P.bd _ (by lia),?_⟩;show KT.all lt n _ (if lt (p.getD (m-1) 0) (p.getD m 0)=true then W.KasT.ret (p,m,0) else W.kas_desc f p (m+1) (0+1));rw[ay hl];exact⟨rfl,am _,hm,hu,rfl⟩
def pJ (a:m<=p.size)(k:Nat):(W.kas_rev p 0 m).getD k 0=if k<m then p.getD (m-1-k) 0 else p.getD k 0:=by have e:=getElem?_mirror_all (i:=0) a k;unfold W.kas_rev;by_cases h:k<m;rw[ay h];rw[ay ⟨br _,h⟩,Nat.zero_add]at e;exact uC e;rw[av h];rw[av (λz=>h z.2)]at e;exact uC e
theorem EA (P:zn lt n p)(a:m<=n):zn lt n (W.kas_rev p 0 m):=by
 refine⟨(W.kas_rev_size 0 m).trans P.sz,λi b=>?_,λi j b e d=>?_⟩;rw[pJ (by rw[P.sz];exact a)];by_cases h:i<m;rw[ay h];exact P.bd _ (by lia);rw[av h];exact P.bd _ b
 ·rw[pJ (by rw[P.sz];exact a),pJ (by rw[P.sz];exact a)]
  repeat' split
  all_goals exact P.tt _ _ (by lia) (by lia) (by lia)
theorem zC (S:SO lt)(P:zn lt n p)(h:1<=m)(a:m<=n)(e:zi lt p m):KT.all lt n (λr=>1<=r.1/\r.1<=n/\mI lt r.2 r.1/\zn lt n r.2/\r.2.Perm p) (W.kas_tail3 m n p):=by
 have b:=EA P a;have l:mI lt (W.kas_rev p 0 m) m:=λi j o g=>by rw[pJ (by rw[P.sz];exact a),pJ (by rw[P.sz];exact a),ay (by lia),ay g];exact e _ _ (by lia) (by lia)
 refine KT.bind (KT.mono (λr d=>?_) (wm S b (n-m) m rfl h a l));exact⟨by lia,d.2.1,d.2.2.1,b,mirror_perm _ _ _ _⟩
theorem Bz (S:SO lt)(P:zn lt n p)(y:2<=n):KT.all lt n (λr=>1<=r.1/\r.1<=n/\mI lt r.2 r.1/\zn lt n r.2/\r.2.Perm p) (W.kas_count n p):=by
 unfold W.kas_count;refine KT.bind (KT.mono (λm w=>?_) (wm S P (n-1) 1 rfl (am _) (by lia) λi j a b=>by lia));obtain⟨g,h,d,l⟩:=w;by_cases e:m=n;rw[ay (by simpa using e)];exact⟨g,h,d,P,Array.Perm.refl _⟩;rw[av (by simpa using e)];by_cases h1:m>1;rw[ay h1];refine⟨P.bd _ (by lia),P.bd _ (by lia),?_⟩;show KT.all lt n _ (if lt (p.getD 0 0) (p.getD (m-1) 0)=true then W.KasT.ret (m,p) else W.kas_descPart m n (W.kas_rev p 0 m));rw[ay (d 0 (m-1) (by lia) (by lia))];exact⟨g,h,d,P,Array.Perm.refl _⟩;rw[av h1];have:m=1:=by lia
 subst this;have o:=l.resolve_left (by lia);unfold W.kas_descPart;refine KT.bind (KT.mono (λr s=>?_) (xt S P (n-(1+1)) (1+1) rfl (by lia) (by lia) λi j a b=>?_));obtain⟨q,z,v,t,x⟩:=s;rw[av (by lia),q];exact zC S P (by lia) v t;have:i=0/\j=1:=by lia
 obtain⟨rfl,rfl⟩:=this;exact o
theorem pL (S:SO lt){p:Array Nat}(P:zn lt n p){k:Nat}(g:k<n)(d:mI lt p k):∀(f l r:Nat),r-l<=f->l<=r->r<=k->(∀i,i<l->lt (p.getD i 0) (p.getD k 0)=true)->(∀i,r<=i->i<k->lt (p.getD k 0) (p.getD i 0)=true)->KT.all lt n (λx=>x<=k/\(∀i,i<x->lt (p.getD i 0) (p.getD k 0)=true)/\∀i,x<=i->i<k->lt (p.getD k 0) (p.getD i 0)=true) (W.kas_place p k f l r)
 |0,l,r,hf,hlr,hrk,h1,h2=>by
  have:l=r:=by lia
  subst this;exact⟨hrk,h1,h2⟩
 |f+1,l,r,hf,hlr,hrk,h1,h2=>by
  unfold W.kas_place;by_cases e:l ≥ r;rw[ay e];have:l=r:=by lia
  subst this;exact⟨hrk,h1,h2⟩;rw[av e];refine⟨P.bd _ (by lia),P.bd _ (by lia),?_⟩;show KT.all lt n _ (if lt (p.getD k 0) (p.getD ((l+r) / 2) 0)=true then W.kas_place p k f l ((l+r) / 2) else W.kas_place p k f ((l+r) / 2+1) r);by_cases hc:lt (p.getD k 0) (p.getD ((l+r) / 2) 0)=true;rw[ay hc];refine pL S P g d f l ((l+r) / 2) (by lia) (by lia) (by lia) h1 λi a b=>?_;by_cases e2:i=(l+r) / 2;subst e2;exact hc;exact S.tr _ _ _ hc (d _ _ (by lia) b);rw[av hc];have h:=(P.tt k ((l+r) / 2) g (by lia) (by lia)).resolve_left hc;refine pL S P g d f ((l+r) / 2+1) r (by lia) (by lia) hrk (λi a=>?_) h2;by_cases e2:i=(l+r) / 2;subst e2;exact h;exact S.tr _ _ _ (d i _ (by lia) (by lia)) h
def Fp {k d:Nat}(b:k<p.size)(a:d<=k)(i:Nat):(bubble p k d).getD i 0=if i=k-d then p.getD k 0 else if k-d<i/\i<=k then p.getD (i-1) 0 else p.getD i 0:=by have e:=getElem?_bubble b d a i;by_cases h1:i=k-d;rw[ay h1]at e ⊢;exact uC e;rw[av h1]at e ⊢;by_cases h2:k-d<i/\i<=k;rw[ay h2]at e ⊢;exact uC e;rw[av h2]at e ⊢;exact uC e
theorem BD (S:SO lt):∀(f k:Nat) (p:Array Nat),zn lt n p->f=n-k->k<=n->mI lt p k->KT.all lt n (λq=>mI lt q n/\zn lt n q/\q.Perm p) (W.kas_bin f p k)
 |0,k,p,P,hf,hk,hu=>by
  have:k=n:=by lia
  subst this;exact⟨hu,P,Array.Perm.refl _⟩
 |f+1,k,p,P,hf,hk,hu=>by
  have m:k<n:=by lia
  have w:k<p.size:=by rw[P.sz];exact m
  unfold W.kas_bin;refine KT.bind (KT.mono (λl v=>?_) (pL S P m hu k 0 k (by lia) (by lia) (am _) (λi a=>by lia) λi a b=>by lia));obtain⟨z,s,t⟩:=v;have d:=λi=>Fp (p:=p) w (show k-l<=k by lia) i;rw[show k-(k-l)=l by lia]at d;have e:=P.tt;have h:=P.bd;unfold mI at hu;obtain⟨g,hg⟩:∃g:Nat->Nat,∀i,p.getD i 0=g i:=⟨λi=>p.getD i 0,λ_=>rfl⟩;simp only[hg]at d s t e hu h;refine KT.mono (λq r=>⟨r.1,r.2.1,r.2.2.trans (bubble_perm _ _ _)⟩) (BD S f (k+1) (bubble p k (k-l)) ⟨(bubble_size _ _ _).trans P.sz,λi x=>?_,λi j x y o=>?_⟩ (by lia) (by lia) λi j o y=>?_)
  ·rw[d]
   repeat' split
   all_goals exact h _ (by lia)
  ·rw[d,d]
   repeat' split
   all_goals first|(exfalso;lia)|exact e _ _ (by lia) (by lia) (by lia)
  ·rw[d,d]
   repeat' split
   all_goals first|(exfalso;lia)|exact s _ (by lia)|exact t _ (by lia) (by lia)|exact hu _ _ (by lia) (by lia)
theorem Cf (S:SO lt)(o:2<=n)(s:∀i j,i<n->j<n->i≠j->lt i j=true\/lt j i=true):KT.all lt n (λq=>mI lt q n/\q.size=n/\q.toList.Perm (List.range n)) (W.kas_sort n):=by
 have e:∀i,i<n->(List.toArray (List.range n)).getD i 0=i:=λi a=>by rw[cj];simp[a]
 have P:zn lt n (List.toArray (List.range n)):=⟨by simp,λi a=>by rw[e i a];exact a,λi j a m d=>by rw[e i a,e j m];exact s i j a m d⟩;unfold W.kas_sort;refine KT.bind (KT.mono (λr p=>?_) (Bz S P o));obtain⟨w,t,g,h,v⟩:=p;have l:∀{q:Array Nat},q.Perm r.2->q.toList.Perm (List.range n):=λb=>by have:=Array.perm_iff_toList_perm.mp (b.trans v);simpa using this
 by_cases hlt:r.1<n;rw[ay hlt,show max r.1 1=r.1 by lia];exact KT.mono (λq b=>⟨b.1,b.2.1.sz,l b.2.2⟩) (BD S (n-r.1) r.1 r.2 h rfl t g);rw[av hlt];have:r.1=n:=by lia
 rw[this]at g;exact⟨g,h.sz,l (Array.Perm.refl _)⟩
end
theorem KT.wp {α:Type}{lt:Nat->Nat->Bool}{n:Nat}{cmp:Nat->Nat->(Bool->d0->Prop)->d0->Prop}{s:d0}{Q:α->Prop}{R:α->d0->Prop}(hc:∀i j,i<n->j<n->∀(C:Bool->d0->Prop),C (lt i j) s->cmp i j C s)(hr:∀a,Q a->R a s):∀{t:W.KasT α},KT.all lt n Q t->t.kasWp cmp R s
 |.ret a,h=>hr a h
 |.ask i j k,h=>hc i j h.1 h.2.1 _ (KT.wp hc hr (t:=k (lt i j)) h.2.2)
abbrev SI:=Str×Int
noncomputable def qE (a b:SI):Bool:=if a.1=b.1 then decide (a.2<b.2) else decide (a.1.cps.toList<b.1.cps.toList)
def u9 {a b:Str}(h:a.cps.toList=b.cps.toList):a=b:=by cases a;cases b;simp only[Str.mk.injEq];exact Array.toList_inj.mp h
theorem yF {a c:SI}(d:qE a b=true)(e:qE b c=true):qE a c=true:=by unfold qE at *;by_cases e1:a.1=b.1;by_cases e2:b.1=c.1;rw[ay e1]at d;rw[ay e2]at e;rw[ay (e1.trans e2)];simp only[aw]at *;lia;rw[av e2]at e;rw[av (λz=>e2 (e1.symm.trans z)),e1];exact e;by_cases e2:b.1=c.1;rw[av e1]at d;rw[av (λz=>e1 (z.trans e2.symm)),<-e2];exact d;rw[av e1]at d;rw[av e2]at e;simp only[aw]at d e;have g:=List.lt_trans d e;rw[av (λz=>by rw[z]at g;exact List.lt_irrefl _ g)];simpa using g
theorem yH {a:SI}(h:qE a b=true):qE b a=false:=by unfold qE at *;by_cases e:a.1=b.1;rw[ay e]at h;rw[ay e.symm];simp only[aw,decide_eq_false_iff_not]at *;lia;rw[av e]at h;rw[av (λz=>e z.symm)];simp only[aw,decide_eq_false_iff_not]at *;exact λz=>List.lt_irrefl _ (List.lt_trans h z)
theorem yG {a:SI}(h:a≠b):qE a b=true\/qE b a=true:=by unfold qE;by_cases e:a.1=b.1;rw[ay e,ay e.symm];simp only[aw];have:a.2≠b.2:=λz=>h (Prod.ext e z);lia;rw[av e,av (λz=>e z.symm)];simp only[aw];by_cases h1:a.1.cps.toList<b.1.cps.toList;exact .inl h1;by_cases h2:b.1.cps.toList<a.1.cps.toList;exact .inr h2;exact absurd (u9 (List.le_antisymm (List.not_lt.mp h2) (List.not_lt.mp h1))) e
section
variable {prog:ee}
theorem yI {vs:ef dZ}{n:Nat}{P:PySem.Fin->d0->Prop}{lt:Nat->Nat->Bool}{κ:SortKind}(y:s.heap.get? a=some (seqObj "list" vs.toArray n))(H:vs.length<64)(S:SO lt)(R:∀i j,i<vs.length->j<vs.length->i≠j->lt i j=true\/lt j i=true)(T:∀h',(∀b o,b≠a->s.heap.get? b=some o->h'.get? b=some o)->2<=vs.length->∀Q:SortKind->d0->Prop,Q κ {s with heap:=h'}->wpAny (model prog w) A (keyKind' vs.toArray) Q E {s with heap:=h'})(U:∀h',(∀b o,b≠a->s.heap.get? b=some o->h'.get? b=some o)->∀i j,i<vs.length->j<vs.length->∀C:Bool->d0->Prop,C (lt i j) {s with heap:=h'}->W.kas_ask prog w A κ vs i j C {s with heap:=h'})(h:∀p:ef Nat,p.Perm (List.range vs.length)->p.Pairwise (λi j=>lt i j=true)->P (.done (.ret .none)) {s with heap:=sortedHeap s.heap a vs (p.map λi=>vs.getD i Value.none).toArray}):wpAny (model prog w) A (Builtin.«list.sort» ⟨[.ref a],[]⟩) P E s:=by
 rw[list_sort_plain];have K:a<s.heap.objs.size:=aU y;have X:vs.toArray.size=vs.length:=aN ..;refine ac (listItems_at y rfl (ac (listUpdate_at y rfl ?_)));obtain⟨e1,ho1⟩:∃e1,(s.heap.update a (Obj.mapSeq λ_=>(#[]:Array dZ))).get? a=some (seqObj "list" #[] e1):=⟨_,get?_update_seq y (λ_=>#[])⟩;refine ac (seqEpoch_at ho1 rfl (ac (wpAny_newTuple (ac (wpAny_newList (bB ?_))))));have keep:∀b o,b≠a->s.heap.get? b=some o->(((s.heap.update a (Obj.mapSeq λ_=>(#[]:Array dZ))).push (seqObj "tuple" vs.toArray 0)).push (seqObj "list" #[] 0)).get? b=some o:=λb o N e=>by have q:=aU e;rw[cW _ _ _ (by rw[size_push',dE];exact aW (dA q)),cW _ _ _ (by rw[dE];exact aW q),Heap.get?_update_ne _ _ _ _ N];exact e
 have d:(((s.heap.update a (Obj.mapSeq λ_=>(#[]:Array dZ))).push (seqObj "tuple" vs.toArray 0)).push (seqObj "list" #[] 0)).get? a=some (seqObj "list" #[] e1):=by rw[cW _ _ _ (by rw[size_push',dE];exact aW (dA K)),cW _ _ _ (by rw[dE];exact aW K)];exact ho1
 show wpAny (model prog w) A _ P E {s with heap:=((s.heap.update a (Obj.mapSeq λ_=>(#[]:Array dZ))).push (seqObj "tuple" vs.toArray 0)).push (seqObj "list" #[] 0)};dsimp only;by_cases h2:vs.toArray.size<2;rw[ay h2,ay h2];refine ac (ar ?_);rw[StateT.run_pure];refine ac (ar ?_);dsimp only;refine ac (seqEpoch_at d rfl (ac (listUpdate_at d rfl ?_ (hsz2:=by rw[Array.size_map];show(pairsOf vs).size<=_;rw[pairsOf_size,bt];lia))));simp only[bne_self_eq_false,ce,if_false];have e:Array.map (·.2) (arrOf (SortSt.mk' general' (vs.toArray.zip vs.toArray) #[] 7 none))=((List.range vs.length).map λi=>vs.getD i Value.none).toArray:=by
  show Array.map (·.2) (vs.toArray.zip vs.toArray)=_
  match vs,h2 with
  |[],_=>simp
  |[v],_=>simp
  |_::_::_,h2=>exact absurd h2 (by simp)
 rw[e];refine ar (h (List.range vs.length) (List.Perm.refl _) ?_);have:vs.length<2:=by lia
 match hl:vs.length,this with
 |0,_=>exact List.Pairwise.nil
 |1,_=>exact List.pairwise_singleton _ _
 rw[av h2,av h2];refine ac (T _ keep (by lia) _ ?_);refine ac (bV (W.kat_run (ks:=vs) (vs:=vs) (Q:=λg m=>m={s with heap:=((s.heap.update a (Obj.mapSeq λ_=>(#[]:Array dZ))).push (seqObj "tuple" vs.toArray 0)).push (seqObj "list" #[] 0)}/\failedOf g=none/\∃p:Array Nat,arrOf g=p.map (W.kas_item (vs.toArray.zip vs.toArray))/\mI lt p vs.length/\p.size=vs.length/\p.toList.Perm (List.range vs.length)) (G:=λp m=>m={s with heap:=((s.heap.update a (Obj.mapSeq λ_=>(#[]:Array dZ))).push (seqObj "tuple" vs.toArray 0)).push (seqObj "list" #[] 0)}/\mI lt p vs.length/\p.size=vs.length/\p.toList.Perm (List.range vs.length)) rfl (by lia) H (λp g m hp l B I=>⟨I.1,B,p,l,I.2⟩) (KT.wp (U _ keep) (λp hp=>⟨rfl,hp⟩) (Cf S (by lia) R))) (λr m L=>?_) λ_ _ z=>z);obtain⟨⟨⟩,g⟩:=r;obtain⟨rfl,B,p,l,M,x,D⟩:=L;have t:=W.kat_snds (ks:=vs) (vs:=vs) rfl l;dsimp only;rw[t,B];refine ac (seqEpoch_at d rfl (ac (listUpdate_at d rfl ?_ (hsz2:=by rw[aN,ab,bw,x,bt];lia))));simp only[bne_self_eq_false,ce,if_false];refine ar (h p.toList D ?_);rw[List.pairwise_iff_getElem];intro i j O J F;have:=M i j F (by rw[<-x];simpa using J);rw[cj,cj,cr (by simpa using O),cr (by simpa using J)]at this;simpa using this
theorem ve {l:dY}{vs:ef dZ}{lt:Nat->Nat->Bool}{κ:SortKind}(x:s.heap.IsList l vs.toArray)(t:vs.length<64)(S:SO lt)(z:∀i j,i<vs.length->j<vs.length->i≠j->lt i j=true\/lt j i=true)(v:∀(A':dX) (E':dZ->d0->Prop) h',(∀b o,s.heap.get? b=some o->h'.get? b=some o)->2<=vs.length->∀Q:SortKind->d0->Prop,Q κ {s with heap:=h'}->wpAny (model prog w) A' (keyKind' vs.toArray) Q E' {s with heap:=h'})(y:∀h',(∀b o,s.heap.get? b=some o->h'.get? b=some o)->∀i j,i<vs.length->j<vs.length->∀C:Bool->d0->Prop,C (lt i j) {s with heap:=h'}->W.kas_ask prog w A.in1.in1 κ vs i j C {s with heap:=h'})(h:∀p:ef Nat,p.Perm (List.range vs.length)->p.Pairwise (λi j=>lt i j=true)->Q (.ref (s.heap.objs.size+1)) {s with heap:=sortedAll s.heap vs (p.map λi=>vs.getD i Value.none).toArray}):wpAny (model prog w) A (call (.builtin "sorted") [.ref l]) Q E s:=by
 refine Calls.call_function_entry kind_sorted plain_sorted entry_sorted (args_sorted1 _) ?_;unfold Builtin.«sorted»;refine ac (m:=checkCount "sorted" 1 1 _) (ar ?_);refine ac (collect_list x (ac (wpAny_newList ?_)) (by rw[bt];lia));have d:((s.heap.push (seqObj "list" #[] 0)).update s.heap.objs.size (Obj.mapSeq (·++vs.toArray))).objs.size=s.heap.objs.size+1:=by rw[dE,size_push']
 have e:(((s.heap.push (seqObj "list" #[] 0)).update s.heap.objs.size (Obj.mapSeq (·++vs.toArray))).push (seqObj "list" vs.toArray 0)).get? (s.heap.objs.size+1)=some (seqObj "list" vs.toArray 0):=by rw[<-d];exact aM _ rfl
 have keep:∀b o,s.heap.get? b=some o->b≠s.heap.objs.size+1/\(((s.heap.push (seqObj "list" #[] 0)).update s.heap.objs.size (Obj.mapSeq (·++vs.toArray))).push (seqObj "list" vs.toArray 0)).get? b=some o:=λb o q=>by have a:b<s.heap.objs.size:=aU q;refine⟨aW (dA a),?_⟩;rw[cW _ _ _ (by rw[d];exact aW (dA a)),Heap.get?_update_ne _ _ _ _ (aW a),cW _ _ _ (aW a)];exact q
 show wpAny _ _ _ _ _ {s with heap:=((s.heap.push (seqObj "list" #[] 0)).update s.heap.objs.size (Obj.mapSeq (·++vs.toArray))).push (seqObj "list" vs.toArray 0)};rw[d];refine ac (bB (cf slot_list_sort ⟨_,e,rfl⟩ entry_list_sort (yI e t S z (λh' g=>v _ _ h' λb o q=>g b o (keep b o q).1 (keep b o q).2) (λh' g=>y h' λb o q=>g b o (keep b o q).1 (keep b o q).2) λp hp r=>⟨_,rfl,?_⟩) (args_list_sort _)));exact ar ⟨_,rfl,h p hp r⟩
end
def u3 (H:Hp)(v:V)(k:SI):Prop:=∃q,v=.ref q/\H q=some (.tup [.str k.1,.int k.2])
theorem x8 {α:Type}{d:α}{xs:ef α}{p:ef Nat}(h:p.Perm (List.range xs.length)):(p.map λi=>xs.getD i d).Perm xs:=by refine(h.map _).trans (List.Perm.of_eq ?_);refine List.ext_getElem? λi=>?_;rw[ae];by_cases hi:i<xs.length;rw[ak (by simpa using hi),ak hi];simp[hi];rw[dC (by simpa using hi),dC (by lia)];rfl
theorem tG:jC X (.builtin "sorted") (λxs H Q=>∃(a:dY) (vs:ef V) (ks:ef SI),xs=[.ref a]/\ff X.K H a vs/\Paired (u3 H) vs ks/\ks.Nodup/\ks.length<64/\∀(p:dY) (vs':ef V) (ks':ef SI),H p=none->Paired (u3 H) vs' ks'->ks'.Perm ks->ks'.Pairwise (λa b=>qE a b=true)->Q (.ref p) (upd H p (.lst vs'))):=by
 intro as s σ H xs us Q I r h;obtain⟨a,vs,ks,rfl,hS,hp,an,a0,q⟩:=h;obtain⟨u,rfl,r1⟩:=jt r;cases (show u=Value.ref a from r1);obtain⟨g,rv,pl,hz⟩:=I.list hS;have l1:vs.length=g.length:=rv.length;have l2:vs.length=ks.length:=Paired.length hp;have D:∀i,(y:i<g.length)->∃(b:dY) (o:Obj) (t t':Tok) (n:Nat),g[i]=.ref b/\vs[i]?=some (V.ref b)/\H b=some (.tup [.str (ks.getD i (Str.empty,0)).1,.int (ks.getD i (Str.empty,0)).2])/\s.heap.get? b=some o/\o.cls=.type "tuple"/\o.data=.seq #[.str (ks.getD i (Str.empty,0)).1 t,.int (ks.getD i (Str.empty,0)).2 t'] n:=λi y=>by
  have E:vs[i]?=some (vs[i]'(by lia)):=ak (by lia);obtain⟨w',hw,N⟩:=rv.get E;rw[ak y]at hw;obtain⟨k,hk,b,Z,M⟩:=Ao hp E;have ag:ks.getD i (Str.empty,0)=k:=by rw[bi,hk];rfl
  rw[Z]at N E;obtain⟨z,ts,rt,o,e,c,n,dd⟩:=(show gf X.prog X.w H s.heap b (.tup [.str k.1,.int k.2]) from I.hok b _ M);cases rt with|cons r1 r2=>cases r2 with|cons r3 r4=>cases r4;obtain⟨t,rfl⟩:=r1;obtain⟨t',rfl⟩:=r3;rw[ag];exact⟨b,o,t,t',n,(Option.some.inj hw).trans (show w'=Value.ref b from N),E,M,e,c,dd⟩
 have gd:∀i,(y:i<g.length)->g.getD i Value.none=g[i]:=λi y=>by rw[bi,ak y];rfl
 refine ve (lt:=λi j=>qE (ks.getD i (Str.empty,0)) (ks.getD j (Str.empty,0))) (κ:=tuples' (Value.type "str" != Value.type "tuple")) pl.isList (by lia) ⟨λ_ _ _=>yF,λ_ _=>yH⟩ (λi j y J al=>yG λz=>al ?_) (λA' E' U Y h2 Q' hq=>?_) (λU Y i j y J C F=>?_) λp G aa=>?_;rw[bi,bi,ak (by lia),ak (by lia)]at z;exact(List.getElem_inj an).mp z;have R:∀(m:Nat),m<=g.length->∃fs,W.KatTups U (g.drop m) fs/\fs.length=g.length-m/\∀v∈fs,∃x t,v=.str x t:=by
  intro m hm;obtain⟨d,hd⟩:∃d,d=g.length-m:=⟨_,rfl⟩;induction d generalizing m with
  |zero=>
   have:m=g.length:=by lia
   subst this;exact⟨[],by rw[List.drop_length];exact .nil,by simp,λv E=>nomatch E⟩
  |succ d ih=>
  have P:m<g.length:=by lia
  obtain⟨fs,f1,f2,f3⟩:=ih (m+1) (by lia) (by lia);obtain⟨b,o,t,t',n,B,_,_,e3,e4,e5⟩:=D m P;refine⟨.str (ks.getD m (Str.empty,0)).1 t::fs,?_,by rw[aE];lia,λv E=>?_⟩;rw[df P,B];exact .cons (Y _ _ e3) e4 e5 rfl f1;rcases ao.mp E with z|z;exact⟨_,_,z⟩;exact f3 v z
 obtain⟨fs,f1,f2,f3⟩:=R 0 (br _);refine W.kat_kind (s:={s with heap:=U}) (T:=.type "str") (fs:=fs) (by simpa using f1) (by lia) (λv E=>?_) (by decide) hq;obtain⟨x,t,rfl⟩:=f3 v E;exact .now;obtain⟨b,o,t,t',n,B,_,_,e3,e4,e5⟩:=D i y;obtain⟨b2,o2,t2,ad,n2,g1,_,_,g3,g4,g5⟩:=D j J;unfold W.kas_ask;rw[gd i y,gd j J,B,g1,show(Value.type "str" != Value.type "tuple")=true by decide];generalize ks.getD i (Str.empty,0)=k1 at *;generalize ks.getD j (Str.empty,0)=k2 at *;refine W.kat_lt (s:={s with heap:=U}) (Y _ _ e3) e5 (Y _ _ g3) g5 ?_;show W.KatLex X.prog X.w X.A.in1.in1 true (decide (2<2)) C [(.str k1.1 t,.str k2.1 t2),(.int k1.2 t',.int k2.2 ad)] 0 _;refine W.kat_cons (SeqAt.EqAt.str_str _ _ _ _ _ _ _ _ ?_);refine W.kat_go (λL=>W.kat_yes (W.kat_cons (SeqAt.EqAt.int_int _ _ _ _ _ _ _ _ (W.kat_go (λS=>W.kat_yes (W.kat_nil ?_)) λS=>W.kat_no ?_)))) (λL=>W.kat_no ?_);have B:k1.1=k2.1:=by simpa using L
 have e2:k1.2=k2.2:=by simpa using S
 have:qE k1 k2=decide (2<2):=by unfold qE;rw[ay B,e2];simp
 try dsimp only at F
 rw[this]at F;exact F;have B:k1.1=k2.1:=by simpa using L
 refine W.kat_one _ _ (lt_int ?_);have:qE k1 k2=decide (k1.2<k2.2):=by unfold qE;rw[ay B]
 try dsimp only at F
 rw[this]at F;exact F;have B:¬k1.1=k2.1:=by simpa using L
 have:qE k1 k2=decide (k1.1.cps.toList<k2.1.cps.toList):=by unfold qE;rw[av B]
 try dsimp only at F
 rw[this]at F;exact oneLt_str F;have M:∀i∈p,i<g.length:=λi y=>List.mem_range.mp (G.subset y);have pk:∀(l:ef Nat),(∀i∈l,i<g.length)->Paired (u3 H) (l.map λi=>vs.getD i V.non) (l.map λi=>ks.getD i (Str.empty,0)):=λl=>by induction l with|nil=>exact λ_=>.nil|cons i l ih=>intro O;obtain⟨b,o,t,t',n,B,ev,Z,_⟩:=D i (O i (by simp));rw[aH,aH];refine .cons ⟨b,?_,Z⟩ (ih λj J=>O j (by simp[J]));rw[bi,ev];rfl
 have pv:∀(l:ef Nat),(∀i∈l,i<g.length)->gj (l.map λi=>vs.getD i V.non) (l.map λi=>g.getD i Value.none):=λl=>by induction l with|nil=>exact λ_=>.nil|cons i l ih=>intro O;have y:=O i (by simp);obtain⟨b,o,t,t',n,B,ev,Z,_⟩:=D i y;rw[aH,aH];refine .cons ?_ (ih λj J=>O j (by simp[J]));rw[bi,ev,gd i y,B];exact rfl
 have ap:p.length=g.length:=by rw[G.length_eq,List.length_range]
 have ah:=I.hok.fresh (dB s.heap.objs.size);obtain⟨e,L⟩:=sortedAll_at s.heap g (p.map λi=>g.getD i Value.none).toArray;refine⟨.ref (s.heap.objs.size+1),upd H (s.heap.objs.size+1) (.lst (p.map λi=>vs.getD i V.non)),I.laid (t':=s.toks) (λb u q=>sortedAll_old q) (dB _) ⟨?_,_,e,pv p M,by rw[L]⟩,rfl,q _ _ _ ah (pk p M) (x8 ?_) ?_⟩;rw[ab,ap,<-l1];exact hz;rw[show ks.length=g.length by lia];exact G;rw[cu];exact aa
end Lake
namespace Lake.FB
open PySem PyProof.Rows
variable {F:ef Fk}{L L':iA}{a b i m m' p spot:Nat}{es:ef En}{j:Pk}{ls:ef Ln}{s:Sd}{v:Int}{w:el Pk}{x:Str}
structure eD where
 es:ef En
 sn:ef Nd
 ks:ef Pk
 mem:∀k,k∈ks↔k∈es.map fb
 nd:ks.Nodup
 pm:ks.Perm (es.map fb)
 ord:ks.Pairwise λa b=>qE a b=true
 srt:∀(i j:Nat) (a b:Pk),ks[i]?=some a->ks[j]?=some b->i<j->a.1=b.1->a.2<b.2
def eD.n (c:eD):Nat:=c.ks.length
noncomputable def eD.ix (c:eD)(k:Pk):Nat:=c.ks.idxOf k
def eD.has (c:eD)(m:Nat)(k:Pk):Prop:=k∈c.ks/\m.testBit (c.ix k)=true
instance (c:eD) (m:Nat) (k:Pk):Decidable (c.has m k):=inferInstanceAs (Decidable (_/\_))
def eD.bit (c:eD)(k:Pk):Nat:=2^c.ix k
def eD.La (c:eD):el Pk->Nat
 |none=>0
 |some k=>c.bit k
def eD.listed (c:eD)(m:Nat):ef Pk:=c.ks.filter λk=>m.testBit (c.ix k)
def iD (a b:Nat):Nat:=a ^^^ (a &&& b)
def eD.Lb (c:eD){k:Pk}(h:k∈c.ks):c.ix k<c.n:=bF.mpr h
def eD.Lc (c:eD){k:Pk}(h:k∈c.ks):c.ks[c.ix k]?=some k:=by rw[ak (c.Lb h)];exact congrArg some (cm (c.Lb h))
def eD.Ld (c:eD){k:Pk}(b:j∈c.ks)(d:k∈c.ks)(h:c.ix j=c.ix k):j=k:=by have a:=c.Lc b;rw[h,c.Lc d]at a;exact(Option.some.inj a).symm
def eD.Le (c:eD){k:Pk}(h:c.ks[i]?=some k):c.ix k=i:=by have b:=ai h;have a:=c.Lc b;have d:=(af.mp h).1;have e:=c.Lb b;rw[ak d]at h;rw[ak e]at a;exact(List.getElem_inj c.nd).mp ((Option.some.inj a).trans (Option.some.inj h).symm)
def eD.Lf {c:eD}{k:Pk}:k∈c.listed m↔c.has m k:=by unfold eD.listed eD.has;rw[aZ]
def eD.Lg {c:eD}{k:Pk}:c.has (a ||| b) k↔c.has a k\/c.has b k:=by unfold eD.has;rw[Nat.testBit_or,cw];constructor;rintro⟨h,x|x⟩;exact .inl ⟨h,x⟩;exact .inr ⟨h,x⟩;rintro(⟨h,x⟩|⟨h,x⟩);exact⟨h,.inl x⟩;exact⟨h,.inr x⟩
def eD.Lh {c:eD}{k:Pk}:c.has (a &&& b) k↔c.has a k/\c.has b k:=by unfold eD.has;rw[Nat.testBit_and,aF];constructor;rintro⟨h,x,y⟩;exact⟨⟨h,x⟩,⟨h,y⟩⟩;rintro⟨⟨h,x⟩,⟨_,y⟩⟩;exact⟨h,x,y⟩
def oj (a b i:Nat):(iD a b).testBit i=(a.testBit i&&!b.testBit i):=by unfold iD;rw[Nat.testBit_xor,Nat.testBit_and];cases a.testBit i <;> cases b.testBit i <;> rfl
def eD.Li {c:eD}{k:Pk}:c.has (iD a b) k↔c.has a k/\¬c.has b k:=by unfold eD.has;rw[oj,aF,bQ];constructor;rintro⟨h,x,y⟩;exact⟨⟨h,x⟩,λz=>by rw[z.2]at y;cases y⟩;rintro⟨⟨h,x⟩,y⟩;exact⟨h,x,bJ.mpr λz=>y ⟨h,z⟩⟩
def eD.Lj {c:eD}{k:Pk}(a:j∈c.ks):c.has (c.bit j) k↔k=j:=by unfold eD.has eD.bit;rw[Nat.testBit_two_pow];constructor;rintro⟨h,x⟩;exact c.Ld h a (aI x).symm;rintro rfl;exact⟨a,aq rfl⟩
def eD.Lk {c:eD}{k:Pk}:¬c.has 0 k:=λh=>by
 have:=h.2;rw[Nat.zero_testBit]at this;cases this
def eD.Ll (c:eD){k:Pk}(h:k∈c.ks):c.bit k<2^c.n:=Nat.pow_lt_pow_right (by decide) (c.Lb h)
def jv {n:Nat}(ha:a<2^n)(hb:b<2^n):a ||| b<2^n:=Nat.or_lt_two_pow ha hb
def oe {n:Nat}(ha:a<2^n):a &&& b<2^n:=bK Nat.and_le_left ha
def jQ {n:Nat}(ha:a<2^n):iD a b<2^n:=Nat.xor_lt_two_pow ha (oe ha)
theorem eD.ext {c:eD}(l:a<2^c.n)(j:b<2^c.n)(h:∀k,c.has a k↔c.has b k):a=b:=by refine Nat.eq_of_testBit_eq λi=>?_;by_cases hi:i<c.n;have e:c.ks[i]?=some c.ks[i]:=ak hi;have d:=ai e;have g:=c.Le e;have:=h c.ks[i];unfold eD.has at this;rw[g]at this;rw[cT];constructor;exact λz=>(this.mp ⟨d,z⟩).2;exact λz=>(this.mpr ⟨d,z⟩).2;have hp:2^c.n<=2^i:=Nat.pow_le_pow_right (by decide) (by lia);rw[Nat.testBit_lt_two_pow (by lia),Nat.testBit_lt_two_pow (by lia)]
def eD.Lm {c:eD}(ha:a<2^c.n)(h:∀k,¬c.has a k):a=0:=eD.ext ha (bM _) λk=>⟨λz=>(h k z).elim,λz=>(eD.Lk z).elim⟩
def eD.Lo {c:eD}(d:a<2^c.n):c.listed a=[]↔a=0:=by constructor;intro h;refine eD.Lm d λk b=>?_;have:=eD.Lf.mpr b;rw[h]at this;cases this;rintro rfl;unfold eD.listed;simp
def eD.Lp (c:eD)(m:Nat):(c.listed m).Nodup:=c.nd.sublist List.filter_sublist
def eD.maskOf (c:eD)(p:Pk->Bool):Nat:=(c.ks.filter p).foldl (λm k=>m ||| c.bit k) 0
theorem eD.Lq {c:eD}:∀(l:ef Pk) (m:Nat),(∀k∈l,k∈c.ks)->∀k,c.has (l.foldl (λm k=>m ||| c.bit k) m) k↔c.has m k\/k∈l
 |[],m,_,k=>by simp
 |x::l,m,h,k=>by rw[List.foldl_cons,eD.Lq l _ (λy hy=>h y (by simp[hy])),eD.Lg,eD.Lj (h x (by simp)),ao,or_assoc]
theorem eD.fold_lt {c:eD}:∀(l:ef Pk) (m:Nat),(∀k∈l,k∈c.ks)->m<2^c.n->l.foldl (λm k=>m ||| c.bit k) m<2^c.n
 |[],m,_,hm=>hm
 |x::l,m,h,hm=>eD.fold_lt l _ (λy hy=>h y (by simp[hy])) (jv hm (c.Ll (h x (by simp))))
def eD.Lr {c:eD}{p:Pk->Bool}{k:Pk}:c.has (c.maskOf p) k↔k∈c.ks/\p k=true:=by unfold eD.maskOf;rw[eD.Lq _ _ λy a=>(aZ.mp a).1,aZ];exact⟨λz=>z.elim (λy=>(eD.Lk y).elim) id,.inr⟩
def eD.Ls (c:eD)(p:Pk->Bool):c.maskOf p<2^c.n:=eD.fold_lt _ _ (λy hy=>(aZ.mp hy).1) (bM _)
def eD.needs (c:eD)(w:el Pk):ef Nd:=gr c.es c.sn w
def eD.Lu (c:eD)(w:el Pk)(k:Pk):Prop:=∃n∈c.needs w,qf n k=true
def eD.foe (c:eD)(j k:Pk):Prop:=c.Lu (some j) k\/c.Lu (some k) j
def eD.Lv {c:eD}{k:Pk}(h:c.foe j k):c.foe k j:=h.elim .inr .inl
def eD.Lx (c:eD)(m:Nat):el Pk->Prop
 |none=>True
 |some k=>c.has m k
abbrev iA:=ef (Nat×Rs)
def eD.ln (c:eD)(e:Nat×Rs):Ln:=(c.listed e.1,e.2)
def eD.lns (c:eD)(L:iA):ef Ln:=L.map c.ln
def eD.Ly (c:eD)(m:Nat):Prop:=∀j k,c.has m j->c.has m k->j.1=k.1->j=k
structure ib (c:eD)(L:iA):Prop where
 good:∀i e,L[i]?=some e->ir c.es c.sn (c.lns L) (i:Nat) (c.ln e)=true
 lt:∀e∈L,e.1<2^c.n
 one:∀e∈L,c.Ly e.1
 nd:(L.map (·.1)).Nodup
theorem AW {α:Type}{xs ys:ef α}{i:Int}(h:i<(xs.length:Int)):ij (xs++ys) i=ij xs i:=by unfold ij;by_cases h0:0<=i;rw[ay h0,ay h0,aQ (by lia)];rw[av h0,av h0]
theorem BE {ys:ef Ln}{ps:ef Pk}{b:Int}(h:spot<=ls.length):qI (ls++ys) spot ps x b v=qI ls spot ps x b v:=by unfold qI;by_cases hb:b<(spot:Int);rw[AW (by lia)];rw[au hb,bX,bX]
def q5 {sn:ef Nd}{ys:ef Ln}{l:Ln}(h:spot<=ls.length):ir es sn (ls++ys) spot l=ir es sn ls spot l:=by unfold ir;cases hn:ij (gr es sn l.2.who) l.2.place with|none=>rfl|some n=>dsimp only;congr 1;cases ht:l.2.told with|one k=>rfl|many bs=>show j4 es (ls++ys) spot l.1 n bs=j4 es ls spot l.1 n bs;unfold j4;congr 1;refine congrArg (λf=>List.all _ f) (funext λa=>?_);exact BE h
def ib.nil (c:eD):ib c []:=⟨(λi e h=>by simp at h),(λe h=>nomatch h),(λe h=>nomatch h),bT⟩
theorem ib.add {c:eD}(h:ib c L){r:Rs}(j:m<2^c.n)(l:c.Ly m)(t:m∉L.map (·.1))(q:ir c.es c.sn (c.lns L) (L.length:Nat) (c.listed m,r)=true):ib c (L++[(m,r)]):=by
 have o:c.lns (L++[(m,r)])=c.lns L++[(c.listed m,r)]:=by unfold eD.lns;rw[aG];rfl
 have v:(c.lns L).length=L.length:=ab _;refine⟨λi e d=>?_,λe d=>?_,λe d=>?_,?_⟩;rw[o];by_cases hi:i<L.length;rw[aQ hi]at d;rw[q5 (by lia)];exact h.good i e d;have g:i=L.length:=by have:=(af.mp d).1;rw[aD,aP]at this;lia
 subst g;rw[bh (am _),bW]at d;have:e=(m,r):=by simpa using d.symm
 subst this;rw[q5 (by lia)];exact q;rcases aA.mp d with y|y;exact h.lt e y;rw[aj.mp y];exact j;rcases aA.mp d with y|y;exact h.one e y;rw[aj.mp y];exact l;rw[aG,bN];exact⟨h.nd,by simp,λa p b s e=>t (by rw[show b=m by simpa using s]at e;exact e▸p)⟩
def zo {c:eD}(h:c.Lx m w):zp c.es (c.listed m) w=true:=by cases w with|none=>rfl|some k=>have a:c.has m k:=h;show(decide (k∈c.listed m)&&decide (k∈c.es.map fb))=true;rw[aq (eD.Lf.mpr a),aq ((c.mem k).mp a.1)];rfl
def AB {c:eD}{k:Pk}{n:Nd}(a:c.Lx m w)(d:c.has m k)(e:(c.needs w)[i]?=some n)(b:qf n k=true):ir c.es c.sn ls spot (c.listed m,⟨w,(i:Nat),.one k⟩)=true:=by unfold ir;rw[zo a];dsimp only;rw[ii,show(gr c.es c.sn w)[i]?=some n from e];show(decide (k∈c.listed m)&&qf n k)=true;rw[aq (eD.Lf.mpr d),b];rfl
theorem ya {c:eD}{n:Nd}{bs:ef Nat}(l:c.Lx m w)(A:(c.needs w)[i]?=some n)(q:bs.length=(jz c.es n).length)(t:∀(j b:Nat) (v:Int),bs[j]?=some b->(jz c.es n)[j]?=some v->∃e,L[b]?=some e/\∀x,c.has e.1 x->x=(n.1,v)\/c.has m x):ir c.es c.sn (c.lns L) (L.length:Nat) (c.listed m,⟨w,(i:Nat),.many (bs.map λb:Nat=>(b:Int))⟩)=true:=by
 unfold ir;rw[zo l];dsimp only;rw[ii,show(gr c.es c.sn w)[i]?=some n from A];show j4 c.es (c.lns L) (L.length:Nat) (c.listed m) n (bs.map λb:Nat=>(b:Int))=true;unfold j4;rw[ab,aq q,cq,bZ];rintro⟨b,v⟩ d;obtain⟨j,B⟩:=aB.mp d;obtain⟨h,r⟩:=de.mp B;rw[ae]at h;obtain⟨a,s,rfl⟩:=ax.mp h;obtain⟨e,g,z⟩:=t j a v s r;have o:a<L.length:=(af.mp g).1;unfold qI;dsimp only;rw[aq (by lia),aq (p:=((a:Nat):Int)<((L.length:Nat):Int)) (by lia),cq,cq,ii];have C:(c.lns L)[a]?=some (c.ln e):=by unfold eD.lns;rw[ae,g];rfl
 rw[C];show((c.listed e.1).all λp=>decide (p∈c.listed m)||decide (p=(n.1,v)))=true;rw[bZ];intro p hp;rcases z p (eD.Lf.mp hp) with y|y;rw[aq y,Bool.or_true];rw[aq (eD.Lf.mpr y),Bool.true_or]
def eD.Lz (c:eD)(L:iA)(m:Nat)(k:Pk):Prop:=∃e∈L,c.has e.1 k/\∀j,c.has e.1 j->j=k\/c.has m j
def eD.LA (c:eD)(L:iA)(m:Nat)(k:Pk):Prop:=c.Lu none k\/c.foe k k\/(∃j,c.has m j/\c.foe k j)\/c.Lz L m k
def eD.Lz.mono {c:eD}{k:Pk}(h:c.Lz L m k)(hL:∀e∈L,e∈L')(hm:∀j,c.has m j->c.has m' j):c.Lz L' m' k:=
 (by obtain⟨e,he,h1,h2⟩:=h;exact⟨e,hL e he,h1,λj hj=>(h2 j hj).imp id (hm j)⟩)
def eD.LA.mono {c:eD}{k:Pk}(h:c.LA L m k)(d:∀e∈L,e∈L')(a:∀j,c.has m j->c.has m' j):c.LA L' m' k:=by rcases h with h|h|⟨j,b,g⟩|h;exact .inl h;exact .inr (.inl h);exact .inr (.inr (.inl ⟨j,a j b,g⟩));exact .inr (.inr (.inr (eD.Lz.mono h d a)))
structure Sd where
 picked:Nat
 dead:Nat
 wanted:ef (Str×el Pk)
noncomputable def eZ:ef Nd->ef Str
 |[]=>[]
 |n::ns=>n.1::(eZ ns).filter λx=>!decide (x=n.1)
theorem iw {x:Str}:∀{ns:ef Nd},x∈eZ ns↔∃n∈ns,n.1=x
 |[]=>by simp[eZ]
 |n::ns=>by rw[eZ,ao,aZ,iw (ns:=ns)];constructor;rintro(rfl|⟨⟨m,hm,rfl⟩,_⟩);exact⟨n,by simp,rfl⟩;exact⟨m,by simp[hm],rfl⟩;rintro⟨m,hm,rfl⟩;by_cases h:m.1=n.1;exact .inl h;rcases ao.mp hm with rfl|hm;exact absurd rfl h;exact .inr ⟨⟨m,hm,rfl⟩,by simpa using h⟩
theorem ju:∀ns:ef Nd,(eZ ns).Nodup
 |[]=>bT
 |n::ns=>by rw[eZ,aX];exact⟨λh=>by simpa using (aZ.mp h).2,(ju ns).sublist List.filter_sublist⟩
def eD.start (c:eD):ef Str:=eZ c.sn
def eD.isP (c:eD)(m:Nat)(x:Str):Prop:=∃j,c.has m j/\j.1=x
inductive eD.Named (c:eD)(m:Nat):Pk->Prop
 |start {k:Pk}:c.has m k->k.1∈(c.needs none).map (·.1)->c.Named m k
 |next {j k:Pk}:c.Named m j->c.has m k->k.1∈(c.needs (some j)).map (·.1)->c.Named m k
structure i4 (c:eD)(L:iA)(s:Sd):Prop where
 pl:s.picked<2^c.n
 dl:s.dead<2^c.n
 just:∀k,c.has s.dead k->c.LA L s.picked k
 sup:∀k∈c.ks,(c.Lu none k\/c.foe k k\/∃j,c.has s.picked j/\c.foe k j)->c.has s.dead k
 off:∀k,c.has s.dead k->¬c.has s.picked k
 one:c.Ly s.picked
 named:∀k,c.has s.picked k->c.Named s.picked k
 wk:(s.wanted.map (·.1)).Nodup
 w1:∀x w,(x,w)∈s.wanted->¬c.isP s.picked x/\c.Lx s.picked w/\x∈(c.needs w).map (·.1)
 w2:∀w,c.Lx s.picked w->∀n∈c.needs w,c.isP s.picked n.1\/n.1∈s.wanted.map (·.1)
 ws:∀(i j:Nat) (x y:Str),(s.wanted.map (·.1))[i]?=some x->(s.wanted.map (·.1))[j]?=some y->y∈c.start->i<j->x∈c.start/\c.start.idxOf x<c.start.idxOf y
def i4.led {c:eD}(h:i4 c L s)(hL:∀e∈L,e∈L'):i4 c L' s:=⟨h.pl,h.dl,λk hk=>eD.LA.mono (h.just k hk) hL λ_ z=>z,h.sup,h.off,h.one,h.named,h.wk,h.w1,h.w2,h.ws⟩
def i4.bar {c:eD}(h:i4 c L s){k:Pk}(b:k∈c.ks)(e:¬c.has s.picked k)(d:c.Lz L s.picked k):i4 c L {s with dead:=s.dead ||| c.bit k}:=by refine⟨h.pl,jv h.dl (c.Ll b),λj a=>?_,λj a g=>eD.Lg.mpr (.inl (h.sup j a g)),λj a=>?_,h.one,h.named,h.wk,h.w1,h.w2,h.ws⟩;rcases eD.Lg.mp a with y|y;exact h.just j y;rw[(eD.Lj b).mp y];exact .inr (.inr (.inr d));rcases eD.Lg.mp a with y|y;exact h.off j y;rw[(eD.Lj b).mp y];exact e
structure Fk where
 part:Str
 sd:Sd
 bit:el Pk
def eD.Rule (c:eD)(x:Str)(s:Sd):Prop:=
 (x∈c.start/\∀y∈c.start,c.start.idxOf y<c.start.idxOf x->c.isP s.picked y)\/(∀j j',j∈c.ks->j'∈c.ks->j.1=x->j'.1=x->¬c.has s.dead j->¬c.has s.dead j'->j=j')\/∀y∈c.start,c.isP s.picked y
structure kO (c:eD)(f:Fk):Prop where
 open_:f.part∈f.sd.wanted.map (·.1)
 rule:c.Rule f.part f.sd
 bit:∀k,f.bit=some k->k∈c.ks/\k.1=f.part/\∀j∈c.ks,j.1=f.part->k.2<j.2->c.has f.sd.dead j
def eD.LB (c:eD)(f:Fk)(s:Sd):Prop:=∃k,f.bit=some k/\s.picked=f.sd.picked ||| c.bit k/\∀j,c.has f.sd.dead j->c.has s.dead j
inductive fX (c:eD)(L:iA):ef Fk->Sd->Prop
 |nil {s:Sd}:s.picked=0->i4 c L s->fX c L [] s
 |cons {f:Fk} {F:ef Fk} {s:Sd}:fX c L F f.sd->kO c f->c.LB f s->i4 c L s->fX c L (f::F) s
def fX.sd {c:eD}(h:fX c L F s):i4 c L s:=by cases h with|nil _ h=>exact h|cons _ _ _ h=>exact h
def fX.led {c:eD}(a:∀e∈L,e∈L')(h:fX c L F s):fX c L' F s:=by induction h with|nil h1 h2=>exact .nil h1 (h2.led a)|cons _ h2 h3 h4 ih=>exact .cons ih h2 h3 (h4.led a)
def kO.out {c:eD}{f:Fk}(h:kO c f)(a:i4 c L f.sd):¬c.isP f.sd.picked f.part:=by obtain⟨⟨x,w⟩,b,e⟩:=aC.mp h.open_;have:=(a.w1 x w b).1;rw[show f.part=x from e.symm];exact this
def kO.LC {c:eD}{f:Fk}{k:Pk}(h:kO c f)(hs:i4 c L f.sd)(hk:f.bit=some k):¬c.has f.sd.picked k:=λz=>h.out hs ⟨k,z,(h.bit k hk).2.1⟩
def fX.sub {c:eD}(h:fX c L F s):∀g∈F,(∀j,c.has g.sd.picked j->c.has s.picked j)/\(∀j,c.has g.sd.dead j->c.has s.dead j)/\∀k,g.bit=some k->c.has s.picked k:=by induction h with|nil _ _=>intro g hg;cases hg|@cons f F s h1 h2 h3 h4 ih=>obtain⟨k,i,hp,e⟩:=h3;intro g hg;have d:=(h2.bit k i).1;rcases ao.mp hg with rfl|hg;refine⟨λj b=>by rw[hp];exact eD.Lg.mpr (.inl b),e,λl a=>?_⟩;rw[i]at a;cases a;rw[hp];exact eD.Lg.mpr (.inr ((eD.Lj d).mpr rfl));obtain⟨m,p,o⟩:=ih g hg;refine⟨λj b=>by rw[hp];exact eD.Lg.mpr (.inl (m j b)),λj b=>e j (p j b),λl a=>by rw[hp];exact eD.Lg.mpr (.inl (o l a))⟩
def fX.from {c:eD}(h:fX c L F s):∀j,c.has s.picked j->∃g∈F,g.bit=some j:=by induction h with|nil h1 _=>intro j a;rw[h1]at a;exact(eD.Lk a).elim|@cons f F s h1 h2 h3 h4 ih=>obtain⟨k,d,hp,i⟩:=h3;intro j a;rw[hp]at a;rcases eD.Lg.mp a with y|y;obtain⟨g,e,b⟩:=ih j y;exact⟨g,by simp[e],b⟩;rw[(eD.Lj (h2.bit k d).1).mp y];exact⟨f,by simp,d⟩
def fX.live {c:eD}(h:fX c L F s):∀g∈F,∀k,g.bit=some k->¬c.has g.sd.dead k:=λg hg k hk z=>by
 obtain⟨_,h2,h3⟩:=h.sub g hg;exact h.sd.off k (h2 k z) (h3 k hk)
def fX.to {c:eD}(h:fX c L F s):∀{A:ef Fk} {g:Fk} {B:ef Fk},F=A++g::B->fX c L B g.sd/\kO c g:=by
 induction h with|nil _ _=>intro A g B e;simp at e|@cons f F s h1 h2 h3 h4 ih=>
  intro A g B e;cases A with|nil=>rw[dJ]at e;cases e;exact⟨h1,h2⟩|cons a A=>
   rw[dj]at e;injection e with d b
   exact ih b
def eD.LD (c:eD)(k:Pk)(m:Nat)(s:Sd):Sd:=if iD (iD m (c.bit k)) s.picked=0 then {s with dead:=s.dead ||| c.bit k} else s
def eD.LE (c:eD)(k:Pk)(m:Nat)(f:Fk):Fk:={f with sd:=c.LD k m f.sd}
def eD.LF (c:eD)(k:Pk)(m:Nat)(s:Sd):(c.LD k m s).picked=s.picked:=by unfold eD.LD;split <;> rfl
def eD.LG (c:eD)(k:Pk)(m:Nat)(s:Sd):(c.LD k m s).wanted=s.wanted:=by unfold eD.LD;split <;> rfl
def eD.LH {c:eD}{k:Pk}(h:c.has s.dead j):c.has (c.LD k m s).dead j:=by unfold eD.LD;split;exact eD.Lg.mpr (.inl h);exact h
def eD.LI {c:eD}{k:Pk}(a:k∈c.ks)(h:c.has (c.LD k m s).dead j):c.has s.dead j\/j=k:=by unfold eD.LD at h;split at h;exact(eD.Lg.mp h).imp id (eD.Lj a).mp;exact .inl h
def eD.LJ {c:eD}{k:Pk}(b:k∈c.ks)(d:m<2^c.n):iD (iD m (c.bit k)) s.picked=0↔∀j,c.has m j->j=k\/c.has s.picked j:=by constructor;intro h j a;by_cases e:j=k;exact .inl e;refine .inr (Decidable.byContradiction λz=>?_);have:c.has (iD (iD m (c.bit k)) s.picked) j:=eD.Li.mpr ⟨eD.Li.mpr ⟨a,λy=>e ((eD.Lj b).mp y)⟩,z⟩;rw[h]at this;exact eD.Lk this;intro h;refine eD.Lm (jQ (jQ d)) λj a=>?_;obtain⟨l,g⟩:=eD.Li.mp a;obtain⟨o,i⟩:=eD.Li.mp l;rcases h j o with y|y;exact i ((eD.Lj b).mpr y);exact g y
def i4.LD {c:eD}(h:i4 c L s){k:Pk}{e:Nat×Rs}(b:k∈c.ks)(g:e∈L)(d:e.1<2^c.n)(a:c.has e.1 k)(i:¬c.has s.picked k):i4 c L (c.LD k e.1 s):=by
 unfold eD.LD;split
 next z=>exact h.bar b i ⟨e,g,a,(eD.LJ b d).mp z⟩
 exact h
def Rule.LD {c:eD}{k:Pk}(h:c.Rule x s):c.Rule x (c.LD k m s):=by unfold eD.Rule at *;rw[eD.LF];rcases h with h|h|h;exact .inl h;exact .inr (.inl λj b d e g a i l=>h j b d e g a (λz=>i (eD.LH z)) λz=>l (eD.LH z));exact .inr (.inr h)
def kO.LE {c:eD}{f:Fk}{k:Pk}(h:kO c f):kO c (c.LE k m f):=by refine⟨?_,Rule.LD h.rule,λj a=>?_⟩;show f.part∈(c.LD k m f.sd).wanted.map (·.1);rw[eD.LG];exact h.open_;obtain⟨g,d,l⟩:=h.bit j a;exact⟨g,d,λi b e o=>eD.LH (l i b e o)⟩
def fX.LE {c:eD}(h:fX c L F s){k:Pk}{e:Nat×Rs}(b:k∈c.ks)(t:e∈L)(l:e.1<2^c.n)(d:c.has e.1 k):¬c.has s.picked k->fX c L (F.map (c.LE k e.1)) (c.LD k e.1 s):=by
 induction h with|@nil s h1 h2=>exact λg=>.nil (by rw[eD.LF];exact h1) (h2.LD b t l d g)|@cons f F s h1 h2 h3 h4 ih=>
  intro g;obtain⟨y,q,hp,v⟩:=h3;have m:¬c.has f.sd.picked k:=λz=>g (by rw[hp];exact eD.Lg.mpr (.inl z));refine .cons (ih m) h2.LE ⟨y,q,?_,λj r=>?_⟩ (h4.LD b t l d g);rw[eD.LF,hp];show _=(c.LD k e.1 f.sd).picked ||| _;rw[eD.LF];by_cases hj2:c.has f.sd.dead j;exact eD.LH (v j hj2);have w:iD (iD e.1 (c.bit k)) f.sd.picked=0:=Decidable.byContradiction λz=>by have a:c.has (c.LD k e.1 f.sd).dead j:=r;unfold eD.LD at a;rw[av z]at a;exact hj2 a
  have o:j=k:=(eD.LI b r).elim (λz=>absurd z hj2) id;have p:iD (iD e.1 (c.bit k)) s.picked=0:=(eD.LJ b l).mpr λi x=>((eD.LJ b l).mp w i x).imp id λz=>by rw[hp];exact eD.Lg.mpr (.inl z)
  unfold eD.LD;rw[ay p,o];exact eD.Lg.mpr (.inr ((eD.Lj b).mpr rfl))
noncomputable def eD.left (c:eD)(x:Str)(s:Sd):ef Pk:=c.ks.filter λk=>decide (k.1=x)&&!decide (c.has s.dead k)
def eD.LK {c:eD}{k:Pk}:k∈c.left x s↔k∈c.ks/\k.1=x/\¬c.has s.dead k:=by unfold eD.left;rw[aZ,aF,aw,bQ,decide_eq_false_iff_not]
def eD.cnt (c:eD)(f:Fk):Nat:=(c.left f.part f.sd).length
def eD.LL (c:eD)(f:Fk):c.cnt f<=c.n:=bD _ _
def eD.mv (c:eD):Nat->ef Fk->Nat
 |0,_=>0
 |d+1,[]=>(c.n+1)*(c.n+2)^d+c.mv d []
 |d+1,f::F=>c.cnt f*(c.n+2)^d+c.mv d F
theorem eD.LM (c:eD):∀(d:Nat) (F:ef Fk),c.mv d F<(c.n+2)^d
 |0,_=>by unfold eD.mv;exact Nat.one_pos
 |d+1,[]=>by have:=eD.LM c d [];unfold eD.mv;rw[cN,Nat.mul_comm ((c.n+2)^d),show c.n+2=(c.n+1)+1 from rfl,Nat.add_mul ((c.n+1))];rw[show c.n+1+1=c.n+2 from rfl];lia
 |d+1,f::F=>by have h1:=eD.LM c d F;have h2:=c.LL f;have h3:c.cnt f*(c.n+2)^d<=(c.n+1)*(c.n+2)^d:=dF _ (by lia);unfold eD.mv;rw[cN,Nat.mul_comm ((c.n+2)^d),show c.n+2=(c.n+1)+1 from rfl,Nat.add_mul ((c.n+1))];rw[show c.n+1+1=c.n+2 from rfl];lia
theorem eD.LN (c:eD)(g:Fk):∀(d:Nat) (F:ef Fk),F.length<d->c.mv d (F++[g])<c.mv d F
 |0,_,h=>absurd h (ca _)
 |d+1,[],_=>by
  have h2:=c.LL g;have h3:c.cnt g*(c.n+2)^d+(c.n+2)^d<=(c.n+1)*(c.n+2)^d:=by rw[<-Nat.succ_mul];exact dF _ (by lia)
  have b:0<(c.n+2)^d:=Nat.pow_pos (by lia);show c.cnt g*(c.n+2)^d+c.mv d []<(c.n+1)*(c.n+2)^d+c.mv d [];lia
 |d+1,f::F,h=>by have a:=eD.LN c g d F (by rw[aE]at h;lia);show c.cnt f*(c.n+2)^d+c.mv d (F++[g])<c.cnt f*(c.n+2)^d+c.mv d F;lia
theorem eD.LO (c:eD){f g:Fk}{B:ef Fk}(b:c.cnt g<c.cnt f):∀(d:Nat) (A A':ef Fk),A'.length=A.length->(∀(i:Nat) (a a':Fk),A[i]?=some a->A'[i]?=some a'->c.cnt a'<=c.cnt a)->A.length<d->c.mv d (A'++[g])<c.mv d (A++f::B)
 |0,_,_,_,_,h=>absurd h (ca _)
 |d+1,[],A',h1,_,_=>by
  have:A'=[]:=bO.mp h1;subst this;have h2:=eD.LM c d [];have h3:c.cnt g*(c.n+2)^d+(c.n+2)^d<=c.cnt f*(c.n+2)^d:=by rw[<-Nat.succ_mul];exact dF _ b
  show c.cnt g*(c.n+2)^d+c.mv d []<c.cnt f*(c.n+2)^d+c.mv d B;lia
 |d+1,a::A,A',h1,h2,h3=>by cases A' with|nil=>simp at h1|cons a' A'=>have m:=eD.LO c b (B:=B) d A A' (by simpa using h1) (λi x l e j=>h2 (i+1) x l (by simpa using e) (by simpa using j)) (by rw[aE]at h3;lia);have o:=dF ((c.n+2)^d) (h2 0 a a' rfl rfl);show c.cnt a'*(c.n+2)^d+c.mv d (A'++[g])<c.cnt a*(c.n+2)^d+c.mv d (A++f::B);lia
def v8 (k j:Str×Int):PyData.eqv (mT k) (mT j)=decide (k=j):=by
 obtain⟨a,b⟩:=k;obtain⟨c,d⟩:=j;have e:PyData.eqv (mT (a,b)) (mT (c,d))=((a == c)&&((b == d)&&true)):=by simp[mT,PyData.eqv,PyData.eqvAll]
 rw[e,Bool.and_true];by_cases h1:a=c;subst h1;by_cases h2:b=d;subst h2;rw[aq rfl];simp;rw[au (λz=>h2 (Prod.mk.inj z).2)];simp[h2];rw[au (λz=>h1 (Prod.mk.inj z).1)];have g:(a == c)=false:=beq_false_of_ne h1;rw[g,bX]
theorem qj (k:Str×Int):∀ks:ef (Str×Int),((ks.map mT).any λz=>PyData.eqv z (mT k))=decide (k∈ks)
 |[]=>by simp
 |j::ks=>by
  rw[aH,List.any_cons,v8,qj k ks];by_cases h:j=k;subst h;simp;rw[au h,Bool.false_or];have:(k∈j::ks)↔k∈ks:=by rw[ao];exact⟨λz=>z.resolve_left λy=>h y.symm,.inr⟩
  simp only[this]
theorem kQ {k:Str×Int}(h:fU k.1):(mT k).canLay0=true/\(mT k).depth<=60:=by have z:=xb 1 (mT k) (by simp[mT,t6,h.ok]);exact⟨z.1,by lia⟩
theorem mS:∀{ks:ef (Str×Int)},(∀k∈ks,fU k.1)->PyData.canLayAll0 (ks.map mT)=true
 |[],_=>rfl
 |k::ks,h=>by rw[aH,PyData.canLayAll0,(kQ (h k (by simp))).1,mS λj hj=>h j (by simp[hj])];rfl
theorem lD {α:Type} [DecidableEq α]:∀{l m:ef α},l.Nodup->(∀x∈l,x∈m)->l.length<=m.length
 |[],_,_,_=>br _
 |x::l,m,hn,hs=>by
  rw[aX]at hn;have hx:x∈m:=hs x (by simp);have ih:l.length<=(m.erase x).length:=lD hn.2 λy hy=>by refine(List.mem_erase_of_ne ?_).mpr (hs y (by simp[hy]));intro e;subst e;exact hn.1 hy
  have:=List.length_erase_of_mem hx;have:=List.length_pos_of_mem hx;rw[aE];lia
def fX.bits {c:eD}(h:fX c L F s):∃ps:ef Pk,ps.length=F.length/\ps.Nodup/\∀k∈ps,c.has s.picked k:=by induction h with|nil _ _=>exact⟨[],rfl,bT,λk a=>nomatch a⟩|@cons f F s h1 h2 h3 h4 ih=>obtain⟨k,a,hp,g⟩:=h3;obtain⟨ps,d,e,b⟩:=ih;refine⟨k::ps,by rw[aE,aE,d],aX.mpr ⟨λz=>h2.LC h1.sd a (b k z),e⟩,λj hj=>?_⟩;rw[hp];rcases ao.mp hj with rfl|hj;exact eD.Lg.mpr (.inr ((eD.Lj (h2.bit j a).1).mpr rfl));exact eD.Lg.mpr (.inl (b j hj))
def fX.depth {c:eD}(h:fX c L F s):F.length<=c.n:=by obtain⟨g,b,e,d⟩:=h.bits;rw[<-b];exact lD e λk a=>(d k a).1
def eD.LP (c:eD)(wanted:ef (Str×el Pk))(w:el Pk)(pm:Nat)(g:ef (Str×el Pk)):Prop:=
 ∃E:ef Str,g.map (·.1)=wanted.map (·.1)++E/\E.Sublist (eZ (c.needs w))/\(∀x∈E,¬c.isP pm x/\x∉wanted.map (·.1))/\(∀x∈eZ (c.needs w),c.isP pm x\/x∈wanted.map (·.1)\/x∈E)/\
  ∀x u,(x,u)∈g->(x,u)∈wanted\/(u=w/\x∈eZ (c.needs w)/\¬c.isP pm x)
def jp {ns:ef Nd}:x∈eZ ns↔x∈ns.map (·.1):=by rw[iw,aC]
def tj {α:Type} [DecidableEq α] {a b:α}{l:ef α}(h:¬a=b):(a::l).idxOf b=l.idxOf b+1:=by
 rw[List.idxOf_cons];have:(a == b)=false:=by simpa using h
 rw[this];rfl
theorem sZ {α:Type} [DecidableEq α]:∀{E P:ef α},P.Nodup->E.Sublist P->∀(i j:Nat) (x y:α),E[i]?=some x->E[j]?=some y->i<j->P.idxOf x<P.idxOf y
 |_,_,_,.slnil,i,j,x,y,hx,_,_=>by simp at hx
 |E,p::P,hn,.cons _ h,i,j,x,y,hx,hy,hij=>by rw[aX]at hn;have hxp:¬p=x:=λe=>hn.1 (e▸h.subset (ai hx));have hyp:¬p=y:=λe=>hn.1 (e▸h.subset (ai hy));rw[tj hxp,tj hyp];exact Nat.succ_lt_succ (sZ hn.2 h i j x y hx hy hij)
 |e::E,_::P,hn,.cons₂ _ h,i,j,x,y,hx,hy,hij=>by
  rw[aX]at hn;cases j with|zero=>exact absurd hij (ca _)|succ j=>
   have hy':E[j]?=some y:=by simpa using hy
   have hyp:¬e=y:=λz=>hn.1 (z▸h.subset (ai hy'));rw[tj hyp];cases i with
   |zero=>
    have:e=x:=by simpa using hx
    subst this;rw[List.idxOf_cons_self];lia
   |succ i=>
   have a:E[i]?=some x:=by simpa using hx
   have hxp:¬e=x:=λz=>hn.1 (z▸h.subset (ai a));rw[tj hxp];exact Nat.succ_lt_succ (sZ hn.2 h i j x y a hy' (by lia))
def vC {c:eD}{d:Nat}{g:ef (Str×el Pk)}(t:d<2^c.n)(m:∀k,c.has d k↔k∈c.ks/\(c.Lu none k\/c.foe k k))(F:c.LP [] none 0 g):i4 c L ⟨0,d,g⟩:=by
 obtain⟨E,h,l,I,G,A⟩:=F;rw[cQ,dJ]at h;have a:∀k,¬c.has 0 k:=λk=>eD.Lk;have e:∀x,¬c.isP 0 x:=(by rintro x ⟨j,m,_⟩;exact a j m);have s:∀x,x∈E↔x∈eZ (c.needs none):=λx=>⟨λz=>l.subset z,λz=>by
  rcases G x z with y|y|y;exact(e x y).elim;cases y
  exact y⟩
 refine⟨bM _,t,λk r=>?_,λk r C=>(m k).mpr ⟨r,?_⟩,λk _=>a k,λj k z=>(a j z).elim,λk z=>(a k z).elim,?_,λx w q=>?_,λw v n D=>?_,λi j x y q B H p=>?_⟩;rcases ((m k).mp r).2 with y|y;exact .inl y;exact .inr (.inl y);rcases C with y|y|⟨j,y,_⟩;exact .inl y;exact .inr y;exact(a j y).elim;show(g.map (·.1)).Nodup;rw[h];exact(ju _).sublist l;rcases A x w q with y|⟨rfl,y,_⟩;cases y;exact⟨e x,trivial,jp.mp y⟩;cases w with|some k=>exact(a k v).elim|none=>right;show n.1∈g.map (·.1);rw[h,s];exact iw.mpr ⟨n,D,rfl⟩
 have b:E[i]?=some x:=by rw[<-h];exact q
 have o:E[j]?=some y:=by rw[<-h];exact B
 exact⟨l.subset (ai b),sZ (ju _) l i j x y b o p⟩
def Named.mono {c:eD}(a:∀j,c.has m j->c.has m' j){k:Pk}(h:c.Named m k):c.Named m' k:=by induction h with|start h1 h2=>exact .start (a _ h1) h2|next _ h2 h3 ih=>exact .next ih (a _ h2) h3
theorem lc {α:Type}{p:α->Bool}:∀{xs:ef α} {i j:Nat} {x y:α},(xs.filter p)[i]?=some x->(xs.filter p)[j]?=some y->i<j->∃i' j':Nat,xs[i']?=some x/\xs[j']?=some y/\i'<j'
 |[],i,j,x,y,hx,_,_=>by simp at hx
 |a::xs,i,j,x,y,hx,hy,hij=>by
  by_cases ha:p a=true;rw[aJ,ay ha]at hx hy;cases j with|zero=>exact absurd hij (ca _)|succ j=>
   have hy':(xs.filter p)[j]?=some y:=by simpa using hy
   cases i with
   |zero=>
    have e:a=x:=by simpa using hx
    obtain⟨j',d⟩:=aB.mp (aZ.mp (ai hy')).1;exact⟨0,j'+1,by simpa using e,by simpa using d,by lia⟩
   |succ i=>
   have b:(xs.filter p)[i]?=some x:=by simpa using hx
   obtain⟨i',j',h,g,l⟩:=lc b hy' (by lia);exact⟨i'+1,j'+1,by simpa using h,by simpa using g,by lia⟩
  rw[aJ,av ha]at hx hy;obtain⟨i',j',h,g,l⟩:=lc hx hy hij;exact⟨i'+1,j'+1,by simpa using h,by simpa using g,by lia⟩
theorem zG {c:eD}{f:Fk}{k:Pk}{d:Nat}{g:ef (Str×el Pk)}(o:i4 c L f.sd)(hf:kO c f)(P:k∈c.ks)(p:k.1=f.part)(B:¬c.has f.sd.dead k)(hd:d<2^c.n)(C:∀j,c.has f.sd.dead j->c.has d j)(ah:∀j∈c.ks,c.foe k j->c.has d j)(H:∀j,c.has d j->c.has f.sd.dead j\/c.foe k j\/(c.Lz L (f.sd.picked ||| c.bit k) j/\¬c.has (f.sd.picked ||| c.bit k) j))(hg:c.LP f.sd.wanted (some k) (f.sd.picked ||| c.bit k) g):i4 c L ⟨f.sd.picked ||| c.bit k,d,g.filter λxu=>!decide (xu.1=f.part)⟩:=by
 obtain⟨E,N,e2,e3,e4,e5⟩:=hg;have s:=hf.out o;have h:∀j,c.has (f.sd.picked ||| c.bit k) j↔c.has f.sd.picked j\/j=k:=λj=>by rw[eD.Lg,eD.Lj P]
 have ap:¬c.has f.sd.picked k:=λz=>s ⟨k,z,p⟩;have Y:∀j,c.has f.sd.picked j->¬c.foe k j:=λj l z=>B (o.sup k P (.inr (.inr ⟨j,l,z⟩)));have Z:¬c.foe k k:=λz=>B (o.sup k P (.inr (.inl z)));have v:∀x,c.isP (f.sd.picked ||| c.bit k) x↔c.isP f.sd.picked x\/x=f.part:=λx=>by constructor;rintro⟨j,l,rfl⟩;rcases (h j).mp l with y|rfl;exact .inl ⟨j,y,rfl⟩;exact .inr p;rintro(⟨j,l,rfl⟩|rfl);exact⟨j,(h j).mpr (.inl l),rfl⟩;exact⟨k,(h k).mpr (.inr rfl),p⟩
 have t:(g.filter λxu=>!decide (xu.1=f.part)).map (·.1)=(g.map (·.1)).filter λx=>!decide (x=f.part):=by rw[List.filter_map];rfl
 refine⟨jv o.pl (c.Ll P),hd,λj l=>?_,λj l al=>?_,λj l z=>?_,λi j D l e=>?_,λj l=>?_,?_,λx w M=>?_,λw hw m hm=>?_,λi j x y M hy I U=>?_⟩;rcases H j l with y|y|⟨y,_⟩;exact eD.LA.mono (o.just j y) (λ_ z=>z) λi D=>(h i).mpr (.inl D);exact .inr (.inr (.inl ⟨k,(h k).mpr (.inr rfl),eD.Lv y⟩));exact .inr (.inr (.inr y));rcases al with y|y|⟨i,D,y⟩;exact C j (o.sup j l (.inl y));exact C j (o.sup j l (.inr (.inl y)));rcases (h i).mp D with z|rfl;exact C j (o.sup j l (.inr (.inr ⟨i,z,y⟩)));exact ah j l (eD.Lv y);rcases H j l with y|y|⟨_,y⟩;rcases (h j).mp z with u|rfl;exact o.off j y u;exact B y;rcases (h j).mp z with u|rfl;exact Y j u y;exact Z y;exact y z;rcases (h i).mp D with y|rfl;rcases (h j).mp l with z|rfl;exact o.one i j y z e;exact(s ⟨i,y,by rw[e,p]⟩).elim;rcases (h j).mp l with z|rfl;exact(s ⟨j,z,by rw[<-e,p]⟩).elim;rfl;have A:∀i,c.has f.sd.picked i->c.has (f.sd.picked ||| c.bit k) i:=λi D=>(h i).mpr (.inl D);rcases (h j).mp l with y|rfl;exact Named.mono A (o.named j y);obtain⟨⟨x,w⟩,M,ex⟩:=aC.mp hf.open_;obtain⟨_,T,K⟩:=o.w1 x w M;have X:x=f.part:=ex;rw[X,<-p]at K;cases w with|none=>exact .start l K|some q=>exact .next (Named.mono A (o.named q T)) l K
 show((g.filter λxu=>!decide (xu.1=f.part)).map (·.1)).Nodup;rw[t,N];refine List.Nodup.sublist List.filter_sublist (bN.mpr ⟨o.wk,(ju _).sublist e2,λa ha b hb e=>?_⟩);exact(e3 b hb).2 (e▸ha);obtain⟨ag,R⟩:=aZ.mp M;have F:¬x=f.part:=by simpa using R
 rcases e5 x w ag with y|⟨rfl,y,z⟩;obtain⟨h1,T,K⟩:=o.w1 x w y;refine⟨λz=>?_,?_,K⟩;rcases (v x).mp z with u|u;exact h1 u;exact F u;cases w with|none=>trivial|some q=>exact(h q).mpr (.inl T)
 exact⟨z,(h k).mpr (.inr rfl),jp.mp y⟩;show c.isP (f.sd.picked ||| c.bit k) m.1\/m.1∈(g.filter λxu=>!decide (xu.1=f.part)).map (·.1);by_cases hmp:m.1=f.part;exact .inl ((v m.1).mpr (.inr hmp));have r:m.1∈g.map (·.1)->m.1∈(g.filter λxu=>!decide (xu.1=f.part)).map (·.1):=λz=>by rw[t];exact aZ.mpr ⟨z,by simpa using hmp⟩
 have old:c.Lx f.sd.picked w->c.isP (f.sd.picked ||| c.bit k) m.1\/m.1∈(g.filter λxu=>!decide (xu.1=f.part)).map (·.1):=λS=>by rcases o.w2 w S m hm with y|y;exact .inl ((v m.1).mpr (.inl y));exact .inr (r (by rw[N];exact aO _ y))
 cases w with|none=>exact old trivial|some q=>rcases (h q).mp hw with y|rfl;exact old y;rcases e4 m.1 (iw.mpr ⟨m,hm,rfl⟩) with y|y|y;exact .inl y;exact .inr (r (by rw[N];exact aO _ y));exact .inr (r (by rw[N];exact aS _ y))
 have Q:((g.map (·.1)).filter λx=>!decide (x=f.part))[i]?=some x:=by rw[<-t];exact M
 have an:((g.map (·.1)).filter λx=>!decide (x=f.part))[j]?=some y:=by rw[<-t];exact hy
 obtain⟨i',j',a1,O,a3⟩:=lc Q an U;rw[N]at a1 O;have aa:j'<(f.sd.wanted.map (·.1)).length:=Nat.lt_of_not_le λz=>by rw[bh z]at O;have ad:=ai O;have J:=e3 y ad;obtain⟨n,hn,G⟩:=iw.mp I;rcases o.w2 none trivial n hn with u|u;rw[G]at u;exact J.1 ((v y).mpr (.inl u));rw[G]at u;exact J.2 u
 rw[aQ aa]at O;rw[aQ (by lia)]at a1;exact o.ws i' j' x y a1 O I a3
theorem sE {c:eD}{first:Str}(i:i4 c L s)(g:(s.wanted.map (·.1))[0]?=some first)(r:(x=first/\first∈c.start)\/first∉c.start\/(c.left x s).length<=1):c.Rule x s:=by
 rcases r with ⟨rfl,hf⟩|hf|hl;refine .inl ⟨hf,λy e m=>?_⟩;obtain⟨n,o,b⟩:=iw.mp e;rcases i.w2 none trivial n o with u|u;rw[b]at u;exact u;rw[b]at u;obtain⟨j,d⟩:=aB.mp u;rcases dL j with rfl|hp;rw[g]at d;cases d;exact absurd m (cE _);have:=(i.ws 0 j x y g d e hp).2;lia;refine .inr (.inr λy e=>?_);obtain⟨n,o,b⟩:=iw.mp e;rcases i.w2 none trivial n o with u|u;rw[b]at u;exact u;rw[b]at u;obtain⟨j,d⟩:=aB.mp u;rcases dL j with rfl|hp;rw[g]at d;cases d;exact absurd e hf;exact absurd (i.ws 0 j first y g d e hp).1 hf;refine .inr (.inl λj B v w z q A t=>?_);have h:=eD.LK.mpr ⟨v,z,A⟩;have p:=eD.LK.mpr ⟨w,q,t⟩;cases hl2:c.left x s with|nil=>rw[hl2]at h;cases h|cons a l=>
  rw[hl2]at h p hl;have:l=[]:=by rw[aE]at hl;exact bO.mp (by lia)
  subst this;rw[aj.mp h,aj.mp p]
def eD.stop (c:eD)(m:Nat)(f:Fk):Bool:=match f.bit with
 |none=>false
 |some k=>decide (c.has m k)
def Dt {c:eD}:∀{F:ef Fk} {s:Sd},fX c L F s->(∀j,c.has m j->c.has s.picked j)->((F.dropWhile λf=>!c.stop m f)=[]/\∀j,¬c.has m j)\/∃A g B k,F=A++g::B/\(F.dropWhile λf=>!c.stop m f)=g::B/\g.bit=some k/\c.has m k/\(∀j,c.has m j->j=k\/c.has g.sd.picked j)/\fX c L B g.sd/\kO c g/\¬c.has g.sd.dead k:=by
 intro F s h;induction h with|nil h1 _=>exact λp=>.inl ⟨rfl,λj a=>by have:=p j a;rw[h1]at this;exact eD.Lk this⟩|@cons f F s h1 h2 h3 h4 ih=>
  obtain⟨k,l,hp,q⟩:=h3;have i:=(h2.bit k l).1;intro p;have b:¬c.has f.sd.dead k:=λz=>h4.off k (q k z) (by rw[hp];exact eD.Lg.mpr (.inr ((eD.Lj i).mpr rfl)));have d:∀j,c.has m j->c.has f.sd.picked j\/j=k:=λj a=>by have:=p j a;rw[hp]at this;exact(eD.Lg.mp this).imp id (eD.Lj i).mp
  by_cases hst:c.has m k;refine .inr ⟨[],f,F,k,rfl,?_,l,hst,λj a=>(d j a).symm,h1,h2,b⟩;rw[List.dropWhile_cons_of_neg];unfold eD.stop;rw[l];simp[hst];have o:∀j,c.has m j->c.has f.sd.picked j:=λj a=>(d j a).elim id λe=>absurd (e▸a) hst;have w:((f::F).dropWhile λf=>!c.stop m f)=F.dropWhile λf=>!c.stop m f:=by rw[List.dropWhile_cons_of_pos];unfold eD.stop;rw[l];simp[hst]
  rw[w];rcases ih o with y|⟨A,g,B,G,x,H,C,E,r,D,t,v⟩;exact .inl y;exact .inr ⟨f::A,g,B,G,by rw[x];rfl,H,C,E,r,D,t,v⟩
theorem xq:∀a b:Nat,iD a b+(a &&& b)=a:=by
 intro a;induction a using Nat.strongRecOn with|_ a ih=>
  intro b;by_cases h0:a=0;subst h0;simp[iD];have j:=ih (a / 2) (by lia) (b / 2);have l:iD a b / 2=iD (a / 2) (b / 2):=by unfold iD;rw[Nat.xor_div_two,Nat.and_div_two]
  have g:(a &&& b) / 2=a / 2 &&& b / 2:=Nat.and_div_two;have e:=oj a b 0;have d:=Nat.testBit_and a b 0;simp only[Nat.testBit_zero]at e d;rw[<-l,<-g]at j;have h:(iD a b % 2=1)↔(a % 2=1/\¬b % 2=1):=by have:=congrArg (·=true) e;simpa using this
  have i:((a &&& b) % 2=1)↔(a % 2=1/\b % 2=1):=by have:=congrArg (·=true) d;simpa using this
  generalize iD a b=x at *;generalize (a &&& b)=y at *;by_cases ea:a % 2=1 <;> by_cases eb:b % 2=1 <;> simp only[ea,eb,not_true_eq_false,not_false_eq_true,and_true,and_false,iff_true,iff_false,true_and,false_and]at h i <;> lia
theorem nZ (a b:Nat):Builtin.bitAnd (a:Int) (b:Int)=((a &&& b:Nat):Int):=by rw[bitAnd_pp (by lia) (by lia),bA,bA]
theorem qH (a b:Nat):Builtin.bitAnd (a:Int) (Builtin.bitNot (b:Int))=((iD a b:Nat):Int):=by rw[bitAnd_not,nZ];have:=xq a b;lia
theorem xC (a b:Nat):Builtin.bitOr (a:Int) (b:Int)=((a ||| b:Nat):Int):=by
 unfold Builtin.bitOr;have d:∀x:Nat,Builtin.bitNot (Builtin.bitNot (x:Int))=x:=λx=>by unfold Builtin.bitNot;lia
 rw[bitAnd_nn (by unfold Builtin.bitNot;lia) (by unfold Builtin.bitNot;lia),d a,d b,bA,bA,d]
theorem vX:∀m:Nat,m≠0->∃i q,m=2^i*(2*q+1):=by intro m;induction m using Nat.strongRecOn with|_ m ih=>intro h;rcases Nat.mod_two_eq_zero_or_one m with e|e;obtain⟨i,q,a⟩:=ih (m / 2) (by lia) (by lia);exact⟨i+1,q,by rw[cN,Nat.mul_assoc,Nat.mul_left_comm,<-a];lia⟩;exact⟨0,m / 2,by lia⟩
theorem tH (i q j:Nat):(2^i*(2*q+1)).testBit j=(decide (i=j)||(2^(i+1)*q).testBit j):=by rw[cD,cD];rcases Nat.lt_trichotomy j i with h|h|h;rw[au (by lia),au (show ¬i=j by lia),au (show ¬i+1<=j by lia)];rfl;subst h;rw[aq (am _),bW,aq rfl,Nat.testBit_zero];simp;rw[aq (by lia),au (show ¬i=j by lia),aq (show i+1<=j by lia)];obtain⟨d,rfl⟩:∃d,j=i+1+d:=⟨j-(i+1),by lia⟩;rw[show i+1+d-i=d+1 by lia,show i+1+d-(i+1)=d by lia,Nat.testBit_succ,show(2*q+1) / 2=q by lia];simp
theorem sU (i q:Nat):(2^i*(2*q+1)) &&& (2^i*(2*q+1)-1)=2^(i+1)*q:=by
 have e:2^i*(2*q+1)-1=2^(i+1)*q+(2^i-1):=by
  have d:0<2^i:=bM i;have b:2^i*(2*q+1)=2^(i+1)*q+2^i:=by rw[Nat.mul_add,Nat.mul_one,cN,<-Nat.mul_assoc]
  lia
 refine Nat.eq_of_testBit_eq λj=>?_;have a:2^i-1<2^(i+1):=by have:=bM i;rw[cN];lia
 rw[Nat.testBit_and,tH,e,Nat.testBit_two_pow_mul_add _ a,cD];by_cases h:j<i+1;rw[ay h,au (show ¬i+1<=j by lia),bX,Bool.or_false];rw[Nat.testBit_two_pow_sub_one];by_cases b:i=j;subst b;simp;simp[b];rw[av h,aq (show i+1<=j by lia),au (show ¬i=j by lia)];simp
theorem Db (i q:Nat):Builtin.bitAnd ((2^i*(2*q+1):Nat):Int) (-((2^i*(2*q+1):Nat):Int))=((2^i:Nat):Int):=by
 have a:0<2^i:=bM i;have b:2^i*(2*q+1)=2^(i+1)*q+2^i:=by rw[Nat.mul_add,Nat.mul_one,cN,<-Nat.mul_assoc]
 have e:-((2^i*(2*q+1):Nat):Int)=Builtin.bitNot ((2^i*(2*q+1)-1:Nat):Int):=by unfold Builtin.bitNot;lia
 rw[e,qH];have:=xq (2^i*(2*q+1)) (2^i*(2*q+1)-1);rw[sU]at this;lia
theorem oP (i q:Nat):2^i*(2*q+1)-2^i=2^(i+1)*q:=by
 have a:2^i*(2*q+1)=2^(i+1)*q+2^i:=by rw[Nat.mul_add,Nat.mul_one,cN,<-Nat.mul_assoc]
 lia
theorem mz {c:eD}{q:Nat}(h:2^i*(2*q+1)<2^c.n):∃k,c.ks[i]?=some k/\c.ix k=i/\c.listed (2^i*(2*q+1))=k::c.listed (2^(i+1)*q):=by
 have l:i<c.n:=by refine Nat.lt_of_not_le λz=>?_;have x:=Nat.pow_le_pow_right (show 0<2 by decide) z;have w:2^i<=2^i*(2*q+1):=Nat.le_mul_of_pos_right _ (by lia);lia
 have d:c.ks[i]?=some c.ks[i]:=ak l;refine⟨_,d,c.Le d,?_⟩;have g:c.ks=c.ks.take i++c.ks[i]::c.ks.drop (i+1):=by rw[<-df l,List.take_append_drop]
 have p:∀(m:Nat),(∀j,j<i->m.testBit j=false)->(c.ks.take i).filter (λk=>m.testBit (c.ix k))=[]:=λm s=>by
  rw[List.filter_eq_nil_iff];intro k a;obtain⟨j,b⟩:=aB.mp a;rw[cc]at b;split at b
  next hlt=>rw[c.Le b,s j hlt];decide
  cases b
 have e:∀k∈c.ks.drop (i+1),i<c.ix k:=λk a=>by obtain⟨j,b⟩:=aB.mp a;rw[List.getElem?_drop]at b;rw[c.Le b];lia
 have v:∀j,j<i->(2^i*(2*q+1)).testBit j=false:=λj b=>by rw[cD,au (by lia),bX]
 have o:∀j,j<i+1->(2^(i+1)*q).testBit j=false:=λj b=>by rw[cD,au (by lia),bX]
 have t:c.listed (2^i*(2*q+1))=c.ks[i]::(c.ks.drop (i+1)).filter (λk=>(2^i*(2*q+1)).testBit (c.ix k)):=by
  unfold eD.listed
  conv=>lhs;rw[g]
  rw[bR,p _ v,dJ,aJ,ay];rw[c.Le d,tH,aq rfl,Bool.true_or]
 have r:c.listed (2^(i+1)*q)=(c.ks.drop (i+1)).filter (λk=>(2^(i+1)*q).testBit (c.ix k)):=by
  unfold eD.listed
  conv=>lhs;rw[g]
  rw[bR,p _ (λj b=>o j (by lia)),dJ,aJ,av];rw[c.Le d,o i (by lia)];decide
 rw[t,r];congr 1;refine List.filter_congr λk a=>?_;rw[tH,au (show ¬i=c.ix k by have:=e k a;lia),Bool.false_or]
theorem A9 {q n:Nat}(h:2^i*(2*q+1)<2^n):2^(i+1)*q<2^n:=by have:=oP i q;have:=bM i;lia
structure og (es:ef En)(sn:ef Nd)(ps:ef Pk):Prop where
 one:∀j∈ps,∀k∈ps,j.1=k.1->j=k
 key:∀k∈ps,k∈es.map fb
 met:∀w:el Pk,(∀k,w=some k->k∈ps)->∀n∈gr es sn w,∃j∈ps,j.1=n.1/\lX n j.2=true
def oO {n:Nd}:v∈jc es n↔(n.1,v)∈es.map fb/\lX n v=true:=by rw[pQ,aZ];refine and_congr_left λ_=>?_;unfold il;simp only[aC,aZ,aw];constructor;rintro⟨e,⟨b,d⟩,g⟩;exact⟨e,b,Prod.ext d g⟩;rintro⟨e,b,h⟩;have a:(e.1,e.2.1)=(n.1,v):=h;rw[Prod.mk.injEq]at a;exact⟨e,⟨b,a.1⟩,a.2⟩
def sT {n:Nd}:v∈jz es n↔(n.1,v)∈es.map fb/\lX n v=true:=by unfold jz;rw[(List.mergeSort_perm _ _).mem_iff,oO]
def DM {sn:ef Nd}{ps:ef Pk}(G:∀(i:Nat) (l:Ln),ls[i]?=some l->ir es sn ls (i:Nat) l=true)(B:og es sn ps):∀(i:Nat) (l:Ln),ls[i]?=some l->¬∀p∈l.1,p∈ps:=by
 intro i;induction i using Nat.strongRecOn with|_ i ih=>
  intro l I b;have h:=G i l I;unfold ir at h;rw[aF]at h;obtain⟨E,h⟩:=h;cases hn:ij (gr es sn l.2.who) l.2.place with|none=>rw[hn]at h;cases h|some n=>
   rw[hn]at h;dsimp only at h;have r:=jN hn;obtain⟨j,C,m,s⟩:=B.met l.2.who (λk e=>b k (by
    rw[e]at E;have g:(decide (k∈l.1)&&decide (k∈es.map fb))=true:=E;rw[aF]at g
    exact aI g.1)) n r
   cases ht:l.2.told with|one k=>rw[ht]at h;have d:(decide (k∈l.1)&&qf n k)=true:=h;unfold qf at d;simp only[aF,aw,bQ]at d;obtain⟨A,w,F⟩:=d;have e:=B.one j C k (b k A) (by rw[m,w]);rw[<-e,s]at F;cases F|many bs=>
    rw[ht]at h;have d:j4 es ls (i:Nat) l.1 n bs=true:=h;unfold j4 at d;rw[aF,aw,bZ]at d;obtain⟨A,w⟩:=d;have o:j=(n.1,j.2):=Prod.ext m rfl;have K:j.2∈jz es n:=sT.mpr ⟨o▸B.key j C,s⟩;obtain⟨t,q⟩:=aB.mp K;have y:t<bs.length:=by rw[A];exact(af.mp q).1
    have H:(bs.zip (jz es n))[t]?=some (bs[t],j.2):=de.mpr ⟨ak y,q⟩;have v:=w _ (ai H);unfold qI at v;dsimp only at v;simp only[aF,aw]at v;obtain⟨D,J,a⟩:=v;cases hl2:ij ls bs[t] with|none=>rw[hl2]at a;cases a|some l'=>
     rw[hl2]at a;dsimp only at a;rw[bZ]at a;have x:ls[bs[t].toNat]?=some l':=by unfold ij at hl2;rw[ay D]at hl2;exact hl2
     refine ih bs[t].toNat (by omega) l' x λp hp=>?_;have:=a p hp;rw[cw,aw,aw]at this;rcases this with z|z;exact b p z;rw[z,<-o];exact C
def i4.fit {c:eD}(h:i4 c L s)(o:s.wanted=[]):og c.es c.sn (c.listed s.picked):=by
 refine⟨λj b k g e=>h.one j k (eD.Lf.mp b) (eD.Lf.mp g) e,λk g=>(c.mem k).mp (eD.Lf.mp g).1,λw i n m=>?_⟩;have a:c.Lx s.picked w:=by cases w with|none=>trivial|some k=>exact eD.Lf.mp (i k rfl)
 rcases h.w2 w a n m with ⟨j,b,d⟩|z;refine⟨j,eD.Lf.mpr b,d,Decidable.byContradiction λz=>?_⟩;have l:c.Lu w j:=⟨n,m,by unfold qf;rw[aq d,bJ.mpr z];rfl⟩;refine h.off j (h.sup j b.1 ?_) b;cases w with|none=>exact .inl l|some q=>exact .inr (.inr ⟨q,a,.inr l⟩)
 rw[o]at z;cases z
def yM {c:eD}{k:Pk}(l:∀j,c.has m j↔j∈c.left x s)(h:(c.listed m).getLast?=some k):k∈c.ks/\k.1=x/\¬c.has s.dead k/\∀j∈c.ks,j.1=x->k.2<j.2->c.has s.dead j:=by
 have e:=eD.LK.mp ((l k).mp (eD.Lf.mp (List.mem_of_getLast? h)));refine⟨e.1,e.2.1,e.2.2,λj q b o=>Decidable.byContradiction λz=>?_⟩;have g:j∈c.listed m:=eD.Lf.mpr ((l j).mpr (eD.LK.mpr ⟨q,b,z⟩));obtain⟨i,d⟩:=aB.mp g;have a:(c.listed m)[(c.listed m).length-1]?=some k:=by rw[<-List.getLast?_eq_getElem?];exact h
 have p:=(af.mp d).1;rcases cO i ((c.listed m).length-1) with h1|h1;obtain⟨y,w,r,t,v⟩:=lc d a h1;have:=c.srt _ _ j k r t v (by rw[b,e.2.1]);omega;have:i=(c.listed m).length-1:=by omega
 rw[this,a]at d;cases d;omega
def xV {c:eD}(b:m<2^c.n)(e:m≠0)(h:m &&& (m-1)=0):∃k∈c.ks,m=c.bit k:=by
 obtain⟨i,q,rfl⟩:=vX m e;rw[sU]at h;have d:q=0:=by rcases dL q with z|z;exact z;have:=Nat.mul_pos (bM (i+1)) z;omega
 subst d;obtain⟨k,a,g,_⟩:=mz b;refine⟨k,ai a,?_⟩;unfold eD.bit;rw[g];simp
def wn {c:eD}{e:Nat×Rs}{k:Pk}(a:k∈c.ks)(l:e∈L)(h:iD e.1 p=c.bit k):c.Lz L p k/\¬c.has p k:=by
 have b:c.has (iD e.1 p) k:=by rw[h];exact(eD.Lj a).mpr rfl
 obtain⟨i,d⟩:=eD.Li.mp b;refine⟨⟨e,l,i,λj g=>?_⟩,d⟩;by_cases hp:c.has p j;exact .inr hp;have:c.has (iD e.1 p) j:=eD.Li.mpr ⟨g,hp⟩;rw[h]at this;exact .inl ((eD.Lj a).mp this)
def vO {c:eD}{e:Nat×Rs}{k:Pk}(d:k∈c.ks)(g:e.1<2^c.n)(i:c.has e.1 k)(h:∀j,c.has e.1 j->j=k\/c.has p j)(l:¬c.has p k):iD e.1 p=c.bit k:=by refine eD.ext (jQ g) (c.Ll d) λj=>?_;rw[eD.Li,eD.Lj d];constructor;rintro⟨a,b⟩;exact(h j a).elim id λz=>absurd z b;rintro rfl;exact⟨i,l⟩
noncomputable def eD.LQ (c:eD)(L:iA)(k:Pk)(p:Nat):Nat:=(L.filter λe=>decide (c.has e.1 k)).foldl (λb e=>let r:=iD e.1 p;if r &&& (r-1)=0 then b ||| r else b) 0
theorem lR {c:eD}{p:Nat}:∀(L:iA) (b:Nat),(∀e∈L,e.1<2^c.n)->b<2^c.n->(L.foldl (λb e=>let r:=iD e.1 p;if r &&& (r-1)=0 then b ||| r else b) b<2^c.n)/\∀j,c.has (L.foldl (λb e=>let r:=iD e.1 p;if r &&& (r-1)=0 then b ||| r else b) b) j->c.has b j\/∃e∈L,iD e.1 p=c.bit j
 |[],b,_,hb=>⟨hb,λj hj=>.inl hj⟩
 |e::L,b,hL,hb=>by
  rw[List.foldl_cons];dsimp only;have he:=hL e (by simp);by_cases h:iD e.1 p &&& (iD e.1 p-1)=0;rw[ay h];obtain⟨i1,i2⟩:=lR (c:=c) (p:=p) L (b ||| iD e.1 p) (λx hx=>hL x (by simp[hx])) (jv hb (jQ he));refine⟨i1,λj hj=>?_⟩;rcases i2 j hj with z|⟨x,hx,y⟩;rcases eD.Lg.mp z with z|z;exact .inl z;refine .inr ⟨e,by simp,?_⟩;have h0:iD e.1 p≠0:=λw=>by rw[w]at z;exact eD.Lk z
  obtain⟨k,hk,e2⟩:=xV (jQ he) h0 h;rw[e2]at z ⊢;rw[(eD.Lj hk).mp z];exact .inr ⟨x,by simp[hx],y⟩;rw[av h];obtain⟨i1,i2⟩:=lR (c:=c) (p:=p) L b (λx hx=>hL x (by simp[hx])) hb;refine⟨i1,λj hj=>?_⟩;rcases i2 j hj with z|⟨x,hx,y⟩;exact .inl z;exact .inr ⟨x,by simp[hx],y⟩
def za {c:eD}{k:Pk}(h:ib c L):c.LQ L k p<2^c.n/\∀j,c.has (c.LQ L k p) j->c.Lz L p j/\¬c.has p j:=by obtain⟨g,d⟩:=lR (c:=c) (p:=p) (L.filter λe=>decide (c.has e.1 k)) 0 (λe a=>h.lt e (aZ.mp a).1) (bM _);refine⟨g,λj b=>?_⟩;rcases d j b with z|⟨e,a,y⟩;exact(eD.Lk z).elim;exact wn b.1 (aZ.mp a).1 y
end Lake.FB
namespace Lake
open PySem PySem.Spec PyProof.Rows Lake.FB
variable {H:Hp}{Q:dZ->d0->Prop}{X:Cx}{body e:Expr}{cy cy':dY}{j j':Nat}{params:Arguments}{pos:Pos}{s:d0}{scope:Scope}{x y y':Str}{σ:St}
noncomputable abbrev Jz (X:Cx)(A:dX)(qual:Str)(scope:Scope)(q c:dY)(cl:ef (Str×dY))(N':ef Str)(s:d0)(H:Hp):Cx:=
 {X with A:=A.deeper (W.envX qual scope s.heap.objs.size q (.ref c) cl),N:=N',s₀:=s,H₀:=H,env:=W.envX qual scope s.heap.objs.size q (.ref c) cl,outer:=X.stack,stack:=W.envX qual scope s.heap.objs.size q (.ref c) cl::X.stack,ex:=[],fn:=λ_=>false,calm:=true,pn:=[],xe:=λ_ _=>False}
structure Fy (X:Cx)(scope:Scope)(x y y':Str)(cy cy':dY)(j j':Nat):Prop where
 clos:closureFor scope X.env=pure [(y,cy),(y',cy')]
 l1:X.env.cells.lookup y=some cy
 l2:X.env.cells.lookup y'=some cy'
 kind:scope.kind=.function
 co:scope.isCoroutine=false
 gen:scope.isGenerator=false
 px:scope.names.lookup x=some .local
 nocell:∀z∈scope.names,z.2≠.cell
 frees:∀z,scope.names.lookup z=some .free->z=y\/z=y'
 f1:scope.names.lookup y=some .free
 f2:scope.names.lookup y'=some .free
 n1:X.N[j]?=some y
 n2:X.N[j']?=some y'
 k1:X.env.kindOf y=some .cell
 k2:X.env.kindOf y'=some .cell
 v1:Dv X.env.scope y
 v2:Dv X.env.scope y'
 ne:y'≠y
 xy:x≠y
 xy':x≠y'
section
variable {pins:ef (dY×Obj)}
def Be {A:dX}{k:Nat}{qual:Str}{pm ctv:dZ}{q c:dY}{te:TE}{v a b:V}{u:dZ}{Q:VK}(S:Fy X scope x y y' cy cy' j j')(hA:A.frames=some X.stack)(hr:gU (k+1) A)(I:eX X pins σ H s)(ho:s.heap.get? q=some (W.kla_obj "<lambda>" qual params body scope [(y,cy),(y',cy')] pm c ctv))(Z:s.heap.CodeRec (.ref c) qual)(L:∀u:dZ,bindArgs (W.kla_fn "<lambda>" qual params body scope [(y,cy),(y',cy')] pm (.ref c) ctv) ⟨[u],[]⟩=pure [(x,u)])(e1:σ[j]?=some (some a))(e2:σ[j']?=some (some b))(rv:fi v u)(hB:PE (Jz X A qual scope q c [(y,cy),(y',cy')] [x,y,y'] s H) body te)(h:te [some v,some a,some b] H Q):codeAny (model X.prog X.w) A (.call (.ref q) ⟨[u],[]⟩) (CR fC X.stack X.prog X.w H s Q E0) s:=by
 have O:(([(y,cy),(y',cy')]:ef (Str×dY)).lookup y)=some cy:=by rw[bg,beq_self_eq_true]
 have M:(([(y,cy),(y',cy')]:ef (Str×dY)).lookup y')=some cy':=by rw[bg,beq_false_of_ne S.ne,bg,beq_self_eq_true]
 have G:∀z d,([(y,cy),(y',cy')]:ef (Str×dY)).lookup z=some d->X.env.cells.lookup z=some d:=λz d e=>by by_cases q:z=y;subst q;rw[O]at e;rw[S.l1];exact e;by_cases q':z=y';subst q';rw[M]at e;rw[S.l2];exact e;rw[bg,beq_false_of_ne q,bg,beq_false_of_ne q']at e;simp at e
 refine W.kla_callFunE hr.depth ho rfl S.co S.gen rfl Z ?_;rw[L u];refine ar (wpAny_newFunctionEnv S.nocell (λz hz=>by rw[aj.mp hz];exact S.px) (λh₁ Y U=>?_) S.kind);have K:∀b o,s.heap.get? b=some o->h₁.get? b=some o:=λb o e=>U.extBut b o (aW (aU e)) (az _ e);refine⟨I.nolimit.keeps K,W.kla_codeExpr ?_⟩;show wpAny (model X.prog X.w) (A.deeper (W.envX qual scope s.heap.objs.size q (.ref c) [(y,cy),(y',cy')])) (eval body (W.envX qual scope s.heap.objs.size q (.ref c) [(y,cy),(y',cy')])) _ _ _;have C:∀{i:Nat} {z:Str} {cz:dY} {t:V},X.N[i]?=some z->σ[i]?=some (some t)->Dv X.env.scope z->X.env.kindOf z=some .cell->X.env.cells.lookup z=some cz->∃F,fi t F/\s.heap.IsCell cz (some F):=λ{i z cz t} hn hs hv hk hl=>by obtain⟨m,_,loc⟩:=I.loc;obtain⟨F,r,l⟩:=loc i z t hn hs hv;rcases l with ⟨k,_⟩|⟨_,c2,e,g⟩;rw[hk]at k;cases k;rw[hl]at e;cases e;exact⟨F,r,g⟩
 have B:∀{cz:dY} {t:el dZ},s.heap.IsCell cz t->h₁.IsCell cz t:=λ{cz t} ⟨o,e,d⟩=>⟨o,K _ _ e,d⟩;have J:eX (Jz X A qual scope q c [(y,cy),(y',cy')] [x,y,y'] s H) [] [some v,some a,some b] H {s with heap:=h₁,toks:=s.toks+1}:=by
  refine⟨⟨I.ok.mod,S.kind,rfl,rfl,am _,λz1 z2 d D E=>I.ok.inj z1 z2 d (G _ _ D) (G _ _ E),λz hz=>?_,λz d hf _=>absurd (show false=true from hf) (by decide),λ_=>hr.hd,Around.frames_deeper hA,.inr ⟨rfl,rfl⟩,λb L=>absurd (show b∈([]:ef dY) from L) (by simp),I.bs,bz I.ok.bsz I.sz,λb _ _ L=>absurd (show b∈([]:ef dY) from L) (by simp),λb L=>absurd (show b∈([]:ef dY) from L) (by simp),I.stack,I.KL⟩,rfl,I.bare,Un.kept K,⟨_,Y,λi z t D E h3=>?_⟩,λz d e=>?_,I.hok.fresh (am _),λz d e=>I.freeC z d (G z d e),λp hp=>absurd (show p∈([]:ef (dY×Obj)) from hp) (by simp),I.hok.kept K,rfl⟩;have hz:scope.names.lookup z=some .cell\/scope.names.lookup z=some .free:=hz;rcases hz with hz|hz;exact absurd rfl (S.nocell _ (bE hz));rcases S.frees z hz with rfl|rfl;exact⟨cy,O⟩;exact⟨cy',M⟩
  match i,D,E with
  |0,D,E=>
   have R:x=z:=by simpa using D
   have P:v=t:=by simpa using E
   subst R P;exact⟨u,rv,.inl ⟨S.px,by simp⟩⟩
  |1,D,E=>
   have R:y=z:=by simpa using D
   have P:a=t:=by simpa using E
   subst R P;obtain⟨F,r,g⟩:=C S.n1 e1 S.v1 S.k1 S.l1;exact⟨F,r,.inr ⟨.inr S.f1,cy,O,B g⟩⟩
  |2,D,E=>
   have R:y'=z:=by simpa using D
   have P:b=t:=by simpa using E
   subst R P;obtain⟨F,r,g⟩:=C S.n2 e2 S.v2 S.k2 S.l2;exact⟨F,r,.inr ⟨.inr S.f2,cy',M,B g⟩⟩
  |i+3,D,_=>simp at D
  obtain⟨t,g⟩:=I.cell z d (G z d e);exact⟨t,B g⟩
 refine bV (hB [] _ _ H Q J h) (λF s' hE=>?_) λe s' hF=>False.elim hF;obtain⟨t,H',T,r,hq⟩:=hE;exact⟨t,H',T.os,T.bare,T.base,T.hok,r,hq⟩
end
def ic (qual:Str)(lp:Pos)(H:Hp)(P:dY):Prop:=H P=some (.tbl #[])\/∃c:dY,H P=some (.tbl #[rawInt lp.line,rawInt lp.col,.ref c])/\H c=some (.ext λh=>h.CodeRec (.ref c) qual)
def tZ (mg:Str->el dZ)(base:Heap):Prop:=∃bm ob,mg "__builtins__" = some (.ref bm)/\bm≠builtinsNs/\base.get? bm=some ob/\ob.cls=.type "module"/\ob.dict=some builtinsNs/\ob.data=.plain
section
variable {pins:ef (dY×Obj)}{A:dX}{E:dZ->d0->Prop}
def Bd {c P:dY}{lp:Pos}(S:Fy X scope x y y' cy cy' j j')(g:X.env.code=.ref c)(ad:W.codeHdIn X.K c P=true)(BM:tZ X.mg X.base)(ah:defaultsOf params X.env=([],[]))(I:eX X pins σ H s)(hT:ic (X.env.qual++"<lambda>") lp H P)(k:∀(q c':dY) (ctv:dZ) (s':d0) (H':Hp),eX X (pins++[(q,W.kla_obj "<lambda>" (X.env.qual++"<lambda>") params body scope [(y,cy),(y',cy')] ((X.mg "__name__").getD .none) c' ctv)]) σ H' s'->eN (del H [P]) H'->ic (X.env.qual++"<lambda>") lp H' P->H' c'=some (.ext λh=>h.CodeRec (.ref c') (X.env.qual++"<lambda>"))->Q (.ref q) s'):wpAny (model X.prog X.w) A (eval (.Lambda params body scope lp) X.env) Q E s:=by
 refine W.kla_eval ah ?_;obtain⟨bm,ob,b1,b2,b3,b4,b5,b6⟩:=BM;have tP:∃a,H P=some (.tbl a):=by rcases hT with e|⟨c',e,_⟩;exact⟨_,e⟩;exact⟨_,e⟩
 obtain⟨as,aa⟩:=tP;have gP:∀{a:Array dZ},H P=some (.tbl a)->s.heap.get? P=some (W.tabObj a):=λe=>(show gf X.prog X.w H s.heap P (.tbl _) from I.hok P _ e);have J:s.heap.Ns mainGlobals X.mg:=I.mod.glob.keeps I.bk;have hC:W.CodeHd s.heap c P:=W.codeHd_of_K I.kIn ad;have an:mainGlobals≠P:=λq=>by obtain⟨o,es,ep,e,R,_⟩:=J;have:=gP aa;rw[<-q,e]at this;cases this;cases R
 have ag:bm≠P:=λq=>by have:=(I.bs bm ob b3).2;rw[q,aa]at this;cases this
 have al:bm≠mainGlobals:=λq=>by obtain⟨o,es,ep,e,R,_⟩:=I.mod.glob;rw[q,e]at b3;cases b3;rw[R]at b6;cases b6
 have BA:s.heap.BuiltinsAt X.mg P:=⟨bm,ob,b1,b2,al,ag,I.bk _ _ b3,b4,b5,b6⟩;have Z:∀{c':dY} {ctv:dZ} {l:Heap} {B:Nat} {H':Hp},eX X pins σ H' {s with heap:=l,toks:=B}->eN (del H [P]) H'->ic (X.env.qual++"<lambda>") lp H' P->H' c'=some (.ext λh=>h.CodeRec (.ref c') (X.env.qual++"<lambda>"))->
   Q (.ref l.objs.size) {s with heap:=l.push (W.kla_obj "<lambda>" (X.env.qual++"<lambda>") params body scope [(y,cy),(y',cy')] ((X.mg "__name__").getD .none) c' ctv),toks:=B}:=λ{c' ctv l B H'} M hs ht hc=>by
  have I2:eX X pins σ H' {s with heap:=l.push (W.kla_obj "<lambda>" (X.env.qual++"<lambda>") params body scope [(y,cy),(y',cy')] ((X.mg "__name__").getD .none) c' ctv),toks:=B}:=M.kept (t':=B) λb o e=>az _ e;refine k _ c' ctv _ H' (I2.KM λp hp=>?_) hs ht hc;rcases aA.mp hp with z|z;exact I2.pin p (aS _ z);rw[aj.mp z];exact⟨aM _ rfl,M.hok.fresh (am _),Nat.ne_of_gt M.lt,M.KJ (am _),λv z=>by
   have z':Data.func _=Data.cell v:=z
   cases z'⟩
 have F:eN (del H [P]) H:=fM _ _;rcases hT with e|⟨c',e,ec⟩;refine W.kla_makeFunction S.clos I.ok.glob J g hC (gP e) trivial rfl an BA λc' ctv l B G T a0 D O=>?_;have d:H c'=none:=I.hok.fresh T;have Y:c'≠P:=λz=>by rw[z,e]at d;cases d
 have nP:∀b,H b=none->b≠P:=λb n z=>by rw[z,e]at n;cases n
 have nC:∀b o,s.heap.get? b=some o->b≠c':=λb o q=>aW (bb (aU q) T);have C:∀b,b≠c'->b≠P->upd (upd H P (.tbl #[rawInt lp.line,rawInt lp.col,.ref c'])) c' (.ext λh=>h.CodeRec (.ref c') (X.env.qual++"<lambda>")) b=H b:=λb h1 h2=>by rw[eB h1,eB h2]
 have i:∀b u,H b=some u->(∀a,u≠.tbl a)->upd (upd H P (.tbl #[rawInt lp.line,rawInt lp.col,.ref c'])) c' (.ext λh=>h.CodeRec (.ref c') (X.env.qual++"<lambda>")) b=some u:=λb u q nt=>by rw[C b (λz=>by rw[z,d]at q;cases q) (λz=>by rw[z,e]at q;cases q;exact nt _ rfl)];exact q
 have M:eX X pins σ (upd (upd H P (.tbl #[rawInt lp.line,rawInt lp.col,.ref c'])) c' (.ext λh=>h.CodeRec (.ref c') (X.env.qual++"<lambda>"))) {s with heap:=l,toks:=B}:=by
  refine I.step (g':=s.gens) (d':=s.drawn) (ch:=[]) (λ_ z=>nomatch z) (λb o _ _ _ q n=>G b o (nP b n) q) (λb o _ _ _ q n=>⟨o.slots,G b o (nP b n) q⟩) (λb o _ q n=>by rw[C b (nC b o q) (nP b n)];exact n) (λb o _ q=>?_)
   (λb xs q=>i b _ q (λa z=>nomatch z)) (λb o u q=>i b _ q (λa z=>nomatch z)) (λb a q=>?_) (λm hm=>?_) (λb u q=>?_) I.bare
  by_cases hb:b=P;exact⟨_,by rw[hb];exact O⟩;exact⟨o,G b o hb q⟩;by_cases hb:b=P;subst hb;rw[e]at q;cases q;exact⟨#[rawInt lp.line,rawInt lp.col,.ref c'],by rw[eB (Ne.symm Y),er];simp⟩;exact⟨#[],by rw[C b (λz=>by rw[z,d]at q;cases q) hb,q];simp⟩;obtain⟨o,es,ep,ho,r⟩:=hm;exact⟨o,es,ep,G _ o (nP _ I.free) ho,r⟩;by_cases hb:b=c';subst hb;rw[er]at q;cases q;obtain⟨L,oc,vs,t,e2,U,R,hv⟩:=D;cases e2;exact⟨⟨_,oc,vs,t,rfl,U,R,hv⟩,⟨oc,U⟩,λh1 h2 ⟨c3,o3,v3,t3,g1,g2,g3,g4⟩ hk=>by
   cases g1
   exact⟨_,o3,v3,t3,rfl,hk _ g2,g3,g4⟩⟩
  rw[eB hb]at q;by_cases hb2:b=P;subst hb2;rw[er]at q;cases q;show l.get? b=some (W.tabObj _);rw[O];simp;rw[eB hb2]at q;refine(I.hok b u q).KH (λL w' hc2 z=>G L w' (λN=>?_) z) (λL z=>i L _ z (λa N=>nomatch N)) λL xs z=>i L _ z (λa N=>nomatch N);rcases hc2 with hc2|hc2;exact hb2 (hc2▸N);rw[N,e]at hc2;cases hc2
 refine Z M (λb u q=>?_) (.inr ⟨c',by rw[eB (Ne.symm Y),er],er⟩) er;by_cases hb:b=P;rw[hb,gc (by simp)]at q;cases q;rw[eM (by simpa using hb)]at q;rw[C b (λz=>by rw[z,d]at q;cases q) hb];exact q;have D:s.heap.CodeRec (.ref c') (X.env.qual++"<lambda>"):=(show gf X.prog X.w H s.heap c' (.ext λh=>h.CodeRec (.ref c') (X.env.qual++"<lambda>")) from I.hok c' _ ec).1;refine W.kla_makeFunctionHit (cv:=.ref c') S.clos I.ok.glob J g hC (gP e) trivial (by simp[codeAmong,rawInt]) BA λctv l B G ap=>?_;exact Z (I.kept (t':=B) G) F (.inr ⟨c',e,ec⟩) ec
end
section
variable {pq:ef (dY×Obj)}{d q it S:dY}{o oq:Obj}{kvs:ef (gM×V)}{es:Array DictEntry}{ep:Nat}{kf:Nat->Int}{R:Result->d0->Prop}
def tX (X:Cx)(σ:St)(H:Hp)(q:dY)(oq:Obj)(kvs:ef (gM×V))(kf:Nat->Int):Prop:=∀(i:Nat) (kv:gM×V),kvs[i]?=some kv->∀(pins:ef (dY×Obj)) (s:d0) (u:dZ),eX X pins σ H s->(q,oq)∈pins->fi (kV kv.1) u->
 wpAny (model X.prog X.w) X.A.in1 (call (.ref q) [u]) (EP X pins σ λv H'=>v=.int (kf i)/\H'=H) (λ_ _=>False) s
def uw {i:Nat}{kv:gM×V}{u:dZ}(a:tX X σ H q oq kvs kf)(y:(q,oq)∈pq)(e:jW X pq H it)(d:jW X pq H S)(o:kvs[i]?=some kv)(C:fi (kV kv.1) u)(I:eX X pq σ H s){oI oS:Obj}(B:s.heap.get? it=some oI)(m:s.heap.get? S=some oS)(j:∀v,oI.data≠.cell v)(l:∀v,oS.data≠.cell v)(h:∀s' t,eX X pq σ H s'->s'.heap.get? it=some oI->s'.heap.get? S=some oS->Q (.int (kf i) t) s'):wpAny (model X.prog X.w) X.A.in1 (call (.ref q) [u]) Q (λ_ _=>False) s:=by
 have J:eX X (pq++[(it,oI),(S,oS)]) σ H s:=I.KM λp hp=>by rcases aA.mp hp with z|z;exact I.pin p (aS _ z);rcases ao.mp z with z|z;rw[z];exact⟨B,e.1,e.2.1,e.2.2.1,j⟩;rw[aj.mp z];exact⟨m,d.1,d.2.1,d.2.2.1,l⟩
 refine bV (a i kv o _ s u J (aO _ y) C) (λv s' g=>?_) λ_ _ z=>z;obtain⟨E,F,b,r,x,D⟩:=g;subst x D;obtain⟨t,rfl⟩:=(show ∃t,v=Value.int (kf i) t from r);exact h s' t b.KW (b.pin (it,oI) (aS _ (aS _ (by simp)))).1 (b.pin (S,oS) (aS _ (aS _ (by simp)))).1
def ES (hc:X.calm=true)(hH:H d=some (.frz o (.dK kvs)))(hd:o.data=.dict es ep)(hq:(q,oq)∈pq)(L:S≠it)(B:jW X pq H it)(m:jW X pq H S)(Z:tX X σ H q oq kvs kf)(hR:∀i kv u s',kvs[i]?=some kv->(∀j,j<kvs.length->kf i<=kf j)->eX X pq σ H s'->fi (kV kv.1) u->R (.ok (.ret u)) s'):∀(r j i:Nat) (s:d0) (vb:dZ) (tb:Tok) (c:Nat) (kv:gM×V),es.size-(j+1)=r->j+1<=es.size->eX X pq σ H s->s.heap.get? S=some (seqObj "list" #[vb,.int (kf i) tb] c)->s.heap.IsKeyIter it d (j+1) es.size ep->kvs[i]?=some kv->fi (kV kv.1) vb->(∀j',j'<=j->kf i<=kf j')->codeAny (model X.prog X.w) X.A (.builtin "min.loop" ⟨[.ref it,.ref q,.ref S],[]⟩) R s:=by
 have l:(toString "min"++toString ".loop" : String) = "min.loop":=by decide
 intro r;induction r with|zero=>intro j i s vb tb c kv hr hj I O J hk rk g;obtain⟨ho,_,_,ad,aa,y,hn,p⟩:=ow I.hok hH;rw[hd]at y;cases y;refine dH PySem.F.entry_min_loop ?_;rw[Around.under_plainId PySem.F.plain_min_loop _];show wpAny _ X.A.in1 (seqItems? (.ref S) >>= _) _ _ _;refine ac (dP O rfl ?_);show wpAny _ X.A.in1 (tryCatch (pyNext (.ref it)) _ >>= _) _ _ _;refine ac (cY (vP (show X.A.in1.handled=none from I.ok.hd hc) J ho hd (by omega) λM T=>?_));have I1:eX X pq σ H {s with heap:=M}:=I.turned (t':=s.toks) (λb o C e=>T b o C e) B.1 B.2.1 B.2.2.2.1 B.2.2.2.2.1 B.2.2.2.2.2;have K:=T S _ L O;have s1:=Heap.SameBut.update M S (Obj.mapSeq λ_=>(#[]:Array dZ));have I2:eX X pq σ H {s with heap:=M.update S (Obj.mapSeq λ_=>(#[]:Array dZ))}:=I1.turned (t':=s.toks) (λb o C e=>(s1.2 b C).trans e) m.1 m.2.1 m.2.2.2.1 m.2.2.2.2.1 m.2.2.2.2.2;show wpAny _ X.A.in1 (updateSeq S (λ_=>#[]) >>= _) _ _ _;refine ac ?_;refine wpAny_updateSeq K rfl (ac (wpAny_letGo (ar ?_)));exact hR i kv vb _ hk (λj' U=>g j' (by omega)) I2 rk|succ r ih=>
  intro j i s vb tb c kv hr hj I O J hk rk g;obtain⟨ho,_,_,ad,aa,y,hn,p⟩:=ow I.hok hH;rw[hd]at y;cases y;have h:j+1<es.size:=by omega
  have D:kvs[j+1]?=some (kvs[j+1]'(by omega)):=ak (by omega);refine dH PySem.F.entry_min_loop ?_;rw[Around.under_plainId PySem.F.plain_min_loop _];show wpAny _ X.A.in1 (seqItems? (.ref S) >>= _) _ _ _;refine ac (dP O rfl ?_);show wpAny _ X.A.in1 (tryCatch (pyNext (.ref it)) _ >>= _) _ _ _;refine ac (cY (oN J ho hd h λM N sb=>?_));have I1:eX X pq σ H {s with heap:=M}:=I.turned (t':=s.toks) (λb o C e=>(sb.2 b C).trans e) B.1 B.2.1 B.2.2.2.1 B.2.2.2.2.1 B.2.2.2.2.2;have K:M.get? S=_:=(sb.2 S L).trans O;obtain⟨oI,eI,cI,dI⟩:=id N;show wpAny _ X.A.in1 (tryCatch (holding [es[j+1].key] (call (.ref q) [es[j+1].key])) _ >>= _) _ _ _;refine ac (cY (bB (bV (uw Z hq B m D (p _ _ h D) I1 eI K (λv z=>by rw[dI]at z;cases z) (λv z=>by cases z) (Q:=λv s'=>∃t,v=Value.int (kf (j+1)) t/\eX X pq σ H s'/\s'.heap.get? it=some oI/\s'.heap.get? S=some (seqObj "list" #[vb,.int (kf i) tb] c)) λs' t a b e=>⟨t,rfl,a,b,e⟩) (λx s2 he=>?_) λ_ _ hF=>hF.elim)));obtain⟨E,rfl,I2,Y,G⟩:=he;have P:s2.heap.IsKeyIter it d (j+1+1) es.size ep:=⟨oI,Y,cI,dI⟩;show wpAny _ X.A.in1 (tryCatch (holding [es[j+1].key,.int (kf (j+1)) E] (richCompare .Lt (.int (kf (j+1)) E) (.int (kf i) tb) >>= _)) _ >>= _) _ _ _;refine ac (cY (bB (ac (lt_int ?_))));refine ac (bB (bU ?_));refine ac (wpAny_letGo (ar ?_));by_cases C:kf (j+1)<kf i;have s1:=Heap.SameBut.update s2.heap S (Obj.mapSeq λ_=>#[es[j+1].key,.int (kf (j+1)) E]);obtain⟨c2,hc2⟩:∃c2,(s2.heap.update S (Obj.mapSeq λ_=>#[es[j+1].key,.int (kf (j+1)) E])).get? S=some (seqObj "list" #[es[j+1].key,.int (kf (j+1)) E] c2):=⟨_,get?_update_seq G λ_=>#[es[j+1].key,.int (kf (j+1)) E]⟩;have I3:eX X pq σ H {s2 with heap:=s2.heap.update S (Obj.mapSeq λ_=>#[es[j+1].key,.int (kf (j+1)) E])}:=I2.turned (t':=s2.toks) (λb o C e=>(s1.2 b C).trans e) m.1 m.2.1 m.2.2.2.1 m.2.2.2.2.1 m.2.2.2.2.2;simp only[C,decide_true,if_true];refine ac ?_;refine wpAny_updateSeq G rfl (ac (wpAny_letGo ?_));rw[l];exact ar ⟨dt PySem.F.plain_min_loop _,ih (j+1) (j+1) _ _ E c2 _ (by omega) h I3 hc2 ⟨oI,(s1.2 it L.symm).trans Y,cI,dI⟩ D (p _ _ h D) λj' U=>by
   by_cases e:j'=j+1;subst e;exact Int.le_refl _
   have:=g j' (by omega);omega⟩
  simp only[C,decide_false,ce,if_false];refine ac (wpAny_letGo ?_);rw[l];exact ar ⟨dt PySem.F.plain_min_loop _,ih (j+1) i _ vb tb c kv (by omega) h I2 G P hk rk λj' U=>by
   by_cases e:j'=j+1;subst e;omega
   exact g j' (by omega)⟩
def ET {E:dZ->d0->Prop}(hc:X.calm=true)(I:eX X pq σ H s)(Y:H d=some (.frz o (.dK kvs)))(L:0<kvs.length)(hq:(q,oq)∈pq)(y:tX X σ H q oq kvs kf)(hQ:∀i kv u s',kvs[i]?=some kv->(∀j,j<kvs.length->kf i<=kf j)->eX X pq σ H s'->fi (kV kv.1) u->Q u s'):wpAny (model X.prog X.w) X.A (call (.builtin "min") [.ref d] [(Str.ofString "key",.ref q)]) Q E s:=by
 have h:(toString "min"++toString ".loop" : String) = "min.loop":=by decide
 obtain⟨ho,hS,hx,g,O,P,hn,r⟩:=ow I.hok Y;refine kmk_tree PySem.F.kind_min PySem.F.plain_min PySem.F.entry_min (kmk_min_key _ _) ?_;show wpAny _ X.A.in1 (Builtin.Builtins.bindParams "min" ["key","default"] 0 ⟨[],[(Str.ofString "key",.ref q)]⟩ >>= _) _ _ s;refine ac (wpAny_of_eq (show Builtin.Builtins.bindParams "min" ["key","default"] 0 ⟨[],[(Str.ofString "key",.ref q)]⟩=pure [some (.ref q),none] from rfl) (ac (ar ?_)));refine ac (oR ho hx P hS (ac (wpAny_newList ?_ (br _))));rw[h];generalize l:s.heap.objs.size=it;have z0:s.heap.get? it=none:=l▸bn (am _);have T:eX X pq σ H {s with heap:=s.heap.push {cls:=.type "dict_keyiterator",data:=.fields #[.ref d,.int 0 0,.int g.size 0,.int O 0]}}:=I.kept (t':=s.toks) λb o e=>az _ e;have G:jW X pq H it:=I.K7 z0 (I.hok.fresh (cB l));have K:(s.heap.push {cls:=.type "dict_keyiterator",data:=.fields #[.ref d,.int 0 0,.int g.size 0,.int O 0]}).get? it=some {cls:=.type "dict_keyiterator",data:=.fields #[.ref d,.int 0 0,.int g.size 0,.int O 0]}:=by rw[<-l];exact aM _ rfl
 generalize s.heap.push {cls:=.type "dict_keyiterator",data:=.fields #[.ref d,.int 0 0,.int g.size 0,.int O 0]}=h1 at *;generalize D:h1.objs.size=S;have U:h1.get? S=none:=D▸bn (am _);have J:S≠it:=λz=>by rw[z,K]at U;cases U
 have C:jW X pq H S:=T.K7 U (T.hok.fresh (cB D));have I2:eX X pq σ H {s with heap:=h1.push (seqObj "list" #[] 0)}:=T.kept (t':=s.toks) λb o e=>az _ e;have gS:(h1.push (seqObj "list" #[] 0)).get? S=some (seqObj "list" #[] 0):=by rw[<-D];exact aM _ rfl
 have gI:(h1.push (seqObj "list" #[] 0)).IsKeyIter it d 0 g.size O:=⟨_,az _ K,rfl,rfl⟩;have ad:(h1.push (seqObj "list" #[] 0)).get? d=some o:=(ow I2.hok Y).1;have m:0<g.size:=by omega
 have p:kvs[0]?=some (kvs[0]'L):=ak L;refine ar ⟨dt PySem.F.plain_min_loop _,dH PySem.F.entry_min_loop ?_⟩;rw[Around.under_plainId PySem.F.plain_min_loop _];show wpAny _ X.A.in1 (seqItems? (.ref S) >>= _) _ _ {s with heap:=h1.push (seqObj "list" #[] 0)};refine ac (dP gS rfl ?_);show wpAny _ X.A.in1 (tryCatch (pyNext (.ref it)) _ >>= _) _ _ _;refine ac (cY (oN gI ad P m λh' N sb=>?_));have I3:eX X pq σ H {s with heap:=h'}:=I2.turned (t':=s.toks) (λb o R e=>(sb.2 b R).trans e) G.1 G.2.1 G.2.2.2.1 G.2.2.2.2.1 G.2.2.2.2.2;have aa:h'.get? S=_:=(sb.2 S J).trans gS;obtain⟨oI,eI,cI,dI⟩:=id N;show wpAny _ X.A.in1 (tryCatch (holding [g[0].key] (call (.ref q) [g[0].key])) _ >>= _) _ _ _;refine ac (cY (bB (bV (uw y hq G C p (r _ _ m p) I3 eI aa (λv z=>by rw[dI]at z;cases z) (λv z=>by cases z) (Q:=λv s'=>∃t,v=Value.int (kf 0) t/\eX X pq σ H s'/\s'.heap.get? it=some oI/\s'.heap.get? S=some (seqObj "list" #[] 0)) λs' t a b e=>⟨t,rfl,a,b,e⟩) (λx s2 he=>?_) λ_ _ hF=>hF.elim)));obtain⟨B,rfl,I4,Z,M⟩:=he;have s1:=Heap.SameBut.update s2.heap S (Obj.mapSeq λ_=>#[g[0].key,.int (kf 0) B]);obtain⟨c2,hc2⟩:∃c2,(s2.heap.update S (Obj.mapSeq λ_=>#[g[0].key,.int (kf 0) B])).get? S=some (seqObj "list" #[g[0].key,.int (kf 0) B] c2):=⟨_,get?_update_seq M λ_=>#[g[0].key,.int (kf 0) B]⟩;have I5:eX X pq σ H {s2 with heap:=s2.heap.update S (Obj.mapSeq λ_=>#[g[0].key,.int (kf 0) B])}:=I4.turned (t':=s2.toks) (λb o R e=>(s1.2 b R).trans e) C.1 C.2.1 C.2.2.2.1 C.2.2.2.2.1 C.2.2.2.2.2;show wpAny _ X.A.in1 (updateSeq S (λ_=>#[g[0].key,.int (kf 0) B]) >>= _) _ _ _;refine ac ?_;refine wpAny_updateSeq M rfl ?_;rw[h];exact ar ⟨dt PySem.F.plain_min_loop _,ES hc Y P hq J G C y (λi kv u s' a b e f=>hQ i kv u s' a b e f) _ 0 0 _ _ B c2 _ rfl m I5 hc2 ⟨oI,(s1.2 it J.symm).trans Z,cI,dI⟩ p (r _ _ m p) λj' ag=>by
  have:j'=0:=by omega
  subst this;exact Int.le_refl _⟩
end
section
variable {c P:dY}{lp p kp:Pos}{te tb:TE}{k:Nat}
def Go (qual:Str)(lp:Pos)(P:dY)(j j':Nat)(te tb:TE):TE:=λσ H Q=>te σ H λx H1=>∃d o kvs a b,x=.ref d/\H1 d=some (.frz o (.dK kvs))/\0<kvs.length/\ic qual lp H1 P/\σ[j]?=some (some a)/\σ[j']?=some (some b)/\
 ∀H2,eN (del H1 [P]) H2->ic qual lp H2 P->∃kf:Nat->Int,(∀i kv,kvs[i]?=some kv->tb [some (kV kv.1),some a,some b] H2 λv H4=>v=.int (kf i)/\H4=H2)/\∀i kv,kvs[i]?=some kv->(∀m,m<kvs.length->kf i<=kf m)->Q (kV kv.1) H2
def Cz (hc:X.calm=true)(hr:gU (k+2) X.A)(S:Fy X scope x y y' cy cy' j j')(C:X.env.code=.ref c)(aa:W.codeHdIn X.K c P=true)(BM:tZ X.mg X.base)(R:defaultsOf params X.env=([],[]))(hg:Gl X "min")(hm:X.mg "min" = none)(he:PE X e te)(hb:∀(c':dY) (ctv pm u:dZ),bindArgs (W.kla_fn "<lambda>" (X.env.qual++"<lambda>") params body scope [(y,cy),(y',cy')] pm (.ref c') ctv) ⟨[u],[]⟩=pure [(x,u)])(hB:∀q c' s H,PE (Jz X X.A.in1 (X.env.qual++"<lambda>") scope q c' [(y,cy),(y',cy')] [x,y,y'] s H) body tb)(hs:autoParam (starEach [e] X.env=[(false,eval e X.env)]) gF._auto_1):PE X (.Call (.Name "min" p) [e] [⟨some "key",.Lambda params body scope lp,kp⟩] pos) (Go (X.env.qual++"<lambda>") lp P j j' te tb):=by
 intro E s σ H Q I h;refine bH (jP I hg hm PyProof.Rows.Boot.«min» ?_ (by decide) (by decide));refine callWith_kw ?_ (by rw[hs];rfl) (by rw[hs];rfl);have hA:=(eo he eA hs) pos E s σ H (λT G=>match T with|[x]=>(∃d o kvs a b,x=.ref d/\G d=some (.frz o (.dK kvs))/\0<kvs.length/\ic (X.env.qual++"<lambda>") lp G P/\σ[j]?=some (some a)/\σ[j']?=some (some b)/\
  ∀g,eN (del G [P]) g->ic (X.env.qual++"<lambda>") lp g P->∃kf:Nat->Int,(∀i l,kvs[i]?=some l->tb [some (kV l.1),some a,some b] g λv H4=>v=.int (kf i)/\H4=g)/\∀i l,kvs[i]?=some l->(∀m,m<kvs.length->kf i<=kf m)->Q (kV l.1) g)|_=>False) I h
 refine gm hA ?_;rintro us s1 ⟨T,G,I1,r,q0⟩
 match T,r,q0 with
 |[xv],r,⟨d,o,kvs,a,b,e2,hd,hne,hT,ea,eb,hq⟩=>
  subst e2;obtain⟨u,rfl,r1⟩:=jt r;cases (show u=Value.ref d from r1);refine kws_cons (Bd S C aa BM R I1 hT λq c' ctv s2 g I2 sm O Y=>kws_nil ?_);obtain⟨kf,hk,hQ⟩:=hq g sm O;have U:d≠P:=λz=>by rcases hT with w|⟨_,w,_⟩ <;> (rw[<-z,hd]at w;cases w)
  have L:g d=some (.frz o (.dK kvs)):=sm _ _ (by rw[eM (by simpa using U)];exact hd);refine ET (kf:=kf) hc I2 L hne (aS _ (aj.mpr rfl)) (λi l Z M J u' B hp ru=>?_) λi l u' J Z t B ru=>⟨kV l.1,g,B.KW,ru,hQ i l Z t⟩;have F:J.heap.CodeRec (.ref c') (X.env.qual++"<lambda>"):=(show gf X.prog X.w g J.heap c' (.ext λh=>h.CodeRec (.ref c') (X.env.qual++"<lambda>")) from B.hok c' _ Y).1;have N:X.A.in1.frames=some X.stack:=B.ok.frames;refine wpAny_call (codeAny_mono (Be (k:=k) S N hr.in1 B (B.pin _ (aS _ hp)).1 F (hb c' ctv _) ea eb ru (hB q c' J g) (hk i l Z)) λrr s4 D=>?_);cases rr with|error e=>exact(show False from D).elim|ok fl=>cases fl with|ret u2=>exact B.after D|next=>exact False.elim D|brk=>exact False.elim D|cont=>exact False.elim D
end
section
variable {C:dY}{o value:Expr}{f m:Str}{pos' tpos apos:Pos}{ta tv:TE}{t:TA}{es:ef Expr}
inductive Kv (C:dY)(f:Str)(Q:VK)(x:V)(H1:Hp):Prop
 |mk (a dx fs v:_)(_:x=.ref a)(_:H1 a=some (.ins C dx fs))(_:fs.lookup f=some v)(_:Q v H1)
def tF (C:dY)(f:Str)(ta:TE):TE:=λσ H Q=>ta σ H λx H1=>Kv C f Q x H1
def eT (c:qx X.K C)(n:gs X.K C f)(o:PE X e ta)(hb:autoParam (attributeBase e f X.env (eval e X.env)=eval e X.env) gF._auto_1):PE X (.Attribute e f pos) (tF C f ta):=by intro b s σ H Q I h;refine xD hb (gm (o b s σ H _ I h) ?_);rintro u t ⟨x,g,j,i,a,z,fs,v,d,p,l,q⟩;subst d;obtain rfl:u=Value.ref a:=i;exact mG j p c n l λy w r m=>⟨v,g,r,m,q⟩
inductive Kx (C:dY)(f:Str)(D:mN)(σ:St)(y:V)(x:V)(H2:Hp):Prop
 |mk (a dx fs:_)(_:x=.ref a)(_:H2 a=some (.ins C dx fs))(_:fs.length<1000)(_:D.nx σ (upd H2 a (.ins C dx (gz f y fs))))
def sF (C:dY)(f:Str)(ta tv:TE):TS:=λD σ H=>tv σ H λy H1=>ta σ H1 λx H2=>Kx C f D σ y x H2
def jV (c:qx X.K C)(n:gs X.K C f)(v:PE X o ta)(t:PE X value tv)(hs:autoParam (swapsWith value (some (.Attribute o f pos')) pos.line X.env=pure false) gF._auto_1):PS X (.Assign [.Attribute o f pos'] value pos) (sF C f ta tv):=by intro b s σ H D I h;refine plainObj_wpAny_Assign_Attribute (gm (t b s σ H _ I h) ?_) hs;rintro u g ⟨y,e,j,m,q⟩;refine gm (v b g σ e _ j q) ?_;rintro p F ⟨x,B,z,i,a,G,fs,d,w,l,A⟩;subst d;obtain rfl:p=Value.ref a:=i;exact mn z w c n l m λE r=>⟨σ,_,r,A⟩
inductive FM (C:dY)(f:Str)(tv:TE)(rd:V->V->Hp->VK->Prop)(D:mN)(σ:St)(x:V)(H1:Hp):Prop
 |mk (a dx fs v:_)(_:x=.ref a)(_:H1 a=some (.ins C dx fs))(_:fs.lookup f=some v)(_:tv σ H1 λy H2=>rd v y H2 λz H3=>∃dx' fs',H3 a=some (.ins C dx' fs')/\fs'.length<1000/\D.nx σ (upd H3 a (.ins C dx' (gz f z fs'))))
def GQ (C:dY)(f:Str)(ta tv:TE)(rd:V->V->Hp->VK->Prop):TS:=λD σ H=>ta σ H λx H1=>FM C f tv rd D σ x H1
def Cv {op:Operator}{rd:V->V->Hp->VK->Prop}(c:qx X.K C)(n:gs X.K C f)(R:PE X o ta)(P:PE X value tv)(d:FQ X op rd):PS X (.AugAssign (.Attribute o f tpos) op value pos) (GQ C f ta tv rd):=by intro b s σ H D I h;refine wpAny_AugAssign_AttributeAny (gm (R b s σ H _ I h) ?_);rintro J s1 ⟨x,F,m,G,a,dx,fs,v,g,U,l,q⟩;subst g;obtain rfl:J=Value.ref a:=G;refine mG m U c n l λu t B Q=>gm (P b t σ F _ B q) ?_;rintro i O ⟨y,N,r,L,A⟩;refine gm (d b O σ N v y u i _ r Q L A) ?_;rintro Y Z ⟨z,H3,j,M,T,p,e,S,E⟩;exact mn j e c n S M λs5 w=>⟨σ,_,w,E⟩
end
structure Mt (P:ee)(w:World)(K:W.Frag)(mg:Str->el dZ)(base:Heap)(C:dY)(CX:u4)(k:Nat)(m:Str)(ps:ef Str)(sp:Sp):Prop where
 cl:qx K C
 ex:∃g gd,fB P w K mg base CX k g gd ps sp/\iM K gd ps []/\wH K C m g
section
variable {CX:u4}{k:Nat}{C:dY}{o:Expr}{es:ef Expr}{m:Str}{ps:ef Str}{sp:Sp}{E:XK}{apos:Pos}{ta:TE}{t:TA}
def iq {pl:Sem Bool}(M:Mt X.prog X.w X.K X.mg X.base C CX k m ps sp)(h:gU k X.A)(i:ku CX X E)(a:PE X o ta)(d:PA X (e::es) t)(hst:autoParam (starEach (e::es) X.env=(false,eval e X.env)::starEach es X.env) gF._auto_1)(hpl:autoParam ((backTo pos (starEach es X.env)).any (·.1)=false) gF._auto_1)(ht:eval (.Call (.Attribute o m apos) (e::es) [] pos) X.env=(do
   let ov <-eval o X.env
   standAt apos.atName
   let (f,first) <-holding [ov] (getMethod ov m pl)
   callWith pos f first (backTo pos (starEach (e::es) X.env)) (backToKw pos (keywordEach [] X.env))):=by rfl) :
  PE X (.Call (.Attribute o m apos) (e::es) [] pos) (uc C m sp [] E ta t):=by
 obtain⟨g,l,F,b,j⟩:=M.ex;exact CA a M.cl j F h b .nil i d hst hpl ht
def qV {pl:Sem Bool}(M:Mt X.prog X.w X.K X.mg X.base C CX k m ps sp)(d:gU k X.A)(e:ku CX X E)(a:PE X o ta)(ht:eval (.Call (.Attribute o m apos) [] [] pos) X.env=(do
   let ov <-eval o X.env
   standAt apos.atName
   let (f,first) <-holding [ov] (getMethod ov m pl)
   callWith pos f first (backTo pos (starEach [] X.env)) (backToKw pos (keywordEach [] X.env))):=by rfl) :
  PE X (.Call (.Attribute o m apos) [] [] pos) (uc C m sp [] E ta xU):=by
 obtain⟨g,i,F,b,h⟩:=M.ex;exact As a M.cl h F d b .nil e ht
end
end Lake
namespace Lake.FB
open PySem PyProof.Rows
variable {H H':Hp}{a:dY}{v:V}{w:el Pk}{x:Str}
def eD.Who (c:eD)(w:el Pk):Prop:=∀k,w=some k->k∈c.ks
def eD.LR (c:eD)(w:el Pk)(k:Pk):Bool:=(c.needs w).any λn=>qf n k
def eD.LS {c:eD}{k:Pk}:c.LR w k=true↔c.Lu w k:=by unfold eD.LR eD.Lu;rw[dD]
def eD.LT (c:eD)(x:Str):Nat:=c.maskOf λk=>decide (k.1=x)
def jO (ns:ef Nd)(x:Str)(v:Int):Bool:=ns.all λn=>!decide (n.1=x)||lX n v
def eD.LU (c:eD)(w:el Pk)(x:Str):Nat:=c.maskOf λk=>decide (k.1=x)&&jO (c.needs w) x k.2
def eD.LV (c:eD)(w:el Pk):Nat:=c.maskOf (c.LR w)
def eD.LW (c:eD):el Pk->Nat
 |none=>c.LV none
 |some k=>c.maskOf λj=>c.LR (some k) j||c.LR (some j) k
def eD.LX {c:eD}{k:Pk}:c.has (c.LT x) k↔k∈c.ks/\k.1=x:=by unfold eD.LT;rw[eD.Lr,aw]
def eD.LY {c:eD}{k:Pk}:c.has (c.LV w) k↔k∈c.ks/\c.Lu w k:=by unfold eD.LV;rw[eD.Lr,eD.LS]
def eD.LZ {c:eD}{j k:Pk}:c.has (c.LW (some k)) j↔j∈c.ks/\c.foe k j:=by show c.has (c.maskOf _) j↔_;rw[eD.Lr,cw,eD.LS,eD.LS];exact Iff.rfl
def eD.L0 (c:eD)(w:el Pk):c.LW w<2^c.n:=by cases w <;> exact c.Ls _
def my {ns:ef Nd}{v:Int}:jO ns x v=true↔∀n∈ns,n.1=x->lX n v=true:=by unfold jO;rw[bZ];refine forall_congr' λn=>forall_congr' λ_=>?_;rw[cw,bQ,decide_eq_false_iff_not];exact⟨λh e=>h.resolve_left λz=>z e,λh=>(Decidable.em (n.1=x)).elim (λz=>.inr (h z)) .inl⟩
def eD.L7 {c:eD}(h:c.Who w):c.La w<2^c.n:=by cases w with|none=>exact bM _|some k=>exact c.Ll (h k rfl)
def eD.Ma {c:eD}(h:c.Who w){j:Pk}:c.has (c.La w) j↔w=some j:=by cases w with|none=>exact⟨λz=>(eD.Lk z).elim,λz=>by cases z⟩|some k=>rw[show c.La (some k)=c.bit k from rfl,eD.Lj (h k rfl)];exact⟨λz=>by rw[z],λz=>(Option.some.inj z).symm⟩
theorem EF {a b:Nat}(h:a &&& b=0):a ||| b=a+b:=by have d:=bitOr_and (a:Int) (b:Int);rw[xC,nZ,h]at d;lia
theorem eD.Mb {c:eD}:∀(l:ef Pk),l.Nodup->(∀k∈l,k∈c.ks)->(l.map λk=>(c.bit k:Int)).sum=(c.maskOf λk=>decide (k∈l):Nat)
 |[],_,_=>by
  have:c.maskOf (λk=>decide (k∈([]:ef Pk)))=0:=eD.Lm (c.Ls _) λk hk=>by have:=(eD.Lr.mp hk).2;simp at this
  rw[this];rfl
 |x::l,hn,hk=>by
  rw[aX]at hn;have ih:=eD.Mb l hn.2 λk h=>hk k (by simp[h]);have hx:=hk x (by simp);rw[aH,List.sum_cons,ih];have e:c.maskOf (λk=>decide (k∈x::l))=c.bit x ||| c.maskOf (λk=>decide (k∈l)):=by refine eD.ext (c.Ls _) (jv (c.Ll hx) (c.Ls _)) λk=>?_;rw[eD.Lg,eD.Lr,eD.Lr,eD.Lj hx,aw,aw,ao];constructor;rintro⟨a,h2|h2⟩;exact .inl h2;exact .inr ⟨a,h2⟩;rintro(h|⟨a,h2⟩);exact⟨h▸hx,.inl h⟩;exact⟨a,.inr h2⟩
  have d:c.bit x &&& c.maskOf (λk=>decide (k∈l))=0:=eD.Lm (oe (c.Ll hx)) λk h=>by obtain⟨a,h2⟩:=eD.Lh.mp h;rw[(eD.Lj hx).mp a]at h2;exact hn.1 (aI (eD.Lr.mp h2).2)
  rw[e,EF d];lia
def fK (w:el Pk):gi:=w.map iY
def iF {v:el Pk}(h:fK v=fK w):v=w:=by
 cases v with
 |none=>cases w with
  |none=>rfl
  |some k=>cases h
 |some j=>cases w with
  |none=>cases h
  |some k=>exact congrArg some (mY (Option.some.inj h))
def gW.key (h:gW H v w):mf H (fK w) v:=by cases w with|none=>exact h|some k=>obtain⟨q,rfl,e⟩:=(show fj H v k from h);exact⟨q,rfl,e⟩
def gW.of (h:mf H (fK w) v):gW H v w:=by cases w with|none=>exact h|some k=>obtain⟨q,rfl,e⟩:=(show ∃b,v=.ref b/\H b=some (.tup ((iY k).map kV)) from h);exact⟨q,rfl,e⟩
def iz (H:Hp)(a:dY)(c:eD)(g:el Pk->Nat):Prop:=∃kvs,Rd H a (.dN kvs)/\∀w,c.Who w->fc kvs (fK w)=some (.int (g w))
def kN (H:Hp)(a:dY)(c:eD)(g:el Pk->Nat):Prop:=∃kvs,Rd H a (.dN kvs)/\(∀kv∈kvs,∃w,c.Who w/\kv.1=fK w)/\∀w,c.Who w->fc kvs (fK w)=some (.int (g w))
def kN.to {c:eD}{g:el Pk->Nat}(h:kN H a c g):iz H a c g:=(by obtain⟨kvs,h1,_,h3⟩:=h;exact⟨kvs,h1,h3⟩)
def oF (H:Hp)(a:dY)(c:eD):Prop:=∃kvs,Rd H a (.dK kvs)/\∀k∈c.ks,∃v,fc kvs (Sum.inl (c.bit k:Int))=some v/\fj H v k
def me (H:Hp)(a:dY)(c:eD):Prop:=∃kvs,Rd H a (.dK kvs)/\∀x:Str,(fc kvs (Sum.inr x)).getD (.int 0)=.int (c.LT x)/\((∃k∈c.ks,k.1=x)->fc kvs (Sum.inr x)=some (.int (c.LT x)))
def jk (H:Hp)(d:dY)(c:eD)(w:el Pk):Prop:=∃o akv,H d=some (.frz o (.dK akv))/\akv.map (·.1)=(eZ (c.needs w)).map Sum.inr/\∀x∈eZ (c.needs w),fc akv (Sum.inr x)=some (.int (c.LU w x))
def t0 (H:Hp)(a:dY)(c:eD):Prop:=∃kvs,Rd H a (.dN kvs)/\∀w,c.Who w->∃d,fc kvs (fK w)=some (.ref d)/\jk H d c w
def iz.same (e:eN H H'){c:eD}{g:el Pk->Nat}(h:iz H a c g):iz H' a c g:=(by obtain⟨kvs,h1,h2⟩:=h;exact⟨kvs,iB e h1,h2⟩)
def kN.same (e:eN H H'){c:eD}{g:el Pk->Nat}(h:kN H a c g):kN H' a c g:=(by obtain⟨kvs,h1,h2⟩:=h;exact⟨kvs,iB e h1,h2⟩)
def me.same (e:eN H H'){c:eD}(h:me H a c):me H' a c:=(by obtain⟨kvs,h1,h2⟩:=h;exact⟨kvs,iB e h1,h2⟩)
def jk.same (e:eN H H'){d:dY}{c:eD}(h:jk H d c w):jk H' d c w:=(by obtain⟨o,akv,h1,h2⟩:=h;exact⟨o,akv,e _ _ h1,h2⟩)
def t0.same (e:eN H H'){c:eD}(h:t0 H a c):t0 H' a c:=(by obtain⟨kvs,h1,h2⟩:=h;exact⟨kvs,iB e h1,λw hw=>(by obtain⟨d,g1,g2⟩:=h2 w hw;exact⟨d,g1,g2.same e⟩)⟩)
def iz.get {c:eD}{g:el Pk->Nat}(h:iz H a c g)(hw:c.Who w)(hv:gW H v w):hU H a v (some (.int (g w))):=(by obtain⟨kvs,h1,h2⟩:=h;exact⟨kvs,fK w,h1,hv.key,(h2 w hw).symm⟩)
def kN.get {c:eD}{g:el Pk->Nat}(h:kN H a c g)(hw:c.Who w)(hv:gW H v w):hU H a v (some (.int (g w))):=h.to.get hw hv
def t0.get {c:eD}(h:t0 H a c)(hw:c.Who w)(hv:gW H v w):∃d,hU H a v (some (.ref d))/\jk H d c w:=let ⟨kvs,h1,h2⟩:=h;(by obtain⟨d,g1,g2⟩:=h2 w hw;exact⟨d,⟨kvs,fK w,h1,hv.key,g1.symm⟩,g2⟩)
def me.get {c:eD}(h:me H a c)(x:Str):∃o,iP H a (.str x) o/\o.getD (.int 0)=.int (c.LT x):=(by obtain⟨kvs,h1,h2⟩:=h;exact⟨_,.inl ⟨kvs,Sum.inr x,h1,rfl,rfl⟩,(h2 x).1⟩)
def me.isD {c:eD}(h:me H a c):HS H a:=(by obtain⟨kvs,h1,_⟩:=h;exact .inl ⟨kvs,h1⟩)
def jk.get {d:dY}{c:eD}(h:jk H d c w)(hx:x∈eZ (c.needs w)):iP H d (.str x) (some (.int (c.LU w x))):=(by obtain⟨o,akv,h1,_,h3⟩:=h;exact .inl ⟨akv,Sum.inr x,.inr ⟨o,h1⟩,rfl,(h3 x hx).symm⟩)
noncomputable abbrev Fo (b bits by_ ofp al sh fo:dY):ef (Str×V):=[("board",.ref b),("bits",.ref bits),("by_bit",.ref by_),("of_part",.ref ofp),("allowed",.ref al),("shut_out",.ref sh),("foes",.ref fo)]
inductive BX (CB CC:dY)(H:Hp)(p:dY)(c:eD):Prop
 |mk (dx b bits by_ ofp al sh fo st:_)(_:H p=some (.ins CC dx (Fo b bits by_ ofp al sh fo)))(_:fZ CB H b st c.es)(_:gv H st c.sn)(_:iz H bits c c.La)(_:oF H by_ c)(_:me H ofp c)(_:t0 H al c)(_:iz H sh c c.LV)(_:kN H fo c c.LW)
structure iQ (CB CC:dY)(H:Hp)(p:dY)(c:eD):Prop where
 ex:BX CB CC H p c
structure TC (K:W.Frag)(mg:Str->el dZ)(C:dY):Prop where
 cl:qx K C
 nBoard:gs K C "board"
 nBits:gs K C "bits"
 nBy:gs K C "by_bit"
 nOf:gs K C "of_part"
 nAl:gs K C "allowed"
 nSh:gs K C "shut_out"
 nFo:gs K C "foes"
 sorted:mg "sorted" = none
 max:mg "max" = none
 min:mg "min" = none
 sum:mg "sum" = none
end Lake.FB
namespace Lake
open PySem PySem.Spec PyProof.Rows Lake.FB
variable {H H':Hp}{b:dY}
def eL (H H':Hp):Prop:=∀b u,H b=some u->H' b=some u\/(DH u/\∃o,H' b=some (.frz o u))
def eN.toF (e:eN H H'):eL H H':=λb u h=>.inl (e b u h)
def eL.refl (H:Hp):eL H H:=λ_ _ h=>.inl h
def eL.trans {H1 H2:Hp}(a:eL H H1)(b:eL H1 H2):eL H H2:=λc u h=>by
 rcases a c u h with z|⟨f,o,z⟩;exact b c u z;rcases b c _ z with y|⟨g,_⟩;exact .inr ⟨f,o,y⟩;exact g.elim
def eL.no (e:eL H H'){u:HO}(h:H b=some u)(n:¬DH u):H' b=some u:=(e b u h).resolve_right λz=>n z.1
def eL.lst (e:eL H H'){xs:ef V}(h:H b=some (.lst xs)):H' b=some (.lst xs):=e.no h λz=>z
def eL.tup (e:eL H H'){xs:ef V}(h:H b=some (.tup xs)):H' b=some (.tup xs):=e.no h λz=>z
def eL.ins (e:eL H H'){C dx:dY}{fs:ef (Str×V)}(h:H b=some (.ins C dx fs)):H' b=some (.ins C dx fs):=e.no h λz=>z
def eL.frz (e:eL H H'){o:Obj}{u:HO}(h:H b=some (.frz o u)):H' b=some (.frz o u):=e.no h λz=>z
def eL.rd (e:eL H H'){u:HO}(h:Rd H b u):Rd H' b u:=by rcases h with h|⟨o,h⟩;rcases e b u h with z|⟨_,o,z⟩;exact .inl z;exact .inr ⟨o,z⟩;exact .inr ⟨o,e.frz h⟩
def eL.free (e:eL H H')(h:H' b=Option.none):H b=Option.none:=by cases q:H b with|none=>rfl|some u=>rcases e b u q with z|⟨_,o,z⟩;rw[z]at h;cases h;rw[z]at h;cases h
def eL.upd (e:eL H H'){u:HO}(h:H b=Option.none):eL H (upd H' b u):=λc v q=>by
 have:c≠b:=λz=>by rw[z,h]at q;cases q
 rcases e c v q with z|⟨f,o,z⟩;exact .inl (by rw[eB this];exact z);exact .inr ⟨f,o,by rw[eB this];exact z⟩
section
variable {X:Cx}{tg l:Expr}{tl:TE}
inductive Ih (R:It->Hp->Prop)(x:V)(H1:Hp):Prop
 |mk (a kvs:_)(_:x=.ref a)(_:Rd H1 a (.dK kvs))(_:∀o H2,eL H1 H2->(∀b,b≠a->H2 b=H1 b)->H2 a=some (.frz o (.dK kvs))->R (FC a o kvs) H2)
def Jw (tl:TE):TI:=λσ H R=>tl σ H λx H1=>Ih R x H1
inductive Ig (R:It->Hp->Prop)(x:V)(H1:Hp):Prop
 |mk (a kvs:_)(_:x=.ref a)(_:Rd H1 a (.dN kvs))(_:∀o H2,eL H1 H2->(∀b,b≠a->H2 b=H1 b)->H2 a=some (.frz o (.dN kvs))->R (Gb a o kvs) H2)
def Jv (tl:TE):TI:=λσ H R=>tl σ H λx H1=>Ig R x H1
def qQ {a:dY}{u:HO}{o:Obj}(e:H a=some u)(hu:DH u):eL H (upd H a (.frz o u)):=λb v h=>by
 by_cases hb:b=a;subst hb;rw[e]at h;cases h;exact .inr ⟨hu,o,er⟩;exact .inl (by rw[eB hb];exact h)
def ED (G:PE X l tl):PI X tg l (Jw tl):=by
 intro d s σ H R I h;refine gm (G d s σ H _ I h) ?_;rintro v m ⟨x,z,y,D,a,g,C,i,q⟩;subst C;cases (show v=Value.ref a from D);have B:∀(o:Obj) (p:Hp),eX X d σ p m->p a=some (.frz o (.dK g))->R (FC a o g) p->wpAny (model X.prog X.w) X.A (pyIter (.ref a)) (Iz X d σ tg R) X.xe m:=λo p j E O=>by obtain⟨F,N,K,J,M,t,L,_⟩:=ow j.hok E;refine oR F K t N ⟨m.heap.objs.size,[m.heap.objs.size],_,_,p,rfl,j.kept (t':=m.toks) λb o e=>az _ e,wN a _ o J M g t L,⟨_,aM _ rfl,rfl,rfl⟩,λb r=>?_,O⟩;rw[aj.mp r];exact j.KU (am _) (j.hok.fresh (am _))
 rcases i with i|⟨o,i⟩;obtain⟨o,_,j⟩:=y.freeze i trivial;exact B o _ j er (q o _ (qQ i trivial) (λb r=>eB r) er);exact B o z y i (q o z (eL.refl _) (λ_ _=>rfl) i)
def sJ (G:PE X l tl):PI X tg l (Jv tl):=by
 intro d s σ H R I h;refine gm (G d s σ H _ I h) ?_;rintro v m ⟨x,z,y,D,a,g,C,i,q⟩;subst C;cases (show v=Value.ref a from D);have B:∀(o:Obj) (p:Hp),eX X d σ p m->p a=some (.frz o (.dN g))->R (Gb a o g) p->wpAny (model X.prog X.w) X.A (pyIter (.ref a)) (Iz X d σ tg R) X.xe m:=λo p j E O=>by obtain⟨F,N,K,J,M,t,L,_⟩:=Bo j.hok E;refine oR F K t N ⟨m.heap.objs.size,[m.heap.objs.size],_,_,p,rfl,j.kept (t':=m.toks) λb o e=>az _ e,B8 a _ o J M g t L,⟨_,aM _ rfl,rfl,rfl⟩,λb r=>?_,O⟩;rw[aj.mp r];exact j.KU (am _) (j.hok.fresh (am _))
 rcases i with i|⟨o,i⟩;obtain⟨o,_,j⟩:=y.freeze i trivial;exact B o _ j er (q o _ (qQ i trivial) (λb r=>eB r) er);exact B o z y i (q o z (eL.refl _) (λ_ _=>rfl) i)
end
end Lake
namespace Lake.FB
open PySem PyProof.Rows
section
variable {G G' H H':Hp}{L:iA}{O O' Ol:ef dY}{a b p pp:dY}{j m pm:Nat}{kl:ef Pk}{kvp:ef (gi×V)}{v:V}{w:el Pk}{x:Str}
section
variable {H H':Hp}(e:eL H H')
include e
theorem fj.f {k:Pk}(h:fj H v k):fj H' v k:=(by obtain⟨q,h1,h2⟩:=h;exact⟨q,h1,e.tup h2⟩)
theorem fH.f {n:Nd}(h:fH H v n):fH H' v n:=(by obtain⟨q,h1,h2⟩:=h;exact⟨q,h1,e.tup h2⟩)
theorem gv.f {ns:ef Nd}(h:gv H a ns):gv H' a ns:=(by obtain⟨xs,h1,h2⟩:=h;exact⟨xs,e.lst h1,Paired.KG h2 λ_ _=>fH.f e⟩)
theorem nn.f {kv:gi×V}{n:En}(h:nn H kv n):nn H' kv n:=(by obtain⟨h1,a,zs,h2,h3,h4⟩:=h;exact⟨h1,a,zs,h2,e.lst h3,Paired.KG h4 λ_ _=>fH.f e⟩)
theorem fZ.f {C st:dY}{es:ef En}(h:fZ C H p st es):fZ C H' p st es:=by obtain⟨w,i,o,a,g,t,m,q,s,v⟩:=h.ex;refine⟨w,i,o,a,g,e.ins t,e.rd m,Paired.KG q λ_ _=>nn.f e,e.rd s,λx=>?_⟩;rcases v x with z|⟨l,b,j,r,y,d⟩;exact .inl z;exact .inr ⟨l,b,j,e.lst r,y,d⟩
theorem iz.f {c:eD}{g:el Pk->Nat}(h:iz H a c g):iz H' a c g:=(by obtain⟨kvs,h1,h2⟩:=h;exact⟨kvs,e.rd h1,h2⟩)
theorem kN.f {c:eD}{g:el Pk->Nat}(h:kN H a c g):kN H' a c g:=(by obtain⟨kvs,h1,h2⟩:=h;exact⟨kvs,e.rd h1,h2⟩)
theorem oF.f {c:eD}(h:oF H a c):oF H' a c:=(by obtain⟨kvs,h1,h2⟩:=h;exact⟨kvs,e.rd h1,λk hk=>(by obtain⟨v,g1,g2⟩:=h2 k hk;exact⟨v,g1,fj.f e g2⟩)⟩)
theorem me.f {c:eD}(h:me H a c):me H' a c:=(by obtain⟨kvs,h1,h2⟩:=h;exact⟨kvs,e.rd h1,h2⟩)
theorem jk.f {d:dY}{c:eD}(h:jk H d c w):jk H' d c w:=(by obtain⟨o,akv,h1,h2⟩:=h;exact⟨o,akv,e.frz h1,h2⟩)
theorem t0.f {c:eD}(h:t0 H a c):t0 H' a c:=(by obtain⟨kvs,h1,h2⟩:=h;exact⟨kvs,e.rd h1,λw hw=>(by obtain⟨d,g1,g2⟩:=h2 w hw;exact⟨d,g1,g2.f e⟩)⟩)
theorem iQ.f {CB CC:dY}{c:eD}(h:iQ CB CC H p c):iQ CB CC H' p c:=by obtain⟨y,b,bits,d,a,j,o,r,m,v,i,l,t,x,q,w,g,s⟩:=h.ex;exact⟨y,b,bits,d,a,j,o,r,m,e.ins v,i.f e,l.f e,t.f e,x.f e,q.f e,w.f e,g.f e,s.f e⟩
theorem gW.f {o:el Pk}(h:gW H v o):gW H' v o:=by cases o with|none=>exact h|some k=>exact fj.f e h
end
def qc {ps:ef dY}{u:HO}(h:b∈ps):del (upd H b u) ps=del H ps:=by funext x;unfold del;by_cases hx:x∈ps;rw[ay hx,ay hx];rw[av hx,av hx,eB (λz:x=b=>hx (by rw[z];exact h))]
def Fn {es:ef En}(sn:ef Nd){ks:ef Pk}(hn:(es.map fb).Nodup)(hp:ks.Perm (es.map fb))(ho:ks.Pairwise λa b=>qE a b=true):∃c:eD,c.es=es/\c.sn=sn/\c.ks=ks:=
 ⟨⟨es,sn,ks,λk=>hp.mem_iff,hp.nodup_iff.mpr hn,hp,ho,λi j a b hi hj hij e=>by
  obtain⟨h1,e1⟩:=af.mp hi;obtain⟨h2,e2⟩:=af.mp hj;have:=List.pairwise_iff_getElem.mp ho i j h1 h2 hij;rw[e1,e2]at this;unfold qE at this;rw[ay e]at this
  exact aI this⟩,rfl,rfl,rfl⟩
structure iU (G H:Hp)(O:ef dY)(G' H':Hp)(O':ef dY):Prop where
 gg:eL G G'
 gh:eL G' H'
 gn:∀a,G a=none->G' a≠none->H a=none
 on:∀a∈O',a∈O\/H a=none
 fr:eL (del H O) H'
 lv:∀a,H' a=none->H a=none
def iU.refl (h:eL G H):iU G H O G H O:=⟨eL.refl _,h,λa e n=>absurd e n,λa h=>.inl h,(fM _ _).toF,λ_ h=>h⟩
def iU.trans {G1 H1 G2 H2:Hp}{O1 O2:ef dY}(a:iU G H O G1 H1 O1)(b:iU G1 H1 O1 G2 H2 O2):iU G H O G2 H2 O2:=by
 refine⟨a.gg.trans b.gg,b.gh,λx e n=>?_,λx l=>?_,λx u e=>?_,λx e=>a.lv x (b.lv x e)⟩;cases h1:G1 x with|some u=>exact a.gn x e (by rw[h1];exact λz=>nomatch z)|none=>exact a.lv x (b.gn x h1 n)
 rcases b.on x l with z|z;exact a.on x z;exact .inr (a.lv x z);have g:x∉O:=λz=>by rw[gc z]at e;cases e
 have j:H x=some u:=by rw[eM g]at e;exact e
 have d:x∉O1:=λz=>by rcases a.on x z with y|y;exact g y;rw[j]at y;cases y
 rcases a.fr x u e with z|⟨i,o,h⟩;exact b.fr x u (by rw[eM d];exact z);exact .inr ⟨i,o,b.fr.frz (by rw[eM d];exact h)⟩
def iU.same (h:eL G H)(e:eN H H'):iU G H O G H' O:=⟨eL.refl _,h.trans e.toF,λa e n=>absurd e n,λa h=>.inl h,((fM _ _).trans e).toF,λ_ h=>e.free h⟩
def iU.put {u:HO}(h:eL G H)(e:H a=none):iU G H O (upd G a u) (upd H a u) O:=by refine⟨(eL.refl G).upd (h.free e),λx v q=>?_,λx g n=>?_,λx b=>.inl b,λx v q=>?_,λx q=>?_⟩;by_cases z:x=a;subst z;rw[er]at q ⊢;exact .inl q;rw[eB z]at q ⊢;exact h x v q;by_cases z:x=a;rw[z];exact e;rw[eB z]at n;exact absurd g n;refine .inl ?_;have:H x=some v:=fM _ _ x v q;rw[eB (eG this e)];exact this;by_cases z:x=a;subst z;exact e;rw[eB z]at q;exact q
def iU.keep (g:iU G H O G' H' O'){u:HO}(n:a∉O)(e:H a=some u)(f:¬DH u):H' a=some u:=g.fr.no (by rw[eM n];exact e) f
def iU.out (g:iU G H O G' H' O'){u:HO}(n:a∉O)(e:H a=some u):a∉O':=λz=>by
 rcases g.on a z with y|y;exact n y;rw[e]at y;cases y
def iU.off (g:iU G H O G' H' O'){u:HO}(n:G a=none)(e:H a=some u):G' a=none:=by cases h:G' a with|none=>rfl|some v=>have:=g.gn a n (by rw[h];exact λz=>nomatch z);rw[e]at this;cases this
def iU.own (g:iU G H O G' H' O'){u:HO}(d:H b=none)(i:G' b=none):iU G H O G' (upd H' b u) O':=by
 refine⟨g.gg,g.gh.upd i,g.gn,g.on,g.fr.upd ?_,λa e=>?_⟩;cases h:del H O b with|none=>rfl|some v=>rw[fM _ _ b v h]at d;cases d
 by_cases z:a=b;rw[z];exact d;rw[eB z]at e;exact g.lv a e
def iU.base (g:iU G H O G' H' O')(gh:eL G H){u:HO}(d:H b=none)(e:H' b=some u):iU G H O (upd G' b u) H' O':=by refine⟨g.gg.upd (gh.free d),λa v q=>?_,λa e n=>?_,g.on,g.fr,g.lv⟩;by_cases z:a=b;rw[z,er]at q;rw[z];exact .inl (e.trans q);rw[eB z]at q;exact g.gh a v q;by_cases z:a=b;rw[z];exact d;rw[eB z]at n;exact g.gn a e n
noncomputable def pK (m:Nat):iA->Nat->el Nat
 |[],_=>none
 |e::L,i=>if e.1=m then some i else pK m L (i+1)
def nB (L:iA)(m:Nat):el Nat:=pK m L 0
theorem nE (m:Nat)(e:Nat×Rs):∀(L:iA) (i:Nat),pK m (L++[e]) i=match pK m L i with
  |some j=>some j
  |none=>if e.1=m then some (i+L.length) else none
 |[],i=>by simp[pK]
 |x::L,i=>by rw[dj];unfold pK;by_cases h:x.1=m;rw[ay h,ay h];rw[av h,av h,nE m e L (i+1),aE,show i+1+L.length=i+(L.length+1) by omega]
theorem qS {m:Nat}:∀{L:iA} {i j:Nat},pK m L i=some j->∃e,i<=j/\L[j-i]?=some e/\e.1=m
 |[],i,j,h=>nomatch h
 |x::L,i,j,h=>by unfold pK at h;by_cases hx:x.1=m;rw[ay hx]at h;cases h;exact⟨x,am _,by rw[bW];rfl,hx⟩;rw[av hx]at h;obtain⟨e,h1,h2,h3⟩:=qS h;exact⟨e,by omega,by rw[show j-i=(j-(i+1))+1 by omega];exact h2,h3⟩
theorem nF {m:Nat}:∀{L:iA} {i:Nat},pK m L i=none↔m∉L.map (·.1)
 |[],i=>by simp[pK]
 |x::L,i=>by unfold pK;by_cases hx:x.1=m;rw[ay hx];simp[hx];rw[av hx,nF,aH,ao,not_or];exact⟨λh=>⟨λz=>hx z.symm,h⟩,λh=>h.2⟩
def qR (h:nB L m=some j):∃e,L[j]?=some e/\e.1=m:=(by obtain⟨e,_,h2,h3⟩:=qS h;exact⟨e,h2,h3⟩)
def qD {e:Nat×Rs}(h:nB L m=some j):nB (L++[e]) m=some j:=by unfold nB at *;rw[nE,h]
def mh {e:Nat×Rs}(h:nB L m=none):nB (L++[e]) m=if e.1=m then some L.length else none:=by unfold nB at *;rw[nE,h,Nat.zero_add]
noncomputable def eD.Mc (c:eD)(k:Pk):iA->Nat->ef Nat
 |[],_=>[]
 |e::L,i=>if c.has e.1 k then i::c.Mc k L (i+1) else c.Mc k L (i+1)
def eD.plc (c:eD)(L:iA)(k:Pk):ef Nat:=c.Mc k L 0
theorem eD.Md (c:eD)(k:Pk)(e:Nat×Rs):∀(L:iA) (i:Nat),c.Mc k (L++[e]) i=c.Mc k L i++if c.has e.1 k then [i+L.length] else []
 |[],i=>by rw[dJ];unfold eD.Mc;by_cases h:c.has e.1 k;rw[ay h,ay h];rfl;rw[av h,av h];rfl
 |x::L,i=>by rw[dj];unfold eD.Mc;rw[eD.Md c k e L (i+1),aE,show i+1+L.length=i+(L.length+1) by omega];by_cases h:c.has x.1 k;rw[ay h,ay h];rfl;rw[av h,av h]
def eD.Me (c:eD)(L:iA)(k:Pk)(e:Nat×Rs):c.plc (L++[e]) k=c.plc L k++if c.has e.1 k then [L.length] else []:=by unfold eD.plc;rw[eD.Md,Nat.zero_add]
theorem eD.Mf (c:eD)(k:Pk):∀(L:iA) (i:Nat),(c.Mc k L i).length<=L.length
 |[],i=>am _
 |x::L,i=>by unfold eD.Mc;have:=eD.Mf c k L (i+1);split;rw[aE,aE];omega;rw[aE];omega
theorem eD.Mg {c:eD}{k:Pk}{j:Nat}:∀{L:iA} {i:Nat},j∈c.Mc k L i↔∃e,i<=j/\L[j-i]?=some e/\c.has e.1 k
 |[],i=>by simp[eD.Mc]
 |x::L,i=>by
  have ih:=eD.Mg (c:=c) (k:=k) (j:=j) (L:=L) (i:=i+1);have key:j∈c.Mc k (x::L) i↔(j=i/\c.has x.1 k)\/j∈c.Mc k L (i+1):=by show j∈(if c.has x.1 k then i::c.Mc k L (i+1) else c.Mc k L (i+1))↔_;by_cases h:c.has x.1 k;rw[ay h,ao];exact⟨λz=>z.imp (λy=>⟨y,h⟩) id,λz=>z.imp (λy=>y.1) id⟩;rw[av h];exact⟨.inr,λz=>z.elim (λy=>absurd y.2 h) id⟩
  rw[key,ih];constructor;rintro(⟨rfl,h⟩|⟨e,d,a,b⟩);exact⟨x,am _,by rw[bW];rfl,h⟩;exact⟨e,by omega,by rw[show j-i=(j-(i+1))+1 by omega];exact a,b⟩;rintro⟨e,d,a,b⟩;rcases Nat.eq_or_lt_of_le d with z|z;subst z;rw[bW]at a;have:x=e:=by simpa using a
  exact .inl ⟨rfl,this▸b⟩;exact .inr ⟨e,z,by rw[show j-i=(j-(i+1))+1 by omega]at a;exact a,b⟩
def eD.Mh {c:eD}{k:Pk}:j∈c.plc L k↔∃e,L[j]?=some e/\c.has e.1 k:=by unfold eD.plc;rw[eD.Mg];exact⟨(by rintro⟨e,_,a,b⟩;exact⟨e,a,b⟩),(by rintro⟨e,a,b⟩;exact⟨e,br _,a,b⟩)⟩
def u5:HO->Prop
 |.tbl _=>True
 |.ext _=>True
 |_=>False
noncomputable def ia (l:ef Nat):ef V:=l.map λi=>V.int (i:Nat)
structure rD (H:Hp)(c:eD)(pp:dY)(g:Pk->ef Nat)(Ol:ef dY)(kvp:ef (gi×V))(kl:ef Pk):Prop where
 d:H pp=some (.dN kvp)
 keys:kvp.map (·.1)=kl.map (λk=>fK (some k))
 nd:kl.Nodup
 sub:∀k∈kl,k∈c.ks
 val:∀k∈c.ks,(fc kvp (fK (some k))=none/\g k=[])\/∃l,fc kvp (fK (some k))=some (.ref l)/\l∈Ol/\H l=some (.lst (ia (g k)))
 inj:∀k k' l,fc kvp (fK (some k))=some (.ref l)->fc kvp (fK (some k'))=some (.ref l)->k=k'
def JF (H:Hp)(c:eD)(pp:dY)(g:Pk->ef Nat)(Ol:ef dY):Prop:=∃(kvp:ef (gi×V)) (kl:ef Pk),rD H c pp g Ol kvp kl
def rD.keep {c:eD}{g:Pk->ef Nat}(B:rD H c pp g Ol kvp kl)(h:H' pp=H pp)(k:∀a∈Ol,H' a=H a):rD H' c pp g Ol kvp kl:=
 ⟨by rw[h];exact B.d,B.keys,B.nd,B.sub,λx hx=>(B.val x hx).imp id (by rintro⟨l,z1,z2,z3⟩;exact⟨l,z1,z2,by rw[k l z2];exact z3⟩),B.inj⟩
def rD.len {c:eD}{g:Pk->ef Nat}(B:rD H c pp g Ol kvp kl):kvp.length<=c.n:=by have h:=congrArg List.length B.keys;rw[ab,ab]at h;rw[h];exact lD B.nd B.sub
def rD.old {c:eD}{g:Pk->ef Nat}(B:rD H c pp g Ol kvp kl){k:Pk}{l:dY}{i:Nat}(q:k∈c.ks)(h:fc kvp (fK (some k))=some (.ref l))(j:pp∉Ol):l∈Ol/\H l=some (.lst (ia (g k)))/\rD (upd H l (.lst (ia (g k)++[.int (i:Nat)]))) c pp (λx=>if x=k then g k++[i] else g x) Ol kvp kl:=by
 have a:l∈Ol/\H l=some (.lst (ia (g k))):=by rcases B.val k q with ⟨z,_⟩|⟨o,b,m,p⟩;rw[h]at z;cases z;rw[h]at b;cases b;exact⟨m,p⟩
 refine⟨a.1,a.2,?_,B.keys,B.nd,B.sub,λx r=>?_,B.inj⟩;rw[eB (λz=>j (by rw[z];exact a.1))];exact B.d;by_cases e:x=k;subst e;refine .inr ⟨l,h,a.1,?_⟩;rw[ay rfl,er];unfold ia;rw[aG];rfl;rw[av e];rcases B.val x r with z|⟨o,b,m,p⟩;exact .inl z;refine .inr ⟨o,b,m,?_⟩;rw[eB (λy:o=l=>e (B.inj x k l (y▸b) h))];exact p
def rD.new {c:eD}{g:Pk->ef Nat}(B:rD H c pp g Ol kvp kl){k:Pk}{l:dY}{i:Nat}(E:k∈c.ks)(p:fc kvp (fK (some k))=none)(r:pp∉Ol)(C:l∉Ol)(N:l≠pp)(A:H' pp=some (.dN (fJ kvp (fK (some k)) (.ref l))))(F:H' l=some (.lst [.int (i:Nat)]))(G:∀b,b≠pp->b≠l->H' b=H b):rD H' c pp (λx=>if x=k then g k++[i] else g x) (l::Ol) (fJ kvp (fK (some k)) (.ref l)) (kl++[k]):=by
 have L:g k=[]:=by rcases B.val k E with ⟨_,z⟩|⟨h,m,_⟩;exact z;rw[p]at m;cases m
 have t:k∉kl:=λz=>by
  have A:fK (some k)∈kvp.map (·.1):=by rw[B.keys];exact bo z
  obtain⟨J,v,w⟩:=aC.mp A;unfold fc at p;rw[Option.map_eq_none_iff,dO]at p;exact p J v (by simpa using w)
 refine⟨A,?_,?_,λx d=>?_,λx d=>?_,λx y h d j=>?_⟩;rw[ip _ p,aG,B.keys,aG];rfl;rw[bN];exact⟨B.nd,by simp,λa M b I e=>t (by rw[show b=k by simpa using I]at e;exact e▸M)⟩;rcases aA.mp d with z|z;exact B.sub x z;rw[aj.mp z];exact E;rw[gq];by_cases e:x=k;subst e;refine .inr ⟨l,ay rfl,by simp,?_⟩;rw[ay rfl,F,L];rfl;rw[av (λz=>e (Option.some.inj (iF z))),av e];rcases B.val x d with z|⟨h,m,q,K⟩;exact .inl z;refine .inr ⟨h,m,by simp[q],?_⟩;rw[G h (λy=>r (y▸q)) (λy=>C (y▸q))];exact K;have o:∀x h,x≠k->fc kvp (fK (some x))=some (.ref h)->h≠l:=λx h e z y=>by
  have s:x∈c.ks:=by have:=i5 z;rw[B.keys]at this;obtain⟨u,v,w⟩:=aC.mp this;rw[<-Option.some.inj (iF w)];exact B.sub u v
  rcases B.val x s with ⟨D,_⟩|⟨O,m,q,_⟩;rw[z]at D;cases D;rw[z]at m;cases m;exact C (y▸q)
 rw[gq]at d j;by_cases ex:x=k;by_cases ey:y=k;rw[ex,ey];rw[ay (by rw[ex])]at d;rw[av (λz=>ey (Option.some.inj (iF z)))]at j;cases d;exact absurd rfl (o y l ey j);rw[av (λz=>ex (Option.some.inj (iF z)))]at d;by_cases ey:y=k;rw[ay (by rw[ey])]at j;cases j;exact absurd rfl (o x l ex d);rw[av (λz=>ey (Option.some.inj (iF z)))]at j;exact B.inj x y h d j
def rD.fn {c:eD}{g g':Pk->ef Nat}(B:rD H c pp g Ol kvp kl)(h:∀k∈c.ks,g k=g' k):rD H c pp g' Ol kvp kl:=
 ⟨B.d,B.keys,B.nd,B.sub,λk hk=>by rw[<-h k hk];exact B.val k hk,B.inj⟩
def iG (h:eL G H)(off:∀a∈O,G a=none)(fr:eL (del H O) H'):eL G H':=λa u e=>by
 have na:a∉O:=λz=>by rw[off a z]at e;cases e
 rcases h a u e with z|⟨z1,o,z2⟩;exact fr a u (by rw[eM na];exact z);exact .inr ⟨z1,o,fr.frz (by rw[eM na];exact z2)⟩
noncomputable abbrev Bc (ch ma re pm pp:dY):ef (Str×V):=[("chart",.ref ch),("masks",.ref ma),("reasons",.ref re),("place_by_mask",.ref pm),("places_by_pick",.ref pp)]
inductive Fx (CL:dY)(G H:Hp)(p ch:dY)(c:eD)(L:iA)(O:ef dY):Prop
 |mk (dx ma re pm pp:dY)(kvm:ef (gM×V))(rs:ef V)(Ol:ef dY)(_:O=ma::re::pm::pp::Ol)(_:G p=some (.ins CL dx (Bc ch ma re pm pp)))(_:H ma=some (.lst (ia (L.map (·.1)))))(_:H re=some (.lst rs))(_:Paired (mJ G) rs (L.map (·.2)))(_:H pm=some (.dK kvm))(_:kvm.length<=L.length)(_:∀m:Nat,fc kvm (Sum.inl (m:Int))=(nB L m).map λi=>V.int (i:Nat))(_:JF H c pp (c.plc L) Ol)
structure gK (CL:dY)(G H:Hp)(p ch:dY)(c:eD)(L:iA)(O:ef dY):Prop where
 ex:Fx CL G H p ch c L O
 off:∀a∈O,G a=none
 liv:∀a∈O,∃u,H a=some u
 nf:∀a∈O,∀u,H a=some u->¬u5 u
 nd:O.Nodup
def kr.f (e:eL H H'):∀{t:wE},kr H v t->kr H' v t
 |.one k,h=>fj.f e h
 |.many bs,⟨a,h1,h2⟩=>⟨a,h1,e.lst h2⟩
def mJ.f (e:eL H H'){r:Rs}(h:mJ H v r):mJ H' v r:=
 (by obtain⟨q,wv,tv,h1,h2,h3,h4⟩:=h;exact⟨q,wv,tv,h1,e.tup h2,h3.f e,h4.f e⟩)
def gK.grow {CL:dY}{ch:dY}{c:eD}(h:gK CL G H p ch c L O)(i:eL G G')(off:∀a∈O,G' a=none)(k:∀a∈O,H' a=H a):gK CL G' H' p ch c L O:=by obtain⟨z,m,j,g,l,e,o,A,rfl,v,q,r,t,x,s,w,⟨d,y,B⟩⟩:=h.ex;refine⟨⟨z,m,j,g,l,e,o,A,rfl,i.ins v,by rw[k m (by simp)];exact q,by rw[k j (by simp)];exact r,Paired.KG t λ_ _=>mJ.f i,by rw[k g (by simp)];exact x,s,w,⟨d,y,B.keep (k l (by simp)) λa b=>k a (by simp[b])⟩⟩,off,λa b=>by rw[k a b];exact h.liv a b,λa b=>by rw[k a b];exact h.nf a b,h.nd⟩
structure TL (K:W.Frag)(mg:Str->el dZ)(C:dY):Prop where
 cl:qx K C
 nCh:gs K C "chart"
 nMa:gs K C "masks"
 nRe:gs K C "reasons"
 nPm:gs K C "place_by_mask"
 nPp:gs K C "places_by_pick"
 len:mg "len" = none
 zip:mg "zip" = none
def nh {α:Type}{x:α}{l:ef α}:uT (x::l) 0=some x:=i8 (show ij (x::l) ((0:Nat):Int)=some x by rw[ii];rfl)
inductive HM (Q:Bool->Hp->Prop)(x:V)(H':Hp):Prop
 |mk (i:_)(_:x=.int i)(_:Q (i != 0) H')
def IJ (ta:TE):TT:=λσ H Q=>ta σ H λx H'=>HM Q x H'
def vz {X:Cx}{a:Expr}{ta:TE}(j:PE X a ta)(g:∀whole,isTrue a X.env whole=(do let v <-whole;standAt a.pos;holding [v] (truthy v))):PT X a (IJ ta):=by intro b s σ H Q I h;exact isTrue_plain (gm (j b s σ H _ I h) (by rintro v p ⟨x,d,o,l,i,e,m⟩;exact zx b p σ d x v Q o l ⟨_,by subst e;rfl,m⟩)) (g _)
def eD.Mi (c:eD)(wanted:ef (Str×el Pk))(w:el Pk)(pm:Nat)(ps:ef Str)(g:ef (Str×el Pk)):Prop:=
 ∃E:ef Str,g.map (·.1)=wanted.map (·.1)++E/\E.Sublist ps/\(∀x∈E,¬c.isP pm x/\x∉wanted.map (·.1))/\(∀x∈ps,c.isP pm x\/x∈wanted.map (·.1)\/x∈E)/\
  ∀x u,(x,u)∈g->(x,u)∈wanted\/(u=w/\x∈ps/\¬c.isP pm x)
theorem nI:∀ns:ef Nd,(eZ ns).length<=ns.length
 |[]=>am _
 |n::ns=>by rw[eZ,aE,aE];have h1:=bD (λx=>!decide (x=n.1)) (eZ ns);have h2:=nI ns;lia
def GrowP.nil {c:eD}{wanted:ef (Str×el Pk)}:c.Mi wanted w pm [] wanted:=⟨[],by simp,.slnil,(λx h=>nomatch h),(λx h=>nomatch h),λx u h=>.inl h⟩
section
variable {c:eD}{wanted g:ef (Str×el Pk)}{ps:ef Str}
def GrowP.skip (h:c.Mi wanted w pm ps g)(l:c.isP pm x):c.Mi wanted w pm (ps++[x]) g:=by obtain⟨E,e,b,j,d,i⟩:=h;refine⟨E,e,b.trans (List.sublist_append_left _ _),j,λy a=>?_,λy u a=>(i y u a).imp id λz=>⟨z.1,aO _ z.2.1,z.2.2⟩⟩;rcases aA.mp a with z|z;exact d y z;rw[aj.mp z];exact .inl l
def GrowP.new (h:c.Mi wanted w pm ps g)(d:¬c.isP pm x)(e:x∉g.map (·.1)):c.Mi wanted w pm (ps++[x]) (g++[(x,w)]):=by obtain⟨E,b,i,m,j,l⟩:=h;rw[b]at e;refine⟨E++[x],by rw[aG,b,bP];rfl,i.append (List.Sublist.refl _),λy a=>?_,λy a=>?_,λy u a=>?_⟩;rcases aA.mp a with z|z;exact m y z;rw[aj.mp z];exact⟨d,λq=>e (aO _ q)⟩;rcases aA.mp a with z|z;exact(j y z).imp id λq=>q.imp id λq=>aO _ q;rw[aj.mp z];exact .inr (.inr (by simp));rcases aA.mp a with z|z;exact(l y u z).imp id λq=>⟨q.1,aO _ q.2.1,q.2.2⟩;rw[aj,Prod.mk.injEq]at z;exact .inr ⟨z.2,by simp[z.1],z.1▸d⟩
def GrowP.KH (h:c.Mi wanted w pm ps g)(i:x∈g.map (·.1))(a:x∉ps):c.Mi wanted w pm (ps++[x]) g:=by obtain⟨E,e,d,m,j,l⟩:=h;refine⟨E,e,d.trans (List.sublist_append_left _ _),m,λy b=>?_,λy u b=>(l y u b).imp id λz=>⟨z.1,aO _ z.2.1,z.2.2⟩⟩;rcases aA.mp b with z|z;exact j y z;rw[aj.mp z];rw[e]at i;exact .inr (.inl ((aA.mp i).resolve_right λq=>a (d.subset q)))
def GrowP.swap (h:c.Mi wanted w pm ps g)(p:¬c.isP pm x)(r:x∈g.map (·.1))(a:x∉ps):c.Mi wanted w pm (ps++[x]) (g.map λyu=>if yu.1=x then (yu.1,w) else yu):=by
 obtain⟨E,l,d,o,i,m⟩:=GrowP.KH h r a;have e:(g.map λyu=>if yu.1=x then (yu.1,w) else yu).map (·.1)=g.map (·.1):=by rw[cC];refine List.map_congr_left λyu _=>?_;show(if yu.1=x then (yu.1,w) else yu).1=yu.1;split <;> rfl
 refine⟨E,by rw[e];exact l,d,o,i,λy u j=>?_⟩;obtain⟨yu,b,z⟩:=aC.mp j;by_cases q:yu.1=x;rw[ay q]at z;cases z;exact .inr ⟨rfl,by simp[q],q▸p⟩;rw[av q]at z;subst z;exact m y u b
end
def xl {c:eD}:(pm &&& c.LT x≠0)↔c.isP pm x:=by have b:pm &&& c.LT x<2^c.n:=bK Nat.and_le_right (c.Ls _);constructor;intro h;refine Classical.byContradiction λz=>h (eD.Lm b λk e=>z ?_);obtain⟨a,d⟩:=eD.Lh.mp e;exact⟨k,a,(eD.LX.mp d).2⟩;rintro⟨j,a,d⟩ h;have:c.has (pm &&& c.LT x) j:=eD.Lh.mpr ⟨a,eD.LX.mpr ⟨a.1,d⟩⟩;rw[h]at this;exact eD.Lk this
theorem nU {α β:Type}{f:α->ef β}{n:Nat}:∀{l:ef α},(∀x∈l,(f x).length<=n)->(l.flatMap f).length<=l.length*n
 |[],_=>by simp
 |x::l,h=>by have h1:=nU (l:=l) λy hy=>h y (by simp[hy]);have h2:=h x (by simp);rw[List.flatMap_cons,aD,aE,Nat.succ_mul];lia
theorem i4.Mj {c:eD}{s:Sd}(h:i4 c L s)(a:∀w,(c.needs w).length<=100)(o:c.n<64):s.wanted.length<=7000:=by
 have g:(s.wanted.map (·.1)).length<=((none::c.ks.map some).flatMap λw=>(c.needs w).map (·.1)).length:=by refine lD h.wk λx m=>?_;obtain⟨⟨y,w⟩,d,e⟩:=aC.mp m;have j:y=x:=e;subst j;obtain⟨_,b,i⟩:=h.w1 y w d;refine List.mem_flatMap.mpr ⟨w,?_,i⟩;cases w with|none=>exact bC|some k=>exact bj _ (bo b.1)
 have b:=nU (f:=λw=>(c.needs w).map (·.1)) (n:=100) (l:=none::c.ks.map some) λw _=>by rw[ab];exact a w
 rw[aE,ab]at b;rw[ab]at g;have:c.ks.length<64:=o;lia
def wC (H:Hp)(kv:gM×V)(xu:Str×el Pk):Prop:=kv.1=Sum.inr xu.1/\gW H kv.2 xu.2
def wD (G:Hp)(a:dY)(wanted:ef (Str×el Pk)):Prop:=∃o kvs,G a=some (.frz o (.dK kvs))/\Paired (wC G) kvs wanted
def wC.f (e:eL H H'){kv:gM×V}{xu:Str×el Pk}(h:wC H kv xu):wC H' kv xu:=⟨h.1,h.2.f e⟩
def wD.f (e:eL H H'){ws:ef (Str×el Pk)}(h:wD H a ws):wD H' a ws:=(by obtain⟨o,kvs,h1,h2⟩:=h;exact⟨o,kvs,e.frz h1,Paired.KG h2 λ_ _ z=>z.f e⟩)
theorem wK {H:Hp}:∀{kvs:ef (gM×V)} {g:ef (Str×el Pk)},Paired (wC H) kvs g->kvs.map (·.1)=(g.map (·.1)).map Sum.inr
 |_,_,.nil=>rfl
 |_,_,.cons h r=>by rw[aH,aH,aH,wK r,h.1]
theorem rG {H:Hp}:∀{kvs:ef (gM×V)} {g:ef (Str×el Pk)} {x:Str},Paired (wC H) kvs g->(fc kvs (Sum.inr x)=none↔x∉g.map (·.1))
 |_,_,x,.nil=>by simp[fc]
 |kv::kvs,xu::g,x,.cons h r=>by have ih:=rG (x:=x) r;unfold fc at ih ⊢;rw[bu,h.1,aH,ao,not_or];by_cases e:xu.1=x;rw[aq (by rw[e])];simp[e];rw[au (λz=>e (Sum.inr.inj z))];exact ih.trans ⟨λz=>⟨λy=>e y.symm,z⟩,λz=>z.2⟩
theorem oG {H:Hp}:∀{kvs:ef (gM×V)} {g:ef (Str×el Pk)} {x:Str},Paired (wC H) kvs g->x∈g.map (·.1)->∃v u,fc kvs (Sum.inr x)=some v/\(x,u)∈g/\gW H v u
 |_,_,x,.nil,h=>nomatch h
 |kv::kvs,xu::g,x,.cons h r,hx=>by by_cases e:xu.1=x;refine⟨kv.2,xu.2,?_,by rw[<-e];exact bC,h.2⟩;unfold fc;rw[bu,h.1,aq (by rw[e])];rfl;rw[aH,ao]at hx;obtain⟨v,u,h1,h2,h3⟩:=oG r (hx.resolve_left λz=>e z.symm);refine⟨v,u,?_,bj _ h2,h3⟩;unfold fc at h1 ⊢;rw[bu,h.1,au (λz=>e (Sum.inr.inj z))];exact h1
def D4 {kvs:ef (gM×V)}{g:ef (Str×el Pk)}(h:Paired (wC H) kvs g)(b:gW H v w):Paired (wC H) (fJ kvs (Sum.inr x) v) (if x∈g.map (·.1) then g.map (λyu=>if yu.1=x then (yu.1,w) else yu) else g++[(x,w)]):=by
 by_cases hx:x∈g.map (·.1);rw[ay hx];have d:(kvs.any λa=>decide (a.1=Sum.inr x))=true:=by
  have:(Sum.inr x:gM)∈kvs.map (·.1):=by rw[wK h];exact bo hx
  obtain⟨a,j,i⟩:=aC.mp this;exact dD.mpr ⟨a,j,aq i⟩
 unfold fJ;rw[ay d];clear d hx;induction h with|nil=>exact .nil|@cons a xu kvs g h r ih=>refine .cons ?_ ih;dsimp only;by_cases e:xu.1=x;rw[ay (show a.1=Sum.inr x by rw[h.1,e]),ay e];exact⟨h.1,b⟩;rw[av (show ¬a.1=Sum.inr x from λz=>e (Sum.inr.inj (h.1.symm.trans z))),av e];exact h
 rw[av hx,ip _ ((rG h).mpr hx)];exact Paired.snoc h ⟨rfl,b⟩
theorem wL {H:Hp}{x:Str}:∀{kvs:ef (gM×V)} {g:ef (Str×el Pk)},Paired (wC H) kvs g->Paired (wC H) (j5 kvs (Sum.inr x)) (g.filter λxu=>!decide (xu.1=x))
 |_,_,.nil=>.nil
 |kv::kvs,xu::g,.cons h r=>by have ih:=wL (x:=x) r;unfold j5 at ih ⊢;by_cases e:xu.1=x;rw[aJ,aJ,av (by rw[h.1];simp[e]),av (by simp[e])];exact ih;rw[aJ,aJ,ay (by rw[h.1];simpa using e),ay (by simpa using e)];exact .cons h ih
noncomputable def iV (i:Nat):Stmt:=PySem.Challenge.pw_fitboard_k09_whole_more_needs.main.body.getD i (.Pass ⟨0,0,0,0⟩)
abbrev pG:Stmt:=iV 6
abbrev zY:Stmt:=fT (iV 7) 0
abbrev pD:Stmt:=fT (iV 7) 1
abbrev vw:Stmt:=iV 9
abbrev sw:Stmt:=fT (iV 10) 0
abbrev Aa:Stmt:=fT (iV 10) 1
abbrev pI:Stmt:=fT (iV 10) 2
abbrev pz:Stmt:=fT (iV 10) 3
abbrev r6:Stmt:=fT (iV 10) 4
abbrev r9:Stmt:=fT (iV 10) 5
abbrev si:Stmt:=fT (iV 12) 0
abbrev Ev:Stmt:=fT (iV 12) 1
abbrev rX:Stmt:=fT (iV 12) 2
abbrev sB:Stmt:=fT (iV 12) 3
abbrev vh:Stmt:=fT (iV 12) 4
abbrev rR:Stmt:=iV 14
abbrev rT:Stmt:=fT (iV 15) 0
abbrev su:Stmt:=fT (iV 16) 0
abbrev rV:Stmt:=fT (iV 17) 0
abbrev pB:Stmt:=fT (iV 17) 1
abbrev rS:Stmt:=fT (iV 17) 2
abbrev zV:Stmt:=fT (iV 17) 3
abbrev ui:Stmt:=fT (iV 17) 4
abbrev zZ:Stmt:=fT (iV 17) 5
abbrev sy:Stmt:=fT (iV 17) 6
abbrev sr:Stmt:=fT (iV 17) 7
abbrev zU:Stmt:=fT (iV 17) 8
abbrev zS:Stmt:=fT (iV 17) 9
abbrev rW:Stmt:=fT (iV 17) 10
abbrev vq:Stmt:=fT (iV 17) 11
abbrev pA:Stmt:=fT (iV 17) 12
abbrev vi:Stmt:=fT (iV 17) 13
abbrev rZ:Stmt:=fT (iV 17) 14
abbrev vm:Stmt:=fT (iV 17) 15
abbrev Ez:Stmt:=iV 19
abbrev r8:Stmt:=iV 20
abbrev sq:Stmt:=iV 21
abbrev pF:Stmt:=iV 22
abbrev zR:Stmt:=iV 23
abbrev sg:Stmt:=iV 24
abbrev Ab:Stmt:=iV 26
abbrev pH:Stmt:=iV 27
abbrev sv:Stmt:=iV 28
abbrev Ey:Stmt:=iV 29
abbrev zW:Stmt:=iV 30
abbrev vv:Stmt:=iV 31
abbrev vo:Stmt:=iV 32
abbrev vg:Stmt:=iV 34
abbrev Jd:Stmt:=iV 35
abbrev Eu:Stmt:=iV 36
abbrev zT:Stmt:=iV 37
abbrev vn:Stmt:=iV 38
abbrev py:Stmt:=iV 39
abbrev Ac:Stmt:=iV 40
abbrev pC:Stmt:=iV 41
abbrev sj:Stmt:=iV 42
abbrev rY:Stmt:=iV 43
abbrev sk:Stmt:=iV 44
abbrev nz:Stmt:=iV 45
abbrev vt:Stmt:=iV 46
abbrev so:Stmt:=iV 47
abbrev pE:Stmt:=iV 48
abbrev mo:Stmt:=iV 49
abbrev vy:Stmt:=iV 50
abbrev vp:Stmt:=iV 51
abbrev l7:Stmt:=iV 52
end
section
seal ni PS PE PT PA
variable {C CB CC CL CS a ch dx p:dY}{G H H' Hd:Hp}{K:W.Frag}{P:ee}{es:ef En}{fd:eg}{i j m:Nat}{mg:Str->el dZ}{ps:ef Str}{sp:Sp}{vk:ef (gM×V)}{w:World}{x:Str}
structure TB (K:W.Frag)(mg:Str->el dZ)(C:dY):Prop where
 cl:qx K C
 nN:gs K C "needs"
 nV:gs K C "versions"
 mC:mg "Board" = some (.ref C)
 list:mg "list" = none
 sorted:mg "sorted" = none
def j6 {y:Str}:decide (V.str x=V.str y)=decide (x=y):=by by_cases h:x=y;rw[aq h,aq (congrArg V.str h)];rw[au h,au (λz=>h (V.str.inj z))]
def nY (n:Nd)(k:Str×Int):Bool:=decide (k.1=n.1)&&!(lX n k.2)
inductive kK (vs:ef V)(H:Hp)(Q:VK)(E:XK):Prop
 |mk (v pk:V)(n:Nd)(k:Str×Int)(_:vs=[v,pk])(_:fH H v n)(_:fj H pk k)(_:Q (.bl (nY n k)) H)
inductive kJ (C:dY)(vs:ef V)(H:Hp)(Q:VK)(E:XK):Prop
 |mk (p st:dY)(es:ef En)(v:V)(n:Nd)(_:vs=[.ref p,v])(_:fZ C H p st es)(_:fH H v n)(_:es.length<64)(_:∀l (ms:ef Int) H',eN H H'->H l=none->H' l=some (.lst (ms.map V.int))->ms.Perm (jc es n)->ms.Pairwise (· ≥ ·)->Q (.ref l) H')
section
variable {base:Heap}{f:dY}
def iW {N Ps:ef Str}{sc:Scope}(a:autoParam (sc.kind=.function) gF._auto_1)(b:autoParam (sc.isCoroutine=false) gF._auto_1)(c:autoParam (sc.isGenerator=false) gF._auto_1)(d:autoParam N.Nodup iR.closed._auto_1)(e:autoParam (N.take Ps.length=Ps) gF._auto_1)(f:autoParam (∀x∈Ps,sc.names.lookup x=some .local\/sc.names.lookup x=some .cell) iR.closed._auto_1)(g:autoParam (∀y∈sc.names,y.2≠.free) iR.closed._auto_1):eQ N Ps sc:=⟨a,b,c,d,e,f,g⟩
def Ja:eQ ["need","pick"] ["need","pick"] (eK pG):=iW
def vM (F:iE K "clashes" "clashes" pG f fd):fB P w K mg base fC 1 f fd ["need","pick"] kK:=by refine F.ok Ja λg A d s H j Q E i h=>?_;obtain⟨v,l,n,k,rfl,⟨a,rfl,b⟩,⟨e,rfl,hp⟩,q⟩:=h;refine⟨_,eE (eU (kU (kT jM (eP eW (pv 1) eF) (eP eW (pv 0) eF) (fQ _)) (lJ (vA (Ax w6 w6 (eP eW (pv 0) eF) (eP eW (pv 1) eF) (eP eW (pv 0) eF)))))),?_⟩;unfold nY lX at q;refine⟨_,rfl,e,_,_,_,rfl,rfl,gC.of hp,rfl,_,rfl,a,_,_,_,rfl,rfl,gC.of b,rfl,rfl,_,rfl,?_⟩;rw[j6];refine jg (λc=>?_) (λc=>?_);rw[c,cq]at q;refine⟨_,rfl,a,_,_,_,rfl,rfl,gC.of b,rfl,_,rfl,e,_,_,_,rfl,rfl,gC.of hp,rfl,_,_,rfl,rfl,_,rfl,?_⟩;refine jg (λc=>?_) (λc=>?_);refine⟨_,rfl,a,_,_,_,rfl,rfl,gC.of b,rfl,_,_,rfl,rfl,_,rfl,?_⟩;rw[c,cq]at q;exact q;rw[bJ.mpr c,bX]at q;exact⟨_,rfl,q⟩;rw[bJ.mpr c,bX]at q;exact q
end
def vQ {α:Type}{l:ef α}{x:α}(h:(l.take i).Nodup)(e:l[i]?=some x):(l.take (i+1)).Nodup↔¬x∈l.take i:=by
 have g:l.take (i+1)=l.take i++[x]:=by rw[bc,e];rfl
 rw[g,bN];constructor;intro z m;exact z.2.2 x m x (by simp) rfl;intro z;refine⟨h,by simp,λa d b j e=>z ?_⟩;rw[aj.mp j]at e;rw[<-e];exact d
def ki {α:Type}{l:ef α}(i:Nat)(h:l.Nodup):(l.take i).Nodup:=h.sublist (dW _ _)
def mX {κ:Type} [DecidableEq κ] {kvs:ef (κ×V)}{k:κ}{v:V}(h:(fc kvs k).isSome=true):(fJ kvs k v).map (·.1)=kvs.map (·.1):=by unfold fJ;rw[jh,ay h,cC];refine List.map_congr_left λa _=>?_;show(if a.1=k then (a.1,v) else a).1=a.1;split <;> rfl
def iZ.apart {fs:ef (Str×V)}(hp:H p=some (.ins C dx fs))(h:iZ H a es):iZ (del H [p]) a es:=by
 have out:∀b o,H b=some o->o≠.ins C dx fs->del H [p] b=some o:=λb o e t=>by rw[eM (by simpa using fF e hp t)];exact e
 obtain⟨j,x,i⟩:=h;refine⟨j,out _ _ x (by intro z;cases z),Paired.KG i λv e z=>?_⟩;obtain⟨q,d,l,r,y,s,w⟩:=z;refine⟨q,d,l,r,out _ _ y (by intro z;cases z),out _ _ s (by intro z;cases z),Paired.KG w λv n z=>?_⟩;obtain⟨q,g,m⟩:=z;exact⟨q,g,out _ _ m (by intro z;cases z)⟩
structure jT (Hd H:Hp)(vk:ef (gM×V))(es:ef En):Prop where
 at_:∀x:Str,(fc vk (Sum.inr x)=none/\il es x=[])\/∃l,fc vk (Sum.inr x)=some (.ref l)/\Hd l=none/\H l=some (.lst ((il es x).map V.int))
 inj:∀(x y:Str) (l:dY),fc vk (Sum.inr x)=some (.ref l)->fc vk (Sum.inr y)=some (.ref l)->x=y
 keys:∀kv∈vk,∃x:Str,kv.1=Sum.inr x
 len:vk.length<=es.length
def jT.same (R:jT Hd H vk es)(s:eN H H'):jT Hd H' vk es:=
 ⟨λx=>(R.at_ x).imp id (by rintro⟨l,h1,h2,h3⟩;exact⟨l,h1,h2,s _ _ h3⟩),R.inj,R.keys,R.len⟩
def jT.dict (R:jT Hd H vk es)(s:∀b xs,H b=some (.lst xs)->H' b=some (.lst xs)):jT Hd H' vk es:=
 ⟨λx=>(R.at_ x).imp id (by rintro⟨l,h1,h2,h3⟩;exact⟨l,h1,h2,s _ _ h3⟩),R.inj,R.keys,R.len⟩
def jT.more {e:En}{l:dY}(R:jT Hd H vk es)(h:fc vk (Sum.inr e.1)=some (.ref l)):Hd l=none/\H l=some (.lst ((il es e.1).map V.int))/\jT Hd (upd H l (.lst ((il es e.1).map V.int++[.int e.2.1]))) vk (es++[e]):=by
 have d:Hd l=none/\H l=some (.lst ((il es e.1).map V.int)):=by rcases R.at_ e.1 with ⟨z,_⟩|⟨i,a,b,g⟩;rw[h]at z;cases z;rw[h]at a;cases a;exact⟨b,g⟩
 refine⟨d.1,d.2,λx=>?_,R.inj,R.keys,by rw[aD];exact bz R.len (di _ _)⟩;rw[oh];by_cases hx:e.1=x;subst hx;refine .inr ⟨l,h,d.1,?_⟩;rw[er,ay rfl,aG];rfl;rw[av hx];rcases R.at_ x with z|⟨i,a,b,g⟩;exact .inl z;refine .inr ⟨i,a,b,?_⟩;rw[eB (λz=>hx (R.inj _ _ l h (by rw[<-z];exact a)))];exact g
def jT.first {e:En}{l:dY}(R:jT Hd H vk es)(h:fc vk (Sum.inr e.1)=none)(s:H l=some (.lst []))(m:Hd l=none)(j:∀x:Str,fc vk (Sum.inr x)≠some (.ref l)):jT Hd (upd H l (.lst [.int e.2.1])) (fJ vk (Sum.inr e.1) (.ref l)) (es++[e]):=by
 refine⟨λx=>?_,λx y i a b=>?_,λr d=>?_,?_⟩;rw[oh,gq];by_cases a:e.1=x;subst a;refine .inr ⟨l,by rw[ay rfl],m,?_⟩;have p:il es e.1=[]:=by rcases R.at_ e.1 with ⟨_,z⟩|⟨i,g,_⟩;exact z;rw[h]at g;cases g
 rw[er,ay rfl,p];rfl;rw[av (λz=>a (Sum.inr.inj z).symm),av a];rcases R.at_ x with z|⟨i,g,o,q⟩;exact .inl z;refine .inr ⟨i,g,o,?_⟩;rw[eB (λz=>j x (by rw[<-z];exact g))];exact q;rw[gq]at a b;by_cases ex:(Sum.inr x:gM)=Sum.inr e.1;by_cases ey:(Sum.inr y:gM)=Sum.inr e.1;exact(Sum.inr.inj ex).trans (Sum.inr.inj ey).symm;rw[ay ex]at a;rw[av ey]at b;cases a;exact absurd b (j y);rw[av ex]at a;by_cases ey:(Sum.inr y:gM)=Sum.inr e.1;rw[ay ey]at b;cases b;exact absurd a (j x);rw[av ey]at b;exact R.inj x y i a b;rw[ip _ h]at d;rcases aA.mp d with z|z;exact R.keys r z;rw[aj.mp z];exact⟨_,rfl⟩;rw[ip _ h,aD,aD];exact Nat.add_le_add_right R.len _
inductive JQ (C:dY)(Hd:Hp)(es:ef En)(p a st dx dn dv:dY)(i:Nat)(σ:Lake.St)(H2:Hp):Prop
 |mk (nks vk o3 o4 o5:_)(_:σ=[some (.ref p),some (.ref a),some (.ref st),o3,o4,o5])(_:H2 p=some (.ins C dx (kI dn dv)))(_:H2 dn=some (.dN ((none,.ref st)::nks)))(_:Paired (nn Hd) nks (es.take i))(_:H2 dv=some (.dK vk))(_:jT Hd H2 vk (es.take i))
structure KB (C:dY)(Hd:Hp)(es:ef En)(p a st dx dn dv:dY)(i:Nat)(σ:Lake.St)(H2:Hp):Prop where
 ex:JQ C Hd es p a st dx dn dv i σ H2
 sm:eN Hd H2
 nd:((es.map fb).take i).Nodup
inductive JP (C:dY)(Hd:Hp)(es:ef En)(p a st dx dn dv:dY)(nks:ef (gi×V))(ks:ef gM)(j:Nat)(σ:Lake.St)(H2:Hp):Prop
 |mk (vk o3 o4 o5:_)(_:σ=[some (.ref p),some (.ref a),some (.ref st),o3,o4,o5])(_:H2 p=some (.ins C dx (kI dn dv)))(_:H2 dn=some (.dN ((none,.ref st)::nks)))(_:H2 dv=some (.dK vk))(_:vk.map (·.1)=ks)(_:uY H2 vk es λx=>(Sum.inr x:gM)∈ks.take j)
structure KA (C:dY)(Hd:Hp)(es:ef En)(p a st dx dn dv:dY)(nks:ef (gi×V))(ks:ef gM)(j:Nat)(σ:Lake.St)(H2:Hp):Prop where
 ex:JP C Hd es p a st dx dn dv nks ks j σ H2
 sm:eN Hd H2
section
variable {base:Heap}{f:dY}
def zM:eQ ["self","shelf","start","part","version","needs"] ["self","shelf","start"] (eK zY):=iW
end
def Hj:(["version","part","need"]:ef Str).Nodup:=by decide +kernel
section
variable {base:Heap}{f:dY}
def GH:eQ ["self","need","part"] ["self","need"] (eK pD):=iW
inductive KD (P:ee)(w:World)(K:W.Frag)(mg:Str->el dZ)(base:Heap)(CX:u4)(k:Nat)(x:Str)(ps:ef Str)(sp:Sp):Prop
 |mk (g gd:_)(_:fB P w K mg base CX k g gd ps sp)(_:iM K gd ps [])(_:W.keepIn K (.ref g)=true)(_:mg x=some (.ref g))
structure Gd (P:ee)(w:World)(K:W.Frag)(mg:Str->el dZ)(base:Heap)(CX:u4)(k:Nat)(x:Str)(ps:ef Str)(sp:Sp):Prop where
 ex:KD P w K mg base CX k x ps sp
def iK {base:Heap}{k:Nat}{f:dY}(h:fB P w K mg base fC k f fd ps sp)(b:iM K fd ps [])(q:W.keepIn K (.ref f)=true)(m:mg x=some (.ref f)):Gd P w K mg base fC k x ps sp:=⟨f,fd,h,b,q,m⟩
def fG {X:Cx}{k:Nat}{p pos:Pos}{e:Expr}{es:ef Expr}{t:TA}(G:Gd X.prog X.w X.K X.mg X.base fC k x ps sp)(d:gU k X.A)(a:PA X (e::es) t)(hg:autoParam (Gl X x) gF._auto_1)(hdb:autoParam ((x == ("__debug__":Str))=false) Aq._auto_1)(he:autoParam (starEach (e::es) X.env=(false,eval e X.env)::starEach es X.env) gF._auto_1)(hpl:autoParam ((backTo pos (starEach es X.env)).any (·.1)=false) gF._auto_1):PE X (.Call (.Name x p) (e::es) [] pos) (zD sp [] E0 t):=by obtain⟨_,_,F,b,k,m⟩:=G.ex;exact CH F d hg m k b .nil fN a hdb he hpl
theorem vJ (F:iE K "meeting" "Board.meeting" pD f fd)(T:TB K mg C)(G:Gd P w K mg base fC 1 "clashes" ["need","pick"] kK):fB P w K mg base fC 2 f fd ["self","need"] (kJ C):=by
 refine F.ok GH λad A Z s H vs Q E hr h=>?_;obtain⟨p,st,es,v,n,rfl,⟨dx,dn,dv,ag,vk,hp,hn,hk,X,hV⟩,⟨N,rfl,L⟩,hl,q⟩:=h;have hu:=gH hr;refine⟨_,(et (eO (i:=2) GH.nd (eP eW (pv 1) eF)) (eE (eU (i7 (N':=["version","part","need"]) (n:=1) (js:=[2,1]) rfl (iR.two (c:=s.heap.objs.size+2) (c':=s.heap.objs.size+1) (y:="part") (y':="need")) (iC (by decide)) (fL (kC hu (jj (pv 0) rfl) (pv 2) (gy eA) ⟨rfl,rfl,rfl,rfl⟩)) (λC s2 b fp=>eR (i:=0) Hj) (λC s2 b fp=>mP (gX (gT (fG G hr (eo (pv 2) (eo (gL (eo (pv 1) (eo (pv 0) eA))) eA)))))) (λC s2 b fp=>pv 0))))),?_⟩;refine⟨_,rfl,N,_,_,_,rfl,rfl,gC.of L,rfl,?_⟩;refine⟨_,rfl,p,C,dx,_,_,rfl,hp,T.cl,T.nV,jS _ _,dv,rfl,.inl ⟨_,X⟩,_,rfl,u6,λo R=>?_⟩;have g:=eJ R (.lst []);have d:∀(l:dY) (a:ef Int),upd H o (.lst []) l=some (.lst (a.map V.int))->a.Perm (il es n.1)->a.Pairwise (· ≥ ·)->qw (FA K l) (jw 0)
   (Gm (tB (zD kK [] E0 (qO (oA 2) (qO (Gf (qO (oA 1) (qO (oA 0) xU))) xU))))) (oA 0) (frees 1 [2,1] [some (.ref p),some (.ref N),some (.str n.1)]) (upd H o (.lst [])) Q:=by
  intro l a Y r S;have lm:a.length<64:=by rw[r.length_eq];exact bK (ke _ _) hl
  refine iy (xs:=a.map V.int) (λD i M b=>M=((a.take i).filter (lX n)).map V.int/\b D=some (.lst M)/\eN (upd H o (.lst [])) b/\upd H o (.lst []) D=none) (λD hD=>⟨by simp,er,eJ hD _,hD⟩)
   (λD i M b U ⟨j,e,m,_⟩=>⟨ff.of (m _ _ Y),e,?_⟩) (λD i x M b U ⟨j,e,m,J⟩=>?_) (λD M b ⟨j,e,m,J⟩=>?_)
  rw[j,ab];have:=bD (lX n) (a.take i);rw[aV]at this;exact eY (by lia);rw[ae]at U;obtain⟨z,hz,rfl⟩:=ax.mp U;have ht:a.take (i+1)=a.take i++[z]:=by rw[bc,hz];rfl
  have O:(a.take (i+1)).filter (lX n)=(a.take i).filter (lX n)++(if lX n z=true then [z] else []):=by rw[ht,bR,aJ];rfl
  unfold jw;refine⟨_,rfl,_,rfl,_,rfl,qK,λt B=>?_⟩;have I:=eJ B (.tup [.str n.1,.int z]);refine⟨.ref N,.ref t,n,(n.1,z),rfl,⟨N,rfl,I _ _ (m _ _ (g _ _ L))⟩,⟨t,rfl,er⟩,_,rfl,?_⟩;have aa:nY n (n.1,z)=!(lX n z):=by unfold nY;simp
  rw[aa];dsimp only;rw[Bool.not_not];have nD:D≠t:=eG e B;by_cases hb:lX n z=true;rw[ay hb]at O;rw[ay hb];refine⟨_,rfl,I _ _ e,?_,er,eN.upd (m.trans I) J,J⟩;rw[O,j,aG];rfl;rw[av hb,bY]at O;rw[av hb];exact⟨by rw[O];exact j,I _ _ e,m.trans I,J⟩;rw[ab,aK]at j;subst j;exact q D _ b (g.trans m) (g.free J) e (Ap r) (S.filter _)
 rcases hV n.1 with ⟨z1,z2⟩|⟨l,a,Y,r,S,h4⟩;refine⟨none,.inl ⟨_,Sum.inr n.1,iB g X,rfl,z1.symm⟩,o,rfl,⟨_,ff.of er⟩,d o [] er (by rw[z2]) .nil⟩;refine⟨some (.ref l),.inl ⟨_,Sum.inr n.1,iB g X,rfl,Y.symm⟩,l,rfl,⟨_,ff.of (g _ _ r)⟩,d l a (g _ _ r) S (h4 trivial)⟩
end
inductive wA (vs:ef V)(H:Hp)(Q:VK)(E:XK):Prop
 |mk (c:eD)(m:Nat)(_:vs=[.int (m:Int)])(_:m<2^c.n)(_:Q (.int ((c.listed m).length:Nat)) H)
inductive j9 (CC:dY)(vs:ef V)(H:Hp)(Q:VK)(E:XK):Prop
 |mk (G:Hp)(p dx by_:dY)(fs:ef (Str×V))(c:eD)(m:Nat)(_:vs=[.ref p,.int (m:Int)])(_:eL G H)(_:H p=some (.ins CC dx fs))(_:fs.lookup ("by_bit":Str)=some (V.ref by_))(_:oF G by_ c)(_:c.n<64)(_:m<2^c.n)(_:∀l xs H',eN H H'->H l=none->H' l=some (.lst xs)->Paired (fj G) xs (c.listed m)->(∀b,b≠l->H' b=H b)->Q (.ref l) H')
def Hc:((m:Int) != 0)=true↔m≠0:=by rw[bne_iff_ne];omega
def pX:((m:Int) != 0)=!decide (m=0):=by by_cases h:m=0;subst h;rfl;rw[au h,Hc.mpr h];rfl
def ot (c:eD):c.listed 0=[]:=(eD.Lo (bM _)).mpr rfl
def vY (c:eD)(m:Nat):(c.listed m).length<=c.n:=bD _ _
section
variable {base:Heap}{f:dY}
def wQ:eQ ["mask","count"] ["mask"] (eK vw):=iW
def AS (F:iE K "count_picks" "count_picks" vw f fd):fB P w K mg base fC 1 f fd ["mask"] wA:=by
 refine F.ok wQ λj A b s H y Q E p h=>?_;obtain⟨c,m,rfl,o,q⟩:=h;refine⟨_,(et (eO (i:=1) wQ.nd eF) (et (jK PassesOwn.never (iH (pv 0) (λ_=>rfl)) (et (kP (i:=0) wQ.nd (fh AC (pv 0) eF) E8) (eE (kP (i:=1) wQ.nd eF Bh)))) (eE (eU (pv 1))))),?_⟩;refine⟨λk σ g=>∃(n t:Nat),σ=[some (.int (n:Int)),some (.int (t:Int))]/\g=H/\k=n/\n<2^c.n/\t+(c.listed n).length=(c.listed m).length,⟨m,m,0,rfl,rfl,rfl,o,by omega⟩,?_⟩;rintro k σ g ⟨n,t,rfl,rfl,rfl,d,a⟩;refine⟨_,rfl,_,rfl,?_⟩;rw[pX];by_cases h0:k=0;subst h0;rw[ot]at a;refine fz ⟨_,rfl,?_⟩;rw[show(c.listed m).length=t by simpa using a.symm]at q;exact q;rw[au h0];refine gY ⟨λσ' z=>∃m',m'<k/\_,λ_ _ h=>h,?_⟩;obtain⟨i,r,rfl⟩:=vX k h0;obtain⟨x,v,_,l⟩:=mz d;have e:((2^i*(2*r+1):Nat):Int)-1=((2^i*(2*r+1)-1:Nat):Int):=by omega
 refine⟨_,rfl,_,rfl,_,_,rfl,rfl,_,_,rfl,rfl,?_⟩;rw[e,nZ,sU];refine⟨_,rfl,_,_,rfl,rfl,2^(i+1)*r,?_,2^(i+1)*r,t+1,rfl,rfl,rfl,A9 d,?_⟩;have:=oP i r;have:=bM i;omega;rw[l,aE]at a;omega
def Cn:eQ ["self","mask","picks","bit"] ["self","mask"] (eK r9):=iW
def ym (F:iE K "listed" "Chart.listed" r9 f fd)(T:TC K mg CC):fB P w K mg base fC 1 f fd ["self","mask"] (j9 CC):=by
 refine F.ok Cn λag A N s H vs Q E hr h=>?_;obtain⟨G,p,dx,O,fs,c,m,rfl,gh,hp,hf,⟨C,L,hB⟩,ah,hm,q⟩:=h;have hk:=gh.rd L;have hu:=gH hr;refine⟨_,(et (eO (i:=2) Cn.nd (gy eA)) (et (jK PassesOwn.never (iH (pv 1) (λ_=>rfl)) (et (eO (i:=3) Cn.nd (fh im (pv 1) (ja jy (pv 1)))) (et (gF (jL PySem.F.plainAttrs_list PySem.F.slot_list_append PySem.F.type_list_append hZ (pv 2) (eo (hJ hu (eT T.cl T.nBy (pv 0)) (pv 3)) eA))) (eE (kP (i:=1) Cn.nd (pv 3) E7))))) (eE (eU (pv 2))))),?_⟩;refine⟨u6,λl R=>?_⟩;have aa:p≠l:=eG hp R;refine⟨λk σ t=>∃(n:Nat) (g:ef V) (j:ef Pk) (Y:el V),σ=[some (.ref p),some (.int (n:Int)),some (.ref l),Y]/\t l=some (.lst g)/\(∀b,b≠l->t b=H b)/\k=n/\n<2^c.n/\Paired (fj G) g j/\j++c.listed n=c.listed m,⟨m,m,[],[],none,rfl,er,λb y=>eB y,rfl,hm,.nil,rfl⟩,?_⟩;rintro k σ t ⟨n,g,j,Y,rfl,d,D,rfl,Z,S,a⟩;have I:eN H t:=λb o e=>by rw[D b (λz=>by rw[z,R]at e;cases e)];exact e
 refine⟨_,rfl,_,rfl,?_⟩;rw[pX];by_cases h0:k=0;subst h0;rw[ot,bY]at a;refine fz ⟨_,rfl,?_⟩;exact q l g t I R d (a▸S) D;rw[au h0];refine gY ⟨λσ' H'=>∃m',m'<k/\_,λ_ _ h=>h,?_⟩;obtain⟨i,r,rfl⟩:=vX k h0;obtain⟨x,U,B,X⟩:=mz Z;obtain⟨v,hv,M⟩:=hB x (ai U);have J:(c.bit x:Int)=((2^i:Nat):Int):=by unfold eD.bit;rw[B]
 rw[J]at hv;have lx:=Paired.length S;have ad:j.length<64:=by have:=congrArg List.length a;rw[aD]at this;have:=vY c m;omega
 refine⟨_,rfl,_,rfl,_,rfl,_,_,rfl,rfl,?_⟩;dsimp only;rw[Db];refine⟨_,rfl,.inl ⟨rfl,_,ff.of d⟩,_,rfl,p,dx,fs,_,rfl,I _ _ hp,hf,_,rfl,O,v,rfl,.inl ⟨C,Sum.inl ((2^i:Nat):Int),iB I hk,rfl,hv.symm⟩,l,g,v,rfl,rfl,d,eY (by omega),?_⟩;have e:((2^i*(2*r+1):Nat):Int)-((2^i:Nat):Int)=((2^(i+1)*r:Nat):Int):=by have:=oP i r;have:2^i<=2^i*(2*r+1):=Nat.le_mul_of_pos_right _ (by omega);omega
 refine⟨_,rfl,_,rfl,_,_,rfl,rfl,?_⟩;dsimp only;rw[e];refine⟨2^(i+1)*r,?_,2^(i+1)*r,g++[v],j++[x],_,rfl,er,λb y=>by rw[eB y];exact D b y,rfl,A9 Z,Paired.snoc S M,?_⟩;have:=oP i r;have:=bM i;omega;rw[<-a,X,bP];rfl
end
noncomputable abbrev zm (b bits by_ ofp:dY):ef (Str×V):=[("board",.ref b),("bits",.ref bits),("by_bit",.ref by_),("of_part",.ref ofp)]
inductive BJ (CB CC:dY)(vs:ef V)(H:Hp)(Q:VK)(E:XK):Prop
 |mk (p dx b bits by_ ofp st:dY)(es:ef En)(sn:ef Nd)(_:vs=[.ref p])(_:H p=some (.ins CC dx (zm b bits by_ ofp)))(_:fZ CB H b st es)(_:(es.map fb).Nodup)(_:es.length<64)(_:H bits=some (.dN [(none,.int 0)]))(_:H by_=some (.dK []))(_:H ofp=some (.dK []))(_:by_≠ofp)(_:∀(c:eD) H',c.es=es->c.sn=sn->eL (del H [bits,by_,ofp]) H'->iz H' bits c c.La->oF H' by_ c->me H' ofp c->Q .non H')
def eD.upM (c:eD)(i:Nat)(x:Str):Nat:=c.maskOf λk=>decide (k.1=x)&&decide (c.ix k<i)
def eD.Ml (c:eD)(x:Str):c.upM 0 x=0:=eD.Lm (c.Ls _) λk h=>by
 have:=(eD.Lr.mp h).2;simp at this
def eD.Mm (c:eD)(x:Str):c.upM c.n x=c.LT x:=eD.ext (c.Ls _) (c.Ls _) λk=>by
 rw[eD.LX];unfold eD.upM;rw[eD.Lr,aF,aw,aw];exact⟨λh=>⟨h.1,h.2.1⟩,λh=>⟨h.1,h.2,c.Lb h.1⟩⟩
theorem eD.Mn {c:eD}{k:Pk}(l:c.ks[i]?=some k)(x:Str):c.upM (i+1) x=if k.1=x then c.upM i x ||| c.bit k else c.upM i x:=by
 have b:=ai l;have o:=c.Le l;have key:∀j,j∈c.ks->(c.ix j<i+1↔c.ix j<i\/j=k):=λj m=>by constructor;intro h;by_cases e:c.ix j=i;exact .inr (c.Ld m b (e.trans o.symm));exact .inl (by lia);rintro(h|rfl);lia;lia
 by_cases e:k.1=x;rw[ay e];refine eD.ext (c.Ls _) (jv (c.Ls _) (c.Ll b)) λj=>?_;rw[eD.Lg,eD.Lj b];unfold eD.upM;simp only[eD.Lr,aF,aw];constructor;rintro⟨d,a,g⟩;rcases (key j d).mp g with z|z;exact .inl ⟨d,a,z⟩;exact .inr z;rintro(⟨d,a,g⟩|rfl);exact⟨d,a,by lia⟩;exact⟨b,e,by lia⟩;rw[av e];refine eD.ext (c.Ls _) (c.Ls _) λj=>?_;unfold eD.upM;simp only[eD.Lr,aF,aw];constructor;rintro⟨d,a,g⟩;rcases (key j d).mp g with z|z;exact⟨d,a,z⟩;rw[z]at a;exact absurd a e;rintro⟨d,a,g⟩;exact⟨d,a,by lia⟩
theorem Cw (h:((2^i:Nat):Int)=((2^j:Nat):Int)):i=j:=by rcases Nat.lt_trichotomy i j with z|z|z;have:=Nat.pow_lt_pow_right (a:=2) (by decide) z;lia;exact z;have:=Nat.pow_lt_pow_right (a:=2) (by decide) z;lia
def nd1:(["pick"]:ef Str).Nodup:=by decide +kernel
section
variable {base:Heap}{f:dY}
def Cp:eQ ["self","bit","pick"] ["self"] (eK Aa):=iW
inductive JT (c:eD)(H1:Hp)(p bits by_ ofp:dY)(i:Nat)(σ:Lake.St)(H2:Hp):Prop
 |mk (kb ky ko o2:_)(_:σ=[some (.ref p),some (.int ((2^i:Nat):Int)),o2])(_:H2 bits=some (.dN kb))(_:H2 by_=some (.dK ky))(_:H2 ofp=some (.dK ko))(_:kb.length<=i+1)(_:ky.length<=i)(_:ko.length<=i)(_:fc kb none=some (.int 0))(_:∀(j:Nat) (k:Pk),j<i->c.ks[j]?=some k->fc kb (some (iY k))=some (.int (c.bit k))/\∃v,fc ky (Sum.inl (c.bit k:Int))=some v/\fj H1 v k)(_:∀x:Str,(fc ko (Sum.inr x)).getD (.int 0)=.int (c.upM i x)/\((∃(j:Nat) (k:Pk),j<i/\c.ks[j]?=some k/\k.1=x)->fc ko (Sum.inr x)=some (.int (c.upM i x))))
structure KC (c:eD)(H1:Hp)(p bits by_ ofp:dY)(i:Nat)(σ:Lake.St)(H2:Hp):Prop where
 ex:JT c H1 p bits by_ ofp i σ H2
 sm:eN (del H1 [bits,by_,ofp]) H2
theorem C3 (F:iE K "give_bits" "Chart.give_bits" Aa f fd)(T:TC K mg CC)(be:TB K mg CB):fB P w K mg base fC 1 f fd ["self"] (BJ CB CC):=by
 refine F.ok Cp λdp A c9 s H vs Q E hr h=>?_;obtain⟨p,dx,b,bits,d,l,st,es,sn,rfl,hp,hB,b9,c4,a0,a3,a5,a8,q⟩:=h;have hu:=gH hr;refine⟨_,(et (eO (i:=1) Cp.nd eF) (eE (fO (fL (fe tG rfl T.sorted boot_sorted (eo (i7 (N':=["pick"]) (n:=1) (js:=[]) rfl (iR.closed) (iC (by decide)) (sJ (eT be.cl be.nN (eT T.cl T.nBoard (pv 0)))) (λC s2 O fp=>eR (i:=0) nd1) (λC s2 O fp=>mP (gN (kW (pv 0)))) (λC s2 O fp=>pv 0)) eA))) (eR (i:=2) Cp.nd) (et (kB hu (eT T.cl T.nBits (pv 0)) (pv 2) (pv 1) rfl) (et (i6 hu (eT T.cl T.nBy (pv 0)) (pv 1) (pv 2) rfl) (et (i6 hu (eT T.cl T.nOf (pv 0)) (eP eW (pv 2) eF) (fh qX (kC hu (eT T.cl T.nOf (pv 0)) (eP eW (pv 2) eF) eF ⟨rfl,rfl,rfl,rfl⟩) (pv 1)) rfl) (eE (kP (i:=1) Cp.nd (pv 1) Bh)))))))),?_⟩;obtain⟨bx,dn,dv,bd,vk,b1,b2,b3,b4,b5⟩:=id hB.ex;have ln:=Paired.length b3;refine⟨_,rfl,p,dx,_,_,rfl,hp,(by kernel_rfl),b,bx,_,_,rfl,b1,fE _ _,dn,_,rfl,b2,λo H1 sf bf a4=>?_⟩;refine xA (n:=bd.length+1) (λD i ys H3=>H3=upd H1 D (.lst ys)/\H1 D=none/\Paired (u3 H1) ys ((es.take (i-1)).map fb)) (λD hD=>⟨rfl,hD,.nil⟩) (λD i ys H3 hi ⟨e1,e2,e3⟩=>?_) (λD i x ys H3 H4 hi hy ⟨e1,e2,e3⟩=>?_) (λD ys H3 ⟨e1,e2,e3⟩=>?_);subst e1;have C8:dn≠D:=eG a4 e2;refine⟨λcv=>⟨cv,by rw[eB C8];exact a4⟩,λc6=>⟨by rw[c6];exact am _,by rw[eB C8];exact a4⟩,er,?_⟩;have:=Paired.length e3;rw[ab,aV]at this;exact eY (by lia);obtain⟨rfl,kv,G,kx⟩:=hy;subst e1;unfold jw
 match i,G,hi,e3 with
 |0,G,hi,e3=>
  have ct:kv=(none,.ref st):=by simpa using G.symm
  subst ct;cases (show x=.non from kx);exact⟨_,rfl,_,rfl,fz ⟨rfl,e2,e3⟩⟩
 |i+1,G,hi,e3=>
  have m:bd[i]?=some kv:=by simpa using G
  obtain⟨e,cz,cd,_⟩:=Paired.K8 b3 m;rw[cd]at kx;obtain⟨bq,rfl,an⟩:=kx;have nb:bq≠D:=λz=>by rw[z,er]at an;cases an
  rw[eB nb]at an;refine⟨_,rfl,_,rfl,gY ⟨_,rfl,er,by rw[jo],e2,?_⟩⟩;have ht:es.take (i+1+1-1)=es.take i++[e]:=by rw[dM,bc,cz];rfl
  rw[ht,aG];exact Paired.snoc e3 ⟨bq,rfl,an⟩
 subst e1;rw[dM,ln,aK]at e3;have sD:=eJ e2 (.lst ys);have da:Paired (u3 (upd H1 D (.lst ys))) ys (es.map fb):=Paired.KG e3 λ_ _ ⟨z,z1,z2⟩=>⟨z,z1,sD _ _ z2⟩;refine⟨D,ys,es.map fb,rfl,ff.of er,da,b9,by rw[ab];exact c4,λL r ds hL R ba c5=>?_⟩;have sL:=eJ hL (.lst r);obtain⟨c,c1,c2,c3⟩:=Fn sn b9 ba c5;have cn:c.n=r.length:=by unfold eD.n;rw[c3];exact(Paired.length R).symm
 have ap:eL H (upd (upd H1 D (.lst ys)) L (.lst r)):=sf.trans (sD.trans sL).toF;generalize hH:upd (upd H1 D (.lst ys)) L (.lst r)=H4 at *;have bv:H4 L=some (.lst r):=by rw[<-hH];exact er
 have cp:Paired (fj H4) r c.ks:=by rw[c3];exact Paired.KG R λ_ _ ⟨z,z1,z2⟩=>⟨z,z1,sL _ _ z2⟩
 refine⟨L,rfl,⟨_,ff.of bv⟩,?_⟩;have c8:bits≠dn:=λz=>by rw[z]at a0;rcases b2 with y|⟨o',y⟩ <;> (rw[a0]at y;cases y)
 have c7:d≠dn:=λz=>by rw[z]at a3;rcases b2 with y|⟨o',y⟩ <;> (rw[a3]at y;cases y)
 have cy:l≠dn:=λz=>by rw[z]at a5;rcases b2 with y|⟨o',y⟩ <;> (rw[a5]at y;cases y)
 have a1:∀{a u},a≠dn->H a=some u->H4 a=some u:=λ{a u} na e=>by
  have e1:H1 a=some u:=by rw[bf a na];exact e
  exact sL _ _ (sD _ _ e1)
 have ad:=a1 c8 a0;have a7:=a1 c7 a3;have a2:=a1 cy a5;have b7:d≠bits:=fF a7 ad (λz=>nomatch z);have bm:l≠bits:=fF a2 ad (λz=>nomatch z);have co:H4 p=some (.ins CC dx (zm b bits d l)):=ap.ins hp;have out:∀{O:Hp},eN (del H4 [bits,d,l]) O->∀{a u},H4 a=some u->(∀kvs,u≠.dN kvs)->(∀kvs,u≠.dK kvs)->O a=some u:=λ{O} sm {a u} e n1 n2=>sm _ _ (by
  rw[eM (by
   simp only[ao,aR,or_false,not_or]
   exact⟨λz=>n1 _ (by rw[z,ad]at e;exact(Option.some.inj e).symm),λz=>n2 _ (by rw[z,a7]at e;exact(Option.some.inj e).symm),λz=>n2 _ (by rw[z,a2]at e;exact(Option.some.inj e).symm)⟩)]
  exact e)
 refine fW (K:=K) (a:=L) (xs:=r) (KC c H4 p bits d l) ⟨⟨_,_,_,none,rfl,ad,a7,a2,am _,am _,am _,rfl,λj k B=>absurd B (ca _),λx=>⟨by rw[eD.Ml];rfl,λ⟨j,_,B,_⟩=>absurd B (ca _)⟩⟩,fM _ _⟩
  (λi σ O _ J=>ff.of (out J.sm bv (λ_ z=>nomatch z) λ_ z=>nomatch z)) ?_ ?_
 rintro i x σ O hi ⟨⟨kb,ky,ko,o2,rfl,X,aa,ah,l1,l2,l3,v0,vj,vx⟩,sm⟩;obtain⟨k,ag,G⟩:=Paired.K8 cp hi;obtain⟨kq,rfl,hq⟩:=id G;have dc:i<r.length:=(af.mp hi).1;have c0:i<64:=by rw[Paired.length R,ba.length_eq,ab]at dc;lia
 have a6:c.bit k=2^i:=by unfold eD.bit;rw[c.Le ag]
 have al:=out sm hq (λ_ z=>nomatch z) λ_ z=>nomatch z;have N:=out sm co (λ_ z=>nomatch z) λ_ z=>nomatch z;have a9:p≠bits:=fF N X (λz=>nomatch z);have cs:p≠d:=fF N aa (λz=>nomatch z);have dl:p≠l:=fF N ah (λz=>nomatch z);have dd:kq≠bits:=fF al X (λz=>nomatch z);have cx:kq≠d:=fF al aa (λz=>nomatch z);refine⟨_,rfl,_,rfl,p,dx,_,_,rfl,N,(by kernel_rfl),_,rfl,bits,_,rfl,lS.of (k:=some (iY k)) X ⟨kq,rfl,al⟩ (eY (by lia)),?_⟩;refine⟨_,rfl,_,rfl,p,dx,_,_,rfl,(by rw[eB a9];exact N),(by kernel_rfl),_,rfl,d,_,rfl,lT.k (k:=Sum.inl ((2^i:Nat):Int)) (by rw[eB b7];exact aa) (eY (by lia)),?_⟩;generalize M:upd (upd O bits (.dN (fJ kb (some (iY k)) (.int ((2^i:Nat):Int))))) d (.dK (fJ ky (Sum.inl ((2^i:Nat):Int)) (.ref kq)))=H3;have as:H3 l=some (.dK ko):=by rw[<-M,eB (Ne.symm a8),eB bm];exact ah
 have b6:H3 p=some (.ins CC dx (zm b bits d l)):=by rw[<-M,eB cs,eB a9];exact N
 have bl:H3 kq=some (.tup [.str k.1,.int k.2]):=by rw[<-M,eB cx,eB dd];exact al
 refine⟨_,rfl,p,dx,_,_,rfl,b6,(by kernel_rfl),l,rfl,.inl ⟨_,.inl as⟩,_,rfl,kq,_,_,_,rfl,rfl,gC.of bl,rfl,_,iP.k (k:=Sum.inr k.1) as,_,rfl,_,_,(vx k.1).1,rfl,?_⟩;dsimp only;rw[xC];refine⟨_,rfl,p,dx,_,_,rfl,b6,(by kernel_rfl),_,rfl,kq,_,_,_,rfl,rfl,gC.of bl,rfl,l,_,rfl,lT.k (k:=Sum.inr k.1) as (eY (by lia)),?_⟩;refine⟨_,rfl,_,rfl,_,_,rfl,rfl,?_⟩;have e2:((2^i:Nat):Int)+((2^i:Nat):Int)=((2^(i+1):Nat):Int):=by rw[cN];lia
 dsimp only;rw[e2];refine⟨⟨fJ kb (some (iY k)) (.int ((2^i:Nat):Int)),fJ ky (Sum.inl ((2^i:Nat):Int)) (.ref kq),fJ ko (Sum.inr k.1) (.int ((c.upM i k.1 ||| 2^i:Nat):Int)),_,rfl,?_,?_,er,?_,?_,?_,?_,λj k' B m=>?_,λx=>?_⟩,λb' u t=>?_⟩;rw[eB (Ne.symm bm),<-M,eB (Ne.symm b7),er];rw[eB a8,<-M,er];have:=ge kb (some (iY k)) (V.int ((2^i:Nat):Int));lia;have:=ge ky (Sum.inl ((2^i:Nat):Int)) (V.ref kq);lia;have:=ge ko (Sum.inr k.1) (V.int ((c.upM i k.1 ||| 2^i:Nat):Int));lia;rw[gq,av (λz=>nomatch z)];exact v0;rw[gq,gq];by_cases ej:j=i;subst ej;rw[ag]at m;cases m;rw[ay rfl,a6,ay rfl];exact⟨rfl,_,rfl,G⟩;have S:c.bit k'≠2^i:=λz=>ej (by
  unfold eD.bit at z;rw[c.Le m]at z
  exact Cw (by rw[z]))
 have ch:¬(some (iY k')=some (iY k)):=λz=>by have:=mY (Option.some.inj z);rw[this]at S;exact S a6
 obtain⟨g1,g2⟩:=vj j k' (by lia) m;rw[av ch,av (λz=>S (by have:=Sum.inl.inj z;lia))];exact⟨g1,g2⟩;rw[gq,eD.Mn ag x];by_cases ex:k.1=x;subst ex;rw[ay rfl,ay rfl,a6];exact⟨rfl,λ_=>rfl⟩;rw[av (λz=>ex (Sum.inr.inj z).symm),av ex];refine⟨(vx x).1,?_⟩;rintro⟨j,k',B,m,ek⟩;refine(vx x).2 ⟨j,k',?_,m,ek⟩;by_cases ej:j=i;subst ej;rw[ag]at m;cases m;exact absurd ek ex;lia;have Z:b'∉[bits,d,l]:=λz=>by rw[gc z]at t;cases t
 have I:=Z;simp only[ao,aR,or_false,not_or]at I;rw[eB I.2.2,<-M,eB I.2.1,eB I.1];exact sm _ _ t;rintro σ O ⟨⟨kb,ky,ko,o2,rfl,X,aa,ah,l1,l2,l3,v0,vj,vx⟩,sm⟩;have b8:eL (del H [bits,d,l]) O:=λb' u t=>by
  have Z:b'∉[bits,d,l]:=λz=>by rw[gc z]at t;cases t
  rw[eM Z]at t;rcases ap b' u t with z|⟨g,o',z⟩;exact .inl (sm _ _ (by rw[eM Z];exact z));exact .inr ⟨g,o',sm _ _ (by rw[eM Z];exact z)⟩
 have Y:∀k∈c.ks,∃j:Nat,j<r.length/\c.ks[j]?=some k:=λk G=>by obtain⟨j,B⟩:=aB.mp G;have:=(af.mp B).1;exact⟨j,by rw[<-cn];exact this,B⟩
 refine q c O c1 c2 b8 ⟨kb,.inl X,λw hw=>?_⟩ ⟨ky,.inl aa,λk G=>?_⟩ ⟨ko,.inl ah,λx=>?_⟩;cases w with|none=>exact v0|some k=>obtain⟨j,B,U⟩:=Y k (hw k rfl);exact(vj j k B U).1
 obtain⟨j,B,U⟩:=Y k G;obtain⟨_,v,g1,g2⟩:=vj j k B U;obtain⟨z,z1,z2⟩:=g2;exact⟨v,g1,z,z1,out sm z2 (λ_ z=>nomatch z) λ_ z=>nomatch z⟩;rw[<-eD.Mm,cn];exact⟨(vx x).1,λ⟨k,G,ek⟩=>let ⟨j,B,U⟩:=Y k G;(vx x).2 ⟨j,k,B,U,ek⟩⟩
end
def eD.en (c:eD):(c.es.map fb).Nodup:=c.pm.nodup_iff.mp c.nd
def eD.n_eq (c:eD):c.n=c.es.length:=by unfold eD.n;rw[c.pm.length_eq,ab]
def jx {st:dY}{c:eD}(B:fZ C H p st c.es)(N:gv H st c.sn):∃dx dn dv,H p=some (.ins C dx (kI dn dv))/\∀w v,c.Who w->gW H v w->∃a,hU H dn v (some (.ref a))/\gv H a (c.needs w):=by obtain⟨dx,dn,dv,q,i,j⟩:=B.start;refine⟨dx,dn,dv,q,λw v g d=>?_⟩;cases w with|none=>cases (show v=.non from d);exact⟨st,i,N⟩|some k=>rcases j v k d with ⟨z,_⟩|⟨_,e,o,l,a,b,h,m,r⟩;exact absurd ((c.mem k).mp (g k rfl)) z;refine⟨a,h,b,m,?_⟩;show Paired (fH H) b (gu c.es k);rw[<-l,jb c.en o];exact r
theorem mw (n:Nd):∀l:ef Nd,eZ (l++[n])=if n.1∈eZ l then eZ l else eZ l++[n.1]
 |[]=>by simp[eZ]
 |m::l=>by
  rw[dj,eZ,eZ,mw n l];by_cases h1:n.1∈eZ l;rw[ay h1];have:n.1∈m.1::(eZ l).filter λx=>!decide (x=m.1):=by by_cases e:n.1=m.1;rw[e];simp;exact bj _ (aZ.mpr ⟨h1,by simpa using e⟩)
  rw[ay this];rw[av h1,bR];by_cases e:n.1=m.1;rw[ay (by rw[e];simp)];simp[e];rw[av];simp[e];rw[ao,not_or];exact⟨e,λz=>h1 (aZ.mp z).1⟩
def lN (l:ef Nd)(n:Nd)(x:Str)(v:Int):jO (l++[n]) x v=(jO l x v&&(!decide (n.1=x)||lX n v)):=by unfold jO;rw[List.all_append];simp
def ux {l:ef Nd}(h:x∉eZ l)(v:Int):jO l x v=true:=my.mpr λn hn e=>absurd (iw.mpr ⟨n,hn,e⟩) h
theorem Dg (x:Str)(d e b a v:Int):lX (x,(if b>d then b else d),(if a<e then a else e)) v=(lX (x,b,a) v&&lX (x,d,e) v):=by unfold lX;rw[cT];simp only[aF,aw];split <;> split <;> lia
inductive qr (CB CC:dY)(vs:ef V)(H:Hp)(Q:VK)(E:XK):Prop
 |mk (p dx b bits st:dY)(fs:ef (Str×V))(wv:V)(c:eD)(w:el Pk)(_:vs=[.ref p,wv])(_:H p=some (.ins CC dx fs))(_:fs.lookup ("board":Str)=some (V.ref b))(_:fs.lookup ("bits":Str)=some (V.ref bits))(_:fZ CB H b st c.es)(_:gv H st c.sn)(_:iz H bits c c.La)(_:c.Who w)(_:gW H wv w)(_:c.n<64)(_:(c.needs w).length<=100)(_:∀d H',eN H H'->H d=none->jk H' d c w->Q (.ref d) H')
def Km:(["version","self","part"]:ef Str).Nodup:=by decide +kernel
def Bu (e:eN H H'){y:V}{r:el V}(h:hU H a y r):hU H' a y r:=by obtain⟨d,k,j,g,l⟩:=h;refine⟨d,k,iB e j,?_,l⟩;cases k with|none=>exact g|some ks=>obtain⟨b,i,m⟩:=g;exact⟨b,i,e _ _ m⟩
def EU (h:(es.map fb).Nodup)(n:Nd):(jc es n).Nodup:=by unfold jc;rw[List.nodup_iff_pairwise_ne,cu]at *;refine List.Pairwise.imp_of_mem (λ{a b} ha hb hab z=>?_) (h.filter (i9 n));have d:=(aZ.mp ha).2;have e:=(aZ.mp hb).2;unfold i9 at d e;simp only[aF,aw]at d e;exact hab (Prod.ext (d.1.trans e.1.symm) z)
def zd {c:eD}{w:el Pk}{lo hi:Int}{ms:ef Int}(b:ms.Perm (jc c.es (x,lo,hi)))(j:∀v,lX (x,lo,hi) v=jO (c.needs w) x v):(ms.map λv=>(c.bit (x,v):Int)).sum=(c.LU w x:Nat)/\(∀v∈ms,(x,v)∈c.ks):=by
 have i:∀v∈ms,(x,v)∈c.ks:=λv a=>(c.mem _).mpr (oO.mp (b.subset a)).1;refine⟨?_,i⟩;have q:(ms.map λv=>((x,v):Pk)).Nodup:=by rw[List.nodup_iff_pairwise_ne,cu];exact(b.nodup_iff.mpr (EU c.en _)).imp λh z=>h (Prod.mk.inj z).2
 have:=eD.Mb (c:=c) (ms.map λv=>((x,v):Pk)) q (λk d=>by obtain⟨v,a,rfl⟩:=aC.mp d;exact i v a);rw[cC]at this;rw[show(ms.map λv=>(c.bit (x,v):Int))=ms.map ((λk=>(c.bit k:Int)) ∘ λv=>(x,v)) from rfl,this];congr 1;unfold eD.LU;refine eD.ext (c.Ls _) (c.Ls _) λk=>?_;rw[eD.Lr,eD.Lr,aw,aF,aw];refine and_congr_right λg=>?_;constructor;intro h;obtain⟨v,a,rfl⟩:=aC.mp h;exact⟨rfl,by rw[<-j];exact(oO.mp (b.subset a)).2⟩;rintro⟨p,o⟩;obtain⟨l,m⟩:=k;have e:l=x:=p;subst e;exact aC.mpr ⟨m,b.symm.subset (oO.mpr ⟨(c.mem _).mp g,by rw[j];exact o⟩),rfl⟩
inductive JM (H:Hp)(ns:ef Nd)(j:dY)(i:Nat)(H2:Hp):Prop
 |mk (kj:_)(_:H2 j=some (.dK kj))(_:kj.map (·.1)=(eZ (ns.take i)).map Sum.inr)(_:kj.length<=i)(_:∀x∈eZ (ns.take i),∃q lo hi,fc kj (Sum.inr x)=some (.ref q)/\del H2 [j] q=some (.tup [.str x,.int lo,.int hi])/\∀v,lX (x,lo,hi) v=jO (ns.take i) x v)
structure Ku (H:Hp)(ns:ef Nd)(j:dY)(i:Nat)(H2:Hp):Prop where
 ex:JM H ns j i H2
 sm:eN H H2
section
variable {base:Heap}{f:dY}
def rQ:eQ ["self","who","joint","part","low","high","earlier","allowed","versions"] ["self","who"] (eK pI):=iW
theorem vN (F:iE K "allowed_by" "Chart.allowed_by" pI f fd)(T:TC K mg CC)(a7:TB K mg CB)(MM:Mt P w K mg base CB fC 2 "meeting" ["self","need"] (kJ CB)):fB P w K mg base fC 3 f fd ["self","who"] (qr CB CC):=by
 refine F.ok rQ λda A c1 s H vs Q E hr h=>?_;obtain⟨p,dx,b,bits,st,fs,wv,c,w,rfl,hp,b2,cx,hB,hN,cp,hw,ct,cs,dd,q⟩:=h;have hu:=gH hr;refine⟨_,(et (eO (i:=2) rQ.nd ie) (et (fO (fL (fg hu (eT a7.cl a7.nN (eT T.cl T.nBoard (pv 0))) (pv 1))) (kS rfl (gl (eR (i:=3) rQ.nd) (gl (eR (i:=4) rQ.nd) (gl (eR (i:=5) rQ.nd) jD)))) (et (eO (i:=6) rQ.nd (kC hu (pv 2) (pv 3) (gL (eo (pv 3) (eo (pv 4) (eo (pv 5) eA)))) ⟨rfl,rfl,rfl,rfl⟩)) (eE (i6 hu (pv 2) (pv 3) (gL (eo (pv 3) (eo (fe (y9 rfl) rfl T.max boot_max (eo (pv 4) (eo (eP eW (pv 6) eF) eA))) (eo (fe (y8 rfl) rfl T.min boot_min (eo (pv 5) (eo (eP eW (pv 6) eF) eA))) eA)))) rfl)))) (et (eO (i:=7) rQ.nd ie) (et (fO (ED (pv 2)) (eR (i:=3) rQ.nd) (et (eO (i:=8) rQ.nd (iq MM hr fN (eT T.cl T.nBoard (pv 0)) (eo (hJ hu (pv 2) (pv 3)) eA))) (eE (i6 hu (pv 7) (pv 3) (fe (y6 rfl) rfl T.sum boot_sum (eo (i7 (N':=["version","self","part"]) (n:=1) (js:=[0,3]) rfl (iR.two (c:=s.heap.objs.size+1) (c':=s.heap.objs.size+2) (y:="self") (y':="part")) (iC (by decide)) (fL (pv 8)) (λC s2 H2 fp=>eR (i:=0) Km) (λC s2 H2 fp=>jY) (λC s2 H2 fp=>fg hu (eT T.cl T.nBits (pv 1)) (gL (eo (pv 2) (eo (pv 0) eA))))) eA)) rfl)))) (eE (eU (Au (pv 7)))))))),?_⟩;intro j hj;have s0:=eJ hj (.dK []);obtain⟨bx,dn,dv,b5,cn⟩:=jx hB hN;obtain⟨na,b7,zs,hz,b3⟩:=cn w wv hw ct;refine⟨_,rfl,p,dx,_,_,rfl,s0 _ _ hp,b2,b,bx,_,_,rfl,s0 _ _ b5,fE _ _,_,rfl,dn,_,rfl,Bu s0 b7,na,rfl,⟨_,ff.of (s0 _ _ hz)⟩,?_⟩;have lz:=Paired.length b3;refine fW (K:=K) (a:=na) (xs:=zs) (λi σ H2=>∃o3 o4 o5 o6,σ=[some (.ref p),some wv,some (.ref j),o3,o4,o5,o6,none,none]/\Ku H (c.needs w) j i H2)
  ⟨none,none,none,none,rfl,⟨[],er,rfl,am _,λx G=>nomatch G⟩,s0⟩ ((by rintro i σ H2 _ ⟨_,_,_,_,_,J⟩;exact ff.of (J.sm _ _ hz))) ?_ ?_
 rintro i x σ H2 hi ⟨o3,o4,o5,o6,rfl,⟨L,R,d,a5,B⟩,sm⟩;obtain⟨n,bl,hn⟩:=Paired.K8 b3 hi;obtain⟨nq,rfl,c6⟩:=hn;obtain⟨x,N,r⟩:=n;have ht:(c.needs w).take (i+1)=(c.needs w).take i++[(x,N,r)]:=by rw[bc,bl];rfl
 have c5:i<100:=by have:=(af.mp bl).1;lia
 refine⟨nq,_,rfl,gC.of (sm _ _ c6),rfl,_,_,rfl,_,_,rfl,_,_,rfl,rfl,?_⟩;refine⟨_,rfl,j,rfl,.inl ⟨_,.inl R⟩,_,rfl,_,rfl,_,rfl,_,rfl,B4,λt as=>?_⟩;have st:=eJ as (.tup [.str x,.int N,.int r]);have dc:j≠t:=eG R as;generalize b6:upd H2 t (.tup [.str x,.int N,.int r])=H3 at *;have a1:H3 j=some (.dK L):=st _ _ R;have old:∃q' M g,(fc L (Sum.inr x)).getD (.ref t)=.ref q'/\H3 q'=some (.tup [.str x,.int M,.int g])/\∀v,(lX (x,M,g) v&&lX (x,N,r) v)=jO ((c.needs w).take (i+1)) x v:=by
  by_cases G:x∈eZ ((c.needs w).take i);obtain⟨q',M,g,g1,S,g3⟩:=B x G;have b9:q'≠j:=λz=>by rw[z,gc (by simp)]at S;cases S
  refine⟨q',M,g,by rw[g1];rfl,st _ _ (by rw[eM (by simpa using b9)]at S;exact S),λv=>?_⟩;rw[ht,lN,g3,aq rfl];rfl;have hv:fc L (Sum.inr x)=none:=by cases hq:fc L (Sum.inr x) with|none=>rfl|some u=>have:=i5 hq;rw[d]at this;obtain⟨y,I,e⟩:=aC.mp this;rw[Sum.inr.inj e]at I;exact absurd I G
  refine⟨t,N,r,by rw[hv];rfl,by rw[<-b6];exact er,λv=>?_⟩;rw[ht,lN,ux G,aq rfl,Bool.and_self];rfl
 obtain⟨q',M,g,g1,S,g3⟩:=old;refine⟨_,iP.k (k:=Sum.inr x) a1,?_⟩;rw[g1];refine⟨_,rfl,_,rfl,_,rfl,q',_,_,_,rfl,rfl,gC.of S,rfl,_,_,rfl,_,rfl,_,rfl,q',_,_,_,rfl,rfl,gC.of S,rfl,_,_,rfl,B4,λt2 bq=>?_⟩;have a3:=eJ bq (.tup [.str x,.int (if M>N then M else N),.int (if g<r then g else r)]);have be:j≠t2:=eG a1 bq;refine⟨_,rfl,_,rfl,j,_,rfl,lT.k (k:=Sum.inr x) (a3 _ _ a1) (eY (by lia)),?_⟩;refine⟨_,_,_,_,rfl,⟨fJ L (Sum.inr x) (.ref t2),er,?_,?_,λy I=>?_⟩,eN.upd (sm.trans (st.trans a3)) hj⟩;rw[ht,mw];by_cases G:x∈eZ ((c.needs w).take i);rw[ay G];obtain⟨_,_,_,z,_⟩:=B x G;rw[mX (by rw[z];rfl)];exact d;have hv:fc L (Sum.inr x)=none:=by cases hq:fc L (Sum.inr x) with|none=>rfl|some u=>have:=i5 hq;rw[d]at this;obtain⟨y,I,e⟩:=aC.mp this;rw[Sum.inr.inj e]at I;exact absurd I G
 rw[av G,ip _ hv,aG,d,aG];rfl;have:=ge L (Sum.inr x) (V.ref t2);lia;rw[gq,qc (by simp)];by_cases ey:y=x;subst ey;rw[ay rfl];refine⟨t2,_,_,rfl,by rw[eM (by simpa using Ne.symm be)];exact er,λv=>?_⟩;rw[<-g3];exact Dg _ _ _ _ _ v;rw[av (λz=>ey (Sum.inr.inj z))];have c4:y∈eZ ((c.needs w).take i):=by rw[ht,mw]at I;by_cases G:x∈eZ ((c.needs w).take i);rw[ay G]at I;exact I;rw[av G]at I;exact(aA.mp I).elim id λz=>absurd (aj.mp z) ey
 obtain⟨q0,cv,ag,f1,f2,f3⟩:=B y c4;have ad:q0≠j:=λz=>by rw[z,gc (by simp)]at f2;cases f2
 rw[eM (by simpa using ad)]at f2;refine⟨q0,cv,ag,f1,by rw[eM (by simpa using ad)];exact a3 _ _ (st _ _ f2),λv=>?_⟩;rw[f3,ht,lN,au (λz=>ey z.symm)];simp;rintro σ H2 ⟨o3,o4,o5,o6,rfl,⟨L,R,d,a5,B⟩,sm⟩;rw[lz,aK]at d B;intro O an;have Z:j≠O:=eG R an;have a2:=eJ an (.dK []);have a4:=sm.trans a2;have X:H O=none:=sm.free an;refine⟨_,rfl,j,L,rfl,.inl (a2 _ _ R),λo H4 sf a8 ba=>?_⟩;have h4:∀a,a≠j->H4 a=upd H2 O (.dK []) a:=a8;have s4:eN H H4:=λa u e=>by rw[h4 a (λz=>by rw[z,hj]at e;cases e)];exact a4 _ _ e
 have bd:H4 O=some (.dK []):=by rw[h4 O (Ne.symm Z)];exact er
 have c3:L.length=(eZ (c.needs w)).length:=by have:=congrArg List.length d;rw[ab,ab]at this;exact this
 refine tz (kvs:=L) (λi σ H5=>∃U o3 o4 o5 o6 o8,σ=[some (.ref p),some wv,some (.ref j),o3,o4,o5,o6,some (.ref O),o8]/\H5 O=some (.dK U)/\eN (del H4 [O]) H5/\U.map (·.1)=((eZ (c.needs w)).take i).map Sum.inr/\U.length<=i/\∀x∈(eZ (c.needs w)).take i,fc U (Sum.inr x)=some (.int (c.LU w x)))
  ⟨[],_,_,_,_,none,rfl,bd,fM _ _,rfl,am _,λx G=>by simp at G⟩ ((by rintro i σ H5 _ ⟨_,_,_,_,_,_,_,_,e,_⟩;exact e _ _ (by rw[eM (by simpa using Z)];exact ba))) ?_ ?_
 rintro i kv σ H5 hi ⟨U,o3,o4,o5,o6,o8,rfl,aa,s5,Y,cy,ap⟩;have b1:(L.map (·.1))[i]?=some kv.1:=by rw[ae,hi];rfl
 rw[d,ae]at b1;obtain⟨x,G,ex⟩:=ax.mp b1;rw[<-ex];have co:=ai G;obtain⟨q0,lo,ag,g1,S,g3⟩:=B x co;have ad:q0≠j:=λz=>by rw[z,gc (by simp)]at S;cases S
 rw[eM (by simpa using ad)]at S;have c5:i<100:=by
  have h1:=(af.mp hi).1;have h2:L.length<=(c.needs w).length:=by rw[<-lz]at *;lia
  lia
 have ah:eN H H5:=λa u e=>s5 _ _ (by rw[eM (by simpa using λz=>by rw[z,X]at e;cases e)];exact s4 _ _ e);have cd:H5 q0=some (.tup [.str x,.int lo,.int ag]):=s5 _ _ (by
  have:q0≠O:=eG S an;rw[eM (by simpa using this),h4 q0 ad]
  exact a2 _ _ S)
 have b8:H5 j=some (.frz o (.dK L)):=s5 _ _ (by rw[eM (by simpa using Z)];exact ba);refine⟨_,rfl,p,dx,_,_,rfl,ah _ _ hp,b2,b,bx,_,rfl,ah _ _ b5,qi _ _ (by decide +kernel) (by decide +kernel),_,rfl,_,rfl,j,_,rfl,.inl ⟨L,Sum.inr x,.inr ⟨o,b8⟩,rfl,g1.symm⟩,b,st,c.es,_,(x,lo,ag),rfl,hB.same ah,⟨q0,rfl,cd⟩,by rw[<-c.n_eq];exact cs,λl ms H6 s6 hl bm a6 c9=>?_⟩;obtain⟨a0,cz⟩:=zd (c:=c) (w:=w) a6 g3;have c8:ms.length<64:=by rw[a6.length_eq];have:=jF c.es (x,lo,ag);rw[<-c.n_eq]at this;lia
 refine⟨_,rfl,l,rfl,⟨_,ff.of bm⟩,?_⟩;have c0:=ah.trans s6;refine iy (xs:=ms.map V.int) (λD i ys H7=>ys=((ms.take i).map λv=>V.int (c.bit (x,v)))/\H7 D=some (.lst ys)/\eN H6 H7/\H6 D=none) (λD hD=>⟨by simp,er,eJ hD _,hD⟩)
  (λD i ys H7 hi ⟨e1,e2,e3,_⟩=>⟨ff.of (e3 _ _ bm),e2,?_⟩) (λD i y ys H7 hi ⟨e1,e2,e3,e4⟩=>?_) (λD ys H7 ⟨e1,e2,e3,e4⟩=>?_)
 rw[e1,ab,aV];exact eY (by lia);rw[ae]at hi;obtain⟨z,bf,rfl⟩:=ax.mp hi;unfold jw rL;dsimp only;rw[ay rfl];have bv:=c0.trans e3;refine⟨_,rfl,p,dx,_,_,rfl,bv _ _ hp,cx,_,rfl,_,rfl,qK,λt as=>?_⟩;have s8:=eJ as (.tup [.str x,.int z]);refine⟨bits,_,rfl,(cp.same (bv.trans s8)).get (w:=some (x,z)) (λk e=>by cases e;exact cz z (ai bf)) ⟨t,rfl,er⟩,s8 _ _ e2,?_,er,eN.upd (e3.trans s8) e4,e4⟩;rw[e1,bc,bf,aG];rfl;rw[ab,aK]at e1;subst e1;have a9:(ms.map λv=>V.int (c.bit (x,v)))=(ms.map λv=>(c.bit (x,v):Int)).map V.int:=by rw[cC];rfl
 rw[a9]at e2;have c7:c.LU w x<2^63:=bb (c.Ls _) (Nat.pow_le_pow_right (by decide) (by lia));refine⟨D,_,rfl,ff.of e2,λm hm=>?_,by rw[a0];lia,?_⟩;rw[bi,ae];cases ms[m]? with|none=>exact Int.le_refl _|some v=>show(0:Int)<=(c.bit (x,v):Nat);lia
 rw[a0];have b4:H7 O=some (.dK U):=e3 _ _ (s6 _ _ aa);refine⟨_,rfl,_,rfl,O,_,rfl,lT.k (k:=Sum.inr x) b4 (eY (by lia)),?_⟩;have ch:x∉(eZ (c.needs w)).take i:=λz=>by
  obtain⟨i',g⟩:=aB.mp z;rw[cc]at g;split at g
  next hlt2=>have:=(cg (af.mp g).1 (ju (c.needs w))).mp (g.trans G.symm);lia
  cases g
 have c2:fc U (Sum.inr x)=none:=by cases hq:fc U (Sum.inr x) with|none=>rfl|some u=>have:=i5 hq;rw[Y]at this;obtain⟨y,I,e⟩:=aC.mp this;rw[Sum.inr.inj e]at I;exact absurd I ch
 have ht:(eZ (c.needs w)).take (i+1)=(eZ (c.needs w)).take i++[x]:=by rw[bc,G];rfl
 refine⟨_,_,_,_,_,_,rfl,er,λa u e=>?_,?_,?_,λy I=>?_⟩;have na:a≠O:=λz=>by rw[z,gc (by simp)]at e;cases e
 rw[eB na];exact e3 _ _ (s6 _ _ (s5 _ _ e));rw[ip _ c2,aG,Y,ht,aG];rfl;have:=ge U (Sum.inr x) (V.int ((c.LU w x:Nat):Int));lia;rw[gq];by_cases ey:y=x;subst ey;rw[ay rfl];rw[av (λz=>ey (Sum.inr.inj z))];rw[ht]at I;exact ap y ((aA.mp I).elim id λz=>absurd (aj.mp z) ey);rintro σ H5 ⟨U,o3,o4,o5,o6,o8,rfl,aa,s5,Y,cy,ap⟩;rw[c3,aK]at Y ap;refine⟨_,rfl,O,_,rfl,aa,trivial,λo'=>q O _ (λa u e=>?_) X ⟨o',U,er,Y,ap⟩⟩;have na:a≠O:=λz=>by rw[z,X]at e;cases e
 rw[eB na];exact s5 _ _ (by rw[eM (by simpa using na)];exact s4 _ _ e)
end
inductive qk (CC:dY)(vs:ef V)(H:Hp)(Q:VK)(E:XK):Prop
 |mk (p dx al ofp d:dY)(fs:ef (Str×V))(wv:V)(c:eD)(w:el Pk)(_:vs=[.ref p,wv])(_:H p=some (.ins CC dx fs))(_:fs.lookup ("allowed":Str)=some (V.ref al))(_:fs.lookup ("of_part":Str)=some (V.ref ofp))(_:hU H al wv (some (.ref d)))(_:jk H d c w)(_:me H ofp c)(_:Q (.int (c.LV w)) H)
def eD.Mo (c:eD)(w:el Pk)(ps:ef Str):Nat:=c.maskOf λk=>decide (k.1∈ps)&&!jO (c.needs w) k.1 k.2
def eD.Mp (c:eD)(w:el Pk):c.Mo w []=0:=eD.Lm (c.Ls _) λk h=>by
 have:=(eD.Lr.mp h).2;simp at this
def eD.Mq (c:eD)(w:el Pk)(ps:ef Str)(x:Str):c.Mo w (ps++[x])=c.Mo w ps ||| iD (c.LT x) (c.LU w x):=by refine eD.ext (c.Ls _) (jv (c.Ls _) (jQ (c.Ls _))) λk=>?_;rw[eD.Lg,eD.Li,eD.LX];unfold eD.Mo eD.LU;simp only[eD.Lr,aF,aw,aA,aj,bQ];constructor;rintro⟨a,h2|h2,b⟩;exact .inl ⟨a,h2,b⟩;exact .inr ⟨⟨a,h2⟩,λz=>by rw[h2,z.2.2]at b;cases b⟩;rintro(⟨a,h2,b⟩|⟨⟨a,h2⟩,b⟩);exact⟨a,.inl h2,b⟩;refine⟨a,.inr h2,bJ.mpr λz=>b ⟨a,h2,?_⟩⟩;rw[<-h2];exact z
def eD.Mr (c:eD)(w:el Pk):c.Mo w (eZ (c.needs w))=c.LV w:=by refine eD.ext (c.Ls _) (c.Ls _) λk=>?_;unfold eD.Mo;rw[eD.LY,eD.Lr,aF,aw,bQ,iw];unfold eD.Lu;constructor;rintro⟨d,_,g⟩;refine⟨d,Decidable.byContradiction λz=>?_⟩;rw[bJ]at g;refine g (my.mpr λn b e=>Decidable.byContradiction λy=>z ⟨n,b,?_⟩);unfold qf;rw[aq e.symm,bJ.mpr y];rfl;rintro⟨d,n,b,a⟩;unfold qf at a;rw[aF,aw,bQ]at a;refine⟨d,⟨n,b,a.1.symm⟩,bJ.mpr λz=>?_⟩;rw[my.mp z n b a.1.symm]at a;cases a.2
section
variable {base:Heap}{f:dY}
def Ck:eQ ["self","who","mask","part"] ["self","who"] (eK pz):=iW
def vF (F:iE K "shut_out_by" "Chart.shut_out_by" pz f fd)(T:TC K mg CC):fB P w K mg base fC 1 f fd ["self","who"] (qk CC):=by
 refine F.ok Ck λU A z s H vs Q E X h=>?_;obtain⟨p,G,M,v,d,fs,wv,c,w,rfl,hp,g,B,I,L,J,q⟩:=h;have m:=gH X;refine⟨_,(et (eO (i:=2) Ck.nd eF) (et (fO (An (fg m (eT T.cl T.nAl (pv 0)) (pv 1))) (eR (i:=3) Ck.nd) (eE (kP (i:=2) Ck.nd (fh im (kC m (eT T.cl T.nOf (pv 0)) (pv 3) eF ⟨rfl,rfl,rfl,rfl⟩) (ja lC (hJ m (fg m (eT T.cl T.nAl (pv 0)) (pv 1)) (pv 3)))) uA))) (eE (eU (pv 2))))),?_⟩;obtain⟨o,a,b,l,R⟩:=id L;have Y:a.length=(eZ (c.needs w)).length:=by have:=congrArg List.length l;rw[ab,ab]at this;exact this
 refine⟨_,rfl,p,G,_,_,rfl,hp,g,_,rfl,M,_,rfl,I,d,o,a,rfl,b,?_⟩;refine tz (kvs:=a) (λi σ t=>∃C,σ=[some (.ref p),some wv,some (.int ((c.Mo w ((eZ (c.needs w)).take i):Nat):Int)),C]/\t=H) ⟨none,by rw[db,eD.Mp];rfl,rfl⟩ (λi σ t _ ⟨_,_,e⟩=>by rw[e];exact b) ?_ ?_;rintro i Z σ t hi ⟨C,rfl,rfl⟩;have j:(a.map (·.1))[i]?=some Z.1:=by rw[ae,hi];rfl
 rw[l,ae]at j;obtain⟨x,N,O⟩:=ax.mp j;rw[<-O];obtain⟨r,D,y⟩:=J.get x;have S:(eZ (c.needs w)).take (i+1)=(eZ (c.needs w)).take i++[x]:=by rw[bc,N];rfl
 refine⟨_,rfl,_,rfl,p,G,_,_,rfl,hp,B,v,rfl,J.isD,_,rfl,r,D,?_⟩;rw[y];refine⟨_,rfl,p,G,_,_,rfl,hp,g,_,rfl,M,_,rfl,I,_,rfl,d,_,rfl,L.get (ai N),_,rfl,_,_,rfl,rfl,_,_,rfl,rfl,?_⟩;refine⟨some (.str x),?_,rfl⟩;rw[qH,xC,S,eD.Mq];rfl;rintro σ t ⟨C,rfl,rfl⟩;rw[Y,aK,eD.Mr];exact⟨_,rfl,q⟩
end
inductive tK (CC:dY)(vs:ef V)(H:Hp)(Q:VK)(E:XK):Prop
 |mk (p dx b bits by_ ofp al sh fo:dY)(c:eD)(ksh kfo:ef (gi×V))(_:vs=[.ref p])(_:H p=some (.ins CC dx (Fo b bits by_ ofp al sh fo)))(_:iz H bits c c.La)(_:oF H by_ c)(_:c.n<64)(_:bits≠fo)(_:sh≠fo)(_:H sh=some (.dN ksh))(_:∀kv∈ksh,∃w,c.Who w/\kv.1=fK w)(_:∀w,c.Who w->fc ksh (fK w)=some (.int (c.LV w)))(_:H fo=some (.dN kfo))(_:kfo.length<=64)(_:∀kv∈kfo,∃w,c.Who w/\kv.1=fK w)(_:∀w,c.Who w->fc kfo (fK w)=some (.int (c.LV w)))(_:∀H',eL (del H [fo]) H'->kN H' fo c c.LW->Q .non H')
def eD.Ms (c:eD)(vs:ef (el Pk)):el Pk->Nat
 |none=>c.LV none
 |some k=>c.maskOf λj=>c.LR (some k) j||(decide (some j∈vs)&&c.LR (some j) k)
def eD.Mu (c:eD)(w:el Pk):c.Ms [] w=c.LV w:=by cases w with|none=>rfl|some k=>refine eD.ext (c.Ls _) (c.Ls _) λj=>?_;show c.has (c.maskOf _) j↔c.has (c.maskOf _) j;rw[eD.Lr,eD.Lr];simp
def eD.Mv (c:eD)(vs:ef (el Pk))(w:el Pk):c.Ms vs w<2^c.n:=by cases w <;> exact c.Ls _
def eD.Mw (c:eD){vs:ef (el Pk)}(h:∀k∈c.ks,some k∈vs)(w:el Pk):c.Ms vs w=c.LW w:=by cases w with|none=>rfl|some k=>refine eD.ext (c.Ls _) (c.Ls _) λj=>?_;show c.has (c.maskOf _) j↔c.has (c.maskOf _) j;rw[eD.Lr,eD.Lr];refine and_congr_right λa=>?_;rw[aq (h j a),cq]
def eD.Mx (c:eD)(vs:ef (el Pk))(v:el Pk)(ps:ef Pk):el Pk->Nat
 |none=>c.LV none
 |some k=>if k∈ps then c.Ms vs (some k) ||| c.La v else c.Ms vs (some k)
def eD.My (c:eD)(vs:ef (el Pk))(v w:el Pk):c.Mx vs v [] w=c.Ms vs w:=by cases w with|none=>rfl|some k=>show(if k∈([]:ef Pk) then c.Ms vs (some k) ||| c.La v else c.Ms vs (some k))=_;rw[av (λz=>nomatch z)]
def eD.Mz (c:eD)(vs:ef (el Pk)){v w:el Pk}(d:c.Who v)(g:c.Who w):c.Mx vs v (c.listed (c.LV v)) w=c.Ms (vs++[v]) w:=by
 cases w with|none=>rfl|some k=>
  have h:=g k rfl;show(if k∈c.listed (c.LV v) then c.Ms vs (some k) ||| c.La v else c.Ms vs (some k))=_;have e:k∈c.listed (c.LV v)↔c.Lu v k:=by rw[eD.Lf,eD.LY];exact⟨λz=>z.2,λz=>⟨h,z⟩⟩
  refine eD.ext ?_ (c.Ls _) λj=>?_;split;exact jv (c.Mv _ _) (eD.L7 d);exact c.Mv _ _;have key:c.has (c.Ms (vs++[v]) (some k)) j↔c.has (c.Ms vs (some k)) j\/(j∈c.ks/\v=some j/\c.Lu v k):=by unfold eD.Ms;simp only[eD.Lr,cw,aF,aw,aA,aj,eD.LS];constructor;rintro⟨a,h2|⟨h2|h2,b⟩⟩;exact .inl ⟨a,.inl h2⟩;exact .inl ⟨a,.inr ⟨h2,b⟩⟩;exact .inr ⟨a,h2.symm,h2▸b⟩;rintro(⟨a,h2|⟨h2,b⟩⟩|⟨a,h2,b⟩);exact⟨a,.inl h2⟩;exact⟨a,.inr ⟨.inl h2,b⟩⟩;exact⟨a,.inr ⟨.inr h2.symm,h2▸b⟩⟩
  rw[key];by_cases hs:c.Lu v k;rw[ay (e.mpr hs),eD.Lg,eD.Ma d];refine or_congr_right ?_;exact⟨λz=>⟨d j z,z,hs⟩,λz=>z.2.1⟩;rw[av (λz=>hs (e.mp z))];exact⟨.inl,λz=>z.elim id λy=>absurd y.2.2 hs⟩
theorem rH {c:eD}:∀{ksh:ef (gi×V)},(∀kv∈ksh,∃w,c.Who w/\kv.1=fK w)->∃ws:ef (el Pk),ksh.map (·.1)=ws.map fK/\∀w∈ws,c.Who w
 |[],_=>⟨[],rfl,λw hw=>nomatch hw⟩
 |kv::ksh,h=>by obtain⟨ws,e1,e2⟩:=rH (c:=c) (ksh:=ksh) λx hx=>h x (by simp[hx]);obtain⟨w,h1,h2⟩:=h kv (by simp);refine⟨w::ws,by rw[aH,aH,e1,h2],λx hx=>?_⟩;rcases ao.mp hx with rfl|hx;exact h1;exact e2 x hx
def gQ {c:eD}{k:Pk}(h:k∈c.ks):c.Who (some k):=λj e=>by cases e;exact h
def jr {c:eD}:c.Who none:=λj e=>nomatch e
section
variable {base:Heap}{f:dY}
def Em:eQ ["self","who","pick"] ["self"] (eK r6):=iW
theorem yj (F:iE K "make_foes_mutual" "Chart.make_foes_mutual" r6 f fd)(T:TC K mg CC)(ML:Mt P w K mg base CC fC 1 "listed" ["self","mask"] (j9 CC)):fB P w K mg base fC 2 f fd ["self"] (tK CC):=by
 refine F.ok Em λc0 A ct s H vs Q E hr h=>?_;obtain⟨p,dx,b,bits,N,b8,al,sh,m,c,J,U,rfl,hp,b6,co,b7,as,cx,cz,cp,a0,b2,b4,cn,cs,q⟩:=h;have hu:=gH hr;refine⟨_,(eE (fO (sJ (eT T.cl T.nSh (pv 0))) (eR (i:=1) Em.nd) (eE (fO (fL (iq ML hr fN (pv 0) (eo (fg hu (eT T.cl T.nSh (pv 0)) (pv 1)) eA))) (eR (i:=2) Em.nd) (eE (Ai hu (eT T.cl T.nFo (pv 0)) (pv 2) (fg hu (eT T.cl T.nBits (pv 0)) (pv 1)) Bi (λ_ _ _=>rfl))))))),?_⟩;obtain⟨R,ad,bm⟩:=rH cp;refine⟨_,rfl,p,dx,_,_,rfl,hp,(by kernel_rfl),sh,J,rfl,.inl cz,λo H1 sf a4 a6=>?_⟩;have L:H1 m=some (.dN U):=by rw[a4 m (Ne.symm cx)];exact b2
 have a2:H1 p=some (.ins CC dx (Fo b bits N b8 al sh m)):=sf.ins hp;have keep:∀{r:Hp},eN (del H1 [m]) r->∀{a u},H1 a=some u->(∀kvs,u≠.dN kvs)->r a=some u:=λ{r} B {a u} e n1=>B _ _ (by
   rw[eM (by simpa using λz:a=m=>n1 _ (by rw[z,L]at e;exact(Option.some.inj e).symm))]
   exact e)
 have b3:∀{r:Hp},eN (del H1 [m]) r->iz r bits c c.La:=λ{r} B=>by obtain⟨kvs,g1,g2⟩:=b6.f sf;refine⟨kvs,iB B ?_,g2⟩;exact g1.imp (λz=>by rw[eM (by simpa using as)];exact z) (by rintro⟨o',z⟩;exact⟨o',by rw[eM (by simpa using as)];exact z⟩)
 have bv:∀{r:Hp},eN (del H1 [m]) r->oF r N c:=λ{r} B=>by
  obtain⟨kvs,g1,g2⟩:=co.f sf;have nb:N≠m:=λz=>by rw[z]at g1;rcases g1 with y|⟨o',y⟩ <;> (rw[L]at y;cases y)
  refine⟨kvs,iB B (g1.imp (λz=>by rw[eM (by simpa using nb)];exact z) (by rintro⟨o',z⟩;exact⟨o',by rw[eM (by simpa using nb)];exact z⟩)),λk hk=>?_⟩;obtain⟨v,y1,y2,y3,y4⟩:=g2 k hk;exact⟨v,y1,y2,y3,keep B y4 λ_ z=>nomatch z⟩
 refine v6 (kvs:=J) (λi σ r=>∃O o1 o2,σ=[some (.ref p),o1,o2]/\r m=some (.dN O)/\(O.length<=64/\O.map (·.1)=U.map (·.1))/\(∀w,c.Who w->fc O (fK w)=some (.int (c.Ms (R.take i) w)))/\eN (del H1 [m]) r)
  ⟨U,none,none,rfl,L,⟨b4,rfl⟩,λw hw=>by rw[db,eD.Mu];exact cs w hw,fM _ _⟩ ((by rintro i σ r _ ⟨_,_,_,_,_,_,_,B⟩;exact keep B a6 λ_ z=>nomatch z)) ?_ ?_
 rintro i kv x σ r hi kx ⟨O,o1,o2,rfl,G,ap,S,B⟩;have a9:(J.map (·.1))[i]?=some kv.1:=by rw[ae,hi];rfl
 rw[ad,ae]at a9;obtain⟨v,hv,ev⟩:=ax.mp a9;rw[<-ev]at kx;have a3:=gW.of kx;have ah:=bm v (ai hv);have ht:R.take (i+1)=R.take i++[v]:=by rw[bc,hv];rfl
 have ag:=keep B a2 λ_ z=>nomatch z;have cy:=keep B a6 λ_ z=>nomatch z;refine⟨_,rfl,p,dx,_,rfl,ag,(by kernel_rfl),_,rfl,p,dx,_,_,rfl,ag,(by kernel_rfl),_,rfl,sh,_,rfl,⟨J,fK v,.inr ⟨o,cy⟩,kx,(a0 v ah).symm⟩,r,p,dx,N,_,c,_,rfl,eL.refl _,ag,(by kernel_rfl),bv B,b7,c.Ls _,λl xs H3 s3 hl bf a8 cv=>?_⟩;refine⟨l,rfl,⟨_,ff.of bf⟩,?_⟩;have b5:l≠m:=Ne.symm (eG G hl);refine fW (K:=K) (a:=l) (xs:=xs) (λj σ Z=>∃g o2,σ=[some (.ref p),some x,o2]/\Z m=some (.dN g)/\(g.length<=64/\g.map (·.1)=U.map (·.1))/\(∀w,c.Who w->fc g (fK w)=some (.int (c.Mx (R.take i) v ((c.listed (c.LV v)).take j) w)))/\eN (del H3 [m]) Z)
  ⟨O,_,rfl,s3 _ _ G,ap,λw hw=>by rw[db,eD.My];exact S w hw,fM _ _⟩ ((by rintro j σ Z _ ⟨_,_,_,_,_,_,t⟩;exact ff.of (t _ _ (by rw[eM (by simpa using b5)];exact bf)))) ?_ ?_
 rintro j y σ Z hj ⟨g,b9,rfl,X,C,d,t⟩;obtain⟨k,aa,hk⟩:=Paired.K8 a8 hj;have b1:=ai aa;have M:k∈c.ks:=(eD.Lf.mp b1).1;have bd:eN (del H1 [m]) Z:=λa u e=>by
  have Y:a≠m:=λz=>by rw[z,gc (by simp)]at e;cases e
  refine t _ _ ?_;rw[eM (by simpa using Y)];exact s3 _ _ (B _ _ e)
 have a1:=keep bd a2 λ_ z=>nomatch z;obtain⟨kq,rfl,an⟩:=id hk;have cd:kq≠m:=λz=>by rw[z,G]at an;cases an
 have be:gW Z (.ref kq) (some k):=⟨kq,rfl,t _ _ (by rw[eM (by simpa using cd)];exact s3 _ _ an)⟩;have bq:gW Z x v:=by
  cases v with|none=>exact a3|some kk=>
   obtain⟨q0,e1,e2⟩:=(show fj r x kk from a3);have n0:q0≠m:=λz=>by rw[z,G]at e2;cases e2
   exact⟨q0,e1,t _ _ (by rw[eM (by simpa using n0)];exact s3 _ _ e2)⟩
 have a7:(c.listed (c.LV v)).take (j+1)=(c.listed (c.LV v)).take j++[k]:=by rw[bc,aa];rfl
 refine⟨_,rfl,p,dx,_,_,rfl,a1,(by kernel_rfl),_,rfl,m,_,rfl,⟨g,fK (some k),.inl X,be.key,(d (some k) (gQ M)).symm⟩,_,rfl,p,dx,_,_,rfl,a1,(by kernel_rfl),_,rfl,bits,_,rfl,(b3 bd).get ah bq,_,_,rfl,rfl,?_⟩;rw[xC];have bl:k∉(c.listed (c.LV v)).take j:=λz=>by
  obtain⟨i',I⟩:=aB.mp z;rw[cc]at I;split at I
  next hlt2=>have:=(cg (af.mp I).1 (c.Lp _)).mp (I.trans aa.symm);lia
  cases I
 have bx:(c.Mx (R.take i) v ((c.listed (c.LV v)).take j) (some k))=c.Ms (R.take i) (some k):=by show(if _ then _ else _)=_;rw[av bl]
 rw[bx];refine⟨_,lS.of (k:=fK (some k)) X be.key (eY (by have:=C.1;lia)),_,_,rfl,er,?_,λu D=>?_,λa u e=>?_⟩;refine⟨?_,by rw[mX (by rw[d _ (gQ M)];rfl)];exact C.2⟩;have:(fJ g (fK (some k)) (V.int ((c.Ms (R.take i) (some k) ||| c.La v:Nat):Int))).length=g.length:=by have:=congrArg List.length (mX (kvs:=g) (k:=fK (some k)) (v:=V.int ((c.Ms (R.take i) (some k) ||| c.La v:Nat):Int)) (by rw[d _ (gQ M)];rfl));simpa using this
 have:=C.1;lia;rw[gq];by_cases eu:u=some k;subst eu;rw[ay rfl];show _=some (V.int ((if _ then _ else _:Nat):Int));rw[ay (by rw[a7];simp)];rw[av (λz=>eu (iF z)),d u D];cases u with|none=>rfl|some k'=>have:k'≠k:=λz=>eu (by rw[z]);show some (V.int ((if _ then _ else _:Nat):Int))=some (V.int ((if _ then _ else _:Nat):Int));rw[a7];simp[this]
 have Y:a≠m:=λz=>by rw[z,gc (by simp)]at e;cases e
 rw[eB Y];exact t _ _ e;rintro σ Z ⟨g,b9,rfl,X,C,d,t⟩;have lx:xs.length=(c.listed (c.LV v)).length:=Paired.length a8;rw[lx,aK]at d;refine⟨g,_,_,rfl,X,C,λu D=>?_,λa u e=>?_⟩;rw[ht,<-eD.Mz c _ ah D];exact d u D;have Y:a≠m:=λz=>by rw[z,gc (by simp)]at e;cases e
 refine t _ _ ?_;rw[eM (by simpa using Y)];exact s3 _ _ (B _ _ e);rintro σ r ⟨O,o1,o2,rfl,G,ap,S,B⟩;have lw:J.length=R.length:=by have:=congrArg List.length ad;rw[ab,ab]at this;exact this
 rw[lw,aK]at S;refine q r (λa u e=>?_) ⟨O,.inl G,λkv a5=>?_,λw hw=>?_⟩;have Y:a≠m:=λz=>by rw[z,gc (by simp)]at e;cases e
 rw[eM (by simpa using Y)]at e;rcases sf a u e with z|⟨z1,o',z2⟩;exact .inl (B _ _ (by rw[eM (by simpa using Y)];exact z));exact .inr ⟨z1,o',B _ _ (by rw[eM (by simpa using Y)];exact z2)⟩;have h1:kv.1∈O.map (·.1):=bo a5;rw[ap.2]at h1;obtain⟨ch,h2,h3⟩:=aC.mp h1;rw[<-h3];exact cn ch h2;rw[S w hw,eD.Mw c λk hk=>?_];have:=i5 (a0 (some k) (gQ hk));rw[ad]at this;obtain⟨u,ba,D⟩:=aC.mp this;rw[iF D]at ba;exact ba
end
section
variable {H:Hp}{p C dx:dY}{fs:ef (Str×V)}(hp:H p=some (.ins C dx fs))
include hp
theorem jZ {u:HO}(e:H a=some u)(h:u≠.ins C dx fs):del H [p] a=some u:=by rw[eM (by simpa using fF e hp h)];exact e
theorem lG {u:HO}(h:Rd H a u)(n:u≠.ins C dx fs):Rd (del H [p]) a u:=h.imp (λz=>jZ hp z n) (by rintro⟨o,z⟩;exact⟨o,jZ hp z λy=>nomatch y⟩)
theorem gv.apart {ns:ef Nd}(h:gv H a ns):gv (del H [p]) a ns:=(by obtain⟨xs,h1,h2⟩:=h;exact⟨xs,jZ hp h1 (λz=>nomatch z),Paired.KG h2 (by rintro _ _ ⟨q,e1,e2⟩;exact⟨q,e1,jZ hp e2 λz=>nomatch z⟩)⟩)
theorem fZ.apart {b st:dY}(h:fZ CB H b st es)(A:b≠p):fZ CB (del H [p]) b st es:=by obtain⟨r,s,v,d,o,D,t,w,C,E⟩:=h.ex;refine⟨r,s,v,d,o,by rw[eM (by simpa using A)];exact D,lG hp t (λz=>nomatch z),Paired.KG w λ_ _ z=>?_,lG hp C (λz=>nomatch z),λx=>?_⟩;obtain⟨g,a,y,i,j,e⟩:=z;exact⟨g,a,y,i,jZ hp j (λz=>nomatch z),Paired.KG e (by rintro _ _ ⟨q,B,F⟩;exact⟨q,B,jZ hp F λz=>nomatch z⟩)⟩;rcases E x with z|⟨l,m,g,i,j,e⟩;exact .inl z;exact .inr ⟨l,m,g,jZ hp i (λz=>nomatch z),j,e⟩
theorem iz.apart {c:eD}{g:el Pk->Nat}(h:iz H a c g):iz (del H [p]) a c g:=(by obtain⟨kvs,h1,h2⟩:=h;exact⟨kvs,lG hp h1 (λz=>nomatch z),h2⟩)
theorem oF.apart {c:eD}(h:oF H a c):oF (del H [p]) a c:=(by obtain⟨kvs,h1,h2⟩:=h;exact⟨kvs,lG hp h1 (λz=>nomatch z),λk hk=>(by obtain⟨v,g1,q,g2,g3⟩:=h2 k hk;exact⟨v,g1,q,g2,jZ hp g3 λz=>nomatch z⟩)⟩)
theorem me.apart {c:eD}(h:me H a c):me (del H [p]) a c:=(by obtain⟨kvs,h1,h2⟩:=h;exact⟨kvs,lG hp h1 (λz=>nomatch z),h2⟩)
end
def BC {CB b st H p C dx}(h:fZ CB H b st es)(hp:H p=some (.ins C dx [])):b≠p:=by
 obtain⟨j,d,g,a,i,e,_⟩:=h.ex;refine fF e hp λz=>?_;injection z with _ _ z
 have:=fE d g;rw[z]at this;cases this
def jk.upd {d:dY}{c:eD}{w:el Pk}{k:ef (gi×V)}{u:HO}(h:jk H d c w)(i:H a=some (.dN k)):jk (upd H a u) d c w:=by obtain⟨o,b,e,j,g⟩:=h;exact⟨o,b,by rw[eB (fF e i λz=>nomatch z)];exact e,j,g⟩
def xZ (e:eL (del H [p]) H'):eL (del H [p]) (del H' [p]):=λa u h=>by
 have na:a≠p:=λz=>by rw[z,gc (by simp)]at h;cases h
 rcases e a u h with z|⟨z,o,y⟩;exact .inl (by rw[eM (by simpa using na)];exact z);exact .inr ⟨z,o,by rw[eM (by simpa using na)];exact y⟩
inductive tS (CB CC:dY)(vs:ef V)(H:Hp)(Q:VK)(E:XK):Prop
 |mk (p dx b st:dY)(es:ef En)(sn:ef Nd)(_:vs=[.ref p,.ref b])(_:H p=some (.ins CC dx []))(_:fZ CB H b st es)(_:gv H st sn)(_:(es.map fb).Nodup)(_:es.length<64)(_:∀w,(gr es sn w).length<=100)(_:∀(c:eD) H',c.es=es->c.sn=sn->eL (del H [p]) H'->iQ CB CC H' p c->Q .non H')
structure FW (G H:Hp)(pp C dx aa:dY)(fs':ef (Str×V))(u:HO)(H':Hp):Prop where
 g:eL G H'
 p:H' pp=some (.ins C dx fs')
 a:H' aa=some u
 o:∀b,b≠pp->b≠aa->H' b=H b
 ga:G aa=none
 np:aa≠pp
 keep:∀b v,b≠pp->H b=some v->H' b=some v
def jq {fs fs':ef (Str×V)}{u:HO}(h:eL G H)(i:G p=none)(hp:H p=some (.ins C dx fs))(d:H a=none):FW G H p C dx a fs' u (upd (upd H a u) p (.ins C dx fs')):=by have j:p≠a:=eG hp d;exact⟨(h.upd (h.free d)).upd i,er,by rw[eB (Ne.symm j)];exact er,λb g l=>by rw[eB g,eB l],h.free d,Ne.symm j,λb v g e=>by rw[eB g,eB (eG e d)];exact e⟩
theorem xj {H:Hp}:∀{nks:ef (gi×V)} {es:ef En},Paired (nn H) nks es->nks.map (·.1)=es.map λe=>fK (some (fb e))
 |_,_,.nil=>rfl
 |_,_,.cons h r=>by rw[aH,aH,xj r,h.1];rfl
abbrev Jx (b:dY):ef (Str×V):=[("board",.ref b)]
noncomputable abbrev Iv (b bits:dY):ef (Str×V):=[("board",.ref b),("bits",.ref bits)]
noncomputable abbrev Iu (b bits by_:dY):ef (Str×V):=[("board",.ref b),("bits",.ref bits),("by_bit",.ref by_)]
def Kl (b:dY):gz ("board":Str) (V.ref b) []=Jx b:=by kernel_rfl
def Kk (b bits:dY):gz ("bits":Str) (V.ref bits) (Jx b)=Iv b bits:=by kernel_rfl
def Kj (b bits a:dY):gz ("by_bit":Str) (V.ref a) (Iv b bits)=Iu b bits a:=by kernel_rfl
def Ki (b bits a d:dY):gz ("of_part":Str) (V.ref d) (Iu b bits a)=zm b bits a d:=by kernel_rfl
def Kh (b bits d a e h g:dY):gz ("foes":Str) (V.ref g) (gz ("shut_out":Str) (V.ref h) (gz ("allowed":Str) (V.ref e) (zm b bits d a)))=Fo b bits d a e h g:=by kernel_rfl
section
variable {base:Heap}{f:dY}
def DP:eQ ["self","board","who"] ["self","board"] (eK sw):=iW
theorem yx (F:iE K "__init__" "Chart.__init__" sw f fd)(T:TC K mg CC)(c0:TB K mg CB)(MG:Mt P w K mg base CC fC 1 "give_bits" ["self"] (BJ CB CC))(MA:Mt P w K mg base CC fC 3 "allowed_by" ["self","who"] (qr CB CC))(MS:Mt P w K mg base CC fC 1 "shut_out_by" ["self","who"] (qk CC))(MM:Mt P w K mg base CC fC 2 "make_foes_mutual" ["self"] (tK CC)):fB P w K mg base fC 4 f fd ["self","board"] (tS CB CC):=by
 refine F.ok DP λf3 A ft s H vs Q E hr h=>?_;obtain⟨p,m,b,st,es,sn,rfl,hp,hB,hN,eb,c9,fu,q⟩:=h;have hu:=gH hr;refine⟨_,(et (jV T.cl T.nBoard (pv 0) (pv 1)) (et (jV T.cl T.nBits (pv 0) (um eF)) (et (jV T.cl T.nBy (pv 0) ie) (et (jV T.cl T.nOf (pv 0) ie) (et (gF (qV MG (hr.mono (by decide)) fN (pv 0))) (et (jV T.cl T.nAl (pv 0) lK) (et (jV T.cl T.nSh (pv 0) lK) (et (jV T.cl T.nFo (pv 0) lK) (et (fO (sJ (eT c0.cl c0.nN (pv 1))) (eR (i:=2) DP.nd) (et (kB hu (eT T.cl T.nAl (pv 0)) (pv 2) (iq MA hr fN (pv 0) (eo (pv 2) eA)) rfl) (et (kB hu (eT T.cl T.nSh (pv 0)) (pv 2) (iq MS (hr.mono (by decide)) fN (pv 0) (eo (pv 2) eA)) rfl) (eE (kB hu (eT T.cl T.nFo (pv 0)) (pv 2) (fg hu (eT T.cl T.nSh (pv 0)) (pv 2)) rfl))))) (eE (gF (qV MM (hr.mono (by decide)) fN (pv 0))))))))))))),?_⟩;have a1:del H [p] p=none:=gc (by simp);have f0:=BC hB hp;have B0:=hB.apart hp f0;have N0:=hN.apart hp;generalize ds:del H [p]=G0 at *;have fl:eL G0 H:=by rw[<-ds];exact(fM _ _).toF
 refine⟨_,rfl,_,rfl,p,m,_,rfl,hp,(by decide),?_⟩;generalize c7:upd H p (.ins CC m (gz ("board":Str) (V.ref b) []))=H1;have bf:H1 p=some (.ins CC m (Jx b)):=by rw[<-c7,er,Kl]
 have fk:eL G0 H1:=by rw[<-c7];exact fl.upd a1
 intro bits ap;have ew:p≠bits:=eG bf ap;refine⟨er,_,rfl,p,m,_,rfl,(by rw[jo,eB ew];exact bf),(by show 1<1000;decide),?_⟩;rw[jo,Kk];have A2:=jq (fs':=Iv b bits) (u:=.dN [(none,.int 0)]) fk a1 bf ap;generalize upd (upd H1 bits (.dN [(none,.int 0)])) p (.ins CC m (Iv b bits))=Z at A2 ⊢;intro j c5;have e4:p≠j:=eG A2.p c5;refine⟨_,rfl,p,m,_,rfl,(by rw[eB e4];exact A2.p),(by show 2<1000;decide),?_⟩;rw[Kj];have A3:=jq (fs':=Iu b bits j) (u:=.dK []) A2.g a1 A2.p c5;generalize upd (upd Z j (.dK [])) p (.ins CC m (Iu b bits j))=M at A3 ⊢;intro l as;have ei:p≠l:=eG A3.p as;refine⟨_,rfl,p,m,_,rfl,(by rw[eB ei];exact A3.p),(by show 3<1000;decide),?_⟩;rw[Ki];have A4:=jq (fs':=zm b bits j l) (u:=.dK []) A3.g a1 A3.p as;generalize upd (upd M l (.dK [])) p (.ins CC m (zm b bits j l))=H4 at A4 ⊢;have a7:=A4.keep _ _ A2.np (A3.keep _ _ A2.np A2.a);have dy:=A4.keep _ _ A3.np A3.a;refine⟨_,rfl,p,m,_,rfl,A4.p,(by kernel_rfl),p,m,b,bits,j,l,st,es,sn,rfl,A4.p,B0.f A4.g,eb,c9,a7,dy,A4.a,eG A3.a as,λc H5 c1 c2 bq M5 fy ep=>?_⟩;subst c1;subst c2;have cs:eL G0 H5:=λa u e=>by
  rcases A4.g a u e with z|⟨z1,o,z2⟩;refine bq a u ?_;rw[eM (by
   simp only[ao,aR,or_false,not_or]
   exact⟨(λy=>by rw[y,A2.ga]at e;cases e),(λy=>by rw[y,A3.ga]at e;cases e),(λy=>by rw[y,A4.ga]at e;cases e)⟩)]
  exact z;refine .inr ⟨z1,o,bq.frz ?_⟩;rw[eM (by
   simp only[ao,aR,or_false,not_or]
   exact⟨(λy=>by rw[y,A2.ga]at e;cases e),(λy=>by rw[y,A3.ga]at e;cases e),(λy=>by rw[y,A4.ga]at e;cases e)⟩)]
  exact z2
 have C:H5 p=some (.ins CC m (zm b bits j l)):=bq.ins (by
  rw[eM (by
    simp only[ao,aR,or_false,not_or]
    exact⟨Ne.symm A2.np,Ne.symm A3.np,Ne.symm A4.np⟩)]
  exact A4.p)
 have b9:del H5 [p] p=none:=gc (by simp);have ej:eL (del H5 [p]) H5:=(fM _ _).toF;have gg:eL G0 (del H5 [p]):=by rw[<-ds]at cs ⊢;exact xZ cs
 have M1:=M5.apart C;have ct:=fy.apart C;have c4:=ep.apart C;generalize f4:del H5 [p]=G1 at *;have B1:=B0.f gg;have N1:=N0.f gg;intro r cx;have fa:p≠r:=eG C cx;refine⟨_,rfl,p,m,_,rfl,(by rw[eB fa];exact C),(by show 4<1000;decide),?_⟩;have R:=jq (fs':=gz ("allowed":Str) (V.ref r) (zm b bits j l)) (u:=.dN []) ej b9 C cx;generalize upd (upd H5 r (.dN [])) p (.ins CC m (gz ("allowed":Str) (V.ref r) (zm b bits j l)))=H6 at R ⊢;intro B co;have fp:p≠B:=eG R.p co;refine⟨_,rfl,p,m,_,rfl,(by rw[eB fp];exact R.p),(by show 5<1000;decide),?_⟩;have U:=jq (fs':=gz ("shut_out":Str) (V.ref B) (gz ("allowed":Str) (V.ref r) (zm b bits j l))) (u:=.dN []) R.g b9 R.p co;generalize upd (upd H6 B (.dN [])) p (.ins CC m (gz ("shut_out":Str) (V.ref B) (gz ("allowed":Str) (V.ref r) (zm b bits j l))))=H7 at U ⊢;intro G a5;have ed:p≠G:=eG U.p a5;refine⟨_,rfl,p,m,_,rfl,(by rw[eB ed];exact U.p),(by show 6<1000;decide),?_⟩;rw[Kh];have Y:=jq (fs':=Fo b bits j l r B G) (u:=.dN []) U.g b9 U.p a5;generalize upd (upd H7 G (.dN [])) p (.ins CC m (Fo b bits j l r B G))=H8 at Y ⊢;have d5:=Y.keep _ _ R.np (U.keep _ _ R.np R.a);have c8:=Y.keep _ _ U.np U.a;have cy:=Y.a;have ea:r≠B:=eG R.a co;have b8:r≠G:=eG (U.keep _ _ R.np R.a) a5;have ba:B≠G:=eG U.a a5;obtain⟨bx,dn,dv,ah,vk,b1,b2,b3,b4,b5⟩:=id B1.ex;have ln:=Paired.length b3;have fr:=Y.g.rd b2;have bl:G1 dn≠none:=λz=>by rcases b2 with y|⟨o,y⟩ <;> (rw[z]at y;cases y)
 have d3:dn≠r:=λz=>bl (by rw[z];exact R.ga);have d4:dn≠B:=λz=>bl (by rw[z];exact U.ga);have cz:dn≠G:=λz=>bl (by rw[z];exact Y.ga);refine⟨_,rfl,b,bx,_,_,rfl,Y.g.ins b1,fE _ _,dn,_,rfl,fr,λo H9 d8 an e7=>?_⟩;have c3:H9 r=some (.dN []):=by rw[an r (Ne.symm d3)];exact d5
 have dp:H9 B=some (.dN []):=by rw[an B (Ne.symm d4)];exact c8
 have d7:H9 G=some (.dN []):=by rw[an G (Ne.symm cz)];exact cy
 have eq:eL G1 H9:=Y.g.trans d8;have fx:=d8.ins Y.p
 let ws:ef (el Pk):=none::c.es.map λe=>some (fb e)
 have dc:((none,V.ref st)::ah).map (·.1)=ws.map fK:=by rw[aH,xj b3];show _=fK none::(c.es.map λe=>some (fb e)).map fK;rw[cC];rfl
 have da:((none,V.ref st)::ah).length=ws.length:=by have:=congrArg List.length dc;rw[ab,ab]at this;exact this
 have f2:ws.length<=64:=by show(none::c.es.map λe=>some (fb e)).length<=64;rw[aE,ab];lia
 have ag:∀w∈ws,c.Who w:=λw L k e=>by subst e;rcases ao.mp L with z|z;cases z;obtain⟨e,he,z⟩:=aC.mp z;exact(c.mem k).mpr (Option.some.inj z▸bo he)
 have N:∀w,c.Who w->w∈ws:=λw L=>by cases w with|none=>exact bC|some k=>obtain⟨e,he,z⟩:=aC.mp ((c.mem k).mp (L k rfl));exact bj _ (aC.mpr ⟨e,he,by rw[z]⟩)
 have ec:ws.Nodup:=by
  refine aX.mpr ⟨λz=>?_,?_⟩;obtain⟨e,_,z⟩:=aC.mp z;cases z;have:(c.es.map λe=>some (fb e))=(c.es.map fb).map some:=by rw[cC];rfl
  rw[this];exact cu.mpr (eb.imp λh z=>h (Option.some.inj z))
 have cn:c.n<64:=by rw[c.n_eq];exact c9
 refine v6 (kvs:=(none,.ref st)::ah) (λi σ Z=>∃I D kf o2,σ=[some (.ref p),some (.ref b),o2]/\Z p=some (.ins CC m (Fo b bits j l r B G))/\Z dn=some (.frz o (.dN ((none,.ref st)::ah)))/\Z r=some (.dN I)/\Z B=some (.dN D)/\Z G=some (.dN kf)/\I.length<=i/\D.map (·.1)=(ws.take i).map fK/\kf.map (·.1)=(ws.take i).map fK/\(∀w∈ws.take i,(∃d,fc I (fK w)=some (.ref d)/\jk Z d c w)/\fc D (fK w)=some (.int (c.LV w))/\fc kf (fK w)=some (.int (c.LV w)))/\eL G1 Z)
  ⟨[],[],[],none,rfl,fx,e7,c3,dp,d7,am _,by simp,by simp,λw L=>by simp at L,eq⟩ ((by rintro i σ Z _ ⟨_,_,_,_,_,_,e,_⟩;exact e)) ?_ ?_
 rintro i kv x σ Z hi kx ⟨I,D,kf,o2,rfl,J,dd,cp,bd,a2,la,X,lf,t,g2⟩;have d6:(((none,V.ref st)::ah).map (·.1))[i]?=some kv.1:=by rw[ae,hi];rfl
 rw[dc,ae]at d6;obtain⟨v,hv,ev⟩:=ax.mp d6;rw[<-ev]at kx;have a4:=gW.of kx;have ey:=ai hv;have e6:=ag v ey;have f8:i<64:=by have:=(af.mp hv).1;lia
 have ht:ws.take (i+1)=ws.take i++[v]:=by rw[bc,hv];rfl
 have d9:v∉ws.take i:=λz=>by
  obtain⟨i',ad⟩:=aB.mp z;rw[cc]at ad;split at ad
  next hlt2=>have:=(cg (af.mp ad).1 ec).mp (ad.trans hv.symm);lia
  cases ad
 have Io:kf.length<=i:=by have:=congrArg List.length lf;rw[ab,ab,aV]at this;lia
 have f1:D.length<=i:=by have:=congrArg List.length X;rw[ab,ab,aV]at this;lia
 refine⟨_,rfl,p,m,_,rfl,J,(by kernel_rfl),_,rfl,p,m,b,bits,st,_,x,c,v,rfl,J,(by kernel_rfl),(by kernel_rfl),B1.f g2,N1.f g2,M1.f g2,e6,a4,cn,fu v,λd M s3 hd ez=>?_⟩;have f6:p≠d:=eG J hd;have a8:=s3 _ _ J;have a3:=s3 _ _ cp;have e8:mf M (fK v) x:=(a4.same s3).key;refine⟨_,rfl,p,m,_,_,rfl,a8,(by kernel_rfl),_,rfl,r,_,rfl,lS.of (k:=fK v) a3 e8 (eY (by lia)),?_⟩;have g3:eL G1 M:=g2.trans s3.toF;have g4:eL G1 (upd M r (.dN (fJ I (fK v) (.ref d)))):=g3.upd R.ga;have c6:upd M r (.dN (fJ I (fK v) (.ref d))) r=some (.dN (fJ I (fK v) (.ref d))):=er;have be:jk (upd M r (.dN (fJ I (fK v) (.ref d)))) d c v:=ez.upd a3;have k4:∀{a u},a≠r->M a=some u->upd M r (.dN (fJ I (fK v) (.ref d))) a=some u:=λ{a u} n e=>by rw[eB n];exact e
 have b6:∀w∈ws.take i,∃d',fc I (fK w)=some (.ref d')/\jk (upd M r (.dN (fJ I (fK v) (.ref d)))) d' c w:=λw L=>by obtain⟨⟨d',e1,O⟩,_⟩:=t w L;exact⟨d',e1,(O.same s3).upd a3⟩
 have a9:gW (upd M r (.dN (fJ I (fK v) (.ref d)))) x v:=by cases v with|none=>exact a4|some kk=>obtain⟨q0,e1,O⟩:=(show fj Z x kk from a4);exact⟨q0,e1,k4 (fF (s3 _ _ O) a3 λz=>nomatch z) (s3 _ _ O)⟩
 have a0:=k4 (Ne.symm R.np) a8;have a6:=k4 (Ne.symm ea) (s3 _ _ bd);have e9:=k4 (Ne.symm b8) (s3 _ _ a2);have e5:=k4 d3 (s3 _ _ dd)
 clear_value ws
 generalize f7:upd M r (.dN (fJ I (fK v) (.ref d)))=H4 at *;refine⟨_,rfl,p,m,_,rfl,a0,(by kernel_rfl),_,rfl,p,m,r,l,d,_,x,c,v,rfl,a0,(by kernel_rfl),(by kernel_rfl),⟨_,fK v,.inl c6,a9.key,by rw[gq,ay rfl]⟩,be,c4.f g4,?_⟩;refine⟨_,rfl,p,m,_,_,rfl,a0,(by kernel_rfl),_,rfl,B,_,rfl,lS.of (k:=fK v) a6 a9.key (eY (by lia)),?_⟩;have g5:eL G1 (upd H4 B (.dN (fJ D (fK v) (.int (c.LV v))))):=g4.upd U.ga;have k5:∀{a u},a≠B->H4 a=some u->upd H4 B (.dN (fJ D (fK v) (.int (c.LV v)))) a=some u:=λ{a u} n e=>by rw[eB n];exact e
 have d2:upd H4 B (.dN (fJ D (fK v) (.int (c.LV v)))) B=some (.dN (fJ D (fK v) (.int (c.LV v)))):=er;have C:=k5 (Ne.symm U.np) a0;have ek:=k5 ea c6;have ch:=k5 (Ne.symm ba) e9;have fv:=k5 d4 e5;have d1:gW (upd H4 B (.dN (fJ D (fK v) (.int (c.LV v))))) x v:=by cases v with|none=>exact a9|some kk=>obtain⟨q0,e1,O⟩:=(show fj H4 x kk from a9);exact⟨q0,e1,k5 (fF O a6 λz=>nomatch z) O⟩
 have cv:=be.upd (u:=.dN (fJ D (fK v) (.int (c.LV v)))) a6;have bv:∀w∈ws.take i,∃d,fc I (fK w)=some (.ref d)/\jk (upd H4 B (.dN (fJ D (fK v) (.int (c.LV v))))) d c w:=λw L=>by obtain⟨d',e1,O⟩:=b6 w L;exact⟨d',e1,O.upd a6⟩
 generalize f5:upd H4 B (.dN (fJ D (fK v) (.int (c.LV v))))=H5' at *;refine⟨_,rfl,p,m,_,_,rfl,C,(by kernel_rfl),_,rfl,B,_,rfl,⟨_,fK v,.inl d2,d1.key,by rw[gq,ay rfl]⟩,_,rfl,p,m,_,_,rfl,C,(by kernel_rfl),_,rfl,G,_,rfl,lS.of (k:=fK v) ch d1.key (eY (by lia)),?_⟩;have k6:∀{a u},a≠G->H5' a=some u->upd H5' G (.dN (fJ kf (fK v) (.int (c.LV v)))) a=some u:=λ{a u} n e=>by rw[eB n];exact e
 refine⟨_,_,_,_,rfl,k6 (Ne.symm Y.np) C,k6 cz fv,k6 b8 ek,k6 ba d2,er,?_,?_,?_,λu S=>?_,g5.upd Y.ga⟩;have:=ge I (fK v) (V.ref d);lia;have bm:fc D (fK v)=none:=by cases hq:fc D (fK v) with|none=>rfl|some u=>have:=i5 hq;rw[X]at this;obtain⟨y,hy,e⟩:=aC.mp this;rw[iF e]at hy;exact absurd hy d9
 rw[ip _ bm,aG,X,ht,aG];rfl;have bm:fc kf (fK v)=none:=by cases hq:fc kf (fK v) with|none=>rfl|some u=>have:=i5 hq;rw[lf]at this;obtain⟨y,hy,e⟩:=aC.mp this;rw[iF e]at hy;exact absurd hy d9
 rw[ip _ bm,aG,lf,ht,aG];rfl;rw[gq,gq,gq];by_cases eu:u=v;subst eu;rw[ay rfl,ay rfl,ay rfl];exact⟨⟨d,rfl,cv.upd ch⟩,rfl,rfl⟩;have ne:¬fK u=fK v:=λz=>eu (iF z);rw[av ne,av ne,av ne];have dl:u∈ws.take i:=by rw[ht]at S;exact(aA.mp S).elim id λz=>absurd (aj.mp z) eu
 obtain⟨d',e1,O⟩:=bv u dl;exact⟨⟨d',e1,O.upd ch⟩,(t u dl).2⟩;rintro σ Z ⟨I,D,kf,o2,rfl,J,dd,cp,bd,a2,la,X,lf,t,g2⟩;rw[da,aK]at X t lf;rw[da]at la;have Io:kf.length<=64:=by have:=congrArg List.length lf;rw[ab,ab]at this;lia
 have eh:bits≠G:=λz=>by obtain⟨kvs,y,_⟩:=M1;rw[z]at y;rcases y with y|⟨o',y⟩ <;> (rw[Y.ga]at y;cases y)
 refine⟨_,rfl,p,m,_,rfl,J,(by kernel_rfl),p,m,b,bits,j,l,r,B,G,c,D,kf,rfl,J,M1.f g2,ct.f g2,cn,eh,ba,bd,λkv b7=>?_,λw L=>(t w (N w L)).2.1,a2,Io,λkv b7=>?_,λw L=>(t w (N w L)).2.2,λM aa e0=>?_⟩;have:kv.1∈D.map (·.1):=bo b7;rw[X]at this;obtain⟨u,cd,S⟩:=aC.mp this;exact⟨u,ag u cd,S.symm⟩;have:kv.1∈kf.map (·.1):=bo b7;rw[lf]at this;obtain⟨u,cd,S⟩:=aC.mp this;exact⟨u,ag u cd,S.symm⟩;have g3:eL G1 M:=λa u e=>by
  have na:a≠G:=λz=>by rw[z,Y.ga]at e;cases e
  rcases g2 a u e with z|⟨z1,o',z2⟩;exact aa a u (by rw[eM (by simpa using na)];exact z);exact .inr ⟨z1,o',aa.frz (by rw[eM (by simpa using na)];exact z2)⟩
 have a8:=aa.ins (b:=p) (by rw[eM (by simpa using ed)];exact J);refine q c M rfl rfl (gg.trans g3) ⟨m,b,bits,j,l,r,B,G,st,a8,B1.f g3,N1.f g3,M1.f g3,ct.f g3,c4.f g3,?_,?_,e0⟩;refine⟨I,aa.rd (.inl (by rw[eM (by simpa using b8)];exact cp)),λw L=>?_⟩;obtain⟨⟨d,e1,o',em,O,e3⟩,_⟩:=t w (N w L);exact⟨d,e1,o',em,aa.frz (by rw[eM (by simpa using fF O a2 λz=>nomatch z)];exact O),e3⟩;exact⟨D,aa.rd (.inl (by rw[eM (by simpa using ba)];exact bd)),λw L=>(t w (N w L)).2.1⟩
end
inductive Du (CB CC CL:dY)(vs:ef V)(H:Hp)(Q:VK)(E:XK):Prop
 |mk (G:Hp)(p ch:dY)(c:eD)(L:iA)(O:ef dY)(m:Nat)(r:V)(rr:Rs)(_:vs=[.ref p,.int (m:Int),r])(_:eL G H)(_:iQ CB CC G ch c)(_:gK CL G H p ch c L O)(_:mJ G r rr)(_:m<2^c.n)(_:c.n<64)(_:L.length<sizeLine)(_:∀j,nB L m=some j->Q (.int (j:Nat)) H)(_:nB L m=none->∀H' O',iU G H O G H' O'->gK CL G H' p ch c (L++[(m,rr)]) O'->Q (.int (L.length:Nat)) H')
def J1 {b c d:dY}{l:ef dY}(h:(a::b::c::d::l).Nodup):a≠b/\a≠c/\a≠d/\b≠c/\b≠d/\c≠d/\a∉l/\b∉l/\c∉l/\d∉l:=by simp only[aX,ao,not_or]at h;obtain⟨⟨p,m,s,o⟩,⟨r,g,q⟩,⟨j,i⟩,e,_⟩:=h;exact⟨p,m,s,r,g,j,o,q,i,e⟩
def uO {c:eD}(h:iQ CB CC H p c):∃dx by_ fs,H p=some (.ins CC dx fs)/\fs.lookup ("by_bit":Str)=some (V.ref by_)/\oF H by_ c/\fs.lookup ("listed":Str)=none:=by obtain⟨dx,b,bits,by_,a,o,r,i,l,d,j,q,m,e,g⟩:=h.ex;exact⟨dx,by_,_,d,(by kernel_rfl),e,(by kernel_rfl)⟩
def mO (e:eN H H'){u:HO}(h:H a=some u):H' a=H a:=(e a u h).trans h.symm
theorem pP {α:Type}{l:ef α}(hn:l.Nodup){k:α}(h:l[j]?=some k):k∉l.take j:=λz=>by
 obtain⟨i',hi'⟩:=aB.mp z;rw[cc]at hi';split at hi'
 next hlt2=>have:=(cg (af.mp hi').1 hn).mp (hi'.trans h.symm);lia
 cases hi'
def fV {α:Type}{l:ef α}{k:α}(h:l[j]?=some k):l.take (j+1)=l.take j++[k]:=by rw[bc,h];rfl
section
variable {base:Heap}{f:dY}
def Ei:eQ ["self","mask","reason","place","pick"] ["self","mask","reason"] (eK Ev):=iW
theorem EI (F:iE K "put_down" "Ledger.put_down" Ev f fd)(T:TL K mg CL)(ML:Mt P w K mg base CC fC 1 "listed" ["self","mask"] (j9 CC)):fB P w K mg base fC 2 f fd ["self","mask","reason"] (Du CB CC CL):=by
 refine F.ok Ei λek A eb s H vs Q E hr h=>?_;obtain⟨G,p,ch,c,L,O,m,r,rr,rfl,gh,hC,Z,hR,hm,d8,co,q1,q2⟩:=h;have hu:=gH hr;refine⟨_,(et (fm (gN (jI hu (pv 1) (eT T.cl T.nPm (pv 0)))) (et (eO (i:=3) Ei.nd (fe fA rfl T.len bp (eo (eT T.cl T.nMa (pv 0)) eA))) (et (gF (jL PySem.F.plainAttrs_list PySem.F.slot_list_append PySem.F.type_list_append hZ (eT T.cl T.nMa (pv 0)) (eo (pv 1) eA))) (et (gF (jL PySem.F.plainAttrs_list PySem.F.slot_list_append PySem.F.type_list_append hZ (eT T.cl T.nRe (pv 0)) (eo (pv 2) eA))) (et (i6 hu (eT T.cl T.nPm (pv 0)) (pv 1) (pv 3) rfl) (eE (fO (fL (iq ML hr fN (eT T.cl T.nCh (pv 0)) (eo (pv 1) eA))) (eR (i:=4) Ei.nd) (eE (gF (jL PySem.F.plainAttrs_list PySem.F.slot_list_append PySem.F.type_list_append hZ (x9 hu (eT T.cl T.nPp (pv 0)) (pv 4) (gy eA) ⟨rfl,rfl,rfl,rfl⟩) (eo (pv 3) eA)))))))))) eV) (eE (eU (hJ hu (eT T.cl T.nPm (pv 0)) (pv 1))))),?_⟩;obtain⟨dx,M,N,I,J,U,rs,Ol,rfl,hp,cv,dl,dd,c1,eq,c5,bv,kl,hB⟩:=id Z.ex;have an:H p=some (.ins CL dx (Bc ch M N I J)):=gh.ins hp;obtain⟨n1,n2,n3,n4,n5,n6,n7,n8,n9,ej⟩:=J1 Z.nd;have cs:iP H I (.int (m:Int)) ((nB L m).map λi=>V.int (i:Nat)):=.inl ⟨U,Sum.inl (m:Int),.inl c1,rfl,(c5 m).symm⟩;refine⟨_,rfl,_,rfl,p,dx,_,_,rfl,an,(by kernel_rfl),I,_,rfl,cs,_,rfl,?_⟩;cases hpos:nB L m with|some j=>rw[hpos]at cs;exact fz ⟨_,rfl,p,dx,_,_,rfl,an,(by kernel_rfl),_,rfl,I,_,rfl,cs,q1 j hpos⟩|none=>
  refine gY ?_;have dv:p∉M::N::I::J::Ol:=λz=>by rw[Z.off p z]at hp;cases hp
  have cy:∀{a},a∈M::N::I::J::Ol->p≠a:=λ{a} h z=>dv (z▸h);have c2:p≠M:=cy (by simp);have ec:p≠N:=cy (by simp);have eh:p≠I:=cy (by simp);have lL:(ia (L.map (·.1))).length=L.length:=by unfold ia;rw[ab,ab]
  have d7:rs.length=L.length:=by rw[Paired.length dd,ab]
  refine⟨_,rfl,p,dx,_,_,rfl,an,(by kernel_rfl),M,_,rfl,.inl (ff.of cv),?_⟩;rw[lL];refine⟨_,rfl,p,dx,_,V.ref M,rfl,an,(by kernel_rfl),.inl ⟨rfl,_,ff.of cv⟩,_,rfl,M,_,_,rfl,rfl,cv,(by rw[lL];exact co),?_⟩;refine⟨_,rfl,p,dx,_,V.ref N,rfl,(by rw[eB c2];exact an),(by kernel_rfl),.inl ⟨rfl,_,ff.of (by rw[eB (Ne.symm n1)];exact dl)⟩,_,rfl,N,_,_,rfl,rfl,(by rw[eB (Ne.symm n1)];exact dl),(by rw[d7];exact co),?_⟩;refine⟨_,rfl,_,rfl,p,dx,_,_,rfl,(by rw[eB ec,eB c2];exact an),(by kernel_rfl),_,rfl,I,_,rfl,lT.k (k:=Sum.inl (m:Int)) (by rw[eB (Ne.symm n4),eB (Ne.symm n2)];exact c1) (by lia),?_⟩;have b5:upd (upd (upd H M (.lst (ia (L.map (·.1))++[.int (m:Int)]))) N (.lst (rs++[r]))) I (.dK (fJ U (Sum.inl (m:Int)) (.int (L.length:Nat)))) M=some (.lst (ia ((L++[(m,rr)]).map (·.1)))):=by rw[eB n2,eB n1,er];unfold ia;rw[aG,aG];rfl
  have bq:upd (upd (upd H M (.lst (ia (L.map (·.1))++[.int (m:Int)]))) N (.lst (rs++[r]))) I (.dK (fJ U (Sum.inl (m:Int)) (.int (L.length:Nat)))) N=some (.lst (rs++[r])):=by rw[eB n4,er]
  have bd:upd (upd (upd H M (.lst (ia (L.map (·.1))++[.int (m:Int)]))) N (.lst (rs++[r]))) I (.dK (fJ U (Sum.inl (m:Int)) (.int (L.length:Nat)))) I=some (.dK (fJ U (Sum.inl (m:Int)) (.int (L.length:Nat)))):=er;have X:∀b,b≠M->b≠N->b≠I->upd (upd (upd H M (.lst (ia (L.map (·.1))++[.int (m:Int)]))) N (.lst (rs++[r]))) I (.dK (fJ U (Sum.inl (m:Int)) (.int (L.length:Nat)))) b=H b:=λb b1 b2 b3=>by rw[eB b3,eB b2,eB b1]
  generalize upd (upd (upd H M (.lst (ia (L.map (·.1))++[.int (m:Int)]))) N (.lst (rs++[r]))) I (.dK (fJ U (Sum.inl (m:Int)) (.int (L.length:Nat))))=H3 at b5 bq bd X ⊢;have c7:eN (del H (M::N::I::J::Ol)) H3:=λa u e=>by
   have na:a∉M::N::I::J::Ol:=λz=>by rw[gc z]at e;cases e
   rw[eM na]at e;simp only[ao,not_or]at na;rw[X a na.1 na.2.1 na.2.2.1];exact e
  have g3:eL G H3:=iG gh Z.off c7.toF;have cn:rD H3 c J (c.plc L) Ol bv kl:=hB.keep (X J (Ne.symm n3) (Ne.symm n5) (Ne.symm n6)) λa g=>X a (λz=>n7 (z▸g)) (λz=>n8 (z▸g)) (λz=>n9 (z▸g));have d5:∀a,H3 a=none->H a=none:=λa e=>by by_cases z1:a=M;rw[z1,b5]at e;cases e;by_cases z2:a=N;rw[z2,bq]at e;cases e;by_cases z3:a=I;rw[z3,bd]at e;cases e;rw[<-X a z1 z2 z3];exact e
  obtain⟨cx,dp,es,c4,d4,d9,d3⟩:=uO (hC.f g3);refine⟨_,rfl,p,dx,_,_,rfl,g3.ins hp,(by kernel_rfl),ch,cx,_,rfl,c4,d3,_,rfl,H3,ch,cx,dp,_,c,m,rfl,eL.refl _,c4,d4,d9,d8,hm,λl xs H4 s4 hl c8 dc ds=>?_⟩;refine⟨l,rfl,⟨_,ff.of c8⟩,?_⟩;have lx:xs.length=(c.listed m).length:=Paired.length dc;have c6:l∉M::N::I::J::Ol:=λz=>by simp only[ao]at z;rcases z with z|z|z|z|z;rw[z,b5]at hl;cases hl;rw[z,bq]at hl;cases hl;rw[z,bd]at hl;cases hl;rw[z,cn.d]at hl;cases hl;obtain⟨u,C⟩:=Z.liv l (by simp[z]);rw[X l (λy=>n7 (y▸z)) (λy=>n8 (y▸z)) (λy=>n9 (y▸z)),C]at hl;cases hl
  have h4:∀a u,H3 a=some u->H4 a=some u:=s4;have d6:eN (del H (M::N::I::J::Ol)) H4:=c7.trans s4;refine fW (K:=K) (a:=l) (xs:=xs) (λj σ R=>∃bv kl Ol' o4,σ=[some (.ref p),some (.int (m:Int)),some r,some (.int (L.length:Nat)),o4]/\rD R c J (λk=>c.plc L k++if k∈(c.listed m).take j then [L.length] else []) Ol' bv kl/\(M::N::I::J::Ol').Nodup/\(∀a∈Ol',a∈Ol\/H a=none)/\(∀a∈Ol',G a=none)/\(∀a∈Ol',∃u,R a=some u)/\(∀a∈Ol',∀u,R a=some u->¬u5 u)/\l∉Ol'/\R M=some (.lst (ia ((L++[(m,rr)]).map (·.1))))/\R N=some (.lst (rs++[r]))/\R I=some (.dK (fJ U (Sum.inl (m:Int)) (.int (L.length:Nat))))/\R l=some (.lst xs)/\eN (del H (M::N::I::J::Ol)) R/\(∀v k,fj H3 v k->fj R v k)/\∀a,R a=none->H a=none)
   ⟨bv,kl,Ol,none,rfl,?_,Z.nd,λa g=>.inl g,λa g=>Z.off a (by simp[g]),λa g=>?_,λa g u dn=>?_,λz=>c6 (by simp[z]),h4 _ _ b5,h4 _ _ bq,h4 _ _ bd,c8,d6,(by rintro v k ⟨q,e1,e2⟩;exact⟨q,e1,h4 _ _ e2⟩),λa e=>d5 a (s4.free e)⟩ ((by rintro j σ R _ ⟨_,_,_,_,_,_,_,_,_,_,_,_,_,_,_,e,_⟩;exact ff.of e)) ?_ ?_
  refine(cn.keep (mO s4 cn.d) λa g=>?_).fn λk hk=>?_;obtain⟨u,C⟩:=Z.liv a (by simp[g]);exact mO s4 ((X a (λz=>n7 (z▸g)) (λz=>n8 (z▸g)) (λz=>n9 (z▸g))).trans C);rw[db,av (λz=>nomatch z),bY];obtain⟨u,C⟩:=Z.liv a (by simp[g]);exact⟨u,s4 _ _ ((X a (λz=>n7 (z▸g)) (λz=>n8 (z▸g)) (λz=>n9 (z▸g))).trans C)⟩;obtain⟨v,c3⟩:=Z.liv a (by simp[g]);have e4:=s4 _ _ ((X a (λz=>n7 (z▸g)) (λz=>n8 (z▸g)) (λz=>n9 (z▸g))).trans c3);rw[dn]at e4;cases e4;exact Z.nf a (by simp[g]) _ c3;rintro j x σ R hj ⟨D,cp,Y,o4,rfl,B5,ap,as,al,S,b4,ba,ah,ag,aa,bm,ad,bl,a0⟩;obtain⟨k,be,ea⟩:=Paired.K8 dc hj;obtain⟨kq,rfl,c9⟩:=bl _ _ ea;have ct:=(eD.Lf.mp (ai be)).1;have cd:=pP (c.Lp m) be;have g5:eL G R:=iG gh Z.off ad.toF;have bx:=g5.ins hp;obtain⟨m1,m2,m3,m4,m5,m6,m7,m8,m9,b6⟩:=J1 ap;have gk:(c.plc L k++if k∈(c.listed m).take j then [L.length] else [])=c.plc L k:=by rw[av cd,bY]
  have lk:(ia (c.plc L k++if k∈(c.listed m).take j then [L.length] else [])).length<sizeLine:=by rw[gk];unfold ia;rw[ab];exact bK (c.Mf k L 0) co
  refine⟨_,rfl,p,dx,_,V.ref J,rfl,bx,(by kernel_rfl),J,rfl,⟨_,.inl B5.d⟩,_,rfl,u6,λB t=>?_⟩;have st:=eJ t (.lst []);have bf:B≠J:=λz=>by rw[z,B5.d]at t;cases t
  have b7:B∉Y:=λz=>by obtain⟨u,C⟩:=S B z;rw[C]at t;cases t
  have cz:B≠M:=λz=>by rw[z,ah]at t;cases t
  have da:B≠N:=λz=>by rw[z,ag]at t;cases t
  have b8:B≠I:=λz=>by rw[z,aa]at t;cases t
  have c0:B≠l:=λz=>by rw[z,bm]at t;cases t
  have ep:B≠kq:=λz=>by rw[z,c9]at t;cases t
  have ei:=B5.len;refine⟨D,fK (some k),st _ _ B5.d,⟨kq,rfl,st _ _ c9⟩,eY (by lia),λv hv=>?_,λhn=>?_⟩;have B6:rD (upd R B (.lst [])) c J _ Y D cp:=B5.keep (mO st B5.d) λa g=>by obtain⟨u,C⟩:=S a g;exact mO st C
  obtain⟨l',e1⟩:∃l',v=.ref l':=by rcases B5.val k ct with ⟨z,_⟩|⟨l',z1,_⟩;rw[hv]at z;cases z;rw[hv]at z1;cases z1;exact⟨l',rfl⟩
  subst e1;obtain⟨i1,i2,i3⟩:=B6.old (i:=L.length) ct hv b6;refine⟨.inl ⟨rfl,_,ff.of i2⟩,_,rfl,l',_,_,rfl,rfl,i2,lk,?_⟩;have d1:∀{a},a∉Y->a≠l':=λ{a} h z=>h (z▸i1);have ed:l'∉M::N::I::J::Y->False:=λz=>z (by simp[i1]);have k6:∀{a u},a∉Y->R a=some u->upd (upd R B (.lst [])) l' (.lst (ia (c.plc L k++if k∈(c.listed m).take j then [L.length] else [])++[.int (L.length:Nat)])) a=some u:=λ{a u} h e=>by rw[eB (d1 h)];exact st _ _ e
  refine⟨_,_,_,_,rfl,i3.fn λy hy=>?_,ap,as,al,λa g=>?_,λa g v o=>?_,ba,k6 m7 ah,k6 m8 ag,k6 m9 aa,k6 ba bm,λa u e=>?_,λv y hy=>?_,λa e=>?_⟩;rw[fV be];by_cases ey:y=k;subst ey;rw[ay rfl,av cd,bY,ay (by simp)];rw[av ey];congr 1;simp only[aA,aj,ey,or_false];by_cases z:a=l';exact⟨_,by rw[z];exact er⟩;obtain⟨u,C⟩:=S a g;exact⟨u,by rw[eB z];exact st _ _ C⟩;by_cases z:a=l';rw[z,er]at o;cases o;exact λq=>q;obtain⟨u,C⟩:=S a g;rw[eB z,st _ _ C]at o;cases o;exact b4 a g _ C;have na:a≠l':=λz=>by rcases as l' i1 with y|y;rw[z,gc (by simp[y])]at e;cases e;have:=fM _ _ a u e;rw[z,y]at this;cases this
  rw[eB na];exact st _ _ (ad _ _ e);obtain⟨yq,y1,y2⟩:=bl v y hy;exact⟨yq,y1,by rw[eB (fF (st _ _ y2) i2 λz=>nomatch z)];exact st _ _ y2⟩;by_cases z:a=l';rw[z,er]at e;cases e;rw[eB z]at e;exact a0 a (st.free e);have b9:upd (upd R B (.lst [])) J (.dN (fJ D (fK (some k)) (.ref B))) B=some (.lst []):=by rw[eB bf];exact er
  refine⟨.inl ⟨rfl,_,ff.of b9⟩,_,rfl,B,_,_,rfl,rfl,b9,(by show 0<sizeLine;decide),?_⟩;have e1:upd (upd (upd R B (.lst [])) J (.dN (fJ D (fK (some k)) (.ref B)))) B (.lst ([]++[.int (L.length:Nat)])) J=some (.dN (fJ D (fK (some k)) (.ref B))):=by rw[eB (Ne.symm bf),er]
  have e2:upd (upd (upd R B (.lst [])) J (.dN (fJ D (fK (some k)) (.ref B)))) B (.lst ([]++[.int (L.length:Nat)])) B=some (.lst [.int (L.length:Nat)]):=er;have e3:∀b,b≠J->b≠B->upd (upd (upd R B (.lst [])) J (.dN (fJ D (fK (some k)) (.ref B)))) B (.lst ([]++[.int (L.length:Nat)])) b=R b:=λb b1 b2=>by rw[eB b2,eB b1,eB b2]
  generalize upd (upd (upd R B (.lst [])) J (.dN (fJ D (fK (some k)) (.ref B)))) B (.lst ([]++[.int (L.length:Nat)]))=H7 at e1 e2 e3 ⊢;have B7:=B5.new (i:=L.length) ct hn b6 b7 bf e1 e2 e3;refine⟨_,_,B::Y,_,rfl,B7.fn λy hy=>?_,?_,λa g=>?_,λa g=>?_,λa g=>?_,λa g v o=>?_,λz=>?_,by rw[e3 M m3 (Ne.symm cz)];exact ah,by rw[e3 N m5 (Ne.symm da)];exact ag,by rw[e3 I m6 (Ne.symm b8)];exact aa,?_,λa u e=>?_,λv y hy=>?_,λa e=>?_⟩;rw[fV be];by_cases ey:y=k;subst ey;rw[ay rfl,av cd,bY,ay (by simp)];rw[av ey];congr 1;simp only[aA,aj,ey,or_false];simp only[aX,ao,not_or]at ap ⊢;obtain⟨⟨a1,a2,a3,a4⟩,⟨a5,a6,a7⟩,⟨a8,a9⟩,dy,d2⟩:=ap;exact⟨⟨a1,a2,a3,Ne.symm cz,a4⟩,⟨a5,a6,Ne.symm da,a7⟩,⟨a8,Ne.symm b8,a9⟩,⟨Ne.symm bf,dy⟩,b7,d2⟩;rcases ao.mp g with z|z;rw[z];exact .inr (a0 B t);exact as a z;rcases ao.mp g with z|z;rw[z];exact g5.free t;exact al a z;rcases ao.mp g with z|z;rw[z];exact⟨_,e2⟩;obtain⟨u,C⟩:=S a z;exact⟨u,by rw[e3 a (λy=>b6 (y▸z)) (λy=>b7 (y▸z))];exact C⟩;rcases ao.mp g with z|z;rw[z,e2]at o;cases o;exact λq=>q;rw[e3 a (λy=>b6 (y▸z)) (λy=>b7 (y▸z))]at o;exact b4 a z v o;rcases ao.mp z with y|y;exact c0 y.symm;exact ba y;rw[e3 l (λz=>c6 (by simp[z])) (Ne.symm c0)];exact bm;have na:a≠J:=λz=>by rw[z,gc (by simp)]at e;cases e
  have nt:a≠B:=λz=>by have:=ad _ _ e;rw[z,t]at this;cases this
  rw[e3 a na nt];exact ad _ _ e;obtain⟨yq,y1,y2⟩:=bl v y hy;exact⟨yq,y1,by rw[e3 yq (fF y2 B5.d λz=>nomatch z) (eG y2 t)];exact y2⟩;by_cases z1:a=J;rw[z1,e1]at e;cases e;by_cases z2:a=B;rw[z2,e2]at e;cases e;rw[e3 a z1 z2]at e;exact a0 a e;rintro σ R ⟨D,cp,Y,o4,rfl,B5,ap,as,al,S,b4,ba,ah,ag,aa,bm,ad,bl,a0⟩;rw[lx,aK]at B5;have g5:eL G R:=iG gh Z.off ad.toF;refine⟨_,rfl,p,dx,_,_,rfl,g5.ins hp,(by kernel_rfl),_,rfl,I,_,rfl,.inl ⟨_,Sum.inl (m:Int),.inl aa,rfl,by rw[gq,ay rfl]⟩,q2 hpos R (M::N::I::J::Y) ?_ ?_⟩;refine⟨eL.refl _,g5,λa e n=>absurd e n,λa g=>?_,ad.toF,a0⟩;simp only[ao]at g ⊢;rcases g with z|z|z|z|z;exact .inl (.inl z);exact .inl (.inr (.inl z));exact .inl (.inr (.inr (.inl z)));exact .inl (.inr (.inr (.inr (.inl z))));rcases as a z with y|y;exact .inl (.inr (.inr (.inr (.inr y))));exact .inr y;refine⟨⟨dx,M,N,I,J,_,_,Y,rfl,hp,ah,ag,?_,aa,?_,λm'=>?_,⟨D,cp,B5.fn λk hk=>?_⟩⟩,λa g=>?_,λa g=>?_,λa g v o=>?_,ap⟩;rw[aG];exact Paired.snoc dd hR;have:=ge U (Sum.inl (m:Int)) (V.int (L.length:Nat));rw[aD,aP];lia;rw[gq];by_cases em:m'=m;subst em;rw[ay rfl,mh hpos,ay rfl];rfl;rw[av (λz=>em (by have:=Sum.inl.inj z;lia)),c5 m'];cases hq:nB L m' with|some j=>rw[qD hq]|none=>rw[mh hq,av (λz=>em z.symm)]
  rw[eD.Me];congr 1;by_cases hh:c.has m k;rw[ay hh,ay (eD.Lf.mpr hh)];rw[av hh,av (λz=>hh (eD.Lf.mp z))];simp only[ao]at g;rcases g with z|z|z|z|z;exact Z.off a (by simp[z]);exact Z.off a (by simp[z]);exact Z.off a (by simp[z]);exact Z.off a (by simp[z]);exact al a z;simp only[ao]at g;rcases g with z|z|z|z|z;exact⟨_,by rw[z];exact ah⟩;exact⟨_,by rw[z];exact ag⟩;exact⟨_,by rw[z];exact aa⟩;exact⟨_,by rw[z];exact B5.d⟩;exact S a z;simp only[ao]at g;rcases g with z|z|z|z|z;rw[z,ah]at o;cases o;exact λq=>q;rw[z,ag]at o;cases o;exact λq=>q;rw[z,aa]at o;cases o;exact λq=>q;rw[z,B5.d]at o;cases o;exact λq=>q;exact b4 a z v o
end
inductive tJ (CB CC CL:dY)(vs:ef V)(H:Hp)(Q:VK)(E:XK):Prop
 |mk (G:Hp)(p ch:dY)(c:eD)(L:iA)(O:ef dY)(v:V)(k:Pk)(pk:Nat)(_:vs=[.ref p,v,.int (pk:Int)])(_:eL G H)(_:iQ CB CC G ch c)(_:gK CL G H p ch c L O)(_:fj H v k)(_:k∈c.ks)(_:∀(H':Hp) (j:Nat) (e:Nat×Rs),eN H H'->L[j]?=some e->iD e.1 pk=c.bit k->Q (.int (j:Nat)) H')(_:(∀e∈L,c.has e.1 k->iD e.1 pk≠c.bit k)->∀H',eN H H'->Q .non H')
inductive tU (CB CC CL:dY)(vs:ef V)(H:Hp)(Q:VK)(E:XK):Prop
 |mk (G:Hp)(p ch:dY)(c:eD)(L:iA)(O:ef dY)(v:V)(k:Pk)(pk:Nat)(_:vs=[.ref p,v,.int (pk:Int)])(_:eL G H)(_:iQ CB CC G ch c)(_:gK CL G H p ch c L O)(_:fj H v k)(_:k∈c.ks)(_:∀H',eN H H'->Q (.int (c.LQ L k pk:Nat)) H')
theorem qT {c:eD}{k:Pk}:∀(L:iA) (i:Nat),Paired (λ(j:Nat) (e:Nat×Rs)=>i<=j/\L[j-i]?=some e) (c.Mc k L i) (L.filter λe=>decide (c.has e.1 k))
 |[],i=>.nil
 |x::L,i=>by have ih:=qT (c:=c) (k:=k) L (i+1);have ih2:Paired (λ(j:Nat) (e:Nat×Rs)=>i<=j/\(x::L)[j-i]?=some e) (c.Mc k L (i+1)) (L.filter λe=>decide (c.has e.1 k)):=Paired.KG ih λj e ⟨h1,h2⟩=>⟨by lia,by rw[show j-i=(j-(i+1))+1 by lia];exact h2⟩;unfold eD.Mc;by_cases h:c.has x.1 k;rw[ay h,aJ,ay (aq h)];exact .cons ⟨am _,by rw[bW];rfl⟩ ih2;rw[av h,aJ,av (by rw[au h];exact λz=>nomatch z)];exact ih2
def Ak (c:eD)(L:iA)(k:Pk):Paired (λ(j:Nat) (e:Nat×Rs)=>L[j]?=some e) (c.plc L k) (L.filter λe=>decide (c.has e.1 k)):=Paired.KG (qT L 0) λj e h=>h.2
def rD.get {c:eD}{pp:dY}{g:Pk->ef Nat}{Ol:ef dY}{kvp:ef (gi×V)}{kl:ef Pk}(B:rD H c pp g Ol kvp kl){k:Pk}(d:k∈c.ks){t:dY}(s:eN H H')(h:H' t=some (.lst [])):∃a,(fc kvp (fK (some k))).getD (.ref t)=.ref a/\H' a=some (.lst (ia (g k))):=by rcases B.val k d with ⟨b,e⟩|⟨l,b,_,i⟩;exact⟨t,by rw[b];rfl,by rw[e];exact h⟩;exact⟨l,by rw[b];rfl,s _ _ i⟩
def sR {l:ef Nat}{x:V}(h:(ia l)[i]?=some x):∃j,l[i]?=some j/\x=.int (j:Nat):=by unfold ia at h;rw[ae]at h;obtain⟨j,b,a⟩:=ax.mp h;exact⟨j,b,a.symm⟩
def kF {l:ef Nat}(h:l[i]?=some m):uT (ia l) (i:Int)=some (V.int (m:Nat)):=by refine i8 ?_;rw[ii];unfold ia;rw[ae,h];rfl
theorem zb (r:Nat):Builtin.bitAnd (r:Int) ((r:Int)-1)=((r &&& (r-1):Nat):Int):=by
 rcases dL r with z|z;subst z;have e:((0:Nat):Int)-1=Builtin.bitNot ((0:Nat):Int):=by unfold Builtin.bitNot;lia
 rw[e,qH];rfl;rw[show(r:Int)-1=((r-1:Nat):Int) by lia,nZ]
theorem tE {a b:Nat}:decide (V.int (a:Int)=V.int (b:Int))=decide (a=b):=by
 by_cases h:a=b;rw[h,aq rfl,aq rfl];rw[au h,au];intro z;injection z with z
 lia
section
variable {base:Heap}{f:dY}
def GF:eQ ["self","pick","picked","place"] ["self","pick","picked"] (eK rX):=iW
def yh (F:iE K "place_against" "Ledger.place_against" rX f fd)(T:TL K mg CL)(M:TC K mg CC):fB P w K mg base fC 1 f fd ["self","pick","picked"] (tJ CB CC CL):=by
 refine F.ok GF λag A Y s H vs Q E hr h=>?_;obtain⟨G,p,ch,c,L,O,v,k,C,rfl,gh,hC,hL,hv,hk,q1,q2⟩:=h;have hu:=gH hr;refine⟨_,(et (fO (fL (qW hu (eT T.cl T.nPp (pv 0)) (pv 1) (gy eA) ⟨rfl,rfl,rfl,rfl⟩)) (eR (i:=3) GF.nd) (eE (fm (fD jM (fh im (eP fw (eT T.cl T.nMa (pv 0)) (pv 3)) (ja lC (pv 2))) (fg hu (eT M.cl M.nBits (eT T.cl T.nCh (pv 0))) (pv 1)) (fQ _)) (eE (eU (pv 3))) eV))) (eE (eU iJ))),?_⟩;obtain⟨N,ma,re,pm,pp,as,rs,Ol,rfl,hp,X,a1,ap,ah,an,a0,S,kl,Z⟩:=id hL.ex;have q:H p=some (.ins CL N (Bc ch ma re pm pp)):=gh.ins hp;obtain⟨cx,b,bits,ad,aa,al,sh,fo,st,c1,c2,c3,c4,c5,c6,c7,c8,c9⟩:=(hC.f gh).ex;refine⟨_,rfl,p,N,_,_,rfl,q,(by kernel_rfl),pp,rfl,⟨_,.inl Z.d⟩,_,rfl,u6,λt ht=>?_⟩;have g:=eJ ht (.lst []);obtain⟨a,R,J⟩:=Z.get hk g (t:=t) er;refine⟨_,⟨S,fK (some k),.inl (g _ _ Z.d),gW.key (w:=some k) (fj.same g hv),rfl⟩,?_⟩;rw[R];refine⟨a,rfl,⟨_,ff.of J⟩,?_⟩;generalize upd H t (.lst [])=H1 at *;refine fW (K:=K) (a:=a) (xs:=ia (c.plc L k)) (λi σ r=>∃U,σ=[some (.ref p),some v,some (.int (C:Int)),U]/\r=H1/\∀j∈(c.plc L k).take i,∀e,L[j]?=some e->iD e.1 C≠c.bit k) ⟨none,rfl,rfl,λj o=>by simp at o⟩ (λi σ r _ ⟨_,_,e,_⟩=>by rw[e];exact ff.of J) ?_ ?_;rintro i x σ r hi ⟨U,rfl,rfl,l⟩;obtain⟨j,o,rfl⟩:=sR hi;obtain⟨e,D,y⟩:=eD.Mh.mp (ai o);have hm:(L.map (·.1))[j]?=some e.1:=by rw[ae,D];rfl
 refine⟨_,rfl,p,N,_,_,rfl,g _ _ q,(by kernel_rfl),_,rfl,ma,_,_,_,rfl,rfl,ff.of (g _ _ X),kF hm,_,rfl,_,rfl,_,_,rfl,rfl,?_⟩;refine⟨_,rfl,p,N,_,_,rfl,g _ _ q,(by kernel_rfl),ch,cx,_,_,rfl,g _ _ c1,(by kernel_rfl),_,rfl,bits,_,rfl,(c4.same g).get (w:=some k) (gQ hk) (fj.same g hv),rfl,_,rfl,?_⟩;dsimp only;have B:decide (V.int (Builtin.bitAnd (e.1:Int) (Builtin.bitNot (C:Int)))=V.int ((c.La (some k):Nat):Int))=decide (iD e.1 C=c.bit k):=by rw[qH];exact tE
 rw[B];by_cases hd:iD e.1 C=c.bit k;rw[aq hd];exact gY ⟨_,rfl,q1 r j e g D hd⟩;rw[au hd];refine fz ⟨_,rfl,rfl,λj' I e' m=>?_⟩;rw[fV o]at I;rcases aA.mp I with z|z;exact l j' z e' m;rw[aj.mp z,D]at m;cases m;exact hd;rintro σ r ⟨U,rfl,rfl,l⟩;unfold ia at l;rw[ab,aK]at l;refine q2 (λe D y=>?_) r g;obtain⟨j,o⟩:=aB.mp D;exact l j (eD.Mh.mpr ⟨e,o,y⟩) e o
def zQ:eQ ["self","pick","picked","barred","place","rest"] ["self","pick","picked"] (eK sB):=iW
def yA (F:iE K "barred_with" "Ledger.barred_with" sB f fd)(T:TL K mg CL):fB P w K mg base fC 1 f fd ["self","pick","picked"] (tU CB CC CL):=by
 refine F.ok zQ λaa A S s H vs Q E hr h=>?_;obtain⟨G,p,ch,c,L,O,v,k,g,rfl,gh,hC,hL,hv,hk,q⟩:=h;have hu:=gH hr;refine⟨_,(et (eO (i:=3) zQ.nd eF) (et (fO (fL (qW hu (eT T.cl T.nPp (pv 0)) (pv 1) (gy eA) ⟨rfl,rfl,rfl,rfl⟩)) (eR (i:=4) zQ.nd) (et (eO (i:=5) zQ.nd (fh im (eP fw (eT T.cl T.nMa (pv 0)) (pv 4)) (ja lC (pv 2)))) (eE (fm (fD jM (fh im (pv 5) (fh AC (pv 5) eF)) eF (fQ _)) (eE (kP (i:=3) zQ.nd (pv 5) uA)) eV)))) (eE (eU (pv 3))))),?_⟩;obtain⟨Z,ma,re,pm,pp,al,rs,Ol,rfl,hp,R,ap,ah,ad,ag,an,I,kl,Y⟩:=id hL.ex;have B:H p=some (.ins CL Z (Bc ch ma re pm pp)):=gh.ins hp;refine⟨_,rfl,p,Z,_,_,rfl,B,(by kernel_rfl),pp,rfl,⟨_,.inl Y.d⟩,_,rfl,u6,λt ht=>?_⟩;have m:=eJ ht (.lst []);obtain⟨a,D,C⟩:=Y.get hk m (t:=t) er;refine⟨_,⟨I,fK (some k),.inl (m _ _ Y.d),gW.key (w:=some k) (fj.same m hv),rfl⟩,?_⟩;rw[D];refine⟨a,rfl,⟨_,ff.of C⟩,?_⟩;generalize upd H t (.lst [])=H1 at *;have o:=Ak c L k;have lp:=Paired.length o;generalize N:(L.filter λe=>decide (c.has e.1 k))=es at *
 let bf:Nat->Nat×Rs->Nat:=λb e=>let r:=iD e.1 g;if r &&& (r-1)=0 then b ||| r else b
 have M:c.LQ L k g=es.foldl bf 0:=by unfold eD.LQ;rw[N]
 refine fW (K:=K) (a:=a) (xs:=ia (c.plc L k)) (λi σ z=>∃U J,σ=[some (.ref p),some v,some (.int (g:Int)),some (.int (((es.take i).foldl bf 0:Nat):Int)),U,J]/\z=H1) ⟨none,none,rfl,rfl⟩ (λi σ z _ ⟨_,_,_,e⟩=>by rw[e];exact ff.of C) ?_ ?_;rintro i x σ z hi ⟨U,J,rfl,rfl⟩;obtain⟨j,hj,rfl⟩:=sR hi;obtain⟨e,X,he⟩:=Paired.K8 o hj;have hm:(L.map (·.1))[j]?=some e.1:=by rw[ae,he];rfl
 refine⟨_,rfl,p,Z,_,_,rfl,m _ _ B,(by kernel_rfl),_,rfl,ma,_,_,_,rfl,rfl,ff.of (m _ _ R),kF hm,_,rfl,_,rfl,_,_,rfl,rfl,?_⟩;dsimp only;rw[qH];refine⟨_,rfl,_,rfl,_,_,rfl,rfl,_,_,rfl,rfl,rfl,_,rfl,?_⟩;have y:decide (V.int (Builtin.bitAnd ((iD e.1 g:Nat):Int) (((iD e.1 g:Nat):Int)-1))=V.int 0)=decide (iD e.1 g &&& (iD e.1 g-1)=0):=by rw[zb];exact tE (b:=0)
 skip;rw[y];have l:(es.take (i+1)).foldl bf 0=bf ((es.take i).foldl bf 0) e:=by rw[fV X,List.foldl_append];rfl
 by_cases hd:iD e.1 g &&& (iD e.1 g-1)=0;rw[aq hd];refine gY ⟨_,rfl,_,rfl,_,_,rfl,rfl,some (.int (j:Nat)),some (.int (iD e.1 g:Nat)),?_,rfl⟩;rw[xC,l];show _=[some (V.ref p),some v,some (V.int ↑g),some (V.int ((if _ then _ else _:Nat):Int)),_,_];rw[ay hd];rfl;rw[au hd];refine fz ⟨some (.int (j:Nat)),some (.int (iD e.1 g:Nat)),?_,rfl⟩;rw[l];show _=[some (V.ref p),some v,some (V.int ↑g),some (V.int ((if _ then _ else _:Nat):Int)),_,_];rw[av hd];rfl;rintro σ z ⟨U,J,rfl,rfl⟩;unfold ia;rw[ab,lp,aK,<-M];exact⟨_,rfl,q z m⟩
end
inductive wu (CB CC CL:dY)(vs:ef V)(H:Hp)(Q:VK)(E:XK):Prop
 |mk (G:Hp)(p ch:dY)(c:eD)(L:iA)(O:ef dY)(_:vs=[.ref p])(_:eL G H)(_:iQ CB CC G ch c)(_:gK CL G H p ch c L O)(_:c.n<64)(_:∀e∈L,e.1<2^c.n)(_:L.length<sizeLine)(_:∀a H',eN H H'->jB H' a (c.lns L)->Q (.ref a) H')
def x4 {ps:ef dY}(e:eN H H'):eN (del H ps) (del H' ps):=λa u h=>by
 have na:a∉ps:=λz=>by rw[gc z]at h;cases h
 rw[eM na]at h ⊢;exact e a u h
def DT:(["mask","reason","self"]:ef Str).Nodup:=by decide +kernel
noncomputable abbrev zj (a b w:V):ef (Str×V):=[("picked",a),("dead",b),("wanted",w)]
abbrev uF (x s b:V):ef (Str×V):=[("part",x),("stand",s),("bit",b)]
noncomputable abbrev xW (ch le fl:dY):ef (Str×V):=[("chart",.ref ch),("ledger",.ref le),("forks",.ref fl)]
inductive pe (C:dY)(vs:ef V)(H:Hp)(Q:VK)(E:XK):Prop
 |mk (p dx:dY)(a b w:V)(_:vs=[.ref p,a,b,w])(_:H p=some (.ins C dx []))(_:Q .non (upd H p (.ins C dx (zj a b w))))
inductive tQ (C:dY)(vs:ef V)(H:Hp)(Q:VK)(E:XK):Prop
 |mk (p dx:dY)(x s:V)(_:vs=[.ref p,x,s])(_:H p=some (.ins C dx []))(_:Q .non (upd H p (.ins C dx (uF x s (.int 0)))))
structure Dw (K:W.Frag)(mg:Str->el dZ)(C:dY):Prop where
 cl:qx K C
 nPi:gs K C "picked"
 nDe:gs K C "dead"
 nWa:gs K C "wanted"
structure BN (K:W.Frag)(mg:Str->el dZ)(C:dY):Prop where
 cl:qx K C
 nPa:gs K C "part"
 nSt:gs K C "stand"
 nBi:gs K C "bit"
def Ke (a:V):gz ("picked":Str) a []=([("picked",a)]:ef (Str×V)):=by kernel_rfl
def Gy (a b w:V):gz ("wanted":Str) w (gz ("dead":Str) b (gz ("picked":Str) a []))=zj a b w:=by kernel_rfl
def Kr (a b w:V):gz ("bit":Str) w (gz ("stand":Str) b (gz ("part":Str) a []))=uF a b w:=by kernel_rfl
section
variable {base:Heap}{f:dY}
def IV:eQ ["self"] ["self"] (eK vh):=iW
theorem AG (F:iE K "told" "Ledger.told" vh f fd)(T:TL K mg CL)(ML:Mt P w K mg base CC fC 1 "listed" ["self","mask"] (j9 CC)):fB P w K mg base fC 2 f fd ["self"] (wu CB CC CL):=by
 refine F.ok IV λb1 A ba s H vs Q E hr h=>?_;obtain⟨G,p,ch,c,L,O,rfl,gh,hC,hL,bq,a6,b6,q⟩:=h;have hu:=gH hr;refine⟨_,(eE (eU (i7 (N':=["mask","reason","self"]) (n:=2) (js:=[0]) rfl (iR.one (c:=s.heap.objs.size+1) (y:="self")) (Fb (m:=2) (uB (iC (by decide)) tw (uB (iC (by decide)) tw Di xn) (Bl tw xn))) (Am rfl T.zip (eT T.cl T.nMa (pv 0)) (eT T.cl T.nRe (pv 0))) (λC s2 b fp=>kS (n:=2) rfl (gl (eR (i:=0) DT) (gl (eR (i:=1) DT) jD))) (λC s2 b fp=>jY) (λC s2 b fp=>gL (eo (iq ML hr fN (eT T.cl T.nCh (pv 2)) (eo (pv 0) eA)) (eo (pv 1) eA)))))),?_⟩;obtain⟨dx,ma,re,pm,pp,b5,rs,Ol,rfl,hp,g,o,aa,b2,b4,b8,bx,kl,hB⟩:=id hL.ex;have U:H p=some (.ins CL dx (Bc ch ma re pm pp)):=gh.ins hp;have lL:(ia (L.map (·.1))).length=L.length:=by unfold ia;rw[ab,ab]
 have bl:rs.length=L.length:=by rw[Paired.length aa,ab]
 have bd:(c.lns L).length=L.length:=by unfold eD.lns;rw[ab]
 refine⟨_,rfl,p,dx,_,_,rfl,U,(by kernel_rfl),_,rfl,p,dx,_,_,rfl,U,(by kernel_rfl),ma,re,_,_,rfl,rfl,g,o,?_⟩;refine xA (n:=L.length) (λD i N b=>H D=none/\b D=some (.lst N)/\eN H b/\Paired (nr (del b [D])) N ((c.lns L).take i)) (λD hD=>⟨hD,er,eJ hD _,.nil⟩) (λD i N b hi ⟨S,J,d,M⟩=>?_) (λD i x N b H3 hi hy ⟨S,J,d,M⟩=>?_) (λD N b ⟨S,J,d,M⟩=>?_);refine⟨λB=>⟨_,_,(ia (L.map (·.1)))[i]'(by rw[lL];exact B),rs[i]'(by rw[bl];exact B),ff.of (d _ _ g),ff.of (d _ _ o),ak _,ak _⟩,λap=>⟨_,_,ff.of (d _ _ g),ff.of (d _ _ o),.inl (by rw[lL,ap];exact am _)⟩,J,?_⟩;have:=Paired.length M;rw[aV]at this;lia;obtain⟨t,mv,j,ht,rfl,rfl,hm,an⟩:=hy;obtain⟨m,ad,rfl⟩:=sR (hm _ (ff.of (d _ _ g)));have bm:=an _ (ff.of (d _ _ o));rw[ae]at ad;obtain⟨e,he,rfl⟩:=ax.mp ad;have al:mJ G j e.2:=by obtain⟨r',Y,ah⟩:=Paired.K8 aa bm;rw[ae,he]at Y;cases Y;exact ah
 have s1:=eJ ht (.tup [.int (e.1:Nat),j]);have b3:D≠t:=eG J ht;have a4:=d.trans s1;have g1:eL G (upd b t (.tup [.int (e.1:Nat),j])):=gh.trans a4.toF;have a2:(c.lns L)[i]?=some (c.listed e.1,e.2):=by unfold eD.lns;rw[ae,he];rfl
 generalize a5:upd b t (.tup [.int (e.1:Nat),j])=H3 at *;have a3:H3 t=some (.tup [.int (e.1:Nat),j]):=by rw[<-a5];exact er
 refine⟨t,_,rfl,gC.of a3,rfl,_,_,rfl,_,_,rfl,rfl,?_⟩;unfold rL;dsimp only;rw[ay rfl];obtain⟨cx,a0,b7,ag,bf,bv,be⟩:=uO (hC.f g1);refine⟨_,rfl,p,dx,_,_,rfl,g1.ins hp,(by kernel_rfl),ch,cx,_,rfl,ag,be,_,rfl,H3,ch,cx,a0,_,c,_,rfl,eL.refl _,ag,bf,bv,bq,a6 e (ai he),λl xs H4 s4 hl as a7 a1=>?_⟩;refine⟨_,rfl,qK,λu R=>?_⟩;have X:=eJ R (.tup [.ref l,j]);have I:=s1 _ _ J;have Z:=s4 _ _ I;have a9:D≠l:=eG I hl;have a8:D≠u:=eG Z R;have r:eN b (upd H4 u (.tup [.ref l,j])):=s1.trans (s4.trans X);refine⟨X _ _ Z,S,er,λa v z=>?_,?_⟩;rw[eB (λy:a=D=>by rw[y,S]at z;cases z)];exact r _ _ (d _ _ z);rw[qc (by simp),fV a2];refine Paired.snoc (Paired.KG M λ_ _ z=>z.same (x4 r)) ⟨u,l,j,rfl,?_,⟨xs,?_,?_⟩,?_⟩;rw[eM (by simpa using Ne.symm a8)];exact er;rw[eM (by simpa using Ne.symm a9)];exact X _ _ as;refine Paired.KG a7 ?_;rintro v k ⟨kq,z1,z2⟩;refine⟨kq,z1,?_⟩;rw[eM (by simpa using λy:kq=D=>by rw[y,I]at z2;cases z2)];exact X _ _ (s4 _ _ z2);have sG:eL G (del (upd H4 u (.tup [.ref l,j])) [D]):=λa v z=>by
  have nD:a≠D:=λy=>by have:=gh a v z;rcases this with w|⟨_,_,w⟩ <;> (rw[y,S]at w;cases w)
  rw[eM (by simpa using nD)];exact(g1.trans (s4.trans X).toF) a v z
 exact al.f sG;rw[<-bd,aK]at M;exact q D b d ⟨N,J,Paired.KG M λ_ _ z=>z.same (fM _ _)⟩
def GB:eQ ["self","picked","dead","wanted"] ["self","picked","dead","wanted"] (eK rT):=iW
def ye (F:iE K "__init__" "Stand.__init__" rT f fd)(T:Dw K mg C):fB P w K mg base fC 1 f fd ["self","picked","dead","wanted"] (pe C):=by
 refine F.ok GB λi A d s H l Q E j h=>?_;obtain⟨p,g,a,b,w,rfl,hp,q⟩:=h;refine⟨_,(et (jV T.cl T.nPi (pv 0) (pv 1)) (et (jV T.cl T.nDe (pv 0) (pv 2)) (eE (jV T.cl T.nWa (pv 0) (pv 3))))),?_⟩;refine⟨_,rfl,_,rfl,p,g,_,rfl,hp,(by decide),_,rfl,_,rfl,p,g,_,rfl,er,(by rw[Ke];show 1<1000;decide),_,rfl,_,rfl,p,g,_,rfl,er,?_,?_⟩;have:=Gy a b w;refine bK (m:=2) ?_ (by decide);have e:(gz ("dead":Str) b (gz ("picked":Str) a []))=([("picked",a),("dead",b)]:ef (Str×V)):=by kernel_rfl
 rw[e];exact am _;rw[jo,jo,Gy];exact q
def IZ:eQ ["self","part","stand"] ["self","part","stand"] (eK su):=iW
def yw (F:iE K "__init__" "Fork.__init__" su f fd)(T:BN K mg C):fB P w K mg base fC 1 f fd ["self","part","stand"] (tQ C):=by
 refine F.ok IZ λi A d s H l Q E j h=>?_;obtain⟨p,g,a,b,rfl,hp,q⟩:=h;refine⟨_,(et (jV T.cl T.nPa (pv 0) (pv 1)) (et (jV T.cl T.nSt (pv 0) (pv 2)) (eE (jV T.cl T.nBi (pv 0) eF)))),?_⟩;refine⟨_,rfl,_,rfl,p,g,_,rfl,hp,(by decide),_,rfl,_,rfl,p,g,_,rfl,er,?_,_,rfl,p,g,_,rfl,er,?_,?_⟩;have e:(gz ("part":Str) a [])=([("part",a)]:ef (Str×V)):=by kernel_rfl
 rw[e];show 1<1000;decide;have e:(gz ("stand":Str) b (gz ("part":Str) a []))=([("part",a),("stand",b)]:ef (Str×V)):=by kernel_rfl
 rw[e];show 2<1000;decide;rw[jo,jo,Kr];exact q
end
inductive JI (P:ee)(w:World)(K:W.Frag)(mg:Str->el dZ)(base:Heap)(C:dY)(CX:u4)(k:Nat)(x:Str)(ps:ef Str)(sp:Sp):Prop
 |mk (f fd:_)(_:Mk K C f)(_:fB P w K mg base CX k f fd ps sp)(_:iM K fd ps [])
structure BO (P:ee)(w:World)(K:W.Frag)(mg:Str->el dZ)(base:Heap)(C:dY)(CX:u4)(k:Nat)(x:Str)(ps:ef Str)(sp:Sp):Prop where
 nm:mg x=some (.ref C)
 ex:JI P w K mg base C CX k x ps sp
def mV {X:Cx}{CX:u4}{k:Nat}{e:Expr}{es:ef Expr}{E:XK}{pos p:Pos}{t:TA}(M:BO X.prog X.w X.K X.mg X.base C CX k x ps sp)(d:gU (k+1) X.A)(g:Gl X x)(h:ku CX X E)(a:PA X (e::es) t)(hdb:autoParam ((x == ("__debug__":Str))=false) Aq._auto_1)(he:autoParam (starEach (e::es) X.env=(false,eval e X.env)::starEach es X.env) gF._auto_1)(hpl:autoParam ((backTo pos (starEach es X.env)).any (·.1)=false) gF._auto_1):PE X (.Call (.Name x p) (e::es) [] pos) (DJ C sp [] E t):=by obtain⟨f,i,m,F,b⟩:=M.ex;exact CD m F d g M.nm b .nil h a hdb he hpl
inductive tL (CL:dY)(vs:ef V)(H:Hp)(Q:VK)(E:XK):Prop
 |mk (p dx ch:dY)(_:vs=[.ref p,.ref ch])(_:H p=some (.ins CL dx []))(_:∀(ma re pm pp:dY) (H':Hp),eL (del H [p]) H'->H' p=some (.ins CL dx (Bc ch ma re pm pp))->H' ma=some (.lst [])->H' re=some (.lst [])->H' pm=some (.dK [])->H' pp=some (.dN [])->[ma,re,pm,pp].Nodup->(∀a∈[ma,re,pm,pp],H a=none)->Q .non H')
inductive tI (CL CS:dY)(vs:ef V)(H:Hp)(Q:VK)(E:XK):Prop
 |mk (G:Hp)(p dx ch:dY)(c:eD)(_:vs=[.ref p,.ref ch])(_:eL G H)(_:G p=none)(_:H p=some (.ins CS dx []))(_:∀(G' H':Hp) (le fl:dY) (O:ef dY),eL G G'->eL G' H'->(∀a,G a=none->G' a≠none->H a=none\/a=p)->(∀a∈O,H a=none)->H fl=none->fl∉O->G' fl=none->eL (del H [p]) H'->G' p=some (.ins CS dx (xW ch le fl))->gK CL G' H' le ch c [] O->H' fl=some (.lst [])->Q .non H')
abbrev FY (ch:dY):ef (Str×V):=[("chart",.ref ch)]
noncomputable abbrev Ir (ch ma:dY):ef (Str×V):=[("chart",.ref ch),("masks",.ref ma)]
noncomputable abbrev Iq (ch ma re:dY):ef (Str×V):=[("chart",.ref ch),("masks",.ref ma),("reasons",.ref re)]
noncomputable abbrev Ip (ch ma re pm:dY):ef (Str×V):=[("chart",.ref ch),("masks",.ref ma),("reasons",.ref re),("place_by_mask",.ref pm)]
def J2 (ch:dY):gz ("chart":Str) (V.ref ch) []=FY ch:=by kernel_rfl
def Io (ch a:dY):gz ("masks":Str) (V.ref a) (FY ch)=Ir ch a:=by kernel_rfl
def Kp (ch a b:dY):gz ("reasons":Str) (V.ref b) (Ir ch a)=Iq ch a b:=by kernel_rfl
def Ko (ch a b d:dY):gz ("place_by_mask":Str) (V.ref d) (Iq ch a b)=Ip ch a b d:=by kernel_rfl
def Kn (ch a b d e:dY):gz ("places_by_pick":Str) (V.ref e) (Ip ch a b d)=Bc ch a b d e:=by kernel_rfl
noncomputable abbrev Je (ch le:dY):ef (Str×V):=[("chart",.ref ch),("ledger",.ref le)]
def IT (ch le:dY):gz ("ledger":Str) (V.ref le) (FY ch)=Je ch le:=by kernel_rfl
def IS (ch le a:dY):gz ("forks":Str) (V.ref a) (Je ch le)=xW ch le a:=by kernel_rfl
structure t9 (K:W.Frag)(mg:Str->el dZ)(C:dY):Prop where
 cl:qx K C
 nCh:gs K C "chart"
 nLe:gs K C "ledger"
 nFo:gs K C "forks"
 dict:mg "dict" = none
 min:mg "min" = none
 list:mg "list" = none
 enum:mg "enumerate" = none
 rev:mg "reversed" = none
section
variable {base:Heap}{f:dY}
def GJ:eQ ["self","chart"] ["self","chart"] (eK si):=iW
def yn (F:iE K "__init__" "Ledger.__init__" si f fd)(T:TL K mg CL):fB P w K mg base fC 1 f fd ["self","chart"] (tL CL):=by
 refine F.ok GJ λaa A M s H vs Q E hr h=>?_;obtain⟨p,r,t,rfl,hp,q⟩:=h;refine⟨_,(et (jV T.cl T.nCh (pv 0) (pv 1)) (et (jV T.cl T.nMa (pv 0) (gy eA)) (et (jV T.cl T.nRe (pv 0) (gy eA)) (et (jV T.cl T.nPm (pv 0) ie) (eE (jV T.cl T.nPp (pv 0) lK)))))),?_⟩;have m:del H [p] p=none:=gc (by simp);have O:eL (del H [p]) H:=(fM _ _).toF;generalize L:del H [p]=G0 at *;refine⟨_,rfl,_,rfl,p,r,_,rfl,hp,(by decide),?_⟩;generalize C:upd H p (.ins CL r (gz ("chart":Str) (V.ref t) []))=H1;have B:H1 p=some (.ins CL r (FY t)):=by rw[<-C,er,J2]
 have N:eL G0 H1:=by rw[<-C];exact O.upd m
 have ad:∀a,H1 a=none->H a=none:=λa e=>by rw[<-C]at e;by_cases z:a=p;rw[z,er]at e;cases e;rw[eB z]at e;exact e
 refine⟨u6,λb I=>?_⟩;refine⟨_,rfl,p,r,_,rfl,(by rw[eB (eG B I)];exact B),(by show 1<1000;decide),?_⟩;rw[Io];have j:=jq (fs':=Ir t b) (u:=.lst []) N m B I;generalize upd (upd H1 b (.lst [])) p (.ins CL r (Ir t b))=H2 at j ⊢;refine⟨u6,λo G=>?_⟩;refine⟨_,rfl,p,r,_,rfl,(by rw[eB (eG j.p G)];exact j.p),(by show 2<1000;decide),?_⟩;rw[Kp];have i:=jq (fs':=Iq t b o) (u:=.lst []) j.g m j.p G;generalize upd (upd H2 o (.lst [])) p (.ins CL r (Iq t b o))=H3 at i ⊢;intro v y;refine⟨_,rfl,p,r,_,rfl,(by rw[eB (eG i.p y)];exact i.p),(by show 3<1000;decide),?_⟩;rw[Ko];have d:=jq (fs':=Ip t b o v) (u:=.dK []) i.g m i.p y;generalize upd (upd H3 v (.dK [])) p (.ins CL r (Ip t b o v))=H4 at d ⊢;intro D l;refine⟨_,rfl,p,r,_,rfl,(by rw[eB (eG d.p l)];exact d.p),(by show 4<1000;decide),?_⟩;rw[Kn];have x:=jq (fs':=Bc t b o v D) (u:=.dN []) d.g m d.p l;generalize upd (upd H4 D (.dN [])) p (.ins CL r (Bc t b o v D))=H5 at x ⊢;have R:=i.keep _ _ j.np j.a;have X:=d.keep _ _ j.np R;have m5:=x.keep _ _ j.np X;have S:=d.keep _ _ i.np i.a;have r5:=x.keep _ _ i.np S;have Y:=x.keep _ _ d.np d.a;have e1:b≠o:=eG j.a G;have e2:b≠v:=eG R y;have e3:b≠D:=eG X l;have e4:o≠v:=eG i.a y;have Z:o≠D:=eG S l;have e6:v≠D:=eG d.a l;have J:∀a,G0 a=none->a≠p->H a=none:=λa e n=>by rw[<-L,eM (by simpa using n)]at e;exact e
 refine q b o v D H5 x.g x.p m5 r5 Y x.a ?_ λa U=>?_;simp only[aX,ao,aR,or_false,not_or,not_false_eq_true,bT,and_true];exact⟨⟨e1,e2,e3⟩,⟨e4,Z⟩,e6⟩;simp only[ao,aR,or_false]at U;rcases U with z|z|z|z;rw[z];exact J _ j.ga j.np;rw[z];exact J _ i.ga i.np;rw[z];exact J _ d.ga d.np;rw[z];exact J _ x.ga x.np
def GE:eQ ["self","chart"] ["self","chart"] (eK rV):=iW
def yf (F:iE K "__init__" "Search.__init__" rV f fd)(T:t9 K mg CS)(ML:BO P w K mg base CL fC 1 "Ledger" ["self","chart"] (tL CL)):fB P w K mg base fC 3 f fd ["self","chart"] (tI CL CS):=by
 refine F.ok GE λbx A bf s H vs Q E hr h=>?_;obtain⟨G,p,t,r,c,rfl,gh,gp,hp,q⟩:=h;refine⟨_,(et (jV T.cl T.nCh (pv 0) (pv 1)) (et (jV T.cl T.nLe (pv 0) (mV ML hr rfl fN (eo (pv 1) eA))) (eE (jV T.cl T.nFo (pv 0) (gy eA))))),?_⟩;have a0:del H [p] p=none:=gc (by simp);have ba:eL (del H [p]) H:=(fM _ _).toF;have R:eL G (del H [p]):=λa u e=>by
  have na:a≠p:=λz=>by rw[z,gp]at e;cases e
  rw[eM (by simpa using na)];exact gh a u e
 generalize bv:del H [p]=G0 at *;refine⟨_,rfl,_,rfl,p,t,_,rfl,hp,(by decide),?_⟩;generalize ap:upd H p (.ins CS t (gz ("chart":Str) (V.ref r) []))=H1;have U:H1 p=some (.ins CS t (FY r)):=by rw[<-ap,er,J2]
 have I:eL G0 H1:=by rw[<-ap];exact ba.upd a0
 have an:∀a,H1 a=none->H a=none:=λa e=>by rw[<-ap]at e;by_cases z:a=p;rw[z,er]at e;cases e;rw[eB z]at e;exact e
 refine⟨_,rfl,λd B O a4 bd=>?_⟩;have n1:p≠d:=eG U O;have n2:p≠B:=eG U a4;have s2:eN H1 (upd (upd H1 B (.own d)) d (.ins CL B [])):=(eJ a4 _).trans (eJ (by rw[eB (Ne.symm bd)];exact O) _);have ah:upd (upd H1 B (.own d)) d (.ins CL B []) d=some (.ins CL B []):=er;have a2:∀a,upd (upd H1 B (.own d)) d (.ins CL B []) a=none->H1 a=none:=λa e=>s2.free e;generalize upd (upd H1 B (.own d)) d (.ins CL B [])=H2 at *;refine⟨d,B,r,rfl,ah,λM D L J C Z N aa X S x bm a5=>⟨rfl,?_⟩⟩;have Y:C p=some (.ins CS t (FY r)):=Z.ins (by rw[eM (by simpa using n1)];exact s2 _ _ U);refine⟨_,rfl,p,t,_,rfl,Y,(by show 1<1000;decide),?_⟩;rw[IT];refine⟨u6,λg ad=>?_⟩;have n3:p≠g:=λz=>by rw[z,er]at ad;cases ad
 refine⟨_,rfl,p,t,_,rfl,(by rw[eB n3];exact er),(by show 2<1000;decide),?_⟩;rw[IS];have b:C g=none:=by rw[eB (Ne.symm n3)]at ad;exact ad
 have eH:upd (upd (upd C p (.ins CS t (Je r d))) g (.lst [])) p (.ins CS t (xW r d g))=upd (upd C g (.lst [])) p (.ins CS t (xW r d g)):=by funext a;by_cases z:a=p;rw[z,er,er];rw[eB z,eB z];by_cases y:a=g;rw[y,er,er];rw[eB y,eB y,eB z]
 rw[eH];have k4:∀a,a≠p->a≠g->upd (upd C g (.lst [])) p (.ins CS t (xW r d g)) a=C a:=λa z y=>by rw[eB z,eB y]
 have a9:upd (upd C g (.lst [])) p (.ins CS t (xW r d g)) p=some (.ins CS t (xW r d g)):=er;have a8:upd (upd C g (.lst [])) p (.ins CS t (xW r d g)) g=some (.lst []):=by rw[eB (Ne.symm n3)];exact er
 generalize upd (upd C g (.lst [])) p (.ins CS t (xW r d g))=H4 at *;have hO:∀a∈[M,D,L,J],H1 a=none:=λa i=>a2 a (a5 a i);have bl:∀a,C a=none->H2 a=none:=λa e=>by by_cases z:a=d;rw[z,N]at e;cases e;have:=Z.free e;rw[eM (by simpa using z)]at this;exact this
 have al:H1 g=none:=a2 g (bl g b);have ag:g∉[M,D,L,J]:=λz=>by simp only[ao,aR,or_false]at z;rcases z with z|z|z|z;rw[z,aa]at b;cases b;rw[z,X]at b;cases b;rw[z,S]at b;cases b;rw[z,x]at b;cases b
 have a7:d≠g:=eG N b;have as:∀a∈[M,D,L,J],a≠p:=λa i z=>by have:=hO a i;rw[z,U]at this;cases this
 have bq:∀a∈[M,D,L,J],a≠d:=λa i z=>by have:=a5 a i;rw[z,ah]at this;cases this
 have be:∀a∈[M,D,L,J],a≠g:=λa i z=>ag (z▸i);have a3:eL G0 C:=λa u e=>by
  have na:a≠d:=λz=>by have:=I.free O;rw[z,this]at e;cases e
  rcases I a u e with z|⟨z1,o,z2⟩;exact Z a u (by rw[eM (by simpa using na)];exact s2 _ _ z);exact .inr ⟨z1,o,Z.frz (by rw[eM (by simpa using na)];exact s2 _ _ z2)⟩
 have a6:eL G0 H4:=λa u e=>by
  have z1:a≠p:=λz=>by rw[z,a0]at e;cases e
  have z2:a≠g:=λz=>by have:=a3.free b;rw[z,this]at e;cases e
  rw[k4 a z1 z2];exact a3 a u e
 have a1:H4 d=some (.ins CL B (Bc r M D L J)):=by rw[k4 d (Ne.symm n1) a7];exact N
 refine q (upd (upd G d (.ins CL B (Bc r M D L J))) p (.ins CS t (xW r d g))) H4 d g [M,D,L,J] ?_ ?_ ?_ ?_ (an g al) ag ?_ a6 er ?_ a8;exact((eL.refl G).upd (R.free (I.free O))).upd gp;intro a u e;by_cases z:a=p;rw[z,er]at e;rw[z,a9];exact .inl e;rw[eB z]at e;by_cases y:a=d;rw[y,er]at e;rw[y,a1];exact .inl e;rw[eB y]at e;exact(R.trans a6) a u e;intro a e n;by_cases z:a=p;exact .inr z;rw[eB z]at n;by_cases y:a=d;rw[y];exact .inl (an d O);rw[eB y]at n;exact absurd e n;exact λa i=>an a (hO a i);rw[eB (Ne.symm n3),eB (Ne.symm a7)];exact R.free (I.free al);have k5:∀a∈[M,D,L,J],H4 a=C a:=λa i=>k4 a (as a i) (be a i);refine⟨⟨B,M,D,L,J,[],[],[],rfl,?_,?_,?_,.nil,?_,am _,λm=>rfl,[],[],?_,rfl,bT,(λk hk=>nomatch hk),(λk hk=>Or.inl ⟨rfl,rfl⟩),(λk k2 l h=>nomatch h)⟩,λa i=>?_,λa i=>?_,λa i v j=>?_,bm⟩;rw[eB (Ne.symm n1),er];rw[k5 M (by simp)];exact aa;rw[k5 D (by simp)];exact X;rw[k5 L (by simp)];exact S;rw[k5 J (by simp)];exact x;rw[eB (as a i),eB (bq a i)];exact R.free (I.free (hO a i));rw[k5 a i];simp only[ao,aR,or_false]at i;rcases i with z|z|z|z;exact⟨_,by rw[z];exact aa⟩;exact⟨_,by rw[z];exact X⟩;exact⟨_,by rw[z];exact S⟩;exact⟨_,by rw[z];exact x⟩;rw[k5 a i]at j;simp only[ao,aR,or_false]at i;rcases i with z|z|z|z;rw[z,aa]at j;cases j;exact λq=>q;rw[z,X]at j;cases j;exact λq=>q;rw[z,S]at j;cases j;exact λq=>q;rw[z,x]at j;cases j;exact λq=>q
end
structure Se (CB CC CS:dY)(G H:Hp)(p ch le fl:dY)(c:eD):Prop where
 gh:eL G H
 self:∃dx,G p=some (.ins CS dx (xW ch le fl))
 chart:iQ CB CC G ch c
 n:c.n<64
 nds:∀w,(c.needs w).length<=100
 sm:∀L,ib c L->L.length<sizeLine
def Se.grow {G':Hp}{le fl:dY}{c:eD}(h:Se CB CC CS G H p ch le fl c)(gg:eL G G')(gh:eL G' H'):Se CB CC CS G' H' p ch le fl c:=
 ⟨gh,let ⟨dx,e⟩:=h.self;⟨dx,gg.ins e⟩,h.chart.f gg,h.n,h.nds,h.sm⟩
def Se.same {le fl:dY}{c:eD}(h:Se CB CC CS G H p ch le fl c)(e:eN H H'):Se CB CC CS G H' p ch le fl c:=h.grow (eL.refl _) (h.gh.trans e.toF)
def md (CT:dY)(G H:Hp)(s:dY)(sd:Sd):Prop:=∃dx w,H s=some (.ins CT dx (zj (.int (sd.picked:Nat)) (.int (sd.dead:Nat)) (.ref w)))/\wD G w sd.wanted
inductive xK (CB CC CS CT:dY)(vs:ef V)(H:Hp)(Q:VK)(E:XK):Prop
 |mk (G:Hp)(p ch le fl s:dY)(c:eD)(sd:Sd)(x:Str)(_:vs=[.ref p,.ref s,.str x])(_:Se CB CC CS G H p ch le fl c)(_:md CT G H s sd)(_:Q (.int (iD (c.LT x) sd.dead:Nat)) H)
inductive oZ (CB CC CS:dY)(vs:ef V)(H:Hp)(Q:VK)(E:XK):Prop
 |mk (G:Hp)(p ch le fl w0:dY)(c:eD)(kvs0:ef (gM×V))(wanted:ef (Str×el Pk))(wv:V)(who:el Pk)(pm:Nat)(_:vs=[.ref p,.ref w0,wv,.int (pm:Nat)])(_:Se CB CC CS G H p ch le fl c)(_:Rd H w0 (.dK kvs0))(_:Paired (wC G) kvs0 wanted)(_:wanted.length<=7000)(_:∀x u,(x,u)∈wanted->c.Who u/\x∈eZ (c.needs u))(_:c.Who who)(_:gW G wv who)(_:∀(a:dY) (H':Hp) (kvs:ef (gM×V)) (g:ef (Str×el Pk)),eN H H'->H a=none->H' a=some (.dK kvs)->Paired (wC G) kvs g->c.LP wanted who pm g->Q (.ref a) H')
def ud {n:Nat}(h:n<=10000):n<sizeLine:=bK h (by decide)
section
variable {base:Heap}{f:dY}
def GI:eQ ["self","stand","part"] ["self","stand","part"] (eK zV):=iW
def CW {CT:dY}(F:iE K "left" "Search.left" zV f fd)(T:t9 K mg CS)(a:TC K mg CC)(TT:Dw K mg CT):fB P w K mg base fC 1 f fd ["self","stand","part"] (xK CB CC CS CT):=by refine F.ok GI λy A i s H R Q E z h=>?_;obtain⟨G,p,m,N,fl,I,c,sd,x,rfl,d,⟨C,wa,D,U⟩,q⟩:=h;have B:=gH z;refine⟨_,(eE (eU (fh im (kC B (eT a.cl a.nOf (eT T.cl T.nCh (pv 0))) (pv 2) eF ⟨rfl,rfl,rfl,rfl⟩) (ja lC (eT TT.cl TT.nDe (pv 1)))))),?_⟩;obtain⟨J,hp⟩:=d.self;obtain⟨o,b,bits,t,e,Z,M,fo,st,v,X,Y,c4,c5,l,S,L,O⟩:=(d.chart.f d.gh).ex;obtain⟨r,j,g⟩:=l.get x;refine⟨_,rfl,p,J,_,_,rfl,d.gh.ins hp,(by kernel_rfl),m,o,_,_,rfl,v,(by kernel_rfl),e,rfl,l.isD,_,rfl,r,j,?_⟩;rw[g];refine⟨_,rfl,I,C,_,V.int (sd.dead:Nat),rfl,D,(by kernel_rfl),_,rfl,_,_,rfl,rfl,?_⟩;dsimp only;rw[qH];exact q
def Cj:eQ ["self","wanted","who","picked","allowed","grown","part"] ["self","wanted","who","picked"] (eK rS):=iW
theorem yd (F:iE K "wanted_by" "Search.wanted_by" rS f fd)(T:t9 K mg CS)(L:TC K mg CC)(GC:Gd P w K mg base fC 1 "count_picks" ["mask"] wA):fB P w K mg base fC 2 f fd ["self","wanted","who","picked"] (oZ CB CC CS):=by
 refine F.ok Cj λbv A bf s H vs Q E hr h=>?_;obtain⟨G,p,ch,le,fl,w0,c,g,wanted,Z,who,X,rfl,M,a8,as,bm,aa,B,S,q⟩:=h;have J:=gH hr;refine⟨_,(et (eO (i:=4) Cj.nd (eT L.cl L.nAl (eT T.cl T.nCh (pv 0)))) (et (eO (i:=5) Cj.nd (ig wf rfl T.dict PyProof.Rows.boot_dict (eo (pv 1) eA))) (et (fO (An (fg J (pv 4) (pv 2))) (eR (i:=6) Cj.nd) (et (fm (iH (fh im (pv 3) (kC J (eT L.cl L.nOf (eT T.cl T.nCh (pv 0))) (pv 6) eF ⟨rfl,rfl,rfl,rfl⟩)) (λ_=>rfl)) (eE uk) eV) (eE (fm (PW.pt (jl (gN (jI J (pv 6) (pv 5))) (iS (fD qY (fG GC hr (eo (hJ J (fg J (pv 4) (pv 2)) (pv 6)) eA)) (fG GC hr (eo (hJ J (fg J (pv 4) (hJ J (pv 5) (pv 6))) (pv 6)) eA)) (fQ _))))) (eE (i6 J (pv 5) (pv 6) (pv 2) rfl)) eV)))) (eE (eU (pv 5)))))),?_⟩;obtain⟨dx,hp⟩:=M.self;obtain⟨cx,b,bits,bq,a3,Y,sh,fo,st,c1,c2,c3,c4,c5,c6,c7,c8,c9⟩:=(M.chart.f M.gh).ex;refine⟨_,rfl,p,dx,_,_,rfl,M.gh.ins hp,(by kernel_rfl),ch,cx,_,V.ref Y,rfl,c1,(by kernel_rfl),?_⟩;refine⟨_,rfl,w0,g,rfl,a8,λa ha=>?_⟩;have s1:=eJ ha (.dK g);have an:upd H a (.dK g) a=some (.dK g):=er;generalize upd H a (.dK g)=H1 at *;obtain⟨d,a6,a2⟩:=(c7.same s1).get B ((S.f M.gh).same s1);obtain⟨o,I,R,a0,bx⟩:=id a2;have ba:d≠a:=fF R an λz=>nomatch z;have la:I.length=(eZ (c.needs who)).length:=by have:=congrArg List.length a0;rw[ab,ab]at this;exact this
 refine⟨_,rfl,_,rfl,Y,_,rfl,a6,d,o,I,rfl,R,?_⟩;refine tz (kvs:=I) (λi σ D=>∃kvs C o6,σ=[some (.ref p),some (.ref w0),some Z,some (.int (X:Nat)),some (.ref Y),some (.ref a),o6]/\D a=some (.dK kvs)/\(∀b,b≠a->D b=H1 b)/\kvs.length<=7000+i/\Paired (wC G) kvs C/\c.Mi wanted who X ((eZ (c.needs who)).take i) C)
  ⟨g,wanted,none,rfl,an,λ_ _=>rfl,by rw[Paired.length as];lia,as,GrowP.nil⟩ (λi σ D _ ⟨_,_,_,_,_,e,_⟩=>by rw[e d ba];exact R) ?_ ?_
 rintro i kv σ D hi ⟨kvs,C,o6,rfl,t,y,bd,m,l⟩;have ag:(I.map (·.1))[i]?=some kv.1:=by rw[ae,hi];rfl
 rw[a0,ae]at ag;obtain⟨x,U,ex⟩:=ax.mp ag;rw[<-ex];have a1:=ai U;have ap:=pP (ju (c.needs who)) U;have b1:i<100:=by have h1:=(af.mp U).1;have h2:(eZ (c.needs who)).length<=(c.needs who).length:=nI _;have:=M.nds who;lia
 have j:eN H D:=λb u e=>by have nb:b≠a:=eG e ha;rw[y b nb];exact s1 _ _ e
 obtain⟨r,a9,a4⟩:=(c6.same j).get x;refine⟨_,rfl,_,rfl,p,dx,_,_,rfl,j _ _ (M.gh.ins hp),(by kernel_rfl),ch,cx,_,_,rfl,j _ _ c1,(by kernel_rfl),a3,rfl,(c6.same j).isD,_,rfl,r,a9,?_⟩;rw[a4];refine⟨_,_,rfl,rfl,_,rfl,?_⟩;dsimp only;rw[nZ,pX];by_cases hip:c.isP X x;rw[au (xl.mpr hip)];refine gY ?_;exact⟨kvs,C,_,rfl,t,y,by lia,m,by rw[fV U];exact GrowP.skip l hip⟩;rw[aq (Classical.byContradiction λz=>hip (xl.mp z))];refine fz ?_;have ad:iP D a (.str x) (fc kvs (Sum.inr x)):=iP.k (k:=Sum.inr x) t;refine⟨_,rfl,_,rfl,a,_,rfl,ad,_,rfl,?_⟩;have b2:=ge kvs (Sum.inr x) Z;have ah:c.Mi wanted who X ((eZ (c.needs who)).take (i+1)) (if x∈C.map (·.1) then C.map (λyu=>if yu.1=x then (yu.1,who) else yu) else C++[(x,who)])->
   ∃kvs' gg' o6,[some (.ref p),some (.ref w0),some Z,some (.int (X:Nat)),some (.ref Y),some (.ref a),some (.str x)]=[some (.ref p),some (.ref w0),some Z,some (.int (X:Nat)),some (.ref Y),some (.ref a),o6]/\upd D a (.dK (fJ kvs (Sum.inr x) Z)) a=some (.dK kvs')/\(∀b,b≠a->upd D a (.dK (fJ kvs (Sum.inr x) Z)) b=H1 b)/\kvs'.length<=7000+(i+1)/\Paired (wC G) kvs' gg'/\c.Mi wanted who X ((eZ (c.needs who)).take (i+1)) gg':=
  λhg=>⟨_,_,_,rfl,er,λb hb=>by rw[eB hb];exact y b hb,by lia,D4 m S,hg⟩
 by_cases hxg:x∈C.map (·.1);obtain⟨v,u,be,a5,a7⟩:=oG m hxg;have N:=ad;rw[be]at N ⊢;refine fz ?_;have O:c.Who u/\x∈eZ (c.needs u):=by obtain⟨_,_,_,_,_,h5⟩:=l;rcases h5 x u a5 with z|⟨z1,z2,_⟩;exact aa x u z;rw[z1];exact⟨B,a1⟩
 obtain⟨d1,e1,e2⟩:=(c7.same j).get B ((S.f M.gh).same j);obtain⟨d2,e3,e4⟩:=(c7.same j).get O.1 ((a7.f M.gh).same j);refine⟨_,rfl,_,rfl,Y,_,rfl,e1,_,rfl,d1,_,rfl,e2.get a1,c,_,rfl,c.Ls _,?_⟩;refine⟨_,rfl,_,rfl,_,rfl,a,_,rfl,N,Y,_,rfl,e3,_,rfl,d2,_,rfl,e4.get O.2,c,_,rfl,c.Ls _,_,_,rfl,rfl,_,rfl,?_⟩;by_cases hlt:(((c.listed (c.LU who x)).length:Nat):Int)<(((c.listed (c.LU u x)).length:Nat):Int)
 ·rw[aq hlt];refine gY ?_;refine⟨_,rfl,_,rfl,_,rfl,a,_,rfl,lT.k (k:=Sum.inr x) t (ud (by lia)),ah ?_⟩;rw[ay hxg,fV U];exact GrowP.swap l hip hxg ap
 rw[au hlt];refine fz ⟨kvs,C,_,rfl,t,y,by lia,m,?_⟩;rw[fV U];exact GrowP.KH l hxg ap;have bl:=(rG m).mpr hxg;rw[bl];refine gY ?_;refine⟨_,rfl,_,rfl,_,rfl,a,_,rfl,lT.k (k:=Sum.inr x) t (ud (by lia)),ah ?_⟩;rw[av hxg,fV U];exact GrowP.new l hip hxg;rintro σ D ⟨kvs,C,o6,rfl,t,y,bd,m,l⟩;rw[la,aK]at l;refine⟨_,rfl,q a D kvs C (λb u e=>?_) ha t m l⟩;rw[y b (eG e ha)];exact s1 _ _ e
end
def NZ (L:iA):Prop:=∀e∈L,e.1≠0
def BP (CL:dY)(G H:Hp)(O:ef dY)(le ch:dY)(c:eD)(L:iA)(m:Nat->Prop)(Q:VK):Prop:=
 ∀(G' H':Hp) (O':ef dY) (L':iA) (j:Nat) (e:Nat×Rs),iU G H O G' H' O'->gK CL G' H' le ch c L' O'->ib c L'->(∃X,L'=L++X)->L'[j]?=some e->m e.1->(NZ L->NZ L'\/(e.1=0/\L'.getLast?=some e))->Q (.int (j:Nat)) H'
inductive pf (CB CC CS:dY)(vs:ef V)(H:Hp)(Q:VK)(E:XK):Prop
 |mk (G:Hp)(p ch le fl:dY)(c:eD)(wv:V)(who:el Pk)(x:Str)(_:vs=[.ref p,wv,.str x])(_:Se CB CC CS G H p ch le fl c)(_:c.Who who)(_:gW H wv who)(_:x∈(c.needs who).map (·.1))(_:∀H',eN H H'->Q (.int (((c.needs who).map (·.1)).idxOf x:Nat)) H')
inductive ql (CB CC CL CS:dY)(vs:ef V)(H:Hp)(Q:VK)(E:XK):Prop
 |mk (G:Hp)(p ch le fl:dY)(c:eD)(L:iA)(O:ef dY)(wv v:V)(who:el Pk)(k:Pk)(_:vs=[.ref p,wv,v])(_:Se CB CC CS G H p ch le fl c)(_:gK CL G H le ch c L O)(_:ib c L)(_:c.Who who)(_:gW G wv who)(_:fj G v k)(_:k∈c.ks)(_:c.Lu who k)(_:c.Ly (c.La who ||| c.bit k))(_:BP CL G H O le ch c L (λm=>m=c.La who ||| c.bit k) Q)
def Hh:(["need"]:ef Str).Nodup:=by decide +kernel
def Hg:(["need","pick"]:ef Str).Nodup:=by decide +kernel
def gK.same {c:eD}{L:iA}{O:ef dY}(h:gK CL G H p ch c L O)(e:eN H H'):gK CL G H' p ch c L O:=
 h.grow (eL.refl _) h.off λa ha=>by obtain⟨u,hu⟩:=h.liv a ha;exact mO e hu
def gK.put {c:eD}{L:iA}{O:ef dY}(h:gK CL G H p ch c L O)(i:eL G H){t:dY}{u:HO}(e:H t=none):gK CL (upd G t u) (upd H t u) p ch c L O:=by
 have d:∀a∈O,a≠t:=λa b z=>by obtain⟨v,g⟩:=h.liv a b;rw[z,e]at g;cases g
 exact h.grow ((eL.refl _).upd (i.free e)) (λa b=>by rw[eB (d a b)];exact h.off a b) λa b=>by rw[eB (d a b)]
section
variable {base:Heap}{f:dY}
def IW:eQ ["self","who","part"] ["self","who","part"] (eK rW):=iW
theorem yg (F:iE K "place_of_need" "Search.place_of_need" rW f fd)(T:t9 K mg CS)(t:TC K mg CC)(l:TB K mg CB):fB P w K mg base fC 1 f fd ["self","who","part"] (pf CB CC CS):=by
 refine F.ok IW λad A J s H vs Q E hr h=>?_;obtain⟨G,p,ch,le,fl,c,wv,who,x,rfl,r,j,v,hx,q⟩:=h;have hu:=gH hr;refine⟨_,(eE (eU (jL PySem.F.plainAttrs_list PySem.F.slot_list_index PySem.F.type_list_index yD (i7 (N':=["need"]) (n:=1) (js:=[]) rfl (iR.closed) (iC (by decide)) (fL (fg hu (eT l.cl l.nN (eT t.cl t.nBoard (eT T.cl T.nCh (pv 0)))) (pv 1))) (λC Y U X=>eR (i:=0) Hh) (λC Y U X=>jY) (λC Y U X=>eP (eW:HJ _ (x5 K)) (pv 0) eF)) (eo (pv 2) eA)))),?_⟩;obtain⟨dx,hp⟩:=r.self;obtain⟨cx,b,bits,aa,Z,al,sh,fo,st,c1,c2,c3,c4,c5,c6,c7,c8,c9⟩:=(r.chart.f r.gh).ex;obtain⟨bx,dn,dv,M,L⟩:=jx c2 c3;obtain⟨na,I,zs,R,m⟩:=L who wv j v;have lz:=Paired.length m;have O:=r.nds who;refine⟨_,rfl,p,dx,_,_,rfl,r.gh.ins hp,(by kernel_rfl),ch,cx,_,_,rfl,c1,(by kernel_rfl),b,bx,_,_,rfl,M,fE _ _,_,rfl,dn,_,rfl,I,na,rfl,⟨_,ff.of R⟩,?_⟩;refine iy (xs:=zs) (λD i o e=>o=(((c.needs who).take i).map (·.1)).map V.str/\e D=some (.lst o)/\eN H e/\H D=none) (λD N=>⟨by simp,er,eJ N _,N⟩)
  (λD i o e S ⟨d,a,g,_⟩=>⟨ff.of (g _ _ R),a,?_⟩) (λD i y o e S ⟨d,a,g,B⟩=>?_) (λD o e ⟨d,a,g,B⟩=>?_)
 rw[d,ab,ab,aV];exact eY (by lia);obtain⟨n,z,nq,rfl,hn⟩:=Paired.K8 m S;unfold jw rL;dsimp only;rw[ay rfl];refine⟨_,rfl,nq,_,_,_,rfl,rfl,gC.of (g _ _ hn),rfl,a,?_,er,eN.upd g B,B⟩;rw[d,fV z,aG,aG];rfl;rw[lz,aK]at d;subst d;exact⟨.inl ⟨rfl,_,ff.of a⟩,_,rfl,D,_,x,rfl,rfl,a,hx,q e g⟩
def Ej:eQ ["self","who","pick","needs","place"] ["self","who","pick"] (eK pA):=iW
theorem vG (F:iE K "outside" "Search.outside" pA f fd)(T:t9 K mg CS)(l:TC K mg CC)(Z:TB K mg CB)(GC:Gd P w K mg base fC 1 "clashes" ["need","pick"] kK)(MP:Mt P w K mg base CL fC 2 "put_down" ["self","mask","reason"] (Du CB CC CL)):fB P w K mg base fC 3 f fd ["self","who","pick"] (ql CB CC CL CS):=by
 refine F.ok Ej λbm A a3 s H vs Q E hr h=>?_;obtain⟨G,p,ch,le,fl,c,L,O,o,v,who,k,rfl,d,hL,m,g,J,hv,hk,a7,X,q⟩:=h;have hu:=gH hr;refine⟨_,(et (eO (i:=3) Ej.nd (fg hu (eT Z.cl Z.nN (eT l.cl l.nBoard (eT T.cl T.nCh (pv 0)))) (pv 1))) (et (eO (i:=4) Ej.nd (jL PySem.F.plainAttrs_list PySem.F.slot_list_index PySem.F.type_list_index yE (i7 (N':=["need","pick"]) (n:=1) (js:=[2]) rfl (iR.one (c:=s.heap.objs.size+1) (y:="pick")) (iC (by decide)) (fL (pv 3)) (λC s2 H2 fp=>eR (i:=0) Hg) (λC s2 H2 fp=>jY) (λC s2 H2 fp=>fG GC (hr.mono (by decide)) (eo (pv 0) (eo (pv 1) eA)))) (eo ik eA))) (eE (eU (iq MP hr fN (eT T.cl T.nLe (pv 0)) (eo (fh qX (fg hu (eT l.cl l.nBits (eT T.cl T.nCh (pv 0))) (pv 1)) (fg hu (eT l.cl l.nBits (eT T.cl T.nCh (pv 0))) (pv 2))) (eo (gL (eo iI (eo (pv 1) (eo (pv 4) (eo (pv 2) eA))))) eA))))))),?_⟩;obtain⟨dx,hp⟩:=d.self;obtain⟨cx,b,bits,bf,be,al,sh,fo,st,c1,c2,c3,c4,c5,c6,c7,c8,c9⟩:=(d.chart.f d.gh).ex;obtain⟨bx,dn,dv,a9,a5⟩:=jx c2 c3;obtain⟨na,a0,zs,hz,aa⟩:=a5 who o g (J.f d.gh);have lz:=Paired.length aa;have bd:=d.nds who;have r:=d.gh.ins hp;refine⟨_,rfl,p,dx,_,_,rfl,r,(by kernel_rfl),ch,cx,_,_,rfl,c1,(by kernel_rfl),b,bx,_,_,rfl,a9,fE _ _,_,rfl,dn,_,rfl,a0,?_⟩;refine⟨_,rfl,na,rfl,⟨_,ff.of hz⟩,?_⟩;refine iy (xs:=zs) (λD i ys B=>ys=(((c.needs who).take i).map λn=>qf n k).map V.bl/\B D=some (.lst ys)/\eN H B/\H D=none) (λD hD=>⟨by simp,er,eJ hD _,hD⟩)
  (λD i ys B hi ⟨R,N,a,_⟩=>⟨ff.of (a _ _ hz),N,?_⟩) (λD i y ys B hi ⟨R,N,a,e4⟩=>?_) (λD ys B ⟨R,N,a,e4⟩=>?_)
 rw[R,ab,ab,aV];exact eY (by lia);obtain⟨n,ah,hn⟩:=Paired.K8 aa hi;unfold jw rL;dsimp only;rw[ay rfl];refine⟨_,rfl,_,rfl,_,_,n,k,rfl,fH.same a hn,fj.same a (fj.f d.gh hv),N,?_,er,eN.upd a e4,e4⟩;rw[R,fV ah,aG,aG];rfl;rw[lz,aK]at R;subst R;have U:true∈(c.needs who).map λn=>qf n k:=by obtain⟨n,ad,a6⟩:=a7;exact aC.mpr ⟨n,ad,a6⟩
 refine⟨.inl ⟨rfl,_,ff.of N⟩,D,_,rfl,rfl,N,U,?_⟩;have Y:=(J.f d.gh).same a;have ap:fj B v k:=fj.same a (fj.f d.gh hv);obtain⟨lx,ma,re,pm,pp,bq,rs,Ol,hO,ba,as⟩:=id hL.ex;refine⟨_,rfl,p,dx,_,V.ref le,rfl,a _ _ r,(by kernel_rfl),le,lx,_,rfl,a _ _ (d.gh.ins ba),(by kernel_rfl),?_⟩;refine⟨_,rfl,p,dx,_,_,rfl,a _ _ r,(by kernel_rfl),ch,cx,_,_,rfl,a _ _ c1,(by kernel_rfl),_,rfl,bits,_,rfl,(c4.same a).get g Y,_,rfl,p,dx,_,_,rfl,a _ _ r,(by kernel_rfl),ch,cx,_,_,rfl,a _ _ c1,(by kernel_rfl),_,rfl,bits,_,rfl,(c4.same a).get (w:=some k) (gQ hk) ap,_,_,rfl,rfl,?_⟩;dsimp only;rw[xC];refine⟨_,rfl,_,rfl,_,rfl,Ge,λt ht=>?_⟩;have M:eL G B:=d.gh.trans a.toF;have gt:G t=none:=M.free ht;have GW:iU G H O (upd G t (.tup [.str ("outside":Str),o,.int (((c.needs who).map λn=>qf n k).idxOf true:Nat),v])) (upd B t (.tup [.str ("outside":Str),o,.int (((c.needs who).map λn=>qf n k).idxOf true:Nat),v])) O:=(iU.same d.gh a).trans (iU.put M ht);have S:=(hL.same a).put M (u:=.tup [.str ("outside":Str),o,.int (((c.needs who).map λn=>qf n k).idxOf true:Nat),v]) ht;obtain⟨i,n,hi,hin,hcl⟩:∃i n,((c.needs who).map λn=>qf n k).idxOf true=i/\(c.needs who)[i]?=some n/\qf n k=true:=by have a1:=bF.mpr U;have hg:=cm a1;rw[List.getElem_map]at hg;exact⟨_,_,rfl,ak _,hg⟩
 have hR:mJ (upd G t (.tup [.str ("outside":Str),o,.int (((c.needs who).map λn=>qf n k).idxOf true:Nat),v])) (.ref t) ⟨who,(i:Nat),.one k⟩:=by have gG:=(eL.refl G).upd (u:=.tup [.str ("outside":Str),o,.int (((c.needs who).map λn=>qf n k).idxOf true:Nat),v]) gt;refine⟨t,o,v,rfl,?_,J.f gG,fj.f gG hv⟩;rw[hi];exact er
 have I:c.La who ||| c.bit k<2^c.n:=jv (eD.L7 g) (c.Ll hk);have an:=d.chart.f GW.gg;generalize upd G t (.tup [.str ("outside":Str),o,.int (((c.needs who).map λn=>qf n k).idxOf true:Nat),v])=G' at *;generalize upd B t (.tup [.str ("outside":Str),o,.int (((c.needs who).map λn=>qf n k).idxOf true:Nat),v])=H8 at *;refine⟨G',le,ch,c,L,O,c.La who ||| c.bit k,_,_,rfl,GW.gh,an,S,hR,I,d.n,d.sm L m,λj hj=>?_,λhn H9 O9 g9 a2=>?_⟩;obtain⟨e,ag,a4⟩:=qR hj;exact q G' H8 O L j e GW S m ⟨[],by simp⟩ ag a4 .inl;refine q G' H9 O9 _ L.length (c.La who ||| c.bit k,⟨who,(i:Nat),.one k⟩) (GW.trans g9) a2 (m.add I X (nF.mp hn) ?_) ⟨_,rfl⟩ ?_ rfl (λa8=>.inl λx hx=>?_);refine AB ?_ (eD.Lg.mpr (.inr ((eD.Lj hk).mpr rfl))) hin hcl;cases who with|none=>trivial|some k0=>exact eD.Lg.mpr (.inl ((eD.Ma g).mpr rfl))
 rw[bh (am _),bW];rfl;rcases aA.mp hx with z|z;exact a8 x z;rw[aj.mp z];intro y;have:c.has (c.La who ||| c.bit k) k:=eD.Lg.mpr (.inr ((eD.Lj hk).mpr rfl));rw[show c.La who ||| c.bit k=0 from y]at this;exact eD.Lk this
end
end
section
variable {H:Hp}{L:iA}{O:ef dY}
def qu (c:eD)(F:ef Fk):Prop:=∀(i i':Nat) (f f':Fk),i<=i'->F[i]?=some f->F[i']?=some f'->∀j,c.has f.sd.picked j->c.has f'.sd.picked j
theorem qu.snoc {c:eD}{F:ef Fk}{g:Fk}(h:qu c F)(a:∀f∈F,∀j,c.has f.sd.picked j->c.has g.sd.picked j):qu c (F++[g]):=λi i' f f' hi h1 h2 j hj=>by
 have e2:i'<F.length\/i'=F.length:=by have:=(af.mp h2).1;rw[aD,aP]at this;lia
 rcases e2 with e2|e2;rw[aQ e2]at h2;rw[aQ (by lia)]at h1;exact h i i' f f' hi h1 h2 j hj;subst e2;rw[bh (am _),bW]at h2;have:g=f':=by simpa using h2
 subst this;rcases cO i F.length with z|z;rw[aQ z]at h1;exact a f (ai h1) j hj;have:i=F.length:=by lia
 subst this;rw[bh (am _),bW]at h1;have:g=f:=by simpa using h1
 subst this;exact hj
def fX.mono {c:eD}{R:ef Fk}{s:Sd}(h:fX c L R s):∀g:Fk,g.sd=s->qu c (R.reverse++[g]):=by induction h with|nil _ _=>intro g _;exact qu.snoc (F:=[]) (λi p f o _ a=>by simp at a) λf b=>nomatch b|@cons f F s a h2 h3 h4 ih=>intro g e;rw[cV];refine qu.snoc (ih f rfl) λx m j d=>?_;rw[e];have l:fX c L (f::F) s:=.cons a h2 h3 h4;refine(l.sub x ?_).1 j d;rcases aA.mp m with z|z;exact bj _ (ck.mp z);rw[aj.mp z];exact bC
def fX.fks {c:eD}{R:ef Fk}{s:Sd}(h:fX c L R s):∀f∈R,kO c f/\i4 c L f.sd:=by induction h with|nil _ _=>exact λf a=>nomatch a|cons h1 h2 h3 h4 ih=>intro x hx;rcases ao.mp hx with rfl|hx;exact⟨h2,h1.sd⟩;exact ih x hx
def eD.MC (c:eD)(m:Nat)(F:ef Fk):ef Fk:=match F.getLast? with
 |some g=>(match g.bit with
  |some k=>F.map (c.LE k m)
  |none=>F)
 |none=>F
theorem mH {α:Type}{p q:α->Bool}:∀{l:ef α},(∀x∈l,q x=true->p x=true)->(l.filter q).length<=(l.filter p).length
 |[],_=>am _
 |x::l,h=>by have ih:=mH (l:=l) λy hy=>h y (by simp[hy]);rw[aJ,aJ];by_cases hq:q x=true;rw[ay hq,ay (h x (by simp) hq),aE,aE];lia;rw[av hq];split;rw[aE];lia;exact ih
theorem rh {α:Type}{p q:α->Bool}{k:α}:∀{l:ef α},(∀x∈l,q x=true->p x=true)->k∈l->p k=true->q k=false->(l.filter q).length<(l.filter p).length
 |[],_,hk,_,_=>nomatch hk
 |x::l,h,hk,hp,hq=>by have hl:∀y∈l,q y=true->p y=true:=λy hy=>h y (by simp[hy]);rw[aJ,aJ];rcases ao.mp hk with rfl|hk;rw[av (by rw[hq];decide),ay hp,aE];have:=mH hl;lia;have ih:=rh hl hk hp hq;by_cases hx:q x=true;rw[ay hx,ay (h x (by simp) hx),aE,aE];lia;rw[av hx];split;rw[aE];lia;exact ih
def eD.MD (c:eD)(k:Pk)(m:Nat)(f:Fk):c.cnt (c.LE k m f)<=c.cnt f:=by unfold eD.cnt eD.left;refine mH λx a h=>?_;simp only[aF,aw,bQ,decide_eq_false_iff_not]at h ⊢;exact⟨h.1,λz=>h.2 (eD.LH z)⟩
def eD.ME {c:eD}{k:Pk}{m:Nat}{f:Fk}(a:k∈c.ks)(hp:k.1=f.part)(b:¬c.has f.sd.dead k)(d:iD (iD m (c.bit k)) f.sd.picked=0):c.cnt (c.LE k m f)<c.cnt f:=by
 unfold eD.cnt eD.left;refine rh (k:=k) (λx e h=>?_) a ?_ ?_;simp only[aF,aw,bQ,decide_eq_false_iff_not]at h ⊢;exact⟨h.1,λz=>h.2 (eD.LH z)⟩;simp only[aF,aw,bQ,decide_eq_false_iff_not];exact⟨hp,b⟩;have:c.has (c.LE k m f).sd.dead k:=by show c.has (c.LD k m f.sd).dead k;unfold eD.LD;rw[ay d];exact eD.Lg.mpr (.inr ((eD.Lj a).mpr rfl))
 rw[aq this];simp
theorem zc {c:eD}{B:ef Fk}{g:Fk}{e:Nat×Rs}{n:Nat}(h:fX c L B.reverse g.sd)(D:kO c g)(G:e∈L)(q:e.1<2^c.n)(x:∀j,c.has e.1 j->c.has g.sd.picked j)(d:((B++[g]).take n).reverse=(B++[g]).reverse.dropWhile (λf=>!c.stop e.1 f)):((B++[g]).take n=[]/\e.1=0)\/∃B2 g2,c.MC e.1 ((B++[g]).take n)=B2++[g2]/\fX c L B2.reverse g2.sd/\kO c g2/\c.mv (c.n+1) (B2++[g2])<c.mv (c.n+1) (B++[g])/\e.1≠0:=by
 have r:c.stop e.1 g=false:=by unfold eD.stop;cases hb:g.bit with|none=>rfl|some k=>exact au λz=>D.LC h.sd hb (x k z)
 rw[cF,List.reverse_singleton,List.singleton_append,List.dropWhile_cons,ay (by rw[r];rfl)]at d;rcases Dt h x with ⟨H,E⟩|⟨M,b,l,k,F,K,o,v,y,t,m,A⟩;left;rw[H]at d;exact⟨List.reverse_eq_nil_iff.mp d,eD.Lm q E⟩;right;rw[K]at d;have C:(B++[g]).take n=l.reverse++[b]:=by have:=congrArg List.reverse d;rw[cX,cV]at this;exact this
 have J:B=l.reverse++b::M.reverse:=by have:=congrArg List.reverse F;rw[cX,cF,cV,bP]at this;exact this
 have s:k∈c.ks:=(m.bit k o).1;have p:¬c.has b.sd.picked k:=m.LC t.sd o;have N:iD (iD e.1 (c.bit k)) b.sd.picked=0:=(eD.LJ s q).mpr y;refine⟨l.reverse.map (c.LE k e.1),c.LE k e.1 b,?_,?_,m.LE,?_,λz=>?_⟩;rw[C];unfold eD.MC;rw[List.getLast?_append];simp only[List.getLast?_singleton,Option.some_or];rw[o];show List.map (c.LE k e.1) (l.reverse++[b])=_;rw[aG];rfl;have:=t.LE s G q v p;rw[<-List.map_reverse,cX];exact this;rw[J,bP,dj];refine eD.LO c (eD.ME s (m.bit k o).2.1 A N) (c.n+1) _ _ (by rw[ab]) (λi a O I w=>?_) ?_;rw[ae,I]at w;cases w;exact c.MD k e.1 a;have:=t.depth;rw[ci];lia;rw[z]at v;exact eD.Lk v
def jf (H:Hp)(O:ef dY)(H':Hp)(O':ef dY):Prop:=∀x u,H x=some u->u5 u->x∉O->H' x=some u/\x∉O'
def jf.refl (H:Hp)(O:ef dY):jf H O H O:=λx u h _ n=>⟨h,n⟩
def jf.trans {H1 H2:Hp}{O1 O2:ef dY}(a:jf H O H1 O1)(b:jf H1 O1 H2 O2):jf H O H2 O2:=λx u h f n=>(by obtain⟨h1,n1⟩:=a x u h f n;exact b x u h1 f n1)
def iU.MF {G G' H':Hp}{O':ef dY}(g:iU G H O G' H' O'):jf H O H' O':=λx u h f n=>⟨g.keep n h (by cases u <;> first|exact λz=>z|exact f.elim),g.out n h⟩
def jf.del {H':Hp}{ys:ef dY}(e:eL (del H ys) H')(hy:∀y∈ys,∃u,H y=some u/\¬u5 u):jf H O H' O:=λx u h f n=>by
 have nx:x∉ys:=λz=>by obtain⟨v,h1,h2⟩:=hy x z;rw[h]at h1;cases h1;exact h2 f
 refine⟨e.no (by rw[eM nx];exact h) ?_,n⟩;cases u <;> first|exact λz=>z|exact f.elim
end
section
seal ni PS PE PT PA
variable {A:ef (dY×dY)}{CB CC CF CL CS CT fl:dY}{F:ef Fk}{G G' H H':Hp}{K:W.Frag}{O O':ef dY}{P:ee}{fd:eg}{m:Nat}{mg:Str->el dZ}{w:World}
def md.grow {s:dY}{sd:Sd}(h:md CT G H s sd)(g:iU G H O G' H' O')(n:s∉O):md CT G' H' s sd:=
 (by obtain⟨dx,w,h1,h2⟩:=h;exact⟨dx,w,g.keep n h1 λz=>z,h2.f g.gg⟩)
def nu (CF CT:dY)(G H:Hp)(c:eD)(a:dY×dY)(fk:Fk):Prop:=(∃dx,H a.1=some (.ins CF dx (uF (.str fk.part) (.ref a.2) (.int (c.La fk.bit:Nat)))))/\md CT G H a.2 fk.sd
structure jm (CF CT:dY)(G H:Hp)(c:eD)(fl:dY)(A:ef (dY×dY))(F:ef Fk):Prop where
 l:H fl=some (.lst (A.map λa=>V.ref a.1))
 p:Paired (nu CF CT G H c) A F
 offl:G fl=none
 off:∀a∈A,G a.1=none/\G a.2=none
 nd1:(A.map (·.1)).Nodup
 nd2:(A.map (·.2)).Nodup
def zf (O:ef dY)(fl:dY)(A:ef (dY×dY)):Prop:=fl∉O/\∀a∈A,a.1∉O/\a.2∉O
def jm.grow {c:eD}(h:jm CF CT G H c fl A F)(g:iU G H O G' H' O')(s:zf O fl A):jm CF CT G' H' c fl A F:=by
 have j:∀a∈A,∃d,nu CF CT G H c a d:=λa b=>by obtain⟨i,r⟩:=aB.mp b;obtain⟨d,_,q⟩:=Paired.K8 h.p r;exact⟨d,q⟩
 refine⟨g.keep s.1 h.l λz=>z,?_,g.off h.offl h.l,λa b=>?_,h.nd1,h.nd2⟩;have:=h.p;have key:∀{A:ef (dY×dY)} {F:ef Fk},(∀a∈A,a.1∉O/\a.2∉O)->Paired (nu CF CT G H c) A F->Paired (nu CF CT G' H' c) A F:=by intro A F m hp;induction hp with|nil=>exact .nil|cons h1 _ ih=>exact .cons ⟨(by obtain⟨o,e⟩:=h1.1;exact⟨o,g.keep (m _ (by simp)).1 e λz=>z⟩),h1.2.grow g (m _ (by simp)).2⟩ (ih λa b=>m a (by simp[b]))
 exact key s.2 h.p;obtain⟨d,⟨o,t⟩,x,w,v,_⟩:=j a b;exact⟨g.off (h.off a b).1 t,g.off (h.off a b).2 v⟩
def zf.grow {c:eD}(h:jm CF CT G H c fl A F)(g:iU G H O G' H' O')(s:zf O fl A):zf O' fl A:=by refine⟨g.out s.1 h.l,λa b=>?_⟩;obtain⟨i,j⟩:=aB.mp b;obtain⟨m,_,⟨o,d⟩,q,w,e,_⟩:=Paired.K8 h.p j;exact⟨g.out (s.2 a b).1 d,g.out (s.2 a b).2 e⟩
def xF {c:eD}{k:Pk}(a:k∈c.ks):m &&& c.bit k≠0↔c.has m k:=by have b:m &&& c.bit k<2^c.n:=bK Nat.and_le_right (c.Ll a);constructor;intro h;refine Classical.byContradiction λz=>h (eD.Lm b λj e=>z ?_);obtain⟨d,g⟩:=eD.Lh.mp e;rw[<-(eD.Lj a).mp g];exact d;intro h z;have:c.has (m &&& c.bit k) k:=eD.Lh.mpr ⟨h,(eD.Lj a).mpr rfl⟩;rw[z]at this;exact eD.Lk this
def j8 {c:eD}{k:Pk}(a:k∈c.ks):(((m &&& c.bit k:Nat):Int) != 0)=decide (c.has m k):=by rw[pX];by_cases h:c.has m k;rw[au (xF a |>.mpr h),aq h];rfl;rw[aq (Classical.byContradiction λz=>h ((xF a).mp z)),au h];rfl
def JL (c:eD)(F:ef Fk)(k:Pk)(m:Nat):Prop:=c.has m k/\∀f∈F,c.has f.sd.dead k->∀j,c.has m j->j=k\/c.has f.sd.picked j
inductive qp (CB CC CL CS CF CT:dY)(vs:ef V)(H:Hp)(Q:VK)(E:XK):Prop
 |mk (G:Hp)(p ch le fl:dY)(c:eD)(L:iA)(O:ef dY)(A:ef (dY×dY))(F:ef Fk)(v:V)(k:Pk)(_:vs=[.ref p,v])(_:Se CB CC CS G H p ch le fl c)(_:gK CL G H le ch c L O)(_:ib c L)(_:jm CF CT G H c fl A F)(_:fj G v k)(_:k∈c.ks)(_:qu c F)(_:∀f∈F,i4 c L f.sd)(_:∃f0∈F,c.has f0.sd.dead k/\¬c.isP f0.sd.picked k.1)(_:F.length<=64)(_:BP CL G H O le ch c L (JL c F k) Q)
def xa {c:eD}{j k:Pk}(d:j∈c.ks)(g:k∈c.ks)(h:j.1=k.1->j=k):c.Ly (c.bit j ||| c.bit k):=by
 intro a b l i e;rcases eD.Lg.mp l with x|x <;> rcases eD.Lg.mp i with y|y
 rw[(eD.Lj d).mp x,(eD.Lj d).mp y];rw[(eD.Lj d).mp x,(eD.Lj g).mp y]at e ⊢;exact h e;rw[(eD.Lj g).mp x,(eD.Lj d).mp y]at e ⊢;exact(h e.symm).symm;rw[(eD.Lj g).mp x,(eD.Lj g).mp y]
def CN {c:eD}{k:Pk}(d:k∈c.ks):c.Ly (0 ||| c.bit k):=by intro a b g e _;rw[Nat.zero_or]at g e;rw[(eD.Lj d).mp g,(eD.Lj d).mp e]
def Hk:(["fork","bit"]:ef Str).Nodup:=by decide +kernel
section
variable {base:Heap}{f:dY}
def Co:eQ ["self","pick","bit","stand","foes"] ["self","pick"] (eK vq):=iW
theorem CV (F:iE K "line_against" "Search.line_against" vq f fd)(T:t9 K mg CS)(J:TC K mg CC)(TT:Dw K mg CT)(TF:BN K mg CF)(MO:Mt P w K mg base CS fC 3 "outside" ["self","who","pick"] (ql CB CC CL CS))(ML:Mt P w K mg base CC fC 1 "listed" ["self","mask"] (j9 CC))(MA:Mt P w K mg base CL fC 1 "place_against" ["self","pick","picked"] (tJ CB CC CL)):fB P w K mg base fC 4 f fd ["self","pick"] (qp CB CC CL CS CF CT):=by
 refine F.ok Co λd9 A cz s H vs Q E hr h=>?_;obtain⟨G,p,X,le,fl,c,L,O,AA,FF,v,k,rfl,M,hL,I,hF,hv,o,a9,bm,⟨f0,b2,b1,dc⟩,d7,q⟩:=h;have hu:=gH hr;refine⟨_,(et (eO (i:=2) Co.nd (fg hu (eT J.cl J.nBits (eT T.cl T.nCh (pv 0))) (pv 1))) (et (eO (i:=3) Co.nd (eP fw (i7 (N':=["fork","bit"]) (n:=1) (js:=[2]) rfl (iR.one (c:=s.heap.objs.size+1) (y:="bit")) (iC (by decide)) (fL (eT T.cl T.nFo (pv 0))) (λC s2 H2 fp=>eR (i:=0) Hk) (λC s2 H2 fp=>mP (vz (fh im (eT TT.cl TT.nDe (eT TF.cl TF.nSt (pv 0))) (pv 1)) (λ_=>rfl))) (λC s2 H2 fp=>eT TF.cl TF.nSt (pv 0))) eF)) (et (fm (iH (fh im (fg hu (eT J.cl J.nFo (eT T.cl T.nCh (pv 0))) iJ) (pv 2)) (λ_=>rfl)) (eE (eU (iq MO hr fN (pv 0) (eo iJ (eo (pv 1) eA))))) eV) (et (eO (i:=4) Co.nd (iq ML (hr.mono (by decide)) fN (eT T.cl T.nCh (pv 0)) (eo (fh im (fg hu (eT J.cl J.nFo (eT T.cl T.nCh (pv 0))) (pv 1)) (fh qX (eT TT.cl TT.nPi (pv 3)) (pv 2))) eA))) (et (fm (gX (iH (pv 4) (λ_=>rfl))) (eE (eU (iq MA (hr.mono (by decide)) fN (eT T.cl T.nLe (pv 0)) (eo (pv 1) (eo (eT TT.cl TT.nPi (pv 3)) eA))))) eV) (et (fm (iH (fh im (fg hu (eT J.cl J.nSh (eT T.cl T.nCh (pv 0))) (eP fw (pv 4) eF)) (pv 2)) (λ_=>rfl)) (eE (eU (iq MO hr fN (pv 0) (eo (eP fw (pv 4) eF) (eo (pv 1) eA))))) eV) (eE (eU (iq MO hr fN (pv 0) (eo (pv 1) (eo (eP fw (pv 4) eF) eA))))))))))),?_⟩;obtain⟨dx,hp⟩:=M.self;have t:=M.gh.ins hp;obtain⟨cx,b,bits,dp,d8,al,sh,fo,st,c1,c2,c3,c4,c5,c6,c7,c8,c9⟩:=(M.chart.f M.gh).ex;have bd:fj H v k:=fj.f M.gh hv;have lA:AA.length=FF.length:=Paired.length hF.p;refine⟨_,rfl,p,dx,_,_,rfl,t,(by kernel_rfl),X,cx,_,_,rfl,c1,(by kernel_rfl),_,rfl,bits,_,rfl,c4.get (w:=some k) (gQ o) bd,?_⟩;refine⟨_,rfl,p,dx,_,_,rfl,t,(by kernel_rfl),fl,rfl,⟨_,ff.of hF.l⟩,?_⟩;refine iy (xs:=AA.map λa=>V.ref a.1) (λD i ys H7=>H7 D=some (.lst ys)/\eN H H7/\H D=none/\ys.length<=i/\((ys=[]/\∀N<i,∀f:Fk,FF[N]?=some f->¬c.has f.sd.dead k)\/∃(i0:Nat) (a:dY) (g:Fk) (R:ef V),ys=.ref a::R/\FF[i0]?=some g/\md CT G H a g.sd/\c.has g.sd.dead k/\∀N<i0,∀f:Fk,FF[N]?=some f->¬c.has f.sd.dead k))
  (λD hD=>⟨er,eJ hD _,hD,am _,.inl ⟨rfl,λN x=>absurd x (ca _)⟩⟩) (λD i ys H7 hi ⟨e1,r,e3,e4,_⟩=>⟨ff.of (r _ _ hF.l),e1,?_⟩) (λD i y ys H7 hi ⟨e1,r,e3,e4,e5⟩=>?_) (λD ys H7 ⟨e1,r,e3,e4,e5⟩=>?_)
 rw[ab]at hi;exact eY (by lia);rw[ae]at hi;obtain⟨a,ha,rfl⟩:=ax.mp hi;obtain⟨fk,bx,⟨fx,bf⟩,ag⟩:=Paired.K8 hF.p ha;obtain⟨sx,wa,an,da⟩:=id ag;unfold jw;refine⟨_,rfl,a.1,fx,_,V.ref a.2,rfl,r _ _ bf,(by kernel_rfl),a.2,sx,_,V.int (fk.sd.dead:Nat),rfl,r _ _ an,(by kernel_rfl),_,rfl,_,_,rfl,rfl,_,rfl,?_⟩;rw[nZ,show c.La (some k)=c.bit k from rfl,j8 o];by_cases hd:c.has fk.sd.dead k;rw[aq hd];refine gY ⟨_,rfl,a.1,fx,_,V.ref a.2,rfl,r _ _ bf,(by kernel_rfl),e1,er,eN.upd r e3,e3,by rw[aD,aP];lia,.inr ?_⟩;rcases e5 with ⟨z1,z2⟩|⟨i0,a0,g,R,z1,z2⟩;subst z1;exact⟨i,a.2,fk,[],rfl,bx,ag,hd,z2⟩;exact⟨i0,a0,g,R++[.ref a.2],by rw[z1];rfl,z2⟩;rw[au hd];refine fz ⟨e1,r,e3,by lia,?_⟩;rcases e5 with ⟨z1,z2⟩|z;refine .inl ⟨z1,λN x f hf=>?_⟩;rcases cO N i with y|y;exact z2 N y f hf;have:N=i:=by lia
 rw[this,bx]at hf;cases hf;exact hd;exact .inr z;rw[ab]at e5;have b3:¬(ys=[]/\∀N<AA.length,∀f,FF[N]?=some f->¬c.has f.sd.dead k):=λ⟨_,z⟩=>by obtain⟨N,x⟩:=aB.mp b2;exact z N (by rw[lA];exact(af.mp x).1) f0 x b1
 obtain⟨i0,sa,g,R,rfl,hg,ag,bl,ah⟩:=e5.resolve_left b3;have bq:=ai hg;have a4:∀f∈FF,c.has f.sd.dead k->∀j,c.has g.sd.picked j->c.has f.sd.picked j:=λf hf a7=>by obtain⟨N,x⟩:=aB.mp hf;exact a9 i0 N g f (Nat.le_of_not_lt λz=>ah N z f x a7) hg x
 have co:¬c.isP g.sd.picked k.1:=(by rintro⟨j,h1,h2⟩;exact dc ⟨j,a4 f0 b2 b1 j h1,h2⟩);have a8:∀m,c.has m k->(∀j,c.has m j->j=k\/c.has g.sd.picked j)->JL c FF k m:=λm h1 h2=>⟨h1,λf hf a7 j S=>(h2 j S).imp id (a4 f hf a7 j)⟩;obtain⟨sx,wa,an,da⟩:=id ag;have g7:eL G H7:=M.gh.trans r.toF;have cv:=M.same r;have cp:=hL.same r;have GW:=iU.same (O:=O) M.gh r;refine⟨D,_,_,V.ref sa,rfl,rfl,ff.of e1,nh,?_⟩;refine⟨_,rfl,p,dx,_,_,rfl,r _ _ t,(by kernel_rfl),X,cx,_,_,rfl,r _ _ c1,(by kernel_rfl),fo,_,rfl,(c9.same r).get (w:=none) jr rfl,_,rfl,_,_,rfl,rfl,_,rfl,?_⟩;dsimp only;rw[nZ,show c.La (some k)=c.bit k from rfl,j8 o];by_cases hns:c.has (c.LW none) k;rw[aq hns];refine gY ⟨_,rfl,p,dx,_,rfl,r _ _ t,(by kernel_rfl),_,rfl,G,p,X,le,fl,c,L,O,_,v,none,k,rfl,cv,cp,I,jr,rfl,hv,o,(eD.LY.mp hns).2,CN o,?_⟩;intro G' H' O' L' j e gw hl B hx S hm aa;refine q G' H' O' L' j e (GW.trans gw) hl B hx S ?_ aa;have Y:e.1=0 ||| c.bit k:=hm;rw[Y,Nat.zero_or];exact a8 _ ((eD.Lj o).mpr rfl) λj S=>.inl ((eD.Lj o).mp S);rw[au hns];refine fz ?_;have b9:c.LW (some k) &&& (g.sd.picked ||| c.bit k)<2^c.n:=oe (c.L0 _);have dd:=M.chart;obtain⟨gx,gb,ct,b7,dy,ea,ds,eb,dn,d1,d2,d3,d4,d5,d6⟩:=dd.ex;refine⟨_,rfl,p,dx,_,V.ref X,rfl,r _ _ t,(by kernel_rfl),X,gx,_,rfl,g7.ins d1,(by kernel_rfl),_,rfl,p,dx,_,_,rfl,r _ _ t,(by kernel_rfl),X,cx,_,_,rfl,r _ _ c1,(by kernel_rfl),_,rfl,fo,_,rfl,(c9.same r).get (w:=some k) (gQ o) (fj.same r bd),_,rfl,sa,sx,_,V.int (g.sd.picked:Nat),rfl,r _ _ an,(by kernel_rfl),_,rfl,_,_,rfl,rfl,_,_,rfl,rfl,?_⟩;dsimp only;rw[xC,nZ];refine⟨G,X,gx,b7,_,c,_,rfl,g7,g7.ins d1,(by kernel_rfl),d5,M.n,b9,λl xs H8 s8 dl ad ba cy=>?_⟩;have d:=r.trans s8;have g8:eL G H8:=M.gh.trans d.toF;have be:=M.same d;have as:=hL.same d;have a5:=iU.same (O:=O) M.gh d;refine⟨_,rfl,_,.inl ⟨xs,ff.of ad,rfl⟩,?_⟩;have lx:=Paired.length ba;cases hxs:c.listed (c.LW (some k) &&& (g.sd.picked ||| c.bit k)) with
 |nil=>
  rw[hxs]at lx;have:xs=[]:=bO.mp lx;subst this;refine gY ?_;have a1:∀j,c.foe k j->(j=k\/c.has g.sd.picked j)->j∈c.ks->False:=λj h1 h2 h3=>by have:j∈c.listed (c.LW (some k) &&& (g.sd.picked ||| c.bit k)):=eD.Lf.mpr (eD.Lh.mpr ⟨eD.LZ.mpr ⟨h3,h1⟩,eD.Lg.mpr (h2.elim (λz=>.inr ((eD.Lj o).mpr z)) .inl)⟩);rw[hxs]at this;cases this
  have cs:c.Lz L g.sd.picked k:=by rcases (bm g bq).just k bl with z|z|⟨j,z1,z2⟩|z;exact absurd (eD.LY.mpr ⟨o,z⟩) hns;exact(a1 k z (.inl rfl) o).elim;exact(a1 j z2 (.inr z1) z1.1).elim;exact z
  obtain⟨b8,ma,re,pm,pp,dv,rs,Ol,hO,cn,b5⟩:=id hL.ex;refine⟨_,rfl,p,dx,_,V.ref le,rfl,d _ _ t,(by kernel_rfl),le,b8,_,rfl,d _ _ (M.gh.ins cn),(by kernel_rfl),_,rfl,_,rfl,sa,sx,_,V.int (g.sd.picked:Nat),rfl,d _ _ an,(by kernel_rfl),G,le,X,c,L,O,v,k,g.sd.picked,rfl,g8,M.chart,as,fj.same d bd,o,λH' j e s' S he=>?_,λb6=>?_⟩;refine q G H' O L j e (a5.trans (iU.same g8 s')) (as.same s') I ⟨[],by simp⟩ S ?_ .inl;have h1:c.has (iD e.1 g.sd.picked) k:=by rw[he];exact(eD.Lj o).mpr rfl
  refine a8 _ (eD.Li.mp h1).1 λj' c0=>?_;by_cases ap:c.has g.sd.picked j';exact .inr ap;have:c.has (iD e.1 g.sd.picked) j':=eD.Li.mpr ⟨c0,ap⟩;rw[he]at this;exact .inl ((eD.Lj o).mp this);obtain⟨e,he,h1,h2⟩:=cs;exact absurd (vO o (I.lt e he) h1 h2 ((bm g bq).off k bl)) (b6 e he h1)
 |cons j0 js=>
 rw[hxs]at lx;obtain⟨x0,xr,rfl⟩:∃x0 xr,xs=x0::xr:=by cases xs with|nil=>simp at lx|cons a b=>exact⟨a,b,rfl⟩
 rw[hxs]at ba;have a6:fj G x0 j0:=by cases ba with|cons h _=>exact h
 have b4:j0∈c.listed (c.LW (some k) &&& (g.sd.picked ||| c.bit k)):=by rw[hxs];exact bC
 obtain⟨cd,ap⟩:=eD.Lh.mp (eD.Lf.mp b4);obtain⟨U,bv⟩:=eD.LZ.mp cd;have a3:j0=k\/c.has g.sd.picked j0:=(eD.Lg.mp ap).elim .inr λz=>.inl ((eD.Lj o).mp z);have Z:j0.1=k.1->j0=k:=λe=>a3.resolve_right λz=>co ⟨j0,z,e⟩;have a2:JL c FF k (c.bit j0 ||| c.bit k):=a8 _ (eD.Lg.mpr (.inr ((eD.Lj o).mpr rfl))) λj S=>(eD.Lg.mp S).elim (λz=>by rw[(eD.Lj U).mp z];exact a3) λz=>.inl ((eD.Lj o).mp z);refine fz ?_;refine⟨_,rfl,p,dx,_,_,rfl,d _ _ t,(by kernel_rfl),X,cx,_,_,rfl,d _ _ c1,(by kernel_rfl),_,rfl,l,_,_,x0,rfl,rfl,ff.of ad,nh,sh,_,rfl,(c8.same d).get (w:=some j0) (gQ U) (fj.f g8 a6),_,rfl,_,_,rfl,rfl,_,rfl,?_⟩;dsimp only;rw[nZ,j8 o];by_cases hsj:c.has (c.LV (some j0)) k;rw[aq hsj];refine gY ⟨_,rfl,p,dx,_,rfl,d _ _ t,(by kernel_rfl),_,rfl,l,_,_,x0,rfl,rfl,ff.of ad,nh,_,rfl,G,p,X,le,fl,c,L,O,_,v,some j0,k,rfl,be,as,I,gQ U,a6,hv,o,(eD.LY.mp hsj).2,xa U o Z,?_⟩;intro G' H' O' L' j e gw hl B hx S hm aa;refine q G' H' O' L' j e (a5.trans gw) hl B hx S ?_ aa;have Y:e.1=c.bit j0 ||| c.bit k:=hm;rw[Y];exact a2;rw[au hsj];refine fz ⟨_,rfl,p,dx,_,rfl,d _ _ t,(by kernel_rfl),_,rfl,_,rfl,l,_,_,x0,rfl,rfl,ff.of ad,nh,G,p,X,le,fl,c,L,O,v,x0,some k,j0,rfl,be,as,I,gQ o,hv,a6,U,?_,xa o U (λe=>(Z e.symm).symm),?_⟩;rcases bv with z|z;exact z;exact absurd (eD.LY.mpr ⟨o,z⟩) hsj;intro G' H' O' L' j e gw hl B hx S hm aa;refine q G' H' O' L' j e (a5.trans gw) hl B hx S ?_ aa;have Y:e.1=c.bit k ||| c.bit j0:=hm;rw[Y,Nat.or_comm];exact a2
end
def HI (c:eD)(L:iA)(kvs:ef (gM×V)):el (Pk×Nat×Nat)->Prop
 |none=>kvs=[]
 |some (k0,j0,m0)=>k0∈c.ks/\kvs=[(Sum.inl (c.bit k0:Int),V.int (j0:Nat))]/\∃e,L[j0]?=some e/\e.1=m0
def JD (c:eD)(fk:Fk)(kn:el (Pk×Nat×Nat))(m:Nat):Prop:=∀j,c.has m j->c.has fk.sd.picked j\/∃k0 j0 m0,kn=some (k0,j0,m0)/\c.has m0 j/\j≠k0
inductive xG (CB CC CL CS CF CT:dY)(vs:ef V)(H:Hp)(Q:VK)(E:XK):Prop
 |mk (G:Hp)(p ch le fl:dY)(c:eD)(L:iA)(O:ef dY)(A:ef (dY×dY))(F:ef Fk)(i:Nat)(a:dY×dY)(fk:Fk)(kd:dY)(kvs:ef (gM×V))(kn:el (Pk×Nat×Nat))(_:vs=[.ref p,.ref a.1,.ref kd])(_:Se CB CC CS G H p ch le fl c)(_:gK CL G H le ch c L O)(_:ib c L)(_:jm CF CT G H c fl A F)(_:zf O fl A)(_:qu c F)(_:∀f∈F,i4 c L f.sd)(_:F.length<=64)(_:A[i]?=some a)(_:F[i]?=some fk)(_:fk.part∈fk.sd.wanted.map (·.1))(_:Rd H kd (.dK kvs))(_:kd∉O)(_:HI c L kvs kn)(_:∀k∈c.ks,k.1=fk.part->c.has fk.sd.dead k\/∃j0 m0,kn=some (k,j0,m0))(_:∀m,JD c fk kn m->c.Ly m)(_:BP CL G H O le ch c L (JD c fk kn) Q)
theorem EV {c:eD}{L:iA}{kvs:ef (gM×V)}{kn:el (Pk×Nat×Nat)}(h:HI c L kvs kn){k:Pk}(a:k∈c.ks):(fc kvs (Sum.inl (c.bit k:Int))=none/\∀j0 m0,kn≠some (k,j0,m0))\/∃(j0 m0:Nat) (e:Nat×Rs),kn=some (k,j0,m0)/\fc kvs (Sum.inl (c.bit k:Int))=some (.int (j0:Nat))/\L[j0]?=some e/\e.1=m0:=by
 match kn,h with
 |none,h=>exact .inl ⟨by rw[show kvs=[] from h];rfl,λ_ _ z=>nomatch z⟩
 |some (k0,j0,m0),⟨h1,h2,e,h3,h4⟩=>
  by_cases z:k=k0;subst z;refine .inr ⟨j0,m0,e,rfl,?_,h3,h4⟩;rw[h2];exact gR rfl;refine .inl ⟨?_,λ_ _ y=>z (by cases y;rfl)⟩;rw[h2];unfold fc;rw[bu,au];rfl;intro y;have d:=Sum.inl.inj y;have:c.bit k0=c.bit k:=by lia
  refine z ?_;have b:c.has (c.bit k0) k:=by rw[this];exact(eD.Lj a).mpr rfl
  exact(eD.Lj h1).mp b
def xc {α:Type} [DecidableEq α] {β:Type}{f:β->α}{l:ef β}{x:α}(h:x∈l.map f):∃y,l[(l.map f).idxOf x]?=some y/\f y=x:=by have a:=bF.mpr h;have b:=cm a;rw[List.getElem_map]at b;exact⟨_,ak _,b⟩
section
variable {base:Heap}{f:dY}
def lE:eQ ["self","fork","known","who","place","need","mask","below","version","pick","bit","at"] ["self","fork","known"] (eK zS):=iW
theorem CO (F:iE K "shut" "Search.shut" zS f fd)(T:t9 K mg CS)(S:TC K mg CC)(ev:TL K mg CL)(f0:TB K mg CB)(TT:Dw K mg CT)(TF:BN K mg CF)(MN:Mt P w K mg base CS fC 1 "place_of_need" ["self","who","part"] (pf CB CC CS))(MM:Mt P w K mg base CB fC 2 "meeting" ["self","need"] (kJ CB))(MA:Mt P w K mg base CS fC 4 "line_against" ["self","pick"] (qp CB CC CL CS CF CT))(MP:Mt P w K mg base CL fC 2 "put_down" ["self","mask","reason"] (Du CB CC CL)):fB P w K mg base fC 5 f fd ["self","fork","known"] (xG CB CC CL CS CF CT):=by
 refine F.ok lE λk9 A h4 s H vs Q E hr h=>?_;obtain⟨G,p,ch,le,fl,c,L,O,AA,FF,i,a,d,kd,as,kn,rfl,M,hL,fa,hF,b3,ea,f2,i2,eq,da,d9,hn,f1,h8,b4,ep,q⟩:=h;have hu:=gH hr;refine⟨_,(et (eO (i:=3) lE.nd (hJ hu (eT TT.cl TT.nWa (eT TF.cl TF.nSt (pv 1))) (eT TF.cl TF.nPa (pv 1)))) (et (eO (i:=4) lE.nd (iq MN (hr.mono (by decide)) fN (pv 0) (eo (pv 3) (eo (eT TF.cl TF.nPa (pv 1)) eA)))) (et (eO (i:=5) lE.nd (eP fw (fg hu (eT f0.cl f0.nN (eT S.cl S.nBoard (eT T.cl T.nCh (pv 0)))) (pv 3)) (pv 4))) (et (eO (i:=6) lE.nd (fg hu (eT S.cl S.nBits (eT T.cl T.nCh (pv 0))) (pv 3))) (et (eO (i:=7) lE.nd (gy eA)) (et (fO (fL (iq MM (hr.mono (by decide)) fN (eT S.cl S.nBoard (eT T.cl T.nCh (pv 0))) (eo (pv 5) eA))) (eR (i:=8) lE.nd) (et (eO (i:=9) lE.nd (gL (eo (eT TF.cl TF.nPa (pv 1)) (eo (pv 8) eA)))) (et (eO (i:=10) lE.nd (fg hu (eT S.cl S.nBits (eT T.cl T.nCh (pv 0))) (pv 9))) (et (eO (i:=11) lE.nd (At (gN (nH hu (pv 10) (pv 2))) (hJ hu (pv 2) (pv 10)) (iq MA hr fN (pv 0) (eo (pv 9) eA)))) (et (gF (jL PySem.F.plainAttrs_list PySem.F.slot_list_append PySem.F.type_list_append hZ (pv 7) (eo (pv 11) eA))) (eE (kP (i:=6) lE.nd (fh im (eP fw (eT ev.cl ev.nMa (eT T.cl T.nLe (pv 0))) (pv 11)) (ja lC (pv 10))) uA))))))) (eE (eU (iq MP (hr.mono (by decide)) fN (eT T.cl T.nLe (pv 0)) (eo (pv 6) (eo (gL (eo iI (eo (pv 3) (eo (pv 4) (eo (pv 7) eA))))) eA))))))))))),?_⟩;obtain⟨dx,hp⟩:=M.self;have hy:=M.gh.ins hp;have ba:=ai da;have ek:=f2 d ba;obtain⟨⟨fx,hfa⟩,sx,wa,hsa,wo,wkvs,hwa,hwp⟩:nu CF CT G H c a d:=by obtain⟨h0,h1,h2⟩:=Paired.K8 hF.p eq;rw[da]at h1;cases h1;exact h2
 obtain⟨wv,u,e6,e8,ah⟩:=oG hwp d9;obtain⟨ka,fu,ft⟩:=ek.w1 d.part u e8;have I:c.Who u:=λk e=>by subst e;exact fu.1
 refine⟨_,rfl,a.1,fx,_,V.ref a.2,rfl,hfa,(by kernel_rfl),a.2,sx,_,V.ref wa,rfl,hsa,(by kernel_rfl),_,rfl,a.1,fx,_,V.str d.part,rfl,hfa,(by kernel_rfl),wa,_,rfl,.inl ⟨wkvs,Sum.inr d.part,.inr ⟨wo,M.gh.frz hwa⟩,rfl,e6.symm⟩,?_⟩;refine⟨_,rfl,p,dx,_,rfl,hy,(by kernel_rfl),_,rfl,_,rfl,a.1,fx,_,V.str d.part,rfl,hfa,(by kernel_rfl),G,p,ch,le,fl,c,wv,u,d.part,rfl,M,I,ah.f M.gh,ft,λH1 s1=>?_⟩;obtain⟨n,fp,gk⟩:=xc ft;generalize kp:((c.needs u).map (·.1)).idxOf d.part=pl at *;have g1:eL G H1:=M.gh.trans s1.toF;obtain⟨cx,b,bits,kl,k4,al,sh,fo,st,c1,c2,c3,c4,c5,c6,c7,c8,c9⟩:=(M.chart.f g1).ex;obtain⟨bx,dn,dv,gn,hd⟩:=jx c2 c3;obtain⟨na,g6,zs,hz,gb⟩:=hd u wv I (ah.f g1);have lz:=Paired.length gb;obtain⟨zv,h9,is⟩:=iu gb (show ij (c.needs u) (pl:Int)=some n by rw[ii];exact fp);have j1:uT zs (pl:Int)=some zv:=i8 h9;have cp:=g1.ins hp;refine⟨_,rfl,p,dx,_,_,rfl,cp,(by kernel_rfl),ch,cx,_,_,rfl,c1,(by kernel_rfl),b,bx,_,_,rfl,gn,fE _ _,_,rfl,dn,_,rfl,g6,_,rfl,na,_,_,zv,rfl,rfl,ff.of hz,j1,?_⟩;refine⟨_,rfl,p,dx,_,_,rfl,cp,(by kernel_rfl),ch,cx,_,_,rfl,c1,(by kernel_rfl),_,rfl,bits,_,rfl,c4.get I (ah.f g1),?_⟩;refine⟨u6,λg J=>?_⟩;have s2:=eJ J (.lst []);have b7:upd H1 g (.lst []) g=some (.lst []):=er;generalize upd H1 g (.lst [])=H2 at *;have eb:=s1.trans s2;have g2:eL G H2:=M.gh.trans eb.toF;refine⟨_,rfl,p,dx,_,_,rfl,s2 _ _ cp,(by kernel_rfl),ch,cx,_,V.ref b,rfl,s2 _ _ c1,(by kernel_rfl),b,bx,_,rfl,s2 _ _ gn,qi _ _ (by decide +kernel) (by decide +kernel),_,rfl,b,st,c.es,_,n,rfl,c2.same s2,fH.same s2 is,by rw[<-c.n_eq];exact M.n,λl ms H3 s3 hl go gx jn=>?_⟩;have gd:=mW gx jn;subst gd;have N:H g=none:=s1.free J;have eh:=eb.trans s3;have ga:l≠g:=λz=>by rw[z,b7]at hl;cases hl
 have hg:l∉O:=λz=>by obtain⟨v,hv⟩:=hL.liv l z;rw[eb _ _ hv]at hl;cases hl
 have f6:g∉O:=λz=>by obtain⟨v,hv⟩:=hL.liv g z;rw[N]at hv;cases hv
 refine⟨l,rfl,⟨_,ff.of go⟩,?_⟩;refine fW (K:=K) (a:=l) (xs:=(jz c.es n).map V.int) (λt σ H4=>∃(G':Hp) (O':ef dY) (L':iA) (bs:ef Nat) (m:Nat) (o8 o9 cv cy:el V),σ=[some (.ref p),some (.ref a.1),some (.ref kd),some wv,some (.int (pl:Nat)),some zv,some (.int (m:Nat)),some (.ref g),o8,o9,cv,cy]/\iU G H O G' H4 O'/\gK CL G' H4 le ch c L' O'/\ib c L'/\(∃X,L'=L++X)/\(NZ L->NZ L')/\jm CF CT G' H4 c fl AA FF/\zf O' fl AA/\H4 g=some (.lst (ia bs))/\g∉O'/\G' g=none/\H4 l=some (.lst ((jz c.es n).map V.int))/\l∉O'/\Rd H4 kd (.dK as)/\kd∉O'/\bs.length=t/\(∀(j b:Nat) (v:Int),bs[j]?=some b->(jz c.es n)[j]?=some v->∃e,L'[b]?=some e/\∀x,c.has e.1 x->x=(n.1,v)\/c.has m x)/\m<2^c.n/\JD c d kn m/\c.Lx m u) ?_ ((by rintro t σ H4 _ ⟨_,_,_,_,_,_,_,_,_,_,_,_,_,_,_,_,_,_,_,_,e,_⟩;exact ff.of e)) ?_ ?_;have GW:=iU.same (O:=O) M.gh eh;have bq:∀j,c.has (c.La u) j->c.has d.sd.picked j:=λj hj=>by have:=(eD.Ma I).mp hj;subst this;exact fu
 refine⟨G,O,L,[],c.La u,none,none,none,none,rfl,GW,hL.same eh,fa,⟨[],by simp⟩,id,hF.grow GW b3,b3,s3 _ _ b7,f6,M.gh.free N,go,hg,iB eh hn,f1,rfl,λj b v h=>by simp at h,eD.L7 I,λj hj=>.inl (bq j hj),?_⟩;cases u with|none=>trivial|some k=>exact(eD.Ma I).mpr rfl
 rintro t x σ H4 ht ⟨G4,O4,L4,bs,m,o8,o9,cv,cy,rfl,gw,a3,r,a1,ag,ct,B,R,aa,a5,e1,ec,cn,a8,J,co,an,bd,cz⟩;rw[ae]at ht;obtain⟨v,hv,rfl⟩:=ax.mp ht;have g7:=ai hv;obtain⟨⟨fx4,hfa4⟩,hst4⟩:nu CF CT G4 H4 c a d:=by obtain⟨h0,h1,h2⟩:=Paired.K8 ct.p eq;rw[da]at h1;cases h1;exact h2
 have hk:(d.part,v)∈c.ks:=(c.mem _).mpr (by rw[<-gk];exact(sT.mp g7).1);refine⟨_,rfl,a.1,fx4,_,V.str d.part,rfl,hfa4,(by kernel_rfl),_,rfl,qK,λtp be=>?_⟩;have em:g≠tp:=eG R be;have b2:=gw.trans (iU.put (O:=O4) (u:=.tup [.str d.part,.int v]) gw.gh be);have b1:=a3.put gw.gh (u:=.tup [.str d.part,.int v]) be;have f4:=iU.put (O:=O4) (u:=.tup [.str d.part,.int v]) gw.gh be;have bm:=ct.grow f4 B;have dy:=eJ be (.tup [.str d.part,.int v]);have ez:fj (upd G4 tp (.tup [.str d.part,.int v])) (.ref tp) (d.part,v):=⟨tp,rfl,er⟩;have ew:upd G4 tp (.tup [.str d.part,.int v]) g=none:=by rw[eB em];exact a5
 generalize upd G4 tp (.tup [.str d.part,.int v])=G5 at *;generalize upd H4 tp (.tup [.str d.part,.int v])=H5 at *;have a0:Se CB CC CS G5 H5 p ch le fl c:=M.grow b2.gg b2.gh;have e7:=a0.gh.ins (b2.gg.ins hp);obtain⟨ho,b5,dd,ko,kt,k3,la,kq,kj,d1,d2,d3,d4,d5,d6⟩:=(a0.chart.f a0.gh).ex;refine⟨_,rfl,p,dx,_,_,rfl,e7,(by kernel_rfl),ch,ho,_,_,rfl,d1,(by kernel_rfl),_,rfl,dd,_,rfl,d4.get (w:=some (d.part,v)) (gQ hk) (fj.f a0.gh ez),?_⟩;have e5:∀f∈FF,i4 c L4 f.sd:=λf hf=>(f2 f hf).led λe he=>by obtain⟨X,hX⟩:=a1;rw[hX];exact aO _ he
 have a9:=a8;have d8:Rd H5 kd (.dK as):=iB dy cn;have bf:=dy _ _ R;have ey:=dy _ _ e1;have key:∀(Q':VK) (σ:Lake.St),σ[0]?=some (some (.ref p))->σ[2]?=some (some (.ref kd))->σ[9]?=some (some (.ref tp))->σ[10]?=some (some (.int (c.La (some (d.part,v)):Nat)))->
   (∀(G' H':Hp) (O':ef dY) (L':iA) (j:Nat) (e:Nat×Rs),iU G5 H5 O4 G' H' O'->gK CL G' H' le ch c L' O'->ib c L'->(∃X,L'=L4++X)->L'[j]?=some e->(∀x,c.has e.1 x->x=(d.part,v)\/c.has d.sd.picked x\/∃k0 j0 m0,kn=some (k0,j0,m0)/\c.has m0 x/\x≠k0)->(NZ L4->NZ L')->Q' (.int (j:Nat)) H')->
   JY (tB (Gr (oA 10) (oA 2))) (DL (oA 2) (oA 10)) (uc CS ("line_against":Str) (qp CB CC CL CS CF CT) [] E0 (oA 0) (qO (oA 9) xU)) σ H5 Q':=by
  intro Q' σ e0 e2 e9 e4 hq;have d7:iP H5 kd (.int (c.La (some (d.part,v)):Nat)) (fc as (Sum.inl (c.bit (d.part,v):Int))):=.inl ⟨as,Sum.inl (c.bit (d.part,v):Int),d8,rfl,rfl⟩;refine⟨_,e4,_,e2,kd,_,rfl,d7,_,rfl,?_⟩;rcases EV h8 hk with ⟨z1,z2⟩|⟨j0,m0,e,z1,z2,z3,z4⟩;rw[z1];refine fz ⟨_,e0,p,dx,_,rfl,e7,(by kernel_rfl),_,e9,G5,p,ch,le,fl,c,L4,O4,AA,FF,.ref tp,(d.part,v),rfl,a0,b1,r,bm,ez,hk,ea,e5,⟨d,ba,(b4 _ hk rfl).resolve_right (by rintro⟨j0,m0,z⟩;exact z2 j0 m0 z),ka⟩,i2,?_⟩;intro G' H' O' L' j e iv kb ds j2 h5 b6 fv;refine hq G' H' O' L' j e iv kb ds j2 h5 (λx U=>?_) (λz=>?_);exact(b6.2 d ba ((b4 _ hk rfl).resolve_right (by rintro⟨j0,m0,z⟩;exact z2 j0 m0 z)) x U).imp id .inl;rcases fv z with y|⟨y,_⟩;exact y;have:=b6.1;rw[y]at this;exact(eD.Lk this).elim;rw[z2]at d7 ⊢;refine gY ⟨_,e2,_,e4,kd,_,rfl,d7,?_⟩;obtain⟨X,hX⟩:=a1;have js:L4[j0]?=some e:=by rw[hX,aQ (af.mp z3).1];exact z3
  refine hq G5 H5 O4 L4 j0 e (iU.refl a0.gh) b1 r ⟨[],by simp⟩ js (λx U=>?_) id;by_cases y:x=(d.part,v);exact .inl y;exact .inr (.inr ⟨_,j0,m0,z1,by rw[<-z4];exact U,y⟩)
 refine key _ _ rfl rfl rfl rfl λG6 H6 O6 L6 j e D a6 a4 eu cs c0 e3=>?_;have dp:=b2.trans D;have kv:=dp.gh.ins (dp.gg.ins hp);have ap:H6 g=some (.lst (ia bs)):=D.keep aa bf λz=>z;have b9:=D.out aa bf;have b8:=D.off ew bf;have hs:=D.keep ec ey λz=>z;have hc:=D.out ec ey;have kf:bs.length<64:=by have h1:=(af.mp hv).1;have h2:=lM c.es n;have h3:=M.n;rw[c.n_eq]at h3;lia
 refine⟨_,rfl,.inl ⟨rfl,_,ff.of ap⟩,_,rfl,g,_,_,rfl,rfl,ap,(by unfold ia;rw[ab];exact eY (by lia)),?_⟩;have Z:∀b,b≠g->upd H6 g (.lst (ia bs++[.int (j:Nat)])) b=H6 b:=λb hb=>eB hb;have ej:upd H6 g (.lst (ia bs++[.int (j:Nat)])) g=some (.lst (ia (bs++[j]))):=by rw[er];unfold ia;rw[aG];rfl
 have bv:=dp.own (u:=.lst (ia bs++[.int (j:Nat)])) N b8;generalize upd H6 g (.lst (ia bs++[.int (j:Nat)]))=H7 at *;have f5:gK CL G6 H7 le ch c L6 O6:=a6.grow (eL.refl _) a6.off λx U=>Z x λz=>b9 (z▸U);obtain⟨hi,f8,k8,k5,kw,kh,kk,kx,ky,f3,f7,gp⟩:=id f5.ex;have ih:(L6.map (·.1))[j]?=some e.1:=by rw[ae,cs];rfl
 have g3:=bv.gh.ins (bv.gg.ins hp);refine⟨_,rfl,_,rfl,p,dx,_,V.ref le,rfl,g3,(by kernel_rfl),le,hi,_,V.ref f8,rfl,bv.gh.ins f3,(by kernel_rfl),_,rfl,f8,_,_,_,rfl,rfl,ff.of f7,kF ih,_,rfl,_,rfl,_,_,rfl,rfl,_,_,rfl,rfl,?_⟩;dsimp only;rw[qH,xC,show c.La (some (d.part,v))=c.bit (d.part,v) from rfl];have fy:e.1<2^c.n:=a4.lt e (ai cs);have hm:∃X,L6=L++X:=by obtain⟨X,hX⟩:=a1;obtain⟨Y,hY⟩:=eu;exact⟨X++Y,by rw[hY,hX,bP]⟩
 have a2:=bm.grow D B;have dc:=zf.grow bm D B;have ad:∀{x C dx fs},H6 x=some (.ins C dx fs)->x≠g:=λ{x C dx fs} h=>fF h ap λz=>nomatch z;have g0:jm CF CT G6 H7 c fl AA FF:=by
  have ha:fl≠g:=λz=>by have:=D.keep B.1 bm.l λz=>z;have cd:=hF.l;rw[z,N]at cd;cases cd
  refine⟨by rw[Z fl ha];exact a2.l,?_,a2.offl,a2.off,a2.nd1,a2.nd2⟩;refine Paired.KG a2.p (by rintro x y ⟨⟨d1,z1⟩,d2,w2,z2,z3⟩;exact⟨⟨d1,by rw[Z _ (ad z1)];exact z1⟩,d2,w2,by rw[Z _ (ad z2)];exact z2,z3⟩)
 have f9:kd∉O6:=λz=>by rcases D.on kd z with y|y;exact a9 y;rcases d8 with h|⟨o,h⟩ <;> (rw[y]at h;cases h)
 have hw:Rd H7 kd (.dK as):=by
  have k6:Rd H6 kd (.dK as):=D.fr.rd (d8.imp (λh=>by rw[eM a9];exact h) (by rintro⟨o,h⟩;exact⟨o,by rw[eM a9];exact h⟩));have ei:kd≠g:=λz=>by rw[z]at k6;rcases k6 with h|⟨o,h⟩ <;> (rw[ap]at h;cases h)
  exact k6.imp (λh=>by rw[Z kd ei];exact h) (by rintro⟨o,h⟩;exact⟨o,by rw[Z kd ei];exact h⟩)
 refine⟨G6,O6,L6,bs++[j],m ||| iD e.1 (c.bit (d.part,v)),some (.int v),some (.ref tp),some (.int (c.bit (d.part,v):Nat)),some (.int (j:Nat)),rfl,bv,f5,a4,hm,λz=>e3 (ag z),g0,dc,ej,b9,b8,by rw[Z l ga];exact hs,hc,hw,f9,by rw[aD,J];rfl,λj' b' v' h1 h2=>?_,jv an (jQ fy),λx U=>?_,?_⟩;by_cases hjt:j'<bs.length;rw[aQ hjt]at h1;obtain⟨e',z1,z2⟩:=co j' b' v' h1 h2;obtain⟨Y,hY⟩:=eu;refine⟨e',by rw[hY,aQ (af.mp z1).1];exact z1,λx U=>(z2 x U).imp id λz=>eD.Lg.mpr (.inl z)⟩;have h7:j'=bs.length:=by have:=(af.mp h1).1;rw[aD,aP]at this;lia
 subst h7;rw[bh (am _),bW]at h1;have i0:j=b':=by simpa using h1
 subst i0;rw[J,hv]at h2;cases h2;refine⟨e,cs,λx U=>?_⟩;by_cases y:x=(d.part,v);exact .inl (by rw[gk];exact y);exact .inr (eD.Lg.mpr (.inr (eD.Li.mpr ⟨U,λz=>y ((eD.Lj hk).mp z)⟩)));rcases eD.Lg.mp U with z|z;exact bd x z;obtain⟨z1,z2⟩:=eD.Li.mp z;exact(c0 x z1).resolve_left λy=>z2 ((eD.Lj hk).mpr y);cases u with|none=>trivial|some k=>exact eD.Lg.mpr (.inl cz)
 rintro σ H4 ⟨G4,O4,L4,bs,m,o8,o9,cv,cy,rfl,gw,a3,r,a1,ag,ct,B,R,aa,a5,e1,ec,cn,a8,J,co,an,bd,cz⟩;rw[ab]at J;obtain⟨g8,ma,re,pm,pp,k2,rs,Ol,hO,i1,g5⟩:=id a3.ex;have gt:=gw.gh.ins (gw.gg.ins hp);refine⟨_,rfl,p,dx,_,V.ref le,rfl,gt,(by kernel_rfl),le,g8,_,rfl,gw.gh.ins i1,(by kernel_rfl),_,rfl,_,rfl,_,rfl,_,rfl,Ge,λt ht=>?_⟩;have i3:g≠t:=eG R ht;have k7:H t=none:=gw.lv t ht;have k1:G4 t=none:=gw.gh.free ht;have ed:iU G H O (upd G4 g (.lst (ia bs))) H4 O4:=gw.base M.gh N R;have a7:=ed.trans (iU.put (u:=.tup [.str ("open":Str),wv,.int (pl:Nat),.ref g]) ed.gh ht);have b1:gK CL (upd G4 g (.lst (ia bs))) H4 le ch c L4 O4:=a3.grow ((eL.refl _).upd a5) (λx U=>by rw[eB (λz:x=g=>aa (z▸U))];exact a3.off x U) λ_ _=>rfl;have a6:=b1.put ed.gh (u:=.tup [.str ("open":Str),wv,.int (pl:Nat),.ref g]) ht;have hR:mJ (upd (upd G4 g (.lst (ia bs))) t (.tup [.str ("open":Str),wv,.int (pl:Nat),.ref g])) (.ref t) ⟨u,(pl:Nat),.many (bs.map λb:Nat=>(b:Int))⟩:=by refine⟨t,wv,.ref g,rfl,er,ah.f a7.gg,g,rfl,?_⟩;rw[eB i3,er,cC];rfl
 have hh:=M.chart.f a7.gg;generalize upd (upd G4 g (.lst (ia bs))) t (.tup [.str ("open":Str),wv,.int (pl:Nat),.ref g])=G6 at *;generalize upd H4 t (.tup [.str ("open":Str),wv,.int (pl:Nat),.ref g])=H6 at *;refine⟨G6,le,ch,c,L4,O4,m,_,_,rfl,a7.gh,hh,a6,hR,an,M.n,M.sm L4 r,λj hj=>?_,λdl H9 O9 g9 it=>?_⟩;obtain⟨e,g4,kc⟩:=qR hj;exact q G6 H6 O4 L4 j e a7 a6 r a1 g4 (by rw[kc];exact bd) λz=>.inl (ag z);obtain⟨X,hX⟩:=a1;refine q G6 H9 O9 _ L4.length (m,⟨u,(pl:Nat),.many (bs.map λb:Nat=>(b:Int))⟩) (a7.trans g9) it (r.add an (ep m bd) (nF.mp dl) ?_) ⟨X++[(m,⟨u,(pl:Nat),.many (bs.map λb:Nat=>(b:Int))⟩)],by rw[hX,bP]⟩ ?_ bd λh6=>?_;exact ya cz fp J co;rw[bh (am _),bW];rfl;by_cases bq:m=0;exact .inr ⟨bq,by rw[List.getLast?_append];rfl⟩;refine .inl λx U=>?_;rcases aA.mp U with z|z;exact ag h6 x z;rw[aj.mp z];exact bq
end
theorem oW {α:Type}{l:ef α}{x:α}(h:l[l.length-1]?=some x):uT l (-1)=some x:=by
 have a:=(af.mp h).1;unfold uT E6;rw[av (by decide)];have:(((-1:Int)+(l.length:Int)).toNat)=l.length-1:=by lia
 first
 |(rw[ay (by lia)];simp only[Option.bind_some];rw[this];exact h)
 |(rw[ay (by lia)];show l[_]?=some x;rw[show((l.length:Int)+-1).toNat=l.length-1 by lia];exact h)
inductive xJ (CB CC CL CS CF CT:dY)(vs:ef V)(H:Hp)(Q:VK)(E:XK):Prop
 |mk (G:Hp)(p ch le fl:dY)(c:eD)(L:iA)(O:ef dY)(A:ef (dY×dY))(F:ef Fk)(k:Pk)(j:Nat)(e:Nat×Rs)(_:vs=[.ref p,.int (c.bit k:Nat),.int (j:Nat)])(_:Se CB CC CS G H p ch le fl c)(_:gK CL G H le ch c L O)(_:jm CF CT G H c fl A F)(_:L[j]?=some e)(_:F.length<=64)(_:∀H',eN (del H (A.map (·.2))) H'->jm CF CT G H' c fl A (F.map (c.LE k e.1))->Q .non H')
def Ce (a b d w:V):gz ("dead":Str) d (zj a b w)=zj a d w:=by kernel_rfl
theorem Bg {α:Type}{t i:Nat}(h:¬t=i)(x y:α):(if t<i+1 then x else y)=if t<i then x else y:=by by_cases z:t<i;rw[ay z,ay (by lia)];rw[av z,av (by lia)]
def Hl:(["fork"]:ef Str).Nodup:=by decide +kernel
def zH {a b dx dy:dY}{x s t y z w:V}(d:H a=some (.ins CF dx (uF x s t)))(g:H b=some (.ins CT dy (zj y z w))):a≠b:=by
 refine fF d g λe=>?_;injection e with _ _ e
 injection e with e _
 injection e with e _
 exact absurd e (by decide +kernel)
section
variable {base:Heap}{f:dY}
def Ep:eQ ["self","bit","place","others","stand"] ["self","bit","place"] (eK zU):=iW
theorem CU (F:iE K "mark_dead" "Search.mark_dead" zU f fd)(T:t9 K mg CS)(an:TL K mg CL)(TT:Dw K mg CT)(TF:BN K mg CF):fB P w K mg base fC 1 f fd ["self","bit","place"] (xJ CB CC CL CS CF CT):=by
 refine F.ok Ep λa8 A a5 s H vs Q E hr h=>?_;obtain⟨G,p,ch,le,fl,c,L,O,m,FF,k,j,e,rfl,hS,hL,I,hj,bd,q⟩:=h;have hu:=gH hr;refine⟨_,(et (eO (i:=3) Ep.nd (fh im (eP fw (eT an.cl an.nMa (eT T.cl T.nLe (pv 0))) (pv 2)) (ja lC (pv 1)))) (eE (fO (fL (i7 (N':=["fork"]) (n:=1) (js:=[]) rfl (iR.closed) (iC (by decide)) (fL (eT T.cl T.nFo (pv 0))) (λC s2 v fp=>eR (i:=0) Hl) (λC s2 v fp=>jY) (λC s2 v fp=>eT TF.cl TF.nSt (pv 0)))) (eR (i:=4) Ep.nd) (eE (fm (fD jM (fh im (pv 3) (ja lC (eT TT.cl TT.nPi (pv 4)))) eF (fQ _)) (eE (Cv TT.cl TT.nDe (pv 4) (pv 1) Bi)) eV))))),?_⟩;obtain⟨dx,hp⟩:=hS.self;have al:=hS.gh.ins hp;obtain⟨lx,ma,re,pm,pp,ba,rs,Ol,hO,a7,a4,a1⟩:=id hL.ex;have a2:(L.map (·.1))[j]?=some e.1:=by rw[ae,hj];rfl
 have lA:m.length=FF.length:=Paired.length I.p;refine⟨_,rfl,p,dx,_,V.ref le,rfl,al,(by kernel_rfl),le,lx,_,V.ref ma,rfl,hS.gh.ins a7,(by kernel_rfl),_,rfl,ma,_,_,_,rfl,rfl,ff.of a4,kF a2,_,rfl,_,rfl,_,_,rfl,rfl,?_⟩;dsimp only;rw[qH];refine⟨_,rfl,p,dx,_,V.ref fl,rfl,al,(by kernel_rfl),fl,rfl,⟨_,ff.of I.l⟩,?_⟩;refine iy (xs:=m.map λa=>V.ref a.1) (λD i ys H7=>H7 D=some (.lst ys)/\eN H H7/\H D=none/\ys=(m.take i).map λa=>V.ref a.2)
  (λD hD=>⟨er,eJ hD _,hD,by simp⟩) (λD i ys H7 hi ⟨e1,U,e3,e4⟩=>⟨ff.of (U _ _ I.l),e1,?_⟩) (λD i y ys H7 hi ⟨e1,U,e3,e4⟩=>?_) (λD ys H7 ⟨e1,U,e3,e4⟩=>?_)
 rw[ab]at hi;rw[e4,ab,aV];exact eY (by lia);rw[ae]at hi;obtain⟨a,J,rfl⟩:=ax.mp hi;obtain⟨d,R,⟨fx,N⟩,a9⟩:=Paired.K8 I.p J;unfold jw rL;dsimp only;rw[ay rfl];refine⟨_,rfl,a.1,fx,_,V.ref a.2,rfl,U _ _ N,(by kernel_rfl),e1,er,eN.upd U e3,e3,?_⟩;rw[e4,fV J,aG];rfl;rw[ab,aK]at e4;subst e4;refine⟨D,rfl,⟨_,ff.of e1⟩,?_⟩;have a3:∀(t:Nat) (a:dY×dY) (d:Fk),m[t]?=some a->FF[t]?=some d->nu CF CT G H c a d:=λt a d B o=>by obtain⟨M,z1,z2⟩:=Paired.K8 I.p B;rw[o]at z1;cases z1;exact z2
 have ag:∀{a},a∈m->a.2∈m.map (·.2):=λh=>bo h;have kp:∀{v:Hp},eN (del H (m.map (·.2))) v->∀{x u},H x=some u->x∉m.map (·.2)->v x=some u:=λ{v} Z {x u} h n=>Z _ _ (by rw[eM n];exact h);have X:∀{x},x∈m.map (·.2)->∃dy y z w,H x=some (.ins CT dy (zj y z w)):=λ{x} hx=>by obtain⟨a,J,rfl⟩:=aC.mp hx;obtain⟨t,S⟩:=aB.mp J;obtain⟨d,_,_,sx,wa,r,_⟩:=Paired.K8 I.p S;exact⟨_,_,_,_,r⟩
 have nD:D∉m.map (·.2):=λz=>by obtain⟨_,_,_,_,h⟩:=X z;rw[e3]at h;cases h
 refine fW (K:=K) (a:=D) (xs:=m.map λa=>V.ref a.2) (λi σ v=>∃o4,σ=[some (.ref p),some (.int (c.bit k:Nat)),some (.int (j:Nat)),some (.int (iD e.1 (c.bit k):Nat)),o4]/\eN (del H (m.map (·.2))) v/\v D=some (.lst (m.map λa=>V.ref a.2))/\∀(t:Nat) (a:dY×dY) (d:Fk),m[t]?=some a->FF[t]?=some d->nu CF CT G v c a (if t<i then c.LE k e.1 d else d))
  ⟨none,rfl,(fM _ _).trans U,e1,λt a d B o=>by rw[av (ca _)];obtain⟨⟨d1,z1⟩,d2,w2,z2,z3⟩:=a3 t a d B o;exact⟨⟨d1,U _ _ z1⟩,d2,w2,U _ _ z2,z3⟩⟩ ((by rintro i σ v _ ⟨_,_,_,e,_⟩;exact ff.of e)) ?_ ?_
 rintro i x σ v hi ⟨o4,rfl,Z,aa,g⟩;rw[ae]at hi;obtain⟨a,J,rfl⟩:=ax.mp hi;obtain⟨d,R,_⟩:=Paired.K8 I.p J;have Y:=g i a d J R;rw[av (cE _)]at Y;obtain⟨⟨fx,N⟩,sx,wa,r,a6⟩:=Y;refine⟨_,rfl,_,rfl,a.2,sx,_,V.int (d.sd.picked:Nat),rfl,r,(by kernel_rfl),_,rfl,_,_,rfl,rfl,rfl,_,rfl,?_⟩;have ah:decide (V.int (Builtin.bitAnd ((iD e.1 (c.bit k):Nat):Int) (Builtin.bitNot (d.sd.picked:Nat)))=V.int 0)=decide (iD (iD e.1 (c.bit k)) d.sd.picked=0):=by rw[qH];exact tE (b:=0)
 dsimp only;rw[ah];by_cases hd:iD (iD e.1 (c.bit k)) d.sd.picked=0;rw[aq hd];refine gY ⟨_,rfl,a.2,sx,_,V.int (d.sd.dead:Nat),rfl,r,(by kernel_rfl),_,rfl,_,_,rfl,rfl,sx,_,r,(by show 3<1000;decide),?_⟩;dsimp only;rw[xC,Ce];refine⟨_,rfl,λb u hb=>?_,?_,λt a' M B o=>?_⟩;have nb:b≠a.2:=λz=>by rw[z,gc (ag (ai J))]at hb;cases hb
 rw[eB nb];exact Z _ _ hb;rw[eB (λz:D=a.2=>nD (z▸ag (ai J)))];exact aa;by_cases S:t=i;subst S;rw[J]at B;rw[R]at o;cases B;cases o;rw[ay (dh _)];refine⟨⟨fx,by rw[eB (zH N r)];exact N⟩,sx,wa,?_,?_⟩;rw[er];show _=some (HO.ins CT sx (zj (.int ((c.LD k e.1 d.sd).picked:Nat)) (.int ((c.LD k e.1 d.sd).dead:Nat)) (.ref wa)));unfold eD.LD;rw[ay hd];show wD G wa (c.LD k e.1 d.sd).wanted;rw[eD.LG];exact a6;have ap:=g t a' M B o;rw[Bg S];obtain⟨⟨d1,z1⟩,d2,w2,z2,z3⟩:=ap;have na:a'.2≠a.2:=λz=>by
  have ad:(m.map (·.2))[t]?=some a'.2:=by rw[ae,B];rfl
  have as:(m.map (·.2))[i]?=some a.2:=by rw[ae,J];rfl
  rw[z]at ad;exact S ((cg (af.mp ad).1 I.nd2).mp (ad.trans as.symm))
 exact⟨⟨d1,by rw[eB (zH z1 r)];exact z1⟩,d2,w2,by rw[eB na];exact z2,z3⟩;rw[au hd];refine fz ⟨_,rfl,Z,aa,λt a' M B o=>?_⟩;by_cases S:t=i;subst S;have:=g t a' M B o;rw[R]at o;cases o;rw[av (cE _)]at this;rw[ay (dh _)];have eb:c.LE k e.1 d=d:=by unfold eD.LE eD.LD;rw[av hd]
 rw[eb];exact this;rw[Bg S];exact g t a' M B o;rintro σ v ⟨o4,rfl,Z,aa,g⟩;refine q v Z ⟨?_,?_,I.offl,I.off,I.nd1,I.nd2⟩;refine kp Z I.l λz=>?_;obtain⟨_,_,_,_,h⟩:=X z;rw[I.l]at h;cases h;refine kD (by rw[ab];exact lA) λt a d B o=>?_;rw[ae]at o;obtain⟨a0,h3,rfl⟩:=ax.mp o;have:=g t a a0 B h3;rw[ay (by rw[ab];exact(af.mp B).1)]at this;exact this
end
inductive tO (CB CC CL CS CF CT:dY)(vs:ef V)(H:Hp)(Q:VK)(E:XK):Prop
 |mk (G:Hp)(p ch le fl:dY)(c:eD)(L:iA)(O:ef dY)(A:ef (dY×dY))(F:ef Fk)(j:Nat)(e:Nat×Rs)(_:vs=[.ref p,.int (j:Nat)])(_:Se CB CC CS G H p ch le fl c)(_:gK CL G H le ch c L O)(_:jm CF CT G H c fl A F)(_:zf O fl A)(_:L[j]?=some e)(_:F.length<=64)(_:∀f∈F,∀k,f.bit=some k->k∈c.ks)(_:∀(n:Nat) (H':Hp),n<=F.length->(F.take n).reverse=F.reverse.dropWhile (λf=>!c.stop e.1 f)->eN (del H (fl::A.map (·.2))) H'->jm CF CT G H' c fl (A.take n) (c.MC e.1 (F.take n))->Q .non H')
def uj {α:Type}{l:ef α}{n:Nat}{x:α}(h:l[n]?=some x):(l.take (n+1)).reverse=x::(l.take n).reverse:=by rw[fV h,cF];rfl
theorem pO {α β:Type}{R:α->β->Prop}:∀{as:ef α} {bs:ef β} (n:Nat),Paired R as bs->Paired R (as.take n) (bs.take n)
 |_,_,0,_=>.nil
 |_,_,_+1,.nil=>.nil
 |_,_,n+1,.cons h r=>.cons h (pO n r)
def zF {c:eD}{f:Fk}(a:∀k,f.bit=some k->k∈c.ks):(((c.La f.bit &&& m:Nat):Int) != 0)=c.stop m f:=by unfold eD.stop;cases h:f.bit with|none=>show(((0 &&& m:Nat):Int) != 0)=false;rw[Nat.zero_and];rfl|some k=>show(((c.bit k &&& m:Nat):Int) != 0)=decide (c.has m k);rw[Nat.and_comm,j8 (a k h)]
section
variable {base:Heap}{f:dY}
def GP:eQ ["self","place","mask"] ["self","place"] (eK sr):=iW
theorem yt (F:iE K "go_back" "Search.go_back" sr f fd)(T:t9 K mg CS)(an:TL K mg CL)(TF:BN K mg CF)(MM:Mt P w K mg base CS fC 1 "mark_dead" ["self","bit","place"] (xJ CB CC CL CS CF CT)):fB P w K mg base fC 2 f fd ["self","place"] (tO CB CC CL CS CF CT):=by
 refine F.ok GP λa9 A a5 s H vs Q E hr h=>?_;obtain⟨G,p,ch,le,d,c,L,O,D,R,j,e,rfl,hS,hL,C,al,hj,be,ad,q⟩:=h;have hu:=gH hr;refine⟨_,(et (eO (i:=2) GP.nd (eP fw (eT an.cl an.nMa (eT T.cl T.nLe (pv 0))) (pv 1))) (et (jK PassesOwn.never (PW.pt (lH (iH (eT T.cl T.nFo (pv 0)) (λ_=>rfl)) (jX (gX (vz (fh im (eT TF.cl TF.nBi (eP fw (eT T.cl T.nFo (pv 0)) (ja jy eF))) (pv 2)) (λ_=>rfl)))))) (eE (gF (vB PySem.F.plainAttrs_list PySem.F.slot_list_pop PySem.F.type_list_pop vT (eT T.cl T.nFo (pv 0)))))) (eE (fm (iH (eT T.cl T.nFo (pv 0)) (λ_=>rfl)) (eE (gF (iq MM hr fN (pv 0) (eo (eT TF.cl TF.nBi (eP fw (eT T.cl T.nFo (pv 0)) (ja jy eF))) (eo (pv 1) eA))))) eV)))),?_⟩;obtain⟨S,hp⟩:=hS.self;have Y:=hS.gh.ins hp;obtain⟨lx,ma,re,pm,pp,bd,rs,Ol,hO,a7,a4,a1⟩:=id hL.ex;have a3:(L.map (·.1))[j]?=some e.1:=by rw[ae,hj];rfl
 have lA:D.length=R.length:=Paired.length C.p;have a2:p≠d:=fF Y C.l λz=>nomatch z;refine⟨_,rfl,p,S,_,V.ref le,rfl,Y,(by kernel_rfl),le,lx,_,V.ref ma,rfl,hS.gh.ins a7,(by kernel_rfl),_,rfl,ma,_,_,_,rfl,rfl,ff.of a4,kF a3,?_⟩;have I:∀{n:Nat} {v:Hp},v d=some (.lst ((D.take n).map λa=>V.ref a.1))->(∀b,b≠d->v b=H b)->jm CF CT G v c d (D.take n) (R.take n):=λ{n v} h1 h2=>by refine⟨h1,Paired.KG (pO n C.p) λx y ⟨⟨d1,z1⟩,d2,w2,z2,z3⟩=>⟨⟨d1,?_⟩,d2,w2,?_,z3⟩,C.offl,λa ha=>C.off a (dG ha),?_,?_⟩;rw[h2 _ (fF z1 C.l λz=>nomatch z)];exact z1;rw[h2 _ (fF z2 C.l λz=>nomatch z)];exact z2;rw[cG];exact C.nd1.sublist (dW _ _);rw[cG];exact C.nd2.sublist (dW _ _)
 refine⟨λm σ v=>m<=R.length/\R.reverse.dropWhile (λf=>!c.stop e.1 f)=(R.take m).reverse.dropWhile (λf=>!c.stop e.1 f)/\σ=[some (.ref p),some (.int (j:Nat)),some (.int (e.1:Nat))]/\v d=some (.lst ((D.take m).map λa=>V.ref a.1))/\∀b,b≠d->v b=H b,⟨R.length,am _,by rw[aK],rfl,by rw[<-lA,aK];exact C.l,λ_ _=>rfl⟩,?_⟩;rintro n σ v ⟨hn,B,rfl,g,o⟩;have t:v p=some (.ins CS S (xW ch le d)):=by rw[o p a2];exact Y
 refine⟨_,rfl,p,S,_,V.ref d,rfl,t,(by kernel_rfl),_,.inl ⟨_,ff.of g,rfl⟩,?_⟩;cases n with
 |zero=>
  refine fz (fz ?_);refine⟨_,rfl,p,S,_,V.ref d,rfl,t,(by kernel_rfl),_,.inl ⟨_,ff.of g,rfl⟩,fz ?_⟩;refine q 0 v (br _) (by rw[B];rfl) (λb u r=>?_) (I g o);have U:b≠d:=λz=>by rw[z,gc (by simp)]at r;cases r
  rw[o b U];exact fM _ _ b u r
 |succ n=>
 obtain⟨a,ha⟩:∃a,D[n]?=some a:=⟨D[n]'(by lia),ak _⟩;obtain⟨M,N,⟨fx,ag⟩,ba⟩:=Paired.K8 C.p ha;have Z:((D.take (n+1)).map λa=>V.ref a.1)=((D.take n).map λa=>V.ref a.1)++[.ref a.1]:=by rw[fV ha,aG];rfl
 have aa:(((D.take (n+1)).map λa=>V.ref a.1))[((D.take (n+1)).map λa=>V.ref a.1).length-1]?=some (.ref a.1):=by rw[Z,aD,aP,dM,bh (am _),bW];rfl
 have ah:(!((D.take (n+1)).map λa=>V.ref a.1).isEmpty)=true:=by rw[Z];simp
 have J:v a.1=some (.ins CF fx (uF (.str M.part) (.ref a.2) (.int (c.La M.bit:Nat)))):=by rw[o a.1 (fF ag C.l λz=>nomatch z)];exact ag
 rw[ah];refine gY ?_;refine⟨_,rfl,p,S,_,V.ref d,rfl,t,(by kernel_rfl),_,rfl,d,_,_,V.ref a.1,rfl,rfl,ff.of g,oW aa,a.1,fx,_,V.int (c.La M.bit:Nat),rfl,J,(by kernel_rfl),_,rfl,_,_,rfl,rfl,_,rfl,?_⟩;dsimp only;rw[nZ,zF (ad M (ai N))];rw[uj N]at B;by_cases hst2:c.stop e.1 M=true;rw[hst2];refine fz ?_;rw[List.dropWhile_cons,av (by rw[hst2];decide)]at B;refine⟨_,rfl,p,S,_,V.ref d,rfl,t,(by kernel_rfl),_,.inl ⟨_,ff.of g,rfl⟩,?_⟩;rw[ah];refine gY ?_;obtain⟨k,hk⟩:∃k,M.bit=some k:=by unfold eD.stop at hst2;cases h:M.bit with|none=>rw[h]at hst2;cases hst2|some k=>exact⟨k,rfl⟩
 have a0:Se CB CC CS G v p ch le d c:=hS.grow (eL.refl _) (λb u r=>by
  have U:b≠d:=λz=>by rw[z,C.offl]at r;cases r
  rw[o b U];exact hS.gh b u r)
 have a8:gK CL G v le ch c L O:=hL.grow (eL.refl _) hL.off λb r=>o b λz=>al.1 (z▸r);have a6:c.La M.bit=c.bit k:=by rw[hk];rfl
 have ap:=I g o;rw[a6]at J;refine⟨_,rfl,p,S,_,rfl,t,(by kernel_rfl),_,rfl,p,S,_,V.ref d,rfl,t,(by kernel_rfl),_,rfl,d,_,_,V.ref a.1,rfl,rfl,ff.of g,oW aa,a.1,fx,_,V.int (c.bit k:Nat),rfl,J,(by kernel_rfl),_,rfl,G,p,ch,le,d,c,L,O,D.take (n+1),R.take (n+1),k,j,e,rfl,a0,a8,ap,hj,by rw[aV];lia,λH3 s3 as=>?_⟩;refine q (n+1) H3 hn (by rw[uj N,B]) (λb u r=>?_) ?_;have U:b∉d::D.map (·.2):=λz=>by rw[gc z]at r;cases r
 rw[eM U]at r;simp only[ao,not_or]at U;refine s3 b u ?_;rw[eM (λz=>U.2 (by
  rw[cG]at z
  exact dG z)),o b U.1]
 exact r;have:c.MC e.1 (R.take (n+1))=(R.take (n+1)).map (c.LE k e.1):=by unfold eD.MC;rw[fV N,List.getLast?_append];simp only[List.getLast?_singleton,Option.some_or];rw[hk]
 rw[this];exact as;have X:c.stop e.1 M=false:=by cases h:c.stop e.1 M <;> simp_all
 rw[X];refine gY ⟨λσ' H'=>∃m',m'<n+1/\_,λ_ _ h=>h,?_⟩;rw[List.dropWhile_cons,ay (by rw[X];rfl)]at B;refine⟨_,rfl,p,S,_,V.ref d,rfl,t,(by kernel_rfl),.inl ⟨rfl,_,ff.of g⟩,d,_,_,rfl,rfl,g,aa,?_⟩;refine⟨n,dh _,by lia,B,rfl,?_,λb r=>?_⟩;rw[er,Z,List.dropLast_concat];rw[eB r];exact o b r
end
def Fv (CT:dY)(G H:Hp)(O:ef dY)(sd:Sd->Prop)(Q:VK):Prop:=
 ∀(G' H':Hp) (s:dY) (d:Sd),iU G H O G' H' O->H s=none->G' s=none->md CT G' H' s d->sd d->(∀a∈O,H' a=H a)->Q (.ref s) H'
inductive tT (CB CC CL CS CF CT:dY)(vs:ef V)(H:Hp)(Q:VK)(E:XK):Prop
 |mk (G:Hp)(p ch le fl:dY)(c:eD)(L:iA)(O:ef dY)(a:dY×dY)(fk:Fk)(k:Pk)(_:vs=[.ref p,.ref a.1])(_:Se CB CC CS G H p ch le fl c)(_:gK CL G H le ch c L O)(_:ib c L)(_:nu CF CT G H c a fk)(_:fk.bit=some k)(_:kO c fk)(_:i4 c L fk.sd)(_:¬c.has fk.sd.dead k)(_:Fv CT G H O (λd=>i4 c L d/\c.LB fk d) Q)
inductive qm (CB CC CL CS CT:dY)(vs:ef V)(H:Hp)(Q:VK)(E:XK):Prop
 |mk (G:Hp)(p ch le fl:dY)(c:eD)(O:ef dY)(_:vs=[.ref p])(_:Se CB CC CS G H p ch le fl c)(_:∀a∈O,∃u,H a=some u)(_:∀a∈O,G a=none)(_:∀(G' H':Hp) (s:dY) (d:Sd),iU G H O G' H' O->H s=none->G' s=none->md CT G' H' s d->(∀L,i4 c L d)->d.picked=0->(∀a∈O,H' a=H a)->Q (.ref s) H')
def made {x dx C:dY}(h1:H x=none)(h2:H dx=none)(n:dx≠x):eN H (upd (upd H dx (.own x)) x (.ins C dx [])):=(eJ h2 _).trans (eJ (by rw[eB (Ne.symm n)];exact h1) _)
section
variable {base:Heap}{f:dY}
def zO:eQ ["self","fork","pick","picked","dead","wanted"] ["self","fork"] (eK sy):=iW
def yz (F:iE K "stand_behind" "Search.stand_behind" sy f fd)(T:t9 K mg CS)(R:TC K mg CC)(TT:Dw K mg CT)(v:BN K mg CF)(MB:Mt P w K mg base CL fC 1 "barred_with" ["self","pick","picked"] (tU CB CC CL))(MW:Mt P w K mg base CS fC 2 "wanted_by" ["self","wanted","who","picked"] (oZ CB CC CS))(MS:BO P w K mg base CT fC 1 "Stand" ["self","picked","dead","wanted"] (pe CT)):fB P w K mg base fC 3 f fd ["self","fork"] (tT CB CC CL CS CF CT):=by
 refine F.ok zO λc4 A co s H vs Q E hr h=>?_;obtain⟨G,p,ch,le,fl,c,L,O,a,b,k,rfl,d,hL,a8,b8,B,I,J,aa,q⟩:=h;have hu:=gH hr;refine⟨_,(et (eO (i:=2) zO.nd (hJ hu (eT R.cl R.nBy (eT T.cl T.nCh (pv 0))) (eT v.cl v.nBi (pv 1)))) (et (eO (i:=3) zO.nd (fh qX (eT TT.cl TT.nPi (eT v.cl v.nSt (pv 1))) (eT v.cl v.nBi (pv 1)))) (et (eO (i:=4) zO.nd (fh qX (fh qX (eT TT.cl TT.nDe (eT v.cl v.nSt (pv 1))) (fg hu (eT R.cl R.nFo (eT T.cl T.nCh (pv 0))) (pv 2))) (iq MB (hr.mono (by decide)) fN (eT T.cl T.nLe (pv 0)) (eo (pv 2) (eo (pv 3) eA))))) (et (eO (i:=5) zO.nd (iq MW hr fN (pv 0) (eo (eT TT.cl TT.nWa (eT v.cl v.nSt (pv 1))) (eo (pv 2) (eo (pv 3) eA))))) (et (gF (Aw (pv 5) (eT v.cl v.nPa (pv 1)) ⟨rfl,rfl,rfl,rfl⟩)) (eE (eU (mV MS (hr.mono (by decide)) rfl fN (eo (pv 3) (eo (pv 4) (eo (Au (pv 5)) eA))))))))))),?_⟩;obtain⟨dx,hp⟩:=d.self;have M:=d.gh.ins hp;obtain⟨⟨fx,t⟩,sx,wa,ag,wo,a2,cv,cy⟩:=b8;obtain⟨hk,bq,_⟩:=I.bit k B;have cx:c.La b.bit=c.bit k:=by rw[B];rfl
 rw[cx]at t;obtain⟨gx,gb,cn,as,c3,c5,c1,a5,cz,d1,d2,d3,d4,⟨b7,b9,a7⟩,d6,d7,d8,d9⟩:=d.chart.ex;obtain⟨Y,a4,D⟩:=a7 k hk;refine⟨_,rfl,p,dx,_,V.ref ch,rfl,M,(by kernel_rfl),ch,gx,_,V.ref as,rfl,d.gh.ins d1,(by kernel_rfl),_,rfl,a.1,fx,_,V.int (c.bit k:Nat),rfl,t,(by kernel_rfl),as,Y,rfl,.inl ⟨b7,Sum.inl (c.bit k:Int),d.gh.rd b9,rfl,a4.symm⟩,?_⟩;refine⟨_,rfl,a.1,fx,_,V.ref a.2,rfl,t,(by kernel_rfl),a.2,sx,_,V.int (b.sd.picked:Nat),rfl,ag,(by kernel_rfl),_,rfl,a.1,fx,_,V.int (c.bit k:Nat),rfl,t,(by kernel_rfl),_,_,rfl,rfl,?_⟩;dsimp only;rw[xC];obtain⟨lx,ma,re,pm,pp,c2,rs,Ol,hO,b4,bm⟩:=id hL.ex;refine⟨_,rfl,a.1,fx,_,V.ref a.2,rfl,t,(by kernel_rfl),a.2,sx,_,V.int (b.sd.dead:Nat),rfl,ag,(by kernel_rfl),_,rfl,p,dx,_,V.ref ch,rfl,M,(by kernel_rfl),ch,gx,_,V.ref a5,rfl,d.gh.ins d1,(by kernel_rfl),_,rfl,a5,_,rfl,(d9.f d.gh).get (w:=some k) (gQ hk) (fj.f d.gh D),_,_,rfl,rfl,?_⟩;dsimp only;rw[xC];refine⟨_,rfl,p,dx,_,V.ref le,rfl,M,(by kernel_rfl),le,lx,_,rfl,d.gh.ins b4,(by kernel_rfl),_,rfl,_,rfl,G,le,ch,c,L,O,Y,k,b.sd.picked ||| c.bit k,rfl,d.gh,d.chart,hL,fj.f d.gh D,hk,λH1 s1=>?_⟩;refine⟨_,_,rfl,rfl,?_⟩;skip;rw[xC];have be:=s1 _ _ M;have X:=s1 _ _ t;have a1:=s1 _ _ ag;have cd:=J.Mj d.nds d.n;refine⟨_,rfl,p,dx,_,rfl,be,(by kernel_rfl),_,rfl,a.1,fx,_,V.ref a.2,rfl,X,(by kernel_rfl),a.2,sx,_,V.ref wa,rfl,a1,(by kernel_rfl),_,rfl,_,rfl,G,p,ch,le,fl,wa,c,a2,b.sd.wanted,Y,some k,b.sd.picked ||| c.bit k,rfl,d.same s1,.inr ⟨wo,s1 _ _ (d.gh.frz cv)⟩,cy,cd,λx u hx=>?_,gQ hk,D,λo H2 m g s2 b2 an a3 a6=>?_⟩;obtain⟨_,z2,z3⟩:=J.w1 x u hx;exact⟨λk e=>by subst e;exact z2.1,jp.mpr z3⟩;have ap:=s2 _ _ X;have ct:b.part∈g.map (·.1):=by obtain⟨E,e1,_⟩:=a6;rw[e1];exact aO _ I.open_
 obtain⟨v0,u0,cs,_,_⟩:=oG a3 ct;refine⟨_,rfl,o,rfl,.inl ⟨_,.inl an⟩,_,rfl,a.1,fx,_,V.str b.part,rfl,ap,(by kernel_rfl),m,Sum.inr b.part,v0,an,rfl,cs,?_⟩;refine⟨_,rfl,_,rfl,_,rfl,o,_,rfl,er,trivial,λS=>?_⟩;rw[jo];have ah:=s1.trans s2;have c0:eL G H2:=d.gh.trans ah.toF;have r:H o=none:=s1.free b2;have al:G o=none:=d.gh.free r;have bv:=iU.same (O:=O) d.gh ah;have cp:=bv.own (u:=.frz S (.dK (j5 m (Sum.inr b.part)))) r al;have b1:upd H2 o (.frz S (.dK (j5 m (Sum.inr b.part)))) o=some (.frz S (.dK (j5 m (Sum.inr b.part)))):=er;have N:=cp.base d.gh r b1;have bx:wD (upd G o (.frz S (.dK (j5 m (Sum.inr b.part))))) o (g.filter λxu=>!decide (xu.1=b.part)):=⟨S,_,er,Paired.KG (wL a3) λ_ _ z=>z.f ((eL.refl G).upd al)⟩;have b5:∀y∈O,upd H2 o (.frz S (.dK (j5 m (Sum.inr b.part)))) y=H y:=λy hy=>by obtain⟨u,l⟩:=hL.liv y hy;rw[eB (λz:y=o=>by rw[z,r]at l;cases l),ah _ _ l,l]
 generalize upd G o (.frz S (.dK (j5 m (Sum.inr b.part))))=G4 at *;generalize upd H2 o (.frz S (.dK (j5 m (Sum.inr b.part))))=H4 at *;intro x U hx ba a9;have sm:=made (C:=CT) hx ba a9;have bl:upd (upd H4 U (.own x)) x (.ins CT U []) x=some (.ins CT U []):=er;have b3:=N.trans (iU.same (O:=O) N.gh sm);generalize upd (upd H4 U (.own x)) x (.ins CT U [])=H5 at *;have ad:H x=none:=N.lv x hx;have a0:G4 x=none:=N.gh.free hx;refine⟨x,U,_,_,_,rfl,bl,rfl,?_⟩;have bd:=b3.own (u:=.ins CT U (zj (.int ((b.sd.picked ||| c.bit k:Nat):Int)) (.int ((b.sd.dead ||| c.LW (some k) ||| c.LQ L k (b.sd.picked ||| c.bit k):Nat):Int)) (.ref o))) ad a0;obtain⟨b6,bf⟩:=za (k:=k) (p:=b.sd.picked ||| c.bit k) a8;refine q G4 _ x ⟨b.sd.picked ||| c.bit k,b.sd.dead ||| c.LW (some k) ||| c.LQ L k (b.sd.picked ||| c.bit k),g.filter λxu=>!decide (xu.1=b.part)⟩ bd ad a0 ⟨U,o,er,bx⟩ ⟨?_,k,B,rfl,λj Z=>eD.Lg.mpr (.inl (eD.Lg.mpr (.inl Z)))⟩ (λy hy=>?_)
 rotate_left
 obtain⟨u,l⟩:=hL.liv y hy;have h6:=(b5 y hy).trans l;rw[eB (λz:y=x=>by rw[z,ad]at l;cases l),sm _ _ h6,l];refine zG J I hk bq aa (jv (jv J.dl (c.L0 _)) b6) (λj Z=>eD.Lg.mpr (.inl (eD.Lg.mpr (.inl Z)))) (λj Z hf=>eD.Lg.mpr (.inl (eD.Lg.mpr (.inr (eD.LZ.mpr ⟨Z,hf⟩))))) (λj Z=>?_) a6;rcases eD.Lg.mp Z with z|z;rcases eD.Lg.mp z with y|y;exact .inl y;exact .inr (.inl (eD.LZ.mp y).2);exact .inr (.inr (bf j z))
end
def iU.MH (h:eL G H)(e:eL H H'):iU G H O G H' O:=⟨eL.refl _,h.trans e,λa e n=>absurd e n,λa h=>.inl h,(fM _ _).toF.trans e,λ_ h=>e.free h⟩
def eD.MI (c:eD)(ws:ef (el Pk)):Nat:=c.LW none ||| c.maskOf λj=>decide (some j∈ws)&&(c.LR (some j) j)
def eD.MJ (c:eD):c.MI []=c.LW none:=by
 unfold eD.MI;have:c.maskOf (λj=>decide (some j∈([]:ef (el Pk)))&&(c.LR (some j) j))=0:=eD.Lm (c.Ls _) λk h=>by have:=(eD.Lr.mp h).2;simp at this
 rw[this,Nat.or_zero]
def p0 {c:eD}{k:Pk}:c.foe k k↔c.Lu (some k) k:=⟨λh=>h.elim id id,.inl⟩
def eD.MK {c:eD}{ws:ef (el Pk)}{w:el Pk}(d:c.Who w):c.MI (ws++[w])=c.MI ws ||| (c.LW w &&& c.La w):=by refine eD.ext (jv (c.L0 _) (c.Ls _)) (jv (jv (c.L0 _) (c.Ls _)) (oe (c.L0 _))) λj=>?_;unfold eD.MI;simp only[eD.Lg,eD.Lh,eD.Lr,aF,aw,aA,aj,eD.Ma d,eD.LS];constructor;rintro(h|⟨a,h2|h2,b⟩);exact .inl (.inl h);exact .inl (.inr ⟨a,h2,b⟩);rw[<-h2];exact .inr ⟨eD.LZ.mpr ⟨a,p0.mpr b⟩,rfl⟩;rintro((h|⟨a,h2,b⟩)|⟨a,h2⟩);exact .inl h;exact .inr ⟨a,.inl h2,b⟩;rw[h2]at a;obtain⟨b,e⟩:=eD.LZ.mp a;exact .inr ⟨b,.inr h2.symm,p0.mp e⟩
def eD.MQ {c:eD}{ws:ef (el Pk)}(h:∀k∈c.ks,some k∈ws){k:Pk}:c.has (c.MI ws) k↔k∈c.ks/\(c.Lu none k\/c.foe k k):=by unfold eD.MI;rw[eD.Lg,show c.LW none=c.LV none from rfl,eD.LY,eD.Lr,aF,aw,eD.LS,p0];constructor;rintro(⟨a,h2⟩|⟨a,_,h2⟩);exact⟨a,.inl h2⟩;exact⟨a,.inr h2⟩;rintro⟨a,h2|h2⟩;exact .inl ⟨a,h2⟩;exact .inr ⟨a,h k a,h2⟩
section
variable {base:Heap}{f:dY}
def Cm:eQ ["self","dead","pick"] ["self"] (eK pB):=iW
def vH (F:iE K "opening" "Search.opening" pB f fd)(T:t9 K mg CS)(j:TC K mg CC)(MW:Mt P w K mg base CS fC 2 "wanted_by" ["self","wanted","who","picked"] (oZ CB CC CS))(MS:BO P w K mg base CT fC 1 "Stand" ["self","picked","dead","wanted"] (pe CT)):fB P w K mg base fC 3 f fd ["self"] (qm CB CC CL CS CT):=by
 refine F.ok Cm λb9 A b2 s H vs Q E hr h=>?_;obtain⟨G,p,D,le,fl,c,O,rfl,r,N,an,q⟩:=h;have hu:=gH hr;refine⟨_,(et (eO (i:=1) Cm.nd (fg hu (eT j.cl j.nFo (eT T.cl T.nCh (pv 0))) iJ)) (et (fO (sJ (eT j.cl j.nFo (eT T.cl T.nCh (pv 0)))) (eR (i:=2) Cm.nd) (eE (kP (i:=1) Cm.nd (fh im (fg hu (eT j.cl j.nFo (eT T.cl T.nCh (pv 0))) (pv 2)) (fg hu (eT j.cl j.nBits (eT T.cl T.nCh (pv 0))) (pv 2))) uA))) (eE (eU (mV MS (hr.mono (by decide)) rfl fN (eo eF (eo (pv 1) (eo (Au (iq MW hr fN (pv 0) (eo ie (eo iJ (eo eF eA))))) eA)))))))),?_⟩;obtain⟨dx,hp⟩:=r.self;have al:=r.gh.ins hp;obtain⟨gx,gb,t,co,cp,cn,cd,d,b8,d1,d2,d3,d4,d5,d6,d7,d8,B,Y,a1,a2⟩:=r.chart.ex;have d9:kN G d c c.LW:=⟨B,Y,a1,a2⟩;refine⟨_,rfl,p,dx,_,V.ref D,rfl,al,(by kernel_rfl),D,gx,_,V.ref d,rfl,r.gh.ins d1,(by kernel_rfl),d,_,rfl,(d9.f r.gh).get (w:=none) jr rfl,?_⟩;refine⟨_,rfl,p,dx,_,V.ref D,rfl,al,(by kernel_rfl),D,gx,_,V.ref d,rfl,r.gh.ins d1,(by kernel_rfl),d,B,rfl,r.gh.rd Y,λo H1 sf a0 b7=>?_⟩;have g1:eL G H1:=r.gh.trans sf;have R:=g1.ins hp;have ah:=g1.ins d1;obtain⟨ws,S,bd⟩:=rH a1;have lw:B.length=ws.length:=by have:=congrArg List.length S;rw[ab,ab]at this;exact this
 refine v6 (kvs:=B) (λi σ U=>∃o2,σ=[some (.ref p),some (.int (c.MI (ws.take i):Nat)),o2]/\U=H1) ⟨none,by rw[db,eD.MJ];rfl,rfl⟩ (λi σ U _ ⟨_,_,e⟩=>by rw[e];exact b7) ?_ ?_;rintro i kv x σ U hi kx ⟨o2,rfl,rfl⟩;have ap:(B.map (·.1))[i]?=some kv.1:=by rw[ae,hi];rfl
 rw[S,ae]at ap;obtain⟨v,hv,ev⟩:=ax.mp ap;rw[<-ev]at kx;have as:=gW.of kx;have Z:=bd v (ai hv);refine⟨_,rfl,_,rfl,p,dx,_,V.ref D,rfl,R,(by kernel_rfl),D,gx,_,V.ref d,rfl,ah,(by kernel_rfl),_,rfl,d,_,rfl,(d9.f g1).get Z as,_,rfl,p,dx,_,V.ref D,rfl,R,(by kernel_rfl),D,gx,_,V.ref t,rfl,ah,(by kernel_rfl),_,rfl,t,_,rfl,(d4.f g1).get Z as,_,_,rfl,rfl,_,_,rfl,rfl,?_⟩;refine⟨some x,?_,rfl⟩;rw[nZ,xC,fV hv,eD.MK Z];rfl;rintro σ U ⟨o2,rfl,rfl⟩;rw[lw,aK];have a3:∀k∈c.ks,some k∈ws:=λk hk=>by have:=i5 (a2 (some k) (gQ hk));rw[S]at this;obtain⟨u,b,a9⟩:=aC.mp this;rw[iF a9]at b;exact b
 refine⟨_,rfl,_,rfl,p,dx,_,rfl,R,(by kernel_rfl),λe0 a8=>?_⟩;have s3:=eJ a8 (.dK []);have bl:upd U e0 (.dK []) e0=some (.dK []):=er;generalize upd U e0 (.dK [])=H3 at *;have g3:eL G H3:=g1.trans s3.toF;refine⟨G,p,D,le,fl,e0,c,[],[],.non,none,0,rfl,r.grow (eL.refl _) g3,.inl bl,.nil,br _,(λx u h=>nomatch h),jr,rfl,λm H4 kvs g s4 b5 be bf b3=>?_⟩;refine⟨m,_,rfl,be,trivial,λM=>?_⟩;have bq:eL H H4:=sf.trans (s3.trans s4).toF;have l:H m=none:=sf.free (s3.free b5);have ag:G m=none:=r.gh.free l;have b4:=iU.MH (O:=O) r.gh bq;have b6:=b4.own (u:=.frz M (.dK kvs)) l ag;have bv:upd H4 m (.frz M (.dK kvs)) m=some (.frz M (.dK kvs)):=er;have I:=b6.base r.gh l bv;have a5:wD (upd G m (.frz M (.dK kvs))) m g:=⟨M,_,er,Paired.KG bf λ_ _ z=>z.f ((eL.refl G).upd ag)⟩;have bx:∀a∈O,a≠d:=λa X z=>by have:=an a X;rw[z]at this;rcases Y with y|⟨o',y⟩ <;> (rw[this]at y;cases y)
 have a7:∀a∈O,upd H4 m (.frz M (.dK kvs)) a=H a:=λa X=>by
  obtain⟨u,b⟩:=N a X;have h1:U a=some u:=by rw[a0 a (bx a X)];exact b
  have h4:=s4 _ _ (s3 _ _ h1);rw[eB (λz:a=m=>by rw[z,l]at b;cases b),h4,b]
 generalize upd G m (.frz M (.dK kvs))=G6 at *;generalize upd H4 m (.frz M (.dK kvs))=H6 at *;intro x J hx a6 a4;have sm:=made (C:=CT) hx a6 a4;have bm:upd (upd H6 J (.own x)) x (.ins CT J []) x=some (.ins CT J []):=er;have b1:=I.trans (iU.same (O:=O) I.gh sm);generalize upd (upd H6 J (.own x)) x (.ins CT J [])=H7 at *;have aa:H x=none:=I.lv x hx;have ad:G6 x=none:=I.gh.free hx;refine⟨x,J,_,_,_,rfl,bm,rfl,?_⟩;have ba:=b1.own (u:=.ins CT J (zj (.int 0) (.int ((c.MI ws:Nat):Int)) (.ref m))) aa ad;refine q G6 _ x ⟨0,c.MI ws,g⟩ ba aa ad ⟨J,m,er,a5⟩ (λL=>?_) rfl λa X=>?_;exact vC (jv (c.L0 _) (c.Ls _)) (λk=>eD.MQ a3) b3;obtain⟨u,b⟩:=N a X;have h6:H6 a=some u:=(a7 a X).trans b;rw[eB (λz:a=x=>by rw[z,aa]at b;cases b),sm _ _ h6,b]
end
structure SS (CB CC CL CS CF CT:dY)(G H:Hp)(p ch le fl:dY)(c:eD)(L:iA)(O:ef dY)(A:ef (dY×dY))(F:ef Fk):Prop where
 se:Se CB CC CS G H p ch le fl c
 led:gK CL G H le ch c L O
 ok:ib c L
 fk:jm CF CT G H c fl A F
 sep:zf O fl A
def SS.grow {p ch le:dY}{c:eD}{L L':iA}(h:SS CB CC CL CS CF CT G H p ch le fl c L O A F)(g:iU G H O G' H' O')(hl:gK CL G' H' le ch c L' O')(hok:ib c L'):SS CB CC CL CS CF CT G' H' p ch le fl c L' O' A F:=
 ⟨h.se.grow g.gg g.gh,hl,hok,h.fk.grow g h.sep,zf.grow h.fk g h.sep⟩
def zg (H:Hp)(O:ef dY)(G G':Hp):Prop:=∀x u,H x=some u->u5 u->x∉O->G x=none->G' x=none
inductive BI (CB CC CL CS CF CT:dY)(vs:ef V)(H:Hp)(Q:VK)(E:XK):Prop
 |mk (G:Hp)(p ch le fl:dY)(c:eD)(L:iA)(O:ef dY)(A:ef (dY×dY))(B:ef Fk)(g:Fk)(_:vs=[.ref p])(_:SS CB CC CL CS CF CT G H p ch le fl c L O A (B++[g]))(_:fX c L B.reverse g.sd)(_:kO c g)(_:NZ L)(_:∀(G' H':Hp) (L':iA) (O':ef dY) (A':ef (dY×dY)) (F':ef Fk) (s:dY) (d:Sd),eL G G'->jf H O H' O'->zg H O G G'->SS CB CC CL CS CF CT G' H' p ch le fl c L' O' A' F'->fX c L' F'.reverse d->NZ L'->md CT G' H' s d->G' s=none->s∉O'->s∉A'.map (·.2)->c.mv (c.n+1) F'<=c.mv (c.n+1) (B++[g])->Q (.ref s) H')(_:∀(G' H':Hp) (L':iA) (O':ef dY) (A':ef (dY×dY)) (F':ef Fk) (e:Nat×Rs),eL G G'->jf H O H' O'->zg H O G G'->SS CB CC CL CS CF CT G' H' p ch le fl c L' O' A' F'->L'.getLast?=some e->e.1=0->Q .non H')
def Fd (a b t t':V):gz ("bit":Str) t' (uF a b t)=uF a b t':=by kernel_rfl
def nO {c:eD}{x:Str}{s:Sd}:∀j,c.has (iD (c.LT x) s.dead) j↔j∈c.left x s:=λj=>by
 rw[eD.Li,eD.LX,eD.LK];exact⟨(by rintro⟨⟨h1,h2⟩,h3⟩;exact⟨h1,h2,h3⟩),(by rintro⟨h1,h2,h3⟩;exact⟨⟨h1,h2⟩,h3⟩)⟩
theorem AZ {c:eD}{g g':Fk}(hp:g'.part=g.part)(hs:g'.sd=g.sd):∀(d:Nat) (B:ef Fk),c.mv d (B++[g'])=c.mv d (B++[g])
 |0,_=>by unfold eD.mv;rfl
 |d+1,[]=>by show c.cnt g'*(c.n+2)^d+c.mv d []=c.cnt g*(c.n+2)^d+c.mv d [];unfold eD.cnt;rw[hp,hs]
 |d+1,f::B=>by show c.cnt f*(c.n+2)^d+c.mv d (B++[g'])=c.cnt f*(c.n+2)^d+c.mv d (B++[g]);rw[AZ hp hs d B]
section
variable {base:Heap}{f:dY}
def Et:eQ ["self","fork","left"] ["self"] (eK zZ):=iW
theorem CZ (F:iE K "go_on" "Search.go_on" zZ f fd)(T:t9 K mg CS)(dc:TC K mg CC)(TF:BN K mg CF)(d8:Mt P w K mg base CC fC 1 "listed" ["self","mask"] (j9 CC))(ep:Mt P w K mg base CS fC 1 "left" ["self","stand","part"] (xK CB CC CS CT))(MB:Mt P w K mg base CS fC 3 "stand_behind" ["self","fork"] (tT CB CC CL CS CF CT))(MS:Mt P w K mg base CS fC 5 "shut" ["self","fork","known"] (xG CB CC CL CS CF CT))(MG:Mt P w K mg base CS fC 2 "go_back" ["self","place"] (tO CB CC CL CS CF CT)):fB P w K mg base fC 6 f fd ["self"] (BI CB CC CL CS CF CT):=by
 refine F.ok Et λfa A e1 s H vs Q E hr h=>?_;obtain⟨G,p,Y,le,N,c,L,O,AA,B,g,rfl,e3,ey,hg,e6,q1,q2⟩:=h;have hu:=gH hr;refine⟨_,(et (jK PassesOwn.never (iH (eT T.cl T.nFo (pv 0)) (λ_=>rfl)) (et (eO (i:=1) Et.nd (eP fw (eT T.cl T.nFo (pv 0)) (ja jy eF))) (et (eO (i:=2) Et.nd (iq d8 (hr.mono (by decide)) fN (eT T.cl T.nCh (pv 0)) (eo (iq ep (hr.mono (by decide)) fN (pv 0) (eo (eT TF.cl TF.nSt (pv 1)) (eo (eT TF.cl TF.nPa (pv 1)) eA))) eA))) (et (fm (iH (pv 2) (λ_=>rfl)) (et (jV TF.cl TF.nBi (pv 1) (fg hu (eT dc.cl dc.nBits (eT T.cl T.nCh (pv 0))) (eP fw (pv 2) (ja jy eF)))) (eE (eU (iq MB (hr.mono (by decide)) fN (pv 0) (eo (pv 1) eA))))) eV) (eE (gF (iq MG (hr.mono (by decide)) fN (pv 0) (eo (iq MS hr fN (pv 0) (eo (pv 1) (eo ie eA))) eA)))))))) (eE (eU iJ))),?_⟩;refine⟨λm σ H2=>∃(U:Hp) (Lake:iA) (O2:ef dY) (r:ef (dY×dY)) (F2:ef Fk) (o1 o2:el V),σ=[some (.ref p),o1,o2]/\eL G U/\jf H O H2 O2/\zg H O G U/\SS CB CC CL CS CF CT U H2 p Y le N c Lake O2 r F2/\((F2=[]/\m=0/\∃e,Lake.getLast?=some e/\e.1=0)\/∃o g2,F2=o++[g2]/\m=c.mv (c.n+1) F2+1/\c.mv (c.n+1) F2<=c.mv (c.n+1) (B++[g])/\fX c Lake o.reverse g2.sd/\kO c g2/\NZ Lake),⟨c.mv (c.n+1) (B++[g])+1,G,L,O,AA,B++[g],none,none,rfl,eL.refl _,jf.refl _ _,(λ_ _ _ _ _ h=>h),e3,.inr ⟨B,g,rfl,rfl,am _,ey,hg,e6⟩⟩,?_⟩;rintro m σ H2 ⟨U,Lake,O2,r,F2,o1,o2,rfl,bq,ap,bl,M,b2⟩;obtain⟨dx,hp⟩:=M.se.self;have an:=M.se.gh.ins hp;refine⟨_,rfl,p,dx,_,V.ref N,rfl,an,(by kernel_rfl),_,.inl ⟨_,ff.of M.fk.l,rfl⟩,?_⟩;have lA:=Paired.length M.fk.p;rcases b2 with ⟨rfl,rfl,e,d7,e5⟩|⟨o,g2,rfl,rfl,c5,d,a1,a3⟩;have:r=[]:=bO.mp (by simpa using lA);subst this;refine fz ?_;exact q2 U H2 Lake O2 [] [] e bq ap bl M d7 e5;have cs:=d.depth;rw[ci]at cs;have eu:=M.se.n;rw[aD,aP]at lA;obtain⟨a,ha⟩:∃a,r[o.length]?=some a:=⟨r[o.length]'(by lia),ak _⟩;have bf:(o++[g2])[o.length]?=some g2:=by rw[bh (am _),bW];rfl
 have ew:nu CF CT U H2 c a g2:=by obtain⟨c1,R,z2⟩:=Paired.K8 M.fk.p ha;rw[bf]at R;cases R;exact z2
 obtain⟨⟨fx,a9⟩,ed⟩:=id ew;have dv:r=r.take o.length++[a]:=by rw[<-fV ha,<-lA,aK]
 have ez:(r.map λa=>V.ref a.1)[(r.map λa=>V.ref a.1).length-1]?=some (.ref a.1):=by rw[ab,lA,dM,ae,ha];rfl
 have dd:(!(r.map λa=>V.ref a.1).isEmpty)=true:=by rw[dv];simp
 rw[dd];refine gY ⟨λσ' H'=>∃m',m'<c.mv (c.n+1) (o++[g2])+1/\_,λ_ _ h=>h,?_⟩;refine⟨_,rfl,p,dx,_,V.ref N,rfl,an,(by kernel_rfl),_,rfl,N,_,_,V.ref a.1,rfl,rfl,ff.of M.fk.l,oW ez,?_⟩;obtain⟨gx,gb,as,eh,e9,fo,e8,fp,e7,d1,d2,d3,d4,d5,d6⟩:=M.se.chart.ex;refine⟨_,rfl,p,dx,_,V.ref Y,rfl,an,(by kernel_rfl),Y,gx,_,rfl,M.se.gh.ins d1,(by kernel_rfl),_,rfl,p,dx,_,rfl,an,(by kernel_rfl),_,rfl,a.1,fx,_,V.ref a.2,rfl,a9,(by kernel_rfl),_,rfl,a.1,fx,_,V.str g2.part,rfl,a9,(by kernel_rfl),U,p,Y,le,N,a.2,c,g2.sd,g2.part,rfl,M.se,ed,?_⟩;have d9:iD (c.LT g2.part) g2.sd.dead<2^c.n:=jQ (c.Ls _);refine⟨U,Y,gx,eh,_,c,_,rfl,M.se.gh,M.se.gh.ins d1,(by kernel_rfl),d5,eu,d9,λl xs H3 s3 hl b5 c2 e2=>?_⟩;have a0:=iU.same (O:=O2) M.se.gh s3;have C:=M.grow a0 (M.led.same s3) M.ok;have bx:=s3 _ _ an;have S:=s3 _ _ a9;have lx:=Paired.length c2;refine⟨_,rfl,_,.inl ⟨xs,ff.of b5,rfl⟩,?_⟩;by_cases hxe:xs=[];subst hxe;refine fz ?_;have b8:c.listed (iD (c.LT g2.part) g2.sd.dead)=[]:=bO.mp lx.symm;have be:∀k∈c.ks,k.1=g2.part->c.has g2.sd.dead k:=λk hk al=>Classical.byContradiction λz=>by have:k∈c.listed (iD (c.LT g2.part) g2.sd.dead):=eD.Lf.mpr ((nO k).mpr (eD.LK.mpr ⟨hk,al,z⟩));rw[b8]at this;cases this
 have c8:∀f∈o++[g2],i4 c Lake f.sd:=λf hf=>by rcases aA.mp hf with z|z;exact(d.fks f (ck.mpr z)).2;rw[aj.mp z];exact d.sd
 have b1:qu c (o++[g2]):=by have:=d.mono g2 rfl;rw[cX]at this;exact this
 refine⟨_,rfl,p,dx,_,rfl,bx,(by kernel_rfl),_,rfl,p,dx,_,rfl,bx,(by kernel_rfl),_,rfl,λkd a6=>?_⟩;have s4:=eJ a6 (.dK []);have em:upd H3 kd (.dK []) kd=some (.dK []):=er;generalize upd H3 kd (.dK [])=H4 at *;have b4:=iU.same (O:=O2) C.se.gh s4;have S4:=C.grow b4 (C.led.same s4) C.ok;have ev:kd∉O2:=λz=>by obtain⟨u,D⟩:=C.led.liv kd z;rw[a6]at D;cases D
 refine⟨U,p,Y,le,N,c,Lake,O2,r,o++[g2],o.length,a,g2,kd,[],none,rfl,S4.se,S4.led,S4.ok,S4.fk,S4.sep,b1,c8,by rw[aD,aP];lia,ha,bf,a1.open_,.inl em,ev,rfl,λk hk al=>.inl (be k hk al),λm hm=>?_,?_⟩;intro j1 j2 h1 h2 e;have R:=(hm j1 h1).resolve_right (by rintro⟨_,_,_,z,_⟩;exact nomatch z);have z2:=(hm j2 h2).resolve_right (by rintro⟨_,_,_,z,_⟩;exact nomatch z);exact d.sd.one j1 j2 R z2 e;intro G5 H5 O5 L5 j e v bv ah eq cp cd a7;have I:=S4.grow v bv ah;have c0:∀j,c.has e.1 j->c.has g2.sd.picked j:=λj hj=>(cd j hj).resolve_right (by rintro⟨_,_,_,z,_⟩;exact nomatch z);have bd:=ai cp;have b6:fX c L5 o.reverse g2.sd:=d.led λx hx=>by obtain⟨X,hX⟩:=eq;rw[hX];exact aO _ hx
 have bm:∀f∈o++[g2],∀k,f.bit=some k->k∈c.ks:=λf hf k hk=>by rcases aA.mp hf with z|z;exact((d.fks f (ck.mpr z)).1.bit k hk).1;rw[aj.mp z]at hk;exact(a1.bit k hk).1
 refine⟨G5,p,Y,le,N,c,L5,O5,r,o++[g2],j,e,rfl,I.se,I.led,I.fk,I.sep,cp,by rw[aD,aP];lia,bm,λn H6 hn eb s6 es=>?_⟩;have e0:∀y∈N::r.map (·.2),∃u,H5 y=some u/\¬u5 u:=λy Z=>by rcases ao.mp Z with z|z;exact⟨.lst _,by rw[z];exact I.fk.l,λq=>q⟩;obtain⟨a',J,rfl⟩:=aC.mp z;obtain⟨t,ht⟩:=aB.mp J;obtain⟨fk,_,_,sx,wa,ad,_⟩:=Paired.K8 I.fk.p ht;exact⟨.ins _ _ _,ad,λq=>q⟩
 have c3:∀y∈N::r.map (·.2),G5 y=none:=λy Z=>by rcases ao.mp Z with z|z;rw[z];exact I.fk.offl;obtain⟨a',J,rfl⟩:=aC.mp z;exact(I.fk.off a' J).2
 have cx:∀y∈O5,y∉N::r.map (·.2):=λy Z z=>by rcases ao.mp z with z|z;exact I.sep.1 (z▸Z);obtain⟨a',J,rfl⟩:=aC.mp z;exact(I.sep.2 a' J).2 Z
 have g6:eL G5 H6:=iG I.se.gh c3 s6.toF;have dl:gK CL G5 H6 le Y c L5 O5:=I.led.grow (eL.refl _) I.led.off λy Z=>by obtain⟨u,D⟩:=I.led.liv y Z;rw[s6 y u (by rw[eM (cx y Z)];exact D),D]
 have S6:SS CB CC CL CS CF CT G5 H6 p Y le N c L5 O5 (r.take n) (c.MC e.1 ((o++[g2]).take n)):=⟨I.se.grow (eL.refl _) g6,dl,ah,es,I.sep.1,λa' J=>I.sep.2 a' (dG J)⟩;have b7:jf H O H6 O5:=ap.trans ((a0.MF.trans (b4.MF.trans v.MF)).trans (jf.del s6.toF e0));have c4:eL G G5:=bq.trans v.gg;have a4:zg H O G G5:=λx u h f n g=>v.off (bl x u h f n g) ((ap.trans (a0.MF.trans b4.MF)) x u h f n).1;rcases zc b6 a1 bd (ah.lt e bd) c0 eb with ⟨R,z2⟩|⟨B3,g3,R,z2,z3,z4,z5⟩;have ej:c.MC e.1 ((o++[g2]).take n)=[]:=by rw[R];rfl
 rw[ej]at S6;refine⟨0,Nat.succ_pos _,G5,L5,O5,r.take n,[],_,_,rfl,c4,b7,a4,S6,.inl ⟨rfl,rfl,e,?_,z2⟩⟩;rcases a7 a3 with y|⟨_,y⟩;exact absurd z2 (y e bd);exact y;rw[R]at S6;refine⟨_,Nat.succ_lt_succ z4,G5,L5,O5,r.take n,B3++[g3],_,_,rfl,c4,b7,a4,S6,.inr ⟨B3,g3,rfl,rfl,bz (cA z4) c5,z2,z3,?_⟩⟩;rcases a7 a3 with y|⟨y,_⟩;exact y;exact absurd y z5;have da:(!xs.isEmpty)=true:=by cases xs with|nil=>exact absurd rfl hxe|cons a b=>rfl
 rw[da];refine gY ?_;have ea:c.listed (iD (c.LT g2.part) g2.sd.dead)≠[]:=λz=>hxe (bO.mp (by rw[lx,z];rfl));obtain⟨k,hkl⟩:∃k,(c.listed (iD (c.LT g2.part) g2.sd.dead)).getLast?=some k:=⟨_,List.getLast?_eq_some_getLast ea⟩;obtain⟨hk,al,a6,a5⟩:=yM nO hkl;obtain⟨x,a2,ba⟩:∃x,xs[xs.length-1]?=some x/\fj U x k:=by
  have h1:(c.listed (iD (c.LT g2.part) g2.sd.dead))[xs.length-1]?=some k:=by rw[lx,<-List.getLast?_eq_getElem?];exact hkl
  obtain⟨x,R,z2⟩:=iu c2 (i:=((xs.length-1:Nat):Int)) (by rw[ii];exact h1);rw[ii]at R;exact⟨x,R,z2⟩
 have g3:=C.se.gh;refine⟨_,rfl,p,dx,_,V.ref Y,rfl,bx,(by kernel_rfl),Y,gx,_,V.ref as,rfl,g3.ins d1,(by kernel_rfl),_,rfl,_,rfl,l,_,_,x,rfl,rfl,ff.of b5,oW a2,as,_,rfl,(d4.f g3).get (w:=some k) (gQ hk) (fj.f g3 ba),_,rfl,a.1,fx,_,rfl,S,(by show 3<1000;decide),?_⟩;rw[Fd];have c6:=ai ha;have ct:∀{y dy y1 y2 y3},H3 y=some (.ins CT dy (zj y1 y2 y3))->y≠a.1:=λh=>Ne.symm (zH S h);have fr:l≠a.1:=fF b5 S λz=>nomatch z;have aa:∀b,b≠a.1->upd H3 a.1 (.ins CF fx (uF (.str g2.part) (.ref a.2) (.int (c.La (some k):Nat)))) b=H3 b:=λb hb=>eB hb;have co:upd H3 a.1 (.ins CF fx (uF (.str g2.part) (.ref a.2) (.int (c.La (some k):Nat)))) a.1=some (.ins CF fx (uF (.str g2.part) (.ref a.2) (.int (c.La (some k):Nat)))):=er;generalize upd H3 a.1 (.ins CF fx (uF (.str g2.part) (.ref a.2) (.int (c.La (some k):Nat))))=H4 at *;have g4:eL U H4:=λb u e=>by
  have nb:b≠a.1:=λz=>by rw[z,(C.fk.off a c6).1]at e;cases e
  rw[aa b nb];exact g3 b u e
 have dp:a.1∉O2:=(C.sep.2 a c6).1;have ag:gK CL U H4 le Y c Lake O2:=C.led.grow (eL.refl _) C.led.off λy Z=>aa y λz=>dp (z▸Z);obtain⟨⟨fx3,hfa3⟩,hst3⟩:nu CF CT U H3 c a g2:=by obtain⟨c1,R,z2⟩:=Paired.K8 C.fk.p ha;rw[bf]at R;cases R;exact z2
 have ei:N≠a.1:=fF C.fk.l S λz=>nomatch z;have ec:∀(t:Nat) (b:dY×dY),r[t]?=some b->t≠o.length->b.1≠a.1:=λt b hb ht z=>by
  have a2:(r.map (·.1))[t]?=some b.1:=by rw[ae,hb];rfl
  have ba:(r.map (·.1))[o.length]?=some a.1:=by rw[ae,ha];rfl
  rw[z]at a2;exact ht ((cg (af.mp a2).1 C.fk.nd1).mp (a2.trans ba.symm))
 have a8:md CT U H4 a.2 g2.sd:=by obtain⟨sx,wa,ad,e4⟩:=hst3;exact⟨sx,wa,by rw[aa _ (ct ad)];exact ad,e4⟩
 have b9:jm CF CT U H4 c N r (o++[{g2 with bit:=some k}]):=by
  refine⟨by rw[aa N ei];exact C.fk.l,kD (by rw[aD,aP];exact lA) λt b fk h1 h2=>?_,C.fk.offl,C.fk.off,C.fk.nd1,C.fk.nd2⟩;by_cases ht:t=o.length;subst ht;rw[ha]at h1;cases h1;rw[bh (am _),bW]at h2;have:({g2 with bit:=some k}:Fk)=fk:=by simpa using h2
  subst this;exact⟨⟨fx,co⟩,a8⟩;have c7:t<o.length:=by have:=(af.mp h2).1;rw[aD,aP]at this;lia
  rw[aQ c7]at h2;obtain⟨c1,R,⟨y1,z2⟩,y2,w2,z3,z4⟩:=Paired.K8 C.fk.p h1;rw[aQ c7,h2]at R;cases R;exact⟨⟨y1,by rw[aa _ (ec t b h1 ht)];exact z2⟩,y2,w2,by rw[aa _ (ct z3)];exact z3,z4⟩
 have c9:kO c {g2 with bit:=some k}:=⟨a1.open_,a1.rule,λj hj=>by cases hj;exact⟨hk,al,a5⟩⟩;have ds:H4 p=some (.ins CS dx (xW Y le N)):=g4.ins hp;have S4:SS CB CC CL CS CF CT U H4 p Y le N c Lake O2 r (o++[{g2 with bit:=some k}]):=⟨C.se.grow (eL.refl _) g4,ag,C.ok,b9,C.sep⟩;have cy:jf H3 O2 H4 O2:=jf.del (ys:=[a.1]) (λb u hb=>by
  have nb:b≠a.1:=λz=>by rw[z,gc (by simp)]at hb;cases hb
  rw[aa b nb];exact .inl (fM _ _ b u hb)) λy Z=>by rw[aj.mp Z];exact⟨_,S,λq=>q⟩
 refine⟨_,rfl,p,dx,_,rfl,ds,(by kernel_rfl),_,rfl,U,p,Y,le,N,c,Lake,O2,a,{g2 with bit:=some k},k,rfl,S4.se,ag,S4.ok,⟨⟨fx,co⟩,a8⟩,rfl,c9,d.sd,a6,?_⟩;intro G5 H5 s5 d5 v cn ek cv ⟨cz,b3⟩ dn;have bv:gK CL G5 H5 le Y c Lake O2:=ag.grow v.gg (λy Z=>by obtain⟨u,D⟩:=ag.liv y Z;exact v.off (ag.off y Z) D) dn;have I:=S4.grow v bv S4.ok;have a4:zg H O G G5:=λx u h f n g=>v.off (bl x u h f n g) ((ap.trans (a0.MF.trans cy)) x u h f n).1;refine q1 G5 H5 Lake O2 r _ s5 d5 (bq.trans v.gg) (ap.trans (a0.MF.trans (cy.trans v.MF))) a4 I ?_ a3 cv ek (λz=>?_) (λz=>?_) (by rw[AZ (g:=g2) (g':={g2 with bit:=some k}) rfl rfl];exact c5);rw[cF,List.reverse_singleton,List.singleton_append];exact .cons d c9 b3 cz;obtain⟨u,D⟩:=ag.liv s5 z;rw[cn]at D;cases D;obtain⟨a',J,rfl⟩:=aC.mp z;obtain⟨t,ht⟩:=aB.mp J;obtain⟨fk,_,_,sx,wa,ad,_⟩:=Paired.K8 b9.p ht;rw[cn]at ad;cases ad
end
end
section
structure BW (K:W.Frag)(x qual:Str)(st:Stmt)(f:dY)(fd:eg)(c:dY):Prop where
 ex:∃(oc:dZ) (od:el dY) (kV doc pm:dZ) (an:el dY) (ct:dZ) (osl:Array (el dZ)),
  fd=W.fnOf x qual (io st) (gO st) (eK st) .none kV doc pm an (.ref c) ct/\K.lookup f=some ⟨oc,od,.func fd,osl⟩/\W.codeIn K (.ref c) qual=true
 kp:W.keepIn K (.ref f)=true
section
variable {P:ee}{w:World}{K:W.Frag}{mg:Str->el dZ}{base:Heap}
def BW.ok {x qual:Str}{st:Stmt}{f c:dY}{fd:eg}{N ps:ef Str}{k:Nat}{sp:Sp}(F:BW K x qual st f fd c)(S:eQ N ps (eK st))(len:∀vs H Q E,sp vs H Q E->vs.length=ps.length)(a:∀(A:dX) (outer:ef Env) (s:d0) (H:Hp) (vs:ef V) (Q:VK) (E:XK),gU k (A.deeper (envOfC qual (eK st) s.heap.objs.size f (.ref c)))->sp vs H Q E->∃t,ni (qG fC P w K mg base N qual (eK st) f (.ref c) A outer s H E).nox (gO st) t/\t {nx:=λ_ H'=>Q .non H',rt:=Q} (start N vs) H):fB P w K mg base fC (k+1) f fd ps sp:=by obtain⟨m,p,kV,i,l,o,r,j,rfl,e,d⟩:=F.ex;refine DW e d S len λA outer s H vs Q E g b=>?_;obtain⟨t,h,q⟩:=a A outer s H vs Q E g b;exact⟨t,h.nox,q⟩
end
end
section
seal ni PS PE PT PA
def yJ:Pos:=match gO ui with
 |(.Assign _ (.Call _ _ [⟨_,.Lambda _ _ _ lp,_⟩] _) _)::_=>lp
 |_=>⟨0,0,0,0⟩
def zy:Str:=(envOfC "Search.next_part" (eK ui) 0 0 .none).qual++"<lambda>"
theorem Bq {names:ef (Str×NameKind)}{y y':Str}(h:∀p∈names,p.2=.free->p.1=y\/p.1=y'):∀z,names.lookup z=some .free->z=y\/z=y':=λz hz=>by
 induction names with|nil=>cases hz|cons a l ih=>
  rw[bg]at hz;by_cases e:(z == a.1)=true;rw[e]at hz;have e1:z=a.1:=by simpa using e
  have b:a.2=.free:=Option.some.inj hz;rw[e1];exact h a (by simp) b;have d:(z == a.1)=false:=by cases hh:(z == a.1) <;> simp_all
  rw[d]at hz;exact ih (λp hp=>h p (by simp[hp])) hz
def Dd {c:eD}{x:Str}{s:Sd}:c.listed (iD (c.LT x) s.dead)=c.left x s:=by unfold eD.listed eD.left;refine List.filter_congr λk b=>?_;rw[cT,aF,aw,bQ,decide_eq_false_iff_not];have a:=nO (c:=c) (x:=x) (s:=s) k;rw[eD.LK]at a;exact⟨λz=>(a.mp ⟨b,z⟩).2,λz=>(a.mpr ⟨b,z⟩).2⟩
inductive Hy (CB CC CS CT:dY)(tq:Str)(lp:Pos)(PT':dY)(vs:ef V)(H:Hp)(Q:VK)(E:XK):Prop
 |mk (G:Hp)(p ch le fl s:dY)(c:eD)(L:iA)(sd:Sd)(_:vs=[.ref p,.ref s])(_:Se CB CC CS G H p ch le fl c)(_:md CT G H s sd)(_:i4 c L sd)(_:sd.wanted≠[])(_:ic tq lp H PT')(_:G PT'=none)(_:∀(x:Str) (H':Hp),x∈sd.wanted.map (·.1)->c.Rule x sd->eN (del H [PT']) H'->ic tq lp H' PT'->Q (.str x) H')
def vc (CB CC CS CT:dY)(tq:Str)(lp:Pos)(PT':dY):Sp:=Hy CB CC CS CT tq lp PT'
section
variable {P:ee}{w:World}{K:W.Frag}{mg:Str->el dZ}{base:Heap}{f cd:dY}{fd:eg}
def El:eQ ["self","stand","fewest","first"] ["self","stand"] (eK ui):=iW
def CP {CB CC CS CT PP:dY}(F:BW K "next_part" "Search.next_part" ui f fd cd)(a3:W.codeHdIn K cd PP=true)(BM:tZ mg base)(T:t9 K mg CS)(as:TC K mg CC)(TT:Dw K mg CT)(GC:Gd P w K mg base fC 1 "count_picks" ["mask"] wA)(ML:Mt P w K mg base CS fC 1 "left" ["self","stand","part"] (xK CB CC CS CT)):fB P w K mg base fC 5 f fd ["self","stand"] (vc CB CC CS CT zy yJ PP):=by
 refine F.ok El (λvs H Q E h=>?_) (λA a7 s H vs Q E hr h=>?_);obtain⟨G,p,ch,le,fl,s,c,L,sd,rfl,_⟩:=h;rfl;obtain⟨G,p,ch,le,fl,N,c,L,sd,rfl,hS,a6,aa,a0,hT,gP,q⟩:=h;have hu:=gH hr;refine⟨_,(et (eO (i:=2) El.nd (Cz (k:=2) (x:="part") (y:="stand") (y':="self") (j:=1) (j':=0) (cy:=s.heap.objs.size+2) (cy':=s.heap.objs.size+1) rfl hr ⟨rfl,rfl,rfl,rfl,rfl,rfl,rfl,by decide +kernel,Bq (by decide +kernel),rfl,rfl,rfl,rfl,rfl,rfl,Or.inr (Or.inl rfl),Or.inr (Or.inl rfl),by decide +kernel,by decide +kernel,by decide +kernel⟩ rfl a3 BM rfl rfl T.min (eT TT.cl TT.nWa (pv 1)) (λ_ _ _ _=>rfl) (λq c' s H=>fG GC (gU.mono (gU.deeper (gU.in1 hr) _) (by decide:1<=2)) (eo (iq ML (gU.mono (gU.deeper (gU.in1 hr) _) (by decide:1<=2)) fN (pv 2) (eo (pv 1) (eo (pv 0) eA))) eA)))) (et (eO (i:=3) El.nd (eP fw (ig (uR rfl) rfl T.list cZ (eo (eT TT.cl TT.nWa (pv 1)) eA)) eF)) (et (fm (PW.pt (lH (gN (nH hu (pv 3) (fg hu (eT as.cl as.nAl (eT T.cl T.nCh (pv 0))) iJ))) (jX (fD DS (fG GC (hr.mono (by decide:1<=4)) (eo (iq ML (hr.mono (by decide:1<=4)) fN (pv 0) (eo (pv 1) (eo (pv 2) eA))) eA)) eF (fQ _))))) (eE (eU (pv 3))) eV) (eE (eU (pv 2)))))),?_⟩;obtain⟨dx,hp⟩:=hS.self;have bf:=hS.gh.ins hp;obtain⟨sx,Z,R,wo,g,I,J⟩:=id a6;have lw:=Paired.length J;obtain⟨⟨x0,u0⟩,wr,hw0⟩:∃xu wr,sd.wanted=xu::wr:=by cases h:sd.wanted with|nil=>exact absurd h a0|cons a b=>exact⟨a,b,rfl⟩
 have t:0<g.length:=by rw[lw,hw0];exact Nat.succ_pos _
 have o:∀(i:Nat) (m:gM×V),g[i]?=some m->∃x u,sd.wanted[i]?=some (x,u)/\m.1=Sum.inr x:=λi m h=>by obtain⟨⟨x,u⟩,B,D⟩:=Paired.K8 J h;exact⟨x,u,B,D.1⟩
 have hP:∃u,H PP=some u/\u5 u:=by rcases hT with z|⟨c',z,_⟩;exact⟨_,z,trivial⟩;exact⟨_,z,trivial⟩
 have nP:∀{a C d fs},H a=some (.ins C d fs)->a≠PP:=λ{a C d fs} h z=>by obtain⟨u,B,D⟩:=hP;rw[z,B]at h;cases h;exact D
 refine⟨_,rfl,N,sx,_,V.ref Z,rfl,R,(by kernel_rfl),Z,wo,g,V.ref N,V.ref p,rfl,hS.gh.frz I,t,hT,rfl,rfl,λH2 sm a1=>?_⟩;have g2:eL G H2:=iG hS.gh (O:=[PP]) (λa ha=>by rw[aj.mp ha];exact gP) sm.toF;have ag:Se CB CC CS G H2 p ch le fl c:=hS.grow (eL.refl _) g2;have a5:=g2.ins hp;have r:H2 N=some (.ins CT sx (zj (.int (sd.picked:Nat)) (.int (sd.dead:Nat)) (.ref Z))):=sm _ _ (by rw[eM (by simpa using nP R)];exact R);have an:md CT G H2 N sd:=⟨sx,Z,r,wo,g,I,J⟩;refine⟨λi=>match sd.wanted[i]? with
  |some xu=>((c.listed (iD (c.LT xu.1) sd.dead)).length:Nat)
  |none=>0,λi m hi=>?_,λi m hi ba=>?_⟩
 obtain⟨x,u,B,D⟩:=o i m hi;dsimp only;rw[B,D];exact⟨_,rfl,p,dx,_,rfl,a5,(by kernel_rfl),_,rfl,_,rfl,G,p,ch,le,fl,N,c,sd,x,rfl,ag,an,c,_,rfl,jQ (c.Ls _),rfl,rfl⟩;obtain⟨x,u,B,D⟩:=o i m hi;rw[D];have ap:x∈sd.wanted.map (·.1):=aC.mpr ⟨(x,u),ai B,rfl⟩;refine⟨_,rfl,N,sx,_,V.ref Z,rfl,r,(by kernel_rfl),Z,g,rfl,.inr ⟨wo,g2.frz I⟩,λl hl=>?_⟩;have Y:=eJ hl (.lst (g.map λm=>kV m.1));obtain⟨kv0,kvr,hk0,hk1⟩:∃kv0 kvr,g=kv0::kvr/\kv0.1=Sum.inr x0:=by cases hwk:g with|nil=>rw[hwk]at t;cases t|cons a b=>obtain⟨x',u',y1,y2⟩:=o 0 a (by rw[hwk];rfl);rw[hw0]at y1;cases y1;exact⟨a,b,rfl,y2⟩
 have a9:upd H2 l (.lst (g.map λm=>kV m.1)) l=some (.lst (V.str x0::kvr.map λm=>kV m.1)):=by rw[er,hk0,aH,hk1];rfl
 generalize upd H2 l (.lst (g.map λm=>kV m.1))=H3 at *;have g3:eL G H3:=g2.trans Y.toF;have ad:=g3.ins hp;refine⟨l,_,_,V.str x0,rfl,rfl,ff.of a9,nh,?_⟩;obtain⟨gx,gb,a4,bl,bq,al,be,bm,bd,d1,d2,d3,d4,d5,d6,d7,d8,d9⟩:=hS.chart.ex;obtain⟨da,e1,oa,S,e2,e3,e4⟩:=(d7.f g3).get (w:=none) jr rfl;refine⟨_,rfl,_,rfl,p,dx,_,V.ref ch,rfl,ad,(by kernel_rfl),ch,gx,_,V.ref al,rfl,g3.ins d1,(by kernel_rfl),al,_,rfl,e1,da,_,rfl,.inl ⟨S,Sum.inr x0,.inr ⟨oa,e2⟩,rfl,rfl⟩,_,rfl,?_⟩;have a8:(fc S (Sum.inr x0)).isSome=decide (x0∈c.start):=by by_cases hx:x0∈c.start;rw[e4 x0 hx,aq hx];rfl;rw[au hx];cases hq:fc S (Sum.inr x0) with|none=>rfl|some v=>have:=i5 hq;rw[e3]at this;obtain⟨y,hy,e⟩:=aC.mp this;rw[Sum.inr.inj e]at hy;exact absurd hy hx
 rw[a8];have h0:(sd.wanted.map (·.1))[0]?=some x0:=by rw[hw0];rfl
 have M:x0∈sd.wanted.map (·.1):=by rw[hw0];exact bC
 have U:eN (del H [PP]) H3:=sm.trans Y;have X:ic zy yJ H3 PP:=by rcases a1 with z|⟨c',B,D⟩;exact .inl (Y _ _ z);exact .inr ⟨c',Y _ _ B,Y _ _ D⟩
 have a2:=ag.same Y;have ah:md CT G H3 N sd:=⟨sx,Z,Y _ _ r,wo,g,I,J⟩;by_cases hx:x0∈c.start;rw[aq hx];refine gY ?_;refine⟨_,rfl,p,dx,_,rfl,ad,(by kernel_rfl),_,rfl,_,rfl,G,p,ch,le,fl,N,c,sd,x,rfl,a2,ah,c,_,rfl,jQ (c.Ls _),_,_,rfl,rfl,_,rfl,?_⟩;dsimp only;rw[Dd];by_cases h1:(1:Int)<((c.left x sd).length:Nat);rw[aq h1];exact gY ⟨_,rfl,q x0 H3 M (sE aa h0 (.inl ⟨rfl,hx⟩)) U X⟩;rw[au h1];exact fz ⟨_,rfl,q x H3 ap (sE aa h0 (.inr (.inr (by omega)))) U X⟩;rw[au hx];refine fz (fz ⟨_,rfl,q x H3 ap (sE aa h0 (.inr (.inl hx))) U X⟩)
end
def eD.MR (c:eD)(n:Nd)(k:Pk):ef Pk:=((jz c.es n).filter λv=>decide (k.2<v)).map λv=>(k.1,v)
inductive wy (CB CC CS CF CT:dY)(vs:ef V)(H:Hp)(Q:VK)(E:XK):Prop
 |mk (G:Hp)(p ch le fl:dY)(c:eD)(O:ef dY)(a:dY×dY)(fk:Fk)(k:Pk)(_:vs=[.ref p,.ref a.1])(_:Se CB CC CS G H p ch le fl c)(_:nu CF CT G H c a fk)(_:fk.bit=some k)(_:k∈c.ks)(_:k.1=fk.part)(_:fk.part∈(c.needs none).map (·.1))(_:∀a∈O,∃u,H a=some u)(_:∀(G' H':Hp) (l:dY) (xs:ef V) (n:Nd),iU G H O G' H' O->(∀a∈O,H' a=H a)->H l=none->G' l=none->H' l=some (.lst xs)->(c.needs none)[((c.needs none).map (·.1)).idxOf fk.part]?=some n->n.1=fk.part->Paired (fj G') xs (c.MR n k)->Q (.ref l) H')
def He:(["version","picked","fork"]:ef Str).Nodup:=by decide +kernel
section
variable {P:ee}{w:World}{K:W.Frag}{mg:Str->el dZ}{base:Heap}{f:dY}{fd:eg}
def zK:eQ ["self","fork","need","picked"] ["self","fork"] (eK rZ):=iW
def AK {CB CC CS CF CT:dY}(F:iE K "newer_picks" "Search.newer_picks" rZ f fd)(T:t9 K mg CS)(g:TC K mg CC)(ag:TB K mg CB)(TF:BN K mg CF)(MN:Mt P w K mg base CS fC 1 "place_of_need" ["self","who","part"] (pf CB CC CS))(MM:Mt P w K mg base CB fC 2 "meeting" ["self","need"] (kJ CB)):fB P w K mg base fC 3 f fd ["self","fork"] (wy CB CC CS CF CT):=by
 refine F.ok zK λcp A b3 s H vs Q E hr h=>?_;obtain⟨G,p,I,le,fl,c,O,a,m,k,rfl,e,bq,ap,hk,a9,al,ah,q⟩:=h;have hu:=gH hr;refine⟨_,(et (eO (i:=2) zK.nd (eP fw (fg hu (eT ag.cl ag.nN (eT g.cl g.nBoard (eT T.cl T.nCh (pv 0)))) iJ) (iq MN (hr.mono (by decide:1<=2)) fN (pv 0) (eo iJ (eo (eT TF.cl TF.nPa (pv 1)) eA))))) (et (eO (i:=3) zK.nd (eP eW (hJ hu (eT g.cl g.nBy (eT T.cl T.nCh (pv 0))) (eT TF.cl TF.nBi (pv 1))) eF)) (eE (eU (i7 (N':=["version","picked","fork"]) (n:=1) (js:=[3,1]) rfl (iR.two (c:=s.heap.objs.size+2) (c':=s.heap.objs.size+1) (y:="picked") (y':="fork")) (iC (by decide)) (fL (iq MM hr fN (eT g.cl g.nBoard (eT T.cl T.nCh (pv 0))) (eo (pv 2) eA))) (λC s2 Z fp=>eR (i:=0) He) (λC s2 Z fp=>mP (fD DS (pv 0) (pv 1) (fQ _))) (λC s2 Z fp=>gL (eo (eT TF.cl TF.nPa (pv 2)) (eo (pv 0) eA)))))))),?_⟩;obtain⟨dx,hp⟩:=e.self;have X:=e.gh.ins hp;obtain⟨⟨fx,B⟩,b8⟩:=bq;have b5:c.La m.bit=c.bit k:=by rw[ap];rfl
 rw[b5]at B;obtain⟨gx,gb,b2,an,co,cs,cn,ct,a6,d1,d2,d3,d4,⟨bm,bv,a3⟩,d6⟩:=e.chart.ex;obtain⟨b9,a1,pq,rfl,b1⟩:=a3 k hk;obtain⟨bx,dn,dv,a4,bf⟩:=jx (d2.f e.gh) (d3.f e.gh);obtain⟨na,ba,zs,hz,b4⟩:=bf none .non jr rfl;obtain⟨n,aa,b6⟩:=xc al;refine⟨_,rfl,p,dx,_,V.ref I,rfl,X,(by kernel_rfl),I,gx,_,V.ref gb,rfl,e.gh.ins d1,(by kernel_rfl),gb,bx,_,_,rfl,a4,fE _ _,dn,_,rfl,ba,_,rfl,p,dx,_,rfl,X,(by kernel_rfl),_,rfl,a.1,fx,_,V.str m.part,rfl,B,(by kernel_rfl),G,p,I,le,fl,c,.non,none,m.part,rfl,e,jr,rfl,al,λH1 S=>?_⟩;obtain⟨zv,a7,be⟩:=iu b4 (show ij (c.needs none) ((((c.needs none).map (·.1)).idxOf m.part:Nat):Int)=some n by rw[ii];exact aa);refine⟨na,_,_,zv,rfl,rfl,ff.of (S _ _ hz),i8 a7,?_⟩;have g1:eL G H1:=e.gh.trans S.toF;have ad:=S _ _ X;have r:=S _ _ B;refine⟨_,rfl,p,dx,_,V.ref I,rfl,ad,(by kernel_rfl),I,gx,_,V.ref an,rfl,g1.ins d1,(by kernel_rfl),_,rfl,a.1,fx,_,V.int (c.bit k:Nat),rfl,r,(by kernel_rfl),an,V.ref pq,rfl,.inl ⟨bm,Sum.inl (c.bit k:Int),g1.rd bv,rfl,a1.symm⟩,pq,_,_,V.int k.2,rfl,rfl,gC.of (g1.tup b1),rfl,?_⟩;refine⟨_,rfl,p,dx,_,V.ref I,rfl,ad,(by kernel_rfl),I,gx,_,V.ref gb,rfl,g1.ins d1,(by kernel_rfl),gb,bx,_,rfl,S _ _ a4,qi _ _ (by decide +kernel) (by decide +kernel),_,rfl,gb,a6,c.es,_,n,rfl,d2.f g1,fH.same S be,by rw[<-c.n_eq];exact e.n,λl0 ms Z s2 cd L a8 bl=>?_⟩;have a2:=mW a8 bl;subst a2;have d:=S.trans s2;refine⟨l0,rfl,⟨_,ff.of L⟩,?_⟩;have cv:(jz c.es n).length<64:=by have h1:=lM c.es n;have Y:=e.n;rw[c.n_eq]at Y;omega
 refine iy (xs:=(jz c.es n).map V.int) (λD i ys o=>∃j,iU G H O j o O/\Z D=none/\j D=none/\o D=some (.lst ys)/\eN (del Z [D]) o/\Paired (fj j) ys ((((jz c.es n).take i).filter λv=>decide (k.2<v)).map λv=>(k.1,v)))
  (λD hD=>⟨G,(iU.same e.gh d).own (d.free hD) (e.gh.free (d.free hD)),hD,e.gh.free (d.free hD),er,λb u J=>by
   have nb:b≠D:=λz=>by rw[z,gc (by simp)]at J;cases J
   rw[eB nb];exact fM _ _ b u J,by rw[db];exact .nil⟩)
  (λD i ys o hi ⟨j,M,l,e3,U,R,N⟩=>⟨ff.of (R _ _ (by rw[eM (by simpa using eG L l)];exact L)),U,?_⟩) (λD i y ys o hi ⟨j,M,l,e3,U,R,N⟩=>?_) (λD ys o ⟨j,M,l,e3,U,R,N⟩=>?_)
 have h1:=Paired.length N;rw[ab]at h1;have Y:=bD (λv=>decide (k.2<v)) ((jz c.es n).take i);rw[aV]at Y;exact eY (by omega);rw[ae]at hi;obtain⟨v,hv,rfl⟩:=ax.mp hi;have a5:∀{x u},Z x=some u->o x=some u:=λ{x u} h=>R _ _ (by rw[eM (by simpa using eG h l)];exact h);unfold jw;refine⟨_,rfl,_,rfl,_,_,rfl,rfl,_,rfl,?_⟩;skip;have as:=fV hv;by_cases hlt:k.2<v;rw[aq hlt];refine gY ⟨_,rfl,a.1,fx,_,V.str m.part,rfl,a5 (s2 _ _ r),(by kernel_rfl),_,rfl,qK,λt ht=>?_⟩;have bd:D≠t:=eG U ht;have gw:=M.trans (iU.put (O:=O) (u:=.tup [.str m.part,.int v]) M.gh ht);have st:=eJ ht (.tup [.str m.part,.int v]);have b7:H D=none:=d.free l;have gD:upd j t (.tup [.str m.part,.int v]) D=none:=by rw[eB bd];exact e3
 refine⟨st _ _ U,upd j t (.tup [.str m.part,.int v]),gw.own b7 gD,l,gD,er,λb u J=>?_,?_⟩;have nb:b≠D:=λz=>by rw[z,gc (by simp)]at J;cases J
 rw[eB nb];exact st _ _ (R _ _ J);rw[as,bR,aG];have e9:([v].filter λv=>decide (k.2<v))=[v]:=by rw[aJ,ay (by simpa using hlt)];rfl
 rw[e9];refine Paired.snoc (Paired.KG N λ_ _=>fj.f ((eL.refl j).upd (M.gh.free ht))) ⟨t,rfl,?_⟩;rw[er,<-a9];rw[au hlt];refine fz ⟨j,M,l,e3,U,R,?_⟩;rw[as,bR,aG];have e9:([v].filter λv=>decide (k.2<v))=[]:=by rw[aJ,av (by simpa using hlt)];rfl
 rw[e9,cQ,bY];exact N;rw[ab,aK]at N;refine q j o D ys n M (λy hy=>?_) (d.free l) e3 U aa b6 N;obtain⟨u,a0⟩:=ah y hy;have Y:=d _ _ a0;rw[R y u (by rw[eM (by simpa using eG Y l)];exact Y),a0]
end
end
section
variable {F:ef Fk}{L:iA}{d:Sd}{g:Fk}{t:Nat}
def zI {α:Type}{l:ef α}{x:α}(h:l[t]?=some x):l=l.take t++x::l.drop (t+1):=by obtain⟨a,b⟩:=af.mp h;subst b;rw[<-df a,List.take_append_drop]
def jR {c:eD}(h:fX c L F.reverse d)(a:F[t]?=some g):fX c L (F.take t).reverse g.sd/\kO c g:=by
 have e:F.reverse=(F.drop (t+1)).reverse++g::(F.take t).reverse:=by
  conv=>lhs;rw[zI a]
  rw[cF,cV,bP];rfl
 exact h.to e
def Dc {c:eD}(h:fX c L F.reverse d){g':Fk}(p:F[t]?=some g)(a:F[t+1]?=some g'):∃k,g.bit=some k/\k∈c.ks/\k.1=g.part/\g'.sd.picked=g.sd.picked ||| c.bit k/\¬c.has g.sd.dead k:=by
 obtain⟨i,_⟩:=jR h a;have e:(F.take (t+1)).reverse=g::(F.take t).reverse:=by rw[bc,p,cF];rfl
 rw[e]at i;have l:=i.live g (by simp);cases i with|cons a1 a2 a3 a4=>obtain⟨k,b,m,q⟩:=a3;obtain⟨o,j,_⟩:=a2.bit k b;exact⟨k,b,o,j,m,l k b⟩
def wg {c:eD}(h:fX c L F.reverse d)(hg:g∈F):∃k,g.bit=some k/\k∈c.ks/\k.1=g.part/\c.has d.picked k/\¬c.has g.sd.dead k:=by
 have a:g∈F.reverse:=ck.mpr hg;obtain⟨l,_⟩:=h.fks g a;have key:∀{R:ef Fk} {s:Sd},fX c L R s->∀g∈R,∃k,g.bit=some k:=by intro R s j;induction j with|nil _ _=>exact λg hg=>nomatch hg|cons _ _ a3 _ ih=>intro g hg;rcases ao.mp hg with rfl|hg;obtain⟨k,b,_⟩:=a3;exact⟨k,b⟩;exact ih g hg
 obtain⟨k,e⟩:=key h g a;obtain⟨m,i,_⟩:=l.bit k e;exact⟨k,e,m,i,(h.sub g a).2.2 k e,h.live g a k e⟩
def eD.MT (c:eD)(pk:Nat)(x:Str):Nat:=c.maskOf λk=>decide (c.has pk k)&&decide (k.1∈c.start.take (c.start.idxOf x))
def eD.MU {c:eD}{pk:Nat}{x:Str}{k:Pk}:c.has (c.MT pk x) k↔c.has pk k/\k.1∈c.start.take (c.start.idxOf x):=by unfold eD.MT;rw[eD.Lr,aF,aw,aw];exact⟨λh=>h.2,λh=>⟨h.1.1,h⟩⟩
def sS {α:Type} [DecidableEq α] {l:ef α}{x:α}{n:Nat}(h:x∈l)(b:l.idxOf x<n):x∈l.take n:=by have a:=bF.mpr h;refine aB.mpr ⟨l.idxOf x,?_⟩;rw[cc,ay b,ak a];exact congrArg some (cm a)
def Dh {α:Type} [DecidableEq α] {l:ef α}{x y:α}(d:x∈l)(e:y∈l)(h:l.idxOf x=l.idxOf y):x=y:=by have a:=cm (bF.mpr d);have b:=cm (bF.mpr e);rw[<-a,<-b];congr 1
def yb {c:eD}(h:fX c L F.reverse d)(J:qu c F){N:Nat}{fk:Fk}{k:Pk}(C:F[N]?=some fk)(e:F[t]?=some g)(b:t<N)(m:fk.part∈c.start)(x:g.bit=some k)(K:¬c.has (c.MT d.picked fk.part) k):∀j∈c.ks,j.1=g.part->c.has g.sd.dead j\/j=k:=by
 obtain⟨D,E⟩:=jR h C;obtain⟨O,p⟩:=jR h e;have a:=E.out D.sd;have q:=wg h (ai e);obtain⟨S,B,R,o,P,G⟩:=q;rw[x]at B;cases B;have A:∀y,c.isP g.sd.picked y->c.isP fk.sd.picked y:=(by rintro y ⟨j,Q,H⟩;exact⟨j,J t N g fk (cA b) e C j Q,H⟩);have s:g∈(F.take N).reverse:=by rw[ck];refine aB.mpr ⟨t,?_⟩;rw[cc,ay b];exact e
 have v:c.has fk.sd.picked k:=(D.sub g s).2.2 k x;have i:¬g.part=fk.part:=λz=>a ⟨k,v,by rw[o,z]⟩;rcases p.rule with ⟨w,I⟩|r|r;exfalso;rcases Nat.lt_trichotomy (c.start.idxOf g.part) (c.start.idxOf fk.part) with z|z|z;exact K (eD.MU.mpr ⟨P,by rw[o];exact sS w z⟩);exact i (Dh w m z);exact a (A _ (I fk.part m z));intro j M l;by_cases hd:c.has g.sd.dead j;exact .inl hd;exact .inr (r j k M R l o hd G);exact absurd (A _ (r fk.part m)) a
def C7 {c:eD}{pk:Nat}{e:Nat×Rs}(g:ib c L)(b:og c.es c.sn (c.listed pk))(d:e∈L)(h:∀j,c.has e.1 j->c.has pk j):False:=by obtain⟨i,m⟩:=aB.mp d;refine DM (ls:=c.lns L) (λi l a=>?_) b i (c.ln e) ?_ λp hp=>eD.Lf.mpr (h p (eD.Lf.mp hp));unfold eD.lns at a;rw[ae]at a;obtain⟨x,o,rfl⟩:=ax.mp a;exact g.good i x o;unfold eD.lns;rw[ae,m];rfl
end
section
seal ni PS PE PT PA
def rE (H:Hp)(O:ef dY)(A:ef (dY×dY))(H':Hp)(O':ef dY):Prop:=∀b u,H b=some u->b∉O->b∉A.map (·.2)->(H' b=some u\/(DH u/\∃o,H' b=some (.frz o u)))/\b∉O'
def iU.frx {G H G' H':Hp}{O O':ef dY}{A:ef (dY×dY)}(g:iU G H O G' H' O'):rE H O A H' O':=λb u h n _=>⟨g.fr b u (by rw[eM n];exact h),g.out n h⟩
def rE.trans {H H1 H2:Hp}{O O1 O2:ef dY}{A:ef (dY×dY)}(a:rE H O A H1 O1)(b:rE H1 O1 A H2 O2):rE H O A H2 O2:=λx u h n m=>by
 obtain⟨z,y⟩:=a x u h n m;rcases z with z|⟨z1,o,z2⟩;exact b x u z y m;obtain⟨w1,w2⟩:=b x _ z2 y m;refine⟨.inr ⟨z1,o,?_⟩,w2⟩;rcases w1 with w|⟨w,_⟩;exact w;exact w.elim
inductive wx (CB CC CL CS CF CT:dY)(vs:ef V)(H:Hp)(Q:VK)(E:XK):Prop
 |mk (G:Hp)(p ch le fl sl:dY)(c:eD)(L:iA)(O:ef dY)(A:ef (dY×dY))(F:ef Fk)(N:Nat)(fk:Fk)(d:Sd)(v:V)(k:Pk)(_:vs=[.ref p,v,.int (c.MT d.picked fk.part:Nat),.ref sl])(_:SS CB CC CL CS CF CT G H p ch le fl c L O A F)(_:fj G v k)(_:F[N]?=some fk)(_:k∈c.ks)(_:k.1=fk.part)(_:c.has fk.sd.dead k)(_:fk.part∈c.start)(_:fX c L F.reverse d)(_:og c.es c.sn (c.listed d.picked))(_:¬c.has d.picked k)(_:H sl=some (.lst ((A.take N).map λa=>V.ref a.1)))(_:sl∉O)(_:∀(G' H':Hp) (L':iA) (O':ef dY) (e:Nat×Rs),eL G G'->rE H O A H' O'->SS CB CC CL CS CF CT G' H' p ch le fl c L' O' A (F.map (c.LE k e.1))->(∃X,L'=L++X)->e∈L'->(∀j,c.has e.1 j->j=k\/c.has (c.MT d.picked fk.part) j)->fX c L' (F.map (c.LE k e.1)).reverse (c.LD k e.1 d)->Q .non H')
section
variable {P:ee}{w:World}{K:W.Frag}{mg:Str->el dZ}{base:Heap}{f:dY}{fd:eg}
def Cl:eQ ["self","pick","kept","forks","place","fork"] ["self","pick","kept","forks"] (eK vm):=iW
theorem AI {CB CC CL CS CF CT:dY}(F:iE K "show_barred" "Search.show_barred" vm f fd)(T:t9 K mg CS)(cx:TC K mg CC)(bm:TL K mg CL)(TF:BN K mg CF)(MA:Mt P w K mg base CS fC 4 "line_against" ["self","pick"] (qp CB CC CL CS CF CT))(MS:Mt P w K mg base CS fC 5 "shut" ["self","fork","known"] (xG CB CC CL CS CF CT))(MM:Mt P w K mg base CS fC 1 "mark_dead" ["self","bit","place"] (xJ CB CC CL CS CF CT)):fB P w K mg base fC 6 f fd ["self","pick","kept","forks"] (wx CB CC CL CS CF CT):=by
 refine F.ok Cl λev A eb s H vs Q E hr h=>?_;obtain⟨G,p,ch,le,fl,sl,c,L,O,AA,FF,N,fk,d,v,k,rfl,l,hv,hN,hk,c3,M,c8,C,cn,cy,ba,an,q⟩:=h;have hu:=gH hr;refine⟨_,(et (eO (i:=4) Cl.nd (iq MA (hr.mono (by decide:4<=5)) fN (pv 0) (eo (pv 1) eA))) (et (fO (EC rfl T.rev (pv 3)) (eR (i:=5) Cl.nd) (eE (fm (vz (fh im (fh im (eP fw (eT bm.cl bm.nMa (eT T.cl T.nLe (pv 0))) (pv 4)) (eT TF.cl TF.nBi (pv 5))) (ja lC (pv 2))) (λ_=>rfl)) (eE (eO (i:=4) Cl.nd (iq MS hr fN (pv 0) (eo (pv 5) (eo (CG (ul (eT TF.cl TF.nBi (pv 5)) (pv 4) wT) rfl rfl (by intro z;cases z) (by decide)) eA))))) eV))) (eE (gF (iq MM (hr.mono (by decide:1<=5)) fN (pv 0) (eo (fg hu (eT cx.cl cx.nBits (eT T.cl T.nCh (pv 0))) (pv 1)) (eo (pv 4) eA))))))),?_⟩;obtain⟨dx,hp⟩:=l.se.self;have dv:=l.se.gh.ins hp;have I:qu c FF:=by have bx:=C.mono ⟨fk.part,d,none⟩ rfl;rw[cX]at bx;intro i i' f f' hi h1 h2;refine bx i i' f f' hi ?_ ?_;rw[aQ (af.mp h1).1];exact h1;rw[aQ (af.mp h2).1];exact h2
 have a8:∀f∈FF,i4 c L f.sd:=λf hf=>(C.fks f (ck.mpr hf)).2;have ag:FF.length<=64:=by have:=C.depth;rw[ci]at this;have:=l.se.n;lia
 obtain⟨cd,dl⟩:=jR C hN;have ah:¬c.isP fk.sd.picked k.1:=by rw[c3];exact dl.out cd.sd
 have ez:N<FF.length:=(af.mp hN).1;have lA:AA.length=FF.length:=Paired.length l.fk.p;have U:=ai hN;have cp:∀j,c.has fk.sd.picked j->c.has d.picked j:=(C.sub fk (ck.mpr U)).1;have d7:∀a b,(a=k\/c.has fk.sd.picked a)->(b=k\/c.has fk.sd.picked b)->a.1=b.1->a=b:=λa b h1 h2 e=>by
  rcases h1 with rfl|h1 <;> rcases h2 with rfl|h2
  rfl;exact absurd ⟨b,h2,e.symm⟩ ah;exact absurd ⟨a,h1,e⟩ ah;exact cd.sd.one a b h1 h2 e
 refine⟨_,rfl,p,dx,_,rfl,dv,(by kernel_rfl),_,rfl,G,p,ch,le,fl,c,L,O,AA,FF,v,k,rfl,l.se,l.led,l.ok,l.fk,hv,hk,I,a8,⟨fk,U,M,ah⟩,ag,?_⟩;intro G1 H1 O1 L1 j1 e1 bd c9 ct cz c5 a2 _;have cs:=bd.keep an ba λz=>z;have ej:=bd.out an ba;refine⟨_,rfl,sl,_,rfl,ff.of cs,?_⟩;refine Dn (K:=K) (a:=sl) (xs:=(AA.take N).map λa=>V.ref a.1) (λi σ H2=>∃(G2:Hp) (O2:ef dY) (Z:iA) (j:Nat) (e:Nat×Rs) (o5:el V),σ=[some (.ref p),some v,some (.int (c.MT d.picked fk.part:Nat)),some (.ref sl),some (.int (j:Nat)),o5]/\iU G H O G2 H2 O2/\gK CL G2 H2 le ch c Z O2/\ib c Z/\(∃X,Z=L++X)/\Z[j]?=some e/\(∀x,c.has e.1 x->x=k\/c.has fk.sd.picked x)/\(∀g,FF[N-i]?=some g->∀x,c.has e.1 x->x=k\/c.has (c.MT d.picked fk.part) x\/c.has g.sd.picked x))
  ⟨G1,O1,L1,j1,e1,none,rfl,bd,c9,ct,cz,c5,λx hx=>a2.2 fk U M x hx,λg hg x hx=>?_⟩ ((by rintro i σ H2 _ ⟨_,_,_,_,_,_,_,o,_⟩;exact ff.of (o.keep an ba λz=>z))) ?_ ?_
 rw[Nat.sub_zero,hN]at hg;cases hg;exact(a2.2 fk U M x hx).imp id .inr;rintro i x σ H2 ed hi ⟨G2,O2,Z,j,e,o5,rfl,o,D,t,aa,R,a3,J⟩;rw[ab,aV]at ed hi;have eu:i<N:=by lia
 have bv:min N AA.length=N:=by lia
 rw[bv,ae,cc]at hi;rw[ay (by lia)]at hi;obtain⟨a,ha,rfl⟩:=ax.mp hi;have a4:=l.fk.grow o l.sep;have r:=zf.grow l.fk o l.sep;obtain⟨g,hg,⟨fx,a5⟩,ei⟩:=Paired.K8 a4.p ha;obtain⟨g',hg'⟩:∃g',FF[N-i]?=some g':=⟨FF[N-i]'(by lia),ak _⟩;have bl:N-1-i+1=N-i:=by lia
 obtain⟨S,b1,b2,b3,b4,b5⟩:=Dc C hg (by rw[bl];exact hg');have ec:c.La g.bit=c.bit S:=by rw[b1];rfl
 rw[ec]at a5;have as:=l.se.grow o.gg o.gh;have al:=o.gh.ins (o.gg.ins hp);obtain⟨lx,ma,re,pm,pp,eq,rs,Ol,hO,dc,ea,c2⟩:=id D.ex;have c6:(Z.map (·.1))[j]?=some e.1:=by rw[ae,R];rfl
 have c4:=t.lt e (ai R);refine⟨_,rfl,p,dx,_,V.ref le,rfl,al,(by kernel_rfl),le,lx,_,V.ref ma,rfl,o.gh.ins dc,(by kernel_rfl),_,rfl,ma,_,_,_,rfl,rfl,ff.of ea,kF c6,_,rfl,a.1,fx,_,V.int (c.bit S:Nat),rfl,a5,(by kernel_rfl),_,_,rfl,rfl,_,rfl,_,rfl,_,_,rfl,rfl,_,rfl,?_⟩;dsimp only;rw[nZ,qH,pX];have hX:∀y,c.has (iD (e.1 &&& c.bit S) (c.MT d.picked fk.part)) y↔(c.has e.1 y/\y=S)/\¬c.has (c.MT d.picked fk.part) y:=λy=>by rw[eD.Li,eD.Lh,eD.Lj b2]
 have b8:∀y,c.has g.sd.picked y->c.has fk.sd.picked y:=I (N-1-i) N g fk (by lia) hg hN;have ap:N-(i+1)=N-1-i:=by lia
 by_cases hc0:iD (e.1 &&& c.bit S) (c.MT d.picked fk.part)=0;rw[aq hc0];refine fz ⟨G2,O2,Z,j,e,_,rfl,o,D,t,aa,R,a3,λg2 a1 y B=>?_⟩;rw[ap,hg]at a1;cases a1;rcases J g' hg' y B with z|z|z;exact .inl z;exact .inr (.inl z);rw[b4]at z;rcases eD.Lg.mp z with u|u;exact .inr (.inr u);have eh:=(eD.Lj b2).mp u;refine .inr (.inl (Classical.byContradiction λnk=>?_));have:=(hX y).mpr ⟨⟨B,eh⟩,nk⟩;rw[hc0]at this;exact eD.Lk this;rw[au hc0];refine gY ?_;have b7:c.has e.1 S/\¬c.has (c.MT d.picked fk.part) S:=by refine Classical.byContradiction λnk=>hc0 (eD.Lm (jQ (oe c4)) λy B=>?_);obtain⟨⟨z1,z2⟩,z3⟩:=(hX y).mp B;rw[z2]at z1 z3;exact nk ⟨z1,z3⟩
 refine⟨_,rfl,p,dx,_,rfl,al,(by kernel_rfl),_,rfl,λkd M=>?_⟩;have d9:a.1≠kd:=eG a5 M;refine⟨_,rfl,a.1,fx,_,V.int (c.bit S:Nat),rfl,(by rw[eB d9];exact a5),(by kernel_rfl),_,rfl,er,[(Sum.inl (c.bit S:Int),V.int (j:Nat))],rfl,(by show 1<=15;decide),?_⟩;rw[jo];have s3:=eJ M (.dK (iT [] [(Sum.inl (c.bit S:Int),V.int (j:Nat))]));have dn:upd H2 kd (.dK (iT [] [(Sum.inl (c.bit S:Int),V.int (j:Nat))])) kd=some (.dK [(Sum.inl (c.bit S:Int),V.int (j:Nat))]):=er;generalize upd H2 kd (.dK (iT [] [(Sum.inl (c.bit S:Int),V.int (j:Nat))]))=H3 at *;have bq:=iU.same (O:=O2) o.gh s3;have ds:kd∉O2:=λz=>by obtain⟨u,ad⟩:=D.liv kd z;rw[M]at ad;cases ad
 have be:=a4.grow bq r;have bf:∀x∈L,x∈Z:=λx hx=>by obtain⟨X,hX⟩:=aa;rw[hX];exact aO _ hx
 refine⟨G2,p,ch,le,fl,c,Z,O2,AA,FF,N-1-i,a,g,kd,_,some (S,j,e.1),rfl,as.same s3,D.same s3,t,be,r,I,λf hf=>(a8 f hf).led bf,ag,ha,hg,(jR C hg).2.open_,.inl dn,ds,⟨b2,rfl,e,R,rfl⟩,λy B d6=>?_,λm hm=>?_,?_⟩;rcases yb C I hN hg (by lia) c8 b1 b7.2 y B d6 with z|z;exact .inl z;exact .inr ⟨j,e.1,by rw[z]⟩;have cv:∀y,c.has m y->y=k\/c.has fk.sd.picked y:=λy B=>by rcases hm y B with z|⟨k0,j0,m0,z1,z2,z3⟩;exact .inr (b8 y z);cases z1;exact a3 y z2
 exact λy1 y2 h1 h2 e=>d7 y1 y2 (cv y1 h1) (cv y2 h2) e;intro G4 H4 O4 L4 j' e' dy c0 b6 da d8 a9 _;have dd:∃X,L4=L++X:=by obtain⟨X,hX⟩:=aa;obtain⟨Y,hY⟩:=da;exact⟨X++Y,by rw[hY,hX,bP]⟩
 refine⟨G4,O4,L4,j',e',_,rfl,o.trans (bq.trans dy),c0,b6,dd,d8,λy B=>?_,λg2 a1 y B=>?_⟩;rcases a9 y B with z|⟨k0,j0,m0,z1,z2,z3⟩;exact .inr (b8 y z);cases z1;exact a3 y z2;rw[ap,hg]at a1;cases a1;rcases a9 y B with z|⟨k0,j0,m0,z1,z2,z3⟩;exact .inr (.inr z);cases z1;rcases J g' hg' y z2 with z|z|z;exact .inl z;exact .inr (.inl z);rw[b4]at z;rcases eD.Lg.mp z with u|u;exact .inr (.inr u);exact absurd ((eD.Lj b2).mp u) z3;rintro σ H2 ⟨G2,O2,Z,j,e,o5,rfl,o,D,t,aa,R,a3,J⟩;rw[ab,aV,show min N AA.length=N by lia,bW]at J;obtain⟨g0,hg0⟩:∃g0,FF[0]?=some g0:=⟨FF[0]'(by lia),ak _⟩;have c7:g0.sd.picked=0:=by have h0:=(jR C hg0).1;rw[db,List.reverse_nil]at h0;cases h0 with|nil h1 _=>exact h1
 have co:∀y,c.has e.1 y->y=k\/c.has (c.MT d.picked fk.part) y:=λy B=>by rcases J g0 hg0 y B with z|z|z;exact .inl z;exact .inr z;rw[c7]at z;exact(eD.Lk z).elim
 have a6:=ai R;have dp:c.has e.1 k:=Classical.byContradiction λnk=>C7 t cn a6 λy B=>by rcases a3 y B with z|z;rw[z]at B;exact absurd B nk;exact cp y z
 have as:=l.se.grow o.gg o.gh;have a4:=l.fk.grow o l.sep;have r:=zf.grow l.fk o l.sep;have al:=o.gh.ins (o.gg.ins hp);obtain⟨gx,gb,a0,ep,es,ew,em,ey,ek,d1,d2,d3,d4,d5⟩:=as.chart.ex;refine⟨_,rfl,p,dx,_,rfl,al,(by kernel_rfl),_,rfl,p,dx,_,V.ref ch,rfl,al,(by kernel_rfl),ch,gx,_,V.ref a0,rfl,o.gh.ins d1,(by kernel_rfl),_,rfl,a0,_,rfl,(d4.f o.gh).get (w:=some k) (gQ hk) (fj.f o.gh (fj.f o.gg hv)),_,rfl,G2,p,ch,le,fl,c,Z,O2,AA,FF,k,j,e,rfl,as,D,a4,R,ag,λH3 s3 be=>?_⟩;have a7:∀{x},x∈AA.map (·.2)->G2 x=none/\x∉O2:=λ{x} hx=>by obtain⟨a,ha,rfl⟩:=aC.mp hx;exact⟨(a4.off a ha).2,(r.2 a ha).2⟩
 have g3:eL G2 H3:=iG o.gh (λx hx=>(a7 hx).1) s3.toF;have c1:gK CL G2 H3 le ch c Z O2:=D.grow (eL.refl _) D.off λy B=>by obtain⟨u,ad⟩:=D.liv y B;rw[s3 y u (by rw[eM (λz=>(a7 z).2 B)];exact ad),ad]
 have b9:=(C.led (L':=Z) λx hx=>by obtain⟨X,hX⟩:=aa;rw[hX];exact aO _ hx).LE hk a6 (t.lt e a6) dp cy;refine q G2 H3 Z O2 e o.gg (o.frx.trans λb u hb n m=>⟨.inl (s3 b u (by rw[eM m];exact hb)),n⟩) ⟨as.grow (eL.refl _) g3,c1,t,be,r⟩ aa a6 co ?_;rw[<-List.map_reverse];exact b9
end
end
section
variable {i:Nat}
def eD.firstM (c:eD)(pk:Nat)(i:Nat):Nat:=c.maskOf λk=>decide (c.has pk k)&&decide (k.1∈c.start.take i)
def eD.MV (c:eD)(pk:Nat)(x:Str):c.MT pk x=c.firstM pk (c.start.idxOf x):=rfl
def eD.MX (c:eD)(pk:Nat):c.firstM pk 0=0:=eD.Lm (c.Ls _) λk h=>by
 have:=(eD.Lr.mp h).2;simp at this
def eD.MY {c:eD}{pk:Nat}{x:Str}(h:c.start[i]?=some x):c.firstM pk (i+1)=c.firstM pk i ||| (c.LT x &&& pk):=by refine eD.ext (c.Ls _) (jv (c.Ls _) (oe (c.Ls _))) λk=>?_;rw[eD.Lg,eD.Lh,eD.LX];unfold eD.firstM;rw[bc,h];simp only[eD.Lr,aF,aw,aA,Option.toList_some,aj];constructor;rintro⟨a,b,h3|h3⟩;exact .inl ⟨a,b,h3⟩;exact .inr ⟨⟨a,h3⟩,b⟩;rintro(⟨a,b,h3⟩|⟨⟨a,h3⟩,b⟩);exact⟨a,b,.inl h3⟩;exact⟨a,b,.inr h3⟩
def Fa {α:Type} [DecidableEq α] {l:ef α}(g:l.Nodup){x:α}(h:l[i]?=some x):l.idxOf x=i:=by have d:=ai h;have a:=bF.mpr d;have b:=cm a;obtain⟨j,e⟩:=af.mp h;exact(List.getElem_inj g).mp (b.trans e.symm)
def qz (f:Fk):Str×el Pk:=(f.part,f.bit)
def Cg (c:eD)(k:Pk)(m:Nat)(F:ef Fk):(F.map (c.LE k m)).map qz=F.map qz:=by rw[cC];rfl
def zJ {F F':ef Fk}(h:F'.map qz=F.map qz){f:Fk}(d:F[i]?=some f):∃f',F'[i]?=some f'/\f'.part=f.part/\f'.bit=f.bit:=by
 have a:(F'.map qz)[i]?=some (qz f):=by rw[h,ae,d];rfl
 rw[ae]at a;obtain⟨f',e,b⟩:=ax.mp a;exact⟨f',e,congrArg (·.1) b,congrArg (·.2) b⟩
end
section
seal ni PS PE PT PA
variable {A:ef (dY×dY)}{CB CC CF CT PP a b:dY}{H H':Hp}{K:W.Frag}{O O':ef dY}{P:ee}{fd:eg}{mg:Str->el dZ}{w:World}
def D2 (c:eD)(L:iA)(pk:Nat)(f:Fk):Prop:=f.part∈c.start->∀k,f.bit=some k->∀n,(c.needs none)[((c.needs none).map (·.1)).idxOf f.part]?=some n->∀kk∈c.MR n k,∃e∈L,∀j,c.has e.1 j->j=kk\/c.has (c.MT pk f.part) j
inductive ww (CB CC CL CS CF CT:dY)(vs:ef V)(H:Hp)(Q:VK)(E:XK):Prop
 |mk (G:Hp)(p ch le fl:dY)(c:eD)(L:iA)(O:ef dY)(A:ef (dY×dY))(F:ef Fk)(d:Sd)(_:vs=[.ref p,.int (d.picked:Nat)])(_:SS CB CC CL CS CF CT G H p ch le fl c L O A F)(_:fX c L F.reverse d)(_:og c.es c.sn (c.listed d.picked))(_:∀(G' H':Hp) (L':iA) (O':ef dY) (F':ef Fk),eL G G'->rE H O A H' O'->SS CB CC CL CS CF CT G' H' p ch le fl c L' O' A F'->(∀f∈F,D2 c L' d.picked f)->Q .non H')
def rE.refl (H:Hp)(O:ef dY)(A:ef (dY×dY)):rE H O A H O:=λb u h n _=>⟨.inl h,n⟩
def rE.rd (g:rE H O A H' O'){u:HO}(h:Rd H b u)(n:b∉O)(m:b∉A.map (·.2)):Rd H' b u:=by rcases h with h|⟨o,h⟩;rcases (g b u h n m).1 with z|⟨_,o,z⟩;exact .inl z;exact .inr ⟨o,z⟩;rcases (g b _ h n m).1 with z|⟨z,_⟩;exact .inr ⟨o,z⟩;exact z.elim
def rE.no (g:rE H O A H' O'){u:HO}(h:H b=some u)(n:b∉O)(m:b∉A.map (·.2))(f:¬DH u):H' b=some u:=(g b u h n m).1.resolve_right λz=>f z.1
def Bx {xs:ef V}{n:Nat}(h:n<=xs.length):qd xs none (some (n:Int))=xs.take n:=by unfold qd;rw[HT.zX,HT.wR,List.drop_zero,Nat.sub_zero,Nat.min_eq_left h]
section
variable {base:Heap}{f:dY}
def ue:eQ ["self","picked","ahead","mask","part","number","fork","pick"] ["self","picked"] (eK vi):=iW
theorem AH {CL CS:dY}(F:iE K "show_newest" "Search.show_newest" vi f fd)(T:t9 K mg CS)(a9:TC K mg CC)(TF:BN K mg CF)(MN:Mt P w K mg base CS fC 3 "newer_picks" ["self","fork"] (wy CB CC CS CF CT))(MB:Mt P w K mg base CS fC 6 "show_barred" ["self","pick","kept","forks"] (wx CB CC CL CS CF CT)):fB P w K mg base fC 7 f fd ["self","picked"] (ww CB CC CL CS CF CT):=by
 refine F.ok ue λhe A fa s H vs Q E hr h=>?_;obtain⟨G,p,ch,le,fl,c,L,O,J,FF,d,rfl,o,gk,bl,q⟩:=h;have hu:=gH hr;refine⟨_,(et (eO (i:=2) ue.nd ie) (et (eO (i:=3) ue.nd eF) (et (fO (An (fg hu (eT a9.cl a9.nAl (eT T.cl T.nCh (pv 0))) iJ)) (eR (i:=4) ue.nd) (et (i6 hu (pv 2) (pv 4) (pv 3) rfl) (eE (kP (i:=3) ue.nd (fh im (hJ hu (eT a9.cl a9.nOf (eT T.cl T.nCh (pv 0))) (pv 4)) (pv 1)) uA)))) (eE (fO (wU rfl T.enum (eT T.cl T.nFo (pv 0))) (kS (n:=2) rfl (gl (eR (i:=5) ue.nd) (gl (eR (i:=6) ue.nd) jD))) (eE (fm (gN (nH hu (eT TF.cl TF.nPa (pv 6)) (pv 2))) (eE (fO (fL (iq MN (hr.mono (by decide:3<=6)) fN (pv 0) (eo (pv 6) eA))) (eR (i:=7) ue.nd) (eE (gF (iq MB hr fN (pv 0) (eo (pv 7) (eo (hJ hu (pv 2) (eT TF.cl TF.nPa (pv 6))) (eo (mU oJ (eT T.cl T.nFo (pv 0)) sI (mQ (pv 5))) eA)))))))) eV))))))),?_⟩;obtain⟨dx,hp⟩:=o.se.self;have e6:=o.se.gh.ins hp;obtain⟨gx,gb,e9,g9,dv,c8,g5,g7,g8,d1,d2,d3,d4,d5,d6,d7,d8⟩:=o.se.chart.ex;have lA:J.length=FF.length:=Paired.length o.fk.p;intro m a2;have s1:=eJ a2 (.dK []);have bf:upd H m (.dK []) m=some (.dK []):=er;generalize upd H m (.dK [])=H1 at *;have g1:eL G H1:=o.se.gh.trans s1.toF;have c3:G m=none:=o.se.gh.free a2;obtain⟨da,e1,oa,a1,e2,e3,e4⟩:=(d7.f g1).get (w:=none) jr rfl;have e5:da≠m:=fF e2 bf λz=>nomatch z;have la:a1.length=c.start.length:=by have:=congrArg List.length e3;rw[ab,ab]at this;exact this
 have hc:c.start.length<=100:=bz (nI _) (o.se.nds none);refine⟨_,rfl,p,dx,_,V.ref ch,rfl,g1.ins hp,(by kernel_rfl),ch,gx,_,V.ref c8,rfl,g1.ins d1,(by kernel_rfl),c8,_,rfl,e1,da,oa,a1,rfl,e2,?_⟩;refine tz (kvs:=a1) (λi σ H2=>∃kvs o4,σ=[some (.ref p),some (.int (d.picked:Nat)),some (.ref m),some (.int (c.firstM d.picked i:Nat)),o4,none,none,none]/\H2 m=some (.dK kvs)/\(∀b,b≠m->H2 b=H1 b)/\kvs.map (·.1)=(c.start.take i).map Sum.inr/\∀x∈c.start.take i,fc kvs (Sum.inr x)=some (.int (c.MT d.picked x:Nat)))
  ⟨[],none,by rw[eD.MX];rfl,bf,λ_ _=>rfl,by simp,λx hx=>by simp at hx⟩ (by
   rintro i σ H2 _ ⟨_,_,_,_,e,_⟩;rw[e da e5]
   exact e2) ?_ ?_
 rintro i kv σ H2 hi ⟨kvs,o4,rfl,as,a7,B,a3⟩;have ap:(a1.map (·.1))[i]?=some kv.1:=by rw[ae,hi];rfl
 rw[e3,ae]at ap;obtain⟨x,hx,ex⟩:=ax.mp ap;rw[<-ex];have N:c.start[i]?=some x:=hx;have ga:=ai N;have dc:i<100:=by have:=(af.mp N).1;lia
 have ea:c.start.idxOf x=i:=Fa (ju _) N;have lk:kvs.length<=i:=by have:=congrArg List.length B;rw[ab,ab,aV]at this;lia
 have g2:eL G H2:=λb u e=>by
  have nb:b≠m:=λz=>by rw[z,c3]at e;cases e
  rw[a7 b nb];exact g1 b u e
 have es:=pP (ju _) N;have gn:fc kvs (Sum.inr x)=none:=by cases hq:fc kvs (Sum.inr x) with|none=>rfl|some u=>have:=i5 hq;rw[B]at this;obtain⟨y,hy,e⟩:=aC.mp this;rw[Sum.inr.inj e]at hy;exact absurd hy es
 refine⟨_,rfl,_,rfl,_,rfl,m,_,rfl,lT.k (k:=Sum.inr x) as (eY (by lia)),?_⟩;have ed:∀b,b≠m->upd H2 m (.dK (fJ kvs (Sum.inr x) (.int (c.firstM d.picked i:Nat)))) b=H1 b:=λb hb=>by rw[eB hb];exact a7 b hb
 have g3:eL G (upd H2 m (.dK (fJ kvs (Sum.inr x) (.int (c.firstM d.picked i:Nat))))):=g2.upd c3;have f1:upd H2 m (.dK (fJ kvs (Sum.inr x) (.int (c.firstM d.picked i:Nat)))) m=some (.dK (fJ kvs (Sum.inr x) (.int (c.firstM d.picked i:Nat)))):=er;generalize upd H2 m (.dK (fJ kvs (Sum.inr x) (.int (c.firstM d.picked i:Nat))))=H3 at *;obtain⟨ew,em,eq⟩:=d6.f g3;have go:∃k∈c.ks,k.1=x:=by obtain⟨n,hn,eu⟩:=iw.mp ga;obtain⟨j,f4,fp,_⟩:=bl.met none (λk z=>nomatch z) n hn;exact⟨j,(eD.Lf.mp f4).1,fp.trans eu⟩
 refine⟨_,rfl,_,rfl,p,dx,_,V.ref ch,rfl,g3.ins hp,(by kernel_rfl),ch,gx,_,V.ref dv,rfl,g3.ins d1,(by kernel_rfl),_,rfl,dv,_,rfl,.inl ⟨ew,Sum.inr x,em,rfl,((eq x).2 go).symm⟩,_,rfl,_,_,rfl,rfl,_,_,rfl,rfl,?_⟩;refine⟨_,some (.str x),?_,f1,ed,?_,λy hy=>?_⟩;rw[nZ,xC,eD.MY N];rfl;rw[ip _ gn,aG,B,fV N,aG];rfl;rw[gq];by_cases ey:y=x;subst ey;rw[ay rfl,eD.MV,ea];rw[av (λz=>ey (Sum.inr.inj z))];rw[fV N]at hy;exact a3 y ((aA.mp hy).elim id λz=>absurd (aj.mp z) ey);rintro σ H2 ⟨kvs,o4,rfl,as,a7,B,a3⟩;rw[la,aK]at B a3;have cy:eN H H2:=λb u e=>by rw[a7 b (eG e a2)];exact s1 _ _ e
 have dp:=iU.same (O:=O) o.se.gh cy;have S2:=o.grow dp (o.led.same cy) o.ok;have ba:m∉O:=λz=>by obtain⟨u,r⟩:=o.led.liv m z;rw[a2]at r;cases r
 have b6:∀{G3 H3 F3},jm CF CT G3 H3 c fl J F3->∀{x},x∈J.map (·.2)->∃C dy fs,H3 x=some (.ins C dy fs):=λ{G3 H3 F3} hF3 {x} hx=>by obtain⟨a,ha,rfl⟩:=aC.mp hx;obtain⟨t,ht⟩:=aB.mp ha;obtain⟨fk,_,_,sx,wa,ez,_⟩:=Paired.K8 hF3.p ht;exact⟨_,_,_,ez⟩
 have Z:m∉J.map (·.2):=λz=>by obtain⟨C,dy,fs,h⟩:=b6 S2.fk z;rw[as]at h;cases h
 have bq:∀x,fc kvs (Sum.inr x)=if x∈c.start then some (.int (c.MT d.picked x:Nat)) else none:=λx=>by by_cases hx:x∈c.start;rw[ay hx];exact a3 x hx;rw[av hx];cases hq:fc kvs (Sum.inr x) with|none=>rfl|some u=>have:=i5 hq;rw[B]at this;obtain⟨y,hy,e⟩:=aC.mp this;rw[Sum.inr.inj e]at hy;exact absurd hy hx
 have f7:=cy _ _ e6;refine⟨_,rfl,p,dx,_,V.ref fl,rfl,f7,(by kernel_rfl),fl,_,rfl,S2.fk.l,?_⟩;refine uE (K:=K) (a:=fl) (xs:=J.map λa=>V.ref a.1) (λi σ H3=>∃(G3:Hp) (L3:iA) (O3:ef dY) (F3:ef Fk) (d3:Sd) (o3 o4 o5 o6 o7:el V),σ=[some (.ref p),some (.int (d.picked:Nat)),some (.ref m),o3,o4,o5,o6,o7]/\eL G G3/\rE H2 O J H3 O3/\SS CB CC CL CS CF CT G3 H3 p ch le fl c L3 O3 J F3/\F3.map qz=FF.map qz/\fX c L3 F3.reverse d3/\d3.picked=d.picked/\∀i'<i,∀f,FF[i']?=some f->D2 c L3 d.picked f)
  ⟨G,L,O,FF,d,_,_,_,_,_,rfl,eL.refl _,rE.refl _ _ _,S2,rfl,gk,rfl,λi' cp=>absurd cp (ca _)⟩ (by rintro i σ H3 _ ⟨_,_,_,_,_,_,_,_,_,_,_,_,_,S,_⟩;exact ff.of S.fk.l) ?_ ?_
 rintro i x σ H3 t hi ⟨G3,L3,O3,F3,d3,o3,o4,o5,o6,o7,rfl,an,cd,S3,U,ah,co,g⟩ ht;rw[ae]at hi;obtain⟨a,ha,rfl⟩:=ax.mp hi;obtain⟨f3,ct,g4⟩:=Paired.K8 S3.fk.p ha;obtain⟨f0,cn,ag,be⟩:=zJ U.symm ct;have s4:=eJ ht (.tup [.int (i:Nat),.ref a.1]);have gt:upd H3 t (.tup [.int (i:Nat),.ref a.1]) t=some (.tup [.int (i:Nat),.ref a.1]):=er;generalize upd H3 t (.tup [.int (i:Nat),.ref a.1])=H4 at *;have c9:=iU.same (O:=O3) S3.se.gh s4;have S4:=S3.grow c9 (S3.led.same s4) S3.ok;have a6:rE H2 O J H4 O3:=cd.trans c9.frx;obtain⟨⟨fx,hfa⟩,hstA⟩:nu CF CT G3 H4 c a f3:=by obtain⟨e7,z1,z2⟩:=Paired.K8 S4.fk.p ha;rw[ct]at z1;cases z1;exact z2
 have bv:Rd H4 m (.dK kvs):=a6.rd (.inl as) ba Z;have bx:m∉O3:=(a6 m _ as ba Z).2;refine⟨t,_,rfl,gC.of gt,rfl,_,_,rfl,_,_,rfl,rfl,?_⟩;refine⟨_,rfl,a.1,fx,_,V.str f3.part,rfl,hfa,(by kernel_rfl),_,rfl,m,_,rfl,.inl ⟨kvs,Sum.inr f3.part,bv,rfl,rfl⟩,_,rfl,?_⟩;rw[bq f3.part];by_cases hps:f3.part∈c.start;rw[ay hps];refine gY ?_;obtain⟨k,b1,b2,b3,b4,b5⟩:=wg ah (ai ct);have ei:=S4.se.gh.ins (an.ins hp);have a4:f3.part∈(c.needs none).map (·.1):=jp.mp hps;refine⟨_,rfl,p,dx,_,rfl,ei,(by kernel_rfl),_,rfl,G3,p,ch,le,fl,c,O3,a,f3,k,rfl,S4.se,⟨⟨fx,hfa⟩,hstA⟩,b1,b2,b3,a4,S4.led.liv,λG5 H5 l xs n R ft hl g6 b9 fu gp d9=>?_⟩;have f9:gK CL G5 H5 le ch c L3 O3:=S4.led.grow R.gg (λy hy=>by obtain⟨u,r⟩:=S4.led.liv y hy;exact R.off (S4.led.off y hy) r) ft;have S5:=S4.grow R f9 S4.ok;have ej:l∉O3:=λz=>by obtain⟨u,r⟩:=S4.led.liv l z;rw[hl]at r;cases r
 have eh:l∉J.map (·.2):=λz=>by obtain⟨C,dy,fs,h⟩:=b6 S5.fk z;rw[b9]at h;cases h
 refine⟨l,rfl,⟨_,ff.of b9⟩,?_⟩;have lx:=Paired.length d9;have ec:∀M∈c.MR n k,M∈c.ks/\M.1=f3.part/\k.2<M.2:=λM B=>by obtain⟨v,f5,rfl⟩:=aC.mp B;obtain⟨ev,gd⟩:=aZ.mp f5;refine⟨(c.mem _).mpr ?_,b3,aI gd⟩;have:=(sT.mp ev).1;rw[gp,<-b3]at this;exact this
 refine fW (K:=K) (a:=l) (xs:=xs) (λj σ H6=>∃(G6:Hp) (L6:iA) (O6:ef dY) (F6:ef Fk) (d6:Sd) (o7:el V),σ=[some (.ref p),some (.int (d.picked:Nat)),some (.ref m),o3,o4,some (.int (i:Nat)),some (.ref a.1),o7]/\eL G5 G6/\rE H5 O3 J H6 O6/\SS CB CC CL CS CF CT G6 H6 p ch le fl c L6 O6 J F6/\(∃X,L6=L3++X)/\F6.map qz=FF.map qz/\fX c L6 F6.reverse d6/\d6.picked=d.picked/\∀M∈(c.MR n k).take j,∃e∈L6,∀x,c.has e.1 x->x=M\/c.has (c.MT d.picked f3.part) x)
  ⟨G5,L3,O3,F3,d3,_,rfl,eL.refl _,rE.refl _ _ _,S5,⟨[],by simp⟩,U,ah,co,λM B=>by simp at B⟩ (by rintro j σ H6 _ ⟨_,_,_,_,_,_,_,_,fx,_⟩;exact ff.of (fx.no b9 ej eh λz=>z)) ?_ ?_
 rintro j x σ H6 hj ⟨G6,L6,O6,F6,d6,f8,rfl,a0,a5,S6,b8,I,D,al,aa⟩;obtain⟨M,dl,ek⟩:=Paired.K8 d9 hj;obtain⟨ap,cs,cv⟩:=ec M (ai dl);obtain⟨f6,a8,ds,dn⟩:=zJ I cn;have ep:f6.part=f3.part:=by rw[ds,ag]
 have eb:f6.bit=some k:=by rw[dn,be,b1]
 have dd:=S6.se.gh.ins (a0.ins (R.gg.ins (an.ins hp)));obtain⟨⟨fx7,hfa7⟩,hst7⟩:nu CF CT G6 H6 c a f6:=by obtain⟨e7,z1,z2⟩:=Paired.K8 S6.fk.p ha;rw[a8]at z1;cases z1;exact z2
 have c2:Rd H6 m (.dK kvs):=a5.rd (R.frx.rd (A:=J) bv bx Z) bx Z;refine⟨_,rfl,p,dx,_,rfl,dd,(by kernel_rfl),_,rfl,_,rfl,_,rfl,a.1,fx7,_,V.str f6.part,rfl,hfa7,(by kernel_rfl),m,_,rfl,.inl ⟨kvs,Sum.inr f6.part,c2,rfl,by rw[ep,bq f3.part,ay hps]⟩,_,rfl,p,dx,_,V.ref fl,rfl,dd,(by kernel_rfl),_,rfl,_,rfl,fl,_,rfl,ff.of S6.fk.l,λsl bd=>?_⟩;have dc:i<=(J.map λa=>V.ref a.1).length:=by rw[ab];exact cA (af.mp ha).1
 rw[Bx dc,<-cG];have s7:=eJ bd (.lst ((J.take i).map λa=>V.ref a.1));have f2:upd H6 sl (.lst ((J.take i).map λa=>V.ref a.1)) sl=some (.lst ((J.take i).map λa=>V.ref a.1)):=er;generalize upd H6 sl (.lst ((J.take i).map λa=>V.ref a.1))=H7 at *;have c7:=iU.same (O:=O6) S6.se.gh s7;have S7:=S6.grow c7 (S6.led.same s7) S6.ok;have gw:sl∉O6:=λz=>by obtain⟨u,r⟩:=S6.led.liv sl z;rw[bd]at r;cases r
 obtain⟨hd,c0⟩:=jR D a8;have e0:c.has f6.sd.dead M:=(c0.bit k eb).2.2 M ap (by rw[cs,ep]) cv;have fr:¬c.has d6.picked M:=λz=>by obtain⟨k',c1,_,_,c4,_⟩:=wg D (ai a8);rw[eb]at c1;cases c1;have:=D.sd.one k M c4 z (by rw[b3,cs]);rw[this]at cv;exact absurd cv (Int.lt_irrefl _)
 refine⟨G6,p,ch,le,fl,sl,c,L6,O6,J,F6,i,f6,d6,x,M,by rw[al,ep];rfl,S7,fj.f a0 ek,a8,ap,by rw[cs,ep],e0,by rw[ep];exact hps,D,by rw[al];exact bl,fr,f2,gw,?_⟩;intro G8 H8 L8 O8 e8 fo fy S8 c5 g0 cx c6;have fv:∃X,L8=L3++X:=by obtain⟨X,hX⟩:=b8;obtain⟨Y,hY⟩:=c5;exact⟨X++Y,by rw[hY,hX,bP]⟩
 refine⟨G8,L8,O8,_,_,_,rfl,a0.trans fo,a5.trans ((c7.frx).trans fy),S8,fv,by rw[Cg];exact I,c6,by rw[eD.LF];exact al,λk2 bm=>?_⟩;rw[fV dl]at bm;rcases aA.mp bm with z|z;obtain⟨e,b7,cz⟩:=aa k2 z;obtain⟨Y,hY⟩:=c5;exact⟨e,by rw[hY];exact aO _ b7,cz⟩;rw[aj.mp z];refine⟨e8,g0,λy hy=>?_⟩;have:=cx y hy;rw[al,ep]at this;exact this;rintro σ H6 ⟨G6,L6,O6,F6,d6,f8,rfl,a0,a5,S6,b8,I,D,al,aa⟩;rw[lx,aK]at aa;refine⟨G6,L6,O6,F6,d6,_,_,_,_,_,rfl,an.trans (R.gg.trans a0),a6.trans (R.frx.trans a5),S6,I,D,al,λi' cp f hf=>?_⟩;rcases cO i' i with z|z;have:=g i' z f hf;intro h1 k1 h2 n1 h3 M h4;obtain⟨e,b7,cz⟩:=this h1 k1 h2 n1 h3 M h4;obtain⟨X,hX⟩:=b8;exact⟨e,by rw[hX];exact aO _ b7,cz⟩;have:i'=i:=by lia
 subst this;rw[cn]at hf;cases hf;intro h1 k1 h2 n1 h3 M h4;rw[be,b1]at h2;cases h2;rw[ag,fu]at h3;cases h3;rw[ag];exact aa M h4;rw[av hps];refine fz ⟨G3,L3,O3,F3,d3,_,_,_,_,_,rfl,an,a6,S4,U,ah,co,λi' cp f hf=>?_⟩;rcases cO i' i with z|z;exact g i' z f hf;have:i'=i:=by lia
 subst this;rw[cn]at hf;cases hf;intro h1;rw[ag]at h1;exact absurd h1 hps;rintro σ H3 ⟨G3,L3,O3,F3,d3,o3,o4,o5,o6,o7,rfl,an,cd,S3,U,ah,co,g⟩;rw[ab,lA]at g;refine q G3 H3 L3 O3 F3 an (dp.frx.trans cd) S3 λf hf=>?_;obtain⟨t,ht⟩:=aB.mp hf;exact g t (af.mp ht).1 f ht
end
inductive qq (C:dY)(vs:ef V)(H:Hp)(Q:VK)(E:XK):Prop
 |mk (p dx a st:dY)(es:ef En)(_:vs=[.ref p,.ref a,.ref st])(_:H p=some (.ins C dx []))(_:iZ H a es)(_:es.length<64)(_:(es.map fb).Nodup)(_:∀H',eN (del H [p]) H'->fZ C H' p st es->Q .non H')
section
variable {base:Heap}{f:dY}
theorem AO {C:dY}(F:iE K "__init__" "Board.__init__" zY f fd)(T:TB K mg C):fB P w K mg base fC 1 f fd ["self","shelf","start"] (qq C):=by
 refine F.ok zM λdp A da s H vs Q E hr h=>?_;obtain⟨p,D,a,st,Y,rfl,hp,dc,hl,bx,q1⟩:=h;have hu:=gH hr;refine⟨_,(et (Ah (pv 0) (um (pv 2)) rfl) (et (Ah (pv 0) ie rfl) (et (fO (fL (pv 1)) (kS rfl (gl (eR (i:=3) zM.nd) (gl (eR (i:=4) zM.nd) (gl (eR (i:=5) zM.nd) jD)))) (et (fm (gN (wW hu (gL (eo (pv 3) (eo (pv 4) eA))) (jj (pv 0) rfl))) fR eV) (et (kB hu (jj (pv 0) rfl) (gL (eo (pv 3) (eo (pv 4) eA))) (pv 5) rfl) (eE (gF (jL PySem.F.plainAttrs_list PySem.F.slot_list_append PySem.F.type_list_append hZ (Av (jj (pv 0) rfl) (pv 3) (gy eA) ⟨rfl,rfl,rfl,rfl⟩) (eo (pv 4) eA))))))) (eE (fO (fL (ig (we rfl) rfl T.list cZ (eo (jj (pv 0) rfl) eA))) (eR (i:=3) zM.nd) (eE (i6 hu (jj (pv 0) rfl) (pv 3) (Ar rfl T.sorted (hJ hu (jj (pv 0) rfl) (pv 3))) rfl))))))),?_⟩;have cy:=iZ.apart hp dc;generalize b3:del H [p]=Hd at *;have sd:eN Hd H:=b3▸fM H [p];have b4:Hd p=none:=by rw[<-b3];exact gc (by simp)
 obtain⟨xs,hx,bm⟩:=cy;have lx:xs.length=Y.length:=Paired.length bm;refine λq a6=>⟨_,rfl,er,?_⟩;have S:p≠q:=eG hp a6;refine⟨_,rfl,p,C,D,_,rfl,by rw[eB S,eB S];exact hp,T.cl,T.nN,(by show 0<1000;decide),?_⟩;rw[jo];generalize a8:upd (upd H q (.dN [(none,.ref st)])) p (.ins C D (gz "needs" (.ref q) []))=H1;have a5:H1 p=some (.ins C D (gz "needs" (.ref q) [])):=by rw[<-a8];exact er
 have bv:H1 q=some (.dN [(none,.ref st)]):=by rw[<-a8,eB (Ne.symm S)];exact er
 have s1:eN Hd H1:=by rw[<-a8];exact eN.upd (eN.upd sd (sd.free a6)) b4
 refine λm O=>⟨_,rfl,p,C,D,_,rfl,by rw[eB (eG a5 O)];exact a5,T.cl,T.nV,(by show 1<1000;decide),?_⟩;generalize ap:upd (upd H1 m (.dK [])) p (.ins C D (gz "versions" (.ref m) (gz "needs" (.ref q) [])))=H2;have cv:H2 p=some (.ins C D (kI q m)):=by rw[<-ap];exact er
 have b9:H2 q=some (.dN [(none,.ref st)]):=by rw[<-ap,eB (Ne.symm S),eB (eG bv O)];exact bv
 have ch:H2 m=some (.dK []):=by rw[<-ap,eB (Ne.symm (eG a5 O))];exact er
 have s2:eN Hd H2:=by rw[<-ap];exact eN.upd (eN.upd s1 (s1.free O)) b4
 refine⟨_,rfl,a,rfl,⟨xs,ff.of (s2 _ _ hx)⟩,fW (K:=K) (a:=a) (xs:=xs) (λi σ H2=>KB C Hd Y p a st D q m i σ H2) ⟨⟨[],[],none,none,none,rfl,cv,b9,.nil,ch,⟨λx=>.inl ⟨rfl,rfl⟩,λx y l z=>(nomatch z),λkv z=>(nomatch z),am _⟩⟩,s2,bT⟩ (λi σ H2 _ I=>ff.of (I.sm _ _ hx)) ?_ ?_⟩;rintro i x σ H3 hi ⟨⟨t,B,o3,o4,o5,rfl,N,U,L,aa,R⟩,s3,a0⟩;obtain⟨e,he,q0,na,zs,rfl,e1,e2,e3⟩:=Paired.K8 bm hi;have g1:=s3 _ _ e1;have dy:i<Y.length:=(af.mp he).1;have ht:Y.take (i+1)=Y.take i++[e]:=by rw[bc,he];rfl
 have c2:(Y.map fb)[i]?=some (fb e):=by rw[ae,he];rfl
 have b8:=vQ a0 c2;have lk:t.length=i:=by rw[Paired.length L,aV];lia
 have lv:=R.len;rw[aV]at lv;refine⟨q0,_,rfl,gC.of g1,rfl,_,_,rfl,_,_,rfl,_,_,rfl,rfl,?_⟩;refine⟨_,rfl,_,rfl,qK,λkt cx=>?_⟩;have s4:=eJ cx (.tup [.str e.1,.int e.2.1]);refine⟨_,rfl,p,C,D,_,_,rfl,s4 _ _ N,T.cl,T.nN,fE _ _,q,_,rfl,hU.of (k:=some (iY (fb e))) (s4 _ _ U) ⟨kt,rfl,er⟩,_,rfl,?_⟩;rw[gE (by intro z;cases z)];rcases rK L (fb e) with ⟨cs,hv⟩|⟨e',co,cn,ds,dl,hv,_⟩;rw[hv];refine fz ?_;refine⟨_,rfl,_,rfl,p,C,D,_,_,rfl,s4 _ _ N,T.cl,T.nN,fE _ _,_,rfl,_,rfl,qK,λb5 b7=>?_⟩;have s5:=s4.trans (eJ b7 (.tup [.str e.1,.int e.2.1]));have c3:fc ((none,V.ref st)::t) (some (iY (fb e)))=none:=by rw[gE (by intro z;cases z)];exact hv
 refine⟨q,_,rfl,lS.of (k:=some (iY (fb e))) (s5 _ _ U) ⟨b5,rfl,er⟩ (eY (by rw[aE];lia)),?_⟩;rw[ip _ c3];generalize ag:upd (upd (upd H3 kt (.tup [.str e.1,.int e.2.1])) b5 (.tup [.str e.1,.int e.2.1])) q (.dN (((none,V.ref st)::t)++[(some (iY (fb e)),.ref na)]))=J;have dd:p≠q:=S;have g:J p=some (.ins C D (kI q m)):=by rw[<-ag,eB S];exact s5 _ _ N
 have r:J q=some (.dN ((none,V.ref st)::(t++[(some (iY (fb e)),.ref na)]))):=by rw[<-ag];exact er
 have d:J m=some (.dK B):=by rw[<-ag,eB (fF aa U (by intro z;cases z))];exact s5 _ _ aa
 have bq:Hd q=none:=by cases z:Hd q with|none=>rfl|some o=>have:=s2 _ _ z;rw[b9]at this;cases this;have:=sd _ _ z;rw[a6]at this;cases this
 have X:eN Hd J:=by rw[<-ag];exact eN.upd (s3.trans s5) bq
 have b1:∀b ys,H3 b=some (.lst ys)->J b=some (.lst ys):=λb ys z=>by rw[<-ag,eB (fF z U (by intro y;cases y))];exact s5 _ _ z
 have R5:jT Hd J B (Y.take i):=R.dict b1;have a1:Paired (nn Hd) (t++[(some (iY (fb e)),V.ref na)]) (Y.take (i+1)):=by rw[ht];exact Paired.snoc L ⟨rfl,na,zs,rfl,e2,e3⟩
 have cd:¬fb e∈(Y.map fb).take i:=by rw[<-cG];exact cs
 have a2:=b8.mpr cd;refine⟨_,rfl,p,C,D,_,_,rfl,g,T.cl,T.nV,jS _ _,m,rfl,.inl ⟨_,.inl d⟩,_,rfl,u6,λl0 G=>?_⟩;have M:=eJ G (.lst []);refine⟨B,Sum.inr e.1,M _ _ d,rfl,eY (by lia),λv al=>?_,λal=>?_⟩;obtain⟨l,rfl⟩:∃l,v=.ref l:=by rcases R.at_ e.1 with ⟨z,_⟩|⟨l,z,_⟩;rw[al]at z;cases z;rw[al]at z;cases z;exact⟨l,rfl⟩
 obtain⟨cz,ad,R8⟩:=(R5.same M).more al;refine⟨.inl ⟨rfl,_,ff.of ad⟩,_,rfl,l,_,_,rfl,rfl,ad,?_,?_⟩;rw[ab];have:=ke (Y.take i) e.1;rw[aV]at this;exact eY (by lia);have bd:p≠l:=fF (M _ _ g) ad (by intro z;cases z);have a7:q≠l:=fF (M _ _ r) ad (by intro z;cases z);have as:m≠l:=fF (M _ _ d) ad (by intro z;cases z);refine⟨⟨_,B,_,_,_,rfl,by rw[eB bd];exact M _ _ g,by rw[eB a7];exact M _ _ r,a1,by rw[eB as];exact M _ _ d,by rw[ht];exact R8⟩,eN.upd (X.trans M) cz,a2⟩;have as:m≠l0:=eG d G;have bd:p≠l0:=eG g G;have a7:q≠l0:=eG r G;have a9:p≠m:=fF g d (by intro z;cases z);have be:q≠m:=fF r d (by intro z;cases z);have a3:upd (upd J l0 (.lst [])) m (.dK (fJ B (Sum.inr e.1) (.ref l0))) l0=some (.lst []):=by rw[eB (Ne.symm as)];exact er
 refine⟨.inl ⟨rfl,_,ff.of a3⟩,_,rfl,l0,_,_,rfl,rfl,a3,(by show 0<sizeLine;decide),?_⟩;have Z:Hd m=none:=by cases z:Hd m with|none=>rfl|some o=>have:=s1 _ _ z;rw[O]at this;cases this
 have R8:jT Hd (upd (upd J l0 (.lst [])) m (.dK (fJ B (Sum.inr e.1) (.ref l0)))) B (Y.take i):=(R5.same M).dict λb ys z=>by rw[eB (fF z (M _ _ d) (by intro y;cases y))];exact z
 have R9:=R8.first (l:=l0) al a3 (X.free G) (λx z=>by
  rcases R5.at_ x with ⟨y,_⟩|⟨l',y,_,y2⟩;rw[z]at y;cases y
  rw[z]at y;cases y;rw[G]at y2;cases y2)
 refine⟨⟨_,_,_,_,_,rfl,by rw[eB bd,eB a9];exact M _ _ g,by rw[eB a7,eB be];exact M _ _ r,a1,by rw[eB as];exact er,by rw[ht];exact R9⟩,eN.upd (eN.upd (X.trans M) Z) (X.free G),a2⟩;rw[hv];refine gY ?_;exact(b8.mp (ki (i+1) bx) (by
  rw[<-cG,<-cn]
  exact bo co)).elim
 rintro σ H3 ⟨⟨t,B,o3,o4,o5,rfl,N,U,L,aa,R⟩,s3,a0⟩;rw[lx]at L a0 R;rw[aK]at L R;rw[List.take_of_length_le (by rw[ab];exact am _)]at a0;have lv:=R.len;refine⟨_,rfl,p,C,D,_,_,rfl,N,T.cl,T.nV,jS _ _,m,B,rfl,aa,λla c6=>?_⟩;have s4:=eJ c6 (.lst (B.map λkv=>kV kv.1));have Z:Hd m=none:=by cases z:Hd m with|none=>rfl|some o=>have:=s1 _ _ z;rw[O]at this;cases this
 refine⟨la,rfl,⟨_,ff.of er⟩,fW (K:=K) (a:=la) (xs:=B.map λkv=>kV kv.1) (λj σ J=>KA C Hd Y p a st D q m t (B.map (·.1)) j σ J/\J la=some (.lst (B.map λkv=>kV kv.1))) ⟨⟨⟨B,_,_,_,rfl,s4 _ _ N,s4 _ _ U,s4 _ _ aa,rfl,λx=>?_⟩,s3.trans s4⟩,er⟩ (λj σ J _ I=>ff.of I.2) ?_ ?_⟩;rcases R.at_ x with z|⟨l,h1,_,h2⟩;exact .inl z;exact .inr ⟨l,_,h1,s4 _ _ h2,List.Perm.refl _,λz=>by simp at z⟩;rintro j x σ J hj ⟨⟨⟨an,c8,c7,c4,rfl,g,r,d,ah,V5⟩,s5⟩,a4⟩;rw[ae]at hj;obtain⟨kv,b2,rfl⟩:=ax.mp hj;obtain⟨y,hy⟩:=R.keys kv (ai b2);have bl:(B.map (·.1))[j]?=some (Sum.inr y):=by rw[ae,b2];exact congrArg some hy
 have c9:(B.map (·.1)).take (j+1)=(B.map (·.1)).take j++[Sum.inr y]:=by rw[bc,bl];rfl
 have ba:(fc an (Sum.inr y:gM)).isSome=true:=by
  rw[<-jh,dD];have:(Sum.inr y:gM)∈an.map (·.1):=by rw[ah];exact ai bl
  obtain⟨c5,h1,h2⟩:=aC.mp this;exact⟨c5,h1,aq h2⟩
 rcases V5 y with ⟨z,_⟩|⟨l,ms,h1,h2,h3,_⟩;rw[z]at ba;cases ba;have lm:ms.length<64:=by rw[h3.length_eq];exact bK (ke _ _) hl
 rw[hy];refine⟨_,rfl,p,C,D,_,_,rfl,g,T.cl,T.nV,jS _ _,_,rfl,m,_,rfl,iP.k (k:=Sum.inr y) d |> (h1▸·),l,ms,rfl,ff.of h2,lm,λl2 bf b6 cp c1=>?_⟩;have X:=eJ b6 (.lst (List.map V.int bf));refine⟨_,rfl,p,C,D,_,_,rfl,X _ _ g,T.cl,T.nV,jS _ _,_,rfl,m,_,rfl,lT.k (k:=Sum.inr y) (X _ _ d) (eY ?_),?_⟩;have:=congrArg List.length ah;rw[ab,ab]at this;lia;have a9:p≠m:=fF g d (by intro z;cases z);have be:q≠m:=fF r d (by intro z;cases z);have c0:la≠m:=fF a4 d (by intro z;cases z);refine⟨⟨⟨_,_,_,_,rfl,by rw[eB a9];exact X _ _ g,by rw[eB be];exact X _ _ r,er,by rw[mX ba];exact ah,λx=>?_⟩,eN.upd (s5.trans X) Z⟩,by rw[eB c0];exact X _ _ a4⟩;rw[gq];by_cases hxy:x=y;subst hxy;refine .inr ⟨l2,bf,by rw[ay rfl],?_,cp.trans h3,λ_=>c1⟩;rw[eB (Ne.symm (eG d b6))];exact er;rw[av (λz=>hxy (Sum.inr.inj z))];rcases V5 x with z|⟨l',ct,g1,g2,g3,g4⟩;exact .inl z;refine .inr ⟨l',ct,g1,?_,g3,λz=>g4 ?_⟩;rw[eB (fF g2 d (by intro z;cases z))];exact X _ _ g2;rw[c9]at z;rcases aA.mp z with z|z;exact z;exact absurd (Sum.inr.inj (aj.mp z)) hxy;rintro σ J ⟨⟨⟨an,c8,c7,c4,rfl,g,r,d,ah,V5⟩,s5⟩,a4⟩;refine q1 J s5 ⟨D,q,m,t,an,g,.inl r,Paired.KG L λ_ _=>nn.same s5,.inl d,λx=>?_⟩;rcases V5 x with z|⟨l,ms,g1,g2,g3,g4⟩;exact .inl z;refine .inr ⟨l,ms,g1,g2,g3,λ_=>g4 ?_⟩;rw[List.take_of_length_le (by rw[ab,ab];exact am _),<-ah];exact i5 g1
end
section
variable {H:Hp}{p:dY}{t:HO}(hp:H p=some t)(ft:u5 t)
include hp ft
theorem iN {u:HO}(e:H a=some u)(h:¬u5 u):del H [p] a=some u:=by rw[eM (by simpa using fF e hp λz=>h (z▸ft))];exact e
theorem lF {u:HO}(h:Rd H a u)(n:¬u5 u):Rd (del H [p]) a u:=h.imp (λz=>iN hp ft z n) (by rintro⟨o,z⟩;exact⟨o,iN hp ft z λy=>y⟩)
theorem gv.fix {ns:ef Nd}(h:gv H a ns):gv (del H [p]) a ns:=(by obtain⟨xs,h1,h2⟩:=h;exact⟨xs,iN hp ft h1 (λz=>z),Paired.KG h2 (by rintro _ _ ⟨q,e1,e2⟩;exact⟨q,e1,iN hp ft e2 λz=>z⟩)⟩)
theorem fZ.fix {st:dY}{es:ef En}(h:fZ CB H b st es):fZ CB (del H [p]) b st es:=by obtain⟨r,s,v,d,o,C,t,w,B,D⟩:=h.ex;refine⟨r,s,v,d,o,iN hp ft C (λz=>z),lF hp ft t (λz=>z),Paired.KG w λ_ _ z=>?_,lF hp ft B (λz=>z),λx=>?_⟩;obtain⟨g,a,y,i,j,e⟩:=z;exact⟨g,a,y,i,iN hp ft j (λz=>z),Paired.KG e (by rintro _ _ ⟨q,A,E⟩;exact⟨q,A,iN hp ft E λz=>z⟩)⟩;rcases D x with z|⟨l,m,g,i,j,e⟩;exact .inl z;exact .inr ⟨l,m,g,iN hp ft i (λz=>z),j,e⟩
theorem iQ.fix {ch:dY}{c:eD}(h:iQ CB CC H ch c):iQ CB CC (del H [p]) ch c:=by obtain⟨U,b,bits,i,a,M,B,T,R,E,s,Q,⟨X,J,P⟩,⟨F,G,r⟩,⟨N,S,x⟩,⟨A,t,K⟩,⟨y,m,Y⟩,C,O,I⟩:=h.ex;refine⟨U,b,bits,i,a,M,B,T,R,iN hp ft E (λz=>z),s.fix hp ft,Q.fix hp ft,⟨X,lF hp ft J (λz=>z),P⟩,⟨F,lF hp ft G (λz=>z),λk D=>?_⟩,⟨N,lF hp ft S (λz=>z),x⟩,⟨A,lF hp ft t (λz=>z),λw L=>?_⟩,⟨y,lF hp ft m (λz=>z),Y⟩,C,lF hp ft O (λz=>z),I⟩;obtain⟨v,g,q,e,l⟩:=r k D;exact⟨v,g,q,e,iN hp ft l λz=>z⟩;obtain⟨d,g,o,j,e,l⟩:=K w L;exact⟨d,g,o,j,iN hp ft e (λz=>z),l⟩
end
def D1 (H:Hp)(O:ef dY)(PP:dY):Prop:=ic zy yJ H PP/\PP∉O/\∀c' u,H PP=some (.tbl #[rawInt yJ.line,rawInt yJ.col,.ref c'])->H c'=some u->u5 u->c'∉O
def D1.fix (h:D1 H O PP):∃u,H PP=some u/\u5 u:=by rcases h.1 with z|⟨a,z,_⟩;exact⟨_,z,trivial⟩;exact⟨_,z,trivial⟩
def D1.keep (h:D1 H O PP)(k:jf H O H' O'):D1 H' O' PP:=by
 rcases h.1 with z|⟨b,i,g⟩;obtain⟨a,d⟩:=k PP _ z trivial h.2.1;refine⟨.inl a,d,λb u e=>?_⟩;rw[a]at e;have:=Option.some.inj e;injection this with this
 exact absurd (show(0:Nat)=3 from congrArg Array.size this) (by decide);obtain⟨a,d⟩:=k PP _ i trivial h.2.1;obtain⟨j,l⟩:=k b _ g trivial (h.2.2 b _ i g trivial);refine⟨.inr ⟨b,a,j⟩,d,λm u e o _=>?_⟩;rw[a]at e;have:=Option.some.inj e;injection this with this
 injection this with this
 injection this with _ this
 injection this with _ this
 injection this with this _
 injection this with this
 rw[<-this];exact l
def rE.MF {G:Hp}{c:eD}{fl:dY}{F:ef Fk}(g:rE H O A H' O')(h:jm CF CT G H c fl A F):jf H O H' O':=λx u hx f n=>by
 have m:x∉A.map (·.2):=λz=>by obtain⟨a,ha,rfl⟩:=aC.mp z;obtain⟨t,ht⟩:=aB.mp ha;obtain⟨fk,_,_,sx,wa,hsa,_⟩:=Paired.K8 h.p ht;rw[hsa]at hx;cases hx;exact f
 obtain⟨z,y⟩:=g x u hx n m;refine⟨z.resolve_right ?_,y⟩;rintro⟨w,_⟩;cases u <;> first|exact w|exact f
def ic.f {tq:Str}{lp:Pos}(e:eL H H')(h:ic tq lp H PP):ic tq lp H' PP:=by rcases h with z|⟨d,b,a⟩;exact .inl (e.no z λy=>y);exact .inr ⟨d,e.no b (λy=>y),e.no a λy=>y⟩
inductive Ft (c:eD)(H:Hp)(t:dY)(L:iA)(pk:Nat):Prop
 |mk (la ln:_)(_:H t=some (.tup [.ref la,.ref ln]))(_:je H la (c.listed pk))(_:jB H ln (c.lns L))
structure DZ (c:eD)(H:Hp)(t:dY)(L:iA)(pk:Nat):Prop where
 ex:Ft c H t L pk
 ok:ib c L
 fit:og c.es c.sn (c.listed pk)
 one:c.Ly pk
 lt:pk<2^c.n
 named:∀k,c.has pk k->c.Named pk k
 shown:∀k,c.has pk k->k.1∈c.start->∀n,(c.needs none)[((c.needs none).map (·.1)).idxOf k.1]?=some n->∀kk∈c.MR n k,∃e∈L,∀j,c.has e.1 j->j=kk\/c.has (c.MT pk k.1) j
inductive Fu (c:eD)(H:Hp)(t:dY)(L:iA):Prop
 |mk (ln:_)(_:H t=some (.tup [.non,.ref ln]))(_:jB H ln (c.lns L))
structure D0 (c:eD)(H:Hp)(t:dY)(L:iA):Prop where
 ex:Fu c H t L
 ok:ib c L
 last:∃e,L.getLast?=some e/\e.1=0
inductive oY (PP:dY)(vs:ef V)(H:Hp)(Q:VK)(E:XK):Prop
 |mk (sh st:dY)(es:ef En)(sn:ef Nd)(_:vs=[.ref sh,.ref st])(_:iZ H sh es)(_:es.length<64)(_:(es.map fb).Nodup)(_:gv H st sn)(_:∀w,(gr es sn w).length<=100)(_:ic zy yJ H PP)(_:∀c:eD,c.es=es->c.sn=sn->∀L,ib c L->L.length<sizeLine)(_:∀(c:eD) (H':Hp) (t:dY),c.es=es->c.sn=sn->eL (del H [PP]) H'->ic zy yJ H' PP->((∃L,D0 c H' t L)\/∃L pk,DZ c H' t L pk)->Q (.ref t) H')
section
variable {base:Heap}{f:dY}
def Ci:eQ ["shelf","start","search","stand"] ["shelf","start"] (eK rR):=iW
theorem yc {CL CS:dY}(F:iE K "worked_out" "worked_out" rR f fd)(T:t9 K mg CS)(TT:Dw K mg CT)(h4:BO P w K mg base CB fC 1 "Board" ["self","shelf","start"] (qq CB))(e3:BO P w K mg base CC fC 4 "Chart" ["self","board"] (tS CB CC))(iv:BO P w K mg base CS fC 3 "Search" ["self","chart"] (tI CL CS))(i3:BO P w K mg base CF fC 1 "Fork" ["self","part","stand"] (tQ CF))(g3:Mt P w K mg base CS fC 3 "opening" ["self"] (qm CB CC CL CS CT))(hz:Mt P w K mg base CS fC 5 "next_part" ["self","stand"] (vc CB CC CS CT zy yJ PP))(e8:Mt P w K mg base CS fC 6 "go_on" ["self"] (BI CB CC CL CS CF CT))(c8:Mt P w K mg base CL fC 2 "told" ["self"] (wu CB CC CL))(f0:Mt P w K mg base CS fC 7 "show_newest" ["self","picked"] (ww CB CC CL CS CF CT))(fp:Mt P w K mg base CC fC 1 "listed" ["self","mask"] (j9 CC)):fB P w K mg base fC 8 f fd ["shelf","start"] (oY PP):=by
 refine F.ok Ci λlp A g8 s H vs Q E hr h=>?_;obtain⟨sh,st,es,sn,rfl,hf,b9,dn,fu,dc,hT,e5,q1⟩:=h;have hu:=gH hr;refine⟨_,(et (eO (i:=2) Ci.nd (mV iv (hr.mono (by decide:4<=7)) rfl fN (eo (mV e3 (hr.mono (by decide:5<=7)) rfl fN (eo (mV h4 (hr.mono (by decide:2<=7)) rfl fN (eo (pv 0) (eo (pv 1) eA))) eA)) eA))) (et (eO (i:=3) Ci.nd (qV g3 (hr.mono (by decide:3<=7)) fN (pv 2))) (et (jK PassesOwn.never (PW.pt (lH (gN (kW (pv 3))) (jX (Ct (eT TT.cl TT.nWa (pv 3)) (λ_=>rfl))))) (et (gF (jL PySem.F.plainAttrs_list PySem.F.slot_list_append PySem.F.type_list_append hZ (eT T.cl T.nFo (pv 2)) (eo (mV i3 (hr.mono (by decide:2<=7)) rfl fN (eo (iq hz (hr.mono (by decide:5<=7)) fN (pv 2) (eo (pv 3) eA)) (eo (pv 3) eA))) eA))) (eE (eO (i:=3) Ci.nd (qV e8 (hr.mono (by decide:6<=7)) fN (pv 2)))))) (et (fm (gN (nG (pv 3))) (eE (eU (gL (eo iJ (eo (qV c8 (hr.mono (by decide:2<=7)) fN (eT T.cl T.nLe (pv 2))) eA))))) eV) (et (gF (iq f0 hr fN (pv 2) (eo (eT TT.cl TT.nPi (pv 3)) eA))) (eE (eU (gL (eo (iq fp (hr.mono (by decide:1<=7)) fN (eT T.cl T.nCh (pv 2)) (eo (eT TT.cl TT.nPi (pv 3)) eA)) (eo (qV c8 (hr.mono (by decide:2<=7)) fN (eT T.cl T.nLe (pv 2))) eA)))))))))),?_⟩;refine⟨_,rfl,_,rfl,λb bx hb fv h0=>?_⟩;have s1:=made (C:=CB) hb fv h0;have g0:upd (upd H bx (.own b)) b (.ins CB bx []) b=some (.ins CB bx []):=er;generalize upd (upd H bx (.own b)) b (.ins CB bx [])=H1 at *;have hg:eN H (del H1 [b]):=λa u e=>by rw[eM (by simpa using eG e hb)];exact s1 _ _ e
 refine⟨b,bx,sh,st,es,rfl,g0,iZ.same s1 hf,b9,dn,λH2 s2 hB=>⟨rfl,?_⟩⟩;have cp:eN H H2:=hg.trans s2;intro r cx eu hq f9;have s3:=made (C:=CC) eu hq f9;have hp:upd (upd H2 cx (.own r)) r (.ins CC cx []) r=some (.ins CC cx []):=er;generalize upd (upd H2 cx (.own r)) r (.ins CC cx [])=H3 at *;refine⟨r,cx,b,st,es,sn,rfl,hp,hB.same s3,fu.same (cp.trans s3),dn,b9,dc,λc H4 c1 c2 gp hC=>⟨rfl,?_⟩⟩;subst c1;subst c2;have e7:eN H (del H3 [r]):=λa u e=>by rw[eM (by simpa using eG (cp _ _ e) eu)];exact s3 _ _ (cp _ _ e)
 have a8:eL H H4:=e7.toF.trans gp;have dl:ic zy yJ H4 PP:=ic.f a8 hT;obtain⟨tu,hP4,fP⟩:∃u,H4 PP=some u/\u5 u:=by rcases dl with z|⟨c',z,_⟩;exact⟨_,z,trivial⟩;exact⟨_,z,trivial⟩
 intro se sx al kj h8;have s5:=made (C:=CS) al kj h8;have i2:upd (upd H4 sx (.own se)) se (.ins CS sx []) se=some (.ins CS sx []):=er;generalize upd (upd H4 sx (.own se)) se (.ins CS sx [])=H5 at *;have eq:=s5 _ _ hP4;have js:del H4 [PP] se=none:=by cases h:del H4 [PP] se with|none=>rfl|some u=>rw[fM _ _ se u h]at al;cases al
 have hi:=hC.fix hP4 fP;have hh:del H4 [PP] PP=none:=gc (by simp);have c0:eL (del H [PP]) (del H4 [PP]):=λa u e=>by
  have na:a∉[PP]:=λz=>by rw[gc z]at e;cases e
  rw[eM na]at e ⊢;exact a8 a u e
 refine⟨del H4 [PP],se,sx,r,c,rfl,((fM _ _).trans s5).toF,js,i2,λG6 H6 S B O ed cy j0 f4 kx bd f1 g2 bf Z a6=>⟨rfl,?_⟩⟩;generalize del H4 [PP]=G at *;have dx:eL H4 H6:=λa u e=>g2 a u (by rw[eM (by simpa using eG e al)];exact s5 _ _ e);have ka:G6 PP=none:=by cases h:G6 PP with|none=>rfl|some u=>rcases j0 PP hh (by rw[h];exact λz=>nomatch z) with z|z;rw[eq]at z;cases z;rw[z,al]at hP4;cases hP4
 have gn:PP∉O:=λz=>by have:=f4 PP z;rw[eq]at this;cases this
 have ep:D1 H6 O PP:=⟨ic.f dx dl,gn,λc' u _ e2 f2 z=>Z.nf c' z u e2 f2⟩;have cn:c.n<64:=by rw[c.n_eq];exact b9
 have bl:Se CB CC CS G6 H6 se r S B c:=⟨cy,⟨sx,bf⟩,hi.f ed,cn,dc,e5 c rfl rfl⟩;refine⟨_,rfl,se,sx,_,rfl,cy.ins bf,(by kernel_rfl),G6,se,r,S,B,c,O,rfl,bl,Z.liv,Z.off,λG7 H7 s7 d7 M gw e4 c7 dd kc h5=>?_⟩;have i0:gK CL G7 H7 S r c [] O:=Z.grow M.gg (λa J=>by obtain⟨u,o⟩:=Z.liv a J;exact M.off (Z.off a J) o) h5;have S7:SS CB CC CL CS CF CT G7 H7 se r S B c [] O [] []:=⟨bl.grow M.gg M.gh,i0,ib.nil c,⟨M.keep bd a6 (λz=>z),.nil,M.off f1 a6,(λa J=>nomatch J),bT,bT⟩,bd,λa J=>nomatch J⟩;have g1:=ep.keep M.MF;have gt:G7 PP=none:=by obtain⟨u,o,_⟩:=ep.fix;exact M.off ka o
 have f6:s7∉O:=λz=>by obtain⟨u,o⟩:=Z.liv s7 z;rw[gw]at o;cases o
 refine⟨λm σ H8=>∃(v:Hp) (L8:iA) (U:ef dY) (X:ef (dY×dY)) (F8:ef Fk),eL G v/\SS CB CC CL CS CF CT v H8 se r S B c L8 U X F8/\D1 H8 U PP/\v PP=none/\((σ=[some (.ref sh),some (.ref st),some (.ref se),some .non]/\m=0/\∃e,L8.getLast?=some e/\e.1=0)\/∃D Y,σ=[some (.ref sh),some (.ref st),some (.ref se),some (.ref D)]/\m=c.mv (c.n+1) F8+1/\fX c L8 F8.reverse Y/\NZ L8/\md CT v H8 D Y/\v D=none/\D∉U/\D∉X.map (·.2)),⟨c.mv (c.n+1) []+1,G7,[],O,[],[],ed.trans M.gg,S7,g1,gt,.inr ⟨s7,d7,rfl,rfl,.nil kc (dd []),(λe he=>nomatch he),c7,e4,f6,(λz=>nomatch z)⟩⟩,?_⟩;rintro m σ H8 ⟨v,L8,U,X,F8,a1,j,ap,b2,co⟩;obtain⟨ah,a5⟩:=j.se.self;have ad:=j.se.gh.ins a5;obtain⟨gk,lb,k6,ls,k0,kq,lv,k8,k1,ec,ez⟩:=id j.led.ex;have ho:∀{N:Hp},eL v N->eL (del H [PP]) N:=λ{N} h=>c0.trans (a1.trans h);rcases co with ⟨rfl,rfl,e,e6,kh⟩|⟨D,Y,rfl,rfl,d,ey,as,hc,bm,d9⟩;refine⟨_,rfl,_,rfl,fz (fz ?_)⟩;refine⟨_,rfl,_,rfl,gY ?_⟩;refine⟨_,rfl,se,ah,_,V.ref S,rfl,ad,(by kernel_rfl),S,gk,_,rfl,j.se.gh.ins ec,(by kernel_rfl),v,S,r,c,L8,U,rfl,j.se.gh,j.se.chart,j.led,cn,j.ok.lt,j.se.sm L8 j.ok,λln N s9 bv=>?_⟩;refine⟨qK,λt ht=>?_⟩;have st:=eJ ht (.tup [.non,.ref ln]);have sA:=s9.trans st;exact q1 c _ t rfl rfl (ho (j.se.gh.trans sA.toF)) (ic.f sA.toF ap.1) (.inl ⟨L8,⟨ln,er,bv.same st⟩,j.ok,e,e6,kh⟩);obtain⟨b1,wa,a0,wo,aa,hd,kl⟩:=id as;refine⟨_,rfl,_,rfl,gY ?_⟩;refine⟨_,rfl,D,b1,_,V.ref wa,rfl,a0,(by kernel_rfl),wa,aa,rfl,.inr ⟨wo,j.se.gh.frz hd⟩,?_⟩;have lw:=Paired.length kl;by_cases hwe:Y.wanted=[];have hw:aa=[]:=bO.mp (by rw[lw,hwe];rfl);rw[hw];refine fz ?_;have a9:=d.sd.fit hwe;refine⟨_,rfl,_,rfl,fz ?_⟩;refine⟨_,rfl,se,ah,_,rfl,ad,(by kernel_rfl),_,rfl,D,b1,_,V.int (Y.picked:Nat),rfl,a0,(by kernel_rfl),v,se,r,S,B,c,L8,U,X,F8,Y,rfl,j,d,a9,λG9 N L9 O9 F9 f5 ei R a4=>?_⟩;have f3:=ei.no a0 bm d9 λz=>z;have cd:=ap.keep (ei.MF j.fk);obtain⟨c5,cz⟩:=R.se.self;have be:=R.se.gh.ins cz;obtain⟨gx,gb,g4,h6,lm,k3,kt,k4,k7,d1,d2,d3,d4,d5,d6⟩:=R.se.chart.ex;refine⟨_,rfl,se,c5,_,V.ref r,rfl,be,(by kernel_rfl),r,gx,_,rfl,R.se.gh.ins d1,(by kernel_rfl),_,rfl,D,b1,_,V.int (Y.picked:Nat),rfl,f3,(by kernel_rfl),G9,r,gx,h6,_,c,_,rfl,R.se.gh,R.se.gh.ins d1,(by kernel_rfl),d5,cn,d.sd.pl,λl xs Ha sa hl h3 j1 kf=>?_⟩;obtain⟨h9,lo,kv,k5,la,kn,k2,lq,ks,da,e0⟩:=id R.led.ex;have ga:eL G9 Ha:=R.se.gh.trans sa.toF;refine⟨_,rfl,se,c5,_,V.ref S,rfl,sa _ _ be,(by kernel_rfl),S,h9,_,rfl,ga.ins da,(by kernel_rfl),G9,S,r,c,L9,O9,rfl,ga,R.se.chart,R.led.same sa,cn,R.ok.lt,R.se.sm L9 R.ok,λln Hb sb bv=>?_⟩;refine⟨qK,λt ht=>?_⟩;have st:=eJ ht (.tup [.ref l,.ref ln]);have sA:=sa.trans (sb.trans st);have gA:eL G9 (upd Hb t (.tup [.ref l,.ref ln])):=R.se.gh.trans sA.toF;refine q1 c _ t rfl rfl (c0.trans (a1.trans (f5.trans gA))) (ic.f sA.toF cd.1) (.inr ⟨L9,Y.picked,⟨l,ln,er,⟨xs,st _ _ (sb _ _ h3),Paired.KG j1 λ_ _=>fj.f gA⟩,bv.same st⟩,R.ok,a9,d.sd.one,d.sd.pl,d.sd.named,λk hk c9 n hn kk hs=>?_⟩);obtain⟨g,cv,ew⟩:=d.from k hk;have go:=ck.mp cv;have it:k.1=g.part:=((d.fks g cv).1.bit k ew).2.1;rw[it]at c9 hn ⊢;exact a4 g go c9 k ew n hn kk hs;have e1:(!aa.isEmpty)=true:=by cases aa with|nil=>exact absurd (bO.mp lw.symm) hwe|cons a b=>rfl
 rw[e1];refine gY ⟨λσ' H'=>∃m',m'<c.mv (c.n+1) F8+1/\_,λ_ _ h=>h,?_⟩;refine⟨_,rfl,se,ah,_,V.ref B,rfl,ad,(by kernel_rfl),.inl ⟨rfl,_,ff.of j.fk.l⟩,?_⟩;refine⟨_,rfl,se,ah,_,rfl,ad,(by kernel_rfl),_,rfl,v,se,r,S,B,D,c,L8,Y,rfl,j.se,as,d.sd,hwe,ap.1,b2,λx N hx b5 s9 c4=>?_⟩;refine⟨_,rfl,λq fx dp ih hm=>?_⟩;obtain⟨ky,g5,g7⟩:=ap.fix;have nP:∀{a u},H8 a=some u->¬u5 u->a∉[PP]:=λ{a u} h n z=>by rw[aj.mp z,g5]at h;cases h;exact n g7
 have k9:∀{a u},H8 a=some u->¬u5 u->N a=some u:=λ{a u} h n=>s9 _ _ (by rw[eM (nP h n)];exact h);have g9:eL v N:=iG j.se.gh (O:=[PP]) (λa J=>by rw[aj.mp J];exact b2) s9.toF;have a3:gK CL v N S r c L8 U:=j.led.grow (eL.refl _) j.led.off λa J=>by obtain⟨u,o⟩:=j.led.liv a J;rw[k9 o (j.led.nf a J u o),o]
 have ft:∃u,N PP=some u:=by rcases c4 with z|⟨c',z,_⟩;exact⟨_,z⟩;exact⟨_,z⟩
 have c3:iU v H8 [PP] v N [PP]:=⟨eL.refl _,g9,λa e n=>absurd e n,λa h=>.inl h,s9.toF,λa e=>by
  by_cases z:a=PP;obtain⟨u,o⟩:=ft;rw[z,o]at e;cases e;have:=s9.free e;rw[eM (by simpa using z)]at this
  exact this⟩
 have ds:zf [PP] B X:=⟨nP j.fk.l λz=>z,λa J=>by
  obtain⟨t,ht⟩:=aB.mp J;obtain⟨fk,_,⟨lk,h1⟩,lf,kw,h2,_⟩:=Paired.K8 j.fk.p ht
  exact⟨nP h1 λz=>z,nP h2 λz=>z⟩⟩
 have I:=j.fk.grow c3 ds;have a7:=as.grow c3 (nP a0 λz=>z);have R:SS CB CC CL CS CF CT v N se r S B c L8 U X F8:=⟨j.se.grow (eL.refl _) g9,a3,j.ok,I,j.sep⟩;have cd:D1 N U PP:=⟨c4,ap.2.1,λc' u _ e2 f2 z=>a3.nf c' z u e2 f2⟩;have sm:=made (C:=CF) dp ih hm;have L:=dp;have g6:upd (upd N fx (.own q)) q (.ins CF fx []) q=some (.ins CF fx []):=er;generalize upd (upd N fx (.own q)) q (.ins CF fx [])=Ha at *;have eh:=iU.same (O:=U) g9 sm;have Sa:=R.grow eh (a3.same sm) R.ok;have kp:md CT v Ha D Y:=a7.grow eh bm;refine⟨q,fx,_,_,rfl,g6,rfl,?_⟩;have em:B≠q:=λz=>by have:=I.l;rw[z,L]at this;cases this
 have ct:v q=none:=g9.free L;have bq:(X.map λa=>V.ref a.1).length<sizeLine:=by rw[ab,Paired.length j.fk.p];have:=d.depth;rw[ci]at this;exact eY (by lia)
 refine⟨B,_,_,rfl,rfl,(by rw[eB em];exact Sa.fk.l),bq,?_⟩;have b8:∀y,y≠q->y≠B->upd (upd Ha q (.ins CF fx (uF (.str x) (.ref D) (.int 0)))) B (.lst ((X.map λa=>V.ref a.1)++[.ref q])) y=Ha y:=λy h1 h2=>by rw[eB h2,eB h1]
 have fr:upd (upd Ha q (.ins CF fx (uF (.str x) (.ref D) (.int 0)))) B (.lst ((X.map λa=>V.ref a.1)++[.ref q])) q=some (.ins CF fx (uF (.str x) (.ref D) (.int 0))):=by rw[eB (Ne.symm em),er]
 have gd:upd (upd Ha q (.ins CF fx (uF (.str x) (.ref D) (.int 0)))) B (.lst ((X.map λa=>V.ref a.1)++[.ref q])) B=some (.lst ((X++[(q,D)]).map λa=>V.ref a.1)):=by rw[er,aG];rfl
 have gb:eL v (upd (upd Ha q (.ins CF fx (uF (.str x) (.ref D) (.int 0)))) B (.lst ((X.map λa=>V.ref a.1)++[.ref q]))):=(Sa.se.gh.upd ct).upd Sa.fk.offl;generalize upd (upd Ha q (.ins CF fx (uF (.str x) (.ref D) (.int 0)))) B (.lst ((X.map λa=>V.ref a.1)++[.ref q]))=Hb at *;have an:∀{y C dy fs},N y=some (.ins C dy fs)->y≠q/\y≠B:=λ{y C dy fs} h=>⟨eG h L,fF h I.l λz=>nomatch z⟩;have kb:∀{y C dy fs},N y=some (.ins C dy fs)->Hb y=some (.ins C dy fs):=λ{y C dy fs} h=>by rw[b8 y (an h).1 (an h).2];exact sm _ _ h
 have ba:q∉U:=λz=>by obtain⟨u,o⟩:=a3.liv q z;rw[L]at o;cases o
 have i1:gK CL v Hb S r c L8 U:=Sa.led.grow (eL.refl _) Sa.led.off λy hy=>b8 y (λz=>ba (z▸hy)) λz=>j.sep.1 (z▸hy);have ev:md CT v Hb D Y:=by obtain⟨y1,y2,y3,y4⟩:=a7;exact⟨y1,y2,kb y3,y4⟩
 have e9:jm CF CT v Hb c B (X++[(q,D)]) (F8++[⟨x,Y,none⟩]):=by refine⟨gd,Paired.snoc (Paired.KG I.p (by rintro _ _ ⟨⟨z1,z2⟩,z3,z4,z5,z6⟩;exact⟨⟨z1,kb z2⟩,z3,z4,kb z5,z6⟩)) ⟨⟨fx,fr⟩,ev⟩,I.offl,λa J=>?_,?_,?_⟩;rcases aA.mp J with z|z;exact I.off a z;rw[aj.mp z];exact⟨ct,hc⟩;rw[aG,bN];refine⟨I.nd1,by simp,λa J y hy e=>?_⟩;rw[show y=q by simpa using hy]at e;obtain⟨a',hj,e'⟩:=aC.mp J;obtain⟨t,ht⟩:=aB.mp hj;obtain⟨fk,_,⟨z1,z2⟩,_⟩:=Paired.K8 I.p ht;rw[e',e,L]at z2;cases z2;rw[aG,bN];refine⟨I.nd2,by simp,λa J y hy e=>?_⟩;rw[show y=D by simpa using hy]at e;exact d9 (e▸J)
 have Sb:SS CB CC CL CS CF CT v Hb se r S B c L8 U (X++[(q,D)]) (F8++[⟨x,Y,none⟩]):=⟨j.se.grow (eL.refl _) gb,i1,j.ok,e9,j.sep.1,λa J=>by
  rcases aA.mp J with z|z;exact j.sep.2 a z
  rw[aj.mp z];exact⟨ba,bm⟩⟩
 have f8:jf N U Hb U:=λy u hy fy ny=>by
  have n1:y≠q:=eG hy L;have n2:y≠B:=λz=>by rw[z,I.l]at hy;cases hy;exact fy
  exact⟨by rw[b8 y n1 n2];exact sm _ _ hy,ny⟩
 have a2:=cd.keep f8;have cs:=gb.ins a5;have kd:kO c ⟨x,Y,none⟩:=⟨hx,b5,λk hk=>nomatch hk⟩;have ek:F8.length<c.n+1:=by have:=d.depth;rw[ci]at this;lia
 have fo:=c.LN ⟨x,Y,none⟩ (c.n+1) F8 ek;obtain⟨is,jn,f7⟩:=a2.fix;have ag:∀{G':Hp},zg Hb U v G'->G' PP=none:=λ{G'} ox=>ox PP is jn f7 a2.2.1 b2;refine⟨_,rfl,se,ah,_,rfl,cs,(by kernel_rfl),v,se,r,S,B,c,L8,U,X++[(q,D)],F8,⟨x,Y,none⟩,rfl,Sb,d,kd,ey,λG' H' L' O' A' F' s' d' b3 b4 b6 S' eb ea c6 h7 hv j2 ko=>?_,λG' H' L' O' A' F' e' b3 b4 b6 S' ej dv=>?_⟩;have b7:=a2.keep b4;refine⟨c.mv (c.n+1) F'+1,by lia,G',L',O',A',F',a1.trans b3,S',b7,ag b6,.inr ⟨s',d',rfl,rfl,eb,ea,c6,h7,hv,j2⟩⟩;have b7:=a2.keep b4;exact⟨0,Nat.succ_pos _,G',L',O',A',F',a1.trans b3,S',b7,ag b6,.inl ⟨rfl,rfl,e',ej,dv⟩⟩
end
end
section
variable {m:Nat}
noncomputable def uN (Vs:ef Int):ef Str->ef (ef (el Int))
 |[]=>[[]]
 |_::ps=>(none::Vs.map some).flatMap λo=>(uN Vs ps).map λr=>o::r
theorem rj (Vs:ef Int):∀ps:ef Str,(uN Vs ps).length<=(Vs.length+1)^ps.length
 |[]=>am _
 |_::ps=>by
  have ih:=rj Vs ps;have h:=nU (f:=λo:el Int=>(uN Vs ps).map λr=>o::r) (n:=(Vs.length+1)^ps.length) (l:=none::Vs.map some) λo _=>by rw[ab];exact ih
  rw[aE,ab]at h;rw[aE,cN,Nat.mul_comm];exact h
def eD.MZ (c:eD)(m:Nat)(x:Str):el Int:=((c.listed m).find? λk=>decide (k.1=x)).map (·.2)
def eD.code (c:eD)(Ps:ef Str)(m:Nat):ef (el Int):=Ps.map (c.MZ m)
def qM {c:eD}(b:c.Ly m){k:Pk}(a:c.has m k):c.MZ m k.1=some k.2:=by
 unfold eD.MZ;cases h:(c.listed m).find? λj=>decide (j.1=k.1) with|none=>have:=dO.mp h k (eD.Lf.mpr a);simp at this|some j=>
  have d:j.1=k.1:=by simpa using List.find?_some h
  have e:=eD.Lf.mp (b0 h);rw[b j k e a d];rfl
def pi {c:eD}{x:Str}{v:Int}(h:c.MZ m x=some v):c.has m (x,v):=by
 unfold eD.MZ at h;obtain⟨j,a,e⟩:=ax.mp h;have d:j.1=x:=by simpa using List.find?_some a
 have b:=eD.Lf.mp (b0 a);have:j=(x,v):=Prod.ext d e;rw[<-this];exact b
theorem xB {c:eD}{Vs:ef Int}(hv:∀k∈c.ks,k.2∈Vs)(m:Nat):∀Ps:ef Str,c.code Ps m∈uN Vs Ps
 |[]=>aj.mpr rfl
 |x::ps=>by refine List.mem_flatMap.mpr ⟨c.MZ m x,?_,aC.mpr ⟨c.code ps m,xB hv m ps,rfl⟩⟩;cases h:c.MZ m x with|none=>exact bC|some v=>exact bj _ (bo (hv (x,v) (pi h).1))
def BB {c:eD}{Ps:ef Str}(hp:∀k∈c.ks,k.1∈Ps){m':Nat}(g:m<2^c.n)(b:m'<2^c.n)(l:c.Ly m)(j:c.Ly m')(h:c.code Ps m=c.code Ps m'):m=m':=by
 have key:∀x∈Ps,c.MZ m x=c.MZ m' x:=λx p=>by
  obtain⟨i,e⟩:=aB.mp p;have d:(c.code Ps m)[i]?=some (c.MZ m x):=by unfold eD.code;rw[ae,e];rfl
  have o:(c.code Ps m')[i]?=some (c.MZ m' x):=by unfold eD.code;rw[ae,e];rfl
  rw[h,o]at d;exact(Option.some.inj d).symm
 refine eD.ext g b λk=>⟨λa=>?_,λa=>?_⟩;have:=qM l a;rw[key k.1 (hp k a.1)]at this;exact pi this;have:=qM j a;rw[<-key k.1 (hp k a.1)]at this;exact pi this
def yN {c:eD}{L:iA}{Ps:ef Str}{Vs:ef Int}(d:ib c L)(hp:∀k∈c.ks,k.1∈Ps)(m:∀k∈c.ks,k.2∈Vs):L.length<=(Vs.length+1)^Ps.length:=by
 have p:(L.map λe=>c.code Ps e.1).Nodup:=by refine cu.mpr ?_;have l:L.Pairwise λa b=>a.1≠b.1:=cu.mp d.nd;exact l.imp_of_mem λh j g z=>g (BB hp (d.lt _ h) (d.lt _ j) (d.one _ h) (d.one _ j) z)
 have i:(L.map λe=>c.code Ps e.1).length<=(uN Vs Ps).length:=lD p λr o=>by obtain⟨e,_,rfl⟩:=aC.mp o;exact xB m e.1 Ps
 rw[ab]at i;exact bz i (rj Vs Ps)
end
section
seal ni PS PE PT PA
structure uZ (K:W.Frag)(mg:Str->el dZ):Prop where
 len:mg "len" = none
 range:mg "range" = none
 list:mg "list" = none
 tuple:mg "tuple" = none
 str:mg "str" = none
 int:mg "int" = none
 bool:mg "bool" = none
 isin:mg "isinstance" = none
 sorted:mg "sorted" = none
 rev:mg "reversed" = none
inductive Iw (K:W.Frag)(vs:ef V)(H:Hp)(Q:VK)(E:XK):Prop
 |mk (a:dY)(ns:ef Int)(k:Int)(_:vs=[.ref a,.int k])(_:ff K H a (ns.map V.int))(_:0<=k)(_:∀z,Q (.int z) H)
noncomputable def wP:ef Int:=[9,10,-10,100,0,-1,10^30]
inductive Fs (vs:ef V)(H:Hp)(Q:VK)(E:XK):Prop
 |mk (c:Int)(_:vs=[.int c])(_:∀z H',eN H H'->z∈wP->Q (.int z) H')
inductive uV (vs:ef V)(H:Hp)(Q:VK)(E:XK):Prop
 |mk (c:Int)(_:vs=[.int c])(_:∀q (n:Nd) H',eN H H'->H q=none->H' q=some (.tup [.str n.1,.int n.2.1,.int n.2.2])->fU n.1->Q (.ref q) H')
inductive ph (K:W.Frag)(vs:ef V)(H:Hp)(Q:VK)(E:XK):Prop
 |mk (v:V)(n:Nd)(z:Int)(_:vs=[v,.int z])(_:fH H v n)(_:Q (.bl (decide (n.2.1<=z)&&decide (z<=n.2.2))) H)
section
variable {P:ee}{w:World}{K:W.Frag}{mg:Str->el dZ}{base:Heap}{f:dY}{fd:eg}
def Jb:eQ ["_law_script","_law_k"] ["_law_script","_law_k"] (eK Jd):=iW
def GZ (F:iE K "_law_at" "_law_at" Jd f fd)(T:uZ K mg):fB P w K mg base fC 1 f fd ["_law_script","_law_k"] (Iw K):=by refine F.ok Jb λg A b s H o Q E m h=>?_;obtain⟨a,i,k,rfl,e,j,q⟩:=h;refine⟨_,et (fm (fD qY (pv 1) (fe fA rfl T.len bp (eo (pv 0) eA)) (fQ _)) (eE (eU (eP fw (pv 0) (pv 1)))) eV) (eE (eU eF)),?_⟩;refine⟨_,rfl,_,rfl,a,_,rfl,.inl e,_,_,rfl,rfl,_,rfl,?_⟩;refine jg (λc=>?_) (λc=>?_);have d:k<(((i.map V.int).length:Nat):Int):=aI c;rw[ab]at d;obtain⟨z,l,_⟩:=lg j d;exact⟨_,rfl,_,rfl,a,_,_,_,rfl,rfl,e,l,q z⟩;exact q 0
def GA:eQ ["_law_cell"] ["_law_cell"] (eK Eu):=iW
def EH (F:iE K "_law_version_by" "_law_version_by" Eu f fd):fB P w K mg base fC 1 f fd ["_law_cell"] Fs:=by refine F.ok GA λe A d s H j Q E g h=>?_;obtain⟨c,rfl,q⟩:=h;refine⟨_,et (fm (fD jM (fh kg (pv 0) eF) eF (fQ _)) (eE (eU (eP fw (gy (eo eF (eo eF (eo (ja jy eF) (eo eF eA))))) (fh kg (fh jE (pv 0) eF) eF)))) eV) (eE (eU (eP fw (gy (eo eF (eo (ja jy eF) (eo (fh nK eF eF) eA)))) (fh kg (pv 0) eF)))),?_⟩;refine⟨_,rfl,_,_,rfl,rfl,(by show(0:Int)<7;decide),rfl,_,rfl,?_⟩;refine jg (λ_=>?_) (λ_=>?_);refine⟨_,rfl,Ge,λp hp=>?_⟩;obtain⟨z,b,a⟩:=lg (ns:=[9,10,-10,100]) (i:=c / 7 % 4) (dw _ (by decide)) (cJ _ (by decide));exact⟨_,rfl,_,_,rfl,rfl,⟨by decide,by decide⟩,_,_,rfl,rfl,(by show(0:Int)<4;decide),p,_,_,_,rfl,rfl,ff.of er,b,q z _ (eJ hp _) (aO [0,-1,10^30] a)⟩;refine⟨_,rfl,_,_,rfl,rfl,⟨by decide,by decide,by decide⟩,B4,λp hp=>?_⟩;obtain⟨z,b,a⟩:=lg (ns:=[0,-1,10^(30:Int).toNat]) (i:=c % 3) (dw _ (by decide)) (cJ _ (by decide));exact⟨_,rfl,_,_,rfl,rfl,(by show(0:Int)<3;decide),p,_,_,_,rfl,rfl,ff.of er,b,q z _ (eJ hp _) (aS [9,10,-10,100] a)⟩
def wZ:fU "ashenashenashen":=⟨by decide +kernel,by decide +kernel⟩
def wY:fU "as":=⟨by decide +kernel,by decide +kernel⟩
def Az:fU "":=⟨by decide +kernel,by decide +kernel⟩
def wX:fU "ashenashxnashen":=⟨by decide +kernel,by decide +kernel⟩
def GX {xs:ef V}(h:xs=[.str "ashenashenashen",.str "as",.str "",.str "ashenashxnashen"]\/xs=[.str "as",.str "ashenashenashen",.str "ashenashxnashen",.str ""]){v:V}(a:v∈xs):∃x,v=.str x/\fU x:=by
 rcases h with rfl|rfl <;> simp only[ao,aR,or_false]at a <;> rcases a with rfl|rfl|rfl|rfl
 exact⟨_,rfl,wZ⟩;exact⟨_,rfl,wY⟩;exact⟨_,rfl,Az⟩;exact⟨_,rfl,wX⟩;exact⟨_,rfl,wY⟩;exact⟨_,rfl,wZ⟩;exact⟨_,rfl,wX⟩;exact⟨_,rfl,Az⟩
def rP:eQ ["_law_cell","_law_part","_law_low","_law_high"] ["_law_cell"] (eK zT):=iW
def CQ (F:iE K "_law_need_by" "_law_need_by" zT f fd)(G:Gd P w K mg base fC 1 "_law_version_by" ["_law_cell"] Fs):fB P w K mg base fC 2 f fd ["_law_cell"] uV:=by refine F.ok rP λo A d s H I Q E t h=>?_;obtain⟨c,rfl,q⟩:=h;refine⟨_,et (eO (i:=1) rP.nd (eP fw (gy (eo iI (eo iI (eo iI (eo iI eA))))) (fh kg (pv 0) eF))) (et (eO (i:=2) rP.nd (fG G t (eo (fh jE (pv 0) eF) eA))) (et (eO (i:=3) rP.nd (eP fw (gy (eo eF (eo (ja jy eF) (eo (fh nK eF eF) (eo (fh nK eF eF) (eo (pv 2) (eo (ja jy eF) eA))))))) (fh kg (fh jE (pv 0) eF) eF))) (eE (eU (gL (eo (pv 1) (eo (pv 2) (eo (pv 3) eA)))))))),?_⟩;refine⟨Ge,λp hp=>?_⟩;obtain⟨v,D,C⟩:=wj (xs:=[.str "ashenashenashen",.str "as",.str "",.str "ashenashxnashen"]) (i:=c % 4) (dw _ (by decide)) (cJ _ (by decide));obtain⟨x,rfl,B⟩:=GX (.inl rfl) C;refine⟨_,rfl,_,_,rfl,rfl,(by show(0:Int)<4;decide),p,_,_,_,rfl,rfl,ff.of er,D,?_⟩;have y:=eJ hp (.lst [.str "ashenashenashen",.str "as",.str "",.str "ashenashxnashen"]);refine⟨_,rfl,_,_,rfl,rfl,⟨by decide,by decide⟩,_,rfl,λg J m _=>?_⟩;refine⟨_,rfl,_,_,rfl,rfl,⟨by decide,by decide,by decide⟩,_,_,rfl,rfl,⟨by decide,by decide,by decide⟩,_,rfl,_,rfl,J8,λl e=>?_⟩;obtain⟨z,b,_⟩:=lg (ns:=[0,-1,10^(30:Int).toNat,10^(30:Int).toNat,g,-9]) (i:=c / 12 % 6) (dw _ (by decide)) (cJ _ (by decide));refine⟨_,rfl,_,_,rfl,rfl,⟨by decide,by decide⟩,_,_,rfl,rfl,(by show(0:Int)<6;decide),l,_,_,_,rfl,rfl,ff.of er,b,?_⟩;have j:=(y.trans m).trans (eJ e (.lst [.int 0,.int (-1),.int (10^(30:Int).toNat),.int (10^(30:Int).toNat),.int g,.int (-9)]));refine⟨_,rfl,_,rfl,_,rfl,B4,λr a=>?_⟩;exact q r (x,g,z) _ (j.trans (eJ a _)) (j.free a) er B
def IY:eQ ["_law_need","_law_version"] ["_law_need","_law_version"] (eK sj):=iW
def yl (F:iE K "_law_meets" "_law_meets" sj f fd):fB P w K mg base fC 1 f fd ["_law_need","_law_version"] (ph K):=by refine F.ok IY λe A a s H i Q E g h=>?_;obtain⟨v,n,z,rfl,⟨b,rfl,d⟩,q⟩:=h;refine⟨_,eE (eU (kU (kT w6 (eP eW (pv 0) eF) (pv 1) (fQ _)) (lJ (kT w6 (pv 1) (eP eW (pv 0) eF) (fQ _))))),?_⟩;refine⟨_,rfl,b,_,_,_,rfl,rfl,gC.of d,rfl,_,rfl,_,_,rfl,rfl,_,rfl,?_⟩;refine jg (λc=>?_) (λc=>?_);refine⟨_,rfl,_,rfl,b,_,_,_,rfl,rfl,gC.of d,rfl,_,_,rfl,rfl,?_⟩;rw[c,cq]at q;exact q;rw[bJ.mpr c,bX]at q;exact q
end
end
end Lake.FB
namespace Lake
open PySem PyProof.Rows
def li {X:Cx}{x:Str}{n:String}{pos:Pos}(a:Gl X x)(b:X.mg x=none)(d:bootBuiltins x=some (.type n))(hn:autoParam (x≠"__name__") Aq._auto_1)(hd:autoParam ((x == ("__debug__":Str))=false) Aq._auto_1):PE X (.Name x pos) (tC (.ty n)):=
 CI (v:=.ty n) a b d rfl hn hd
end Lake
namespace Lake.FB
open PySem PyProof.Rows
seal ni PS PE PT PA
def sY (K:W.Frag):W.kitOne K (.type "list") (.type "list")=some true:=by kernel_rfl
def pT (K:W.Frag):W.kitOne K (.type "tuple") (.type "tuple")=some true:=by kernel_rfl
def Bf (K:W.Frag):W.kitOne K (.type "str") (.type "str")=some true:=by kernel_rfl
def EW (K:W.Frag):W.kitOne K (.type "int") (.type "int")=some true:=by kernel_rfl
def EY (K:W.Frag):W.kitOne K (.type "int") (.type "bool")=some false:=by kernel_rfl
def Do (ds:ef PyData):PyData.eqv (.list ds) (.list [])=ds.isEmpty:=by cases ds <;> simp[PyData.eqv,PyData.eqvAll]
def yQ {α:Type}(xs:ef α)(x:α):(xs++[x])[(xs++[x]).length-1]?=some x:=by simp
section
variable {P:ee}{w:World}{K:W.Frag}{mg:Str->el dZ}{base:Heap}{f:dY}{fd:eg}
end
end Lake.FB
namespace Lake
open PySem PyProof.Rows
def wS (K:W.Frag):ef V->Hp->VK->Prop:=λxs H Q=>∃p ys,xs=[.ref p]/\(ff K H p ys\/gC K H p ys)/\∀l,H l=none->Q (.ref l) (upd H l (.lst ys))
def wc {X:Cx}:jC X (.type "list") (wS X.K):=iO
end Lake
namespace Lake.FB
open PySem PyProof.Rows
section
seal ni PS PE PT PA
variable {K:W.Frag}{P:ee}{fd:eg}{mg:Str->el dZ}{w:World}
def Hi:(["_law_k","_law_script"]:ef Str).Nodup:=by decide +kernel
def Hm:(["_law_entry"]:ef Str).Nodup:=by decide +kernel
inductive wz (K:W.Frag)(vs:ef V)(H:Hp)(Q:VK)(E:XK):Prop
 |mk (a:dY)(ns:ef Int)(_:vs=[.ref a])(_:ff K H a (ns.map V.int))(_:ns.length<=1000)(_:∀p (ms:ef Int) H',eN H H'->H' p=some (.lst (ms.map V.int))->ms.length=ns.length->Q (.ref p) H')
inductive rC (vs:ef V)(H:Hp)(Q:VK)(E:XK):Prop
 |mk (a:dY)(es:ef En)(_:vs=[.ref a])(_:iZ H a es)(_:es.length<=1000)(_:∀p H',eN H H'->iZ H' p es->Q (.ref p) H')
inductive xH (K:W.Frag)(vs:ef V)(H:Hp)(Q:VK)(E:XK):Prop
 |mk (a:dY)(v:V)(es:ef En)(n:Nd)(_:vs=[.ref a,v])(_:iZ H a es)(_:fH H v n)(_:es.length<64)(_:∀p (ms:ef Int) H',eN H H'->H' p=some (.lst (ms.map V.int))->ms.Perm (jc es n)->ms.Pairwise (·<=·)->∀p',H' p'=none->Q (.ref p') (upd H' p' (.lst (ms.map V.int).reverse)))
section
variable {base:Heap}{f:dY}
def IX:eQ ["_law_script"] ["_law_script"] (eK vp):=iW
theorem AM (F:iE K "_law_mixed" "_law_mixed" vp f fd)(T:uZ K mg):fB P w K mg base fC 1 f fd ["_law_script"] (wz K):=by
 refine F.ok IX λL A p s H N Q E R h=>?_;obtain⟨a,ns,rfl,I,O,q⟩:=h;refine⟨_,eE (eU (i7 (N':=["_law_k","_law_script"]) (n:=1) (js:=[0]) rfl (iR.one (c:=s.heap.objs.size+1) (y:="_law_script")) (iC (by decide)) (jH rfl T.range (eo (fe fA rfl T.len bp (eo (pv 0) eA)) eA)) (λC G d x=>eR (i:=0) Hi) (λC G d x=>jY) (λC G d x=>fh kg (fh sM (fh mx (eP (r:=GT K) fw (pv 1) (pv 0) (λ_ _=>rfl)) (fh sM eF (pv 0))) eF) eF))),?_⟩;have b:(ns.map V.int).length=ns.length:=ab _;refine⟨_,rfl,a,_,rfl,.inl I,_,rfl,by rw[b];lia,by rw[b];lia,?_⟩;refine wb (λD i g d=>∃e:ef Int,g=e.map V.int/\e.length=i/\d D=some (.lst g)/\eN H d/\H D=none) (λD B=>⟨[],rfl,rfl,er,eJ B _,B⟩) (λD i g d t ⟨e,j,o,l,m,_⟩=>⟨l,?_⟩) (λD i g d t ⟨e,j,o,l,m,v⟩=>?_) (λD g d ⟨e,j,o,l,m,_⟩=>?_);rw[j,ab];exact eY (by rw[b]at t;lia);have M:((i:Nat):Int)<(ns.length:Int):=by rw[b]at t;lia
 obtain⟨z,J,_⟩:=lg (ns:=ns) (i:=0+(i:Int)) (by lia) (by lia);unfold jw rL;dsimp only;rw[ay rfl];refine⟨_,rfl,_,rfl,a,_,_,_,rfl,rfl,m.seq I,J,_,rfl,_,_,rfl,rfl,.inl ⟨by decide,by decide⟩,_,_,rfl,rfl,_,_,rfl,rfl,.inr ⟨by decide,by decide⟩,_,_,rfl,rfl,(by show(0:Int)<1000003;decide),l,?_⟩;exact⟨e++[_],by rw[j,aG];rfl,by rw[aD,o];rfl,er,eN.upd m v,v⟩;exact q D e d m (j▸l) (by rw[o,bA,b])
def I0:eQ ["_law_shelf"] ["_law_shelf"] (eK Ac):=iW
theorem C4 (F:iE K "_law_copy_of" "_law_copy_of" Ac f fd)(T:uZ K mg):fB P w K mg base fC 1 f fd ["_law_shelf"] rC:=by
 refine F.ok I0 λaa A N s H vs Q E hr h=>?_;obtain⟨a,B,rfl,⟨xs,hx,hp⟩,hl,q⟩:=h;refine⟨_,eE (eU (i7 (N':=["_law_entry"]) (n:=1) (js:=[]) rfl (iR.closed) (iC (by decide)) (fL (pv 0)) (λC j b X=>eR (i:=0) Hm) (λC j b X=>jY) (λC j b X=>gL (eo (eP (r:=x5 K) eW (pv 0) eF (λ_ _=>rfl)) (eo (eP (r:=x5 K) eW (pv 0) eF (λ_ _=>rfl)) (eo (ig (r:=wS K) wc rfl T.list cZ (eo (eP (r:=x5 K) eW (pv 0) eF (λ_ _=>rfl)) eA)) eA)))))),?_⟩;have lx:xs.length=B.length:=Paired.length hp;refine⟨_,rfl,a,rfl,⟨xs,ff.of hx⟩,?_⟩;refine iy (xs:=xs) (λD i m b=>Paired (lr (del b [D])) m (B.take i)/\b D=some (.lst m)/\eN H b/\H D=none) (λD Y=>⟨by simpa using Paired.nil,er,eJ Y _,Y⟩)
  (λD i m b hi ⟨p,d,g,_⟩=>⟨ff.of (g _ _ hx),d,?_⟩) (λD i x m b hi ⟨p,d,g,R⟩=>?_) (λD m b ⟨p,d,g,R⟩=>?_)
 rw[Paired.length p,aV];exact eY (by lia);obtain⟨e,he,J,na,M,rfl,h1,h2,h3⟩:=Paired.K8 hp hi;have O:=g _ _ h1;have g2:=g _ _ h2;unfold jw rL;dsimp only;rw[ay rfl];refine⟨_,rfl,J,_,_,_,rfl,rfl,gC.of O,rfl,_,rfl,J,_,_,_,rfl,rfl,gC.of O,rfl,_,rfl,J,_,_,_,rfl,rfl,gC.of O,rfl,na,_,rfl,.inl (ff.of g2),λG t=>?_⟩;have s1:eN b (upd b G (.lst M)):=eJ t _;refine⟨B4,λZ l=>?_⟩;have j:=s1.trans (eJ l (.tup [.str e.1,.int e.2.1,.ref G]));have L:G≠D:=Ne.symm (eG d t);have S:Z≠D:=Ne.symm (eG (s1 _ _ d) l);refine⟨j _ _ d,?_,er,eN.upd (g.trans j) R,R⟩;have ht:B.take (i+1)=B.take i++[e]:=by rw[bc,he];rfl
 rw[ht,nc (by simp)];refine Paired.snoc (Paired.KG p λ_ _=>lr.same (eN.del j [D])) ⟨Z,G,M,rfl,?_,?_,?_⟩;rw[eM (by simpa using S)];exact er;rw[eM (by simpa using L),eB (Ne.symm (eG (o:=.lst M) er l).symm)];exact er;refine Paired.KG h3 λv n z=>?_;obtain⟨q1,I,U⟩:=z;have y:=g _ _ U;refine⟨q1,I,?_⟩;rw[eM (by simpa using fF y d (by intro z;cases z))];exact j _ _ y;rw[lx,aK]at p;exact q D b g ⟨m,d,Paired.KG p λ_ _=>lr.same (fM _ _)⟩
def Ek:eQ ["_law_shelf","_law_need","_law_found","_law_entry"] ["_law_shelf","_law_need"] (eK rY):=iW
theorem yi (F:iE K "_law_newest" "_law_newest" rY f fd)(T:uZ K mg)(G:Gd P w K mg base fC 1 "_law_meets" ["_law_need","_law_version"] (ph K)):fB P w K mg base fC 2 f fd ["_law_shelf","_law_need"] (xH K):=by
 refine F.ok Ek λY A D s H vs Q E Z h=>?_;obtain⟨a,v,l,n,rfl,⟨xs,O,hp⟩,hn,hl,q⟩:=h;refine⟨_,(et (eO (i:=2) Ek.nd (gy eA)) (et (fO (fL (pv 0)) (eR (i:=3) Ek.nd) (eE (fm (PW.pt (lH (fD jM (eP eW (pv 3) eF) (eP eW (pv 1) eF) (fQ _)) (jX (gT (fG G Z (eo (pv 1) (eo (eP eW (pv 3) eF) eA))))))) (eE (gF (jL PySem.F.plainAttrs_list PySem.F.slot_list_append PySem.F.type_list_append hZ (pv 2) (eo (eP eW (pv 3) eF) eA)))) eV))) (eE (eU (Cy rfl rfl T.list rfl T.rev (fe uQ rfl T.sorted boot_sorted (eo (pv 2) eA))))))),?_⟩;have X:xs.length=l.length:=Paired.length hp;obtain⟨t,rfl,N⟩:=hn;refine⟨u6,λy j=>?_⟩;refine⟨_,rfl,a,rfl,⟨xs,ff.of (eJ j _ _ _ O)⟩,fW (K:=K) (a:=a) (xs:=xs) (λi σ m=>∃e,σ=[some (.ref a),some (.ref t),some (.ref y),e]/\eN H m/\m y=some (.lst ((jc (l.take i) n).map V.int))) ⟨none,rfl,eJ j _,by simpa [jc] using er⟩ ((by rintro i σ m _ ⟨_,_,d,_⟩;exact ff.of (d _ _ O))) ?_ ?_⟩;rintro i x σ m hi ⟨o,rfl,d,g⟩;obtain⟨e,he,B,na,zs,rfl,h3,h4,h5⟩:=Paired.K8 hp hi;have J:=d _ _ h3;have R:=d _ _ N;have U:l.take (i+1)=l.take i++[e]:=by rw[bc,he];rfl
 have b:=vU (l.take i) e n;rw[<-U]at b;refine⟨_,rfl,B,_,_,_,rfl,rfl,gC.of J,rfl,_,rfl,t,_,_,_,rfl,rfl,gC.of R,rfl,rfl,_,rfl,?_⟩;rw[j6];refine jg (λc=>?_) (λc=>?_);refine⟨_,rfl,_,rfl,B,_,_,_,rfl,rfl,gC.of J,rfl,.ref t,n,e.2.1,rfl,⟨t,rfl,R⟩,_,rfl,?_⟩;refine jg (λI=>?_) (λI=>?_);have r:i9 n e=true:=by unfold i9;rw[c,I];rfl
 rw[ay r]at b;refine⟨_,rfl,.inl ⟨rfl,_,ff.of g⟩,_,rfl,B,_,_,_,rfl,rfl,gC.of J,rfl,y,_,_,rfl,rfl,g,?_,?_⟩;rw[ab];have:=jF (l.take i) n;rw[aV]at this;exact eY (by lia);refine⟨_,rfl,eN.upd d j,?_⟩;rw[er,b,aG];rfl;have r:¬i9 n e=true:=by unfold i9;rw[c,cq];exact I
 rw[av r]at b;exact⟨_,rfl,d,by rw[b];exact g⟩;have r:¬i9 n e=true:=by unfold i9;rw[bJ.mpr c];simp
 rw[av r]at b;exact fz ⟨_,rfl,d,by rw[b];exact g⟩;rintro σ m ⟨o,rfl,d,g⟩;rw[X,aK]at g;have aa:=jF l n;refine⟨_,rfl,y,_,rfl,ff.of g,by lia,λp S z L M=>?_⟩;refine⟨p,_,rfl,ff.of er,λp' C=>?_⟩;exact q p S _ (d.trans (eJ z _)) er L M p' C
end
inductive uU (K:W.Frag)(vs:ef V)(H:Hp)(Q:VK)(E:XK):Prop
 |mk (a:dY)(ns:ef Int)(_:vs=[.ref a])(_:ff K H a (ns.map V.int))(_:ns.length<=63)(_:∀p (sn:ef Nd) H',eN H H'->gv H' p sn->(∀n∈sn,fU n.1)->sn.length<=ns.length->Q (.ref p) H')
inductive qo (vs:ef V)(H:Hp)(Q:VK)(E:XK):Prop
 |mk (a:dY)(v:V)(es:ef En)(k:Pk)(_:vs=[.ref a,v])(_:iZ H a es)(_:fj H v k)(_:(es.map fb).Nodup)(_:∀e∈es,fb e=k->∀na zs,H na=some (.lst zs)->Paired (fH H) zs e.2.2->Q (.ref na) H)(_:k∉es.map fb->Q .non H)
def EM:(["_law_cell"]:ef Str).Nodup:=by decide +kernel
section
variable {base:Heap}{f:dY}
def GD:eQ ["_law_cells"] ["_law_cells"] (eK py):=iW
theorem vE (F:iE K "_law_start_by" "_law_start_by" py f fd)(G:Gd P w K mg base fC 2 "_law_need_by" ["_law_cell"] uV):fB P w K mg base fC 3 f fd ["_law_cells"] (uU K):=by
 refine F.ok GD λS A z s H vs Q E T h=>?_;obtain⟨a,v,rfl,R,hl,q⟩:=h;refine⟨_,eE (eU (i7 (N':=["_law_cell"]) (n:=1) (js:=[]) rfl (iR.closed) (iC (by decide)) (fL (pv 0)) (λC O b M=>eR (i:=0) EM) (λC O b M=>jY) (λC O b M=>fG G T (eo (fh mx (fh jE (pv 0) eF) eF) eA)))),?_⟩;have Z:(v.map V.int).length=v.length:=ab _;refine⟨_,rfl,a,rfl,⟨_,R⟩,?_⟩;refine iy (xs:=v.map V.int) (λD i e b=>∃d:ef Nd,Paired (fH (del b [D])) e d/\(∀n∈d,fU n.1)/\d.length<=i/\b D=some (.lst e)/\eN H b/\H D=none) (λD N=>⟨[],.nil,by simp,am _,er,eJ N _,N⟩)
  (λD i e b I ⟨d,l,p,r,g,j,o⟩=>⟨j.seq R,g,?_⟩) (λD i x e b I ⟨d,l,p,r,g,j,o⟩=>?_) (λD e b ⟨d,l,p,r,g,j,o⟩=>?_)
 rw[Paired.length l];exact eY (by lia);rw[ae]at I;obtain⟨c,hc,rfl⟩:=ax.mp I;unfold jw rL;dsimp only;rw[ay rfl];refine⟨_,rfl,_,_,rfl,rfl,⟨by decide,by decide⟩,_,_,rfl,rfl,_,rfl,λL n H3 J B t X=>?_⟩;have U:L≠D:=Ne.symm (eG g B);refine⟨J _ _ g,d++[n],?_,λm Y=>?_,by rw[aD,aP];lia,er,eN.upd (j.trans J) o,o⟩;rw[nc (by simp)];refine Paired.snoc (Paired.KG l λ_ _=>fH.same (eN.del J _)) ⟨L,rfl,?_⟩;rw[eM (by simpa using U)];exact t;rcases aA.mp Y with y|y;exact p m y;rw[aj.mp y];exact X;rw[Z]at r;exact q D d b j ⟨e,g,Paired.KG l λ_ _=>fH.same (fM _ _)⟩ p r
def GG:eQ ["_law_shelf","_law_pick","_law_entry"] ["_law_shelf","_law_pick"] (eK pC):=iW
def vI (F:iE K "_law_needs_in" "_law_needs_in" pC f fd):fB P w K mg base fC 1 f fd ["_law_shelf","_law_pick"] qo:=by
 refine F.ok GG λT A q s H Z Q E hr h=>?_;obtain⟨a,v,d,k,rfl,⟨xs,D,hp⟩,⟨B,rfl,C⟩,U,O,Y⟩:=h;refine⟨_,(et (fO (fL (pv 0)) (eR (i:=2) GG.nd) (eE (fm (PW.pt (lH (fD jM (eP eW (pv 2) eF) (eP eW (pv 1) eF) (fQ _)) (jX (fD jM (eP eW (pv 2) eF) (eP eW (pv 1) eF) (fQ _))))) (eE (eU (eP eW (pv 2) eF))) eV))) (eE (eU iJ))),?_⟩;have M:xs.length=d.length:=Paired.length hp;refine⟨_,rfl,a,rfl,⟨xs,ff.of D⟩,fW (K:=K) (a:=a) (xs:=xs) (λi σ g=>∃o,σ=[some (.ref a),some (.ref B),o]/\g=H/\k∉(d.take i).map fb) ⟨none,rfl,rfl,by simp⟩ ((by rintro i σ g _ ⟨_,_,e,_⟩;exact e▸ff.of D)) ?_ ?_⟩;rintro i x σ g X ⟨o,rfl,rfl,b⟩;obtain⟨e,I,j,S,L,rfl,t,N,R⟩:=Paired.K8 hp X;have J:d.take (i+1)=d.take i++[e]:=by rw[bc,I];rfl
 have step:¬fb e=k->k∉(d.take (i+1)).map fb:=λl G=>by rw[J,aG]at G;rcases aA.mp G with y|y;exact b y;rw[aH,cQ,aj]at y;exact l y.symm
 refine⟨_,rfl,j,_,_,_,rfl,rfl,gC.of t,rfl,_,rfl,B,_,_,_,rfl,rfl,gC.of C,rfl,rfl,_,rfl,?_⟩;rw[j6];refine jg (λc=>?_) (λc=>?_);refine⟨_,rfl,j,_,_,_,rfl,rfl,gC.of t,rfl,_,rfl,B,_,_,_,rfl,rfl,gC.of C,rfl,rfl,_,rfl,?_⟩;refine jg (λr=>?_) (λr=>?_);have m:e.1=k.1:=aI c;have p:e.2.1=k.2:=V.int.inj (aI r);exact⟨_,rfl,j,_,_,_,rfl,rfl,gC.of t,rfl,O e (ai I) (Prod.ext m p) S L N R⟩;refine⟨_,rfl,rfl,step λz=>r (aq ?_)⟩;rw[<-z];rfl;refine fz ⟨_,rfl,rfl,step λz=>c (aq ?_)⟩;rw[<-z];rfl;rintro σ g ⟨o,rfl,rfl,b⟩;rw[M,aK]at b;exact Y b
end
noncomputable def uD:ef Str:=["ashenashenashen","as","","ashenashxnashen"]
def Lw (e:En):Prop:=e.1∈uD/\e.2.1∈wP
def EE {v:V}(a:v∈[V.str "as",V.str "ashenashenashen",V.str "ashenashxnashen",V.str ""]):∃x,v=.str x/\fU x/\x∈uD:=by simp only[ao,aR,or_false]at a;rcases a with rfl|rfl|rfl|rfl;exact⟨_,rfl,wY,by unfold uD;simp⟩;exact⟨_,rfl,wZ,by unfold uD;simp⟩;exact⟨_,rfl,wX,by unfold uD;simp⟩;exact⟨_,rfl,Az,by unfold uD;simp⟩
inductive BG (K:W.Frag)(vs:ef V)(H:Hp)(Q:VK)(E:XK):Prop
 |mk (a:dY)(ns:ef Int)(_:vs=[.ref a])(_:ff K H a (ns.map V.int))(_:ns.length<=63)(_:∀p (es:ef En) xs H',eN H H'->H p=none->H' p=some (.lst xs)->Paired (lr (del H' [p])) xs es->(es.map fb).Nodup->(∀e∈es,ll e)->es.length<=ns.length->(∀e∈es,Lw e)->Q (.ref p) H')
inductive JE (H:Hp)(a p t:dY)(i:Nat)(σ:Lake.St)(H2:Hp):Prop
 |mk (es:ef En)(xs ys:ef V)(o3 o4 o5 o6 o7 o8:el V)(_:σ=[some (.ref a),some (.ref p),some (.ref t),o3,o4,o5,o6,o7,o8])(_:H2 p=some (.lst xs))(_:H2 t=some (.lst ys))(_:Paired (lr (del H2 [p,t])) xs es)(_:Paired (fj (del H2 [p,t])) ys (es.map fb))(_:(es.map fb).Nodup)(_:∀e∈es,ll e/\Lw e)(_:es.length<=i)
structure Ks (H:Hp)(a p t:dY)(i:Nat)(σ:Lake.St)(H2:Hp):Prop where
 ex:JE H a p t i σ H2
 sm:eN H H2
inductive JH (Hb:Hp)(p t nd:dY)(σ0:el V->Lake.St)(j:Nat)(σ:Lake.St)(H6:Hp):Prop
 |mk (zs:ef V)(nds:ef Nd)(o8:el V)(_:σ=σ0 o8)(_:H6 nd=some (.lst zs))(_:Paired (fH (del H6 [p,t,nd])) zs nds)(_:∀n∈nds,fU n.1)(_:nds.length<=j)
structure Kt (Hb:Hp)(p t nd:dY)(σ0:el V->Lake.St)(j:Nat)(σ:Lake.St)(H6:Hp):Prop where
 ex:JH Hb p t nd σ0 j σ H6
 sm:eN Hb H6
section
variable {base:Heap}{f:dY}
def rO:eQ ["_law_cells","_law_shelf","_law_there","_law_k","_law_cell","_law_part","_law_pick","_law_needs","_law_j"] ["_law_cells"] (eK vn):=iW
def AJ (F:iE K "_law_shelf_by" "_law_shelf_by" vn f fd)(T:uZ K mg)(G:Gd P w K mg base fC 1 "_law_version_by" ["_law_cell"] Fs)(G2:Gd P w K mg base fC 2 "_law_need_by" ["_law_cell"] uV):fB P w K mg base fC 3 f fd ["_law_cells"] (BG K):=by
 refine F.ok rO λcs A b8 s H vs Q E hr h=>?_;obtain⟨a,ns,rfl,hS,hl,q⟩:=h;have bq:gU 1 _:=hr.mono (by decide);refine⟨_,(et (eO (i:=1) rO.nd (gy eA)) (et (eO (i:=2) rO.nd (gy eA)) (et (fO (jH rfl T.range (eo (fe fA rfl T.len bp (eo (pv 0) eA)) eA)) (eR (i:=3) rO.nd) (et (eO (i:=4) rO.nd (eP fw (pv 0) (pv 3))) (et (eO (i:=5) rO.nd (eP fw (gy (eo iI (eo iI (eo iI (eo iI eA))))) (fh kg (fh mx (pv 4) (pv 3)) eF))) (et (eO (i:=6) rO.nd (gL (eo (pv 5) (eo (fG G bq (eo (fh mx (fh jE (pv 4) eF) (fh jE (pv 3) eF)) eA)) eA)))) (et (eO (i:=7) rO.nd (gy eA)) (et (fO (jH rfl T.range (eo (eP fw (gy (eo eF (eo eF (eo eF (eo eF (eo eF (eo eF (eo eF (eo eF (eo eF (eo eF eA))))))))))) (fh kg (fh jE (pv 4) eF) eF)) eA)) (eR (i:=8) rO.nd) (eE (gF (jL PySem.F.plainAttrs_list PySem.F.slot_list_append PySem.F.type_list_append hZ (pv 7) (eo (fG G2 hr (eo (fh mx (fh mx (fh jE (pv 4) eF) (fh sM eF (pv 8))) (fh sM eF (pv 3))) eA)) eA))))) (eE (fm (fD (nL hr.units) (pv 6) (pv 2) (by with_unfolding_all rfl)) (et (gF (jL PySem.F.plainAttrs_list PySem.F.slot_list_append PySem.F.type_list_append hZ (pv 2) (eo (pv 6) eA))) (eE (gF (jL PySem.F.plainAttrs_list PySem.F.slot_list_append PySem.F.type_list_append hZ (pv 1) (eo (gL (eo (eP eW (pv 6) eF) (eo (eP eW (pv 6) eF) (eo (pv 7) eA)))) eA))))) eV)))))))) (eE (eU (pv 1)))))),?_⟩;have U:(ns.map V.int).length=ns.length:=ab _;refine⟨u6,λp hp=>⟨u6,λt ht=>?_⟩⟩;have s1:eN H (upd H p (.lst [])):=eJ hp _;have an:p≠t:=eG (o:=.lst []) er ht;have bx:H t=none:=s1.free ht;have s2:eN H (upd (upd H p (.lst [])) t (.lst [])):=s1.trans (eJ ht _);refine⟨_,rfl,a,_,rfl,.inl (s2.seq hS),_,rfl,by rw[U];omega,by rw[U];omega,?_⟩;refine kH (λi σ H2=>Ks H a p t i σ H2) ⟨⟨[],[],[],none,none,none,none,none,none,rfl,by rw[eB an];exact er,er,.nil,.nil,bT,by simp,am _⟩,s2⟩ ?_ ?_;rintro i σ H2 hi ⟨⟨es,xs,ys,o3,o4,o5,o6,o7,o8,rfl,ah,ba,L,J,Y,r,D⟩,sm⟩;have ct:((i:Nat):Int)<(ns.length:Int):=by rw[U,bA]at hi;omega
 have cn:i<ns.length:=by omega
 obtain⟨c,hc,_⟩:=lg (ns:=ns) (i:=0+(i:Int)) (by omega) (by omega);refine⟨_,rfl,_,rfl,a,_,_,_,rfl,rfl,sm.seq hS,hc,?_⟩;refine⟨Ge,λl1 bv=>?_⟩;obtain⟨v,hv,hm⟩:=wj (xs:=[.str "as",.str "ashenashenashen",.str "ashenashxnashen",.str ""]) (i:=(c+(0+(i:Int))) % 4) (dw _ (by decide)) (cJ _ (by decide));obtain⟨x,rfl,hx,bl⟩:=EE hm;refine⟨_,rfl,_,rfl,_,_,rfl,rfl,_,_,rfl,rfl,(by show(0:Int)<4;decide),l1,_,_,_,rfl,rfl,ff.of er,hv,?_⟩;have sa:=eJ bv (.lst [.str "as",.str "ashenashenashen",.str "ashenashxnashen",.str ""]);refine⟨_,rfl,_,rfl,_,_,rfl,rfl,⟨by decide,by decide⟩,_,rfl,_,_,rfl,rfl,⟨by decide,by decide⟩,_,_,rfl,rfl,_,rfl,λz H3 s3 b2=>⟨qK,λg cd=>?_⟩⟩;have sb:eN H2 (upd H3 g (.tup [.str x,.int z])):=(sa.trans s3).trans (eJ cd _);generalize b3:upd H3 g (.tup [.str x,.int z])=Hb at sb;have ch:Hb g=some (.tup [.str x,.int z]):=by rw[<-b3];exact er
 have a0:=sb _ _ ah;have ad:=sb _ _ ba;refine⟨u6,λnd l=>?_⟩;have b5:nd≠p:=Ne.symm (eG a0 l);have a3:nd≠t:=Ne.symm (eG ad l);refine⟨ID,λl2 a7=>?_⟩;obtain⟨jn,hj,bm⟩:=lg (ns:=[0,1,2,0,1,2,0,1,2,4]) (i:=c / 12 % 10) (dw _ (by decide)) (cJ _ (by decide));have cp:0<=jn/\jn<=4:=by simp only[ao,aR,or_false]at bm;omega
 refine⟨_,rfl,_,_,rfl,rfl,⟨by decide,by decide⟩,_,_,rfl,rfl,(by show(0:Int)<10;decide),l2,_,_,_,rfl,rfl,ff.of er,hj,jn,rfl,by omega,by omega,?_⟩;have sd:eN Hb (upd (upd Hb nd (.lst [])) l2 (.lst [.int 0,.int 1,.int 2,.int 0,.int 1,.int 2,.int 0,.int 1,.int 2,.int 4])):=(eJ l _).trans (eJ a7 _);refine kH (λj σ H6=>Kt Hb p t nd (λo8=>[some (.ref a),some (.ref p),some (.ref t),some (.int (0+(i:Int))),some (.int c),some (.str x),some (.ref g),some (.ref nd),o8]) j σ H6)
  ⟨⟨[],[],o8,rfl,by rw[eB (eG (o:=.lst []) er a7)];exact er,.nil,by simp,am _⟩,sd⟩ ?_ ?_
 rintro j σ H6 co ⟨⟨zs,X,bf,rfl,C,S,a2,b9⟩,Z⟩;refine⟨_,rfl,.inl ⟨rfl,_,ff.of C⟩,_,rfl,_,_,rfl,rfl,⟨by decide,by decide⟩,_,rfl,_,_,rfl,rfl,.inl ⟨by decide,by decide⟩,_,_,rfl,rfl,_,rfl,_,_,rfl,rfl,.inl ⟨by decide,by decide⟩,_,_,rfl,rfl,_,rfl,λq0 n M s7 al b6 hn=>?_⟩;have lz:=Paired.length S;refine⟨nd,_,_,rfl,rfl,s7 _ _ C,eY (by omega),⟨zs++[.ref q0],X++[n],_,rfl,er,?_,?_,by rw[aD,aP];omega⟩,eN.upd (Z.trans s7) l⟩;rw[nc (by simp)];refine Paired.snoc (Paired.KG S λ_ _=>fH.same (eN.del s7 _)) ⟨q0,rfl,?_⟩;rw[eM];exact b6;simp only[ao,aR,or_false,not_or];exact⟨Ne.symm (eG (Z _ _ a0) al),Ne.symm (eG (Z _ _ ad) al),Ne.symm (eG C al)⟩;intro m hm;rcases aA.mp hm with y|y;exact a2 m y;rw[aj.mp y];exact hn;rintro σ H6 ⟨⟨zs,X,bf,rfl,C,S,a2,b9⟩,Z⟩;have aa:=Z _ _ a0;have I:=Z _ _ ad;have N:=Z _ _ ch;have B:eN H2 H6:=sb.trans Z;have b1:g≠p:=Ne.symm (fF aa N (by intro y;cases y));have a6:g≠t:=Ne.symm (fF I N (by intro y;cases y));have a4:Paired (fj H6) ys (es.map fb):=Paired.KG J λ_ _ y=>fj.same ((eN.del B _).trans (fM _ _)) y;have b7:∀k∈es.map fb,fU k.1:=λk hk=>by obtain⟨e,he,rfl⟩:=aC.mp hk;exact(r e he).1.pt
 refine⟨_,rfl,_,rfl,mT (x,z),(es.map fb).map mT,fj.rep ⟨g,rfl,N⟩,.lst I (oM (λ_ _ y=>fj.rep y) a4),(kQ hx).1,mS b7,(kQ hx).2,_,rfl,?_⟩;rw[qj];refine jg (λap=>?_) (λap=>?_);have a8:¬(x,z)∈es.map fb:=by intro y;rw[aq y]at ap;exact absurd ap (by decide)
 have ly:=Paired.length J;have lx:=Paired.length L;rw[ab]at ly;refine⟨_,rfl,.inl ⟨rfl,_,ff.of I⟩,_,rfl,t,_,_,rfl,rfl,I,eY (by omega),?_⟩;generalize d:upd H6 t (.lst (ys++[.ref g]))=M;have ag:M p=some (.lst xs):=by rw[<-d,eB an];exact aa
 have as:M g=some (.tup [.str x,.int z]):=by rw[<-d,eB a6];exact N
 have cl:M nd=some (.lst zs):=by rw[<-d,eB a3];exact C
 have a5:M t=some (.lst (ys++[.ref g])):=by rw[<-d];exact er
 refine⟨_,rfl,.inl ⟨rfl,_,ff.of ag⟩,_,rfl,g,_,_,_,rfl,rfl,gC.of as,rfl,_,rfl,g,_,_,_,rfl,rfl,gC.of as,rfl,_,rfl,B4,λen a1=>?_⟩;have s8:=eJ a1 (.tup [.str x,.int z,.ref nd]);have b4:en≠p:=Ne.symm (eG ag a1);have be:en≠t:=Ne.symm (eG a5 a1);refine⟨p,xs,_,rfl,rfl,s8 _ _ ag,eY (by omega),?_⟩;have d9:del (upd (upd M en (.tup [.str x,.int z,.ref nd])) p (.lst (xs++[.ref en]))) [p,t]=del (upd M en (.tup [.str x,.int z,.ref nd])) [p,t]:=nc (by simp);have d7:del M [p,t]=del H6 [p,t]:=by rw[<-d];exact nc (by simp)
 have a9:eN (del H2 [p,t]) (del (upd M en (.tup [.str x,.int z,.ref nd])) [p,t]):=(eN.del B _).trans (d7▸eN.del s8 _);refine⟨⟨es++[(x,z,X)],xs++[.ref en],ys++[.ref g],_,_,_,_,_,_,rfl,er,?_,?_,?_,?_,?_,by rw[aD,aP];omega⟩,?_⟩;rw[eB (Ne.symm an)];exact s8 _ _ a5;rw[d9];refine Paired.snoc (Paired.KG L λ_ _=>lr.same a9) ⟨en,nd,zs,rfl,?_,?_,?_⟩;rw[eM (by simp only[ao,aR,or_false,not_or];exact⟨b4,be⟩)];exact er;rw[eM (by simp only[ao,aR,or_false,not_or];exact⟨b5,a3⟩)];exact s8 _ _ cl;refine Paired.KG S λ_ m y=>fH.same (λb o O=>?_) y;have R:b∉[p,t,nd]:=λy=>by rw[gc y]at O;cases O
 rw[eM R]at O;simp only[ao,aR,or_false,not_or]at R;rw[eM (by simp only[ao,aR,or_false,not_or];exact⟨R.1,R.2.1⟩)];refine s8 _ _ ?_;rw[<-d,eB R.2.1];exact O;rw[d9,aG];refine Paired.snoc (Paired.KG J λ_ _=>fj.same a9) ⟨g,rfl,?_⟩;rw[eM (by simp only[ao,aR,or_false,not_or];exact⟨b1,a6⟩)];exact s8 _ _ as;rw[aG];exact sQ Y a8;intro e he;rcases aA.mp he with y|y;exact r e y;rw[aj.mp y];exact⟨⟨hx,a2,by show X.length<=100;omega⟩,bl,b2⟩;have bd:eN H M:=by rw[<-d];exact eN.upd (sm.trans B) bx
 exact eN.upd (bd.trans s8) hp;exact⟨⟨es,xs,ys,_,_,_,_,_,_,rfl,aa,I,Paired.KG L λ_ _=>lr.same (eN.del B _),Paired.KG J λ_ _=>fj.same (eN.del B _),Y,r,by omega⟩,sm.trans B⟩;rintro σ H2 ⟨⟨es,xs,ys,o3,o4,o5,o6,o7,o8,rfl,ah,ba,L,J,Y,r,D⟩,sm⟩;refine⟨_,rfl,q p es xs H2 sm hp ah (Paired.KG L λ_ _=>lr.same (λb o O=>?_)) Y (λe he=>(r e he).1) (by rw[U,bA]at D;exact D) (λe he=>(r e he).2)⟩;have R:b∉[p,t]:=λy=>by rw[gc y]at O;cases O
 rw[eM R]at O;simp only[ao,aR,or_false,not_or]at R;rw[eM (by simpa using R.1)];exact O
end
inductive DY (vs:ef V)(H:Hp)(Q:VK)(E:XK):Prop
 |mk (a:dY)(v:V)(es:ef En)(n:Nd)(_:vs=[.ref a,v])(_:iZ H a es)(_:fH H v n)(_:es.length<64)(_:∀p H',eN H H'->H p=none->H' p=some (.lst ((jz es n).map V.int))->Q (.ref p) H')
def Jl (vs:ef V)(H:Hp)(Q:VK)(E:XK)(h:DY vs H Q E):xH K vs H Q E:=by obtain⟨a,v,g,n,rfl,r,l,m,q⟩:=h;refine⟨a,v,g,n,rfl,r,l,m,λp d t i s hp j o b=>?_⟩;have e:d.reverse=jz g n:=mW ((List.reverse_perm d).trans hp) (List.pairwise_reverse.mpr j);refine q o _ (i.trans (eJ b _)) (i.free b) ?_;rw[er,<-e,List.map_reverse]
noncomputable abbrev J0:ef Str:=["_law_shelf","_law_start","_law_lines","_law_spot","_law_picks","_law_word","_law_who","_law_place","_law_told","_law_needs","_law_need","_law_versions","_law_k","_law_pick"]
section
variable {base:Heap}{f:dY}
def oB:eQ J0 ["_law_shelf","_law_start","_law_lines","_law_spot"] (eK pE):=iW
end
inductive wt (vs:ef V)(H:Hp)(Q:VK)(E:XK):Prop
 |mk (i:Int)(_:vs=[.int i])(_:Q (.bl true) H)
section
variable {base:Heap}{f:dY}
def IU:eQ ["_law_found"] ["_law_found"] (eK vg):=iW
def AE (F:iE K "_law_whole" "_law_whole" vg f fd)(T:uZ K mg):fB P w K mg base fC 1 f fd ["_law_found"] wt:=by refine F.ok IU λb A a s H d Q E e h=>?_;obtain⟨i,rfl,q⟩:=h;refine⟨_,eE (eU (kU (fe gJ rfl T.isin bS (eo (pv 0) (eo (li rfl T.int boot_int) eA))) (lJ (vA (fe gJ rfl T.isin bS (eo (pv 0) (eo (li rfl T.bool boot_bool) eA))))))),?_⟩;refine⟨_,rfl,_,_,_,_,rfl,.int i,EW K,_,rfl,gY ⟨_,rfl,_,_,_,_,rfl,.int i,EY K,_,rfl,q⟩⟩
end
inductive tN (vs:ef V)(H:Hp)(Q:VK)(E:XK):Prop
 |mk (v:V)(k:Pk)(_:vs=[v])(_:fj H v k)(_:Q (.bl true) H)
inductive kM (vs:ef V)(H:Hp)(Q:VK)(E:XK):Prop
 |mk (a:dY)(ks:ef Pk)(_:vs=[.ref a])(_:je H a ks)(_:Q (.bl true) H)
inductive xM (vs:ef V)(H:Hp)(Q:VK)(E:XK):Prop
 |mk (v:V)(l:Ln)(_:vs=[v])(_:nr H v l)(_:Q (.bl true) H)
section
variable {base:Heap}{f:dY}
def GN:eQ ["_law_found"] ["_law_found"] (eK sk):=iW
def yo (F:iE K "_law_is_pick" "_law_is_pick" sk f fd)(T:uZ K mg)(G:Gd P w K mg base fC 1 "_law_whole" ["_law_found"] wt):fB P w K mg base fC 2 f fd ["_law_found"] tN:=by refine F.ok GN λe A d s H i Q E g h=>?_;obtain⟨v,k,rfl,⟨b,rfl,a⟩,q⟩:=h;refine⟨_,(et (fm (PW.pt (jl (gX (gT (fe gJ rfl T.isin bS (eo (pv 0) (eo (li rfl T.tuple boot_tuple) eA))))) (iS (fD ol (fe fA rfl T.len bp (eo (pv 0) eA)) eF (fQ _))))) (eE (eU ik)) eV) (eE (eU (kU (fe gJ rfl T.isin bS (eo (eP eW (pv 0) eF) (eo (li rfl T.str boot_str) eA))) (lJ (fG G g (eo (eP eW (pv 0) eF) eA))))))),?_⟩;refine⟨_,rfl,_,_,_,_,rfl,jU.tup a,pT K,_,rfl,fz ?_⟩;refine⟨_,rfl,b,_,rfl,.inr (gC.of a),rfl,_,rfl,fz ?_⟩;exact⟨_,rfl,b,_,_,_,rfl,rfl,gC.of a,rfl,_,_,_,_,rfl,.str k.1,Bf K,_,rfl,gY ⟨_,rfl,b,_,_,_,rfl,rfl,gC.of a,rfl,k.2,rfl,q⟩⟩
def DR:eQ ["_law_found","_law_pick"] ["_law_found"] (eK nz):=iW
def uq (F:iE K "_law_are_picks" "_law_are_picks" nz f fd)(T:uZ K mg)(G:Gd P w K mg base fC 2 "_law_is_pick" ["_law_found"] tN):fB P w K mg base fC 3 f fd ["_law_found"] kM:=by refine F.ok DR λl A g s H t Q E m h=>?_;obtain⟨a,r,rfl,⟨xs,d,hp⟩,q⟩:=h;refine⟨_,(et (fm (gX (gT (fe gJ rfl T.isin bS (eo (pv 0) (eo (li rfl T.list cZ) eA))))) (eE (eU ik)) eV) (et (fO (fL (pv 0)) (eR (i:=1) DR.nd) (eE (fm (gX (gT (fG G m (eo (pv 1) eA)))) (eE (eU ik)) eV))) (eE (eU ik)))),?_⟩;refine⟨_,rfl,_,_,_,_,rfl,jU.lst d,sY K,_,rfl,fz ?_⟩;refine⟨_,rfl,a,rfl,⟨_,ff.of d⟩,?_⟩;refine fW (K:=K) (a:=a) (xs:=xs) (λi σ b=>∃j,σ=[some (.ref a),j]/\b=H) ⟨none,rfl,rfl⟩ (λi σ b _ ⟨_,_,e⟩=>by rw[e];exact ff.of d) ?_ ?_;rintro i x σ b o ⟨j,rfl,rfl⟩;obtain⟨k,_,p⟩:=Paired.K8 hp o;exact⟨_,rfl,x,k,rfl,p,_,rfl,fz ⟨_,rfl,rfl⟩⟩;rintro σ b ⟨j,rfl,rfl⟩;exact q
end
def Bb {es:ef En}{sn:ef Nd}{ls:ef Ln}{i:Int}{l:Ln}(h:ir es sn ls i l=true):zp es l.1 l.2.who=true/\∃n,ij (gr es sn l.2.who) l.2.place=some n/\zA es ls i l.1 n l.2.told=true:=by unfold ir at h;rw[aF]at h;refine⟨h.1,?_⟩;cases hn:ij (gr es sn l.2.who) l.2.place with|none=>rw[hn]at h;exact absurd h.2 aT|some n=>rw[hn]at h;exact⟨n,rfl,h.2⟩
def Ds {ls:ef Ln}{i:Int}{ps:ef Pk}{x:Str}{b v:Int}(h:qI ls i ps x b v=true):0<=b/\b<i/\∃l,ij ls b=some l/\∀p∈l.1,p∈ps\/p=(x,v):=by unfold qI at h;rw[aF,aF,aw,aw]at h;refine⟨h.1,h.2.1,?_⟩;have a:=h.2.2;cases hl:ij ls b with|none=>rw[hl]at a;cases a|some l=>rw[hl]at a;refine⟨l,rfl,λp hp=>?_⟩;have:=bZ.mp a p hp;rw[cw,aw,aw]at this;exact this
inductive xN (vs:ef V)(H:Hp)(Q:VK)(E:XK):Prop
 |mk (sh st la:dY)(es:ef En)(sn:ef Nd)(ls:ef Ln)(spot:Nat)(l:Ln)(_:vs=[.ref sh,.ref st,.ref la,.int spot])(_:iZ H sh es)(_:es.length<64)(_:(es.map fb).Nodup)(_:∀e∈es,ll e)(_:gv H st sn)(_:∀n∈sn,fU n.1)(_:jB H la ls)(_:∀l∈ls,zh l)(_:ls[spot]?=some l)(_:ir es sn ls spot l=true)(_:∀H',eN H H'->Q (.bl true) H')
section
variable {base:Heap}{f:dY}
def yr (F:iE K "_law_holds" "_law_holds" pE f fd)(T:uZ K mg)(G1:Gd P w K mg base fC 1 "_law_needs_in" ["_law_shelf","_law_pick"] qo)(G2:Gd P w K mg base fC 1 "_law_meets" ["_law_need","_law_version"] (ph K))(G3:Gd P w K mg base fC 2 "_law_newest" ["_law_shelf","_law_need"] DY):fB P w K mg base fC 3 f fd ["_law_shelf","_law_start","_law_lines","_law_spot"] xN:=by
 refine F.ok oB λb8 A an s H vs Q E hr h=>?_;obtain⟨sh,st,la,G,sn,ls,o,l,rfl,bl,b7,bf,bq,bx,cd,⟨ys,hy,be⟩,a1,b6,aa,q⟩:=h;have a0:gU 1 _:=hr.mono (by decide);have ap:ij ls (o:Int)=some l:=by rw[ii];exact b6
 obtain⟨lv,cy,bm⟩:=iu be ap;have S:=i8 cy;have d:=a1 l (jN ap);obtain⟨O,n,B,L⟩:=Bb aa;have b4:=oo bq cd _ n (jN B);obtain⟨lq,pa,rv,rfl,h1,h2,cl⟩:=id bm;obtain⟨rq,wv,tv,rfl,b5,hw,J⟩:=id cl;have r4:∃tR:TS,ni (qG fC P w K mg base J0 "_law_holds" (eK pE) f b8 A an s H E).nox ((gO pE).drop 4) tR/\
   ∀(M:dY) (X:ef V) (ns:ef Nd),H M=some (.lst X)->Paired (fH H) X ns->ij ns l.2.place=some n->
    tR {nx:=λ_ H'=>Q .non H',rt:=Q} [some (.ref sh),some (.ref st),some (.ref la),some (.int o),some (.ref pa),some (.str (rF l.2.told)),some wv,some (.int l.2.place),some tv,some (.ref M),none,none,none,none] H:=by
  refine⟨_,(et (fm (PW.pt (jl (fD qY (pv 7) eF (fQ _)) (iS (fD w9 (pv 7) (fe fA rfl T.len bp (eo (pv 9) eA)) (fQ _))))) fR eV) (et (eO (i:=10) oB.nd (eP fw (pv 9) (pv 7))) (et (fm (fD jM (pv 5) iI (fQ _)) (eE (eU (kU (kT (EG hr.units) (pv 8) (pv 4) (by with_unfolding_all rfl)) (kU (kT jM (eP eW (pv 8) eF) (eP eW (pv 10) eF) (fQ _)) (lJ (vA (fG G2 a0 (eo (pv 10) (eo (eP eW (pv 8) eF) eA))))))))) eV) (et (eO (i:=11) oB.nd (fG G3 hr (eo (pv 0) (eo (pv 10) eA)))) (et (fm (fD ol (fe fA rfl T.len bp (eo (pv 8) eA)) (fe fA rfl T.len bp (eo (pv 11) eA)) (fQ _)) fR eV) (et (fO (jH rfl T.range (eo (fe fA rfl T.len bp (eo (pv 8) eA)) eA)) (eR (i:=12) oB.nd) (et (fm (PW.pt (jl (fD qY (eP fw (pv 8) (pv 12)) eF (fQ _)) (iS (fD w9 (eP fw (pv 8) (pv 12)) (pv 3) (fQ _))))) fR eV) (eE (fO (fL (eP eW (eP fw (pv 2) (eP fw (pv 8) (pv 12))) eF)) (eR (i:=13) oB.nd) (eE (fm (PW.pt (lH (fD (nL hr.units) (pv 13) (pv 4) (by with_unfolding_all rfl)) (jX (fD (vD hr.units) (pv 13) (gL (eo (eP eW (pv 10) eF) (eo (eP fw (pv 11) (pv 12)) eA))) (fQ _))))) fR eV)))))) (eE (eU ik)))))))),?_⟩;intro M X ns D R B;have lz:=Paired.length R;have h0:¬l.2.place<0:=λz=>by rw[kE.mpr (.inl z)]at B;cases B
  have h9:¬(X.length:Int)<=l.2.place:=λz=>by rw[kE.mpr (.inr (by rw[<-lz];exact z))]at B;cases B
  refine⟨_,rfl,_,_,rfl,rfl,_,rfl,jg (λe=>(h0 (aI e)).elim) (λ_=>?_)⟩;refine⟨_,rfl,_,rfl,M,_,rfl,.inl (ff.of D),_,_,rfl,rfl,_,rfl,jg (λe=>(h9 (aI e)).elim) (λ_=>?_)⟩;obtain⟨v,hv,ct⟩:=iu R B;obtain⟨Y,rfl,N⟩:=id ct;refine⟨_,rfl,_,rfl,M,_,_,_,rfl,rfl,ff.of D,i8 hv,?_⟩;refine⟨_,rfl,rfl,_,rfl,?_⟩;cases ht:l.2.told with|one k=>rw[ht]at J L;have U:fj H tv k:=J;have g:=d.one k ht;obtain⟨kq,rfl,t⟩:=id U;have b:(decide (k∈l.1)&&(decide (k.1=n.1)&&!(lX n k.2)))=true:=L;rw[aF,aF]at b;refine jg (λ_=>?_) (λc=>absurd (show decide (V.str "outside" = V.str "outside")=true by decide +kernel) c);refine⟨_,rfl,_,rfl,mT k,l.1.map mT,U.rep,h2.rep,(kQ g).1,mS d.pk,(kQ g).2,_,rfl,?_⟩;rw[av aT,qj,b.1];refine gY ⟨_,rfl,kq,_,_,_,rfl,rfl,gC.of t,rfl,_,rfl,Y,_,_,_,rfl,rfl,gC.of N,rfl,rfl,_,rfl,?_⟩;rw[j6,b.2.1];refine gY ⟨_,rfl,_,rfl,kq,_,_,_,rfl,rfl,gC.of t,rfl,.ref Y,n,k.2,rfl,⟨Y,rfl,N⟩,_,rfl,?_⟩;have q2:=q H (eN.refl _);rw[<-b.2.2]at q2;exact q2|many bs=>
   rw[ht]at J L;obtain⟨Z,rfl,al⟩:=J;have b:j4 G ls o l.1 n bs=true:=L;unfold j4 at b;rw[aF,aw,bZ]at b;obtain⟨b3,a6⟩:=b;refine jg (λc=>absurd c (show ¬decide (V.str "open" = V.str "outside")=true by decide +kernel)) (λ_=>?_);refine⟨_,rfl,_,rfl,sh,.ref Y,G,n,rfl,bl,⟨Y,rfl,N⟩,b7,λva H1 s1 _ a9=>?_⟩;refine⟨_,rfl,Z,_,rfl,.inl (ff.of (s1 _ _ al)),_,rfl,va,_,rfl,.inl (ff.of a9),rfl,_,rfl,jg (λe=>?_) (λ_=>?_)⟩;rw[ab,ab,b3,aq rfl]at e;cases e;have c2:=d.many bs ht;refine⟨_,rfl,Z,_,rfl,.inl (ff.of (s1 _ _ al)),_,rfl,by omega,by rw[ab];omega,?_⟩;refine kH (λi σ H2=>∃ah r,σ=[some (.ref sh),some (.ref st),some (.ref la),some (.int o),some (.ref pa),some (.str (rF l.2.told)),some wv,some (.int l.2.place),some (.ref Z),some (.ref M),some (.ref Y),some (.ref va),ah,r]/\eN H1 H2)
    ⟨none,none,by rw[ht];rfl,eN.refl _⟩ ?_ ?_
   rintro i σ H2 hi ⟨ah,r,rfl,s2⟩;have cv:i<bs.length:=by rw[bA,ab]at hi;exact hi
   have R:bs[i]?=some bs[i]:=ak cv;have hv:(jz G n)[i]?=some (jz G n)[i]:=ak (by omega);generalize bs[i]=z at R;generalize (jz G n)[i]=v at hv;obtain⟨c1,cz,m,hm,a8⟩:=Ds (a6 (z,v) (ai (i:=i) (de.mpr ⟨R,hv⟩)));have I:=s1.trans s2;have ei:(0+(i:Int))=((i:Nat):Int):=by omega
   have y:uT (bs.map V.int) (0+(i:Int))=some (.int z):=by rw[ei];exact oX (by rw[ae,R];rfl)
   have as:uT ((jz G n).map V.int) (0+(i:Int))=some (.int v):=by rw[ei];exact oX (by rw[ae,hv];rfl)
   have ag:ff K H2 Z (bs.map V.int):=ff.of (I _ _ al);refine⟨_,rfl,_,rfl,Z,_,_,_,rfl,rfl,ag,y,_,_,rfl,rfl,_,rfl,jg (λe=>absurd (aI e) (by omega)) (λ_=>?_)⟩;refine⟨_,rfl,_,rfl,Z,_,_,_,rfl,rfl,ag,y,_,rfl,_,_,rfl,rfl,_,rfl,jg (λe=>absurd (aI e) (by omega)) (λ_=>?_)⟩;obtain⟨mv,ch,b2⟩:=iu be hm;obtain⟨mq,ma,mr,rfl,co,⟨xs,a4,cn⟩,_⟩:=nr.same I b2;have a2:=a1 m (jN hm);refine⟨_,rfl,_,rfl,_,rfl,Z,_,_,_,rfl,rfl,ag,y,la,_,_,_,rfl,rfl,ff.of (I _ _ hy),i8 ch,mq,_,_,_,rfl,rfl,gC.of co,rfl,ma,rfl,⟨xs,ff.of a4⟩,?_⟩;refine fW (K:=K) (a:=ma) (xs:=xs) (λj σ H3=>∃r,σ=[some (.ref sh),some (.ref st),some (.ref la),some (.int o),some (.ref pa),some (.str (rF l.2.told)),some wv,some (.int l.2.place),some (.ref Z),some (.ref M),some (.ref Y),some (.ref va),some (.int (0+(i:Int))),r]/\eN H2 H3)
    ⟨r,rfl,eN.refl _⟩ (by rintro j σ H3 _ ⟨_,_,C⟩;exact ff.of (C _ _ a4)) ?_ ?_
   rintro j x σ H3 hj ⟨a5,rfl,C⟩;obtain⟨k,bv,U⟩:=Paired.K8 cn hj;obtain⟨kq,rfl,t⟩:=id U;have a3:=ai bv;have g:=a2.pk k a3;have a7:=I.trans C;refine⟨_,rfl,_,rfl,mT k,l.1.map mT,fj.rep ⟨kq,rfl,C _ _ t⟩,(je.same a7 h2).rep,(kQ g).1,mS d.pk,(kQ g).2,_,rfl,?_⟩;rw[ay rfl,qj];by_cases c:k∈l.1;rw[aq c];exact fz (fz ⟨_,rfl,C⟩);rw[au c];refine gY ⟨_,rfl,_,rfl,Y,_,_,_,rfl,rfl,gC.of (a7 _ _ N),rfl,_,rfl,_,rfl,va,_,_,_,rfl,rfl,ff.of ((s2.trans C) _ _ a9),as,qK,λt2 b9=>?_⟩;have s5:=eJ b9 (.tup [.str n.1,.int v]);refine⟨mT k,mT (n.1,v),fj.rep ⟨kq,rfl,s5 _ _ (C _ _ t)⟩,fj.rep (k:=(n.1,v)) ⟨t2,rfl,er⟩,kZ (Al g) (by decide),kZ (Al (k:=(n.1,v)) b4) (by decide),_,rfl,?_⟩;rw[v8,aq ((a8 k a3).resolve_left c)];exact fz ⟨_,rfl,C.trans s5⟩;rintro σ H3 ⟨a5,rfl,C⟩;exact⟨_,_,rfl,s2.trans C⟩;rintro σ H2 ⟨ah,r,rfl,s2⟩;exact q H2 (s1.trans s2)
 obtain⟨c0,cp,bd⟩:=r4;refine⟨_,(et (eO (i:=4) oB.nd (eP eW (eP fw (pv 2) (pv 3)) eF)) (et (Aj (eP eW (eP fw (pv 2) (pv 3)) eF) (kS rfl (gl (eR (i:=5) oB.nd) (gl (eR (i:=6) oB.nd) (gl (eR (i:=7) oB.nd) (gl (eR (i:=8) oB.nd) jD)))))) (et (eO (i:=9) oB.nd (pv 1)) (et (fm (gN (kW (pv 6))) (et (eO (i:=9) oB.nd (fG G1 a0 (eo (pv 0) (eo (pv 6) eA)))) (eE (fm (PW.pt (jl (gN (nG (pv 9))) (iS (fD (nL hr.units) (pv 6) (pv 4) (by with_unfolding_all rfl))))) fR eV))) eV) cp)))),?_⟩;refine⟨_,rfl,_,rfl,la,_,_,_,rfl,rfl,ff.of hy,S,lq,_,_,_,rfl,rfl,gC.of h1,rfl,?_⟩;refine⟨_,rfl,_,rfl,la,_,_,_,rfl,rfl,ff.of hy,S,lq,_,_,_,rfl,rfl,gC.of h1,rfl,rq,_,rfl,gC.of b5,rfl,_,_,rfl,_,_,rfl,_,_,rfl,_,_,rfl,rfl,?_⟩;refine⟨_,rfl,?_⟩;cases ew:l.2.who with|none=>rw[ew]at hw B;cases (show wv=.non from hw);obtain⟨X,R,cs⟩:=bx;exact⟨_,rfl,_,rfl,fz (bd st X sn R cs B)⟩|some k=>
  rw[ew]at hw B O;have U:fj H wv k:=hw;have g:=d.who k ew;obtain⟨kq,rfl,t⟩:=id U;have p:(decide (k∈l.1)&&decide (k∈G.map fb))=true:=O;rw[aF]at p;refine⟨_,rfl,_,rfl,gY ?_⟩;refine⟨_,rfl,_,rfl,sh,.ref kq,G,k,rfl,bl,U,bf,λe he b1 M X D cx=>?_,λad=>absurd (aI p.2) ad⟩;refine⟨_,rfl,_,rfl,fz ⟨_,rfl,_,rfl,mT k,l.1.map mT,U.rep,h2.rep,(kQ g).1,mS d.pk,(kQ g).2,_,rfl,?_⟩⟩;rw[ay rfl,qj,p.1];refine fz (bd M X e.2.2 D cx ?_);have ad:gu G k=e.2.2:=by rw[<-b1,jb bf he]
  rw[<-ad];exact B
end
section
variable {base:Heap}{f:dY}
inductive lh (vs:ef V)(H:Hp)(Q:VK)(E:XK):Prop
 |mk (sh st la:dY)(es:ef En)(sn:ef Nd)(ls:ef Ln)(_:vs=[.ref sh,.ref st,.ref la])(_:iZ H sh es)(_:es.length<64)(_:(es.map fb).Nodup)(_:∀e∈es,ll e)(_:gv H st sn)(_:∀n∈sn,fU n.1)(_:jB H la ls)(_:∀l∈ls,zh l)(_:ls.length<sizeLine)(_:∀(i:Nat) (l:Ln),ls[i]?=some l->ir es sn ls (i:Nat) l=true)(_:∀H',eN H H'->Q (.bl true) H')
def GL:eQ ["_law_shelf","_law_start","_law_lines","_law_spot"] ["_law_shelf","_law_start","_law_lines"] (eK mo):=iW
theorem sO (F:iE K "_law_lines_hold" "_law_lines_hold" mo f fd)(T:uZ K mg)(G:Gd P w K mg base fC 4 "_law_is_line" ["_law_found"] xM)(G2:Gd P w K mg base fC 4 "_law_holds" ["_law_shelf","_law_start","_law_lines","_law_spot"] xN):fB P w K mg base fC 5 f fd ["_law_shelf","_law_start","_law_lines"] lh:=by
 refine F.ok GL λY A v s H vs Q E R h=>?_;obtain⟨N,S,l,es,sn,a,rfl,I,M,B,D,r,J,g,L,p,d,q⟩:=h;obtain⟨xs,C,hp⟩:=id g;have X:=Paired.length hp;refine⟨_,(et (fm (gX (gT (fe gJ rfl T.isin bS (eo (pv 2) (eo (li rfl T.list cZ) eA))))) (eE (eU ik)) eV) (et (fO (jH rfl T.range (eo (fe fA rfl T.len bp (eo (pv 2) eA)) eA)) (eR (i:=3) GL.nd) (eE (fm (PW.pt (jl (gX (gT (fG G R (eo (eP fw (pv 2) (pv 3)) eA)))) (iS (gX (gT (fG G2 R (eo (pv 0) (eo (pv 1) (eo (pv 2) (eo (pv 3) eA)))))))))) (eE (eU ik)) eV))) (eE (eU ik)))),?_⟩;refine⟨_,rfl,_,_,_,_,rfl,jU.lst C,sY K,_,rfl,fz ?_⟩;have O:a.length<2^24:=bb p (by show sizeLine<=2^24;decide);refine⟨_,rfl,l,_,rfl,.inl (ff.of C),_,rfl,by lia,by lia,?_⟩;refine kH (λj σ m=>∃z,σ=[some (.ref N),some (.ref S),some (.ref l),z]/\eN H m) ⟨none,rfl,eN.refl _⟩ ?_ ?_;rintro j σ m U ⟨z,rfl,b⟩;have t:j<a.length:=by rw[bA,X]at U;exact U
 have e:a[j]?=some a[j]:=ak t;have Z:(0+(j:Int))=((j:Nat):Int):=by lia
 obtain⟨x,y,o⟩:=iu hp (show ij a ((j:Nat):Int)=some a[j] by rw[ii];exact e);rw[Z];refine⟨_,rfl,_,rfl,l,_,_,x,rfl,rfl,ff.of (b _ _ C),i8 y,x,a[j],rfl,o.same b,_,rfl,fz ?_⟩;refine⟨_,rfl,_,rfl,_,rfl,_,rfl,N,S,l,es,sn,a,j,a[j],rfl,I.same b,M,B,D,r.same b,J,g.same b,L,e,d j a[j] e,λH3 s3=>⟨_,rfl,fz ⟨_,rfl,b.trans s3⟩⟩⟩;rintro σ m ⟨z,rfl,b⟩;exact q m b
end
section
variable {base:Heap}{f:dY}
def Es:eQ ["_law_found","_law_reason","_law_place"] ["_law_found"] (eK so):=iW
def yp (F:iE K "_law_is_line" "_law_is_line" so f fd)(T:uZ K mg)(G:Gd P w K mg base fC 3 "_law_are_picks" ["_law_found"] kM)(Y:Gd P w K mg base fC 2 "_law_is_pick" ["_law_found"] tN)(X:Gd P w K mg base fC 1 "_law_whole" ["_law_found"] wt):fB P w K mg base fC 4 f fd ["_law_found"] xM:=by
 refine F.ok Es λad A N s H vs Q E R h=>?_;obtain⟨v,l,rfl,⟨t,a,rv,rfl,M,O,g,Z,U,rfl,d,y,m⟩,q⟩:=h;have D:gU 2 _:=R.mono (by decide);have L:gU 1 _:=R.mono (by decide);refine⟨_,(et (fm (PW.pt (jl (gX (gT (fe gJ rfl T.isin bS (eo (pv 0) (eo (li rfl T.tuple boot_tuple) eA))))) (jl (fD ol (fe fA rfl T.len bp (eo (pv 0) eA)) eF (fQ _)) (iS (gX (gT (fG G R (eo (eP eW (pv 0) eF) eA)))))))) (eE (eU ik)) eV) (et (eO (i:=1) Es.nd (eP eW (pv 0) eF)) (et (fm (PW.pt (jl (gX (gT (fe gJ rfl T.isin bS (eo (pv 1) (eo (li rfl T.tuple boot_tuple) eA))))) (jl (fD ol (fe fA rfl T.len bp (eo (pv 1) eA)) eF (fQ _)) (iS (gX (gT (fe gJ rfl T.isin bS (eo (eP eW (pv 1) eF) (eo (li rfl T.str boot_str) eA))))))))) (eE (eU ik)) eV) (et (fm (PW.pt (lH (gN (kW (eP eW (pv 1) eF))) (jX (gX (gT (fG Y D (eo (eP eW (pv 1) eF) eA))))))) (eE (eU ik)) eV) (et (fm (gX (gT (fG X L (eo (eP eW (pv 1) eF) eA)))) (eE (eU ik)) eV) (et (fm (fD jM (eP eW (pv 1) eF) iI (fQ _)) (eE (eU (fG Y D (eo (eP eW (pv 1) eF) eA)))) eV) (et (fm (PW.pt (jl (fD ol (eP eW (pv 1) eF) iI (fQ _)) (iS (gX (gT (fe gJ rfl T.isin bS (eo (eP eW (pv 1) eF) (eo (li rfl T.list cZ) eA)))))))) (eE (eU ik)) eV) (et (fO (fL (eP eW (pv 1) eF)) (eR (i:=2) Es.nd) (eE (fm (gX (gT (fG X L (eo (pv 2) eA)))) (eE (eU ik)) eV))) (eE (eU ik)))))))))),?_⟩;refine⟨_,rfl,_,_,_,_,rfl,jU.tup M,pT K,_,rfl,fz ?_⟩;refine⟨_,rfl,t,_,rfl,.inr (gC.of M),rfl,_,rfl,fz ?_⟩;refine⟨_,rfl,t,_,_,_,rfl,rfl,gC.of M,rfl,a,l.1,rfl,O,_,rfl,fz ?_⟩;refine⟨_,rfl,t,_,_,_,rfl,rfl,gC.of M,rfl,?_⟩;refine⟨_,rfl,_,_,_,_,rfl,jU.tup d,pT K,_,rfl,fz ?_⟩;refine⟨_,rfl,g,_,rfl,.inr (gC.of d),rfl,_,rfl,fz ?_⟩;refine⟨_,rfl,g,_,_,_,rfl,rfl,gC.of d,rfl,_,_,_,_,rfl,.str _,Bf K,_,rfl,fz ?_⟩;have key:∀(b:Bool),b=true->True:=λ_ _=>trivial;obtain⟨ps,⟨S,o,r⟩⟩:=l;dsimp only at y m d;cases S with
 |none=>cases (show Z=.non from y);refine⟨_,rfl,g,_,_,_,rfl,rfl,gC.of d,rfl,_,rfl,fz (fz ?_)⟩;refine⟨_,rfl,g,_,_,_,rfl,rfl,gC.of d,rfl,o,rfl,_,rfl,fz ?_⟩;cases r with|one k=>refine⟨_,rfl,g,_,_,_,rfl,rfl,gC.of d,rfl,rfl,_,rfl,gY ?_⟩;exact⟨_,rfl,g,_,_,_,rfl,rfl,gC.of d,rfl,U,k,rfl,m,q⟩|many bs=>obtain⟨I,rfl,j⟩:=m;refine⟨_,rfl,g,_,_,_,rfl,rfl,gC.of d,rfl,rfl,_,rfl,fz ?_⟩;refine⟨_,rfl,g,_,_,_,rfl,rfl,gC.of d,rfl,rfl,_,rfl,fz ?_⟩;refine⟨_,rfl,g,_,_,_,rfl,rfl,gC.of d,rfl,_,_,_,_,rfl,jU.lst j,sY K,_,rfl,fz ?_⟩;refine⟨_,rfl,g,_,_,_,rfl,rfl,gC.of d,rfl,I,rfl,⟨_,ff.of j⟩,?_⟩;refine fW (K:=K) (a:=I) (xs:=bs.map V.int) (λi σ p=>∃B,σ=[some (.ref t),some (.ref g),B]/\p=H) ⟨none,rfl,rfl⟩ (λi σ p _ ⟨_,_,e⟩=>by rw[e];exact ff.of j) ?_ ?_;rintro i x σ p J ⟨B,rfl,rfl⟩;rw[ae]at J;obtain⟨z,_,rfl⟩:=ax.mp J;exact⟨_,rfl,z,rfl,_,rfl,fz ⟨_,rfl,rfl⟩⟩;rintro σ p ⟨B,rfl,rfl⟩;exact q
 |some kw=>have C:fj H Z kw:=y;obtain⟨wq,rfl,aa⟩:=id C;refine⟨_,rfl,g,_,_,_,rfl,rfl,gC.of d,rfl,_,rfl,gY ?_⟩;refine⟨_,rfl,g,_,_,_,rfl,rfl,gC.of d,rfl,_,kw,rfl,C,_,rfl,fz ?_⟩;refine⟨_,rfl,g,_,_,_,rfl,rfl,gC.of d,rfl,o,rfl,_,rfl,fz ?_⟩;cases r with|one k=>refine⟨_,rfl,g,_,_,_,rfl,rfl,gC.of d,rfl,rfl,_,rfl,gY ?_⟩;exact⟨_,rfl,g,_,_,_,rfl,rfl,gC.of d,rfl,U,k,rfl,m,q⟩|many bs=>obtain⟨I,rfl,j⟩:=m;refine⟨_,rfl,g,_,_,_,rfl,rfl,gC.of d,rfl,rfl,_,rfl,fz ?_⟩;refine⟨_,rfl,g,_,_,_,rfl,rfl,gC.of d,rfl,rfl,_,rfl,fz ?_⟩;refine⟨_,rfl,g,_,_,_,rfl,rfl,gC.of d,rfl,_,_,_,_,rfl,jU.lst j,sY K,_,rfl,fz ?_⟩;refine⟨_,rfl,g,_,_,_,rfl,rfl,gC.of d,rfl,I,rfl,⟨_,ff.of j⟩,?_⟩;refine fW (K:=K) (a:=I) (xs:=bs.map V.int) (λi σ p=>∃B,σ=[some (.ref t),some (.ref g),B]/\p=H) ⟨none,rfl,rfl⟩ (λi σ p _ ⟨_,_,e⟩=>by rw[e];exact ff.of j) ?_ ?_;rintro i x σ p J ⟨B,rfl,rfl⟩;rw[ae]at J;obtain⟨z,_,rfl⟩:=ax.mp J;exact⟨_,rfl,z,rfl,_,rfl,fz ⟨_,rfl,rfl⟩⟩;rintro σ p ⟨B,rfl,rfl⟩;exact q
end
inductive wB (K:W.Frag)(vs:ef V)(H:Hp)(Q:VK)(E:XK):Prop
 |mk (a:dY)(ns:ef Int)(_:vs=[.ref a])(_:ff K H a (ns.map V.int))(_:ns.length<=63)(_:∀t sh st (es:ef En) (sn:ef Nd) H',eN H H'->H' t=some (.tup [.ref sh,.ref st])->iZ H' sh es->(es.map fb).Nodup->(∀e∈es,ll e)->es.length<=59->(∀e∈es,Lw e)->gv H' st sn->(∀n∈sn,fU n.1)->sn.length<=63->Q (.ref t) H')
def uL (ns:ef Int)(a b:el Int):∃ms:ef Int,qd (ns.map V.int) a b=ms.map V.int/\ms.length<=ns.length:=by refine⟨(ns.drop (HT.oK (ns.map V.int).length 0 a)).take (HT.oK (ns.map V.int).length (ns.map V.int).length b-HT.oK (ns.map V.int).length 0 a),?_,?_⟩;unfold qd;rw[cG,List.map_drop];rw[aV,List.length_drop];omega
def By (ns:ef Int)(k:Nat):∃ms:ef Int,qd (ns.map V.int) (some (k:Int)) none=ms.map V.int/\ms.length<=ns.length-k:=by have e:HT.oK (ns.map V.int).length 0 (some (k:Int))=min k (ns.map V.int).length:=HT.wR _ _ k;refine⟨(ns.drop (HT.oK (ns.map V.int).length 0 (some (k:Int)))).take (HT.oK (ns.map V.int).length (ns.map V.int).length none-HT.oK (ns.map V.int).length 0 (some (k:Int))),?_,?_⟩;unfold qd;rw[cG,List.map_drop];rw[aV,List.length_drop,e,ab];omega
section
variable {base:Heap}{f:dY}
def DQ:eQ ["_law_script","_law_shelf"] ["_law_script"] (eK vy):=iW
def AV (F:iE K "_law_asked_by" "_law_asked_by" vy f fd)(G:Gd P w K mg base fC 3 "_law_shelf_by" ["_law_cells"] (BG K))(G2:Gd P w K mg base fC 3 "_law_start_by" ["_law_cells"] (uU K))(Y:Gd P w K mg base fC 1 "_law_at" ["_law_script","_law_k"] (Iw K)):fB P w K mg base fC 4 f fd ["_law_script"] (wB K):=by refine F.ok DQ λZ A j s H vs Q E o h=>?_;obtain⟨a,e,rfl,B,hl,q⟩:=h;have v:gU 1 _:=o.mono (by decide);refine⟨_,(et (eO (i:=1) DQ.nd (fG G o (eo (mU oJ (pv 0) (mQ eF) sI) eA))) (eE (eU (gL (eo (pv 1) (eo (fG G2 o (eo (mU oJ (pv 0) (mQ eF) (mQ (fh mx eF (fh kg (fG Y v (eo (pv 0) (eo eF eA))) eF)))) eA)) eA)))))),?_⟩;obtain⟨p,e1,l1⟩:=By e 4;refine⟨_,rfl,4,rfl,a,_,rfl,B,λp1 g=>?_⟩;rw[show qd (e.map V.int) (some 4) none=p.map V.int from e1];have s1:=eJ g (.lst (p.map V.int));refine⟨p1,p,rfl,ff.of er,by omega,λI es xs H2 T aa M y r x ad l=>?_⟩;have b:=s1.trans T;refine⟨_,rfl,_,rfl,1,rfl,_,rfl,a,e,0,rfl,b.seq B,Int.le_refl 0,λz=>⟨_,_,rfl,rfl,(by show(0:Int)<4;decide),_,_,rfl,rfl,_,rfl,a,_,rfl,b.seq B,λO m=>?_⟩⟩;obtain⟨D,X,l2⟩:=uL e (some 1) (some (1+z % 4));rw[X];have s3:=eJ m (.lst (D.map V.int));refine⟨O,D,rfl,ff.of er,by omega,λL sn H4 N U C S=>?_⟩;refine⟨qK,λt R=>?_⟩;have J:=eJ R (.tup [.ref I,.ref L]);have d:=(s3.trans N).trans J;exact q t I L es sn _ (b.trans d) er (iZ.same d ⟨xs,M,Paired.KG y λ_ _=>lr.same (fM _ _)⟩) r x (by omega) l (gv.same J U) C (by omega)
end
end
section
variable {es:ef En}{nm:ef Str}{ps:ef Pk}{x:Str}
inductive Wk (es:ef En)(ps:ef Pk):ef Nd->ef Str->ef Str->Prop
 |done {nm:ef Str}:Wk es ps [] nm nm
 |old {ah:ef Nd} {n:Nd} {nm fin:ef Str}:n.1∈nm->Wk es ps ah nm fin->Wk es ps (ah++[n]) nm fin
 |new {ah:ef Nd} {n:Nd} {nm fin:ef Str} {z:Int}:n.1∉nm->iX ps n.1=some z->Wk es ps (ah++gu es (n.1,z)) (nm++[n.1]) fin->Wk es ps (ah++[n]) nm fin
def Wk.one {ah:ef Nd}{fin fin':ef Str}(h:Wk es ps ah nm fin):Wk es ps ah nm fin'->fin=fin':=by
 induction h with
 |done=>intro b;generalize a:([]:ef Nd)=l at b;cases b with|done=>rfl|old _ _=>simp at a|new _ _ _=>simp at a
 |@old ah n nm fin hn _ ih=>intro b;generalize a:ah++[n]=l at b;cases b with|done=>simp at a|@old ah' n' _ _ hn' h2=>obtain⟨e,d⟩:=List.append_inj' a rfl;cases d;subst e;exact ih h2|@new ah' n' _ _ z hn' hv h2=>obtain⟨e,d⟩:=List.append_inj' a rfl;cases d;exact absurd hn hn'
 |@new ah n nm fin z hn hv _ ih=>intro b;generalize a:ah++[n]=l at b;cases b with|done=>simp at a|@old ah' n' _ _ hn' h2=>obtain⟨e,d⟩:=List.append_inj' a rfl;cases d;exact absurd hn' hn|@new ah' n' _ _ z' hn' hv' h2=>obtain⟨e,d⟩:=List.append_inj' a rfl;cases d;subst e;rw[hv]at hv';cases hv';exact ih h2
def lU (es:ef En)(sn:ef Nd)(ps:ef Pk):Prop:=mK (ng ps) (lj es sn ps)/\mK (jA ps) (lj es sn ps)
def FX (ps:ef Pk)(n:Nd):Prop:=ng ps n=false/\jA ps n=false
def Ij (es:ef En)(sn:ef Nd)(ps:ef Pk)(b:Bool):Prop:=(¬lU es sn ps/\b=false)\/(lU es sn ps/\∃fin,Wk es ps sn [] fin/\b=decide (fin.length=ps.length))
def FU (es:ef En)(sn:ef Nd)(ps:ef Pk)(b:Bool):Prop:=(¬lU es sn ps/\b=false)\/∃fin,Wk es ps sn [] fin/\fin.Nodup/\(∀x∈fin,x∈ps.map (·.1))/\(∀n∈sn,FX ps n)/\(∀k∈ps,k.1∈fin->∀n∈gu es k,FX ps n)/\b=decide (fin.length=ps.length)
theorem oH:∀{l m:ef Str},l.Nodup->(∀x∈l,x∈m)->l.length<=m.length
 |[],_,_,_=>br _
 |x::l,m,hn,hs=>by
  rw[aX]at hn;have hx:=hs x (by simp);have ih:=oH (l:=l) (m:=m.erase x) hn.2 λy hy=>by have hne:y≠x:=λe=>hn.1 (e▸hy);exact(List.mem_erase_of_ne hne).mpr (hs y (by simp[hy]))
  have hlen:(m.erase x).length=m.length-1:=List.length_erase_of_mem hx;have:0<m.length:=List.length_pos_of_mem hx;rw[aE];omega
def Fr {l m:ef Str}(hl:l.Nodup)(hs:∀x∈l,x∈m)(he:l.length=m.length):∀x∈m,x∈l:=λx hx=>by
 refine Classical.byContradiction λhno=>?_;have:=oH (l:=x::l) (m:=m) (aX.mpr ⟨hno,hl⟩) λy hy=>by rcases ao.mp hy with z|z;subst z;exact hx;exact hs y z
 rw[aE]at this;omega
def uH {sn:ef Nd}{b b':Bool}(h:Ij es sn ps b)(h':FU es sn ps b'):b=b':=by
 rcases h with ⟨d,rfl⟩|⟨p,o,v,rfl⟩;rcases h' with ⟨_,rfl⟩|⟨o,v,t,q,x,y,rfl⟩;rfl;rcases Decidable.em (o.length=ps.length) with e|e;refine absurd ?_ d;have s:=Fr t q (by rw[ab];exact e);have g:∀i∈lj es sn ps,∀m∈i,FX ps m:=λi a m j=>by rcases ao.mp a with z|z;subst z;exact x m j;obtain⟨k,l,rfl⟩:=aC.mp z;exact y k l (s k.1 (bo l)) m j
 exact⟨λi a m j=>(g i a m j).1,λi a m j=>(g i a m j).2⟩;rw[au e];rcases h' with ⟨d,_⟩|⟨w,r,_,_,_,_,rfl⟩;exact absurd p d;rw[v.one r]
def rJ {z:Int}(h:iX ps x=some z):(x,z)∈ps:=by unfold iX at h;obtain⟨k,a,rfl⟩:=ax.mp h;have b:=b0 a;have e:=List.find?_some a;have d:k.1=x:=aI e;rw[<-d];exact b
def pY (b:(ps.map (·.1)).Nodup){k:Pk}(h:k∈ps):iX ps k.1=some k.2:=by unfold iX;induction ps with|nil=>cases h|cons a ps ih=>rw[aH,aX]at b;rw[bu];rcases ao.mp h with z|z;subst z;rw[aq rfl];rfl;have:¬a.1=k.1:=λy=>b.1 (y▸bo z);rw[au this];exact ih b.2 z
noncomputable def jd (ps:ef Pk)(nm:ef Str):Nat:=(ps.filter λk=>decide (k.1∉nm)).length
def uy (ps:ef Pk)(nm:ef Str):jd ps nm<=ps.length:=bD _ _
theorem pS {x:Str}{nm:ef Str}:∀ps:ef Pk,jd ps (nm++[x])<=jd ps nm
 |[]=>am _
 |k::ps=>by have ih:=pS (x:=x) (nm:=nm) ps;unfold jd at *;rw[aJ,aJ];by_cases h:k.1∈nm++[x];rw[av (λz=>absurd h (aI z))];split;rw[aE];omega;exact ih;have h':k.1∉nm:=λz=>h (aO _ z);rw[ay (aq h),ay (aq h'),aE,aE];omega
theorem mB {x:Str}{nm:ef Str}(hx:x∉nm):∀{ps:ef Pk},x∈ps.map (·.1)->jd ps (nm++[x])+1<=jd ps nm
 |[],h=>by simp at h
 |k::ps,h=>by rw[aH,ao]at h;by_cases hk:k.1=x;have m:=pS (x:=x) (nm:=nm) ps;unfold jd at *;rw[aJ,aJ,av (λz=>absurd (show k.1∈nm++[x] by rw[hk];simp) (aI z)),ay (by rw[hk];exact aq hx),aE];omega;have ih:=mB hx (ps:=ps) (h.resolve_left λz=>hk z.symm);unfold jd at *;rw[aJ,aJ];by_cases h2:k.1∈nm++[x];rw[av (λz=>absurd h2 (aI z))];split;rw[aE];omega;exact ih;have h':k.1∉nm:=λz=>h2 (aO _ z);rw[ay (aq h2),ay (aq h'),aE,aE];omega
noncomputable def kA (nm:ef Str):ef (gM×V):=nm.map λx=>(Sum.inr x,V.bl true)
theorem lB (x:Str):∀nm:ef Str,(fc (kA nm) (Sum.inr x:gM)).isSome=decide (x∈nm)
 |[]=>by simp[kA,fc]
 |y::nm=>by
  have ih:=lB x nm;unfold kA at *;rw[aH];by_cases h:y=x;rw[gR (by rw[h]),h];simp;rw[gE (λz=>h (Sum.inr.inj z)),ih];have:(x∈y::nm)↔x∈nm:=by rw[ao];exact⟨λz=>z.resolve_left λq=>h q.symm,.inr⟩
  simp only[this]
def sH (h:x∉nm):fJ (kA nm) (Sum.inr x) (V.bl true)=kA (nm++[x]):=by
 have a:fc (kA nm) (Sum.inr x:gM)=none:=by have z:=lB x nm;rw[au h]at z;cases y:fc (kA nm) (Sum.inr x:gM) with|none=>rfl|some u=>rw[y]at z;cases z
 rw[ip _ a];unfold kA;rw[aG];rfl
def nM (a:∀e∈es,ll e)(k:Pk):(gu es k).length<=100:=by
 unfold gu;split
 next e h=>exact(a e (b0 h)).few
 next=>exact br _
def sP (a:∀e∈es,ll e)(k:Pk):∀n∈gu es k,fU n.1:=by
 unfold gu;split
 next e h=>exact(a e (b0 h)).nd
 next=>intro n b;cases b
end
end Lake.FB
namespace Lake
open PySem PySem.Spec PyProof.Rows
def rl {X:Cx}:jC X (.builtin "len") (λxs H Q=>∃a kvs,xs=[V.ref a]/\H a=some (.dK kvs)/\Q (.int kvs.length) H):=by intro b s σ H xs j Q I r h;obtain⟨a,kvs,rfl,d,q⟩:=h;obtain⟨u,rfl,e⟩:=jt r;cases e;exact Hx I (.inl d) λt i g=>⟨.int kvs.length,H,g,⟨t,rfl⟩,q⟩
end Lake
namespace Lake.FB
open PySem PyProof.Rows
section
def lV (es:ef En)(ps:ef Pk):Prop:=∀k∈ps,k∈es.map fb
end
section
seal ni PS PE PT PA
def fH.M0 {H:Hp}{p:dY}{ys zs:ef V}{v:V}{n:Nd}(hp:H p=some (.lst ys))(h:fH H v n):fH (upd H p (.lst zs)) v n:=by obtain⟨q,b,a⟩:=h;exact⟨q,b,by rw[eB (fF a hp (by intro z;cases z))];exact a⟩
def EL {sn:ef Nd}(h:∀n∈sn,fU n.1):t6 2 (.list (sn.map C8))=true:=by rw[t6,bZ];intro d a;obtain⟨n,b,rfl⟩:=aC.mp a;exact EN (h n b)
def fH.M3 {H:Hp}{p:dY}{o o':HO}{v:V}{n:Nd}(hp:H p=some o)(d:∀xs,HO.tup xs≠o)(h:fH H v n):fH (upd H p o') v n:=by obtain⟨q,b,a⟩:=h;exact⟨q,b,by rw[eB (fF a hp (d _))];exact a⟩
inductive tM (vs:ef V)(H:Hp)(Q:VK)(E:XK):Prop
 |mk (sh st pk:dY)(es:ef En)(sn:ef Nd)(ps:ef Pk)(_:vs=[.ref sh,.ref st,.ref pk])(_:iZ H sh es)(_:(es.map fb).Nodup)(_:∀e∈es,ll e)(_:gv H st sn)(_:∀n∈sn,fU n.1)(_:sn.length<=900)(_:je H pk ps)(_:lV es ps)(_:(ps.map (·.1)).Nodup)(_:ps.length<=900)(_:∀b H',eN H H'->FU es sn ps b->Q (.bl b) H')
def E9 (es:ef En)(sn:ef Nd)(ps:ef Pk)(n:Nd):Prop:=∃ns∈lj es sn ps,n∈ns
inductive JK (H0:Hp)(es:ef En)(sn:ef Nd)(ps:ef Pk)(sh st pk vd wa sd:dY)(m:Nat)(σ:Lake.St)(H:Hp):Prop
 |mk (zs an nm o4 o7:_)(_:σ=[some (.ref sh),some (.ref st),some (.ref pk),some (.ref vd),o4,some (.ref wa),some (.ref sd),o7])(_:H vd=some (.dK (kz ps)))(_:H sd=some (.dK (kA nm)))(_:H wa=some (.lst zs))(_:Paired (fH H) zs an)(_:∀n∈an,fU n.1/\E9 es sn ps n)(_:nm.Nodup)(_:∀x∈nm,x∈ps.map (·.1))(_:∀n∈sn,n∈an\/FX ps n)(_:∀k∈ps,k.1∈nm->∀n∈gu es k,n∈an\/FX ps n)(_:∀fin,Wk es ps an nm fin->Wk es ps sn [] fin)(_:nm.length+jd ps nm<=ps.length)(_:101*jd ps nm+an.length=m)
structure J7 (H0:Hp)(es:ef En)(sn:ef Nd)(ps:ef Pk)(sh st pk vd wa sd:dY)(m:Nat)(σ:Lake.St)(H:Hp):Prop where
 ex:JK H0 es sn ps sh st pk vd wa sd m σ H
 sm:eN H0 H
 le:m<=100000
def Jo (a:ef Str)(ps:ef Pk):decide (V.int ((kA a).length:Int)=V.int (ps.length:Int))=decide (a.length=ps.length):=by
 have b:(kA a).length=a.length:=by unfold kA;rw[ab]
 rw[b];by_cases z:a.length=ps.length;rw[aq z,aq (by rw[z])];rw[au z,au (λy=>z (by injection y with y;exact Int.ofNat.inj y))]
section
variable {P:ee}{w:World}{K:W.Frag}{mg:Str->el dZ}{base:Heap}{f:dY}{fd:eg}
def xY:eQ ["_law_shelf","_law_start","_law_picks","_law_version","_law_pick","_law_wanted","_law_seen","_law_need"] ["_law_shelf","_law_start","_law_picks"] (eK vt):=iW
theorem AN (F:iE K "_law_fits" "_law_fits" vt f fd)(T:uZ K mg)(G:Gd P w K mg base fC 1 "_law_needs_in" ["_law_shelf","_law_pick"] qo)(G2:Gd P w K mg base fC 1 "_law_meets" ["_law_need","_law_version"] (ph K)):fB P w K mg base fC 2 f fd ["_law_shelf","_law_start","_law_picks"] tM:=by
 refine F.ok xY λd5 A da s H vs Q E hr h=>?_;obtain⟨sh,st,pk,es,sn,ps,rfl,co,a4,bf,⟨B,c0,cz⟩,c8,dx,⟨xs,g,hp⟩,bd,cl,d4,q⟩:=h;have hu:=gH hr;refine⟨_,(et (eO (i:=3) xY.nd ie) (et (fO (fL (pv 2)) (eR (i:=4) xY.nd) (et (fm (PW.pt (jl (gN (nH hu (eP eW (pv 4) eF) (pv 3))) (iS (gN (nG (fG G hr (eo (pv 0) (eo (pv 4) eA)))))))) (eE (eU ik)) eV) (eE (i6 hu (pv 3) (eP eW (pv 4) eF) (eP eW (pv 4) eF) rfl)))) (et (eO (i:=5) xY.nd (ig iO rfl T.list cZ (eo (pv 1) eA))) (et (eO (i:=6) xY.nd ie) (et (jK PassesOwn.never (fD (vD hr.units) (pv 5) (gy eA) (fQ _)) (et (eO (i:=7) xY.nd (vB PySem.F.plainAttrs_list PySem.F.slot_list_pop PySem.F.type_list_pop vT (pv 5))) (et (fm (PW.pt (jl (gN (jI hu (eP eW (pv 7) eF) (pv 3))) (iS (gX (gT (fG G2 hr (eo (pv 7) (eo (hJ hu (pv 3) (eP eW (pv 7) eF)) eA)))))))) (eE (eU ik)) eV) (eE (fm (gN (jI hu (eP eW (pv 7) eF) (pv 6))) (et (i6 hu (pv 6) (eP eW (pv 7) eF) ik rfl) (eE (gF (jL PySem.F.plainAttrs_list PySem.F.slot_list_extend PySem.F.type_list_extend qZ (pv 5) (eo (fG G hr (eo (pv 0) (eo (gL (eo (eP eW (pv 7) eF) (eo (hJ hu (pv 3) (eP eW (pv 7) eF)) eA))) eA))) eA))))) eV))))) (eE (eU (kT jM (fe rl rfl T.len bp (eo (pv 6) eA)) (fe fA rfl T.len bp (eo (pv 2) eA)) (fQ _))))))))),?_⟩;have lx:xs.length=ps.length:=Paired.length hp;refine λr b6=>?_;have s1:=eJ b6 (.dK []);refine⟨_,rfl,pk,rfl,⟨xs,ff.of (s1 _ _ g)⟩,fW (K:=K) (a:=pk) (xs:=xs) (λi σ H2=>∃o4,σ=[some (.ref sh),some (.ref st),some (.ref pk),some (.ref r),o4,none,none,none]/\eN H H2/\H2 r=some (.dK (kz (ps.take i)))) ⟨none,rfl,s1,er⟩ ((by rintro i σ H2 _ ⟨_,_,s,_⟩;exact ff.of (s _ _ g))) ?_ ?_⟩;rintro i x σ H2 hi ⟨o4,rfl,s2,h2⟩;obtain⟨k,M,kq,rfl,c7⟩:=Paired.K8 hp hi;have g1:=s2 _ _ c7;have ec:i<ps.length:=(af.mp M).1;have ht:ps.take (i+1)=ps.take i++[k]:=by rw[bc,M];rfl
 have ba:=bd k (ai M);have a5:((ps.take i++[k]).map (·.1)).Nodup:=by rw[<-ht,cG];exact ki _ cl
 have dc:iX (ps.take i) k.1=none:=by cases e:iX (ps.take i) k.1 with|none=>rfl|some z=>have:=rJ e;rw[aG,bN]at a5;exact absurd rfl (a5.2.2 k.1 (aC.mpr ⟨_,this,rfl⟩) k.1 (by simp))
 have d:=jJ k.1 (ps.take i);rw[dc]at d;refine⟨_,rfl,kq,_,_,_,rfl,rfl,gC.of g1,rfl,_,rfl,r,_,rfl,iP.k (k:=Sum.inr k.1) h2,_,rfl,?_⟩;rw[d];refine fz ?_;refine⟨_,rfl,_,rfl,sh,.ref kq,es,k,rfl,iZ.same s2 co,⟨kq,rfl,g1⟩,a4,λe he bx na zs bm ah=>?_,λz=>absurd ba z⟩;refine⟨_,rfl,fz ?_⟩;refine⟨_,rfl,kq,_,_,_,rfl,rfl,gC.of g1,rfl,_,rfl,_,rfl,kq,_,_,_,rfl,rfl,gC.of g1,rfl,r,_,rfl,lT.k (k:=Sum.inr k.1) h2 (eY (by unfold kz;rw[ab,aV];lia)),?_⟩;refine⟨_,rfl,eN.upd s2 b6,?_⟩;have hm:=lW [k] (ps.take i) a5;rw[er,ht,<-hm];rfl;rintro σ H2 ⟨o4,rfl,s2,h2⟩;rw[lx,aK]at h2;refine⟨_,rfl,st,B,rfl,.inl (ff.of (s2 _ _ c0)),λj cd=>?_⟩;have s3:=eJ cd (.lst B);have b4:H j=none:=s2.free cd;refine λsd Z=>?_;have s4:=s3.trans (eJ Z (.dK []));have dl:H sd=none:=(s2.trans s3).free Z;have ch:upd (upd H2 j (.lst B)) sd (.dK []) j=some (.lst B):=(eJ Z _) _ _ er;have b1:upd (upd H2 j (.lst B)) sd (.dK []) sd=some (.dK (kA [])):=er;generalize d9:upd (upd H2 j (.lst B)) sd (.dK [])=H4 at *;have b3:=s2.trans s4;have cp:=uy ps [];have c2:r≠sd:=λe=>by have:=s3 _ _ h2;rw[e,Z]at this;cases this
 refine⟨J7 H es sn ps sh st pk r j sd,⟨101*jd ps []+sn.length,⟨B,sn,[],o4,none,rfl,s4 _ _ h2,b1,ch,Paired.KG cz λ_ _=>fH.same b3,λn U=>⟨c8 n U,sn,by simp[lj],U⟩,bT,(λx g=>nomatch g),λn U=>.inl U,(λk _ M=>nomatch M),λY h=>h,by rw[cR,Nat.zero_add];exact cp,rfl⟩,b3,by lia⟩,?_⟩;rintro m σ H5 ⟨⟨zs,an,l,d7,o7,rfl,c3,c6,a3,hz,o,S,R,X,aa,hW,dd,hm⟩,sm,d2⟩;refine⟨_,rfl,u6,λe0 ct=>?_⟩;have s6:=eJ ct (.lst []);refine⟨.list (an.map C8),.list [],.lst (s6 _ _ a3) (oM (λ_ _ z=>fH.rep z) (Paired.KG hz λ_ _=>fH.same s6)),.lst er .nil,kZ (EL λn U=>(o n U).1) (by decide),rfl,_,rfl,?_⟩;rw[Do];have a6:=sm.trans s6;have bq:=s6 _ _ c3;have a0:=s6 _ _ c6;have C:=s6 _ _ a3;have bv:Paired (fH (upd H5 e0 (.lst []))) zs an:=Paired.KG hz λ_ _ z=>fH.same s6 z;generalize eb:upd H5 e0 (.lst [])=H6 at *;by_cases hnil:an=[];subst hnil;refine fz ?_;refine⟨_,rfl,sd,kA l,rfl,a0,_,rfl,pk,xs,rfl,.inl (ff.of (a6 _ _ g)),rfl,?_⟩;rw[lx,Jo];refine q _ H6 a6 (.inr ⟨l,hW l .done,S,R,λn U=>?_,λk M N n U=>?_,rfl⟩);rcases X n U with y|y;cases y;exact y;rcases aa k M N n U with y|y;cases y;exact y;obtain⟨an',n,rfl⟩:∃an' n,an=an'++[n]:=⟨an.dropLast,an.getLast hnil,(List.dropLast_concat_getLast hnil).symm⟩;have be:(List.map C8 (an'++[n])).isEmpty=false:=by simp
 rw[be];obtain⟨b,v,rfl,hz',hv⟩:∃b v,zs=b++[v]/\Paired (fH H6) b an'/\fH H6 v n:=by
  clear o X aa hW hm a3 C hnil be hz;induction an' generalizing zs with
  |nil=>cases bv with|cons h t=>cases t;exact⟨[],_,rfl,.nil,h⟩
  |cons a an' ih=>cases bv with|cons h t=>obtain⟨b,v,rfl,h1,h2⟩:=ih _ t;exact⟨_::b,v,rfl,.cons h h1,h2⟩
 refine gY ⟨λσ' H'=>∃m',m'<m/\J7 H es sn ps sh st pk r j sd m' σ' H',λ_ _ z=>z,?_⟩;obtain⟨p,rfl,cn⟩:=id hv;have dn:an'.length+1+101*jd ps l=m:=by rw[aD,aP]at hm;lia
 refine⟨_,rfl,.inl ⟨rfl,_,ff.of C⟩,j,_,_,rfl,rfl,C,yQ _ _,?_⟩;have s7:eN H (upd H6 j (.lst (b++[V.ref p]).dropLast)):=eN.upd a6 b4;have a2:upd H6 j (.lst (b++[V.ref p]).dropLast) j=some (.lst b):=by rw[er,List.dropLast_concat]
 have ag:upd H6 j (.lst (b++[V.ref p]).dropLast) r=some (.dK (kz ps)):=by rw[eB (fF bq C (by intro z;cases z))];exact bq
 have L:upd H6 j (.lst (b++[V.ref p]).dropLast) sd=some (.dK (kA l)):=by rw[eB (fF a0 C (by intro z;cases z))];exact a0
 have D:upd H6 j (.lst (b++[V.ref p]).dropLast) p=some (.tup [.str n.1,.int n.2.1,.int n.2.2]):=by rw[eB (fF cn C (by intro z;cases z))];exact cn
 have b5:Paired (fH (upd H6 j (.lst (b++[V.ref p]).dropLast))) b an':=Paired.KG hz' λ_ _ y=>fH.M0 C y;generalize ea:upd H6 j (.lst (b++[V.ref p]).dropLast)=H7 at *;obtain⟨d3,bl,al,O⟩:=o n (by simp);have d:=jJ n.1 ps;refine⟨_,rfl,p,_,_,_,rfl,rfl,gC.of D,rfl,_,rfl,r,_,rfl,iP.k (k:=Sum.inr n.1) ag,_,rfl,?_⟩;cases hvz:iX ps n.1 with|none=>rw[hvz]at d;rw[d];refine gY (gY ?_);refine q false H7 s7 (.inl ⟨λz=>?_,rfl⟩);have:=z.2 bl al n O;unfold jA at this;rw[hvz]at this;cases this|some z=>
 rw[hvz]at d;rw[d];refine fz ?_;have c9:iP H7 r (.str n.1) (some (.int z)):=by have:=iP.k (k:=Sum.inr n.1) ag;rw[d]at this;exact this
 refine⟨_,rfl,_,rfl,_,rfl,p,_,_,_,rfl,rfl,gC.of D,rfl,r,_,rfl,c9,.ref p,n,z,rfl,⟨p,rfl,D⟩,_,rfl,?_⟩;refine jg (λc=>?_) (λc=>?_);refine q false H7 s7 (.inl ⟨λy=>?_,rfl⟩);have:=y.1 bl al n O;unfold ng at this;rw[hvz]at this;dsimp only at this;unfold lX at this;rw[c]at this;cases this;have J:FX ps n:=by refine⟨?_,?_⟩;unfold ng;rw[hvz];exact bJ.mpr c;unfold jA;rw[hvz];rfl
 have I:=rJ hvz;refine⟨_,rfl,p,_,_,_,rfl,rfl,gC.of D,rfl,_,rfl,sd,_,rfl,iP.k (k:=Sum.inr n.1) L,_,rfl,?_⟩;rw[lB];by_cases hin:n.1∈l;rw[aq hin];refine fz ⟨101*jd ps l+an'.length,by lia,⟨b,an',l,_,_,rfl,ag,L,a2,b5,λx g=>o x (by simp[g]),S,R,λx g=>?_,λk M N x g=>?_,λY h=>hW Y (.old hin h),dd,rfl⟩,s7,by lia⟩;rcases X x g with y|y;rcases aA.mp y with y|y;exact .inl y;rw[aj.mp y];exact .inr J;exact .inr y;rcases aa k M N x g with y|y;rcases aA.mp y with y|y;exact .inl y;rw[aj.mp y];exact .inr J;exact .inr y;rw[au hin];refine gY ?_;have d8:=mB hin (ps:=ps) (aC.mpr ⟨_,I,rfl⟩);have dy:(kA l).length<=900:=by unfold kA;rw[ab];lia
 refine⟨_,rfl,_,rfl,p,_,_,_,rfl,rfl,gC.of D,rfl,sd,_,rfl,lT.k (k:=Sum.inr n.1) L (eY (by lia)),?_⟩;rw[sH hin];have s8:eN H (upd H7 sd (.dK (kA (l++[n.1])))):=eN.upd s7 dl;have ad:upd H7 sd (.dK (kA (l++[n.1]))) j=some (.lst b):=by rw[eB (fF a2 L (by intro z;cases z))];exact a2
 have a1:upd H7 sd (.dK (kA (l++[n.1]))) r=some (.dK (kz ps)):=by rw[eB c2];exact ag
 have a7:upd H7 sd (.dK (kA (l++[n.1]))) sd=some (.dK (kA (l++[n.1]))):=er;have b9:upd H7 sd (.dK (kA (l++[n.1]))) p=some (.tup [.str n.1,.int n.2.1,.int n.2.2]):=by rw[eB (fF D L (by intro z;cases z))];exact D
 have cx:Paired (fH (upd H7 sd (.dK (kA (l++[n.1]))))) b an':=Paired.KG b5 λ_ _ y=>fH.M3 L (by intro xs z;cases z) y;generalize d6:upd H7 sd (.dK (kA (l++[n.1])))=H8 at *;have a8:iP H8 r (.str n.1) (some (.int z)):=by have:=iP.k (k:=Sum.inr n.1) a1;rw[d]at this;exact this
 refine⟨_,rfl,.inl ⟨rfl,_,ff.of ad⟩,_,rfl,_,rfl,p,_,_,_,rfl,rfl,gC.of b9,rfl,_,rfl,_,rfl,p,_,_,_,rfl,rfl,gC.of b9,rfl,r,_,rfl,a8,qK,λkt c1=>?_⟩;have s9:=eJ c1 (.tup [.str n.1,.int z]);refine⟨sh,.ref kt,es,(n.1,z),rfl,iZ.same (s8.trans s9) co,⟨kt,rfl,er⟩,a4,λe he bx na b8 bm ah=>?_,λy=>absurd (bd _ I) y⟩;have c5:gu es (n.1,z)=e.2.2:=by rw[<-bx,jb a4 he]
 rw[<-c5]at ah;have dv:=Paired.length hz';have d1:=Paired.length ah;have dp:=nM bf (n.1,z);have a9:=s9 _ _ ad;refine⟨j,na,b,b8,rfl,rfl,a9,bm,by rw[bt];lia,?_⟩;have cy:r≠j:=fF a1 ad (by intro z;cases z);have c4:sd≠j:=fF a7 ad (by intro z;cases z);refine⟨101*jd ps (l++[n.1])+(an'++gu es (n.1,z)).length,by rw[aD];lia,⟨b++b8,an'++gu es (n.1,z),l++[n.1],_,_,rfl,by rw[eB cy];exact s9 _ _ a1,by rw[eB c4];exact s9 _ _ a7,er,?_,λx g=>?_,sQ S hin,λx g=>?_,λx g=>?_,λk M N x g=>?_,λY h=>hW Y (.new hin hvz h),by rw[aD,aP];lia,rfl⟩,eN.upd (s8.trans s9) b4,by rw[aD];lia⟩;have ap:∀{as bs:ef V} {cs ds:ef Nd},Paired (fH (upd H8 kt (.tup [.str n.1,.int z]))) as cs->Paired (fH (upd H8 kt (.tup [.str n.1,.int z]))) bs ds->Paired (fH (upd H8 kt (.tup [.str n.1,.int z]))) (as++bs) (cs++ds):=by intro as bs cs ds r1 r2;induction r1 with|nil=>exact r2|cons h t ih=>exact .cons h ih
 exact Paired.KG (ap (Paired.KG cx λ_ _=>fH.same s9) ah) λ_ _ y=>fH.M0 a9 y;rcases aA.mp g with y|y;exact o x (by simp[y]);exact⟨sP bf _ x y,_,by unfold lj;exact bj _ (aC.mpr ⟨_,I,rfl⟩),y⟩;rcases aA.mp g with y|y;exact R x y;rw[aj.mp y];exact aC.mpr ⟨_,I,rfl⟩;rcases X x g with y|y;rcases aA.mp y with y|y;exact .inl (aO _ y);rw[aj.mp y];exact .inr J;exact .inr y;rcases aA.mp N with y|y;rcases aa k M y x g with y|y;rcases aA.mp y with y|y;exact .inl (aO _ y);rw[aj.mp y];exact .inr J;exact .inr y;have b7:k.1=n.1:=aj.mp y;have b2:=pY cl M;rw[b7,hvz]at b2;have cv:k=(n.1,z):=Prod.ext b7 (Option.some.inj b2).symm;rw[cv]at g;exact .inl (aS _ g)
end
end
section
variable {L:iA}{es:ef En}
def Wk.closed {ps:ef Pk}{an:ef Nd}{nm fin:ef Str}(h:Wk es ps an nm fin):(∀x∈nm,x∈fin)/\(∀n∈an,n.1∈fin)/\∀x z,iX ps x=some z->x∈fin->x∉nm->∀n∈gu es (x,z),n.1∈fin:=by
 induction h with
 |done=>exact⟨λ_ h=>h,(by simp),λx z _ l j=>absurd l j⟩
 |@old ah n nm fin hn _ ih=>obtain⟨d,g,i⟩:=ih;refine⟨d,λm b=>?_,i⟩;rcases aA.mp b with y|y;exact g m y;rw[aj.mp y];exact d _ hn
 |@new ah n nm fin z hn hv _ ih=>obtain⟨d,g,i⟩:=ih;refine⟨λx p=>d x (by simp[p]),λm b=>?_,λx o a l j m b=>?_⟩;rcases aA.mp b with y|y;exact g m (by simp[y]);rw[aj.mp y];exact d _ (by simp);by_cases e:x=n.1;subst e;rw[hv]at a;cases a;exact g m (by simp[b]);exact i x o a l (by simp[j,e]) m b
def nJ {c:eD}{pk:Nat}(h:c.Ly pk):((c.listed pk).map (·.1)).Nodup:=by refine cu.mpr ?_;have:(c.listed pk).Nodup:=c.nd.filter _;exact this.imp_of_mem λb d a z=>a (h _ _ (eD.Lf.mp b) (eD.Lf.mp d) z)
def xp {sn:ef Nd}{ps:ef Pk}(h:og es sn ps)(l:(ps.map (·.1)).Nodup):lU es sn ps:=by
 have key:∀d∈lj es sn ps,∀m∈d,∃v,iX ps m.1=some v/\lX m v=true:=λd a m b=>by
  obtain⟨j,hj,e1,e2⟩:∃j∈ps,j.1=m.1/\lX m j.2=true:=by rcases ao.mp a with y|y;subst y;exact h.met none (λ_ z=>nomatch z) m b;obtain⟨k,i,rfl⟩:=aC.mp y;exact h.met (some k) (λ_ z=>by cases z;exact i) m b
  exact⟨j.2,by rw[<-e1];exact pY l hj,e2⟩
 constructor;intro d a m b;obtain⟨v,e,g⟩:=key d a m b;unfold ng;rw[e];simp[g];intro d a m b;obtain⟨v,e,g⟩:=key d a m b;unfold jA;rw[e];rfl
def xo {c:eD}{pk:Nat}{fin:ef Str}(t:c.Ly pk)(g:∀k,c.has pk k->c.Named pk k)(q:Wk c.es (c.listed pk) c.sn [] fin)(o:fin.Nodup)(p:∀x∈fin,x∈(c.listed pk).map (·.1)):fin.length=(c.listed pk).length:=by
 have d:=nJ t;obtain⟨_,v,r⟩:=q.closed;have all:∀k,c.Named pk k->k.1∈fin:=λk i=>by
  induction i with|@start k h h'=>obtain⟨n,g,e⟩:=aC.mp h';rw[<-e];exact v n g|@next j k hj i h' ih=>
   obtain⟨n,g,e⟩:=aC.mp h';rw[<-e];have l:c.has pk j:=by cases hj with|start h _=>exact h|next _ h _=>exact h
   exact r j.1 j.2 (pY d (eD.Lf.mpr l)) ih (by simp) n g
 have a:=oH o p;have b:=oH d (m:=fin) λx s=>by obtain⟨k,i,rfl⟩:=aC.mp s;exact all k (g k (eD.Lf.mp i))
 rw[ab]at a b;omega
def lO {c:eD}{m:Nat}:(c.listed m).length<=c.es.length:=by have:=c.pm.length_eq;rw[ab]at this;rw[<-this];exact bD _ _
def j3 {c:eD}(a:∀e∈c.es,ll e){m:Nat}{k:Pk}(h:k∈c.listed m):fU k.1:=by obtain⟨e,b,rfl⟩:=aC.mp ((c.mem k).mp (eD.Lf.mp h).1);exact(a e b).pt
def yO {c:eD}(hL:ib c L)(hok:∀e∈c.es,ll e)(h64:c.es.length<64):∀l∈c.lns L,zh l:=λl hl=>by
 obtain⟨e,he,rfl⟩:=aC.mp hl;obtain⟨i,hi⟩:=aB.mp he;have h:=hL.good i e hi;have hll:(c.listed e.1).length<=c.es.length:=lO;unfold ir at h;rw[aF]at h;obtain⟨hw,h⟩:=h;refine⟨by show(c.listed e.1).length<=_;omega,λp hp=>j3 hok hp,λk hk=>?_,λk hk=>?_,λbs hb=>?_⟩;rw[hk]at hw;have hw':(decide (k∈c.listed e.1)&&decide (k∈c.es.map fb))=true:=hw;rw[aF]at hw';exact j3 hok (aI hw'.1);cases hn:ij (gr c.es c.sn (c.ln e).2.who) (c.ln e).2.place with|none=>rw[hn]at h;cases h|some n=>rw[hn]at h;dsimp only at h;rw[hk]at h;have h':(decide (k∈c.listed e.1)&&qf n k)=true:=h;rw[aF]at h';exact j3 hok (aI h'.1)
 cases hn:ij (gr c.es c.sn (c.ln e).2.who) (c.ln e).2.place with|none=>rw[hn]at h;cases h|some n=>rw[hn]at h;dsimp only at h;rw[hb]at h;have h':j4 c.es (c.lns L) (i:Nat) (c.listed e.1) n bs=true:=h;unfold j4 at h';rw[aF,aw]at h';have:=lM c.es n;omega
def uz {c:eD}(hL:ib c L):∀(i:Nat) (l:Ln),(c.lns L)[i]?=some l->ir c.es c.sn (c.lns L) (i:Nat) l=true:=λi l hl=>by
 unfold eD.lns at hl;rw[ae]at hl;obtain⟨e,he,rfl⟩:=ax.mp hl;exact hL.good i e he
def sW {c:eD}(d:ib c L)(h:∀e∈c.es,Lw e):L.length<sizeLine:=by
 have:=yN (Ps:=uD) (Vs:=wP) d (λk a=>by
  obtain⟨e,b,rfl⟩:=aC.mp ((c.mem k).mp a)
  exact(h e b).1) λk a=>by
  obtain⟨e,b,rfl⟩:=aC.mp ((c.mem k).mp a);exact(h e b).2
 have e:(wP.length+1)^uD.length=4096:=by decide
 rw[e]at this;rw[bt];omega
def om {sn:ef Nd}(hok:∀e∈es,ll e)(hs:sn.length<=100):∀w,(gr es sn w).length<=100
 |none=>hs
 |some k=>nM hok k
end
section
seal ni PS PE PT PA
end
end Lake.FB
namespace Lake.FB
open PySem PySem.Spec PyProof.Rows
variable {C PP:dY}{K:W.Frag}{ps:ef Str}{st:Stmt}{x:Str}
def Dk {qual:Str}{f c:dY}{oc:dZ}{od an:el dY}{osl:Array (el dZ)}{kV doc pm ct:dZ}(l:K.lookup f=some ⟨oc,od,.func (W.fnOf x qual (io st) (gO st) (eK st) .none kV doc pm an (.ref c) ct),osl⟩)(hc:W.codeIn K (.ref c) qual=true)(k:W.keepIn K (.ref f)=true):BW K x qual st f (W.fnOf x qual (io st) (gO st) (eK st) .none kV doc pm an (.ref c) ct) c:=⟨⟨oc,od,kV,doc,pm,an,ct,osl,rfl,l,hc⟩,k⟩
def yP {P:ee}{w:World}{mg mb:Str->el dZ}{k:Nat}{fa a cP:dY}{fd:eg}{sp:Sp}{s₁:d0}{vs:ef dZ}{ns:ef Int}(S:K.In s₁.heap)(G:s₁.heap.Ns mainGlobals mg)(g:s₁.heap.Ns builtinsNs mb)(Z:∀x:Str,x≠"__name__"->mb x=bootBuiltins x)(I:s₁.heap.NoLimit)(hg:s₁.gens=#[])(C:s₁.heap.get? a=some {cls:=.type "list",data:=.seq vs.toArray})(hi:IntsAre vs ns)(hl:ns.length<=sizeLine)(hr:gU k callerA)(D:s₁.heap.get? PP=some (W.tabObj #[]))(hC:W.codeHdIn K cP PP=true)(Q:K.lookup PP=none)(aa:tZ mg s₁.heap)(F:∀base:Heap,K.In base->base.Ns mainGlobals mg->tZ mg base->fB P w K mg base fC k fa fd [x] sp)(B:∀(s:d0) (u:dZ),BindsTo s fd ⟨[u],[]⟩ [(x,u)])(ag:∀H:Hp,ff K H a (ns.map V.int)->H PP=some (.tbl #[])->sp [.ref a] H (λv _=>v=.bl true) λ_ _ _=>False):codeAny (model P w) callerA (.call (.ref fa) ⟨[.ref a],[]⟩) (λr s'=>r=.ok (.ret (.bool true))/\OldK s₁.heap s'.heap/\s'.os=s₁.os/\AllBare s'.gens) s₁:=by
 have rv:=nw hi;have J:=hi.length;have L:a≠PP:=λe=>by rw[e,D]at C;cases C
 have t:∀H:Hp,(∀b,H b=none\/(b=PP/\H b=some (.tbl #[]))\/∃o xs,H b=some (.frz o (.lst xs)))->H PP=some (.tbl #[])->ff K H a (ns.map V.int)->lZ P w H s₁.heap->(∀b,H b≠none->b=a\/b=PP)->(H a≠none->K.lookup a=none)->
   codeAny (model P w) callerA (.call (.ref fa) ⟨[.ref a],[]⟩) (λr s'=>r=.ok (.ret (.bool true))/\OldK s₁.heap s'.heap/\s'.os=s₁.os/\AllBare s'.gens) s₁:=by
  intro H hO R hS M X hK;have i:∀{b:dY} {o:Obj},s₁.heap.get? b=some o->H b=none->(qF s₁.heap H).get? b=some o:=λe n=>Bk e n;have ad:∀{b:dY} {o:Obj},s₁.heap.get? b=some o->o.cls≠.none->(∀z y,o.data≠.seq z y)->H b=none:=λ{b o} e d1 d2=>by cases q:H b with|none=>rfl|some u=>rcases X b (by rw[q];simp) with e'|e';subst e';rw[C]at e;cases e;exact absurd rfl (d2 _ _);subst e';rw[D]at e;cases e;exact absurd rfl d1
  have ah:∀{b:dY} {o:Obj} {es:Array DictEntry} {ep:Nat},s₁.heap.get? b=some o->o.data=.dict es ep->H b=none:=λ{b o es ep} e d=>by cases q:H b with|none=>rfl|some u=>rcases X b (by rw[q];simp) with e'|e';subst e';rw[C]at e;cases e;have d':Data.seq vs.toArray _=Data.dict es ep:=d;cases d';subst e';rw[D]at e;cases e;have d':Data.fields #[]=Data.dict es ep:=d;cases d'
  have l:∀{b:dY} {m:Str->el dZ},s₁.heap.Ns b m->(qF s₁.heap H).Ns b m:=λ{b m} ⟨o,es,ep,e,d,r⟩=>⟨o,es,ep,i e (ah e d),d,r⟩;have N:K.In (qF s₁.heap H):=λb o e=>i (S b o e) (by
   cases q:H b with|none=>rfl|some u=>
    rcases X b (by rw[q];simp) with e'|e';subst e';rw[hK (by rw[q];simp)]at e;cases e;subst e'
    rw[Q]at e;cases e)
  have hM:Mod K mg (qF s₁.heap H):=⟨N,l G,⟨mb,l g,Z⟩,(by obtain⟨mc,h1,h2⟩:=I;exact⟨mc,l h1,h2⟩)⟩;have O:tZ mg (qF s₁.heap H):=by obtain⟨bm,U,b1,b2,b3,b4,b5,b6⟩:=aa;exact⟨bm,U,b1,b2,i b3 (ad b3 (by rw[b4];exact λz=>nomatch z) λ_ _ z=>by rw[b6]at z;cases z),b4,b5,b6⟩
  have e0:wJ P w K mg (qF s₁.heap H) callerA [] s₁ H:=⟨rfl,hM,λb o e=>C6 e,cB (yW _ _),trivial,λb g=>absurd (show b∈([]:ef dY) from g) (by simp),M,.of_eq hg⟩;refine codeAny_mono ((F _ N (l G) O).run callerA [] s₁ H ⟨[.ref a],[]⟩ [.ref a] [.ref a] _ _ hr e0 (B s₁ (.ref a)) (.cons rfl .nil) (ag H hS R)) λr s' h=>?_;cases r with|error e=>exact False.elim h|ok fl=>cases fl with|next=>exact False.elim h|brk=>exact False.elim h|cont=>exact False.elim h|ret u=>obtain⟨v,H',os,E,un,A,r',q⟩:=h;have q':v=.bl true:=q;subst q';obtain rfl:u=Value.bool true:=r';refine⟨rfl,⟨λb o e=>?_,λb o e=>un.there b o e (by simp)⟩,os,E⟩;rcases hO b with z|⟨rfl,z⟩|⟨U,xs,z⟩;exact .inl (un.keep b o e z (by intro z;exact absurd (show b∈([]:ef dY) from z) (by simp)) (by simp));obtain⟨more,T⟩:=un.tbls b _ z;have Y:s'.heap.get? b=some {cls:=.none,data:=.fields (#[]++more)}:=A b _ T;rw[D]at e;cases e;exact .inr (.inl ⟨((W.codeHd_of_K S hC).tab D).isCodeTable,rfl,#[],more,rfl,Y⟩);have T:=un.frzs b U _ z;obtain⟨e1,_⟩:=M b _ z;obtain⟨Y,_⟩:=A b _ T;rw[e]at e1;cases e1;exact .inl Y
 have j:∀H:Hp,gf P w H s₁.heap PP (.tbl #[]):=λH=>D;cases hk:K.lookup a with|some o=>have e:=S a o hk;rw[C]at e;cases e;refine t (λb=>if b=PP then some (.tbl #[]) else none) (λb=>?_) (ay rfl) (.inr ⟨_,vs.toArray,_,hk,rfl,rfl,rfl,by rw[aN,J];exact hl,by simpa using rv⟩) (λb u z=>?_) (λb z=>?_) λz=>absurd (av L) z;by_cases g:b=PP;exact .inr (.inl ⟨g,ay g⟩);exact .inl (av g);by_cases g:b=PP;have p:=(ay g).symm.trans z;cases p;subst g;exact j _;have p:=(av g).symm.trans z;cases p;by_cases g:b=PP;exact .inr g;exact absurd (av g) z|none=>refine t (λb=>if b=PP then some (.tbl #[]) else if b=a then some (.frz {cls:=.type "list",data:=.seq vs.toArray} (.lst (ns.map V.int))) else none) (λb=>?_) (ay rfl) (.inl (.inr ⟨{cls:=.type "list",data:=.seq vs.toArray},(av L).trans (ay rfl)⟩)) (λb u z=>?_) (λb z=>?_) λ_=>hk;by_cases g:b=PP;exact .inr (.inl ⟨g,ay g⟩);by_cases hb2:b=a;exact .inr (.inr ⟨_,_,(av g).trans (ay hb2)⟩);exact .inl ((av g).trans (av hb2));by_cases g:b=PP;have p:=(ay g).symm.trans z;cases p;subst g;exact j _;by_cases hb2:b=a;have p:=((av g).trans (ay hb2)).symm.trans z;cases p;subst hb2;exact⟨C,by rw[ab];exact hl,vs,_,rv,C⟩;have p:=((av g).trans (av hb2)).symm.trans z;cases p;by_cases g:b=PP;exact .inr g;by_cases hb2:b=a;exact .inl hb2;exact absurd ((av g).trans (av hb2)) z
def zq {l:W.OpenLaw}{n k:Nat}{q:ee}{loose:ef Str}{XP:(Str->el dZ)->Heap->Prop}{YP:World->Heap->Prop}{d:DefRec}{K:Params->W.Frag}{sp:World->Sp}(M:l.most=some n)(t:n<=sizeLine)(p:d.params.defaults=[])(J:gU k callerA)(I:∀(w:World) (h:Heap),YP w h->(K w.params).In h)(r:∀(w:World) (h:Heap),YP w h->h.get? PP=some (W.tabObj #[]))(m:∀w:World,(K w.params).lookup PP=none)(F:∀(w:World) (mg:Str->el dZ) (fa:dY) (h:Heap),(K w.params).In h->h.Ns mainGlobals mg->mg d.name=some (.ref fa)->∃(fd:eg) (cP:dY),W.codeHdIn (K w.params) cP PP=true/\(∀(s:d0) (u:dZ),BindsTo s fd ⟨[u],[]⟩ [(x,u)])/\∀base:Heap,(K w.params).In base->base.Ns mainGlobals mg->tZ mg base->fB l.prog w (K w.params) mg base fC k fa fd [x] (sp w))(z:∀(w:World) (H:Hp) (a:dY) (ns:ef Int),ns.length<=n->ff (K w.params) H a (ns.map V.int)->H PP=some (.tbl #[])->sp w [.ref a] H (λv _=>v=.bl true) λ_ _ _=>False):W.WalkO q loose XP YP l.row.toRowW d [] (λf vs=>PySem.call f vs):=by refine Att.uS M p λw s₀ s₁ mg S fa o R X L a vs ns G Y U Q P y j i e D=>?_;have A:=I w _ Y;obtain⟨fd,cP,B,C,E⟩:=F w mg fa _ A G.T.g y;exact yP A G.T.g G.T.b G.T.builtins G.T.nolimit D j i (bz e t) J (r w _ Y) B (m w) G.T.bmain E C λH O N=>z w H a ns e O N
def Fj {α:Type}{p:ef α->Prop}(h:∀a,p [a]):∀us:ef α,us.length=1->p us
 |[a],_=>h a
def Fi {α:Type}{p:ef α->Prop}(h:∀a b,p [a,b]):∀us:ef α,us.length=2->p us
 |[a,b],_=>h a b
def Fh {α:Type}{p:ef α->Prop}(h:∀a b c,p [a,b,c]):∀us:ef α,us.length=3->p us
 |[a,b,c],_=>h a b c
def Fg {α:Type}{p:ef α->Prop}(h:∀a b c d,p [a,b,c,d]):∀us:ef α,us.length=4->p us
 |[a,b,c,d],_=>h a b c d
inductive lu (K:W.Frag)(x:Str)(st:Stmt)(f:dY):Prop
 |mk {oc kV dc pm cd ct:dZ}{od an:el dY}{sl:Array (el dZ)}(_:W.nsIn K mainGlobals x=some (some (.ref f)))(_:K.lookup f=some ⟨oc,od,.func (W.fnOf x x (io st) (gO st) (eK st) .none kV dc pm an cd ct),sl⟩)(_:W.codeIn K cd x=true)(_:W.keepIn K (.ref f)=true)
inductive ml (K:W.Frag)(C:dY)(m q:Str)(st:Stmt)(f:dY):Prop
 |mk {oc kV dc pm cd ct:dZ}{od an:el dY}{sl:Array (el dZ)}(_:W.findIn K (.ref C) m=some (some (.ref f)))(_:W.isFn K (.ref f)=true)(_:K.lookup f=some ⟨oc,od,.func (W.fnOf m q (io st) (gO st) (eK st) .none kV dc pm an cd ct),sl⟩)(_:W.codeIn K cd q=true)(_:W.keepIn K (.ref f)=true)
inductive JU (K:W.Frag)(C:dY)(m q:Str)(st:Stmt)(f PP:dY):Prop
 |mk {oc kV dc pm ct:dZ}{cd:dY}{od an:el dY}{sl:Array (el dZ)}(_:W.findIn K (.ref C) m=some (some (.ref f)))(_:W.isFn K (.ref f)=true)(_:K.lookup f=some ⟨oc,od,.func (W.fnOf m q (io st) (gO st) (eK st) .none kV dc pm an (.ref cd) ct),sl⟩)(_:W.codeIn K (.ref cd) q=true)(_:W.keepIn K (.ref f)=true)(_:W.codeHdIn K cd PP=true)
structure D3 (K:W.Frag)(x:Str)(C:dY):Prop where
 a:W.nsIn K mainGlobals x=some (some (.ref C))
 pg:W.plainGet K C Str.empty=true
 hd:W.hasDictIn K C=true
 po:W.plainOver K C=true
 sa:W.findIn K (.ref C) "__setattr__" = some (some (.builtin "object.__setattr__"))
 mk_:W.makesIn K C=true
 kc:W.keepIn K (.ref C)=true
section
variable {K:W.Frag}{h:Heap}{mg:Str->el dZ}(X:K.In h)(G:h.Ns mainGlobals mg)
def D3.c (d:D3 K x C):qx K C:=⟨d.pg,d.hd,d.po,d.sa⟩
include X G in
theorem lu.u {f:dY}(d:lu K x st f)(hb:∀(kV doc pm:dZ) (an:el dY) (cdv ct:dZ) (us:ef dZ),us.length=ps.length->bindArgs (W.fnOf x x (io st) (gO st) (eK st) .none kV doc pm an cdv ct) ⟨us,[]⟩=pure (ps.zip us):=by intro _ _ _ _ _ _;first|exact Fj λ_=>rfl|exact Fi λ_ _=>rfl|exact Fh λ_ _ _=>rfl|exact Fg λ_ _ _ _=>rfl|exact Ff λ_ _ _ _ _ _=>rfl):∃fd,iE K x x st f fd/\iM K fd ps []/\W.keepIn K (.ref f)=true/\mg x=some (.ref f):=by obtain @⟨i,kV,h,pm,e,ct,g,an,b,a,l,c,k⟩:=d;exact⟨_,nT l c k,(nT l c k).binds hb,k,W.mg_of X G a⟩
theorem ml.u {m q:Str}{f:dY}(d:ml K C m q st f)(hb:autoParam (∀(kV doc pm:dZ) (an:el dY) (cdv ct:dZ) (us:ef dZ),us.length=ps.length->bindArgs (W.fnOf m q (io st) (gO st) (eK st) .none kV doc pm an cdv ct) ⟨us,[]⟩=pure (ps.zip us)) Lake.FB.lu.u._auto_1):∃fd,iE K m q st f fd/\iM K fd ps []/\wH K C m f:=by obtain @⟨j,kV,h,pm,e,ct,g,an,b,a,i,l,c,k⟩:=d;exact⟨_,nT l c k,(nT l c k).binds hb,a,i,k⟩
theorem JU.u {m q:Str}{f:dY}(d:JU K C m q st f PP)(hb:autoParam (∀(kV doc pm:dZ) (an:el dY) (cdv ct:dZ) (us:ef dZ),us.length=ps.length->bindArgs (W.fnOf m q (io st) (gO st) (eK st) .none kV doc pm an cdv ct) ⟨us,[]⟩=pure (ps.zip us)) Lake.FB.lu.u._auto_1):∃fd b,BW K m q st f fd b/\iM K fd ps []/\wH K C m f/\W.codeHdIn K b PP=true:=by obtain @⟨h,kV,g,pm,ct,b,o,an,j,a,i,l,c,k,e⟩:=d;exact⟨_,b,Dk l c k,(nT l c k).binds hb,⟨a,i,k⟩,e⟩
end
end Lake.FB
namespace Lake.FB
open PySem PyProof.Rows
section
variable {H H':Hp}{a:dY}{v:V}
structure mM (H H':Hp):Prop where
 l:∀a xs,H a=some (.lst xs)->H' a=some (.lst xs)
 t:∀a xs,H a=some (.tup xs)->H' a=some (.tup xs)
def mM.of (e:eN H H'):mM H H':=⟨λa xs=>e a _,λa xs=>e a _⟩
def mM.trans {H1 H2:Hp}(a:mM H H1)(b:mM H1 H2):mM H H2:=⟨λc xs h=>b.l c xs (a.l c xs h),λc xs h=>b.t c xs (a.t c xs h)⟩
def mM.tab {PP:dY}(d:ic zy yJ H PP)(e:eL (del H [PP]) H'):mM H H':=by
 obtain⟨u,hu,fu⟩:∃u,H PP=some u/\u5 u:=by rcases d with z|⟨g,z,_⟩;exact⟨_,z,trivial⟩;exact⟨_,z,trivial⟩
 exact⟨λa b h=>e.lst (iN hu fu h λz=>z),λa b h=>e.tup (iN hu fu h λz=>z)⟩
section
variable {H H':Hp}(e:mM H H')
include e
theorem fH.k {n:Nd}(h:fH H v n):fH H' v n:=(by obtain⟨q,h1,h2⟩:=h;exact⟨q,h1,e.t _ _ h2⟩)
theorem fj.k {n:Pk}(h:fj H v n):fj H' v n:=(by obtain⟨q,h1,h2⟩:=h;exact⟨q,h1,e.t _ _ h2⟩)
theorem gv.k {ns:ef Nd}(h:gv H a ns):gv H' a ns:=(by obtain⟨xs,h1,h2⟩:=h;exact⟨xs,e.l _ _ h1,Paired.KG h2 λ_ _=>fH.k e⟩)
theorem je.k {ns:ef Pk}(h:je H a ns):je H' a ns:=(by obtain⟨xs,h1,h2⟩:=h;exact⟨xs,e.l _ _ h1,Paired.KG h2 λ_ _=>fj.k e⟩)
theorem lr.k {n:En}(h:lr H v n):lr H' v n:=(by obtain⟨q,a,xs,h1,h2,h3,h4⟩:=h;exact⟨q,a,xs,h1,e.t _ _ h2,e.l _ _ h3,Paired.KG h4 λ_ _=>fH.k e⟩)
theorem iZ.k {es:ef En}(h:iZ H a es):iZ H' a es:=(by obtain⟨xs,h1,h2⟩:=h;exact⟨xs,e.l _ _ h1,Paired.KG h2 λ_ _=>lr.k e⟩)
end
def AY {c:eD}{L:iA}{ds:ef Pk}(b:ib c L)(a:og c.es c.sn ds){l:Ln}(e:l∈c.lns L)(h:∀p∈l.1,p∈ds):False:=by obtain⟨i,d⟩:=aB.mp e;exact DM (uz b) a i l d h
def xf {c:eD}{L:iA}{ds:ef Pk}(d:ib c L)(a:og c.es c.sn ds){e:Nat×Rs}(g:L.getLast?=some e)(b:e.1=0):False:=by refine AY d a (aC.mpr ⟨e,List.mem_of_getLast? g,rfl⟩) λp hp=>?_;have:=(eD.Lf.mp hp).2;rw[b]at this;simp at this
end
section
seal ni PS PE PT PA
variable {C:dY}{H H':Hp}{K:W.Frag}{P:ee}{es:ef En}{fd:eg}{i:Int}{l:Ln}{ls:ef Ln}{m:Nd}{mg:Str->el dZ}{ps:ef Pk}{sn:ef Nd}{v:V}{w:World}
inductive ze (W:ef Pk->Nd->Bool)(vs:ef V)(H:Hp)(Q:VK)(E:XK):Prop
 |mk (v:V)(d:dY)(n:Nd)(ps:ef Pk)(_:vs=[v,.ref d])(_:fH H v n)(_:H d=some (.dK (kz ps)))(_:∀H',eN H H'->Q (.bl (W ps n)) H')
inductive BK (P:ee)(w:World)(K:W.Frag)(mg:Str->el dZ)(base:Heap)(C:dY)(vs:ef V)(H:Hp)(Q:VK)(E:XK):Prop
 |mk (b pa g st:dY)(gd:eg)(Wr:ef Pk->Nd->Bool)(es:ef En)(sn:ef Nd)(ps:ef Pk)(xs:ef V)(_:vs=[.ref b,.ref pa,.ref g])(_:fB P w K mg base fC 2 g gd ["need","picked"] (ze Wr))(_:W.keepIn K (.ref g)=true)(_:iM K gd ["need","picked"] [])(_:fZ C H b st es)(_:(es.map fb).Nodup)(_:gv H st sn)(_:H pa=some (.lst xs))(_:Paired (fj H) xs ps)(_:lV es ps)(_:(ps.map (·.1)).Nodup)(_:ps.length<=900)(_:∀i j t w' H',tY (Wr ps) (lj es sn ps) i j->eN H H'->(V.non::xs)[i]?=some w'->H' t=some (.tup [w',.int (j:Nat)])->Q (.ref t) H')(_:mK (Wr ps) (lj es sn ps)->∀H',eN H H'->Q .non H')
section
variable {base:Heap}{f:dY}
def DN:eQ ["need","picked","part"] ["need","picked"] (eK Ey):=iW
def EK (F:iE K "clashes_with" "clashes_with" Ey f fd)(G:Gd P w K mg base fC 1 "clashes" ["need","pick"] kK):fB P w K mg base fC 2 f fd ["need","picked"] (ze ng):=by refine F.ok DN λx A j s H B Q E o h=>?_;obtain⟨v,d,n,g,rfl,⟨l,rfl,b⟩,m,q⟩:=h;have p:=gH o;refine⟨_,(et (eO (i:=2) DN.nd (eP eW (pv 0) eF)) (eE (eU (kU (sK (nH p (pv 2) (pv 1))) (lJ (fG G o (eo (pv 0) (eo (gL (eo (pv 2) (eo (hJ p (pv 1) (pv 2)) eA))) eA)))))))),?_⟩;refine⟨_,rfl,l,_,_,_,rfl,rfl,gC.of b,rfl,?_⟩;refine⟨_,rfl,_,rfl,d,_,rfl,iP.k (k:=Sum.inr n.1) m,_,rfl,?_⟩;have a:=jJ n.1 g;cases e:iX g n.1 with|none=>rw[e]at a;rw[a];refine fz ?_;have:=q H (eN.refl H);rw[show ng g n=false by unfold ng;rw[e]]at this;exact this|some z=>rw[e]at a;rw[a];refine gY ?_;refine⟨_,rfl,_,rfl,_,rfl,_,rfl,d,.int z,rfl,(by have:=iP.k (k:=Sum.inr n.1) m;rw[a]at this;exact this),qK,λt y=>?_⟩;have r:=eJ y (.tup [.str n.1,.int z]);refine⟨.ref l,.ref t,n,(n.1,z),rfl,⟨l,rfl,r _ _ b⟩,⟨t,rfl,er⟩,?_⟩;have:=q _ r;rw[show ng g n=nY n (n.1,z) by unfold ng nY;rw[e];simp]at this;exact this
def Er:eQ ["need","picked"] ["need","picked"] (eK zW):=iW
def CY (F:iE K "lacks_pick" "lacks_pick" zW f fd):fB P w K mg base fC 1 f fd ["need","picked"] (ze jA):=by
 refine F.ok Er λi A e s H o Q E j h=>?_;obtain⟨v,d,n,a,rfl,⟨m,rfl,b⟩,g,q⟩:=h;have l:=gH j;refine⟨_,(eE (eU (sK (jI l (eP eW (pv 0) eF) (pv 1))))),?_⟩;refine⟨_,rfl,m,_,_,_,rfl,rfl,gC.of b,rfl,_,rfl,d,_,rfl,iP.k (k:=Sum.inr n.1) g,?_⟩;have:=q H (eN.refl H);rw[show jA a n=!(fc (kz a) (Sum.inr n.1:gM)).isSome by rw[jJ];unfold jA;cases iX a n.1 <;> rfl]at this
 exact this
end
section
variable {base:Heap}{f:dY}
def ug:eQ ["board","picks","wrong","picked","who","place","need"] ["board","picks","wrong"] (eK vv):=iW
def AR (F:iE K "first_need" "first_need" vv f fd)(T:TB K mg C)(mD:mg "dict" = none)(mE:mg "enumerate" = none):fB P w K mg base fC 3 f fd ["board","picks","wrong"] (BK P w K mg base C):=by
 refine F.ok ug λb1 A a7 s H vs Q E X h=>?_;obtain⟨b,pa,g,st,gd,W,es,sn,p,xs,rfl,FG,kG,bG,hB,be,⟨a1,a6,a5⟩,hx,hp,ag,bm,hl,q1,q2⟩:=h;have hu:=gH X;refine⟨_,(et (eO (i:=3) ug.nd (ig (qh rfl) rfl mD PyProof.Rows.boot_dict (eo (pv 1) eA))) (et (fO (fL (fh kY (gy (eo iJ eA)) (pv 1))) (eR (i:=4) ug.nd) (eE (fO (wU rfl mE (fg hu (jj (pv 0) rfl) (pv 4))) (kS rfl (gl (eR (i:=5) ug.nd) (gl (eR (i:=6) ug.nd) jD))) (eE (fm (gT (Ay (i:=2) rfl (Or.inl rfl) X (eo (pv 6) (eo (pv 3) eA)))) (eE (eU (gL (eo (pv 4) (eo (pv 5) eA))))) eV))))) (eE (eU iJ)))),?_⟩;have lx:xs.length=p.length:=Paired.length hp;obtain⟨dx,dn,dv,hb,L,R⟩:=hB.start;have bf:(kz p).length<=1000:=by unfold kz;rw[ab];omega
 refine⟨_,rfl,pa,xs,kz p,rfl,hx,pN hp,bf,λd hd=>?_⟩;have bl:iT [] (kz p)=kz p:=lW p [] (by simpa using bm);rw[bl];have s1:=eJ hd (.dK (kz p));generalize bd:upd H d (.dK (kz p))=H1 at *;have al:H1 d=some (.dK (kz p)):=by rw[<-bd];exact er
 refine⟨DI,λl0 Z=>⟨_,rfl,l0,pa,_,xs,rfl,rfl,er,?_,?_,λwl a2=>?_⟩⟩;rw[eB (eG (s1 _ _ hx) Z)];exact s1 _ _ hx;rw[bt];show 1+xs.length<=_;omega;have s2:eN H1 (upd (upd H1 l0 (.lst [.non])) wl (.lst ([V.non]++xs))):=(eJ Z _).trans (eJ a2 _);generalize bx:upd (upd H1 l0 (.lst [.non])) wl (.lst ([V.non]++xs))=H2 at *;have aa:H2 wl=some (.lst (V.non::xs)):=by rw[<-bx];exact er
 have B:eN H H2:=s1.trans s2;have bv:∀(i:Nat) (x:V),(V.non::xs)[i]?=some x->∃a M r,hU H dn x (some (.ref a))/\H a=some (.lst M)/\Paired (fH H) M r/\(lj es sn p)[i]?=some r:=λi x hi=>by
  cases i with
  |zero=>
   have e:V.non=x:=by simpa using hi
   subst e;exact⟨st,a1,sn,L,a6,a5,rfl⟩
  |succ i=>
  have v:xs[i]?=some x:=by simpa using hi
  obtain⟨k,hk,an⟩:=Paired.K8 hp v;rcases R x k an with ⟨z,_⟩|⟨_,e,he,a8,a,M,z1,z2,z3⟩;exact absurd (ag k (ai hk)) z;refine⟨a,M,e.2.2,z1,z2,z3,?_⟩;show(sn::p.map (gu es))[i+1]?=_;rw[List.getElem?_cons_succ,ae,hk];show some (gu es k)=_;rw[<-a8,jb be he]
 have ad:∀{D:Hp} {x:V} {o:el V},eN H D->hU H dn x o->hU D dn x o:=λ{D x o} G z=>by obtain⟨a0,k,e1,e2,e3⟩:=z;refine⟨a0,k,?_,?_,e3⟩;rcases e1 with e1|⟨ob,e1⟩;exact .inl (G _ _ e1);exact .inr ⟨ob,G _ _ e1⟩;cases k with|none=>exact e2|some ks=>obtain⟨q,h1,h2⟩:=e2;exact⟨q,h1,G _ _ h2⟩
 refine⟨wl,rfl,⟨_,ff.of aa⟩,fW (K:=K) (a:=wl) (xs:=V.non::xs) (λi σ D=>∃o4 U S,σ=[some (.ref b),some (.ref pa),some (.ref g),some (.ref d),o4,U,S]/\eN H2 D/\∀J r,J<i->(lj es sn p)[J]?=some r->∀m∈r,W p m=false) ⟨none,none,none,rfl,eN.refl _,λJ r z=>by omega⟩ (λi σ D _ ⟨_,_,_,_,G,_⟩=>ff.of (G _ _ aa)) ?_ ?_⟩;rintro i x σ D hi ⟨o4,U,S,rfl,G,I⟩;obtain⟨a,M,r,bq,ha,hz,N⟩:=bv i x hi;have O:eN H D:=B.trans G;refine⟨_,rfl,b,C,dx,_,_,rfl,O _ _ hb,T.cl,T.nN,fE _ _,_,rfl,dn,_,rfl,ad O bq,a,M,rfl,O _ _ ha,?_⟩;have lz:M.length=r.length:=Paired.length hz;refine uE (K:=K) (a:=a) (xs:=M) (λj σ H4=>∃U S,σ=[some (.ref b),some (.ref pa),some (.ref g),some (.ref d),some x,U,S]/\eN H2 H4/\∀m∈r.take j,W p m=false)
  ⟨U,S,rfl,G,by simp⟩ (λj σ H4 _ ⟨_,_,_,Y,_⟩=>ff.of ((B.trans Y) _ _ ha)) ?_ ?_
 rintro j z σ H4 t hj ⟨ah,a9,rfl,Y,l⟩ ht;obtain⟨n,hn,a4⟩:=Paired.K8 hz hj;have a3:r.take (j+1)=r.take j++[n]:=by rw[bc,hn];rfl
 have s5:=Y.trans (eJ ht (.tup [.int (j:Nat),z]));refine⟨t,_,rfl,gC.of er,rfl,_,_,rfl,_,_,rfl,rfl,?_⟩;refine⟨g,gd,_,ze W,rfl,FG,kG,bG,_,rfl,_,rfl,z,d,n,p,rfl,fH.same (B.trans s5) a4,s5 _ _ (s2 _ _ al),λH6 s6=>⟨_,rfl,?_⟩⟩;refine jg (λhw=>?_) (λhw=>?_);refine⟨_,rfl,_,rfl,qK,λt2 ap=>?_⟩;refine q1 i j t2 x _ ⟨⟨r,n,N,hn,hw,l⟩,I⟩ (((B.trans s5).trans s6).trans (eJ ap _)) hi er;refine⟨_,_,rfl,s5.trans s6,λm hm=>?_⟩;rw[a3]at hm;rcases aA.mp hm with y|y;exact l m y;rw[aj.mp y];exact bJ.mpr hw;rintro σ H4 ⟨ah,a9,rfl,Y,l⟩;rw[lz,aK]at l;refine⟨_,_,_,rfl,Y,λJ as v X=>?_⟩;by_cases e:J=i;subst e;rw[N]at X;cases X;exact l;exact I J as (by omega) X;rintro σ D ⟨o4,U,S,rfl,G,I⟩;refine q2 (λr ba=>?_) D (B.trans G);obtain⟨J,v⟩:=aB.mp ba;refine I J r ?_ v;have:=(af.mp v).1;show J<(V.non::xs).length;unfold lj at this;rw[aE,ab]at this;rw[aE];omega
end
inductive BH (C:dY)(vs:ef V)(H:Hp)(Q:VK)(E:XK):Prop
 |mk (b pa st:dY)(es:ef En)(sn:ef Nd)(ps:ef Pk)(_:vs=[.ref b,.ref pa])(_:fZ C H b st es)(_:(es.map fb).Nodup)(_:∀e∈es,ll e)(_:gv H st sn)(_:sn.length<=900)(_:je H pa ps)(_:lV es ps)(_:(ps.map (·.1)).Nodup)(_:ps.length<=900)(_:mK (jA ps) (lj es sn ps))(_:∀d (fin:ef Str) H',eN H H'->Wk es ps sn [] fin->H' d=some (.dK (kA fin))->Q (.ref d) H')
inductive xO (vs:ef V)(H:Hp)(Q:VK)(E:XK):Prop
 |mk (a pa st:dY)(es:ef En)(sn:ef Nd)(ps:ef Pk)(xs:ef V)(_:vs=[.ref a,.ref st,.ref pa])(_:iZ H a es)(_:∀e∈es,ll e)(_:es.length<64)(_:(es.map fb).Nodup)(_:gv H st sn)(_:sn.length<=900)(_:H pa=some (.lst xs))(_:Paired (fj H) xs ps)(_:∀k∈ps,fU k.1)(_:lV es ps)(_:(ps.map (·.1)).Nodup)(_:ps.length<=900)(_:∀b H',eN H H'->Ij es sn ps b->Q (.bl b) H')
inductive JG (H0:Hp)(es:ef En)(sn:ef Nd)(ps:ef Pk)(b pa pd nd ah:dY)(m:Nat)(σ:Lake.St)(H:Hp):Prop
 |mk (zs an nm o5:_)(_:σ=[some (.ref b),some (.ref pa),some (.ref pd),some (.ref nd),some (.ref ah),o5])(_:H nd=some (.dK (kA nm)))(_:H ah=some (.lst zs))(_:Paired (fH H0) zs an)(_:∀n∈an,jA ps n=false)(_:∀fin,Wk es ps an nm fin->Wk es ps sn [] fin)(_:nm.length+jd ps nm<=ps.length)(_:101*jd ps nm+an.length=m)
structure J5 (H0:Hp)(es:ef En)(sn:ef Nd)(ps:ef Pk)(b pa pd nd ah:dY)(m:Nat)(σ:Lake.St)(H:Hp):Prop where
 ex:JG H0 es sn ps b pa pd nd ah m σ H
 sm:eN H0 H
 le:m<=100000
section
variable {base:Heap}{f:dY}
def uf:eQ ["board","picks","picked","named","ahead","part"] ["board","picks"] (eK vo):=iW
def AL (F:iE K "named_parts" "named_parts" vo f fd)(T:TB K mg C)(mD:mg "dict" = none):fB P w K mg base fC 1 f fd ["board","picks"] (BH C):=by
 refine F.ok uf λdp A cv s H vs Q E hr h=>?_;obtain⟨b,pa,st,es,sn,ps,rfl,hB,cz,b6,⟨Y,b7,a6⟩,c7,⟨xs,hx,hp⟩,b3,c0,dl,a5,q⟩:=h;have hu:=gH hr;refine⟨_,(et (eO (i:=2) uf.nd (ig (qh rfl) rfl mD PyProof.Rows.boot_dict (eo (pv 1) eA))) (et (eO (i:=3) uf.nd ie) (et (eO (i:=4) uf.nd (ig iO rfl T.list cZ (eo (fg hu (jj (pv 0) rfl) iJ) eA))) (et (jK PassesOwn.never (iH (pv 4) (λ_=>rfl)) (et (eO (i:=5) uf.nd (eP eW (vB PySem.F.plainAttrs_list PySem.F.slot_list_pop PySem.F.type_list_pop vT (pv 4)) eF)) (eE (fm (gN (jI hu (pv 5) (pv 3))) (et (i6 hu (pv 3) (pv 5) ik rfl) (eE (gF (jL PySem.F.plainAttrs_list PySem.F.slot_list_extend PySem.F.type_list_extend qZ (pv 4) (eo (fg hu (jj (pv 0) rfl) (gL (eo (pv 5) (eo (hJ hu (pv 2) (pv 5)) eA)))) eA))))) eV)))) (eE (eU (pv 3))))))),?_⟩;obtain⟨dx,dn,dv,hb,U,ad⟩:=hB.start;have ch:(kz ps).length<=1000:=by unfold kz;rw[ab];omega
 refine⟨_,rfl,pa,xs,kz ps,rfl,hx,pN hp,ch,λg a9=>?_⟩;have co:iT [] (kz ps)=kz ps:=lW ps [] (by simpa using c0);rw[co];have s1:=eJ a9 (.dK (kz ps));refine λnd p=>?_;have s2:=s1.trans (eJ p (.dK []));have a4:upd (upd H g (.dK (kz ps))) nd (.dK []) g=some (.dK (kz ps)):=(eJ p _) _ _ er;have a8:upd (upd H g (.dK (kz ps))) nd (.dK []) nd=some (.dK []):=er;have be:H nd=none:=s1.free p;generalize dc:upd (upd H g (.dK (kz ps))) nd (.dK [])=H2 at *;have a7:∀{J:Hp} {x:V} {o:el V},eN H J->hU H dn x o->hU J dn x o:=λ{J x o} s3 z=>by obtain⟨ag,k,G,e2,e3⟩:=z;refine⟨ag,k,?_,?_,e3⟩;rcases G with G|⟨ob,G⟩;exact .inl (s3 _ _ G);exact .inr ⟨ob,s3 _ _ G⟩;cases k with|none=>exact e2|some ks=>obtain⟨q,h1,h2⟩:=e2;exact⟨q,h1,s3 _ _ h2⟩
 refine⟨_,rfl,b,C,dx,_,_,rfl,s2 _ _ hb,T.cl,T.nN,fE _ _,dn,_,rfl,a7 s2 U,st,Y,rfl,.inl (ff.of (s2 _ _ b7)),λB bd=>?_⟩;have s3:=eJ bd (.lst Y);have bf:H B=none:=s2.free bd;have dd:=Paired.length a6;have bx:=uy ps [];refine⟨λm σ H'=>J5 H es sn ps b pa g nd B m σ H'/\H' g=some (.dK (kz ps)),⟨101*jd ps []+sn.length,⟨⟨Y,sn,[],none,rfl,s3 _ _ a8,er,a6,λn hn=>a5 sn (by simp[lj]) n hn,λN h=>h,by rw[cR,Nat.zero_add];exact bx,rfl⟩,s2.trans s3,by omega⟩,s3 _ _ a4⟩,?_⟩;rintro m σ J ⟨⟨⟨zs,an,j,o5,rfl,a1,D,Z,M,hW,cy,hm⟩,sm,da⟩,bl⟩;refine⟨_,rfl,_,.inl ⟨zs,ff.of D,rfl⟩,?_⟩;by_cases hnil:an=[];subst hnil;cases Z;exact fz ⟨_,rfl,q nd j J sm (hW j .done) a1⟩;obtain⟨an',n,rfl⟩:∃an' n,an=an'++[n]:=⟨an.dropLast,an.getLast hnil,(List.dropLast_concat_getLast hnil).symm⟩;obtain⟨d,v,rfl,hz',hv⟩:∃d v,zs=d++[v]/\Paired (fH H) d an'/\fH H v n:=by
  clear M hW hm D hnil;induction an' generalizing zs with
  |nil=>cases Z with|cons h t=>cases t;exact⟨[],_,rfl,.nil,h⟩
  |cons a an' ih=>cases Z with|cons h t=>obtain⟨d,v,rfl,h1,h2⟩:=ih _ t;exact⟨_::d,v,rfl,.cons h h1,h2⟩
 have bv:(d++[v]).isEmpty=false:=by simp
 rw[bv];refine gY ⟨λσ' H'=>∃m',m'<m/\(J5 H es sn ps b pa g nd B m' σ' H'/\H' g=some (.dK (kz ps))),λ_ _ z=>z,?_⟩;obtain⟨S,rfl,c2⟩:=id hv;have a0:(d++[V.ref S])[(d++[V.ref S]).length-1]?=some (V.ref S):=by simp
 have c3:an'.length+1+101*jd ps j=m:=by rw[aD,aP]at hm;omega
 refine⟨_,rfl,.inl ⟨rfl,_,ff.of D⟩,B,_,_,rfl,rfl,D,a0,?_⟩;have s4:eN H (upd J B (.lst (d++[V.ref S]).dropLast)):=eN.upd sm bf;have aa:upd J B (.lst (d++[V.ref S]).dropLast) B=some (.lst d):=by rw[er,List.dropLast_concat]
 have O:upd J B (.lst (d++[V.ref S]).dropLast) nd=some (.dK (kA j)):=by rw[eB (fF a1 D (by intro z;cases z))];exact a1
 have a3:upd J B (.lst (d++[V.ref S]).dropLast) g=some (.dK (kz ps)):=by rw[eB (fF bl D (by intro z;cases z))];exact bl
 generalize d2:upd J B (.lst (d++[V.ref S]).dropLast)=H4 at *;refine⟨S,_,_,_,rfl,rfl,gC.of (s4 _ _ c2),rfl,?_⟩;have I:jA ps n=false:=M n (by simp);refine⟨_,rfl,_,rfl,nd,_,rfl,iP.k (k:=Sum.inr n.1) O,_,rfl,?_⟩;rw[lB];by_cases hin:n.1∈j;rw[aq hin];refine fz ⟨101*jd ps j+an'.length,by omega,⟨⟨d,an',j,_,rfl,O,aa,hz',λx hx=>M x (by simp[hx]),λN h=>hW N (.old hin h),cy,rfl⟩,s4,by omega⟩,a3⟩;rw[au hin];refine gY ?_;obtain⟨z,hvz⟩:∃z,iX ps n.1=some z:=by unfold jA at I;cases e:iX ps n.1 with|none=>rw[e]at I;cases I|some z=>exact⟨z,rfl⟩
 have r:=rJ hvz;have d1:=mB hin (ps:=ps) (aC.mpr ⟨_,r,rfl⟩);have c8:(kA j).length<=900:=by unfold kA;rw[ab];omega
 refine⟨_,rfl,_,rfl,nd,_,rfl,lT.k (k:=Sum.inr n.1) O (eY (by omega)),?_⟩;rw[sH hin];have s5:eN H (upd H4 nd (.dK (kA (j++[n.1])))):=eN.upd s4 be;have L:upd H4 nd (.dK (kA (j++[n.1]))) B=some (.lst d):=by rw[eB (fF aa O (by intro z;cases z))];exact aa
 have cx:g≠nd:=by intro e;subst e;have:H g=none:=a9;have h0:upd H g (.dK (kz ps)) g=none:=p;rw[er]at h0;cases h0
 have al:upd H4 nd (.dK (kA (j++[n.1]))) g=some (.dK (kz ps)):=by rw[eB cx];exact a3
 have ba:upd H4 nd (.dK (kA (j++[n.1]))) nd=some (.dK (kA (j++[n.1]))):=er;generalize dy:upd H4 nd (.dK (kA (j++[n.1])))=H5 at *;have cp:iP H5 g (.str n.1) (some (.int z)):=by have:=iP.k (k:=Sum.inr n.1) al;rw[jJ,hvz]at this;exact this
 refine⟨_,rfl,.inl ⟨rfl,_,ff.of L⟩,_,rfl,b,C,dx,_,_,rfl,s5 _ _ hb,T.cl,T.nN,fE _ _,_,rfl,_,rfl,_,rfl,g,_,rfl,cp,qK,λkt b9=>?_⟩;have X:=eJ b9 (.tup [.str n.1,.int z]);have b1:∃a l,hU (upd H5 kt (.tup [.str n.1,.int z])) dn (.ref kt) (some (.ref a))/\H a=some (.lst l)/\Paired (fH H) l (gu es (n.1,z)):=by
  have c5:=hB.same (s5.trans X);obtain⟨x1,hx1,hkx⟩:∃v1,fj H v1 (n.1,z)/\v1∈xs:=by
   obtain⟨i,hi⟩:=aB.mp r;have lx:=Paired.length hp;have bq:i<xs.length:=by rw[lx];exact(af.mp hi).1
   obtain⟨k',a2,b5⟩:=Paired.K8 hp (ak bq);rw[hi]at a2;cases a2;exact⟨_,b5,List.getElem_mem bq⟩
  rcases ad x1 (n.1,z) hx1 with ⟨z1,_⟩|⟨_,e,he,cd,a,l,z1,z2,z3⟩;exact absurd (b3 _ r) z1;obtain⟨ag,k,G,e2,e3⟩:=z1;obtain⟨q1,rfl,ct⟩:=hx1;have hk:k=some (iY (n.1,z)):=by
   cases k with|none=>cases e2|some ks=>
    obtain⟨b2,cn,R⟩:=e2;cases cn;rw[ct]at R;have:[V.str n.1,V.int z]=ks.map kV:=by injection R with R;injection R
    have:(iY (n.1,z)).map kV=ks.map kV:=this;rw[xk this]
  subst hk;refine⟨a,l,⟨ag,some (iY (n.1,z)),?_,⟨kt,rfl,er⟩,e3⟩,z2,by rw[<-cd,jb cz he];exact z3⟩;rcases G with G|⟨ob,G⟩;exact .inl ((s5.trans X) _ _ G);exact .inr ⟨ob,(s5.trans X) _ _ G⟩
 obtain⟨a,l,c1,ha,bm⟩:=b1;have c6:=Paired.length hz';have c9:=Paired.length bm;have c4:=nM b6 (n.1,z);refine⟨dn,_,rfl,c1,B,a,d,l,rfl,rfl,X _ _ L,(s5.trans X) _ _ ha,by rw[bt];omega,?_⟩;have b8:nd≠B:=fF ba L (by intro z;cases z);have b4:g≠B:=fF al L (by intro z;cases z);refine⟨101*jd ps (j++[n.1])+(an'++gu es (n.1,z)).length,by rw[aD];omega,⟨⟨d++l,an'++gu es (n.1,z),j++[n.1],_,rfl,by rw[eB b8];exact X _ _ ba,er,?_,λx hx=>?_,λN h=>hW N (.new hin hvz h),by rw[aD,aP];omega,rfl⟩,eN.upd (s5.trans X) bf,by rw[aD];omega⟩,by rw[eB b4];exact X _ _ al⟩;have ap:∀{as bs:ef V} {cs ds:ef Nd},Paired (fH H) as cs->Paired (fH H) bs ds->Paired (fH H) (as++bs) (cs++ds):=by intro as bs cs ds r1 r2;induction r1 with|nil=>exact r2|cons h t ih=>exact .cons h ih
 exact ap hz' bm;rcases aA.mp hx with y|y;exact M x (by simp[y]);exact a5 _ (by unfold lj;exact bj _ (aC.mpr ⟨_,r,rfl⟩)) x y
end
inductive xP (C:dY)(vs:ef V)(H:Hp)(Q:VK)(E:XK):Prop
 |mk (b pa st:dY)(es:ef En)(ps:ef Pk)(_:vs=[.ref b,.ref pa])(_:fZ C H b st es)(_:je H pa ps)(_:ps.length<=900)(_:lV es ps)(_:(ps.map (·.1)).Nodup)(_:∀H',eN H H'->Q .non H')
inductive BL (C:dY)(vs:ef V)(H:Hp)(Q:VK)(E:XK):Prop
 |mk (a st pa:dY)(es:ef En)(ps:ef Pk)(_:vs=[.ref a,.ref st,.ref pa])(_:iZ H a es)(_:es.length<64)(_:(es.map fb).Nodup)(_:je H pa ps)(_:ps.length<=900)(_:lV es ps)(_:(ps.map (·.1)).Nodup)(_:∀b H',eN H H'->fZ C H' b st es->Q (.ref b) H')
section
variable {base:Heap}{f:dY}
def uh:eQ ["board","picks","pick","part","seen","version"] ["board","picks"] (eK sv):=iW
theorem yy (F:iE K "check_picks" "check_picks" sv f fd)(T:TB K mg C):fB P w K mg base fC 1 f fd ["board","picks"] (xP C):=by
 refine F.ok uh λaa A I s H vs Q E hr h=>?_;obtain⟨b,m,st,es,d,rfl,hB,⟨xs,y,hp⟩,hl,B,O,q⟩:=h;have N:=gH hr;refine⟨_,(et (fO (fL (pv 1)) (eR (i:=2) uh.nd) (eE (fm (gN (kX N (pv 2) (jj (pv 0) rfl))) fR eV))) (et (eO (i:=4) uh.nd ie) (eE (fO (fL (pv 1)) (kS (n:=2) rfl (gl (eR (i:=3) uh.nd) (gl (eR (i:=5) uh.nd) jD))) (et (fm (gN (nH N (pv 3) (pv 4))) fR eV) (eE (i6 N (pv 4) (pv 3) ik rfl))))))),?_⟩;obtain⟨dx,dn,dv,hb,_,g⟩:=hB.start;have lx:xs.length=d.length:=Paired.length hp;refine⟨_,rfl,m,rfl,⟨xs,ff.of y⟩,fW (K:=K) (a:=m) (xs:=xs) (λi σ r=>∃v,σ=[some (.ref b),some (.ref m),v,none,none,none]/\r=H) ⟨none,rfl,rfl⟩ (by rintro i σ r _ ⟨_,_,rfl⟩;exact ff.of y) ?_ ?_⟩;rintro i x σ r S ⟨v,rfl,rfl⟩;obtain⟨k,t,M⟩:=Paired.K8 hp S;rcases g _ k M with ⟨Y,X⟩|⟨Y,e,he,_,a,zs,X,_⟩;exact absurd (B k (ai t)) Y;exact⟨_,rfl,_,rfl,b,C,dx,_,_,rfl,hb,T.cl,T.nN,fE _ _,dn,_,rfl,X,_,rfl,fz ⟨_,rfl,rfl⟩⟩;rintro σ r ⟨v,rfl,rfl⟩;refine λsd p=>?_;have Z:=eJ p (.dK []);refine⟨_,rfl,m,rfl,⟨xs,ff.of (Z _ _ y)⟩,fW (K:=K) (a:=m) (xs:=xs) (λi σ j=>∃J G,σ=[some (.ref b),some (.ref m),v,J,some (.ref sd),G]/\eN r j/\j sd=some (.dK (kA ((d.map (·.1)).take i)))) ⟨none,none,rfl,Z,er⟩ (by rintro i σ j _ ⟨_,_,_,l,_⟩;exact ff.of (l _ _ y)) ?_ ?_⟩;rintro i x σ j S ⟨J,G,rfl,l,R⟩;obtain⟨k,t,kq,rfl,L⟩:=Paired.K8 hp S;have g1:=l _ _ L;have ad:i<d.length:=(af.mp t).1;have D:(d.map (·.1))[i]?=some k.1:=by rw[ae,t];rfl
 have U:(d.map (·.1)).take (i+1)=(d.map (·.1)).take i++[k.1]:=by rw[bc,D];rfl
 have o:k.1∉(d.map (·.1)).take i:=λz=>by have:=ki (i+1) O;rw[U,bN]at this;exact this.2.2 k.1 z k.1 (by simp) rfl
 refine⟨kq,_,rfl,gC.of g1,rfl,_,_,rfl,_,_,rfl,rfl,?_⟩;refine⟨_,rfl,_,rfl,sd,_,rfl,iP.k (k:=Sum.inr k.1) R,_,rfl,?_⟩;rw[lB,au o];refine fz ?_;refine⟨_,rfl,_,rfl,sd,_,rfl,lT.k (k:=Sum.inr k.1) R (eY (by unfold kA;rw[ab,aV,ab];lia)),?_⟩;rw[sH o,<-U];exact⟨_,_,rfl,eN.upd l p,er⟩;rintro σ j ⟨J,G,rfl,l,R⟩;exact q j l
def DO:eQ ["shelf","start","picks","board"] ["shelf","start","picks"] (eK pH):=iW
def AU (F:iE K "checked_board" "checked_board" pH f fd)(z:BO P w K mg base C fC 1 "Board" ["self","shelf","start"] (qq C))(G:Gd P w K mg base fC 1 "check_picks" ["board","picks"] (xP C)):fB P w K mg base fC 3 f fd ["shelf","start","picks"] (BL C):=by
 refine F.ok DO λT A p s H Z Q E D h=>?_;obtain⟨a,L,Y,I,R,rfl,x,U,t,hp,l,m,v,q⟩:=h;refine⟨_,(et (eO (i:=3) DO.nd (mV z (D.mono (by decide:2<=2)) rfl fN (eo (pv 0) (eo (pv 1) eA)))) (et (gF (fG G (D.mono (by decide:1<=2)) (eo (pv 3) (eo (pv 2) eA)))) (eE (eU (pv 3))))),?_⟩;refine⟨_,rfl,_,rfl,λb d B o r=>?_⟩;have J:=made (C:=C) B o r;have j:upd (upd H d (.own b)) b (.ins C d []) b=some (.ins C d []):=er;generalize upd (upd H d (.own b)) b (.ins C d [])=H1 at *;have y:eN H (del H1 [b]):=λa u e=>by rw[eM (by simpa using eG e B)];exact J _ _ e
 refine⟨b,d,a,L,I,rfl,j,iZ.same J x,U,t,λX S N=>⟨rfl,?_⟩⟩;have g:eN H X:=y.trans S;exact⟨_,rfl,_,rfl,b,Y,L,I,R,rfl,N,hp.same g,l,m,v,λO M=>⟨_,rfl,q b O (g.trans M) (N.same M)⟩⟩
def zN:eQ ["shelf","start","picks","board","wrong"] ["shelf","start","picks"] (eK Ab):=iW
end
section
variable {base:Heap}{f:dY}
def AQ {g3 g4:dY}{gd3 gd4:eg}(F:iE K "fits" "fits" Ab f fd)(mL:mg "len" = none)(G1:Gd P w K mg base fC 3 "first_need" ["board","picks","wrong"] (BK P w K mg base C))(G2:Gd P w K mg base fC 3 "checked_board" ["shelf","start","picks"] (BL C))(G3:fB P w K mg base fC 2 g3 gd3 ["need","picked"] (ze ng))(b3:iM K gd3 ["need","picked"] [])(k3:W.keepIn K (.ref g3)=true)(m3:mg "clashes_with" = some (.ref g3))(G4:fB P w K mg base fC 2 g4 gd4 ["need","picked"] (ze jA))(b4:iM K gd4 ["need","picked"] [])(k4:W.keepIn K (.ref g4)=true)(m4:mg "lacks_pick" = some (.ref g4))(G5:Gd P w K mg base fC 1 "named_parts" ["board","picks"] (BH C)):fB P w K mg base fC 4 f fd ["shelf","start","picks"] xO:=by
 refine F.ok zN λas A al s H vs Q E hr h=>?_;obtain⟨a,N,T,M,O,m,xs,rfl,an,ag,hl,B,L,ah,S,hp,a0,r,D,p,q⟩:=h;have ad:gU 1 _:=hr.mono (by decide);refine⟨_,(et (eO (i:=3) zN.nd (fG G2 hr (eo (pv 0) (eo (pv 1) (eo (pv 2) eA))))) (et (fO (EB (gL (eo (wV (v:=.ref g3) rfl m3 rfl) (eo (wV (v:=.ref g4) rfl m4 rfl) eA)))) (eR (i:=4) zN.nd) (eE (fm (gN (kW (fG G1 hr (eo (pv 3) (eo (pv 2) (eo (pv 4) eA)))))) (eE (eU ik)) eV))) (eE (eU (kT jM (fe rl rfl mL bp (eo (fG G5 ad (eo (pv 3) (eo (pv 2) eA))) eA)) (fe fA rfl mL bp (eo (pv 2) eA)) (fQ _)))))),?_⟩;have lx:xs.length=m.length:=Paired.length hp;refine⟨_,rfl,_,rfl,_,rfl,a,T,N,M,m,rfl,an,hl,B,⟨xs,S,hp⟩,p,r,D,λb H1 s1 hB=>?_⟩;refine⟨qK,λtt aa=>?_⟩;have Y:=eJ aa (.tup [.ref g3,.ref g4]);refine⟨tt,rfl,⟨_,gC.of er⟩,Dm (K:=K) (a:=tt) (xs:=[.ref g3,.ref g4]) (λi σ X=>∃o4,σ=[some (.ref a),some (.ref T),some (.ref N),some (.ref b),o4]/\eN (upd H1 tt (.tup [.ref g3,.ref g4])) X/\(1<=i->mK (ng m) (lj M O m))/\(2<=i->mK (jA m) (lj M O m))) ⟨none,rfl,eN.refl _,λz=>by omega,λz=>by omega⟩ (λi σ X _ ⟨_,_,s,_⟩=>gC.of (s _ _ er)) ?_ ?_⟩;rintro i x σ X I ⟨o4,rfl,J,hc,hg⟩;have g:=(s1.trans Y).trans J;have ap:=Y.trans J;have U:=hB.same ap
 match i,I with
 |0,I=>
  have e:V.ref g3=x:=by simpa using I
  subst e;refine⟨_,rfl,_,rfl,_,rfl,b,N,g3,T,gd3,ng,M,O,m,xs,rfl,G3,k3,b3,U,B,gv.same g L,g _ _ S,Paired.KG hp λ_ _=>fj.same g,r,D,p,λi' j t w' R hf o Z ht=>?_,λhN R o=>?_⟩;exact⟨_,rfl,gY (q false R (g.trans o) (.inl ⟨λz=>hf.not z.1,rfl⟩))⟩;exact⟨_,rfl,fz ⟨_,rfl,J.trans o,λ_=>hN,λz=>by omega⟩⟩
 |1,I=>
  have e:V.ref g4=x:=by simpa using I
  subst e;refine⟨_,rfl,_,rfl,_,rfl,b,N,g4,T,gd4,jA,M,O,m,xs,rfl,G4,k4,b4,U,B,gv.same g L,g _ _ S,Paired.KG hp λ_ _=>fj.same g,r,D,p,λi' j t w' R hf o Z ht=>?_,λhN R o=>?_⟩;exact⟨_,rfl,gY (q false R (g.trans o) (.inl ⟨λz=>hf.not z.2,rfl⟩))⟩;exact⟨_,rfl,fz ⟨_,rfl,J.trans o,λ_=>hc (am _),λ_=>hN⟩⟩
 |i+2,I=>simp at I
 rintro σ X ⟨o4,rfl,J,hc,hg⟩;have g:=(s1.trans Y).trans J;have G:lU M O m:=⟨hc (by show 1<=2;decide),hg (by show 2<=2;decide)⟩;refine⟨_,rfl,_,rfl,b,N,T,M,O,m,rfl,hB.same (Y.trans J),B,ag,gv.same g L,ah,je.same g ⟨xs,S,hp⟩,r,D,p,G.2,λd l H3 o Z hd=>?_⟩;refine⟨d,kA l,rfl,hd,_,rfl,N,xs,rfl,.inl (ff.of ((g.trans o) _ _ S)),rfl,?_⟩;have e:decide (V.int ((kA l).length:Int)=V.int (xs.length:Int))=decide (l.length=m.length):=by
  have h1:(kA l).length=l.length:=by unfold kA;rw[ab]
  rw[h1,lx];by_cases z:l.length=m.length;rw[aq z,aq (by rw[z])];rw[au z,au (λy=>z (by injection y with y;exact Int.ofNat.inj y))]
 rw[e];exact q _ H3 (g.trans o) (.inr ⟨G,l,Z,rfl⟩)
end
def tW (H:Hp)(d:dY)(ps:ef Pk):Prop:=∃kvs:ef (gi×V),H d=some (.dN kvs)/\∀k:Pk,(fc kvs (some (iY k))).isSome=decide (k∈ps)
def tW.same (e:eN H H'){d:dY}(h:tW H d ps):tW H' d ps:=(by obtain⟨kvs,h1,h2⟩:=h;exact⟨kvs,e _ _ h1,h2⟩)
def tW.get {d:dY}(h:tW H d ps){k:Pk}(e:fj H v k)(b:k∈ps):∃u:V,hU H d v (some u):=by obtain⟨a,j,i⟩:=h;obtain⟨q,rfl,g⟩:=e;have:=i k;rw[aq b]at this;obtain⟨u,l⟩:=dU.mp this;exact⟨u,a,some (iY k),.inl j,⟨q,rfl,g⟩,l.symm⟩
def DV (h:ir es sn ls i l=true):zp es l.1 l.2.who=true/\∃n,ij (gr es sn l.2.who) l.2.place=some n/\zA es ls i l.1 n l.2.told=true:=by unfold ir at h;rw[aF]at h;refine⟨h.1,?_⟩;cases hn:ij (gr es sn l.2.who) l.2.place with|none=>rw[hn]at h;exact absurd h.2 aT|some n=>rw[hn]at h;exact⟨n,rfl,h.2⟩
inductive xI (vs:ef V)(H:Hp)(Q:VK)(E:XK):Prop
 |mk (a:dY)(ps:ef Pk)(_:vs=[.ref a])(_:je H a ps)(_:ps.length<=30000)(_:∀d H',eN H H'->tW H' d ps->Q (.ref d) H')
inductive uX (vs:ef V)(H:Hp)(Q:VK)(E:XK):Prop
 |mk (d a:dY)(ms ps:ef Pk)(_:vs=[.ref d,.ref a])(_:tW H d ms)(_:je H a ps)(_:∀p∈ps,p∈ms)(_:Q (.bl true) H)
inductive BF (C:dY)(vs:ef V)(H:Hp)(Q:VK)(E:XK):Prop
 |mk (b d st:dY)(rv:V)(es:ef En)(sn:ef Nd)(ps:ef Pk)(r:Rs)(n:Nd)(_:vs=[.ref b,.ref d,rv])(_:fZ C H b st es)(_:(es.map fb).Nodup)(_:gv H st sn)(_:tW H d ps)(_:mJ H rv r)(_:zp es ps r.who=true)(_:ij (gr es sn r.who) r.place=some n)(_:∀v,fH H v n->Q v H)
inductive uW (C:dY)(vs:ef V)(H:Hp)(Q:VK)(E:XK):Prop
 |mk (b d st ba la:dY)(nv:V)(es:ef En)(ps:ef Pk)(n:Nd)(bs:ef Int)(ls:ef Ln)(place:Int)(_:vs=[.ref b,.ref d,nv,.ref ba,.ref la,.int place])(_:fZ C H b st es)(_:es.length<64)(_:tW H d ps)(_:fH H nv n)(_:fU n.1)(_:H ba=some (.lst (bs.map V.int)))(_:jB H la ls)(_:∀l∈ls,zh l)(_:j4 es ls place ps n bs=true)(_:∀H',eN H H'->Q (.bl true) H')
inductive rB (C:dY)(vs:ef V)(H:Hp)(Q:VK)(E:XK):Prop
 |mk (b st la:dY)(es:ef En)(sn:ef Nd)(ls:ef Ln)(place:Nat)(l:Ln)(_:vs=[.ref b,.ref la,.int place])(_:fZ C H b st es)(_:es.length<64)(_:(es.map fb).Nodup)(_:∀e∈es,ll e)(_:gv H st sn)(_:∀n∈sn,fU n.1)(_:jB H la ls)(_:∀l∈ls,zh l)(_:ls[place]?=some l)(_:ir es sn ls place l=true)(_:∀H',eN H H'->Q (.bl true) H')
inductive xQ (vs:ef V)(H:Hp)(Q:VK)(E:XK):Prop
 |mk (a st la:dY)(es:ef En)(sn:ef Nd)(ls:ef Ln)(_:vs=[.ref a,.ref st,.ref la])(_:iZ H a es)(_:es.length<64)(_:(es.map fb).Nodup)(_:∀e∈es,ll e)(_:gv H st sn)(_:∀n∈sn,fU n.1)(_:jB H la ls)(_:∀l∈ls,zh l)(_:ls.length<sizeLine)(_:∀(i:Nat) (l:Ln),ls[i]?=some l->ir es sn ls (i:Nat) l=true)(_:∀H',eN H H'->Q .non H')
section
variable {base:Heap}{f:dY}
def Eo:eQ ["picks","among","pick"] ["picks"] (eK r8):=iW
theorem yk (F:iE K "marked" "marked" r8 f fd):fB P w K mg base fC 1 f fd ["picks"] xI:=by
 refine F.ok Eo λL A v s H T Q E M h=>?_;obtain⟨a,t,rfl,⟨xs,D,hp⟩,U,q⟩:=h;have N:=gH M;refine⟨_,(et (eO (i:=1) Eo.nd lK) (et (fO (fL (pv 0)) (eR (i:=2) Eo.nd) (eE (kB N (pv 1) (pv 2) ik rfl))) (eE (eU (pv 1))))),?_⟩;have J:=Paired.length hp;refine λd o=>?_;refine⟨_,rfl,a,rfl,⟨xs,ff.of ((eJ o _) _ _ D)⟩,fW (K:=K) (a:=a) (xs:=xs) (λi σ g=>∃y b,σ=[some (.ref a),some (.ref d),y]/\eN H g/\g d=some (.dN b)/\b.length<=i/\∀k:Pk,(fc b (some (iY k))).isSome=decide (k∈t.take i)) ⟨none,[],rfl,eJ o _,er,am _,λk=>by simp[fc]⟩ (by rintro i σ g _ ⟨_,_,_,s,_⟩;exact ff.of (s _ _ D)) ?_ ?_⟩;rintro i x σ g C ⟨y,b,rfl,l,r,I,m⟩;obtain⟨k,p,R,rfl,B⟩:=Paired.K8 hp C;have O:i<xs.length:=(af.mp C).1;have G:t.take (i+1)=t.take i++[k]:=by rw[bc,p];rfl
 have S:=ge b (some (iY k)) (V.bl true);refine⟨_,rfl,_,rfl,d,_,rfl,⟨b,some (iY k),r,⟨R,rfl,l _ _ B⟩,by rw[bt];lia,rfl⟩,_,_,rfl,eN.upd l o,er,by lia,λj=>?_⟩;rw[gq,G];by_cases e:j=k;subst e;simp;rw[av (λz=>e (mY (Option.some.inj z))),m j];simp[e];rintro σ g ⟨y,b,rfl,l,r,I,m⟩;rw[J,aK]at m;exact⟨_,rfl,q d g l ⟨b,r,m⟩⟩
def GO:eQ ["among","picks","pick"] ["among","picks"] (eK sq):=iW
def vL (F:iE K "has_all" "has_all" sq f fd):fB P w K mg base fC 1 f fd ["among","picks"] uX:=by refine F.ok GO λr A j s H D Q E t h=>?_;obtain⟨d,a,B,C,rfl,z,⟨xs,o,hp⟩,m,q⟩:=h;have v:=gH t;refine⟨_,(et (fO (fL (pv 1)) (eR (i:=2) GO.nd) (eE (fm (gN (kX v (pv 2) (pv 0))) fR eV))) (eE (eU ik))),?_⟩;refine⟨_,rfl,a,rfl,⟨xs,ff.of o⟩,fW (K:=K) (a:=a) (xs:=xs) (λi σ b=>∃l,σ=[some (.ref d),some (.ref a),l]/\b=H) ⟨none,rfl,rfl⟩ (by rintro i σ b _ ⟨_,_,rfl⟩;exact ff.of o) ?_ ?_⟩;rintro i x σ b y ⟨l,rfl,rfl⟩;obtain⟨k,e,p⟩:=Paired.K8 hp y;obtain⟨u,g⟩:=z.get p (m k (ai e));exact⟨_,rfl,_,rfl,d,_,rfl,g,_,rfl,fz ⟨_,rfl,rfl⟩⟩;rintro σ b ⟨l,rfl,rfl⟩;exact q
def Eh:eQ ["board","among","reason","who","place"] ["board","among","reason"] (eK zR):=iW
def AF (F:iE K "need_told" "need_told" zR f fd)(T:TB K mg C)(mL:mg "len" = none):fB P w K mg base fC 1 f fd ["board","among","reason"] (BF C):=by
 refine F.ok Eh λaa A R s H vs Q E hr h=>?_;obtain⟨b,d,st,rv,N,sn,Z,r,n,rfl,hB,X,O,hm,⟨Y,D,tv,rfl,B,o,ht⟩,j,I,q⟩:=h;have L:=gH hr;obtain⟨y,t,dv,x,h0,p⟩:=hB.start;refine⟨_,(et (eO (i:=3) Eh.nd (eP eW (pv 2) eF)) (et (eO (i:=4) Eh.nd (eP eW (pv 2) eF)) (et (fm (PW.pt (lH (gN (kW (pv 3))) (jX (gN (kX L (pv 3) (pv 1)))))) fR eV) (et (fm (gN (kX L (pv 3) (jj (pv 0) rfl))) fR eV) (et (fm (PW.pt (jl (fD qY (pv 4) eF (fQ _)) (iS (fD w9 (pv 4) (fe fA rfl mL bp (eo (fg L (jj (pv 0) rfl) (pv 3)) eA)) (fQ _))))) fR eV) (eE (eU (eP fw (fg L (jj (pv 0) rfl) (pv 3)) (pv 4))))))))),?_⟩;refine⟨_,rfl,Y,_,_,_,rfl,rfl,gC.of B,rfl,_,rfl,Y,_,_,_,rfl,rfl,gC.of B,rfl,?_⟩;obtain⟨m,l,hg,hna,J⟩:∃m l,hU H t D (some (.ref m))/\H m=some (.lst l)/\Paired (fH H) l (gr N sn r.who):=by cases ew:r.who with|none=>rw[ew]at o;cases (show D=.non from o);obtain⟨l,J,S⟩:=O;exact⟨st,l,h0,J,S⟩|some k=>rw[ew]at o j;have M:fj H D k:=o;have a:(decide (k∈Z)&&decide (k∈N.map fb))=true:=j;rw[aF]at a;rcases p _ k M with ⟨z1,_⟩|⟨_,en,he,U,m,l,z2,z3,z4⟩;exact absurd (aI a.2) z1;refine⟨m,l,z2,z3,?_⟩;show Paired (fH H) l (gu N k);rw[<-U,jb X he];exact z4
 have lz:=Paired.length J;have h1:¬r.place<0:=λz=>by rw[kE.mpr (.inl z)]at I;cases I
 have h9:¬(l.length:Int)<=r.place:=λz=>by rw[kE.mpr (.inr (by rw[<-lz];exact z))]at I;cases I
 obtain⟨v,hv,G⟩:=iu J I;cases ew:r.who with|none=>rw[ew]at o;cases (show D=.non from o);refine⟨_,rfl,_,rfl,fz (fz ?_)⟩;refine⟨_,rfl,_,rfl,b,C,y,_,_,rfl,x,T.cl,T.nN,fE _ _,t,_,rfl,hg,_,rfl,fz ?_⟩;refine⟨_,rfl,_,_,rfl,rfl,_,rfl,jg (λe=>(h1 (aI e)).elim) (λ_=>?_)⟩;refine⟨_,rfl,_,rfl,b,C,y,_,_,rfl,x,T.cl,T.nN,fE _ _,_,rfl,t,_,rfl,hg,m,_,rfl,.inl (ff.of hna),_,_,rfl,rfl,_,rfl,jg (λe=>(h9 (aI e)).elim) (λ_=>?_)⟩;exact⟨_,rfl,b,C,y,_,_,rfl,x,T.cl,T.nN,fE _ _,_,rfl,t,_,rfl,hg,_,rfl,m,_,_,_,rfl,rfl,ff.of hna,i8 hv,q v G⟩|some k=>rw[ew]at o j;have M:fj H D k:=o;have a:(decide (k∈Z)&&decide (k∈N.map fb))=true:=j;rw[aF]at a;obtain⟨u,g⟩:=hm.get M (aI a.1);obtain⟨kq,rfl,ad⟩:=id M;refine⟨_,rfl,_,rfl,gY ⟨_,rfl,_,rfl,d,_,rfl,g,_,rfl,fz ?_⟩⟩;refine⟨_,rfl,_,rfl,b,C,y,_,_,rfl,x,T.cl,T.nN,fE _ _,t,_,rfl,hg,_,rfl,fz ?_⟩;refine⟨_,rfl,_,_,rfl,rfl,_,rfl,jg (λe=>(h1 (aI e)).elim) (λ_=>?_)⟩;refine⟨_,rfl,_,rfl,b,C,y,_,_,rfl,x,T.cl,T.nN,fE _ _,_,rfl,t,_,rfl,hg,m,_,rfl,.inl (ff.of hna),_,_,rfl,rfl,_,rfl,jg (λe=>(h9 (aI e)).elim) (λ_=>?_)⟩;exact⟨_,rfl,b,C,y,_,_,rfl,x,T.cl,T.nN,fE _ _,_,rfl,t,_,rfl,hg,_,rfl,m,_,_,_,rfl,rfl,ff.of hna,i8 hv,q v G⟩
end
def qU {k:Pk}(h:fU k.1):SeqAt.shaped (mT k)=true:=kZ (Al h) (by decide)
noncomputable abbrev Jj:ef Str:=["board","among","need","below","lines","place","versions","version","at","others"]
def Hf:(["pick","version","need"]:ef Str).Nodup:=by decide +kernel
def JA {x:Str}{b v:Int}(h:qI ls i ps x b v=true):0<=b/\b<i/\∃l,ij ls b=some l/\∀p∈l.1,p∈ps\/p=(x,v):=by unfold qI at h;rw[aF,aF,aw,aw]at h;refine⟨h.1,h.2.1,?_⟩;have a:=h.2.2;cases hl:ij ls b with|none=>rw[hl]at a;cases a|some l=>rw[hl]at a;refine⟨l,rfl,λp hp=>?_⟩;have:=bZ.mp a p hp;rw[cw,aw,aw]at this;exact this
section
variable {base:Heap}{f:dY}
def zL:eQ Jj ["board","among","need","below","lines","place"] (eK sg):=iW
def vK (F:iE K "leaves_no_version" "leaves_no_version" sg f fd)(mL:mg "len" = none)(mZ:mg "zip" = none)(MM:Mt P w K mg base C fC 2 "meeting" ["self","need"] (kJ C))(G:Gd P w K mg base fC 1 "has_all" ["among","picks"] uX):fB P w K mg base fC 3 f fd ["board","among","need","below","lines","place"] (uW C):=by
 refine F.ok zL λbe A a7 s H vs Q E hr h=>?_;obtain⟨b,d,st,ba,la,nv,es,ps,n,bs,ls,place,rfl,hB,an,hm,⟨nq,rfl,aa⟩,bd,M,⟨ys,hy,a6⟩,a3,L,q⟩:=h;have a2:gU 1 _:=hr.mono (by decide);refine⟨_,(et (eO (i:=6) zL.nd (iq MM hr fN (pv 0) (eo (pv 2) eA))) (et (fm (fD ol (fe fA rfl mL bp (eo (pv 3) eA)) (fe fA rfl mL bp (eo (pv 6) eA)) (fQ _)) fR eV) (et (fO (Am rfl mZ (pv 6) (pv 3)) (kS (n:=2) rfl (gl (eR (i:=7) zL.nd) (gl (eR (i:=8) zL.nd) jD))) (et (fm (PW.pt (jl (fD qY (pv 8) eF (fQ _)) (iS (fD w9 (pv 8) (pv 5) (fQ _))))) fR eV) (et (Cu (i:=9) (N':=["pick","version","need"]) (n:=1) (js:=[7,2]) rfl (iR.two (c:=s.heap.objs.size+2) (c':=s.heap.objs.size+1) (y:="version") (y':="need")) (iC (by decide)) zL.nd rfl rfl (fL (eP eW (eP fw (pv 4) (pv 8)) eF)) (λC O o fp=>eR (i:=0) Hf) (λC O o fp=>mP (fD (vD hr.units) (pv 0) (gL (eo (eP (eW:HJ _ (x5 K)) (pv 2) eF) (eo (pv 1) eA))) (fQ _))) (λC O o fp=>pv 0)) (eE (fm (gX (gT (fG G a2 (eo (pv 1) (eo (pv 9) eA))))) fR eV))))) (eE (eU ik))))),?_⟩;have g:=L;unfold j4 at g;rw[aF,aw,bZ]at g;obtain⟨j,B⟩:=g;obtain⟨a8,dn,dv,bl,vk,b1,_⟩:=id hB.ex;refine⟨_,rfl,b,a8,_,rfl,b1,(by kernel_rfl),_,rfl,b,st,es,.ref nq,n,rfl,hB,⟨nq,rfl,aa⟩,an,λva ms H1 U _ J as ah=>?_⟩;have a5:=mW as ah;rw[<-a5]at j B;refine⟨_,rfl,ba,_,rfl,.inl (ff.of (U _ _ M)),_,rfl,va,_,rfl,.inl (ff.of J),rfl,_,rfl,?_⟩;rw[ab,ab,j,aq rfl];refine fz ?_;refine⟨_,rfl,_,rfl,va,ba,_,_,rfl,rfl,J,U _ _ M,Dl (K:=K) (a:=va) (b:=ba) (xs:=ms.map V.int) (ys:=bs.map V.int) (λi σ o=>∃o7 o8 o9,σ=[some (.ref b),some (.ref d),some (.ref nq),some (.ref ba),some (.ref la),some (.int place),some (.ref va),o7,o8,o9]/\eN H1 o) ⟨none,none,none,rfl,eN.refl _⟩ (by rw[ab,ab,j]) (by rintro i σ o _ ⟨_,_,_,_,s⟩;exact⟨ff.of (s _ _ J),ff.of (s _ _ (U _ _ M))⟩) ?_ ?_⟩;rintro i x y σ o t ad S ⟨o7,o8,o9,rfl,O⟩ al;rw[ae]at ad S;obtain⟨v,hv,rfl⟩:=ax.mp ad;obtain⟨z,hz,rfl⟩:=ax.mp S;have s3:=eJ al (.tup [.int v,.int z]);have ag:=O.trans s3;have r:=U.trans ag;obtain⟨h0,a4,l,hl,X⟩:=JA (B (z,v) (ai (i:=i) (de.mpr ⟨hz,hv⟩)));refine⟨t,_,rfl,gC.of er,rfl,_,_,rfl,_,_,rfl,rfl,?_⟩;refine⟨_,rfl,_,_,rfl,rfl,_,rfl,jg (λe=>absurd (aI e) (Int.not_lt.mpr h0)) (λ_=>?_)⟩;refine⟨_,rfl,_,rfl,_,_,rfl,rfl,_,rfl,jg (λe=>absurd (aI e) (Int.not_le.mpr a4)) (λ_=>?_)⟩;obtain⟨lv,a9,ap⟩:=iu a6 hl;obtain⟨lq,pa,rv,rfl,h1,⟨zs,h2,h3⟩,_⟩:=nr.same r ap;have I:=a3 l (jN hl);generalize bf:upd o t (.tup [.int v,.int z])=H3 at *;refine⟨_,rfl,_,rfl,la,_,_,_,rfl,rfl,ff.of (r _ _ hy),i8 a9,lq,_,_,_,rfl,rfl,gC.of h1,rfl,pa,rfl,⟨zs,ff.of h2⟩,?_⟩;have lz:=Paired.length h3;refine iy (xs:=zs) (λD i ys R=>Paired (fj H3) ys ((l.1.take i).filter λp=>!decide (p=(n.1,v)))/\R D=some (.lst ys)/\eN H3 R/\H3 D=none) (λD hD=>⟨by simpa using Paired.nil,er,eJ hD _,hD⟩)
  (by
   rintro D i ys R hi ⟨N,Z,m,T⟩;refine⟨ff.of (m _ _ h2),Z,?_⟩;rw[Paired.length N]
   exact bK (bz (bD _ _) (bz (List.length_take_le' _ _) I.len)) (by rw[bt];decide)) ?_ ?_
 rintro D i x ys R hi ⟨N,Z,m,T⟩;obtain⟨k,Y,hk⟩:=Paired.K8 h3 hi;have ht:l.1.take (i+1)=l.1.take i++[k]:=by rw[bc,Y];rfl
 obtain⟨kq,rfl,a0⟩:=id hk;unfold jw;refine⟨_,rfl,_,rfl,nq,_,_,_,rfl,rfl,gC.of (m _ _ (r _ _ aa)),rfl,_,rfl,qK,λt2 a1=>?_⟩;have s5:=eJ a1 (.tup [.str n.1,.int v]);refine⟨mT k,mT (n.1,v),fj.rep ⟨kq,rfl,s5 _ _ (m _ _ a0)⟩,fj.rep (k:=(n.1,v)) ⟨t2,rfl,er⟩,qU (I.pk k (ai Y)),qU (k:=(n.1,v)) bd,_,rfl,?_⟩;rw[v8];have g5:=s5 _ _ Z;refine jg (λc=>?_) (λc=>?_);refine⟨_,rfl,g5,?_,er,eN.upd (m.trans s5) T,T⟩;rw[ht,bR,aJ,ay c];exact Paired.snoc N hk;refine⟨?_,g5,m.trans s5,T⟩;rw[ht,bR,aJ,av c,List.filter_nil,bY];exact N;rintro D ys R ⟨N,Z,m,T⟩;rw[lz,aK]at N;refine⟨_,rfl,_,rfl,d,D,ps,_,rfl,hm.same (r.trans m),⟨ys,Z,Paired.KG N λ_ _=>fj.same m⟩,λp hp=>?_,_,rfl,fz ⟨_,_,_,rfl,ag.trans m⟩⟩;obtain⟨p1,p2⟩:=aZ.mp hp;exact(X p p1).resolve_right λe=>by rw[aq e]at p2;cases p2
 rintro σ o ⟨o7,o8,o9,rfl,O⟩;exact q o (U.trans O)
def Cq:eQ ["board","lines","place","reason","among","need"] ["board","lines","place"] (eK pF):=iW
def uo (F:iE K "follows" "follows" pF f fd)(G1:Gd P w K mg base fC 1 "marked" ["picks"] xI)(G2:Gd P w K mg base fC 1 "need_told" ["board","among","reason"] (BF C))(G3:Gd P w K mg base fC 1 "clashes" ["need","pick"] kK)(G4:Gd P w K mg base fC 3 "leaves_no_version" ["board","among","need","below","lines","place"] (uW C)):fB P w K mg base fC 4 f fd ["board","lines","place"] (rB C):=by
 refine F.ok Cq λah A X s H vs Q E Y h=>?_;obtain⟨b,st,Z,es,sn,ls,place,l,rfl,hB,M,aa,O,T,R,G,D,L,r,q⟩:=h;obtain⟨ys,hy,S⟩:=id G;have hu:=gH Y;have t:gU 1 _:=Y.mono (by decide);refine⟨_,(et (eO (i:=3) Cq.nd (eP eW (eP fw (pv 1) (pv 2)) eF)) (et (eO (i:=4) Cq.nd (fG G1 t (eo (eP eW (eP fw (pv 1) (pv 2)) eF) eA))) (et (eO (i:=5) Cq.nd (fG G2 t (eo (pv 0) (eo (pv 4) (eo (pv 3) eA))))) (et (fm (gN (nG (pv 5))) fR eV) (et (fm (fD jM (eP eW (pv 3) eF) iI (fQ _)) (eE (eU (kU (sK (wW hu (eP eW (pv 3) eF) (pv 4))) (lJ (fG G3 t (eo (pv 5) (eo (eP eW (pv 3) eF) eA))))))) eV) (eE (eU (fG G4 Y (eo (pv 0) (eo (pv 4) (eo (pv 5) (eo (eP eW (pv 3) eF) (eo (pv 1) (eo (pv 2) eA)))))))))))))),?_⟩;have B:ij ls (place:Int)=some l:=by rw[ii];exact L
 obtain⟨lv,ad,N⟩:=iu S B;have p:=i8 ad;have I:=D l (jN B);obtain⟨z,n,hn,o⟩:=DV r;have ag:=oo O R _ n (jN hn);obtain⟨lq,pa,rv,rfl,h1,h2,J⟩:=id N;obtain⟨y,wv,tv,rfl,j,hw,m⟩:=id J;refine⟨_,rfl,_,rfl,Z,_,_,_,rfl,rfl,ff.of hy,p,lq,_,_,_,rfl,rfl,gC.of h1,rfl,?_⟩;refine⟨_,rfl,_,rfl,Z,_,_,_,rfl,rfl,ff.of hy,p,lq,_,_,_,rfl,rfl,gC.of h1,rfl,pa,l.1,rfl,h2,bz I.len (by decide),λd H1 a hm=>?_⟩;refine⟨_,rfl,_,rfl,_,rfl,b,d,st,.ref y,es,sn,l.1,l.2,n,rfl,hB.same a,aa,gv.same a T,hm,mJ.same a J,z,hn,λv x=>?_⟩;obtain⟨nq,rfl,al⟩:=id x;refine⟨_,rfl,_,rfl,fz ?_⟩;refine⟨_,rfl,y,_,_,_,rfl,rfl,gC.of (a _ _ j),rfl,rfl,_,rfl,?_⟩;cases ht:l.2.told with|one k=>rw[ht]at m o;have hk:fj H1 tv k:=fj.same a m;have e:(decide (k∈l.1)&&qf n k)=true:=o;rw[aF]at e;obtain⟨u,g⟩:=hm.get hk (aI e.1);refine jg (λ_=>?_) (λc=>absurd (show decide (V.str "outside" = V.str "outside")=true by decide +kernel) c);refine⟨_,rfl,y,_,_,_,rfl,rfl,gC.of (a _ _ j),rfl,_,rfl,d,_,rfl,g,_,rfl,?_⟩;refine gY ⟨_,rfl,_,rfl,y,_,_,_,rfl,rfl,gC.of (a _ _ j),rfl,.ref nq,tv,n,k,rfl,x,hk,?_⟩;have:=q H1 a;rw[<-e.2]at this;exact this|many bs=>rw[ht]at m o;obtain⟨ba,rfl,U⟩:=m;refine jg (λc=>absurd c (show ¬decide (V.str "open" = V.str "outside")=true by decide +kernel)) (λ_=>?_);exact⟨_,rfl,_,rfl,_,rfl,_,rfl,y,_,_,_,rfl,rfl,gC.of (a _ _ j),rfl,_,rfl,_,rfl,b,d,st,ba,Z,.ref nq,es,l.1,n,bs,ls,place,rfl,hB.same a,M,hm,x,ag,a _ _ U,G.same a,D,o,λH2 s2=>q H2 (a.trans s2)⟩
def zP:eQ ["shelf","start","lines","board","place"] ["shelf","start","lines"] (eK Ez):=iW
theorem C5 (F:iE K "first_bad" "first_bad" Ez f fd)(mL:mg "len" = none)(mR:mg "range" = none)(Z:BO P w K mg base C fC 1 "Board" ["self","shelf","start"] (qq C))(G:Gd P w K mg base fC 4 "follows" ["board","lines","place"] (rB C)):fB P w K mg base fC 5 f fd ["shelf","start","lines"] xQ:=by
 refine F.ok zP λad A L s H vs Q E hr h=>?_;obtain⟨a,R,N,es,sn,m,rfl,T,hl,p,S,D,U,v,X,z,g,q⟩:=h;refine⟨_,(et (eO (i:=3) zP.nd (mV Z (hr.mono (by decide:2<=4)) rfl fN (eo (pv 0) (eo (pv 1) eA)))) (et (fO (jH rfl mR (eo (fe fA rfl mL bp (eo (pv 2) eA)) eA)) (eR (i:=4) zP.nd) (eE (fm (gX (gT (fG G hr (eo (pv 3) (eo (pv 2) (eo (pv 4) eA)))))) fR eV))) (eE (eU iJ)))),?_⟩;refine⟨_,rfl,_,rfl,λb l hb I M=>?_⟩;have s1:=made (C:=C) hb I M;have y:upd (upd H l (.own b)) b (.ins C l []) b=some (.ins C l []):=er;generalize upd (upd H l (.own b)) b (.ins C l [])=H1 at *;have Y:eN H (del H1 [b]):=λa u e=>by rw[eM (by simpa using eG e hb)];exact s1 _ _ e
 refine⟨b,l,a,R,es,rfl,y,iZ.same s1 T,hl,p,λH2 s2 hB=>⟨rfl,?_⟩⟩;have d:eN H H2:=Y.trans s2;obtain⟨ys,hy,B⟩:=id v;have ly:=Paired.length B;have aa:m.length<2^24:=bb z (by show sizeLine<=2^24;decide);refine⟨_,rfl,N,_,rfl,.inl (ff.of (d _ _ hy)),_,rfl,by lia,by lia,?_⟩;refine kH (λj σ x=>∃O,σ=[some (.ref a),some (.ref R),some (.ref N),some (.ref b),O]/\eN H2 x) ⟨none,rfl,eN.refl _⟩ ?_ ?_;rintro j σ x hj ⟨O,rfl,r⟩;have J:j<m.length:=by rw[bA,ly]at hj;exact hj
 have t:m[j]?=some m[j]:=ak J;have ej:(0+(j:Int))=((j:Nat):Int):=by lia
 have o:=d.trans r;rw[ej];exact⟨_,rfl,_,rfl,_,rfl,b,R,N,es,sn,m,j,m[j],rfl,hB.same r,hl,p,S,gv.same o D,U,jB.same o v,X,t,g j _ t,λH4 s4=>⟨_,rfl,fz ⟨_,rfl,r.trans s4⟩⟩⟩;rintro σ x ⟨O,rfl,r⟩;exact q x (d.trans r)
end
def Ff {α:Type}{p:ef α->Prop}(h:∀a b c d e f,p [a,b,c,d,e,f]):∀us:ef α,us.length=6->p us
 |[a,b,c,d,e,f],_=>h a b c d e f
def EZ (K:W.Frag):W.kitOne K (.type "bool") (.type "bool")=some true:=by kernel_rfl
section
variable {H H':Hp}(e:mM H H')
include e
theorem gW.k:∀{o:el Pk},gW H v o->gW H' v o
 |none,h=>h
 |some _,h=>fj.k e h
theorem kr.k:∀{t:wE},kr H v t->kr H' v t
 |.one _,h=>fj.k e h
 |.many _,⟨a,h1,h2⟩=>⟨a,h1,e.l _ _ h2⟩
theorem nr.k (h:nr H v l):nr H' v l:=by obtain⟨q,a,s,o,m,p,r,b,d,j,g,w,i⟩:=h;exact⟨q,a,s,o,e.t _ _ m,p.k e,r,b,d,j,e.t _ _ g,w.k e,i.k e⟩
theorem jB.k {a:dY}(h:jB H a ls):jB H' a ls:=(by obtain⟨xs,h1,h2⟩:=h;exact⟨xs,e.l _ _ h1,Paired.KG h2 λ_ _=>nr.k e⟩)
end
def yC {α:Type}{xs ys:ef α}{x:α}(h:ij xs i=some x):ij (xs++ys) i=some x:=by
 have a:¬i<0:=λz=>by rw[kE.mpr (.inl z)]at h;cases h
 obtain⟨j,rfl⟩:=Int.eq_ofNat_of_zero_le (Int.not_lt.mp a);rw[ii]at h ⊢;rw[aQ (af.mp h).1];exact h
def yL (h:ir es sn ls i l=true):ir es (sn++[m]) ls i l=true:=by
 obtain⟨b,n,a,d⟩:=DV h;unfold ir;have g:ij (gr es (sn++[m]) l.2.who) l.2.place=some n:=by cases e:l.2.who with|none=>rw[e]at a;exact yC a|some k=>rw[e]at a;exact a
 rw[b,g];exact d
def Br (h:og es (sn++[m]) ps):og es sn ps:=⟨h.one,h.key,λw hw n hn=>h.met w hw n (by
 cases w with|none=>exact aO _ hn|some k=>exact hn)⟩
def Fe (p:∀k∈ps,k∈es.map fb)(l:(ps.map (·.1)).Nodup)(h:lU es sn ps):og es sn ps:=by
 refine⟨λj q k o e=>?_,p,λw m n d=>?_⟩;have i:=pY l q;have r:=pY l o;rw[e,r]at i;exact Prod.ext e (Option.some.inj i).symm;have g:gr es sn w∈lj es sn ps:=by cases w with|none=>exact bC ..|some k=>exact bj _ (aC.mpr ⟨k,m k rfl,rfl⟩)
 have a:=h.1 _ g n d;have b:=h.2 _ g n d;unfold ng at a;unfold jA at b;cases e:iX ps n.1 with|none=>rw[e]at b;cases b|some v=>rw[e]at a;exact⟨(n.1,v),rJ e,rfl,by simpa using a⟩
def uG {b:Bool}(h:FU es sn ps b)(g:lU es sn ps)(e:∀fin,Wk es ps sn [] fin->fin.Nodup->(∀x∈fin,x∈ps.map (·.1))->fin.length=ps.length):b=true:=by rcases h with ⟨z,_⟩|⟨fin,a,c,d,_,_,rfl⟩;exact absurd g z;exact aq (e fin a c d)
noncomputable abbrev Jk:ef Str:=["_law_script","_law_shelf","_law_start","_law_need","_law_first","_law_second","_law_found","_law_told"]
def zk:eQ Jk ["_law_script"] (eK l7):=iW
inductive FZ (c:eD)(H:Hp)(t ln:dY)(L:iA)(v:V)(o:el Nat):Prop
 |mk (_:H t=some (.tup [v,.ref ln]))(_:jB H ln (c.lns L))(_:ib c L)(_:(o=none/\v=.non/\∃e,L.getLast?=some e/\e.1=0)\/∃pk pa,o=some pk/\v=.ref pa/\je H pa (c.listed pk)/\og c.es c.sn (c.listed pk)/\c.Ly pk/\∀k,c.has pk k->c.Named pk k)
def FZ.k {c:eD}(e:mM H H'){t ln:dY}{L:iA}{o:el Nat}(h:FZ c H t ln L v o):FZ c H' t ln L v o:=by obtain⟨l,g,p,i⟩:=h;refine⟨e.t _ _ l,g.k e,p,i.imp id ?_⟩;rintro⟨j,m,d,b,q,a⟩;exact⟨j,m,d,b,q.k e,a⟩
def zB {c:eD}{t:dY}(h:(∃L,D0 c H t L)\/∃L pk,DZ c H t L pk):∃ln L v o,FZ c H t ln L v o:=by rcases h with ⟨L,⟨ln,d,a⟩,e,b⟩|⟨L,pk,⟨j,ln,d,l,a⟩,e,b,g,_,i,_⟩;exact⟨ln,L,_,none,d,a,e,.inl ⟨rfl,rfl,b⟩⟩;exact⟨ln,L,_,some pk,d,a,e,.inr ⟨pk,j,rfl,rfl,l,b,g,i⟩⟩
structure Iy (H:Hp)(c d:eD)(m:Nd)(sh st nd tf ts lf ls:dY)(L M:iA)(vf vs:V)(o p:el Nat):Prop where
 sh:iZ H sh c.es
 st:gv H st c.sn
 nv:fH H (.ref nd) m
 es:d.es=c.es
 sn:d.sn=c.sn++[m]
 kn:(c.es.map fb).Nodup
 ok:∀e∈c.es,ll e
 lw:∀e∈c.es,Lw e
 e64:c.es.length<64
 sp:∀n∈c.sn++[m],fU n.1
 s90:c.sn.length<=90
 f:FZ c H tf lf L vf o
 s:FZ d H ts ls M vs p
def Iy.k (e:mM H H'){c d:eD}{sh st nd tf ts lf ls:dY}{L M:iA}{vf vs:V}{o p:el Nat}(h:Iy H c d m sh st nd tf ts lf ls L M vf vs o p):Iy H' c d m sh st nd tf ts lf ls L M vf vs o p:=
 ⟨h.sh.k e,h.st.k e,h.nv.k e,h.es,h.sn,h.kn,h.ok,h.lw,h.e64,h.sp,h.s90,h.f.k e,h.s.k e⟩
def y0 {st nd:dY}{zs:ef V}(hz:Paired (fH H) zs sn)(b:fH H (.ref nd) m){l p:dY}(a:H l=none)(hp:upd H l (.lst [.ref nd]) p=none):eN H (upd (upd H l (.lst [.ref nd])) p (.lst (zs++[.ref nd])))/\gv (upd (upd H l (.lst [.ref nd])) p (.lst (zs++[.ref nd]))) p (sn++[m]):=by have s:=(eJ a (.lst [.ref nd])).trans (eJ hp (.lst (zs++[.ref nd])));exact⟨s,_,er,Paired.snoc (Paired.KG hz λ_ _=>fH.same s) (b.same s)⟩
def tV (P:ee)(w:World)(K:W.Frag)(mg:Str->el dZ)(base:Heap)(f:dY)(cdv:dZ)(A:dX)(outer:ef Env)(s:d0)(H:Hp)(Q:VK)(E:XK)(j:Nat):Prop:=
 ∃tR:TS,ni (qG fC P w K mg base Jk "law" (eK l7) f cdv A outer s H E).nox ((gO l7).drop j) tR/\
   ∀(c d:eD) (m:Nd) (sh st nd tf ts lf ls:dY) (L M:iA) (vf vs:V) (o p:el Nat) (H1:Hp) (o0 o6:el V),Iy H1 c d m sh st nd tf ts lf ls L M vf vs o p->
    tR {nx:=λ_ H'=>Q .non H',rt:=Q} [o0,some (.ref sh),some (.ref st),some (.ref nd),some (.ref tf),some (.ref ts),o6,none] H1
section
variable {base:Heap}{f:dY}{cdv:dZ}{A:dX}{outer:ef Env}{s:d0}{Q:VK}{E:XK}
theorem Ho (T:uZ K mg)(Z:Gd P w K mg base fC 9 "_law_copy_of" ["_law_shelf"] rC)(a4:Gd P w K mg base fC 9 "_law_are_picks" ["_law_found"] kM)(ag:Gd P w K mg base fC 9 "_law_fits" ["_law_shelf","_law_start","_law_picks"] tM)(b5:Gd P w K mg base fC 9 "fits" ["shelf","start","picks"] xO)(hr:gU 9 (A.deeper (envOfC "law" (eK l7) s.heap.objs.size f cdv)))(q:∀H',Q (.bl true) H'):tV P w K mg base f cdv A outer s H Q E 10:=by
 refine⟨_,(et (fm (gN (nG (eP eW (pv 4) eF))) (eE (eU (sK (nG (eP eW (pv 5) eF))))) eV) (et (fm (PW.pt (jl (gX (gT (fG a4 hr (eo (eP eW (pv 4) eF) eA)))) (iS (gX (gT (fG ag hr (eo (pv 1) (eo (pv 2) (eo (eP eW (pv 4) eF) eA))))))))) fR eV) (et (eO (i:=7) zk.nd (fG b5 hr (eo (fG Z hr (eo (pv 1) eA)) (eo (fh kY (pv 2) (gy (eo (pv 3) eA))) (eo (ig iO rfl T.list cZ (eo (eP eW (pv 4) eF) eA)) eA))))) (et (fm (PW.pt (jl (gX (gT (fe gJ rfl T.isin bS (eo (pv 7) (eo (li rfl T.bool boot_bool) eA))))) (iS (fD ol (pv 7) (fG ag hr (eo (pv 1) (eo (fh kY (pv 2) (gy (eo (pv 3) eA))) (eo (eP eW (pv 4) eF) eA)))) (fQ _))))) fR eV) (et (fm (gT (pv 7)) (eE (eU (kU (fG a4 hr (eo (eP eW (pv 5) eF) eA)) (lJ (fG ag hr (eo (pv 1) (eo (fh kY (pv 2) (gy (eo (pv 3) eA))) (eo (eP eW (pv 5) eF) eA)))))))) eV) (eE (eU ik))))))),?_⟩;intro c d m sh st nd tf ts lf ls L M vf vs o p H1 o0 o6 X;obtain⟨C,b7,bq,ad⟩:=X.f;have e64:=X.e64;have s90:=X.s90;have U:∀n∈c.sn,fU n.1:=λn hn=>X.sp n (aO _ hn);have l1:(c.sn++[m]).length<=100:=by rw[aD,aP];lia
 rcases ad with ⟨rfl,rfl,e,he,h0⟩|⟨Y,pa,rfl,rfl,ah,r,I,bm⟩;refine⟨_,rfl,tf,_,_,_,rfl,rfl,gC.of C,rfl,_,rfl,gY ?_⟩;obtain⟨G,_,_,g⟩:=X.s;rcases g with ⟨rfl,rfl,_⟩|⟨Y,pa,rfl,rfl,_,r,_⟩;exact⟨_,rfl,ts,_,_,_,rfl,rfl,gC.of G,rfl,q _⟩;rw[X.es,X.sn]at r;exact(xf bq (Br r) he h0).elim;refine⟨_,rfl,tf,_,_,_,rfl,rfl,gC.of C,rfl,_,rfl,fz ?_⟩;have B:=nJ I;have S:(c.listed Y).length<=900:=bz lO (by lia);have F:∀k∈c.listed Y,k∈c.es.map fb:=λk hk=>(c.mem k).mp (eD.Lf.mp hk).1;refine⟨_,rfl,tf,_,_,_,rfl,rfl,gC.of C,rfl,pa,_,rfl,ah,_,rfl,fz ?_⟩;refine⟨_,rfl,_,rfl,_,rfl,tf,_,_,_,rfl,rfl,gC.of C,rfl,sh,st,pa,c.es,c.sn,c.listed Y,rfl,X.sh,X.kn,X.ok,X.st,U,by lia,ah,F,B,S,λb H2 s2 hb=>?_⟩;have eb:=uG hb (xp r B) λv a b d=>xo I bm a b d;subst eb;refine⟨_,rfl,fz ?_⟩;have X2:=X.k (mM.of s2);have J:=ah.same s2;have R:=s2 _ _ C;refine⟨_,rfl,sh,c.es,rfl,X2.sh,by lia,λh3 H3 s3 bx=>?_⟩;have X3:=X2.k (mM.of s3);obtain⟨D,hz,h⟩:=X3.st;have lz:=Paired.length h;refine⟨_,rfl,_,rfl,DI,λl4 ap=>⟨st,l4,D,_,rfl,rfl,(eJ ap _) _ _ hz,er,by rw[bt];show D.length+1<=_;lia,λp5 b1=>?_⟩⟩;obtain⟨s5,a7⟩:=y0 (st:=st) h X3.nv ap b1;generalize upd (upd H3 l4 (.lst [.ref nd])) p5 (.lst (D++[.ref nd]))=H5 at *;have X5:=X3.k (mM.of s5);obtain⟨ys,hy,bv⟩:=(J.same s3).same s5;refine⟨_,rfl,tf,_,_,_,rfl,rfl,gC.of (s5 _ _ (s3 _ _ R)),rfl,pa,ys,rfl,.inl (ff.of hy),λp6 a8=>?_⟩;have s6:=eJ a8 (.lst ys);refine⟨h3,p6,p5,c.es,c.sn++[m],c.listed Y,ys,rfl,(bx.same s5).same s6,X.ok,e64,X.kn,a7.same s6,by lia,er,Paired.KG bv λ_ _=>fj.same s6,λk hk=>j3 X.ok hk,F,B,S,λb H7 s7 hb=>?_⟩;have X7:=(X5.k (mM.of s6)).k (mM.of s7);have as:=((s3.trans s5).trans s6).trans s7;have a9:=as _ _ R;have a3:=J.same as;refine⟨_,rfl,_,_,_,_,rfl,jU.bl b,EZ K,_,rfl,fz ?_⟩;obtain⟨D,hz,h⟩:=X7.st;have lz:=Paired.length h;refine⟨_,rfl,_,rfl,_,rfl,_,rfl,DI,λl8 an=>⟨st,l8,D,_,rfl,rfl,(eJ an _) _ _ hz,er,by rw[bt];show D.length+1<=_;lia,λp9 b4=>?_⟩⟩;obtain⟨s9,b6⟩:=y0 (st:=st) h X7.nv an b4;generalize upd (upd H7 l8 (.lst [.ref nd])) p9 (.lst (D++[.ref nd]))=H9 at *;have X9:=X7.k (mM.of s9);refine⟨_,rfl,tf,_,_,_,rfl,rfl,gC.of (s9 _ _ a9),rfl,sh,p9,pa,c.es,c.sn++[m],c.listed Y,rfl,X9.sh,X.kn,X.ok,b6,X.sp,by lia,a3.same s9,F,B,S,λb' Ha sa a2=>⟨rfl,_,rfl,?_⟩⟩;rw[uH hb a2,aq rfl];refine fz ?_;have Xa:=X9.k (mM.of sa);refine⟨_,rfl,_,rfl,jg (λbe=>?_) (λ_=>q _)⟩;have a1:lU c.es (c.sn++[m]) (c.listed Y):=by rcases hb with ⟨_,z⟩|⟨z,_⟩;rw[uH (.inl ⟨‹_›,z⟩) a2]at z;exact absurd (be.symm.trans z) (by decide);exact z
 have a6:=Fe F B a1;obtain⟨G,_,ba,g⟩:=Xa.s;rcases g with ⟨rfl,rfl,e,he,h0⟩|⟨t,pb,rfl,rfl,al,aa,y,a0⟩;exact(xf ba (by rw[X.es,X.sn];exact a6) he h0).elim;refine⟨_,rfl,ts,_,_,_,rfl,rfl,gC.of G,rfl,pb,_,rfl,al,_,rfl,gY ?_⟩;obtain⟨D,hz,h⟩:=Xa.st;have lz:=Paired.length h;refine⟨_,rfl,_,rfl,_,rfl,DI,λlb a5=>⟨st,lb,D,_,rfl,rfl,(eJ a5 _) _ _ hz,er,by rw[bt];show D.length+1<=_;lia,λpc U=>?_⟩⟩;obtain⟨sc,bf⟩:=y0 (st:=st) h Xa.nv a5 U;have N:=nJ y;have bd:(d.listed t).length<=d.es.length:=lO;have O:∀k∈d.listed t,k∈d.es.map fb:=λk hk=>(d.mem k).mp (eD.Lf.mp hk).1;have j:=xp aa N;have l:∀v,Wk d.es (d.listed t) d.sn [] v->v.Nodup->(∀x∈v,x∈(d.listed t).map (·.1))->v.length=(d.listed t).length:=λv a b d=>xo y a0 a b d;rw[X.es]at O j l bd;rw[X.sn]at j l;refine⟨_,rfl,ts,_,_,_,rfl,rfl,gC.of (sc _ _ G),rfl,sh,pc,pb,c.es,c.sn++[m],d.listed t,rfl,(Xa.k (mM.of sc)).sh,X.kn,X.ok,bf,X.sp,by lia,al.same sc,O,N,by lia,λb2 Hd sd b3=>?_⟩;rw[uG b3 j l];exact q _
theorem Jp (T:uZ K mg)(y:Gd P w K mg base fC 9 "_law_copy_of" ["_law_shelf"] rC)(as:Gd P w K mg base fC 9 "_law_lines_hold" ["_law_shelf","_law_start","_law_lines"] lh)(aa:Gd P w K mg base fC 9 "first_bad" ["shelf","start","lines"] xQ)(hr:gU 9 (A.deeper (envOfC "law" (eK l7) s.heap.objs.size f cdv)))(r:tV P w K mg base f cdv A outer s H Q E 10):tV P w K mg base f cdv A outer s H Q E 7:=by
 obtain⟨tR,hR,kR⟩:=r;refine⟨_,(et (fO (fL (gy (eo (pv 4) (eo (pv 5) eA)))) (eR (i:=6) zk.nd) (eE (fm (PW.pt (jl (gX (gT (fe gJ rfl T.isin bS (eo (pv 6) (eo (li rfl T.tuple boot_tuple) eA))))) (iS (fD ol (fe fA rfl T.len bp (eo (pv 6) eA)) eF (fQ _))))) fR eV))) (et (fm (gX (gT (fG as hr (eo (pv 1) (eo (fh kY (pv 2) (gy (eo (pv 3) eA))) (eo (eP eW (pv 4) eF) eA)))))) fR eV) (et (fm (gN (kW (fG aa hr (eo (fG y hr (eo (pv 1) eA)) (eo (fh kY (pv 2) (gy (eo (pv 3) eA))) (eo (ig iO rfl T.list cZ (eo (eP eW (pv 4) eF) eA)) eA)))))) fR eV) hR))),?_⟩;intro c d m sh st nd h q lf ls L M vf vs o p H1 o0 D X;have e64:=X.e64;have s90:=X.s90;have l1:(c.sn++[m]).length<=100:=by rw[aD,aP];lia
 obtain⟨b,j,z,_⟩:=X.f;obtain⟨J,_⟩:=X.s;have I:=yO z X.ok e64;have t:(c.lns L).length<sizeLine:=by unfold eD.lns;rw[ab];exact sW z X.lw
 have e:∀(i:Nat) (l:Ln),(c.lns L)[i]?=some l->ir c.es (c.sn++[m]) (c.lns L) (i:Nat) l=true:=λi l hl=>yL (uz z i l hl);refine⟨_,rfl,_,rfl,qK,λO a0=>?_⟩;have B:=eJ a0 (.lst [.ref h,.ref q]);refine⟨O,rfl,⟨_,ff.of er⟩,fW (K:=K) (a:=O) (xs:=[.ref h,.ref q]) (λi σ C=>∃D,σ=[o0,some (.ref sh),some (.ref st),some (.ref nd),some (.ref h),some (.ref q),D,none]/\C=upd H1 O (.lst [.ref h,.ref q])) ⟨D,rfl,rfl⟩ (by rintro i σ C _ ⟨_,_,rfl⟩;exact ff.of er) ?_ ?_⟩;rintro i x σ C hi ⟨D,rfl,rfl⟩;rcases (by simpa using ai hi:x=V.ref h\/x=V.ref q) with rfl|rfl;refine⟨_,rfl,_,_,_,_,rfl,jU.tup (B _ _ b),pT K,_,rfl,fz ?_⟩;exact⟨_,rfl,h,_,rfl,.inr (gC.of (B _ _ b)),rfl,_,rfl,fz ⟨_,rfl,rfl⟩⟩;refine⟨_,rfl,_,_,_,_,rfl,jU.tup (B _ _ J),pT K,_,rfl,fz ?_⟩;exact⟨_,rfl,q,_,rfl,.inr (gC.of (B _ _ J)),rfl,_,rfl,fz ⟨_,rfl,rfl⟩⟩;rintro σ C ⟨D,rfl,rfl⟩;have X2:=X.k (mM.of B);have b:=B _ _ b;have j:=j.same B;generalize upd H1 O (.lst [.ref h,.ref q])=C at *;obtain⟨v,Z,g⟩:=X2.st;have lz:=Paired.length g;refine⟨_,rfl,_,rfl,_,rfl,DI,λl4 N=>⟨st,l4,v,_,rfl,rfl,(eJ N _) _ _ Z,er,by rw[bt];show v.length+1<=_;lia,λp5 ag=>?_⟩⟩;obtain⟨S,U⟩:=y0 (st:=st) g X2.nv N ag;generalize upd (upd C l4 (.lst [.ref nd])) p5 (.lst (v++[.ref nd]))=H5 at *;have X5:=X2.k (mM.of S);refine⟨_,rfl,h,_,_,_,rfl,rfl,gC.of (S _ _ b),rfl,sh,p5,lf,c.es,c.sn++[m],c.lns L,rfl,X5.sh,e64,X.kn,X.ok,U,X.sp,j.same S,I,t,e,λH6 s6=>⟨_,rfl,fz ?_⟩⟩;have X6:=X5.k (mM.of s6);have al:=S.trans s6;refine⟨_,rfl,sh,c.es,rfl,X6.sh,by lia,λh7 H7 s7 ah=>?_⟩;have Y:=X6.k (mM.of s7);obtain⟨v,Z,g⟩:=Y.st;have lz:=Paired.length g;refine⟨_,rfl,_,rfl,DI,λl8 F=>⟨st,l8,v,_,rfl,rfl,(eJ F _) _ _ Z,er,by rw[bt];show v.length+1<=_;lia,λp9 an=>?_⟩⟩;obtain⟨s9,a1⟩:=y0 (st:=st) g Y.nv F an;generalize upd (upd H7 l8 (.lst [.ref nd])) p9 (.lst (v++[.ref nd]))=H9 at *;have X9:=Y.k (mM.of s9);have G:=(al.trans s7).trans s9;obtain⟨ys,hy,ad⟩:=j.same G;refine⟨_,rfl,h,_,_,_,rfl,rfl,gC.of (G _ _ b),rfl,lf,ys,rfl,.inl (ff.of hy),λpa ap=>?_⟩;have R:=eJ ap (.lst ys);refine⟨h7,p9,pa,c.es,c.sn++[m],c.lns L,rfl,(ah.same s9).same R,e64,X.kn,X.ok,a1.same R,X.sp,⟨ys,er,Paired.KG ad λ_ _=>nr.same R⟩,I,t,e,λHb sb=>⟨_,rfl,fz ?_⟩⟩;exact kR c d m sh st nd h q lf ls L M vf vs o p Hb o0 _ ((X9.k (mM.of R)).k (mM.of sb))
end
inductive xL (K:W.Frag)(PP:dY)(vs:ef V)(H:Hp)(Q:VK)(E:XK):Prop
 |mk (a:dY)(ns:ef Int)(_:vs=[.ref a])(_:ff K H a (ns.map V.int))(_:ns.length<=63)(_:ic zy yJ H PP)(_:∀H',Q (.bl true) H')
structure KF (H:Hp)(PP:dY)(es:ef En)(sn:ef Nd)(m:Nd)(sh st nd:dY):Prop where
 sh:iZ H sh es
 kn:(es.map fb).Nodup
 ok:∀e∈es,ll e
 lw:∀e∈es,Lw e
 e64:es.length<64
 st:gv H st sn
 nv:fH H (.ref nd) m
 sp:∀n∈sn++[m],fU n.1
 s90:sn.length<=90
 tab:ic zy yJ H PP
def HB (P:ee)(w:World)(K:W.Frag)(mg:Str->el dZ)(base:Heap)(f:dY)(cdv:dZ)(A:dX)(outer:ef Env)(s:d0)(H:Hp)(Q:VK)(E:XK)(PP:dY):Prop:=
 ∃tR:TS,ni (qG fC P w K mg base Jk "law" (eK l7) f cdv A outer s H E).nox ((gO l7).drop 5) tR/\
   ∀(es:ef En) (sn:ef Nd) (m:Nd) (sh st nd:dY) (H1:Hp) (o0:el V),KF H1 PP es sn m sh st nd->
    tR {nx:=λ_ H'=>Q .non H',rt:=Q} [o0,some (.ref sh),some (.ref st),some (.ref nd),none,none,none,none] H1
section
variable {base:Heap}{f:dY}{cdv:dZ}{A:dX}{outer:ef Env}{s:d0}{Q:VK}{E:XK}
theorem Jq {PP:dY}(T:uZ K mg)(a:Gd P w K mg base fC 9 "_law_copy_of" ["_law_shelf"] rC)(t:Gd P w K mg base fC 9 "worked_out" ["shelf","start"] (oY PP))(I:gU 9 (A.deeper (envOfC "law" (eK l7) s.heap.objs.size f cdv)))(r:tV P w K mg base f cdv A outer s H Q E 7):HB P w K mg base f cdv A outer s H Q E PP:=by
 obtain⟨tR,hR,kR⟩:=r;refine⟨_,(et (eO (i:=4) zk.nd (fG t I (eo (fG a I (eo (pv 1) eA)) (eo (ig iO rfl T.list cZ (eo (pv 2) eA)) eA)))) (et (eO (i:=5) zk.nd (fG t I (eo (fG a I (eo (pv 1) eA)) (eo (fh kY (pv 2) (gy (eo (pv 3) eA))) eA)))) hR)),?_⟩;intro es sn m sh st nd H1 o0 M;have e64:=M.e64;have s90:=M.s90;have l1:(sn++[m]).length<=100:=by rw[aD,aP];lia
 refine⟨_,rfl,sh,es,rfl,M.sh,by lia,λh2 H2 s2 J=>?_⟩;obtain⟨b,R,h⟩:=M.st.same s2;refine⟨_,rfl,st,b,rfl,.inl (ff.of R),λG ag=>?_⟩;have Y:=eJ ag (.lst b);have C:gv (upd H2 G (.lst b)) G sn:=⟨b,er,Paired.KG h λ_ _=>fH.same Y⟩;have D:=s2.trans Y;have v:=ic.f D.toF M.tab;have ad:=J.same Y;have Z:=mM.of D;generalize upd H2 G (.lst b)=H3 at *;refine⟨h2,G,es,sn,rfl,ad,e64,M.kn,C,om M.ok (by lia),v,λc z S L O=>sW O (by rw[z];exact M.lw),λc H4 tf z S X ah j=>?_⟩;subst z;subst S;have g:=Z.trans (mM.tab v X);obtain⟨lf,L,vf,o,hF⟩:=zB j;have y:=M.st.k g;refine⟨_,rfl,sh,c.es,rfl,M.sh.k g,by lia,λh5 H5 s5 aa=>?_⟩;obtain⟨b,R,h⟩:=y.same s5;have lz:=Paired.length h;refine⟨_,rfl,_,rfl,DI,λl6 q=>⟨st,l6,b,_,rfl,rfl,(eJ q _) _ _ R,er,by rw[bt];show b.length+1<=_;lia,λp7 al=>?_⟩⟩;obtain⟨s7,an⟩:=y0 (st:=st) h ((M.nv.k g).same s5) q al;generalize upd (upd H5 l6 (.lst [.ref nd])) p7 (.lst (b++[.ref nd]))=H7 at *;have B:=s5.trans s7;have F:=ic.f B.toF ah;refine⟨h5,p7,c.es,c.sn++[m],rfl,aa.same s7,e64,M.kn,an,om M.ok l1,F,λd z S L O=>sW O (by rw[z];exact M.lw),λd H8 ts d1 d2 U ap e=>?_⟩;have x:=(mM.of B).trans (mM.tab F U);have l:=g.trans x;obtain⟨ls,N,vs,p,hS⟩:=zB e;exact kR c d m sh st nd tf ts lf ls L N vf vs o p H8 o0 none ⟨M.sh.k l,M.st.k l,M.nv.k l,d1,d2,M.kn,M.ok,M.lw,e64,M.sp,s90,hF.k x,hS⟩
noncomputable abbrev nX:Nd:=("ashenashxnashen",-9,10^(30:Int).toNat)
noncomputable abbrev nA:Nd:=("as",-9,10^(30:Int).toNat)
noncomputable abbrev nS:Nd:=("ashenashenashen",-9,10^(30:Int).toNat)
abbrev DU (sn:ef Nd):ef Nd:=(sn++[nX,nA])++[nS]
theorem EJ {PP:dY}(F:iE K "law" "law" l7 f fd)(T:uZ K mg)(R:Gd P w K mg base fC 9 "_law_at" ["_law_script","_law_k"] (Iw K))(ah:Gd P w K mg base fC 9 "_law_need_by" ["_law_cell"] uV)(O:Gd P w K mg base fC 9 "_law_asked_by" ["_law_script"] (wB K))(b:Gd P w K mg base fC 9 "_law_copy_of" ["_law_shelf"] rC)(U:Gd P w K mg base fC 9 "_law_mixed" ["_law_script"] (wz K))(bl:Gd P w K mg base fC 9 "_law_lines_hold" ["_law_shelf","_law_start","_law_lines"] lh)(bq:Gd P w K mg base fC 9 "_law_are_picks" ["_law_found"] kM)(a8:Gd P w K mg base fC 9 "_law_fits" ["_law_shelf","_law_start","_law_picks"] tM)(bm:Gd P w K mg base fC 9 "fits" ["shelf","start","picks"] xO)(a5:Gd P w K mg base fC 9 "first_bad" ["shelf","start","lines"] xQ)(an:Gd P w K mg base fC 9 "worked_out" ["shelf","start"] (oY PP)):fB P w K mg base fC 10 f fd ["_law_script"] (xL K PP):=by
 refine F.ok zk λcdv A outer s H vs Q E p h=>?_;obtain⟨a,ns,rfl,hS,bx,hT,q⟩:=h;obtain⟨tR,hR,kR⟩:=Jq (A:=A) (outer:=outer) (cdv:=cdv) (s:=s) (H:=H) (Q:=Q) (E:=E) (f:=f) T b an p (Jp T b bl a5 p (Ho T b bq a8 bm p q));refine⟨_,(et (eO (i:=0) zk.nd (mU oJ (pv 0) sI (mQ eF))) (et (eO (i:=0) zk.nd (fG U p (eo (pv 0) eA))) (et (Aj (fG O p (eo (pv 0) eA)) (kS (n:=2) rfl (gl (eR (i:=1) zk.nd) (gl (eR (i:=2) zk.nd) jD)))) (et (eO (i:=3) zk.nd (fG ah p (eo (fh jE (fG R p (eo (pv 0) (eo eF eA))) eF) eA))) (et (fm (fD jM (fh kg (fG R p (eo (pv 0) (eo eF eA))) eF) eF (fQ _)) (et (eO (i:=2) zk.nd (fh kY (pv 2) (gy (eo (gL (eo iI (eo (ja jy eF) (eo (fh nK eF eF) eA)))) (eo (gL (eo iI (eo (ja jy eF) (eo (fh nK eF eF) eA)))) eA))))) (eE (eO (i:=2) zk.nd (fh kY (pv 2) (gy (eo (gL (eo iI (eo (ja jy eF) (eo (fh nK eF eF) eA)))) eA)))))) eV) hR))))),?_⟩;obtain⟨m1,e1,l1⟩:=uL ns none (some 500);refine⟨_,rfl,500,rfl,a,_,rfl,hS,λp1 a6=>?_⟩;rw[e1];have s1:=eJ a6 (.lst (m1.map V.int));refine⟨_,rfl,p1,m1,rfl,ff.of er,by lia,λp2 m2 H2 s2 Z l2=>?_⟩;refine⟨_,rfl,p2,m2,rfl,ff.of Z,by lia,λt sh st es L H3 s3 h3 be N B bv h4 a9 C b4=>?_⟩;refine⟨t,_,rfl,gC.of h3,rfl,_,_,rfl,_,_,rfl,rfl,?_⟩;refine⟨_,rfl,p2,m2,0,rfl,ff.of (s3 _ _ Z),Int.le_refl 0,λz0=>⟨_,_,rfl,rfl,⟨by decide,by decide⟩,_,rfl,λnd m v X _ I D=>?_⟩⟩;have bd:eN H v:=((s1.trans s2).trans s3).trans X;have M:=ic.f bd.toF hT;have j:=a9.same X;have l:=be.same X;have y:fH v (.ref nd) m:=⟨nd,rfl,I⟩;refine⟨_,rfl,p2,m2,3,rfl,ff.of (X _ _ (s3 _ _ Z)),by decide,λz1=>⟨_,_,rfl,rfl,(by show(0:Int)<3;decide),rfl,_,rfl,jg (λ_=>?_) (λ_=>?_)⟩⟩;obtain⟨r,hz,J⟩:=id j;have lz:=Paired.length J;refine⟨_,rfl,_,rfl,_,_,rfl,rfl,⟨by decide,by decide,by decide⟩,B4,λd al=>⟨_,rfl,_,_,rfl,rfl,⟨by decide,by decide,by decide⟩,B4,λe a0=>⟨qK,λl5 ba=>?_⟩⟩⟩;have a1:=eJ al (.tup [.str "ashenashxnashen",.int (-9),.int (10^(30:Int).toNat)]);have a2:=eJ a0 (.tup [.str "as",.int (-9),.int (10^(30:Int).toNat)]);have a3:=eJ ba (.lst [.ref d,.ref e]);have S:=(a1.trans a2).trans a3;refine⟨st,l5,r,_,rfl,rfl,S _ _ hz,er,by rw[bt];show r.length+2<=_;lia,λp6 ad=>?_⟩;have a4:=eJ ad (.lst (r++[.ref d,.ref e]));have b1:=((a2.trans a3).trans a4) _ _ (er (H:=v) (a:=d) (o:=.tup [.str "ashenashxnashen",.int (-9),.int (10^(30:Int).toNat)]));have b2:=(a3.trans a4) _ _ (er (H:=upd v d (.tup [.str "ashenashxnashen",.int (-9),.int (10^(30:Int).toNat)])) (a:=e) (o:=.tup [.str "as",.int (-9),.int (10^(30:Int).toNat)]));have b3:=er (H:=upd (upd (upd v d (.tup [.str "ashenashxnashen",.int (-9),.int (10^(30:Int).toNat)])) e (.tup [.str "as",.int (-9),.int (10^(30:Int).toNat)])) l5 (.lst [.ref d,.ref e])) (a:=p6) (o:=.lst (r++[.ref d,.ref e]));have ag:=S.trans a4;generalize upd (upd (upd (upd v d (.tup [.str "ashenashxnashen",.int (-9),.int (10^(30:Int).toNat)])) e (.tup [.str "as",.int (-9),.int (10^(30:Int).toNat)])) l5 (.lst [.ref d,.ref e])) p6 (.lst (r++[.ref d,.ref e]))=H6 at *;refine⟨_,rfl,_,rfl,_,_,rfl,rfl,⟨by decide,by decide,by decide⟩,B4,λt7 a7=>⟨DI,λl8 aa=>?_⟩⟩;have c1:=eJ a7 (.tup [.str "ashenashenashen",.int (-9),.int (10^(30:Int).toNat)]);have c2:=eJ aa (.lst [.ref t7]);refine⟨p6,l8,_,_,rfl,rfl,(c1.trans c2) _ _ b3,er,by rw[bt,aD];show r.length+2+1<=_;lia,λp9 bf=>?_⟩;have c3:=eJ bf (.lst ((r++[.ref d,.ref e])++[.ref t7]));have x:=(c1.trans c2).trans c3;have g:=ag.trans x;have ap:∀{as bs:ef V} {cs ds:ef Nd} {G:Hp},Paired (fH G) as cs->Paired (fH G) bs ds->Paired (fH G) (as++bs) (cs++ds):=by intro as bs cs ds G r1 r2;induction r1 with|nil=>exact r2|cons h t ih=>exact .cons h ih
 refine kR es (DU L) m sh p9 nd _ _ ⟨l.same g,N,B,h4,by lia,⟨_,er,ap (cs:=L++[nX,nA]) (ds:=[nS]) (ap (cs:=L) (ds:=[nX,nA]) (Paired.KG J λ_ _=>fH.same g) (.cons ⟨d,rfl,x _ _ b1⟩ (.cons ⟨e,rfl,x _ _ b2⟩ .nil))) (.cons ⟨t7,rfl,c3 _ _ (c2 _ _ er)⟩ .nil)⟩,y.same g,λn Y=>?_,by rw[aD,aD];show L.length+2+1<=90;lia,ic.f g.toF M⟩;simp only[DU,aA,ao,aR,or_false]at Y;rcases Y with ((h|h|h)|h)|h;exact C n h;rw[h];exact wX;rw[h];exact wY;rw[h];exact wZ;rw[h];exact D;refine kR es L m sh st nd v _ ⟨l,N,B,h4,by lia,j,y,λn Y=>?_,by lia,M⟩;rcases aA.mp Y with z|z;exact C n z;rw[aj.mp z];exact D
end
end
end Lake.FB
structure PySem.W.Fast:Prop where
 (tw7630595086875675463 tw2200085643283570204 tw3410964535887702433 tw7597714694259511132 tw9605686557983893499 tw11513138216704391764 tw16513309809596442466 tw5231165140870704214 tw2251800717330231805 tw12657728104119820066 tw9239645847147394622 tw11472977909169018308 tw9690438458115968019 tw8619850680926317640 tw14745544886610199866 tw14674895654431305979 tw4252479439028366994 tw1406295669469647585 tw11005250411249140621 tw16069201904059331800 tw14749085907354261319 tw11619829648528151284 tw18008326350240396584 tw17068892146160751101 tw4045039755578070611 tw405403433507810276 tw10129544217241562335 tw1249179116860570538 tw15460030917747686878 tw5002280810537870664 tw12519502228369339429 tw639932626866348014 tw6619517878062721351 tw2451701606719041302 tw18176291805096557185 tw16204029549307371032 tw6587231210607606797 tw16013973285044431895 tw406411102691855567 tw2762357906696052054 tw12927135490850954050 tw10404552337804721969 tw14040198672315133741 tw3161944121835647281 tw10633218752959422386 tw3191993046079923639 tw11683322705962347776 tw16092953783963081317 tw16836247164652294300 tw11785977075495484337 tw289170707260681791 tw10971930872891376916 tw9940156089456825488 tw17658196984895815262 tw4327158790814135364 tw11395252633286305953 tw11935677171655036952 tw722413520054197485 tw7118070992299836834 tw2772613745372584922 tw10658339347252306560 tw17201742951171635021 tw8430864929967955476 tw15679657687975915371 tw8938296507385174804 tw10294882614677206810 tw17856663143169180707 tw7331143959687826429 tw15672406965610549918 tw62924531219893156 tw5163983480194087558 tw17806200781639024508 tw15829036796158170096 tw13681715255981834764 tw12094637814884130709 tw13806813466918793841 tw647080134910527147 tw15892386696677726818 tw11611134694448349363 tw13259416638583775187 tw8166486544341990106 tw6998114763604474716 tw18352794015782470186 tw11533550940371911058 tw9151369178758929767 tw14135816584691846246 tw15526882992141171096 tw3074271591278359050 tw16672997991627455279 tw5280484596081865757 tw1020553494907685182 tw2096817372454270353 tw8391183711737867079 tw14073100555925696432 tw8664043208306622440 tw3228389758689787931 tw7944082628677551847 tw7466320162410725748 tw3639651553781485503 tw5627139246681742119 tw2157316238204937058 tw14746382797206306448 tw9781052835329669602 tw11374181024247788515 tw828472657861496195 tw17178071242063948013 tw6833377154782489704 tw665504488456590544 tw10557105131448704547 tw4883426177584508114 tw7506243863184717153 tw17494628398642020828 tw232830306430138515 tw2183438062289492201 tw6521125032494404249 tw9058580765969298315 tw8976360040551487482 tw18417074106300077268 tw8270265623269751355 tw1689085218915938613 tw4857952109247267978 tw78672469933957586 tw10388220026921546709 tw17882665983744938038 tw16810523145832216566 tw14207556748749263227 tw2380350025436033162 tw1594466650018678891 tw2058292451980653861 tw13649373573575547897 tw4804658114868643014 tw9074067241447825590 tw6436399104066239278 tw9906020122246298334 tw10210713769529648776 tw1476066216980962687 tw16621433437255575276 tw7622776276969875311 tw2131171921247467913 tw14063380035220735187 tw10867343317867763845 tw15880799270392734526 tw4838512935865574785 tw5121923383682248127 tw15288780817874822227 tw6016983326989186645 tw7607809737983155952 tw9535078519656587420 tw11870105360958321848 tw15714370240792437881 tw9180885267699338860 tw493967933541515501 tw17453009059209755162 tw7912702448410780338 tw2842513136709572081 tw2727347081279708482 tw17888861411215510179 tw12496605819963929300 tw2722207319846144052 tw7672245502604845894 tw17496791904561344162 tw10198451613906495967 tw17350836401454711858 tw8838927737385637612 tw3157795223641740032 tw14876858942370675563 tw4467045977794080406 tw6830382019698022603 tw5647119012463573825 tw7041048343302787967 tw10862067314316197782 tw10828980031277725934 tw13108798599286583638 tw2008966696749885563 tw1526550676945159605 tw1516055413158119131 tw13178799984676777703 tw17052542156072615633 tw3269102091381437123 tw860117047350578809 tw11528005737207654290 tw12728160487865854137 tw17685927612461178789 tw9784170051126056816 tw11357823970009732453 tw4039849432577388663 tw17727512669769370279 tw5582728302028259798 tw8883257494016459444 tw17036266895687087489 tw16683129394117721886 tw15950772197841693688 tw5203788529305758632 tw6092340145491174354 tw7953532111365872442 tw13675046689047447864 tw5458122795272918427 tw17405632401088809126 tw3760595972125525042 tw15344327412229918813 tw542299133565559653 tw10925616401402055213 tw4203365258528113563 tw15451766318399827967 tw8665827862971214993 tw12492995544600501977 tw12742015113350586117 tw5667873454047056667 tw9922553406423335135 tw5249529002594927991 tw12057294628260803651 tw7815724107265699204 tw17214747213075234528 tw15213189964840344604 tw6888170155843719938 tw17113399600860111340 tw10600201284647161772 tw4357460385629135326 tw14362503984822046806 tw16785442457049602670 tw11008892592760457267 tw16604497753605163778 tw569852277381828252 tw122195063618232348 tw7522672225402579294 tw3069663477906234229 tw10717909684205879361 tw13831504631761297202 tw8361236659928455659 tw12895953664564050774 tw14046802337283846346 tw10497778830595157397 tw17093887975128723301 tw14873371412020263100 tw11580976183237848050 tw5127388122755937121 tw11488257423429679419 tw323326403798991102 tw2389682724672497882 tw5946761136864123142 tw2231319449145528673 tw14446447436094203846 tw418950914922290981 tw6268474517464020097 tw14999345790626000228 tw7336758180539520729 tw9939241277605916184 tw8560851273371067675 tw11034367603396285993 tw12986852084400245125 tw15370358918513450994 tw14350669830201083947 tw17913392283697883590 tw13645993335162127678 tw7554140683027837532 tw9635064421157848974 tw17009843490507740293 tw11079108356123604410 tw10903171719283501410 tw12546590193093198095 tw13890750150144127948 tw3270129761188639771 tw6882141047565893918 tw14554810596541858853 tw16400919180005501805 tw8835084837280777276 tw1974647054668513485 tw1684937738909937746 tw13023320946067113427 tw12996487520896947421 tw7642632020319975159 tw18308703358604301707 tw2901138229804490093 tw16626053536281394988 tw782221929762010832 tw12561439664390074436 tw15130162942837111123 tw14788721491258543447 tw8457251874826484739 tw7769774238073468013 tw18314975043531651861 tw6064366750366213729 tw15446095264022209395 tw3204517743132748126 tw1161269923032564697 tw15140277111925540942 tw16848489023356529079 tw7609567912169877739 tw43613261957654533 tw277721277486648848 tw8256216706941630229 tw303003096896323048 tw16590123355121723525 tw15712461296100578890 tw952267983468721798 tw13402661935230141698 tw4996471597961759893 tw12623746474262164200 tw13931891538477380223 tw8211087985097027201 tw5114824459108989546 tw6381902824039457327 tw6186685154455174263 tw13160636378592185799 tw6865191303070579804 tw10935541054805028297 tw9850257996276710236 tw13330992219269955962 tw4713252904910941232 tw3541846591086386138 tw4070043460552063818 tw5419689294527657070 tw7926112242337533134 tw15461088834931866187 tw509201347841435215 tw1592680778499939405 tw5777350829281574099 tw17835016205252214749 tw17687741522884711116 tw3208037245827815014 tw4178983142913756404 tw17880560531190029357 tw11001613360386572715 tw10876025279701808194 tw3770662857473212185 tw4087355049995719799 tw6648912981888634496 tw7568283841483387664 tw5732952922340306704 tw13698793696048462138 tw10052813053507083054 tw373031154368497618 tw17013451101071675695 tw15256899214434096124 tw9340854612710252796 tw14000408484336557550 tw17940605806959997421 tw6613402978426531137 tw17078636010000021967 tw3367112233792870879 tw5906684033176392717 tw5084490014383400870 tw18256113677007066005 tw9865967016229936460 tw8182719827987599415 tw2456998834956360551 tw6540761813205498406 tw3443396312429135396 tw4315665168227985724 tw1895271771837403741 tw17242889717571434151 tw18301570482209342984 tw11994377390858912274 tw6823449963089668551 tw7057397383268506855 tw8377800300663596927 tw7465877046897618280 tw9479405117363575949 tw4636525103734392386 tw18071011770435349773 tw12226142825288029847 tw11751356608624084920 tw12926718825839183023 tw12417342081356471668 tw13533786117693046501 tw1586588519740432067 tw2957624528002931059 tw10587196108087682782 tw2989116858206471594 tw10188383659832867378 tw13991873833125214810 tw1644385493510439622 tw11952333126184349299 tw9231697344527373689 tw6832431905079636142 tw16831354318468416277 tw18212520984235161731 tw14829831797334522884 tw5981367630356170304 tw8863126666542703921 tw5421715147155392209 tw2955339872475932671 tw3932432279359092594 tw7777268543011186564 tw11136038635108197173 tw764917776446549853 tw11987004510322803244 tw4124643316596362138 tw8662895940872675834 tw9930806973161073937 tw17907583741648603206 tw11719999356975516762 tw12190964966774811015 tw7592982540322382615 tw13906552977425548713 tw17843039474590753315 tw14760086723094172838 tw11001396650343954136 tw7715857709561210202 tw17246128492223710519 tw7751560921201615953 tw1204554610546352025 tw14677027840260357447 tw8186071276635943428 tw9214515856510529213 tw16869043518858280859 tw1853053438535607784 tw1902812932934101545 tw2284520868851198139 tw1073749572429572169 tw5380238811569099626 tw4595191381049046573 tw14398725630622912774 tw18195691111856100274 tw17433671112020970482 tw17714086169441617364 tw10204199836194383234 tw10290552958222316853 tw8605021317137930720 tw16482716205029505991 tw13024143105285238957 tw15855969915349654961 tw17483585417878578242 tw14371064103287351596 tw925883572696289903 tw16210601149159285368 tw13629742023448401851 tw11944313294873457151:True)
namespace Lake.FB
open PySem
def Jm {P1:ee}{w1:World}{K1:W.Frag}{mg1:Str->el dZ}{base1:Heap}{C1:dY}{f1:dY}{CX1:u4}{fd1:eg}{k1:Nat}{x1:Str}{ps1:ef Str}(sp1:Sp)(c:qx K1 C1)(h:fB P1 w1 K1 mg1 base1 CX1 k1 f1 fd1 ps1 sp1)(b:iM K1 fd1 ps1 [])(m:wH K1 C1 x1 f1):Mt P1 w1 K1 mg1 base1 C1 CX1 k1 x1 ps1 sp1:=⟨c,f1,fd1,h,b,m⟩
def Jn {P2:ee}{w2:World}{K2:W.Frag}{mg2:Str->el dZ}{base2:Heap}{C2:dY}{f2:dY}{CX2:u4}{fd2:eg}{k2:Nat}{x2:Str}{ps2:ef Str}(sp2:Sp)(a:mg2 x2=some (.ref C2))(M:Mk K2 C2 f2)(h:fB P2 w2 K2 mg2 base2 CX2 k2 f2 fd2 ps2 sp2)(b:iM K2 fd2 ps2 []):BO P2 w2 K2 mg2 base2 C2 CX2 k2 x2 ps2 sp2:=⟨a,f2,fd2,M,h,b⟩
def Hn {P3:ee}{w3:World}{K3:W.Frag}{mg3:Str->el dZ}{base3:Heap}{f3:dY}{CX3:u4}{fd3:eg}{k3:Nat}{x3:Str}{ps3:ef Str}(a:Sp)(h:fB P3 w3 K3 mg3 base3 CX3 k3 f3 fd3 ps3 a)(b:iM K3 fd3 ps3 [])(q:W.keepIn K3 (.ref f3)=true)(m:mg3 x3=some (.ref f3))(hk:autoParam (k3<=9) Aq._auto_1):Gd P3 w3 K3 mg3 base3 CX3 9 x3 ps3 a:=⟨f3,fd3,h.mono hk,b,q,m⟩
def all_mk {l:W.OpenLaw}{w:World}{K:W.Frag}{h:Heap}{mg:Str->el dZ}{fa CB CC CL CT CF CS f1 f2 f3 f4 f5 f6 f7 f8 f9 f10 f11 f12 f13 f14 f15 f16 f17 f18 f19 f20 f21 f22 f23 f24 f25 f26 f27 f28 f29 f30 f31 f32 f33 f34 f35 fm1 fm2 fm3 fm4 fm5 fm6 fm7 fm8 fm9 fm10 fm11 fm12 fm13 fm14 fm15 fm16 fm17 fm18 fm19 fm20 fm21 fm22 fm23 fm24 fm25 fm26 fm27 fm28 fm29 fm30 fm31 PP:dY}(X:K.In h)(G:h.Ns mainGlobals mg)(oi:mg "law" = some (.ref fa))(Z:D3 K "Board" CB)(Y:W.findIn K (.ref CB) "needs" = some none)(t:W.findIn K (.ref CB) "versions" = some none)(x:D3 K "Chart" CC)(ad:W.findIn K (.ref CC) "board" = some none)(al:W.findIn K (.ref CC) "bits" = some none)(I:W.findIn K (.ref CC) "by_bit" = some none)(A:W.findIn K (.ref CC) "of_part" = some none)(C:W.findIn K (.ref CC) "allowed" = some none)(y:W.findIn K (.ref CC) "shut_out" = some none)(as:W.findIn K (.ref CC) "foes" = some none)(D:D3 K "Ledger" CL)(ah:W.findIn K (.ref CL) "chart" = some none)(S:W.findIn K (.ref CL) "masks" = some none)(B:W.findIn K (.ref CL) "reasons" = some none)(j:W.findIn K (.ref CL) "place_by_mask" = some none)(i:W.findIn K (.ref CL) "places_by_pick" = some none)(a5:D3 K "Stand" CT)(L:W.findIn K (.ref CT) "picked" = some none)(a0:W.findIn K (.ref CT) "dead" = some none)(O:W.findIn K (.ref CT) "wanted" = some none)(a2:D3 K "Fork" CF)(ap:W.findIn K (.ref CF) "part" = some none)(ag:W.findIn K (.ref CF) "stand" = some none)(a4:W.findIn K (.ref CF) "bit" = some none)(d:D3 K "Search" CS)(aa:W.findIn K (.ref CS) "chart" = some none)(J:W.findIn K (.ref CS) "ledger" = some none)(R:W.findIn K (.ref CS) "forks" = some none)(d1:lu K "clashes" pG f1)(d2:lu K "count_picks" vw f2)(d3:lu K "worked_out" rR f3)(d4:lu K "first_bad" Ez f4)(d5:lu K "marked" r8 f5)(d6:lu K "has_all" sq f6)(d7:lu K "follows" pF f7)(d8:lu K "need_told" zR f8)(d9:lu K "leaves_no_version" sg f9)(s0:lu K "fits" Ab f10)(i2:lu K "checked_board" pH f11)(r3:lu K "check_picks" sv f12)(h7:lu K "clashes_with" Ey f13)(q7:lu K "lacks_pick" zW f14)(s1:lu K "first_need" vv f15)(o9:lu K "named_parts" vo f16)(n5:lu K "_law_whole" vg f17)(h8:lu K "_law_at" Jd f18)(ov:lu K "_law_version_by" Eu f19)(nl:lu K "_law_need_by" zT f20)(kj:lu K "_law_shelf_by" vn f21)(q8:lu K "_law_start_by" py f22)(lb:lu K "_law_copy_of" Ac f23)(m0:lu K "_law_needs_in" pC f24)(sa:lu K "_law_meets" sj f25)(lf:lu K "_law_newest" rY f26)(ky:lu K "_law_is_pick" sk f27)(ns:lu K "_law_are_picks" nz f28)(sm:lu K "_law_fits" vt f29)(pp:lu K "_law_is_line" so f30)(l4:lu K "_law_holds" pE f31)(kd:lu K "_law_lines_hold" mo f32)(ru:lu K "_law_asked_by" vy f33)(rr:lu K "_law_mixed" vp f34)(l0:ml K CB "__init__" "Board.__init__" zY fm1)(h9:ml K CB "meeting" "Board.meeting" pD fm2)(ls:ml K CC "__init__" "Chart.__init__" sw fm3)(kl:ml K CC "give_bits" "Chart.give_bits" Aa fm4)(r7:ml K CC "allowed_by" "Chart.allowed_by" pI fm5)(ih:ml K CC "shut_out_by" "Chart.shut_out_by" pz fm6)(q3:ml K CC "make_foes_mutual" "Chart.make_foes_mutual" r6 fm7)(js:ml K CC "listed" "Chart.listed" r9 fm8)(r5:ml K CL "__init__" "Ledger.__init__" si fm9)(c6:ml K CL "put_down" "Ledger.put_down" Ev fm10)(gb:ml K CL "place_against" "Ledger.place_against" rX fm11)(c7:ml K CL "barred_with" "Ledger.barred_with" sB fm12)(e8:ml K CL "told" "Ledger.told" vh fm13)(g5:ml K CT "__init__" "Stand.__init__" rT fm14)(cv:ml K CF "__init__" "Fork.__init__" su fm15)(dn:ml K CS "__init__" "Search.__init__" rV fm16)(c0:ml K CS "opening" "Search.opening" pB fm17)(hx:ml K CS "wanted_by" "Search.wanted_by" rS fm18)(ed:ml K CS "left" "Search.left" zV fm19)(c1:JU K CS "next_part" "Search.next_part" ui fm20 PP)(g8:ml K CS "go_on" "Search.go_on" zZ fm21)(e1:ml K CS "stand_behind" "Search.stand_behind" sy fm22)(dp:ml K CS "go_back" "Search.go_back" sr fm23)(hn:ml K CS "mark_dead" "Search.mark_dead" zU fm24)(gx:ml K CS "shut" "Search.shut" zS fm25)(c2:ml K CS "place_of_need" "Search.place_of_need" rW fm26)(ek:ml K CS "line_against" "Search.line_against" vq fm27)(gd:ml K CS "outside" "Search.outside" pA fm28)(ga:ml K CS "show_newest" "Search.show_newest" vi fm29)(e7:ml K CS "newer_picks" "Search.newer_picks" rZ fm30)(fk:ml K CS "show_barred" "Search.show_barred" vm fm31){oc kV dc pm cd ct:dZ}{od an:el dY}{sl:Array (el dZ)}(aL:W.nsIn K mainGlobals "law" = some (some (.ref f35)))(lL:K.lookup f35=some ⟨oc,od,.func (W.fnOf "law" "law" (io l7) (gO l7) (eK l7) .none kV dc pm an cd ct),sl⟩)(cL:W.codeIn K cd "law" = true)(kL:W.keepIn K (.ref f35)=true)(z1:W.nsIn K mainGlobals "len" = some none)(z2:W.nsIn K mainGlobals "range" = some none)(z3:W.nsIn K mainGlobals "list" = some none)(z4:W.nsIn K mainGlobals "tuple" = some none)(z5:W.nsIn K mainGlobals "str" = some none)(z6:W.nsIn K mainGlobals "int" = some none)(z7:W.nsIn K mainGlobals "bool" = some none)(z8:W.nsIn K mainGlobals "isinstance" = some none)(z9:W.nsIn K mainGlobals "sorted" = some none)(cl:W.nsIn K mainGlobals "reversed" = some none)(h1:W.nsIn K mainGlobals "zip" = some none)(n4:W.nsIn K mainGlobals "max" = some none)(co:W.nsIn K mainGlobals "min" = some none)(lk:W.nsIn K mainGlobals "sum" = some none)(bv:W.nsIn K mainGlobals "dict" = some none)(gt:W.nsIn K mainGlobals "enumerate" = some none):∃(fd:eg) (cP:dY),W.codeHdIn K cP PP=true/\(∀(s:d0) (v:dZ),BindsTo s fd ⟨[v],[]⟩ [("_law_script",v)])/\∀base:Heap,K.In base->base.Ns mainGlobals mg->tZ mg base->fB l.prog w K mg base fC 10 fa fd ["_law_script"] (xL K PP):=by have e:=oi.symm.trans (W.mg_of X G aL);cases e;have T:uZ K mg:=⟨(aY X G z1),(aY X G z2),(aY X G z3),(aY X G z4),(aY X G z5),(aY X G z6),(aY X G z7),(aY X G z8),(aY X G z9),(aY X G cl)⟩;obtain⟨_,F1,b1,k1,m1⟩:=d1.u X G (ps:=["need","pick"]);obtain⟨_,F2,b2,k2,m2⟩:=d2.u X G (ps:=["mask"]);obtain⟨_,F3,b3,k3,m3⟩:=d3.u X G (ps:=["shelf","start"]);obtain⟨_,F4,b4,k4,m4⟩:=d4.u X G (ps:=["shelf","start","lines"]);obtain⟨_,F5,b5,k5,m5⟩:=d5.u X G (ps:=["picks"]);obtain⟨_,F6,b6,k6,m6⟩:=d6.u X G (ps:=["among","picks"]);obtain⟨_,F7,b7,k7,m7⟩:=d7.u X G (ps:=["board","lines","place"]);obtain⟨_,F8,b8,k8,m8⟩:=d8.u X G (ps:=["board","among","reason"]);obtain⟨_,F9,b9,k9,m9⟩:=d9.u X G (ps:=["board","among","need","below","lines","place"]);obtain⟨_,r2,rb,l5,n0⟩:=s0.u X G (ps:=["shelf","start","picks"]);obtain⟨_,op,kk,mq,j1⟩:=i2.u X G (ps:=["shelf","start","picks"]);obtain⟨_,nm,sn,se,o4⟩:=r3.u X G (ps:=["board","picks"]);obtain⟨_,p6,re,rx,qs⟩:=h7.u X G (ps:=["need","picked"]);obtain⟨_,oa,q4,kn,p5⟩:=q7.u X G (ps:=["need","picked"]);obtain⟨_,kh,qn,l1,pg⟩:=s1.u X G (ps:=["board","picks","wrong"]);obtain⟨_,lw,lv,mm,oq⟩:=o9.u X G (ps:=["board","picks"]);obtain⟨_,ny,eb,hv,es⟩:=n5.u X G (ps:=["_law_found"]);obtain⟨_,pd,g7,e5,ep⟩:=h8.u X G (ps:=["_law_script","_law_k"]);obtain⟨_,lp,h0,hu,hm⟩:=ov.u X G (ps:=["_law_cell"]);obtain⟨_,sh,be,ba,bf⟩:=nl.u X G (ps:=["_law_cell"]);obtain⟨_,nt,kp,sf,ks⟩:=kj.u X G (ps:=["_law_cells"]);obtain⟨_,i0,on,o6,kx⟩:=q8.u X G (ps:=["_law_cells"]);obtain⟨_,ne,nx,mu,kq⟩:=lb.u X G (ps:=["_law_shelf"]);obtain⟨_,o2,fv,gk,hy⟩:=m0.u X G (ps:=["_law_shelf","_law_pick"]);obtain⟨_,pc,bd,a9,bq⟩:=sa.u X G (ps:=["_law_need","_law_version"]);obtain⟨_,nb,h5,j0,rk⟩:=lf.u X G (ps:=["_law_shelf","_law_need"]);obtain⟨_,n6,dv,hz,hw⟩:=ky.u X G (ps:=["_law_found"]);obtain⟨_,po,hh,ej,gn⟩:=ns.u X G (ps:=["_law_found"]);obtain⟨_,n1,l8,os,px⟩:=sm.u X G (ps:=["_law_shelf","_law_start","_law_picks"]);obtain⟨_,nd,le,r1,i3⟩:=pp.u X G (ps:=["_law_found"]);obtain⟨_,l2,kt,kw,ma⟩:=l4.u X G (ps:=["_law_shelf","_law_start","_law_lines","_law_spot"]);obtain⟨_,kv,rz,n7,ss⟩:=kd.u X G (ps:=["_law_shelf","_law_start","_law_lines"]);obtain⟨_,ly,q9,n8,o8⟩:=ru.u X G (ps:=["_law_script"]);obtain⟨_,o3,p9,kb,pq⟩:=rr.u X G (ps:=["_law_script"]);obtain⟨_,n9,h4,da⟩:=l0.u (ps:=["self","shelf","start"]);obtain⟨_,o1,n3,p2⟩:=h9.u (ps:=["self","need"]);obtain⟨_,ra,sx,g9⟩:=ls.u (ps:=["self","board"]);obtain⟨_,pb,pa,l6⟩:=kl.u (ps:=["self"]);obtain⟨_,lo,lx,rv⟩:=r7.u (ps:=["self","who"]);obtain⟨_,sb,h6,lm⟩:=ih.u (ps:=["self","who"]);obtain⟨_,sc,pn,mb⟩:=q3.u (ps:=["self"]);obtain⟨_,na,rq,np⟩:=js.u (ps:=["self","mask"]);obtain⟨_,l3,lz,g6⟩:=r5.u (ps:=["self","chart"]);obtain⟨_,ev,ea,hi⟩:=c6.u (ps:=["self","mask","reason"]);obtain⟨_,eq,cs,e4⟩:=gb.u (ps:=["self","pick","picked"]);obtain⟨_,h3,ez,hb⟩:=c7.u (ps:=["self","pick","picked"]);obtain⟨_,hs,hj,fr⟩:=e8.u (ps:=["self"]);obtain⟨_,fp,em,a7⟩:=g5.u (ps:=["self","picked","dead","wanted"]);obtain⟨_,hq,gg,a6⟩:=cv.u (ps:=["self","part","stand"]);obtain⟨_,ho,fo,a8⟩:=dn.u (ps:=["self","chart"]);obtain⟨_,bx,h2,ec⟩:=c0.u (ps:=["self"]);obtain⟨_,hf,gw,hp⟩:=hx.u (ps:=["self","wanted","who","picked"]);obtain⟨_,ha,ds,dy⟩:=ed.u (ps:=["self","stand","part"]);obtain⟨_,_,bm,go,e9,ex⟩:=c1.u (ps:=["self","stand"]);obtain⟨_,c4,g2,f0⟩:=g8.u (ps:=["self"]);obtain⟨_,he,g1,fu⟩:=e1.u (ps:=["self","fork"]);obtain⟨_,gp,cy,c8⟩:=dp.u (ps:=["self","place"]);obtain⟨_,c9,eh,cp⟩:=hn.u (ps:=["self","bit","place"]);obtain⟨_,hl,ft,ew⟩:=gx.u (ps:=["self","fork","known"]);obtain⟨_,cx,hc,cz⟩:=c2.u (ps:=["self","who","part"]);obtain⟨_,e2,hd,dl⟩:=ek.u (ps:=["self","pick"]);obtain⟨_,hg,ht,ei⟩:=gd.u (ps:=["self","who","pick"]);obtain⟨_,eu,cn,hr⟩:=ga.u (ps:=["self","picked"]);obtain⟨_,fl,ch,g0⟩:=e7.u (ps:=["self","fork"]);obtain⟨_,ey,e6,gh⟩:=fk.u (ps:=["self","pick","kept","forks"]);have r0:=nT (st:=l7) lL cL kL;refine⟨W.fnOf "law" "law" (io l7) (gO l7) (eK l7) .none kV dc pm an cd ct,_,ex,λs v=>.of_eq rfl,λbase _ _ la=>?_⟩;have o:=@Jm l.prog w K mg base;have mr:=@Jn l.prog w K mg base;have p:=@Hn l.prog w K mg base;have m:TB K mg CB:=⟨Z.c,Y,t,W.mg_of X G Z.a,(aY X G z3),(aY X G z9)⟩;have b:TC K mg CC:=⟨x.c,ad,al,I,A,C,y,as,(aY X G z9),(aY X G n4),(aY X G co),(aY X G lk)⟩;have r:TL K mg CL:=⟨D.c,ah,S,B,j,i,(aY X G z1),(aY X G h1)⟩;have F:Dw K mg CT:=⟨a5.c,L,a0,O⟩;have q:BN K mg CF:=⟨a2.c,ap,ag,a4⟩;have g:t9 K mg CS:=⟨d.c,aa,J,R,(aY X G bv),(aY X G co),(aY X G z3),(aY X G gt),(aY X G cl)⟩;have a1:=vM (P:=l.prog) (w:=w) (mg:=mg) (base:=base) F1;have e0:=AS (P:=l.prog) (w:=w) (mg:=mg) (base:=base) F2;have bl:=mr (qq CB) (W.mg_of X G Z.a) ⟨Z.mk_,da.at_,da.fn,Z.kc⟩ (AO n9 m) h4;have a3:=o (kJ CB) Z.c (vJ o1 m (iK a1 b1 k1 m1)) n3 p2;have U:=o (j9 CC) x.c (ym na b) rq np;have nk:=o (BJ CB CC) x.c (C3 pb b m) pa l6;have p1:=o (qr CB CC) x.c (vN lo b m a3) lx rv;have ms:=o (qk CC) x.c (vF sb b) h6 lm;have o0:=o (tK CC) x.c (yj sc b U) pn mb;have is:=mr (tS CB CC) (W.mg_of X G x.a) ⟨x.mk_,g9.at_,g9.fn,x.kc⟩ (yx ra b m nk p1 ms o0) sx;have q1:=mr (tL CL) (W.mg_of X G D.a) ⟨D.mk_,g6.at_,g6.fn,D.kc⟩ (yn l3 r) lz;have c5:=o (Du CB CC CL) D.c (EI ev r U) ea hi;have kf:=o (tJ CB CC CL) D.c (yh eq r b) cs e4;have n2:=o (tU CB CC CL) D.c (yA h3 r) ez hb;have mp:=o (wu CB CC CL) D.c (AG hs r U) hj fr;have hk:=mr (pe CT) (W.mg_of X G a5.a) ⟨a5.mk_,a7.at_,a7.fn,a5.kc⟩ (ye fp F) em;have rs:=mr (tQ CF) (W.mg_of X G a2.a) ⟨a2.mk_,a6.at_,a6.fn,a2.kc⟩ (yw hq q) gg;have q2:=mr (tI CL CS) (W.mg_of X G d.a) ⟨d.mk_,a8.at_,a8.fn,d.kc⟩ (yf ho g q1) fo;have e3:=o (xK CB CC CS CT) d.c (CW ha g b F) ds dy;have dx:=o (oZ CB CC CS) d.c (yd hf g b (iK e0 b2 k2 m2)) gw hp;have fy:=o (pf CB CC CS) d.c (yg cx g b m) hc cz;have ko:=o (ql CB CC CL CS) d.c (vG hg g b m (iK a1 b1 k1 m1) c5) ht ei;have c3:=o (qp CB CC CL CS CF CT) d.c (CV e2 g b F q ko U kf) hd dl;have dd:=o (xG CB CC CL CS CF CT) d.c (CO hl g b r m F q fy a3 c3 c5) ft ew;have fx:=o (xJ CB CC CL CS CF CT) d.c (CU c9 g r F q) eh cp;have mc:=o (tO CB CC CL CS CF CT) d.c (yt gp g r q fx) cy c8;have rt:=o (tT CB CC CL CS CF CT) d.c (yz he g b F q n2 dx hk) g1 fu;have nq:=o (qm CB CC CL CS CT) d.c (vH bx g b dx hk) h2 ec;have j2:=o (BI CB CC CL CS CF CT) d.c (CZ c4 g b q U e3 rt dd mc) g2 f0;have o5:=o (vc CB CC CS CT zy yJ PP) d.c (CP bm ex la g b F (iK e0 b2 k2 m2) e3) go e9;have pl:=o (wy CB CC CS CF CT) d.c (AK fl g b m q fy a3) ch g0;have iv:=o (wx CB CC CL CS CF CT) d.c (AI ey g b r q c3 dd fx) e6 gh;have k0:=o (ww CB CC CL CS CF CT) d.c (AH eu g b q pl iv) cn hr;have WO:=yc F3 g F bl is q2 rs nq o5 j2 mp k0 U;have V:=EH (P:=l.prog) (w:=w) (mg:=mg) (base:=base) lp;have N:=CQ sh (iK V h0 hu hm);have M:=yl (P:=l.prog) (w:=w) (mg:=mg) (base:=base) pc;have SB:=vE i0 (iK N be ba bf);have NI:=vI (P:=l.prog) (w:=w) (mg:=mg) (base:=base) o2;have AT:=GZ (P:=l.prog) (w:=w) (base:=base) pd T;have SH:=AJ nt T (iK V h0 hu hm) (iK N be ba bf);have NW:=yi nb T (iK M bd a9 bq);have HO:=yr l2 T (iK NI fv gk hy) (iK M bd a9 bq) (iK (NW.imp λvs H Q E z=>Jl vs H Q E z) h5 j0 rk);have WH:=AE (P:=l.prog) (w:=w) (base:=base) ny T;have IP:=yo n6 T (iK WH eb hv es);have AP:=uq po T (iK IP dv hz hw);have IL:=yp nd T (iK AP hh ej gn) (iK IP dv hz hw) (iK WH eb hv es);have sp:=yy (P:=l.prog) (w:=w) (mg:=mg) (base:=base) nm m;have ob:=AU op bl (iK sp sn se o4);have it:=EK p6 (iK a1 b1 k1 m1);have q6:=CY (P:=l.prog) (w:=w) (mg:=mg) (base:=base) oa;have p7:=AR (P:=l.prog) (w:=w) (base:=base) kh m (aY X G bv) (aY X G gt);have jn:=AL (P:=l.prog) (w:=w) (base:=base) lw m (aY X G bv);have r4:=yk (P:=l.prog) (w:=w) (mg:=mg) (base:=base) F5;have nf:=vL (P:=l.prog) (w:=w) (mg:=mg) (base:=base) F6;have ry:=AF (P:=l.prog) (w:=w) (base:=base) F8 m (aY X G z1);have lq:=vK F9 (aY X G z1) (aY X G h1) a3 (iK nf b6 k6 m6);have i1:=uo F7 (iK r4 b5 k5 m5) (iK ry b8 k8 m8) (iK a1 b1 k1 m1) (iK lq b9 k9 m9);have g4:=p xQ (C5 F4 (aY X G z1) (aY X G z2) bl (iK i1 b7 k7 m7)) b4 k4 m4;have q0:=p xO (AQ r2 (aY X G z1) (iK p7 qn l1 pg) (iK ob kk mq j1) it re (rx) qs (q6.mono (by decide)) q4 (kn) p5 (iK jn lv mm oq)) rb l5 n0;have ox:=p (Iw K) (AT) g7 e5 ep;have pu:=p uV (N) be ba bf;have nj:=p (wB K) (AV ly (iK SH kp sf ks) (iK SB on o6 kx) (iK AT g7 e5 ep)) q9 n8 o8;have o7:=p rC (C4 ne T) nx mu kq;have qa:=p (wz K) (AM o3 T) p9 kb pq;have ka:=p lh (sO kv T (iK IL le r1 i3) (iK (HO.mono (by decide)) kt kw ma)) rz n7 ss;have pk:=p kM (AP) hh ej gn;have ro:=p tM (AN n1 T (iK NI fv gk hy) (iK M bd a9 bq)) l8 os px;have g3:=p (oY PP) (WO) b3 k3 m3;exact EJ r0 T ox pu nj o7 qa ka pk ro q0 g4 g3
def walk {l:W.OpenLaw}{q:ee}{loose:ef Str}{XP:(Str->el dZ)->Heap->Prop}{YP:World->Heap->Prop}{d:DefRec}{K:Params->W.Frag}{PP:dY}(hn:l.most=some 63)(hdf:d.params.defaults=[])(hY:∀(w:World) (h:Heap),YP w h->(K w.params).In h)(hY2:∀(w:World) (h:Heap),YP w h->h.get? PP=some (W.tabObj #[]))(hKP:∀w:World,(K w.params).lookup PP=none)(F:∀(w:World) (mg:Str->el dZ) (fa:dY) (h:Heap),(K w.params).In h->h.Ns mainGlobals mg->mg d.name=some (.ref fa)->∃(fd:eg) (cP:dY),W.codeHdIn (K w.params) cP PP=true/\(∀(s:d0) (u:dZ),BindsTo s fd ⟨[u],[]⟩ [("_law_script",u)])/\∀base:Heap,(K w.params).In base->base.Ns mainGlobals mg->tZ mg base->fB l.prog w (K w.params) mg base fC 10 fa fd ["_law_script"] (xL (K w.params) PP)):W.WalkO q loose XP YP l.row.toRowW d [] (λf vs=>PySem.call f vs):=
 zq (n:=63) (k:=10) (x:="_law_script") (sp:=λw=>xL (K w.params) PP) hn (by decide) hdf ⟨rfl,by decide,by decide⟩ hY hY2 hKP F λ_ _ a ns hl hS hP=>⟨a,ns,rfl,hS,hl,.inl hP,λ_=>rfl⟩
end Lake.FB
open PySem PySem.W PyProof.Rows
set_option maxRecDepth 100000 in
set_option maxHeartbeats 0 in
theorem PySem.Challenge.cw_fitboard_k09_whole_more_needs_holds : PySem.Challenge.rw_fitboard_k09_whole_more_needs.Holds := by
 w_on;o_law;k_head;(case hw=>w_witness2)
 k_fill
 refine Lake.FB.walk (l:=PySem.Challenge.rw_fitboard_k09_whole_more_needs) rfl rfl (λw h Y=>W.km_in_of Y) (λw h Y=>W.km_tabs_of Y _ (List.Mem.head _)) (λw=>by kernel_rfl) ?F
 case F=>
  intro w mg fa h KX G hmg;refine' Lake.FB.all_mk KX G hmg ⟨?_,?_,?_,?_,?_,?_,?_⟩ ?_ ?_ ⟨?_,?_,?_,?_,?_,?_,?_⟩ ?_ ?_ ?_ ?_ ?_ ?_ ?_ ⟨?_,?_,?_,?_,?_,?_,?_⟩ ?_ ?_ ?_ ?_ ?_ ⟨?_,?_,?_,?_,?_,?_,?_⟩ ?_ ?_ ?_ ⟨?_,?_,?_,?_,?_,?_,?_⟩ ?_ ?_ ?_ ⟨?_,?_,?_,?_,?_,?_,?_⟩ ?_ ?_ ?_ (.mk ?_ ?_ ?_ ?_) (.mk ?_ ?_ ?_ ?_) (.mk ?_ ?_ ?_ ?_) (.mk ?_ ?_ ?_ ?_) (.mk ?_ ?_ ?_ ?_) (.mk ?_ ?_ ?_ ?_) (.mk ?_ ?_ ?_ ?_) (.mk ?_ ?_ ?_ ?_) (.mk ?_ ?_ ?_ ?_) (.mk ?_ ?_ ?_ ?_) (.mk ?_ ?_ ?_ ?_) (.mk ?_ ?_ ?_ ?_) (.mk ?_ ?_ ?_ ?_) (.mk ?_ ?_ ?_ ?_) (.mk ?_ ?_ ?_ ?_) (.mk ?_ ?_ ?_ ?_) (.mk ?_ ?_ ?_ ?_) (.mk ?_ ?_ ?_ ?_) (.mk ?_ ?_ ?_ ?_) (.mk ?_ ?_ ?_ ?_) (.mk ?_ ?_ ?_ ?_) (.mk ?_ ?_ ?_ ?_) (.mk ?_ ?_ ?_ ?_) (.mk ?_ ?_ ?_ ?_) (.mk ?_ ?_ ?_ ?_) (.mk ?_ ?_ ?_ ?_) (.mk ?_ ?_ ?_ ?_) (.mk ?_ ?_ ?_ ?_) (.mk ?_ ?_ ?_ ?_) (.mk ?_ ?_ ?_ ?_) (.mk ?_ ?_ ?_ ?_) (.mk ?_ ?_ ?_ ?_) (.mk ?_ ?_ ?_ ?_) (.mk ?_ ?_ ?_ ?_) (.mk ?_ ?_ ?_ ?_ ?_) (.mk ?_ ?_ ?_ ?_ ?_) (.mk ?_ ?_ ?_ ?_ ?_) (.mk ?_ ?_ ?_ ?_ ?_) (.mk ?_ ?_ ?_ ?_ ?_) (.mk ?_ ?_ ?_ ?_ ?_) (.mk ?_ ?_ ?_ ?_ ?_) (.mk ?_ ?_ ?_ ?_ ?_) (.mk ?_ ?_ ?_ ?_ ?_) (.mk ?_ ?_ ?_ ?_ ?_) (.mk ?_ ?_ ?_ ?_ ?_) (.mk ?_ ?_ ?_ ?_ ?_) (.mk ?_ ?_ ?_ ?_ ?_) (.mk ?_ ?_ ?_ ?_ ?_) (.mk ?_ ?_ ?_ ?_ ?_) (.mk ?_ ?_ ?_ ?_ ?_) (.mk ?_ ?_ ?_ ?_ ?_) (.mk ?_ ?_ ?_ ?_ ?_) (.mk ?_ ?_ ?_ ?_ ?_) (.mk ?_ ?_ ?_ ?_ ?_ ?_) (.mk ?_ ?_ ?_ ?_ ?_) (.mk ?_ ?_ ?_ ?_ ?_) (.mk ?_ ?_ ?_ ?_ ?_) (.mk ?_ ?_ ?_ ?_ ?_) (.mk ?_ ?_ ?_ ?_ ?_) (.mk ?_ ?_ ?_ ?_ ?_) (.mk ?_ ?_ ?_ ?_ ?_) (.mk ?_ ?_ ?_ ?_ ?_) (.mk ?_ ?_ ?_ ?_ ?_) (.mk ?_ ?_ ?_ ?_ ?_) (.mk ?_ ?_ ?_ ?_ ?_) ?_ ?_ ?_ ?_ ?_ ?_ ?_ ?_ ?_ ?_ ?_ ?_ ?_ ?_ ?_ ?_ ?_ ?_ ?_ ?_
  all_goals try first|k_is|k_exc|kernel_rfl
