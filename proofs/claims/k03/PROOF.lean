import PyProof.Rows.All
import Wide.All
import OpenK.AllK
import Wide.FinOn
import PySem.Challenge.RW_fitboard_k03_refused
set_option Elab.async false
set_option linter.all false
set_option compiler.extract_closed false
set_option genSizeOf false
noncomputable section
set_option maxRecDepth 100000
section
open PySem PySem.Spec PyProof.Rows
abbrev fh:=@W.Frag
abbrev eP:=@Around
abbrev eQ:=@Addr
abbrev eR:=@Value
abbrev eU:=@Shared
abbrev eV:=@Program
abbrev eW:=@List
abbrev eX:=@Stmt
abbrev eY:=@Expr
abbrev eZ:=@FuncData
abbrev fb:=@Heap
abbrev fc:=@Option
abbrev fe:=@World
abbrev ff:=@Paired
abbrev fg:=@PyData
abbrev ac:=@wpAny_bind
abbrev ae:=@List.length_map
abbrev af:=@List.mem_singleton
abbrev ai:=@List.getElem?_map
abbrev aj:=@List.getElem?_eq_some_iff
abbrev ak:=@List.mem_of_getElem?
abbrev am:=@Nat.le_refl
abbrev ao:=@List.mem_cons
abbrev aq:=@decide_eq_true
abbrev ar:=@List.getElem?_eq_getElem
abbrev au:=@List.length_cons
abbrev av:=@wpAny_pure
abbrev aw:=@decide_eq_false
abbrev ax:=@if_neg
abbrev ay:=@if_pos
abbrev az:=@Heap.get?_push_of_some
abbrev aA:=@List.mem_map
abbrev aB:=@List.length_append
abbrev aC:=@List.map_append
abbrev aD:=@List.mem_iff_getElem?
abbrev aE:=@List.mem_append
abbrev aF:=@Option.map_eq_some_iff
abbrev aG:=@decide_eq_true_eq
abbrev aH:=@List.map_cons
abbrev aI:=@List.filter_cons
abbrev aJ:=@List.mem_append_right
abbrev aK:=@List.mem_append_left
abbrev aM:=@List.length_singleton
abbrev aN:=@List.take_length
abbrev aO:=@Heap.get?_push_size
abbrev aP:=@List.size_toArray
abbrev aQ:=@Bool.and_eq_true
abbrev aR:=@PySem.F.plainAttrs_list
abbrev aS:=@Heap.lt_size
abbrev aT:=@List.getElem?_append_left
abbrev aU:=@List.not_mem_nil
abbrev aV:=@Bool.false_ne_true
abbrev aW:=@List.length_take
abbrev aX:=@Nat.ne_of_lt
abbrev aY:=@List.mem_filter
abbrev aZ:=@List.take_succ
abbrev ba:=@of_decide_eq_true
abbrev bb:=@List.nodup_cons
abbrev bc:=@List.lookup_cons
abbrev bg:=@Nat.lt_of_lt_of_le
abbrev bh:=@List.getElem?_append_right
abbrev bi:=@List.getD_eq_getElem?_getD
abbrev bj:=@PySem.F.type_list_append
abbrev bn:=@PySem.F.slot_list_append
abbrev bo:=@Heap.get?_none_of_le
abbrev bp:=@Nat.zero_le
abbrev br:=@List.mem_map_of_mem
abbrev bt:=@List.mem_cons_of_mem
abbrev bu:=@Array.length_toList
abbrev bw:=@wpAny_holding
abbrev bz:=@Nat.le_trans
abbrev bA:=@wpAny_Call_Name_kw
abbrev bB:=@List.find?_cons
abbrev bC:=@PySem.mem_of_lookup
abbrev bD:=@List.idxOf_lt_length_iff
abbrev bE:=@Bool.eq_false_iff
abbrev bF:=@List.nodup_nil
abbrev bH:=@List.mem_cons_self
abbrev bJ:=@Int.emod_lt_of_pos
abbrev bK:=@List.length_filter_le
abbrev bL:=@Array.getElem?_toList
abbrev bN:=@List.all_eq_true
abbrev bO:=@wpAny_mono
abbrev bP:=@PySem.boot_len
abbrev bQ:=@Bool.not_eq_true'
abbrev bR:=@wpAny_dictEpoch
abbrev bS:=@Nat.two_pow_pos
abbrev bT:=@Int.emod_nonneg
abbrev bU:=@List.nodup_append
abbrev bV:=@List.length_eq_zero_iff
abbrev bW:=@Int.toNat_natCast
abbrev bX:=@Nat.lt_of_le_of_lt
abbrev bY:=@Nat.le_of_lt
abbrev bZ:=@List.append_nil
abbrev ca:=@strLen_append
abbrev cb:=@List.length_reverse
abbrev cc:=@wpAny_truthy_bool
abbrev ce:=@List.append_assoc
abbrev cf:=@Heap.get?_update_self
abbrev cg:=@Bool.false_and
abbrev ci:=@sizeLine_eq
abbrev cj:=@Nat.sub_self
abbrev ck:=@PySem.F.plain_min_loop
abbrev cm:=@Array.getElem?_eq_getElem
abbrev cq:=@Nat.not_lt_zero
abbrev cr:=@wpAny_rule
abbrev cu:=@List.getElem?_take
abbrev cw:=@List.filter_append
abbrev cA:=@Bool.false_eq_true
abbrev cB:=@wpAny_call_entry
abbrev cC:=@List.mem_reverse
abbrev cD:=@List.mem_of_mem_take
abbrev cE:=@Nat.le_of_eq
abbrev cF:=@List.reverse_cons
abbrev cG:=@List.getElem?_inj
abbrev cH:=@List.length_nil
abbrev cJ:=@Array.getD_eq_getD_getElem?
abbrev cK:=@List.take_of_length_le
abbrev cM:=@Heap.get?_update_other
abbrev cN:=@List.map_take
abbrev cO:=@List.getElem_idxOf
abbrev cQ:=@Bool.true_and
abbrev cR:=@List.map_map
abbrev cS:=@PySem.F.plainAttrs_dict
abbrev cT:=@Nat.testBit_two_pow_mul
abbrev cU:=@Nat.lt_irrefl
abbrev cV:=@List.reverse_append
abbrev cW:=@wpAny_typeNameOfWhole_keyiter
abbrev cX:=@PySem.F.slot_dict_setdefault
abbrev cY:=@wpAny_passesOwn
abbrev cZ:=@wpAny_notOrdered_dict
abbrev db:=@PySem.F.slot_dict_get
abbrev de:=@Nat.pow_succ
abbrev df:=@List.map_nil
abbrev dg:=@Bool.eq_iff_iff
abbrev dh:=@wpAny_dictEntries
abbrev di:=@List.pairwise_map
abbrev dj:=@Heap.get?_push_ne
abbrev dk:=@Array.getElem?_eq_some_iff
abbrev dm:=@List.reverse_reverse
abbrev dq:=@wpAny_tryCatch
abbrev dr:=@List.mem_of_find?_eq_some
abbrev dw:=@List.drop_eq_getElem_cons
abbrev dz:=@wpAny_forIn_list
abbrev dA:=@Nat.lt_succ_self
abbrev dB:=@Nat.le_add_right
abbrev dC:=@List.length_drop
abbrev dD:=@List.cons_append
abbrev dE:=@wpAny_typeNameOf_keyiter
abbrev dF:=@wpAny_ite_split
abbrev dG:=@wpAny_callSpecial?_slot
abbrev dH:=@tupleKind_room_in1
abbrev dJ:=@plainId_quiet
abbrev dL:=@PySem.F.slot_list_index
abbrev dM:=@List.getElem?_replicate
abbrev dO:=@Bool.or_eq_true
abbrev dP:=@wpAny_newObj_type
abbrev dQ:=@wpAny_Call_method
abbrev dR:=@Nat.lt_succ_of_lt
abbrev dU:=@Nat.le_succ
abbrev dW:=@List.take_sublist
abbrev dX:=@List.take_zero
abbrev dY:=@PySem.F.slot_list_getattribute
abbrev dZ:=@List.length_replicate
abbrev d0:=@List.getElem?_eq_none
abbrev ee:=@List.any_eq_true
abbrev ef:=@Heap.size_update
abbrev eg:=@Nat.mul_le_mul_right
abbrev ei:=@List.any_cons
abbrev eo:=@wpAny_execs_nil
abbrev er:=@codeAny_builtin
abbrev et:=@List.nil_append
abbrev eA:=@PySem.F.excBase_ValueError
abbrev eB:=@codeAny_mono
abbrev eD:=@Nat.lt_or_ge
abbrev eE:=@Nat.eq_zero_or_pos
abbrev eF:=@Nat.add_sub_cancel
abbrev eG:=@List.find?_eq_none
abbrev eJ:=@wpAny_setField
abbrev eK:=@wpAny_seqItems
abbrev eL:=@Heap.size_push
abbrev eM:=@call_meets
abbrev eN:=@boot_list
abbrev eO:=@Option.isSome_iff_exists
end
namespace Lake
open PySem PySem.Spec PyProof.Rows
variable {A:eP}{C a b dx:eQ}{CX:ul}{D:lO}{E Q:eR->eU->Prop}{H H':Hp}{K:fh}{M:Model}{P:eV}{X:Cx}{body:eW eX}{ch fp:eW eQ}{e tg:eY}{es:eW eY}{fd:eZ}{g:TG}{h h':fb}{i j t':Nat}{kw:eW (Str×eR)}{m x:Str}{mA mg:Str->fc eR}{o:HO}{op:CmpOp}{p pos pos':Pos}{pins:eW (eQ×Obj)}{pl:Sem Bool}{ps:eW Str}{s s':eU}{sp:Sp}{t ta te:TE}{tb:TS}{us:eW eR}{v y:V}{vs xs:eW V}{σ:St}
abbrev io:=Sum Int Str
noncomputable def rV:io->eR->Bool
 |.inl k,v=>Value.isInt k v
 |.inr x,v=>Value.isStrOf x v
noncomputable def J4 (w:fe):io->Int
 |.inl k=>hashInt k
 |.inr x=>hashStr w x
def iH:∀{k:io} {v:eR},rV k v=true->(∃i t,k=Sum.inl i/\v=Value.int i t)\/(∃x t,k=Sum.inr x/\v=Value.str x t)
 |.inl i,v,h=>by obtain⟨t,e⟩:=Value.isInt_shape (k:=i) (v:=v) h;exact .inl ⟨i,t,rfl,e⟩
 |.inr x,v,h=>by obtain⟨t,e⟩:=Value.isStrOf_shape (x:=x) (v:=v) h;exact .inr ⟨x,t,rfl,e⟩
def yZ (i:Int)(t:Tok):rV (.inl i) (.int i t)=true:=by simp[rV,Value.isInt]
def yY (x:Str)(t:Tok):rV (.inr x) (.str x t)=true:=by simp[rV,Value.isStrOf]
def FN (a b:Int):decide ((Sum.inl a:io)=Sum.inl b)=(a == b):=by by_cases e:a=b;subst e;simp;have h:¬(Sum.inl a:io)=Sum.inl b:=λq=>e (Sum.inl.inj q);rw[aw h];exact(beq_eq_false_iff_ne.mpr e).symm
def FK (a b:Str):decide ((Sum.inr a:io)=Sum.inr b)=decide (a=b):=by by_cases e:a=b;subst e;simp;have h:¬(Sum.inr a:io)=Sum.inr b:=λq=>e (Sum.inr.inj q);rw[aw h,aw e]
def FM (a:Int)(b:Str):decide ((Sum.inl a:io)=Sum.inr b)=false:=aw (λq=>nomatch q)
def FL (a:Str)(b:Int):decide ((Sum.inr a:io)=Sum.inl b)=false:=aw (λq=>nomatch q)
def gm (prog:eV)(w:fe):PySem.KeyKind prog w io where
 is:=rV
 hash:=J4 w
 inj:=λv a b ha hb=>by
  rcases iH ha with ⟨i,t,rfl,rfl⟩|⟨x,t,rfl,rfl⟩
  rcases iH hb with ⟨j,u,rfl,e⟩|⟨y,u,rfl,e⟩
  injection e with e1 _;rw[e1]
  exact nomatch e;rcases iH hb with ⟨j,u,rfl,e⟩|⟨y,u,rfl,e⟩
  exact nomatch e;injection e with e1 _;rw[e1]
 byValue:=λk v h=>by rcases iH h with ⟨i,t,rfl,rfl⟩|⟨x,t,rfl,rfl⟩ <;> rfl
 pyHash:=λhv h=>by
  rcases iH hv with ⟨i,t,rfl,rfl⟩|⟨x,t,rfl,rfl⟩
  exact wpAny_pyHash_int h;exact wpAny_pyHash_str h
 eqBool:=λhu hv h=>by
  rcases iH hu with ⟨i,t,rfl,rfl⟩|⟨x,t,rfl,rfl⟩
  rcases iH hv with ⟨j,u,rfl,rfl⟩|⟨y,u,rfl,rfl⟩
  rw[FN]at h;exact wpAny_eqBool_int h;rw[FM]at h;exact SeqAt.EqAt.int_str i t y u _ _ _ _ h;rcases iH hv with ⟨j,u,rfl,rfl⟩|⟨y,u,rfl,rfl⟩
  rw[FL]at h;exact SeqAt.EqAt.str_int x t j u _ _ _ _ h;rw[FK]at h;exact wpAny_eqBool_str h
 «strs»:=λk x t v h=>by
  rcases iH h with ⟨i,u,rfl,e⟩|⟨y,u,rfl,e⟩
  exact nomatch e;injection e with e1 _
  subst e1;cases v <;> rfl
def uK (prog:eV)(w:fe)(i:Int)(t:Tok):(gm prog w).is (.inl i) (.int i t)=true:=yZ i t
def uJ (prog:eV)(w:fe)(x:Str)(t:Tok):(gm prog w).is (.inr x) (.str x t)=true:=yY x t
inductive V where
 |non|bl (b:Bool)|int (i:Int)|str (x:Str)|byt (b:Array UInt8)|flt (b:UInt64)|ref (a:eQ)|ty (n:String)
 deriving DecidableEq
def gl:V->eR->Prop
 |.non,u=>u=Value.none
 |.bl b,u=>u=Value.bool b
 |.int i,u=>∃t,u=Value.int i t
 |.str x,u=>∃t,u=Value.str x t
 |.byt b,u=>∃t,u=Value.bytes b t
 |.flt b,u=>∃t,u=Value.float b t
 |.ref a,u=>u=Value.ref a
 |.ty n,u=>u=Value.type n
abbrev g0:eW V->eW eR->Prop:=ff gl
def g0.length (r:g0 xs us):xs.length=us.length:=Paired.length r
theorem g0.get:∀{xs:eW V} {us:eW eR} {i:Nat} {x:V},g0 xs us->xs[i]?=some x->∃u,us[i]?=some u/\gl x u
 |_,_,_,_,.nil,e=>by simp at e
 |_,_,0,_,.cons r _,e=>by simp at e;subst e;exact⟨_,rfl,r⟩
 |_,_,i+1,x,.cons _ t,e=>by obtain⟨u,h1,h2⟩:=g0.get (i:=i) (x:=x) t (by simpa using e);exact⟨u,by simpa using h1,h2⟩
theorem g0.append:∀{xs ys:eW V} {us ws:eW eR},g0 xs us->g0 ys ws->g0 (xs++ys) (us++ws)
 |_,_,_,_,.nil,s=>s
 |_,_,_,_,.cons r t,s=>.cons r (g0.append t s)
theorem g0.take:∀{xs:eW V} {us:eW eR} (n:Nat),g0 xs us->g0 (xs.take n) (us.take n)
 |_,_,0,_=>.nil
 |_,_,_+1,.nil=>.nil
 |_,_,n+1,.cons r t=>.cons r (g0.take n t)
theorem g0.drop:∀{xs:eW V} {us:eW eR} (n:Nat),g0 xs us->g0 (xs.drop n) (us.drop n)
 |_,_,0,r=>r
 |_,_,_+1,.nil=>.nil
 |_,_,n+1,.cons _ t=>g0.drop n t
def ki:fc V->fc eR->Prop
 |some v,some u=>gl v u
 |none,none=>True
 |_,_=>False
def KV {κ:Type}:eW (κ×V)->eW (κ×eR)->Prop:=ff λ(p:κ×V) (q:κ×eR)=>p.1=q.1/\gl p.2 q.2
noncomputable def kV:io->V
 |.inl i=>.int i
 |.inr x=>.str x
inductive HO where
  |lst (xs:eW V)
  |tup (xs:eW V)
  |dK (kvs:eW (io×V))|dT (kvs:eW (eW io×V))|dN (kvs:eW (fc (eW io)×V))
  |set (S:Int->Bool) (n:Nat)
  |ins (C dx:eQ) (fs:eW (Str×V))
  |own (x:eQ)
  |xd (fs:eW (Str×V))
  |met (f x:eQ)
  |rng (lo hi:Int)
  |frz (o:Obj) (u:HO)
  |tbl (ps:Array eR)
  |ext (φ:fb->Prop)
abbrev Hp:=eQ->fc HO
abbrev hJ:=fc (eW io)
def wW (H:Hp):hJ->eR->Prop
 |none,u=>u=.none
 |some ks,u=>∃b,u=.ref b/\H b=some (.tup (ks.map kV))
def mQ (P:eV)(w:fe):hJ->Int
 |none=>W.hashW w.params .none
 |some ks=>(tupleKind (gm P w)).hash ks
def uW (P:eV)(w:fe)(x:hJ×eR×eR):DictEntry:=⟨mQ P w x.1,x.2.1,x.2.2⟩
abbrev Cg (H:Hp):eW (hJ×V)->eW (hJ×eR×eR)->Prop:=ff λp q=>p.1=q.1/\wW H p.1 q.2.1/\gl p.2 q.2.2
noncomputable def upd (H:Hp)(a:eQ)(o:HO):Hp:=λb=>if b=a then some o else H b
def fj:upd H a o a=some o:=by unfold upd;rw[ay rfl]
def fw (h:b≠a):upd H a o b=H b:=by unfold upd;rw[ax h]
def jT {u:HO}:upd (upd H a o) a u=upd H a u:=by funext b;unfold upd;split <;> rfl
def gF {u:HO}(h:H a=some o)(h':H b=some u)(d:o≠u):a≠b:=by intro e;subst e;rw[h]at h';exact d (Option.some.inj h')
def fC (h:H a=some o)(h':H b=none):a≠b:=by intro e;subst e;rw[h]at h';cases h'
section
variable (P:eV)(w:fe)
def ib (H:Hp)(h:fb)(a:eQ):HO->Prop
 |.lst xs=>xs.length<=sizeLine/\∃(its:eW eR) (n:Nat),g0 xs its/\h.get? a=some {cls:=.type "list",data:=.seq its.toArray n}
 |.tup xs=>xs.length<=sizeLine/\∃its:eW eR,g0 xs its/\IsTup h a its.toArray
 |.dK kvs=>kvs.length<=sizeLine/\(a == sysModules)=false/\∃vs,KV kvs vs/\h.DictOf (gm P w) a vs
 |.dT kvs=>kvs.length<=sizeLine/\(a == sysModules)=false/\∃xs:eW (eW io×eQ×eR),
   ff (λ(p:eW io×V) (q:eW io×eQ×eR)=>p.1=q.1/\H q.2.1=some (.tup (p.1.map kV))/\gl p.2 q.2.2) kvs xs/\
   ∃o es ep,h.get? a=some o/\o.ExactDict/\o.data=.dict es ep/\es.toList=xs.map (entryOfKey (tupleKind (gm P w)))/\(xs.map (·.1)).Nodup
 |.dN kvs=>kvs.length<=sizeLine/\(a == sysModules)=false/\∃xs,Cg H kvs xs/\∃o es ep,h.get? a=some o/\o.ExactDict/\o.data=.dict es ep/\es.toList=xs.map (uW P w)/\(xs.map (·.1)).Nodup
 |.set S n=>h.SetOf (intKind P w) a S n
 |.ins C dx fs=>H dx=some (.own a)/\fs.length<=1000/\dx≠a/\h.get? a=some (W.instObj C dx)/\
   ∃mA,h.Ns1 dx mA/\(∀f,ki (fs.lookup f) (mA f))/\PySem.Within mA (fs.map (·.1))
 |.own _=>∃o,h.get? a=some o
 |.xd fs=>∃mA,h.Ns1 a mA/\∀f,ki (fs.lookup f) (mA f)
 |.rng lo hi=>∃t u v,h.get? a=some {cls:=.type "range",data:=.fields #[.int lo t,.int hi u,.int 1 v]}
 |.frz o u=>h.get? a=some o/\ib H h a u
 |.tbl ps=>h.get? a=some {cls:=.none,data:=.fields ps}
 |.met f x=>h.get? a=some (W.methodObj (.ref f) (.ref x))
 |.ext φ=>φ h/\(∃o,h.get? a=some o)/\∀h1 h2:fb,φ h1->(∀o,h1.get? a=some o->h2.get? a=some o)->φ h2
def mj (H:Hp)(h:fb):Prop:=∀a o,H a=some o->ib P w H h a o
end
section
variable {w:fe}
def ib.lt (x:ib P w H h a o):a<h.objs.size:=by cases o with|lst xs=>obtain⟨_,_,_,_,e⟩:=x;exact aS e|tup xs=>obtain⟨_,_,_,p⟩:=x;exact p.lt|dK kvs=>obtain⟨_,_,_,_,o,_,_,e,_⟩:=x;exact aS e|dT kvs=>obtain⟨_,_,_,_,o,_,_,e,_⟩:=x;exact aS e|dN kvs=>obtain⟨_,_,_,_,o,_,_,e,_⟩:=x;exact aS e|set S n=>obtain⟨o,_,_,_,e,_⟩:=x;exact aS e|ins C dx fs=>obtain⟨_,_,_,e,_⟩:=x;exact aS e|own y=>obtain⟨_,e⟩:=x;exact aS e|xd fs=>obtain⟨_,⟨_,_,_,e,_⟩,_⟩:=x;exact aS e|rng lo hi=>obtain⟨_,_,_,e⟩:=x;exact aS e|frz ob u=>obtain⟨e,_⟩:=x;exact aS e|tbl ps=>exact aS (show h.get? a=some _ from x)|met f y=>exact aS (show h.get? a=some _ from x)|ext φ=>obtain⟨_,⟨_,e⟩,_⟩:=x;exact aS e
theorem Paired.LJ {α β:Type}{F G:α->β->Prop}:∀{l₁:eW α} {l₂:eW β},ff F l₁ l₂->(∀a b,F a b->G a b)->ff G l₁ l₂
 |_,_,.nil,_=>.nil
 |_,_,.cons r t,f=>.cons (f _ _ r) (Paired.LJ t f)
def ib.LK (x:ib P w H h a o)(k:∀b u,(b=a\/H b=some (.own a))->h.get? b=some u->h'.get? b=some u)(E:∀b,H b=some (.own a)->H' b=some (.own a))(A:∀b xs,H b=some (.tup xs)->H' b=some (.tup xs)):ib P w H' h' a o:=by
 induction o with
 |lst xs=>obtain⟨z,l,n,r,e⟩:=x;exact⟨z,l,n,r,k _ _ (.inl rfl) e⟩
 |tup xs=>obtain⟨z,l,r,g,e,c⟩:=x;exact⟨z,l,r,g,k _ _ (.inl rfl) e,c⟩
 |dK kvs=>obtain⟨z,y,G,r,g,i,j,e,c⟩:=x;exact⟨z,y,G,r,g,i,j,k _ _ (.inl rfl) e,c⟩
 |dT kvs=>obtain⟨z,y,xs,r,g,i,j,e,c⟩:=x;exact⟨z,y,xs,Paired.LJ r λp q z=>⟨z.1,A _ _ z.2.1,z.2.2⟩,g,i,j,k _ _ (.inl rfl) e,c⟩
 |dN kvs=>obtain⟨z,y,xs,r,g,i,j,e,c⟩:=x;refine⟨z,y,xs,Paired.LJ r λp q z=>⟨z.1,?_,z.2.2⟩,g,i,j,k _ _ (.inl rfl) e,c⟩;obtain⟨D,L⟩:=p;cases D with|none=>exact z.2.1|some ks=>obtain⟨b,F,I⟩:=z.2.1;exact⟨b,F,A _ _ I⟩
 |set S n=>obtain⟨g,i,j,t,e,c⟩:=x;exact⟨g,i,j,t,k _ _ (.inl rfl) e,c⟩
 |ins C dx fs=>obtain⟨d,z,J,e,m,⟨s,i,j,K,c⟩,r⟩:=x;exact⟨E _ d,z,J,k _ _ (.inl rfl) e,m,⟨s,i,j,k _ _ (.inr d) K,c⟩,r⟩
 |own y=>obtain⟨g,e⟩:=x;exact⟨g,k _ _ (.inl rfl) e⟩
 |xd fs=>obtain⟨m,⟨s,i,j,e,c⟩,r⟩:=x;exact⟨m,⟨s,i,j,k _ _ (.inl rfl) e,c⟩,r⟩
 |rng lo hi=>obtain⟨t,u,v,e⟩:=x;exact⟨t,u,v,k _ _ (.inl rfl) e⟩
 |frz g u ih=>obtain⟨e,q⟩:=x;exact⟨k _ _ (.inl rfl) e,ih q⟩
 |tbl ps=>have e:h.get? a=some {cls:=.none,data:=.fields ps}:=x;show h'.get? a=some {cls:=.none,data:=.fields ps};exact k a _ (.inl rfl) e
 |met f y=>have e:h.get? a=some (W.methodObj (.ref f) (.ref y)):=x;show h'.get? a=some (W.methodObj (.ref f) (.ref y));exact k a _ (.inl rfl) e
 |ext φ=>obtain⟨p,⟨o,e⟩,B⟩:=x;exact⟨B _ _ p λo q=>k _ _ (.inl rfl) q,⟨o,k _ _ (.inl rfl) e⟩,B⟩
def mj.lt (x:mj P w H h)(e:H a=some o):a<h.objs.size:=(x a o e).lt
def mj.fresh (x:mj P w H h)(e:h.objs.size<=a):H a=none:=by cases q:H a with|none=>rfl|some u=>exact absurd (bg (x.lt q) e) (cU _)
def mj.kept (x:mj P w H h)(k:∀b u,h.get? b=some u->h'.get? b=some u):mj P w H h':=λa o e=>
 (x a o e).LK (λb u _ q=>k b u q) (λ_ q=>q) λ_ _ q=>q
def mj.laid (x:mj P w H h)(k:∀b u,h.get? b=some u->h'.get? b=some u)(hp:h.objs.size<=a)(new:ib P w (upd H a o) h' a o):mj P w (upd H a o) h':=λb u e=>by
 have hn:=x.fresh hp;by_cases hb:b=a;subst hb;rw[fj]at e;cases e;exact new;rw[fw hb]at e;exact(x b u e).LK (λc v _ q=>k c v q) (λc q=>by rw[fw (fC q hn)];exact q) λc xs q=>by rw[fw (fC q hn)];exact q
end
def Rd (H:Hp)(a:eQ)(u:HO):Prop:=H a=some u\/∃o,H a=some (.frz o u)
def Rd.ok {w:fe}{u:HO}(r:Rd H a u)(x:mj P w H h):ib P w H h a u:=by rcases r with r|⟨o,r⟩;exact x a u r;obtain⟨_,q⟩:=x a _ r;exact q
def IE:fc HO->Prop
 |some (.lst _)=>True
 |some (.dK _)=>True
 |some (.dT _)=>True
 |some (.dN _)=>True
 |some (.set _ _)=>True
 |some (.ins _ _ _)=>True
 |some (.ext _)=>True
 |_=>False
section
variable {w:fe}{x e:eQ}{o':HO}
def mj.write (ok:mj P w H h)(a:IE (H x))(g:e=x\/H e=some (.own x))(k:∀b u,b≠e->h.get? b=some u->h'.get? b=some u)(d:∃u,h'.get? e=some u)(new:ib P w (upd H x o') h' x o'):mj P w (upd H x o') h':=λb u q=>by
 have nown:∀c y,H c=some (.own y)->c≠x:=λc y r z=>by subst z;rw[r]at a;exact a
 have ntup:∀c xs,H c=some (.tup xs)->c≠x:=λc xs r z=>by subst z;rw[r]at a;exact a
 by_cases hb:b=x;subst hb;rw[fj]at q;cases q;exact new;rw[fw hb]at q;by_cases hbe:b=e;have q':H b=some (.own x):=by rcases g with z|z;exact absurd (hbe.trans z) hb;rw[hbe];exact z
 rw[q]at q';cases q';obtain⟨v,i⟩:=d;exact⟨v,by rw[hbe];exact i⟩;refine(ok b u q).LK (λc v hc r=>k c v ?_ r) (λc r=>by rw[fw (nown c b r)];exact r) λc xs r=>by rw[fw (ntup c xs r)];exact r
 rcases hc with rfl|hc;exact hbe;rintro rfl;rcases g with z|z;exact nown c b hc z;rw[hc]at z;cases z;exact hb rfl
end
structure Un (fs ex:eW eQ)(H H':Hp)(h h':fb):Prop where
 keep:∀b o,h.get? b=some o->H b=none->b∉fs->b∉ex->h'.get? b=some o
 slot:∀b o,h.get? b=some o->H b=none->b∈fs->b∉ex->∃sl,h'.get? b=some {o with slots:=sl}
 free:∀b o,h.get? b=some o->H b=none->b∉ex->H' b=none
 there:∀b o,h.get? b=some o->b∉ex->∃o',h'.get? b=some o'
 tups:∀b xs,H b=some (.tup xs)->H' b=some (.tup xs)
 frzs:∀b o u,H b=some (.frz o u)->H' b=some (.frz o u)
 tbls:∀b ps,H b=some (.tbl ps)->∃more,H' b=some (.tbl (ps++more))
section
variable {fs fs' ex ex':eW eQ}{H1 H2:Hp}{h1 h2:fb}{x e:eQ}
def Un.any (u:Un fs ex H H1 h h1){ob:Obj}(q:h.get? b=some ob)(n:H b=none)(hx:b∉ex):∃sl,h1.get? b=some {ob with slots:=sl}:=by by_cases hb:b∈fs;exact u.slot b ob q n hb hx;exact⟨ob.slots,u.keep b ob q n hb hx⟩
def Un.kept (k:∀b u,h.get? b=some u->h'.get? b=some u):Un fs ex H H h h':=
 ⟨λb ob q _ _ _=>k b ob q,λb ob q _ _ _=>⟨ob.slots,k b ob q⟩,λ_ _ _ n _=>n,λb ob q _=>⟨ob,k b ob q⟩,λ_ _ q=>q,λ_ _ _ q=>q,λ_ ps q=>⟨#[],by rw[q];simp⟩⟩
def Un.refl:Un fs ex H H h h:=Un.kept λ_ _ q=>q
def Un.laid (k:∀b u,h.get? b=some u->h'.get? b=some u)(hp:h.objs.size<=a)(hn:H a=none):Un fs ex H (upd H a o) h h' where
 keep:=λb u q _ _ _=>k b u q
 slot:=λb u q _ _ _=>⟨u.slots,k b u q⟩
 free:=λb u q n _=>by rw[fw (aX (bg (aS q) hp))];exact n
 there:=λb u q _=>⟨u,k b u q⟩
 tups:=λb xs q=>by rw[fw (fC q hn)];exact q
 frzs:=λb u xs q=>by rw[fw (fC q hn)];exact q
 tbls:=λb ps q=>⟨#[],by rw[fw (fC q hn),q];simp⟩
def Un.write (a:IE (H x))(m:e=x\/H e=some (.own x))(k:∀b u,b≠e->h.get? b=some u->h'.get? b=some u)(g:∃u,h'.get? e=some u):Un fs ex H (upd H x o) h h':=by
 have j:∀b,H b=none->b≠x:=λb n z=>by subst z;rw[n]at a;exact a
 have i:∀b,H b=none->b≠e:=λb n z=>by subst z;rcases m with r|r;exact j b n r;rw[n]at r;cases r
 have d:∀b u,H b=some u->¬IE (some u)->b≠x:=λb u q l z=>by subst z;rw[q]at a;exact l a
 refine⟨λb u q n _ _=>k b u (i b n) q,λb u q n _ _=>⟨u.slots,k b u (i b n) q⟩,λb u q n _=>by rw[fw (j b n)];exact n,λb u q _=>?_,
  λb p q=>by rw[fw (d b _ q λz=>z)];exact q,λb u p q=>by rw[fw (d b _ q λz=>z)];exact q,λb s q=>⟨#[],by rw[fw (d b _ q λz=>z),q];simp⟩⟩
 by_cases hbe:b=e;subst hbe;exact g;exact⟨u,k b u hbe q⟩
end
noncomputable def Jb (h:fb)(H:Hp):eW eQ:=(List.range h.objs.size).filter λa=>(H a).isSome
def rm (h:fb)(H:Hp):fb:=W.hideAll h (Jb h H)
def y8 (h:fb)(H:Hp):(rm h H).objs.size=h.objs.size:=W.hideAll_size _ _
def Bw {o:Obj}(e:h.get? b=some o)(n:H b=none):(rm h H).get? b=some o:=
 W.hideAll_get _ e λhm=>by have q:(H b).isSome=true:=(aY.mp hm).2;rw[n]at q;simp at q
def Dq {o:Obj}(e:(rm h H).get? b=some o):h.get? b=some o/\H b=none:=by have a:h.get? b=some o:=W.of_hideAll (Jb h H) e;refine⟨a,?_⟩;cases q:H b with|none=>rfl|some x=>have d:b∈Jb h H:=aY.mpr ⟨List.mem_range.mpr (aS a),by simp[q]⟩;have z:(rm h H).get? b=none:=W.hideAll_none (Jb h H) d;rw[z]at e;cases e
structure Mod (K:fh)(mg:Str->fc eR)(base:fb):Prop where
 kin:K.In base
 glob:base.Ns mainGlobals mg
 blt:∃mb,base.Ns builtinsNs mb/\∀x:Str,x≠"__name__"->mb x=bootBuiltins x
 nolimit:base.NoLimit
structure Cx where
 prog:eV
 w:fe
 K:fh
 mg:Str->fc eR
 base:fb
 A:eP
 N:eW Str
 s₀:eU
 H₀:Hp
 env:Env
 outer:eW Env
 stack:eW Env
 ex:eW eQ
 fn:Str->Bool
 calm:Bool
 pn:eW (eQ×Obj)
 xe:eR->eU->Prop
noncomputable def uq (l:eW Env):eW eQ:=l.filterMap (·.frame)
abbrev Cx.fs (X:Cx):eW eQ:=uq X.outer
def DQ (sc:Scope)(x:Str):Prop:=sc.names.lookup x=some .local\/sc.names.lookup x=some .cell\/sc.names.lookup x=some .free
def IF (sc:Scope)(x:Str):Prop:=sc.names.lookup x=some .local\/sc.names.lookup x=some .cell
def Kq (env:Env)(h:fb)(m:Str->fc eR)(x:Str)(u:eR):Prop:=
 (env.kindOf x=some .local/\m x=some u)\/((env.kindOf x=some .cell\/env.kindOf x=some .free)/\∃c,env.cells.lookup x=some c/\h.IsCell c (some u))
structure Cx.Ok (X:Cx):Prop where
 mod:Mod X.K X.mg X.base
 kind:X.env.scope.kind=.function
 glob:X.env.globals=mainGlobals
 blt:X.env.builtins=builtinsNs
 above:X.s₀.heap.objs.size<=X.env.locals
 inj:∀x y c,X.env.cells.lookup x=some c->X.env.cells.lookup y=some c->x=y
 has:∀x,(X.env.kindOf x=some .cell\/X.env.kindOf x=some .free)->∃c,X.env.cells.lookup x=some c
 cab:∀x c,X.fn x=true->X.env.cells.lookup x=some c->X.s₀.heap.objs.size<=c
 hd:X.calm=true->X.A.handled=none
 frames:X.A.frames=some X.stack
 stk:X.stack=X.outer\/(X.stack=X.env::X.outer/\X.env.frame=some X.env.locals)
 exf:∀b∈X.ex,b≠X.env.locals/\∀x c,X.env.cells.lookup x=some c->c≠b
 bs:∀b o,X.base.get? b=some o->X.s₀.heap.get? b=some o/\X.H₀ b=none
 bsz:X.base.objs.size<=X.s₀.heap.objs.size
 noex:∀b o,X.base.get? b=some o->b∉X.ex
 exfs:∀b∈X.ex,b∉X.fs
 funs:X.s₀.heap.FunFrames X.base X.outer
 frf:∀b∈X.fs,X.H₀ b=none
structure fR (X:Cx)(pins:eW (eQ×Obj))(σ:eW (fc V))(H:Hp)(s:eU):Prop where
 ok:X.Ok
 os:s.os=X.s₀.os
 bare:AllBare s.gens
 base:Un X.fs X.ex X.H₀ H X.s₀.heap s.heap
 loc:∃m,s.heap.Ns X.env.locals m/\∀(i:Nat) (x:Str) (v:V),X.N[i]?=some x->σ[i]?=some (some v)->DQ X.env.scope x->∃u,gl v u/\Kq X.env s.heap m x u
 cell:∀x c,X.env.cells.lookup x=some c->∃v,s.heap.IsCell c v
 free:H X.env.locals=none
 freeC:∀x c,X.env.cells.lookup x=some c->H c=none
 pin:∀p∈X.pn++pins,s.heap.get? p.1=some p.2/\H p.1=none/\p.1≠X.env.locals/\p.1∉X.fs/\∀v,p.2.data≠.cell v
 hok:mj X.prog X.w H s.heap
 len:σ.length=X.N.length
section
variable {σ:eW (fc V)}
def Cx.Ok.LL (ok:X.Ok){o:Obj}(e:X.base.get? b=some o):b∉X.fs:=λhb=>by
 have:=(ok.funs.mem hb).1;rw[e]at this;cases this
def fR.bs (I:fR X pins σ H s):∀b o,X.base.get? b=some o->s.heap.get? b=some o/\H b=none:=λb o e=>
 ⟨I.base.keep b o (I.ok.bs b o e).1 (I.ok.bs b o e).2 (I.ok.LL e) (I.ok.noex b o e),I.base.free b o (I.ok.bs b o e).1 (I.ok.bs b o e).2 (I.ok.noex b o e)⟩
def fR.bk (I:fR X pins σ H s):∀b o,X.base.get? b=some o->s.heap.get? b=some o:=λb o e=>(I.bs b o e).1
def fR.mod (I:fR X pins σ H s):Mod X.K X.mg X.base:=I.ok.mod
def fR.kIn (I:fR X pins σ H s):X.K.In s.heap:=I.ok.mod.kin.keeps I.bk
def fR.nolimit (I:fR X pins σ H s):s.heap.NoLimit:=I.ok.mod.nolimit.keeps I.bk
def fR.lt (I:fR X pins σ H s):X.env.locals<s.heap.objs.size:=(by obtain⟨_,hn,_⟩:=I.loc;exact hn.lt)
def fR.sz (I:fR X pins σ H s):X.s₀.heap.objs.size<=s.heap.objs.size:=bz I.ok.above (bY I.lt)
def fR.LM (I:fR X pins σ H s)(h:s.heap.objs.size<=a):a∉X.fs:=λhb=>by
 obtain⟨_,o,ho,_⟩:=I.ok.funs.mem hb;exact absurd (bg (aS ho) (bz I.sz h)) (cU _)
def fR.cne (I:fR X pins σ H s):∀x c,X.env.cells.lookup x=some c->c≠X.env.locals:=λx c e z=>by
 obtain⟨v,o,ho,hd⟩:=I.cell x c e;obtain⟨m,⟨o',es,ep,ho',hd',_⟩,_⟩:=I.loc;rw[z,ho']at ho;cases ho;rw[hd']at hd;cases hd
def fR.funs (I:fR X pins σ H s):s.heap.FunFrames X.base X.outer:=by
 have all:∀(l:eW Env),(∀b∈uq l,b∈X.fs)->X.s₀.heap.FunFrames X.base l->s.heap.FunFrames X.base l:=by intro l;induction l with|nil=>intro _ _;trivial|cons env r ih=>intro h m;obtain⟨t,⟨L,o,a,q,j,i⟩,p⟩:=m;have g:L∈X.fs:=h L (by unfold uq;rw[List.filterMap_cons,a];exact bH);obtain⟨v,e⟩:=I.base.slot L o j (I.ok.frf L g) g λz=>I.ok.exfs L z g;exact⟨t,⟨L,_,a,q,e,i⟩,ih (λb d=>h b (by unfold uq;rw[List.filterMap_cons,a];exact bt _ d)) p⟩
 exact all X.outer (λ_ d=>d) I.ok.funs
def fR.stack (I:fR X pins σ H s):s.heap.FunFrames X.base X.stack:=by rcases I.ok.stk with e|⟨e,a⟩;rw[e];exact I.funs;rw[e];obtain⟨m,b,_⟩:=I.loc;refine .cons (by rw[I.ok.kind];decide) a b ?_ I.funs;exact bo (bz I.ok.bsz I.ok.above)
def fR.LN (I:fR X pins σ H s):∀b∈uq X.stack,b∈X.env.locals::X.fs:=λb hb=>by
 rcases I.ok.stk with e|⟨e,hf⟩;rw[e]at hb;exact bt _ hb;rw[e]at hb;unfold uq at hb;rw[List.filterMap_cons,hf]at hb;exact hb
def fR.LO (I:fR X pins σ H s):∀b∈uq X.stack,H b=none:=λb hb=>by
 rcases ao.mp (I.LN b hb) with e|hb;rw[e];exact I.free;obtain⟨_,o,ho,_⟩:=I.ok.funs.mem hb;exact I.base.free b o ho (I.ok.frf b hb) λz=>I.ok.exfs b z hb
def fR.step {g':Array GenState}{d':Drawn}(I:fR X pins σ H s)(j:∀b∈ch,(b∈X.ex\/X.s₀.heap.get? b=none)/\b≠X.env.locals/\(∀x c,X.env.cells.lookup x=some c->c≠b)/\∀p∈X.pn++pins,p.1≠b)(keep:∀b o,b≠X.env.locals->b∉X.fs->b∉ch->s.heap.get? b=some o->H b=none->h'.get? b=some o)(slot:∀b o,b≠X.env.locals->b∈X.fs->b∉ch->s.heap.get? b=some o->H b=none->∃sl,h'.get? b=some {o with slots:=sl})(free:∀b o,b∉ch->s.heap.get? b=some o->H b=none->H' b=none)(there:∀b o,b∉ch->s.heap.get? b=some o->∃o',h'.get? b=some o')(tups:∀b xs,H b=some (.tup xs)->H' b=some (.tup xs))(frzs:∀b o u,H b=some (.frz o u)->H' b=some (.frz o u))(tbls:∀b ps,H b=some (.tbl ps)->∃more,H' b=some (.tbl (ps++more)))(ns:∀m,s.heap.Ns X.env.locals m->h'.Ns X.env.locals m)(F:mj X.prog X.w H' h')(M:AllBare g'):fR X pins σ H' {s with heap:=h',gens:=g',drawn:=d',toks:=t'}:=by
 have C:∀b o,X.s₀.heap.get? b=some o->b≠X.env.locals:=λb o e=>aX (bg (aS e) I.ok.above);have t:∀b o,X.s₀.heap.get? b=some o->b∉X.ex->b∉ch:=λb o e a A=>by rcases (j b A).1 with z|z;exact a z;rw[e]at z;cases z
 have g:∀x c,X.env.cells.lookup x=some c->∀v,s.heap.IsCell c v->h'.IsCell c v:=λx c e v ⟨o,B,E⟩=>by have h:c∉ch:=λz=>(j c z).2.2.1 x c e rfl;by_cases hc:c∈X.fs;obtain⟨sl,q⟩:=slot c o (I.cne x c e) hc h B (I.freeC x c e);exact⟨_,q,E⟩;exact⟨o,keep c o (I.cne x c e) hc h B (I.freeC x c e),E⟩
 refine⟨I.ok,I.os,M,⟨λb o e n A a=>?_,λb o e n A a=>?_,λb o e n a=>?_,λb o e a=>?_,λb xs e=>tups b xs (I.base.tups b xs e),λb o xs e=>frzs b o xs (I.base.frzs b o xs e),λb ps e=>?_⟩,?_,λx c e=>?_,?_,λx c e=>?_,λp hp=>?_,F,I.len⟩;exact keep b o (C b o e) A (t b o e a) (I.base.keep b o e n A a) (I.base.free b o e n a);obtain⟨sl,y⟩:=I.base.slot b o e n A a;obtain⟨G,D⟩:=slot b _ (C b o e) A (t b o e a) y (I.base.free b o e n a);exact⟨G,D⟩;obtain⟨o',y⟩:=I.base.there b o e a;exact free b o' (t b o e a) y (I.base.free b o e n a);obtain⟨o',y⟩:=I.base.there b o e a;exact there b o' (t b o e a) y;obtain⟨O,y⟩:=I.base.tbls b ps e;obtain⟨L,D⟩:=tbls b _ y;exact⟨O++L,by rw[D,Array.append_assoc]⟩;obtain⟨m,P,N⟩:=I.loc;refine⟨m,ns m P,λi x v y D Q=>?_⟩;obtain⟨u,r,l⟩:=N i x v y D Q;refine⟨u,r,?_⟩;rcases l with l|⟨k,c,e,z⟩;exact .inl l;exact .inr ⟨k,c,e,g x c e _ z⟩;obtain⟨v,z⟩:=I.cell x c e;exact⟨v,g x c e v z⟩;obtain⟨m,⟨o,_,_,B,_⟩,_⟩:=I.loc;exact free _ o (λz=>(j _ z).2.1 rfl) B I.free;obtain⟨v,o,B,E⟩:=I.cell x c e;exact free c o (λz=>(j c z).2.2.1 x c e rfl) B (I.freeC x c e);obtain⟨e,n,J,K,d⟩:=I.pin p hp;have h:p.1∉ch:=λz=>(j p.1 z).2.2.2 p hp rfl;exact⟨keep p.1 p.2 J K h e n,free p.1 p.2 h e n,J,K,d⟩
def fR.un (I:fR X pins σ H s)(u:Un X.fs [] H H' s.heap h')(g:mj X.prog X.w H' h'):fR X pins σ H' {s with heap:=h',toks:=t'}:=by
 obtain⟨m,⟨o,t,y,j,r⟩,_⟩:=id I.loc;obtain⟨A,q⟩:=u.any j I.free (by simp);exact I.step (g':=s.gens) (d':=s.drawn) (ch:=[]) (λ_ z=>nomatch z) (λb o _ d _ e n=>u.keep b o e n d (by simp)) (λb o _ d _ e n=>u.slot b o e n d (by simp)) (λb o _ e n=>u.free b o e n (by simp)) (λb o _ e=>u.there b o e (by simp)) u.tups u.frzs u.tbls (λx p=>by
  obtain⟨v,i,h,a,l⟩:=p;rw[j]at a;cases a
  exact⟨_,i,h,q,l⟩) g I.bare
def fR.call {g':Array GenState}{d':Drawn}(I:fR X pins σ H s)(u:Un (uq X.stack) ch H H' s.heap h')(h:mj X.prog X.w H' h')(y:AllBare g')(g:∀b∈ch,(b∈X.ex\/X.s₀.heap.get? b=none)/\b≠X.env.locals/\(∀x c,X.env.cells.lookup x=some c->c≠b)/\∀p∈X.pn++pins,p.1≠b):fR X pins σ H' {s with heap:=h',gens:=g',drawn:=d',toks:=t'}:=by
 obtain⟨m,⟨o,B,E,q,r⟩,_⟩:=id I.loc;obtain⟨F,j⟩:=u.any q I.free λz=>(g _ z).2.1 rfl;exact I.step (ch:=ch) g (λb o j v a e n=>u.keep b o e n (λz=>(ao.mp (I.LN b z)).elim j v) a) (λb o _ _ a e n=>u.any e n a) (λb o a e n=>u.free b o e n a) (λb o a e=>u.there b o e a) u.tups u.frzs u.tbls (λD A=>by
  obtain⟨C,l,i,d,t⟩:=A;rw[q]at d;cases d
  exact⟨_,l,i,j,t⟩) h y
def fR.turned {it:eQ}(I:fR X pins σ H s)(k:∀b o,b≠it->s.heap.get? b=some o->h'.get? b=some o)(y:H it=none)(g:it≠X.env.locals)(C:it∈X.ex\/X.s₀.heap.get? it=none)(i:∀x c,X.env.cells.lookup x=some c->c≠it)(t:∀p∈X.pn++pins,p.1≠it):fR X pins σ H {s with heap:=h',toks:=t'}:=by
 have d:∀b u,H b=some u->b≠it:=λb u e z=>by rw[z,y]at e;cases e
 refine I.step (g':=s.gens) (d':=s.drawn) (ch:=[it]) (λb l=>?_) (λb o _ _ a e _=>k b o (λz=>a (by simp[z])) e) (λb o _ _ a e _=>⟨o.slots,k b o (λz=>a (by simp[z])) e⟩) (λ_ _ _ _ n=>n)
  (λb o a e=>⟨o,k b o (λz=>a (by simp[z])) e⟩) (λ_ _ e=>e) (λ_ _ _ e=>e) (λb D e=>⟨#[],by rw[e];simp⟩) (λm A=>?_) (λb u e=>?_) I.bare
 have e:b=it:=by simpa using l
 subst e;exact⟨C,g,i,t⟩;obtain⟨o,j,B,h,r⟩:=A;exact⟨o,j,B,k _ o (Ne.symm g) h,r⟩;refine(I.hok b u e).LK (λc v a q=>k c v ?_ q) (λ_ q=>q) λ_ _ q=>q;rcases a with z|z;rw[z];exact d b u e;exact d c _ z
def fR.tok (I:fR X pins σ H s)(t:Nat):fR X pins σ H {s with toks:=t}:=I.un (h':=s.heap) (t':=t) Un.refl I.hok
def fR.kept (I:fR X pins σ H s)(k:∀b u,s.heap.get? b=some u->h'.get? b=some u):fR X pins σ H {s with heap:=h',toks:=t'}:=I.un (Un.kept k) (I.hok.kept k)
def fR.laid (I:fR X pins σ H s)(k:∀b u,s.heap.get? b=some u->h'.get? b=some u)(hp:s.heap.objs.size<=a)(new:ib X.prog X.w (upd H a o) h' a o):fR X pins σ (upd H a o) {s with heap:=h',toks:=t'}:=I.un (Un.laid k hp (I.hok.fresh hp)) (I.hok.laid k hp new)
def fR.write {x e:eQ}(I:fR X pins σ H s)(mu:IE (H x))(he:e=x\/H e=some (.own x))(k:∀b u,b≠e->s.heap.get? b=some u->h'.get? b=some u)(heo:∃u,h'.get? e=some u)(new:ib X.prog X.w (upd H x o) h' x o):fR X pins σ (upd H x o) {s with heap:=h',toks:=t'}:=I.un (Un.write mu he k heo) (I.hok.write mu he k heo new)
def fR.weak {σ':eW (fc V)}(I:fR X pins σ H s)(hl:σ'.length=σ.length)(w:∀(i:Nat) v,σ'[i]?=some (some v)->σ[i]?=some (some v)):fR X pins σ' H s:=
 ⟨I.ok,I.os,I.bare,I.base,(by obtain⟨m,hn,hl'⟩:=I.loc;exact⟨m,hn,λi x v e1 e2 e3=>hl' i x v e1 (w i v e2) e3⟩),I.cell,I.free,I.freeC,I.pin,I.hok,hl.trans I.len⟩
def fR.LP {pins':eW (eQ×Obj)}(I:fR X pins σ H s)(h:∀p∈pins',s.heap.get? p.1=some p.2/\H p.1=none/\p.1≠X.env.locals/\p.1∉X.fs/\∀v,p.2.data≠.cell v):fR X pins' σ H s:=
 ⟨I.ok,I.os,I.bare,I.base,I.loc,I.cell,I.free,I.freeC,λp hp=>(aE.mp hp).elim (λz=>I.pin p (aK _ z)) (h p),I.hok,I.len⟩
def uF {N:eW Str}(e:N.Nodup)(a:N[i]?=some x)(b:N[j]?=some x):i=j:=by obtain⟨h,d⟩:=aj.mp a;obtain⟨l,g⟩:=aj.mp b;exact(List.getElem_inj e).mp (d.trans g.symm)
def rG {u:eR}{Q:Unit->eU->Prop}(I:fR X pins σ H s)(hN:X.N.Nodup)(R:X.N[i]?=some x)(hx:IF X.env.scope x)(r:gl v u)(h:∀s',fR X pins (σ.set i (some v)) H s'->(∃a,Heap.SameBut a s.heap s'.heap/\(a=X.env.locals\/X.env.cells.lookup x=some a))->Q () s')(hf:X.fn x=true\/X.env.scope.names.lookup x=some .local:=by first|exact .inl rfl|exact .inr rfl|assumption):wpAny M A (storeName X.env x u) Q E s:=by
 obtain⟨m,hn,hl⟩:=id I.loc;have P:(X.env.scope.kind == .class||(X.env.scope.kind == .module&&X.env.locals != X.env.globals))=false:=by rw[I.ok.kind];rfl
 have O:i<σ.length:=by rw[I.len];exact(aj.mp R).1
 have cne:=I.cne;have l:∀{a:eQ} {G:fb},(∃o,s.heap.get? a=some o/\H a=none)->Heap.SameBut a s.heap G->mj X.prog X.w H G:=λ{a G} ha g b ob e=>by obtain⟨_,_,B⟩:=ha;refine(I.hok b ob e).LK (λc S hc q=>(g.2 c ?_).trans q) (λ_ q=>q) λ_ _ q=>q;rintro rfl;rcases hc with rfl|hc;rw[B]at e;cases e;rw[B]at hc;cases hc
 rcases hx with hk|hk;refine wpAny_storeName_local hk hn (λG aa g=>?_) P;obtain⟨oL,_,_,ab,_⟩:=id hn;refine h _ ⟨I.ok,I.os,I.bare,⟨λb o e n D hx=>?_,λb o e n D hx=>?_,I.base.free,λb o e hx=>?_,I.base.tups,I.base.frzs,I.base.tbls⟩,⟨_,aa,λj y Z t C e3=>?_⟩,λy c e=>?_,I.free,I.freeC,λp hp=>?_,l ⟨oL,ab,I.free⟩ g,by simpa using I.len⟩ ⟨_,g,.inl rfl⟩;exact(g.2 b (aX (bg (aS e) I.ok.above))).trans (I.base.keep b o e n D hx);obtain⟨sl,t⟩:=I.base.slot b o e n D hx;exact⟨sl,(g.2 b (aX (bg (aS e) I.ok.above))).trans t⟩;obtain⟨o',t⟩:=I.base.there b o e hx;exact⟨o',(g.2 b (aX (bg (aS e) I.ok.above))).trans t⟩;by_cases hj:j=i;subst hj;rw[R]at t;cases t;rw[List.getElem?_set_self O]at C;cases C;exact⟨u,r,.inl ⟨hk,by simp⟩⟩;rw[List.getElem?_set_ne (Ne.symm hj)]at C;obtain⟨u',Y,q⟩:=hl j y Z t C e3;refine⟨u',Y,?_⟩;rcases q with ⟨k,e⟩|⟨k,c,e,z⟩;refine .inl ⟨k,?_⟩;have:y≠x:=λe=>hj (uF hN t (e▸R));simp[this,e];exact .inr ⟨k,c,e,z.sameBut g (cne y c e)⟩;obtain⟨S,z⟩:=I.cell y c e;exact⟨S,z.sameBut g (cne y c e)⟩;obtain⟨e,n,U,nf,d⟩:=I.pin p hp;exact⟨(g.2 p.1 U).trans e,n,U,nf,d⟩;have F:X.fn x=true:=by rcases hf with z|z;exact z;rw[z]at hk;cases hk
 obtain⟨c,hc⟩:=I.ok.has x (.inl hk);obtain⟨S,z⟩:=I.cell x c hc;refine wpAny_storeName_cell I.ok.kind hk hc z (λG L g=>?_);obtain⟨oc,J,K⟩:=id z;refine h {s with heap:=G} ⟨I.ok,I.os,I.bare,⟨λb o e n D hx=>?_,λb o e n D hx=>?_,I.base.free,λb o e hx=>?_,I.base.tups,I.base.frzs,I.base.tbls⟩,⟨m,hn.sameBut g (Ne.symm (cne x c hc)),λj y Z t C e3=>?_⟩,λy T e=>?_,I.free,I.freeC,λp hp=>?_,l ⟨oc,J,I.freeC x c hc⟩ g,by simpa using I.len⟩ ⟨c,g,.inr hc⟩;exact(g.2 b (aX (bg (aS e) (I.ok.cab x c F hc)))).trans (I.base.keep b o e n D hx);obtain⟨sl,t⟩:=I.base.slot b o e n D hx;exact⟨sl,(g.2 b (aX (bg (aS e) (I.ok.cab x c F hc)))).trans t⟩;obtain⟨o',t⟩:=I.base.there b o e hx;exact⟨o',(g.2 b (aX (bg (aS e) (I.ok.cab x c F hc)))).trans t⟩;by_cases hj:j=i;subst hj;rw[R]at t;cases t;rw[List.getElem?_set_self O]at C;cases C;exact⟨u,r,.inr ⟨.inl hk,c,hc,L⟩⟩;rw[List.getElem?_set_ne (Ne.symm hj)]at C;obtain⟨u',Y,q⟩:=hl j y Z t C e3;refine⟨u',Y,?_⟩;rcases q with q|⟨k,T,e,z'⟩;exact .inl q;refine .inr ⟨k,T,e,z'.sameBut g ?_⟩;rintro rfl;exact hj (uF hN t (I.ok.inj _ _ _ e hc▸R));by_cases hcc:T=c;subst hcc;exact⟨_,L⟩;obtain⟨w2,z2⟩:=I.cell y T e;exact⟨w2,z2.sameBut g hcc⟩;obtain⟨e,n,U,nf,d⟩:=I.pin p hp;refine⟨(g.2 p.1 ?_).trans e,n,U,nf,d⟩;intro q;rw[q,J]at e;have q':oc=p.2:=Option.some.inj e;exact d S (by rw[<-q'];exact K)
def pR {u:eR}{Q:Unit->eU->Prop}(I:fR X pins σ H s)(d:X.N.Nodup)(b:X.N[i]?=some x)(hx:IF X.env.scope x)(r:gl v u)(h:∀s',fR X pins (σ.set i (some v)) H s'->Q () s')(hf:autoParam (X.fn x=true\/X.env.scope.names.lookup x=some .local) rG._auto_1):wpAny M A (storeName X.env x u) Q E s:=
 rG I d b hx r (λs' a _=>h s' a) hf
def fR.LQ (I:fR X pins σ H s)(g:s'.os=s.os)(u:Un (uq X.stack) ch H H' s.heap s'.heap)(a:mj X.prog X.w H' s'.heap)(h:AllBare s'.gens)(d:∀b∈ch,(b∈X.ex\/X.s₀.heap.get? b=none)/\b≠X.env.locals/\(∀x c,X.env.cells.lookup x=some c->c≠b)/\∀p∈X.pn++pins,p.1≠b):fR X pins σ H' s':=by obtain⟨j,g',d',t',i⟩:=s';have e:i=s.os:=g;subst e;exact I.call (g':=g') (t':=t') (d':=d') u a h d
end
abbrev XK:=eR->fc eQ->Hp->Prop
abbrev St:=eW (fc V)
abbrev VK:=V->Hp->Prop
abbrev TE:=St->Hp->VK->Prop
abbrev TT:=St->Hp->(Bool->Hp->Prop)->Prop
abbrev TA:=St->Hp->(eW V->Hp->Prop)->Prop
structure lO where
 nx:St->Hp->Prop
 rt:VK
 bk:St->Hp->Prop:=λ_ _=>False
 ct:St->Hp->Prop:=λ_ _=>False
abbrev TS:=lO->St->Hp->Prop
def EP (X:Cx)(pins:eW (eQ×Obj))(σ:St)(Q:VK)(u:eR)(s':eU):Prop:=∃v H',fR X pins σ H' s'/\gl v u/\Q v H'
def TP (X:Cx)(pins:eW (eQ×Obj))(σ:St)(Q:Bool->Hp->Prop)(b:Bool)(s':eU):Prop:=∃H',fR X pins σ H' s'/\Q b H'
def AP (X:Cx)(pins:eW (eQ×Obj))(σ:St)(Q:eW V->Hp->Prop)(us:eW eR)(s':eU):Prop:=∃vs H',fR X pins σ H' s'/\g0 vs us/\Q vs H'
def SP (X:Cx)(pins:eW (eQ×Obj))(D:lO)(f:Flow)(s':eU):Prop:=
 match f with
 |.next=>∃σ' H',fR X pins σ' H' s'/\D.nx σ' H'
 |.brk=>∃σ' H',fR X pins σ' H' s'/\D.bk σ' H'
 |.cont=>∃σ' H',fR X pins σ' H' s'/\D.ct σ' H'
 |.ret u=>∃v σ' H',fR X pins σ' H' s'/\gl v u/\D.rt v H'
def PE (X:Cx)(e:eY)(t:TE):Prop:=
 ∀(pins:eW (eQ×Obj)) (s:eU) (σ:St) (H:Hp) (Q:VK),fR X pins σ H s->t σ H Q->wpAny (model X.prog X.w) X.A (eval e X.env) (EP X pins σ Q) X.xe s
def PT (X:Cx)(e:eY)(t:TT):Prop:=
 ∀(pins:eW (eQ×Obj)) (s:eU) (σ:St) (H:Hp) (Q:Bool->Hp->Prop),fR X pins σ H s->t σ H Q->wpAny (model X.prog X.w) X.A (isTrue e X.env (eval e X.env)) (TP X pins σ Q) X.xe s
def PW (X:Cx)(e:eY)(t:TT):Prop:=
 ∀(whole:Sem eR) (pins:eW (eQ×Obj)) (s:eU) (σ:St) (H:Hp) (Q:Bool->Hp->Prop),fR X pins σ H s->t σ H Q->wpAny (model X.prog X.w) X.A (isTrue e X.env whole) (TP X pins σ Q) X.xe s
def PW.pt {t:TT}(h:PW X e t):PT X e t:=h _
def PA (X:Cx)(es:eW eY)(t:TA):Prop:=
 ∀(pos:Pos) (pins:eW (eQ×Obj)) (s:eU) (σ:St) (H:Hp) (Q:eW V->Hp->Prop),fR X pins σ H s->t σ H Q->wpAny (model X.prog X.w) X.A (spliced (backTo pos (starEach es X.env))) (AP X pins σ Q) X.xe s
def PS (X:Cx)(st:eX)(t:TS):Prop:=
 ∀(pins:eW (eQ×Obj)) (s:eU) (σ:St) (H:Hp) (D:lO),fR X pins σ H s->t D σ H->wpAny (model X.prog X.w) X.A (exec st X.env) (SP X pins D) X.xe s
def lI (X:Cx)(st:eW eX)(t:TS):Prop:=
 ∀(pins:eW (eQ×Obj)) (s:eU) (σ:St) (H:Hp) (D:lO),fR X pins σ H s->t D σ H->wpAny (model X.prog X.w) X.A (execs st X.env) (SP X pins D) X.xe s
def hU {α:Type}{t:Sem α}{Q Q':α->eU->Prop}(h:wpAny M A t Q E s)(hQ:∀a s,Q a s->Q' a s):wpAny M A t Q' E s:=bO h hQ λ_ _ x=>x
section
inductive II (i:Nat)(σ:St)(H:Hp)(Q:VK):Prop
 |mk (v:_)(_:σ[i]?=some (some v))(_:Q v H)
def lK (i:Nat):TE:=λσ H Q=>II i σ H Q
def tC (v:V):TE:=λ_ H Q=>Q v H
def Ay (p:X.N[i]?=some x)(t:DQ X.env.scope x)(hd:(x == ("__debug__":Str))=false:=by decide)(hcd:(x == ("__classdict__":Str))=false:=by decide):PE X (.Name x pos) (lK i):=by intro d s σ H Q I h;obtain⟨v,e,h⟩:=h;obtain⟨m,o,j⟩:=I.loc;obtain⟨u,r,l⟩:=j i x v p e t;have b:EP X d σ Q u s:=⟨v,H,I,r,h⟩;rcases l with ⟨hk,q⟩|⟨hk,c,g,a⟩;exact wpAny_Name (wpAny_loadName_local I.ok.kind hk o q b) hd;rcases hk with hk|hk;exact wpAny_Name (wpAny_loadName_cell I.ok.kind hk g a b) hd;exact wpAny_Name (wpAny_loadName_free I.ok.kind hk g a b hcd) hd
def fD {i j pos}:PE X (.Constant (.int i) j pos) (tC (.int i)):=λ_ _ _ H _ I h=>wpAny_Constant_int ⟨.int i,H,I.tok _,⟨_,rfl⟩,h⟩
def qp {b j pos}:PE X (.Constant (.bool b) j pos) (tC (.bl b)):=λ_ _ _ H _ I h=>Constant_bool ⟨.bl b,H,I,rfl,h⟩
def ja {j pos}:PE X (.Constant .none j pos) (tC .non):=λ_ _ _ H _ I h=>Constant_none ⟨.non,H,I,rfl,h⟩
def iA {x j pos}:PE X (.Constant (.str x) j pos) (tC (.str x)):=λ_ _ _ H _ I h=>Calls.Constant_str ⟨.str x,H,I.tok _,⟨_,rfl⟩,h⟩
def Gl (X:Cx)(x:Str):Prop:=X.env.kindOf x=some .globalImplicit
def mr {u:eR}(I:fR X pins σ H s)(a:Gl X x)(b:X.mg x=some u)(h:Q u s)(hd:autoParam ((x == ("__debug__":Str))=false) Ay._auto_1):wpAny (model X.prog X.w) X.A (eval (.Name x pos) X.env) Q E s:=
 Calls.Name_function_global I.ok.kind a (Calls.loadGlobal_global (by rw[I.ok.glob];exact I.mod.glob.keeps I.bk) b h) hd
def kC {u:eR}(I:fR X pins σ H s)(b:Gl X x)(d:X.mg x=none)(e:bootBuiltins x=some u)(h:Q u s)(hn:autoParam (x≠"__name__") Ay._auto_1)(hd:autoParam ((x == ("__debug__":Str))=false) Ay._auto_1):wpAny (model X.prog X.w) X.A (eval (.Name x pos) X.env) Q E s:=by obtain⟨i,a,g⟩:=I.mod.blt;exact Calls.Name_function_global I.ok.kind b (Calls.loadGlobal_builtin (by rw[I.ok.glob];exact I.mod.glob.keeps I.bk) d (by rw[I.ok.blt];exact a.keeps I.bk) ((g x hn).trans e) h) hd
def mn {u:eR}(a:Gl X x)(b:X.mg x=some u)(r:gl v u)(hd:autoParam ((x == ("__debug__":Str))=false) Ay._auto_1):PE X (.Name x pos) (tC v):=
 λ_ _ _ H _ I h=>mr I a b ⟨v,H,I,r,h⟩ hd
def C8 {u:eR}(a:Gl X x)(b:X.mg x=none)(d:bootBuiltins x=some u)(r:gl v u)(hn:autoParam (x≠"__name__") Ay._auto_1)(hd:autoParam ((x == ("__debug__":Str))=false) Ay._auto_1):PE X (.Name x pos) (tC v):=
 λ_ _ _ H _ I h=>kC I a b d ⟨v,H,I,r,h⟩ hn hd
variable {a b:eY}{tb:TE}
def PC (X:Cx)(op:CmpOp)(a b:eY)(t:TE):Prop:=
 ∀(pins:eW (eQ×Obj)) (s:eU) (σ:St) (H:Hp) (Q:VK),fR X pins σ H s->t σ H Q->
  wpAny (model X.prog X.w) X.A (eval a X.env) (λv s₁=>wpAny (model X.prog X.w) X.A (eval b X.env) (λu s₂=>wpAny (model X.prog X.w) X.A (compareOp op v u) (EP X pins σ Q) X.xe s₂) X.xe s₁) X.xe s
def uG (b:eY)(h:op≠.In)(a:op≠.NotIn):behindInMarks op b=false:=by
 have e:(op == CmpOp.In)=false:=by cases op <;> first|rfl|exact absurd rfl h
 have d:(op == CmpOp.NotIn)=false:=by cases op <;> first|rfl|exact absurd rfl a
 cases b <;> simp[behindInMarks,e,d]
def Jw (ta:TE):TE:=λσ H Q=>ta σ H λx H1=>Q (.bl (decide (x=.non))) H1
def GY (ta:TE):TE:=λσ H Q=>ta σ H λx H1=>Q (.bl (!decide (x=.non))) H1
def gl.LR {x:V}{v:eR}(r:gl x v):(v == Value.none)=decide (x=.non):=by cases x with|non=>cases r;rfl|bl _=>cases r;rfl|int _=>obtain⟨t,rfl⟩:=r;rfl|str _=>obtain⟨t,rfl⟩:=r;rfl|byt _=>obtain⟨t,rfl⟩:=r;rfl|flt _=>obtain⟨t,rfl⟩:=r;rfl|ref _=>cases r;rfl|ty _=>cases r;rfl
def Fm {j pos'}(e:PE X a ta):PC X .Is a (.Constant .none j pos') (Jw ta):=by intro b s σ H Q I h;refine hU (e b s σ H _ I h) ?_;rintro v l ⟨x,d,i,g,q1⟩;exact Constant_none (is_none_gen ⟨.bl _,d,i,by rw[g.LR];rfl,q1⟩)
def tK {j pos'}(e:PE X a ta):PC X .IsNot a (.Constant .none j pos') (GY ta):=by intro b s σ H Q I h;refine hU (e b s σ H _ I h) ?_;rintro v l ⟨x,d,i,g,q1⟩;exact Constant_none (isnot_none_gen ⟨.bl _,d,i,by rw[g.LR];rfl,q1⟩)
inductive LB (Q:Bool->Hp->Prop)(x:V)(H1:Hp):Prop
 |mk (c:_)(_:x=.bl c)(_:Q c H1)
def tB (t:TE):TT:=λσ H Q=>t σ H λx H1=>LB Q x H1
def AG (h:PC X op a b t)(h1:behindInMarks op b=false:=by first|exact uG _ (by decide) (by decide)|rfl):PE X (.Compare a [op] [b] pos) t:=λd s σ H Q I e=>wpAny_Compare1 (h d s σ H Q I e) h1
def jO (h:PC X op a b t)(h1:autoParam (behindInMarks op b=false) AG._auto_1):PT X (.Compare a [op] [b] pos) (tB t):=by intro e s σ H Q I g;refine wpAny_isTrue_Compare1 (hU (h e s σ H _ I g) λv o h1=>hU h1 λu y j=>hU j ?_) h1;rintro c p ⟨x,i,m,l,q1⟩;obtain⟨d,rfl,q⟩:=q1;cases l;exact cc ⟨i,m,q⟩
def qi (h:PE X e t)(he:∀whole,isTrue e X.env whole=(do let v <-whole;standAt e.pos;holding [v] (truthy v)):=by intro _;rfl):PT X e (tB t):=by intro a s σ H Q I b;refine isTrue_plain (hU (h a s σ H _ I b) ?_) (he _);rintro v l ⟨x,g,j,i,q1⟩;obtain⟨d,rfl,q⟩:=q1;cases i;exact cc ⟨g,j,q⟩
variable {tA tB':TT}{rest:eW eY}
def JD (t u:TT):TT:=λσ H Q=>t σ H λc H1=>if c=true then u σ H1 Q else Q false H1
def K2 (t u:TT):TT:=λσ H Q=>t σ H λc H1=>if c=true then Q true H1 else u σ H1 Q
def GZ (t:TT):TT:=λσ H Q=>t σ H λc H1=>Q (!c) H1
def jV (d:PT X a tA):PW X (.BoolOp .And [a] pos) tA:=by intro g b s σ H Q I h;refine isTrue_and (hU (d b s σ H Q I h) λc i e=>?_);cases c with|true=>exact isTrue_and_nil e|false=>exact e
def Fb (d:PT X a tA):PW X (.BoolOp .Or [a] pos) tA:=by intro g b s σ H Q I h;refine isTrue_or (hU (d b s σ H Q I h) λc i e=>?_);cases c with|false=>exact isTrue_or_nil e|true=>exact e
def kU (i:PT X a tA)(m:PW X (.BoolOp .And (b::rest) pos) tB'):PW X (.BoolOp .And (a::b::rest) pos) (JD tA tB'):=by intro j d s σ H Q I h;refine isTrue_and (hU (i d s σ H _ I h) ?_);rintro c l ⟨e,g,q1⟩;cases c with|true=>exact m j d l σ e Q g q1|false=>exact⟨e,g,q1⟩
def HI (i:PT X a tA)(m:PW X (.BoolOp .Or (b::rest) pos) tB'):PW X (.BoolOp .Or (a::b::rest) pos) (K2 tA tB'):=by intro j d s σ H Q I h;refine isTrue_or (hU (i d s σ H _ I h) ?_);rintro c l ⟨e,g,q1⟩;cases c with|true=>exact⟨e,g,q1⟩|false=>exact m j d l σ e Q g q1
def tG (e:PT X a tA):PT X (.UnaryOp .Not a pos) (GZ tA):=by intro b s σ H Q I h;exact isTrue_not (e b s σ H (λc d=>Q (!c) d) I h)
inductive Gu (tb:TE)(σ:St)(Q:VK)(x:V)(H1:Hp):Prop
 |mk (c:_)(_:x=.bl c)(_:if c=true then tb σ H1 Q else Q (.bl false) H1)
def Hl (ta tb:TE):TE:=λσ H Q=>ta σ H λx H1=>Gu tb σ Q x H1
inductive Gp (Q:VK)(x:V)(H1:Hp):Prop
 |mk (c:_)(_:x=.bl c)(_:Q (.bl (!c)) H1)
def GX (ta:TE):TE:=λσ H Q=>ta σ H λx H1=>Gp Q x H1
def tI {op}(h:PE X a t):PE X (.BoolOp op [a] pos) t:=λpins s σ H Q I hw=>BoolOp_one (h pins s σ H Q I hw)
def tJ (i:PE X a ta)(m:PE X (.BoolOp .And (b::rest) pos) tb):PE X (.BoolOp .And (a::b::rest) pos) (Hl ta tb):=by intro d s σ H Q I h;refine BoolOp_and (hU (i d s σ H _ I h) ?_);rintro v l ⟨x,e,g,j,q1⟩;obtain⟨c,rfl,q1⟩:=q1;cases j;refine cc ?_;cases c with|true=>exact m d l σ e Q g q1|false=>exact⟨.bl false,e,g,rfl,q1⟩
def Fj (e:PE X a ta):PE X (.UnaryOp .Not a pos) (GX ta):=by intro b s σ H Q I h;refine UnaryOp_ (hU (e b s σ H _ I h) ?_);rintro v j ⟨x,d,i,g,q1⟩;obtain⟨c,rfl,q1⟩:=q1;cases g;exact not_of (cc ⟨.bl (!c),d,i,rfl,q1⟩)
def KM (t:TT)(ta tb:TE):TE:=λσ H Q=>t σ H λc H1=>if c=true then ta σ H1 Q else tb σ H1 Q
def AC {c:eY}(o:PT X c tA)(l:PE X a ta)(m:PE X b tb):PE X (.IfExp c a b pos) (KM tA ta tb):=by intro e s σ H Q I h;refine wpAny_IfExp (hU (o e s σ H _ I h) ?_);rintro d i ⟨g,j,q1⟩;cases d with|true=>exact l e i σ g Q j q1|false=>exact m e i σ g Q j q1
end
def gf (K:fh)(H:Hp)(a:eQ)(xs:eW V):Prop:=
 Rd H a (.lst xs)\/
  ∃(o:Obj) (its:Array eR) (n:Nat),K.lookup a=some o/\o.cls=.type "list"/\o.dict=none/\o.data=.seq its n/\its.size<=sizeLine/\g0 xs its.toList
def jg (K:fh)(H:Hp)(a:eQ)(xs:eW V):Prop:=
 Rd H a (.tup xs)\/
  ∃(o:Obj) (its:Array eR) (n:Nat),K.lookup a=some o/\o.cls=.type "tuple"/\o.data=.seq its n/\its.size<=sizeLine/\g0 xs its.toList
noncomputable def Kd:eR->fc V
 |.none=>some .non
 |.bool b=>some (.bl b)
 |.int i _=>some (.int i)
 |.str x _=>some (.str x)
 |.bytes b _=>some (.byt b)
 |.float b _=>some (.flt b)
 |.ref a=>some (.ref a)
 |.type n=>some (.ty n)
 |_=>none
def gl.abs {x:V}{u:eR}(r:gl x u):Kd u=some x:=by cases x with|non=>cases r;rfl|bl _=>cases r;rfl|int _=>obtain⟨t,rfl⟩:=r;rfl|str _=>obtain⟨t,rfl⟩:=r;rfl|byt _=>obtain⟨t,rfl⟩:=r;rfl|flt _=>obtain⟨t,rfl⟩:=r;rfl|ref _=>cases r;rfl|ty _=>cases r;rfl
def gl.inj {x:V}{u:eR}(r:gl x u)(q:gl y u):x=y:=Option.some.inj (r.abs.symm.trans q.abs)
theorem g0.inj:∀{xs ys:eW V} {us:eW eR},g0 xs us->g0 ys us->xs=ys
 |_,_,_,.nil,.nil=>rfl
 |_,_,_,.cons r t,.cons r' t'=>by rw[r.inj r',g0.inj t t']
section
variable {ys:eW V}
def gf.of (h:H a=some (.lst xs)):gf K H a xs:=.inl (.inl h)
def jg.of (h:H a=some (.tup xs)):jg K H a xs:=.inl (.inl h)
theorem fR.list (I:fR X pins σ H s)(h:gf X.K H a xs):∃its:eW eR,g0 xs its/\PlainL s.heap a its.toArray/\xs.length<=sizeLine:=by rcases h with h|⟨o,its,n,d,i,b,g,j,r⟩;obtain⟨z,its,n,r,e⟩:=h.ok I.hok;exact⟨its,r,⟨_,n,e,rfl,rfl,rfl⟩,z⟩;refine⟨its.toList,r,⟨o,n,I.kIn a o d,i,b,by simpa using g⟩,?_⟩;have e:=r.length;simp only[bu]at e;lia
theorem fR.tuple (I:fR X pins σ H s)(h:jg X.K H a xs):∃its:eW eR,g0 xs its/\IsTup s.heap a its.toArray/\xs.length<=sizeLine:=by rcases h with h|⟨o,its,n,b,g,d,i,r⟩;obtain⟨z,its,r,p⟩:=h.ok I.hok;exact⟨its,r,p,z⟩;refine⟨its.toList,r,⟨o,I.kIn a o b,g,n,by simpa using d⟩,?_⟩;have e:=r.length;simp only[bu]at e;lia
def fR.LS (I:fR X pins σ H s)(h:gf X.K H a xs)(h':gf X.K H a ys):xs=ys:=by
 obtain⟨g,r,⟨o,n,e,_,_,d⟩,_⟩:=I.list h;obtain⟨b,l,⟨q,p,j,_,_,i⟩,_⟩:=I.list h';rw[e]at j;cases j;rw[d]at i;injection i with m _
 have:g=b:=by simpa using congrArg Array.toList m
 subst this;exact r.inj l
def fR.LU (I:fR X pins σ H s)(h:jg X.K H a xs)(h':jg X.K H a ys):xs=ys:=by
 obtain⟨g,r,⟨o,e,_,n,d⟩,_⟩:=I.tuple h;obtain⟨b,l,⟨q,j,_,p,i⟩,_⟩:=I.tuple h';rw[e]at j;cases j;rw[d]at i;injection i with m _
 have:g=b:=by simpa using congrArg Array.toList m
 subst this;exact r.inj l
end
noncomputable abbrev Cx.LV (X:Cx)(E:eR->eU->Prop):Cx:={X with xe:=E}
abbrev Cx.nox (X:Cx):Cx:=X.LV λ_ _=>False
def Cx.Ok.LV (ok:X.Ok)(E:eR->eU->Prop):(X.LV E).Ok:=
 ⟨ok.mod,ok.kind,ok.glob,ok.blt,ok.above,ok.inj,ok.has,ok.cab,ok.hd,ok.frames,ok.stk,ok.exf,ok.bs,ok.bsz,ok.noex,ok.exfs,ok.funs,ok.frf⟩
def Cx.Ok.LW (ok:(X.LV E).Ok):X.Ok:=
 ⟨ok.mod,ok.kind,ok.glob,ok.blt,ok.above,ok.inj,ok.has,ok.cab,ok.hd,ok.frames,ok.stk,ok.exf,ok.bs,ok.bsz,ok.noex,ok.exfs,ok.funs,ok.frf⟩
def fR.LV (I:fR X pins σ H s)(E:eR->eU->Prop):fR (X.LV E) pins σ H s:=⟨I.ok.LV E,I.os,I.bare,I.base,I.loc,I.cell,I.free,I.freeC,I.pin,I.hok,I.len⟩
def fR.LW (I:fR (X.LV E) pins σ H s):fR X pins σ H s:=⟨I.ok.LW,I.os,I.bare,I.base,I.loc,I.cell,I.free,I.freeC,I.pin,I.hok,I.len⟩
def SP.LW {f:Flow}(h:SP (X.LV E) pins D f s'):SP X pins D f s':=by cases f with|next=>obtain⟨σ',a,I,q⟩:=h;exact⟨σ',a,I.LW,q⟩|brk=>obtain⟨σ',a,I,q⟩:=h;exact⟨σ',a,I.LW,q⟩|cont=>obtain⟨σ',a,I,q⟩:=h;exact⟨σ',a,I.LW,q⟩|ret u=>obtain⟨v,σ',a,I,r,q⟩:=h;exact⟨v,σ',a,I.LW,r,q⟩
def lI.nox {st:eW eX}{t:TS}(h:lI X.nox st t):lI X st t:=λpins s σ H D I hw=>
 bO (h pins s σ H D (I.LV _) hw) (λ_ _ q=>q.LW) λ_ _ z=>False.elim z
section
variable {st:eX}{rest:eW eX}{t u:TS}
def Hc:TS:=λD σ H=>D.nx σ H
def Jt (t u:TS):TS:=λD σ H=>t {D with nx:=u D} σ H
def gi:lI X [] Hc:=λ_ _ σ H _ I h=>eo ⟨σ,H,I,h⟩
def fm (d:PS X st t)(b:lI X rest u):lI X (st::rest) (Jt t u):=by intro a s σ H D I h;refine wpAny_execs_cons (hU (d a s σ H {D with nx:=u D} I h) λf i q=>?_);cases f with|next=>obtain⟨σ',g,e,q⟩:=q;exact b a i σ' g D e q|ret v=>exact q|brk=>exact q|cont=>exact q
def fz (b:PS X st t):lI X [st] t:=by intro a s σ H D I h;refine wpAny_execs_cons (hU (b a s σ H D I h) λf d q=>?_);cases f with|next=>exact eo q|ret v=>exact q|brk=>exact q|cont=>exact q
def Hi:TS:=λD σ H=>D.ct σ H
def uB:PS X (.Continue pos) Hi:=λ_ _ σ H _ I h=>wpAny_Continue ⟨σ,H,I,h⟩
def fR.quiet (I:fR X pins σ H s):interactive X.env=false:=by simp[interactive,I.ok.kind]
def Hf (te:TE):TS:=λD σ H=>te σ H λ_ H1=>D.nx σ H1
def gq (d:PE X e te)(hs:swapsWith e none pos.line X.env=pure false:=by rfl):PS X (.Expr e pos) (Hf te):=by intro a s σ H D I h;exact wpAny_Expr_any (hU (d a s σ H _ I h) (by rintro v j ⟨x,b,g,i,q1⟩;exact⟨σ,b,g,q1⟩)) I.quiet hs
def Ju (te:TE):TS:=λD σ H=>te σ H D.rt
def gc (d:PE X e te):PS X (.Return (some e) pos) (Ju te):=by intro a s σ H D I h;exact wpAny_Return_some (hU (d a s σ H _ I h) (by rintro v j ⟨x,b,i,g,q1⟩;exact⟨x,σ,b,i,g,q1⟩))
def Jy (c:TT)(t u:TS):TS:=λD σ H=>c σ H λb H1=>if b=true then t D σ H1 else u D σ H1
def gK {c:eY}{a b:eW eX}{tc:TT}(o:PT X c tc)(l:lI X a t)(m:lI X b u):PS X (.If c a b pos) (Jy tc t u):=by intro e s σ H D I h;refine wpAny_If (hU (o e s σ H _ I h) ?_);rintro d i ⟨g,j,q1⟩;cases d with|true=>exact l e i σ g D j q1|false=>exact m e i σ g D j q1
def EG:TS:=λ_ _ _=>False
def oh {sts:eW eX}:lI X sts EG:=λ_ _ _ _ _ _ h=>h.elim
end
abbrev TG:=V->St->Hp->(St->Hp->Prop)->Prop
abbrev yd:=eW V->St->Hp->(St->Hp->Prop)->Prop
def PG (X:Cx)(target:eY)(t:TG):Prop:=
 ∀(pins:eW (eQ×Obj)) (s:eU) (σ:St) (H:Hp) (v:V) (u:eR) (Q:St->Hp->Prop),fR X pins σ H s->gl v u->t v σ H Q->
  wpAny (model X.prog X.w) X.A (assign target X.env u) (λ_ s'=>∃σ' H',fR X pins σ' H' s'/\Q σ' H') X.xe s
def Jn (X:Cx)(ts:eW eY)(t:yd):Prop:=
 ∀(pins:eW (eQ×Obj)) (s:eU) (σ:St) (H:Hp) (vs:eW V) (us:eW eR) (Q:St->Hp->Prop),fR X pins σ H s->g0 vs us->t vs σ H Q->
  wpAny (model X.prog X.w) X.A (assignInOrder ((assignEach ts X.env).map (·.2)) us) (λ_ s'=>∃σ' H',fR X pins σ' H' s'/\Q σ' H') X.xe s
abbrev IB:=V->V->Hp->VK->Prop
def ID (X:Cx)(op:Operator)(t:IB):Prop:=
 ∀(pins:eW (eQ×Obj)) (s:eU) (σ:St) (H:Hp) (x y:V) (v u:eR) (Q:VK),fR X pins σ H s->gl x v->gl y u->t x y H Q->
  wpAny (model X.prog X.w) X.A (inplaceOp op v u) (EP X pins σ Q) X.xe s
def jl (i:Nat):TG:=λv σ H Q=>Q (σ.set i (some v)) H
def fQ (d:X.N.Nodup)(hi:autoParam (X.N[i]?=some x) gq._auto_1)(hx:IF X.env.scope x:=by first|exact Or.inl rfl|exact Or.inr rfl)(hf:autoParam (X.fn x=true\/X.env.scope.names.lookup x=some .local) rG._auto_1):PG X (.Name x pos) (jl i):=by intro a s σ H v u Q I r h;exact wpAny_assign_Name (pR I d hi hx r (λe b=>⟨_,H,b,h⟩) hf)
def FU:yd:=λvs σ H Q=>vs=[]/\Q σ H
inductive GD (t:TG)(u:yd)(vs:eW V)(σ:St)(H:Hp)(Q:St->Hp->Prop):Prop
 |mk (v r:_)(_:vs=v::r)(_:t v σ H λσ' H'=>u r σ' H' Q)
def Bz (t:TG)(u:yd):yd:=λvs σ H Q=>GD t u vs σ H Q
def lC:Jn X [] FU:=by intro a s σ H d b Q I r h;obtain⟨e,h⟩:=h;subst e;cases r;exact assignInOrder_nil ⟨σ,H,I,h⟩
def iC {t:TG}{u:yd}(l:PG X e t)(d:Jn X es u)(hs:autoParam ((assignEach (e::es) X.env).map (·.2)=assign e X.env::(assignEach es X.env).map (·.2)) gq._auto_1):Jn X (e::es) (Bz t u):=by intro a s σ H p o Q I r h;obtain⟨v,m,j,h⟩:=h;subst j;cases r with|cons r rr=>rw[hs];refine assignInOrder_cons (hU (l a s σ H _ _ _ I r h) ?_);rintro _ g ⟨σ1,b,i,q1⟩;exact d a g σ1 b _ _ Q i rr q1
inductive Ja (K:fh)(n:Nat)(t:yd)(v:V)(σ:St)(H:Hp)(Q:St->Hp->Prop):Prop
 |mk (a xs:_)(_:v=.ref a)(_:jg K H a xs)(_:xs.length=n)(_:t xs σ H Q)
def Iq (K:fh)(n:Nat)(t:yd):TG:=λv σ H Q=>Ja K n t v σ H Q
def mX {k:Nat}{t:yd}{n:Nat}(B:X.calm=true)(h:Jn X es t)(hn:autoParam ((assignEach es X.env).length=n) gq._auto_1)(hst:autoParam ((assignEach es X.env).findIdx? (·.1)=none) gq._auto_1):PG X (.Tuple es k pos) (Iq X.K n t):=by intro d s σ H v u Q I r g;obtain⟨a,l,z,y,j,g⟩:=g;subst z;cases r;obtain⟨A,i,m,C⟩:=I.tuple y;refine assign_Tuple_tuple (I.ok.hd B) m (by simp[hn,<-j,i.length]) hst λx q=>?_;have p:fR X d σ H {s with heap:=x}:=I.kept (t':=s.toks) λb o e=>q b o (aX (aS e)) e;exact h d _ σ H l _ Q p (by simpa using i) g
def Hk (te:TE)(g:TG):TS:=λD σ H=>te σ H λx H1=>g x σ H1 D.nx
def Fc (m:PE X e te)(l:PG X tg g)(hs:autoParam (swapsWithSole [tg] e pos.line X.env=pure false) gq._auto_1)(hw:autoParam (swappedStores [tg] e X.env=pure none) gq._auto_1)(h1:autoParam ((assignEach [tg] X.env).map (·.2)=[assign tg X.env]) gq._auto_1):PS X (.Assign [tg] e pos) (Hk te g):=by intro a s σ H D I h;refine wpAny_Assign_stores (hU (m a s σ H _ I h) ?_) hs hw;rintro v i ⟨x,b,j,d,q1⟩;rw[h1];exact hU (l a i σ b x v _ j d q1) λ_ o q=>q
def fJ (m:X.N.Nodup)(g:PE X e te)(hi:autoParam (X.N[i]?=some x) gq._auto_1)(hx:autoParam (IF X.env.scope x) fQ._auto_1)(hs:autoParam (swapsWith e (some (.Name x pos')) pos.line X.env=pure false) gq._auto_1)(hf:autoParam (X.fn x=true\/X.env.scope.names.lookup x=some .local) rG._auto_1):PS X (.Assign [.Name x pos'] e pos) (Hk te (jl i)):=by intro a s σ H D I h;refine wpAny_Assign_Name (hU (g a s σ H _ I h) ?_) hs;rintro v p ⟨y,b,l,j,q1⟩;exact pR l m hi hx j (λo d=>⟨_,b,d,q1⟩) hf
inductive IM (i:Nat)(te:TE)(ti:IB)(D:lO)(σ:St)(H:Hp):Prop
 |mk (x:_)(_:σ[i]?=some (some x))(_:te σ H λy H1=>ti x y H1 λz H2=>D.nx (σ.set i (some z)) H2)
def JC (i:Nat)(te:TE)(ti:IB):TS:=λD σ H=>IM i te ti D σ H
def lB {op:Operator}{ti:IB}(O:X.N.Nodup)(M:PE X e te)(t:ID X op ti)(hi:autoParam (X.N[i]?=some x) gq._auto_1)(hx:autoParam (IF X.env.scope x) fQ._auto_1)(hf:autoParam (X.fn x=true\/X.env.scope.names.lookup x=some .local) rG._auto_1):PS X (.AugAssign (.Name x pos') op e pos) (JC i te ti):=by
 intro a s σ H D I h;obtain⟨v,L,h⟩:=h;obtain⟨m,F,C⟩:=I.loc;have d:DQ X.env.scope x:=by rcases hx with k|k;exact .inl k;exact .inr (.inl k)
 obtain⟨u,r,l⟩:=C i x v hi L d;refine wpAny_AugAssign_Name ?_;have g:wpAny (model X.prog X.w) X.A (eval e X.env) (λw s₂=>wpAny (model X.prog X.w) X.A (inplaceOp op u w) (λr s₃=>wpAny (model X.prog X.w) X.A (storeName X.env x r) (λ_=>SP X a D .next) X.xe s₃) X.xe s₂) X.xe s:=by refine hU (M a s σ H _ I h) ?_;rintro w E ⟨y,B,o,j,q1⟩;refine hU (t a E σ B v y u w _ o r j q1) ?_;rintro z Q ⟨R,K,q,G,q2⟩;exact pR q O hi hx G (λS p=>⟨_,K,p,q2⟩) hf
 rcases l with ⟨hk,J⟩|⟨hk,c,P,b⟩;exact wpAny_loadName_local I.ok.kind hk F J g;rcases hk with hk|hk;exact wpAny_loadName_cell I.ok.kind hk P b g;rcases hx with k|k;have:X.env.scope.names.lookup x=some .free:=hk;rw[k]at this;cases this;have:X.env.scope.names.lookup x=some .free:=hk;rw[k]at this;cases this
inductive KB (f:Int->Int->Int)(x:V)(y:V)(H:Hp)(Q:VK):Prop
 |mk (i j:_)(_:x=.int i)(_:y=.int j)(_:Q (.int (f i j)) H)
def KQ (f:Int->Int->Int):IB:=λx y H Q=>KB f x y H Q
def Bt:ID X .Add (KQ λi j=>i+j):=by intro a s σ H x y v u Q I b d h;obtain⟨i,j,e,g,q⟩:=h;subst e;subst g;obtain⟨t,rfl⟩:=b;obtain⟨l,rfl⟩:=d;exact iadd_int ⟨.int _,H,I.tok _,⟨_,rfl⟩,q⟩
def FQ:ID X .Sub (KQ λi j=>i-j):=by intro a s σ H x y v u Q I b d h;obtain⟨i,j,e,g,q⟩:=h;subst e;subst g;obtain⟨t,rfl⟩:=b;obtain⟨l,rfl⟩:=d;exact isub_int ⟨.int _,H,I.tok _,⟨_,rfl⟩,q⟩
def EC (c:TT)(tb:TS):TS:=λD σ H=>∃Wz:Nat->St->Hp->Prop,(∃m,Wz m σ H)/\∀m σ H,Wz m σ H->
 c σ H λb H1=>if b=true then ∃N:St->Hp->Prop,(∀σ' H',N σ' H'->∃m',m'<m/\Wz m' σ' H')/\tb {D with nx:=N,ct:=N,bk:=D.nx} σ H1 else D.nx σ H1
def kz {c:eY}{tc:TT}(hp:PassesOwn (model X.prog X.w) X.A X.env X.xe)(F:PT X c tc)(B:lI X body tb):PS X (.While c body [] pos) (EC tc tb):=by
 intro a s σ H D I h;obtain⟨L,⟨G,J⟩,e⟩:=h;refine wpAny_While (codeAny_whileLoop (λn z=>∃σ' H',fR X a σ' H' z/\L n σ' H') ?_ G ⟨σ,H,I,J⟩);rintro n K ⟨σ1,q,C,y⟩;refine cY hp (hU (F a K σ1 q _ C (e n σ1 q y)) ?_);rintro b E ⟨t,p,q2⟩;cases b with
 |true=>obtain⟨N,x,q2⟩:=q2;rw[ay rfl];refine cY hp (hU (B a E σ1 t _ p q2) λf M g=>?_);cases f with|next=>obtain⟨σ3,d,l,j⟩:=g;obtain⟨m,o,i⟩:=x σ3 d j;exact⟨m,o,σ3,d,l,i⟩|cont=>obtain⟨σ3,d,l,j⟩:=g;obtain⟨m,o,i⟩:=x σ3 d j;exact⟨m,o,σ3,d,l,i⟩|brk=>exact g|ret v=>exact g
 |false=>rw[ax aV];exact eo ⟨σ1,t,p,q2⟩
structure It where
 go:Nat->Hp->Prop
 yld:Nat->Hp->V->Hp->Prop
 stop:Nat->Hp->Prop
def jj (X:Cx)(pins:eW (eQ×Obj))(H:Hp)(b:eQ):Prop:=
 H b=none/\b≠X.env.locals/\b∉X.fs/\(b∈X.ex\/X.s₀.heap.get? b=none)/\(∀x c,X.env.cells.lookup x=some c->c≠b)/\∀p∈X.pn++pins,p.1≠b
def fR.LX (I:fR X pins σ H s)(a:s.heap.objs.size<=b)(d:H' b=none):jj X pins H' b:=by refine⟨d,Nat.ne_of_gt (bg I.lt a),I.LM a,.inr (bo (bz I.sz a)),λx c e z=>?_,λp hp z=>?_⟩;obtain⟨v,q⟩:=I.cell x c e;exact absurd (bg q.lt (by rw[z];exact a)) (cU _);exact absurd (bg (aS (I.pin p hp).1) (by rw[z];exact a)) (cU _)
structure rq (P:eV)(w:fe)(K:fh)(tg:eY)(J:It)(fp:eW eQ)(it:eQ)(tn:Nat->fb->Prop):Prop where
 mem:it∈fp
 obj:∀i h,tn i h->∀b∈fp,∃o,h.get? b=some o/\∀v,o.data≠.cell v
 keep:∀i h h',tn i h->(∀b∈fp,∀o,h.get? b=some o->h'.get? b=some o)->tn i h'
 item:∀(X:Cx),X.prog=P->X.w=w->X.K=K->X.calm=true->∀(i:Nat) (pins:eW (eQ×Obj)) (s:eU) (σ:St) (H:Hp) (E:eR->eU->Prop),fR X pins σ H s->(∀b∈fp,jj X pins H b)->tn i s.heap->J.go i H->
  wpAny (model P w) X.A (pyNext (.ref it)) (λr s1=>∃u,r=some u/\wpAny (model P w) X.A (letOwnedTupleGo tg (.ref it) u) (λ_ s2=>∃x H',fR X pins σ H' s2/\gl x u/\J.yld i H x H'/\tn (i+1) s2.heap/\∀b∈fp,H' b=none) E s1) E s
 done:∀(X:Cx),X.prog=P->X.w=w->X.K=K->X.calm=true->∀(i:Nat) (pins:eW (eQ×Obj)) (s:eU) (σ:St) (H:Hp) (E:eR->eU->Prop),fR X pins σ H s->(∀b∈fp,jj X pins H b)->tn i s.heap->J.stop i H->
  wpAny (model P w) X.A (pyNext (.ref it)) (λr s1=>r=none/\fR X pins σ H s1) E s
 self:∀(A:eP) (i:Nat) (s:eU) (Q:eR->eU->Prop) (E:eR->eU->Prop),tn i s.heap->Q (.ref it) s->wpAny (model P w) A (pyIter (.ref it)) Q E s
abbrev TI:=St->Hp->(It->Hp->Prop)->Prop
def Jm (X:Cx)(pins:eW (eQ×Obj))(σ:St)(tg:eY)(R:It->Hp->Prop)(itv:eR)(s2:eU):Prop:=
 ∃(it:eQ) (fp:eW eQ) (tn:Nat->fb->Prop) (J:It) (H':Hp),itv=.ref it/\fR X pins σ H' s2/\rq X.prog X.w X.K tg J fp it tn/\tn 0 s2.heap/\(∀b∈fp,jj X pins H' b)/\R J H'
def PI (X:Cx)(tg iter:eY)(wi:TI):Prop:=
 ∀(pins:eW (eQ×Obj)) (s:eU) (σ:St) (H:Hp) (R:It->Hp->Prop),fR X pins σ H s->wi σ H R->
  wpAny (model X.prog X.w) X.A (eval iter X.env) (λv s1=>wpAny (model X.prog X.w) X.A (pyIter v) (Jm X pins σ tg R) X.xe s1) X.xe s
def rY {it:eQ}{u:eR}{o:Obj}{n:String}{vs:Array eR}{Q:Unit->eU->Prop}(d:s.heap.get? it=some o)(e:o.cls=.type n)(b:o.data=.fields vs)(g:["enumerate","zip","dict_itemiterator","dict_reverseitemiterator","odict_iterator","itertools.zip_longest","itertools.pairwise"].contains n=false)(a:Q () s):wpAny M A (letOwnedTupleGo tg (.ref it) u) Q E s:=by
 unfold letOwnedTupleGo;cases tg <;> first
  |exact av a
  |(cases u <;> first
    |exact av a
    |(refine ac (wpAny_load d ?_)
      rw[e,b];show wpAny M A (if (["enumerate","zip","dict_itemiterator","dict_reverseitemiterator","odict_iterator","itertools.zip_longest","itertools.pairwise"].contains n&&vs[0]? == some (rawInt _))=true then _ else _) Q E s;rw[ax (by intro h;rw[g,cg]at h;cases h)]
      exact av a))
def Ey (K:fh)(a:eQ):It:=
 ⟨λi H=>∃xs x,gf K H a xs/\xs[i]?=some x,λi H x H'=>H'=H/\∀xs,gf K H a xs->xs[i]?=some x,λi H=>∃xs,gf K H a xs/\xs.length<=i⟩
def IH (K:fh)(a:eQ):It:=
 ⟨λi H=>∃xs x,jg K H a xs/\xs[i]?=some x,λi H x H'=>H'=H/\∀xs,jg K H a xs->xs[i]?=some x,λi H=>∃xs,jg K H a xs/\xs.length<=i⟩
def Ex (lo:Int)(n:Nat):It:=⟨λi _=>i<n,λi H x H'=>H'=H/\x=.int (lo+i),λi _=>n<=i⟩
theorem ye {w:fe}(a m:eQ):rq P w K tg (Ey K a) [m] m (λi h=>h.IsListIter m a i) where
 mem:=by simp
 obj:=λi h g b l=>by
  have e:b=m:=by simpa using l
  subst e;obtain⟨o,e,c,d⟩:=g;exact⟨o,e,λv z=>by rw[d]at z;cases z⟩
 keep:=λi h t g k=>g.at λo e=>k m (by simp) o e
 item:=by
  intro X Q L G S i j s σ H E I A g B;subst Q L G;obtain⟨xs,x,y,N⟩:=B;obtain⟨F,J,p,Y⟩:=I.list y;obtain⟨u,hu,ru⟩:=J.get N;obtain⟨C,D,f2,R,O,M⟩:=A m (by simp);refine wpAny_pyNext_list_item g p.isList (x:=u) (by simpa using hu) λt q sb=>?_;have T:fR X j σ H {s with heap:=t}:=I.turned (t':=s.toks) (λb o l e=>(sb.2 b l).trans e) C D R O M;obtain⟨o,e,c,d⟩:=id q;exact⟨u,rfl,rY (s:={s with heap:=t}) e c d (by decide) ⟨x,H,T,ru,⟨rfl,λys Z=>by rw[I.LS Z y];exact N⟩,q,λb l=>(A b l).1⟩⟩
 done:=by
  intro X Q L G S i j s σ H E I A g B;subst Q L G;obtain⟨xs,y,N⟩:=B;obtain⟨F,J,p,Y⟩:=I.list y;obtain⟨C,D,f2,R,O,M⟩:=A m (by simp);have hl:=J.length;exact wpAny_pyNext_list_end (I.ok.hd S) g p.isList (by simp;lia) λt U=>⟨rfl,I.turned (t':=s.toks) (λb o l e=>U b o l e) C D R O M⟩
 self:=λ_ _ _ _ _ g h=>wpAny_pyIter_listiter g h
theorem vw {w:fe}(a q:eQ):rq P w K tg (IH K a) [q] q (λi h=>h.IsTupleIter q a i) where
 mem:=by simp
 obj:=λi h g b l=>by
  have e:b=q:=by simpa using l
  subst e;obtain⟨o,e,c,d⟩:=g;exact⟨o,e,λv z=>by rw[d]at z;cases z⟩
 keep:=λi h y g k=>g.at λo e=>k q (by simp) o e
 item:=by
  intro X Q L G S i j s σ H E I B g C;subst Q L G;obtain⟨xs,x,A,N⟩:=C;obtain⟨m,J,p,Y⟩:=I.tuple A;obtain⟨u,hu,ru⟩:=J.get N;obtain⟨D,F,f2,R,O,M⟩:=B q (by simp);refine wpAny_pyNext_tuple_item g (show s.heap.IsTuple a m.toArray from p) (x:=u) (by simpa using hu) λy t sb=>?_;have T:fR X j σ H {s with heap:=y}:=I.turned (t':=s.toks) (λb o l e=>(sb.2 b l).trans e) D F R O M;obtain⟨o,e,c,d⟩:=id t;exact⟨u,rfl,rY (s:={s with heap:=y}) e c d (by decide) ⟨x,H,T,ru,⟨rfl,λys Z=>by rw[I.LU Z A];exact N⟩,t,λb l=>(B b l).1⟩⟩
 done:=by
  intro X Q L G S i j s σ H E I B g C;subst Q L G;obtain⟨xs,A,N⟩:=C;obtain⟨m,J,p,Y⟩:=I.tuple A;obtain⟨D,F,f2,R,O,M⟩:=B q (by simp);have hl:=J.length;exact wpAny_pyNext_tuple_end (I.ok.hd S) g (show s.heap.IsTuple a m.toArray from p) (by simp;lia) λy U=>⟨rfl,I.turned (t':=s.toks) (λb o l e=>U b o l e) D F R O M⟩
 self:=λ_ _ _ _ _ g h=>wpAny_pyIter_tupleiter g h
theorem vy {w:fe}(g:eQ)(p:Int)(n:Nat):rq P w K tg (Ex p n) [g] g (λi h=>IsRangeIter h g (p+(i:Nat)*1) ((n:Int)-(i:Nat)) 1) where
 mem:=by simp
 obj:=λi h a b j=>by
  have e:b=g:=by simpa using j
  subst e
  exact⟨_,a,λv z=>by
   have N:Data.fields _=Data.cell v:=z
   cases N⟩
 keep:=λi h m a k=>k g (by simp) _ a
 item:=by
  intro X G C B L i d s σ H E I q a x;subst G C B;obtain⟨y,A,S,J,F,D⟩:=q g (by simp);have U:=Walks.range (prog:=X.prog) (w:=X.w) (I.ok.hd L) g p 1 n;refine U.item i s _ _ x a λv m M T l Q=>?_;obtain⟨t,rfl⟩:=T;have O:fR X d σ H {s with heap:=m,toks:=M}:=I.turned (λb o j e=>Q b o (by simpa using j) e) y A J F D;refine⟨_,rfl,rY (s:={s with heap:=m,toks:=M}) (n:="range_iterator") l rfl rfl (by decide) ⟨.int (p+i),H,O,⟨t,?_⟩,⟨rfl,rfl⟩,l,λb j=>(q b j).1⟩⟩;rw[Int.mul_one]
 done:=by
  intro X G C B L i d s σ H E I q a x;subst G C B;obtain⟨y,A,S,J,F,D⟩:=q g (by simp);exact wpAny_pyNext_range_end (I.ok.hd L) a (by have:n<=i:=x;lia) λm R=>⟨rfl,I.turned (t':=s.toks) (λb o j e=>R b o j e) y A J F D⟩
 self:=λ_ _ _ _ _ a h=>wpAny_pyIter_rangeiter a h
inductive GB (K:fh)(R:It->Hp->Prop)(x:V)(H1:Hp):Prop
 |mk (a:_)(_:x=.ref a)(_:∃xs,gf K H1 a xs)(_:R (Ey K a) H1)
def Io (K:fh)(tl:TE):TI:=λσ H R=>tl σ H λx H1=>GB K R x H1
inductive IX (K:fh)(R:It->Hp->Prop)(x:V)(H1:Hp):Prop
 |mk (a:_)(_:x=.ref a)(_:∃xs,jg K H1 a xs)(_:R (IH K a) H1)
def J6 (K:fh)(tl:TE):TI:=λσ H R=>tl σ H λx H1=>IX K R x H1
def gL {l:eY}{tl:TE}(m:PE X l tl):PI X tg l (Io X.K tl):=by
 intro d s σ H R I h;refine hU (m d s σ H _ I h) ?_;rintro v g ⟨x,j,i,t,q1⟩;obtain⟨a,e,⟨B,z⟩,q⟩:=q1;subst e;cases t;obtain⟨A,C,p,D⟩:=i.list z;refine wpAny_pyIter_list p.isList ?_;refine⟨g.heap.objs.size,[g.heap.objs.size],_,_,j,rfl,i.kept (t':=g.toks) λb o e=>az _ e,ye a _,⟨_,aO _ rfl,rfl,rfl⟩,λb y=>?_,q⟩;have e:b=g.heap.objs.size:=by simpa using y
 subst e;exact i.LX (am _) (i.hok.fresh (am _))
def Fg {l:eY}{tl:TE}(t:PE X l tl):PI X tg l (J6 X.K tl):=by
 intro d s σ H R I h;refine hU (t d s σ H _ I h) ?_;rintro v g ⟨x,m,i,y,q1⟩;obtain⟨a,e,⟨B,A⟩,q⟩:=q1;subst e;cases y;obtain⟨j,C,p,D⟩:=i.tuple A;refine wpAny_pyIter_tuple (show g.heap.IsTuple a j.toArray from p) ?_;refine⟨g.heap.objs.size,[g.heap.objs.size],_,_,m,rfl,i.kept (t':=g.toks) λb o e=>az _ e,vw a _,⟨_,aO _ rfl,rfl,rfl⟩,λb z=>?_,q⟩;have e:b=g.heap.objs.size:=by simpa using z
 subst e;exact i.LX (am _) (i.hok.fresh (am _))
theorem Aq {R:It->Hp->Prop}{lo hi:Int}{t u v:Tok}{tk:Nat}(I:fR X pins σ H s)(i:-(2^62)<=lo)(g:lo<2^62)(j:-(2^62)<=hi)(h:hi<2^62)(q:R (Ex lo (hi-lo).toNat) H):wpAny (model X.prog X.w) X.A (pyIter (.ref s.heap.objs.size)) (Jm X pins σ tg R) E {s with heap:=s.heap.push {cls:=.type "range",data:=.fields #[.int lo t,.int hi u,.int 1 v]},toks:=tk}:=by
 refine wpAny_pyIter_range (IsRange.new ..) (small_one i g j h) ?_;have a:fR X pins σ H {s with heap:=s.heap.push {cls:=.type "range",data:=.fields #[.int lo t,.int hi u,.int 1 v]},toks:=tk}:=I.kept λb o e=>az _ e;refine⟨(s.heap.push {cls:=.type "range",data:=.fields #[.int lo t,.int hi u,.int 1 v]}).objs.size,[(s.heap.push {cls:=.type "range",data:=.fields #[.int lo t,.int hi u,.int 1 v]}).objs.size],_,_,H,rfl,a.kept (t':=tk) λb o e=>az _ e,vy _ lo (hi-lo).toNat,?_,λb l=>?_,q⟩;have d:lo+((0:Nat):Int)*1=lo:=by simp
 have m:(((hi-lo).toNat:Nat):Int)-((0:Nat):Int)=Builtin.Range.rangeSize lo hi 1:=by rw[rangeSize_one];split <;> lia
 show IsRangeIter _ _ (lo+((0:Nat):Int)*1) ((((hi-lo).toNat:Nat):Int)-((0:Nat):Int)) 1;rw[d,m];exact aO _ rfl;have e:b=(s.heap.push {cls:=.type "range",data:=.fields #[.int lo t,.int hi u,.int 1 v]}).objs.size:=by simpa using l
 subst e;exact a.LX (am _) (a.hok.fresh (am _))
inductive GA (R:It->Hp->Prop)(vs:eW V)(H1:Hp):Prop
 |mk (j:Int)(_:vs=[.int j])(_:-(2^62)<=j)(_:j<2^62)(_:R (Ex 0 j.toNat) H1)
def Im (ta:TA):TI:=λσ H R=>ta σ H λvs H1=>GA R vs H1
theorem jP {a:eY}{ta:TA}(i:Gl X "range")(l:X.mg "range" = none)(m:PA X [a] ta)(hs:autoParam (starEach [a] X.env=[(false,eval a X.env)]) gq._auto_1):PI X tg (.Call (.Name "range" p) [a] [] pos) (Im ta):=by intro b s σ H R I h;refine Call_ (kC I i l boot_range (PyProof.Rows.callWith_type1 (hU (m pos b s σ H _ I h) ?_) hs rfl));rintro x v ⟨y,o,g,d,q1⟩;obtain⟨j,e,q1,q2,q⟩:=q1;subst e;cases d with|cons r rr=>cases rr;obtain⟨t,rfl⟩:=r;exact call_range_1 (Aq g (by lia) (by lia) q1 q2 (by simpa using q))
def Jz (wi:TI)(g:TG)(tb:TS):TS:=λD σ H=>wi σ H λJ H1=>∃Wz:Nat->Nat->St->Hp->Prop,(∃m,Wz 0 m σ H1)/\∀i m σ H,Wz i m σ H->
 (J.stop i H/\D.nx σ H)\/(J.go i H/\∃N:St->Hp->Prop,(∀σ' H',N σ' H'->∃m',m'<m/\Wz (i+1) m' σ' H')/\∀x H',J.yld i H x H'->g x σ H' λσ2 H2=>tb {D with nx:=N,ct:=N,bk:=D.nx} σ2 H2)
noncomputable def qm (fp:eW eQ)(h:fb):eW (eQ×Obj):=fp.filterMap λb=>(h.get? b).map λo=>(b,o)
def lF {o:Obj}(hb:b∈fp)(e:h.get? b=some o):(b,o)∈qm fp h:=List.mem_filterMap.mpr ⟨b,hb,by rw[e];rfl⟩
def yL {p:eQ×Obj}(hp:p∈qm fp h):p.1∈fp/\h.get? p.1=some p.2:=by obtain⟨b,d,e⟩:=List.mem_filterMap.mp hp;cases q:h.get? b with|none=>rw[q]at e;cases e|some o=>rw[q]at e;have a:(b,o)=p:=Option.some.inj e;subst a;exact⟨d,q⟩
def fR.pinned (I:fR X pins σ H s)(hf:∀b∈fp,jj X pins H b)(ho:∀b∈fp,∃o,s.heap.get? b=some o/\∀v,o.data≠.cell v):fR X (pins++qm fp s.heap) σ H s:=
 I.LP λp hp=>(aE.mp hp).elim (λz=>I.pin p (aJ _ z)) λz=>by obtain⟨hb,e⟩:=yL z;obtain⟨f0,f1,f2,_⟩:=hf p.1 hb;obtain⟨o,e',d⟩:=ho p.1 hb;rw[e]at e';cases e';exact⟨e,f0,f1,f2,d⟩
def fR.LY {pl:eW (eQ×Obj)}(I:fR X (pins++pl) σ H s):fR X pins σ H s:=I.LP λp hp=>I.pin p (aJ _ (aK _ hp))
def ie {iter:eY}{wi:TI}(hp:PassesOwn (model X.prog X.w) X.A X.env X.xe)(hc:X.calm=true)(hi:PI X tg iter wi)(hg:PG X tg g)(j:lI X body tb)(hs:autoParam (∀x,foldedSetIterable iter X.env x=pure x) qi._auto_1):PS X (.For tg iter body [] pos) (Jz wi g tb):=by
 intro a s σ H D I h;refine wpAny_For (hU (hi a s σ H _ I h) λv s1 h1=>hU h1 λaa s2 h2=>?_) hs;obtain⟨it,E,U,J,H2,e,I2,T,K,S,Z,⟨m0,w0⟩,F⟩:=h2;subst e;have p:∀{H':Hp},(∀b∈E,H' b=none)->∀b∈E,jj X a H' b:=λhn b j=>⟨hn b j,(S b j).2⟩;refine codeAny_forLoop_any (λn s'=>∃i σ' H',fR X a σ' H' s'/\U i s'.heap/\(∀b∈E,H' b=none)/\Z i n σ' H') ?_ m0 ⟨0,σ,H2,I2,K,λb j=>(S b j).1,w0⟩;rintro n Y ⟨i,σ3,G,R,Ho,B,w3⟩;rcases F i n σ3 G w3 with ⟨stop,qn⟩|⟨go,N,hN,step⟩;refine cY hp (hU (T.done X rfl rfl rfl hc i a Y σ3 G X.xe R (p B) Ho stop) ?_);rintro r s4 ⟨M,I4⟩;subst M;exact eo ⟨σ3,G,I4,qn⟩;refine cY hp (hU (T.item X rfl rfl rfl hc i a Y σ3 G X.xe R (p B) Ho go) ?_);rintro r s4 ⟨u,M,h4⟩;subst M;refine cY hp (hU h4 ?_);rintro _ s5 ⟨x,Q,I5,r5,y5,z,O⟩;have P:=I5.pinned (p O) (T.obj _ _ z);refine cY hp (hU (hg _ s5 σ3 Q x u _ P r5 (step x Q y5)) ?_);rintro _ s6 ⟨σ6,H6,I6,q6⟩;refine cY hp (hU (j _ s6 σ6 H6 _ I6 q6) λf L y=>?_);have q:∀{σ7:St} {t:Hp},fR X (a++qm E s5.heap) σ7 t L->N σ7 t->∃m,m<n/\∃i σ' H',fR X a σ' H' L/\U i L.heap/\(∀b∈E,H' b=none)/\Z i m σ' H':=λ{σ7 t} l C=>by obtain⟨m',hm,w7⟩:=hN σ7 t C;refine⟨m',hm,i+1,σ7,t,l.LY,T.keep _ _ _ z λb j o e=>(l.pin (b,o) (aJ _ (aJ _ (lF j e)))).1,λb j=>?_,w7⟩;obtain⟨o,e,d⟩:=T.obj _ _ z b j;exact(l.pin (b,o) (aJ _ (aJ _ (lF j e)))).2.1
 cases f with|next=>obtain⟨σ7,t,l,C⟩:=y;exact q l C|cont=>obtain⟨σ7,t,l,C⟩:=y;exact q l C|brk=>obtain⟨σ7,t,l,y⟩:=y;exact⟨σ7,t,l.LY,y⟩|ret v=>obtain⟨x7,σ7,t,l,r7,y⟩:=y;exact⟨x7,σ7,t,l.LY,r7,y⟩
theorem iE (b:Nat->St->Hp->Prop)(o:b 0 σ H)(h:∀i σ H,i<=xs.length->b i σ H->gf K H a xs)(l:∀i x σ H,xs[i]?=some x->b i σ H->g x σ H λσ2 H2=>tb {D with nx:=b (i+1),ct:=b (i+1),bk:=D.nx} σ2 H2)(d:∀σ H,b xs.length σ H->D.nx σ H):∃Wz:Nat->Nat->St->Hp->Prop,(∃m,Wz 0 m σ H)/\∀i m σ H,Wz i m σ H->((Ey K a).stop i H/\D.nx σ H)\/((Ey K a).go i H/\∃N:St->Hp->Prop,(∀σ' H',N σ' H'->∃m',m'<m/\Wz (i+1) m' σ' H')/\∀x H',(Ey K a).yld i H x H'->g x σ H' λσ2 H2=>tb {D with nx:=N,ct:=N,bk:=D.nx} σ2 H2):=by
 refine⟨λi m σ H=>m=xs.length-i/\i<=xs.length/\b i σ H,⟨xs.length,by simp,bp _,o⟩,?_⟩;rintro i m σ H ⟨rfl,s,p⟩;have q:=h i σ H s p;by_cases hlt:i<xs.length;refine .inr ⟨⟨xs,xs[i],q,by simp[hlt]⟩,b (i+1),λσ' H' j=>⟨xs.length-(i+1),by lia,rfl,hlt,j⟩,λx H' y=>?_⟩;obtain⟨e,y⟩:=y;subst e;exact l i x σ _ (y xs q) p;have e:i=xs.length:=by lia
 subst e;exact .inl ⟨⟨xs,q,am _⟩,d σ H p⟩
theorem DG (b:Nat->St->Hp->Prop)(o:b 0 σ H)(h:∀i σ H,i<=xs.length->b i σ H->jg K H a xs)(l:∀i x σ H,xs[i]?=some x->b i σ H->g x σ H λσ2 H2=>tb {D with nx:=b (i+1),ct:=b (i+1),bk:=D.nx} σ2 H2)(d:∀σ H,b xs.length σ H->D.nx σ H):∃Wz:Nat->Nat->St->Hp->Prop,(∃m,Wz 0 m σ H)/\∀i m σ H,Wz i m σ H->((IH K a).stop i H/\D.nx σ H)\/((IH K a).go i H/\∃N:St->Hp->Prop,(∀σ' H',N σ' H'->∃m',m'<m/\Wz (i+1) m' σ' H')/\∀x H',(IH K a).yld i H x H'->g x σ H' λσ2 H2=>tb {D with nx:=N,ct:=N,bk:=D.nx} σ2 H2):=by
 refine⟨λi m σ H=>m=xs.length-i/\i<=xs.length/\b i σ H,⟨xs.length,by simp,bp _,o⟩,?_⟩;rintro i m σ H ⟨rfl,s,p⟩;have q:=h i σ H s p;by_cases hlt:i<xs.length;refine .inr ⟨⟨xs,xs[i],q,by simp[hlt]⟩,b (i+1),λσ' H' j=>⟨xs.length-(i+1),by lia,rfl,hlt,j⟩,λx H' y=>?_⟩;obtain⟨e,y⟩:=y;subst e;exact l i x σ _ (y xs q) p;have e:i=xs.length:=by lia
 subst e;exact .inl ⟨⟨xs,q,am _⟩,d σ H p⟩
theorem my {lo:Int}{n:Nat}(a:Nat->St->Hp->Prop)(j:a 0 σ H)(h:∀i σ H,i<n->a i σ H->g (.int (lo+i)) σ H λσ2 H2=>tb {D with nx:=a (i+1),ct:=a (i+1),bk:=D.nx} σ2 H2)(b:∀σ H,a n σ H->D.nx σ H):∃Wz:Nat->Nat->St->Hp->Prop,(∃m,Wz 0 m σ H)/\∀i m σ H,Wz i m σ H->((Ex lo n).stop i H/\D.nx σ H)\/((Ex lo n).go i H/\∃N:St->Hp->Prop,(∀σ' H',N σ' H'->∃m',m'<m/\Wz (i+1) m' σ' H')/\∀x H',(Ex lo n).yld i H x H'->g x σ H' λσ2 H2=>tb {D with nx:=N,ct:=N,bk:=D.nx} σ2 H2):=by
 refine⟨λi m σ H=>m=n-i/\i<=n/\a i σ H,⟨n,by simp,bp _,j⟩,?_⟩;rintro i m σ H ⟨rfl,l,p⟩;by_cases hlt:i<n;refine .inr ⟨hlt,a (i+1),λσ' H' d=>⟨n-(i+1),by lia,rfl,hlt,d⟩,λx H' y=>?_⟩;obtain⟨e,y⟩:=y;subst e y;exact h i σ _ hlt p;have e:i=n:=by lia
 subst e;exact .inl ⟨am _,b σ H p⟩
abbrev R2:=V->V->Hp->VK->Prop
def ph (X:Cx)(f:eR->eR->Sem eR)(r:R2):Prop:=
 ∀(pins:eW (eQ×Obj)) (s:eU) (σ:St) (H:Hp) (x y:V) (v u:eR) (Q:VK),fR X pins σ H s->gl x v->gl y u->r x y H Q->
  wpAny (model X.prog X.w) X.A (f v u) (EP X pins σ Q) X.xe s
def Jk (X:Cx)(f:eR->Sem eR)(r:V->Hp->VK->Prop):Prop:=
 ∀(pins:eW (eQ×Obj)) (s:eU) (σ:St) (H:Hp) (x:V) (v:eR) (Q:VK),fR X pins σ H s->gl x v->r x H Q->
  wpAny (model X.prog X.w) X.A (f v) (EP X pins σ Q) X.xe s
def j6 (X:Cx)(f:eR)(r:eW V->Hp->VK->Prop):Prop:=
 ∀(pins:eW (eQ×Obj)) (s:eU) (σ:St) (H:Hp) (xs:eW V) (us:eW eR) (Q:VK),fR X pins σ H s->g0 xs us->r xs H Q->
  wpAny (model X.prog X.w) X.A (call f us) (EP X pins σ Q) X.xe s
def Kf (X:Cx)(r:V->Hp->(Bool->Hp->Prop)->Prop):Prop:=
 ∀(pins:eW (eQ×Obj)) (s:eU) (σ:St) (H:Hp) (x:V) (v:eR) (Q:Bool->Hp->Prop),fR X pins σ H s->gl x v->r x H Q->
  wpAny (model X.prog X.w) X.A (truthy v) (TP X pins σ Q) X.xe s
def EF (r:R2)(ta tb:TE):TE:=λσ H Q=>ta σ H λx H1=>tb σ H1 λy H2=>r x y H2 Q
def K1 (r:V->Hp->VK->Prop)(ta:TE):TE:=λσ H Q=>ta σ H λx H1=>r x H1 Q
inductive LE (C:Int->Int->Prop)(g:Int->Int->V)(x:V)(y:V)(H:Hp)(Q:VK):Prop
 |mk (i j:_)(_:x=.int i)(_:y=.int j)(_:C i j)(_:Q (g i j) H)
def rI (C:Int->Int->Prop)(g:Int->Int->V):R2:=λx y H Q=>LE C g x y H Q
inductive Ky (g:Int->Int->V)(x:V)(y:V)(H:Hp)(Q:VK):Prop
 |mk (i j:_)(_:x=.int i)(_:y=.int j)(_:Q (g i j) H)
def CW (g:Int->Int->V):R2:=λx y H Q=>Ky g x y H Q
inductive LD (g:Int->V)(x:V)(H:Hp)(Q:VK):Prop
 |mk (i:_)(_:x=.int i)(_:Q (g i) H)
def rU (g:Int->V):V->Hp->VK->Prop:=λx H Q=>LD g x H Q
section
variable {a b c:eY}{tb tc:TE}
def Gc (g:PE X a ta)(m:PE X b tb){R:V->V->Hp->Prop}(I:fR X pins σ H s)(h:ta σ H λx H1=>tb σ H1 λy H2=>R x y H2){Q:eR->eU->Prop}{f:eR->eR->Sem eR}(e:∀v u s2 x y H2,fR X pins σ H2 s2->gl x v->gl y u->R x y H2->wpAny (model X.prog X.w) X.A (f v u) Q X.xe s2):wpAny (model X.prog X.w) X.A (eval a X.env) (λv s₁=>wpAny (model X.prog X.w) X.A (eval b X.env) (λu s₂=>wpAny (model X.prog X.w) X.A (f v u) Q X.xe s₂) X.xe s₁) X.xe s:=by refine hU (g pins s σ H _ I h) ?_;rintro v l ⟨x,H1,o,j,q1⟩;refine hU (m pins l σ H1 _ o q1) ?_;rintro u s2 ⟨y,H2,i,d,q2⟩;exact e v u s2 x y H2 i j d q2
def fU {op:Operator}{r:R2}(e:ph X (binaryOp op) r)(o:PE X a ta)(i:PE X b tb):PE X (.BinOp a op b pos) (EF r ta tb):=by intro d s σ H Q I h;exact wpAny_BinOp (Gc o i I h λv u m x y l p g j q=>e d m σ l x y v u Q p g j q)
def jL {op:UnaryOp}{r:V->Hp->VK->Prop}(d:Jk X (unaryOp op) r)(g:PE X a ta):PE X (.UnaryOp op a pos) (K1 r ta):=by intro b s σ H Q I h;exact UnaryOp_ (hU (g b s σ H _ I h) (by rintro v j ⟨x,e,l,i,q1⟩;exact d b j σ e x v Q l i q1))
def Jc {f:eR->eR->Sem eR}{C:Int->Int->Prop}{g:Int->Int->Int}(a:∀(i j:Int) (t u:Tok) (s:eU) (Q:eR->eU->Prop) (E:eR->eU->Prop),C i j->Q (.int (g i j) s.toks) {s with toks:=s.toks+1}->wpAny (model X.prog X.w) X.A (f (.int i t) (.int j u)) Q E s):ph X f (rI C λi j=>.int (g i j)):=by intro b s σ H x y v u Q I e l h;obtain⟨i,j,rfl,rfl,m,q⟩:=h;obtain⟨t,rfl⟩:=e;obtain⟨d,rfl⟩:=l;exact a i j t d s _ _ m ⟨.int (g i j),H,I.tok _,⟨_,rfl⟩,q⟩
def Db {f:eR->eR->Sem eR}{g:Int->Int->Int}(a:∀(i j:Int) (t u:Tok) (s:eU) (Q:eR->eU->Prop) (E:eR->eU->Prop),Q (.int (g i j) s.toks) {s with toks:=s.toks+1}->wpAny (model X.prog X.w) X.A (f (.int i t) (.int j u)) Q E s):ph X f (CW λi j=>.int (g i j)):=by intro b s σ H x y v u Q I e l h;obtain⟨i,j,rfl,rfl,q⟩:=h;obtain⟨t,rfl⟩:=e;obtain⟨d,rfl⟩:=l;exact a i j t d s _ _ ⟨.int (g i j),H,I.tok _,⟨_,rfl⟩,q⟩
def Fp {f:eR->eR->Sem eR}{g:Int->Int->Bool}(a:∀(i j:Int) (t u:Tok) (s:eU) (Q:eR->eU->Prop) (E:eR->eU->Prop),Q (.bool (g i j)) s->wpAny (model X.prog X.w) X.A (f (.int i t) (.int j u)) Q E s):ph X f (CW λi j=>.bl (g i j)):=by intro b s σ H x y v u Q I e l h;obtain⟨i,j,rfl,rfl,q⟩:=h;obtain⟨t,rfl⟩:=e;obtain⟨d,rfl⟩:=l;exact a i j t d s _ _ ⟨.bl (g i j),H,I,rfl,q⟩
def KJ (i j:Int):Prop:=0<j/\j<1073741824
def KI (i j:Int):Prop:=0<=j/\j<=1000000/\i.natAbs<2^64
def GE (i j:Int):Prop:=(-(2^64)<i/\i<2^64)\/(-(2^64)<j/\j<2^64)
def GE.ok {i j:Int}(h:GE i j):IntMulOk i j:=by rcases h with ⟨a,b⟩|⟨a,b⟩;exact .of_left (intBits_le_64 a b);exact .of_right (intBits_le_64 a b)
def nh:ph X (binaryOp .Add) (CW λi j=>.int (i+j)):=Db λ_ _ _ _ _ _ _ q=>add_int q
def AO:ph X (binaryOp .Sub) (CW λi j=>.int (i-j)):=Db λ_ _ _ _ _ _ _ q=>sub_int q
def tL:ph X (binaryOp .Mult) (rI GE λi j=>.int (i*j)):=Jc λ_ _ _ _ _ _ _ hc q=>mul_int q hc.ok
theorem iQ:ph X (binaryOp .FloorDiv) (rI KJ λi j=>.int (i / j)):=Jc λi j _ _ _ _ _ hc q=>by
 have h1:(0:Int)<j:=hc.1;have h2:j<1073741824:=hc.2;exact floordiv_int (by lia) (by rw[Int.fdiv_eq_ediv_of_nonneg i (by lia)];exact q) (.inl (PyProof.noPylong_small (by lia)))
theorem iB:ph X (binaryOp .Mod) (rI (λ_ j=>0<j) λi j=>.int (i % j)):=Jc λi j _ _ _ _ _ hc q=>by
 have h1:(0:Int)<j:=hc;exact mod_int' (by lia) (by rw[Int.fmod_eq_emod_of_nonneg i (by lia)];exact q)
def vS:ph X (binaryOp .Pow) (rI KI λi j=>.int (i^j.toNat)):=Jc λ_ _ _ _ _ _ _ hc q=>pow_int_small hc.1 hc.2.1 hc.2.2 q
def iV:ph X (binaryOp .BitAnd) (CW λi j=>.int (Builtin.bitAnd i j)):=Db λ_ _ _ _ _ _ _ q=>and_int q
def rP:ph X (binaryOp .BitOr) (CW λi j=>.int (Builtin.bitOr i j)):=Db λ_ _ _ _ _ _ _ q=>or_int q
def KK {f:eR->Sem eR}{g:Int->Int}(a:∀(i:Int) (t:Tok) (s:eU) (Q:eR->eU->Prop) (E:eR->eU->Prop),Q (.int (g i) s.toks) {s with toks:=s.toks+1}->wpAny (model X.prog X.w) X.A (f (.int i t)) Q E s):Jk X f (rU λi=>.int (g i)):=by intro b s σ H x v Q I d h;obtain⟨i,rfl,q⟩:=h;obtain⟨t,rfl⟩:=d;exact a i t s _ _ ⟨.int (g i),H,I.tok _,⟨_,rfl⟩,q⟩
def kS:Jk X (unaryOp .USub) (rU λi=>.int (-i)):=KK λ_ _ _ _ _ q=>neg_int q
def lR:Jk X (unaryOp .Invert) (rU λi=>.int (Builtin.bitNot i)):=KK λ_ _ _ _ _ q=>invert_int q
end
noncomputable def Hr:V->V->Bool
 |.non,.non=>true|.non,.int _=>true|.int _,.non=>true|.non,.bl _=>true|.bl _,.non=>true|.non,.str _=>true|.str _,.non=>true
 |.int _,.int _=>true|.bl _,.bl _=>true|.str _,.str _=>true|.byt _,.byt _=>true
 |.int _,.str _=>true|.str _,.int _=>true|.bl _,.str _=>true|.str _,.bl _=>true
 |_,_=>false
def Le:R2:=λx y H Q=>Hr x y=true/\Q (.bl (decide (x=y))) H
def Ld:R2:=λx y H Q=>Hr x y=true/\Q (.bl (!decide (x=y))) H
def xJ {i j:Int}:decide (V.int i=V.int j)=(i == j):=by rw[dg];simp
def BK {i j:Bool}:decide (V.bl i=V.bl j)=(i == j):=by rw[dg];simp
def xI {i j:Str}:decide (V.str i=V.str j)=(i == j):=by rw[dg];simp
def xK {i j:Array UInt8}:decide (V.byt i=V.byt j)=(i.toList == j.toList):=by rw[dg];cases i;cases j;simp
section
variable {a b c:eY}{tb tc:TE}
def ik {Q:VK}{k k':Bool}(I:fR X pins σ H s)(q:Q (.bl k) H)(e:k=k'):EP X pins σ Q (.bool k') s:=by subst e;exact⟨.bl k,H,I,rfl,q⟩
def iN:ph X (compareOp .Eq) Le:=by
 intro g s σ H x y v u Q I e a h;obtain⟨d,q⟩:=h;cases x with
 |non=>cases e;cases y with|non=>cases a;exact PySem.EqNone.eq_none_none (ik I q (by simp))|bl j=>cases a;exact PySem.EqNone.eq_none_bool (ik I q (by simp))|int j=>obtain⟨b,rfl⟩:=a;exact PySem.EqNone.eq_none_int (ik I q (by simp))|str j=>obtain⟨b,rfl⟩:=a;exact PySem.EqNone.eq_none_str (ik I q (by simp))|_=>exact absurd (show false=true from d) aV
 |bl i=>cases e;cases y with|non=>cases a;exact PySem.EqNone.eq_bool_none (ik I q (by simp))|bl j=>cases a;exact eq_bool (ik I q BK)|str j=>obtain⟨b,rfl⟩:=a;exact PySem.EqMixed.eq_bool_str (ik I q (by simp))|_=>exact absurd (show false=true from d) aV
 |int i=>obtain⟨t,rfl⟩:=e;cases y with|non=>cases a;exact PySem.EqNone.eq_int_none (ik I q (by simp))|int j=>obtain⟨b,rfl⟩:=a;exact eq_int (ik I q xJ)|str j=>obtain⟨b,rfl⟩:=a;exact PySem.EqMixed.eq_int_str (ik I q (by simp))|_=>exact absurd (show false=true from d) aV
 |str i=>obtain⟨t,rfl⟩:=e;cases y with|non=>cases a;exact PySem.EqNone.eq_str_none (ik I q (by simp))|bl j=>cases a;exact PySem.EqMixed.eq_str_bool (ik I q (by simp))|int j=>obtain⟨b,rfl⟩:=a;exact PySem.EqMixed.eq_str_int (ik I q (by simp))|str j=>obtain⟨b,rfl⟩:=a;exact eq_str (ik I q xI)|_=>exact absurd (show false=true from d) aV
 |byt i=>obtain⟨t,rfl⟩:=e;cases y with|byt j=>obtain⟨b,rfl⟩:=a;exact W.eq_bytes (ik I q xK)|_=>exact absurd (show false=true from d) aV
 |_=>cases y <;> exact absurd (show false=true from d) aV
def Ek:ph X (compareOp .NotEq) Ld:=by
 intro g s σ H x y v u Q I e a h;obtain⟨d,q⟩:=h;cases x with
 |non=>cases e;cases y with|non=>cases a;exact PySem.EqNone.ne_none_none (ik I q (by simp))|bl j=>cases a;exact PySem.EqNone.ne_none_bool (ik I q (by simp))|int j=>obtain⟨b,rfl⟩:=a;exact PySem.EqNone.ne_none_int (ik I q (by simp))|str j=>obtain⟨b,rfl⟩:=a;exact PySem.EqNone.ne_none_str (ik I q (by simp))|_=>exact absurd (show false=true from d) aV
 |bl i=>cases e;cases y with|non=>cases a;exact PySem.EqNone.ne_bool_none (ik I q (by simp))|bl j=>cases a;exact ne_bool (ik I q (congrArg not BK))|str j=>obtain⟨b,rfl⟩:=a;exact PySem.EqMixed.ne_bool_str (ik I q (by simp))|_=>exact absurd (show false=true from d) aV
 |int i=>obtain⟨t,rfl⟩:=e;cases y with|non=>cases a;exact PySem.EqNone.ne_int_none (ik I q (by simp))|int j=>obtain⟨b,rfl⟩:=a;exact ne_int (ik I q (congrArg not xJ))|str j=>obtain⟨b,rfl⟩:=a;exact PySem.EqMixed.ne_int_str (ik I q (by simp))|_=>exact absurd (show false=true from d) aV
 |str i=>obtain⟨t,rfl⟩:=e;cases y with|non=>cases a;exact PySem.EqNone.ne_str_none (ik I q (by simp))|bl j=>cases a;exact PySem.EqMixed.ne_str_bool (ik I q (by simp))|int j=>obtain⟨b,rfl⟩:=a;exact PySem.EqMixed.ne_str_int (ik I q (by simp))|str j=>obtain⟨b,rfl⟩:=a;exact ne_str (ik I q (congrArg not xI))|_=>exact absurd (show false=true from d) aV
 |byt i=>obtain⟨t,rfl⟩:=e;cases y with|byt j=>obtain⟨b,rfl⟩:=a;exact W.ne_bytes (ik I q (congrArg not xK))|_=>exact absurd (show false=true from d) aV
 |_=>cases y <;> exact absurd (show false=true from d) aV
def El:ph X (compareOp .Lt) (CW λi j=>.bl (decide (i<j))):=Fp λ_ _ _ _ _ _ _ q=>lt_int q
def xo:ph X (compareOp .LtE) (CW λi j=>.bl (decide (i<=j))):=Fp λ_ _ _ _ _ _ _ q=>le_int q
def uE:ph X (compareOp .Gt) (CW λi j=>.bl (decide (j<i))):=Fp λ_ _ _ _ _ _ _ q=>gt_int q
def gr (b:eY)(h:autoParam (op≠.In) Ay._auto_1)(h2:autoParam (op≠.NotIn) Ay._auto_1):behindInMarks op b=false:=by
 have d:(op == CmpOp.In)=false:=by cases op <;> first|rfl|exact absurd rfl h
 have a:(op == CmpOp.NotIn)=false:=by cases op <;> first|rfl|exact absurd rfl h2
 cases b <;> simp[behindInMarks,d,a]
def kJ {r:R2}(e:ph X (compareOp op) r)(p:PE X a ta)(i:PE X b tb)(m:behindInMarks op b=false):PE X (.Compare a [op] [b] pos) (EF r ta tb):=by intro d s σ H Q I h;exact wpAny_Compare1 (Gc p i I h λv u o x y l t g j q=>e d o σ l x y v u Q t g j q) m
inductive Gn (Q:Bool->Hp->Prop)(x:V)(H':Hp):Prop
 |mk (k:_)(_:x=.bl k)(_:Q k H')
def D9 (t:TE):TT:=λσ H Q=>t σ H λx H'=>Gn Q x H'
def ge {r:R2}(i:ph X (compareOp op) r)(D:PE X a ta)(m:PE X b tb)(t:behindInMarks op b=false):PT X (.Compare a [op] [b] pos) (D9 (EF r ta tb)):=by intro d s σ H Q I h;refine wpAny_isTrue_Compare1 (hU (D d s σ H _ I h) λv l ⟨x,g,o,j,q1⟩=>hU (m d l σ g _ o q1) λu C ⟨y,A,F,q,q2⟩=>hU (i d C σ A x y v u _ F j q q2) λc G ⟨z,p,B,r3,k,e,E⟩=>?_) t;subst e;cases r3;exact cc ⟨p,B,E⟩
inductive DZ (r':R2)(tc:TE)(σ:St)(Q:VK)(y:V)(z:V)(H3:Hp):Prop
 |mk (k:_)(_:z=.bl k)(_:if k=true then tc σ H3 λw' H4=>r' y w' H4 Q else Q (.bl false) H3)
def EO (r r':R2)(ta tb tc:TE):TE:=λσ H Q=>ta σ H λx H1=>tb σ H1 λy H2=>r x y H2 λz H3=>DZ r' tc σ Q y z H3
def AH {op':CmpOp}{r r':R2}(L:ph X (compareOp op) r)(i:ph X (compareOp op') r')(S:PE X a ta)(B:PE X b tb)(J:PE X c tc)(hm:lastMarks [op,op'] [b,c]=false:=by with_unfolding_all rfl):PE X (.Compare a [op,op'] [b,c] pos) (EO r r' ta tb tc):=by intro g s σ H Q I h;refine Compare_chain (hU (S g s σ H _ I h) λv O ⟨x,N,D,t,q1⟩=>chain_link (hU (B g O σ N _ D q1) λu G ⟨y,P,K,o,q2⟩=>hU (L g G σ P x y v u _ K t o q2) λd R ⟨z,j,l,r3,k,e,m⟩=>?_)) hm;subst e;cases r3;refine cc ?_;cases k with|false=>exact ite_ff ⟨.bl false,j,l,rfl,m⟩|true=>exact ite_tt (chain_last (hU (J g R σ j _ l m) (by rintro q p ⟨C,F,A,E,M⟩;exact i g p σ F y C u q Q A o E M)))
def Iz (K:fh)(x:V)(H:Hp)(k:Bool):Prop:=
 match x with
 |.non=>k=false
 |.bl b=>k=b
 |.int i=>k=(i != 0)
 |.str y=>y.length<=sizeLine/\k=((y.length:Int) != 0)
 |.byt y=>y.size<=sizeLine/\k=((y.size:Int) != 0)
 |.ref p=>(∃xs,gf K H p xs/\k=!xs.isEmpty)\/(∃xs,jg K H p xs/\k=!xs.isEmpty)\/∃kvs,H p=some (.dK kvs)/\k=!kvs.isEmpty
 |_=>False
def qF {κ:Type}{kvs:eW (κ×V)}{vs:eW (κ×eR)}(r:KV kvs vs):(!vs.isEmpty)=!kvs.isEmpty:=by cases r <;> rfl
def qE {its:eW eR}(r:g0 xs its):(!its.toArray.isEmpty)=!xs.isEmpty:=by cases r <;> simp
def tU:(sizeLine:Nat)<2^63:=by rw[ci];decide
theorem zL:Kf X (λx H Q=>∃k,Iz X.K x H k/\Q k H):=by
 intro B s σ H x v Q I l h;obtain⟨k,e,q⟩:=h;have D:=tU;have E:sizeLine=16777216:=ci;cases x with
 |non=>cases l;have a:k=false:=e;subst a;exact truthy_none ⟨H,I,q⟩
 |bl b=>cases l;have a:k=b:=e;subst a;exact cc ⟨H,I,q⟩
 |int i=>obtain⟨t,rfl⟩:=l;have a:k=(i != 0):=e;subst a;exact PySem.P.truthy_int ⟨H,I,q⟩
 |str y=>obtain⟨t,rfl⟩:=l;obtain⟨hy,a⟩:y.length<=sizeLine/\k=((y.length:Int) != 0):=e;subst a;exact PySem.P.truthy_str (by lia) ⟨H,I.tok _,q⟩
 |byt y=>obtain⟨t,rfl⟩:=l;obtain⟨hy,a⟩:y.size<=sizeLine/\k=((y.size:Int) != 0):=e;subst a;exact W.truthy_bytes (by lia) ⟨H,I.tok _,q⟩
 |ref p=>cases l;have a:(∃j,gf X.K H p j/\k=!j.isEmpty)\/(∃j,jg X.K H p j/\k=!j.isEmpty)\/∃d,H p=some (.dK d)/\k=!d.isEmpty:=e;rcases a with ⟨j,o,a⟩|⟨j,o,a⟩|⟨d,o,a⟩;subst a;obtain⟨A,r,z,C⟩:=I.list o;have g:=r.length;exact wpAny_truthy_list z.isList (by simp only[aP];lia) ⟨H,I.tok _,by rw[qE r];exact q⟩;subst a;obtain⟨A,r,z,C⟩:=I.tuple o;have g:=r.length;exact truthy_tuple z (by simp only[aP];lia) ⟨H,I.tok _,by rw[qE r];exact q⟩;subst a;obtain⟨C,hS,vs,r,m⟩:d.length<=sizeLine/\(p == sysModules)=false/\∃vs,KV d vs/\s.heap.DictOf (gm X.prog X.w) p vs:=I.hok p _ o;have g:d.length=vs.length:=Paired.length r;exact wpAny_truthy_dict hS m (by lia) ⟨H,I.tok _,by rw[qF r];exact q⟩
 |_=>exact(show False from e).elim
def i9 (g:PE X a ta)(e:∀whole,isTrue a X.env whole=(do let v <-whole;standAt a.pos;holding [v] (truthy v))):PT X a (λσ H Q=>ta σ H λx H'=>∃k,Iz X.K x H' k/\Q k H'):=by intro b s σ H Q I h;exact isTrue_plain (hU (g b s σ H _ I h) (by rintro v j ⟨x,d,l,i,q1⟩;exact zL b j σ d x v Q l i q1)) (e _)
def jA {x:V}(r:g0 [x] us):∃u,us=[u]/\gl x u:=by cases r with|cons r1 r2=>cases r2;exact⟨_,rfl,r1⟩
def w9 {x:V}(r:g0 [x,y] us):∃u w',us=[u,w']/\gl x u/\gl y w':=by cases r with|cons r1 r2=>cases r2 with|cons r3 r4=>cases r4;exact⟨_,_,rfl,r1,r3⟩
def zk (b:X.calm=true):j6 X (.builtin "max") (λxs H Q=>∃i j,xs=[.int i,.int j]/\Q (.int (if j>i then j else i)) H):=by intro a s σ H xs g Q I r h;obtain⟨i,j,rfl,q⟩:=h;obtain⟨u,d,rfl,⟨t,rfl⟩,⟨e,rfl⟩⟩:=w9 r;refine max_two_ints (I.ok.hd b) λl m k=>⟨_,H,I.kept k,?_,q⟩;by_cases hj:j>i;rw[ay hj,ay hj];exact⟨_,rfl⟩;rw[ax hj,ax hj];exact⟨_,rfl⟩
def zj (b:X.calm=true):j6 X (.builtin "min") (λxs H Q=>∃i j,xs=[.int i,.int j]/\Q (.int (if j<i then j else i)) H):=by intro a s σ H xs g Q I r h;obtain⟨i,j,rfl,q⟩:=h;obtain⟨u,d,rfl,⟨t,rfl⟩,⟨e,rfl⟩⟩:=w9 r;refine min_two_ints (I.ok.hd b) λl m k=>⟨_,H,I.kept k,?_,q⟩;by_cases hj:j<i;rw[ay hj,ay hj];exact⟨_,rfl⟩;rw[ax hj,ax hj];exact⟨_,rfl⟩
def zn:j6 X (.type "int") (λxs H Q=>(∃i,xs=[.int i]/\Q (.int i) H)\/∃k,xs=[.bl k]/\Q (.int (if k then 1 else 0)) H):=by intro a s σ H xs d Q I r h;rcases h with ⟨i,rfl,q⟩|⟨k,rfl,q⟩;obtain⟨u,rfl,t,rfl⟩:=jA r;exact call_int_int ⟨.int i,H,I,⟨_,rfl⟩,q⟩;obtain⟨u,rfl,b⟩:=jA r;cases b;exact call_int_bool ⟨.int (if k then 1 else 0),H,I.tok _,⟨_,rfl⟩,q⟩
end
structure wT (h:fb)(x dx C:eQ)(mA:Str->fc eR):Prop where
 obj:h.get? x=some (W.instObj C dx)
 ns:h.Ns1 dx mA
 ne:dx≠x
def yT (n:h.Ns1 dx mA):∃od,h.get? dx=some od/\∀name,W.lookIn name od=some (mA name):=by
 obtain⟨o,d,s,i,g,m,_,l⟩:=n;refine⟨o,i,λname=>?_⟩;have e:=l name;unfold nsFind findBy at e;rw[<-Array.find?_toList]at e;unfold W.lookIn;rw[g];dsimp only;split;rename_i y q;rw[q]at e;exact congrArg some e;rename_i q;rw[q]at e;have a:d.toList.any (·.refKey)=false:=by rw[List.any_eq_false];intro y j;obtain⟨z,t,b⟩:=m y (Array.mem_toList_iff.mp j);simp[DictEntry.refKey,b]
 have p:¬d.toList.any (·.refKey)=true:=by rw[a];exact aV
 rw[ax p];exact congrArg some e
def wT.look {x:eQ}(I:wT h x dx C mA):∃od,W.InstAt h x (W.instObj C dx) C (some od)/\∀name,W.lookIn name od=some (mA name):=
 let ⟨od,ho,hl⟩:=yT I.ns
 ⟨od,⟨I.obj,rfl,rfl,ho⟩,hl⟩
section
variable {prog:eV}{w:fe}{x f:eQ}{name:Str}{v:eR}
def DE {expr:Bool}(X:K.In s.heap)(I:wT s.heap x dx C mA)(i:W.plainGet K C name=true)(g:W.hasDictIn K C=true)(e:W.findIn K (.ref C) name=some none)(d:mA name=some v)(a:W.handedIn v=true)(h:Q v {s with toks:=s.toks+1}):wpAny (model prog w) A (getAttr (.ref x) name expr) Q E s:=by obtain⟨j,J,b⟩:=I.look;exact W.get_value X J (W.plainGet_of i).1 (W.findObj_own g e rfl (by rw[b,d])) a h
def By {Q:eR×eW eR->eU->Prop}(X:K.In s.heap)(I:wT s.heap x dx C mA)(a:W.plainGet K C name=true)(b:W.findIn K (.ref C) name=some (some (.ref f)))(i:W.isFn K (.ref f)=true)(g:mA name=none)(h:Q (.ref f,[.ref x]) s):wpAny (model prog w) A (getMethod (.ref x) name pl) Q E s:=by obtain⟨d,J,e⟩:=I.look;exact W.method_fn X J (W.plainGet_of a).1 (W.plainGet_of a).2 b (beq_iff_eq.mp i) (by show(W.lookIn name d).map (·.isSome)=some false;rw[e,g];rfl) h
theorem CD {ns:eW Str}{Q:Unit->eU->Prop}(X:K.In s.heap)(I:wT s.heap x dx C mA)(q:W.findIn K (.ref C) "__setattr__" = some (some (.builtin "object.__setattr__")))(hp:W.plainOver K C=true)(p:W.takerIn K C name=some none)(o:W.hasDictIn K C=true)(m:PySem.Within mA ns)(hsz:ns.length<=sizeLine)(h:∀h',wT h' x dx C (λy=>if y=name then some v else mA y)->Heap.SameBut dx s.heap h'->Q () {s with heap:=h',toks:=s.toks+2}):wpAny (model prog w) A (setAttr (.ref x) name v) Q E s:=by obtain⟨L,J,G⟩:=I.look;refine W.set_plain X J q (W.osa_open (s:={s with toks:=s.toks+1}) (r:=none) X J hp p λb=>?_);obtain⟨F,B,j⟩:=W.any_some o;have t:s.heap.get? x=some ⟨.ref C,some dx,.plain,#[]⟩:=I.obj;refine ac (av (ac (ac (wpAny_loadPart t (ac (W.Looks.here (s:={s with toks:=s.toks+1}) (W.looks_clsIn X B) ?_))))));rw[j];refine av (a:=some dx) (ac (av (ac ?_)));refine wpAny_nsSet1 (s:={s with toks:=s.toks+1}) I.ns λh' e d=>?_;obtain⟨H,D,z,i,l,g⟩:=e.count (PySem.Within.cons name v m);refine ac (wpAny_lookBehind i (by rw[l];exact pastItsLine_dict (bz g (by rw[au];lia))) ?_);exact av (h _ ⟨(d.2 _ (Ne.symm I.ne)).trans I.obj,e,I.ne⟩ d)
def Bh {R:Result->eU->Prop}{vs:eW eR}(X:K.In s.heap)(b:W.makesIn K C=true)(i:W.findIn K (.ref C) "__init__" = some (some (.ref f)))(e:W.typeIn K (.ref f)=some (.type "function"))(h:codeAny (model prog w) (A.under (.builtin "type.__call__" ⟨.ref C::vs,kw⟩)) (.call (.ref f) ⟨.ref (s.heap.objs.size+1)::vs,kw⟩) (W.InitBack (s.heap.objs.size+1) R) {s with heap:=(s.heap.push W.emptyDict).push (W.instObj C s.heap.objs.size)}):codeAny (model prog w) A (.call (.ref C) ⟨vs,kw⟩) R s:=by obtain⟨l,g,d,t,j⟩:=s;exact W.make_core (W.makes_of X b) (W.looks_findIn X i) (λa=>W.bind_fn X a e) (.inl rfl) h
end
noncomputable def ij (f:Str)(v:V):eW (Str×V)->eW (Str×V)
 |[]=>[(f,v)]
 |(g,x)::r=>if g=f then (g,v)::r else (g,x)::ij f v r
theorem jd (f g:Str)(v:V):∀fs:eW (Str×V),(ij f v fs).lookup g=if g=f then some v else fs.lookup g
 |[]=>by show List.lookup g [(f,v)]=_;by_cases h:g=f;have hb:(g == f)=true:=beq_iff_eq.mpr h;simp only[List.lookup,hb,ay h];have hb:(g == f)=false:=beq_eq_false_iff_ne.mpr h;simp only[List.lookup,hb,ax h]
 |(k,x)::r=>by have ih:=jd f g v r;rw[show ij f v ((k,x)::r)=(if k=f then (k,v)::r else (k,x)::ij f v r) from rfl];by_cases hk:k=f;rw[ay hk];by_cases h:g=k;have hb:(g == k)=true:=beq_iff_eq.mpr h;simp only[List.lookup,hb,ay (h.trans hk)];have hb:(g == k)=false:=beq_eq_false_iff_ne.mpr h;simp only[List.lookup,hb,ax (λe:g=f=>h (e.trans hk.symm))];rw[ax hk];by_cases h:g=k;have hb:(g == k)=true:=beq_iff_eq.mpr h;simp only[List.lookup,hb,ax (λe:g=f=>hk (h.symm.trans e))];have hb:(g == k)=false:=beq_eq_false_iff_ne.mpr h;simp only[List.lookup,hb];exact ih
theorem oz (f:Str)(v:V):∀fs:eW (Str×V),f∈(ij f v fs).map (·.1)/\∀g,g∈fs.map (·.1)->g∈(ij f v fs).map (·.1)
 |[]=>⟨by simp[ij],λg h=>by simp at h⟩
 |(k,x)::r=>by obtain⟨i1,i2⟩:=oz f v r;rw[show ij f v ((k,x)::r)=(if k=f then (k,v)::r else (k,x)::ij f v r) from rfl];by_cases hk:k=f;rw[ay hk];subst hk;exact⟨by simp,λg h=>by simpa using h⟩;rw[ax hk];refine⟨?_,λg h=>?_⟩;rw[aH];exact bt _ i1;rw[aH]at h ⊢;rcases ao.mp h with e|e;exact ao.mpr (.inl e);exact bt _ (i2 g e)
theorem oW (f:Str)(v:V):∀fs:eW (Str×V),(ij f v fs).length<=fs.length+1
 |[]=>by simp[ij]
 |(k,x)::r=>by have ih:=oW f v r;rw[show ij f v ((k,x)::r)=(if k=f then (k,v)::r else (k,x)::ij f v r) from rfl];by_cases hk:k=f;rw[ay hk,au,au];lia;rw[ax hk,au,au];lia
def ki.some_of {o:fc eR}(r:ki (some v) o):∃u,o=some u/\gl v u:=by cases o with|none=>exact(show False from r).elim|some u=>exact⟨u,rfl,r⟩
def ki.none_of {o:fc eR}(r:ki none o):o=none:=by cases o with|none=>rfl|some u=>exact(show False from r).elim
def y9 {u:eR}(r:gl v u):W.handedIn u=true:=by cases v with|non=>cases (show u=Value.none from r);rfl|bl b=>cases (show u=Value.bool b from r);rfl|int i=>obtain⟨t,e⟩:=(show ∃t,u=Value.int i t from r);cases e;rfl|str x=>obtain⟨t,e⟩:=(show ∃t,u=Value.str x t from r);cases e;rfl|byt b=>obtain⟨t,e⟩:=(show ∃t,u=Value.bytes b t from r);cases e;rfl|flt b=>obtain⟨t,e⟩:=(show ∃t,u=Value.float b t from r);cases e;rfl|ref a=>cases (show u=Value.ref a from r);rfl|ty n=>cases (show u=Value.type n from r);rfl
section
variable {w:fe}{fs fs':eW (Str×V)}
def tV (b:mj P w H h)(e:H a=some (.ins C dx fs)):∃mA,wT h a dx C mA/\(∀f,ki (fs.lookup f) (mA f))/\PySem.Within mA (fs.map (·.1))/\fs.length<=1000/\H dx=some (.own a):=by obtain⟨d,z,g,i,mA,n,r,q⟩:=(show ib P w H h a (.ins C dx fs) from b a _ e);exact⟨mA,⟨i,n,g⟩,r,q,z,d⟩
end
structure su (K:fh)(C:eQ):Prop where
 pg:W.plainGet K C Str.empty=true
 hd:W.hasDictIn K C=true
 po:W.plainOver K C=true
 sa:W.findIn K (.ref C) "__setattr__" = some (some (.builtin "object.__setattr__"))
def su.get (c:su K C)(f:Str):W.plainGet K C f=true:=c.pg
def ic (K:fh)(C:eQ)(f:Str):Prop:=W.findIn K (.ref C) f=some none
def ic.taker {f:Str}(n:ic K C f):W.takerIn K C f=some none:=by unfold W.takerIn;rw[show W.findIn K (.ref C) f=some none from n];rfl
structure wV (K:fh)(C:eQ)(m:Str)(f:eQ):Prop where
 at_:W.findIn K (.ref C) m=some (some (.ref f))
 fn:W.isFn K (.ref f)=true
 kp:W.keepIn K (.ref f)=true
section
variable {fs:eW (Str×V)}{f:Str}
def nw {b:Bool}(I:fR X pins σ H s)(e:H a=some (.ins C dx fs))(c:su X.K C)(n:ic X.K C f)(l:fs.lookup f=some v)(h:∀u s',fR X pins σ H s'->gl v u->Q u s'):wpAny (model X.prog X.w) A (getAttr (.ref a) f b) Q E s:=by obtain⟨i,O,r,_,_,_⟩:=tV I.hok e;obtain⟨u,g,d⟩:=ki.some_of (v:=v) (o:=i f) (by rw[<-l];exact r f);exact DE I.kIn O (c.get f) c.hd n g (y9 d) (h u _ (I.tok _) d)
def qI {g:eQ}{Q:eR×eW eR->eU->Prop}(I:fR X pins σ H s)(e:H a=some (.ins C dx fs))(c:su X.K C)(k:wV X.K C m g)(l:fs.lookup m=none)(h:Q (.ref g,[.ref a]) s):wpAny (model X.prog X.w) A (getMethod (.ref a) m pl) Q E s:=by obtain⟨d,O,r,_,_,_⟩:=tV I.hok e;have b:d m=none:=ki.none_of (by rw[<-l];exact r m);exact By I.kIn O (c.get m) k.at_ k.fn b h
theorem mW {u:eR}{Q:Unit->eU->Prop}(I:fR X pins σ H s)(e:H a=some (.ins C dx fs))(c:su X.K C)(n:ic X.K C f)(G:fs.length<1000)(t:gl y u)(h:∀s',fR X pins σ (upd H a (.ins C dx (ij f y fs))) s'->Q () s'):wpAny (model X.prog X.w) A (setAttr (.ref a) f u) Q E s:=by
 obtain⟨l,O,r,i,_,j⟩:=tV I.hok e;have F:(fs.map (·.1)).length<=sizeLine:=by rw[ae,ci];lia
 refine CD I.kIn O c.sa c.po n.taker c.hd i F λv d B=>h _ ?_;have hd:∃o,v.get? dx=some o:=(by obtain⟨o,_,_,D,_⟩:=d.ns;exact⟨o,D⟩);refine I.write (x:=a) (e:=dx) (by rw[e];exact True.intro) (.inr j) (λb q m z=>(B.2 b m).trans z) hd ?_;refine⟨by rw[fw O.ne];exact j,?_,O.ne,d.obj,_,d.ns,λg=>?_,λg p=>?_⟩;have:=oW f y fs;lia;show ki ((ij f y fs).lookup g) (if g=f then some u else l g);rw[jd];by_cases q:g=f;rw[ay q,ay q];exact t;rw[ax q,ax q];exact r g;by_cases q:g=f;rw[q];exact(oz f y fs).1;refine(oz f y fs).2 g (i g λz=>p ?_);show(if g=f then some u else l g)=none;rw[ax q];exact z
def fR.made (I:fR X pins σ H s):fR X pins σ (upd (upd H s.heap.objs.size (.own (s.heap.objs.size+1))) (s.heap.objs.size+1) (.ins C s.heap.objs.size [])) {s with heap:=(s.heap.push W.emptyDict).push (W.instObj C s.heap.objs.size)}:=by
 have d:(s.heap.push W.emptyDict).get? s.heap.objs.size=some W.emptyDict:=aO s.heap rfl;have m:((s.heap.push W.emptyDict).push (W.instObj C s.heap.objs.size)).get? (s.heap.objs.size+1)=some (W.instObj C s.heap.objs.size):=by have:=aO (s.heap.push W.emptyDict) (o:=W.instObj C s.heap.objs.size) rfl;rwa[eL]at this
 have h:(s.heap.push W.emptyDict).Ns s.heap.objs.size (λ_=>none):=⟨W.emptyDict,#[],_,d,rfl,(λe i=>absurd i (by simp)),λ_=>rfl⟩;have l:=I.laid (a:=s.heap.objs.size) (o:=.own (s.heap.objs.size+1)) (h':=s.heap.push W.emptyDict) (t':=s.toks) (λb u q=>az _ q) (am _) ⟨_,d⟩;refine l.laid (a:=s.heap.objs.size+1) (o:=.ins C s.heap.objs.size []) (t':=s.toks) (λb u q=>az _ q) (cE (eL _ _)) ?_;have g:s.heap.objs.size≠s.heap.objs.size+1:=aX (dA _);refine⟨by rw[fw g,fj],bp _,g,m,λ_=>none,(Heap.Ns1.of_empty h).at λo q=>az _ q,λ_=>True.intro,λy j=>absurd rfl j⟩
def xP {prog:eV}{w:fe}{env:Env}{f:Str}(hb:attributeBase e f env (eval e env)=eval e env)(h:wpAny (model prog w) A (eval e env) (λo s₁=>wpAny (model prog w) A (getAttr o f true) Q E s₁) E s):wpAny (model prog w) A (eval (.Attribute e f pos) env) Q E s:=
 Attribute_any_ h (by rw[arm_eval_Attribute,hb])
end
inductive IK (K:fh)(f:Str)(Q:VK)(x:V)(H1:Hp):Prop
 |mk (a C dx fs v:_)(_:x=.ref a)(_:H1 a=some (.ins C dx fs))(_:su K C)(_:ic K C f)(_:fs.lookup f=some v)(_:Q v H1)
def JA (K:fh)(ta:TE)(f:Str):TE:=λσ H Q=>ta σ H λx H1=>IK K f Q x H1
inductive IN (K:fh)(f:Str)(D:lO)(σ:St)(y:V)(x:V)(H2:Hp):Prop
 |mk (a C dx fs:_)(_:x=.ref a)(_:H2 a=some (.ins C dx fs))(_:su K C)(_:ic K C f)(_:fs.length<1000)(_:D.nx σ (upd H2 a (.ins C dx (ij f y fs))))
def JT (K:fh)(ta tv:TE)(f:Str):TS:=λD σ H=>tv σ H λy H1=>ta σ H1 λx H2=>IN K f D σ y x H2
def Gz (X:Cx)(op:Operator)(rd:V->V->Hp->VK->Prop):Prop:=
 ∀(pins:eW (eQ×Obj)) (s:eU) (σ:St) (H:Hp) (x y:V) (u v:eR) (Q:VK),fR X pins σ H s->gl x u->gl y v->rd x y H Q->wpAny (model X.prog X.w) X.A (inplaceOp op u v) (EP X pins σ Q) X.xe s
section
variable {o value:eY}{f:Str}{tpos:Pos}{tv:TE}
def kA (p:PE X e ta)(m:attributeBase e f X.env (eval e X.env)=eval e X.env):PE X (.Attribute e f pos) (JA X.K ta f):=by intro b s σ H Q I h;refine xP m (hU (p b s σ H _ I h) ?_);rintro u z ⟨x,g,j,i,a,C,D,fs,v,d,t,c,n,l,q⟩;subst d;obtain rfl:u=Value.ref a:=i;exact nw j t c n l λB A y o=>⟨v,g,y,o,q⟩
def As (A:PE X o ta)(z:PE X value tv)(t:swapsWith value (some (.Attribute o f pos')) pos.line X.env=pure false):PS X (.Assign [.Attribute o f pos'] value pos) (JT X.K ta tv f):=by intro b s σ H D I h;refine plainObj_wpAny_Assign_Attribute (hU (z b s σ H _ I h) ?_) t;rintro u g ⟨y,e,j,m,q⟩;refine hU (A b g σ e _ j q) ?_;rintro p J ⟨x,F,E,i,a,C,L,fs,d,B,c,n,l,q2⟩;subst d;obtain rfl:p=Value.ref a:=i;exact mW E B c n l m λG v=>⟨σ,_,v,q2⟩
end
section
variable {c:eR}{b:Bool}
end
structure iF (k:Nat)(A:eP):Prop where
 hd:A.handled=none
 dp:A.depth+3*k+5<recursionLimit
 un:A.units+16*k+200<cLine
theorem iF.mono {k:Nat}(r:iF k A)(h:j<=k):iF j A:=⟨r.hd,by have:=r.dp;lia,by have:=r.un;lia⟩
theorem iF.deeper {k:Nat}(r:iF (k+1) A)(env:Env):iF k (A.deeper env):=
 ⟨r.hd,by have:=r.dp;show A.depth+1+3*k+5<_;lia,by have:=r.un;show A.units+3+16*k+200<_;lia⟩
theorem iF.in1 {k:Nat}(r:iF (k+1) A):iF k A.in1:=
 ⟨r.hd,by have:=r.dp;show A.depth+3*k+5<_;lia,by have:=r.un;show A.units+1+16*k+200<_;lia⟩
def wm:(A.under (.builtin "type.__call__" ⟨.ref C::us,kw⟩)).depth=A.depth+1:=by first|rfl|simp[Around.under,Code.weight,Code.isCreation,Code.isGuard,Code.isCaller,Code.frames,Code.isFrame,guardIds]
def wj:(A.under (.builtin "type.__call__" ⟨.ref C::us,kw⟩)).units=A.units+1:=by first|rfl|simp[Around.under,Code.cUnits,Code.frames,Code.isFrame]
theorem iF.make {k:Nat}(r:iF (k+1) A)(C:eQ)(us:eW eR)(kw:eW (Str×eR)):iF k (A.under (.builtin "type.__call__" ⟨.ref C::us,kw⟩)):=
 ⟨r.hd,by have:=r.dp;rw[wm];lia,by have:=r.un;rw[wj];lia⟩
theorem iF.depth {k:Nat}(r:iF k A):A.depth<recursionLimit:=by have:=r.dp;lia
theorem iF.units {k:Nat}(r:iF k A):A.units+64<cLine:=by have:=r.un;lia
def yg:TA:=λ_ H Q=>Q [] H
def rE (ta:TE)(tr:TA):TA:=λσ H Q=>ta σ H λx H1=>tr σ H1 λxs H2=>Q (x::xs) H2
section
variable {t:TA}
def fq:PA X [] yg:=λ_ _ _ _ H Q I h=>Calls.spliced_nil ⟨[],H,I,.nil,h⟩
def fi (q:PE X e te)(i:PA X es t)(hs:autoParam (starEach (e::es) X.env=(false,eval e X.env)::starEach es X.env) gq._auto_1):PA X (e::es) (rE te t):=by intro b a s σ H Q I h;rw[hs];show wpAny _ _ (spliced ((false,eval e X.env)::backTo b (starEach es X.env))) _ _ s;refine Calls.spliced_cons (hU (q a s σ H _ I h) ?_);rintro u l ⟨x,d,m,g,q1⟩;exact hU (i b a l σ d _ m q1) (by rintro y z ⟨j,p,v,o,q2⟩;exact⟨x::j,p,v,.cons g o,q2⟩)
def GT (t:TA):TE:=λσ H Q=>t σ H λxs H1=>xs.length<=sizeLine/\∀p,H1 p=none->Q (.ref p) (upd H1 p (.tup xs))
def Jv (t:TA):TE:=λσ H Q=>t σ H λxs H1=>xs.length<=sizeLine/\∀p,H1 p=none->Q (.ref p) (upd H1 p (.lst xs))
def ig {x1}(h:PA X es t):PE X (.Tuple es x1 pos) (GT t):=by intro a s σ H Q I o;refine wpAny_Tuple_spliced (hU (h pos a s σ H _ I o) ?_);rintro m d ⟨l,g,i,r,z,q⟩;refine⟨by rw[<-r.length];exact z,?_⟩;have j:g d.heap.objs.size=none:=i.hok.fresh (am _);refine⟨.ref d.heap.objs.size,upd g d.heap.objs.size (.tup l),i.laid (t':=d.toks) (λb u e=>az _ e) (am _) ?_,rfl,q _ j⟩;exact⟨z,m,r,⟨_,aO _ rfl,rfl,_,rfl⟩⟩
def gE (h:PA X es t):PE X (.List es pos) (Jv t):=by intro a s σ H Q I o;refine wpAny_List_spliced (hU (h pos a s σ H _ I o) ?_);rintro m d ⟨l,g,i,r,z,q⟩;refine⟨by rw[<-r.length];exact z,?_⟩;have j:g d.heap.objs.size=none:=i.hok.fresh (am _);refine⟨.ref d.heap.objs.size,upd g d.heap.objs.size (.lst l),i.laid (t':=d.toks) (λb u e=>az _ e) (am _) ?_,rfl,q _ j⟩;exact⟨z,m,0,r,aO _ rfl⟩
end
abbrev Sp:=eW V->Hp->VK->XK->Prop
abbrev ul:=eW Env->Hp->eU->XK->eR->eU->Prop
structure wX (P:eV)(w:fe)(K:fh)(mg:Str->fc eR)(base:fb)(A:eP)(outer:eW Env)(s:eU)(H:Hp):Prop where
 frames:A.frames=some outer
 mod:Mod K mg base
 bs:∀b o,base.get? b=some o->s.heap.get? b=some o/\H b=none
 bsz:base.objs.size<=s.heap.objs.size
 funs:s.heap.FunFrames base outer
 frf:∀b∈uq outer,H b=none
 hok:mj P w H s.heap
 bare:AllBare s.gens
def CE (outer:eW Env)(P:eV)(w:fe)(H:Hp)(s:eU)(Q:VK)(u:eR)(s':eU):Prop:=
 ∃v H',s'.os=s.os/\AllBare s'.gens/\Un (uq outer) [] H H' s.heap s'.heap/\mj P w H' s'.heap/\gl v u/\Q v H'
def CR (CX:ul)(outer:eW Env)(P:eV)(w:fe)(H:Hp)(s:eU)(Q:VK)(E:XK)(r:Result)(s':eU):Prop:=
 match r with
 |.ok (.ret u)=>CE outer P w H s Q u s'
 |.ok _=>False
 |.error e=>CX outer H s E e s'
structure gv (P:eV)(w:fe)(K:fh)(mg:Str->fc eR)(base:fb)(CX:ul)(k:Nat)(f:eQ)(fd:eZ)(ps:eW Str)(sp:Sp):Prop where
 len:∀vs H Q E,sp vs H Q E->vs.length=ps.length
 run:∀(A:eP) (outer:eW Env) (s:eU) (H:Hp) (args:Args) (us:eW eR) (vs:eW V) (Q:VK) (E:XK),iF k A->wX P w K mg base A outer s H->BindsTo s fd args (ps.zip us)->g0 vs us->sp vs H Q E->
  codeAny (model P w) A (.call (.ref f) args) (CR CX outer P w H s Q E) s
def gv.mono {w:fe}{base:fb}{k:Nat}{f:eQ}(F:gv P w K mg base CX j f fd ps sp)(h:j<=k):gv P w K mg base CX k f fd ps sp:=⟨F.len,λA outer s H args us vs Q E hr=>F.run A outer s H args us vs Q E (hr.mono h)⟩
def wX.make {w:fe}{base:fb}{outer:eW Env}(e:wX P w K mg base A outer s H)(C:eQ)(us:eW eR)(kw:eW (Str×eR)):wX P w K mg base (A.under (.builtin "type.__call__" ⟨.ref C::us,kw⟩)) outer s H:=⟨by first|exact e.frames|(simpa [Around.under,Code.envs,Code.isFrame,pushEnvs] using e.frames),e.mod,e.bs,e.bsz,e.funs,e.frf,e.hok,e.bare⟩
def fR.LZ (I:fR X pins σ H s):wX X.prog X.w X.K X.mg X.base X.A X.stack s H:=
 ⟨I.ok.frames,I.ok.mod,I.bs,bz I.ok.bsz I.sz,I.stack,I.LO,I.hok,I.bare⟩
def fR.after {Q:VK}{u:eR}(I:fR X pins σ H s)(h:CE X.stack X.prog X.w H s Q u s'):EP X pins σ Q u s':=by obtain⟨v,l,os,a,un,e,r,q⟩:=h;obtain⟨j,g,d,t,i⟩:=s';obtain rfl:i=s.os:=os;exact⟨v,l,I.call (h':=j) (g':=g) (d':=d) (t':=t) (ch:=[]) un e a (λb z=>absurd z (by simp)),r,q⟩
def zO (sp:Sp)(dvs:eW V)(E:XK)(t:TA):TE:=λσ H Q=>t σ H λvs H1=>sp (vs++dvs) H1 Q E
inductive Gq (C:eQ)(m:Str)(sp:Sp)(dvs:eW V)(E:XK)(t:TA)(σ:St)(Q:VK)(x:V)(H1:Hp):Prop
 |mk (a dx fs:_)(_:x=.ref a)(_:H1 a=some (.ins C dx fs))(_:fs.lookup m=none)(_:t σ H1 λvs H2=>sp (x::(vs++dvs)) H2 Q E)
def uu (C:eQ)(m:Str)(sp:Sp)(dvs:eW V)(E:XK)(ta:TE)(t:TA):TE:=λσ H Q=>ta σ H λx H1=>Gq C m sp dvs E t σ Q x H1
def Eb (C:eQ)(sp:Sp)(dvs:eW V)(E:XK)(t:TA):TE:=λσ H Q=>t σ H λvs H1=>∀x dx,H1 x=none->H1 dx=none->dx≠x->
 sp (.ref x::(vs++dvs)) (upd (upd H1 dx (.own x)) x (.ins C dx [])) (λv H2=>v=.non/\Q (.ref x) H2) E
def jf (K:fh)(fd:eZ)(ps:eW Str)(ds:eW eR):Prop:=
 ∀(s:eU) (us:eW eR),K.In s.heap->(us++ds).length=ps.length->BindsTo s fd ⟨us,[]⟩ (ps.zip (us++ds))
def jf.all (h:∀us:eW eR,us.length=ps.length->bindArgs fd ⟨us,[]⟩=pure (ps.zip us)):jf K fd ps []:=λs us _ hl=>by
 rw[bZ]at hl ⊢;exact .of_eq (h us hl)
def kH (CX:ul)(X:Cx)(E:XK):Prop:=∀(pins:eW (eQ×Obj)) (σ:St) (H:Hp) (s:eU) (e:eR) (s':eU),fR X pins σ H s->CX X.stack H s E e s'->X.xe e s'
section
variable {k:Nat}{f:eQ}{dvs:eW V}{ds:eW eR}{E:XK}{apos:Pos}{o:eY}{t:TA}
def tz {Q:VK}(F:gv X.prog X.w X.K X.mg X.base CX k f fd ps sp)(j:iF k X.A)(l:jf X.K fd ps ds)(d:g0 dvs ds)(hx:kH CX X E)(I:fR X pins σ H s)(r:g0 vs us)(h:sp (vs++dvs) H Q E):wpAny (model X.prog X.w) X.A (call (.ref f) us) (EP X pins σ Q) X.xe s:=by
 have b:g0 (vs++dvs) (us++ds):=r.append d;have i:(us++ds).length=ps.length:=by rw[<-b.length];exact F.len _ _ _ _ h
 refine wpAny_call (eB (F.run X.A X.stack s H ⟨us,[]⟩ (us++ds) (vs++dvs) Q E j I.LZ (l s us I.kIn i) b h) λr g a=>?_);cases r with|error e=>exact hx pins σ H s e g I a|ok fl=>cases fl with|ret u=>exact I.after a|next=>exact False.elim a|brk=>exact False.elim a|cont=>exact False.elim a
def pz (F:gv X.prog X.w X.K X.mg X.base CX k f fd ps sp)(g:iF k X.A)(j:Gl X x)(l:X.mg x=some (.ref f))(m:W.keepIn X.K (.ref f)=true)(i:jf X.K fd ps ds)(d:g0 dvs ds)(hx:kH CX X E)(o:PA X (e::es) t)(hdb:autoParam ((x == ("__debug__":Str))=false) Ay._auto_1)(he:autoParam (starEach (e::es) X.env=(false,eval e X.env)::starEach es X.env) gq._auto_1)(hpl:autoParam ((backTo pos (starEach es X.env)).any (·.1)=false) gq._auto_1):PE X (.Call (.Name x p) (e::es) [] pos) (zO sp dvs E t):=by intro a s σ H Q I h;refine bA (mr I j l ?_ hdb);refine W.callWith_K (h₀:=X.base) I.ok.mod.kin m (hU (o pos a s σ H _ I h) ?_) he hpl;rintro z y ⟨B,v,b,r,q⟩;refine⟨b.kIn,?_⟩;exact tz F g i d hx b r q
def xm (G:PE X o ta)(c:su X.K C)(g:wV X.K C m f)(F:gv X.prog X.w X.K X.mg X.base CX k f fd ps sp)(y:iF k X.A)(D:jf X.K fd ps ds)(j:g0 dvs ds)(hx:kH CX X E)(J:PA X (e::es) t)(hst:autoParam (starEach (e::es) X.env=(false,eval e X.env)::starEach es X.env) gq._auto_1)(hpl:autoParam ((backTo pos (starEach es X.env)).any (·.1)=false) gq._auto_1)(ht:eval (.Call (.Attribute o m apos) (e::es) [] pos) X.env=(do
   let ov <-eval o X.env
   standAt apos.atName
   let (f,first) <-holding [ov] (getMethod ov m pl)
   callWith pos f first (backTo pos (starEach (e::es) X.env)) (backToKw pos (keywordEach [] X.env))):=by rfl) :
  PE X (.Call (.Attribute o m apos) (e::es) [] pos) (uu C m sp dvs E ta t):=by
 intro b s σ H Q I h;refine W.methodCall_KW (pl:=pl) (hU (G b s σ H _ I h) ?_) ht;rintro u z ⟨x,v,d,B,a,O,fs,p,L,l,q⟩;subst p;obtain rfl:u=Value.ref a:=B;refine qI d L c g l ?_;refine W.callWith_K (first:=[.ref a]) (h₀:=X.base) I.ok.mod.kin g.kp (hU (J pos b z σ v _ d q) ?_) hst hpl;rintro us N ⟨vs,M,i,r,q2⟩;refine⟨i.kIn,?_⟩;exact tz (us:=.ref a::us) (vs:=.ref a::vs) F y D j hx i (.cons rfl r) q2
def AB (v:PE X o ta)(c:su X.K C)(e:wV X.K C m f)(F:gv X.prog X.w X.K X.mg X.base CX k f fd ps sp)(j:iF k X.A)(t:jf X.K fd ps ds)(g:g0 dvs ds)(hx:kH CX X E)(ht:eval (.Call (.Attribute o m apos) [] [] pos) X.env=(do
   let ov <-eval o X.env
   standAt apos.atName
   let (f,first) <-holding [ov] (getMethod ov m pl)
   callWith pos f first (backTo pos (starEach [] X.env)) (backToKw pos (keywordEach [] X.env))):=by rfl) :
  PE X (.Call (.Attribute o m apos) [] [] pos) (uu C m sp dvs E ta yg):=by
 intro b s σ H Q I h;refine W.methodCall_KW (pl:=pl) (hU (v b s σ H _ I h) ?_) ht;rintro u B ⟨x,z,d,p,a,D,fs,i,y,l,q⟩;subst i;obtain rfl:u=Value.ref a:=p;refine qI d y c e l ?_;exact W.callWith_K0 (first:=[.ref a]) d.kIn e.kp (tz (us:=[.ref a]) (vs:=[.ref a]) F j t g hx d (.cons rfl .nil) q)
structure Mk (K:fh)(C f:eQ):Prop where
 makes:W.makesIn K C=true
 init:W.findIn K (.ref C) "__init__" = some (some (.ref f))
 fn:W.isFn K (.ref f)=true
 kp:W.keepIn K (.ref C)=true
def An {Q:VK}(M:Mk X.K C f)(F:gv X.prog X.w X.K X.mg X.base CX k f fd ps sp)(p:iF (k+1) X.A)(y:jf X.K fd ps ds)(m:g0 dvs ds)(hx:kH CX X E)(I:fR X pins σ H s)(r:g0 vs us)(h:∀x dx,H x=none->H dx=none->dx≠x->sp (.ref x::(vs++dvs)) (upd (upd H dx (.own x)) x (.ins C dx [])) (λv H2=>v=.non/\Q (.ref x) H2) E):wpAny (model X.prog X.w) X.A (call (.ref C) us) (EP X pins σ Q) X.xe s:=by
 have g:=h (s.heap.objs.size+1) s.heap.objs.size (I.hok.fresh (dU _)) (I.hok.fresh (am _)) (aX (dA _));have b:=fR.made (C:=C) I;have d:g0 (V.ref (s.heap.objs.size+1)::(vs++dvs)) (Value.ref (s.heap.objs.size+1)::(us++ds)):=.cons rfl (r.append m);have o:(Value.ref (s.heap.objs.size+1)::us++ds).length=ps.length:=by have e:=d.length;rw[F.len _ _ _ _ g]at e;exact e.symm
 refine wpAny_call (Bh (f:=f) I.kIn M.makes M.init (beq_iff_eq.mp M.fn) (eB (F.run _ X.stack _ _ ⟨Value.ref (s.heap.objs.size+1)::us,[]⟩ (Value.ref (s.heap.objs.size+1)::(us++ds)) _ _ E (p.make C us []) (b.LZ.make C us []) (y _ (Value.ref (s.heap.objs.size+1)::us) b.kIn o) d g) λr l a=>?_));cases r with|error e=>exact hx pins σ _ _ e l b a|ok fl=>cases fl with|ret u=>obtain⟨v,q,j,z,i,t⟩:=b.after a;subst i;exact⟨z,⟨V.ref (s.heap.objs.size+1),q,j,rfl,t⟩⟩|next=>exact False.elim a|brk=>exact False.elim a|cont=>exact False.elim a
def py (M:Mk X.K C f)(F:gv X.prog X.w X.K X.mg X.base CX k f fd ps sp)(g:iF (k+1) X.A)(j:Gl X x)(l:X.mg x=some (.ref C))(i:jf X.K fd ps ds)(d:g0 dvs ds)(hx:kH CX X E)(m:PA X (e::es) t)(hdb:autoParam ((x == ("__debug__":Str))=false) Ay._auto_1)(he:autoParam (starEach (e::es) X.env=(false,eval e X.env)::starEach es X.env) gq._auto_1)(hpl:autoParam ((backTo pos (starEach es X.env)).any (·.1)=false) gq._auto_1):PE X (.Call (.Name x p) (e::es) [] pos) (Eb C sp dvs E t):=by intro a s σ H Q I h;refine bA (mr I j l ?_ hdb);refine W.callWith_K (h₀:=X.base) I.ok.mod.kin M.kp (hU (m pos a s σ H _ I h) ?_) he hpl;rintro y v ⟨z,o,b,r,q⟩;refine⟨b.kIn,?_⟩;exact An M F g i d hx b r q
end
section
variable {k:Nat}{f:eQ}{ks:eW Str}{E:XK}{apos kpos:Pos}{o:eY}{kws:eW Keyword}{t tk:TA}{nm:fc Str}
variable {g:eW eR->eW eR->eW eR}{gV:eW V->eW V->eW V}
end
structure fL (N P:eW Str)(sc:Scope):Prop where
 kind:sc.kind=.function:=by rfl
 co:sc.isCoroutine=false:=by rfl
 gen:sc.isGenerator=false:=by rfl
 nd:N.Nodup:=by decide +kernel
 pre:N.take P.length=P:=by rfl
 par:∀x∈P,sc.names.lookup x=some .local\/sc.names.lookup x=some .cell:=by decide +kernel
 nofree:∀y∈sc.names,y.2≠.free:=by decide +kernel
theorem sg {kindOf:Str->fc NameKind}{x:Str}:∀{binds:eW (Str×eR)} {m:Str->fc eR},(∀v,(x,v)∉binds)->bindL kindOf binds m x=m x
 |[],_,_=>rfl
 |(n,v)::r,m,h=>by
  unfold bindL;rw[sg λw hw=>h w (bt _ hw)];split;have:x≠n:=by rintro rfl;exact h v bH
  simp[this];rfl
theorem sj {kindOf:Str->fc NameKind}{x:Str}:∀{binds:eW (Str×eR)} {m:Str->fc eR},(∀v,(x,v)∉binds)->bindC kindOf binds m x=m x
 |[],_,_=>rfl
 |(n,v)::r,m,h=>by
  unfold bindC;rw[sj λw hw=>h w (bt _ hw)];split;rfl;have:x≠n:=by rintro rfl;exact h v bH
  simp[this]
theorem si {kindOf:Str->fc NameKind}{x:Str}{v:eR}:∀{P:eW Str} {vs:eW eR} {i:Nat} {m:Str->fc eR},P.Nodup->P[i]?=some x->vs[i]?=some v->kindOf x=some .local->bindL kindOf (P.zip vs) m x=some v
 |[],_,_,_,_,h,_,_=>by simp at h
 |_::_,[],_,_,_,_,h,_=>by simp at h
 |p::P,w::vs,0,m,nd,h1,h2,hk=>by simp at h1 h2;subst h1;subst h2;show bindL kindOf ((p,w)::P.zip vs) m p=_;unfold bindL;rw[sg λv hv=>(bb.mp nd).1 (List.of_mem_zip hv).1,ay hk];simp
 |p::P,w::vs,i+1,m,nd,h1,h2,hk=>by show bindL kindOf ((p,w)::P.zip vs) m x=_;unfold bindL;exact si (i:=i) (bb.mp nd).2 (by simpa using h1) (by simpa using h2) hk
theorem sk {kindOf:Str->fc NameKind}{x:Str}{v:eR}:∀{P:eW Str} {vs:eW eR} {i:Nat} {m:Str->fc eR},P.Nodup->P[i]?=some x->vs[i]?=some v->kindOf x≠some .local->bindC kindOf (P.zip vs) m x=some v
 |[],_,_,_,_,h,_,_=>by simp at h
 |_::_,[],_,_,_,_,h,_=>by simp at h
 |p::P,w::vs,0,m,nd,h1,h2,hk=>by simp at h1 h2;subst h1;subst h2;show bindC kindOf ((p,w)::P.zip vs) m p=_;unfold bindC;rw[sj λv hv=>(bb.mp nd).1 (List.of_mem_zip hv).1,ax hk];simp
 |p::P,w::vs,i+1,m,nd,h1,h2,hk=>by show bindC kindOf ((p,w)::P.zip vs) m x=_;unfold bindC;exact sk (i:=i) (bb.mp nd).2 (by simpa using h1) (by simpa using h2) hk
noncomputable def start (N:eW Str)(vs:eW V):St:=vs.map some++List.replicate (N.length-vs.length) none
noncomputable def lN (CX:ul)(P:eV)(w:fe)(K:fh)(mg:Str->fc eR)(base:fb)(N:eW Str)(qual:Str)(scope:Scope)(f:eQ)(cd:eR)(A:eP)(outer:eW Env)(s:eU)(H:Hp)(E:XK):Cx where
 prog:=P
 w:=w
 K:=K
 mg:=mg
 base:=base
 A:=A.deeper (envOfC qual scope s.heap.objs.size f cd)
 N:=N
 s₀:=s
 H₀:=H
 env:=envOfC qual scope s.heap.objs.size f cd
 outer:=outer
 stack:=envOfC qual scope s.heap.objs.size f cd::outer
 ex:=[]
 calm:=true
 fn:=λ_=>true
 pn:=[]
 xe:=λe s'=>wpAny (model P w) (A.deeper (envOfC qual scope s.heap.objs.size f cd)) (leaving (envOfC qual scope s.heap.objs.size f cd) e) (λ_ s''=>CX outer H s E e s'') (λe' s''=>CX outer H s E e' s'') s'
def u8 {sc:Scope}{n:Nat}(h:sc.names.lookup x=some .cell):∃c,(cellsFrom n sc.names []).lookup x=some c:=by have q:=W.cellsFrom_some sc.names n [] (.inl h);exact eO.mp q
theorem y0 {w:fe}{base:fb}{N:eW Str}{qual:Str}{scope:Scope}{f:eQ}{cd:eR}{outer:eW Env}{s1:eU}{E:XK}(S:fL N ps scope)(C:A.handled=none)(g:wX P w K mg base A outer s H)(I:vs.length=ps.length)(r:g0 vs us)(x:InCallC s s.heap.objs.size (bindL (envOfC qual scope s.heap.objs.size f cd).kindOf (ps.zip us) λ_=>none) (cellsFrom (s.heap.objs.size+1) scope.names []) (bindC (envOfC qual scope s.heap.objs.size f cd).kindOf (ps.zip us) λ_=>none) s1):fR (lN CX P w K mg base N qual scope f cd A outer s H E) [] (start N vs) H s1:=by
 have D:ps.length<=N.length:=by have:=congrArg List.length S.pre;rw[aW]at this;lia
 obtain⟨o,L,rfl,B⟩:=x.done;have j:∀b:eQ,b∉(lN CX P w K mg base N qual scope f cd A outer s H E).ex:=λb z=>absurd (show b∈([]:eW eQ) from z) (by simp);refine⟨⟨g.mod,S.kind,rfl,rfl,am _,λy z c o d=>?_,λy hy=>?_,λy c _ h=>?_,λ_=>C,Around.frames_deeper g.frames,.inr ⟨rfl,rfl⟩,λb z=>absurd z (j b),g.bs,g.bsz,λb _ _=>j b,λb z=>absurd z (j b),g.funs,g.frf⟩,rfl,g.bare,Un.kept B,⟨_,x.toInCall.ns,λi y v o d J=>?_⟩,λy c h=>⟨_,x.cell y c h⟩,g.hok.fresh (am _),λy c h=>?_,λp hp=>absurd (show p∈([]:eW (eQ×Obj)) from hp) (by simp),g.hok.kept B,?_⟩;exact name_of_addr x.apart (bC o) (bC d);have hy:scope.names.lookup y=some .cell\/scope.names.lookup y=some .free:=hy;rcases hy with hy|hy;exact u8 hy;exact absurd rfl (S.nofree _ (bC hy));exact bY (x.above y c (bC h));have m:i<vs.length:=by unfold start at d;by_cases m:i<vs.length;exact m;rw[bh (by simpa using m)]at d;rw[dM]at d;split at d <;> cases d
 have F:vs[i]?=some v:=by unfold start at d;rw[aT (by simpa using m),ai]at d;cases e:vs[i]? with|none=>rw[e]at d;cases d|some a=>rw[e]at d;cases d;rfl
 obtain⟨u,t,G⟩:=r.get F;have hp:ps[i]?=some y:=by rw[<-S.pre,List.getElem?_take_of_lt (by lia)];exact o
 have l:ps.Nodup:=by rw[<-S.pre];exact S.nd.sublist (dW _ _)
 refine⟨u,G,?_⟩;rcases S.par y (ak hp) with k|k;exact .inl ⟨k,si l hp t k⟩;obtain⟨c,e⟩:=u8 (n:=s.heap.objs.size+1) k;refine .inr ⟨.inl k,c,e,?_⟩;have q:=x.cell y c e;rw[sk l hp t (by show scope.names.lookup y≠_;rw[k];decide)]at q;exact q;exact g.hok.fresh (bY (x.above y c (bC h)));unfold start;show _=N.length;rw[aB,ae,dZ];lia
def BE {w:fe}{base:fb}{k:Nat}{f:eQ}{name qual:Str}{params:Arguments}{scope:Scope}{dV kV doc pm cdv ct oc:eR}{an od:fc eQ}{osl:Array (fc eR)}{N ps:eW Str}{sp:Sp}(G:K.lookup f=some ⟨oc,od,.func (W.fnOf name qual params body scope dV kV doc pm an cdv ct),osl⟩)(B:W.codeIn K cdv qual=true)(S:fL N ps scope)(len:∀vs H Q E,sp vs H Q E->vs.length=ps.length)(d:∀(A:eP) (outer:eW Env) (s:eU) (H:Hp) (vs:eW V) (Q:VK) (E:XK),iF k (A.deeper (envOfC qual scope s.heap.objs.size f cdv))->sp vs H Q E->∃t,lI (lN CX P w K mg base N qual scope f cdv A outer s H E) body t/\t {nx:=λ_ H'=>Q .non H',rt:=Q} (start N vs) H):gv P w K mg base CX (k+1) f (W.fnOf name qual params body scope dV kV doc pm an cdv ct) ps sp:=by
 refine⟨len,λA outer s H C X vs Q E z h M r j=>?_⟩;have U:=len _ _ _ _ j;have D:K.In s.heap:=h.mod.kin.keeps λb o e=>(h.bs b o e).1;have m:s.heap.NoLimit:=h.mod.nolimit.keeps λb o e=>(h.bs b o e).1;have a:∀y∈ps.zip X,scope.names.lookup y.1=some .local\/(scope.names.lookup y.1=some .cell/\((cellsFrom (s.heap.objs.size+1) scope.names []).lookup y.1).isSome=true):=λ⟨n,v⟩ T=>by rcases S.par n (List.of_mem_zip T).1 with q|q;exact .inl q;exact .inr ⟨q,W.cellsFrom_some _ _ _ (.inl q)⟩
 refine codeAny_call_function z.depth (D _ _ G) rfl S.co S.gen rfl (W.codeRec_of D B) (M _ _ _ _ ?_);refine wpAny_newFunctionEnv_cells S.kind a λR Y F x=>?_;subst Y;refine⟨m.keeps x.toInCall.keep,codeAny_func ?_⟩;obtain⟨t,L,O⟩:=d A outer s H vs Q E (z.deeper _) j;have I:fR (lN CX P w K mg base N qual scope f cdv A outer s H E) [] (start N vs) H F:=y0 S z.hd h U r x;refine bO (L [] F (start N vs) H _ I O) (λfl l g=>?_) λe l g=>g;have i:∀{σ':St} {H':Hp} {v:V} {u:eR},fR (lN CX P w K mg base N qual scope f cdv A outer s H E) [] σ' H' l->gl v u->Q v H'->CE outer P w H s Q u l:=λ{σ' H' v u} J p q=>⟨v,H',J.os,J.bare,J.base,J.hok,p,q⟩;cases fl with|ret u=>obtain⟨v,σ',H',J,p,q⟩:=g;exact i J p q|next=>obtain⟨σ',H',J,q⟩:=g;exact i (v:=V.non) (u:=Value.none) J rfl q|brk=>obtain⟨_,_,_,q⟩:=g;exact False.elim q|cont=>obtain⟨_,_,_,q⟩:=g;exact False.elim q
section
variable {t:TA}{id T:String}{r:eW V->Hp->VK->Prop}
def KN (r:eW V->Hp->VK->Prop)(t:TA):TE:=λσ H Q=>t σ H λvs H1=>r vs H1 Q
def gN (y:j6 X (.builtin id) r)(o:Gl X x)(b:X.mg x=none)(j:bootBuiltins x=some (.builtin id))(l:PA X (e::es) t)(hn:autoParam (x≠"__name__") Ay._auto_1)(hdb:autoParam ((x == ("__debug__":Str))=false) Ay._auto_1)(he:autoParam (starEach (e::es) X.env=(false,eval e X.env)::starEach es X.env) gq._auto_1)(hpl:autoParam ((backTo pos (starEach es X.env)).any (·.1)=false) gq._auto_1):PE X (.Call (.Name x p) (e::es) [] pos) (KN r t):=by intro a s σ H Q I h;refine bA (kC I o b j ?_ hn hdb);exact PyProof.Rows.callWith_builtin1 (hU (l pos a s σ H _ I h) (by rintro d q ⟨g,i,v,m,q1⟩;exact y a q σ i g d Q v m q1)) he hpl
def iS (y:j6 X (.type T) r)(o:Gl X x)(b:X.mg x=none)(j:bootBuiltins x=some (.type T))(l:PA X (e::es) t)(hn:autoParam (x≠"__name__") Ay._auto_1)(hdb:autoParam ((x == ("__debug__":Str))=false) Ay._auto_1)(he:autoParam (starEach (e::es) X.env=(false,eval e X.env)::starEach es X.env) gq._auto_1)(hpl:autoParam ((backTo pos (starEach es X.env)).any (·.1)=false) gq._auto_1):PE X (.Call (.Name x p) (e::es) [] pos) (KN r t):=by intro a s σ H Q I h;refine bA (kC I o b j ?_ hn hdb);exact PyProof.Rows.callWith_type1 (hU (l pos a s σ H _ I h) (by rintro d q ⟨g,i,v,m,q1⟩;exact y a q σ i g d Q v m q1)) he hpl
end
end Lake
namespace HT
open PySem PyProof.Rows
section
open PySem.SeqAt
open PySem.AutoSeq1 (wpAny_loadPart')
open PySem.MeetsSeq PySem.MeetsSeq2 PySem.MeetsSeq3
end
section
variable {prog:eV}{w:fe}{A:eP}{E:eR->eU->Prop}{s:eU}
noncomputable def oP (n d:Nat):fc Int->Nat
 |none=>d
 |some v=>if v<0 then (v+(n:Int)).toNat else min v.toNat n
def qb (n d:Nat):oP n d none=d:=rfl
theorem nK (n d k:Nat):oP n d (some (k:Int))=min k n:=by show(if (k:Int)<0 then ((k:Int)+(n:Int)).toNat else min (k:Int).toNat n)=min k n;rw[ax (by lia),bW]
end
end HT
namespace Lake
open PySem PySem.Spec PyProof.Rows
variable {A:eP}{E Q:eR->eU->Prop}{H H':Hp}{P:eV}{T:String}{X:Cx}{a:eQ}{e:eY}{kvs:eW (io×V)}{o:fc V}{pins:eW (eQ×Obj)}{pos:Pos}{s:eU}{t':Nat}{v y:V}{xs:eW V}{σ:St}
abbrev TO:=St->Hp->(fc Int->Hp->Prop)->Prop
def PO (X:Cx)(e:fc eY)(t:TO):Prop:=
 ∀(pins:eW (eQ×Obj)) (s:eU) (σ:St) (H:Hp) (Q:fc Int->Hp->Prop),fR X pins σ H s->t σ H Q->
  wpAny (model X.prog X.w) X.A (evalPart e X.env) (λu s'=>∃o H',fR X pins σ H' s'/\IsPart u o/\Q o H') X.xe s
def xb:TO:=λ_ H Q=>Q none H
inductive Go (Q:fc Int->Hp->Prop)(x:V)(H1:Hp):Prop
 |mk (i:_)(_:x=.int i)(_:Q (some i) H1)
def Ea (t:TE):TO:=λσ H Q=>t σ H λx H1=>Go Q x H1
def qG {ns:eW Int}:∀{us:eW eR},g0 (ns.map V.int) us->IntsAre us ns:=by induction ns with|nil=>intro us r;rw[df]at r;cases r;exact .nil|cons n ns ih=>intro us r;rw[aH]at r;cases r with|cons r1 r2=>obtain⟨t,e⟩:=r1;subst e;exact .cons n t (ih r2)
section
variable {te:TE}{lo hi:fc eY}{tl th:TO}{p2:Pos}
def j9:PO X none xb:=by intro a s σ H Q I h;rw[evalPart_none];exact av ⟨none,H,I,.none,h⟩
def jE (h:PE X e te):PO X (some e) (Ea te):=by intro a s σ H Q I b;rw[evalPart_some];refine hU (h a s σ H _ I b) ?_;rintro u l ⟨x,d,j,g,q1⟩;obtain⟨i,rfl,q⟩:=q1;obtain⟨t,rfl⟩:=g;exact⟨some i,d,j,.int i t,q⟩
def KS (X:Cx)(r:V->fc Int->fc Int->Hp->VK->Prop):Prop:=
 ∀(pins:eW (eQ×Obj)) (s:eU) (σ:St) (H:Hp) (x:V) (v vl vu:eR) (lo hi:fc Int) (sl:eQ) (Q:VK),fR X pins σ H s->gl x v->s.heap.IsSliceOf sl vl vu .none->IsPart vl lo->IsPart vu hi->r x lo hi H Q->
  ∃T id,typeLookup (.type T) "__getitem__" = pure (some (.builtin id))/\s.TypeIs v T/\wpAny (model X.prog X.w) X.A (getItem v (.ref sl)) (EP X pins σ Q) X.xe s
def KL (r:V->fc Int->fc Int->Hp->VK->Prop)(te:TE)(tl th:TO):TE:=λσ H Q=>te σ H λx H1=>tl σ H1 λl H2=>th σ H2 λu H3=>r x l u H3 Q
def jt {r:V->fc Int->fc Int->Hp->VK->Prop}(J:KS X r)(O:PE X e te)(F:PO X lo tl)(M:PO X hi th):PE X (.Subscript e (.Slice lo hi none p2) pos) (KL r te tl th):=by intro a s σ H Q I h;refine Subscript_ (hU (O a s σ H _ I h) ?_);rintro v L ⟨x,E,p,j,q1⟩;refine wpAny_Slice (hU (F a L σ E _ p q1) ?_);rintro g z ⟨l,N,D,G,q2⟩;refine hU (M a z σ N _ D q2) ?_;rintro d s3 ⟨u,i,y,K,C⟩;rw[evalPart_none];refine av ?_;have m:fR X a σ i {s3 with heap:=s3.heap.push {cls:=.type "slice",data:=.fields #[g,d,.none]}}:=y.kept (t':=s3.toks) λb P q=>az _ q;obtain⟨T,id,B,o,t⟩:=J a {s3 with heap:=s3.heap.push {cls:=.type "slice",data:=.fields #[g,d,.none]}} σ i x v g d l u s3.heap.objs.size Q m j (Heap.IsSliceOf.new ..) G K C;show wpAny (model X.prog X.w) X.A (subscriptTail e (.Slice lo hi none p2) v (.ref s3.heap.objs.size)) (EP X a σ Q) X.xe {s3 with heap:=s3.heap.push {cls:=.type "slice",data:=.fields #[g,d,.none]}};exact tail_any (ops:=[.ref s3.heap.objs.size,v]) o B t (by with_unfolding_all rfl)
def lG (xs:eW V)(lo hi:fc Int):eW V:=(xs.drop (HT.oP xs.length 0 lo)).take (HT.oP xs.length xs.length hi-HT.oP xs.length 0 lo)
theorem u4 (xs:eW V)(a b:fc Int):(lG xs a b).length<=xs.length:=by unfold lG;rw[aW,dC];lia
end
noncomputable def FP (n:Nat)(i:Int):fc Nat:=if 0<=i then (if i<n then some i.toNat else none) else if -(n:Int)<=i then some (i+n).toNat else none
def vd {α:Type}(xs:eW α)(i:Int):fc α:=(FP xs.length i).bind λj=>xs[j]?
theorem Dz {n:Nat}{i:Int}{j:Nat}(h:FP n i=some j):seqIndex? i n=some j/\j<n/\-(n:Int)<=i/\i<n:=by unfold FP at h;by_cases h0:0<=i;rw[ay h0]at h;by_cases h1:i<n;rw[ay h1]at h;have e:i.toNat=j:=Option.some.inj h;exact⟨by rw[seqIndex_of h0 h1,e],by lia,by lia,h1⟩;rw[ax h1]at h;cases h;rw[ax h0]at h;by_cases h1:-(n:Int)<=i;rw[ay h1]at h;have e:(i+n).toNat=j:=Option.some.inj h;exact⟨by rw[seqIndex_neg (by lia) h1,e],by lia,h1,by lia⟩;rw[ax h1]at h;cases h
def xQ {α:Type}{xs:eW α}{i:Int}{v:α}(h:vd xs i=some v):∃j,seqIndex? i xs.length=some j/\xs[j]?=some v/\j<xs.length/\-(xs.length:Int)<=i/\i<xs.length:=by unfold vd at h;cases e:FP xs.length i with|none=>rw[e]at h;cases h|some j=>rw[e]at h;obtain⟨a,b,g,d⟩:=Dz e;exact⟨j,a,h,b,g,d⟩
theorem pL {α:Type}{xs:eW α}{j:Nat}{v:α}(h:xs[j]?=some v):vd xs (j:Int)=some v:=by
 have a:j<xs.length:=(aj.mp h).1;have e:FP xs.length (j:Int)=some j:=by unfold FP;rw[ay (by lia),ay (by lia)];simp
 unfold vd;rw[e];exact h
def DS (b:eY):Prop:=∀o i,subscripted b false o i=operate [o,i] (getItem o i)
def Jo (X:Cx)(r:R2):Prop:=
 ∀(value slice:eY) (pins:eW (eQ×Obj)) (s:eU) (σ:St) (H:Hp) (x y:V) (v u:eR) (Q:VK),fR X pins σ H s->gl x v->gl y u->r x y H Q->
  subscripted slice false v u=operate [v,u] (getItem v u)->wpAny (model X.prog X.w) X.A (subscriptTail value slice v u) (EP X pins σ Q) X.xe s
def KW (X:Cx)(id:String)(r:V->eW V->Hp->VK->Prop):Prop:=
 ∀(pins:eW (eQ×Obj)) (s:eU) (σ:St) (H:Hp) (x:V) (xs:eW V) (v:eR) (us:eW eR) (Q:VK),fR X pins σ H s->gl x v->g0 xs us->r x xs H Q->
  wpAny (model X.prog X.w) X.A (call (.builtin id) (v::us)) (EP X pins σ Q) X.xe s
section
variable {a b:eY}{ta tb:TE}
def fZ {r:R2}(e:Jo X r)(o:PE X a ta)(i:PE X b tb)(hs:DS b:=by exact λ_ _=>rfl):PE X (.Subscript a b pos) (EF r ta tb):=by intro d s σ H Q I h;exact Subscript_ (Gc o i I h λv u m x y l p g j q=>e a b d m σ l x y v u Q p g j q (hs _ _))
inductive IU (K:fh)(x:V)(y:V)(H:Hp)(Q:VK):Prop
 |mk (p xs i v:_)(_:x=.ref p)(_:y=.int i)(_:gf K H p xs)(_:vd xs i=some v)(_:Q v H)
def Ar (K:fh):R2:=λx y H Q=>IU K x y H Q
inductive IT (K:fh)(x:V)(y:V)(H:Hp)(Q:VK):Prop
 |mk (p xs i v:_)(_:x=.ref p)(_:y=.int i)(_:jg K H p xs)(_:vd xs i=some v)(_:Q v H)
def qh (K:fh):R2:=λx y H Q=>IT K x y H Q
theorem gu:Jo X (Ar X.K):=by
 intro g e a s σ H x y v u Q I M N h C;obtain⟨p,R,i,z,rfl,rfl,F,O,q⟩:=h;cases M;obtain⟨t,rfl⟩:=N;obtain⟨m,r,o,P⟩:=I.list F;obtain⟨j,d,E,S,G,J⟩:=xQ O;obtain⟨w,B,l⟩:=r.get E;have L:=r.length;have T:=tU;have b:EP X a σ Q w s:=⟨z,H,I,l,q⟩;by_cases h0:0<=i;have A:i.toNat=j:=by rw[seqIndex_of h0 J]at d;exact Option.some.inj d
 exact item_listR o.isList h0 (by lia) (by rw[A];simpa using B) b C;have A:(i+(m.toArray.size:Int)).toNat=j:=by rw[seqIndex_neg (by lia) G]at d;rw[aP,<-L];exact Option.some.inj d
 exact subscriptTail_builtinR (x:=w) o.isList.typeIs slot_list_getitem.lookup
  (wpAny_getItem_list_neg (Q:=λr D=>r=w/\EP X a σ Q r D) o.isList (by lia) (by rw[aP] <;> lia) (by lia) (by rw[A];simpa using B) ⟨rfl,b⟩) C
theorem gs:Jo X (qh X.K):=by
 intro d b a s σ H x y v u Q I F J h G;obtain⟨p,P,i,z,rfl,rfl,A,L,q⟩:=h;cases F;obtain⟨t,rfl⟩:=J;obtain⟨B,r,l,O⟩:=I.tuple A;obtain⟨j,C,o,R,M,N⟩:=xQ L;obtain⟨w,D,g⟩:=r.get o;have E:=r.length;have S:=tU;have e:EP X a σ Q w s:=⟨z,H,I,g,q⟩;exact subscriptTail_builtinR (x:=w) l.typeIs slot_tuple_getitem.lookup
  (getItem_tuple (j:=j) (Q:=λr m=>r=w/\EP X a σ Q r m) l (by lia) (by lia) (by rw[aP,<-E];exact C) (by simpa using D) ⟨rfl,e⟩) G
theorem sC (a b:fc Int)(n:Nat):(sliceBounds a b none n).1=((HT.oP n 0 a:Nat):Int)/\(sliceBounds a b none n).2.1=((HT.oP n n b:Nat):Int)/\(sliceBounds a b none n).2.2=1:=by
 refine⟨?_,?_,rfl⟩;cases a with|none=>simp[sliceBounds,HT.oP]|some i=>
  simp only[sliceBounds,HT.oP,Option.getD_none,show(1:Int)>0 by decide,if_true];by_cases h:i<0;simp only[h,if_true] <;> lia
  simp only[h,if_false] <;> lia
 cases b with|none=>simp[sliceBounds,HT.oP]|some i=>
  simp only[sliceBounds,HT.oP,Option.getD_none,show(1:Int)>0 by decide,if_true];by_cases h:i<0;simp only[h,if_true] <;> lia
  simp only[h,if_false] <;> lia
def rc (a:eW eR)(b d:fc Int):slicePick a.toArray b d none=((a.drop (HT.oP a.length 0 b)).take (HT.oP a.length a.length d-HT.oP a.length 0 b)).toArray:=by obtain⟨e,h,g⟩:=sC b d a.toArray.size;unfold slicePick;rw[e,h,g];simp only[sliceRange_one,pick_run,aP] <;> rfl
inductive IP (K:fh)(x:V)(lo:fc Int)(hi:fc Int)(H:Hp)(Q:VK):Prop
 |mk (a xs:_)(_:x=.ref a)(_:gf K H a xs)(_:∀p,H p=none->Q (.ref p) (upd H p (.lst (lG xs lo hi))))
def CU (K:fh):V->fc Int->fc Int->Hp->VK->Prop:=λx lo hi H Q=>IP K x lo hi H Q
theorem jU:KS X (CU X.K):=by
 intro j s σ H x v D C g i E Q I t y m p h;obtain⟨a,d,rfl,z,q⟩:=h;cases t;obtain⟨A,r,l,B⟩:=I.list z;have e:=r.length;refine⟨"list",_,slot_list_getitem.lookup,l.isList.typeIs,?_⟩;refine wpAny_getItem_list_slice l.isList y m p .none (by simp) ?_ (by rw[aP] <;> lia)
 rw[rc,<-e];refine⟨.ref s.heap.objs.size,_,I.laid (t':=s.toks) (o:=.lst (lG d g i)) (λb F q=>az _ q) (am _) ?_,rfl,q _ (I.hok.fresh (am _))⟩;exact⟨bz (u4 d g i) B,_,0,(r.drop (HT.oP d.length 0 g)).take (HT.oP d.length d.length i-HT.oP d.length 0 g),aO _ rfl⟩
theorem gO:j6 X (.builtin "len") (λxs H Q=>∃p ys,xs=[.ref p]/\(gf X.K H p ys\/jg X.K H p ys)/\Q (.int ys.length) H):=by
 intro g s σ H xs m Q I r h;obtain⟨p,ys,rfl,hq,q⟩:=h;obtain⟨u,rfl,i⟩:=jA r;cases i;have l:=tU;rcases hq with hq|hq;obtain⟨e,b,d,j⟩:=I.list hq;have a:=b.length;exact Calls.call_len_list d.isList (by simp only[aP] <;> lia) ⟨.int ys.length,H,I.tok _,⟨s.toks+1,by rw[aP,a]⟩,q⟩
 obtain⟨e,b,d,j⟩:=I.tuple hq;have a:=b.length;exact len_tuple d (by simp only[aP] <;> lia) ⟨.int ys.length,H,I.tok _,⟨s.toks+1,by rw[aP,a]⟩,q⟩
theorem jI:j6 X (.type "list") (λxs H Q=>∃p ys,xs=[.ref p]/\(gf X.K H p ys\/jg X.K H p ys)/\∀l,H l=none->Q (.ref l) (upd H l (.lst ys))):=by
 intro m s σ H xs D Q I r h;obtain⟨p,ys,rfl,hq,q⟩:=h;obtain⟨u,rfl,C⟩:=jA r;cases C;have t:∀(a:eW eR),g0 ys a->ys.length<=sizeLine->∀(d:fb) (i:Nat),(∀b o',s.heap.get? b=some o'->d.get? b=some o')->
   d.get? s.heap.objs.size=some {cls:=.type "list",dict:=none,data:=.seq a.toArray i,slots:=#[]}->EP X m σ Q (.ref s.heap.objs.size) {s with heap:=d}:=λa g x d i j e=>
  ⟨.ref s.heap.objs.size,_,I.laid (t':=s.toks) j (am _) (show ib X.prog X.w _ d _ (.lst ys) from⟨x,a,i,g,e⟩),rfl,q _ (I.hok.fresh (am _))⟩
 rcases hq with hq|hq;obtain⟨a,g,A,x⟩:=I.list hq;have v:=g.length;obtain⟨o,z,B,n,y⟩:=A.isList;exact call_list_seq p (.inl rfl) z B y (λd i j e=>t a g x d i j e) (by simp only[aP] <;> lia)
 obtain⟨a,g,A,x⟩:=I.tuple hq;have v:=g.length;obtain⟨o,z,B,n,y⟩:=A;exact call_list_seq p (.inr rfl) z B y (λd i j e=>t a g x d i j e) (by simp only[aP] <;> lia)
def Js (K:fh)(T:String)(x:V)(H:Hp):Prop:=match x with
 |.str _=>T = "str"
 |.int _=>T = "int"
 |.ref p=>(T = "list"/\∃xs,gf K H p xs)\/(T = "tuple"/\∃o,K.lookup p=some o/\o.cls=.type "tuple"/\o.dict=none)\/
   (T = "dict"/\((∃kvs,H p=some (.dK kvs))\/∃kvs,H p=some (.dT kvs)))\/(T = "set"/\∃S n,H p=some (.set S n))
 |_=>False
def zI {x:V}{v:eR}(I:fR X pins σ H s)(r:gl x v)(g:Js X.K T x H):s.TypeIs v T/\∀a,v=.ref a->∃ob,s.heap.get? a=some ob/\ob.dict=none:=by
 cases x with
 |str z=>obtain⟨t,rfl⟩:=r;cases (show T = "str" from g);exact⟨typeIs_str s z t,λ_ e=>nomatch e⟩
 |int i=>obtain⟨t,rfl⟩:=r;cases (show T = "int" from g);exact⟨typeIs_int s i t,λ_ e=>nomatch e⟩
 |ref p=>
  cases r;rcases g with ⟨rfl,B,q⟩|⟨rfl,o,b,A,h⟩|⟨rfl,b⟩|⟨rfl,S,n,b⟩;obtain⟨y,_,m,_⟩:=I.list q;refine⟨m.isList.typeIs,λa e=>?_⟩;cases e;obtain⟨o,n,e,c,h,_⟩:=m;exact⟨o,e,h⟩;refine⟨⟨o,I.kIn p o b,A⟩,λa e=>?_⟩;cases e;exact⟨o,I.kIn _ o b,h⟩;have z:∃o,s.heap.get? p=some o/\o.ExactDict:=by rcases b with ⟨j,b⟩|⟨j,b⟩;obtain⟨_,_,_,_,o,_,_,e,d,_⟩:=I.hok p _ b;exact⟨o,e,d⟩;obtain⟨_,_,_,_,o,_,_,e,d,_⟩:=I.hok p _ b;exact⟨o,e,d⟩
  obtain⟨o,e,d⟩:=z;refine⟨⟨o,e,d.1⟩,λa l=>?_⟩;cases l;exact⟨o,e,d.2.1⟩;obtain⟨o,_,_,_,e,d,_⟩:=I.hok p _ b;refine⟨⟨o,e,d.1⟩,λa l=>?_⟩;cases l;exact⟨o,e,d.2.1⟩
 |_=>exact False.elim g
def JB (K:fh)(T:String)(r:V->eW V->Hp->VK->Prop)(to:TE):TE:=λσ H Q=>to σ H λx H1=>Js K T x H1/\r x [] H1 Q
def La (K:fh)(T:String)(r:V->eW V->Hp->VK->Prop)(to:TE)(t:TA):TE:=λσ H Q=>to σ H λx H1=>Js K T x H1/\t σ H1 λxs H2=>r x xs H2 Q
variable {o:eY}{es:eW eY}{to:TE}{t:TA}{name:Str}{apos cpos:Pos}{id:String}{r:V->eW V->Hp->VK->Prop}
def AJ (y:PlainAttrs T)(b:Slot T name id)(d:typeOf (.builtin id)=pure (.type "method_descriptor"))(q:KW X id r)(i:PE X o to)(hbase:autoParam (attributeBase o name X.env (eval o X.env)=eval o X.env) gq._auto_1)(hline:autoParam ((apos.endLine == cpos.line)=true) gq._auto_1):PE X (.Call (.Attribute o name apos) [] [] cpos) (JB X.K T r to):=by intro a s σ H Q I h;refine wpAny_Call_method0_late hbase hline (hU (i a s σ H _ I h) ?_);rintro v m ⟨x,j,g,e,p,q1⟩;obtain⟨t,l⟩:=zI g e p;exact⟨T,id,y,b,d,t,l,Calls.callWith_builtin rfl (PySem.evalArgs_none (q a m σ j x [] v [] Q g e .nil q1))⟩
def jM (J:PlainAttrs T)(b:Slot T name id)(d:typeOf (.builtin id)=pure (.type "method_descriptor"))(A:KW X id r)(l:PE X o to)(F:PA X (e::es) t)(hbase:autoParam (attributeBase o name X.env (eval o X.env)=eval o X.env) gq._auto_1)(hfew:autoParam (((backTo cpos (starEach (e::es) X.env)).all (λx=>!x.1)&&(backToKw cpos (keywordEach [] X.env)).all (λx=>x.1.isSome)&&decide ((e::es).length+([]:eW Keyword).length+(if ([]:eW Keyword).isEmpty then 0 else 1)<30))=true) gq._auto_1)(hline:autoParam ((apos.endLine == cpos.line)=true) gq._auto_1)(hs:autoParam (starEach (e::es) X.env=(false,eval e X.env)::starEach es X.env) gq._auto_1)(hplain:autoParam ((backTo cpos (starEach es X.env)).any (·.1)=false) gq._auto_1):PE X (.Call (.Attribute o name apos) (e::es) [] cpos) (La X.K T r to t):=by
 intro a s σ H Q I h;refine wpAny_Call_method_late hbase hfew hline rfl (hU (l a s σ H _ I h) ?_);rintro v q ⟨x,m,i,g,y,q1⟩;obtain⟨G,p⟩:=zI i g y;refine⟨T,id,J,b,d,G,p,?_⟩;have j:=F cpos a q σ m _ i q1;rw[hs]at j ⊢;refine Calls.callWith_builtin (by show(false||(backTo cpos (starEach es X.env)).any (·.1))=false;rw[hplain] <;> rfl) (Calls.evalArgs_plain ?_)
 exact hU j (by rintro C E ⟨D,B,L,z,q2⟩;exact A a E σ B x D v C Q L g z q2)
end
def GL (X:Cx)(id:String)(r:V->eW V->Hp->VK->Prop):Prop:=
 ∀(pins:eW (eQ×Obj)) (s:eU) (σ:St) (H:Hp) (x:V) (xs:eW V) (v:eR) (us:eW eR) (Q:VK),fR X pins σ H s->gl x v->g0 xs us->r x xs H Q->
  wpAny (model X.prog X.w) X.A (call (.builtin id) (v::us)) (EP X pins σ Q) X.xe s
def g0.one:∀{x:V} {us:eW eR},g0 [x] us->∃u,us=[u]/\gl x u
 |_,_,.cons r .nil=>⟨_,rfl,r⟩
def g0.zero:∀{us:eW eR},g0 [] us->us=[]
 |_,.nil=>rfl
def g0.dropLast {us:eW eR}(h:g0 xs us):g0 xs.dropLast us.dropLast:=by induction h with|nil=>exact .nil|cons r t ih=>cases t with|nil=>exact .nil|cons q t'=>exact .cons r ih
def g0.reverse {us:eW eR}(h:g0 xs us):g0 xs.reverse us.reverse:=by induction h with|nil=>exact .nil|cons r t ih=>rw[cF,cF];exact g0.append ih (.cons r .nil)
theorem wz {α:Type}(l:eW α):l.eraseIdx (l.length-1)=l.dropLast:=by
 induction l with|nil=>rfl|cons a r ih=>
  cases r with|nil=>rfl|cons b r=>
   have e:(a::b::r).length-1=((b::r).length-1)+1:=by have d:(a::b::r).length=r.length+2:=rfl;have g:(b::r).length=r.length+1:=rfl;lia
   rw[e,List.eraseIdx_cons_succ,ih];all_goals rfl
section
variable {l b:eQ}{ys zs:eW V}
def fR.L7 {its its':eW eR}{n:Nat}{f:Array eR->Array eR}(I:fR X pins σ H s)(d:H l=some (.lst xs))(e:s.heap.get? l=some {cls:=.type "list",data:=.seq its.toArray n})(a:f its.toArray=its'.toArray)(b:g0 ys its')(hz:ys.length<=sizeLine):fR X pins σ (upd H l (.lst ys)) {s with heap:=s.heap.update l (Obj.mapSeq f),toks:=t'}:=by have q:=PySem.IsL.update e f;rw[a]at q;refine I.write (x:=l) (e:=l) (by rw[d];exact trivial) (.inl rfl) (λi u h g=>(cM s.heap (Obj.mapSeq f) (Ne.symm h)).trans g) ⟨_,q⟩ ?_;exact⟨hz,its',_,b,q⟩
def fR.Ma {its:eW eR}(I:fR X pins σ H s)(hv:g0 ys its)(hz:ys.length<=sizeLine):fR X pins σ (upd H s.heap.objs.size (.lst ys)) {s with heap:=s.heap.push {cls:=.type "list",data:=.seq its.toArray},toks:=t'}:=
 I.laid (λ_ _ q=>az _ q) (am _) ⟨hz,its,0,hv,aO _ rfl⟩
def fR.fresh (I:fR X pins σ H s):H s.heap.objs.size=none:=I.hok.fresh (am _)
def fR.Mb (I:fR X pins σ H s)(a:H l=some (.lst xs)):xs.length<=sizeLine/\∃(its:eW eR) (n:Nat),g0 xs its/\xs.length=its.length/\s.heap.get? l=some {cls:=.type "list",data:=.seq its.toArray n}:=by obtain⟨z,its,n,r,e⟩:=I.hok l _ a;exact⟨z,its,n,r,r.length,e⟩
theorem Bc {n:Nat}(h:n<=sizeLine):Builtin.List.listTooLong n=false:=by unfold Builtin.List.listTooLong;exact aw (by lia)
end
inductive Cl (x:V)(vs:eW V)(H:Hp)(Q:VK):Prop
 |mk (l xs y:_)(_:x=.ref l)(_:vs=[y])(_:H l=some (.lst xs))(_:xs.length<sizeLine)(_:Q .non (upd H l (.lst (xs++[y]))))
def CZ:V->eW V->Hp->VK->Prop:=λx vs H Q=>Cl x vs H Q
theorem iy:GL X "list.append" CZ:=by intro d s σ H x t v p Q I g j h;obtain⟨l,o,y,rfl,rfl,b,A,q⟩:=h;cases g;obtain⟨u,rfl,i⟩:=j.one;obtain⟨z,a,n,r,m,e⟩:=I.Mb b;refine eM F.slot_list_append ⟨_,e,rfl⟩ F.entry_list_append (F.args_list_append_2 _ _) (PySem.list_append l a.toArray n u (by rw[aP];lia)) ⟨e,?_⟩;refine⟨.non,_,I.L7 (its':=a++[u]) b e (by simp) (r.append (.cons i .nil)) ?_,rfl,q⟩;rw[aB,aM];lia
inductive Ck (x:V)(vs:eW V)(H:Hp)(Q:VK):Prop
 |mk (l b xs zs:_)(_:x=.ref l)(_:vs=[.ref b])(_:H l=some (.lst xs))(_:H b=some (.lst zs))(_:xs.length+zs.length<=sizeLine)(_:Q .non (upd H l (.lst (xs++zs))))
def CY:V->eW V->Hp->VK->Prop:=λx vs H Q=>Ck x vs H Q
theorem rR:GL X "list.extend" CY:=by
 intro m s σ H x J v N Q I y t h;obtain⟨l,b,M,E,rfl,rfl,j,C,K,q⟩:=h;cases y;obtain⟨u,rfl,B⟩:=t.one;cases B;obtain⟨z,d,n,r,L,e⟩:=I.Mb j;obtain⟨G,a,D,A,o,p⟩:=I.Mb C;have i:d.toArray.size+a.toArray.size<=sizeLine:=by rw[aP,aP];lia
 have g:¬(!d.toArray.isEmpty&&Builtin.List.listTooLong (d.toArray.size+a.toArray.size))=true:=by rw[Bc i,Bool.and_false];exact aV
 refine eM F.slot_list_extend ⟨_,e,rfl⟩ F.entry_list_extend (F.args_list_extend_2 _ _)
  (AutoSeq1.list_extend_list_list_0 l d.toArray n b a.toArray D g (by rw[aP];lia) (by lia)) ⟨e,p,?_⟩
 refine⟨.non,_,I.L7 (its':=d++a) j e (by simp) (r.append A) ?_,rfl,q⟩;rw[aB];lia
inductive IQ (x:V)(vs:eW V)(H:Hp)(Q:VK):Prop
 |mk (l xs y:_)(_:x=.ref l)(_:vs=[])(_:H l=some (.lst xs))(_:xs[xs.length-1]?=some y)(_:Q y (upd H l (.lst xs.dropLast)))
def JW:V->eW V->Hp->VK->Prop:=λx vs H Q=>IQ x vs H Q
theorem Bg:GL X "list.pop" JW:=by
 intro i s σ H x D v C Q I p A h;obtain⟨l,B,y,rfl,rfl,g,m,q⟩:=h;cases p;have d:=A.zero;subst d;obtain⟨z,a,n,r,j,e⟩:=I.Mb g;obtain⟨u,o,t⟩:=r.get m;have b:a.toArray[a.toArray.size-1]?=some u:=by show a.toArray[a.length-1]?=some u;rw[<-bL,<-j];exact o
 refine eM F.slot_list_pop ⟨_,e,rfl⟩ F.entry_list_pop (F.args_list_pop_1 _) (MeetsSeq.list_pop_last l a.toArray n u b (by rw[aP];lia)) ⟨e,?_⟩;refine⟨y,_,I.L7 (its':=a.dropLast) g e ?_ r.dropLast ?_,t,q⟩;show a.toArray.eraseIdxIfInBounds (a.toArray.size-1)=a.dropLast.toArray;rw[aP,List.eraseIdxIfInBounds_toArray,wz];rw[List.length_dropLast];lia
inductive IW (x:V)(y:V)(H:Hp)(Q:VK):Prop
 |mk (l b xs zs:_)(_:x=.ref l)(_:y=.ref b)(_:H l=some (.lst xs))(_:H b=some (.lst zs))(_:xs.length+zs.length<=sizeLine)(_:∀p,H p=none->Q (.ref p) (upd H p (.lst (xs++zs))))
def JY:R2:=λx y H Q=>IW x y H Q
theorem ng:ph X (binaryOp .Add) JY:=by
 intro g s σ H x y v u Q I o p h;obtain⟨l,b,G,C,rfl,rfl,m,B,E,q⟩:=h;cases o;cases p;obtain⟨z,d,n,r,F,e⟩:=I.Mb m;obtain⟨D,a,J,t,i,j⟩:=I.Mb B;refine PySem.P.add_list e j ?_ (by rw[aP,aP];lia);have A:d.toArray++a.toArray=(d++a).toArray:=by simp
 rw[A];exact⟨.ref _,_,I.Ma (t':=s.toks) (r.append t) (by rw[aB];lia),rfl,q _ I.fresh⟩
section
variable {prog:eV}{w:fe}
end
section
variable {κ:Type} [DecidableEq κ]
noncomputable def fW (kvs:eW (κ×V))(k:κ):fc V:=(kvs.find? λkv=>decide (kv.1=k)).map (·.2)
noncomputable def gz (kvs:eW (κ×V))(k:κ)(v:V):eW (κ×V):=
 if (kvs.any λkv=>decide (kv.1=k))=true then kvs.map (λkv=>if kv.1=k then (kv.1,v) else kv) else kvs++[(k,v)]
noncomputable def kN (kvs:eW (κ×V))(k:κ):eW (κ×V):=kvs.filter λkv=>decide (kv.1≠k)
def ir {p:κ×V}{r:eW (κ×V)}{k:κ}(e:p.1=k):fW (p::r) k=some p.2:=by simp[fW,bB,e]
def il {p:κ×V}{r:eW (κ×V)}{k:κ}(e:¬p.1=k):fW (p::r) k=fW r k:=by simp[fW,bB,e]
theorem jr (k:κ):∀kvs:eW (κ×V),(kvs.any λkv=>decide (kv.1=k))=(fW kvs k).isSome
 |[]=>rfl
 |p::r=>by rw[ei];by_cases e:p.1=k;simp only[ir e,aq e,Bool.true_or,Option.isSome_some];rw[il e,aw e,Bool.false_or];exact jr k r
theorem ut (k j:κ)(y:V):∀kvs:eW (κ×V),fW (kvs.map λkv=>if kv.1=k then (kv.1,y) else kv) j=(fW kvs j).map λx=>if j=k then y else x
 |[]=>rfl
 |p::r=>by have ih:=ut k j y r;rw[aH];by_cases h:p.1=k;rw[ay h];by_cases e:p.1=j;rw[ir (p:=(p.1,y)) e,ir e,Option.map_some,ay (e.symm.trans h)];rw[il (p:=(p.1,y)) e,il e,ih];rw[ax h];by_cases e:p.1=j;rw[ir (p:=p) e,ir e,Option.map_some,ax (λz=>h (e.trans z))];rw[il (p:=p) e,il e,ih]
theorem rD (k j:κ)(y:V):∀kvs:eW (κ×V),fW kvs k=none->fW (kvs++[(k,y)]) j=if j=k then some y else fW kvs j
 |[],_=>by by_cases e:k=j;rw[ay e.symm];exact ir (p:=(k,y)) e;rw[ax (λz=>e z.symm)];exact il (p:=(k,y)) e
 |p::r,hn=>by
  rw[dD];have hk:¬p.1=k:=λz=>by rw[ir z]at hn;cases hn
  rw[il hk]at hn;have ih:=rD k j y r hn;by_cases e:p.1=j;rw[ir e,ir e,ax (λz=>hk (e.trans z))];rw[il e,il e,ih]
def ii (kvs:eW (κ×V))(k j:κ)(y:V):fW (gz kvs k y) j=if j=k then some y else fW kvs j:=by
 unfold gz;by_cases a:(kvs.any λb=>decide (b.1=k))=true;rw[ay a,ut];rw[jr]at a;by_cases e:j=k;obtain⟨x,d⟩:=eO.mp a;rw[ay e,e,d,Option.map_some,ay rfl];rw[ax e];cases fW kvs j with|none=>rfl|some x=>rw[Option.map_some,ax e]
 rw[ax a];refine rD k j y kvs ?_;rw[jr]at a;cases q:fW kvs k with|none=>rfl|some x=>rw[q]at a;exact(a rfl).elim
theorem hZ (kvs:eW (κ×V))(k:κ)(v:V):(gz kvs k v).length<=kvs.length+1:=by unfold gz;split;rw[ae];lia;rw[aB,au,cH];lia
def iR {kvs:eW (κ×V)}{k:κ}(v:V)(h:fW kvs k=none):gz kvs k v=kvs++[(k,v)]:=by unfold gz;rw[jr,h];exact ax (by decide)
def ki.Mc {u:fc eR}(r:ki o u):o.isSome=u.isSome:=by
 cases o with
 |none=>cases u with
  |none=>rfl
  |some _=>exact(show False from r).elim
 |some _=>cases u with
  |none=>exact(show False from r).elim
  |some _=>rfl
def ki.getD {u:fc eR}{d:V}{d':eR}(r:ki o u)(rd:gl d d'):gl (o.getD d) (u.getD d'):=by
 cases o with
 |none=>cases u with
  |none=>exact rd
  |some _=>exact(show False from r).elim
 |some _=>cases u with
  |none=>exact(show False from r).elim
  |some _=>exact r
def KV.val {kvs:eW (κ×V)}{vs:eW (κ×eR)}(r:KV kvs vs)(k:κ):ki (fW kvs k) (valueAt vs k):=by
 unfold KV at r;induction r with|nil=>exact True.intro|@cons p q ps qs h t ih=>
  obtain⟨d,g⟩:=h;by_cases e:p.1=k;have a:q.1=k:=d.symm.trans e;have b:valueAt (q::qs) k=some q.2:=by simp[valueAt,bB,a]
  rw[ir e,b];exact g;have a:¬q.1=k:=λz=>e (d.trans z);have b:valueAt (q::qs) k=valueAt qs k:=by simp[valueAt,bB,a]
  rw[il e,b];exact ih
def KV.any {kvs:eW (κ×V)}{vs:eW (κ×eR)}(r:KV kvs vs)(k:κ):(kvs.any λkv=>decide (kv.1=k))=vs.any λkv=>decide (kv.1=k):=by unfold KV at r;induction r with|nil=>rfl|cons h t ih=>rw[ei,ei,ih,h.1]
def KV.Md {kvs:eW (κ×V)}{vs:eW (κ×eR)}(r:KV kvs vs)(k:κ){u:eR}(b:gl y u):KV (kvs.map λkv=>if kv.1=k then (kv.1,y) else kv) (vs.map λkv=>if kv.1=k then (kv.1,u) else kv):=by unfold KV at r ⊢;induction r with|nil=>exact .nil|@cons p q ps qs h t ih=>rw[aH,aH];refine .cons ?_ ih;obtain⟨a,d⟩:=h;by_cases e:p.1=k;rw[ay e,ay (a.symm.trans e)];exact⟨a,b⟩;rw[ax e,ax (λz=>e (a.trans z))];exact⟨a,d⟩
def KV.put {kvs:eW (κ×V)}{vs:eW (κ×eR)}(r:KV kvs vs)(k:κ){u:eR}(a:gl y u):KV (gz kvs k y) (stored vs k u):=by unfold gz stored;rw[r.any k];by_cases e:(vs.any λb=>decide (b.1=k))=true;rw[ay e,ay e];exact r.Md k a;rw[ax e,ax e];exact Paired.snoc r ⟨rfl,a⟩
def KV.drop {kvs:eW (κ×V)}{vs:eW (κ×eR)}(r:KV kvs vs)(k:κ):KV (kN kvs k) (without vs k):=by
 unfold KV at r ⊢;unfold kN without;induction r with|nil=>exact .nil|@cons p q ps qs h t ih=>
  obtain⟨d,i⟩:=h;rw[aI,aI];by_cases e:p.1=k;have a:¬decide (p.1≠k)=true:=by simp[e]
  have b:¬decide (q.1≠k)=true:=by simp[d.symm.trans e]
  rw[ax a,ax b];exact ih;have g:¬q.1=k:=λz=>e (d.trans z);have a:decide (p.1≠k)=true:=by simp[e]
  have b:decide (q.1≠k)=true:=by simp[g]
  rw[ay a,ay b];exact .cons ⟨d,i⟩ ih
def KV.keys {kvs:eW (κ×V)}{vs:eW (κ×eR)}(r:KV kvs vs):kvs.map (·.1)=vs.map (·.1):=by unfold KV at r;induction r with|nil=>rfl|cons h t ih=>rw[aH,aH,ih,h.1]
def KV.length {kvs:eW (κ×V)}{vs:eW (κ×eR)}(r:KV kvs vs):kvs.length=vs.length:=Paired.length r
def BG (kvs:eW (κ×V))(k:κ):(kN kvs k).length<=kvs.length:=bK _ _
end
def mP {w:fe}{k:io}{u:eR}(r:gl (kV k) u):(gm P w).is k u=true:=by cases k with|inl i=>obtain⟨t,e⟩:=(show ∃t,u=Value.int i t from r);subst e;exact uK P w i t|inr x=>obtain⟨t,e⟩:=(show ∃t,u=Value.str x t from r);subst e;exact uJ P w x t
def FO {a b:io}(e:kV a=kV b):a=b:=by
 cases a with
 |inl i=>cases b with
  |inl j=>have d:V.int i=V.int j:=e;injection d with d;rw[d]
  |inr y=>exact nomatch (show V.int i=V.str y from e)
 |inr x=>cases b with
  |inl j=>exact nomatch (show V.str x=V.int j from e)
  |inr y=>have d:V.str x=V.str y:=e;injection d with d;rw[d]
theorem xB:∀{a b:eW io},a.map kV=b.map kV->a=b
 |[],[],_=>rfl
 |[],_::_,e=>by simp at e
 |_::_,[],e=>by simp at e
 |x::xs,y::ys,e=>by
  rw[aH,aH]at e;injection e with e1 e2
  rw[FO e1,xB e2]
theorem rW {P:eV}{w:fe}:∀{ks:eW io} {us:eW eR},g0 (ks.map kV) us->ItemsAre (gm P w) ks us
 |[],_,r=>by rw[df]at r;cases r;exact .nil
 |k::ks,_,r=>by rw[aH]at r;cases r with|cons h t=>exact .cons (mP h) (rW t)
abbrev KT (H:Hp):eW (eW io×V)->eW (eW io×eQ×eR)->Prop:=ff λp q=>p.1=q.1/\H q.2.1=some (.tup (p.1.map kV))/\gl p.2 q.2.2
def KT.val {kvs:eW (eW io×V)}{xs:eW (eW io×eQ×eR)}(r:KT H kvs xs)(k:eW io):ki (fW kvs k) ((atKey xs k).map (·.2)):=by
 induction r with|nil=>exact True.intro|@cons p q ps qs h t ih=>
  obtain⟨d,_,g⟩:=h;by_cases e:p.1=k;have a:q.1=k:=d.symm.trans e;have b:atKey (q::qs) k=some q.2:=by simp[atKey,bB,a]
  rw[ir e,b];exact g;have a:¬q.1=k:=λz=>e (d.trans z);have b:atKey (q::qs) k=atKey qs k:=by simp[atKey,bB,a]
  rw[il e,b];exact ih
def KT.Md {kvs:eW (eW io×V)}{xs:eW (eW io×eQ×eR)}(r:KT H kvs xs)(k:eW io){u:eR}(g:gl y u):KT H (kvs.map λkv=>if kv.1=k then (kv.1,y) else kv) (xs.map (putAt k u)):=by induction r with|nil=>exact .nil|@cons p q ps qs h t ih=>rw[aH,aH];refine .cons ?_ ih;obtain⟨a,b,d⟩:=h;unfold putAt;by_cases e:p.1=k;rw[ay e,ay (a.symm.trans e)];exact⟨a,b,g⟩;rw[ax e,ax (λz=>e (a.trans z))];exact⟨a,b,d⟩
def KT.put {kvs:eW (eW io×V)}{xs:eW (eW io×eQ×eR)}(r:KT H kvs xs)(k:eW io){b:eQ}{u:eR}(g:H b=some (.tup (k.map kV)))(a:gl y u):KT H (gz kvs k y) (storedH xs k b u):=by
 have e:(kvs.any λd=>decide (d.1=k))=(atKey xs k).isSome:=by rw[jr,(r.val k).Mc,Option.isSome_map]
 unfold gz storedH;rw[e];by_cases q:(atKey xs k).isSome=true;rw[ay q,ay q];exact r.Md k a;rw[ax q,ax q];exact Paired.snoc r ⟨rfl,g,a⟩
def KT.keeps {kvs:eW (eW io×V)}{xs:eW (eW io×eQ×eR)}(r:KT H kvs xs)(ht:∀b ys,H b=some (.tup ys)->H' b=some (.tup ys)):KT H' kvs xs:=
 Paired.LJ r λ_ _ z=>⟨z.1,ht _ _ z.2.1,z.2.2⟩
section
variable {w:fe}{h:fb}
def Ap {u:HO}(ok:mj P w H h)(e:Rd H a u):ib P w H h a u:=e.ok ok
def l9 (ok:mj P w H h)(e:Rd H a (.dK kvs)):kvs.length<=sizeLine/\(a == sysModules)=false/\∃vs,KV kvs vs/\h.DictOf (gm P w) a vs:=
 show ib P w H h a (.dK kvs) from Ap ok e
def r8 (ok:mj P w H h)(e:H a=some (.dK kvs)):kvs.length<=sizeLine/\(a == sysModules)=false/\∃vs,KV kvs vs/\h.DictOf (gm P w) a vs:=l9 ok (.inl e)
def nu {ks:eW io}(ok:mj P w H h)(e:H a=some (.tup (ks.map kV))):(tupleKind (gm P w)).is h ks a:=by obtain⟨_,b,r,o,g,d,n,i⟩:=(show ib P w H h a (.tup (ks.map kV)) from ok a _ e);exact⟨o,b.toArray,n,g,d,i,by simpa using rW r⟩
def qK {kvs:eW (eW io×V)}(ok:mj P w H h)(e:Rd H a (.dT kvs)):kvs.length<=sizeLine/\(a == sysModules)=false/\∃xs,KT H kvs xs/\h.DictOfH (tupleKind (gm P w)) a xs:=by
 obtain⟨z,y,xs,r,o,d,i,s,b,g,j,v⟩:=(show ib P w H h a (.dT kvs) from Ap ok e);refine⟨z,y,xs,r,o,d,i,s,b,g,j,λx hx=>?_,v⟩;have all:∀{l:eW (eW io×V)} {m:eW (eW io×eQ×eR)},KT H l m->∀x∈m,(tupleKind (gm P w)).is h x.1 x.2.1:=by intro l m q;induction q with|nil=>intro x hx;exact nomatch hx|@cons p q ps qs hq t ih=>intro x hx;rcases ao.mp hx with e|hx;subst e;exact nu ok (by rw[<-hq.1];exact hq.2.1);exact ih x hx
 exact all r x hx
def Ir {kvs:eW (eW io×V)}(ok:mj P w H h)(e:H a=some (.dT kvs)):kvs.length<=sizeLine/\(a == sysModules)=false/\∃xs,KT H kvs xs/\h.DictOfH (tupleKind (gm P w)) a xs:=qK ok (.inl e)
end
def jS (H:Hp)(a:eQ)(y:V)(r:fc V):Prop:=
 (∃kvs k,Rd H a (.dK kvs)/\y=kV k/\r=fW kvs k)\/∃kvs k b,Rd H a (.dT kvs)/\y=.ref b/\H b=some (.tup (k.map kV))/\r=fW kvs k
def nF (H:Hp)(a:eQ)(y v:V)(H':Hp):Prop:=
 (∃kvs k,H a=some (.dK kvs)/\y=kV k/\kvs.length<sizeLine/\H'=upd H a (.dK (gz kvs k v)))\/
 ∃kvs k b,H a=some (.dT kvs)/\y=.ref b/\H b=some (.tup (k.map kV))/\kvs.length<sizeLine/\H'=upd H a (.dT (gz kvs k v))
def jS.k {k:io}(e:H a=some (.dK kvs)):jS H a (kV k) (fW kvs k):=.inl ⟨kvs,k,.inl e,rfl,rfl⟩
def nF.k {k:io}(e:H a=some (.dK kvs))(hl:kvs.length<sizeLine):nF H a (kV k) v (upd H a (.dK (gz kvs k v))):=.inl ⟨kvs,k,e,rfl,hl,rfl⟩
section
variable {u r:eR}
def fR.big (I:fR X pins σ H s):sysModules<s.heap.objs.size:=by have h:mainGlobals<s.heap.objs.size:=(I.mod.glob.keeps I.bk).lt;exact Nat.lt_trans (by decide) h
def zh (D:A.units+1<cLine)(I:fR X pins σ H s)(g:jS H a y (some v))(x:gl y u)(h:∀w' s',fR X pins σ H s'->gl v w'->Q w' s'):wpAny (model X.prog X.w) A (getItem (.ref a) u) Q E s:=by rcases g with ⟨j,k,e,q,l⟩|⟨j,k,b,e,q,G,l⟩;subst q;obtain⟨z,B,F,rel,m⟩:=l9 I.hok e;obtain⟨w',i,d⟩:=ki.some_of (v:=v) (o:=valueAt F k) (by rw[l];exact rel.val k);exact wpAny_getItem_of (mP x) m.mapOf i (h w' _ (I.tok _) d);subst q;cases (show u=Value.ref b from x);obtain⟨z,B,C,rel,m⟩:=qK I.hok e;obtain⟨w',i,d⟩:=ki.some_of (v:=v) (o:=(atKey C k).map (·.2)) (by rw[l];exact rel.val k);obtain⟨p,hp,t⟩:=aF.mp i;refine wpAny_getItem_heap (dH D) (nu I.hok G) m hp ?_;rw[t];exact h w' _ (I.tok _) d
def Kb (t:A.units+1<cLine)(I:fR X pins σ H s)(g:jS H a y o)(p:gl y u)(h:∀s',fR X pins σ H s'->Q (.bool o.isSome) s'):wpAny (model X.prog X.w) A (compareOp .In u (.ref a)) Q E s:=by rcases g with ⟨i,k,e,j,l⟩|⟨i,k,b,e,j,v,l⟩;subst j;obtain⟨z,d,x,rel,m⟩:=l9 I.hok e;refine wpAny_in_of (mP p) d m.mapOf ?_;rw[<-(rel.val k).Mc,<-l];exact h _ (I.tok _);subst j;cases (show u=Value.ref b from p);obtain⟨z,d,B,rel,m⟩:=qK I.hok e;refine wpAny_in_heap (dH t) (nu I.hok v) d m ?_;have q:=(rel.val k).Mc;rw[Option.isSome_map]at q;rw[<-q,<-l];exact h _ (I.tok _)
def DM (t:A.units+1<cLine)(I:fR X pins σ H s)(g:jS H a y o)(p:gl y u)(h:∀s',fR X pins σ H s'->Q (.bool (!o.isSome)) s'):wpAny (model X.prog X.w) A (compareOp .NotIn u (.ref a)) Q E s:=by rcases g with ⟨i,k,e,j,l⟩|⟨i,k,b,e,j,v,l⟩;subst j;obtain⟨z,d,x,rel,m⟩:=l9 I.hok e;refine wpAny_notIn_of (mP p) d m.mapOf ?_;rw[<-(rel.val k).Mc,<-l];exact h _ (I.tok _);subst j;cases (show u=Value.ref b from p);obtain⟨z,d,B,rel,m⟩:=qK I.hok e;refine wpAny_notIn_heap (dH t) (nu I.hok v) d m ?_;have q:=(rel.val k).Mc;rw[Option.isSome_map]at q;rw[<-q,<-l];exact h _ (I.tok _)
def kO {h':fb}{ob:HO}(I:fR X pins σ H s)(mu:IE (H a))(hs:Heap.SameBut a s.heap h')(he:∃q,h'.get? a=some q)(new:ib X.prog X.w (upd H a ob) h' a ob):fR X pins σ (upd H a ob) {s with heap:=h',toks:=t'}:=
 I.write (x:=a) (e:=a) mu (.inl rfl) (λb q hb z=>(hs.2 b hb).trans z) he new
def oE {w:fe}{h':fb}{vs:eW (io×eR)}(z:kvs.length<=sizeLine)(hd:(a == sysModules)=false)(rel:KV kvs vs)(dd:h'.DictOf (gm P w) a vs):ib P w H' h' a (.dK kvs):=⟨z,hd,vs,rel,dd⟩
theorem zg {Q:Unit->eU->Prop}(S:A.units+1<cLine)(I:fR X pins σ H s)(g:nF H a y v H')(K:gl y u)(J:gl v r)(h:∀s',fR X pins σ H' s'->Q () s'):wpAny (model X.prog X.w) A (setItem (.ref a) u r) Q E s:=by
 rcases g with ⟨d,k,e,C,l,o⟩|⟨d,k,b,e,C,G,l,o⟩;subst C o;obtain⟨z,m,M,rel,B⟩:=r8 I.hok e;have p:M.length<=sizeLine:=by rw[<-rel.length];exact z
 have t:(gz d k v).length<=sizeLine:=by have:=hZ d k v;lia
 refine wpAny_setItem_pairs (hsz:=p) (mP K) B λF i x=>h _ ?_;have Y:∃q,F.get? a=some q:=(by obtain⟨q,_,_,j,_⟩:=i;exact⟨q,j⟩);exact kO I (by rw[e];exact True.intro) x Y (oE t m (rel.put k J) i);subst C o;cases (show u=Value.ref b from K);obtain⟨z,m,P,rel,B⟩:=Ir I.hok e;have p:P.length<=sizeLine:=by rw[<-Paired.length rel];exact z
 have t:(gz d k v).length<=sizeLine:=by have:=hZ d k v;lia
 refine wpAny_setItem_heap (hsz:=p) (dH S) (nu I.hok G) B λF i x=>h _ ?_;obtain⟨q,R,U,j,L,T,N,_,O⟩:=i;refine kO I (by rw[e];exact True.intro) x ⟨q,j⟩ ⟨t,m,_,(rel.put k G J).keeps λc Z D=>?_,q,R,U,j,L,T,N,O⟩;rw[fw (gF D e (λz=>nomatch z))];exact D
end
section
variable {k:io}{u:eR}
def Iu {more:eW eR}(I:fR X pins σ H s)(e:H a=some (.dK kvs))(d:gl (kV k) u)(l:fW kvs k=some v)(m:more=[]\/∃x,more=[x])(h:∀w' s',fR X pins σ (upd H a (.dK (kN kvs k))) s'->gl v w'->Q w' s'):wpAny (model X.prog X.w) A (call (.builtin "dict.pop") (.ref a::u::more)) Q E s:=by
 obtain⟨z,y,p,rel,j⟩:=r8 I.hok e;obtain⟨w',B,g⟩:=ki.some_of (v:=v) (o:=valueAt p k) (by rw[<-l];exact rel.val k);have hp:(keyPart u).isSome=true:=by cases k with|inl i=>obtain⟨t,q⟩:=(show ∃t,u=Value.int i t from d);subst q;rfl|inr x=>obtain⟨t,q⟩:=(show ∃t,u=Value.str x t from d);subst q;rfl
 have K:argsOk "dict.pop" ⟨.ref a::u::more,[]⟩:=by rcases m with q|⟨x,q⟩;subst q;exact PySem.F.args_dict_pop_2 _ _;subst q;exact PySem.F.args_dict_pop_3 _ _ _
 refine call_meetsIn PySem.F.slot_dict_pop j.typeIs PySem.F.entry_dict_pop K (meets_dict_pop_there (gm X.prog X.w) a (mP d) more m hp)
  ⟨p,w',j,by rw[<-rel.length];exact z,B,λD b C=>h w' _ ?_ g⟩
 have J:∃q,D.get? a=some q:=(by obtain⟨q,_,_,G,_⟩:=b;exact⟨q,G⟩);exact kO I (by rw[e];exact True.intro) C J (oE (bz (BG kvs k) z) y (rel.drop k) b)
theorem Iv (I:fR X pins σ H s)(e:Rd H a (.dK kvs))(h:∀t s',fR X pins σ H s'->Q (.int kvs.length t) s'):wpAny (model X.prog X.w) A (call (.builtin "len") [.ref a]) Q E s:=by obtain⟨z,b,g,rel,d⟩:=l9 I.hok e;refine call_len_dict b d (by rw[<-rel.length];rw[ci]at z;lia) ?_;rw[<-rel.length];exact h _ _ (I.tok _)
end
def Gi (i:eY):Prop:=∀ov iv,subscripted i false ov iv=operate [ov,iv] (getItem ov iv)
def xc {prog:eV}{w:fe}{env:Env}{value slice:eY}{id:String}(d:typeLookup (.type T) "__getitem__" = pure (some (.builtin id)))(e:Gi slice)(h:wpAny (model prog w) A (eval value env) (λo s₁=>wpAny (model prog w) A (eval slice env) (λi s₂=>s₂.TypeIs o T/\wpAny (model prog w) A (getItem o i) Q E s₂) E s₁) E s):wpAny (model prog w) A (eval (.Subscript value slice pos) env) Q E s:=by
 refine Subscript_ (bO h (λo s₁ h₁=>bO h₁ (λi s₂ h₂=>?_) λ_ _ x=>x) λ_ _ x=>x);obtain⟨b,h₂⟩:=h₂;unfold subscriptTail;refine ac ?_;rw[getitemInPython_of_ne b.not_modules];refine ac (wpAny_specialOf b d ?_);have a:wpAny (model prog w) A (subscripted slice false o i) (λr s₃=>wpAny (model prog w) A (letTemporaryGo value o r >>= λ_=>pure r) Q E s₃) E s₂:=by rw[e o i];exact wpAny_operating (bO h₂ (λr s₃ h₃=>ac (wpAny_letTemporaryGo (av h₃))) λ_ _ x=>x)
 first
  |exact av (ac a)
  |exact ac (av (ac a))
  |exact ac a
def uZ (I:fR X pins σ H s)(g:jS H a y o):s.TypeIs (.ref a) "dict":=by rcases g with ⟨d,k,e,_,_⟩|⟨d,k,b,e,_,_,_⟩;obtain⟨_,_,i,_,h⟩:=l9 I.hok e;exact h.typeIs;obtain⟨_,_,j,_,h⟩:=qK I.hok e;exact h.typeIs
inductive Gs (Q:VK)(x:V)(y:V)(H2:Hp):Prop
 |mk (a v:_)(_:x=.ref a)(_:jS H2 a y (some v))(_:Q v H2)
def Ed (td ty:TE):TE:=λσ H Q=>td σ H λx H1=>ty σ H1 λy H2=>Gs Q x y H2
inductive IL (Q:VK)(y:V)(x:V)(H2:Hp):Prop
 |mk (a o:_)(_:x=.ref a)(_:jS H2 a y o)(_:Q (.bl o.isSome) H2)
def Hh (ty td:TE):TE:=λσ H Q=>ty σ H λy H1=>td σ H1 λx H2=>IL Q y x H2
inductive Ci (Q:VK)(y:V)(x:V)(H2:Hp):Prop
 |mk (a o:_)(_:x=.ref a)(_:jS H2 a y o)(_:Q (.bl (!o.isSome)) H2)
def Cu (ty td:TE):TE:=λσ H Q=>ty σ H λy H1=>td σ H1 λx H2=>Ci Q y x H2
inductive Gw (D:lO)(σ:St)(v:V)(x:V)(y:V)(H3:Hp):Prop
 |mk (a H4:_)(_:x=.ref a)(_:nF H3 a y v H4)(_:D.nx σ H4)
def HF (td ty tv:TE):TS:=λD σ H=>tv σ H λv H1=>td σ H1 λx H2=>ty σ H2 λy H3=>Gw D σ v x y H3
section
variable {o i value:eY}{pos' tpos:Pos}{td ty tv:TE}
def iP (p:X.A.units+1<cLine)(l:PE X o td)(C:PE X i ty)(hs:autoParam (Gi i) fZ._auto_1):PE X (.Subscript o i pos) (Ed td ty):=by intro b s σ H Q I h;refine xc PySem.F.slot_dict_getitem.lookup hs (hU (l b s σ H _ I h) ?_);rintro u q ⟨x,m,z,t,q1⟩;refine hU (C b q σ m _ z q1) ?_;rintro L J ⟨y,D,e,B,a,v,j,g,q2⟩;subst j;obtain rfl:u=Value.ref a:=t;exact⟨uZ e g,zh p e g B λG K E d=>⟨v,D,E,d,q2⟩⟩
def qq (z:X.A.units+1<cLine)(v:PE X i ty)(e:PE X o td):PC X .In i o (Hh ty td):=by intro b s σ H Q I h;refine hU (v b s σ H _ I h) ?_;rintro G l ⟨y,j,q,t,q1⟩;refine hU (e b l σ j _ q q1) ?_;rintro u E ⟨x,B,D,m,a,p,d,g,q2⟩;subst d;obtain rfl:u=Value.ref a:=m;exact Kb z D g t λF C=>⟨.bl p.isSome,B,C,rfl,q2⟩
def mo (z:X.A.units+1<cLine)(v:PE X i ty)(e:PE X o td):PC X .NotIn i o (Cu ty td):=by intro b s σ H Q I h;refine hU (v b s σ H _ I h) ?_;rintro G l ⟨y,j,q,t,q1⟩;refine hU (e b l σ j _ q q1) ?_;rintro u E ⟨x,B,D,m,a,p,d,g,q2⟩;subst d;obtain rfl:u=Value.ref a:=m;exact DM z D g t λF C=>⟨.bl (!p.isSome),B,C,rfl,q2⟩
def jW (F:X.A.units+1<cLine)(B:PE X o td)(L:PE X i ty)(N:PE X value tv)(J:swapsWith value (some (.Subscript o i pos')) pos.line X.env=pure false):PS X (.Assign [.Subscript o i pos'] value pos) (HF td ty tv):=by intro b s σ H D I h;refine wpAny_Assign_Subscript (hU (N b s σ H _ I h) ?_) J;rintro r E ⟨v,C,j,z,q1⟩;refine hU (B b E σ C _ j q1) ?_;rintro u p ⟨x,M,t,G,q2⟩;refine hU (L b p σ M _ t q2) ?_;rintro R Q ⟨y,P,l,K,a,m,d,g,q⟩;subst d;obtain rfl:u=Value.ref a:=G;exact zg F l g K z λO e=>⟨σ,m,e,q⟩
end
def qO {w:fe}(h:fb)(hb:sysModules<h.objs.size):ib P w H (h.push {cls:=.type "dict",data:=.dict #[]}) h.objs.size (.dK []):=
 ⟨bp _,beq_eq_false_iff_ne.mpr (Ne.symm (aX hb)),[],.nil,Heap.DictOf.new h⟩
def EL:TE:=λ_ H Q=>∀p,H p=none->Q (.ref p) (upd H p (.dK []))
def jb:PE X (.Dict [] [] pos) EL:=λpins s σ H Q I h=>
 wpAny_Dict_empty ⟨.ref s.heap.objs.size,_,I.laid (a:=s.heap.objs.size) (o:=.dK []) (t':=s.toks) (λ_ _ q=>az _ q) (am _) (qO s.heap I.big),rfl,h _ (I.hok.fresh (am _))⟩
def sB:eW (TE×TE)->St->Hp->(eW (V×V)->Hp->Prop)->Prop
 |[],_,H,Q=>Q [] H
 |(tk,tv)::r,σ,H,Q=>tk σ H λx H1=>tv σ H1 λy H2=>sB r σ H2 λps H3=>Q ((x,y)::ps) H3
abbrev VV:eW (V×V)->eW (eR×eR)->Prop:=ff λp q=>gl p.1 q.1/\gl p.2 q.2
def IC (X:Cx)(pos:Pos)(keys:eW (fc eY))(values:eW eY)(trs:eW (TE×TE)):Prop:=
 ∀(pins:eW (eQ×Obj)) (s:eU) (σ:St) (H:Hp) (Q:eW (V×V)->Hp->Prop),fR X pins σ H s->sB trs σ H Q->
  wpAny (model X.prog X.w) X.A (evalPairs (pairTrees keys values X.env pos)) (λvs s'=>∃ps H',fR X pins σ H' s'/\VV ps vs/\Q ps H') X.xe s
def xj:IC X pos [] [] []:=λpins s σ H Q I h=>pairTrees_nil_walk ⟨[],H,I,.nil,h⟩
def uC {k v:eY}{ks:eW (fc eY)}{vs:eW eY}{tk tv:TE}{trs:eW (TE×TE)}(hk:PE X k tk)(hv:PE X v tv)(hr:IC X pos ks vs trs):IC X pos (some k::ks) (v::vs) ((tk,tv)::trs):=λpins s σ H Q I h=>
 pairTrees_cons_walk (hU (hk pins s σ H _ I h) λu s1 ⟨x,H1,I1,rx,q1⟩=>hU (hv pins s1 σ H1 _ I1 q1) (by rintro w2 s2 ⟨y,H2,I2,ry,q2⟩;exact hU (hr pins s2 σ H2 _ I2 q2) (by rintro ws s3 ⟨ps,H3,I3,rel,q3⟩;exact⟨(x,y)::ps,H3,I3,.cons ⟨rx,ry⟩ rel,q3⟩)))
def jo (kvs more:eW (io×V)):eW (io×V):=more.foldl (λacc kv=>gz acc kv.1 kv.2) kvs
def KV.merge:∀{more:eW (io×V)} {rs:eW (io×eR)} {kvs:eW (io×V)} {vs:eW (io×eR)},KV more rs->KV kvs vs->KV (jo kvs more) (merged vs rs):=by
 intro more rs kvs vs r;unfold KV at r;induction r generalizing kvs vs with|nil=>intro q;exact q|@cons p q ps qs h t ih=>
  intro a;have e:KV (gz kvs p.1 p.2) (stored vs q.1 q.2):=by have:=a.put p.1 h.2;rw[<-h.1];exact this
  exact ih e
theorem kX:∀(more kvs:eW (io×V)),(jo kvs more).length<=kvs.length+more.length
 |[],kvs=>by show kvs.length<=kvs.length+0;lia
 |p::r,kvs=>by have h1:=kX r (gz kvs p.1 p.2);have h2:=hZ kvs p.1 p.2;show(jo (gz kvs p.1 p.2) r).length<=_;rw[au];lia
theorem qR {P:eV}{w:fe}:∀{kvs:eW (io×V)} {ws:eW (eR×eR)},VV (kvs.map λkv=>(kV kv.1,kv.2)) ws->∃rs,Carries (gm P w) ws rs/\KV kvs rs
 |[],_,r=>by rw[df]at r;cases r;exact⟨[],True.intro,.nil⟩
 |p::kvs,_,r=>by rw[aH]at r;cases r with|@cons a b as bs h t=>obtain⟨rs,c,q⟩:=qR (P:=P) (w:=w) t;obtain⟨b1,b2⟩:=b;exact⟨(p.1,b2)::rs,⟨mP h.1,rfl,c⟩,.cons ⟨rfl,h.2⟩ q⟩
def Hg (trs:eW (TE×TE)):TE:=λσ H Q=>∀p,H p=none->sB trs σ (upd H p (.dK [])) λps H2=>H2 p=some (.dK [])/\∃kvs:eW (io×V),ps=kvs.map (λkv=>(kV kv.1,kv.2))/\kvs.length<=15/\Q (.ref p) (upd H2 p (.dK (jo [] kvs)))
theorem C7 {keys:eW (fc eY)}{values:eW eY}{trs:eW (TE×TE)}(h:IC X pos keys values trs)(g:keys.all (·.isSome)=true)(D:keys.length=values.length)(p:keys≠[])(j:keys.length<=15):PE X (.Dict keys values pos) (Hg trs):=by
 intro d s σ H Q I q;have F:=I.hok.fresh (am s.heap.objs.size);have t:=I.laid (a:=s.heap.objs.size) (o:=.dK []) (h':=s.heap.push {cls:=.type "dict",data:=.dict #[]}) (t':=s.toks) (λ_ _ q=>az _ q) (am _) (qO s.heap I.big);refine wpAny_Dict_walk (knd:=gm X.prog X.w) g D p j (hU (h d _ σ _ _ t (q _ F)) ?_);rintro R O ⟨N,S,l,rel,e,b,J,M,q2⟩;subst J;obtain⟨C,c,A⟩:=qR (P:=X.prog) (w:=X.w) rel;obtain⟨z,m,K,x,G⟩:=r8 l.hok e;cases x;refine⟨C,c,G,λh' i E=>⟨.ref s.heap.objs.size,_,?_,rfl,q2⟩⟩;have B:(jo [] b).length<=sizeLine:=by have y:=kX b [];rw[cH]at y;rw[ci];lia
 have L:∃q,h'.get? s.heap.objs.size=some q:=(by obtain⟨q,_,_,v,_⟩:=i;exact⟨q,v⟩);exact kO l (by rw[e];exact True.intro) E L (oE B m (A.merge .nil) i)
structure M1 (X:Cx)(o:eY)(m:Str)(apos:Pos)(e:eY)(cpos:Pos):Prop where
 base:attributeBase o m X.env (eval o X.env)=eval o X.env
 few:((backTo cpos (starEach [e] X.env)).all (λx=>!x.1)&&(backToKw cpos (keywordEach [] X.env)).all (λx=>x.1.isSome)&&decide (([e]:eW eY).length+([]:eW Keyword).length+(if ([]:eW Keyword).isEmpty then 0 else 1)<30))=true
 line:(apos.endLine == cpos.line)=true
 trees:backTo cpos (starEach [e] X.env)=[(false,eval e X.env)]
structure M2 (X:Cx)(o:eY)(m:Str)(apos:Pos)(e f:eY)(cpos:Pos):Prop where
 base:attributeBase o m X.env (eval o X.env)=eval o X.env
 few:((backTo cpos (starEach [e,f] X.env)).all (λx=>!x.1)&&(backToKw cpos (keywordEach [] X.env)).all (λx=>x.1.isSome)&&decide (([e,f]:eW eY).length+([]:eW Keyword).length+(if ([]:eW Keyword).isEmpty then 0 else 1)<30))=true
 line:(apos.endLine == cpos.line)=true
 trees:backTo cpos (starEach [e,f] X.env)=[(false,eval e X.env),(false,eval f X.env)]
def IO (H:Hp)(a:eQ):Prop:=(∃kvs,Rd H a (.dK kvs))\/∃kvs,Rd H a (.dT kvs)
def ww (I:fR X pins σ H s)(d:IO H a):s.TypeIs (.ref a) "dict"/\(∀b,Value.ref a=.ref b->∃ob,s.heap.get? b=some ob/\ob.dict=none)/\(a == sysModules)=false:=by rcases d with ⟨i,e⟩|⟨i,e⟩;obtain⟨_,h,m,_,g⟩:=l9 I.hok e;refine⟨g.typeIs,λb q=>?_,h⟩;cases q;obtain⟨ob,_,_,l,j,_⟩:=g;exact⟨ob,l,j.2.1⟩;obtain⟨_,h,o,_,g⟩:=qK I.hok e;refine⟨g.typeIs,λb q=>?_,h⟩;cases q;obtain⟨ob,_,_,l,j,_⟩:=g;exact⟨ob,l,j.2.1⟩
section
variable {d:V}{u r:eR}
def F0 (v:A.units+1<cLine)(I:fR X pins σ H s)(g:jS H a y o)(q:gl y u)(rd:gl d r)(h:∀w' s',fR X pins σ H s'->gl (o.getD d) w'->Q w' s'):wpAny (model X.prog X.w) A (call (.builtin "dict.get") [.ref a,u,r]) Q E s:=by rcases g with ⟨m,k,e,p,l⟩|⟨m,k,b,e,p,x,l⟩;subst p;obtain⟨z,j,B,rel,i⟩:=l9 I.hok e;refine call_meetsIn db i.typeIs PySem.F.entry_dict_get (PySem.F.args_dict_get_3 _ _ _) (meets_dict_get_default (gm X.prog X.w) a (mP q) j r) ⟨_,i.mapOf,h _ _ (I.tok _) ?_⟩;rw[l];exact(rel.val k).getD rd;subst p;cases (show u=Value.ref b from q);obtain⟨z,j,t,rel,i⟩:=qK I.hok e;refine call_meetsIn db i.typeIs PySem.F.entry_dict_get (PySem.F.args_dict_get_3 _ _ _) (meetsH_dict_get_default (tupleKind (gm X.prog X.w)) a b j r) ⟨dH v,k,t,nu I.hok x,i,h _ _ (I.tok _) ?_⟩;rw[l];exact(rel.val k).getD rd
end
inductive DY (ty:TE)(tx:TE)(σ:St)(Q:VK)(x:V)(H1:Hp):Prop
 |mk (a:_)(_:x=.ref a)(_:IO H1 a)(_:ty σ H1 λy H2=>tx σ H2 λz H3=>∃o,jS H3 a y o/\Q (o.getD z) H3)
def EN (td ty tx:TE):TE:=λσ H Q=>td σ H λx H1=>DY ty tx σ Q x H1
inductive DW (ty:TE)(σ:St)(Q:VK)(x:V)(H1:Hp):Prop
 |mk (a:_)(_:x=.ref a)(_:IO H1 a)(_:ty σ H1 λy H2=>∃kvs k v,H2 a=some (.dK kvs)/\y=kV k/\fW kvs k=some v/\Q v (upd H2 a (.dK (kN kvs k))))
def EJ (td ty:TE):TE:=λσ H Q=>td σ H λx H1=>DW ty σ Q x H1
section
variable {o f:eY}{apos cpos:Pos}{td ty tx:TE}
def kZ (M:X.A.units+1<cLine)(G:PE X o td)(S:PE X e ty)(E:PE X f tx)(m:M2 X o "get" apos e f cpos):PE X (.Call (.Attribute o "get" apos) [e,f] [] cpos) (EN td ty tx):=by intro b s σ H Q I h;refine dQ m.base m.few m.line cS db PySem.F.type_dict_get (hU (G b s σ H _ I h) ?_);rintro u L ⟨x,K,j,N,a,l,d,q1⟩;subst l;obtain rfl:u=Value.ref a:=N;obtain⟨J,p,_⟩:=ww j d;refine⟨J,p,?_⟩;rw[m.trees];refine Calls.callWith_builtin rfl (Calls.evalArgs_plain (Calls.spliced_cons (hU (S b L σ K _ j q1) λiv B ⟨y,R,D,O,q2⟩=>Calls.spliced_cons (hU (E b B σ R _ D q2) λfv Z ⟨z,t,v,P,Y,g,C⟩=>Calls.spliced_nil ?_))));exact F0 M v g O P λU T q i=>⟨_,t,q,i,C⟩
def AF (A:PE X o td)(J:PE X e ty)(m:M1 X o "pop" apos e cpos):PE X (.Call (.Attribute o "pop" apos) [e] [] cpos) (EJ td ty):=by intro b s σ H Q I h;refine dQ m.base m.few m.line cS PySem.F.slot_dict_pop PySem.F.type_dict_pop (hU (A b s σ H _ I h) ?_);rintro u D ⟨x,C,i,E,a,j,d,q1⟩;subst j;obtain rfl:u=Value.ref a:=E;obtain⟨B,p,_⟩:=ww i d;refine⟨B,p,?_⟩;rw[m.trees];refine Calls.callWith_builtin rfl (Calls.evalArgs_plain (Calls.spliced_cons (hU (J b D σ C _ i q1) ?_)));rintro R N ⟨y,O,z,G,q,k,v,L,K,l,q2⟩;refine Calls.spliced_nil ?_;subst K;exact Iu z L G l (.inl rfl) λM P t g=>⟨v,_,t,g,q2⟩
end
def BL (I:fR X pins σ H s)(e:Rd H a (.dK kvs))(h:∀p s',H p=none->fR X pins σ (upd H p (.dK kvs)) s'->Q (.ref p) s'):wpAny (model X.prog X.w) A (call (.type "dict") [.ref a]) Q E s:=by obtain⟨z,i,t,rel,l⟩:=l9 I.hok e;refine kt_call_dict i l (by rw[<-rel.length];exact z) λm d j=>?_;refine h _ _ (I.hok.fresh (am _)) (I.laid (a:=s.heap.objs.size) (o:=.dK kvs) (t':=s.toks) (λb q g=>?_) (am _) (oE z (beq_eq_false_iff_ne.mpr (Ne.symm (aX I.big))) rel d));exact(j.2 b (aX (aS g))).trans (az _ g)
section
variable {u:eR}
end
end Lake
namespace Att
open PySem PySem.W PySem.Calls PyProof.Rows
def pe {P:Params}{h:fb}:∀(ns:eW Int) (vs:eW eR),WellAll P h vs (ns.map WData.int)->IntsAre vs ns:=by intro ns;induction ns with|nil=>intro vs w;rw[df]at w;cases w;exact .nil|cons n ns ih=>intro vs w;rw[aH]at w;cases w with|cons a b=>cases a;exact .cons _ _ (ih _ b)
def yj {l:OpenLaw}{n:Nat}(x:l.most=some n){P:Params}{h:fb}{args:eW WData}{vals:eW eR}(b:l.row.toRowW.claim.pre args=true)(m:WellAll P h vals args):∃a vs ns,vals=[Value.ref a]/\args=[WData.list (ns.map WData.int)]/\h.get? a=some {cls:=.type "list",data:=.seq vs.toArray}/\IntsAre vs ns/\ns.length<=n:=by
 have j:WShape.hasAll [] args [.list .int]=true:=(pre_splitW b).1;have o:l.pre.holds [] {args:=args}=true:=(pre_splitW b).2;obtain⟨d,r,rfl,s,p⟩:=hasAllW_cons j;obtain rfl:=hasAllW_nil p;obtain⟨y,rfl,t⟩:=hasW_list s;obtain⟨ns,rfl⟩:=items_int t;have e:ns.length<=n:=by
  unfold OpenLaw.pre at o;have g:(WTm.not (.lt (.lit (.int (n:Int))) (.len (.arg 0)))).holds [] {args:=[.list (ns.map .int)]}=true:=by have g:=(holds_andW o).1;rw[x]at g;exact g
  have i:=condW_of g (w_not (w_lt w_lit (w_len_list (w_arg rfl))));rw[ae]at i;refine Nat.le_of_not_lt λq=>?_;have v:(n:Int)<((ns.length:Nat):Int):=by lia
  first
   |(rw[aq v]at i;exact absurd i (by decide))
   |(simp at i;lia)
 cases m with|cons w1 w2=>cases w2;cases w1 with|list ho hall=>exact⟨_,_,ns,rfl,rfl,ho,pe ns _ hall,e⟩
def yl (l:OpenLaw)(args:eW WData):l.row.toRowW.claim.post args (.bool true) args=true:=
 postW_of (r:=l.row.toRowW) (X:=(true == true))
  (show WShape.has [] (.bool true) .bool=true by first|rfl|decide|simp[WShape.has,WShape.arms,WShape.armsAll])
  (show(WTm.eq .res (.lit (.bool true))).value [] {args:=args,res:=some (.bool true),after:=args}=some (.bool (true == true)) from w_eq_bool (w_res rfl) w_lit) rfl
def vc {l:OpenLaw}{n:Nat}{q:eV}{loose:eW Str}{XP:(Str->fc eR)->fb->Prop}{YP:fe->fb->Prop}{d:DefRec}(I:l.most=some n)(j:d.params.defaults=[])(call:∀(w:fe) (s₀ s₁:eU) (mg mb:Str->fc eR) (fa:eQ) (o:Obj) (pm cd doc:eR) (a:eQ) (vs:eW eR) (ns:eW Int),Ground q loose [] XP w s₀ mg mb s₁.heap->YP w s₁.heap->s₁.heap.get? fa=some o->o.data=.func (docDef d.name d.params d.body d.scope pm cd doc)->s₁.heap.CodeRec cd d.name->mg d.name=some (.ref fa)->s₁.heap.get? a=some {cls:=.type "list",data:=.seq vs.toArray}->IntsAre vs ns->ns.length<=n->s₁.gens=#[]->codeAny (model l.prog w) callerA (.call (.ref fa) ⟨[.ref a],[]⟩) (λr s'=>r=.ok (.ret (.bool true))/\OldK s₁.heap s'.heap/\s'.os=s₁.os/\AllBare s'.gens) s₁):WalkO q loose XP YP l.row.toRowW d [] (λf vs=>PySem.call f vs):=by intro w s₀ s₁ mg mb G Y fa o pm cd doc L kV E z p x m B t v M h y F i K;obtain rfl:L=.none:=Dflts.none x j;obtain rfl:kV=.none:=Dflts.noKw x;obtain⟨a,vs,ns,rfl,rfl,e,b,g⟩:=yj I h i;refine enter_call (eB (call w s₀ s₁ mg mb fa o pm cd doc a vs ns G Y E (fd_plain z) p m e b g B) λr s' C=>?_);obtain⟨rfl,A,H,D⟩:=C;exact⟨.inl ⟨.bool true,.bool true,[],rfl,λ_=>rfl,.bool true,yl l _,λ_=>⟨List.Pairwise.nil,λ_ J=>(nomatch J)⟩⟩,A,H,D⟩
section
variable {prog:eV}{w:fe}{A:eP}{E:eR->eU->Prop}{s:eU}{K:Frag}
end
end Att
namespace Lake
open PySem PySem.Spec PyProof.Rows
variable {A B:Prop}{H:Hp}{qual x:Str}{st:eX}
theorem nZ:∀{vs:eW eR} {ns:eW Int},IntsAre vs ns->g0 (ns.map V.int) vs
 |_,_,.nil=>.nil
 |_,_,.cons n t h=>.cons ⟨t,rfl⟩ (nZ h)
noncomputable def gH (s:eX)(j:Nat):eX:=match s with
 |.ClassDef _ _ _ body _ _ _ _ _ _ _=>body.getD j (.Pass ⟨0,0,0,0⟩)
 |_=>.Pass ⟨0,0,0,0⟩
noncomputable def iJ (s:eX):Arguments:=match s with
 |.FunctionDef _ a _ _ _ _ _ _ _ _=>a
 |_=>{posonlyargs:=[],args:=[],vararg:=none,kwonlyargs:=[],kw_defaults:=[],kwarg:=none,defaults:=[]}
def gZ (s:eX):eW eX:=match s with
 |.FunctionDef _ _ b _ _ _ _ _ _ _=>b
 |_=>[]
noncomputable def fE (s:eX):Scope:=match s with
 |.FunctionDef _ _ _ _ _ _ sc _ _ _=>sc
 |_=>{kind:=.function,names:=[],isGenerator:=false,isCoroutine:=false}
abbrev gM:ul:=λ_ _ _ _ _ _=>False
abbrev E0:XK:=λ_ _ _=>False
def gJ {X:Cx}:kH gM X E0:=λ_ _ _ _ _ _ _ h=>h.elim
structure je (K:fh)(x qual:Str)(st:eX)(f:eQ)(fd:eZ):Prop where
 ex:∃(oc:eR) (od:fc eQ) (kV doc pm:eR) (an:fc eQ) (cdv ct:eR) (osl:Array (fc eR)),
  fd=W.fnOf x qual (iJ st) (gZ st) (fE st) .none kV doc pm an cdv ct/\K.lookup f=some ⟨oc,od,.func fd,osl⟩/\W.codeIn K cdv qual=true
 kp:W.keepIn K (.ref f)=true
section
variable {P:eV}{w:fe}{K:fh}{mg:Str->fc eR}{base:fb}
theorem je.ok {f:eQ}{fd:eZ}{N ps:eW Str}{k:Nat}{sp:Sp}(F:je K x qual st f fd)(S:fL N ps (fE st))(a:∀(cdv:eR) (A:eP) (outer:eW Env) (s:eU) (H:Hp) (vs:eW V) (Q:VK) (E:XK),iF k (A.deeper (envOfC qual (fE st) s.heap.objs.size f cdv))->sp vs H Q E->∃t,lI (lN gM P w K mg base N qual (fE st) f cdv A outer s H E).nox (gZ st) t/\t {nx:=λ_ H'=>Q .non H',rt:=Q} (start N vs) H)(len:∀vs H Q E,sp vs H Q E->vs.length=ps.length:=by intro _ _ _ _ h;cases h;subst_vars;rfl):gv P w K mg base gM (k+1) f fd ps sp:=by obtain⟨m,p,kV,i,l,o,cdv,v,j,rfl,e,d⟩:=F.ex;refine BE e d S len λA outer s H vs Q E g b=>?_;obtain⟨t,h,q⟩:=a cdv A outer s H vs Q E g b;exact⟨t,h.nox,q⟩
def je.binds {f:eQ}{fd:eZ}{ps:eW Str}(F:je K x qual st f fd)(h:∀(kV doc pm:eR) (an:fc eQ) (cdv ct:eR) (us:eW eR),us.length=ps.length->bindArgs (W.fnOf x qual (iJ st) (gZ st) (fE st) .none kV doc pm an cdv ct) ⟨us,[]⟩=pure (ps.zip us)):jf K fd ps []:=by obtain⟨g,d,kV,doc,pm,an,cdv,ct,b,rfl,e,a⟩:=F.ex;exact .all (h kV doc pm an cdv ct)
def oB {f:eQ}{oc:eR}{od an:fc eQ}{osl:Array (fc eR)}{kV doc pm cdv ct:eR}(l:K.lookup f=some ⟨oc,od,.func (W.fnOf x qual (iJ st) (gZ st) (fE st) .none kV doc pm an cdv ct),osl⟩)(c:W.codeIn K cdv qual=true)(k:W.keepIn K (.ref f)=true):je K x qual st f (W.fnOf x qual (iJ st) (gZ st) (fE st) .none kV doc pm an cdv ct):=⟨⟨oc,od,kV,doc,pm,an,cdv,ct,osl,rfl,l,c⟩,k⟩
end
def iD {A:eP}{k:Nat}(hr:iF k A):A.units+1<cLine:=bX (Nat.add_le_add_left (by decide:1<=64) _) hr.units
def fO {n:Nat}(h:n<=1000):n<sizeLine:=bX h (by decide)
def oM:0<=sizeLine:=by decide
def D8:1<=sizeLine:=by decide
def pO:2<=sizeLine:=by decide
def zE:3<=sizeLine:=by decide
def GQ:4<=sizeLine:=by decide
def K0:6<=sizeLine:=by decide
def Jr:10<=sizeLine:=by decide
section
variable {X:Cx}
def pv (i:Nat){pos:Pos}(hN:autoParam (X.N[i]?=some x) gq._auto_1)(hv:DQ X.env.scope x:=by first|exact Or.inl rfl|exact Or.inr (Or.inl rfl)|exact Or.inr (Or.inr rfl))(hd:autoParam ((x == ("__debug__":Str))=false) Ay._auto_1)(hcd:autoParam ((x == ("__classdict__":Str))=false) Ay._auto_1):PE X (.Name x pos) (lK i):=Ay hN hv hd hcd
end
def gB (h:B):if false=true then A else B:=by rw[ax aV];exact h
def ip (h:A):if true=true then A else B:=by rw[ay rfl];exact h
def ke {c:Prop} [Decidable c] (a:c->A)(b:¬c->B):if c then A else B:=by by_cases h:c;rw[ay h];exact a h;rw[ax h];exact b h
def fH (H H':Hp):Prop:=∀b o,H b=some o->H' b=some o
def fH.refl (H:Hp):fH H H:=λ_ _ h=>h
def fH.trans {H1 H2:Hp}(a:fH H H1)(b:fH H1 H2):fH H H2:=λc o h=>b c o (a c o h)
def fH.free {H':Hp}(e:fH H H'){l:eQ}(h:H' l=Option.none):H l=Option.none:=by cases q:H l with|none=>rfl|some o=>rw[e l o q]at h;cases h
def fH.seq {K:fh}{H':Hp}{a:eQ}{xs:eW V}(e:fH H H')(h:gf K H a xs):gf K H' a xs:=by rcases h with (h|⟨o,h⟩)|h;exact .inl (.inl (e _ _ h));exact .inl (.inr ⟨o,e _ _ h⟩);exact .inr h
section
variable {κ:Type} [DecidableEq κ]
def jw {kvs:eW (κ×V)}{k:κ}{v:V}(h:fW kvs k=some v):k∈kvs.map (·.1):=by
 have q:(kvs.any λa=>decide (a.1=k))=true:=by rw[jr,h];all_goals rfl
 obtain⟨p,hp,e⟩:=ee.mp q;exact aA.mpr ⟨p,hp,ba e⟩
theorem pC:∀{l:eW κ} {k:κ},l.Nodup->¬k∈l->(l++[k]).Nodup
 |[],k,_,_=>by simp
 |a::r,k,h,hk=>by obtain⟨h1,h2⟩:=bb.mp h;show(a::(r++[k])).Nodup;refine bb.mpr ⟨λm=>?_,pC h2 λm=>hk (ao.mpr (Or.inr m))⟩;rcases aE.mp m with q|q;exact h1 q;exact hk (ao.mpr (Or.inl (af.mp q).symm))
end
end Lake
set_option maxHeartbeats 4000000
namespace Lake
open PySem PySem.Spec PyProof.Rows
variable {A:eP}{E Q:eR->eU->Prop}{H H':Hp}{K:fh}{N':eW Str}{P:eV}{X:Cx}{a b d:eQ}{e:eY}{es:Array DictEntry}{g:TG}{h:fb}{i j:Nat}{ks:eW hJ}{kvs:eW (hJ×V)}{o:Obj}{p pos:Pos}{pins:eW (eQ×Obj)}{s:eU}{scope:Scope}{te:TE}{tr:Bool}{tt:TT}{v:eR}{x:Str}{xs:eW (hJ×eR×eR)}{y:V}{σ:St}
mutual
inductive qZ (H:Hp):V->fg->Prop
 |non:qZ H .non .none
 |bl (b:Bool):qZ H (.bl b) (.bool b)
 |int (i:Int):qZ H (.int i) (.int i)
 |str (x:Str):qZ H (.str x) (.str x)
 |lst {a:eQ} {xs:eW V} {ds:eW fg}:H a=some (.lst xs)->oJ H xs ds->qZ H (.ref a) (.list ds)
 |tup {a:eQ} {xs:eW V} {ds:eW fg}:H a=some (.tup xs)->oJ H xs ds->qZ H (.ref a) (.tuple ds)
inductive oJ (H:Hp):eW V->eW fg->Prop
 |nil:oJ H [] []
 |cons {v:V} {d:fg} {vs:eW V} {ds:eW fg}:qZ H v d->oJ H vs ds->oJ H (v::vs) (d::ds)
end
mutual
theorem qZ.reads (I:fR X pins σ H s):∀{v:V} {d:fg} {u:eR},qZ H v d->gl v u->∃as,Reads s.heap u d as
 |_,_,u,.non,r=>by cases (show u=Value.none from r);exact⟨_,.none⟩
 |_,_,u,.bl b,r=>by cases (show u=Value.bool b from r);exact⟨_,.bool b⟩
 |_,_,u,.int i,r=>by obtain⟨t,e⟩:=(show ∃t,u=Value.int i t from r);subst e;exact⟨_,.int i t⟩
 |_,_,u,.str x,r=>by obtain⟨t,e⟩:=(show ∃t,u=Value.str x t from r);subst e;exact⟨_,.str x t⟩
 |_,_,u,.lst (a:=a) (xs:=xs) h q,r=>by cases (show u=Value.ref a from r);obtain⟨z,its,n,rv,e⟩:=(show ib X.prog X.w H s.heap a (.lst xs) from I.hok a _ h);obtain⟨as,k⟩:=oJ.readsAll I q rv;exact⟨_,.list e rfl rfl (by simpa using k)⟩
 |_,_,u,.tup (a:=a) (xs:=xs) h q,r=>by cases (show u=Value.ref a from r);obtain⟨z,its,rv,o,e,c,n,dd⟩:=(show ib X.prog X.w H s.heap a (.tup xs) from I.hok a _ h);obtain⟨as,k⟩:=oJ.readsAll I q rv;exact⟨_,.tuple e c dd (by simpa using k)⟩
theorem oJ.readsAll (I:fR X pins σ H s):∀{vs:eW V} {ds:eW fg} {us:eW eR},oJ H vs ds->g0 vs us->∃as,ReadsAll s.heap us ds as
 |_,_,_,.nil,.nil=>⟨_,.nil⟩
 |_,_,_,.cons r t,.cons h k=>by obtain⟨as,e⟩:=qZ.reads I r h;obtain⟨bs,f⟩:=oJ.readsAll I t k;exact⟨_,.cons e f⟩
end
inductive IS (x:V)(y:V)(H:Hp)(Q:VK):Prop
 |mk (d e:_)(_:qZ H x d)(_:qZ H y e)(_:SeqAt.shaped d=true)(_:SeqAt.shaped e=true)(_:Q (.bl (!PyData.eqv d e)) H)
def JX:R2:=λx y H Q=>IS x y H Q
def nc (i:X.A.units+64<cLine):ph X (compareOp .NotEq) JX:=by intro a s σ H x y u v Q I j m h;obtain⟨d,e,t,g,l,p,q⟩:=h;obtain⟨z,b⟩:=t.reads I j;obtain⟨bs,o⟩:=g.reads I m;exact ne_dataH b o l p i ⟨.bl _,H,I,rfl,q⟩
inductive IV (neg:Bool)(x:V)(y:V)(H:Hp)(Q:VK):Prop
 |mk (d es:_)(_:qZ H x d)(_:qZ H y (.list es))(_:d.canLay0=true)(_:PyData.canLayAll0 es=true)(_:d.depth<=60)(_:Q (.bl (if neg then !(es.any λz=>PyData.eqv z d) else es.any λz=>PyData.eqv z d)) H)
def Fa (neg:Bool):R2:=λx y H Q=>IV neg x y H Q
theorem AQ (z:X.A.units+64<cLine):ph X (compareOp .In) (Fa false):=by intro a s σ H x y u v Q I i l h;obtain⟨d,g,p,e,j,o,B,q⟩:=h;obtain⟨t,b⟩:=p.reads I i;obtain⟨bs,m⟩:=e.reads I l;refine SeqAt.in_list_reads m b o j ?_ ⟨.bl _,H,I,rfl,q⟩;have:=Nat.min_le_right (PyData.depthAll g) d.depth;lia
theorem mq (z:X.A.units+64<cLine):ph X (compareOp .NotIn) (Fa true):=by intro a s σ H x y u v Q I i l h;obtain⟨d,g,p,e,j,o,B,q⟩:=h;obtain⟨t,b⟩:=p.reads I i;obtain⟨bs,m⟩:=e.reads I l;refine SeqAt.notIn_list_reads m b o j ?_ ⟨.bl _,H,I,rfl,q⟩;have:=Nat.min_le_right (PyData.depthAll g) d.depth;lia
def qP {f:Array eR->Array eR}:(Obj.mapFields f o).dict=o.dict:=by obtain⟨c,d,a,b⟩:=o;cases a <;> rfl
def Kg (X:Cx)(pins:eW (eQ×Obj))(H:Hp)(h:fb)(x:eQ)(vs:Array eR):Prop:=
 ∃(T:eQ) (oT:Obj) (ts:Array eR),vs[1]?=some (.ref T)/\T≠x/\jj X pins H T/\h.get? T=some oT/\oT.data=.fields ts/\3<ts.size
structure Fl (X:Cx)(pins:eW (eQ×Obj))(σ:St)(H:Hp)(x:eQ)(cls:eR)(tr:Bool)(s:eU):Prop where
 inv:fR X pins σ H s
 own:jj X pins H x
 exc:∃(oe:Obj) (vs:Array eR),s.heap.get? x=some oe/\(oe.cls=cls/\oe.dict=none)/\oe.data=.fields vs/\((tr=false/\vs[1]?=some .none)\/Kg X pins H s.heap x vs)
def ib.some {w:fe}{o:HO}(x:ib P w H h a o):∃ob,h.get? a=Option.some ob:=by cases o with|lst xs=>obtain⟨_,_,_,_,e⟩:=x;exact⟨_,e⟩|tup xs=>obtain⟨_,_,_,o,e,_⟩:=x;exact⟨o,e⟩|dK kvs=>obtain⟨_,_,_,_,o,_,_,e,_⟩:=x;exact⟨o,e⟩|dT kvs=>obtain⟨_,_,_,_,o,_,_,e,_⟩:=x;exact⟨o,e⟩|dN kvs=>obtain⟨_,_,_,_,o,_,_,e,_⟩:=x;exact⟨o,e⟩|set S n=>obtain⟨o,_,_,_,e,_⟩:=x;exact⟨o,e⟩|ins C dx fs=>obtain⟨_,_,_,e,_⟩:=x;exact⟨_,e⟩|own y=>exact x|xd fs=>obtain⟨_,⟨o,_,_,e,_⟩,_⟩:=x;exact⟨o,e⟩|rng lo hi=>obtain⟨_,_,_,e⟩:=x;exact⟨_,e⟩|frz ob u=>exact⟨_,x.1⟩|tbl ps=>exact⟨_,x⟩|met f y=>exact⟨_,x⟩|ext φ=>exact x.2.1
section
variable {x:eQ}{cls:eR}{M:Model}
def fR.Me {h':fb}(I:fR X pins σ H s)(f:jj X pins H x)(keep:∀b o,b≠x->b∉uq X.stack->s.heap.get? b=some o->h'.get? b=some o)(d:∀b o,b≠x->b∈uq X.stack->s.heap.get? b=some o->∃sl,h'.get? b=some {o with slots:=sl})(h:∃o,h'.get? x=some o):fR X pins σ H {s with heap:=h'}:=by
 obtain⟨l,p,A,t,m,j⟩:=f;refine I.call (h':=h') (g':=s.gens) (t':=s.toks) (d':=s.drawn) (ch:=[x]) ⟨λb o e n a g=>keep b o (λz=>g (by simp[z])) a e,λb o e n a g=>d b o (λz=>g (by simp[z])) a e,λ_ _ _ n _=>n,λb o e g=>?_,λ_ _ e=>e,λ_ _ _ e=>e,λb B e=>⟨#[],by rw[e];simp⟩⟩ (λb u e=>?_) I.bare (λb a=>?_);by_cases a:b∈uq X.stack;obtain⟨sl,q⟩:=d b o (λz=>g (by simp[z])) a e;exact⟨_,q⟩;exact⟨o,keep b o (λz=>g (by simp[z])) a e⟩;have out:∀c v,H c=some v->c≠x/\c∉uq X.stack:=λc v q=>⟨λz=>(by rw[z,l]at q;cases q),λz=>(by rw[I.LO c z]at q;cases q)⟩;refine(I.hok b u e).LK (λc v y q=>?_) (λ_ q=>q) λ_ _ q=>q;have i:c≠x/\c∉uq X.stack:=by rcases y with z|z;rw[z];exact out b u e;exact out c _ z
 exact keep c v i.1 i.2 q;have e:b=x:=by simpa using a
 subst e;exact⟨t,p,m,j⟩
def fR.Mf (I:fR X pins σ H s)(a:s.heap.get? b=none)(h:H' b=none):jj X pins H' b:=by
 refine⟨h,λz=>?_,λz=>?_,?_,λy c e z=>?_,λp hp z=>?_⟩;obtain⟨m,⟨o,_,_,d,_⟩,_⟩:=I.loc;rw[z,d]at a;cases a;obtain⟨_,o,d,_⟩:=I.funs.mem z;rw[d]at a;cases a;by_cases hx:b∈X.ex;exact .inl hx;refine .inr ?_;cases e:X.s₀.heap.get? b with|none=>rfl|some o=>obtain⟨i,g⟩:=I.base.there b o e hx;rw[g]at a;cases a
 obtain⟨v,o,d,_⟩:=I.cell y c e;rw[z,a]at d;cases d;have q:=(I.pin p hp).1;rw[z,a]at q;cases q
def jj.Mg (I:fR X pins σ H s)(f:jj X pins H x):x∉uq X.stack:=λz=>by
 rcases ao.mp (I.LN x z) with e|e;exact f.2.1 e;exact f.2.2.1 e
theorem uU {oe:Obj}{vs:Array eR}{head:eR}{hadNext:Bool}{Q:Unit->eU->Prop}(g:X.stack=X.env::X.outer)(U:X.env.frame=some X.env.locals)(T:A.frames=some X.stack)(I:fR X pins σ H s)(f:jj X pins H x)(he:s.heap.get? x=some oe)(O:oe.cls=cls/\oe.dict=none)(F:oe.data=.fields vs)(hsz:1<vs.size)(h:∀s',Fl X pins σ H x cls true s'->Q () s'):wpAny M A (do let a <-frameOf X.env;let pl <-entryPlaceOf X.env.locals hadNext;let b <-EntryCells.newEntry head a .none (rawInt X.env.locals) .none pl;setField (.ref x) 1 b) Q E s:=by
 have Y:s.heap.FunFrames X.base (X.env::X.outer):=g▸I.stack;have nf:=f.Mg I;refine ac (wpAny_frameOf_fun (g▸T) Y U λd i=>?_);refine ac (wpAny_entryPlaceOf λpl B=>?_);unfold EntryCells.newEntry newFields;refine ac (dP ?_ (B.sizeOk5 _ _ _ _ _));have D:x∉(X.env::X.outer).filterMap (·.frame):=by have z:=nf;rw[g]at z;exact z
 have L:d.get? x=some oe:=(i.2.1 x D).trans he;generalize C:({cls:=.type "traceback",dict:=none,data:=.fields ([head,.ref X.env.locals,.none,rawInt X.env.locals,.none]++(if pl.isEmpty then List.replicate 6 Value.none else pl)).toArray}:Obj)=ob;have m:∃v,ob.data=.fields v/\3<v.size:=by rw[<-C];refine⟨_,rfl,?_⟩;simp only[aP,aB,au,cH];lia
 obtain⟨v,p,l⟩:=m;have y:ob.isFreed=false:=Obj.isFreed_of_fields p;have J:=az (h:=d) ob L;refine eJ J F hsz (h _ ?_);have K:d.objs.size=s.heap.objs.size:=i.1;have t:d.objs.size≠x:=Nat.ne_of_gt (aS L);have G:=Obj.data_mapFields F (·.setIfInBounds 1 (Value.ref d.objs.size));have N:=cf (Obj.mapFields (·.setIfInBounds 1 (Value.ref d.objs.size))) J (Obj.isFreed_of_fields G);have P:((d.push ob).update x (Obj.mapFields (·.setIfInBounds 1 (Value.ref d.objs.size)))).get? d.objs.size=some ob:=by rw[cM _ _ (Ne.symm t)];exact aO _ y
 have back:∀b o,b≠x->d.get? b=some o->((d.push ob).update x (Obj.mapFields (·.setIfInBounds 1 (Value.ref d.objs.size)))).get? b=some o:=λb o j e=>by rw[cM _ _ (Ne.symm j)];exact az _ e
 have S:fR X pins σ H {s with heap:=(d.push ob).update x (Obj.mapFields (·.setIfInBounds 1 (Value.ref d.objs.size)))}:=by refine I.Me f (λb o j Z e=>back b o j ((i.2.1 b (λz=>Z (by rw[g];exact z))).trans e)) (λb o j _ e=>?_) ⟨_,N⟩;obtain⟨R,q⟩:=i.2.2 b o e;exact⟨R,back b _ j q⟩
 refine⟨S,f,_,_,N,⟨(Obj.cls_mapFields _ _).trans O.1,qP.trans O.2⟩,G,.inr ⟨d.objs.size,ob,v,by simp[hsz],t,?_,P,p,l⟩⟩;exact I.LX (cE K.symm) (I.hok.fresh (cE K.symm))
def t0 {Q:Unit->eU->Prop}(j:X.stack=X.env::X.outer)(v:X.env.frame=some X.env.locals)(D:A.frames=some X.stack)(F:Fl X pins σ H x cls tr s)(h:∀s',Fl X pins σ H x cls true s'->Q () s'):wpAny M A (noteFrame (.ref x) X.env) Q E s:=by obtain⟨I,f,O,L,l,B,g,G⟩:=F;unfold noteFrame;simp only[v];rcases G with ⟨_,d⟩|⟨T,K,t,d,m,C,p,q,y⟩;refine ac (wpAny_field l g d ?_);rw[ax (by decide)];exact uU j v D I f l B g (dk.mp d).1 h;refine ac (wpAny_field l g d ?_);rw[ay (show(Value.ref T != Value.none)=true from by simp)];have P:t[3]?=some t[3]:=cm y;refine ac (wpAny_field p q P ?_);by_cases hq:(t[3] == rawInt X.env.locals)=true;rw[ay hq];exact av (h s ⟨I,f,O,L,l,B,g,.inr ⟨T,K,t,d,m,C,p,q,y⟩⟩);rw[ax hq];refine ac (eJ p q y ?_);have J:=Obj.data_mapFields q (·.setIfInBounds 3 Value.none);have z:=cf (Obj.mapFields (·.setIfInBounds 3 Value.none)) p (Obj.isFreed_of_fields J);have a:∀b,b≠T->(s.heap.update T (Obj.mapFields (·.setIfInBounds 3 Value.none))).get? b=s.heap.get? b:=λb i=>cM _ _ (Ne.symm i);have N:fR X pins σ H {s with heap:=s.heap.update T (Obj.mapFields (·.setIfInBounds 3 Value.none))}:=I.Me C (λb o i _ e=>(a b i).trans e) (λb o i _ e=>⟨o.slots,(a b i).trans e⟩) ⟨_,z⟩;exact uU j v D N f ((a x (Ne.symm m)).trans l) B g (dk.mp d).1 h
def lh {fr:fc eQ}{Q:Unit->eU->Prop}(F:Fl X pins σ H x cls tr s)(h:∀s',Fl X pins σ H x cls tr s'->Q () s'):wpAny M A (setFlight (.ref x) fr) Q E s:=by obtain⟨I,f,D,B,m,G,l,z⟩:=id F;unfold setFlight;rcases z with ⟨_,j⟩|⟨T,J,K,j,i,q,t,y,v⟩;refine ac (wpAny_field m l j ?_);rw[ax (by decide)];exact av (h s F);refine ac (wpAny_field m l j ?_);rw[ay (show(Value.ref T != Value.none)=true from by simp)];refine eJ t y v (h _ ?_);generalize L:(fr.elim Value.none λf=>rawInt f)=nv;have p:=Obj.data_mapFields y (·.setIfInBounds 3 nv);have g:=cf (Obj.mapFields (·.setIfInBounds 3 nv)) t (Obj.isFreed_of_fields p);have a:∀b,b≠T->(s.heap.update T (Obj.mapFields (·.setIfInBounds 3 nv))).get? b=s.heap.get? b:=λb d=>cM _ _ (Ne.symm d);have C:fR X pins σ H {s with heap:=s.heap.update T (Obj.mapFields (·.setIfInBounds 3 nv))}:=I.Me q (λb o d _ e=>(a b d).trans e) (λb o d _ e=>⟨o.slots,(a b d).trans e⟩) ⟨_,g⟩;exact⟨C,f,D,B,(a x (Ne.symm i)).trans m,G,l,.inr ⟨T,_,_,j,i,q,g,p,by simpa using v⟩⟩
def mS (X:Cx)(Wz:eW (eQ×Obj)->St->eR->Hp->Prop)(e:eR)(s:eU):Prop:=∃pins σ H x cls tr,e=.ref x/\Fl X pins σ H x cls tr s/\Wz pins σ cls H
def jQ {Wz:eW (eQ×Obj)->St->eR->Hp->Prop}(d:X.stack=X.env::X.outer)(o:X.env.frame=some X.env.locals):PassesOwn M X.A X.env (mS X Wz):=by rintro e s ⟨a,σ,H,x,b,D,rfl,F,w⟩;refine t0 d o F.inv.ok.frames F λt h=>?_;obtain⟨I,f,C,B,p,L,i,m⟩:=id h;rcases m with ⟨z,_⟩|⟨T,v,K,j,q,E,y,J,G⟩;cases z;unfold cameBackBy;refine ac (wpAny_field p i j ?_);rw[ax (show ¬((Value.ref T == Value.none)=true) from by simp)];exact lh h λl g=>⟨a,σ,H,x,b,true,rfl,g,w⟩
end
def nG (P:eV)(w:fe):ul:=λouter H s E e s'=>∃(x:eQ) (cls:eR) (H':Hp) (oe:Obj) (vs:Array eR) (T:eQ) (oT:Obj) (ts:Array eR),e=.ref x/\s'.os=s.os/\AllBare s'.gens/\Un (uq outer) [] H H' s.heap s'.heap/\mj P w H' s'.heap/\
 s.heap.get? x=none/\H' x=none/\s'.heap.get? x=some oe/\(oe.cls=cls/\oe.dict=none)/\oe.data=.fields vs/\vs[1]?=some (.ref T)/\T≠x/\s.heap.get? T=none/\H' T=none/\s'.heap.get? T=some oT/\oT.data=.fields ts/\3<ts.size/\E cls none H'
section
variable {s':eU}{e:eR}{E:XK}
def nG.fl (I:fR X pins σ H s)(h:nG X.prog X.w X.stack H s E e s'):∃x cls H',e=.ref x/\Fl X pins σ H' x cls true s'/\E cls none H':=by obtain⟨x,cls,H',J,B,T,o,C,rfl,m,v,u,d,y,a,l,K,j,F,i,D,g,p,A,t,q⟩:=h;have G:fR X pins σ H' s':=I.LQ (ch:=[]) m u d v (λb z=>absurd z (by simp));exact⟨x,cls,H',rfl,⟨G,I.Mf y a,J,B,l,K,j,.inr ⟨T,o,C,F,i,I.Mf D g,p,A,t⟩⟩,q⟩
def qr {Wz:eW (eQ×Obj)->St->eR->Hp->Prop}{E:XK}(h:∀pins σ cls H,E cls none H->Wz pins σ cls H):kH (nG X.prog X.w) (X.LV (mS X Wz)) E:=λpins σ H s e s' I q=>by
 obtain⟨x,cls,H',rfl,F,w⟩:=nG.fl I.LW q;exact⟨pins,σ,H',x,cls,true,rfl,F,h _ _ _ _ w⟩
def lI.Mh {st:eW eX}{t:TS}{Wz:eR->eU->Prop}(h:lI (X.LV Wz) st t)(hw:∀e s,Wz e s->X.xe e s):lI X st t:=λpins s σ H D I q=>
 bO (h pins s σ H D (I.LV Wz) q) (λf s' z=>SP.LW z) hw
end
section
variable {w:fe}{mg:Str->fc eR}{base:fb}
abbrev GH (P:eV)(w:fe)(K:fh)(mg:Str->fc eR)(base:fb)(N:eW Str)(qual:Str)(scope:Scope)(f:eQ)(cd:eR)(A:eP)(outer:eW Env)(s:eU)(H:Hp)(E:XK):Cx:=
 lN (nG P w) P w K mg base N qual scope f cd A outer s H E
def uT {N:eW Str}{qual:Str}{f:eQ}{cd:eR}{outer:eW Env}{E:XK}{e:eR}{s':eU}(h:mS (GH P w K mg base N qual scope f cd A outer s H E) (λ_ _ cls H'=>E cls none H') e s'):(GH P w K mg base N qual scope f cd A outer s H E).xe e s':=by
 obtain⟨d,σ,H',x,cls,U,rfl,F,q⟩:=h;show wpAny (model P w) (A.deeper (envOfC qual scope s.heap.objs.size f cd)) (leaving (envOfC qual scope s.heap.objs.size f cd) (.ref x)) (λ_ a=>nG P w outer H s E (.ref x) a) (λD a=>nG P w outer H s E D a) s';unfold leaving;refine ac (t0 (X:=GH P w K mg base N qual scope f cd A outer s H E) rfl rfl F.inv.ok.frames F λY J=>lh J λS t=>?_);obtain⟨I,g,C,v,O,R,m,G⟩:=t;rcases G with ⟨z,_⟩|⟨T,o,Q,B,j,l,p,M,L⟩;cases z;have i:∀{b:eQ},jj (GH P w K mg base N qual scope f cd A outer s H E) d H' b->s.heap.get? b=none:=λ{b} z=>by rcases z.2.2.2.1 with y|y;exact absurd (show b∈([]:eW eQ) from y) (by simp);exact y
 exact⟨x,cls,H',C,v,T,o,Q,rfl,I.os,I.bare,I.base,I.hok,i g,g.1,O,R,m,B,j,i l,l.1,p,M,L,q⟩
theorem je.okX {qual:Str}{st:eX}{f:eQ}{fd:eZ}{N ps:eW Str}{k:Nat}{sp:Sp}(F:je K x qual st f fd)(S:fL N ps (fE st))(a:∀(cdv:eR) (A:eP) (outer:eW Env) (s:eU) (H:Hp) (vs:eW V) (Q:VK) (E:XK),iF k (A.deeper (envOfC qual (fE st) s.heap.objs.size f cdv))->sp vs H Q E->∃t,lI ((GH P w K mg base N qual (fE st) f cdv A outer s H E).LV (mS (GH P w K mg base N qual (fE st) f cdv A outer s H E) λ_ _ cls H'=>E cls none H')) (gZ st) t/\t {nx:=λ_ H'=>Q .non H',rt:=Q} (start N vs) H)(len:autoParam (∀vs H Q E,sp vs H Q E->vs.length=ps.length) je.ok._auto_1):gv P w K mg base (nG P w) (k+1) f fd ps sp:=by obtain⟨p,y,kV,j,o,v,cdv,B,l,rfl,g,d⟩:=F.ex;refine BE g d S len λA outer s H vs Q E i b=>?_;obtain⟨t,h,q⟩:=a cdv A outer s H vs Q E i b;exact⟨t,h.Mh λe m z=>uT z,q⟩
end
def FW {C:eQ}{bmB:eW eR}{newId:String}(X:K.In h)(q:W.excIn K C bmB newId=true):∃bm N nm qn bs hdct sn sub ab col dd k0 k1 k2 k3 k5 mN,h.get? C=some (excClassObj nm qn C N bs bm hdct sn sub ab col dd k0 k1 k2 k3 k5 newId)/\h.Ns N mN/\mN "__init__" = none/\OwnTail h bmB bm:=by
 unfold W.excIn at q;split at q
 next dd cd sl ho=>
  split at q
  next C' bm k0 k1 k2 k3 n k5 hm hs=>
   have z:=q;simp only[aQ,beq_iff_eq,bQ]at z;have j:=z.1.1.1.1.1;have i:=z.1.1.1.1.2;have d:=z.1.1.1.2;have g:=z.1.1.2;have b:=z.1.2;have e:=z.2;subst j i;cases cd;dsimp only at hm d b e;subst hm d;have a:sl=#[k0,k1,k2,k3,some (.builtin n),k5]:=by cases sl;simp only at hs;rw[hs]
   rw[a]at ho;exact⟨bm,_,_,_,_,_,_,_,_,_,dd,k0,k1,k2,k3,k5,_,X _ _ ho,.of_isNs (W.isNs_of_in X b),W.nsMap_none_of_in X b e,W.tail_of_in X g⟩
  next=>cases q
 next=>cases q
section
variable {np cpos:Pos}{a:eY}{t:TA}{C:eQ}{bmB:eW eR}{B newId initId:String}{Wz:eW (eQ×Obj)->St->eR->Hp->Prop}
def EE (Wz:eW (eQ×Obj)->St->eR->Hp->Prop)(C:eQ)(t:TA):TS:=λ_ σ H=>t σ H λvs H1=>vs.length<=sizeLine/\∀pins,Wz pins σ (.ref C) H1
def qj (Y:X.calm=true)(F:Gl (X.LV (mS X Wz)) x)(Q:X.mg x=some (.ref C))(q:W.excIn X.K C bmB newId=true)(p:ExcBaseFacts B newId initId bmB)(S:PA (X.LV (mS X Wz)) [a] t)(hd:autoParam ((x == ("__debug__":Str))=false) Ay._auto_1)(hs:autoParam (starEach [a] X.env=[(false,eval a X.env)]) gq._auto_1):PS (X.LV (mS X Wz)) (.Raise (some (.Call (.Name x np) [a] [] cpos)) none pos) (EE Wz C t):=by
 intro b s σ H D I h;obtain⟨bm,N,nm,E,bs,hdct,sn,sub,ab,col,dd,k0,k1,k2,k3,k5,mN,v,U,l,T⟩:=FW I.ok.mod.kin q;refine wpAny_Raise_call_subT (C:=C) (nm:=nm) (q:=E) (N:=N) (bs:=bs) (bm:=bm) (hdct:=hdct) (sn:=sn) (sub:=sub) (ab:=ab) (col:=col) (dd:=dd) (k0:=k0) (k1:=k1) (k2:=k2) (k3:=k3) (k5:=k5) p (mN:=mN) (T.hasType p.hasBase) (I.ok.hd Y) ?_ l
  (mr I F Q ⟨rfl,?_⟩ hd)
 show(backTo cpos (starEach [a] X.env)).any (·.1)=false;rw[hs];rfl;have M:=S cpos b s σ H _ I h;show wpAny _ _ (evalArgs (.ref C) true (backTo cpos (starEach [a] X.env)) []) _ _ s;have i:wpAny (model X.prog X.w) X.A (spliced (backTo cpos (starEach [a] X.env))) (AP (X.LV (mS X Wz)) b σ λm g=>m.length<=sizeLine/\∀b,Wz b σ (.ref C) g) (mS X Wz) s:=M;rw[hs]at i ⊢;refine Calls.evalArgs_plain (bO i (λus s2 z=>?_) λ_ _ y=>y);obtain⟨m,g,d,r,L,J⟩:=z;refine⟨rfl,by rw[<-r.length];exact L,d.bk _ _ v,U.keeps d.bk,T.keeps d.bk,λG e mk=>?_⟩;have O:fR X b σ g {s2 with heap:=G}:=d.LW.kept (t':=s2.toks) mk.keeps;have P:g e=none:=by cases z:g e with|none=>rfl|some o=>obtain⟨o',j⟩:=(d.hok e o z).some;have y:=mk.new;rw[j]at y;cases y
 obtain⟨Z,R,_,_⟩:=mk.there;exact⟨b,σ,g,e,.ref C,false,rfl,⟨O,d.LW.Mf mk.new P,_,_,R,⟨rfl,rfl⟩,rfl,.inl ⟨rfl,rfl⟩⟩,J b⟩
end
section
variable {pins':eW (eQ×Obj)}{A':eP}{c':Bool}{E':eR->eU->Prop}{pn':eW (eQ×Obj)}
def Cx.Ok.re (ok:X.Ok)(hh:c'=true->A'.handled=none)(hfr:A'.frames=some X.stack):({X with A:=A',calm:=c',xe:=E',pn:=pn'}:Cx).Ok:=
 ⟨ok.mod,ok.kind,ok.glob,ok.blt,ok.above,ok.inj,ok.has,ok.cab,hh,hfr,ok.stk,ok.exf,ok.bs,ok.bsz,ok.noex,ok.exfs,ok.funs,ok.frf⟩
def fR.re (I:fR X pins σ H s)(hh:c'=true->A'.handled=none)(hfr:A'.frames=some X.stack)(hp:∀p∈pn'++pins',p∈X.pn++pins):fR {X with A:=A',calm:=c',xe:=E',pn:=pn'} pins' σ H s:=
 ⟨I.ok.re hh hfr,I.os,I.bare,I.base,I.loc,I.cell,I.free,I.freeC,λp h=>I.pin p (hp p h),I.hok,I.len⟩
def fR.Mi (ok:X.Ok)(I:fR {X with A:=A',calm:=c',xe:=E',pn:=pn'} pins' σ H s)(hp:∀p∈X.pn++pins,p∈pn'++pins'):fR X pins σ H s:=
 ⟨ok,I.os,I.bare,I.base,I.loc,I.cell,I.free,I.freeC,λp h=>I.pin p (hp p h),I.hok,I.len⟩
def SP.Mi {D:lO}{f:Flow}(ok:X.Ok)(h:SP {X with A:=A',calm:=c',xe:=E',pn:=pn'} pins' D f s)(hp:∀p∈X.pn++pins,p∈pn'++pins'):SP X pins D f s:=by cases f with|next=>obtain⟨σ',a,I,q⟩:=h;exact⟨σ',a,fR.Mi ok I hp,q⟩|brk=>obtain⟨σ',a,I,q⟩:=h;exact⟨σ',a,fR.Mi ok I hp,q⟩|cont=>obtain⟨σ',a,I,q⟩:=h;exact⟨σ',a,fR.Mi ok I hp,q⟩|ret u=>obtain⟨v,σ',a,I,r,q⟩:=h;exact⟨v,σ',a,fR.Mi ok I hp,r,q⟩
def jj.Mi (h:jj {X with A:=A',calm:=c',xe:=E',pn:=pn'} pins' H b)(hp:∀p∈X.pn++pins,p∈pn'++pins'):jj X pins H b:=
 ⟨h.1,h.2.1,h.2.2.1,h.2.2.2.1,h.2.2.2.2.1,λp q=>h.2.2.2.2.2 p (hp p q)⟩
def Fl.Mi {x:eQ}{cls:eR}(ok:X.Ok)(F:Fl {X with A:=A',calm:=c',xe:=E',pn:=pn'} pins' σ H x cls tr s)(hp:∀p∈X.pn++pins,p∈pn'++pins'):Fl X pins σ H x cls tr s:=by obtain⟨I,f,o,i,m,d,g,l⟩:=F;refine⟨fR.Mi ok I hp,jj.Mi f hp,o,i,m,d,g,?_⟩;rcases l with z|⟨T,e,j,b,h,q,a⟩;exact .inl z;exact .inr ⟨T,e,j,b,h,jj.Mi q hp,a⟩
abbrev Cx.Mj (X:Cx)(Wz:St->eR->Hp->Prop)(pins:eW (eQ×Obj)):Cx:=
 {X with pn:=X.pn++pins,xe:=mS {X with pn:=X.pn++pins} λ_ σ cls H=>Wz σ cls H}
abbrev Cx.caught (X:Cx)(e:eQ):Cx:={X with A:=X.A.mark (some (.ref e)),calm:=false,xe:=λ_ _=>False}
end
section
variable {CX:ul}{k:Nat}{f:eQ}{fd:eZ}{ps:eW Str}{sp:Sp}{EX:St->XK}{es:eW eY}{t:TA}
def EQ (sp:Sp)(EX:St->XK)(t:TA):TE:=λσ H Q=>t σ H λvs H1=>sp vs H1 Q (EX σ)
def iW (F:gv X.prog X.w X.K X.mg X.base CX k f fd ps sp)(m:iF k X.A)(v:Gl X x)(y:X.mg x=some (.ref f))(z:W.keepIn X.K (.ref f)=true)(o:jf X.K fd ps [])(hx:∀pins σ H s e s',fR X pins σ H s->CX X.stack H s (EX σ) e s'->X.xe e s')(C:PA X (e::es) t)(hdb:autoParam ((x == ("__debug__":Str))=false) Ay._auto_1)(he:autoParam (starEach (e::es) X.env=(false,eval e X.env)::starEach es X.env) gq._auto_1)(hpl:autoParam ((backTo pos (starEach es X.env)).any (·.1)=false) gq._auto_1):PE X (.Call (.Name x p) (e::es) [] pos) (EQ sp EX t):=by
 intro pins s σ H Q I h;refine bA (mr I v y ?_ hdb);refine W.callWith_K (h₀:=X.base) I.ok.mod.kin z (hU (C pos pins s σ H _ I h) ?_) he hpl;rintro d g ⟨B,i,a,r,q⟩;refine⟨a.kIn,?_⟩;have l:(d++([]:eW eR)).length=ps.length:=by rw[bZ,<-r.length];exact F.len _ _ _ _ q
 have j:=o g d a.kIn l;rw[bZ]at j;refine wpAny_call (eB (F.run X.A X.stack g i ⟨d,[]⟩ d B Q (EX σ) m a.LZ j r q) λr s' b=>?_);cases r with|error e=>exact hx pins σ i g e s' a b|ok fl=>cases fl with|ret u=>exact a.after b|next=>exact False.elim b|brk=>exact False.elim b|cont=>exact False.elim b
def lJ {Wz:St->eR->Hp->Prop}{pins0:eW (eQ×Obj)}:∀pins σ H s e s',fR (X.Mj Wz pins0) pins σ H s->nG X.prog X.w X.stack H s (λcls _ H'=>Wz σ cls H') e s'->(X.Mj Wz pins0).xe e s':=λpins σ H s e s' I q=>by
 have I':fR ({X with pn:=X.pn++pins0}:Cx) pins σ H s:=⟨⟨I.ok.mod,I.ok.kind,I.ok.glob,I.ok.blt,I.ok.above,I.ok.inj,I.ok.has,I.ok.cab,I.ok.hd,I.ok.frames,I.ok.stk,I.ok.exf,I.ok.bs,I.ok.bsz,I.ok.noex,I.ok.exfs,I.ok.funs,I.ok.frf⟩,I.os,I.bare,I.base,I.loc,I.cell,I.free,I.freeC,I.pin,I.hok,I.len⟩;obtain⟨x,cls,H',rfl,F,w⟩:=nG.fl (X:=({X with pn:=X.pn++pins0}:Cx)) (E:=λcls _ H'=>Wz σ cls H') I' q;exact⟨pins,σ,H',x,cls,true,rfl,F,w⟩
end
noncomputable abbrev wC (X:Cx)(N':eW Str)(scope:Scope)(cl:eW (Str×eQ))(C:eQ)(s₂:eU)(H₂:Hp)(fp:eW eQ):Cx:=
 {X with N:=N',s₀:=s₂,H₀:=H₂,env:=compEnvC scope cl C X.env,outer:=X.stack,ex:=fp,fn:=λ_=>false,pn:=[],xe:=λ_ _=>False}
def GK (n:Nat)(g:TG):Prop:=∀v σ H Q,g v σ H Q->g v σ H λσ2 H2=>Q σ2 H2/\σ2.length=σ.length/\∀i,n<=i->σ2[i]?=σ[i]?
def Jq (n:Nat)(g:yd):Prop:=∀v σ H Q,g v σ H Q->g v σ H λσ2 H2=>Q σ2 H2/\σ2.length=σ.length/\∀i,n<=i->σ2[i]?=σ[i]?
theorem iz {n:Nat}(h:i<n):GK n (jl i):=λv σ H Q q=>by
 refine⟨q,by simp,λj hj=>?_⟩;rw[List.getElem?_set_ne (by lia)]
def DD {n:Nat}:Jq n FU:=(by rintro v σ H Q ⟨e,q⟩;exact⟨e,q,rfl,λ_ _=>rfl⟩)
def GM (g:TG):Prop:=∀v σ H (Q Q':St->Hp->Prop),(∀a b,Q a b->Q' a b)->g v σ H Q->g v σ H Q'
def Jp (g:yd):Prop:=∀v σ H (Q Q':St->Hp->Prop),(∀a b,Q a b->Q' a b)->g v σ H Q->g v σ H Q'
def tY:GM (jl i):=λ_ _ _ _ _ h q=>h _ _ q
def xF:Jp FU:=(by rintro _ _ _ _ _ h ⟨e,q⟩;exact⟨e,h _ _ q⟩)
def Bx {t:TG}{u:yd}(ht:GM t)(hu:Jp u):Jp (Bz t u):=(by rintro v σ H Q Q' h ⟨x,r,e,q⟩;exact⟨x,r,e,ht _ _ _ _ _ (λa b z=>hu _ _ _ _ _ h z) q⟩)
def uP {n:Nat}{t:TG}{u:yd}(ht:GK n t)(mt:GM t)(hu:Jq n u)(mu:Jp u):Jq n (Bz t u):=λv σ H Q ⟨x,r,e,q⟩=>by
 refine⟨x,r,e,mt _ _ _ _ _ (λa b z=>?_) (ht _ _ _ _ q)⟩;obtain⟨z1,z2,z3⟩:=z;refine mu _ _ _ _ _ (λc d y=>?_) (hu _ _ _ _ z1);exact⟨y.1,y.2.1.trans z2,λi hi=>(y.2.2 i hi).trans (z3 i hi)⟩
def FT {n m:Nat}{t:yd}(h:Jq n t):GK n (Iq K m t):=(by rintro v σ H Q ⟨a,xs,e,s,l,q⟩;exact⟨a,xs,e,s,l,h _ _ _ _ q⟩)
def Jl (X:Cx)(ifs:eW eY)(t:TT):Prop:=
 ∀(pins:eW (eQ×Obj)) (s:eU) (σ:St) (H:Hp) (Q:Bool->Hp->Prop),fR X pins σ H s->t σ H Q->
  wpAny (model X.prog X.w) X.A (forIn ifs true λc r=>if r=true then do let ok <-isTrue c X.env (eval c X.env);pure (ForInStep.yield ok) else pure (ForInStep.yield r)) (TP X pins σ Q) X.xe s
def pc:TT:=λ_ H Q=>Q true H
def jx:Jl X [] pc:=λpins s σ H Q I h=>wpAny_tests_nil ⟨H,I,h⟩
def lu {c:eY}{t:TT}(h:PT X c t):Jl X [c] t:=λpins s σ H Q I q=>wpAny_tests_one (h pins s σ H Q I q)
def o0 (J:It)(g:TG)(tt:TT)(te:TE)(σ':St)(H1:Hp)(Q:VK):Prop:=∀D,H1 D=none->∃Wz:Nat->Nat->eW V->Hp->Prop,(∃m,Wz 0 m [] (upd H1 D (.lst [])))/\∀i m ys H,Wz i m ys H->H D=some (.lst ys)/\ys.length<sizeLine/\
 ((J.stop i H/\Q (.ref D) H)\/(J.go i H/\∃N:eW V->Hp->Prop,(∀zs H',N zs H'->∃m',m'<m/\Wz (i+1) m' zs H')/\∀x H2,J.yld i H x H2->g x σ' H2 λσ2 H3=>tt σ2 H3 λb H4=>if b=true then te σ2 H4 λy H5=>H5 D=some (.lst ys)/\N (ys++[y]) (upd H5 D (.lst (ys++[y]))) else N ys H4))
theorem iK {xs:eW V}{σ':St}{H1:Hp}{Q:VK}(d:eQ->Nat->eW V->Hp->Prop)(l:∀D,H1 D=none->d D 0 [] (upd H1 D (.lst [])))(j:∀D i ys H,i<=xs.length->d D i ys H->gf K H a xs/\H D=some (.lst ys)/\ys.length<sizeLine)(o:∀D i x ys H,xs[i]?=some x->d D i ys H->g x σ' H λσ2 H3=>tt σ2 H3 λb H4=>if b=true then te σ2 H4 λy H5=>H5 D=some (.lst ys)/\d D (i+1) (ys++[y]) (upd H5 D (.lst (ys++[y]))) else d D (i+1) ys H4)(h:∀D ys H,d D xs.length ys H->Q (.ref D) H):o0 (Ey K a) g tt te σ' H1 Q:=by
 intro D s;refine⟨λi m ys H=>m=xs.length-i/\i<=xs.length/\d D i ys H,⟨xs.length,by simp,bp _,l D s⟩,?_⟩;rintro i m ys H ⟨rfl,q,p⟩;obtain⟨q1,q2,z⟩:=j D i ys H q p;refine⟨q2,z,?_⟩;by_cases hlt:i<xs.length;refine .inr ⟨⟨xs,xs[i],q1,by simp[hlt]⟩,d D (i+1),λA v t=>⟨xs.length-(i+1),by lia,rfl,hlt,t⟩,λx v y=>?_⟩;obtain⟨e,y⟩:=y;subst e;exact o D i x ys _ (y xs q1) p;have e:i=xs.length:=by lia
 subst e;exact .inl ⟨⟨xs,q1,am _⟩,h D ys H p⟩
theorem qQ {lo:Int}{n:Nat}{σ':St}{H1:Hp}{Q:VK}(a:eQ->Nat->eW V->Hp->Prop)(j:∀D,H1 D=none->a D 0 [] (upd H1 D (.lst [])))(h:∀D i ys H,i<=n->a D i ys H->H D=some (.lst ys)/\ys.length<sizeLine)(l:∀D i ys H,i<n->a D i ys H->g (.int (lo+i)) σ' H λσ2 H3=>tt σ2 H3 λb H4=>if b=true then te σ2 H4 λy H5=>H5 D=some (.lst ys)/\a D (i+1) (ys++[y]) (upd H5 D (.lst (ys++[y]))) else a D (i+1) ys H4)(d:∀D ys H,a D n ys H->Q (.ref D) H):o0 (Ex lo n) g tt te σ' H1 Q:=by
 intro D q;refine⟨λi m ys H=>m=n-i/\i<=n/\a D i ys H,⟨n,by simp,bp _,j D q⟩,?_⟩;rintro i m ys H ⟨rfl,o,p⟩;obtain⟨q2,v⟩:=h D i ys H o p;refine⟨q2,v,?_⟩;by_cases hlt:i<n;refine .inr ⟨hlt,a D (i+1),λz t s=>⟨n-(i+1),by lia,rfl,hlt,s⟩,λx t y=>?_⟩;obtain⟨e,y⟩:=y;subst e y;exact l D i ys _ hlt p;have e:i=n:=by lia
 subst e;exact .inl ⟨am _,d D ys H p⟩
structure iT (X:Cx)(N':eW Str)(scope:Scope)(cl:eW (Str×eQ))(n:Nat)(js:eW Nat):Prop where
 clos:closureFor scope X.env=pure cl
 cell:∀y∈scope.names,y.2≠.cell
 kind:scope.kind=.function
 names:∀y∈scope.names,y.2=.local->scope.names.lookup y.1=some .local
 sub:∀y c,cl.lookup y=some c->X.env.cells.lookup y=some c
 has:∀y,((relabel scope X.env).names.lookup y=some .cell\/(relabel scope X.env).names.lookup y=some .free)->∃c,cl.lookup y=some c
 len:N'.length=n+js.length
 frees:∀(k j:Nat),js[k]?=some j->∃y,N'[n+k]?=some y/\X.N[j]?=some y/\(X.env.kindOf y=some .cell\/X.env.kindOf y=some .free)/\
  ((relabel scope X.env).names.lookup y=some .cell\/(relabel scope X.env).names.lookup y=some .free)/\cl.lookup y=X.env.cells.lookup y
def rh {env:Env}(h:∀y∈scope.names,y.2≠.free):(relabel scope env).names=scope.names:=by
 show scope.names.map _=scope.names;refine map_eq_self λy b=>?_;obtain⟨a,k⟩:=y;have e:(k == NameKind.free)=false:=by simpa using h _ b
 simp[e]
def iT.closed {n:Nat}(hf:∀y∈scope.names,y.2≠.free:=by decide +kernel)(hc:∀y∈scope.names,y.2≠.cell:=by decide +kernel)(hk:autoParam (scope.kind=.function) gq._auto_1)(hn:∀y∈scope.names,y.2=.local->scope.names.lookup y.1=some .local:=by decide +kernel)(hl:autoParam (N'.length=n) gq._auto_1):iT X N' scope [] n [] where
 clos:=closureFor_none hf
 cell:=hc
 kind:=hk
 names:=hn
 sub:=λy c e=>by simp at e
 has:=λy h=>by
  rw[rh hf]at h;rcases h with h|h
  exact absurd rfl (hc _ (bC h));exact absurd rfl (hf _ (bC h))
 len:=by simpa using hl
 frees:=λk j e=>by simp at e
def iT.one {y:Str}{c:eQ}{n:Nat}(h1:autoParam (closureFor scope X.env=pure [(y,c)]) gq._auto_1)(h2:autoParam (X.env.cells.lookup y=some c) gq._auto_1)(hc:autoParam (∀z∈scope.names,z.2≠.cell) iT.closed._auto_1)(hk:autoParam (scope.kind=.function) gq._auto_1)(hn:autoParam (∀z∈scope.names,z.2=.local->scope.names.lookup z.1=some .local) iT.closed._auto_1)(ho:autoParam (∀z∈scope.names,z.2=.free->z.1=y) iT.closed._auto_1)(hN:autoParam (N'[n]?=some y) gq._auto_1)(hl:autoParam (N'.length=n+1) gq._auto_1)(hj:autoParam (X.N[j]?=some y) gq._auto_1)(hy:autoParam (X.env.kindOf y=some .cell) gq._auto_1)(hr:autoParam ((relabel scope X.env).names.lookup y=some .cell) gq._auto_1):iT X N' scope [(y,c)] n [j] where
 clos:=h1
 cell:=hc
 kind:=hk
 names:=hn
 sub:=λz d e=>by
  by_cases q:z=y;subst q;rw[bc,beq_self_eq_true]at e;rw[h2];exact e;have b:(z == y)=false:=beq_false_of_ne q;rw[bc,b]at e;simp at e
 has:=λz h=>by
  have l:∃k,(k=NameKind.cell\/k=NameKind.free)/\(z,k)∈(relabel scope X.env).names:=by
   rcases h with h|h
   exact⟨_,.inl rfl,bC h⟩;exact⟨_,.inr rfl,bC h⟩
  obtain⟨k,g,t⟩:=l;obtain⟨⟨a,o⟩,s,e⟩:=aA.mp (show(z,k)∈scope.names.map _ from t);have A:z=y:=by
   by_cases hfree:o=.free;have x:z=a:=by
    dsimp only at e
    split at e
    exact(Prod.mk.inj e).1.symm;exact(Prod.mk.inj e).1.symm
   rw[x];exact ho _ s hfree;have b:(o == NameKind.free)=false:=by simpa using hfree
   simp only[b,cg,cA,if_false]at e;have p:=(Prod.mk.inj e).2;rcases g with q|q
   exact absurd (p.trans q) (hc _ s);exact absurd (p.trans q) hfree
  subst A;exact⟨c,by rw[bc,beq_self_eq_true]⟩
 len:=by simpa using hl
 frees:=λk i e=>by
  have m:k=0:=by cases k with|zero=>rfl|succ k=>simp at e
  subst m;have v:j=i:=by simpa using e
  subst v;exact⟨y,hN,hj,.inl hy,.inl hr,by rw[h2,bc,beq_self_eq_true]⟩
noncomputable def frees (n:Nat)(js:eW Nat)(σ:St):St:=List.replicate n none++js.map λj=>σ.getD j none
section
variable {s₂:eU}{H₂:Hp}{elt iter target:eY}{ifs:eW eY}{cl:eW (Str×eQ)}{n:Nat}{js:eW Nat}
theorem wD {J:It}{fp:eW eQ}{it:eQ}{tn:Nat->fb->Prop}{RR:eR->eQ->Result->eU->Prop}{Q:VK}(hc:X.calm=true)(S:iT X N' scope cl n js)(gk:GK n g)(hg:∀C s₂ H₂ fp,PG (wC X N' scope cl C s₂ H₂ fp) target g)(ht:∀C s₂ H₂ fp,Jl (wC X N' scope cl C s₂ H₂ fp) ifs tt)(he:∀C s₂ H₂ fp,PE (wC X N' scope cl C s₂ H₂ fp) elt te)(I:fR X pins σ H₂ s₂)(T:rq X.prog X.w X.K target J fp it tn)(st:tn 0 s₂.heap)(B:∀b∈fp,jj X pins H₂ b)(R:o0 J g tt te (frees n js σ) H₂ Q)(bd:∀D C s' H',fR X pins σ H' s'->(∃m,s'.heap.Ns C m)->jj X pins H' C->Q (.ref D) H'->RR (.ref D) C (.ok .next) s'):wpAny (model X.prog X.w) X.A (newList []) (λacc s₃=>wpAny (model X.prog X.w) X.A (newFunctionEnv scope X.env.globals cl [] X.env.qual none .none (some X.env)) (λcenv s₄=>codeAny (model X.prog X.w) X.A (.compStart (.ListComp elt [⟨target,iter,ifs,0⟩] scope pos) 0 (.ref it) acc {cenv with scope:=relabel scope X.env}) (RR acc cenv.locals) s₄) E s₃) E s₂:=by
 refine dP (wpAny_newFunctionEnv S.cell (by intro y hy;simp at hy) (λU Z G=>?_) S.kind);dsimp only at Z G ⊢;generalize P:s₂.heap.push {cls:=.type "list",dict:=none,data:=.seq ([]:eW eR).toArray}=h3 at Z G ⊢;generalize hD:s₂.heap.objs.size=D at *;generalize bq:h3.objs.size=C at *;have eC:C=D+1:=by rw[<-bq,<-P,eL,hD]
 have an:D≠C:=by lia
 have Y:∀b o,s₂.heap.get? b=some o->b<D:=λb o e=>hD▸aS e;have old:∀b o,s₂.heap.get? b=some o->U.get? b=some o:=λb o e=>by have l:=Y b o e;refine G.extBut b o (aX (bg l (by lia))) (az _ ?_);rw[<-P];exact az _ e
 have ad:U.get? D=some {cls:=.type "list",data:=.seq ([]:eW eR).toArray 0}:=by refine G.extBut D _ an (az _ ?_);rw[<-P,<-hD];exact aO _ rfl
 have bx:s₂.heap.get? D=none:=hD▸bo (am _);have bf:s₂.heap.get? C=none:=bo (by lia);have ap:H₂ D=none:=I.hok.fresh (by lia);have bl:H₂ C=none:=I.hok.fresh (by lia);have L:∀b∈fp,b<D:=λb a=>by obtain⟨o,e,_⟩:=T.obj 0 _ st b a;exact Y b o e
 obtain⟨Wz,⟨m0,w0⟩,as⟩:=R D ap;have F:(wC X N' scope cl C s₂ H₂ fp).Ok:=by refine⟨I.ok.mod,S.kind,I.ok.glob,I.ok.blt,?_,?_,λy hy=>S.has y hy,(λy c hf _=>by cases hf),I.ok.hd,I.ok.frames,.inl rfl,?_,I.bs,bz I.ok.bsz I.sz,?_,?_,I.stack,I.LO⟩;show s₂.heap.objs.size<=C;lia;exact λy z c U h2=>I.ok.inj y z c (S.sub y c U) (S.sub z c h2);intro b a;refine⟨?_,λy c e=>(B b a).2.2.2.2.1 y c (S.sub y c e)⟩;exact aX (bg (L b a) (show D<=C by lia));intro b o e a;rcases (B b a).2.2.2.1 with z|z;exact I.ok.noex b o e z;rw[(I.ok.bs b o e).1]at z;cases z;intro b a hz;rcases ao.mp (I.LN b hz) with z|z;exact(B b a).2.1 z;exact(B b a).2.2.1 z
 have I4:fR (wC X N' scope cl C s₂ H₂ fp) [] (frees n js σ) (upd H₂ D (.lst [])) {s₂ with heap:=U,toks:=s₂.toks+([]:eW (Str×eR)).length}:=by
  refine⟨F,rfl,I.bare,?_,⟨_,Z,λi y v e1 t e3=>?_⟩,λy c e=>?_,?_,λy c e=>?_,λp hp=>absurd hp (by simp),?_,?_⟩;exact Un.laid (λb u e=>old b u e) (cE hD) ap;have b0:n<=i:=by refine Nat.le_of_not_lt λhi=>?_;unfold frees at t;rw[aT (by simpa using hi),dM]at t;split at t <;> cases t
  obtain⟨k,rfl⟩:∃k,i=n+k:=⟨i-n,by lia⟩;unfold frees at t;rw[bh (by simp),dZ,Nat.add_sub_cancel_left,ai]at t;cases ej:js[k]? with|none=>rw[ej]at t;cases t|some j=>
   rw[ej]at t;have h:σ.getD j none=some v:=Option.some.inj t;obtain⟨y',a1,a2,a3,a4,a5⟩:=S.frees k j ej;have ey:y'=y:=Option.some.inj (a1.symm.trans e1);subst ey;have e4:σ[j]?=some (some v):=by rw[bi]at h;cases q:σ[j]? with|none=>rw[q]at h;cases h|some z=>rw[q]at h;exact congrArg some h
   obtain⟨m,hm,hl⟩:=I.loc;have bm:DQ X.env.scope y':=by rcases a3 with z|z;exact .inr (.inl z);exact .inr (.inr z)
   obtain⟨u,ru,lk⟩:=hl j y' v a2 e4 bm;refine⟨u,ru,?_⟩;rcases lk with ⟨z,_⟩|⟨_,c,z1,o,z2,z3⟩;rcases a3 with y|y <;> (rw[z]at y;cases y)
   exact .inr ⟨a4,c,a5.trans z1,o,old c o z2,z3⟩
  obtain⟨v,o,z1,z2⟩:=I.cell y c (S.sub y c e);exact⟨v,o,old c o z1,z2⟩;show upd H₂ D _ C=none;rw[fw (Ne.symm an)];exact bl;obtain⟨v,o,z1,z2⟩:=I.cell y c (S.sub y c e);have l:=Y c o z1;rw[fw (aX l)];exact I.freeC y c (S.sub y c e);exact I.hok.laid old (cE hD) ⟨bp _,[],0,.nil,ad⟩;unfold frees;show _=N'.length;rw[S.len,aB,dZ,ae]
 have fY:∀{H':Hp},(∀b∈fp,H' b=none)->∀b∈fp,jj (wC X N' scope cl C s₂ H₂ fp) [] H' b:=λhn b a=>by refine⟨hn b a,(F.exf b a).1,F.exfs b a,.inl a,(F.exf b a).2,λp hp=>absurd hp (by simp)⟩
 have ab:tn 0 U:=T.keep _ _ _ st λb a o e=>old b o e;have bv:∀b∈fp,upd H₂ D (.lst []) b=none:=λb a=>by rw[fw (aX (L b a))];exact(B b a).1
 have M:∀s3:eU,s3={s₂ with heap:=U,toks:=s₂.toks+([]:eW (Str×eR)).length}->
   codeAny (model X.prog X.w) X.A (.compLoop (.ListComp elt [⟨target,iter,ifs,0⟩] scope pos) 0 (.ref it) (.ref D) (compEnvC scope cl C X.env)) (RR (.ref D) C) s3:=by
  rintro s3 rfl;refine codeAny_loop rfl (λk s'=>∃i ys H',fR (wC X N' scope cl C s₂ H₂ fp) [] (frees n js σ) H' s'/\tn i s'.heap/\(∀b∈fp,H' b=none)/\Wz i k ys H') (λk s5 hI=>?_) m0 ⟨0,[],_,I4,ab,bv,w0⟩;obtain⟨i,ys,H5,I5,aa,al,w5⟩:=hI;obtain⟨b1,a6,a9⟩:=as i k ys H5 w5;show wpAny _ X.A ((compTurn (.ListComp elt [⟨target,iter,ifs,0⟩] scope pos) 0 (.ref it) (.ref D) (compEnvC scope cl C X.env)).onRaise (λx=>do noteFrame x (compEnvC scope cl C X.env);theTreesLotGoes x)) _ _ s5;refine wpAny_noted ?_;rw[compTurn_list];refine ac (wpAny_standAt ?_);rcases a9 with ⟨stop,q⟩|⟨go,NN,a7,step⟩;refine ac (hU (T.done (wC X N' scope cl C s₂ H₂ fp) rfl rfl rfl hc i [] s5 _ H5 _ I5 (fY al) aa stop) λr s6 hr=>?_);obtain⟨rfl,I6⟩:=hr;refine av (bd D C s6 H5 ?_ ?_ ?_ q);exact I.LQ (ch:=fp) I6.os I6.base I6.hok I6.bare λb a=>⟨(B b a).2.2.2.1,(B b a).2.1,(B b a).2.2.2.2.1,(B b a).2.2.2.2.2⟩;obtain⟨m,hm,_⟩:=I6.loc;exact⟨m,hm⟩;exact I.Mf bf I6.free;refine ac (hU (T.item (wC X N' scope cl C s₂ H₂ fp) rfl rfl rfl hc i [] s5 _ H5 _ I5 (fY al) aa go) λr s6 hr=>?_);obtain⟨u,rfl,h6⟩:=hr;refine ac (hU h6 λ_ s7 h7=>?_);obtain⟨x,H7,I7,r7,y7,O,be⟩:=h7;have a0:=I7.pinned (fY be) (T.obj _ _ O);have ah:∀{σ8:St} {N:Hp} {s8:eU} {zs:eW V},fR (wC X N' scope cl C s₂ H₂ fp) ([]++qm fp s7.heap) σ8 N s8->(σ8.length=(frees n js σ).length/\∀i,n<=i->σ8[i]?=(frees n js σ)[i]?)->NN zs N->
    ∃m,m<k/\∃i ys H',fR (wC X N' scope cl C s₂ H₂ fp) [] (frees n js σ) H' s8/\tn i s8.heap/\(∀b∈fp,H' b=none)/\Wz i m ys H':=λ{σ8 N s8 zs} I8 ag n8=>by
   obtain⟨m',hm,w8⟩:=a7 zs N n8;refine⟨m',hm,i+1,zs,N,?_,T.keep _ _ _ O λb a o e=>(I8.pin (b,o) (aJ _ (aJ _ (lF a e)))).1,λb a=>?_,w8⟩;refine(I8.LY).weak ag.1.symm λj v e=>?_;by_cases hj:n<=j;rw[ag.2 j hj];exact e;unfold frees at e;rw[aT (by simpa using hj),dM]at e;split at e <;> cases e
   obtain⟨o,e,d⟩:=T.obj _ _ O b a;exact(I8.pin (b,o) (aJ _ (aJ _ (lF a e)))).2.1
  refine ac (bO (hg C s₂ H₂ fp _ s7 _ H7 x u _ a0 r7 (gk _ _ _ _ (step x H7 y7))) (λ_ s8 h8=>?_) λ_ _ z=>z.elim);obtain⟨σ8,N,I8,q8,ag⟩:=h8;refine ac (bO (ht C s₂ H₂ fp _ s8 σ8 N _ I8 q8) (λok s9 h9=>?_) λ_ _ z=>z.elim);obtain⟨H9,I9,q9⟩:=h9;cases ok with|false=>rw[ax (by decide)]at q9;exact av ⟨rfl,ah I9 ag q9⟩|true=>rw[ay rfl]at q9;refine ac (ac (bO (he C s₂ H₂ fp _ s9 σ8 H9 _ I9 q9) (λy sa ha=>?_) λ_ _ z=>z.elim));obtain⟨yv,Ha,Ia,ra,a8,wa⟩:=ha;refine ac (bO (iy (X:=wC X N' scope cl C s₂ H₂ fp) _ sa σ8 Ha (.ref D) [yv] (.ref D) [y] (λv H'=>v=.non/\H'=upd Ha D (.lst (ys++[yv]))) Ia rfl (.cons ra .nil) ⟨D,ys,yv,rfl,rfl,a8,a6,rfl,rfl⟩) (λv sb a=>?_) λ_ _ z=>z.elim);obtain⟨v',Hb,Ib,rb,_,rfl⟩:=a;exact av (av ⟨rfl,ah Ib ag wa⟩)
 exact codeAny_compStart_list (M _ rfl) (T.self X.A 0 _ _ _ ab (M _ rfl))
end
section
variable {elt iter target:eY}{ifs:eW eY}{cl:eW (Str×eQ)}{n:Nat}{js:eW Nat}{wi:TI}
def Hj (wi:TI)(g:TG)(tt:TT)(te:TE)(n:Nat)(js:eW Nat):TE:=λσ H Q=>wi σ H λJ H1=>o0 J g tt te (frees n js σ) H1 Q
def iG (O:X.calm=true)(S:iT X N' scope cl n js)(A:GK n g)(G:PI X target iter wi)(z:∀C s₂ H₂ fp,PG (wC X N' scope cl C s₂ H₂ fp) target g)(t:∀C s₂ H₂ fp,Jl (wC X N' scope cl C s₂ H₂ fp) ifs tt)(L:∀C s₂ H₂ fp,PE (wC X N' scope cl C s₂ H₂ fp) elt te)(hs:autoParam (∀x,foldedSetIterable iter X.env x=pure x) qi._auto_1):PE X (.ListComp elt [⟨target,iter,ifs,0⟩] scope pos) (Hj wi g tt te n js):=by intro a s σ H Q I h;rw[eval_ListComp];refine wpAny_comprehension_free (use:=none) rfl hs S.clos S.kind S.names (hU (G a s σ H _ I h) λv Y B=>hU B λj U p=>?_);obtain⟨it,fp,tn,J,Z,rfl,F,T,d,K,R⟩:=p;refine wD O S A z t L F T d K R λD C l M E i f q=>?_;obtain⟨m,i⟩:=i;refine⟨m,i,λP N=>⟨.ref D,M,?_,rfl,q⟩⟩;exact E.turned (t':=l.toks) (λb o y e=>(N.2 b y).trans e) f.1 f.2.1 f.2.2.2.1 f.2.2.2.2.1 f.2.2.2.2.2
end
def pT {vs:eW eR}{out:Array eR}{ns':eW Int}(I:fR X pins σ H s)(d:IntsAre out.toList ns')(a:ns'.length<=sizeLine):fR X pins σ (upd H (s.heap.objs.size+1) (.lst (ns'.map V.int))) {s with heap:=sortedAll s.heap vs out}:=by obtain⟨e,g⟩:=sortedAll_at s.heap vs out;refine I.laid (t':=s.toks) (λb u q=>sortedAll_old q) (dU _) ⟨by rw[ae];exact a,out.toList,e,nZ d,?_⟩;rw[g]
def u9:j6 X (.builtin "sorted") (λxs H Q=>∃(a:eQ) (ns:eW Int),xs=[.ref a]/\gf X.K H a (ns.map V.int)/\ns.length<64/\∀(p:eQ) (ns':eW Int),H p=none->ns'.Perm ns->ns'.Pairwise (·<=·)->Q (.ref p) (upd H p (.lst (ns'.map V.int)))):=by
 intro e s σ H xs y Q I r h;obtain⟨a,ns,rfl,o,d,q⟩:=h;obtain⟨u,rfl,j⟩:=jA r;cases (show u=Value.ref a from j);obtain⟨b,i,p,z⟩:=I.list o;have l:=qG i;have x:b.length=ns.length:=by rw[<-i.length,ae]
 refine sorted_ints p.isList l (by omega) λout ns' m g v=>?_;have t:=g.length_eq;refine⟨.ref (s.heap.objs.size+1),_,pT I m ?_,rfl,q _ ns' (I.hok.fresh (dU _)) g v⟩;rw[t];exact bz (bY d) (by decide)
def ED (K:fh)(te:TE):TE:=λσ H Q=>te σ H λx H1=>∃(a:eQ) (ns:eW Int),x=.ref a/\gf K H1 a (ns.map V.int)/\ns.length<64/\∀(p:eQ) (ns':eW Int),H1 p=none->ns'.Perm ns->ns'.Pairwise (· ≥ ·)->Q (.ref p) (upd H1 p (.lst (ns'.map V.int)))
def Az {kp cp:Pos}{k:Nat}(B:Gl X "sorted")(D:X.mg "sorted" = none)(G:PE X e te)(hs:autoParam (starEach [e] X.env=[(false,eval e X.env)]) gq._auto_1):PE X (.Call (.Name "sorted" p) [e] [⟨some "reverse",.Constant (.bool true) k cp,kp⟩] pos) (ED X.K te):=by
 intro g s σ H Q I h;refine bA (kC I B D boot_sorted ?_ (by decide) (by decide));refine callWith_kw ?_ (by rw[hs];rfl) (by rw[hs];rfl);have L:=(fi G fq hs) pos g s σ H (λl i=>match l with|[x]=>(∃(a:eQ) (ns:eW Int),x=.ref a/\gf X.K i a (ns.map V.int)/\ns.length<64/\∀(p:eQ) (d:eW Int),i p=none->d.Perm ns->d.Pairwise (· ≥ ·)->Q (.ref p) (upd i p (.lst (d.map V.int))))|_=>False) I h;refine hU L ?_;rintro N A ⟨l,i,j,r,v⟩
 match l,r,v with
 |[x],r,⟨a,ns,e2,hS,h64,q⟩=>
  subst e2;obtain⟨u,rfl,y⟩:=jA r;cases (show u=Value.ref a from y);refine kws_cons (Constant_bool (kws_nil ?_));obtain⟨m,t,z,O⟩:=j.list hS;have C:=qG t;have M:m.length=ns.length:=by rw[<-t.length,ae]
  refine sorted_ints_rev (b:=true) z.isList C (by omega) λout d E o J=>?_;have F:=o.length_eq;refine⟨.ref (A.heap.objs.size+1),_,pT j E ?_,rfl,q _ d (j.hok.fresh (dU _)) o J⟩;rw[F];exact bz (bY h64) (by decide)
def Du:typeLookup (.type "list_reverseiterator") "__len__" = pure none:=by rw[typeLookup_type,builtinLookup_eq_fast];kernel_rfl
def Bi:typeLookup (.type "list_reverseiterator") "__length_hint__" = pure (some (.builtin "list_reverseiterator.__length_hint__")):=by rw[typeLookup_type,builtinLookup_eq_fast];kernel_rfl
def Cw:isSubtype (.type "list_reverseiterator") (.type "list_reverseiterator")=pure true:=by rw[isSubtype_type];kernel_rfl
section
variable {prog:eV}{w:fe}{it l:eQ}{items:Array eR}
def Bv {Q:Bool->eU->Prop}(g:s.TypeIs (.ref it) "list_reverseiterator")(h:Q false s):wpAny (model prog w) A (Builtin.List.listLengthHint (.ref it)) Q E s:=by
 unfold Builtin.List.listLengthHint;refine ac (wpAny_specialOf g Du ?_)
 wp_delta
 refine dF (λa=>absurd a (by decide +kernel)) (λ_=>?_);refine dF (λa=>absurd a (by decide +kernel)) (λ_=>?_);refine ac (wpAny_specialOf g Bi ?_);generalize d:("list_reverseiterator.__length_hint__" : String)=idn
 wp_delta
 have e:splitId idn=some ("list_reverseiterator","__length_hint__"):=by subst d;decide +kernel
 rw[e];subst d;refine ac (wpAny_isInstance (T:="list_reverseiterator") (b:=true) g Cw ?_);refine dF (λz=>absurd z (by decide)) (λ_=>?_);refine dF (λ_=>?_) (λz=>absurd (by decide +kernel) z);refine dF (λz=>absurd z (by decide +kernel)) (λ_=>?_);exact av h
def Bk (X:A.handled=none)(i:s.heap.IsRevIter it l ((items.size:Int)-1))(K:s.heap.IsList l items)(t:l≠it)(hz:items.size<=sizeLine)(P:∀h' tk acc c,(∀b o,b≠it->s.heap.get? b=some o->h'.get? b=some o)->h'.get? s.heap.objs.size=some {cls:=.type "list",dict:=none,data:=.seq acc c,slots:=#[]}->acc.toList=items.toList.reverse->Q (.ref s.heap.objs.size) {s with heap:=h',toks:=tk}):wpAny (model prog w) A (call (.type "list") [.ref it]) Q E s:=by
 have I:it<s.heap.objs.size:=(by obtain⟨_,e,_⟩:=i;exact aS e);have C:l<s.heap.objs.size:=(by obtain⟨_,e,_⟩:=K;exact aS e);generalize g:s.heap.objs.size=S at *;have p:S≠it:=Nat.ne_of_gt I;have G:S≠l:=Nat.ne_of_gt C;refine callType_codes (Q₁:=λm L=>m=.ref S/\L={s with heap:=s.heap.push {cls:=.type "list",data:=.seq #[]}}) PySem.F.called_list (PySem.F.typeCall_list_1 _) PySem.F.entry_list_init (code_list_new _ ⟨by rw[g],rfl⟩) λm L e1=>?_;obtain⟨rfl,rfl⟩:=e1;have q:(s.heap.push {cls:=.type "list",data:=.seq #[]}).get? S=some {cls:=.type "list",data:=.seq #[]}:=by rw[<-g];exact aO _ rfl
 refine⟨⟨_,q,rfl⟩,PySem.F.args_list_init_2 _ _,?_⟩;show wpAny _ _ (do let was <-Builtin.List.listItems (.ref S);Builtin.List.listUpdate (.ref S) (λ_=>#[]);letGo was.toList.reverse;Builtin.List.listExtendWith (.ref S) (.ref it) .none) _ _ _;refine ac ?_;unfold Builtin.List.listItems;refine ac (eK q rfl (av ?_));show wpAny _ _ (updateSeq S (λ_=>#[]) >>= λ_=>letGo (#[]:Array eR).toList.reverse >>= λ_=>Builtin.List.listExtendWith (.ref S) (.ref it) .none) _ _ _;refine ac (wpAny_updateSeq q rfl ?_);have v:=cf (Obj.mapSeq (λ_=>(#[]:Array eR))) q rfl;have up:∀b o,s.heap.get? b=some o->((s.heap.push {cls:=.type "list",data:=.seq #[]}).update S (Obj.mapSeq (λ_=>(#[]:Array eR)))).get? b=some o:=λb o e=>by
  have x:b≠S:=by have:=aS e;rw[g]at this;exact aX this
  rw[cM _ _ (Ne.symm x)];exact az _ e
 refine ac (wpAny_letGo ?_);generalize U:(s.heap.push {cls:=.type "list",data:=.seq #[]}).update S (Obj.mapSeq (λ_=>(#[]:Array eR)))=h2 at *;have a:h2.IsRevIter it l ((items.size:Int)-1):=i.at λo e=>up it o e;have y:h2.IsList l items:=K.at λo e=>up l o e;have h:∃H,h2.get? S=some {cls:=.type "list",data:=.seq #[] H}:=⟨_,v⟩;obtain⟨H,h⟩:=h;unfold Builtin.List.listExtendWith;refine ac (wpAny_typeOf (T:="list_reverseiterator") (Heap.IsRevIter.typeIs (s:={s with heap:=h2}) a) ?_);have R:Builtin.List.listSameRef (.ref S) (.ref it)=false:=by simp[Builtin.List.listSameRef,p]
 have N:(Value.type "list_reverseiterator" == Value.type "list")=false:=by decide
 have Z:(Value.type "list_reverseiterator" == Value.type "tuple")=false:=by decide
 simp only[R,N,Z,Bool.or_false,cA,if_false];refine ac (wpAny_pyIter_revIter (s:={s with heap:=h2}) a ?_);refine ac (bw (Bv (s:={s with heap:=h2}) (Heap.IsRevIter.typeIs (s:={s with heap:=h2}) a) ?_));refine dF (λz=>absurd z (by decide +kernel)) (λ_=>?_);have B:S∉[it,l]:=by simp only[ao,aU,or_false,not_or];exact⟨p,G⟩
 refine av ⟨dJ PySem.F.plain_extend_loop _,?_⟩;have Wz:=Walks.listRev (prog:=prog) (w:=w) (A:=A.in1.in1) X it l t items;refine codeAny_extend_loopS Wz.toS hz S B .none items.size 0 _ #[] H rfl (bp _) ⟨bp _,by simpa using a,y⟩ h (ItemsOf.nil _) λJ acc O mv D d=>?_;rw[Moved.eq_with mv];refine⟨rfl,P J.heap J.toks acc O (λb o x e=>mv.heap b o (λY=>?_) (up b o e)) D ?_⟩;rcases ao.mp Y with z|z;have:=aS e;rw[g,z]at this;exact cU _ this;exact x (af.mp z);refine List.ext_getElem? λj=>?_;by_cases hj:j<items.size;have M:acc[j]?=some (acc[j]'(by rw[d.1];exact hj)):=cm _;have hp:=d.2 j _ M;rw[List.getElem?_reverse (by simpa using hj),bL,bL,M,bu];exact hp.symm;rw[d0 (by rw[bu,d.1];omega),d0 (by rw[cb,bu];omega)]
end
def fR.adopt {p:eQ}{o:HO}(I:fR X pins σ H s)(f:jj X pins H p)(new:ib X.prog X.w (upd H p o) s.heap p o):fR X pins σ (upd H p o) s:=by
 have d:∀b u,H b=some u->b≠p:=λb u e=>fC e f.1;refine I.step (h':=s.heap) (g':=s.gens) (d':=s.drawn) (t':=s.toks) (ch:=[p]) (λb a=>?_) (λb o _ _ _ e _=>e) (λb o _ _ _ e _=>⟨o.slots,e⟩) (λb o a _ n=>?_) (λb o _ e=>⟨o,e⟩) (λb g e=>?_) (λb u v e=>?_) (λb i e=>⟨#[],?_⟩) (λm h=>h) (λb u e=>?_) I.bare;have e:b=p:=by simpa using a
 subst e;exact⟨f.2.2.2.1,f.2.1,f.2.2.2.2.1,f.2.2.2.2.2⟩;rw[fw (λz=>a (by simp[z]))];exact n;rw[fw (d b _ e)];exact e;rw[fw (d b _ e)];exact e;rw[fw (d b _ e),e];simp;by_cases a:b=p;subst a;rw[fj]at e;cases e;exact new;rw[fw a]at e;exact(I.hok b u e).LK (λc v _ q=>q) (λc q=>by rw[fw (d c _ q)];exact q) λc g q=>by rw[fw (d c _ q)];exact q
def GV (K:fh)(te:TE):TE:=λσ H Q=>te σ H λx H1=>∃(a:eQ) (xs:eW V),x=.ref a/\gf K H1 a xs/\∀p:eQ,H1 p=none->Q (.ref p) (upd H1 p (.lst xs.reverse))
def xl {p2 pos2:Pos}(hc:X.calm=true)(Z:Gl X "list")(hm:X.mg "list" = none)(F:Gl X "reversed")(E:X.mg "reversed" = none)(he:PE X e te)(hs:autoParam (starEach [e] X.env=[(false,eval e X.env)]) gq._auto_1)(hs2:autoParam (starEach [.Call (.Name "reversed" p2) [e] [] pos2] X.env=[(false,eval (.Call (.Name "reversed" p2) [e] [] pos2) X.env)]) gq._auto_1):PE X (.Call (.Name "list" p) [.Call (.Name "reversed" p2) [e] [] pos2] [] pos) (GV X.K te):=by
 intro g s σ H Q I h;refine bA (kC I Z hm eN ?_ (by decide) (by decide));refine PyProof.Rows.callWith_type1 ?_ hs2 rfl;rw[hs2];refine Calls.spliced_cons ?_;refine bA (kC I F E PyProof.Rows.Boot.«reversed» ?_ (by decide) (by decide));refine PyProof.Rows.callWith_type1 ?_ hs rfl;have hA:=(fi he fq hs) pos2 g s σ H (λD i=>match D with|[x]=>(∃(a:eQ) (xs:eW V),x=.ref a/\gf X.K i a xs/\∀p:eQ,i p=none->Q (.ref p) (upd i p (.lst xs.reverse)))|_=>False) I h;refine hU hA ?_;rintro us s1 ⟨D,i,y,r,S⟩
 match D,r,S with
 |[x],r,⟨a,xs,e2,hS,q⟩=>
  subst e2;obtain⟨u,rfl,T⟩:=jA r;cases (show u=Value.ref a from T);obtain⟨d,O,G,P⟩:=y.list hS;refine call_reversed_list G.isList (Calls.spliced_nil ?_);generalize j:s1.heap.objs.size=it;have v:s1.heap.get? it=none:=j▸bo (am _);have t:i it=none:=y.hok.fresh (cE j);have J:(s1.heap.push (revObj a ((d.toArray.size:Int)-1))).get? it=some (revObj a ((d.toArray.size:Int)-1)):=by rw[<-j];exact aO _ rfl
  have A:fR X g σ i {s1 with heap:=s1.heap.push (revObj a ((d.toArray.size:Int)-1))}:=y.kept (t':=s1.toks) λb o q=>az _ q;have C:(s1.heap.push (revObj a ((d.toArray.size:Int)-1))).IsList a d.toArray:=G.isList.push _;have B:a≠it:=by obtain⟨o,R,_⟩:=G.isList;exact λz=>by rw[z,v]at R;cases R
  have lz:d.length=xs.length:=O.length.symm;refine Bk (s:={s1 with heap:=s1.heap.push (revObj a ((d.toArray.size:Int)-1))}) (A.ok.hd hc) ⟨_,J,rfl,rfl⟩ C B (by rw[aP,lz];exact P) λM N aa c k L ea=>?_;have f:=y.Mf v t;generalize l:(s1.heap.push (revObj a ((d.toArray.size:Int)-1))).objs.size=pn at L ⊢;have ab:pn=it+1:=by rw[<-l,eL,j]
  have m:i pn=none:=A.hok.fresh (cE l);refine⟨.ref pn,upd i pn (.lst xs.reverse),?_,rfl,q _ m⟩;have I3:fR X g σ i {s1 with heap:=M,toks:=N}:=A.turned (t':=N) (λb o Y e=>k b o Y e) t f.2.1 f.2.2.2.1 f.2.2.2.2.1 f.2.2.2.2.2;have U:jj X g i pn:=A.Mf (l▸bo (am _)) m;refine I3.adopt U ⟨by rw[cb];exact P,d.reverse,c,?_,?_⟩;exact O.reverse;show M.get? pn=_;rw[L,<-ea]
inductive Kv (a:Str)(b:Str)(Q:VK)(x:V)(H1:Hp):Prop
 |mk (z:Str)(_:x=.str z)(_:(reprText z).length<=1000)(_:Q (.str (Str.empty++a++reprText z++b)) H1)
def K8 (a b:Str)(te:TE):TE:=λσ H Q=>te σ H λx H1=>Kv a b Q x H1
theorem Ej {a b:Str}{k k':Nat}{pa pb pf:Pos}(y:PE X e te)(B:a.length<=1000)(C:b.length<=1000):PE X (.JoinedStr [.Constant (.str a) k pa,.FormattedValue e 114 none pf,.Constant (.str b) k' pb] pos) (K8 a b te):=by
 intro g s σ H Q I h;refine wpAny_JoinedStr ?_;have d:∀n:Nat,n<=3000->n<=sizeLine:=λn p=>bz p (by decide);have i:(Str.empty:Str).length=0:=by decide +kernel
 refine Calls.Constant_str ?_;refine⟨a,_,rfl,d _ (by rw[ca,i];lia),?_⟩;refine wpAny_FormattedValue_repr (hU (y g _ σ H _ (I.tok _) h) ?_);rintro u A ⟨x,j,o,l,z,v,E,q⟩;subst v;obtain⟨t,rfl⟩:=(show ∃t,u=Value.str z t from l);refine pyReprObj_str (hx:=d _ (by lia)) ?_;refine formatField_str (hsz:=d _ (by lia)) λm D=>?_;refine⟨_,m,rfl,d _ (by rw[ca,ca,i];lia),?_⟩;refine Calls.Constant_str ⟨b,_,rfl,d _ (by rw[ca,ca,ca,i];lia),?_⟩;exact⟨d _ (by rw[ca,ca,ca,i];lia),.str _,j,((o.tok _).tok _).tok _,⟨_,rfl⟩,q⟩
section
variable {w:fe}
def pi (P:eV)(w:fe)(h:fb):hJ->eR->Prop
 |none,u=>u=.none
 |some ks,u=>∃b,u=.ref b/\(tupleKind (gm P w)).is h ks b
def pi.inj {u:eR}:∀{x y:hJ},pi P w h x u->pi P w h y u->x=y
 |none,none,_,_=>rfl
 |none,some _,hx,⟨b,e,_⟩=>by rw[show u=Value.none from hx]at e;cases e
 |some _,none,⟨b,e,_⟩,hy=>by rw[show u=Value.none from hy]at e;cases e
 |some x,some y,⟨b,e,hb⟩,⟨c,f,hc⟩=>by rw[e]at f;cases f;rw[(tupleKind (gm P w)).inj hb hc]
def pi.keep {h':fb}{k:hJ}{u:eR}{ep:Nat}(x:pi P w h k u)(i:h.get? d=some o)(a:o.data=.dict es ep)(j:Heap.SameBut d h h'):pi P w h' k u:=by cases k with|none=>exact x|some ks=>obtain⟨b,e,g⟩:=x;exact⟨b,e,(tupleKind (gm P w)).keeps g i a j⟩
def pG {k:hJ}{u:eR}(ok:mj P w H h)(x:wW H k u):pi P w h k u:=by cases k with|none=>exact x|some ks=>obtain⟨b,e,a⟩:=x;exact⟨b,e,nu ok a⟩
def we {k:hJ}{u:eR}{Q:Int->eU->Prop}(a:A.units<cLine)(d:pi P w s.heap k u)(h:∀tk,Q (mQ P w k) {s with toks:=tk}):wpAny (model P w) A (pyHash u) Q E s:=by cases k with|none=>rw[show u=Value.none from d];exact W.pyHash_laid .none .none A s Q rfl .none a h|some ks=>obtain⟨b,rfl,e⟩:=d;exact(tupleKind (gm P w)).pyHash a e (h _)
def xw {ks:eW io}(x:(tupleKind (gm P w)).is h ks b):∃its,h.IsTuple b its:=by obtain⟨o,its,n,d,a,e,_⟩:=(show IsTupleKey (gm P w) h ks b from x);exact⟨its,o,d,a,n,e⟩
def n_eq {x y:hJ}{u:eR}{Q:Bool->eU->Prop}(d:A.units<cLine)(hx:pi P w s.heap x u)(a:pi P w s.heap y v)(h:Q (decide (x=y)) s):wpAny (model P w) A (eqBool u v) Q E s:=by
 cases x with
 |none=>rw[show u=Value.none from hx];cases y with|none=>rw[show v=Value.none from a];exact SeqAt.eqBoolOverData P w A E s .none .none .none .none _ _ Q .none .none rfl rfl d h|some ys=>obtain⟨b,rfl,e⟩:=a;obtain⟨g,i⟩:=xw e;exact SeqAt.EqAt.none_tuple i d P w E Q h
 |some xs=>obtain⟨b,rfl,e⟩:=hx;cases y with|none=>rw[show v=Value.none from a];obtain⟨g,i⟩:=xw e;exact SeqAt.EqAt.tuple_none i d P w E Q h|some ys=>obtain⟨c,rfl,j⟩:=a;refine(tupleKind (gm P w)).eqBool d e j ?_;by_cases q:xs=ys;subst q;simpa using h;rw[aw q];rw[aw (λz=>q (Option.some.inj z))]at h;exact h
def xz {k:hJ}{u:eR}{Q:Bool->eU->Prop}(a:pi P w s.heap k u)(h:Q true s):wpAny (model P w) A (eqIsQuiet 8 u) Q E s:=by cases k with|none=>rw[show u=Value.none from a];exact av h|some ks=>obtain⟨b,rfl,d⟩:=a;exact(tupleKind (gm P w)).quiet d h
def xx {k:hJ}{u:eR}{us:eW eR}{Q:Bool->eU->Prop}(e:pi P w s.heap k u)(d:∀v∈us,∃j,pi P w s.heap j v)(h:Q false s):wpAny (model P w) A (tableMayTell u us) Q E s:=by unfold tableMayTell;split;exact av h;refine ac (xz e ?_);rw[ax (by decide)];refine ac (dz _ (λa r b=>b=s/\r=(none,())/\∀v∈a,∃j,pi P w s.heap j v) _ ?_ ?_ _ _ ⟨rfl,rfl,d⟩);rintro v a r b ⟨rfl,rfl,all⟩;obtain⟨j,g⟩:=all v (by simp);refine ac (xz g ?_);rw[ax (by decide)];exact av ⟨rfl,rfl,λz i=>all z (by simp[i])⟩;rintro r b ⟨rfl,rfl,_⟩;exact av h
structure qX (P:eV)(w:fe)(h:fb)(es:Array DictEntry)(ks:eW hJ):Prop where
 nd:ks.Nodup
 sz:es.size=ks.length
 at_:∀(i:Nat) (k:hJ),ks[i]?=some k->∃e,es[i]?=some e/\e.hash=mQ P w k/\pi P w h k e.key
def qX.back (x:qX P w h es ks){e:DictEntry}(q:es[i]?=some e):∃k,ks[i]?=some k/\e.hash=mQ P w k/\pi P w h k e.key:=by
 have b:i<ks.length:=by rw[<-x.sz];exact(dk.mp q).1
 obtain⟨j,a,g,d⟩:=x.at_ i ks[i] (ar b);rw[q]at a;cases a;exact⟨_,ar b,g,d⟩
def qX.one (x:qX P w h es ks){k:hJ}(hi:ks[i]?=some k)(hj:ks[j]?=some k):i=j:=
 (cG (aj.mp hi).1 x.nd).mp (hi.trans hj.symm)
variable {ep:Nat}{k:hJ}{u:eR}{Q:fc Nat->eU->Prop}
def Ds (D:A.units<cLine)(G:pi P w s.heap k u)(p:s.heap.get? d=some o)(m:o.data=.dict es ep)(X:qX P w s.heap es ks)(l:eW Nat)(B:∀i∈l,∃e,es[i]?=some e/\(e.hash == mQ P w k)=true)(F:(∀j∈l,ks[j]?≠some k)->Q none s)(H:∀j∈l,ks[j]?=some k->Q (some j) s):wpAny (model P w) A (dictWalkPlain d u (mQ P w k) es l) Q E s:=by unfold dictWalkPlain;refine ac (dz _ (λa b g=>g=s/\b=(none,())/\(∀i∈a,i∈l)/\((∀j∈a,ks[j]?≠some k)->Q none s)) _ ?_ ?_ _ _ ⟨rfl,rfl,λ_ z=>z,F⟩);rintro i a b g ⟨rfl,rfl,sub,no⟩;obtain⟨e,t,C⟩:=B i (sub i (by simp));obtain⟨j,v,_,x⟩:=X.back t;simp only[t];rw[ay C];refine ac (bR p m (ac (n_eq D x G (ac (bR p m ?_)))));rw[ax (by simp)];by_cases q:j=k;rw[aq q,ay rfl];exact ac (cr (av (av (H i (sub i (by simp)) (q▸v)))));rw[aw q,ax (by decide)];refine ac (cr (av ⟨rfl,rfl,λz h=>sub z (by simp[h]),λall=>no λz h=>?_⟩));rcases ao.mp h with y|y;subst y;rw[v];exact λy=>q (Option.some.inj y);exact all z y;rintro b g ⟨rfl,rfl,_,no⟩;exact av (no λ_ z=>nomatch z)
def wf (U:A.units<cLine)(K:pi P w s.heap k u)(L:s.heap.get? d=some o)(J:o.data=.dict es ep)(X:qX P w s.heap es ks)(h0:k∉ks->Q none s)(N:∀j,ks[j]?=some k->Q (some j) s):wpAny (model P w) A (dictFind d u (mQ P w k)) Q E s:=by
 generalize H:placesWithHash es.size (λi=>es[i]?.map (·.hash)) (mQ P w k)=pl;have F:∀i,i∈pl->∃e,es[i]?=some e/\(e.hash == mQ P w k)=true:=λi M=>by rw[<-H,placesWithHash,aY]at M;cases m:es[i]? with|none=>rw[m]at M;simp at M|some e=>rw[m]at M;exact⟨e,rfl,by simpa using M.2⟩
 have Y:∀j,ks[j]?=some k->j∈pl:=λj h=>by obtain⟨e,m,I,_⟩:=X.at_ j k h;rw[<-H,placesWithHash,aY,List.mem_range];exact⟨(dk.mp m).1,by rw[m];simp[I]⟩
 have O:pl.Nodup:=by rw[<-H,placesWithHash];exact List.Pairwise.filter _ List.nodup_range
 have G:(∀j∈pl,ks[j]?≠some k)->Q none s:=λall=>h0 λhm=>by obtain⟨j,h⟩:=aD.mp hm;exact all j (Y j h) h
 have T:∀v∈pl.filterMap (λi=>es[i]?.map (·.key)),∃j,pi P w s.heap j v:=λv R=>by obtain⟨i,M,R⟩:=List.mem_filterMap.mp R;obtain⟨e,m,_⟩:=F i M;rw[m]at R;obtain⟨j,_,_,h⟩:=X.back m;cases R;exact⟨j,h⟩
 have aa:u=.none\/∃b,u=.ref b:=by cases k with|none=>exact .inl K|some x=>obtain⟨b,e,_⟩:=K;exact .inr ⟨b,e⟩
 unfold dictFind;try with_reducible refine bw ?_
 refine ac (dh L J ?_);rcases aa with rfl|⟨b,rfl⟩;dsimp only;rw[H];by_cases R:((Value.none::pl.filterMap λi=>es[i]?.map (·.key)).all carriedByValue)=true;rw[ay R];exact Ds U K L J X pl F G λj _ h=>N j h;rw[ax R];by_cases hone:((pl.filterMap λi=>es[i]?.map (·.key)) == [Value.none])=true;rw[ay hone];refine ac (av ?_);rw[ax (by simp)];refine ac (dz _ (λa b C=>C=s/\(∀i∈a,i∈pl)/\a.Nodup/\((b=(none,none)/\((∀j∈a,ks[j]?≠some k)->Q none s))\/∃j,b=(none,some j)/\ks[j]?=some k/\j∉a)) _ ?_ ?_ _ _ ⟨rfl,λ_ z=>z,O,.inl ⟨rfl,G⟩⟩);rintro i a r C ⟨rfl,sub,t,B⟩;obtain⟨e,m,I⟩:=F i (sub i (by simp));obtain⟨j,h,_,S⟩:=X.back m;rw[bb]at t;simp only[m];rw[ay I];refine ac (bR L J (ac (n_eq U S K (ac (bR L J ?_)))));rw[ax (by simp)];by_cases q:j=k;rw[aq q,ay rfl];subst q;rcases B with ⟨rfl,no⟩|⟨p,rfl,g,D⟩;rw[ax (by simp)];refine ac (cr ?_);split;exact av (av (N i h));exact av ⟨rfl,λz l=>sub z (by simp[l]),t.2,.inr ⟨i,rfl,h,t.1⟩⟩;exact absurd (X.one h g) (λz=>D (by simp[z]));rw[aw q,ax (by decide)];refine ac (cr ?_);rw[ax (by simp)];refine av ⟨rfl,λz l=>sub z (by simp[l]),t.2,?_⟩;rcases B with ⟨rfl,no⟩|⟨p,rfl,g,D⟩;refine .inl ⟨rfl,λall=>no λz l=>?_⟩;rcases ao.mp l with y|y;subst y;rw[h];exact λy=>q (Option.some.inj y);exact all z y;exact .inr ⟨p,rfl,g,λz=>D (by simp[z])⟩;rintro r C ⟨rfl,_,_,B⟩;rcases B with ⟨rfl,no⟩|⟨p,rfl,g,_⟩;exact av (no λ_ z=>nomatch z);exact av (N p g);rw[ax hone];refine ac (xx K T ?_);rw[ax (by simp)];refine ac (dz _ (λa b C=>C=s/\(∀i∈a,i∈pl)/\a.Nodup/\((b=(none,none)/\((∀j∈a,ks[j]?≠some k)->Q none s))\/∃j,b=(none,some j)/\ks[j]?=some k/\j∉a)) _ ?_ ?_ _ _ ⟨rfl,λ_ z=>z,O,.inl ⟨rfl,G⟩⟩);rintro i a r C ⟨rfl,sub,t,B⟩;obtain⟨e,m,I⟩:=F i (sub i (by simp));obtain⟨j,h,_,S⟩:=X.back m;rw[bb]at t;simp only[m];rw[ay I];refine ac (bR L J (ac (n_eq U S K (ac (bR L J ?_)))));rw[ax (by simp)];by_cases q:j=k;rw[aq q,ay rfl];subst q;rcases B with ⟨rfl,no⟩|⟨p,rfl,g,D⟩;rw[ax (by simp)];refine ac (cr ?_);split;exact av (av (N i h));exact av ⟨rfl,λz l=>sub z (by simp[l]),t.2,.inr ⟨i,rfl,h,t.1⟩⟩;exact absurd (X.one h g) (λz=>D (by simp[z]));rw[aw q,ax (by decide)];refine ac (cr ?_);rw[ax (by simp)];refine av ⟨rfl,λz l=>sub z (by simp[l]),t.2,?_⟩;rcases B with ⟨rfl,no⟩|⟨p,rfl,g,D⟩;refine .inl ⟨rfl,λall=>no λz l=>?_⟩;rcases ao.mp l with y|y;subst y;rw[h];exact λy=>q (Option.some.inj y);exact all z y;exact .inr ⟨p,rfl,g,λz=>D (by simp[z])⟩;rintro r C ⟨rfl,_,_,B⟩;rcases B with ⟨rfl,no⟩|⟨p,rfl,g,_⟩;exact av (no λ_ z=>nomatch z);exact av (N p g);have R:¬((Value.ref b::pl.filterMap λi=>es[i]?.map (·.key)).all carriedByValue)=true:=by simp[carriedByValue]
 have Z:¬(es.any λe=>e.key == Value.ref b&&e.hash != mQ P w k)=true:=by rw[<-Array.any_toList,ee];rintro⟨e,hm,hc⟩;obtain⟨i,M⟩:=aD.mp hm;rw[bL]at M;obtain⟨j,_,I,h⟩:=X.back M;rw[aQ,beq_iff_eq,bne_iff_ne]at hc;rw[hc.1]at h;exact hc.2 (by rw[I,h.inj K])
 dsimp only;rw[H,ax R,ax Z];by_cases hone:((pl.filterMap λi=>es[i]?.map (·.key)) == [Value.ref b])=true;rw[ay hone];refine ac (av ?_);rw[ax (by simp)];refine ac (dz _ (λa b C=>C=s/\(∀i∈a,i∈pl)/\a.Nodup/\((b=(none,none)/\((∀j∈a,ks[j]?≠some k)->Q none s))\/∃j,b=(none,some j)/\ks[j]?=some k/\j∉a)) _ ?_ ?_ _ _ ⟨rfl,λ_ z=>z,O,.inl ⟨rfl,G⟩⟩);rintro i a r C ⟨rfl,sub,t,B⟩;obtain⟨e,m,I⟩:=F i (sub i (by simp));obtain⟨j,h,_,S⟩:=X.back m;rw[bb]at t;simp only[m];rw[ay I];refine ac (bR L J (ac (n_eq U S K (ac (bR L J ?_)))));rw[ax (by simp)];by_cases q:j=k;rw[aq q,ay rfl];subst q;rcases B with ⟨rfl,no⟩|⟨p,rfl,g,D⟩;rw[ax (by simp)];refine ac (cr ?_);split;exact av (av (N i h));exact av ⟨rfl,λz l=>sub z (by simp[l]),t.2,.inr ⟨i,rfl,h,t.1⟩⟩;exact absurd (X.one h g) (λz=>D (by simp[z]));rw[aw q,ax (by decide)];refine ac (cr ?_);rw[ax (by simp)];refine av ⟨rfl,λz l=>sub z (by simp[l]),t.2,?_⟩;rcases B with ⟨rfl,no⟩|⟨p,rfl,g,D⟩;refine .inl ⟨rfl,λall=>no λz l=>?_⟩;rcases ao.mp l with y|y;subst y;rw[h];exact λy=>q (Option.some.inj y);exact all z y;exact .inr ⟨p,rfl,g,λz=>D (by simp[z])⟩;rintro r C ⟨rfl,_,_,B⟩;rcases B with ⟨rfl,no⟩|⟨p,rfl,g,_⟩;exact av (no λ_ z=>nomatch z);exact av (N p g);rw[ax hone];refine ac (xx K T ?_);rw[ax (by simp)];refine ac (dz _ (λa b C=>C=s/\(∀i∈a,i∈pl)/\a.Nodup/\((b=(none,none)/\((∀j∈a,ks[j]?≠some k)->Q none s))\/∃j,b=(none,some j)/\ks[j]?=some k/\j∉a)) _ ?_ ?_ _ _ ⟨rfl,λ_ z=>z,O,.inl ⟨rfl,G⟩⟩);rintro i a r C ⟨rfl,sub,t,B⟩;obtain⟨e,m,I⟩:=F i (sub i (by simp));obtain⟨j,h,_,S⟩:=X.back m;rw[bb]at t;simp only[m];rw[ay I];refine ac (bR L J (ac (n_eq U S K (ac (bR L J ?_)))));rw[ax (by simp)];by_cases q:j=k;rw[aq q,ay rfl];subst q;rcases B with ⟨rfl,no⟩|⟨p,rfl,g,D⟩;rw[ax (by simp)];refine ac (cr ?_);split;exact av (av (N i h));exact av ⟨rfl,λz l=>sub z (by simp[l]),t.2,.inr ⟨i,rfl,h,t.1⟩⟩;exact absurd (X.one h g) (λz=>D (by simp[z]));rw[aw q,ax (by decide)];refine ac (cr ?_);rw[ax (by simp)];refine av ⟨rfl,λz l=>sub z (by simp[l]),t.2,?_⟩;rcases B with ⟨rfl,no⟩|⟨p,rfl,g,D⟩;refine .inl ⟨rfl,λall=>no λz l=>?_⟩;rcases ao.mp l with y|y;subst y;rw[h];exact λy=>q (Option.some.inj y);exact all z y;exact .inr ⟨p,rfl,g,λz=>D (by simp[z])⟩;rintro r C ⟨rfl,_,_,B⟩;rcases B with ⟨rfl,no⟩|⟨p,rfl,g,_⟩;exact av (no λ_ z=>nomatch z);exact av (N p g)
end
noncomputable def mF (xs:eW (hJ×eR×eR))(k:hJ):fc eR:=(xs.find? λx=>decide (x.1=k)).map (·.2.2)
noncomputable def rg (k:hJ)(v:eR)(x:hJ×eR×eR):hJ×eR×eR:=if x.1=k then (x.1,x.2.1,v) else x
def ri (xs:eW (hJ×eR×eR))(k:hJ)(u v:eR):eW (hJ×eR×eR):=if (mF xs k).isSome=true then xs.map (rg k v) else xs++[(k,u,v)]
def oZ (P:eV)(w:fe)(h:fb)(d:eQ)(xs:eW (hJ×eR×eR)):Prop:=
 ∃o es ep,h.get? d=some o/\o.ExactDict/\o.data=.dict es ep/\es.toList=xs.map (uW P w)/\(∀x∈xs,pi P w h x.1 x.2.1)/\(xs.map (·.1)).Nodup
def mx {k:hJ}(h:k∉xs.map (·.1)):mF xs k=none:=by unfold mF;rw[eG.mpr λx a b=>h (aA.mpr ⟨x,a,ba b⟩)];rfl
theorem pI {k:hJ}{p:eR×eR}:∀{xs:eW (hJ×eR×eR)} {j:Nat},(xs.map (·.1)).Nodup->xs[j]?=some (k,p)->mF xs k=some p.2
 |[],j,_,h=>by simp at h
 |x::xs,0,_,h=>by
  have e:x=(k,p):=by simpa using h
  subst e;simp[mF]
 |x::xs,j+1,hn,h=>by
  rw[aH,bb]at hn;have a:xs[j]?=some (k,p):=by simpa using h
  have b:¬x.1=k:=λe=>hn.1 (e▸aA.mpr ⟨(k,p),ak a,rfl⟩);have:=pI hn.2 a;simpa [mF,bB,b] using this
def Ao (k:hJ)(v:eR)(x:hJ×eR×eR):(rg k v x).1=x.1:=by unfold rg;split <;> rfl
section
variable {w:fe}{k:hJ}{u:eR}
def oZ.typeIs (D:oZ P w s.heap d xs):s.TypeIs (.ref d) "dict":=(by obtain⟨o,_,_,ho,hc,_⟩:=D;exact⟨o,ho,hc.1⟩)
def t6 (b:es.toList=xs.map (uW P w))(e:∀x∈xs,pi P w h x.1 x.2.1)(g:(xs.map (·.1)).Nodup):qX P w h es (xs.map (·.1)):=by refine⟨g,by rw[<-bu,b,ae,ae],λi k a=>?_⟩;rw[ai]at a;obtain⟨x,d,rfl⟩:=aF.mp a;exact⟨uW P w x,by rw[<-bL,b,ai,d];rfl,rfl,e x (ak d)⟩
def FD {Q:fc eR->eU->Prop}(i:A.units<cLine)(p:pi P w s.heap k u)(D:oZ P w s.heap d xs)(h:∀tk,Q (mF xs k) {s with toks:=tk}):wpAny (model P w) A (dictGet d u) Q E s:=by
 obtain⟨o,z,C,g,_,b,q,v,m⟩:=D;unfold dictGet;try with_reducible refine bw ?_
 refine ac (we i p λtk=>ac (wf (s:={s with toks:=tk}) i p g b (t6 q v m) (λa=>?_) (λj t=>?_)));rw[mx a]at h;exact av (h tk);rw[ai]at t;obtain⟨x,l,e⟩:=aF.mp t;obtain⟨y,B⟩:=x;obtain rfl:k=y:=e.symm;rw[pI m l]at h;refine ac (dh (s:={s with toks:=tk}) g b (av ?_));rw[<-bL,q,ai,l];exact h tk
theorem FC {Q:Unit->eU->Prop}(I:A.units<cLine)(F:pi P w s.heap k u)(D:oZ P w s.heap d xs)(hz:xs.length<=sizeLine)(h:∀h' tk,oZ P w h' d (ri xs k u v)->Heap.SameBut d s.heap h'->Q () {s with heap:=h',toks:=tk}):wpAny (model P w) A (dictSet d u v) Q E s:=by
 obtain⟨o,S,J,p,M,g,C,G,B⟩:=D;have O:S.size=xs.length:=by rw[<-bu,C,ae]
 unfold dictSet;try with_reducible refine bw ?_
 refine ac (we I F λtk=>?_);unfold dictSetHashed;try with_reducible refine bw ?_
 refine ac (wf (s:={s with toks:=tk}) I F p g (t6 C G B) (λt=>?_) (λj K=>?_));have hp:ri xs k u v=xs++[(k,u,v)]:=by unfold ri;rw[mx t,ax (by decide)]
 refine ac (cr (wpAny_updateDictKeys (hz:=by lia) (s:={s with toks:=tk}) p g (h _ tk ?_ (Heap.SameBut.update ..))));refine⟨_,_,J+1,cf _ p (Obj.isFreed_of_dict (Obj.data_mapDictKeys g _)),M.mapDictKeys _,Obj.data_mapDictKeys g _,?_,λx i=>?_,?_⟩;rw[hp];simp[C,uW];rw[hp]at i;rcases aE.mp i with z|z;exact(G x z).keep p g (Heap.SameBut.update ..);rw[af.mp z];exact F.keep p g (Heap.SameBut.update ..);rw[hp,aC,bU];refine⟨B,by simp,λa L b H z=>t ?_⟩;rw[aH,df,af]at H;rw[z,H]at L;exact L;rw[ai]at K;obtain⟨x,i,e⟩:=aF.mp K;obtain⟨U,T⟩:=x;obtain rfl:k=U:=e.symm;have hp:ri xs k u v=xs.map (rg k v):=by unfold ri;rw[pI B i,ay (show(some T.2).isSome=true from rfl)]
 refine ac (cr (ac (wpAny_updateDict (s:={s with toks:=tk}) p g (wpAny_point (h _ tk ?_ (Heap.SameBut.update ..))))));refine⟨_,_,J,cf _ p (Obj.isFreed_of_dict (Obj.data_mapDict g _)),M.mapDict _,Obj.data_mapDict g _,?_,λx i=>?_,?_⟩;rw[hp,Array.toList_modify,C,cR];refine List.ext_getElem? λm=>?_;rw[List.getElem?_modify,ai,ai];cases hm:xs[m]? with|none=>rfl|some y=>by_cases hjm:j=m;subst hjm;rw[i]at hm;cases hm;simp[uW,rg];have N:¬y.1=k:=λz=>hjm ((cG (by rw[ae];exact(aj.mp i).1) B).mp (by rw[ai,ai,i,hm];exact congrArg some z.symm));simp[rg,N,hjm]
 rw[hp]at i;obtain⟨y,R,rfl⟩:=aA.mp i;have q:=(G y R).keep p g (Heap.SameBut.update s.heap d (Obj.mapDict (λl=>l.modify j λe=>{e with val:=v})));unfold rg;split;exact q;exact q;rw[hp,cR,show((λx:hJ×eR×eR=>x.1) ∘ rg k v)=(·.1) from funext λx=>Ao k v x];exact B
def DA (a:s.TypeIs (.ref d) "dict")(h:wpAny (model P w) A.in1 (dictGet d u) (λr s'=>∃v,r=some v/\Q v s') E s):wpAny (model P w) A (getItem (.ref d) u) Q E s:=by
 unfold getItem;try with_reducible refine bw ?_
 refine ac (wpAny_sequenceKey a (by decide) (ac (dG (name:=Str.ofString "__getitem__") a slot_dict_getitem (cB slot_dict_getitem a entry_dict_getitem ?_ (args_dict_getitem _ _)))));show wpAny _ _ (dictGet d u >>= _) _ _ s;refine ac (bO h (?_) λ_ _ z=>z);rintro r s' ⟨v,e,q⟩;subst e;exact av ⟨v,rfl,av q⟩
def Il {Q:Bool->eU->Prop}(a:s.TypeIs (.ref d) "dict")(b:(d == sysModules)=false)(h:wpAny (model P w) A.in1 (dictGet d u) (λr s'=>Q r.isSome s') E s):wpAny (model P w) A (contains (.ref d) u) Q E s:=by
 unfold contains;try with_reducible refine bw ?_
 refine ac (wpAny_specialOf a slot_dict_contains.lookup ?_);show wpAny _ _ (if (some (Value.builtin "dict.__contains__") == some Value.none)=true then _ else _) _ _ s;rw[ax (by rw[beq_builtin_none];exact aV)];refine ac (wpAny_callSpecialUnlessNone?_slot (name:=Str.ofString "__contains__") a slot_dict_contains (cB slot_dict_contains a entry_dict_contains ?_ (args_dict_contains _ _)));show wpAny _ _ (dictGet d u >>= _) _ _ s;refine ac (bO h (λr s' q=>?_) λ_ _ z=>z);cases r with|some v=>exact av ⟨_,rfl,cc q⟩|none=>exact ac (wpAny_pendingKey_other b (av ⟨_,rfl,cc q⟩))
def zQ {Q:Unit->eU->Prop}(a:s.TypeIs (.ref d) "dict")(h:wpAny (model P w) A.in1 (dictSet d u v) Q E s):wpAny (model P w) A (setItem (.ref d) u v) Q E s:=by
 unfold setItem;try with_reducible refine bw ?_
 refine ac (wpAny_sequenceKey a (by decide) (ac (dG (name:=Str.ofString "__setitem__") a slot_dict_setitem (cB slot_dict_setitem a entry_dict_setitem ?_ (args_dict_setitem _ _ _)))));refine ac (cZ a ?_);show wpAny _ _ (dictSet d u v >>= _) _ _ s;exact ac (bO h (λ_ b q=>av ⟨.none,rfl,av q⟩) λ_ _ z=>z)
end
def Cg.val (r:Cg H kvs xs)(k:hJ):ki (fW kvs k) (mF xs k):=by
 induction r with|nil=>exact True.intro|@cons p q ps qs h t ih=>
  obtain⟨a,_,g⟩:=h;by_cases e:p.1=k;have b:mF (q::qs) k=some q.2.2:=by simp[mF,bB,a.symm.trans e]
  rw[ir e,b];exact g;have d:¬q.1=k:=λz=>e (a.trans z);have b:mF (q::qs) k=mF qs k:=by simp[mF,bB,d]
  rw[il e,b];exact ih
def Cg.rep (r:Cg H kvs xs)(k:hJ)(g:gl y v):Cg H (kvs.map λkv=>if kv.1=k then (kv.1,y) else kv) (xs.map (rg k v)):=by induction r with|nil=>exact .nil|@cons p q ps qs h t ih=>obtain⟨a,b,d⟩:=h;rw[aH,aH];refine .cons ?_ ih;unfold rg;by_cases e:p.1=k;rw[ay e,ay (a.symm.trans e)];exact⟨a,b,g⟩;rw[ax e,ax (λz=>e (a.trans z))];exact⟨a,b,d⟩
def Cg.put (r:Cg H kvs xs)(k:hJ){u:eR}(b:wW H k u)(a:gl y v):Cg H (gz kvs k y) (ri xs k u v):=by unfold gz ri;rw[jr,(r.val k).Mc];by_cases q:(mF xs k).isSome=true;rw[ay q,ay q];exact r.rep k a;rw[ax q,ax q];exact Paired.snoc r ⟨rfl,b,a⟩
def wW.keeps {k:hJ}{u:eR}(x:wW H k u)(a:∀b ys,H b=some (.tup ys)->H' b=some (.tup ys)):wW H' k u:=by cases k with|none=>exact x|some ks=>obtain⟨b,e,d⟩:=x;exact⟨b,e,a _ _ d⟩
def mJ (H:Hp):hJ->V->Prop
 |none,y=>y=.non
 |some ks,y=>∃b,y=.ref b/\H b=some (.tup (ks.map kV))
def mJ.rel {k:hJ}{u:eR}(x:mJ H k y)(r:gl y u):wW H k u:=by cases k with|none=>rw[show y=V.non from x]at r;exact r|some ks=>obtain⟨b,rfl,a⟩:=x;exact⟨b,r,a⟩
section
variable {w:fe}
def uY (ok:mj P w H h)(e:Rd H a (.dN kvs)):kvs.length<=sizeLine/\(a == sysModules)=false/\∃xs,Cg H kvs xs/\oZ P w h a xs:=by
 obtain⟨z,y,xs,r,o,d,i,s,b,g,j,v⟩:=(show ib P w H h a (.dN kvs) from Ap ok e);have all:∀{l:eW (hJ×V)} {m:eW (hJ×eR×eR)},Cg H l m->∀x∈m,pi P w h x.1 x.2.1:=by intro l m q;induction q with|nil=>intro x hx;exact nomatch hx|@cons p q ps qs hq t ih=>intro x hx;rcases ao.mp hx with e|hx;subst e;rw[<-hq.1];exact pG ok hq.2.1;exact ih x hx
 exact⟨z,y,xs,r,o,d,i,s,b,g,j,all r,v⟩
end
def iO (H:Hp)(a:eQ)(y:V)(r:fc V):Prop:=∃kvs k,Rd H a (.dN kvs)/\mJ H k y/\r=fW kvs k
def ml (H:Hp)(a:eQ)(y v:V)(H':Hp):Prop:=∃kvs k,H a=some (.dN kvs)/\mJ H k y/\kvs.length<sizeLine/\H'=upd H a (.dN (gz kvs k v))
def iO.of {k:hJ}(e:H a=some (.dN kvs))(hk:mJ H k y):iO H a y (fW kvs k):=⟨kvs,k,.inl e,hk,rfl⟩
def ml.of {k:hJ}{v:V}(e:H a=some (.dN kvs))(hk:mJ H k y)(hl:kvs.length<sizeLine):ml H a y v (upd H a (.dN (gz kvs k v))):=⟨kvs,k,e,hk,hl,rfl⟩
section
variable {v:V}{u r:eR}{o:fc V}
def wA {Q:fc eR->eU->Prop}(j:A.units<cLine)(I:fR X pins σ H s)(g:iO H a y o)(l:gl y u)(h:∀o' s',fR X pins σ H s'->ki o o'->Q o' s'):wpAny (model X.prog X.w) A (dictGet a u) Q E s:=by obtain⟨b,k,e,d,rfl⟩:=g;obtain⟨z,p,q,rel,m⟩:=uY I.hok e;exact FD j (pG I.hok (d.rel l)) m λi=>h _ _ (I.tok i) (rel.val k)
def pJ (I:fR X pins σ H s)(g:iO H a y o):s.TypeIs (.ref a) "dict"/\(a == sysModules)=false:=by obtain⟨d,k,e,i,rfl⟩:=g;obtain⟨z,b,j,rel,h⟩:=uY I.hok e;exact⟨h.typeIs,b⟩
def qM (j:A.units+1<cLine)(I:fR X pins σ H s)(g:iO H a y (some v))(l:gl y u)(h:∀w' s',fR X pins σ H s'->gl v w'->Q w' s'):wpAny (model X.prog X.w) A (getItem (.ref a) u) Q E s:=by refine DA (pJ I g).1 (wA j I g l λm s' i d=>?_);obtain⟨w',e,b⟩:=ki.some_of d;exact⟨w',e,h w' s' i b⟩
def Ep {Q:Bool->eU->Prop}(i:A.units+1<cLine)(I:fR X pins σ H s)(g:iO H a y o)(j:gl y u)(h:∀s',fR X pins σ H s'->Q o.isSome s'):wpAny (model X.prog X.w) A (contains (.ref a) u) Q E s:=by obtain⟨t,b⟩:=pJ I g;refine Il t b (wA i I g j λl s' e d=>?_);rw[<-d.Mc];exact h s' e
theorem qL {Q:Unit->eU->Prop}(F:A.units+1<cLine)(I:fR X pins σ H s)(g:ml H a y v H')(l:gl y u)(N:gl v r)(h:∀s',fR X pins σ H' s'->Q () s'):wpAny (model X.prog X.w) A (setItem (.ref a) u r) Q E s:=by
 obtain⟨b,k,e,o,P,rfl⟩:=g;obtain⟨z,x,C,rel,m⟩:=uY I.hok (.inl e);have O:C.length<=sizeLine:=by rw[<-Paired.length rel];exact z
 have hp:(gz b k v).length<=sizeLine:=by have:=hZ b k v;lia
 refine zQ m.typeIs (FC F (pG I.hok (o.rel l)) m O λR S i J=>h _ ?_);obtain⟨t,D,K,p,B,G,L,_,M⟩:=i;have keep:∀c d,H c=some (.tup d)->upd H a (.dN (gz b k v)) c=some (.tup d):=λc d j=>by rw[fw (gF j e (λz=>nomatch z))];exact j
 exact kO I (by rw[e];exact True.intro) J ⟨t,p⟩ ⟨hp,x,_,Paired.LJ (rel.put k (o.rel l) N) λ_ _ q=>⟨q.1,q.2.1.keeps keep,q.2.2⟩,t,D,K,p,B,G,L,M⟩
end
inductive DX (Q:VK)(x:V)(y:V)(H2:Hp):Prop
 |mk (a v:_)(_:x=.ref a)(_:iO H2 a y (some v))(_:Q v H2)
def EM (td ty:TE):TE:=λσ H Q=>td σ H λx H1=>ty σ H1 λy H2=>DX Q x y H2
inductive Gr (neg:Bool)(Q:VK)(y:V)(x:V)(H2:Hp):Prop
 |mk (a o:_)(_:x=.ref a)(_:iO H2 a y o)(_:Q (.bl (if neg then !o.isSome else o.isSome)) H2)
def Ec (neg:Bool)(ty td:TE):TE:=λσ H Q=>ty σ H λy H1=>td σ H1 λx H2=>Gr neg Q y x H2
inductive D4 (D:lO)(σ:St)(v:V)(x:V)(y:V)(H3:Hp):Prop
 |mk (a H4:_)(_:x=.ref a)(_:ml H3 a y v H4)(_:D.nx σ H4)
def E5 (td ty tv:TE):TS:=λD σ H=>tv σ H λv H1=>td σ H1 λx H2=>ty σ H2 λy H3=>D4 D σ v x y H3
section
variable {o i value:eY}{pos' tpos:Pos}{td ty tv:TE}
def gj (p:X.A.units+1<cLine)(l:PE X o td)(C:PE X i ty)(hs:autoParam (Gi i) fZ._auto_1):PE X (.Subscript o i pos) (EM td ty):=by intro b s σ H Q I h;refine xc PySem.F.slot_dict_getitem.lookup hs (hU (l b s σ H _ I h) ?_);rintro u q ⟨x,m,z,t,q1⟩;refine hU (C b q σ m _ z q1) ?_;rintro L J ⟨y,D,e,B,a,v,j,g,q2⟩;subst j;obtain rfl:u=Value.ref a:=t;exact⟨(pJ e g).1,qM p e g B λG K E d=>⟨v,D,E,d,q2⟩⟩
def C9 (z:X.A.units+1<cLine)(v:PE X i ty)(e:PE X o td):PC X .In i o (Ec false ty td):=by intro b s σ H Q I h;refine hU (v b s σ H _ I h) ?_;rintro G l ⟨y,j,q,t,q1⟩;refine hU (e b l σ j _ q q1) ?_;rintro u E ⟨x,B,D,m,a,p,d,g,q2⟩;subst d;obtain rfl:u=Value.ref a:=m;exact ac (Ep z D g t λF C=>av ⟨.bl p.isSome,B,C,rfl,q2⟩)
def vQ (z:X.A.units+1<cLine)(v:PE X i ty)(e:PE X o td):PC X .NotIn i o (Ec true ty td):=by intro b s σ H Q I h;refine hU (v b s σ H _ I h) ?_;rintro G l ⟨y,j,q,t,q1⟩;refine hU (e b l σ j _ q q1) ?_;rintro u E ⟨x,B,D,m,a,p,d,g,q2⟩;subst d;obtain rfl:u=Value.ref a:=m;exact ac (Ep z D g t λF C=>av ⟨.bl (!p.isSome),B,C,rfl,q2⟩)
def lX (F:X.A.units+1<cLine)(B:PE X o td)(L:PE X i ty)(N:PE X value tv)(J:swapsWith value (some (.Subscript o i pos')) pos.line X.env=pure false):PS X (.Assign [.Subscript o i pos'] value pos) (E5 td ty tv):=by intro b s σ H D I h;refine wpAny_Assign_Subscript (hU (N b s σ H _ I h) ?_) J;rintro r E ⟨v,C,j,z,q1⟩;refine hU (B b E σ C _ j q1) ?_;rintro u p ⟨x,M,t,G,q2⟩;refine hU (L b p σ M _ t q2) ?_;rintro R Q ⟨y,P,l,K,a,m,d,g,q⟩;subst d;obtain rfl:u=Value.ref a:=G;exact qL F l g K z λO e=>⟨σ,m,e,q⟩
end
def EK:TE:=λ_ H Q=>∀p,H p=none->Q (.ref p) (upd H p (.dN []))
def BH {w:fe}(h:fb)(hb:sysModules<h.objs.size):ib P w H (h.push {cls:=.type "dict",data:=.dict #[]}) h.objs.size (.dN []):=
 ⟨bp _,beq_eq_false_iff_ne.mpr (Ne.symm (aX hb)),[],.nil,_,#[],0,aO _ rfl,⟨rfl,rfl,rfl⟩,rfl,rfl,bF⟩
def nL:PE X (.Dict [] [] pos) EK:=λpins s σ H Q I h=>
 wpAny_Dict_empty ⟨.ref s.heap.objs.size,_,I.laid (a:=s.heap.objs.size) (o:=.dN []) (t':=s.toks) (λ_ _ q=>az _ q) (am _) (BH s.heap I.big),rfl,h _ (I.hok.fresh (am _))⟩
noncomputable def tM (P:eV)(w:fe):PySem.KeyKind P w Unit where
 is:=λ_ v=>match v with|.none=>true|_=>false
 hash:=λ_=>W.hashW w.params .none
 inj:=λ_ _ _ _ _=>rfl
 byValue:=λ_ v h=>by cases v <;> first|rfl|(simp at h)
 pyHash:=λ{A E s k v Q} hv h=>by
  cases v <;> first|(simp at hv;done)|skip
  exact W.pyHash_slot (T:="NoneType") rfl PySem.F.slot_NoneType_hash PySem.F.entry_NoneType_hash (PySem.F.args_NoneType_hash_1 _) (beq_builtin_none _) (.inl rfl) (ac (av (ac (wpAny_mkInt (av ⟨_,_,rfl,h⟩)))))
 eqBool:=λ{A E s a b u v Q} hu hv h=>by
  cases u <;> first|(simp at hu;done)|skip
  cases v <;> first|(simp at hv;done)|skip
  unfold eqBool
  try with_reducible refine bw ?_
  show wpAny _ _ (if (Value.none == Value.none)=true then _ else _) Q E s;rw[ay (show(Value.none == Value.none)=true by simp)];exact ac (cr (av (by simpa using h)))
 «strs»:=λk x t v h=>by simp at h
def EH (tv:TE):TE:=λσ H Q=>∀p,H p=none->tv σ (upd H p (.dK [])) λv H2=>H2 p=some (.dK [])/\Q (.ref p) (upd H2 p (.dN [(none,v)]))
def HM (F:V->Hp->Prop):eW (V×V)->Hp->Prop
 |[(.non,y)],H=>F y H
 |_,_=>False
def AR {F:V->Hp->Prop}{ps:eW (V×V)}(h:HM F ps H):∃y,ps=[(V.non,y)]/\F y H:=by cases ps with|nil=>exact h.elim|cons p t=>obtain⟨x,y⟩:=p;cases t with|cons _ _=>cases x <;> exact h.elim|nil=>cases x with|non=>exact⟨y,rfl,h⟩|_=>exact h.elim
def uD {kpos:Pos}{v:eY}{tv:TE}(Y:PE X v tv):PE X (.Dict [some (.Constant .none j kpos)] [v] pos) (EH tv):=by
 intro h s σ H Q I q;have hn:=I.hok.fresh (am s.heap.objs.size);have I1:=I.laid (a:=s.heap.objs.size) (o:=.dK []) (h':=s.heap.push {cls:=.type "dict",data:=.dict #[]}) (t':=s.toks) (λ_ _ q=>az _ q) (am _) (qO s.heap I.big);have U:IC X pos [some (.Constant .none j kpos)] [v] [(tC .non,tv)]:=uC ja Y xj;generalize hp:s.heap.objs.size=p at *;have q1:=q p hn;have hq:sB [(tC .non,tv)] σ (upd H p (.dK [])) (HM λy i=>i p=some (.dK [])/\Q (.ref p) (upd i p (.dN [(none,y)]))):=q1;have w1:=U h _ σ _ _ I1 hq;refine wpAny_Dict_walk (knd:=tM X.prog X.w) rfl rfl (by simp) (by show 1<=15;decide) (hU w1 λws s2 r=>?_);obtain⟨ps,i,F,rel,q0⟩:=r;obtain⟨y,rfl,e,q2⟩:=AR q0;cases rel with|@cons _ b _ _ h1 t1=>
  cases t1;obtain⟨b1,m⟩:=b;cases (show b1=Value.none from h1.1);obtain⟨z,Z,S,K,o,es,P,g1,g2,g3,g4,g5,g6⟩:=r8 F.hok e;cases K;have A:es=#[]:=by have:=g5.length;rw[cH,bu]at this;exact Array.eq_empty_of_size_eq_zero this
  subst A;rw[hp];refine⟨[((),m)],⟨rfl,rfl,True.intro⟩,⟨o,#[],P,g1,g2,g3,λ_ T=>by simp at T,.nil,bF⟩,λh' B hs=>⟨.ref p,upd i p (.dN [(none,y)]),?_,rfl,q2⟩⟩;obtain⟨G,d,x,D,O,f3,R,N,f6⟩:=B;have g:Pairs (tM X.prog X.w) d.toList [((),m)]:=N;refine kO F (by rw[e];exact True.intro) hs ⟨G,D⟩ ⟨by show 1<=sizeLine;decide,Z,[(none,.none,m)],.cons ⟨rfl,rfl,h1.2⟩ .nil,G,d,x,D,O,f3,?_,by simp⟩;generalize M:d.toList=l at g;cases g with|@cons e0 _ es0 _ k1 k2 k3=>
   cases k3;obtain⟨k',kk,kh⟩:=R e0 (Array.mem_toList_iff.mp (by rw[M];simp));obtain⟨L,E,J⟩:=e0;have C:E=Value.none:=by cases E <;> first|rfl|(simp[tM]at k1)
   subst C;cases (show J=m from k2);have t:L=W.hashW X.w.params .none:=kh;rw[t];rfl
section
variable {kvs:eW (io×V)}{k:io}{u r:eR}{z:V}
def FZ (I:fR X pins σ H s)(e:H a=some (.dK kvs))(j:gl (kV k) u)(m:gl z r)(J:kvs.length<sizeLine)(D:∀v w' s',fW kvs k=some v->fR X pins σ H s'->gl v w'->Q w' s')(h:fW kvs k=none->∀s',fR X pins σ (upd H a (.dK (gz kvs k z))) s'->Q r s'):wpAny (model X.prog X.w) A (call (.builtin "dict.setdefault") [.ref a,u,r]) Q E s:=by
 obtain⟨G,d,y,rel,g⟩:=r8 I.hok e;refine call_meetsIn cX g.typeIs PySem.F.entry_dict_setdefault (PySem.F.args_dict_setdefault_3 _ _ _) (kt_meets_setdefault (gm X.prog X.w) a (mP j) d r)
  ⟨y,g,by rw[<-rel.length];exact G,λv B=>?_,λo p b i=>?_⟩
 have q:=rel.val k;rw[B]at q;cases l:fW kvs k with|none=>rw[l]at q;exact q.elim|some x=>rw[l]at q;exact D x v _ l (I.tok _) q
 have q:=rel.val k;rw[o]at q;have l:fW kvs k=none:=by cases l:fW kvs k with|none=>rfl|some x=>rw[l]at q;exact q.elim
 have hp:(gz kvs k z).length<=sizeLine:=by have:=hZ kvs k z;omega
 have C:∃q,p.get? a=some q:=(by obtain⟨q,_,_,t,_⟩:=b;exact⟨q,t⟩);exact h l _ (kO I (by rw[e];exact True.intro) i C (oE hp d (rel.put k m) b))
end
inductive DV (ty:TE)(tx:TE)(σ:St)(Q:VK)(x:V)(H1:Hp):Prop
 |mk (a:_)(_:x=.ref a)(_:IO H1 a)(_:ty σ H1 λy H2=>tx σ H2 λz H3=>∃kvs k,H3 a=some (.dK kvs)/\y=kV k/\kvs.length<sizeLine/\(∀v,fW kvs k=some v->Q v H3)/\(fW kvs k=none->Q z (upd H3 a (.dK (gz kvs k z)))))
def EI (td ty tx:TE):TE:=λσ H Q=>td σ H λx H1=>DV ty tx σ Q x H1
def AE {o f:eY}{apos cpos:Pos}{td ty tx:TE}(L:PE X o td)(Y:PE X e ty)(K:PE X f tx)(m:M2 X o "setdefault" apos e f cpos):PE X (.Call (.Attribute o "setdefault" apos) [e,f] [] cpos) (EI td ty tx):=by intro b s σ H Q I h;refine dQ m.base m.few m.line cS cX PySem.F.type_dict_setdefault (hU (L b s σ H _ I h) ?_);rintro u R ⟨x,N,i,S,a,p,d,q1⟩;subst p;obtain rfl:u=Value.ref a:=S;obtain⟨M,q,_⟩:=ww i d;refine⟨M,q,?_⟩;rw[m.trees];refine Calls.callWith_builtin rfl (Calls.evalArgs_plain (Calls.spliced_cons (hU (Y b R σ N _ i q1) λiv D ⟨y,U,G,T,q2⟩=>Calls.spliced_cons (hU (K b D σ U _ G q2) λfv s3 ⟨z,B,C,j,t,k,ea,Z,P,E,O⟩=>Calls.spliced_nil ?_))));subst Z;exact FZ C ea T j P (λv w' A l g J=>⟨v,B,g,J,E v l⟩) λl A g=>⟨z,_,g,j,O l⟩
theorem lb {α β:Type}{F:α->β->Prop}:∀{as:eW α} {bs:eW β},as.length=bs.length->(∀(i:Nat) x y,as[i]?=some x->bs[i]?=some y->F x y)->ff F as bs
 |[],[],_,_=>.nil
 |a::as,b::bs,hl,h=>.cons (h 0 a b rfl rfl) (lb (by simpa using hl) λi x y hx hy=>h (i+1) x y (by simpa using hx) (by simpa using hy))
 |[],_::_,hl,_=>by simp at hl
 |_::_,[],hl,_=>by simp at hl
def wu {w:fe}{k:io}{u:eR}(h:(gm P w).is k u=true):gl (kV k) u:=by rcases iH h with ⟨i,t,rfl,rfl⟩|⟨x,t,rfl,rfl⟩;exact⟨t,rfl⟩;exact⟨t,rfl⟩
def wF (O:X.calm=true):j6 X (.type "list") (λxs H Q=>∃p kvs,xs=[.ref p]/\H p=some (.dK kvs)/\∀l,H l=none->Q (.ref l) (upd H l (.lst (kvs.map λkv=>kV kv.1)))):=by
 intro D s σ H xs R Q I r h;obtain⟨p,kvs,rfl,e,q⟩:=h;obtain⟨u,rfl,F⟩:=jA r;cases (show u=Value.ref p from F);obtain⟨z,hd,A,rel,M⟩:=r8 I.hok e;obtain⟨ep,m⟩:=M.dictAt;have C:=rel.length;refine W.kdl_call (W.kdl_dict (knd:=gm X.prog X.w) (kvs:=A) (ep:=ep) hd) (I.ok.hd O) m (by rw[<-C];exact z) λP J t c G N d=>?_;have L:=I.hok.fresh (am s.heap.objs.size);refine⟨.ref s.heap.objs.size,_,I.laid (a:=s.heap.objs.size) (o:=.lst (kvs.map λkv=>kV kv.1)) (t':=J) (λb o q=>G b o q) (am _) ?_,rfl,q _ L⟩;refine⟨by rw[ae];exact z,t.toList,c,?_,by rw[N]⟩;refine lb (by rw[ae,C,bu];exact d.1.symm) λi x y j B=>?_;rw[bL]at B;obtain⟨k,v,K,E⟩:=d.2 i y B;rw[ai]at j;have g:kvs[i]?.map (·.1)=A[i]?.map (·.1):=by rw[<-ai,<-ai,rel.keys]
 rw[K]at g;cases hi:kvs[i]? with|none=>rw[hi]at j;cases j|some kv=>
  rw[hi]at j g;cases j;have:kv.1=k:=by simpa using g
  show gl (kV kv.1) y;rw[this];exact wu E
def iT.two {y y':Str}{c c':eQ}{n j':Nat}(h1:autoParam (closureFor scope X.env=pure [(y,c),(y',c')]) gq._auto_1)(h2:autoParam (X.env.cells.lookup y=some c) gq._auto_1)(h2':autoParam (X.env.cells.lookup y'=some c') gq._auto_1)(hne:autoParam (y'≠y) iT.closed._auto_1)(hc:autoParam (∀z∈scope.names,z.2≠.cell) iT.closed._auto_1)(hk:autoParam (scope.kind=.function) gq._auto_1)(hn:autoParam (∀z∈scope.names,z.2=.local->scope.names.lookup z.1=some .local) iT.closed._auto_1)(ho:autoParam (∀z∈scope.names,z.2=.free->z.1=y\/z.1=y') iT.closed._auto_1)(hN:autoParam (N'[n]?=some y) gq._auto_1)(hN':autoParam (N'[n+1]?=some y') gq._auto_1)(hl:autoParam (N'.length=n+2) gq._auto_1)(hj:autoParam (X.N[j]?=some y) gq._auto_1)(hj':autoParam (X.N[j']?=some y') gq._auto_1)(hy:autoParam (X.env.kindOf y=some .cell) gq._auto_1)(hy':autoParam (X.env.kindOf y'=some .cell) gq._auto_1)(hr:autoParam ((relabel scope X.env).names.lookup y=some .cell) gq._auto_1)(hr':autoParam ((relabel scope X.env).names.lookup y'=some .cell) gq._auto_1):iT X N' scope [(y,c),(y',c')] n [j,j'] where
 clos:=h1
 cell:=hc
 kind:=hk
 names:=hn
 sub:=λz d e=>by
  by_cases q:z=y;subst q;rw[bc,beq_self_eq_true]at e;rw[h2];exact e;have b:(z == y)=false:=beq_false_of_ne q;by_cases q':z=y';subst q';rw[bc,b,bc,beq_self_eq_true]at e;rw[h2'];exact e;have t:(z == y')=false:=beq_false_of_ne q';rw[bc,b,bc,t]at e;simp at e
 has:=λz h=>by
  have l:∃k,(k=NameKind.cell\/k=NameKind.free)/\(z,k)∈(relabel scope X.env).names:=by
   rcases h with h|h
   exact⟨_,.inl rfl,bC h⟩;exact⟨_,.inr rfl,bC h⟩
  obtain⟨k,g,v⟩:=l;obtain⟨⟨a,o⟩,s,e⟩:=aA.mp (show(z,k)∈scope.names.map _ from v);have A:z=y\/z=y':=by
   by_cases hfree:o=.free;have x:z=a:=by
    dsimp only at e
    split at e
    exact(Prod.mk.inj e).1.symm;exact(Prod.mk.inj e).1.symm
   rw[x];exact ho _ s hfree;have b:(o == NameKind.free)=false:=by simpa using hfree
   simp only[b,cg,cA,if_false]at e;have p:=(Prod.mk.inj e).2;rcases g with q|q
   exact absurd (p.trans q) (hc _ s);exact absurd (p.trans q) hfree
  rcases A with q|q
  subst q;exact⟨c,by rw[bc,beq_self_eq_true]⟩;subst q;have b:(z == y)=false:=beq_false_of_ne hne;exact⟨c',by rw[bc,b,bc,beq_self_eq_true]⟩
 len:=by simpa using hl
 frees:=λk i e=>by
  match k,e with
  |0,e=>
   have m:j=i:=by simpa using e
   subst m;exact⟨y,hN,hj,.inl hy,.inl hr,by rw[h2,bc,beq_self_eq_true]⟩
  |1,e=>
   have m:j'=i:=by simpa using e
   subst m;have b:(y' == y)=false:=beq_false_of_ne hne;exact⟨y',hN',hj',.inl hy',.inl hr',by rw[h2',bc,b,bc,beq_self_eq_true]⟩
  |k+2,e=>simp at e
end Lake
namespace Lake.FB
open PySem
noncomputable def nY:Nat->fg->Bool
 |_,.none=>true
 |_,.int _=>true
 |_,.str x=>PyData.strOk x
 |k+1,.list xs=>xs.all (nY k)
 |k+1,.tuple xs=>xs.all (nY k)
 |_,_=>false
def xq:∀(k:Nat) (d:fg),nY k d=true->d.canLay0=true/\d.depth<=k:=by
 intro k;induction k with|zero=>intro d h;cases d <;> simp_all [nY,PyData.canLay0,PyData.depth]|succ k ih=>
  have all:∀a:eW fg,a.all (nY k)=true->PyData.canLayAll0 a=true/\PyData.depthAll a<=k:=by intro a;induction a with|nil=>intro _;exact⟨rfl,bp _⟩|cons x a ihx=>intro h;rw[List.all_cons,aQ]at h;have g:=ih x h.1;have e:=ihx h.2;refine⟨?_,?_⟩;rw[PyData.canLayAll0,g.1,e.1];rfl;rw[PyData.depthAll];lia
  intro d h;cases d with|list a=>have z:=all a (by simpa [nY] using h);exact⟨by rw[PyData.canLay0];exact z.1,by rw[PyData.depth];lia⟩|tuple a=>have z:=all a (by simpa [nY] using h);exact⟨by rw[PyData.canLay0];exact z.1,by rw[PyData.depth];lia⟩|dict kvs=>simp[nY]at h|bool b=>simp[nY]at h|none=>simp[PyData.canLay0,PyData.depth]|int i=>simp[PyData.canLay0,PyData.depth]|str x=>simp_all [nY,PyData.canLay0,PyData.depth]
def jy {k:Nat}{d:fg}(h:nY k d=true)(a:k<=64):SeqAt.shaped d=true:=by have z:=xq k d h;unfold SeqAt.shaped;rw[z.1,cQ];exact aq (bz z.2 a)
abbrev Nd:=Str×Int×Int
abbrev En:=Str×Int×eW Nd
noncomputable def Cq (n:Nd):fg:=.tuple [.str n.1,.int n.2.1,.int n.2.2]
def BF (e:En):fg:=.tuple [.str e.1,.int e.2.1,.list (e.2.2.map Cq)]
noncomputable def fN (e:En):Str×Int:=(e.1,e.2.1)
structure gU (x:Str):Prop where
 ok:PyData.strOk x=true
 sh:(reprText x).length<=1000
structure lP (e:En):Prop where
 pt:gU e.1
 nd:∀n∈e.2.2,gU n.1
 few:e.2.2.length<=100
def Be {n:Nd}(h:gU n.1):nY 1 (Cq n)=true:=by simp[Cq,nY,h.ok]
def FY {e:En}(h:lP e):nY 3 (BF e)=true:=by
 have z:(e.2.2.map Cq).all (nY 1)=true:=by rw[bN];intro d a;obtain⟨n,b,rfl⟩:=aA.mp a;exact Be (h.nd n b)
 simp[BF,nY,h.pt.ok];simpa using z
def vB {es:eW En}(h:∀e∈es,lP e):nY 4 (.list (es.map BF))=true:=by rw[nY,bN];intro d a;obtain⟨e,b,rfl⟩:=aA.mp a;exact FY (h e b)
noncomputable def jp (n:Nd)(e:En):Bool:=decide (e.1=n.1)&&(decide (n.2.1<=e.2.1)&&decide (e.2.1<=n.2.2))
def jc (es:eW En)(n:Nd):eW Int:=(es.filter (jp n)).map λe=>e.2.1
def jH (es:eW En)(n:Nd):(jc es n).length<=es.length:=by unfold jc;rw[ae];exact bK _ _
def wg (es:eW En)(e:En)(n:Nd):jc (es++[e]) n=if jp n e=true then jc es n++[e.2.1] else jc es n:=by unfold jc;rw[cw,aC];by_cases h:jp n e=true;rw[ay h,aI,ay h];rfl;rw[ax h,aI,ax h];simp
end Lake.FB
namespace Lake.FB
open PySem PyProof.Rows
variable {H H':Hp}{a p:eQ}{es:eW En}{ps:eW eQ}{v:V}
noncomputable def del (H:Hp)(ps:eW eQ):Hp:=λb=>if b∈ps then none else H b
def fG {b:eQ}(h:b∉ps):del H ps b=H b:=by unfold del;rw[ax h]
def gR {b:eQ}(h:b∈ps):del H ps b=none:=by unfold del;rw[ay h]
def gy (H:Hp)(ps:eW eQ):fH (del H ps) H:=λb o e=>by
 by_cases h:b∈ps;rw[gR h]at e;cases e;rw[fG h]at e;exact e
def nO {o:HO}(h:p∈ps):del (upd H p o) ps=del H ps:=by funext b;by_cases hb:b∈ps;rw[gR hb,gR hb];rw[fG hb,fG hb,fw (λz=>hb (by rw[z];exact h))]
def fH.del (e:fH H H')(ps:eW eQ):fH (del H ps) (del H' ps):=λb o q=>by
 by_cases h:b∈ps;rw[gR h]at q;cases q;rw[fG h]at q ⊢;exact e b o q
def fB (h:H p=none)(o:HO):fH H (upd H p o):=λb u q=>by rw[fw (fC q h)];exact q
def fH.upd (e:fH H H'){o:HO}(h:H p=none):fH H (upd H' p o):=λb u q=>by rw[fw (fC q h)];exact e b u q
def gX (H:Hp)(v:V)(n:Nd):Prop:=∃q,v=.ref q/\H q=some (.tup [.str n.1,.int n.2.1,.int n.2.2])
def fX (H:Hp)(v:V)(k:Str×Int):Prop:=∃q,v=.ref q/\H q=some (.tup [.str k.1,.int k.2])
def km (H:Hp)(v:V)(e:En):Prop:=∃q a xs,v=.ref q/\H q=some (.tup [.str e.1,.int e.2.1,.ref a])/\H a=some (.lst xs)/\ff (gX H) xs e.2.2
def i6 (H:Hp)(a:eQ)(es:eW En):Prop:=∃xs,H a=some (.lst xs)/\ff (km H) xs es
def gX.same (e:fH H H'){n:Nd}(h:gX H v n):gX H' v n:=(by obtain⟨q,h1,h2⟩:=h;exact⟨q,h1,e _ _ h2⟩)
def fX.same (e:fH H H'){k:Str×Int}(h:fX H v k):fX H' v k:=(by obtain⟨q,h1,h2⟩:=h;exact⟨q,h1,e _ _ h2⟩)
def km.same (e:fH H H'){n:En}(h:km H v n):km H' v n:=
 (by obtain⟨q,a,xs,h1,h2,h3,h4⟩:=h;exact⟨q,a,xs,h1,e _ _ h2,e _ _ h3,Paired.LJ h4 λ_ _=>gX.same e⟩)
def i6.same (e:fH H H')(h:i6 H a es):i6 H' a es:=
 (by obtain⟨xs,h1,h2⟩:=h;exact⟨xs,e _ _ h1,Paired.LJ h2 λ_ _=>km.same e⟩)
def gX.rep {n:Nd}(h:gX H v n):qZ H v (Cq n):=by obtain⟨q,rfl,a⟩:=h;exact .tup a (.cons (.str _) (.cons (.int _) (.cons (.int _) .nil)))
noncomputable def oQ (k:Str×Int):fg:=.tuple [.str k.1,.int k.2]
def fX.rep {k:Str×Int}(h:fX H v k):qZ H v (oQ k):=by obtain⟨q,rfl,a⟩:=h;exact .tup a (.cons (.str _) (.cons (.int _) .nil))
theorem j8 {H:Hp}{α:Type}{R:V->α->Prop}{f:α->fg}(h:∀v a,R v a->qZ H v (f a)):∀{vs:eW V} {as:eW α},ff R vs as->oJ H vs (as.map f)
 |_,_,.nil=>.nil
 |_,_,.cons r t=>.cons (h _ _ r) (j8 h t)
def km.rep {e:En}(h:km H v e):qZ H v (BF e):=by obtain⟨q,a,i,rfl,b,g,d⟩:=h;exact .tup b (.cons (.str _) (.cons (.int _) (.cons (.lst g (j8 (λ_ _ z=>gX.rep z) d)) .nil)))
def i6.rep (h:i6 H a es):qZ H (.ref a) (.list (es.map BF)):=by obtain⟨e,b,d⟩:=h;exact .lst b (j8 (λ_ _ z=>km.rep z) d)
theorem rX (H:Hp):∀ns:eW Int,oJ H (ns.map V.int) (ns.map PyData.int)
 |[]=>.nil
 |n::ns=>.cons (.int n) (rX H ns)
theorem Paired.Ml {α β:Type}{F:α->β->Prop}:∀{as:eW α} {bs:eW β} {i:Nat} {a:α},ff F as bs->as[i]?=some a->∃b,bs[i]?=some b/\F a b
 |_,_,_,_,.nil,e=>by simp at e
 |_,_,0,_,.cons r _,e=>by simp at e;subst e;exact⟨_,rfl,r⟩
 |_,_,i+1,a,.cons _ t,e=>by obtain⟨b,h1,h2⟩:=Paired.Ml (i:=i) (a:=a) t (by simpa using e);exact⟨b,by simpa using h1,h2⟩
def nB {xs:eW V}{i:Int}(e:0<=i)(d:i<(xs.length:Int)):∃v,vd xs i=some v/\v∈xs:=by
 have a:i.toNat<xs.length:=by omega
 have b:i=((i.toNat:Nat):Int):=by omega
 have q:vd xs ((i.toNat:Nat):Int)=some xs[i.toNat]:=pL (ar a);rw[<-b]at q;exact⟨_,q,List.getElem_mem a⟩
def kg {ns:eW Int}{i:Int}(b:0<=i)(a:i<(ns.length:Int)):∃z,vd (ns.map V.int) i=some (.int z)/\z∈ns:=by obtain⟨v,e,d⟩:=nB (xs:=ns.map V.int) b (by rw[ae];exact a);obtain⟨z,g,rfl⟩:=aA.mp d;exact⟨z,e,g⟩
noncomputable def iU (es:eW En)(x:Str):eW Int:=(es.filter λe=>decide (e.1=x)).map λe=>e.2.1
def oN (es:eW En)(e:En)(x:Str):iU (es++[e]) x=if e.1=x then iU es x++[e.2.1] else iU es x:=by unfold iU;rw[cw,aC];by_cases h:e.1=x;rw[ay h,aI,ay (aq h)];rfl;rw[ax h,aI,ax (by simpa using h)];simp
def kQ (es:eW En)(x:Str):(iU es x).length<=es.length:=by unfold iU;rw[ae];exact bK _ _
noncomputable def nH (n:Nd)(z:Int):Bool:=decide (n.2.1<=z)&&decide (z<=n.2.2)
def qy (es:eW En)(n:Nd):jc es n=(iU es n.1).filter (nH n):=by
 induction es with|nil=>rfl|cons e es ih=>
  unfold jc iU at ih ⊢;rw[aI,aI];by_cases h:e.1=n.1;rw[ay (aq h),aH,aI];have a:jp n e=nH n e.2.1:=by unfold jp nH;rw[aq h,cQ]
  rw[a];by_cases hb:nH n e.2.1=true;rw[ay hb,ay hb,aH,ih];rw[ax hb,ax hb,ih];have a:¬jp n e=true:=by unfold jp;rw[aw h];simp
  rw[ax a,ax (by simpa using h),ih]
def Ax {n:Nd}{ms:eW Int}(h:ms.Perm (iU es n.1)):(ms.filter (nH n)).Perm (jc es n):=by rw[qy];exact h.filter _
noncomputable def jR (k:Str×Int):eW Lake.io:=[Sum.inr k.1,Sum.inl k.2]
def qN {k j:Str×Int}(h:jR k=jR j):k=j:=by
 obtain⟨a,b⟩:=k;obtain⟨c,d⟩:=j;unfold jR at h;injection h with e i
 injection i with g l
 injection e with e
 injection g with g
 exact Prod.ext e g
def nv:¬(("needs":Str) = "versions"):=by decide +kernel
def lj (dn dv:eQ):eW (Str×V):=ij "versions" (.ref dv) (ij "needs" (.ref dn) [])
def gT (a b:eQ):(lj a b).lookup ("needs":Str)=some (.ref a):=by unfold lj;rw[jd,ax nv,jd,ay rfl]
def kE (b a:eQ):(lj b a).lookup ("versions":Str)=some (.ref a):=by unfold lj;rw[jd,ay rfl]
def nR (e b:eQ){m:Str}(a:¬m = "versions")(d:¬m = "needs"):(lj e b).lookup m=none:=by unfold lj;rw[jd,ax a,jd,ax d];all_goals rfl
def nW (H:Hp)(kv:hJ×V)(e:En):Prop:=kv.1=some (jR (fN e))/\∃a zs,kv.2=.ref a/\H a=some (.lst zs)/\ff (gX H) zs e.2.2
def vo (H:Hp)(vk:eW (io×V))(es:eW En)(d:Str->Prop):Prop:=
 ∀x:Str,(fW vk (Sum.inr x)=none/\iU es x=[])\/∃l ms,fW vk (Sum.inr x)=some (.ref l)/\H l=some (.lst (List.map V.int ms))/\ms.Perm (iU es x)/\(d x->ms.Pairwise (· ≥ ·))
inductive Cp (C:eQ)(H:Hp)(p st:eQ)(es:eW En):Prop
 |mk (dx dn dv nks vk:_)(_:H p=some (.ins C dx (lj dn dv)))(_:Rd H dn (.dN ((none,.ref st)::nks)))(_:ff (nW H) nks es)(_:Rd H dv (.dK vk))(_:vo H vk es λ_=>True)
structure ia (C:eQ)(H:Hp)(p st:eQ)(es:eW En):Prop where
 ex:Cp C H p st es
def nW.same (e:fH H H'){kv:hJ×V}{n:En}(h:nW H kv n):nW H' kv n:=
 (by obtain⟨h1,a,zs,h2,h3,h4⟩:=h;exact⟨h1,a,zs,h2,e _ _ h3,Paired.LJ h4 λ_ _=>gX.same e⟩)
def vo.same (e:fH H H'){vk:eW (io×V)}{d:Str->Prop}(h:vo H vk es d):vo H' vk es d:=λx=>by
 rcases h x with z|⟨l,ms,h1,h2,h3,h4⟩;exact .inl z;exact .inr ⟨l,ms,h1,e _ _ h2,h3,h4⟩
def i4 (e:fH H H'){u:HO}(h:Rd H a u):Rd H' a u:=h.imp (e _ _) (by rintro⟨o,z⟩;exact⟨o,e _ _ z⟩)
def ia.same {C:eQ}(e:fH H H'){st:eQ}(h:ia C H p st es):ia C H' p st es:=by obtain⟨o,d,l,a,b,j,g,q,i,m⟩:=h.ex;exact⟨o,d,l,a,b,e _ _ j,i4 e g,Paired.LJ q λ_ _=>nW.same e,i4 e i,m.same e⟩
theorem sy {H:Hp}:∀{nks:eW (hJ×V)} {es:eW En},ff (nW H) nks es->∀k:Str×Int,(k∉es.map fN/\fW nks (some (jR k))=none)\/∃e∈es,fN e=k/\∃a zs,fW nks (some (jR k))=some (.ref a)/\H a=some (.lst zs)/\ff (gX H) zs e.2.2
 |_,_,.nil,k=>.inl ⟨by simp,rfl⟩
 |_,_,.cons (a:=kv) (b:=e) r t,k=>by
  obtain⟨h1,a,zs,h2,h3,h4⟩:=r;by_cases hk:fN e=k;refine .inr ⟨e,by simp,hk,a,zs,?_,h3,h4⟩;rw[ir (by rw[h1,hk]),h2];have hn:¬kv.1=some (jR k):=by rw[h1];exact λz=>hk (qN (Option.some.inj z))
  rw[il hn];rcases sy t k with ⟨i,g⟩|⟨h,d,z⟩;refine .inl ⟨?_,g⟩;rw[aH,ao];exact λy=>y.elim (λq=>hk q.symm) i;exact .inr ⟨h,by simp[d],z⟩
end Lake.FB
namespace Lake
open PySem PySem.Spec PyProof.Rows
variable {X:Cx}{pos:Pos}
section
variable {pins:eW (eQ×Obj)}{σ:St}{H:Hp}{s:eU}{h':fb}
def fR.Mm {t':Nat}{ch:eW eQ}(I:fR X pins σ H s)(d:∀b∈ch,jj X pins H b)(k:∀b o,b∉ch->s.heap.get? b=some o->h'.get? b=some o):fR X pins σ H {s with heap:=h',toks:=t'}:=by
 refine I.step (g':=s.gens) (d':=s.drawn) (ch:=ch) (λb j=>?_) (λb o _ _ a e _=>k b o a e) (λb o _ _ a e _=>⟨o.slots,k b o a e⟩) (λ_ _ _ _ n=>n)
  (λb o a e=>⟨o,k b o a e⟩) (λ_ _ e=>e) (λ_ _ _ e=>e) (λb C e=>⟨#[],by rw[e];simp⟩) (λm l=>?_) (λb u e=>?_) I.bare
 obtain⟨A,x,B,y,t,h⟩:=d b j;exact⟨y,x,t,h⟩;obtain⟨o,i,p,g,r⟩:=l;exact⟨o,i,p,k _ o (λz=>(d _ z).2.1 rfl) g,r⟩;have out:∀c v,H c=some v->c∉ch:=λc v q z=>by rw[(d c z).1]at q;cases q
 refine(I.hok b u e).LK (λc v a q=>k c v ?_ q) (λ_ q=>q) λ_ _ q=>q;rcases a with z|z;rw[z];exact out b u e;exact out c _ z
end
def GP (K:fh)(a:eQ):It:=
 ⟨λi H=>∃xs x,gf K H a xs/\xs[i]?=some x,λi H x H'=>∃t y,H t=none/\x=.ref t/\H'=upd H t (.tup [.int i,y])/\∀xs,gf K H a xs->xs[i]?=some y,λi H=>∃xs,gf K H a xs/\xs.length<=i⟩
def yf {P:eV}{w:fe}{K:fh}{elts:eW eY}{k:Nat}(a e m:eQ)(an:e≠m):rq P w K (.Tuple elts k pos) (GP K a) [e,m] e (λi h=>(∃old,IsEnum h e m i old)/\h.IsListIter m a i) where
 mem:=by simp
 obj:=λi h j b q=>by
  obtain⟨⟨old,l⟩,o,e1,c,d⟩:=j;rcases ao.mp q with z|z
  subst z
  exact⟨_,l,λv z=>by
   have z':Data.fields _=Data.cell v:=z
   cases z'⟩
  rw[af.mp z];exact⟨o,e1,λv z=>by rw[d]at z;cases z⟩
 keep:=λi h h' j Q=>⟨(by obtain⟨old,l⟩:=j.1;exact⟨old,Q e (by simp) _ l⟩),j.2.at λo z=>Q m (by simp) o z⟩
 item:=by
  intro X G hw hK hc i C s σ H E I U j hg;subst G hw hK;obtain⟨xs,x,S,hx⟩:=hg;obtain⟨g,rv,p,hz⟩:=I.list S;obtain⟨u,hu,ru⟩:=rv.get hx;obtain⟨⟨old,l⟩,B⟩:=j;have R:s.heap.IsList a g.toArray:=p.isList;have ah:a≠e:=λz=>by
   obtain⟨o,J,O,_⟩:=R;rw[z,l]at J;cases J;exact absurd O (show ¬(Value.type "enumerate" = Value.type "list") by decide)
  have ab:a≠m:=λz=>by
   obtain⟨o,J,O,_⟩:=R;obtain⟨o',g1,g2,_⟩:=B;rw[z,g1]at J;cases J;rw[g2]at O;exact absurd O (by decide)
  have hi:i<g.toArray.size:=by
   have:=(aj.mp hu).1;simpa using this
  have Wz:=WalksT.enumerate (prog:=X.prog) (w:=X.w) (A:=X.A) (I.ok.hd hc) e m a an ah ab g.toArray;refine Wz.item i s _ _ hi ⟨⟨old,l⟩,B,R⟩ λT as h' tk G hT F hM Q=>⟨.ref T,rfl,Wz.go elts k pos i T _ _ _ hM λad L M=>?_⟩;have ag:s.heap.get? T=none:=bo hT;have D:H T=none:=I.hok.fresh hT;have N:T∉[e,m]:=Wz.apart i T _ hM;have I1:fR X C σ H {s with heap:=ad,toks:=tk}:=I.Mm (ch:=[e,m]) U λb o q z=>M b o q (Q b o q z);obtain⟨o,ho,ap,n,aa⟩:=F;have Z:=M T o N ho;obtain⟨t,y,Y,rfl⟩:=G;have al:y=u:=by
   have:g.toArray[i]?=some u:=by simpa using hu
   rw[this]at Y;exact(Option.some.inj Y).symm
  subst al;refine⟨.ref T,upd H T (.tup [.int i,x]),I1.adopt (I.Mf ag D) ⟨by show 2<=sizeLine;decide,[.int i t,y],.cons ⟨t,rfl⟩ (.cons ru .nil),o,Z,ap,n,aa⟩,rfl,⟨T,x,D,rfl,rfl,λys Y=>by rw[I.LS Y S];exact hx⟩,⟨L.1,L.2.1⟩,λb q=>?_⟩;rw[fw (show b≠T from λz=>N (by rw[<-z];exact q))];exact(U b q).1
 done:=by
  intro X G hw hK hc i C s σ H E I U j hg;subst G hw hK;obtain⟨xs,S,hx⟩:=hg;obtain⟨g,rv,p,hz⟩:=I.list S;obtain⟨⟨old,l⟩,B⟩:=j;have R:=rv.length;obtain⟨f0,f1,f2,f3,f4,f5⟩:=U m (by simp);exact wpAny_pyNext_enum_end (I.ok.hd hc) l B p.isList (by simp;omega) λh' eb=>⟨rfl,I.turned (t':=s.toks) (λb o q e=>eb b o q e) f0 f1 f3 f4 f5⟩
 self:=λ_ _ _ _ _ j h=>(by obtain⟨_,l⟩:=j.1;exact wpAny_pyIter_enum l h)
def Ip (K:fh)(tl:TE):TI:=λσ H R=>tl σ H λx H1=>∃a xs,x=.ref a/\H1 a=some (.lst xs)/\R (GP K a) H1
def xk {elts:eW eY}{k:Nat}{tpos p:Pos}{l:eY}{tl:TE}(B:Gl X "enumerate")(L:X.mg "enumerate" = none)(J:PE X l tl)(hs:autoParam (starEach [l] X.env=[(false,eval l X.env)]) gq._auto_1):PI X (.Tuple elts k tpos) (.Call (.Name "enumerate" p) [l] [] pos) (Ip X.K tl):=by
 intro g s σ H R I h;refine bA (kC I B L PyProof.Rows.boot_enumerate ?_ (by decide) (by decide));refine PyProof.Rows.callWith_type1 ?_ hs rfl;have F:=(fi J fq hs) pos g s σ H (λi e=>match i with|[x]=>(∃a xs,x=.ref a/\e a=some (.lst xs)/\R (GP X.K a) e)|_=>False) I h;refine hU F ?_;rintro P s1 ⟨i,e,d,r,v⟩
 match i,r,v with
 |[x],r,⟨a,xs,e2,hS,q⟩=>subst e2;obtain⟨u,rfl,y⟩:=jA r;cases (show u=Value.ref a from y);obtain⟨O,E,n,N,j⟩:=(show ib X.prog X.w e s1.heap a (.lst xs) from d.hok a _ hS);refine call_enumerate_1 j λC o m G D=>?_;refine wpAny_pyIter_enum (s:={s1 with heap:=C}) o ?_;have t:s1.heap.get? s1.heap.objs.size=none:=bo (am _);have M:s1.heap.get? (s1.heap.objs.size+1)=none:=bo (dU _);refine⟨s1.heap.objs.size+1,[s1.heap.objs.size+1,s1.heap.objs.size],_,_,e,rfl,d.kept (t':=s1.toks) D,yf a _ _ (Nat.succ_ne_self _),⟨⟨_,o⟩,m⟩,λb A=>?_,q⟩;rcases ao.mp A with z|z;subst z;exact d.Mf M (d.hok.fresh (dU _));rw[af.mp z];exact d.Mf t (d.hok.fresh (am _))
def uS {K:fh}{a:eQ}{xs:eW V}{g:TG}{tb:TS}{D:lO}{σ:St}{H:Hp}(b:Nat->St->Hp->Prop)(o:b 0 σ H)(j:∀i σ H,i<=xs.length->b i σ H->gf K H a xs)(s:∀i x σ H t,xs[i]?=some x->b i σ H->H t=none->g (.ref t) σ (upd H t (.tup [.int (i:Nat),x])) λσ2 H2=>tb {D with nx:=b (i+1),ct:=b (i+1),bk:=D.nx} σ2 H2)(h:∀σ H,b xs.length σ H->D.nx σ H):∃Wz:Nat->Nat->St->Hp->Prop,(∃m,Wz 0 m σ H)/\∀i m σ H,Wz i m σ H->((GP K a).stop i H/\D.nx σ H)\/((GP K a).go i H/\∃N:St->Hp->Prop,(∀σ' H',N σ' H'->∃m',m'<m/\Wz (i+1) m' σ' H')/\∀x H',(GP K a).yld i H x H'->g x σ H' λσ2 H2=>tb {D with nx:=N,ct:=N,bk:=D.nx} σ2 H2):=by refine⟨λi m σ H=>m=xs.length-i/\i<=xs.length/\b i σ H,⟨xs.length,by simp,bp _,o⟩,?_⟩;rintro i m σ H ⟨rfl,e,p⟩;have q:=j i σ H e p;rcases eD i xs.length with d|hge;refine .inr ⟨⟨xs,xs[i],q,by simp[d]⟩,b (i+1),λσ' H' v=>⟨xs.length-(i+1),by omega,rfl,d,v⟩,λx H' y=>?_⟩;obtain⟨t,z,l,rfl,rfl,y⟩:=y;exact s i z σ _ t (y xs q) p l;obtain rfl:i=xs.length:=Nat.le_antisymm e hge;exact .inl ⟨⟨xs,q,am _⟩,h σ H p⟩
section
variable {k:Nat}{x:Str}{p:Pos}{e:eY}{es:eW eY}{t:TA}{i:Nat}
inductive D0 (P:eV)(w:fe)(K:fh)(mg:Str->fc eR)(base:fb)(k:Nat)(i:Nat)(t:TA)(σ:St)(H:Hp)(Q:VK):Prop
 |mk (g gd ps sp:_)(_:σ[i]?=some (some (.ref g)))(_:gv P w K mg base gM k g gd ps sp)(_:W.keepIn K (.ref g)=true)(_:jf K gd ps [])(_:t σ H λvs H1=>sp vs H1 Q E0)
def ER (P:eV)(w:fe)(K:fh)(mg:Str->fc eR)(base:fb)(k i:Nat)(t:TA):TE:=λσ H Q=>D0 P w K mg base k i t σ H Q
def AI (z:X.N[i]?=some x)(J:DQ X.env.scope x)(j:iF k X.A)(L:PA X (e::es) t)(hd:autoParam ((x == ("__debug__":Str))=false) Ay._auto_1)(hcd:autoParam ((x == ("__classdict__":Str))=false) Ay._auto_1)(he:autoParam (starEach (e::es) X.env=(false,eval e X.env)::starEach es X.env) gq._auto_1)(hpl:autoParam ((backTo pos (starEach es X.env)).any (·.1)=false) gq._auto_1):PE X (.Call (.Name x p) (e::es) [] pos) (ER X.prog X.w X.K X.mg X.base k i t):=by intro a s σ H Q I h;obtain⟨g,U,O,M,G,F,D,m,q⟩:=h;refine bA (hU (Ay z J hd hcd a s σ H (λv b=>v=.ref g/\b=H) I ⟨_,G,rfl,rfl⟩) ?_);rintro u l ⟨v,b,y,r,C,o⟩;subst C o;cases (show u=Value.ref g from r);refine W.callWith_K (h₀:=X.base) I.ok.mod.kin D (hU (L pos a l σ b _ y q) ?_) he hpl;rintro R T ⟨S,P,d,B,q2⟩;refine⟨d.kIn,?_⟩;exact tz (ds:=[]) (dvs:=[]) (E:=E0) F j m .nil gJ d B (by rw[bZ];exact q2)
end
def qz:typeLookup (.type "list") "keys" = pure none:=by rw[typeLookup_type,builtinLookup_eq_fast];kernel_rfl
theorem yX {prog:eV}{w:fe}{A:eP}{E:eR->eU->Prop}{s:eU}{a:eQ}{xs:Array eR}{k:Nat}{Q:fc eR->eU->Prop}(hx:s.heap.get? a=some {cls:=.type "list",data:=.seq xs k})(p:A.handled=none)(h:∀h' tk,(∀b o,s.heap.get? b=some o->h'.get? b=some o)->Q none {s with heap:=h',toks:=tk}):wpAny (model prog w) A (getAttr? (.ref a) "keys") Q E s:=by
 obtain⟨hp,g,d,tk,m⟩:=s;have l:∀j,(⟨hp,g,d,j,m⟩:eU).TypeIs (.ref a) "list":=λ_=>⟨_,hx,rfl⟩;have y:=sub_AttributeError;have z:=dY.lookup;have v:=dY.bind (.ref a);have q:=am_list_getattr_none;unfold getAttr? getAttrBy? getAttrBy
 repeat (any_goals (first|assumption|exact l _|((with_reducible show wpAny _ _ (call (Value.builtin "list.__getattribute__") _ _) _ _ _);refine eM dY (l _) am_entry_list_getattribute (PySem.F.args_list_getattribute_2 _ _) (meets_getattribute_miss_list a xs k #[] "keys" _ qz (by decide +kernel) (by decide +kernel)) ⟨hx,p,λh' j e i=>?_⟩)|wp_step))
 obtain⟨t,B,x⟩:=i.there;show wpAny _ _ (getattributeRaised _ _ _ _ _ _ _) _ _ _;unfold getattributeRaised
 repeat (any_goals (first|assumption|wp_step))
 exact h _ _ i.keeps
def l8:entryFor table "dict.update.loop" = some Builtin.«dict.update.loop»:=entryFor_of_tree rfl
def jF:plainId "dict.update.loop" = true:=by decide +kernel
def DT (P:eV)(w:fe)(h:fb)(S it:eQ)(items:Array eR)(ks:eW (io×eR)):Prop:=
 ∀j,j<items.size->∃q k u v,items[j]?=some (.ref q)/\q≠S/\q≠it/\h.IsTuple q #[u,v]/\(gm P w).is k u=true/\ks[j]?=some (k,v)
section
variable {P:eV}{w:fe}{A:eP}{R:Result->eU->Prop}{S it l:eQ}{items:Array eR}{ks:eW (io×eR)}
theorem zH (hh:A.handled=none)(m:S≠it)(O:l≠it)(F:l≠S)(ag:ks.length=items.size):∀(n i:Nat) (s:eU) (kvs:eW (io×eR)),items.size-i=n->i<=items.size->s.heap.IsListIter it l i->s.heap.IsList l items->s.heap.DictOf (gm P w) S kvs->kvs.length+(items.size-i)<=sizeLine->DT P w s.heap S it items ks->(∀h' tk,h'.DictOf (gm P w) S (merged kvs (ks.drop i))->(∀b o,b≠S->b≠it->s.heap.get? b=some o->h'.get? b=some o)->R (.ok (.ret .none)) {s with heap:=h',toks:=tk})->codeAny (model P w) A (.builtin "dict.update.loop" ⟨[.ref S,.ref it,rawInt i,.none],[]⟩) R s:=by
 intro n;induction n with
 |zero=>
  intro i s kvs hn hi t C T hz hp h;have X:i=items.size:=by lia
  refine er l8 ?_;rw[Around.under_plainId jF _];show wpAny _ A.in1 (pyNext (.ref it) >>= _) _ _ s;refine ac (wpAny_pyNext_list_end hh t C (by rw[X];exact Array.getElem?_eq_none (am _)) λh' eb=>?_);refine ac (av (av (h h' s.toks ?_ λb o p g e=>eb b o g e)));rw[List.drop_eq_nil_of_le (by lia)];obtain⟨o,Z,L,M,r⟩:=T;exact⟨o,Z,L,eb S o m M,r⟩
 |succ n ih=>
 intro i s kvs hn hi t C T hz hp h;have y:i<items.size:=by lia
 obtain⟨q,k,u,v,hx,ad,B,hq,hk,U⟩:=hp i y;refine er l8 ?_;rw[Around.under_plainId jF _];show wpAny _ A.in1 (pyNext (.ref it) >>= _) _ _ s;refine ac (wpAny_pyNext_list_item t C hx λD z J=>?_);have a:∀b o,b≠it->s.heap.get? b=some o->D.get? b=some o:=λb o p e=>(J.2 b p).trans e;obtain⟨oq,x,G,nq,ab⟩:=id hq;have I:D.DictOf (gm P w) S kvs:=by obtain⟨o,Z,L,M,r⟩:=T;exact⟨o,Z,L,a S o m M,r⟩
 have hT:(⟨D,s.gens,s.drawn,s.toks,s.os⟩:eU).TypeIs (.ref q) "tuple":=⟨_,a q oq B x,G⟩;refine ac (bw (ac (dq ?_)));unfold Builtin.Dict.pairItems;refine ac (wpAny_typeOf hT ?_);rw[ay (by decide)];refine ac (eK (a q oq B x) ab (av ?_));show wpAny _ _ (holding [u,v] (dictSet S u v)) _ _ _;refine bw (wpAny_dictSet_pairs (hsz:=by lia) hk I λh2 E K=>?_);have d:∀b o,b≠S->D.get? b=some o->h2.get? b=some o:=λb o p e=>(K.2 b p).trans e;refine av ⟨dJ jF _,?_⟩;have hc:rawInt ((i:Int)+1)=rawInt ((i+1:Nat):Int):=by push_cast;rfl
 rw[hc];have aa:ks.drop i=(k,v)::ks.drop (i+1):=by obtain⟨Y,e'⟩:=aj.mp U;rw[dw Y,e']
 refine ih (i+1) _ (stored kvs k v) (by lia) y (z.at λo e=>d it o (Ne.symm m) e) (C.at λo e=>d l o F (a l o O e)) E ?_ (λj hj=>?_) λh' tk N H=>?_;have:(stored kvs k v).length<=kvs.length+1:=by unfold stored;split;rw[ae];lia;rw[aB];exact am _
 lia;obtain⟨Q,k',u',v',z1,z2,z3,⟨o',z4,z5⟩,z6⟩:=hp j hj;exact⟨Q,k',u',v',z1,z2,z3,⟨o',d Q o' z2 (a Q o' z3 z4),z5⟩,z6⟩;refine h h' tk ?_ λb o p g e=>H b o p g (d b o p (a b o g e));rw[aa];exact N
end
def wS (H:Hp)(v:V)(kv:io×V):Prop:=∃q,v=.ref q/\H q=some (.tup [kV kv.1,kv.2])
theorem qS (hc:X.calm=true):j6 X (.type "dict") (λxs H Q=>∃l ys kvs,xs=[.ref l]/\H l=some (.lst ys)/\ff (wS H) ys kvs/\kvs.length<=1000/\∀p,H p=none->Q (.ref p) (upd H p (.dK (jo [] kvs)))):=by
 intro a0 s σ H xs us Q I r h;obtain⟨l,ys,kvs,rfl,e,hp,hz,q⟩:=h;obtain⟨u,rfl,r1⟩:=jA r;cases (show u=Value.ref l from r1);obtain⟨ad,g,n,rv,J⟩:=(show ib X.prog X.w H s.heap l (.lst ys) from I.hok l _ e);have N:ys.length=kvs.length:=Paired.length hp;have M:ys.length=g.length:=rv.length;generalize L:s.heap.objs.size=S;have nS:s.heap.get? S=none:=L▸bo (am _);have al:∃K:eW (io×eR),KV kvs K/\K.length=g.length/\∀j,j<g.length->∃q k u v,g[j]?=some (.ref q)/\s.heap.IsTuple q #[u,v]/\(gm X.prog X.w).is k u=true/\K[j]?=some (k,v):=by clear e J ad r1 r q N M;induction rv generalizing kvs with|nil=>cases hp;exact⟨[],.nil,rfl,λj O=>by simp at O⟩|@cons y u ys us hy t ih=>cases hp with|@cons _ kv _ kvs' i h2=>obtain⟨K,g1,g2,g3⟩:=ih kvs' h2 (by rw[au]at hz;lia);obtain⟨Z,rfl,hq⟩:=i;cases (show u=Value.ref Z from hy);obtain⟨_,tv,rt,o,h3,h4,m,h5⟩:=(show ib X.prog X.w H s.heap Z (.tup [kV kv.1,kv.2]) from I.hok Z _ hq);cases rt with|@cons _ u1 _ _ ru1 rt2=>cases rt2 with|@cons _ u2 _ _ ru2 rt3=>cases rt3;refine⟨(kv.1,u2)::K,.cons ⟨rfl,ru2⟩ g1,by simp[g2],λj O=>?_⟩;cases j with|zero=>exact⟨Z,kv.1,u1,u2,rfl,⟨o,h3,h4,m,h5⟩,mP ru1,rfl⟩|succ j=>obtain⟨R,k',u',v',z1,U,z3,z4⟩:=g3 j (by simpa using O);exact⟨R,k',u',v',by simpa using z1,U,z3,by simpa using z4⟩
 obtain⟨K,ap,as,T⟩:=al;refine callType_codes (Q₁:=λY s1=>Y=.ref S/\s1={s with heap:=s.heap.push {cls:=.type "dict",data:=.dict #[]}}) PySem.F.kt_called_dict (PySem.F.kt_typeCall_dict_1 _) PySem.F.entry_dict_init (kt_code_dict_new _ ⟨by rw[L],rfl⟩) ?_;rintro Y s1 ⟨rfl,rfl⟩;have G:(s.heap.push {cls:=.type "dict",data:=.dict #[]}).DictOf (gm X.prog X.w) S []:=L▸Heap.DictOf.new s.heap;refine⟨G.typeIs,PySem.F.args_dict_init_2 _ _,?_⟩;unfold Builtin.«dict.__init__»;refine ac ?_;unfold Builtin.Dict.selfAndRest;refine ac (cZ G.typeIs (av ?_));show wpAny _ _ (Builtin.Dict.updateFrom "dict.__init__" S (.ref l) [] .none) _ _ _;unfold Builtin.Dict.updateFrom;have x:=az (h:=s.heap) {cls:=.type "dict",data:=.dict #[]} J;refine ac (wpAny_typeOf ⟨_,x,rfl⟩ ?_);rw[ay (by decide)];refine ac (yX x (I.ok.hd hc) λi aa k1=>?_);rw[ay (by decide)];have C:=k1 _ _ x;refine ac (cr (ac (wpAny_pyIter_list (s:={s with heap:=i,toks:=aa}) ⟨_,C,rfl,n,rfl⟩ (av ⟨dJ jF _,?_⟩))));dsimp only;generalize E:i.objs.size=it;have ah:i.get? it=none:=E▸bo (am _);have D:∀b o,s.heap.get? b=some o->i.get? b=some o:=λb o z=>k1 b o (az _ z);have eS:i.get? S=some {cls:=.type "dict",data:=.dict #[]}:=k1 S _ (by rw[<-L];exact aO _ rfl);have up:∀b o,i.get? b=some o->(i.push {cls:=.type "list_iterator",data:=.fields #[.ref l,.int 0 0]}).get? b=some o:=λb o z=>az _ z;have d:∀b o,i.get? b=some o->b≠it:=λb o z y=>by rw[y,ah]at z;cases z
 have B:∀b o,s.heap.get? b=some o->b≠S:=λb o z y=>by rw[y,nS]at z;cases z
 have ag:(i.push {cls:=.type "list_iterator",data:=.fields #[.ref l,.int 0 0]}).DictOf (gm X.prog X.w) S []:=⟨_,#[],0,up _ _ eS,⟨rfl,rfl,rfl⟩,rfl,λ_ he=>by simp at he,.nil,bF⟩;refine zH (A:=X.A.in1) (l:=l) (items:=g.toArray) (ks:=K) (I.ok.hd hc) (d S _ eS) (d l _ C) (B l _ J) (by rw[as,aP]) g.length 0 _ [] (by simp) (bp _)
  ⟨_,by rw[<-E];exact aO _ rfl,rfl,rfl⟩ ⟨_,up _ _ C,rfl,n,rfl⟩ ag (by rw[cH,aP];lia) (λj O=>?_) λh' tk P ab=>?_
 obtain⟨R,k',u',v',z1,⟨o',U,z3⟩,z4,z5⟩:=T j (by simpa using O);exact⟨R,k',u',v',by simpa using z1,B R o' U,d R o' (D _ _ U),⟨o',up _ _ (D _ _ U),z3⟩,z4,z5⟩;rw[List.drop_zero]at P;have an:H S=none:=I.hok.fresh (cE L);have hm:(jo [] kvs).length<=sizeLine:=by have i:=kX kvs [];rw[cH]at i;rw[ci];lia
 refine⟨rfl,.ref S,upd H S (.dK (jo [] kvs)),I.laid (a:=S) (o:=.dK (jo [] kvs)) (h':=h') (t':=tk) (λb o z=>ab b o (B b o z) (d b o (D b o z)) (up b o (D b o z))) (cE L) (oE hm ?_ (ap.merge .nil) P),rfl,q S an⟩;exact beq_eq_false_iff_ne.mpr (Ne.symm (aX (L▸I.big)))
inductive Kw (a:Str)(Q:VK)(x:V)(H1:Hp):Prop
 |mk (z:Str)(_:x=.str z)(_:(reprText z).length<=1000)(_:Q (.str (Str.empty++a++reprText z)) H1)
def K9 (a:Str)(te:TE):TE:=λσ H Q=>te σ H λx H1=>Kw a Q x H1
theorem HK {a:Str}{e:eY}{te:TE}{k:Nat}{pa pf:Pos}(v:PE X e te)(A:a.length<=1000):PE X (.JoinedStr [.Constant (.str a) k pa,.FormattedValue e 114 none pf] pos) (K9 a te):=by
 intro b s σ H Q I h;refine wpAny_JoinedStr ?_;have d:∀n:Nat,n<=3000->n<=sizeLine:=λn o=>bz o (by decide);have g:(Str.empty:Str).length=0:=by decide +kernel
 refine Calls.Constant_str ⟨a,_,rfl,d _ (by rw[ca,g];lia),?_⟩;refine wpAny_FormattedValue_repr (hU (v b _ σ H _ (I.tok _) h) ?_);rintro u y ⟨x,i,m,j,z,p,C,q⟩;subst p;obtain⟨t,rfl⟩:=(show ∃t,u=Value.str z t from j);refine pyReprObj_str (hx:=d _ (by lia)) (formatField_str (hsz:=d _ (by lia)) λl B=>?_);refine⟨_,l,rfl,d _ (by rw[ca,ca,g];lia),?_⟩;exact⟨d _ (by rw[ca,ca,g];lia),.str _,i,(m.tok _).tok _,⟨_,rfl⟩,q⟩
end Lake
namespace Lake.FB
open PySem PyProof.Rows
variable {H:Hp}
abbrev Pk:=Str×Int
def jJ (H:Hp)(a:eQ)(ps:eW Pk):Prop:=∃xs,H a=some (.lst xs)/\ff (fX H) xs ps
def iu (H:Hp)(a:eQ)(ns:eW Nd):Prop:=∃zs,H a=some (.lst zs)/\ff (gX H) zs ns
def jJ.same {H':Hp}(e:fH H H'){a:eQ}{ps:eW Pk}(h:jJ H a ps):jJ H' a ps:=(by obtain⟨xs,h1,h2⟩:=h;exact⟨xs,e _ _ h1,Paired.LJ h2 λ_ _=>fX.same e⟩)
def iu.same {H':Hp}(e:fH H H'){a:eQ}{ns:eW Nd}(h:iu H a ns):iu H' a ns:=(by obtain⟨xs,h1,h2⟩:=h;exact⟨xs,e _ _ h1,Paired.LJ h2 λ_ _=>gX.same e⟩)
noncomputable def lM (ps:eW Pk):eW (io×V):=ps.map λk=>(Sum.inr k.1,V.int k.2)
noncomputable def kY (ps:eW Pk)(x:Str):fc Int:=(ps.find? λk=>decide (k.1=x)).map (·.2)
theorem lQ (x:Str):∀ps:eW Pk,fW (lM ps) (Sum.inr x:io)=(kY ps x).map V.int
 |[]=>rfl
 |k::ps=>by have ih:=lQ x ps;unfold lM kY at *;rw[aH];by_cases h:k.1=x;rw[ir (by rw[h]),bB,aq h];rfl;rw[il (λz=>h (Sum.inr.inj z)),ih,bB,aw h]
theorem ow:∀(ps qs:eW Pk),((qs++ps).map (·.1)).Nodup->jo (lM qs) (lM ps)=lM (qs++ps)
 |[],qs,_=>by rw[bZ];rfl
 |k::ps,qs,h=>by
  have hv:fW (lM qs) (Sum.inr k.1:io)=none:=by
   rw[lQ];have:kY qs k.1=none:=by unfold kY;rw[eG.mpr];rfl;intro x b a;rw[aC,bU]at h;exact h.2.2 x.1 (br b) k.1 (by simp) (ba a)
   rw[this];rfl
  show jo (gz (lM qs) (Sum.inr k.1) (V.int k.2)) (lM ps)=_;rw[iR _ hv];have e:lM qs++[((Sum.inr k.1:io),V.int k.2)]=lM (qs++[k]):=by unfold lM;rw[aC];rfl
  rw[e,ow ps (qs++[k]) (by rw[ce];exact h),ce];rfl
def Da {v:V}{k:Pk}(h:fX H v k):wS H v (Sum.inr k.1,V.int k.2):=h
theorem qt {H:Hp}:∀{xs:eW V} {ps:eW Pk},ff (fX H) xs ps->ff (wS H) xs (lM ps)
 |_,_,.nil=>.nil
 |_,_,.cons h t=>.cons (Da h) (qt t)
def u6 (ps:eW Pk)(n:Nd):Bool:=match kY ps n.1 with
 |none=>false
 |some z=>!(nH n z)
def l7 (ps:eW Pk)(n:Nd):Bool:=(kY ps n.1).isNone
def ji (es:eW En)(k:Pk):eW Nd:=match es.find? λe=>decide (fN e=k) with
 |some e=>e.2.2
 |none=>[]
def tE (es:eW En)(st:eW Nd)(ps:eW Pk):eW (eW Nd):=st::ps.map (ji es)
structure D1 (p:Nd->Bool)(L:eW (eW Nd))(i j:Nat):Prop where
 at_:∃ns n,L[i]?=some ns/\ns[j]?=some n/\p n=true/\∀m∈ns.take j,p m=false
 be:∀i' ns,i'<i->L[i']?=some ns->∀m∈ns,p m=false
def wU (p:Nd->Bool)(L:eW (eW Nd)):Prop:=∀ns∈L,∀m∈ns,p m=false
def lZ {es:eW En}(b:(es.map fN).Nodup){e:En}(d:e∈es):ji es (fN e)=e.2.2:=by
 unfold ji;have:es.find? (λx=>decide (fN x=fN e))=some e:=by induction es with|nil=>cases d|cons a es ih=>rw[aH,bb]at b;rw[bB];rcases ao.mp d with z|z;subst z;rw[aq rfl];have:¬fN a=fN e:=λy=>b.1 (y▸br z);rw[aw this];exact ih b.2 z
 rw[this]
def ia.start {C:eQ}{p st:eQ}{es:eW En}(B:ia C H p st es):∃dx dn dv,H p=some (.ins C dx (lj dn dv))/\iO H dn .non (some (.ref st))/\∀(v:V) (k:Pk),fX H v k->(k∉es.map fN/\iO H dn v none)\/(k∈es.map fN/\∃e∈es,fN e=k/\∃a zs,iO H dn v (some (.ref a))/\H a=some (.lst zs)/\ff (gX H) zs e.2.2):=by
 obtain⟨dx,dn,dv,m,A,y,g,o,D,E⟩:=B.ex;refine⟨dx,dn,dv,y,⟨_,none,g,rfl,by rw[ir rfl]⟩,λv k x=>?_⟩;obtain⟨q,rfl,t⟩:=x;have j:mJ H (some (jR k)) (.ref q):=⟨q,rfl,t⟩;have b:¬((none:hJ)=some (jR k)):=by intro z;cases z
 rcases sy o k with ⟨i,h⟩|⟨e,l,d,a,zs,i,h,s⟩;exact .inl ⟨i,_,_,g,j,by rw[il b,h]⟩;exact .inr ⟨d▸br l,e,l,d,a,zs,⟨_,_,g,j,by rw[il b,i]⟩,h,s⟩
end Lake.FB
namespace Lake
open PySem PySem.Spec PyProof.Rows
def Kt (K:fh)(a b:eQ):It:=
 ⟨λi H=>∃xs ys x y,gf K H a xs/\gf K H b ys/\xs[i]?=some x/\ys[i]?=some y,λi H v H'=>∃t x y,H t=none/\v=.ref t/\H'=upd H t (.tup [x,y])/\(∀xs,gf K H a xs->xs[i]?=some x)/\∀ys,gf K H b ys->ys[i]?=some y,λi H=>∃xs ys,gf K H a xs/\gf K H b ys/\(xs.length<=i\/ys.length<=i)⟩
def rB {h:fb}{n l1 l2:eQ}{xs ys:Array eR}{f0 a b:eR}{i:Nat}{m1 m2:eQ}(hz:IsZip h (n+4) (n+2) (n+3) f0)(J:IsPair h (n+3) a b)(H:h.IsListIter n m1 i)(A:h.IsListIter (n+1) m2 i)(m:h.IsList l1 xs)(j:h.IsList l2 ys):ZipApart (n+4) (n+2) (n+3) n (n+1) l1 l2:=by
 have out:∀{l:eQ} {s:Array eR},h.IsList l s->l≠n+4/\l≠n+3/\l≠n/\l≠n+1:=by intro l s y;obtain⟨o,e,g,_⟩:=y;obtain⟨N,E,L,_⟩:=H;obtain⟨M,K,v,_⟩:=A;refine⟨λz=>?_,λz=>?_,λz=>?_,λz=>?_⟩;rw[z,hz]at e;cases e;exact absurd g (show ¬(Value.type "zip" = Value.type "list") by decide);rw[z,J]at e;cases e;exact absurd g (show ¬(Value.type "tuple" = Value.type "list") by decide);rw[z,E]at e;cases e;rw[L]at g;exact absurd g (by decide);rw[z,K]at e;cases e;rw[v]at g;exact absurd g (by decide)
 obtain⟨F,G,I,t⟩:=out m;obtain⟨x,C,D,B⟩:=out j;have d:∀(p q:Nat),p≠q->n+p≠n+q:=λp q h z=>h (Nat.add_left_cancel z);exact⟨d 2 4 (by decide),d 3 4 (by decide),d 0 4 (by decide),d 1 4 (by decide),d 2 3 (by decide),d 2 0 (by decide),d 2 1 (by decide),d 3 0 (by decide),d 3 1 (by decide),d 0 1 (by decide),F,G,I,t,x,C,D,B⟩
def zJ {P:eV}{w:fe}{K:fh}{elts:eW eY}{k:Nat}{pos:Pos}(a b n:eQ):rq P w K (.Tuple elts k pos) (Kt K a b) [n+4,n+2,n+3,n,n+1] (n+4) (λi h=>IsZip h (n+4) (n+2) (n+3) .none/\IsPair h (n+2) (.ref n) (.ref (n+1))/\(∃a b,IsPair h (n+3) a b)/\h.IsListIter n a i/\h.IsListIter (n+1) b i) where
 mem:=by simp
 obj:=λi h B c e=>by
  obtain⟨C,J,⟨_,_,F⟩,⟨o4,e4,_,d4⟩,⟨o5,e5,_,d5⟩⟩:=B;simp only[ao,aU,or_false]at e;rcases e with rfl|rfl|rfl|rfl|rfl
  exact⟨_,C,λv z=>by have Z:Data.fields _=Data.cell v:=z;cases Z⟩;exact⟨_,J,λv z=>by have Z:Data.seq _=Data.cell v:=z;cases Z⟩;exact⟨_,F,λv z=>by have Z:Data.seq _=Data.cell v:=z;cases Z⟩;exact⟨o4,e4,λv z=>by rw[d4]at z;cases z⟩;exact⟨o5,e5,λv z=>by rw[d5]at z;cases z⟩
 keep:=λi h h' B t=>by
  obtain⟨C,J,⟨x,y,F⟩,M,Q⟩:=B;exact⟨t _ (by simp) _ C,t _ (by simp) _ J,⟨x,y,t _ (by simp) _ F⟩,M.at λo z=>t n (by simp) o z,Q.at λo z=>t (n+1) (by simp) o z⟩
 item:=by
  intro X Y hw hK e i g s σ H E I hf B hg;subst Y hw hK;obtain⟨xs,ys,x,y,hq,hr,hx,hy⟩:=hg;obtain⟨j,rv,p,hz⟩:=I.list hq;obtain⟨d,N,p2,ah⟩:=I.list hr;obtain⟨u,hu,ru⟩:=rv.get hx;obtain⟨v,hv,as⟩:=N.get hy;obtain⟨C,J,⟨c1,c2,F⟩,M,Q⟩:=B;have U:s.heap.IsList a j.toArray:=p.isList;have q:s.heap.IsList b d.toArray:=p2.isList;have D:=rB C F M Q U q;have Wz:=WalksT.zip2 (prog:=X.prog) (w:=X.w) (A:=X.A) (I.ok.hd e) _ _ _ _ _ a b D j.toArray d.toArray;have i1:i<j.toArray.size:=by have:=(aj.mp hu).1;simpa using this
  have i2:i<d.toArray.size:=by have:=(aj.mp hv).1;simpa using this
  refine Wz.item i s _ _ (by lia) ⟨C,J,⟨c1,c2,F⟩,M,Q,U,q⟩ λT a3 h' tk Y hT S hM t=>⟨.ref T,rfl,Wz.go elts k pos i T _ _ _ hM λap a0 ad=>?_⟩;have O:s.heap.get? T=none:=bo hT;have R:H T=none:=I.hok.fresh hT;have l:T∉[n+4,n+3,n,n+1]:=Wz.apart i T _ hM;have an:T≠n+2:=λz=>by rw[z,J]at O;cases O
  have L:∀c∈[n+4,n+3,n,n+1],jj X g H c:=λc e=>hf c (by simp only[ao,aU,or_false]at e ⊢;rcases e with z|z|z|z <;> simp[z])
  have I1:fR X g σ H {s with heap:=ap,toks:=tk}:=I.Mm (ch:=[n+4,n+3,n,n+1]) L λb o G z=>ad b o G (t b o G z);obtain⟨o,ho,a2,m,al⟩:=S;have ag:=ad T o l ho;obtain⟨u',v',ab,aa,rfl⟩:=Y;have e1:u'=u:=by
   have:j.toArray[i]?=some u:=by simpa using hu
   rw[this]at ab;exact(Option.some.inj ab).symm
  have e2:v'=v:=by
   have:d.toArray[i]?=some v:=by simpa using hv
   rw[this]at aa;exact(Option.some.inj aa).symm
  subst e1 e2;obtain⟨t1,t2,t3,t4,t5,_⟩:=a0;refine⟨.ref T,upd H T (.tup [x,y]),I1.adopt (I.Mf O R) ⟨by show 2<=sizeLine;decide,[u',v'],.cons ru (.cons as .nil),o,ag,a2,m,al⟩,rfl,⟨T,x,y,R,rfl,rfl,λzs hy=>by rw[I.LS hy hq];exact hx,λzs a1=>by rw[I.LS a1 hr];exact hy⟩,⟨t1,t2,t3,t4,t5⟩,λc e=>?_⟩;have:c≠T:=λz=>by
   subst z;simp only[ao,aU,or_false]at e l;rcases e with z|z|z|z|z
   exact l (.inl z);exact an z;exact l (.inr (.inl z));exact l (.inr (.inr (.inl z)));exact l (.inr (.inr (.inr z)))
  rw[fw this];exact(hf c e).1
 done:=by
  intro X Y hw hK e i g s σ H E I hf B hg;subst Y hw hK;obtain⟨xs,ys,hq,hr,hx⟩:=hg;obtain⟨j,rv,p,hz⟩:=I.list hq;obtain⟨d,N,p2,ah⟩:=I.list hr;obtain⟨C,J,⟨c1,c2,F⟩,M,Q⟩:=B;have U:s.heap.IsList a j.toArray:=p.isList;have q:s.heap.IsList b d.toArray:=p2.isList;have l1:=rv.length;have l2:=N.length;have L:∀c∈[n+4,n+3,n,n+1],jj X g H c:=λc e=>hf c (by simp only[ao,aU,or_false]at e ⊢;rcases e with z|z|z|z <;> simp[z])
  refine wpAny_pyNext_zip_end (I.ok.hd e) (rB C F M Q U q) C J F M Q U q ?_ λh' t=>⟨rfl,I.Mm (t':=s.toks) (ch:=[n+4,n+3,n,n+1]) L λb o G z=>?_⟩
  rcases hx with z|z
  left;simp;lia
  right;simp;lia
  simp only[ao,aU,or_false,not_or]at G;exact t b o G.1 G.2.1 G.2.2.1 G.2.2.2 z
 self:=λ_ _ _ _ _ B h=>wpAny_pyIter_zip B.1 h
def J5 (K:fh)(tl tm:TE):TI:=λσ H R=>tl σ H λx H1=>tm σ H1 λy H2=>∃a b xs ys,x=.ref a/\y=.ref b/\H2 a=some (.lst xs)/\H2 b=some (.lst ys)/\R (Kt K a b) H2
def Ff {X:Cx}{elts:eW eY}{k:Nat}{tpos p pos:Pos}{l m:eY}{tl tm:TE}(J:Gl X "zip")(hm:X.mg "zip" = none)(U:PE X l tl)(M:PE X m tm)(hs1:autoParam (starEach [m] X.env=[(false,eval m X.env)]) gq._auto_1)(hs:autoParam (starEach [l,m] X.env=[(false,eval l X.env),(false,eval m X.env)]) gq._auto_1):PI X (.Tuple elts k tpos) (.Call (.Name "zip" p) [l,m] [] pos) (J5 X.K tl tm):=by
 intro g s σ H R I h;refine bA (kC I J hm PyProof.Rows.boot_zip ?_ (by decide) (by decide));refine PyProof.Rows.callWith_type1 ?_ (by rw[hs,hs1]) (by rw[hs1];rfl);have P:=(fi U (fi M fq hs1) (by rw[hs,hs1])) pos g s σ H (λA e=>match A with|[x,y]=>(∃a b xs ys,x=.ref a/\y=.ref b/\e a=some (.lst xs)/\e b=some (.lst ys)/\R (Kt X.K a b) e)|_=>False) I h;refine hU P ?_;rintro us s1 ⟨A,e,d,r,F⟩
 match A,r,F with
 |[x,y],r,⟨a,b,xs,ys,e1,e2,hS,hT,q⟩=>subst e1 e2;obtain⟨u,v,rfl,G,Z⟩:=w9 r;cases (show u=Value.ref a from G);cases (show v=Value.ref b from Z);obtain⟨hz,B,n,rv,C⟩:=(show ib X.prog X.w e s1.heap a (.lst xs) from d.hok a _ hS);obtain⟨S,t,n2,Y,o⟩:=(show ib X.prog X.w e s1.heap b (.lst ys) from d.hok b _ hT);refine call_zip_2 (xs:=B.toArray) (ys:=t.toArray) ⟨_,C,rfl,_,rfl⟩ ⟨_,o,rfl,_,rfl⟩ λN D L g3 T g5 Q O=>?_;refine wpAny_pyIter_zip (s:={s1 with heap:=N}) D ?_;have i:∀j,s1.heap.get? (s1.heap.objs.size+j)=none:=λj=>bo (dB _ _);refine⟨s1.heap.objs.size+4,[s1.heap.objs.size+4,s1.heap.objs.size+2,s1.heap.objs.size+3,s1.heap.objs.size,s1.heap.objs.size+1],_,_,e,rfl,d.kept (t':=s1.toks) O,zJ a b s1.heap.objs.size,⟨D,L,⟨_,_,g3⟩,T,g5⟩,λc E=>?_,q⟩;have fr:∀j,jj X g e (s1.heap.objs.size+j)->True:=λ_ _=>trivial;simp only[ao,aU,or_false]at E;rcases E with z|z|z|z|z;subst z;exact d.Mf (i 4) (d.hok.fresh (dB _ _));subst z;exact d.Mf (i 2) (d.hok.fresh (dB _ _));subst z;exact d.Mf (i 3) (d.hok.fresh (dB _ _));subst z;exact d.Mf (i 0) (d.hok.fresh (am _));subst z;exact d.Mf (i 1) (d.hok.fresh (dB _ _))
end Lake
namespace Lake.FB
open PySem PyProof.Rows
variable {i:Int}
inductive Cc where
 |one (k:Pk)
 |many (bs:eW Int)
structure Rs where
 who:fc Pk
 place:Int
 told:Cc
abbrev Ln:=eW Pk×Rs
noncomputable def Ez:Cc->Str
 |.one _=>"outside"
 |.many _=>"open"
def iI (H:Hp)(v:V):fc Pk->Prop
 |none=>v=.non
 |some k=>fX H v k
def uj (H:Hp)(v:V):Cc->Prop
 |.one k=>fX H v k
 |.many bs=>∃a,v=.ref a/\H a=some (.lst (bs.map V.int))
def vp (H:Hp)(v:V)(r:Rs):Prop:=∃q wv tv,v=.ref q/\H q=some (.tup [.str (Ez r.told),wv,.int r.place,tv])/\iI H wv r.who/\uj H tv r.told
def iI.same {H H':Hp}(e:fH H H'){v:V}:∀{o:fc Pk},iI H v o->iI H' v o
 |none,h=>h
 |some _,h=>fX.same e h
noncomputable def kW {α:Type}(xs:eW α)(i:Int):fc α:=if 0<=i then xs[i.toNat]? else none
def pB {α:Type}{xs:eW α}{x:α}(h:kW xs i=some x):vd xs i=some x:=by unfold kW at h;by_cases h0:0<=i;rw[ay h0]at h;have:=pL h;rwa[Int.toNat_of_nonneg h0]at this;rw[ax h0]at h;cases h
theorem ou {α β:Type}{F:α->β->Prop}{as:eW α}{bs:eW β}{b:β}(h:ff F as bs)(d:kW bs i=some b):∃a,kW as i=some a/\F a b:=by unfold kW at d ⊢;by_cases h0:0<=i;rw[ay h0]at d ⊢;have o:=Paired.length h;have j:i.toNat<bs.length:=(aj.mp d).1;have g:as[i.toNat]?=some as[i.toNat]:=ar (by lia);obtain⟨m,e,l⟩:=Paired.Ml h g;rw[d]at e;cases e;exact⟨_,g,l⟩;rw[ax h0]at d;cases d
theorem jG {α:Type}(xs:eW α)(i:Nat):kW xs (i:Int)=xs[i]?:=by unfold kW;rw[ay (by lia),bW]
def Ba {α:Type}{xs:eW α}{x:α}(h:kW xs i=some x):x∈xs:=by unfold kW at h;by_cases h0:0<=i;rw[ay h0]at h;exact ak h;rw[ax h0]at h;cases h
def lE (es:eW En)(n:Nd):eW Int:=(jc es n).mergeSort λa b=>decide (b<=a)
theorem pS:∀{xs ys:eW Int},xs.Pairwise (· ≥ ·)->ys.Pairwise (· ≥ ·)->xs.Perm ys->xs=ys
 |[],ys,_,_,h=>(List.nil_perm.mp h).symm
 |x::xs,[],_,_,h=>absurd h.length_eq (by simp)
 |x::xs,y::ys,hx,hy,h=>by
  rw[List.pairwise_cons]at hx hy;have e:x=y:=by have a:x∈y::ys:=h.subset (bH ..);have b:y∈x::xs:=h.symm.subset (bH ..);rcases ao.mp a with z|z;exact z;rcases ao.mp b with y'|y';exact y'.symm;have:=hx.1 y y';have:=hy.1 x z;lia
  subst e;rw[pS hx.2 hy.2 ((List.perm_cons x).mp h)]
theorem uH {es:eW En}{n:Nd}{ms:eW Int}(h:ms.Perm (jc es n))(d:ms.Pairwise (· ≥ ·)):ms=lE es n:=by refine pS d ?_ (h.trans (List.mergeSort_perm _ _).symm);have:=List.pairwise_mergeSort (le:=λa b:Int=>decide (b<=a)) (λa b c e d=>by simp only[aG]at *;lia) (λa b=>by simp only[dO,aG];lia) (jc es n);exact this.imp λh=>ba h
def oU (es:eW En)(n:Nd):(lE es n).length<=es.length:=by unfold lE;rw[(List.mergeSort_perm _ _).length_eq];exact jH es n
def ju (es:eW En)(sn:eW Nd):fc Pk->eW Nd
 |none=>sn
 |some k=>ji es k
def GR (es:eW En)(ps:eW Pk):fc Pk->Bool
 |none=>true
 |some k=>decide (k∈ps)&&decide (k∈es.map fN)
def rn (n:Nd)(k:Pk):Bool:=decide (k.1=n.1)&&!(nH n k.2)
def zp (ls:eW Ln)(spot:Int)(ps:eW Pk)(x:Str)(b v:Int):Bool:=decide (0<=b)&&(decide (b<spot)&&match kW ls b with
 |none=>false
 |some l=>l.1.all λp=>decide (p∈ps)||decide (p=(x,v)))
def oX (es:eW En)(ls:eW Ln)(spot:Int)(ps:eW Pk)(n:Nd)(bs:eW Int):Bool:=
 decide (bs.length=(lE es n).length)&&(bs.zip (lE es n)).all λbv=>zp ls spot ps n.1 bv.1 bv.2
def GS (es:eW En)(ls:eW Ln)(spot:Int)(ps:eW Pk)(n:Nd):Cc->Bool
 |.one k=>decide (k∈ps)&&rn n k
 |.many bs=>oX es ls spot ps n bs
def l5 (es:eW En)(sn:eW Nd)(ls:eW Ln)(spot:Int)(l:Ln):Bool:=
 GR es l.1 l.2.who&&match kW (ju es sn l.2.who) l.2.place with
 |none=>false
 |some n=>GS es ls spot l.1 n l.2.told
end Lake.FB
namespace Lake
open PySem PySem.Spec PyProof.Rows
variable {A:eP}{D:lO}{E Q:eR->eU->Prop}{H:Hp}{K:fh}{P:eV}{X:Cx}{a d:eQ}{b:SI}{g:TG}{i m:Nat}{kvs:eW (hJ×V)}{o:Obj}{p:Array Nat}{pins:eW (eQ×Obj)}{s:eU}{tb:TS}{tg:eY}{σ:St}
theorem Aw {α β:Type}{F:α->β->Prop}:∀{as:eW α} {bs:eW β} {i:Nat} {a:α},ff F as bs->as[i]?=some a->∃b,bs[i]?=some b/\F a b
 |_,_,_,_,.nil,e=>by simp at e
 |_,_,0,_,.cons r _,e=>by simp at e;subst e;exact⟨_,rfl,r⟩
 |_,_,i+1,a,.cons _ t,e=>by obtain⟨b,h1,h2⟩:=Aw (i:=i) (a:=a) t (by simpa using e);exact⟨b,by simpa using h1,h2⟩
def D7:HO->Prop
 |.dK _=>True
 |.dN _=>True
 |_=>False
def fR.freeze {u:HO}(I:fR X pins σ H s)(e:H a=some u)(j:D7 u):∃o,s.heap.get? a=some o/\fR X pins σ (upd H a (.frz o u)) s:=by
 obtain⟨o,i⟩:=(I.hok a u e).some;have g:∀b v,H b=some v->¬D7 v->b≠a:=λb v q n z=>n (by rw[z,e]at q;cases q;exact j);have own:∀b x,H b=some (.own x)->upd H a (.frz o u) b=some (.own x):=λb x q=>by rw[fw (g b _ q λz=>z)];exact q
 have tup:∀b h,H b=some (.tup h)->upd H a (.frz o u) b=some (.tup h):=λb h q=>by rw[fw (g b _ q λz=>z)];exact q
 have J:=I.un (H':=upd H a (.frz o u)) (h':=s.heap) (t':=s.toks) ⟨λb _ q _ _ _=>q,λb d q _ _ _=>⟨d.slots,q⟩,λb d _ n _=>(by rw[fw (λz=>by rw[z,e]at n;cases n)];exact n),λb d q _=>⟨d,q⟩,tup,λb d v q=>(by rw[fw (g b _ q λz=>z)];exact q),λb l q=>⟨#[],by rw[fw (g b _ q λz=>z),q];simp⟩⟩ (λb v q=>by
   by_cases hb:b=a;subst hb;rw[fj]at q;cases q;exact⟨i,(I.hok b u e).LK (λ_ _ _ z=>z) (λc z=>own c b z) tup⟩;rw[fw hb]at q
   exact(I.hok b v q).LK (λ_ _ _ z=>z) (λc z=>own c b z) tup)
 exact⟨o,i,J⟩
inductive Ku (Q:VK)(x:V)(H1:Hp):Prop
 |mk (a u:_)(_:x=.ref a)(_:H1 a=some u)(_:D7 u)(_:∀o,Q x (upd H1 a (.frz o u)))
def K3 (te:TE):TE:=λσ H Q=>te σ H λx H1=>Ku Q x H1
def AD {e:eY}{te:TE}(j:PE X e te):PE X e (K3 te):=by intro b s σ H Q I h;refine hU (j b s σ H _ I h) ?_;rintro v y ⟨x,t,i,d,a,u,p,l,g,q⟩;obtain⟨o,_,m⟩:=i.freeze l g;exact⟨x,_,m,d,q o⟩
section
variable {w:fe}{it:eQ}{es:Array DictEntry}{ep:Nat}
def pH (a:s.heap.get? d=some o)(hx:o.ExactDict)(e:o.data=.dict es ep)(h:(d == sysModules)=false)(g:Q (.ref s.heap.objs.size) {s with heap:=s.heap.push {cls:=.type "dict_keyiterator",data:=.fields #[.ref d,.int 0 0,.int es.size 0,.int ep 0]}}):wpAny (model P w) A (pyIter (.ref d)) Q E s:=by have b:s.TypeIs (.ref d) "dict":=⟨o,a,hx.1⟩;refine wpAny_pyIter_slot b F.slot_dict_iter (cB F.slot_dict_iter b F.entry_dict_iter ?_ (F.args_dict_iter_1 _));unfold Builtin.«dict.__iter__»;refine ac ?_;unfold Builtin.Dict.dictSlotNone;refine ac (cZ b ?_);show wpAny _ _ (pure (Value.ref d)) _ _ s;refine av ?_;show wpAny _ _ (Builtin.Dict.showsAll d >>= _) _ _ s;unfold Builtin.Dict.showsAll;rw[ax (by rw[h];exact aV)];refine ac (av ?_);refine ac (dh a e (ac (bR a e ?_)));refine ac (dP (av ⟨_,rfl,"dict_keyiterator",_,⟨_,aO _ rfl,rfl⟩,F.slot_dict_keyiterator_next.lookup,?_⟩));simpa [rawInt] using g
def pA {Q:fc eR->eU->Prop}(a:s.heap.IsKeyIter it d i es.size ep)(j:s.heap.get? d=some o)(h:o.data=.dict es ep)(m:i<es.size)(p:∀h',h'.IsKeyIter it d (i+1) es.size ep->Heap.SameBut it s.heap h'->Q (some es[i].key) {s with heap:=h'}):wpAny (model P w) A (pyNext (.ref it)) Q E s:=by
 obtain⟨t,e,q,l⟩:=id a;unfold pyNext;refine ac (wpAny_attempt (dG (name:=Str.ofString "__next__") a.typeIs F.slot_dict_keyiterator_next (cB F.slot_dict_keyiterator_next a.typeIs F.entry_dict_keyiterator_next ?_ (F.args_dict_keyiterator_next_1 _))));refine ac (av ?_);refine ac ?_;refine ac ?_;first|(refine ac (cW a.typeIs (av ?_)))|(refine ac (dE a.typeIs (av ?_)))
 refine ac (wpAny_fieldsOf e l ?_);have g:Builtin.Dict_items.ownsTuple "dict_keyiterator" = false:=by decide +kernel
 simp only[g,cA,if_false];show wpAny _ _ (if (Value.ref d == Value.none)=true then _ else _) _ _ s;rw[ax (λz:(Value.ref d == Value.none)=true=>aV z)];refine ac (av ?_);refine ac (dh j h ?_);rw[ax (by simp)];refine ac (av ?_);refine ac (bR j h ?_);rw[ax (by simp)];refine av ?_;simp only[show ¬((i:Int)<0) by omega,if_false,bW,cm m];refine ac ?_;first|(refine ac (cW a.typeIs (av ?_)))|(refine ac (dE a.typeIs (av ?_)))
 refine ac (wpAny_isOneOf_keyiter a.typeIs ?_);show wpAny _ _ (setField (.ref it) 1 (rawInt ((i:Int)+1)) >>= _) _ _ s;refine ac (eJ e l (by simp) ?_);have b:(s.heap.update it (Obj.mapFields (·.setIfInBounds 1 (rawInt ((i:Int)+1))))).IsKeyIter it d (i+1) es.size ep:=⟨_,cf _ e (Obj.isFreed_of_fields (Obj.data_mapFields l _)),(Obj.cls_mapFields ..).trans q,by rw[Obj.data_mapFields l];simp[rawInt]⟩;refine ac (bw ?_);refine ac (wpAny_isOneOf_keyiter (s:={s with heap:=s.heap.update it (Obj.mapFields (·.setIfInBounds 1 (rawInt ((i:Int)+1))))}) b.typeIs ?_);show wpAny _ _ (pure es[i].key) _ _ _;exact av (av ⟨_,rfl,av (p _ b (Heap.SameBut.update ..))⟩)
end
section
variable {w:fe}{it:eQ}{es:Array DictEntry}{ep:Nat}
theorem wc {Q:fc eR->eU->Prop}(t:A.handled=none)(e:s.heap.IsKeyIter it d i es.size ep)(l:s.heap.get? d=some o)(h:o.data=.dict es ep)(p:es.size<=i)(v:∀h',Heap.ExtBut it s.heap h'->Q none {s with heap:=h'}):wpAny (model P w) A (pyNext (.ref it)) Q E s:=by
 obtain⟨x,j,y,q⟩:=id e;unfold pyNext;refine ac (wpAny_attempt (dG (name:=Str.ofString "__next__") e.typeIs F.slot_dict_keyiterator_next (cB F.slot_dict_keyiterator_next e.typeIs F.entry_dict_keyiterator_next ?_ (F.args_dict_keyiterator_next_1 _))));refine ac (av ?_);refine ac ?_;refine ac ?_;first|(refine ac (cW e.typeIs (av ?_)))|(refine ac (dE e.typeIs (av ?_)))
 refine ac (wpAny_fieldsOf j q ?_);have g:Builtin.Dict_items.ownsTuple "dict_keyiterator" = false:=by decide +kernel
 simp only[g,cA,if_false];show wpAny _ _ (if (Value.ref d == Value.none)=true then _ else _) _ _ s;rw[ax (λz:(Value.ref d == Value.none)=true=>aV z)];refine ac (av ?_);refine ac (dh l h ?_);rw[ax (by simp)];refine ac (av ?_);refine ac (bR l h ?_);rw[ax (by simp)];refine av ?_;simp only[show ¬((i:Int)<0) by lia,if_false,bW,Array.getElem?_eq_none p];refine ac ?_;first|(refine ac (cW e.typeIs (av ?_)))|(refine ac (dE e.typeIs (av ?_)))
 show wpAny _ _ (setField (.ref it) 0 .none >>= _) _ _ s;refine ac (eJ j q (by simp) ?_);show wpAny _ _ (newExc (.type "StopIteration") [] >>= _) _ _ _;refine ac ?_;simp only[newExc,newTuple];refine ac (dP ?_ (by size_fits));refine ac (m:=firstArgMember _ _) (wpAny_of_eq (a:=Value.none) (by first|rfl|(simp only[firstArgMember];rfl)) ?_);refine dP ?_ (by size_fits);simp only[raiseNew];refine ac (wpAny_handled ?_);rw[show A.in1.handled=none from t];refine ac (av (wpAny_throw ?_));refine ac (wpAny_isInstance (T:="StopIteration") (b:=true) ⟨_,aO _ rfl,rfl⟩ isSubtype_stop ?_);exact av (v _ (((Heap.SameBut.update ..).extBut.push _).push _))
end
def Gm (a:eQ)(o:Obj)(kvs:eW (io×V)):It:=
 ⟨λi H=>i<kvs.length/\H a=some (.frz o (.dK kvs)),λi H x H'=>H'=H/\∃kv,kvs[i]?=some kv/\x=kV kv.1,λi H=>kvs.length<=i/\H a=some (.frz o (.dK kvs))⟩
def GO (a:eQ)(o:Obj)(kvs:eW (hJ×V)):It:=
 ⟨λi H=>i<kvs.length/\H a=some (.frz o (.dN kvs)),λi H x H'=>H'=H/\∃kv,kvs[i]?=some kv/\mJ H kv.1 x,λi H=>kvs.length<=i/\H a=some (.frz o (.dN kvs))⟩
theorem oY {w:fe}{h:fb}{kvs:eW (io×V)}(ok:mj P w H h)(e:H a=some (.frz o (.dK kvs))):h.get? a=some o/\(a == sysModules)=false/\o.ExactDict/\∃es ep,o.data=.dict es ep/\es.size=kvs.length/\∀(i:Nat) (kv:io×V) (hi:i<es.size),kvs[i]?=some kv->gl (kV kv.1) es[i].key:=by
 obtain⟨d,q⟩:=(show h.get? a=some o/\ib P w H h a (.dK kvs) from ok a _ e);obtain⟨z,y,b,r,A,es,ep,l,p,s,C,m,B⟩:=q;rw[d]at l;cases l;have D:es.size=b.length:=by rw[<-m.length];simp
 have E:kvs.length=b.length:=Paired.length r;refine⟨d,y,p,es,ep,s,by lia,λi kv hi t=>?_⟩;have j:b[i]?=some b[i]:=ar (by lia);obtain⟨u,g,x⟩:=Aw r t;rw[j]at g;cases g;have:=(m.get? (e:=es[i]) (k:=b[i].1) (v:=b[i].2) (by simp[hi]) j).1;rw[show kv.1=b[i].1 from x.1];exact wu this
theorem BC {w:fe}{h:fb}(ok:mj P w H h)(e:H a=some (.frz o (.dN kvs))):h.get? a=some o/\(a == sysModules)=false/\o.ExactDict/\∃es ep,o.data=.dict es ep/\es.size=kvs.length/\∀(i:Nat) (kv:hJ×V) (hi:i<es.size),kvs[i]?=some kv->∃x,gl x es[i].key/\mJ H kv.1 x:=by
 obtain⟨g,q⟩:=(show h.get? a=some o/\ib P w H h a (.dN kvs) from ok a _ e);obtain⟨z,C,j,r,F,es,ep,p,s,v,m,J⟩:=q;rw[g]at p;cases p;have G:es.size=j.length:=by rw[<-bu,m,ae]
 have I:kvs.length=j.length:=Paired.length r;refine⟨g,C,s,es,ep,v,by lia,λi kv hi y=>?_⟩;obtain⟨u,t,B⟩:=Aw r y;have l:es.toList[i]?=some (uW P w u):=by rw[m,ai,t];rfl
 rw[bL,cm hi]at l;rw[Option.some.inj l];obtain⟨E,d,_⟩:=B;show ∃x,gl x u.2.1/\mJ H kv.1 x;revert d;cases kv.1 with|none=>exact λd=>⟨.non,d,rfl⟩|some ks=>exact(by rintro⟨b,A,D⟩;exact⟨.ref b,A,b,rfl,D⟩)
theorem xa {w:fe}(a l:eQ)(o:Obj)(es:Array DictEntry)(ep:Nat)(kvs:eW (io×V))(hd:o.data=.dict es ep)(hl:es.size=kvs.length):rq P w K tg (Gm a o kvs) [l] l (λi h=>h.IsKeyIter l a i es.size ep) where
 mem:=by simp
 obj:=λi h d b j=>by
  obtain⟨Q,e,c,J⟩:=d;rw[af.mp j];exact⟨Q,e,λv z=>by rw[J]at z;cases z⟩
 keep:=λi h t d k=>d.at λo e=>k l (by simp) o e
 item:=by
  intro X M D C S i g s σ H E I x d ⟨R,y⟩;subst M D C;obtain⟨A,B,f2,N,L,G⟩:=x l (by simp);obtain⟨F,hS,hx,Z,U,q,aa,hr⟩:=oY I.hok y;rw[hd]at q;cases q;have m:i<es.size:=by lia
  have O:kvs[i]?=some kvs[i]:=ar R;refine pA d F hd m λt p sb=>?_;have T:fR X g σ H {s with heap:=t}:=I.turned (t':=s.toks) (λb o j e=>(sb.2 b j).trans e) A B N L G;obtain⟨Q,e,c,J⟩:=id p;exact⟨_,rfl,rY (s:={s with heap:=t}) e c J (by decide) ⟨kV kvs[i].1,H,T,hr i _ m O,⟨rfl,_,O,rfl⟩,p,λb j=>(x b j).1⟩⟩
 done:=by
  intro X M D C S i g s σ H E I x d ⟨R,y⟩;subst M D C;obtain⟨A,B,f2,N,L,G⟩:=x l (by simp);obtain⟨F,_⟩:=oY I.hok y;exact wc (I.ok.hd S) d F hd (by lia) λt Y=>⟨rfl,I.turned (t':=s.toks) (λb o j e=>Y b o j e) A B N L G⟩
 self:=λ_ _ _ _ _ d h=>wpAny_pyIter_keyiter d h
theorem Cs {w:fe}(a l:eQ)(o:Obj)(es:Array DictEntry)(ep:Nat)(kvs:eW (hJ×V))(hd:o.data=.dict es ep)(hl:es.size=kvs.length):rq P w K tg (GO a o kvs) [l] l (λi h=>h.IsKeyIter l a i es.size ep) where
 mem:=by simp
 obj:=λi h d b j=>by
  obtain⟨R,e,c,L⟩:=d;rw[af.mp j];exact⟨R,e,λv z=>by rw[L]at z;cases z⟩
 keep:=λi h t d k=>d.at λo e=>k l (by simp) o e
 item:=by
  intro X N F D T i g s σ H E I y d ⟨S,A⟩;subst N F D;obtain⟨B,C,f2,O,M,J⟩:=y l (by simp);obtain⟨G,hS,hx,aa,Z,q,ab,hr⟩:=BC I.hok A;rw[hd]at q;cases q;have m:i<es.size:=by lia
  have Q:kvs[i]?=some kvs[i]:=ar S;obtain⟨x,rx,U⟩:=hr i _ m Q;refine pA d G hd m λt p sb=>?_;have Y:fR X g σ H {s with heap:=t}:=I.turned (t':=s.toks) (λb o j e=>(sb.2 b j).trans e) B C O M J;obtain⟨R,e,c,L⟩:=id p;exact⟨_,rfl,rY (s:={s with heap:=t}) e c L (by decide) ⟨x,H,Y,rx,⟨rfl,_,Q,U⟩,p,λb j=>(y b j).1⟩⟩
 done:=by
  intro X N F D T i g s σ H E I y d ⟨S,A⟩;subst N F D;obtain⟨B,C,f2,O,M,J⟩:=y l (by simp);obtain⟨G,_⟩:=BC I.hok A;exact wc (I.ok.hd T) d G hd (by lia) λt eb=>⟨rfl,I.turned (t':=s.toks) (λb o j e=>eb b o j e) B C O M J⟩
 self:=λ_ _ _ _ _ d h=>wpAny_pyIter_keyiter d h
section
variable {l:eY}{tl:TE}
inductive KC (R:It->Hp->Prop)(x:V)(H1:Hp):Prop
 |mk (a o kvs:_)(_:x=.ref a)(_:H1 a=some (.frz o (.dK kvs)))(_:R (Gm a o kvs) H1)
def Ls (tl:TE):TI:=λσ H R=>tl σ H λx H1=>KC R x H1
def Av (z:PE X l tl):PI X tg l (Ls tl):=by intro d s σ H R I h;refine hU (z d s σ H _ I h) ?_;rintro v j ⟨x,y,g,A,a,o,i,p,J,q⟩;subst p;cases (show v=Value.ref a from A);obtain⟨t,G,D,B,F,m,E,_⟩:=oY g.hok J;refine pH t D m G ⟨j.heap.objs.size,[j.heap.objs.size],_,_,y,rfl,g.kept (t':=j.toks) λb o e=>az _ e,xa a _ o B F i m E,⟨_,aO _ rfl,rfl,rfl⟩,λb C=>?_,q⟩;rw[af.mp C];exact g.LX (am _) (g.hok.fresh (am _))
end
theorem wx {J:It}{n:Nat}(a:Nat->St->Hp->Prop)(o:a 0 σ H)(h:∀i σ H,i<n->a i σ H->J.go i H)(e:∀σ H,a n σ H->J.stop n H)(l:∀i x σ H H',i<n->J.yld i H x H'->a i σ H->g x σ H' λσ2 H2=>tb {D with nx:=a (i+1),ct:=a (i+1),bk:=D.nx} σ2 H2)(d:∀σ H,a n σ H->D.nx σ H):∃Wz:Nat->Nat->St->Hp->Prop,(∃m,Wz 0 m σ H)/\∀i m σ H,Wz i m σ H->(J.stop i H/\D.nx σ H)\/(J.go i H/\∃N:St->Hp->Prop,(∀σ' H',N σ' H'->∃m',m'<m/\Wz (i+1) m' σ' H')/\∀x H',J.yld i H x H'->g x σ H' λσ2 H2=>tb {D with nx:=N,ct:=N,bk:=D.nx} σ2 H2):=by refine⟨λi m σ H=>m=n-i/\i<=n/\a i σ H,⟨n,by simp,bp _,o⟩,?_⟩;rintro i m σ H ⟨rfl,q,p⟩;rcases eD i n with b|hge;exact .inr ⟨h i σ H b p,a (i+1),λσ' H' j=>⟨n-(i+1),by lia,rfl,b,j⟩,λx H' y=>l i x σ H H' b y p⟩;obtain rfl:i=n:=Nat.le_antisymm q hge;exact .inl ⟨e σ H p,d σ H p⟩
def tZ {kvs:eW (io×V)}(Pv:Nat->St->Hp->Prop)(h0:Pv 0 σ H)(hl:∀i σ H,i<=kvs.length->Pv i σ H->H a=some (.frz o (.dK kvs)))(hs:∀i kv σ H,kvs[i]?=some kv->Pv i σ H->g (kV kv.1) σ H λσ2 H2=>tb {D with nx:=Pv (i+1),ct:=Pv (i+1),bk:=D.nx} σ2 H2)(hd:∀σ H,Pv kvs.length σ H->D.nx σ H):∃Wz:Nat->Nat->St->Hp->Prop,(∃m,Wz 0 m σ H)/\∀i m σ H,Wz i m σ H->((Gm a o kvs).stop i H/\D.nx σ H)\/((Gm a o kvs).go i H/\∃N:St->Hp->Prop,(∀σ' H',N σ' H'->∃m',m'<m/\Wz (i+1) m' σ' H')/\∀x H',(Gm a o kvs).yld i H x H'->g x σ H' λσ2 H2=>tb {D with nx:=N,ct:=N,bk:=D.nx} σ2 H2):=
 wx Pv h0 (λi σ H hi p=>⟨hi,hl i σ H (bY hi) p⟩) (λσ H p=>⟨am _,hl _ σ H (am _) p⟩) (λi x σ H H' hi y p=>by
  obtain⟨rfl,kv,hk,rfl⟩:=y
  exact hs i kv σ _ hk p) hd
def wy (Pv:Nat->St->Hp->Prop)(h0:Pv 0 σ H)(hl:∀i σ H,i<=kvs.length->Pv i σ H->H a=some (.frz o (.dN kvs)))(hs:∀i kv x σ H,kvs[i]?=some kv->mJ H kv.1 x->Pv i σ H->g x σ H λσ2 H2=>tb {D with nx:=Pv (i+1),ct:=Pv (i+1),bk:=D.nx} σ2 H2)(hd:∀σ H,Pv kvs.length σ H->D.nx σ H):∃Wz:Nat->Nat->St->Hp->Prop,(∃m,Wz 0 m σ H)/\∀i m σ H,Wz i m σ H->((GO a o kvs).stop i H/\D.nx σ H)\/((GO a o kvs).go i H/\∃N:St->Hp->Prop,(∀σ' H',N σ' H'->∃m',m'<m/\Wz (i+1) m' σ' H')/\∀x H',(GO a o kvs).yld i H x H'->g x σ H' λσ2 H2=>tb {D with nx:=N,ct:=N,bk:=D.nx} σ2 H2):=
 wx Pv h0 (λi σ H hi p=>⟨hi,hl i σ H (bY hi) p⟩) (λσ H p=>⟨am _,hl _ σ H (am _) p⟩) (λi x σ H H' hi y p=>by
  obtain⟨rfl,kv,hk,kx⟩:=y
  exact hs i kv x σ _ hk kx p) hd
theorem xL {J:It}{n:Nat}{tt:TT}{te:TE}{σ':St}{H1:Hp}{Q:VK}(a:eQ->Nat->eW V->Hp->Prop)(q:∀D,H1 D=none->a D 0 [] (upd H1 D (.lst [])))(o:∀D i ys H,i<=n->a D i ys H->(i<n->J.go i H)/\(i=n->J.stop i H)/\H D=some (.lst ys)/\ys.length<sizeLine)(s:∀D i x ys H H2,i<n->J.yld i H x H2->a D i ys H->g x σ' H2 λσ2 H3=>tt σ2 H3 λb H4=>if b=true then te σ2 H4 λy H5=>H5 D=some (.lst ys)/\a D (i+1) (ys++[y]) (upd H5 D (.lst (ys++[y]))) else a D (i+1) ys H4)(j:∀D ys H,a D n ys H->Q (.ref D) H):o0 J g tt te σ' H1 Q:=by intro D t;refine⟨λi m ys H=>m=n-i/\i<=n/\a D i ys H,⟨n,by simp,bp _,q D t⟩,?_⟩;rintro i m ys H ⟨rfl,e,p⟩;obtain⟨l,q1,q2,z⟩:=o D i ys H e p;refine⟨q2,z,?_⟩;rcases eD i n with d|hge;exact .inr ⟨l d,a D (i+1),λA h v=>⟨n-(i+1),by lia,rfl,d,v⟩,λx h y=>s D i x ys H h d y p⟩;obtain rfl:i=n:=Nat.le_antisymm e hge;exact .inl ⟨q1 rfl,j D ys H p⟩
def GN (K:fh)(a:eQ)(xs:eW V):It:=
 ⟨λi H=>i<xs.length/\gf K H a xs,λi H x H'=>H'=H/\xs[xs.length-1-i]?=some x,λi _=>xs.length<=i⟩
def zK {w:fe}(a q:eQ)(xs:eW V):rq P w K tg (GN K a xs) [q] q (λi h=>i<=xs.length/\h.IsRevIter q a ((xs.length:Int)-1-(i:Int))) where
 mem:=by simp
 obj:=λi h g b l=>by
  obtain⟨_,O,e,c,J⟩:=g;rw[af.mp l];exact⟨O,e,λv z=>by rw[J]at z;cases z⟩
 keep:=λi h t g k=>⟨g.1,g.2.at λo e=>k q (by simp) o e⟩
 item:=by
  intro X M F D R i j s σ H E I y g ⟨hi,A⟩;subst M F D;obtain⟨B,C,f2,N,L,G⟩:=y q (by simp);obtain⟨U,Y,p,hz⟩:=I.list A;have Q:xs[xs.length-1-i]?=some xs[xs.length-1-i]:=ar (by omega);obtain⟨u,hu,ru⟩:=Y.get Q;have d:=g.2;rw[show(xs.length:Int)-1-(i:Int)=((xs.length-1-i:Nat):Int) by omega]at d;refine wpAny_pyNext_rev_item d p.isList (x:=u) (by simpa using hu) λt m sb=>?_;rw[show((xs.length-1-i:Nat):Int)-1=(xs.length:Int)-1-((i+1:Nat):Int) by omega]at m;have S:fR X j σ H {s with heap:=t}:=I.turned (t':=s.toks) (λb o l e=>(sb.2 b l).trans e) B C N L G;obtain⟨O,e,c,J⟩:=id m;exact⟨_,rfl,rY (s:={s with heap:=t}) e c J (by decide) ⟨_,H,S,ru,⟨rfl,Q⟩,⟨hi,m⟩,λb l=>(y b l).1⟩⟩
 done:=by
  intro X M F D R i j s σ H E I y g A;subst M F D;obtain⟨B,C,f2,N,L,G⟩:=y q (by simp);have d:=g.2;have h1:=g.1;have T:xs.length<=i:=A;rw[show(xs.length:Int)-1-(i:Int)=-1 by omega]at d;exact wpAny_pyNext_rev_end (I.ok.hd R) d λt Z=>⟨rfl,I.turned (t':=s.toks) (λb o l e=>Z b o l e) B C N L G⟩
 self:=λ_ _ _ _ _ g h=>wpAny_pyIter_revIter g.2 h
def J7 (K:fh)(tl:TE):TI:=λσ H R=>tl σ H λx H1=>∃a xs,x=.ref a/\gf K H1 a xs/\R (GN K a xs) H1
def Fh {l:eY}{tl:TE}{p pos:Pos}(D:Gl X "reversed")(E:X.mg "reversed" = none)(y:PE X l tl)(hs:autoParam (starEach [l] X.env=[(false,eval l X.env)]) gq._auto_1):PI X tg (.Call (.Name "reversed" p) [l] [] pos) (J7 X.K tl):=by
 intro i s σ H R I h;refine bA (kC I D E PyProof.Rows.Boot.«reversed» ?_ (by decide) (by decide));refine PyProof.Rows.callWith_type1 ?_ hs rfl;have F:=(fi y fq hs) pos i s σ H (λt j=>match t with|[x]=>(∃a xs,x=.ref a/\gf X.K j a xs/\R (GN X.K a xs) j)|_=>False) I h;refine hU F ?_;rintro J s1 ⟨t,j,m,r,v⟩
 match t,r,v with
 |[x],r,⟨a,xs,e2,hS,q⟩=>subst e2;obtain⟨u,rfl,z⟩:=jA r;cases (show u=Value.ref a from z);obtain⟨d,G,A,L⟩:=m.list hS;have B:d.length=xs.length:=G.length.symm;refine call_reversed_list A.isList ?_;have g:(s1.heap.push (revObj a ((d.toArray.size:Int)-1))).get? s1.heap.objs.size=some (revObj a ((d.toArray.size:Int)-1)):=aO _ rfl;refine wpAny_pyIter_revIter (s:={s1 with heap:=s1.heap.push (revObj a ((d.toArray.size:Int)-1))}) ⟨_,g,rfl,rfl⟩ ?_;refine⟨s1.heap.objs.size,[s1.heap.objs.size],_,_,j,rfl,m.kept (t':=s1.toks) λb o e=>az _ e,zK a _ xs,⟨bp _,_,g,rfl,?_⟩,λb C=>?_,q⟩;show(revObj a ((d.toArray.size:Int)-1)).data=_;rw[aP,B];simp[revObj];rw[af.mp C];exact m.LX (am _) (m.hok.fresh (am _))
def DH {xs:eW V}(Pv:Nat->St->Hp->Prop)(h0:Pv 0 σ H)(hl:∀i σ H,i<xs.length->Pv i σ H->gf K H a xs)(hs:∀i x σ H,i<xs.length->xs[xs.length-1-i]?=some x->Pv i σ H->g x σ H λσ2 H2=>tb {D with nx:=Pv (i+1),ct:=Pv (i+1),bk:=D.nx} σ2 H2)(hd:∀σ H,Pv xs.length σ H->D.nx σ H):∃Wz:Nat->Nat->St->Hp->Prop,(∃m,Wz 0 m σ H)/\∀i m σ H,Wz i m σ H->((GN K a xs).stop i H/\D.nx σ H)\/((GN K a xs).go i H/\∃N:St->Hp->Prop,(∀σ' H',N σ' H'->∃m',m'<m/\Wz (i+1) m' σ' H')/\∀x H',(GN K a xs).yld i H x H'->g x σ H' λσ2 H2=>tb {D with nx:=N,ct:=N,bk:=D.nx} σ2 H2):=
 wx Pv h0 (λi σ H hi p=>⟨hi,hl i σ H hi p⟩) (λσ H p=>am _) (λi x σ H H' hi y p=>by
  obtain⟨rfl,hk⟩:=y
  exact hs i x σ _ hi hk p) hd
theorem lY (ns:eW Int):∀j,j<=ns.length->preSum (λi=>ns.getD i 0) j=(ns.take j).sum
 |0,_=>by simp[preSum]
 |j+1,h=>by
  have e:=lY ns j (by omega);have h2:ns.take (j+1)=ns.take j++[ns[j]]:=by rw[aZ,ar (show j<ns.length by omega)];rfl
  rw[preSum,e,h2,List.sum_append,bi,ar (show j<ns.length by omega)];simp
def zi (hc:X.calm=true):j6 X (.builtin "sum") (λxs H Q=>∃(a:eQ) (ns:eW Int),xs=[.ref a]/\gf X.K H a (ns.map V.int)/\(∀j,j<ns.length->0<=ns.getD j 0)/\ns.sum<2^63/\Q (.int ns.sum) H):=by
 intro R s σ H xs us Q I r h;obtain⟨a,ns,rfl,hS,N,aa,q⟩:=h;obtain⟨u,rfl,U⟩:=jA r;cases (show u=Value.ref a from U);obtain⟨d,P,p,hz⟩:=I.list hS;have m:d.length=ns.length:=by rw[<-P.length,ae]
 have g:∀(l:eW Int),(∀x∈l,0<=x)->0<=l.sum:=λl=>by induction l with|nil=>intro _;simp|cons x l ih=>intro z;rw[List.sum_cons];have:=z x (by simp);have:=ih λy C=>z y (by simp[C]);omega
 have S:∀x∈ns,0<=x:=λx z=>by obtain⟨j,D,e⟩:=List.mem_iff_getElem.mp z;have:=N j D;rw[bi,ar D]at this;rw[<-e];exact this
 have M:∀j,(ns.take j).sum<=ns.sum:=λj=>by
  have:ns.sum=(ns.take j).sum+(ns.drop j).sum:=by rw[<-List.sum_append,List.take_append_drop]
  have:=g (ns.drop j) λx z=>S x (List.mem_of_mem_drop z);omega
 refine call_sum_walk (wpAny_pyIter_list p.isList ?_);have E:a≠s.heap.objs.size:=by obtain⟨o,L,_⟩:=p.isList;exact aX (aS L)
 have J:a<s.heap.objs.size:=by obtain⟨o,L,_⟩:=p.isList;exact aS L
 refine⟨s.heap.objs.size,_,_,d.toArray.size,_,_,λi=>ns.getD i 0,rfl,Walks.list (prog:=X.prog) (w:=X.w) (A:=X.A.in1) (I.ok.hd hc) _ a E d.toArray,⟨⟨_,aO _ rfl,rfl,rfl⟩,p.isList.push _⟩,λb O=>?_,λi v hv=>?_,λj D=>?_,λh' Z t' Y=>?_⟩;rw[eL];simp only[ao,aU,or_false]at O;rcases O with rfl|rfl;exact dA _;exact dR J;have G:d[i]?=some v:=by simpa using hv
 obtain⟨y,C,ry⟩:=Aw (F:=λu x=>gl x u) (as:=d) (bs:=ns.map V.int) (by
  have:∀{as:eW V} {bs:eW eR},g0 as bs->ff (λu x=>gl x u) bs as:=λq=>by induction q with|nil=>exact .nil|cons r _ ih=>exact .cons r ih
  exact this P) G
 rw[ai]at C;obtain⟨n,hn,rfl⟩:=aF.mp C;show ∃t,v=Value.int (ns.getD i 0) t;rw[bi,hn];exact ry;have B:j<ns.length:=by simpa [m] using D
 have h1:=M (j+1);have h3:=g (ns.take j) λx z=>S x (cD z);have h5:(ns.take (j+1)).sum=(ns.take j).sum+ns.getD j 0:=by
  have T:ns.take (j+1)=ns.take j++[ns[j]]:=by rw[aZ,ar B];rfl
  rw[T,List.sum_append,bi,ar B];simp
 have h4:=N j B;rw[lY ns (j+1) (by omega)];dsimp only;unfold InLong;omega;refine⟨.int ns.sum,H,I.kept (t':=Z) λb o e=>?_,⟨t',?_⟩,q⟩;exact Y b o (by simpa using aX (aS e)) (az _ e);rw[aP,m,lY ns ns.length (am _),aN]
theorem oA {α:Type} [BEq α] [LawfulBEq α]:∀{l:eW α} {k:α} {m:Nat} (hm:m<l.length),m<l.idxOf k->¬l[m]=k
 |a::l,k,0,_,h,e=>by have e':a=k:=e;rw[e',List.idxOf_cons_self]at h;exact absurd h (cU _)
 |a::l,k,m+1,hm,h,e=>by by_cases ha:a=k;rw[ha,List.idxOf_cons_self]at h;exact absurd h (cq _);rw[List.idxOf_cons,beq_false_of_ne ha]at h;exact oA (l:=l) (by simpa using hm) (Nat.lt_of_succ_lt_succ h) e
def yM:GL X "list.index" (λx vs H Q=>∃(l:eQ) (ss:eW Str) (k:Str),x=.ref l/\vs=[.str k]/\H l=some (.lst (ss.map V.str))/\k∈ss/\Q (.int (ss.idxOf k:Nat)) H):=by
 intro C s σ H x vs v P Q I L E h;obtain⟨l,ss,k,rfl,rfl,K,D,q⟩:=h;cases (show v=Value.ref l from L);obtain⟨u,rfl,t,rfl⟩:=jA E;obtain⟨z,b,n,r,e⟩:=(show ib X.prog X.w H s.heap l (.lst (ss.map V.str)) from I.hok l _ K);have o:b.length=ss.length:=by rw[<-r.length,ae]
 have O:ss.length<=16777216:=by rw[ae,ci]at z;exact z
 have d:∀(m:Nat) (i:m<b.length),∃g,b[m]=.str (ss[m]'(by omega)) g:=λm i=>by
  have M:(ss.map V.str)[m]?=some (V.str (ss[m]'(by omega))):=by rw[ai,ar (by omega)];rfl
  obtain⟨w,B,g,e⟩:=r.get M;rw[ar i]at B;exact⟨g,by rw[Option.some.inj B];exact e⟩
 have N:ss.idxOf k<ss.length:=bD.mpr D;refine eM dL ⟨_,e,rfl⟩ PySem.F.entry_list_index (PySem.F.args_list_index_2 _ _)
  (SeqAt.list_indexAt l b.toArray n none #[] (.str k t) (λv=>match v with|.str a _=>a == k|_=>false) (ss.idxOf k) (by simpa [o] using N) (by omega) ?_ ?_) ⟨e,λy J=>?_,⟨.int (ss.idxOf k:Nat),H,I.tok _,⟨_,rfl⟩,q⟩⟩
 obtain⟨g,j⟩:=d (ss.idxOf k) (by omega);show(match b[ss.idxOf k]'(by omega) with|.str a _=>a == k|_=>false)=true;rw[j];simp;intro m i p;have A:m<b.length:=by simpa using i
 obtain⟨g,j⟩:=d m A;show(match b[m] with|.str a _=>a == k|_=>false)=false;rw[j];have:¬ss[m]'(by omega)=k:=oA (by omega) p;simpa using this;obtain⟨m,i,G⟩:=List.mem_iff_getElem.mp (show y∈b by simpa using J);obtain⟨g,j⟩:=d m i;rw[<-G,j];exact SeqAt.EqAt.str_str _ _ _ _
def yN:GL X "list.index" (λx vs H Q=>∃(l:eQ) (bs:eW Bool),x=.ref l/\vs=[.bl true]/\H l=some (.lst (bs.map V.bl))/\true∈bs/\Q (.int (bs.idxOf true:Nat)) H):=by
 intro A s σ H x vs v O Q I J C h;obtain⟨l,d,rfl,rfl,G,B,q⟩:=h;cases (show v=Value.ref l from J);obtain⟨u,rfl,M⟩:=jA C;cases (show u=Value.bool true from M);obtain⟨z,b,n,r,e⟩:=(show ib X.prog X.w H s.heap l (.lst (d.map V.bl)) from I.hok l _ G);have j:b.length=d.length:=by rw[<-r.length,ae]
 have N:d.length<=16777216:=by rw[ae,ci]at z;exact z
 have g:∀(m:Nat) (i:m<b.length),b[m]=.bool (d[m]'(by omega)):=λm i=>by
  have K:(d.map V.bl)[m]?=some (V.bl (d[m]'(by omega))):=by rw[ai,ar (by omega)];rfl
  obtain⟨w,t,e⟩:=r.get K;rw[ar i]at t;rw[Option.some.inj t];exact e
 have L:d.idxOf true<d.length:=bD.mpr B;refine eM dL ⟨_,e,rfl⟩ PySem.F.entry_list_index (PySem.F.args_list_index_2 _ _)
  (SeqAt.list_indexAt l b.toArray n none #[] (.bool true) (λv=>match v with|.bool a=>a == true|_=>false) (d.idxOf true) (by simpa [j] using L) (by omega) ?_ ?_) ⟨e,λy E=>?_,⟨.int (d.idxOf true:Nat),H,I.tok _,⟨_,rfl⟩,q⟩⟩
 show(match b[d.idxOf true]'(by omega) with|.bool a=>a == true|_=>false)=true;rw[g (d.idxOf true) (by omega)];simp;intro m i o;have p:m<b.length:=by simpa using i
 show(match b[m] with|.bool a=>a == true|_=>false)=false;rw[g m p];have:¬d[m]'(by omega)=true:=oA (by omega) o;simpa using this;obtain⟨m,i,D⟩:=List.mem_iff_getElem.mp (show y∈b by simpa using E);rw[<-D,g m i];exact SeqAt.EqAt.bool_bool _ _
inductive IR (x:V)(y:V)(H:Hp)(Q:VK):Prop
 |mk (i j:_)(_:x=.int i)(_:y=.int j)(_:Q (.int (Builtin.bitOr i j)) H)
def HG:V->V->Hp->VK->Prop:=λx y H Q=>IR x y H Q
inductive Gy (x:V)(y:V)(H:Hp)(Q:VK):Prop
 |mk (i j:_)(_:x=.int i)(_:y=.int j)(_:Q (.int (Builtin.bitAnd i j)) H)
def HH:V->V->Hp->VK->Prop:=λx y H Q=>Gy x y H Q
def Bu:Gz X .BitOr HG:=by rintro b s σ H x y u v Q I d e ⟨i,j,rfl,rfl,q⟩;obtain⟨t,rfl⟩:=(show ∃t,u=Value.int i t from d);obtain⟨a,rfl⟩:=(show ∃a,v=Value.int j a from e);exact PyProof.Rows.ior_int ⟨.int _,H,I.tok _,⟨_,rfl⟩,q⟩
def uN:ID X .BitOr HG:=λpins s σ H x y u v Q I rx ry h=>Bu pins s σ H x y u v Q I rx ry h
def FR:ID X .BitAnd HH:=by rintro b s σ H x y u v Q I d e ⟨i,j,rfl,rfl,q⟩;obtain⟨t,rfl⟩:=(show ∃t,u=Value.int i t from d);obtain⟨a,rfl⟩:=(show ∃a,v=Value.int j a from e);exact PyProof.Rows.iand_int ⟨.int _,H,I.tok _,⟨_,rfl⟩,q⟩
section
variable {w:fe}{xs:eW (hJ×eR×eR)}{k:hJ}{u:eR}
theorem FA {v:eR}(t:A.units<cLine)(q:pi P w s.heap k u)(D:oZ P w s.heap d xs)(hz:xs.length<=sizeLine)(J:∀x tk,mF xs k=some x->Q x {s with toks:=tk})(G:mF xs k=none->∀h' tk,oZ P w h' d (ri xs k u v)->Heap.SameBut d s.heap h'->Q v {s with heap:=h',toks:=tk}):wpAny (model P w) A (dictSetDefault d u v) Q E s:=by
 obtain⟨o,H,I,i,L,g,m,B,p⟩:=D;have M:H.size=xs.length:=by rw[<-bu,m,ae]
 unfold dictSetDefault;try with_reducible refine bw ?_
 refine ac (we t q λtk=>ac (wf (s:={s with toks:=tk}) t q i g (t6 m B p) (λh=>?_) (λj C=>?_)));have hp:ri xs k u v=xs++[(k,u,v)]:=by unfold ri;rw[mx h,ax (by decide)]
 refine ac (cr (ac (wpAny_updateDictKeys (hz:=by lia) (s:={s with toks:=tk}) i g (av (G (mx h) _ tk ?_ (Heap.SameBut.update ..))))));refine⟨_,_,I+1,cf _ i (Obj.isFreed_of_dict (Obj.data_mapDictKeys g _)),L.mapDictKeys _,Obj.data_mapDictKeys g _,?_,λx l=>?_,?_⟩;rw[hp];simp[m,uW];rw[hp]at l;rcases aE.mp l with z|z;exact(B x z).keep i g (Heap.SameBut.update ..);rw[af.mp z];exact q.keep i g (Heap.SameBut.update ..);rw[hp,aC,bU];refine⟨p,by simp,λa F b y z=>h ?_⟩;rw[aH,df,af]at y;rw[z,y]at F;exact F;rw[ai]at C;obtain⟨x,l,e⟩:=aF.mp C;obtain⟨K,N⟩:=x;obtain rfl:k=K:=e.symm;refine ac (dh (s:={s with toks:=tk}) i g ?_);rw[<-bL,m,ai,l];exact ac (cr (av (J _ tk (pI p l))))
end
section
variable {y v:V}{u r:eR}{o:fc V}
def DL {z:V}(m:A.units+1<cLine)(I:fR X pins σ H s)(g:iO H a y o)(p:gl y u)(q:gl z r)(h:∀w' s',fR X pins σ H s'->gl (o.getD z) w'->Q w' s'):wpAny (model X.prog X.w) A (call (.builtin "dict.get") [.ref a,u,r]) Q E s:=by obtain⟨d,l⟩:=pJ I g;refine cB db d PySem.F.entry_dict_get ?_ (PySem.F.args_dict_get_3 _ _ _);unfold Builtin.«dict.get»;refine ac ?_;unfold Builtin.Dict.keyAndDefault;refine ac (cZ d ?_);show wpAny _ _ (pure (a,u,some r)) _ _ s;refine av ?_;refine ac (wA m I g p λt s' j i=>?_);cases o with|some x=>obtain⟨w',rfl,b⟩:=ki.some_of i;exact av ⟨w',rfl,h w' s' j b⟩|none=>have e:t=none:=ki.none_of i;subst e;refine ac ?_;unfold Builtin.Dict.missed;dsimp only;rw[ax (by rw[l];exact aV)];exact av (av ⟨r,rfl,h r s' j q⟩)
theorem DK {z:V}{k:hJ}(N:A.units+1<cLine)(I:fR X pins σ H s)(e:H a=some (.dN kvs))(i:mJ H k y)(hl:kvs.length<sizeLine)(p:gl y u)(P:gl z r)(G:∀v w' s',fW kvs k=some v->fR X pins σ H s'->gl v w'->Q w' s')(B:fW kvs k=none->∀s',fR X pins σ (upd H a (.dN (gz kvs k z))) s'->Q r s'):wpAny (model X.prog X.w) A (call (.builtin "dict.setdefault") [.ref a,u,r]) Q E s:=by
 obtain⟨Y,g,L,rel,t⟩:=uY I.hok (.inl e);have J:L.length<=sizeLine:=by rw[<-Paired.length rel];exact Y
 have hp:(gz kvs k z).length<=sizeLine:=by have:=hZ kvs k z;lia
 have j:=t.typeIs;refine cB cX j PySem.F.entry_dict_setdefault ?_ (PySem.F.args_dict_setdefault_3 _ _ _);unfold Builtin.«dict.setdefault»;refine ac ?_;unfold Builtin.Dict.keyAndDefault;refine ac (cZ j ?_);show wpAny _ _ (pure (a,u,some r)) _ _ s;refine av ?_;show wpAny _ _ (if (a == sysModules)=true then _ else (dictSetDefault a u r >>= _)) _ _ s;rw[ax (by rw[g];exact aV)];have q:=rel.val k;refine ac (FA N (pG I.hok (i.rel p)) t J (λx D R=>?_) λS h' D d O=>?_);rw[R]at q;cases l:fW kvs k with|none=>rw[l]at q;exact q.elim|some v=>rw[l]at q;exact av ⟨x,rfl,G v x _ l (I.tok _) q⟩
 rw[S]at q;have l:fW kvs k=none:=by cases l:fW kvs k with|none=>rfl|some x=>rw[l]at q;exact q.elim
 refine av ⟨r,rfl,B l _ ?_⟩;obtain⟨m,M,T,o,C,Z,K,_,U⟩:=d;have keep:∀c b,H c=some (.tup b)->upd H a (.dN (gz kvs k z)) c=some (.tup b):=λc b h=>by rw[fw (gF h e (λz=>nomatch z))];exact h
 exact kO I (by rw[e];exact True.intro) O ⟨m,o⟩ ⟨hp,g,_,Paired.LJ (rel.put k (i.rel p) P) λ_ _ q=>⟨q.1,q.2.1.keeps keep,q.2.2⟩,m,M,T,o,C,Z,K,U⟩
end
def Gx (H:Hp)(a:eQ):Prop:=∃kvs,Rd H a (.dN kvs)
def xE (I:fR X pins σ H s)(d:Gx H a):s.TypeIs (.ref a) "dict"/\(∀b,Value.ref a=.ref b->∃ob,s.heap.get? b=some ob/\ob.dict=none):=by obtain⟨h,e⟩:=d;obtain⟨_,l,m,_,g⟩:=uY I.hok e;refine⟨g.typeIs,λb q=>?_⟩;cases q;obtain⟨ob,_,_,j,i,_⟩:=g;exact⟨ob,j,i.2.1⟩
inductive Cj (ty:TE)(tx:TE)(σ:St)(Q:VK)(x:V)(H1:Hp):Prop
 |mk (a:_)(_:x=.ref a)(_:Gx H1 a)(_:ty σ H1 λy H2=>tx σ H2 λz H3=>∃o,iO H3 a y o/\Q (o.getD z) H3)
def Cv (td ty tx:TE):TE:=λσ H Q=>td σ H λx H1=>Cj ty tx σ Q x H1
inductive Ch (ty:TE)(tx:TE)(σ:St)(Q:VK)(x:V)(H1:Hp):Prop
 |mk (a:_)(_:x=.ref a)(_:Gx H1 a)(_:ty σ H1 λy H2=>tx σ H2 λz H3=>∃kvs k,H3 a=some (.dN kvs)/\mJ H3 k y/\kvs.length<sizeLine/\(∀v,fW kvs k=some v->Q v H3)/\(fW kvs k=none->Q z (upd H3 a (.dN (gz kvs k z)))))
def Ct (td ty tx:TE):TE:=λσ H Q=>td σ H λx H1=>Ch ty tx σ Q x H1
inductive D5 (tv:TE)(rd:V->V->Hp->VK->Prop)(D:lO)(σ:St)(x:V)(y:V)(H2:Hp):Prop
 |mk (a v:_)(_:x=.ref a)(_:iO H2 a y (some v))(_:tv σ H2 λy2 H3=>rd v y2 H3 λz H4=>∃H5,ml H4 a y z H5/\D.nx σ H5)
def E6 (td ty tv:TE)(rd:V->V->Hp->VK->Prop):TS:=λD σ H=>td σ H λx H1=>ty σ H1 λy H2=>D5 tv rd D σ x y H2
section
variable {o e f i value:eY}{apos cpos pos tpos:Pos}{td ty tx tv:TE}
def rO (M:X.A.units+1<cLine)(G:PE X o td)(S:PE X e ty)(E:PE X f tx)(m:M2 X o "get" apos e f cpos):PE X (.Call (.Attribute o "get" apos) [e,f] [] cpos) (Cv td ty tx):=by intro b s σ H Q I h;refine dQ m.base m.few m.line cS db PySem.F.type_dict_get (hU (G b s σ H _ I h) ?_);rintro u L ⟨x,K,j,N,a,l,d,q1⟩;subst l;obtain rfl:u=Value.ref a:=N;obtain⟨J,p⟩:=xE j d;refine⟨J,p,?_⟩;rw[m.trees];refine Calls.callWith_builtin rfl (Calls.evalArgs_plain (Calls.spliced_cons (hU (S b L σ K _ j q1) λiv B ⟨y,R,D,O,q2⟩=>Calls.spliced_cons (hU (E b B σ R _ D q2) λfv Z ⟨z,t,v,P,Y,g,C⟩=>Calls.spliced_nil ?_))));exact DL M v g O P λU T q i=>⟨_,t,q,i,C⟩
def yn (U:X.A.units+1<cLine)(N:PE X o td)(he:PE X e ty)(M:PE X f tx)(m:M2 X o "setdefault" apos e f cpos):PE X (.Call (.Attribute o "setdefault" apos) [e,f] [] cpos) (Ct td ty tx):=by intro b s σ H Q I h;refine dQ m.base m.few m.line cS cX PySem.F.type_dict_setdefault (hU (N b s σ H _ I h) ?_);rintro u T ⟨x,P,i,Y,a,p,d,q1⟩;subst p;obtain rfl:u=Value.ref a:=Y;obtain⟨O,q⟩:=xE i d;refine⟨O,q,?_⟩;rw[m.trees];refine Calls.callWith_builtin rfl (Calls.evalArgs_plain (Calls.spliced_cons (hU (he b T σ P _ i q1) λiv G ⟨y,H2,K,Z,q2⟩=>Calls.spliced_cons (hU (M b G σ H2 _ K q2) λfv s3 ⟨z,C,D,j,t,k,ea,E,S,J,R⟩=>Calls.spliced_nil ?_))));exact DK U D ea E S Z j (λv w' B l g L=>⟨v,C,g,L,J v l⟩) λl B g=>⟨z,_,g,j,R l⟩
def At {op:Operator}{rd:V->V->Hp->VK->Prop}(l:X.A.units+1<cLine)(N:PE X o td)(T:PE X i ty)(hv:PE X value tv)(d:Gz X op rd)(ha:∀ov iv new,augStore i ov iv new=(do holding [new,ov,iv] (setItem ov iv new);release [new,ov,iv] [];pure .next)):PS X (.AugAssign (.Subscript o i tpos) op value pos) (E6 td ty tv rd):=by intro b s σ H D I h;refine wpAny_AugAssign_SubscriptAny (hU (N b s σ H _ I h) ?_) ha;rintro u Q ⟨x,P,C,R,q1⟩;refine hU (T b Q σ P _ C q1) ?_;rintro iv s2 ⟨y,U,L,m,a,v,p,g,q2⟩;subst p;obtain rfl:u=Value.ref a:=R;refine qM l L g m λt Z G e=>hU (hv b Z σ U _ G q2) ?_;rintro w2 q ⟨y2,E,B,j,K⟩;refine hU (d b q σ E v y2 t w2 _ B e j K) ?_;rintro w3 s5 ⟨z,H4,J,S,F,Y,O⟩;exact qL l J Y m S λs6 M=>⟨σ,F,M,O⟩
end
def va (O:X.calm=true):j6 X (.type "list") (λxs H Q=>∃p kvs,xs=[.ref p]/\Rd H p (.dK kvs)/\∀l,H l=none->Q (.ref l) (upd H l (.lst (kvs.map λkv=>kV kv.1)))):=by
 intro D s σ H xs R Q I r h;obtain⟨p,kvs,rfl,e,q⟩:=h;obtain⟨u,rfl,F⟩:=jA r;cases (show u=Value.ref p from F);obtain⟨z,hd,A,rel,M⟩:=l9 I.hok e;obtain⟨ep,m⟩:=M.dictAt;have C:=rel.length;refine W.kdl_call (W.kdl_dict (knd:=gm X.prog X.w) (kvs:=A) (ep:=ep) hd) (I.ok.hd O) m (by rw[<-C];exact z) λP J t c G N d=>?_;have L:=I.hok.fresh (am s.heap.objs.size);refine⟨.ref s.heap.objs.size,_,I.laid (a:=s.heap.objs.size) (o:=.lst (kvs.map λkv=>kV kv.1)) (t':=J) (λb o q=>G b o q) (am _) ?_,rfl,q _ L⟩;refine⟨by rw[ae];exact z,t.toList,c,?_,by rw[N]⟩;refine lb (by rw[ae,C,bu];exact d.1.symm) λi x y j B=>?_;rw[bL]at B;obtain⟨k,v,K,E⟩:=d.2 i y B;rw[ai]at j;have g:kvs[i]?.map (·.1)=A[i]?.map (·.1):=by rw[<-ai,<-ai,rel.keys]
 rw[K]at g;cases hi:kvs[i]? with|none=>rw[hi]at j;cases j|some kv=>
  rw[hi]at j g;cases j;have:kv.1=k:=by simpa using g
  show gl (kV kv.1) y;rw[this];exact wu E
def wG:j6 X (.type "dict") (λxs H Q=>∃p kvs,xs=[.ref p]/\Rd H p (.dK kvs)/\∀l,H l=none->Q (.ref l) (upd H l (.dK kvs))):=by intro a s σ H xs j Q I r h;obtain⟨p,kvs,rfl,e,q⟩:=h;obtain⟨u,rfl,b⟩:=jA r;cases (show u=Value.ref p from b);exact BL I e λl i d g=>⟨.ref l,_,g,rfl,q l d⟩
theorem C1 {a:eY}{ta:TE}(y:PE X a ta)(t:∀whole,isTrue a X.env whole=(do let v <-whole;standAt a.pos;holding [v] (truthy v))):PT X a (λσ H Q=>ta σ H λx H'=>∃p kvs,x=.ref p/\Rd H' p (.dK kvs)/\Q (!kvs.isEmpty) H'):=by intro b s σ H Q I h;refine isTrue_plain (hU (y b s σ H _ I h) ?_) (t _);rintro v A ⟨x,i,d,j,p,kvs,g,l,q⟩;subst g;cases (show v=Value.ref p from j);obtain⟨C,z,o,r,m⟩:=l9 d.hok l;have e:kvs.length=o.length:=Paired.length r;have B:sizeLine=16777216:=ci;exact wpAny_truthy_dict z m (by lia) ⟨i,d.tok _,by rw[qF r];exact q⟩
def KT.all {α:Type}(lt:Nat->Nat->Bool)(n:Nat)(Q:α->Prop):W.KasT α->Prop
 |.ret a=>Q a
 |.ask i j k=>i<n/\j<n/\KT.all lt n Q (k (lt i j))
theorem KT.bind {α β:Type}{lt:Nat->Nat->Bool}{n:Nat}{Q:β->Prop}{f:α->W.KasT β}:∀{t:W.KasT α},KT.all lt n (λa=>KT.all lt n Q (f a)) t->KT.all lt n Q (t.bind f)
 |.ret _,h=>h
 |.ask i j k,h=>⟨h.1,h.2.1,KT.bind (t:=k (lt i j)) h.2.2⟩
theorem KT.mono {α:Type}{lt:Nat->Nat->Bool}{n:Nat}{Q Q':α->Prop}(hq:∀a,Q a->Q' a):∀{t:W.KasT α},KT.all lt n Q t->KT.all lt n Q' t
 |.ret a,h=>hq a h
 |.ask i j k,h=>⟨h.1,h.2.1,KT.mono hq (t:=k (lt i j)) h.2.2⟩
structure SO (lt:Nat->Nat->Bool):Prop where
 tr:∀a b c,lt a b=true->lt b c=true->lt a c=true
 as:∀a b,lt a b=true->lt b a=false
structure zD (lt:Nat->Nat->Bool)(n:Nat)(p:Array Nat):Prop where
 sz:p.size=n
 bd:∀i,i<n->p.getD i 0<n
 tt:∀i j,i<n->j<n->i≠j->lt (p.getD i 0) (p.getD j 0)=true\/lt (p.getD j 0) (p.getD i 0)=true
def nE (lt:Nat->Nat->Bool)(p:Array Nat)(m:Nat):Prop:=∀i j,i<j->j<m->lt (p.getD i 0) (p.getD j 0)=true
def zy (lt:Nat->Nat->Bool)(p:Array Nat)(m:Nat):Prop:=∀i j,i<j->j<m->lt (p.getD j 0) (p.getD i 0)=true
def uQ {q:Array Nat}{j:Nat}(h:p[i]?=q[j]?):p.getD i 0=q.getD j 0:=by rw[cJ,cJ,h]
section
variable {lt:Nat->Nat->Bool}{n:Nat}
theorem nE.more (S:SO lt)(h:nE lt p m)(h1:1<=m)(hl:lt (p.getD (m-1) 0) (p.getD m 0)=true):nE lt p (m+1):=λi j hij hj=>by
 by_cases e:j=m;subst e;by_cases e2:i=j-1;subst e2;exact hl;exact S.tr _ _ _ (h i (j-1) (by lia) (by lia)) hl;exact h i j hij (by lia)
theorem zy.more (S:SO lt)(h:zy lt p m)(h1:1<=m)(hl:lt (p.getD m 0) (p.getD (m-1) 0)=true):zy lt p (m+1):=λi j hij hj=>by
 by_cases e:j=m;subst e;by_cases e2:i=j-1;subst e2;exact hl;exact S.tr _ _ _ hl (h i (j-1) (by lia) (by lia));exact h i j hij (by lia)
theorem wI (S:SO lt){p:Array Nat}(P:zD lt n p):∀(f m:Nat),f=n-m->1<=m->m<=n->nE lt p m->KT.all lt n (λr=>m<=r/\r<=n/\nE lt p r/\(r=n\/lt (p.getD r 0) (p.getD (r-1) 0)=true)) (W.kas_asc p f m)
 |0,m,hf,h1,hm,hu=>⟨am _,hm,hu,.inl (by lia)⟩
 |f+1,m,hf,h1,hm,hu=>by refine⟨P.bd _ (by lia),P.bd _ (by lia),?_⟩;show KT.all lt n _ (if lt (p.getD m 0) (p.getD (m-1) 0)=true then W.KasT.ret m else W.kas_asc p f (m+1));by_cases hc:lt (p.getD m 0) (p.getD (m-1) 0)=true;rw[ay hc];exact⟨am _,hm,hu,.inr hc⟩;rw[ax hc];have hl:=(P.tt m (m-1) (by lia) (by lia) (by lia)).resolve_left hc;exact KT.mono (λr hr=>⟨by lia,hr.2⟩) (wI S P f (m+1) (by lia) (by lia) (by lia) (hu.more S h1 hl))
theorem xH (S:SO lt){p:Array Nat}(P:zD lt n p):∀(f m:Nat),f=n-m->1<=m->m<=n->zy lt p m->KT.all lt n (λr=>r.1=p/\m<=r.2.1/\r.2.1<=n/\zy lt p r.2.1/\r.2.2=0) (W.kas_desc f p m 0)
 |0,m,hf,h1,hm,hu=>⟨rfl,am _,hm,hu,rfl⟩
 |f+1,m,hf,h1,hm,hu=>by refine⟨P.bd _ (by lia),P.bd _ (by lia),?_⟩;show KT.all lt n _ (if lt (p.getD m 0) (p.getD (m-1) 0)=true then (if 0>0 then W.kas_desc f (W.kas_rev p (m-(0+1)) m) (m+1) 0 else W.kas_desc f p (m+1) 0) else W.KasT.ask (p.getD (m-1) 0) (p.getD m 0) λd=>if d=true then .ret (p,m,0) else W.kas_desc f p (m+1) (0+1));by_cases hc:lt (p.getD m 0) (p.getD (m-1) 0)=true;rw[ay hc,ax (by decide)];exact KT.mono (λr hr=>⟨hr.1,by lia,hr.2.2⟩) (xH S P f (m+1) (by lia) (by lia) (by lia) (hu.more S h1 hc));rw[ax hc];have hl:=(P.tt m (m-1) (by lia) (by lia) (by lia)).resolve_left hc;refine⟨P.bd _ (by lia),P.bd _ (by lia),?_⟩;show KT.all lt n _ (if lt (p.getD (m-1) 0) (p.getD m 0)=true then W.KasT.ret (p,m,0) else W.kas_desc f p (m+1) (0+1));rw[ay hl];exact⟨rfl,am _,hm,hu,rfl⟩
def qg (a:m<=p.size)(k:Nat):(W.kas_rev p 0 m).getD k 0=if k<m then p.getD (m-1-k) 0 else p.getD k 0:=by have e:=getElem?_mirror_all (i:=0) a k;unfold W.kas_rev;by_cases h:k<m;rw[ay h];rw[ay ⟨bp _,h⟩,Nat.zero_add]at e;exact uQ e;rw[ax h];rw[ax (λz=>h z.2)]at e;exact uQ e
theorem E9 (P:zD lt n p)(a:m<=n):zD lt n (W.kas_rev p 0 m):=by
 refine⟨(W.kas_rev_size 0 m).trans P.sz,λi b=>?_,λi j b e d=>?_⟩;rw[qg (by rw[P.sz];exact a)];by_cases h:i<m;rw[ay h];exact P.bd _ (by lia);rw[ax h];exact P.bd _ b
 ·rw[qg (by rw[P.sz];exact a),qg (by rw[P.sz];exact a)]
  repeat' split
  all_goals exact P.tt _ _ (by lia) (by lia) (by lia)
theorem zM (S:SO lt)(P:zD lt n p)(h:1<=m)(a:m<=n)(e:zy lt p m):KT.all lt n (λr=>1<=r.1/\r.1<=n/\nE lt r.2 r.1/\zD lt n r.2/\r.2.Perm p) (W.kas_tail3 m n p):=by
 have b:=E9 P a;have l:nE lt (W.kas_rev p 0 m) m:=λi j o g=>by rw[qg (by rw[P.sz];exact a),qg (by rw[P.sz];exact a),ay (by lia),ay g];exact e _ _ (by lia) (by lia)
 refine KT.bind (KT.mono (λr d=>?_) (wI S b (n-m) m rfl h a l));exact⟨by lia,d.2.1,d.2.2.1,b,mirror_perm _ _ _ _⟩
theorem BQ (S:SO lt)(P:zD lt n p)(z:2<=n):KT.all lt n (λr=>1<=r.1/\r.1<=n/\nE lt r.2 r.1/\zD lt n r.2/\r.2.Perm p) (W.kas_count n p):=by
 unfold W.kas_count;refine KT.bind (KT.mono (λm x=>?_) (wI S P (n-1) 1 rfl (am _) (by lia) λi j a b=>by lia));obtain⟨g,h,d,l⟩:=x;by_cases e:m=n;rw[ay (by simpa using e)];exact⟨g,h,d,P,Array.Perm.refl _⟩;rw[ax (by simpa using e)];by_cases h1:m>1;rw[ay h1];refine⟨P.bd _ (by lia),P.bd _ (by lia),?_⟩;show KT.all lt n _ (if lt (p.getD 0 0) (p.getD (m-1) 0)=true then W.KasT.ret (m,p) else W.kas_descPart m n (W.kas_rev p 0 m));rw[ay (d 0 (m-1) (by lia) (by lia))];exact⟨g,h,d,P,Array.Perm.refl _⟩;rw[ax h1];have:m=1:=by lia
 subst this;have o:=l.resolve_left (by lia);unfold W.kas_descPart;refine KT.bind (KT.mono (λr s=>?_) (xH S P (n-(1+1)) (1+1) rfl (by lia) (by lia) λi j a b=>?_));obtain⟨q,A,v,t,y⟩:=s;rw[ax (by lia),q];exact zM S P (by lia) v t;have:i=0/\j=1:=by lia
 obtain⟨rfl,rfl⟩:=this;exact o
theorem ql (S:SO lt){p:Array Nat}(P:zD lt n p){k:Nat}(g:k<n)(d:nE lt p k):∀(f l r:Nat),r-l<=f->l<=r->r<=k->(∀i,i<l->lt (p.getD i 0) (p.getD k 0)=true)->(∀i,r<=i->i<k->lt (p.getD k 0) (p.getD i 0)=true)->KT.all lt n (λx=>x<=k/\(∀i,i<x->lt (p.getD i 0) (p.getD k 0)=true)/\∀i,x<=i->i<k->lt (p.getD k 0) (p.getD i 0)=true) (W.kas_place p k f l r)
 |0,l,r,hf,hlr,hrk,h1,h2=>by
  have:l=r:=by lia
  subst this;exact⟨hrk,h1,h2⟩
 |f+1,l,r,hf,hlr,hrk,h1,h2=>by
  unfold W.kas_place;by_cases e:l ≥ r;rw[ay e];have:l=r:=by lia
  subst this;exact⟨hrk,h1,h2⟩;rw[ax e];refine⟨P.bd _ (by lia),P.bd _ (by lia),?_⟩;show KT.all lt n _ (if lt (p.getD k 0) (p.getD ((l+r) / 2) 0)=true then W.kas_place p k f l ((l+r) / 2) else W.kas_place p k f ((l+r) / 2+1) r);by_cases hc:lt (p.getD k 0) (p.getD ((l+r) / 2) 0)=true;rw[ay hc];refine ql S P g d f l ((l+r) / 2) (by lia) (by lia) (by lia) h1 λi a b=>?_;by_cases e2:i=(l+r) / 2;subst e2;exact hc;exact S.tr _ _ _ hc (d _ _ (by lia) b);rw[ax hc];have h:=(P.tt k ((l+r) / 2) g (by lia) (by lia)).resolve_left hc;refine ql S P g d f ((l+r) / 2+1) r (by lia) (by lia) hrk (λi a=>?_) h2;by_cases e2:i=(l+r) / 2;subst e2;exact h;exact S.tr _ _ _ (d i _ (by lia) (by lia)) h
def Gb {k d:Nat}(b:k<p.size)(a:d<=k)(i:Nat):(bubble p k d).getD i 0=if i=k-d then p.getD k 0 else if k-d<i/\i<=k then p.getD (i-1) 0 else p.getD i 0:=by have e:=getElem?_bubble b d a i;by_cases h1:i=k-d;rw[ay h1]at e ⊢;exact uQ e;rw[ax h1]at e ⊢;by_cases h2:k-d<i/\i<=k;rw[ay h2]at e ⊢;exact uQ e;rw[ax h2]at e ⊢;exact uQ e
theorem BT (S:SO lt):∀(f k:Nat) (p:Array Nat),zD lt n p->f=n-k->k<=n->nE lt p k->KT.all lt n (λq=>nE lt q n/\zD lt n q/\q.Perm p) (W.kas_bin f p k)
 |0,k,p,P,hf,hk,hu=>by
  have:k=n:=by lia
  subst this;exact⟨hu,P,Array.Perm.refl _⟩
 |f+1,k,p,P,hf,hk,hu=>by
  have m:k<n:=by lia
  have y:k<p.size:=by rw[P.sz];exact m
  unfold W.kas_bin;refine KT.bind (KT.mono (λl x=>?_) (ql S P m hu k 0 k (by lia) (by lia) (am _) (λi a=>by lia) λi a b=>by lia));obtain⟨B,t,v⟩:=x;have d:=λi=>Gb (p:=p) y (show k-l<=k by lia) i;rw[show k-(k-l)=l by lia]at d;have e:=P.tt;have h:=P.bd;unfold nE at hu;obtain⟨g,hg⟩:∃g:Nat->Nat,∀i,p.getD i 0=g i:=⟨λi=>p.getD i 0,λ_=>rfl⟩;simp only[hg]at d t v e hu h;refine KT.mono (λq s=>⟨s.1,s.2.1,s.2.2.trans (bubble_perm _ _ _)⟩) (BT S f (k+1) (bubble p k (k-l)) ⟨(bubble_size _ _ _).trans P.sz,λi z=>?_,λi j z A o=>?_⟩ (by lia) (by lia) λi j o A=>?_)
  ·rw[d]
   repeat' split
   all_goals exact h _ (by lia)
  ·rw[d,d]
   repeat' split
   all_goals first|(exfalso;lia)|exact e _ _ (by lia) (by lia) (by lia)
  ·rw[d,d]
   repeat' split
   all_goals first|(exfalso;lia)|exact t _ (by lia)|exact v _ (by lia) (by lia)|exact hu _ _ (by lia) (by lia)
theorem Cz (S:SO lt)(o:2<=n)(s:∀i j,i<n->j<n->i≠j->lt i j=true\/lt j i=true):KT.all lt n (λq=>nE lt q n/\q.size=n/\q.toList.Perm (List.range n)) (W.kas_sort n):=by
 have e:∀i,i<n->(List.toArray (List.range n)).getD i 0=i:=λi a=>by rw[cJ];simp[a]
 have P:zD lt n (List.toArray (List.range n)):=⟨by simp,λi a=>by rw[e i a];exact a,λi j a m d=>by rw[e i a,e j m];exact s i j a m d⟩;unfold W.kas_sort;refine KT.bind (KT.mono (λr p=>?_) (BQ S P o));obtain⟨x,t,g,h,v⟩:=p;have l:∀{q:Array Nat},q.Perm r.2->q.toList.Perm (List.range n):=λb=>by have:=Array.perm_iff_toList_perm.mp (b.trans v);simpa using this
 by_cases hlt:r.1<n;rw[ay hlt,show max r.1 1=r.1 by lia];exact KT.mono (λq b=>⟨b.1,b.2.1.sz,l b.2.2⟩) (BT S (n-r.1) r.1 r.2 h rfl t g);rw[ax hlt];have:r.1=n:=by lia
 rw[this]at g;exact⟨g,h.sz,l (Array.Perm.refl _)⟩
end
theorem KT.wp {α:Type}{lt:Nat->Nat->Bool}{n:Nat}{cmp:Nat->Nat->(Bool->eU->Prop)->eU->Prop}{s:eU}{Q:α->Prop}{R:α->eU->Prop}(hc:∀i j,i<n->j<n->∀(C:Bool->eU->Prop),C (lt i j) s->cmp i j C s)(hr:∀a,Q a->R a s):∀{t:W.KasT α},KT.all lt n Q t->t.kasWp cmp R s
 |.ret a,h=>hr a h
 |.ask i j k,h=>hc i j h.1 h.2.1 _ (KT.wp hc hr (t:=k (lt i j)) h.2.2)
abbrev SI:=Str×Int
noncomputable def rl (a b:SI):Bool:=if a.1=b.1 then decide (a.2<b.2) else decide (a.1.cps.toList<b.1.cps.toList)
def vz {a b:Str}(h:a.cps.toList=b.cps.toList):a=b:=by cases a;cases b;simp only[Str.mk.injEq];exact Array.toList_inj.mp h
theorem yP {a c:SI}(d:rl a b=true)(e:rl b c=true):rl a c=true:=by unfold rl at *;by_cases e1:a.1=b.1;by_cases e2:b.1=c.1;rw[ay e1]at d;rw[ay e2]at e;rw[ay (e1.trans e2)];simp only[aG]at *;lia;rw[ax e2]at e;rw[ax (λz=>e2 (e1.symm.trans z)),e1];exact e;by_cases e2:b.1=c.1;rw[ax e1]at d;rw[ax (λz=>e1 (z.trans e2.symm)),<-e2];exact d;rw[ax e1]at d;rw[ax e2]at e;simp only[aG]at d e;have g:=List.lt_trans d e;rw[ax (λz=>by rw[z]at g;exact List.lt_irrefl _ g)];simpa using g
theorem yR {a:SI}(h:rl a b=true):rl b a=false:=by unfold rl at *;by_cases e:a.1=b.1;rw[ay e]at h;rw[ay e.symm];simp only[aG,decide_eq_false_iff_not]at *;lia;rw[ax e]at h;rw[ax (λz=>e z.symm)];simp only[aG,decide_eq_false_iff_not]at *;exact λz=>List.lt_irrefl _ (List.lt_trans h z)
theorem yQ {a:SI}(h:a≠b):rl a b=true\/rl b a=true:=by unfold rl;by_cases e:a.1=b.1;rw[ay e,ay e.symm];simp only[aG];have:a.2≠b.2:=λz=>h (Prod.ext e z);lia;rw[ax e,ax (λz=>e z.symm)];simp only[aG];by_cases h1:a.1.cps.toList<b.1.cps.toList;exact .inl h1;by_cases h2:b.1.cps.toList<a.1.cps.toList;exact .inr h2;exact absurd (vz (List.le_antisymm (List.not_lt.mp h2) (List.not_lt.mp h1))) e
section
variable {prog:eV}{w:fe}
theorem yS {vs:eW eR}{n:Nat}{P:PySem.Fin->eU->Prop}{lt:Nat->Nat->Bool}{κ:SortKind}(y:s.heap.get? a=some (seqObj "list" vs.toArray n))(H:vs.length<64)(S:SO lt)(R:∀i j,i<vs.length->j<vs.length->i≠j->lt i j=true\/lt j i=true)(T:∀h',(∀b o,b≠a->s.heap.get? b=some o->h'.get? b=some o)->2<=vs.length->∀Q:SortKind->eU->Prop,Q κ {s with heap:=h'}->wpAny (model prog w) A (keyKind' vs.toArray) Q E {s with heap:=h'})(U:∀h',(∀b o,b≠a->s.heap.get? b=some o->h'.get? b=some o)->∀i j,i<vs.length->j<vs.length->∀C:Bool->eU->Prop,C (lt i j) {s with heap:=h'}->W.kas_ask prog w A κ vs i j C {s with heap:=h'})(h:∀p:eW Nat,p.Perm (List.range vs.length)->p.Pairwise (λi j=>lt i j=true)->P (.done (.ret .none)) {s with heap:=sortedHeap s.heap a vs (p.map λi=>vs.getD i Value.none).toArray}):wpAny (model prog w) A (Builtin.«list.sort» ⟨[.ref a],[]⟩) P E s:=by
 rw[list_sort_plain];have K:a<s.heap.objs.size:=aS y;have X:vs.toArray.size=vs.length:=aP ..;refine ac (listItems_at y rfl (ac (listUpdate_at y rfl ?_)));obtain⟨e1,ho1⟩:∃e1,(s.heap.update a (Obj.mapSeq λ_=>(#[]:Array eR))).get? a=some (seqObj "list" #[] e1):=⟨_,get?_update_seq y (λ_=>#[])⟩;refine ac (seqEpoch_at ho1 rfl (ac (wpAny_newTuple (ac (wpAny_newList (bw ?_))))));have keep:∀b o,b≠a->s.heap.get? b=some o->(((s.heap.update a (Obj.mapSeq λ_=>(#[]:Array eR))).push (seqObj "tuple" vs.toArray 0)).push (seqObj "list" #[] 0)).get? b=some o:=λb o N e=>by have q:=aS e;rw[dj _ _ _ (by rw[size_push',ef];exact aX (dR q)),dj _ _ _ (by rw[ef];exact aX q),Heap.get?_update_ne _ _ _ _ N];exact e
 have d:(((s.heap.update a (Obj.mapSeq λ_=>(#[]:Array eR))).push (seqObj "tuple" vs.toArray 0)).push (seqObj "list" #[] 0)).get? a=some (seqObj "list" #[] e1):=by rw[dj _ _ _ (by rw[size_push',ef];exact aX (dR K)),dj _ _ _ (by rw[ef];exact aX K)];exact ho1
 show wpAny (model prog w) A _ P E {s with heap:=((s.heap.update a (Obj.mapSeq λ_=>(#[]:Array eR))).push (seqObj "tuple" vs.toArray 0)).push (seqObj "list" #[] 0)};dsimp only;by_cases h2:vs.toArray.size<2;rw[ay h2,ay h2];refine ac (av ?_);rw[StateT.run_pure];refine ac (av ?_);dsimp only;refine ac (seqEpoch_at d rfl (ac (listUpdate_at d rfl ?_ (hsz2:=by rw[Array.size_map];show(pairsOf vs).size<=_;rw[pairsOf_size,ci];lia))));simp only[bne_self_eq_false,cA,if_false];have e:Array.map (·.2) (arrOf (SortSt.mk' general' (vs.toArray.zip vs.toArray) #[] 7 none))=((List.range vs.length).map λi=>vs.getD i Value.none).toArray:=by
  show Array.map (·.2) (vs.toArray.zip vs.toArray)=_
  match vs,h2 with
  |[],_=>simp
  |[v],_=>simp
  |_::_::_,h2=>exact absurd h2 (by simp)
 rw[e];refine av (h (List.range vs.length) (List.Perm.refl _) ?_);have:vs.length<2:=by lia
 match hl:vs.length,this with
 |0,_=>exact List.Pairwise.nil
 |1,_=>exact List.pairwise_singleton _ _
 rw[ax h2,ax h2];refine ac (T _ keep (by lia) _ ?_);refine ac (bO (W.kat_run (ks:=vs) (vs:=vs) (Q:=λg m=>m={s with heap:=((s.heap.update a (Obj.mapSeq λ_=>(#[]:Array eR))).push (seqObj "tuple" vs.toArray 0)).push (seqObj "list" #[] 0)}/\failedOf g=none/\∃p:Array Nat,arrOf g=p.map (W.kas_item (vs.toArray.zip vs.toArray))/\nE lt p vs.length/\p.size=vs.length/\p.toList.Perm (List.range vs.length)) (G:=λp m=>m={s with heap:=((s.heap.update a (Obj.mapSeq λ_=>(#[]:Array eR))).push (seqObj "tuple" vs.toArray 0)).push (seqObj "list" #[] 0)}/\nE lt p vs.length/\p.size=vs.length/\p.toList.Perm (List.range vs.length)) rfl (by lia) H (λp g m hp l B I=>⟨I.1,B,p,l,I.2⟩) (KT.wp (U _ keep) (λp hp=>⟨rfl,hp⟩) (Cz S (by lia) R))) (λr m L=>?_) λ_ _ z=>z);obtain⟨⟨⟩,g⟩:=r;obtain⟨rfl,B,p,l,M,x,D⟩:=L;have t:=W.kat_snds (ks:=vs) (vs:=vs) rfl l;dsimp only;rw[t,B];refine ac (seqEpoch_at d rfl (ac (listUpdate_at d rfl ?_ (hsz2:=by rw[aP,ae,bu,x,ci];lia))));simp only[bne_self_eq_false,cA,if_false];refine av (h p.toList D ?_);rw[List.pairwise_iff_getElem];intro i j O J F;have:=M i j F (by rw[<-x];simpa using J);rw[cJ,cJ,cm (by simpa using O),cm (by simpa using J)]at this;simpa using this
theorem vA {l:eQ}{vs:eW eR}{lt:Nat->Nat->Bool}{κ:SortKind}(y:s.heap.IsList l vs.toArray)(v:vs.length<64)(S:SO lt)(B:∀i j,i<vs.length->j<vs.length->i≠j->lt i j=true\/lt j i=true)(x:∀(A':eP) (E':eR->eU->Prop) h',(∀b o,s.heap.get? b=some o->h'.get? b=some o)->2<=vs.length->∀Q:SortKind->eU->Prop,Q κ {s with heap:=h'}->wpAny (model prog w) A' (keyKind' vs.toArray) Q E' {s with heap:=h'})(z:∀h',(∀b o,s.heap.get? b=some o->h'.get? b=some o)->∀i j,i<vs.length->j<vs.length->∀C:Bool->eU->Prop,C (lt i j) {s with heap:=h'}->W.kas_ask prog w A.in1.in1 κ vs i j C {s with heap:=h'})(h:∀p:eW Nat,p.Perm (List.range vs.length)->p.Pairwise (λi j=>lt i j=true)->Q (.ref (s.heap.objs.size+1)) {s with heap:=sortedAll s.heap vs (p.map λi=>vs.getD i Value.none).toArray}):wpAny (model prog w) A (call (.builtin "sorted") [.ref l]) Q E s:=by
 refine Calls.call_function_entry kind_sorted plain_sorted entry_sorted (args_sorted1 _) ?_;unfold Builtin.«sorted»;refine ac (m:=checkCount "sorted" 1 1 _) (av ?_);refine ac (collect_list y (ac (wpAny_newList ?_)) (by rw[ci];lia));have d:((s.heap.push (seqObj "list" #[] 0)).update s.heap.objs.size (Obj.mapSeq (·++vs.toArray))).objs.size=s.heap.objs.size+1:=by rw[ef,size_push']
 have e:(((s.heap.push (seqObj "list" #[] 0)).update s.heap.objs.size (Obj.mapSeq (·++vs.toArray))).push (seqObj "list" vs.toArray 0)).get? (s.heap.objs.size+1)=some (seqObj "list" vs.toArray 0):=by rw[<-d];exact aO _ rfl
 have keep:∀b o,s.heap.get? b=some o->b≠s.heap.objs.size+1/\(((s.heap.push (seqObj "list" #[] 0)).update s.heap.objs.size (Obj.mapSeq (·++vs.toArray))).push (seqObj "list" vs.toArray 0)).get? b=some o:=λb o q=>by have a:b<s.heap.objs.size:=aS q;refine⟨aX (dR a),?_⟩;rw[dj _ _ _ (by rw[d];exact aX (dR a)),Heap.get?_update_ne _ _ _ _ (aX a),dj _ _ _ (aX a)];exact q
 show wpAny _ _ _ _ _ {s with heap:=((s.heap.push (seqObj "list" #[] 0)).update s.heap.objs.size (Obj.mapSeq (·++vs.toArray))).push (seqObj "list" vs.toArray 0)};rw[d];refine ac (bw (cB slot_list_sort ⟨_,e,rfl⟩ entry_list_sort (yS e v S B (λh' g=>x _ _ h' λb o q=>g b o (keep b o q).1 (keep b o q).2) (λh' g=>z h' λb o q=>g b o (keep b o q).1 (keep b o q).2) λp hp t=>⟨_,rfl,?_⟩) (args_list_sort _)));exact av ⟨_,rfl,h p hp t⟩
end
def vq (H:Hp)(v:V)(k:SI):Prop:=∃q,v=.ref q/\H q=some (.tup [.str k.1,.int k.2])
theorem ym {α:Type}{d:α}{xs:eW α}{p:eW Nat}(h:p.Perm (List.range xs.length)):(p.map λi=>xs.getD i d).Perm xs:=by refine(h.map _).trans (List.Perm.of_eq ?_);refine List.ext_getElem? λi=>?_;rw[ai];by_cases hi:i<xs.length;rw[ar (by simpa using hi),ar hi];simp[hi];rw[d0 (by simpa using hi),d0 (by lia)];rfl
theorem ua:j6 X (.builtin "sorted") (λxs H Q=>∃(a:eQ) (vs:eW V) (ks:eW SI),xs=[.ref a]/\gf X.K H a vs/\ff (vq H) vs ks/\ks.Nodup/\ks.length<64/\∀(p:eQ) (vs':eW V) (ks':eW SI),H p=none->ff (vq H) vs' ks'->ks'.Perm ks->ks'.Pairwise (λa b=>rl a b=true)->Q (.ref p) (upd H p (.lst vs'))):=by
 intro ap s σ H xs us Q I r h;obtain⟨a,vs,ks,rfl,hS,hp,al,as,q⟩:=h;obtain⟨u,rfl,r1⟩:=jA r;cases (show u=Value.ref a from r1);obtain⟨g,rv,pl,hz⟩:=I.list hS;have l1:vs.length=g.length:=rv.length;have l2:vs.length=ks.length:=Paired.length hp;have D:∀i,(y:i<g.length)->∃(b:eQ) (o:Obj) (t t':Tok) (n:Nat),g[i]=.ref b/\vs[i]?=some (V.ref b)/\H b=some (.tup [.str (ks.getD i (Str.empty,0)).1,.int (ks.getD i (Str.empty,0)).2])/\s.heap.get? b=some o/\o.cls=.type "tuple"/\o.data=.seq #[.str (ks.getD i (Str.empty,0)).1 t,.int (ks.getD i (Str.empty,0)).2 t'] n:=λi y=>by
  have E:vs[i]?=some (vs[i]'(by lia)):=ar (by lia);obtain⟨w',hw,N⟩:=rv.get E;rw[ar y]at hw;obtain⟨k,hk,b,Z,M⟩:=Aw hp E;have ad:ks.getD i (Str.empty,0)=k:=by rw[bi,hk];rfl
  rw[Z]at N E;obtain⟨z,ts,rt,o,e,c,n,dd⟩:=(show ib X.prog X.w H s.heap b (.tup [.str k.1,.int k.2]) from I.hok b _ M);cases rt with|cons r1 r2=>cases r2 with|cons r3 r4=>cases r4;obtain⟨t,rfl⟩:=r1;obtain⟨t',rfl⟩:=r3;rw[ad];exact⟨b,o,t,t',n,(Option.some.inj hw).trans (show w'=Value.ref b from N),E,M,e,c,dd⟩
 have gd:∀i,(y:i<g.length)->g.getD i Value.none=g[i]:=λi y=>by rw[bi,ar y];rfl
 refine vA (lt:=λi j=>rl (ks.getD i (Str.empty,0)) (ks.getD j (Str.empty,0))) (κ:=tuples' (Value.type "str" != Value.type "tuple")) pl.isList (by lia) ⟨λ_ _ _=>yP,λ_ _=>yR⟩ (λi j y J ah=>yQ λz=>ah ?_) (λA' E' U Y h2 Q' hq=>?_) (λU Y i j y J C F=>?_) λp G aa=>?_;rw[bi,bi,ar (by lia),ar (by lia)]at z;exact(List.getElem_inj al).mp z;have R:∀(m:Nat),m<=g.length->∃fs,W.KatTups U (g.drop m) fs/\fs.length=g.length-m/\∀v∈fs,∃x t,v=.str x t:=by
  intro m hm;obtain⟨d,hd⟩:∃d,d=g.length-m:=⟨_,rfl⟩;induction d generalizing m with
  |zero=>
   have:m=g.length:=by lia
   subst this;exact⟨[],by rw[List.drop_length];exact .nil,by simp,λv E=>nomatch E⟩
  |succ d ih=>
  have P:m<g.length:=by lia
  obtain⟨fs,f1,f2,f3⟩:=ih (m+1) (by lia) (by lia);obtain⟨b,o,t,t',n,B,_,_,e3,e4,e5⟩:=D m P;refine⟨.str (ks.getD m (Str.empty,0)).1 t::fs,?_,by rw[au];lia,λv E=>?_⟩;rw[dw P,B];exact .cons (Y _ _ e3) e4 e5 rfl f1;rcases ao.mp E with z|z;exact⟨_,_,z⟩;exact f3 v z
 obtain⟨fs,f1,f2,f3⟩:=R 0 (bp _);refine W.kat_kind (s:={s with heap:=U}) (T:=.type "str") (fs:=fs) (by simpa using f1) (by lia) (λv E=>?_) (by decide) hq;obtain⟨x,t,rfl⟩:=f3 v E;exact .now;obtain⟨b,o,t,t',n,B,_,_,e3,e4,e5⟩:=D i y;obtain⟨b2,o2,t2,ab,n2,g1,_,_,g3,g4,g5⟩:=D j J;unfold W.kas_ask;rw[gd i y,gd j J,B,g1,show(Value.type "str" != Value.type "tuple")=true by decide];generalize ks.getD i (Str.empty,0)=k1 at *;generalize ks.getD j (Str.empty,0)=k2 at *;refine W.kat_lt (s:={s with heap:=U}) (Y _ _ e3) e5 (Y _ _ g3) g5 ?_;show W.KatLex X.prog X.w X.A.in1.in1 true (decide (2<2)) C [(.str k1.1 t,.str k2.1 t2),(.int k1.2 t',.int k2.2 ab)] 0 _;refine W.kat_cons (SeqAt.EqAt.str_str _ _ _ _ _ _ _ _ ?_);refine W.kat_go (λL=>W.kat_yes (W.kat_cons (SeqAt.EqAt.int_int _ _ _ _ _ _ _ _ (W.kat_go (λS=>W.kat_yes (W.kat_nil ?_)) λS=>W.kat_no ?_)))) (λL=>W.kat_no ?_);have B:k1.1=k2.1:=by simpa using L
 have e2:k1.2=k2.2:=by simpa using S
 have:rl k1 k2=decide (2<2):=by unfold rl;rw[ay B,e2];simp
 try dsimp only at F
 rw[this]at F;exact F;have B:k1.1=k2.1:=by simpa using L
 refine W.kat_one _ _ (lt_int ?_);have:rl k1 k2=decide (k1.2<k2.2):=by unfold rl;rw[ay B]
 try dsimp only at F
 rw[this]at F;exact F;have B:¬k1.1=k2.1:=by simpa using L
 have:rl k1 k2=decide (k1.1.cps.toList<k2.1.cps.toList):=by unfold rl;rw[ax B]
 try dsimp only at F
 rw[this]at F;exact oneLt_str F;have M:∀i∈p,i<g.length:=λi y=>List.mem_range.mp (G.subset y);have pk:∀(l:eW Nat),(∀i∈l,i<g.length)->ff (vq H) (l.map λi=>vs.getD i V.non) (l.map λi=>ks.getD i (Str.empty,0)):=λl=>by induction l with|nil=>exact λ_=>.nil|cons i l ih=>intro O;obtain⟨b,o,t,t',n,B,ev,Z,_⟩:=D i (O i (by simp));rw[aH,aH];refine .cons ⟨b,?_,Z⟩ (ih λj J=>O j (by simp[J]));rw[bi,ev];rfl
 have pv:∀(l:eW Nat),(∀i∈l,i<g.length)->g0 (l.map λi=>vs.getD i V.non) (l.map λi=>g.getD i Value.none):=λl=>by induction l with|nil=>exact λ_=>.nil|cons i l ih=>intro O;have y:=O i (by simp);obtain⟨b,o,t,t',n,B,ev,Z,_⟩:=D i y;rw[aH,aH];refine .cons ?_ (ih λj J=>O j (by simp[J]));rw[bi,ev,gd i y,B];exact rfl
 have an:p.length=g.length:=by rw[G.length_eq,List.length_range]
 have ag:=I.hok.fresh (dU s.heap.objs.size);obtain⟨e,L⟩:=sortedAll_at s.heap g (p.map λi=>g.getD i Value.none).toArray;refine⟨.ref (s.heap.objs.size+1),upd H (s.heap.objs.size+1) (.lst (p.map λi=>vs.getD i V.non)),I.laid (t':=s.toks) (λb u q=>sortedAll_old q) (dU _) ⟨?_,_,e,pv p M,by rw[L]⟩,rfl,q _ _ _ ag (pk p M) (ym ?_) ?_⟩;rw[ae,an,<-l1];exact hz;rw[show ks.length=g.length by lia];exact G;rw[di];exact aa
end Lake
namespace Lake.FB
open PySem PyProof.Rows
variable {F:eW Fk}{L L':jz}{a b i m m' p spot:Nat}{es:eW En}{j:Pk}{ls:eW Ln}{s:Sd}{v:Int}{x:Str}
structure fA where
 es:eW En
 sn:eW Nd
 ks:eW Pk
 mem:∀k,k∈ks↔k∈es.map fN
 nd:ks.Nodup
 pm:ks.Perm (es.map fN)
 ord:ks.Pairwise λa b=>rl a b=true
 srt:∀(i j:Nat) (a b:Pk),ks[i]?=some a->ks[j]?=some b->i<j->a.1=b.1->a.2<b.2
def fA.n (c:fA):Nat:=c.ks.length
noncomputable def fA.ix (c:fA)(k:Pk):Nat:=c.ks.idxOf k
def fA.has (c:fA)(m:Nat)(k:Pk):Prop:=k∈c.ks/\m.testBit (c.ix k)=true
instance (c:fA) (m:Nat) (k:Pk):Decidable (c.has m k):=inferInstanceAs (Decidable (_/\_))
def fA.bit (c:fA)(k:Pk):Nat:=2^c.ix k
def fA.Mo (c:fA):fc Pk->Nat
 |none=>0
 |some k=>c.bit k
def fA.listed (c:fA)(m:Nat):eW Pk:=c.ks.filter λk=>m.testBit (c.ix k)
def i5 (a b:Nat):Nat:=a ^^^ (a &&& b)
def fA.Mp (c:fA){k:Pk}(h:k∈c.ks):c.ix k<c.n:=bD.mpr h
def fA.Mq (c:fA){k:Pk}(h:k∈c.ks):c.ks[c.ix k]?=some k:=by rw[ar (c.Mp h)];exact congrArg some (cO (c.Mp h))
def fA.Mr (c:fA){k:Pk}(b:j∈c.ks)(d:k∈c.ks)(h:c.ix j=c.ix k):j=k:=by have a:=c.Mq b;rw[h,c.Mq d]at a;exact(Option.some.inj a).symm
def fA.Ms (c:fA){k:Pk}(h:c.ks[i]?=some k):c.ix k=i:=by have b:=ak h;have a:=c.Mq b;have d:=(aj.mp h).1;have e:=c.Mp b;rw[ar d]at h;rw[ar e]at a;exact(List.getElem_inj c.nd).mp ((Option.some.inj a).trans (Option.some.inj h).symm)
def fA.Mu {c:fA}{k:Pk}:k∈c.listed m↔c.has m k:=by unfold fA.listed fA.has;rw[aY]
def fA.Mv {c:fA}{k:Pk}:c.has (a ||| b) k↔c.has a k\/c.has b k:=by unfold fA.has;rw[Nat.testBit_or,dO];constructor;rintro⟨h,x|x⟩;exact .inl ⟨h,x⟩;exact .inr ⟨h,x⟩;rintro(⟨h,x⟩|⟨h,x⟩);exact⟨h,.inl x⟩;exact⟨h,.inr x⟩
def fA.Mw {c:fA}{k:Pk}:c.has (a &&& b) k↔c.has a k/\c.has b k:=by unfold fA.has;rw[Nat.testBit_and,aQ];constructor;rintro⟨h,x,y⟩;exact⟨⟨h,x⟩,⟨h,y⟩⟩;rintro⟨⟨h,x⟩,⟨_,y⟩⟩;exact⟨h,x,y⟩
def oO (a b i:Nat):(i5 a b).testBit i=(a.testBit i&&!b.testBit i):=by unfold i5;rw[Nat.testBit_xor,Nat.testBit_and];cases a.testBit i <;> cases b.testBit i <;> rfl
def fA.Mx {c:fA}{k:Pk}:c.has (i5 a b) k↔c.has a k/\¬c.has b k:=by unfold fA.has;rw[oO,aQ,bQ];constructor;rintro⟨h,x,y⟩;exact⟨⟨h,x⟩,λz=>by rw[z.2]at y;cases y⟩;rintro⟨⟨h,x⟩,y⟩;exact⟨h,x,bE.mpr λz=>y ⟨h,z⟩⟩
def fA.My {c:fA}{k:Pk}(a:j∈c.ks):c.has (c.bit j) k↔k=j:=by unfold fA.has fA.bit;rw[Nat.testBit_two_pow];constructor;rintro⟨h,x⟩;exact c.Mr h a (ba x).symm;rintro rfl;exact⟨a,aq rfl⟩
def fA.Mz {c:fA}{k:Pk}:¬c.has 0 k:=λh=>by
 have:=h.2;rw[Nat.zero_testBit]at this;cases this
def fA.MC (c:fA){k:Pk}(h:k∈c.ks):c.bit k<2^c.n:=Nat.pow_lt_pow_right (by decide) (c.Mp h)
def j4 {n:Nat}(ha:a<2^n)(hb:b<2^n):a ||| b<2^n:=Nat.or_lt_two_pow ha hb
def oH {n:Nat}(ha:a<2^n):a &&& b<2^n:=bX Nat.and_le_left ha
def kD {n:Nat}(ha:a<2^n):i5 a b<2^n:=Nat.xor_lt_two_pow ha (oH ha)
theorem fA.ext {c:fA}(l:a<2^c.n)(j:b<2^c.n)(h:∀k,c.has a k↔c.has b k):a=b:=by refine Nat.eq_of_testBit_eq λi=>?_;by_cases hi:i<c.n;have e:c.ks[i]?=some c.ks[i]:=ar hi;have d:=ak e;have g:=c.Ms e;have:=h c.ks[i];unfold fA.has at this;rw[g]at this;rw[dg];constructor;exact λz=>(this.mp ⟨d,z⟩).2;exact λz=>(this.mpr ⟨d,z⟩).2;have hp:2^c.n<=2^i:=Nat.pow_le_pow_right (by decide) (by lia);rw[Nat.testBit_lt_two_pow (by lia),Nat.testBit_lt_two_pow (by lia)]
def fA.MD {c:fA}(ha:a<2^c.n)(h:∀k,¬c.has a k):a=0:=fA.ext ha (bS _) λk=>⟨λz=>(h k z).elim,λz=>(fA.Mz z).elim⟩
def fA.MF {c:fA}(d:a<2^c.n):c.listed a=[]↔a=0:=by constructor;intro h;refine fA.MD d λk b=>?_;have:=fA.Mu.mpr b;rw[h]at this;cases this;rintro rfl;unfold fA.listed;simp
def fA.MH (c:fA)(m:Nat):(c.listed m).Nodup:=c.nd.sublist List.filter_sublist
def fA.maskOf (c:fA)(p:Pk->Bool):Nat:=(c.ks.filter p).foldl (λm k=>m ||| c.bit k) 0
theorem fA.MI {c:fA}:∀(l:eW Pk) (m:Nat),(∀k∈l,k∈c.ks)->∀k,c.has (l.foldl (λm k=>m ||| c.bit k) m) k↔c.has m k\/k∈l
 |[],m,_,k=>by simp
 |x::l,m,h,k=>by rw[List.foldl_cons,fA.MI l _ (λy hy=>h y (by simp[hy])),fA.Mv,fA.My (h x (by simp)),ao,or_assoc]
theorem fA.fold_lt {c:fA}:∀(l:eW Pk) (m:Nat),(∀k∈l,k∈c.ks)->m<2^c.n->l.foldl (λm k=>m ||| c.bit k) m<2^c.n
 |[],m,_,hm=>hm
 |x::l,m,h,hm=>fA.fold_lt l _ (λy hy=>h y (by simp[hy])) (j4 hm (c.MC (h x (by simp))))
def fA.MJ {c:fA}{p:Pk->Bool}{k:Pk}:c.has (c.maskOf p) k↔k∈c.ks/\p k=true:=by unfold fA.maskOf;rw[fA.MI _ _ λy a=>(aY.mp a).1,aY];exact⟨λz=>z.elim (λy=>(fA.Mz y).elim) id,.inr⟩
def fA.MQ (c:fA)(p:Pk->Bool):c.maskOf p<2^c.n:=fA.fold_lt _ _ (λy hy=>(aY.mp hy).1) (bS _)
def fA.needs (c:fA)(w:fc Pk):eW Nd:=ju c.es c.sn w
def fA.MR (c:fA)(w:fc Pk)(k:Pk):Prop:=∃n∈c.needs w,rn n k=true
def fA.foe (c:fA)(j k:Pk):Prop:=c.MR (some j) k\/c.MR (some k) j
def fA.MT {c:fA}{k:Pk}(h:c.foe j k):c.foe k j:=h.elim .inr .inl
def fA.MU (c:fA)(m:Nat):fc Pk->Prop
 |none=>True
 |some k=>c.has m k
abbrev jz:=eW (Nat×Rs)
def fA.ln (c:fA)(e:Nat×Rs):Ln:=(c.listed e.1,e.2)
def fA.lns (c:fA)(L:jz):eW Ln:=L.map c.ln
def fA.MV (c:fA)(m:Nat):Prop:=∀j k,c.has m j->c.has m k->j.1=k.1->j=k
structure jm (c:fA)(L:jz):Prop where
 good:∀i e,L[i]?=some e->l5 c.es c.sn (c.lns L) (i:Nat) (c.ln e)=true
 lt:∀e∈L,e.1<2^c.n
 one:∀e∈L,c.MV e.1
 nd:(L.map (·.1)).Nodup
theorem Bb {α:Type}{xs ys:eW α}{i:Int}(h:i<(xs.length:Int)):kW (xs++ys) i=kW xs i:=by unfold kW;by_cases h0:0<=i;rw[ay h0,ay h0,aT (by lia)];rw[ax h0,ax h0]
theorem BU {ys:eW Ln}{ps:eW Pk}{b:Int}(h:spot<=ls.length):zp (ls++ys) spot ps x b v=zp ls spot ps x b v:=by unfold zp;by_cases hb:b<(spot:Int);rw[Bb (by lia)];rw[aw hb,cg,cg]
def rT {sn:eW Nd}{ys:eW Ln}{l:Ln}(h:spot<=ls.length):l5 es sn (ls++ys) spot l=l5 es sn ls spot l:=by unfold l5;cases hn:kW (ju es sn l.2.who) l.2.place with|none=>rfl|some n=>dsimp only;congr 1;cases ht:l.2.told with|one k=>rfl|many bs=>show oX es (ls++ys) spot l.1 n bs=oX es ls spot l.1 n bs;unfold oX;congr 1;refine congrArg (λf=>List.all _ f) (funext λa=>?_);exact BU h
def jm.nil (c:fA):jm c []:=⟨(λi e h=>by simp at h),(λe h=>nomatch h),(λe h=>nomatch h),bF⟩
theorem jm.add {c:fA}(h:jm c L){r:Rs}(j:m<2^c.n)(l:c.MV m)(t:m∉L.map (·.1))(q:l5 c.es c.sn (c.lns L) (L.length:Nat) (c.listed m,r)=true):jm c (L++[(m,r)]):=by
 have o:c.lns (L++[(m,r)])=c.lns L++[(c.listed m,r)]:=by unfold fA.lns;rw[aC];rfl
 have v:(c.lns L).length=L.length:=ae _;refine⟨λi e d=>?_,λe d=>?_,λe d=>?_,?_⟩;rw[o];by_cases hi:i<L.length;rw[aT hi]at d;rw[rT (by lia)];exact h.good i e d;have g:i=L.length:=by have:=(aj.mp d).1;rw[aB,aM]at this;lia
 subst g;rw[bh (am _),cj]at d;have:e=(m,r):=by simpa using d.symm
 subst this;rw[rT (by lia)];exact q;rcases aE.mp d with y|y;exact h.lt e y;rw[af.mp y];exact j;rcases aE.mp d with y|y;exact h.one e y;rw[af.mp y];exact l;rw[aC,bU];exact⟨h.nd,by simp,λa p b s e=>t (by rw[show b=m by simpa using s]at e;exact e▸p)⟩
def zF {c:fA}{w:fc Pk}(h:c.MU m w):GR c.es (c.listed m) w=true:=by cases w with|none=>rfl|some k=>have a:c.has m k:=h;show(decide (k∈c.listed m)&&decide (k∈c.es.map fN))=true;rw[aq (fA.Mu.mpr a),aq ((c.mem k).mp a.1)];rfl
def AN {c:fA}{w:fc Pk}{k:Pk}{n:Nd}(a:c.MU m w)(d:c.has m k)(e:(c.needs w)[i]?=some n)(b:rn n k=true):l5 c.es c.sn ls spot (c.listed m,⟨w,(i:Nat),.one k⟩)=true:=by unfold l5;rw[zF a];dsimp only;rw[jG,show(ju c.es c.sn w)[i]?=some n from e];show(decide (k∈c.listed m)&&rn n k)=true;rw[aq (fA.Mu.mpr d),b];rfl
theorem yo {c:fA}{w:fc Pk}{n:Nd}{bs:eW Nat}(l:c.MU m w)(B:(c.needs w)[i]?=some n)(q:bs.length=(lE c.es n).length)(z:∀(j b:Nat) (v:Int),bs[j]?=some b->(lE c.es n)[j]?=some v->∃e,L[b]?=some e/\∀x,c.has e.1 x->x=(n.1,v)\/c.has m x):l5 c.es c.sn (c.lns L) (L.length:Nat) (c.listed m,⟨w,(i:Nat),.many (bs.map λb:Nat=>(b:Int))⟩)=true:=by
 unfold l5;rw[zF l];dsimp only;rw[jG,show(ju c.es c.sn w)[i]?=some n from B];show oX c.es (c.lns L) (L.length:Nat) (c.listed m) n (bs.map λb:Nat=>(b:Int))=true;unfold oX;rw[ae,aq q,cQ,bN];rintro⟨b,v⟩ d;obtain⟨j,C⟩:=aD.mp d;obtain⟨h,s⟩:=List.getElem?_zip_eq_some.mp C;rw[ai]at h;obtain⟨a,t,rfl⟩:=aF.mp h;obtain⟨e,g,A⟩:=z j a v t s;have o:a<L.length:=(aj.mp g).1;unfold zp;dsimp only;rw[aq (by lia),aq (p:=((a:Nat):Int)<((L.length:Nat):Int)) (by lia),cQ,cQ,jG];have D:(c.lns L)[a]?=some (c.ln e):=by unfold fA.lns;rw[ai,g];rfl
 rw[D];show((c.listed e.1).all λp=>decide (p∈c.listed m)||decide (p=(n.1,v)))=true;rw[bN];intro p hp;rcases A p (fA.Mu.mp hp) with y|y;rw[aq y,Bool.or_true];rw[aq (fA.Mu.mpr y),Bool.true_or]
def fA.MX (c:fA)(L:jz)(m:Nat)(k:Pk):Prop:=∃e∈L,c.has e.1 k/\∀j,c.has e.1 j->j=k\/c.has m j
def fA.MY (c:fA)(L:jz)(m:Nat)(k:Pk):Prop:=c.MR none k\/c.foe k k\/(∃j,c.has m j/\c.foe k j)\/c.MX L m k
def fA.MX.mono {c:fA}{k:Pk}(h:c.MX L m k)(hL:∀e∈L,e∈L')(hm:∀j,c.has m j->c.has m' j):c.MX L' m' k:=
 (by obtain⟨e,he,h1,h2⟩:=h;exact⟨e,hL e he,h1,λj hj=>(h2 j hj).imp id (hm j)⟩)
def fA.MY.mono {c:fA}{k:Pk}(h:c.MY L m k)(d:∀e∈L,e∈L')(a:∀j,c.has m j->c.has m' j):c.MY L' m' k:=by rcases h with h|h|⟨j,b,g⟩|h;exact .inl h;exact .inr (.inl h);exact .inr (.inr (.inl ⟨j,a j b,g⟩));exact .inr (.inr (.inr (fA.MX.mono h d a)))
structure Sd where
 picked:Nat
 dead:Nat
 wanted:eW (Str×fc Pk)
noncomputable def fV:eW Nd->eW Str
 |[]=>[]
 |n::ns=>n.1::(fV ns).filter λx=>!decide (x=n.1)
theorem iX {x:Str}:∀{ns:eW Nd},x∈fV ns↔∃n∈ns,n.1=x
 |[]=>by simp[fV]
 |n::ns=>by rw[fV,ao,aY,iX (ns:=ns)];constructor;rintro(rfl|⟨⟨m,hm,rfl⟩,_⟩);exact⟨n,by simp,rfl⟩;exact⟨m,by simp[hm],rfl⟩;rintro⟨m,hm,rfl⟩;by_cases h:m.1=n.1;exact .inl h;rcases ao.mp hm with rfl|hm;exact absurd rfl h;exact .inr ⟨⟨m,hm,rfl⟩,by simpa using h⟩
theorem j3:∀ns:eW Nd,(fV ns).Nodup
 |[]=>bF
 |n::ns=>by rw[fV,bb];exact⟨λh=>by simpa using (aY.mp h).2,(j3 ns).sublist List.filter_sublist⟩
def fA.start (c:fA):eW Str:=fV c.sn
def fA.isP (c:fA)(m:Nat)(x:Str):Prop:=∃j,c.has m j/\j.1=x
inductive fA.Named (c:fA)(m:Nat):Pk->Prop
 |start {k:Pk}:c.has m k->k.1∈(c.needs none).map (·.1)->c.Named m k
 |next {j k:Pk}:c.Named m j->c.has m k->k.1∈(c.needs (some j)).map (·.1)->c.Named m k
structure jv (c:fA)(L:jz)(s:Sd):Prop where
 pl:s.picked<2^c.n
 dl:s.dead<2^c.n
 just:∀k,c.has s.dead k->c.MY L s.picked k
 sup:∀k∈c.ks,(c.MR none k\/c.foe k k\/∃j,c.has s.picked j/\c.foe k j)->c.has s.dead k
 off:∀k,c.has s.dead k->¬c.has s.picked k
 one:c.MV s.picked
 named:∀k,c.has s.picked k->c.Named s.picked k
 wk:(s.wanted.map (·.1)).Nodup
 w1:∀x w,(x,w)∈s.wanted->¬c.isP s.picked x/\c.MU s.picked w/\x∈(c.needs w).map (·.1)
 w2:∀w,c.MU s.picked w->∀n∈c.needs w,c.isP s.picked n.1\/n.1∈s.wanted.map (·.1)
 ws:∀(i j:Nat) (x y:Str),(s.wanted.map (·.1))[i]?=some x->(s.wanted.map (·.1))[j]?=some y->y∈c.start->i<j->x∈c.start/\c.start.idxOf x<c.start.idxOf y
def jv.led {c:fA}(h:jv c L s)(hL:∀e∈L,e∈L'):jv c L' s:=⟨h.pl,h.dl,λk hk=>fA.MY.mono (h.just k hk) hL λ_ z=>z,h.sup,h.off,h.one,h.named,h.wk,h.w1,h.w2,h.ws⟩
def jv.bar {c:fA}(h:jv c L s){k:Pk}(b:k∈c.ks)(e:¬c.has s.picked k)(d:c.MX L s.picked k):jv c L {s with dead:=s.dead ||| c.bit k}:=by refine⟨h.pl,j4 h.dl (c.MC b),λj a=>?_,λj a g=>fA.Mv.mpr (.inl (h.sup j a g)),λj a=>?_,h.one,h.named,h.wk,h.w1,h.w2,h.ws⟩;rcases fA.Mv.mp a with y|y;exact h.just j y;rw[(fA.My b).mp y];exact .inr (.inr (.inr d));rcases fA.Mv.mp a with y|y;exact h.off j y;rw[(fA.My b).mp y];exact e
structure Fk where
 part:Str
 sd:Sd
 bit:fc Pk
def fA.Rule (c:fA)(x:Str)(s:Sd):Prop:=
 (x∈c.start/\∀y∈c.start,c.start.idxOf y<c.start.idxOf x->c.isP s.picked y)\/(∀j j',j∈c.ks->j'∈c.ks->j.1=x->j'.1=x->¬c.has s.dead j->¬c.has s.dead j'->j=j')\/∀y∈c.start,c.isP s.picked y
structure lr (c:fA)(f:Fk):Prop where
 open_:f.part∈f.sd.wanted.map (·.1)
 rule:c.Rule f.part f.sd
 bit:∀k,f.bit=some k->k∈c.ks/\k.1=f.part/\∀j∈c.ks,j.1=f.part->k.2<j.2->c.has f.sd.dead j
def fA.MZ (c:fA)(f:Fk)(s:Sd):Prop:=∃k,f.bit=some k/\s.picked=f.sd.picked ||| c.bit k/\∀j,c.has f.sd.dead j->c.has s.dead j
inductive gW (c:fA)(L:jz):eW Fk->Sd->Prop
 |nil {s:Sd}:s.picked=0->jv c L s->gW c L [] s
 |cons {f:Fk} {F:eW Fk} {s:Sd}:gW c L F f.sd->lr c f->c.MZ f s->jv c L s->gW c L (f::F) s
def gW.sd {c:fA}(h:gW c L F s):jv c L s:=by cases h with|nil _ h=>exact h|cons _ _ _ h=>exact h
def gW.led {c:fA}(a:∀e∈L,e∈L')(h:gW c L F s):gW c L' F s:=by induction h with|nil h1 h2=>exact .nil h1 (h2.led a)|cons _ h2 h3 h4 ih=>exact .cons ih h2 h3 (h4.led a)
def lr.out {c:fA}{f:Fk}(h:lr c f)(a:jv c L f.sd):¬c.isP f.sd.picked f.part:=by obtain⟨⟨x,w⟩,b,e⟩:=aA.mp h.open_;have:=(a.w1 x w b).1;rw[show f.part=x from e.symm];exact this
def lr.M0 {c:fA}{f:Fk}{k:Pk}(h:lr c f)(hs:jv c L f.sd)(hk:f.bit=some k):¬c.has f.sd.picked k:=λz=>h.out hs ⟨k,z,(h.bit k hk).2.1⟩
def gW.sub {c:fA}(h:gW c L F s):∀g∈F,(∀j,c.has g.sd.picked j->c.has s.picked j)/\(∀j,c.has g.sd.dead j->c.has s.dead j)/\∀k,g.bit=some k->c.has s.picked k:=by induction h with|nil _ _=>intro g hg;cases hg|@cons f F s h1 h2 h3 h4 ih=>obtain⟨k,i,hp,e⟩:=h3;intro g hg;have d:=(h2.bit k i).1;rcases ao.mp hg with rfl|hg;refine⟨λj b=>by rw[hp];exact fA.Mv.mpr (.inl b),e,λl a=>?_⟩;rw[i]at a;cases a;rw[hp];exact fA.Mv.mpr (.inr ((fA.My d).mpr rfl));obtain⟨m,p,o⟩:=ih g hg;refine⟨λj b=>by rw[hp];exact fA.Mv.mpr (.inl (m j b)),λj b=>e j (p j b),λl a=>by rw[hp];exact fA.Mv.mpr (.inl (o l a))⟩
def gW.live {c:fA}(h:gW c L F s):∀g∈F,∀k,g.bit=some k->¬c.has g.sd.dead k:=λg hg k hk z=>by
 obtain⟨_,h2,h3⟩:=h.sub g hg;exact h.sd.off k (h2 k z) (h3 k hk)
def gW.to {c:fA}(h:gW c L F s):∀{A:eW Fk} {g:Fk} {B:eW Fk},F=A++g::B->gW c L B g.sd/\lr c g:=by
 induction h with|nil _ _=>intro A g B e;simp at e|@cons f F s h1 h2 h3 h4 ih=>
  intro A g B e;cases A with|nil=>rw[et]at e;cases e;exact⟨h1,h2⟩|cons a A=>
   rw[dD]at e;injection e with d b
   exact ih b
def fA.M4 (c:fA)(k:Pk)(m:Nat)(s:Sd):Sd:=if i5 (i5 m (c.bit k)) s.picked=0 then {s with dead:=s.dead ||| c.bit k} else s
def fA.M7 (c:fA)(k:Pk)(m:Nat)(f:Fk):Fk:={f with sd:=c.M4 k m f.sd}
def fA.M9 (c:fA)(k:Pk)(m:Nat)(s:Sd):(c.M4 k m s).picked=s.picked:=by unfold fA.M4;split <;> rfl
def fA.Na (c:fA)(k:Pk)(m:Nat)(s:Sd):(c.M4 k m s).wanted=s.wanted:=by unfold fA.M4;split <;> rfl
def fA.Nb {c:fA}{k:Pk}(h:c.has s.dead j):c.has (c.M4 k m s).dead j:=by unfold fA.M4;split;exact fA.Mv.mpr (.inl h);exact h
def fA.Nc {c:fA}{k:Pk}(a:k∈c.ks)(h:c.has (c.M4 k m s).dead j):c.has s.dead j\/j=k:=by unfold fA.M4 at h;split at h;exact(fA.Mv.mp h).imp id (fA.My a).mp;exact .inl h
def fA.Nf {c:fA}{k:Pk}(b:k∈c.ks)(d:m<2^c.n):i5 (i5 m (c.bit k)) s.picked=0↔∀j,c.has m j->j=k\/c.has s.picked j:=by constructor;intro h j a;by_cases e:j=k;exact .inl e;refine .inr (Decidable.byContradiction λz=>?_);have:c.has (i5 (i5 m (c.bit k)) s.picked) j:=fA.Mx.mpr ⟨fA.Mx.mpr ⟨a,λy=>e ((fA.My b).mp y)⟩,z⟩;rw[h]at this;exact fA.Mz this;intro h;refine fA.MD (kD (kD d)) λj a=>?_;obtain⟨l,g⟩:=fA.Mx.mp a;obtain⟨o,i⟩:=fA.Mx.mp l;rcases h j o with y|y;exact i ((fA.My b).mpr y);exact g y
def jv.M4 {c:fA}(h:jv c L s){k:Pk}{e:Nat×Rs}(b:k∈c.ks)(g:e∈L)(d:e.1<2^c.n)(a:c.has e.1 k)(i:¬c.has s.picked k):jv c L (c.M4 k e.1 s):=by
 unfold fA.M4;split
 next z=>exact h.bar b i ⟨e,g,a,(fA.Nf b d).mp z⟩
 exact h
def Rule.M4 {c:fA}{k:Pk}(h:c.Rule x s):c.Rule x (c.M4 k m s):=by unfold fA.Rule at *;rw[fA.M9];rcases h with h|h|h;exact .inl h;exact .inr (.inl λj b d e g a i l=>h j b d e g a (λz=>i (fA.Nb z)) λz=>l (fA.Nb z));exact .inr (.inr h)
def lr.M7 {c:fA}{f:Fk}{k:Pk}(h:lr c f):lr c (c.M7 k m f):=by refine⟨?_,Rule.M4 h.rule,λj a=>?_⟩;show f.part∈(c.M4 k m f.sd).wanted.map (·.1);rw[fA.Na];exact h.open_;obtain⟨g,d,l⟩:=h.bit j a;exact⟨g,d,λi b e o=>fA.Nb (l i b e o)⟩
def gW.M7 {c:fA}(h:gW c L F s){k:Pk}{e:Nat×Rs}(b:k∈c.ks)(v:e∈L)(l:e.1<2^c.n)(d:c.has e.1 k):¬c.has s.picked k->gW c L (F.map (c.M7 k e.1)) (c.M4 k e.1 s):=by
 induction h with|@nil s h1 h2=>exact λg=>.nil (by rw[fA.M9];exact h1) (h2.M4 b v l d g)|@cons f F s h1 h2 h3 h4 ih=>
  intro g;obtain⟨B,q,hp,x⟩:=h3;have m:¬c.has f.sd.picked k:=λz=>g (by rw[hp];exact fA.Mv.mpr (.inl z));refine .cons (ih m) h2.M7 ⟨B,q,?_,λj t=>?_⟩ (h4.M4 b v l d g);rw[fA.M9,hp];show _=(c.M4 k e.1 f.sd).picked ||| _;rw[fA.M9];by_cases hj2:c.has f.sd.dead j;exact fA.Nb (x j hj2);have y:i5 (i5 e.1 (c.bit k)) f.sd.picked=0:=Decidable.byContradiction λz=>by have a:c.has (c.M4 k e.1 f.sd).dead j:=t;unfold fA.M4 at a;rw[ax z]at a;exact hj2 a
  have o:j=k:=(fA.Nc b t).elim (λz=>absurd z hj2) id;have p:i5 (i5 e.1 (c.bit k)) s.picked=0:=(fA.Nf b l).mpr λi A=>((fA.Nf b l).mp y i A).imp id λz=>by rw[hp];exact fA.Mv.mpr (.inl z)
  unfold fA.M4;rw[ay p,o];exact fA.Mv.mpr (.inr ((fA.My b).mpr rfl))
noncomputable def fA.left (c:fA)(x:Str)(s:Sd):eW Pk:=c.ks.filter λk=>decide (k.1=x)&&!decide (c.has s.dead k)
def fA.Ng {c:fA}{k:Pk}:k∈c.left x s↔k∈c.ks/\k.1=x/\¬c.has s.dead k:=by unfold fA.left;rw[aY,aQ,aG,bQ,decide_eq_false_iff_not]
def fA.cnt (c:fA)(f:Fk):Nat:=(c.left f.part f.sd).length
def fA.Nh (c:fA)(f:Fk):c.cnt f<=c.n:=bK _ _
def fA.mv (c:fA):Nat->eW Fk->Nat
 |0,_=>0
 |d+1,[]=>(c.n+1)*(c.n+2)^d+c.mv d []
 |d+1,f::F=>c.cnt f*(c.n+2)^d+c.mv d F
theorem fA.Ni (c:fA):∀(d:Nat) (F:eW Fk),c.mv d F<(c.n+2)^d
 |0,_=>by unfold fA.mv;exact Nat.one_pos
 |d+1,[]=>by have:=fA.Ni c d [];unfold fA.mv;rw[de,Nat.mul_comm ((c.n+2)^d),show c.n+2=(c.n+1)+1 from rfl,Nat.add_mul ((c.n+1))];rw[show c.n+1+1=c.n+2 from rfl];lia
 |d+1,f::F=>by have h1:=fA.Ni c d F;have h2:=c.Nh f;have h3:c.cnt f*(c.n+2)^d<=(c.n+1)*(c.n+2)^d:=eg _ (by lia);unfold fA.mv;rw[de,Nat.mul_comm ((c.n+2)^d),show c.n+2=(c.n+1)+1 from rfl,Nat.add_mul ((c.n+1))];rw[show c.n+1+1=c.n+2 from rfl];lia
theorem fA.Nj (c:fA)(g:Fk):∀(d:Nat) (F:eW Fk),F.length<d->c.mv d (F++[g])<c.mv d F
 |0,_,h=>absurd h (cq _)
 |d+1,[],_=>by
  have h2:=c.Nh g;have h3:c.cnt g*(c.n+2)^d+(c.n+2)^d<=(c.n+1)*(c.n+2)^d:=by rw[<-Nat.succ_mul];exact eg _ (by lia)
  have b:0<(c.n+2)^d:=Nat.pow_pos (by lia);show c.cnt g*(c.n+2)^d+c.mv d []<(c.n+1)*(c.n+2)^d+c.mv d [];lia
 |d+1,f::F,h=>by have a:=fA.Nj c g d F (by rw[au]at h;lia);show c.cnt f*(c.n+2)^d+c.mv d (F++[g])<c.cnt f*(c.n+2)^d+c.mv d F;lia
theorem fA.Nk (c:fA){f g:Fk}{B:eW Fk}(b:c.cnt g<c.cnt f):∀(d:Nat) (A A':eW Fk),A'.length=A.length->(∀(i:Nat) (a a':Fk),A[i]?=some a->A'[i]?=some a'->c.cnt a'<=c.cnt a)->A.length<d->c.mv d (A'++[g])<c.mv d (A++f::B)
 |0,_,_,_,_,h=>absurd h (cq _)
 |d+1,[],A',h1,_,_=>by
  have:A'=[]:=bV.mp h1;subst this;have h2:=fA.Ni c d [];have h3:c.cnt g*(c.n+2)^d+(c.n+2)^d<=c.cnt f*(c.n+2)^d:=by rw[<-Nat.succ_mul];exact eg _ b
  show c.cnt g*(c.n+2)^d+c.mv d []<c.cnt f*(c.n+2)^d+c.mv d B;lia
 |d+1,a::A,A',h1,h2,h3=>by cases A' with|nil=>simp at h1|cons a' A'=>have m:=fA.Nk c b (B:=B) d A A' (by simpa using h1) (λi x l e j=>h2 (i+1) x l (by simpa using e) (by simpa using j)) (by rw[au]at h3;lia);have o:=eg ((c.n+2)^d) (h2 0 a a' rfl rfl);show c.cnt a'*(c.n+2)^d+c.mv d (A'++[g])<c.cnt a*(c.n+2)^d+c.mv d (A++f::B);lia
def FX (k j:Str×Int):PyData.eqv (oQ k) (oQ j)=decide (k=j):=by
 obtain⟨a,b⟩:=k;obtain⟨c,d⟩:=j;have e:PyData.eqv (oQ (a,b)) (oQ (c,d))=((a == c)&&((b == d)&&true)):=by simp[oQ,PyData.eqv,PyData.eqvAll]
 rw[e,Bool.and_true];by_cases h1:a=c;subst h1;by_cases h2:b=d;subst h2;rw[aq rfl];simp;rw[aw (λz=>h2 (Prod.mk.inj z).2)];simp[h2];rw[aw (λz=>h1 (Prod.mk.inj z).1)];have g:(a == c)=false:=beq_false_of_ne h1;rw[g,cg]
theorem uc (k:Str×Int):∀ks:eW (Str×Int),((ks.map oQ).any λz=>PyData.eqv z (oQ k))=decide (k∈ks)
 |[]=>by simp
 |j::ks=>by
  rw[aH,ei,FX,uc k ks];by_cases h:j=k;subst h;simp;rw[aw h,Bool.false_or];have:(k∈j::ks)↔k∈ks:=by rw[ao];exact⟨λz=>z.resolve_left λy=>h y.symm,.inr⟩
  simp only[this]
theorem oo {k:Str×Int}(h:gU k.1):(oQ k).canLay0=true/\(oQ k).depth<=60:=by have z:=xq 1 (oQ k) (by simp[oQ,nY,h.ok]);exact⟨z.1,by lia⟩
theorem pw:∀{ks:eW (Str×Int)},(∀k∈ks,gU k.1)->PyData.canLayAll0 (ks.map oQ)=true
 |[],_=>rfl
 |k::ks,h=>by rw[aH,PyData.canLayAll0,(oo (h k (by simp))).1,pw λj hj=>h j (by simp[hj])];rfl
theorem lT {α:Type} [DecidableEq α]:∀{l m:eW α},l.Nodup->(∀x∈l,x∈m)->l.length<=m.length
 |[],_,_,_=>bp _
 |x::l,m,hn,hs=>by
  rw[bb]at hn;have hx:x∈m:=hs x (by simp);have ih:l.length<=(m.erase x).length:=lT hn.2 λy hy=>by refine(List.mem_erase_of_ne ?_).mpr (hs y (by simp[hy]));intro e;subst e;exact hn.1 hy
  have:=List.length_erase_of_mem hx;have:=List.length_pos_of_mem hx;rw[au];lia
def gW.bits {c:fA}(h:gW c L F s):∃ps:eW Pk,ps.length=F.length/\ps.Nodup/\∀k∈ps,c.has s.picked k:=by induction h with|nil _ _=>exact⟨[],rfl,bF,λk a=>nomatch a⟩|@cons f F s h1 h2 h3 h4 ih=>obtain⟨k,a,hp,g⟩:=h3;obtain⟨ps,d,e,b⟩:=ih;refine⟨k::ps,by rw[au,au,d],bb.mpr ⟨λz=>h2.M0 h1.sd a (b k z),e⟩,λj hj=>?_⟩;rw[hp];rcases ao.mp hj with rfl|hj;exact fA.Mv.mpr (.inr ((fA.My (h2.bit j a).1).mpr rfl));exact fA.Mv.mpr (.inl (b j hj))
def gW.depth {c:fA}(h:gW c L F s):F.length<=c.n:=by obtain⟨g,b,e,d⟩:=h.bits;rw[<-b];exact lT e λk a=>(d k a).1
def fA.Nl (c:fA)(wanted:eW (Str×fc Pk))(w:fc Pk)(pm:Nat)(g:eW (Str×fc Pk)):Prop:=
 ∃E:eW Str,g.map (·.1)=wanted.map (·.1)++E/\E.Sublist (fV (c.needs w))/\(∀x∈E,¬c.isP pm x/\x∉wanted.map (·.1))/\(∀x∈fV (c.needs w),c.isP pm x\/x∈wanted.map (·.1)\/x∈E)/\
  ∀x u,(x,u)∈g->(x,u)∈wanted\/(u=w/\x∈fV (c.needs w)/\¬c.isP pm x)
def jX {ns:eW Nd}:x∈fV ns↔x∈ns.map (·.1):=by rw[iX,aA]
def tX {α:Type} [DecidableEq α] {a b:α}{l:eW α}(h:¬a=b):(a::l).idxOf b=l.idxOf b+1:=by
 rw[List.idxOf_cons];have:(a == b)=false:=by simpa using h
 rw[this];rfl
theorem tW {α:Type} [DecidableEq α]:∀{E P:eW α},P.Nodup->E.Sublist P->∀(i j:Nat) (x y:α),E[i]?=some x->E[j]?=some y->i<j->P.idxOf x<P.idxOf y
 |_,_,_,.slnil,i,j,x,y,hx,_,_=>by simp at hx
 |E,p::P,hn,.cons _ h,i,j,x,y,hx,hy,hij=>by rw[bb]at hn;have hxp:¬p=x:=λe=>hn.1 (e▸h.subset (ak hx));have hyp:¬p=y:=λe=>hn.1 (e▸h.subset (ak hy));rw[tX hxp,tX hyp];exact Nat.succ_lt_succ (tW hn.2 h i j x y hx hy hij)
 |e::E,_::P,hn,.cons₂ _ h,i,j,x,y,hx,hy,hij=>by
  rw[bb]at hn;cases j with|zero=>exact absurd hij (cq _)|succ j=>
   have hy':E[j]?=some y:=by simpa using hy
   have hyp:¬e=y:=λz=>hn.1 (z▸h.subset (ak hy'));rw[tX hyp];cases i with
   |zero=>
    have:e=x:=by simpa using hx
    subst this;rw[List.idxOf_cons_self];lia
   |succ i=>
   have a:E[i]?=some x:=by simpa using hx
   have hxp:¬e=x:=λz=>hn.1 (z▸h.subset (ak a));rw[tX hxp];exact Nat.succ_lt_succ (tW hn.2 h i j x y a hy' (by lia))
def vR {c:fA}{d:Nat}{g:eW (Str×fc Pk)}(v:d<2^c.n)(m:∀k,c.has d k↔k∈c.ks/\(c.MR none k\/c.foe k k))(G:c.Nl [] none 0 g):jv c L ⟨0,d,g⟩:=by
 obtain⟨E,h,l,J,H,B⟩:=G;rw[df,et]at h;have a:∀k,¬c.has 0 k:=λk=>fA.Mz;have e:∀x,¬c.isP 0 x:=(by rintro x ⟨j,m,_⟩;exact a j m);have t:∀x,x∈E↔x∈fV (c.needs none):=λx=>⟨λz=>l.subset z,λz=>by
  rcases H x z with y|y|y;exact(e x y).elim;cases y
  exact y⟩
 refine⟨bS _,v,λk s=>?_,λk s D=>(m k).mpr ⟨s,?_⟩,λk _=>a k,λj k z=>(a j z).elim,λk z=>(a k z).elim,?_,λx w q=>?_,λw A n F=>?_,λi j x y q C I p=>?_⟩;rcases ((m k).mp s).2 with y|y;exact .inl y;exact .inr (.inl y);rcases D with y|y|⟨j,y,_⟩;exact .inl y;exact .inr y;exact(a j y).elim;show(g.map (·.1)).Nodup;rw[h];exact(j3 _).sublist l;rcases B x w q with y|⟨rfl,y,_⟩;cases y;exact⟨e x,trivial,jX.mp y⟩;cases w with|some k=>exact(a k A).elim|none=>right;show n.1∈g.map (·.1);rw[h,t];exact iX.mpr ⟨n,F,rfl⟩
 have b:E[i]?=some x:=by rw[<-h];exact q
 have o:E[j]?=some y:=by rw[<-h];exact C
 exact⟨l.subset (ak b),tW (j3 _) l i j x y b o p⟩
def Named.mono {c:fA}(a:∀j,c.has m j->c.has m' j){k:Pk}(h:c.Named m k):c.Named m' k:=by induction h with|start h1 h2=>exact .start (a _ h1) h2|next _ h2 h3 ih=>exact .next ih (a _ h2) h3
theorem lD {α:Type}{p:α->Bool}:∀{xs:eW α} {i j:Nat} {x y:α},(xs.filter p)[i]?=some x->(xs.filter p)[j]?=some y->i<j->∃i' j':Nat,xs[i']?=some x/\xs[j']?=some y/\i'<j'
 |[],i,j,x,y,hx,_,_=>by simp at hx
 |a::xs,i,j,x,y,hx,hy,hij=>by
  by_cases ha:p a=true;rw[aI,ay ha]at hx hy;cases j with|zero=>exact absurd hij (cq _)|succ j=>
   have hy':(xs.filter p)[j]?=some y:=by simpa using hy
   cases i with
   |zero=>
    have e:a=x:=by simpa using hx
    obtain⟨j',d⟩:=aD.mp (aY.mp (ak hy')).1;exact⟨0,j'+1,by simpa using e,by simpa using d,by lia⟩
   |succ i=>
   have b:(xs.filter p)[i]?=some x:=by simpa using hx
   obtain⟨i',j',h,g,l⟩:=lD b hy' (by lia);exact⟨i'+1,j'+1,by simpa using h,by simpa using g,by lia⟩
  rw[aI,ax ha]at hx hy;obtain⟨i',j',h,g,l⟩:=lD hx hy hij;exact⟨i'+1,j'+1,by simpa using h,by simpa using g,by lia⟩
theorem zS {c:fA}{f:Fk}{k:Pk}{d:Nat}{g:eW (Str×fc Pk)}(o:jv c L f.sd)(hf:lr c f)(Q:k∈c.ks)(p:k.1=f.part)(C:¬c.has f.sd.dead k)(hd:d<2^c.n)(D:∀j,c.has f.sd.dead j->c.has d j)(ah:∀j∈c.ks,c.foe k j->c.has d j)(I:∀j,c.has d j->c.has f.sd.dead j\/c.foe k j\/(c.MX L (f.sd.picked ||| c.bit k) j/\¬c.has (f.sd.picked ||| c.bit k) j))(hg:c.Nl f.sd.wanted (some k) (f.sd.picked ||| c.bit k) g):jv c L ⟨f.sd.picked ||| c.bit k,d,g.filter λxu=>!decide (xu.1=f.part)⟩:=by
 obtain⟨E,O,e2,e3,e4,e5⟩:=hg;have t:=hf.out o;have h:∀j,c.has (f.sd.picked ||| c.bit k) j↔c.has f.sd.picked j\/j=k:=λj=>by rw[fA.Mv,fA.My Q]
 have ap:¬c.has f.sd.picked k:=λz=>t ⟨k,z,p⟩;have Z:∀j,c.has f.sd.picked j->¬c.foe k j:=λj l z=>C (o.sup k Q (.inr (.inr ⟨j,l,z⟩)));have aa:¬c.foe k k:=λz=>C (o.sup k Q (.inr (.inl z)));have A:∀x,c.isP (f.sd.picked ||| c.bit k) x↔c.isP f.sd.picked x\/x=f.part:=λx=>by constructor;rintro⟨j,l,rfl⟩;rcases (h j).mp l with y|rfl;exact .inl ⟨j,y,rfl⟩;exact .inr p;rintro(⟨j,l,rfl⟩|rfl);exact⟨j,(h j).mpr (.inl l),rfl⟩;exact⟨k,(h k).mpr (.inr rfl),p⟩
 have v:(g.filter λxu=>!decide (xu.1=f.part)).map (·.1)=(g.map (·.1)).filter λx=>!decide (x=f.part):=by rw[List.filter_map];rfl
 refine⟨j4 o.pl (c.MC Q),hd,λj l=>?_,λj l al=>?_,λj l z=>?_,λi j F l e=>?_,λj l=>?_,?_,λx w N=>?_,λw hw m hm=>?_,λi j x y N hy J X=>?_⟩;rcases I j l with y|y|⟨y,_⟩;exact fA.MY.mono (o.just j y) (λ_ z=>z) λi F=>(h i).mpr (.inl F);exact .inr (.inr (.inl ⟨k,(h k).mpr (.inr rfl),fA.MT y⟩));exact .inr (.inr (.inr y));rcases al with y|y|⟨i,F,y⟩;exact D j (o.sup j l (.inl y));exact D j (o.sup j l (.inr (.inl y)));rcases (h i).mp F with z|rfl;exact D j (o.sup j l (.inr (.inr ⟨i,z,y⟩)));exact ah j l (fA.MT y);rcases I j l with y|y|⟨_,y⟩;rcases (h j).mp z with u|rfl;exact o.off j y u;exact C y;rcases (h j).mp z with u|rfl;exact Z j u y;exact aa y;exact y z;rcases (h i).mp F with y|rfl;rcases (h j).mp l with z|rfl;exact o.one i j y z e;exact(t ⟨i,y,by rw[e,p]⟩).elim;rcases (h j).mp l with z|rfl;exact(t ⟨j,z,by rw[<-e,p]⟩).elim;rfl;have B:∀i,c.has f.sd.picked i->c.has (f.sd.picked ||| c.bit k) i:=λi F=>(h i).mpr (.inl F);rcases (h j).mp l with y|rfl;exact Named.mono B (o.named j y);obtain⟨⟨x,w⟩,N,ex⟩:=aA.mp hf.open_;obtain⟨_,U,M⟩:=o.w1 x w N;have Y:x=f.part:=ex;rw[Y,<-p]at M;cases w with|none=>exact .start l M|some q=>exact .next (Named.mono B (o.named q U)) l M
 show((g.filter λxu=>!decide (xu.1=f.part)).map (·.1)).Nodup;rw[v,O];refine List.Nodup.sublist List.filter_sublist (bU.mpr ⟨o.wk,(j3 _).sublist e2,λa ha b hb e=>?_⟩);exact(e3 b hb).2 (e▸ha);obtain⟨ag,S⟩:=aY.mp N;have G:¬x=f.part:=by simpa using S
 rcases e5 x w ag with y|⟨rfl,y,z⟩;obtain⟨h1,U,M⟩:=o.w1 x w y;refine⟨λz=>?_,?_,M⟩;rcases (A x).mp z with u|u;exact h1 u;exact G u;cases w with|none=>trivial|some q=>exact(h q).mpr (.inl U)
 exact⟨z,(h k).mpr (.inr rfl),jX.mp y⟩;show c.isP (f.sd.picked ||| c.bit k) m.1\/m.1∈(g.filter λxu=>!decide (xu.1=f.part)).map (·.1);by_cases hmp:m.1=f.part;exact .inl ((A m.1).mpr (.inr hmp));have s:m.1∈g.map (·.1)->m.1∈(g.filter λxu=>!decide (xu.1=f.part)).map (·.1):=λz=>by rw[v];exact aY.mpr ⟨z,by simpa using hmp⟩
 have old:c.MU f.sd.picked w->c.isP (f.sd.picked ||| c.bit k) m.1\/m.1∈(g.filter λxu=>!decide (xu.1=f.part)).map (·.1):=λT=>by rcases o.w2 w T m hm with y|y;exact .inl ((A m.1).mpr (.inl y));exact .inr (s (by rw[O];exact aK _ y))
 cases w with|none=>exact old trivial|some q=>rcases (h q).mp hw with y|rfl;exact old y;rcases e4 m.1 (iX.mpr ⟨m,hm,rfl⟩) with y|y|y;exact .inl y;exact .inr (s (by rw[O];exact aK _ y));exact .inr (s (by rw[O];exact aJ _ y))
 have R:((g.map (·.1)).filter λx=>!decide (x=f.part))[i]?=some x:=by rw[<-v];exact N
 have an:((g.map (·.1)).filter λx=>!decide (x=f.part))[j]?=some y:=by rw[<-v];exact hy
 obtain⟨i',j',a1,P,a3⟩:=lD R an X;rw[O]at a1 P;have ab:j'<(f.sd.wanted.map (·.1)).length:=Nat.lt_of_not_le λz=>by rw[bh z]at P;have ad:=ak P;have K:=e3 y ad;obtain⟨n,hn,H⟩:=iX.mp J;rcases o.w2 none trivial n hn with u|u;rw[H]at u;exact K.1 ((A y).mpr (.inl u));rw[H]at u;exact K.2 u
 rw[aT ab]at P;rw[aT (by lia)]at a1;exact o.ws i' j' x y a1 P J a3
theorem tD {c:fA}{first:Str}(i:jv c L s)(g:(s.wanted.map (·.1))[0]?=some first)(hx:(x=first/\first∈c.start)\/first∉c.start\/(c.left x s).length<=1):c.Rule x s:=by
 rcases hx with ⟨rfl,hf⟩|hf|hl;refine .inl ⟨hf,λy e m=>?_⟩;obtain⟨n,o,b⟩:=iX.mp e;rcases i.w2 none trivial n o with u|u;rw[b]at u;exact u;rw[b]at u;obtain⟨j,d⟩:=aD.mp u;rcases eE j with rfl|hp;rw[g]at d;cases d;exact absurd m (cU _);have:=(i.ws 0 j x y g d e hp).2;lia;refine .inr (.inr λy e=>?_);obtain⟨n,o,b⟩:=iX.mp e;rcases i.w2 none trivial n o with u|u;rw[b]at u;exact u;rw[b]at u;obtain⟨j,d⟩:=aD.mp u;rcases eE j with rfl|hp;rw[g]at d;cases d;exact absurd e hf;exact absurd (i.ws 0 j first y g d e hp).1 hf;refine .inr (.inl λj C v z A q B t=>?_);have h:=fA.Ng.mpr ⟨v,A,B⟩;have p:=fA.Ng.mpr ⟨z,q,t⟩;cases hl2:c.left x s with|nil=>rw[hl2]at h;cases h|cons a l=>
  rw[hl2]at h p hl;have:l=[]:=by rw[au]at hl;exact bV.mp (by lia)
  subst this;rw[af.mp h,af.mp p]
def fA.stop (c:fA)(m:Nat)(f:Fk):Bool:=match f.bit with
 |none=>false
 |some k=>decide (c.has m k)
def DO {c:fA}:∀{F:eW Fk} {s:Sd},gW c L F s->(∀j,c.has m j->c.has s.picked j)->((F.dropWhile λf=>!c.stop m f)=[]/\∀j,¬c.has m j)\/∃A g B k,F=A++g::B/\(F.dropWhile λf=>!c.stop m f)=g::B/\g.bit=some k/\c.has m k/\(∀j,c.has m j->j=k\/c.has g.sd.picked j)/\gW c L B g.sd/\lr c g/\¬c.has g.sd.dead k:=by
 intro F s h;induction h with|nil h1 _=>exact λp=>.inl ⟨rfl,λj a=>by have:=p j a;rw[h1]at this;exact fA.Mz this⟩|@cons f F s h1 h2 h3 h4 ih=>
  obtain⟨k,l,hp,q⟩:=h3;have i:=(h2.bit k l).1;intro p;have b:¬c.has f.sd.dead k:=λz=>h4.off k (q k z) (by rw[hp];exact fA.Mv.mpr (.inr ((fA.My i).mpr rfl)));have d:∀j,c.has m j->c.has f.sd.picked j\/j=k:=λj a=>by have:=p j a;rw[hp]at this;exact(fA.Mv.mp this).imp id (fA.My i).mp
  by_cases hst:c.has m k;refine .inr ⟨[],f,F,k,rfl,?_,l,hst,λj a=>(d j a).symm,h1,h2,b⟩;rw[List.dropWhile_cons_of_neg];unfold fA.stop;rw[l];simp[hst];have o:∀j,c.has m j->c.has f.sd.picked j:=λj a=>(d j a).elim id λe=>absurd (e▸a) hst;have C:((f::F).dropWhile λf=>!c.stop m f)=F.dropWhile λf=>!c.stop m f:=by rw[List.dropWhile_cons_of_pos];unfold fA.stop;rw[l];simp[hst]
  rw[C];rcases ih o with y|⟨A,g,B,I,D,J,E,H,t,G,v,x⟩;exact .inl y;exact .inr ⟨f::A,g,B,I,by rw[D];rfl,J,E,H,t,G,v,x⟩
theorem xG:∀a b:Nat,i5 a b+(a &&& b)=a:=by
 intro a;induction a using Nat.strongRecOn with|_ a ih=>
  intro b;by_cases h0:a=0;subst h0;simp[i5];have j:=ih (a / 2) (by lia) (b / 2);have l:i5 a b / 2=i5 (a / 2) (b / 2):=by unfold i5;rw[Nat.xor_div_two,Nat.and_div_two]
  have g:(a &&& b) / 2=a / 2 &&& b / 2:=Nat.and_div_two;have e:=oO a b 0;have d:=Nat.testBit_and a b 0;simp only[Nat.testBit_zero]at e d;rw[<-l,<-g]at j;have h:(i5 a b % 2=1)↔(a % 2=1/\¬b % 2=1):=by have:=congrArg (·=true) e;simpa using this
  have i:((a &&& b) % 2=1)↔(a % 2=1/\b % 2=1):=by have:=congrArg (·=true) d;simpa using this
  generalize i5 a b=x at *;generalize (a &&& b)=y at *;by_cases ea:a % 2=1 <;> by_cases eb:b % 2=1 <;> simp only[ea,eb,not_true_eq_false,not_false_eq_true,and_true,and_false,iff_true,iff_false,true_and,false_and]at h i <;> lia
theorem oG (a b:Nat):Builtin.bitAnd (a:Int) (b:Int)=((a &&& b:Nat):Int):=by rw[bitAnd_pp (by lia) (by lia),bW,bW]
theorem rp (a b:Nat):Builtin.bitAnd (a:Int) (Builtin.bitNot (b:Int))=((i5 a b:Nat):Int):=by rw[bitAnd_not,oG];have:=xG a b;lia
theorem xO (a b:Nat):Builtin.bitOr (a:Int) (b:Int)=((a ||| b:Nat):Int):=by
 unfold Builtin.bitOr;have d:∀x:Nat,Builtin.bitNot (Builtin.bitNot (x:Int))=x:=λx=>by unfold Builtin.bitNot;lia
 rw[bitAnd_nn (by unfold Builtin.bitNot;lia) (by unfold Builtin.bitNot;lia),d a,d b,bW,bW,d]
theorem wq:∀m:Nat,m≠0->∃i q,m=2^i*(2*q+1):=by intro m;induction m using Nat.strongRecOn with|_ m ih=>intro h;rcases Nat.mod_two_eq_zero_or_one m with e|e;obtain⟨i,q,a⟩:=ih (m / 2) (by lia) (by lia);exact⟨i+1,q,by rw[de,Nat.mul_assoc,Nat.mul_left_comm,<-a];lia⟩;exact⟨0,m / 2,by lia⟩
theorem ub (i q j:Nat):(2^i*(2*q+1)).testBit j=(decide (i=j)||(2^(i+1)*q).testBit j):=by rw[cT,cT];rcases Nat.lt_trichotomy j i with h|h|h;rw[aw (by lia),aw (show ¬i=j by lia),aw (show ¬i+1<=j by lia)];rfl;subst h;rw[aq (am _),cj,aq rfl,Nat.testBit_zero];simp;rw[aq (by lia),aw (show ¬i=j by lia),aq (show i+1<=j by lia)];obtain⟨d,rfl⟩:∃d,j=i+1+d:=⟨j-(i+1),by lia⟩;rw[show i+1+d-i=d+1 by lia,show i+1+d-(i+1)=d by lia,Nat.testBit_succ,show(2*q+1) / 2=q by lia];simp
theorem tT (i q:Nat):(2^i*(2*q+1)) &&& (2^i*(2*q+1)-1)=2^(i+1)*q:=by
 have e:2^i*(2*q+1)-1=2^(i+1)*q+(2^i-1):=by
  have d:0<2^i:=bS i;have b:2^i*(2*q+1)=2^(i+1)*q+2^i:=by rw[Nat.mul_add,Nat.mul_one,de,<-Nat.mul_assoc]
  lia
 refine Nat.eq_of_testBit_eq λj=>?_;have a:2^i-1<2^(i+1):=by have:=bS i;rw[de];lia
 rw[Nat.testBit_and,ub,e,Nat.testBit_two_pow_mul_add _ a,cT];by_cases h:j<i+1;rw[ay h,aw (show ¬i+1<=j by lia),cg,Bool.or_false];rw[Nat.testBit_two_pow_sub_one];by_cases b:i=j;subst b;simp;simp[b];rw[ax h,aq (show i+1<=j by lia),aw (show ¬i=j by lia)];simp
theorem Dv (i q:Nat):Builtin.bitAnd ((2^i*(2*q+1):Nat):Int) (-((2^i*(2*q+1):Nat):Int))=((2^i:Nat):Int):=by
 have a:0<2^i:=bS i;have b:2^i*(2*q+1)=2^(i+1)*q+2^i:=by rw[Nat.mul_add,Nat.mul_one,de,<-Nat.mul_assoc]
 have e:-((2^i*(2*q+1):Nat):Int)=Builtin.bitNot ((2^i*(2*q+1)-1:Nat):Int):=by unfold Builtin.bitNot;lia
 rw[e,rp];have:=xG (2^i*(2*q+1)) (2^i*(2*q+1)-1);rw[tT]at this;lia
theorem pF (i q:Nat):2^i*(2*q+1)-2^i=2^(i+1)*q:=by
 have a:2^i*(2*q+1)=2^(i+1)*q+2^i:=by rw[Nat.mul_add,Nat.mul_one,de,<-Nat.mul_assoc]
 lia
theorem nr {c:fA}{q:Nat}(h:2^i*(2*q+1)<2^c.n):∃k,c.ks[i]?=some k/\c.ix k=i/\c.listed (2^i*(2*q+1))=k::c.listed (2^(i+1)*q):=by
 have l:i<c.n:=by refine Nat.lt_of_not_le λz=>?_;have A:=Nat.pow_le_pow_right (show 0<2 by decide) z;have y:2^i<=2^i*(2*q+1):=Nat.le_mul_of_pos_right _ (by lia);lia
 have d:c.ks[i]?=some c.ks[i]:=ar l;refine⟨_,d,c.Ms d,?_⟩;have g:c.ks=c.ks.take i++c.ks[i]::c.ks.drop (i+1):=by rw[<-dw l,List.take_append_drop]
 have p:∀(m:Nat),(∀j,j<i->m.testBit j=false)->(c.ks.take i).filter (λk=>m.testBit (c.ix k))=[]:=λm t=>by
  rw[List.filter_eq_nil_iff];intro k a;obtain⟨j,b⟩:=aD.mp a;rw[cu]at b;split at b
  next hlt=>rw[c.Ms b,t j hlt];decide
  cases b
 have e:∀k∈c.ks.drop (i+1),i<c.ix k:=λk a=>by obtain⟨j,b⟩:=aD.mp a;rw[List.getElem?_drop]at b;rw[c.Ms b];lia
 have x:∀j,j<i->(2^i*(2*q+1)).testBit j=false:=λj b=>by rw[cT,aw (by lia),cg]
 have o:∀j,j<i+1->(2^(i+1)*q).testBit j=false:=λj b=>by rw[cT,aw (by lia),cg]
 have v:c.listed (2^i*(2*q+1))=c.ks[i]::(c.ks.drop (i+1)).filter (λk=>(2^i*(2*q+1)).testBit (c.ix k)):=by
  unfold fA.listed
  conv=>lhs;rw[g]
  rw[cw,p _ x,et,aI,ay];rw[c.Ms d,ub,aq rfl,Bool.true_or]
 have s:c.listed (2^(i+1)*q)=(c.ks.drop (i+1)).filter (λk=>(2^(i+1)*q).testBit (c.ix k)):=by
  unfold fA.listed
  conv=>lhs;rw[g]
  rw[cw,p _ (λj b=>o j (by lia)),et,aI,ax];rw[c.Ms d,o i (by lia)];decide
 rw[v,s];congr 1;refine List.filter_congr λk a=>?_;rw[ub,aw (show ¬i=c.ix k by have:=e k a;lia),Bool.false_or]
theorem Bj {q n:Nat}(h:2^i*(2*q+1)<2^n):2^(i+1)*q<2^n:=by have:=pF i q;have:=bS i;lia
structure Cn (es:eW En)(sn:eW Nd)(ps:eW Pk):Prop where
 one:∀j∈ps,∀k∈ps,j.1=k.1->j=k
 key:∀k∈ps,k∈es.map fN
 met:∀w:fc Pk,(∀k,w=some k->k∈ps)->∀n∈ju es sn w,∃j∈ps,j.1=n.1/\nH n j.2=true
def pD {n:Nd}:v∈jc es n↔(n.1,v)∈es.map fN/\nH n v=true:=by rw[qy,aY];refine and_congr_left λ_=>?_;unfold iU;simp only[aA,aY,aG];constructor;rintro⟨e,⟨b,d⟩,g⟩;exact⟨e,b,Prod.ext d g⟩;rintro⟨e,b,h⟩;have a:(e.1,e.2.1)=(n.1,v):=h;rw[Prod.mk.injEq]at a;exact⟨e,⟨b,a.1⟩,a.2⟩
def tS {n:Nd}:v∈lE es n↔(n.1,v)∈es.map fN/\nH n v=true:=by unfold lE;rw[(List.mergeSort_perm _ _).mem_iff,pD]
def Hq {sn:eW Nd}{ps:eW Pk}(I:∀(i:Nat) (l:Ln),ls[i]?=some l->l5 es sn ls (i:Nat) l=true)(D:Cn es sn ps):∀(i:Nat) (l:Ln),ls[i]?=some l->¬∀p∈l.1,p∈ps:=by
 intro i;induction i using Nat.strongRecOn with|_ i ih=>
  intro l K b;have h:=I i l K;unfold l5 at h;rw[aQ]at h;obtain⟨G,h⟩:=h;cases hn:kW (ju es sn l.2.who) l.2.place with|none=>rw[hn]at h;cases h|some n=>
   rw[hn]at h;dsimp only at h;have s:=Ba hn;obtain⟨j,E,m,v⟩:=D.met l.2.who (λk e=>b k (by
    rw[e]at G;have g:(decide (k∈l.1)&&decide (k∈es.map fN))=true:=G;rw[aQ]at g
    exact ba g.1)) n s
   cases ht:l.2.told with|one k=>rw[ht]at h;have d:(decide (k∈l.1)&&rn n k)=true:=h;unfold rn at d;simp only[aQ,aG,bQ]at d;obtain⟨C,y,H⟩:=d;have e:=D.one j E k (b k C) (by rw[m,y]);rw[<-e,v]at H;cases H|many bs=>
    rw[ht]at h;have d:oX es ls (i:Nat) l.1 n bs=true:=h;unfold oX at d;rw[aQ,aG,bN]at d;obtain⟨C,y⟩:=d;have o:j=(n.1,j.2):=Prod.ext m rfl;have M:j.2∈lE es n:=tS.mpr ⟨o▸D.key j E,v⟩;obtain⟨t,q⟩:=aD.mp M;have B:t<bs.length:=by rw[C];exact(aj.mp q).1
    have J:(bs.zip (lE es n))[t]?=some (bs[t],j.2):=List.getElem?_zip_eq_some.mpr ⟨ar B,q⟩;have x:=y _ (ak J);unfold zp at x;dsimp only at x;simp only[aQ,aG]at x;obtain⟨F,L,a⟩:=x;cases hl2:kW ls bs[t] with|none=>rw[hl2]at a;cases a|some l'=>
     rw[hl2]at a;dsimp only at a;rw[bN]at a;have A:ls[bs[t].toNat]?=some l':=by unfold kW at hl2;rw[ay F]at hl2;exact hl2
     refine ih bs[t].toNat (by omega) l' A λp hp=>?_;have:=a p hp;rw[dO,aG,aG]at this;rcases this with z|z;exact b p z;rw[z,<-o];exact E
def jv.fit {c:fA}(h:jv c L s)(o:s.wanted=[]):Cn c.es c.sn (c.listed s.picked):=by
 refine⟨λj b k g e=>h.one j k (fA.Mu.mp b) (fA.Mu.mp g) e,λk g=>(c.mem k).mp (fA.Mu.mp g).1,λw i n m=>?_⟩;have a:c.MU s.picked w:=by cases w with|none=>trivial|some k=>exact fA.Mu.mp (i k rfl)
 rcases h.w2 w a n m with ⟨j,b,d⟩|z;refine⟨j,fA.Mu.mpr b,d,Decidable.byContradiction λz=>?_⟩;have l:c.MR w j:=⟨n,m,by unfold rn;rw[aq d,bE.mpr z];rfl⟩;refine h.off j (h.sup j b.1 ?_) b;cases w with|none=>exact .inl l|some q=>exact .inr (.inr ⟨q,a,.inr l⟩)
 rw[o]at z;cases z
def yU {c:fA}{k:Pk}(l:∀j,c.has m j↔j∈c.left x s)(h:(c.listed m).getLast?=some k):k∈c.ks/\k.1=x/\¬c.has s.dead k/\∀j∈c.ks,j.1=x->k.2<j.2->c.has s.dead j:=by
 have e:=fA.Ng.mp ((l k).mp (fA.Mu.mp (List.mem_of_getLast? h)));refine⟨e.1,e.2.1,e.2.2,λj q b o=>Decidable.byContradiction λz=>?_⟩;have g:j∈c.listed m:=fA.Mu.mpr ((l j).mpr (fA.Ng.mpr ⟨q,b,z⟩));obtain⟨i,d⟩:=aD.mp g;have a:(c.listed m)[(c.listed m).length-1]?=some k:=by rw[<-List.getLast?_eq_getElem?];exact h
 have p:=(aj.mp d).1;rcases eD i ((c.listed m).length-1) with h1|h1;obtain⟨B,A,t,v,y⟩:=lD d a h1;have:=c.srt _ _ j k t v y (by rw[b,e.2.1]);omega;have:i=(c.listed m).length-1:=by omega
 rw[this,a]at d;cases d;omega
def yh {c:fA}(b:m<2^c.n)(e:m≠0)(h:m &&& (m-1)=0):∃k∈c.ks,m=c.bit k:=by
 obtain⟨i,q,rfl⟩:=wq m e;rw[tT]at h;have d:q=0:=by rcases eE q with z|z;exact z;have:=Nat.mul_pos (bS (i+1)) z;omega
 subst d;obtain⟨k,a,g,_⟩:=nr b;refine⟨k,ak a,?_⟩;unfold fA.bit;rw[g];simp
def wJ {c:fA}{e:Nat×Rs}{k:Pk}(a:k∈c.ks)(l:e∈L)(h:i5 e.1 p=c.bit k):c.MX L p k/\¬c.has p k:=by
 have b:c.has (i5 e.1 p) k:=by rw[h];exact(fA.My a).mpr rfl
 obtain⟨i,d⟩:=fA.Mx.mp b;refine⟨⟨e,l,i,λj g=>?_⟩,d⟩;by_cases hp:c.has p j;exact .inr hp;have:c.has (i5 e.1 p) j:=fA.Mx.mpr ⟨g,hp⟩;rw[h]at this;exact .inl ((fA.My a).mp this)
def v8 {c:fA}{e:Nat×Rs}{k:Pk}(d:k∈c.ks)(g:e.1<2^c.n)(i:c.has e.1 k)(h:∀j,c.has e.1 j->j=k\/c.has p j)(l:¬c.has p k):i5 e.1 p=c.bit k:=by refine fA.ext (kD g) (c.MC d) λj=>?_;rw[fA.Mx,fA.My d];constructor;rintro⟨a,b⟩;exact(h j a).elim id λz=>absurd z b;rintro rfl;exact⟨i,l⟩
noncomputable def fA.Nm (c:fA)(L:jz)(k:Pk)(p:Nat):Nat:=(L.filter λe=>decide (c.has e.1 k)).foldl (λb e=>let r:=i5 e.1 p;if r &&& (r-1)=0 then b ||| r else b) 0
theorem mf {c:fA}{p:Nat}:∀(L:jz) (b:Nat),(∀e∈L,e.1<2^c.n)->b<2^c.n->(L.foldl (λb e=>let r:=i5 e.1 p;if r &&& (r-1)=0 then b ||| r else b) b<2^c.n)/\∀j,c.has (L.foldl (λb e=>let r:=i5 e.1 p;if r &&& (r-1)=0 then b ||| r else b) b) j->c.has b j\/∃e∈L,i5 e.1 p=c.bit j
 |[],b,_,hb=>⟨hb,λj hj=>.inl hj⟩
 |e::L,b,hL,hb=>by
  rw[List.foldl_cons];dsimp only;have he:=hL e (by simp);by_cases h:i5 e.1 p &&& (i5 e.1 p-1)=0;rw[ay h];obtain⟨i1,i2⟩:=mf (c:=c) (p:=p) L (b ||| i5 e.1 p) (λx hx=>hL x (by simp[hx])) (j4 hb (kD he));refine⟨i1,λj hj=>?_⟩;rcases i2 j hj with z|⟨x,hx,y⟩;rcases fA.Mv.mp z with z|z;exact .inl z;refine .inr ⟨e,by simp,?_⟩;have h0:i5 e.1 p≠0:=λw=>by rw[w]at z;exact fA.Mz z
  obtain⟨k,hk,e2⟩:=yh (kD he) h0 h;rw[e2]at z ⊢;rw[(fA.My hk).mp z];exact .inr ⟨x,by simp[hx],y⟩;rw[ax h];obtain⟨i1,i2⟩:=mf (c:=c) (p:=p) L b (λx hx=>hL x (by simp[hx])) hb;refine⟨i1,λj hj=>?_⟩;rcases i2 j hj with z|⟨x,hx,y⟩;exact .inl z;exact .inr ⟨x,by simp[hx],y⟩
def zo {c:fA}{k:Pk}(h:jm c L):c.Nm L k p<2^c.n/\∀j,c.has (c.Nm L k p) j->c.MX L p j/\¬c.has p j:=by obtain⟨g,d⟩:=mf (c:=c) (p:=p) (L.filter λe=>decide (c.has e.1 k)) 0 (λe a=>h.lt e (aY.mp a).1) (bS _);refine⟨g,λj b=>?_⟩;rcases d j b with z|⟨e,a,y⟩;exact(fA.Mz z).elim;exact wJ b.1 (aY.mp a).1 y
end Lake.FB
namespace Lake
open PySem PySem.Spec PyProof.Rows Lake.FB
variable {H:Hp}{Q:eR->eU->Prop}{X:Cx}{body e:eY}{cy cy':eQ}{j j':Nat}{params:Arguments}{pos:Pos}{s:eU}{scope:Scope}{x y y':Str}{σ:St}
noncomputable abbrev Kc (X:Cx)(A:eP)(qual:Str)(scope:Scope)(q c:eQ)(cl:eW (Str×eQ))(N':eW Str)(s:eU)(H:Hp):Cx:=
 {X with A:=A.deeper (W.envX qual scope s.heap.objs.size q (.ref c) cl),N:=N',s₀:=s,H₀:=H,env:=W.envX qual scope s.heap.objs.size q (.ref c) cl,outer:=X.stack,stack:=W.envX qual scope s.heap.objs.size q (.ref c) cl::X.stack,ex:=[],fn:=λ_=>false,calm:=true,pn:=[],xe:=λ_ _=>False}
structure Gk (X:Cx)(scope:Scope)(x y y':Str)(cy cy':eQ)(j j':Nat):Prop where
 clos:closureFor scope X.env=pure [(y,cy),(y',cy')]
 l1:X.env.cells.lookup y=some cy
 l2:X.env.cells.lookup y'=some cy'
 kind:scope.kind=.function
 co:scope.isCoroutine=false
 gen:scope.isGenerator=false
 px:scope.names.lookup x=some .local
 nocell:∀z∈scope.names,z.2≠.cell
 frees:∀z,scope.names.lookup z=some .free->z=y\/z=y'
 f1:scope.names.lookup y=some .free
 f2:scope.names.lookup y'=some .free
 n1:X.N[j]?=some y
 n2:X.N[j']?=some y'
 k1:X.env.kindOf y=some .cell
 k2:X.env.kindOf y'=some .cell
 v1:DQ X.env.scope y
 v2:DQ X.env.scope y'
 ne:y'≠y
 xy:x≠y
 xy':x≠y'
section
variable {pins:eW (eQ×Obj)}
def Bq {A:eP}{k:Nat}{qual:Str}{pm ctv:eR}{q c:eQ}{te:TE}{v a b:V}{u:eR}{Q:VK}(S:Gk X scope x y y' cy cy' j j')(hA:A.frames=some X.stack)(hr:iF (k+1) A)(I:fR X pins σ H s)(ho:s.heap.get? q=some (W.kla_obj "<lambda>" qual params body scope [(y,cy),(y',cy')] pm c ctv))(Z:s.heap.CodeRec (.ref c) qual)(L:∀u:eR,bindArgs (W.kla_fn "<lambda>" qual params body scope [(y,cy),(y',cy')] pm (.ref c) ctv) ⟨[u],[]⟩=pure [(x,u)])(e1:σ[j]?=some (some a))(e2:σ[j']?=some (some b))(rv:gl v u)(hB:PE (Kc X A qual scope q c [(y,cy),(y',cy')] [x,y,y'] s H) body te)(h:te [some v,some a,some b] H Q):codeAny (model X.prog X.w) A (.call (.ref q) ⟨[u],[]⟩) (CR gM X.stack X.prog X.w H s Q E0) s:=by
 have O:(([(y,cy),(y',cy')]:eW (Str×eQ)).lookup y)=some cy:=by rw[bc,beq_self_eq_true]
 have M:(([(y,cy),(y',cy')]:eW (Str×eQ)).lookup y')=some cy':=by rw[bc,beq_false_of_ne S.ne,bc,beq_self_eq_true]
 have G:∀z d,([(y,cy),(y',cy')]:eW (Str×eQ)).lookup z=some d->X.env.cells.lookup z=some d:=λz d e=>by by_cases q:z=y;subst q;rw[O]at e;rw[S.l1];exact e;by_cases q':z=y';subst q';rw[M]at e;rw[S.l2];exact e;rw[bc,beq_false_of_ne q,bc,beq_false_of_ne q']at e;simp at e
 refine W.kla_callFunE hr.depth ho rfl S.co S.gen rfl Z ?_;rw[L u];refine av (wpAny_newFunctionEnv S.nocell (λz hz=>by rw[af.mp hz];exact S.px) (λh₁ Y U=>?_) S.kind);have K:∀b o,s.heap.get? b=some o->h₁.get? b=some o:=λb o e=>U.extBut b o (aX (aS e)) (az _ e);refine⟨I.nolimit.keeps K,W.kla_codeExpr ?_⟩;show wpAny (model X.prog X.w) (A.deeper (W.envX qual scope s.heap.objs.size q (.ref c) [(y,cy),(y',cy')])) (eval body (W.envX qual scope s.heap.objs.size q (.ref c) [(y,cy),(y',cy')])) _ _ _;have C:∀{i:Nat} {z:Str} {cz:eQ} {t:V},X.N[i]?=some z->σ[i]?=some (some t)->DQ X.env.scope z->X.env.kindOf z=some .cell->X.env.cells.lookup z=some cz->∃F,gl t F/\s.heap.IsCell cz (some F):=λ{i z cz t} hn hs hv hk hl=>by obtain⟨m,_,loc⟩:=I.loc;obtain⟨F,r,l⟩:=loc i z t hn hs hv;rcases l with ⟨k,_⟩|⟨_,c2,e,g⟩;rw[hk]at k;cases k;rw[hl]at e;cases e;exact⟨F,r,g⟩
 have B:∀{cz:eQ} {t:fc eR},s.heap.IsCell cz t->h₁.IsCell cz t:=λ{cz t} ⟨o,e,d⟩=>⟨o,K _ _ e,d⟩;have J:fR (Kc X A qual scope q c [(y,cy),(y',cy')] [x,y,y'] s H) [] [some v,some a,some b] H {s with heap:=h₁,toks:=s.toks+1}:=by
  refine⟨⟨I.ok.mod,S.kind,rfl,rfl,am _,λz1 z2 d D E=>I.ok.inj z1 z2 d (G _ _ D) (G _ _ E),λz hz=>?_,λz d hf _=>absurd (show false=true from hf) (by decide),λ_=>hr.hd,Around.frames_deeper hA,.inr ⟨rfl,rfl⟩,λb L=>absurd (show b∈([]:eW eQ) from L) (by simp),I.bs,bz I.ok.bsz I.sz,λb _ _ L=>absurd (show b∈([]:eW eQ) from L) (by simp),λb L=>absurd (show b∈([]:eW eQ) from L) (by simp),I.stack,I.LO⟩,rfl,I.bare,Un.kept K,⟨_,Y,λi z t D E h3=>?_⟩,λz d e=>?_,I.hok.fresh (am _),λz d e=>I.freeC z d (G z d e),λp hp=>absurd (show p∈([]:eW (eQ×Obj)) from hp) (by simp),I.hok.kept K,rfl⟩;have hz:scope.names.lookup z=some .cell\/scope.names.lookup z=some .free:=hz;rcases hz with hz|hz;exact absurd rfl (S.nocell _ (bC hz));rcases S.frees z hz with rfl|rfl;exact⟨cy,O⟩;exact⟨cy',M⟩
  match i,D,E with
  |0,D,E=>
   have R:x=z:=by simpa using D
   have P:v=t:=by simpa using E
   subst R P;exact⟨u,rv,.inl ⟨S.px,by simp⟩⟩
  |1,D,E=>
   have R:y=z:=by simpa using D
   have P:a=t:=by simpa using E
   subst R P;obtain⟨F,r,g⟩:=C S.n1 e1 S.v1 S.k1 S.l1;exact⟨F,r,.inr ⟨.inr S.f1,cy,O,B g⟩⟩
  |2,D,E=>
   have R:y'=z:=by simpa using D
   have P:b=t:=by simpa using E
   subst R P;obtain⟨F,r,g⟩:=C S.n2 e2 S.v2 S.k2 S.l2;exact⟨F,r,.inr ⟨.inr S.f2,cy',M,B g⟩⟩
  |i+3,D,_=>simp at D
  obtain⟨t,g⟩:=I.cell z d (G z d e);exact⟨t,B g⟩
 refine bO (hB [] _ _ H Q J h) (λF s' hE=>?_) λe s' hF=>False.elim hF;obtain⟨t,H',T,r,hq⟩:=hE;exact⟨t,H',T.os,T.bare,T.base,T.hok,r,hq⟩
end
def gQ (qual:Str)(lp:Pos)(H:Hp)(P:eQ):Prop:=H P=some (.tbl #[])\/∃c:eQ,H P=some (.tbl #[rawInt lp.line,rawInt lp.col,.ref c])/\H c=some (.ext λh=>h.CodeRec (.ref c) qual)
def um (mg:Str->fc eR)(base:fb):Prop:=∃bm ob,mg "__builtins__" = some (.ref bm)/\bm≠builtinsNs/\base.get? bm=some ob/\ob.cls=.type "module"/\ob.dict=some builtinsNs/\ob.data=.plain
section
variable {pins:eW (eQ×Obj)}{A:eP}{E:eR->eU->Prop}
def Bp {c P:eQ}{lp:Pos}(S:Gk X scope x y y' cy cy' j j')(g:X.env.code=.ref c)(ab:W.codeHdIn X.K c P=true)(BM:um X.mg X.base)(ag:defaultsOf params X.env=([],[]))(I:fR X pins σ H s)(hT:gQ (X.env.qual++"<lambda>") lp H P)(k:∀(q c':eQ) (ctv:eR) (s':eU) (H':Hp),fR X (pins++[(q,W.kla_obj "<lambda>" (X.env.qual++"<lambda>") params body scope [(y,cy),(y',cy')] ((X.mg "__name__").getD .none) c' ctv)]) σ H' s'->fH (del H [P]) H'->gQ (X.env.qual++"<lambda>") lp H' P->H' c'=some (.ext λh=>h.CodeRec (.ref c') (X.env.qual++"<lambda>"))->Q (.ref q) s'):wpAny (model X.prog X.w) A (eval (.Lambda params body scope lp) X.env) Q E s:=by
 refine W.kla_eval ag ?_;obtain⟨bm,ob,b1,b2,b3,b4,b5,b6⟩:=BM;have tP:∃a,H P=some (.tbl a):=by rcases hT with e|⟨c',e,_⟩;exact⟨_,e⟩;exact⟨_,e⟩
 obtain⟨ap,aa⟩:=tP;have gP:∀{a:Array eR},H P=some (.tbl a)->s.heap.get? P=some (W.tabObj a):=λe=>(show ib X.prog X.w H s.heap P (.tbl _) from I.hok P _ e);have J:s.heap.Ns mainGlobals X.mg:=I.mod.glob.keeps I.bk;have hC:W.CodeHd s.heap c P:=W.codeHd_of_K I.kIn ab;have al:mainGlobals≠P:=λq=>by obtain⟨o,es,ep,e,R,_⟩:=J;have:=gP aa;rw[<-q,e]at this;cases this;cases R
 have ad:bm≠P:=λq=>by have:=(I.bs bm ob b3).2;rw[q,aa]at this;cases this
 have ah:bm≠mainGlobals:=λq=>by obtain⟨o,es,ep,e,R,_⟩:=I.mod.glob;rw[q,e]at b3;cases b3;rw[R]at b6;cases b6
 have BA:s.heap.BuiltinsAt X.mg P:=⟨bm,ob,b1,b2,ah,ad,I.bk _ _ b3,b4,b5,b6⟩;have Z:∀{c':eQ} {ctv:eR} {l:fb} {B:Nat} {H':Hp},fR X pins σ H' {s with heap:=l,toks:=B}->fH (del H [P]) H'->gQ (X.env.qual++"<lambda>") lp H' P->H' c'=some (.ext λh=>h.CodeRec (.ref c') (X.env.qual++"<lambda>"))->
   Q (.ref l.objs.size) {s with heap:=l.push (W.kla_obj "<lambda>" (X.env.qual++"<lambda>") params body scope [(y,cy),(y',cy')] ((X.mg "__name__").getD .none) c' ctv),toks:=B}:=λ{c' ctv l B H'} M hs ht hc=>by
  have I2:fR X pins σ H' {s with heap:=l.push (W.kla_obj "<lambda>" (X.env.qual++"<lambda>") params body scope [(y,cy),(y',cy')] ((X.mg "__name__").getD .none) c' ctv),toks:=B}:=M.kept (t':=B) λb o e=>az _ e;refine k _ c' ctv _ H' (I2.LP λp hp=>?_) hs ht hc;rcases aE.mp hp with z|z;exact I2.pin p (aJ _ z);rw[af.mp z];exact⟨aO _ rfl,M.hok.fresh (am _),Nat.ne_of_gt M.lt,M.LM (am _),λv z=>by
   have z':Data.func _=Data.cell v:=z
   cases z'⟩
 have F:fH (del H [P]) H:=gy _ _;rcases hT with e|⟨c',e,ec⟩;refine W.kla_makeFunction S.clos I.ok.glob J g hC (gP e) trivial rfl al BA λc' ctv l B G T as D O=>?_;have d:H c'=none:=I.hok.fresh T;have Y:c'≠P:=λz=>by rw[z,e]at d;cases d
 have nP:∀b,H b=none->b≠P:=λb n z=>by rw[z,e]at n;cases n
 have nC:∀b o,s.heap.get? b=some o->b≠c':=λb o q=>aX (bg (aS q) T);have C:∀b,b≠c'->b≠P->upd (upd H P (.tbl #[rawInt lp.line,rawInt lp.col,.ref c'])) c' (.ext λh=>h.CodeRec (.ref c') (X.env.qual++"<lambda>")) b=H b:=λb h1 h2=>by rw[fw h1,fw h2]
 have i:∀b u,H b=some u->(∀a,u≠.tbl a)->upd (upd H P (.tbl #[rawInt lp.line,rawInt lp.col,.ref c'])) c' (.ext λh=>h.CodeRec (.ref c') (X.env.qual++"<lambda>")) b=some u:=λb u q nt=>by rw[C b (λz=>by rw[z,d]at q;cases q) (λz=>by rw[z,e]at q;cases q;exact nt _ rfl)];exact q
 have M:fR X pins σ (upd (upd H P (.tbl #[rawInt lp.line,rawInt lp.col,.ref c'])) c' (.ext λh=>h.CodeRec (.ref c') (X.env.qual++"<lambda>"))) {s with heap:=l,toks:=B}:=by
  refine I.step (g':=s.gens) (d':=s.drawn) (ch:=[]) (λ_ z=>nomatch z) (λb o _ _ _ q n=>G b o (nP b n) q) (λb o _ _ _ q n=>⟨o.slots,G b o (nP b n) q⟩) (λb o _ q n=>by rw[C b (nC b o q) (nP b n)];exact n) (λb o _ q=>?_)
   (λb xs q=>i b _ q (λa z=>nomatch z)) (λb o u q=>i b _ q (λa z=>nomatch z)) (λb a q=>?_) (λm hm=>?_) (λb u q=>?_) I.bare
  by_cases hb:b=P;exact⟨_,by rw[hb];exact O⟩;exact⟨o,G b o hb q⟩;by_cases hb:b=P;subst hb;rw[e]at q;cases q;exact⟨#[rawInt lp.line,rawInt lp.col,.ref c'],by rw[fw (Ne.symm Y),fj];simp⟩;exact⟨#[],by rw[C b (λz=>by rw[z,d]at q;cases q) hb,q];simp⟩;obtain⟨o,es,ep,ho,r⟩:=hm;exact⟨o,es,ep,G _ o (nP _ I.free) ho,r⟩;by_cases hb:b=c';subst hb;rw[fj]at q;cases q;obtain⟨L,oc,vs,t,e2,U,R,hv⟩:=D;cases e2;exact⟨⟨_,oc,vs,t,rfl,U,R,hv⟩,⟨oc,U⟩,λh1 h2 ⟨c3,o3,v3,t3,g1,g2,g3,g4⟩ hk=>by
   cases g1
   exact⟨_,o3,v3,t3,rfl,hk _ g2,g3,g4⟩⟩
  rw[fw hb]at q;by_cases hb2:b=P;subst hb2;rw[fj]at q;cases q;show l.get? b=some (W.tabObj _);rw[O];simp;rw[fw hb2]at q;refine(I.hok b u q).LK (λL w' hc2 z=>G L w' (λN=>?_) z) (λL z=>i L _ z (λa N=>nomatch N)) λL xs z=>i L _ z (λa N=>nomatch N);rcases hc2 with hc2|hc2;exact hb2 (hc2▸N);rw[N,e]at hc2;cases hc2
 refine Z M (λb u q=>?_) (.inr ⟨c',by rw[fw (Ne.symm Y),fj],fj⟩) fj;by_cases hb:b=P;rw[hb,gR (by simp)]at q;cases q;rw[fG (by simpa using hb)]at q;rw[C b (λz=>by rw[z,d]at q;cases q) hb];exact q;have D:s.heap.CodeRec (.ref c') (X.env.qual++"<lambda>"):=(show ib X.prog X.w H s.heap c' (.ext λh=>h.CodeRec (.ref c') (X.env.qual++"<lambda>")) from I.hok c' _ ec).1;refine W.kla_makeFunctionHit (cv:=.ref c') S.clos I.ok.glob J g hC (gP e) trivial (by simp[codeAmong,rawInt]) BA λctv l B G an=>?_;exact Z (I.kept (t':=B) G) F (.inr ⟨c',e,ec⟩) ec
end
section
variable {pq:eW (eQ×Obj)}{d q it S:eQ}{o oq:Obj}{kvs:eW (io×V)}{es:Array DictEntry}{ep:Nat}{kf:Nat->Int}{R:Result->eU->Prop}
def uk (X:Cx)(σ:St)(H:Hp)(q:eQ)(oq:Obj)(kvs:eW (io×V))(kf:Nat->Int):Prop:=∀(i:Nat) (kv:io×V),kvs[i]?=some kv->∀(pins:eW (eQ×Obj)) (s:eU) (u:eR),fR X pins σ H s->(q,oq)∈pins->gl (kV kv.1) u->
 wpAny (model X.prog X.w) X.A.in1 (call (.ref q) [u]) (EP X pins σ λv H'=>v=.int (kf i)/\H'=H) (λ_ _=>False) s
def uL {i:Nat}{kv:io×V}{u:eR}(a:uk X σ H q oq kvs kf)(y:(q,oq)∈pq)(e:jj X pq H it)(d:jj X pq H S)(o:kvs[i]?=some kv)(C:gl (kV kv.1) u)(I:fR X pq σ H s){oI oS:Obj}(B:s.heap.get? it=some oI)(m:s.heap.get? S=some oS)(j:∀v,oI.data≠.cell v)(l:∀v,oS.data≠.cell v)(h:∀s' t,fR X pq σ H s'->s'.heap.get? it=some oI->s'.heap.get? S=some oS->Q (.int (kf i) t) s'):wpAny (model X.prog X.w) X.A.in1 (call (.ref q) [u]) Q (λ_ _=>False) s:=by
 have J:fR X (pq++[(it,oI),(S,oS)]) σ H s:=I.LP λp hp=>by rcases aE.mp hp with z|z;exact I.pin p (aJ _ z);rcases ao.mp z with z|z;rw[z];exact⟨B,e.1,e.2.1,e.2.2.1,j⟩;rw[af.mp z];exact⟨m,d.1,d.2.1,d.2.2.1,l⟩
 refine bO (a i kv o _ s u J (aK _ y) C) (λv s' g=>?_) λ_ _ z=>z;obtain⟨E,F,b,r,x,D⟩:=g;subst x D;obtain⟨t,rfl⟩:=(show ∃t,v=Value.int (kf i) t from r);exact h s' t b.LY (b.pin (it,oI) (aJ _ (aJ _ (by simp)))).1 (b.pin (S,oS) (aJ _ (aJ _ (by simp)))).1
def FE (hc:X.calm=true)(hH:H d=some (.frz o (.dK kvs)))(hd:o.data=.dict es ep)(hq:(q,oq)∈pq)(L:S≠it)(B:jj X pq H it)(m:jj X pq H S)(Z:uk X σ H q oq kvs kf)(hR:∀i kv u s',kvs[i]?=some kv->(∀j,j<kvs.length->kf i<=kf j)->fR X pq σ H s'->gl (kV kv.1) u->R (.ok (.ret u)) s'):∀(r j i:Nat) (s:eU) (vb:eR) (tb:Tok) (c:Nat) (kv:io×V),es.size-(j+1)=r->j+1<=es.size->fR X pq σ H s->s.heap.get? S=some (seqObj "list" #[vb,.int (kf i) tb] c)->s.heap.IsKeyIter it d (j+1) es.size ep->kvs[i]?=some kv->gl (kV kv.1) vb->(∀j',j'<=j->kf i<=kf j')->codeAny (model X.prog X.w) X.A (.builtin "min.loop" ⟨[.ref it,.ref q,.ref S],[]⟩) R s:=by
 have l:(toString "min"++toString ".loop" : String) = "min.loop":=by decide
 intro r;induction r with|zero=>intro j i s vb tb c kv hr hj I O J hk rk g;obtain⟨ho,_,_,ab,aa,y,hn,p⟩:=oY I.hok hH;rw[hd]at y;cases y;refine er PySem.F.entry_min_loop ?_;rw[Around.under_plainId ck _];show wpAny _ X.A.in1 (seqItems? (.ref S) >>= _) _ _ _;refine ac (eK O rfl ?_);show wpAny _ X.A.in1 (tryCatch (pyNext (.ref it)) _ >>= _) _ _ _;refine ac (dq (wc (show X.A.in1.handled=none from I.ok.hd hc) J ho hd (by omega) λM T=>?_));have I1:fR X pq σ H {s with heap:=M}:=I.turned (t':=s.toks) (λb o C e=>T b o C e) B.1 B.2.1 B.2.2.2.1 B.2.2.2.2.1 B.2.2.2.2.2;have K:=T S _ L O;have s1:=Heap.SameBut.update M S (Obj.mapSeq λ_=>(#[]:Array eR));have I2:fR X pq σ H {s with heap:=M.update S (Obj.mapSeq λ_=>(#[]:Array eR))}:=I1.turned (t':=s.toks) (λb o C e=>(s1.2 b C).trans e) m.1 m.2.1 m.2.2.2.1 m.2.2.2.2.1 m.2.2.2.2.2;show wpAny _ X.A.in1 (updateSeq S (λ_=>#[]) >>= _) _ _ _;refine ac ?_;refine wpAny_updateSeq K rfl (ac (wpAny_letGo (av ?_)));exact hR i kv vb _ hk (λj' U=>g j' (by omega)) I2 rk|succ r ih=>
  intro j i s vb tb c kv hr hj I O J hk rk g;obtain⟨ho,_,_,ab,aa,y,hn,p⟩:=oY I.hok hH;rw[hd]at y;cases y;have h:j+1<es.size:=by omega
  have D:kvs[j+1]?=some (kvs[j+1]'(by omega)):=ar (by omega);refine er PySem.F.entry_min_loop ?_;rw[Around.under_plainId ck _];show wpAny _ X.A.in1 (seqItems? (.ref S) >>= _) _ _ _;refine ac (eK O rfl ?_);show wpAny _ X.A.in1 (tryCatch (pyNext (.ref it)) _ >>= _) _ _ _;refine ac (dq (pA J ho hd h λM N sb=>?_));have I1:fR X pq σ H {s with heap:=M}:=I.turned (t':=s.toks) (λb o C e=>(sb.2 b C).trans e) B.1 B.2.1 B.2.2.2.1 B.2.2.2.2.1 B.2.2.2.2.2;have K:M.get? S=_:=(sb.2 S L).trans O;obtain⟨oI,eI,cI,dI⟩:=id N;show wpAny _ X.A.in1 (tryCatch (holding [es[j+1].key] (call (.ref q) [es[j+1].key])) _ >>= _) _ _ _;refine ac (dq (bw (bO (uL Z hq B m D (p _ _ h D) I1 eI K (λv z=>by rw[dI]at z;cases z) (λv z=>by cases z) (Q:=λv s'=>∃t,v=Value.int (kf (j+1)) t/\fR X pq σ H s'/\s'.heap.get? it=some oI/\s'.heap.get? S=some (seqObj "list" #[vb,.int (kf i) tb] c)) λs' t a b e=>⟨t,rfl,a,b,e⟩) (λx s2 he=>?_) λ_ _ hF=>hF.elim)));obtain⟨E,rfl,I2,Y,G⟩:=he;have P:s2.heap.IsKeyIter it d (j+1+1) es.size ep:=⟨oI,Y,cI,dI⟩;show wpAny _ X.A.in1 (tryCatch (holding [es[j+1].key,.int (kf (j+1)) E] (richCompare .Lt (.int (kf (j+1)) E) (.int (kf i) tb) >>= _)) _ >>= _) _ _ _;refine ac (dq (bw (ac (lt_int ?_))));refine ac (bw (cc ?_));refine ac (wpAny_letGo (av ?_));by_cases C:kf (j+1)<kf i;have s1:=Heap.SameBut.update s2.heap S (Obj.mapSeq λ_=>#[es[j+1].key,.int (kf (j+1)) E]);obtain⟨c2,hc2⟩:∃c2,(s2.heap.update S (Obj.mapSeq λ_=>#[es[j+1].key,.int (kf (j+1)) E])).get? S=some (seqObj "list" #[es[j+1].key,.int (kf (j+1)) E] c2):=⟨_,get?_update_seq G λ_=>#[es[j+1].key,.int (kf (j+1)) E]⟩;have I3:fR X pq σ H {s2 with heap:=s2.heap.update S (Obj.mapSeq λ_=>#[es[j+1].key,.int (kf (j+1)) E])}:=I2.turned (t':=s2.toks) (λb o C e=>(s1.2 b C).trans e) m.1 m.2.1 m.2.2.2.1 m.2.2.2.2.1 m.2.2.2.2.2;simp only[C,decide_true,if_true];refine ac ?_;refine wpAny_updateSeq G rfl (ac (wpAny_letGo ?_));rw[l];exact av ⟨dJ ck _,ih (j+1) (j+1) _ _ E c2 _ (by omega) h I3 hc2 ⟨oI,(s1.2 it L.symm).trans Y,cI,dI⟩ D (p _ _ h D) λj' U=>by
   by_cases e:j'=j+1;subst e;exact Int.le_refl _
   have:=g j' (by omega);omega⟩
  simp only[C,decide_false,cA,if_false];refine ac (wpAny_letGo ?_);rw[l];exact av ⟨dJ ck _,ih (j+1) i _ vb tb c kv (by omega) h I2 G P hk rk λj' U=>by
   by_cases e:j'=j+1;subst e;omega
   exact g j' (by omega)⟩
def FH {E:eR->eU->Prop}(hc:X.calm=true)(I:fR X pq σ H s)(Z:H d=some (.frz o (.dK kvs)))(M:0<kvs.length)(hq:(q,oq)∈pq)(B:uk X σ H q oq kvs kf)(hQ:∀i kv u s',kvs[i]?=some kv->(∀j,j<kvs.length->kf i<=kf j)->fR X pq σ H s'->gl (kV kv.1) u->Q u s'):wpAny (model X.prog X.w) X.A (call (.builtin "min") [.ref d] [(Str.ofString "key",.ref q)]) Q E s:=by
 have h:(toString "min"++toString ".loop" : String) = "min.loop":=by decide
 obtain⟨ho,hS,hx,g,P,R,hn,y⟩:=oY I.hok Z;refine kmk_tree PySem.F.kind_min PySem.F.plain_min PySem.F.entry_min (kmk_min_key _ _) ?_;show wpAny _ X.A.in1 (Builtin.Builtins.bindParams "min" ["key","default"] 0 ⟨[],[(Str.ofString "key",.ref q)]⟩ >>= _) _ _ s;refine ac (wpAny_of_eq (show Builtin.Builtins.bindParams "min" ["key","default"] 0 ⟨[],[(Str.ofString "key",.ref q)]⟩=pure [some (.ref q),none] from rfl) (ac (av ?_)));refine ac (pH ho hx R hS (ac (wpAny_newList ?_ (bp _))));rw[h];generalize l:s.heap.objs.size=it;have z0:s.heap.get? it=none:=l▸bo (am _);have U:fR X pq σ H {s with heap:=s.heap.push {cls:=.type "dict_keyiterator",data:=.fields #[.ref d,.int 0 0,.int g.size 0,.int P 0]}}:=I.kept (t':=s.toks) λb o e=>az _ e;have J:jj X pq H it:=I.Mf z0 (I.hok.fresh (cE l));have L:(s.heap.push {cls:=.type "dict_keyiterator",data:=.fields #[.ref d,.int 0 0,.int g.size 0,.int P 0]}).get? it=some {cls:=.type "dict_keyiterator",data:=.fields #[.ref d,.int 0 0,.int g.size 0,.int P 0]}:=by rw[<-l];exact aO _ rfl
 generalize s.heap.push {cls:=.type "dict_keyiterator",data:=.fields #[.ref d,.int 0 0,.int g.size 0,.int P 0]}=h1 at *;generalize G:h1.objs.size=S;have Y:h1.get? S=none:=G▸bo (am _);have K:S≠it:=λz=>by rw[z,L]at Y;cases Y
 have D:jj X pq H S:=U.Mf Y (U.hok.fresh (cE G));have I2:fR X pq σ H {s with heap:=h1.push (seqObj "list" #[] 0)}:=U.kept (t':=s.toks) λb o e=>az _ e;have gS:(h1.push (seqObj "list" #[] 0)).get? S=some (seqObj "list" #[] 0):=by rw[<-G];exact aO _ rfl
 have gI:(h1.push (seqObj "list" #[] 0)).IsKeyIter it d 0 g.size P:=⟨_,az _ L,rfl,rfl⟩;have ad:(h1.push (seqObj "list" #[] 0)).get? d=some o:=(oY I2.hok Z).1;have m:0<g.size:=by omega
 have p:kvs[0]?=some (kvs[0]'M):=ar M;refine av ⟨dJ ck _,er PySem.F.entry_min_loop ?_⟩;rw[Around.under_plainId ck _];show wpAny _ X.A.in1 (seqItems? (.ref S) >>= _) _ _ {s with heap:=h1.push (seqObj "list" #[] 0)};refine ac (eK gS rfl ?_);show wpAny _ X.A.in1 (tryCatch (pyNext (.ref it)) _ >>= _) _ _ _;refine ac (dq (pA gI ad R m λh' O sb=>?_));have I3:fR X pq σ H {s with heap:=h'}:=I2.turned (t':=s.toks) (λb o T e=>(sb.2 b T).trans e) J.1 J.2.1 J.2.2.2.1 J.2.2.2.2.1 J.2.2.2.2.2;have ab:h'.get? S=_:=(sb.2 S K).trans gS;obtain⟨oI,eI,cI,dI⟩:=id O;show wpAny _ X.A.in1 (tryCatch (holding [g[0].key] (call (.ref q) [g[0].key])) _ >>= _) _ _ _;refine ac (dq (bw (bO (uL B hq J D p (y _ _ m p) I3 eI ab (λv z=>by rw[dI]at z;cases z) (λv z=>by cases z) (Q:=λv s'=>∃t,v=Value.int (kf 0) t/\fR X pq σ H s'/\s'.heap.get? it=some oI/\s'.heap.get? S=some (seqObj "list" #[] 0)) λs' t a b e=>⟨t,rfl,a,b,e⟩) (λx s2 he=>?_) λ_ _ hF=>hF.elim)));obtain⟨C,rfl,I4,aa,N⟩:=he;have s1:=Heap.SameBut.update s2.heap S (Obj.mapSeq λ_=>#[g[0].key,.int (kf 0) C]);obtain⟨c2,hc2⟩:∃c2,(s2.heap.update S (Obj.mapSeq λ_=>#[g[0].key,.int (kf 0) C])).get? S=some (seqObj "list" #[g[0].key,.int (kf 0) C] c2):=⟨_,get?_update_seq N λ_=>#[g[0].key,.int (kf 0) C]⟩;have I5:fR X pq σ H {s2 with heap:=s2.heap.update S (Obj.mapSeq λ_=>#[g[0].key,.int (kf 0) C])}:=I4.turned (t':=s2.toks) (λb o T e=>(s1.2 b T).trans e) D.1 D.2.1 D.2.2.2.1 D.2.2.2.2.1 D.2.2.2.2.2;show wpAny _ X.A.in1 (updateSeq S (λ_=>#[g[0].key,.int (kf 0) C]) >>= _) _ _ _;refine ac ?_;refine wpAny_updateSeq N rfl ?_;rw[h];exact av ⟨dJ ck _,FE hc Z R hq K J D B (λi kv u s' a b e f=>hQ i kv u s' a b e f) _ 0 0 _ _ C c2 _ rfl m I5 hc2 ⟨oI,(s1.2 it K.symm).trans aa,cI,dI⟩ p (y _ _ m p) λj' ag=>by
  have:j'=0:=by omega
  subst this;exact Int.le_refl _⟩
end
section
variable {c P:eQ}{lp p kp:Pos}{te tb:TE}{k:Nat}
def He (qual:Str)(lp:Pos)(P:eQ)(j j':Nat)(te tb:TE):TE:=λσ H Q=>te σ H λx H1=>∃d o kvs a b,x=.ref d/\H1 d=some (.frz o (.dK kvs))/\0<kvs.length/\gQ qual lp H1 P/\σ[j]?=some (some a)/\σ[j']?=some (some b)/\
 ∀H2,fH (del H1 [P]) H2->gQ qual lp H2 P->∃kf:Nat->Int,(∀i kv,kvs[i]?=some kv->tb [some (kV kv.1),some a,some b] H2 λv H4=>v=.int (kf i)/\H4=H2)/\∀i kv,kvs[i]?=some kv->(∀m,m<kvs.length->kf i<=kf m)->Q (kV kv.1) H2
def C4 (hc:X.calm=true)(hr:iF (k+2) X.A)(S:Gk X scope x y y' cy cy' j j')(C:X.env.code=.ref c)(aa:W.codeHdIn X.K c P=true)(BM:um X.mg X.base)(R:defaultsOf params X.env=([],[]))(hg:Gl X "min")(hm:X.mg "min" = none)(he:PE X e te)(hb:∀(c':eQ) (ctv pm u:eR),bindArgs (W.kla_fn "<lambda>" (X.env.qual++"<lambda>") params body scope [(y,cy),(y',cy')] pm (.ref c') ctv) ⟨[u],[]⟩=pure [(x,u)])(hB:∀q c' s H,PE (Kc X X.A.in1 (X.env.qual++"<lambda>") scope q c' [(y,cy),(y',cy')] [x,y,y'] s H) body tb)(hs:autoParam (starEach [e] X.env=[(false,eval e X.env)]) gq._auto_1):PE X (.Call (.Name "min" p) [e] [⟨some "key",.Lambda params body scope lp,kp⟩] pos) (He (X.env.qual++"<lambda>") lp P j j' te tb):=by
 intro E s σ H Q I h;refine bA (kC I hg hm PyProof.Rows.Boot.«min» ?_ (by decide) (by decide));refine callWith_kw ?_ (by rw[hs];rfl) (by rw[hs];rfl);have hA:=(fi he fq hs) pos E s σ H (λT G=>match T with|[x]=>(∃d o kvs a b,x=.ref d/\G d=some (.frz o (.dK kvs))/\0<kvs.length/\gQ (X.env.qual++"<lambda>") lp G P/\σ[j]?=some (some a)/\σ[j']?=some (some b)/\
  ∀g,fH (del G [P]) g->gQ (X.env.qual++"<lambda>") lp g P->∃kf:Nat->Int,(∀i l,kvs[i]?=some l->tb [some (kV l.1),some a,some b] g λv H4=>v=.int (kf i)/\H4=g)/\∀i l,kvs[i]?=some l->(∀m,m<kvs.length->kf i<=kf m)->Q (kV l.1) g)|_=>False) I h
 refine hU hA ?_;rintro us s1 ⟨T,G,I1,r,q0⟩
 match T,r,q0 with
 |[xv],r,⟨d,o,kvs,a,b,e2,hd,hne,hT,ea,eb,hq⟩=>
  subst e2;obtain⟨u,rfl,r1⟩:=jA r;cases (show u=Value.ref d from r1);refine kws_cons (Bp S C aa BM R I1 hT λq c' ctv s2 g I2 sm O Y=>kws_nil ?_);obtain⟨kf,hk,hQ⟩:=hq g sm O;have U:d≠P:=λz=>by rcases hT with w|⟨_,w,_⟩ <;> (rw[<-z,hd]at w;cases w)
  have L:g d=some (.frz o (.dK kvs)):=sm _ _ (by rw[fG (by simpa using U)];exact hd);refine FH (kf:=kf) hc I2 L hne (aJ _ (af.mpr rfl)) (λi l Z M J u' B hp ru=>?_) λi l u' J Z t B ru=>⟨kV l.1,g,B.LY,ru,hQ i l Z t⟩;have F:J.heap.CodeRec (.ref c') (X.env.qual++"<lambda>"):=(show ib X.prog X.w g J.heap c' (.ext λh=>h.CodeRec (.ref c') (X.env.qual++"<lambda>")) from B.hok c' _ Y).1;have N:X.A.in1.frames=some X.stack:=B.ok.frames;refine wpAny_call (eB (Bq (k:=k) S N hr.in1 B (B.pin _ (aJ _ hp)).1 F (hb c' ctv _) ea eb ru (hB q c' J g) (hk i l Z)) λrr s4 D=>?_);cases rr with|error e=>exact(show False from D).elim|ok fl=>cases fl with|ret u2=>exact B.after D|next=>exact False.elim D|brk=>exact False.elim D|cont=>exact False.elim D
end
section
variable {C:eQ}{o value:eY}{f m:Str}{pos' tpos apos:Pos}{ta tv:TE}{t:TA}{es:eW eY}
inductive LA (C:eQ)(f:Str)(Q:VK)(x:V)(H1:Hp):Prop
 |mk (a dx fs v:_)(_:x=.ref a)(_:H1 a=some (.ins C dx fs))(_:fs.lookup f=some v)(_:Q v H1)
def tF (C:eQ)(f:Str)(ta:TE):TE:=λσ H Q=>ta σ H λx H1=>LA C f Q x H1
def fK (c:su X.K C)(n:ic X.K C f)(o:PE X e ta)(hb:autoParam (attributeBase e f X.env (eval e X.env)=eval e X.env) gq._auto_1):PE X (.Attribute e f pos) (tF C f ta):=by intro b s σ H Q I h;refine xP hb (hU (o b s σ H _ I h) ?_);rintro u y ⟨x,g,j,i,a,B,fs,v,d,p,l,q⟩;subst d;obtain rfl:u=Value.ref a:=i;exact nw j p c n l λA z t m=>⟨v,g,t,m,q⟩
inductive LC (C:eQ)(f:Str)(D:lO)(σ:St)(y:V)(x:V)(H2:Hp):Prop
 |mk (a dx fs:_)(_:x=.ref a)(_:H2 a=some (.ins C dx fs))(_:fs.length<1000)(_:D.nx σ (upd H2 a (.ins C dx (ij f y fs))))
def sF (C:eQ)(f:Str)(ta tv:TE):TS:=λD σ H=>tv σ H λy H1=>ta σ H1 λx H2=>LC C f D σ y x H2
def kI (c:su X.K C)(n:ic X.K C f)(z:PE X o ta)(v:PE X value tv)(hs:autoParam (swapsWith value (some (.Attribute o f pos')) pos.line X.env=pure false) gq._auto_1):PS X (.Assign [.Attribute o f pos'] value pos) (sF C f ta tv):=by intro b s σ H D I h;refine plainObj_wpAny_Assign_Attribute (hU (v b s σ H _ I h) ?_) hs;rintro u g ⟨y,e,j,m,q⟩;refine hU (z b g σ e _ j q) ?_;rintro p G ⟨x,E,B,i,a,J,fs,d,A,l,q2⟩;subst d;obtain rfl:p=Value.ref a:=i;exact mW B A c n l m λF t=>⟨σ,_,t,q2⟩
inductive Gv (C:eQ)(f:Str)(tv:TE)(rd:V->V->Hp->VK->Prop)(D:lO)(σ:St)(x:V)(H1:Hp):Prop
 |mk (a dx fs v:_)(_:x=.ref a)(_:H1 a=some (.ins C dx fs))(_:fs.lookup f=some v)(_:tv σ H1 λy H2=>rd v y H2 λz H3=>∃dx' fs',H3 a=some (.ins C dx' fs')/\fs'.length<1000/\D.nx σ (upd H3 a (.ins C dx' (ij f z fs'))))
def HE (C:eQ)(f:Str)(ta tv:TE)(rd:V->V->Hp->VK->Prop):TS:=λD σ H=>ta σ H λx H1=>Gv C f tv rd D σ x H1
def C2 {op:Operator}{rd:V->V->Hp->VK->Prop}(c:su X.K C)(n:ic X.K C f)(T:PE X o ta)(R:PE X value tv)(d:Gz X op rd):PS X (.AugAssign (.Attribute o f tpos) op value pos) (HE C f ta tv rd):=by intro b s σ H D I h;refine wpAny_AugAssign_AttributeAny (hU (T b s σ H _ I h) ?_);rintro M s1 ⟨x,J,m,L,a,dx,fs,v,g,Z,l,q⟩;subst g;obtain rfl:M=Value.ref a:=L;refine nw m Z c n l λu A F S=>hU (R b A σ J _ F q) ?_;rintro i Q ⟨y,P,t,N,E⟩;refine hU (d b Q σ P v y u i _ t S N E) ?_;rintro w4 s4 ⟨z,H3,j,O,Y,p,e,U,G⟩;exact mW j e c n U O λs5 B=>⟨σ,_,B,G⟩
end
structure Mt (P:eV)(w:fe)(K:fh)(mg:Str->fc eR)(base:fb)(C:eQ)(CX:ul)(k:Nat)(m:Str)(ps:eW Str)(sp:Sp):Prop where
 cl:su K C
 ex:∃g gd,gv P w K mg base CX k g gd ps sp/\jf K gd ps []/\wV K C m g
section
variable {CX:ul}{k:Nat}{C:eQ}{o:eY}{es:eW eY}{m:Str}{ps:eW Str}{sp:Sp}{E:XK}{apos:Pos}{ta:TE}{t:TA}
def iY {pl:Sem Bool}(M:Mt X.prog X.w X.K X.mg X.base C CX k m ps sp)(d:iF k X.A)(hx:kH CX X E)(h:PE X o ta)(i:PA X (e::es) t)(hst:autoParam (starEach (e::es) X.env=(false,eval e X.env)::starEach es X.env) gq._auto_1)(hpl:autoParam ((backTo pos (starEach es X.env)).any (·.1)=false) gq._auto_1)(ht:eval (.Call (.Attribute o m apos) (e::es) [] pos) X.env=(do
   let ov <-eval o X.env
   standAt apos.atName
   let (f,first) <-holding [ov] (getMethod ov m pl)
   callWith pos f first (backTo pos (starEach (e::es) X.env)) (backToKw pos (keywordEach [] X.env))):=by rfl) :
  PE X (.Call (.Attribute o m apos) (e::es) [] pos) (uu C m sp [] E ta t):=by
 obtain⟨g,j,F,b,a⟩:=M.ex;exact xm h M.cl a F d b .nil hx i hst hpl ht
def rN {pl:Sem Bool}(M:Mt X.prog X.w X.K X.mg X.base C CX k m ps sp)(e:iF k X.A)(hx:kH CX X E)(d:PE X o ta)(ht:eval (.Call (.Attribute o m apos) [] [] pos) X.env=(do
   let ov <-eval o X.env
   standAt apos.atName
   let (f,first) <-holding [ov] (getMethod ov m pl)
   callWith pos f first (backTo pos (starEach [] X.env)) (backToKw pos (keywordEach [] X.env))):=by rfl) :
  PE X (.Call (.Attribute o m apos) [] [] pos) (uu C m sp [] E ta yg):=by
 obtain⟨g,h,F,b,a⟩:=M.ex;exact AB d M.cl a F e b .nil hx ht
end
end Lake
namespace Lake.FB
open PySem PyProof.Rows
variable {H H':Hp}{a:eQ}{v:V}{x:Str}
def fA.Who (c:fA)(w:fc Pk):Prop:=∀k,w=some k->k∈c.ks
def fA.Nn (c:fA)(w:fc Pk)(k:Pk):Bool:=(c.needs w).any λn=>rn n k
def fA.No {c:fA}{w:fc Pk}{k:Pk}:c.Nn w k=true↔c.MR w k:=by unfold fA.Nn fA.MR;rw[ee]
def fA.Np (c:fA)(x:Str):Nat:=c.maskOf λk=>decide (k.1=x)
def kB (ns:eW Nd)(x:Str)(v:Int):Bool:=ns.all λn=>!decide (n.1=x)||nH n v
def fA.Nq (c:fA)(w:fc Pk)(x:Str):Nat:=c.maskOf λk=>decide (k.1=x)&&kB (c.needs w) x k.2
def fA.Nr (c:fA)(w:fc Pk):Nat:=c.maskOf (c.Nn w)
def fA.Nt (c:fA):fc Pk->Nat
 |none=>c.Nr none
 |some k=>c.maskOf λj=>c.Nn (some k) j||c.Nn (some j) k
def fA.Nu {c:fA}{k:Pk}:c.has (c.Np x) k↔k∈c.ks/\k.1=x:=by unfold fA.Np;rw[fA.MJ,aG]
def fA.Nv {c:fA}{w:fc Pk}{k:Pk}:c.has (c.Nr w) k↔k∈c.ks/\c.MR w k:=by unfold fA.Nr;rw[fA.MJ,fA.No]
def fA.Nw {c:fA}{j k:Pk}:c.has (c.Nt (some k)) j↔j∈c.ks/\c.foe k j:=by show c.has (c.maskOf _) j↔_;rw[fA.MJ,dO,fA.No,fA.No];exact Iff.rfl
def fA.Nx (c:fA)(w:fc Pk):c.Nt w<2^c.n:=by cases w <;> exact c.MQ _
def nn {ns:eW Nd}{v:Int}:kB ns x v=true↔∀n∈ns,n.1=x->nH n v=true:=by unfold kB;rw[bN];refine forall_congr' λn=>forall_congr' λ_=>?_;rw[dO,bQ,decide_eq_false_iff_not];exact⟨λh e=>h.resolve_left λz=>z e,λh=>(Decidable.em (n.1=x)).elim (λz=>.inr (h z)) .inl⟩
def fA.Ny {c:fA}{w:fc Pk}(h:c.Who w):c.Mo w<2^c.n:=by cases w with|none=>exact bS _|some k=>exact c.MC (h k rfl)
def fA.Nz {c:fA}{w:fc Pk}(h:c.Who w){j:Pk}:c.has (c.Mo w) j↔w=some j:=by cases w with|none=>exact⟨λz=>(fA.Mz z).elim,λz=>by cases z⟩|some k=>rw[show c.Mo (some k)=c.bit k from rfl,fA.My (h k rfl)];exact⟨λz=>by rw[z],λz=>(Option.some.inj z).symm⟩
theorem Fo {a b:Nat}(h:a &&& b=0):a ||| b=a+b:=by have d:=bitOr_and (a:Int) (b:Int);rw[xO,oG,h]at d;lia
theorem fA.NA {c:fA}:∀(l:eW Pk),l.Nodup->(∀k∈l,k∈c.ks)->(l.map λk=>(c.bit k:Int)).sum=(c.maskOf λk=>decide (k∈l):Nat)
 |[],_,_=>by
  have:c.maskOf (λk=>decide (k∈([]:eW Pk)))=0:=fA.MD (c.MQ _) λk hk=>by have:=(fA.MJ.mp hk).2;simp at this
  rw[this];rfl
 |x::l,hn,hk=>by
  rw[bb]at hn;have ih:=fA.NA l hn.2 λk h=>hk k (by simp[h]);have hx:=hk x (by simp);rw[aH,List.sum_cons,ih];have e:c.maskOf (λk=>decide (k∈x::l))=c.bit x ||| c.maskOf (λk=>decide (k∈l)):=by refine fA.ext (c.MQ _) (j4 (c.MC hx) (c.MQ _)) λk=>?_;rw[fA.Mv,fA.MJ,fA.MJ,fA.My hx,aG,aG,ao];constructor;rintro⟨a,h2|h2⟩;exact .inl h2;exact .inr ⟨a,h2⟩;rintro(h|⟨a,h2⟩);exact⟨h▸hx,.inl h⟩;exact⟨a,.inr h2⟩
  have d:c.bit x &&& c.maskOf (λk=>decide (k∈l))=0:=fA.MD (oH (c.MC hx)) λk h=>by obtain⟨a,h2⟩:=fA.Mw.mp h;rw[(fA.My hx).mp a]at h2;exact hn.1 (ba (fA.MJ.mp h2).2)
  rw[e,Fo d];lia
def gC (w:fc Pk):hJ:=w.map jR
def i7 {v w:fc Pk}(h:gC v=gC w):v=w:=by
 cases v with
 |none=>cases w with
  |none=>rfl
  |some k=>cases h
 |some j=>cases w with
  |none=>cases h
  |some k=>exact congrArg some (qN (Option.some.inj h))
def iI.key {w:fc Pk}(h:iI H v w):mJ H (gC w) v:=by cases w with|none=>exact h|some k=>obtain⟨q,rfl,e⟩:=(show fX H v k from h);exact⟨q,rfl,e⟩
def iI.of {w:fc Pk}(h:mJ H (gC w) v):iI H v w:=by cases w with|none=>exact h|some k=>obtain⟨q,rfl,e⟩:=(show ∃b,v=.ref b/\H b=some (.tup ((jR k).map kV)) from h);exact⟨q,rfl,e⟩
def iZ (H:Hp)(a:eQ)(c:fA)(g:fc Pk->Nat):Prop:=∃kvs,Rd H a (.dN kvs)/\∀w,c.Who w->fW kvs (gC w)=some (.int (g w))
def ll (H:Hp)(a:eQ)(c:fA)(g:fc Pk->Nat):Prop:=∃kvs,Rd H a (.dN kvs)/\(∀kv∈kvs,∃w,c.Who w/\kv.1=gC w)/\∀w,c.Who w->fW kvs (gC w)=some (.int (g w))
def ll.to {c:fA}{g:fc Pk->Nat}(h:ll H a c g):iZ H a c g:=(by obtain⟨kvs,h1,_,h3⟩:=h;exact⟨kvs,h1,h3⟩)
def pj (H:Hp)(a:eQ)(c:fA):Prop:=∃kvs,Rd H a (.dK kvs)/\∀k∈c.ks,∃v,fW kvs (Sum.inl (c.bit k:Int))=some v/\fX H v k
def mI (H:Hp)(a:eQ)(c:fA):Prop:=∃kvs,Rd H a (.dK kvs)/\∀x:Str,(fW kvs (Sum.inr x)).getD (.int 0)=.int (c.Np x)/\((∃k∈c.ks,k.1=x)->fW kvs (Sum.inr x)=some (.int (c.Np x)))
def jK (H:Hp)(d:eQ)(c:fA)(w:fc Pk):Prop:=∃o akv,H d=some (.frz o (.dK akv))/\akv.map (·.1)=(fV (c.needs w)).map Sum.inr/\∀x∈fV (c.needs w),fW akv (Sum.inr x)=some (.int (c.Nq w x))
def uo (H:Hp)(a:eQ)(c:fA):Prop:=∃kvs,Rd H a (.dN kvs)/\∀w,c.Who w->∃d,fW kvs (gC w)=some (.ref d)/\jK H d c w
def iZ.same (e:fH H H'){c:fA}{g:fc Pk->Nat}(h:iZ H a c g):iZ H' a c g:=(by obtain⟨kvs,h1,h2⟩:=h;exact⟨kvs,i4 e h1,h2⟩)
def ll.same (e:fH H H'){c:fA}{g:fc Pk->Nat}(h:ll H a c g):ll H' a c g:=(by obtain⟨kvs,h1,h2⟩:=h;exact⟨kvs,i4 e h1,h2⟩)
def mI.same (e:fH H H'){c:fA}(h:mI H a c):mI H' a c:=(by obtain⟨kvs,h1,h2⟩:=h;exact⟨kvs,i4 e h1,h2⟩)
def jK.same (e:fH H H'){d:eQ}{c:fA}{w:fc Pk}(h:jK H d c w):jK H' d c w:=(by obtain⟨o,akv,h1,h2⟩:=h;exact⟨o,akv,e _ _ h1,h2⟩)
def uo.same (e:fH H H'){c:fA}(h:uo H a c):uo H' a c:=(by obtain⟨kvs,h1,h2⟩:=h;exact⟨kvs,i4 e h1,λw hw=>(by obtain⟨d,g1,g2⟩:=h2 w hw;exact⟨d,g1,g2.same e⟩)⟩)
def iZ.get {c:fA}{g:fc Pk->Nat}(h:iZ H a c g){w:fc Pk}(hw:c.Who w)(hv:iI H v w):iO H a v (some (.int (g w))):=(by obtain⟨kvs,h1,h2⟩:=h;exact⟨kvs,gC w,h1,hv.key,(h2 w hw).symm⟩)
def ll.get {c:fA}{g:fc Pk->Nat}(h:ll H a c g){w:fc Pk}(hw:c.Who w)(hv:iI H v w):iO H a v (some (.int (g w))):=h.to.get hw hv
def uo.get {c:fA}(h:uo H a c){w:fc Pk}(hw:c.Who w)(hv:iI H v w):∃d,iO H a v (some (.ref d))/\jK H d c w:=let ⟨kvs,h1,h2⟩:=h;(by obtain⟨d,g1,g2⟩:=h2 w hw;exact⟨d,⟨kvs,gC w,h1,hv.key,g1.symm⟩,g2⟩)
def mI.get {c:fA}(h:mI H a c)(x:Str):∃o,jS H a (.str x) o/\o.getD (.int 0)=.int (c.Np x):=(by obtain⟨kvs,h1,h2⟩:=h;exact⟨_,.inl ⟨kvs,Sum.inr x,h1,rfl,rfl⟩,(h2 x).1⟩)
def mI.isD {c:fA}(h:mI H a c):IO H a:=(by obtain⟨kvs,h1,_⟩:=h;exact .inl ⟨kvs,h1⟩)
def jK.get {d:eQ}{c:fA}{w:fc Pk}(h:jK H d c w)(hx:x∈fV (c.needs w)):jS H d (.str x) (some (.int (c.Nq w x))):=(by obtain⟨o,akv,h1,_,h3⟩:=h;exact .inl ⟨akv,Sum.inr x,.inr ⟨o,h1⟩,rfl,(h3 x hx).symm⟩)
noncomputable abbrev Ga (b bits by_ ofp al sh fo:eQ):eW (Str×V):=[("board",.ref b),("bits",.ref bits),("by_bit",.ref by_),("of_part",.ref ofp),("allowed",.ref al),("shut_out",.ref sh),("foes",.ref fo)]
inductive Co (CB CC:eQ)(H:Hp)(p:eQ)(c:fA):Prop
 |mk (dx b bits by_ ofp al sh fo st:_)(_:H p=some (.ins CC dx (Ga b bits by_ ofp al sh fo)))(_:ia CB H b st c.es)(_:iu H st c.sn)(_:iZ H bits c c.Mo)(_:pj H by_ c)(_:mI H ofp c)(_:uo H al c)(_:iZ H sh c c.Nr)(_:ll H fo c c.Nt)
structure jk (CB CC:eQ)(H:Hp)(p:eQ)(c:fA):Prop where
 ex:Co CB CC H p c
structure TC (K:fh)(mg:Str->fc eR)(C:eQ):Prop where
 cl:su K C
 nBoard:ic K C "board"
 nBits:ic K C "bits"
 nBy:ic K C "by_bit"
 nOf:ic K C "of_part"
 nAl:ic K C "allowed"
 nSh:ic K C "shut_out"
 nFo:ic K C "foes"
 sorted:mg "sorted" = none
 max:mg "max" = none
 min:mg "min" = none
 sum:mg "sum" = none
end Lake.FB
namespace Lake
open PySem PySem.Spec PyProof.Rows Lake.FB
variable {H H':Hp}{b:eQ}
def fF (H H':Hp):Prop:=∀b u,H b=some u->H' b=some u\/(D7 u/\∃o,H' b=some (.frz o u))
def fH.toF (e:fH H H'):fF H H':=λb u h=>.inl (e b u h)
def fF.refl (H:Hp):fF H H:=λ_ _ h=>.inl h
def fF.trans {H1 H2:Hp}(a:fF H H1)(b:fF H1 H2):fF H H2:=λc u h=>by
 rcases a c u h with z|⟨f,o,z⟩;exact b c u z;rcases b c _ z with y|⟨g,_⟩;exact .inr ⟨f,o,y⟩;exact g.elim
def fF.no (e:fF H H'){u:HO}(h:H b=some u)(n:¬D7 u):H' b=some u:=(e b u h).resolve_right λz=>n z.1
def fF.lst (e:fF H H'){xs:eW V}(h:H b=some (.lst xs)):H' b=some (.lst xs):=e.no h λz=>z
def fF.tup (e:fF H H'){xs:eW V}(h:H b=some (.tup xs)):H' b=some (.tup xs):=e.no h λz=>z
def fF.ins (e:fF H H'){C dx:eQ}{fs:eW (Str×V)}(h:H b=some (.ins C dx fs)):H' b=some (.ins C dx fs):=e.no h λz=>z
def fF.frz (e:fF H H'){o:Obj}{u:HO}(h:H b=some (.frz o u)):H' b=some (.frz o u):=e.no h λz=>z
def fF.rd (e:fF H H'){u:HO}(h:Rd H b u):Rd H' b u:=by rcases h with h|⟨o,h⟩;rcases e b u h with z|⟨_,o,z⟩;exact .inl z;exact .inr ⟨o,z⟩;exact .inr ⟨o,e.frz h⟩
def fF.free (e:fF H H')(h:H' b=Option.none):H b=Option.none:=by cases q:H b with|none=>rfl|some u=>rcases e b u q with z|⟨_,o,z⟩;rw[z]at h;cases h;rw[z]at h;cases h
def fF.upd (e:fF H H'){u:HO}(h:H b=Option.none):fF H (upd H' b u):=λc v q=>by
 have:c≠b:=λz=>by rw[z,h]at q;cases q
 rcases e c v q with z|⟨f,o,z⟩;exact .inl (by rw[fw this];exact z);exact .inr ⟨f,o,by rw[fw this];exact z⟩
section
variable {X:Cx}{tg l:eY}{tl:TE}
inductive I0 (R:It->Hp->Prop)(x:V)(H1:Hp):Prop
 |mk (a kvs:_)(_:x=.ref a)(_:Rd H1 a (.dK kvs))(_:∀o H2,fF H1 H2->(∀b,b≠a->H2 b=H1 b)->H2 a=some (.frz o (.dK kvs))->R (Gm a o kvs) H2)
def J9 (tl:TE):TI:=λσ H R=>tl σ H λx H1=>I0 R x H1
inductive IZ (R:It->Hp->Prop)(x:V)(H1:Hp):Prop
 |mk (a kvs:_)(_:x=.ref a)(_:Rd H1 a (.dN kvs))(_:∀o H2,fF H1 H2->(∀b,b≠a->H2 b=H1 b)->H2 a=some (.frz o (.dN kvs))->R (GO a o kvs) H2)
def J8 (tl:TE):TI:=λσ H R=>tl σ H λx H1=>IZ R x H1
def rJ {a:eQ}{u:HO}{o:Obj}(e:H a=some u)(hu:D7 u):fF H (upd H a (.frz o u)):=λb v h=>by
 by_cases hb:b=a;subst hb;rw[e]at h;cases h;exact .inr ⟨hu,o,fj⟩;exact .inl (by rw[fw hb];exact h)
def Fi (J:PE X l tl):PI X tg l (J9 tl):=by
 intro d s σ H R I h;refine hU (J d s σ H _ I h) ?_;rintro v m ⟨x,B,z,E,a,g,D,i,q⟩;subst D;cases (show v=Value.ref a from E);have C:∀(o:Obj) (p:Hp),fR X d σ p m->p a=some (.frz o (.dK g))->R (Gm a o g) p->wpAny (model X.prog X.w) X.A (pyIter (.ref a)) (Jm X d σ tg R) X.xe m:=λo p j F q2=>by obtain⟨G,O,L,K,N,y,M,_⟩:=oY j.hok F;refine pH G L y O ⟨m.heap.objs.size,[m.heap.objs.size],_,_,p,rfl,j.kept (t':=m.toks) λb o e=>az _ e,xa a _ o K N g y M,⟨_,aO _ rfl,rfl,rfl⟩,λb t=>?_,q2⟩;rw[af.mp t];exact j.LX (am _) (j.hok.fresh (am _))
 rcases i with i|⟨o,i⟩;obtain⟨o,_,j⟩:=z.freeze i trivial;exact C o _ j fj (q o _ (rJ i trivial) (λb t=>fw t) fj);exact C o B z i (q o B (fF.refl _) (λ_ _=>rfl) i)
def tH (J:PE X l tl):PI X tg l (J8 tl):=by
 intro d s σ H R I h;refine hU (J d s σ H _ I h) ?_;rintro v m ⟨x,B,z,E,a,g,D,i,q⟩;subst D;cases (show v=Value.ref a from E);have C:∀(o:Obj) (p:Hp),fR X d σ p m->p a=some (.frz o (.dN g))->R (GO a o g) p->wpAny (model X.prog X.w) X.A (pyIter (.ref a)) (Jm X d σ tg R) X.xe m:=λo p j F q2=>by obtain⟨G,O,L,K,N,y,M,_⟩:=BC j.hok F;refine pH G L y O ⟨m.heap.objs.size,[m.heap.objs.size],_,_,p,rfl,j.kept (t':=m.toks) λb o e=>az _ e,Cs a _ o K N g y M,⟨_,aO _ rfl,rfl,rfl⟩,λb t=>?_,q2⟩;rw[af.mp t];exact j.LX (am _) (j.hok.fresh (am _))
 rcases i with i|⟨o,i⟩;obtain⟨o,_,j⟩:=z.freeze i trivial;exact C o _ j fj (q o _ (rJ i trivial) (λb t=>fw t) fj);exact C o B z i (q o B (fF.refl _) (λ_ _=>rfl) i)
end
end Lake
namespace Lake.FB
open PySem PyProof.Rows
section
variable {G G' H H':Hp}{L:jz}{O O' Ol:eW eQ}{a b p pp:eQ}{j m pm:Nat}{kl:eW Pk}{kvp:eW (hJ×V)}{v:V}{x:Str}
section
variable {H H':Hp}(e:fF H H')
include e
theorem fX.f {k:Pk}(h:fX H v k):fX H' v k:=(by obtain⟨q,h1,h2⟩:=h;exact⟨q,h1,e.tup h2⟩)
theorem gX.f {n:Nd}(h:gX H v n):gX H' v n:=(by obtain⟨q,h1,h2⟩:=h;exact⟨q,h1,e.tup h2⟩)
theorem iu.f {ns:eW Nd}(h:iu H a ns):iu H' a ns:=(by obtain⟨xs,h1,h2⟩:=h;exact⟨xs,e.lst h1,Paired.LJ h2 λ_ _=>gX.f e⟩)
theorem nW.f {kv:hJ×V}{n:En}(h:nW H kv n):nW H' kv n:=(by obtain⟨h1,a,zs,h2,h3,h4⟩:=h;exact⟨h1,a,zs,h2,e.lst h3,Paired.LJ h4 λ_ _=>gX.f e⟩)
theorem ia.f {C st:eQ}{es:eW En}(h:ia C H p st es):ia C H' p st es:=by obtain⟨A,i,o,a,g,v,m,q,t,y⟩:=h.ex;refine⟨A,i,o,a,g,e.ins v,e.rd m,Paired.LJ q λ_ _=>nW.f e,e.rd t,λx=>?_⟩;rcases y x with z|⟨l,b,j,s,B,d⟩;exact .inl z;exact .inr ⟨l,b,j,e.lst s,B,d⟩
theorem iZ.f {c:fA}{g:fc Pk->Nat}(h:iZ H a c g):iZ H' a c g:=(by obtain⟨kvs,h1,h2⟩:=h;exact⟨kvs,e.rd h1,h2⟩)
theorem ll.f {c:fA}{g:fc Pk->Nat}(h:ll H a c g):ll H' a c g:=(by obtain⟨kvs,h1,h2⟩:=h;exact⟨kvs,e.rd h1,h2⟩)
theorem pj.f {c:fA}(h:pj H a c):pj H' a c:=(by obtain⟨kvs,h1,h2⟩:=h;exact⟨kvs,e.rd h1,λk hk=>(by obtain⟨v,g1,g2⟩:=h2 k hk;exact⟨v,g1,fX.f e g2⟩)⟩)
theorem mI.f {c:fA}(h:mI H a c):mI H' a c:=(by obtain⟨kvs,h1,h2⟩:=h;exact⟨kvs,e.rd h1,h2⟩)
theorem jK.f {d:eQ}{c:fA}{w:fc Pk}(h:jK H d c w):jK H' d c w:=(by obtain⟨o,akv,h1,h2⟩:=h;exact⟨o,akv,e.frz h1,h2⟩)
theorem uo.f {c:fA}(h:uo H a c):uo H' a c:=(by obtain⟨kvs,h1,h2⟩:=h;exact⟨kvs,e.rd h1,λw hw=>(by obtain⟨d,g1,g2⟩:=h2 w hw;exact⟨d,g1,g2.f e⟩)⟩)
theorem jk.f {CB CC:eQ}{c:fA}(h:jk CB CC H p c):jk CB CC H' p c:=by obtain⟨A,b,bits,d,a,j,o,s,m,x,i,l,v,z,q,y,g,t⟩:=h.ex;exact⟨A,b,bits,d,a,j,o,s,m,e.ins x,i.f e,l.f e,v.f e,z.f e,q.f e,y.f e,g.f e,t.f e⟩
theorem iI.f {o:fc Pk}(h:iI H v o):iI H' v o:=by cases o with|none=>exact h|some k=>exact fX.f e h
end
def wB {ps:eW eQ}{u:HO}(h:b∈ps):del (upd H b u) ps=del H ps:=by funext x;unfold del;by_cases hx:x∈ps;rw[ay hx,ay hx];rw[ax hx,ax hx,fw (λz:x=b=>hx (by rw[z];exact h))]
def F7 {es:eW En}(sn:eW Nd){ks:eW Pk}(hn:(es.map fN).Nodup)(hp:ks.Perm (es.map fN))(ho:ks.Pairwise λa b=>rl a b=true):∃c:fA,c.es=es/\c.sn=sn/\c.ks=ks:=
 ⟨⟨es,sn,ks,λk=>hp.mem_iff,hp.nodup_iff.mpr hn,hp,ho,λi j a b hi hj hij e=>by
  obtain⟨h1,e1⟩:=aj.mp hi;obtain⟨h2,e2⟩:=aj.mp hj;have:=List.pairwise_iff_getElem.mp ho i j h1 h2 hij;rw[e1,e2]at this;unfold rl at this;rw[ay e]at this
  exact ba this⟩,rfl,rfl,rfl⟩
structure jq (G H:Hp)(O:eW eQ)(G' H':Hp)(O':eW eQ):Prop where
 gg:fF G G'
 gh:fF G' H'
 gn:∀a,G a=none->G' a≠none->H a=none
 on:∀a∈O',a∈O\/H a=none
 fr:fF (del H O) H'
 lv:∀a,H' a=none->H a=none
def jq.refl (h:fF G H):jq G H O G H O:=⟨fF.refl _,h,λa e n=>absurd e n,λa h=>.inl h,(gy _ _).toF,λ_ h=>h⟩
def jq.trans {G1 H1 G2 H2:Hp}{O1 O2:eW eQ}(a:jq G H O G1 H1 O1)(b:jq G1 H1 O1 G2 H2 O2):jq G H O G2 H2 O2:=by
 refine⟨a.gg.trans b.gg,b.gh,λx e n=>?_,λx l=>?_,λx u e=>?_,λx e=>a.lv x (b.lv x e)⟩;cases h1:G1 x with|some u=>exact a.gn x e (by rw[h1];exact λz=>nomatch z)|none=>exact a.lv x (b.gn x h1 n)
 rcases b.on x l with z|z;exact a.on x z;exact .inr (a.lv x z);have g:x∉O:=λz=>by rw[gR z]at e;cases e
 have j:H x=some u:=by rw[fG g]at e;exact e
 have d:x∉O1:=λz=>by rcases a.on x z with y|y;exact g y;rw[j]at y;cases y
 rcases a.fr x u e with z|⟨i,o,h⟩;exact b.fr x u (by rw[fG d];exact z);exact .inr ⟨i,o,b.fr.frz (by rw[fG d];exact h)⟩
def jq.same (h:fF G H)(e:fH H H'):jq G H O G H' O:=⟨fF.refl _,h.trans e.toF,λa e n=>absurd e n,λa h=>.inl h,((gy _ _).trans e).toF,λ_ h=>e.free h⟩
def jq.put {u:HO}(h:fF G H)(e:H a=none):jq G H O (upd G a u) (upd H a u) O:=by refine⟨(fF.refl G).upd (h.free e),λx v q=>?_,λx g n=>?_,λx b=>.inl b,λx v q=>?_,λx q=>?_⟩;by_cases z:x=a;subst z;rw[fj]at q ⊢;exact .inl q;rw[fw z]at q ⊢;exact h x v q;by_cases z:x=a;rw[z];exact e;rw[fw z]at n;exact absurd g n;refine .inl ?_;have:H x=some v:=gy _ _ x v q;rw[fw (fC this e)];exact this;by_cases z:x=a;subst z;exact e;rw[fw z]at q;exact q
def jq.keep (g:jq G H O G' H' O'){u:HO}(n:a∉O)(e:H a=some u)(f:¬D7 u):H' a=some u:=g.fr.no (by rw[fG n];exact e) f
def jq.out (g:jq G H O G' H' O'){u:HO}(n:a∉O)(e:H a=some u):a∉O':=λz=>by
 rcases g.on a z with y|y;exact n y;rw[e]at y;cases y
def jq.off (g:jq G H O G' H' O'){u:HO}(n:G a=none)(e:H a=some u):G' a=none:=by cases h:G' a with|none=>rfl|some v=>have:=g.gn a n (by rw[h];exact λz=>nomatch z);rw[e]at this;cases this
def jq.own (g:jq G H O G' H' O'){u:HO}(d:H b=none)(i:G' b=none):jq G H O G' (upd H' b u) O':=by
 refine⟨g.gg,g.gh.upd i,g.gn,g.on,g.fr.upd ?_,λa e=>?_⟩;cases h:del H O b with|none=>rfl|some v=>rw[gy _ _ b v h]at d;cases d
 by_cases z:a=b;rw[z];exact d;rw[fw z]at e;exact g.lv a e
def jq.base (g:jq G H O G' H' O')(gh:fF G H){u:HO}(d:H b=none)(e:H' b=some u):jq G H O (upd G' b u) H' O':=by refine⟨g.gg.upd (gh.free d),λa v q=>?_,λa e n=>?_,g.on,g.fr,g.lv⟩;by_cases z:a=b;rw[z,fj]at q;rw[z];exact .inl (e.trans q);rw[fw z]at q;exact g.gh a v q;by_cases z:a=b;rw[z];exact d;rw[fw z]at n;exact g.gn a e n
noncomputable def qk (m:Nat):jz->Nat->fc Nat
 |[],_=>none
 |e::L,i=>if e.1=m then some i else qk m L (i+1)
def oj (L:jz)(m:Nat):fc Nat:=qk m L 0
theorem ol (m:Nat)(e:Nat×Rs):∀(L:jz) (i:Nat),qk m (L++[e]) i=match qk m L i with
  |some j=>some j
  |none=>if e.1=m then some (i+L.length) else none
 |[],i=>by simp[qk]
 |x::L,i=>by rw[dD];unfold qk;by_cases h:x.1=m;rw[ay h,ay h];rw[ax h,ax h,ol m e L (i+1),au,show i+1+L.length=i+(L.length+1) by omega]
theorem rL {m:Nat}:∀{L:jz} {i j:Nat},qk m L i=some j->∃e,i<=j/\L[j-i]?=some e/\e.1=m
 |[],i,j,h=>nomatch h
 |x::L,i,j,h=>by unfold qk at h;by_cases hx:x.1=m;rw[ay hx]at h;cases h;exact⟨x,am _,by rw[cj];rfl,hx⟩;rw[ax hx]at h;obtain⟨e,h1,h2,h3⟩:=rL h;exact⟨e,by omega,by rw[show j-i=(j-(i+1))+1 by omega];exact h2,h3⟩
theorem om {m:Nat}:∀{L:jz} {i:Nat},qk m L i=none↔m∉L.map (·.1)
 |[],i=>by simp[qk]
 |x::L,i=>by unfold qk;by_cases hx:x.1=m;rw[ay hx];simp[hx];rw[ax hx,om,aH,ao,not_or];exact⟨λh=>⟨λz=>hx z.symm,h⟩,λh=>h.2⟩
def rK (h:oj L m=some j):∃e,L[j]?=some e/\e.1=m:=(by obtain⟨e,_,h2,h3⟩:=rL h;exact⟨e,h2,h3⟩)
def rj {e:Nat×Rs}(h:oj L m=some j):oj (L++[e]) m=some j:=by unfold oj at *;rw[ol,h]
def mK {e:Nat×Rs}(h:oj L m=none):oj (L++[e]) m=if e.1=m then some L.length else none:=by unfold oj at *;rw[ol,h,Nat.zero_add]
noncomputable def fA.NB (c:fA)(k:Pk):jz->Nat->eW Nat
 |[],_=>[]
 |e::L,i=>if c.has e.1 k then i::c.NB k L (i+1) else c.NB k L (i+1)
def fA.plc (c:fA)(L:jz)(k:Pk):eW Nat:=c.NB k L 0
theorem fA.NC (c:fA)(k:Pk)(e:Nat×Rs):∀(L:jz) (i:Nat),c.NB k (L++[e]) i=c.NB k L i++if c.has e.1 k then [i+L.length] else []
 |[],i=>by rw[et];unfold fA.NB;by_cases h:c.has e.1 k;rw[ay h,ay h];rfl;rw[ax h,ax h];rfl
 |x::L,i=>by rw[dD];unfold fA.NB;rw[fA.NC c k e L (i+1),au,show i+1+L.length=i+(L.length+1) by omega];by_cases h:c.has x.1 k;rw[ay h,ay h];rfl;rw[ax h,ax h]
def fA.ND (c:fA)(L:jz)(k:Pk)(e:Nat×Rs):c.plc (L++[e]) k=c.plc L k++if c.has e.1 k then [L.length] else []:=by unfold fA.plc;rw[fA.NC,Nat.zero_add]
theorem fA.NE (c:fA)(k:Pk):∀(L:jz) (i:Nat),(c.NB k L i).length<=L.length
 |[],i=>am _
 |x::L,i=>by unfold fA.NB;have:=fA.NE c k L (i+1);split;rw[au,au];omega;rw[au];omega
theorem fA.NF {c:fA}{k:Pk}{j:Nat}:∀{L:jz} {i:Nat},j∈c.NB k L i↔∃e,i<=j/\L[j-i]?=some e/\c.has e.1 k
 |[],i=>by simp[fA.NB]
 |x::L,i=>by
  have ih:=fA.NF (c:=c) (k:=k) (j:=j) (L:=L) (i:=i+1);have key:j∈c.NB k (x::L) i↔(j=i/\c.has x.1 k)\/j∈c.NB k L (i+1):=by show j∈(if c.has x.1 k then i::c.NB k L (i+1) else c.NB k L (i+1))↔_;by_cases h:c.has x.1 k;rw[ay h,ao];exact⟨λz=>z.imp (λy=>⟨y,h⟩) id,λz=>z.imp (λy=>y.1) id⟩;rw[ax h];exact⟨.inr,λz=>z.elim (λy=>absurd y.2 h) id⟩
  rw[key,ih];constructor;rintro(⟨rfl,h⟩|⟨e,d,a,b⟩);exact⟨x,am _,by rw[cj];rfl,h⟩;exact⟨e,by omega,by rw[show j-i=(j-(i+1))+1 by omega];exact a,b⟩;rintro⟨e,d,a,b⟩;rcases Nat.eq_or_lt_of_le d with z|z;subst z;rw[cj]at a;have:x=e:=by simpa using a
  exact .inl ⟨rfl,this▸b⟩;exact .inr ⟨e,z,by rw[show j-i=(j-(i+1))+1 by omega]at a;exact a,b⟩
def fA.NG {c:fA}{k:Pk}:j∈c.plc L k↔∃e,L[j]?=some e/\c.has e.1 k:=by unfold fA.plc;rw[fA.NF];exact⟨(by rintro⟨e,_,a,b⟩;exact⟨e,a,b⟩),(by rintro⟨e,a,b⟩;exact⟨e,bp _,a,b⟩)⟩
def vv:HO->Prop
 |.tbl _=>True
 |.ext _=>True
 |_=>False
noncomputable def iL (l:eW Nat):eW V:=l.map λi=>V.int (i:Nat)
structure sq (H:Hp)(c:fA)(pp:eQ)(g:Pk->eW Nat)(Ol:eW eQ)(kvp:eW (hJ×V))(kl:eW Pk):Prop where
 d:H pp=some (.dN kvp)
 keys:kvp.map (·.1)=kl.map (λk=>gC (some k))
 nd:kl.Nodup
 sub:∀k∈kl,k∈c.ks
 val:∀k∈c.ks,(fW kvp (gC (some k))=none/\g k=[])\/∃l,fW kvp (gC (some k))=some (.ref l)/\l∈Ol/\H l=some (.lst (iL (g k)))
 inj:∀k k' l,fW kvp (gC (some k))=some (.ref l)->fW kvp (gC (some k'))=some (.ref l)->k=k'
def Kk (H:Hp)(c:fA)(pp:eQ)(g:Pk->eW Nat)(Ol:eW eQ):Prop:=∃(kvp:eW (hJ×V)) (kl:eW Pk),sq H c pp g Ol kvp kl
def sq.keep {c:fA}{g:Pk->eW Nat}(B:sq H c pp g Ol kvp kl)(h:H' pp=H pp)(k:∀a∈Ol,H' a=H a):sq H' c pp g Ol kvp kl:=
 ⟨by rw[h];exact B.d,B.keys,B.nd,B.sub,λx hx=>(B.val x hx).imp id (by rintro⟨l,z1,z2,z3⟩;exact⟨l,z1,z2,by rw[k l z2];exact z3⟩),B.inj⟩
def sq.len {c:fA}{g:Pk->eW Nat}(B:sq H c pp g Ol kvp kl):kvp.length<=c.n:=by have h:=congrArg List.length B.keys;rw[ae,ae]at h;rw[h];exact lT B.nd B.sub
def sq.old {c:fA}{g:Pk->eW Nat}(B:sq H c pp g Ol kvp kl){k:Pk}{l:eQ}{i:Nat}(q:k∈c.ks)(h:fW kvp (gC (some k))=some (.ref l))(j:pp∉Ol):l∈Ol/\H l=some (.lst (iL (g k)))/\sq (upd H l (.lst (iL (g k)++[.int (i:Nat)]))) c pp (λx=>if x=k then g k++[i] else g x) Ol kvp kl:=by
 have a:l∈Ol/\H l=some (.lst (iL (g k))):=by rcases B.val k q with ⟨z,_⟩|⟨o,b,m,p⟩;rw[h]at z;cases z;rw[h]at b;cases b;exact⟨m,p⟩
 refine⟨a.1,a.2,?_,B.keys,B.nd,B.sub,λx s=>?_,B.inj⟩;rw[fw (λz=>j (by rw[z];exact a.1))];exact B.d;by_cases e:x=k;subst e;refine .inr ⟨l,h,a.1,?_⟩;rw[ay rfl,fj];unfold iL;rw[aC];rfl;rw[ax e];rcases B.val x s with z|⟨o,b,m,p⟩;exact .inl z;refine .inr ⟨o,b,m,?_⟩;rw[fw (λy:o=l=>e (B.inj x k l (y▸b) h))];exact p
def sq.new {c:fA}{g:Pk->eW Nat}(B:sq H c pp g Ol kvp kl){k:Pk}{l:eQ}{i:Nat}(G:k∈c.ks)(p:fW kvp (gC (some k))=none)(s:pp∉Ol)(E:l∉Ol)(P:l≠pp)(D:H' pp=some (.dN (gz kvp (gC (some k)) (.ref l))))(I:H' l=some (.lst [.int (i:Nat)]))(J:∀b,b≠pp->b≠l->H' b=H b):sq H' c pp (λx=>if x=k then g k++[i] else g x) (l::Ol) (gz kvp (gC (some k)) (.ref l)) (kl++[k]):=by
 have N:g k=[]:=by rcases B.val k G with ⟨_,z⟩|⟨h,m,_⟩;exact z;rw[p]at m;cases m
 have v:k∉kl:=λz=>by
  have D:gC (some k)∈kvp.map (·.1):=by rw[B.keys];exact br z
  obtain⟨L,A,C⟩:=aA.mp D;unfold fW at p;rw[Option.map_eq_none_iff,eG]at p;exact p L A (by simpa using C)
 refine⟨D,?_,?_,λx d=>?_,λx d=>?_,λx y h d j=>?_⟩;rw[iR _ p,aC,B.keys,aC];rfl;rw[bU];exact⟨B.nd,by simp,λa O b K e=>v (by rw[show b=k by simpa using K]at e;exact e▸O)⟩;rcases aE.mp d with z|z;exact B.sub x z;rw[af.mp z];exact G;rw[ii];by_cases e:x=k;subst e;refine .inr ⟨l,ay rfl,by simp,?_⟩;rw[ay rfl,I,N];rfl;rw[ax (λz=>e (Option.some.inj (i7 z))),ax e];rcases B.val x d with z|⟨h,m,q,M⟩;exact .inl z;refine .inr ⟨h,m,by simp[q],?_⟩;rw[J h (λy=>s (y▸q)) (λy=>E (y▸q))];exact M;have o:∀x h,x≠k->fW kvp (gC (some x))=some (.ref h)->h≠l:=λx h e z y=>by
  have t:x∈c.ks:=by have:=jw z;rw[B.keys]at this;obtain⟨u,A,C⟩:=aA.mp this;rw[<-Option.some.inj (i7 C)];exact B.sub u A
  rcases B.val x t with ⟨F,_⟩|⟨Q,m,q,_⟩;rw[z]at F;cases F;rw[z]at m;cases m;exact E (y▸q)
 rw[ii]at d j;by_cases ex:x=k;by_cases ey:y=k;rw[ex,ey];rw[ay (by rw[ex])]at d;rw[ax (λz=>ey (Option.some.inj (i7 z)))]at j;cases d;exact absurd rfl (o y l ey j);rw[ax (λz=>ex (Option.some.inj (i7 z)))]at d;by_cases ey:y=k;rw[ay (by rw[ey])]at j;cases j;exact absurd rfl (o x l ex d);rw[ax (λz=>ey (Option.some.inj (i7 z)))]at j;exact B.inj x y h d j
def sq.fn {c:fA}{g g':Pk->eW Nat}(B:sq H c pp g Ol kvp kl)(h:∀k∈c.ks,g k=g' k):sq H c pp g' Ol kvp kl:=
 ⟨B.d,B.keys,B.nd,B.sub,λk hk=>by rw[<-h k hk];exact B.val k hk,B.inj⟩
def i8 (h:fF G H)(off:∀a∈O,G a=none)(fr:fF (del H O) H'):fF G H':=λa u e=>by
 have na:a∉O:=λz=>by rw[off a z]at e;cases e
 rcases h a u e with z|⟨z1,o,z2⟩;exact fr a u (by rw[fG na];exact z);exact .inr ⟨z1,o,fr.frz (by rw[fG na];exact z2)⟩
noncomputable abbrev Bo (ch ma re pm pp:eQ):eW (Str×V):=[("chart",.ref ch),("masks",.ref ma),("reasons",.ref re),("place_by_mask",.ref pm),("places_by_pick",.ref pp)]
inductive Gj (CL:eQ)(G H:Hp)(p ch:eQ)(c:fA)(L:jz)(O:eW eQ):Prop
 |mk (dx ma re pm pp:eQ)(kvm:eW (io×V))(rs:eW V)(Ol:eW eQ)(_:O=ma::re::pm::pp::Ol)(_:G p=some (.ins CL dx (Bo ch ma re pm pp)))(_:H ma=some (.lst (iL (L.map (·.1)))))(_:H re=some (.lst rs))(_:ff (vp G) rs (L.map (·.2)))(_:H pm=some (.dK kvm))(_:kvm.length<=L.length)(_:∀m:Nat,fW kvm (Sum.inl (m:Int))=(oj L m).map λi=>V.int (i:Nat))(_:Kk H c pp (c.plc L) Ol)
structure im (CL:eQ)(G H:Hp)(p ch:eQ)(c:fA)(L:jz)(O:eW eQ):Prop where
 ex:Gj CL G H p ch c L O
 off:∀a∈O,G a=none
 liv:∀a∈O,∃u,H a=some u
 nf:∀a∈O,∀u,H a=some u->¬vv u
 nd:O.Nodup
def uj.f (e:fF H H'):∀{t:Cc},uj H v t->uj H' v t
 |.one k,h=>fX.f e h
 |.many bs,⟨a,h1,h2⟩=>⟨a,h1,e.lst h2⟩
def vp.f (e:fF H H'){r:Rs}(h:vp H v r):vp H' v r:=
 (by obtain⟨q,wv,tv,h1,h2,h3,h4⟩:=h;exact⟨q,wv,tv,h1,e.tup h2,h3.f e,h4.f e⟩)
def im.grow {CL:eQ}{ch:eQ}{c:fA}(h:im CL G H p ch c L O)(i:fF G G')(off:∀a∈O,G' a=none)(k:∀a∈O,H' a=H a):im CL G' H' p ch c L O:=by obtain⟨A,l,re,g,j,e,m,C,rfl,v,o,q,t,y,s,x,⟨d,z,B⟩⟩:=h.ex;refine⟨⟨A,l,re,g,j,e,m,C,rfl,i.ins v,by rw[k l (by simp)];exact o,by rw[k re (by simp)];exact q,Paired.LJ t λ_ _=>vp.f i,by rw[k g (by simp)];exact y,s,x,⟨d,z,B.keep (k j (by simp)) λa b=>k a (by simp[b])⟩⟩,off,λa b=>by rw[k a b];exact h.liv a b,λa b=>by rw[k a b];exact h.nf a b,h.nd⟩
structure TL (K:fh)(mg:Str->fc eR)(C:eQ):Prop where
 cl:su K C
 nCh:ic K C "chart"
 nMa:ic K C "masks"
 nRe:ic K C "reasons"
 nPm:ic K C "place_by_mask"
 nPp:ic K C "places_by_pick"
 len:mg "len" = none
 zip:mg "zip" = none
def nT {α:Type}{x:α}{l:eW α}:vd (x::l) 0=some x:=pB (show kW (x::l) ((0:Nat):Int)=some x by rw[jG];rfl)
inductive IJ (Q:Bool->Hp->Prop)(x:V)(H':Hp):Prop
 |mk (i:_)(_:x=.int i)(_:Q (i != 0) H')
def Jx (ta:TE):TT:=λσ H Q=>ta σ H λx H'=>IJ Q x H'
def vP {X:Cx}{a:eY}{ta:TE}(j:PE X a ta)(g:∀whole,isTrue a X.env whole=(do let v <-whole;standAt a.pos;holding [v] (truthy v))):PT X a (Jx ta):=by intro b s σ H Q I h;exact isTrue_plain (hU (j b s σ H _ I h) (by rintro v o ⟨x,d,m,l,i,e,q1⟩;exact zL b o σ d x v Q m l ⟨_,by subst e;rfl,q1⟩)) (g _)
def fA.NH (c:fA)(wanted:eW (Str×fc Pk))(w:fc Pk)(pm:Nat)(ps:eW Str)(g:eW (Str×fc Pk)):Prop:=
 ∃E:eW Str,g.map (·.1)=wanted.map (·.1)++E/\E.Sublist ps/\(∀x∈E,¬c.isP pm x/\x∉wanted.map (·.1))/\(∀x∈ps,c.isP pm x\/x∈wanted.map (·.1)\/x∈E)/\
  ∀x u,(x,u)∈g->(x,u)∈wanted\/(u=w/\x∈ps/\¬c.isP pm x)
theorem ot:∀ns:eW Nd,(fV ns).length<=ns.length
 |[]=>am _
 |n::ns=>by rw[fV,au,au];have h1:=bK (λx=>!decide (x=n.1)) (fV ns);have h2:=ot ns;lia
def GrowP.nil {c:fA}{wanted:eW (Str×fc Pk)}{w:fc Pk}:c.NH wanted w pm [] wanted:=⟨[],by simp,.slnil,(λx h=>nomatch h),(λx h=>nomatch h),λx u h=>.inl h⟩
section
variable {c:fA}{wanted g:eW (Str×fc Pk)}{w:fc Pk}{ps:eW Str}
def GrowP.skip (h:c.NH wanted w pm ps g)(hx:c.isP pm x):c.NH wanted w pm (ps++[x]) g:=by obtain⟨E,e,b,j,d,i⟩:=h;refine⟨E,e,b.trans (List.sublist_append_left _ _),j,λy a=>?_,λy u a=>(i y u a).imp id λz=>⟨z.1,aK _ z.2.1,z.2.2⟩⟩;rcases aE.mp a with z|z;exact d y z;rw[af.mp z];exact .inl hx
def GrowP.new (h:c.NH wanted w pm ps g)(hx:¬c.isP pm x)(d:x∉g.map (·.1)):c.NH wanted w pm (ps++[x]) (g++[(x,w)]):=by obtain⟨E,b,e,l,i,j⟩:=h;rw[b]at d;refine⟨E++[x],by rw[aC,b,ce];rfl,e.append (List.Sublist.refl _),λy a=>?_,λy a=>?_,λy u a=>?_⟩;rcases aE.mp a with z|z;exact l y z;rw[af.mp z];exact⟨hx,λq=>d (aK _ q)⟩;rcases aE.mp a with z|z;exact(i y z).imp id λq=>q.imp id λq=>aK _ q;rw[af.mp z];exact .inr (.inr (by simp));rcases aE.mp a with z|z;exact(j y u z).imp id λq=>⟨q.1,aK _ q.2.1,q.2.2⟩;rw[af,Prod.mk.injEq]at z;exact .inr ⟨z.2,by simp[z.1],z.1▸hx⟩
def GrowP.LK (h:c.NH wanted w pm ps g)(i:x∈g.map (·.1))(a:x∉ps):c.NH wanted w pm (ps++[x]) g:=by obtain⟨E,e,d,m,j,l⟩:=h;refine⟨E,e,d.trans (List.sublist_append_left _ _),m,λy b=>?_,λy u b=>(l y u b).imp id λz=>⟨z.1,aK _ z.2.1,z.2.2⟩⟩;rcases aE.mp b with z|z;exact j y z;rw[af.mp z];rw[e]at i;exact .inr (.inl ((aE.mp i).resolve_right λq=>a (d.subset q)))
def GrowP.swap (h:c.NH wanted w pm ps g)(hx:¬c.isP pm x)(p:x∈g.map (·.1))(a:x∉ps):c.NH wanted w pm (ps++[x]) (g.map λyu=>if yu.1=x then (yu.1,w) else yu):=by
 obtain⟨E,l,d,o,i,m⟩:=GrowP.LK h p a;have e:(g.map λyu=>if yu.1=x then (yu.1,w) else yu).map (·.1)=g.map (·.1):=by rw[cR];refine List.map_congr_left λyu _=>?_;show(if yu.1=x then (yu.1,w) else yu).1=yu.1;split <;> rfl
 refine⟨E,by rw[e];exact l,d,o,i,λy u j=>?_⟩;obtain⟨yu,b,z⟩:=aA.mp j;by_cases q:yu.1=x;rw[ay q]at z;cases z;exact .inr ⟨rfl,by simp[q],q▸hx⟩;rw[ax q]at z;subst z;exact m y u b
end
def xD {c:fA}:(pm &&& c.Np x≠0)↔c.isP pm x:=by have b:pm &&& c.Np x<2^c.n:=bX Nat.and_le_right (c.MQ _);constructor;intro h;refine Classical.byContradiction λz=>h (fA.MD b λk e=>z ?_);obtain⟨a,d⟩:=fA.Mw.mp e;exact⟨k,a,(fA.Nu.mp d).2⟩;rintro⟨j,a,d⟩ h;have:c.has (pm &&& c.Np x) j:=fA.Mw.mpr ⟨a,fA.Nu.mpr ⟨a.1,d⟩⟩;rw[h]at this;exact fA.Mz this
theorem oC {α β:Type}{f:α->eW β}{n:Nat}:∀{l:eW α},(∀x∈l,(f x).length<=n)->(l.flatMap f).length<=l.length*n
 |[],_=>by simp
 |x::l,h=>by have h1:=oC (l:=l) λy hy=>h y (by simp[hy]);have h2:=h x (by simp);rw[List.flatMap_cons,aB,au,Nat.succ_mul];lia
theorem jv.NI {c:fA}{s:Sd}(h:jv c L s)(a:∀w,(c.needs w).length<=100)(o:c.n<64):s.wanted.length<=7000:=by
 have g:(s.wanted.map (·.1)).length<=((none::c.ks.map some).flatMap λw=>(c.needs w).map (·.1)).length:=by refine lT h.wk λx m=>?_;obtain⟨⟨y,w⟩,d,e⟩:=aA.mp m;have j:y=x:=e;subst j;obtain⟨_,b,i⟩:=h.w1 y w d;refine List.mem_flatMap.mpr ⟨w,?_,i⟩;cases w with|none=>exact bH|some k=>exact bt _ (br b.1)
 have b:=oC (f:=λw=>(c.needs w).map (·.1)) (n:=100) (l:=none::c.ks.map some) λw _=>by rw[ae];exact a w
 rw[au,ae]at b;rw[ae]at g;have:c.ks.length<64:=o;lia
def wP (H:Hp)(kv:io×V)(xu:Str×fc Pk):Prop:=kv.1=Sum.inr xu.1/\iI H kv.2 xu.2
def wQ (G:Hp)(a:eQ)(wanted:eW (Str×fc Pk)):Prop:=∃o kvs,G a=some (.frz o (.dK kvs))/\ff (wP G) kvs wanted
def wP.f (e:fF H H'){kv:io×V}{xu:Str×fc Pk}(h:wP H kv xu):wP H' kv xu:=⟨h.1,h.2.f e⟩
def wQ.f (e:fF H H'){ws:eW (Str×fc Pk)}(h:wQ H a ws):wQ H' a ws:=(by obtain⟨o,kvs,h1,h2⟩:=h;exact⟨o,kvs,e.frz h1,Paired.LJ h2 λ_ _ z=>z.f e⟩)
theorem wY {H:Hp}:∀{kvs:eW (io×V)} {g:eW (Str×fc Pk)},ff (wP H) kvs g->kvs.map (·.1)=(g.map (·.1)).map Sum.inr
 |_,_,.nil=>rfl
 |_,_,.cons h r=>by rw[aH,aH,aH,wY r,h.1]
theorem sv {H:Hp}:∀{kvs:eW (io×V)} {g:eW (Str×fc Pk)} {x:Str},ff (wP H) kvs g->(fW kvs (Sum.inr x)=none↔x∉g.map (·.1))
 |_,_,x,.nil=>by simp[fW]
 |kv::kvs,xu::g,x,.cons h r=>by have ih:=sv (x:=x) r;unfold fW at ih ⊢;rw[bB,h.1,aH,ao,not_or];by_cases e:xu.1=x;rw[aq (by rw[e])];simp[e];rw[aw (λz=>e (Sum.inr.inj z))];exact ih.trans ⟨λz=>⟨λy=>e y.symm,z⟩,λz=>z.2⟩
theorem pr {H:Hp}:∀{kvs:eW (io×V)} {g:eW (Str×fc Pk)} {x:Str},ff (wP H) kvs g->x∈g.map (·.1)->∃v u,fW kvs (Sum.inr x)=some v/\(x,u)∈g/\iI H v u
 |_,_,x,.nil,h=>nomatch h
 |kv::kvs,xu::g,x,.cons h r,hx=>by by_cases e:xu.1=x;refine⟨kv.2,xu.2,?_,by rw[<-e];exact bH,h.2⟩;unfold fW;rw[bB,h.1,aq (by rw[e])];rfl;rw[aH,ao]at hx;obtain⟨v,u,h1,h2,h3⟩:=pr r (hx.resolve_left λz=>e z.symm);refine⟨v,u,?_,bt _ h2,h3⟩;unfold fW at h1 ⊢;rw[bB,h.1,aw (λz=>e (Sum.inr.inj z))];exact h1
def EA {kvs:eW (io×V)}{g:eW (Str×fc Pk)}{w:fc Pk}(h:ff (wP H) kvs g)(b:iI H v w):ff (wP H) (gz kvs (Sum.inr x) v) (if x∈g.map (·.1) then g.map (λyu=>if yu.1=x then (yu.1,w) else yu) else g++[(x,w)]):=by
 by_cases hx:x∈g.map (·.1);rw[ay hx];have d:(kvs.any λa=>decide (a.1=Sum.inr x))=true:=by
  have:(Sum.inr x:io)∈kvs.map (·.1):=by rw[wY h];exact br hx
  obtain⟨a,j,i⟩:=aA.mp this;exact ee.mpr ⟨a,j,aq i⟩
 unfold gz;rw[ay d];clear d hx;induction h with|nil=>exact .nil|@cons a xu kvs g h r ih=>refine .cons ?_ ih;dsimp only;by_cases e:xu.1=x;rw[ay (show a.1=Sum.inr x by rw[h.1,e]),ay e];exact⟨h.1,b⟩;rw[ax (show ¬a.1=Sum.inr x from λz=>e (Sum.inr.inj (h.1.symm.trans z))),ax e];exact h
 rw[ax hx,iR _ ((sv h).mpr hx)];exact Paired.snoc h ⟨rfl,b⟩
theorem wZ {H:Hp}{x:Str}:∀{kvs:eW (io×V)} {g:eW (Str×fc Pk)},ff (wP H) kvs g->ff (wP H) (kN kvs (Sum.inr x)) (g.filter λxu=>!decide (xu.1=x))
 |_,_,.nil=>.nil
 |kv::kvs,xu::g,.cons h r=>by have ih:=wZ (x:=x) r;unfold kN at ih ⊢;by_cases e:xu.1=x;rw[aI,aI,ax (by rw[h.1];simp[e]),ax (by simp[e])];exact ih;rw[aI,aI,ay (by rw[h.1];simpa using e),ay (by simpa using e)];exact .cons h ih
noncomputable def jC (i:Nat):eX:=PySem.Challenge.pw_fitboard_k03_refused.main.body.getD i (.Pass ⟨0,0,0,0⟩)
abbrev qc:eX:=jC 6
abbrev Ai:eX:=gH (jC 7) 0
abbrev p9:eX:=gH (jC 7) 1
abbrev sX:eX:=jC 9
abbrev vL:eX:=jC 10
abbrev Al:eX:=jC 11
abbrev qe:eX:=jC 12
abbrev sY:eX:=jC 13
abbrev E7:eX:=jC 14
abbrev Ah:eX:=jC 15
abbrev vK:eX:=jC 16
abbrev vH:eX:=jC 17
abbrev E4:eX:=jC 19
abbrev E8:eX:=jC 21
abbrev vM:eX:=jC 28
abbrev sZ:eX:=gH (jC 29) 0
abbrev Ak:eX:=gH (jC 29) 1
abbrev qf:eX:=gH (jC 29) 2
abbrev pX:eX:=gH (jC 29) 3
abbrev sR:eX:=gH (jC 29) 4
abbrev sS:eX:=gH (jC 29) 5
abbrev sT:eX:=gH (jC 31) 0
abbrev E3:eX:=gH (jC 31) 1
abbrev sO:eX:=gH (jC 31) 2
abbrev tj:eX:=gH (jC 31) 3
abbrev vD:eX:=gH (jC 31) 4
abbrev sI:eX:=jC 33
abbrev sK:eX:=gH (jC 34) 0
abbrev sW:eX:=gH (jC 35) 0
abbrev sM:eX:=gH (jC 36) 0
abbrev p0:eX:=gH (jC 36) 1
abbrev sJ:eX:=gH (jC 36) 2
abbrev Ag:eX:=gH (jC 36) 3
abbrev uz:eX:=gH (jC 36) 4
abbrev Aj:eX:=gH (jC 36) 5
abbrev tf:eX:=gH (jC 36) 6
abbrev sV:eX:=gH (jC 36) 7
abbrev Af:eX:=gH (jC 36) 8
abbrev Ac:eX:=gH (jC 36) 9
abbrev sN:eX:=gH (jC 36) 10
abbrev vJ:eX:=gH (jC 36) 11
abbrev pZ:eX:=gH (jC 36) 12
abbrev vE:eX:=gH (jC 36) 13
abbrev sQ:eX:=gH (jC 36) 14
abbrev vF:eX:=gH (jC 36) 15
abbrev JU:eX:=jC 38
abbrev E2:eX:=jC 39
abbrev Ae:eX:=jC 40
abbrev vG:eX:=jC 41
abbrev pW:eX:=jC 42
abbrev Am:eX:=jC 43
abbrev p3:eX:=jC 44
abbrev sU:eX:=jC 45
abbrev sP:eX:=jC 46
abbrev vN:eX:=jC 47
abbrev ku:eX:=jC 48
abbrev Ad:eX:=jC 49
abbrev vI:eX:=jC 50
abbrev pY:eX:=jC 51
abbrev vO:eX:=jC 52
abbrev kT:eX:=jC 53
end
section
seal lI PS PE PT PA
variable {C CB CC CL CS a ch dx p:eQ}{G H H' Hd:Hp}{K:fh}{P:eV}{es:eW En}{fd:eZ}{i j m:Nat}{mg:Str->fc eR}{vk:eW (io×V)}{x:Str}
structure TB (K:fh)(mg:Str->fc eR)(C:eQ):Prop where
 cl:su K C
 nN:ic K C "needs"
 nV:ic K C "versions"
 mC:mg "Board" = some (.ref C)
 list:mg "list" = none
 sorted:mg "sorted" = none
def md {y:Str}:decide (V.str x=V.str y)=decide (x=y):=by by_cases h:x=y;rw[aq h,aq (congrArg V.str h)];rw[aw h,aw (λz=>h (V.str.inj z))]
def oF (n:Nd)(k:Str×Int):Bool:=decide (k.1=n.1)&&!(nH n k.2)
inductive mi (vs:eW V)(H:Hp)(Q:VK)(E:XK):Prop
 |mk (v pk:V)(n:Nd)(k:Str×Int)(_:vs=[v,pk])(_:gX H v n)(_:fX H pk k)(_:Q (.bl (oF n k)) H)
inductive vm (C CT:eQ)(vs:eW V)(H:Hp)(Q:VK)(E:XK):Prop
 |mk (p dx a st:eQ)(es:eW En)(_:vs=[.ref p,.ref a,.ref st])(_:H p=some (.ins C dx []))(_:i6 H a es)(_:∀e∈es,lP e)(_:es.length<64)(_:(es.map fN).Nodup->∀H',fH (del H [p]) H'->ia C H' p st es->Q .non H')(_:¬(es.map fN).Nodup->∀H',fH (del H [p]) H'->E (.ref CT) none H')
inductive mh (C:eQ)(vs:eW V)(H:Hp)(Q:VK)(E:XK):Prop
 |mk (p st:eQ)(es:eW En)(v:V)(n:Nd)(_:vs=[.ref p,v])(_:ia C H p st es)(_:gX H v n)(_:es.length<64)(_:∀l (ms:eW Int) H',fH H H'->H l=none->H' l=some (.lst (ms.map V.int))->ms.Perm (jc es n)->ms.Pairwise (· ≥ ·)->Q (.ref l) H')
section
variable {w:fe}{base:fb}{f:eQ}
def jD {N Ps:eW Str}{sc:Scope}(a:autoParam (sc.kind=.function) gq._auto_1)(b:autoParam (sc.isCoroutine=false) gq._auto_1)(c:autoParam (sc.isGenerator=false) gq._auto_1)(d:autoParam N.Nodup iT.closed._auto_1)(e:autoParam (N.take Ps.length=Ps) gq._auto_1)(f:autoParam (∀x∈Ps,sc.names.lookup x=some .local\/sc.names.lookup x=some .cell) iT.closed._auto_1)(g:autoParam (∀y∈sc.names,y.2≠.free) iT.closed._auto_1):fL N Ps sc:=⟨a,b,c,d,e,f,g⟩
def JR:fL ["need","pick"] ["need","pick"] (fE qc):=jD
def v4 (F:je K "clashes" "clashes" qc f fd):gv P w K mg base gM 1 f fd ["need","pick"] mi:=by refine F.ok JR λe A d s H i Q E g h=>?_;obtain⟨v,j,n,k,rfl,⟨a,rfl,b⟩,⟨q1,rfl,hp⟩,q⟩:=h;refine⟨_,fz (gc (tJ (kJ iN (fZ gs (pv 1) fD) (fZ gs (pv 0) fD) (gr _)) (tI (Fj (AH xo xo (fZ gs (pv 0) fD) (fZ gs (pv 1) fD) (fZ gs (pv 0) fD)))))),?_⟩;unfold oF nH at q;refine⟨_,rfl,q1,_,_,_,rfl,rfl,jg.of hp,rfl,_,rfl,a,_,_,_,rfl,rfl,jg.of b,rfl,rfl,_,rfl,?_⟩;rw[md];refine ke (λc=>?_) (λc=>?_);rw[c,cQ]at q;refine⟨_,rfl,a,_,_,_,rfl,rfl,jg.of b,rfl,_,rfl,q1,_,_,_,rfl,rfl,jg.of hp,rfl,_,_,rfl,rfl,_,rfl,?_⟩;refine ke (λc=>?_) (λc=>?_);refine⟨_,rfl,a,_,_,_,rfl,rfl,jg.of b,rfl,_,_,rfl,rfl,_,rfl,?_⟩;rw[c,cQ]at q;exact q;rw[bE.mpr c,cg]at q;exact⟨_,rfl,q⟩;rw[bE.mpr c,cg]at q;exact q
end
def qx {α:Type}{l:eW α}{x:α}(h:(l.take i).Nodup)(e:l[i]?=some x):(l.take (i+1)).Nodup↔¬x∈l.take i:=by
 have g:l.take (i+1)=l.take i++[x]:=by rw[aZ,e];rfl
 rw[g,bU];constructor;intro z m;exact z.2.2 x m x (by simp) rfl;intro z;refine⟨h,by simp,λa d b j e=>z ?_⟩;rw[af.mp j]at e;rw[<-e];exact d
def mO {α:Type}{l:eW α}(i:Nat)(h:l.Nodup):(l.take i).Nodup:=h.sublist (dW _ _)
def nM {κ:Type} [DecidableEq κ] {kvs:eW (κ×V)}{k:κ}{v:V}(h:(fW kvs k).isSome=true):(gz kvs k v).map (·.1)=kvs.map (·.1):=by unfold gz;rw[jr,ay h,cR];refine List.map_congr_left λa _=>?_;show(if a.1=k then (a.1,v) else a).1=a.1;split <;> rfl
def i6.apart {fs:eW (Str×V)}(hp:H p=some (.ins C dx fs))(h:i6 H a es):i6 (del H [p]) a es:=by
 have out:∀b o,H b=some o->o≠.ins C dx fs->del H [p] b=some o:=λb o e x=>by rw[fG (by simpa using gF e hp x)];exact e
 obtain⟨j,A,i⟩:=h;refine⟨j,out _ _ A (by intro z;cases z),Paired.LJ i λv e z=>?_⟩;obtain⟨q,d,l,s,B,t,y⟩:=z;refine⟨q,d,l,s,out _ _ B (by intro z;cases z),out _ _ t (by intro z;cases z),Paired.LJ y λv n z=>?_⟩;obtain⟨q,g,m⟩:=z;exact⟨q,g,out _ _ m (by intro z;cases z)⟩
structure kF (Hd H:Hp)(vk:eW (io×V))(es:eW En):Prop where
 at_:∀x:Str,(fW vk (Sum.inr x)=none/\iU es x=[])\/∃l,fW vk (Sum.inr x)=some (.ref l)/\Hd l=none/\H l=some (.lst ((iU es x).map V.int))
 inj:∀(x y:Str) (l:eQ),fW vk (Sum.inr x)=some (.ref l)->fW vk (Sum.inr y)=some (.ref l)->x=y
 keys:∀kv∈vk,∃x:Str,kv.1=Sum.inr x
 len:vk.length<=es.length
def kF.same (R:kF Hd H vk es)(s:fH H H'):kF Hd H' vk es:=
 ⟨λx=>(R.at_ x).imp id (by rintro⟨l,h1,h2,h3⟩;exact⟨l,h1,h2,s _ _ h3⟩),R.inj,R.keys,R.len⟩
def kF.dict (R:kF Hd H vk es)(s:∀b xs,H b=some (.lst xs)->H' b=some (.lst xs)):kF Hd H' vk es:=
 ⟨λx=>(R.at_ x).imp id (by rintro⟨l,h1,h2,h3⟩;exact⟨l,h1,h2,s _ _ h3⟩),R.inj,R.keys,R.len⟩
def kF.more {e:En}{l:eQ}(R:kF Hd H vk es)(h:fW vk (Sum.inr e.1)=some (.ref l)):Hd l=none/\H l=some (.lst ((iU es e.1).map V.int))/\kF Hd (upd H l (.lst ((iU es e.1).map V.int++[.int e.2.1]))) vk (es++[e]):=by
 have d:Hd l=none/\H l=some (.lst ((iU es e.1).map V.int)):=by rcases R.at_ e.1 with ⟨z,_⟩|⟨i,a,b,g⟩;rw[h]at z;cases z;rw[h]at a;cases a;exact⟨b,g⟩
 refine⟨d.1,d.2,λx=>?_,R.inj,R.keys,by rw[aB];exact bz R.len (dB _ _)⟩;rw[oN];by_cases hx:e.1=x;subst hx;refine .inr ⟨l,h,d.1,?_⟩;rw[fj,ay rfl,aC];rfl;rw[ax hx];rcases R.at_ x with z|⟨i,a,b,g⟩;exact .inl z;refine .inr ⟨i,a,b,?_⟩;rw[fw (λz=>hx (R.inj _ _ l h (by rw[<-z];exact a)))];exact g
def kF.first {e:En}{l:eQ}(R:kF Hd H vk es)(h:fW vk (Sum.inr e.1)=none)(t:H l=some (.lst []))(m:Hd l=none)(j:∀x:Str,fW vk (Sum.inr x)≠some (.ref l)):kF Hd (upd H l (.lst [.int e.2.1])) (gz vk (Sum.inr e.1) (.ref l)) (es++[e]):=by
 refine⟨λx=>?_,λx y i a b=>?_,λs d=>?_,?_⟩;rw[oN,ii];by_cases a:e.1=x;subst a;refine .inr ⟨l,by rw[ay rfl],m,?_⟩;have p:iU es e.1=[]:=by rcases R.at_ e.1 with ⟨_,z⟩|⟨i,g,_⟩;exact z;rw[h]at g;cases g
 rw[fj,ay rfl,p];rfl;rw[ax (λz=>a (Sum.inr.inj z).symm),ax a];rcases R.at_ x with z|⟨i,g,o,q⟩;exact .inl z;refine .inr ⟨i,g,o,?_⟩;rw[fw (λz=>j x (by rw[<-z];exact g))];exact q;rw[ii]at a b;by_cases ex:(Sum.inr x:io)=Sum.inr e.1;by_cases ey:(Sum.inr y:io)=Sum.inr e.1;exact(Sum.inr.inj ex).trans (Sum.inr.inj ey).symm;rw[ay ex]at a;rw[ax ey]at b;cases a;exact absurd b (j y);rw[ax ex]at a;by_cases ey:(Sum.inr y:io)=Sum.inr e.1;rw[ay ey]at b;cases b;exact absurd a (j x);rw[ax ey]at b;exact R.inj x y i a b;rw[iR _ h]at d;rcases aE.mp d with z|z;exact R.keys s z;rw[af.mp z];exact⟨_,rfl⟩;rw[iR _ h,aB,aB];exact Nat.add_le_add_right R.len _
inductive KA (C:eQ)(Hd:Hp)(es:eW En)(p a st dx dn dv:eQ)(i:Nat)(σ:Lake.St)(H2:Hp):Prop
 |mk (nks vk o3 o4 o5:_)(_:σ=[some (.ref p),some (.ref a),some (.ref st),o3,o4,o5])(_:H2 p=some (.ins C dx (lj dn dv)))(_:H2 dn=some (.dN ((none,.ref st)::nks)))(_:ff (nW Hd) nks (es.take i))(_:H2 dv=some (.dK vk))(_:kF Hd H2 vk (es.take i))
structure LG (C:eQ)(Hd:Hp)(es:eW En)(p a st dx dn dv:eQ)(i:Nat)(σ:Lake.St)(H2:Hp):Prop where
 ex:KA C Hd es p a st dx dn dv i σ H2
 sm:fH Hd H2
 nd:((es.map fN).take i).Nodup
inductive Kz (C:eQ)(Hd:Hp)(es:eW En)(p a st dx dn dv:eQ)(nks:eW (hJ×V))(ks:eW io)(j:Nat)(σ:Lake.St)(H2:Hp):Prop
 |mk (vk o3 o4 o5:_)(_:σ=[some (.ref p),some (.ref a),some (.ref st),o3,o4,o5])(_:H2 p=some (.ins C dx (lj dn dv)))(_:H2 dn=some (.dN ((none,.ref st)::nks)))(_:H2 dv=some (.dK vk))(_:vk.map (·.1)=ks)(_:vo H2 vk es λx=>(Sum.inr x:io)∈ks.take j)
structure LF (C:eQ)(Hd:Hp)(es:eW En)(p a st dx dn dv:eQ)(nks:eW (hJ×V))(ks:eW io)(j:Nat)(σ:Lake.St)(H2:Hp):Prop where
 ex:Kz C Hd es p a st dx dn dv nks ks j σ H2
 sm:fH Hd H2
section
variable {w:fe}{base:fb}{f:eQ}
def z7:fL ["self","shelf","start","part","version","needs"] ["self","shelf","start"] (fE Ai):=jD
theorem Dl {CT:eQ}(F:je K "__init__" "Board.__init__" Ai f fd)(T:TB K mg C)(mT:mg "TwiceThere" = some (.ref CT))(xC:W.excIn K CT [.type "ValueError",.type "Exception",.type "BaseException",.type "object"] "ValueError.__new__" = true):gv P w K mg base (nG P w) 1 f fd ["self","shelf","start"] (vm C CT):=by
 refine F.okX z7 λds A da s H vs Q E hr h=>?_;obtain⟨p,G,a,st,Z,rfl,hp,dc,cp,hl,q1,q2⟩:=h;have hu:=iD hr;refine⟨_,(fm (As (pv 0) (uD (pv 2)) rfl) (fm (As (pv 0) jb rfl) (fm (ie (jQ rfl rfl) rfl (gL (pv 1)) (mX rfl (iC (fQ (i:=3) z7.nd) (iC (fQ (i:=4) z7.nd) (iC (fQ (i:=5) z7.nd) lC)))) (fm (gK (jO (C9 hu (ig (fi (pv 3) (fi (pv 4) fq))) (kA (pv 0) rfl))) (fz (qj rfl rfl mT xC eA (fi (Ej (pv 3) (by decide +kernel) (by decide +kernel)) fq))) gi) (fm (lX hu (kA (pv 0) rfl) (ig (fi (pv 3) (fi (pv 4) fq))) (pv 5) rfl) (fz (gq (jM aR bn bj iy (AE (kA (pv 0) rfl) (pv 3) (gE fq) ⟨rfl,rfl,rfl,rfl⟩) (fi (pv 4) fq))))))) (fz (ie (jQ rfl rfl) rfl (gL (iS (wF rfl) rfl T.list eN (fi (kA (pv 0) rfl) fq))) (fQ (i:=3) z7.nd) (fz (jW hu (kA (pv 0) rfl) (pv 3) (Az rfl T.sorted (iP hu (kA (pv 0) rfl) (pv 3))) rfl))))))),?_⟩;have cy:=i6.apart hp dc;generalize b2:del H [p]=Hd at *;have sd:fH Hd H:=b2▸gy H [p];have b3:Hd p=none:=by rw[<-b2];exact gR (by simp)
 obtain⟨xs,hx,bq⟩:=cy;have lx:xs.length=Z.length:=Paired.length bq;refine λq a6=>⟨_,rfl,fj,?_⟩;have U:p≠q:=fC hp a6;refine⟨_,rfl,p,C,G,_,rfl,by rw[fw U,fw U];exact hp,T.cl,T.nN,(by show 0<1000;decide),?_⟩;rw[jT];generalize a8:upd (upd H q (.dN [(none,.ref st)])) p (.ins C G (ij "needs" (.ref q) []))=H1;have a5:H1 p=some (.ins C G (ij "needs" (.ref q) [])):=by rw[<-a8];exact fj
 have bx:H1 q=some (.dN [(none,.ref st)]):=by rw[<-a8,fw (Ne.symm U)];exact fj
 have s1:fH Hd H1:=by rw[<-a8];exact fH.upd (fH.upd sd (sd.free a6)) b3
 refine λm S=>⟨_,rfl,p,C,G,_,rfl,by rw[fw (fC a5 S)];exact a5,T.cl,T.nV,(by show 1<1000;decide),?_⟩;generalize as:upd (upd H1 m (.dK [])) p (.ins C G (ij "versions" (.ref m) (ij "needs" (.ref q) [])))=H2;have cv:H2 p=some (.ins C G (lj q m)):=by rw[<-as];exact fj
 have b8:H2 q=some (.dN [(none,.ref st)]):=by rw[<-as,fw (Ne.symm U),fw (fC bx S)];exact bx
 have cd:H2 m=some (.dK []):=by rw[<-as,fw (Ne.symm (fC a5 S))];exact fj
 have s2:fH Hd H2:=by rw[<-as];exact fH.upd (fH.upd s1 (s1.free S)) b3
 refine⟨_,rfl,a,rfl,⟨xs,gf.of (s2 _ _ hx)⟩,iE (K:=K) (a:=a) (xs:=xs) (λi σ H2=>LG C Hd Z p a st G q m i σ H2) ⟨⟨[],[],none,none,none,rfl,cv,b8,.nil,cd,⟨λx=>.inl ⟨rfl,rfl⟩,λx y l z=>(nomatch z),λkv z=>(nomatch z),am _⟩⟩,s2,bF⟩ (λi σ H2 _ I=>gf.of (I.sm _ _ hx)) ?_ ?_⟩;rintro i x σ H3 hi ⟨⟨B,D,o3,o4,o5,rfl,O,X,M,ab,R⟩,s3,al⟩;obtain⟨e,he,q0,na,zs,rfl,e1,e2,e3⟩:=Paired.Ml bq hi;have g1:=s3 _ _ e1;have du:i<Z.length:=(aj.mp he).1;have ht:Z.take (i+1)=Z.take i++[e]:=by rw[aZ,he];rfl
 have c2:(Z.map fN)[i]?=some (fN e):=by rw[ai,he];rfl
 have b7:=qx al c2;have lk:B.length=i:=by rw[Paired.length M,aW];lia
 have lv:=R.len;rw[aW]at lv;refine⟨q0,_,rfl,jg.of g1,rfl,_,_,rfl,_,_,rfl,_,_,rfl,rfl,?_⟩;refine⟨_,rfl,_,rfl,pO,λkt cx=>?_⟩;have s4:=fB cx (.tup [.str e.1,.int e.2.1]);refine⟨_,rfl,p,C,G,_,_,rfl,s4 _ _ O,T.cl,T.nN,gT _ _,q,_,rfl,iO.of (k:=some (jR (fN e))) (s4 _ _ X) ⟨kt,rfl,fj⟩,_,rfl,?_⟩;rw[il (by intro z;cases z)];rcases sy M (fN e) with ⟨cs,hv⟩|⟨e',cn,ch,dt,dp,hv,_⟩;rw[hv];refine gB ?_;refine⟨_,rfl,_,rfl,p,C,G,_,_,rfl,s4 _ _ O,T.cl,T.nN,gT _ _,_,rfl,_,rfl,pO,λb4 b6=>?_⟩;have s5:=s4.trans (fB b6 (.tup [.str e.1,.int e.2.1]));have c3:fW ((none,V.ref st)::B) (some (jR (fN e)))=none:=by rw[il (by intro z;cases z)];exact hv
 refine⟨q,_,rfl,ml.of (k:=some (jR (fN e))) (s5 _ _ X) ⟨b4,rfl,fj⟩ (fO (by rw[au];lia)),?_⟩;rw[iR _ c3];generalize ag:upd (upd (upd H3 kt (.tup [.str e.1,.int e.2.1])) b4 (.tup [.str e.1,.int e.2.1])) q (.dN (((none,V.ref st)::B)++[(some (jR (fN e)),.ref na)]))=L;have dd:p≠q:=U;have g:L p=some (.ins C G (lj q m)):=by rw[<-ag,fw U];exact s5 _ _ O
 have t:L q=some (.dN ((none,V.ref st)::(B++[(some (jR (fN e)),.ref na)]))):=by rw[<-ag];exact fj
 have d:L m=some (.dK D):=by rw[<-ag,fw (gF ab X (by intro z;cases z))];exact s5 _ _ ab
 have bv:Hd q=none:=by cases z:Hd q with|none=>rfl|some o=>have:=s2 _ _ z;rw[b8]at this;cases this;have:=sd _ _ z;rw[a6]at this;cases this
 have Y:fH Hd L:=by rw[<-ag];exact fH.upd (s3.trans s5) bv
 have b0:∀b ys,H3 b=some (.lst ys)->L b=some (.lst ys):=λb ys z=>by rw[<-ag,fw (gF z X (by intro y;cases y))];exact s5 _ _ z
 have R5:kF Hd L D (Z.take i):=R.dict b0;have a1:ff (nW Hd) (B++[(some (jR (fN e)),V.ref na)]) (Z.take (i+1)):=by rw[ht];exact Paired.snoc M ⟨rfl,na,zs,rfl,e2,e3⟩
 have b9:¬fN e∈(Z.map fN).take i:=by rw[<-cN];exact cs
 have a2:=b7.mpr b9;refine⟨_,rfl,p,C,G,_,_,rfl,g,T.cl,T.nV,kE _ _,m,rfl,.inl ⟨_,.inl d⟩,_,rfl,oM,λl0 J=>?_⟩;have N:=fB J (.lst []);refine⟨D,Sum.inr e.1,N _ _ d,rfl,fO (by lia),λv an=>?_,λan=>?_⟩;obtain⟨l,rfl⟩:∃l,v=.ref l:=by rcases R.at_ e.1 with ⟨z,_⟩|⟨l,z,_⟩;rw[an]at z;cases z;rw[an]at z;cases z;exact⟨l,rfl⟩
 obtain⟨cz,ad,R8⟩:=(R5.same N).more an;refine⟨.inl ⟨rfl,_,gf.of ad⟩,_,rfl,l,_,_,rfl,rfl,ad,?_,?_⟩;rw[ae];have:=kQ (Z.take i) e.1;rw[aW]at this;exact fO (by lia);have be:p≠l:=gF (N _ _ g) ad (by intro z;cases z);have a7:q≠l:=gF (N _ _ t) ad (by intro z;cases z);have a0:m≠l:=gF (N _ _ d) ad (by intro z;cases z);refine⟨⟨_,D,_,_,_,rfl,by rw[fw be];exact N _ _ g,by rw[fw a7];exact N _ _ t,a1,by rw[fw a0];exact N _ _ d,by rw[ht];exact R8⟩,fH.upd (Y.trans N) cz,a2⟩;have a0:m≠l0:=fC d J;have be:p≠l0:=fC g J;have a7:q≠l0:=fC t J;have a9:p≠m:=gF g d (by intro z;cases z);have bf:q≠m:=gF t d (by intro z;cases z);have a3:upd (upd L l0 (.lst [])) m (.dK (gz D (Sum.inr e.1) (.ref l0))) l0=some (.lst []):=by rw[fw (Ne.symm a0)];exact fj
 refine⟨.inl ⟨rfl,_,gf.of a3⟩,_,rfl,l0,_,_,rfl,rfl,a3,(by show 0<sizeLine;decide),?_⟩;have aa:Hd m=none:=by cases z:Hd m with|none=>rfl|some o=>have:=s1 _ _ z;rw[S]at this;cases this
 have R8:kF Hd (upd (upd L l0 (.lst [])) m (.dK (gz D (Sum.inr e.1) (.ref l0)))) D (Z.take i):=(R5.same N).dict λb ys z=>by rw[fw (gF z (N _ _ d) (by intro y;cases y))];exact z
 have R9:=R8.first (l:=l0) an a3 (Y.free J) (λx z=>by
  rcases R5.at_ x with ⟨y,_⟩|⟨l',y,_,y2⟩;rw[z]at y;cases y
  rw[z]at y;cases y;rw[J]at y2;cases y2)
 refine⟨⟨_,_,_,_,_,rfl,by rw[fw be,fw a9];exact N _ _ g,by rw[fw a7,fw bf];exact N _ _ t,a1,by rw[fw a0];exact fj,by rw[ht];exact R9⟩,fH.upd (fH.upd (Y.trans N) aa) (Y.free J),a2⟩;rw[hv];refine ip ?_;refine⟨_,rfl,_,rfl,(cp e (ak he)).pt.sh,D8,λdl=>?_⟩;refine q2 (λz=>?_) _ (s3.trans s4);refine b7.mp (mO (i+1) z) ?_;rw[<-cN,<-ch];exact br cn;rintro σ H3 ⟨⟨B,D,o3,o4,o5,rfl,O,X,M,ab,R⟩,s3,al⟩;rw[lx]at M al R;rw[aN]at M R;rw[cK (by rw[ae];exact am _)]at al;have lv:=R.len;refine⟨_,rfl,p,C,G,_,_,rfl,O,T.cl,T.nV,kE _ _,m,D,rfl,ab,λla c6=>?_⟩;have s4:=fB c6 (.lst (D.map λkv=>kV kv.1));have aa:Hd m=none:=by cases z:Hd m with|none=>rfl|some o=>have:=s1 _ _ z;rw[S]at this;cases this
 refine⟨la,rfl,⟨_,gf.of fj⟩,iE (K:=K) (a:=la) (xs:=D.map λkv=>kV kv.1) (λj σ L=>LF C Hd Z p a st G q m B (D.map (·.1)) j σ L/\L la=some (.lst (D.map λkv=>kV kv.1))) ⟨⟨⟨D,_,_,_,rfl,s4 _ _ O,s4 _ _ X,s4 _ _ ab,rfl,λx=>?_⟩,s3.trans s4⟩,fj⟩ (λj σ L _ I=>gf.of I.2) ?_ ?_⟩;rcases R.at_ x with z|⟨l,h1,_,h2⟩;exact .inl z;exact .inr ⟨l,_,h1,s4 _ _ h2,List.Perm.refl _,λz=>by simp at z⟩;rintro j x σ L hj ⟨⟨⟨ap,c8,c7,c4,rfl,g,t,d,ah,V5⟩,s5⟩,a4⟩;rw[ai]at hj;obtain⟨kv,b1,rfl⟩:=aF.mp hj;obtain⟨y,hy⟩:=R.keys kv (ak b1);have bm:(D.map (·.1))[j]?=some (Sum.inr y):=by rw[ai,b1];exact congrArg some hy
 have c9:(D.map (·.1)).take (j+1)=(D.map (·.1)).take j++[Sum.inr y]:=by rw[aZ,bm];rfl
 have bd:(fW ap (Sum.inr y:io)).isSome=true:=by
  rw[<-jr,ee];have:(Sum.inr y:io)∈ap.map (·.1):=by rw[ah];exact ak bm
  obtain⟨c5,h1,h2⟩:=aA.mp this;exact⟨c5,h1,aq h2⟩
 rcases V5 y with ⟨z,_⟩|⟨l,ms,h1,h2,h3,_⟩;rw[z]at bd;cases bd;have lm:ms.length<64:=by rw[h3.length_eq];exact bX (kQ _ _) hl
 rw[hy];refine⟨_,rfl,p,C,G,_,_,rfl,g,T.cl,T.nV,kE _ _,_,rfl,m,_,rfl,jS.k (k:=Sum.inr y) d |> (h1▸·),l,ms,rfl,gf.of h2,lm,λl2 bl b5 co c1=>?_⟩;have Y:=fB b5 (.lst (List.map V.int bl));refine⟨_,rfl,p,C,G,_,_,rfl,Y _ _ g,T.cl,T.nV,kE _ _,_,rfl,m,_,rfl,nF.k (k:=Sum.inr y) (Y _ _ d) (fO ?_),?_⟩;have:=congrArg List.length ah;rw[ae,ae]at this;lia;have a9:p≠m:=gF g d (by intro z;cases z);have bf:q≠m:=gF t d (by intro z;cases z);have c0:la≠m:=gF a4 d (by intro z;cases z);refine⟨⟨⟨_,_,_,_,rfl,by rw[fw a9];exact Y _ _ g,by rw[fw bf];exact Y _ _ t,fj,by rw[nM bd];exact ah,λx=>?_⟩,fH.upd (s5.trans Y) aa⟩,by rw[fw c0];exact Y _ _ a4⟩;rw[ii];by_cases hxy:x=y;subst hxy;refine .inr ⟨l2,bl,by rw[ay rfl],?_,co.trans h3,λ_=>c1⟩;rw[fw (Ne.symm (fC d b5))];exact fj;rw[ax (λz=>hxy (Sum.inr.inj z))];rcases V5 x with z|⟨l',ct,g1,g2,g3,g4⟩;exact .inl z;refine .inr ⟨l',ct,g1,?_,g3,λz=>g4 ?_⟩;rw[fw (gF g2 d (by intro z;cases z))];exact Y _ _ g2;rw[c9]at z;rcases aE.mp z with z|z;exact z;exact absurd (Sum.inr.inj (af.mp z)) hxy;rintro σ L ⟨⟨⟨ap,c8,c7,c4,rfl,g,t,d,ah,V5⟩,s5⟩,a4⟩;refine q1 al L s5 ⟨G,q,m,B,ap,g,.inl t,Paired.LJ M λ_ _=>nW.same s5,.inl d,λx=>?_⟩;rcases V5 x with z|⟨l,ms,g1,g2,g3,g4⟩;exact .inl z;refine .inr ⟨l,ms,g1,g2,g3,λ_=>g4 ?_⟩;rw[cK (by rw[ae,ae];exact am _),<-ah];exact jw g1
end
def HV:(["version","part","need"]:eW Str).Nodup:=by decide +kernel
section
variable {w:fe}{base:fb}{f:eQ}
def Hy:fL ["self","need","part"] ["self","need"] (fE p9):=jD
inductive LI (P:eV)(w:fe)(K:fh)(mg:Str->fc eR)(base:fb)(CX:ul)(k:Nat)(x:Str)(ps:eW Str)(sp:Sp):Prop
 |mk (g gd:_)(_:gv P w K mg base CX k g gd ps sp)(_:jf K gd ps [])(_:W.keepIn K (.ref g)=true)(_:mg x=some (.ref g))
structure Gd (P:eV)(w:fe)(K:fh)(mg:Str->fc eR)(base:fb)(CX:ul)(k:Nat)(x:Str)(ps:eW Str)(sp:Sp):Prop where
 ex:LI P w K mg base CX k x ps sp
def iM {X:Cx}{k:Nat}{ps:eW Str}{sp:Sp}{p pos:Pos}{e:eY}{es:eW eY}{t:TA}(G:Gd X.prog X.w X.K X.mg X.base gM k x ps sp)(d:iF k X.A)(a:PA X (e::es) t)(hg:autoParam (Gl X x) gq._auto_1)(hdb:autoParam ((x == ("__debug__":Str))=false) Ay._auto_1)(he:autoParam (starEach (e::es) X.env=(false,eval e X.env)::starEach es X.env) gq._auto_1)(hpl:autoParam ((backTo pos (starEach es X.env)).any (·.1)=false) gq._auto_1):PE X (.Call (.Name x p) (e::es) [] pos) (zO sp [] E0 t):=by obtain⟨_,_,F,b,k,m⟩:=G.ex;exact pz F d hg m k b .nil gJ a hdb he hpl
theorem vZ (F:je K "meeting" "Board.meeting" p9 f fd)(T:TB K mg C)(G:Gd P w K mg base gM 1 "clashes" ["need","pick"] mi):gv P w K mg base gM 2 f fd ["self","need"] (mh C):=by
 refine F.ok Hy λad A aa s H vs Q E hr h=>?_;obtain⟨p,st,es,v,n,rfl,⟨dx,dn,dv,ag,vk,hp,hn,hk,Y,hV⟩,⟨O,rfl,M⟩,hl,q⟩:=h;have hu:=iD hr;refine⟨_,(fm (fJ (i:=2) Hy.nd (fZ gs (pv 1) fD)) (fz (gc (iG (N':=["version","part","need"]) (n:=1) (js:=[2,1]) rfl (iT.two (c:=s.heap.objs.size+2) (c':=s.heap.objs.size+1) (y:="part") (y':="need")) (iz (by decide)) (gL (kZ hu (kA (pv 0) rfl) (pv 2) (gE fq) ⟨rfl,rfl,rfl,rfl⟩)) (λC s2 b fp=>fQ (i:=0) HV) (λC s2 b fp=>lu (tG (qi (iM G hr (fi (pv 2) (fi (ig (fi (pv 1) (fi (pv 0) fq))) fq)))))) (λC s2 b fp=>pv 0))))),?_⟩;refine⟨_,rfl,O,_,_,_,rfl,rfl,jg.of M,rfl,?_⟩;refine⟨_,rfl,p,C,dx,_,_,rfl,hp,T.cl,T.nV,kE _ _,dv,rfl,.inl ⟨_,Y⟩,_,rfl,oM,λo S=>?_⟩;have g:=fB S (.lst []);have d:∀(l:eQ) (a:eW Int),upd H o (.lst []) l=some (.lst (a.map V.int))->a.Perm (iU es n.1)->a.Pairwise (· ≥ ·)->o0 (Ey K l) (jl 0)
   (GZ (tB (zO mi [] E0 (rE (lK 2) (rE (GT (rE (lK 1) (rE (lK 0) yg))) yg))))) (lK 0) (frees 1 [2,1] [some (.ref p),some (.ref O),some (.str n.1)]) (upd H o (.lst [])) Q:=by
  intro l a Z B U;have lm:a.length<64:=by rw[B.length_eq];exact bX (kQ _ _) hl
  refine iK (xs:=a.map V.int) (λD i N b=>N=((a.take i).filter (nH n)).map V.int/\b D=some (.lst N)/\fH (upd H o (.lst [])) b/\upd H o (.lst []) D=none) (λD hD=>⟨by simp,fj,fB hD _,hD⟩)
   (λD i N b X ⟨j,e,m,_⟩=>⟨gf.of (m _ _ Z),e,?_⟩) (λD i x N b X ⟨j,e,m,L⟩=>?_) (λD N b ⟨j,e,m,L⟩=>?_)
  rw[j,ae];have:=bK (nH n) (a.take i);rw[aW]at this;exact fO (by lia);rw[ai]at X;obtain⟨z,hz,rfl⟩:=aF.mp X;have ht:a.take (i+1)=a.take i++[z]:=by rw[aZ,hz];rfl
  have R:(a.take (i+1)).filter (nH n)=(a.take i).filter (nH n)++(if nH n z=true then [z] else []):=by rw[ht,cw,aI];rfl
  unfold jl;refine⟨_,rfl,_,rfl,_,rfl,pO,λt I=>?_⟩;have J:=fB I (.tup [.str n.1,.int z]);refine⟨.ref O,.ref t,n,(n.1,z),rfl,⟨O,rfl,J _ _ (m _ _ (g _ _ M))⟩,⟨t,rfl,fj⟩,_,rfl,?_⟩;have ab:oF n (n.1,z)=!(nH n z):=by unfold oF;simp
  rw[ab];dsimp only;rw[Bool.not_not];have nD:D≠t:=fC e I;by_cases hb:nH n z=true;rw[ay hb]at R;rw[ay hb];refine⟨_,rfl,J _ _ e,?_,fj,fH.upd (m.trans J) L,L⟩;rw[R,j,aC];rfl;rw[ax hb,bZ]at R;rw[ax hb];exact⟨by rw[R];exact j,J _ _ e,m.trans J,L⟩;rw[ae,aN]at j;subst j;exact q D _ b (g.trans m) (g.free L) e (Ax B) (U.filter _)
 rcases hV n.1 with ⟨z1,z2⟩|⟨l,a,Z,B,U,h4⟩;refine⟨none,.inl ⟨_,Sum.inr n.1,i4 g Y,rfl,z1.symm⟩,o,rfl,⟨_,gf.of fj⟩,d o [] fj (by rw[z2]) .nil⟩;refine⟨some (.ref l),.inl ⟨_,Sum.inr n.1,i4 g Y,rfl,Z.symm⟩,l,rfl,⟨_,gf.of (g _ _ B)⟩,d l a (g _ _ B) U (h4 trivial)⟩
end
inductive wN (vs:eW V)(H:Hp)(Q:VK)(E:XK):Prop
 |mk (c:fA)(m:Nat)(_:vs=[.int (m:Int)])(_:m<2^c.n)(_:Q (.int ((c.listed m).length:Nat)) H)
inductive lH (CC:eQ)(vs:eW V)(H:Hp)(Q:VK)(E:XK):Prop
 |mk (G:Hp)(p dx by_:eQ)(fs:eW (Str×V))(c:fA)(m:Nat)(_:vs=[.ref p,.int (m:Int)])(_:fF G H)(_:H p=some (.ins CC dx fs))(_:fs.lookup ("by_bit":Str)=some (V.ref by_))(_:pj G by_ c)(_:c.n<64)(_:m<2^c.n)(_:∀l xs H',fH H H'->H l=none->H' l=some (.lst xs)->ff (fX G) xs (c.listed m)->(∀b,b≠l->H' b=H b)->Q (.ref l) H')
def HP:((m:Int) != 0)=true↔m≠0:=by rw[bne_iff_ne];omega
def qH:((m:Int) != 0)=!decide (m=0):=by by_cases h:m=0;subst h;rfl;rw[aw h,HP.mpr h];rfl
def oV (c:fA):c.listed 0=[]:=(fA.MF (bS _)).mpr rfl
def wt (c:fA)(m:Nat):(c.listed m).length<=c.n:=bK _ _
section
variable {w:fe}{base:fb}{f:eQ}
def xg:fL ["mask","count"] ["mask"] (fE vM):=jD
def A1 (F:je K "count_picks" "count_picks" vM f fd):gv P w K mg base gM 1 f fd ["mask"] wN:=by
 refine F.ok xg λj A b s H y Q E p h=>?_;obtain⟨c,m,rfl,o,q⟩:=h;refine⟨_,(fm (fJ (i:=1) xg.nd fD) (fm (kz PassesOwn.never (i9 (pv 0) (λ_=>rfl)) (fm (lB (i:=0) xg.nd (fU AO (pv 0) fD) FR) (fz (lB (i:=1) xg.nd fD Bt)))) (fz (gc (pv 1))))),?_⟩;refine⟨λk σ g=>∃(n t:Nat),σ=[some (.int (n:Int)),some (.int (t:Int))]/\g=H/\k=n/\n<2^c.n/\t+(c.listed n).length=(c.listed m).length,⟨m,m,0,rfl,rfl,rfl,o,by omega⟩,?_⟩;rintro k σ g ⟨n,t,rfl,rfl,rfl,d,a⟩;refine⟨_,rfl,_,rfl,?_⟩;rw[qH];by_cases h0:k=0;subst h0;rw[oV]at a;refine gB ⟨_,rfl,?_⟩;rw[show(c.listed m).length=t by simpa using a.symm]at q;exact q;rw[aw h0];refine ip ⟨λσ' z=>∃m',m'<k/\_,λ_ _ h=>h,?_⟩;obtain⟨i,r,rfl⟩:=wq k h0;obtain⟨x,v,_,l⟩:=nr d;have e:((2^i*(2*r+1):Nat):Int)-1=((2^i*(2*r+1)-1:Nat):Int):=by omega
 refine⟨_,rfl,_,rfl,_,_,rfl,rfl,_,_,rfl,rfl,?_⟩;rw[e,oG,tT];refine⟨_,rfl,_,_,rfl,rfl,2^(i+1)*r,?_,2^(i+1)*r,t+1,rfl,rfl,rfl,Bj d,?_⟩;have:=pF i r;have:=bS i;omega;rw[l,au]at a;omega
def CO:fL ["self","mask","picks","bit"] ["self","mask"] (fE sS):=jD
def yD (F:je K "listed" "Chart.listed" sS f fd)(T:TC K mg CC):gv P w K mg base gM 1 f fd ["self","mask"] (lH CC):=by
 refine F.ok CO λad A N s H vs Q E hr h=>?_;obtain⟨G,p,dx,O,fs,c,m,rfl,gh,hp,hf,⟨C,L,hB⟩,ag,hm,q⟩:=h;have hk:=gh.rd L;have hu:=iD hr;refine⟨_,(fm (fJ (i:=2) CO.nd (gE fq)) (fm (kz PassesOwn.never (i9 (pv 1) (λ_=>rfl)) (fm (fJ (i:=3) CO.nd (fU iV (pv 1) (jL kS (pv 1)))) (fm (gq (jM aR bn bj iy (pv 2) (fi (iP hu (fK T.cl T.nBy (pv 0)) (pv 3)) fq))) (fz (lB (i:=1) CO.nd (pv 3) FQ))))) (fz (gc (pv 2))))),?_⟩;refine⟨oM,λl R=>?_⟩;have aa:p≠l:=fC hp R;refine⟨λk σ t=>∃(n:Nat) (g:eW V) (j:eW Pk) (Y:fc V),σ=[some (.ref p),some (.int (n:Int)),some (.ref l),Y]/\t l=some (.lst g)/\(∀b,b≠l->t b=H b)/\k=n/\n<2^c.n/\ff (fX G) g j/\j++c.listed n=c.listed m,⟨m,m,[],[],none,rfl,fj,λb y=>fw y,rfl,hm,.nil,rfl⟩,?_⟩;rintro k σ t ⟨n,g,j,Y,rfl,d,D,rfl,Z,S,a⟩;have I:fH H t:=λb o e=>by rw[D b (λz=>by rw[z,R]at e;cases e)];exact e
 refine⟨_,rfl,_,rfl,?_⟩;rw[qH];by_cases h0:k=0;subst h0;rw[oV,bZ]at a;refine gB ⟨_,rfl,?_⟩;exact q l g t I R d (a▸S) D;rw[aw h0];refine ip ⟨λσ' H'=>∃m',m'<k/\_,λ_ _ h=>h,?_⟩;obtain⟨i,r,rfl⟩:=wq k h0;obtain⟨x,U,B,X⟩:=nr Z;obtain⟨v,hv,M⟩:=hB x (ak U);have J:(c.bit x:Int)=((2^i:Nat):Int):=by unfold fA.bit;rw[B]
 rw[J]at hv;have lx:=Paired.length S;have ab:j.length<64:=by have:=congrArg List.length a;rw[aB]at this;have:=wt c m;omega
 refine⟨_,rfl,_,rfl,_,rfl,_,_,rfl,rfl,?_⟩;dsimp only;rw[Dv];refine⟨_,rfl,.inl ⟨rfl,_,gf.of d⟩,_,rfl,p,dx,fs,_,rfl,I _ _ hp,hf,_,rfl,O,v,rfl,.inl ⟨C,Sum.inl ((2^i:Nat):Int),i4 I hk,rfl,hv.symm⟩,l,g,v,rfl,rfl,d,fO (by omega),?_⟩;have e:((2^i*(2*r+1):Nat):Int)-((2^i:Nat):Int)=((2^(i+1)*r:Nat):Int):=by have:=pF i r;have:2^i<=2^i*(2*r+1):=Nat.le_mul_of_pos_right _ (by omega);omega
 refine⟨_,rfl,_,rfl,_,_,rfl,rfl,?_⟩;dsimp only;rw[e];refine⟨2^(i+1)*r,?_,2^(i+1)*r,g++[v],j++[x],_,rfl,fj,λb y=>by rw[fw y];exact D b y,rfl,Bj Z,Paired.snoc S M,?_⟩;have:=pF i r;have:=bS i;omega;rw[<-a,X,ce];rfl
end
noncomputable abbrev zB (b bits by_ ofp:eQ):eW (Str×V):=[("board",.ref b),("bits",.ref bits),("by_bit",.ref by_),("of_part",.ref ofp)]
inductive Eu (CB CC:eQ)(vs:eW V)(H:Hp)(Q:VK)(E:XK):Prop
 |mk (p dx b bits by_ ofp st:eQ)(es:eW En)(sn:eW Nd)(_:vs=[.ref p])(_:H p=some (.ins CC dx (zB b bits by_ ofp)))(_:ia CB H b st es)(_:(es.map fN).Nodup)(_:es.length<64)(_:H bits=some (.dN [(none,.int 0)]))(_:H by_=some (.dK []))(_:H ofp=some (.dK []))(_:by_≠ofp)(_:∀(c:fA) H',c.es=es->c.sn=sn->fF (del H [bits,by_,ofp]) H'->iZ H' bits c c.Mo->pj H' by_ c->mI H' ofp c->Q .non H')
def fA.upM (c:fA)(i:Nat)(x:Str):Nat:=c.maskOf λk=>decide (k.1=x)&&decide (c.ix k<i)
def fA.NJ (c:fA)(x:Str):c.upM 0 x=0:=fA.MD (c.MQ _) λk h=>by
 have:=(fA.MJ.mp h).2;simp at this
def fA.NK (c:fA)(x:Str):c.upM c.n x=c.Np x:=fA.ext (c.MQ _) (c.MQ _) λk=>by
 rw[fA.Nu];unfold fA.upM;rw[fA.MJ,aQ,aG,aG];exact⟨λh=>⟨h.1,h.2.1⟩,λh=>⟨h.1,h.2,c.Mp h.1⟩⟩
theorem fA.NL {c:fA}{k:Pk}(l:c.ks[i]?=some k)(x:Str):c.upM (i+1) x=if k.1=x then c.upM i x ||| c.bit k else c.upM i x:=by
 have b:=ak l;have o:=c.Ms l;have key:∀j,j∈c.ks->(c.ix j<i+1↔c.ix j<i\/j=k):=λj m=>by constructor;intro h;by_cases e:c.ix j=i;exact .inr (c.Mr m b (e.trans o.symm));exact .inl (by lia);rintro(h|rfl);lia;lia
 by_cases e:k.1=x;rw[ay e];refine fA.ext (c.MQ _) (j4 (c.MQ _) (c.MC b)) λj=>?_;rw[fA.Mv,fA.My b];unfold fA.upM;simp only[fA.MJ,aQ,aG];constructor;rintro⟨d,a,g⟩;rcases (key j d).mp g with z|z;exact .inl ⟨d,a,z⟩;exact .inr z;rintro(⟨d,a,g⟩|rfl);exact⟨d,a,by lia⟩;exact⟨b,e,by lia⟩;rw[ax e];refine fA.ext (c.MQ _) (c.MQ _) λj=>?_;unfold fA.upM;simp only[fA.MJ,aQ,aG];constructor;rintro⟨d,a,g⟩;rcases (key j d).mp g with z|z;exact⟨d,a,z⟩;rw[z]at a;exact absurd a e;rintro⟨d,a,g⟩;exact⟨d,a,by lia⟩
theorem C3 (h:((2^i:Nat):Int)=((2^j:Nat):Int)):i=j:=by rcases Nat.lt_trichotomy i j with z|z|z;have:=Nat.pow_lt_pow_right (a:=2) (by decide) z;lia;exact z;have:=Nat.pow_lt_pow_right (a:=2) (by decide) z;lia
def nd1:(["pick"]:eW Str).Nodup:=by decide +kernel
section
variable {w:fe}{base:fb}{f:eQ}
def CQ:fL ["self","bit","pick"] ["self"] (fE Ak):=jD
inductive KD (c:fA)(H1:Hp)(p bits by_ ofp:eQ)(i:Nat)(σ:Lake.St)(H2:Hp):Prop
 |mk (kb ky ko o2:_)(_:σ=[some (.ref p),some (.int ((2^i:Nat):Int)),o2])(_:H2 bits=some (.dN kb))(_:H2 by_=some (.dK ky))(_:H2 ofp=some (.dK ko))(_:kb.length<=i+1)(_:ky.length<=i)(_:ko.length<=i)(_:fW kb none=some (.int 0))(_:∀(j:Nat) (k:Pk),j<i->c.ks[j]?=some k->fW kb (some (jR k))=some (.int (c.bit k))/\∃v,fW ky (Sum.inl (c.bit k:Int))=some v/\fX H1 v k)(_:∀x:Str,(fW ko (Sum.inr x)).getD (.int 0)=.int (c.upM i x)/\((∃(j:Nat) (k:Pk),j<i/\c.ks[j]?=some k/\k.1=x)->fW ko (Sum.inr x)=some (.int (c.upM i x))))
structure LH (c:fA)(H1:Hp)(p bits by_ ofp:eQ)(i:Nat)(σ:Lake.St)(H2:Hp):Prop where
 ex:KD c H1 p bits by_ ofp i σ H2
 sm:fH (del H1 [bits,by_,ofp]) H2
theorem Dn (F:je K "give_bits" "Chart.give_bits" Ak f fd)(T:TC K mg CC)(bf:TB K mg CB):gv P w K mg base gM 1 f fd ["self"] (Eu CB CC):=by
 refine F.ok CQ λdp A c9 s H vs Q E hr h=>?_;obtain⟨p,dx,b,bits,d,l,st,es,sn,rfl,hp,hB,b9,c4,a0,a3,a5,a8,q⟩:=h;have hu:=iD hr;refine⟨_,(fm (fJ (i:=1) CQ.nd fD) (fz (ie PassesOwn.never rfl (gL (gN ua rfl T.sorted boot_sorted (fi (iG (N':=["pick"]) (n:=1) (js:=[]) rfl (iT.closed) (iz (by decide)) (tH (fK bf.cl bf.nN (fK T.cl T.nBoard (pv 0)))) (λC s2 R fp=>fQ (i:=0) nd1) (λC s2 R fp=>lu (jO (tK (pv 0)))) (λC s2 R fp=>pv 0)) fq))) (fQ (i:=2) CQ.nd) (fm (lX hu (fK T.cl T.nBits (pv 0)) (pv 2) (pv 1) rfl) (fm (jW hu (fK T.cl T.nBy (pv 0)) (pv 1) (pv 2) rfl) (fm (jW hu (fK T.cl T.nOf (pv 0)) (fZ gs (pv 2) fD) (fU rP (kZ hu (fK T.cl T.nOf (pv 0)) (fZ gs (pv 2) fD) fD ⟨rfl,rfl,rfl,rfl⟩) (pv 1)) rfl) (fz (lB (i:=1) CQ.nd (pv 1) Bt)))))))),?_⟩;obtain⟨bx,dn,dv,be,vk,b1,b2,b3,b4,b5⟩:=id hB.ex;have ln:=Paired.length b3;refine⟨_,rfl,p,dx,_,_,rfl,hp,rfl,b,bx,_,_,rfl,b1,gT _ _,dn,_,rfl,b2,λo H1 sf bl a4=>?_⟩;refine xL (n:=be.length+1) (λD i ys H3=>H3=upd H1 D (.lst ys)/\H1 D=none/\ff (vq H1) ys ((es.take (i-1)).map fN)) (λD hD=>⟨rfl,hD,.nil⟩) (λD i ys H3 hi ⟨e1,e2,e3⟩=>?_) (λD i x ys H3 H4 hi hy ⟨e1,e2,e3⟩=>?_) (λD ys H3 ⟨e1,e2,e3⟩=>?_);subst e1;have Cq:dn≠D:=fC a4 e2;refine⟨λcv=>⟨cv,by rw[fw Cq];exact a4⟩,λc6=>⟨by rw[c6];exact am _,by rw[fw Cq];exact a4⟩,fj,?_⟩;have:=Paired.length e3;rw[ae,aW]at this;exact fO (by lia);obtain⟨rfl,kv,I,kx⟩:=hy;subst e1;unfold jl
 match i,I,hi,e3 with
 |0,I,hi,e3=>
  have ct:kv=(none,.ref st):=by simpa using I.symm
  subst ct;cases (show x=.non from kx);exact⟨_,rfl,_,rfl,gB ⟨rfl,e2,e3⟩⟩
 |i+1,I,hi,e3=>
  have m:be[i]?=some kv:=by simpa using I
  obtain⟨e,cz,cd,_⟩:=Paired.Ml b3 m;rw[cd]at kx;obtain⟨bq,rfl,an⟩:=kx;have nb:bq≠D:=λz=>by rw[z,fj]at an;cases an
  rw[fw nb]at an;refine⟨_,rfl,_,rfl,ip ⟨_,rfl,fj,by rw[jT],e2,?_⟩⟩;have ht:es.take (i+1+1-1)=es.take i++[e]:=by rw[eF,aZ,cz];rfl
  rw[ht,aC];exact Paired.snoc e3 ⟨bq,rfl,an⟩
 subst e1;rw[eF,ln,aN]at e3;have sD:=fB e2 (.lst ys);have da:ff (vq (upd H1 D (.lst ys))) ys (es.map fN):=Paired.LJ e3 λ_ _ ⟨z,z1,z2⟩=>⟨z,z1,sD _ _ z2⟩;refine⟨D,ys,es.map fN,rfl,gf.of fj,da,b9,by rw[ae];exact c4,λL t ds hL S bd c5=>?_⟩;have sL:=fB hL (.lst t);obtain⟨c,c1,c2,c3⟩:=F7 sn b9 bd c5;have cn:c.n=t.length:=by unfold fA.n;rw[c3];exact(Paired.length S).symm
 have ap:fF H (upd (upd H1 D (.lst ys)) L (.lst t)):=sf.trans (sD.trans sL).toF;generalize hH:upd (upd H1 D (.lst ys)) L (.lst t)=H4 at *;have b0:H4 L=some (.lst t):=by rw[<-hH];exact fj
 have cp:ff (fX H4) t c.ks:=by rw[c3];exact Paired.LJ S λ_ _ ⟨z,z1,z2⟩=>⟨z,z1,sL _ _ z2⟩
 refine⟨L,rfl,⟨_,gf.of b0⟩,?_⟩;have c8:bits≠dn:=λz=>by rw[z]at a0;rcases b2 with y|⟨o',y⟩ <;> (rw[a0]at y;cases y)
 have c7:d≠dn:=λz=>by rw[z]at a3;rcases b2 with y|⟨o',y⟩ <;> (rw[a3]at y;cases y)
 have cy:l≠dn:=λz=>by rw[z]at a5;rcases b2 with y|⟨o',y⟩ <;> (rw[a5]at y;cases y)
 have a1:∀{a u},a≠dn->H a=some u->H4 a=some u:=λ{a u} na e=>by
  have e1:H1 a=some u:=by rw[bl a na];exact e
  exact sL _ _ (sD _ _ e1)
 have ad:=a1 c8 a0;have a7:=a1 c7 a3;have a2:=a1 cy a5;have b7:d≠bits:=gF a7 ad (λz=>nomatch z);have bv:l≠bits:=gF a2 ad (λz=>nomatch z);have co:H4 p=some (.ins CC dx (zB b bits d l)):=ap.ins hp;have out:∀{R:Hp},fH (del H4 [bits,d,l]) R->∀{a u},H4 a=some u->(∀kvs,u≠.dN kvs)->(∀kvs,u≠.dK kvs)->R a=some u:=λ{R} sm {a u} e n1 n2=>sm _ _ (by
  rw[fG (by
   simp only[ao,aU,or_false,not_or]
   exact⟨λz=>n1 _ (by rw[z,ad]at e;exact(Option.some.inj e).symm),λz=>n2 _ (by rw[z,a7]at e;exact(Option.some.inj e).symm),λz=>n2 _ (by rw[z,a2]at e;exact(Option.some.inj e).symm)⟩)]
  exact e)
 refine iE (K:=K) (a:=L) (xs:=t) (LH c H4 p bits d l) ⟨⟨_,_,_,none,rfl,ad,a7,a2,am _,am _,am _,rfl,λj k G=>absurd G (cq _),λx=>⟨by rw[fA.NJ];rfl,λ⟨j,_,G,_⟩=>absurd G (cq _)⟩⟩,gy _ _⟩
  (λi σ R _ J=>gf.of (out J.sm b0 (λ_ z=>nomatch z) λ_ z=>nomatch z)) ?_ ?_
 rintro i x σ R hi ⟨⟨kb,ky,ko,o2,rfl,Y,ab,ah,l1,l2,l3,v0,vj,vx⟩,sm⟩;obtain⟨k,ag,I⟩:=Paired.Ml cp hi;obtain⟨kq,rfl,hq⟩:=id I;have dc:i<t.length:=(aj.mp hi).1;have c0:i<64:=by rw[Paired.length S,bd.length_eq,ae]at dc;lia
 have a6:c.bit k=2^i:=by unfold fA.bit;rw[c.Ms ag]
 have al:=out sm hq (λ_ z=>nomatch z) λ_ z=>nomatch z;have O:=out sm co (λ_ z=>nomatch z) λ_ z=>nomatch z;have a9:p≠bits:=gF O Y (λz=>nomatch z);have cs:p≠d:=gF O ab (λz=>nomatch z);have dl:p≠l:=gF O ah (λz=>nomatch z);have dd:kq≠bits:=gF al Y (λz=>nomatch z);have cx:kq≠d:=gF al ab (λz=>nomatch z);refine⟨_,rfl,_,rfl,p,dx,_,_,rfl,O,rfl,_,rfl,bits,_,rfl,ml.of (k:=some (jR k)) Y ⟨kq,rfl,al⟩ (fO (by lia)),?_⟩;refine⟨_,rfl,_,rfl,p,dx,_,_,rfl,(by rw[fw a9];exact O),rfl,_,rfl,d,_,rfl,nF.k (k:=Sum.inl ((2^i:Nat):Int)) (by rw[fw b7];exact ab) (fO (by lia)),?_⟩;generalize N:upd (upd R bits (.dN (gz kb (some (jR k)) (.int ((2^i:Nat):Int))))) d (.dK (gz ky (Sum.inl ((2^i:Nat):Int)) (.ref kq)))=H3;have as:H3 l=some (.dK ko):=by rw[<-N,fw (Ne.symm a8),fw bv];exact ah
 have b6:H3 p=some (.ins CC dx (zB b bits d l)):=by rw[<-N,fw cs,fw a9];exact O
 have bm:H3 kq=some (.tup [.str k.1,.int k.2]):=by rw[<-N,fw cx,fw dd];exact al
 refine⟨_,rfl,p,dx,_,_,rfl,b6,rfl,l,rfl,.inl ⟨_,.inl as⟩,_,rfl,kq,_,_,_,rfl,rfl,jg.of bm,rfl,_,jS.k (k:=Sum.inr k.1) as,_,rfl,_,_,(vx k.1).1,rfl,?_⟩;dsimp only;rw[xO];refine⟨_,rfl,p,dx,_,_,rfl,b6,rfl,_,rfl,kq,_,_,_,rfl,rfl,jg.of bm,rfl,l,_,rfl,nF.k (k:=Sum.inr k.1) as (fO (by lia)),?_⟩;refine⟨_,rfl,_,rfl,_,_,rfl,rfl,?_⟩;have e2:((2^i:Nat):Int)+((2^i:Nat):Int)=((2^(i+1):Nat):Int):=by rw[de];lia
 dsimp only;rw[e2];refine⟨⟨gz kb (some (jR k)) (.int ((2^i:Nat):Int)),gz ky (Sum.inl ((2^i:Nat):Int)) (.ref kq),gz ko (Sum.inr k.1) (.int ((c.upM i k.1 ||| 2^i:Nat):Int)),_,rfl,?_,?_,fj,?_,?_,?_,?_,λj k' G m=>?_,λx=>?_⟩,λb' u B=>?_⟩;rw[fw (Ne.symm bv),<-N,fw (Ne.symm b7),fj];rw[fw a8,<-N,fj];have:=hZ kb (some (jR k)) (V.int ((2^i:Nat):Int));lia;have:=hZ ky (Sum.inl ((2^i:Nat):Int)) (V.ref kq);lia;have:=hZ ko (Sum.inr k.1) (V.int ((c.upM i k.1 ||| 2^i:Nat):Int));lia;rw[ii,ax (λz=>nomatch z)];exact v0;rw[ii,ii];by_cases ej:j=i;subst ej;rw[ag]at m;cases m;rw[ay rfl,a6,ay rfl];exact⟨rfl,_,rfl,I⟩;have U:c.bit k'≠2^i:=λz=>ej (by
  unfold fA.bit at z;rw[c.Ms m]at z
  exact C3 (by rw[z]))
 have ch:¬(some (jR k')=some (jR k)):=λz=>by have:=qN (Option.some.inj z);rw[this]at U;exact U a6
 obtain⟨g1,g2⟩:=vj j k' (by lia) m;rw[ax ch,ax (λz=>U (by have:=Sum.inl.inj z;lia))];exact⟨g1,g2⟩;rw[ii,fA.NL ag x];by_cases ex:k.1=x;subst ex;rw[ay rfl,ay rfl,a6];exact⟨rfl,λ_=>rfl⟩;rw[ax (λz=>ex (Sum.inr.inj z).symm),ax ex];refine⟨(vx x).1,?_⟩;rintro⟨j,k',G,m,ek⟩;refine(vx x).2 ⟨j,k',?_,m,ek⟩;by_cases ej:j=i;subst ej;rw[ag]at m;cases m;exact absurd ek ex;lia;have aa:b'∉[bits,d,l]:=λz=>by rw[gR z]at B;cases B
 have M:=aa;simp only[ao,aU,or_false,not_or]at M;rw[fw M.2.2,<-N,fw M.2.1,fw M.1];exact sm _ _ B;rintro σ R ⟨⟨kb,ky,ko,o2,rfl,Y,ab,ah,l1,l2,l3,v0,vj,vx⟩,sm⟩;have b8:fF (del H [bits,d,l]) R:=λb' u B=>by
  have aa:b'∉[bits,d,l]:=λz=>by rw[gR z]at B;cases B
  rw[fG aa]at B;rcases ap b' u B with z|⟨g,o',z⟩;exact .inl (sm _ _ (by rw[fG aa];exact z));exact .inr ⟨g,o',sm _ _ (by rw[fG aa];exact z)⟩
 have Z:∀k∈c.ks,∃j:Nat,j<t.length/\c.ks[j]?=some k:=λk I=>by obtain⟨j,G⟩:=aD.mp I;have:=(aj.mp G).1;exact⟨j,by rw[<-cn];exact this,G⟩
 refine q c R c1 c2 b8 ⟨kb,.inl Y,λw hw=>?_⟩ ⟨ky,.inl ab,λk I=>?_⟩ ⟨ko,.inl ah,λx=>?_⟩;cases w with|none=>exact v0|some k=>obtain⟨j,G,X⟩:=Z k (hw k rfl);exact(vj j k G X).1
 obtain⟨j,G,X⟩:=Z k I;obtain⟨_,v,g1,g2⟩:=vj j k G X;obtain⟨z,z1,z2⟩:=g2;exact⟨v,g1,z,z1,out sm z2 (λ_ z=>nomatch z) λ_ z=>nomatch z⟩;rw[<-fA.NK,cn];exact⟨(vx x).1,λ⟨k,I,ek⟩=>let ⟨j,G,X⟩:=Z k I;(vx x).2 ⟨j,k,G,X,ek⟩⟩
end
def fA.en (c:fA):(c.es.map fN).Nodup:=c.pm.nodup_iff.mp c.nd
def fA.n_eq (c:fA):c.n=c.es.length:=by unfold fA.n;rw[c.pm.length_eq,ae]
def j5 {st:eQ}{c:fA}(B:ia C H p st c.es)(N:iu H st c.sn):∃dx dn dv,H p=some (.ins C dx (lj dn dv))/\∀w v,c.Who w->iI H v w->∃a,iO H dn v (some (.ref a))/\iu H a (c.needs w):=by obtain⟨dx,dn,dv,q,i,j⟩:=B.start;refine⟨dx,dn,dv,q,λw v g d=>?_⟩;cases w with|none=>cases (show v=.non from d);exact⟨st,i,N⟩|some k=>rcases j v k d with ⟨z,_⟩|⟨_,e,o,l,a,b,h,m,s⟩;exact absurd ((c.mem k).mp (g k rfl)) z;refine⟨a,h,b,m,?_⟩;show ff (gX H) b (ji c.es k);rw[<-l,lZ c.en o];exact s
theorem mY (n:Nd):∀l:eW Nd,fV (l++[n])=if n.1∈fV l then fV l else fV l++[n.1]
 |[]=>by simp[fV]
 |m::l=>by
  rw[dD,fV,fV,mY n l];by_cases h1:n.1∈fV l;rw[ay h1];have:n.1∈m.1::(fV l).filter λx=>!decide (x=m.1):=by by_cases e:n.1=m.1;rw[e];simp;exact bt _ (aY.mpr ⟨h1,by simpa using e⟩)
  rw[ay this];rw[ax h1,cw];by_cases e:n.1=m.1;rw[ay (by rw[e];simp)];simp[e];rw[ax];simp[e];rw[ao,not_or];exact⟨e,λz=>h1 (aY.mp z).1⟩
def l4 (l:eW Nd)(n:Nd)(x:Str)(v:Int):kB (l++[n]) x v=(kB l x v&&(!decide (n.1=x)||nH n v)):=by unfold kB;rw[List.all_append];simp
def uM {l:eW Nd}(h:x∉fV l)(v:Int):kB l x v=true:=nn.mpr λn hn e=>absurd (iX.mpr ⟨n,hn,e⟩) h
theorem DB (x:Str)(d e b a v:Int):nH (x,(if b>d then b else d),(if a<e then a else e)) v=(nH (x,b,a) v&&nH (x,d,e) v):=by unfold nH;rw[dg];simp only[aQ,aG];split <;> split <;> lia
inductive vn (CB CC:eQ)(vs:eW V)(H:Hp)(Q:VK)(E:XK):Prop
 |mk (p dx b bits st:eQ)(fs:eW (Str×V))(wv:V)(c:fA)(w:fc Pk)(_:vs=[.ref p,wv])(_:H p=some (.ins CC dx fs))(_:fs.lookup ("board":Str)=some (V.ref b))(_:fs.lookup ("bits":Str)=some (V.ref bits))(_:ia CB H b st c.es)(_:iu H st c.sn)(_:iZ H bits c c.Mo)(_:c.Who w)(_:iI H wv w)(_:c.n<64)(_:(c.needs w).length<=100)(_:∀d H',fH H H'->H d=none->jK H' d c w->Q (.ref d) H')
def Lk:(["version","self","part"]:eW Str).Nodup:=by decide +kernel
def BJ (e:fH H H'){y:V}{r:fc V}(h:iO H a y r):iO H' a y r:=by obtain⟨d,k,j,g,l⟩:=h;refine⟨d,k,i4 e j,?_,l⟩;cases k with|none=>exact g|some ks=>obtain⟨b,i,m⟩:=g;exact⟨b,i,e _ _ m⟩
def FI (h:(es.map fN).Nodup)(n:Nd):(jc es n).Nodup:=by unfold jc;rw[List.nodup_iff_pairwise_ne,di]at *;refine List.Pairwise.imp_of_mem (λ{a b} ha hb hab z=>?_) (h.filter (jp n));have d:=(aY.mp ha).2;have e:=(aY.mp hb).2;unfold jp at d e;simp only[aQ,aG]at d e;exact hab (Prod.ext (d.1.trans e.1.symm) z)
def zt {c:fA}{w:fc Pk}{lo hi:Int}{ms:eW Int}(b:ms.Perm (jc c.es (x,lo,hi)))(j:∀v,nH (x,lo,hi) v=kB (c.needs w) x v):(ms.map λv=>(c.bit (x,v):Int)).sum=(c.Nq w x:Nat)/\(∀v∈ms,(x,v)∈c.ks):=by
 have i:∀v∈ms,(x,v)∈c.ks:=λv a=>(c.mem _).mpr (pD.mp (b.subset a)).1;refine⟨?_,i⟩;have q:(ms.map λv=>((x,v):Pk)).Nodup:=by rw[List.nodup_iff_pairwise_ne,di];exact(b.nodup_iff.mpr (FI c.en _)).imp λh z=>h (Prod.mk.inj z).2
 have:=fA.NA (c:=c) (ms.map λv=>((x,v):Pk)) q (λk d=>by obtain⟨v,a,rfl⟩:=aA.mp d;exact i v a);rw[cR]at this;rw[show(ms.map λv=>(c.bit (x,v):Int))=ms.map ((λk=>(c.bit k:Int)) ∘ λv=>(x,v)) from rfl,this];congr 1;unfold fA.Nq;refine fA.ext (c.MQ _) (c.MQ _) λk=>?_;rw[fA.MJ,fA.MJ,aG,aQ,aG];refine and_congr_right λg=>?_;constructor;intro h;obtain⟨v,a,rfl⟩:=aA.mp h;exact⟨rfl,by rw[<-j];exact(pD.mp (b.subset a)).2⟩;rintro⟨p,o⟩;obtain⟨l,m⟩:=k;have e:l=x:=p;subst e;exact aA.mpr ⟨m,b.symm.subset (pD.mpr ⟨(c.mem _).mp g,by rw[j];exact o⟩),rfl⟩
inductive Ks (H:Hp)(ns:eW Nd)(j:eQ)(i:Nat)(H2:Hp):Prop
 |mk (kj:_)(_:H2 j=some (.dK kj))(_:kj.map (·.1)=(fV (ns.take i)).map Sum.inr)(_:kj.length<=i)(_:∀x∈fV (ns.take i),∃q lo hi,fW kj (Sum.inr x)=some (.ref q)/\del H2 [j] q=some (.tup [.str x,.int lo,.int hi])/\∀v,nH (x,lo,hi) v=kB (ns.take i) x v)
structure Lz (H:Hp)(ns:eW Nd)(j:eQ)(i:Nat)(H2:Hp):Prop where
 ex:Ks H ns j i H2
 sm:fH H H2
section
variable {w:fe}{base:fb}{f:eQ}
def sH:fL ["self","who","joint","part","low","high","earlier","allowed","versions"] ["self","who"] (fE qf):=jD
theorem v7 (F:je K "allowed_by" "Chart.allowed_by" qf f fd)(T:TC K mg CC)(a7:TB K mg CB)(MM:Mt P w K mg base CB gM 2 "meeting" ["self","need"] (mh CB)):gv P w K mg base gM 3 f fd ["self","who"] (vn CB CC):=by
 refine F.ok sH λda A c1 s H vs Q E hr h=>?_;obtain⟨p,dx,b,bits,st,fs,wv,c,w,rfl,hp,b2,cx,hB,hN,cp,hw,ct,cs,dd,q⟩:=h;have hu:=iD hr;refine⟨_,(fm (fJ (i:=2) sH.nd jb) (fm (ie PassesOwn.never rfl (gL (gj hu (fK a7.cl a7.nN (fK T.cl T.nBoard (pv 0))) (pv 1))) (mX rfl (iC (fQ (i:=3) sH.nd) (iC (fQ (i:=4) sH.nd) (iC (fQ (i:=5) sH.nd) lC)))) (fm (fJ (i:=6) sH.nd (kZ hu (pv 2) (pv 3) (ig (fi (pv 3) (fi (pv 4) (fi (pv 5) fq)))) ⟨rfl,rfl,rfl,rfl⟩)) (fz (jW hu (pv 2) (pv 3) (ig (fi (pv 3) (fi (gN (zk rfl) rfl T.max boot_max (fi (pv 4) (fi (fZ gs (pv 6) fD) fq))) (fi (gN (zj rfl) rfl T.min boot_min (fi (pv 5) (fi (fZ gs (pv 6) fD) fq))) fq)))) rfl)))) (fm (fJ (i:=7) sH.nd jb) (fm (ie PassesOwn.never rfl (Fi (pv 2)) (fQ (i:=3) sH.nd) (fm (fJ (i:=8) sH.nd (iY MM hr gJ (fK T.cl T.nBoard (pv 0)) (fi (iP hu (pv 2) (pv 3)) fq))) (fz (jW hu (pv 7) (pv 3) (gN (zi rfl) rfl T.sum boot_sum (fi (iG (N':=["version","self","part"]) (n:=1) (js:=[0,3]) rfl (iT.two (c:=s.heap.objs.size+1) (c':=s.heap.objs.size+2) (y:="self") (y':="part")) (iz (by decide)) (gL (pv 8)) (λC s2 H2 fp=>fQ (i:=0) Lk) (λC s2 H2 fp=>jx) (λC s2 H2 fp=>gj hu (fK T.cl T.nBits (pv 1)) (ig (fi (pv 2) (fi (pv 0) fq))))) fq)) rfl)))) (fz (gc (AD (pv 7)))))))),?_⟩;intro j hj;have s0:=fB hj (.dK []);obtain⟨bx,dn,dv,b5,cn⟩:=j5 hB hN;obtain⟨na,b7,zs,hz,b3⟩:=cn w wv hw ct;refine⟨_,rfl,p,dx,_,_,rfl,s0 _ _ hp,b2,b,bx,_,_,rfl,s0 _ _ b5,gT _ _,_,rfl,dn,_,rfl,BJ s0 b7,na,rfl,⟨_,gf.of (s0 _ _ hz)⟩,?_⟩;have lz:=Paired.length b3;refine iE (K:=K) (a:=na) (xs:=zs) (λi σ H2=>∃o3 o4 o5 o6,σ=[some (.ref p),some wv,some (.ref j),o3,o4,o5,o6,none,none]/\Lz H (c.needs w) j i H2)
  ⟨none,none,none,none,rfl,⟨[],fj,rfl,am _,λx I=>nomatch I⟩,s0⟩ ((by rintro i σ H2 _ ⟨_,_,_,_,_,J⟩;exact gf.of (J.sm _ _ hz))) ?_ ?_
 rintro i x σ H2 hi ⟨o3,o4,o5,o6,rfl,⟨M,S,d,a5,G⟩,sm⟩;obtain⟨n,bm,hn⟩:=Paired.Ml b3 hi;obtain⟨nq,rfl,c6⟩:=hn;obtain⟨x,O,B⟩:=n;have ht:(c.needs w).take (i+1)=(c.needs w).take i++[(x,O,B)]:=by rw[aZ,bm];rfl
 have c5:i<100:=by have:=(aj.mp bm).1;lia
 refine⟨nq,_,rfl,jg.of (sm _ _ c6),rfl,_,_,rfl,_,_,rfl,_,_,rfl,rfl,?_⟩;refine⟨_,rfl,j,rfl,.inl ⟨_,.inl S⟩,_,rfl,_,rfl,_,rfl,_,rfl,zE,λt as=>?_⟩;have st:=fB as (.tup [.str x,.int O,.int B]);have dc:j≠t:=fC S as;generalize b6:upd H2 t (.tup [.str x,.int O,.int B])=H3 at *;have a1:H3 j=some (.dK M):=st _ _ S;have old:∃q' N g,(fW M (Sum.inr x)).getD (.ref t)=.ref q'/\H3 q'=some (.tup [.str x,.int N,.int g])/\∀v,(nH (x,N,g) v&&nH (x,O,B) v)=kB ((c.needs w).take (i+1)) x v:=by
  by_cases I:x∈fV ((c.needs w).take i);obtain⟨q',N,g,g1,U,g3⟩:=G x I;have b9:q'≠j:=λz=>by rw[z,gR (by simp)]at U;cases U
  refine⟨q',N,g,by rw[g1];rfl,st _ _ (by rw[fG (by simpa using b9)]at U;exact U),λv=>?_⟩;rw[ht,l4,g3,aq rfl];rfl;have hv:fW M (Sum.inr x)=none:=by cases hq:fW M (Sum.inr x) with|none=>rfl|some u=>have:=jw hq;rw[d]at this;obtain⟨y,L,e⟩:=aA.mp this;rw[Sum.inr.inj e]at L;exact absurd L I
  refine⟨t,O,B,by rw[hv];rfl,by rw[<-b6];exact fj,λv=>?_⟩;rw[ht,l4,uM I,aq rfl,Bool.and_self];rfl
 obtain⟨q',N,g,g1,U,g3⟩:=old;refine⟨_,jS.k (k:=Sum.inr x) a1,?_⟩;rw[g1];refine⟨_,rfl,_,rfl,_,rfl,q',_,_,_,rfl,rfl,jg.of U,rfl,_,_,rfl,_,rfl,_,rfl,q',_,_,_,rfl,rfl,jg.of U,rfl,_,_,rfl,zE,λt2 bv=>?_⟩;have a3:=fB bv (.tup [.str x,.int (if N>O then N else O),.int (if g<B then g else B)]);have bf:j≠t2:=fC a1 bv;refine⟨_,rfl,_,rfl,j,_,rfl,nF.k (k:=Sum.inr x) (a3 _ _ a1) (fO (by lia)),?_⟩;refine⟨_,_,_,_,rfl,⟨gz M (Sum.inr x) (.ref t2),fj,?_,?_,λy L=>?_⟩,fH.upd (sm.trans (st.trans a3)) hj⟩;rw[ht,mY];by_cases I:x∈fV ((c.needs w).take i);rw[ay I];obtain⟨_,_,_,z,_⟩:=G x I;rw[nM (by rw[z];rfl)];exact d;have hv:fW M (Sum.inr x)=none:=by cases hq:fW M (Sum.inr x) with|none=>rfl|some u=>have:=jw hq;rw[d]at this;obtain⟨y,L,e⟩:=aA.mp this;rw[Sum.inr.inj e]at L;exact absurd L I
 rw[ax I,iR _ hv,aC,d,aC];rfl;have:=hZ M (Sum.inr x) (V.ref t2);lia;rw[ii,wB (by simp)];by_cases ey:y=x;subst ey;rw[ay rfl];refine⟨t2,_,_,rfl,by rw[fG (by simpa using Ne.symm bf)];exact fj,λv=>?_⟩;rw[<-g3];exact DB _ _ _ _ _ v;rw[ax (λz=>ey (Sum.inr.inj z))];have c4:y∈fV ((c.needs w).take i):=by rw[ht,mY]at L;by_cases I:x∈fV ((c.needs w).take i);rw[ay I]at L;exact L;rw[ax I]at L;exact(aE.mp L).elim id λz=>absurd (af.mp z) ey
 obtain⟨q0,cv,ag,f1,f2,f3⟩:=G y c4;have ad:q0≠j:=λz=>by rw[z,gR (by simp)]at f2;cases f2
 rw[fG (by simpa using ad)]at f2;refine⟨q0,cv,ag,f1,by rw[fG (by simpa using ad)];exact a3 _ _ (st _ _ f2),λv=>?_⟩;rw[f3,ht,l4,aw (λz=>ey z.symm)];simp;rintro σ H2 ⟨o3,o4,o5,o6,rfl,⟨M,S,d,a5,G⟩,sm⟩;rw[lz,aN]at d G;intro R an;have aa:j≠R:=fC S an;have a2:=fB an (.dK []);have a4:=sm.trans a2;have Y:H R=none:=sm.free an;refine⟨_,rfl,j,M,rfl,.inl (a2 _ _ S),λo H4 sf a8 bd=>?_⟩;have h4:∀a,a≠j->H4 a=upd H2 R (.dK []) a:=a8;have s4:fH H H4:=λa u e=>by rw[h4 a (λz=>by rw[z,hj]at e;cases e)];exact a4 _ _ e
 have be:H4 R=some (.dK []):=by rw[h4 R (Ne.symm aa)];exact fj
 have c3:M.length=(fV (c.needs w)).length:=by have:=congrArg List.length d;rw[ae,ae]at this;exact this
 refine tZ (kvs:=M) (λi σ H5=>∃X o3 o4 o5 o6 o8,σ=[some (.ref p),some wv,some (.ref j),o3,o4,o5,o6,some (.ref R),o8]/\H5 R=some (.dK X)/\fH (del H4 [R]) H5/\X.map (·.1)=((fV (c.needs w)).take i).map Sum.inr/\X.length<=i/\∀x∈(fV (c.needs w)).take i,fW X (Sum.inr x)=some (.int (c.Nq w x)))
  ⟨[],_,_,_,_,none,rfl,be,gy _ _,rfl,am _,λx I=>by simp at I⟩ ((by rintro i σ H5 _ ⟨_,_,_,_,_,_,_,_,e,_⟩;exact e _ _ (by rw[fG (by simpa using aa)];exact bd))) ?_ ?_
 rintro i kv σ H5 hi ⟨X,o3,o4,o5,o6,o8,rfl,ab,s5,Z,cy,ap⟩;have b1:(M.map (·.1))[i]?=some kv.1:=by rw[ai,hi];rfl
 rw[d,ai]at b1;obtain⟨x,I,ex⟩:=aF.mp b1;rw[<-ex];have co:=ak I;obtain⟨q0,lo,ag,g1,U,g3⟩:=G x co;have ad:q0≠j:=λz=>by rw[z,gR (by simp)]at U;cases U
 rw[fG (by simpa using ad)]at U;have c5:i<100:=by
  have h1:=(aj.mp hi).1;have h2:M.length<=(c.needs w).length:=by rw[<-lz]at *;lia
  lia
 have ah:fH H H5:=λa u e=>s5 _ _ (by rw[fG (by simpa using λz=>by rw[z,Y]at e;cases e)];exact s4 _ _ e);have cd:H5 q0=some (.tup [.str x,.int lo,.int ag]):=s5 _ _ (by
  have:q0≠R:=fC U an;rw[fG (by simpa using this),h4 q0 ad]
  exact a2 _ _ U)
 have b8:H5 j=some (.frz o (.dK M)):=s5 _ _ (by rw[fG (by simpa using aa)];exact bd);refine⟨_,rfl,p,dx,_,_,rfl,ah _ _ hp,b2,b,bx,_,rfl,ah _ _ b5,nR _ _ (by decide +kernel) (by decide +kernel),_,rfl,_,rfl,j,_,rfl,.inl ⟨M,Sum.inr x,.inr ⟨o,b8⟩,rfl,g1.symm⟩,b,st,c.es,_,(x,lo,ag),rfl,hB.same ah,⟨q0,rfl,cd⟩,by rw[<-c.n_eq];exact cs,λl ms H6 s6 hl bq a6 c9=>?_⟩;obtain⟨a0,cz⟩:=zt (c:=c) (w:=w) a6 g3;have c8:ms.length<64:=by rw[a6.length_eq];have:=jH c.es (x,lo,ag);rw[<-c.n_eq]at this;lia
 refine⟨_,rfl,l,rfl,⟨_,gf.of bq⟩,?_⟩;have c0:=ah.trans s6;refine iK (xs:=ms.map V.int) (λD i ys H7=>ys=((ms.take i).map λv=>V.int (c.bit (x,v)))/\H7 D=some (.lst ys)/\fH H6 H7/\H6 D=none) (λD hD=>⟨by simp,fj,fB hD _,hD⟩)
  (λD i ys H7 hi ⟨e1,e2,e3,_⟩=>⟨gf.of (e3 _ _ bq),e2,?_⟩) (λD i y ys H7 hi ⟨e1,e2,e3,e4⟩=>?_) (λD ys H7 ⟨e1,e2,e3,e4⟩=>?_)
 rw[e1,ae,aW];exact fO (by lia);rw[ai]at hi;obtain⟨z,bl,rfl⟩:=aF.mp hi;unfold jl pc;dsimp only;rw[ay rfl];have b0:=c0.trans e3;refine⟨_,rfl,p,dx,_,_,rfl,b0 _ _ hp,cx,_,rfl,_,rfl,pO,λt as=>?_⟩;have s8:=fB as (.tup [.str x,.int z]);refine⟨bits,_,rfl,(cp.same (b0.trans s8)).get (w:=some (x,z)) (λk e=>by cases e;exact cz z (ak bl)) ⟨t,rfl,fj⟩,s8 _ _ e2,?_,fj,fH.upd (e3.trans s8) e4,e4⟩;rw[e1,aZ,bl,aC];rfl;rw[ae,aN]at e1;subst e1;have a9:(ms.map λv=>V.int (c.bit (x,v)))=(ms.map λv=>(c.bit (x,v):Int)).map V.int:=by rw[cR];rfl
 rw[a9]at e2;have c7:c.Nq w x<2^63:=bg (c.MQ _) (Nat.pow_le_pow_right (by decide) (by lia));refine⟨D,_,rfl,gf.of e2,λm hm=>?_,by rw[a0];lia,?_⟩;rw[bi,ai];cases ms[m]? with|none=>exact Int.le_refl _|some v=>show(0:Int)<=(c.bit (x,v):Nat);lia
 rw[a0];have b4:H7 R=some (.dK X):=e3 _ _ (s6 _ _ ab);refine⟨_,rfl,_,rfl,R,_,rfl,nF.k (k:=Sum.inr x) b4 (fO (by lia)),?_⟩;have ch:x∉(fV (c.needs w)).take i:=λz=>by
  obtain⟨i',g⟩:=aD.mp z;rw[cu]at g;split at g
  next hlt2=>have:=(cG (aj.mp g).1 (j3 (c.needs w))).mp (g.trans I.symm);lia
  cases g
 have c2:fW X (Sum.inr x)=none:=by cases hq:fW X (Sum.inr x) with|none=>rfl|some u=>have:=jw hq;rw[Z]at this;obtain⟨y,L,e⟩:=aA.mp this;rw[Sum.inr.inj e]at L;exact absurd L ch
 have ht:(fV (c.needs w)).take (i+1)=(fV (c.needs w)).take i++[x]:=by rw[aZ,I];rfl
 refine⟨_,_,_,_,_,_,rfl,fj,λa u e=>?_,?_,?_,λy L=>?_⟩;have na:a≠R:=λz=>by rw[z,gR (by simp)]at e;cases e
 rw[fw na];exact e3 _ _ (s6 _ _ (s5 _ _ e));rw[iR _ c2,aC,Z,ht,aC];rfl;have:=hZ X (Sum.inr x) (V.int ((c.Nq w x:Nat):Int));lia;rw[ii];by_cases ey:y=x;subst ey;rw[ay rfl];rw[ax (λz=>ey (Sum.inr.inj z))];rw[ht]at L;exact ap y ((aE.mp L).elim id λz=>absurd (af.mp z) ey);rintro σ H5 ⟨X,o3,o4,o5,o6,o8,rfl,ab,s5,Z,cy,ap⟩;rw[c3,aN]at Z ap;refine⟨_,rfl,R,_,rfl,ab,trivial,λo'=>q R _ (λa u e=>?_) Y ⟨o',X,fj,Z,ap⟩⟩;have na:a≠R:=λz=>by rw[z,Y]at e;cases e
 rw[fw na];exact s5 _ _ (by rw[fG (by simpa using na)];exact s4 _ _ e)
end
inductive vf (CC:eQ)(vs:eW V)(H:Hp)(Q:VK)(E:XK):Prop
 |mk (p dx al ofp d:eQ)(fs:eW (Str×V))(wv:V)(c:fA)(w:fc Pk)(_:vs=[.ref p,wv])(_:H p=some (.ins CC dx fs))(_:fs.lookup ("allowed":Str)=some (V.ref al))(_:fs.lookup ("of_part":Str)=some (V.ref ofp))(_:iO H al wv (some (.ref d)))(_:jK H d c w)(_:mI H ofp c)(_:Q (.int (c.Nr w)) H)
def fA.NM (c:fA)(w:fc Pk)(ps:eW Str):Nat:=c.maskOf λk=>decide (k.1∈ps)&&!kB (c.needs w) k.1 k.2
def fA.NO (c:fA)(w:fc Pk):c.NM w []=0:=fA.MD (c.MQ _) λk h=>by
 have:=(fA.MJ.mp h).2;simp at this
def fA.NP (c:fA)(w:fc Pk)(ps:eW Str)(x:Str):c.NM w (ps++[x])=c.NM w ps ||| i5 (c.Np x) (c.Nq w x):=by refine fA.ext (c.MQ _) (j4 (c.MQ _) (kD (c.MQ _))) λk=>?_;rw[fA.Mv,fA.Mx,fA.Nu];unfold fA.NM fA.Nq;simp only[fA.MJ,aQ,aG,aE,af,bQ];constructor;rintro⟨a,h2|h2,b⟩;exact .inl ⟨a,h2,b⟩;exact .inr ⟨⟨a,h2⟩,λz=>by rw[h2,z.2.2]at b;cases b⟩;rintro(⟨a,h2,b⟩|⟨⟨a,h2⟩,b⟩);exact⟨a,.inl h2,b⟩;refine⟨a,.inr h2,bE.mpr λz=>b ⟨a,h2,?_⟩⟩;rw[<-h2];exact z
def fA.NQ (c:fA)(w:fc Pk):c.NM w (fV (c.needs w))=c.Nr w:=by refine fA.ext (c.MQ _) (c.MQ _) λk=>?_;unfold fA.NM;rw[fA.Nv,fA.MJ,aQ,aG,bQ,iX];unfold fA.MR;constructor;rintro⟨d,_,g⟩;refine⟨d,Decidable.byContradiction λz=>?_⟩;rw[bE]at g;refine g (nn.mpr λn b e=>Decidable.byContradiction λy=>z ⟨n,b,?_⟩);unfold rn;rw[aq e.symm,bE.mpr y];rfl;rintro⟨d,n,b,a⟩;unfold rn at a;rw[aQ,aG,bQ]at a;refine⟨d,⟨n,b,a.1.symm⟩,bE.mpr λz=>?_⟩;rw[nn.mp z n b a.1.symm]at a;cases a.2
section
variable {w:fe}{base:fb}{f:eQ}
def CI:fL ["self","who","mask","part"] ["self","who"] (fE pX):=jD
def vU (F:je K "shut_out_by" "Chart.shut_out_by" pX f fd)(T:TC K mg CC):gv P w K mg base gM 1 f fd ["self","who"] (vf CC):=by
 refine F.ok CI λU A z s H vs Q E X h=>?_;obtain⟨p,G,M,v,d,fs,wv,c,w,rfl,hp,g,B,I,L,J,q⟩:=h;have m:=iD X;refine⟨_,(fm (fJ (i:=2) CI.nd fD) (fm (ie PassesOwn.never rfl (Av (gj m (fK T.cl T.nAl (pv 0)) (pv 1))) (fQ (i:=3) CI.nd) (fz (lB (i:=2) CI.nd (fU iV (kZ m (fK T.cl T.nOf (pv 0)) (pv 3) fD ⟨rfl,rfl,rfl,rfl⟩) (jL lR (iP m (gj m (fK T.cl T.nAl (pv 0)) (pv 1)) (pv 3)))) uN))) (fz (gc (pv 2))))),?_⟩;obtain⟨o,a,b,l,R⟩:=id L;have Y:a.length=(fV (c.needs w)).length:=by have:=congrArg List.length l;rw[ae,ae]at this;exact this
 refine⟨_,rfl,p,G,_,_,rfl,hp,g,_,rfl,M,_,rfl,I,d,o,a,rfl,b,?_⟩;refine tZ (kvs:=a) (λi σ t=>∃C,σ=[some (.ref p),some wv,some (.int ((c.NM w ((fV (c.needs w)).take i):Nat):Int)),C]/\t=H) ⟨none,by rw[dX,fA.NO];rfl,rfl⟩ (λi σ t _ ⟨_,_,e⟩=>by rw[e];exact b) ?_ ?_;rintro i Z σ t hi ⟨C,rfl,rfl⟩;have j:(a.map (·.1))[i]?=some Z.1:=by rw[ai,hi];rfl
 rw[l,ai]at j;obtain⟨x,N,O⟩:=aF.mp j;rw[<-O];obtain⟨r,D,y⟩:=J.get x;have S:(fV (c.needs w)).take (i+1)=(fV (c.needs w)).take i++[x]:=by rw[aZ,N];rfl
 refine⟨_,rfl,_,rfl,p,G,_,_,rfl,hp,B,v,rfl,J.isD,_,rfl,r,D,?_⟩;rw[y];refine⟨_,rfl,p,G,_,_,rfl,hp,g,_,rfl,M,_,rfl,I,_,rfl,d,_,rfl,L.get (ak N),_,rfl,_,_,rfl,rfl,_,_,rfl,rfl,?_⟩;refine⟨some (.str x),?_,rfl⟩;rw[rp,xO,S,fA.NP];rfl;rintro σ t ⟨C,rfl,rfl⟩;rw[Y,aN,fA.NQ];exact⟨_,rfl,q⟩
end
inductive xU (CC:eQ)(vs:eW V)(H:Hp)(Q:VK)(E:XK):Prop
 |mk (p dx b bits by_ ofp al sh fo:eQ)(c:fA)(ksh kfo:eW (hJ×V))(_:vs=[.ref p])(_:H p=some (.ins CC dx (Ga b bits by_ ofp al sh fo)))(_:iZ H bits c c.Mo)(_:pj H by_ c)(_:c.n<64)(_:bits≠fo)(_:sh≠fo)(_:H sh=some (.dN ksh))(_:∀kv∈ksh,∃w,c.Who w/\kv.1=gC w)(_:∀w,c.Who w->fW ksh (gC w)=some (.int (c.Nr w)))(_:H fo=some (.dN kfo))(_:kfo.length<=64)(_:∀kv∈kfo,∃w,c.Who w/\kv.1=gC w)(_:∀w,c.Who w->fW kfo (gC w)=some (.int (c.Nr w)))(_:∀H',fF (del H [fo]) H'->ll H' fo c c.Nt->Q .non H')
def fA.NR (c:fA)(vs:eW (fc Pk)):fc Pk->Nat
 |none=>c.Nr none
 |some k=>c.maskOf λj=>c.Nn (some k) j||(decide (some j∈vs)&&c.Nn (some j) k)
def fA.NS (c:fA)(w:fc Pk):c.NR [] w=c.Nr w:=by cases w with|none=>rfl|some k=>refine fA.ext (c.MQ _) (c.MQ _) λj=>?_;show c.has (c.maskOf _) j↔c.has (c.maskOf _) j;rw[fA.MJ,fA.MJ];simp
def fA.NT (c:fA)(vs:eW (fc Pk))(w:fc Pk):c.NR vs w<2^c.n:=by cases w <;> exact c.MQ _
def fA.NU (c:fA){vs:eW (fc Pk)}(h:∀k∈c.ks,some k∈vs)(w:fc Pk):c.NR vs w=c.Nt w:=by cases w with|none=>rfl|some k=>refine fA.ext (c.MQ _) (c.MQ _) λj=>?_;show c.has (c.maskOf _) j↔c.has (c.maskOf _) j;rw[fA.MJ,fA.MJ];refine and_congr_right λa=>?_;rw[aq (h j a),cQ]
def fA.NV (c:fA)(vs:eW (fc Pk))(v:fc Pk)(ps:eW Pk):fc Pk->Nat
 |none=>c.Nr none
 |some k=>if k∈ps then c.NR vs (some k) ||| c.Mo v else c.NR vs (some k)
def fA.NW (c:fA)(vs:eW (fc Pk))(v w:fc Pk):c.NV vs v [] w=c.NR vs w:=by cases w with|none=>rfl|some k=>show(if k∈([]:eW Pk) then c.NR vs (some k) ||| c.Mo v else c.NR vs (some k))=_;rw[ax (λz=>nomatch z)]
def fA.NX (c:fA)(vs:eW (fc Pk)){v w:fc Pk}(d:c.Who v)(g:c.Who w):c.NV vs v (c.listed (c.Nr v)) w=c.NR (vs++[v]) w:=by
 cases w with|none=>rfl|some k=>
  have h:=g k rfl;show(if k∈c.listed (c.Nr v) then c.NR vs (some k) ||| c.Mo v else c.NR vs (some k))=_;have e:k∈c.listed (c.Nr v)↔c.MR v k:=by rw[fA.Mu,fA.Nv];exact⟨λz=>z.2,λz=>⟨h,z⟩⟩
  refine fA.ext ?_ (c.MQ _) λj=>?_;split;exact j4 (c.NT _ _) (fA.Ny d);exact c.NT _ _;have key:c.has (c.NR (vs++[v]) (some k)) j↔c.has (c.NR vs (some k)) j\/(j∈c.ks/\v=some j/\c.MR v k):=by unfold fA.NR;simp only[fA.MJ,dO,aQ,aG,aE,af,fA.No];constructor;rintro⟨a,h2|⟨h2|h2,b⟩⟩;exact .inl ⟨a,.inl h2⟩;exact .inl ⟨a,.inr ⟨h2,b⟩⟩;exact .inr ⟨a,h2.symm,h2▸b⟩;rintro(⟨a,h2|⟨h2,b⟩⟩|⟨a,h2,b⟩);exact⟨a,.inl h2⟩;exact⟨a,.inr ⟨.inl h2,b⟩⟩;exact⟨a,.inr ⟨.inr h2.symm,h2▸b⟩⟩
  rw[key];by_cases hs:c.MR v k;rw[ay (e.mpr hs),fA.Mv,fA.Nz d];refine or_congr_right ?_;exact⟨λz=>⟨d j z,z,hs⟩,λz=>z.2.1⟩;rw[ax (λz=>hs (e.mp z))];exact⟨.inl,λz=>z.elim id λy=>absurd y.2.2 hs⟩
theorem sw {c:fA}:∀{ksh:eW (hJ×V)},(∀kv∈ksh,∃w,c.Who w/\kv.1=gC w)->∃ws:eW (fc Pk),ksh.map (·.1)=ws.map gC/\∀w∈ws,c.Who w
 |[],_=>⟨[],rfl,λw hw=>nomatch hw⟩
 |kv::ksh,h=>by obtain⟨ws,e1,e2⟩:=sw (c:=c) (ksh:=ksh) λx hx=>h x (by simp[hx]);obtain⟨w,h1,h2⟩:=h kv (by simp);refine⟨w::ws,by rw[aH,aH,e1,h2],λx hx=>?_⟩;rcases ao.mp hx with rfl|hx;exact h1;exact e2 x hx
def iq {c:fA}{k:Pk}(h:k∈c.ks):c.Who (some k):=λj e=>by cases e;exact h
def jZ {c:fA}:c.Who none:=λj e=>nomatch e
section
variable {w:fe}{base:fb}{f:eQ}
def EW:fL ["self","who","pick"] ["self"] (fE sR):=jD
theorem yB (F:je K "make_foes_mutual" "Chart.make_foes_mutual" sR f fd)(T:TC K mg CC)(ML:Mt P w K mg base CC gM 1 "listed" ["self","mask"] (lH CC)):gv P w K mg base gM 2 f fd ["self"] (xU CC):=by
 refine F.ok EW λcz A cs s H vs Q E hr h=>?_;obtain⟨p,dx,b,bits,O,b7,al,sh,m,c,L,X,rfl,hp,b5,cn,b6,ap,cv,cy,co,as,b1,b3,ch,cp,q⟩:=h;have hu:=iD hr;refine⟨_,(fz (ie PassesOwn.never rfl (tH (fK T.cl T.nSh (pv 0))) (fQ (i:=1) EW.nd) (fz (ie PassesOwn.never rfl (gL (iY ML hr gJ (pv 0) (fi (gj hu (fK T.cl T.nSh (pv 0)) (pv 1)) fq))) (fQ (i:=2) EW.nd) (fz (At hu (fK T.cl T.nFo (pv 0)) (pv 2) (gj hu (fK T.cl T.nBits (pv 0)) (pv 1)) Bu (λ_ _ _=>rfl))))))),?_⟩;obtain⟨S,ab,bm⟩:=sw co;refine⟨_,rfl,p,dx,_,_,rfl,hp,rfl,sh,L,rfl,.inl cy,λo H1 sf a3 a5=>?_⟩;have M:H1 m=some (.dN X):=by rw[a3 m (Ne.symm cv)];exact b1
 have a1:H1 p=some (.ins CC dx (Ga b bits O b7 al sh m)):=sf.ins hp;have keep:∀{t:Hp},fH (del H1 [m]) t->∀{a u},H1 a=some u->(∀kvs,u≠.dN kvs)->t a=some u:=λ{t} C {a u} e n1=>C _ _ (by
   rw[fG (by simpa using λz:a=m=>n1 _ (by rw[z,M]at e;exact(Option.some.inj e).symm))]
   exact e)
 have b2:∀{t:Hp},fH (del H1 [m]) t->iZ t bits c c.Mo:=λ{t} C=>by obtain⟨kvs,g1,g2⟩:=b5.f sf;refine⟨kvs,i4 C ?_,g2⟩;exact g1.imp (λz=>by rw[fG (by simpa using ap)];exact z) (by rintro⟨o',z⟩;exact⟨o',by rw[fG (by simpa using ap)];exact z⟩)
 have bv:∀{t:Hp},fH (del H1 [m]) t->pj t O c:=λ{t} C=>by
  obtain⟨kvs,g1,g2⟩:=cn.f sf;have nb:O≠m:=λz=>by rw[z]at g1;rcases g1 with y|⟨o',y⟩ <;> (rw[M]at y;cases y)
  refine⟨kvs,i4 C (g1.imp (λz=>by rw[fG (by simpa using nb)];exact z) (by rintro⟨o',z⟩;exact⟨o',by rw[fG (by simpa using nb)];exact z⟩)),λk hk=>?_⟩;obtain⟨v,y1,y2,y3,y4⟩:=g2 k hk;exact⟨v,y1,y2,y3,keep C y4 λ_ z=>nomatch z⟩
 refine wy (kvs:=L) (λi σ t=>∃R o1 o2,σ=[some (.ref p),o1,o2]/\t m=some (.dN R)/\(R.length<=64/\R.map (·.1)=X.map (·.1))/\(∀w,c.Who w->fW R (gC w)=some (.int (c.NR (S.take i) w)))/\fH (del H1 [m]) t)
  ⟨X,none,none,rfl,M,⟨b3,rfl⟩,λw hw=>by rw[dX,fA.NS];exact cp w hw,gy _ _⟩ ((by rintro i σ t _ ⟨_,_,_,_,_,_,_,C⟩;exact keep C a5 λ_ z=>nomatch z)) ?_ ?_
 rintro i kv x σ t hi kx ⟨R,o1,o2,rfl,I,an,U,C⟩;have a8:(L.map (·.1))[i]?=some kv.1:=by rw[ai,hi];rfl
 rw[ab,ai]at a8;obtain⟨v,hv,ev⟩:=aF.mp a8;rw[<-ev]at kx;have a2:=iI.of kx;have ag:=bm v (ak hv);have ht:S.take (i+1)=S.take i++[v]:=by rw[aZ,hv];rfl
 have ad:=keep C a1 λ_ z=>nomatch z;have cx:=keep C a5 λ_ z=>nomatch z;refine⟨_,rfl,p,dx,_,rfl,ad,rfl,_,rfl,p,dx,_,_,rfl,ad,rfl,_,rfl,sh,_,rfl,⟨L,gC v,.inr ⟨o,cx⟩,kx,(as v ag).symm⟩,t,p,dx,O,_,c,_,rfl,fF.refl _,ad,rfl,bv C,b6,c.MQ _,λl xs H3 s3 hl bf a7 ct=>?_⟩;refine⟨l,rfl,⟨_,gf.of bf⟩,?_⟩;have b4:l≠m:=Ne.symm (fC I hl);refine iE (K:=K) (a:=l) (xs:=xs) (λj σ H4=>∃g o2,σ=[some (.ref p),some x,o2]/\H4 m=some (.dN g)/\(g.length<=64/\g.map (·.1)=X.map (·.1))/\(∀w,c.Who w->fW g (gC w)=some (.int (c.NV (S.take i) v ((c.listed (c.Nr v)).take j) w)))/\fH (del H3 [m]) H4)
  ⟨R,_,rfl,s3 _ _ I,an,λw hw=>by rw[dX,fA.NW];exact U w hw,gy _ _⟩ ((by rintro j σ H4 _ ⟨_,_,_,_,_,_,B⟩;exact gf.of (B _ _ (by rw[fG (by simpa using b4)];exact bf)))) ?_ ?_
 rintro j y σ H4 hj ⟨g,b8,rfl,Y,D,d,B⟩;obtain⟨k,aa,hk⟩:=Paired.Ml a7 hj;have b0:=ak aa;have N:k∈c.ks:=(fA.Mu.mp b0).1;have bd:fH (del H1 [m]) H4:=λa u e=>by
  have Z:a≠m:=λz=>by rw[z,gR (by simp)]at e;cases e
  refine B _ _ ?_;rw[fG (by simpa using Z)];exact s3 _ _ (C _ _ e)
 have a0:=keep bd a1 λ_ z=>nomatch z;obtain⟨kq,rfl,ah⟩:=id hk;have b9:kq≠m:=λz=>by rw[z,I]at ah;cases ah
 have be:iI H4 (.ref kq) (some k):=⟨kq,rfl,B _ _ (by rw[fG (by simpa using b9)];exact s3 _ _ ah)⟩;have bq:iI H4 x v:=by
  cases v with|none=>exact a2|some kk=>
   obtain⟨q0,e1,e2⟩:=(show fX t x kk from a2);have n0:q0≠m:=λz=>by rw[z,I]at e2;cases e2
   exact⟨q0,e1,B _ _ (by rw[fG (by simpa using n0)];exact s3 _ _ e2)⟩
 have a6:(c.listed (c.Nr v)).take (j+1)=(c.listed (c.Nr v)).take j++[k]:=by rw[aZ,aa];rfl
 refine⟨_,rfl,p,dx,_,_,rfl,a0,rfl,_,rfl,m,_,rfl,⟨g,gC (some k),.inl Y,be.key,(d (some k) (iq N)).symm⟩,_,rfl,p,dx,_,_,rfl,a0,rfl,_,rfl,bits,_,rfl,(b2 bd).get ag bq,_,_,rfl,rfl,?_⟩;rw[xO];have bl:k∉(c.listed (c.Nr v)).take j:=λz=>by
  obtain⟨i',J⟩:=aD.mp z;rw[cu]at J;split at J
  next hlt2=>have:=(cG (aj.mp J).1 (c.MH _)).mp (J.trans aa.symm);lia
  cases J
 have bx:(c.NV (S.take i) v ((c.listed (c.Nr v)).take j) (some k))=c.NR (S.take i) (some k):=by show(if _ then _ else _)=_;rw[ax bl]
 rw[bx];refine⟨_,ml.of (k:=gC (some k)) Y be.key (fO (by have:=D.1;lia)),_,_,rfl,fj,?_,λu G=>?_,λa u e=>?_⟩;refine⟨?_,by rw[nM (by rw[d _ (iq N)];rfl)];exact D.2⟩;have:(gz g (gC (some k)) (V.int ((c.NR (S.take i) (some k) ||| c.Mo v:Nat):Int))).length=g.length:=by have:=congrArg List.length (nM (kvs:=g) (k:=gC (some k)) (v:=V.int ((c.NR (S.take i) (some k) ||| c.Mo v:Nat):Int)) (by rw[d _ (iq N)];rfl));simpa using this
 have:=D.1;lia;rw[ii];by_cases eu:u=some k;subst eu;rw[ay rfl];show _=some (V.int ((if _ then _ else _:Nat):Int));rw[ay (by rw[a6];simp)];rw[ax (λz=>eu (i7 z)),d u G];cases u with|none=>rfl|some k'=>have:k'≠k:=λz=>eu (by rw[z]);show some (V.int ((if _ then _ else _:Nat):Int))=some (V.int ((if _ then _ else _:Nat):Int));rw[a6];simp[this]
 have Z:a≠m:=λz=>by rw[z,gR (by simp)]at e;cases e
 rw[fw Z];exact B _ _ e;rintro σ H4 ⟨g,b8,rfl,Y,D,d,B⟩;have lx:xs.length=(c.listed (c.Nr v)).length:=Paired.length a7;rw[lx,aN]at d;refine⟨g,_,_,rfl,Y,D,λu G=>?_,λa u e=>?_⟩;rw[ht,<-fA.NX c _ ag G];exact d u G;have Z:a≠m:=λz=>by rw[z,gR (by simp)]at e;cases e
 refine B _ _ ?_;rw[fG (by simpa using Z)];exact s3 _ _ (C _ _ e);rintro σ t ⟨R,o1,o2,rfl,I,an,U,C⟩;have lw:L.length=S.length:=by have:=congrArg List.length ab;rw[ae,ae]at this;exact this
 rw[lw,aN]at U;refine q t (λa u e=>?_) ⟨R,.inl I,λkv a4=>?_,λw hw=>?_⟩;have Z:a≠m:=λz=>by rw[z,gR (by simp)]at e;cases e
 rw[fG (by simpa using Z)]at e;rcases sf a u e with z|⟨z1,o',z2⟩;exact .inl (C _ _ (by rw[fG (by simpa using Z)];exact z));exact .inr ⟨z1,o',C _ _ (by rw[fG (by simpa using Z)];exact z2)⟩;have h1:kv.1∈R.map (·.1):=br a4;rw[an.2]at h1;obtain⟨cd,h2,h3⟩:=aA.mp h1;rw[<-h3];exact ch cd h2;rw[U w hw,fA.NU c λk hk=>?_];have:=jw (as (some k) (iq hk));rw[ab]at this;obtain⟨u,a9,G⟩:=aA.mp this;rw[i7 G]at a9;exact a9
end
section
variable {H:Hp}{p C dx:eQ}{fs:eW (Str×V)}(hp:H p=some (.ins C dx fs))
include hp
theorem kK {u:HO}(e:H a=some u)(h:u≠.ins C dx fs):del H [p] a=some u:=by rw[fG (by simpa using gF e hp h)];exact e
theorem lW {u:HO}(h:Rd H a u)(n:u≠.ins C dx fs):Rd (del H [p]) a u:=h.imp (λz=>kK hp z n) (by rintro⟨o,z⟩;exact⟨o,kK hp z λy=>nomatch y⟩)
theorem iu.apart {ns:eW Nd}(h:iu H a ns):iu (del H [p]) a ns:=(by obtain⟨xs,h1,h2⟩:=h;exact⟨xs,kK hp h1 (λz=>nomatch z),Paired.LJ h2 (by rintro _ _ ⟨q,e1,e2⟩;exact⟨q,e1,kK hp e2 λz=>nomatch z⟩)⟩)
theorem ia.apart {b st:eQ}(h:ia CB H b st es)(C:b≠p):ia CB (del H [p]) b st es:=by obtain⟨s,t,y,d,o,F,v,A,E,G⟩:=h.ex;refine⟨s,t,y,d,o,by rw[fG (by simpa using C)];exact F,lW hp v (λz=>nomatch z),Paired.LJ A λ_ _ z=>?_,lW hp E (λz=>nomatch z),λx=>?_⟩;obtain⟨g,a,B,i,j,e⟩:=z;exact⟨g,a,B,i,kK hp j (λz=>nomatch z),Paired.LJ e (by rintro _ _ ⟨q,D,I⟩;exact⟨q,D,kK hp I λz=>nomatch z⟩)⟩;rcases G x with z|⟨l,m,g,i,j,e⟩;exact .inl z;exact .inr ⟨l,m,g,kK hp i (λz=>nomatch z),j,e⟩
theorem iZ.apart {c:fA}{g:fc Pk->Nat}(h:iZ H a c g):iZ (del H [p]) a c g:=(by obtain⟨kvs,h1,h2⟩:=h;exact⟨kvs,lW hp h1 (λz=>nomatch z),h2⟩)
theorem pj.apart {c:fA}(h:pj H a c):pj (del H [p]) a c:=(by obtain⟨kvs,h1,h2⟩:=h;exact⟨kvs,lW hp h1 (λz=>nomatch z),λk hk=>(by obtain⟨v,g1,q,g2,g3⟩:=h2 k hk;exact⟨v,g1,q,g2,kK hp g3 λz=>nomatch z⟩)⟩)
theorem mI.apart {c:fA}(h:mI H a c):mI (del H [p]) a c:=(by obtain⟨kvs,h1,h2⟩:=h;exact⟨kvs,lW hp h1 (λz=>nomatch z),h2⟩)
end
def BS {CB b st H p C dx}(h:ia CB H b st es)(hp:H p=some (.ins C dx [])):b≠p:=by
 obtain⟨j,d,g,a,i,e,_⟩:=h.ex;refine gF e hp λz=>?_;injection z with _ _ z
 have:=gT d g;rw[z]at this;cases this
def jK.upd {d:eQ}{c:fA}{w:fc Pk}{k:eW (hJ×V)}{u:HO}(h:jK H d c w)(i:H a=some (.dN k)):jK (upd H a u) d c w:=by obtain⟨o,b,e,j,g⟩:=h;exact⟨o,b,by rw[fw (gF e i λz=>nomatch z)];exact e,j,g⟩
def yk (e:fF (del H [p]) H'):fF (del H [p]) (del H' [p]):=λa u h=>by
 have na:a≠p:=λz=>by rw[z,gR (by simp)]at h;cases h
 rcases e a u h with z|⟨z,o,y⟩;exact .inl (by rw[fG (by simpa using na)];exact z);exact .inr ⟨z,o,by rw[fG (by simpa using na)];exact y⟩
inductive yb (CB CC:eQ)(vs:eW V)(H:Hp)(Q:VK)(E:XK):Prop
 |mk (p dx b st:eQ)(es:eW En)(sn:eW Nd)(_:vs=[.ref p,.ref b])(_:H p=some (.ins CC dx []))(_:ia CB H b st es)(_:iu H st sn)(_:(es.map fN).Nodup)(_:es.length<64)(_:∀w,(ju es sn w).length<=100)(_:∀(c:fA) H',c.es=es->c.sn=sn->fF (del H [p]) H'->jk CB CC H' p c->Q .non H')
structure GF (G H:Hp)(pp C dx aa:eQ)(fs':eW (Str×V))(u:HO)(H':Hp):Prop where
 g:fF G H'
 p:H' pp=some (.ins C dx fs')
 a:H' aa=some u
 o:∀b,b≠pp->b≠aa->H' b=H b
 ga:G aa=none
 np:aa≠pp
 keep:∀b v,b≠pp->H b=some v->H' b=some v
def jY {fs fs':eW (Str×V)}{u:HO}(h:fF G H)(i:G p=none)(hp:H p=some (.ins C dx fs))(d:H a=none):GF G H p C dx a fs' u (upd (upd H a u) p (.ins C dx fs')):=by have j:p≠a:=fC hp d;exact⟨(h.upd (h.free d)).upd i,fj,by rw[fw (Ne.symm j)];exact fj,λb g l=>by rw[fw g,fw l],h.free d,Ne.symm j,λb v g e=>by rw[fw g,fw (fC e d)];exact e⟩
theorem xA {H:Hp}:∀{nks:eW (hJ×V)} {es:eW En},ff (nW H) nks es->nks.map (·.1)=es.map λe=>gC (some (fN e))
 |_,_,.nil=>rfl
 |_,_,.cons h r=>by rw[aH,aH,xA r,h.1];rfl
abbrev Ka (b:eQ):eW (Str×V):=[("board",.ref b)]
noncomputable abbrev Jj (b bits:eQ):eW (Str×V):=[("board",.ref b),("bits",.ref bits)]
noncomputable abbrev Ji (b bits by_:eQ):eW (Str×V):=[("board",.ref b),("bits",.ref bits),("by_bit",.ref by_)]
def Lj (b:eQ):ij ("board":Str) (V.ref b) []=Ka b:=by kernel_rfl
def Li (b bits:eQ):ij ("bits":Str) (V.ref bits) (Ka b)=Jj b bits:=by kernel_rfl
def Lh (b bits a:eQ):ij ("by_bit":Str) (V.ref a) (Jj b bits)=Ji b bits a:=by kernel_rfl
def Lg (b bits a d:eQ):ij ("of_part":Str) (V.ref d) (Ji b bits a)=zB b bits a d:=by kernel_rfl
def Lf (b bits d a e h g:eQ):ij ("foes":Str) (V.ref g) (ij ("shut_out":Str) (V.ref h) (ij ("allowed":Str) (V.ref e) (zB b bits d a)))=Ga b bits d a e h g:=by kernel_rfl
section
variable {w:fe}{base:fb}{f:eQ}
def Eh:fL ["self","board","who"] ["self","board"] (fE sZ):=jD
theorem yH (F:je K "__init__" "Chart.__init__" sZ f fd)(T:TC K mg CC)(cz:TB K mg CB)(MG:Mt P w K mg base CC gM 1 "give_bits" ["self"] (Eu CB CC))(MA:Mt P w K mg base CC gM 3 "allowed_by" ["self","who"] (vn CB CC))(MS:Mt P w K mg base CC gM 1 "shut_out_by" ["self","who"] (vf CC))(MM:Mt P w K mg base CC gM 2 "make_foes_mutual" ["self"] (xU CC)):gv P w K mg base gM 4 f fd ["self","board"] (yb CB CC):=by
 refine F.ok Eh λf1 A fp s H vs Q E hr h=>?_;obtain⟨p,m,b,st,es,sn,rfl,hp,hB,hN,d8,c8,fr,q⟩:=h;have hu:=iD hr;refine⟨_,(fm (kI T.cl T.nBoard (pv 0) (pv 1)) (fm (kI T.cl T.nBits (pv 0) (uD fD)) (fm (kI T.cl T.nBy (pv 0) jb) (fm (kI T.cl T.nOf (pv 0) jb) (fm (gq (rN MG (hr.mono (by decide)) gJ (pv 0))) (fm (kI T.cl T.nAl (pv 0) nL) (fm (kI T.cl T.nSh (pv 0) nL) (fm (kI T.cl T.nFo (pv 0) nL) (fm (ie PassesOwn.never rfl (tH (fK cz.cl cz.nN (pv 1))) (fQ (i:=2) Eh.nd) (fm (lX hu (fK T.cl T.nAl (pv 0)) (pv 2) (iY MA hr gJ (pv 0) (fi (pv 2) fq)) rfl) (fm (lX hu (fK T.cl T.nSh (pv 0)) (pv 2) (iY MS (hr.mono (by decide)) gJ (pv 0) (fi (pv 2) fq)) rfl) (fz (lX hu (fK T.cl T.nFo (pv 0)) (pv 2) (gj hu (fK T.cl T.nSh (pv 0)) (pv 2)) rfl))))) (fz (gq (rN MM (hr.mono (by decide)) gJ (pv 0))))))))))))),?_⟩;have a0:del H [p] p=none:=gR (by simp);have fx:=BS hB hp;have B0:=hB.apart hp fx;have N0:=hN.apart hp;generalize dp:del H [p]=G0 at *;have e9:fF G0 H:=by rw[<-dp];exact(gy _ _).toF
 refine⟨_,rfl,_,rfl,p,m,_,rfl,hp,(by decide),?_⟩;generalize c6:upd H p (.ins CC m (ij ("board":Str) (V.ref b) []))=H1;have bf:H1 p=some (.ins CC m (Ka b)):=by rw[<-c6,fj,Lj]
 have e8:fF G0 H1:=by rw[<-c6];exact e9.upd a0
 intro bits an;have em:p≠bits:=fC bf an;refine⟨fj,_,rfl,p,m,_,rfl,(by rw[jT,fw em];exact bf),(by show 1<1000;decide),?_⟩;rw[jT,Li];have A2:=jY (fs':=Jj b bits) (u:=.dN [(none,.int 0)]) e8 a0 bf an;generalize upd (upd H1 bits (.dN [(none,.int 0)])) p (.ins CC m (Jj b bits))=H2 at A2 ⊢;intro j c4;have ey:p≠j:=fC A2.p c4;refine⟨_,rfl,p,m,_,rfl,(by rw[fw ey];exact A2.p),(by show 2<1000;decide),?_⟩;rw[Lh];have A3:=jY (fs':=Ji b bits j) (u:=.dK []) A2.g a0 A2.p c4;generalize upd (upd H2 j (.dK [])) p (.ins CC m (Ji b bits j))=N at A3 ⊢;intro l ap;have ec:p≠l:=fC A3.p ap;refine⟨_,rfl,p,m,_,rfl,(by rw[fw ec];exact A3.p),(by show 3<1000;decide),?_⟩;rw[Lg];have A4:=jY (fs':=zB b bits j l) (u:=.dK []) A3.g a0 A3.p ap;generalize upd (upd N l (.dK [])) p (.ins CC m (zB b bits j l))=H4 at A4 ⊢;have a6:=A4.keep _ _ A2.np (A3.keep _ _ A2.np A2.a);have ds:=A4.keep _ _ A3.np A3.a;refine⟨_,rfl,p,m,_,rfl,A4.p,rfl,p,m,b,bits,j,l,st,es,sn,rfl,A4.p,B0.f A4.g,d8,c8,a6,ds,A4.a,fC A3.a ap,λc H5 c1 c2 bq M5 fv ek=>?_⟩;subst c1;subst c2;have cp:fF G0 H5:=λa u e=>by
  rcases A4.g a u e with z|⟨z1,o,z2⟩;refine bq a u ?_;rw[fG (by
   simp only[ao,aU,or_false,not_or]
   exact⟨(λy=>by rw[y,A2.ga]at e;cases e),(λy=>by rw[y,A3.ga]at e;cases e),(λy=>by rw[y,A4.ga]at e;cases e)⟩)]
  exact z;refine .inr ⟨z1,o,bq.frz ?_⟩;rw[fG (by
   simp only[ao,aU,or_false,not_or]
   exact⟨(λy=>by rw[y,A2.ga]at e;cases e),(λy=>by rw[y,A3.ga]at e;cases e),(λy=>by rw[y,A4.ga]at e;cases e)⟩)]
  exact z2
 have D:H5 p=some (.ins CC m (zB b bits j l)):=bq.ins (by
  rw[fG (by
    simp only[ao,aU,or_false,not_or]
    exact⟨Ne.symm A2.np,Ne.symm A3.np,Ne.symm A4.np⟩)]
  exact A4.p)
 have b8:del H5 [p] p=none:=gR (by simp);have ed:fF (del H5 [p]) H5:=(gy _ _).toF;have gg:fF G0 (del H5 [p]):=by rw[<-dp]at cp ⊢;exact yk cp
 have M1:=M5.apart D;have cs:=fv.apart D;have c3:=ek.apart D;generalize f2:del H5 [p]=G1 at *;have B1:=B0.f gg;have N1:=N0.f gg;intro t cv;have e7:p≠t:=fC D cv;refine⟨_,rfl,p,m,_,rfl,(by rw[fw e7];exact D),(by show 4<1000;decide),?_⟩;have S:=jY (fs':=ij ("allowed":Str) (V.ref t) (zB b bits j l)) (u:=.dN []) ed b8 D cv;generalize upd (upd H5 t (.dN [])) p (.ins CC m (ij ("allowed":Str) (V.ref t) (zB b bits j l)))=H6 at S ⊢;intro C ch;have fa:p≠C:=fC S.p ch;refine⟨_,rfl,p,m,_,rfl,(by rw[fw fa];exact S.p),(by show 5<1000;decide),?_⟩;have X:=jY (fs':=ij ("shut_out":Str) (V.ref C) (ij ("allowed":Str) (V.ref t) (zB b bits j l))) (u:=.dN []) S.g b8 S.p ch;generalize upd (upd H6 C (.dN [])) p (.ins CC m (ij ("shut_out":Str) (V.ref C) (ij ("allowed":Str) (V.ref t) (zB b bits j l))))=H7 at X ⊢;intro I a4;have ea:p≠I:=fC X.p a4;refine⟨_,rfl,p,m,_,rfl,(by rw[fw ea];exact X.p),(by show 6<1000;decide),?_⟩;rw[Lf];have Z:=jY (fs':=Ga b bits j l t C I) (u:=.dN []) X.g b8 X.p a4;generalize upd (upd H7 I (.dN [])) p (.ins CC m (Ga b bits j l t C I))=H8 at Z ⊢;have d2:=Z.keep _ _ S.np (X.keep _ _ S.np S.a);have c7:=Z.keep _ _ X.np X.a;have cx:=Z.a;have d7:t≠C:=fC S.a ch;have b7:t≠I:=fC (X.keep _ _ S.np S.a) a4;have a9:C≠I:=fC X.a a4;obtain⟨bx,dn,dv,ag,vk,b1,b2,b3,b4,b5⟩:=id B1.ex;have ln:=Paired.length b3;have fk:=Z.g.rd b2;have bl:G1 dn≠none:=λz=>by rcases b2 with y|⟨o,y⟩ <;> (rw[z]at y;cases y)
 have dy:dn≠t:=λz=>bl (by rw[z];exact S.ga);have d1:dn≠C:=λz=>bl (by rw[z];exact X.ga);have cy:dn≠I:=λz=>bl (by rw[z];exact Z.ga);refine⟨_,rfl,b,bx,_,_,rfl,Z.g.ins b1,gT _ _,dn,_,rfl,fk,λo H9 d5 ah e4=>?_⟩;have c0:H9 t=some (.dN []):=by rw[ah t (Ne.symm dy)];exact d2
 have dl:H9 C=some (.dN []):=by rw[ah C (Ne.symm d1)];exact c7
 have d4:H9 I=some (.dN []):=by rw[ah I (Ne.symm cy)];exact cx
 have el:fF G1 H9:=Z.g.trans d5;have fu:=d5.ins Z.p
 let ws:eW (fc Pk):=none::c.es.map λe=>some (fN e)
 have da:((none,V.ref st)::ag).map (·.1)=ws.map gC:=by rw[aH,xA b3];show _=gC none::(c.es.map λe=>some (fN e)).map gC;rw[cR];rfl
 have c9:((none,V.ref st)::ag).length=ws.length:=by have:=congrArg List.length da;rw[ae,ae]at this;exact this
 have f0:ws.length<=64:=by show(none::c.es.map λe=>some (fN e)).length<=64;rw[au,ae];lia
 have ad:∀w∈ws,c.Who w:=λw M k e=>by subst e;rcases ao.mp M with z|z;cases z;obtain⟨e,he,z⟩:=aA.mp z;exact(c.mem k).mpr (Option.some.inj z▸br he)
 have O:∀w,c.Who w->w∈ws:=λw M=>by cases w with|none=>exact bH|some k=>obtain⟨e,he,z⟩:=aA.mp ((c.mem k).mp (M k rfl));exact bt _ (aA.mpr ⟨e,he,by rw[z]⟩)
 have d9:ws.Nodup:=by
  refine bb.mpr ⟨λz=>?_,?_⟩;obtain⟨e,_,z⟩:=aA.mp z;cases z;have:(c.es.map λe=>some (fN e))=(c.es.map fN).map some:=by rw[cR];rfl
  rw[this];exact di.mpr (d8.imp λh z=>h (Option.some.inj z))
 have cn:c.n<64:=by rw[c.n_eq];exact c8
 refine wy (kvs:=(none,.ref st)::ag) (λi σ H2=>∃J G kf o2,σ=[some (.ref p),some (.ref b),o2]/\H2 p=some (.ins CC m (Ga b bits j l t C I))/\H2 dn=some (.frz o (.dN ((none,.ref st)::ag)))/\H2 t=some (.dN J)/\H2 C=some (.dN G)/\H2 I=some (.dN kf)/\J.length<=i/\G.map (·.1)=(ws.take i).map gC/\kf.map (·.1)=(ws.take i).map gC/\(∀w∈ws.take i,(∃d,fW J (gC w)=some (.ref d)/\jK H2 d c w)/\fW G (gC w)=some (.int (c.Nr w))/\fW kf (gC w)=some (.int (c.Nr w)))/\fF G1 H2)
  ⟨[],[],[],none,rfl,fu,e4,c0,dl,d4,am _,by simp,by simp,λw M=>by simp at M,el⟩ ((by rintro i σ H2 _ ⟨_,_,_,_,_,_,e,_⟩;exact e)) ?_ ?_
 rintro i kv x σ H2 hi kx ⟨J,G,kf,o2,rfl,L,dc,co,bd,a1,la,Y,lf,B,g2⟩;have d3:(((none,V.ref st)::ag).map (·.1))[i]?=some kv.1:=by rw[ai,hi];rfl
 rw[da,ai]at d3;obtain⟨v,hv,ev⟩:=aF.mp d3;rw[<-ev]at kx;have a3:=iI.of kx;have ep:=ak hv;have e0:=ad v ep;have f6:i<64:=by have:=(aj.mp hv).1;lia
 have ht:ws.take (i+1)=ws.take i++[v]:=by rw[aZ,hv];rfl
 have d6:v∉ws.take i:=λz=>by
  obtain⟨i',ab⟩:=aD.mp z;rw[cu]at ab;split at ab
  next hlt2=>have:=(cG (aj.mp ab).1 d9).mp (ab.trans hv.symm);lia
  cases ab
 have Je:kf.length<=i:=by have:=congrArg List.length lf;rw[ae,ae,aW]at this;lia
 have fy:G.length<=i:=by have:=congrArg List.length Y;rw[ae,ae,aW]at this;lia
 refine⟨_,rfl,p,m,_,rfl,L,rfl,_,rfl,p,m,b,bits,st,_,x,c,v,rfl,L,rfl,rfl,B1.f g2,N1.f g2,M1.f g2,e0,a3,cn,fr v,λd N s3 hd eq=>?_⟩;have f4:p≠d:=fC L hd;have a7:=s3 _ _ L;have a2:=s3 _ _ co;have e5:mJ N (gC v) x:=(a3.same s3).key;refine⟨_,rfl,p,m,_,_,rfl,a7,rfl,_,rfl,t,_,rfl,ml.of (k:=gC v) a2 e5 (fO (by lia)),?_⟩;have g3:fF G1 N:=g2.trans s3.toF;have g4:fF G1 (upd N t (.dN (gz J (gC v) (.ref d)))):=g3.upd S.ga;have c5:upd N t (.dN (gz J (gC v) (.ref d))) t=some (.dN (gz J (gC v) (.ref d))):=fj;have be:jK (upd N t (.dN (gz J (gC v) (.ref d)))) d c v:=eq.upd a2;have k4:∀{a u},a≠t->N a=some u->upd N t (.dN (gz J (gC v) (.ref d))) a=some u:=λ{a u} n e=>by rw[fw n];exact e
 have b0:∀w∈ws.take i,∃d',fW J (gC w)=some (.ref d')/\jK (upd N t (.dN (gz J (gC v) (.ref d)))) d' c w:=λw M=>by obtain⟨⟨d',e1,R⟩,_⟩:=B w M;exact⟨d',e1,(R.same s3).upd a2⟩
 have a8:iI (upd N t (.dN (gz J (gC v) (.ref d)))) x v:=by cases v with|none=>exact a3|some kk=>obtain⟨q0,e1,R⟩:=(show fX H2 x kk from a3);exact⟨q0,e1,k4 (gF (s3 _ _ R) a2 λz=>nomatch z) (s3 _ _ R)⟩
 have as:=k4 (Ne.symm S.np) a7;have a5:=k4 (Ne.symm d7) (s3 _ _ bd);have e6:=k4 (Ne.symm b7) (s3 _ _ a1);have ez:=k4 dy (s3 _ _ dc)
 clear_value ws
 generalize f5:upd N t (.dN (gz J (gC v) (.ref d)))=H4 at *;refine⟨_,rfl,p,m,_,rfl,as,rfl,_,rfl,p,m,t,l,d,_,x,c,v,rfl,as,rfl,rfl,⟨_,gC v,.inl c5,a8.key,by rw[ii,ay rfl]⟩,be,c3.f g4,?_⟩;refine⟨_,rfl,p,m,_,_,rfl,as,rfl,_,rfl,C,_,rfl,ml.of (k:=gC v) a5 a8.key (fO (by lia)),?_⟩;have g5:fF G1 (upd H4 C (.dN (gz G (gC v) (.int (c.Nr v))))):=g4.upd X.ga;have k5:∀{a u},a≠C->H4 a=some u->upd H4 C (.dN (gz G (gC v) (.int (c.Nr v)))) a=some u:=λ{a u} n e=>by rw[fw n];exact e
 have du:upd H4 C (.dN (gz G (gC v) (.int (c.Nr v)))) C=some (.dN (gz G (gC v) (.int (c.Nr v)))):=fj;have D:=k5 (Ne.symm X.np) as;have eh:=k5 d7 c5;have cd:=k5 (Ne.symm a9) e6;have ft:=k5 d1 ez;have dt:iI (upd H4 C (.dN (gz G (gC v) (.int (c.Nr v))))) x v:=by cases v with|none=>exact a8|some kk=>obtain⟨q0,e1,R⟩:=(show fX H4 x kk from a8);exact⟨q0,e1,k5 (gF R a5 λz=>nomatch z) R⟩
 have ct:=be.upd (u:=.dN (gz G (gC v) (.int (c.Nr v)))) a5;have bv:∀w∈ws.take i,∃d,fW J (gC w)=some (.ref d)/\jK (upd H4 C (.dN (gz G (gC v) (.int (c.Nr v))))) d c w:=λw M=>by obtain⟨d',e1,R⟩:=b0 w M;exact⟨d',e1,R.upd a5⟩
 generalize f3:upd H4 C (.dN (gz G (gC v) (.int (c.Nr v))))=H5' at *;refine⟨_,rfl,p,m,_,_,rfl,D,rfl,_,rfl,C,_,rfl,⟨_,gC v,.inl du,dt.key,by rw[ii,ay rfl]⟩,_,rfl,p,m,_,_,rfl,D,rfl,_,rfl,I,_,rfl,ml.of (k:=gC v) cd dt.key (fO (by lia)),?_⟩;have k6:∀{a u},a≠I->H5' a=some u->upd H5' I (.dN (gz kf (gC v) (.int (c.Nr v)))) a=some u:=λ{a u} n e=>by rw[fw n];exact e
 refine⟨_,_,_,_,rfl,k6 (Ne.symm Z.np) D,k6 cy ft,k6 b7 eh,k6 a9 du,fj,?_,?_,?_,λu U=>?_,g5.upd Z.ga⟩;have:=hZ J (gC v) (V.ref d);lia;have bm:fW G (gC v)=none:=by cases hq:fW G (gC v) with|none=>rfl|some u=>have:=jw hq;rw[Y]at this;obtain⟨y,hy,e⟩:=aA.mp this;rw[i7 e]at hy;exact absurd hy d6
 rw[iR _ bm,aC,Y,ht,aC];rfl;have bm:fW kf (gC v)=none:=by cases hq:fW kf (gC v) with|none=>rfl|some u=>have:=jw hq;rw[lf]at this;obtain⟨y,hy,e⟩:=aA.mp this;rw[i7 e]at hy;exact absurd hy d6
 rw[iR _ bm,aC,lf,ht,aC];rfl;rw[ii,ii,ii];by_cases eu:u=v;subst eu;rw[ay rfl,ay rfl,ay rfl];exact⟨⟨d,rfl,ct.upd cd⟩,rfl,rfl⟩;have ne:¬gC u=gC v:=λz=>eu (i7 z);rw[ax ne,ax ne,ax ne];have dd:u∈ws.take i:=by rw[ht]at U;exact(aE.mp U).elim id λz=>absurd (af.mp z) eu
 obtain⟨d',e1,R⟩:=bv u dd;exact⟨⟨d',e1,R.upd cd⟩,(B u dd).2⟩;rintro σ H2 ⟨J,G,kf,o2,rfl,L,dc,co,bd,a1,la,Y,lf,B,g2⟩;rw[c9,aN]at Y B lf;rw[c9]at la;have Je:kf.length<=64:=by have:=congrArg List.length lf;rw[ae,ae]at this;lia
 have eb:bits≠I:=λz=>by obtain⟨kvs,y,_⟩:=M1;rw[z]at y;rcases y with y|⟨o',y⟩ <;> (rw[Z.ga]at y;cases y)
 refine⟨_,rfl,p,m,_,rfl,L,rfl,p,m,b,bits,j,l,t,C,I,c,G,kf,rfl,L,M1.f g2,cs.f g2,cn,eb,a9,bd,λkv b6=>?_,λw M=>(B w (O w M)).2.1,a1,Je,λkv b6=>?_,λw M=>(B w (O w M)).2.2,λN aa ew=>?_⟩;have:kv.1∈G.map (·.1):=br b6;rw[Y]at this;obtain⟨u,b9,U⟩:=aA.mp this;exact⟨u,ad u b9,U.symm⟩;have:kv.1∈kf.map (·.1):=br b6;rw[lf]at this;obtain⟨u,b9,U⟩:=aA.mp this;exact⟨u,ad u b9,U.symm⟩;have g3:fF G1 N:=λa u e=>by
  have na:a≠I:=λz=>by rw[z,Z.ga]at e;cases e
  rcases g2 a u e with z|⟨z1,o',z2⟩;exact aa a u (by rw[fG (by simpa using na)];exact z);exact .inr ⟨z1,o',aa.frz (by rw[fG (by simpa using na)];exact z2)⟩
 have a7:=aa.ins (b:=p) (by rw[fG (by simpa using ea)];exact L);refine q c N rfl rfl (gg.trans g3) ⟨m,b,bits,j,l,t,C,I,st,a7,B1.f g3,N1.f g3,M1.f g3,cs.f g3,c3.f g3,?_,?_,ew⟩;refine⟨J,aa.rd (.inl (by rw[fG (by simpa using b7)];exact co)),λw M=>?_⟩;obtain⟨⟨d,e1,o',ej,R,e3⟩,_⟩:=B w (O w M);exact⟨d,e1,o',ej,aa.frz (by rw[fG (by simpa using gF R a1 λz=>nomatch z)];exact R),e3⟩;exact⟨G,aa.rd (.inl (by rw[fG (by simpa using a9)];exact bd)),λw M=>(B w (O w M)).2.1⟩
end
inductive DP (CB CC CL:eQ)(vs:eW V)(H:Hp)(Q:VK)(E:XK):Prop
 |mk (G:Hp)(p ch:eQ)(c:fA)(L:jz)(O:eW eQ)(m:Nat)(r:V)(rr:Rs)(_:vs=[.ref p,.int (m:Int),r])(_:fF G H)(_:jk CB CC G ch c)(_:im CL G H p ch c L O)(_:vp G r rr)(_:m<2^c.n)(_:c.n<64)(_:L.length<sizeLine)(_:∀j,oj L m=some j->Q (.int (j:Nat)) H)(_:oj L m=none->∀H' O',jq G H O G H' O'->im CL G H' p ch c (L++[(m,rr)]) O'->Q (.int (L.length:Nat)) H')
def KO {b c d:eQ}{l:eW eQ}(h:(a::b::c::d::l).Nodup):a≠b/\a≠c/\a≠d/\b≠c/\b≠d/\c≠d/\a∉l/\b∉l/\c∉l/\d∉l:=by simp only[bb,ao,not_or]at h;obtain⟨⟨p,m,t,o⟩,⟨s,g,q⟩,⟨j,i⟩,e,_⟩:=h;exact⟨p,m,t,s,g,j,o,q,i,e⟩
def u7 {c:fA}(h:jk CB CC H p c):∃dx by_ fs,H p=some (.ins CC dx fs)/\fs.lookup ("by_bit":Str)=some (V.ref by_)/\pj H by_ c/\fs.lookup ("listed":Str)=none:=by obtain⟨dx,b,bits,by_,a,o,s,i,l,d,j,q,m,e,g⟩:=h.ex;exact⟨dx,by_,_,d,rfl,e,rfl⟩
def nJ (e:fH H H'){u:HO}(h:H a=some u):H' a=H a:=(e a u h).trans h.symm
theorem qw {α:Type}{l:eW α}(hn:l.Nodup){k:α}(h:l[j]?=some k):k∉l.take j:=λz=>by
 obtain⟨i',hi'⟩:=aD.mp z;rw[cu]at hi';split at hi'
 next hlt2=>have:=(cG (aj.mp hi').1 hn).mp (hi'.trans h.symm);lia
 cases hi'
def gY {α:Type}{l:eW α}{k:α}(h:l[j]?=some k):l.take (j+1)=l.take j++[k]:=by rw[aZ,h];rfl
section
variable {w:fe}{base:fb}{f:eQ}
def ES:fL ["self","mask","reason","place","pick"] ["self","mask","reason"] (fE E3):=jD
theorem Fs (F:je K "put_down" "Ledger.put_down" E3 f fd)(T:TL K mg CL)(ML:Mt P w K mg base CC gM 1 "listed" ["self","mask"] (lH CC)):gv P w K mg base gM 2 f fd ["self","mask","reason"] (DP CB CC CL):=by
 refine F.ok ES λed A d7 s H vs Q E hr h=>?_;obtain⟨G,p,ch,c,L,O,m,r,rr,rfl,gh,hC,Y,hR,hm,d4,cd,q1,q2⟩:=h;have hu:=iD hr;refine⟨_,(fm (gK (jO (mo hu (pv 1) (fK T.cl T.nPm (pv 0)))) (fm (fJ (i:=3) ES.nd (gN gO rfl T.len bP (fi (fK T.cl T.nMa (pv 0)) fq))) (fm (gq (jM aR bn bj iy (fK T.cl T.nMa (pv 0)) (fi (pv 1) fq))) (fm (gq (jM aR bn bj iy (fK T.cl T.nRe (pv 0)) (fi (pv 2) fq))) (fm (jW hu (fK T.cl T.nPm (pv 0)) (pv 1) (pv 3) rfl) (fz (ie PassesOwn.never rfl (gL (iY ML hr gJ (fK T.cl T.nCh (pv 0)) (fi (pv 1) fq))) (fQ (i:=4) ES.nd) (fz (gq (jM aR bn bj iy (yn hu (fK T.cl T.nPp (pv 0)) (pv 4) (gE fq) ⟨rfl,rfl,rfl,rfl⟩) (fi (pv 3) fq)))))))))) gi) (fz (gc (iP hu (fK T.cl T.nPm (pv 0)) (pv 1))))),?_⟩;obtain⟨dx,M,re,I,J,S,rs,Ol,rfl,hp,cs,dc,da,cz,ej,c3,bq,kl,hB⟩:=id Y.ex;have ah:H p=some (.ins CL dx (Bo ch M re I J)):=gh.ins hp;obtain⟨n1,n2,n3,n4,n5,n6,n7,n8,n9,ec⟩:=KO Y.nd;have co:jS H I (.int (m:Int)) ((oj L m).map λi=>V.int (i:Nat)):=.inl ⟨S,Sum.inl (m:Int),.inl cz,rfl,(c3 m).symm⟩;refine⟨_,rfl,_,rfl,p,dx,_,_,rfl,ah,rfl,I,_,rfl,co,_,rfl,?_⟩;cases hpos:oj L m with|some j=>rw[hpos]at co;exact gB ⟨_,rfl,p,dx,_,_,rfl,ah,rfl,_,rfl,I,_,rfl,co,q1 j hpos⟩|none=>
  refine ip ?_;have dp:p∉M::re::I::J::Ol:=λz=>by rw[Y.off p z]at hp;cases hp
  have ct:∀{a},a∈M::re::I::J::Ol->p≠a:=λ{a} h z=>dp (z▸h);have c0:p≠M:=ct (by simp);have d8:p≠re:=ct (by simp);have ea:p≠I:=ct (by simp);have lL:(iL (L.map (·.1))).length=L.length:=by unfold iL;rw[ae,ae]
  have d3:rs.length=L.length:=by rw[Paired.length da,ae]
  refine⟨_,rfl,p,dx,_,_,rfl,ah,rfl,M,_,rfl,.inl (gf.of cs),?_⟩;rw[lL];refine⟨_,rfl,p,dx,_,V.ref M,rfl,ah,rfl,.inl ⟨rfl,_,gf.of cs⟩,_,rfl,M,_,_,rfl,rfl,cs,(by rw[lL];exact cd),?_⟩;refine⟨_,rfl,p,dx,_,V.ref re,rfl,(by rw[fw c0];exact ah),rfl,.inl ⟨rfl,_,gf.of (by rw[fw (Ne.symm n1)];exact dc)⟩,_,rfl,re,_,_,rfl,rfl,(by rw[fw (Ne.symm n1)];exact dc),(by rw[d3];exact cd),?_⟩;refine⟨_,rfl,_,rfl,p,dx,_,_,rfl,(by rw[fw d8,fw c0];exact ah),rfl,_,rfl,I,_,rfl,nF.k (k:=Sum.inl (m:Int)) (by rw[fw (Ne.symm n4),fw (Ne.symm n2)];exact cz) (by lia),?_⟩;have b0:upd (upd (upd H M (.lst (iL (L.map (·.1))++[.int (m:Int)]))) re (.lst (rs++[r]))) I (.dK (gz S (Sum.inl (m:Int)) (.int (L.length:Nat)))) M=some (.lst (iL ((L++[(m,rr)]).map (·.1)))):=by rw[fw n2,fw n1,fj];unfold iL;rw[aC,aC];rfl
  have bm:upd (upd (upd H M (.lst (iL (L.map (·.1))++[.int (m:Int)]))) re (.lst (rs++[r]))) I (.dK (gz S (Sum.inl (m:Int)) (.int (L.length:Nat)))) re=some (.lst (rs++[r])):=by rw[fw n4,fj]
  have a0:upd (upd (upd H M (.lst (iL (L.map (·.1))++[.int (m:Int)]))) re (.lst (rs++[r]))) I (.dK (gz S (Sum.inl (m:Int)) (.int (L.length:Nat)))) I=some (.dK (gz S (Sum.inl (m:Int)) (.int (L.length:Nat)))):=fj;have U:∀b,b≠M->b≠re->b≠I->upd (upd (upd H M (.lst (iL (L.map (·.1))++[.int (m:Int)]))) re (.lst (rs++[r]))) I (.dK (gz S (Sum.inl (m:Int)) (.int (L.length:Nat)))) b=H b:=λb b1 b2 b3=>by rw[fw b3,fw b2,fw b1]
  generalize upd (upd (upd H M (.lst (iL (L.map (·.1))++[.int (m:Int)]))) re (.lst (rs++[r]))) I (.dK (gz S (Sum.inl (m:Int)) (.int (L.length:Nat))))=H3 at b0 bm a0 U ⊢;have c5:fH (del H (M::re::I::J::Ol)) H3:=λa u e=>by
   have na:a∉M::re::I::J::Ol:=λz=>by rw[gR z]at e;cases e
   rw[fG na]at e;simp only[ao,not_or]at na;rw[U a na.1 na.2.1 na.2.2.1];exact e
  have g3:fF G H3:=i8 gh Y.off c5.toF;have b9:sq H3 c J (c.plc L) Ol bq kl:=hB.keep (U J (Ne.symm n3) (Ne.symm n5) (Ne.symm n6)) λa g=>U a (λz=>n7 (z▸g)) (λz=>n8 (z▸g)) (λz=>n9 (z▸g));have d1:∀a,H3 a=none->H a=none:=λa e=>by by_cases z1:a=M;rw[z1,b0]at e;cases e;by_cases z2:a=re;rw[z2,bm]at e;cases e;by_cases z3:a=I;rw[z3,a0]at e;cases e;rw[<-U a z1 z2 z3];exact e
  obtain⟨cx,dl,ek,c2,dy,d5,dv⟩:=u7 (hC.f g3);refine⟨_,rfl,p,dx,_,_,rfl,g3.ins hp,rfl,ch,cx,_,rfl,c2,dv,_,rfl,H3,ch,cx,dl,_,c,m,rfl,fF.refl _,c2,dy,d5,d4,hm,λl xs H4 s4 hl c6 c9 dn=>?_⟩;refine⟨l,rfl,⟨_,gf.of c6⟩,?_⟩;have lx:xs.length=(c.listed m).length:=Paired.length c9;have c4:l∉M::re::I::J::Ol:=λz=>by simp only[ao]at z;rcases z with z|z|z|z|z;rw[z,b0]at hl;cases hl;rw[z,bm]at hl;cases hl;rw[z,a0]at hl;cases hl;rw[z,b9.d]at hl;cases hl;obtain⟨u,C⟩:=Y.liv l (by simp[z]);rw[U l (λy=>n7 (y▸z)) (λy=>n8 (y▸z)) (λy=>n9 (y▸z)),C]at hl;cases hl
  have h4:∀a u,H3 a=some u->H4 a=some u:=s4;have d2:fH (del H (M::re::I::J::Ol)) H4:=c5.trans s4;refine iE (K:=K) (a:=l) (xs:=xs) (λj σ N=>∃bq kl Ol' o4,σ=[some (.ref p),some (.int (m:Int)),some r,some (.int (L.length:Nat)),o4]/\sq N c J (λk=>c.plc L k++if k∈(c.listed m).take j then [L.length] else []) Ol' bq kl/\(M::re::I::J::Ol').Nodup/\(∀a∈Ol',a∈Ol\/H a=none)/\(∀a∈Ol',G a=none)/\(∀a∈Ol',∃u,N a=some u)/\(∀a∈Ol',∀u,N a=some u->¬vv u)/\l∉Ol'/\N M=some (.lst (iL ((L++[(m,rr)]).map (·.1))))/\N re=some (.lst (rs++[r]))/\N I=some (.dK (gz S (Sum.inl (m:Int)) (.int (L.length:Nat))))/\N l=some (.lst xs)/\fH (del H (M::re::I::J::Ol)) N/\(∀v k,fX H3 v k->fX N v k)/\∀a,N a=none->H a=none)
   ⟨bq,kl,Ol,none,rfl,?_,Y.nd,λa g=>.inl g,λa g=>Y.off a (by simp[g]),λa g=>?_,λa g u dd=>?_,λz=>c4 (by simp[z]),h4 _ _ b0,h4 _ _ bm,h4 _ _ a0,c6,d2,(by rintro v k ⟨q,e1,e2⟩;exact⟨q,e1,h4 _ _ e2⟩),λa e=>d1 a (s4.free e)⟩ ((by rintro j σ N _ ⟨_,_,_,_,_,_,_,_,_,_,_,_,_,_,_,e,_⟩;exact gf.of e)) ?_ ?_
  refine(b9.keep (nJ s4 b9.d) λa g=>?_).fn λk hk=>?_;obtain⟨u,C⟩:=Y.liv a (by simp[g]);exact nJ s4 ((U a (λz=>n7 (z▸g)) (λz=>n8 (z▸g)) (λz=>n9 (z▸g))).trans C);rw[dX,ax (λz=>nomatch z),bZ];obtain⟨u,C⟩:=Y.liv a (by simp[g]);exact⟨u,s4 _ _ ((U a (λz=>n7 (z▸g)) (λz=>n8 (z▸g)) (λz=>n9 (z▸g))).trans C)⟩;obtain⟨v,c1⟩:=Y.liv a (by simp[g]);have e4:=s4 _ _ ((U a (λz=>n7 (z▸g)) (λz=>n8 (z▸g)) (λz=>n9 (z▸g))).trans c1);rw[dd]at e4;cases e4;exact Y.nf a (by simp[g]) _ c1;rintro j x σ N hj ⟨D,cn,X,o4,rfl,B5,al,an,ag,R,bx,as,ad,ab,Z,bl,aa,bf,ap⟩;obtain⟨k,bd,d6⟩:=Paired.Ml c9 hj;obtain⟨kq,rfl,c7⟩:=bf _ _ d6;have cp:=(fA.Mu.mp (ak bd)).1;have b8:=qw (c.MH m) bd;have g5:fF G N:=i8 gh Y.off aa.toF;have bv:=g5.ins hp;obtain⟨m1,m2,m3,m4,m5,m6,m7,m8,m9,b4⟩:=KO al;have gk:(c.plc L k++if k∈(c.listed m).take j then [L.length] else [])=c.plc L k:=by rw[ax b8,bZ]
  have lk:(iL (c.plc L k++if k∈(c.listed m).take j then [L.length] else [])).length<sizeLine:=by rw[gk];unfold iL;rw[ae];exact bX (c.NE k L 0) cd
  refine⟨_,rfl,p,dx,_,V.ref J,rfl,bv,rfl,J,rfl,⟨_,.inl B5.d⟩,_,rfl,oM,λB t=>?_⟩;have st:=fB t (.lst []);have be:B≠J:=λz=>by rw[z,B5.d]at t;cases t
  have b5:B∉X:=λz=>by obtain⟨u,C⟩:=R B z;rw[C]at t;cases t
  have cv:B≠M:=λz=>by rw[z,ad]at t;cases t
  have c8:B≠re:=λz=>by rw[z,ab]at t;cases t
  have b6:B≠I:=λz=>by rw[z,Z]at t;cases t
  have cy:B≠l:=λz=>by rw[z,bl]at t;cases t
  have eh:B≠kq:=λz=>by rw[z,c7]at t;cases t
  have eb:=B5.len;refine⟨D,gC (some k),st _ _ B5.d,⟨kq,rfl,st _ _ c7⟩,fO (by lia),λv hv=>?_,λhn=>?_⟩;have B6:sq (upd N B (.lst [])) c J _ X D cn:=B5.keep (nJ st B5.d) λa g=>by obtain⟨u,C⟩:=R a g;exact nJ st C
  obtain⟨l',e1⟩:∃l',v=.ref l':=by rcases B5.val k cp with ⟨z,_⟩|⟨l',z1,_⟩;rw[hv]at z;cases z;rw[hv]at z1;cases z1;exact⟨l',rfl⟩
  subst e1;obtain⟨i1,i2,i3⟩:=B6.old (i:=L.length) cp hv b4;refine⟨.inl ⟨rfl,_,gf.of i2⟩,_,rfl,l',_,_,rfl,rfl,i2,lk,?_⟩;have dt:∀{a},a∉X->a≠l':=λ{a} h z=>h (z▸i1);have d9:l'∉M::re::I::J::X->False:=λz=>z (by simp[i1]);have k6:∀{a u},a∉X->N a=some u->upd (upd N B (.lst [])) l' (.lst (iL (c.plc L k++if k∈(c.listed m).take j then [L.length] else [])++[.int (L.length:Nat)])) a=some u:=λ{a u} h e=>by rw[fw (dt h)];exact st _ _ e
  refine⟨_,_,_,_,rfl,i3.fn λy hy=>?_,al,an,ag,λa g=>?_,λa g v o=>?_,as,k6 m7 ad,k6 m8 ab,k6 m9 Z,k6 as bl,λa u e=>?_,λv y hy=>?_,λa e=>?_⟩;rw[gY bd];by_cases ey:y=k;subst ey;rw[ay rfl,ax b8,bZ,ay (by simp)];rw[ax ey];congr 1;simp only[aE,af,ey,or_false];by_cases z:a=l';exact⟨_,by rw[z];exact fj⟩;obtain⟨u,C⟩:=R a g;exact⟨u,by rw[fw z];exact st _ _ C⟩;by_cases z:a=l';rw[z,fj]at o;cases o;exact λq=>q;obtain⟨u,C⟩:=R a g;rw[fw z,st _ _ C]at o;cases o;exact bx a g _ C;have na:a≠l':=λz=>by rcases an l' i1 with y|y;rw[z,gR (by simp[y])]at e;cases e;have:=gy _ _ a u e;rw[z,y]at this;cases this
  rw[fw na];exact st _ _ (aa _ _ e);obtain⟨yq,y1,y2⟩:=bf v y hy;exact⟨yq,y1,by rw[fw (gF (st _ _ y2) i2 λz=>nomatch z)];exact st _ _ y2⟩;by_cases z:a=l';rw[z,fj]at e;cases e;rw[fw z]at e;exact ap a (st.free e);have b7:upd (upd N B (.lst [])) J (.dN (gz D (gC (some k)) (.ref B))) B=some (.lst []):=by rw[fw be];exact fj
  refine⟨.inl ⟨rfl,_,gf.of b7⟩,_,rfl,B,_,_,rfl,rfl,b7,(by show 0<sizeLine;decide),?_⟩;have e1:upd (upd (upd N B (.lst [])) J (.dN (gz D (gC (some k)) (.ref B)))) B (.lst ([]++[.int (L.length:Nat)])) J=some (.dN (gz D (gC (some k)) (.ref B))):=by rw[fw (Ne.symm be),fj]
  have e2:upd (upd (upd N B (.lst [])) J (.dN (gz D (gC (some k)) (.ref B)))) B (.lst ([]++[.int (L.length:Nat)])) B=some (.lst [.int (L.length:Nat)]):=fj;have e3:∀b,b≠J->b≠B->upd (upd (upd N B (.lst [])) J (.dN (gz D (gC (some k)) (.ref B)))) B (.lst ([]++[.int (L.length:Nat)])) b=N b:=λb b1 b2=>by rw[fw b2,fw b1,fw b2]
  generalize upd (upd (upd N B (.lst [])) J (.dN (gz D (gC (some k)) (.ref B)))) B (.lst ([]++[.int (L.length:Nat)]))=H7 at e1 e2 e3 ⊢;have B7:=B5.new (i:=L.length) cp hn b4 b5 be e1 e2 e3;refine⟨_,_,B::X,_,rfl,B7.fn λy hy=>?_,?_,λa g=>?_,λa g=>?_,λa g=>?_,λa g v o=>?_,λz=>?_,by rw[e3 M m3 (Ne.symm cv)];exact ad,by rw[e3 re m5 (Ne.symm c8)];exact ab,by rw[e3 I m6 (Ne.symm b6)];exact Z,?_,λa u e=>?_,λv y hy=>?_,λa e=>?_⟩;rw[gY bd];by_cases ey:y=k;subst ey;rw[ay rfl,ax b8,bZ,ay (by simp)];rw[ax ey];congr 1;simp only[aE,af,ey,or_false];simp only[bb,ao,not_or]at al ⊢;obtain⟨⟨a1,a2,a3,a4⟩,⟨a5,a6,a7⟩,⟨a8,a9⟩,ds,du⟩:=al;exact⟨⟨a1,a2,a3,Ne.symm cv,a4⟩,⟨a5,a6,Ne.symm c8,a7⟩,⟨a8,Ne.symm b6,a9⟩,⟨Ne.symm be,ds⟩,b5,du⟩;rcases ao.mp g with z|z;rw[z];exact .inr (ap B t);exact an a z;rcases ao.mp g with z|z;rw[z];exact g5.free t;exact ag a z;rcases ao.mp g with z|z;rw[z];exact⟨_,e2⟩;obtain⟨u,C⟩:=R a z;exact⟨u,by rw[e3 a (λy=>b4 (y▸z)) (λy=>b5 (y▸z))];exact C⟩;rcases ao.mp g with z|z;rw[z,e2]at o;cases o;exact λq=>q;rw[e3 a (λy=>b4 (y▸z)) (λy=>b5 (y▸z))]at o;exact bx a z v o;rcases ao.mp z with y|y;exact cy y.symm;exact as y;rw[e3 l (λz=>c4 (by simp[z])) (Ne.symm cy)];exact bl;have na:a≠J:=λz=>by rw[z,gR (by simp)]at e;cases e
  have nt:a≠B:=λz=>by have:=aa _ _ e;rw[z,t]at this;cases this
  rw[e3 a na nt];exact aa _ _ e;obtain⟨yq,y1,y2⟩:=bf v y hy;exact⟨yq,y1,by rw[e3 yq (gF y2 B5.d λz=>nomatch z) (fC y2 t)];exact y2⟩;by_cases z1:a=J;rw[z1,e1]at e;cases e;by_cases z2:a=B;rw[z2,e2]at e;cases e;rw[e3 a z1 z2]at e;exact ap a e;rintro σ N ⟨D,cn,X,o4,rfl,B5,al,an,ag,R,bx,as,ad,ab,Z,bl,aa,bf,ap⟩;rw[lx,aN]at B5;have g5:fF G N:=i8 gh Y.off aa.toF;refine⟨_,rfl,p,dx,_,_,rfl,g5.ins hp,rfl,_,rfl,I,_,rfl,.inl ⟨_,Sum.inl (m:Int),.inl Z,rfl,by rw[ii,ay rfl]⟩,q2 hpos N (M::re::I::J::X) ?_ ?_⟩;refine⟨fF.refl _,g5,λa e n=>absurd e n,λa g=>?_,aa.toF,ap⟩;simp only[ao]at g ⊢;rcases g with z|z|z|z|z;exact .inl (.inl z);exact .inl (.inr (.inl z));exact .inl (.inr (.inr (.inl z)));exact .inl (.inr (.inr (.inr (.inl z))));rcases an a z with y|y;exact .inl (.inr (.inr (.inr (.inr y))));exact .inr y;refine⟨⟨dx,M,re,I,J,_,_,X,rfl,hp,ad,ab,?_,Z,?_,λm'=>?_,⟨D,cn,B5.fn λk hk=>?_⟩⟩,λa g=>?_,λa g=>?_,λa g v o=>?_,al⟩;rw[aC];exact Paired.snoc da hR;have:=hZ S (Sum.inl (m:Int)) (V.int (L.length:Nat));rw[aB,aM];lia;rw[ii];by_cases em:m'=m;subst em;rw[ay rfl,mK hpos,ay rfl];rfl;rw[ax (λz=>em (by have:=Sum.inl.inj z;lia)),c3 m'];cases hq:oj L m' with|some j=>rw[rj hq]|none=>rw[mK hq,ax (λz=>em z.symm)]
  rw[fA.ND];congr 1;by_cases hh:c.has m k;rw[ay hh,ay (fA.Mu.mpr hh)];rw[ax hh,ax (λz=>hh (fA.Mu.mp z))];simp only[ao]at g;rcases g with z|z|z|z|z;exact Y.off a (by simp[z]);exact Y.off a (by simp[z]);exact Y.off a (by simp[z]);exact Y.off a (by simp[z]);exact ag a z;simp only[ao]at g;rcases g with z|z|z|z|z;exact⟨_,by rw[z];exact ad⟩;exact⟨_,by rw[z];exact ab⟩;exact⟨_,by rw[z];exact Z⟩;exact⟨_,by rw[z];exact B5.d⟩;exact R a z;simp only[ao]at g;rcases g with z|z|z|z|z;rw[z,ad]at o;cases o;exact λq=>q;rw[z,ab]at o;cases o;exact λq=>q;rw[z,Z]at o;cases o;exact λq=>q;rw[z,B5.d]at o;cases o;exact λq=>q;exact bx a z v o
end
inductive ug (CB CC CL:eQ)(vs:eW V)(H:Hp)(Q:VK)(E:XK):Prop
 |mk (G:Hp)(p ch:eQ)(c:fA)(L:jz)(O:eW eQ)(v:V)(k:Pk)(pk:Nat)(_:vs=[.ref p,v,.int (pk:Int)])(_:fF G H)(_:jk CB CC G ch c)(_:im CL G H p ch c L O)(_:fX H v k)(_:k∈c.ks)(_:∀(H':Hp) (j:Nat) (e:Nat×Rs),fH H H'->L[j]?=some e->i5 e.1 pk=c.bit k->Q (.int (j:Nat)) H')(_:(∀e∈L,c.has e.1 k->i5 e.1 pk≠c.bit k)->∀H',fH H H'->Q .non H')
inductive ui (CB CC CL:eQ)(vs:eW V)(H:Hp)(Q:VK)(E:XK):Prop
 |mk (G:Hp)(p ch:eQ)(c:fA)(L:jz)(O:eW eQ)(v:V)(k:Pk)(pk:Nat)(_:vs=[.ref p,v,.int (pk:Int)])(_:fF G H)(_:jk CB CC G ch c)(_:im CL G H p ch c L O)(_:fX H v k)(_:k∈c.ks)(_:∀H',fH H H'->Q (.int (c.Nm L k pk:Nat)) H')
theorem rM {c:fA}{k:Pk}:∀(L:jz) (i:Nat),ff (λ(j:Nat) (e:Nat×Rs)=>i<=j/\L[j-i]?=some e) (c.NB k L i) (L.filter λe=>decide (c.has e.1 k))
 |[],i=>.nil
 |x::L,i=>by have ih:=rM (c:=c) (k:=k) L (i+1);have ih2:ff (λ(j:Nat) (e:Nat×Rs)=>i<=j/\(x::L)[j-i]?=some e) (c.NB k L (i+1)) (L.filter λe=>decide (c.has e.1 k)):=Paired.LJ ih λj e ⟨h1,h2⟩=>⟨by lia,by rw[show j-i=(j-(i+1))+1 by lia];exact h2⟩;unfold fA.NB;by_cases h:c.has x.1 k;rw[ay h,aI,ay (aq h)];exact .cons ⟨am _,by rw[cj];rfl⟩ ih2;rw[ax h,aI,ax (by rw[aw h];exact λz=>nomatch z)];exact ih2
def Au (c:fA)(L:jz)(k:Pk):ff (λ(j:Nat) (e:Nat×Rs)=>L[j]?=some e) (c.plc L k) (L.filter λe=>decide (c.has e.1 k)):=Paired.LJ (rM L 0) λj e h=>h.2
def sq.get {c:fA}{pp:eQ}{g:Pk->eW Nat}{Ol:eW eQ}{kvp:eW (hJ×V)}{kl:eW Pk}(B:sq H c pp g Ol kvp kl){k:Pk}(d:k∈c.ks){t:eQ}(s:fH H H')(h:H' t=some (.lst [])):∃a,(fW kvp (gC (some k))).getD (.ref t)=.ref a/\H' a=some (.lst (iL (g k))):=by rcases B.val k d with ⟨b,e⟩|⟨l,b,_,i⟩;exact⟨t,by rw[b];rfl,by rw[e];exact h⟩;exact⟨l,by rw[b];rfl,s _ _ i⟩
def tO {l:eW Nat}{x:V}(h:(iL l)[i]?=some x):∃j,l[i]?=some j/\x=.int (j:Nat):=by unfold iL at h;rw[ai]at h;obtain⟨j,b,a⟩:=aF.mp h;exact⟨j,b,a.symm⟩
def lc {l:eW Nat}(h:l[i]?=some m):vd (iL l) (i:Int)=some (V.int (m:Nat)):=by refine pB ?_;rw[jG];unfold iL;rw[ai,h];rfl
theorem zq (r:Nat):Builtin.bitAnd (r:Int) ((r:Int)-1)=((r &&& (r-1):Nat):Int):=by
 rcases eE r with z|z;subst z;have e:((0:Nat):Int)-1=Builtin.bitNot ((0:Nat):Int):=by unfold Builtin.bitNot;lia
 rw[e,rp];rfl;rw[show(r:Int)-1=((r-1:Nat):Int) by lia,oG]
theorem t9 {a b:Nat}:decide (V.int (a:Int)=V.int (b:Int))=decide (a=b):=by
 by_cases h:a=b;rw[h,aq rfl,aq rfl];rw[aw h,aw];intro z;injection z with z
 lia
section
variable {w:fe}{base:fb}{f:eQ}
def Hw:fL ["self","pick","picked","place"] ["self","pick","picked"] (fE sO):=jD
def yz (F:je K "place_against" "Ledger.place_against" sO f fd)(T:TL K mg CL)(N:TC K mg CC):gv P w K mg base gM 1 f fd ["self","pick","picked"] (ug CB CC CL):=by
 refine F.ok Hw λad A Z s H vs Q E hr h=>?_;obtain⟨G,p,ch,c,L,O,v,k,D,rfl,gh,hC,hL,hv,hk,q1,q2⟩:=h;have hu:=iD hr;refine⟨_,(fm (ie PassesOwn.never rfl (gL (rO hu (fK T.cl T.nPp (pv 0)) (pv 1) (gE fq) ⟨rfl,rfl,rfl,rfl⟩)) (fQ (i:=3) Hw.nd) (fz (gK (ge iN (fU iV (fZ gu (fK T.cl T.nMa (pv 0)) (pv 3)) (jL lR (pv 2))) (gj hu (fK N.cl N.nBits (fK T.cl T.nCh (pv 0))) (pv 1)) (gr _)) (fz (gc (pv 3))) gi))) (fz (gc ja))),?_⟩;obtain⟨R,ma,re,pm,pp,ap,rs,Ol,rfl,hp,Y,a0,an,ag,ah,as,U,kl,hB⟩:=id hL.ex;have q:H p=some (.ins CL R (Bo ch ma re pm pp)):=gh.ins hp;obtain⟨cx,b,bits,ab,aa,al,sh,fo,st,c1,c2,c3,c4,c5,c6,c7,c8,c9⟩:=(hC.f gh).ex;refine⟨_,rfl,p,R,_,_,rfl,q,rfl,pp,rfl,⟨_,.inl hB.d⟩,_,rfl,oM,λt ht=>?_⟩;have g:=fB ht (.lst []);obtain⟨a,S,M⟩:=hB.get hk g (t:=t) fj;refine⟨_,⟨U,gC (some k),.inl (g _ _ hB.d),iI.key (w:=some k) (fX.same g hv),rfl⟩,?_⟩;rw[S];refine⟨a,rfl,⟨_,gf.of M⟩,?_⟩;generalize upd H t (.lst [])=H1 at *;refine iE (K:=K) (a:=a) (xs:=iL (c.plc L k)) (λi σ y=>∃X,σ=[some (.ref p),some v,some (.int (D:Int)),X]/\y=H1/\∀j∈(c.plc L k).take i,∀e,L[j]?=some e->i5 e.1 D≠c.bit k) ⟨none,rfl,rfl,λj o=>by simp at o⟩ (λi σ y _ ⟨_,_,e,_⟩=>by rw[e];exact gf.of M) ?_ ?_;rintro i x σ y hi ⟨X,rfl,rfl,l⟩;obtain⟨j,o,rfl⟩:=tO hi;obtain⟨e,I,B⟩:=fA.NG.mp (ak o);have hm:(L.map (·.1))[j]?=some e.1:=by rw[ai,I];rfl
 refine⟨_,rfl,p,R,_,_,rfl,g _ _ q,rfl,_,rfl,ma,_,_,_,rfl,rfl,gf.of (g _ _ Y),lc hm,_,rfl,_,rfl,_,_,rfl,rfl,?_⟩;refine⟨_,rfl,p,R,_,_,rfl,g _ _ q,rfl,ch,cx,_,_,rfl,g _ _ c1,rfl,_,rfl,bits,_,rfl,(c4.same g).get (w:=some k) (iq hk) (fX.same g hv),rfl,_,rfl,?_⟩;dsimp only;have C:decide (V.int (Builtin.bitAnd (e.1:Int) (Builtin.bitNot (D:Int)))=V.int ((c.Mo (some k):Nat):Int))=decide (i5 e.1 D=c.bit k):=by rw[rp];exact t9
 rw[C];by_cases hd:i5 e.1 D=c.bit k;rw[aq hd];exact ip ⟨_,rfl,q1 y j e g I hd⟩;rw[aw hd];refine gB ⟨_,rfl,rfl,λj' J e' m=>?_⟩;rw[gY o]at J;rcases aE.mp J with z|z;exact l j' z e' m;rw[af.mp z,I]at m;cases m;exact hd;rintro σ y ⟨X,rfl,rfl,l⟩;unfold iL at l;rw[ae,aN]at l;refine q2 (λe I B=>?_) y g;obtain⟨j,o⟩:=aD.mp I;exact l j (fA.NG.mpr ⟨e,o,B⟩) e o
def Ab:fL ["self","pick","picked","barred","place","rest"] ["self","pick","picked"] (fE tj):=jD
def yK (F:je K "barred_with" "Ledger.barred_with" tj f fd)(T:TL K mg CL):gv P w K mg base gM 1 f fd ["self","pick","picked"] (ui CB CC CL):=by
 refine F.ok Ab λaa A S s H vs Q E hr h=>?_;obtain⟨G,p,ch,c,L,O,v,k,g,rfl,gh,hC,hL,hv,hk,q⟩:=h;have hu:=iD hr;refine⟨_,(fm (fJ (i:=3) Ab.nd fD) (fm (ie PassesOwn.never rfl (gL (rO hu (fK T.cl T.nPp (pv 0)) (pv 1) (gE fq) ⟨rfl,rfl,rfl,rfl⟩)) (fQ (i:=4) Ab.nd) (fm (fJ (i:=5) Ab.nd (fU iV (fZ gu (fK T.cl T.nMa (pv 0)) (pv 4)) (jL lR (pv 2)))) (fz (gK (ge iN (fU iV (pv 5) (fU AO (pv 5) fD)) fD (gr _)) (fz (lB (i:=3) Ab.nd (pv 5) uN)) gi)))) (fz (gc (pv 3))))),?_⟩;obtain⟨Z,ma,re,pm,pp,ah,rs,Ol,rfl,hp,R,an,ag,ab,ad,al,I,kl,Y⟩:=id hL.ex;have B:H p=some (.ins CL Z (Bo ch ma re pm pp)):=gh.ins hp;refine⟨_,rfl,p,Z,_,_,rfl,B,rfl,pp,rfl,⟨_,.inl Y.d⟩,_,rfl,oM,λt ht=>?_⟩;have m:=fB ht (.lst []);obtain⟨a,D,C⟩:=Y.get hk m (t:=t) fj;refine⟨_,⟨I,gC (some k),.inl (m _ _ Y.d),iI.key (w:=some k) (fX.same m hv),rfl⟩,?_⟩;rw[D];refine⟨a,rfl,⟨_,gf.of C⟩,?_⟩;generalize upd H t (.lst [])=H1 at *;have o:=Au c L k;have lp:=Paired.length o;generalize N:(L.filter λe=>decide (c.has e.1 k))=es at *
 let bf:Nat->Nat×Rs->Nat:=λb e=>let r:=i5 e.1 g;if r &&& (r-1)=0 then b ||| r else b
 have M:c.Nm L k g=es.foldl bf 0:=by unfold fA.Nm;rw[N]
 refine iE (K:=K) (a:=a) (xs:=iL (c.plc L k)) (λi σ z=>∃U J,σ=[some (.ref p),some v,some (.int (g:Int)),some (.int (((es.take i).foldl bf 0:Nat):Int)),U,J]/\z=H1) ⟨none,none,rfl,rfl⟩ (λi σ z _ ⟨_,_,_,e⟩=>by rw[e];exact gf.of C) ?_ ?_;rintro i x σ z hi ⟨U,J,rfl,rfl⟩;obtain⟨j,hj,rfl⟩:=tO hi;obtain⟨e,X,he⟩:=Paired.Ml o hj;have hm:(L.map (·.1))[j]?=some e.1:=by rw[ai,he];rfl
 refine⟨_,rfl,p,Z,_,_,rfl,m _ _ B,rfl,_,rfl,ma,_,_,_,rfl,rfl,gf.of (m _ _ R),lc hm,_,rfl,_,rfl,_,_,rfl,rfl,?_⟩;dsimp only;rw[rp];refine⟨_,rfl,_,rfl,_,_,rfl,rfl,_,_,rfl,rfl,rfl,_,rfl,?_⟩;have y:decide (V.int (Builtin.bitAnd ((i5 e.1 g:Nat):Int) (((i5 e.1 g:Nat):Int)-1))=V.int 0)=decide (i5 e.1 g &&& (i5 e.1 g-1)=0):=by rw[zq];exact t9 (b:=0)
 skip;rw[y];have l:(es.take (i+1)).foldl bf 0=bf ((es.take i).foldl bf 0) e:=by rw[gY X,List.foldl_append];rfl
 by_cases hd:i5 e.1 g &&& (i5 e.1 g-1)=0;rw[aq hd];refine ip ⟨_,rfl,_,rfl,_,_,rfl,rfl,some (.int (j:Nat)),some (.int (i5 e.1 g:Nat)),?_,rfl⟩;rw[xO,l];show _=[some (V.ref p),some v,some (V.int ↑g),some (V.int ((if _ then _ else _:Nat):Int)),_,_];rw[ay hd];rfl;rw[aw hd];refine gB ⟨some (.int (j:Nat)),some (.int (i5 e.1 g:Nat)),?_,rfl⟩;rw[l];show _=[some (V.ref p),some v,some (V.int ↑g),some (V.int ((if _ then _ else _:Nat):Int)),_,_];rw[ax hd];rfl;rintro σ z ⟨U,J,rfl,rfl⟩;unfold iL;rw[ae,lp,aN,<-M];exact⟨_,rfl,q z m⟩
end
inductive wK (CB CC CL:eQ)(vs:eW V)(H:Hp)(Q:VK)(E:XK):Prop
 |mk (G:Hp)(p ch:eQ)(c:fA)(L:jz)(O:eW eQ)(_:vs=[.ref p])(_:fF G H)(_:jk CB CC G ch c)(_:im CL G H p ch c L O)(_:c.n<64)(_:∀e∈L,e.1<2^c.n)(_:L.length<sizeLine)(_:∀a H',fH H H'->Q (.ref a) H')
def Eo:(["mask","reason","self"]:eW Str).Nodup:=by decide +kernel
noncomputable abbrev zA (a b w:V):eW (Str×V):=[("picked",a),("dead",b),("wanted",w)]
abbrev uV (x s b:V):eW (Str×V):=[("part",x),("stand",s),("bit",b)]
noncomputable abbrev yi (ch le fl:eQ):eW (Str×V):=[("chart",.ref ch),("ledger",.ref le),("forks",.ref fl)]
inductive ue (C:eQ)(vs:eW V)(H:Hp)(Q:VK)(E:XK):Prop
 |mk (p dx:eQ)(a b w:V)(_:vs=[.ref p,a,b,w])(_:H p=some (.ins C dx []))(_:Q .non (upd H p (.ins C dx (zA a b w))))
inductive x9 (C:eQ)(vs:eW V)(H:Hp)(Q:VK)(E:XK):Prop
 |mk (p dx:eQ)(x s:V)(_:vs=[.ref p,x,s])(_:H p=some (.ins C dx []))(_:Q .non (upd H p (.ins C dx (uV x s (.int 0)))))
structure DR (K:fh)(mg:Str->fc eR)(C:eQ):Prop where
 cl:su K C
 nPi:ic K C "picked"
 nDe:ic K C "dead"
 nWa:ic K C "wanted"
structure Cd (K:fh)(mg:Str->fc eR)(C:eQ):Prop where
 cl:su K C
 nPa:ic K C "part"
 nSt:ic K C "stand"
 nBi:ic K C "bit"
def Lc (a:V):ij ("picked":Str) a []=([("picked",a)]:eW (Str×V)):=by kernel_rfl
def Ho (a b w:V):ij ("wanted":Str) w (ij ("dead":Str) b (ij ("picked":Str) a []))=zA a b w:=by kernel_rfl
def Lu (a b w:V):ij ("bit":Str) w (ij ("stand":Str) b (ij ("part":Str) a []))=uV a b w:=by kernel_rfl
section
variable {w:fe}{base:fb}{f:eQ}
def JI:fL ["self"] ["self"] (fE vD):=jD
theorem AS (F:je K "told" "Ledger.told" vD f fd)(T:TL K mg CL)(ML:Mt P w K mg base CC gM 1 "listed" ["self","mask"] (lH CC)):gv P w K mg base gM 2 f fd ["self"] (wK CB CC CL):=by
 refine F.ok JI λa8 A a0 s H vs Q E hr h=>?_;obtain⟨G,p,ch,c,L,O,rfl,gh,hC,hL,a4,ap,bv,q⟩:=h;have hu:=iD hr;refine⟨_,(fz (gc (iG (N':=["mask","reason","self"]) (n:=2) (js:=[0]) rfl (iT.one (c:=s.heap.objs.size+1) (y:="self")) (FT (m:=2) (uP (iz (by decide)) tY (uP (iz (by decide)) tY DD xF) (Bx tY xF))) (Ff rfl T.zip (fK T.cl T.nMa (pv 0)) (fK T.cl T.nRe (pv 0))) (λC s2 b fp=>mX (n:=2) rfl (iC (fQ (i:=0) Eo) (iC (fQ (i:=1) Eo) lC))) (λC s2 b fp=>jx) (λC s2 b fp=>ig (fi (iY ML hr gJ (fK T.cl T.nCh (pv 2)) (fi (pv 0) fq)) (fi (pv 1) fq)))))),?_⟩;obtain⟨dx,ma,re,pm,pp,bq,rs,Ol,rfl,hp,g,j,as,a9,bf,b0,a6,kl,hB⟩:=id hL.ex;have N:H p=some (.ins CL dx (Bo ch ma re pm pp)):=gh.ins hp;have lL:(iL (L.map (·.1))).length=L.length:=by unfold iL;rw[ae,ae]
 have a3:rs.length=L.length:=by rw[Paired.length as,ae]
 refine⟨_,rfl,p,dx,_,_,rfl,N,rfl,_,rfl,p,dx,_,_,rfl,N,rfl,ma,re,_,_,rfl,rfl,g,j,?_⟩;refine xL (n:=L.length) (λD i X b=>H D=none/\b D=some (.lst X)/\fH H b/\X.length<=i) (λD hD=>⟨hD,fj,fB hD _,am _⟩) (λD i X b hi ⟨Z,J,d,e4⟩=>?_) (λD i x X b H3 hi hy ⟨Z,J,d,e4⟩=>?_) (λD X b ⟨Z,J,d,e4⟩=>?_);refine⟨λo=>⟨_,_,(iL (L.map (·.1)))[i]'(by rw[lL];exact o),rs[i]'(by rw[a3];exact o),gf.of (d _ _ g),gf.of (d _ _ j),ar _,ar _⟩,λab=>⟨_,_,gf.of (d _ _ g),gf.of (d _ _ j),.inl (by rw[lL,ab];exact am _)⟩,J,?_⟩;lia;obtain⟨t,mv,B,ht,rfl,rfl,hm,aa⟩:=hy;obtain⟨m,U,rfl⟩:=tO (hm _ (gf.of (d _ _ g)));have b1:=aa _ (gf.of (d _ _ j));rw[ai]at U;obtain⟨e,he,rfl⟩:=aF.mp U;have s1:=fB ht (.tup [.int (e.1:Nat),B]);have bd:D≠t:=fC J ht;have al:=d.trans s1;have g1:fF G (upd b t (.tup [.int (e.1:Nat),B])):=gh.trans al.toF;generalize an:upd b t (.tup [.int (e.1:Nat),B])=H3 at *;have ah:H3 t=some (.tup [.int (e.1:Nat),B]):=by rw[<-an];exact fj
 refine⟨t,_,rfl,jg.of ah,rfl,_,_,rfl,_,_,rfl,rfl,?_⟩;unfold pc;dsimp only;rw[ay rfl];obtain⟨cx,ad,bx,Y,a2,a5,a1⟩:=u7 (hC.f g1);refine⟨_,rfl,p,dx,_,_,rfl,g1.ins hp,rfl,ch,cx,_,rfl,Y,a1,_,rfl,H3,ch,cx,ad,_,c,_,rfl,fF.refl _,Y,a2,a5,a4,ap e (ak he),λl xs H4 s4 hl a7 be ag=>?_⟩;refine⟨_,rfl,pO,λu I=>?_⟩;have s5:=fB I (.tup [.ref l,B]);have M:=s1 _ _ J;have R:=s4 _ _ M;have bm:D≠l:=fC M hl;have bl:D≠u:=fC R I;have S:fH b (upd H4 u (.tup [.ref l,B])):=s1.trans (s4.trans s5);refine⟨s5 _ _ R,Z,fj,λa v z=>?_,by rw[aB,aM];lia⟩;rw[fw (λy:a=D=>by rw[y,Z]at z;cases z)];exact S _ _ (d _ _ z);exact q D b d
def Ht:fL ["self","picked","dead","wanted"] ["self","picked","dead","wanted"] (fE sK):=jD
def yw (F:je K "__init__" "Stand.__init__" sK f fd)(T:DR K mg C):gv P w K mg base gM 1 f fd ["self","picked","dead","wanted"] (ue C):=by
 refine F.ok Ht λi A d s H l Q E j h=>?_;obtain⟨p,g,a,b,w,rfl,hp,q⟩:=h;refine⟨_,(fm (kI T.cl T.nPi (pv 0) (pv 1)) (fm (kI T.cl T.nDe (pv 0) (pv 2)) (fz (kI T.cl T.nWa (pv 0) (pv 3))))),?_⟩;refine⟨_,rfl,_,rfl,p,g,_,rfl,hp,(by decide),_,rfl,_,rfl,p,g,_,rfl,fj,(by rw[Lc];show 1<1000;decide),_,rfl,_,rfl,p,g,_,rfl,fj,?_,?_⟩;have:=Ho a b w;refine bX (m:=2) ?_ (by decide);have e:(ij ("dead":Str) b (ij ("picked":Str) a []))=([("picked",a),("dead",b)]:eW (Str×V)):=by kernel_rfl
 rw[e];exact am _;rw[jT,jT,Ho];exact q
def JN:fL ["self","part","stand"] ["self","part","stand"] (fE sW):=jD
def yG (F:je K "__init__" "Fork.__init__" sW f fd)(T:Cd K mg C):gv P w K mg base gM 1 f fd ["self","part","stand"] (x9 C):=by
 refine F.ok JN λi A d s H l Q E j h=>?_;obtain⟨p,g,a,b,rfl,hp,q⟩:=h;refine⟨_,(fm (kI T.cl T.nPa (pv 0) (pv 1)) (fm (kI T.cl T.nSt (pv 0) (pv 2)) (fz (kI T.cl T.nBi (pv 0) fD)))),?_⟩;refine⟨_,rfl,_,rfl,p,g,_,rfl,hp,(by decide),_,rfl,_,rfl,p,g,_,rfl,fj,?_,_,rfl,p,g,_,rfl,fj,?_,?_⟩;have e:(ij ("part":Str) a [])=([("part",a)]:eW (Str×V)):=by kernel_rfl
 rw[e];show 1<1000;decide;have e:(ij ("stand":Str) b (ij ("part":Str) a []))=([("part",a),("stand",b)]:eW (Str×V)):=by kernel_rfl
 rw[e];show 2<1000;decide;rw[jT,jT,Lu];exact q
end
inductive Kp (P:eV)(w:fe)(K:fh)(mg:Str->fc eR)(base:fb)(C:eQ)(CX:ul)(k:Nat)(x:Str)(ps:eW Str)(sp:Sp):Prop
 |mk (f fd:_)(_:Mk K C f)(_:gv P w K mg base CX k f fd ps sp)(_:jf K fd ps [])
structure DU (P:eV)(w:fe)(K:fh)(mg:Str->fc eR)(base:fb)(C:eQ)(CX:ul)(k:Nat)(x:Str)(ps:eW Str)(sp:Sp):Prop where
 nm:mg x=some (.ref C)
 ex:Kp P w K mg base C CX k x ps sp
def qo {X:Cx}{CX:ul}{k:Nat}{e:eY}{es:eW eY}{ps:eW Str}{sp:Sp}{E:XK}{pos p:Pos}{t:TA}(M:DU X.prog X.w X.K X.mg X.base C CX k x ps sp)(g:iF (k+1) X.A)(a:Gl X x)(hx:kH CX X E)(d:PA X (e::es) t)(hdb:autoParam ((x == ("__debug__":Str))=false) Ay._auto_1)(he:autoParam (starEach (e::es) X.env=(false,eval e X.env)::starEach es X.env) gq._auto_1)(hpl:autoParam ((backTo pos (starEach es X.env)).any (·.1)=false) gq._auto_1):PE X (.Call (.Name x p) (e::es) [] pos) (Eb C sp [] E t):=by obtain⟨f,h,m,F,b⟩:=M.ex;exact py m F g a M.nm b .nil hx d hdb he hpl
inductive xY (CL:eQ)(vs:eW V)(H:Hp)(Q:VK)(E:XK):Prop
 |mk (p dx ch:eQ)(_:vs=[.ref p,.ref ch])(_:H p=some (.ins CL dx []))(_:∀(ma re pm pp:eQ) (H':Hp),fF (del H [p]) H'->H' p=some (.ins CL dx (Bo ch ma re pm pp))->H' ma=some (.lst [])->H' re=some (.lst [])->H' pm=some (.dK [])->H' pp=some (.dN [])->[ma,re,pm,pp].Nodup->(∀a∈[ma,re,pm,pp],H a=none)->Q .non H')
inductive xS (CL CS:eQ)(vs:eW V)(H:Hp)(Q:VK)(E:XK):Prop
 |mk (G:Hp)(p dx ch:eQ)(c:fA)(_:vs=[.ref p,.ref ch])(_:fF G H)(_:G p=none)(_:H p=some (.ins CS dx []))(_:∀(G' H':Hp) (le fl:eQ) (O:eW eQ),fF G G'->fF G' H'->(∀a,G a=none->G' a≠none->H a=none\/a=p)->(∀a∈O,H a=none)->H fl=none->fl∉O->G' fl=none->fF (del H [p]) H'->G' p=some (.ins CS dx (yi ch le fl))->im CL G' H' le ch c [] O->H' fl=some (.lst [])->Q .non H')
abbrev GG (ch:eQ):eW (Str×V):=[("chart",.ref ch)]
noncomputable abbrev Jh (ch ma:eQ):eW (Str×V):=[("chart",.ref ch),("masks",.ref ma)]
noncomputable abbrev Jg (ch ma re:eQ):eW (Str×V):=[("chart",.ref ch),("masks",.ref ma),("reasons",.ref re)]
noncomputable abbrev Jf (ch ma re pm:eQ):eW (Str×V):=[("chart",.ref ch),("masks",.ref ma),("reasons",.ref re),("place_by_mask",.ref pm)]
def KP (ch:eQ):ij ("chart":Str) (V.ref ch) []=GG ch:=by kernel_rfl
def Je (ch a:eQ):ij ("masks":Str) (V.ref a) (GG ch)=Jh ch a:=by kernel_rfl
def Lr (ch a re:eQ):ij ("reasons":Str) (V.ref re) (Jh ch a)=Jg ch a re:=by kernel_rfl
def Lq (ch a re b:eQ):ij ("place_by_mask":Str) (V.ref b) (Jg ch a re)=Jf ch a re b:=by kernel_rfl
def Lp (ch a re b d:eQ):ij ("places_by_pick":Str) (V.ref d) (Jf ch a re b)=Bo ch a re b d:=by kernel_rfl
noncomputable abbrev JV (ch le:eQ):eW (Str×V):=[("chart",.ref ch),("ledger",.ref le)]
def JH (ch le:eQ):ij ("ledger":Str) (V.ref le) (GG ch)=JV ch le:=by kernel_rfl
def JG (ch le fl:eQ):ij ("forks":Str) (V.ref fl) (JV ch le)=yi ch le fl:=by kernel_rfl
structure ur (K:fh)(mg:Str->fc eR)(C:eQ):Prop where
 cl:su K C
 nCh:ic K C "chart"
 nLe:ic K C "ledger"
 nFo:ic K C "forks"
 dict:mg "dict" = none
 min:mg "min" = none
 list:mg "list" = none
 enum:mg "enumerate" = none
 rev:mg "reversed" = none
section
variable {w:fe}{base:fb}{f:eQ}
def HB:fL ["self","chart"] ["self","chart"] (fE sT):=jD
def yE (F:je K "__init__" "Ledger.__init__" sT f fd)(T:TL K mg CL):gv P w K mg base gM 1 f fd ["self","chart"] (xY CL):=by
 refine F.ok HB λaa A M s H vs Q E hr h=>?_;obtain⟨p,o,t,rfl,hp,q⟩:=h;refine⟨_,(fm (kI T.cl T.nCh (pv 0) (pv 1)) (fm (kI T.cl T.nMa (pv 0) (gE fq)) (fm (kI T.cl T.nRe (pv 0) (gE fq)) (fm (kI T.cl T.nPm (pv 0) jb) (fz (kI T.cl T.nPp (pv 0) nL)))))),?_⟩;have m:del H [p] p=none:=gR (by simp);have O:fF (del H [p]) H:=(gy _ _).toF;generalize L:del H [p]=G0 at *;refine⟨_,rfl,_,rfl,p,o,_,rfl,hp,(by decide),?_⟩;generalize C:upd H p (.ins CL o (ij ("chart":Str) (V.ref t) []))=H1;have B:H1 p=some (.ins CL o (GG t)):=by rw[<-C,fj,KP]
 have N:fF G0 H1:=by rw[<-C];exact O.upd m
 have ab:∀a,H1 a=none->H a=none:=λa e=>by rw[<-C]at e;by_cases z:a=p;rw[z,fj]at e;cases e;rw[fw z]at e;exact e
 refine⟨oM,λb I=>?_⟩;refine⟨_,rfl,p,o,_,rfl,(by rw[fw (fC B I)];exact B),(by show 1<1000;decide),?_⟩;rw[Je];have j:=jY (fs':=Jh t b) (u:=.lst []) N m B I;generalize upd (upd H1 b (.lst [])) p (.ins CL o (Jh t b))=H2 at j ⊢;refine⟨oM,λre G=>?_⟩;refine⟨_,rfl,p,o,_,rfl,(by rw[fw (fC j.p G)];exact j.p),(by show 2<1000;decide),?_⟩;rw[Lr];have i:=jY (fs':=Jg t b re) (u:=.lst []) j.g m j.p G;generalize upd (upd H2 re (.lst [])) p (.ins CL o (Jg t b re))=H3 at i ⊢;intro v y;refine⟨_,rfl,p,o,_,rfl,(by rw[fw (fC i.p y)];exact i.p),(by show 3<1000;decide),?_⟩;rw[Lq];have d:=jY (fs':=Jf t b re v) (u:=.dK []) i.g m i.p y;generalize upd (upd H3 v (.dK [])) p (.ins CL o (Jf t b re v))=H4 at d ⊢;intro D l;refine⟨_,rfl,p,o,_,rfl,(by rw[fw (fC d.p l)];exact d.p),(by show 4<1000;decide),?_⟩;rw[Lp];have x:=jY (fs':=Bo t b re v D) (u:=.dN []) d.g m d.p l;generalize upd (upd H4 D (.dN [])) p (.ins CL o (Bo t b re v D))=H5 at x ⊢;have R:=i.keep _ _ j.np j.a;have X:=d.keep _ _ j.np R;have m5:=x.keep _ _ j.np X;have S:=d.keep _ _ i.np i.a;have r5:=x.keep _ _ i.np S;have Y:=x.keep _ _ d.np d.a;have e1:b≠re:=fC j.a G;have e2:b≠v:=fC R y;have e3:b≠D:=fC X l;have e4:re≠v:=fC i.a y;have Z:re≠D:=fC S l;have e6:v≠D:=fC d.a l;have J:∀a,G0 a=none->a≠p->H a=none:=λa e n=>by rw[<-L,fG (by simpa using n)]at e;exact e
 refine q b re v D H5 x.g x.p m5 r5 Y x.a ?_ λa U=>?_;simp only[bb,ao,aU,or_false,not_or,not_false_eq_true,bF,and_true];exact⟨⟨e1,e2,e3⟩,⟨e4,Z⟩,e6⟩;simp only[ao,aU,or_false]at U;rcases U with z|z|z|z;rw[z];exact J _ j.ga j.np;rw[z];exact J _ i.ga i.np;rw[z];exact J _ d.ga d.np;rw[z];exact J _ x.ga x.np
def Hv:fL ["self","chart"] ["self","chart"] (fE sM):=jD
def yx (F:je K "__init__" "Search.__init__" sM f fd)(T:ur K mg CS)(ML:DU P w K mg base CL gM 1 "Ledger" ["self","chart"] (xY CL)):gv P w K mg base gM 3 f fd ["self","chart"] (xS CL CS):=by
 refine F.ok Hv λbv A be s H vs Q E hr h=>?_;obtain⟨G,p,t,j,c,rfl,gh,gp,hp,q⟩:=h;refine⟨_,(fm (kI T.cl T.nCh (pv 0) (pv 1)) (fm (kI T.cl T.nLe (pv 0) (qo ML hr rfl gJ (fi (pv 1) fq))) (fz (kI T.cl T.nFo (pv 0) (gE fq))))),?_⟩;have ap:del H [p] p=none:=gR (by simp);have a8:fF (del H [p]) H:=(gy _ _).toF;have O:fF G (del H [p]):=λa u e=>by
  have na:a≠p:=λz=>by rw[z,gp]at e;cases e
  rw[fG (by simpa using na)];exact gh a u e
 generalize bq:del H [p]=G0 at *;refine⟨_,rfl,_,rfl,p,t,_,rfl,hp,(by decide),?_⟩;generalize al:upd H p (.ins CS t (ij ("chart":Str) (V.ref j) []))=H1;have S:H1 p=some (.ins CS t (GG j)):=by rw[<-al,fj,KP]
 have D:fF G0 H1:=by rw[<-al];exact a8.upd ap
 have ah:∀a,H1 a=none->H a=none:=λa e=>by rw[<-al]at e;by_cases z:a=p;rw[z,fj]at e;cases e;rw[fw z]at e;exact e
 refine⟨_,rfl,λd B N a2 a9=>?_⟩;have n1:p≠d:=fC S N;have n2:p≠B:=fC S a2;have s2:fH H1 (upd (upd H1 B (.own d)) d (.ins CL B [])):=(fB a2 _).trans (fB (by rw[fw (Ne.symm a9)];exact N) _);have ad:upd (upd H1 B (.own d)) d (.ins CL B []) d=some (.ins CL B []):=fj;have a0:∀a,upd (upd H1 B (.own d)) d (.ins CL B []) a=none->H1 a=none:=λa e=>s2.free e;generalize upd (upd H1 B (.own d)) d (.ins CL B [])=H2 at *;refine⟨d,B,j,rfl,ad,λL re J I C Y M Z U R x bl a3=>⟨rfl,?_⟩⟩;have X:C p=some (.ins CS t (GG j)):=Y.ins (by rw[fG (by simpa using n1)];exact s2 _ _ S);refine⟨_,rfl,p,t,_,rfl,X,(by show 1<1000;decide),?_⟩;rw[JH];refine⟨oM,λfl aa=>?_⟩;have n3:p≠fl:=λz=>by rw[z,fj]at aa;cases aa
 refine⟨_,rfl,p,t,_,rfl,(by rw[fw n3];exact fj),(by show 2<1000;decide),?_⟩;rw[JG];have b:C fl=none:=by rw[fw (Ne.symm n3)]at aa;exact aa
 have eH:upd (upd (upd C p (.ins CS t (JV j d))) fl (.lst [])) p (.ins CS t (yi j d fl))=upd (upd C fl (.lst [])) p (.ins CS t (yi j d fl)):=by funext a;by_cases z:a=p;rw[z,fj,fj];rw[fw z,fw z];by_cases y:a=fl;rw[y,fj,fj];rw[fw y,fw y,fw z]
 rw[eH];have k4:∀a,a≠p->a≠fl->upd (upd C fl (.lst [])) p (.ins CS t (yi j d fl)) a=C a:=λa z y=>by rw[fw z,fw y]
 have a7:upd (upd C fl (.lst [])) p (.ins CS t (yi j d fl)) p=some (.ins CS t (yi j d fl)):=fj;have a6:upd (upd C fl (.lst [])) p (.ins CS t (yi j d fl)) fl=some (.lst []):=by rw[fw (Ne.symm n3)];exact fj
 generalize upd (upd C fl (.lst [])) p (.ins CS t (yi j d fl))=H4 at *;have hO:∀a∈[L,re,J,I],H1 a=none:=λa g=>a0 a (a3 a g);have bf:∀a,C a=none->H2 a=none:=λa e=>by by_cases z:a=d;rw[z,M]at e;cases e;have:=Y.free e;rw[fG (by simpa using z)]at this;exact this
 have ag:H1 fl=none:=a0 fl (bf fl b);have ab:fl∉[L,re,J,I]:=λz=>by simp only[ao,aU,or_false]at z;rcases z with z|z|z|z;rw[z,Z]at b;cases b;rw[z,U]at b;cases b;rw[z,R]at b;cases b;rw[z,x]at b;cases b
 have a5:d≠fl:=fC M b;have an:∀a∈[L,re,J,I],a≠p:=λa g z=>by have:=hO a g;rw[z,S]at this;cases this
 have bm:∀a∈[L,re,J,I],a≠d:=λa g z=>by have:=a3 a g;rw[z,ad]at this;cases this
 have bd:∀a∈[L,re,J,I],a≠fl:=λa g z=>ab (z▸g);have a1:fF G0 C:=λa u e=>by
  have na:a≠d:=λz=>by have:=D.free N;rw[z,this]at e;cases e
  rcases D a u e with z|⟨z1,o,z2⟩;exact Y a u (by rw[fG (by simpa using na)];exact s2 _ _ z);exact .inr ⟨z1,o,Y.frz (by rw[fG (by simpa using na)];exact s2 _ _ z2)⟩
 have a4:fF G0 H4:=λa u e=>by
  have z1:a≠p:=λz=>by rw[z,ap]at e;cases e
  have z2:a≠fl:=λz=>by have:=a1.free b;rw[z,this]at e;cases e
  rw[k4 a z1 z2];exact a1 a u e
 have as:H4 d=some (.ins CL B (Bo j L re J I)):=by rw[k4 d (Ne.symm n1) a5];exact M
 refine q (upd (upd G d (.ins CL B (Bo j L re J I))) p (.ins CS t (yi j d fl))) H4 d fl [L,re,J,I] ?_ ?_ ?_ ?_ (ah fl ag) ab ?_ a4 fj ?_ a6;exact((fF.refl G).upd (O.free (D.free N))).upd gp;intro a u e;by_cases z:a=p;rw[z,fj]at e;rw[z,a7];exact .inl e;rw[fw z]at e;by_cases y:a=d;rw[y,fj]at e;rw[y,as];exact .inl e;rw[fw y]at e;exact(O.trans a4) a u e;intro a e n;by_cases z:a=p;exact .inr z;rw[fw z]at n;by_cases y:a=d;rw[y];exact .inl (ah d N);rw[fw y]at n;exact absurd e n;exact λa g=>ah a (hO a g);rw[fw (Ne.symm n3),fw (Ne.symm a5)];exact O.free (D.free ag);have k5:∀a∈[L,re,J,I],H4 a=C a:=λa g=>k4 a (an a g) (bd a g);refine⟨⟨B,L,re,J,I,[],[],[],rfl,?_,?_,?_,.nil,?_,am _,λm=>rfl,[],[],?_,rfl,bF,(λk hk=>nomatch hk),(λk hk=>Or.inl ⟨rfl,rfl⟩),(λk k2 l h=>nomatch h)⟩,λa g=>?_,λa g=>?_,λa g v i=>?_,bl⟩;rw[fw (Ne.symm n1),fj];rw[k5 L (by simp)];exact Z;rw[k5 re (by simp)];exact U;rw[k5 J (by simp)];exact R;rw[k5 I (by simp)];exact x;rw[fw (an a g),fw (bm a g)];exact O.free (D.free (hO a g));rw[k5 a g];simp only[ao,aU,or_false]at g;rcases g with z|z|z|z;exact⟨_,by rw[z];exact Z⟩;exact⟨_,by rw[z];exact U⟩;exact⟨_,by rw[z];exact R⟩;exact⟨_,by rw[z];exact x⟩;rw[k5 a g]at i;simp only[ao,aU,or_false]at g;rcases g with z|z|z|z;rw[z,Z]at i;cases i;exact λq=>q;rw[z,U]at i;cases i;exact λq=>q;rw[z,R]at i;cases i;exact λq=>q;rw[z,x]at i;cases i;exact λq=>q
end
structure Se (CB CC CS:eQ)(G H:Hp)(p ch le fl:eQ)(c:fA):Prop where
 gh:fF G H
 self:∃dx,G p=some (.ins CS dx (yi ch le fl))
 chart:jk CB CC G ch c
 n:c.n<64
 nds:∀w,(c.needs w).length<=100
 sm:∀L,jm c L->L.length<sizeLine
def Se.grow {G':Hp}{le fl:eQ}{c:fA}(h:Se CB CC CS G H p ch le fl c)(gg:fF G G')(gh:fF G' H'):Se CB CC CS G' H' p ch le fl c:=
 ⟨gh,let ⟨dx,e⟩:=h.self;⟨dx,gg.ins e⟩,h.chart.f gg,h.n,h.nds,h.sm⟩
def Se.same {le fl:eQ}{c:fA}(h:Se CB CC CS G H p ch le fl c)(e:fH H H'):Se CB CC CS G H' p ch le fl c:=h.grow (fF.refl _) (h.gh.trans e.toF)
def mH (CT:eQ)(G H:Hp)(s:eQ)(sd:Sd):Prop:=∃dx w,H s=some (.ins CT dx (zA (.int (sd.picked:Nat)) (.int (sd.dead:Nat)) (.ref w)))/\wQ G w sd.wanted
inductive xX (CB CC CS CT:eQ)(vs:eW V)(H:Hp)(Q:VK)(E:XK):Prop
 |mk (G:Hp)(p ch le fl s:eQ)(c:fA)(sd:Sd)(x:Str)(_:vs=[.ref p,.ref s,.str x])(_:Se CB CC CS G H p ch le fl c)(_:mH CT G H s sd)(_:Q (.int (i5 (c.Np x) sd.dead:Nat)) H)
inductive pN (CB CC CS:eQ)(vs:eW V)(H:Hp)(Q:VK)(E:XK):Prop
 |mk (G:Hp)(p ch le fl w0:eQ)(c:fA)(kvs0:eW (io×V))(wanted:eW (Str×fc Pk))(wv:V)(who:fc Pk)(pm:Nat)(_:vs=[.ref p,.ref w0,wv,.int (pm:Nat)])(_:Se CB CC CS G H p ch le fl c)(_:Rd H w0 (.dK kvs0))(_:ff (wP G) kvs0 wanted)(_:wanted.length<=7000)(_:∀x u,(x,u)∈wanted->c.Who u/\x∈fV (c.needs u))(_:c.Who who)(_:iI G wv who)(_:∀(a:eQ) (H':Hp) (kvs:eW (io×V)) (g:eW (Str×fc Pk)),fH H H'->H a=none->H' a=some (.dK kvs)->ff (wP G) kvs g->c.Nl wanted who pm g->Q (.ref a) H')
def uv {n:Nat}(h:n<=10000):n<sizeLine:=bX h (by decide)
section
variable {w:fe}{base:fb}{f:eQ}
def Hz:fL ["self","stand","part"] ["self","stand","part"] (fE Ag):=jD
def Dj {CT:eQ}(F:je K "left" "Search.left" Ag f fd)(T:ur K mg CS)(a:TC K mg CC)(TT:DR K mg CT):gv P w K mg base gM 1 f fd ["self","stand","part"] (xX CB CC CS CT):=by refine F.ok Hz λy A i s H R Q E z h=>?_;obtain⟨G,p,m,N,fl,I,c,sd,x,rfl,d,⟨C,wa,D,U⟩,q⟩:=h;have B:=iD z;refine⟨_,(fz (gc (fU iV (kZ B (fK a.cl a.nOf (fK T.cl T.nCh (pv 0))) (pv 2) fD ⟨rfl,rfl,rfl,rfl⟩) (jL lR (fK TT.cl TT.nDe (pv 1)))))),?_⟩;obtain⟨J,hp⟩:=d.self;obtain⟨o,b,bits,t,e,Z,M,fo,st,v,X,Y,c4,c5,l,S,L,O⟩:=(d.chart.f d.gh).ex;obtain⟨r,j,g⟩:=l.get x;refine⟨_,rfl,p,J,_,_,rfl,d.gh.ins hp,rfl,m,o,_,_,rfl,v,rfl,e,rfl,l.isD,_,rfl,r,j,?_⟩;rw[g];refine⟨_,rfl,I,C,_,V.int (sd.dead:Nat),rfl,D,rfl,_,rfl,_,_,rfl,rfl,?_⟩;dsimp only;rw[rp];exact q
def CH:fL ["self","wanted","who","picked","allowed","grown","part"] ["self","wanted","who","picked"] (fE sJ):=jD
theorem yt (F:je K "wanted_by" "Search.wanted_by" sJ f fd)(T:ur K mg CS)(L:TC K mg CC)(GC:Gd P w K mg base gM 1 "count_picks" ["mask"] wN):gv P w K mg base gM 2 f fd ["self","wanted","who","picked"] (pN CB CC CS):=by
 refine F.ok CH λbv A bf s H vs Q E hr h=>?_;obtain⟨G,p,ch,le,fl,w0,c,g,wanted,Z,who,X,rfl,M,a7,ap,bm,aa,B,S,q⟩:=h;have J:=iD hr;refine⟨_,(fm (fJ (i:=4) CH.nd (fK L.cl L.nAl (fK T.cl T.nCh (pv 0)))) (fm (fJ (i:=5) CH.nd (iS wG rfl T.dict PyProof.Rows.boot_dict (fi (pv 1) fq))) (fm (ie PassesOwn.never rfl (Av (gj J (pv 4) (pv 2))) (fQ (i:=6) CH.nd) (fm (gK (i9 (fU iV (pv 3) (kZ J (fK L.cl L.nOf (fK T.cl T.nCh (pv 0))) (pv 6) fD ⟨rfl,rfl,rfl,rfl⟩)) (λ_=>rfl)) (fz uB) gi) (fz (gK (PW.pt (HI (jO (mo J (pv 6) (pv 5))) (Fb (ge El (iM GC hr (fi (iP J (gj J (pv 4) (pv 2)) (pv 6)) fq)) (iM GC hr (fi (iP J (gj J (pv 4) (iP J (pv 5) (pv 6))) (pv 6)) fq)) (gr _))))) (fz (jW J (pv 5) (pv 6) (pv 2) rfl)) gi)))) (fz (gc (pv 5)))))),?_⟩;obtain⟨dx,hp⟩:=M.self;obtain⟨cx,b,bits,bq,a2,Y,sh,fo,st,c1,c2,c3,c4,c5,c6,c7,c8,c9⟩:=(M.chart.f M.gh).ex;refine⟨_,rfl,p,dx,_,_,rfl,M.gh.ins hp,rfl,ch,cx,_,V.ref Y,rfl,c1,rfl,?_⟩;refine⟨_,rfl,w0,g,rfl,a7,λa ha=>?_⟩;have s1:=fB ha (.dK g);have ah:upd H a (.dK g) a=some (.dK g):=fj;generalize upd H a (.dK g)=H1 at *;obtain⟨d,a5,a1⟩:=(c7.same s1).get B ((S.f M.gh).same s1);obtain⟨o,I,R,as,bx⟩:=id a1;have a9:d≠a:=gF R ah λz=>nomatch z;have la:I.length=(fV (c.needs who)).length:=by have:=congrArg List.length as;rw[ae,ae]at this;exact this
 refine⟨_,rfl,_,rfl,Y,_,rfl,a5,d,o,I,rfl,R,?_⟩;refine tZ (kvs:=I) (λi σ D=>∃kvs C o6,σ=[some (.ref p),some (.ref w0),some Z,some (.int (X:Nat)),some (.ref Y),some (.ref a),o6]/\D a=some (.dK kvs)/\(∀b,b≠a->D b=H1 b)/\kvs.length<=7000+i/\ff (wP G) kvs C/\c.NH wanted who X ((fV (c.needs who)).take i) C)
  ⟨g,wanted,none,rfl,ah,λ_ _=>rfl,by rw[Paired.length ap];lia,ap,GrowP.nil⟩ (λi σ D _ ⟨_,_,_,_,_,e,_⟩=>by rw[e d a9];exact R) ?_ ?_
 rintro i kv σ D hi ⟨kvs,C,o6,rfl,t,y,bd,m,l⟩;have ad:(I.map (·.1))[i]?=some kv.1:=by rw[ai,hi];rfl
 rw[as,ai]at ad;obtain⟨x,U,ex⟩:=aF.mp ad;rw[<-ex];have a0:=ak U;have an:=qw (j3 (c.needs who)) U;have b0:i<100:=by have h1:=(aj.mp U).1;have h2:(fV (c.needs who)).length<=(c.needs who).length:=ot _;have:=M.nds who;lia
 have j:fH H D:=λb u e=>by have nb:b≠a:=fC e ha;rw[y b nb];exact s1 _ _ e
 obtain⟨r,a8,a3⟩:=(c6.same j).get x;refine⟨_,rfl,_,rfl,p,dx,_,_,rfl,j _ _ (M.gh.ins hp),rfl,ch,cx,_,_,rfl,j _ _ c1,rfl,a2,rfl,(c6.same j).isD,_,rfl,r,a8,?_⟩;rw[a3];refine⟨_,_,rfl,rfl,_,rfl,?_⟩;dsimp only;rw[oG,qH];by_cases hip:c.isP X x;rw[aw (xD.mpr hip)];refine ip ?_;exact⟨kvs,C,_,rfl,t,y,by lia,m,by rw[gY U];exact GrowP.skip l hip⟩;rw[aq (Classical.byContradiction λz=>hip (xD.mp z))];refine gB ?_;have ab:jS D a (.str x) (fW kvs (Sum.inr x)):=jS.k (k:=Sum.inr x) t;refine⟨_,rfl,_,rfl,a,_,rfl,ab,_,rfl,?_⟩;have b1:=hZ kvs (Sum.inr x) Z;have ag:c.NH wanted who X ((fV (c.needs who)).take (i+1)) (if x∈C.map (·.1) then C.map (λyu=>if yu.1=x then (yu.1,who) else yu) else C++[(x,who)])->
   ∃kvs' gg' o6,[some (.ref p),some (.ref w0),some Z,some (.int (X:Nat)),some (.ref Y),some (.ref a),some (.str x)]=[some (.ref p),some (.ref w0),some Z,some (.int (X:Nat)),some (.ref Y),some (.ref a),o6]/\upd D a (.dK (gz kvs (Sum.inr x) Z)) a=some (.dK kvs')/\(∀b,b≠a->upd D a (.dK (gz kvs (Sum.inr x) Z)) b=H1 b)/\kvs'.length<=7000+(i+1)/\ff (wP G) kvs' gg'/\c.NH wanted who X ((fV (c.needs who)).take (i+1)) gg':=
  λhg=>⟨_,_,_,rfl,fj,λb hb=>by rw[fw hb];exact y b hb,by lia,EA m S,hg⟩
 by_cases hxg:x∈C.map (·.1);obtain⟨v,u,be,a4,a6⟩:=pr m hxg;have N:=ab;rw[be]at N ⊢;refine gB ?_;have O:c.Who u/\x∈fV (c.needs u):=by obtain⟨_,_,_,_,_,h5⟩:=l;rcases h5 x u a4 with z|⟨z1,z2,_⟩;exact aa x u z;rw[z1];exact⟨B,a0⟩
 obtain⟨d1,e1,e2⟩:=(c7.same j).get B ((S.f M.gh).same j);obtain⟨d2,e3,e4⟩:=(c7.same j).get O.1 ((a6.f M.gh).same j);refine⟨_,rfl,_,rfl,Y,_,rfl,e1,_,rfl,d1,_,rfl,e2.get a0,c,_,rfl,c.MQ _,?_⟩;refine⟨_,rfl,_,rfl,_,rfl,a,_,rfl,N,Y,_,rfl,e3,_,rfl,d2,_,rfl,e4.get O.2,c,_,rfl,c.MQ _,_,_,rfl,rfl,_,rfl,?_⟩;by_cases hlt:(((c.listed (c.Nq who x)).length:Nat):Int)<(((c.listed (c.Nq u x)).length:Nat):Int)
 ·rw[aq hlt];refine ip ?_;refine⟨_,rfl,_,rfl,_,rfl,a,_,rfl,nF.k (k:=Sum.inr x) t (uv (by lia)),ag ?_⟩;rw[ay hxg,gY U];exact GrowP.swap l hip hxg an
 rw[aw hlt];refine gB ⟨kvs,C,_,rfl,t,y,by lia,m,?_⟩;rw[gY U];exact GrowP.LK l hxg an;have bl:=(sv m).mpr hxg;rw[bl];refine ip ?_;refine⟨_,rfl,_,rfl,_,rfl,a,_,rfl,nF.k (k:=Sum.inr x) t (uv (by lia)),ag ?_⟩;rw[ax hxg,gY U];exact GrowP.new l hip hxg;rintro σ D ⟨kvs,C,o6,rfl,t,y,bd,m,l⟩;rw[la,aN]at l;refine⟨_,rfl,q a D kvs C (λb u e=>?_) ha t m l⟩;rw[y b (fC e ha)];exact s1 _ _ e
end
def NZ (L:jz):Prop:=∀e∈L,e.1≠0
def Cf (CL:eQ)(G H:Hp)(O:eW eQ)(le ch:eQ)(c:fA)(L:jz)(m:Nat->Prop)(Q:VK):Prop:=
 ∀(G' H':Hp) (O':eW eQ) (L':jz) (j:Nat) (e:Nat×Rs),jq G H O G' H' O'->im CL G' H' le ch c L' O'->jm c L'->(∃X,L'=L++X)->L'[j]?=some e->m e.1->(NZ L->NZ L'\/(e.1=0/\L'.getLast?=some e))->Q (.int (j:Nat)) H'
inductive uf (CB CC CS:eQ)(vs:eW V)(H:Hp)(Q:VK)(E:XK):Prop
 |mk (G:Hp)(p ch le fl:eQ)(c:fA)(wv:V)(who:fc Pk)(x:Str)(_:vs=[.ref p,wv,.str x])(_:Se CB CC CS G H p ch le fl c)(_:c.Who who)(_:iI H wv who)(_:x∈(c.needs who).map (·.1))(_:∀H',fH H H'->Q (.int (((c.needs who).map (·.1)).idxOf x:Nat)) H')
inductive vh (CB CC CL CS:eQ)(vs:eW V)(H:Hp)(Q:VK)(E:XK):Prop
 |mk (G:Hp)(p ch le fl:eQ)(c:fA)(L:jz)(O:eW eQ)(wv v:V)(who:fc Pk)(k:Pk)(_:vs=[.ref p,wv,v])(_:Se CB CC CS G H p ch le fl c)(_:im CL G H le ch c L O)(_:jm c L)(_:c.Who who)(_:iI G wv who)(_:fX G v k)(_:k∈c.ks)(_:c.MR who k)(_:c.MV (c.Mo who ||| c.bit k))(_:Cf CL G H O le ch c L (λm=>m=c.Mo who ||| c.bit k) Q)
def HS:(["need"]:eW Str).Nodup:=by decide +kernel
def HR:(["need","pick"]:eW Str).Nodup:=by decide +kernel
def im.same {c:fA}{L:jz}{O:eW eQ}(h:im CL G H p ch c L O)(e:fH H H'):im CL G H' p ch c L O:=
 h.grow (fF.refl _) h.off λa ha=>by obtain⟨u,hu⟩:=h.liv a ha;exact nJ e hu
def im.put {c:fA}{L:jz}{O:eW eQ}(h:im CL G H p ch c L O)(i:fF G H){t:eQ}{u:HO}(e:H t=none):im CL (upd G t u) (upd H t u) p ch c L O:=by
 have d:∀a∈O,a≠t:=λa b z=>by obtain⟨v,g⟩:=h.liv a b;rw[z,e]at g;cases g
 exact h.grow ((fF.refl _).upd (i.free e)) (λa b=>by rw[fw (d a b)];exact h.off a b) λa b=>by rw[fw (d a b)]
section
variable {w:fe}{base:fb}{f:eQ}
def JJ:fL ["self","who","part"] ["self","who","part"] (fE sN):=jD
theorem yy (F:je K "place_of_need" "Search.place_of_need" sN f fd)(T:ur K mg CS)(v:TC K mg CC)(l:TB K mg CB):gv P w K mg base gM 1 f fd ["self","who","part"] (uf CB CC CS):=by
 refine F.ok JJ λad A L s H vs Q E hr h=>?_;obtain⟨G,p,ch,le,fl,c,wv,who,x,rfl,t,j,z,hx,q⟩:=h;have hu:=iD hr;refine⟨_,(fz (gc (jM aR dL PySem.F.type_list_index yM (iG (N':=["need"]) (n:=1) (js:=[]) rfl (iT.closed) (iz (by decide)) (gL (gj hu (fK l.cl l.nN (fK v.cl v.nBoard (fK T.cl T.nCh (pv 0)))) (pv 1))) (λC Z X Y=>fQ (i:=0) HS) (λC Z X Y=>jx) (λC Z X Y=>fZ (gs:Jo _ (qh K)) (pv 0) fD)) (fi (pv 2) fq)))),?_⟩;obtain⟨dx,hp⟩:=t.self;obtain⟨cx,b,bits,ab,aa,al,sh,fo,st,c1,c2,c3,c4,c5,c6,c7,c8,c9⟩:=(t.chart.f t.gh).ex;obtain⟨bx,dn,dv,N,M⟩:=j5 c2 c3;obtain⟨na,J,zs,S,m⟩:=M who wv j z;have lz:=Paired.length m;have R:=t.nds who;refine⟨_,rfl,p,dx,_,_,rfl,t.gh.ins hp,rfl,ch,cx,_,_,rfl,c1,rfl,b,bx,_,_,rfl,N,gT _ _,_,rfl,dn,_,rfl,J,na,rfl,⟨_,gf.of S⟩,?_⟩;refine iK (xs:=zs) (λD i o e=>o=(((c.needs who).take i).map (·.1)).map V.str/\e D=some (.lst o)/\fH H e/\H D=none) (λD O=>⟨by simp,fj,fB O _,O⟩)
  (λD i o e U ⟨d,a,g,_⟩=>⟨gf.of (g _ _ S),a,?_⟩) (λD i y o e U ⟨d,a,g,I⟩=>?_) (λD o e ⟨d,a,g,I⟩=>?_)
 rw[d,ae,ae,aW];exact fO (by lia);obtain⟨n,B,nq,rfl,hn⟩:=Paired.Ml m U;unfold jl pc;dsimp only;rw[ay rfl];refine⟨_,rfl,nq,_,_,_,rfl,rfl,jg.of (g _ _ hn),rfl,a,?_,fj,fH.upd g I,I⟩;rw[d,gY B,aC,aC];rfl;rw[lz,aN]at d;subst d;exact⟨.inl ⟨rfl,_,gf.of a⟩,_,rfl,D,_,x,rfl,rfl,a,hx,q e g⟩
def ET:fL ["self","who","pick","needs","place"] ["self","who","pick"] (fE pZ):=jD
theorem vW (F:je K "outside" "Search.outside" pZ f fd)(T:ur K mg CS)(l:TC K mg CC)(aa:TB K mg CB)(GC:Gd P w K mg base gM 1 "clashes" ["need","pick"] mi)(MP:Mt P w K mg base CL gM 2 "put_down" ["self","mask","reason"] (DP CB CC CL)):gv P w K mg base gM 3 f fd ["self","who","pick"] (vh CB CC CL CS):=by
 refine F.ok ET λbq A a3 s H vs Q E hr h=>?_;obtain⟨G,p,ch,le,fl,c,L,O,o,v,who,k,rfl,d,hL,m,g,M,hv,hk,a7,Y,q⟩:=h;have hu:=iD hr;refine⟨_,(fm (fJ (i:=3) ET.nd (gj hu (fK aa.cl aa.nN (fK l.cl l.nBoard (fK T.cl T.nCh (pv 0)))) (pv 1))) (fm (fJ (i:=4) ET.nd (jM aR dL PySem.F.type_list_index yN (iG (N':=["need","pick"]) (n:=1) (js:=[2]) rfl (iT.one (c:=s.heap.objs.size+1) (y:="pick")) (iz (by decide)) (gL (pv 3)) (λC s2 H2 fp=>fQ (i:=0) HR) (λC s2 H2 fp=>jx) (λC s2 H2 fp=>iM GC (hr.mono (by decide)) (fi (pv 0) (fi (pv 1) fq)))) (fi qp fq))) (fz (gc (iY MP hr gJ (fK T.cl T.nLe (pv 0)) (fi (fU rP (gj hu (fK l.cl l.nBits (fK T.cl T.nCh (pv 0))) (pv 1)) (gj hu (fK l.cl l.nBits (fK T.cl T.nCh (pv 0))) (pv 2))) (fi (ig (fi iA (fi (pv 1) (fi (pv 4) (fi (pv 2) fq))))) fq))))))),?_⟩;obtain⟨dx,hp⟩:=d.self;obtain⟨cx,b,bits,bm,bf,al,sh,fo,st,c1,c2,c3,c4,c5,c6,c7,c8,c9⟩:=(d.chart.f d.gh).ex;obtain⟨bx,dn,dv,a9,a5⟩:=j5 c2 c3;obtain⟨na,a0,zs,hz,ab⟩:=a5 who o g (M.f d.gh);have lz:=Paired.length ab;have be:=d.nds who;have B:=d.gh.ins hp;refine⟨_,rfl,p,dx,_,_,rfl,B,rfl,ch,cx,_,_,rfl,c1,rfl,b,bx,_,_,rfl,a9,gT _ _,_,rfl,dn,_,rfl,a0,?_⟩;refine⟨_,rfl,na,rfl,⟨_,gf.of hz⟩,?_⟩;refine iK (xs:=zs) (λD i ys I=>ys=(((c.needs who).take i).map λn=>rn n k).map V.bl/\I D=some (.lst ys)/\fH H I/\H D=none) (λD hD=>⟨by simp,fj,fB hD _,hD⟩)
  (λD i ys I hi ⟨S,R,a,_⟩=>⟨gf.of (a _ _ hz),R,?_⟩) (λD i y ys I hi ⟨S,R,a,e4⟩=>?_) (λD ys I ⟨S,R,a,e4⟩=>?_)
 rw[S,ae,ae,aW];exact fO (by lia);obtain⟨n,ah,hn⟩:=Paired.Ml ab hi;unfold jl pc;dsimp only;rw[ay rfl];refine⟨_,rfl,_,rfl,_,_,n,k,rfl,gX.same a hn,fX.same a (fX.f d.gh hv),R,?_,fj,fH.upd a e4,e4⟩;rw[S,gY ah,aC,aC];rfl;rw[lz,aN]at S;subst S;have X:true∈(c.needs who).map λn=>rn n k:=by obtain⟨n,ad,a6⟩:=a7;exact aA.mpr ⟨n,ad,a6⟩
 refine⟨.inl ⟨rfl,_,gf.of R⟩,D,_,rfl,rfl,R,X,?_⟩;have Z:=(M.f d.gh).same a;have ap:fX I v k:=fX.same a (fX.f d.gh hv);obtain⟨lx,ma,re,pm,pp,bv,rs,Ol,hO,bd,as⟩:=id hL.ex;refine⟨_,rfl,p,dx,_,V.ref le,rfl,a _ _ B,rfl,le,lx,_,rfl,a _ _ (d.gh.ins bd),rfl,?_⟩;refine⟨_,rfl,p,dx,_,_,rfl,a _ _ B,rfl,ch,cx,_,_,rfl,a _ _ c1,rfl,_,rfl,bits,_,rfl,(c4.same a).get g Z,_,rfl,p,dx,_,_,rfl,a _ _ B,rfl,ch,cx,_,_,rfl,a _ _ c1,rfl,_,rfl,bits,_,rfl,(c4.same a).get (w:=some k) (iq hk) ap,_,_,rfl,rfl,?_⟩;dsimp only;rw[xO];refine⟨_,rfl,_,rfl,_,rfl,GQ,λt ht=>?_⟩;have N:fF G I:=d.gh.trans a.toF;have gt:G t=none:=N.free ht;have GW:jq G H O (upd G t (.tup [.str ("outside":Str),o,.int (((c.needs who).map λn=>rn n k).idxOf true:Nat),v])) (upd I t (.tup [.str ("outside":Str),o,.int (((c.needs who).map λn=>rn n k).idxOf true:Nat),v])) O:=(jq.same d.gh a).trans (jq.put N ht);have U:=(hL.same a).put N (u:=.tup [.str ("outside":Str),o,.int (((c.needs who).map λn=>rn n k).idxOf true:Nat),v]) ht;obtain⟨i,n,hi,hin,hcl⟩:∃i n,((c.needs who).map λn=>rn n k).idxOf true=i/\(c.needs who)[i]?=some n/\rn n k=true:=by have a1:=bD.mpr X;have hg:=cO a1;rw[List.getElem_map]at hg;exact⟨_,_,rfl,ar _,hg⟩
 have hR:vp (upd G t (.tup [.str ("outside":Str),o,.int (((c.needs who).map λn=>rn n k).idxOf true:Nat),v])) (.ref t) ⟨who,(i:Nat),.one k⟩:=by have gG:=(fF.refl G).upd (u:=.tup [.str ("outside":Str),o,.int (((c.needs who).map λn=>rn n k).idxOf true:Nat),v]) gt;refine⟨t,o,v,rfl,?_,M.f gG,fX.f gG hv⟩;rw[hi];exact fj
 have J:c.Mo who ||| c.bit k<2^c.n:=j4 (fA.Ny g) (c.MC hk);have an:=d.chart.f GW.gg;generalize upd G t (.tup [.str ("outside":Str),o,.int (((c.needs who).map λn=>rn n k).idxOf true:Nat),v])=G' at *;generalize upd I t (.tup [.str ("outside":Str),o,.int (((c.needs who).map λn=>rn n k).idxOf true:Nat),v])=H8 at *;refine⟨G',le,ch,c,L,O,c.Mo who ||| c.bit k,_,_,rfl,GW.gh,an,U,hR,J,d.n,d.sm L m,λj hj=>?_,λhn H9 O9 g9 a2=>?_⟩;obtain⟨e,ag,a4⟩:=rK hj;exact q G' H8 O L j e GW U m ⟨[],by simp⟩ ag a4 .inl;refine q G' H9 O9 _ L.length (c.Mo who ||| c.bit k,⟨who,(i:Nat),.one k⟩) (GW.trans g9) a2 (m.add J Y (om.mp hn) ?_) ⟨_,rfl⟩ ?_ rfl (λa8=>.inl λx hx=>?_);refine AN ?_ (fA.Mv.mpr (.inr ((fA.My hk).mpr rfl))) hin hcl;cases who with|none=>trivial|some k0=>exact fA.Mv.mpr (.inl ((fA.Nz g).mpr rfl))
 rw[bh (am _),cj];rfl;rcases aE.mp hx with z|z;exact a8 x z;rw[af.mp z];intro y;have:c.has (c.Mo who ||| c.bit k) k:=fA.Mv.mpr (.inr ((fA.My hk).mpr rfl));rw[show c.Mo who ||| c.bit k=0 from y]at this;exact fA.Mz this
end
end
section
variable {H:Hp}{L:jz}{O:eW eQ}
def qV (c:fA)(F:eW Fk):Prop:=∀(i i':Nat) (f f':Fk),i<=i'->F[i]?=some f->F[i']?=some f'->∀j,c.has f.sd.picked j->c.has f'.sd.picked j
theorem qV.snoc {c:fA}{F:eW Fk}{g:Fk}(h:qV c F)(a:∀f∈F,∀j,c.has f.sd.picked j->c.has g.sd.picked j):qV c (F++[g]):=λi i' f f' hi h1 h2 j hj=>by
 have e2:i'<F.length\/i'=F.length:=by have:=(aj.mp h2).1;rw[aB,aM]at this;lia
 rcases e2 with e2|e2;rw[aT e2]at h2;rw[aT (by lia)]at h1;exact h i i' f f' hi h1 h2 j hj;subst e2;rw[bh (am _),cj]at h2;have:g=f':=by simpa using h2
 subst this;rcases eD i F.length with z|z;rw[aT z]at h1;exact a f (ak h1) j hj;have:i=F.length:=by lia
 subst this;rw[bh (am _),cj]at h1;have:g=f:=by simpa using h1
 subst this;exact hj
def gW.mono {c:fA}{R:eW Fk}{s:Sd}(h:gW c L R s):∀g:Fk,g.sd=s->qV c (R.reverse++[g]):=by induction h with|nil _ _=>intro g _;exact qV.snoc (F:=[]) (λi p f o _ a=>by simp at a) λf b=>nomatch b|@cons f F s a h2 h3 h4 ih=>intro g e;rw[cF];refine qV.snoc (ih f rfl) λx m j d=>?_;rw[e];have l:gW c L (f::F) s:=.cons a h2 h3 h4;refine(l.sub x ?_).1 j d;rcases aE.mp m with z|z;exact bt _ (cC.mp z);rw[af.mp z];exact bH
def gW.fks {c:fA}{R:eW Fk}{s:Sd}(h:gW c L R s):∀f∈R,lr c f/\jv c L f.sd:=by induction h with|nil _ _=>exact λf a=>nomatch a|cons h1 h2 h3 h4 ih=>intro x hx;rcases ao.mp hx with rfl|hx;exact⟨h2,h1.sd⟩;exact ih x hx
def fA.NY (c:fA)(m:Nat)(F:eW Fk):eW Fk:=match F.getLast? with
 |some g=>(match g.bit with
  |some k=>F.map (c.M7 k m)
  |none=>F)
 |none=>F
theorem nA {α:Type}{p q:α->Bool}:∀{l:eW α},(∀x∈l,q x=true->p x=true)->(l.filter q).length<=(l.filter p).length
 |[],_=>am _
 |x::l,h=>by have ih:=nA (l:=l) λy hy=>h y (by simp[hy]);rw[aI,aI];by_cases hq:q x=true;rw[ay hq,ay (h x (by simp) hq),au,au];lia;rw[ax hq];split;rw[au];lia;exact ih
theorem rZ {α:Type}{p q:α->Bool}{k:α}:∀{l:eW α},(∀x∈l,q x=true->p x=true)->k∈l->p k=true->q k=false->(l.filter q).length<(l.filter p).length
 |[],_,hk,_,_=>nomatch hk
 |x::l,h,hk,hp,hq=>by have hl:∀y∈l,q y=true->p y=true:=λy hy=>h y (by simp[hy]);rw[aI,aI];rcases ao.mp hk with rfl|hk;rw[ax (by rw[hq];decide),ay hp,au];have:=nA hl;lia;have ih:=rZ hl hk hp hq;by_cases hx:q x=true;rw[ay hx,ay (h x (by simp) hx),au,au];lia;rw[ax hx];split;rw[au];lia;exact ih
def fA.N2 (c:fA)(k:Pk)(m:Nat)(f:Fk):c.cnt (c.M7 k m f)<=c.cnt f:=by unfold fA.cnt fA.left;refine nA λx a h=>?_;simp only[aQ,aG,bQ,decide_eq_false_iff_not]at h ⊢;exact⟨h.1,λz=>h.2 (fA.Nb z)⟩
def fA.N3 {c:fA}{k:Pk}{m:Nat}{f:Fk}(a:k∈c.ks)(hp:k.1=f.part)(b:¬c.has f.sd.dead k)(d:i5 (i5 m (c.bit k)) f.sd.picked=0):c.cnt (c.M7 k m f)<c.cnt f:=by
 unfold fA.cnt fA.left;refine rZ (k:=k) (λx e h=>?_) a ?_ ?_;simp only[aQ,aG,bQ,decide_eq_false_iff_not]at h ⊢;exact⟨h.1,λz=>h.2 (fA.Nb z)⟩;simp only[aQ,aG,bQ,decide_eq_false_iff_not];exact⟨hp,b⟩;have:c.has (c.M7 k m f).sd.dead k:=by show c.has (c.M4 k m f.sd).dead k;unfold fA.M4;rw[ay d];exact fA.Mv.mpr (.inr ((fA.My a).mpr rfl))
 rw[aq this];simp
theorem zr {c:fA}{B:eW Fk}{g:Fk}{e:Nat×Rs}{n:Nat}(h:gW c L B.reverse g.sd)(F:lr c g)(I:e∈L)(q:e.1<2^c.n)(A:∀j,c.has e.1 j->c.has g.sd.picked j)(d:((B++[g]).take n).reverse=(B++[g]).reverse.dropWhile (λf=>!c.stop e.1 f)):((B++[g]).take n=[]/\e.1=0)\/∃B2 g2,c.NY e.1 ((B++[g]).take n)=B2++[g2]/\gW c L B2.reverse g2.sd/\lr c g2/\c.mv (c.n+1) (B2++[g2])<c.mv (c.n+1) (B++[g])/\e.1≠0:=by
 have s:c.stop e.1 g=false:=by unfold fA.stop;cases hb:g.bit with|none=>rfl|some k=>exact aw λz=>F.M0 h.sd hb (A k z)
 rw[cV,List.reverse_singleton,List.singleton_append,List.dropWhile_cons,ay (by rw[s];rfl)]at d;rcases DO h A with ⟨J,G⟩|⟨O,b,l,k,H,N,o,x,C,v,m,D⟩;left;rw[J]at d;exact⟨List.reverse_eq_nil_iff.mp d,fA.MD q G⟩;right;rw[N]at d;have E:(B++[g]).take n=l.reverse++[b]:=by have:=congrArg List.reverse d;rw[dm,cF]at this;exact this
 have M:B=l.reverse++b::O.reverse:=by have:=congrArg List.reverse H;rw[dm,cV,cF,ce]at this;exact this
 have t:k∈c.ks:=(m.bit k o).1;have p:¬c.has b.sd.picked k:=m.M0 v.sd o;have P:i5 (i5 e.1 (c.bit k)) b.sd.picked=0:=(fA.Nf t q).mpr C;refine⟨l.reverse.map (c.M7 k e.1),c.M7 k e.1 b,?_,?_,m.M7,?_,λz=>?_⟩;rw[E];unfold fA.NY;rw[List.getLast?_append];simp only[List.getLast?_singleton,Option.some_or];rw[o];show List.map (c.M7 k e.1) (l.reverse++[b])=_;rw[aC];rfl;have:=v.M7 t I q x p;rw[<-List.map_reverse,dm];exact this;rw[M,ce,dD];refine fA.Nk c (fA.N3 t (m.bit k o).2.1 D P) (c.n+1) _ _ (by rw[ae]) (λi a Q K y=>?_) ?_;rw[ai,K]at y;cases y;exact c.N2 k e.1 a;have:=v.depth;rw[cb];lia;rw[z]at x;exact fA.Mz x
def jB (H:Hp)(O:eW eQ)(H':Hp)(O':eW eQ):Prop:=∀x u,H x=some u->vv u->x∉O->H' x=some u/\x∉O'
def jB.refl (H:Hp)(O:eW eQ):jB H O H O:=λx u h _ n=>⟨h,n⟩
def jB.trans {H1 H2:Hp}{O1 O2:eW eQ}(a:jB H O H1 O1)(b:jB H1 O1 H2 O2):jB H O H2 O2:=λx u h f n=>(by obtain⟨h1,n1⟩:=a x u h f n;exact b x u h1 f n1)
def jq.N4 {G G' H':Hp}{O':eW eQ}(g:jq G H O G' H' O'):jB H O H' O':=λx u h f n=>⟨g.keep n h (by cases u <;> first|exact λz=>z|exact f.elim),g.out n h⟩
def jB.del {H':Hp}{ys:eW eQ}(e:fF (del H ys) H')(hy:∀y∈ys,∃u,H y=some u/\¬vv u):jB H O H' O:=λx u h f n=>by
 have nx:x∉ys:=λz=>by obtain⟨v,h1,h2⟩:=hy x z;rw[h]at h1;cases h1;exact h2 f
 refine⟨e.no (by rw[fG nx];exact h) ?_,n⟩;cases u <;> first|exact λz=>z|exact f.elim
end
section
seal lI PS PE PT PA
variable {A:eW (eQ×eQ)}{CB CC CF CL CS CT:eQ}{F:eW Fk}{G G' H H':Hp}{K:fh}{O O':eW eQ}{P:eV}{fd:eZ}{m:Nat}{mg:Str->fc eR}
def mH.grow {s:eQ}{sd:Sd}(h:mH CT G H s sd)(g:jq G H O G' H' O')(n:s∉O):mH CT G' H' s sd:=
 (by obtain⟨dx,w,h1,h2⟩:=h;exact⟨dx,w,g.keep n h1 λz=>z,h2.f g.gg⟩)
def nX (CF CT:eQ)(G H:Hp)(c:fA)(a:eQ×eQ)(fk:Fk):Prop:=(∃dx,H a.1=some (.ins CF dx (uV (.str fk.part) (.ref a.2) (.int (c.Mo fk.bit:Nat)))))/\mH CT G H a.2 fk.sd
structure jN (CF CT:eQ)(G H:Hp)(c:fA)(fl:eQ)(A:eW (eQ×eQ))(F:eW Fk):Prop where
 l:H fl=some (.lst (A.map λa=>V.ref a.1))
 p:ff (nX CF CT G H c) A F
 offl:G fl=none
 off:∀a∈A,G a.1=none/\G a.2=none
 nd1:(A.map (·.1)).Nodup
 nd2:(A.map (·.2)).Nodup
def zu (O:eW eQ)(fl:eQ)(A:eW (eQ×eQ)):Prop:=fl∉O/\∀a∈A,a.1∉O/\a.2∉O
def jN.grow {c:fA}{fl:eQ}(h:jN CF CT G H c fl A F)(g:jq G H O G' H' O')(s:zu O fl A):jN CF CT G' H' c fl A F:=by
 have j:∀a∈A,∃d,nX CF CT G H c a d:=λa b=>by obtain⟨i,t⟩:=aD.mp b;obtain⟨d,_,q⟩:=Paired.Ml h.p t;exact⟨d,q⟩
 refine⟨g.keep s.1 h.l λz=>z,?_,g.off h.offl h.l,λa b=>?_,h.nd1,h.nd2⟩;have:=h.p;have key:∀{A:eW (eQ×eQ)} {F:eW Fk},(∀a∈A,a.1∉O/\a.2∉O)->ff (nX CF CT G H c) A F->ff (nX CF CT G' H' c) A F:=by intro A F m hp;induction hp with|nil=>exact .nil|cons h1 _ ih=>exact .cons ⟨(by obtain⟨o,e⟩:=h1.1;exact⟨o,g.keep (m _ (by simp)).1 e λz=>z⟩),h1.2.grow g (m _ (by simp)).2⟩ (ih λa b=>m a (by simp[b]))
 exact key s.2 h.p;obtain⟨d,⟨o,v⟩,y,w,x,_⟩:=j a b;exact⟨g.off (h.off a b).1 v,g.off (h.off a b).2 x⟩
def zu.grow {c:fA}{fl:eQ}(h:jN CF CT G H c fl A F)(g:jq G H O G' H' O')(s:zu O fl A):zu O' fl A:=by refine⟨g.out s.1 h.l,λa b=>?_⟩;obtain⟨i,j⟩:=aD.mp b;obtain⟨m,_,⟨o,d⟩,q,w,e,_⟩:=Paired.Ml h.p j;exact⟨g.out (s.2 a b).1 d,g.out (s.2 a b).2 e⟩
def xR {c:fA}{k:Pk}(a:k∈c.ks):m &&& c.bit k≠0↔c.has m k:=by have b:m &&& c.bit k<2^c.n:=bX Nat.and_le_right (c.MC a);constructor;intro h;refine Classical.byContradiction λz=>h (fA.MD b λj e=>z ?_);obtain⟨d,g⟩:=fA.Mw.mp e;rw[<-(fA.My a).mp g];exact d;intro h z;have:c.has (m &&& c.bit k) k:=fA.Mw.mpr ⟨h,(fA.My a).mpr rfl⟩;rw[z]at this;exact fA.Mz this
def kP {c:fA}{k:Pk}(a:k∈c.ks):(((m &&& c.bit k:Nat):Int) != 0)=decide (c.has m k):=by rw[qH];by_cases h:c.has m k;rw[aw (xR a |>.mpr h),aq h];rfl;rw[aq (Classical.byContradiction λz=>h ((xR a).mp z)),aw h];rfl
def Kr (c:fA)(F:eW Fk)(k:Pk)(m:Nat):Prop:=c.has m k/\∀f∈F,c.has f.sd.dead k->∀j,c.has m j->j=k\/c.has f.sd.picked j
inductive uh (CB CC CL CS CF CT:eQ)(vs:eW V)(H:Hp)(Q:VK)(E:XK):Prop
 |mk (G:Hp)(p ch le fl:eQ)(c:fA)(L:jz)(O:eW eQ)(A:eW (eQ×eQ))(F:eW Fk)(v:V)(k:Pk)(_:vs=[.ref p,v])(_:Se CB CC CS G H p ch le fl c)(_:im CL G H le ch c L O)(_:jm c L)(_:jN CF CT G H c fl A F)(_:fX G v k)(_:k∈c.ks)(_:qV c F)(_:∀f∈F,jv c L f.sd)(_:∃f0∈F,c.has f0.sd.dead k/\¬c.isP f0.sd.picked k.1)(_:F.length<=64)(_:Cf CL G H O le ch c L (Kr c F k) Q)
def xp {c:fA}{j k:Pk}(d:j∈c.ks)(g:k∈c.ks)(h:j.1=k.1->j=k):c.MV (c.bit j ||| c.bit k):=by
 intro a b l i e;rcases fA.Mv.mp l with x|x <;> rcases fA.Mv.mp i with y|y
 rw[(fA.My d).mp x,(fA.My d).mp y];rw[(fA.My d).mp x,(fA.My g).mp y]at e ⊢;exact h e;rw[(fA.My g).mp x,(fA.My d).mp y]at e ⊢;exact(h e.symm).symm;rw[(fA.My g).mp x,(fA.My g).mp y]
def Dc {c:fA}{k:Pk}(d:k∈c.ks):c.MV (0 ||| c.bit k):=by intro a b g e _;rw[Nat.zero_or]at g e;rw[(fA.My d).mp g,(fA.My d).mp e]
def HW:(["fork","bit"]:eW Str).Nodup:=by decide +kernel
section
variable {w:fe}{base:fb}{f:eQ}
def CP:fL ["self","pick","bit","stand","foes"] ["self","pick"] (fE vJ):=jD
theorem Di (F:je K "line_against" "Search.line_against" vJ f fd)(T:ur K mg CS)(M:TC K mg CC)(TT:DR K mg CT)(TF:Cd K mg CF)(MO:Mt P w K mg base CS gM 3 "outside" ["self","who","pick"] (vh CB CC CL CS))(ML:Mt P w K mg base CC gM 1 "listed" ["self","mask"] (lH CC))(MA:Mt P w K mg base CL gM 1 "place_against" ["self","pick","picked"] (ug CB CC CL)):gv P w K mg base gM 4 f fd ["self","pick"] (uh CB CC CL CS CF CT):=by
 refine F.ok CP λd7 A cz s H vs Q E hr h=>?_;obtain⟨G,p,Y,le,fl,c,L,O,AA,FF,v,k,rfl,N,hL,J,hF,hv,o,a9,bq,⟨f0,b2,b1,dc⟩,dv,q⟩:=h;have hu:=iD hr;refine⟨_,(fm (fJ (i:=2) CP.nd (gj hu (fK M.cl M.nBits (fK T.cl T.nCh (pv 0))) (pv 1))) (fm (fJ (i:=3) CP.nd (fZ gu (iG (N':=["fork","bit"]) (n:=1) (js:=[2]) rfl (iT.one (c:=s.heap.objs.size+1) (y:="bit")) (iz (by decide)) (gL (fK T.cl T.nFo (pv 0))) (λC s2 H2 fp=>fQ (i:=0) HW) (λC s2 H2 fp=>lu (vP (fU iV (fK TT.cl TT.nDe (fK TF.cl TF.nSt (pv 0))) (pv 1)) (λ_=>rfl))) (λC s2 H2 fp=>fK TF.cl TF.nSt (pv 0))) fD)) (fm (gK (i9 (fU iV (gj hu (fK M.cl M.nFo (fK T.cl T.nCh (pv 0))) ja) (pv 2)) (λ_=>rfl)) (fz (gc (iY MO hr gJ (pv 0) (fi ja (fi (pv 1) fq))))) gi) (fm (fJ (i:=4) CP.nd (iY ML (hr.mono (by decide)) gJ (fK T.cl T.nCh (pv 0)) (fi (fU iV (gj hu (fK M.cl M.nFo (fK T.cl T.nCh (pv 0))) (pv 1)) (fU rP (fK TT.cl TT.nPi (pv 3)) (pv 2))) fq))) (fm (gK (tG (i9 (pv 4) (λ_=>rfl))) (fz (gc (iY MA (hr.mono (by decide)) gJ (fK T.cl T.nLe (pv 0)) (fi (pv 1) (fi (fK TT.cl TT.nPi (pv 3)) fq))))) gi) (fm (gK (i9 (fU iV (gj hu (fK M.cl M.nSh (fK T.cl T.nCh (pv 0))) (fZ gu (pv 4) fD)) (pv 2)) (λ_=>rfl)) (fz (gc (iY MO hr gJ (pv 0) (fi (fZ gu (pv 4) fD) (fi (pv 1) fq))))) gi) (fz (gc (iY MO hr gJ (pv 0) (fi (pv 1) (fi (fZ gu (pv 4) fD) fq))))))))))),?_⟩;obtain⟨dx,hp⟩:=N.self;have x:=N.gh.ins hp;obtain⟨cx,b,bits,dp,dy,al,sh,fo,st,c1,c2,c3,c4,c5,c6,c7,c8,c9⟩:=(N.chart.f N.gh).ex;have be:fX H v k:=fX.f N.gh hv;have lA:AA.length=FF.length:=Paired.length hF.p;refine⟨_,rfl,p,dx,_,_,rfl,x,rfl,Y,cx,_,_,rfl,c1,rfl,_,rfl,bits,_,rfl,c4.get (w:=some k) (iq o) be,?_⟩;refine⟨_,rfl,p,dx,_,_,rfl,x,rfl,fl,rfl,⟨_,gf.of hF.l⟩,?_⟩;refine iK (xs:=AA.map λa=>V.ref a.1) (λD i ys H7=>H7 D=some (.lst ys)/\fH H H7/\H D=none/\ys.length<=i/\((ys=[]/\∀R<i,∀f:Fk,FF[R]?=some f->¬c.has f.sd.dead k)\/∃(i0:Nat) (a:eQ) (g:Fk) (S:eW V),ys=.ref a::S/\FF[i0]?=some g/\mH CT G H a g.sd/\c.has g.sd.dead k/\∀R<i0,∀f:Fk,FF[R]?=some f->¬c.has f.sd.dead k))
  (λD hD=>⟨fj,fB hD _,hD,am _,.inl ⟨rfl,λR B=>absurd B (cq _)⟩⟩) (λD i ys H7 hi ⟨e1,t,e3,e4,_⟩=>⟨gf.of (t _ _ hF.l),e1,?_⟩) (λD i y ys H7 hi ⟨e1,t,e3,e4,e5⟩=>?_) (λD ys H7 ⟨e1,t,e3,e4,e5⟩=>?_)
 rw[ae]at hi;exact fO (by lia);rw[ai]at hi;obtain⟨a,ha,rfl⟩:=aF.mp hi;obtain⟨fk,b0,⟨fx,bl⟩,ag⟩:=Paired.Ml hF.p ha;obtain⟨sx,wa,an,da⟩:=id ag;unfold jl;refine⟨_,rfl,a.1,fx,_,V.ref a.2,rfl,t _ _ bl,rfl,a.2,sx,_,V.int (fk.sd.dead:Nat),rfl,t _ _ an,rfl,_,rfl,_,_,rfl,rfl,_,rfl,?_⟩;rw[oG,show c.Mo (some k)=c.bit k from rfl,kP o];by_cases hd:c.has fk.sd.dead k;rw[aq hd];refine ip ⟨_,rfl,a.1,fx,_,V.ref a.2,rfl,t _ _ bl,rfl,e1,fj,fH.upd t e3,e3,by rw[aB,aM];lia,.inr ?_⟩;rcases e5 with ⟨z1,z2⟩|⟨i0,a0,g,S,z1,z2⟩;subst z1;exact⟨i,a.2,fk,[],rfl,b0,ag,hd,z2⟩;exact⟨i0,a0,g,S++[.ref a.2],by rw[z1];rfl,z2⟩;rw[aw hd];refine gB ⟨e1,t,e3,by lia,?_⟩;rcases e5 with ⟨z1,z2⟩|z;refine .inl ⟨z1,λR B f hf=>?_⟩;rcases eD R i with y|y;exact z2 R y f hf;have:R=i:=by lia
 rw[this,b0]at hf;cases hf;exact hd;exact .inr z;rw[ae]at e5;have b3:¬(ys=[]/\∀R<AA.length,∀f,FF[R]?=some f->¬c.has f.sd.dead k):=λ⟨_,z⟩=>by obtain⟨R,B⟩:=aD.mp b2;exact z R (by rw[lA];exact(aj.mp B).1) f0 B b1
 obtain⟨i0,sa,g,S,rfl,hg,ag,bm,ah⟩:=e5.resolve_left b3;have bv:=ak hg;have a4:∀f∈FF,c.has f.sd.dead k->∀j,c.has g.sd.picked j->c.has f.sd.picked j:=λf hf a7=>by obtain⟨R,B⟩:=aD.mp hf;exact a9 i0 R g f (Nat.le_of_not_lt λz=>ah R z f B a7) hg B
 have co:¬c.isP g.sd.picked k.1:=(by rintro⟨j,h1,h2⟩;exact dc ⟨j,a4 f0 b2 b1 j h1,h2⟩);have a8:∀m,c.has m k->(∀j,c.has m j->j=k\/c.has g.sd.picked j)->Kr c FF k m:=λm h1 h2=>⟨h1,λf hf a7 j U=>(h2 j U).imp id (a4 f hf a7 j)⟩;obtain⟨sx,wa,an,da⟩:=id ag;have g7:fF G H7:=N.gh.trans t.toF;have cv:=N.same t;have cp:=hL.same t;have GW:=jq.same (O:=O) N.gh t;refine⟨D,_,_,V.ref sa,rfl,rfl,gf.of e1,nT,?_⟩;refine⟨_,rfl,p,dx,_,_,rfl,t _ _ x,rfl,Y,cx,_,_,rfl,t _ _ c1,rfl,fo,_,rfl,(c9.same t).get (w:=none) jZ rfl,_,rfl,_,_,rfl,rfl,_,rfl,?_⟩;dsimp only;rw[oG,show c.Mo (some k)=c.bit k from rfl,kP o];by_cases hns:c.has (c.Nt none) k;rw[aq hns];refine ip ⟨_,rfl,p,dx,_,rfl,t _ _ x,rfl,_,rfl,G,p,Y,le,fl,c,L,O,_,v,none,k,rfl,cv,cp,J,jZ,rfl,hv,o,(fA.Nv.mp hns).2,Dc o,?_⟩;intro G' H' O' L' j e gw hl I hx U hm ab;refine q G' H' O' L' j e (GW.trans gw) hl I hx U ?_ ab;have Z:e.1=0 ||| c.bit k:=hm;rw[Z,Nat.zero_or];exact a8 _ ((fA.My o).mpr rfl) λj U=>.inl ((fA.My o).mp U);rw[aw hns];refine gB ?_;have b9:c.Nt (some k) &&& (g.sd.picked ||| c.bit k)<2^c.n:=oH (c.Nx _);have dd:=N.chart;obtain⟨gx,gb,ct,b7,du,d8,ds,d9,dn,d1,d2,d3,d4,d5,d6⟩:=dd.ex;refine⟨_,rfl,p,dx,_,V.ref Y,rfl,t _ _ x,rfl,Y,gx,_,rfl,g7.ins d1,rfl,_,rfl,p,dx,_,_,rfl,t _ _ x,rfl,Y,cx,_,_,rfl,t _ _ c1,rfl,_,rfl,fo,_,rfl,(c9.same t).get (w:=some k) (iq o) (fX.same t be),_,rfl,sa,sx,_,V.int (g.sd.picked:Nat),rfl,t _ _ an,rfl,_,rfl,_,_,rfl,rfl,_,_,rfl,rfl,?_⟩;dsimp only;rw[xO,oG];refine⟨G,Y,gx,b7,_,c,_,rfl,g7,g7.ins d1,rfl,d5,N.n,b9,λl xs H8 s8 dl ad bd cy=>?_⟩;have d:=t.trans s8;have g8:fF G H8:=N.gh.trans d.toF;have bf:=N.same d;have as:=hL.same d;have a5:=jq.same (O:=O) N.gh d;refine⟨_,rfl,_,.inl ⟨xs,gf.of ad,rfl⟩,?_⟩;have lx:=Paired.length bd;cases hxs:c.listed (c.Nt (some k) &&& (g.sd.picked ||| c.bit k)) with
 |nil=>
  rw[hxs]at lx;have:xs=[]:=bV.mp lx;subst this;refine ip ?_;have a1:∀j,c.foe k j->(j=k\/c.has g.sd.picked j)->j∈c.ks->False:=λj h1 h2 h3=>by have:j∈c.listed (c.Nt (some k) &&& (g.sd.picked ||| c.bit k)):=fA.Mu.mpr (fA.Mw.mpr ⟨fA.Nw.mpr ⟨h3,h1⟩,fA.Mv.mpr (h2.elim (λz=>.inr ((fA.My o).mpr z)) .inl)⟩);rw[hxs]at this;cases this
  have cs:c.MX L g.sd.picked k:=by rcases (bq g bv).just k bm with z|z|⟨j,z1,z2⟩|z;exact absurd (fA.Nv.mpr ⟨o,z⟩) hns;exact(a1 k z (.inl rfl) o).elim;exact(a1 j z2 (.inr z1) z1.1).elim;exact z
  obtain⟨b8,ma,re,pm,pp,dt,rs,Ol,hO,cn,b5⟩:=id hL.ex;refine⟨_,rfl,p,dx,_,V.ref le,rfl,d _ _ x,rfl,le,b8,_,rfl,d _ _ (N.gh.ins cn),rfl,_,rfl,_,rfl,sa,sx,_,V.int (g.sd.picked:Nat),rfl,d _ _ an,rfl,G,le,Y,c,L,O,v,k,g.sd.picked,rfl,g8,N.chart,as,fX.same d be,o,λH' j e s' U he=>?_,λb6=>?_⟩;refine q G H' O L j e (a5.trans (jq.same g8 s')) (as.same s') J ⟨[],by simp⟩ U ?_ .inl;have h1:c.has (i5 e.1 g.sd.picked) k:=by rw[he];exact(fA.My o).mpr rfl
  refine a8 _ (fA.Mx.mp h1).1 λj' c0=>?_;by_cases ap:c.has g.sd.picked j';exact .inr ap;have:c.has (i5 e.1 g.sd.picked) j':=fA.Mx.mpr ⟨c0,ap⟩;rw[he]at this;exact .inl ((fA.My o).mp this);obtain⟨e,he,h1,h2⟩:=cs;exact absurd (v8 o (J.lt e he) h1 h2 ((bq g bv).off k bm)) (b6 e he h1)
 |cons j0 js=>
 rw[hxs]at lx;obtain⟨x0,xr,rfl⟩:∃x0 xr,xs=x0::xr:=by cases xs with|nil=>simp at lx|cons a b=>exact⟨a,b,rfl⟩
 rw[hxs]at bd;have a6:fX G x0 j0:=by cases bd with|cons h _=>exact h
 have b4:j0∈c.listed (c.Nt (some k) &&& (g.sd.picked ||| c.bit k)):=by rw[hxs];exact bH
 obtain⟨cd,ap⟩:=fA.Mw.mp (fA.Mu.mp b4);obtain⟨X,bx⟩:=fA.Nw.mp cd;have a3:j0=k\/c.has g.sd.picked j0:=(fA.Mv.mp ap).elim .inr λz=>.inl ((fA.My o).mp z);have aa:j0.1=k.1->j0=k:=λe=>a3.resolve_right λz=>co ⟨j0,z,e⟩;have a2:Kr c FF k (c.bit j0 ||| c.bit k):=a8 _ (fA.Mv.mpr (.inr ((fA.My o).mpr rfl))) λj U=>(fA.Mv.mp U).elim (λz=>by rw[(fA.My X).mp z];exact a3) λz=>.inl ((fA.My o).mp z);refine gB ?_;refine⟨_,rfl,p,dx,_,_,rfl,d _ _ x,rfl,Y,cx,_,_,rfl,d _ _ c1,rfl,_,rfl,l,_,_,x0,rfl,rfl,gf.of ad,nT,sh,_,rfl,(c8.same d).get (w:=some j0) (iq X) (fX.f g8 a6),_,rfl,_,_,rfl,rfl,_,rfl,?_⟩;dsimp only;rw[oG,kP o];by_cases hsj:c.has (c.Nr (some j0)) k;rw[aq hsj];refine ip ⟨_,rfl,p,dx,_,rfl,d _ _ x,rfl,_,rfl,l,_,_,x0,rfl,rfl,gf.of ad,nT,_,rfl,G,p,Y,le,fl,c,L,O,_,v,some j0,k,rfl,bf,as,J,iq X,a6,hv,o,(fA.Nv.mp hsj).2,xp X o aa,?_⟩;intro G' H' O' L' j e gw hl I hx U hm ab;refine q G' H' O' L' j e (a5.trans gw) hl I hx U ?_ ab;have Z:e.1=c.bit j0 ||| c.bit k:=hm;rw[Z];exact a2;rw[aw hsj];refine gB ⟨_,rfl,p,dx,_,rfl,d _ _ x,rfl,_,rfl,_,rfl,l,_,_,x0,rfl,rfl,gf.of ad,nT,G,p,Y,le,fl,c,L,O,v,x0,some k,j0,rfl,bf,as,J,iq o,hv,a6,X,?_,xp o X (λe=>(aa e.symm).symm),?_⟩;rcases bx with z|z;exact z;exact absurd (fA.Nv.mpr ⟨o,z⟩) hsj;intro G' H' O' L' j e gw hl I hx U hm ab;refine q G' H' O' L' j e (a5.trans gw) hl I hx U ?_ ab;have Z:e.1=c.bit k ||| c.bit j0:=hm;rw[Z,Nat.or_comm];exact a2
end
def IG (c:fA)(L:jz)(kvs:eW (io×V)):fc (Pk×Nat×Nat)->Prop
 |none=>kvs=[]
 |some (k0,j0,m0)=>k0∈c.ks/\kvs=[(Sum.inl (c.bit k0:Int),V.int (j0:Nat))]/\∃e,L[j0]?=some e/\e.1=m0
def Ki (c:fA)(fk:Fk)(kn:fc (Pk×Nat×Nat))(m:Nat):Prop:=∀j,c.has m j->c.has fk.sd.picked j\/∃k0 j0 m0,kn=some (k0,j0,m0)/\c.has m0 j/\j≠k0
inductive BV (CB CC CL CS CF CT:eQ)(vs:eW V)(H:Hp)(Q:VK)(E:XK):Prop
 |mk (G:Hp)(p ch le fl:eQ)(c:fA)(L:jz)(O:eW eQ)(A:eW (eQ×eQ))(F:eW Fk)(i:Nat)(a:eQ×eQ)(fk:Fk)(kd:eQ)(kvs:eW (io×V))(kn:fc (Pk×Nat×Nat))(_:vs=[.ref p,.ref a.1,.ref kd])(_:Se CB CC CS G H p ch le fl c)(_:im CL G H le ch c L O)(_:jm c L)(_:jN CF CT G H c fl A F)(_:zu O fl A)(_:qV c F)(_:∀f∈F,jv c L f.sd)(_:F.length<=64)(_:A[i]?=some a)(_:F[i]?=some fk)(_:fk.part∈fk.sd.wanted.map (·.1))(_:Rd H kd (.dK kvs))(_:kd∉O)(_:IG c L kvs kn)(_:∀k∈c.ks,k.1=fk.part->c.has fk.sd.dead k\/∃j0 m0,kn=some (k,j0,m0))(_:∀m,Ki c fk kn m->c.MV m)(_:Cf CL G H O le ch c L (Ki c fk kn) Q)
theorem FJ {c:fA}{L:jz}{kvs:eW (io×V)}{kn:fc (Pk×Nat×Nat)}(h:IG c L kvs kn){k:Pk}(a:k∈c.ks):(fW kvs (Sum.inl (c.bit k:Int))=none/\∀j0 m0,kn≠some (k,j0,m0))\/∃(j0 m0:Nat) (e:Nat×Rs),kn=some (k,j0,m0)/\fW kvs (Sum.inl (c.bit k:Int))=some (.int (j0:Nat))/\L[j0]?=some e/\e.1=m0:=by
 match kn,h with
 |none,h=>exact .inl ⟨by rw[show kvs=[] from h];rfl,λ_ _ z=>nomatch z⟩
 |some (k0,j0,m0),⟨h1,h2,e,h3,h4⟩=>
  by_cases z:k=k0;subst z;refine .inr ⟨j0,m0,e,rfl,?_,h3,h4⟩;rw[h2];exact ir rfl;refine .inl ⟨?_,λ_ _ y=>z (by cases y;rfl)⟩;rw[h2];unfold fW;rw[bB,aw];rfl;intro y;have d:=Sum.inl.inj y;have:c.bit k0=c.bit k:=by lia
  refine z ?_;have b:c.has (c.bit k0) k:=by rw[this];exact(fA.My a).mpr rfl
  exact(fA.My h1).mp b
def xt {α:Type} [DecidableEq α] {β:Type}{f:β->α}{l:eW β}{x:α}(h:x∈l.map f):∃y,l[(l.map f).idxOf x]?=some y/\f y=x:=by have a:=bD.mpr h;have b:=cO a;rw[List.getElem_map]at b;exact⟨_,ar _,b⟩
section
variable {w:fe}{base:fb}{f:eQ}
def lU:fL ["self","fork","known","who","place","need","mask","below","version","pick","bit","at"] ["self","fork","known"] (fE Ac):=jD
theorem Dd (F:je K "shut" "Search.shut" Ac f fd)(T:ur K mg CS)(U:TC K mg CC)(eq:TL K mg CL)(fv:TB K mg CB)(TT:DR K mg CT)(TF:Cd K mg CF)(MN:Mt P w K mg base CS gM 1 "place_of_need" ["self","who","part"] (uf CB CC CS))(MM:Mt P w K mg base CB gM 2 "meeting" ["self","need"] (mh CB))(MA:Mt P w K mg base CS gM 4 "line_against" ["self","pick"] (uh CB CC CL CS CF CT))(MP:Mt P w K mg base CL gM 2 "put_down" ["self","mask","reason"] (DP CB CC CL)):gv P w K mg base gM 5 f fd ["self","fork","known"] (BV CB CC CL CS CF CT):=by
 refine F.ok lU λk7 A h0 s H vs Q E hr h=>?_;obtain⟨G,p,ch,le,fl,c,L,O,AA,FF,i,a,d,kd,as,kn,rfl,N,hL,e7,hF,b3,d8,f0,i1,em,da,d7,hm,fy,h7,b4,el,q⟩:=h;have hu:=iD hr;refine⟨_,(fm (fJ (i:=3) lU.nd (iP hu (fK TT.cl TT.nWa (fK TF.cl TF.nSt (pv 1))) (fK TF.cl TF.nPa (pv 1)))) (fm (fJ (i:=4) lU.nd (iY MN (hr.mono (by decide)) gJ (pv 0) (fi (pv 3) (fi (fK TF.cl TF.nPa (pv 1)) fq)))) (fm (fJ (i:=5) lU.nd (fZ gu (gj hu (fK fv.cl fv.nN (fK U.cl U.nBoard (fK T.cl T.nCh (pv 0)))) (pv 3)) (pv 4))) (fm (fJ (i:=6) lU.nd (gj hu (fK U.cl U.nBits (fK T.cl T.nCh (pv 0))) (pv 3))) (fm (fJ (i:=7) lU.nd (gE fq)) (fm (ie PassesOwn.never rfl (gL (iY MM (hr.mono (by decide)) gJ (fK U.cl U.nBoard (fK T.cl T.nCh (pv 0))) (fi (pv 5) fq))) (fQ (i:=8) lU.nd) (fm (fJ (i:=9) lU.nd (ig (fi (fK TF.cl TF.nPa (pv 1)) (fi (pv 8) fq)))) (fm (fJ (i:=10) lU.nd (gj hu (fK U.cl U.nBits (fK T.cl T.nCh (pv 0))) (pv 9))) (fm (fJ (i:=11) lU.nd (AC (jO (qq hu (pv 10) (pv 2))) (iP hu (pv 2) (pv 10)) (iY MA hr gJ (pv 0) (fi (pv 9) fq)))) (fm (gq (jM aR bn bj iy (pv 7) (fi (pv 11) fq))) (fz (lB (i:=6) lU.nd (fU iV (fZ gu (fK eq.cl eq.nMa (fK T.cl T.nLe (pv 0))) (pv 11)) (jL lR (pv 10))) uN))))))) (fz (gc (iY MP (hr.mono (by decide)) gJ (fK T.cl T.nLe (pv 0)) (fi (pv 6) (fi (ig (fi iA (fi (pv 3) (fi (pv 4) (fi (pv 7) fq))))) fq))))))))))),?_⟩;obtain⟨dx,hp⟩:=N.self;have hw:=N.gh.ins hp;have bd:=ak da;have ej:=f0 d bd;obtain⟨⟨fx,hfa⟩,sx,wa,hsa,wo,wkvs,hwa,hwp⟩:nX CF CT G H c a d:=by obtain⟨hy,h1,h2⟩:=Paired.Ml hF.p em;rw[da]at h1;cases h1;exact h2
 obtain⟨wv,u,e4,e6,ah⟩:=pr hwp d7;obtain⟨j2,fp,fa⟩:=ej.w1 d.part u e6;have J:c.Who u:=λk e=>by subst e;exact fp.1
 refine⟨_,rfl,a.1,fx,_,V.ref a.2,rfl,hfa,rfl,a.2,sx,_,V.ref wa,rfl,hsa,rfl,_,rfl,a.1,fx,_,V.str d.part,rfl,hfa,rfl,wa,_,rfl,.inl ⟨wkvs,Sum.inr d.part,.inr ⟨wo,N.gh.frz hwa⟩,rfl,e4.symm⟩,?_⟩;refine⟨_,rfl,p,dx,_,rfl,hw,rfl,_,rfl,_,rfl,a.1,fx,_,V.str d.part,rfl,hfa,rfl,G,p,ch,le,fl,c,wv,u,d.part,rfl,N,J,ah.f N.gh,fa,λH1 s1=>?_⟩;obtain⟨n,e8,gb⟩:=xt fa;generalize ko:((c.needs u).map (·.1)).idxOf d.part=pl at *;have g1:fF G H1:=N.gh.trans s1.toF;obtain⟨cx,b,bits,kk,k2,al,sh,fo,st,c1,c2,c3,c4,c5,c6,c7,c8,c9⟩:=(N.chart.f g1).ex;obtain⟨bx,dn,dv,gd,hc⟩:=j5 c2 c3;obtain⟨na,g5,zs,hz,f9⟩:=hc u wv J (ah.f g1);have lz:=Paired.length f9;obtain⟨zv,h8,ih⟩:=ou f9 (show kW (c.needs u) (pl:Int)=some n by rw[jG];exact e8);have js:vd zs (pl:Int)=some zv:=pB h8;have cp:=g1.ins hp;refine⟨_,rfl,p,dx,_,_,rfl,cp,rfl,ch,cx,_,_,rfl,c1,rfl,b,bx,_,_,rfl,gd,gT _ _,_,rfl,dn,_,rfl,g5,_,rfl,na,_,_,zv,rfl,rfl,gf.of hz,js,?_⟩;refine⟨_,rfl,p,dx,_,_,rfl,cp,rfl,ch,cx,_,_,rfl,c1,rfl,_,rfl,bits,_,rfl,c4.get J (ah.f g1),?_⟩;refine⟨oM,λg M=>?_⟩;have s2:=fB M (.lst []);have b7:upd H1 g (.lst []) g=some (.lst []):=fj;generalize upd H1 g (.lst [])=H2 at *;have d9:=s1.trans s2;have g2:fF G H2:=N.gh.trans d9.toF;refine⟨_,rfl,p,dx,_,_,rfl,s2 _ _ cp,rfl,ch,cx,_,V.ref b,rfl,s2 _ _ c1,rfl,b,bx,_,rfl,s2 _ _ gd,nR _ _ (by decide +kernel) (by decide +kernel),_,rfl,b,st,c.es,_,n,rfl,c2.same s2,gX.same s2 ih,by rw[<-c.n_eq];exact N.n,λl ms H3 s3 hl gk gp i3=>?_⟩;have ga:=uH gp i3;subst ga;have R:H g=none:=s1.free M;have ec:=d9.trans s3;have f8:l≠g:=λz=>by rw[z,b7]at hl;cases hl
 have hd:l∉O:=λz=>by obtain⟨v,hv⟩:=hL.liv l z;rw[d9 _ _ hv]at hl;cases hl
 have f4:g∉O:=λz=>by obtain⟨v,hv⟩:=hL.liv g z;rw[R]at hv;cases hv
 refine⟨l,rfl,⟨_,gf.of gk⟩,?_⟩;refine iE (K:=K) (a:=l) (xs:=(lE c.es n).map V.int) (λt σ H4=>∃(G':Hp) (O':eW eQ) (L':jz) (bs:eW Nat) (m:Nat) (o8 o9 cv cy:fc V),σ=[some (.ref p),some (.ref a.1),some (.ref kd),some wv,some (.int (pl:Nat)),some zv,some (.int (m:Nat)),some (.ref g),o8,o9,cv,cy]/\jq G H O G' H4 O'/\im CL G' H4 le ch c L' O'/\jm c L'/\(∃X,L'=L++X)/\(NZ L->NZ L')/\jN CF CT G' H4 c fl AA FF/\zu O' fl AA/\H4 g=some (.lst (iL bs))/\g∉O'/\G' g=none/\H4 l=some (.lst ((lE c.es n).map V.int))/\l∉O'/\Rd H4 kd (.dK as)/\kd∉O'/\bs.length=t/\(∀(j b:Nat) (v:Int),bs[j]?=some b->(lE c.es n)[j]?=some v->∃e,L'[b]?=some e/\∀x,c.has e.1 x->x=(n.1,v)\/c.has m x)/\m<2^c.n/\Ki c d kn m/\c.MU m u) ?_ ((by rintro t σ H4 _ ⟨_,_,_,_,_,_,_,_,_,_,_,_,_,_,_,_,_,_,_,_,e,_⟩;exact gf.of e)) ?_ ?_;have GW:=jq.same (O:=O) N.gh ec;have bv:∀j,c.has (c.Mo u) j->c.has d.sd.picked j:=λj hj=>by have:=(fA.Nz J).mp hj;subst this;exact fp
 refine⟨G,O,L,[],c.Mo u,none,none,none,none,rfl,GW,hL.same ec,e7,⟨[],by simp⟩,id,hF.grow GW b3,b3,s3 _ _ b7,f4,N.gh.free R,gk,hd,i4 ec hm,fy,rfl,λj b v h=>by simp at h,fA.Ny J,λj hj=>.inl (bv j hj),?_⟩;cases u with|none=>trivial|some k=>exact(fA.Nz J).mpr rfl
 rintro t x σ H4 ht ⟨G4,O4,L4,bs,m,o8,o9,cv,cy,rfl,gw,a3,B,a1,ag,ct,D,S,ab,a5,ey,ea,cn,a8,M,co,an,be,cz⟩;rw[ai]at ht;obtain⟨v,hv,rfl⟩:=aF.mp ht;have g6:=ak hv;obtain⟨⟨fx4,hfa4⟩,hst4⟩:nX CF CT G4 H4 c a d:=by obtain⟨hy,h1,h2⟩:=Paired.Ml ct.p em;rw[da]at h1;cases h1;exact h2
 have hk:(d.part,v)∈c.ks:=(c.mem _).mpr (by rw[<-gb];exact(tS.mp g6).1);refine⟨_,rfl,a.1,fx4,_,V.str d.part,rfl,hfa4,rfl,_,rfl,pO,λtp bf=>?_⟩;have ek:g≠tp:=fC S bf;have b2:=gw.trans (jq.put (O:=O4) (u:=.tup [.str d.part,.int v]) gw.gh bf);have b1:=a3.put gw.gh (u:=.tup [.str d.part,.int v]) bf;have f2:=jq.put (O:=O4) (u:=.tup [.str d.part,.int v]) gw.gh bf;have bq:=ct.grow f2 D;have dt:=fB bf (.tup [.str d.part,.int v]);have ew:fX (upd G4 tp (.tup [.str d.part,.int v])) (.ref tp) (d.part,v):=⟨tp,rfl,fj⟩;have eu:upd G4 tp (.tup [.str d.part,.int v]) g=none:=by rw[fw ek];exact a5
 generalize upd G4 tp (.tup [.str d.part,.int v])=G5 at *;generalize upd H4 tp (.tup [.str d.part,.int v])=H5 at *;have a0:Se CB CC CS G5 H5 p ch le fl c:=N.grow b2.gg b2.gh;have e5:=a0.gh.ins (b2.gg.ins hp);obtain⟨hn,b5,dd,kl,kq,k1,k8,kp,kh,d1,d2,d3,d4,d5,d6⟩:=(a0.chart.f a0.gh).ex;refine⟨_,rfl,p,dx,_,_,rfl,e5,rfl,ch,hn,_,_,rfl,d1,rfl,_,rfl,dd,_,rfl,d4.get (w:=some (d.part,v)) (iq hk) (fX.f a0.gh ew),?_⟩;have e3:∀f∈FF,jv c L4 f.sd:=λf hf=>(f0 f hf).led λe he=>by obtain⟨X,hX⟩:=a1;rw[hX];exact aK _ he
 have a9:=a8;have dy:Rd H5 kd (.dK as):=i4 dt cn;have bm:=dt _ _ S;have ev:=dt _ _ ey;have key:∀(Q':VK) (σ:Lake.St),σ[0]?=some (some (.ref p))->σ[2]?=some (some (.ref kd))->σ[9]?=some (some (.ref tp))->σ[10]?=some (some (.int (c.Mo (some (d.part,v)):Nat)))->
   (∀(G' H':Hp) (O':eW eQ) (L':jz) (j:Nat) (e:Nat×Rs),jq G5 H5 O4 G' H' O'->im CL G' H' le ch c L' O'->jm c L'->(∃X,L'=L4++X)->L'[j]?=some e->(∀x,c.has e.1 x->x=(d.part,v)\/c.has d.sd.picked x\/∃k0 j0 m0,kn=some (k0,j0,m0)/\c.has m0 x/\x≠k0)->(NZ L4->NZ L')->Q' (.int (j:Nat)) H')->
   KM (tB (Hh (lK 10) (lK 2))) (Ed (lK 2) (lK 10)) (uu CS ("line_against":Str) (uh CB CC CL CS CF CT) [] E0 (lK 0) (rE (lK 9) yg)) σ H5 Q':=by
  intro Q' σ e0 e2 e9 e1 hq;have du:jS H5 kd (.int (c.Mo (some (d.part,v)):Nat)) (fW as (Sum.inl (c.bit (d.part,v):Int))):=.inl ⟨as,Sum.inl (c.bit (d.part,v):Int),dy,rfl,rfl⟩;refine⟨_,e1,_,e2,kd,_,rfl,du,_,rfl,?_⟩;rcases FJ h7 hk with ⟨z1,z2⟩|⟨j0,m0,e,z1,z2,z3,z4⟩;rw[z1];refine gB ⟨_,e0,p,dx,_,rfl,e5,rfl,_,e9,G5,p,ch,le,fl,c,L4,O4,AA,FF,.ref tp,(d.part,v),rfl,a0,b1,B,bq,ew,hk,d8,e3,⟨d,bd,(b4 _ hk rfl).resolve_right (by rintro⟨j0,m0,z⟩;exact z2 j0 m0 z),j2⟩,i1,?_⟩;intro G' H' O' L' j e it ka ds j1 h4 b6 ft;refine hq G' H' O' L' j e it ka ds j1 h4 (λx Z=>?_) (λz=>?_);exact(b6.2 d bd ((b4 _ hk rfl).resolve_right (by rintro⟨j0,m0,z⟩;exact z2 j0 m0 z)) x Z).imp id .inl;rcases ft z with y|⟨y,_⟩;exact y;have:=b6.1;rw[y]at this;exact(fA.Mz this).elim;rw[z2]at du ⊢;refine ip ⟨_,e2,_,e1,kd,_,rfl,du,?_⟩;obtain⟨X,hX⟩:=a1;have jn:L4[j0]?=some e:=by rw[hX,aT (aj.mp z3).1];exact z3
  refine hq G5 H5 O4 L4 j0 e (jq.refl a0.gh) b1 B ⟨[],by simp⟩ jn (λx Z=>?_) id;by_cases y:x=(d.part,v);exact .inl y;exact .inr (.inr ⟨_,j0,m0,z1,by rw[<-z4];exact Z,y⟩)
 refine key _ _ rfl rfl rfl rfl λG6 H6 O6 L6 j e I a6 a4 ep cs c0 ez=>?_;have dp:=b2.trans I;have kr:=dp.gh.ins (dp.gg.ins hp);have ap:H6 g=some (.lst (iL bs)):=I.keep ab bm λz=>z;have b9:=I.out ab bm;have b8:=I.off eu bm;have ho:=I.keep ea ev λz=>z;have ha:=I.out ea ev;have kc:bs.length<64:=by have h1:=(aj.mp hv).1;have h2:=oU c.es n;have h3:=N.n;rw[c.n_eq]at h3;lia
 refine⟨_,rfl,.inl ⟨rfl,_,gf.of ap⟩,_,rfl,g,_,_,rfl,rfl,ap,(by unfold iL;rw[ae];exact fO (by lia)),?_⟩;have aa:∀b,b≠g->upd H6 g (.lst (iL bs++[.int (j:Nat)])) b=H6 b:=λb hb=>fw hb;have eh:upd H6 g (.lst (iL bs++[.int (j:Nat)])) g=some (.lst (iL (bs++[j]))):=by rw[fj];unfold iL;rw[aC];rfl
 have b0:=dp.own (u:=.lst (iL bs++[.int (j:Nat)])) R b8;generalize upd H6 g (.lst (iL bs++[.int (j:Nat)]))=H7 at *;have f3:im CL G6 H7 le ch c L6 O6:=a6.grow (fF.refl _) a6.off λx Z=>aa x λz=>b9 (z▸Z);obtain⟨hh,f6,k5,k3,kt,kf,kj,kv,kw,f1,f5,gn⟩:=id f3.ex;have h9:(L6.map (·.1))[j]?=some e.1:=by rw[ai,cs];rfl
 have gx:=b0.gh.ins (b0.gg.ins hp);refine⟨_,rfl,_,rfl,p,dx,_,V.ref le,rfl,gx,rfl,le,hh,_,V.ref f6,rfl,b0.gh.ins f1,rfl,_,rfl,f6,_,_,_,rfl,rfl,gf.of f5,lc h9,_,rfl,_,rfl,_,_,rfl,rfl,_,_,rfl,rfl,?_⟩;dsimp only;rw[rp,xO,show c.Mo (some (d.part,v))=c.bit (d.part,v) from rfl];have fu:e.1<2^c.n:=a4.lt e (ak cs);have hi:∃X,L6=L++X:=by obtain⟨X,hX⟩:=a1;obtain⟨Y,hY⟩:=ep;exact⟨X++Y,by rw[hY,hX,ce]⟩
 have a2:=bq.grow I D;have dc:=zu.grow bq I D;have ad:∀{x C dx fs},H6 x=some (.ins C dx fs)->x≠g:=λ{x C dx fs} h=>gF h ap λz=>nomatch z;have gt:jN CF CT G6 H7 c fl AA FF:=by
  have g8:fl≠g:=λz=>by have:=I.keep D.1 bq.l λz=>z;have cd:=hF.l;rw[z,R]at cd;cases cd
  refine⟨by rw[aa fl g8];exact a2.l,?_,a2.offl,a2.off,a2.nd1,a2.nd2⟩;refine Paired.LJ a2.p (by rintro x y ⟨⟨d1,z1⟩,d2,w2,z2,z3⟩;exact⟨⟨d1,by rw[aa _ (ad z1)];exact z1⟩,d2,w2,by rw[aa _ (ad z2)];exact z2,z3⟩)
 have f7:kd∉O6:=λz=>by rcases I.on kd z with y|y;exact a9 y;rcases dy with h|⟨o,h⟩ <;> (rw[y]at h;cases h)
 have hs:Rd H7 kd (.dK as):=by
  have k6:Rd H6 kd (.dK as):=I.fr.rd (dy.imp (λh=>by rw[fG a9];exact h) (by rintro⟨o,h⟩;exact⟨o,by rw[fG a9];exact h⟩));have ed:kd≠g:=λz=>by rw[z]at k6;rcases k6 with h|⟨o,h⟩ <;> (rw[ap]at h;cases h)
  exact k6.imp (λh=>by rw[aa kd ed];exact h) (by rintro⟨o,h⟩;exact⟨o,by rw[aa kd ed];exact h⟩)
 refine⟨G6,O6,L6,bs++[j],m ||| i5 e.1 (c.bit (d.part,v)),some (.int v),some (.ref tp),some (.int (c.bit (d.part,v):Nat)),some (.int (j:Nat)),rfl,b0,f3,a4,hi,λz=>ez (ag z),gt,dc,eh,b9,b8,by rw[aa l f8];exact ho,ha,hs,f7,by rw[aB,M];rfl,λj' b' v' h1 h2=>?_,j4 an (kD fu),λx Z=>?_,?_⟩;by_cases hjt:j'<bs.length;rw[aT hjt]at h1;obtain⟨e',z1,z2⟩:=co j' b' v' h1 h2;obtain⟨Y,hY⟩:=ep;refine⟨e',by rw[hY,aT (aj.mp z1).1];exact z1,λx Z=>(z2 x Z).imp id λz=>fA.Mv.mpr (.inl z)⟩;have h6:j'=bs.length:=by have:=(aj.mp h1).1;rw[aB,aM]at this;lia
 subst h6;rw[bh (am _),cj]at h1;have iv:j=b':=by simpa using h1
 subst iv;rw[M,hv]at h2;cases h2;refine⟨e,cs,λx Z=>?_⟩;by_cases y:x=(d.part,v);exact .inl (by rw[gb];exact y);exact .inr (fA.Mv.mpr (.inr (fA.Mx.mpr ⟨Z,λz=>y ((fA.My hk).mp z)⟩)));rcases fA.Mv.mp Z with z|z;exact be x z;obtain⟨z1,z2⟩:=fA.Mx.mp z;exact(c0 x z1).resolve_left λy=>z2 ((fA.My hk).mpr y);cases u with|none=>trivial|some k=>exact fA.Mv.mpr (.inl cz)
 rintro σ H4 ⟨G4,O4,L4,bs,m,o8,o9,cv,cy,rfl,gw,a3,B,a1,ag,ct,D,S,ab,a5,ey,ea,cn,a8,M,co,an,be,cz⟩;rw[ae]at M;obtain⟨g7,ma,re,pm,pp,ky,rs,Ol,hO,i0,g4⟩:=id a3.ex;have go:=gw.gh.ins (gw.gg.ins hp);refine⟨_,rfl,p,dx,_,V.ref le,rfl,go,rfl,le,g7,_,rfl,gw.gh.ins i0,rfl,_,rfl,_,rfl,_,rfl,_,rfl,GQ,λt ht=>?_⟩;have i2:g≠t:=fC S ht;have k4:H t=none:=gw.lv t ht;have kx:G4 t=none:=gw.gh.free ht;have eb:jq G H O (upd G4 g (.lst (iL bs))) H4 O4:=gw.base N.gh R S;have a7:=eb.trans (jq.put (u:=.tup [.str ("open":Str),wv,.int (pl:Nat),.ref g]) eb.gh ht);have b1:im CL (upd G4 g (.lst (iL bs))) H4 le ch c L4 O4:=a3.grow ((fF.refl _).upd a5) (λx Z=>by rw[fw (λz:x=g=>ab (z▸Z))];exact a3.off x Z) λ_ _=>rfl;have a6:=b1.put eb.gh (u:=.tup [.str ("open":Str),wv,.int (pl:Nat),.ref g]) ht;have hR:vp (upd (upd G4 g (.lst (iL bs))) t (.tup [.str ("open":Str),wv,.int (pl:Nat),.ref g])) (.ref t) ⟨u,(pl:Nat),.many (bs.map λb:Nat=>(b:Int))⟩:=by refine⟨t,wv,.ref g,rfl,fj,ah.f a7.gg,g,rfl,?_⟩;rw[fw i2,fj,cR];rfl
 have hg:=N.chart.f a7.gg;generalize upd (upd G4 g (.lst (iL bs))) t (.tup [.str ("open":Str),wv,.int (pl:Nat),.ref g])=G6 at *;generalize upd H4 t (.tup [.str ("open":Str),wv,.int (pl:Nat),.ref g])=H6 at *;refine⟨G6,le,ch,c,L4,O4,m,_,_,rfl,a7.gh,hg,a6,hR,an,N.n,N.sm L4 B,λj hj=>?_,λdl H9 O9 g9 is=>?_⟩;obtain⟨e,g3,kb⟩:=rK hj;exact q G6 H6 O4 L4 j e a7 a6 B a1 g3 (by rw[kb];exact be) λz=>.inl (ag z);obtain⟨X,hX⟩:=a1;refine q G6 H9 O9 _ L4.length (m,⟨u,(pl:Nat),.many (bs.map λb:Nat=>(b:Int))⟩) (a7.trans g9) is (B.add an (el m be) (om.mp dl) ?_) ⟨X++[(m,⟨u,(pl:Nat),.many (bs.map λb:Nat=>(b:Int))⟩)],by rw[hX,ce]⟩ ?_ be λh5=>?_;exact yo cz e8 M co;rw[bh (am _),cj];rfl;by_cases bv:m=0;exact .inr ⟨bv,by rw[List.getLast?_append];rfl⟩;refine .inl λx Z=>?_;rcases aE.mp Z with z|z;exact ag h5 x z;rw[af.mp z];exact bv
end
theorem pK {α:Type}{l:eW α}{x:α}(h:l[l.length-1]?=some x):vd l (-1)=some x:=by
 have a:=(aj.mp h).1;unfold vd FP;rw[ax (by decide)];have:(((-1:Int)+(l.length:Int)).toNat)=l.length-1:=by lia
 first
 |(rw[ay (by lia)];simp only[Option.bind_some];rw[this];exact h)
 |(rw[ay (by lia)];show l[_]?=some x;rw[show((l.length:Int)+-1).toNat=l.length-1 by lia];exact h)
inductive xW (CB CC CL CS CF CT:eQ)(vs:eW V)(H:Hp)(Q:VK)(E:XK):Prop
 |mk (G:Hp)(p ch le fl:eQ)(c:fA)(L:jz)(O:eW eQ)(A:eW (eQ×eQ))(F:eW Fk)(k:Pk)(j:Nat)(e:Nat×Rs)(_:vs=[.ref p,.int (c.bit k:Nat),.int (j:Nat)])(_:Se CB CC CS G H p ch le fl c)(_:im CL G H le ch c L O)(_:jN CF CT G H c fl A F)(_:L[j]?=some e)(_:F.length<=64)(_:∀H',fH (del H (A.map (·.2))) H'->jN CF CT G H' c fl A (F.map (c.M7 k e.1))->Q .non H')
def Cy (a b d w:V):ij ("dead":Str) d (zA a b w)=zA a d w:=by kernel_rfl
theorem Bs {α:Type}{t i:Nat}(h:¬t=i)(x y:α):(if t<i+1 then x else y)=if t<i then x else y:=by by_cases z:t<i;rw[ay z,ay (by lia)];rw[ax z,ax (by lia)]
def Ie:(["fork"]:eW Str).Nodup:=by decide +kernel
def zT {a b dx dy:eQ}{x s t y z w:V}(d:H a=some (.ins CF dx (uV x s t)))(g:H b=some (.ins CT dy (zA y z w))):a≠b:=by
 refine gF d g λe=>?_;injection e with _ _ e
 injection e with e _
 injection e with e _
 exact absurd e (by decide +kernel)
section
variable {w:fe}{base:fb}{f:eQ}
def EY:fL ["self","bit","place","others","stand"] ["self","bit","place"] (fE Af):=jD
theorem Dh (F:je K "mark_dead" "Search.mark_dead" Af f fd)(T:ur K mg CS)(al:TL K mg CL)(TT:DR K mg CT)(TF:Cd K mg CF):gv P w K mg base gM 1 f fd ["self","bit","place"] (xW CB CC CL CS CF CT):=by
 refine F.ok EY λa7 A a4 s H vs Q E hr h=>?_;obtain⟨G,p,ch,le,fl,c,L,O,m,FF,k,j,e,rfl,hS,hL,J,hj,bd,q⟩:=h;have hu:=iD hr;refine⟨_,(fm (fJ (i:=3) EY.nd (fU iV (fZ gu (fK al.cl al.nMa (fK T.cl T.nLe (pv 0))) (pv 2)) (jL lR (pv 1)))) (fz (ie PassesOwn.never rfl (gL (iG (N':=["fork"]) (n:=1) (js:=[]) rfl (iT.closed) (iz (by decide)) (gL (fK T.cl T.nFo (pv 0))) (λC s2 B fp=>fQ (i:=0) Ie) (λC s2 B fp=>jx) (λC s2 B fp=>fK TF.cl TF.nSt (pv 0)))) (fQ (i:=4) EY.nd) (fz (gK (ge iN (fU iV (pv 3) (jL lR (fK TT.cl TT.nPi (pv 4)))) fD (gr _)) (fz (C2 TT.cl TT.nDe (pv 4) (pv 1) Bu)) gi))))),?_⟩;obtain⟨dx,hp⟩:=hS.self;have ah:=hS.gh.ins hp;obtain⟨lx,ma,re,pm,pp,a9,rs,Ol,hO,a6,a3,a0⟩:=id hL.ex;have a1:(L.map (·.1))[j]?=some e.1:=by rw[ai,hj];rfl
 have lA:m.length=FF.length:=Paired.length J.p;refine⟨_,rfl,p,dx,_,V.ref le,rfl,ah,rfl,le,lx,_,V.ref ma,rfl,hS.gh.ins a6,rfl,_,rfl,ma,_,_,_,rfl,rfl,gf.of a3,lc a1,_,rfl,_,rfl,_,_,rfl,rfl,?_⟩;dsimp only;rw[rp];refine⟨_,rfl,p,dx,_,V.ref fl,rfl,ah,rfl,fl,rfl,⟨_,gf.of J.l⟩,?_⟩;refine iK (xs:=m.map λa=>V.ref a.1) (λD i ys H7=>H7 D=some (.lst ys)/\fH H H7/\H D=none/\ys=(m.take i).map λa=>V.ref a.2)
  (λD hD=>⟨fj,fB hD _,hD,by simp⟩) (λD i ys H7 hi ⟨e1,X,e3,e4⟩=>⟨gf.of (X _ _ J.l),e1,?_⟩) (λD i y ys H7 hi ⟨e1,X,e3,e4⟩=>?_) (λD ys H7 ⟨e1,X,e3,e4⟩=>?_)
 rw[ae]at hi;rw[e4,ae,aW];exact fO (by lia);rw[ai]at hi;obtain⟨a,M,rfl⟩:=aF.mp hi;obtain⟨d,S,⟨fx,R⟩,a8⟩:=Paired.Ml J.p M;unfold jl pc;dsimp only;rw[ay rfl];refine⟨_,rfl,a.1,fx,_,V.ref a.2,rfl,X _ _ R,rfl,e1,fj,fH.upd X e3,e3,?_⟩;rw[e4,gY M,aC];rfl;rw[ae,aN]at e4;subst e4;refine⟨D,rfl,⟨_,gf.of e1⟩,?_⟩;have a2:∀(t:Nat) (a:eQ×eQ) (d:Fk),m[t]?=some a->FF[t]?=some d->nX CF CT G H c a d:=λt a d I o=>by obtain⟨N,z1,z2⟩:=Paired.Ml J.p I;rw[o]at z1;cases z1;exact z2
 have ad:∀{a},a∈m->a.2∈m.map (·.2):=λh=>br h;have kp:∀{B:Hp},fH (del H (m.map (·.2))) B->∀{x u},H x=some u->x∉m.map (·.2)->B x=some u:=λ{B} sm {x u} h n=>sm _ _ (by rw[fG n];exact h);have Y:∀{x},x∈m.map (·.2)->∃dy y z w,H x=some (.ins CT dy (zA y z w)):=λ{x} hx=>by obtain⟨a,M,rfl⟩:=aA.mp hx;obtain⟨t,U⟩:=aD.mp M;obtain⟨d,_,_,sx,wa,v,_⟩:=Paired.Ml J.p U;exact⟨_,_,_,_,v⟩
 have nD:D∉m.map (·.2):=λz=>by obtain⟨_,_,_,_,h⟩:=Y z;rw[e3]at h;cases h
 refine iE (K:=K) (a:=D) (xs:=m.map λa=>V.ref a.2) (λi σ B=>∃o4,σ=[some (.ref p),some (.int (c.bit k:Nat)),some (.int (j:Nat)),some (.int (i5 e.1 (c.bit k):Nat)),o4]/\fH (del H (m.map (·.2))) B/\B D=some (.lst (m.map λa=>V.ref a.2))/\∀(t:Nat) (a:eQ×eQ) (d:Fk),m[t]?=some a->FF[t]?=some d->nX CF CT G B c a (if t<i then c.M7 k e.1 d else d))
  ⟨none,rfl,(gy _ _).trans X,e1,λt a d I o=>by rw[ax (cq _)];obtain⟨⟨d1,z1⟩,d2,w2,z2,z3⟩:=a2 t a d I o;exact⟨⟨d1,X _ _ z1⟩,d2,w2,X _ _ z2,z3⟩⟩ ((by rintro i σ B _ ⟨_,_,_,e,_⟩;exact gf.of e)) ?_ ?_
 rintro i x σ B hi ⟨o4,rfl,sm,aa,g⟩;rw[ai]at hi;obtain⟨a,M,rfl⟩:=aF.mp hi;obtain⟨d,S,_⟩:=Paired.Ml J.p M;have Z:=g i a d M S;rw[ax (cU _)]at Z;obtain⟨⟨fx,R⟩,sx,wa,v,a5⟩:=Z;refine⟨_,rfl,_,rfl,a.2,sx,_,V.int (d.sd.picked:Nat),rfl,v,rfl,_,rfl,_,_,rfl,rfl,rfl,_,rfl,?_⟩;have ag:decide (V.int (Builtin.bitAnd ((i5 e.1 (c.bit k):Nat):Int) (Builtin.bitNot (d.sd.picked:Nat)))=V.int 0)=decide (i5 (i5 e.1 (c.bit k)) d.sd.picked=0):=by rw[rp];exact t9 (b:=0)
 dsimp only;rw[ag];by_cases hd:i5 (i5 e.1 (c.bit k)) d.sd.picked=0;rw[aq hd];refine ip ⟨_,rfl,a.2,sx,_,V.int (d.sd.dead:Nat),rfl,v,rfl,_,rfl,_,_,rfl,rfl,sx,_,v,(by show 3<1000;decide),?_⟩;dsimp only;rw[xO,Cy];refine⟨_,rfl,λb u hb=>?_,?_,λt a' N I o=>?_⟩;have nb:b≠a.2:=λz=>by rw[z,gR (ad (ak M))]at hb;cases hb
 rw[fw nb];exact sm _ _ hb;rw[fw (λz:D=a.2=>nD (z▸ad (ak M)))];exact aa;by_cases U:t=i;subst U;rw[M]at I;rw[S]at o;cases I;cases o;rw[ay (dA _)];refine⟨⟨fx,by rw[fw (zT R v)];exact R⟩,sx,wa,?_,?_⟩;rw[fj];show _=some (HO.ins CT sx (zA (.int ((c.M4 k e.1 d.sd).picked:Nat)) (.int ((c.M4 k e.1 d.sd).dead:Nat)) (.ref wa)));unfold fA.M4;rw[ay hd];show wQ G wa (c.M4 k e.1 d.sd).wanted;rw[fA.Na];exact a5;have an:=g t a' N I o;rw[Bs U];obtain⟨⟨d1,z1⟩,d2,w2,z2,z3⟩:=an;have na:a'.2≠a.2:=λz=>by
  have ab:(m.map (·.2))[t]?=some a'.2:=by rw[ai,I];rfl
  have ap:(m.map (·.2))[i]?=some a.2:=by rw[ai,M];rfl
  rw[z]at ab;exact U ((cG (aj.mp ab).1 J.nd2).mp (ab.trans ap.symm))
 exact⟨⟨d1,by rw[fw (zT z1 v)];exact z1⟩,d2,w2,by rw[fw na];exact z2,z3⟩;rw[aw hd];refine gB ⟨_,rfl,sm,aa,λt a' N I o=>?_⟩;by_cases U:t=i;subst U;have:=g t a' N I o;rw[S]at o;cases o;rw[ax (cU _)]at this;rw[ay (dA _)];have eb:c.M7 k e.1 d=d:=by unfold fA.M7 fA.M4;rw[ax hd]
 rw[eb];exact this;rw[Bs U];exact g t a' N I o;rintro σ B ⟨o4,rfl,sm,aa,g⟩;refine q B sm ⟨?_,?_,J.offl,J.off,J.nd1,J.nd2⟩;refine kp sm J.l λz=>?_;obtain⟨_,_,_,_,h⟩:=Y z;rw[J.l]at h;cases h;refine lb (by rw[ae];exact lA) λt a d I o=>?_;rw[ai]at o;obtain⟨as,h3,rfl⟩:=aF.mp o;have:=g t a as I h3;rw[ay (by rw[ae];exact(aj.mp I).1)]at this;exact this
end
inductive x8 (CB CC CL CS CF CT:eQ)(vs:eW V)(H:Hp)(Q:VK)(E:XK):Prop
 |mk (G:Hp)(p ch le fl:eQ)(c:fA)(L:jz)(O:eW eQ)(A:eW (eQ×eQ))(F:eW Fk)(j:Nat)(e:Nat×Rs)(_:vs=[.ref p,.int (j:Nat)])(_:Se CB CC CS G H p ch le fl c)(_:im CL G H le ch c L O)(_:jN CF CT G H c fl A F)(_:zu O fl A)(_:L[j]?=some e)(_:F.length<=64)(_:∀f∈F,∀k,f.bit=some k->k∈c.ks)(_:∀(n:Nat) (H':Hp),n<=F.length->(F.take n).reverse=F.reverse.dropWhile (λf=>!c.stop e.1 f)->fH (del H (fl::A.map (·.2))) H'->jN CF CT G H' c fl (A.take n) (c.NY e.1 (F.take n))->Q .non H')
def uA {α:Type}{l:eW α}{n:Nat}{x:α}(h:l[n]?=some x):(l.take (n+1)).reverse=x::(l.take n).reverse:=by rw[gY h,cV];rfl
theorem qv {α β:Type}{R:α->β->Prop}:∀{as:eW α} {bs:eW β} (n:Nat),ff R as bs->ff R (as.take n) (bs.take n)
 |_,_,0,_=>.nil
 |_,_,_+1,.nil=>.nil
 |_,_,n+1,.cons h r=>.cons h (qv n r)
def zR {c:fA}{f:Fk}(a:∀k,f.bit=some k->k∈c.ks):(((c.Mo f.bit &&& m:Nat):Int) != 0)=c.stop m f:=by unfold fA.stop;cases h:f.bit with|none=>show(((0 &&& m:Nat):Int) != 0)=false;rw[Nat.zero_and];rfl|some k=>show(((c.bit k &&& m:Nat):Int) != 0)=decide (c.has m k);rw[Nat.and_comm,kP (a k h)]
section
variable {w:fe}{base:fb}{f:eQ}
def HC:fL ["self","place","mask"] ["self","place"] (fE sV):=jD
theorem yF (F:je K "go_back" "Search.go_back" sV f fd)(T:ur K mg CS)(al:TL K mg CL)(TF:Cd K mg CF)(MM:Mt P w K mg base CS gM 1 "mark_dead" ["self","bit","place"] (xW CB CC CL CS CF CT)):gv P w K mg base gM 2 f fd ["self","place"] (x8 CB CC CL CS CF CT):=by
 refine F.ok HC λa8 A a4 s H vs Q E hr h=>?_;obtain⟨G,p,ch,le,fl,c,L,O,D,R,j,e,rfl,hS,hL,C,ah,hj,be,ab,q⟩:=h;have hu:=iD hr;refine⟨_,(fm (fJ (i:=2) HC.nd (fZ gu (fK al.cl al.nMa (fK T.cl T.nLe (pv 0))) (pv 1))) (fm (kz PassesOwn.never (PW.pt (kU (i9 (fK T.cl T.nFo (pv 0)) (λ_=>rfl)) (jV (tG (vP (fU iV (fK TF.cl TF.nBi (fZ gu (fK T.cl T.nFo (pv 0)) (jL kS fD))) (pv 2)) (λ_=>rfl)))))) (fz (gq (AJ aR PySem.F.slot_list_pop PySem.F.type_list_pop Bg (fK T.cl T.nFo (pv 0)))))) (fz (gK (i9 (fK T.cl T.nFo (pv 0)) (λ_=>rfl)) (fz (gq (iY MM hr gJ (pv 0) (fi (fK TF.cl TF.nBi (fZ gu (fK T.cl T.nFo (pv 0)) (jL kS fD))) (fi (pv 1) fq))))) gi)))),?_⟩;obtain⟨S,hp⟩:=hS.self;have Y:=hS.gh.ins hp;obtain⟨lx,ma,re,pm,pp,bd,rs,Ol,hO,a6,a3,a0⟩:=id hL.ex;have a2:(L.map (·.1))[j]?=some e.1:=by rw[ai,hj];rfl
 have lA:D.length=R.length:=Paired.length C.p;have a1:p≠fl:=gF Y C.l λz=>nomatch z;refine⟨_,rfl,p,S,_,V.ref le,rfl,Y,rfl,le,lx,_,V.ref ma,rfl,hS.gh.ins a6,rfl,_,rfl,ma,_,_,_,rfl,rfl,gf.of a3,lc a2,?_⟩;have I:∀{n:Nat} {v:Hp},v fl=some (.lst ((D.take n).map λa=>V.ref a.1))->(∀b,b≠fl->v b=H b)->jN CF CT G v c fl (D.take n) (R.take n):=λ{n v} h1 h2=>by refine⟨h1,Paired.LJ (qv n C.p) λx y ⟨⟨d1,z1⟩,d2,w2,z2,z3⟩=>⟨⟨d1,?_⟩,d2,w2,?_,z3⟩,C.offl,λa ha=>C.off a (cD ha),?_,?_⟩;rw[h2 _ (gF z1 C.l λz=>nomatch z)];exact z1;rw[h2 _ (gF z2 C.l λz=>nomatch z)];exact z2;rw[cN];exact C.nd1.sublist (dW _ _);rw[cN];exact C.nd2.sublist (dW _ _)
 refine⟨λm σ v=>m<=R.length/\R.reverse.dropWhile (λf=>!c.stop e.1 f)=(R.take m).reverse.dropWhile (λf=>!c.stop e.1 f)/\σ=[some (.ref p),some (.int (j:Nat)),some (.int (e.1:Nat))]/\v fl=some (.lst ((D.take m).map λa=>V.ref a.1))/\∀b,b≠fl->v b=H b,⟨R.length,am _,by rw[aN],rfl,by rw[<-lA,aN];exact C.l,λ_ _=>rfl⟩,?_⟩;rintro n σ v ⟨hn,B,rfl,d,g⟩;have t:v p=some (.ins CS S (yi ch le fl)):=by rw[g p a1];exact Y
 refine⟨_,rfl,p,S,_,V.ref fl,rfl,t,rfl,_,.inl ⟨_,gf.of d,rfl⟩,?_⟩;cases n with
 |zero=>
  refine gB (gB ?_);refine⟨_,rfl,p,S,_,V.ref fl,rfl,t,rfl,_,.inl ⟨_,gf.of d,rfl⟩,gB ?_⟩;refine q 0 v (bp _) (by rw[B];rfl) (λb u o=>?_) (I d g);have U:b≠fl:=λz=>by rw[z,gR (by simp)]at o;cases o
  rw[g b U];exact gy _ _ b u o
 |succ n=>
 obtain⟨a,ha⟩:∃a,D[n]?=some a:=⟨D[n]'(by lia),ar _⟩;obtain⟨M,N,⟨fx,ad⟩,a9⟩:=Paired.Ml C.p ha;have Z:((D.take (n+1)).map λa=>V.ref a.1)=((D.take n).map λa=>V.ref a.1)++[.ref a.1]:=by rw[gY ha,aC];rfl
 have aa:(((D.take (n+1)).map λa=>V.ref a.1))[((D.take (n+1)).map λa=>V.ref a.1).length-1]?=some (.ref a.1):=by rw[Z,aB,aM,eF,bh (am _),cj];rfl
 have ag:(!((D.take (n+1)).map λa=>V.ref a.1).isEmpty)=true:=by rw[Z];simp
 have J:v a.1=some (.ins CF fx (uV (.str M.part) (.ref a.2) (.int (c.Mo M.bit:Nat)))):=by rw[g a.1 (gF ad C.l λz=>nomatch z)];exact ad
 rw[ag];refine ip ?_;refine⟨_,rfl,p,S,_,V.ref fl,rfl,t,rfl,_,rfl,fl,_,_,V.ref a.1,rfl,rfl,gf.of d,pK aa,a.1,fx,_,V.int (c.Mo M.bit:Nat),rfl,J,rfl,_,rfl,_,_,rfl,rfl,_,rfl,?_⟩;dsimp only;rw[oG,zR (ab M (ak N))];rw[uA N]at B;by_cases hst2:c.stop e.1 M=true;rw[hst2];refine gB ?_;rw[List.dropWhile_cons,ax (by rw[hst2];decide)]at B;refine⟨_,rfl,p,S,_,V.ref fl,rfl,t,rfl,_,.inl ⟨_,gf.of d,rfl⟩,?_⟩;rw[ag];refine ip ?_;obtain⟨k,hk⟩:∃k,M.bit=some k:=by unfold fA.stop at hst2;cases h:M.bit with|none=>rw[h]at hst2;cases hst2|some k=>exact⟨k,rfl⟩
 have as:Se CB CC CS G v p ch le fl c:=hS.grow (fF.refl _) (λb u o=>by
  have U:b≠fl:=λz=>by rw[z,C.offl]at o;cases o
  rw[g b U];exact hS.gh b u o)
 have a7:im CL G v le ch c L O:=hL.grow (fF.refl _) hL.off λb o=>g b λz=>ah.1 (z▸o);have a5:c.Mo M.bit=c.bit k:=by rw[hk];rfl
 have an:=I d g;rw[a5]at J;refine⟨_,rfl,p,S,_,rfl,t,rfl,_,rfl,p,S,_,V.ref fl,rfl,t,rfl,_,rfl,fl,_,_,V.ref a.1,rfl,rfl,gf.of d,pK aa,a.1,fx,_,V.int (c.bit k:Nat),rfl,J,rfl,_,rfl,G,p,ch,le,fl,c,L,O,D.take (n+1),R.take (n+1),k,j,e,rfl,as,a7,an,hj,by rw[aW];lia,λH3 s3 ap=>?_⟩;refine q (n+1) H3 hn (by rw[uA N,B]) (λb u o=>?_) ?_;have U:b∉fl::D.map (·.2):=λz=>by rw[gR z]at o;cases o
 rw[fG U]at o;simp only[ao,not_or]at U;refine s3 b u ?_;rw[fG (λz=>U.2 (by
  rw[cN]at z
  exact cD z)),g b U.1]
 exact o;have:c.NY e.1 (R.take (n+1))=(R.take (n+1)).map (c.M7 k e.1):=by unfold fA.NY;rw[gY N,List.getLast?_append];simp only[List.getLast?_singleton,Option.some_or];rw[hk]
 rw[this];exact ap;have X:c.stop e.1 M=false:=by cases h:c.stop e.1 M <;> simp_all
 rw[X];refine ip ⟨λσ' H'=>∃m',m'<n+1/\_,λ_ _ h=>h,?_⟩;rw[List.dropWhile_cons,ay (by rw[X];rfl)]at B;refine⟨_,rfl,p,S,_,V.ref fl,rfl,t,rfl,.inl ⟨rfl,_,gf.of d⟩,fl,_,_,rfl,rfl,d,aa,?_⟩;refine⟨n,dA _,by lia,B,rfl,?_,λb o=>?_⟩;rw[fj,Z,List.dropLast_concat];rw[fw o];exact g b o
end
def Gh (CT:eQ)(G H:Hp)(O:eW eQ)(sd:Sd->Prop)(Q:VK):Prop:=
 ∀(G' H':Hp) (s:eQ) (d:Sd),jq G H O G' H' O->H s=none->G' s=none->mH CT G' H' s d->sd d->(∀a∈O,H' a=H a)->Q (.ref s) H'
inductive yc (CB CC CL CS CF CT:eQ)(vs:eW V)(H:Hp)(Q:VK)(E:XK):Prop
 |mk (G:Hp)(p ch le fl:eQ)(c:fA)(L:jz)(O:eW eQ)(a:eQ×eQ)(fk:Fk)(k:Pk)(_:vs=[.ref p,.ref a.1])(_:Se CB CC CS G H p ch le fl c)(_:im CL G H le ch c L O)(_:jm c L)(_:nX CF CT G H c a fk)(_:fk.bit=some k)(_:lr c fk)(_:jv c L fk.sd)(_:¬c.has fk.sd.dead k)(_:Gh CT G H O (λd=>jv c L d/\c.MZ fk d) Q)
inductive qT (CB CC CL CS CT:eQ)(vs:eW V)(H:Hp)(Q:VK)(E:XK):Prop
 |mk (G:Hp)(p ch le fl:eQ)(c:fA)(O:eW eQ)(_:vs=[.ref p])(_:Se CB CC CS G H p ch le fl c)(_:∀a∈O,∃u,H a=some u)(_:∀a∈O,G a=none)(_:∀(G' H':Hp) (s:eQ) (d:Sd),jq G H O G' H' O->H s=none->G' s=none->mH CT G' H' s d->(∀L,jv c L d)->d.picked=0->(∀a∈O,H' a=H a)->Q (.ref s) H')
def made {x dx C:eQ}(h1:H x=none)(h2:H dx=none)(n:dx≠x):fH H (upd (upd H dx (.own x)) x (.ins C dx [])):=(fB h2 _).trans (fB (by rw[fw (Ne.symm n)];exact h1) _)
section
variable {w:fe}{base:fb}{f:eQ}
def z9:fL ["self","fork","pick","picked","dead","wanted"] ["self","fork"] (fE tf):=jD
def yJ (F:je K "stand_behind" "Search.stand_behind" tf f fd)(T:ur K mg CS)(S:TC K mg CC)(TT:DR K mg CT)(B:Cd K mg CF)(MB:Mt P w K mg base CL gM 1 "barred_with" ["self","pick","picked"] (ui CB CC CL))(MW:Mt P w K mg base CS gM 2 "wanted_by" ["self","wanted","who","picked"] (pN CB CC CS))(MS:DU P w K mg base CT gM 1 "Stand" ["self","picked","dead","wanted"] (ue CT)):gv P w K mg base gM 3 f fd ["self","fork"] (yc CB CC CL CS CF CT):=by
 refine F.ok z9 λc3 A cn s H vs Q E hr h=>?_;obtain⟨G,p,ch,le,fl,c,L,O,a,b,k,rfl,d,hL,a7,b7,D,J,M,aa,q⟩:=h;have hu:=iD hr;refine⟨_,(fm (fJ (i:=2) z9.nd (iP hu (fK S.cl S.nBy (fK T.cl T.nCh (pv 0))) (fK B.cl B.nBi (pv 1)))) (fm (fJ (i:=3) z9.nd (fU rP (fK TT.cl TT.nPi (fK B.cl B.nSt (pv 1))) (fK B.cl B.nBi (pv 1)))) (fm (fJ (i:=4) z9.nd (fU rP (fU rP (fK TT.cl TT.nDe (fK B.cl B.nSt (pv 1))) (gj hu (fK S.cl S.nFo (fK T.cl T.nCh (pv 0))) (pv 2))) (iY MB (hr.mono (by decide)) gJ (fK T.cl T.nLe (pv 0)) (fi (pv 2) (fi (pv 3) fq))))) (fm (fJ (i:=5) z9.nd (iY MW hr gJ (pv 0) (fi (fK TT.cl TT.nWa (fK B.cl B.nSt (pv 1))) (fi (pv 2) (fi (pv 3) fq))))) (fm (gq (AF (pv 5) (fK B.cl B.nPa (pv 1)) ⟨rfl,rfl,rfl,rfl⟩)) (fz (gc (qo MS (hr.mono (by decide)) rfl gJ (fi (pv 3) (fi (pv 4) (fi (AD (pv 5)) fq))))))))))),?_⟩;obtain⟨dx,hp⟩:=d.self;have N:=d.gh.ins hp;obtain⟨⟨fx,v⟩,sx,wa,ad,wo,a1,ct,cx⟩:=b7;obtain⟨hk,bq,_⟩:=J.bit k D;have cv:c.Mo b.bit=c.bit k:=by rw[D];rfl
 rw[cv]at v;obtain⟨gx,gb,cd,ap,c2,c4,c0,a4,cy,d1,d2,d3,d4,⟨b6,b8,a6⟩,d6,d7,d8,d9⟩:=d.chart.ex;obtain⟨Z,a3,I⟩:=a6 k hk;refine⟨_,rfl,p,dx,_,V.ref ch,rfl,N,rfl,ch,gx,_,V.ref ap,rfl,d.gh.ins d1,rfl,_,rfl,a.1,fx,_,V.int (c.bit k:Nat),rfl,v,rfl,ap,Z,rfl,.inl ⟨b6,Sum.inl (c.bit k:Int),d.gh.rd b8,rfl,a3.symm⟩,?_⟩;refine⟨_,rfl,a.1,fx,_,V.ref a.2,rfl,v,rfl,a.2,sx,_,V.int (b.sd.picked:Nat),rfl,ad,rfl,_,rfl,a.1,fx,_,V.int (c.bit k:Nat),rfl,v,rfl,_,_,rfl,rfl,?_⟩;dsimp only;rw[xO];obtain⟨lx,ma,re,pm,pp,c1,rs,Ol,hO,b3,bm⟩:=id hL.ex;refine⟨_,rfl,a.1,fx,_,V.ref a.2,rfl,v,rfl,a.2,sx,_,V.int (b.sd.dead:Nat),rfl,ad,rfl,_,rfl,p,dx,_,V.ref ch,rfl,N,rfl,ch,gx,_,V.ref a4,rfl,d.gh.ins d1,rfl,_,rfl,a4,_,rfl,(d9.f d.gh).get (w:=some k) (iq hk) (fX.f d.gh I),_,_,rfl,rfl,?_⟩;dsimp only;rw[xO];refine⟨_,rfl,p,dx,_,V.ref le,rfl,N,rfl,le,lx,_,rfl,d.gh.ins b3,rfl,_,rfl,_,rfl,G,le,ch,c,L,O,Z,k,b.sd.picked ||| c.bit k,rfl,d.gh,d.chart,hL,fX.f d.gh I,hk,λH1 s1=>?_⟩;refine⟨_,_,rfl,rfl,?_⟩;skip;rw[xO];have be:=s1 _ _ N;have Y:=s1 _ _ v;have a0:=s1 _ _ ad;have b9:=M.NI d.nds d.n;refine⟨_,rfl,p,dx,_,rfl,be,rfl,_,rfl,a.1,fx,_,V.ref a.2,rfl,Y,rfl,a.2,sx,_,V.ref wa,rfl,a0,rfl,_,rfl,_,rfl,G,p,ch,le,fl,wa,c,a1,b.sd.wanted,Z,some k,b.sd.picked ||| c.bit k,rfl,d.same s1,.inr ⟨wo,s1 _ _ (d.gh.frz ct)⟩,cx,b9,λx u hx=>?_,iq hk,I,λo H2 m g s2 b1 al a2 a5=>?_⟩;obtain⟨_,z2,z3⟩:=M.w1 x u hx;exact⟨λk e=>by subst e;exact z2.1,jX.mpr z3⟩;have an:=s2 _ _ Y;have cs:b.part∈g.map (·.1):=by obtain⟨E,e1,_⟩:=a5;rw[e1];exact aK _ J.open_
 obtain⟨v0,u0,cp,_,_⟩:=pr a2 cs;refine⟨_,rfl,o,rfl,.inl ⟨_,.inl al⟩,_,rfl,a.1,fx,_,V.str b.part,rfl,an,rfl,m,Sum.inr b.part,v0,al,rfl,cp,?_⟩;refine⟨_,rfl,_,rfl,_,rfl,o,_,rfl,fj,trivial,λU=>?_⟩;rw[jT];have ag:=s1.trans s2;have cz:fF G H2:=d.gh.trans ag.toF;have t:H o=none:=s1.free b1;have ah:G o=none:=d.gh.free t;have bv:=jq.same (O:=O) d.gh ag;have co:=bv.own (u:=.frz U (.dK (kN m (Sum.inr b.part)))) t ah;have b0:upd H2 o (.frz U (.dK (kN m (Sum.inr b.part)))) o=some (.frz U (.dK (kN m (Sum.inr b.part)))):=fj;have R:=co.base d.gh t b0;have bx:wQ (upd G o (.frz U (.dK (kN m (Sum.inr b.part))))) o (g.filter λxu=>!decide (xu.1=b.part)):=⟨U,_,fj,Paired.LJ (wZ a2) λ_ _ z=>z.f ((fF.refl G).upd ah)⟩;have b4:∀y∈O,upd H2 o (.frz U (.dK (kN m (Sum.inr b.part)))) y=H y:=λy hy=>by obtain⟨u,l⟩:=hL.liv y hy;rw[fw (λz:y=o=>by rw[z,t]at l;cases l),ag _ _ l,l]
 generalize upd G o (.frz U (.dK (kN m (Sum.inr b.part))))=G4 at *;generalize upd H2 o (.frz U (.dK (kN m (Sum.inr b.part))))=H4 at *;intro x X hx a9 a8;have sm:=made (C:=CT) hx a9 a8;have bl:upd (upd H4 X (.own x)) x (.ins CT X []) x=some (.ins CT X []):=fj;have b2:=R.trans (jq.same (O:=O) R.gh sm);generalize upd (upd H4 X (.own x)) x (.ins CT X [])=H5 at *;have ab:H x=none:=R.lv x hx;have as:G4 x=none:=R.gh.free hx;refine⟨x,X,_,_,_,rfl,bl,rfl,?_⟩;have bd:=b2.own (u:=.ins CT X (zA (.int ((b.sd.picked ||| c.bit k:Nat):Int)) (.int ((b.sd.dead ||| c.Nt (some k) ||| c.Nm L k (b.sd.picked ||| c.bit k):Nat):Int)) (.ref o))) ab as;obtain⟨b5,bf⟩:=zo (k:=k) (p:=b.sd.picked ||| c.bit k) a7;refine q G4 _ x ⟨b.sd.picked ||| c.bit k,b.sd.dead ||| c.Nt (some k) ||| c.Nm L k (b.sd.picked ||| c.bit k),g.filter λxu=>!decide (xu.1=b.part)⟩ bd ab as ⟨X,o,fj,bx⟩ ⟨?_,k,D,rfl,λj hj=>fA.Mv.mpr (.inl (fA.Mv.mpr (.inl hj)))⟩ (λy hy=>?_)
 rotate_left
 obtain⟨u,l⟩:=hL.liv y hy;have h6:=(b4 y hy).trans l;rw[fw (λz:y=x=>by rw[z,ab]at l;cases l),sm _ _ h6,l];refine zS M J hk bq aa (j4 (j4 M.dl (c.Nx _)) b5) (λj hj=>fA.Mv.mpr (.inl (fA.Mv.mpr (.inl hj)))) (λj hj hf=>fA.Mv.mpr (.inl (fA.Mv.mpr (.inr (fA.Nw.mpr ⟨hj,hf⟩))))) (λj hj=>?_) a5;rcases fA.Mv.mp hj with z|z;rcases fA.Mv.mp z with y|y;exact .inl y;exact .inr (.inl (fA.Nw.mp y).2);exact .inr (.inr (bf j z))
end
def jq.N5 (h:fF G H)(e:fF H H'):jq G H O G H' O:=⟨fF.refl _,h.trans e,λa e n=>absurd e n,λa h=>.inl h,(gy _ _).toF.trans e,λ_ h=>e.free h⟩
def fA.N6 (c:fA)(ws:eW (fc Pk)):Nat:=c.Nt none ||| c.maskOf λj=>decide (some j∈ws)&&(c.Nn (some j) j)
def fA.N7 (c:fA):c.N6 []=c.Nt none:=by
 unfold fA.N6;have:c.maskOf (λj=>decide (some j∈([]:eW (fc Pk)))&&(c.Nn (some j) j))=0:=fA.MD (c.MQ _) λk h=>by have:=(fA.MJ.mp h).2;simp at this
 rw[this,Nat.or_zero]
def qJ {c:fA}{k:Pk}:c.foe k k↔c.MR (some k) k:=⟨λh=>h.elim id id,.inl⟩
def fA.N8 {c:fA}{ws:eW (fc Pk)}{w:fc Pk}(d:c.Who w):c.N6 (ws++[w])=c.N6 ws ||| (c.Nt w &&& c.Mo w):=by refine fA.ext (j4 (c.Nx _) (c.MQ _)) (j4 (j4 (c.Nx _) (c.MQ _)) (oH (c.Nx _))) λj=>?_;unfold fA.N6;simp only[fA.Mv,fA.Mw,fA.MJ,aQ,aG,aE,af,fA.Nz d,fA.No];constructor;rintro(h|⟨a,h2|h2,b⟩);exact .inl (.inl h);exact .inl (.inr ⟨a,h2,b⟩);rw[<-h2];exact .inr ⟨fA.Nw.mpr ⟨a,qJ.mpr b⟩,rfl⟩;rintro((h|⟨a,h2,b⟩)|⟨a,h2⟩);exact .inl h;exact .inr ⟨a,.inl h2,b⟩;rw[h2]at a;obtain⟨b,e⟩:=fA.Nw.mp a;exact .inr ⟨b,.inr h2.symm,qJ.mp e⟩
def fA.N9 {c:fA}{ws:eW (fc Pk)}(h:∀k∈c.ks,some k∈ws){k:Pk}:c.has (c.N6 ws) k↔k∈c.ks/\(c.MR none k\/c.foe k k):=by unfold fA.N6;rw[fA.Mv,show c.Nt none=c.Nr none from rfl,fA.Nv,fA.MJ,aQ,aG,fA.No,qJ];constructor;rintro(⟨a,h2⟩|⟨a,_,h2⟩);exact⟨a,.inl h2⟩;exact⟨a,.inr h2⟩;rintro⟨a,h2|h2⟩;exact .inl ⟨a,h2⟩;exact .inr ⟨a,h k a,h2⟩
section
variable {w:fe}{base:fb}{f:eQ}
def CM:fL ["self","dead","pick"] ["self"] (fE p0):=jD
def vX (F:je K "opening" "Search.opening" p0 f fd)(T:ur K mg CS)(j:TC K mg CC)(MW:Mt P w K mg base CS gM 2 "wanted_by" ["self","wanted","who","picked"] (pN CB CC CS))(MS:DU P w K mg base CT gM 1 "Stand" ["self","picked","dead","wanted"] (ue CT)):gv P w K mg base gM 3 f fd ["self"] (qT CB CC CL CS CT):=by
 refine F.ok CM λb9 A b2 s H vs Q E hr h=>?_;obtain⟨G,p,I,le,fl,c,O,rfl,t,R,an,q⟩:=h;have hu:=iD hr;refine⟨_,(fm (fJ (i:=1) CM.nd (gj hu (fK j.cl j.nFo (fK T.cl T.nCh (pv 0))) ja)) (fm (ie PassesOwn.never rfl (tH (fK j.cl j.nFo (fK T.cl T.nCh (pv 0)))) (fQ (i:=2) CM.nd) (fz (lB (i:=1) CM.nd (fU iV (gj hu (fK j.cl j.nFo (fK T.cl T.nCh (pv 0))) (pv 2)) (gj hu (fK j.cl j.nBits (fK T.cl T.nCh (pv 0))) (pv 2))) uN))) (fz (gc (qo MS (hr.mono (by decide)) rfl gJ (fi fD (fi (pv 1) (fi (AD (iY MW hr gJ (pv 0) (fi jb (fi ja (fi fD fq))))) fq)))))))),?_⟩;obtain⟨dx,hp⟩:=t.self;have al:=t.gh.ins hp;obtain⟨gx,gb,B,co,cp,cn,cd,d,b8,d1,d2,d3,d4,d5,d6,d7,d8,D,Z,a1,a2⟩:=t.chart.ex;have d9:ll G d c c.Nt:=⟨D,Z,a1,a2⟩;refine⟨_,rfl,p,dx,_,V.ref I,rfl,al,rfl,I,gx,_,V.ref d,rfl,t.gh.ins d1,rfl,d,_,rfl,(d9.f t.gh).get (w:=none) jZ rfl,?_⟩;refine⟨_,rfl,p,dx,_,V.ref I,rfl,al,rfl,I,gx,_,V.ref d,rfl,t.gh.ins d1,rfl,d,D,rfl,t.gh.rd Z,λo H1 sf a0 b7=>?_⟩;have g1:fF G H1:=t.gh.trans sf;have S:=g1.ins hp;have ah:=g1.ins d1;obtain⟨ws,U,be⟩:=sw a1;have lw:D.length=ws.length:=by have:=congrArg List.length U;rw[ae,ae]at this;exact this
 refine wy (kvs:=D) (λi σ X=>∃o2,σ=[some (.ref p),some (.int (c.N6 (ws.take i):Nat)),o2]/\X=H1) ⟨none,by rw[dX,fA.N7];rfl,rfl⟩ (λi σ X _ ⟨_,_,e⟩=>by rw[e];exact b7) ?_ ?_;rintro i kv x σ X hi kx ⟨o2,rfl,rfl⟩;have ap:(D.map (·.1))[i]?=some kv.1:=by rw[ai,hi];rfl
 rw[U,ai]at ap;obtain⟨v,hv,ev⟩:=aF.mp ap;rw[<-ev]at kx;have as:=iI.of kx;have aa:=be v (ak hv);refine⟨_,rfl,_,rfl,p,dx,_,V.ref I,rfl,S,rfl,I,gx,_,V.ref d,rfl,ah,rfl,_,rfl,d,_,rfl,(d9.f g1).get aa as,_,rfl,p,dx,_,V.ref I,rfl,S,rfl,I,gx,_,V.ref B,rfl,ah,rfl,_,rfl,B,_,rfl,(d4.f g1).get aa as,_,_,rfl,rfl,_,_,rfl,rfl,?_⟩;refine⟨some x,?_,rfl⟩;rw[oG,xO,gY hv,fA.N8 aa];rfl;rintro σ X ⟨o2,rfl,rfl⟩;rw[lw,aN];have a3:∀k∈c.ks,some k∈ws:=λk hk=>by have:=jw (a2 (some k) (iq hk));rw[U]at this;obtain⟨u,b,a9⟩:=aA.mp this;rw[i7 a9]at b;exact b
 refine⟨_,rfl,_,rfl,p,dx,_,rfl,S,rfl,λe0 a8=>?_⟩;have s3:=fB a8 (.dK []);have bm:upd X e0 (.dK []) e0=some (.dK []):=fj;generalize upd X e0 (.dK [])=H3 at *;have g3:fF G H3:=g1.trans s3.toF;refine⟨G,p,I,le,fl,e0,c,[],[],.non,none,0,rfl,t.grow (fF.refl _) g3,.inl bm,.nil,bp _,(λx u h=>nomatch h),jZ,rfl,λm H4 kvs g s4 b5 bf bl b3=>?_⟩;refine⟨m,_,rfl,bf,trivial,λN=>?_⟩;have bv:fF H H4:=sf.trans (s3.trans s4).toF;have l:H m=none:=sf.free (s3.free b5);have ag:G m=none:=t.gh.free l;have b4:=jq.N5 (O:=O) t.gh bv;have b6:=b4.own (u:=.frz N (.dK kvs)) l ag;have bx:upd H4 m (.frz N (.dK kvs)) m=some (.frz N (.dK kvs)):=fj;have J:=b6.base t.gh l bx;have a5:wQ (upd G m (.frz N (.dK kvs))) m g:=⟨N,_,fj,Paired.LJ bl λ_ _ z=>z.f ((fF.refl G).upd ag)⟩;have b0:∀a∈O,a≠d:=λa Y z=>by have:=an a Y;rw[z]at this;rcases Z with y|⟨o',y⟩ <;> (rw[this]at y;cases y)
 have a7:∀a∈O,upd H4 m (.frz N (.dK kvs)) a=H a:=λa Y=>by
  obtain⟨u,b⟩:=R a Y;have h1:X a=some u:=by rw[a0 a (b0 a Y)];exact b
  have h4:=s4 _ _ (s3 _ _ h1);rw[fw (λz:a=m=>by rw[z,l]at b;cases b),h4,b]
 generalize upd G m (.frz N (.dK kvs))=G6 at *;generalize upd H4 m (.frz N (.dK kvs))=H6 at *;intro x M hx a6 a4;have sm:=made (C:=CT) hx a6 a4;have bq:upd (upd H6 M (.own x)) x (.ins CT M []) x=some (.ins CT M []):=fj;have b1:=J.trans (jq.same (O:=O) J.gh sm);generalize upd (upd H6 M (.own x)) x (.ins CT M [])=H7 at *;have ab:H x=none:=J.lv x hx;have ad:G6 x=none:=J.gh.free hx;refine⟨x,M,_,_,_,rfl,bq,rfl,?_⟩;have bd:=b1.own (u:=.ins CT M (zA (.int 0) (.int ((c.N6 ws:Nat):Int)) (.ref m))) ab ad;refine q G6 _ x ⟨0,c.N6 ws,g⟩ bd ab ad ⟨M,m,fj,a5⟩ (λL=>?_) rfl λa Y=>?_;exact vR (j4 (c.Nx _) (c.MQ _)) (λk=>fA.N9 a3) b3;obtain⟨u,b⟩:=R a Y;have h6:H6 a=some u:=(a7 a Y).trans b;rw[fw (λz:a=x=>by rw[z,ab]at b;cases b),sm _ _ h6,b]
end
structure SS (CB CC CL CS CF CT:eQ)(G H:Hp)(p ch le fl:eQ)(c:fA)(L:jz)(O:eW eQ)(A:eW (eQ×eQ))(F:eW Fk):Prop where
 se:Se CB CC CS G H p ch le fl c
 led:im CL G H le ch c L O
 ok:jm c L
 fk:jN CF CT G H c fl A F
 sep:zu O fl A
def SS.grow {p ch le fl:eQ}{c:fA}{L L':jz}(h:SS CB CC CL CS CF CT G H p ch le fl c L O A F)(g:jq G H O G' H' O')(hl:im CL G' H' le ch c L' O')(hok:jm c L'):SS CB CC CL CS CF CT G' H' p ch le fl c L' O' A F:=
 ⟨h.se.grow g.gg g.gh,hl,hok,h.fk.grow g h.sep,zu.grow h.fk g h.sep⟩
def zw (H:Hp)(O:eW eQ)(G G':Hp):Prop:=∀x u,H x=some u->vv u->x∉O->G x=none->G' x=none
inductive Et (CB CC CL CS CF CT:eQ)(vs:eW V)(H:Hp)(Q:VK)(E:XK):Prop
 |mk (G:Hp)(p ch le fl:eQ)(c:fA)(L:jz)(O:eW eQ)(A:eW (eQ×eQ))(B:eW Fk)(g:Fk)(_:vs=[.ref p])(_:SS CB CC CL CS CF CT G H p ch le fl c L O A (B++[g]))(_:gW c L B.reverse g.sd)(_:lr c g)(_:NZ L)(_:∀(G' H':Hp) (L':jz) (O':eW eQ) (A':eW (eQ×eQ)) (F':eW Fk) (s:eQ) (d:Sd),fF G G'->jB H O H' O'->zw H O G G'->SS CB CC CL CS CF CT G' H' p ch le fl c L' O' A' F'->gW c L' F'.reverse d->NZ L'->mH CT G' H' s d->G' s=none->s∉O'->s∉A'.map (·.2)->c.mv (c.n+1) F'<=c.mv (c.n+1) (B++[g])->Q (.ref s) H')(_:∀(G' H':Hp) (L':jz) (O':eW eQ) (A':eW (eQ×eQ)) (F':eW Fk) (e:Nat×Rs),fF G G'->jB H O H' O'->zw H O G G'->SS CB CC CL CS CF CT G' H' p ch le fl c L' O' A' F'->L'.getLast?=some e->e.1=0->Q .non H')
def FV (a b t t':V):ij ("bit":Str) t' (uV a b t)=uV a b t':=by kernel_rfl
def oy {c:fA}{x:Str}{s:Sd}:∀j,c.has (i5 (c.Np x) s.dead) j↔j∈c.left x s:=λj=>by
 rw[fA.Mx,fA.Nu,fA.Ng];exact⟨(by rintro⟨⟨h1,h2⟩,h3⟩;exact⟨h1,h2,h3⟩),(by rintro⟨h1,h2,h3⟩;exact⟨⟨h1,h2⟩,h3⟩)⟩
theorem Bf {c:fA}{g g':Fk}(hp:g'.part=g.part)(hs:g'.sd=g.sd):∀(d:Nat) (B:eW Fk),c.mv d (B++[g'])=c.mv d (B++[g])
 |0,_=>by unfold fA.mv;rfl
 |d+1,[]=>by show c.cnt g'*(c.n+2)^d+c.mv d []=c.cnt g*(c.n+2)^d+c.mv d [];unfold fA.cnt;rw[hp,hs]
 |d+1,f::B=>by show c.cnt f*(c.n+2)^d+c.mv d (B++[g'])=c.cnt f*(c.n+2)^d+c.mv d (B++[g]);rw[Bf hp hs d B]
section
variable {w:fe}{base:fb}{f:eQ}
def E1:fL ["self","fork","left"] ["self"] (fE Aj):=jD
theorem Dm (F:je K "go_on" "Search.go_on" Aj f fd)(T:ur K mg CS)(da:TC K mg CC)(TF:Cd K mg CF)(du:Mt P w K mg base CC gM 1 "listed" ["self","mask"] (lH CC))(ek:Mt P w K mg base CS gM 1 "left" ["self","stand","part"] (xX CB CC CS CT))(MB:Mt P w K mg base CS gM 3 "stand_behind" ["self","fork"] (yc CB CC CL CS CF CT))(MS:Mt P w K mg base CS gM 5 "shut" ["self","fork","known"] (BV CB CC CL CS CF CT))(MG:Mt P w K mg base CS gM 2 "go_back" ["self","place"] (x8 CB CC CL CS CF CT)):gv P w K mg base gM 6 f fd ["self"] (Et CB CC CL CS CF CT):=by
 refine F.ok E1 λe7 A ey s H vs Q E hr h=>?_;obtain⟨G,p,Y,le,fl,c,L,O,AA,B,g,rfl,e0,eu,hg,e3,q1,q2⟩:=h;have hu:=iD hr;refine⟨_,(fm (kz PassesOwn.never (i9 (fK T.cl T.nFo (pv 0)) (λ_=>rfl)) (fm (fJ (i:=1) E1.nd (fZ gu (fK T.cl T.nFo (pv 0)) (jL kS fD))) (fm (fJ (i:=2) E1.nd (iY du (hr.mono (by decide)) gJ (fK T.cl T.nCh (pv 0)) (fi (iY ek (hr.mono (by decide)) gJ (pv 0) (fi (fK TF.cl TF.nSt (pv 1)) (fi (fK TF.cl TF.nPa (pv 1)) fq))) fq))) (fm (gK (i9 (pv 2) (λ_=>rfl)) (fm (kI TF.cl TF.nBi (pv 1) (gj hu (fK da.cl da.nBits (fK T.cl T.nCh (pv 0))) (fZ gu (pv 2) (jL kS fD)))) (fz (gc (iY MB (hr.mono (by decide)) gJ (pv 0) (fi (pv 1) fq))))) gi) (fz (gq (iY MG (hr.mono (by decide)) gJ (pv 0) (fi (iY MS hr gJ (pv 0) (fi (pv 1) (fi jb fq))) fq)))))))) (fz (gc ja))),?_⟩;refine⟨λm σ H2=>∃(U:Hp) (Lake:jz) (O2:eW eQ) (v:eW (eQ×eQ)) (F2:eW Fk) (o1 o2:fc V),σ=[some (.ref p),o1,o2]/\fF G U/\jB H O H2 O2/\zw H O G U/\SS CB CC CL CS CF CT U H2 p Y le fl c Lake O2 v F2/\((F2=[]/\m=0/\∃e,Lake.getLast?=some e/\e.1=0)\/∃o g2,F2=o++[g2]/\m=c.mv (c.n+1) F2+1/\c.mv (c.n+1) F2<=c.mv (c.n+1) (B++[g])/\gW c Lake o.reverse g2.sd/\lr c g2/\NZ Lake),⟨c.mv (c.n+1) (B++[g])+1,G,L,O,AA,B++[g],none,none,rfl,fF.refl _,jB.refl _ _,(λ_ _ _ _ _ h=>h),e0,.inr ⟨B,g,rfl,rfl,am _,eu,hg,e3⟩⟩,?_⟩;rintro m σ H2 ⟨U,Lake,O2,v,F2,o1,o2,rfl,bq,an,bl,N,b1⟩;obtain⟨dx,hp⟩:=N.se.self;have al:=N.se.gh.ins hp;refine⟨_,rfl,p,dx,_,V.ref fl,rfl,al,rfl,_,.inl ⟨_,gf.of N.fk.l,rfl⟩,?_⟩;have lA:=Paired.length N.fk.p;rcases b1 with ⟨rfl,rfl,e,dt,e2⟩|⟨o,g2,rfl,rfl,c4,d,a0,a2⟩;have:v=[]:=bV.mp (by simpa using lA);subst this;refine gB ?_;exact q2 U H2 Lake O2 [] [] e bq an bl N dt e2;have cp:=d.depth;rw[cb]at cp;have ep:=N.se.n;rw[aB,aM]at lA;obtain⟨a,ha⟩:∃a,v[o.length]?=some a:=⟨v[o.length]'(by lia),ar _⟩;have bf:(o++[g2])[o.length]?=some g2:=by rw[bh (am _),cj];rfl
 have es:nX CF CT U H2 c a g2:=by obtain⟨c0,R,z2⟩:=Paired.Ml N.fk.p ha;rw[bf]at R;cases R;exact z2
 obtain⟨⟨fx,a8⟩,ea⟩:=id es;have ds:v=v.take o.length++[a]:=by rw[<-gY ha,<-lA,aN]
 have ev:(v.map λa=>V.ref a.1)[(v.map λa=>V.ref a.1).length-1]?=some (.ref a.1):=by rw[ae,lA,eF,ai,ha];rfl
 have dc:(!(v.map λa=>V.ref a.1).isEmpty)=true:=by rw[ds];simp
 rw[dc];refine ip ⟨λσ' H'=>∃m',m'<c.mv (c.n+1) (o++[g2])+1/\_,λ_ _ h=>h,?_⟩;refine⟨_,rfl,p,dx,_,V.ref fl,rfl,al,rfl,_,rfl,fl,_,_,V.ref a.1,rfl,rfl,gf.of N.fk.l,pK ev,?_⟩;obtain⟨gx,gb,ap,eb,e6,e8,e5,e9,e4,d1,d2,d3,d4,d5,d6⟩:=N.se.chart.ex;refine⟨_,rfl,p,dx,_,V.ref Y,rfl,al,rfl,Y,gx,_,rfl,N.se.gh.ins d1,rfl,_,rfl,p,dx,_,rfl,al,rfl,_,rfl,a.1,fx,_,V.ref a.2,rfl,a8,rfl,_,rfl,a.1,fx,_,V.str g2.part,rfl,a8,rfl,U,p,Y,le,fl,a.2,c,g2.sd,g2.part,rfl,N.se,ea,?_⟩;have dv:i5 (c.Np g2.part) g2.sd.dead<2^c.n:=kD (c.MQ _);refine⟨U,Y,gx,eb,_,c,_,rfl,N.se.gh,N.se.gh.ins d1,rfl,d5,ep,dv,λl xs H3 s3 hl b4 c1 ez=>?_⟩;have as:=jq.same (O:=O2) N.se.gh s3;have D:=N.grow as (N.led.same s3) N.ok;have bx:=s3 _ _ al;have S:=s3 _ _ a8;have lx:=Paired.length c1;refine⟨_,rfl,_,.inl ⟨xs,gf.of b4,rfl⟩,?_⟩;by_cases hxe:xs=[];subst hxe;refine gB ?_;have b7:c.listed (i5 (c.Np g2.part) g2.sd.dead)=[]:=bV.mp lx.symm;have be:∀k∈c.ks,k.1=g2.part->c.has g2.sd.dead k:=λk hk ah=>Classical.byContradiction λz=>by have:k∈c.listed (i5 (c.Np g2.part) g2.sd.dead):=fA.Mu.mpr ((oy k).mpr (fA.Ng.mpr ⟨hk,ah,z⟩));rw[b7]at this;cases this
 have c7:∀f∈o++[g2],jv c Lake f.sd:=λf hf=>by rcases aE.mp hf with z|z;exact(d.fks f (cC.mpr z)).2;rw[af.mp z];exact d.sd
 have b0:qV c (o++[g2]):=by have:=d.mono g2 rfl;rw[dm]at this;exact this
 refine⟨_,rfl,p,dx,_,rfl,bx,rfl,_,rfl,p,dx,_,rfl,bx,rfl,_,rfl,λkd a5=>?_⟩;have s4:=fB a5 (.dK []);have ej:upd H3 kd (.dK []) kd=some (.dK []):=fj;generalize upd H3 kd (.dK [])=H4 at *;have b3:=jq.same (O:=O2) D.se.gh s4;have S4:=D.grow b3 (D.led.same s4) D.ok;have eq:kd∉O2:=λz=>by obtain⟨u,I⟩:=D.led.liv kd z;rw[a5]at I;cases I
 refine⟨U,p,Y,le,fl,c,Lake,O2,v,o++[g2],o.length,a,g2,kd,[],none,rfl,S4.se,S4.led,S4.ok,S4.fk,S4.sep,b0,c7,by rw[aB,aM];lia,ha,bf,a0.open_,.inl ej,eq,rfl,λk hk ah=>.inl (be k hk ah),λm hm=>?_,?_⟩;intro j1 j2 h1 h2 e;have R:=(hm j1 h1).resolve_right (by rintro⟨_,_,_,z,_⟩;exact nomatch z);have z2:=(hm j2 h2).resolve_right (by rintro⟨_,_,_,z,_⟩;exact nomatch z);exact d.sd.one j1 j2 R z2 e;intro G5 H5 O5 L5 j e C bv ag el co b9 a6;have J:=S4.grow C bv ag;have cz:∀j,c.has e.1 j->c.has g2.sd.picked j:=λj hj=>(b9 j hj).resolve_right (by rintro⟨_,_,_,z,_⟩;exact nomatch z);have bd:=ak co;have b5:gW c L5 o.reverse g2.sd:=d.led λx hx=>by obtain⟨X,hX⟩:=el;rw[hX];exact aK _ hx
 have bm:∀f∈o++[g2],∀k,f.bit=some k->k∈c.ks:=λf hf k hk=>by rcases aE.mp hf with z|z;exact((d.fks f (cC.mpr z)).1.bit k hk).1;rw[af.mp z]at hk;exact(a0.bit k hk).1
 refine⟨G5,p,Y,le,fl,c,L5,O5,v,o++[g2],j,e,rfl,J.se,J.led,J.fk,J.sep,co,by rw[aB,aM];lia,bm,λn H6 hn d8 s6 em=>?_⟩;have ew:∀y∈fl::v.map (·.2),∃u,H5 y=some u/\¬vv u:=λy Z=>by rcases ao.mp Z with z|z;exact⟨.lst _,by rw[z];exact J.fk.l,λq=>q⟩;obtain⟨a',M,rfl⟩:=aA.mp z;obtain⟨t,ht⟩:=aD.mp M;obtain⟨fk,_,_,sx,wa,ab,_⟩:=Paired.Ml J.fk.p ht;exact⟨.ins _ _ _,ab,λq=>q⟩
 have c2:∀y∈fl::v.map (·.2),G5 y=none:=λy Z=>by rcases ao.mp Z with z|z;rw[z];exact J.fk.offl;obtain⟨a',M,rfl⟩:=aA.mp z;exact(J.fk.off a' M).2
 have cv:∀y∈O5,y∉fl::v.map (·.2):=λy Z z=>by rcases ao.mp z with z|z;exact J.sep.1 (z▸Z);obtain⟨a',M,rfl⟩:=aA.mp z;exact(J.sep.2 a' M).2 Z
 have g6:fF G5 H6:=i8 J.se.gh c2 s6.toF;have dd:im CL G5 H6 le Y c L5 O5:=J.led.grow (fF.refl _) J.led.off λy Z=>by obtain⟨u,I⟩:=J.led.liv y Z;rw[s6 y u (by rw[fG (cv y Z)];exact I),I]
 have S6:SS CB CC CL CS CF CT G5 H6 p Y le fl c L5 O5 (v.take n) (c.NY e.1 ((o++[g2]).take n)):=⟨J.se.grow (fF.refl _) g6,dd,ag,em,J.sep.1,λa' M=>J.sep.2 a' (cD M)⟩;have b6:jB H O H6 O5:=an.trans ((as.N4.trans (b3.N4.trans C.N4)).trans (jB.del s6.toF ew));have c3:fF G G5:=bq.trans C.gg;have a3:zw H O G G5:=λx u h f n g=>C.off (bl x u h f n g) ((an.trans (as.N4.trans b3.N4)) x u h f n).1;rcases zr b5 a0 bd (ag.lt e bd) cz d8 with ⟨R,z2⟩|⟨B3,g3,R,z2,z3,z4,z5⟩;have ed:c.NY e.1 ((o++[g2]).take n)=[]:=by rw[R];rfl
 rw[ed]at S6;refine⟨0,Nat.succ_pos _,G5,L5,O5,v.take n,[],_,_,rfl,c3,b6,a3,S6,.inl ⟨rfl,rfl,e,?_,z2⟩⟩;rcases a6 a2 with y|⟨_,y⟩;exact absurd z2 (y e bd);exact y;rw[R]at S6;refine⟨_,Nat.succ_lt_succ z4,G5,L5,O5,v.take n,B3++[g3],_,_,rfl,c3,b6,a3,S6,.inr ⟨B3,g3,rfl,rfl,bz (bY z4) c4,z2,z3,?_⟩⟩;rcases a6 a2 with y|⟨y,_⟩;exact y;exact absurd y z5;have c9:(!xs.isEmpty)=true:=by cases xs with|nil=>exact absurd rfl hxe|cons a b=>rfl
 rw[c9];refine ip ?_;have d7:c.listed (i5 (c.Np g2.part) g2.sd.dead)≠[]:=λz=>hxe (bV.mp (by rw[lx,z];rfl));obtain⟨k,hkl⟩:∃k,(c.listed (i5 (c.Np g2.part) g2.sd.dead)).getLast?=some k:=⟨_,List.getLast?_eq_some_getLast d7⟩;obtain⟨hk,ah,a5,a4⟩:=yU oy hkl;obtain⟨x,a1,a9⟩:∃x,xs[xs.length-1]?=some x/\fX U x k:=by
  have h1:(c.listed (i5 (c.Np g2.part) g2.sd.dead))[xs.length-1]?=some k:=by rw[lx,<-List.getLast?_eq_getElem?];exact hkl
  obtain⟨x,R,z2⟩:=ou c1 (i:=((xs.length-1:Nat):Int)) (by rw[jG];exact h1);rw[jG]at R;exact⟨x,R,z2⟩
 have g3:=D.se.gh;refine⟨_,rfl,p,dx,_,V.ref Y,rfl,bx,rfl,Y,gx,_,V.ref ap,rfl,g3.ins d1,rfl,_,rfl,_,rfl,l,_,_,x,rfl,rfl,gf.of b4,pK a1,ap,_,rfl,(d4.f g3).get (w:=some k) (iq hk) (fX.f g3 a9),_,rfl,a.1,fx,_,rfl,S,(by show 3<1000;decide),?_⟩;rw[FV];have c5:=ak ha;have cs:∀{y dy y1 y2 y3},H3 y=some (.ins CT dy (zA y1 y2 y3))->y≠a.1:=λh=>Ne.symm (zT S h);have fa:l≠a.1:=gF b4 S λz=>nomatch z;have aa:∀b,b≠a.1->upd H3 a.1 (.ins CF fx (uV (.str g2.part) (.ref a.2) (.int (c.Mo (some k):Nat)))) b=H3 b:=λb hb=>fw hb;have cn:upd H3 a.1 (.ins CF fx (uV (.str g2.part) (.ref a.2) (.int (c.Mo (some k):Nat)))) a.1=some (.ins CF fx (uV (.str g2.part) (.ref a.2) (.int (c.Mo (some k):Nat)))):=fj;generalize upd H3 a.1 (.ins CF fx (uV (.str g2.part) (.ref a.2) (.int (c.Mo (some k):Nat))))=H4 at *;have g4:fF U H4:=λb u e=>by
  have nb:b≠a.1:=λz=>by rw[z,(D.fk.off a c5).1]at e;cases e
  rw[aa b nb];exact g3 b u e
 have dn:a.1∉O2:=(D.sep.2 a c5).1;have ad:im CL U H4 le Y c Lake O2:=D.led.grow (fF.refl _) D.led.off λy Z=>aa y λz=>dn (z▸Z);obtain⟨⟨fx3,hfa3⟩,hst3⟩:nX CF CT U H3 c a g2:=by obtain⟨c0,R,z2⟩:=Paired.Ml D.fk.p ha;rw[bf]at R;cases R;exact z2
 have ec:fl≠a.1:=gF D.fk.l S λz=>nomatch z;have d9:∀(t:Nat) (b:eQ×eQ),v[t]?=some b->t≠o.length->b.1≠a.1:=λt b hb ht z=>by
  have a1:(v.map (·.1))[t]?=some b.1:=by rw[ai,hb];rfl
  have a9:(v.map (·.1))[o.length]?=some a.1:=by rw[ai,ha];rfl
  rw[z]at a1;exact ht ((cG (aj.mp a1).1 D.fk.nd1).mp (a1.trans a9.symm))
 have a7:mH CT U H4 a.2 g2.sd:=by obtain⟨sx,wa,ab,e1⟩:=hst3;exact⟨sx,wa,by rw[aa _ (cs ab)];exact ab,e1⟩
 have b8:jN CF CT U H4 c fl v (o++[{g2 with bit:=some k}]):=by
  refine⟨by rw[aa fl ec];exact D.fk.l,lb (by rw[aB,aM];exact lA) λt b fk h1 h2=>?_,D.fk.offl,D.fk.off,D.fk.nd1,D.fk.nd2⟩;by_cases ht:t=o.length;subst ht;rw[ha]at h1;cases h1;rw[bh (am _),cj]at h2;have:({g2 with bit:=some k}:Fk)=fk:=by simpa using h2
  subst this;exact⟨⟨fx,cn⟩,a7⟩;have c6:t<o.length:=by have:=(aj.mp h2).1;rw[aB,aM]at this;lia
  rw[aT c6]at h2;obtain⟨c0,R,⟨y1,z2⟩,y2,w2,z3,z4⟩:=Paired.Ml D.fk.p h1;rw[aT c6,h2]at R;cases R;exact⟨⟨y1,by rw[aa _ (d9 t b h1 ht)];exact z2⟩,y2,w2,by rw[aa _ (cs z3)];exact z3,z4⟩
 have c8:lr c {g2 with bit:=some k}:=⟨a0.open_,a0.rule,λj hj=>by cases hj;exact⟨hk,ah,a4⟩⟩;have dp:H4 p=some (.ins CS dx (yi Y le fl)):=g4.ins hp;have S4:SS CB CC CL CS CF CT U H4 p Y le fl c Lake O2 v (o++[{g2 with bit:=some k}]):=⟨D.se.grow (fF.refl _) g4,ad,D.ok,b8,D.sep⟩;have cx:jB H3 O2 H4 O2:=jB.del (ys:=[a.1]) (λb u hb=>by
  have nb:b≠a.1:=λz=>by rw[z,gR (by simp)]at hb;cases hb
  rw[aa b nb];exact .inl (gy _ _ b u hb)) λy Z=>by rw[af.mp Z];exact⟨_,S,λq=>q⟩
 refine⟨_,rfl,p,dx,_,rfl,dp,rfl,_,rfl,U,p,Y,le,fl,c,Lake,O2,a,{g2 with bit:=some k},k,rfl,S4.se,ad,S4.ok,⟨⟨fx,cn⟩,a7⟩,rfl,c8,d.sd,a5,?_⟩;intro G5 H5 s5 d5 C cd eh ct ⟨cy,b2⟩ dl;have bv:im CL G5 H5 le Y c Lake O2:=ad.grow C.gg (λy Z=>by obtain⟨u,I⟩:=ad.liv y Z;exact C.off (ad.off y Z) I) dl;have J:=S4.grow C bv S4.ok;have a3:zw H O G G5:=λx u h f n g=>C.off (bl x u h f n g) ((an.trans (as.N4.trans cx)) x u h f n).1;refine q1 G5 H5 Lake O2 v _ s5 d5 (bq.trans C.gg) (an.trans (as.N4.trans (cx.trans C.N4))) a3 J ?_ a2 ct eh (λz=>?_) (λz=>?_) (by rw[Bf (g:=g2) (g':={g2 with bit:=some k}) rfl rfl];exact c4);rw[cV,List.reverse_singleton,List.singleton_append];exact .cons d c8 b2 cy;obtain⟨u,I⟩:=ad.liv s5 z;rw[cd]at I;cases I;obtain⟨a',M,rfl⟩:=aA.mp z;obtain⟨t,ht⟩:=aD.mp M;obtain⟨fk,_,_,sx,wa,ab,_⟩:=Paired.Ml b8.p ht;rw[cd]at ab;cases ab
end
end
section
structure Cm (K:fh)(x qual:Str)(st:eX)(f:eQ)(fd:eZ)(c:eQ):Prop where
 ex:∃(oc:eR) (od:fc eQ) (kV doc pm:eR) (an:fc eQ) (ct:eR) (osl:Array (fc eR)),
  fd=W.fnOf x qual (iJ st) (gZ st) (fE st) .none kV doc pm an (.ref c) ct/\K.lookup f=some ⟨oc,od,.func fd,osl⟩/\W.codeIn K (.ref c) qual=true
 kp:W.keepIn K (.ref f)=true
section
variable {P:eV}{w:fe}{K:fh}{mg:Str->fc eR}{base:fb}
def Cm.ok {x qual:Str}{st:eX}{f c:eQ}{fd:eZ}{N ps:eW Str}{k:Nat}{sp:Sp}(F:Cm K x qual st f fd c)(S:fL N ps (fE st))(len:∀vs H Q E,sp vs H Q E->vs.length=ps.length)(a:∀(A:eP) (outer:eW Env) (s:eU) (H:Hp) (vs:eW V) (Q:VK) (E:XK),iF k (A.deeper (envOfC qual (fE st) s.heap.objs.size f (.ref c)))->sp vs H Q E->∃t,lI (lN gM P w K mg base N qual (fE st) f (.ref c) A outer s H E).nox (gZ st) t/\t {nx:=λ_ H'=>Q .non H',rt:=Q} (start N vs) H):gv P w K mg base gM (k+1) f fd ps sp:=by obtain⟨m,p,kV,i,l,o,v,j,rfl,e,d⟩:=F.ex;refine BE e d S len λA outer s H vs Q E g b=>?_;obtain⟨t,h,q⟩:=a A outer s H vs Q E g b;exact⟨t,h.nox,q⟩
end
end
section
seal lI PS PE PT PA
def pE:Pos:=match gZ uz with
 |(.Assign _ (.Call _ _ [⟨_,.Lambda _ _ _ lp,_⟩] _) _)::_=>lp
 |_=>⟨0,0,0,0⟩
def qY:Str:=(envOfC "Search.next_part" (fE uz) 0 0 .none).qual++"<lambda>"
def BD {names:eW (Str×NameKind)}{y y':Str}(h:∀p∈names,p.2=.free->p.1=y\/p.1=y'):∀z,names.lookup z=some .free->z=y\/z=y':=λz hz=>by
 induction names with|nil=>cases hz|cons a l ih=>
  rw[bc]at hz;by_cases e:(z == a.1)=true;rw[e]at hz;have e1:z=a.1:=by simpa using e
  have b:a.2=.free:=Option.some.inj hz;rw[e1];exact h a (by simp) b;have d:(z == a.1)=false:=by cases hh:(z == a.1) <;> simp_all
  rw[d]at hz;exact ih (λp hp=>h p (by simp[hp])) hz
def Dx {c:fA}{x:Str}{s:Sd}:c.listed (i5 (c.Np x) s.dead)=c.left x s:=by unfold fA.listed fA.left;refine List.filter_congr λk b=>?_;rw[dg,aQ,aG,bQ,decide_eq_false_iff_not];have a:=oy (c:=c) (x:=x) (s:=s) k;rw[fA.Ng]at a;exact⟨λz=>(a.mp ⟨b,z⟩).2,λz=>(a.mpr ⟨b,z⟩).2⟩
inductive Ix (CB CC CS CT:eQ)(tq:Str)(lp:Pos)(PT':eQ)(vs:eW V)(H:Hp)(Q:VK)(E:XK):Prop
 |mk (G:Hp)(p ch le fl s:eQ)(c:fA)(L:jz)(sd:Sd)(_:vs=[.ref p,.ref s])(_:Se CB CC CS G H p ch le fl c)(_:mH CT G H s sd)(_:jv c L sd)(_:sd.wanted≠[])(_:gQ tq lp H PT')(_:G PT'=none)(_:∀(x:Str) (H':Hp),x∈sd.wanted.map (·.1)->c.Rule x sd->fH (del H [PT']) H'->gQ tq lp H' PT'->Q (.str x) H')
def zW (CB CC CS CT:eQ)(tq:Str)(lp:Pos)(PT':eQ):Sp:=Ix CB CC CS CT tq lp PT'
section
variable {P:eV}{w:fe}{K:fh}{mg:Str->fc eR}{base:fb}{f cd:eQ}{fd:eZ}
def EV:fL ["self","stand","fewest","first"] ["self","stand"] (fE uz):=jD
def Df {CB CC CS CT PP:eQ}(F:Cm K "next_part" "Search.next_part" uz f fd cd)(a2:W.codeHdIn K cd PP=true)(BM:um mg base)(T:ur K mg CS)(ap:TC K mg CC)(TT:DR K mg CT)(GC:Gd P w K mg base gM 1 "count_picks" ["mask"] wN)(ML:Mt P w K mg base CS gM 1 "left" ["self","stand","part"] (xX CB CC CS CT)):gv P w K mg base gM 5 f fd ["self","stand"] (zW CB CC CS CT qY pE PP):=by
 refine F.ok EV (λvs H Q E h=>?_) (λA a6 s H vs Q E hr h=>?_);obtain⟨G,p,ch,le,fl,s,c,L,sd,rfl,_⟩:=h;rfl;obtain⟨G,p,ch,le,fl,R,c,L,sd,rfl,hS,a5,aa,as,hT,gP,q⟩:=h;have hu:=iD hr;refine⟨_,(fm (fJ (i:=2) EV.nd (C4 (k:=2) (x:="part") (y:="stand") (y':="self") (j:=1) (j':=0) (cy:=s.heap.objs.size+2) (cy':=s.heap.objs.size+1) rfl hr ⟨rfl,rfl,rfl,rfl,rfl,rfl,rfl,by decide +kernel,BD (by decide +kernel),rfl,rfl,rfl,rfl,rfl,rfl,Or.inr (Or.inl rfl),Or.inr (Or.inl rfl),by decide +kernel,by decide +kernel,by decide +kernel⟩ rfl a2 BM rfl rfl T.min (fK TT.cl TT.nWa (pv 1)) (λ_ _ _ _=>rfl) (λq c' s H=>iM GC (iF.mono (iF.deeper (iF.in1 hr) _) (by decide:1<=2)) (fi (iY ML (iF.mono (iF.deeper (iF.in1 hr) _) (by decide:1<=2)) gJ (pv 2) (fi (pv 1) (fi (pv 0) fq))) fq)))) (fm (fJ (i:=3) EV.nd (fZ gu (iS (va rfl) rfl T.list eN (fi (fK TT.cl TT.nWa (pv 1)) fq)) fD)) (fm (gK (PW.pt (kU (jO (qq hu (pv 3) (gj hu (fK ap.cl ap.nAl (fK T.cl T.nCh (pv 0))) ja))) (jV (ge uE (iM GC (hr.mono (by decide:1<=4)) (fi (iY ML (hr.mono (by decide:1<=4)) gJ (pv 0) (fi (pv 1) (fi (pv 2) fq))) fq)) fD (gr _))))) (fz (gc (pv 3))) gi) (fz (gc (pv 2)))))),?_⟩;obtain⟨dx,hp⟩:=hS.self;have bf:=hS.gh.ins hp;obtain⟨sx,wa,S,wo,g,J,M⟩:=id a5;have lw:=Paired.length M;obtain⟨⟨x0,u0⟩,wr,hw0⟩:∃xu wr,sd.wanted=xu::wr:=by cases h:sd.wanted with|nil=>exact absurd h as|cons a b=>exact⟨a,b,rfl⟩
 have B:0<g.length:=by rw[lw,hw0];exact Nat.succ_pos _
 have o:∀(i:Nat) (m:io×V),g[i]?=some m->∃x u,sd.wanted[i]?=some (x,u)/\m.1=Sum.inr x:=λi m h=>by obtain⟨⟨x,u⟩,D,I⟩:=Paired.Ml M h;exact⟨x,u,D,I.1⟩
 have hP:∃u,H PP=some u/\vv u:=by rcases hT with z|⟨c',z,_⟩;exact⟨_,z,trivial⟩;exact⟨_,z,trivial⟩
 have nP:∀{a C d fs},H a=some (.ins C d fs)->a≠PP:=λ{a C d fs} h z=>by obtain⟨u,D,I⟩:=hP;rw[z,D]at h;cases h;exact I
 refine⟨_,rfl,R,sx,_,V.ref wa,rfl,S,rfl,wa,wo,g,V.ref R,V.ref p,rfl,hS.gh.frz J,B,hT,rfl,rfl,λH2 sm a0=>?_⟩;have g2:fF G H2:=i8 hS.gh (O:=[PP]) (λa ha=>by rw[af.mp ha];exact gP) sm.toF;have ad:Se CB CC CS G H2 p ch le fl c:=hS.grow (fF.refl _) g2;have a4:=g2.ins hp;have t:H2 R=some (.ins CT sx (zA (.int (sd.picked:Nat)) (.int (sd.dead:Nat)) (.ref wa))):=sm _ _ (by rw[fG (by simpa using nP S)];exact S);have al:mH CT G H2 R sd:=⟨sx,wa,t,wo,g,J,M⟩;refine⟨λi=>match sd.wanted[i]? with
  |some xu=>((c.listed (i5 (c.Np xu.1) sd.dead)).length:Nat)
  |none=>0,λi m hi=>?_,λi m hi a9=>?_⟩
 obtain⟨x,u,D,I⟩:=o i m hi;dsimp only;rw[D,I];exact⟨_,rfl,p,dx,_,rfl,a4,rfl,_,rfl,_,rfl,G,p,ch,le,fl,R,c,sd,x,rfl,ad,al,c,_,rfl,kD (c.MQ _),rfl,rfl⟩;obtain⟨x,u,D,I⟩:=o i m hi;rw[I];have an:x∈sd.wanted.map (·.1):=aA.mpr ⟨(x,u),ak D,rfl⟩;refine⟨_,rfl,R,sx,_,V.ref wa,rfl,t,rfl,wa,g,rfl,.inr ⟨wo,g2.frz J⟩,λl hl=>?_⟩;have Z:=fB hl (.lst (g.map λm=>kV m.1));obtain⟨kv0,kvr,hk0,hk1⟩:∃kv0 kvr,g=kv0::kvr/\kv0.1=Sum.inr x0:=by cases hwk:g with|nil=>rw[hwk]at B;cases B|cons a b=>obtain⟨x',u',y1,y2⟩:=o 0 a (by rw[hwk];rfl);rw[hw0]at y1;cases y1;exact⟨a,b,rfl,y2⟩
 have a8:upd H2 l (.lst (g.map λm=>kV m.1)) l=some (.lst (V.str x0::kvr.map λm=>kV m.1)):=by rw[fj,hk0,aH,hk1];rfl
 generalize upd H2 l (.lst (g.map λm=>kV m.1))=H3 at *;have g3:fF G H3:=g2.trans Z.toF;have ab:=g3.ins hp;refine⟨l,_,_,V.str x0,rfl,rfl,gf.of a8,nT,?_⟩;obtain⟨gx,gb,a3,bl,bq,ah,be,bm,bd,d1,d2,d3,d4,d5,d6,d7,d8,d9⟩:=hS.chart.ex;obtain⟨da,e1,oa,U,e2,e3,e4⟩:=(d7.f g3).get (w:=none) jZ rfl;refine⟨_,rfl,_,rfl,p,dx,_,V.ref ch,rfl,ab,rfl,ch,gx,_,V.ref ah,rfl,g3.ins d1,rfl,ah,_,rfl,e1,da,_,rfl,.inl ⟨U,Sum.inr x0,.inr ⟨oa,e2⟩,rfl,rfl⟩,_,rfl,?_⟩;have a7:(fW U (Sum.inr x0)).isSome=decide (x0∈c.start):=by by_cases hx:x0∈c.start;rw[e4 x0 hx,aq hx];rfl;rw[aw hx];cases hq:fW U (Sum.inr x0) with|none=>rfl|some v=>have:=jw hq;rw[e3]at this;obtain⟨y,hy,e⟩:=aA.mp this;rw[Sum.inr.inj e]at hy;exact absurd hy hx
 rw[a7];have h0:(sd.wanted.map (·.1))[0]?=some x0:=by rw[hw0];rfl
 have N:x0∈sd.wanted.map (·.1):=by rw[hw0];exact bH
 have X:fH (del H [PP]) H3:=sm.trans Z;have Y:gQ qY pE H3 PP:=by rcases a0 with z|⟨c',D,I⟩;exact .inl (Z _ _ z);exact .inr ⟨c',Z _ _ D,Z _ _ I⟩
 have a1:=ad.same Z;have ag:mH CT G H3 R sd:=⟨sx,wa,Z _ _ t,wo,g,J,M⟩;by_cases hx:x0∈c.start;rw[aq hx];refine ip ?_;refine⟨_,rfl,p,dx,_,rfl,ab,rfl,_,rfl,_,rfl,G,p,ch,le,fl,R,c,sd,x,rfl,a1,ag,c,_,rfl,kD (c.MQ _),_,_,rfl,rfl,_,rfl,?_⟩;dsimp only;rw[Dx];by_cases h1:(1:Int)<((c.left x sd).length:Nat);rw[aq h1];exact ip ⟨_,rfl,q x0 H3 N (tD aa h0 (.inl ⟨rfl,hx⟩)) X Y⟩;rw[aw h1];exact gB ⟨_,rfl,q x H3 an (tD aa h0 (.inr (.inr (by omega)))) X Y⟩;rw[aw hx];refine gB (gB ⟨_,rfl,q x H3 an (tD aa h0 (.inr (.inl hx))) X Y⟩)
end
def fA.Oa (c:fA)(n:Nd)(k:Pk):eW Pk:=((lE c.es n).filter λv=>decide (k.2<v)).map λv=>(k.1,v)
inductive wL (CB CC CS CF CT:eQ)(vs:eW V)(H:Hp)(Q:VK)(E:XK):Prop
 |mk (G:Hp)(p ch le fl:eQ)(c:fA)(O:eW eQ)(a:eQ×eQ)(fk:Fk)(k:Pk)(_:vs=[.ref p,.ref a.1])(_:Se CB CC CS G H p ch le fl c)(_:nX CF CT G H c a fk)(_:fk.bit=some k)(_:k∈c.ks)(_:k.1=fk.part)(_:fk.part∈(c.needs none).map (·.1))(_:∀a∈O,∃u,H a=some u)(_:∀(G' H':Hp) (l:eQ) (xs:eW V) (n:Nd),jq G H O G' H' O->(∀a∈O,H' a=H a)->H l=none->G' l=none->H' l=some (.lst xs)->(c.needs none)[((c.needs none).map (·.1)).idxOf fk.part]?=some n->n.1=fk.part->ff (fX G') xs (c.Oa n k)->Q (.ref l) H')
def HQ:(["version","picked","fork"]:eW Str).Nodup:=by decide +kernel
section
variable {P:eV}{w:fe}{K:fh}{mg:Str->fc eR}{base:fb}{f:eQ}{fd:eZ}
def zZ:fL ["self","fork","need","picked"] ["self","fork"] (fE sQ):=jD
def AW {CB CC CS CF CT:eQ}(F:je K "newer_picks" "Search.newer_picks" sQ f fd)(T:ur K mg CS)(g:TC K mg CC)(ad:TB K mg CB)(TF:Cd K mg CF)(MN:Mt P w K mg base CS gM 1 "place_of_need" ["self","who","part"] (uf CB CC CS))(MM:Mt P w K mg base CB gM 2 "meeting" ["self","need"] (mh CB)):gv P w K mg base gM 3 f fd ["self","fork"] (wL CB CC CS CF CT):=by
 refine F.ok zZ λco A b2 s H vs Q E hr h=>?_;obtain⟨G,p,J,le,fl,c,O,a,m,k,rfl,e,bq,an,hk,a8,ah,ag,q⟩:=h;have hu:=iD hr;refine⟨_,(fm (fJ (i:=2) zZ.nd (fZ gu (gj hu (fK ad.cl ad.nN (fK g.cl g.nBoard (fK T.cl T.nCh (pv 0)))) ja) (iY MN (hr.mono (by decide:1<=2)) gJ (pv 0) (fi ja (fi (fK TF.cl TF.nPa (pv 1)) fq))))) (fm (fJ (i:=3) zZ.nd (fZ gs (iP hu (fK g.cl g.nBy (fK T.cl T.nCh (pv 0))) (fK TF.cl TF.nBi (pv 1))) fD)) (fz (gc (iG (N':=["version","picked","fork"]) (n:=1) (js:=[3,1]) rfl (iT.two (c:=s.heap.objs.size+2) (c':=s.heap.objs.size+1) (y:="picked") (y':="fork")) (iz (by decide)) (gL (iY MM hr gJ (fK g.cl g.nBoard (fK T.cl T.nCh (pv 0))) (fi (pv 2) fq))) (λC s2 H2 fp=>fQ (i:=0) HQ) (λC s2 H2 fp=>lu (ge uE (pv 0) (pv 1) (gr _))) (λC s2 H2 fp=>ig (fi (fK TF.cl TF.nPa (pv 2)) (fi (pv 0) fq)))))))),?_⟩;obtain⟨dx,hp⟩:=e.self;have Y:=e.gh.ins hp;obtain⟨⟨fx,I⟩,b7⟩:=bq;have b4:c.Mo m.bit=c.bit k:=by rw[an];rfl
 rw[b4]at I;obtain⟨gx,gb,b1,al,cn,cp,cd,cs,a5,d1,d2,d3,d4,⟨bm,bv,a2⟩,d6⟩:=e.chart.ex;obtain⟨b8,a0,pq,rfl,b0⟩:=a2 k hk;obtain⟨bx,dn,dv,a3,bf⟩:=j5 (d2.f e.gh) (d3.f e.gh);obtain⟨na,a9,zs,hz,b3⟩:=bf none .non jZ rfl;obtain⟨n,aa,b5⟩:=xt ah;refine⟨_,rfl,p,dx,_,V.ref J,rfl,Y,rfl,J,gx,_,V.ref gb,rfl,e.gh.ins d1,rfl,gb,bx,_,_,rfl,a3,gT _ _,dn,_,rfl,a9,_,rfl,p,dx,_,rfl,Y,rfl,_,rfl,a.1,fx,_,V.str m.part,rfl,I,rfl,G,p,J,le,fl,c,.non,none,m.part,rfl,e,jZ,rfl,ah,λH1 U=>?_⟩;obtain⟨zv,a6,be⟩:=ou b3 (show kW (c.needs none) ((((c.needs none).map (·.1)).idxOf m.part:Nat):Int)=some n by rw[jG];exact aa);refine⟨na,_,_,zv,rfl,rfl,gf.of (U _ _ hz),pB a6,?_⟩;have g1:fF G H1:=e.gh.trans U.toF;have ab:=U _ _ Y;have B:=U _ _ I;refine⟨_,rfl,p,dx,_,V.ref J,rfl,ab,rfl,J,gx,_,V.ref al,rfl,g1.ins d1,rfl,_,rfl,a.1,fx,_,V.int (c.bit k:Nat),rfl,B,rfl,al,V.ref pq,rfl,.inl ⟨bm,Sum.inl (c.bit k:Int),g1.rd bv,rfl,a0.symm⟩,pq,_,_,V.int k.2,rfl,rfl,jg.of (g1.tup b0),rfl,?_⟩;refine⟨_,rfl,p,dx,_,V.ref J,rfl,ab,rfl,J,gx,_,V.ref gb,rfl,g1.ins d1,rfl,gb,bx,_,rfl,U _ _ a3,nR _ _ (by decide +kernel) (by decide +kernel),_,rfl,gb,a5,c.es,_,n,rfl,d2.f g1,gX.same U be,by rw[<-c.n_eq];exact e.n,λl0 ms H2 s2 b9 M a7 bl=>?_⟩;have a1:=uH a7 bl;subst a1;have d:=U.trans s2;refine⟨l0,rfl,⟨_,gf.of M⟩,?_⟩;have ct:(lE c.es n).length<64:=by have h1:=oU c.es n;have Z:=e.n;rw[c.n_eq]at Z;omega
 refine iK (xs:=(lE c.es n).map V.int) (λD i ys o=>∃j,jq G H O j o O/\H2 D=none/\j D=none/\o D=some (.lst ys)/\fH (del H2 [D]) o/\ff (fX j) ys ((((lE c.es n).take i).filter λv=>decide (k.2<v)).map λv=>(k.1,v)))
  (λD hD=>⟨G,(jq.same e.gh d).own (d.free hD) (e.gh.free (d.free hD)),hD,e.gh.free (d.free hD),fj,λb u L=>by
   have nb:b≠D:=λz=>by rw[z,gR (by simp)]at L;cases L
   rw[fw nb];exact gy _ _ b u L,by rw[dX];exact .nil⟩)
  (λD i ys o hi ⟨j,N,l,e3,X,S,R⟩=>⟨gf.of (S _ _ (by rw[fG (by simpa using fC M l)];exact M)),X,?_⟩) (λD i y ys o hi ⟨j,N,l,e3,X,S,R⟩=>?_) (λD ys o ⟨j,N,l,e3,X,S,R⟩=>?_)
 have h1:=Paired.length R;rw[ae]at h1;have Z:=bK (λv=>decide (k.2<v)) ((lE c.es n).take i);rw[aW]at Z;exact fO (by omega);rw[ai]at hi;obtain⟨v,hv,rfl⟩:=aF.mp hi;have a4:∀{x u},H2 x=some u->o x=some u:=λ{x u} h=>S _ _ (by rw[fG (by simpa using fC h l)];exact h);unfold jl;refine⟨_,rfl,_,rfl,_,_,rfl,rfl,_,rfl,?_⟩;skip;have ap:=gY hv;by_cases hlt:k.2<v;rw[aq hlt];refine ip ⟨_,rfl,a.1,fx,_,V.str m.part,rfl,a4 (s2 _ _ B),rfl,_,rfl,pO,λt ht=>?_⟩;have bd:D≠t:=fC X ht;have gw:=N.trans (jq.put (O:=O) (u:=.tup [.str m.part,.int v]) N.gh ht);have st:=fB ht (.tup [.str m.part,.int v]);have b6:H D=none:=d.free l;have gD:upd j t (.tup [.str m.part,.int v]) D=none:=by rw[fw bd];exact e3
 refine⟨st _ _ X,upd j t (.tup [.str m.part,.int v]),gw.own b6 gD,l,gD,fj,λb u L=>?_,?_⟩;have nb:b≠D:=λz=>by rw[z,gR (by simp)]at L;cases L
 rw[fw nb];exact st _ _ (S _ _ L);rw[ap,cw,aC];have e9:([v].filter λv=>decide (k.2<v))=[v]:=by rw[aI,ay (by simpa using hlt)];rfl
 rw[e9];refine Paired.snoc (Paired.LJ R λ_ _=>fX.f ((fF.refl j).upd (N.gh.free ht))) ⟨t,rfl,?_⟩;rw[fj,<-a8];rw[aw hlt];refine gB ⟨j,N,l,e3,X,S,?_⟩;rw[ap,cw,aC];have e9:([v].filter λv=>decide (k.2<v))=[]:=by rw[aI,ax (by simpa using hlt)];rfl
 rw[e9,df,bZ];exact R;rw[ae,aN]at R;refine q j o D ys n N (λy hy=>?_) (d.free l) e3 X aa b5 R;obtain⟨u,as⟩:=ag y hy;have Z:=d _ _ as;rw[S y u (by rw[fG (by simpa using fC Z l)];exact Z),as]
end
end
section
variable {F:eW Fk}{L:jz}{d:Sd}{g:Fk}{t:Nat}
def zU {α:Type}{l:eW α}{x:α}(h:l[t]?=some x):l=l.take t++x::l.drop (t+1):=by obtain⟨a,b⟩:=aj.mp h;subst b;rw[<-dw a,List.take_append_drop]
def li {c:fA}(h:gW c L F.reverse d)(a:F[t]?=some g):gW c L (F.take t).reverse g.sd/\lr c g:=by
 have e:F.reverse=(F.drop (t+1)).reverse++g::(F.take t).reverse:=by
  conv=>lhs;rw[zU a]
  rw[cV,cF,ce];rfl
 exact h.to e
def Dw {c:fA}(h:gW c L F.reverse d){g':Fk}(p:F[t]?=some g)(a:F[t+1]?=some g'):∃k,g.bit=some k/\k∈c.ks/\k.1=g.part/\g'.sd.picked=g.sd.picked ||| c.bit k/\¬c.has g.sd.dead k:=by
 obtain⟨i,_⟩:=li h a;have e:(F.take (t+1)).reverse=g::(F.take t).reverse:=by rw[aZ,p,cV];rfl
 rw[e]at i;have l:=i.live g (by simp);cases i with|cons a1 a2 a3 a4=>obtain⟨k,b,m,q⟩:=a3;obtain⟨o,j,_⟩:=a2.bit k b;exact⟨k,b,o,j,m,l k b⟩
def wH {c:fA}(h:gW c L F.reverse d)(hg:g∈F):∃k,g.bit=some k/\k∈c.ks/\k.1=g.part/\c.has d.picked k/\¬c.has g.sd.dead k:=by
 have a:g∈F.reverse:=cC.mpr hg;obtain⟨l,_⟩:=h.fks g a;have key:∀{R:eW Fk} {s:Sd},gW c L R s->∀g∈R,∃k,g.bit=some k:=by intro R s j;induction j with|nil _ _=>exact λg hg=>nomatch hg|cons _ _ a3 _ ih=>intro g hg;rcases ao.mp hg with rfl|hg;obtain⟨k,b,_⟩:=a3;exact⟨k,b⟩;exact ih g hg
 obtain⟨k,e⟩:=key h g a;obtain⟨m,i,_⟩:=l.bit k e;exact⟨k,e,m,i,(h.sub g a).2.2 k e,h.live g a k e⟩
def fA.Ob (c:fA)(pk:Nat)(x:Str):Nat:=c.maskOf λk=>decide (c.has pk k)&&decide (k.1∈c.start.take (c.start.idxOf x))
def fA.Oc {c:fA}{pk:Nat}{x:Str}{k:Pk}:c.has (c.Ob pk x) k↔c.has pk k/\k.1∈c.start.take (c.start.idxOf x):=by unfold fA.Ob;rw[fA.MJ,aQ,aG,aG];exact⟨λh=>h.2,λh=>⟨h.1.1,h⟩⟩
def tQ {α:Type} [DecidableEq α] {l:eW α}{x:α}{n:Nat}(h:x∈l)(b:l.idxOf x<n):x∈l.take n:=by have a:=bD.mpr h;refine aD.mpr ⟨l.idxOf x,?_⟩;rw[cu,ay b,ar a];exact congrArg some (cO a)
def DC {α:Type} [DecidableEq α] {l:eW α}{x y:α}(hx:x∈l)(d:y∈l)(h:l.idxOf x=l.idxOf y):x=y:=by have a:=cO (bD.mpr hx);have b:=cO (bD.mpr d);rw[<-a,<-b];congr 1
def yp {c:fA}(h:gW c L F.reverse d)(I:qV c F){N:Nat}{fk:Fk}{k:Pk}(B:F[N]?=some fk)(e:F[t]?=some g)(b:t<N)(hx:fk.part∈c.start)(x:g.bit=some k)(J:¬c.has (c.Ob d.picked fk.part) k):∀j∈c.ks,j.1=g.part->c.has g.sd.dead j\/j=k:=by
 obtain⟨C,D⟩:=li h B;obtain⟨M,o⟩:=li h e;have a:=D.out C.sd;have p:=wH h (ak e);obtain⟨R,A,Q,m,O,E⟩:=p;rw[x]at A;cases A;have up:∀y,c.isP g.sd.picked y->c.isP fk.sd.picked y:=(by rintro y ⟨j,P,G⟩;exact⟨j,I t N g fk (bY b) e B j P,G⟩);have q:g∈(F.take N).reverse:=by rw[cC];refine aD.mpr ⟨t,?_⟩;rw[cu,ay b];exact e
 have s:c.has fk.sd.picked k:=(C.sub g q).2.2 k x;have i:¬g.part=fk.part:=λz=>a ⟨k,s,by rw[m,z]⟩;rcases o.rule with ⟨v,H⟩|r|r;exfalso;rcases Nat.lt_trichotomy (c.start.idxOf g.part) (c.start.idxOf fk.part) with z|z|z;exact J (fA.Oc.mpr ⟨O,by rw[m];exact tQ v z⟩);exact i (DC v hx z);exact a (up _ (H fk.part hx z));intro j K l;by_cases hd:c.has g.sd.dead j;exact .inl hd;exact .inr (r j k K Q l m hd E);exact absurd (up _ (r fk.part hx)) a
def Dr {c:fA}{pk:Nat}{e:Nat×Rs}(g:jm c L)(b:Cn c.es c.sn (c.listed pk))(d:e∈L)(h:∀j,c.has e.1 j->c.has pk j):False:=by obtain⟨i,m⟩:=aD.mp d;refine Hq (ls:=c.lns L) (λi l a=>?_) b i (c.ln e) ?_ λp hp=>fA.Mu.mpr (h p (fA.Mu.mp hp));unfold fA.lns at a;rw[ai]at a;obtain⟨x,o,rfl⟩:=aF.mp a;exact g.good i x o;unfold fA.lns;rw[ai,m];rfl
end
section
seal lI PS PE PT PA
def sr (H:Hp)(O:eW eQ)(A:eW (eQ×eQ))(H':Hp)(O':eW eQ):Prop:=∀b u,H b=some u->b∉O->b∉A.map (·.2)->(H' b=some u\/(D7 u/\∃o,H' b=some (.frz o u)))/\b∉O'
def jq.frx {G H G' H':Hp}{O O':eW eQ}{A:eW (eQ×eQ)}(g:jq G H O G' H' O'):sr H O A H' O':=λb u h n _=>⟨g.fr b u (by rw[fG n];exact h),g.out n h⟩
def sr.trans {H H1 H2:Hp}{O O1 O2:eW eQ}{A:eW (eQ×eQ)}(a:sr H O A H1 O1)(b:sr H1 O1 A H2 O2):sr H O A H2 O2:=λx u h n m=>by
 obtain⟨z,y⟩:=a x u h n m;rcases z with z|⟨z1,o,z2⟩;exact b x u z y m;obtain⟨w1,w2⟩:=b x _ z2 y m;refine⟨.inr ⟨z1,o,?_⟩,w2⟩;rcases w1 with w|⟨w,_⟩;exact w;exact w.elim
inductive BX (CB CC CL CS CF CT:eQ)(vs:eW V)(H:Hp)(Q:VK)(E:XK):Prop
 |mk (G:Hp)(p ch le fl sl:eQ)(c:fA)(L:jz)(O:eW eQ)(A:eW (eQ×eQ))(F:eW Fk)(N:Nat)(fk:Fk)(d:Sd)(v:V)(k:Pk)(_:vs=[.ref p,v,.int (c.Ob d.picked fk.part:Nat),.ref sl])(_:SS CB CC CL CS CF CT G H p ch le fl c L O A F)(_:fX G v k)(_:F[N]?=some fk)(_:k∈c.ks)(_:k.1=fk.part)(_:c.has fk.sd.dead k)(_:fk.part∈c.start)(_:gW c L F.reverse d)(_:Cn c.es c.sn (c.listed d.picked))(_:¬c.has d.picked k)(_:H sl=some (.lst ((A.take N).map λa=>V.ref a.1)))(_:sl∉O)(_:∀(G' H':Hp) (L':jz) (O':eW eQ) (e:Nat×Rs),fF G G'->sr H O A H' O'->SS CB CC CL CS CF CT G' H' p ch le fl c L' O' A (F.map (c.M7 k e.1))->gW c L' (F.map (c.M7 k e.1)).reverse (c.M4 k e.1 d)->Q .non H')
section
variable {P:eV}{w:fe}{K:fh}{mg:Str->fc eR}{base:fb}{f:eQ}{fd:eZ}
def CJ:fL ["self","pick","kept","forks","place","fork"] ["self","pick","kept","forks"] (fE vF):=jD
theorem AU {CB CC CL CS CF CT:eQ}(F:je K "show_barred" "Search.show_barred" vF f fd)(T:ur K mg CS)(cs:TC K mg CC)(bf:TL K mg CL)(TF:Cd K mg CF)(MA:Mt P w K mg base CS gM 4 "line_against" ["self","pick"] (uh CB CC CL CS CF CT))(MS:Mt P w K mg base CS gM 5 "shut" ["self","fork","known"] (BV CB CC CL CS CF CT))(MM:Mt P w K mg base CS gM 1 "mark_dead" ["self","bit","place"] (xW CB CC CL CS CF CT)):gv P w K mg base gM 6 f fd ["self","pick","kept","forks"] (BX CB CC CL CS CF CT):=by
 refine F.ok CJ λek A dy s H vs Q E hr h=>?_;obtain⟨G,p,ch,le,fl,sl,c,L,O,AA,FF,N,fk,d,v,k,rfl,l,hv,hN,hk,c0,U,c4,I,b8,ct,a6,al,q⟩:=h;have hu:=iD hr;refine⟨_,(fm (fJ (i:=4) CJ.nd (iY MA (hr.mono (by decide:4<=5)) gJ (pv 0) (fi (pv 1) fq))) (fm (ie PassesOwn.never rfl (Fh rfl T.rev (pv 3)) (fQ (i:=5) CJ.nd) (fz (gK (vP (fU iV (fU iV (fZ gu (fK bf.cl bf.nMa (fK T.cl T.nLe (pv 0))) (pv 4)) (fK TF.cl TF.nBi (pv 5))) (jL lR (pv 2))) (λ_=>rfl)) (fz (fJ (i:=4) CJ.nd (iY MS hr gJ (pv 0) (fi (pv 5) (fi (C7 (uC (fK TF.cl TF.nBi (pv 5)) (pv 4) xj) rfl rfl (by intro z;cases z) (by decide)) fq))))) gi))) (fz (gq (iY MM (hr.mono (by decide:1<=5)) gJ (pv 0) (fi (gj hu (fK cs.cl cs.nBits (fK T.cl T.nCh (pv 0))) (pv 1)) (fi (pv 4) fq))))))),?_⟩;obtain⟨dx,hp⟩:=l.se.self;have dl:=l.se.gh.ins hp;have D:qV c FF:=by have bq:=I.mono ⟨fk.part,d,none⟩ rfl;rw[dm]at bq;intro i i' f f' hi h1 h2;refine bq i i' f f' hi ?_ ?_;rw[aT (aj.mp h1).1];exact h1;rw[aT (aj.mp h2).1];exact h2
 have a4:∀f∈FF,jv c L f.sd:=λf hf=>(I.fks f (cC.mpr hf)).2;have ab:FF.length<=64:=by have:=I.depth;rw[cb]at this;have:=l.se.n;lia
 obtain⟨b7,c9⟩:=li I hN;have ad:¬c.isP fk.sd.picked k.1:=by rw[c0];exact c9.out b7.sd
 have ep:N<FF.length:=(aj.mp hN).1;have lA:AA.length=FF.length:=Paired.length l.fk.p;have an:=ak hN;have b9:∀j,c.has fk.sd.picked j->c.has d.picked j:=(I.sub fk (cC.mpr an)).1;have ds:∀a b,(a=k\/c.has fk.sd.picked a)->(b=k\/c.has fk.sd.picked b)->a.1=b.1->a=b:=λa b h1 h2 e=>by
  rcases h1 with rfl|h1 <;> rcases h2 with rfl|h2
  rfl;exact absurd ⟨b,h2,e.symm⟩ ad;exact absurd ⟨a,h1,e⟩ ad;exact b7.sd.one a b h1 h2 e
 refine⟨_,rfl,p,dx,_,rfl,dl,rfl,_,rfl,G,p,ch,le,fl,c,L,O,AA,FF,v,k,rfl,l.se,l.led,l.ok,l.fk,hv,hk,D,a4,⟨fk,an,U,ad⟩,ab,?_⟩;intro G1 H1 O1 L1 j1 e1 a7 c5 cn cv c2 bd _;have cd:=a7.keep al a6 λz=>z;have d9:=a7.out al a6;refine⟨_,rfl,sl,_,rfl,gf.of cd,?_⟩;refine DH (K:=K) (a:=sl) (xs:=(AA.take N).map λa=>V.ref a.1) (λi σ H2=>∃(G2:Hp) (Z:eW eQ) (S:jz) (j:Nat) (e:Nat×Rs) (o5:fc V),σ=[some (.ref p),some v,some (.int (c.Ob d.picked fk.part:Nat)),some (.ref sl),some (.int (j:Nat)),o5]/\jq G H O G2 H2 Z/\im CL G2 H2 le ch c S Z/\jm c S/\(∃X,S=L++X)/\S[j]?=some e/\(∀x,c.has e.1 x->x=k\/c.has fk.sd.picked x))
  ⟨G1,O1,L1,j1,e1,none,rfl,a7,c5,cn,cv,c2,λx hx=>bd.2 fk an U x hx⟩ ((by rintro i σ H2 _ ⟨_,_,_,_,_,_,_,o,_⟩;exact gf.of (o.keep al a6 λz=>z))) ?_ ?_
 rintro i x σ H2 d7 hi ⟨G2,Z,S,j,e,o5,rfl,o,C,B,ag,J,a0⟩;rw[ae,aW]at d7 hi;have ej:i<N:=by lia
 have bm:min N AA.length=N:=by lia
 rw[bm,ai,cu]at hi;rw[ay (by lia)]at hi;obtain⟨a,ha,rfl⟩:=aF.mp hi;have a1:=l.fk.grow o l.sep;have t:=zu.grow l.fk o l.sep;obtain⟨g,hg,⟨fx,a2⟩,d8⟩:=Paired.Ml a1.p ha;obtain⟨g',hg'⟩:∃g',FF[N-i]?=some g':=⟨FF[N-i]'(by lia),ar _⟩;have be:N-1-i+1=N-i:=by lia
 obtain⟨M,b1,b2,b3,b4,b5⟩:=Dw I hg (by rw[be];exact hg');have d6:c.Mo g.bit=c.bit M:=by rw[b1];rfl
 rw[d6]at a2;have ap:=l.se.grow o.gg o.gh;have ah:=o.gh.ins (o.gg.ins hp);obtain⟨lx,ma,re,pm,pp,ed,rs,Ol,hO,c7,dv,cz⟩:=id C.ex;have c3:(S.map (·.1))[j]?=some e.1:=by rw[ai,J];rfl
 have c1:=B.lt e (ak J);refine⟨_,rfl,p,dx,_,V.ref le,rfl,ah,rfl,le,lx,_,V.ref ma,rfl,o.gh.ins c7,rfl,_,rfl,ma,_,_,_,rfl,rfl,gf.of dv,lc c3,_,rfl,a.1,fx,_,V.int (c.bit M:Nat),rfl,a2,rfl,_,_,rfl,rfl,_,rfl,_,rfl,_,_,rfl,rfl,_,rfl,?_⟩;dsimp only;rw[oG,rp,qH];have hX:∀y,c.has (i5 (e.1 &&& c.bit M) (c.Ob d.picked fk.part)) y↔(c.has e.1 y/\y=M)/\¬c.has (c.Ob d.picked fk.part) y:=λy=>by rw[fA.Mx,fA.Mw,fA.My b2]
 have b0:∀y,c.has g.sd.picked y->c.has fk.sd.picked y:=D (N-1-i) N g fk (by lia) hg hN;by_cases hc0:i5 (e.1 &&& c.bit M) (c.Ob d.picked fk.part)=0;rw[aq hc0];exact gB ⟨G2,Z,S,j,e,_,rfl,o,C,B,ag,J,a0⟩;rw[aw hc0];refine ip ?_;have bx:c.has e.1 M/\¬c.has (c.Ob d.picked fk.part) M:=by refine Classical.byContradiction λnk=>hc0 (fA.MD (kD (oH c1)) λy R=>?_);obtain⟨⟨z1,z2⟩,z3⟩:=(hX y).mp R;rw[z2]at z1 z3;exact nk ⟨z1,z3⟩
 refine⟨_,rfl,p,dx,_,rfl,ah,rfl,_,rfl,λkd U=>?_⟩;have du:a.1≠kd:=fC a2 U;refine⟨_,rfl,a.1,fx,_,V.int (c.bit M:Nat),rfl,(by rw[fw du];exact a2),rfl,_,rfl,fj,[(Sum.inl (c.bit M:Int),V.int (j:Nat))],rfl,(by show 1<=15;decide),?_⟩;rw[jT];have s3:=fB U (.dK (jo [] [(Sum.inl (c.bit M:Int),V.int (j:Nat))]));have da:upd H2 kd (.dK (jo [] [(Sum.inl (c.bit M:Int),V.int (j:Nat))])) kd=some (.dK [(Sum.inl (c.bit M:Int),V.int (j:Nat))]):=fj;generalize upd H2 kd (.dK (jo [] [(Sum.inl (c.bit M:Int),V.int (j:Nat))]))=H3 at *;have bl:=jq.same (O:=Z) o.gh s3;have dd:kd∉Z:=λz=>by obtain⟨u,aa⟩:=C.liv kd z;rw[U]at aa;cases aa
 have a8:=a1.grow bl t;have a9:∀x∈L,x∈S:=λx hx=>by obtain⟨X,hX⟩:=ag;rw[hX];exact aK _ hx
 refine⟨G2,p,ch,le,fl,c,S,Z,AA,FF,N-1-i,a,g,kd,_,some (M,j,e.1),rfl,ap.same s3,C.same s3,B,a8,t,D,λf hf=>(a4 f hf).led a9,ab,ha,hg,(li I hg).2.open_,.inl da,dd,⟨b2,rfl,e,J,rfl⟩,λy R dp=>?_,λm hm=>?_,?_⟩;rcases yp I D hN hg (by lia) c4 b1 bx.2 y R dp with z|z;exact .inl z;exact .inr ⟨j,e.1,by rw[z]⟩;have cp:∀y,c.has m y->y=k\/c.has fk.sd.picked y:=λy R=>by rcases hm y R with z|⟨k0,j0,m0,z1,z2,z3⟩;exact .inr (b0 y z);cases z1;exact a0 y z2
 exact λy1 y2 h1 h2 e=>ds y1 y2 (cp y1 h1) (cp y2 h2) e;intro G4 H4 O4 L4 j' e' dn cx bv c6 dt co _;have c8:∃X,L4=L++X:=by obtain⟨X,hX⟩:=ag;obtain⟨Y,hY⟩:=c6;exact⟨X++Y,by rw[hY,hX,ce]⟩
 refine⟨G4,O4,L4,j',e',_,rfl,o.trans (bl.trans dn),cx,bv,c8,dt,λy R=>?_⟩;rcases co y R with z|⟨k0,j0,m0,z1,z2,z3⟩;exact .inr (b0 y z);cases z1;exact a0 y z2;rintro σ H2 ⟨G2,Z,S,j,e,o5,rfl,o,C,B,ag,J,a0⟩;have a5:=ak J;have dc:c.has e.1 k:=Classical.byContradiction λnk=>Dr B b8 a5 λy R=>by rcases a0 y R with z|z;rw[z]at R;exact absurd R nk;exact b9 y z
 have ap:=l.se.grow o.gg o.gh;have a1:=l.fk.grow o l.sep;have t:=zu.grow l.fk o l.sep;have ah:=o.gh.ins (o.gg.ins hp);obtain⟨gx,gb,as,ec,eh,el,eb,em,ea,d1,d2,d3,d4,d5⟩:=ap.chart.ex;refine⟨_,rfl,p,dx,_,rfl,ah,rfl,_,rfl,p,dx,_,V.ref ch,rfl,ah,rfl,ch,gx,_,V.ref as,rfl,o.gh.ins d1,rfl,_,rfl,as,_,rfl,(d4.f o.gh).get (w:=some k) (iq hk) (fX.f o.gh (fX.f o.gg hv)),_,rfl,G2,p,ch,le,fl,c,S,Z,AA,FF,k,j,e,rfl,ap,C,a1,J,ab,λH3 s3 a8=>?_⟩;have a3:∀{x},x∈AA.map (·.2)->G2 x=none/\x∉Z:=λ{x} hx=>by obtain⟨a,ha,rfl⟩:=aA.mp hx;exact⟨(a1.off a ha).2,(t.2 a ha).2⟩
 have g3:fF G2 H3:=i8 o.gh (λx hx=>(a3 hx).1) s3.toF;have cy:im CL G2 H3 le ch c S Z:=C.grow (fF.refl _) C.off λy R=>by obtain⟨u,aa⟩:=C.liv y R;rw[s3 y u (by rw[fG (λz=>(a3 z).2 R)];exact aa),aa]
 have b6:=(I.led (L':=S) λx hx=>by obtain⟨X,hX⟩:=ag;rw[hX];exact aK _ hx).M7 hk a5 (B.lt e a5) dc ct;refine q G2 H3 S Z e o.gg (o.frx.trans λb u hb n m=>⟨.inl (s3 b u (by rw[fG m];exact hb)),n⟩) ⟨ap.grow (fF.refl _) g3,cy,B,a8,t⟩ ?_;rw[<-List.map_reverse];exact b6
end
end
section
variable {i:Nat}
def fA.firstM (c:fA)(pk:Nat)(i:Nat):Nat:=c.maskOf λk=>decide (c.has pk k)&&decide (k.1∈c.start.take i)
def fA.Od (c:fA)(pk:Nat)(x:Str):c.Ob pk x=c.firstM pk (c.start.idxOf x):=rfl
def fA.Oe (c:fA)(pk:Nat):c.firstM pk 0=0:=fA.MD (c.MQ _) λk h=>by
 have:=(fA.MJ.mp h).2;simp at this
def fA.Of {c:fA}{pk:Nat}{x:Str}(h:c.start[i]?=some x):c.firstM pk (i+1)=c.firstM pk i ||| (c.Np x &&& pk):=by refine fA.ext (c.MQ _) (j4 (c.MQ _) (oH (c.MQ _))) λk=>?_;rw[fA.Mv,fA.Mw,fA.Nu];unfold fA.firstM;rw[aZ,h];simp only[fA.MJ,aQ,aG,aE,Option.toList_some,af];constructor;rintro⟨a,b,h3|h3⟩;exact .inl ⟨a,b,h3⟩;exact .inr ⟨⟨a,h3⟩,b⟩;rintro(⟨a,b,h3⟩|⟨⟨a,h3⟩,b⟩);exact⟨a,b,.inl h3⟩;exact⟨a,b,.inr h3⟩
def FS {α:Type} [DecidableEq α] {l:eW α}(g:l.Nodup){x:α}(h:l[i]?=some x):l.idxOf x=i:=by have d:=ak h;have a:=bD.mpr d;have b:=cO a;obtain⟨j,e⟩:=aj.mp h;exact(List.getElem_inj g).mp (b.trans e.symm)
def rf (f:Fk):Str×fc Pk:=(f.part,f.bit)
def CA (c:fA)(k:Pk)(m:Nat)(F:eW Fk):(F.map (c.M7 k m)).map rf=F.map rf:=by rw[cR];rfl
def zX {F F':eW Fk}(h:F'.map rf=F.map rf){f:Fk}(d:F[i]?=some f):∃f',F'[i]?=some f'/\f'.part=f.part/\f'.bit=f.bit:=by
 have a:(F'.map rf)[i]?=some (rf f):=by rw[h,ai,d];rfl
 rw[ai]at a;obtain⟨f',e,b⟩:=aF.mp a;exact⟨f',e,congrArg (·.1) b,congrArg (·.2) b⟩
end
section
seal lI PS PE PT PA
variable {A:eW (eQ×eQ)}{CB CC CF CT PP a b:eQ}{H H':Hp}{O O':eW eQ}
inductive BW (CB CC CL CS CF CT:eQ)(vs:eW V)(H:Hp)(Q:VK)(E:XK):Prop
 |mk (G:Hp)(p ch le fl:eQ)(c:fA)(L:jz)(O:eW eQ)(A:eW (eQ×eQ))(F:eW Fk)(d:Sd)(_:vs=[.ref p,.int (d.picked:Nat)])(_:SS CB CC CL CS CF CT G H p ch le fl c L O A F)(_:gW c L F.reverse d)(_:Cn c.es c.sn (c.listed d.picked))(_:∀(G' H':Hp) (L':jz) (O':eW eQ) (F':eW Fk),fF G G'->sr H O A H' O'->SS CB CC CL CS CF CT G' H' p ch le fl c L' O' A F'->Q .non H')
def sr.refl (H:Hp)(O:eW eQ)(A:eW (eQ×eQ)):sr H O A H O:=λb u h n _=>⟨.inl h,n⟩
def sr.rd (g:sr H O A H' O'){u:HO}(h:Rd H b u)(n:b∉O)(m:b∉A.map (·.2)):Rd H' b u:=by rcases h with h|⟨o,h⟩;rcases (g b u h n m).1 with z|⟨_,o,z⟩;exact .inl z;exact .inr ⟨o,z⟩;rcases (g b _ h n m).1 with z|⟨z,_⟩;exact .inr ⟨o,z⟩;exact z.elim
def sr.no (g:sr H O A H' O'){u:HO}(h:H b=some u)(n:b∉O)(m:b∉A.map (·.2))(f:¬D7 u):H' b=some u:=(g b u h n m).1.resolve_right λz=>f z.1
def BN {xs:eW V}{n:Nat}(h:n<=xs.length):lG xs none (some (n:Int))=xs.take n:=by unfold lG;rw[HT.qb,HT.nK,List.drop_zero,Nat.sub_zero,Nat.min_eq_left h]
section
variable {P:eV}{w:fe}{K:fh}{mg:Str->fc eR}{base:fb}{f:eQ}{fd:eZ}
def uw:fL ["self","picked","ahead","mask","part","number","fork","pick"] ["self","picked"] (fE vE):=jD
theorem AT {CL CS:eQ}(F:je K "show_newest" "Search.show_newest" vE f fd)(T:ur K mg CS)(as:TC K mg CC)(TF:Cd K mg CF)(MN:Mt P w K mg base CS gM 3 "newer_picks" ["self","fork"] (wL CB CC CS CF CT))(MB:Mt P w K mg base CS gM 6 "show_barred" ["self","pick","kept","forks"] (BX CB CC CL CS CF CT)):gv P w K mg base gM 7 f fd ["self","picked"] (BW CB CC CL CS CF CT):=by
 refine F.ok uw λgk A fo s H vs Q E hr h=>?_;obtain⟨G,p,ch,le,fl,c,L,O,I,FF,d,rfl,m,e7,bf,q⟩:=h;have hu:=iD hr;refine⟨_,(fm (fJ (i:=2) uw.nd jb) (fm (fJ (i:=3) uw.nd fD) (fm (ie PassesOwn.never rfl (Av (gj hu (fK as.cl as.nAl (fK T.cl T.nCh (pv 0))) ja)) (fQ (i:=4) uw.nd) (fm (jW hu (pv 2) (pv 4) (pv 3) rfl) (fz (lB (i:=3) uw.nd (fU iV (iP hu (fK as.cl as.nOf (fK T.cl T.nCh (pv 0))) (pv 4)) (pv 1)) uN)))) (fz (ie PassesOwn.never rfl (xk rfl T.enum (fK T.cl T.nFo (pv 0))) (mX (n:=2) rfl (iC (fQ (i:=5) uw.nd) (iC (fQ (i:=6) uw.nd) lC))) (fz (gK (jO (qq hu (fK TF.cl TF.nPa (pv 6)) (pv 2))) (fz (ie PassesOwn.never rfl (gL (iY MN (hr.mono (by decide:3<=6)) gJ (pv 0) (fi (pv 6) fq))) (fQ (i:=7) uw.nd) (fz (gq (iY MB hr gJ (pv 0) (fi (pv 7) (fi (iP hu (pv 2) (fK TF.cl TF.nPa (pv 6))) (fi (jt jU (fK T.cl T.nFo (pv 0)) j9 (jE (pv 5))) fq)))))))) gi))))))),?_⟩;obtain⟨dx,hp⟩:=m.se.self;have e5:=m.se.gh.ins hp;obtain⟨gx,gb,e9,f8,ct,c3,f7,gn,f5,d1,d2,d3,d4,d5,d6,d7,d8⟩:=m.se.chart.ex;have lA:I.length=FF.length:=Paired.length m.fk.p;intro g a0;have s1:=fB a0 (.dK []);have bd:upd H g (.dK []) g=some (.dK []):=fj;generalize upd H g (.dK [])=H1 at *;have g1:fF G H1:=m.se.gh.trans s1.toF;have cx:G g=none:=m.se.gh.free a0;obtain⟨da,e1,oa,ap,e2,e3,e4⟩:=(d7.f g1).get (w:=none) jZ rfl;have e0:da≠g:=gF e2 bd λz=>nomatch z;have la:ap.length=c.start.length:=by have:=congrArg List.length e3;rw[ae,ae]at this;exact this
 have f9:c.start.length<=100:=bz (ot _) (m.se.nds none);refine⟨_,rfl,p,dx,_,V.ref ch,rfl,g1.ins hp,rfl,ch,gx,_,V.ref c3,rfl,g1.ins d1,rfl,c3,_,rfl,e1,da,oa,ap,rfl,e2,?_⟩;refine tZ (kvs:=ap) (λi σ H2=>∃kvs o4,σ=[some (.ref p),some (.int (d.picked:Nat)),some (.ref g),some (.int (c.firstM d.picked i:Nat)),o4,none,none,none]/\H2 g=some (.dK kvs)/\(∀b,b≠g->H2 b=H1 b)/\kvs.map (·.1)=(c.start.take i).map Sum.inr/\∀x∈c.start.take i,fW kvs (Sum.inr x)=some (.int (c.Ob d.picked x:Nat)))
  ⟨[],none,by rw[fA.Oe];rfl,bd,λ_ _=>rfl,by simp,λx hx=>by simp at hx⟩ (by
   rintro i σ H2 _ ⟨_,_,_,_,e,_⟩;rw[e da e0]
   exact e2) ?_ ?_
 rintro i kv σ H2 hi ⟨kvs,o4,rfl,al,a3,J,a2⟩;have ah:(ap.map (·.1))[i]?=some kv.1:=by rw[ai,hi];rfl
 rw[e3,ai]at ah;obtain⟨x,hx,ex⟩:=aF.mp ah;rw[<-ex];have M:c.start[i]?=some x:=hx;have eq:=ak M;have c7:i<100:=by have:=(aj.mp M).1;lia
 have c2:c.start.idxOf x=i:=FS (j3 _) M;have lk:kvs.length<=i:=by have:=congrArg List.length J;rw[ae,ae,aW]at this;lia
 have g2:fF G H2:=λb u e=>by
  have nb:b≠g:=λz=>by rw[z,cx]at e;cases e
  rw[a3 b nb];exact g1 b u e
 have ek:=qw (j3 _) M;have fp:fW kvs (Sum.inr x)=none:=by cases hq:fW kvs (Sum.inr x) with|none=>rfl|some u=>have:=jw hq;rw[J]at this;obtain⟨y,hy,e⟩:=aA.mp this;rw[Sum.inr.inj e]at hy;exact absurd hy ek
 refine⟨_,rfl,_,rfl,_,rfl,g,_,rfl,nF.k (k:=Sum.inr x) al (fO (by lia)),?_⟩;have dc:∀b,b≠g->upd H2 g (.dK (gz kvs (Sum.inr x) (.int (c.firstM d.picked i:Nat)))) b=H1 b:=λb hb=>by rw[fw hb];exact a3 b hb
 have g3:fF G (upd H2 g (.dK (gz kvs (Sum.inr x) (.int (c.firstM d.picked i:Nat))))):=g2.upd cx;have ds:upd H2 g (.dK (gz kvs (Sum.inr x) (.int (c.firstM d.picked i:Nat)))) g=some (.dK (gz kvs (Sum.inr x) (.int (c.firstM d.picked i:Nat)))):=fj;generalize upd H2 g (.dK (gz kvs (Sum.inr x) (.int (c.firstM d.picked i:Nat))))=Z at *;obtain⟨eu,ed,ej⟩:=d6.f g3;have fu:∃k∈c.ks,k.1=x:=by obtain⟨n,hn,el⟩:=iX.mp eq;obtain⟨j,dv,f1,_⟩:=bf.met none (λk z=>nomatch z) n hn;exact⟨j,(fA.Mu.mp dv).1,f1.trans el⟩
 refine⟨_,rfl,_,rfl,p,dx,_,V.ref ch,rfl,g3.ins hp,rfl,ch,gx,_,V.ref ct,rfl,g3.ins d1,rfl,_,rfl,ct,_,rfl,.inl ⟨eu,Sum.inr x,ed,rfl,((ej x).2 fu).symm⟩,_,rfl,_,_,rfl,rfl,_,_,rfl,rfl,?_⟩;refine⟨_,some (.str x),?_,ds,dc,?_,λy hy=>?_⟩;rw[oG,xO,fA.Of M];rfl;rw[iR _ fp,aC,J,gY M,aC];rfl;rw[ii];by_cases ey:y=x;subst ey;rw[ay rfl,fA.Od,c2];rw[ax (λz=>ey (Sum.inr.inj z))];rw[gY M]at hy;exact a2 y ((aE.mp hy).elim id λz=>absurd (af.mp z) ey);rintro σ H2 ⟨kvs,o4,rfl,al,a3,J,a2⟩;rw[la,aN]at J a2;have b7:fH H H2:=λb u e=>by rw[a3 b (fC e a0)];exact s1 _ _ e
 have co:=jq.same (O:=O) m.se.gh b7;have S2:=m.grow co (m.led.same b7) m.ok;have a6:g∉O:=λz=>by obtain⟨u,o⟩:=m.led.liv g z;rw[a0]at o;cases o
 have bl:∀{G3 Z F3},jN CF CT G3 Z c fl I F3->∀{x},x∈I.map (·.2)->∃C dy fs,Z x=some (.ins C dy fs):=λ{G3 Z F3} hF3 {x} hx=>by obtain⟨a,ha,rfl⟩:=aA.mp hx;obtain⟨t,ht⟩:=aD.mp ha;obtain⟨fk,_,_,sx,wa,ev,_⟩:=Paired.Ml hF3.p ht;exact⟨_,_,_,ev⟩
 have U:g∉I.map (·.2):=λz=>by obtain⟨C,dy,fs,h⟩:=bl S2.fk z;rw[al]at h;cases h
 have a8:∀x,fW kvs (Sum.inr x)=if x∈c.start then some (.int (c.Ob d.picked x:Nat)) else none:=λx=>by by_cases hx:x∈c.start;rw[ay hx];exact a2 x hx;rw[ax hx];cases hq:fW kvs (Sum.inr x) with|none=>rfl|some u=>have:=jw hq;rw[J]at this;obtain⟨y,hy,e⟩:=aA.mp this;rw[Sum.inr.inj e]at hy;exact absurd hy hx
 have ec:=b7 _ _ e5;refine⟨_,rfl,p,dx,_,V.ref fl,rfl,ec,rfl,fl,_,rfl,S2.fk.l,?_⟩;refine uS (K:=K) (a:=fl) (xs:=I.map λa=>V.ref a.1) (λi σ Z=>∃(G3:Hp) (L3:jz) (Y:eW eQ) (F3:eW Fk) (d3:Sd) (o3 o4 o5 o6 o7:fc V),σ=[some (.ref p),some (.int (d.picked:Nat)),some (.ref g),o3,o4,o5,o6,o7]/\fF G G3/\sr H2 O I Z Y/\SS CB CC CL CS CF CT G3 Z p ch le fl c L3 Y I F3/\F3.map rf=FF.map rf/\gW c L3 F3.reverse d3/\d3.picked=d.picked)
  ⟨G,L,O,FF,d,_,_,_,_,_,rfl,fF.refl _,sr.refl _ _ _,S2,rfl,e7,rfl⟩ (by rintro i σ Z _ ⟨_,_,_,_,_,_,_,_,_,_,_,_,_,S,_⟩;exact gf.of S.fk.l) ?_ ?_
 rintro i x σ Z t hi ⟨G3,L3,Y,F3,d3,o3,o4,o5,o6,o7,rfl,aa,b0,S3,R,X,bm⟩ ht;rw[ai]at hi;obtain⟨a,ha,rfl⟩:=aF.mp hi;obtain⟨f3,bv,f2⟩:=Paired.Ml S3.fk.p ha;obtain⟨f0,fa,cv,cs⟩:=zX R.symm bv;have s4:=fB ht (.tup [.int (i:Nat),.ref a.1]);have fv:upd Z t (.tup [.int (i:Nat),.ref a.1]) t=some (.tup [.int (i:Nat),.ref a.1]):=fj;generalize upd Z t (.tup [.int (i:Nat),.ref a.1])=H4 at *;have c6:=jq.same (O:=Y) S3.se.gh s4;have S4:=S3.grow c6 (S3.led.same s4) S3.ok;have a1:sr H2 O I H4 Y:=b0.trans c6.frx;obtain⟨⟨fx,hfa⟩,hstA⟩:nX CF CT G3 H4 c a f3:=by obtain⟨e6,z1,z2⟩:=Paired.Ml S4.fk.p ha;rw[bv]at z1;cases z1;exact z2
 have a9:Rd H4 g (.dK kvs):=a1.rd (.inl al) a6 U;have be:g∉Y:=(a1 g _ al a6 U).2;refine⟨t,_,rfl,jg.of fv,rfl,_,_,rfl,_,_,rfl,rfl,?_⟩;refine⟨_,rfl,a.1,fx,_,V.str f3.part,rfl,hfa,rfl,_,rfl,g,_,rfl,.inl ⟨kvs,Sum.inr f3.part,a9,rfl,rfl⟩,_,rfl,?_⟩;rw[a8 f3.part];by_cases hps:f3.part∈c.start;rw[ay hps];refine ip ?_;obtain⟨k,b1,b2,b3,b4,b5⟩:=wH X (ak bv);have dl:=S4.se.gh.ins (aa.ins hp);have a5:f3.part∈(c.needs none).map (·.1):=jX.mp hps;refine⟨_,rfl,p,dx,_,rfl,dl,rfl,_,rfl,G3,p,ch,le,fl,c,Y,a,f3,k,rfl,S4.se,⟨⟨fx,hfa⟩,hstA⟩,b1,b2,b3,a5,S4.led.liv,λG5 H5 l xs n N c9 hl gd bx f4 ft cy=>?_⟩;have em:im CL G5 H5 le ch c L3 Y:=S4.led.grow N.gg (λy hy=>by obtain⟨u,o⟩:=S4.led.liv y hy;exact N.off (S4.led.off y hy) o) c9;have S5:=S4.grow N em S4.ok;have dt:l∉Y:=λz=>by obtain⟨u,o⟩:=S4.led.liv l z;rw[hl]at o;cases o
 have dd:l∉I.map (·.2):=λz=>by obtain⟨C,dy,fs,h⟩:=bl S5.fk z;rw[bx]at h;cases h
 refine⟨l,rfl,⟨_,gf.of bx⟩,?_⟩;have lx:=Paired.length cy;have c5:∀kk∈c.Oa n k,kk∈c.ks/\kk.1=f3.part/\k.2<kk.2:=λkk J=>by obtain⟨v,d9,rfl⟩:=aA.mp J;obtain⟨es,ez⟩:=aY.mp d9;refine⟨(c.mem _).mpr ?_,b3,ba ez⟩;have:=(tS.mp es).1;rw[ft,<-b3]at this;exact this
 refine iE (K:=K) (a:=l) (xs:=xs) (λj σ H6=>∃(G6:Hp) (L6:jz) (O6:eW eQ) (F6:eW Fk) (d6:Sd) (o7:fc V),σ=[some (.ref p),some (.int (d.picked:Nat)),some (.ref g),o3,o4,some (.int (i:Nat)),some (.ref a.1),o7]/\fF G5 G6/\sr H5 Y I H6 O6/\SS CB CC CL CS CF CT G6 H6 p ch le fl c L6 O6 I F6/\F6.map rf=FF.map rf/\gW c L6 F6.reverse d6/\d6.picked=d.picked)
  ⟨G5,L3,Y,F3,d3,_,rfl,fF.refl _,sr.refl _ _ _,S5,R,X,bm⟩ (by rintro j σ H6 _ ⟨_,_,_,_,_,_,_,_,fx,_⟩;exact gf.of (fx.no bx dt dd λz=>z)) ?_ ?_
 rintro j x σ H6 hj ⟨G6,L6,O6,F6,d6,eh,rfl,ag,an,S6,D,B,ab⟩;obtain⟨kk,dp,ea⟩:=Paired.Ml cy hj;obtain⟨ah,bq,b6⟩:=c5 kk (ak dp);obtain⟨f6,a4,cp,cn⟩:=zX D fa;have ep:f6.part=f3.part:=by rw[cp,cv]
 have eb:f6.bit=some k:=by rw[cn,cs,b1]
 have b9:=S6.se.gh.ins (ag.ins (N.gg.ins (aa.ins hp)));obtain⟨⟨fx7,hfa7⟩,hst7⟩:nX CF CT G6 H6 c a f6:=by obtain⟨e6,z1,z2⟩:=Paired.Ml S6.fk.p ha;rw[a4]at z1;cases z1;exact z2
 have cd:Rd H6 g (.dK kvs):=an.rd (N.frx.rd (A:=I) a9 be U) be U;refine⟨_,rfl,p,dx,_,rfl,b9,rfl,_,rfl,_,rfl,_,rfl,a.1,fx7,_,V.str f6.part,rfl,hfa7,rfl,g,_,rfl,.inl ⟨kvs,Sum.inr f6.part,cd,rfl,by rw[ep,a8 f3.part,ay hps]⟩,_,rfl,p,dx,_,V.ref fl,rfl,b9,rfl,_,rfl,_,rfl,fl,_,rfl,gf.of S6.fk.l,λsl a7=>?_⟩;have c7:i<=(I.map λa=>V.ref a.1).length:=by rw[ae];exact bY (aj.mp ha).1
 rw[BN c7,<-cN];have s7:=fB a7 (.lst ((I.take i).map λa=>V.ref a.1));have du:upd H6 sl (.lst ((I.take i).map λa=>V.ref a.1)) sl=some (.lst ((I.take i).map λa=>V.ref a.1)):=fj;generalize upd H6 sl (.lst ((I.take i).map λa=>V.ref a.1))=H7 at *;have c0:=jq.same (O:=O6) S6.se.gh s7;have S7:=S6.grow c0 (S6.led.same s7) S6.ok;have fy:sl∉O6:=λz=>by obtain⟨u,o⟩:=S6.led.liv sl z;rw[a7]at o;cases o
 obtain⟨ga,b8⟩:=li B a4;have ew:c.has f6.sd.dead kk:=(b8.bit k eb).2.2 kk ah (by rw[bq,ep]) b6;have c8:¬c.has d6.picked kk:=λz=>by obtain⟨k',c1,_,_,c4,_⟩:=wH B (ak a4);rw[eb]at c1;cases c1;have:=B.sd.one k kk c4 z (by rw[b3,bq]);rw[this]at b6;exact absurd b6 (Int.lt_irrefl _)
 refine⟨G6,p,ch,le,fl,sl,c,L6,O6,I,F6,i,f6,d6,x,kk,by rw[ab,ep];rfl,S7,fX.f ag ea,a4,ah,by rw[bq,ep],ew,by rw[ep];exact hps,B,by rw[ab];exact bf,c8,du,fy,?_⟩;intro G8 H8 L8 O8 e8 fr dn S8 cz;exact⟨G8,L8,O8,_,_,_,rfl,ag.trans fr,an.trans ((c0.frx).trans dn),S8,by rw[CA];exact D,cz,by rw[fA.M9];exact ab⟩;rintro σ H6 ⟨G6,L6,O6,F6,d6,eh,rfl,ag,an,S6,D,B,ab⟩;exact⟨G6,L6,O6,F6,d6,_,_,_,_,_,rfl,aa.trans (N.gg.trans ag),a1.trans (N.frx.trans an),S6,D,B,ab⟩;rw[ax hps];exact gB ⟨G3,L3,Y,F3,d3,_,_,_,_,_,rfl,aa,a1,S4,R,X,bm⟩;rintro σ Z ⟨G3,L3,Y,F3,d3,o3,o4,o5,o6,o7,rfl,aa,b0,S3,R,X,bm⟩;exact q G3 Z L3 Y F3 aa (co.frx.trans b0) S3
end
section
variable {H:Hp}{p:eQ}{t:HO}(hp:H p=some t)(ft:vv t)
include hp ft
theorem jh {u:HO}(e:H a=some u)(h:¬vv u):del H [p] a=some u:=by rw[fG (by simpa using gF e hp λz=>h (z▸ft))];exact e
theorem lV {u:HO}(h:Rd H a u)(n:¬vv u):Rd (del H [p]) a u:=h.imp (λz=>jh hp ft z n) (by rintro⟨o,z⟩;exact⟨o,jh hp ft z λy=>y⟩)
theorem iu.fix {ns:eW Nd}(h:iu H a ns):iu (del H [p]) a ns:=(by obtain⟨xs,h1,h2⟩:=h;exact⟨xs,jh hp ft h1 (λz=>z),Paired.LJ h2 (by rintro _ _ ⟨q,e1,e2⟩;exact⟨q,e1,jh hp ft e2 λz=>z⟩)⟩)
theorem ia.fix {st:eQ}{es:eW En}(h:ia CB H b st es):ia CB (del H [p]) b st es:=by obtain⟨s,t,y,d,o,E,v,A,D,F⟩:=h.ex;refine⟨s,t,y,d,o,jh hp ft E (λz=>z),lV hp ft v (λz=>z),Paired.LJ A λ_ _ z=>?_,lV hp ft D (λz=>z),λx=>?_⟩;obtain⟨g,a,B,i,j,e⟩:=z;exact⟨g,a,B,i,jh hp ft j (λz=>z),Paired.LJ e (by rintro _ _ ⟨q,C,G⟩;exact⟨q,C,jh hp ft G λz=>z⟩)⟩;rcases F x with z|⟨l,m,g,i,j,e⟩;exact .inl z;exact .inr ⟨l,m,g,jh hp ft i (λz=>z),j,e⟩
theorem jk.fix {ch:eQ}{c:fA}(h:jk CB CC H ch c):jk CB CC (del H [p]) ch c:=by obtain⟨X,b,bits,i,a,N,C,U,S,F,t,R,⟨Y,K,Q⟩,⟨G,I,s⟩,⟨O,T,y⟩,⟨B,x,L⟩,⟨A,m,Z⟩,D,P,J⟩:=h.ex;refine⟨X,b,bits,i,a,N,C,U,S,jh hp ft F (λz=>z),t.fix hp ft,R.fix hp ft,⟨Y,lV hp ft K (λz=>z),Q⟩,⟨G,lV hp ft I (λz=>z),λk E=>?_⟩,⟨O,lV hp ft T (λz=>z),y⟩,⟨B,lV hp ft x (λz=>z),λw M=>?_⟩,⟨A,lV hp ft m (λz=>z),Z⟩,D,lV hp ft P (λz=>z),J⟩;obtain⟨v,g,q,e,l⟩:=s k E;exact⟨v,g,q,e,jh hp ft l λz=>z⟩;obtain⟨d,g,o,j,e,l⟩:=L w M;exact⟨d,g,o,j,jh hp ft e (λz=>z),l⟩
end
def Ev (H:Hp)(O:eW eQ)(PP:eQ):Prop:=gQ qY pE H PP/\PP∉O/\∀c' u,H PP=some (.tbl #[rawInt pE.line,rawInt pE.col,.ref c'])->H c'=some u->vv u->c'∉O
def Ev.fix (h:Ev H O PP):∃u,H PP=some u/\vv u:=by rcases h.1 with z|⟨a,z,_⟩;exact⟨_,z,trivial⟩;exact⟨_,z,trivial⟩
def Ev.keep (h:Ev H O PP)(k:jB H O H' O'):Ev H' O' PP:=by
 rcases h.1 with z|⟨b,i,g⟩;obtain⟨a,d⟩:=k PP _ z trivial h.2.1;refine⟨.inl a,d,λb u e=>?_⟩;rw[a]at e;have:=Option.some.inj e;injection this with this
 exact absurd (show(0:Nat)=3 from congrArg Array.size this) (by decide);obtain⟨a,d⟩:=k PP _ i trivial h.2.1;obtain⟨j,l⟩:=k b _ g trivial (h.2.2 b _ i g trivial);refine⟨.inr ⟨b,a,j⟩,d,λm u e o _=>?_⟩;rw[a]at e;have:=Option.some.inj e;injection this with this
 injection this with this
 injection this with _ this
 injection this with _ this
 injection this with this _
 injection this with this
 rw[<-this];exact l
def sr.N4 {G:Hp}{c:fA}{fl:eQ}{F:eW Fk}(g:sr H O A H' O')(h:jN CF CT G H c fl A F):jB H O H' O':=λx u hx f n=>by
 have m:x∉A.map (·.2):=λz=>by obtain⟨a,ha,rfl⟩:=aA.mp z;obtain⟨t,ht⟩:=aD.mp ha;obtain⟨fk,_,_,sx,wa,hsa,_⟩:=Paired.Ml h.p ht;rw[hsa]at hx;cases hx;exact f
 obtain⟨z,y⟩:=g x u hx n m;refine⟨z.resolve_right ?_,y⟩;rintro⟨w,_⟩;cases u <;> first|exact w|exact f
def gQ.f {tq:Str}{lp:Pos}(e:fF H H')(h:gQ tq lp H PP):gQ tq lp H' PP:=by rcases h with z|⟨d,b,a⟩;exact .inl (e.no z λy=>y);exact .inr ⟨d,e.no b (λy=>y),e.no a λy=>y⟩
inductive ud (CTw PP:eQ)(vs:eW V)(H:Hp)(Q:VK)(E:XK):Prop
 |mk (sh st:eQ)(es:eW En)(sn:eW Nd)(_:vs=[.ref sh,.ref st])(_:i6 H sh es)(_:∀e∈es,lP e)(_:es.length<64)(_:iu H st sn)(_:∀w,(ju es sn w).length<=100)(_:gQ qY pE H PP)(_:∀c:fA,c.es=es->c.sn=sn->∀L,jm c L->L.length<sizeLine)(_:(es.map fN).Nodup->∀(H':Hp) (t:eQ),fF (del H [PP]) H'->gQ qY pE H' PP->Q (.ref t) H')(_:¬(es.map fN).Nodup->∀H',fH H H'->E (.ref CTw) none H')
section
variable {P:eV}{w:fe}{K:fh}{mg:Str->fc eR}{base:fb}{f:eQ}{fd:eZ}
def CG:fL ["shelf","start","search","stand"] ["shelf","start"] (fE sI):=jD
theorem yr {CL CS CTw:eQ}(F:je K "worked_out" "worked_out" sI f fd)(T:ur K mg CS)(TT:DR K mg CT)(hj:DU P w K mg base CB (nG P w) 1 "Board" ["self","shelf","start"] (vm CB CTw))(eq:DU P w K mg base CC gM 4 "Chart" ["self","board"] (yb CB CC))(hw:DU P w K mg base CS gM 3 "Search" ["self","chart"] (xS CL CS))(h4:DU P w K mg base CF gM 1 "Fork" ["self","part","stand"] (x9 CF))(gk:Mt P w K mg base CS gM 3 "opening" ["self"] (qT CB CC CL CS CT))(hh:Mt P w K mg base CS gM 5 "next_part" ["self","stand"] (zW CB CC CS CT qY pE PP))(ez:Mt P w K mg base CS gM 6 "go_on" ["self"] (Et CB CC CL CS CF CT))(c4:Mt P w K mg base CL gM 2 "told" ["self"] (wK CB CC CL))(e8:Mt P w K mg base CS gM 7 "show_newest" ["self","picked"] (BW CB CC CL CS CF CT))(e3:Mt P w K mg base CC gM 1 "listed" ["self","mask"] (lH CC)):gv P w K mg base (nG P w) 8 f fd ["shelf","start"] (ud CTw PP):=by
 refine F.okX CG λk0 A gw s H vs Q E hr h=>?_;obtain⟨sh,st,es,sn,rfl,g3,ey,b5,e6,c6,hT,ev,q1,q2⟩:=h;have hu:=iD hr;refine⟨_,(fm (fJ (i:=2) CG.nd (qo hw (hr.mono (by decide:4<=7)) rfl gJ (fi (qo eq (hr.mono (by decide:5<=7)) rfl gJ (fi (qo (E:=E) hj (hr.mono (by decide:2<=7)) rfl (qr λ_ _ _ _ z=>z) (fi (pv 0) (fi (pv 1) fq))) fq)) fq))) (fm (fJ (i:=3) CG.nd (rN gk (hr.mono (by decide:3<=7)) gJ (pv 2))) (fm (kz (jQ rfl rfl) (PW.pt (kU (jO (tK (pv 3))) (jV (C1 (fK TT.cl TT.nWa (pv 3)) (λ_=>rfl))))) (fm (gq (jM aR bn bj iy (fK T.cl T.nFo (pv 2)) (fi (qo h4 (hr.mono (by decide:2<=7)) rfl gJ (fi (iY hh (hr.mono (by decide:5<=7)) gJ (pv 2) (fi (pv 3) fq)) (fi (pv 3) fq))) fq))) (fz (fJ (i:=3) CG.nd (rN ez (hr.mono (by decide:6<=7)) gJ (pv 2)))))) (fm (gK (jO (Fm (pv 3))) (fz (gc (ig (fi ja (fi (rN c4 (hr.mono (by decide:2<=7)) gJ (fK T.cl T.nLe (pv 2))) fq))))) gi) (fm (gq (iY e8 hr gJ (pv 2) (fi (fK TT.cl TT.nPi (pv 3)) fq))) (fz (gc (ig (fi (iY e3 (hr.mono (by decide:1<=7)) gJ (fK T.cl T.nCh (pv 2)) (fi (fK TT.cl TT.nPi (pv 3)) fq)) (fi (rN c4 (hr.mono (by decide:2<=7)) gJ (fK T.cl T.nLe (pv 2))) fq)))))))))),?_⟩;refine⟨_,rfl,_,rfl,λb bx hb e7 hi=>?_⟩;have s1:=made (C:=CB) hb e7 hi;have f8:upd (upd H bx (.own b)) b (.ins CB bx []) b=some (.ins CB bx []):=fj;generalize upd (upd H bx (.own b)) b (.ins CB bx [])=H1 at *;have c9:fH H (del H1 [b]):=λa u e=>by rw[fG (by simpa using fC e hb)];exact s1 _ _ e
 refine⟨b,bx,sh,st,es,rfl,f8,i6.same s1 g3,ey,b5,λah H2 s2 hB=>⟨rfl,?_⟩,λah H' sm=>q2 ah H' (c9.trans sm)⟩;have b8:fH H H2:=c9.trans s2;intro o cx eh hd f0;have s3:=made (C:=CC) eh hd f0;have hc:upd (upd H2 cx (.own o)) o (.ins CC cx []) o=some (.ins CC cx []):=fj;generalize upd (upd H2 cx (.own o)) o (.ins CC cx [])=H3 at *;refine⟨o,cx,b,st,es,sn,rfl,hc,hB.same s3,e6.same (b8.trans s3),ah,b5,c6,λc H4 c1 c2 f5 hC=>⟨rfl,?_⟩⟩;subst c1;subst c2;have ew:fH H (del H3 [o]):=λa u e=>by rw[fG (by simpa using fC (b8 _ _ e) eh)];exact s3 _ _ (b8 _ _ e)
 have a6:fF H H4:=ew.toF.trans f5;have c8:gQ qY pE H4 PP:=gQ.f a6 hT;obtain⟨tu,hP4,fP⟩:∃u,H4 PP=some u/\vv u:=by rcases c8 with z|⟨c',z,_⟩;exact⟨_,z,trivial⟩;exact⟨_,z,trivial⟩
 intro se sx ag iv hp;have s5:=made (C:=CS) ag iv hp;have h3:upd (upd H4 sx (.own se)) se (.ins CS sx []) se=some (.ins CS sx []):=fj;generalize upd (upd H4 sx (.own se)) se (.ins CS sx [])=H5 at *;have ed:=s5 _ _ hP4;have h6:del H4 [PP] se=none:=by cases h:del H4 [PP] se with|none=>rfl|some u=>rw[gy _ _ se u h]at ag;cases ag
 have g5:=hC.fix hP4 fP;have g4:del H4 [PP] PP=none:=gR (by simp);have cs:fF (del H [PP]) (del H4 [PP]):=λa u e=>by
  have na:a∉[PP]:=λz=>by rw[gR z]at e;cases e
  rw[fG na]at e ⊢;exact a6 a u e
 refine⟨del H4 [PP],se,sx,o,c,rfl,((gy _ _).trans s5).toF,h6,h3,λG6 H6 N fl O du co h7 fp kc a8 e9 gd bd X a4=>⟨rfl,?_⟩⟩;generalize del H4 [PP]=G at *;have dl:fF H4 H6:=λa u e=>gd a u (by rw[fG (by simpa using fC e ag)];exact s5 _ _ e);have h9:G6 PP=none:=by cases h:G6 PP with|none=>rfl|some u=>rcases h7 PP g4 (by rw[h];exact λz=>nomatch z) with z|z;rw[ed]at z;cases z;rw[z,ag]at hP4;cases hP4
 have f4:PP∉O:=λz=>by have:=fp PP z;rw[ed]at this;cases this
 have ec:Ev H6 O PP:=⟨gQ.f dl c8,f4,λc' u _ e2 f2 z=>X.nf c' z u e2 f2⟩;have cn:c.n<64:=by rw[c.n_eq];exact b5
 have be:Se CB CC CS G6 H6 se o N fl c:=⟨co,⟨sx,bd⟩,g5.f du,cn,c6,ev c rfl rfl⟩;refine⟨_,rfl,se,sx,_,rfl,co.ins bd,rfl,G6,se,o,N,fl,c,O,rfl,be,X.liv,X.off,λG7 H7 s7 d7 L f7 eu c3 c7 ih hm=>?_⟩;have hz:im CL G7 H7 N o c [] O:=X.grow L.gg (λa I=>by obtain⟨u,g⟩:=X.liv a I;exact L.off (X.off a I) g) hm;have S7:SS CB CC CL CS CF CT G7 H7 se o N fl c [] O [] []:=⟨be.grow L.gg L.gh,hz,jm.nil c,⟨L.keep a8 a4 (λz=>z),.nil,L.off e9 a4,(λa I=>nomatch I),bF,bF⟩,a8,λa I=>nomatch I⟩;have f9:=ec.keep L.N4;have f6:G7 PP=none:=by obtain⟨u,g,_⟩:=ec.fix;exact L.off h9 g
 have ft:s7∉O:=λz=>by obtain⟨u,g⟩:=X.liv s7 z;rw[f7]at g;cases g
 refine⟨λm σ H8=>∃(q:Hp) (L8:jz) (S:eW eQ) (U:eW (eQ×eQ)) (F8:eW Fk),fF G q/\SS CB CC CL CS CF CT q H8 se o N fl c L8 S U F8/\Ev H8 S PP/\q PP=none/\((σ=[some (.ref sh),some (.ref st),some (.ref se),some .non]/\m=0/\∃e,L8.getLast?=some e/\e.1=0)\/∃B Y,σ=[some (.ref sh),some (.ref st),some (.ref se),some (.ref B)]/\m=c.mv (c.n+1) F8+1/\gW c L8 F8.reverse Y/\NZ L8/\mH CT q H8 B Y/\q B=none/\B∉S/\B∉U.map (·.2)),⟨c.mv (c.n+1) []+1,G7,[],O,[],[],du.trans L.gg,S7,f9,f6,.inr ⟨s7,d7,rfl,rfl,.nil ih (c7 []),(λe he=>nomatch he),c3,eu,ft,(λz=>nomatch z)⟩⟩,?_⟩;rintro m σ H8 ⟨q,L8,S,U,F8,a0,d,an,bq,b7⟩;obtain⟨ad,a3⟩:=d.se.self;have aa:=d.se.gh.ins a3;obtain⟨f3,kt,ko,k3,kf,jn,k5,kq,kh,dt,el⟩:=id d.led.ex;have g8:∀{M:Hp},fF q M->fF (del H [PP]) M:=λ{M} h=>cs.trans (a0.trans h);rcases b7 with ⟨rfl,rfl,e,js,k4⟩|⟨B,Y,rfl,rfl,v,ek,ap,g1,bf,dn⟩;refine⟨_,rfl,_,rfl,gB (gB ?_)⟩;refine⟨_,rfl,_,rfl,ip ?_⟩;refine⟨_,rfl,se,ad,_,V.ref N,rfl,aa,rfl,N,f3,_,rfl,d.se.gh.ins dt,rfl,q,N,o,c,L8,S,rfl,d.se.gh,d.se.chart,d.led,cn,d.ok.lt,d.se.sm L8 d.ok,λln M s9=>?_⟩;refine⟨pO,λt ht=>?_⟩;have st:=fB ht (.tup [.non,.ref ln]);have sA:=s9.trans st;exact q1 ah _ t (g8 (d.se.gh.trans sA.toF)) (gQ.f sA.toF an.1);obtain⟨bm,wa,as,wo,Z,g2,i0⟩:=id ap;refine⟨_,rfl,_,rfl,ip ?_⟩;refine⟨_,rfl,B,bm,_,V.ref wa,rfl,as,rfl,wa,Z,rfl,.inr ⟨wo,d.se.gh.frz g2⟩,?_⟩;have lw:=Paired.length i0;by_cases hwe:Y.wanted=[];have hg:Z=[]:=bV.mp (by rw[lw,hwe];rfl);rw[hg];refine gB ?_;have c0:=v.sd.fit hwe;refine⟨_,rfl,_,rfl,gB ?_⟩;refine⟨_,rfl,se,ad,_,rfl,aa,rfl,_,rfl,B,bm,_,V.int (Y.picked:Nat),rfl,as,rfl,q,se,o,N,fl,c,L8,S,U,F8,Y,rfl,d,v,c0,λG9 M L9 O9 F9 fr dx R=>?_⟩;have fo:=dx.no as bf dn λz=>z;have b6:=an.keep (dx.N4 d.fk);obtain⟨cy,cp⟩:=R.se.self;have a9:=R.se.gh.ins cp;obtain⟨gx,gb,gn,hn,kx,kk,j1,kl,kp,d1,d2,d3,d4,d5,d6⟩:=R.se.chart.ex;refine⟨_,rfl,se,cy,_,V.ref o,rfl,a9,rfl,o,gx,_,rfl,R.se.gh.ins d1,rfl,_,rfl,B,bm,_,V.int (Y.picked:Nat),rfl,fo,rfl,G9,o,gx,hn,_,c,_,rfl,R.se.gh,R.se.gh.ins d1,rfl,d5,cn,v.sd.pl,λl xs Ha sa hl ks k2 it=>?_⟩;obtain⟨hq,ky,j2,kn,kr,i1,kj,k1,j0,c5,em⟩:=id R.led.ex;have ga:fF G9 Ha:=R.se.gh.trans sa.toF;refine⟨_,rfl,se,cy,_,V.ref N,rfl,sa _ _ a9,rfl,N,hq,_,rfl,ga.ins c5,rfl,G9,N,o,c,L9,O9,rfl,ga,R.se.chart,R.led.same sa,cn,R.ok.lt,R.se.sm L9 R.ok,λln Hb sb=>?_⟩;refine⟨pO,λt ht=>?_⟩;have st:=fB ht (.tup [.ref l,.ref ln]);have sA:=sa.trans (sb.trans st);have gA:fF G9 (upd Hb t (.tup [.ref l,.ref ln])):=R.se.gh.trans sA.toF;exact q1 ah _ t (cs.trans (a0.trans (fr.trans gA))) (gQ.f sA.toF b6.1);have ep:(!Z.isEmpty)=true:=by cases Z with|nil=>exact absurd (bV.mp lw.symm) hwe|cons a b=>rfl
 rw[ep];refine ip ⟨λσ' H'=>∃m',m'<c.mv (c.n+1) F8+1/\_,λ_ _ h=>h,?_⟩;refine⟨_,rfl,se,ad,_,V.ref fl,rfl,aa,rfl,.inl ⟨rfl,_,gf.of d.fk.l⟩,?_⟩;refine⟨_,rfl,se,ad,_,rfl,aa,rfl,_,rfl,q,se,o,N,fl,B,c,L8,Y,rfl,d.se,ap,v.sd,hwe,an.1,bq,λx M hx b1 s9 cv=>?_⟩;refine⟨_,rfl,λj fx da hs g7=>?_⟩;obtain⟨kd,go,gt⟩:=an.fix;have nP:∀{a u},H8 a=some u->¬vv u->a∉[PP]:=λ{a u} h n z=>by rw[af.mp z,go]at h;cases h;exact n gt
 have k9:∀{a u},H8 a=some u->¬vv u->M a=some u:=λ{a u} h n=>s9 _ _ (by rw[fG (nP h n)];exact h);have g9:fF q M:=i8 d.se.gh (O:=[PP]) (λa I=>by rw[af.mp I];exact bq) s9.toF;have a2:im CL q M N o c L8 S:=d.led.grow (fF.refl _) d.led.off λa I=>by obtain⟨u,g⟩:=d.led.liv a I;rw[k9 g (d.led.nf a I u g),g]
 have e5:∃u,M PP=some u:=by rcases cv with z|⟨c',z,_⟩;exact⟨_,z⟩;exact⟨_,z⟩
 have ct:jq q H8 [PP] q M [PP]:=⟨fF.refl _,g9,λa e n=>absurd e n,λa h=>.inl h,s9.toF,λa e=>by
  by_cases z:a=PP;obtain⟨u,g⟩:=e5;rw[z,g]at e;cases e;have:=s9.free e;rw[fG (by simpa using z)]at this
  exact this⟩
 have dc:zu [PP] fl U:=⟨nP d.fk.l λz=>z,λa I=>by
  obtain⟨t,ht⟩:=aD.mp I;obtain⟨fk,_,⟨kw,h1⟩,kv,ka,h2,_⟩:=Paired.Ml d.fk.p ht
  exact⟨nP h1 λz=>z,nP h2 λz=>z⟩⟩
 have D:=d.fk.grow ct dc;have a5:=ap.grow ct (nP as λz=>z);have R:SS CB CC CL CS CF CT q M se o N fl c L8 S U F8:=⟨d.se.grow (fF.refl _) g9,a2,d.ok,D,d.sep⟩;have b6:Ev M S PP:=⟨cv,an.2.1,λc' u _ e2 f2 z=>a2.nf c' z u e2 f2⟩;have sm:=made (C:=CF) da hs g7;have J:=da;have gp:upd (upd M fx (.own j)) j (.ins CF fx []) j=some (.ins CF fx []):=fj;generalize upd (upd M fx (.own j)) j (.ins CF fx [])=Ha at *;have dv:=jq.same (O:=S) g9 sm;have Sa:=R.grow dv (a2.same sm) R.ok;have i3:mH CT q Ha B Y:=a5.grow dv bf;refine⟨j,fx,_,_,rfl,gp,rfl,?_⟩;have eb:fl≠j:=λz=>by have:=D.l;rw[z,J]at this;cases this
 have cd:q j=none:=g9.free J;have bl:(U.map λa=>V.ref a.1).length<sizeLine:=by rw[ae,Paired.length d.fk.p];have:=v.depth;rw[cb]at this;exact fO (by lia)
 refine⟨fl,_,_,rfl,rfl,(by rw[fw eb];exact Sa.fk.l),bl,?_⟩;have b4:∀y,y≠j->y≠fl->upd (upd Ha j (.ins CF fx (uV (.str x) (.ref B) (.int 0)))) fl (.lst ((U.map λa=>V.ref a.1)++[.ref j])) y=Ha y:=λy h1 h2=>by rw[fw h2,fw h1]
 have e4:upd (upd Ha j (.ins CF fx (uV (.str x) (.ref B) (.int 0)))) fl (.lst ((U.map λa=>V.ref a.1)++[.ref j])) j=some (.ins CF fx (uV (.str x) (.ref B) (.int 0))):=by rw[fw (Ne.symm eb),fj]
 have f1:upd (upd Ha j (.ins CF fx (uV (.str x) (.ref B) (.int 0)))) fl (.lst ((U.map λa=>V.ref a.1)++[.ref j])) fl=some (.lst ((U++[(j,B)]).map λa=>V.ref a.1)):=by rw[fj,aC];rfl
 have gb:fF q (upd (upd Ha j (.ins CF fx (uV (.str x) (.ref B) (.int 0)))) fl (.lst ((U.map λa=>V.ref a.1)++[.ref j]))):=(Sa.se.gh.upd cd).upd Sa.fk.offl;generalize upd (upd Ha j (.ins CF fx (uV (.str x) (.ref B) (.int 0)))) fl (.lst ((U.map λa=>V.ref a.1)++[.ref j]))=Hb at *;have al:∀{y C dy fs},M y=some (.ins C dy fs)->y≠j/\y≠fl:=λ{y C dy fs} h=>⟨fC h J,gF h D.l λz=>nomatch z⟩;have kb:∀{y C dy fs},M y=some (.ins C dy fs)->Hb y=some (.ins C dy fs):=λ{y C dy fs} h=>by rw[b4 y (al h).1 (al h).2];exact sm _ _ h
 have a7:j∉S:=λz=>by obtain⟨u,g⟩:=a2.liv j z;rw[J]at g;cases g
 have h0:im CL q Hb N o c L8 S:=Sa.led.grow (fF.refl _) Sa.led.off λy hy=>b4 y (λz=>a7 (z▸hy)) λz=>d.sep.1 (z▸hy);have ej:mH CT q Hb B Y:=by obtain⟨y1,y2,y3,y4⟩:=a5;exact⟨y1,y2,kb y3,y4⟩
 have e0:jN CF CT q Hb c fl (U++[(j,B)]) (F8++[⟨x,Y,none⟩]):=by refine⟨f1,Paired.snoc (Paired.LJ D.p (by rintro _ _ ⟨⟨z1,z2⟩,z3,z4,z5,z6⟩;exact⟨⟨z1,kb z2⟩,z3,z4,kb z5,z6⟩)) ⟨⟨fx,e4⟩,ej⟩,D.offl,λa I=>?_,?_,?_⟩;rcases aE.mp I with z|z;exact D.off a z;rw[af.mp z];exact⟨cd,g1⟩;rw[aC,bU];refine⟨D.nd1,by simp,λa I y hy e=>?_⟩;rw[show y=j by simpa using hy]at e;obtain⟨a',g6,e'⟩:=aA.mp I;obtain⟨t,ht⟩:=aD.mp g6;obtain⟨fk,_,⟨z1,z2⟩,_⟩:=Paired.Ml D.p ht;rw[e',e,J]at z2;cases z2;rw[aC,bU];refine⟨D.nd2,by simp,λa I y hy e=>?_⟩;rw[show y=B by simpa using hy]at e;exact dn (e▸I)
 have Sb:SS CB CC CL CS CF CT q Hb se o N fl c L8 S (U++[(j,B)]) (F8++[⟨x,Y,none⟩]):=⟨d.se.grow (fF.refl _) gb,h0,d.ok,e0,d.sep.1,λa I=>by
  rcases aE.mp I with z|z;exact d.sep.2 a z
  rw[af.mp z];exact⟨a7,bf⟩⟩
 have fv:jB M S Hb S:=λy u hy fy ny=>by
  have n1:y≠j:=fC hy J;have n2:y≠fl:=λz=>by rw[z,D.l]at hy;cases hy;exact fy
  exact⟨by rw[b4 y n1 n2];exact sm _ _ hy,ny⟩
 have a1:=b6.keep fv;have b9:=gb.ins a3;have is:lr c ⟨x,Y,none⟩:=⟨hx,b1,λk hk=>nomatch hk⟩;have ea:F8.length<c.n+1:=by have:=v.depth;rw[cb]at this;lia
 have e1:=c.Nj ⟨x,Y,none⟩ (c.n+1) F8 ea;obtain⟨hv,h5,fu⟩:=a1.fix;have ab:∀{G':Hp},zw Hb S q G'->G' PP=none:=λ{G'} ox=>ox PP hv h5 fu a1.2.1 bq;refine⟨_,rfl,se,ad,_,rfl,b9,rfl,q,se,o,N,fl,c,L8,S,U++[(j,B)],F8,⟨x,Y,none⟩,rfl,Sb,v,is,ek,λG' H' L' O' A' F' s' d' bv b0 b2 S' ds dp cz ho hf h8 i2=>?_,λG' H' L' O' A' F' e' bv b0 b2 S' d9 dd=>?_⟩;have b3:=a1.keep b0;refine⟨c.mv (c.n+1) F'+1,by lia,G',L',O',A',F',a0.trans bv,S',b3,ab b2,.inr ⟨s',d',rfl,rfl,ds,dp,cz,ho,hf,h8⟩⟩;have b3:=a1.keep b0;exact⟨0,Nat.succ_pos _,G',L',O',A',F',a0.trans bv,S',b3,ab b2,.inl ⟨rfl,rfl,e',d9,dd⟩⟩
end
end
section
variable {m:Nat}{nm:eW Str}{x:Str}
noncomputable def u5 (Vs:eW Int):eW Str->eW (eW (fc Int))
 |[]=>[[]]
 |_::ps=>(none::Vs.map some).flatMap λo=>(u5 Vs ps).map λr=>o::r
theorem r9 (Vs:eW Int):∀ps:eW Str,(u5 Vs ps).length<=(Vs.length+1)^ps.length
 |[]=>am _
 |_::ps=>by
  have ih:=r9 Vs ps;have h:=oC (f:=λo:fc Int=>(u5 Vs ps).map λr=>o::r) (n:=(Vs.length+1)^ps.length) (l:=none::Vs.map some) λo _=>by rw[ae];exact ih
  rw[au,ae]at h;rw[au,de,Nat.mul_comm];exact h
def fA.Og (c:fA)(m:Nat)(x:Str):fc Int:=((c.listed m).find? λk=>decide (k.1=x)).map (·.2)
def fA.code (c:fA)(Ps:eW Str)(m:Nat):eW (fc Int):=Ps.map (c.Og m)
def rC {c:fA}(b:c.MV m){k:Pk}(a:c.has m k):c.Og m k.1=some k.2:=by
 unfold fA.Og;cases h:(c.listed m).find? λj=>decide (j.1=k.1) with|none=>have:=eG.mp h k (fA.Mu.mpr a);simp at this|some j=>
  have d:j.1=k.1:=by simpa using List.find?_some h
  have e:=fA.Mu.mp (dr h);rw[b j k e a d];rfl
def pP {c:fA}{v:Int}(h:c.Og m x=some v):c.has m (x,v):=by
 unfold fA.Og at h;obtain⟨j,a,e⟩:=aF.mp h;have d:j.1=x:=by simpa using List.find?_some a
 have b:=fA.Mu.mp (dr a);have:j=(x,v):=Prod.ext d e;rw[<-this];exact b
theorem xM {c:fA}{Vs:eW Int}(hv:∀k∈c.ks,k.2∈Vs)(m:Nat):∀Ps:eW Str,c.code Ps m∈u5 Vs Ps
 |[]=>af.mpr rfl
 |x::ps=>by refine List.mem_flatMap.mpr ⟨c.Og m x,?_,aA.mpr ⟨c.code ps m,xM hv m ps,rfl⟩⟩;cases h:c.Og m x with|none=>exact bH|some v=>exact bt _ (br (hv (x,v) (pP h).1))
def BR {c:fA}{Ps:eW Str}(hp:∀k∈c.ks,k.1∈Ps){m':Nat}(g:m<2^c.n)(b:m'<2^c.n)(l:c.MV m)(j:c.MV m')(h:c.code Ps m=c.code Ps m'):m=m':=by
 have key:∀x∈Ps,c.Og m x=c.Og m' x:=λx p=>by
  obtain⟨i,e⟩:=aD.mp p;have d:(c.code Ps m)[i]?=some (c.Og m x):=by unfold fA.code;rw[ai,e];rfl
  have o:(c.code Ps m')[i]?=some (c.Og m' x):=by unfold fA.code;rw[ai,e];rfl
  rw[h,o]at d;exact(Option.some.inj d).symm
 refine fA.ext g b λk=>⟨λa=>?_,λa=>?_⟩;have:=rC l a;rw[key k.1 (hp k a.1)]at this;exact pP this;have:=rC j a;rw[<-key k.1 (hp k a.1)]at this;exact pP this
def yV {c:fA}{L:jz}{Ps:eW Str}{Vs:eW Int}(d:jm c L)(hp:∀k∈c.ks,k.1∈Ps)(m:∀k∈c.ks,k.2∈Vs):L.length<=(Vs.length+1)^Ps.length:=by
 have p:(L.map λe=>c.code Ps e.1).Nodup:=by refine di.mpr ?_;have l:L.Pairwise λa b=>a.1≠b.1:=di.mp d.nd;exact l.imp_of_mem λh j g z=>g (BR hp (d.lt _ h) (d.lt _ j) (d.one _ h) (d.one _ j) z)
 have i:(L.map λe=>c.code Ps e.1).length<=(u5 Vs Ps).length:=lT p λr o=>by obtain⟨e,_,rfl⟩:=aA.mp o;exact xM m e.1 Ps
 rw[ae]at i;exact bz i (r9 Vs Ps)
inductive Wk (es:eW En)(ps:eW Pk):eW Nd->eW Str->eW Str->Prop
 |done {nm:eW Str}:Wk es ps [] nm nm
 |old {ah:eW Nd} {n:Nd} {nm fin:eW Str}:n.1∈nm->Wk es ps ah nm fin->Wk es ps (ah++[n]) nm fin
 |new {ah:eW Nd} {n:Nd} {nm fin:eW Str} {z:Int}:n.1∉nm->kY ps n.1=some z->Wk es ps (ah++ji es (n.1,z)) (nm++[n.1]) fin->Wk es ps (ah++[n]) nm fin
def EB {ps:eW Pk}{z:Int}(h:kY ps x=some z):(x,z)∈ps:=by unfold kY at h;obtain⟨k,a,rfl⟩:=aF.mp h;have b:=dr a;have e:=List.find?_some a;have d:k.1=x:=ba e;rw[<-d];exact b
noncomputable def kM (ps:eW Pk)(nm:eW Str):Nat:=(ps.filter λk=>decide (k.1∉nm)).length
def Bm (ps:eW Pk)(nm:eW Str):kM ps nm<=ps.length:=bK _ _
theorem qA {x:Str}{nm:eW Str}:∀ps:eW Pk,kM ps (nm++[x])<=kM ps nm
 |[]=>am _
 |k::ps=>by have ih:=qA (x:=x) (nm:=nm) ps;unfold kM at *;rw[aI,aI];by_cases h:k.1∈nm++[x];rw[ax (λz=>absurd h (ba z))];split;rw[au];omega;exact ih;have h':k.1∉nm:=λz=>h (aK _ z);rw[ay (aq h),ay (aq h'),au,au];omega
theorem qB {x:Str}{nm:eW Str}(hx:x∉nm):∀{ps:eW Pk},x∈ps.map (·.1)->kM ps (nm++[x])+1<=kM ps nm
 |[],h=>by simp at h
 |k::ps,h=>by rw[aH,ao]at h;by_cases hk:k.1=x;have m:=qA (x:=x) (nm:=nm) ps;unfold kM at *;rw[aI,aI,ax (λz=>absurd (show k.1∈nm++[x] by rw[hk];simp) (ba z)),ay (by rw[hk];exact aq hx),au];omega;have ih:=qB hx (ps:=ps) (h.resolve_left λz=>hk z.symm);unfold kM at *;rw[aI,aI];by_cases h2:k.1∈nm++[x];rw[ax (λz=>absurd h2 (ba z))];split;rw[au];omega;exact ih;have h':k.1∉nm:=λz=>h2 (aK _ z);rw[ay (aq h2),ay (aq h'),au,au];omega
noncomputable def rS (nm:eW Str):eW (io×V):=nm.map λx=>(Sum.inr x,V.bl true)
theorem pQ (x:Str):∀nm:eW Str,(fW (rS nm) (Sum.inr x:io)).isSome=decide (x∈nm)
 |[]=>by simp[rS,fW]
 |y::nm=>by
  have ih:=pQ x nm;unfold rS at *;rw[aH];by_cases h:y=x;rw[ir (by rw[h]),h];simp;rw[il (λz=>h (Sum.inr.inj z)),ih];have:(x∈y::nm)↔x∈nm:=by rw[ao];exact⟨λz=>z.resolve_left λq=>h q.symm,.inr⟩
  simp only[this]
def C0 (h:x∉nm):gz (rS nm) (Sum.inr x) (V.bl true)=rS (nm++[x]):=by
 have a:fW (rS nm) (Sum.inr x:io)=none:=by have z:=pQ x nm;rw[aw h]at z;cases y:fW (rS nm) (Sum.inr x:io) with|none=>rfl|some u=>rw[y]at z;cases z
 rw[iR _ a];unfold rS;rw[aC];rfl
def rQ {es:eW En}(a:∀e∈es,lP e)(k:Pk):(ji es k).length<=100:=by
 unfold ji;split
 next e h=>exact(a e (dr h)).few
 next=>exact bp _
end
end Lake.FB
namespace Lake
open PySem PySem.Spec PyProof.Rows
def zm {X:Cx}:j6 X (.builtin "len") (λxs H Q=>∃a kvs,xs=[V.ref a]/\H a=some (.dK kvs)/\Q (.int kvs.length) H):=by intro b s σ H xs j Q I r h;obtain⟨a,kvs,rfl,d,q⟩:=h;obtain⟨u,rfl,e⟩:=jA r;cases e;exact Iv I (.inl d) λt i g=>⟨.int kvs.length,H,g,⟨t,rfl⟩,q⟩
end Lake
namespace Lake.FB
open PySem PyProof.Rows
section
def iw (es:eW En)(ps:eW Pk):Prop:=∀k∈ps,k∈es.map fN
end
section
seal lI PS PE PT PA
variable {C:eQ}{K:fh}{P:eV}{fd:eZ}{mg:Str->fc eR}
inductive wO (Wz:eW Pk->Nd->Bool)(vs:eW V)(H:Hp)(Q:VK)(E:XK):Prop
 |mk (v:V)(d:eQ)(n:Nd)(ps:eW Pk)(_:vs=[v,.ref d])(_:gX H v n)(_:H d=some (.dK (lM ps)))(_:∀H',fH H H'->Q (.bl (Wz ps n)) H')
inductive ya (C CN CV:eQ)(vs:eW V)(H:Hp)(Q:VK)(E:XK):Prop
 |mk (b pa st:eQ)(es:eW En)(ps:eW Pk)(_:vs=[.ref b,.ref pa])(_:ia C H b st es)(_:jJ H pa ps)(_:∀k∈ps,gU k.1)(_:ps.length<=900)(_:¬iw es ps->∀H',fH H H'->E (.ref CN) none H')(_:iw es ps->¬(ps.map (·.1)).Nodup->∀H',fH H H'->E (.ref CV) none H')(_:iw es ps->(ps.map (·.1)).Nodup->∀H',fH H H'->Q .non H')
inductive qU (C CT CN CV:eQ)(vs:eW V)(H:Hp)(Q:VK)(E:XK):Prop
 |mk (a st pa:eQ)(es:eW En)(ps:eW Pk)(_:vs=[.ref a,.ref st,.ref pa])(_:i6 H a es)(_:∀e∈es,lP e)(_:es.length<64)(_:jJ H pa ps)(_:∀k∈ps,gU k.1)(_:ps.length<=900)(_:¬(es.map fN).Nodup->∀H',fH H H'->E (.ref CT) none H')(_:(es.map fN).Nodup->¬iw es ps->∀H',fH H H'->E (.ref CN) none H')(_:(es.map fN).Nodup->iw es ps->¬(ps.map (·.1)).Nodup->∀H',fH H H'->E (.ref CV) none H')(_:(es.map fN).Nodup->iw es ps->(ps.map (·.1)).Nodup->∀b H',fH H H'->ia C H' b st es->Q (.ref b) H')
inductive wM (P:eV)(w:fe)(K:fh)(mg:Str->fc eR)(base:fb)(C:eQ)(vs:eW V)(H:Hp)(Q:VK)(E:XK):Prop
 |mk (b pa g st:eQ)(gd:eZ)(Wz:eW Pk->Nd->Bool)(es:eW En)(sn:eW Nd)(ps:eW Pk)(xs:eW V)(_:vs=[.ref b,.ref pa,.ref g])(_:gv P w K mg base gM 2 g gd ["need","picked"] (wO Wz))(_:W.keepIn K (.ref g)=true)(_:jf K gd ["need","picked"] [])(_:ia C H b st es)(_:(es.map fN).Nodup)(_:iu H st sn)(_:H pa=some (.lst xs))(_:ff (fX H) xs ps)(_:iw es ps)(_:(ps.map (·.1)).Nodup)(_:ps.length<=900)(_:∀i j t w' H',D1 (Wz ps) (tE es sn ps) i j->fH H H'->(V.non::xs)[i]?=some w'->H' t=some (.tup [w',.int (j:Nat)])->Q (.ref t) H')(_:wU (Wz ps) (tE es sn ps)->∀H',fH H H'->Q .non H')
section
variable {w:fe}{base:fb}{f:eQ}
def Ef:fL ["need","picked","part"] ["need","picked"] (fE E7):=jD
def Fw (F:je K "clashes_with" "clashes_with" E7 f fd)(G:Gd P w K mg base gM 1 "clashes" ["need","pick"] mi):gv P w K mg base gM 2 f fd ["need","picked"] (wO u6):=by refine F.ok Ef λy A j s H C Q E o h=>?_;obtain⟨v,d,n,g,rfl,⟨l,rfl,b⟩,m,q⟩:=h;have p:=iD o;refine⟨_,(fm (fJ (i:=2) Ef.nd (fZ gs (pv 0) fD)) (fz (gc (tJ (AG (qq p (pv 2) (pv 1))) (tI (iM G o (fi (pv 0) (fi (ig (fi (pv 2) (fi (iP p (pv 1) (pv 2)) fq))) fq)))))))),?_⟩;refine⟨_,rfl,l,_,_,_,rfl,rfl,jg.of b,rfl,?_⟩;refine⟨_,rfl,_,rfl,d,_,rfl,jS.k (k:=Sum.inr n.1) m,_,rfl,?_⟩;have a:=lQ n.1 g;cases e:kY g n.1 with|none=>rw[e]at a;rw[a];refine gB ?_;have:=q H (fH.refl H);rw[show u6 g n=false by unfold u6;rw[e]]at this;exact this|some z=>rw[e]at a;rw[a];refine ip ?_;refine⟨_,rfl,_,rfl,_,rfl,_,rfl,d,.int z,rfl,(by have:=jS.k (k:=Sum.inr n.1) m;rw[a]at this;exact this),pO,λt B=>?_⟩;have x:=fB B (.tup [.str n.1,.int z]);refine⟨.ref l,.ref t,n,(n.1,z),rfl,⟨l,rfl,x _ _ b⟩,⟨t,rfl,fj⟩,?_⟩;have:=q _ x;rw[show u6 g n=oF n (n.1,z) by unfold u6 oF;rw[e];simp]at this;exact this
def EZ:fL ["need","picked"] ["need","picked"] (fE Ah):=jD
def Dk (F:je K "lacks_pick" "lacks_pick" Ah f fd):gv P w K mg base gM 1 f fd ["need","picked"] (wO l7):=by
 refine F.ok EZ λi A e s H o Q E j h=>?_;obtain⟨v,d,n,a,rfl,⟨m,rfl,b⟩,g,q⟩:=h;have l:=iD j;refine⟨_,(fz (gc (AG (mo l (fZ gs (pv 0) fD) (pv 1))))),?_⟩;refine⟨_,rfl,m,_,_,_,rfl,rfl,jg.of b,rfl,_,rfl,d,_,rfl,jS.k (k:=Sum.inr n.1) g,?_⟩;have:=q H (fH.refl H);rw[show l7 a n=!(fW (lM a) (Sum.inr n.1:io)).isSome by rw[lQ];unfold l7;cases kY a n.1 <;> rfl]at this
 exact this
def rH:fL ["board","picks","pick","part","seen","version"] ["board","picks"] (fE sY):=jD
def yI {CN CV:eQ}(F:je K "check_picks" "check_picks" sY f fd)(T:TB K mg C)(mN:mg "NoEntry" = some (.ref CN))(xN:W.excIn K CN [.type "ValueError",.type "Exception",.type "BaseException",.type "object"] "ValueError.__new__" = true)(mV:mg "TwoVersions" = some (.ref CV))(xV:W.excIn K CV [.type "ValueError",.type "Exception",.type "BaseException",.type "object"] "ValueError.__new__" = true):gv P w K mg base (nG P w) 1 f fd ["board","picks"] (ya C CN CV):=by
 refine F.okX rH λag A ab s H vs Q E hr h=>?_;obtain⟨b,B,st,es,d,rfl,hB,⟨xs,R,hp⟩,J,hl,q1,q2,q3⟩:=h;have hu:=iD hr;refine⟨_,(fm (ie (jQ rfl rfl) rfl (gL (pv 1)) (fQ (i:=2) rH.nd) (fz (gK (jO (vQ hu (pv 2) (kA (pv 0) rfl))) (fm (fJ (i:=3) rH.nd (fZ gs (pv 2) fD)) (fz (qj rfl rfl mN xN eA (fi (Ej (pv 3) (by decide +kernel) (by decide +kernel)) fq)))) gi))) (fm (fJ (i:=4) rH.nd jb) (fz (ie (jQ rfl rfl) rfl (gL (pv 1)) (mX rfl (iC (fQ (i:=3) rH.nd) (iC (fQ (i:=5) rH.nd) lC))) (fm (gK (jO (qq hu (pv 3) (pv 4))) (fz (qj rfl rfl mV xV eA (fi (HK (pv 3) (by decide +kernel)) fq))) gi) (fz (jW hu (pv 4) (pv 3) qp rfl))))))),?_⟩;obtain⟨dx,dn,dv,hb,_,t⟩:=hB.start;have lx:xs.length=d.length:=Paired.length hp;refine⟨_,rfl,B,rfl,⟨xs,gf.of R⟩,iE (K:=K) (a:=B) (xs:=xs) (λi σ L=>∃S,σ=[some (.ref b),some (.ref B),S,none,none,none]/\L=H/\∀k∈d.take i,k∈es.map fN) ⟨none,rfl,rfl,by simp⟩ (λi σ L _ ⟨_,_,e,_⟩=>e▸gf.of R) ?_ ?_⟩;rintro i x σ L hi ⟨S,rfl,rfl,g⟩;obtain⟨k,l,I⟩:=Paired.Ml hp hi;obtain⟨kq,rfl,p⟩:=id I;have U:d.take (i+1)=d.take i++[k]:=by rw[aZ,l];rfl
 rcases t _ k I with ⟨Z,z2⟩|⟨Z,e,he,_,a,zs,z2,_⟩;refine⟨_,rfl,_,rfl,b,C,dx,_,_,rfl,hb,T.cl,T.nN,gT _ _,dn,none,rfl,z2,_,rfl,ip ?_⟩;refine⟨_,rfl,kq,_,_,_,rfl,rfl,jg.of p,rfl,?_⟩;refine⟨_,rfl,_,rfl,(J k (ak l)).sh,D8,λO=>?_⟩;exact q1 (λz=>Z (z k (ak l))) _ (fH.refl _);refine⟨_,rfl,_,rfl,b,C,dx,_,_,rfl,hb,T.cl,T.nN,gT _ _,dn,_,rfl,z2,_,rfl,gB ?_⟩;refine⟨_,rfl,rfl,λk' D=>?_⟩;rw[U]at D;rcases aE.mp D with y|y;exact g k' y;rw[af.mp y];exact Z;rintro σ L ⟨S,rfl,rfl,g⟩;rw[lx,aN]at g;refine λsd N=>?_;have s1:=fB N (.dK []);refine⟨_,rfl,B,rfl,⟨xs,gf.of (s1 _ _ R)⟩,iE (K:=K) (a:=B) (xs:=xs) (λi σ v=>∃o3 Y,σ=[some (.ref b),some (.ref B),S,o3,some (.ref sd),Y]/\fH L v/\v sd=some (.dK ((d.take i).map λk=>(Sum.inr k.1,V.bl true)))/\((d.map (·.1)).take i).Nodup) ⟨none,none,rfl,s1,fj,bF⟩ (λi σ v _ ⟨_,_,_,q,_⟩=>gf.of (q _ _ R)) ?_ ?_⟩;rintro i x σ v hi ⟨o3,Y,rfl,q,h3,j⟩;obtain⟨k,l,kq,rfl,p⟩:=Paired.Ml hp hi;have g1:=q _ _ p;have ah:i<d.length:=(aj.mp l).1;have U:d.take (i+1)=d.take i++[k]:=by rw[aZ,l];rfl
 have X:(d.map (·.1))[i]?=some k.1:=by rw[ai,l];rfl
 have G:=qx j X;have m:∀o:eW Pk,(fW (o.map λk=>((Sum.inr k.1:io),V.bl true)) (Sum.inr k.1)).isSome=decide (k.1∈o.map (·.1)):=λo=>by
  rw[<-jr];induction o with|nil=>simp|cons a o ih=>
   rw[aH,ei,ih,aH];by_cases h:a.1=k.1;rw[aq (congrArg Sum.inr h)];simp[h];rw[aw (λz=>h (Sum.inr.inj z)),Bool.false_or];have:(k.1∈a.1::o.map (·.1))↔k.1∈o.map (·.1):=by rw[ao];exact⟨λz=>z.resolve_left λy=>h y.symm,.inr⟩
   simp only[this]
 refine⟨kq,_,rfl,jg.of g1,rfl,_,_,rfl,_,_,rfl,rfl,?_⟩;refine⟨_,rfl,_,rfl,sd,_,rfl,jS.k (k:=Sum.inr k.1) h3,_,rfl,?_⟩;rw[m];refine ke (λc=>?_) (λc=>?_);have M:k.1∈(d.map (·.1)).take i:=by rw[<-cN];exact ba c
 refine⟨_,rfl,_,rfl,(J k (ak l)).sh,D8,λO=>?_⟩;exact q2 g (λz=>G.mp (mO (i+1) z) M) _ q;have aa:¬k.1∈(d.map (·.1)).take i:=λz=>c (by rw[<-cN]at z;exact aq z);have ad:fW ((d.take i).map λk=>((Sum.inr k.1:io),V.bl true)) (Sum.inr k.1)=none:=by have z:=m (d.take i);rw[bE.mpr c]at z;cases y:fW ((d.take i).map λk=>((Sum.inr k.1:io),V.bl true)) (Sum.inr k.1) with|none=>rfl|some u=>rw[y]at z;cases z
 refine⟨_,rfl,_,rfl,sd,_,rfl,nF.k (k:=Sum.inr k.1) h3 (fO (by rw[ae,aW];omega)),?_⟩;refine⟨_,_,rfl,fH.upd q N,?_,G.mpr aa⟩;rw[fj,iR _ ad,U,aC];rfl;rintro σ v ⟨o3,Y,rfl,q,h3,j⟩;rw[lx,cK (by rw[ae];exact am _)]at j;exact q3 g j v q
def Eg:fL ["shelf","start","picks","board"] ["shelf","start","picks"] (fE qe):=jD
def v5 {CT CN CV fI g:eQ}{fdI gd:eZ}(F:je K "checked_board" "checked_board" qe f fd)(T:TB K mg C)(M:Mk K C fI)(GI:gv P w K mg base (nG P w) 1 fI fdI ["self","shelf","start"] (vm C CT))(Z:jf K fdI ["self","shelf","start"] [])(G:gv P w K mg base (nG P w) 1 g gd ["board","picks"] (ya C CN CV))(bG:jf K gd ["board","picks"] [])(kG:W.keepIn K (.ref g)=true)(mG:mg "check_picks" = some (.ref g)):gv P w K mg base (nG P w) 3 f fd ["shelf","start","picks"] (qU C CT CN CV):=by
 refine F.okX Eg λab A I s H vs Q E S h=>?_;obtain⟨a,X,pa,U,ps,rfl,N,L,hl,hp,l,t,q1,q2,q3,q4⟩:=h;have J:iF 1 _:=S.mono (by decide);refine⟨_,(fm (fJ (i:=3) Eg.nd (py (E:=E) M GI S rfl T.mC Z .nil (qr λ_ _ _ _ z=>z) (fi (pv 0) (fi (pv 1) fq)))) (fm (gq (pz (E:=E) G J rfl mG kG bG .nil (qr λ_ _ _ _ z=>z) (fi (pv 3) (fi (pv 2) fq)))) (fz (gc (pv 3))))),?_⟩;refine⟨_,rfl,_,rfl,λx p hx v aa=>?_⟩;have D:fH H (del (upd (upd H p (.own x)) x (.ins C p [])) [x]):=λb o e=>by have R:=fC e hx;rw[fG (by simpa using R),fw R,fw (fC e v)];exact e
 have s3:fH H (upd (upd H p (.own x)) x (.ins C p [])):=D.trans (gy _ _);refine⟨x,p,a,X,U,rfl,fj,i6.same s3 N,L,hl,λd O B Y=>⟨rfl,?_⟩,λd O B=>q1 d O (D.trans B)⟩;have q:fH H O:=D.trans B;refine⟨_,rfl,_,rfl,x,pa,X,U,ps,rfl,Y,jJ.same q hp,l,t,λz m j=>q2 d z m (q.trans j),λz y m j=>q3 d z y m (q.trans j),λz y m j=>?_⟩;exact⟨_,rfl,q4 d z y x m (q.trans j) (Y.same j)⟩
end
section
variable {w:fe}{base:fb}{f:eQ}
def uy:fL ["board","picks","wrong","picked","who","place","need"] ["board","picks","wrong"] (fE vK):=jD
def A0 (F:je K "first_need" "first_need" vK f fd)(T:TB K mg C)(mD:mg "dict" = none)(mE:mg "enumerate" = none):gv P w K mg base gM 3 f fd ["board","picks","wrong"] (wM P w K mg base C):=by
 refine F.ok uy λb1 A a7 s H vs Q E Y h=>?_;obtain⟨b,pa,g,st,gd,Wz,es,sn,p,xs,rfl,FG,kG,bG,hB,bf,⟨a1,a6,a5⟩,hx,hp,ag,bq,hl,q1,q2⟩:=h;have hu:=iD Y;refine⟨_,(fm (fJ (i:=3) uy.nd (iS (qS rfl) rfl mD PyProof.Rows.boot_dict (fi (pv 1) fq))) (fm (ie PassesOwn.never rfl (gL (fU ng (gE (fi ja fq)) (pv 1))) (fQ (i:=4) uy.nd) (fz (ie PassesOwn.never rfl (xk rfl mE (gj hu (kA (pv 0) rfl) (pv 4))) (mX rfl (iC (fQ (i:=5) uy.nd) (iC (fQ (i:=6) uy.nd) lC))) (fz (gK (qi (AI (i:=2) rfl (Or.inl rfl) Y (fi (pv 6) (fi (pv 3) fq)))) (fz (gc (ig (fi (pv 4) (fi (pv 5) fq))))) gi))))) (fz (gc ja)))),?_⟩;have lx:xs.length=p.length:=Paired.length hp;obtain⟨dx,dn,dv,hb,M,S⟩:=hB.start;have bl:(lM p).length<=1000:=by unfold lM;rw[ae];omega
 refine⟨_,rfl,pa,xs,lM p,rfl,hx,qt hp,bl,λd hd=>?_⟩;have bm:jo [] (lM p)=lM p:=ow p [] (by simpa using bq);rw[bm];have s1:=fB hd (.dK (lM p));generalize be:upd H d (.dK (lM p))=H1 at *;have al:H1 d=some (.dK (lM p)):=by rw[<-be];exact fj
 refine⟨D8,λl0 aa=>⟨_,rfl,l0,pa,_,xs,rfl,rfl,fj,?_,?_,λwl a2=>?_⟩⟩;rw[fw (fC (s1 _ _ hx) aa)];exact s1 _ _ hx;rw[ci];show 1+xs.length<=_;omega;have s2:fH H1 (upd (upd H1 l0 (.lst [.non])) wl (.lst ([V.non]++xs))):=(fB aa _).trans (fB a2 _);generalize b0:upd (upd H1 l0 (.lst [.non])) wl (.lst ([V.non]++xs))=H2 at *;have ab:H2 wl=some (.lst (V.non::xs)):=by rw[<-b0];exact fj
 have D:fH H H2:=s1.trans s2;have bx:∀(i:Nat) (x:V),(V.non::xs)[i]?=some x->∃a N v,iO H dn x (some (.ref a))/\H a=some (.lst N)/\ff (gX H) N v/\(tE es sn p)[i]?=some v:=λi x hi=>by
  cases i with
  |zero=>
   have e:V.non=x:=by simpa using hi
   subst e;exact⟨st,a1,sn,M,a6,a5,rfl⟩
  |succ i=>
  have B:xs[i]?=some x:=by simpa using hi
  obtain⟨k,hk,an⟩:=Paired.Ml hp B;rcases S x k an with ⟨z,_⟩|⟨_,e,he,a8,a,N,z1,z2,z3⟩;exact absurd (ag k (ak hk)) z;refine⟨a,N,e.2.2,z1,z2,z3,?_⟩;show(sn::p.map (ji es))[i+1]?=_;rw[List.getElem?_cons_succ,ai,hk];show some (ji es k)=_;rw[<-a8,lZ bf he]
 have ad:∀{G:Hp} {x:V} {o:fc V},fH H G->iO H dn x o->iO G dn x o:=λ{G x o} I z=>by obtain⟨a0,k,e1,e2,e3⟩:=z;refine⟨a0,k,?_,?_,e3⟩;rcases e1 with e1|⟨ob,e1⟩;exact .inl (I _ _ e1);exact .inr ⟨ob,I _ _ e1⟩;cases k with|none=>exact e2|some ks=>obtain⟨q,h1,h2⟩:=e2;exact⟨q,h1,I _ _ h2⟩
 refine⟨wl,rfl,⟨_,gf.of ab⟩,iE (K:=K) (a:=wl) (xs:=V.non::xs) (λi σ G=>∃o4 X U,σ=[some (.ref b),some (.ref pa),some (.ref g),some (.ref d),o4,X,U]/\fH H2 G/\∀L v,L<i->(tE es sn p)[L]?=some v->∀m∈v,Wz p m=false) ⟨none,none,none,rfl,fH.refl _,λL v z=>by omega⟩ (λi σ G _ ⟨_,_,_,_,I,_⟩=>gf.of (I _ _ ab)) ?_ ?_⟩;rintro i x σ G hi ⟨o4,X,U,rfl,I,J⟩;obtain⟨a,N,v,bv,ha,hz,O⟩:=bx i x hi;have R:fH H G:=D.trans I;refine⟨_,rfl,b,C,dx,_,_,rfl,R _ _ hb,T.cl,T.nN,gT _ _,_,rfl,dn,_,rfl,ad R bv,a,N,rfl,R _ _ ha,?_⟩;have lz:N.length=v.length:=Paired.length hz;refine uS (K:=K) (a:=a) (xs:=N) (λj σ H4=>∃X U,σ=[some (.ref b),some (.ref pa),some (.ref g),some (.ref d),some x,X,U]/\fH H2 H4/\∀m∈v.take j,Wz p m=false)
  ⟨X,U,rfl,I,by simp⟩ (λj σ H4 _ ⟨_,_,_,Z,_⟩=>gf.of ((D.trans Z) _ _ ha)) ?_ ?_
 rintro j z σ H4 t hj ⟨ah,a9,rfl,Z,l⟩ ht;obtain⟨n,hn,a4⟩:=Paired.Ml hz hj;have a3:v.take (j+1)=v.take j++[n]:=by rw[aZ,hn];rfl
 have s5:=Z.trans (fB ht (.tup [.int (j:Nat),z]));refine⟨t,_,rfl,jg.of fj,rfl,_,_,rfl,_,_,rfl,rfl,?_⟩;refine⟨g,gd,_,wO Wz,rfl,FG,kG,bG,_,rfl,_,rfl,z,d,n,p,rfl,gX.same (D.trans s5) a4,s5 _ _ (s2 _ _ al),λH6 s6=>⟨_,rfl,?_⟩⟩;refine ke (λhw=>?_) (λhw=>?_);refine⟨_,rfl,_,rfl,pO,λt2 ap=>?_⟩;refine q1 i j t2 x _ ⟨⟨v,n,O,hn,hw,l⟩,J⟩ (((D.trans s5).trans s6).trans (fB ap _)) hi fj;refine⟨_,_,rfl,s5.trans s6,λm hm=>?_⟩;rw[a3]at hm;rcases aE.mp hm with y|y;exact l m y;rw[af.mp y];exact bE.mpr hw;rintro σ H4 ⟨ah,a9,rfl,Z,l⟩;rw[lz,aN]at l;refine⟨_,_,_,rfl,Z,λL as B Y=>?_⟩;by_cases e:L=i;subst e;rw[O]at Y;cases Y;exact l;exact J L as (by omega) Y;rintro σ G ⟨o4,X,U,rfl,I,J⟩;refine q2 (λv bd=>?_) G (D.trans I);obtain⟨L,B⟩:=aD.mp bd;refine J L v ?_ B;have:=(aj.mp B).1;show L<(V.non::xs).length;unfold tE at this;rw[au,ae]at this;rw[au];omega
end
section
variable {w:fe}{base:fb}{f:eQ}
def JP:fL ["shelf","start","picks"] ["shelf","start","picks"] (fE sX):=jD
def JO:fL ["shelf","start","picks"] ["shelf","start","picks"] (fE vL):=jD
end
inductive B4 (C:eQ)(vs:eW V)(H:Hp)(Q:VK)(E:XK):Prop
 |mk (b pa st:eQ)(es:eW En)(sn:eW Nd)(ps:eW Pk)(_:vs=[.ref b,.ref pa])(_:ia C H b st es)(_:(es.map fN).Nodup)(_:∀e∈es,lP e)(_:iu H st sn)(_:sn.length<=900)(_:jJ H pa ps)(_:iw es ps)(_:(ps.map (·.1)).Nodup)(_:ps.length<=900)(_:wU (l7 ps) (tE es sn ps))(_:∀d (fin:eW Str) H',fH H H'->Wk es ps sn [] fin->H' d=some (.dK (rS fin))->Q (.ref d) H')
inductive Kn (H0:Hp)(es:eW En)(sn:eW Nd)(ps:eW Pk)(b pa pd nd ah:eQ)(m:Nat)(σ:Lake.St)(H:Hp):Prop
 |mk (zs an nm o5:_)(_:σ=[some (.ref b),some (.ref pa),some (.ref pd),some (.ref nd),some (.ref ah),o5])(_:H nd=some (.dK (rS nm)))(_:H ah=some (.lst zs))(_:ff (gX H0) zs an)(_:∀n∈an,l7 ps n=false)(_:∀fin,Wk es ps an nm fin->Wk es ps sn [] fin)(_:nm.length+kM ps nm<=ps.length)(_:101*kM ps nm+an.length=m)
structure KU (H0:Hp)(es:eW En)(sn:eW Nd)(ps:eW Pk)(b pa pd nd ah:eQ)(m:Nat)(σ:Lake.St)(H:Hp):Prop where
 ex:Kn H0 es sn ps b pa pd nd ah m σ H
 sm:fH H0 H
 le:m<=100000
section
variable {w:fe}{base:fb}{f:eQ}
def ux:fL ["board","picks","picked","named","ahead","part"] ["board","picks"] (fE vH):=jD
def AX (F:je K "named_parts" "named_parts" vH f fd)(T:TB K mg C)(mD:mg "dict" = none):gv P w K mg base gM 1 f fd ["board","picks"] (B4 C):=by
 refine F.ok ux λdp A cv s H vs Q E hr h=>?_;obtain⟨b,pa,st,es,sn,ps,rfl,hB,cz,b6,⟨Z,b7,a6⟩,c7,⟨xs,hx,hp⟩,b3,c0,dl,a5,q⟩:=h;have hu:=iD hr;refine⟨_,(fm (fJ (i:=2) ux.nd (iS (qS rfl) rfl mD PyProof.Rows.boot_dict (fi (pv 1) fq))) (fm (fJ (i:=3) ux.nd jb) (fm (fJ (i:=4) ux.nd (iS jI rfl T.list eN (fi (gj hu (kA (pv 0) rfl) ja) fq))) (fm (kz PassesOwn.never (i9 (pv 4) (λ_=>rfl)) (fm (fJ (i:=5) ux.nd (fZ gs (AJ aR PySem.F.slot_list_pop PySem.F.type_list_pop Bg (pv 4)) fD)) (fz (gK (jO (mo hu (pv 5) (pv 3))) (fm (jW hu (pv 3) (pv 5) qp rfl) (fz (gq (jM aR PySem.F.slot_list_extend PySem.F.type_list_extend rR (pv 4) (fi (gj hu (kA (pv 0) rfl) (ig (fi (pv 5) (fi (iP hu (pv 2) (pv 5)) fq)))) fq))))) gi)))) (fz (gc (pv 3))))))),?_⟩;obtain⟨dx,dn,dv,hb,X,ad⟩:=hB.start;have ch:(lM ps).length<=1000:=by unfold lM;rw[ae];omega
 refine⟨_,rfl,pa,xs,lM ps,rfl,hx,qt hp,ch,λg a9=>?_⟩;have co:jo [] (lM ps)=lM ps:=ow ps [] (by simpa using c0);rw[co];have s1:=fB a9 (.dK (lM ps));refine λnd p=>?_;have s2:=s1.trans (fB p (.dK []));have a4:upd (upd H g (.dK (lM ps))) nd (.dK []) g=some (.dK (lM ps)):=(fB p _) _ _ fj;have a8:upd (upd H g (.dK (lM ps))) nd (.dK []) nd=some (.dK []):=fj;have bf:H nd=none:=s1.free p;generalize dc:upd (upd H g (.dK (lM ps))) nd (.dK [])=H2 at *;have a7:∀{L:Hp} {x:V} {o:fc V},fH H L->iO H dn x o->iO L dn x o:=λ{L x o} s3 z=>by obtain⟨ag,k,I,e2,e3⟩:=z;refine⟨ag,k,?_,?_,e3⟩;rcases I with I|⟨ob,I⟩;exact .inl (s3 _ _ I);exact .inr ⟨ob,s3 _ _ I⟩;cases k with|none=>exact e2|some ks=>obtain⟨q,h1,h2⟩:=e2;exact⟨q,h1,s3 _ _ h2⟩
 refine⟨_,rfl,b,C,dx,_,_,rfl,s2 _ _ hb,T.cl,T.nN,gT _ _,dn,_,rfl,a7 s2 X,st,Z,rfl,.inl (gf.of (s2 _ _ b7)),λD be=>?_⟩;have s3:=fB be (.lst Z);have bl:H D=none:=s2.free be;have dd:=Paired.length a6;have b0:=Bm ps [];refine⟨λm σ H'=>KU H es sn ps b pa g nd D m σ H'/\H' g=some (.dK (lM ps)),⟨101*kM ps []+sn.length,⟨⟨Z,sn,[],none,rfl,s3 _ _ a8,fj,a6,λn hn=>a5 sn (by simp[tE]) n hn,λO h=>h,by rw[cH,Nat.zero_add];exact b0,rfl⟩,s2.trans s3,by omega⟩,s3 _ _ a4⟩,?_⟩;rintro m σ L ⟨⟨⟨zs,an,j,o5,rfl,a1,G,aa,N,hW,cy,hm⟩,sm,da⟩,bm⟩;refine⟨_,rfl,_,.inl ⟨zs,gf.of G,rfl⟩,?_⟩;by_cases hnil:an=[];subst hnil;cases aa;exact gB ⟨_,rfl,q nd j L sm (hW j .done) a1⟩;obtain⟨an',n,rfl⟩:∃an' n,an=an'++[n]:=⟨an.dropLast,an.getLast hnil,(List.dropLast_concat_getLast hnil).symm⟩;obtain⟨d,v,rfl,hz',hv⟩:∃d v,zs=d++[v]/\ff (gX H) d an'/\gX H v n:=by
  clear N hW hm G hnil;induction an' generalizing zs with
  |nil=>cases aa with|cons h t=>cases t;exact⟨[],_,rfl,.nil,h⟩
  |cons a an' ih=>cases aa with|cons h t=>obtain⟨d,v,rfl,h1,h2⟩:=ih _ t;exact⟨_::d,v,rfl,.cons h h1,h2⟩
 have bx:(d++[v]).isEmpty=false:=by simp
 rw[bx];refine ip ⟨λσ' H'=>∃m',m'<m/\(KU H es sn ps b pa g nd D m' σ' H'/\H' g=some (.dK (lM ps))),λ_ _ z=>z,?_⟩;obtain⟨U,rfl,c2⟩:=id hv;have a0:(d++[V.ref U])[(d++[V.ref U]).length-1]?=some (V.ref U):=by simp
 have c3:an'.length+1+101*kM ps j=m:=by rw[aB,aM]at hm;omega
 refine⟨_,rfl,.inl ⟨rfl,_,gf.of G⟩,D,_,_,rfl,rfl,G,a0,?_⟩;have s4:fH H (upd L D (.lst (d++[V.ref U]).dropLast)):=fH.upd sm bl;have ab:upd L D (.lst (d++[V.ref U]).dropLast) D=some (.lst d):=by rw[fj,List.dropLast_concat]
 have R:upd L D (.lst (d++[V.ref U]).dropLast) nd=some (.dK (rS j)):=by rw[fw (gF a1 G (by intro z;cases z))];exact a1
 have a3:upd L D (.lst (d++[V.ref U]).dropLast) g=some (.dK (lM ps)):=by rw[fw (gF bm G (by intro z;cases z))];exact bm
 generalize dy:upd L D (.lst (d++[V.ref U]).dropLast)=H4 at *;refine⟨U,_,_,_,rfl,rfl,jg.of (s4 _ _ c2),rfl,?_⟩;have J:l7 ps n=false:=N n (by simp);refine⟨_,rfl,_,rfl,nd,_,rfl,jS.k (k:=Sum.inr n.1) R,_,rfl,?_⟩;rw[pQ];by_cases hin:n.1∈j;rw[aq hin];refine gB ⟨101*kM ps j+an'.length,by omega,⟨⟨d,an',j,_,rfl,R,ab,hz',λx hx=>N x (by simp[hx]),λO h=>hW O (.old hin h),cy,rfl⟩,s4,by omega⟩,a3⟩;rw[aw hin];refine ip ?_;obtain⟨z,hvz⟩:∃z,kY ps n.1=some z:=by unfold l7 at J;cases e:kY ps n.1 with|none=>rw[e]at J;cases J|some z=>exact⟨z,rfl⟩
 have B:=EB hvz;have du:=qB hin (ps:=ps) (aA.mpr ⟨_,B,rfl⟩);have c8:(rS j).length<=900:=by unfold rS;rw[ae];omega
 refine⟨_,rfl,_,rfl,nd,_,rfl,nF.k (k:=Sum.inr n.1) R (fO (by omega)),?_⟩;rw[C0 hin];have s5:fH H (upd H4 nd (.dK (rS (j++[n.1])))):=fH.upd s4 bf;have M:upd H4 nd (.dK (rS (j++[n.1]))) D=some (.lst d):=by rw[fw (gF ab R (by intro z;cases z))];exact ab
 have cx:g≠nd:=by intro e;subst e;have:H g=none:=a9;have h0:upd H g (.dK (lM ps)) g=none:=p;rw[fj]at h0;cases h0
 have al:upd H4 nd (.dK (rS (j++[n.1]))) g=some (.dK (lM ps)):=by rw[fw cx];exact a3
 have bd:upd H4 nd (.dK (rS (j++[n.1]))) nd=some (.dK (rS (j++[n.1]))):=fj;generalize dt:upd H4 nd (.dK (rS (j++[n.1])))=H5 at *;have cp:jS H5 g (.str n.1) (some (.int z)):=by have:=jS.k (k:=Sum.inr n.1) al;rw[lQ,hvz]at this;exact this
 refine⟨_,rfl,.inl ⟨rfl,_,gf.of M⟩,_,rfl,b,C,dx,_,_,rfl,s5 _ _ hb,T.cl,T.nN,gT _ _,_,rfl,_,rfl,_,rfl,g,_,rfl,cp,pO,λkt b9=>?_⟩;have Y:=fB b9 (.tup [.str n.1,.int z]);have b1:∃a l,iO (upd H5 kt (.tup [.str n.1,.int z])) dn (.ref kt) (some (.ref a))/\H a=some (.lst l)/\ff (gX H) l (ji es (n.1,z)):=by
  have c5:=hB.same (s5.trans Y);obtain⟨x1,hx1,hkx⟩:∃v1,fX H v1 (n.1,z)/\v1∈xs:=by
   obtain⟨i,hi⟩:=aD.mp B;have lx:=Paired.length hp;have bv:i<xs.length:=by rw[lx];exact(aj.mp hi).1
   obtain⟨k',a2,b5⟩:=Paired.Ml hp (ar bv);rw[hi]at a2;cases a2;exact⟨_,b5,List.getElem_mem bv⟩
  rcases ad x1 (n.1,z) hx1 with ⟨z1,_⟩|⟨_,e,he,cd,a,l,z1,z2,z3⟩;exact absurd (b3 _ B) z1;obtain⟨ag,k,I,e2,e3⟩:=z1;obtain⟨q1,rfl,ct⟩:=hx1;have hk:k=some (jR (n.1,z)):=by
   cases k with|none=>cases e2|some ks=>
    obtain⟨b2,cn,S⟩:=e2;cases cn;rw[ct]at S;have:[V.str n.1,V.int z]=ks.map kV:=by injection S with S;injection S
    have:(jR (n.1,z)).map kV=ks.map kV:=this;rw[xB this]
  subst hk;refine⟨a,l,⟨ag,some (jR (n.1,z)),?_,⟨kt,rfl,fj⟩,e3⟩,z2,by rw[<-cd,lZ cz he];exact z3⟩;rcases I with I|⟨ob,I⟩;exact .inl ((s5.trans Y) _ _ I);exact .inr ⟨ob,(s5.trans Y) _ _ I⟩
 obtain⟨a,l,c1,ha,bq⟩:=b1;have c6:=Paired.length hz';have c9:=Paired.length bq;have c4:=rQ b6 (n.1,z);refine⟨dn,_,rfl,c1,D,a,d,l,rfl,rfl,Y _ _ M,(s5.trans Y) _ _ ha,by rw[ci];omega,?_⟩;have b8:nd≠D:=gF bd M (by intro z;cases z);have b4:g≠D:=gF al M (by intro z;cases z);refine⟨101*kM ps (j++[n.1])+(an'++ji es (n.1,z)).length,by rw[aB];omega,⟨⟨d++l,an'++ji es (n.1,z),j++[n.1],_,rfl,by rw[fw b8];exact Y _ _ bd,fj,?_,λx hx=>?_,λO h=>hW O (.new hin hvz h),by rw[aB,aM];omega,rfl⟩,fH.upd (s5.trans Y) bl,by rw[aB];omega⟩,by rw[fw b4];exact Y _ _ al⟩;have ap:∀{as bs:eW V} {cs ds:eW Nd},ff (gX H) as cs->ff (gX H) bs ds->ff (gX H) (as++bs) (cs++ds):=by intro as bs cs ds r1 r2;induction r1 with|nil=>exact r2|cons h t ih=>exact .cons h ih
 exact ap hz' bq;rcases aE.mp hx with y|y;exact N x (by simp[y]);exact a5 _ (by unfold tE;exact bt _ (aA.mpr ⟨_,B,rfl⟩)) x y
end
section
variable {w:fe}{base:fb}{f:eQ}
inductive Gf (CT:eQ)(vs:eW V)(H:Hp)(Q:VK)(E:XK):Prop
 |mk (a:eQ)(v:V)(es:eW En)(n:Nd)(_:vs=[.ref a,v])(_:i6 H a es)(_:gX H v n)(_:∀e∈es,lP e)(_:es.length<64)(_:(es.map fN).Nodup->∀p (ms:eW Int) H',fH H H'->H' p=some (.lst (ms.map V.int))->ms.Perm (jc es n)->ms.Pairwise (· ≥ ·)->Q (.ref p) H')(_:¬(es.map fN).Nodup->∀H',fH H H'->E (.ref CT) none H')
def JM:fL ["shelf","need"] ["shelf","need"] (fE E4):=jD
def Fu {CT fI fM:eQ}{fdI fdM:eZ}(F:je K "fitting" "fitting" E4 f fd)(T:TB K mg C)(M:Mk K C fI)(GI:gv P w K mg base (nG P w) 1 fI fdI ["self","shelf","start"] (vm C CT))(bI:jf K fdI ["self","shelf","start"] [])(GM:gv P w K mg base gM 2 fM fdM ["self","need"] (mh C))(bM:jf K fdM ["self","need"] [])(mM:wV K C "meeting" fM):gv P w K mg base (nG P w) 3 f fd ["shelf","need"] (Gf CT):=by
 refine F.okX JM λad A t s H vs Q E S h=>?_;obtain⟨a,v,U,n,rfl,I,hn,G,R,q1,q2⟩:=h;refine⟨_,fz (gc (xm (py (E:=E) M GI S rfl T.mC bI .nil (qr λ_ _ _ _ z=>z) (fi (pv 0) (fi (gE fq) fq))) T.cl mM GM S bM .nil gJ (fi (pv 1) fq))),?_⟩;refine⟨_,rfl,oM,λD p x g hx i ab=>?_⟩;have B:=fB p (.lst []);generalize ag:upd H D (.lst [])=H1 at *;have q:fH H1 (del (upd (upd H1 g (.own x)) x (.ins C g [])) [x]):=λb o e=>by have O:=fC e hx;rw[fG (by simpa using O),fw O,fw (fC e i)];exact e
 have s3:fH H1 (upd (upd H1 g (.own x)) x (.ins C g [])):=q.trans (gy _ _);refine⟨x,g,a,D,U,rfl,fj,i6.same (B.trans s3) I,G,R,λd L m X=>⟨rfl,?_⟩,λd L m=>q2 d L ((B.trans q).trans m)⟩;have N:fH H L:=(B.trans q).trans m;obtain⟨J,dn,dv,Y,vk,b1,b2,b3,b4,b5⟩:=id X.ex;refine⟨x,J,_,rfl,b1,nR _ _ (by decide +kernel) (by decide +kernel),_,rfl,x,D,U,v,n,rfl,X,gX.same N hn,R,λl Z H2 s5 aa h2 y j=>?_⟩;exact q1 d l Z H2 (N.trans s5) h2 y j
end
end
section
end
section
seal lI PS PE PT PA
inductive D3 where
 |done|twice|no|two
def D3.w:D3->Str
 |.done=>"done"
 |.twice=>"twice"
 |.no=>"none"
 |.two=>"two"
def D3.c (CT CN CV:eQ):D3->eQ
 |.no=>CN
 |.two=>CV
 |_=>CT
def oK (es:eW En)(ps:eW Pk):D3->Prop
 |.twice=>¬(es.map fN).Nodup
 |.no=>(es.map fN).Nodup/\¬iw es ps
 |.two=>(es.map fN).Nodup/\iw es ps/\¬(ps.map (·.1)).Nodup
 |.done=>(es.map fN).Nodup/\iw es ps/\(ps.map (·.1)).Nodup
inductive GJ (CT CN CV:eQ)(vs:eW V)(H:Hp)(Q:VK)(E:XK):Prop
 |mk (a pa st:eQ)(es:eW En)(sn:eW Nd)(ps:eW Pk)(_:vs=[.ref a,.ref st,.ref pa])(_:i6 H a es)(_:∀e∈es,lP e)(_:es.length<64)(_:iu H st sn)(_:sn.length<=900)(_:jJ H pa ps)(_:∀k∈ps,gU k.1)(_:ps.length<=900)(_:oK es ps .done->∀v H',fH H H'->Q v H')(_:∀d,d≠.done->oK es ps d->∀H',fH H H'->E (.ref (d.c CT CN CV)) none H')
section
variable {P:eV}{w:fe}{K:fh}{mg:Str->fc eR}{base:fb}{f:eQ}{fd:eZ}{C CT CN CV:eQ}
def Em (z:Bool)(F:je K (cond z "first_clash" "first_open") (cond z "first_clash" "first_open") (cond z sX vL) f fd)(g1:Gd P w K mg base gM 3 "first_need" ["board","picks","wrong"] (wM P w K mg base C))(g2:Gd P w K mg base (nG P w) 3 "checked_board" ["shelf","start","picks"] (qU C CT CN CV))(g3:Gd P w K mg base gM 2 (cond z "clashes_with" "lacks_pick") ["need","picked"] (wO (cond z u6 l7))):gv P w K mg base (nG P w) 4 f fd ["shelf","start","picks"] (GJ CT CN CV):=by
 obtain⟨y2,ad,G2,b2,k2,Y⟩:=g2.ex;obtain⟨N,D,G3,b3,k3,Z⟩:=g3.ex;cases z;all_goals
  refine F.okX (by first|exact JP|exact JO) λab A B s H vs Q E O h=>?_;obtain⟨a,X,U,S,sn,M,rfl,J,G,hl,o,aa,⟨R,T,hp⟩,L,d,q1,q2⟩:=h;refine⟨_,fz (gc (iM g1 O (fi (pz (E:=E) G2 O rfl Y k2 b2 .nil (qr λ_ _ _ _ z=>z) (fi (pv 0) (fi (pv 1) (fi (pv 2) fq)))) (fi (pv 2) (fi (mn (v:=.ref N) rfl Z rfl) fq))))),?_⟩;refine⟨_,rfl,_,rfl,_,rfl,a,U,X,S,M,rfl,J,G,hl,⟨R,T,hp⟩,L,d,q2 .twice (λz=>nomatch z),λx y=>q2 .no (λz=>nomatch z) ⟨x,y⟩,λx y z=>q2 .two (λz=>nomatch z) ⟨x,y,z⟩,λl e m b H' g hB=>?_⟩;have q:=q1 ⟨l,e,m⟩;exact⟨_,rfl,b,X,N,U,D,_,S,sn,M,R,rfl,G3,k3,b3,hB,l,iu.same g o,g _ _ T,Paired.LJ hp λ_ _=>fX.same g,e,m,d,λi j t w' I hf p _ _=>q _ I (g.trans p),λhf I p=>q _ I (g.trans p)⟩
def z8:fL ["shelf","start","picks","board","wrong"] ["shelf","start","picks"] (fE Al):=jD
def AZ (F:je K "fits" "fits" Al f fd)(mL:mg "len" = none)(g1:Gd P w K mg base gM 3 "first_need" ["board","picks","wrong"] (wM P w K mg base C))(g2:Gd P w K mg base (nG P w) 3 "checked_board" ["shelf","start","picks"] (qU C CT CN CV))(G:Gd P w K mg base gM 2 "clashes_with" ["need","picked"] (wO u6))(D:Gd P w K mg base gM 2 "lacks_pick" ["need","picked"] (wO l7))(g5:Gd P w K mg base gM 1 "named_parts" ["board","picks"] (B4 C)):gv P w K mg base (nG P w) 4 f fd ["shelf","start","picks"] (GJ CT CN CV):=by
 refine F.okX z8 λa0 A al s H vs Q E hr h=>?_;obtain⟨a,N,S,X,sn,M,rfl,ap,T,hl,L,ah,⟨xs,R,hp⟩,as,m,q1,q2⟩:=h;obtain⟨g2,a1,G2,b2,k2,m2⟩:=g2.ex;obtain⟨G,an,G3,b3,k3,m3⟩:=G.ex;obtain⟨D,ad,G4,b4,k4,m4⟩:=D.ex;have ab:iF 1 _:=hr.mono (by decide);refine⟨_,(fm (fJ (i:=3) z8.nd (pz (E:=E) G2 hr rfl m2 k2 b2 .nil (qr λ_ _ _ _ z=>z) (fi (pv 0) (fi (pv 1) (fi (pv 2) fq))))) (fm (ie (jQ rfl rfl) rfl (Fg (ig (fi (mn (v:=.ref G) rfl m3 rfl) (fi (mn (v:=.ref D) rfl m4 rfl) fq)))) (fQ (i:=4) z8.nd) (fz (gK (jO (tK (iM g1 hr (fi (pv 3) (fi (pv 2) (fi (pv 4) fq)))))) (fz (gc qp)) gi))) (fz (gc (kJ iN (gN zm rfl mL bP (fi (iM g5 ab (fi (pv 3) (fi (pv 2) fq))) fq)) (gN gO rfl mL bP (fi (pv 2) fq)) (gr _)))))),?_⟩;refine⟨_,rfl,_,rfl,_,rfl,a,S,N,X,M,rfl,ap,T,hl,⟨xs,R,hp⟩,as,m,q2 .twice (λz=>nomatch z),λx y=>q2 .no (λz=>nomatch z) ⟨x,y⟩,λx y z=>q2 .two (λz=>nomatch z) ⟨x,y,z⟩,λp o B b H1 s1 hB=>?_⟩;have q:=q1 ⟨p,o,B⟩;refine⟨pO,λtt aa=>?_⟩;have Z:=fB aa (.tup [.ref G,.ref D]);refine⟨tt,rfl,⟨_,jg.of fj⟩,DG (K:=K) (a:=tt) (xs:=[.ref G,.ref D]) (λi σ Y=>∃o4,σ=[some (.ref a),some (.ref S),some (.ref N),some (.ref b),o4]/\fH (upd H1 tt (.tup [.ref G,.ref D])) Y/\(2<=i->wU (l7 M) (tE X sn M))) ⟨none,rfl,fH.refl _,λz=>by omega⟩ (λi σ Y _ ⟨_,_,s,_⟩=>jg.of (s _ _ fj)) ?_ ?_⟩;rintro i x σ Y I ⟨o4,rfl,J,hg⟩;have g:=(s1.trans Z).trans J;have U:=hB.same (Z.trans J)
 match i,I with
 |0,I=>
  have e:V.ref G=x:=by simpa using I
  subst e;refine⟨_,rfl,_,rfl,_,rfl,b,N,G,S,an,u6,X,sn,M,xs,rfl,G3,k3,b3,U,p,iu.same g L,g _ _ R,Paired.LJ hp λ_ _=>fX.same g,o,B,m,λi' j t w' O hf l hw ht=>?_,λhN O l=>?_⟩;exact⟨_,rfl,ip (q _ O (g.trans l))⟩;exact⟨_,rfl,gB ⟨_,rfl,J.trans l,λz=>by omega⟩⟩
 |1,I=>
  have e:V.ref D=x:=by simpa using I
  subst e;refine⟨_,rfl,_,rfl,_,rfl,b,N,D,S,ad,l7,X,sn,M,xs,rfl,G4,k4,b4,U,p,iu.same g L,g _ _ R,Paired.LJ hp λ_ _=>fX.same g,o,B,m,λi' j t w' O hf l hw ht=>?_,λhN O l=>?_⟩;exact⟨_,rfl,ip (q _ O (g.trans l))⟩;exact⟨_,rfl,gB ⟨_,rfl,J.trans l,λ_=>hN⟩⟩
 |i+2,I=>simp at I
 rintro σ Y ⟨o4,rfl,J,hg⟩;have g:=(s1.trans Z).trans J;refine⟨_,rfl,_,rfl,b,N,S,X,sn,M,rfl,hB.same (Z.trans J),p,T,iu.same g L,ah,jJ.same g ⟨xs,R,hp⟩,o,B,m,hg (by show 2<=2;decide),λd ag H3 l hw hd=>?_⟩;exact⟨d,rS ag,rfl,hd,_,rfl,N,xs,rfl,.inl (gf.of ((g.trans l) _ _ R)),rfl,q _ H3 (g.trans l)⟩
inductive Ca (CT:eQ)(vs:eW V)(H:Hp)(Q:VK)(E:XK):Prop
 |mk (a st la:eQ)(es:eW En)(_:vs=[.ref a,.ref st,.ref la])(_:i6 H a es)(_:∀e∈es,lP e)(_:es.length<64)(_:H la=some (.lst []))(_:(es.map fN).Nodup->∀H',fH H H'->Q .non H')(_:¬(es.map fN).Nodup->∀H',fH H H'->E (.ref CT) none H')
def Aa:fL ["shelf","start","lines","board","place"] ["shelf","start","lines"] (fE E8):=jD
def Dp {fI:eQ}{fdI:eZ}(F:je K "first_bad" "first_bad" E8 f fd)(T:TB K mg C)(R:mg "len" = none)(J:mg "range" = none)(M:Mk K C fI)(N:gv P w K mg base (nG P w) 1 fI fdI ["self","shelf","start"] (vm C CT))(L:jf K fdI ["self","shelf","start"] []):gv P w K mg base (nG P w) 3 f fd ["shelf","start","lines"] (Ca CT):=by
 refine F.okX Aa λS A p s H vs Q E X h=>?_;obtain⟨a,st,Z,Y,rfl,y,t,U,q,q1,q2⟩:=h;refine⟨_,(fm (fJ (i:=3) Aa.nd (py (E:=E) M N X rfl T.mC L .nil (qr λ_ _ _ _ z=>z) (fi (pv 0) (fi (pv 1) fq)))) (fm (ie (jQ rfl rfl) rfl (jP rfl J (fi (gN gO rfl R bP (fi (pv 2) fq)) fq)) (fQ (i:=4) Aa.nd) oh) (fz (gc ja)))),?_⟩;refine⟨_,rfl,_,rfl,λx B hx g O=>?_⟩;have m:fH H (del (upd (upd H B (.own x)) x (.ins C B [])) [x]):=λb o e=>by have G:=fC e hx;rw[fG (by simpa using G),fw G,fw (fC e g)];exact e
 refine⟨x,B,a,st,Y,rfl,fj,i6.same (m.trans (gy _ _)) y,t,U,λd I l hB=>⟨rfl,?_⟩,λd H' l=>q2 d H' (m.trans l)⟩;have D:fH H I:=m.trans l;refine⟨_,rfl,Z,_,rfl,.inl (gf.of (D _ _ q)),_,rfl,by decide,by decide,?_⟩;refine my (λj σ v=>fH I v) (fH.refl _) (λj σ v hj=>absurd hj (cq _)) λσ v s5=>q1 d _ (D.trans s5)
end
end
end Lake.FB
namespace Lake
open PySem PySem.Spec PyProof.Rows
variable {X:Cx}{pos:Pos}
section
variable {K:fh}{x D:eQ}{ox:Obj}{prog:eV}{w:fe}{A:eP}{E:eR->eU->Prop}{h:fb}{g:Array GenState}{d:Drawn}{t:Nat}{os:OsState}
theorem za {Q:fc eR->eU->Prop}(X:K.In h)(I:W.InstAt h x ox D none)(a:W.findIn K (.ref D) "__getattribute__" = some (some (.builtin "BaseException.__getattribute__")))(e:W.findIn K (.ref D) "__getattr__" = some none)(y:W.findIn K (.ref D) "__class__" = some (some (.builtin "object.__class__")))(m:W.mroIn K D (.type "object")=some true)(l:W.subIn K (.ref D) (.type "BaseException")=some true)(J:Q (some (.ref D)) ⟨h,g,d,t+1,os⟩):wpAny (model prog w) A (getAttr? (.ref x) "__class__") Q E ⟨h,g,d,t,os⟩:=by
 have b:=I.type (M:=model prog w);have z:=W.looks_findIn (M:=model prog w) X a;have q:=W.looks_findIn (M:=model prog w) X e;have o:=W.looks_findIn (M:=model prog w) X y;have N:=F.excAttr_ValueError.ga.bind (.ref x);have B:(Value.builtin "BaseException.__getattribute__" == Value.builtin "object.__getattribute__")=false:=by decide +kernel
 have v:(onTheHeap (Value.ref D)&&Value.builtin "BaseException.__getattribute__" == Value.builtin "object.__getattribute__")=false:=by rw[B];rfl
 unfold getAttr? getAttrBy? getAttrBy;refine ac (wpAny_mkText (ac (wpAny_attempt (bw (ac (b.at (ac (z.at ?_))))))));dsimp only;rw[v];rw[ax (by decide)];unfold getAttrByItsOwn hookBefore;rw[ay (by rfl)];refine ac (q.at ?_)
 repeat (any_goals (first|assumption|wp_step))
 have i:builtinKind "BaseException.__getattribute__" = some .slot:=by decide +kernel
 have j:splitId "BaseException.__getattribute__" = some ("BaseException","__getattribute__"):=by decide +kernel
 have p:W.Looks (model prog w) h (isInstance (.ref x) (.type "BaseException")) true:=b.andThen (W.looks_subIn (M:=model prog w) X l);have L:=F.args_bexc_ga (.ref x) (.str "__class__" t);have C:=F.typeOf_object_class;have G:=F.slot_gs_get.lookup;have H:=F.slot_gs_set.lookup;refine codeAny_call_builtin F.excAttr_ValueError.ga.plain F.entry_bexc_ga ?_;simp only[checkBuiltinCall,i,j];refine ac (p.at ?_)
 repeat (any_goals (first|assumption|with_reducible refine b.at ?_|with_reducible refine o.at ?_|wp_step))
 refine W.class_get (s:=⟨h,g,d,t+1,os⟩) X I m ?_
 repeat (any_goals (first|assumption|wp_step))
end
section
variable {K:fh}{x D:eQ}{ox:Obj}
def DI (K:fh)(D:eQ):Bool:=(W.clsIn K D).isSome&&(W.findIn K (.ref D) "__getattribute__" == some (some (.builtin "BaseException.__getattribute__"))&&(W.findIn K (.ref D) "__getattr__" == some none&&(W.findIn K (.ref D) "__class__" == some (some (.builtin "object.__class__"))&&(W.mroIn K D (.type "object") == some true&&(W.subIn K (.ref D) (.type "BaseException") == some true&&W.kitCls K (.ref D) (.ref D) == some true)))))
def Br (f:DI K D=true):W.KitX K (.ref x) (.ref D) (λh=>W.InstAt h x ox D none):=by
 unfold DI at f;simp only[aQ,beq_iff_eq]at f;obtain⟨l,p,o,i,j,b,m⟩:=f;obtain⟨y,a⟩:=eO.mp l;refine⟨λ_ _ _ I=>I.type,λ_ _ X _=>(W.kit_cls X m).2.1,λh A B v n C X e=>bE.mpr λq=>?_,λ{_ _ _ _ _ s} X I k=>?_⟩;obtain rfl:=Value.ref.inj (beq_iff_eq.mp q);unfold W.clsIn at a;split at a
 next ho=>have z:=X _ _ ho;rw[e]at z;cases z
 next=>cases a
 obtain⟨h,g,d,t,E⟩:=s;exact za X I p o i j b k
end
section
variable {y:eQ}{oe:Obj}
def vC:V->eR
 |.ref a=>.ref a
 |.ty n=>.type n
 |_=>.none
structure KZ (K:fh)(oe:Obj)(D:eQ):Prop where
 cls:oe.cls=.ref D
 dict:oe.dict=none
 data:∃vs,oe.data=.fields vs
inductive Kx (K:fh)(y:eQ)(oe:Obj)(xs:eW V)(H:Hp)(Q:VK):Prop
 |mk (D:eQ)(c:V)(b:Bool)(_:xs=[.ref y,c])(_:KZ K oe D)(_:DI K D=true)(_:W.kitOne K (.ref D) (vC c)=some b)(_:Q (.bl b) H)
def nQ (hp:(y,oe)∈X.pn):j6 X (.builtin "isinstance") (Kx X.K y oe):=by
 intro a s σ H t v Q I r h;obtain⟨D,c,b,rfl,⟨p,m,x,d⟩,f,e,q⟩:=h;obtain⟨u,o,rfl,g,j⟩:=w9 r;cases (show u=Value.ref y from g);have i:o=vC c:=by cases c <;> first|exact j|exact absurd e (by simp[vC,W.kitOne,W.kitCls])
 subst i;refine W.kia_one (Br (ox:=oe) f) I.kIn ⟨(I.pin _ (aK _ hp)).1,p,?_,?_⟩ e (λz=>nomatch z) λl=>⟨.bl b,H,I.tok l,rfl,q⟩;unfold W.notCls;rw[d];rw[m];trivial
end
section
variable {pins:eW (eQ×Obj)}{σ:St}{H:Hp}{s:eU}
def D6 (X:Cx)(hs:eW ExceptHandler)(th:eR->TS):Prop:=∀(pins:eW (eQ×Obj)) (s:eU) (σ:St) (H:Hp) (D:lO) (y:eQ) (cls:eR),Fl X pins σ H y cls true s->th cls D σ H->wpAny (model X.prog X.w) X.A (handleBy (.ref y) X.env hs) (SP X pins D) X.xe s
def uO:D6 X [] (λ_ _ _ _=>False):=λ_ _ _ _ _ _ _ _ h=>h.elim
inductive zN (K:fh)(c:eR)(t1 t2:eR->TS)(cls:eR)(D:lO)(σ:St)(H:Hp):Prop
 |y (_:W.exmOne K cls c=some true) (_:t1 cls D σ H):zN K c t1 t2 cls D σ H
 |n (_:W.exmOne K cls c=some false) (_:t2 cls D σ H):zN K c t1 t2 cls D σ H
def Ce (X:Cx)(nm:fc Str)(b:eW eX)(pos:Pos)(t:eR->TS):Prop:=∀(pins:eW (eQ×Obj)) (s:eU) (σ:St) (H:Hp) (D:lO) (y:eQ) (cls:eR),Fl X pins σ H y cls true s->t cls D σ H->
 codeAny (model X.prog X.w) (X.A.mark (some (.ref y))) (.handlers (.ref y) [.ExceptHandler none nm b pos] X.env) (λr s₂=>match r with
     |.ok f=>(match nm with
      |none=>SP X pins D f s₂
      |some n=>wpAny (model X.prog X.w) X.A (do bindName X.env n .none;unbindBehindTheSuite X.env n pos) (λ_ s₃=>SP X pins D f s₃) X.xe s₂)
     |.error x=>cameBackBy (model X.prog X.w) X.A X.env X.xe x s₂) s
def mw {x:Str}{np hpos:Pos}{c:eR}{nm:fc Str}{b:eW eX}{hs:eW ExceptHandler}{t1 t2:eR->TS}(s:Gl X x)(v:X.mg x=some c)(q:Ce X nm b hpos t1)(o:D6 X hs t2)(hd:autoParam ((x == ("__debug__":Str))=false) Ay._auto_1):D6 X (.ExceptHandler (some (.Name x np)) nm b hpos::hs) (zN X.K c t1 t2):=by intro a l σ' i D y d g h;have j:=g.inv;have t:∀{s':eU},fR X a σ' i s'->fR (X.caught y) a σ' i s':=λJ=>J.re (λz=>nomatch z) J.ok.frames λp hp=>hp;refine wpAny_handleBy_cons (codeAny_handlers_test ?_) (by intro z;cases z);refine mr (X:=X.caught y) (t j) s v ?_ hd;obtain⟨E,C,A,⟨B,_⟩,_⟩:=g.exc;have m:W.Looks (model X.prog X.w) l.heap (typeOf (.ref y)) d:=B▸(W.Looks.ld A).andThen .now;rcases h with ⟨e,h⟩|⟨e,h⟩;exact(W.exm_one j.kIn m e).here (q a l σ' i D y d g h);exact(W.exm_one j.kIn m e).here (o a l σ' i D y d g h)
def lS {b0:eX}{suite:eW eX}{t:TS}(j:∀e,lI (X.caught e) (b0::suite) t):Ce X none (b0::suite) pos (λ_=>t):=by intro a o σ' b D y g d h;have l:∀{s':eU},fR X a σ' b s'->fR (X.caught y) a σ' b s':=λJ=>J.re (λz=>nomatch z) J.ok.frames λp hp=>hp;refine codeAny_handlers_suite (lh d λi m=>?_);exact bO (j y a i σ' b D (l m.inv) h) (λf s q=>SP.Mi d.inv.ok q λp hp=>hp) λ_ _ z=>z.elim
def fR.gone {h':fb}{m':Str->fc eR}(I:fR X pins σ H s)(A:h'.Ns X.env.locals m')(h:Heap.SameBut X.env.locals s.heap h'):fR X pins (List.replicate X.N.length none) H {s with heap:=h',toks:=s.toks+1}:=by
 have o:∀{b:eQ} {a:Obj},X.s₀.heap.get? b=some a->h'.get? b=s.heap.get? b:=λe=>h.2 _ (aX (bg (aS e) I.ok.above));refine⟨I.ok,I.os,I.bare,⟨λb a e n i g=>(o e).trans (I.base.keep b a e n i g),λb a e n i g=>?_,I.base.free,λb a e g=>?_,I.base.tups,I.base.frzs,I.base.tbls⟩,⟨m',A,λj y v D l E=>?_⟩,λy c e=>?_,I.free,I.freeC,λp hp=>?_,λb a e=>?_,dZ⟩;obtain⟨B,z⟩:=I.base.slot b a e n i g;exact⟨B,(o e).trans z⟩;obtain⟨x,z⟩:=I.base.there b a e g;exact⟨x,(o e).trans z⟩;rw[dM]at l;split at l <;> cases l
 obtain⟨m,z⟩:=I.cell y c e;exact⟨m,z.sameBut h (I.cne y c e)⟩;obtain⟨e,n,t,C,d⟩:=I.pin p hp;exact⟨(h.2 p.1 t).trans e,n,t,C,d⟩;refine(I.hok b a e).LK (λc m hc q=>(h.2 c ?_).trans q) (λ_ q=>q) λ_ _ q=>q;rintro rfl;have f:=I.free;rcases hc with rfl|hc;rw[f]at e;cases e;rw[f]at hc;cases hc
abbrev Cx.bound (X:Cx)(e:eQ)(oe:Obj):Cx:={X with A:=X.A.mark (some (.ref e)),calm:=false,xe:=λ_ _=>False,pn:=X.pn++[(e,oe)]}
def Lb (i:Nat)(t:eQ->Obj->TS):eR->TS:=λcls D σ H=>∀e oe,oe.cls=cls->oe.dict=none->(∃vs,oe.data=.fields vs)->t e oe {nx:=λ_ _=>False,rt:=D.rt} (σ.set i (some (.ref e))) H
def zP {n:Str}{i:Nat}{b0:eX}{suite:eW eX}{t:eQ->Obj->TS}(Y:X.N.Nodup)(S:X.N[i]?=some n)(x:X.env.scope.names.lookup n=some .local)(R:∀e oe,lI (X.bound e oe) (b0::suite) (t e oe)):Ce X (some n) (b0::suite) pos (Lb i t):=by
 intro d s3 σ' G D y J F h;refine codeAny_handlers_suite_as (lh F λZ j=>?_);refine rG j.inv Y S (.inl x) (v:=.ref y) rfl (λC b M=>?_) (.inr x);obtain⟨oe,O,U,H,E,_⟩:=j.exc;have own:=j.own;have l:C.heap.get? y=some oe:=by obtain⟨a,B,ha⟩:=M;refine(B.2 y ?_).trans U;rcases ha with rfl|ha;exact own.2.1;exact λz=>own.2.2.2.2.1 _ _ ha z.symm
 have Q:fR (X.bound y oe) d (σ'.set i (some (.ref y))) G C:=by refine⟨b.ok.re (λz=>nomatch z) b.ok.frames,b.os,b.bare,b.base,b.loc,b.cell,b.free,b.freeC,λp hp=>?_,b.hok,b.len⟩;rcases aE.mp hp with hp|hp;rcases aE.mp hp with hp|hp;exact b.pin p (aK _ hp);obtain rfl:=af.mp hp;exact⟨l,own.1,own.2.1,own.2.2.1,λv z=>by rw[E]at z;cases z⟩;exact b.pin p (aJ _ hp)
 refine bO (R y oe d C _ G _ Q (h y oe H.1 H.2 ⟨O,E⟩)) (λf I q=>?_) λ_ _ z=>z.elim;have g:SP X d {nx:=λ_ _=>False,rt:=D.rt} f I:=SP.Mi (A':=X.A.mark (some (.ref y))) (c':=false) (E':=λ_ _=>False) (pn':=X.pn++[(y,oe)]) F.inv.ok q λp hp=>by rcases aE.mp hp with z|z;exact aK _ (aK _ z);exact aJ _ z
 cases f with|ret u=>obtain⟨v,σ7,L,o,P,K⟩:=g;obtain⟨m,T,_⟩:=id o.loc;refine wpAny_nameGoes x T (by rw[o.ok.kind];rfl) λh' m' s B=>?_;exact⟨v,_,L,o.gone s B,P,K⟩|next=>obtain⟨_,_,_,z⟩:=g;exact z.elim|brk=>obtain⟨_,_,_,z⟩:=g;exact z.elim|cont=>obtain⟨_,_,_,z⟩:=g;exact z.elim
def GU (Wz:St->eR->Hp->Prop)(tb:TS)(th:eR->TS):TS:=λD σ H=>tb D σ H/\∀σ' cls H',Wz σ' cls H'->th cls D σ' H'
def xi {body:eW eX}{h0:ExceptHandler}{hs:eW ExceptHandler}{tb:TS}{th:eR->TS}{Wz:St->eR->Hp->Prop}(i:X.stack=X.env::X.outer)(m:X.env.frame=some X.env.locals)(v:∀pins,lI (X.Mj Wz pins) body tb)(t:D6 X (h0::hs) th):PS X (.Try body (h0::hs) [] [] pos) (GU Wz tb th):=by
 intro pins s σ H D I h;obtain⟨G,o⟩:=h;have C:fR (X.Mj Wz pins) [] σ H s:=I.re I.ok.hd I.ok.frames λp hp=>by simpa using hp
 refine wpAny_Try_except (bO (v pins [] s σ H D C G) (λf g q=>?_) (λe g q=>?_));have b:SP X pins D f g:=SP.Mi I.ok q λp hp=>aK _ hp;cases f with|next=>exact eo b|brk=>exact b|cont=>exact b|ret u=>exact b
 obtain⟨d,σ',j,y,a,l,rfl,F,w⟩:=q;have B:Fl X pins σ' j y a l g:=Fl.Mi (A':=X.A) (c':=X.calm) (E':=X.xe) I.ok F λp hp=>aK _ hp;exact t0 i m I.ok.frames B λJ x=>lh x λz E=>t pins z σ' j D y a E (o _ _ _ w)
end
def yO:GL X "list.count" (λx vs H Q=>∃(l:eQ) (a b c:Bool),x=.ref l/\vs=[.bl true]/\H l=some (.lst [.bl a,.bl b,.bl c])/\Q (.int ([a,b,c].count true:Nat)) H):=by
 intro i s σ H x vs v A Q I o t h;obtain⟨l,a,b,c,rfl,rfl,m,q⟩:=h;cases (show v=Value.ref l from o);obtain⟨u,rfl,p⟩:=jA t;cases (show u=Value.bool true from p);obtain⟨z,g,n,r,e⟩:=(show ib X.prog X.w H s.heap l (.lst [.bl a,.bl b,.bl c]) from I.hok l _ m);obtain⟨u,u',u'',rfl,rfl,rfl,rfl⟩:∃u u' u'',g=[u,u',u'']/\u=.bool a/\u'=.bool b/\u''=.bool c:=by cases r with|cons r1 r=>cases r with|cons r2 r=>cases r with|cons r3 r=>cases r;exact⟨_,_,_,rfl,r1,r2,r3⟩
 refine eM PySem.F.slot_list_count ⟨_,e,rfl⟩ PySem.F.entry_list_count (PySem.F.args_list_count_2 _ _) (SeqAt.list_countAt l _ n none #[] (.bool true) (λv=>match v with|.bool a=>a == true|_=>false)) ⟨e,λy j=>?_,⟨.int _,H,I.tok _,⟨_,rfl⟩,?_⟩⟩;have d:y=.bool a\/y=.bool b\/y=.bool c:=by simpa using j
 rcases d with rfl|rfl|rfl <;> exact SeqAt.EqAt.bool_bool _ _
 cases a <;> cases b <;> cases c <;> exact q
end Lake
namespace Lake.FB
open PySem PyProof.Rows
seal lI PS PE PT PA
structure wR (K:fh)(mg:Str->fc eR):Prop where
 len:mg "len" = none
 range:mg "range" = none
 list:mg "list" = none
 tuple:mg "tuple" = none
 str:mg "str" = none
 int:mg "int" = none
 bool:mg "bool" = none
 isin:mg "isinstance" = none
 sorted:mg "sorted" = none
 rev:mg "reversed" = none
inductive Ke (K:fh)(vs:eW V)(H:Hp)(Q:VK)(E:XK):Prop
 |mk (a:eQ)(ns:eW Int)(k:Int)(_:vs=[.ref a,.int k])(_:gf K H a (ns.map V.int))(_:0<=k)(_:∀z,Q (.int z) H)
noncomputable def xf:eW Int:=[9,10,-10,100,0,-1,10^30]
inductive Ge (vs:eW V)(H:Hp)(Q:VK)(E:XK):Prop
 |mk (c:Int)(_:vs=[.int c])(_:∀z H',fH H H'->z∈xf->Q (.int z) H')
inductive BZ (vs:eW V)(H:Hp)(Q:VK)(E:XK):Prop
 |mk (c:Int)(_:vs=[.int c])(_:∀q (n:Nd) H',fH H H'->H q=none->H' q=some (.tup [.str n.1,.int n.2.1,.int n.2.2])->gU n.1->Q (.ref q) H')
inductive x6 (K:fh)(vs:eW V)(H:Hp)(Q:VK)(E:XK):Prop
 |mk (v:V)(n:Nd)(z:Int)(_:vs=[v,.int z])(_:gX H v n)(_:Q (.bl (decide (n.2.1<=z)&&decide (z<=n.2.2))) H)
section
variable {P:eV}{w:fe}{K:fh}{mg:Str->fc eR}{base:fb}{f:eQ}{fd:eZ}
def JS:fL ["_law_script","_law_k"] ["_law_script","_law_k"] (fE JU):=jD
def HN (F:je K "_law_at" "_law_at" JU f fd)(T:wR K mg):gv P w K mg base gM 1 f fd ["_law_script","_law_k"] (Ke K):=by refine F.ok JS λg A b s H o Q E m h=>?_;obtain⟨a,i,k,rfl,e,j,q⟩:=h;refine⟨_,fm (gK (ge El (pv 1) (gN gO rfl T.len bP (fi (pv 0) fq)) (gr _)) (fz (gc (fZ gu (pv 0) (pv 1)))) gi) (fz (gc fD)),?_⟩;refine⟨_,rfl,_,rfl,a,_,rfl,.inl e,_,_,rfl,rfl,_,rfl,?_⟩;refine ke (λc=>?_) (λc=>?_);have d:k<(((i.map V.int).length:Nat):Int):=ba c;rw[ae]at d;obtain⟨z,l,_⟩:=kg j d;exact⟨_,rfl,_,rfl,a,_,_,_,rfl,rfl,e,l,q z⟩;exact q 0
def Hs:fL ["_law_cell"] ["_law_cell"] (fE E2):=jD
def Fq (F:je K "_law_version_by" "_law_version_by" E2 f fd):gv P w K mg base gM 1 f fd ["_law_cell"] Ge:=by refine F.ok Hs λe A d s H j Q E g h=>?_;obtain⟨c,rfl,q⟩:=h;refine⟨_,fm (gK (ge iN (fU iB (pv 0) fD) fD (gr _)) (fz (gc (fZ gu (gE (fi fD (fi fD (fi (jL kS fD) (fi fD fq))))) (fU iB (fU iQ (pv 0) fD) fD)))) gi) (fz (gc (fZ gu (gE (fi fD (fi (jL kS fD) (fi (fU vS fD fD) fq)))) (fU iB (pv 0) fD)))),?_⟩;refine⟨_,rfl,_,_,rfl,rfl,(by show(0:Int)<7;decide),rfl,_,rfl,?_⟩;refine ke (λ_=>?_) (λ_=>?_);refine⟨_,rfl,GQ,λp hp=>?_⟩;obtain⟨z,b,a⟩:=kg (ns:=[9,10,-10,100]) (i:=c / 7 % 4) (bT _ (by decide)) (bJ _ (by decide));exact⟨_,rfl,_,_,rfl,rfl,⟨by decide,by decide⟩,_,_,rfl,rfl,(by show(0:Int)<4;decide),p,_,_,_,rfl,rfl,gf.of fj,b,q z _ (fB hp _) (aK [0,-1,10^30] a)⟩;refine⟨_,rfl,_,_,rfl,rfl,⟨by decide,by decide,by decide⟩,zE,λp hp=>?_⟩;obtain⟨z,b,a⟩:=kg (ns:=[0,-1,10^(30:Int).toNat]) (i:=c % 3) (bT _ (by decide)) (bJ _ (by decide));exact⟨_,rfl,_,_,rfl,rfl,(by show(0:Int)<3;decide),p,_,_,_,rfl,rfl,gf.of fj,b,q z _ (fB hp _) (aJ [9,10,-10,100] a)⟩
def xn:gU "ashenashenashen":=⟨by decide +kernel,by decide +kernel⟩
def AM:gU "as":=⟨by decide +kernel,by decide +kernel⟩
def AL:gU "":=⟨by decide +kernel,by decide +kernel⟩
def AK:gU "ashenashxnashen":=⟨by decide +kernel,by decide +kernel⟩
def parts {xs:eW V}(h:xs=[.str "ashenashenashen",.str "as",.str "",.str "ashenashxnashen"]\/xs=[.str "as",.str "ashenashenashen",.str "ashenashxnashen",.str ""]){v:V}(a:v∈xs):∃x,v=.str x/\gU x:=by
 rcases h with rfl|rfl <;> simp only[ao,aU,or_false]at a <;> rcases a with rfl|rfl|rfl|rfl
 exact⟨_,rfl,xn⟩;exact⟨_,rfl,AM⟩;exact⟨_,rfl,AL⟩;exact⟨_,rfl,AK⟩;exact⟨_,rfl,AM⟩;exact⟨_,rfl,xn⟩;exact⟨_,rfl,AK⟩;exact⟨_,rfl,AL⟩
def sG:fL ["_law_cell","_law_part","_law_low","_law_high"] ["_law_cell"] (fE Ae):=jD
def Dg (F:je K "_law_need_by" "_law_need_by" Ae f fd)(G:Gd P w K mg base gM 1 "_law_version_by" ["_law_cell"] Ge):gv P w K mg base gM 2 f fd ["_law_cell"] BZ:=by refine F.ok sG λo A d s H I Q E t h=>?_;obtain⟨c,rfl,q⟩:=h;refine⟨_,fm (fJ (i:=1) sG.nd (fZ gu (gE (fi iA (fi iA (fi iA (fi iA fq))))) (fU iB (pv 0) fD))) (fm (fJ (i:=2) sG.nd (iM G t (fi (fU iQ (pv 0) fD) fq))) (fm (fJ (i:=3) sG.nd (fZ gu (gE (fi fD (fi (jL kS fD) (fi (fU vS fD fD) (fi (fU vS fD fD) (fi (pv 2) (fi (jL kS fD) fq))))))) (fU iB (fU iQ (pv 0) fD) fD))) (fz (gc (ig (fi (pv 1) (fi (pv 2) (fi (pv 3) fq)))))))),?_⟩;refine⟨GQ,λp hp=>?_⟩;obtain⟨v,D,C⟩:=nB (xs:=[.str "ashenashenashen",.str "as",.str "",.str "ashenashxnashen"]) (i:=c % 4) (bT _ (by decide)) (bJ _ (by decide));obtain⟨x,rfl,B⟩:=parts (.inl rfl) C;refine⟨_,rfl,_,_,rfl,rfl,(by show(0:Int)<4;decide),p,_,_,_,rfl,rfl,gf.of fj,D,?_⟩;have y:=fB hp (.lst [.str "ashenashenashen",.str "as",.str "",.str "ashenashxnashen"]);refine⟨_,rfl,_,_,rfl,rfl,⟨by decide,by decide⟩,_,rfl,λg J m _=>?_⟩;refine⟨_,rfl,_,_,rfl,rfl,⟨by decide,by decide,by decide⟩,_,_,rfl,rfl,⟨by decide,by decide,by decide⟩,_,rfl,_,rfl,K0,λl e=>?_⟩;obtain⟨z,b,_⟩:=kg (ns:=[0,-1,10^(30:Int).toNat,10^(30:Int).toNat,g,-9]) (i:=c / 12 % 6) (bT _ (by decide)) (bJ _ (by decide));refine⟨_,rfl,_,_,rfl,rfl,⟨by decide,by decide⟩,_,_,rfl,rfl,(by show(0:Int)<6;decide),l,_,_,_,rfl,rfl,gf.of fj,b,?_⟩;have j:=(y.trans m).trans (fB e (.lst [.int 0,.int (-1),.int (10^(30:Int).toNat),.int (10^(30:Int).toNat),.int g,.int (-9)]));refine⟨_,rfl,_,rfl,_,rfl,zE,λr a=>?_⟩;exact q r (x,g,z) _ (j.trans (fB a _)) (j.free a) fj B
def JL:fL ["_law_need","_law_version"] ["_law_need","_law_version"] (fE sU):=jD
def yC (F:je K "_law_meets" "_law_meets" sU f fd):gv P w K mg base gM 1 f fd ["_law_need","_law_version"] (x6 K):=by refine F.ok JL λe A a s H i Q E g h=>?_;obtain⟨v,n,z,rfl,⟨b,rfl,d⟩,q⟩:=h;refine⟨_,fz (gc (tJ (kJ xo (fZ gs (pv 0) fD) (pv 1) (gr _)) (tI (kJ xo (pv 1) (fZ gs (pv 0) fD) (gr _))))),?_⟩;refine⟨_,rfl,b,_,_,_,rfl,rfl,jg.of d,rfl,_,rfl,_,_,rfl,rfl,_,rfl,?_⟩;refine ke (λc=>?_) (λc=>?_);refine⟨_,rfl,_,rfl,b,_,_,_,rfl,rfl,jg.of d,rfl,_,_,rfl,rfl,?_⟩;rw[c,cQ]at q;exact q;rw[bE.mpr c,cg]at q;exact q
end
end Lake.FB
namespace Lake
open PySem PyProof.Rows
def HJ {X:Cx}{x:Str}{n:String}{pos:Pos}(a:Gl X x)(b:X.mg x=none)(d:bootBuiltins x=some (.type n))(hn:autoParam (x≠"__name__") Ay._auto_1)(hd:autoParam ((x == ("__debug__":Str))=false) Ay._auto_1):PE X (.Name x pos) (tC (.ty n)):=
 C8 (v:=.ty n) a b d rfl hn hd
end Lake
namespace Lake.FB
open PySem PyProof.Rows
seal lI PS PE PT PA
def mz (ds:eW fg):PyData.eqv (.list ds) (.list [])=ds.isEmpty:=by cases ds <;> simp[PyData.eqv,PyData.eqvAll]
section
variable {P:eV}{w:fe}{K:fh}{mg:Str->fc eR}{base:fb}{f:eQ}{fd:eZ}
end
end Lake.FB
namespace Lake
open PySem PyProof.Rows
def xh (K:fh):eW V->Hp->VK->Prop:=λxs H Q=>∃p ys,xs=[.ref p]/\(gf K H p ys\/jg K H p ys)/\∀l,H l=none->Q (.ref l) (upd H l (.lst ys))
def wE {X:Cx}:j6 X (.type "list") (xh X.K):=jI
end Lake
namespace Lake.FB
open PySem PyProof.Rows
section
seal lI PS PE PT PA
variable {H H0:Hp}{K:fh}{P:eV}{es:eW En}{fd:eZ}{mg:Str->fc eR}{p:eQ}{ps:eW Pk}{v:V}{zs:eW V}
def HU:(["_law_k","_law_script"]:eW Str).Nodup:=by decide +kernel
def Ig:(["_law_entry"]:eW Str).Nodup:=by decide +kernel
inductive B8 (K:fh)(vs:eW V)(H:Hp)(Q:VK)(E:XK):Prop
 |mk (a:eQ)(ns:eW Int)(_:vs=[.ref a])(_:gf K H a (ns.map V.int))(_:ns.length<=1000)(_:∀p (ms:eW Int) H',fH H H'->H' p=some (.lst (ms.map V.int))->ms.length=ns.length->Q (.ref p) H')
inductive B9 (vs:eW V)(H:Hp)(Q:VK)(E:XK):Prop
 |mk (a:eQ)(es:eW En)(_:vs=[.ref a])(_:i6 H a es)(_:es.length<=1000)(_:∀p H',fH H H'->i6 H' p es->Q (.ref p) H')
inductive xT (K:fh)(vs:eW V)(H:Hp)(Q:VK)(E:XK):Prop
 |mk (a:eQ)(v:V)(es:eW En)(n:Nd)(_:vs=[.ref a,v])(_:i6 H a es)(_:gX H v n)(_:es.length<64)(_:∀p (ms:eW Int) H',fH H H'->H' p=some (.lst (ms.map V.int))->ms.Perm (jc es n)->ms.Pairwise (·<=·)->∀p',H' p'=none->Q (.ref p') (upd H' p' (.lst (ms.map V.int).reverse)))
section
variable {w:fe}{base:fb}{f:eQ}
def JK:fL ["_law_script"] ["_law_script"] (fE vI):=jD
theorem AY (F:je K "_law_mixed" "_law_mixed" vI f fd)(T:wR K mg):gv P w K mg base gM 1 f fd ["_law_script"] (B8 K):=by
 refine F.ok JK λL A p s H N Q E R h=>?_;obtain⟨a,ns,rfl,I,O,q⟩:=h;refine⟨_,fz (gc (iG (N':=["_law_k","_law_script"]) (n:=1) (js:=[0]) rfl (iT.one (c:=s.heap.objs.size+1) (y:="_law_script")) (iz (by decide)) (jP rfl T.range (fi (gN gO rfl T.len bP (fi (pv 0) fq)) fq)) (λC G d x=>fQ (i:=0) HU) (λC G d x=>jx) (λC G d x=>fU iB (fU tL (fU nh (fZ (r:=Ar K) gu (pv 1) (pv 0) (λ_ _=>rfl)) (fU tL fD (pv 0))) fD) fD))),?_⟩;have b:(ns.map V.int).length=ns.length:=ae _;refine⟨_,rfl,a,_,rfl,.inl I,_,rfl,by rw[b];lia,by rw[b];lia,?_⟩;refine qQ (λD i g d=>∃e:eW Int,g=e.map V.int/\e.length=i/\d D=some (.lst g)/\fH H d/\H D=none) (λD B=>⟨[],rfl,rfl,fj,fB B _,B⟩) (λD i g d t ⟨e,j,o,l,m,_⟩=>⟨l,?_⟩) (λD i g d t ⟨e,j,o,l,m,v⟩=>?_) (λD g d ⟨e,j,o,l,m,_⟩=>?_);rw[j,ae];exact fO (by rw[b]at t;lia);have M:((i:Nat):Int)<(ns.length:Int):=by rw[b]at t;lia
 obtain⟨z,J,_⟩:=kg (ns:=ns) (i:=0+(i:Int)) (by lia) (by lia);unfold jl pc;dsimp only;rw[ay rfl];refine⟨_,rfl,_,rfl,a,_,_,_,rfl,rfl,m.seq I,J,_,rfl,_,_,rfl,rfl,.inl ⟨by decide,by decide⟩,_,_,rfl,rfl,_,_,rfl,rfl,.inr ⟨by decide,by decide⟩,_,_,rfl,rfl,(by show(0:Int)<1000003;decide),l,?_⟩;exact⟨e++[_],by rw[j,aC];rfl,by rw[aB,o];rfl,fj,fH.upd m v,v⟩;exact q D e d m (j▸l) (by rw[o,bW,b])
def JQ:fL ["_law_shelf"] ["_law_shelf"] (fE Am):=jD
theorem Do (F:je K "_law_copy_of" "_law_copy_of" Am f fd)(T:wR K mg):gv P w K mg base gM 1 f fd ["_law_shelf"] B9:=by
 refine F.ok JQ λaa A N s H vs Q E hr h=>?_;obtain⟨a,B,rfl,⟨xs,hx,hp⟩,hl,q⟩:=h;refine⟨_,fz (gc (iG (N':=["_law_entry"]) (n:=1) (js:=[]) rfl (iT.closed) (iz (by decide)) (gL (pv 0)) (λC j b X=>fQ (i:=0) Ig) (λC j b X=>jx) (λC j b X=>ig (fi (fZ (r:=qh K) gs (pv 0) fD (λ_ _=>rfl)) (fi (fZ (r:=qh K) gs (pv 0) fD (λ_ _=>rfl)) (fi (iS (r:=xh K) wE rfl T.list eN (fi (fZ (r:=qh K) gs (pv 0) fD (λ_ _=>rfl)) fq)) fq)))))),?_⟩;have lx:xs.length=B.length:=Paired.length hp;refine⟨_,rfl,a,rfl,⟨xs,gf.of hx⟩,?_⟩;refine iK (xs:=xs) (λD i m b=>ff (km (del b [D])) m (B.take i)/\b D=some (.lst m)/\fH H b/\H D=none) (λD Y=>⟨by simpa using Paired.nil,fj,fB Y _,Y⟩)
  (λD i m b hi ⟨p,d,g,_⟩=>⟨gf.of (g _ _ hx),d,?_⟩) (λD i x m b hi ⟨p,d,g,R⟩=>?_) (λD m b ⟨p,d,g,R⟩=>?_)
 rw[Paired.length p,aW];exact fO (by lia);obtain⟨e,he,J,na,M,rfl,h1,h2,h3⟩:=Paired.Ml hp hi;have O:=g _ _ h1;have g2:=g _ _ h2;unfold jl pc;dsimp only;rw[ay rfl];refine⟨_,rfl,J,_,_,_,rfl,rfl,jg.of O,rfl,_,rfl,J,_,_,_,rfl,rfl,jg.of O,rfl,_,rfl,J,_,_,_,rfl,rfl,jg.of O,rfl,na,_,rfl,.inl (gf.of g2),λG t=>?_⟩;have s1:fH b (upd b G (.lst M)):=fB t _;refine⟨zE,λZ l=>?_⟩;have j:=s1.trans (fB l (.tup [.str e.1,.int e.2.1,.ref G]));have L:G≠D:=Ne.symm (fC d t);have S:Z≠D:=Ne.symm (fC (s1 _ _ d) l);refine⟨j _ _ d,?_,fj,fH.upd (g.trans j) R,R⟩;have ht:B.take (i+1)=B.take i++[e]:=by rw[aZ,he];rfl
 rw[ht,nO (by simp)];refine Paired.snoc (Paired.LJ p λ_ _=>km.same (fH.del j [D])) ⟨Z,G,M,rfl,?_,?_,?_⟩;rw[fG (by simpa using S)];exact fj;rw[fG (by simpa using L),fw (Ne.symm (fC (o:=.lst M) fj l).symm)];exact fj;refine Paired.LJ h3 λv n z=>?_;obtain⟨q1,I,U⟩:=z;have y:=g _ _ U;refine⟨q1,I,?_⟩;rw[fG (by simpa using gF y d (by intro z;cases z))];exact j _ _ y;rw[lx,aN]at p;exact q D b g ⟨m,d,Paired.LJ p λ_ _=>km.same (gy _ _)⟩
def EU:fL ["_law_shelf","_law_need","_law_found","_law_entry"] ["_law_shelf","_law_need"] (fE sP):=jD
theorem yA (F:je K "_law_newest" "_law_newest" sP f fd)(T:wR K mg)(G:Gd P w K mg base gM 1 "_law_meets" ["_law_need","_law_version"] (x6 K)):gv P w K mg base gM 2 f fd ["_law_shelf","_law_need"] (xT K):=by
 refine F.ok EU λZ A I s H vs Q E hr h=>?_;obtain⟨a,v,l,n,rfl,⟨xs,R,hp⟩,hn,hl,q⟩:=h;refine⟨_,(fm (fJ (i:=2) EU.nd (gE fq)) (fm (ie PassesOwn.never rfl (gL (pv 0)) (fQ (i:=3) EU.nd) (fz (gK (PW.pt (kU (ge iN (fZ gs (pv 3) fD) (fZ gs (pv 1) fD) (gr _)) (jV (qi (iM G hr (fi (pv 1) (fi (fZ gs (pv 3) fD) fq))))))) (fz (gq (jM aR bn bj iy (pv 2) (fi (fZ gs (pv 3) fD) fq)))) gi))) (fz (gc (xl rfl rfl T.list rfl T.rev (gN u9 rfl T.sorted boot_sorted (fi (pv 2) fq))))))),?_⟩;have Y:xs.length=l.length:=Paired.length hp;obtain⟨y,rfl,O⟩:=hn;refine⟨oM,λz j=>?_⟩;refine⟨_,rfl,a,rfl,⟨xs,gf.of (fB j _ _ _ R)⟩,iE (K:=K) (a:=a) (xs:=xs) (λi σ m=>∃e,σ=[some (.ref a),some (.ref y),some (.ref z),e]/\fH H m/\m z=some (.lst ((jc (l.take i) n).map V.int))) ⟨none,rfl,fB j _,by simpa [jc] using fj⟩ ((by rintro i σ m _ ⟨_,_,d,_⟩;exact gf.of (d _ _ R))) ?_ ?_⟩;rintro i x σ m hi ⟨o,rfl,d,g⟩;obtain⟨e,he,C,na,zs,rfl,h3,h4,h5⟩:=Paired.Ml hp hi;have L:=d _ _ h3;have S:=d _ _ O;have X:l.take (i+1)=l.take i++[e]:=by rw[aZ,he];rfl
 have b:=wg (l.take i) e n;rw[<-X]at b;refine⟨_,rfl,C,_,_,_,rfl,rfl,jg.of L,rfl,_,rfl,y,_,_,_,rfl,rfl,jg.of S,rfl,rfl,_,rfl,?_⟩;rw[md];refine ke (λc=>?_) (λc=>?_);refine⟨_,rfl,_,rfl,C,_,_,_,rfl,rfl,jg.of L,rfl,.ref y,n,e.2.1,rfl,⟨y,rfl,S⟩,_,rfl,?_⟩;refine ke (λJ=>?_) (λJ=>?_);have t:jp n e=true:=by unfold jp;rw[c,J];rfl
 rw[ay t]at b;refine⟨_,rfl,.inl ⟨rfl,_,gf.of g⟩,_,rfl,C,_,_,_,rfl,rfl,jg.of L,rfl,z,_,_,rfl,rfl,g,?_,?_⟩;rw[ae];have:=jH (l.take i) n;rw[aW]at this;exact fO (by lia);refine⟨_,rfl,fH.upd d j,?_⟩;rw[fj,b,aC];rfl;have t:¬jp n e=true:=by unfold jp;rw[c,cQ];exact J
 rw[ax t]at b;exact⟨_,rfl,d,by rw[b];exact g⟩;have t:¬jp n e=true:=by unfold jp;rw[bE.mpr c];simp
 rw[ax t]at b;exact gB ⟨_,rfl,d,by rw[b];exact g⟩;rintro σ m ⟨o,rfl,d,g⟩;rw[Y,aN]at g;have aa:=jH l n;refine⟨_,rfl,z,_,rfl,gf.of g,by lia,λp U B M N=>?_⟩;refine⟨p,_,rfl,gf.of fj,λp' D=>?_⟩;exact q p U _ (d.trans (fB B _)) fj M N p' D
end
noncomputable def uR:eW Str:=["ashenashenashen","as","","ashenashxnashen"]
def Lw (e:En):Prop:=e.1∈uR/\e.2.1∈xf
def Fn (a:v∈[V.str "as",V.str "ashenashenashen",V.str "ashenashxnashen",V.str ""]):∃x,v=.str x/\gU x/\x∈uR:=by simp only[ao,aU,or_false]at a;rcases a with rfl|rfl|rfl|rfl;exact⟨_,rfl,AM,by unfold uR;simp⟩;exact⟨_,rfl,xn,by unfold uR;simp⟩;exact⟨_,rfl,AK,by unfold uR;simp⟩;exact⟨_,rfl,AL,by unfold uR;simp⟩
inductive BY (K:fh)(vs:eW V)(H:Hp)(Q:VK)(E:XK):Prop
 |mk (a:eQ)(ns:eW Int)(_:vs=[.ref a])(_:gf K H a (ns.map V.int))(_:ns.length<=63)(_:∀p (es:eW En) xs H',fH H H'->H p=none->H' p=some (.lst xs)->ff (km (del H' [p])) xs es->(es.map fN).Nodup->(∀e∈es,lP e)->es.length<=ns.length->(∀e∈es,Lw e)->Q (.ref p) H')
inductive Kj (H:Hp)(a p t:eQ)(i:Nat)(σ:Lake.St)(H2:Hp):Prop
 |mk (es:eW En)(xs ys:eW V)(o3 o4 o5 o6 o7 o8:fc V)(_:σ=[some (.ref a),some (.ref p),some (.ref t),o3,o4,o5,o6,o7,o8])(_:H2 p=some (.lst xs))(_:H2 t=some (.lst ys))(_:ff (km (del H2 [p,t])) xs es)(_:ff (fX (del H2 [p,t])) ys (es.map fN))(_:(es.map fN).Nodup)(_:∀e∈es,lP e/\Lw e)(_:es.length<=i)
structure Lx (H:Hp)(a p t:eQ)(i:Nat)(σ:Lake.St)(H2:Hp):Prop where
 ex:Kj H a p t i σ H2
 sm:fH H H2
inductive Ko (Hb:Hp)(p t nd:eQ)(σ0:fc V->Lake.St)(j:Nat)(σ:Lake.St)(H6:Hp):Prop
 |mk (zs:eW V)(nds:eW Nd)(o8:fc V)(_:σ=σ0 o8)(_:H6 nd=some (.lst zs))(_:ff (gX (del H6 [p,t,nd])) zs nds)(_:∀n∈nds,gU n.1)(_:nds.length<=j)
structure Ly (Hb:Hp)(p t nd:eQ)(σ0:fc V->Lake.St)(j:Nat)(σ:Lake.St)(H6:Hp):Prop where
 ex:Ko Hb p t nd σ0 j σ H6
 sm:fH Hb H6
section
variable {w:fe}{base:fb}{f:eQ}
def sE:fL ["_law_cells","_law_shelf","_law_there","_law_k","_law_cell","_law_part","_law_pick","_law_needs","_law_j"] ["_law_cells"] (fE vG):=jD
def AV (F:je K "_law_shelf_by" "_law_shelf_by" vG f fd)(T:wR K mg)(G:Gd P w K mg base gM 1 "_law_version_by" ["_law_cell"] Ge)(G2:Gd P w K mg base gM 2 "_law_need_by" ["_law_cell"] BZ):gv P w K mg base gM 3 f fd ["_law_cells"] (BY K):=by
 refine F.ok sE λcp A b7 s H vs Q E hr h=>?_;obtain⟨a,ns,rfl,hS,hl,q⟩:=h;have bq:iF 1 _:=hr.mono (by decide);refine⟨_,(fm (fJ (i:=1) sE.nd (gE fq)) (fm (fJ (i:=2) sE.nd (gE fq)) (fm (ie PassesOwn.never rfl (jP rfl T.range (fi (gN gO rfl T.len bP (fi (pv 0) fq)) fq)) (fQ (i:=3) sE.nd) (fm (fJ (i:=4) sE.nd (fZ gu (pv 0) (pv 3))) (fm (fJ (i:=5) sE.nd (fZ gu (gE (fi iA (fi iA (fi iA (fi iA fq))))) (fU iB (fU nh (pv 4) (pv 3)) fD))) (fm (fJ (i:=6) sE.nd (ig (fi (pv 5) (fi (iM G bq (fi (fU nh (fU iQ (pv 4) fD) (fU iQ (pv 3) fD)) fq)) fq)))) (fm (fJ (i:=7) sE.nd (gE fq)) (fm (ie PassesOwn.never rfl (jP rfl T.range (fi (fZ gu (gE (fi fD (fi fD (fi fD (fi fD (fi fD (fi fD (fi fD (fi fD (fi fD (fi fD fq))))))))))) (fU iB (fU iQ (pv 4) fD) fD)) fq)) (fQ (i:=8) sE.nd) (fz (gq (jM aR bn bj iy (pv 7) (fi (iM G2 hr (fi (fU nh (fU nh (fU iQ (pv 4) fD) (fU tL fD (pv 8))) (fU tL fD (pv 3))) fq)) fq))))) (fz (gK (ge (mq hr.units) (pv 6) (pv 2) (by with_unfolding_all rfl)) (fm (gq (jM aR bn bj iy (pv 2) (fi (pv 6) fq))) (fz (gq (jM aR bn bj iy (pv 1) (fi (ig (fi (fZ gs (pv 6) fD) (fi (fZ gs (pv 6) fD) (fi (pv 7) fq)))) fq))))) gi)))))))) (fz (gc (pv 1)))))),?_⟩;have X:(ns.map V.int).length=ns.length:=ae _;refine⟨oM,λp hp=>⟨oM,λt ht=>?_⟩⟩;have s1:fH H (upd H p (.lst [])):=fB hp _;have al:p≠t:=fC (o:=.lst []) fj ht;have bx:H t=none:=s1.free ht;have s2:fH H (upd (upd H p (.lst [])) t (.lst [])):=s1.trans (fB ht _);refine⟨_,rfl,a,_,rfl,.inl (s2.seq hS),_,rfl,by rw[X];omega,by rw[X];omega,?_⟩;refine my (λi σ H2=>Lx H a p t i σ H2) ⟨⟨[],[],[],none,none,none,none,none,none,rfl,by rw[fw al];exact fj,fj,.nil,.nil,bF,by simp,am _⟩,s2⟩ ?_ ?_;rintro i σ H2 hi ⟨⟨es,xs,ys,o3,o4,o5,o6,o7,o8,rfl,ag,a9,M,L,Z,B,I⟩,sm⟩;have cs:((i:Nat):Int)<(ns.length:Int):=by rw[X,bW]at hi;omega
 have cl:i<ns.length:=by omega
 obtain⟨c,hc,_⟩:=kg (ns:=ns) (i:=0+(i:Int)) (by omega) (by omega);refine⟨_,rfl,_,rfl,a,_,_,_,rfl,rfl,sm.seq hS,hc,?_⟩;refine⟨GQ,λl1 bv=>?_⟩;obtain⟨v,hv,hm⟩:=nB (xs:=[.str "as",.str "ashenashenashen",.str "ashenashxnashen",.str ""]) (i:=(c+(0+(i:Int))) % 4) (bT _ (by decide)) (bJ _ (by decide));obtain⟨x,rfl,hx,bl⟩:=Fn hm;refine⟨_,rfl,_,rfl,_,_,rfl,rfl,_,_,rfl,rfl,(by show(0:Int)<4;decide),l1,_,_,_,rfl,rfl,gf.of fj,hv,?_⟩;have sa:=fB bv (.lst [.str "as",.str "ashenashenashen",.str "ashenashxnashen",.str ""]);refine⟨_,rfl,_,rfl,_,_,rfl,rfl,⟨by decide,by decide⟩,_,rfl,_,_,rfl,rfl,⟨by decide,by decide⟩,_,_,rfl,rfl,_,rfl,λz H3 s3 b1=>⟨pO,λg b9=>?_⟩⟩;have sb:fH H2 (upd H3 g (.tup [.str x,.int z])):=(sa.trans s3).trans (fB b9 _);generalize b2:upd H3 g (.tup [.str x,.int z])=Hb at sb;have cd:Hb g=some (.tup [.str x,.int z]):=by rw[<-b2];exact fj
 have as:=sb _ _ ag;have ab:=sb _ _ a9;refine⟨oM,λnd l=>?_⟩;have b4:nd≠p:=Ne.symm (fC as l);have a2:nd≠t:=Ne.symm (fC ab l);refine⟨Jr,λl2 a6=>?_⟩;obtain⟨jn,hj,bm⟩:=kg (ns:=[0,1,2,0,1,2,0,1,2,4]) (i:=c / 12 % 10) (bT _ (by decide)) (bJ _ (by decide));have co:0<=jn/\jn<=4:=by simp only[ao,aU,or_false]at bm;omega
 refine⟨_,rfl,_,_,rfl,rfl,⟨by decide,by decide⟩,_,_,rfl,rfl,(by show(0:Int)<10;decide),l2,_,_,_,rfl,rfl,gf.of fj,hj,jn,rfl,by omega,by omega,?_⟩;have sd:fH Hb (upd (upd Hb nd (.lst [])) l2 (.lst [.int 0,.int 1,.int 2,.int 0,.int 1,.int 2,.int 0,.int 1,.int 2,.int 4])):=(fB l _).trans (fB a6 _);refine my (λj σ H6=>Ly Hb p t nd (λo8=>[some (.ref a),some (.ref p),some (.ref t),some (.int (0+(i:Int))),some (.int c),some (.str x),some (.ref g),some (.ref nd),o8]) j σ H6)
  ⟨⟨[],[],o8,rfl,by rw[fw (fC (o:=.lst []) fj a6)];exact fj,.nil,by simp,am _⟩,sd⟩ ?_ ?_
 rintro j σ H6 cn ⟨⟨zs,Y,bf,rfl,D,U,a1,b8⟩,s6⟩;refine⟨_,rfl,.inl ⟨rfl,_,gf.of D⟩,_,rfl,_,_,rfl,rfl,⟨by decide,by decide⟩,_,rfl,_,_,rfl,rfl,.inl ⟨by decide,by decide⟩,_,_,rfl,rfl,_,rfl,_,_,rfl,rfl,.inl ⟨by decide,by decide⟩,_,_,rfl,rfl,_,rfl,λq0 n N s7 ah b5 hn=>?_⟩;have lz:=Paired.length U;refine⟨nd,_,_,rfl,rfl,s7 _ _ D,fO (by omega),⟨zs++[.ref q0],Y++[n],_,rfl,fj,?_,?_,by rw[aB,aM];omega⟩,fH.upd (s6.trans s7) l⟩;rw[nO (by simp)];refine Paired.snoc (Paired.LJ U λ_ _=>gX.same (fH.del s7 _)) ⟨q0,rfl,?_⟩;rw[fG];exact b5;simp only[ao,aU,or_false,not_or];exact⟨Ne.symm (fC (s6 _ _ as) ah),Ne.symm (fC (s6 _ _ ab) ah),Ne.symm (fC D ah)⟩;intro m hm;rcases aE.mp hm with y|y;exact a1 m y;rw[af.mp y];exact hn;rintro σ H6 ⟨⟨zs,Y,bf,rfl,D,U,a1,b8⟩,s6⟩;have aa:=s6 _ _ as;have J:=s6 _ _ ab;have O:=s6 _ _ cd;have C:fH H2 H6:=sb.trans s6;have b0:g≠p:=Ne.symm (gF aa O (by intro y;cases y));have a5:g≠t:=Ne.symm (gF J O (by intro y;cases y));have a3:ff (fX H6) ys (es.map fN):=Paired.LJ L λ_ _ y=>fX.same ((fH.del C _).trans (gy _ _)) y;have b6:∀k∈es.map fN,gU k.1:=λk hk=>by obtain⟨e,he,rfl⟩:=aA.mp hk;exact(B e he).1.pt
 refine⟨_,rfl,_,rfl,oQ (x,z),(es.map fN).map oQ,fX.rep ⟨g,rfl,O⟩,.lst J (j8 (λ_ _ y=>fX.rep y) a3),(oo hx).1,pw b6,(oo hx).2,_,rfl,?_⟩;rw[uc];refine ke (λan=>?_) (λan=>?_);have a7:¬(x,z)∈es.map fN:=by intro y;rw[aq y]at an;exact absurd an (by decide)
 have ly:=Paired.length L;have lx:=Paired.length M;rw[ae]at ly;refine⟨_,rfl,.inl ⟨rfl,_,gf.of J⟩,_,rfl,t,_,_,rfl,rfl,J,fO (by omega),?_⟩;generalize d:upd H6 t (.lst (ys++[.ref g]))=N;have ad:N p=some (.lst xs):=by rw[<-d,fw al];exact aa
 have ap:N g=some (.tup [.str x,.int z]):=by rw[<-d,fw a5];exact O
 have ch:N nd=some (.lst zs):=by rw[<-d,fw a2];exact D
 have a4:N t=some (.lst (ys++[.ref g])):=by rw[<-d];exact fj
 refine⟨_,rfl,.inl ⟨rfl,_,gf.of ad⟩,_,rfl,g,_,_,_,rfl,rfl,jg.of ap,rfl,_,rfl,g,_,_,_,rfl,rfl,jg.of ap,rfl,_,rfl,zE,λen a0=>?_⟩;have s8:=fB a0 (.tup [.str x,.int z,.ref nd]);have b3:en≠p:=Ne.symm (fC ad a0);have be:en≠t:=Ne.symm (fC a4 a0);refine⟨p,xs,_,rfl,rfl,s8 _ _ ad,fO (by omega),?_⟩;have d9:del (upd (upd N en (.tup [.str x,.int z,.ref nd])) p (.lst (xs++[.ref en]))) [p,t]=del (upd N en (.tup [.str x,.int z,.ref nd])) [p,t]:=nO (by simp);have d7:del N [p,t]=del H6 [p,t]:=by rw[<-d];exact nO (by simp)
 have a8:fH (del H2 [p,t]) (del (upd N en (.tup [.str x,.int z,.ref nd])) [p,t]):=(fH.del C _).trans (d7▸fH.del s8 _);refine⟨⟨es++[(x,z,Y)],xs++[.ref en],ys++[.ref g],_,_,_,_,_,_,rfl,fj,?_,?_,?_,?_,?_,by rw[aB,aM];omega⟩,?_⟩;rw[fw (Ne.symm al)];exact s8 _ _ a4;rw[d9];refine Paired.snoc (Paired.LJ M λ_ _=>km.same a8) ⟨en,nd,zs,rfl,?_,?_,?_⟩;rw[fG (by simp only[ao,aU,or_false,not_or];exact⟨b3,be⟩)];exact fj;rw[fG (by simp only[ao,aU,or_false,not_or];exact⟨b4,a2⟩)];exact s8 _ _ ch;refine Paired.LJ U λ_ m y=>gX.same (λb o R=>?_) y;have S:b∉[p,t,nd]:=λy=>by rw[gR y]at R;cases R
 rw[fG S]at R;simp only[ao,aU,or_false,not_or]at S;rw[fG (by simp only[ao,aU,or_false,not_or];exact⟨S.1,S.2.1⟩)];refine s8 _ _ ?_;rw[<-d,fw S.2.1];exact R;rw[d9,aC];refine Paired.snoc (Paired.LJ L λ_ _=>fX.same a8) ⟨g,rfl,?_⟩;rw[fG (by simp only[ao,aU,or_false,not_or];exact⟨b0,a5⟩)];exact s8 _ _ ap;rw[aC];exact pC Z a7;intro e he;rcases aE.mp he with y|y;exact B e y;rw[af.mp y];exact⟨⟨hx,a1,by show Y.length<=100;omega⟩,bl,b1⟩;have bd:fH H N:=by rw[<-d];exact fH.upd (sm.trans C) bx
 exact fH.upd (bd.trans s8) hp;exact⟨⟨es,xs,ys,_,_,_,_,_,_,rfl,aa,J,Paired.LJ M λ_ _=>km.same (fH.del C _),Paired.LJ L λ_ _=>fX.same (fH.del C _),Z,B,by omega⟩,sm.trans C⟩;rintro σ H2 ⟨⟨es,xs,ys,o3,o4,o5,o6,o7,o8,rfl,ag,a9,M,L,Z,B,I⟩,sm⟩;refine⟨_,rfl,q p es xs H2 sm hp ag (Paired.LJ M λ_ _=>km.same (λb o R=>?_)) Z (λe he=>(B e he).1) (by rw[X,bW]at I;exact I) (λe he=>(B e he).2)⟩;have S:b∉[p,t]:=λy=>by rw[gR y]at R;cases R
 rw[fG S]at R;simp only[ao,aU,or_false,not_or]at S;rw[fG (by simpa using S.1)];exact R
end
inductive ve (K:fh)(vs:eW V)(H:Hp)(Q:VK)(E:XK):Prop
 |mk (a:eQ)(ns:eW Int)(_:vs=[.ref a])(_:gf K H a (ns.map V.int))(_:ns.length<=63)(_:∀p (sn:eW Nd) H',fH H H'->iu H' p sn->(∀n∈sn,gU n.1)->sn.length<=ns.length->Q (.ref p) H')
inductive vi (vs:eW V)(H:Hp)(Q:VK)(E:XK):Prop
 |mk (a:eQ)(v:V)(es:eW En)(k:Pk)(_:vs=[.ref a,v])(_:i6 H a es)(_:fX H v k)(_:(es.map fN).Nodup)(_:∀e∈es,fN e=k->∀na zs,H na=some (.lst zs)->ff (gX H) zs e.2.2->Q (.ref na) H)(_:k∉es.map fN->Q .non H)
def Fz:(["_law_cell"]:eW Str).Nodup:=by decide +kernel
section
variable {w:fe}{base:fb}{f:eQ}
def Hu:fL ["_law_cells"] ["_law_cells"] (fE pW):=jD
theorem vT (F:je K "_law_start_by" "_law_start_by" pW f fd)(G:Gd P w K mg base gM 2 "_law_need_by" ["_law_cell"] BZ):gv P w K mg base gM 3 f fd ["_law_cells"] (ve K):=by
 refine F.ok Hu λT A B s H vs Q E U h=>?_;obtain⟨a,z,rfl,S,hl,q⟩:=h;refine⟨_,fz (gc (iG (N':=["_law_cell"]) (n:=1) (js:=[]) rfl (iT.closed) (iz (by decide)) (gL (pv 0)) (λC R b N=>fQ (i:=0) Fz) (λC R b N=>jx) (λC R b N=>iM G U (fi (fU nh (fU iQ (pv 0) fD) fD) fq)))),?_⟩;have lm:(z.map V.int).length=z.length:=ae _;refine⟨_,rfl,a,rfl,⟨_,S⟩,?_⟩;refine iK (xs:=z.map V.int) (λD i e b=>∃d:eW Nd,ff (gX (del b [D])) e d/\(∀n∈d,gU n.1)/\d.length<=i/\b D=some (.lst e)/\fH H b/\H D=none) (λD O=>⟨[],.nil,by simp,am _,fj,fB O _,O⟩)
  (λD i e b J ⟨d,l,p,t,g,j,o⟩=>⟨j.seq S,g,?_⟩) (λD i x e b J ⟨d,l,p,t,g,j,o⟩=>?_) (λD e b ⟨d,l,p,t,g,j,o⟩=>?_)
 rw[Paired.length l];exact fO (by lia);rw[ai]at J;obtain⟨c,hc,rfl⟩:=aF.mp J;unfold jl pc;dsimp only;rw[ay rfl];refine⟨_,rfl,_,_,rfl,rfl,⟨by decide,by decide⟩,_,_,rfl,rfl,_,rfl,λM n H3 L I v Y=>?_⟩;have X:M≠D:=Ne.symm (fC g I);refine⟨L _ _ g,d++[n],?_,λm Z=>?_,by rw[aB,aM];lia,fj,fH.upd (j.trans L) o,o⟩;rw[nO (by simp)];refine Paired.snoc (Paired.LJ l λ_ _=>gX.same (fH.del L _)) ⟨M,rfl,?_⟩;rw[fG (by simpa using X)];exact v;rcases aE.mp Z with y|y;exact p m y;rw[af.mp y];exact Y;rw[lm]at t;exact q D d b j ⟨e,g,Paired.LJ l λ_ _=>gX.same (gy _ _)⟩ p t
def Hx:fL ["_law_shelf","_law_pick","_law_entry"] ["_law_shelf","_law_pick"] (fE p3):=jD
def vY (F:je K "_law_needs_in" "_law_needs_in" p3 f fd):gv P w K mg base gM 1 f fd ["_law_shelf","_law_pick"] vi:=by
 refine F.ok Hx λT A q s H Y Q E Z h=>?_;obtain⟨a,v,d,k,rfl,⟨xs,G,hp⟩,⟨C,rfl,D⟩,U,q1,q2⟩:=h;refine⟨_,(fm (ie PassesOwn.never rfl (gL (pv 0)) (fQ (i:=2) Hx.nd) (fz (gK (PW.pt (kU (ge iN (fZ gs (pv 2) fD) (fZ gs (pv 1) fD) (gr _)) (jV (ge iN (fZ gs (pv 2) fD) (fZ gs (pv 1) fD) (gr _))))) (fz (gc (fZ gs (pv 2) fD))) gi))) (fz (gc ja))),?_⟩;have N:xs.length=d.length:=Paired.length hp;refine⟨_,rfl,a,rfl,⟨xs,gf.of G⟩,iE (K:=K) (a:=a) (xs:=xs) (λi σ g=>∃o,σ=[some (.ref a),some (.ref C),o]/\g=H/\k∉(d.take i).map fN) ⟨none,rfl,rfl,by simp⟩ ((by rintro i σ g _ ⟨_,_,e,_⟩;exact e▸gf.of G)) ?_ ?_⟩;rintro i x σ g X ⟨o,rfl,rfl,b⟩;obtain⟨e,J,j,S,M,rfl,B,O,R⟩:=Paired.Ml hp X;have L:d.take (i+1)=d.take i++[e]:=by rw[aZ,J];rfl
 have step:¬fN e=k->k∉(d.take (i+1)).map fN:=λl I=>by rw[L,aC]at I;rcases aE.mp I with y|y;exact b y;rw[aH,df,af]at y;exact l y.symm
 refine⟨_,rfl,j,_,_,_,rfl,rfl,jg.of B,rfl,_,rfl,C,_,_,_,rfl,rfl,jg.of D,rfl,rfl,_,rfl,?_⟩;rw[md];refine ke (λc=>?_) (λc=>?_);refine⟨_,rfl,j,_,_,_,rfl,rfl,jg.of B,rfl,_,rfl,C,_,_,_,rfl,rfl,jg.of D,rfl,rfl,_,rfl,?_⟩;refine ke (λt=>?_) (λt=>?_);have m:e.1=k.1:=ba c;have p:e.2.1=k.2:=V.int.inj (ba t);exact⟨_,rfl,j,_,_,_,rfl,rfl,jg.of B,rfl,q1 e (ak J) (Prod.ext m p) S M O R⟩;refine⟨_,rfl,rfl,step λz=>t (aq ?_)⟩;rw[<-z];rfl;refine gB ⟨_,rfl,rfl,step λz=>c (aq ?_)⟩;rw[<-z];rfl;rintro σ g ⟨o,rfl,rfl,b⟩;rw[N,aN]at b;exact q2 b
end
inductive Cb (K:fh)(vs:eW V)(H:Hp)(Q:VK)(E:XK):Prop
 |mk (a:eQ)(ns:eW Int)(_:vs=[.ref a])(_:gf K H a (ns.map V.int))(_:ns.length<=63)(_:∀t sh st (es:eW En) (sn:eW Nd) H',fH H H'->H' t=some (.tup [.ref sh,.ref st])->i6 H' sh es->(es.map fN).Nodup->(∀e∈es,lP e)->es.length<=59->(∀e∈es,Lw e)->iu H' st sn->(∀n∈sn,gU n.1)->sn.length<=63->Q (.ref t) H')
def u3 (ns:eW Int)(a b:fc Int):∃ms:eW Int,lG (ns.map V.int) a b=ms.map V.int/\ms.length<=ns.length:=by refine⟨(ns.drop (HT.oP (ns.map V.int).length 0 a)).take (HT.oP (ns.map V.int).length (ns.map V.int).length b-HT.oP (ns.map V.int).length 0 a),?_,?_⟩;unfold lG;rw[cN,List.map_drop];rw[aW,dC];omega
def BP (ns:eW Int)(k:Nat):∃ms:eW Int,lG (ns.map V.int) (some (k:Int)) none=ms.map V.int/\ms.length<=ns.length-k:=by have e:HT.oP (ns.map V.int).length 0 (some (k:Int))=min k (ns.map V.int).length:=HT.nK _ _ k;refine⟨(ns.drop (HT.oP (ns.map V.int).length 0 (some (k:Int)))).take (HT.oP (ns.map V.int).length (ns.map V.int).length none-HT.oP (ns.map V.int).length 0 (some (k:Int))),?_,?_⟩;unfold lG;rw[cN,List.map_drop];rw[aW,dC,e,ae];omega
section
variable {w:fe}{base:fb}{f:eQ}
def Ei:fL ["_law_script","_law_shelf"] ["_law_script"] (fE vN):=jD
def A9 (F:je K "_law_asked_by" "_law_asked_by" vN f fd)(G:Gd P w K mg base gM 3 "_law_shelf_by" ["_law_cells"] (BY K))(G2:Gd P w K mg base gM 3 "_law_start_by" ["_law_cells"] (ve K))(Z:Gd P w K mg base gM 1 "_law_at" ["_law_script","_law_k"] (Ke K)):gv P w K mg base gM 4 f fd ["_law_script"] (Cb K):=by refine F.ok Ei λaa A j s H vs Q E o h=>?_;obtain⟨a,e,rfl,C,hl,q⟩:=h;have x:iF 1 _:=o.mono (by decide);refine⟨_,(fm (fJ (i:=1) Ei.nd (iM G o (fi (jt jU (pv 0) (jE fD) j9) fq))) (fz (gc (ig (fi (pv 1) (fi (iM G2 o (fi (jt jU (pv 0) (jE fD) (jE (fU nh fD (fU iB (iM Z x (fi (pv 0) (fi fD fq))) fD)))) fq)) fq)))))),?_⟩;obtain⟨p,e1,l1⟩:=BP e 4;refine⟨_,rfl,4,rfl,a,_,rfl,C,λp1 g=>?_⟩;rw[show lG (e.map V.int) (some 4) none=p.map V.int from e1];have s1:=fB g (.lst (p.map V.int));refine⟨p1,p,rfl,gf.of fj,by omega,λJ es xs H2 U ab N B v y ad l=>?_⟩;have b:=s1.trans U;refine⟨_,rfl,_,rfl,1,rfl,_,rfl,a,e,0,rfl,b.seq C,Int.le_refl 0,λz=>⟨_,_,rfl,rfl,(by show(0:Int)<4;decide),_,_,rfl,rfl,_,rfl,a,_,rfl,b.seq C,λR m=>?_⟩⟩;obtain⟨I,Y,l2⟩:=u3 e (some 1) (some (1+z % 4));rw[Y];have s3:=fB m (.lst (I.map V.int));refine⟨R,I,rfl,gf.of fj,by omega,λM sn H4 O X D T=>?_⟩;refine⟨pO,λt S=>?_⟩;have L:=fB S (.tup [.ref J,.ref M]);have d:=(s3.trans O).trans L;exact q t J M es sn _ (b.trans d) fj (i6.same d ⟨xs,N,Paired.LJ B λ_ _=>km.same (gy _ _)⟩) v y (by omega) l (iu.same L X) D (by omega)
end
def gX.Oh {ys:eW V}{n:Nd}(hp:H p=some (.lst ys))(h:gX H v n):gX (upd H p (.lst zs)) v n:=by obtain⟨q,b,a⟩:=h;exact⟨q,b,by rw[fw (gF a hp (by intro z;cases z))];exact a⟩
def fX.Oh {ys:eW V}{k:Pk}(hp:H p=some (.lst ys))(h:fX H v k):fX (upd H p (.lst zs)) v k:=by obtain⟨q,b,a⟩:=h;exact⟨q,b,by rw[fw (gF a hp (by intro z;cases z))];exact a⟩
theorem pM (x:Str):∀xs:eW Str,((xs.map PyData.str).any λz=>PyData.eqv z (.str x))=decide (x∈xs)
 |[]=>by simp
 |y::xs=>by
  rw[aH,ei,pM x xs];have e:PyData.eqv (.str y) (.str x)=(y == x):=by simp[PyData.eqv]
  rw[e];by_cases h:y=x;subst h;simp;have b:(y == x)=false:=beq_false_of_ne h;rw[b,Bool.false_or];have:(x∈y::xs)↔x∈xs:=by rw[ao];exact⟨λz=>z.resolve_left λq=>h q.symm,.inr⟩
  simp only[this]
theorem nI:∀{xs:eW Str},(∀x∈xs,gU x)->PyData.canLayAll0 (xs.map PyData.str)=true
 |[],_=>rfl
 |x::xs,h=>by rw[aH,PyData.canLayAll0,nI λy hy=>h y (by simp[hy])];simp[PyData.canLay0,(h x (by simp)).ok]
theorem og (H:Hp):∀xs:eW Str,oJ H (xs.map V.str) (xs.map PyData.str)
 |[]=>.nil
 |x::xs=>.cons (.str x) (og H xs)
def lg (es:eW En)(ps:eW Pk):Nat:=(es.filter λe=>decide (e.1∉ps.map (·.1))).length
def Bn (es:eW En)(ps:eW Pk):lg es ps<=es.length:=bK _ _
theorem qC {ps:eW Pk}{k:Pk}:∀es:eW En,lg es (ps++[k])<=lg es ps
 |[]=>am _
 |e::es=>by have ih:=qC (ps:=ps) (k:=k) es;unfold lg at *;rw[aI,aI];by_cases h:e.1∈(ps++[k]).map (·.1);rw[ax (λz=>absurd h (ba z))];split;rw[au];omega;exact ih;have h':e.1∉ps.map (·.1):=λz=>h (by rw[aC];exact aK _ z);rw[ay (aq h),ay (aq h'),au,au];omega
theorem qD {ps:eW Pk}{k:Pk}(a:k.1∉ps.map (·.1)):∀{es:eW En},k∈es.map fN->lg es (ps++[k])+1<=lg es ps
 |[],h=>by simp at h
 |e::es,h=>by
  rw[aH,ao]at h;by_cases he:fN e=k;have h1:e.1=k.1:=by rw[<-he];rfl
  have m:=qC (ps:=ps) (k:=k) es;unfold lg at *;rw[aI,aI,ax (by rw[h1];simp),ay (by rw[h1];exact aq a),au];omega;have d:=qD a (es:=es) (h.resolve_left λz=>he z.symm);unfold lg at *;rw[aI,aI];by_cases h2:e.1∈(ps++[k]).map (·.1);rw[ax (λz=>absurd h2 (ba z))];split;rw[au];omega;exact d;have b:e.1∉ps.map (·.1):=λz=>h2 (by rw[aC];exact aK _ z);rw[ay (aq h2),ay (aq b),au,au];omega
theorem Bl:∀(ps:eW Pk) (es:eW En),iw es ps->(ps.map (·.1)).Nodup->ps.length<=es.length
 |[],_,_,_=>bp _
 |k::ps,es,h,hn=>by
  rw[aH,bb]at hn;have ih:=Bl ps (es.filter λe=>decide (e.1≠k.1)) (λj hj=>by
   obtain⟨e,he,rfl⟩:=aA.mp (h j (by simp[hj]));refine aA.mpr ⟨e,aY.mpr ⟨he,aq λz=>hn.1 ?_⟩,rfl⟩;rw[<-z]
   exact aA.mpr ⟨fN e,hj,rfl⟩) hn.2
  obtain⟨e,he,hk⟩:=aA.mp (h k (by simp));have:(es.filter λe=>decide (e.1≠k.1)).length<es.length:=List.length_filter_lt_length_iff_exists.mpr ⟨e,he,by rw[<-hk];simp[fN]⟩;rw[au];omega
structure vt (H0 H:Hp)(p:eQ)(es:eW En)(ps:eW Pk):Prop where
 at_:∃xs,H p=some (.lst xs)/\ff (fX H) xs ps
 new:H0 p=none
 sm:fH H0 H
 on:iw es ps
 nd:(ps.map (·.1)).Nodup
def vt.same {H':Hp}(I:vt H0 H p es ps)(s:fH H H'):vt H0 H' p es ps:=
 ⟨(by obtain⟨xs,h1,h2⟩:=I.at_;exact⟨xs,s _ _ h1,Paired.LJ h2 λ_ _=>fX.same s⟩),I.new,I.sm.trans s,I.on,I.nd⟩
def vt.add {xs:eW V}{k:Pk}(I:vt H0 H p es ps)(hx:H p=some (.lst xs))(a:ff (fX H) xs ps)(e:fX H v k)(b:k∈es.map fN)(g:k.1∉ps.map (·.1)):vt H0 (upd H p (.lst (xs++[v]))) p es (ps++[k]):=by refine⟨⟨_,fj,Paired.snoc (Paired.LJ a λ_ _=>fX.Oh hx) (fX.Oh hx e)⟩,I.new,fH.upd I.sm I.new,λj d=>?_,?_⟩;rcases aE.mp d with y|y;exact I.on j y;rw[af.mp y];exact b;rw[aC];exact pC I.nd g
def vt.parts (I:vt H0 H p es ps)(hok:∀e∈es,lP e):∀x∈ps.map (·.1),gU x:=λx hx=>by
 obtain⟨k,hk,rfl⟩:=aA.mp hx;obtain⟨e,he,rfl⟩:=aA.mp (I.on k hk);exact(hok e he).pt
def Fd (h:iw es ps)(a:∀e∈es,lP e):nY 2 (.list (ps.map oQ))=true:=by rw[nY,bN];intro d b;obtain⟨k,g,rfl⟩:=aA.mp b;obtain⟨e,i,rfl⟩:=aA.mp (h k g);simp[oQ,nY,fN,(a e i).pt.ok]
def Fy {sn:eW Nd}(h:∀n∈sn,gU n.1):nY 2 (.list (sn.map Cq))=true:=by rw[nY,bN];intro d a;obtain⟨n,b,rfl⟩:=aA.mp a;exact Be (h n b)
structure Lv (H0 H:Hp)(wa:eQ)(wn:eW Nd):Prop where
 at_:∃zs,H wa=some (.lst zs)/\ff (gX H) zs wn
 new:H0 wa=none
 ok:∀n∈wn,gU n.1
inductive vg (vs:eW V)(H:Hp)(Q:VK)(E:XK):Prop
 |mk (sh st:eQ)(seed:Int)(es:eW En)(sn:eW Nd)(_:vs=[.ref sh,.ref st,.int seed])(_:i6 H sh es)(_:(es.map fN).Nodup)(_:∀e∈es,lP e)(_:es.length<=59)(_:iu H st sn)(_:∀n∈sn,gU n.1)(_:sn.length<=63)(_:∀p (ps:eW Pk) H',fH H H'->jJ H' p ps->iw es ps->(ps.map (·.1)).Nodup->ps.length<=es.length->Q (.ref p) H')
inductive Kl (H0:Hp)(es:eW En)(sh st p:eQ)(seed:Int)(m:Nat)(σ:Lake.St)(H:Hp):Prop
 |mk (wa wn ps tn o6 o7 o8:_)(_:σ=[some (.ref sh),some (.ref st),some (.int seed),some (.ref p),some (.ref wa),some (.int tn),o6,o7,o8,none])(_:vt H0 H p es ps)(_:Lv H0 H wa wn)(_:wa≠p)(_:101*lg es ps+wn.length=m)
structure Km (H0:Hp)(es:eW En)(sh st p:eQ)(seed:Int)(m:Nat)(σ:Lake.St)(H:Hp):Prop where
 ex:Kl H0 es sh st p seed m σ H
 le:m<=7000
def Bd:(["_law_pick"]:eW Str).Nodup:=by decide +kernel
def mZ {xs:eW V}{σ:Lake.St}{Q:VK}(hx:H p=some (.lst xs))(hp:ff (fX H) xs ps)(y:ps.length<=900)(q:∀D H',fH H H'->H D=none->H' D=some (.lst ((ps.map (·.1)).map V.str))->Q (.ref D) H'):o0 (Ey K p) (jl 0) pc (EF (qh K) (lK 0) (tC (.int 0))) (frees 1 [] σ) H Q:=by
 have t:=Paired.length hp;refine iK (xs:=xs) (λD i e a=>e=((ps.take i).map (·.1)).map V.str/\a D=some (.lst e)/\fH H a/\H D=none) (λD m=>⟨by simp,fj,fB m _,m⟩)
  (λD i e a l ⟨b,g,d,_⟩=>⟨gf.of (d _ _ hx),g,?_⟩) (λD i x e a l ⟨b,g,d,h⟩=>?_) (λD e a ⟨b,g,d,h⟩=>?_)
 rw[b,ae,ae,aW];exact fO (by omega);obtain⟨k,s,v,rfl,j⟩:=Paired.Ml hp l;have o:ps.take (i+1)=ps.take i++[k]:=by rw[aZ,s];rfl
 unfold jl pc;dsimp only;rw[ay rfl];refine⟨_,rfl,v,_,_,_,rfl,rfl,jg.of (d _ _ j),rfl,g,?_,fj,fH.upd d h,h⟩;rw[o,b,aC,aC];rfl;rw[t,aN]at b;subst b;exact q D a d h g
theorem qu {α β:Type}{F:α->β->Prop}:∀{as:eW α} {bs:eW β},ff F as bs->ff F as.reverse bs.reverse
 |_,_,.nil=>.nil
 |_,_,.cons r t=>by rw[cF,cF];exact Paired.snoc (qu t) r
def vt.out (I:vt H0 H p es ps):jJ H p ps/\ps.length<=es.length:=⟨I.at_,Bl ps es I.on I.nd⟩
def oR {qs:eW Pk}(h:iw es ps)(s:∀k∈qs,k∈ps):iw es qs:=λk hk=>h k (s k hk)
def BO:lG (v::zs) (some 1) none=zs:=by
 unfold lG;rw[show HT.oP (v::zs).length 0 (some 1)=min 1 (v::zs).length from HT.nK _ _ 1];have e:min 1 (v::zs).length=1:=by rw[au];omega
 rw[e,show HT.oP (v::zs).length (v::zs).length none=(v::zs).length from rfl,au,List.drop_one,List.tail_cons];exact cK (by omega)
def vt.Oi {wb:eQ}{ws:eW V}(I:vt H0 H p es ps)(hw:H wb=some (.lst ws))(hn:H0 wb=none)(hp:p≠wb):vt H0 (upd H wb (.lst zs)) p es ps:=
 ⟨let ⟨xs,h1,h2⟩:=I.at_;⟨xs,by rw[fw hp];exact h1,Paired.LJ h2 λ_ _=>fX.Oh hw⟩,I.new,fH.upd I.sm hn,I.on,I.nd⟩
def Dt {n:Nd}{z:Int}(h:z∈jc es n):(n.1,z)∈es.map fN:=by unfold jc at h;obtain⟨e,d,rfl⟩:=aA.mp h;have b:=aY.mp d;refine aA.mpr ⟨e,b.1,?_⟩;have a:=b.2;unfold jp at a;rw[aQ]at a;exact Prod.ext (ba a.1) rfl
abbrev Fx:eW Str:=["_law_shelf","_law_start","_law_seed","_law_picks","_law_wanted","_law_turn","_law_need","_law_versions","_law_pick","_law_more"]
def Hm (sh st p:eQ)(seed:Int)(o4 o5 o6 o7 o8 o9:fc V):Lake.St:=[some (.ref sh),some (.ref st),some (.int seed),some (.ref p),o4,o5,o6,o7,o8,o9]
section
variable {w:fe}{base:fb}{f:eQ}
def pV:fL Fx ["_law_shelf","_law_start","_law_seed"] (fE ku):=jD
def vV (F:je K "_law_picks_by" "_law_picks_by" ku f fd)(T:wR K mg)(G:Gd P w K mg base gM 2 "_law_newest" ["_law_shelf","_law_need"] (xT K))(G2:Gd P w K mg base gM 1 "_law_needs_in" ["_law_shelf","_law_pick"] vi):gv P w K mg base gM 3 f fd ["_law_shelf","_law_start","_law_seed"] vg:=by
 refine F.ok pV λcd A aa s H vs Q E hr h=>?_;obtain⟨sh,st,b,B,sn,rfl,bx,du,M,eh,c2,c9,d7,q⟩:=h;have cy:iF 1 _:=hr.mono (by decide);have r6:∃tR:TS,lI (lN gM P w K mg base Fx "_law_picks_by" (fE ku) f cd A aa s H E).nox ((gZ ku).drop 6) tR/\
   ∀p a o4 o5 R S U o9 L,vt H L p B a->tR {nx:=λ_ L=>Q .non L,rt:=Q} (Hm sh st p b o4 o5 R S U o9) L:=by
  refine⟨_,(fm (gK (ge iN (fU iB (fU iQ (pv 2) fD) fD) fD (gr _)) (fz (gc (xl rfl rfl T.list rfl T.rev (pv 3)))) gi) (fz (gc (pv 3)))),?_⟩;intro p a o4 o5 R S U o9 L I;obtain⟨xs,hx,ag⟩:=I.at_;refine⟨_,rfl,_,_,rfl,rfl,⟨by decide,by decide⟩,_,_,rfl,rfl,(by show(0:Int)<2;decide),rfl,_,rfl,?_⟩;refine ke (λ_=>?_) (λ_=>?_);refine⟨_,rfl,p,xs,rfl,gf.of hx,λp2 al=>?_⟩;have J:=fB al (.lst xs.reverse);refine q p2 a.reverse _ (I.sm.trans J) ⟨_,fj,Paired.LJ (qu ag) λ_ _=>fX.same J⟩ (oR I.on λk hk=>cC.mp hk) ?_ (by rw[cb];exact I.out.2);rw[List.map_reverse];exact List.pairwise_reverse.mpr (I.nd.imp λz=>Ne.symm z);exact⟨_,rfl,q p a L I.sm I.out.1 I.on I.nd I.out.2⟩
 obtain⟨ed,c6,an⟩:=r6;have r5:∃tR:TS,lI (lN gM P w K mg base Fx "_law_picks_by" (fE ku) f cd A aa s H E).nox ((gZ ku).drop 5) tR/\
   ∀p a o4 o5 R S U o9 L,vt H L p B a->tR {nx:=λ_ L=>Q .non L,rt:=Q} (Hm sh st p b o4 o5 R S U o9) L:=by
  refine⟨_,(fm (gK (PW.pt (kU (ge iN (fU iB (pv 2) fD) fD (gr _)) (jV (ge (nc hr.units) (pv 0) (gE fq) (gr _))))) (fm (fJ (i:=9) pV.nd (fZ gu (pv 0) (fU iB (fU iQ (pv 2) fD) (gN gO rfl T.len bP (fi (pv 0) fq))))) (fz (gK (ge (mq hr.units) (fZ gs (pv 9) fD) (iG (N':=["_law_pick"]) (n:=1) (js:=[]) rfl (iT.closed) (iz (by decide)) (gL (pv 3)) (λC J H2 fp=>fQ (i:=0) Bd) (λC J H2 fp=>jx) (λC J H2 fp=>fZ (r:=qh K) gs (pv 0) fD (λ_ _=>rfl))) (by with_unfolding_all rfl)) (fz (gq (jM aR bn bj iy (pv 3) (fi (ig (fi (fZ gs (pv 9) fD) (fi (fZ gs (pv 9) fD) fq))) fq)))) gi))) gi) c6),?_⟩;intro p a o4 o5 R S U o9 L I;refine⟨_,rfl,_,_,rfl,rfl,(by show(0:Int)<5;decide),rfl,_,rfl,?_⟩;refine ke (λ_=>?_) (λ_=>gB (an p a o4 o5 R S U o9 L I));refine⟨_,rfl,oM,λe0 a5=>?_⟩;have s1:=fB a5 (.lst []);have I1:=I.same s1;have a1:=i6.same I1.sm bx;refine⟨.list (B.map BF),.list [],a1.rep,.lst fj .nil,jy (vB M) (by decide),rfl,_,rfl,?_⟩;rw[mz];generalize c8:upd L e0 (.lst [])=Ha at *;cases hes:B with|nil=>exact gB (an p a o4 o5 R S U o9 _ (hes▸I1))|cons e1 es'=>
   rw[<-hes];have cv:(B.map BF).isEmpty=false:=by rw[hes];rfl
   rw[cv];refine ip ?_;obtain⟨xs,hx,ag⟩:=a1;have c7:xs.length=B.length:=Paired.length ag;have l:0<(xs.length:Int):=by rw[c7,hes,au];omega
   obtain⟨v,hv,hm⟩:=nB (xs:=xs) (i:=b / 5 % (xs.length:Int)) (bT _ (by omega)) (bJ _ l);obtain⟨iv,dv⟩:=aD.mp hm;obtain⟨e,he,q0,na,zs,rfl,h3,h4,h5⟩:=Paired.Ml ag dv;have b9:=ak he;refine⟨_,rfl,_,rfl,_,_,rfl,rfl,⟨by decide,by decide⟩,_,rfl,sh,_,rfl,.inl (gf.of hx),_,_,rfl,rfl,l,sh,_,_,_,rfl,rfl,gf.of hx,hv,?_⟩;obtain⟨N,O,g⟩:=I1.at_;have bd:a.length<=900:=by have:=I1.out.2;omega
   refine⟨_,rfl,q0,_,_,_,rfl,rfl,jg.of h3,rfl,_,rfl,p,rfl,⟨_,gf.of O⟩,mZ O g bd λD H2 J hD h2=>?_⟩;refine⟨.str e.1,(a.map (·.1)).map PyData.str,.str _,.lst h2 (og _ _),(by simp[PyData.canLay0,(M e b9).pt.ok]),nI (I1.parts M),(by show 0<=60;decide),_,rfl,?_⟩;rw[pM];have I2:=I1.same J;refine ke (λc=>?_) (λc=>an p a o4 o5 R S U _ _ I2);have ah:e.1∉a.map (·.1):=λz=>by rw[aq z]at c;exact absurd c (by decide)
   refine⟨_,rfl,.inl ⟨rfl,_,gf.of (J _ _ O)⟩,_,rfl,q0,_,_,_,rfl,rfl,jg.of (J _ _ h3),rfl,_,rfl,q0,_,_,_,rfl,rfl,jg.of (J _ _ h3),rfl,pO,λt ht=>?_⟩;have s3:=fB ht (.tup [.str e.1,.int e.2.1]);have ly:=Paired.length g;refine⟨p,N,_,rfl,rfl,s3 _ _ (J _ _ O),fO (by omega),?_⟩;exact an p (a++[fN e]) o4 o5 R S U _ _ ((I2.same s3).add (s3 _ _ (J _ _ O)) (Paired.LJ g λ_ _=>fX.same (J.trans s3)) ⟨t,rfl,fj⟩ (br b9) ah)
 obtain⟨d5,dd,be⟩:=r5;refine⟨_,(fm (fJ (i:=3) pV.nd (gE fq)) (fm (fJ (i:=4) pV.nd (iS jI rfl T.list eN (fi (pv 1) fq))) (fm (fJ (i:=5) pV.nd (pv 2)) (fm (kz PassesOwn.never (ge (nc hr.units) (pv 4) (gE fq) (gr _)) (fm (fJ (i:=6) pV.nd (fZ gu (pv 4) fD)) (fm (fJ (i:=4) pV.nd (jt jU (pv 4) (jE fD) j9)) (fm (fJ (i:=7) pV.nd (iM G hr (fi (pv 0) (fi (pv 6) fq)))) (fz (gK (PW.pt (kU (ge (nc hr.units) (pv 7) (gE fq) (gr _)) (jV (ge (mq hr.units) (fZ gs (pv 6) fD) (iG (N':=["_law_pick"]) (n:=1) (js:=[]) rfl (iT.closed) (iz (by decide)) (gL (pv 3)) (λC J H2 fp=>fQ (i:=0) Bd) (λC J H2 fp=>jx) (λC J H2 fp=>fZ (r:=qh K) gs (pv 0) fD (λ_ _=>rfl))) (by with_unfolding_all rfl))))) (fm (fJ (i:=8) pV.nd (ig (fi (fZ gs (pv 6) fD) (fi (fZ gu (pv 7) (fU iB (pv 5) (gN gO rfl T.len bP (fi (pv 7) fq)))) fq)))) (fm (fJ (i:=5) pV.nd (fU iQ (pv 5) fD)) (fm (gq (jM aR bn bj iy (pv 3) (fi (pv 8) fq))) (fz (gq (jM aR PySem.F.slot_list_extend PySem.F.type_list_extend rR (pv 4) (fi (iM G2 cy (fi (pv 0) (fi (pv 8) fq))) fq))))))) gi)))))) (fm (gK (PW.pt (kU (ge iN (fU iB (pv 2) fD) fD (gr _)) (jV (ge (nc hr.units) (pv 3) (gE fq) (gr _))))) (fz (fJ (i:=3) pV.nd (jt jU (pv 3) (jE fD) j9))) gi) dd))))),?_⟩;obtain⟨a6,c1,a2⟩:=c2;refine⟨oM,λp hp=>?_⟩;have s1:=fB hp (.lst []);refine⟨_,rfl,st,a6,rfl,.inl (gf.of (s1 _ _ c1)),λwa bq=>?_⟩;have J:=s1.trans (fB bq (.lst a6));have b1:p≠wa:=fC (o:=.lst []) fj bq;refine⟨_,rfl,?_⟩;have d2:=Paired.length a2;refine⟨Km H B sh st p b,⟨101*lg B []+sn.length,⟨wa,sn,[],b,none,none,none,rfl,⟨⟨[],by rw[fw b1];exact fj,.nil⟩,hp,J,(λk hk=>nomatch hk),bF⟩,⟨⟨a6,fj,Paired.LJ a2 λ_ _=>gX.same J⟩,s1.free bq,c9⟩,Ne.symm b1,rfl⟩,by have:=Bn B [];omega⟩,?_⟩;rintro m σ H2 ⟨⟨wa,wn,a,tn,R,S,U,rfl,I,⟨⟨zs,hz,bm⟩,d4,bl⟩,em,hm⟩,ec⟩;have lz:=Paired.length bm;refine⟨_,rfl,oM,λe0 a5=>?_⟩;have s3:=fB a5 (.lst []);have I3:=I.same s3;refine⟨.list (wn.map Cq),.list [],.lst (s3 _ _ hz) (j8 (λ_ _ z=>gX.rep z) (Paired.LJ bm λ_ _=>gX.same s3)),.lst fj .nil,jy (Fy bl) (by decide),rfl,_,rfl,?_⟩;rw[mz];generalize c8:upd H2 e0 (.lst [])=Ha at *;cases hwn:wn with
 |nil=>
  refine gB ?_;refine⟨_,rfl,_,_,rfl,rfl,(by show(0:Int)<5;decide),rfl,_,rfl,?_⟩;refine ke (λ_=>?_) (λ_=>gB (be p a _ _ _ _ _ _ _ I3));obtain⟨N,O,g⟩:=I3.at_;refine⟨_,rfl,oM,λe2 dt=>?_⟩;have s4:=fB dt (.lst []);have I4:=I3.same s4;refine⟨.list (a.map oQ),.list [],.lst (s4 _ _ O) (j8 (λ_ _ z=>fX.rep z) (Paired.LJ g λ_ _=>fX.same s4)),.lst fj .nil,jy (Fd I.on M) (by decide),rfl,_,rfl,?_⟩;refine ke (λ_=>?_) (λ_=>be p a _ _ _ _ _ _ _ I4);refine⟨_,rfl,1,rfl,p,N,rfl,gf.of (s4 _ _ O),λp2 al=>?_⟩;have s5:=fB al (.lst (lG N (some 1) none));obtain⟨i1,i2,hcut⟩:∃i1 i2,lG N (some 1) none=(N.drop i1).take i2:=⟨_,_,rfl⟩;rw[hcut]at s5 ⊢;have cl:∀k∈(a.drop i1).take i2,k∈a:=λk hk=>List.mem_of_mem_drop (cD hk);have c4:ff (fX Ha) ((N.drop i1).take i2) ((a.drop i1).take i2):=by
   have hd:∀{as:eW V} {bs:eW Pk} (n:Nat),ff (fX Ha) as bs->ff (fX Ha) (as.drop n) (bs.drop n):=by intro as bs n r;induction r generalizing n with|nil=>simpa using Paired.nil|cons h t ih=>cases n with|zero=>exact .cons h t|succ n=>exact ih n
   have dl:∀{as:eW V} {bs:eW Pk} (n:Nat),ff (fX Ha) as bs->ff (fX Ha) (as.take n) (bs.take n):=by intro as bs n r;induction r generalizing n with|nil=>simpa using Paired.nil|cons h t ih=>cases n with|zero=>exact .nil|succ n=>exact .cons h (ih n)
   exact dl i2 (hd i1 g)
  have b8:(((a.drop i1).take i2).map (·.1)).Nodup:=I.nd.sublist (((dW _ _).trans (List.drop_sublist _ _)).map _);refine be p2 ((a.drop i1).take i2) _ _ _ _ _ _ _ ⟨⟨_,fj,Paired.LJ c4 λ_ _=>fX.same (s4.trans s5)⟩,(I4.sm).free al,I4.sm.trans s5,oR I.on cl,b8⟩
 |cons n wn'=>
 subst hwn;cases bm with|@cons v _ zs' _ hv hzp'=>
 refine ip ⟨λσ' L=>∃m',m'<m/\Km H B sh st p b m' σ' L,λ_ _ z=>z,?_⟩;obtain⟨nq,rfl,bv⟩:=id hv;have b5:=s3 _ _ hz;have lw:wn'.length+1+101*lg B a=m:=by rw[au]at hm;omega
 refine⟨_,rfl,wa,_,_,_,rfl,rfl,gf.of b5,pL (j:=0) (v:=V.ref nq) rfl,?_⟩;refine⟨_,rfl,1,rfl,wa,_,rfl,gf.of b5,λwb a7=>?_⟩;rw[BO];have s4:=fB a7 (.lst zs');have I4:=I3.same s4;have bf:H wb=none:=I3.sm.free a7;have ad:p≠wb:=by obtain⟨N,O,_⟩:=I3.at_;exact fC O a7
 have b6:=s3.trans s4;refine⟨_,rfl,_,rfl,sh,.ref nq,B,n,rfl,i6.same I4.sm bx,⟨nq,rfl,b6 _ _ bv⟩,by omega,λp5 X H5 s5 h5 b3 ea p6 c5=>?_⟩;have s6:=fB c5 (.lst (X.map V.int).reverse);have h6:upd H5 p6 (.lst (X.map V.int).reverse) p6=some (.lst (X.reverse.map V.int)):=by rw[fj,List.map_reverse]
 generalize el:upd H5 p6 (.lst (X.map V.int).reverse)=H6 at *;have a8:=s5.trans s6;have I6:=I4.same a8;have b0:=b6.trans a8;have ch:H6 wb=some (.lst zs'):=a8 _ _ fj;have a4:ff (gX H6) zs' wn':=Paired.LJ hzp' λ_ _ z=>gX.same b0 z;have a3:∀x∈wn',gU x.1:=λx hx=>bl x (by simp[hx]);have d9:X.length<=B.length:=by rw[b3.length_eq];exact jH B n
 have skip:∀(H7:Hp) (R S U:fc V),fH H6 H7->∃m',m'<m/\Km H B sh st p b m' [some (.ref sh),some (.ref st),some (.int b),some (.ref p),some (.ref wb),some (.int tn),R,S,U,none] H7:=λH7 R S U s7=>⟨101*lg B a+wn'.length,by omega,⟨wb,wn',a,tn,R,S,U,rfl,I6.same s7,⟨⟨zs',s7 _ _ ch,Paired.LJ a4 λ_ _=>gX.same s7⟩,bf,a3⟩,Ne.symm ad,rfl⟩,by omega⟩;refine⟨_,rfl,oM,λe1 cx=>?_⟩;have s7:=fB cx (.lst []);refine⟨.list (X.reverse.map PyData.int),.list [],.lst (s7 _ _ h6) (rX _ _),.lst fj .nil,jy (k:=1) (by rw[nY,bN];intro d hd;obtain⟨i,_,rfl⟩:=aA.mp hd;rfl) (by decide),rfl,_,rfl,?_⟩;rw[mz];generalize ek:upd H6 e1 (.lst [])=H7 at *;cases hmr:X.reverse with|nil=>exact gB (gB (skip H7 _ _ _ s7))|cons z1 ms'=>
  refine ip ?_;have I7:=I6.same s7;obtain⟨N,O,g⟩:=I7.at_;have bd:a.length<=900:=by have:=I7.out.2;omega
  have co:=b0.trans s7;refine⟨_,rfl,nq,_,_,_,rfl,rfl,jg.of (co _ _ bv),rfl,_,rfl,p,rfl,⟨_,gf.of O⟩,mZ O g bd λD H8 s8 hD h8=>?_⟩;refine⟨.str n.1,(a.map (·.1)).map PyData.str,.str _,.lst h8 (og _ _),(by simp[PyData.canLay0,(bl n (by simp)).ok]),nI (I7.parts M),(by show 0<=60;decide),_,rfl,?_⟩;rw[pM];have I8:=I7.same s8;refine ke (λc=>?_) (λc=>skip H8 _ _ _ (s7.trans s8));have ah:n.1∉a.map (·.1):=λz=>by rw[aq z]at c;exact absurd c (by decide)
  have a9:=s7.trans s8;have dc:=co.trans s8;have b7:H8 p6=some (.lst (X.reverse.map V.int)):=a9 _ _ h6;have dy:(X.reverse.map V.int).length=X.length:=by rw[ae,cb]
  have l:(0:Int)<((X.reverse.map V.int).length:Int):=by rw[hmr];simp
  obtain⟨z,dx,c0⟩:=kg (ns:=X.reverse) (i:=tn % ((X.reverse.map V.int).length:Int)) (bT _ (by omega)) (by rw[ae];rw[ae]at l;exact bJ _ l);have Y:(n.1,z)∈B.map fN:=Dt (b3.mem_iff.mp (cC.mp c0));refine⟨_,rfl,nq,_,_,_,rfl,rfl,jg.of (dc _ _ bv),rfl,_,rfl,_,rfl,_,rfl,p6,_,rfl,.inl (gf.of b7),_,_,rfl,rfl,l,p6,_,_,_,rfl,rfl,gf.of b7,dx,pO,λZ dp=>?_⟩;have s9:=fB dp (.tup [.str n.1,.int z]);have I9:=I8.same s9;have ab:=s9 _ _ (s8 _ _ O);have b2:ff (fX (upd H8 Z (.tup [.str n.1,.int z]))) N a:=Paired.LJ g λ_ _ y=>fX.same (s8.trans s9) y;refine⟨_,rfl,_,_,rfl,rfl,⟨by decide,by decide⟩,?_⟩;have ly:=Paired.length g;refine⟨_,rfl,.inl ⟨rfl,_,gf.of ab⟩,_,rfl,p,N,_,rfl,rfl,ab,fO (by omega),?_⟩;have IA:=I9.add (v:=.ref Z) (k:=(n.1,z)) ab b2 ⟨Z,rfl,fj⟩ Y ah;generalize c3:upd H8 Z (.tup [.str n.1,.int z])=H9 at *;have b4:fX (upd H9 p (.lst (N++[.ref Z]))) (.ref Z) (n.1,z):=fX.Oh ab ⟨Z,rfl,by rw[<-c3];exact fj⟩;have da:H9 wb=some (.lst zs'):=s9 _ _ (a9 _ _ ch);have a0:upd H9 p (.lst (N++[.ref Z])) wb=some (.lst zs'):=by rw[fw (Ne.symm ad)];exact da
  have cn:ff (gX (upd H9 p (.lst (N++[.ref Z])))) zs' wn':=Paired.LJ a4 λ_ _ y=>gX.Oh ab (gX.same (a9.trans s9) y);generalize d6:upd H9 p (.lst (N++[.ref Z]))=HA at *;refine⟨_,rfl,.inl ⟨rfl,_,gf.of a0⟩,_,rfl,_,rfl,sh,.ref Z,B,(n.1,z),rfl,i6.same IA.sm bx,b4,du,λe he d8 na dn cz ct=>?_,λcp=>absurd Y cp⟩;have d3:=Paired.length cn;have eb:=Paired.length ct;have d1:=(M e he).few;have ej:=qD (k:=(n.1,z)) ah Y;refine⟨wb,na,zs',dn,rfl,rfl,a0,cz,by rw[ci];omega,?_⟩;refine⟨101*lg B (a++[(n.1,z)])+(wn'++e.2.2).length,by rw[aB];omega,⟨wb,wn'++e.2.2,a++[(n.1,z)],_,_,_,_,rfl,IA.Oi a0 bf ad,⟨⟨_,fj,?_⟩,bf,λx hx=>?_⟩,Ne.symm ad,rfl⟩,by rw[aB];omega⟩;have ap:∀{as bs:eW V} {cs ds:eW Nd},ff (gX HA) as cs->ff (gX HA) bs ds->ff (gX HA) (as++bs) (cs++ds):=by intro as bs cs ds r1 r2;induction r1 with|nil=>exact r2|cons h t ih=>exact .cons h ih
  exact Paired.LJ (ap cn ct) λ_ _ y=>gX.Oh a0 y;rcases aE.mp hx with y|y;exact a3 x y;exact(M e he).nd x y
end
end
section
def Dy {c:fA}{L:jz}(d:jm c L)(h:∀e∈c.es,Lw e):L.length<sizeLine:=by
 have:=yV (Ps:=uR) (Vs:=xf) d (λk a=>by
  obtain⟨e,b,rfl⟩:=aA.mp ((c.mem k).mp a)
  exact(h e b).1) λk a=>by
  obtain⟨e,b,rfl⟩:=aA.mp ((c.mem k).mp a);exact(h e b).2
 have e:(xf.length+1)^uR.length=4096:=by decide
 rw[e]at this;rw[ci];omega
def uI {es:eW En}{sn:eW Nd}(hok:∀e∈es,lP e)(hs:sn.length<=100):∀w,(ju es sn w).length<=100
 |none=>hs
 |some k=>rQ hok k
end
section
seal lI PS PE PT PA
end
end Lake.FB
namespace Lake.FB
open PySem PySem.Spec PyProof.Rows
variable {C PP:eQ}{K:fh}{ps:eW Str}{st:eX}{x:Str}
def DF {qual:Str}{f c:eQ}{oc:eR}{od an:fc eQ}{osl:Array (fc eR)}{kV doc pm ct:eR}(l:K.lookup f=some ⟨oc,od,.func (W.fnOf x qual (iJ st) (gZ st) (fE st) .none kV doc pm an (.ref c) ct),osl⟩)(hc:W.codeIn K (.ref c) qual=true)(k:W.keepIn K (.ref f)=true):Cm K x qual st f (W.fnOf x qual (iJ st) (gZ st) (fE st) .none kV doc pm an (.ref c) ct) c:=⟨⟨oc,od,kV,doc,pm,an,ct,osl,rfl,l,hc⟩,k⟩
def yW {P:eV}{w:fe}{mg mb:Str->fc eR}{k:Nat}{fa a cP:eQ}{fd:eZ}{sp:Sp}{s₁:eU}{vs:eW eR}{ns:eW Int}(S:K.In s₁.heap)(G:s₁.heap.Ns mainGlobals mg)(g:s₁.heap.Ns builtinsNs mb)(Z:∀x:Str,x≠"__name__"->mb x=bootBuiltins x)(I:s₁.heap.NoLimit)(hg:s₁.gens=#[])(C:s₁.heap.get? a=some {cls:=.type "list",data:=.seq vs.toArray})(hi:IntsAre vs ns)(hl:ns.length<=sizeLine)(hr:iF k callerA)(D:s₁.heap.get? PP=some (W.tabObj #[]))(hC:W.codeHdIn K cP PP=true)(Q:K.lookup PP=none)(aa:um mg s₁.heap)(F:∀base:fb,K.In base->base.Ns mainGlobals mg->um mg base->gv P w K mg base gM k fa fd [x] sp)(B:∀(s:eU) (u:eR),BindsTo s fd ⟨[u],[]⟩ [(x,u)])(ad:∀H:Hp,gf K H a (ns.map V.int)->H PP=some (.tbl #[])->sp [.ref a] H (λv _=>v=.bl true) λ_ _ _=>False):codeAny (model P w) callerA (.call (.ref fa) ⟨[.ref a],[]⟩) (λr s'=>r=.ok (.ret (.bool true))/\OldK s₁.heap s'.heap/\s'.os=s₁.os/\AllBare s'.gens) s₁:=by
 have rv:=nZ hi;have J:=hi.length;have L:a≠PP:=λe=>by rw[e,D]at C;cases C
 have t:∀H:Hp,(∀b,H b=none\/(b=PP/\H b=some (.tbl #[]))\/∃o xs,H b=some (.frz o (.lst xs)))->H PP=some (.tbl #[])->gf K H a (ns.map V.int)->mj P w H s₁.heap->(∀b,H b≠none->b=a\/b=PP)->(H a≠none->K.lookup a=none)->
   codeAny (model P w) callerA (.call (.ref fa) ⟨[.ref a],[]⟩) (λr s'=>r=.ok (.ret (.bool true))/\OldK s₁.heap s'.heap/\s'.os=s₁.os/\AllBare s'.gens) s₁:=by
  intro H hO R hS M X hK;have i:∀{b:eQ} {o:Obj},s₁.heap.get? b=some o->H b=none->(rm s₁.heap H).get? b=some o:=λe n=>Bw e n;have ab:∀{b:eQ} {o:Obj},s₁.heap.get? b=some o->o.cls≠.none->(∀z y,o.data≠.seq z y)->H b=none:=λ{b o} e d1 d2=>by cases q:H b with|none=>rfl|some u=>rcases X b (by rw[q];simp) with e'|e';subst e';rw[C]at e;cases e;exact absurd rfl (d2 _ _);subst e';rw[D]at e;cases e;exact absurd rfl d1
  have ag:∀{b:eQ} {o:Obj} {es:Array DictEntry} {ep:Nat},s₁.heap.get? b=some o->o.data=.dict es ep->H b=none:=λ{b o es ep} e d=>by cases q:H b with|none=>rfl|some u=>rcases X b (by rw[q];simp) with e'|e';subst e';rw[C]at e;cases e;have d':Data.seq vs.toArray _=Data.dict es ep:=d;cases d';subst e';rw[D]at e;cases e;have d':Data.fields #[]=Data.dict es ep:=d;cases d'
  have l:∀{b:eQ} {m:Str->fc eR},s₁.heap.Ns b m->(rm s₁.heap H).Ns b m:=λ{b m} ⟨o,es,ep,e,d,r⟩=>⟨o,es,ep,i e (ag e d),d,r⟩;have N:K.In (rm s₁.heap H):=λb o e=>i (S b o e) (by
   cases q:H b with|none=>rfl|some u=>
    rcases X b (by rw[q];simp) with e'|e';subst e';rw[hK (by rw[q];simp)]at e;cases e;subst e'
    rw[Q]at e;cases e)
  have hM:Mod K mg (rm s₁.heap H):=⟨N,l G,⟨mb,l g,Z⟩,(by obtain⟨mc,h1,h2⟩:=I;exact⟨mc,l h1,h2⟩)⟩;have O:um mg (rm s₁.heap H):=by obtain⟨bm,U,b1,b2,b3,b4,b5,b6⟩:=aa;exact⟨bm,U,b1,b2,i b3 (ab b3 (by rw[b4];exact λz=>nomatch z) λ_ _ z=>by rw[b6]at z;cases z),b4,b5,b6⟩
  have e0:wX P w K mg (rm s₁.heap H) callerA [] s₁ H:=⟨rfl,hM,λb o e=>Dq e,cE (y8 _ _),trivial,λb g=>absurd (show b∈([]:eW eQ) from g) (by simp),M,.of_eq hg⟩;refine eB ((F _ N (l G) O).run callerA [] s₁ H ⟨[.ref a],[]⟩ [.ref a] [.ref a] _ _ hr e0 (B s₁ (.ref a)) (.cons rfl .nil) (ad H hS R)) λr s' h=>?_;cases r with|error e=>exact False.elim h|ok fl=>cases fl with|next=>exact False.elim h|brk=>exact False.elim h|cont=>exact False.elim h|ret u=>obtain⟨v,H',os,E,un,A,r',q⟩:=h;have q':v=.bl true:=q;subst q';obtain rfl:u=Value.bool true:=r';refine⟨rfl,⟨λb o e=>?_,λb o e=>un.there b o e (by simp)⟩,os,E⟩;rcases hO b with z|⟨rfl,z⟩|⟨U,xs,z⟩;exact .inl (un.keep b o e z (by intro z;exact absurd (show b∈([]:eW eQ) from z) (by simp)) (by simp));obtain⟨more,T⟩:=un.tbls b _ z;have Y:s'.heap.get? b=some {cls:=.none,data:=.fields (#[]++more)}:=A b _ T;rw[D]at e;cases e;exact .inr (.inl ⟨((W.codeHd_of_K S hC).tab D).isCodeTable,rfl,#[],more,rfl,Y⟩);have T:=un.frzs b U _ z;obtain⟨e1,_⟩:=M b _ z;obtain⟨Y,_⟩:=A b _ T;rw[e]at e1;cases e1;exact .inl Y
 have j:∀H:Hp,ib P w H s₁.heap PP (.tbl #[]):=λH=>D;cases hk:K.lookup a with|some o=>have e:=S a o hk;rw[C]at e;cases e;refine t (λb=>if b=PP then some (.tbl #[]) else none) (λb=>?_) (ay rfl) (.inr ⟨_,vs.toArray,_,hk,rfl,rfl,rfl,by rw[aP,J];exact hl,by simpa using rv⟩) (λb u z=>?_) (λb z=>?_) λz=>absurd (ax L) z;by_cases g:b=PP;exact .inr (.inl ⟨g,ay g⟩);exact .inl (ax g);by_cases g:b=PP;have p:=(ay g).symm.trans z;cases p;subst g;exact j _;have p:=(ax g).symm.trans z;cases p;by_cases g:b=PP;exact .inr g;exact absurd (ax g) z|none=>refine t (λb=>if b=PP then some (.tbl #[]) else if b=a then some (.frz {cls:=.type "list",data:=.seq vs.toArray} (.lst (ns.map V.int))) else none) (λb=>?_) (ay rfl) (.inl (.inr ⟨{cls:=.type "list",data:=.seq vs.toArray},(ax L).trans (ay rfl)⟩)) (λb u z=>?_) (λb z=>?_) λ_=>hk;by_cases g:b=PP;exact .inr (.inl ⟨g,ay g⟩);by_cases hb2:b=a;exact .inr (.inr ⟨_,_,(ax g).trans (ay hb2)⟩);exact .inl ((ax g).trans (ax hb2));by_cases g:b=PP;have p:=(ay g).symm.trans z;cases p;subst g;exact j _;by_cases hb2:b=a;have p:=((ax g).trans (ay hb2)).symm.trans z;cases p;subst hb2;exact⟨C,by rw[ae];exact hl,vs,_,rv,C⟩;have p:=((ax g).trans (ax hb2)).symm.trans z;cases p;by_cases g:b=PP;exact .inr g;by_cases hb2:b=a;exact .inl hb2;exact absurd ((ax g).trans (ax hb2)) z
def zG {l:W.OpenLaw}{n k:Nat}{q:eV}{loose:eW Str}{XP:(Str->fc eR)->fb->Prop}{YP:fe->fb->Prop}{d:DefRec}{K:Params->fh}{sp:fe->Sp}(N:l.most=some n)(y:n<=sizeLine)(p:d.params.defaults=[])(L:iF k callerA)(J:∀(w:fe) (h:fb),YP w h->(K w.params).In h)(t:∀(w:fe) (h:fb),YP w h->h.get? PP=some (W.tabObj #[]))(m:∀w:fe,(K w.params).lookup PP=none)(F:∀(w:fe) (mg:Str->fc eR) (fa:eQ) (h:fb),(K w.params).In h->h.Ns mainGlobals mg->mg d.name=some (.ref fa)->∃(fd:eZ) (cP:eQ),W.codeHdIn (K w.params) cP PP=true/\(∀(s:eU) (u:eR),BindsTo s fd ⟨[u],[]⟩ [(x,u)])/\∀base:fb,(K w.params).In base->base.Ns mainGlobals mg->um mg base->gv l.prog w (K w.params) mg base gM k fa fd [x] (sp w))(A:∀(w:fe) (H:Hp) (a:eQ) (ns:eW Int),ns.length<=n->gf (K w.params) H a (ns.map V.int)->H PP=some (.tbl #[])->sp w [.ref a] H (λv _=>v=.bl true) λ_ _ _=>False):W.WalkO q loose XP YP l.row.toRowW d [] (λf vs=>PySem.call f vs):=by refine Att.vc N p λw s₀ s₁ mg U fa o S Z M a vs ns G Y X R Q z j i e E=>?_;have B:=J w _ Y;obtain⟨fd,cP,C,D,I⟩:=F w mg fa _ B G.T.g z;exact yW B G.T.g G.T.b G.T.builtins G.T.nolimit E j i (bz e y) L (t w _ Y) C (m w) G.T.bmain I D λH P O=>A w H a ns e P O
def zf {α:Type}{p:eW α->Prop}(h:∀a,p [a]):∀us:eW α,us.length=1->p us
 |[a],_=>h a
def ze {α:Type}{p:eW α->Prop}(h:∀a b,p [a,b]):∀us:eW α,us.length=2->p us
 |[a,b],_=>h a b
def zd {α:Type}{p:eW α->Prop}(h:∀a b c,p [a,b,c]):∀us:eW α,us.length=3->p us
 |[a,b,c],_=>h a b c
def zc {α:Type}{p:eW α->Prop}(h:∀a b c d,p [a,b,c,d]):∀us:eW α,us.length=4->p us
 |[a,b,c,d],_=>h a b c d
inductive mU (K:fh)(x:Str)(st:eX)(f:eQ):Prop
 |mk {oc kV dc pm cd ct:eR}{od an:fc eQ}{sl:Array (fc eR)}(_:W.nsIn K mainGlobals x=some (some (.ref f)))(_:K.lookup f=some ⟨oc,od,.func (W.fnOf x x (iJ st) (gZ st) (fE st) .none kV dc pm an cd ct),sl⟩)(_:W.codeIn K cd x=true)(_:W.keepIn K (.ref f)=true)
inductive mB (K:fh)(C:eQ)(m q:Str)(st:eX)(f:eQ):Prop
 |mk {oc kV dc pm cd ct:eR}{od an:fc eQ}{sl:Array (fc eR)}(_:W.findIn K (.ref C) m=some (some (.ref f)))(_:W.isFn K (.ref f)=true)(_:K.lookup f=some ⟨oc,od,.func (W.fnOf m q (iJ st) (gZ st) (fE st) .none kV dc pm an cd ct),sl⟩)(_:W.codeIn K cd q=true)(_:W.keepIn K (.ref f)=true)
inductive KH (K:fh)(C:eQ)(m q:Str)(st:eX)(f PP:eQ):Prop
 |mk {oc kV dc pm ct:eR}{cd:eQ}{od an:fc eQ}{sl:Array (fc eR)}(_:W.findIn K (.ref C) m=some (some (.ref f)))(_:W.isFn K (.ref f)=true)(_:K.lookup f=some ⟨oc,od,.func (W.fnOf m q (iJ st) (gZ st) (fE st) .none kV dc pm an (.ref cd) ct),sl⟩)(_:W.codeIn K (.ref cd) q=true)(_:W.keepIn K (.ref f)=true)(_:W.codeHdIn K cd PP=true)
structure Cr (K:fh)(x:Str)(C:eQ):Prop where
 a:W.nsIn K mainGlobals x=some (some (.ref C))
 pg:W.plainGet K C Str.empty=true
 hd:W.hasDictIn K C=true
 po:W.plainOver K C=true
 sa:W.findIn K (.ref C) "__setattr__" = some (some (.builtin "object.__setattr__"))
 mk_:W.makesIn K C=true
 kc:W.keepIn K (.ref C)=true
section
variable {K:fh}{h:fb}{mg:Str->fc eR}(X:K.In h)(G:h.Ns mainGlobals mg)
def Cr.c (d:Cr K x C):su K C:=⟨d.pg,d.hd,d.po,d.sa⟩
include X G in
theorem mU.u {f:eQ}(d:mU K x st f)(hb:∀(kV doc pm:eR) (an:fc eQ) (cdv ct:eR) (us:eW eR),us.length=ps.length->bindArgs (W.fnOf x x (iJ st) (gZ st) (fE st) .none kV doc pm an cdv ct) ⟨us,[]⟩=pure (ps.zip us):=by intro _ _ _ _ _ _;first|exact zf λ_=>rfl|exact ze λ_ _=>rfl|exact zd λ_ _ _=>rfl|exact zc λ_ _ _ _=>rfl|exact zb λ_ _ _ _ _=>rfl):∃fd,je K x x st f fd/\jf K fd ps []/\W.keepIn K (.ref f)=true/\mg x=some (.ref f):=by obtain @⟨i,kV,h,pm,e,ct,g,an,b,a,l,c,k⟩:=d;exact⟨_,oB l c k,(oB l c k).binds hb,k,W.mg_of X G a⟩
theorem mB.u {m q:Str}{f:eQ}(d:mB K C m q st f)(hb:autoParam (∀(kV doc pm:eR) (an:fc eQ) (cdv ct:eR) (us:eW eR),us.length=ps.length->bindArgs (W.fnOf m q (iJ st) (gZ st) (fE st) .none kV doc pm an cdv ct) ⟨us,[]⟩=pure (ps.zip us)) Lake.FB.mU.u._auto_1):∃fd,je K m q st f fd/\jf K fd ps []/\wV K C m f:=by obtain @⟨j,kV,h,pm,e,ct,g,an,b,a,i,l,c,k⟩:=d;exact⟨_,oB l c k,(oB l c k).binds hb,a,i,k⟩
theorem KH.u {m q:Str}{f:eQ}(d:KH K C m q st f PP)(hb:autoParam (∀(kV doc pm:eR) (an:fc eQ) (cdv ct:eR) (us:eW eR),us.length=ps.length->bindArgs (W.fnOf m q (iJ st) (gZ st) (fE st) .none kV doc pm an cdv ct) ⟨us,[]⟩=pure (ps.zip us)) Lake.FB.mU.u._auto_1):∃fd b,Cm K m q st f fd b/\jf K fd ps []/\wV K C m f/\W.codeHdIn K b PP=true:=by obtain @⟨h,kV,g,pm,ct,b,o,an,j,a,i,l,c,k,e⟩:=d;exact⟨_,b,DF l c k,(oB l c k).binds hb,⟨a,i,k⟩,e⟩
end
end Lake.FB
namespace Lake.FB
open PySem PyProof.Rows
section
variable {H H':Hp}{a:eQ}{v:V}
structure lq (H H':Hp):Prop where
 l:∀a xs,H a=some (.lst xs)->H' a=some (.lst xs)
 t:∀a xs,H a=some (.tup xs)->H' a=some (.tup xs)
def lq.of (e:fH H H'):lq H H':=⟨λa xs=>e a _,λa xs=>e a _⟩
def lq.trans {H1 H2:Hp}(a:lq H H1)(b:lq H1 H2):lq H H2:=⟨λc xs h=>b.l c xs (a.l c xs h),λc xs h=>b.t c xs (a.t c xs h)⟩
def lq.tab {PP:eQ}(d:gQ qY pE H PP)(e:fF (del H [PP]) H'):lq H H':=by
 obtain⟨u,hu,fu⟩:∃u,H PP=some u/\vv u:=by rcases d with z|⟨g,z,_⟩;exact⟨_,z,trivial⟩;exact⟨_,z,trivial⟩
 exact⟨λa b h=>e.lst (jh hu fu h λz=>z),λa b h=>e.tup (jh hu fu h λz=>z)⟩
section
variable {H H':Hp}(e:lq H H')
include e
theorem gX.k {n:Nd}(h:gX H v n):gX H' v n:=(by obtain⟨q,h1,h2⟩:=h;exact⟨q,h1,e.t _ _ h2⟩)
theorem fX.k {n:Pk}(h:fX H v n):fX H' v n:=(by obtain⟨q,h1,h2⟩:=h;exact⟨q,h1,e.t _ _ h2⟩)
theorem iu.k {ns:eW Nd}(h:iu H a ns):iu H' a ns:=(by obtain⟨xs,h1,h2⟩:=h;exact⟨xs,e.l _ _ h1,Paired.LJ h2 λ_ _=>gX.k e⟩)
theorem jJ.k {ns:eW Pk}(h:jJ H a ns):jJ H' a ns:=(by obtain⟨xs,h1,h2⟩:=h;exact⟨xs,e.l _ _ h1,Paired.LJ h2 λ_ _=>fX.k e⟩)
theorem km.k {n:En}(h:km H v n):km H' v n:=(by obtain⟨q,a,xs,h1,h2,h3,h4⟩:=h;exact⟨q,a,xs,h1,e.t _ _ h2,e.l _ _ h3,Paired.LJ h4 λ_ _=>gX.k e⟩)
theorem i6.k {es:eW En}(h:i6 H a es):i6 H' a es:=(by obtain⟨xs,h1,h2⟩:=h;exact⟨xs,e.l _ _ h1,Paired.LJ h2 λ_ _=>km.k e⟩)
end
end
section
seal lI PS PE PT PA
variable {A:eP}{E:XK}{H H':Hp}{K:fh}{P:eV}{PP pk sh st:eQ}{Q:VK}{cdv:eR}{d:D3}{es:eW En}{fd:eZ}{mg:Str->fc eR}{outer:eW Env}{ps:eW Pk}{s:eU}{sn:eW Nd}{xs:eW V}
structure qW (K:fh)(CT CN CV CE D:eQ)(a b c:Bool):Prop where
 f:DI K D=true
 e:W.exmOne K (.ref D) (.ref CE)=some true
 v:W.kitOne K (.ref D) (.type "ValueError")=some true
 k1:W.kitOne K (.ref D) (.ref CT)=some a
 k2:W.kitOne K (.ref D) (.ref CN)=some b
 k3:W.kitOne K (.ref D) (.ref CV)=some c
 x1:W.exmOne K (.ref D) (.ref CT)=some a
 x2:W.exmOne K (.ref D) (.ref CN)=some b
 x3:W.exmOne K (.ref D) (.ref CV)=some c
structure KG (K:fh)(mg:Str->fc eR)(CT CN CV CE:eQ):Prop where
 mT:mg "TwiceThere" = some (.ref CT)
 mN:mg "NoEntry" = some (.ref CN)
 mV:mg "TwoVersions" = some (.ref CV)
 mE:mg "BoardError" = some (.ref CE)
 t:qW K CT CN CV CE CT true false false
 n:qW K CT CN CV CE CN false true false
 v:qW K CT CN CV CE CV false false true
structure rA (H:Hp)(PP:eQ)(es:eW En)(sn:eW Nd)(ps:eW Pk)(sh st pk:eQ):Prop where
 sh:i6 H sh es
 ok:∀e∈es,lP e
 el:es.length<64
 st:iu H st sn
 sl:sn.length<=63
 pk:jJ H pk ps
 po:∀k∈ps,gU k.1
 pl:ps.length<=900
 lw:∀e∈es,Lw e
 tab:gQ qY pE H PP
def rA.k (M:rA H PP es sn ps sh st pk)(e:lq H H')(t:gQ qY pE H' PP):rA H' PP es sn ps sh st pk:=⟨i6.k e M.sh,M.ok,M.el,iu.k e M.st,M.sl,jJ.k e M.pk,M.po,M.pl,M.lw,t⟩
def zx (i:Nat)(es:eW En)(ps:eW Pk)(d:D3):Prop:=oK es (if i<=2 then ps else []) d
inductive Es (PP:eQ)(rs:D3->V)(vs:eW V)(H:Hp)(Q:VK)(E:XK):Prop
 |mk (i:Nat)(sh st pk:eQ)(es:eW En)(sn:eW Nd)(ps:eW Pk)(d:D3)(_:vs=[.int i,.ref sh,.ref st,.ref pk])(_:i<6)(_:rA H PP es sn ps sh st pk)(_:zx i es ps d)(_:∀H',lq H H'->gQ qY pE H' PP->Q (rs d) H')
def D3.r:D3->Bool
 |.done=>false
 |_=>true
def zV (PP:eQ):Sp:=Es PP λd=>.str d.w
def Ee (PP:eQ):Sp:=Es PP λd=>.bl d.r
inductive Iy (CT CN CV PP:eQ)(H:Hp)(τ:Lake.St)(d:D3)(σ:Lake.St)(cls:eR)(H':Hp):Prop
 |mk (_:d≠.done)(_:σ=τ)(_:cls=.ref (d.c CT CN CV))(_:lq H H')(_:gQ qY pE H' PP)
abbrev zC (CT CN CV PP:eQ)(H:Hp)(τ:Lake.St)(d:D3):Lake.St->XK:=λσ cls _ H'=>Iy CT CN CV PP H τ d σ cls H'
section
variable {w:fe}{base:fb}{f:eQ}{CT CN CV CE:eQ}
structure Kh (P:eV)(w:fe)(K:fh)(mg:Str->fc eR)(base:fb)(CT CN CV PP:eQ):Prop where
 a:Gd P w K mg base (nG P w) 9 "first_clash" ["shelf","start","picks"] (GJ CT CN CV)
 b:Gd P w K mg base (nG P w) 9 "first_open" ["shelf","start","picks"] (GJ CT CN CV)
 c:Gd P w K mg base (nG P w) 9 "fits" ["shelf","start","picks"] (GJ CT CN CV)
 d:Gd P w K mg base (nG P w) 9 "fitting" ["shelf","need"] (Gf CT)
 e:Gd P w K mg base (nG P w) 9 "first_bad" ["shelf","start","lines"] (Ca CT)
 f:Gd P w K mg base (nG P w) 9 "worked_out" ["shelf","start"] (ud CT PP)
def t8 {d':D3}(h:oK es ps d)(h':oK es ps d'):d=d':=by cases d <;> cases d' <;> first|rfl|exact absurd h'.1 h|exact absurd h.1 h'|exact absurd h'.2.1 h.2|exact absurd h.2.1 h'.2|exact absurd h'.2.2 h.2.2|exact absurd h.2.2 h'.2.2
def DJ (h:oK es [] d):(d=.done/\(es.map fN).Nodup)\/(d=.twice/\¬(es.map fN).Nodup):=by cases d with|done=>exact .inl ⟨rfl,h.1⟩|twice=>exact .inr ⟨rfl,h⟩|no=>exact absurd (λk a=>nomatch a) h.2|two=>exact absurd bF h.2.2
section
variable {H:Hp}{es:eW En}{sn:eW Nd}{ps:eW Pk}{sh st pk:eQ}{d:D3}{Q:VK}{E:XK}(M:rA H PP es sn ps sh st pk)(q1:d=.done->∀v H',lq H H'->gQ qY pE H' PP->Q v H')(q2:d≠.done->∀H',lq H H'->gQ qY pE H' PP->E (.ref (d.c CT CN CV)) none H')
include M q1 q2
theorem rA.r3 (hd:oK es ps d):GJ CT CN CV [.ref sh,.ref st,.ref pk] H Q E:=
 ⟨sh,pk,st,es,sn,ps,rfl,M.sh,M.ok,M.el,M.st,bz M.sl (by decide),M.pk,M.po,M.pl,λh v H' s=>q1 (t8 hd h) v H' (lq.of s) (gQ.f s.toF M.tab),λd' n h H' s=>t8 hd h▸q2 (t8 hd h▸n) H' (lq.of s) (gQ.f s.toF M.tab)⟩
theorem rA.tw (a:oK es [] d):((es.map fN).Nodup->∀v H',lq H H'->gQ qY pE H' PP->Q v H')/\(¬(es.map fN).Nodup->∀H',fH H H'->E (.ref CT) none H'):=by rcases DJ a with ⟨rfl,n⟩|⟨rfl,n⟩;exact⟨λ_=>q1 rfl,λz=>absurd n z⟩;exact⟨λz=>absurd z n,λ_ H' s=>q2 (λz=>nomatch z) H' (lq.of s) (gQ.f s.toF M.tab)⟩
theorem rA.fit {v:V}{n:Nd}(e:oK es [] d)(g:gX H v n):Gf CT [.ref sh,v] H Q E:=by obtain⟨a,b⟩:=M.tw q1 q2 e;exact⟨sh,v,es,n,rfl,M.sh,g,M.ok,M.el,λz p i h s _ _ _=>a z _ h (lq.of s) (gQ.f s.toF M.tab),b⟩
theorem rA.bad {la:eQ}(e:oK es [] d)(h:H la=some (.lst [])):Ca CT [.ref sh,.ref st,.ref la] H Q E:=by obtain⟨a,b⟩:=M.tw q1 q2 e;exact⟨sh,st,la,es,rfl,M.sh,M.ok,M.el,h,λz g s=>a z _ g (lq.of s) (gQ.f s.toF M.tab),b⟩
theorem rA.wo (e:oK es [] d):ud CT PP [.ref sh,.ref st] H Q E:=by obtain⟨a,b⟩:=M.tw q1 q2 e;exact⟨sh,st,es,sn,rfl,M.sh,M.ok,M.el,M.st,uI M.ok (bz M.sl (by decide)),M.tab,λc g j L i=>Dy i (g▸M.lw),λz h t s u=>a z _ h (lq.tab M.tab s) u,b⟩
end
def pU:fL ["_law_which","_law_shelf","_law_start","_law_picks","_law_word"] ["_law_which","_law_shelf","_law_start","_law_picks"] (fE Ad):=jD
def zY:fL ["_law_which","_law_shelf","_law_start","_law_picks","e","_law_under"] ["_law_which","_law_shelf","_law_start","_law_picks"] (fE pY):=jD
def De (F:je K "_law_said" "_law_said" Ad f fd)(l:KG K mg CT CN CV CE)(S:Kh P w K mg base CT CN CV PP):gv P w K mg base gM 10 f fd ["_law_which","_law_shelf","_law_start","_law_picks"] (zV PP):=by
 refine F.ok pU λab A G s H vs Q E B h=>?_;obtain⟨i,L,O,R,es,sn,ps,d,rfl,hi,M,m,q⟩:=h;obtain⟨_,_,F1,U,j,m1⟩:=S.a.ex;obtain⟨_,_,F2,b2,k2,Y⟩:=S.b.ex;obtain⟨_,_,F3,b3,k3,Z⟩:=S.c.ex;obtain⟨_,_,F4,b4,k4,m4⟩:=S.d.ex;obtain⟨_,_,F5,X,k5,m5⟩:=S.e.ex;obtain⟨_,_,F6,b6,k6,T⟩:=S.f.ex;have D:∃τ:Lake.St,τ=[some (.int i),some (.ref L),some (.ref O),some (.ref R),some (.str "done")]:=⟨_,rfl⟩;obtain⟨τ,hτ⟩:=D;refine⟨_,fm (fJ (i:=4) pU.nd iA) (fm (xi (Wz:=Iy CT CN CV PP H τ d) rfl rfl (λN=>(fz (gK (ge iN (pv 0) fD (gr _)) (fz (gq (iW (EX:=zC CT CN CV PP H τ d) F1 B rfl m1 j U lJ (fi (pv 1) (fi (pv 2) (fi (pv 3) fq)))))) (fz (gK (ge iN (pv 0) fD (gr _)) (fz (gq (iW (EX:=zC CT CN CV PP H τ d) F2 B rfl Y k2 b2 lJ (fi (pv 1) (fi (pv 2) (fi (pv 3) fq)))))) (fz (gK (ge iN (pv 0) fD (gr _)) (fz (gq (iW (EX:=zC CT CN CV PP H τ d) F3 B rfl Z k3 b3 lJ (fi (pv 1) (fi (pv 2) (fi (pv 3) fq)))))) (fz (gK (ge iN (pv 0) fD (gr _)) (fz (gq (iW (EX:=zC CT CN CV PP H τ d) F4 B rfl m4 k4 b4 lJ (fi (pv 1) (fi (ig (fi iA (fi fD (fi fD fq)))) fq))))) (fz (gK (ge iN (pv 0) fD (gr _)) (fz (gq (iW (EX:=zC CT CN CV PP H τ d) F5 B rfl m5 k5 X lJ (fi (pv 1) (fi (pv 2) (fi (gE fq) fq)))))) (fz (gq (iW (EX:=zC CT CN CV PP H τ d) F6 B rfl T k6 b6 lJ (fi (pv 1) (fi (pv 2) fq)))))))))))))))) (mw rfl l.mT (lS λ_=>fz (fJ (i:=4) pU.nd iA)) (mw rfl l.mN (lS λ_=>fz (fJ (i:=4) pU.nd iA)) (mw rfl l.mV (lS λ_=>fz (fJ (i:=4) pU.nd iA)) uO)))) (fz (gc (pv 4)))),?_⟩;have p:d=.done->∀{H1:Hp},lq H H1->∀g,lq H1 g->gQ qY pE g PP->Q (.str "done") g:=λm _ e g k t=>by have z:=q g (e.trans k) t;rw[m]at z;exact z
 have x:∀{H1:Hp},lq H H1->d≠.done->∀g,lq H1 g->gQ qY pE g PP->Iy CT CN CV PP H τ d [some (.int i),some (.ref L),some (.ref O),some (.ref R),some (.str "done")] (.ref (d.c CT CN CV)) g:=λe I g k t=>⟨I,hτ.symm,rfl,e.trans k,t⟩;have o:lq H H:=lq.of (fH.refl H);refine⟨?_,λσ' aa g z=>?_⟩
 match i,hi with
 |0,_=>exact⟨_,rfl,rfl,_,rfl,ip ⟨_,rfl,_,rfl,_,rfl,M.r3 (λe _ g k t=>⟨_,rfl,p e o g k t⟩) (x o) m⟩⟩
 |1,_=>exact⟨_,rfl,rfl,_,rfl,gB ⟨_,rfl,rfl,_,rfl,ip ⟨_,rfl,_,rfl,_,rfl,M.r3 (λe _ g k t=>⟨_,rfl,p e o g k t⟩) (x o) m⟩⟩⟩
 |2,_=>exact⟨_,rfl,rfl,_,rfl,gB ⟨_,rfl,rfl,_,rfl,gB ⟨_,rfl,rfl,_,rfl,ip ⟨_,rfl,_,rfl,_,rfl,M.r3 (λe _ g k t=>⟨_,rfl,p e o g k t⟩) (x o) m⟩⟩⟩⟩
 |3,_=>refine⟨_,rfl,rfl,_,rfl,gB ⟨_,rfl,rfl,_,rfl,gB ⟨_,rfl,rfl,_,rfl,gB ⟨_,rfl,rfl,_,rfl,ip ⟨_,rfl,zE,λa J=>?_⟩⟩⟩⟩⟩;have C:=fB J (.tup [.str "ashenashenashen",.int 0,.int 0]);have j:=lq.of C;exact(M.k j (gQ.f C.toF M.tab)).fit (n:=("ashenashenashen",0,0)) (λe _ g k t=>⟨_,rfl,p e j g k t⟩) (x j) m ⟨a,rfl,fj⟩
 |4,_=>refine⟨_,rfl,rfl,_,rfl,gB ⟨_,rfl,rfl,_,rfl,gB ⟨_,rfl,rfl,_,rfl,gB ⟨_,rfl,rfl,_,rfl,gB ⟨_,rfl,rfl,_,rfl,ip ⟨_,rfl,_,rfl,oM,λa J=>?_⟩⟩⟩⟩⟩⟩;have C:=fB J (.lst []);have j:=lq.of C;exact(M.k j (gQ.f C.toF M.tab)).bad (λe _ g k t=>⟨_,rfl,p e j g k t⟩) (x j) m fj
 |5,_=>exact⟨_,rfl,rfl,_,rfl,gB ⟨_,rfl,rfl,_,rfl,gB ⟨_,rfl,rfl,_,rfl,gB ⟨_,rfl,rfl,_,rfl,gB ⟨_,rfl,rfl,_,rfl,gB ⟨_,rfl,_,rfl,M.wo (λe _ g k t=>⟨_,rfl,p e o g k t⟩) (x o) m⟩⟩⟩⟩⟩⟩
 obtain⟨I,rfl,rfl,k,t⟩:=z;subst hτ;cases d with|done=>exact absurd rfl I|twice=>exact .y l.t.x1 ⟨_,rfl,q _ k t⟩|no=>exact .n l.n.x1 (.y l.n.x2 ⟨_,rfl,q _ k t⟩)|two=>exact .n l.v.x1 (.n l.v.x2 (.y l.v.x3 ⟨_,rfl,q _ k t⟩))
end
def DN:bootBuiltins "ValueError" = some (.type "ValueError"):=by decide +kernel
section
variable {w:fe}{base:fb}{f:eQ}{CT CN CV CE:eQ}
def Fr (F:je K "_law_refuses" "_law_refuses" pY f fd)(T:wR K mg)(D:mg "ValueError" = none)(x:KG K mg CT CN CV CE)(S:Kh P w K mg base CT CN CV PP):gv P w K mg base gM 10 f fd ["_law_which","_law_shelf","_law_start","_law_picks"] (Ee PP):=by
 refine F.ok zY λaa A J s H vs Q E o h=>?_;obtain⟨i,U,N,R,es,sn,ps,d,rfl,hi,M,m,q⟩:=h;obtain⟨_,_,F1,b1,k1,m1⟩:=S.a.ex;obtain⟨_,_,F2,b2,k2,m2⟩:=S.b.ex;obtain⟨_,_,F3,b3,k3,m3⟩:=S.c.ex;obtain⟨_,_,F4,b4,k4,m4⟩:=S.d.ex;obtain⟨_,_,F5,b5,k5,m5⟩:=S.e.ex;obtain⟨_,_,F6,b6,k6,m6⟩:=S.f.ex;have I:∃τ:Lake.St,τ=[some (.int i),some (.ref U),some (.ref N),some (.ref R),none,none]:=⟨_,rfl⟩;obtain⟨τ,hτ⟩:=I;refine⟨_,fm (xi (Wz:=Iy CT CN CV PP H τ d) rfl rfl (λY=>(fz (gK (ge iN (pv 0) fD (gr _)) (fz (gq (iW (EX:=zC CT CN CV PP H τ d) F1 o rfl m1 k1 b1 lJ (fi (pv 1) (fi (pv 2) (fi (pv 3) fq)))))) (fz (gK (ge iN (pv 0) fD (gr _)) (fz (gq (iW (EX:=zC CT CN CV PP H τ d) F2 o rfl m2 k2 b2 lJ (fi (pv 1) (fi (pv 2) (fi (pv 3) fq)))))) (fz (gK (ge iN (pv 0) fD (gr _)) (fz (gq (iW (EX:=zC CT CN CV PP H τ d) F3 o rfl m3 k3 b3 lJ (fi (pv 1) (fi (pv 2) (fi (pv 3) fq)))))) (fz (gK (ge iN (pv 0) fD (gr _)) (fz (gq (iW (EX:=zC CT CN CV PP H τ d) F4 o rfl m4 k4 b4 lJ (fi (pv 1) (fi (ig (fi iA (fi fD (fi fD fq)))) fq))))) (fz (gK (ge iN (pv 0) fD (gr _)) (fz (gq (iW (EX:=zC CT CN CV PP H τ d) F5 o rfl m5 k5 b5 lJ (fi (pv 1) (fi (pv 2) (fi (gE fq) fq)))))) (fz (gq (iW (EX:=zC CT CN CV PP H τ d) F6 o rfl m6 k6 b6 lJ (fi (pv 1) (fi (pv 2) fq)))))))))))))))) (mw rfl x.mE (zP (i:=4) zY.nd rfl rfl λe X=>fm (fJ (i:=5) zY.nd (gE (fi (gN (nQ (aJ _ (af.mpr rfl))) rfl T.isin boot_isinstance (fi (pv 4) (fi (mn (v:=.ref CT) rfl x.mT rfl) fq))) (fi (gN (nQ (aJ _ (af.mpr rfl))) rfl T.isin boot_isinstance (fi (pv 4) (fi (mn (v:=.ref CN) rfl x.mN rfl) fq))) (fi (gN (nQ (aJ _ (af.mpr rfl))) rfl T.isin boot_isinstance (fi (pv 4) (fi (mn (v:=.ref CV) rfl x.mV rfl) fq))) fq))))) (fz (gc (tJ (gN (nQ (aJ _ (af.mpr rfl))) rfl T.isin boot_isinstance (fi (pv 4) (fi (HJ rfl D DN) fq))) (tI (kJ iN (jM aR PySem.F.slot_list_count PySem.F.type_list_count yO (pv 5) (fi qp fq)) fD (gr _))))))) uO)) (fz (gc qp)),?_⟩;have B:d=.done->∀{H1:Hp},lq H H1->∀g,lq H1 g->gQ qY pE g PP->Q (.bl false) g:=λm _ e g k t=>by have z:=q g (e.trans k) t;rw[m]at z;exact z
 have C:∀{H1:Hp},lq H H1->d≠.done->∀g,lq H1 g->gQ qY pE g PP->Iy CT CN CV PP H τ d [some (.int i),some (.ref U),some (.ref N),some (.ref R),none,none] (.ref (d.c CT CN CV)) g:=λe L g k t=>⟨L,hτ.symm,rfl,e.trans k,t⟩;have p:lq H H:=lq.of (fH.refl H);refine⟨?_,λσ' ab g z=>?_⟩
 match i,hi with
 |0,_=>exact⟨_,rfl,rfl,_,rfl,ip ⟨_,rfl,_,rfl,_,rfl,M.r3 (λe _ g k t=>B e p g k t) (C p) m⟩⟩
 |1,_=>exact⟨_,rfl,rfl,_,rfl,gB ⟨_,rfl,rfl,_,rfl,ip ⟨_,rfl,_,rfl,_,rfl,M.r3 (λe _ g k t=>B e p g k t) (C p) m⟩⟩⟩
 |2,_=>exact⟨_,rfl,rfl,_,rfl,gB ⟨_,rfl,rfl,_,rfl,gB ⟨_,rfl,rfl,_,rfl,ip ⟨_,rfl,_,rfl,_,rfl,M.r3 (λe _ g k t=>B e p g k t) (C p) m⟩⟩⟩⟩
 |3,_=>refine⟨_,rfl,rfl,_,rfl,gB ⟨_,rfl,rfl,_,rfl,gB ⟨_,rfl,rfl,_,rfl,gB ⟨_,rfl,rfl,_,rfl,ip ⟨_,rfl,zE,λa G=>?_⟩⟩⟩⟩⟩;have j:=fB G (.tup [.str "ashenashenashen",.int 0,.int 0]);have k1:=lq.of j;exact(M.k k1 (gQ.f j.toF M.tab)).fit (n:=("ashenashenashen",0,0)) (λe _ g k t=>B e k1 g k t) (C k1) m ⟨a,rfl,fj⟩
 |4,_=>refine⟨_,rfl,rfl,_,rfl,gB ⟨_,rfl,rfl,_,rfl,gB ⟨_,rfl,rfl,_,rfl,gB ⟨_,rfl,rfl,_,rfl,gB ⟨_,rfl,rfl,_,rfl,ip ⟨_,rfl,_,rfl,oM,λa G=>?_⟩⟩⟩⟩⟩⟩;have j:=fB G (.lst []);have k1:=lq.of j;exact(M.k k1 (gQ.f j.toF M.tab)).bad (λe _ g k t=>B e k1 g k t) (C k1) m fj
 |5,_=>exact⟨_,rfl,rfl,_,rfl,gB ⟨_,rfl,rfl,_,rfl,gB ⟨_,rfl,rfl,_,rfl,gB ⟨_,rfl,rfl,_,rfl,gB ⟨_,rfl,rfl,_,rfl,gB ⟨_,rfl,_,rfl,M.wo (λe _ g k t=>B e p g k t) (C p) m⟩⟩⟩⟩⟩⟩
 obtain⟨L,rfl,rfl,k,t⟩:=z;subst hτ;obtain⟨a,b,c,X1,hc,o⟩:∃a b c,qW K CT CN CV CE (d.c CT CN CV) a b c/\[a,b,c].count true=1/\d.r=true:=by cases d with|done=>exact absurd rfl L|twice=>exact⟨_,_,_,x.t,rfl,rfl⟩|no=>exact⟨_,_,_,x.n,rfl,rfl⟩|two=>exact⟨_,_,_,x.v,rfl,rfl⟩
 refine .y X1.e λe X h1 Z h3=>?_;have O:KZ K X (d.c CT CN CV):=⟨h1,Z,h3⟩;refine⟨_,rfl,⟨_,.ref CT,a,rfl,O,X1.f,X1.k1,_,rfl,⟨_,.ref CN,b,rfl,O,X1.f,X1.k2,_,rfl,⟨_,.ref CV,c,rfl,O,X1.f,X1.k3,zE,λl hl=>?_⟩⟩⟩⟩;have j:=fB hl (.lst [.bl a,.bl b,.bl c]);refine⟨_,rfl,⟨_,.ty "ValueError",true,rfl,O,X1.f,X1.v,true,rfl,ip ?_⟩⟩;refine⟨_,rfl,.inl ⟨rfl,_,gf.of fj⟩,l,a,b,c,rfl,rfl,fj,rfl,?_⟩;rw[hc];have z:=q _ (k.trans (lq.of j)) (gQ.f j.toF t);rw[o]at z;exact z
end
inductive Gg (PP:eQ)(vs:eW V)(H:Hp)(Q:VK)(E:XK):Prop
 |mk (i:Nat)(sh st pk:eQ)(es:eW En)(sn:eW Nd)(ps:eW Pk)(d:D3)(_:vs=[.str d.w,.int i,.ref sh,.ref st,.ref pk])(_:i<6)(_:rA H PP es sn ps sh st pk)(_:zx i es ps d)(_:∀H',lq H H'->gQ qY pE H' PP->Q (.bl true) H')
section
variable {w:fe}{base:fb}{f:eQ}
def HD:fL ["_law_due","_law_which","_law_shelf","_law_start","_law_picks"] ["_law_due","_law_which","_law_shelf","_law_start","_law_picks"] (fE vO):=jD
def Fv (F:je K "_law_as_due" "_law_as_due" vO f fd)(O:Gd P w K mg base gM 10 "_law_refuses" ["_law_which","_law_shelf","_law_start","_law_picks"] (Ee PP))(J:Gd P w K mg base gM 10 "_law_said" ["_law_which","_law_shelf","_law_start","_law_picks"] (zV PP)):gv P w K mg base gM 11 f fd ["_law_due","_law_which","_law_shelf","_law_start","_law_picks"] (Gg PP):=by refine F.ok HD λD A b s H R Q E o h=>?_;obtain⟨i,j,x,z,p,m,l,d,rfl,v,M,g,q⟩:=h;refine⟨_,fm (gK (ge Ek (iM O o (fi (pv 1) (fi (pv 2) (fi (pv 3) (fi (pv 4) fq))))) (kJ Ek (pv 0) iA (gr _)) (gr _)) oh gi) (fz (gc (kJ iN (iM J o (fi (pv 1) (fi (pv 2) (fi (pv 3) (fi (pv 4) fq))))) (pv 0) (gr _)))),?_⟩;refine⟨_,rfl,_,rfl,_,rfl,_,rfl,⟨i,j,x,z,p,m,l,d,rfl,v,M,g,λI y G=>?_⟩⟩;have N:∀a,lq I a->gQ qY pE a PP->Q (.bl true) a:=λa e t=>q a (y.trans e) t;cases d <;> exact⟨_,rfl,rfl,rfl,_,rfl,gB ⟨_,rfl,_,rfl,_,rfl,_,rfl,⟨i,j,x,z,p,m,l,_,rfl,v,M.k y G,g,λL C B=>⟨_,rfl,rfl,N L C B⟩⟩⟩⟩
end
abbrev tN:eW Str:=["_law_script","_law_shelf","_law_start","_law_seed","_law_picks","_law_entry","_law_more","_law_old","_law_names","_law_due","_law_parts","_law_twice","_law_which","_law_word"]
def JF (sc sh st:eQ)(seed:Int)(pk:eQ)(o5 o6 o7:fc V):Lake.St:=[some (.ref sc),some (.ref sh),some (.ref st),some (.int seed),some (.ref pk),o5,o6,o7,none,none,none,none,none,none]
def j7:fL tN ["_law_script"] (fE kT):=jD
def HL:gU "zinc":=⟨by decide +kernel,by decide +kernel⟩
def nU (P:eV)(w:fe)(K:fh)(mg:Str->fc eR)(base:fb)(f:eQ)(cdv:eR)(A:eP)(outer:eW Env)(s:eU)(H:Hp)(Q:VK)(E:XK)(PP:eQ)(k m n:Nat):Prop:=
 ∃tR:TS,lI (lN gM P w K mg base tN "law" (fE kT) f cdv A outer s H E).nox ((gZ kT).drop k) tR/\
   ∀(es:eW En) (sn:eW Nd) (ps:eW Pk) (sc sh st pk:eQ) (seed:Int) (o5 o6 o7:fc V) (H':Hp),rA H' PP es sn ps sh st pk->es.length<=m->ps.length<=n->tR {nx:=λ_ H'=>Q .non H',rt:=Q} (JF sc sh st seed pk o5 o6 o7) H'
def rA.same (M:rA H PP es sn ps sh st pk)(s:fH H H'):rA H' PP es sn ps sh st pk:=M.k (lq.of s) (gQ.f s.toF M.tab)
def rA.pks {qs:eW Pk}{pq:eQ}(M:rA H PP es sn ps sh st pk)(h:jJ H pq qs)(po:∀k∈qs,gU k.1)(l:qs.length<=900):rA H PP es sn qs sh st pq:=⟨M.sh,M.ok,M.el,M.st,M.sl,h,po,l,M.lw,M.tab⟩
def Paired.app {α β:Type}{F:α->β->Prop}{as as':eW α}{bs bs':eW β}(h:ff F as bs)(h':ff F as' bs'):ff F (as++as') (bs++bs'):=by induction h with|nil=>exact h'|cons h t ih=>exact .cons h ih
section
variable {w:fe}{base:fb}{f:eQ}
theorem J1 (r:nU P w K mg base f cdv A outer s H Q E PP 8 59 62):nU P w K mg base f cdv A outer s H Q E PP 7 59 61:=by obtain⟨T,O,q⟩:=r;refine⟨_,fm (gK (ge iN (fU iB (pv 3) fD) fD (gr _)) (fz (fJ (i:=4) j7.nd (fU ng (gE (fi (ig (fi iA (fi fD fq))) fq)) (pv 4)))) gi) O,?_⟩;intro C B v I t F pk a x o y S M b J;refine⟨_,rfl,_,_,rfl,rfl,(by show(0:Int)<7;decide),rfl,_,rfl,?_⟩;refine ke (λ_=>?_) (λ_=>q C B v I t F pk a x o y S M b (by lia));obtain⟨l,N,d⟩:=M.pk;have U:=Paired.length d;refine⟨pO,λh j=>⟨D8,λR m=>?_⟩⟩;have D:=fB j (.tup [.str "zinc",.int 0]);have g:=fB m (.lst [.ref h]);refine⟨_,rfl,R,pk,_,l,rfl,rfl,fj,(D.trans g) _ _ N,bY (fO (by show 1+l.length<=1000;lia)),λp hp=>?_⟩;have G:=fB hp (.lst ([.ref h]++l));have e:=(D.trans g).trans G;exact q C B ((("zinc",0):Pk)::v) I t F p a x o y _ ((M.same e).pks ⟨_,fj,.cons ⟨h,rfl,G _ _ (g _ _ fj)⟩ (Paired.LJ d λ_ _=>fX.same e)⟩ (λk L=>(ao.mp L).elim (λz=>z▸HL) (M.po k)) (by rw[au];lia)) b (by rw[au];lia)
theorem J2 (r:nU P w K mg base f cdv A outer s H Q E PP 7 59 61):nU P w K mg base f cdv A outer s H Q E PP 6 59 60:=by obtain⟨Z,X,t⟩:=r;refine⟨_,fm (gK (ge iN (fU iB (pv 3) fD) fD (gr _)) (fz (fJ (i:=4) j7.nd (fU ng (pv 4) (gE (fi (ig (fi iA (fi (fZ gu (gE (fi fD (fi (jL kS fD) (fi fD fq)))) (fU iB (fU iQ (pv 3) fD) fD)) fq))) fq))))) gi) X,?_⟩;intro F D x L v I pk a y q C Y M b N;refine⟨_,rfl,_,_,rfl,rfl,(by show(0:Int)<7;decide),rfl,_,rfl,?_⟩;refine ke (λ_=>?_) (λ_=>t F D x L v I pk a y q C Y M b (by lia));obtain⟨m,T,d⟩:=M.pk;have lx:=Paired.length d;refine⟨_,rfl,_,rfl,zE,λS g=>?_⟩;obtain⟨z,R,_⟩:=kg (ns:=[1,-9,1000000000001]) (i:=a / 7 % 3) (bT _ (by decide)) (bJ _ (by decide));have B:=fB g (.lst [.int 1,.int (-9),.int 1000000000001]);refine⟨_,rfl,_,_,rfl,rfl,⟨by decide,by decide⟩,_,_,rfl,rfl,(by show(0:Int)<3;decide),S,_,_,_,rfl,rfl,gf.of fj,R,pO,λj l=>⟨D8,λU o=>?_⟩⟩;have G:=fB l (.tup [.str "ashenashenashen",.int z]);have h:=fB o (.lst [.ref j]);refine⟨pk,U,m,_,rfl,rfl,((B.trans G).trans h) _ _ T,fj,bY (fO (by show m.length+1<=1000;lia)),λp hp=>?_⟩;have J:=fB hp (.lst (m++[.ref j]));have e:=((B.trans G).trans h).trans J;exact t F D (x++[(("ashenashenashen",z):Pk)]) L v I p a y q C _ ((M.same e).pks ⟨_,fj,Paired.snoc (Paired.LJ d λ_ _=>fX.same e) ⟨j,rfl,J _ _ (h _ _ fj)⟩⟩ (λk O=>(aE.mp O).elim (M.po k) λz=>(af.mp z)▸xn) (by rw[aB,aM];lia)) b (by rw[aB,aM];lia)
theorem J3 (T:wR K mg)(hu:(lN gM P w K mg base tN "law" (fE kT) f cdv A outer s H E).nox.A.units+64<cLine)(r:nU P w K mg base f cdv A outer s H Q E PP 6 59 60):nU P w K mg base f cdv A outer s H Q E PP 5 59 59:=by
 obtain⟨tR,hR,N⟩:=r;refine⟨_,fm (gK (PW.pt (kU (ge iN (fU iB (pv 3) fD) fD (gr _)) (jV (ge (nc hu) (pv 1) (gE fq) (gr _))))) (fm (fJ (i:=5) j7.nd (fZ gu (pv 1) (fU iB (fU iQ (pv 3) fD) (gN gO rfl T.len bP (fi (pv 1) fq))))) (fm (fJ (i:=6) j7.nd (gE (fi (ig (fi (fZ gs (pv 5) fD) (fi (fZ gs (pv 5) fD) fq))) fq))) (fz (fJ (i:=4) j7.nd (fZ gu (gE (fi (fU ng (pv 4) (pv 6)) (fi (fU ng (pv 6) (pv 4)) fq))) (fU iB (fU iQ (pv 3) fD) fD)))))) gi) hR,?_⟩;intro m O p S sh I pk b o5 o6 G H' M j a1;refine⟨_,rfl,_,_,rfl,rfl,(by show(0:Int)<3;decide),rfl,_,rfl,?_⟩;refine ke (λ_=>?_) (λ_=>gB (N m O p S sh I pk b o5 o6 G H' M j (by lia)));refine⟨_,rfl,oM,λe0 X=>?_⟩;have s1:=fB X (.lst []);have M1:=M.same s1;refine⟨.list (m.map BF),.list [],M1.sh.rep,.lst fj .nil,jy (vB M.ok) (by decide),rfl,_,rfl,?_⟩;rw[mz];generalize a2:upd H' e0 (.lst [])=Ha at *;obtain⟨xs,hx,q⟩:=M1.sh;have ab:=Paired.length q;cases hes:m with|nil=>exact gB (N _ O p S sh I pk b o5 o6 G _ (hes▸M1) (by rw[cH];lia) (by lia))|cons e1 es'=>
  rw[<-hes];have Z:(m.map BF).isEmpty=false:=by rw[hes];rfl
  rw[Z];refine ip ?_;have h:0<(xs.length:Int):=by rw[ab,hes,au];omega
  obtain⟨v,hv,hm⟩:=nB (xs:=xs) (i:=b / 3 % (xs.length:Int)) (bT _ (by omega)) (bJ _ h);obtain⟨iv,a0⟩:=aD.mp hm;obtain⟨e,he,q0,na,zs,rfl,h3,h4,h5⟩:=Paired.Ml q a0;have Y:=ak he;refine⟨_,rfl,_,rfl,_,_,rfl,rfl,⟨by decide,by decide⟩,_,rfl,sh,_,rfl,.inl (gf.of hx),_,_,rfl,rfl,h,sh,_,_,_,rfl,rfl,gf.of hx,hv,?_⟩;refine⟨_,rfl,q0,_,_,_,rfl,rfl,jg.of h3,rfl,_,rfl,q0,_,_,_,rfl,rfl,jg.of h3,rfl,pO,λd ad=>⟨D8,λR an=>?_⟩⟩;have s2:=fB ad (.tup [.str e.1,.int e.2.1]);have J:=fB an (.lst [.ref d]);obtain⟨g,hy,x⟩:=M1.pk;have ly:=Paired.length x;refine⟨_,rfl,_,rfl,pk,R,g,_,rfl,rfl,(s2.trans J) _ _ hy,fj,bY (fO (by show g.length+1<=1000;lia)),λt ah=>?_⟩;have U:=fB ah (.lst (g++[.ref d]));refine⟨_,rfl,_,rfl,R,pk,_,g,rfl,rfl,U _ _ fj,((s2.trans J).trans U) _ _ hy,bY (fO (by show 1+g.length<=1000;lia)),λL ap=>⟨pO,λl6 ag=>?_⟩⟩;have s5:=fB ap (.lst ([.ref d]++g));have s6:=fB ag (.lst [.ref t,.ref L]);have C:=(U.trans s5).trans s6;have B:=(s2.trans J).trans C;have l:fX _ (.ref d) (fN e):=⟨d,rfl,C _ _ (J _ _ fj)⟩;have D:=Paired.LJ x λ_ _ z=>fX.same B z;have M6:=M1.same B;have aa:=s6 _ _ (s5 _ _ (fj (H:=upd (upd Ha d (.tup [.str e.1,.int e.2.1])) R (.lst [.ref d])) (a:=t) (o:=.lst (g++[.ref d]))));have as:=s6 _ _ (fj (H:=upd (upd (upd Ha d (.tup [.str e.1,.int e.2.1])) R (.lst [.ref d])) t (.lst (g++[.ref d]))) (a:=L) (o:=.lst ([.ref d]++g)));obtain⟨v6,al,hm6⟩:=nB (xs:=[V.ref t,V.ref L]) (i:=b / 9 % 2) (bT _ (by decide)) (bJ _ (by decide));refine⟨_,rfl,_,_,rfl,rfl,⟨by decide,by decide⟩,_,_,rfl,rfl,(by show(0:Int)<2;decide),l6,_,_,_,rfl,rfl,gf.of fj,al,?_⟩;have F:∀k∈p,gU k.1:=M.po;have y:gU (fN e).1:=(M.ok e Y).pt;rcases ao.mp hm6 with rfl|hm6;exact N m O (p++[fN e]) S sh I t b _ _ G _ (M6.pks ⟨_,aa,Paired.snoc D l⟩ (λk l=>(aE.mp l).elim (F k) λz=>(af.mp z)▸y) (by rw[aB,aM];lia)) j (by rw[aB,aM];lia);rw[af.mp hm6];exact N m O (fN e::p) S sh I L b _ _ G _ (M6.pks ⟨_,as,.cons l D⟩ (λk l=>(ao.mp l).elim (λz=>z▸y) (F k)) (by rw[au];lia)) j (by rw[au];lia)
end
def Iw {k:Nat}:lG xs (some (k:Int)) none=xs.drop k:=by unfold lG;rw[HT.nK,HT.qb];rcases Nat.le_total k xs.length with h|h;rw[Nat.min_eq_left h];exact cK (by rw[dC];exact am _);rw[Nat.min_eq_right h,List.drop_length,List.drop_eq_nil_of_le h];exact List.take_nil
def Er {k:Nat}:lG xs none (some (k:Int))=xs.take k:=by unfold lG;rw[HT.nK,HT.qb,Nat.sub_zero,List.drop_zero];rcases Nat.le_total k xs.length with h|h;rw[Nat.min_eq_left h];rw[Nat.min_eq_right h,cK h,aN]
theorem Paired.cut {α β:Type}{F:α->β->Prop}:∀{as:eW α} {bs:eW β} (k:Nat),ff F as bs->ff F (as.drop k) (bs.drop k)/\ff F (as.take k) (bs.take k)
 |_,_,0,h=>⟨h,.nil⟩
 |_,_,_+1,.nil=>⟨.nil,.nil⟩
 |_,_,k+1,.cons r t=>⟨(Paired.cut k t).1,.cons r (Paired.cut k t).2⟩
section
variable {w:fe}{base:fb}{f:eQ}
theorem J0 (T:wR K mg)(hu:(lN gM P w K mg base tN "law" (fE kT) f cdv A outer s H E).nox.A.units+64<cLine)(r:nU P w K mg base f cdv A outer s H Q E PP 9 60 62):nU P w K mg base f cdv A outer s H Q E PP 8 59 62:=by
 obtain⟨tR,hR,kR⟩:=r;refine⟨_,fm (gK (PW.pt (kU (ge iN (fU iB (pv 3) fD) fD (gr _)) (jV (ge (nc hu) (pv 1) (gE fq) (gr _))))) (fm (fJ (i:=7) j7.nd (fZ gu (pv 1) (fU iB (fU iQ (pv 3) fD) (gN gO rfl T.len bP (fi (pv 1) fq))))) (fz (fJ (i:=1) j7.nd (fU ng (fU ng (gE (fi (ig (fi (fZ gs (pv 7) fD) (fi (fZ gs (pv 7) fD) (fi (gE fq) fq)))) fq)) (jt jU (pv 1) (jE (fU iB (pv 3) fD)) j9)) (jt jU (pv 1) j9 (jE (fU iB (pv 3) fD))))))) gi) hR,?_⟩;intro b sn N sc sh st pk a O F o7 H' M ag m;refine⟨_,rfl,_,_,rfl,rfl,(by show(0:Int)<11;decide),rfl,_,rfl,?_⟩;refine ke (λ_=>?_) (λ_=>gB (kR b sn N sc sh st pk a O F o7 H' M (by lia) m));refine⟨_,rfl,oM,λe0 G=>?_⟩;have s1:=fB G (.lst []);have M1:=M.same s1;refine⟨.list (b.map BF),.list [],M1.sh.rep,.lst fj .nil,jy (vB M.ok) (by decide),rfl,_,rfl,?_⟩;rw[mz];generalize ah:upd H' e0 (.lst [])=Ha at *;obtain⟨xs,z,o⟩:=M1.sh;have R:=Paired.length o;cases hes:b with|nil=>exact gB (kR _ sn N sc sh st pk a O F o7 _ (hes▸M1) (by rw[cH];lia) m)|cons e1 es'=>
  rw[<-hes];have L:(b.map BF).isEmpty=false:=by rw[hes];rfl
  rw[L];refine ip ?_;have d:0<(xs.length:Int):=by rw[R,hes,au];omega
  obtain⟨v,hv,hm⟩:=nB (xs:=xs) (i:=a / 11 % (xs.length:Int)) (bT _ (by omega)) (bJ _ d);obtain⟨iv,ad⟩:=aD.mp hm;obtain⟨e,he,q0,na,zs,rfl,h3,h4,h5⟩:=Paired.Ml o ad;have q:=ak he;obtain⟨k,hk⟩:∃k:Nat,a % 2=k:=⟨(a % 2).toNat,(Int.toNat_of_nonneg (bT _ (by decide))).symm⟩;obtain⟨c1,c2⟩:=Paired.cut k o;have l1:=dC (i:=k) (l:=xs);have l2:=List.length_take_le k xs;refine⟨_,rfl,_,rfl,_,_,rfl,rfl,⟨by decide,by decide⟩,_,rfl,sh,_,rfl,.inl (gf.of z),_,_,rfl,rfl,d,sh,_,_,_,rfl,rfl,gf.of z,hv,?_⟩;refine⟨_,rfl,q0,_,_,_,rfl,rfl,jg.of h3,rfl,_,rfl,q0,_,_,_,rfl,rfl,jg.of h3,rfl,oM,λn1 I=>⟨zE,λy S=>⟨D8,λl1 U=>?_⟩⟩⟩;have s2:=fB I (.lst []);have s3:=fB S (.tup [.str e.1,.int e.2.1,.ref n1]);have D:=fB U (.lst [.ref y]);have x:=(s2.trans s3).trans D;refine⟨_,rfl,_,rfl,_,_,rfl,rfl,(by show(0:Int)<2;decide),_,rfl,sh,_,rfl,gf.of (x _ _ z),λp5 aa=>?_⟩;rw[hk,Iw];have B:=fB aa (.lst (xs.drop k));refine⟨l1,p5,_,_,rfl,rfl,B _ _ fj,fj,bY (fO (by show 1+(xs.drop k).length<=1000;lia)),λp6 J=>?_⟩;have X:=fB J (.lst ([.ref y]++xs.drop k));have t:=(x.trans B).trans X;refine⟨_,rfl,_,rfl,_,_,rfl,rfl,(by show(0:Int)<2;decide),_,rfl,sh,_,rfl,gf.of (t _ _ z),λp7 ab=>?_⟩;rw[hk,Er];have C:=fB ab (.lst (xs.take k));refine⟨p6,p7,_,_,rfl,rfl,C _ _ fj,fj,bY (fO (by rw[aB];show 1+(xs.drop k).length+_<=1000;lia)),λp8 Y=>?_⟩;have Z:=fB Y (.lst ([.ref y]++xs.drop k++xs.take k));have j:=(t.trans C).trans Z;have p:=M1.same j;have sub:∀g∈b.drop k++b.take k,g∈b:=λg h=>(aE.mp h).elim List.mem_of_mem_drop cD;have len:((e.1,e.2.1,[])::(b.drop k++b.take k):eW En).length<=60:=by rw[au,aB,dC,aW];lia
  refine kR ((e.1,e.2.1,[])::(b.drop k++b.take k)) sn N sc p8 st pk a O F _ _ ⟨⟨_,fj,.cons ⟨y,n1,[],rfl,?_,?_,.nil⟩ (Paired.app (Paired.LJ c1 λ_ _=>km.same j) (Paired.LJ c2 λ_ _=>km.same j))⟩,λg h=>?_,by lia,p.st,p.sl,p.pk,p.po,p.pl,λg h=>?_,p.tab⟩ len m;exact Z _ _ (C _ _ (X _ _ (B _ _ (D _ _ fj))));exact Z _ _ (C _ _ (X _ _ (B _ _ (D _ _ (s3 _ _ fj)))));rcases ao.mp h with rfl|h;exact⟨(M.ok e q).pt,(λn hn=>nomatch hn),bp _⟩;exact M.ok g (sub g h);rcases ao.mp h with rfl|h;exact M.lw e q;exact M.lw g (sub g h)
end
def Hn (sc sh st:eQ)(seed:Int)(pk:eQ)(o5 o6 o7:fc V)(nm:eQ)(du:V)(pt:eQ)(tw:Bool)(o12 o13:fc V):Lake.St:=[some (.ref sc),some (.ref sh),some (.ref st),some (.int seed),some (.ref pk),o5,o6,o7,some (.ref nm),some du,some (.ref pt),some (.bl tw),o12,o13]
def Ew (P:eV)(w:fe)(K:fh)(mg:Str->fc eR)(base:fb)(f:eQ)(cdv:eR)(A:eP)(outer:eW Env)(s:eU)(H:Hp)(Q:VK)(E:XK)(PP:eQ):Prop:=
 ∃tR:TS,lI (lN gM P w K mg base tN "law" (fE kT) f cdv A outer s H E).nox ((gZ kT).drop 16) tR/\
   ∀(es:eW En) (sn:eW Nd) (ps:eW Pk) (sc sh st pk:eQ) (seed:Int) (o5 o6 o7:fc V) (nm pt:eQ) (d:D3) (tw:Bool) (H':Hp),rA H' PP es sn ps sh st pk->(tw=true↔¬(es.map fN).Nodup)->oK es ps d->tR {nx:=λ_ H'=>Q .non H',rt:=Q} (Hn sc sh st seed pk o5 o6 o7 nm (.str d.w) pt tw none none) H'
section
variable {w:fe}{base:fb}{f:eQ}
theorem Ih (T:wR K mg)(p:Gd P w K mg base gM 11 "_law_as_due" ["_law_due","_law_which","_law_shelf","_law_start","_law_picks"] (Gg PP))(e:Gd P w K mg base gM 11 "_law_copy_of" ["_law_shelf"] B9)(U:iF 11 (A.deeper (envOfC "law" (fE kT) s.heap.objs.size f cdv)))(q:∀H',Q (.bl true) H'):Ew P w K mg base f cdv A outer s H Q E PP:=by
 refine⟨_,fm (ie PassesOwn.never rfl (jP rfl T.range (fi fD fq)) (fQ (i:=12) j7.nd) (fm (fJ (i:=13) j7.nd (pv 9)) (fm (gK (ge uE (pv 12) fD (gr _)) (fz (fJ (i:=13) j7.nd (fZ gu (gE (fi iA (fi iA fq))) (iS zn rfl T.int boot_int (fi (pv 11) fq))))) gi) (fz (gK (tG (qi (iM p U (fi (pv 13) (fi (pv 12) (fi (iM e U (fi (pv 1) fq)) (fi (iS jI rfl T.list eN (fi (pv 2) fq)) (fi (iS jI rfl T.list eN (fi (pv 4) fq)) fq)))))))) oh gi))))) (fz (gc qp)),?_⟩;intro g S x sc sh st pk v o5 o6 o7 nm pt d tw H' M o X;refine⟨_,rfl,by decide,by decide,?_⟩;refine my (λj σ y=>∃h m,σ=Hn sc sh st v pk o5 o6 o7 nm (.str d.w) pt tw h m/\rA y PP g S x sh st pk) ⟨none,none,rfl,M⟩ ?_ (λσ y _=>q y);rintro j σ y hj ⟨h,m,rfl,M2⟩;have L:j<6:=hj;have ej:(0+(j:Int))=((j:Nat):Int):=by omega
 rw[ej];obtain⟨dn,hdn,hat⟩:∃dn:D3,oK g [] dn/\vd [V.str "done",V.str "twice"] (if tw then 1 else 0)=some (.str dn.w):=by cases tw with|true=>exact⟨.twice,o.mp rfl,rfl⟩|false=>exact⟨.done,⟨Classical.byContradiction λz=>Bool.noConfusion (o.mpr z),(λk hk=>nomatch hk),bF⟩,rfl⟩
 refine⟨_,rfl,_,rfl,_,_,rfl,rfl,_,rfl,ke (λc=>?_) (λc=>?_)⟩;refine⟨pO,λl hl=>?_⟩;have s1:=fB hl (.lst [.str "done",.str "twice"]);have a:=M2.same s1;have t:zx j g x dn:=by unfold zx;rw[ax (by have:=ba c;lia)];exact hdn
 refine⟨_,rfl,.inr ⟨tw,rfl,l,_,_,_,rfl,rfl,gf.of fj,hat,?_⟩⟩
 rotate_left
 have a:=M2;have t:zx j g x d:=by unfold zx;rw[ay (by have:=of_decide_eq_false (by simpa using c:decide ((2:Int)<(j:Int))=false);lia)];exact X
 all_goals
  obtain⟨F,hz,J⟩:=a.st;obtain⟨O,hy,D⟩:=a.pk;refine⟨_,rfl,_,rfl,_,rfl,sh,g,rfl,a.sh,by have:=a.el;lia,λY H4 C h4=>?_⟩;refine⟨_,rfl,st,F,rfl,.inl (gf.of (C _ _ hz)),λZ G=>?_⟩;have N:=fB G (.lst F);refine⟨_,rfl,pk,O,rfl,.inl (gf.of (N _ _ (C _ _ hy))),λp6 I=>?_⟩;have B:=fB I (.lst O);have b:=(C.trans N).trans B;have R:=a.same b;exact⟨j,Y,Z,p6,g,S,x,_,rfl,L,⟨i6.same (N.trans B) h4,a.ok,a.el,⟨F,B _ _ fj,Paired.LJ J λ_ _=>gX.same b⟩,a.sl,⟨O,fj,Paired.LJ D λ_ _=>fX.same b⟩,a.po,a.pl,a.lw,R.tab⟩,t,λH7 k7 t7=>⟨_,rfl,gB ⟨_,_,rfl,R.k k7 t7⟩⟩⟩
end
theorem uX {α:Type} [DecidableEq α] {a:eQ}{ks:eW α}{enc:α->fg}(hx:H a=some (.lst xs))(hp:ff (λv k=>∀H',fH H H'->qZ H' v (enc k)) xs ks)(O:ks.length<=900)(A:∀ks':eW α,(∀k∈ks',k∈ks)->PyData.canLayAll0 (ks'.map enc)=true)(y:∀k∈ks,(enc k).depth<=60)(E:∀(k:α) (ks':eW α),((ks'.map enc).any λz=>PyData.eqv z (enc k))=true↔k∈ks')(q:∀D ys H',fH H H'->H' D=some (.lst ys)->(ys=[]↔ks.Nodup)->ys.length<=900->Q (.ref D) H'):o0 (Ex 0 xs.length) (jl 0) (D9 (EF (Fa false) (EF (Ar K) (lK 1) (lK 0)) (KL (CU K) (lK 1) xb (Ea (lK 0))))) (lK 0) [none,some (.ref a)] H Q:=by
 have L:=Paired.length hp;refine qQ (λD i ys d=>(ys=[]↔(ks.take i).Nodup)/\ys.length<=i/\d D=some (.lst ys)/\fH H d/\H D=none) (λD C=>⟨by simp,am _,fj,fB C _,C⟩) (λD i ys d B ⟨_,G,j,_⟩=>⟨j,fO (by lia)⟩) (λD i ys d B ⟨m,G,j,b,s⟩=>?_) (λD ys d ⟨m,G,j,b,_⟩=>q D ys d b j (by rw[L,aN]at m;exact m) (by lia));obtain⟨v,hv⟩:∃v,xs[i]?=some v:=⟨_,ar B⟩;obtain⟨k,F,J⟩:=Paired.Ml hp hv;have e:=ak F;have t:ks.take (i+1)=ks.take i++[k]:=by rw[aZ,F];rfl
 have M:vd xs ((i:Nat):Int)=some v:=pL hv;have I:=b _ _ hx;unfold jl;dsimp only;rw[Int.zero_add];refine⟨_,rfl,_,rfl,a,xs,_,v,rfl,rfl,gf.of I,M,_,rfl,_,rfl,_,rfl,a,xs,rfl,gf.of I,λp x=>?_⟩;rw[Er];have g:=fB x (.lst (xs.take i));have l:=g _ _ j;have o:qZ _ v (enc k):=J _ (b.trans g);refine⟨enc k,(ks.take i).map enc,o,.lst fj (j8 (λ_ _ z=>z) (Paired.LJ (Paired.cut i hp).2 λ_ _ z=>z _ (b.trans g))),?_,A _ λN h=>cD h,y k e,_,rfl,?_⟩;have z:=A [k] λN h=>af.mp h▸e;simpa [PyData.canLayAll0] using z;refine ke (λc=>?_) (λc=>?_);have c:=(E k _).mp c;refine⟨_,rfl,l,⟨λz=>absurd z (by simp),λz=>?_⟩,by rw[aB,aM];lia,fj,fH.upd (b.trans g) s,s⟩;rw[t,bU]at z;exact absurd rfl (z.2.2 k c k (af.mpr rfl));have c:k∉ks.take i:=λz=>c ((E k _).mpr z);refine⟨m.trans ⟨λz=>?_,λz=>?_⟩,by lia,l,b.trans g,s⟩;rw[t];exact pC z c;rw[t,bU]at z;exact z.1
def Id:(["_law_k","_law_parts"]:eW Str).Nodup:=by decide +kernel
def HZ:(["_law_k","_law_names"]:eW Str).Nodup:=by decide +kernel
def HY:(["_law_pick","_law_names"]:eW Str).Nodup:=by decide +kernel
def HX:(["_law_entry"]:eW Str).Nodup:=by decide +kernel
def JE (sc sh st:eQ)(seed:Int)(pk:eQ)(o5 o6 o7:fc V)(nm:eQ)(du:V)(pt:eQ):Lake.St:=[some (.ref sc),some (.ref sh),some (.ref st),some (.int seed),some (.ref pk),o5,o6,o7,some (.ref nm),some du,some (.ref pt),none,none,none]
structure Mn (H:Hp)(PP:eQ)(es:eW En)(sn:eW Nd)(ps:eW Pk)(sh st pk nm pt:eQ):Prop where
 m:rA H PP es sn ps sh st pk
 nm:jJ H nm (es.map fN)
 pt:H pt=some (.lst ((ps.map (·.1)).map V.str))
 p62:ps.length<=62
def Mn.same {nm pt:eQ}(M:Mn H PP es sn ps sh st pk nm pt)(s:fH H H'):Mn H' PP es sn ps sh st pk nm pt:=⟨M.m.same s,jJ.same s M.nm,s _ _ M.pt,M.p62⟩
def so (P:eV)(w:fe)(K:fh)(mg:Str->fc eR)(base:fb)(f:eQ)(cdv:eR)(A:eP)(outer:eW Env)(s:eU)(H:Hp)(Q:VK)(E:XK)(PP:eQ)(k:Nat)(G:eW En->eW Pk->D3->Prop):Prop:=
 ∃tR:TS,lI (lN gM P w K mg base tN "law" (fE kT) f cdv A outer s H E).nox ((gZ kT).drop k) tR/\
   ∀(es:eW En) (sn:eW Nd) (ps:eW Pk) (sc sh st pk:eQ) (seed:Int) (o5 o6 o7:fc V) (nm pt:eQ) (d:D3) (H':Hp),Mn H' PP es sn ps sh st pk nm pt->G es ps d->tR {nx:=λ_ H'=>Q .non H',rt:=Q} (JE sc sh st seed pk o5 o6 o7 nm (.str d.w) pt) H'
theorem rF (H:Hp):∀xs:eW Str,ff (λv k=>∀H',fH H H'->qZ H' v (PyData.str k)) (xs.map V.str) xs
 |[]=>.nil
 |_::xs=>.cons (λ_ _=>.str _) (rF H xs)
def KR {ys:eW V}:decide ((0:Int)<(ys.length:Int))=!decide (ys=[]):=by cases ys with|nil=>rfl|cons a b=>rw[aq (by rw[au];omega),aw (by simp)];rfl
def Fe {qs:eW Pk}(h:∀k∈qs,gU k.1):nY 2 (.list (qs.map oQ))=true:=by rw[nY,bN];intro d a;obtain⟨k,b,rfl⟩:=aA.mp a;simp[oQ,nY,(h k b).ok]
def KF (_:eW En)(ps:eW Pk)(d:D3):Prop:=((ps.map (·.1)).Nodup/\d=.done)\/(¬(ps.map (·.1)).Nodup/\d=.two)
def KY (es:eW En)(ps:eW Pk)(d:D3):Prop:=(¬iw es ps/\d=.no)\/(iw es ps/\KF es ps d)
section
variable {w:fe}{base:fb}{f:eQ}
theorem Ii (T:wR K mg)(hu:(lN gM P w K mg base tN "law" (fE kT) f cdv A outer s H E).nox.A.units+64<cLine)(r:Ew P w K mg base f cdv A outer s H Q E PP):so P w K mg base f cdv A outer s H Q E PP 14 KY:=by
 obtain⟨tR,hR,B⟩:=r;refine⟨_,fm (fJ (i:=11) j7.nd (kJ uE (gN gO rfl T.len bP (fi (iG (N':=["_law_k","_law_names"]) (n:=1) (js:=[8]) rfl (iT.one (c:=s.heap.objs.size+1) (y:="_law_names")) (iz (by decide)) (jP rfl T.range (fi (gN gO rfl T.len bP (fi (pv 8) fq)) fq)) (λC g j x=>fQ (i:=0) HZ) (λC g j x=>lu (ge (AQ hu) (fZ (r:=Ar K) gu (pv 1) (pv 0) (λ_ _=>rfl)) (jt (r:=CU K) jU (pv 1) j9 (jE (pv 0))) (by with_unfolding_all rfl))) (λC g j x=>pv 0)) fq)) fD (gr _))) (fm (gK (qi (pv 11)) (fz (fJ (i:=9) j7.nd iA)) gi) hR),?_⟩;intro q L G U F N S b I v J nm pt d H' M hG;obtain⟨xs,O,o⟩:=M.nm;have Z:=Paired.length o;have aa:=M.m.el;rw[ae]at Z;refine⟨_,rfl,nm,_,rfl,.inl (gf.of O),_,rfl,by lia,by lia,?_⟩;have p:∀k∈q.map fN,gU k.1:=λk l=>by obtain⟨e,he,rfl⟩:=aA.mp l;exact(M.m.ok e he).pt
 refine uX (enc:=oQ) O (Paired.LJ o λ_ _ z j g=>fX.rep (fX.same g z)) (by rw[ae];lia) (λX h=>pw λk l=>p k (h k l)) (λk l=>(oo (p k l)).2) (λk ks=>by rw[uc];exact decide_eq_true_iff) λD ys j g Y R hl=>?_;refine⟨D,_,rfl,.inl (gf.of Y),_,_,rfl,rfl,?_⟩;rw[KR];have M2:=M.m.same g;refine⟨_,rfl,_,rfl,?_⟩;by_cases hy:ys=[];rw[aq hy];have a:=R.mp hy;refine gB (B q L G U F N S b I v J nm pt d false j M2 ⟨(λz=>nomatch z),λz=>absurd a z⟩ ?_);rcases hG with ⟨h,rfl⟩|⟨h,⟨t,rfl⟩|⟨t,rfl⟩⟩;exact⟨a,h⟩;exact⟨a,h,t⟩;exact⟨a,h,t⟩;rw[aw hy];have a:¬(q.map fN).Nodup:=λz=>hy (R.mpr z);exact ip (B q L G U F N S b I v J nm pt .twice true j M2 ⟨λ_=>a,λ_=>rfl⟩ a)
theorem Ij (hu:(lN gM P w K mg base tN "law" (fE kT) f cdv A outer s H E).nox.A.units+64<cLine)(r:so P w K mg base f cdv A outer s H Q E PP 14 KY):so P w K mg base f cdv A outer s H Q E PP 13 KF:=by
 obtain⟨tR,hR,kR⟩:=r;refine⟨_,fm (gK (ge (nc hu) (iG (N':=["_law_pick","_law_names"]) (n:=1) (js:=[8]) rfl (iT.one (c:=s.heap.objs.size+1) (y:="_law_names")) (iz (by decide)) (gL (pv 4)) (λC s2 p fp=>fQ (i:=0) HY) (λC s2 p fp=>lu (ge (mq hu) (pv 0) (pv 1) (by with_unfolding_all rfl))) (λC s2 p fp=>pv 0)) (gE fq) (gr _)) (fz (fJ (i:=9) j7.nd iA)) gi) hR,?_⟩;intro G sn B sc sh st pk o o5 Z o7 nm pt d X M hG;obtain⟨xs,hx,N⟩:=M.nm;obtain⟨ys,hy,O⟩:=M.m.pk;have lx:=Paired.length N;have ly:=Paired.length O;have ab:=M.m.el;have aa:=M.p62;have Y:∀k∈G.map fN,gU k.1:=λk j=>by obtain⟨e,he,rfl⟩:=aA.mp j;exact(M.m.ok e he).pt
 refine⟨_,rfl,pk,rfl,⟨_,gf.of hy⟩,?_⟩;refine iK (xs:=ys) (λD i v p=>∃h:eW Pk,v.length<=i/\ff (fX X) v h/\(∀k∈h,k∈B)/\(h=[]↔iw G (B.take i))/\p D=some (.lst v)/\fH X p/\X D=none) (λD hD=>⟨[],am _,.nil,(λk j=>nomatch j),⟨(λ_ k j=>absurd j (by simp)),λ_=>rfl⟩,fj,fB hD _,hD⟩)
  (λD i v p hi ⟨h,e1,J,S,F,t,l,R⟩=>⟨gf.of (l _ _ hy),t,fO (by lia)⟩) (λD i x v p hi ⟨h,e1,J,S,F,t,l,R⟩=>?_) (λD v p ⟨h,e1,J,S,F,t,l,R⟩=>?_)
 obtain⟨k,j,L⟩:=Paired.Ml O hi;have q:=ak j;have U:B.take (i+1)=B.take i++[k]:=by rw[aZ,j];rfl
 unfold jl;dsimp only;refine⟨_,rfl,_,rfl,oQ k,(G.map fN).map oQ,fX.rep (fX.same l L),.lst (l _ _ hx) (j8 (λ_ _ z=>fX.rep z) (Paired.LJ N λ_ _=>fX.same l)),(oo (M.m.po k q)).1,pw Y,(oo (M.m.po k q)).2,_,rfl,?_⟩;rw[uc];by_cases c:k∈G.map fN;rw[aq c];refine gB ⟨h,by lia,J,S,F.trans ⟨λz I g=>?_,λz I g=>?_⟩,t,l,R⟩;rw[U]at g;exact(aE.mp g).elim (z I) λy=>af.mp y▸c;exact z I (by rw[U];exact aK _ g);rw[aw c];refine ip ⟨_,rfl,t,h++[k],by rw[aB,aM];lia,Paired.snoc J L,λI g=>(aE.mp g).elim (S I) λy=>af.mp y▸q,⟨λz=>absurd z (by simp),λz=>absurd (z k (by rw[U];simp)) c⟩,fj,fH.upd l R,R⟩;rw[ly,aN]at F;refine⟨oM,λe0 T=>?_⟩;have s1:=fB T (.lst []);have sA:=l.trans s1;refine⟨.list (h.map oQ),.list [],.lst (s1 _ _ t) (j8 (λ_ _ z=>fX.rep z) (Paired.LJ J λ_ _=>fX.same sA)),.lst fj .nil,jy (Fe λk j=>M.m.po k (S k j)) (by decide),rfl,_,rfl,?_⟩;rw[mz];have M2:=M.same sA;by_cases hq:h=[];have e:(h.map oQ).isEmpty=true:=by rw[hq];rfl
 rw[e];exact gB (kR G sn B sc sh st pk o o5 Z o7 nm pt d _ M2 (.inr ⟨F.mp hq,hG⟩));have e:(h.map oQ).isEmpty=false:=by cases h with|nil=>exact absurd rfl hq|cons a b=>rfl
 rw[e];exact ip (kR G sn B sc sh st pk o o5 Z o7 nm pt .no _ M2 (.inl ⟨λz=>hq (F.mpr z),rfl⟩))
theorem Ik (T:wR K mg)(Z:(lN gM P w K mg base tN "law" (fE kT) f cdv A outer s H E).nox.A.units+64<cLine)(r:so P w K mg base f cdv A outer s H Q E PP 13 KF):so P w K mg base f cdv A outer s H Q E PP 12 λ_ _ d=>d=.done:=by
 obtain⟨tR,hR,t⟩:=r;refine⟨_,fm (gK (ge uE (gN gO rfl T.len bP (fi (iG (N':=["_law_k","_law_parts"]) (n:=1) (js:=[10]) rfl (iT.one (c:=s.heap.objs.size+2) (y:="_law_parts")) (iz (by decide)) (jP rfl T.range (fi (gN gO rfl T.len bP (fi (pv 10) fq)) fq)) (λC g e q=>fQ (i:=0) Id) (λC g e q=>lu (ge (AQ Z) (fZ (r:=Ar K) gu (pv 1) (pv 0) (λ_ _=>rfl)) (jt (r:=CU K) jU (pv 1) j9 (jE (pv 0))) (by with_unfolding_all rfl))) (λC g e q=>pv 0)) fq)) fD (gr _)) (fz (fJ (i:=9) j7.nd iA)) gi) hR,?_⟩;rintro J I b R v L O a B p G o pt d H' M rfl;have U:=M.p62;have F:((b.map (·.1)).map V.str).length=b.length:=by rw[ae,ae]
 have l:∀x∈b.map (·.1),gU x:=λx j=>by obtain⟨k,Y,rfl⟩:=aA.mp j;exact M.m.po k Y
 refine⟨_,rfl,pt,_,rfl,.inl (gf.of M.pt),_,rfl,by rw[F];lia,by rw[F];lia,?_⟩;refine uX (enc:=PyData.str) M.pt (rF H' _) (by rw[ae];lia) (λS h=>nI λx j=>l x (h x j)) (λk _=>bp _) (λk ks=>by rw[pM];exact decide_eq_true_iff) λD ys e g X N hl=>?_;refine⟨D,_,rfl,.inl (gf.of X),_,_,rfl,rfl,_,rfl,?_⟩;rw[KR];have M2:=M.same g;by_cases hy:ys=[];rw[aq hy];exact gB (t J I b R v L O a B p G o pt .done e M2 (.inl ⟨N.mp hy,rfl⟩));rw[aw hy];exact ip (t J I b R v L O a B p G o pt .two e M2 (.inr ⟨λz=>hy (N.mpr z),rfl⟩))
theorem JZ (T:wR K mg)(r:so P w K mg base f cdv A outer s H Q E PP 12 λ_ _ d=>d=.done):nU P w K mg base f cdv A outer s H Q E PP 9 60 62:=by
 obtain⟨tR,hR,kR⟩:=r;refine⟨_,fm (fJ (i:=8) j7.nd (iG (N':=["_law_entry"]) (n:=1) (js:=[]) rfl (iT.closed) (iz (by decide)) (gL (pv 1)) (λC l a j=>fQ (i:=0) HX) (λC l a j=>jx) (λC l a j=>ig (fi (fZ (r:=qh K) gs (pv 0) fD (λ_ _=>rfl)) (fi (fZ (r:=qh K) gs (pv 0) fD (λ_ _=>rfl)) fq))))) (fm (fJ (i:=9) j7.nd iA) (fm (fJ (i:=10) j7.nd (iG (N':=["_law_pick"]) (n:=1) (js:=[]) rfl (iT.closed) (iz (by decide)) (gL (pv 4)) (λC l a j=>fQ (i:=0) Bd) (λC l a j=>jx) (λC l a j=>fZ (r:=qh K) gs (pv 0) fD (λ_ _=>rfl)))) hR)),?_⟩;intro B sn ps sc sh st pk o o5 Z o7 Y M aa I;obtain⟨xs,U,q⟩:=M.sh;have lx:=Paired.length q;refine⟨_,rfl,sh,rfl,⟨_,gf.of U⟩,?_⟩;refine iK (xs:=xs) (λD i g a=>g.length<=i/\ff (fX a) g ((B.take i).map fN)/\a D=some (.lst g)/\fH Y a/\Y D=none) (λD O=>⟨am _,.nil,fj,fB O _,O⟩)
  (λD i g a S ⟨X,m,b,h,y⟩=>⟨gf.of (h _ _ U),b,fO (by lia)⟩) (λD i x g a S ⟨X,m,b,h,y⟩=>?_) (λD g a ⟨X,m,b,h,y⟩=>?_)
 obtain⟨e,he,J⟩:=Paired.Ml q S;obtain⟨N,na,zs,rfl,F,h4,h5⟩:=km.same h J;have ht:(B.take (i+1)).map fN=(B.take i).map fN++[fN e]:=by rw[aZ,he,aC];rfl
 unfold jl pc;dsimp only;rw[ay rfl];refine⟨_,rfl,N,_,_,_,rfl,rfl,jg.of F,rfl,_,rfl,N,_,_,_,rfl,rfl,jg.of F,rfl,pO,λt v=>?_⟩;have p:=fB v (.tup [.str e.1,.int e.2.1]);refine⟨p _ _ b,by rw[aB,aM];lia,?_,fj,fH.upd (h.trans p) y,y⟩;rw[ht];have hn:D≠t:=fC b v;exact Paired.snoc (Paired.LJ m λ_ _ z=>fX.Oh (p _ _ b) (fX.same p z)) (fX.Oh (p _ _ b) ⟨t,rfl,fj⟩);rw[lx,aN]at m;have M2:=M.same h;obtain⟨ab,R,G⟩:=M2.pk;refine⟨_,rfl,pk,rfl,⟨_,gf.of R⟩,mZ R G M.pl λD2 H3 L ad F=>?_⟩;exact kR B sn ps sc sh st pk o o5 Z o7 D D2 .done H3 ⟨M2.same L,⟨g,L _ _ b,Paired.LJ m λ_ _=>fX.same L⟩,F,I⟩ rfl
end
def zb {α:Type}{p:eW α->Prop}(h:∀a b c d e,p [a,b,c,d,e]):∀us:eW α,us.length=5->p us
 |[a,b,c,d,e],_=>h a b c d e
inductive xZ (K:fh)(PP:eQ)(vs:eW V)(H:Hp)(Q:VK)(E:XK):Prop
 |mk (a:eQ)(ns:eW Int)(_:vs=[.ref a])(_:gf K H a (ns.map V.int))(_:ns.length<=63)(_:gQ qY pE H PP)(_:∀H',Q (.bl true) H')
section
variable {w:fe}{base:fb}{f:eQ}
theorem Ft (F:je K "law" "law" kT f fd)(T:wR K mg)(O:Gd P w K mg base gM 11 "_law_at" ["_law_script","_law_k"] (Ke K))(v:Gd P w K mg base gM 11 "_law_asked_by" ["_law_script"] (Cb K))(G:Gd P w K mg base gM 11 "_law_picks_by" ["_law_shelf","_law_start","_law_seed"] vg)(d:Gd P w K mg base gM 11 "_law_copy_of" ["_law_shelf"] B9)(p:Gd P w K mg base gM 11 "_law_mixed" ["_law_script"] (B8 K))(j:Gd P w K mg base gM 11 "_law_as_due" ["_law_due","_law_which","_law_shelf","_law_start","_law_picks"] (Gg PP)):gv P w K mg base gM 12 f fd ["_law_script"] (xZ K PP):=by refine F.ok j7 λcdv A outer s H vs Q E g h=>?_;obtain⟨a,ns,rfl,hS,ab,hT,q⟩:=h;have x:=g.units;obtain⟨ag,z,J⟩:=J3 (A:=A) (outer:=outer) (cdv:=cdv) (s:=s) (H:=H) (Q:=Q) (E:=E) (f:=f) (PP:=PP) T x (J2 (J1 (J0 T x (JZ T (Ik T x (Ij x (Ii T x (Ih T j d g q))))))));refine⟨_,(fm (fJ (i:=0) j7.nd (jt jU (pv 0) j9 (jE fD))) (fm (fJ (i:=0) j7.nd (iM p g (fi (pv 0) fq))) (fm (Fc (iM v g (fi (pv 0) fq)) (mX rfl (iC (fQ (i:=1) j7.nd) (iC (fQ (i:=2) j7.nd) lC)))) (fm (fJ (i:=3) j7.nd (fU iB (fU iQ (iM O g (fi (pv 0) (fi fD fq))) fD) fD)) (fm (fJ (i:=4) j7.nd (iM G g (fi (pv 1) (fi (pv 2) (fi (pv 3) fq))))) z))))),?_⟩;obtain⟨Z,e1,l1⟩:=u3 ns none (some 500);refine⟨_,rfl,500,rfl,a,_,rfl,hS,λp1 B=>?_⟩;rw[e1];have s1:=fB B (.lst (Z.map V.int));refine⟨_,rfl,p1,Z,rfl,gf.of fj,by lia,λD R H2 s2 S l2=>?_⟩;refine⟨_,rfl,D,R,rfl,gf.of S,by lia,λt U st Y X H3 s3 h3 y M b o h4 l N m=>?_⟩;refine⟨t,_,rfl,jg.of h3,rfl,_,_,rfl,_,_,rfl,rfl,?_⟩;refine⟨_,rfl,D,R,0,rfl,gf.of (s3 _ _ S),Int.le_refl 0,λz0=>⟨_,_,rfl,rfl,⟨by decide,by decide⟩,_,_,rfl,rfl,(by show(0:Int)<1000;decide),?_⟩⟩;refine⟨_,rfl,_,rfl,_,rfl,U,st,_,Y,X,rfl,y,M,b,o,l,N,m,λpk ps H4 C L I ad aa=>?_⟩;have sA:=((s1.trans s2).trans s3).trans C;refine J Y X ps D U st pk _ none none none H4 ⟨i6.same C y,b,by lia,iu.same C l,m,L,λk hk=>?_,by lia,h4,gQ.f sA.toF hT⟩ o (by lia);obtain⟨e,he,rfl⟩:=aA.mp (I k hk);exact(b e he).pt
end
end
end Lake.FB
structure PySem.W.Fast:Prop where
 (tw11373965182180006965 tw7424586381531436554 tw10592904207850790947 tw15378045816569882397 tw949783790346689288 tw265027530248801360 tw16141300210208913173 tw990649629820661296 tw2709570025537674246 tw11867708763950747849 tw9579682623049041977 tw15416684124675529044 tw898549739198880182 tw5064755692638654276 tw7670826180280794601 tw13619725057811863805 tw11599154561840445618 tw7732715816072984360 tw9265915044002347738 tw15305490146871671928 tw14661990536257514260 tw11125428078936749802 tw3702430386739144223 tw16372339737351857065 tw10821563702116514934 tw13754402486368386741 tw10399453916932677408 tw10072875824483567991 tw12485447576157080689 tw5290944303965766681 tw10319708731539651740 tw10279526037934258189 tw1302346726786749615 tw10592295010541838921 tw8051892279303236919 tw7561926053370795745 tw15402257551513940637 tw17447403366149107191 tw14265179780601489580 tw2477011923730552096 tw16853174154854818275 tw11826292234107119758 tw16023022171820795932 tw16662186495558031127 tw12475360056113877851 tw10583621076122838665 tw8238396836887991064 tw2208424966926152971 tw5387570819657839756 tw6356825563504068688 tw15784986610078697984 tw6966569349956374793 tw14620269086435996531 tw1779248568853728097 tw16758551637304597522 tw17941431337726450237 tw9484644890879589747 tw12157682972643822120 tw4614039075663773823 tw16071207769895086484 tw13166778624938911084 tw8880689923836540271 tw6063006139668240074 tw470462574379780321 tw14470390612541257014 tw4088795638325472433 tw14583262986679723932 tw9784074626045427242 tw16812249687073381040 tw12772803642651094739 tw3856002183827832411 tw15811737757288116715 tw13654877309152620863 tw18022796645767051957 tw13065535160262421866 tw1495381557647819703 tw17813357171709399538 tw9577788928201518434 tw10480856501771745965 tw14371580932250270030 tw3697665381331415975 tw12649285471956308065 tw16464759786194020965 tw15160511603831782338 tw12213089263830677224 tw16197276488826325111 tw3165070322812285454 tw15994357459707889761 tw4616369548925207794 tw3379285980008526380 tw52659945401957943 tw4879888133007893765 tw5489289338611363986 tw12033762852803900646 tw3077901052531879926 tw4039192418494231662 tw14487517066689692642 tw14062666146612255580 tw459268421811328577 tw14155234747803366019 tw17682986209838941467 tw1612766661599736958 tw8052898222402757784 tw148143629511320158 tw8659276301677357220 tw2983337697749987072 tw18083218544618699970 tw4662701538440783371 tw88813081192733768 tw5187669403701812288 tw14832420979696004881 tw3700071790336194173 tw11076020642584437457 tw5971906905385729753 tw11468930317755679490 tw14722712555129278219 tw18135742439901517273 tw2283614599583081701 tw521804595753370080 tw14490769658477984616 tw5526034764392749828 tw8439151261319229128 tw861288624783703802 tw15905637807674274720 tw5190886415780467520 tw7470061521166545000 tw7437150996493385856 tw13160141139608787656 tw6802508060022664920 tw3270931880235277593 tw5320129714450847745 tw9293479933256641570 tw3825575913485759540 tw7890562144688243831 tw798349657413040642 tw5312564624440120891 tw14515490693961594794 tw7084265582825913518 tw16580190409743077210 tw6016781446926286154 tw17894037730762975267 tw9457950933329545904 tw8907471923369265012 tw2709509694287122471 tw11431455865668079254 tw3074956742956886949 tw14296407465529256371 tw15547774599239922332 tw4007985329729753920 tw16439169171896599968 tw6062578460462068382 tw11136979251075973093 tw13310869404026261334 tw3562765923842031707 tw11934310769936690497 tw1548095638429411723 tw10797575205824946996 tw116235609471477044 tw1680278789182214002 tw16492247243479351589 tw15105257111119698584 tw6083363269822173099 tw10861648719845617824 tw12096493589630478912 tw3404682393300117806 tw8698094393779434113 tw11375704200459291955 tw4034077974583059385 tw13700914812866665639 tw9993608293958390850 tw10353097600246195908 tw17182063666053546412 tw16677944144335301447 tw6487467602148791913 tw14224918117245298657 tw17872961545893893612 tw6135361998436311116 tw13277244513353256149 tw13948028317117775994 tw5908202847921704582 tw2774878960198737837 tw15406980810140221353 tw878377978675938359 tw1295496028016589086 tw17287943096581801687 tw13840882593013201971 tw972035098451247461 tw9546275614200537890 tw2431215129833031603 tw17224511730119254213 tw4066542835987031324 tw1742080512335545212 tw13766991783279311542 tw8574672928892750831 tw5485667051131413654 tw7570078544989137618 tw10284965154091835439 tw10802409036667634151 tw5763861329443762433 tw9819704853491032644 tw6033478973588492437 tw17877564448731154427 tw2870785456542246362 tw8550886818772347017 tw2351090406634781763 tw14602628602328365547 tw16054112737986668550 tw8130636315605399561 tw10987691338479646109 tw5072394233594206951 tw10929192437802334539 tw12508185653507453270 tw8274997617267693766 tw9323953247420130041 tw3069431911676793261 tw8950111649595909038 tw11276925405290158830 tw7305695079765796845 tw14643261856879266844 tw2203413622395827524 tw10495511369875235628 tw10205312142145720561 tw13976598123799616496 tw2920930215443866718 tw14946109816984304499 tw2395812428228607296 tw103844298834913906 tw17617427768730492548 tw5193807037668994069 tw17623453941932244816 tw4511323788495573806 tw16070290021878392200 tw12353287658874208652 tw10712165975536416086 tw15740770834166143506 tw764898746822912196 tw13507820925304888884 tw5957883516793329566 tw8025263339495132861 tw18186086785447947271 tw8844661249890518048 tw16291076487659384536 tw1434411073744775668 tw12880922192073049980 tw10577090900145123806 tw18227955921042077620 tw12603709897506440050 tw8007947964836999759 tw16023478620274415254 tw2345667344374909456 tw2782820612930366801 tw16141953654286147318 tw8088384749157447134 tw15207735675402788727 tw4444471248039153584 tw4985752144620941040 tw3810988722740809269 tw10753364036865610409 tw3609735201660476629 tw1513442571308042756 tw13874829790310196208 tw8995638383287040901 tw6053009685507214421 tw10247458637200671869 tw17999907245032388974 tw11357392672734175769 tw3498201690991813973 tw7246863674243019084 tw12478472360237725856 tw3612934870110384910 tw2574792023785900992 tw12569937301872824627 tw488540445046419066 tw14230826955911071717 tw7355976041492783560 tw9800860674443543139 tw7855673147710296387 tw9821209166569167765 tw5697369110038879278 tw10128255228351160519 tw16231650473616257803 tw17218419180234977259 tw13496969804938714369 tw9974252195719424039 tw2452665452094138668 tw5311368947219345301 tw16885903586368950964 tw12585947917343501338 tw14969806905685567671 tw2639188412126498877 tw13388576160255129157 tw681220225212826344 tw2124775412942078611 tw5475648987893087677 tw16797533857298338847 tw399530819721763352 tw9636427574396634175 tw7125158588224322828 tw9191250182268348244 tw16551589205673509652 tw13315340588544323064 tw5517233861783416899 tw436834615846056847 tw258706552659529068 tw13318586057150813933 tw12720169727187024902 tw6289976214934067121 tw13079450459630933455 tw7806524324319386886 tw12497568430613539330 tw12881294123141595535 tw17980224285144314553 tw14672655332236078270 tw13817479490727894841 tw13875638406036929338 tw10796518540119685664 tw15071619737329614722 tw18037506621539474453 tw923457805012231953 tw18120626244037443062 tw10447421752330146660 tw2245868723807933745 tw10745933298029596028 tw15047672186026132065 tw14271538006262477322 tw15770863155349372306 tw16940628680958689902 tw10277439421217751970 tw4099521163424449987 tw7212344130537996194 tw8427665810281879929 tw6982816970842863480 tw16207242887056468370 tw11909363568137411517 tw15254326214212666607 tw10975254993446758846 tw3180620846274814023 tw1334524545995035230 tw1221648601540755871 tw15827691151275805526 tw9252996988776681613 tw16481417906879026345 tw9130922708963278287 tw26162190829762368 tw18427480210291191463 tw14964021064786167648 tw7391435692418706574 tw1028069106006751752 tw14163846296743957053 tw1046477853610716505 tw4666504798191857170 tw9133905055106761535 tw10798085498078689037 tw5200993985866198735 tw2928287047636777824 tw9362855684569562695 tw16166604946740314767 tw11076571091053266340 tw13766249419939735359 tw9051145397821461792 tw16588964349275182502 tw14701713248797371231 tw548277009203108760 tw17187743032007836326 tw6779625380900913710 tw14337000553170645745 tw493112217187157285 tw16173077237042837425 tw13602865469750610181:True)
namespace Lake.FB
open PySem
variable {K:fh}
def Lo {P4:eV}{w4:fe}{K4:fh}{h4:fb}{mg4:Str->fc eR}{base4:fb}(X:K4.In h4)(G:h4.Ns mainGlobals mg4){x4:Str}{st4:eX}{f4:eQ}(d:mU K4 x4 st4 f4){CX4:ul}{k4:Nat}{ps4:eW Str}{sp4:Sp}(o:∀fd,je K4 x4 x4 st4 f4 fd->gv P4 w4 K4 mg4 base4 CX4 k4 f4 fd ps4 sp4)(hb:autoParam (∀(kV doc pm:eR) (an:fc eQ) (cdv ct:eR) (us:eW eR),us.length=ps4.length->bindArgs (W.fnOf x4 x4 (iJ st4) (gZ st4) (fE st4) .none kV doc pm an cdv ct) ⟨us,[]⟩=pure (ps4.zip us)) Lake.FB.mU.u._auto_1):Gd P4 w4 K4 mg4 base4 CX4 k4 x4 ps4 sp4:=by obtain⟨fd,F,b,k4,m⟩:=d.u X G hb;exact⟨f4,fd,o fd F,b,k4,m⟩
def Ll {P5:eV}{w5:fe}{K5:fh}{mg5:Str->fc eR}{base5:fb}{y5:Str}{C5:eQ}(c:Cr K5 y5 C5){x5 q5:Str}{st5:eX}{f5:eQ}(d:mB K5 C5 x5 q5 st5 f5){CX5:ul}{k5:Nat}{ps5:eW Str}{sp5:Sp}(o:∀fd,je K5 x5 q5 st5 f5 fd->gv P5 w5 K5 mg5 base5 CX5 k5 f5 fd ps5 sp5)(hb:autoParam (∀(kV doc pm:eR) (an:fc eQ) (cdv ct:eR) (us:eW eR),us.length=ps5.length->bindArgs (W.fnOf x5 q5 (iJ st5) (gZ st5) (fE st5) .none kV doc pm an cdv ct) ⟨us,[]⟩=pure (ps5.zip us)) Lake.FB.mU.u._auto_1):Mt P5 w5 K5 mg5 base5 C5 CX5 k5 x5 ps5 sp5:=by obtain⟨fd,F,b,m⟩:=d.u hb;exact⟨c.c,f5,fd,o fd F,b,m⟩
def Lm {P6:eV}{w6:fe}{K6:fh}{h6:fb}{mg6:Str->fc eR}{base6:fb}(X:K6.In h6)(G:h6.Ns mainGlobals mg6){y6:Str}{C6:eQ}(c:Cr K6 y6 C6){q6:Str}{st6:eX}{f6:eQ}(d:mB K6 C6 "__init__" q6 st6 f6){CX6:ul}{k6:Nat}{ps6:eW Str}{sp6:Sp}(o:∀fd,je K6 "__init__" q6 st6 f6 fd->gv P6 w6 K6 mg6 base6 CX6 k6 f6 fd ps6 sp6)(hb:autoParam (∀(kV doc pm:eR) (an:fc eQ) (cdv ct:eR) (us:eW eR),us.length=ps6.length->bindArgs (W.fnOf "__init__" q6 (iJ st6) (gZ st6) (fE st6) .none kV doc pm an cdv ct) ⟨us,[]⟩=pure (ps6.zip us)) Lake.FB.mU.u._auto_1):DU P6 w6 K6 mg6 base6 C6 CX6 k6 y6 ps6 sp6:=by obtain⟨fd,F,b,m⟩:=d.u hb;exact⟨W.mg_of X G c.a,f6,fd,⟨c.mk_,m.at_,m.fn,c.kc⟩,o fd F,b⟩
def Gd.up {P:eV}{w:fe}{mg:Str->fc eR}{base:fb}{CX:ul}{k:Nat}{x:Str}{ps:eW Str}{sp:Sp}(g:Gd P w K mg base CX k x ps sp)(n:Nat)(hk:autoParam (k<=n) Ay._auto_1):Gd P w K mg base CX n x ps sp:=by obtain⟨_,_,F,b,q,m⟩:=g.ex;exact⟨_,_,F.mono hk,b,q,m⟩
def ni (K:fh)(C:eQ)(xs:eW Str):Bool:=xs.all λx=>W.findIn K (.ref C) x == some none
def ni.at {C:eQ}{xs:eW Str}(e:ni K C xs=true)(i:Nat){x:Str}(hi:autoParam (xs[i]?=some x) gq._auto_1):W.findIn K (.ref C) x=some none:=beq_iff_eq.mp (bN.mp e x (ak hi))
def Jd (K:fh)(xs:eW Str):Bool:=xs.all λx=>W.nsIn K mainGlobals x == some none
def Jd.at {K7:fh}{h7:fb}{mg7:Str->fc eR}(X:K7.In h7)(G:h7.Ns mainGlobals mg7){xs7:eW Str}(e:Jd K7 xs7=true)(i:Nat){x7:Str}(hi:autoParam (xs7[i]?=some x7) gq._auto_1):mg7 x7=none:=W.mg_none_of X G (beq_iff_eq.mp (bN.mp e x7 (ak hi)))
def all_mk {l:W.OpenLaw}{w:fe}{h:fb}{mg:Str->fc eR}{fa CB CC CL CT CF CS XT XN XV XE f1 f2 f3 f4 f5 f6 f7 f8 f9 f10 f11 f12 f13 f14 f15 f16 f17 f18 f19 f20 f21 f22 f23 f24 f25 f26 f27 f28 f29 f30 fm1 fm2 fm3 fm4 fm5 fm6 fm7 fm8 fm9 fm10 fm11 fm12 fm13 fm14 fm15 fm16 fm17 fm18 fm19 fm20 fm21 fm22 fm23 fm24 fm25 fm26 fm27 fm28 fm29 fm30 fm31 PP:eQ}(X:K.In h)(G:h.Ns mainGlobals mg)(cl:mg "law" = some (.ref fa))(D:Cr K "Board" CB)(bv:ni K CB ["needs","versions"]=true)(x:Cr K "Chart" CC)(y:ni K CC ["board","bits","by_bit","of_part","allowed","shut_out","foes"]=true)(z:Cr K "Ledger" CL)(B:ni K CL ["chart","masks","reasons","place_by_mask","places_by_pick"]=true)(b6:Cr K "Stand" CT)(H:ni K CT ["picked","dead","wanted"]=true)(a4:Cr K "Fork" CF)(L:ni K CF ["part","stand","bit"]=true)(d:Cr K "Search" CS)(J:ni K CS ["chart","ledger","forks"]=true)(P:W.nsIn K mainGlobals "TwiceThere" = some (some (.ref XT)))(ey:W.excIn K XT [.type "ValueError",.type "Exception",.type "BaseException",.type "object"] "ValueError.__new__" = true)(bm:W.nsIn K mainGlobals "NoEntry" = some (some (.ref XN)))(ev:W.excIn K XN [.type "ValueError",.type "Exception",.type "BaseException",.type "object"] "ValueError.__new__" = true)(bq:W.nsIn K mainGlobals "TwoVersions" = some (some (.ref XV)))(ed:W.excIn K XV [.type "ValueError",.type "Exception",.type "BaseException",.type "object"] "ValueError.__new__" = true)(dd:W.nsIn K mainGlobals "BoardError" = some (some (.ref XE)))(gp:W.excIn K XE [.type "ValueError",.type "Exception",.type "BaseException",.type "object"] "ValueError.__new__" = true)(e1:qW K XT XN XV XE XT true false false)(e2:qW K XT XN XV XE XN false true false)(e3:qW K XT XN XV XE XV false false true)(d1:mU K "clashes" qc f1)(d2:mU K "count_picks" vM f2)(d3:mU K "worked_out" sI f3)(d4:mU K "first_bad" E8 f4)(d5:mU K "fitting" E4 f5)(d6:mU K "first_clash" sX f6)(d7:mU K "first_open" vL f7)(d8:mU K "fits" Al f8)(d9:mU K "checked_board" qe f9)(gk:mU K "check_picks" sY f10)(c2:mU K "clashes_with" E7 f11)(fr:mU K "lacks_pick" Ah f12)(co:mU K "first_need" vK f13)(em:mU K "named_parts" vH f14)(go:mU K "_law_at" JU f15)(c5:mU K "_law_version_by" E2 f16)(gb:mU K "_law_need_by" Ae f17)(cp:mU K "_law_shelf_by" vG f18)(cz:mU K "_law_start_by" pW f19)(fo:mU K "_law_copy_of" Am f20)(da:mU K "_law_needs_in" p3 f21)(ep:mU K "_law_meets" sU f22)(dx:mU K "_law_newest" sP f23)(e6:mU K "_law_asked_by" vN f24)(fx:mU K "_law_picks_by" ku f25)(ec:mU K "_law_said" Ad f26)(du:mU K "_law_mixed" vI f27)(ft:mU K "_law_refuses" pY f28)(gd:mU K "_law_as_due" vO f29)(es:mB K CB "__init__" "Board.__init__" Ai fm1)(cs:mB K CB "meeting" "Board.meeting" p9 fm2)(eh:mB K CC "__init__" "Chart.__init__" sZ fm3)(dl:mB K CC "give_bits" "Chart.give_bits" Ak fm4)(fv:mB K CC "allowed_by" "Chart.allowed_by" qf fm5)(cv:mB K CC "shut_out_by" "Chart.shut_out_by" pX fm6)(el:mB K CC "make_foes_mutual" "Chart.make_foes_mutual" sR fm7)(c6:mB K CC "listed" "Chart.listed" sS fm8)(fu:mB K CL "__init__" "Ledger.__init__" sT fm9)(a0:mB K CL "put_down" "Ledger.put_down" E3 fm10)(S:mB K CL "place_against" "Ledger.place_against" sO fm11)(a1:mB K CL "barred_with" "Ledger.barred_with" tj fm12)(b7:mB K CL "told" "Ledger.told" vD fm13)(a8:mB K CT "__init__" "Stand.__init__" sK fm14)(U:mB K CF "__init__" "Fork.__init__" sW fm15)(a5:mB K CS "__init__" "Search.__init__" sM fm16)(Z:mB K CS "opening" "Search.opening" p0 fm17)(ch:mB K CS "wanted_by" "Search.wanted_by" sJ fm18)(bd:mB K CS "left" "Search.left" Ag fm19)(aa:KH K CS "next_part" "Search.next_part" uz fm20 PP)(bf:mB K CS "go_on" "Search.go_on" Aj fm21)(b0:mB K CS "stand_behind" "Search.stand_behind" tf fm22)(a6:mB K CS "go_back" "Search.go_back" sV fm23)(b4:mB K CS "mark_dead" "Search.mark_dead" Af fm24)(a2:mB K CS "shut" "Search.shut" Ac fm25)(ad:mB K CS "place_of_need" "Search.place_of_need" sN fm26)(bl:mB K CS "line_against" "Search.line_against" vJ fm27)(Y:mB K CS "outside" "Search.outside" pZ fm28)(R:mB K CS "show_newest" "Search.show_newest" vE fm29)(b5:mB K CS "newer_picks" "Search.newer_picks" sQ fm30)(b9:mB K CS "show_barred" "Search.show_barred" vF fm31){oc kV dc pm cd ct:eR}{od an:fc eQ}{sl:Array (fc eR)}(aL:W.nsIn K mainGlobals "law" = some (some (.ref f30)))(lL:K.lookup f30=some ⟨oc,od,.func (W.fnOf "law" "law" (iJ kT) (gZ kT) (fE kT) .none kV dc pm an cd ct),sl⟩)(cL:W.codeIn K cd "law" = true)(kL:W.keepIn K (.ref f30)=true)(zz:Jd K ["len","range","list","tuple","str","int","bool","isinstance","sorted","reversed","zip","max","min","sum","dict","enumerate","ValueError"]=true):∃(fd:eZ) (cP:eQ),W.codeHdIn K cP PP=true/\(∀(s:eU) (v:eR),BindsTo s fd ⟨[v],[]⟩ [("_law_script",v)])/\∀base:fb,K.In base->base.Ns mainGlobals mg->um mg base->gv l.prog w K mg base gM 12 fa fd ["_law_script"] (xZ K PP):=by have e:=cl.symm.trans (W.mg_of X G aL);cases e;have j:=@Jd.at K h mg X G _ zz;have T:wR K mg:=⟨(j 0),(j 1),(j 2),(j 3),(j 4),(j 5),(j 6),(j 7),(j 8),(j 9)⟩;obtain⟨_,_,I,ah,b8,bx⟩:=aa.u (ps:=["self","stand"]);have e8:=oB (st:=kT) lL cL kL;refine⟨W.fnOf "law" "law" (iJ kT) (gZ kT) (fE kT) .none kV dc pm an cd ct,_,bx,λs v=>.of_eq rfl,λbase _ _ dy=>?_⟩;have m:=@Lo l.prog w K h mg base X G;have o:=@Ll l.prog w K mg base;have M:=@Lm l.prog w K h mg base X G;have i:TB K mg CB:=⟨D.c,(ni.at bv 0),(ni.at bv 1),W.mg_of X G D.a,(j 2),(j 8)⟩;have b:TC K mg CC:=⟨x.c,(ni.at y 0),(ni.at y 1),(ni.at y 2),(ni.at y 3),(ni.at y 4),(ni.at y 5),(ni.at y 6),(j 8),(j 11),(j 12),(j 13)⟩;have q:TL K mg CL:=⟨z.c,(ni.at B 0),(ni.at B 1),(ni.at B 2),(ni.at B 3),(ni.at B 4),(j 0),(j 10)⟩;have t:DR K mg CT:=⟨b6.c,(ni.at H 0),(ni.at H 1),(ni.at H 2)⟩;have p:Cd K mg CF:=⟨a4.c,(ni.at L 0),(ni.at L 1),(ni.at L 2)⟩;have g:ur K mg CS:=⟨d.c,(ni.at J 0),(ni.at J 1),(ni.at J 2),(j 14),(j 12),(j 2),(j 15),(j 9)⟩;have v1:=m d1 λ_ F=>v4 F;have v2:=m d2 λ_ F=>A1 F;have ap:=M D es λ_ F=>Dl F i (W.mg_of X G P) ey;obtain⟨_,_,MK,BI,BB⟩:=ap.ex;have C:=o D cs λ_ F=>vZ F i v1;have A:=o x c6 λ_ F=>yD F b;have fk:=o x dl λ_ F=>Dn F b i;have dt:=o x fv λ_ F=>v7 F b i C;have e0:=o x cv λ_ F=>vU F b;have c0:=o x el λ_ F=>yB F b A;have cy:=M x eh λ_ F=>yH F b i fk dt e0 c0;have ek:=M z fu λ_ F=>yE F q;have as:=o (sp5:=DP CB CC CL) z a0 λ_ F=>Fs F q A;have c9:=o (sp5:=ug CB CC CL) z S λ_ F=>yz F q b;have ga:=o (sp5:=ui CB CC CL) z a1 λ_ F=>yK F q;have e4:=o (sp5:=wK CB CC CL) z b7 λ_ F=>AS F q A;have b1:=M b6 a8 λ_ F=>yw F t;have ew:=M a4 U λ_ F=>yG F p;have ej:=M d a5 λ_ F=>yx F g ek;have b3:=o (sp5:=xX CB CC CS CT) d bd λ_ F=>Dj F g b t;have a7:=o (sp5:=pN CB CC CS) d ch λ_ F=>yt F g b v2;have O:=o d ad λ_ F=>yy F g b i;have dn:=o d Y λ_ F=>vW F g b i v1 as;have ag:=o d bl λ_ F=>Di F g b t p dn A c9;have a3:=o d a2 λ_ F=>Dd F g b q i t p O C ag as;have N:=o (sp5:=xW CB CC CL CS CF CT) d b4 λ_ F=>Dh F g q t p;have ez:=o d a6 λ_ F=>yF F g q p N;have e7:=o d b0 λ_ F=>yJ F g b t p ga a7 b1;have fp:=o (sp5:=qT CB CC CL CS CT) d Z λ_ F=>vX F g b a7 b1;have c7:=o d bf λ_ F=>Dm F g b p A b3 e7 a3 ez;have c3:=Mt.mk d.c ⟨_,_,Df I bx dy g b t v2 b3,ah,b8⟩;have c8:=o (sp5:=wL CB CC CS CF CT) d b5 λ_ F=>AW F g b i p O C;have c1:=o d b9 λ_ F=>AU F g b q p ag a3 N;have dv:=o d R λ_ F=>AT F g b p c8 c1;have v3:=m d3 λ_ F=>yr F g t ap cy ej ew fp c3 c7 e4 dv A;have ab:=m c5 λ_ F=>Fq F;have a9:=m gb λ_ F=>Dg F ab;have f0:=m ep λ_ F=>yC F;have eb:=m cz λ_ F=>vT F a9;have cn:=m da λ_ F=>vY F;have Q:=m go λ_ F=>HN F T;have gh:=m cp λ_ F=>AV F T ab a9;have gn:=m dx λ_ F=>yA F T f0;have eq:=m gk λ_ F=>yI F i (W.mg_of X G bm) ev (W.mg_of X G bq) ed;obtain⟨_,_,CK,pb,pk,pm⟩:=eq.ex;have v9:=m d9 λ_ F=>v5 F i MK BI BB CK pb pk pm;have al:=m c2 λ_ F=>Fw F v1;have b2:=(m fr λ_ F=>Dk F).up 2;have E:=m co λ_ F=>A0 F i (j 14) (j 15);have e5:=m em λ_ F=>AX F i (j 14);obtain⟨_,_,ME,be,me⟩:=C.ex;have g6:=(m d6 λ_ F=>Em true F E v9 al).up 9;have g7:=(m d7 λ_ F=>Em false F E v9 b2).up 9;have g8:=(m d8 λ_ F=>AZ F (j 0) E v9 al b2 e5).up 9;have g5:=(m d5 λ_ F=>Fu F i MK BI BB ME be me).up 9;have g4:=(m d4 λ_ F=>Dp F i (j 0) (j 1) MK BI BB).up 9;have g3:=v3.up 9;have S6:Kh l.prog w K mg base XT XN XV PP:=⟨g6,g7,g8,g5,g4,g3⟩;have X3:KG K mg XT XN XV XE:=⟨W.mg_of X G P,W.mg_of X G bm,W.mg_of X G bq,W.mg_of X G dd,e1,e2,e3⟩;have e9:=m ec λ_ F=>De F X3 S6;have fy:=m ft λ_ F=>Fr F T (j 16) X3 S6;have eu:=(m gd λ_ F=>Fv F fy e9).up 11;have cx:=Q.up 11;have ea:=(m e6 λ_ F=>A9 F gh eb Q).up 11;have c4:=(m fx λ_ F=>vV F T gn cn).up 11;have ds:=(m fo λ_ F=>Do F T).up 11;have dp:=(m du λ_ F=>AY F T).up 11;exact Ft e8 T cx ea c4 ds dp eu
def walk {l:W.OpenLaw}{q:eV}{loose:eW Str}{XP:(Str->fc eR)->fb->Prop}{YP:fe->fb->Prop}{d:DefRec}{K:Params->fh}{PP:eQ}(hn:l.most=some 63)(hdf:d.params.defaults=[])(hY:∀(w:fe) (h:fb),YP w h->(K w.params).In h)(hY2:∀(w:fe) (h:fb),YP w h->h.get? PP=some (W.tabObj #[]))(hKP:∀w:fe,(K w.params).lookup PP=none)(F:∀(w:fe) (mg:Str->fc eR) (fa:eQ) (h:fb),(K w.params).In h->h.Ns mainGlobals mg->mg d.name=some (.ref fa)->∃(fd:eZ) (cP:eQ),W.codeHdIn (K w.params) cP PP=true/\(∀(s:eU) (u:eR),BindsTo s fd ⟨[u],[]⟩ [("_law_script",u)])/\∀base:fb,(K w.params).In base->base.Ns mainGlobals mg->um mg base->gv l.prog w (K w.params) mg base gM 12 fa fd ["_law_script"] (xZ (K w.params) PP)):W.WalkO q loose XP YP l.row.toRowW d [] (λf vs=>PySem.call f vs):=
 zG (n:=63) (k:=12) (x:="_law_script") (sp:=λw=>xZ (K w.params) PP) hn (by decide) hdf ⟨rfl,by decide,by decide⟩ hY hY2 hKP F λ_ _ a ns hl hS hP=>⟨a,ns,rfl,hS,hl,.inl hP,λ_=>rfl⟩
end Lake.FB
open PySem PySem.W PyProof.Rows
set_option maxRecDepth 100000 in
set_option maxHeartbeats 0 in
theorem PySem.Challenge.cw_fitboard_k03_refused_holds : PySem.Challenge.rw_fitboard_k03_refused.Holds := by
 w_on;o_law;k_head;(case hw=>w_witness2)
 k_fill
 refine Lake.FB.walk (l:=PySem.Challenge.rw_fitboard_k03_refused) rfl rfl (λw h Y=>W.km_in_of Y) (λw h Y=>W.km_tabs_of Y _ (List.Mem.head _)) (λw=>by kernel_rfl) ?F
 case F=>
  intro w mg fa h KX G hmg;refine' Lake.FB.all_mk KX G hmg ⟨?_,?_,?_,?_,?_,?_,?_⟩ ?_ ⟨?_,?_,?_,?_,?_,?_,?_⟩ ?_ ⟨?_,?_,?_,?_,?_,?_,?_⟩ ?_ ⟨?_,?_,?_,?_,?_,?_,?_⟩ ?_ ⟨?_,?_,?_,?_,?_,?_,?_⟩ ?_ ⟨?_,?_,?_,?_,?_,?_,?_⟩ ?_ ?_ ?_ ?_ ?_ ?_ ?_ ?_ ?_ ⟨?_,?_,?_,?_,?_,?_,?_,?_,?_⟩ ⟨?_,?_,?_,?_,?_,?_,?_,?_,?_⟩ ⟨?_,?_,?_,?_,?_,?_,?_,?_,?_⟩ (.mk ?_ ?_ ?_ ?_) (.mk ?_ ?_ ?_ ?_) (.mk ?_ ?_ ?_ ?_) (.mk ?_ ?_ ?_ ?_) (.mk ?_ ?_ ?_ ?_) (.mk ?_ ?_ ?_ ?_) (.mk ?_ ?_ ?_ ?_) (.mk ?_ ?_ ?_ ?_) (.mk ?_ ?_ ?_ ?_) (.mk ?_ ?_ ?_ ?_) (.mk ?_ ?_ ?_ ?_) (.mk ?_ ?_ ?_ ?_) (.mk ?_ ?_ ?_ ?_) (.mk ?_ ?_ ?_ ?_) (.mk ?_ ?_ ?_ ?_) (.mk ?_ ?_ ?_ ?_) (.mk ?_ ?_ ?_ ?_) (.mk ?_ ?_ ?_ ?_) (.mk ?_ ?_ ?_ ?_) (.mk ?_ ?_ ?_ ?_) (.mk ?_ ?_ ?_ ?_) (.mk ?_ ?_ ?_ ?_) (.mk ?_ ?_ ?_ ?_) (.mk ?_ ?_ ?_ ?_) (.mk ?_ ?_ ?_ ?_) (.mk ?_ ?_ ?_ ?_) (.mk ?_ ?_ ?_ ?_) (.mk ?_ ?_ ?_ ?_) (.mk ?_ ?_ ?_ ?_) (.mk ?_ ?_ ?_ ?_ ?_) (.mk ?_ ?_ ?_ ?_ ?_) (.mk ?_ ?_ ?_ ?_ ?_) (.mk ?_ ?_ ?_ ?_ ?_) (.mk ?_ ?_ ?_ ?_ ?_) (.mk ?_ ?_ ?_ ?_ ?_) (.mk ?_ ?_ ?_ ?_ ?_) (.mk ?_ ?_ ?_ ?_ ?_) (.mk ?_ ?_ ?_ ?_ ?_) (.mk ?_ ?_ ?_ ?_ ?_) (.mk ?_ ?_ ?_ ?_ ?_) (.mk ?_ ?_ ?_ ?_ ?_) (.mk ?_ ?_ ?_ ?_ ?_) (.mk ?_ ?_ ?_ ?_ ?_) (.mk ?_ ?_ ?_ ?_ ?_) (.mk ?_ ?_ ?_ ?_ ?_) (.mk ?_ ?_ ?_ ?_ ?_) (.mk ?_ ?_ ?_ ?_ ?_) (.mk ?_ ?_ ?_ ?_ ?_) (.mk ?_ ?_ ?_ ?_ ?_ ?_) (.mk ?_ ?_ ?_ ?_ ?_) (.mk ?_ ?_ ?_ ?_ ?_) (.mk ?_ ?_ ?_ ?_ ?_) (.mk ?_ ?_ ?_ ?_ ?_) (.mk ?_ ?_ ?_ ?_ ?_) (.mk ?_ ?_ ?_ ?_ ?_) (.mk ?_ ?_ ?_ ?_ ?_) (.mk ?_ ?_ ?_ ?_ ?_) (.mk ?_ ?_ ?_ ?_ ?_) (.mk ?_ ?_ ?_ ?_ ?_) (.mk ?_ ?_ ?_ ?_ ?_) ?_ ?_ ?_ ?_ ?_
  all_goals try first|k_is|k_exc|kernel_rfl
