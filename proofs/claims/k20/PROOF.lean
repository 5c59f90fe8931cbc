import PyProof.Rows.All
import KE.KStateDown
import KE.RegKIsAll
import KE.KRevIter
import KE.KDictOf
import Wide.Line
import Open.Line
import OpenK.KLine
import PyProof.Rows.KernelRfl
import PySem.Challenge.RW_loomarrays_k20_whole_no_row_is_lost
set_option Elab.async false
open PySem
set_option linter.defProp false
abbrev Y3(x:PySem.Str):Prop:=(x == ("__debug__" : PySem.Str))=false
abbrev Y4(x:PySem.Str):Prop:=(x == ("__classdict__" : PySem.Str))=false
abbrev Y5:=PySem.Value->PySem.Shared->Prop
abbrev Y6:=List (PySem.Addr×PySem.Obj)
def Y7:=@Heap.get?_push_of_some
def Y8:=@Heap.get?_push_size
def Y9:=@decide_eq_true
def Z0:=@decide_eq_false
def Z1:=@List.mem_cons_of_mem
def Z2:=@List.mem_cons_self
def Z3:=@List.mem_of_getElem?
def Z4:=@List.getElem?_eq_getElem
def Z5:=@List.getD_eq_getElem?_getD
def Z6:=@Nat.lt_of_lt_of_le
def Z7:=@List.getElem?_append_left
def Z8:=@List.mem_map_of_mem
def Z9:=@List.getElem?_eq_none
def ZA:=@Int.toNat_natCast
theorem ZF{A:Sort _}{a:A}:a=a:=Eq.trans rfl rfl
set_option compiler.extract_closed false
noncomputable section
abbrev Rz:=List PySem.Expr
abbrev Ng:=Option PySem.Addr
abbrev VL:=List PySem.Addr
abbrev Pj:=Option PySem.Value
abbrev MY:=List PySem.Value
abbrev R5:=List PySem.Str
abbrev Nt:=List (PySem.Str×Bool)
abbrev XB:=Option Int
abbrev N0:=List Bool
abbrev XT:=List Nat
abbrev Pa:=List Int
abbrev Sj:=List (Nat×Nat)
abbrev R3:=List (Int×Int×Int)
abbrev Pk:=List (List Int)
theorem ZG{p:Prop}(h:p:=by lia):p:=h
theorem ZH{p:Prop}(h:p:=by simp):p:=h
theorem ZI{p:Prop}(h:p:=by kernel_rfl!):p:=h
theorem ZJ{p:Prop}(h:p:=by omega):p:=h
theorem ZK{p:Prop}(h:p:=by first|exact Or.inl rfl|exact Or.inr (Or.inl rfl)|exact Or.inr (Or.inr rfl)):p:=h
theorem ZL{p:Prop}(h:p:=by first|exact .inl rfl|exact .inr rfl|assumption):p:=h
theorem ZM{p:Prop}(h:p:=by first|exact Or.inl rfl|exact Or.inr rfl):p:=h
theorem ZN{p:Prop}(h:p:=by first|decide|lia):p:=h
theorem ZO{p:Prop}(h:p:=by with_unfolding_all rfl):p:=h
theorem ZP{p:Prop}(h:p:=by intro _;rfl):p:=h
theorem ZQ{p:Prop}(h:p:=by intro _ _;rfl):p:=h
theorem ZR{p:Prop}(h:p:=by decide +kernel):p:=h
def ZS:=@wpAny_bind
def ZT:=@wpAny_pure
def ZU:=@Nat.le_refl
def ZV:=@Option.some.inj
def ZW:=@Heap.lt_size
def ZX:=@List.size_toArray
def ZY:=@if_pos
def ZZ:=@List.map_cons
def Za:=@if_neg
def Zb:=@Bool.and_eq_true
def Zc:=@List.getElem?_append_right
def Zd:=@Nat.ne_of_lt
def Ze:=@List.getElem?_set_ne
def Zf:=@List.length_map
def Zg:=@List.getElem?_set_self
def Zh:=@PyProof.Rows.callWith_type1
def Zi:=@Bool.false_ne_true
def Zj:=@Heap.get?_update_other
def Zk:=@wpAny_newObj_type
def Zl:=@List.length_range
def Zm:=@wpAny_field
def Zn:=@mem_of_lookup
def Zo:=@Ne.symm
def Zp:=@Nat.zero_le
def Zq:=@List.length_append
def Zr:=@List.mem_append_right
def Zs:=@List.getElem?_map
def Zt:=@List.length_cons
def Zu:=@List.getElem?_take_of_lt
def Zv:=@Heap.get?_update_self
def Zw:=@Nat.le_trans
def Zx:=@of_decide_eq_true
def Zy:=@wpAny_callSpecial?_slot
def Zz:=@wpAny_call_entry
def RJ:=@wpAny_truthy_bool
def Uy:=@builtinLookup_eq_fast
def XJ:=@wpAny_seqItems
def Pz:=@wpAny_Call_Name_kw
def Pt:=@Nat.pow_le_pow_right
def Nw:=@Nat.lt_irrefl
def RK:=@wpAny_pyIter_list
def sX:=@F.plain_max_loop
def Uh:=@List.map_append
def XH:=@wpAny_of_eq
def Sh:=@Heap.size_push
def PJ:=@List.mem_of_mem_drop
def J8:=@Around.under_plainId
def VQ:=@codeAny_builtin
def zL:=@List.replicate_succ
def Up:=@sizeLine_eq
def Po:=@List.getElem?_take_eq_none
def DP:=@wpAny_specialOf
def QS:=@typeLookup_type
def Uw:=@List.of_mem_zip
def Nu:=@Nat.le_succ
def PH:=@Calls.spliced_nil
def LR:=@List.mem_of_mem_take
def K8:=@F.slot_tuple_iterator_next
def R9:=@wpAny_mono
def S5:=@wpAny_holding
def Nd:=@plainId_quiet
def MU:=@PyProof.Rows.slot_tuple_getitem
def Mv:=@List.length_take
def BA:=@List.getElem_mem
def zB:=@List.getElem?_replicate
def KQ:=@List.map_map
def zA:=@wpAny_setField_rec
def LN:=@wpAny_pyIter_tuple
def GR:=@Obj.data_mapFields
def ve:=@Calls.spliced_cons
def zo:=@wpAny_passesOwn
def Fj:=@List.append_nil
def M1:=@List.any_cons
def La:=@List.flatten_cons
def Hq:=@isSubtype_type
def Di:=@Nat.lt_succ_self
def E9:=@Nat.le_max_right
def LM:=@Nat.le_add_right
def zv:=@List.map_reverse
def uD:=@List.getElem?_range
def CR:=@List.all_cons
def Jl:=@wpAny_updateSeq
def Aj:=@wpAny_letGo
def Lb:=@wpAny_typeOf
def CW:=@F.slot_zip_next
def JF:=@List.length_filter_le
def Rx:=@PyProof.Rows.boot_list
def vM:=@wpAny_rule
def Sk:=@call_meets
def Dr:=@wpAny_isInstance
def Et:=@List.getElem_inj
def vz:=@List.ext_getElem
def Au:=@wpAny_standAt
def UW:=@wpAny_attempt
def v5:=@Paired.length
def Kh:=@Nat.le_max_left
def CM:=@Bool.or_eq_true
def Hf:=@codeAny_mono
def Us:=@Nat.lt_trans
def wD:=@wpAny_tryCatch
def MJ:=@wpAny_setField
def Ms:=@Int.emod_lt_of_pos
def rO:=@F.plain_reversed_new
def FY:=@F.args_object_init_2
def LQ:=@List.drop_eq_getElem_cons
def Ui:=@W.mg_of
def uK:=@wpAny_assign_Name
def PQ:=@Nat.lt_succ_of_lt
def LF:=@List.reverse_cons
def O3:=@List.ext_getElem?
def E0:=@F.args_tuple_mul_2
def wZ:=@F.args_tuple_add_2
def FJ:=@AutoSeq1.wpAny_loadPart'
def pZ:=@List.filter_cons
def Mb:=@List.all_reverse
def Gh:=@F.entry_tuple_mul
def Ll:=@F.entry_tuple_add
def EY:=@W.callWith_K
def tJ:=@Nat.zero_add
def Ml:=@Nat.ne_of_gt
def Ov:=@F.slot_tuple_mul
def LX:=@F.slot_tuple_add
def uN:=@F.entry_max_loop
def zQ:=@List.take_of_length_le
def tK:=@Calls.callWith_builtin
def zM:=@wpAny_ite_false
def Fm:=@exec_Assign_Name_used
def K2:=@Obj.isFreed_of_fields
def vI:=@List.getElem?_reverse
def DN:=@Int.mul_nonneg
def Mp:=@wpAny_updateSeq_pair
def J9:=@List.filterMap_cons
def Kx:=@Heap.SameBut.update
def LH:=@wpAny_onRaise
set_option autoImplicit true
section
set_option Elab.async false
set_option linter.all false
set_option maxRecDepth 100000
namespace L2
open PySem PySem.Spec PyProof.Rows
abbrev Key:=Sum Int Str
def qY:Key->Value->Bool|.inl k,v=>Value.isInt k v|.inr x,v=>Value.isStrOf x v
def T8(w:World):Key->Int|.inl k=>hashInt k|.inr x=>hashStr w x
theorem bP:∀{k:Key}{v:Value},qY k v=true->(∃i t,k=Sum.inl i/\v=Value.int i t)\/(∃x t,k=Sum.inr x/\v=Value.str x t)|.inl i,v,h=>by obtain⟨t,e⟩:=Value.isInt_shape (k:=i) (v:=v) h;exact .inl ⟨i,t,rfl,e⟩|.inr x,v,h=>by obtain⟨t,e⟩:=Value.isStrOf_shape (x:=x) (v:=v) h;exact .inr ⟨x,t,rfl,e⟩
theorem Q0i(i:Int)(t:Tok):qY (.inl i) (.int i t)=true:=by simp[qY,Value.isInt]
theorem zw(x:Str)(t:Tok):qY (.inr x) (.str x t)=true:=by simp[qY,Value.isStrOf]
theorem Kj(a b:Int):decide ((Sum.inl a:Key)=Sum.inl b)=(a == b):=by by_cases e:a=b;subst e;simp;have h:¬(Sum.inl a:Key)=Sum.inl b:=fun q=>e (Sum.inl.inj q);rw[Z0 h];exact(beq_eq_false_iff_ne.mpr e).symm
theorem Km(a b:Str):decide ((Sum.inr a:Key)=Sum.inr b)=decide (a=b):=by by_cases e:a=b;subst e;simp;have h:¬(Sum.inr a:Key)=Sum.inr b:=fun q=>e (Sum.inr.inj q);rw[Z0 h,Z0 e]
theorem Kk(a:Int)(b:Str):decide ((Sum.inl a:Key)=Sum.inr b)=false:=Z0 (fun q=>nomatch q)
theorem Kl(a:Str)(b:Int):decide ((Sum.inr a:Key)=Sum.inl b)=false:=Z0 (fun q=>nomatch q)
def eC(prog:Program)(w:World):PySem.KeyKind prog w Key where
 is:=qY
 hash:=T8 w
 inj:=fun v a b ha hb=>by
  rcases bP ha with ⟨i,t,rfl,rfl⟩|⟨x,t,rfl,rfl⟩
  rcases bP hb with ⟨j,u,rfl,e⟩|⟨y,u,rfl,e⟩
  injection e with e1 _;rw[e1];exact nomatch e;rcases bP hb with ⟨j,u,rfl,e⟩|⟨y,u,rfl,e⟩
  exact nomatch e;injection e with e1 _;rw[e1]
 byValue:=fun k v h=>by rcases bP h with ⟨i,t,rfl,rfl⟩|⟨x,t,rfl,rfl⟩<;>rfl
 pyHash:=fun hv h=>by
  rcases bP hv with ⟨i,t,rfl,rfl⟩|⟨x,t,rfl,rfl⟩
  exact wpAny_pyHash_int h;exact wpAny_pyHash_str h
 eqBool:=fun hu hv h=>by
  rcases bP hu with ⟨i,t,rfl,rfl⟩|⟨x,t,rfl,rfl⟩
  rcases bP hv with ⟨j,u,rfl,rfl⟩|⟨y,u,rfl,rfl⟩
  rw[Kj] at h;exact wpAny_eqBool_int h;rw[Kk] at h;exact SeqAt.EqAt.int_str i t y u _ _ _ _ h;rcases bP hv with ⟨j,u,rfl,rfl⟩|⟨y,u,rfl,rfl⟩
  rw[Kl] at h;exact SeqAt.EqAt.str_int x t j u _ _ _ _ h;rw[Km] at h;exact wpAny_eqBool_str h
 «strs» := fun k x t v h=>by
  rcases bP h with ⟨i,u,rfl,e⟩|⟨y,u,rfl,e⟩
  exact nomatch e;injection e with e1 _;subst e1;cases v<;>rfl
theorem uC(prog:Program)(w:World)(i:Int)(t:Tok):(eC prog w).is (.inl i) (.int i t)=true:=Q0i i t
theorem Q0j(prog:Program)(w:World)(x:Str)(t:Tok):(eC prog w).is (.inr x) (.str x t)=true:=zw x t
inductive V where
 |bz|bl (b:Bool)|int (i:Int)|str (x:Str)|Ry (b:Array UInt8)|RH (b:UInt64)|ref (a:Addr)|ty (n:String)
 deriving DecidableEq
abbrev NC:=List V
def RelV:V->Value->Prop|.bz,u=>u=Value.none|.bl b,u=>u=Value.bool b|.int i,u=>∃t,u=Value.int i t|.str x,u=>∃t,u=Value.str x t|.Ry b,u=>∃t,u=Value.bytes b t|.RH b,u=>∃t,u=Value.float b t|.ref a,u=>u=Value.ref a|.ty n,u=>u=Value.type n
abbrev Vals:NC->MY->Prop:=Paired RelV
theorem Vals.length(r:Vals xs us):xs.length=us.length:=v5 r
theorem Vals.get:∀{xs:NC}{us:MY}{i:Nat}{x:V},Vals xs us->xs[i]?=some x->∃u,us[i]?=some u/\RelV x u|_,_,_,_,.nil,e=>by simp at e|_,_,0,_,.cons r _,e=>by simp at e;subst e;exact⟨_,rfl,r⟩|_,_,i+1,x,.cons _ t,e=>by obtain⟨u,h1,h2⟩:=Vals.get (i:=i) (x:=x) t (by simpa using e);exact⟨u,by simpa using h1,h2⟩
theorem Vals.set(r:RelV x u):∀{xs:NC}{us:MY}(i:Nat),Vals xs us->Vals (xs.set i x) (us.set i u)|_,_,_,.nil=>.nil|_,_,0,.cons _ t=>.cons r t|_,_,i+1,.cons q t=>.cons q (Vals.set r i t)
theorem Vals.append:∀{xs ys:NC}{us ws:MY},Vals xs us->Vals ys ws->Vals (xs++ys) (us++ws)|_,_,_,_,.nil,s=>s|_,_,_,_,.cons r t,s=>.cons r (Vals.append t s)
theorem Vals.take:∀{xs:NC}{us:MY}(n:Nat),Vals xs us->Vals (xs.take n) (us.take n)|_,_,0,_=>.nil|_,_,_+1,.nil=>.nil|_,_,n+1,.cons r t=>.cons r (Vals.take n t)
theorem Vals.drop:∀{xs:NC}{us:MY}(n:Nat),Vals xs us->Vals (xs.drop n) (us.drop n)|_,_,0,r=>r|_,_,_+1,.nil=>.nil|_,_,n+1,.cons _ t=>Vals.drop n t
def jW:Option V->Pj->Prop|some v,some u=>RelV v u|none,none=>True|_,_=>False
def KV{κ:Type}:List (κ×V)->List (κ×Value)->Prop:=Paired fun(p:κ×V)(q:κ×Value)=>p.1=q.1/\RelV p.2 q.2
def kV:Key->V|.inl i=>.int i|.inr x=>.str x
inductive HO where
 |lst (xs:NC)|tup (xs:NC)|dK (aR:List (Key×V)) (ep:Nat)|dT (aR:List (List Key×V))|set (S:Int->Bool) (n:Nat)|ins (C dx:Addr) (fs:List (Str×V))|own (x:Addr)|xd (fs:List (Str×V))|met (f x:Addr)|Uu (lo hi:Int)|D8 (o:Obj) (u:HO)|MT (ps:Array Value)|ext (φ:Heap->Prop)
abbrev Hp:=Addr->Option HO
def upd(H:Hp)(a:Addr)(o:HO):Hp:=fun b=>if b=a then some o else H b
theorem aM:upd H a o a=some o:=by unfold upd;rw[ZY rfl]
theorem aT(h:b≠a):upd H a o b=H b:=by unfold upd;rw[Za h]
theorem bq{H:Hp}{a b:Addr}{o:HO}(h:H a=some o)(h':H b=none):a≠b:=by intro e;subst e;rw[h] at h';cases h'
def kK(h:Heap)(a:Addr)(items:Array Value):Prop:=∃o,h.get? a=some o/\o.cls=.type "tuple" /\ (∃n,o.data=.seq items n)/\o.dict=none
theorem kK.tup(x:kK h a items):IsTup h a items:=let ⟨o,ho,hc,hd,_⟩:=x;⟨o,ho,hc,hd⟩
theorem kK.lt(x:kK h a items):a<h.objs.size:=let ⟨_,ho,_⟩:=x;ZW ho
theorem kK.new(h:Heap)(items:Array Value):kK (h.push {cls:=.type "tuple",data:=.seq items}) h.objs.size items:=⟨_,Y8 _ rfl,rfl,⟨_,rfl⟩,rfl⟩
section
variable(P:Program)(w:World)
def dm(H:Hp)(h:Heap)(a:Addr):HO->Prop
|.lst xs=>xs.length<=sizeLine/\∃(aG:MY)(n:Nat),Vals xs aG/\h.get? a=some {cls:=.type "list",data:=.seq aG.toArray n}|.tup xs=>xs.length<=sizeLine/\∃aG:MY,Vals xs aG/\kK h a aG.toArray|.dK aR ep=>aR.length<=sizeLine/\(a == sysModules)=false/\∃vs,KV aR vs/\h.DictAt (eC P w) a vs ep|.dT aR=>aR.length<=sizeLine/\(a == sysModules)=false/\∃xs:List (List Key×Addr×Value),
 Paired (fun(p:List Key×V)(q:List Key×Addr×Value)=>p.1=q.1/\H q.2.1=some (.tup (p.1.map kV))/\RelV p.2 q.2.2) aR xs /\
 ∃o es ep,h.get? a=some o/\o.ExactDict/\o.data=.dict es ep/\es.toList=xs.map (entryOfKey (tupleKind (eC P w)))/\(xs.map (·.1)).Nodup
|.set S n=>h.SetOf (intKind P w) a S n|.ins C dx fs=>H dx=some (.own a)/\fs.length<=1000/\dx≠a/\h.get? a=some (W.instObj C dx)/\∃mA,h.Ns1 dx mA/\(∀f,jW (fs.lookup f) (mA f))/\PySem.Within mA (fs.map (·.1))|.own _=>∃o,h.get? a=some o|.xd fs=>∃mA,h.Ns1 a mA/\∀f,jW (fs.lookup f) (mA f)|.Uu lo hi=>∃t u v,h.get? a=some {cls:=.type "range",data:=.fields #[.int lo t,.int hi u,.int 1 v]}|.D8 o u=>h.get? a=some o/\dm H h a u|.MT ps=>h.get? a=some {cls:=.none,data:=.fields ps}|.met f x=>h.get? a=some (W.methodObj (.ref f) (.ref x))|.ext φ=>φ h/\(∃o,h.get? a=some o)/\∀h1 h2:Heap,φ h1->(∀o,h1.get? a=some o->h2.get? a=some o)->φ h2
def nA(H:Hp)(h:Heap):Prop:=∀a o,H a=some o->dm P w H h a o
end
section
variable{P:Program}{w:World}{H H':Hp}{h h':Heap}{a:Addr}{o:HO}
theorem dm.lt(x:dm P w H h a o):a<h.objs.size:=by cases o with|lst xs=>obtain⟨_,_,_,_,e⟩:=x;exact ZW e|tup xs=>obtain⟨_,_,_,p⟩:=x;exact p.lt|dK aR ep=>obtain⟨_,_,_,_,o,_,e,_⟩:=x;exact ZW e|dT aR=>obtain⟨_,_,_,_,o,_,_,e,_⟩:=x;exact ZW e|set S n=>obtain⟨o,_,_,_,e,_⟩:=x;exact ZW e|ins C dx fs=>obtain⟨_,_,_,e,_⟩:=x;exact ZW e|own y=>obtain⟨_,e⟩:=x;exact ZW e|xd fs=>obtain⟨_,⟨_,_,_,e,_⟩,_⟩:=x;exact ZW e|Uu lo hi=>obtain⟨_,_,_,e⟩:=x;exact ZW e|D8 ob u=>obtain⟨e,_⟩:=x;exact ZW e|MT ps=>exact ZW (show h.get? a=some _ from x)|met f y=>exact ZW (show h.get? a=some _ from x)|ext φ=>obtain⟨_,⟨_,e⟩,_⟩:=x;exact ZW e
theorem Paired.PK{α β:Type}{F G:α->β->Prop}:∀{CH:List α}{CI:List β},Paired F CH CI->(∀a b,F a b->G a b)->Paired G CH CI|_,_,.nil,_=>.nil|_,_,.cons r t,f=>.cons (f _ _ r) (Paired.PK t f)
theorem dm.wO(x:dm P w H h a o)(k:∀b u,(b=a\/H b=some (.own a))->h.get? b=some u->h'.get? b=some u)(ho:∀b,H b=some (.own a)->H' b=some (.own a)) (ht:∀b xs,H b=some (.tup xs)->H' b=some (.tup xs)):dm P w H' h' a o:=by induction o with|lst xs=>obtain⟨z,aG,n,r,e⟩:=x;exact⟨z,aG,n,r,k _ _ (.inl rfl) e⟩|tup xs=>obtain⟨z,aG,r,ob,e,c⟩:=x;exact⟨z,aG,r,ob,k _ _ (.inl rfl) e,c⟩|dK aR ep=>obtain⟨z,y,vs,r,ob,es,e,c⟩:=x;exact⟨z,y,vs,r,ob,es,k _ _ (.inl rfl) e,c⟩|dT aR=>obtain⟨z,y,xs,r,ob,es,ep,e,c⟩:=x;exact⟨z,y,xs,Paired.PK r fun p q z=>⟨z.1,ht _ _ z.2.1,z.2.2⟩,ob,es,ep,k _ _ (.inl rfl) e,c⟩|set S n=>obtain⟨ob,es,ep,t,e,c⟩:=x;exact⟨ob,es,ep,t,k _ _ (.inl rfl) e,c⟩|ins C dx fs=>obtain⟨d,z,ne,e,mA,⟨od,es,ep,e2,c⟩,r⟩:=x;exact⟨ho _ d,z,ne,k _ _ (.inl rfl) e,mA,⟨od,es,ep,k _ _ (.inr d) e2,c⟩,r⟩|own y=>obtain⟨ob,e⟩:=x;exact⟨ob,k _ _ (.inl rfl) e⟩|xd fs=>obtain⟨mA,⟨od,es,ep,e,c⟩,r⟩:=x;exact⟨mA,⟨od,es,ep,k _ _ (.inl rfl) e,c⟩,r⟩|Uu lo hi=>obtain⟨t,u,v,e⟩:=x;exact⟨t,u,v,k _ _ (.inl rfl) e⟩|D8 ob u ih=>obtain⟨e,q⟩:=x;exact⟨k _ _ (.inl rfl) e,ih q⟩|MT ps=>have e:h.get? a=some {cls:=.none,data:=.fields ps}:=x;show h'.get? a=some {cls:=.none,data:=.fields ps};exact k a _ (.inl rfl) e|met f y=>have e:h.get? a=some (W.methodObj (.ref f) (.ref y)):=x;show h'.get? a=some (W.methodObj (.ref f) (.ref y));exact k a _ (.inl rfl) e|ext φ=>obtain⟨p,⟨o,e⟩,st⟩:=x;exact⟨st _ _ p fun o q=>k _ _ (.inl rfl) q,⟨o,k _ _ (.inl rfl) e⟩,st⟩
theorem nA.lt(x:nA P w H h)(e:H a=some o):a<h.objs.size:=(x a o e).lt
theorem nA.fresh(x:nA P w H h)(e:h.objs.size<=a):H a=none:=by cases q:H a with|none=>rfl|some u=>exact absurd (Z6 (x.lt q) e) (Nw _)
theorem nA.kept(x:nA P w H h)(k:∀b u,h.get? b=some u->h'.get? b=some u):nA P w H h':=fun a o e=>(x a o e).wO (fun b u _ q=>k b u q) (fun _ q=>q) fun _ _ q=>q
theorem nA.laid(x:nA P w H h)(k:∀b u,h.get? b=some u->h'.get? b=some u)(hp:h.objs.size<=a)(new:dm P w (upd H a o) h' a o):nA P w (upd H a o) h':=fun b u e=>by have hn:=x.fresh hp;by_cases hb:b=a;subst hb;rw[aM] at e;cases e;exact new;rw[aT hb] at e;exact(x b u e).wO (fun c v _ q=>k c v q) (fun c q=>by rw[aT (bq q hn)];exact q) fun c xs q=>by rw[aT (bq q hn)];exact q
end
def Rd(H:Hp)(a:Addr)(u:HO):Prop:=H a=some u\/∃o,H a=some (.D8 o u)
theorem Rd.ok(r:Rd H a u)(x:nA P w H h):dm P w H h a u:=by rcases r with r|⟨o,r⟩;exact x a u r;obtain⟨_,q⟩:=x a _ r;exact q
def Ro:Option HO->Prop|some (.lst _)=>True|some (.dK _ _)=>True|some (.dT _)=>True|some (.set _ _)=>True|some (.ins _ _ _)=>True|some (.ext _)=>True|_=>False
section
variable{P:Program}{w:World}{H:Hp}{h h':Heap}{x e:Addr}{o':HO}
theorem nA.write(ok:nA P w H h)(mu:Ro (H x))(he:e=x\/H e=some (.own x))(k:∀b u,b≠e->h.get? b=some u->h'.get? b=some u)(Nj:∃u,h'.get? e=some u)(new:dm P w (upd H x o') h' x o'):nA P w (upd H x o') h':=fun b u q=>by
 have P4:∀c y,H c=some (.own y)->c≠x:=fun c y r z=>by subst z;rw[r] at mu;exact mu
 have Uo:∀c xs,H c=some (.tup xs)->c≠x:=fun c xs r z=>by subst z;rw[r] at mu;exact mu
 by_cases hb:b=x;subst hb;rw[aM] at q;cases q;exact new;rw[aT hb] at q;by_cases JS:b=e;have q':H b=some (.own x):=by rcases he with z|z;exact absurd (JS.trans z) hb;rw[JS];exact z
 rw[q] at q';cases q';obtain⟨v,hv⟩:=Nj;exact⟨v,by rw[JS];exact hv⟩;refine(ok b u q).wO (fun c v hc r=>k c v ?_ r) (fun c r=>by rw[aT (P4 c b r)];exact r) fun c xs r=>by rw[aT (Uo c xs r)];exact r
 rcases hc with rfl|hc;exact JS;rintro rfl;rcases he with z|z;exact P4 c b hc z;rw[hc] at z;cases z;exact hb rfl
end
structure Un(fs ex:VL)(H H':Hp)(h h':Heap):Prop where
 keep:∀b o,h.get? b=some o->H b=none->b∉fs->b∉ex->h'.get? b=some o
 slot:∀b o,h.get? b=some o->H b=none->b∈fs->b∉ex->∃sl,h'.get? b=some {o with slots:=sl}
 free:∀b o,h.get? b=some o->H b=none->b∉ex->H' b=none
 there:∀b o,h.get? b=some o->b∉ex->∃o',h'.get? b=some o'
 u4:∀b xs,H b=some (.tup xs)->H' b=some (.tup xs)
 rZ:∀b o u,H b=some (.D8 o u)->H' b=some (.D8 o u)
 u3:∀b ps,H b=some (.MT ps)->∃more,H' b=some (.MT (ps++more))
section
variable{fs Wx ex Yn:VL}{H H1 H2:Hp}{h h1 h2 h':Heap}{a x e:Addr}{o:HO}
theorem Un.any(u:Un fs ex H H1 h h1)(q:h.get? b=some ob)(n:H b=none)(hx:b∉ex):∃sl,h1.get? b=some {ob with slots:=sl}:=by by_cases hb:b∈fs;exact u.slot b ob q n hb hx;exact⟨ob.slots,u.keep b ob q n hb hx⟩
theorem Un.kept(k:∀b u,h.get? b=some u->h'.get? b=some u):Un fs ex H H h h':=⟨fun b ob q _ _ _=>k b ob q,fun b ob q _ _ _=>⟨ob.slots,k b ob q⟩,fun _ _ _ n _=>n,fun b ob q _=>⟨ob,k b ob q⟩,fun _ _ q=>q,fun _ _ _ q=>q,fun _ ps q=>⟨#[],by rw[q];simp⟩⟩
theorem Un.refl:Un fs ex H H h h:=Un.kept fun _ _ q=>q
theorem Un.laid(k:∀b u,h.get? b=some u->h'.get? b=some u)(hp:h.objs.size<=a)(hn:H a=none):Un fs ex H (upd H a o) h h' where
 keep:=fun b u q _ _ _=>k b u q
 slot:=fun b u q _ _ _=>⟨u.slots,k b u q⟩
 free:=fun b u q n _=>by rw[aT (Zd (Z6 (ZW q) hp))];exact n
 there:=fun b u q _=>⟨u,k b u q⟩
 u4:=fun b xs q=>by rw[aT (bq q hn)];exact q
 rZ:=fun b u xs q=>by rw[aT (bq q hn)];exact q
 u3:=fun b ps q=>⟨#[],by rw[aT (bq q hn),q];simp⟩
theorem Un.write(mu:Ro (H x))(he:e=x\/H e=some (.own x))(k:∀b u,b≠e->h.get? b=some u->h'.get? b=some u)(Nj:∃u,h'.get? e=some u):Un fs ex H (upd H x o) h h':=by
 have hx:∀b,H b=none->b≠x:=fun b n z=>by subst z;rw[n] at mu;exact mu
 have hb:∀b,H b=none->b≠e:=fun b n z=>by subst z;rcases he with r|r;exact hx b n r;rw[n] at r;cases r
 have hm:∀b u,H b=some u->¬Ro (some u)->b≠x:=fun b u q nm z=>by subst z;rw[q] at mu;exact nm mu
 refine⟨fun b u q n _ _=>k b u (hb b n) q,fun b u q n _ _=>⟨u.slots,k b u (hb b n) q⟩,fun b u q n _=>by rw[aT (hx b n)];exact n,fun b u q _=>?_,fun b xs q=>by rw[aT (hm b _ q fun z=>z)];exact q,fun b u xs q=>by rw[aT (hm b _ q fun z=>z)];exact q,fun b ps q=>⟨#[],by rw[aT (hm b _ q fun z=>z),q];simp⟩⟩;by_cases JS:b=e;subst JS;exact Nj;exact⟨u,k b u JS q⟩
end
def Eh(h:Heap)(H:Hp):VL:=(List.range h.objs.size).filter fun a=>(H a).isSome
def sk(h:Heap)(H:Hp):Heap:=W.hideAll h (Eh h H)
theorem Q0a(h:Heap)(H:Hp):(sk h H).objs.size=h.objs.size:=W.hideAll_size _ _
theorem Ca(e:h.get? b=some o)(n:H b=none):(sk h H).get? b=some o:=W.hideAll_get _ e fun hm=>by have q:(H b).isSome=true:=(List.mem_filter.mp hm).2;rw[n] at q;simp at q
theorem FK(e:(sk h H).get? b=some o):h.get? b=some o/\H b=none:=by have e':h.get? b=some o:=W.of_hideAll (Eh h H) e;refine⟨e',?_⟩;cases q:H b with|none=>rfl|some x=>have hm:b∈Eh h H:=List.mem_filter.mpr ⟨List.mem_range.mpr (ZW e'),by simp[q]⟩;have z:(sk h H).get? b=none:=W.hideAll_none (Eh h H) hm;rw[z] at e;cases e
def Eo(g h:Heap)(L:Addr):Y6:=(List.range h.objs.size).filterMap fun a=>if a=L\/(g.get? a).isSome=true then none else(h.get? a).map fun o=>(a,o)
def rest(g h:Heap)(L d:Addr):Y6:=(Eo g h L).filter fun p=>decide (p.1≠d)
structure Mod(K:W.Frag)(mg:Str->Pj)(base:Heap):Prop where
 Ko:K.In base
 glob:base.Ns mainGlobals mg
 blt:∃mb,base.Ns builtinsNs mb/\∀x:Str,x≠"__name__" -> mb x=bootBuiltins x
 nolimit:base.NoLimit
structure Cx where
 prog:Program
 w:World
 K:W.Frag
 mg:Str->Option Value
 base:Heap
 A:Around
 N:List Str
 s₀:Shared
 H₀:Hp
 env:Env
 outer:List Env
 stack:List Env
 ex:List Addr
 fn:Str->Bool
 calm:Bool
 pn:Y6
 xe:Y5
def BV(l:List Env):VL:=l.filterMap (·.frame)
abbrev Cx.fs(X:Cx):VL:=BV X.outer
def xc(sc:Scope)(x:Str):Prop:=sc.names.lookup x=some .local\/sc.names.lookup x=some .cell\/sc.names.lookup x=some .free
def Loc(sc:Scope)(x:Str):Prop:=sc.names.lookup x=some .local\/sc.names.lookup x=some .cell
def Look(env:Env)(h:Heap)(m:Str->Pj)(x:Str)(u:Value):Prop:=(env.kindOf x=some .local/\m x=some u)\/((env.kindOf x=some .cell\/env.kindOf x=some .free)/\∃c,env.cells.lookup x=some c/\h.IsCell c (some u))
structure Cx.Ok(X:Cx):Prop where
 mod:Mod X.K X.mg X.base
 kind:X.env.scope.kind=.function
 glob:X.env.globals=mainGlobals
 blt:X.env.builtins=builtinsNs
 above:X.s₀.heap.objs.size<=X.env.locals
 inj:∀x y c,X.env.cells.lookup x=some c->X.env.cells.lookup y=some c->x=y
 has:∀x,(X.env.kindOf x=some .cell\/X.env.kindOf x=some .free)->∃c,X.env.cells.lookup x=some c
 Oc:∀x c,X.fn x=true->X.env.cells.lookup x=some c->X.s₀.heap.objs.size<=c
 hd:X.calm=true->X.A.handled=none
 frames:X.A.frames=some X.stack
 Sn:X.stack=X.outer\/(X.stack=X.env::X.outer/\X.env.frame=some X.env.locals)
 RG:∀b∈X.ex,b≠X.env.locals/\∀x c,X.env.cells.lookup x=some c->c≠b
 bs:∀b o,X.base.get? b=some o->X.s₀.heap.get? b=some o/\X.H₀ b=none
 D7:X.base.objs.size<=X.s₀.heap.objs.size
 CY:∀b o,X.base.get? b=some o->b∉X.ex
 BJ:∀b∈X.ex,b∉X.fs
 lV:X.s₀.heap.FunFrames X.base X.outer
 HV:∀b∈X.fs,X.H₀ b=none
structure Inv(X:Cx)(QF:Y6)(σ:List (Option V))(H:Hp)(s:Shared):Prop where
 ok:X.Ok
 os:s.os=X.s₀.os
 bare:AllBare s.gens
 base:Un X.fs X.ex X.H₀ H X.s₀.heap s.heap
 loc:∃m,s.heap.Ns X.env.locals m/\∀(i:Nat)(x:Str)(v:V),X.N[i]?=some x->σ[i]?=some (some v)->xc X.env.scope x->∃u,RelV v u/\Look X.env s.heap m x u
 cell:∀x c,X.env.cells.lookup x=some c->∃v,s.heap.IsCell c v
 free:H X.env.locals=none
 j7:∀x c,X.env.cells.lookup x=some c->H c=none
 pin:∀p∈X.pn++QF,s.heap.get? p.1=some p.2/\H p.1=none/\p.1≠X.env.locals/\p.1∉X.fs/\∀v,p.2.data≠.cell v
 b8:nA X.prog X.w H s.heap
 len:σ.length=X.N.length
section
variable{X:Cx}{QF:Y6}{σ:List (Option V)}{H H':Hp}{s:Shared}{h':Heap}
theorem Cx.Ok.Ul(ok:X.Ok)(e:X.base.get? b=some o):b∉X.fs:=fun hb=>by have:=(ok.lV.mem hb).1;rw[e] at this;cases this
theorem Inv.bs(I:Inv X QF σ H s):∀b o,X.base.get? b=some o->s.heap.get? b=some o/\H b=none:=fun b o e=>⟨I.base.keep b o (I.ok.bs b o e).1 (I.ok.bs b o e).2 (I.ok.Ul e) (I.ok.CY b o e),I.base.free b o (I.ok.bs b o e).1 (I.ok.bs b o e).2 (I.ok.CY b o e)⟩
theorem Inv.bk(I:Inv X QF σ H s):∀b o,X.base.get? b=some o->s.heap.get? b=some o:=fun b o e=>(I.bs b o e).1
theorem Inv.mod(I:Inv X QF σ H s):Mod X.K X.mg X.base:=I.ok.mod
theorem Inv.qe(I:Inv X QF σ H s):X.K.In s.heap:=I.ok.mod.Ko.keeps I.bk
theorem Inv.nolimit(I:Inv X QF σ H s):s.heap.NoLimit:=I.ok.mod.nolimit.keeps I.bk
theorem Inv.lt(I:Inv X QF σ H s):X.env.locals<s.heap.objs.size:=let ⟨_,hn,_⟩:=I.loc;hn.lt
theorem Inv.sz(I:Inv X QF σ H s):X.s₀.heap.objs.size<=s.heap.objs.size:=Zw I.ok.above (Nat.le_of_lt I.lt)
theorem Inv.Um(I:Inv X QF σ H s){a:Addr}(h:s.heap.objs.size<=a):a∉X.fs:=fun hb=>by obtain⟨_,o,ho,_⟩:=I.ok.lV.mem hb;exact absurd (Z6 (ZW ho) (Zw I.sz h)) (Nw _)
theorem Inv.Jo(I:Inv X QF σ H s):∀x c,X.env.cells.lookup x=some c->c≠X.env.locals:=fun x c e z=>by obtain⟨v,o,ho,hd⟩:=I.cell x c e;obtain⟨m,⟨o',es,ep,tE,OG,_⟩,_⟩:=I.loc;rw[z,tE] at ho;cases ho;rw[OG] at hd;cases hd
theorem Inv.lV(I:Inv X QF σ H s):s.heap.FunFrames X.base X.outer:=by
 have all:∀(l:List Env),(∀b∈BV l,b∈X.fs)->X.s₀.heap.FunFrames X.base l->s.heap.FunFrames X.base l:=by intro l;induction l with|nil=>intro _ _;trivial|cons env r ih=>intro hs hl;obtain⟨hk,⟨L,o,hf,hn,ho,hd⟩,hr⟩:=hl;have hL:L∈X.fs:=hs L (by unfold BV;rw[J9,hf];exact Z2);obtain⟨sl,e⟩:=I.base.slot L o ho (I.ok.HV L hL) hL fun z=>I.ok.BJ L z hL;exact⟨hk,⟨L,_,hf,hn,e,hd⟩,ih (fun b hb=>hs b (by unfold BV;rw[J9,hf];exact Z1 _ hb)) hr⟩
 exact all X.outer (fun _ hb=>hb) I.ok.lV
theorem Inv.stack(I:Inv X QF σ H s):s.heap.FunFrames X.base X.stack:=by rcases I.ok.Sn with e|⟨e,hf⟩;rw[e];exact I.lV;rw[e];obtain⟨m,hn,_⟩:=I.loc;refine .cons (by rw[I.ok.kind];decide) hf hn ?_ I.lV;exact Heap.get?_none_of_le (Zw I.ok.D7 I.ok.above)
theorem Inv.wR(I:Inv X QF σ H s):∀b∈BV X.stack,b∈X.env.locals::X.fs:=fun b hb=>by rcases I.ok.Sn with e|⟨e,hf⟩;rw[e] at hb;exact Z1 _ hb;rw[e] at hb;unfold BV at hb;rw[J9,hf] at hb;exact hb
theorem Inv.yQ(I:Inv X QF σ H s):∀b∈BV X.stack,H b=none:=fun b hb=>by rcases List.mem_cons.mp (I.wR b hb) with e|hb;rw[e];exact I.free;obtain⟨_,o,ho,_⟩:=I.ok.lV.mem hb;exact I.base.free b o ho (I.ok.HV b hb) fun z=>I.ok.BJ b z hb
theorem Inv.step{g':Array GenState}{t':Nat}{d':Drawn}{ch:VL}(I:Inv X QF σ H s)
  (Ea:∀b∈ch,(b∈X.ex\/X.s₀.heap.objs.size<=b)/\b≠X.env.locals/\(∀x c,X.env.cells.lookup x=some c->c≠b)/\∀p∈X.pn++QF,p.1≠b)
  (keep:∀b o,b≠X.env.locals->b∉X.fs->b∉ch->s.heap.get? b=some o->H b=none->h'.get? b=some o)
  (slot:∀b o,b≠X.env.locals->b∈X.fs->b∉ch->s.heap.get? b=some o->H b=none->∃sl,h'.get? b=some {o with slots:=sl}) (free:∀b o,b∉ch->s.heap.get? b=some o->H b=none->H' b=none)
  (there:∀b o,b∉ch->s.heap.get? b=some o->∃o',h'.get? b=some o')
  (u4:∀b xs,H b=some (.tup xs)->H' b=some (.tup xs)) (rZ:∀b o u,H b=some (.D8 o u)->H' b=some (.D8 o u)) (u3:∀b ps,H b=some (.MT ps)->∃more,H' b=some (.MT (ps++more)))
  (ns:∀m,s.heap.Ns X.env.locals m->h'.Ns X.env.locals m) (b8:nA X.prog X.w H' h') (hg:AllBare g') :
  Inv X QF σ H' {s with heap:=h',gens:=g',drawn:=d',toks:=t'}:=by
 have VU:∀b o,X.s₀.heap.get? b=some o->b≠X.env.locals:=fun b o e=>Zd (Z6 (ZW e) I.ok.above);have R6:∀b o,X.s₀.heap.get? b=some o->b∉X.ex->b∉ch:=fun b o e hx hb=>by rcases (Ea b hb).1 with z|z;exact hx z;exact absurd (Z6 (ZW e) z) (Nw _)
 have cellK:∀x c,X.env.cells.lookup x=some c->∀v,s.heap.IsCell c v->h'.IsCell c v:=fun x c e v ⟨o,ho,hd⟩=>by have PX:c∉ch:=fun z=>(Ea c z).2.2.1 x c e rfl;by_cases hc:c∈X.fs;obtain⟨sl,q⟩:=slot c o (I.Jo x c e) hc PX ho (I.j7 x c e);exact⟨_,q,hd⟩;exact⟨o,keep c o (I.Jo x c e) hc PX ho (I.j7 x c e),hd⟩
 refine⟨I.ok,I.os,hg,⟨fun b o e n hb hx=>?_,fun b o e n hb hx=>?_,fun b o e n hx=>?_,fun b o e hx=>?_,fun b xs e=>u4 b xs (I.base.u4 b xs e),fun b o xs e=>rZ b o xs (I.base.rZ b o xs e),fun b ps e=>?_⟩,?_,fun x c e=>?_,?_,fun x c e=>?_,fun p hp=>?_,b8,I.len⟩;exact keep b o (VU b o e) hb (R6 b o e hx) (I.base.keep b o e n hb hx) (I.base.free b o e n hx);obtain⟨sl,e1⟩:=I.base.slot b o e n hb hx;obtain⟨XN,e2⟩:=slot b _ (VU b o e) hb (R6 b o e hx) e1 (I.base.free b o e n hx);exact⟨XN,e2⟩;obtain⟨o',e1⟩:=I.base.there b o e hx;exact free b o' (R6 b o e hx) e1 (I.base.free b o e n hx);obtain⟨o',e1⟩:=I.base.there b o e hx;exact there b o' (R6 b o e hx) e1;obtain⟨m1,e1⟩:=I.base.u3 b ps e;obtain⟨m2,e2⟩:=u3 b _ e1;exact⟨m1++m2,by rw[e2,Array.append_assoc]⟩;obtain⟨m,hn,hl⟩:=I.loc;refine⟨m,ns m hn,fun i x v e1 e2 e3=>?_⟩;obtain⟨u,r,l⟩:=hl i x v e1 e2 e3;refine⟨u,r,?_⟩;rcases l with l|⟨k,c,e,z⟩;exact .inl l;exact .inr ⟨k,c,e,cellK x c e _ z⟩;obtain⟨v,z⟩:=I.cell x c e;exact⟨v,cellK x c e v z⟩;obtain⟨m,⟨o,_,_,ho,_⟩,_⟩:=I.loc;exact free _ o (fun z=>(Ea _ z).2.1 rfl) ho I.free;obtain⟨v,o,ho,hd⟩:=I.cell x c e;exact free c o (fun z=>(Ea c z).2.2.1 x c e rfl) ho (I.j7 x c e);obtain⟨e,n,ne,nf,d⟩:=I.pin p hp;have PX:p.1∉ch:=fun z=>(Ea p.1 z).2.2.2 p hp rfl;exact⟨keep p.1 p.2 ne nf PX e n,free p.1 p.2 PX e n,ne,nf,d⟩
theorem Inv.un(I:Inv X QF σ H s)(u:Un X.fs [] H H' s.heap h')(b8:nA X.prog X.w H' h'):Inv X QF σ H' {s with heap:=h',toks:=t'}:=by obtain⟨m,⟨o,es,ep,ho,r⟩,_⟩:=id I.loc;obtain⟨sl,hL⟩:=u.any ho I.free ZH;exact I.step (g':=s.gens) (d':=s.drawn) (ch:=[]) (fun _ z=>nomatch z) (fun b o _ hb _ e n=>u.keep b o e n hb ZH) (fun b o _ hb _ e n=>u.slot b o e n hb ZH) (fun b o _ e n=>u.free b o e n ZH) (fun b o _ e=>u.there b o e ZH) u.u4 u.rZ u.u3 (fun m' hm=>by obtain⟨o',S0,oz,tE,r'⟩:=hm;rw[ho] at tE;cases tE;exact⟨_,S0,oz,hL,r'⟩) b8 I.bare
theorem Inv.call(I:Inv X QF σ H s)(u:Un (BV X.stack) ch H H' s.heap h')(b8:nA X.prog X.w H' h')(hg:AllBare g')
  (Ea:∀b∈ch,(b∈X.ex\/X.s₀.heap.objs.size<=b)/\b≠X.env.locals/\(∀x c,X.env.cells.lookup x=some c->c≠b)/\∀p∈X.pn++QF,p.1≠b) :
  Inv X QF σ H' {s with heap:=h',gens:=g',drawn:=d',toks:=t'}:=by
 obtain⟨m,⟨o,es,ep,ho,r⟩,_⟩:=id I.loc;obtain⟨sl,hL⟩:=u.any ho I.free fun z=>(Ea _ z).2.1 rfl;exact I.step (ch:=ch) Ea (fun b o hL hb hc e n=>u.keep b o e n (fun z=>(List.mem_cons.mp (I.wR b z)).elim hL hb) hc) (fun b o _ _ hc e n=>u.any e n hc) (fun b o hc e n=>u.free b o e n hc) (fun b o hc e=>u.there b o e hc) u.u4 u.rZ u.u3 (fun m' hm=>by obtain⟨o',S0,oz,tE,r'⟩:=hm;rw[ho] at tE;cases tE;exact⟨_,S0,oz,hL,r'⟩) b8 hg
theorem Inv.turned{t':Nat}{it:Addr}(I:Inv X QF σ H s)(k:∀b o,b≠it->s.heap.get? b=some o->h'.get? b=some o)(hn:H it=none)(hL:it≠X.env.locals)(h1:it∈X.ex\/X.s₀.heap.objs.size<=it) (h2:∀x c,X.env.cells.lookup x=some c->c≠it) (h3:∀p∈X.pn++QF,p.1≠it):Inv X QF σ H {s with heap:=h',toks:=t'}:=by
 have VW:∀b u,H b=some u->b≠it:=fun b u e z=>by rw[z,hn] at e;cases e
 refine I.step (g':=s.gens) (d':=s.drawn) (ch:=[it]) (fun b hb=>?_) (fun b o _ _ hc e _=>k b o (fun z=>hc (by simp[z])) e) (fun b o _ _ hc e _=>⟨o.slots,k b o (fun z=>hc (by simp[z])) e⟩) (fun _ _ _ _ n=>n) (fun b o hc e=>⟨o,k b o (fun z=>hc (by simp[z])) e⟩) (fun _ _ e=>e) (fun _ _ _ e=>e) (fun b ps e=>⟨#[],by rw[e];simp⟩) (fun m hm=>?_) (fun b u e=>?_) I.bare;have e:b=it:=by simpa using hb
 subst e;exact⟨h1,hL,h2,h3⟩;obtain⟨o,es,ep,ho,r⟩:=hm;exact⟨o,es,ep,k _ o (Zo hL) ho,r⟩;refine(I.b8 b u e).wO (fun c v hc q=>k c v ?_ q) (fun _ q=>q) fun _ _ q=>q;rcases hc with z|z;rw[z];exact VW b u e;exact VW c _ z
theorem Inv.tok(I:Inv X QF σ H s)(t:Nat):Inv X QF σ H {s with toks:=t}:=I.un (h':=s.heap) (t':=t) Un.refl I.b8
theorem Inv.kept(I:Inv X QF σ H s)(k:∀b u,s.heap.get? b=some u->h'.get? b=some u):Inv X QF σ H {s with heap:=h',toks:=t'}:=I.un (Un.kept k) (I.b8.kept k)
theorem Inv.laid{a:Addr}{o:HO}{t':Nat}(I:Inv X QF σ H s)(k:∀b u,s.heap.get? b=some u->h'.get? b=some u)(hp:s.heap.objs.size<=a)(new:dm X.prog X.w (upd H a o) h' a o) : Inv X QF σ (upd H a o) {s with heap:=h',toks:=t'}:=I.un (Un.laid k hp (I.b8.fresh hp)) (I.b8.laid k hp new)
theorem Inv.write(I:Inv X QF σ H s)(mu:Ro (H x))(he:e=x\/H e=some (.own x))(k:∀b u,b≠e->s.heap.get? b=some u->h'.get? b=some u)(Nj:∃u,h'.get? e=some u)(new:dm X.prog X.w (upd H x o) h' x o):Inv X QF σ (upd H x o) {s with heap:=h',toks:=t'}:=I.un (Un.write mu he k Nj) (I.b8.write mu he k Nj new)
theorem Inv.yH(I:Inv X QF σ H s)(h:∀p∈Qr,s.heap.get? p.1=some p.2/\H p.1=none/\p.1≠X.env.locals/\p.1∉X.fs/\∀v,p.2.data≠.cell v):Inv X Qr σ H s:=⟨I.ok,I.os,I.bare,I.base,I.loc,I.cell,I.free,I.j7,fun p hp=>(List.mem_append.mp hp).elim (fun z=>I.pin p (List.mem_append_left _ z)) (h p),I.b8,I.len⟩
theorem uG{N:R5}(hN:N.Nodup){i j:Nat}{x:Str}(a:N[i]?=some x)(b:N[j]?=some x):i=j:=by obtain⟨h1,e1⟩:=List.getElem?_eq_some_iff.mp a;obtain⟨h2,e2⟩:=List.getElem?_eq_some_iff.mp b;exact(Et hN).mp (e1.trans e2.symm)
theorem jT(I:Inv X QF σ H s)(hN:X.N.Nodup)(hi:X.N[i]?=some x)(hx:Loc X.env.scope x)(r:RelV v u)(h:∀s',Inv X QF (σ.set i (some v)) H s'->(∃a,Heap.SameBut a s.heap s'.heap/\(a=X.env.locals\/X.env.cells.lookup x=some a))->Q () s') (hf:X.fn x=true\/X.env.scope.names.lookup x=some .local:=by exact ZL):wpAny M A (storeName X.env x u) Q E s:=by
 obtain⟨m,hn,hl⟩:=id I.loc;have To:(X.env.scope.kind == .class||(X.env.scope.kind == .module&&X.env.locals != X.env.globals))=false:=by rw[I.ok.kind];rfl
 have OL:i<σ.length:=by rw[I.len];exact(List.getElem?_eq_some_iff.mp hi).1
 have Jo:=I.Jo;have tracked:∀{a:Addr}{h':Heap},(∃o,s.heap.get? a=some o/\H a=none)->Heap.SameBut a s.heap h'->nA X.prog X.w H h':=fun {a h'} ha hs b ob e=>by obtain⟨_,_,H0⟩:=ha;refine(I.b8 b ob e).wO (fun c w' hc q=>(hs.2 c ?_).trans q) (fun _ q=>q) fun _ _ q=>q;rintro rfl;rcases hc with rfl|hc;rw[H0] at e;cases e;rw[H0] at hc;cases hc
 rcases hx with hk|hk;refine wpAny_storeName_local hk hn (fun h' Cf hs=>?_) To;obtain⟨oL,_,_,RU,_⟩:=id hn;refine h _ ⟨I.ok,I.os,I.bare,⟨fun b o e n hb hx=>?_,fun b o e n hb hx=>?_,I.base.free,fun b o e hx=>?_,I.base.u4,I.base.rZ,I.base.u3⟩,⟨_,Cf,fun j y v' e1 e2 e3=>?_⟩,fun y c e=>?_,I.free,I.j7,fun p hp=>?_,tracked ⟨oL,RU,I.free⟩ hs,by simpa using I.len⟩ ⟨_,hs,.inl rfl⟩;exact(hs.2 b (Zd (Z6 (ZW e) I.ok.above))).trans (I.base.keep b o e n hb hx);obtain⟨sl,e1⟩:=I.base.slot b o e n hb hx;exact⟨sl,(hs.2 b (Zd (Z6 (ZW e) I.ok.above))).trans e1⟩;obtain⟨o',e1⟩:=I.base.there b o e hx;exact⟨o',(hs.2 b (Zd (Z6 (ZW e) I.ok.above))).trans e1⟩;by_cases hj:j=i;subst hj;rw[hi] at e1;cases e1;rw[Zg OL] at e2;cases e2;exact⟨u,r,.inl ⟨hk,ZH⟩⟩;rw[Ze (Zo hj)] at e2;obtain⟨u',r',q⟩:=hl j y v' e1 e2 e3;refine⟨u',r',?_⟩;rcases q with ⟨k,e⟩|⟨k,c,e,z⟩
 refine .inl ⟨k,?_⟩;have:y≠x:=fun e=>hj (uG hN e1 (e ▸ hi));simp[this,e];exact .inr ⟨k,c,e,z.sameBut hs (Jo y c e)⟩;obtain⟨w',z⟩:=I.cell y c e;exact⟨w',z.sameBut hs (Jo y c e)⟩;obtain⟨e,n,ne,nf,d⟩:=I.pin p hp;exact⟨(hs.2 p.1 ne).trans e,n,ne,nf,d⟩;have zk:X.fn x=true:=by rcases hf with z|z;exact z;rw[z] at hk;cases hk
 obtain⟨c,hc⟩:=I.ok.has x (.inl hk);obtain⟨w',z⟩:=I.cell x c hc;refine wpAny_storeName_cell I.ok.kind hk hc z (fun h' qd hs=>?_);obtain⟨oc,VB,TJ⟩:=id z;refine h {s with heap:=h'} ⟨I.ok,I.os,I.bare,⟨fun b o e n hb hx=>?_,fun b o e n hb hx=>?_,I.base.free,fun b o e hx=>?_,I.base.u4,I.base.rZ,I.base.u3⟩,⟨m,hn.sameBut hs (Zo (Jo x c hc)),fun j y v' e1 e2 e3=>?_⟩,fun y c' e=>?_,I.free,I.j7,fun p hp=>?_,tracked ⟨oc,VB,I.j7 x c hc⟩ hs,by simpa using I.len⟩ ⟨c,hs,.inr hc⟩;exact(hs.2 b (Zd (Z6 (ZW e) (I.ok.Oc x c zk hc)))).trans (I.base.keep b o e n hb hx);obtain⟨sl,e1⟩:=I.base.slot b o e n hb hx;exact⟨sl,(hs.2 b (Zd (Z6 (ZW e) (I.ok.Oc x c zk hc)))).trans e1⟩;obtain⟨o',e1⟩:=I.base.there b o e hx;exact⟨o',(hs.2 b (Zd (Z6 (ZW e) (I.ok.Oc x c zk hc)))).trans e1⟩;by_cases hj:j=i;subst hj;rw[hi] at e1;cases e1;rw[Zg OL] at e2;cases e2;exact⟨u,r,.inr ⟨.inl hk,c,hc,qd⟩⟩;rw[Ze (Zo hj)] at e2;obtain⟨u',r',q⟩:=hl j y v' e1 e2 e3;refine⟨u',r',?_⟩;rcases q with q|⟨k,c',e,z'⟩;exact .inl q;refine .inr ⟨k,c',e,z'.sameBut hs ?_⟩;rintro rfl;exact hj (uG hN e1 (I.ok.inj _ _ _ e hc ▸ hi));by_cases Vr:c'=c;subst Vr;exact⟨_,qd⟩;obtain⟨w2,z2⟩:=I.cell y c' e;exact⟨w2,z2.sameBut hs Vr⟩;obtain⟨e,n,ne,nf,d⟩:=I.pin p hp;refine⟨(hs.2 p.1 ?_).trans e,n,ne,nf,d⟩;intro q;rw[q,VB] at e;have q':oc=p.2:=ZV e;exact d w' (by rw[<-q'];exact TJ)
theorem uZ(I:Inv X QF σ H s)(hN:X.N.Nodup)(hi:X.N[i]?=some x)(hx:Loc X.env.scope x)(r:RelV v u)(h:∀s',Inv X QF (σ.set i (some v)) H s'->Q () s') (hf:X.fn x=true\/X.env.scope.names.lookup x=some .local:=by exact ZL):wpAny M A (storeName X.env x u) Q E s:=
 jT I hN hi hx r (fun s' I' _=>h s' I') hf
theorem Inv.Br(I:Inv X QF σ H s)(ho:s'.os=s.os)(u:Un (BV X.stack) ch H H' s.heap s'.heap)(b8:nA X.prog X.w H' s'.heap)(hg:AllBare s'.gens)(Ea:∀b∈ch,(b∈X.ex\/X.s₀.heap.objs.size<=b)/\b≠X.env.locals/\(∀x c,X.env.cells.lookup x=some c->c≠b)/\∀p∈X.pn++QF,p.1≠b):Inv X QF σ H' s':=by obtain⟨h',g',d',t',o'⟩:=s';have e:o'=s.os:=ho;subst e;exact I.call (g':=g') (t':=t') (d':=d') u b8 hg Ea
end
abbrev XK:=Value->Ng->Hp->Prop
abbrev St:=List (Option V)
abbrev VK:=V->Hp->Prop
abbrev TE:=St->Hp->VK->Prop
abbrev TT:=St->Hp->(Bool->Hp->Prop)->Prop
abbrev TA:=St->Hp->(List V->Hp->Prop)->Prop
structure Ends where
 nx:St->Hp->Prop
 rt:VK
 bk:St->Hp->Prop:=fun _ _=>False
 ct:St->Hp->Prop:=fun _ _=>False
abbrev TS:=Ends->St->Hp->Prop
def EP(X:Cx)(QF:Y6)(σ:St)(Q:VK)(u:Value)(s':Shared):Prop:=∃v H',Inv X QF σ H' s'/\RelV v u/\Q v H'
def TP(X:Cx)(QF:Y6)(σ:St)(Q:Bool->Hp->Prop)(b:Bool)(s':Shared):Prop:=∃H',Inv X QF σ H' s'/\Q b H'
def AP(X:Cx)(QF:Y6)(σ:St)(Q:NC->Hp->Prop)(us:MY)(s':Shared):Prop:=∃vs H',Inv X QF σ H' s'/\Vals vs us/\Q vs H'
def SP(X:Cx)(QF:Y6)(D:Ends)(f:Flow)(s':Shared):Prop:=match f with|.next=>∃bx H',Inv X QF bx H' s'/\D.nx bx H'|.brk=>∃bx H',Inv X QF bx H' s'/\D.bk bx H'|.cont=>∃bx H',Inv X QF bx H' s'/\D.ct bx H'|.ret u=>∃v bx H',Inv X QF bx H' s'/\RelV v u/\D.rt v H'
def PE(X:Cx)(e:Expr)(t:TE):Prop:=∀(QF:Y6)(s:Shared)(σ:St)(H:Hp)(Q:VK),Inv X QF σ H s->t σ H Q->wpAny (model X.prog X.w) X.A (eval e X.env) (EP X QF σ Q) X.xe s
def PT(X:Cx)(e:Expr)(t:TT):Prop:=∀(QF:Y6)(s:Shared)(σ:St)(H:Hp)(Q:Bool->Hp->Prop),Inv X QF σ H s->t σ H Q->wpAny (model X.prog X.w) X.A (isTrue e X.env (eval e X.env)) (TP X QF σ Q) X.xe s
def PW(X:Cx)(e:Expr)(t:TT):Prop:=∀(whole:Sem Value)(QF:Y6)(s:Shared)(σ:St)(H:Hp)(Q:Bool->Hp->Prop),Inv X QF σ H s->t σ H Q->wpAny (model X.prog X.w) X.A (isTrue e X.env whole) (TP X QF σ Q) X.xe s
theorem PW.pt(h:PW X e t):PT X e t:=h _
def PA(X:Cx)(es:Rz)(t:TA):Prop:=∀(pos:Pos)(QF:Y6)(s:Shared)(σ:St)(H:Hp)(Q:NC->Hp->Prop),Inv X QF σ H s->t σ H Q->wpAny (model X.prog X.w) X.A (spliced (backTo pos (starEach es X.env))) (AP X QF σ Q) X.xe s
def PS(X:Cx)(st:Stmt)(t:TS):Prop:=∀(QF:Y6)(s:Shared)(σ:St)(H:Hp)(D:Ends),Inv X QF σ H s->t D σ H->wpAny (model X.prog X.w) X.A (exec st X.env) (SP X QF D) X.xe s
def vg(X:Cx)(st:List Stmt)(t:TS):Prop:=∀(QF:Y6)(s:Shared)(σ:St)(H:Hp)(D:Ends),Inv X QF σ H s->t D σ H->wpAny (model X.prog X.w) X.A (execs st X.env) (SP X QF D) X.xe s
theorem bK{α:Type}{t:Sem α}{Q Q':α->Shared->Prop}(h:wpAny M A t Q E s)(hQ:∀a s,Q a s->Q' a s):wpAny M A t Q' E s:=R9 h hQ fun _ _ x=>x
section
variable{X:Cx}
theorem bin{a b:Expr}{ta tb:TE}(ha:PE X a ta)(hb:PE X b tb){QF:Y6}{s:Shared}{σ:St}{H:Hp}{R:V->V->Hp->Prop}(I:Inv X QF σ H s)(h:ta σ H fun x H1=>tb σ H1 fun y H2=>R x y H2)
  {α:Type} {Q:α->Shared->Prop} {f:Value->Value->Sem α}
  (hf:∀v u s2 x y H2,Inv X QF σ H2 s2->RelV x v->RelV y u->R x y H2->wpAny (model X.prog X.w) X.A (f v u) Q X.xe s2) :
  wpAny (model X.prog X.w) X.A (eval a X.env) (fun v br=>wpAny (model X.prog X.w) X.A (eval b X.env) (fun u qm=>wpAny (model X.prog X.w) X.A (f v u) Q X.xe qm) X.xe br) X.xe s:=by
 refine bK (ha QF s σ H _ I h) fun v s1 ⟨x,H1,I1,r1,q1⟩=>?_;refine bK (hb QF s1 σ H1 _ I1 q1) fun u s2 ⟨y,H2,I2,r2,q2⟩=>?_;exact hf v u s2 x y H2 I2 r1 r2 q2
def QW(i:Nat):TE:=fun σ H Q=>∃v,σ[i]?=some (some v)/\Q v H
def tC(v:V):TE:=fun _ H Q=>Q v H
theorem gQ{i:Nat}{x:Str}{pos:Pos}(hN:X.N[i]?=some x)(hv:xc X.env.scope x)(hd:Y3 x:=by decide)(j9:Y4 x:=by decide):PE X (.Name x pos) (QW i):=by
 intro QF s σ H Q I h;obtain⟨v,e,h⟩:=h;obtain⟨m,hn,hl⟩:=I.loc;obtain⟨u,r,l⟩:=hl i x v hN e hv;have fin:EP X QF σ Q u s:=⟨v,H,I,r,h⟩;rcases l with ⟨hk,hm⟩|⟨hk,c,hc,HZ⟩
 exact wpAny_Name (wpAny_loadName_local I.ok.kind hk hn hm fin) hd;rcases hk with hk|hk;exact wpAny_Name (wpAny_loadName_cell I.ok.kind hk hc HZ fin) hd;exact wpAny_Name (wpAny_loadName_free I.ok.kind hk hc HZ fin j9) hd
theorem L3{i j pos}:PE X (.Constant (.int i) j pos) (tC (.int i)):=fun _ _ _ H _ I h=>wpAny_Constant_int ⟨.int i,H,I.tok _,⟨_,rfl⟩,h⟩
theorem Ql{b j pos}:PE X (.Constant (.bool b) j pos) (tC (.bl b)):=fun _ _ _ H _ I h=>Constant_bool ⟨.bl b,H,I,rfl,h⟩
theorem L6{j pos}:PE X (.Constant .none j pos) (tC .bz):=fun _ _ _ H _ I h=>Constant_none ⟨.bz,H,I,rfl,h⟩
theorem L8{x j pos}:PE X (.Constant (.str x) j pos) (tC (.str x)):=fun _ _ _ H _ I h=>Calls.Constant_str ⟨.str x,H,I.tok _,⟨_,rfl⟩,h⟩
def Gl(X:Cx)(x:Str):Prop:=X.env.kindOf x=some .globalImplicit
theorem k7{E:Y5}{QF:Y6}{s:Shared}{σ:St}{H:Hp}{x:Str}{u:Value}{pos:Pos}{Q:Y5}(I:Inv X QF σ H s)(hg:Gl X x)(hm:X.mg x=some u)(h:Q u s)(hd:Y3 x:=by decide):wpAny (model X.prog X.w) X.A (eval (.Name x pos) X.env) Q E s:=
 Calls.Name_function_global I.ok.kind hg (Calls.loadGlobal_global (by rw[I.ok.glob];exact I.mod.glob.keeps I.bk) hm h) hd
theorem eg{E:Y5}{QF:Y6}{s:Shared}{σ:St}{H:Hp}{x:Str}{u:Value}{pos:Pos}{Q:Y5}(I:Inv X QF σ H s)(hg:Gl X x)(hm:X.mg x=none)(hv:bootBuiltins x=some u)(h:Q u s)(hn:x≠"__name__" := by decide) (hd:Y3 x:=by decide):wpAny (model X.prog X.w) X.A (eval (.Name x pos) X.env) Q E s:=by obtain⟨mb,h1,h2⟩:=I.mod.blt;exact Calls.Name_function_global I.ok.kind hg (Calls.loadGlobal_builtin (by rw[I.ok.glob];exact I.mod.glob.keeps I.bk) hm (by rw[I.ok.blt];exact h1.keeps I.bk) ((h2 x hn).trans hv) h) hd
theorem jQ(hg:Gl X x)(hm:X.mg x=some u)(r:RelV v u)(hd:Y3 x:=by decide):PE X (.Name x pos) (tC v):=fun _ _ _ H _ I h=>k7 I hg hm ⟨v,H,I,r,h⟩ hd
variable{a b:Expr}{ta tb:TE}{pos:Pos}
def PC(X:Cx)(op:CmpOp)(a b:Expr)(t:TE):Prop:=∀(QF:Y6)(s:Shared)(σ:St)(H:Hp)(Q:VK),Inv X QF σ H s->t σ H Q->wpAny (model X.prog X.w) X.A (eval a X.env) (fun v br=>wpAny (model X.prog X.w) X.A (eval b X.env) (fun u qm=>wpAny (model X.prog X.w) X.A (compareOp op v u) (EP X QF σ Q) X.xe qm) X.xe br) X.xe s
theorem uF(b:Expr)(h:op≠.In)(h2:op≠.NotIn):behindInMarks op b=false:=by
 have e1:(op == CmpOp.In)=false:=by cases op<;>first|rfl|exact absurd rfl h
 have e2:(op == CmpOp.NotIn)=false:=by cases op<;>first|rfl|exact absurd rfl h2
 cases b<;>simp[behindInMarks,e1,e2]
def Bv(t:TE):TT:=fun σ H Q=>t σ H fun x H1=>∃c,x=.bl c/\Q c H1
theorem LZ(h:PC X op a b t)(h1:behindInMarks op b=false:=by first|exact uF _ (by decide) (by decide)|rfl):PE X (.Compare a [op] [b] pos) t:=fun QF s σ H Q I hw=>wpAny_Compare1 (h QF s σ H Q I hw) h1
theorem Mi{op:CmpOp}{t:TE}(h:PC X op a b t)(h1:behindInMarks op b=false:=by first|exact uF _ (by decide) (by decide)|rfl):PT X (.Compare a [op] [b] pos) (Bv t):=by intro QF s σ H Q I hw;refine wpAny_isTrue_Compare1 (bK (h QF s σ H _ I hw) fun v s1 h1=>bK h1 fun u s2 h2=>bK h2 fun c s3 ⟨x,H1,I1,r1,q1⟩=>?_) h1;obtain⟨d,rfl,q⟩:=q1;cases r1;exact RJ ⟨H1,I1,q⟩
theorem Q1N{e:Expr}{t:TE}(h:PE X e t)(he:∀whole,isTrue e X.env whole=(do let v <-whole;standAt e.pos;holding [v] (truthy v)):=by exact ZP):PT X e (Bv t):=by intro QF s σ H Q I hw;refine isTrue_plain (bK (h QF s σ H _ I hw) fun v s1 ⟨x,H1,I1,r1,q1⟩=>?_) (he _);obtain⟨d,rfl,q⟩:=q1;cases r1;exact RJ ⟨H1,I1,q⟩
variable{tA So:TT}{rest:Rz}
def Q1e(t u:TT):TT:=fun σ H Q=>t σ H fun c H1=>if c=true then u σ H1 Q else Q false H1
def Q1g(t u:TT):TT:=fun σ H Q=>t σ H fun c H1=>if c=true then Q true H1 else u σ H1 Q
def Q1f(t:TT):TT:=fun σ H Q=>t σ H fun c H1=>Q (!c) H1
theorem GF(ha:PT X a tA):PW X (.BoolOp .And [a] pos) tA:=by intro wh QF s σ H Q I h;refine isTrue_and (bK (ha QF s σ H Q I h) fun c s1 e=>?_);cases c with|true=>exact isTrue_and_nil e|false=>exact e
theorem Q1Y(ha:PT X a tA):PW X (.BoolOp .Or [a] pos) tA:=by intro wh QF s σ H Q I h;refine isTrue_or (bK (ha QF s σ H Q I h) fun c s1 e=>?_);cases c with|false=>exact isTrue_or_nil e|true=>exact e
theorem Mo(ha:PT X a tA)(hb:PW X (.BoolOp .And (b::rest) pos) So):PW X (.BoolOp .And (a::b::rest) pos) (Q1e tA So):=by intro wh QF s σ H Q I h;refine isTrue_and (bK (ha QF s σ H _ I h) fun c s1 ⟨H1,I1,q1⟩=>?_);cases c with|true=>exact hb wh QF s1 σ H1 Q I1 q1|false=>exact⟨H1,I1,q1⟩
theorem Qv(ha:PT X a tA)(hb:PW X (.BoolOp .Or (b::rest) pos) So):PW X (.BoolOp .Or (a::b::rest) pos) (Q1g tA So):=by intro wh QF s σ H Q I h;refine isTrue_or (bK (ha QF s σ H _ I h) fun c s1 ⟨H1,I1,q1⟩=>?_);cases c with|true=>exact⟨H1,I1,q1⟩|false=>exact hb wh QF s1 σ H1 Q I1 q1
theorem Mj(ha:PT X a tA):PT X (.UnaryOp .Not a pos) (Q1f tA):=by intro QF s σ H Q I h;exact isTrue_not (ha QF s σ H (fun c H1=>Q (!c) H1) I h)
def QM(ta tb:TE):TE:=fun σ H Q=>ta σ H fun x H1=>∃c,x=.bl c/\if c=true then tb σ H1 Q else Q (.bl false) H1
def UJ(ta tb:TE):TE:=fun σ H Q=>ta σ H fun x H1=>∃c,x=.bl c/\if c=true then Q (.bl true) H1 else tb σ H1 Q
theorem L7{op}(h:PE X a t):PE X (.BoolOp op [a] pos) t:=fun QF s σ H Q I hw=>BoolOp_one (h QF s σ H Q I hw)
theorem Q1P(ha:PE X a ta)(hb:PE X (.BoolOp .And (b::rest) pos) tb):PE X (.BoolOp .And (a::b::rest) pos) (QM ta tb):=by intro QF s σ H Q I h;refine BoolOp_and (bK (ha QF s σ H _ I h) fun v s1 ⟨x,H1,I1,r1,q1⟩=>?_);obtain⟨c,rfl,q1⟩:=q1;cases r1;refine RJ ?_;cases c with|true=>exact hb QF s1 σ H1 Q I1 q1|false=>exact⟨.bl false,H1,I1,rfl,q1⟩
theorem Qn(ha:PE X a ta)(hb:PE X (.BoolOp .Or (b::rest) pos) tb):PE X (.BoolOp .Or (a::b::rest) pos) (UJ ta tb):=by intro QF s σ H Q I h;refine BoolOp_or (bK (ha QF s σ H _ I h) fun v s1 ⟨x,H1,I1,r1,q1⟩=>?_);obtain⟨c,rfl,q1⟩:=q1;cases r1;refine RJ ?_;cases c with|false=>exact hb QF s1 σ H1 Q I1 q1|true=>exact⟨.bl true,H1,I1,rfl,q1⟩
def XU(t:TT)(ta tb:TE):TE:=fun σ H Q=>t σ H fun c H1=>if c=true then ta σ H1 Q else tb σ H1 Q
theorem Dh{c:Expr}(hc:PT X c tA)(ha:PE X a ta)(hb:PE X b tb):PE X (.IfExp c a b pos) (XU tA ta tb):=by intro QF s σ H Q I h;refine wpAny_IfExp (bK (hc QF s σ H _ I h) fun d s1 ⟨H1,I1,q1⟩=>?_);cases d with|true=>exact ha QF s1 σ H1 Q I1 q1|false=>exact hb QF s1 σ H1 Q I1 q1
end
def df(K:W.Frag)(H:Hp)(a:Addr)(xs:NC):Prop:=Rd H a (.lst xs)\/∃(o:Obj)(aG:Array Value)(n:Nat),K.lookup a=some o/\o.cls=.type "list" /\ o.dict=none/\o.data=.seq aG n/\aG.size<=sizeLine/\Vals xs aG.toList
def dj(K:W.Frag)(H:Hp)(a:Addr)(xs:NC):Prop:=Rd H a (.tup xs)\/∃(o:Obj)(aG:Array Value)(n:Nat),K.lookup a=some o/\o.cls=.type "tuple" /\ o.data=.seq aG n/\aG.size<=sizeLine/\Vals xs aG.toList/\o.dict=none
def SN:Value->Option V|.none=>some .bz|.bool b=>some (.bl b)|.int i _=>some (.int i)|.str x _=>some (.str x)|.bytes b _=>some (.Ry b)|.float b _=>some (.RH b)|.ref a=>some (.ref a)|.type n=>some (.ty n)|_=>none
theorem RelV.abs(r:RelV x u):SN u=some x:=by cases x with|bz=>cases r;rfl|bl _=>cases r;rfl|int _=>obtain⟨t,rfl⟩:=r;rfl|str _=>obtain⟨t,rfl⟩:=r;rfl|Ry _=>obtain⟨t,rfl⟩:=r;rfl|RH _=>obtain⟨t,rfl⟩:=r;rfl|ref _=>cases r;rfl|ty _=>cases r;rfl
theorem RelV.inj(r:RelV x u)(q:RelV y u):x=y:=ZV (r.abs.symm.trans q.abs)
theorem Vals.inj:∀{xs ys:NC}{us:MY},Vals xs us->Vals ys us->xs=ys|_,_,_,.nil,.nil=>rfl|_,_,_,.cons r t,.cons r' t'=>by rw[r.inj r',Vals.inj t t']
section
variable{X:Cx}{QF:Y6}{σ:St}{H:Hp}{s:Shared}{a:Addr}{xs ys:NC}
theorem df.of{K:W.Frag}(h:H a=some (.lst xs)):df K H a xs:=.inl (.inl h)
theorem dj.of{K:W.Frag}(h:H a=some (.tup xs)):dj K H a xs:=.inl (.inl h)
theorem Inv.list(I:Inv X QF σ H s)(h:df X.K H a xs):∃aG:MY,Vals xs aG/\PlainL s.heap a aG.toArray/\xs.length<=sizeLine:=by rcases h with h|⟨o,aG,n,hk,hc,hd,hs,hz,r⟩;obtain⟨z,aG,n,r,e⟩:=h.ok I.b8;exact⟨aG,r,⟨_,n,e,rfl,rfl,rfl⟩,z⟩;refine⟨aG.toList,r,⟨o,n,I.qe a o hk,hc,hd,by simpa using hs⟩,?_⟩;have e:=r.length;simp only[Array.length_toList] at e;omega
theorem Inv.MX(I:Inv X QF σ H s)(h:dj X.K H a xs):∃aG:MY,Vals xs aG/\kK s.heap a aG.toArray/\xs.length<=sizeLine:=by rcases h with h|⟨o,aG,n,hk,hc,hs,hz,r,dn⟩;obtain⟨z,aG,r,p⟩:=h.ok I.b8;exact⟨aG,r,p,z⟩;refine⟨aG.toList,r,⟨o,I.qe a o hk,hc,⟨n,by simpa using hs⟩,dn⟩,?_⟩;have e:=r.length;simp only[Array.length_toList] at e;omega
theorem Inv.tuple(I:Inv X QF σ H s)(h:dj X.K H a xs):∃aG:MY,Vals xs aG/\IsTup s.heap a aG.toArray/\xs.length<=sizeLine:=by obtain⟨aG,r,p,z⟩:=I.MX h;exact⟨aG,r,p.tup,z⟩
theorem Inv.oX(I:Inv X QF σ H s)(h:df X.K H a xs)(h':df X.K H a ys):xs=ys:=by
 obtain⟨aG,r,⟨o,n,e,_,_,d⟩,_⟩:=I.list h;obtain⟨its',r',⟨o',n',e',_,_,d'⟩,_⟩:=I.list h';rw[e] at e';cases e';rw[d] at d';injection d' with d1 _;have:aG=its':=by simpa using congrArg Array.toList d1
 subst this;exact r.inj r'
theorem Inv.rB(I:Inv X QF σ H s)(h:dj X.K H a xs)(h':dj X.K H a ys):xs=ys:=by
 obtain⟨aG,r,⟨o,e,_,n,d⟩,_⟩:=I.tuple h;obtain⟨its',r',⟨o',e',_,n',d'⟩,_⟩:=I.tuple h';rw[e] at e';cases e';rw[d] at d';injection d' with d1 _;have:aG=its':=by simpa using congrArg Array.toList d1
 subst this;exact r.inj r'
end
abbrev Cx.nQ(X:Cx)(E:Y5):Cx:={X with xe:=E}
abbrev Cx.Iy(X:Cx):Cx:=X.nQ fun _ _=>False
theorem Cx.Ok.nQ{X:Cx}(ok:X.Ok)(E:Y5):(X.nQ E).Ok:=⟨ok.mod,ok.kind,ok.glob,ok.blt,ok.above,ok.inj,ok.has,ok.Oc,ok.hd,ok.frames,ok.Sn,ok.RG,ok.bs,ok.D7,ok.CY,ok.BJ,ok.lV,ok.HV⟩
theorem Cx.Ok.iQ{X:Cx}{E:Y5}(ok:(X.nQ E).Ok):X.Ok:=⟨ok.mod,ok.kind,ok.glob,ok.blt,ok.above,ok.inj,ok.has,ok.Oc,ok.hd,ok.frames,ok.Sn,ok.RG,ok.bs,ok.D7,ok.CY,ok.BJ,ok.lV,ok.HV⟩
section
variable{X:Cx}{QF:Y6}{σ:St}{H:Hp}{s:Shared}{E:Y5}
theorem Inv.nQ(I:Inv X QF σ H s)(E:Y5):Inv (X.nQ E) QF σ H s:=⟨I.ok.nQ E,I.os,I.bare,I.base,I.loc,I.cell,I.free,I.j7,I.pin,I.b8,I.len⟩
theorem Inv.iQ(I:Inv (X.nQ E) QF σ H s):Inv X QF σ H s:=⟨I.ok.iQ,I.os,I.bare,I.base,I.loc,I.cell,I.free,I.j7,I.pin,I.b8,I.len⟩
theorem SP.iQ(h:SP (X.nQ E) QF D f s'):SP X QF D f s':=by cases f with|next=>obtain⟨bx,H',I,q⟩:=h;exact⟨bx,H',I.iQ,q⟩|brk=>obtain⟨bx,H',I,q⟩:=h;exact⟨bx,H',I.iQ,q⟩|cont=>obtain⟨bx,H',I,q⟩:=h;exact⟨bx,H',I.iQ,q⟩|ret u=>obtain⟨v,bx,H',I,r,q⟩:=h;exact⟨v,bx,H',I.iQ,r,q⟩
theorem vg.Iy{st:List Stmt}{t:TS}(h:vg X.Iy st t):vg X st t:=fun QF s σ H D I hw=>R9 (h QF s σ H D (I.nQ _) hw) (fun _ _ q=>q.iQ) fun _ _ z=>False.elim z
end
section
variable{X:Cx}{st:Stmt}{rest:List Stmt}{t u:TS}{e:Expr}{te:TE}{pos:Pos}
def QU:TS:=fun D σ H=>D.nx σ H
def UL(t u:TS):TS:=fun D σ H=>t {D with nx:=u D} σ H
theorem Gs:vg X [] QU:=fun _ _ σ H _ I h=>wpAny_execs_nil ⟨σ,H,I,h⟩
theorem Q0t(h1:PS X st t)(h2:vg X rest u):vg X (st::rest) (UL t u):=by intro QF s σ H D I h;refine wpAny_execs_cons (bK (h1 QF s σ H {D with nx:=u D} I h) fun f s1 q=>?_);cases f with|next=>obtain⟨bx,H',I',q⟩:=q;exact h2 QF s1 bx H' D I' q|ret v=>exact q|brk=>exact q|cont=>exact q
theorem Inv.quiet{QF:Y6}{σ:St}{H:Hp}{s:Shared}(I:Inv X QF σ H s):interactive X.env=false:=by simp[interactive,I.ok.kind]
def QT(te:TE):TS:=fun D σ H=>te σ H fun _ H1=>D.nx σ H1
theorem sN(he:PE X e te)(hs:swapsWith e none pos.line X.env=pure false:=by rfl):PS X (.Expr e pos) (QT te):=by intro QF s σ H D I h;exact wpAny_Expr_any (bK (he QF s σ H _ I h) fun v s1 ⟨x,H1,I1,r1,q1⟩=>⟨σ,H1,I1,q1⟩) I.quiet hs
def UK(te:TE):TS:=fun D σ H=>te σ H D.rt
theorem Mh(he:PE X e te):PS X (.Return (some e) pos) (UK te):=by intro QF s σ H D I h;exact wpAny_Return_some (bK (he QF s σ H _ I h) fun v s1 ⟨x,H1,I1,r1,q1⟩=>⟨x,σ,H1,I1,r1,q1⟩)
def UG(c:TT)(t u:TS):TS:=fun D σ H=>c σ H fun b H1=>if b=true then t D σ H1 else u D σ H1
theorem Qt{c:Expr}{a b:List Stmt}{tc:TT}(hc:PT X c tc)(ha:vg X a t)(hb:vg X b u):PS X (.If c a b pos) (UG tc t u):=by intro QF s σ H D I h;refine wpAny_If (bK (hc QF s σ H _ I h) fun d s1 ⟨H1,I1,q1⟩=>?_);cases d with|true=>exact ha QF s1 σ H1 D I1 q1|false=>exact hb QF s1 σ H1 D I1 q1
end
abbrev TG:=V->St->Hp->(St->Hp->Prop)->Prop
abbrev Hw:=List V->St->Hp->(St->Hp->Prop)->Prop
def PG(X:Cx)(target:Expr)(t:TG):Prop:=∀(QF:Y6)(s:Shared)(σ:St)(H:Hp)(v:V)(u:Value)(Q:St->Hp->Prop),Inv X QF σ H s->RelV v u->t v σ H Q->wpAny (model X.prog X.w) X.A (assign target X.env u) (fun _ s'=>∃bx H',Inv X QF bx H' s'/\Q bx H') X.xe s
def D6(X:Cx)(ts:Rz)(t:Hw):Prop:=∀(QF:Y6)(s:Shared)(σ:St)(H:Hp)(vs:NC)(us:MY)(Q:St->Hp->Prop),Inv X QF σ H s->Vals vs us->t vs σ H Q->wpAny (model X.prog X.w) X.A (assignInOrder ((assignEach ts X.env).map (·.2)) us) (fun _ s'=>∃bx H',Inv X QF bx H' s'/\Q bx H') X.xe s
abbrev Jd:=V->V->V->Hp->(Hp->Prop)->Prop
def NW(X:Cx)(t:Jd):Prop:=∀(QF:Y6)(s:Shared)(σ:St)(H:Hp)(o i v:V)(ov iv u:Value)(Q:Hp->Prop),Inv X QF σ H s->RelV o ov->RelV i iv->RelV v u->t o i v H Q->wpAny (model X.prog X.w) X.A (setItem ov iv u) (fun _ s'=>∃H',Inv X QF σ H' s'/\Q H') X.xe s
section
variable{X:Cx}{pos:Pos}
def Lw(i:Nat):TG:=fun v σ H Q=>Q (σ.set i (some v)) H
theorem yF(hN:X.N.Nodup)(hi:X.N[i]?=some x)(hx:Loc X.env.scope x)(hf:X.fn x=true\/X.env.scope.names.lookup x=some .local:=by exact ZL):PG X (.Name x pos) (Lw i):=by intro QF s σ H v u Q I r h;exact uK (uZ I hN hi hx r (fun s' I'=>⟨_,H,I',h⟩) hf)
def S6:Hw:=fun vs σ H Q=>vs=[]/\Q σ H
def Oo(t:TG)(u:Hw):Hw:=fun vs σ H Q=>∃v r,vs=v::r/\t v σ H fun bx H'=>u r bx H' Q
theorem Gg:D6 X [] S6:=by intro QF s σ H vs us Q I r h;obtain⟨e,h⟩:=h;subst e;cases r;exact assignInOrder_nil ⟨σ,H,I,h⟩
theorem Dk{e:Expr}{es:Rz}{t:TG}{u:Hw}(h1:PG X e t)(h2:D6 X es u)(hs:(assignEach (e::es) X.env).map (·.2)=assign e X.env::(assignEach es X.env).map (·.2):=by rfl):D6 X (e::es) (Oo t u):=by intro QF s σ H vs us Q I r h;obtain⟨v,vr,e1,h⟩:=h;subst e1;cases r with|cons r rr=>rw[hs];refine assignInOrder_cons (bK (h1 QF s σ H _ _ _ I r h) fun _ s1 ⟨IV,H1,I1,q1⟩=>?_);exact h2 QF s1 IV H1 _ _ Q I1 rr q1
def Q1d(K:W.Frag)(n:Nat)(t:Hw):TG:=fun v σ H Q=>∃a xs,v=.ref a/\dj K H a xs/\xs.length=n/\t xs σ H Q
theorem Ma{es:Rz}{k:Nat}{t:Hw}{n:Nat}(hc:X.calm=true)(h:D6 X es t)(hn:(assignEach es X.env).length=n:=by rfl) (ja:(assignEach es X.env).findIdx? (·.1)=none:=by rfl):PG X (.Tuple es k pos) (Q1d X.K n t):=by intro QF s σ H v u Q I r hw;obtain⟨a,xs,e1,hq,hl,hw⟩:=hw;subst e1;cases r;obtain⟨aG,rv,ht,hz⟩:=I.tuple hq;refine assign_Tuple_tuple (I.ok.hd hc) ht (by simp[hn,<-hl,rv.length]) ja fun h' hx=>?_;have I1:Inv X QF σ H {s with heap:=h'}:=I.kept (t':=s.toks) fun b o e=>hx b o (Zd (ZW e)) e;exact h QF _ σ H xs _ Q I1 (by simpa using rv) hw
def S7(to ti:TE)(t:Jd):TG:=fun v σ H Q=>to σ H fun o H1=>ti σ H1 fun i H2=>t o i v H2 fun H3=>Q σ H3
theorem L9{o i:Expr}{to ti:TE}{t:Jd}(ho:PE X o to)(hi:PE X i ti)(hs:NW X t)(ha:∀v,assign (.Subscript o i pos) X.env v=(do
  let ov <-holding [v] (eval o X.env);let iv <-holding [v,ov] (eval i X.env)
  standAt pos
  holding [v,ov,iv] (setItem ov iv v)
  release [v,ov,iv] []):=by exact ZP):PG X (.Subscript o i pos) (S7 to ti t):=by
 intro QF s σ H v u Q I r h;rw[ha];refine ZS (S5 (bK (ho QF s σ H _ I h) fun ov s1 ⟨x,H1,I1,r1,q1⟩=>?_));refine ZS (S5 (bK (hi QF s1 σ H1 _ I1 q1) fun iv s2 ⟨y,H2,I2,r2,q2⟩=>?_));refine ZS (Au (ZS (S5 (bK (hs QF s2 σ H2 x y v ov iv u _ I2 r1 r2 r q2) fun _ s3 ⟨H3,I3,q3⟩=>?_))));exact wpAny_release ⟨σ,H3,I3,q3⟩
def QN(te:TE)(g:TG):TS:=fun D σ H=>te σ H fun x H1=>g x σ H1 D.nx
theorem Me{tg e:Expr}{te:TE}{g:TG}(he:PE X e te)(hg:PG X tg g)(hs:swapsWithSole [tg] e pos.line X.env=pure false:=by rfl)(hw:swappedStores [tg] e X.env=pure none:=by rfl)(h1:(assignEach [tg] X.env).map (·.2)=[assign tg X.env]:=by rfl):PS X (.Assign [tg] e pos) (QN te g):=by intro QF s σ H D I h;refine wpAny_Assign_stores (bK (he QF s σ H _ I h) fun v s1 ⟨x,H1,I1,r1,q1⟩=>?_) hs hw;rw[h1];exact bK (hg QF s1 σ H1 x v _ I1 r1 q1) fun _ s2 q=>q
theorem Dp{i:Nat}{x:Str}{e:Expr}{te:TE}{UR:Pos}(hN:X.N.Nodup)(hi:X.N[i]?=some x)(hx:Loc X.env.scope x)(he:PE X e te)(hs:swapsWith e (some (.Name x UR)) pos.line X.env=pure false:=by rfl)(hf:X.fn x=true\/X.env.scope.names.lookup x=some .local:=by exact ZL) : PS X (.Assign [.Name x UR] e pos) (QN te (Lw i)):=by intro QF s σ H D I h;refine wpAny_Assign_Name (bK (he QF s σ H _ I h) fun v s1 ⟨y,H1,I1,r1,q1⟩=>?_) hs;exact uZ I1 hN hi hx r1 (fun s2 I2=>⟨_,H1,I2,q1⟩) hf
end
section
variable{X:Cx}{pos:Pos}
def MS(c:TT)(tb:TS):TS:=fun D σ H=>∃W:Nat->St->Hp->Prop,(∃m,W m σ H)/\∀m σ H,W m σ H->c σ H fun b H1=>if b=true then ∃N:St->Hp->Prop,(∀bx H',N bx H'->∃m',m'<m/\W m' bx H')/\tb {D with nx:=N,ct:=N,bk:=D.nx} σ H1 else D.nx σ H1
theorem Dq{c:Expr}{body:List Stmt}{tc:TT}{tb:TS}(hp:PassesOwn (model X.prog X.w) X.A X.env X.xe)(hc:PT X c tc)(hb:vg X body tb):PS X (.While c body [] pos) (MS tc tb):=by
 intro QF s σ H D I h;obtain⟨W,⟨m0,w0⟩,turn⟩:=h;refine wpAny_While (codeAny_whileLoop (fun n s'=>∃bx H',Inv X QF bx H' s'/\W n bx H') ?_ m0 ⟨σ,H,I,w0⟩);rintro n s1 ⟨IV,H1,I1,w1⟩;refine zo hp (bK (hc QF s1 IV H1 _ I1 (turn n IV H1 w1)) fun b s2 ⟨H2,I2,q2⟩=>?_);cases b with
 |true=>obtain⟨N,hN,q2⟩:=q2;rw[ZY rfl];refine zo hp (bK (hb QF s2 IV H2 _ I2 q2) fun f s3 q3=>?_);cases f with|next=>obtain⟨D3,H3,I3,n3⟩:=q3;obtain⟨m',hm,w3⟩:=hN D3 H3 n3;exact⟨m',hm,D3,H3,I3,w3⟩|cont=>obtain⟨D3,H3,I3,n3⟩:=q3;obtain⟨m',hm,w3⟩:=hN D3 H3 n3;exact⟨m',hm,D3,H3,I3,w3⟩|brk=>exact q3|ret v=>exact q3
 |false=>rw[Za Zi];exact wpAny_execs_nil ⟨IV,H2,I2,q2⟩
end
structure It where
 go:Nat->Hp->Prop
 Ss:Nat->Hp->V->Hp->Prop
 stop:Nat->Hp->Prop
def i8(X:Cx)(QF:Y6)(H:Hp)(b:Addr):Prop:=H b=none/\b≠X.env.locals/\b∉X.fs/\(b∈X.ex\/X.s₀.heap.objs.size<=b)/\(∀x c,X.env.cells.lookup x=some c->c≠b)/\∀p∈X.pn++QF,p.1≠b
theorem Inv.oK{X:Cx}{QF:Y6}{σ:St}{H H':Hp}{s:Shared}{b:Addr}(I:Inv X QF σ H s)(hb:s.heap.objs.size<=b)(hn:H' b=none):i8 X QF H' b:=by refine⟨hn,Ml (Z6 I.lt hb),I.Um hb,.inr (Zw I.sz hb),fun x c e z=>?_,fun p hp z=>?_⟩;obtain⟨v,q⟩:=I.cell x c e;exact absurd (Z6 q.lt (by rw[z];exact hb)) (Nw _);exact absurd (Z6 (ZW (I.pin p hp).1) (by rw[z];exact hb)) (Nw _)
structure Turn(P:Program)(w:World)(K:W.Frag)(tg:Expr)(J:It)(fp:VL)(it:Addr)(tn:Nat->Heap->Prop):Prop where
 mem:it∈fp
 obj:∀i h,tn i h->∀b∈fp,∃o,h.get? b=some o/\∀v,o.data≠.cell v
 keep:∀i h h',tn i h->(∀b∈fp,∀o,h.get? b=some o->h'.get? b=some o)->tn i h'
 item:∀(X:Cx),X.prog=P->X.w=w->X.K=K->X.calm=true->∀(i:Nat)(QF:Y6)(s:Shared)(σ:St)(H:Hp)(E:Y5),Inv X QF σ H s->(∀b∈fp,i8 X QF H b)->tn i s.heap->J.go i H->wpAny (model P w) X.A (pyNext (.ref it)) (fun r s1=>∃u,r=some u/\wpAny (model P w) X.A (letOwnedTupleGo tg (.ref it) u) (fun _ s2=>∃x H',Inv X QF σ H' s2/\RelV x u/\J.Ss i H x H'/\tn (i+1) s2.heap/\∀b∈fp,H' b=none) E s1) E s
 done:∀(X:Cx),X.prog=P->X.w=w->X.K=K->X.calm=true->∀(i:Nat)(QF:Y6)(s:Shared)(σ:St)(H:Hp)(E:Y5),Inv X QF σ H s->(∀b∈fp,i8 X QF H b)->tn i s.heap->J.stop i H->wpAny (model P w) X.A (pyNext (.ref it)) (fun r s1=>r=none/\Inv X QF σ H s1) E s
 self:∀(A:Around)(i:Nat)(s:Shared)(Q:Y5)(E:Y5),tn i s.heap->Q (.ref it) s->wpAny (model P w) A (pyIter (.ref it)) Q E s
abbrev TI:=St->Hp->(It->Hp->Prop)->Prop
def U5(X:Cx)(QF:Y6)(σ:St)(tg:Expr)(R:It->Hp->Prop)(T5:Value)(s2:Shared):Prop:=∃(it:Addr)(fp:VL)(tn:Nat->Heap->Prop)(J:It)(H':Hp),T5=.ref it/\Inv X QF σ H' s2/\Turn X.prog X.w X.K tg J fp it tn/\tn 0 s2.heap/\(∀b∈fp,i8 X QF H' b)/\R J H'
def PI(X:Cx)(tg Om:Expr)(wi:TI):Prop:=∀(QF:Y6)(s:Shared)(σ:St)(H:Hp)(R:It->Hp->Prop),Inv X QF σ H s->wi σ H R->wpAny (model X.prog X.w) X.A (eval Om X.env) (fun v s1=>wpAny (model X.prog X.w) X.A (pyIter v) (U5 X QF σ tg R) X.xe s1) X.xe s
theorem qT(ho:s.heap.get? it=some o)(hc:o.cls=.type n)(hd:o.data=.fields vs)
    (hn:["enumerate","zip","dict_itemiterator","dict_reverseitemiterator","odict_iterator","itertools.zip_longest","itertools.pairwise"].contains n=false) (hQ:Q () s):wpAny M A (letOwnedTupleGo tg (.ref it) u) Q E s:=by
  unfold letOwnedTupleGo
  cases tg<;>first
    |exact ZT hQ
    | (cases u<;>first
        |exact ZT hQ
        | (refine ZS (wpAny_load ho ?_)
           rw[hc,hd]
           show wpAny M A (if (["enumerate","zip","dict_itemiterator","dict_reverseitemiterator","odict_iterator","itertools.zip_longest","itertools.pairwise"].contains n&&vs[0]? == some (rawInt _))=true then _ else _) Q E s
           rw[Za (by intro h;rw[hn,Bool.false_and] at h;cases h)]
           exact ZT hQ))
def SG(K:W.Frag)(a:Addr):It:=⟨fun i H=>∃xs x,df K H a xs/\xs[i]?=some x,fun i H x H'=>H'=H/\∀xs,df K H a xs->xs[i]?=some x,fun i H=>∃xs,df K H a xs/\xs.length<=i⟩
def SH(K:W.Frag)(a:Addr):It:=⟨fun i H=>∃xs x,dj K H a xs/\xs[i]?=some x,fun i H x H'=>H'=H/\∀xs,dj K H a xs->xs[i]?=some x,fun i H=>∃xs,dj K H a xs/\xs.length<=i⟩
def Rk(lo:Int)(n:Nat):It:=⟨fun i _=>i<n,fun i H x H'=>H'=H/\x=.int (lo+i),fun i _=>n<=i⟩
theorem Ah{P:Program}{w:World}{K:W.Frag}{tg:Expr}(a it:Addr):Turn P w K tg (SG K a) [it] it (fun i h=>h.IsListIter it a i) where
 mem:=ZH
 obj:=fun i h st b hb=>by
  have e:b=it:=by simpa using hb
  subst e;obtain⟨o,e,c,d⟩:=st;exact⟨o,e,fun v z=>by rw[d] at z;cases z⟩
 keep:=fun i h h' st k=>st.at fun o e=>k it ZH o e
 item:=by intro X hP hw hK hc i QF s σ H E I hf st hg;subst hP hw hK;obtain⟨xs,x,hq,hx⟩:=hg;obtain⟨aG,rv,p,hz⟩:=I.list hq;obtain⟨u,hu,ru⟩:=rv.get hx;obtain⟨f0,f1,f2,f3,f4,f5⟩:=hf it ZH;refine wpAny_pyNext_list_item st p.isList (x:=u) (by simpa using hu) fun h' nN sb=>?_;have I1:Inv X QF σ H {s with heap:=h'}:=I.turned (t':=s.toks) (fun b o hb e=>(sb.2 b hb).trans e) f0 f1 f3 f4 f5;obtain⟨o,e,c,d⟩:=id nN;exact⟨u,rfl,qT (s:={s with heap:=h'}) e c d (by decide) ⟨x,H,I1,ru,⟨rfl,fun ys hy=>by rw[I.oX hy hq];exact hx⟩,nN,fun b hb=>(hf b hb).1⟩⟩
 done:=by intro X hP hw hK hc i QF s σ H E I hf st hg;subst hP hw hK;obtain⟨xs,hq,hx⟩:=hg;obtain⟨aG,rv,p,hz⟩:=I.list hq;obtain⟨f0,f1,f2,f3,f4,f5⟩:=hf it ZH;have hl:=rv.length;exact wpAny_pyNext_list_end (I.ok.hd hc) st p.isList (by simp;omega) fun h' eb=>⟨rfl,I.turned (t':=s.toks) (fun b o hb e=>eb b o hb e) f0 f1 f3 f4 f5⟩
 self:=fun _ _ _ _ _ st h=>wpAny_pyIter_listiter st h
theorem Q1F{P:Program}{w:World}{K:W.Frag}{tg:Expr}(a it:Addr):Turn P w K tg (SH K a) [it] it (fun i h=>h.IsTupleIter it a i) where
 mem:=ZH
 obj:=fun i h st b hb=>by
  have e:b=it:=by simpa using hb
  subst e;obtain⟨o,e,c,d⟩:=st;exact⟨o,e,fun v z=>by rw[d] at z;cases z⟩
 keep:=fun i h h' st k=>st.at fun o e=>k it ZH o e
 item:=by intro X hP hw hK hc i QF s σ H E I hf st hg;subst hP hw hK;obtain⟨xs,x,hq,hx⟩:=hg;obtain⟨aG,rv,p,hz⟩:=I.tuple hq;obtain⟨u,hu,ru⟩:=rv.get hx;obtain⟨f0,f1,f2,f3,f4,f5⟩:=hf it ZH;refine wpAny_pyNext_tuple_item st (show s.heap.IsTuple a aG.toArray from p) (x:=u) (by simpa using hu) fun h' nN sb=>?_;have I1:Inv X QF σ H {s with heap:=h'}:=I.turned (t':=s.toks) (fun b o hb e=>(sb.2 b hb).trans e) f0 f1 f3 f4 f5;obtain⟨o,e,c,d⟩:=id nN;exact⟨u,rfl,qT (s:={s with heap:=h'}) e c d (by decide) ⟨x,H,I1,ru,⟨rfl,fun ys hy=>by rw[I.rB hy hq];exact hx⟩,nN,fun b hb=>(hf b hb).1⟩⟩
 done:=by intro X hP hw hK hc i QF s σ H E I hf st hg;subst hP hw hK;obtain⟨xs,hq,hx⟩:=hg;obtain⟨aG,rv,p,hz⟩:=I.tuple hq;obtain⟨f0,f1,f2,f3,f4,f5⟩:=hf it ZH;have hl:=rv.length;exact wpAny_pyNext_tuple_end (I.ok.hd hc) st (show s.heap.IsTuple a aG.toArray from p) (by simp;omega) fun h' eb=>⟨rfl,I.turned (t':=s.toks) (fun b o hb e=>eb b o hb e) f0 f1 f3 f4 f5⟩
 self:=fun _ _ _ _ _ st h=>wpAny_pyIter_tupleiter st h
theorem wY{P:Program}{w:World}{K:W.Frag}{tg:Expr}(it:Addr)(lo:Int)(n:Nat):Turn P w K tg (Rk lo n) [it] it (fun i h=>IsRangeIter h it (lo+(i:Nat)*1) ((n:Int)-(i:Nat)) 1) where
 mem:=ZH
 obj:=fun i h st b hb=>by
  have e:b=it:=by simpa using hb
  subst e;exact⟨_,st,fun v z=>by have z':Data.fields _=Data.cell v:=z;cases z'⟩
 keep:=fun i h h' st k=>k it ZH _ st
 item:=by intro X hP hw hK hc i QF s σ H E I hf st hg;subst hP hw hK;obtain⟨f0,f1,f2,f3,f4,f5⟩:=hf it ZH;have W:=Walks.range (prog:=X.prog) (w:=X.w) (I.ok.hd hc) it lo 1 n;refine W.item i s _ _ hg st fun v h' tk hv nN kk=>?_;obtain⟨t,rfl⟩:=hv;have I1:Inv X QF σ H {s with heap:=h',toks:=tk}:=I.turned (fun b o hb e=>kk b o (by simpa using hb) e) f0 f1 f3 f4 f5;refine⟨_,rfl,qT (s:={s with heap:=h',toks:=tk}) (n:="range_iterator") nN rfl rfl (by decide) ⟨.int (lo+i),H,I1,⟨t,?_⟩,⟨rfl,rfl⟩,nN,fun b hb=>(hf b hb).1⟩⟩;rw[Int.mul_one]
 done:=by intro X hP hw hK hc i QF s σ H E I hf st hg;subst hP hw hK;obtain⟨f0,f1,f2,f3,f4,f5⟩:=hf it ZH;exact wpAny_pyNext_range_end (I.ok.hd hc) st (by have:n<=i:=hg;omega) fun h' eb=>⟨rfl,I.turned (t':=s.toks) (fun b o hb e=>eb b o hb e) f0 f1 f3 f4 f5⟩
 self:=fun _ _ _ _ _ st h=>wpAny_pyIter_rangeiter st h
section
variable{X:Cx}{tg:Expr}
theorem Dz{QF:Y6}{σ:St}{H:Hp}{s:Shared}{R:It->Hp->Prop}{E:Y5}{lo hi:Int}{t u v:Tok}{tk:Nat}(I:Inv X QF σ H s)(h1:-(2 ^ 62)<=lo)(h2:lo<2 ^ 62)(h3:-(2 ^ 62)<=hi)(h4:hi<2 ^ 62)(q:R (Rk lo (hi-lo).toNat) H):wpAny (model X.prog X.w) X.A (pyIter (.ref s.heap.objs.size)) (U5 X QF σ tg R) E {s with heap:=s.heap.push {cls:=.type "range",data:=.fields #[.int lo t,.int hi u,.int 1 v]},toks:=tk}:=by
 refine wpAny_pyIter_range (IsRange.new ..) (small_one h1 h2 h3 h4) ?_;have I1:Inv X QF σ H {s with heap:=s.heap.push {cls:=.type "range",data:=.fields #[.int lo t,.int hi u,.int 1 v]},toks:=tk}:=I.kept fun b o e=>Y7 _ e;refine⟨(s.heap.push {cls:=.type "range",data:=.fields #[.int lo t,.int hi u,.int 1 v]}).objs.size,[(s.heap.push {cls:=.type "range",data:=.fields #[.int lo t,.int hi u,.int 1 v]}).objs.size],_,_,H,rfl,I1.kept (t':=tk) fun b o e=>Y7 _ e,wY _ lo (hi-lo).toNat,?_,fun b hb=>?_,q⟩;have e1:lo+((0:Nat):Int)*1=lo:=ZH;have e2:(((hi-lo).toNat:Nat):Int)-((0:Nat):Int)=Builtin.Range.rangeSize lo hi 1:=by rw[rangeSize_one];split<;>omega
 show IsRangeIter _ _ (lo+((0:Nat):Int)*1) ((((hi-lo).toNat:Nat):Int)-((0:Nat):Int)) 1;rw[e1,e2];exact Y8 _ rfl;have e:b=(s.heap.push {cls:=.type "range",data:=.fields #[.int lo t,.int hi u,.int 1 v]}).objs.size:=by simpa using hb
 subst e;exact I1.oK (ZU _) (I1.b8.fresh (ZU _))
def Q1D(ta:TA):TI:=fun σ H R=>ta σ H fun vs H1=>∃j:Int,vs=[.int j]/\-(2 ^ 62)<=j/\j<2 ^ 62/\R (Rk 0 j.toNat) H1
theorem zV{a:Expr}{ta:TA}{p pos:Pos}(hg:Gl X "range")(hm:X.mg "range" = none)(ha:PA X [a] ta)(hs:starEach [a] X.env=[(false,eval a X.env)]:=by rfl):PI X tg (.Call (.Name "range" p) [a] [] pos) (Q1D ta):=by intro QF s σ H R I h;refine Call_ (eg I hg hm boot_range (Zh (bK (ha pos QF s σ H _ I h) fun us s1 ⟨vs,H1,I1,r1,q1⟩=>?_) hs rfl));obtain⟨j,e,q1,q2,q⟩:=q1;subst e;cases r1 with|cons r rr=>cases rr;obtain⟨t,rfl⟩:=r;exact call_range_1 (Dz I1 ZJ ZJ q1 q2 (by simpa using q))
def UE(wi:TI)(g:TG)(tb:TS):TS:=fun D σ H=>wi σ H fun J H1=>∃W:Nat->Nat->St->Hp->Prop,(∃m,W 0 m σ H1)/\∀i m σ H,W i m σ H->(J.stop i H/\D.nx σ H)\/(J.go i H/\∃N:St->Hp->Prop,(∀bx H',N bx H'->∃m',m'<m/\W (i+1) m' bx H')/\∀x H',J.Ss i H x H'->g x σ H' fun Sy H2=>tb {D with nx:=N,ct:=N,bk:=D.nx} Sy H2)
def pB(fp:VL)(h:Heap):Y6:=fp.filterMap fun b=>(h.get? b).map fun o=>(b,o)
theorem iJ(hb:b∈fp)(e:h.get? b=some o):(b,o)∈pB fp h:=List.mem_filterMap.mpr ⟨b,hb,by rw[e];rfl⟩
theorem zR(hp:p∈pB fp h):p.1∈fp/\h.get? p.1=some p.2:=by obtain⟨b,hb,e⟩:=List.mem_filterMap.mp hp;cases q:h.get? b with|none=>rw[q] at e;cases e|some o=>rw[q] at e;have e':(b,o)=p:=ZV e;subst e';exact⟨hb,q⟩
theorem Inv.pinned{QF:Y6}{σ:St}{H:Hp}{s:Shared}{fp:VL}(I:Inv X QF σ H s)(hf:∀b∈fp,i8 X QF H b)(ho:∀b∈fp,∃o,s.heap.get? b=some o/\∀v,o.data≠.cell v):Inv X (QF++pB fp s.heap) σ H s:=I.yH fun p hp=>(List.mem_append.mp hp).elim (fun z=>I.pin p (Zr _ z)) fun z=>by obtain⟨hb,e⟩:=zR z;obtain⟨f0,f1,f2,_⟩:=hf p.1 hb;obtain⟨o,e',d⟩:=ho p.1 hb;rw[e] at e';cases e';exact⟨e,f0,f1,f2,d⟩
theorem Inv.lE{QF pl:Y6}{σ:St}{H:Hp}{s:Shared}(I:Inv X (QF++pl) σ H s):Inv X QF σ H s:=I.yH fun p hp=>I.pin p (Zr _ (List.mem_append_left _ hp))
theorem Mg{Om:Expr}{body:List Stmt}{wi:TI}{g:TG}{tb:TS}{pos:Pos}(hp:PassesOwn (model X.prog X.w) X.A X.env X.xe)(hc:X.calm=true)(hi:PI X tg Om wi)(hg:PG X tg g)(hb:vg X body tb)(hs:∀x,foldedSetIterable Om X.env x=pure x:=by exact ZP):PS X (.For tg Om body [] pos) (UE wi g tb):=by
 intro QF s σ H D I h;refine wpAny_For (bK (hi QF s σ H _ I h) fun v s1 h1=>bK h1 fun T5 s2 h2=>?_) hs;obtain⟨it,fp,tn,J,H2,e,I2,T,wL,f2,W,⟨m0,w0⟩,turn⟩:=h2;subst e;have wN:∀{H':Hp},(∀b∈fp,H' b=none)->∀b∈fp,i8 X QF H' b:=fun hn b hb=>⟨hn b hb,(f2 b hb).2⟩;refine codeAny_forLoop_any (fun n s'=>∃i bx H',Inv X QF bx H' s'/\tn i s'.heap/\(∀b∈fp,H' b=none)/\W i n bx H') ?_ m0 ⟨0,σ,H2,I2,wL,fun b hb=>(f2 b hb).1,w0⟩;rintro n s3 ⟨i,D3,H3,I3,V6,Vi,w3⟩;rcases turn i n D3 H3 w3 with ⟨stop,qn⟩|⟨go,N,hN,step⟩
 ·refine zo hp (bK (T.done X rfl rfl rfl hc i QF s3 D3 H3 X.xe I3 (wN Vi) V6 stop) fun r s4 ⟨hr,I4⟩=>?_);subst hr;exact wpAny_execs_nil ⟨D3,H3,I4,qn⟩
 ·refine zo hp (bK (T.item X rfl rfl rfl hc i QF s3 D3 H3 X.xe I3 (wN Vi) V6 go) fun r s4 ⟨u,hr,h4⟩=>?_);subst hr;refine zo hp (bK h4 fun _ s5 ⟨x,H5,I5,r5,y5,UA,Wu⟩=>?_);have Wg:=I5.pinned (wN Wu) (T.obj _ _ UA);refine zo hp (bK (hg _ s5 D3 H5 x u _ Wg r5 (step x H5 y5)) fun _ s6 ⟨X6,H6,I6,q6⟩=>?_);refine zo hp (bK (hb _ s6 X6 H6 _ I6 q6) fun f s7 q7=>?_);have again:∀{lL:St}{H7:Hp},Inv X (QF++pB fp s5.heap) lL H7 s7->N lL H7->∃m,m<n/\∃i bx H',Inv X QF bx H' s7/\tn i s7.heap/\(∀b∈fp,H' b=none)/\W i m bx H':=fun {lL H7} I7 n7=>by obtain⟨m',hm,w7⟩:=hN lL H7 n7;refine⟨m',hm,i+1,lL,H7,I7.lE,T.keep _ _ _ UA fun b hb o e=>(I7.pin (b,o) (Zr _ (Zr _ (iJ hb e)))).1,fun b hb=>?_,w7⟩;obtain⟨o,e,d⟩:=T.obj _ _ UA b hb;exact(I7.pin (b,o) (Zr _ (Zr _ (iJ hb e)))).2.1
  cases f with|next=>obtain⟨lL,H7,I7,n7⟩:=q7;exact again I7 n7|cont=>obtain⟨lL,H7,I7,n7⟩:=q7;exact again I7 n7|brk=>obtain⟨lL,H7,I7,q7⟩:=q7;exact⟨lL,H7,I7.lE,q7⟩|ret v=>obtain⟨x7,lL,H7,I7,r7,q7⟩:=q7;exact⟨x7,lL,H7,I7.lE,r7,q7⟩
end
abbrev R2:=V->V->Hp->VK->Prop
def fZ(X:Cx)(f:Value->Value->Sem Value)(r:R2):Prop:=∀(QF:Y6)(s:Shared)(σ:St)(H:Hp)(x y:V)(v u:Value)(Q:VK),Inv X QF σ H s->RelV x v->RelV y u->r x y H Q->wpAny (model X.prog X.w) X.A (f v u) (EP X QF σ Q) X.xe s
def Rv(X:Cx)(f:Value->Sem Value)(r:V->Hp->VK->Prop):Prop:=∀(QF:Y6)(s:Shared)(σ:St)(H:Hp)(x:V)(v:Value)(Q:VK),Inv X QF σ H s->RelV x v->r x H Q->wpAny (model X.prog X.w) X.A (f v) (EP X QF σ Q) X.xe s
def dO(X:Cx)(f:Value)(r:NC->Hp->VK->Prop):Prop:=∀(QF:Y6)(s:Shared)(σ:St)(H:Hp)(xs:NC)(us:MY)(Q:VK),Inv X QF σ H s->Vals xs us->r xs H Q->wpAny (model X.prog X.w) X.A (call f us) (EP X QF σ Q) X.xe s
def NB(r:R2)(ta tb:TE):TE:=fun σ H Q=>ta σ H fun x H1=>tb σ H1 fun y H2=>r x y H2 Q
def XY(r:V->Hp->VK->Prop)(ta:TE):TE:=fun σ H Q=>ta σ H fun x H1=>r x H1 Q
def rI(C:Int->Int->Prop)(g:Int->Int->V):R2:=fun x y H Q=>∃i j,x=.int i/\y=.int j/\C i j/\Q (g i j) H
def uS(g:Int->Int->V):R2:=fun x y H Q=>∃i j,x=.int i/\y=.int j/\Q (g i j) H
def rU(g:Int->V):V->Hp->VK->Prop:=fun x H Q=>∃i,x=.int i/\Q (g i) H
section
variable{X:Cx}{a b c:Expr}{ta tb tc:TE}{pos:Pos}
theorem Jm(ha:PE X a ta)(hb:PE X b tb){QF:Y6}{s:Shared}{σ:St}{H:Hp}{R:V->V->Hp->Prop}(I:Inv X QF σ H s)
  (h:ta σ H fun x H1=>tb σ H1 fun y H2=>R x y H2) {Q:Y5} {f:Value->Value->Sem Value}
  (hf:∀v u s2 x y H2,Inv X QF σ H2 s2->RelV x v->RelV y u->R x y H2->wpAny (model X.prog X.w) X.A (f v u) Q X.xe s2) :
  wpAny (model X.prog X.w) X.A (eval a X.env) (fun v br=>wpAny (model X.prog X.w) X.A (eval b X.env) (fun u qm=>wpAny (model X.prog X.w) X.A (f v u) Q X.xe qm) X.xe br) X.xe s:=by
 refine bK (ha QF s σ H _ I h) fun v s1 ⟨x,H1,I1,r1,q1⟩=>?_;refine bK (hb QF s1 σ H1 _ I1 q1) fun u s2 ⟨y,H2,I2,r2,q2⟩=>?_;exact hf v u s2 x y H2 I2 r1 r2 q2
theorem Qm(ho:fZ X (binaryOp op) r)(ha:PE X a ta)(hb:PE X b tb):PE X (.BinOp a op b pos) (NB r ta tb):=by intro QF s σ H Q I h;exact wpAny_BinOp (Jm ha hb I h fun v u s2 x y H2 I2 rx ry q=>ho QF s2 σ H2 x y v u Q I2 rx ry q)
theorem Qo{op:UnaryOp}{r:V->Hp->VK->Prop}(ho:Rv X (unaryOp op) r)(ha:PE X a ta):PE X (.UnaryOp op a pos) (XY r ta):=by intro QF s σ H Q I h;exact UnaryOp_ (bK (ha QF s σ H _ I h) fun v s1 ⟨x,H1,I1,r1,q1⟩=>ho QF s1 σ H1 x v Q I1 r1 q1)
theorem R8{f:Value->Value->Sem Value}{C:Int->Int->Prop}{g:Int->Int->Int}
  (rule:∀(i j:Int)(t u:Tok)(s:Shared)(Q:Y5)(E:Y5),C i j->Q (.int (g i j) s.toks) {s with toks:=s.toks+1}->wpAny (model X.prog X.w) X.A (f (.int i t) (.int j u)) Q E s) :
  fZ X f (rI C fun i j=>.int (g i j)):=by
 intro QF s σ H x y v u Q I rx ry h;obtain⟨i,j,rfl,rfl,hc,q⟩:=h;obtain⟨t,rfl⟩:=rx;obtain⟨t',rfl⟩:=ry;exact rule i j t t' s _ _ hc ⟨.int (g i j),H,I.tok _,⟨_,rfl⟩,q⟩
theorem Qf{f:Value->Value->Sem Value}{g:Int->Int->Int}
  (rule:∀(i j:Int)(t u:Tok)(s:Shared)(Q:Y5)(E:Y5),Q (.int (g i j) s.toks) {s with toks:=s.toks+1}->wpAny (model X.prog X.w) X.A (f (.int i t) (.int j u)) Q E s) :
  fZ X f (uS fun i j=>.int (g i j)):=by
 intro QF s σ H x y v u Q I rx ry h;obtain⟨i,j,rfl,rfl,q⟩:=h;obtain⟨t,rfl⟩:=rx;obtain⟨t',rfl⟩:=ry;exact rule i j t t' s _ _ ⟨.int (g i j),H,I.tok _,⟨_,rfl⟩,q⟩
theorem FL{f:Value->Value->Sem Value}{g:Int->Int->Bool}
  (rule:∀(i j:Int)(t u:Tok)(s:Shared)(Q:Y5)(E:Y5),Q (.bool (g i j)) s->wpAny (model X.prog X.w) X.A (f (.int i t) (.int j u)) Q E s) :
  fZ X f (uS fun i j=>.bl (g i j)):=by
 intro QF s σ H x y v u Q I rx ry h;obtain⟨i,j,rfl,rfl,q⟩:=h;obtain⟨t,rfl⟩:=rx;obtain⟨t',rfl⟩:=ry;exact rule i j t t' s _ _ ⟨.bl (g i j),H,I,rfl,q⟩
def IW(i j:Int):Prop:=0<j/\j<1073741824
def NI(i j:Int):Prop:=0<=j/\j<=1000000/\i.natAbs<2 ^ 64
def vm(i j:Int):Prop:=(-(2 ^ 64)<i/\i<2 ^ 64)\/(-(2 ^ 64)<j/\j<2 ^ 64)
theorem vm.ok(h:vm i j):IntMulOk i j:=by
 rcases h with ⟨h1,h2⟩|⟨h1,h2⟩
 exact .of_left (intBits_le_64 h1 h2);exact .of_right (intBits_le_64 h1 h2)
theorem Q18:fZ X (binaryOp .Add) (uS fun i j=>.int (i+j)):=Qf fun _ _ _ _ _ _ _ q=>add_int q
theorem cN:fZ X (binaryOp .Sub) (uS fun i j=>.int (i-j)):=Qf fun _ _ _ _ _ _ _ q=>sub_int q
theorem gP:fZ X (binaryOp .Mult) (rI vm fun i j=>.int (i*j)):=R8 fun _ _ _ _ _ _ _ hc q=>mul_int q hc.ok
theorem yC:fZ X (binaryOp .FloorDiv) (rI IW fun i j=>.int (i / j)):=R8 fun i j _ _ _ _ _ hc q=>by have h1:(0:Int)<j:=hc.1;have h2:j<1073741824:=hc.2;exact floordiv_int ZJ (by rw[Int.fdiv_eq_ediv_of_nonneg i ZJ];exact q) (.inl (PyProof.noPylong_small ZJ))
theorem kC:fZ X (binaryOp .Mod) (rI (fun _ j=>0<j) fun i j=>.int (i % j)):=R8 fun i j _ _ _ _ _ hc q=>by have h1:(0:Int)<j:=hc;exact mod_int' ZJ (by rw[Int.fmod_eq_emod_of_nonneg i ZJ];exact q)
theorem Q0M:fZ X (binaryOp .Pow) (rI NI fun i j=>.int (i ^ j.toNat)):=R8 fun _ _ _ _ _ _ _ hc q=>pow_int_small hc.1 hc.2.1 hc.2.2 q
theorem X0{f:Value->Sem Value}{g:Int->Int}
  (rule:∀(i:Int)(t:Tok)(s:Shared)(Q:Y5)(E:Y5),Q (.int (g i) s.toks) {s with toks:=s.toks+1}->wpAny (model X.prog X.w) X.A (f (.int i t)) Q E s) :
  Rv X f (rU fun i=>.int (g i)):=by
 intro QF s σ H x v Q I rx h;obtain⟨i,rfl,q⟩:=h;obtain⟨t,rfl⟩:=rx;exact rule i t s _ _ ⟨.int (g i),H,I.tok _,⟨_,rfl⟩,q⟩
theorem jz:Rv X (unaryOp .USub) (rU fun i=>.int (-i)):=X0 fun _ _ _ _ _ q=>neg_int q
end
section
variable{X:Cx}{a b c:Expr}{ta tb tc:TE}{pos:Pos}
theorem Q0p{QF:Y6}{σ:St}{H:Hp}{s:Shared}{Q:VK}{k k':Bool}(I:Inv X QF σ H s)(q:Q (.bl k) H)(e:k=k'):EP X QF σ Q (.bool k') s:=by subst e;exact⟨.bl k,H,I,rfl,q⟩
theorem kg:fZ X (compareOp .Lt) (uS fun i j=>.bl (decide (i<j))):=FL fun _ _ _ _ _ _ _ q=>lt_int q
theorem gr:fZ X (compareOp .LtE) (uS fun i j=>.bl (decide (i<=j))):=FL fun _ _ _ _ _ _ _ q=>le_int q
theorem nu:fZ X (compareOp .Gt) (uS fun i j=>.bl (decide (j<i))):=FL fun _ _ _ _ _ _ _ q=>gt_int q
theorem Qg:fZ X (compareOp .GtE) (uS fun i j=>.bl (decide (j<=i))):=FL fun _ _ _ _ _ _ _ q=>ge_int q
theorem pq:fZ X (compareOp .Is) (fun x y H Q=>y=.bz/\Q (.bl (decide (x=.bz))) H):=by intro QF s σ H x y v u Q I rx ry h;obtain⟨rfl,q⟩:=h;cases ry;refine is_none_gen (Q0p I q ?_);cases x<;>first| (cases rx;rfl)| (obtain⟨t,rfl⟩:=rx;rfl)
theorem fZ.or(h:fZ X f r)(h':fZ X f r'):fZ X f (fun x y H Q=>r x y H Q\/r' x y H Q):=by intro QF s σ H x y v u Q I rx ry q;rcases q with q|q;exact h QF s σ H x y v u Q I rx ry q;exact h' QF s σ H x y v u Q I rx ry q
theorem bF(b:Expr)(h:op≠.In:=by decide)(h2:op≠.NotIn:=by decide):behindInMarks op b=false:=by
 have e1:(op == CmpOp.In)=false:=by cases op<;>first|rfl|exact absurd rfl h
 have e2:(op == CmpOp.NotIn)=false:=by cases op<;>first|rfl|exact absurd rfl h2
 cases b<;>simp[behindInMarks,e1,e2]
theorem FV(ho:fZ X (compareOp op) r)(ha:PE X a ta)(hb:PE X b tb)(hm:behindInMarks op b=false):PE X (.Compare a [op] [b] pos) (NB r ta tb):=by intro QF s σ H Q I h;exact wpAny_Compare1 (Jm ha hb I h fun v u s2 x y H2 I2 rx ry q=>ho QF s2 σ H2 x y v u Q I2 rx ry q) hm
def IL(t:TE):TT:=fun σ H Q=>t σ H fun x H'=>∃k,x=.bl k/\Q k H'
theorem yJ{op:CmpOp}{r:R2}(ho:fZ X (compareOp op) r)(ha:PE X a ta)(hb:PE X b tb)(hm:behindInMarks op b=false):PT X (.Compare a [op] [b] pos) (IL (NB r ta tb)):=by intro QF s σ H Q I h;refine wpAny_isTrue_Compare1 (bK (ha QF s σ H _ I h) fun v s1 ⟨x,H1,I1,r1,q1⟩=>bK (hb QF s1 σ H1 _ I1 q1) fun u s2 ⟨y,H2,I2,r2,q2⟩=>bK (ho QF s2 σ H2 x y v u _ I2 r1 r2 q2) fun c s3 ⟨z,H3,I3,r3,k,e,q3⟩=>?_) hm;subst e;cases r3;exact RJ ⟨H3,I3,q3⟩
def wU(r r':R2)(ta tb tc:TE):TE:=fun σ H Q=>ta σ H fun x H1=>tb σ H1 fun y H2=>r x y H2 fun z H3=>∃k,z=.bl k/\(if k=true then tc σ H3 fun w' H4=>r' y w' H4 Q else Q (.bl false) H3)
theorem De{op zS:CmpOp}{r r':R2}(ho:fZ X (compareOp op) r)(tE:fZ X (compareOp zS) r')(ha:PE X a ta)(hb:PE X b tb)(hc:PE X c tc)(hm:lastMarks [op,zS] [b,c]=false:=by exact ZO):PE X (.Compare a [op,zS] [b,c] pos) (wU r r' ta tb tc):=by intro QF s σ H Q I h;refine Compare_chain (bK (ha QF s σ H _ I h) fun v s1 ⟨x,H1,I1,r1,q1⟩=>chain_link (bK (hb QF s1 σ H1 _ I1 q1) fun u s2 ⟨y,H2,I2,r2,q2⟩=>bK (ho QF s2 σ H2 x y v u _ I2 r1 r2 q2) fun d s3 ⟨z,H3,I3,r3,k,e,q3⟩=>?_)) hm;subst e;cases r3;refine RJ ?_;cases k with|false=>exact ite_ff ⟨.bl false,H3,I3,rfl,q3⟩|true=>exact ite_tt (chain_last (bK (hc QF s3 σ H3 _ I3 q3) fun w' s4 ⟨z',H4,I4,r4,q4⟩=>tE QF s4 σ H4 y z' u w' Q I4 r2 r4 q4))
theorem Ds{op zS:CmpOp}{r r':R2}(ho:fZ X (compareOp op) r)(tE:fZ X (compareOp zS) r')(ha:PE X a ta)(hb:PE X b tb)(hc:PE X c tc)(hm:lastMarks [op,zS] [b,c]=false:=by exact ZO):PT X (.Compare a [op,zS] [b,c] pos) (IL (wU r r' ta tb tc)):=by intro QF s σ H Q I h;refine isTrue_chain (bK (ha QF s σ H _ I h) fun v s1 ⟨x,H1,I1,r1,q1⟩=>test_link (bK (hb QF s1 σ H1 _ I1 q1) fun u s2 ⟨y,H2,I2,r2,q2⟩=>bK (ho QF s2 σ H2 x y v u _ I2 r1 r2 q2) fun d s3 ⟨z,H3,I3,r3,k,e,q3⟩=>?_)) hm;subst e;cases r3;refine RJ ?_;cases k with|false=>obtain⟨k',e',q'⟩:=q3;cases e';exact ite_ff ⟨H3,I3,q'⟩|true=>refine ite_tt (test_last (bK (hc QF s3 σ H3 _ I3 q3) fun w' s4 ⟨z',H4,I4,r4,q4⟩=>bK (tE QF s4 σ H4 y z' u w' _ I4 r2 r4 q4) fun d' s5 ⟨z2,H5,I5,r5,k2,e2,q5⟩=>?_));subst e2;cases r5;exact RJ ⟨H5,I5,q5⟩
theorem oW:(sizeLine:Nat)<2 ^ 63:=by rw[Up];decide
theorem vals1(r:Vals [x] us):∃u,us=[u]/\RelV x u:=by cases r with|cons r1 r2=>cases r2;exact⟨_,rfl,r1⟩
theorem vals2(r:Vals [x,y] us):∃u w',us=[u,w']/\RelV x u/\RelV y w':=by cases r with|cons r1 r2=>cases r2 with|cons r3 r4=>cases r4;exact⟨_,_,rfl,r1,r3⟩
theorem jE(hc:X.calm=true):dO X (.builtin "max") (fun xs H Q=>∃i j,xs=[.int i,.int j]/\Q (.int (if j > i then j else i)) H):=by intro QF s σ H xs us Q I r h;obtain⟨i,j,rfl,q⟩:=h;obtain⟨u,w',rfl,⟨t,rfl⟩,⟨t',rfl⟩⟩:=vals2 r;refine max_two_ints (I.ok.hd hc) fun h' tk k=>⟨_,H,I.kept k,?_,q⟩;by_cases hj:j > i;rw[ZY hj,ZY hj];exact⟨_,rfl⟩;rw[Za hj,Za hj];exact⟨_,rfl⟩
theorem lR:dO X (.type "int") (fun xs H Q=>(∃i,xs=[.int i]/\Q (.int i) H)\/∃k,xs=[.bl k]/\Q (.int (if k then 1 else 0)) H):=by
 intro QF s σ H xs us Q I r h;rcases h with ⟨i,rfl,q⟩|⟨k,rfl,q⟩
 obtain⟨u,rfl,t,rfl⟩:=vals1 r;exact call_int_int ⟨.int i,H,I,⟨_,rfl⟩,q⟩;obtain⟨u,rfl,r1⟩:=vals1 r;cases r1;exact call_int_bool ⟨.int (if k then 1 else 0),H,I.tok _,⟨_,rfl⟩,q⟩
end
structure vq(h:Heap)(x dx C:Addr)(mA:Str->Pj):Prop where
 obj:h.get? x=some (W.instObj C dx)
 ns:h.Ns1 dx mA
 ne:dx≠x
theorem zy{h:Heap}{dx:Addr}{mA:Str->Pj}(n:h.Ns1 dx mA):∃od,h.get? dx=some od/\∀name,W.lookIn name od=some (mA name):=by
 obtain⟨o,es,ep,ho,hd,hk,_,hm⟩:=n;refine⟨o,ho,fun name=>?_⟩;have e:=hm name;unfold nsFind findBy at e;rw[<-Array.find?_toList] at e;unfold W.lookIn;rw[hd];dsimp only;split;rename_i y q;rw[q] at e;exact congrArg some e;rename_i q;rw[q] at e;have a:es.toList.any (·.refKey)=false:=by rw[List.any_eq_false];intro y hy;obtain⟨z,t,JV⟩:=hk y (Array.mem_toList_iff.mp hy);simp[DictEntry.refKey,JV]
 have a':¬es.toList.any (·.refKey)=true:=by rw[a];exact Zi
 rw[Za a'];exact congrArg some e
theorem vq.look(I:vq h x dx C mA):∃od,W.InstAt h x (W.instObj C dx) C (some od)/\∀name,W.lookIn name od=some (mA name):=
 let ⟨od,ho,hl⟩:=zy I.ns
 ⟨od,⟨I.obj,rfl,rfl,ho⟩,hl⟩
section
variable{prog:Program}{w:World}{A:Around}{E:Y5}{s:Shared}{K:W.Frag}{x dx C f:Addr}{mA:Str->Pj}{name:Str}{v:Value}
theorem get_map(X:K.In s.heap)(I:vq s.heap x dx C mA)(hg:W.plainGet K C name=true)(hh:W.hasDictIn K C=true)
  (ha:W.findIn K (.ref C) name=some none) (hv:mA name=some v) (Ec:W.handedIn v=true) (h:Q v {s with toks:=s.toks+1}) :
  wpAny (model prog w) A (getAttr (.ref x) name expr) Q E s:=by
 obtain⟨od,J,hl⟩:=I.look;exact W.get_value X J (W.plainGet_of hg).1 (W.findObj_own hh ha rfl (by rw[hl,hv])) Ec h
theorem B3(X:K.In s.heap)(I:vq s.heap x dx C mA)(hg:W.plainGet K C name=true)
  (hf:W.findIn K (.ref C) name=some (some (.ref f))) (ht:W.isFn K (.ref f)=true) (hv:mA name=none) (h:Q (.ref f,[.ref x]) s) :
  wpAny (model prog w) A (getMethod (.ref x) name pl) Q E s:=by
 obtain⟨od,J,hl⟩:=I.look;exact W.method_fn X J (W.plainGet_of hg).1 (W.plainGet_of hg).2 hf (beq_iff_eq.mp ht) (by show (W.lookIn name od).map (·.isSome)=some false;rw[hl,hv];rfl) h
theorem GW(X:K.In s.heap)(I:vq s.heap x dx C mA)
  (hs:W.findIn K (.ref C) "__setattr__" = some (some (.builtin "object.__setattr__"))) (hp:W.plainOver K C=true) (ht:W.takerIn K C name=some none) (hh:W.hasDictIn K C=true)
  (hw:PySem.Within mA ns) (hsz:ns.length<=sizeLine)
  (h:∀h',vq h' x dx C (fun y=>if y=name then some v else mA y)->Heap.SameBut dx s.heap h'->Q () {s with heap:=h',toks:=s.toks+2}) :
  wpAny (model prog w) A (setAttr (.ref x) name v) Q E s:=by
 obtain⟨od,J,hl⟩:=I.look;refine W.set_plain X J hs (W.osa_open (s:={s with toks:=s.toks+1}) (r:=none) X J hp ht fun b=>?_);obtain⟨cd,hc,OG⟩:=W.any_some hh;have hx:s.heap.get? x=some ⟨.ref C,some dx,.plain,#[]⟩:=I.obj;refine ZS (ZT (ZS (ZS (wpAny_loadPart hx (ZS (W.Looks.here (s:={s with toks:=s.toks+1}) (W.looks_clsIn X hc) ?_))))));rw[OG];refine ZT (a:=some dx) (ZS (ZT (ZS ?_)));refine wpAny_nsSet1 (s:={s with toks:=s.toks+1}) I.ns fun h' OR jY=>?_;obtain⟨oD,Ym,Yk,W7,WQ,WN⟩:=OR.count (PySem.Within.cons name v hw);refine ZS (wpAny_lookBehind W7 (by rw[WQ];exact pastItsLine_dict (Zw WN (by rw[Zt];omega))) ?_);exact ZT (h _ ⟨(jY.2 _ (Zo I.ne)).trans I.obj,OR,I.ne⟩ jY)
theorem CT(X:K.In s.heap)(hm:W.makesIn K C=true)
  (hi:W.findIn K (.ref C) "__init__" = some (some (.ref f))) (hf:W.typeIn K (.ref f)=some (.type "function"))
  (h:codeAny (model prog w) (A.under (.builtin "type.__call__" ⟨.ref C::vs,kw⟩)) (.call (.ref f) ⟨.ref (s.heap.objs.size+1)::vs,kw⟩) (W.InitBack (s.heap.objs.size+1) R) {s with heap:=(s.heap.push W.emptyDict).push (W.instObj C s.heap.objs.size)}) :
  codeAny (model prog w) A (.call (.ref C) ⟨vs,kw⟩) R s:=by
 obtain⟨hh,g,d,t,os⟩:=s;exact W.make_core (W.makes_of X hm) (W.looks_findIn X hi) (fun self=>W.bind_fn X self hf) (.inl rfl) h
end
def gF(f:Str)(v:V):List (Str×V)->List (Str×V)|[]=>[(f,v)]| (g,x)::r=>if g=f then(g,v)::r else(g,x)::gF f v r
theorem nh(f g:Str)(v:V):∀fs:List (Str×V),(gF f v fs).lookup g=if g=f then some v else fs.lookup g|[]=>by show List.lookup g [(f,v)]=_;by_cases h:g=f;have hb:(g == f)=true:=beq_iff_eq.mpr h;simp only[List.lookup,hb,if_pos h];have hb:(g == f)=false:=beq_eq_false_iff_ne.mpr h;simp only[List.lookup,hb,if_neg h]| (k,x)::r=>by have ih:=nh f g v r;rw[show gF f v ((k,x)::r)=(if k=f then(k,v)::r else(k,x)::gF f v r) from rfl];by_cases hk:k=f;rw[ZY hk];by_cases h:g=k;have hb:(g == k)=true:=beq_iff_eq.mpr h;simp only[List.lookup,hb,if_pos (h.trans hk)];have hb:(g == k)=false:=beq_eq_false_iff_ne.mpr h;simp only[List.lookup,hb,if_neg (fun e:g=f=>h (e.trans hk.symm))];rw[Za hk];by_cases h:g=k;have hb:(g == k)=true:=beq_iff_eq.mpr h;simp only[List.lookup,hb,if_neg (fun e:g=f=>hk (h.symm.trans e))];have hb:(g == k)=false:=beq_eq_false_iff_ne.mpr h;simp only[List.lookup,hb];exact ih
theorem l8(f:Str)(v:V):∀fs:List (Str×V),f∈(gF f v fs).map (·.1)/\∀g,g∈fs.map (·.1)->g∈(gF f v fs).map (·.1)|[]=>⟨by simp[gF],fun g h=>by simp at h⟩| (k,x)::r=>by obtain⟨i1,i2⟩:=l8 f v r;rw[show gF f v ((k,x)::r)=(if k=f then(k,v)::r else(k,x)::gF f v r) from rfl];by_cases hk:k=f;rw[ZY hk];subst hk;exact⟨ZH,fun g h=>by simpa using h⟩;rw[Za hk];refine⟨?_,fun g h=>?_⟩;rw[ZZ];exact Z1 _ i1;rw[ZZ] at h ⊢;rcases List.mem_cons.mp h with e|e;exact List.mem_cons.mpr (.inl e);exact Z1 _ (i2 g e)
theorem ng(f:Str)(v:V):∀fs:List (Str×V),(gF f v fs).length<=fs.length+1|[]=>by simp[gF]| (k,x)::r=>by have ih:=ng f v r;rw[show gF f v ((k,x)::r)=(if k=f then(k,v)::r else(k,x)::gF f v r) from rfl];by_cases hk:k=f;rw[ZY hk,Zt,Zt];omega;rw[Za hk,Zt,Zt];omega
theorem jW.some_of(r:jW (some v) o):∃u,o=some u/\RelV v u:=by cases o with|none=>exact(show False from r).elim|some u=>exact⟨u,rfl,r⟩
theorem jW.none_of(r:jW none o):o=none:=by cases o with|none=>rfl|some u=>exact(show False from r).elim
theorem zj(r:RelV v u):W.handedIn u=true:=by cases v with|bz=>cases (show u=Value.none from r);rfl|bl b=>cases (show u=Value.bool b from r);rfl|int i=>obtain⟨t,e⟩:=(show ∃t,u=Value.int i t from r);cases e;rfl|str x=>obtain⟨t,e⟩:=(show ∃t,u=Value.str x t from r);cases e;rfl|Ry b=>obtain⟨t,e⟩:=(show ∃t,u=Value.bytes b t from r);cases e;rfl|RH b=>obtain⟨t,e⟩:=(show ∃t,u=Value.float b t from r);cases e;rfl|ref a=>cases (show u=Value.ref a from r);rfl|ty n=>cases (show u=Value.type n from r);rfl
section
variable{P:Program}{w:World}{H H':Hp}{h h':Heap}{a C dx:Addr}{fs Wx:List (Str×V)}
theorem sr(b8:nA P w H h)(e:H a=some (.ins C dx fs)):∃mA,vq h a dx C mA/\(∀f,jW (fs.lookup f) (mA f))/\PySem.Within mA (fs.map (·.1))/\fs.length<=1000/\H dx=some (.own a):=by obtain⟨d,z,ne,ob,mA,n,r,q⟩:=(show dm P w H h a (.ins C dx fs) from b8 a _ e);exact⟨mA,⟨ob,n,ne⟩,r,q,z,d⟩
end
structure yU(K:W.Frag)(C:Addr):Prop where
 pg:W.plainGet K C Str.empty=true
 hd:W.hasDictIn K C=true
 po:W.plainOver K C=true
 sa:W.findIn K (.ref C) "__setattr__" = some (some (.builtin "object.__setattr__"))
theorem yU.get{K:W.Frag}{C:Addr}(c:yU K C)(f:Str):W.plainGet K C f=true:=c.pg
def ij(K:W.Frag)(C:Addr)(f:Str):Prop:=W.findIn K (.ref C) f=some none
theorem ij.QX{K:W.Frag}{C:Addr}{f:Str}(n:ij K C f):W.takerIn K C f=some none:=by unfold W.takerIn;rw[show W.findIn K (.ref C) f=some none from n];rfl
structure Meth(K:W.Frag)(C:Addr)(m:Str)(f:Addr):Prop where
 at_:W.findIn K (.ref C) m=some (some (.ref f))
 fn:W.isFn K (.ref f)=true
 kp:W.keepIn K (.ref f)=true
section
variable{X:Cx}{QF:Y6}{σ:St}{H:Hp}{s:Shared}{a C dx:Addr}{fs:List (Str×V)}{f:Str}{v:V}{A:Around}{E:Y5}
theorem vL(I:Inv X QF σ H s)(e:H a=some (.ins C dx fs))(c:yU X.K C)(n:ij X.K C f)(l:fs.lookup f=some v)(h:∀u s',Inv X QF σ H s'->RelV v u->Q u s'):wpAny (model X.prog X.w) A (getAttr (.ref a) f b) Q E s:=by obtain⟨mA,O,r,_,_,_⟩:=sr I.b8 e;obtain⟨u,hu,ru⟩:=jW.some_of (v:=v) (o:=mA f) (by rw[<-l];exact r f);exact get_map I.qe O (c.get f) c.hd n hu (zj ru) (h u _ (I.tok _) ru)
theorem Q0r(I:Inv X QF σ H s)(e:H a=some (.ins C dx fs))(c:yU X.K C)(k:Meth X.K C m g)(l:fs.lookup m=none)(h:Q (.ref g,[.ref a]) s):wpAny (model X.prog X.w) A (getMethod (.ref a) m pl) Q E s:=by obtain⟨mA,O,r,_,_,_⟩:=sr I.b8 e;have hn:mA m=none:=jW.none_of (by rw[<-l];exact r m);exact B3 I.qe O (c.get m) k.at_ k.fn hn h
theorem wJ(I:Inv X QF σ H s)(e:H a=some (.ins C dx fs))(c:yU X.K C)(n:ij X.K C f)(hl:fs.length<1000)(ry:RelV y u)(h:∀s',Inv X QF σ (upd H a (.ins C dx (gF f y fs))) s'->Q () s'):wpAny (model X.prog X.w) A (setAttr (.ref a) f u) Q E s:=by
 obtain⟨mA,O,r,wi,_,ho⟩:=sr I.b8 e;have hz:(fs.map (·.1)).length<=sizeLine:=by rw[Zf,Up];omega
 refine GW I.qe O c.sa c.po n.QX c.hd wi hz fun h' O' sb=>h _ ?_;have hd:∃o,h'.get? dx=some o:=let ⟨o,_,_,e',_⟩:=O'.ns;⟨o,e'⟩;refine I.write (x:=a) (e:=dx) (by rw[e];exact True.intro) (.inr ho) (fun b q hb z=>(sb.2 b hb).trans z) hd ?_;refine⟨by rw[aT O.ne];exact ho,?_,O.ne,O'.obj,_,O'.ns,fun g=>?_,fun g hg=>?_⟩;have:=ng f y fs;omega;show jW ((gF f y fs).lookup g) (if g=f then some u else mA g);rw[nh];by_cases q:g=f;rw[ZY q,ZY q];exact ry;rw[Za q,Za q];exact r g;by_cases q:g=f;rw[q];exact(l8 f y fs).1;refine(l8 f y fs).2 g (wi g fun z=>hg ?_);show (if g=f then some u else mA g)=none;rw[Za q];exact z
theorem Inv.made(I:Inv X QF σ H s):Inv X QF σ (upd (upd H s.heap.objs.size (.own (s.heap.objs.size+1))) (s.heap.objs.size+1) (.ins C s.heap.objs.size [])) {s with heap:=(s.heap.push W.emptyDict).push (W.instObj C s.heap.objs.size)}:=by
 have e1:(s.heap.push W.emptyDict).get? s.heap.objs.size=some W.emptyDict:=Y8 s.heap rfl;have e2:((s.heap.push W.emptyDict).push (W.instObj C s.heap.objs.size)).get? (s.heap.objs.size+1)=some (W.instObj C s.heap.objs.size):=by have:=Y8 (s.heap.push W.emptyDict) (o:=W.instObj C s.heap.objs.size) rfl;rwa [Sh] at this
 have e3:(s.heap.push W.emptyDict).Ns s.heap.objs.size (fun _=>none):=⟨W.emptyDict,#[],_,e1,rfl,(fun e he=>absurd he ZH),fun _=>rfl⟩;have I1:=I.laid (a:=s.heap.objs.size) (o:=.own (s.heap.objs.size+1)) (h':=s.heap.push W.emptyDict) (t':=s.toks) (fun b u q=>Y7 _ q) (ZU _) ⟨_,e1⟩;refine I1.laid (a:=s.heap.objs.size+1) (o:=.ins C s.heap.objs.size []) (t':=s.toks) (fun b u q=>Y7 _ q) (Nat.le_of_eq (Sh _ _)) ?_;have ne:s.heap.objs.size≠s.heap.objs.size+1:=Zd (Di _);refine⟨by rw[aT ne,aM],Zp _,ne,e2,fun _=>none,(Heap.Ns1.of_empty e3).at fun o q=>Y7 _ q,fun _=>True.intro,fun y hy=>absurd rfl hy⟩
theorem Es(hb:attributeBase e f env (eval e env)=eval e env)(h:wpAny (model prog w) A (eval e env) (fun o br=>wpAny (model prog w) A (getAttr o f true) Q E br) E s):wpAny (model prog w) A (eval (.Attribute e f pos) env) Q E s:=
 Attribute_any_ h (by rw[arm_eval_Attribute,hb])
end
def UD(K:W.Frag)(ta:TE)(f:Str):TE:=fun σ H Q=>ta σ H fun x H1=>∃a C dx fs v,x=.ref a/\H1 a=some (.ins C dx fs)/\yU K C/\ij K C f/\fs.lookup f=some v/\Q v H1
def Uv(K:W.Frag)(ta tv:TE)(f:Str):TS:=fun D σ H=>tv σ H fun y H1=>ta σ H1 fun x H2=>∃a C dx fs,x=.ref a/\H2 a=some (.ins C dx fs)/\yU K C/\ij K C f/\fs.length<1000/\D.nx σ (upd H2 a (.ins C dx (gF f y fs)))
section
variable{X:Cx}{o e value:Expr}{f:Str}{pos UR nO:Pos}{ta tv:TE}
theorem L0(he:PE X e ta)(hb:attributeBase e f X.env (eval e X.env)=eval e X.env):PE X (.Attribute e f pos) (UD X.K ta f):=by intro QF s σ H Q I h;refine Es hb (bK (he QF s σ H _ I h) fun u s1 zz=>?_);obtain⟨x,H1,I1,rx,a,C,dx,fs,v,ex,ea,c,n,l,q⟩:=zz;subst ex;obtain rfl:u=Value.ref a:=rx;exact vL I1 ea c n l fun u' s2 I2 ru=>⟨v,H1,I2,ru,q⟩
theorem Mf(ha:PE X o ta)(hv:PE X value tv)(hs:swapsWith value (some (.Attribute o f UR)) pos.line X.env=pure false):PS X (.Assign [.Attribute o f UR] value pos) (Uv X.K ta tv f):=by intro QF s σ H D I h;refine plainObj_wpAny_Assign_Attribute (bK (hv QF s σ H _ I h) fun u s1 ⟨y,H1,I1,ry,q⟩=>bK (ha QF s1 σ H1 _ I1 q) fun ov s2 zz=>?_) hs;obtain⟨x,H2,I2,rx,a,C,dx,fs,ex,ea,c,n,l,q2⟩:=zz;subst ex;obtain rfl:ov=Value.ref a:=rx;exact wJ I2 ea c n l ry fun s3 I3=>⟨σ,_,I3,q2⟩
end
structure cA(k:Nat)(A:Around):Prop where
 hd:A.handled=none
 dp:A.depth+3*k+5<recursionLimit
 un:A.units+16*k+200<cLine
theorem cA.mono(r:cA k A)(h:j<=k):cA j A:=⟨r.hd,by have:=r.dp;omega,by have:=r.un;omega⟩
theorem cA.deeper(r:cA (k+1) A)(env:Env):cA k (A.deeper env):=⟨r.hd,by have:=r.dp;show A.depth+1+3*k+5<_;omega,by have:=r.un;show A.units+3+16*k+200<_;omega⟩
theorem cA.in1(r:cA (k+1) A):cA k A.in1:=⟨r.hd,by have:=r.dp;show A.depth+3*k+5<_;omega,by have:=r.un;show A.units+1+16*k+200<_;omega⟩
theorem vZ{A:Around}{C:Addr}{us:MY}{kw:List (Str×Value)}:(A.under (.builtin "type.__call__" ⟨.ref C::us,kw⟩)).depth=A.depth+1:=by first|rfl|simp[Around.under,Code.weight,Code.isCreation,Code.isGuard,Code.isCaller,Code.frames,Code.isFrame,guardIds]
theorem Q0y{A:Around}{C:Addr}{us:MY}{kw:List (Str×Value)}:(A.under (.builtin "type.__call__" ⟨.ref C::us,kw⟩)).units=A.units+1:=by first|rfl|simp[Around.under,Code.cUnits,Code.frames,Code.isFrame]
theorem cA.make(r:cA (k+1) A)(C:Addr)(us:MY)(kw:List (Str×Value)):cA k (A.under (.builtin "type.__call__" ⟨.ref C::us,kw⟩)):=⟨r.hd,by have:=r.dp;rw[vZ];omega,by have:=r.un;rw[Q0y];omega⟩
theorem cA.depth(r:cA k A):A.depth<recursionLimit:=by have:=r.dp;omega
theorem cA.units(r:cA k A):A.units+64<cLine:=by have:=r.un;omega
def UI:TA:=fun _ H Q=>Q [] H
def Q0I(ta:TE)(tr:TA):TA:=fun σ H Q=>ta σ H fun x H1=>tr σ H1 fun xs H2=>Q (x::xs) H2
section
variable{X:Cx}{e:Expr}{es:Rz}{te:TE}{t:TA}{pos:Pos}
theorem fL:PA X [] UI:=fun _ _ _ _ H Q I h=>PH ⟨[],H,I,.nil,h⟩
theorem cu(ha:PE X e te)(hr:PA X es t)(hs:starEach (e::es) X.env=(false,eval e X.env)::starEach es X.env:=by rfl):PA X (e::es) (Q0I te t):=by intro pos QF s σ H Q I h;rw[hs];show wpAny _ _ (spliced ((false,eval e X.env)::backTo pos (starEach es X.env))) _ _ s;refine ve (bK (ha QF s σ H _ I h) fun u s1 ⟨x,H1,I1,r1,q1⟩=>?_);exact bK (hr pos QF s1 σ H1 _ I1 q1) fun us s2 ⟨xs,H2,I2,r2,q2⟩=>⟨x::xs,H2,I2,.cons r1 r2,q2⟩
def UM(t:TA):TE:=fun σ H Q=>t σ H fun xs H1=>xs.length<=sizeLine/\∀p,H1 p=none->Q (.ref p) (upd H1 p (.tup xs))
def UH(t:TA):TE:=fun σ H Q=>t σ H fun xs H1=>xs.length<=sizeLine/\∀p,H1 p=none->Q (.ref p) (upd H1 p (.lst xs))
theorem Dj{x1}(h:PA X es t):PE X (.Tuple es x1 pos) (UM t):=by intro QF s σ H Q I hq;refine wpAny_Tuple_spliced (bK (h pos QF s σ H _ I hq) fun us s1 ⟨xs,H1,I1,r,z,q⟩=>⟨by rw[<-r.length];exact z,?_⟩);have hf:H1 s1.heap.objs.size=none:=I1.b8.fresh (ZU _);refine⟨.ref s1.heap.objs.size,upd H1 s1.heap.objs.size (.tup xs),I1.laid (t':=s1.toks) (fun b u e=>Y7 _ e) (ZU _) ?_,rfl,q _ hf⟩;exact⟨z,us,r,⟨_,Y8 _ rfl,rfl,⟨_,rfl⟩,rfl⟩⟩
theorem L4(h:PA X es t):PE X (.List es pos) (UH t):=by intro QF s σ H Q I hq;refine wpAny_List_spliced (bK (h pos QF s σ H _ I hq) fun us s1 ⟨xs,H1,I1,r,z,q⟩=>⟨by rw[<-r.length];exact z,?_⟩);have hf:H1 s1.heap.objs.size=none:=I1.b8.fresh (ZU _);refine⟨.ref s1.heap.objs.size,upd H1 s1.heap.objs.size (.lst xs),I1.laid (t':=s1.toks) (fun b u e=>Y7 _ e) (ZU _) ?_,rfl,q _ hf⟩;exact⟨z,us,0,r,Y8 _ rfl⟩
end
abbrev Sp:=List V->Hp->VK->XK->Prop
abbrev vf:=List Env->Hp->Shared->XK->Value->Shared->Prop
structure pY(P:Program)(w:World)(K:W.Frag)(mg:Str->Pj)(base:Heap)(A:Around)(outer:List Env)(s:Shared)(H:Hp):Prop where
 frames:A.frames=some outer
 mod:Mod K mg base
 bs:∀b o,base.get? b=some o->s.heap.get? b=some o/\H b=none
 D7:base.objs.size<=s.heap.objs.size
 lV:s.heap.FunFrames base outer
 HV:∀b∈BV outer,H b=none
 b8:nA P w H s.heap
 bare:AllBare s.gens
def CE(outer:List Env)(P:Program)(w:World)(H:Hp)(s:Shared)(Q:VK)(u:Value)(s':Shared):Prop:=∃v H',s'.os=s.os/\AllBare s'.gens/\Un (BV outer) [] H H' s.heap s'.heap/\nA P w H' s'.heap/\RelV v u/\Q v H'
def Q0k(CX:vf)(outer:List Env)(P:Program)(w:World)(H:Hp)(s:Shared)(Q:VK)(E:XK)(r:Result)(s':Shared):Prop:=match r with|.ok (.ret u)=>CE outer P w H s Q u s'|.ok _=>False|.error e=>CX outer H s E e s'
structure dP(P:Program)(w:World)(K:W.Frag)(mg:Str->Pj)(base:Heap)(CX:vf)(k:Nat)(f:Addr)(fd:FuncData)(ps:R5)(sp:Sp):Prop where
 len:∀vs H Q E,sp vs H Q E->vs.length=ps.length
 run:∀(A:Around)(outer:List Env)(s:Shared)(H:Hp)(args:Args)(us:MY)(vs:NC)(Q:VK)(E:XK),cA k A->pY P w K mg base A outer s H->BindsTo s fd args (ps.zip us)->Vals vs us->sp vs H Q E->codeAny (model P w) A (.call (.ref f) args) (Q0k CX outer P w H s Q E) s
theorem dP.imp{P:Program}{w:World}{K:W.Frag}{mg:Str->Pj}{base:Heap}{CX:vf}{k:Nat}{f:Addr}{fd:FuncData}{ps:R5}{sp V4:Sp}(F:dP P w K mg base CX k f fd ps sp)(h:∀vs H Q E,V4 vs H Q E->sp vs H Q E):dP P w K mg base CX k f fd ps V4:=
 ⟨fun vs H Q E q=>F.len vs H Q E (h _ _ _ _ q),fun A outer s H args us vs Q E hr he hb hv hs=>F.run A outer s H args us vs Q E hr he hb hv (h _ _ _ _ hs)⟩
theorem pY.make{P:Program}{w:World}{K:W.Frag}{mg:Str->Pj}{base:Heap}{A:Around}{outer:List Env}{s:Shared}{H:Hp}(e:pY P w K mg base A outer s H)(C:Addr)(us:MY)(kw:List (Str×Value)) : pY P w K mg base (A.under (.builtin "type.__call__" ⟨.ref C::us,kw⟩)) outer s H:=⟨by first|exact e.frames|(simpa[Around.under,Code.envs,Code.isFrame,pushEnvs] using e.frames),e.mod,e.bs,e.D7,e.lV,e.HV,e.b8,e.bare⟩
theorem pY.in1{P:Program}{w:World}{K:W.Frag}{mg:Str->Pj}{base:Heap}{A:Around}{outer:List Env}{s:Shared}{H:Hp}(e:pY P w K mg base A outer s H) : pY P w K mg base A.in1 outer s H:=⟨e.frames,e.mod,e.bs,e.D7,e.lV,e.HV,e.b8,e.bare⟩
section
variable{X:Cx}{QF:Y6}{σ:St}{H:Hp}{s s':Shared}
theorem Inv.Og(I:Inv X QF σ H s):pY X.prog X.w X.K X.mg X.base X.A X.stack s H:=⟨I.ok.frames,I.ok.mod,I.bs,Zw I.ok.D7 I.sz,I.stack,I.yQ,I.b8,I.bare⟩
theorem Inv.after(I:Inv X QF σ H s)(h:CE X.stack X.prog X.w H s Q u s'):EP X QF σ Q u s':=by obtain⟨v,H',os,bare,un,b8,r,q⟩:=h;obtain⟨hh,g,d,t,XF⟩:=s';obtain rfl:XF=s.os:=os;exact⟨v,H',I.call (h':=hh) (g':=g) (d':=d) (t':=t) (ch:=[]) un b8 bare (fun b z=>absurd z ZH),r,q⟩
end
def Binds(K:W.Frag)(fd:FuncData)(ps:R5)(ds:MY):Prop:=∀(s:Shared)(us:MY),K.In s.heap->(us++ds).length=ps.length->BindsTo s fd ⟨us,[]⟩ (ps.zip (us++ds))
theorem Binds.all{K:W.Frag}{fd:FuncData}{ps:R5}(h:∀us:MY,us.length=ps.length->bindArgs fd ⟨us,[]⟩=pure (ps.zip us)):Binds K fd ps []:=fun s us _ hl=>by rw[Fj] at hl ⊢;exact .of_eq (h us hl)
section
variable{X:Cx}{CX:vf}{k:Nat}{f C:Addr}{fd:FuncData}{ps:R5}{sp:Sp}{Yi:NC}{ds:MY}{E:XK}{x m:Str}{p pos UP:Pos}{e o:Expr}{es:Rz}{ta:TE}{t:TA}
structure Mk(K:W.Frag)(C f:Addr):Prop where
 makes:W.makesIn K C=true
 init:W.findIn K (.ref C) "__init__" = some (some (.ref f))
 fn:W.isFn K (.ref f)=true
 kp:W.keepIn K (.ref C)=true
end
structure dQ(N P:R5)(sc:Scope):Prop where
 kind:sc.kind=.function
 co:sc.isCoroutine=false
 gen:sc.isGenerator=false
 nd:N.Nodup
 pre:N.take P.length=P
 par:∀x∈P,sc.names.lookup x=some .local\/sc.names.lookup x=some .cell
 KU:∀y∈sc.names,y.2≠.free
theorem qz{kindOf:Str->Option NameKind}{x:Str}:∀{binds:List (Str×Value)}{m:Str->Pj},(∀v,(x,v)∉binds)->bindL kindOf binds m x=m x
|[],_,_=>rfl| (n,v)::r,m,h=>by
 unfold bindL;rw[qz fun w hw=>h w (Z1 _ hw)];split;have:x≠n:=by rintro rfl;exact h v Z2
 simp[this];rfl
theorem qx{kindOf:Str->Option NameKind}{x:Str}:∀{binds:List (Str×Value)}{m:Str->Pj},(∀v,(x,v)∉binds)->bindC kindOf binds m x=m x
|[],_,_=>rfl| (n,v)::r,m,h=>by
 unfold bindC;rw[qx fun w hw=>h w (Z1 _ hw)];split;rfl;have:x≠n:=by rintro rfl;exact h v Z2
 simp[this]
theorem qy{kindOf:Str->Option NameKind}{x:Str}{v:Value}:∀{P:R5}{vs:MY}{i:Nat}{m:Str->Pj},P.Nodup->P[i]?=some x->vs[i]?=some v->kindOf x=some .local->bindL kindOf (P.zip vs) m x=some v
|[],_,_,_,_,h,_,_=>by simp at h|_::_,[],_,_,_,_,h,_=>by simp at h|p::P,w::vs,0,m,nd,h1,h2,hk=>by simp at h1 h2;subst h1;subst h2;show bindL kindOf ((p,w)::P.zip vs) m p=_;unfold bindL;rw[qz fun v hv=>(List.nodup_cons.mp nd).1 (Uw hv).1,ZY hk];simp|p::P,w::vs,i+1,m,nd,h1,h2,hk=>by show bindL kindOf ((p,w)::P.zip vs) m x=_;unfold bindL;exact qy (i:=i) (List.nodup_cons.mp nd).2 (by simpa using h1) (by simpa using h2) hk
theorem qw{kindOf:Str->Option NameKind}{x:Str}{v:Value}:∀{P:R5}{vs:MY}{i:Nat}{m:Str->Pj},P.Nodup->P[i]?=some x->vs[i]?=some v->kindOf x≠some .local->bindC kindOf (P.zip vs) m x=some v
|[],_,_,_,_,h,_,_=>by simp at h|_::_,[],_,_,_,_,h,_=>by simp at h|p::P,w::vs,0,m,nd,h1,h2,hk=>by simp at h1 h2;subst h1;subst h2;show bindC kindOf ((p,w)::P.zip vs) m p=_;unfold bindC;rw[qx fun v hv=>(List.nodup_cons.mp nd).1 (Uw hv).1,Za hk];simp|p::P,w::vs,i+1,m,nd,h1,h2,hk=>by show bindC kindOf ((p,w)::P.zip vs) m x=_;unfold bindC;exact qw (i:=i) (List.nodup_cons.mp nd).2 (by simpa using h1) (by simpa using h2) hk
def start(N:R5)(vs:NC):St:=vs.map some++List.replicate (N.length-vs.length) none
def p9(CX:vf)(P:Program)(w:World)(K:W.Frag)(mg:Str->Pj)(base:Heap)(N:R5)(VM:Str)(scope:Scope)(f:Addr)(cd:Value)(A:Around)(outer:List Env)(s:Shared)(H:Hp)(E:XK):Cx where
 prog:=P
 w:=w
 K:=K
 mg:=mg
 base:=base
 A:=A.deeper (envOfC VM scope s.heap.objs.size f cd)
 N:=N
 s₀:=s
 H₀:=H
 env:=envOfC VM scope s.heap.objs.size f cd
 outer:=outer
 stack:=envOfC VM scope s.heap.objs.size f cd::outer
 ex:=[]
 calm:=true
 fn:=fun _=>true
 pn:=[]
 xe:=fun e s'=>wpAny (model P w) (A.deeper (envOfC VM scope s.heap.objs.size f cd)) (leaving (envOfC VM scope s.heap.objs.size f cd) e) (fun _ Ee=>CX outer H s E e Ee) (fun e' Ee=>CX outer H s E e' Ee) s'
theorem tQ{sc:Scope}{n:Nat}{x:Str}(h:sc.names.lookup x=some .cell):∃c,(cellsFrom n sc.names []).lookup x=some c:=by have q:=W.cellsFrom_some sc.names n [] (.inl h);exact Option.isSome_iff_exists.mp q
theorem zu{CX:vf}{P:Program}{w:World}{K:W.Frag}{mg:Str->Pj}{base:Heap}{N ps:R5}{VM:Str}{scope:Scope}{f:Addr}{cd:Value}{A:Around}{outer:List Env}{s s1:Shared}{H:Hp}{E:XK}{us:MY}{vs:NC}
  (S:dQ N ps scope) (hd:A.handled=none) (e0:pY P w K mg base A outer s H) (hl:vs.length=ps.length) (r:Vals vs us)
  (x:InCallC s s.heap.objs.size (bindL (envOfC VM scope s.heap.objs.size f cd).kindOf (ps.zip us) fun _=>none) (cellsFrom (s.heap.objs.size+1) scope.names []) (bindC (envOfC VM scope s.heap.objs.size f cd).kindOf (ps.zip us) fun _=>none) s1) :
  Inv (p9 CX P w K mg base N VM scope f cd A outer s H E) [] (start N vs) H s1:=by
 have jc:ps.length<=N.length:=by have:=congrArg List.length S.pre;rw[Mv] at this;omega
 obtain⟨h1,tk,rfl,hk⟩:=x.done;have noA:∀b:Addr,b∉(p9 CX P w K mg base N VM scope f cd A outer s H E).ex:=fun b z=>absurd (show b∈([]:VL) from z) ZH;refine⟨⟨e0.mod,S.kind,rfl,rfl,ZU _,fun y z c h1 h2=>?_,fun y hy=>?_,fun y c _ h=>?_,fun _=>hd,Around.frames_deeper e0.frames,.inr ⟨rfl,rfl⟩,fun b z=>absurd z (noA b),e0.bs,e0.D7,fun b _ _=>noA b,fun b z=>absurd z (noA b),e0.lV,e0.HV⟩,rfl,e0.bare,Un.kept hk,⟨_,x.toInCall.ns,fun i y v h1 h2 h3=>?_⟩,fun y c h=>⟨_,x.cell y c h⟩,e0.b8.fresh (ZU _),fun y c h=>?_,fun p hp=>absurd (show p∈([]:Y6) from hp) ZH,e0.b8.kept hk,?_⟩;exact name_of_addr x.apart (Zn h1) (Zn h2);have hy:scope.names.lookup y=some .cell\/scope.names.lookup y=some .free:=hy;rcases hy with hy|hy;exact tQ hy;exact absurd rfl (S.KU _ (Zn hy));exact Nat.le_of_lt (x.above y c (Zn h));have hi:i<vs.length:=by unfold start at h2;by_cases hi:i<vs.length;exact hi;rw[Zc (by simpa using hi)] at h2;rw[zB] at h2;split at h2<;>cases h2
 have ha:vs[i]?=some v:=by unfold start at h2;rw[Z7 (by simpa using hi),Zs] at h2;cases e:vs[i]? with|none=>rw[e] at h2;cases h2|some a=>rw[e] at h2;cases h2;rfl
 obtain⟨u,hu,rv⟩:=r.get ha;have hp:ps[i]?=some y:=by rw[<-S.pre,Zu ZJ];exact h1
 have VT:ps.Nodup:=by rw[<-S.pre];exact S.nd.sublist (List.take_sublist _ _)
 refine⟨u,rv,?_⟩;rcases S.par y (Z3 hp) with k|k;exact .inl ⟨k,qy VT hp hu k⟩;obtain⟨c,e⟩:=tQ (n:=s.heap.objs.size+1) k;refine .inr ⟨.inl k,c,e,?_⟩;have q:=x.cell y c e;rw[qw VT hp hu (by show scope.names.lookup y≠_;rw[k];decide)] at q;exact q;exact e0.b8.fresh (Nat.le_of_lt (x.above y c (Zn h)));unfold start;show _=N.length;rw[Zq,Zf,List.length_replicate];omega
theorem Oi{CX:vf}{P:Program}{w:World}{K:W.Frag}{mg:Str->Pj}{base:Heap}{k:Nat}{f:Addr}{name VM:Str}{params:Arguments}{body:List Stmt}{scope:Scope}{dV kV doc pm ir ct oc:Value}{an od:Ng}
  {FT:Array (Option Value)} {N ps:R5} {sp:Sp} (lk:K.lookup f=some ⟨oc,od,.func (W.fnOf name VM params body scope dV kV doc pm an ir ct),FT⟩) (j9:W.codeIn K ir VM=true) (S:dQ N ps scope)
  (len:∀vs H Q E,sp vs H Q E->vs.length=ps.length)
  (jn:∀(A:Around)(outer:List Env)(s:Shared)(H:Hp)(vs:NC)(Q:VK)(E:XK),cA k (A.deeper (envOfC VM scope s.heap.objs.size f ir))->sp vs H Q E->∃t,vg (p9 CX P w K mg base N VM scope f ir A outer s H E) body t/\t {nx:=fun _ H'=>Q .bz H',rt:=Q} (start N vs) H) :
  dP P w K mg base CX (k+1) f (W.fnOf name VM params body scope dV kV doc pm an ir ct) ps sp:=by
 refine⟨len,fun A outer s H args us vs Q E hr e0 hb r Ii=>?_⟩;have hl:=len _ _ _ _ Ii;have KX:K.In s.heap:=e0.mod.Ko.keeps fun b o e=>(e0.bs b o e).1;have lim:s.heap.NoLimit:=e0.mod.nolimit.keeps fun b o e=>(e0.bs b o e).1;have ON:∀y∈ps.zip us,scope.names.lookup y.1=some .local\/(scope.names.lookup y.1=some .cell/\((cellsFrom (s.heap.objs.size+1) scope.names []).lookup y.1).isSome=true):=fun ⟨n,v⟩ hy=>by
  rcases S.par n (Uw hy).1 with q|q
  ·exact .inl q
  ·exact .inr ⟨q,W.cellsFrom_some _ _ _ (.inl q)⟩
 refine codeAny_call_function hr.depth (KX _ _ lk) rfl S.co S.gen rfl (W.codeRec_of KX j9) (hb _ _ _ _ ?_);refine wpAny_newFunctionEnv_cells S.kind ON fun env he s1 x=>?_;subst he;refine⟨lim.keeps x.toInCall.keep,codeAny_func ?_⟩;obtain⟨t,ht,hq⟩:=jn A outer s H vs Q E (hr.deeper _) Ii;have I:Inv (p9 CX P w K mg base N VM scope f ir A outer s H E) [] (start N vs) H s1:=zu S hr.hd e0 hl r x;refine R9 (ht [] s1 (start N vs) H _ I hq) (fun fl s' hs=>?_) fun e s' hs=>hs;have fin:∀{bx:St}{H':Hp}{v:V}{u:Value},Inv (p9 CX P w K mg base N VM scope f ir A outer s H E) [] bx H' s'->RelV v u->Q v H'->CE outer P w H s Q u s':=fun {bx H' v u} J rv q=>⟨v,H',J.os,J.bare,J.base,J.b8,rv,q⟩;cases fl with|ret u=>obtain⟨v,bx,H',J,rv,q⟩:=hs;exact fin J rv q|next=>obtain⟨bx,H',J,q⟩:=hs;exact fin (v:=V.bz) (u:=Value.none) J rfl q|brk=>obtain⟨_,_,_,q⟩:=hs;exact False.elim q|cont=>obtain⟨_,_,_,q⟩:=hs;exact False.elim q
section
variable{X:Cx}{x:Str}{p pos:Pos}{e:Expr}{es:Rz}{t:TA}{id T:String}{r:NC->Hp->VK->Prop}
def QR(r:NC->Hp->VK->Prop)(t:TA):TE:=fun σ H Q=>t σ H fun vs H1=>r vs H1 Q
theorem ju(hc:dO X (.builtin id) r)(hg:Gl X x)(hm:X.mg x=none)(hv:bootBuiltins x=some (.builtin id))(ha:PA X (e::es) t)(hn:x≠"__name__" := by decide)(i9:Y3 x:=by decide)(he:starEach (e::es) X.env=(false,eval e X.env)::starEach es X.env:=by rfl) (jc:(backTo pos (starEach es X.env)).any (·.1)=false:=by rfl):PE X (.Call (.Name x p) (e::es) [] pos) (QR r t):=by intro QF s σ H Q I h;refine Pz (eg I hg hm hv ?_ hn i9);exact PyProof.Rows.callWith_builtin1 (bK (ha pos QF s σ H _ I h) fun us s1 ⟨vs,H1,I1,r1,q1⟩=>hc QF s1 σ H1 vs us Q I1 r1 q1) he jc
theorem jP(hc:dO X (.type T) r)(hg:Gl X x)(hm:X.mg x=none)(hv:bootBuiltins x=some (.type T))(ha:PA X (e::es) t)(hn:x≠"__name__" := by decide)(i9:Y3 x:=by decide)(he:starEach (e::es) X.env=(false,eval e X.env)::starEach es X.env:=by rfl) (jc:(backTo pos (starEach es X.env)).any (·.1)=false:=by rfl):PE X (.Call (.Name x p) (e::es) [] pos) (QR r t):=by intro QF s σ H Q I h;refine Pz (eg I hg hm hv ?_ hn i9);exact Zh (bK (ha pos QF s σ H _ I h) fun us s1 ⟨vs,H1,I1,r1,q1⟩=>hc QF s1 σ H1 vs us Q I1 r1 q1) he jc
end
end L2
namespace HT
open PySem PyProof.Rows
section
variable{prog:Program}{w:World}{A:Around}{E:Y5}{s:Shared}
theorem Ez(ht:IsTup s.heap t vs.toArray)(hb:IsTup s.heap b ws.toArray)(hv:vs≠[])
  (h1:ws=[]->Q (.ref t) s) (h2:ws≠[]->Q (.ref s.heap.objs.size) {s with heap:=s.heap.push {cls:=.type "tuple",data:=.seq (vs++ws).toArray}})
  (hsz:vs.length+ws.length<=sizeLine):wpAny (model prog w) A (binaryOp .Add (.ref t) (.ref b)) Q E s:=by
 obtain⟨⟨cls,dd,data,sl⟩,ho,hc,n,hd⟩:=id ht;obtain⟨⟨SW,RC,data2,NA⟩,JW,yj,n2,hd2⟩:=id hb;simp only at hc hd yj hd2;subst hc hd yj hd2;have e:vs.toArray++ws.toArray=(vs++ws).toArray:=ZH;by_cases hw:ws=[];exact concat_meets ⟨_,ho,rfl⟩ ⟨_,JW,rfl⟩ noFill_tuple_add seq_tuple_add LX Ll (wZ _ _) (tuple_addW1 t b vs.toArray ws.toArray n n2 dd RC sl NA (by simpa using hv) (by simp[hw])) ⟨ho,JW,h1 hw⟩;refine concat_meets ⟨_,ho,rfl⟩ ⟨_,JW,rfl⟩ noFill_tuple_add seq_tuple_add LX Ll (wZ _ _) (tuple_addW2 t b vs.toArray ws.toArray n n2 dd RC sl NA (by simpa using hv) (by simpa using hw) (by rw[ZX,ZX];exact hsz)) ⟨ho,JW,?_⟩;rw[e];exact h2 hw
def cK(n d:Nat):XB->Nat|none=>d|some v=>if v<0 then(v+(n:Int)).toNat else min v.toNat n
theorem jx(n d:Nat):cK n d none=d:=rfl
theorem lA(n d k:Nat):cK n d (some (k:Int))=min k n:=by show (if (k:Int)<0 then((k:Int)+(n:Int)).toNat else min (k:Int).toNat n)=min k n;rw[Za ZJ,ZA]
theorem Mz(n d:Nat)(hd:d<=n)(o:XB):cK n d o<=n:=by cases o with|none=>exact hd|some v=>show (if v<0 then(v+(n:Int)).toNat else min v.toNat n)<=n;by_cases hv:v<0;rw[ZY hv];omega;rw[Za hv];exact Nat.min_le_right _ _
theorem xA(v:Int)(n d:Nat):(if v<0 then max (v+(n:Int)) 0 else min v (n:Int))=((cK n d (some v):Nat):Int):=by show (if v<0 then max (v+(n:Int)) 0 else min v (n:Int))=(((if v<0 then(v+(n:Int)).toNat else min v.toNat n):Nat):Int);by_cases hv:v<0;simp only[if_pos hv];omega;simp only[if_neg hv];omega
theorem vy(lo hi:XB)(n:Nat):Builtin.Slice.sliceAdjust lo hi 1 (n:Int)=(((cK n 0 lo:Nat):Int),((cK n n hi:Nat):Int)):=by
 have h1:¬((1:Int)<0):=ZJ;unfold Builtin.Slice.sliceAdjust;simp only[h1,if_false];refine Prod.ext ?_ ?_;cases lo with|none=>rfl|some v=>exact xA v n 0
 cases hi with|none=>rfl|some v=>exact xA v n n
theorem wA(i j:Nat):Builtin.Slice.slicePlaces (i:Int) (j:Int) 1=j-i:=by unfold Builtin.Slice.slicePlaces;have h1:(1:Int) > 0:=ZJ;simp only[h1,if_true,Int.ediv_one];split<;>omega
theorem pJ(p:IsPart v o)(h:Q o s):wpAny (model prog w) A (Builtin.Slice.slicePartIndex v) Q E s:=by cases p with|none=>exact slicePart_none h|int i t=>exact slicePart_int h
theorem hW{sl:Addr}{vl vu:Value}{lo hi:XB}{n:Nat}{Q:Int×Int×Nat->Shared->Prop}(hs:s.heap.IsSliceOf sl vl vu .none)(pl:IsPart vl lo)(pu:IsPart vu hi)(h:Q (((cK n 0 lo:Nat):Int),1,cK n n hi-cK n 0 lo) s):wpAny (model prog w) A (Builtin.Slice.sliceApplied (.ref sl) (pure (n:Int))) Q E s:=by obtain⟨os,JZ,JT,oQ⟩:=id hs;unfold Builtin.Slice.sliceApplied Builtin.Slice.sliceFields;refine ZS (ZS (Zm JZ oQ (x:=vl) rfl (ZS (Zm JZ oQ (x:=vu) rfl (ZS (Zm JZ oQ (x:=.none) rfl (ZT ?_)))))));refine ZS (slicePart_none ?_);show wpAny _ _ (if ((1:Int) == 0)=true then _ else _) _ _ s;rw[Za (by decide)];refine ZS (pJ pl (ZS (pJ pu (ZS (ZT ?_)))));show wpAny _ _ (match Builtin.Slice.sliceAdjust lo hi 1 (n:Int) with|(lo,hi)=>pure (lo,(1:Int),Builtin.Slice.slicePlaces lo hi 1)) _ _ s;rw[vy lo hi n];show wpAny _ _ (pure (((cK n 0 lo:Nat):Int),(1:Int),Builtin.Slice.slicePlaces ((cK n 0 lo:Nat):Int) ((cK n n hi:Nat):Int) 1)) _ _ s;rw[wA];exact ZT h
theorem Dl(xs:Array Value)(i k:Nat):((List.range k).filterMap fun(m:Nat)=>xs[((i:Int)+(m:Int)*1).toNat]?).toArray=((xs.toList.drop i).take k).toArray:=by
 have e:(fun(m:Nat)=>xs[((i:Int)+(m:Int)*1).toNat]?)=fun m=>xs[i+m]?:=by funext m;have:((i:Int)+(m:Int)*1).toNat=i+m:=ZJ;rw[this]
 rw[e];have:=pick_run xs i k;rw[List.filterMap_map] at this;have e2:((fun x=>xs[x]?)∘fun x=>i+x)=fun m=>xs[i+m]?:=rfl;rw[e2] at this;rw[this]
theorem kW{t sl:Addr}{items:Array Value}{vl vu:Value}{lo hi:XB}{Q:Y5}(ht:IsTup s.heap t items)(hs:s.heap.IsSliceOf sl vl vu .none)(pl:IsPart vl lo)(pu:IsPart vu hi)
  (hw:¬(cK items.size 0 lo=0/\cK items.size items.size hi=items.size))
  (h:Q (.ref s.heap.objs.size) {s with heap:=s.heap.push {cls:=.type "tuple",data:=.seq ((items.toList.drop (cK items.size 0 lo)).take (cK items.size items.size hi-cK items.size 0 lo)).toArray}})
  (hsz:items.size<=sizeLine):wpAny (model prog w) A (getItem (.ref t) (.ref sl)) Q E s:=by
 have ym:sizeOk (.seq ((items.toList.drop (cK items.size 0 lo)).take (cK items.size items.size hi-cK items.size 0 lo)).toArray):=by show ((items.toList.drop (cK items.size 0 lo)).take (cK items.size items.size hi-cK items.size 0 lo)).toArray.size<=sizeLine;rw[ZX,Mv,List.length_drop,Array.length_toList];omega
 have hj:cK items.size items.size hi<=items.size:=Mz _ _ (ZU _) hi;obtain⟨os,JZ,JT,oQ⟩:=id hs;have Tg:s.TypeIs (.ref sl) "slice" := ⟨os,JZ,JT⟩;unfold getItem;try with_reducible refine S5 ?_
 first|refine ZS (ZT ?_)|skip
 refine ZS (wpAny_sequenceKey ht.typeIs (by decide) ?_);refine ZS (Zy (name:=Str.ofString "__getitem__") ht.typeIs MU (Zz MU ht.typeIs entry_tuple_getitem ?_ (args_tuple_getitem _ _)));show wpAny _ _ (Builtin.Tuple.tupleItemsOf (.ref t) >>= _) _ _ s;refine ZS (tupleItemsOf_ ht ?_);refine ZS (Lb Tg ?_);rw[ZY (by decide)];refine ZS (hW hs pl pu ?_);have Ih:¬((((cK items.size 0 lo:Nat):Int) == 0&&(1:Int) == 1&&(cK items.size items.size hi-cK items.size 0 lo) == items.size)=true):=by intro q;rw[Zb,Zb] at q;have q1:((cK items.size 0 lo:Nat):Int)=0:=eq_of_beq q.1.1;have q2:cK items.size items.size hi-cK items.size 0 lo=items.size:=eq_of_beq q.2;exact hw ⟨ZJ,ZJ⟩
 show wpAny _ _ (if (((cK items.size 0 lo:Nat):Int) == 0&&(1:Int) == 1&&(cK items.size items.size hi-cK items.size 0 lo) == items.size)=true then _ else _) _ _ s;rw[Za Ih,Dl];first|exact ZS (m:=Builtin.Tuple.tupleExact _) (Zk (ZT ⟨_,rfl,ZT h⟩) ym)|exact ZS (m:=Builtin.Tuple.tupleExact _) (Zk (ZS (ZT (ZT ⟨_,rfl,ZT h⟩))) ym)|exact ZS (ZS (m:=Builtin.Tuple.tupleExact _) (Zk (ZT (ZT ⟨_,rfl,ZT h⟩)) ym))|exact ZS (ZS (m:=Builtin.Tuple.tupleExact _) (Zk (ZT ⟨_,rfl,ZT h⟩) ym))
end
end HT
namespace L2
open PySem PySem.Spec PyProof.Rows
abbrev TO:=St->Hp->(Option Int->Hp->Prop)->Prop
def PO(X:Cx)(e:Option Expr)(t:TO):Prop:=∀(QF:Y6)(s:Shared)(σ:St)(H:Hp)(Q:XB->Hp->Prop),Inv X QF σ H s->t σ H Q->wpAny (model X.prog X.w) X.A (evalPart e X.env) (fun u s'=>∃o H',Inv X QF σ H' s'/\IsPart u o/\Q o H') X.xe s
def G5:TO:=fun _ H Q=>Q none H
def QV(t:TE):TO:=fun σ H Q=>t σ H fun x H1=>∃i,x=.int i/\Q (some i) H1
theorem intsAre_of:∀{us:MY},Vals (ns.map V.int) us->IntsAre us ns:=by induction ns with|nil=>intro us r;rw[List.map_nil] at r;cases r;exact .nil|cons n ns ih=>intro us r;rw[ZZ] at r;cases r with|cons r1 r2=>obtain⟨t,e⟩:=r1;subst e;exact .cons n t (ih r2)
section
variable{X:Cx}{e:Expr}{te:TE}{lo hi:Option Expr}{tl th:TO}{pos p2:Pos}
theorem Gp:PO X none G5:=by intro QF s σ H Q I h;rw[evalPart_none];exact ZT ⟨none,H,I,.none,h⟩
theorem Gq(h:PE X e te):PO X (some e) (QV te):=by intro QF s σ H Q I hw;rw[evalPart_some];refine bK (h QF s σ H _ I hw) fun u s1 ⟨x,H1,I1,r1,q1⟩=>?_;obtain⟨i,rfl,q⟩:=q1;obtain⟨t,rfl⟩:=r1;exact⟨some i,H1,I1,.int i t,q⟩
def tG(X:Cx)(r:V->XB->XB->Hp->VK->Prop):Prop:=∀(QF:Y6)(s:Shared)(σ:St)(H:Hp)(x:V)(v vl vu:Value)(lo hi:XB)(sl:Addr)(Q:VK),Inv X QF σ H s->RelV x v->s.heap.IsSliceOf sl vl vu .none->IsPart vl lo->IsPart vu hi->r x lo hi H Q->∃T id,typeLookup (.type T) "__getitem__" = pure (some (.builtin id))/\s.TypeIs v T/\wpAny (model X.prog X.w) X.A (getItem v (.ref sl)) (EP X QF σ Q) X.xe s
theorem tG.or(h:tG X r)(h':tG X r'):tG X (fun x lo hi H Q=>r x lo hi H Q\/r' x lo hi H Q):=by intro QF s σ H x v vl vu lo hi sl Q I rx hs pl pu q;rcases q with q|q;exact h QF s σ H x v vl vu lo hi sl Q I rx hs pl pu q;exact h' QF s σ H x v vl vu lo hi sl Q I rx hs pl pu q
def XW(r:V->XB->XB->Hp->VK->Prop)(te:TE)(tl th:TO):TE:=fun σ H Q=>te σ H fun x H1=>tl σ H1 fun l H2=>th σ H2 fun u H3=>r x l u H3 Q
theorem Q0f(hr:tG X r)(he:PE X e te)(hl:PO X lo tl)(hu:PO X hi th):PE X (.Subscript e (.Slice lo hi none p2) pos) (XW r te tl th):=by intro QF s σ H Q I h;refine Subscript_ (bK (he QF s σ H _ I h) fun v s1 ⟨x,H1,I1,r1,q1⟩=>?_);refine wpAny_Slice (bK (hl QF s1 σ H1 _ I1 q1) fun vl s2 ⟨l,H2,I2,pl,q2⟩=>bK (hu QF s2 σ H2 _ I2 q2) fun vu s3 ⟨u,H3,I3,pu,q3⟩=>?_);rw[evalPart_none];refine ZT ?_;have I4:Inv X QF σ H3 {s3 with heap:=s3.heap.push {cls:=.type "slice",data:=.fields #[vl,vu,.none]}}:=I3.kept (t':=s3.toks) fun b ob q=>Y7 _ q;obtain⟨T,id,hT,ht,hg⟩:=hr QF {s3 with heap:=s3.heap.push {cls:=.type "slice",data:=.fields #[vl,vu,.none]}} σ H3 x v vl vu l u s3.heap.objs.size Q I4 r1 (Heap.IsSliceOf.new ..) pl pu q3;show wpAny (model X.prog X.w) X.A (subscriptTail e (.Slice lo hi none p2) v (.ref s3.heap.objs.size)) (EP X QF σ Q) X.xe {s3 with heap:=s3.heap.push {cls:=.type "slice",data:=.fields #[vl,vu,.none]}};exact tail_any (ops:=[.ref s3.heap.objs.size,v]) ht hT hg (by with_unfolding_all rfl)
def kQ(xs:NC)(lo hi:XB):NC:=(xs.drop (HT.cK xs.length 0 lo)).take (HT.cK xs.length xs.length hi-HT.cK xs.length 0 lo)
theorem jk(xs:NC)(lo hi:XB):(kQ xs lo hi).length<=xs.length:=by unfold kQ;rw[Mv,List.length_drop];omega
def Q12(K:W.Frag):V->XB->XB->Hp->VK->Prop:=fun x lo hi H Q=>∃a xs,x=.ref a/\dj K H a xs/\¬(HT.cK xs.length 0 lo=0/\HT.cK xs.length xs.length hi=xs.length)/\∀p,H p=none->Q (.ref p) (upd H p (.tup (kQ xs lo hi)))
theorem Q14:tG X (Q12 X.K):=by
 intro QF s σ H x v vl vu lo hi sl Q I rx hs pl pu h;obtain⟨a,xs,rfl,hx,hw,q⟩:=h;cases rx;obtain⟨aG,r,ht,hz⟩:=I.tuple hx;have Nv:aG.toArray.size=xs.length:=by rw[ZX];exact r.length.symm
 refine⟨"tuple",_,PyProof.Rows.slot_tuple_getitem.lookup,ht.typeIs,?_⟩;refine HT.kW ht hs pl pu (by rw[Nv];exact hw) ?_ (by rw[Nv];exact hz);rw[Nv];refine⟨.ref s.heap.objs.size,_,I.laid (t':=s.toks) (o:=.tup (kQ xs lo hi)) (fun b ob q=>Y7 _ q) (ZU _) ?_,rfl,q _ (I.b8.fresh (ZU _))⟩;exact⟨Zw (jk xs lo hi) hz,_,(r.drop (HT.cK xs.length 0 lo)).take (HT.cK xs.length xs.length hi-HT.cK xs.length 0 lo),kK.new _ _⟩
def Qw(K:W.Frag):R2:=fun x y H Q=>∃a b xs ys,x=.ref a/\y=.ref b/\dj K H a xs/\dj K H b ys/\xs≠[]/\xs.length+ys.length<=sizeLine/\(ys=[]->Q (.ref a) H)/\(ys≠[]->∀p,H p=none->Q (.ref p) (upd H p (.tup (xs++ys))))
theorem Vals.lq(r:Vals xs us):us=[]<->xs=[]:=by cases r with|nil=>simp|cons _ _=>simp
theorem FP:fZ X (binaryOp .Add) (Qw X.K):=by intro QF s σ H x y v u Q I rx ry h;obtain⟨a,b,xs,ys,rfl,rfl,ha,hb,hx,hz,q1,q2⟩:=h;cases rx;cases ry;obtain⟨aG,r1,p1,_⟩:=I.tuple ha;obtain⟨jb,r2,p2,_⟩:=I.tuple hb;refine HT.Ez p1 p2 (fun z=>hx (r1.lq.mp z)) (fun z=>⟨.ref a,H,I,rfl,q1 (r2.lq.mp z)⟩) (fun z=>?_) (by rw[<-r1.length,<-r2.length];exact hz);refine⟨.ref s.heap.objs.size,_,I.laid (t':=s.toks) (o:=.tup (xs++ys)) (fun b ob q=>Y7 _ q) (ZU _) ?_,rfl,q2 (fun w=>z (r2.lq.mpr w)) _ (I.b8.fresh (ZU _))⟩;exact⟨by rw[Zq];exact hz,_,r1.append r2,kK.new _ _⟩
end
def Kf(n:Nat)(i:Int):Option Nat:=if 0<=i then(if i<n then some i.toNat else none) else if -(n:Int)<=i then some (i+n).toNat else none
def AA{α:Type}(xs:List α)(i:Int):Option α:=(Kf xs.length i).bind fun j=>xs[j]?
theorem yr(h:Kf n i=some j):seqIndex? i n=some j/\j<n/\-(n:Int)<=i/\i<n:=by unfold Kf at h;by_cases h0:0<=i;rw[ZY h0] at h;by_cases h1:i<n;rw[ZY h1] at h;have e:i.toNat=j:=ZV h;exact⟨by rw[seqIndex_of h0 h1,e],ZJ,ZJ,h1⟩;rw[Za h1] at h;cases h;rw[Za h0] at h;by_cases h1:-(n:Int)<=i;rw[ZY h1] at h;have e:(i+n).toNat=j:=ZV h;exact⟨by rw[seqIndex_neg ZJ h1,e],ZJ,h1,ZJ⟩;rw[Za h1] at h;cases h
theorem rL{α:Type}{xs:List α}{v:α}(h:AA xs i=some v):∃j,seqIndex? i xs.length=some j/\xs[j]?=some v/\j<xs.length/\-(xs.length:Int)<=i/\i<xs.length:=by unfold AA at h;cases e:Kf xs.length i with|none=>rw[e] at h;cases h|some j=>rw[e] at h;obtain⟨h1,h2,h3,h4⟩:=yr e;exact⟨j,h1,h,h2,h3,h4⟩
def rE(b:Expr):Prop:=∀o i,subscripted b false o i=operate [o,i] (getItem o i)
def Ek(X:Cx)(r:R2):Prop:=∀(value slice:Expr)(QF:Y6)(s:Shared)(σ:St)(H:Hp)(x y:V)(v u:Value)(Q:VK),Inv X QF σ H s->RelV x v->RelV y u->r x y H Q->subscripted slice false v u=operate [v,u] (getItem v u)->wpAny (model X.prog X.w) X.A (subscriptTail value slice v u) (EP X QF σ Q) X.xe s
def SK(X:Cx)(id:String)(r:V->NC->Hp->VK->Prop):Prop:=∀(QF:Y6)(s:Shared)(σ:St)(H:Hp)(x:V)(xs:NC)(v:Value)(us:MY)(Q:VK),Inv X QF σ H s->RelV x v->Vals xs us->r x xs H Q->wpAny (model X.prog X.w) X.A (call (.builtin id) (v::us)) (EP X QF σ Q) X.xe s
section
variable{X:Cx}{a b:Expr}{ta tb:TE}{pos:Pos}
theorem Ek.or(h:Ek X r)(h':Ek X r'):Ek X (fun x y H Q=>r x y H Q\/r' x y H Q):=by intro value slice QF s σ H x y v u Q I rx ry q hs;rcases q with q|q;exact h value slice QF s σ H x y v u Q I rx ry q hs;exact h' value slice QF s σ H x y v u Q I rx ry q hs
theorem IA(hr:Ek X r)(ha:PE X a ta)(hb:PE X b tb)(hs:rE b):PE X (.Subscript a b pos) (NB r ta tb):=by intro QF s σ H Q I h;exact Subscript_ (Jm ha hb I h fun v u s2 x y H2 I2 rx ry q=>hr a b QF s2 σ H2 x y v u Q I2 rx ry q (hs _ _))
def Qy(K:W.Frag):R2:=fun x y H Q=>∃p xs i v,x=.ref p/\y=.int i/\df K H p xs/\AA xs i=some v/\Q v H
def QA(K:W.Frag):R2:=fun x y H Q=>∃p xs i v,x=.ref p/\y=.int i/\dj K H p xs/\AA xs i=some v/\Q v H
def Qz:R2:=fun x y H Q=>∃z i c,x=.str z/\y=.int i/\z.length<=sizeLine/\AA z.cps.toList i=some c/\Q (.str ⟨#[c]⟩) H
theorem E6:Ek X (Qy X.K):=by
 intro value slice QF s σ H x y v u Q I rx ry h hs;obtain⟨p,xs,i,z,rfl,rfl,hq,he,q⟩:=h;cases rx;obtain⟨t,rfl⟩:=ry;obtain⟨aG,r,pl,hz⟩:=I.list hq;obtain⟨j,h1,h2,h3,h4,h5⟩:=rL he;obtain⟨w,ew,QE⟩:=r.get h2;have hl:=r.length;have hn:=oW;have fin:EP X QF σ Q w s:=⟨z,H,I,QE,q⟩;by_cases h0:0<=i;have hj:i.toNat=j:=by rw[seqIndex_of h0 h5] at h1;exact ZV h1
 exact item_listR pl.isList h0 ZJ (by rw[hj];simpa using ew) fin hs;have hj:(i+(aG.toArray.size:Int)).toNat=j:=by rw[seqIndex_neg ZJ h4] at h1;rw[ZX,<-hl];exact ZV h1
 exact subscriptTail_builtinR (x:=w) pl.isList.typeIs slot_list_getitem.lookup (wpAny_getItem_list_neg (Q:=fun r s'=>r=w/\EP X QF σ Q r s') pl.isList ZJ (by rw[ZX]<;>omega) ZJ (by rw[hj];simpa using ew) ⟨rfl,fin⟩) hs
theorem Q0z:Ek X (QA X.K):=by intro value slice QF s σ H x y v u Q I rx ry h hs;obtain⟨p,xs,i,z,rfl,rfl,hq,he,q⟩:=h;cases rx;obtain⟨t,rfl⟩:=ry;obtain⟨aG,r,pl,hz⟩:=I.tuple hq;obtain⟨j,h1,h2,h3,h4,h5⟩:=rL he;obtain⟨w,ew,QE⟩:=r.get h2;have hl:=r.length;have hn:=oW;have fin:EP X QF σ Q w s:=⟨z,H,I,QE,q⟩;exact subscriptTail_builtinR (x:=w) pl.typeIs slot_tuple_getitem.lookup (getItem_tuple (j:=j) (Q:=fun r s'=>r=w/\EP X QF σ Q r s') pl ZJ ZJ (by rw[ZX,<-hl];exact h1) (by simpa using ew) ⟨rfl,fin⟩) hs
theorem Kg:Ek X Qz:=by
 intro value slice QF s σ H x y v u Q I rx ry h hs;obtain⟨z,i,c,rfl,rfl,hz,he,q⟩:=h;obtain⟨t,rfl⟩:=rx;obtain⟨t',rfl⟩:=ry;obtain⟨j,h1,h2,h3,h4,h5⟩:=rL he;have hl:z.cps.toList.length=z.length:=by simp[Str.length]
 rw[hl] at h1 h4 h5;have hn:=oW;exact tail_any (typeIs_str s z t) slot_str_getitem.lookup (getItem_str (c:=c) (by have e1:decide (i < -(2 ^ 63:Int))=false:=Z0 ZJ;have e2:decide (i>=2 ^ 63)=false:=Z0 ZJ;rw[e1,e2,Bool.or_false]) (by rw[h1];simpa using h2) ⟨.str ⟨#[c]⟩,H,I.tok _,⟨_,rfl⟩,q⟩) hs
def V1(K:W.Frag):R2:=fun x y H Q=>Qy K x y H Q\/QA K x y H Q\/Qz x y H Q
theorem Cu:Ek X (V1 X.K):=E6.or (Q0z.or Kg)
theorem v8(aG:MY)(n j:Nat)(u:Value):Obj.mapSeq (·.setIfInBounds j u) {cls:=.type "list",data:=.seq aG.toArray n}={cls:=.type "list",data:=.seq (aG.set j u).toArray n}:=by simp[Obj.mapSeq]
theorem Inv.lst{QF:Y6}{σ:St}{H:Hp}{s:Shared}{p:Addr}{xs:NC}(I:Inv X QF σ H s)(h:H p=some (.lst xs)) : ∃(aG:MY)(n:Nat),Vals xs aG/\s.heap.get? p=some {cls:=.type "list",data:=.seq aG.toArray n}/\xs.length<=sizeLine:=by obtain⟨z,aG,n,r,e⟩:=I.b8 p _ h;exact⟨aG,n,r,e,z⟩
theorem Inv.Kw{QF:Y6}{σ:St}{H:Hp}{s:Shared}{p:Addr}{xs ys:NC}{aG its':MY}{n n':Nat}{f:Obj->Obj}(I:Inv X QF σ H s)(h:H p=some (.lst xs))
  (ho:s.heap.get? p=some {cls:=.type "list",data:=.seq aG.toArray n}) (hf:f {cls:=.type "list",data:=.seq aG.toArray n}={cls:=.type "list",data:=.seq its'.toArray n'}) (r:Vals ys its') (hz:ys.length<=sizeLine) (t:Nat) :
  Inv X QF σ (upd H p (.lst ys)) {s with heap:=s.heap.update p f,toks:=t}:=by
 have e:(s.heap.update p f).get? p=some {cls:=.type "list",data:=.seq its'.toArray n'}:=by rw[Zv f ho (by rw[hf]<;>rfl),hf]
 refine I.write (x:=p) (e:=p) (by rw[h];trivial) (.inl rfl) (fun b u hb q=>(Zj _ _ (Zo hb)).trans q) ⟨_,e⟩ ?_;exact⟨hz,its',n',r,e⟩
def QC:V->V->V->Hp->(Hp->Prop)->Prop:=fun o i v H Q=>∃p xs k j,o=.ref p/\i=.int k/\H p=some (.lst xs)/\Kf xs.length k=some j/\Q (upd H p (.lst (xs.set j v)))
theorem set_list:NW X QC:=by
 intro QF s σ H o i v ov iv u Q I ro ri rv h;obtain⟨p,xs,k,j,rfl,rfl,hp,hj,q⟩:=h;cases ro;obtain⟨t,rfl⟩:=ri;obtain⟨aG,n,r,ho,hz⟩:=I.lst hp;obtain⟨h1,h2,h3,h4⟩:=yr hj;have hl:=r.length;have hn:=oW;have I':Inv X QF σ (upd H p (.lst (xs.set j v))) {s with heap:=s.heap.update p (Obj.mapSeq (·.setIfInBounds j u))}:=I.Kw hp ho (v8 aG n j u) (r.set rv j) (by rw[List.length_set];exact hz) s.toks;by_cases h0:0<=k;have hk:k.toNat=j:=by rw[seqIndex_of h0 h4] at h1;exact ZV h1
 exact W.ki_setAt ho h0 ZJ (by rw[ZX,<-hl];exact h4) (by rw[hk];exact⟨_,I',q⟩);have hk:(k+(aG.toArray.size:Int)).toNat=j:=by rw[seqIndex_neg ZJ h3] at h1;rw[ZX,<-hl];exact ZV h1
 exact W.ki_setBack ho ZJ (by rw[ZX,<-hl];exact h3) ZJ (by rw[hk];exact⟨_,I',q⟩)
theorem Q07(lo hi:XB)(n:Nat):(sliceBounds lo hi none n).1=((HT.cK n 0 lo:Nat):Int)/\(sliceBounds lo hi none n).2.1=((HT.cK n n hi:Nat):Int)/\(sliceBounds lo hi none n).2.2=1:=by
 refine⟨?_,?_,rfl⟩;cases lo with|none=>simp[sliceBounds,HT.cK]|some i=>simp only[sliceBounds,HT.cK,Option.getD_none,show (1:Int) > 0 by decide,if_true];by_cases h:i<0;simp only[h,if_true]<;>omega;simp only[h,if_false]<;>omega
 cases hi with|none=>simp[sliceBounds,HT.cK]|some i=>simp only[sliceBounds,HT.cK,Option.getD_none,show (1:Int) > 0 by decide,if_true];by_cases h:i<0;simp only[h,if_true]<;>omega;simp only[h,if_false]<;>omega
theorem qk(aG:MY)(lo hi:XB):slicePick aG.toArray lo hi none=((aG.drop (HT.cK aG.length 0 lo)).take (HT.cK aG.length aG.length hi-HT.cK aG.length 0 lo)).toArray:=by obtain⟨h1,h2,h3⟩:=Q07 lo hi aG.toArray.size;unfold slicePick;rw[h1,h2,h3];simp only[sliceRange_one,pick_run,List.size_toArray]<;>rfl
def Mr(K:W.Frag):V->XB->XB->Hp->VK->Prop:=fun x lo hi H Q=>∃a xs,x=.ref a/\df K H a xs/\∀p,H p=none->Q (.ref p) (upd H p (.lst (kQ xs lo hi)))
theorem Q0s:tG X (Mr X.K):=by intro QF s σ H x v vl vu lo hi sl Q I rx hs pl pu h;obtain⟨a,xs,rfl,hx,q⟩:=h;cases rx;obtain⟨aG,r,ht,hz⟩:=I.list hx;have Nv:=r.length;refine⟨"list",_,slot_list_getitem.lookup,ht.isList.typeIs,?_⟩;refine wpAny_getItem_list_slice ht.isList hs pl pu .none ZH ?_ (by rw[ZX]<;>omega);rw[qk,<-Nv];refine⟨.ref s.heap.objs.size,_,I.laid (t':=s.toks) (o:=.lst (kQ xs lo hi)) (fun b ob q=>Y7 _ q) (ZU _) ?_,rfl,q _ (I.b8.fresh (ZU _))⟩;exact⟨Zw (jk xs lo hi) hz,_,0,(r.drop (HT.cK xs.length 0 lo)).take (HT.cK xs.length xs.length hi-HT.cK xs.length 0 lo),Y8 _ rfl⟩
def j5:V->Bool|.bz=>true|.bl _=>true|.int _=>true|.str _=>true|_=>false
def ED:V->V->Bool|.bz,.bz=>true|.bl a,.bl b=>a == b|.bl a,.int b=>(if a then 1 else 0) == b|.int a,.bl b=>a == (if b then 1 else 0)|.int a,.int b=>a == b|.str a,.str b=>a == b|_,_=>false
theorem Js(ry:RelV y u)(rx:RelV x v)(fy:j5 y=true)(fx:j5 x=true):SeqAt.EqAt A s u v (ED y x):=by
 cases y with
 |bz=>cases ry;cases x with|bz=>cases rx;exact SeqAt.EqAt.same _|bl b=>cases rx;exact SeqAt.EqAt.none_bool b|int b=>obtain⟨t,rfl⟩:=rx;exact SeqAt.EqAt.none_int b t|str b=>obtain⟨t,rfl⟩:=rx;exact SeqAt.EqAt.none_str b t|_=>exact absurd (show false=true from fx) Zi
 |bl a=>cases ry;cases x with|bz=>cases rx;exact SeqAt.EqAt.bool_none a|bl b=>cases rx;exact SeqAt.EqAt.bool_bool a b|int b=>obtain⟨t,rfl⟩:=rx;exact SeqAt.EqAt.bool_int a b t|str b=>obtain⟨t,rfl⟩:=rx;exact SeqAt.EqAt.bool_str a b t|_=>exact absurd (show false=true from fx) Zi
 |int a=>obtain⟨t',rfl⟩:=ry;cases x with|bz=>cases rx;exact SeqAt.EqAt.int_none a t'|bl b=>cases rx;exact SeqAt.EqAt.int_bool a t' b|int b=>obtain⟨t,rfl⟩:=rx;exact SeqAt.EqAt.int_int a t' b t|str b=>obtain⟨t,rfl⟩:=rx;exact SeqAt.EqAt.int_str a t' b t|_=>exact absurd (show false=true from fx) Zi
 |str a=>obtain⟨t',rfl⟩:=ry;cases x with|bz=>cases rx;exact SeqAt.EqAt.str_none a t'|bl b=>cases rx;exact SeqAt.EqAt.str_bool a t' b|int b=>obtain⟨t,rfl⟩:=rx;exact SeqAt.EqAt.str_int a t' b t|str b=>obtain⟨t,rfl⟩:=rx;exact SeqAt.EqAt.str_str a t' b t|_=>exact absurd (show false=true from fx) Zi
 |_=>exact absurd (show false=true from fy) Zi
def EC(x:V)(u:Value):Bool:=match u with|.none=>ED .bz x|.bool b=>ED (.bl b) x|.int i _=>ED (.int i) x|.str z _=>ED (.str z) x|_=>false
theorem BI(r:RelV y u)(f:j5 y=true):EC x u=ED y x:=by cases y with|bz=>cases r;rfl|bl b=>cases r;rfl|int i=>obtain⟨t,rfl⟩:=r;rfl|str z=>obtain⟨t,rfl⟩:=r;rfl|_=>exact absurd (show false=true from f) Zi
theorem rJ:∀{xs:NC}{us:MY},Vals xs us->xs.all j5=true->us.any (EC x)=xs.any fun y=>ED y x|_,_,.nil,_=>rfl|y::xs,u::us,.cons r t,f=>by rw[CR,Zb] at f;rw[M1,M1,BI r f.1,rJ t f.2]
theorem oZ(rx:RelV x v)(fx:j5 x=true):∀{xs:NC}{us:MY},Vals xs us->xs.all j5=true->∀u∈us,SeqAt.EqAt A s u v (EC x u)|_,_,.nil,_=>fun u hu=>by cases hu|y::xs,u::us,.cons r t,f=>fun u' hu=>by rw[CR,Zb] at f;rcases List.mem_cons.mp hu with rfl|hu;rw[BI r f.1];exact Js r rx f.1 fx;exact oZ rx fx t f.2 u' hu
def R1(x:V)(xs:NC):Bool:=xs.any fun y=>ED y x
def V0(K:W.Frag)(neg:Bool):R2:=fun x y H Q=>∃p xs,y=.ref p/\(df K H p xs\/dj K H p xs)/\j5 x=true/\xs.all j5=true/\Q (.bl (if neg then !R1 x xs else R1 x xs)) H
theorem fX:fZ X (compareOp .In) (V0 X.K false):=by intro QF s σ H x y v u Q I rx ry h;obtain⟨p,xs,rfl,hq,fx,fs,q⟩:=h;cases ry;rcases hq with hq|hq;obtain⟨aG,r,pl,hz⟩:=I.list hq;refine SeqAt.in_listAt (EC x) pl.isList (fun w hw=>oZ rx fx r fs w (by simpa using hw)) ⟨.bl _,H,I,rfl,?_⟩;rw[show aG.toArray.any (EC x)=aG.any (EC x) by simp,rJ r fs];exact q;obtain⟨aG,r,pl,hz⟩:=I.tuple hq;refine SeqAt.in_tupleAt (EC x) pl (fun w hw=>oZ rx fx r fs w (by simpa using hw)) ⟨.bl _,H,I,rfl,?_⟩;rw[show aG.toArray.any (EC x)=aG.any (EC x) by simp,rJ r fs];exact q
theorem rM:dO X (.builtin "len") (fun xs H Q=>∃p ys,xs=[.ref p]/\(df X.K H p ys\/dj X.K H p ys)/\Q (.int ys.length) H):=by intro QF s σ H xs us Q I r h;obtain⟨p,ys,rfl,hq,q⟩:=h;obtain⟨u,rfl,rx⟩:=vals1 r;cases rx;have hn:=oW;rcases hq with hq|hq;obtain⟨aG,r',pl,hz⟩:=I.list hq;have Nv:=r'.length;exact Calls.call_len_list pl.isList (by simp only[List.size_toArray]<;>omega) ⟨.int ys.length,H,I.tok _,⟨s.toks+1,by rw[ZX,Nv]⟩,q⟩;obtain⟨aG,r',pl,hz⟩:=I.tuple hq;have Nv:=r'.length;exact len_tuple pl (by simp only[List.size_toArray]<;>omega) ⟨.int ys.length,H,I.tok _,⟨s.toks+1,by rw[ZX,Nv]⟩,q⟩
theorem rN:dO X (.type "list") (fun xs H Q=>∃p ys,xs=[.ref p]/\(df X.K H p ys\/dj X.K H p ys)/\∀l,H l=none->Q (.ref l) (upd H l (.lst ys))):=by intro QF s σ H xs us Q I r h;obtain⟨p,ys,rfl,hq,q⟩:=h;obtain⟨u,rfl,rx⟩:=vals1 r;cases rx;have fin:∀(aG:MY),Vals ys aG->ys.length<=sizeLine->∀(h':Heap)(c':Nat),(∀b o',s.heap.get? b=some o'->h'.get? b=some o')->h'.get? s.heap.objs.size=some {cls:=.type "list",dict:=none,data:=.seq aG.toArray c',slots:=#[]}->EP X QF σ Q (.ref s.heap.objs.size) {s with heap:=h'}:=fun aG r' hz h' c' kp e=>⟨.ref s.heap.objs.size,_,I.laid (t':=s.toks) kp (ZU _) (show dm X.prog X.w _ h' _ (.lst ys) from⟨hz,aG,c',r',e⟩),rfl,q _ (I.b8.fresh (ZU _))⟩;rcases hq with hq|hq;obtain⟨aG,r',pl,hz⟩:=I.list hq;have Nv:=r'.length;obtain⟨o,ho,hc,n,hd⟩:=pl.isList;exact call_list_seq p (.inl rfl) ho hc hd (fun h' c' kp e=>fin aG r' hz h' c' kp e) (by simp only[List.size_toArray]<;>omega);obtain⟨aG,r',pl,hz⟩:=I.tuple hq;have Nv:=r'.length;obtain⟨o,ho,hc,n,hd⟩:=pl;exact call_list_seq p (.inr rfl) ho hc hd (fun h' c' kp e=>fin aG r' hz h' c' kp e) (by simp only[List.size_toArray]<;>omega)
theorem Q1H:dO X (.type "tuple") (fun xs H Q=>∃p ys,xs=[.ref p]/\((df X.K H p ys/\∀l,H l=none->Q (.ref l) (upd H l (.tup ys)))\/(dj X.K H p ys/\Q (.ref p) H))):=by
 intro QF s σ H xs us Q I r h;obtain⟨p,ys,rfl,h⟩:=h;obtain⟨u,rfl,rx⟩:=vals1 r;cases rx;rcases h with ⟨hq,q⟩|⟨hq,q⟩
 obtain⟨aG,r',pl,hz⟩:=I.list hq;have Nv:=r'.length;refine call_tuple_list pl.isList (fun h' kp=>?_) (by simp only[List.size_toArray]<;>omega);have I1:Inv X QF σ H {s with heap:=h'}:=I.kept (t':=s.toks) kp;have I2:Inv X QF σ (upd H h'.objs.size (.tup ys)) {s with heap:=h'.push {cls:=.type "tuple",data:=.seq aG.toArray}}:=I1.laid (t':=s.toks) (fun b o e=>Y7 _ e) (ZU _) (show dm X.prog X.w _ _ _ (.tup ys) from⟨hz,aG,r',kK.new _ _⟩);exact⟨.ref h'.objs.size,_,I2,rfl,q _ (I1.b8.fresh (ZU _))⟩;obtain⟨aG,r',pl,hz⟩:=I.tuple hq;exact call_tuple_same pl ⟨.ref p,H,I,rfl,q⟩
def UQ(K:W.Frag)(T:String)(x:V)(H:Hp):Prop:=match x with|.str _=>T="str"|.int _=>T="int"|.ref p=>(T="list" /\ ∃xs,df K H p xs)\/(T="tuple" /\ ∃o,K.lookup p=some o/\o.cls=.type "tuple" /\ o.dict=none)\/(T="dict" /\ ((∃aR ep,H p=some (.dK aR ep))\/∃aR,H p=some (.dT aR)))\/(T="set" /\ ∃S n,H p=some (.set S n))|_=>False
theorem DT{QF:Y6}{σ:St}{H:Hp}{s:Shared}{T:String}{x:V}{v:Value}(I:Inv X QF σ H s)(r:RelV x v)(ty:UQ X.K T x H) : s.TypeIs v T/\∀a,v=.ref a->∃ob,s.heap.get? a=some ob/\ob.dict=none:=by
 cases x with
 |str z=>obtain⟨t,rfl⟩:=r;cases (show T="str" from ty);exact⟨typeIs_str s z t,fun _ e=>nomatch e⟩|int i=>obtain⟨t,rfl⟩:=r;cases (show T="int" from ty);exact⟨typeIs_int s i t,fun _ e=>nomatch e⟩|ref p=>
  cases r;rcases ty with ⟨rfl,xs,hq⟩|⟨rfl,o,hk,hc,hd⟩|⟨rfl,hk⟩|⟨rfl,S,n,hk⟩
  obtain⟨aG,_,pl,_⟩:=I.list hq;refine⟨pl.isList.typeIs,fun a e=>?_⟩;cases e;obtain⟨o,n,e,c,hd,_⟩:=pl;exact⟨o,e,hd⟩;refine⟨⟨o,I.qe p o hk,hc⟩,fun a e=>?_⟩;cases e;exact⟨o,I.qe _ o hk,hd⟩;have z:∃o,s.heap.get? p=some o/\o.ExactDict:=by
   rcases hk with ⟨aR,Yj,hk⟩|⟨aR,hk⟩
   obtain⟨_,_,_,_,o,_,e,ex,_⟩:=I.b8 p _ hk;exact⟨o,e,ex⟩;obtain⟨_,_,_,_,o,_,_,e,ex,_⟩:=I.b8 p _ hk;exact⟨o,e,ex⟩
  obtain⟨o,e,ex⟩:=z;refine⟨⟨o,e,ex.1⟩,fun a e2=>?_⟩;cases e2;exact⟨o,e,ex.2.1⟩;obtain⟨o,_,_,_,e,ex,_⟩:=I.b8 p _ hk;refine⟨⟨o,e,ex.1⟩,fun a e2=>?_⟩;cases e2;exact⟨o,e,ex.2.1⟩
 |_=>exact False.elim ty
def UC(K:W.Frag)(T:String)(r:V->NC->Hp->VK->Prop)(to:TE):TE:=fun σ H Q=>to σ H fun x H1=>UQ K T x H1/\r x [] H1 Q
def Sq(K:W.Frag)(T:String)(r:V->NC->Hp->VK->Prop)(to:TE)(t:TA):TE:=fun σ H Q=>to σ H fun x H1=>UQ K T x H1/\t σ H1 fun xs H2=>r x xs H2 Q
variable{o e:Expr}{es:Rz}{to:TE}{t:TA}{name:Str}{UP fP:Pos}{T id:String}{r:V->NC->Hp->VK->Prop}
theorem LY(pa:PlainAttrs T)(slot:Slot T name id)(TR:typeOf (.builtin id)=pure (.type "method_descriptor"))(hm:SK X id r)(ho:PE X o to)(B8:attributeBase o name X.env (eval o X.env)=eval o X.env:=by rfl) (uq:(UP.endLine == fP.line)=true:=by rfl):PE X (.Call (.Attribute o name UP) [] [] fP) (UC X.K T r to):=by intro QF s σ H Q I h;refine wpAny_Call_method0_late B8 uq (bK (ho QF s σ H _ I h) fun v s1 ⟨x,H1,I1,r1,ty,q1⟩=>?_);obtain⟨h1,h2⟩:=DT I1 r1 ty;exact⟨T,id,pa,slot,TR,h1,h2,tK rfl (PySem.evalArgs_none (hm QF s1 σ H1 x [] v [] Q I1 r1 .nil q1))⟩
theorem Iz(pa:PlainAttrs T)(slot:Slot T name id)(TR:typeOf (.builtin id)=pure (.type "method_descriptor"))(hm:SK X id r)(ho:PE X o to)(ha:PA X (e::es) t)
  (B8:attributeBase o name X.env (eval o X.env)=eval o X.env:=by rfl)
  (Tu:((backTo fP (starEach (e::es) X.env)).all (fun x=>!x.1)&&(backToKw fP (keywordEach [] X.env)).all (fun x=>x.1.isSome) && decide ((e::es).length+([]:List Keyword).length+(if ([]:List Keyword).isEmpty then 0 else 1)<30))=true:=by rfl)
  (uq:(UP.endLine == fP.line)=true:=by rfl) (hs:starEach (e::es) X.env=(false,eval e X.env)::starEach es X.env:=by rfl) (J0:(backTo fP (starEach es X.env)).any (·.1)=false:=by rfl) :
  PE X (.Call (.Attribute o name UP) (e::es) [] fP) (Sq X.K T r to t):=by
 intro QF s σ H Q I h;refine wpAny_Call_method_late B8 Tu uq rfl (bK (ho QF s σ H _ I h) fun v s1 ⟨x,H1,I1,r1,ty,q1⟩=>?_);obtain⟨h1,h2⟩:=DT I1 r1 ty;refine⟨T,id,pa,slot,TR,h1,h2,?_⟩;have hA:=ha fP QF s1 σ H1 _ I1 q1;rw[hs] at hA ⊢;refine tK (by show (false||(backTo fP (starEach es X.env)).any (·.1))=false;rw[J0]<;>rfl) (Calls.evalArgs_plain ?_);exact bK hA fun us s2 ⟨vs,H2,I2,r2,q2⟩=>hm QF s2 σ H2 x vs v us Q I2 r1 r2 q2
end
def U4(X:Cx)(id:String)(r:V->NC->Hp->VK->Prop):Prop:=∀(QF:Y6)(s:Shared)(σ:St)(H:Hp)(x:V)(xs:NC)(v:Value)(us:MY)(Q:VK),Inv X QF σ H s->RelV x v->Vals xs us->r x xs H Q->wpAny (model X.prog X.w) X.A (call (.builtin id) (v::us)) (EP X QF σ Q) X.xe s
theorem Vals.one:∀{x:V}{us:MY},Vals [x] us->∃u,us=[u]/\RelV x u|_,_,.cons r .nil=>⟨_,rfl,r⟩
theorem Vals.zero:∀{us:MY},Vals [] us->us=[]|_,.nil=>rfl
theorem Vals.reverse(h:Vals xs us):Vals xs.reverse us.reverse:=by induction h with|nil=>exact .nil|cons r t ih=>rw[LF,LF];exact Vals.append ih (.cons r .nil)
theorem Vals.rep(h:Vals xs us):∀k:Nat,Vals (List.replicate k xs).flatten (List.replicate k us).flatten|0=>.nil|k+1=>by rw[zL,zL,La,La];exact Vals.append h (Vals.rep h k)
theorem foldl_rep(aG:MY):∀(k:Nat)(acc:MY),List.foldl (fun x1 x2=>x1++x2) acc.toArray (List.replicate k aG.toArray)=(acc++(List.replicate k aG).flatten).toArray
|0,acc=>ZH|k+1,acc=>by
 have e:acc.toArray++aG.toArray=(acc++aG).toArray:=ZH;have e2:(acc++aG)++(List.replicate k aG).flatten=acc++(List.replicate (k+1) aG).flatten:=by rw[zL,La,List.append_assoc]
 rw[<-e2,<-foldl_rep aG k (acc++aG),<-e,zL,List.foldl_cons]
section
variable{X:Cx}{QF:Y6}{σ:St}{H:Hp}{s:Shared}{l b:Addr}{xs ys zs:NC}
theorem Inv.Pq{aG its':MY}{n:Nat}{f:Array Value->Array Value}{t':Nat}(I:Inv X QF σ H s)(hH:H l=some (.lst xs))
  (e:s.heap.get? l=some {cls:=.type "list",data:=.seq aG.toArray n}) (hf:f aG.toArray=its'.toArray) (hv:Vals ys its') (hz:ys.length<=sizeLine) :
  Inv X QF σ (upd H l (.lst ys)) {s with heap:=s.heap.update l (Obj.mapSeq f),toks:=t'}:=by
 have q:=PySem.IsL.update e f;rw[hf] at q;refine I.write (x:=l) (e:=l) (by rw[hH];exact trivial) (.inl rfl) (fun b' u hb hu=>(Zj s.heap (Obj.mapSeq f) (Zo hb)).trans hu) ⟨_,q⟩ ?_;exact⟨hz,its',_,hv,q⟩
theorem Inv.Kv(I:Inv X QF σ H s)(hv:Vals ys aG)(hz:ys.length<=sizeLine) : Inv X QF σ (upd H s.heap.objs.size (.lst ys)) {s with heap:=s.heap.push {cls:=.type "list",data:=.seq aG.toArray},toks:=t'}:=
 I.laid (fun _ _ q=>Y7 _ q) (ZU _) ⟨hz,aG,0,hv,Y8 _ rfl⟩
theorem Inv.fresh(I:Inv X QF σ H s):H s.heap.objs.size=none:=I.b8.fresh (ZU _)
theorem Inv.Fi(I:Inv X QF σ H s)(hH:H l=some (.lst xs)):xs.length<=sizeLine/\∃(aG:MY)(n:Nat),Vals xs aG/\xs.length=aG.length/\s.heap.get? l=some {cls:=.type "list",data:=.seq aG.toArray n}:=by obtain⟨z,aG,n,r,e⟩:=I.b8 l _ hH;exact⟨z,aG,n,r,r.length,e⟩
theorem uH(h:n<=sizeLine):Builtin.List.listTooLong n=false:=by unfold Builtin.List.listTooLong;exact Z0 ZJ
end
section
variable{X:Cx}
def sT:V->NC->Hp->VK->Prop:=fun x vs H Q=>∃l xs y,x=.ref l/\vs=[y]/\H l=some (.lst xs)/\xs.length<sizeLine/\Q .bz (upd H l (.lst (xs++[y])))
theorem rf:U4 X "list.append" sT:=by intro QF s σ H x vs v us Q I rx rv h;obtain⟨l,xs,y,rfl,rfl,hH,hz,q⟩:=h;cases rx;obtain⟨u,rfl,ru⟩:=rv.one;obtain⟨z,aG,n,r,hl,e⟩:=I.Fi hH;refine Sk F.slot_list_append ⟨_,e,rfl⟩ F.entry_list_append (F.args_list_append_2 _ _) (PySem.list_append l aG.toArray n u (by rw[ZX];omega)) ⟨e,?_⟩;refine⟨.bz,_,I.Pq (its':=aG++[u]) hH e ZH (r.append (.cons ru .nil)) ?_,rfl,q⟩;rw[Zq,List.length_singleton];omega
def yN:V->NC->Hp->VK->Prop:=fun x vs H Q=>∃l b xs zs,x=.ref l/\vs=[.ref b]/\H l=some (.lst xs)/\H b=some (.lst zs)/\xs.length+zs.length<=sizeLine/\Q .bz (upd H l (.lst (xs++zs)))
theorem Q0E:U4 X "list.extend" yN:=by
 intro QF s σ H x vs v us Q I rx rv h;obtain⟨l,b,xs,zs,rfl,rfl,hH,hB,hz,q⟩:=h;cases rx;obtain⟨u,rfl,ru⟩:=rv.one;cases ru;obtain⟨z,aG,n,r,hl,e⟩:=I.Fi hH;obtain⟨z2,jb,n2,r2,Ig,e2⟩:=I.Fi hB;have hsz:aG.toArray.size+jb.toArray.size<=sizeLine:=by rw[ZX,ZX];omega
 have Cc:¬(!aG.toArray.isEmpty&&Builtin.List.listTooLong (aG.toArray.size+jb.toArray.size))=true:=by rw[uH hsz,Bool.and_false];exact Zi
 refine Sk F.slot_list_extend ⟨_,e,rfl⟩ F.entry_list_extend (F.args_list_extend_2 _ _) (AutoSeq1.list_extend_list_list_0 l aG.toArray n b jb.toArray n2 Cc (by rw[ZX];omega) ZJ) ⟨e,e2,?_⟩;refine⟨.bz,_,I.Pq (its':=aG++jb) hH e ZH (r.append r2) ?_,rfl,q⟩;rw[Zq];omega
def Mq:R2:=fun x y H Q=>∃l k xs,x=.ref l/\y=.int k/\H l=some (.lst xs)/\-(2 ^ 63)<=k/\k<2 ^ 63/\xs.length*k.toNat<=sizeLine/\∀p,H p=none->Q (.ref p) (upd H p (.lst (List.replicate k.toNat xs).flatten))
theorem len_rep{α:Type}(xs:List α)(k:Nat):(List.replicate k xs).flatten.length=k*xs.length:=by induction k with|zero=>simp|succ k ih=>rw[zL,La,Zq,ih,Nat.succ_mul,Nat.add_comm]
theorem LS:fZ X (binaryOp .Mult) Mq:=by
 intro QF s σ H x y v u Q I rx ry h;obtain⟨l,k,xs,rfl,rfl,hH,h1,h2,hz,q⟩:=h;cases rx;obtain⟨t,rfl⟩:=ry;obtain⟨z,aG,n,r,hl,e⟩:=I.Fi hH;have Nv:aG.toArray.size*k.toNat<=sizeLine:=by rw[ZX,<-hl];exact hz
 have Tj:¬aG.toArray.size*k.toNat > (2 ^ 63-1) / 8:=by
  have:(sizeLine:Nat)<=(2 ^ 63-1) / 8:=by decide
  omega
 have Tv:¬(!Builtin.List.listFitsIndex k)=true:=by rw[fitsIndex_both h1 h2];exact Zi
 have Cc:¬Builtin.List.listTooLong (aG.toArray.size*k.toNat)=true:=by rw[uH Nv];exact Zi
 have TH:List.foldl (fun x1 x2=>x1++x2) #[] (List.replicate (if aG.toArray.isEmpty=true then 0 else k.toNat) aG.toArray)=(List.replicate k.toNat aG).flatten.toArray:=by
  have f0:∀m:Nat,List.foldl (fun x1 x2=>x1++x2) #[] (List.replicate m aG.toArray)=(List.replicate m aG).flatten.toArray:=fun m=>by have:=foldl_rep aG m [];rw[List.nil_append] at this;exact this
  rw[f0];cases aG with|nil=>simp|cons a r'=>rw[Za ZH]
 refine wpAny_binaryOp_repeat_ref (T:="list") (U:="int") (by decide) ⟨_,e,rfl⟩ (fun s'=>typeIs_int s' k t) noFill_list_mul F.fills_int_mul F.slot_int_rmul repeat_list F.slot_int_index.lookup (Sk F.slot_int_rmul (typeIs_int s k t) F.entry_int_rmul (F.args_int_rmul_2 _ _) (int___rmul___int_list k t l aG.toArray n) ⟨e,rfl,⟨_,e,rfl⟩,Sk F.slot_list_mul ⟨_,e,rfl⟩ F.entry_list_mul (F.args_list_mul_2 _ _) (AutoListH.list___mul___list_int_3 l aG.toArray n k t Tv Tj Cc) ⟨e,?_⟩⟩);rw[TH];exact⟨.ref _,_,I.Kv (t':=s.toks) (r.rep k.toNat) (by rw[len_rep,Nat.mul_comm];exact hz),rfl,q _ I.fresh⟩
end
end L2
namespace U1
open PySem PySem.W PySem.Calls PyProof.Rows
theorem nG:∀(ns:Pa)(vs:MY),WellAll P h vs (ns.map WData.int)->IntsAre vs ns:=by intro ns;induction ns with|nil=>intro vs w;rw[List.map_nil] at w;cases w;exact .nil|cons n ns ih=>intro vs w;rw[ZZ] at w;cases w with|cons a b=>cases a;exact .cons _ _ (ih _ b)
theorem Aa{l:OpenLaw}{n:Nat}(hn:l.most=some n){P:Params}{h:Heap}{args:List WData}{vals:MY}
  (ER:l.row.toRowW.claim.pre args=true) (TU:WellAll P h vals args) :
  ∃a vs ns,vals=[Value.ref a]/\args=[WData.list (ns.map WData.int)]/\h.get? a=some {cls:=.type "list",data:=.seq vs.toArray}/\IntsAre vs ns/\ns.length<=n:=by
 have Xf:WShape.hasAll [] args [.list .int]=true:=(pre_splitW ER).1;have hc:l.pre.holds [] {args:=args}=true:=(pre_splitW ER).2;obtain⟨d,r,rfl,h1,h2⟩:=hasAllW_cons Xf;obtain rfl:=hasAllW_nil h2;obtain⟨xs,rfl,h3⟩:=hasW_list h1;obtain⟨ns,rfl⟩:=items_int h3;have Nv:ns.length<=n:=by
  unfold OpenLaw.pre at hc;have h4:(WTm.not (.lt (.lit (.int (n:Int))) (.len (.arg 0)))).holds [] {args:=[.list (ns.map .int)]}=true:=by have h4:=(holds_andW hc).1;rw[hn] at h4;exact h4
  have h5:=condW_of h4 (w_not (w_lt w_lit (w_len_list (w_arg rfl))));rw[Zf] at h5;refine Nat.le_of_not_lt fun q=>?_;have q':(n:Int)<((ns.length:Nat):Int):=ZJ;first| (rw[Y9 q'] at h5;exact absurd h5 (by decide))| (simp at h5;omega)
 cases TU with|cons w1 w2=>cases w2;cases w1 with|list ho Th=>exact⟨_,_,ns,rfl,rfl,ho,nG ns _ Th,Nv⟩
theorem zX(l:OpenLaw)(args:List WData):l.row.toRowW.claim.post args (.bool true) args=true:=postW_of (r:=l.row.toRowW) (X:=(true == true))
 (show WShape.has [] (.bool true) .bool=true by first|rfl|decide|simp[WShape.has,WShape.arms,WShape.armsAll])
 (show (WTm.eq .res (.lit (.bool true))).value [] {args:=args,res:=some (.bool true),after:=args}=some (.bool (true == true)) from w_eq_bool (w_res rfl) w_lit) rfl
theorem tL{l:OpenLaw}{n:Nat}{q:Program}{loose:R5}{XP:(Str->Pj)->Heap->Prop}{YP:World->Heap->Prop}{d:DefRec}
  (hn:l.most=some n) (OH:d.params.defaults=[])
  (call:∀(w:World)(s₀ br:Shared)(mg mb:Str->Pj)(fa:Addr)(o:Obj)(pm cd doc:Value)(a:Addr)(vs:MY)(ns:Pa),
   Ground q loose [] XP w s₀ mg mb br.heap->YP w br.heap ->
   br.heap.get? fa=some o->o.data=.func (docDef d.name d.params d.body d.scope pm cd doc)->br.heap.CodeRec cd d.name->mg d.name=some (.ref fa) ->
   br.heap.get? a=some {cls:=.type "list",data:=.seq vs.toArray}->IntsAre vs ns->ns.length<=n->br.gens=#[] ->
   codeAny (model l.prog w) callerA (.call (.ref fa) ⟨[.ref a],[]⟩) (fun r s'=>r=.ok (.ret (.bool true))/\OldK br.heap s'.heap/\s'.os=br.os/\AllBare s'.gens) br) :
  WalkO q loose XP YP l.row.toRowW d [] (fun f vs=>PySem.call f vs):=by
 intro w s₀ br mg mb G Y fa o pm cd doc dV kV ho hd j9 hD OQ hg args vals as ER W5 OV TU YC;obtain rfl:dV=.none:=Dflts.none hD OH;obtain rfl:kV=.none:=Dflts.noKw hD;obtain⟨a,vs,ns,rfl,rfl,JX,hints,Nv⟩:=Aa hn ER TU;refine enter_call (Hf (call w s₀ br mg mb fa o pm cd doc a vs ns G Y ho (fd_plain hd) j9 OQ JX hints Nv hg) fun r s' hq=>?_);obtain⟨rfl,h2,h3,h4⟩:=hq;exact⟨.inl ⟨.bool true,.bool true,[],rfl,fun _=>rfl,.bool true,zX l _,fun _=>⟨List.Pairwise.nil,fun _ hm=>(nomatch hm)⟩⟩,h2,h3,h4⟩
end U1
namespace L2
open PySem PySem.Spec PyProof.Rows
theorem hZ:∀{vs:MY}{ns:Pa},IntsAre vs ns->Vals (ns.map V.int) vs|_,_,.nil=>.nil|_,_,.cons n t h=>.cons ⟨t,rfl⟩ (hZ h)
def Jc(H:Hp):Prop:=∀b,H b=none\/∃o xs,H b=some (.D8 o (.lst xs))
theorem CB{P:Program}{w:World}{K:W.Frag}{mg mb:Str->Pj}{CX:vf}{k:Nat}{fa a:Addr}{fd:FuncData}{x:Str}{sp:Sp}{br:Shared}{vs:MY}{ns:Pa}
  (KX:K.In br.heap) (Nr:br.heap.Ns mainGlobals mg) (hb:br.heap.Ns builtinsNs mb) (WL:∀x:Str,x≠"__name__" -> mb x=bootBuiltins x) (TC:br.heap.NoLimit) (hg:br.gens=#[])
  (ha:br.heap.get? a=some {cls:=.type "list",data:=.seq vs.toArray}) (hi:IntsAre vs ns) (hl:ns.length<=sizeLine) (hr:cA k callerA)
  (F:∀base:Heap,K.In base->base.Ns mainGlobals mg->dP P w K mg base CX k fa fd [x] sp) (OE:∀(s:Shared)(u:Value),BindsTo s fd ⟨[u],[]⟩ [(x,u)])
  (Ii:∀H:Hp,Jc H->df K H a (ns.map V.int)->sp [.ref a] H (fun v _=>v=.bl true) fun _ _ _=>False)
  (Ta:∀H e s',CX [] H br (fun _ _ _=>False) e s'->False) :
  codeAny (model P w) callerA (.call (.ref fa) ⟨[.ref a],[]⟩) (fun r s'=>r=.ok (.ret (.bool true))/\OldK br.heap s'.heap/\s'.os=br.os/\AllBare s'.gens) br:=by
 have rv:=hZ hi;have Uc:=hi.length;have core:∀H:Hp,Jc H->df K H a (ns.map V.int)->nA P w H br.heap->(∀b,H b≠none->b=a)->(H a≠none->K.lookup a=none)->codeAny (model P w) callerA (.call (.ref fa) ⟨[.ref a],[]⟩) (fun r s'=>r=.ok (.ret (.bool true))/\OldK br.heap s'.heap/\s'.os=br.os/\AllBare s'.gens) br:=by
  intro H hO hS b8 hA hK;have xu:∀{b:Addr}{o:Obj},br.heap.get? b=some o->H b=none->(sk br.heap H).get? b=some o:=fun e n=>Ca e n;have noA:∀{b:Addr}{o:Obj}{es:Array DictEntry}{ep:Nat},br.heap.get? b=some o->o.data=.dict es ep->H b=none:=fun {b o es ep} e d=>by cases q:H b with|none=>rfl|some u=>have e':b=a:=hA b (by rw[q];simp);subst e';rw[ha] at e;cases e;have d':Data.seq vs.toArray _=Data.dict es ep:=d;cases d'
  have R7:∀{b:Addr}{m:Str->Pj},br.heap.Ns b m->(sk br.heap H).Ns b m:=fun {b m} ⟨o,es,ep,e,d,r⟩=>⟨o,es,ep,xu e (noA e d),d,r⟩;have Vo:K.In (sk br.heap H):=fun b o e=>xu (KX b o e) (by cases q:H b with|none=>rfl|some u=>have e':b=a:=hA b (by rw[q];simp);subst e';rw[hK (by rw[q];simp)] at e;cases e);have hM:Mod K mg (sk br.heap H):=⟨Vo,R7 Nr,⟨mb,R7 hb,WL⟩,let ⟨mc,h1,h2⟩:=TC;⟨mc,R7 h1,h2⟩⟩;have e0:pY P w K mg (sk br.heap H) callerA [] br H:=⟨rfl,hM,fun b o e=>FK e,Nat.le_of_eq (Q0a _ _),trivial,fun b hb=>absurd (show b∈([]:VL) from hb) ZH,b8,.of_eq hg⟩;refine Hf ((F _ Vo (R7 Nr)).run callerA [] br H ⟨[.ref a],[]⟩ [.ref a] [.ref a] _ _ hr e0 (OE br (.ref a)) (.cons rfl .nil) (Ii H hO hS)) fun r s' h=>?_;cases r with
   |error e=>exact(Ta H e s' h).elim|ok fl=>
    cases fl with
    |next=>exact False.elim h|brk=>exact False.elim h|cont=>exact False.elim h|ret u=>
     obtain⟨v,H',os,bare,un,TL,r',q⟩:=h;have q':v=.bl true:=q;subst q';obtain rfl:u=Value.bool true:=r';refine⟨rfl,OldK.of_keep fun b o e=>?_,os,bare⟩;cases q:H b with
     |none=>exact un.keep b o e q (by intro z;exact absurd (show b∈([]:VL) from z) ZH) ZH|some u=>
      rcases hO b with z|⟨ob,xs,z⟩
      ·rw[q] at z;cases z
      ·have z2:=un.rZ b ob _ z;obtain⟨e1,_⟩:=b8 b _ z;obtain⟨e2,_⟩:=TL b _ z2;rw[e] at e1;cases e1;exact e2
 cases hk:K.lookup a with
 |some o=>have e:=KX a o hk;rw[ha] at e;cases e;refine core (fun _=>none) (fun _=>.inl rfl) (.inr ⟨_,vs.toArray,_,hk,rfl,rfl,rfl,by rw[ZX,Uc];exact hl,by simpa using rv⟩) (fun b u z=>by have z':(none:Option HO)=some u:=z;cases z') (fun b z=>absurd rfl z) fun z=>absurd rfl z|none=>
  refine core (fun b=>if b=a then some (.D8 {cls:=.type "list",data:=.seq vs.toArray} (.lst (ns.map V.int))) else none) (fun b=>?_) (.inl (.inr ⟨{cls:=.type "list",data:=.seq vs.toArray},ZY rfl⟩)) (fun b u z=>?_) (fun b z=>?_) fun _=>hk
  ·by_cases hb:b=a
   ·exact .inr ⟨_,_,ZY hb⟩
   ·exact .inl (Za hb)
  ·by_cases hb:b=a
   ·have z':=(ZY hb).symm.trans z;cases z';subst hb;exact⟨ha,by rw[Zf];exact hl,vs,_,rv,ha⟩
   ·have z':=(Za hb).symm.trans z;cases z'
  ·by_cases hb:b=a
   ·exact hb
   ·exact absurd (Za hb) z
theorem Ho{l:W.OpenLaw}{n k:Nat}{q:Program}{loose:R5}{XP:(Str->Pj)->Heap->Prop}{YP:World->Heap->Prop}{d:DefRec}{K:Params->W.Frag}{CX:World->vf}{sp:World->Sp}{x:Str}
  (hn:l.most=some n) (OR:n<=sizeLine) (OH:d.params.defaults=[]) (hr:cA k callerA)
  (hY:∀(w:World)(h:Heap),YP w h->(K w.params).In h)
  (F:∀(w:World)(mg:Str->Pj)(fa:Addr)(h:Heap),(K w.params).In h->h.Ns mainGlobals mg->mg d.name=some (.ref fa)->∃fd:FuncData,(∀(s:Shared)(u:Value),BindsTo s fd ⟨[u],[]⟩ [(x,u)])/\∀base:Heap,(K w.params).In base->base.Ns mainGlobals mg->dP l.prog w (K w.params) mg base (CX w) k fa fd [x] (sp w))
  (Ii:∀(w:World)(H:Hp)(a:Addr)(ns:Pa),ns.length<=n->Jc H->df (K w.params) H a (ns.map V.int)->sp w [.ref a] H (fun v _=>v=.bl true) fun _ _ _=>False)
  (Ta:∀(w:World)(H:Hp)(s:Shared)(e:Value)(s':Shared),CX w [] H s (fun _ _ _=>False) e s'->False) :
  W.WalkO q loose XP YP l.row.toRowW d [] (fun f vs=>PySem.call f vs):=by
 refine U1.tL hn OH fun w s₀ br mg mb fa o pm cd doc a vs ns G Y ho hd j9 OQ JX hints Nv hg=>?_;have KX:=hY w _ Y;obtain⟨fd,hb,hF⟩:=F w mg fa _ KX G.T.g OQ;exact CB KX G.T.g G.T.b G.T.builtins G.T.nolimit hg JX hints (Zw Nv OR) hr hF hb (fun H hO hS=>Ii w H a ns Nv hO hS) fun H e s'=>Ta w H br e s'
def inClass(s:Stmt)(j:Nat):Stmt:=match s with|.ClassDef _ _ _ body _ _ _ _ _ _ _=>body.getD j (.Pass ⟨0,0,0,0⟩)|_=>.Pass ⟨0,0,0,0⟩
def cR(s:Stmt):Arguments:=match s with|.FunctionDef _ a _ _ _ _ _ _ _ _=>a|_=>{posonlyargs:=[],args:=[],vararg:=none,kwonlyargs:=[],kw_defaults:=[],kwarg:=none,defaults:=[]}
def bM(s:Stmt):List Stmt:=match s with|.FunctionDef _ _ b _ _ _ _ _ _ _=>b|_=>[]
def aP(s:Stmt):Scope:=match s with|.FunctionDef _ _ _ _ _ _ sc _ _ _=>sc|_=>{kind:=.function,names:=[],isGenerator:=false,isCoroutine:=false}
abbrev pS:vf:=fun _ _ _ _ _ _=>False
structure Ej(K:W.Frag)(x VM:Str)(st:Stmt)(f:Addr)(fd:FuncData):Prop where
 ex:∃(oc:Value)(od:Ng)(kV doc pm:Value)(an:Ng)(ir ct:Value)(FT:Array (Option Value)),fd=W.fnOf x VM (cR st) (bM st) (aP st) .none kV doc pm an ir ct/\K.lookup f=some ⟨oc,od,.func fd,FT⟩/\W.codeIn K ir VM=true
 kp:W.keepIn K (.ref f)=true
section
variable{P:Program}{w:World}{K:W.Frag}{mg:Str->Pj}{base:Heap}
theorem Ej.ok{x VM:Str}{st:Stmt}{f:Addr}{fd:FuncData}{N ps:R5}{k:Nat}{sp:Sp}(F:Ej K x VM st f fd)(S:dQ N ps (aP st))(len:∀vs H Q E,sp vs H Q E->vs.length=ps.length)(jn:∀(ir:Value)(A:Around)(outer:List Env)(s:Shared)(H:Hp)(vs:NC)(Q:VK)(E:XK),cA k (A.deeper (envOfC VM (aP st) s.heap.objs.size f ir))->sp vs H Q E->∃t,vg (p9 pS P w K mg base N VM (aP st) f ir A outer s H E).Iy (bM st) t/\t {nx:=fun _ H'=>Q .bz H',rt:=Q} (start N vs) H):dP P w K mg base pS (k+1) f fd ps sp:=by obtain⟨oc,od,kV,doc,pm,an,ir,ct,FT,rfl,lk,j9⟩:=F.ex;refine Oi lk j9 S len fun A outer s H vs Q E hr Ii=>?_;obtain⟨t,h,q⟩:=jn ir A outer s H vs Q E hr Ii;exact⟨t,h.Iy,q⟩
theorem Ej.binds{x VM:Str}{st:Stmt}{f:Addr}{fd:FuncData}{ps:R5}(F:Ej K x VM st f fd)(h:∀(kV doc pm:Value)(an:Ng)(ir ct:Value)(us:MY),us.length=ps.length->bindArgs (W.fnOf x VM (cR st) (bM st) (aP st) .none kV doc pm an ir ct) ⟨us,[]⟩=pure (ps.zip us)):Binds K fd ps []:=by obtain⟨oc,od,kV,doc,pm,an,ir,ct,FT,rfl,lk,j9⟩:=F.ex;exact .all (h kV doc pm an ir ct)
theorem BW{x VM:Str}{st:Stmt}{f:Addr}{oc:Value}{od an:Ng}{FT:Array (Option Value)}{kV doc pm ir ct:Value}(l:K.lookup f=some ⟨oc,od,.func (W.fnOf x VM (cR st) (bM st) (aP st) .none kV doc pm an ir ct),FT⟩)(c:W.codeIn K ir VM=true) (k:W.keepIn K (.ref f)=true):Ej K x VM st f (W.fnOf x VM (cR st) (bM st) (aP st) .none kV doc pm an ir ct):=⟨⟨oc,od,kV,doc,pm,an,ir,ct,FT,rfl,l,c⟩,k⟩
end
section
variable{X:Cx}
theorem pv(i:Nat){x:Str}{pos:Pos}(hN:X.N[i]?=some x:=by rfl)(hv:xc X.env.scope x:=by exact ZK)(hd:Y3 x:=by decide)(j9:Y4 x:=by decide):PE X (.Name x pos) (QW i):=gQ hN hv hd j9
end
theorem vT{A B:Prop}(h:B):if false=true then A else B:=by rw[Za Zi];exact h
theorem vU{A B:Prop}(h:A):if true=true then A else B:=by rw[ZY rfl];exact h
def aL(H H':Hp):Prop:=∀b o,H b=some o->H' b=some o
theorem aL.refl(H:Hp):aL H H:=fun _ _ h=>h
theorem aL.trans(a:aL H H1)(b:aL H1 H2):aL H H2:=fun c o h=>b c o (a c o h)
theorem aL.free(e:aL H H')(h:H' l=Option.none):H l=Option.none:=by cases q:H l with|none=>rfl|some o=>rw[e l o q] at h;cases h
theorem aL.seq{K:W.Frag}{H H':Hp}{a:Addr}{xs:NC}(e:aL H H')(h:df K H a xs):df K H' a xs:=by
 rcases h with (h|⟨o,h⟩)|h
 exact .inl (.inl (e _ _ h));exact .inl (.inr ⟨o,e _ _ h⟩);exact .inr h
end L2
end
section
set_option Elab.async false
set_option linter.all false
set_option maxRecDepth 100000
namespace L2
open PySem PySem.Spec PyProof.Rows
section
variable{κ:Type}[DecidableEq κ]
def jA(aR:List (κ×V))(k:κ):Option V:=(aR.find? fun kv=>decide (kv.1=k)).map (·.2)
def putK(aR:List (κ×V))(k:κ)(v:V):List (κ×V):=if (aR.any fun kv=>decide (kv.1=k))=true then aR.map (fun kv=>if kv.1=k then(kv.1,v) else kv) else aR++[(k,v)]
theorem u9{p:κ×V}{r:List (κ×V)}{k:κ}(e:p.1=k):jA (p::r) k=some p.2:=by simp[jA,List.find?_cons,e]
theorem pQ{p:κ×V}{r:List (κ×V)}{k:κ}(e:¬p.1=k):jA (p::r) k=jA r k:=by simp[jA,List.find?_cons,e]
theorem uy(aR:List (κ×V))(k:κ)(v:V):(putK aR k v).length<=aR.length+1:=by unfold putK;split;rw[Zf];omega;rw[Zq,Zt,List.length_nil];omega
theorem jW.isSome_eq{o:Option V}{u:Pj}(r:jW o u):o.isSome=u.isSome:=by
 cases o with
 |none=>cases u with|none=>rfl|some _=>exact(show False from r).elim
 |some _=>cases u with|none=>exact(show False from r).elim|some _=>rfl
theorem jW.getD{o:Option V}{u:Pj}{d:V}{d':Value}(r:jW o u)(rd:RelV d d'):RelV (o.getD d) (u.getD d'):=by
 cases o with
 |none=>cases u with|none=>exact rd|some _=>exact(show False from r).elim
 |some _=>cases u with|none=>exact(show False from r).elim|some _=>exact r
theorem KV.val{aR:List (κ×V)}{vs:List (κ×Value)}(r:KV aR vs)(k:κ):jW (jA aR k) (valueAt vs k):=by
 unfold KV at r;induction r with
 |nil=>exact True.intro|@cons p q ps qs h t ih=>
  obtain⟨h1,h2⟩:=h;by_cases e:p.1=k;have e':q.1=k:=h1.symm.trans e;have b:valueAt (q::qs) k=some q.2:=by simp[valueAt,List.find?_cons,e']
  rw[u9 e,b];exact h2;have e':¬q.1=k:=fun z=>e (h1.trans z);have b:valueAt (q::qs) k=valueAt qs k:=by simp[valueAt,List.find?_cons,e']
  rw[pQ e,b];exact ih
theorem KV.any{aR:List (κ×V)}{vs:List (κ×Value)}(r:KV aR vs)(k:κ):(aR.any fun kv=>decide (kv.1=k))=vs.any fun kv=>decide (kv.1=k):=by unfold KV at r;induction r with|nil=>rfl|cons h t ih=>rw[M1,M1,ih,h.1]
theorem KV.Ut{aR:List (κ×V)}{vs:List (κ×Value)}(r:KV aR vs)(k:κ){y:V}{u:Value}(ry:RelV y u) : KV (aR.map fun kv=>if kv.1=k then(kv.1,y) else kv) (vs.map fun kv=>if kv.1=k then(kv.1,u) else kv):=by unfold KV at r ⊢;induction r with|nil=>exact .nil|@cons p q ps qs h t ih=>rw[ZZ,ZZ];refine .cons ?_ ih;obtain⟨h1,h2⟩:=h;by_cases e:p.1=k;rw[ZY e,ZY (h1.symm.trans e)];exact⟨h1,ry⟩;rw[Za e,Za (fun z=>e (h1.trans z))];exact⟨h1,h2⟩
theorem KV.put{aR:List (κ×V)}{vs:List (κ×Value)}(r:KV aR vs)(k:κ){y:V}{u:Value}(ry:RelV y u):KV (putK aR k y) (stored vs k u):=by unfold putK stored;rw[r.any k];by_cases e:(vs.any fun kv=>decide (kv.1=k))=true;rw[ZY e,ZY e];exact r.Ut k ry;rw[Za e,Za e];exact Paired.snoc r ⟨rfl,ry⟩
theorem KV.keys{aR:List (κ×V)}{vs:List (κ×Value)}(r:KV aR vs):aR.map (·.1)=vs.map (·.1):=by unfold KV at r;induction r with|nil=>rfl|cons h t ih=>rw[ZZ,ZZ,ih,h.1]
theorem KV.length{aR:List (κ×V)}{vs:List (κ×Value)}(r:KV aR vs):aR.length=vs.length:=v5 r
end
theorem uw{P:Program}{w:World}{k:Key}{u:Value}(r:RelV (kV k) u):(eC P w).is k u=true:=by cases k with|inl i=>obtain⟨t,e⟩:=(show ∃t,u=Value.int i t from r);subst e;exact uC P w i t|inr x=>obtain⟨t,e⟩:=(show ∃t,u=Value.str x t from r);subst e;exact Q0j P w x t
section
variable{X:Cx}{QF:Y6}{σ:St}{H:Hp}{s:Shared}
theorem Inv.big(I:Inv X QF σ H s):sysModules<s.heap.objs.size:=by have h:mainGlobals<s.heap.objs.size:=(I.mod.glob.keeps I.bk).lt;exact Us (by decide) h
end
def Jb(i:Expr):Prop:=∀ov iv,subscripted i false ov iv=operate [ov,iv] (getItem ov iv)
theorem G2{prog:Program}{w:World}{A:Around}{E:Y5}{s:Shared}{env:Env}{value slice:Expr}{pos:Pos}{T id:String}{Q:Y5}
  (hl:typeLookup (.type T) "__getitem__" = pure (some (.builtin id))) (hs:Jb slice)
  (h:wpAny (model prog w) A (eval value env) (fun o br=>wpAny (model prog w) A (eval slice env) (fun i qm=>qm.TypeIs o T/\wpAny (model prog w) A (getItem o i) Q E qm) E br) E s) :
  wpAny (model prog w) A (eval (.Subscript value slice pos) env) Q E s:=by
 refine Subscript_ (R9 h (fun o br h₁=>R9 h₁ (fun i qm kY=>?_) fun _ _ x=>x) fun _ _ x=>x);obtain⟨hT,kY⟩:=kY;unfold subscriptTail;refine ZS ?_;rw[getitemInPython_of_ne hT.not_modules];refine ZS (DP hT hl ?_);have fin:wpAny (model prog w) A (subscripted slice false o i) (fun r QL=>wpAny (model prog w) A (letTemporaryGo value o r >>= fun _=>pure r) Q E QL) E qm:=by rw[hs o i];exact wpAny_operating (R9 kY (fun r QL nE=>ZS (wpAny_letTemporaryGo (ZT nE))) fun _ _ x=>x)
 first|exact ZT (ZS fin)|exact ZS (ZT (ZS fin))|exact ZS fin
structure M2(X:Cx)(o:Expr)(m:Str)(UP:Pos)(e f:Expr)(fP:Pos):Prop where
 base:attributeBase o m X.env (eval o X.env)=eval o X.env
 j4:((backTo fP (starEach [e,f] X.env)).all (fun x=>!x.1)&&(backToKw fP (keywordEach [] X.env)).all (fun x=>x.1.isSome) && decide (([e,f]:Rz).length+([]:List Keyword).length+(if ([]:List Keyword).isEmpty then 0 else 1)<30))=true
 line:(UP.endLine == fP.line)=true
 trees:backTo fP (starEach [e,f] X.env)=[(false,eval e X.env),(false,eval f X.env)]
end L2
end
section
namespace VP
theorem gl{P:Prop}(h:∀Q:Prop,Q=P->Q):P:=h P rfl
inductive D where
 |bz|bl (b:Bool)|int (i:Int)|str (x:Str)|tup (xs:List D)|lst (xs:List D)|gg (ks:List (Sum Int Str)) (vs:List D)|ins (c:Str) (ns:R5) (vs:List D)|HR (c:Str) (ns:R5) (vs:List D)
 deriving Inhabited
abbrev S4:=Option D
abbrev Sg:=List D
inductive Sl where
 |no|sh (d:D)|ow (d:D)|io (d:D)
 deriving Inhabited
abbrev aQ:=List Sl
structure Xn where
 cls:Str
 ns:List Str
 vs:List D
inductive Res(α:Type) where
 |ok (a:α) (r:aQ)|exc (x:Xn) (r:aQ)|no
abbrev M(α:Type):=aQ->Res α
inductive Fl where
 |nx|bk|ct|rt (d:D)
noncomputable def ret{α:Type}(a:α):M α:=fun r=>.ok a r
noncomputable def YV{α β:Type}(f:M α)(g:α->M β):M β:=fun r=>match f r with|.ok a r'=>g a r'|.exc x r'=>.exc x r'|.no=>.no
noncomputable def stuck{α:Type}:M α:=fun _=>.no
def opt{α:Type}:Option α->M α|some a=>ret a|none=>stuck
noncomputable def af(i:Nat):M D:=fun r=>match r[i]? with|some (.sh d)=>.ok d r|_=>.no
noncomputable def yw(i:Nat):M D:=fun r=>match r[i]? with|some (.sh d)=>.ok d r|some (.ow d)=>.ok d r|some (.io d)=>.ok d r|_=>.no
noncomputable def free:Option Sl->Bool|some (.io _)=>false|some _=>true|none=>false
def nJ(i:Nat)(d:D):M Unit:=fun r=>if free r[i]? then .ok () (r.set i (.sh d)) else .no
def CQ(i:Nat)(d:D):M Unit:=fun r=>if free r[i]? then .ok () (r.set i (.ow d)) else .no
noncomputable def own:Option Sl->Option D|some (.ow d)=>some d|some (.io d)=>some d|_=>none
noncomputable def cE(i:Nat)(d:D)(r:aQ):aQ:=match r[i]? with|some (.ow _)=>r.set i (.ow d)|some (.io _)=>r.set i (.io d)|_=>r
noncomputable def Nx(i:Nat):M Unit:=fun r=>match r[i]? with|some (.ow d)=>.ok () (r.set i (.sh d))|some (.sh d)=>.ok () r|_=>.no
def fD(i:Nat)(g:D->S4):M Unit:=fun r=>match own r[i]? with
 |some d=>match g d with
   |some d'=>.ok () (cE i d' r)|none=>.no
  |none=>.no
def mC(d:D):M D:=ret d
def m1(g:D->S4)(a:M D):M D:=YV a fun x=>opt (g x)
def m2(g:D->D->S4)(a b:M D):M D:=YV a fun x=>YV b fun y=>opt (g x y)
def mL:List (M D)->M (List D)|[]=>ret []|f::fs=>YV f fun x=>YV (mL fs) fun xs=>ret (x::xs)
def mF(g:Sg->S4)(as:List (M D)):M D:=YV (mL as) fun xs=>opt (g xs)
def tB(a:M D):M Bool:=YV a fun x=>match x with|.bl b=>ret b|_=>stuck
def lD(a:M Bool):M Bool:=YV a fun b=>ret (!b)
def kF(a b:M Bool):M Bool:=YV a fun x=>if x then b else ret false
def qo(a b:M Bool):M Bool:=YV a fun x=>if x then ret true else b
def yv(c:M Bool)(a b:M D):M D:=YV c fun x=>if x then a else b
def ak(f g:M Fl):M Fl:=YV f fun k=>match k with|.nx=>g|.bk=>ret .bk|.ct=>ret .ct|.rt d=>ret (.rt d)
def aA:M Fl:=ret .nx
def Eg(f:M Unit):M Fl:=YV f fun _=>ret .nx
def rk(f:M D):M Fl:=YV f fun _=>ret .nx
def aC(f:M D):M Fl:=YV f fun d=>ret (.rt d)
def bI(c:M Bool)(a b:M Fl):M Fl:=YV c fun x=>if x then a else b
def aN(i:Nat)(f:M D):M Fl:=YV f fun d=>Eg (nJ i d)
def fU(i:Nat)(f:M D):M Fl:=YV f fun d=>Eg (CQ i d)
def vj(i:Nat)(f:M Fl):M Fl:=YV (Nx i) fun _=>f
def aD(i:Nat):D->M Unit:=fun d=>nJ i d
def qa:XT->Sg->M Unit|[],[]=>ret ()|i::is,d::ds=>YV (nJ i d) fun _=>qa is ds|_,_=>stuck
def cW(is:XT):D->M Unit:=fun d=>match d with|.tup ds=>qa is ds|_=>stuck
def loop(g:D->M Unit)(body:M Fl):Sg->M Fl|[]=>ret .nx|d::ds=>YV (g d) fun _=>YV body fun k=>match k with|.nx=>loop g body ds|.ct=>loop g body ds|.bk=>ret .nx|.rt e=>ret (.rt e)
def fE(it:M (List D))(g:D->M Unit)(body:M Fl):M Fl:=YV it fun ds=>loop g body ds
noncomputable def gb(x:D):D->Option D|.lst xs=>if xs.length<16777216 then some (.lst (xs++[x])) else none|_=>none
def turns(k:Nat)(g:D->M Unit)(test:M Bool)(elt:M D):Sg->M Unit
|[]=>ret ()|d::ds=>YV (g d) fun _=>YV test fun b=>if b
 then YV elt fun x=>YV (fD k (gb x)) fun _=>turns k g test elt ds
 else turns k g test elt ds
noncomputable def inner(n:Nat)(f:Nat->M Unit):M D:=fun r=>match f (r.length+n) (r++List.replicate n .no++[.ow (.lst [])]) with
 |.ok _ r'=>match r'[r.length+n]? with
   |some (.ow d)=>.ok d (r'.take r.length)|_=>.no
  |.exc x r'=>.exc x (r'.take r.length)|.no=>.no
def aS(n:Nat)(it:M (List D))(g:D->M Unit)(test:M Bool)(elt:M D):M D:=YV it fun ds=>inner n fun k=>turns k g test elt ds
def gD(c:M Bool)(body:M Fl):Nat->M Fl
|0=>stuck|n+1=>YV c fun b=>if b
 then YV body fun k=>match k with|.nx=>gD c body n|.ct=>gD c body n|.bk=>ret .nx|.rt e=>ret (.rt e)
 else ret .nx
inductive FR where
 |ok (d:D) (cB:Sg)|exc (x:Xn) (cB:Sg)|no
abbrev Fn:=List D->FR
noncomputable def cO(n:Nat):N0->Sg->aQ|b::bs,d::ds=>(if b then .io d else .sh d)::cO (n-1) bs ds|_,_=>List.replicate n .no
noncomputable def b9:N0->aQ->Option (List D)|[],_=>some []|true::bs,.io d::r=>(b9 bs r).map (d::·)|false::bs,_::r=>b9 bs r|_,_=>none
def defn(n:Nat)(fl:N0)(body:M Fl):Fn:=fun ds=>
 if ds.length=fl.length then
  match body (cO n fl ds) with
  |.ok (.rt d) r=>match b9 fl r with|some cB=>.ok d cB|none=>.no
  |.ok .nx r=>match b9 fl r with|some cB=>.ok .bz cB|none=>.no
  |.ok .bk _=>.no|.ok .ct _=>.no|.exc x r=>match b9 fl r with|some cB=>.exc x cB|none=>.no
  |.no=>.no
 else .no
inductive Arg where
 |val (f:M D)|io (j:Nat)
inductive AV where
 |val (d:D)|io (j:Nat)
def bL:List Arg->M (List AV)|[]=>ret []|.val f::as=>YV f fun d=>YV (bL as) fun vs=>ret (.val d::vs)|.io j::as=>fun r=>if (own r[j]?).isSome then YV (bL as) (fun vs=>ret (.io j::vs)) r else .no
def pU:List AV->aQ->Option (List D)|[],_=>some []|.val d::as,r=>(pU as r).map (d::·)|.io j::as,r=>match own r[j]? with|some d=>(pU as r).map (d::·)|none=>none
noncomputable def fC:List AV->List Nat|[]=>[]|.val _::as=>fC as|.io j::as=>j::fC as
def putAll:XT->Sg->aQ->aQ|j::js,d::ds,r=>putAll js ds (cE j d r)|_,_,r=>r
noncomputable def Arg.isIo:Arg->Bool|.val _=>false|.io _=>true
def nI(f:Fn)(vs:List AV):M D:=fun r=>
 match pU vs r with
 |some ds=>if (fC vs).Nodup then match f ds with
   |.ok d cB=>.ok d (putAll (fC vs) cB r)|.exc x cB=>.exc x (putAll (fC vs) cB r)|.no=>.no
  else .no
 |none=>.no
def ax(f:Fn)(as:List Arg):M D:=YV (bL as) fun vs=>nI f vs
def ni(a b:M D):M D:=YV a fun x=>match x with|.bl true=>b|.bl false=>ret (.bl false)|_=>stuck
def zH(a b:M D):M D:=YV a fun x=>match x with|.bl true=>ret (.bl true)|.bl false=>b|_=>stuck
noncomputable def Ad(ds:Sg):S4:=if ds.length<=16777216 then some (.tup ds) else none
noncomputable def zC(ds:Sg):S4:=if ds.length<=16777216 then some (.lst ds) else none
def bc(fl:List (M D)):M D:=YV (mL fl) fun xs=>opt (Ad xs)
def du(fl:List (M D)):M D:=YV (mL fl) fun xs=>opt (zC xs)
noncomputable def iS:Nat:=16777216
noncomputable def SO:D->D->Option D|.int i,.int j=>some (.int (i+j))|_,_=>none
noncomputable def gA:D->D->Option D|.int i,.int j=>some (.int (i-j))|_,_=>none
noncomputable def mn:D->D->Option D|.int i,.int j=>if (-(2 ^ 64)<i/\i<2 ^ 64)\/(-(2 ^ 64)<j/\j<2 ^ 64) then some (.int (i*j)) else none|_,_=>none
noncomputable def yb:D->D->Option D|.int i,.int j=>if 0<j/\j<1073741824 then some (.int (i / j)) else none|_,_=>none
noncomputable def nL:D->D->Option D|.int i,.int j=>if 0<j then some (.int (i % j)) else none|_,_=>none
noncomputable def mw:D->Option D|.int i=>some (.int (-i))|_=>none
noncomputable def ltI:D->D->Option D|.int i,.int j=>some (.bl (decide (i<j)))|_,_=>none
noncomputable def pW:D->D->Option D|.int i,.int j=>some (.bl (decide (i<=j)))|_,_=>none
noncomputable def B4:D->D->Option D|.int i,.int j=>some (.bl (decide (j<i)))|_,_=>none
noncomputable def RN:D->D->Option D|.int i,.int j=>some (.bl (decide (j<=i)))|_,_=>none
noncomputable def HQ:D->D->Option Bool|.bz,.bz=>some true|.bz,.int _=>some false|.int _,.bz=>some false|.bz,.bl _=>some false|.bl _,.bz=>some false|.bz,.str _=>some false|.str _,.bz=>some false|.int i,.int j=>some (decide (i=j))|.bl i,.bl j=>some (decide (i=j))|.str i,.str j=>some (decide (i=j))|.int _,.str _=>some false|.str _,.int _=>some false|.bl _,.str _=>some false|.str _,.bl _=>some false|_,_=>none
noncomputable def isNon:D->Bool|.bz=>true|_=>false
def isND(x y:D):S4:=if isNon y then some (.bl (isNon x)) else none
def NZ:D->D->Option D|.tup xs,.tup ys=>if xs.length+ys.length<=iS then some (.tup (xs++ys)) else none|_,_=>none
def NY:D->D->Option D|.lst xs,.lst ys=>if xs.length+ys.length<=iS then some (.lst (xs++ys)) else none|_,_=>none
noncomputable def bnd(g g':D->D->S4)(x y:D):S4:=match g x y with|some d=>some d|none=>g' x y
noncomputable def E4(n:Nat)(i:Int):Option Nat:=if 0<=i then(if i<n then some i.toNat else none) else if -(n:Int)<=i then some (i+n).toNat else none
def yq(xs:Sg)(i:Int):S4:=(E4 xs.length i).bind fun j=>xs[j]?
def aq:D->D->Option D|.tup xs,.int i=>yq xs i|.lst xs,.int i=>yq xs i|_,_=>none
mutual
noncomputable def eqB:D->D->Bool|.bz,.bz=>true|.bl a,.bl b=>a == b|.bl a,.int j=>(if a then 1 else 0) == j|.int i,.bl b=>i == (if b then 1 else 0)|.int i,.int j=>i == j|.str x,.str y=>x == y|.lst xs,.lst ys=>oA xs ys|.tup xs,.tup ys=>oA xs ys|_,_=>false
noncomputable def oA:Sg->Sg->Bool|[],[]=>true|x::xs,y::ys=>eqB x y&&oA xs ys|[],_::_=>false|_::_,[]=>false
end
theorem BE(i j:Int):eqB (.int i) (.int j)=(i == j):=ZF
theorem HN(x y:Str):eqB (.str x) (.str y)=(x == y):=ZF
theorem BF(xs ys:Sg):eqB (.lst xs) (.lst ys)=oA xs ys:=ZF
theorem BG(xs ys:Sg):eqB (.tup xs) (.tup ys)=oA xs ys:=ZF
noncomputable def lC(x:Str):Bool:=x.cps.toList.all (·<0x110000)
mutual
noncomputable def plain:Nat->D->Bool|_,.bz=>true|_,.bl _=>true|_,.int _=>true|_,.str x=>lC x|n+1,.tup xs=>eT n xs|n+1,.lst xs=>eT n xs|_,_=>false
noncomputable def eT:Nat->Sg->Bool|_,[]=>true|n,x::xs=>plain n x&&eT n xs
end
def b7(x y:D):S4:=if plain 60 x&&plain 60 y then some (.bl (eqB x y)) else none
def fW(x y:D):S4:=if plain 60 x&&plain 60 y then some (.bl (!eqB x y)) else none
noncomputable def cq:D->Option (List D)|.tup ds=>some ds|.lst ds=>some ds|_=>none
def dk(f:M D):M (List D):=YV f fun d=>opt (cq d)
noncomputable def qi:Sg->Option (List D)|[.int j]=>if -(2 ^ 62)<=j/\j<2 ^ 62 then some ((List.range j.toNat).map fun(i:Nat)=>.int i) else none|_=>none
noncomputable def Q02:Sg->Option (List D)|[.int i,.int j]=>if (-(2 ^ 62)<=i/\i<2 ^ 62)/\-(2 ^ 62)<=j/\j<2 ^ 62 then some ((List.range (j-i).toNat).map fun(k:Nat)=>.int (i+k)) else none|_=>none
def cJ(fl:List (M D)):M (List D):=YV (mL fl) fun xs=>opt (qi xs)
noncomputable def bB:D->Option D|.tup ds=>some (.int ds.length)|.lst ds=>some (.int ds.length)|_=>none
noncomputable def i6:D->Option D|.tup ds=>some (.tup ds)|.lst ds=>some (.tup ds)|_=>none
noncomputable def gZ:D->Option D|.tup ds=>some (.lst ds)|.lst ds=>some (.lst ds)|_=>none
noncomputable def maxD:Sg->Option D|[.int i,.int j]=>some (.int (if j > i then j else i))|_=>none
noncomputable def intD:Sg->Option D|[.int i]=>some (.int i)|[.bl b]=>some (.int (if b then 1 else 0))|_=>none
def mQ:Sg->Option (List D)
|[a,b]=>match cq a,cq b with
  |some xs,some ys=>some (List.zipWith (fun x y=>D.tup [x,y]) xs ys)|_,_=>none
 |_=>none
def qg(fl:List (M D)):M (List D):=YV (mL fl) fun xs=>opt (mQ xs)
noncomputable def fB:Sg->Option (List Int)|[]=>some []|.int i::r=>(fB r).map (i::·)|_=>none
def Q1m(d:D):S4:=match cq d with|some ds=>(fB ds).map fun ns=>.int ns.sum|none=>none
noncomputable def isLst:S4->Bool|some (.lst _)=>true|_=>false
def lz(i:Nat)(fe:M D):M Fl:=fun r=>if isLst (own r[i]?) then YV fe (fun x=>Eg (fD i (gb x))) r else .no
def setAt(k v:D):D->Option D
|.lst xs=>match k with
  |.int i=>(E4 xs.length i).map fun j=>.lst (xs.set j v)|_=>none
 |_=>none
def gy(i:Nat)(fk fv:M D):M Fl:=YV fv fun v=>fun r=>if isLst (own r[i]?) then YV fk (fun k=>Eg (fD i (setAt k v))) r else .no
noncomputable def uU(n d:Nat):XB->Nat|none=>d|some v=>if v<0 then(v+n).toNat else min v.toNat n
def cutD(xs:Sg)(lo hi:XB):Sg:=(xs.drop (uU xs.length 0 lo)).take (uU xs.length xs.length hi-uU xs.length 0 lo)
def lh:Option (M D)->M (Option Int)|none=>ret none|some f=>YV f fun d=>match d with|.int i=>ret (some i)|_=>stuck
def nK(g:D->XB->XB->S4)(f:M D)(lo hi:Option (M D)):M D:=YV f fun d=>YV (lh lo) fun l=>YV (lh hi) fun h=>opt (g d l h)
def Ct(j:Nat)(i:D):M D:=fun r=>match own r[j]? with|some d=>opt (aq d i) r|none=>.no
def bU(j:Nat)(fb:M D):M D:=fun r=>if (own r[j]?).isSome then YV fb (Ct j) r else .no
def aY:D->D->Option D|.int i,.int j=>some (.int (i+j))|.tup xs,.tup ys=>if xs.length+ys.length<=iS then some (.tup (xs++ys)) else none|.lst xs,.lst ys=>if xs.length+ys.length<=iS then some (.lst (xs++ys)) else none|_,_=>none
def d6(d:D)(lo hi:XB):S4:=match d with|.tup xs=>some (.tup (cutD xs lo hi))|.lst xs=>some (.lst (cutD xs lo hi))|_=>none
def zD(g g2:D->D->S4)(a b c:M D):M D:=YV a fun x=>YV b fun y=>YV (opt (g x y)) fun d=>match d with|.bl true=>YV c fun z=>opt (g2 y z)|.bl false=>ret (.bl false)|_=>stuck
noncomputable def DO(t:List (Str×D)):D->Option D|.str k=>t.lookup k|_=>none
def Fv(f:M D):M (List D):=YV f fun d=>opt ((cq d).map List.reverse)
def qh(d:D):S4:=(cq d).map fun xs=>.tup xs.reverse
def DC(d:D):S4:=(cq d).map fun xs=>.lst xs.reverse
noncomputable def iq:Sg->Option (List Bool)|[]=>some []|.bl b::r=>(iq r).map (b::·)|_=>none
def nB(al:Bool):D->Option D|.lst ds=>(iq ds).map fun bs=>.bl (if al then bs.all id else bs.any id)|_=>none
noncomputable def sZ(neg:Bool)(t:List (Str×D))(ab:R5):D->Option D
|.str k=>match t.lookup k with
  |some _=>some (.bl (!neg))|none=>if ab.contains k then some (.bl neg) else none
 |_=>none
noncomputable def jl:D->Bool|.bz=>true|.bl _=>true|.int _=>true|.str _=>true|_=>false
def inD(neg:Bool)(x y:D):S4:=match cq y with|some ds=>if jl x&&ds.all jl then some (.bl (if neg then !(ds.any fun y=>eqB y x) else ds.any fun y=>eqB y x)) else none|none=>none
noncomputable def aZ(cs:R5)(f:Str):D->Option D|.ins c ns vs=>if cs.contains c then(ns.zip vs).lookup f else none|_=>none
noncomputable def jv(f:Str)(v:D):R5->Sg->List Str×List D|n::ns,x::vs=>if n=f then(n::ns,v::vs) else(n::(jv f v ns vs).1,x::(jv f v ns vs).2)|_,_=>([f],[v])
def DJ(cs:R5)(f:Str)(v:D):D->Option D|.ins c ns vs=>if cs.contains c&&decide (ns.length<1000) then some (.ins c (jv f v ns vs).1 (jv f v ns vs).2) else none|_=>none
def bp(i:Nat)(cs:R5)(f:Str)(fv:M D):M Fl:=YV fv fun v=>Eg (fD i (DJ cs f v))
def zG(c:Str)(f:Fn)(vs:List AV):M D:=fun r=>match nI f (.io r.length::vs) (r++[.ow (.ins c [] [])]) with
 |.ok .bz r'=>match r'[r.length]? with
   |some (.ow d)=>.ok d (r'.take r.length)|_=>.no
  |.exc x r'=>.exc x (r'.take r.length)|_=>.no
def dM(c:Str)(f:Fn)(as:List Arg):M D:=YV (bL as) fun vs=>zG c f vs
noncomputable def iZ(c m:Str):D->Bool|.ins c' ns _=>c' == c&&!ns.contains m|_=>false
def ck(c m:Str)(f:Fn)(fo:M D)(as:List Arg):M D:=YV fo fun o=>if iZ c m o then YV (bL as) fun vs=>nI f (.val o::vs) else stuck
noncomputable def a7(subs:Nt)(x:D):S4:=match x with|.ins c _ _=>(subs.lookup c).map .bl|_=>none
def mI:M Fl:=stuck
noncomputable def jZ(ds:Sg):Sg:=List.zipWith (fun(i:Nat) d=>D.tup [.int i,d]) (List.range ds.length) ds
def kR:Sg->Option (List D)|[.lst ds]=>some (jZ ds)|_=>none
def nj(fl:List (M D)):M (List D):=YV (mL fl) fun xs=>opt (kR xs)
noncomputable def DD:Sg->Option (List D)|[.int i,.int j,.int k]=>if k=-1/\(-(2 ^ 62)<=i/\i<2 ^ 62)/\-(2 ^ 62)<=j/\j<2 ^ 62 then some ((List.range (i-j).toNat).map fun(k:Nat)=>.int (i-k)) else none|_=>none
def CL(fl:List (M D)):M (List D):=YV (mL fl) fun xs=>opt (DD xs)
end VP
end
section
namespace VP
def zN:D->D->Option D|.int i,.int j=>mn (.int i) (.int j)|.tup xs,.int k=>if -(iS:Int)<=k/\k<=iS/\xs.length*k.toNat<=iS then some (.tup (List.replicate k.toNat xs).flatten) else none|_,_=>none
end VP
end
section
namespace VP
noncomputable def sortI(xs:Pa):Pa:=xs.mergeSort fun a b=>decide (a<=b)
theorem sortI_perm(xs:Pa):(sortI xs).Perm xs:=List.mergeSort_perm ..
theorem Ac(xs:Pa):(sortI xs).Pairwise (·<=·):=by have:=List.pairwise_mergeSort (le:=fun(a b:Int)=>decide (a<=b)) (fun a b c h1 h2=>by simp at *;lia) (fun a b=>by simp;lia) xs;exact this.imp fun h=>by simpa using h
theorem uY(p:ys.Perm xs)(o:ys.Pairwise (·<=·)):ys=sortI xs:=List.Perm.eq_of_pairwise (fun x y _ _ h1 h2=>Int.le_antisymm h1 h2) o (Ac xs) (p.trans (sortI_perm xs).symm)
def uX(d:D):S4:=match cq d with
|some ds=>match fB ds with
  |some ns=>if ns.length<64 then some (.lst ((sortI ns).map .int)) else none|none=>none
 |none=>none
noncomputable def CF:Sg->Option D|[.int j]=>if -1000<=j/\j<=1000 then some (.lst ((List.range j.toNat).map fun(k:Nat)=>.int k)) else none|_=>none
def Q1t:D->D->Option D|.str x,.int i=>if x.length<=iS/\0<=i then(x.cps.toList[i.toNat]?).map fun c=>.str ⟨#[c]⟩ else none|_,_=>none
noncomputable def Gr:D->D->Option D|.int i,.int j=>if 0<=j/\j<=1000/\i.natAbs<2 ^ 64 then some (.int (i ^ j.toNat)) else none|_,_=>none
def wG(c:M Bool)(body:M Fl):M Fl:=gD c body 10000
def Q1o(i:Nat):M D:=fun r=>match own r[i]? with
 |some (.lst xs)=>match xs.getLast? with
   |some d=>.ok d (cE i (.lst xs.dropLast) r)|none=>.no
  |_=>.no
def vJ(x:D):D->Option D
|.lst xs=>match x with
  |.lst ys=>if xs.length+ys.length<=iS then some (.lst (xs++ys)) else none|_=>none
 |_=>none
def DE(i:Nat)(fe:M D):M Fl:=fun r=>if isLst (own r[i]?) then YV fe (fun x=>Eg (fD i (vJ x))) r else .no
def mj(x y:D):S4:=match x with
|.tup ds=>match fB ds with
  |some []=>some y|some (i::is)=>some (.int (is.foldl (fun a b=>if a<b then b else a) i))|none=>none
 |_=>none
noncomputable def Az(f:Fn)(d:D):M D:=fun r=>match f [d] with|.ok v [_]=>.ok v r|.exc x [_]=>.exc x r|_=>.no
def mh(f:Fn)(a:M D):M D:=YV a (Az f)
noncomputable def de:Sl->Sl|.ow d=>.sh d|.io d=>.sh d|s=>s
mutual
noncomputable def QY:D->Bool|.bz=>true|.bl _=>true|.int _=>true|.str _=>true|.tup ds=>noLs ds|_=>false
noncomputable def noLs:Sg->Bool|[]=>true|d::ds=>QY d&&noLs ds
end
def kf(f:M D):M D:=fun r=>match f (r.map de) with|.ok (.lst ds) _=>if noLs ds then .ok (.lst ds) r else .no|_=>.no
def jr(f:M D):M D:=fun r=>match f (r.map de) with|.ok d _=>if QY d then .ok d r else .no|_=>.no
noncomputable def rT:List (Sum Int Str)->Sg->Sum Int Str->Option D|k'::ks,v::vs,k=>if k'=k then some v else rT ks vs k|_,_,_=>none
noncomputable def vG(k:Sum Int Str)(v:D):List (Sum Int Str)->Sg->List (Sum Int Str)×List D|k'::ks,x::vs=>if k'=k then(k'::ks,v::vs) else(k'::(vG k v ks vs).1,x::(vG k v ks vs).2)|_,_=>([k],[v])
def oy:D->D->Option D|.gg ks vs,.int k=>rT ks vs (.inl k)|_,_=>none
def Bx:D->D->D->Option D|.gg ks vs,.int k,x=>some ((rT ks vs (.inl k)).getD x)|_,_,_=>none
def rR(neg:Bool):D->D->Option D|.int k,.gg ks vs=>some (.bl (if neg then !(rT ks vs (.inl k)).isSome else(rT ks vs (.inl k)).isSome))|_,_=>none
def putD(k v:D):D->Option D
|.gg ks vs=>match k with
  |.int i=>if ks.length<1000 then some (.gg (vG (.inl i) v ks vs).1 (vG (.inl i) v ks vs).2) else none|_=>none
 |_=>none
def uV(i:Nat)(fk fv:M D):M Fl:=YV fv fun v=>fun r=>if (own r[i]?).isSome then YV fk (fun k=>Eg (fD i (putD k v))) r else .no
noncomputable def Cw:Sum Int Str->D|.inl i=>.int i|.inr s=>.str s
def Cy:D->Option (List D)|.gg ks _=>some (ks.map Cw)|_=>none
def uz(f:M D):M (List D):=YV f fun d=>opt (Cy d)
def q9:D->Option D
|.gg _ vs=>match fB vs with
  |some (i::is)=>some (.int (is.foldl (fun a b=>if a<b then b else a) i))|_=>none
 |_=>none
noncomputable def By:D->Option D|.gg ks vs=>some (.gg ks vs)|_=>none
noncomputable def isDct:D->Bool|.gg _ _=>true|_=>false
def nk(a b c:M D):M D:=YV a fun x=>if isDct x then YV b fun y=>YV c fun z=>opt (Bx x y z) else stuck
end VP
end
section
set_option linter.all false
set_option maxRecDepth 100000
abbrev ZC(X:L2.Cx)(e:PySem.Expr)(l:List PySem.Expr):Prop:=PySem.starEach (e::l) X.env=(false,PySem.eval e X.env)::PySem.starEach l X.env
abbrev ZD(X:L2.Cx)(x:PySem.Str):Prop:=X.fn x=true\/X.env.scope.names.lookup x=some .local
abbrev ZE(X:L2.Cx)(p:PySem.Pos)(l:List PySem.Expr):Prop:=(PySem.backTo p (PySem.starEach l X.env)).any (·.1)=false
namespace VS
open PySem PySem.Spec PyProof.Rows L2 VP
abbrev Frag:=W.Frag
abbrev St:=L2.St
abbrev MG:=Str->Option Value
def Wj(a C:Addr)(dx:Ng):Heap->Prop:=fun h=>∃vs sl,h.get? a=some ⟨.ref C,dx,.fields vs,sl⟩/\vs[2]?=some .none
mutual
inductive Den(K:Frag)(mg:MG)(F:Hp):V->D->Prop where
 |bz:Den K mg F .bz .bz|bl (b:Bool):Den K mg F (.bl b) (.bl b)|int (i:Int):Den K mg F (.int i) (.int i)|str (x:Str):Den K mg F (.str x) (.str x)|tup {a:Addr} {vs:NC} {ds:Sg} (h:dj K F a vs) (r:aK K mg F vs ds):Den K mg F (.ref a) (.tup ds)|lst {a:Addr} {vs:NC} {ds:Sg} (h:df K F a vs) (r:aK K mg F vs ds):Den K mg F (.ref a) (.lst ds)|gg {a:Addr} {aR:List (Key×V)} {ep:Nat} {ds:Sg} (h:F a=some (.dK aR ep)) (r:aK K mg F (aR.map (·.2)) ds):Den K mg F (.ref a) (.gg (aR.map (·.1)) ds)|ins {a C dx:Addr} {c:Str} {fs:List (Str×V)} {ds:Sg} (h:F a=some (.ins C dx fs)) (hc:mg c=some (.ref C)) (r:aK K mg F (fs.map (·.2)) ds):Den K mg F (.ref a) (.ins c (fs.map (·.1)) ds)|HR {a C:Addr} {dx:Ng} {c:Str} {fs:List (Str×V)} {ds:Sg} (h:F a=some (.ext (Wj a C dx))) (hc:mg c=some (.ref C)) (hf:(dx=none/\fs=[])\/∃b,dx=some b/\F b=some (.xd fs)) (r:aK K mg F (fs.map (·.2)) ds):Den K mg F (.ref a) (.HR c (fs.map (·.1)) ds)
inductive aK(K:Frag)(mg:MG)(F:Hp):NC->Sg->Prop where
 |nil:aK K mg F [] []|cons {v:V} {d:D} {vs:NC} {ds:Sg} (h:Den K mg F v d) (t:aK K mg F vs ds):aK K mg F (v::vs) (d::ds)
end
section
variable{K:Frag}{mg:MG}{F:Hp}{v:V}{ds:Sg}
theorem Den.n(h:Den K mg F v .bz):v=.bz:=by cases h;rfl
theorem Den.b{b:Bool}(h:Den K mg F v (.bl b)):v=.bl b:=by cases h;rfl
theorem Den.i{i:Int}(h:Den K mg F v (.int i)):v=.int i:=by cases h;rfl
theorem Den.s{x:Str}(h:Den K mg F v (.str x)):v=.str x:=by cases h;rfl
theorem Den.t(h:Den K mg F v (.tup ds)):∃a vs,v=.ref a/\dj K F a vs/\aK K mg F vs ds:=by cases h with|tup h r=>exact⟨_,_,rfl,h,r⟩
theorem Den.l(h:Den K mg F v (.lst ds)):∃a vs,v=.ref a/\df K F a vs/\aK K mg F vs ds:=by cases h with|lst h r=>exact⟨_,_,rfl,h,r⟩
theorem aK.n{vs:NC}(h:aK K mg F vs []):vs=[]:=by cases h;rfl
theorem aK.c{vs:NC}{d:D}(h:aK K mg F vs (d::ds)):∃v ws,vs=v::ws/\Den K mg F v d/\aK K mg F ws ds:=by cases h with|cons h r=>exact⟨_,_,rfl,h,r⟩
end
theorem dj.same{K:Frag}{F F':Hp}{a:Addr}{xs:NC}(h:dj K F a xs)(e:aL F F'):dj K F' a xs:=by
 rcases h with (h|⟨o,h⟩)|h
 exact .inl (.inl (e _ _ h));exact .inl (.inr ⟨o,e _ _ h⟩);exact .inr h
theorem df.same{K:Frag}{F F':Hp}{a:Addr}{xs:NC}(h:df K F a xs)(e:aL F F'):df K F' a xs:=e.seq h
section
variable{K:Frag}{mg:MG}{F F' H H':Hp}
theorem Den.same(e:aL F F'){v:V}{d:D}(h:Den K mg F v d):Den K mg F' v d:=Den.rec (motive_1:=fun v d _=>Den K mg F' v d) (motive_2:=fun vs ds _=>aK K mg F' vs ds) .bz .bl .int .str (fun h _ r=>.tup (dj.same h e) r) (fun h _ r=>.lst (df.same h e) r) (fun h _ r=>.gg (e _ _ h) r) (fun h hc _ r=>.ins (e _ _ h) hc r) (fun h hc hf _ r=>.HR (e _ _ h) hc (hf.imp id (Exists.imp fun _=>And.imp id (e _ _))) r) .nil (fun _ _ h t=>.cons h t) h
theorem aK.ind{P:NC->Sg->Prop}(n:P [] [])(c:∀{v d vs ds},Den K mg F v d->aK K mg F vs ds->P vs ds->P (v::vs) (d::ds)){vs:NC}{ds:Sg}(h:aK K mg F vs ds):P vs ds:=aK.rec (motive_1:=fun _ _ _=>True) (motive_2:=fun vs ds _=>P vs ds) ⟨⟩ (fun _=>⟨⟩) (fun _=>⟨⟩) (fun _=>⟨⟩) (fun _ _ _=>⟨⟩) (fun _ _ _=>⟨⟩) (fun _ _ _=>⟨⟩) (fun _ _ _ _=>⟨⟩) (fun _ _ _ _ _=>⟨⟩) n (fun h t _=>c h t) h
theorem aK.same(e:aL F F'){vs:NC}{ds:Sg}(h:aK K mg F vs ds):aK K mg F' vs ds:=h.ind .nil fun h _=>.cons (h.same e)
theorem aK.length{vs:NC}{ds:Sg}(h:aK K mg F vs ds):vs.length=ds.length:=h.ind (P:=fun vs ds=>vs.length=ds.length) rfl fun _ _=>congrArg Nat.succ
theorem aK.append{vs ws:NC}{ds es:Sg}(h:aK K mg F vs ds)(s:aK K mg F ws es):aK K mg F (vs++ws) (ds++es):=h.ind (P:=fun vs ds=>aK K mg F (vs++ws) (ds++es)) s fun h _=>.cons h
theorem aK.get:∀{vs:NC}{ds:Sg}{i:Nat}{d:D},aK K mg F vs ds->ds[i]?=some d->∃v,vs[i]?=some v/\Den K mg F v d|_,_,_,_,.nil,e=>by simp at e|_,_,0,_,.cons h _,e=>by simp at e;subst e;exact⟨_,rfl,h⟩|_,_,i+1,_,.cons _ t,e=>by obtain⟨v,h1,h2⟩:=aK.get (i:=i) t (by simpa using e);exact⟨v,by simpa using h1,h2⟩
theorem aK.set:∀{vs:NC}{ds:Sg}{v:V}{d:D}(i:Nat),aK K mg F vs ds->Den K mg F v d->aK K mg F (vs.set i v) (ds.set i d)|_,_,_,_,_,.nil,_=>.nil|_,_,_,_,0,.cons _ t,h=>.cons h t|_,_,_,_,i+1,.cons q t,h=>.cons q (aK.set i t h)
theorem aK.take:∀{vs:NC}{ds:Sg}(n:Nat),aK K mg F vs ds->aK K mg F (vs.take n) (ds.take n)|_,_,0,_=>by simpa using aK.nil|_,_,_+1,.nil=>.nil|_,_,n+1,.cons h t=>.cons h (aK.take n t)
theorem aK.drop:∀{vs:NC}{ds:Sg}(n:Nat),aK K mg F vs ds->aK K mg F (vs.drop n) (ds.drop n)|_,_,0,h=>by simpa using h|_,_,_+1,.nil=>.nil|_,_,n+1,.cons _ t=>aK.drop n t
theorem aK.reverse(h:aK K mg F vs ds):aK K mg F vs.reverse ds.reverse:=by induction vs generalizing ds with|nil=>cases h;exact .nil|cons v vs ih=>cases h with|cons h t=>simp only[List.reverse_cons];exact(ih t).append (.cons h .nil)
theorem aK.ints(ns:Pa):aK K mg F (ns.map V.int) (ns.map D.int):=by induction ns with|nil=>exact .nil|cons n r ih=>exact .cons (.int n) ih
theorem aK.map{α:Type}{f:α->V}{g:α->D}(h:∀a,Den K mg F (f a) (g a))(l:List α):aK K mg F (l.map f) (l.map g):=by induction l with|nil=>exact .nil|cons a l ih=>exact .cons (h a) ih
def eG(K:Frag)(mg:MG)(F H:Hp)(l:Addr):D->Prop|.lst ds=>∃vs,H l=some (.lst vs)/\aK K mg F vs ds|.gg ks ds=>∃aR ep,H l=some (.dK aR ep)/\aR.map (·.1)=ks/\aK K mg F (aR.map (·.2)) ds|.ins c ns ds=>∃C dx fs,H l=some (.ins C dx fs)/\mg c=some (.ref C)/\fs.map (·.1)=ns/\aK K mg F (fs.map (·.2)) ds|_=>False
theorem eG.same(h:eG K mg F H l d)(e:aL F F')(eh:∀o,H l=some o->H' l=some o):eG K mg F' H' l d:=by cases d with|lst ds=>obtain⟨vs,h1,h2⟩:=h;exact⟨vs,eh _ h1,h2.same e⟩|gg ks ds=>obtain⟨aR,ep,h1,h2,h3⟩:=h;exact⟨aR,ep,eh _ h1,h2,h3.same e⟩|ins c ns ds=>obtain⟨C,dx,fs,h1,h2,h3,h4⟩:=h;exact⟨C,dx,fs,eh _ h1,h2,h3,h4.same e⟩|_=>exact h.elim
theorem eG.has(h:eG K mg F H l d):∃o,H l=some o:=by cases d with|lst ds=>obtain⟨vs,h1,h2⟩:=h;exact⟨_,h1⟩|gg ks ds=>obtain⟨aR,ep,h1,h2,h3⟩:=h;exact⟨_,h1⟩|ins c ns ds=>obtain⟨C,dx,fs,h1,h2,h3,h4⟩:=h;exact⟨_,h1⟩|_=>exact h.elim
theorem eG.den(h:eG K mg F H l d)(ho:H l=some o)(e:aL F F')(hl:F' l=some o):Den K mg F' (.ref l) d:=by cases d with|lst ds=>obtain⟨vs,h1,h2⟩:=h;rw[ho] at h1;cases h1;exact .lst (df.of hl) (h2.same e)|gg ks ds=>obtain⟨aR,ep,h1,rfl,h3⟩:=h;rw[ho] at h1;cases h1;exact .gg hl (h3.same e)|ins c ns ds=>obtain⟨C,dx,fs,h1,h2,rfl,h4⟩:=h;rw[ho] at h1;cases h1;exact .ins hl h2 (h4.same e)|_=>exact h.elim
end
structure Fx where
 H₀:Hp
 NL:Hp
 io:List (Nat×Addr)
def tG(K:Frag)(mg:MG)(G:Fx)(F H:Hp)(i:Nat)(v:Option V):Sl->Prop|.no=>True|.sh d=>∃u,v=some u/\Den K mg F u d|.ow d=>∃l,v=some (.ref l)/\F l=none/\G.H₀ l=none/\eG K mg F H l d|.io d=>∃l,v=some (.ref l)/\(i,l)∈G.io/\F l=none/\eG K mg F H l d
def cj:Sl->Bool|.ow _=>true|.io _=>true|_=>false
structure Good(K:Frag)(mg:MG)(G:Fx)(F H:Hp)(σ:St)(ρ:aQ):Prop where
 sF:aL G.NL F
 sub:aL F H
 old:∀a o,G.H₀ a=some o->(∀i,(i,a)∉G.io)->H a=some o
 new:∀a o,F a=some o->G.NL a=some o\/G.H₀ a=none
 len:σ.length=ρ.length
 slot:∀(i:Nat)(s:Sl),ρ[i]?=some s->tG K mg G F H i (σ[i]?.join) s
 apart:∀(i j:Nat)(l:Addr)(s t:Sl),ρ[i]?=some s->ρ[j]?=some t->cj s=true->cj t=true->σ[i]?=some (some (V.ref l))->σ[j]?=some (some (V.ref l))->i=j
 m9:∀i a,(i,a)∈G.io->(∃o,H a=some o)/\F a=none/\∃o,G.H₀ a=some o
 nH:∀i a b,(i,a)∈G.io->(i,b)∈G.io->a=b
section
variable{K:Frag}{mg:MG}{G:Fx}{F F' H H':Hp}{σ:St}{ρ:aQ}
theorem tG.own(h:tG K mg G F H i v s)(o:cj s=true):∃l d,v=some (.ref l)/\F l=none/\eG K mg F H l d/\(s=.ow d\/s=.io d):=by cases s with|no=>cases o|sh d=>cases o|ow d=>obtain⟨l,h1,h2,h3,h4⟩:=h;exact⟨l,d,h1,h2,h4,.inl rfl⟩|io d=>obtain⟨l,h1,h2,h3,h4⟩:=h;exact⟨l,d,h1,h3,h4,.inr rfl⟩
theorem tG.same(h:tG K mg G F H i v s)(e:aL F F')(hn:∀l,v=some (.ref l)->cj s=true->F l=none->(∃o,H l=some o)->F' l=none)(eh:∀l o,v=some (.ref l)->cj s=true->H l=some o->H' l=some o):tG K mg G F' H' i v s:=by cases s with|no=>trivial|sh d=>obtain⟨u,h1,h2⟩:=h;exact⟨u,h1,h2.same e⟩|ow d=>obtain⟨l,h1,h2,h3,h4⟩:=h;exact⟨l,h1,hn l h1 rfl h2 h4.has,h3,h4.same e fun o=>eh l o h1 rfl⟩|io d=>obtain⟨l,h1,h2,h3,h4⟩:=h;exact⟨l,h1,h2,hn l h1 rfl h3 h4.has,h4.same e fun o=>eh l o h1 rfl⟩
theorem Good.ext(g:Good K mg G F H σ ρ)(eF:aL F F')(eH:aL H H')(sub:aL F' H')(new:∀a o,F' a=some o->F a=some o\/H a=none):Good K mg G F' H' σ ρ where
 sF:=g.sF.trans eF
 sub:=sub
 old:=fun a o e n=>eH _ _ (g.old a o e n)
 new:=fun a o e=>by rcases new a o e with h|h;exact g.new a o h;refine .inr ?_;cases q:G.H₀ a with|none=>rfl|some u=>by_cases z:∃i,(i,a)∈G.io;obtain⟨i,z⟩:=z;obtain⟨⟨w,hw⟩,_⟩:=g.m9 i a z;rw[h] at hw;cases hw;have:=g.old a u q (fun i w=>z ⟨i,w⟩);rw[h] at this;cases this
 len:=g.len
 slot:=fun i s h=>(g.slot i s h).same eF (fun l _ _ hf ⟨o,ho⟩=>by cases q:F' l with|none=>rfl|some u=>rcases new l u q with z|z;rw[hf] at z;cases z;rw[ho] at z;cases z) fun l o _ _ e=>eH _ _ e
 apart:=g.apart
 m9:=fun i a h=>by obtain⟨⟨o,h1⟩,h2,h3⟩:=g.m9 i a h;refine⟨⟨o,eH _ _ h1⟩,?_,h3⟩;cases q:F' a with|none=>rfl|some u=>rcases new a u q with z|z;rw[h2] at z;cases z;rw[h1] at z;cases z
 nH:=g.nH
theorem bg(h:A p=none):aL A (upd A p o):=fun b q e=>by rw[aT (bq e h)];exact e
theorem Good.laid(g:Good K mg G F H σ ρ)(hp:H p=none):Good K mg G (upd F p o) (upd H p o) σ ρ:=by have fp:F p=none:=g.sub.free hp;refine g.ext (bg fp) (bg hp) (fun b q e=>?_) fun a u e=>?_;by_cases hb:b=p;subst hb;rw[aM] at e ⊢;exact e;rw[aT hb] at e ⊢;exact g.sub _ _ e;by_cases hb:a=p;subst hb;exact .inr hp;rw[aT hb] at e;exact .inl e
theorem Good.made(g:Good K mg G F H σ ρ)(hp:H p=none):Good K mg G F (upd H p o) σ ρ:=g.ext (aL.refl _) (bg hp) (g.sub.trans (bg hp)) fun a u e=>.inl e
theorem Good.zP(g:Good K mg G F H σ ρ)(hp:H p=none):G.H₀ p=none:=by cases q:G.H₀ p with|none=>rfl|some u=>by_cases z:∃i,(i,p)∈G.io;obtain⟨i,z⟩:=z;obtain⟨⟨w,hw⟩,_⟩:=g.m9 i p z;rw[hp] at hw;cases hw;have:=g.old p u q (fun i w=>z ⟨i,w⟩);rw[hp] at this;cases this
structure Loose(K:Frag)(mg:MG)(G:Fx)(F H:Hp)(σ:St)(ρ:aQ)(l:Addr)(d:D):Prop where
 nF:F l=none
 n0:G.H₀ l=none
 ob:eG K mg F H l d
 ns:∀(i:Nat)(s:Sl),ρ[i]?=some s->cj s=true->σ[i]?≠some (some (V.ref l))
theorem Good.loose(g:Good K mg G F H σ ρ)(hp:H p=none)(ho:eG K mg F (upd H p o) p d):Loose K mg G F (upd H p o) σ ρ p d where
 nF:=g.sub.free hp
 n0:=g.zP hp
 ob:=ho
 ns:=fun i s h o e=>by obtain⟨l,d,h1,h2,h3,h4⟩:=(g.slot i s h).own o;rw[e] at h1;cases h1;obtain⟨u,hu⟩:=h3.has;rw[hp] at hu;cases hu
theorem Loose.fast(x:Loose K mg G F H σ ρ l d)(g:Good K mg G F H σ ρ):∃F',aL F F'/\Good K mg G F' H σ ρ/\Den K mg F' (.ref l) d:=by
 obtain⟨o,ho⟩:=x.ob.has;refine⟨upd F l o,bg x.nF,?_,x.ob.den ho (bg x.nF) aM⟩;exact {
  sF:=g.sF.trans (bg x.nF)
  sub:=fun b q e=>by by_cases hb:b=l;subst hb;rw[aM] at e;cases e;exact ho;rw[aT hb] at e;exact g.sub _ _ e
  old:=g.old
  new:=fun a u e=>by by_cases hb:a=l;subst hb;exact .inr x.n0;rw[aT hb] at e;exact g.new a u e
  len:=g.len
  slot:=fun i s h=>(g.slot i s h).same (bg x.nF) (fun m hv ow hf _=>by
   have:m≠l:=fun z=>by subst z;refine x.ns i s h ow ?_;cases q:σ[i]? with|none=>rw[q] at hv;cases hv|some w=>rw[q] at hv;exact congrArg some hv
   rw[aT this];exact hf) fun _ _ _ _ e=>e
  apart:=g.apart
  m9:=fun i a h=>by
   obtain⟨h1,h2,u,h3⟩:=g.m9 i a h;refine⟨h1,?_,u,h3⟩;have:a≠l:=fun z=>by subst z;rw[x.n0] at h3;cases h3
   rw[aT this];exact h2
  nH:=g.nH}
theorem join_some{σ:St}{i:Nat}{v:V}(h:σ[i]?.join=some v):σ[i]?=some (some v):=by cases q:σ[i]? with|none=>rw[q] at h;cases h|some w=>rw[q] at h;exact congrArg some h
theorem Good.store(g:Good K mg G F H σ ρ)(hf:free ρ[i]?=true)(hs:tG K mg G F H i (some v) s')(Vp:cj s'=true->∀(j:Nat)(s:Sl),ρ[j]?=some s->cj s=true->j≠i->σ[j]?≠some (some v)):Good K mg G F H (σ.set i (some v)) (ρ.set i s') where
 sF:=g.sF
 sub:=g.sub
 old:=g.old
 new:=g.new
 len:=by simp[g.len]
 slot:=fun j s h=>by
  by_cases hj:j=i;subst hj;have hi:j<ρ.length:=by cases q:ρ[j]? with|none=>rw[q] at hf;cases hf|some w=>exact(List.getElem?_eq_some_iff.mp q).1
  rw[Zg hi] at h;cases h;rw[Zg (by rw[g.len];exact hi)];exact hs;rw[Ze (Zo hj)] at h ⊢;exact g.slot j s h
 apart:=fun j k l s t h1 h2 o1 o2 e1 e2=>by
  by_cases hj:j=i;by_cases hk:k=i;rw[hj,hk];subst hj;rw[Ze (Zo hk)] at h2 e2;have hi:j<ρ.length:=by cases q:ρ[j]? with|none=>rw[q] at hf;cases hf|some w=>exact(List.getElem?_eq_some_iff.mp q).1
  rw[Zg hi] at h1;cases h1;rw[Zg (by rw[g.len];exact hi)] at e1;cases e1;exact absurd e2 (Vp o1 k t h2 o2 hk);rw[Ze (Zo hj)] at h1 e1;by_cases hk:k=i;subst hk;have hi:k<ρ.length:=by cases q:ρ[k]? with|none=>rw[q] at hf;cases hf|some w=>exact(List.getElem?_eq_some_iff.mp q).1
  rw[Zg hi] at h2;cases h2;rw[Zg (by rw[g.len];exact hi)] at e2;cases e2;exact absurd e1 (Vp o2 j s h1 o1 hj);rw[Ze (Zo hk)] at h2 e2;exact g.apart j k l s t h1 h2 o1 o2 e1 e2
 m9:=g.m9
 nH:=g.nH
theorem Good.write(g:Good K mg G F H σ ρ)(hr:ρ[i]?=some s)(ho:cj s=true)(hl:σ[i]?=some (some (V.ref l)))(hs:(∃e,s=.ow e/\s'=.ow d)\/(∃e,s=.io e/\s'=.io d)) (hd:eG K mg F (upd H l o) l d):Good K mg G F (upd H l o) σ (ρ.set i s'):=by
 have nF:F l=none:=by obtain⟨m,e,h1,h2,h3,_⟩:=(g.slot i s hr).own ho;rw[hl] at h1;cases h1;exact h2
 have hi:i<ρ.length:=(List.getElem?_eq_some_iff.mp hr).1;have YW:cj s'=true:=by rcases hs with ⟨e,_,rfl⟩|⟨e,_,rfl⟩<;>rfl
 exact {
  sF:=g.sF
  sub:=fun b q e=>by have:b≠l:=bq e nF;rw[aT this];exact g.sub _ _ e
  old:=fun a q e n=>by
   have:a≠l:=fun z=>by
    subst z;have k:=g.slot i s hr;rcases hs with ⟨e',rfl,_⟩|⟨e',rfl,_⟩
    obtain⟨m,h1,h2,h3,_⟩:=k;rw[hl] at h1;cases h1;rw[e] at h3;cases h3;obtain⟨m,h1,h2,h3,_⟩:=k;rw[hl] at h1;cases h1;exact n i h2
   rw[aT this];exact g.old a q e n
  new:=g.new
  len:=by simp[g.len]
  slot:=fun j t h=>by
   by_cases hj:j=i;subst hj;rw[Zg hi] at h;cases h;have k:=g.slot j s hr;rcases hs with ⟨e',rfl,rfl⟩|⟨e',rfl,rfl⟩
   obtain⟨m,h1,h2,h3,_⟩:=k;rw[hl] at h1;cases h1;rw[hl];exact⟨l,rfl,h2,h3,hd⟩;obtain⟨m,h1,h2,h3,_⟩:=k;rw[hl] at h1;cases h1;rw[hl];exact⟨l,rfl,h2,h3,hd⟩;rw[Ze (Zo hj)] at h;refine(g.slot j t h).same (aL.refl _) (fun _ _ _ z _=>z) fun m q hv ow e=>?_;have:m≠l:=fun z=>by subst z;exact hj (g.apart j i m t s h hr ow ho (join_some hv) hl)
   rw[aT this];exact e
  apart:=fun j k m t u h1 h2 o1 o2 e1 e2=>by
   have f:∀{j:Nat}{t:Sl},(ρ.set i s')[j]?=some t->cj t=true->∃t',ρ[j]?=some t'/\cj t'=true:=fun {j t} h o=>by by_cases hj:j=i;subst hj;exact⟨s,hr,ho⟩;rw[Ze (Zo hj)] at h;exact⟨t,h,o⟩
   obtain⟨t',a1,a2⟩:=f h1 o1;obtain⟨u',b1,b2⟩:=f h2 o2;exact g.apart j k m t' u' a1 b1 a2 b2 e1 e2
  m9:=fun j a h=>by obtain⟨⟨q,h1⟩,h2,h3⟩:=g.m9 j a h;refine⟨?_,h2,h3⟩;by_cases ha:a=l;subst ha;exact⟨o,aM⟩;exact⟨q,by rw[aT ha];exact h1⟩
  nH:=g.nH}
theorem Good.fz{i:Nat}{d:D}(g:Good K mg G F H σ ρ)(hr:ρ[i]?=some (.ow d)):∃F',aL F F'/\Good K mg G F' H σ (ρ.set i (.sh d)):=by
 obtain⟨l,h1,h2,h3,h4⟩:=g.slot i _ hr;have hl:=join_some h1;have hi:i<ρ.length:=(List.getElem?_eq_some_iff.mp hr).1;obtain⟨o,ho⟩:=h4.has;refine⟨upd F l o,bg h2,?_⟩;exact {
  sF:=g.sF.trans (bg h2)
  sub:=fun b q e=>by by_cases hb:b=l;subst hb;rw[aM] at e;cases e;exact ho;rw[aT hb] at e;exact g.sub _ _ e
  old:=g.old
  new:=fun a u e=>by by_cases hb:a=l;subst hb;exact .inr h3;rw[aT hb] at e;exact g.new a u e
  len:=by simp[g.len]
  slot:=fun j s h=>by
   by_cases hj:j=i;subst hj;rw[Zg hi] at h;cases h;exact⟨_,h1,h4.den ho (bg h2) aM⟩;rw[Ze (Zo hj)] at h;refine(g.slot j s h).same (bg h2) (fun m hv ow hf _=>?_) fun _ _ _ _ e=>e;have:m≠l:=fun z=>by subst z;exact hj (g.apart j i m s _ h hr ow rfl (join_some hv) hl)
   rw[aT this];exact hf
  apart:=fun j k m t u h1 h2 o1 o2 e1 e2=>by
   have f:∀{j:Nat}{t:Sl},(ρ.set i (.sh d))[j]?=some t->cj t=true->ρ[j]?=some t:=fun {j t} h o=>by by_cases hj:j=i;subst hj;rw[Zg hi] at h;cases h;cases o;rw[Ze (Zo hj)] at h;exact h
   exact g.apart j k m t u (f h1 o1) (f h2 o2) o1 o2 e1 e2
  m9:=fun j a h=>by
   obtain⟨q1,q2,u,q3⟩:=g.m9 j a h;refine⟨q1,?_,u,q3⟩;have:a≠l:=fun z=>by subst z;rw[h3] at q3;cases q3
   rw[aT this];exact q2
  nH:=g.nH}
end
def XR(K:Frag)(mg:MG)(F H:Hp)(c:Value)(dx:Ng)(x:Xn):Prop:=∃C,c=.ref C/\mg x.cls=some (.ref C)/\∃fs:List (Str×V),((dx=none/\fs=[])\/∃a,dx=some a/\F a=some (.xd fs))/\fs.map (·.1)=x.ns/\aK K mg F (fs.map (·.2)) x.vs
abbrev XE:=St->XK
structure Lc where
 K:Frag
 mg:MG
 EX:XE
def Out{α:Type}:Res α->(α->aQ->Prop)->(Xn->aQ->Prop)->Prop|.ok a r,P,_=>P a r|.exc x r,_,E=>E x r|.no,_,_=>False
theorem Out.YV{α β:Type}{f:M α}{g:α->M β}{P:β->aQ->Prop}(h:Out (YV f g r) P E):Out (f r) (fun a r'=>Out (g a r') P E) E:=by unfold VP.YV at h;cases q:f r with|ok a r'=>rw[q] at h;exact h|exc x r'=>rw[q] at h;exact h|no=>rw[q] at h;exact h
theorem Out.mono{α:Type}{r:Res α}{P P':α->aQ->Prop}(h:Out r P E)(hP:∀a r,P a r->P' a r)(hE:∀x r,E x r->E' x r):Out r P' E':=by cases r with|ok a r=>exact hP _ _ h|exc x r=>exact hE _ _ h|no=>exact h
theorem Out.opt{α:Type}{o:Option α}{P:α->aQ->Prop}(h:Out (opt o r) P E):∃a,o=some a/\P a r:=by cases o with|none=>exact h.elim|some a=>exact⟨a,rfl,h⟩
theorem Out.ite{α:Type}{f g:M α}{P:α->aQ->Prop}(h:Out ((if b then f else g) r) P E):(b=true/\Out (f r) P E)\/(b=false/\Out (g r) P E):=by cases b with|true=>exact .inl ⟨rfl,h⟩|false=>exact .inr ⟨rfl,h⟩
abbrev Rl(α β:Type):=Fx->Hp->Hp->St->aQ->β->α->Prop
section
variable(L:Lc)
abbrev Lc.Good(G:Fx)(F H:Hp)(σ:St)(ρ:aQ):Prop:=VS.Good L.K L.mg G F H σ ρ
def RV:Rl D V:=fun _ F _ _ _ v d=>Den L.K L.mg F v d
def RR:Rl D V:=fun _ F H _ _ v d=>Den L.K L.mg F v d\/∃l,v=.ref l/\eG L.K L.mg F H l d
def RF:Rl D V:=fun G F H σ ρ v d=>∃l,v=.ref l/\Loose L.K L.mg G F H σ ρ l d
def RB:Rl Bool Bool:=fun _ _ _ _ _ b a=>b=a
def RL:Rl (List D) (List V):=fun _ F _ _ _ vs ds=>aK L.K L.mg F vs ds
def cY(G:Fx)(F:Hp)(σ:St):Xn->aQ->Prop:=fun x bO=>∀F' H' c dx,aL F F'->L.Good G F' H' σ bO->XR L.K L.mg F' H' c dx x->L.EX σ c dx H'
def eM{α β:Type}(R:Rl α β)(G:Fx)(F:Hp)(σ:St)(Q:β->Hp->Prop):α->aQ->Prop:=fun a bO=>∀F' H' b,aL F F'->L.Good G F' H' σ bO->R G F' H' σ bO b a->Q b H'
def lift{α β:Type}(R:Rl α β)(f:M α):St->Hp->(β->Hp->Prop)->Prop:=fun σ H Q=>∃G F ρ,L.Good G F H σ ρ/\Out (f ρ) (eM L R G F σ Q) (cY L G F σ)
end
section
variable{L:Lc}{α β γ:Type}{G:Fx}{F F1 H:Hp}{σ:St}{ρ:aQ}
theorem aV{Ra:Rl α β}{f:M α}{g:α->M γ}{P:γ->aQ->Prop}{W:β->Hp->Prop}(g0:L.Good G F H σ ρ)(o:Out (YV f g ρ) P E)(hE:∀x r,E x r->cY L G F σ x r)(k:∀F1 H1 bo a b,aL F F1->L.Good G F1 H1 σ bo->Ra G F1 H1 σ bo b a->Out (g a bo) P E->W b H1):lift L Ra f σ H W:=
 ⟨G,F,ρ,g0,o.YV.mono (fun a bo q F1 H1 b e g1 r=>k F1 H1 bo a b e g1 r q) hE⟩
theorem lf{Ra:Rl α β}{f:M α}{Q:β->Hp->Prop}{C:Prop}(h:lift L Ra f σ H Q)(k:∀G F ρ,L.Good G F H σ ρ->Out (f ρ) (eM L Ra G F σ Q) (cY L G F σ)->C):C:=by obtain⟨G,F,ρ,g0,o⟩:=h;exact k G F ρ g0 o
theorem dg{δ:Type}{Ra:Rl α β}{Rb:Rl γ δ}{f:M α}{g:α->M γ}{Q:δ->Hp->Prop}{W:β->Hp->Prop}(h:lift L Rb (YV f g) σ H Q)(k:∀G F F1 H1 bo a b,aL F F1->L.Good G F1 H1 σ bo->Ra G F1 H1 σ bo b a->Out (g a bo) (eM L Rb G F σ Q) (cY L G F σ)->W b H1):lift L Ra f σ H W:=
 lf h fun G F ρ g0 o=>aV g0 o (fun x r q=>q) (k G F)
theorem cY.same(e:aL F F1)(h:cY L G F σ x r):cY L G F1 σ x r:=fun F' H' c dx s g q=>h F' H' c dx (e.trans s) g q
theorem eM.same{R:Rl α β}{Q:β->Hp->Prop}(e:aL F F1){a:α}(h:eM L R G F σ Q a r):eM L R G F1 σ Q a r:=fun F' H' b s g q=>h F' H' b (e.trans s) g q
end
abbrev lc(X:Cx)(EX:XE):Lc:=⟨X.K,X.mg,EX⟩
def PV(X:Cx)(EX:XE)(e:Expr)(f:M D):Prop:=PE X e (lift (lc X EX) (RV (lc X EX)) f)
def PR(X:Cx)(EX:XE)(e:Expr)(f:M D):Prop:=PE X e (lift (lc X EX) (RR (lc X EX)) f)
def PF(X:Cx)(EX:XE)(e:Expr)(f:M D):Prop:=PE X e (lift (lc X EX) (RF (lc X EX)) f)
def PB(X:Cx)(EX:XE)(e:Expr)(f:M Bool):Prop:=PT X e (lift (lc X EX) RB f)
def yW(X:Cx)(EX:XE)(es:Rz)(f:M (List D)):Prop:=PA X es (lift (lc X EX) (RL (lc X EX)) f)
theorem _root_.L2.PE.le(h:PE X e t)(k:∀σ H Q,t' σ H Q->t σ H Q):PE X e t':=fun QF s σ H Q I q=>h QF s σ H Q I (k _ _ _ q)
theorem _root_.L2.PT.le(h:PT X e t)(k:∀σ H Q,t' σ H Q->t σ H Q):PT X e t':=fun QF s σ H Q I q=>h QF s σ H Q I (k _ _ _ q)
theorem _root_.L2.PA.le(h:PA X es t)(k:∀σ H Q,t' σ H Q->t σ H Q):PA X es t':=fun pos QF s σ H Q I q=>h pos QF s σ H Q I (k _ _ _ q)
theorem _root_.L2.PS.le(h:PS X e t)(k:∀D σ H,t' D σ H->t D σ H):PS X e t':=fun QF s σ H D I q=>h QF s σ H D I (k _ _ _ q)
theorem _root_.L2.vg.le(h:vg X e t)(k:∀D σ H,t' D σ H->t D σ H):vg X e t':=fun QF s σ H D I q=>h QF s σ H D I (k _ _ _ q)
section
variable{X:Cx}{EX:XE}{e a b c:Expr}{f fa fb fc:M D}{pos:Pos}
theorem PV.rd(h:PV X EX e f):PR X EX e f:=h.le fun σ H Q ⟨G,F,ρ,g,o⟩=>⟨G,F,ρ,g,o.mono (fun a r q F' H' b s g' d=>q F' H' b s g' (.inl d)) fun x r q=>q⟩
theorem PF.pv(h:PF X EX e f):PV X EX e f:=h.le fun σ H Q ⟨G,F,ρ,g,o⟩=>⟨G,F,ρ,g,o.mono (fun a r q F' H' b s g' zz=>by obtain⟨l,e,d⟩:=zz;subst e;obtain⟨F2,s2,g2,d2⟩:=d.fast g';exact q F2 H' _ (s.trans s2) g2 d2) fun x r q=>q⟩
theorem aa(i:Nat){x:Str}(hN:X.N[i]?=some x:=by rfl)(hv:xc X.env.scope x:=by exact ZK)(hd:Y3 x:=by decide)(j9:Y4 x:=by decide):PV X EX (.Name x pos) (af i):=
 (gQ hN hv hd j9).le fun σ H Q zz=>by obtain⟨G,F,ρ,g,o⟩:=zz;unfold af at o;cases q:ρ[i]? with|none=>rw[q] at o;exact o.elim|some s=>rw[q] at o;cases s with|sh d=>obtain⟨u,h1,h2⟩:=g.slot i _ q;exact⟨u,join_some h1,o F H u (aL.refl _) g h2⟩|_=>exact o.elim
theorem iN(i:Nat){x:Str}(hN:X.N[i]?=some x:=by rfl)(hv:xc X.env.scope x:=by exact ZK)(hd:Y3 x:=by decide)(j9:Y4 x:=by decide):PR X EX (.Name x pos) (yw i):=
 (gQ hN hv hd j9).le fun σ H Q zz=>by obtain⟨G,F,ρ,g,o⟩:=zz;unfold yw at o;cases q:ρ[i]? with|none=>rw[q] at o;exact o.elim|some s=>rw[q] at o;have k:=g.slot i _ q;cases s with|no=>exact o.elim|sh d=>obtain⟨u,h1,h2⟩:=k;exact⟨u,join_some h1,o F H u (aL.refl _) g (.inl h2)⟩|ow d=>obtain⟨l,h1,h2,h3,h4⟩:=k;exact⟨_,join_some h1,o F H _ (aL.refl _) g (.inr ⟨l,rfl,h4⟩)⟩|io d=>obtain⟨l,h1,h2,h3,h4⟩:=k;exact⟨_,join_some h1,o F H _ (aL.refl _) g (.inr ⟨l,rfl,h4⟩)⟩
theorem uQ(h:PE X e t)(k:∀σ H Q,Q v H->t σ H Q)(hd:∀F,Den X.K X.mg F v d):PV X EX e (mC d):=h.le fun σ H Q ⟨G,F,ρ,g,o⟩=>k σ H Q (o F H v (aL.refl _) g (hd F))
theorem aj{j}:PV X EX (.Constant (.int i) j pos) (mC (.int i)):=uQ L3 (fun _ _ _ q=>q) fun _=>.int i
theorem lu{j}:PV X EX (.Constant (.bool i) j pos) (mC (.bl i)):=uQ Ql (fun _ _ _ q=>q) fun _=>.bl i
theorem bV{j}:PV X EX (.Constant .none j pos) (mC .bz):=uQ L6 (fun _ _ _ q=>q) fun _=>.bz
theorem az{j}:PV X EX (.Constant (.str i) j pos) (mC (.str i)):=uQ L8 (fun _ _ _ q=>q) fun _=>.str i
abbrev Em(L:Lc)(G:Fx)(F:Hp)(σ:St)(ρ:aQ)(d:D)(Q:VK):Prop:=∀F' H' v,aL F F'->L.Good G F' H' σ ρ->Den L.K L.mg F' v d->Q v H'
def ki(L:Lc)(r:R2)(g:D->D->S4):Prop:=∀G F H σ ρ x y dx dy d Q,L.Good G F H σ ρ->Den L.K L.mg F x dx->Den L.K L.mg F y dy->g dx dy=some d->Em L G F σ ρ d Q->r x y H Q
def U6(L:Lc)(r:V->Hp->VK->Prop)(g:D->S4):Prop:=∀G F H σ ρ x dx d Q,L.Good G F H σ ρ->RR L G F H σ ρ x dx->g dx=some d->Em L G F σ ρ d Q->r x H Q
def Ri(L:Lc)(r:NC->Hp->VK->Prop)(g:Sg->S4):Prop:=∀G F H σ ρ xs RE d Q,L.Good G F H σ ρ->aK L.K L.mg F xs RE->g RE=some d->Em L G F σ ρ d Q->r xs H Q
theorem gr(hg:ki (lc X EX) r g)(ha:∀σ H Q,lift (lc X EX) (RV (lc X EX)) fa σ H Q->ta σ H Q)(hb:∀σ H Q,lift (lc X EX) (RV (lc X EX)) fb σ H Q->tb σ H Q)(σ:St) (H:Hp) (Q:VK) (h:lift (lc X EX) (RV (lc X EX)) (m2 g fa fb) σ H Q):NB r ta tb σ H Q:=by obtain⟨G,F,ρ,g0,o⟩:=h;refine ha _ _ _ (aV g0 o (fun x r q=>q) fun F1 H1 bo d1 x s1 g1 r1 o1=>?_);refine hb _ _ _ (aV g1 o1 (fun x r q=>q.same s1) fun F2 H2 mR d2 y s2 g2 r2 o2=>?_);obtain⟨d,e,q⟩:=o2.opt;exact hg G F2 H2 σ mR x y d1 d2 d Q g2 (r1.same s2) r2 e (eM.same (s1.trans s2) q)
theorem aF(ho:fZ X (binaryOp op) r)(hg:ki (lc X EX) r g)(ha:PV X EX a fa)(hb:PV X EX b fb):PV X EX (.BinOp a op b pos) (m2 g fa fb):=(Qm ho ha hb).le (gr hg (fun _ _ _ q=>q) fun _ _ _ q=>q)
theorem gx(ho:fZ X (compareOp op) r)(hg:ki (lc X EX) r g)(ha:PV X EX a fa)(hb:PV X EX b fb)(hm:behindInMarks op b=false):PV X EX (.Compare a [op] [b] pos) (m2 g fa fb):=(FV ho ha hb hm).le (gr hg (fun _ _ _ q=>q) fun _ _ _ q=>q)
theorem nv(ho:Rv X (unaryOp op) r)(hg:U6 (lc X EX) r g)(ha:PV X EX a fa):PV X EX (.UnaryOp op a pos) (m1 g fa):=(Qo ho ha).le fun σ H Q bA=>dg bA fun G F F1 H1 bo d1 x s1 g1 r1 o1=>by obtain⟨d,e,q⟩:=o1.opt;exact hg G F1 H1 σ bo x d1 d Q g1 (.inl r1) e (eM.same s1 q)
theorem bf(h:PV X EX a fa)(he:∀whole,isTrue a X.env whole=(do let v <-whole;standAt a.pos;holding [v] (truthy v)):=by exact ZP):PB X EX a (tB fa):=(Q1N h he).le fun σ H Q bA=>dg bA fun G F F1 H1 bo d1 x s1 g1 r1 o1=>by cases d1 with|bl k=>obtain rfl:=Den.b r1;exact⟨k,rfl,o1 F1 H1 k s1 g1 rfl⟩|_=>exact o1.elim
theorem cb{op:CmpOp}{r:R2}{g:D->D->S4}(ho:fZ X (compareOp op) r)(hg:ki (lc X EX) r g)(ha:PV X EX a fa)(hb:PV X EX b fb)(hm:behindInMarks op b=false):PB X EX (.Compare a [op] [b] pos) (tB (m2 g fa fb)):=(yJ ho ha hb hm).le fun σ H Q bA=>lf bA fun G F ρ g0 o=>by refine gr hg (fun _ _ _ q=>q) (fun _ _ _ q=>q) σ H _ (aV g0 o (fun x r q=>q) fun F1 H1 bo d1 x s1 g1 r1 o1=>?_);cases d1 with|bl k=>obtain rfl:=Den.b r1;exact⟨k,rfl,o1 F1 H1 k s1 g1 rfl⟩|_=>exact o1.elim
variable{f1 f2:M Bool}{rest:Rz}
def lK(X:Cx)(EX:XE)(e:Expr)(f:M Bool):Prop:=PW X e (lift (lc X EX) RB f)
theorem _root_.L2.PW.le(h:PW X e t)(k:∀σ H Q,t' σ H Q->t σ H Q):PW X e t':=fun w QF s σ H Q I q=>h w QF s σ H Q I (k _ _ _ q)
theorem lK.pb(h:lK X EX e f1):PB X EX e f1:=PW.pt h
theorem iL(h:PB X EX a f1):PB X EX (.UnaryOp .Not a pos) (lD f1):=(Mj h).le fun σ H Q bA=>dg bA fun G F F1 H1 bo d1 x s1 g1 r1 o1=>by cases r1;exact o1 F1 H1 _ s1 g1 rfl
theorem jO(h:PB X EX a f1):lK X EX (.BoolOp .And [a] pos) f1:=GF h
theorem eS(h:PB X EX a f1):lK X EX (.BoolOp .Or [a] pos) f1:=Q1Y h
theorem jt(h1:PB X EX a f1)(h2:lK X EX (.BoolOp .And (b::rest) pos) f2):lK X EX (.BoolOp .And (a::b::rest) pos) (kF f1 f2):=L2.PW.le (Mo h1 h2) fun σ H Q bA=>dg bA fun G F F1 H1 bo d1 x s1 g1 r1 o1=>by
 cases r1;rcases o1.ite with ⟨e,o2⟩|⟨e,o2⟩
 subst e;exact vU ⟨G,F1,bo,g1,o2.mono (fun _ _=>eM.same s1) fun _ _=>cY.same s1⟩;subst e;exact vT (o2 F1 H1 false s1 g1 rfl)
theorem gu(h1:PB X EX a f1)(h2:lK X EX (.BoolOp .Or (b::rest) pos) f2):lK X EX (.BoolOp .Or (a::b::rest) pos) (qo f1 f2):=L2.PW.le (Qv h1 h2) fun σ H Q bA=>dg bA fun G F F1 H1 bo d1 x s1 g1 r1 o1=>by
 cases r1;rcases o1.ite with ⟨e,o2⟩|⟨e,o2⟩
 subst e;exact vU (o2 F1 H1 true s1 g1 rfl);subst e;exact vT ⟨G,F1,bo,g1,o2.mono (fun _ _=>eM.same s1) fun _ _=>cY.same s1⟩
theorem kh(hc:PB X EX c f1)(ha:PV X EX a fa)(hb:PV X EX b fb):PV X EX (.IfExp c a b pos) (yv f1 fa fb):=(Dh hc ha hb).le fun σ H Q bA=>dg bA fun G F F1 H1 bo d1 x s1 g1 r1 o1=>by
 cases r1;rcases o1.ite with ⟨e,o2⟩|⟨e,o2⟩
 subst e;exact vU ⟨G,F1,bo,g1,o2.mono (fun _ _=>eM.same s1) fun _ _=>cY.same s1⟩;subst e;exact vT ⟨G,F1,bo,g1,o2.mono (fun _ _=>eM.same s1) fun _ _=>cY.same s1⟩
theorem mE{op}(h:PV X EX a fa):PV X EX (.BoolOp op [a] pos) fa:=L7 h
theorem sQ(ha:PV X EX a fa)(hb:PV X EX (.BoolOp .And (b::rest) pos) fb):PV X EX (.BoolOp .And (a::b::rest) pos) (ni fa fb):=(Q1P ha hb).le fun σ H Q bA=>dg bA fun G F F1 H1 bo d1 x s1 g1 r1 o1=>by
 cases d1 with
 |bl k=>obtain rfl:=Den.b r1;refine⟨k,rfl,?_⟩;cases k with|true=>exact vU ⟨G,F1,bo,g1,Out.mono o1 (fun _ _=>eM.same s1) fun _ _=>cY.same s1⟩|false=>exact vT (o1 F1 H1 _ s1 g1 (.bl _))
 |_=>exact o1.elim
theorem ID(ha:PV X EX a fa)(hb:PV X EX (.BoolOp .Or (b::rest) pos) fb):PV X EX (.BoolOp .Or (a::b::rest) pos) (zH fa fb):=(Qn ha hb).le fun σ H Q bA=>dg bA fun G F F1 H1 bo d1 x s1 g1 r1 o1=>by
 cases d1 with
 |bl k=>obtain rfl:=Den.b r1;refine⟨k,rfl,?_⟩;cases k with|true=>exact vU (o1 F1 H1 _ s1 g1 (.bl _))|false=>exact vT ⟨G,F1,bo,g1,Out.mono o1 (fun _ _=>eM.same s1) fun _ _=>cY.same s1⟩
 |_=>exact o1.elim
variable{es:Rz}{fs:M (List D)}
theorem aw:yW X EX [] (mL []):=fL.le fun σ H Q bA=>lf bA fun G F ρ g0 o=>o F H [] (aL.refl _) g0 .nil
theorem ai(ha:PV X EX a fa)(hr:yW X EX es (mL fl))(hs:ZC X a es:=by rfl):yW X EX (a::es) (mL (fa::fl)):=(cu ha hr hs).le fun σ H Q bA=>dg bA fun G F F1 H1 bo d1 x s1 g1 r1 o1=>aV g1 o1 (fun x r q=>q.same s1) fun F2 H2 mR d2 y s2 g2 r2 o2=>o2 F2 H2 _ (s1.trans s2) g2 (.cons (r1.same s2) r2)
theorem Ha(h:Ad ds=some d):ds.length<=sizeLine/\d=.tup ds:=by unfold Ad at h;split at h;cases h;exact⟨by rw[Up];assumption,rfl⟩;cases h
theorem Fh(h:zC ds=some d):ds.length<=sizeLine/\d=.lst ds:=by unfold zC at h;split at h;cases h;exact⟨by rw[Up];assumption,rfl⟩;cases h
theorem aH{fl:List (M D)}{x1}(h:yW X EX es (mL fl)):PV X EX (.Tuple es x1 pos) (bc fl):=(Dj h).le fun σ H Q bA=>lf bA fun G F ρ g0 o=>aV g0 o (fun x r q=>q) fun F1 H1 bo d1 xs s1 g1 r1 o1=>by obtain⟨d,e,q⟩:=o1.opt;obtain⟨hl,rfl⟩:=Ha e;refine⟨by rw[aK.length r1];exact hl,fun p hp=>?_⟩;have sF:=bg (o:=.tup xs) (g1.sub.free hp);exact q _ _ _ (s1.trans sF) (g1.laid hp) (.tup (dj.of aM) (aK.same sF r1))
theorem bD(h:yW X EX es (mL fl)):PF X EX (.List es pos) (du fl):=(L4 h).le fun σ H Q bA=>dg bA fun G F F1 H1 bo d1 xs s1 g1 r1 o1=>by obtain⟨d,e,q⟩:=o1.opt;obtain⟨hl,rfl⟩:=Fh e;refine⟨by rw[aK.length r1];exact hl,fun p hp=>?_⟩;exact q _ _ _ s1 (g1.made hp) ⟨p,rfl,g1.loose hp ⟨xs,aM,r1⟩⟩
variable{x:Str}{p:Pos}{id T:String}{r:NC->Hp->VK->Prop}{g:Sg->S4}
theorem lx(hc:dO X (.builtin id) r)(hg:Ri (lc X EX) r g)(qU:Gl X x)(hm:X.mg x=none)(hv:bootBuiltins x=some (.builtin id))(ha:yW X EX (e::es) (mL fl))(hn:x≠"__name__" := by decide)(i9:Y3 x:=by decide)(he:ZC X e es:=by rfl) (jc:ZE X pos es:=by rfl):PV X EX (.Call (.Name x p) (e::es) [] pos) (mF g fl):=
 (ju hc qU hm hv ha hn i9 he jc).le fun σ H Q bA=>dg bA fun G F F1 H1 bo d1 xs s1 g1 r1 o1=>by obtain⟨d,e,q⟩:=o1.opt;exact hg G F1 H1 σ bo xs d1 d Q g1 r1 e (eM.same s1 q)
end
section
variable(L:Lc)
def cL(G:Fx)(F:Hp):Xn->aQ->Prop:=fun x bO=>∀F' H' bx c dx,aL F F'->L.Good G F' H' bx bO->XR L.K L.mg F' H' c dx x->L.EX bx c dx H'
def f9(G:Fx)(F:Hp)(E:Ends):Fl->aQ->Prop:=fun k bO=>match k with|.nx=>∀F' H' bx,aL F F'->L.Good G F' H' bx bO->E.nx bx H'|.bk=>∀F' H' bx,aL F F'->L.Good G F' H' bx bO->E.bk bx H'|.ct=>∀F' H' bx,aL F F'->L.Good G F' H' bx bO->E.ct bx H'|.rt d=>∀F' H' bx v,aL F F'->L.Good G F' H' bx bO->Den L.K L.mg F' v d->E.rt v H'
def yt(f:M Fl):TS:=fun E σ H=>∃G F ρ,L.Good G F H σ ρ/\Out (f ρ) (f9 L G F E) (cL L G F)
def Q0G(js:XT)(g:D->M Unit):TG:=fun v σ H Q=>∃G F ρ d,L.Good G F H σ ρ/\Den L.K L.mg F v d/\Out (g d ρ) (fun _ bO=>∀F' H' bx,aL F F'->L.Good G F' H' bx bO->(∀j,j∉js->bx[j]?=σ[j]?)->Q bx H') (fun _ _=>False)
def D5(G:Fx)(F:Hp)(J:It)(ds:Sg):Prop:=∀σ i F' H' ρ,aL F F'->L.Good G F' H' σ ρ->(i<ds.length->J.go i H')/\(i=ds.length->J.stop i H')/\∀x D4,J.Ss i H' x D4->∃SA,aL F' SA/\L.Good G SA D4 σ ρ/\∀d,ds[i]?=some d->Den L.K L.mg SA x d
def RI:Rl (List D) It:=fun G F _ _ _ J ds=>D5 L G F J ds
end
section
variable{L:Lc}
theorem vW{f:M Fl}{E:Ends}{σ:St}{H:Hp}{C:Prop}(h:yt L f E σ H)(k:∀G F ρ,L.Good G F H σ ρ->Out (f ρ) (f9 L G F E) (cL L G F)->C):C:=by obtain⟨G,F,ρ,g0,o⟩:=h;exact k G F ρ g0 o
end
def mS(X:Cx)(EX:XE)(st:Stmt)(f:M Fl):Prop:=PS X st (yt (lc X EX) f)
def lN(X:Cx)(EX:XE)(st:List Stmt)(f:M Fl):Prop:=vg X st (yt (lc X EX) f)
def w8(X:Cx)(EX:XE)(tg:Expr)(js:XT)(g:D->M Unit):Prop:=PG X tg (Q0G (lc X EX) js g)
def tw(X:Cx)(EX:XE)(tg Om:Expr)(f:M (List D)):Prop:=PI X tg Om (lift (lc X EX) (RI (lc X EX)) f)
theorem _root_.L2.PG.le(h:PG X tg t)(k:∀v σ H Q,t' v σ H Q->t v σ H Q):PG X tg t':=fun QF s σ H v u Q I r q=>h QF s σ H v u Q I r (k _ _ _ _ q)
theorem _root_.L2.PI.le(h:PI X tg it t)(k:∀σ H Q,t' σ H Q->t σ H Q):PI X tg it t':=fun QF s σ H R I q=>h QF s σ H R I (k _ _ _ q)
section
variable{X:Cx}{EX:XE}{st:Stmt}{rest:List Stmt}{e a b c tg:Expr}{fe fa fb:M D}{f g:M Fl}{pos:Pos}
theorem cL.x{L:Lc}{G:Fx}{F:Hp}{σ:St}{x:Xn}{r:aQ}(h:cL L G F x r):cY L G F σ x r:=fun F' H' c dx s g q=>h F' H' σ c dx s g q
theorem cL.same{L:Lc}{G:Fx}{F F1:Hp}(e:aL F F1){x:Xn}{r:aQ}(h:cL L G F x r):cL L G F1 x r:=fun F' H' bx c dx s g q=>h F' H' bx c dx (e.trans s) g q
theorem f9.same(e:aL F F1)(h:f9 L G F E k r):f9 L G F1 E k r:=by cases k with|nx=>exact fun F' H' bx s g=>h F' H' bx (e.trans s) g|bk=>exact fun F' H' bx s g=>h F' H' bx (e.trans s) g|ct=>exact fun F' H' bx s g=>h F' H' bx (e.trans s) g|rt d=>exact fun F' H' bx v s g=>h F' H' bx v (e.trans s) g
theorem ah:lN X EX [] aA:=Gs.le fun E σ H bA=>vW bA fun G F ρ g0 o=>o F H σ (aL.refl _) g0
theorem ae(h1:mS X EX st f)(h2:lN X EX rest g):lN X EX (st::rest) (ak f g):=(Q0t h1 h2).le fun E σ H bA=>vW bA fun G F ρ g0 o=>⟨G,F,ρ,g0,o.YV.mono (fun k r q=>by cases k with|nx=>exact fun F' H' bx s g'=>⟨G,F',r,g',Out.mono q (fun _ _=>f9.same s) fun _ _=>cL.same s⟩|bk=>exact q|ct=>exact q|rt d=>exact q) fun _ _ q=>q⟩
theorem i7{i:Nat}(h:mS X EX st f):mS X EX st (vj i f):=h.le fun E σ H bA=>vW bA fun G F ρ g0 o=>by unfold vj VP.YV Nx at o;cases q:ρ[i]? with|none=>simp only[q] at o;exact o.elim|some s=>simp only[q] at o;cases s with|no=>exact o.elim|io d=>exact o.elim|sh d=>exact⟨G,F,ρ,g0,o⟩|ow d=>obtain⟨F',s,g1⟩:=Good.fz g0 q;exact⟨G,F',_,g1,Out.mono o (fun _ _=>f9.same s) fun _ _=>cL.same s⟩
theorem lI(he:PV X EX e fe)(hs:swapsWith e none pos.line X.env=pure false:=by rfl):mS X EX (.Expr e pos) (rk fe):=(sN he hs).le fun E σ H bA=>vW bA fun G F ρ g0 o=>aV g0 o (fun x r q=>q.x) fun F1 H1 bo d1 x s1 g1 r1 o1=>o1 F1 H1 σ s1 g1
theorem ar(he:PV X EX e fe):mS X EX (.Return (some e) pos) (aC fe):=(Mh he).le fun E σ H bA=>vW bA fun G F ρ g0 o=>aV g0 o (fun x r q=>q.x) fun F1 H1 bo d1 x s1 g1 r1 o1=>o1 F1 H1 σ x s1 g1 r1
theorem aB(hc:PB X EX c f1)(ha:lN X EX sa f)(hb:lN X EX sb g):mS X EX (.If c sa sb pos) (bI f1 f g):=(Qt hc ha hb).le fun E σ H bA=>vW bA fun G F ρ g0 o=>aV g0 o (fun x r q=>q.x) fun F1 H1 bo d1 x s1 g1 r1 o1=>by
 cases r1;rcases o1.ite with ⟨e,o2⟩|⟨e,o2⟩
 subst e;exact vU ⟨G,F1,bo,g1,o2.mono (fun _ _=>f9.same s1) fun _ _=>cL.same s1⟩;subst e;exact vT ⟨G,F1,bo,g1,o2.mono (fun _ _=>f9.same s1) fun _ _=>cL.same s1⟩
theorem jy{L:Lc}{G:Fx}{F H:Hp}{σ:St}{ρ:aQ}{i:Nat}{d:D}{v:V}{P:Unit->aQ->Prop}{E:Xn->aQ->Prop}(g0:L.Good G F H σ ρ)(r:Den L.K L.mg F v d)(o:Out (nJ i d ρ) P E) : ∃bO,L.Good G F H (σ.set i (some v)) bO/\P () bO:=by unfold nJ at o;by_cases hf:free ρ[i]?=true;rw[ZY hf] at o;exact⟨_,Good.store (s':=.sh d) g0 hf ⟨v,rfl,r⟩ (fun z=>by cases z),o⟩;rw[Za hf] at o;exact o.elim
theorem pz{L:Lc}{G:Fx}{F H:Hp}{σ:St}{ρ:aQ}{i:Nat}{d:D}{l:Addr}{P:Unit->aQ->Prop}{E:Xn->aQ->Prop}(g0:L.Good G F H σ ρ)(r:Loose L.K L.mg G F H σ ρ l d)(o:Out (CQ i d ρ) P E) : ∃bO,L.Good G F H (σ.set i (some (.ref l))) bO/\P () bO:=by unfold CQ at o;by_cases hf:free ρ[i]?=true;rw[ZY hf] at o;exact⟨_,Good.store (s':=.ow d) g0 hf ⟨l,rfl,r.nF,r.n0,r.ob⟩ (fun _ j s hj ho _=>r.ns j s hj ho),o⟩;rw[Za hf] at o;exact o.elim
theorem M8(i:Nat){x:Str}{UR:Pos}(hN:X.N.Nodup)(hi:X.N[i]?=some x)(hx:Loc X.env.scope x)(he:PV X EX e fe)(hs:swapsWith e (some (.Name x UR)) pos.line X.env=pure false:=by rfl)(hf:ZD X x:=by exact ZL):mS X EX (.Assign [.Name x UR] e pos) (aN i fe):=
 (Dp hN hi hx he hs hf).le fun E σ H bA=>vW bA fun G F ρ g0 o=>aV g0 o (fun x r q=>q.x) fun F1 H1 bo d1 v s1 g1 r1 o1=>by obtain⟨mR,g2,q⟩:=jy g1 r1 o1.YV;exact q F1 H1 _ s1 g2
theorem M7(i:Nat){x:Str}{UR:Pos}(hN:X.N.Nodup)(hi:X.N[i]?=some x)(hx:Loc X.env.scope x)(he:PF X EX e fe)(hs:swapsWith e (some (.Name x UR)) pos.line X.env=pure false:=by rfl)(hf:ZD X x:=by exact ZL):mS X EX (.Assign [.Name x UR] e pos) (fU i fe):=
 (Dp hN hi hx he hs hf).le fun E σ H bA=>vW bA fun G F ρ g0 o=>aV g0 o (fun x r q=>q.x) fun F1 H1 bo d1 v s1 g1 r1 o1=>by obtain⟨l,rfl,r1⟩:=r1;obtain⟨mR,g2,q⟩:=pz g1 r1 o1.YV;exact q F1 H1 _ s1 g2
theorem Hh(i:Nat)(hN:X.N.Nodup)(hi:X.N[i]?=some x)(hx:Loc X.env.scope x)(hf:ZD X x:=by exact ZL):w8 X EX (.Name x pos) [i] (aD i):=(yF hN hi hx hf).le fun v σ H Q zz=>by obtain⟨G,F,ρ,d,g0,r,o⟩:=zz;obtain⟨bO,g1,q⟩:=jy g0 r o;exact q F H _ (aL.refl _) g1 fun j hj=>Ze (fun e=>hj (by simp[e]))
def Ku(L:Lc)(is:XT):Hw:=fun vs σ H Q=>∃G F ρ ds,L.Good G F H σ ρ/\aK L.K L.mg F vs ds/\Out (qa is ds ρ) (fun _ bO=>∀F' H' bx,aL F F'->L.Good G F' H' bx bO->(∀j,j∉is->bx[j]?=σ[j]?)->Q bx H') (fun _ _=>False)
def vt(X:Cx)(EX:XE)(ts:Rz)(is:XT):Prop:=D6 X ts (Ku (lc X EX) is)
theorem _root_.L2.D6.le(h:D6 X ts t)(k:∀v σ H Q,t' v σ H Q->t v σ H Q):D6 X ts t':=fun QF s σ H v u Q I r q=>h QF s σ H v u Q I r (k _ _ _ _ q)
theorem eE:vt X EX [] []:=L2.D6.le Gg fun vs σ H Q zz=>by obtain⟨G,F,ρ,ds,g0,r,o⟩:=zz;cases r with|nil=>exact⟨rfl,o F H σ (aL.refl _) g0 fun _ _=>rfl⟩|cons h t=>exact o.elim
theorem DV(i:Nat){is:XT}{x:Str}{es:Rz}(hN:X.N.Nodup)(hi:X.N[i]?=some x)(hx:Loc X.env.scope x)(h2:vt X EX es is)(hf:ZD X x:=by exact ZL) (hs:(assignEach (.Name x pos::es) X.env).map (·.2)=assign (.Name x pos) X.env::(assignEach es X.env).map (·.2):=by rfl):vt X EX (.Name x pos::es) (i::is):=
 L2.D6.le (Dk (yF hN hi hx hf) h2 hs) fun vs σ H Q zz=>by obtain⟨G,F,ρ,ds,g0,r,o⟩:=zz;cases r with|nil=>exact o.elim|cons h t=>refine⟨_,_,rfl,?_⟩;obtain⟨bO,g1,q⟩:=jy g0 h o.YV;exact⟨G,F,bO,_,g1,t,Out.mono q (fun _ r z F' H' bx s g hj=>z F' H' bx s g fun j hn=>by rw[hj j fun m=>hn (Z1 _ m),Ze (fun e=>hn (by simp[e]))]) fun _ _ z=>z⟩
theorem gB{es:Rz}{k:Nat}{is:XT}(hc:X.calm=true)(h:vt X EX es is)(hn:(assignEach es X.env).length=is.length:=by rfl) (ja:(assignEach es X.env).findIdx? (·.1)=none:=by rfl):w8 X EX (.Tuple es k pos) is (cW is):=
 (Ma (n:=is.length) hc h hn ja).le fun v σ H Q zz=>by
  obtain⟨G,F,ρ,d,g0,r,o⟩:=zz;have len:∀{is:XT}{ds:Sg}{ρ:aQ}{P:Unit->aQ->Prop}{E:Xn->aQ->Prop},Out (qa is ds ρ) P E->(∀x r,¬E x r)->ds.length=is.length:=by
   intro is;induction is with
   |nil=>intro ds ρ P E o _;cases ds with|nil=>rfl|cons=>exact o.elim
   |cons i is ih=>intro ds ρ P E o hE;cases ds with|nil=>exact o.elim|cons d ds=>have o':=o.YV;unfold nJ at o';split at o';simp[ih o' hE];exact o'.elim
  cases d with|tup ds=>obtain⟨_,_,rfl,h1,h2⟩:=Den.t r;exact⟨_,_,rfl,dj.same h1 g0.sub,by rw[aK.length h2];exact len o fun _ _ z=>z,G,F,ρ,ds,g0,h2,o⟩|_=>exact o.elim
theorem eY:∀d r x r',aD i d r≠.exc x r':=fun d r x r' h=>by unfold aD nJ at h;split at h<;>cases h
theorem BX:∀{is:XT}{ds:Sg}{r:aQ}{x:Xn}{r':aQ},qa is ds r≠.exc x r'|[],[],_,_,_,h=>by cases h|[],_::_,_,_,_,h=>by cases h|_::_,[],_,_,_,h=>by cases h|i::is,d::ds,r,x,r',h=>by simp only[qa,VP.YV,nJ] at h;split at h;rename_i a r2 q;exact BX h;rename_i x2 r2 q;split at q<;>cases q;cases h
theorem BY:∀d r x r',cW is d r≠.exc x r':=fun d r x r' h=>by unfold cW at h;cases d with|tup ds=>exact BX h|_=>cases h
theorem M6(hp:PassesOwn (model X.prog X.w) X.A X.env X.xe)(hc:X.calm=true)(hi:tw X EX tg Om it)(hg:w8 X EX tg js gf)(hb:lN X EX body f)(sj:∀d r x r',gf d r≠.exc x r') (hs:∀x,foldedSetIterable Om X.env x=pure x:=by exact ZP):mS X EX (.For tg Om body [] pos) (fE it gf f):=
 (Mg hp hc hi hg hb hs).le fun E σ H bA=>vW bA fun G F ρ g0 o=>aV g0 o (fun x r q=>q.x) fun F1 H1 bo ds J s1 g1 r1 o1=>by
  refine⟨fun i m σ H=>m=ds.length-i/\i<=ds.length/\∃F' bO,aL F1 F'/\(lc X EX).Good G F' H σ bO/\Out (loop gf f (ds.drop i) bO) (f9 (lc X EX) G F E) (cL (lc X EX) G F),⟨ds.length,ZH,Zp _,F1,bo,aL.refl _,g1,by simpa using o1⟩,?_⟩;rintro i m Sy H2 ⟨rfl,hi,F2,mR,s2,g2,o2⟩;obtain⟨t1,t2,t3⟩:=r1 Sy i F2 H2 mR s2 g2;by_cases m7:i<ds.length;refine .inr ⟨t1 m7,fun bx H'=>∃F' bO,aL F1 F'/\(lc X EX).Good G F' H' bx bO/\Out (loop gf f (ds.drop (i+1)) bO) (f9 (lc X EX) G F E) (cL (lc X EX) G F),fun bx H' q=>⟨ds.length-(i+1),ZJ,rfl,m7,q⟩,fun x H3 y=>?_⟩;obtain⟨F3,s3,g3,r3⟩:=t3 x H3 y;have e:ds.drop i=ds[i]::ds.drop (i+1):=LQ m7;rw[e] at o2;have o3:Out (gf ds[i] mR) (fun _ bO=>Out (YV f (fun k=>match k with|.nx=>loop gf f (ds.drop (i+1))|.ct=>loop gf f (ds.drop (i+1))|.bk=>ret .nx|.rt e=>ret (.rt e)) bO) (f9 (lc X EX) G F E) (cL (lc X EX) G F)) (cL (lc X EX) G F):=Out.YV o2;refine⟨G,F3,mR,ds[i],g3,r3 _ (by simp[m7]),?_⟩;cases q:gf ds[i] mR with|no=>rw[q] at o3;exact o3.elim|exc x r=>exact absurd q (sj _ _ _ _)|ok u U0=>rw[q] at o3;intro F4 H4 Hr s4 g4 _;refine⟨G,F4,U0,g4,(Out.YV o3).mono (fun k r z=>?_) fun _ _ z=>z.same ((s1.trans s2).trans (s3.trans s4))⟩;cases k with|nx=>exact fun F' H' bx s g'=>⟨F',r,s2.trans (s3.trans (s4.trans s)),g',z⟩|ct=>exact fun F' H' bx s g'=>⟨F',r,s2.trans (s3.trans (s4.trans s)),g',z⟩|bk=>exact fun F' H' bx s g'=>z F' H' bx ((s1.trans s2).trans (s3.trans (s4.trans s))) g'|rt d=>exact fun F' H' bx v s g'=>z F' H' bx v ((s1.trans s2).trans (s3.trans (s4.trans s))) g'
  have e:i=ds.length:=ZJ;subst e;refine .inl ⟨t2 rfl,?_⟩;rw[List.drop_length] at o2;exact o2 F2 H2 Sy (s1.trans s2) g2
end
section
variable(K:Frag)(mg:MG)
def jd(F H:Hp):N0->NC->Sg->Prop|[],[],[]=>True|false::bs,v::vs,d::ds=>Den K mg F v d/\jd F H bs vs ds|true::bs,v::vs,d::ds=>(∃l,v=.ref l/\F l=none/\eG K mg F H l d)/\jd F H bs vs ds|_,_,_=>False
def vn(F H:Hp):VL->Sg->Prop|[],[]=>True|l::ls,d::ds=>(F l=none/\eG K mg F H l d)/\vn F H ls ds|_,_=>False
end
def dF:Nat->N0->NC->List (Nat×Addr)|i,true::bs,.ref l::vs=>(i,l)::dF (i+1) bs vs|i,_::bs,_::vs=>dF (i+1) bs vs|_,_,_=>[]
def oT(fl:N0)(vs:NC):VL:=(dF 0 fl vs).map (·.2)
structure After(K:Frag)(mg:MG)(F H F' H':Hp)(ls:VL)(cB:Sg):Prop where
 sF:aL F F'
 sub:aL F' H'
 old:∀a o,H a=some o->a∉ls->H' a=some o
 new:∀a o,F' a=some o->F a=some o\/H a=none
 cB:vn K mg F' H' ls cB
def nM(K:Frag)(mg:MG)(fl:N0)(f:Fn):Sp:=fun vs H Q E=>vs.length=fl.length/\∃F ds,aL F H/\jd K mg F H fl vs ds/\(oT fl vs).Nodup/\match f ds with|.ok d cB=>∀F' H' v,After K mg F H F' H' (oT fl vs) cB->Den K mg F' v d->Q v H'|.exc x cB=>∀F' H' c dx,After K mg F H F' H' (oT fl vs) cB->XR K mg F' H' c dx x->E c dx H'|.no=>False
section
variable{K:Frag}{mg:MG}{F H:Hp}
theorem sv:∀{i0:Nat}{fl:N0}{vs:NC}{i:Nat}{a:Addr},(i,a)∈dF i0 fl vs->i0<=i/\vs[i-i0]?=some (.ref a)/\fl[i-i0]?=some true:=by
 intro i0 fl;induction fl generalizing i0 with
 |nil=>intro vs i a h;cases vs<;>simp[dF] at h|cons b bs ih=>
  intro vs i a h;cases vs with
  |nil=>cases b<;>simp[dF] at h|cons v vs=>
   have step:(i,a)∈dF (i0+1) bs vs->i0<=i/\(v::vs)[i-i0]?=some (.ref a)/\(b::bs)[i-i0]?=some true:=fun h=>by obtain⟨h1,h2,h3⟩:=ih h;have e:i-i0=(i-(i0+1))+1:=ZG;rw[e];exact⟨ZG,by simpa using h2,by simpa using h3⟩
   cases b with
   |false=>cases v<;>exact step (by simpa[dF] using h)|true=>
    cases v with
    |ref l=>rcases List.mem_cons.mp (show (i,a)∈(i0,l)::dF (i0+1) bs vs from h) with e|h;cases e;simp;exact step h
    |_=>exact step (by simpa[dF] using h)
theorem oU:∀{i0:Nat}{fl:N0}{vs:NC}{k:Nat}{a:Addr},fl[k]?=some true->vs[k]?=some (.ref a)->(i0+k,a)∈dF i0 fl vs:=by intro i0 fl;induction fl generalizing i0 with|nil=>intro vs k a h;simp at h|cons b bs ih=>intro vs k a h1 h2;cases vs with|nil=>simp at h2|cons v vs=>cases k with|zero=>simp at h1 h2;subst h1 h2;simp[dF]|succ k=>have q:=ih (i0:=i0+1) (vs:=vs) (k:=k) (a:=a) (by simpa using h1) (by simpa using h2);have e:i0+(k+1)=i0+1+k:=ZG;rw[e];cases b with|false=>cases v<;>simpa[dF] using q|true=>cases v<;>simp[dF,q]
theorem jd.get:∀{fl:N0}{vs:NC}{ds:Sg},jd K mg F H fl vs ds->∀(k:Nat)(b:Bool)(v:V)(d:D),fl[k]?=some b->vs[k]?=some v->ds[k]?=some d->(b=false->Den K mg F v d)/\(b=true->∃l,v=.ref l/\F l=none/\eG K mg F H l d):=by
 intro fl;induction fl with
 |nil=>intro vs ds h k b v d h1;simp at h1|cons b bs ih=>
  intro vs ds h k b' v d h1 h2 h3;cases vs with
  |nil=>simp at h2|cons w vs=>cases ds with
   |nil=>simp at h3|cons e ds=>
    cases k with
    |zero=>simp at h1 h2 h3;subst h1 h2 h3;cases b with|false=>exact⟨fun _=>h.1,fun z=>(by cases z)⟩|true=>exact⟨fun z=>(by cases z),fun _=>h.1⟩
    |succ k=>
     have h':jd K mg F H bs vs ds:=by cases b<;>exact h.2
     exact ih h' k b' v d (by simpa using h1) (by simpa using h2) (by simpa using h3)
theorem jd.len:∀{fl:N0}{vs:NC}{ds:Sg},jd K mg F H fl vs ds->vs.length=fl.length/\ds.length=fl.length:=by
 intro fl;induction fl with
 |nil=>intro vs ds h;cases vs<;>cases ds<;>first|exact⟨rfl,rfl⟩|exact(show False from h).elim
 |cons b bs ih=>
  intro vs ds h;cases vs with
  |nil=>cases b<;>cases ds<;>exact(show False from h).elim|cons w vs=>cases ds with
   |nil=>cases b<;>exact(show False from h).elim|cons e ds=>
    have h':jd K mg F H bs vs ds:=by cases b<;>exact h.2
    obtain⟨h1,h2⟩:=ih h';exact⟨by simp[h1],by simp[h2]⟩
theorem pL:∀{n:Nat}{fl:N0}{ds:Sg},fl.length=ds.length->∀(i:Nat)(s:Sl),(cO n fl ds)[i]?=some s->(i<fl.length/\∃b d,fl[i]?=some b/\ds[i]?=some d/\s=(if b then .io d else .sh d))\/(fl.length<=i/\s=.no):=by
 intro n fl;induction fl generalizing n with
 |nil=>intro ds hl i s h;cases ds with|nil=>refine .inr ⟨Zp _,?_⟩;simp only[cO] at h;rw[zB] at h;split at h;exact(ZV h).symm;cases h|cons=>simp at hl
 |cons b bs ih=>
  intro ds hl i s h;cases ds with
  |nil=>simp at hl|cons d ds=>
   simp only[cO] at h;cases i with
   |zero=>simp at h;exact .inl ⟨ZH,b,d,rfl,rfl,h.symm⟩|succ i=>
    rcases ih (by simpa using hl) i s (by simpa using h) with ⟨h1,b',d',h2,h3,h4⟩|⟨h1,h2⟩
    exact .inl ⟨by simp;lia,b',d',by simpa using h2,by simpa using h3,h4⟩;exact .inr ⟨by simp;lia,h2⟩
theorem wM:∀{n:Nat}{fl:N0}{ds:Sg},fl.length=ds.length->fl.length<=n->(cO n fl ds).length=n:=by
 intro n fl;induction fl generalizing n with
 |nil=>intro ds hl hn;cases ds with|nil=>simp[cO]|cons=>simp at hl
 |cons b bs ih=>intro ds hl hn;cases ds with|nil=>simp at hl|cons d ds=>simp only[cO,List.length_cons];rw[ih (by simpa using hl) (by simp at hn;lia)];simp at hn;lia
theorem rA{N:R5}{vs:NC}{i:Nat}{v:V}(h:vs[i]?=some v):(start N vs)[i]?=some (some v):=by have hi:i<vs.length:=(List.getElem?_eq_some_iff.mp h).1;unfold L2.start;rw[Z7 (by simpa using hi),Zs,h];rfl
theorem vN(hs:aL F H)(ha:jd K mg F H fl vs ds)(hd:(oT fl vs).Nodup)(hn:fl.length<=N.length) : Good K mg ⟨H,F,dF 0 fl vs⟩ F H (start N vs) (cO N.length fl ds):=by
 obtain⟨l1,l2⟩:=ha.len;have at_:∀{i:Nat}{a:Addr},(i,a)∈dF 0 fl vs->∃d,F a=none/\eG K mg F H a d:=fun {i a} h=>by
  obtain⟨_,h2,h3⟩:=sv h;rw[Nat.sub_zero] at h2 h3;have hi:i<ds.length:=by rw[l2,<-l1];exact(List.getElem?_eq_some_iff.mp h2).1
  obtain⟨l,e,q1,q2⟩:=(ha.get i true _ ds[i] h3 h2 (by simp[hi])).2 rfl;cases e;exact⟨_,q1,q2⟩
 have Qj:∀{i:Nat}{s:Sl}{l:Addr},(cO N.length fl ds)[i]?=some s->cj s=true->(start N vs)[i]?=some (some (V.ref l))->(i,l)∈dF 0 fl vs:=fun {i s l} h o e=>by
  rcases pL l2.symm i s h with ⟨h1,b,d,h2,h3,rfl⟩|⟨_,rfl⟩
  cases b with|false=>cases o|true=>have hv:i<vs.length:=ZG;rw[rA (v:=vs[i]) (by simp[hv])] at e;have e':vs[i]=V.ref l:=ZV (ZV e);have:=oU (i0:=0) (vs:=vs) (k:=i) (a:=l) h2 (by rw[<-e'];simp[hv]);rwa [tJ] at this
  cases o
 exact {
  sF:=aL.refl _
  sub:=hs
  old:=fun a o e _=>e
  new:=fun a o e=>.inl e
  len:=by
   rw[wM l2.symm hn];unfold L2.start;rw[Zq,Zf,List.length_replicate]
   lia
  slot:=fun i s h=>by
   rcases pL l2.symm i s h with ⟨h1,b,d,h2,h3,rfl⟩|⟨_,rfl⟩
   have hv:i<vs.length:=ZG;have q:=ha.get i b vs[i] d h2 (by simp[hv]) h3;rw[rA (v:=vs[i]) (by simp[hv])];cases b with|false=>exact⟨_,rfl,q.1 rfl⟩|true=>obtain⟨l,e,q1,q2⟩:=q.2 rfl;refine⟨l,by rw[e];rfl,?_,q1,q2⟩;have:=oU (i0:=0) (vs:=vs) (k:=i) (a:=l) h2 (by rw[<-e];simp[hv]);rwa [tJ] at this
   trivial
  apart:=fun i j l s t h1 h2 o1 o2 e1 e2=>by
   have m1:=Qj h1 o1 e1;have m2:=Qj h2 o2 e2;obtain⟨a,ha,ea⟩:=List.mem_iff_getElem.mp m1;obtain⟨b,hb,eb⟩:=List.mem_iff_getElem.mp m2;have OC:a=b:=by refine(Et hd (i:=a) (j:=b) (h₀:=by simpa[oT] using ha) (h₁:=by simpa[oT] using hb)).mp ?_;simp[oT,ea,eb]
   subst OC;rw[ea] at eb;cases eb;rfl
  m9:=fun i a h=>by obtain⟨d,q1,q2⟩:=at_ h;exact⟨q2.has,q1,q2.has⟩
  nH:=fun i a b h1 h2=>by obtain⟨_,q1,_⟩:=sv h1;obtain⟨_,q2,_⟩:=sv h2;rw[q1] at q2;cases q2;rfl}
theorem Co(g:Good K mg G F H σ ρ)(hG:G.io=dF 0 fl vs)(hv:vs.length=fl.length)(h:b9 fl ρ=some cB)(hr:∀(k:Nat),fl[k]?=some true->∃a,vs[k]?=some (V.ref a)):vn K mg F H (oT fl vs) cB:=by
 have gen:∀(JG:N0)(k:Nat)(vd:NC)(r:aQ)(cB:Sg),JG=fl.drop k->vd=vs.drop k->r=ρ.drop k->b9 JG r=some cB->vn K mg F H ((dF k JG vd).map (·.2)) cB:=by
  intro JG;induction JG with
  |nil=>
   intro k vd r cB h1 h2 h3 h4;have:vd=[]:=by
    rw[h2];apply List.drop_eq_nil_of_le;rw[hv];have:=congrArg List.length h1;simp at this
    lia
   subst this;simp[b9] at h4;subst h4;trivial
  |cons b bs ih=>
   intro k vd r cB h1 h2 h3 h4;have hk:k<fl.length:=by
    have:=congrArg List.length h1;simp at this
    lia
   have hb:fl[k]?=some b:=by have:=congrArg List.head? h1;simpa using this.symm
   have Ni:bs=fl.drop (k+1):=by have:=congrArg List.tail h1;simpa using this
   have VF:k<vs.length:=ZG;have J2:vd=vs[k]::vs.drop (k+1):=by rw[h2];exact LQ VF
   subst J2;cases r with
   |nil=>cases b<;>simp[b9] at h4|cons s r=>
    have YH:k<ρ.length:=by
     have:=congrArg List.length h3;simp at this
     lia
    have TN:ρ[k]?=some s:=by have:=congrArg List.head? h3;simpa using this.symm
    have OU:r=ρ.drop (k+1):=by have:=congrArg List.tail h3;simpa using this
    cases b with
    |false=>have q:=ih (k+1) (vs.drop (k+1)) r cB Ni rfl OU (by simpa[b9] using h4);cases e:vs[k]<;>simpa[dF,e] using q|true=>
     obtain⟨a,ha⟩:=hr k hb;have e:vs[k]=.ref a:=by
      have:vs[k]?=some vs[k]:=by simp[VF]
      rw[this] at ha;exact ZV ha
     rw[e];cases s with
     |io d=>
      simp only[b9] at h4;cases q:b9 bs r with
      |none=>rw[q] at h4;cases h4|some Pb=>
       rw[q] at h4;have h5:d::Pb=cB:=ZV h4;subst h5;obtain⟨l,z1,z2,z3,z4⟩:=g.slot k _ TN;have m:(k,a)∈G.io:=by rw[hG];have:=oU (i0:=0) (vs:=vs) (k:=k) (a:=a) hb ha;rwa [tJ] at this
       have:l=a:=g.nH k l a z2 m;subst this;exact⟨⟨z3,z4⟩,ih (k+1) (vs.drop (k+1)) r Pb Ni rfl OU q⟩
     |_=>simp[b9] at h4
 exact gen fl 0 vs ρ cB ZH ZH ZH h
end
section
variable{P:Program}{w:World}{K:Frag}{mg:MG}{base:Heap}
theorem DL(hp:N.take ps.length=ps)(hl:fl.length=ps.length)(h:nM K mg fl (defn N.length fl body) vs H Q E) : yt ⟨K,mg,fun _=>E⟩ body {nx:=fun _ H'=>Q .bz H',rt:=Q} (start N vs) H:=by
 obtain⟨hv,F,ds,hs,ha,hd,h⟩:=h;have W8:fl.length<=N.length:=by
  have:=congrArg List.length hp;rw[Mv] at this
  lia
 have g0:=vN (N:=N) hs ha hd W8;have WY:∀(k:Nat),fl[k]?=some true->∃a,vs[k]?=some (V.ref a):=fun k q=>by have hk:k<fl.length:=(List.getElem?_eq_some_iff.mp q).1;obtain⟨l1,l2⟩:=ha.len;have Vw:k<vs.length:=ZG;have W3:k<ds.length:=ZG;obtain⟨l,e,_⟩:=(ha.get k true vs[k] ds[k] q (by simp[Vw]) (by simp[W3])).2 rfl;exact⟨l,by rw[<-e];simp[Vw]⟩
 refine⟨_,F,_,g0,?_⟩;unfold defn at h;rw[ZY ha.len.2] at h;have SQ:∀{F' H':Hp}{bx:St}{bO:aQ}{cB:Sg},aL F F'->Good K mg ⟨H,F,dF 0 fl vs⟩ F' H' bx bO->b9 fl bO=some cB->After K mg F H F' H' (oT fl vs) cB:=fun {F' H' bx bO cB} s g q=>⟨s,g.sub,fun a o e n=>g.old a o e fun i z=>n (List.mem_map.mpr ⟨_,z,rfl⟩),g.new,Co g rfl hv q WY⟩;generalize body (cO N.length fl ds)=R at h;cases R with
  |no=>exact h|exc z bO=>cases q:b9 fl bO with|none=>simp only[q] at h|some cB=>simp only[q] at h;exact fun F' H' bx c dx s g r=>h F' H' c dx (SQ s g q) r
  |ok JG bO=>
   cases JG with
   |bk=>exact h.elim|ct=>exact h.elim|nx=>cases q:b9 fl bO with|none=>simp only[q] at h|some cB=>simp only[q] at h;exact fun F' H' bx s g=>h F' H' .bz (SQ s g q) .bz
   |rt d=>cases q:b9 fl bO with|none=>simp only[q] at h|some cB=>simp only[q] at h;exact fun F' H' bx v s g r=>h F' H' v (SQ s g q) r
theorem BS{x VM:Str}{st:Stmt}{f:Addr}{fd:FuncData}{N ps:R5}{k:Nat}{fl:N0}{body:M Fl}(Fu:Ej K x VM st f fd)(S:dQ N ps (aP st))(hl:fl.length=ps.length)
  (jn:∀(ir:Value)(A:Around)(outer:List Env)(s:Shared)(H:Hp)(E:XK),cA k (A.deeper (envOfC VM (aP st) s.heap.objs.size f ir))->lN (p9 pS P w K mg base N VM (aP st) f ir A outer s H E).Iy (fun _=>E) (bM st) body) :
  dP P w K mg base pS (k+1) f fd ps (nM K mg fl (defn N.length fl body)):=by
 refine Fu.ok S (fun vs H Q E h=>by rw[h.1,hl]) fun ir A outer s H vs Q E hr h=>?_;exact⟨_,jn ir A outer s H E hr,DL S.pre hl h⟩
end
def DB(d:D):Sl->Sl|.ow _=>.ow d|.io _=>.io d|s=>s
theorem pF(j:Nat)(d:D)(r:aQ)(i:Nat):(cE j d r)[i]?=if i=j then(r[i]?).map (DB d) else r[i]?:=by unfold cE;cases q:r[j]? with|none=>dsimp only;split;rename_i e;subst e;rw[q];rfl;rfl|some s=>have hj:j<r.length:=(List.getElem?_eq_some_iff.mp q).1;cases s with|no=>dsimp only;split;rename_i e;subst e;rw[q];rfl;rfl|sh e=>dsimp only;split;rename_i e;subst e;rw[q];rfl;rfl|ow e=>dsimp only;split;rename_i e;subst e;rw[Zg hj,q];rfl;rename_i e;rw[Ze (Zo e)]|io e=>dsimp only;split;rename_i e;subst e;rw[Zg hj,q];rfl;rename_i e;rw[Ze (Zo e)]
theorem Dv(j:Nat)(d:D)(r:aQ):(cE j d r).length=r.length:=by unfold cE;split<;>simp
theorem pE:∀(js:XT)(ds:Sg)(r:aQ),(putAll js ds r).length=r.length|[],_,_=>rfl|_::_,[],_=>rfl|j::js,d::ds,r=>by show (putAll js ds (cE j d r)).length=_;rw[pE,Dv]
theorem iO:∀{js:XT}{ds:Sg}{r:aQ}{i:Nat},i∉js->(putAll js ds r)[i]?=r[i]?|[],_,_,_,_=>rfl|_::_,[],_,_,_=>rfl|j::js,d::ds,r,i,h=>by show (putAll js ds (cE j d r))[i]?=_;rw[iO (fun z=>h (Z1 _ z)),pF,Za (fun e=>h (by rw[e];exact Z2))]
theorem rj:∀{js:XT}{ds:Sg}{r:aQ}{k i:Nat}{d:D},js.Nodup->js[k]?=some i->ds[k]?=some d->(putAll js ds r)[i]?=(r[i]?).map (DB d)
|[],_,_,_,_,_,_,h,_=>by simp at h|_::_,[],_,_,_,_,_,_,h=>by simp at h|j::js,e::ds,r,0,i,d,nd,h1,h2=>by simp at h1 h2;subst h1 h2;show (putAll js ds (cE j e r))[j]?=_;rw[iO (List.nodup_cons.mp nd).1,pF,ZY rfl]|j::js,e::ds,r,k+1,i,d,nd,h1,h2=>by
 have Vm:js[k]?=some i:=by simpa using h1
 have ne:i≠j:=fun z=>(List.nodup_cons.mp nd).1 (by rw[<-z];exact Z3 Vm);show (putAll js ds (cE j e r))[i]?=_;rw[rj (List.nodup_cons.mp nd).2 Vm (by simpa using h2),pF,Za ne]
section
variable{K:Frag}{mg:MG}
theorem vn.get:∀{F H:Hp}{ls:VL}{ds:Sg},vn K mg F H ls ds->ls.length=ds.length/\∀(k:Nat)(l:Addr)(d:D),ls[k]?=some l->ds[k]?=some d->F l=none/\eG K mg F H l d|_,_,[],[],_=>⟨rfl,fun k l d h=>by simp at h⟩|_,_,[],_::_,h=>(show False from h).elim|_,_,_::_,[],h=>(show False from h).elim|F,H,l::ls,d::ds,h=>by obtain⟨h1,h2⟩:=vn.get (F:=F) (H:=H) (ls:=ls) (ds:=ds) h.2;refine⟨by simp[h1],fun k l' d' e1 e2=>?_⟩;cases k with|zero=>simp at e1 e2;subst e1 e2;exact h.1|succ k=>exact h2 k l' d' (by simpa using e1) (by simpa using e2)
theorem Good.called(g:Good K mg G F H σ ρ)(hj:js.Nodup)(hl:js.length=ls.length)(hs:∀(k j:Nat)(l:Addr),js[k]?=some j->ls[k]?=some l->(∃s,ρ[j]?=some s/\cj s=true)/\σ[j]?=some (some (V.ref l))) (a:After K mg F H F' H' ls cB):Good K mg G F' H' σ (putAll js cB ρ):=by
 obtain⟨hi,ig⟩:=a.cB.get;have Ke:∀{l:Addr},l∈ls->∃(k j:Nat)(s:Sl),js[k]?=some j/\ls[k]?=some l/\ρ[j]?=some s/\cj s=true/\σ[j]?=some (some (V.ref l)):=fun {l} h=>by
  obtain⟨k,hk,e⟩:=List.mem_iff_getElem.mp h;have e':ls[k]?=some l:=by rw[<-e];simp[hk]
  have yk:k<js.length:=ZG;obtain⟨⟨s,q1,q2⟩,q3⟩:=hs k js[k] l (by simp[yk]) e';exact⟨k,js[k],s,by simp[yk],e',q1,q2,q3⟩
 have VX:∀a' o,F' a'=some o->F a'=some o\/H a'=none:=a.new;have ux:∀{l:Addr},F l=none->(∃o,H l=some o)->F' l=none:=fun {l} h ⟨o,ho⟩=>by cases q:F' l with|none=>rfl|some u=>rcases a.new l u q with z|z;rw[h] at z;cases z;rw[ho] at z;cases z
 exact {
  sF:=g.sF.trans a.sF
  sub:=a.sub
  old:=fun b o e n=>by refine a.old b o (g.old b o e n) fun hb=>?_;obtain⟨k,j,s,q1,q2,q3,q4,q5⟩:=Ke hb;have t:=g.slot j s q3;cases s with|no=>cases q4|sh d=>cases q4|ow d=>obtain⟨l,z1,z2,z3,z4⟩:=t;rw[q5] at z1;cases z1;rw[e] at z3;cases z3|io d=>obtain⟨l,z1,z2,z3,z4⟩:=t;rw[q5] at z1;cases z1;exact n j z2
  new:=fun b o e=>by rcases a.new b o e with z|z;exact g.new b o z;exact .inr (g.zP z)
  len:=by rw[pE];exact g.len
  slot:=fun i s h=>by
   by_cases Nl:i∈js;obtain⟨k,hk,e⟩:=List.mem_iff_getElem.mp Nl;have e':js[k]?=some i:=by rw[<-e];simp[hk]
   have Vv:k<ls.length:=ZG;have Vu:k<cB.length:=ZG;rw[rj hj e' (d:=cB[k]) (by simp[Vu])] at h;obtain⟨⟨s0,q1,q2⟩,q3⟩:=hs k i ls[k] e' (by simp[Vv]);rw[q1] at h;have h':DB cB[k] s0=s:=ZV h;subst h';obtain⟨y1,y2⟩:=ig k ls[k] cB[k] (by simp[Vv]) (by simp[Vu]);have t:=g.slot i s0 q1;cases s0 with|no=>cases q2|sh d=>cases q2|ow d=>obtain⟨l,z1,z2,z3,z4⟩:=t;rw[q3] at z1;cases z1;rw[q3];exact⟨ls[k],rfl,y1,z3,y2⟩|io d=>obtain⟨l,z1,z2,z3,z4⟩:=t;rw[q3] at z1;cases z1;rw[q3];exact⟨ls[k],rfl,z2,y1,y2⟩
   rw[iO Nl] at h;refine(g.slot i s h).same a.sF (fun l _ _ f t=>ux f t) fun l o hv ow e=>a.old l o e fun hb=>?_;obtain⟨k,j,s',q1,q2,q3,q4,q5⟩:=Ke hb;have:i=j:=g.apart i j l s s' h q3 ow q4 (join_some hv) q5;subst this;exact Nl (Z3 q1)
  apart:=fun i j l s t h1 h2 o1 o2 e1 e2=>by
   have f:∀{i:Nat}{s:Sl},(putAll js cB ρ)[i]?=some s->cj s=true->∃s',ρ[i]?=some s'/\cj s'=true:=fun {i s} h o=>by
    by_cases Nl:i∈js;obtain⟨k,hk,e⟩:=List.mem_iff_getElem.mp Nl;have e':js[k]?=some i:=by rw[<-e];simp[hk]
    obtain⟨q1,_⟩:=hs k i (ls[k]' ZG) e' (by simp[show k<ls.length by lia]);exact q1;rw[iO Nl] at h;exact⟨s,h,o⟩
   obtain⟨s',a1,a2⟩:=f h1 o1;obtain⟨t',b1,b2⟩:=f h2 o2;exact g.apart i j l s' t' a1 b1 a2 b2 e1 e2
  m9:=fun i b h=>by
   obtain⟨⟨o,q1⟩,q2,q3⟩:=g.m9 i b h;refine⟨?_,ux q2 ⟨o,q1⟩,q3⟩;by_cases hb:b∈ls;obtain⟨k,j,s,z1,z2,_⟩:=Ke hb;have hk:k<cB.length:=by
    have:=(List.getElem?_eq_some_iff.mp z2).1
    lia
   exact(ig k b cB[k] z2 (by simp[hk])).2.has;exact⟨o,a.old b o q1 hb⟩
  nH:=g.nH}
end
def Hs(L:Lc)(F:Hp)(σ:St):V->AV->Prop|v,.val d=>Den L.K L.mg F v d|v,.io j=>σ[j]?=some (some v)
inductive lM(L:Lc)(F:Hp)(σ:St):NC->List AV->Prop where
 |nil:lM L F σ [] []|cons {v:V} {a:AV} {vs:NC} {as:List AV} (h:Hs L F σ v a) (t:lM L F σ vs as):lM L F σ (v::vs) (a::as)
def RA(L:Lc):Rl (List AV) (List V):=fun _ F _ σ _ vs as=>lM L F σ vs as
theorem Hs.same(e:aL F F')(h:Hs L F σ v a):Hs L F' σ v a:=by cases a with|val d=>exact Den.same e h|io j=>exact h
def w5(X:Cx)(EX:XE)(es:Rz)(as:List VP.Arg):Prop:=PA X es (lift (lc X EX) (RA (lc X EX)) (bL as))
section
variable{X:Cx}{EX:XE}{e a:Expr}{es:Rz}{as:List VP.Arg}{fa:M D}{pos:Pos}
theorem ao:w5 X EX [] []:=fL.le fun σ H Q bA=>lf bA fun G F ρ g0 o=>o F H [] (aL.refl _) g0 .nil
theorem ag(ha:PV X EX a fa)(hr:w5 X EX es as)(hs:ZC X a es:=by rfl):w5 X EX (a::es) (.val fa::as):=(cu ha hr hs).le fun σ H Q bA=>dg bA fun G F F1 H1 bo d1 x s1 g1 r1 o1=>aV g1 o1 (fun x r q=>q.same s1) fun F2 H2 mR d2 y s2 g2 r2 o2=>o2 F2 H2 _ (s1.trans s2) g2 (.cons (Hs.same s2 (a:=.val d1) r1) r2)
theorem aU(j:Nat){x:Str}(hr:w5 X EX es as)(hN:X.N[j]?=some x:=by rfl)(hv:xc X.env.scope x:=by exact ZK)(hd:Y3 x:=by decide)(j9:Y4 x:=by decide) (hs:starEach (.Name x pos::es) X.env=(false,eval (.Name x pos) X.env)::starEach es X.env:=by rfl):w5 X EX (.Name x pos::es) (.io j::as):=
 (cu (gQ hN hv hd j9) hr hs).le fun σ H Q bA=>lf bA fun G F ρ g0 o=>by
  have o':Out ((if (own ρ[j]?).isSome then YV (bL as) (fun vs=>ret (.io j::vs)) ρ else .no)) (eM (lc X EX) (RA (lc X EX)) G F σ Q) (cY (lc X EX) G F σ):=o;cases q:ρ[j]? with
  |none=>rw[q] at o';exact o'.elim|some s=>
   rw[q] at o';have hv:∃v,σ[j]?=some (some v):=by have t:=g0.slot j s q;cases s with|no=>exact o'.elim|sh d=>exact o'.elim|ow d=>obtain⟨l,z,_⟩:=t;exact⟨_,join_some z⟩|io d=>obtain⟨l,z,_⟩:=t;exact⟨_,join_some z⟩
   obtain⟨v,hv⟩:=hv;have o2:Out (YV (bL as) (fun vs=>ret (.io j::vs)) ρ) (eM (lc X EX) (RA (lc X EX)) G F σ Q) (cY (lc X EX) G F σ):=by cases s with|no=>exact o'.elim|sh d=>exact o'.elim|ow d=>exact o'|io d=>exact o'
   refine⟨v,hv,aV g0 o2 (fun x r q=>q) fun F1 H1 bo d1 x s1 g1 r1 o1=>o1 F1 H1 _ s1 g1 (.cons (show Hs (lc X EX) F1 σ v (.io j) from hv) r1)⟩
theorem Jk{L:Lc}{G:Fx}{F H:Hp}{σ:St}{ρ:aQ}(g:L.Good G F H σ ρ):∀{vs:NC}{as:List AV}{ds:Sg}{fl:N0},lM L F σ vs as->pU as ρ=some ds->as.map (fun a=>match a with|.val _=>false|.io _=>true)=fl->jd L.K L.mg F H fl vs ds/\∀i0:Nat,(fC as).length=((dF i0 fl vs).map (·.2)).length/\∀(k j:Nat)(l:Addr),(fC as)[k]?=some j->((dF i0 fl vs).map (·.2))[k]?=some l->(∃s,ρ[j]?=some s/\cj s=true)/\σ[j]?=some (some (V.ref l)):=by
 intro vs as;induction as generalizing vs with
 |nil=>intro ds fl h1 h2 h3;cases h1;simp[pU] at h2;subst h2 h3;exact⟨trivial,fun i0=>⟨by simp[fC,dF],fun k j l e=>by simp[fC] at e⟩⟩|cons a as ih=>
  intro ds fl h1 h2 h3;cases h1 with
  |cons hv ht=>
   rename_i v vs;subst h3;cases a with
   |val d=>
    simp only[pU] at h2;cases q:pU as ρ with
    |none=>rw[q] at h2;cases h2|some Am=>
     rw[q] at h2;have S9:d::Am=ds:=ZV h2;subst S9;obtain⟨k1,k2⟩:=ih ht q rfl;refine⟨⟨hv,k1⟩,fun i0=>?_⟩;have e:dF i0 (List.map (fun a=>match a with|.val _=>false|.io _=>true) (.val d::as)) (v::vs)=dF (i0+1) (List.map (fun a=>match a with|.val _=>false|.io _=>true) as) vs:=by cases v<;>rfl
     rw[e];exact k2 (i0+1)
   |io j=>
    simp only[pU] at h2;cases q0:own ρ[j]? with
    |none=>rw[q0] at h2;cases h2|some d=>
     rw[q0] at h2;simp only at h2;cases q:pU as ρ with
     |none=>rw[q] at h2;cases h2|some Am=>
      rw[q] at h2;have S9:d::Am=ds:=ZV h2;subst S9;obtain⟨k1,k2⟩:=ih ht q rfl;have Ec:σ[j]?=some (some v):=hv;have hl:∃l s,v=.ref l/\ρ[j]?=some s/\cj s=true/\F l=none/\eG L.K L.mg F H l d:=by cases q1:ρ[j]? with|none=>rw[q1] at q0;cases q0|some s=>rw[q1] at q0;have t:=g.slot j s q1;cases s with|no=>cases q0|sh e=>cases q0|ow e=>have Uq:e=d:=ZV q0;subst Uq;obtain⟨l,z1,z2,z3,z4⟩:=t;rw[Ec] at z1;have UZ:v=V.ref l:=ZV z1;exact⟨l,_,UZ,rfl,rfl,z2,z4⟩|io e=>have Uq:e=d:=ZV q0;subst Uq;obtain⟨l,z1,z2,z3,z4⟩:=t;rw[Ec] at z1;have UZ:v=V.ref l:=ZV z1;exact⟨l,_,UZ,rfl,rfl,z3,z4⟩
      obtain⟨l,s,rfl,q1,q2,q3,q4⟩:=hl;refine⟨⟨⟨l,rfl,q3,q4⟩,k1⟩,fun i0=>?_⟩;obtain⟨m1,m2⟩:=k2 (i0+1);refine⟨by simpa[fC,dF] using m1,fun k j' l' e1 e2=>?_⟩;cases k with|zero=>simp[fC,dF] at e1 e2;subst e1 e2;exact⟨⟨s,q1,q2⟩,Ec⟩|succ k=>exact m2 k j' l' (by simpa[fC] using e1) (by simpa[dF] using e2)
variable{CX:vf}{k:Nat}{fA:Addr}{fd:FuncData}{ps:R5}{E:XK}{x:Str}{p:Pos}{fl:N0}{fs:Fn}
theorem yZ{L:Lc}{G:Fx}{F H:Hp}{σ:St}{ρ:aQ}(g:L.Good G F H σ ρ){js:XT}{ls:VL}(hj:js.Nodup)(hl:js.length=ls.length)(hs:∀(k j:Nat)(l:Addr),js[k]?=some j->ls[k]?=some l->(∃s,ρ[j]?=some s/\cj s=true)/\σ[j]?=some (some (V.ref l))):ls.Nodup:=by
 rw[List.nodup_iff_pairwise_ne,List.pairwise_iff_getElem];intro i j hi Nn Yz e;have Nm:i<js.length:=ZG;have WZ:j<js.length:=ZG;obtain⟨⟨s,a1,a2⟩,a3⟩:=hs i js[i] ls[i] (by simp[Nm]) (by simp[hi]);obtain⟨⟨t,b1,b2⟩,b3⟩:=hs j js[j] ls[j] (by simp[WZ]) (by simp[Nn]);rw[e] at a3;have:=g.apart js[i] js[j] ls[j] s t a1 b1 a2 b2 a3 b3;have:i=j:=(Et hj).mp this
 lia
theorem rK{L:Lc}{G:Fx}{F H:Hp}{σ:St}{ρ:aQ}{vs:NC}{as:List AV}{Q:VK}{P:D->aQ->Prop}{Ex:Xn->aQ->Prop}(g:L.Good G F H σ ρ)(r:lM L F σ vs as)
  (uo:as.map (fun a=>match a with|.val _=>false|.io _=>true)=fl) (o:Out (nI fs as ρ) P Ex) (hE:∀x r,Ex x r->cY L G F σ x r)
  (hP:∀F' H' bO d v,aL F F'->L.Good G F' H' σ bO->Den L.K L.mg F' v d->P d bO->Q v H'):nM L.K L.mg fl fs vs H Q (L.EX σ):=by
 unfold nI at o;cases q:pU as ρ with
 |none=>rw[q] at o;exact o.elim|some ds=>
  rw[q] at o;dsimp only at o;by_cases nd:(fC as).Nodup;rw[ZY nd] at o;obtain⟨k1,k2⟩:=Jk g r q uo;obtain⟨k3,k4⟩:=k2 0;refine⟨by rw[k1.len.1],F,ds,g.sub,k1,yZ g nd k3 k4,?_⟩;cases q2:fs ds with|no=>rw[q2] at o;exact o.elim|ok d cB=>rw[q2] at o;exact fun F' H' v a rd=>hP F' H' _ d v a.sF (Good.called g nd k3 k4 a) rd o|exc xx cB=>rw[q2] at o;exact fun F' H' c dx a rx=>hE _ _ o F' H' c dx a.sF (Good.called g nd k3 k4 a) rx
  rw[Za nd] at o;exact o.elim
def fg(CX:vf)(X:Cx)(EX:XE):Prop:=∀(QF:Y6)(σ:St)(H:Hp)(s:Shared)(e:Value)(s':Shared),Inv X QF σ H s->CX X.stack H s (EX σ) e s'->X.xe e s'
theorem n6{QF:Y6}{σ:St}{H:Hp}{s:Shared}{Q:VK}{us:MY}{vs:NC}{sp:Sp}(F:dP X.prog X.w X.K X.mg X.base CX k fA fd ps sp)(hr:cA k X.A)(hb:Binds X.K fd ps [])(hx:fg CX X EX)(I:Inv X QF σ H s) (r:Vals vs us) (h:sp vs H Q (EX σ)):wpAny (model X.prog X.w) X.A (call (.ref fA) us) (EP X QF σ Q) X.xe s:=by
 have hl:us.length=ps.length:=by rw[<-r.length];exact F.len _ _ _ _ h
 have OD:=hb s us I.qe (by simpa using hl);rw[Fj] at OD;refine wpAny_call (Hf (F.run X.A X.stack s H ⟨us,[]⟩ us vs Q (EX σ) hr I.Og OD r h) fun r s' hq=>?_);cases r with|error e=>exact hx QF σ H s e s' I hq|ok fl=>cases fl with|ret u=>exact I.after hq|next=>exact False.elim hq|brk=>exact False.elim hq|cont=>exact False.elim hq
theorem dJ:∀{as:List VP.Arg}{ρ bO:aQ}{vs:List AV},bL as ρ=.ok vs bO->vs.map (fun a=>match a with|.val _=>false|.io _=>true)=as.map VP.Arg.isIo
|[],ρ,bO,vs,h=>by cases h;rfl|.val f::as,ρ,bO,vs,h=>by
 simp only[bL,VP.YV] at h;cases q:f ρ with
 |ok d r=>simp only[q] at h;cases q2:bL as r with|ok ws r2=>simp only[q2,VP.ret] at h;cases h;simp[VP.Arg.isIo,dJ q2]|exc x r2=>simp only[q2] at h;cases h|no=>simp only[q2] at h;cases h
 |exc x r2=>simp only[q] at h;cases h|no=>simp only[q] at h;cases h
|.io j::as,ρ,bO,vs,h=>by
 simp only[bL,VP.YV] at h;split at h;cases q2:bL as ρ with|ok ws r2=>simp only[q2,VP.ret] at h;cases h;simp[VP.Arg.isIo,dJ q2]|exc x r2=>simp only[q2] at h;cases h|no=>simp only[q2] at h;cases h
 cases h
theorem Gx(F:dP X.prog X.w X.K X.mg X.base CX k fA fd ps (nM X.K X.mg fl fs))(hr:cA k X.A)(hg:Gl X x)(hm:X.mg x=some (.ref fA))(hk:W.keepIn X.K (.ref fA)=true)(hb:Binds X.K fd ps [])(hx:fg CX X EX)
  (ha:w5 X EX (e::es) as) (uo:as.map VP.Arg.isIo=fl:=by rfl) (i9:Y3 x:=by decide) (he:ZC X e es:=by rfl) (jc:ZE X pos es:=by rfl) :
  PV X EX (.Call (.Name x p) (e::es) [] pos) (ax fs as):=by
 intro QF s σ H Q I h;obtain⟨G,F0,ρ,g0,o⟩:=h;refine Pz (k7 I hg hm ?_ i9);refine EY (h₀:=X.base) I.ok.mod.Ko hk (bK (ha pos QF s σ H (fun vs H1=>nM X.K X.mg fl fs vs H1 Q (EX σ)) I ⟨G,F0,ρ,g0,?_⟩) fun us s1 ⟨vs,H1,I1,r,q⟩=>⟨I1.qe,?_⟩) he jc;unfold ax VP.YV at o;cases q:bL as ρ with|no=>rw[q] at o;exact o.elim|exc xx bo=>rw[q] at o;exact o|ok av bo=>rw[q] at o;intro F1 H1 vs s1 g1 r1;exact rK (L:=lc X EX) g1 r1 (by rw[dJ q];exact uo) o (fun x r q=>q.same s1) fun F' H' bO d v s' g' rd P=>P F' H' v (s1.trans s') g' rd
 exact n6 F hr hb hx I1 r q
theorem pA:fg pS X EX:=fun _ _ _ _ _ _ _ h=>h.elim
end
theorem vo:iS=sizeLine:=sizeLine_eq.symm
section
variable{X:Cx}{EX:XE}{L:Lc}
theorem B0{C:Int->Int->Prop}{gv:Int->Int->V}{gd:Int->Int->D}{g:D->D->S4}(hd:∀F i j,Den L.K L.mg F (gv i j) (gd i j))(hg:∀x y d,g x y=some d->∃i j,x=.int i/\y=.int j/\C i j/\d=gd i j):ki L (rI C gv) g:=fun G F H σ ρ x y dx dy d Q g0 rx ry e k=>by obtain⟨i,j,rfl,rfl,hc,rfl⟩:=hg dx dy d e;obtain rfl:=Den.i rx;obtain rfl:=Den.i ry;exact⟨i,j,rfl,rfl,hc,k F H _ (aL.refl _) g0 (hd F i j)⟩
def VZ(f:Int->Int->S4):D->D->Option D|.int i,.int j=>f i j|_,_=>none
theorem iK(h:VZ f x y=some d):∃i j,x=.int i/\y=.int j/\f i j=some d:=by
 cases x with
 |int i=>cases y with|int j=>exact⟨i,j,rfl,rfl,h⟩|_=>cases h
 |_=>cases h
theorem wu{C:Int->Int->Prop}[∀i j,Decidable (C i j)]{g:Int->Int->D}{x y d:D}(h:VZ (fun i j=>if C i j then some (g i j) else none) x y=some d):∃i j,x=.int i/\y=.int j/\C i j/\d=g i j:=by obtain⟨i,j,e1,e2,e⟩:=iK h;by_cases c:C i j;rw[ZY c] at e;exact⟨i,j,e1,e2,c,(ZV e).symm⟩;rw[Za c] at e;cases e
theorem lW{gv:Int->Int->V}{gd:Int->Int->D}{g:D->D->S4}(hd:∀F i j,Den L.K L.mg F (gv i j) (gd i j))(hg:∀x y d,g x y=some d->∃i j,x=.int i/\y=.int j/\d=gd i j):ki L (uS gv) g:=fun G F H σ ρ x y dx dy d Q g0 rx ry e k=>by obtain⟨i,j,rfl,rfl,rfl⟩:=hg dx dy d e;obtain rfl:=Den.i rx;obtain rfl:=Den.i ry;exact⟨i,j,rfl,rfl,k F H _ (aL.refl _) g0 (hd F i j)⟩
theorem Ot:ki L (uS fun i j=>.int (i+j)) SO:=lW (gd:=fun i j=>.int (i+j)) (fun F i j=>.int _) fun x y d h=>let ⟨i,j,e1,e2,e⟩:=iK (f:=fun i j=>some (.int (i+j))) h;⟨i,j,e1,e2,(ZV e).symm⟩
theorem eK:ki L (uS fun i j=>.int (i-j)) gA:=lW (gd:=fun i j=>.int (i-j)) (fun F i j=>.int _) fun x y d h=>let ⟨i,j,e1,e2,e⟩:=iK (f:=fun i j=>some (.int (i-j))) h;⟨i,j,e1,e2,(ZV e).symm⟩
theorem j8:ki L (rI vm fun i j=>.int (i*j)) mn:=B0 (C:=vm) (gd:=fun i j=>.int (i*j)) (fun F i j=>.int _) fun x y d h=>wu (C:=fun i j=>(-(2 ^ 64)<i/\i<2 ^ 64)\/(-(2 ^ 64)<j/\j<2 ^ 64)) (g:=fun i j=>.int (i*j)) h
theorem BZ:ki L (rI IW fun i j=>.int (i / j)) yb:=B0 (C:=IW) (gd:=fun i j=>.int (i / j)) (fun F i j=>.int _) fun x y d h=>wu (C:=fun _ j=>0<j/\j<1073741824) (g:=fun i j=>.int (i / j)) h
theorem oO:ki L (rI (fun _ j=>0<j) fun i j=>.int (i % j)) nL:=B0 (C:=fun _ j=>0<j) (gd:=fun i j=>.int (i % j)) (fun F i j=>.int _) fun x y d h=>wu (C:=fun _ j=>0<j) (g:=fun i j=>.int (i % j)) h
theorem qc:ki L (uS fun i j=>.bl (decide (i<j))) ltI:=lW (gd:=fun i j=>.bl (decide (i<j))) (fun F i j=>.bl _) fun x y d h=>let ⟨i,j,e1,e2,e⟩:=iK (f:=fun i j=>some (.bl (decide (i<j)))) h;⟨i,j,e1,e2,(ZV e).symm⟩
theorem qb:ki L (uS fun i j=>.bl (decide (i<=j))) pW:=lW (gd:=fun i j=>.bl (decide (i<=j))) (fun F i j=>.bl _) fun x y d h=>let ⟨i,j,e1,e2,e⟩:=iK (f:=fun i j=>some (.bl (decide (i<=j)))) h;⟨i,j,e1,e2,(ZV e).symm⟩
theorem uj:ki L (uS fun i j=>.bl (decide (j<i))) B4:=lW (gd:=fun i j=>.bl (decide (j<i))) (fun F i j=>.bl _) fun x y d h=>let ⟨i,j,e1,e2,e⟩:=iK (f:=fun i j=>some (.bl (decide (j<i)))) h;⟨i,j,e1,e2,(ZV e).symm⟩
theorem S8:ki L (uS fun i j=>.bl (decide (j<=i))) RN:=lW (gd:=fun i j=>.bl (decide (j<=i))) (fun F i j=>.bl _) fun x y d h=>let ⟨i,j,e1,e2,e⟩:=iK (f:=fun i j=>some (.bl (decide (j<=i)))) h;⟨i,j,e1,e2,(ZV e).symm⟩
theorem isNon_den{K:Frag}{mg:MG}{F:Hp}{x:V}{dx:D}(rx:Den K mg F x dx):isNon dx=decide (x=.bz):=by cases rx<;>simp[isNon]
theorem uk:ki L (fun x y H Q=>y=.bz/\Q (.bl (decide (x=.bz))) H) isND:=fun G F H σ ρ x y dx dy d Q g0 rx ry e k=>by unfold isND at e;split at e;rename_i hn;cases e;rw[isNon_den ry] at hn;refine⟨Zx hn,?_⟩;rw[<-isNon_den rx];exact k F H _ (aL.refl _) g0 (.bl _);cases e
theorem gN:U6 L (rU fun i=>.int (-i)) mw:=fun G F H σ ρ x dx d Q g0 rx e k=>by cases dx<;>simp[mw] at e;subst e;rcases rx with rx|⟨l,_,z⟩;obtain rfl:=Den.i rx;exact⟨_,rfl,k F H _ (aL.refl _) g0 (.int _)⟩;exact z.elim
def yL(K:Frag):R2:=fun x y H Q=>∃a b xs ys,x=.ref a/\y=.ref b/\dj K H a xs/\dj K H b ys/\xs.length+ys.length<=sizeLine/\(ys=[]->Q (.ref a) H)/\(xs=[]->Q (.ref b) H)/\(∀p,H p=none->Q (.ref p) (upd H p (.tup (xs++ys))))
theorem Ey{prog:Program}{w:World}{A:Around}{E:Y5}{s:Shared}{t b:Addr}{ws:MY}{Q:Y5}(ht:IsTup s.heap t (#[]:Array Value))(hb:IsTup s.heap b ws.toArray)(h1:Q (.ref b) s):wpAny (model prog w) A (binaryOp .Add (.ref t) (.ref b)) Q E s:=by obtain⟨⟨cls,dd,data,sl⟩,ho,hc,n,hd⟩:=id ht;obtain⟨⟨SW,RC,data2,NA⟩,JW,yj,n2,hd2⟩:=id hb;simp only at hc hd yj hd2;subst hc hd yj hd2;exact concat_meets ⟨_,ho,rfl⟩ ⟨_,JW,rfl⟩ noFill_tuple_add seq_tuple_add LX Ll (wZ _ _) (tuple_addW0 t b #[] ws.toArray n n2 dd RC sl NA rfl) ⟨ho,JW,h1⟩
theorem FN:fZ X (binaryOp .Add) (yL X.K):=by intro QF s σ H x y v u Q I rx ry h;obtain⟨a,b,xs,ys,rfl,rfl,ha,hb,hz,q1,q2,q3⟩:=h;by_cases hx:xs=[];cases rx;cases ry;obtain⟨aG,r1,p1,_⟩:=I.tuple ha;obtain⟨jb,r2,p2,_⟩:=I.tuple hb;have:aG=[]:=r1.lq.mpr hx;subst this;exact Ey p1 p2 ⟨.ref b,H,I,rfl,q2 hx⟩;exact FP QF s σ H _ _ v u Q I rx ry ⟨a,b,xs,ys,rfl,rfl,ha,hb,hx,hz,q1,fun _=>q3⟩
theorem JK:ki L (yL L.K) NZ:=fun G F H σ ρ x y dx dy d Q g0 rx ry e k=>by
 cases dx with
 |tup xs=>cases dy with|tup ys=>simp only[NZ] at e;split at e;rename_i hl;cases e;obtain⟨a,vs,rfl,h1,r1⟩:=Den.t rx;obtain⟨b,ws,rfl,h2,r2⟩:=Den.t ry;refine⟨a,b,vs,ws,rfl,rfl,dj.same h1 g0.sub,dj.same h2 g0.sub,?_,fun z=>?_,fun z=>?_,fun p hp=>?_⟩;rw[r1.length,r2.length,<-vo];exact hl;subst z;cases r2;rw[Fj] at k;exact k F H _ (aL.refl _) g0 (.tup h1 r1);subst z;cases r1;exact k F H _ (aL.refl _) g0 (.tup h2 r2);have sF:=bg (o:=.tup (vs++ws)) (g0.sub.free hp);exact k _ _ _ sF (g0.laid hp) (.tup (dj.of aM) (aK.append (aK.same sF r1) (aK.same sF r2)));cases e|_=>cases e
 |_=>cases e
theorem aK.AA{K:Frag}{mg:MG}{F:Hp}{vs:NC}{ds:Sg}{i:Int}{d:D}(h:aK K mg F vs ds)(e:yq ds i=some d):∃v,AA vs i=some v/\Den K mg F v d:=by unfold yq at e;unfold L2.AA;rw[h.length];show ∃v,(E4 ds.length i).bind _=_/\_;cases q:E4 ds.length i with|none=>rw[q] at e;cases e|some j=>rw[q] at e;exact h.get e
theorem JL:ki L (V1 L.K) aq:=fun G F H σ ρ x y dx dy d Q g0 rx ry e k=>by
 cases dx with
 |tup _=>cases dy with|int _=>obtain rfl:=Den.i ry;obtain⟨_,_,rfl,h1,r1⟩:=Den.t rx;obtain⟨v,e1,e2⟩:=aK.AA r1 e;exact .inr (.inl ⟨_,_,_,v,rfl,rfl,dj.same h1 g0.sub,e1,k F H v (aL.refl _) g0 e2⟩)|_=>cases e
 |lst _=>cases dy with|int _=>obtain rfl:=Den.i ry;obtain⟨_,_,rfl,h1,r1⟩:=Den.l rx;obtain⟨v,e1,e2⟩:=aK.AA r1 e;exact .inl ⟨_,_,_,v,rfl,rfl,df.same h1 g0.sub,e1,k F H v (aL.refl _) g0 e2⟩|_=>cases e
 |_=>cases e
variable{a b e c:Expr}{fa fb:M D}{pos:Pos}
theorem au(ha:PV X EX a fa)(hb:PV X EX b fb)(hs:rE b:=by exact ZQ):PV X EX (.Subscript a b pos) (m2 aq fa fb):=(IA Cu ha hb hs).le (gr JL (fun _ _ _ q=>q) fun _ _ _ q=>q)
theorem lr{L:Lc}{G:Fx}{F H:Hp}{σ:St}{ρ:aQ}{j:Nat}(g:L.Good G F H σ ρ)(h:(own ρ[j]?).isSome=true):∃l d,σ[j]?=some (some (V.ref l))/\own ρ[j]?=some d/\eG L.K L.mg F H l d:=by cases q:ρ[j]? with|none=>rw[q] at h;cases h|some t=>rw[q] at h;have sl:=g.slot j t q;cases t with|no=>cases h|sh d=>cases h|ow d=>obtain⟨l,z1,z2,z3,z4⟩:=sl;exact⟨l,d,join_some z1,rfl,z4⟩|io d=>obtain⟨l,z1,z2,z3,z4⟩:=sl;exact⟨l,d,join_some z1,rfl,z4⟩
theorem a9(j:Nat){x:Str}{p:Pos}(hb:PV X EX b fb)(hs:rE b:=by exact ZQ)(hN:X.N[j]?=some x:=by rfl)(hv:xc X.env.scope x:=by exact ZK)(hd:Y3 x:=by decide)(j9:Y4 x:=by decide):PV X EX (.Subscript (.Name x p) b pos) (bU j fb):=by
 refine(IA Cu (gQ hN hv hd j9) hb hs).le fun σ H Q bA=>lf bA fun G F ρ g0 o=>?_;unfold bU at o;by_cases ho:(own ρ[j]?).isSome=true;rw[ZY ho] at o;obtain⟨l,d0,Ec,_,_⟩:=lr g0 ho;refine⟨_,Ec,aV g0 o (fun x r q=>q) fun F1 H1 bo d1 y s1 g1 r1 o1=>?_⟩;unfold Ct at o1;by_cases OS:(own bo[j]?).isSome=true;obtain⟨l',d,RS,OG,ob⟩:=lr g1 OS;rw[Ec] at RS;cases RS;rw[OG] at o1;obtain⟨d2,e2,q2⟩:=Out.opt o1;cases d with
  |lst ds=>obtain⟨vs,h1,h2⟩:=ob;cases d1 with|int i=>obtain rfl:=Den.i r1;obtain⟨w,e1,e3⟩:=aK.AA h2 e2;exact .inl ⟨_,_,_,w,rfl,rfl,df.of h1,e1,q2 F1 H1 w s1 g1 e3⟩|_=>exact absurd e2 (by simp[aq])
  |gg ks ds=>cases d1<;>exact absurd e2 (by simp[aq])|ins c ns ds=>cases d1<;>exact absurd e2 (by simp[aq])|_=>exact ob.elim
 cases q:own bo[j]? with|none=>rw[q] at o1;exact o1.elim|some d=>rw[q] at OS;exact absurd rfl OS
 rw[Za ho] at o;exact o.elim
end
def jj(cells:List (Str×Addr)):List (Str×NameKind)->List (Str×Addr)->List (Str×Addr)
|[],acc=>acc| (x,k)::r,acc=>if k == .free then
  (match cells.lookup x with|some c=>jj cells r ((x,c)::acc)|none=>jj cells r acc)
 else jj cells r acc
theorem kP:∀{names:List (Str×NameKind)}{acc:List (Str×Addr)}{p:Str×Addr},p∈jj cells names acc->p∈acc\/cells.lookup p.1=some p.2
|[],_,_,h=>.inl h| (x,k)::r,acc,p,h=>by
 unfold jj at h;split at h;cases q:cells.lookup x with|none=>rw[q] at h;exact kP h|some c=>rw[q] at h;rcases kP h with h|h;rcases List.mem_cons.mp h with h|h;subst h;exact .inr q;exact .inl h;exact .inr h
 exact kP h
theorem jF:∀{names:List (Str×NameKind)}{acc:List (Str×Addr)}{p:Str×Addr},p∈acc->p∈jj cells names acc
|[],_,_,h=>h| (x,k)::r,acc,p,h=>by
 unfold jj;split;cases q:cells.lookup x with|none=>exact jF h|some c=>exact jF (Z1 _ h)
 exact jF h
theorem kO(hc:cells.lookup x=some c):∀{names:List (Str×NameKind)}{acc:List (Str×Addr)},(x,NameKind.free)∈names->(x,c)∈jj cells names acc
| (y,k)::r,acc,h=>by
 unfold jj;rcases List.mem_cons.mp h with h|h;cases h;simp only[beq_self_eq_true,if_true,hc];exact jF Z2;split;cases q:cells.lookup y with|none=>exact kO hc h|some c'=>exact kO hc h
 exact kO hc h
theorem gj{α:Type}{a:α}:∀{l:List (Str×α)},(x,a)∈l->∃b,l.lookup x=some b
| (y,b)::r,h=>by
 by_cases e:(x == y)=true;exact⟨b,by simp[List.lookup_cons,e]⟩;have e':(x == y)=false:=by simpa using e
 rcases List.mem_cons.mp h with h|h;cases h;simp at e';obtain⟨c,hc⟩:=gj h;exact⟨c,by simp[List.lookup_cons,e',hc]⟩
theorem dI(h:(jj cells names []).lookup x=some c):cells.lookup x=some c:=by rcases kP (Zn h) with h|h;cases h;exact h
theorem zf(hc:cells.lookup x=some c)(h:(x,NameKind.free)∈names):(jj cells names []).lookup x=some c:=by obtain⟨b,hb⟩:=gj (kO (acc:=[]) hc h);have:=dI hb;rw[hc] at this;cases this;exact hb
theorem nC(h:∀p∈scope.names,p.2=.free->∃c,env.cells.lookup p.1=some c):closureFor scope env=pure (jj env.cells scope.names []):=by
 have gen:∀(names:List (Str×NameKind))(acc:List (Str×Addr)),(∀p∈names,p.2=.free->∃c,env.cells.lookup p.1=some c)->(forIn names acc fun(x:Str×NameKind) r=>(if x.2 == .free then(do let c <-cellOf env x.1;pure (ForInStep.yield ((x.1,c)::r))) else pure (ForInStep.yield r):Sem _))=pure (jj env.cells names acc):=by
  intro names;induction names with
  |nil=>intro acc _;rfl|cons p r ih=>
   intro acc hp;obtain⟨x,k⟩:=p;rw[List.forIn_cons];unfold jj;by_cases hk:k=.free;subst hk;obtain⟨c,hc⟩:=hp (x,.free) Z2 rfl;have e:cellOf env x=pure c:=by unfold cellOf;rw[show env.cells.lookup x=some c from hc]
   simp only[beq_self_eq_true,if_true,e,hc];exact ih _ fun q hq=>hp q (Z1 _ hq);have hb:(k == NameKind.free)=false:=by simpa using hk
   simp only[hb,Bool.false_eq_true,if_false];exact ih _ fun q hq=>hp q (Z1 _ hq)
 have:=gen scope.names [] h;unfold closureFor;simpa using this
theorem eD:(relabel scope env).names.lookup x=(scope.names.lookup x).map fun k=>if (k == .free&&env.scope.kind == .function&&env.kindOf x == some .cell) then .cell else k:=by
 unfold relabel;generalize scope.names=l;induction l with
 |nil=>rfl|cons p r ih=>
  obtain⟨n,k⟩:=p;simp only[List.map_cons];by_cases hx:(x == n)=true;have e:x=n:=by simpa using hx
  subst e;simp only[List.lookup_cons,beq_self_eq_true,Option.map_some];split<;>simp[List.lookup_cons];have e':(x == n)=false:=by simpa using hx
  have e2:List.lookup x ((n,k)::r)=List.lookup x r:=by simp[List.lookup_cons,e']
  rw[e2,<-ih];split<;>simp[List.lookup_cons,e']
def iA(outer inner:List (Str×NameKind))(N N':R5):Bool:=
 inner.all (fun p=>p.2 != .cell&&(p.2 != .free||outer.lookup p.1 == some .cell||outer.lookup p.1 == some .free)&&(p.2 != .local||inner.lookup p.1 == some .local)) &&
 decide (N.length<=N'.length)&&(List.range N.length).all (fun i=>match N'[i]? with|some x=>inner.lookup x != some .local&&(inner.lookup x == none||N[i]? == some x)|none=>true)&&(match N'[N'.length-1]? with|some x=>inner.lookup x == none|none=>false)&&decide (N.length+1<=N'.length)
def bE(X:Cx)(scope:Scope)(C:Addr)(N':R5)(s:Shared)(H:Hp)(ex:VL):Cx:={X with env:=compEnvC scope (jj X.env.cells scope.names []) C X.env,N:=N',s₀:=s,H₀:=H,outer:=X.stack,ex:=ex,fn:=fun _=>false,pn:=[],xe:=fun _ _=>False}
structure bJ(X:Cx)(scope:Scope)(N':R5):Prop where
 kind:scope.kind=.function
 Nf:iA X.env.scope.names scope.names X.N N'=true
section
variable{X:Cx}{scope:Scope}{N':R5}
theorem bJ.free(c:bJ X scope N')(hp:p∈scope.names)(hf:p.2=.free):X.env.kindOf p.1=some .cell\/X.env.kindOf p.1=some .free:=by have h:=c.Nf;unfold iA at h;simp only[Bool.and_eq_true,List.all_eq_true] at h;have q:=(h.1.1.1.1 p hp).1.2;rw[hf] at q;simp at q;exact q
theorem bJ.we(c:bJ X scope N')(hp:p∈scope.names):p.2≠.cell:=by have h:=c.Nf;unfold iA at h;simp only[Bool.and_eq_true,List.all_eq_true] at h;have q:=(h.1.1.1.1 p hp).1.1;simpa using q
theorem bJ.names(c:bJ X scope N')(hp:p∈scope.names)(hl:p.2=.local):scope.names.lookup p.1=some .local:=by have h:=c.Nf;unfold iA at h;simp only[Bool.and_eq_true,List.all_eq_true] at h;have q:=(h.1.1.1.1 p hp).2;rw[hl] at q;simpa using q
theorem bJ.len(c:bJ X scope N'):X.N.length+1<=N'.length:=by have h:=c.Nf;unfold iA at h;simp only[Bool.and_eq_true] at h;exact Zx h.2
theorem bJ.acc(c:bJ X scope N')(hx:N'[N'.length-1]?=some x):scope.names.lookup x=none:=by have h:=c.Nf;unfold iA at h;simp only[Bool.and_eq_true] at h;have q:=h.1.2;rw[hx] at q;simpa using q
theorem bJ.at(c:bJ X scope N')(hi:i<X.N.length)(hx:N'[i]?=some x):scope.names.lookup x≠some .local/\(scope.names.lookup x=none\/X.N[i]?=some x):=by have h:=c.Nf;unfold iA at h;simp only[Bool.and_eq_true,List.all_eq_true] at h;have q:=h.1.1.2 i (List.mem_range.mpr hi);rw[hx] at q;simp only[Bool.and_eq_true,Bool.or_eq_true] at q;refine⟨by simpa using q.1,?_⟩;rcases q.2 with z|z;exact .inl (by simpa using z);exact .inr (by simpa using z)
theorem bJ.SV(c:bJ X scope N')(ok:X.Ok):closureFor scope X.env=pure (jj X.env.cells scope.names []):=nC fun p hp hf=>ok.has p.1 (c.free hp hf)
theorem bJ.look(c:bJ X scope N')(ok:X.Ok)(hx:scope.names.lookup x=some .free) : ((relabel scope X.env).names.lookup x=some .cell\/(relabel scope X.env).names.lookup x=some .free)/\(X.env.kindOf x=some .cell\/X.env.kindOf x=some .free)/\∃a,X.env.cells.lookup x=some a/\(jj X.env.cells scope.names []).lookup x=some a:=by have hm:=Zn hx;have hk:=c.free hm rfl;obtain⟨a,ha⟩:=ok.has x hk;refine⟨?_,hk,a,ha,zf ha hm⟩;rw[eD,hx];simp only[Option.map_some];split;exact .inl rfl;exact .inr rfl
theorem vE{QF:Y6}{σ:St}{H:Hp}{s:Shared}{fp:VL}{h₁:Heap}{D C:Addr}{tk:Nat}(c:bJ X scope N')(I:Inv X QF σ H s)(hf:∀b∈fp,i8 X QF H b)(zl:∀b∈fp,b<s.heap.objs.size)
  (hD:D=s.heap.objs.size) (hC:C=s.heap.objs.size+1) (old:∀b o,s.heap.get? b=some o->h₁.get? b=some o) (Nr:h₁.Ns C fun _=>none) (hl:h₁.get? D=some {cls:=.type "list",data:=.seq #[] 0}) :
  Inv (bE X scope C N' s H fp) [] (σ++List.replicate (N'.length-1-σ.length) none++[some (V.ref D)]) (upd H D (.lst [])) {s with heap:=h₁,toks:=tk}:=by
 have Tc:H D=none:=I.b8.fresh (by rw[hD];exact ZU _);have WB:H C=none:=I.b8.fresh (by rw[hC];exact Nu _);have Tb:C≠D:=by rw[hC,hD];exact Ml (Di _)
 have TM:nA X.prog X.w (upd H D (.lst [])) h₁:=I.b8.laid old (by rw[hD];exact ZU _) ⟨Zp _,[],0,.nil,hl⟩;have Jn:∀x a,X.env.cells.lookup x=some a->a<s.heap.objs.size:=fun x a e=>by obtain⟨v,q⟩:=I.cell x a e;exact q.lt
 have Xx:σ.length=X.N.length:=I.len;refine⟨⟨I.ok.mod,?_,I.ok.glob,I.ok.blt,?_,?_,?_,?_,I.ok.hd,I.ok.frames,.inl rfl,?_,I.bs,Zw I.ok.D7 I.sz,?_,?_,I.stack,I.yQ⟩,rfl,I.bare,Un.laid old (by rw[hD];exact ZU _) Tc,⟨_,Nr,?_⟩,?_,?_,?_,?_,TM,?_⟩;show (relabel scope X.env).kind=_;exact c.kind;show s.heap.objs.size<=C;rw[hC];exact Nu _;intro x y a h1 h2;exact I.ok.inj x y a (dI h1) (dI h2);intro x hx;have Cg:(relabel scope X.env).names.lookup x=some .cell\/(relabel scope X.env).names.lookup x=some .free:=hx;rw[eD] at Cg;cases q:scope.names.lookup x with
 |none=>rw[q] at Cg;rcases Cg with z|z<;>cases z
 |some k=>
  rw[q] at Cg;have hk:k=.free:=by have nc:=c.we (Zn q);simp only[Option.map_some] at Cg;split at Cg;rename_i hh;simp at hh;exact hh.1.1;rcases Cg with z|z;exact absurd (ZV z) nc;exact ZV z
  subst hk;refine VP.gl fun QQ eQ=>?_;obtain⟨_,_,a,_,z⟩:=c.look I.ok q;subst eQ;exact⟨a,z⟩
 intro x a hx _;exact absurd (show false=true from hx) Zi;intro b hb;refine⟨?_,fun x a e=>?_⟩;show b≠C;rw[hC];exact Zd (PQ (zl b hb));exact(hf b hb).2.2.2.2.1 x a (dI e);intro b o e hb;rcases (hf b hb).2.2.2.1 with z|z;exact I.ok.CY b o e z;exact absurd (Z6 (ZW e) (Zw I.ok.D7 z)) (Nw _);intro b hb WK;rcases List.mem_cons.mp (I.wR b WK) with z|z;exact(hf b hb).2.1 z;exact(hf b hb).2.2.1 z;intro i x v h1 h2 h3;by_cases hi:i<σ.length;rw[Z7 (by simp;lia),Z7 hi] at h2;obtain⟨n1,n2⟩:=c.at ZG h1;have D9:(relabel scope X.env).names.lookup x=some .local\/(relabel scope X.env).names.lookup x=some .cell\/(relabel scope X.env).names.lookup x=some .free:=h3;rw[eD] at D9;cases q:scope.names.lookup x with
 |none=>rw[q] at D9;rcases D9 with z|z|z<;>cases z
 |some k=>
  have hk:k=.free:=by rw[q] at D9 n1;have nc:=c.we (Zn q);simp only[Option.map_some] at D9;split at D9;rename_i hh;simp at hh;exact hh.1.1;rcases D9 with z|z|z;exact absurd z n1;exact absurd (ZV z) nc;exact ZV z
  subst hk;have hN:X.N[i]?=some x:=by rcases n2 with z|z;rw[q] at z;cases z;exact z
  refine VP.gl fun QQ eQ=>?_;obtain⟨k1,k2,a,k3,k4⟩:=c.look I.ok q;subst eQ;obtain⟨m,hm,RS⟩:=I.loc;have X1:xc X.env.scope x:=k2.elim (fun z=>.inr (.inl z)) fun z=>.inr (.inr z);obtain⟨u,ru,lk⟩:=RS i x v hN h2 X1;refine⟨u,ru,.inr ⟨k1,a,k4,?_⟩⟩;rcases lk with ⟨z,_⟩|⟨_,a',z1,z2⟩
  rcases k2 with k2|k2<;>(rw[k2] at z;cases z);rw[k3] at z1;cases z1;obtain⟨ob,y1,y2⟩:=z2;exact⟨ob,old _ _ y1,y2⟩
 by_cases Nm:i<N'.length-1;rw[Z7 (by simp;lia),Zc ZG,zB] at h2;split at h2<;>cases h2;have Yx:i<N'.length:=(List.getElem?_eq_some_iff.mp h1).1;have e:i=N'.length-1:=ZG;rw[e] at h1;have z:=c.acc h1;have D9:(relabel scope X.env).names.lookup x=some .local\/(relabel scope X.env).names.lookup x=some .cell\/(relabel scope X.env).names.lookup x=some .free:=h3;rw[eD,z] at D9;rcases D9 with y|y|y<;>cases y;intro x a e;obtain⟨v,ob,y1,y2⟩:=I.cell x a (dI e);exact⟨v,ob,old _ _ y1,y2⟩;show upd H D (.lst []) C=none;rw[aT Tb];exact WB;intro x a e;have e':=dI e;have:a≠D:=by rw[hD];exact Zd (Jn x a e')
 rw[aT this];exact I.j7 x a e';intro p hp;exact absurd (show p∈([]:Y6) from hp) ZH;show (σ++_++_).length=N'.length;have:=c.len;simp
 lia
def Ao(X:Cx)(EX:XE)(ifs:Rz)(f:M Bool):Prop:=∀(QF:Y6)(s:Shared)(σ:St)(H:Hp)(Q:Bool->Hp->Prop),Inv X QF σ H s->lift (lc X EX) RB f σ H Q->wpAny (model X.prog X.w) X.A (forIn ifs true fun c r=>if r=true then do let ok <-isTrue c X.env (eval c X.env);pure (ForInStep.yield ok) else pure (ForInStep.yield r)) (TP X QF σ Q) X.xe s
theorem bX:Ao X EX [] (ret true):=fun QF s σ H Q I ⟨G,F,ρ,g,o⟩=>wpAny_tests_nil ⟨H,I,o F H true (aL.refl _) g rfl⟩
theorem jR(h:PB X EX c f):Ao X EX [c] f:=fun QF s σ H Q I q=>wpAny_tests_one (h QF s σ H Q I q)
theorem Good.take{K:Frag}{mg:MG}{G:Fx}{F H:Hp}{σ:St}{ρ:aQ}(g:Good K mg G F H σ ρ)(n:Nat):Good K mg G F H (σ.take n) (ρ.take n) where
 sF:=g.sF
 sub:=g.sub
 old:=g.old
 new:=g.new
 len:=by simp[g.len]
 slot:=fun i s h=>by by_cases hi:i<n;rw[Zu hi] at h ⊢;exact g.slot i s h;rw[Po ZG] at h;cases h
 apart:=fun i j l s t h1 h2 o1 o2 e1 e2=>by by_cases hi:i<n;by_cases hj:j<n;rw[Zu hi] at h1 e1;rw[Zu hj] at h2 e2;exact g.apart i j l s t h1 h2 o1 o2 e1 e2;rw[Po ZG] at h2;cases h2;rw[Po ZG] at h1;cases h1
 m9:=g.m9
 nH:=g.nH
theorem Good.more{K:Frag}{mg:MG}{G:Fx}{F H:Hp}{σ:St}{ρ:aQ}{D:Addr}(g:Good K mg G F H σ ρ)(n:Nat)(hD:H D=none):Good K mg G F (upd H D (.lst [])) (σ++List.replicate n none++[some (V.ref D)]) (ρ++List.replicate n .no++[.ow (.lst [])]):=by
 have g1:Good K mg G F (upd H D (.lst [])) σ ρ:=g.made hD;have at_:∀{i:Nat}{s:Sl},(ρ++List.replicate n .no++[.ow (.lst [])])[i]?=some s->(i<ρ.length/\ρ[i]?=some s/\(σ++List.replicate n none++[some (V.ref D)])[i]?=σ[i]?)\/(s=.no)\/(i=ρ.length+n/\s=.ow (.lst [])/\(σ++List.replicate n none++[some (V.ref D)])[i]?=some (some (V.ref D))):=fun {i s} h=>by
  by_cases hi:i<ρ.length;rw[Z7 (by simp;lia),Z7 hi] at h;exact .inl ⟨hi,h,by rw[Z7 (by simp[g.len];lia),Z7 (by rw[g.len];exact hi)]⟩;by_cases Nm:i<ρ.length+n;rw[Z7 (by simp;lia),Zc ZG,zB] at h;split at h;exact .inr (.inl (ZV h).symm);cases h;rw[Zc (by simp;lia)] at h;have e:i=ρ.length+n:=by
   have:=(List.getElem?_eq_some_iff.mp h).1;simp at this
   lia
  subst e;simp at h;refine .inr (.inr ⟨rfl,h.symm,?_⟩);rw[Zc (by simp[g.len])];simp[g.len]
 have noD:∀{i:Nat}{s:Sl},ρ[i]?=some s->cj s=true->σ[i]?≠some (some (V.ref D)):=fun {i s} h o e=>by refine VP.gl fun QQ eQ=>?_;obtain⟨l,d,h1,h2,h3,h4⟩:=(g.slot i s h).own o;subst eQ;rw[e] at h1;cases h1;obtain⟨u,hu⟩:=h3.has;rw[hD] at hu;cases hu
 exact {
  sF:=g1.sF
  sub:=g1.sub
  old:=g1.old
  new:=g1.new
  len:=by simp[g.len]
  slot:=fun i s h=>by
   rcases at_ h with ⟨h1,h2,h3⟩|rfl|⟨h1,rfl,h3⟩
   rw[h3];exact g1.slot i s h2;trivial;rw[h3];exact⟨D,rfl,g.sub.free hD,g.zP hD,[],aM,.nil⟩
  apart:=fun i j l s t h1 h2 o1 o2 e1 e2=>by
   rcases at_ h1 with ⟨a1,a2,a3⟩|rfl|⟨a1,rfl,a3⟩
   rcases at_ h2 with ⟨b1,b2,b3⟩|rfl|⟨b1,rfl,b3⟩
   rw[a3] at e1;rw[b3] at e2;exact g.apart i j l s t a2 b2 o1 o2 e1 e2;cases o2;rw[a3] at e1;rw[b3] at e2;cases e2;exact absurd e1 (noD a2 o1);cases o1;rcases at_ h2 with ⟨b1,b2,b3⟩|rfl|⟨b1,rfl,b3⟩
   rw[a3] at e1;rw[b3] at e2;cases e1;exact absurd e2 (noD b2 o2);cases o2;rw[a1,b1]
  m9:=g1.m9
  nH:=g1.nH}
theorem u6{L:Lc}{G:Fx}{F H:Hp}{σ:St}{ρ:aQ}{k:Nat}{x:D}{v:V}{P:Unit->aQ->Prop}{E:Xn->aQ->Prop}(g:L.Good G F H σ ρ)(r:Den L.K L.mg F v x)(o:Out (fD k (gb x) ρ) P E) : ∃l vs bO,σ[k]?=some (some (V.ref l))/\H l=some (.lst vs)/\vs.length<sizeLine/\L.Good G F (upd H l (.lst (vs++[v]))) σ bO/\P () bO:=by
 unfold fD at o;cases q:own ρ[k]? with
 |none=>rw[q] at o;exact o.elim|some d=>
  rw[q] at o;dsimp only at o;cases q2:gb x d with
  |none=>rw[q2] at o;exact o.elim|some d'=>
   rw[q2] at o;have o':P () (cE k d' ρ):=o;cases d with
   |lst ds=>
    simp only[gb] at q2;split at q2;rename_i hl;cases q2;cases q3:ρ[k]? with
    |none=>rw[q3] at q;cases q|some s=>
     rw[q3] at q;have sl:=g.slot k s q3;have fin:∀l s',σ[k]?=some (some (V.ref l))->cj s=true->eG L.K L.mg F H l (.lst ds)->((∃e,s=.ow e/\s'=.ow (.lst (ds++[x])))\/(∃e,s=.io e/\s'=.io (.lst (ds++[x]))))->cE k (.lst (ds++[x])) ρ=ρ.set k s'->∃l vs bO,σ[k]?=some (some (V.ref l))/\H l=some (.lst vs)/\vs.length<sizeLine/\L.Good G F (upd H l (.lst (vs++[v]))) σ bO/\P () bO:=fun l s' z1 z2 z3 z4 z5=>by obtain⟨vs,y1,y2⟩:=z3;refine⟨l,vs,_,z1,y1,by rw[y2.length,Up];exact hl,Good.write g q3 z2 z1 z4 ⟨_,aM,y2.append (.cons r .nil)⟩,?_⟩;rw[<-z5];exact o'
     cases s with|no=>cases q|sh e=>cases q|ow e=>cases q;refine VP.gl fun QQ eQ=>?_;obtain⟨l,z1,z2,z3,z4⟩:=sl;subst eQ;exact fin l _ (join_some z1) rfl z4 (.inl ⟨_,rfl,rfl⟩) (by unfold cE;rw[q3])|io e=>cases q;refine VP.gl fun QQ eQ=>?_;obtain⟨l,z1,z2,z3,z4⟩:=sl;subst eQ;exact fin l _ (join_some z1) rfl z4 (.inr ⟨_,rfl,rfl⟩) (by unfold cE;rw[q3])
    cases q2
   |_=>cases q2
variable{X:Cx}{EX:XE}{elt tg Om:Expr}{ifs:Rz}{pos:Pos}{it:M (List D)}{gf:D->M Unit}{ft:M Bool}{fe:M D}{js:XT}{scope:Scope}{N':R5}
theorem jG(n:Nat){use:Option (Value->Sem Unit)}{QQ:Y5}{QF:Y6}{s:Shared}{σ:St}{H F:Hp}{G:Fx}{ρ:aQ}{P:D->aQ->Prop}{Ex:Xn->aQ->Prop}
  (hc:X.calm=true) (c:bJ X scope N') (hn:X.N.length+n+1=N'.length) (hi:tw X EX tg Om it) (sj:∀d r x r',gf d r≠.exc x r') (tD:∀j∈js,X.N.length<=j/\j<X.N.length+n)
  (hg:∀C s H ex,w8 (bE X scope C N' s H ex) EX tg js gf) (ht:∀C s H ex EX,Ao (bE X scope C N' s H ex) EX ifs ft)
  {xw:Addr->Shared->Hp->VL->Value->Shared->Prop} (he:∀C s H ex,PV ((bE X scope C N' s H ex).nQ (xw C s H ex)) (fun _=>EX σ) elt fe)
  (hw:∀(l C:Addr)(s2:Shared)(H2:Hp)(fp:VL)(v:Value)(s':Shared),Inv X QF σ H2 s2->(∀b∈fp,i8 X QF H2 b)->C=s2.heap.objs.size+1->xw C s2 H2 fp v s'->notedBy (model X.prog X.w) X.A (bE X scope C N' s2 H2 fp).env (fun x Ee=>compPost (model X.prog X.w) X.A X.xe use QQ (.ref l) C (.error x) Ee) v s')
  (hs:∀x,foldedSetIterable Om X.env x=pure x) (I:Inv X QF σ H s) (g0:(lc X EX).Good G F H σ ρ) (o:Out (aS n it gf ft fe ρ) P Ex) (hE:∀x r,Ex x r->cY (lc X EX) G F σ x r)
  (B9:∀(F4 H4:Hp)(s5:Shared)(qr:aQ)(d:D)(l C:Addr)(mm:Str->Pj),aL F F4->(lc X EX).Good G F4 H4 σ qr->Loose X.K X.mg G F4 H4 σ qr l d->P d qr->Inv X QF σ H4 s5->s5.heap.Ns C mm->i8 X QF H4 C->compPost (model X.prog X.w) X.A X.xe use QQ (.ref l) C (.ok .next) s5) :
  wpAny (model X.prog X.w) X.A (comprehension (.ListComp elt [⟨tg,Om,ifs,0⟩] scope pos) scope X.env (firstIterPos [⟨tg,Om,ifs,0⟩] pos) (newList []) (firstAsync [⟨tg,Om,ifs,0⟩]) (firstIter [⟨tg,Om,ifs,0⟩] X.env) use) QQ X.xe s:=by
 refine wpAny_comprehension_free (use:=use) rfl hs (c.SV I.ok) c.kind (fun y hy hl=>c.names hy hl) ?_;refine bK (hi QF s σ H (fun J H1=>∃F1 bo ds,aL F F1/\(lc X EX).Good G F1 H1 σ bo/\D5 (lc X EX) G F1 J ds/\Out (inner n (fun k=>turns k gf ft fe ds) bo) P Ex) I (aV g0 o hE fun F1 H1 bo ds J s1 g1 r1 o1=>⟨F1,bo,ds,s1,g1,r1,o1⟩)) fun xv s1 h1=>bK h1 fun T5 s2 h2=>?_;refine VP.gl fun QQ eQ=>?_;obtain⟨VJ,fp,tn,J,H2,e,I2,T,wL,f2,F1,bo,ds,e1,g1,r1,o1⟩:=h2;subst eQ;subst e;refine Zk (wpAny_newFunctionEnv (fun y hy=>c.we hy) (by intro y hy;simp at hy) (fun h₁ vP so=>?_) c.kind);dsimp only at vP so ⊢;generalize Te:s2.heap.push {cls:=.type "list",dict:=none,data:=.seq ([]:MY).toArray}=HP at vP so ⊢;have hC:HP.objs.size=s2.heap.objs.size+1:=by rw[<-Te,Sh]
 have Tb:s2.heap.objs.size≠HP.objs.size:=by rw[hC];exact Zd (Di _)
 have old:∀b o,s2.heap.get? b=some o->h₁.get? b=some o:=fun b o e=>so.extBut b o (by have:=ZW e;rw[hC];exact Zd (PQ this)) (Y7 _ (Te ▸ Y7 _ e));have hl:h₁.get? s2.heap.objs.size=some {cls:=.type "list",data:=.seq #[] 0}:=so.extBut _ _ Tb (Y7 _ (Te ▸ Y8 _ rfl));have zl:∀b∈fp,b<s2.heap.objs.size:=fun b hb=>by obtain⟨ob,e,_⟩:=T.obj 0 _ wL b hb;exact ZW e
 have Nr:h₁.Ns HP.objs.size fun _=>none:=by simpa using vP
 have Tc:H2 s2.heap.objs.size=none:=I2.b8.fresh (ZU _);have VO:σ.length=X.N.length:=I.len;have Pn:bo.length=σ.length:=g1.len.symm;have Cf:N'.length-1-σ.length=n:=ZG;have I3:=vE (tk:=s2.toks+([]:List (Str×Value)).length) c I2 f2 zl rfl hC old Nr hl;rw[Cf] at I3;have g2:=Good.more g1 n Tc;rw[show inner n (fun k=>turns k gf ft fe ds) bo=_ from rfl] at o1;unfold inner at o1;rw[Pn] at o1;let XX:=bE X scope HP.objs.size N' s2 H2 fp;have yu:∀s3:Shared,s3={s2 with heap:=h₁,toks:=s2.toks+([]:List (Str×Value)).length}->codeAny (model X.prog X.w) X.A (.compLoop (.ListComp elt [⟨tg,Om,ifs,0⟩] scope pos) 0 (.ref VJ) (.ref s2.heap.objs.size) XX.env) (compPost (model X.prog X.w) X.A X.xe use QQ (.ref s2.heap.objs.size) HP.objs.size) s3:=by
  rintro s3 rfl;have Td:∀{α:Type}{t:Sem α}{Q':α->Shared->Prop}{E':Y5}{s':Shared},wpAny (model X.prog X.w) X.A t Q' (fun _ _=>False) s'->wpAny (model X.prog X.w) X.A t Q' E' s':=fun h=>R9 h (fun _ _ q=>q) fun _ _ z=>z.elim;refine codeAny_loop rfl (fun m s'=>∃i bx H' F' bO,m=ds.length-i/\i<=ds.length/\Inv XX [] bx H' s'/\tn i s'.heap/\(∀b∈fp,H' b=none)/\aL F1 F'/\Good X.K X.mg G F' H' bx bO/\(∀j,j<σ.length->bx[j]?=σ[j]?)/\bx[σ.length+n]?=some (some (V.ref s2.heap.objs.size)) /\
   Out (turns (σ.length+n) gf ft fe (ds.drop i) bO) (fun _ r=>∃d,r[σ.length+n]?=some (.ow d)/\P d (r.take σ.length)) (fun x r=>Ex x (r.take σ.length))) (fun m s4 hI=>?_) ds.length
   ⟨0,_,_,F1,_,ZH,Zp _,I3,T.keep _ _ _ wL (fun b _ ob e=>old b ob e),fun b hb=>?_,aL.refl _,g2,fun j hj=>?_,?_,?_⟩
  show wpAny _ X.A ((compTurn (.ListComp elt [⟨tg,Om,ifs,0⟩] scope pos) 0 (.ref VJ) (.ref s2.heap.objs.size) XX.env).onRaise (fun x=>do noteFrame x XX.env;theTreesLotGoes x)) _ _ s4;refine wpAny_noted ?_;rw[compTurn_list];refine VP.gl fun QQ eQ=>?_;obtain⟨i,Hr,H4,F4,IU,rfl,Yy,I4,V7,Vj,e4,g4,EU,RP,o4⟩:=hI;subst eQ;have wN:∀{H':Hp},(∀b∈fp,H' b=none)->∀b∈fp,i8 XX [] H' b:=fun {H'} hz b hb=>⟨hz b hb,(I3.ok.RG b hb).1,I3.ok.BJ b hb,.inl hb,fun x a e=>(I3.ok.RG b hb).2 x a e,fun p hp=>absurd (show p∈([]:Y6) from hp) ZH⟩;obtain⟨t1,t2,t3⟩:=r1 Hr i F4 H4 IU e4 g4;have WI:∀{α:Type}{t:Sem α}{Q':α->Shared->Prop}{s':Shared},wpAny (model X.prog X.w) X.A t Q' (xw HP.objs.size s2 H2 fp) s'->wpAny (model X.prog X.w) X.A t Q' (notedBy (model X.prog X.w) X.A XX.env (fun x Ee=>compPost (model X.prog X.w) X.A X.xe use QQ (.ref s2.heap.objs.size) HP.objs.size (.error x) Ee)) s':=fun h=>R9 h (fun _ _ q=>q) fun v Ee z=>hw _ _ _ _ _ _ _ I2 f2 hC z;have HG:∀{F' H':Hp}{lL:St}{r:aQ},Good X.K X.mg G F' H' lL r->(∀j,j∉js->lL[j]?=Hr[j]?)->Good X.K X.mg G F' H' σ (r.take σ.length):=fun {F' H' lL r} g hj=>by
   have S2:lL.take σ.length=σ:=by refine O3 fun j=>?_;by_cases Nn:j<σ.length;rw[Zu Nn,hj j fun m=>by have:=(tD j m).1;lia];exact EU j Nn;rw[Po ZG,Z9 ZG]
   have:=Good.take g σ.length;rw[S2] at this;exact this
  by_cases m7:i<ds.length;have ed:ds.drop i=ds[i]::ds.drop (i+1):=LQ m7;rw[ed] at o4;refine ZS (Au (ZS (bK (T.item XX rfl rfl rfl hc i [] s4 Hr H4 _ I4 (wN Vj) V7 (t1 m7)) fun r s5 zz=>?_)));obtain⟨u,hr,h5⟩:=zz;subst hr;refine ZS (bK h5 fun _ s6 zz=>?_);obtain⟨x,H6,I6,r6,y6,UB,Ww⟩:=zz;obtain⟨F6,e6,g6,q6⟩:=t3 x H6 y6;have Wh:=I6.pinned (wN Ww) (T.obj _ _ UB);have again:∀{s7:Shared}{lL:St}{H7 F7:Hp}{NF:aQ},Inv XX ([]++pB fp s6.heap) lL H7 s7->aL F6 F7->Good X.K X.mg G F7 H7 lL NF->(∀j,j∉js->lL[j]?=Hr[j]?) ->
    Out (turns (σ.length+n) gf ft fe (ds.drop (i+1)) NF) (fun _ r=>∃d,r[σ.length+n]?=some (.ow d)/\P d (r.take σ.length)) (fun x r=>Ex x (r.take σ.length)) ->
    ∃m,m<ds.length-i/\∃i bx H' F' bO,m=ds.length-i/\i<=ds.length/\Inv XX [] bx H' s7/\tn i s7.heap/\(∀b∈fp,H' b=none)/\aL F1 F'/\Good X.K X.mg G F' H' bx bO/\(∀j,j<σ.length->bx[j]?=σ[j]?)/\bx[σ.length+n]?=some (some (V.ref s2.heap.objs.size))/\Out (turns (σ.length+n) gf ft fe (ds.drop i) bO) (fun _ r=>∃d,r[σ.length+n]?=some (.ow d)/\P d (r.take σ.length)) (fun x r=>Ex x (r.take σ.length)):=fun {s7 lL H7 F7 NF} I7 e7 g7 Ie o7=>by
   refine⟨ds.length-(i+1),ZG,i+1,lL,H7,F7,NF,rfl,m7,I7.lE,T.keep _ _ _ UB fun b hb ob e=>(I7.pin (b,ob) (Zr _ (Zr _ (iJ hb e)))).1,fun b hb=>?_,e4.trans (e6.trans e7),g7,fun j hj=>?_,?_,o7⟩;obtain⟨ob,e,d⟩:=T.obj _ _ UB b hb;exact(I7.pin (b,ob) (Zr _ (Zr _ (iJ hb e)))).2.1;rw[Ie j fun m=>by have:=(tD j m).1;lia];exact EU j hj;rw[Ie _ fun m=>by have:=(tD _ m).2;lia];exact RP
  refine ZS (Td (bK (hg HP.objs.size s2 H2 fp _ s6 Hr H6 x u (fun bx H'=>∃F' bO,aL F6 F'/\Good X.K X.mg G F' H' bx bO/\(∀j,j∉js->bx[j]?=Hr[j]?) /\
   Out (YV ft (fun b=>if b then YV fe fun x=>YV (fD (σ.length+n) (gb x)) fun _=>turns (σ.length+n) gf ft fe (ds.drop (i+1)) else turns (σ.length+n) gf ft fe (ds.drop (i+1))) bO) (fun _ r=>∃d,r[σ.length+n]?=some (.ow d)/\P d (r.take σ.length)) (fun x r=>Ex x (r.take σ.length))) Wh r6
   ⟨G,F6,IU,ds[i],g6,q6 _ (by simp[m7]),(show Out (gf ds[i] IU) _ _ by have o5:=Out.YV o4;cases q:gf ds[i] IU with|no=>rw[q] at o5;exact o5.elim|exc x r=>exact absurd q (sj _ _ _ _)|ok u r=>rw[q] at o5;exact fun F' H' bx s g hj=>⟨F',r,s,g,hj,o5⟩)⟩) fun _ s7 ⟨lL,H7,I7,F7,NF,e7,g7,Ie,o7⟩=>?_))
  refine ZS (Td (bK (ht HP.objs.size s2 H2 fp (fun _=>EX σ) _ s7 lL H7 (fun b H'=>∃F' bO,aL F7 F'/\Good X.K X.mg G F' H' lL bO /\
   Out ((if b then YV fe fun x=>YV (fD (σ.length+n) (gb x)) fun _=>turns (σ.length+n) gf ft fe (ds.drop (i+1)) else turns (σ.length+n) gf ft fe (ds.drop (i+1))) bO) (fun _ r=>∃d,r[σ.length+n]?=some (.ow d)/\P d (r.take σ.length)) (fun x r=>Ex x (r.take σ.length))) I7
   ⟨G,F7,NF,g7,(Out.YV o7).mono (fun a r z F' H' b s g e=>by cases e;exact⟨F',r,s,g,z⟩) fun x r z F' H' c dx s g xr=>hE x _ z F' H' c dx (e1.trans (e4.trans (e6.trans (e7.trans s)))) (HG g Ie) xr⟩) fun ok s8 zz=>?_))
  obtain⟨H8,I8,F8,X5,e8,g8,o8⟩:=zz;cases ok with
  |false=>exact ZT ⟨rfl,again I8 (e7.trans e8) g8 Ie o8⟩|true=>
   refine ZS (ZS (WI (bK (he HP.objs.size s2 H2 fp _ s8 lL H8 (fun v H'=>∃F' bO d,aL F8 F'/\Good X.K X.mg G F' H' lL bO/\Den X.K X.mg F' v d /\
    Out (YV (fD (σ.length+n) (gb d)) (fun _=>turns (σ.length+n) gf ft fe (ds.drop (i+1))) bO) (fun _ r=>∃d,r[σ.length+n]?=some (.ow d)/\P d (r.take σ.length)) (fun x r=>Ex x (r.take σ.length))) (I8.nQ _)
    ⟨G,F8,X5,g8,(Out.YV o8).mono (fun a r z F' H' b s g e=>⟨F',r,a,s,g,e,z⟩) fun x r z F' H' c dx s g xr=>hE x _ z F' H' c dx (e1.trans (e4.trans (e6.trans (e7.trans (e8.trans s))))) (HG g Ie) xr⟩) fun xv s9 zz=>?_)))
   obtain⟨y,H9,Wi,r9,F9,Y2,d9,e9,g9,Wm,o9⟩:=zz;have I9:=Wi.iQ;refine VP.gl fun QQ eQ=>?_;obtain⟨l,vs,X4,VI,WE,Nv,RM,XD⟩:=u6 (L:=lc X EX) g9 Wm (Out.YV o9);subst eQ;rw[Ie _ fun m=>by have:=(tD _ m).2;lia,RP] at VI;cases VI;refine ZS (Td (bK (rf (X:=XX) _ s9 lL H9 (.ref s2.heap.objs.size) [y] (.ref s2.heap.objs.size) [xv] (fun _ H'=>H'=upd H9 s2.heap.objs.size (.lst (vs++[y]))) I9 rfl (.cons r9 .nil) ⟨_,vs,y,rfl,rfl,WE,Nv,rfl⟩) fun _ Ef zz=>?_));obtain⟨_,X7,We,_,Wo⟩:=zz;subst Wo;exact ZT (ZT ⟨rfl,again We ((e7.trans e8).trans e9) RM Ie XD⟩)
  have e:i=ds.length:=ZG;subst e;refine ZS (Au (ZS (bK (T.done XX rfl rfl rfl hc _ [] s4 Hr H4 _ I4 (wN Vj) V7 (t2 rfl)) fun r s5 ⟨hr,I5⟩=>?_)));subst hr;refine ZT ?_;obtain⟨mm,EO,_⟩:=id I5.loc;rw[List.drop_length] at o4;obtain⟨d,hd,post⟩:∃d,IU[σ.length+n]?=some (.ow d)/\P d (IU.take σ.length):=o4;have IX:Inv X QF σ H4 s5:=I2.Br (s':=s5) I5.os I5.base I5.b8 I5.bare fun b hb=>⟨(f2 b hb).2.2.2.1,(f2 b hb).2.1,(f2 b hb).2.2.2.2.1,(f2 b hb).2.2.2.2.2⟩;have FC:i8 X QF H4 HP.objs.size:=I2.oK (by rw[hC];exact Nu _) I5.free;have S2:Hr.take σ.length=σ:=by refine O3 fun j=>?_;by_cases hj:j<σ.length;rw[Zu hj];exact EU j hj;rw[Po ZG,Z9 ZG]
  refine VP.gl fun QQ eQ=>?_;obtain⟨l,z1,z2,z3,z4⟩:=g4.slot _ _ hd;subst eQ;rw[RP] at z1;cases z1;refine B9 F4 H4 s5 _ d _ _ mm (e1.trans e4) (by have:=Good.take g4 σ.length;rw[S2] at this;exact this) ⟨z2,z3,z4,fun j t hj ho zq=>?_⟩ post IX EO FC;have Tx:j<σ.length:=by
   have:=(List.getElem?_eq_some_iff.mp hj).1;simp at this
   lia
  rw[Zu Tx] at hj;have:=g4.apart j (σ.length+n) s2.heap.objs.size t _ hj hd ho rfl (by rw[EU j Tx];exact zq) RP
  lia
  rw[aT (Zd (zl b hb))];exact(f2 b hb).1;rw[Z7 (by simp;lia),Z7 hj];rw[Zc ZH];simp;simp only[List.drop_zero];cases q:turns (σ.length+n) gf ft fe ds (bo++List.replicate n .no++[.ow (.lst [])]) with|no=>simp only[q] at o1;exact o1.elim|exc x r=>simp only[q] at o1;exact o1|ok u r=>simp only[q] at o1;show ∃d,r[σ.length+n]?=some (.ow d)/\_;cases q2:r[σ.length+n]? with|none=>simp only[q2] at o1;exact o1.elim|some t=>simp only[q2] at o1;cases t with|ow d=>exact⟨d,rfl,o1⟩|no=>exact o1.elim|sh d=>exact o1.elim|io d=>exact o1.elim
 exact codeAny_compStart_list (yu _ rfl) (T.self _ _ _ _ _ (T.keep _ _ _ wL fun b _ ob e=>old b ob e) (yu _ rfl))
theorem FZ(n:Nat)(hc:X.calm=true)(c:bJ X scope N')(hn:X.N.length+n+1=N'.length)(hi:tw X EX tg Om it)(sj:∀d r x r',gf d r≠.exc x r')(tD:∀j∈js,X.N.length<=j/\j<X.N.length+n)
  (hg:∀C s H ex,w8 (bE X scope C N' s H ex) EX tg js gf) (ht:∀C s H ex EX,Ao (bE X scope C N' s H ex) EX ifs ft) (he:∀C s H ex EX,PV (bE X scope C N' s H ex) EX elt fe)
  (hs:∀x,foldedSetIterable Om X.env x=pure x:=by exact ZP):PF X EX (.ListComp elt [⟨tg,Om,ifs,0⟩] scope pos) (aS n it gf ft fe):=by
 intro QF s σ H Q I h;refine VP.gl fun QQ eQ=>?_;obtain⟨G,F,ρ,g0,o⟩:=h;subst eQ;rw[eval_ListComp];refine jG (use:=none) n hc c hn hi sj tD hg ht (xw:=fun _ _ _ _ _ _=>False) (fun C s H ex=>he C s H ex _) (fun _ _ _ _ _ _ _ _ _ _ z=>z.elim) hs I g0 o (fun x r q=>q) fun F4 H4 s5 qr d l C mm e4 g4 lo post IX EO FC=>?_;refine⟨mm,EO,fun h' Eb=>⟨.ref l,H4,?_,rfl,post F4 H4 _ e4 g4 ⟨l,rfl,lo⟩⟩⟩;exact IX.turned (t':=s5.toks) (fun b ob hb e=>Eb.extBut b ob hb e) FC.1 FC.2.1 FC.2.2.2.1 FC.2.2.2.2.1 FC.2.2.2.2.2
theorem ox(n i:Nat){y:Str}{py lB:Pos}{f:D->M Fl}(hc:X.calm=true)(c:bJ X scope N')(hn:X.N.length+n+1=N'.length)(hi:tw X EX tg Om it)(sj:∀d r x r',gf d r≠.exc x r')(tD:∀j∈js,X.N.length<=j/\j<X.N.length+n)
  (hg:∀C s H ex,w8 (bE X scope C N' s H ex) EX tg js gf) (ht:∀C s H ex EX,Ao (bE X scope C N' s H ex) EX ifs ft) (he:∀C s H ex EX,PV (bE X scope C N' s H ex) EX elt fe)
  (hN:X.N.Nodup) (hy:X.N[i]?=some y) (hx:Loc X.env.scope y) (ET:swapsWith (.ListComp elt [⟨tg,Om,ifs,0⟩] scope pos) (some (.Name y py)) lB.line X.env=pure true)
  (hf:∀{G:Fx}{F4 H4 F:Hp}{σ:St}{qr:aQ}{l:Addr}{d:D}{E:Ends},(lc X EX).Good G F4 H4 σ qr->Loose X.K X.mg G F4 H4 σ qr l d->aL F F4->Out (f d qr) (f9 (lc X EX) G F E) (cL (lc X EX) G F)->E.nx (σ.set i (some (.ref l))) H4)
  (hs:∀x,foldedSetIterable Om X.env x=pure x) (zk:ZD X y):mS X EX (.Assign [.Name y py] (.ListComp elt [⟨tg,Om,ifs,0⟩] scope pos) lB) (YV (aS n it gf ft fe) f):=by
 intro QF s σ H E I h;refine VP.gl fun QQ eQ=>?_;obtain⟨G,F,ρ,g0,o⟩:=h;subst eQ;rw[Fm _ _ _ _ ET];refine ZS (Au (ZS ?_));show wpAny _ X.A (do let _ <-comprehension (.ListComp elt [⟨tg,Om,ifs,0⟩] scope pos) scope X.env _ (newList []) false (firstIter [⟨tg,Om,ifs,0⟩] X.env) (some (assign (.Name y py) X.env))) _ _ s;refine ZS (R9 (jG (use:=some (assign (.Name y py) X.env)) (QQ:=fun _ s'=>SP X QF E .next s') n hc c hn hi sj tD hg ht (xw:=fun _ _ _ _ _ _=>False) (fun C s H ex=>he C s H ex _) (fun _ _ _ _ _ _ _ _ _ _ z=>z.elim) hs I g0 (Out.YV o) (fun x r q=>q.x) fun F4 H4 s5 qr d l C mm e4 g4 lo post IX EO FC=>?_) (fun _ s' hq=>ZT (ZT hq)) fun _ _ e=>e);show wpAny _ X.A (assign (.Name y py) X.env (.ref l)) _ _ s5;refine uK (jT IX hN hy hx (v:=.ref l) rfl (fun s6 I6 zz=>?_) zk);obtain⟨a,sb,ha⟩:=zz;have OA:C≠a:=by rcases ha with rfl|ha;exact FC.2.1;exact fun z=>FC.2.2.2.2.1 _ _ ha z.symm
 refine⟨mm,EO.sameBut sb OA,fun h' Eb=>⟨σ.set i (some (.ref l)),H4,?_,hf g4 lo e4 post⟩⟩;exact I6.turned (t':=s6.toks) (fun b ob hb e=>Eb.extBut b ob hb e) FC.1 FC.2.1 FC.2.2.2.1 FC.2.2.2.2.1 FC.2.2.2.2.2
theorem yT(n i:Nat){y:Str}{py lB:Pos}(hN:X.N.Nodup)(hy:X.N[i]?=some y)(hx:Loc X.env.scope y)(hc:X.calm=true)(c:bJ X scope N')(hn:X.N.length+n+1=N'.length)(hi:tw X EX tg Om it)(sj:∀d r x r',gf d r≠.exc x r')(tD:∀j∈js,X.N.length<=j/\j<X.N.length+n)
  (hg:∀C s H ex,w8 (bE X scope C N' s H ex) EX tg js gf) (ht:∀C s H ex EX,Ao (bE X scope C N' s H ex) EX ifs ft) (he:∀C s H ex EX,PV (bE X scope C N' s H ex) EX elt fe)
  (ET:swapsWith (.ListComp elt [⟨tg,Om,ifs,0⟩] scope pos) (some (.Name y py)) lB.line X.env=pure true:=by rfl) (hs:∀x,foldedSetIterable Om X.env x=pure x:=by exact ZP)
  (zk:ZD X y:=by exact ZL):mS X EX (.Assign [.Name y py] (.ListComp elt [⟨tg,Om,ifs,0⟩] scope pos) lB) (aN i (aS n it gf ft fe)):=
 ox n i (f:=fun d=>Eg (nJ i d)) hc c hn hi sj tD hg ht he hN hy hx ET (fun {G F4 H4 F σ qr l d E} g4 lo e4 o=>by obtain⟨F5,e5,g5,dn⟩:=lo.fast g4;obtain⟨mR,g2,q⟩:=jy (L:=lc X EX) g5 dn (Out.YV o);exact q F5 H4 _ (e4.trans e5) g2) hs zk
theorem oh(n i:Nat){y:Str}{py lB:Pos}(hN:X.N.Nodup)(hy:X.N[i]?=some y)(hx:Loc X.env.scope y)(hc:X.calm=true)(c:bJ X scope N')(hn:X.N.length+n+1=N'.length)(hi:tw X EX tg Om it)(sj:∀d r x r',gf d r≠.exc x r')(tD:∀j∈js,X.N.length<=j/\j<X.N.length+n)
  (hg:∀C s H ex,w8 (bE X scope C N' s H ex) EX tg js gf) (ht:∀C s H ex EX,Ao (bE X scope C N' s H ex) EX ifs ft) (he:∀C s H ex EX,PV (bE X scope C N' s H ex) EX elt fe)
  (ET:swapsWith (.ListComp elt [⟨tg,Om,ifs,0⟩] scope pos) (some (.Name y py)) lB.line X.env=pure true:=by rfl) (hs:∀x,foldedSetIterable Om X.env x=pure x:=by exact ZP)
  (zk:ZD X y:=by exact ZL):mS X EX (.Assign [.Name y py] (.ListComp elt [⟨tg,Om,ifs,0⟩] scope pos) lB) (fU i (aS n it gf ft fe)):=
 ox n i (f:=fun d=>Eg (CQ i d)) hc c hn hi sj tD hg ht he hN hy hx ET (fun {G F4 H4 F σ qr l d E} g4 lo e4 o=>by obtain⟨mR,g2,q⟩:=pz (L:=lc X EX) g4 lo (Out.YV o);exact q F4 H4 _ e4 g2) hs zk
end
section
variable{X:Cx}{EX:XE}{L:Lc}{tg e a b:Expr}{fa fb fe:M D}{G:Fx}{F:Hp}
theorem E1(h:dj L.K F p vs)(r:aK L.K L.mg F vs ds):D5 L G F (SH L.K p) ds:=fun σ i F' H' ρ s g=>by have sq:dj L.K H' p vs:=dj.same (dj.same h s) g.sub;have hl:=r.length;refine⟨fun hi=>⟨vs,vs[i]' ZG,sq,by simp[show i<vs.length by lia]⟩,fun hi=>⟨vs,sq,ZG⟩,fun x D4 ⟨e,y⟩=>?_⟩;subst e;refine⟨F',aL.refl _,g,fun d hd=>?_⟩;obtain⟨v,h1,h2⟩:=(r.same s).get hd;rw[y vs sq] at h1;cases h1;exact h2
theorem Q1L(h:df L.K F p vs)(r:aK L.K L.mg F vs ds):D5 L G F (SG L.K p) ds:=fun σ i F' H' ρ s g=>by have sq:df L.K H' p vs:=df.same (df.same h s) g.sub;have hl:=r.length;refine⟨fun hi=>⟨vs,vs[i]' ZG,sq,by simp[show i<vs.length by lia]⟩,fun hi=>⟨vs,sq,ZG⟩,fun x D4 ⟨e,y⟩=>?_⟩;subst e;refine⟨F',aL.refl _,g,fun d hd=>?_⟩;obtain⟨v,h1,h2⟩:=(r.same s).get hd;rw[y vs sq] at h1;cases h1;exact h2
theorem Q1E(lo:Int)(n:Nat):D5 L G F (Rk lo n) ((List.range n).map fun(k:Nat)=>.int (lo+k)):=fun σ i F' H' ρ s g=>by
 refine⟨fun hi=>(by simpa using hi:i<n),fun hi=>(Nat.le_of_eq (by simpa using hi.symm):n<=i),fun x D4 ⟨e,y⟩=>?_⟩;subst e y;refine⟨F',aL.refl _,g,fun d hd=>?_⟩;rw[Zs] at hd;cases q:(List.range n)[i]? with
 |none=>rw[q] at hd;cases hd|some k=>
  rw[q] at hd;have:k=i:=by have:=List.getElem?_eq_some_iff.mp q;obtain⟨h1,h2⟩:=this;simp at h2;exact h2.symm
  subst this;cases hd;exact .int _
def T2(K:Frag)(tl:TE):TI:=fun σ H R=>tl σ H fun x H1=>∃p,x=.ref p/\(((∃xs,df K H1 p xs)/\R (SG K p) H1)\/((∃xs,dj K H1 p xs)/\R (SH K p) H1))
theorem Mc(hl:PE X l tl):PI X tg l (T2 X.K tl):=by
 intro QF s σ H R I h;refine bK (hl QF s σ H _ I h) fun v s1 zz=>?_;obtain⟨x,H1,I1,r1,q1⟩:=zz;obtain⟨p,e,q1⟩:=q1;subst e;cases r1;rcases q1 with ⟨⟨xs,hq⟩,q⟩|⟨⟨xs,hq⟩,q⟩
 obtain⟨aG,rv,pl,hz⟩:=I1.list hq;refine RK pl.isList ?_;refine⟨s1.heap.objs.size,[s1.heap.objs.size],_,_,H1,rfl,I1.kept (t':=s1.toks) fun b o e=>Y7 _ e,Ah p _,⟨_,Y8 _ rfl,rfl,rfl⟩,fun b hb=>?_,q⟩;have e:b=s1.heap.objs.size:=by simpa using hb
 subst e;exact I1.oK (ZU _) (I1.b8.fresh (ZU _));obtain⟨aG,rv,pl,hz⟩:=I1.tuple hq;refine LN (show s1.heap.IsTuple p aG.toArray from pl) ?_;refine⟨s1.heap.objs.size,[s1.heap.objs.size],_,_,H1,rfl,I1.kept (t':=s1.toks) fun b o e=>Y7 _ e,Q1F p _,⟨_,Y8 _ rfl,rfl,rfl⟩,fun b hb=>?_,q⟩;have e:b=s1.heap.objs.size:=by simpa using hb
 subst e;exact I1.oK (ZU _) (I1.b8.fresh (ZU _))
theorem cP(h:PV X EX e fe):tw X EX tg e (dk fe):=(Mc h).le fun σ H Q bA=>dg bA fun G F F1 H1 bo d1 x s1 g1 r1 o1=>by obtain⟨ds,e,q⟩:=o1.opt;cases r1 with|tup h1 r1=>cases e;exact⟨_,rfl,.inr ⟨⟨_,dj.same h1 g1.sub⟩,q F1 H1 _ s1 g1 (E1 h1 r1)⟩⟩|lst h1 r1=>cases e;exact⟨_,rfl,.inl ⟨⟨_,df.same h1 g1.sub⟩,q F1 H1 _ s1 g1 (Q1L h1 r1)⟩⟩|_=>cases e
theorem bR{fl:List (M D)}{p pos:Pos}(hg:Gl X "range")(hm:X.mg "range" = none)(ha:yW X EX [a] (mL fl))(hs:starEach [a] X.env=[(false,eval a X.env)]:=by rfl):tw X EX tg (.Call (.Name "range" p) [a] [] pos) (cJ fl):=(zV hg hm ha hs).le fun σ H Q bA=>dg bA fun G F F1 H1 bo d1 xs s1 g1 r1 o1=>by
 obtain⟨ds,e,q⟩:=o1.opt;unfold qi at e;split at e;rename_i j;cases r1 with|cons h r1=>obtain rfl:=aK.n r1;obtain rfl:=Den.i h;split at e;rename_i hb;cases e;refine⟨j,rfl,hb.1,hb.2,q F1 H1 _ s1 g1 ?_⟩;have:=Q1E (L:=lc X EX) (G:=G) (F:=F1) 0 j.toNat;simp only[Int.zero_add] at this;exact this;cases e
 cases e
end
section
variable{X:Cx}{EX:XE}{L:Lc}{e a b:Expr}{fa fb fe:M D}{pos p:Pos}{x:Str}{id T:String}
def IY(L:Lc)(r:NC->Hp->VK->Prop)(g:D->S4):Prop:=∀G F H σ ρ x dx d Q,L.Good G F H σ ρ->RR L G F H σ ρ x dx->g dx=some d->Em L G F σ ρ d Q->r [x] H Q
theorem mD(ha:PR X EX a fa)(hs:ZC X a []:=by rfl):PA X [a] (fun σ H Q=>lift (lc X EX) (RR (lc X EX)) fa σ H fun v H'=>Q [v] H'):=(cu ha fL hs).le fun σ H Q h=>h
theorem eU(hc:dO X (.builtin id) r)(hg:IY (lc X EX) r g)(qU:Gl X x)(hm:X.mg x=none)(hv:bootBuiltins x=some (.builtin id))(ha:PR X EX a fa)(hn:x≠"__name__" := by decide)(i9:Y3 x:=by decide)(hs:ZC X a []:=by rfl):PV X EX (.Call (.Name x p) [a] [] pos) (m1 g fa):=
 (ju hc qU hm hv (mD ha hs) hn i9 hs rfl).le fun σ H Q bA=>dg bA fun G F F1 H1 bo d1 x s1 g1 r1 o1=>by obtain⟨d,e,q⟩:=o1.opt;exact hg G F1 H1 σ bo x d1 d Q g1 r1 e (eM.same s1 q)
theorem zZ(hc:dO X (.type T) r)(hg:IY (lc X EX) r g)(qU:Gl X x)(hm:X.mg x=none)(hv:bootBuiltins x=some (.type T))(ha:PR X EX a fa)(hn:x≠"__name__" := by decide)(i9:Y3 x:=by decide)(hs:ZC X a []:=by rfl):PV X EX (.Call (.Name x p) [a] [] pos) (m1 g fa):=
 (jP hc qU hm hv (mD ha hs) hn i9 hs rfl).le fun σ H Q bA=>dg bA fun G F F1 H1 bo d1 x s1 g1 r1 o1=>by obtain⟨d,e,q⟩:=o1.opt;exact hg G F1 H1 σ bo x d1 d Q g1 r1 e (eM.same s1 q)
theorem pG(hc:dO X (.type T) r)(hg:Ri (lc X EX) r g)(qU:Gl X x)(hm:X.mg x=none)(hv:bootBuiltins x=some (.type T))(ha:yW X EX (e::es) (mL fl))(hn:x≠"__name__" := by decide)(i9:Y3 x:=by decide)(he:ZC X e es:=by rfl) (jc:ZE X pos es:=by rfl):PV X EX (.Call (.Name x p) (e::es) [] pos) (mF g fl):=
 (jP hc qU hm hv ha hn i9 he jc).le fun σ H Q bA=>dg bA fun G F F1 H1 bo d1 xs s1 g1 r1 o1=>by obtain⟨d,e,q⟩:=o1.opt;exact hg G F1 H1 σ bo xs d1 d Q g1 r1 e (eM.same s1 q)
theorem RR.seq(h:RR L G F H σ ρ v d)(g:L.Good G F H σ ρ)(e:cq d=some ds) : ∃p vs,v=.ref p/\aK L.K L.mg F vs ds/\((d=.lst ds/\df L.K H p vs)\/(d=.tup ds/\dj L.K H p vs/\dj L.K F p vs)):=by
 rcases h with h|⟨l,rfl,h⟩;cases h with|tup h1 r1=>cases e;exact⟨_,_,rfl,r1,.inr ⟨rfl,dj.same h1 g.sub,h1⟩⟩|lst h1 r1=>cases e;exact⟨_,_,rfl,r1,.inl ⟨rfl,df.same h1 g.sub⟩⟩|_=>cases e
 cases d with|lst xs=>cases e;obtain⟨vs,h1,h2⟩:=h;exact⟨l,vs,rfl,h2,.inl ⟨rfl,df.of h1⟩⟩|gg ks xs=>cases e|ins c ns xs=>cases e|_=>exact h.elim
theorem Ou:IY L (fun xs H Q=>∃p ys,xs=[.ref p]/\(df L.K H p ys\/dj L.K H p ys)/\Q (.int ys.length) H) bB:=fun G F H σ ρ x dx d Q g0 rx e k=>by
 have hs:∃ds,cq dx=some ds/\d=.int ds.length:=by cases dx<;>cases e<;>exact⟨_,rfl,rfl⟩
 obtain⟨ds,h1,rfl⟩:=hs;obtain⟨p,vs,rfl,r,q⟩:=RR.seq rx g0 h1;refine⟨p,vs,rfl,q.elim (fun z=>.inl z.2) (fun z=>.inr z.2.1),?_⟩;rw[r.length];exact k F H _ (aL.refl _) g0 (.int _)
theorem EK:IY L (fun xs H Q=>∃p ys,xs=[.ref p]/\((df L.K H p ys/\∀l,H l=none->Q (.ref l) (upd H l (.tup ys)))\/(dj L.K H p ys/\Q (.ref p) H))) i6:=fun G F H σ ρ x dx d Q g0 rx e k=>by
 have hs:∃ds,cq dx=some ds/\d=.tup ds:=by cases dx<;>cases e<;>exact⟨_,rfl,rfl⟩
 obtain⟨ds,h1,rfl⟩:=hs;obtain⟨p,vs,rfl,r,q⟩:=RR.seq rx g0 h1;refine⟨p,vs,rfl,?_⟩;rcases q with ⟨rfl,q⟩|⟨rfl,q,q2⟩
 refine .inl ⟨q,fun l hl=>?_⟩;have sF:=bg (o:=.tup vs) (g0.sub.free hl);exact k _ _ _ sF (g0.laid hl) (.tup (dj.of aM) (r.same sF));exact .inr ⟨q,k F H _ (aL.refl _) g0 (.tup q2 r)⟩
theorem iM(qU:Gl X x)(hm:X.mg x=none)(hv:bootBuiltins x=some (.type "list"))(ha:PR X EX a fa)(hn:x≠"__name__" := by decide)(i9:Y3 x:=by decide)(hs:ZC X a []:=by rfl):PF X EX (.Call (.Name x p) [a] [] pos) (m1 gZ fa):=
 (jP rN qU hm hv (mD ha hs) hn i9 hs rfl).le fun σ H Q bA=>dg bA fun G F F1 H1 bo d1 x s1 g1 r1 o1=>by
  obtain⟨d,e,q⟩:=o1.opt;have hs:∃ds,cq d1=some ds/\d=.lst ds:=by cases d1<;>cases e<;>exact⟨_,rfl,rfl⟩
  obtain⟨ds,h1,rfl⟩:=hs;obtain⟨p,vs,rfl,r,z⟩:=RR.seq r1 g1 h1;refine⟨p,vs,rfl,z.elim (fun z=>.inl z.2) (fun z=>.inr z.2.1),fun l hl=>?_⟩;exact q _ _ _ s1 (g1.made hl) ⟨l,rfl,g1.loose hl ⟨vs,aM,r⟩⟩
theorem yg:Ri L (fun xs H Q=>∃i j,xs=[.int i,.int j]/\Q (.int (if j > i then j else i)) H) maxD:=fun G F H σ ρ xs RE d Q g0 rx e k=>by
 unfold maxD at e;split at e;rename_i i j;cases rx with|cons h1 rx=>cases rx with|cons h2 rx=>obtain rfl:=aK.n rx;obtain rfl:=Den.i h1;obtain rfl:=Den.i h2;cases e;exact⟨i,j,rfl,k F H _ (aL.refl _) g0 (.int _)⟩
 cases e
theorem vK:Ri L (fun xs H Q=>(∃i,xs=[.int i]/\Q (.int i) H)\/∃k,xs=[.bl k]/\Q (.int (if k then 1 else 0)) H) intD:=fun G F H σ ρ xs RE d Q g0 rx e k=>by
 unfold VP.intD at e;split at e;rename_i i;cases rx with|cons h1 rx=>obtain rfl:=aK.n rx;obtain rfl:=Den.i h1;cases e;exact .inl ⟨i,rfl,k F H _ (aL.refl _) g0 (.int _)⟩
 rename_i i;cases rx with|cons h1 rx=>obtain rfl:=aK.n rx;obtain rfl:=Den.b h1;cases e;exact .inr ⟨i,rfl,k F H _ (aL.refl _) g0 (.int _)⟩
 cases e
end
mutual
def toPy:D->PyData|.bz=>.none|.bl b=>.bool b|.int i=>.int i|.str x=>.str x|.tup xs=>.tuple (toPys xs)|.lst xs=>.list (toPys xs)|.gg _ _=>.none|.ins _ _ _=>.none|.HR _ _ _=>.none
def toPys:Sg->List PyData|[]=>[]|x::xs=>toPy x::toPys xs
end
mutual
theorem rW:∀(n m:Nat)(x y:D),plain n x=true->plain m y=true->PyData.eqv (toPy x) (toPy y)=eqB x y
|n,m,.tup xs,.tup ys,h1,h2=>by cases n with|zero=>cases h1|succ n=>cases m with|zero=>cases h2|succ m=>exact oB n m xs ys h1 h2
|n,m,.lst xs,.lst ys,h1,h2=>by cases n with|zero=>cases h1|succ n=>cases m with|zero=>cases h2|succ m=>exact oB n m xs ys h1 h2
|n,m,.bz,y,h1,h2=>by cases y<;>first|rfl|(cases m<;>cases h2)
|n,m,.bl _,y,h1,h2=>by cases y<;>first|rfl|(cases m<;>cases h2)
|n,m,.int _,y,h1,h2=>by cases y<;>first|rfl|(cases m<;>cases h2)
|n,m,.str _,y,h1,h2=>by cases y<;>first|rfl|(cases m<;>cases h2)
|n,m,.gg _ _,y,h1,h2=>by cases n<;>cases h1|n,m,.ins _ _ _,y,h1,h2=>by cases n<;>cases h1|n,m,.HR _ _ _,y,h1,h2=>by cases n<;>cases h1|n,m,.tup xs,.bz,h1,h2=>rfl|n,m,.tup xs,.bl _,h1,h2=>rfl|n,m,.tup xs,.int _,h1,h2=>rfl|n,m,.tup xs,.str _,h1,h2=>rfl|n,m,.tup xs,.lst _,h1,h2=>rfl|n,m,.tup xs,.gg _ _,h1,h2=>by cases m<;>cases h2|n,m,.tup xs,.ins _ _ _,h1,h2=>by cases m<;>cases h2|n,m,.tup xs,.HR _ _ _,h1,h2=>by cases m<;>cases h2|n,m,.lst xs,.bz,h1,h2=>rfl|n,m,.lst xs,.bl _,h1,h2=>rfl|n,m,.lst xs,.int _,h1,h2=>rfl|n,m,.lst xs,.str _,h1,h2=>rfl|n,m,.lst xs,.tup _,h1,h2=>rfl|n,m,.lst xs,.gg _ _,h1,h2=>by cases m<;>cases h2|n,m,.lst xs,.ins _ _ _,h1,h2=>by cases m<;>cases h2|n,m,.lst xs,.HR _ _ _,h1,h2=>by cases m<;>cases h2
theorem oB:∀(n m:Nat)(xs ys:Sg),eT n xs=true->eT m ys=true->PyData.eqvAll (toPys xs) (toPys ys)=oA xs ys|n,m,[],[],_,_=>rfl|n,m,[],_::_,_,_=>rfl|n,m,_::_,[],_,_=>rfl|n,m,x::xs,y::ys,h1,h2=>by simp only[eT,Bool.and_eq_true] at h1 h2;show (PyData.eqv (toPy x) (toPy y)&&PyData.eqvAll (toPys xs) (toPys ys))=(eqB x y&&oA xs ys);rw[rW n m x y h1.1 h2.1,oB n m xs ys h1.2 h2.2]
end
mutual
theorem rh:∀(n:Nat)(x:D),plain n x=true->(toPy x).canLay0=true/\(toPy x).depth<=n
|n,.bz,_=>⟨rfl,Zp _⟩|n,.bl _,_=>⟨rfl,Zp _⟩|n,.int _,_=>⟨rfl,Zp _⟩|n,.str x,h=>⟨by cases n<;>exact(Array.all_toList.symm).trans h,Zp _⟩|n,.tup xs,h=>by cases n with|zero=>cases h|succ n=>obtain⟨h1,h2⟩:=kD n xs h;exact⟨h1,Nat.succ_le_succ h2⟩
|n,.lst xs,h=>by cases n with|zero=>cases h|succ n=>obtain⟨h1,h2⟩:=kD n xs h;exact⟨h1,Nat.succ_le_succ h2⟩
|n,.gg _ _,h=>by cases n<;>cases h|n,.ins _ _ _,h=>by cases n<;>cases h|n,.HR _ _ _,h=>by cases n<;>cases h
theorem kD:∀(n:Nat)(xs:Sg),eT n xs=true->PyData.canLayAll0 (toPys xs)=true/\PyData.depthAll (toPys xs)<=n
|n,[],_=>⟨rfl,Zp _⟩|n,x::xs,h=>by
 simp only[eT,Bool.and_eq_true] at h;obtain⟨h1,h2⟩:=rh n x h.1;obtain⟨h3,h4⟩:=kD n xs h.2;refine⟨?_,?_⟩;show ((toPy x).canLay0&&PyData.canLayAll0 (toPys xs))=true;rw[h1,h3];rfl;show max (toPy x).depth (PyData.depthAll (toPys xs))<=n
 lia
end
section
variable{X:Cx}{EX:XE}{L:Lc}{QF:Y6}{σ:St}{H F:Hp}{s:Shared}
theorem Den.reads(I:Inv X QF σ H s)(sub:aL F H){v:V}{d:D}{n:Nat}{u:Value}(h:Den X.K X.mg F v d):plain n d=true->RelV v u->∃as,Reads s.heap u (toPy d) as:=Den.rec (motive_1:=fun v d _=>∀n u,plain n d=true->RelV v u->∃as,Reads s.heap u (toPy d) as) (motive_2:=fun vs ds _=>∀n us,eT n ds=true->Vals vs us->∃as,ReadsAll s.heap us (toPys ds) as)
 (fun _ _ _ r=>by cases r;exact⟨_,.none⟩) (fun b _ _ _ r=>by cases r;exact⟨_,.bool b⟩) (fun i _ _ _ r=>by obtain⟨t,rfl⟩:=r;exact⟨_,.int i t⟩) (fun x _ _ _ r=>by obtain⟨t,rfl⟩:=r;exact⟨_,.str x t⟩)
 (fun h _ ih n _ hp r=>by cases r;cases n with|zero=>cases hp|succ n=>obtain⟨aG,rv,⟨o,ho,hc,m,hd⟩,_⟩:=I.tuple (dj.same h sub);obtain⟨as,ha⟩:=ih n _ hp rv;exact⟨_,.tuple ho hc hd (by simpa using ha)⟩)
 (fun h _ ih n _ hp r=>by cases r;cases n with|zero=>cases hp|succ n=>obtain⟨aG,rv,pl,_⟩:=I.list (df.same h sub);obtain⟨o,ho,hc,m,hd⟩:=pl.isList;obtain⟨as,ha⟩:=ih n _ hp rv;exact⟨_,.list ho hc hd (by simpa using ha)⟩)
 (fun _ _ _ n _ hp _=>by cases n<;>cases hp) (fun _ _ _ _ n _ hp _=>by cases n<;>cases hp) (fun _ _ _ _ _ n _ hp _=>by cases n<;>cases hp) (fun _ _ _ r=>by cases r;exact⟨_,.nil⟩)
 (fun _ _ h t n _ hp r=>by cases r with|cons r1 r2=>simp only[eT,Bool.and_eq_true] at hp;obtain⟨as,ha⟩:=h n _ hp.1 r1;obtain⟨bs,hb⟩:=t n _ hp.2 r2;exact⟨_,.cons ha hb⟩) h n u
def GH(K:Frag)(mg:MG)(neg:Bool):R2:=fun x y H Q=>∃F dx dy,aL F H/\Den K mg F x dx/\Den K mg F y dy/\plain 60 dx=true/\plain 60 dy=true/\Q (.bl (if neg then !eqB dx dy else eqB dx dy)) H
theorem jS(h:plain 60 d=true):SeqAt.shaped (toPy d)=true:=by obtain⟨h1,h2⟩:=rh 60 d h;unfold SeqAt.shaped;rw[h1,Y9 ZG];rfl
theorem sJ(hu:X.A.units+64<cLine):fZ X (compareOp .Eq) (GH X.K X.mg false):=by intro QF s σ H x y v u Q I rx ry h;obtain⟨F,dx,dy,sub,h1,h2,p1,p2,q⟩:=h;obtain⟨as,ra⟩:=Den.reads I sub h1 p1 rx;obtain⟨bs,rb⟩:=Den.reads I sub h2 p2 ry;exact SeqAt.compareEq_shaped ra rb (jS p1) (jS p2) hu (by rw[rW 60 60 dx dy p1 p2];exact⟨.bl _,H,I,rfl,q⟩)
theorem wx(hu:X.A.units+64<cLine):fZ X (compareOp .NotEq) (GH X.K X.mg true):=by intro QF s σ H x y v u Q I rx ry h;obtain⟨F,dx,dy,sub,h1,h2,p1,p2,q⟩:=h;obtain⟨as,ra⟩:=Den.reads I sub h1 p1 rx;obtain⟨bs,rb⟩:=Den.reads I sub h2 p2 ry;exact SeqAt.compareNe_shaped ra rb (jS p1) (jS p2) hu (by rw[rW 60 60 dx dy p1 p2];exact⟨.bl _,H,I,rfl,q⟩)
theorem yf:ki L (GH L.K L.mg false) b7:=fun G F H σ ρ x y dx dy d Q g0 rx ry e k=>by unfold b7 at e;split at e;rename_i hp;cases e;rw[Zb] at hp;exact⟨F,dx,dy,g0.sub,rx,ry,hp.1,hp.2,k F H _ (aL.refl _) g0 (.bl _)⟩;cases e
theorem B2:ki L (GH L.K L.mg true) fW:=fun G F H σ ρ x y dx dy d Q g0 rx ry e k=>by unfold fW at e;split at e;rename_i hp;cases e;rw[Zb] at hp;exact⟨F,dx,dy,g0.sub,rx,ry,hp.1,hp.2,k F H _ (aL.refl _) g0 (.bl _)⟩;cases e
end
section
variable{prog:Program}{w:World}{A:Around}{E:Y5}{s:Shared}
theorem lp{items}(hit:s.heap.IsTupleIter it t i)
  (ht:s.heap.IsTuple t items) (hx:items[i]?=some x)
  (hQ:∀h',h'.IsTupleIter it t (i+1)->Heap.SameBut it s.heap h'->Q x {s with heap:=h'}) :
  wpAny (model prog w) A (Builtin.SmallTypes.nextOf (.ref it)) Q E s:=by
 obtain⟨o,ho,hc,hd⟩:=id hit;refine VP.gl fun QQ eQ=>?_;obtain⟨ol,RW,_,nl,Tq⟩:=ht;subst eQ;unfold Builtin.SmallTypes.nextOf;refine ZS (Zy (name:=Str.ofString "__next__") hit.typeIs K8 (Zz K8 hit.typeIs PySem.F.entry_tuple_iterator_next ?_ (PySem.F.args_tuple_iterator_next_1 _)));show wpAny _ _ (field (.ref it) 0 >>= _) _ _ s;refine ZS (Zm ho hd (x:=.ref t) rfl ?_);show wpAny _ _ (if (Value.ref t == Value.none)=true then _ else _) _ _ s;rw[Za (show ¬((Value.ref t == Value.none)=true) from Zi)];show wpAny _ _ (field (.ref it) 1 >>= _) _ _ s;refine ZS (Zm ho hd (x:=.int i 0) rfl ?_);show wpAny _ _ (seqItems? (.ref t) >>= _) _ _ s;refine ZS (XJ RW Tq ?_);simp only[ZA,hx];refine ZS (MJ ho hd ZH (ZT ⟨x,rfl,ZT (hQ _ ?_ (Kx ..))⟩));exact⟨_,Zv _ ho (K2 (GR hd _)),(Obj.cls_mapFields ..).trans hc,by rw[GR hd];simp[rawInt]⟩
theorem my{items}(hh:A.handled=none)
  (hit:s.heap.IsTupleIter it t i) (ht:s.heap.IsTuple t items) (hx:items[i]?=none)
  (hE:∀h' e,Heap.ExtBut it s.heap h'->(∃o,h'.get? e=some o/\o.cls=.type "StopIteration")->E (.ref e) {s with heap:=h'}) :
  wpAny (model prog w) A (Builtin.SmallTypes.nextOf (.ref it)) Q E s:=by
 obtain⟨o,ho,hc,hd⟩:=id hit;refine VP.gl fun QQ eQ=>?_;obtain⟨ol,RW,_,nl,Tq⟩:=ht;subst eQ;unfold Builtin.SmallTypes.nextOf;refine ZS (Zy (name:=Str.ofString "__next__") hit.typeIs K8 (Zz K8 hit.typeIs PySem.F.entry_tuple_iterator_next ?_ (PySem.F.args_tuple_iterator_next_1 _)));show wpAny _ _ (field (.ref it) 0 >>= _) _ _ s;refine ZS (Zm ho hd (x:=.ref t) rfl ?_);show wpAny _ _ (if (Value.ref t == Value.none)=true then _ else _) _ _ s;rw[Za (show ¬((Value.ref t == Value.none)=true) from Zi)];show wpAny _ _ (field (.ref it) 1 >>= _) _ _ s;refine ZS (Zm ho hd (x:=.int i 0) rfl ?_);show wpAny _ _ (seqItems? (.ref t) >>= _) _ _ s;refine ZS (XJ RW Tq ?_);simp only[ZA,hx];refine ZS (vM (ZS (MJ ho hd ZH ?_)));show wpAny _ _ (newExc (.type "StopIteration") [] >>= _) _ _ _;refine ZS ?_;simp only[newExc,newTuple];refine ZS (Zk ?_ (by size_fits));refine ZS (m:=firstArgMember _ _) (XH (a:=Value.none) (by first|rfl|(simp only[firstArgMember];rfl)) ?_);refine Zk ?_ (by size_fits);simp only[raiseNew];refine ZS (wpAny_handled ?_);first|rw[show A.in1.handled=none from hh]|rw[hh]
 refine ZS (ZT (wpAny_throw ?_));exact hE _ _ (((Kx ..).extBut.push _).push _) ⟨_,Y8 _ rfl,rfl⟩
end
def je(t:Bool)(it a:Addr)(i:Nat)(h:Heap):Prop:=if t then h.IsTupleIter it a i else h.IsListIter it a i
def oj(t:Bool)(h:Heap)(a:Addr)(items:Array Value):Prop:=if t then h.IsTuple a items else h.IsList a items
theorem je.at(x:je t it a i h)(e:∀o,h.get? it=some o->h'.get? it=some o):je t it a i h':=by cases t;exact Heap.IsListIter.at (h:=h) (h':=h') x e;exact Heap.IsTupleIter.at (h:=h) (h':=h') x e
theorem je.obj(x:je t it a i h):∃o,h.get? it=some o/\∀v,o.data≠.cell v:=by cases t;obtain⟨o,e,c,d⟩:=(show h.IsListIter it a i from x);exact⟨o,e,fun v z=>by rw[d] at z;cases z⟩;obtain⟨o,e,c,d⟩:=(show h.IsTupleIter it a i from x);exact⟨o,e,fun v z=>by rw[d] at z;cases z⟩
theorem jH(hh:A.handled=none)(t:Bool)(it l:Addr)(zq:l≠it)(items:Array Value) : Draws prog w A it [it,l] items.size (fun i v=>items[i]?=some v) (fun i h=>je t it l i h/\oj t h l items):=by
 cases t with
 |false=>exact Draws.list hh it l zq items|true=>exact {
  live:=fun _ _ st=>let ⟨o,ho,_⟩:=st.1;⟨o,ho⟩
  frame:=fun _ _ _ st hk=>⟨Heap.IsTupleIter.at st.1 fun o e=>hk it ZH o e,by obtain⟨o,e,r⟩:=(show Heap.IsTuple _ l items from st.2);exact⟨o,hk l ZH o e,r⟩⟩
  item:=fun i s Q E hi st hQ=>by refine lp (show s.heap.IsTupleIter it l i from st.1) (show s.heap.IsTuple l items from st.2) (x:=items[i]) (by simp[hi]) fun h' EN Eb=>?_;refine hQ _ h' s.toks (by simp[hi]) ⟨EN,?_⟩ Eb;obtain⟨o,e,r⟩:=(show Heap.IsTuple _ l items from st.2);exact⟨o,Eb.extBut l o zq e,r⟩
  done:=fun s Q E st hE=>my hh (show s.heap.IsTupleIter it l _ from st.1) (show s.heap.IsTuple l items from st.2) ZH hE}
section
variable{prog:Program}{w:World}{A:Around}{E:Y5}{s:Shared}{z TI TO i1 i2:Addr}{HS HU:VL}{n1 n2 k:Nat}{P1 P2:Nat->Value->Prop}{Nc NX:Nat->Heap->Prop}{a b:Value}
structure rH(z TI TO i1 i2:Addr)(HS HU:VL):Prop where
 TIz:TI≠z
 TOz:TO≠z
 i1z:i1≠z
 i2z:i2≠z
 TITO:TI≠TO
 TIi1:TI≠i1
 TIi2:TI≠i2
 TOi1:TO≠i1
 TOi2:TO≠i2
 i12:i1≠i2
 z1:z∉HS
 z2:z∉HU
 o1:TO∉HS
 o2:TO∉HU
 Wc:i1∉HU
 X2:i2∉HS
theorem Ak{Q:Y5}(D1:Draws prog w A i1 HS n1 P1 Nc)(D2:Draws prog w A i2 HU n2 P2 NX)(D:rH z TI TO i1 i2 HS HU)
  (hz:IsZip s.heap z TI TO .none) (vO:IsPair s.heap TI (.ref i1) (.ref i2)) (yi:IsPair s.heap TO a b) (h1:Nc k s.heap) (h2:NX k s.heap) (k1:k<n1) (k2:k<n2)
  (hQ:∀x y h' tk,P1 k x->P2 k y->IsZip h' z TI TO (rawInt s.heap.objs.size)->IsPair h' TO x y->Nc (k+1) h'->NX (k+1) h'->IsPair h' s.heap.objs.size x y->(∀c o,c≠z->c≠TO->c≠i1->c≠i2->s.heap.get? c=some o->h'.get? c=some o)->Q (.ref s.heap.objs.size) {s with heap:=h',toks:=tk}) :
  wpAny (model prog w) A (Builtin.«zip.__next__» ⟨[.ref z],[]⟩) (fun fin s'=>∃v,fin=.done (.ret v)/\Q v s') E s:=by
 show wpAny _ _ (field (.ref z) 2 >>= _) _ _ _;refine ZS (Zm hz rfl (x:=.bool false) rfl ?_);show wpAny _ _ (field (.ref z) 3 >>= _) _ _ _;refine ZS (Zm hz rfl (x:=.ref TI) rfl ?_);refine ZS (XJ vO rfl ?_);show wpAny _ _ (Builtin.SmallTypes.ownedTupleIsFree (.ref z) >>= _) _ _ _;refine ZS ?_;unfold Builtin.SmallTypes.ownedTupleIsFree;refine ZS (Zm hz rfl (x:=.none) rfl (ZT ?_));simp only[if_true];refine ZS (vM ?_);refine ZS (Zm hz rfl (x:=.ref TO) rfl ?_);refine ZS (zA hz ZH fun h₁ m8 jo=>?_);replace m8:IsZip h₁ z TI TO .ellipsis:=m8;refine ZS ?_;simp only[List.zipIdx_cons,List.zipIdx_nil,List.forIn_cons,List.forIn_nil];refine ZS (ZS (LH ?_));show wpAny _ _ (Builtin.SmallTypes.nextOf (.ref i1) >>= _) _ _ _;refine ZS (D1.item k _ _ _ k1 (D1.frame k _ h₁ h1 fun b hb o e=>jo.extBut b o (fun q=>D.z1 (q ▸ hb)) e) fun x kY Q0 px HW fq=>ZT ?_);replace fq:Heap.SameBut i1 h₁ kY:=fq;have oP:IsPair kY TO a b:=fq.extBut _ _ D.TOi1 (jo.extBut _ _ D.TOz yi);refine ZS (XJ oP rfl ?_);refine ZS (Mp oP fun nE sf fM=>?_);replace sf:IsPair nE TO x b:=sf;replace fM:Heap.SameBut TO kY nE:=fM;refine ZS (Aj (ZT ?_));refine ZS (ZS (LH ?_));show wpAny _ _ (Builtin.SmallTypes.nextOf (.ref i2) >>= _) _ _ _;refine ZS (D2.item k _ _ _ k2 (D2.frame k _ nE h2 fun b hb o e=>fM.extBut b o (fun q=>D.o2 (q ▸ hb)) (fq.extBut b o (fun q=>D.Wc (q ▸ hb)) (jo.extBut b o (fun q=>D.z2 (q ▸ hb)) e))) fun y vR V8 py Oy iY=>ZT ?_);replace iY:Heap.SameBut i2 nE vR:=iY;have B7:IsPair vR TO x b:=iY.extBut _ _ D.TOi2 sf;refine ZS (XJ B7 rfl ?_);refine ZS (Mp B7 fun kx sg ke=>?_);replace sg:IsPair kx TO x y:=sg;replace ke:Heap.SameBut TO vR kx:=ke;refine ZS (Aj (ZT (ZT ?_)));refine ZS (XJ sg rfl ?_);refine ZS (wpAny_newTuple ?_);have hsz:kx.objs.size=s.heap.objs.size:=by rw[ke.1,iY.1,fM.1,fq.1,jo.1]
 have Io:IsZip kx z TI TO .ellipsis:=ke.extBut _ _ D.TOz.symm (iY.extBut _ _ D.i2z.symm (fM.extBut _ _ D.TOz.symm (fq.extBut _ _ D.i1z.symm m8)));have OO:∀c o,c≠z->c≠TO->c≠i1->c≠i2->s.heap.get? c=some o->kx.get? c=some o:=fun c o c1 c2 c3 c4 e=>ke.extBut _ _ c2 (iY.extBut _ _ c4 (fM.extBut _ _ c2 (fq.extBut _ _ c3 (jo.extBut _ _ c1 e))));have OX:z<kx.objs.size:=ZW Io;show wpAny _ _ (Builtin.SmallTypes.ownedTupleHandOut (.ref z) (.ref kx.objs.size) >>= _) _ _ _;refine ZS ?_;unfold Builtin.SmallTypes.ownedTupleHandOut;have OY:IsZip (kx.push {cls:=.type "tuple",data:=.seq #[x,y]}) z TI TO .ellipsis:=Y7 _ Io;refine ZS (zA OY ZH fun TZ Ci Ij=>?_);replace Ci:IsZip TZ z TI TO (rawInt kx.objs.size):=Ci;refine zA Ci ZH fun zr yn Ik=>?_;replace yn:IsZip zr z TI TO (rawInt kx.objs.size):=yn;have up:∀c o,c≠z->kx.get? c=some o->zr.get? c=some o:=fun c o c1 e=>Ik.extBut _ _ c1 (Ij.extBut _ _ c1 (Y7 _ e));have HY:IsPair zr kx.objs.size x y:=Ik.extBut _ _ (Ml OX) (Ij.extBut _ _ (Ml OX) (Y8 _ rfl));rw[hsz] at yn HY;refine ZT ⟨_,rfl,?_⟩;show Q (.ref kx.objs.size) _;rw[hsz];refine hQ x y zr _ px py yn (up _ _ D.TOz sg) (D1.frame _ kY zr HW fun b hb o e=>up b o (fun q=>D.z1 (q ▸ hb)) (ke.extBut b o (fun q=>D.o1 (q ▸ hb)) (iY.extBut b o (fun q=>D.X2 (q ▸ hb)) (fM.extBut b o (fun q=>D.o1 (q ▸ hb)) e)))) (D2.frame _ vR zr Oy fun b hb o e=>up b o (fun q=>D.z2 (q ▸ hb)) (ke.extBut b o (fun q=>D.o2 (q ▸ hb)) e)) HY fun c o c1 c2 c3 c4 e=>up c o c1 (OO c o c1 c2 c3 c4 e)
theorem D0{Q:Fin->Shared->Prop}{m:Nat}(hh:A.handled=none)(D1:Draws prog w A i1 HS n1 P1 Nc)(D2:Draws prog w A i2 HU n2 P2 NX)(D:rH z TI TO i1 i2 HS HU)
  (hz:IsZip s.heap z TI TO .none) (vO:IsPair s.heap TI (.ref i1) (.ref i2)) (yi:IsPair s.heap TO a b) (h1:Nc k s.heap) (h2:NX k s.heap) (B9:k=n1\/(k<n1/\k=n2))
  (hE:∀h' e tk,(∀c o,c≠z->c≠TO->c≠i1->c≠i2->s.heap.get? c=some o->h'.get? c=some o)->(∃o,h'.get? e=some o/\o.cls=.type "StopIteration")->E (.ref e) {s with heap:=h',toks:=tk}) :
  wpAny (model prog w) A (Builtin.«zip.__next__» ⟨[.ref z],[]⟩) Q E s:=by
 show wpAny _ _ (field (.ref z) 2 >>= _) _ _ _;refine ZS (Zm hz rfl (x:=.bool false) rfl ?_);show wpAny _ _ (field (.ref z) 3 >>= _) _ _ _;refine ZS (Zm hz rfl (x:=.ref TI) rfl ?_);refine ZS (XJ vO rfl ?_);show wpAny _ _ (Builtin.SmallTypes.ownedTupleIsFree (.ref z) >>= _) _ _ _;refine ZS ?_;unfold Builtin.SmallTypes.ownedTupleIsFree;refine ZS (Zm hz rfl (x:=.none) rfl (ZT ?_));simp only[if_true];refine ZS (vM ?_);refine ZS (Zm hz rfl (x:=.ref TO) rfl ?_);refine ZS (zA hz ZH fun h₁ m8 jo=>?_);replace m8:IsZip h₁ z TI TO .ellipsis:=m8;refine ZS ?_;simp only[List.zipIdx_cons,List.zipIdx_nil,List.forIn_cons,List.forIn_nil];refine ZS (ZS (LH ?_));show wpAny _ _ (Builtin.SmallTypes.nextOf (.ref i1) >>= _) _ _ _;have V5:Nc k h₁:=D1.frame k _ h₁ h1 fun b hb o e=>jo.extBut b o (fun q=>D.z1 (q ▸ hb)) e;rcases B9 with rfl|⟨k1,rfl⟩;refine ZS (D1.done _ _ _ V5 fun kY e fq he=>?_);obtain⟨oe,JY,OF⟩:=he;have Il:IsZip kY z TI TO .ellipsis:=fq _ _ D.i1z.symm m8;have Tt:e≠z:=fun x=>by subst x;rw[Il] at JY;cases JY;simp at OF
 refine zA Il ZH fun nE _ fM=>hE nE e _ (fun c o c1 _ c3 _ x=>fM.extBut _ _ c1 (fq _ _ c3 (jo.extBut _ _ c1 x))) ⟨oe,fM.extBut _ _ Tt JY,OF⟩;refine ZS (D1.item k _ _ _ k1 V5 fun x kY Q0 px HW fq=>ZT ?_);replace fq:Heap.SameBut i1 h₁ kY:=fq;have oP:IsPair kY TO a b:=fq.extBut _ _ D.TOi1 (jo.extBut _ _ D.TOz yi);refine ZS (XJ oP rfl ?_);refine ZS (Mp oP fun nE sf fM=>?_);replace fM:Heap.SameBut TO kY nE:=fM;refine ZS (Aj (ZT ?_));refine ZS (ZS (LH ?_));show wpAny _ _ (Builtin.SmallTypes.nextOf (.ref i2) >>= _) _ _ _;refine ZS (D2.done _ _ _ (D2.frame k _ nE h2 fun b hb o e=>fM.extBut b o (fun q=>D.o2 (q ▸ hb)) (fq.extBut b o (fun q=>D.Wc (q ▸ hb)) (jo.extBut b o (fun q=>D.z2 (q ▸ hb)) e))) fun vR e iY he=>?_);replace iY:Heap.ExtBut i2 nE vR:=iY;obtain⟨oe,JY,OF⟩:=he;have Im:IsZip vR z TI TO .ellipsis:=iY _ _ D.i2z.symm (fM.extBut _ _ D.TOz.symm (fq.extBut _ _ D.i1z.symm m8));have Tt:e≠z:=fun x=>by subst x;rw[Im] at JY;cases JY;simp at OF
 refine zA Im ZH fun kx _ ke=>hE kx e _ (fun c o c1 c2 c3 c4 x=>ke.extBut _ _ c1 (iY _ _ c4 (fM.extBut _ _ c2 (fq.extBut _ _ c3 (jo.extBut _ _ c1 x))))) ⟨oe,ke.extBut _ _ Tt JY,OF⟩
end
abbrev Cp(t:Bool)(l:Addr):Obj:={cls:=.type (if t then "tuple_iterator" else "list_iterator"),data:=.fields #[.ref l,.int 0 0]}
abbrev Su(h:Heap)(t1:Bool)(l1:Addr):Heap:=h.push (Cp t1 l1)
abbrev Sv(h:Heap)(t1 t2:Bool)(l1 l2:Addr):Heap:=(Su h t1 l1).push (Cp t2 l2)
abbrev Sw(h:Heap)(t1 t2:Bool)(l1 l2:Addr):Heap:=(Sv h t1 t2 l1 l2).push {cls:=.type "tuple",data:=.seq #[.ref h.objs.size,.ref (Su h t1 l1).objs.size]}
abbrev Sx(h:Heap)(t1 t2:Bool)(l1 l2:Addr):Heap:=(Sw h t1 t2 l1 l2).push {cls:=.type "tuple",data:=.seq #[.none,.none]}
abbrev ND(h:Heap)(t1 t2:Bool)(l1 l2:Addr):Heap:=(Sx h t1 t2 l1 l2).push {cls:=.type "zip",data:=.fields #[.none,.bool false,.bool false,.ref (Sv h t1 t2 l1 l2).objs.size,.ref (Sw h t1 t2 l1 l2).objs.size]}
theorem IsTuple.push{h:Heap}{a:Addr}{items:Array Value}(x:h.IsTuple a items)(o:Obj):(h.push o).IsTuple a items:=let ⟨ob,e,r⟩:=x;⟨ob,Y7 _ e,r⟩
set_option maxHeartbeats 4000000 in
theorem zJ(t1 t2:Bool)(l1 l2:Addr)(xs ys:Array Value) : Meets (Builtin.«zip.__new__» ⟨[.type "zip",.ref l1,.ref l2],[]⟩) (fun _ R s=>oj t1 s.heap l1 xs/\oj t2 s.heap l2 ys/\R (.ok (.ret (.ref (Sx s.heap t1 t2 l1 l2).objs.size))) {s with heap:=ND s.heap t1 t2 l1 l2}):=
 .of_wp fun prog w A R s h=>by
  refine VP.gl fun QQ eQ=>?_;obtain⟨hp,g,d,tk,os⟩:=s;obtain⟨Nq,Ig,h⟩:=h;subst eQ;have ES:=sub_zip;cases t1 with
   |false=>
    have OB:Heap.IsList (Shared.heap ⟨hp,g,d,tk,os⟩) l1 xs:=Nq;cases t2 with
    |false=>
     have JQ:Heap.IsList (Shared.heap ⟨hp.push {cls:=.type "list_iterator",data:=.fields #[.ref l1,.int 0 0]},g,d,tk,os⟩) l2 ys:=Heap.IsList.push Ig _
     wp_walk using RK OB,RK JQ
     exact⟨_,rfl,h⟩
    |true=>
     have JQ:Heap.IsTuple (Shared.heap ⟨hp.push {cls:=.type "list_iterator",data:=.fields #[.ref l1,.int 0 0]},g,d,tk,os⟩) l2 ys:=IsTuple.push Ig _
     wp_walk using RK OB,LN JQ
     exact⟨_,rfl,h⟩
   |true=>
    have OB:Heap.IsTuple (Shared.heap ⟨hp,g,d,tk,os⟩) l1 xs:=Nq;cases t2 with
    |false=>
     have JQ:Heap.IsList (Shared.heap ⟨hp.push {cls:=.type "tuple_iterator",data:=.fields #[.ref l1,.int 0 0]},g,d,tk,os⟩) l2 ys:=Heap.IsList.push Ig _
     wp_walk using LN OB,RK JQ
     exact⟨_,rfl,h⟩
    |true=>
     have JQ:Heap.IsTuple (Shared.heap ⟨hp.push {cls:=.type "tuple_iterator",data:=.fields #[.ref l1,.int 0 0]},g,d,tk,os⟩) l2 ys:=IsTuple.push Ig _
     wp_walk using LN OB,LN JQ
     exact⟨_,rfl,h⟩
theorem rl(e:h.get? it=some (Cp t l)):je t it l 0 h:=by cases t;exact⟨_,e,rfl,rfl⟩;exact⟨_,e,rfl,rfl⟩
theorem Bt{prog:Program}{w:World}{A:Around}{E:Y5}{s:Shared}{t1 t2:Bool}{l1 l2:Addr}{xs ys:Array Value}{Q:Y5}(Nq:oj t1 s.heap l1 xs)(Ig:oj t2 s.heap l2 ys)
  (h:∀h',IsZip h' (s.heap.objs.size+4) (s.heap.objs.size+2) (s.heap.objs.size+3) .none->IsPair h' (s.heap.objs.size+2) (.ref s.heap.objs.size) (.ref (s.heap.objs.size+1)) ->
   IsPair h' (s.heap.objs.size+3) .none .none->je t1 s.heap.objs.size l1 0 h'->je t2 (s.heap.objs.size+1) l2 0 h' ->
   (∀c o,s.heap.get? c=some o->h'.get? c=some o)->Q (.ref (s.heap.objs.size+4)) {s with heap:=h'}) :
  wpAny (model prog w) A (call (.type "zip") [.ref l1,.ref l2]) Q E s:=by
 refine callType_new PySem.F.called_zip (by decide) (PySem.F.typeCall_zip_2 _ _) (PySem.F.newCall_zip_2 _ _) (fun obj=>PySem.F.args_object_init_3 obj _ _) PySem.F.entry_zip_new (zJ t1 t2 l1 l2 xs ys) ⟨Nq,Ig,?_⟩;have z1:(Su s.heap t1 l1).objs.size=s.heap.objs.size+1:=Sh ..;have z2:(Sv s.heap t1 t2 l1 l2).objs.size=s.heap.objs.size+2:=by rw[Sh,z1]
 have z3:(Sw s.heap t1 t2 l1 l2).objs.size=s.heap.objs.size+3:=by rw[Sh,z2]
 have z4:(Sx s.heap t1 t2 l1 l2).objs.size=s.heap.objs.size+4:=by rw[Sh,z3]
 have g5:(ND s.heap t1 t2 l1 l2).get? (Sx s.heap t1 t2 l1 l2).objs.size=some _:=Y8 _ rfl;have g4:(ND s.heap t1 t2 l1 l2).get? (Sw s.heap t1 t2 l1 l2).objs.size=some _:=Y7 _ (Y8 _ rfl);have g3:(ND s.heap t1 t2 l1 l2).get? (Sv s.heap t1 t2 l1 l2).objs.size=some _:=Y7 _ (Y7 _ (Y8 _ rfl));have g2:(ND s.heap t1 t2 l1 l2).get? (Su s.heap t1 l1).objs.size=some _:=Y7 _ (Y7 _ (Y7 _ (Y8 _ rfl)));have g1:(ND s.heap t1 t2 l1 l2).get? s.heap.objs.size=some _:=Y7 _ (Y7 _ (Y7 _ (Y7 _ (Y8 _ rfl))));show _/\_;rw[z2,z3,z4] at g5;rw[z1,z2] at g3;rw[z3] at g4;rw[z1] at g2;rw[z4];exact⟨⟨_,g5,rfl⟩,h _ g5 g3 g4 (rl g1) (rl g2) fun c o x=>Y7 _ (Y7 _ (Y7 _ (Y7 _ (Y7 _ x))))⟩
def kJ(K:Frag)(H:Hp)(t:Bool)(p:Addr)(xs:NC):Prop:=if t then dj K H p xs else df K H p xs
theorem Inv.pH{X:Cx}{QF:Y6}{σ:St}{H:Hp}{s:Shared}{t:Bool}{p:Addr}{xs:NC}(I:Inv X QF σ H s)(h:kJ X.K H t p xs):∃aG:MY,Vals xs aG/\oj t s.heap p aG.toArray:=by cases t;obtain⟨aG,rv,pl,_⟩:=I.list (show df X.K H p xs from h);exact⟨aG,rv,pl.isList⟩;obtain⟨aG,rv,pl,_⟩:=I.tuple (show dj X.K H p xs from h);exact⟨aG,rv,pl⟩
theorem Inv.pI{X:Cx}{QF:Y6}{σ:St}{H:Hp}{s:Shared}{t:Bool}{p:Addr}{xs ys:NC}(I:Inv X QF σ H s)(h:kJ X.K H t p xs)(h':kJ X.K H t p ys):xs=ys:=by cases t;exact I.oX h h';exact I.rB h h'
def SJ(K:Frag)(t1 t2:Bool)(p1 p2:Addr):It:=⟨fun i H=>∃xs ys x y,kJ K H t1 p1 xs/\kJ K H t2 p2 ys/\xs[i]?=some x/\ys[i]?=some y,
 fun i H v H'=>∃q x y,H q=none/\v=.ref q/\H'=upd H q (.tup [x,y])/\(∀xs,kJ K H t1 p1 xs->xs[i]?=some x)/\(∀ys,kJ K H t2 p2 ys->ys[i]?=some y),
 fun i H=>∃xs ys,kJ K H t1 p1 xs/\kJ K H t2 p2 ys/\i<=xs.length/\i<=ys.length/\(xs.length<=i\/ys.length<=i)⟩
theorem Inv.pair{X:Cx}{QF:Y6}{σ:St}{H:Hp}{s:Shared}{fp:VL}{h':Heap}{tk:Nat}{x y:V}{u v:Value}(I:Inv X QF σ H s)(hf:∀b∈fp,i8 X QF H b)
  (hk:∀c o,c∉fp->s.heap.get? c=some o->h'.get? c=some o) (hp:IsPair h' s.heap.objs.size u v) (rx:RelV x u) (ry:RelV y v) :
  Inv X QF σ (upd H s.heap.objs.size (.tup [x,y])) {s with heap:=h',toks:=tk}:=by
 have hn:H s.heap.objs.size=none:=I.b8.fresh (ZU _);have Eh:∀{b:Addr}{o:HO},H b=some o->b∉fp:=fun {b o} e hb=>by rw[(hf b hb).1] at e;cases e
 refine I.Br (s':={s with heap:=h',toks:=tk}) (ch:=fp) rfl ⟨fun b o e n hb hx=>hk b o hx e,fun b o e n hb hx=>⟨o.slots,by rw[hk b o hx e]⟩,fun b o e n hx=>?_,fun b o e hx=>⟨o,hk b o hx e⟩,fun b xs e=>?_,fun b o u e=>?_,fun b o e=>?_⟩ (fun b o e=>?_) I.bare fun b hb=>⟨(hf b hb).2.2.2.1,(hf b hb).2.1,(hf b hb).2.2.2.2.1,(hf b hb).2.2.2.2.2⟩;rw[aT (Zd (ZW e))];exact n;rw[aT (bq e hn)];exact e;rw[aT (bq e hn)];exact e;exact⟨#[],by rw[aT (bq e hn),e];simp⟩;by_cases hb:b=s.heap.objs.size;subst hb;rw[aM] at e;cases e;exact⟨by show 2<=sizeLine;decide,[u,v],.cons rx (.cons ry .nil),⟨_,hp,rfl,⟨_,rfl⟩,rfl⟩⟩;rw[aT hb] at e;refine(I.b8 b o e).wO (fun c w' hc q=>hk c w' ?_ q) (fun c q=>by rw[aT (bq q hn)];exact q) fun c xs q=>by rw[aT (bq q hn)];exact q
 rcases hc with rfl|hc;exact Eh e;exact Eh hc
theorem Inv.tq{X:Cx}{QF:Y6}{σ:St}{H:Hp}{s:Shared}{fp:VL}{h':Heap}{tk:Nat}(I:Inv X QF σ H s)(hf:∀b∈fp,i8 X QF H b)(hk:∀c o,c∉fp->s.heap.get? c=some o->h'.get? c=some o):Inv X QF σ H {s with heap:=h',toks:=tk}:=by
 have Eh:∀{b:Addr}{o:HO},H b=some o->b∉fp:=fun {b o} e hb=>by rw[(hf b hb).1] at e;cases e
 refine I.Br (s':={s with heap:=h',toks:=tk}) (ch:=fp) rfl ⟨fun b o e n hb hx=>hk b o hx e,fun b o e n hb hx=>⟨o.slots,by rw[hk b o hx e]⟩,fun b o e n hx=>n,fun b o e hx=>⟨o,hk b o hx e⟩,fun b xs e=>e,fun b o u e=>e,fun b o e=>⟨#[],by rw[e];simp⟩⟩ (fun b o e=>?_) I.bare fun b hb=>⟨(hf b hb).2.2.2.1,(hf b hb).2.1,(hf b hb).2.2.2.2.1,(hf b hb).2.2.2.2.2⟩;refine(I.b8 b o e).wO (fun c w' hc q=>hk c w' ?_ q) (fun c q=>q) fun c xs q=>q;rcases hc with rfl|hc;exact Eh e;exact Eh hc
theorem DS{P:Program}{w:World}{K:Frag}{es:Rz}{k:Nat}{nO:Pos}(t1 t2:Bool){p1 p2 z TI TO i1 i2:Addr}(D:rH z TI TO i1 i2 [i1,p1] [i2,p2])(n1:p1≠i1)(n2:p2≠i2) : Turn P w K (.Tuple es k nO) (SJ K t1 t2 p1 p2) [z,TI,TO,i1,i2] z (fun i h=>IsZip h z TI TO .none/\IsPair h TI (.ref i1) (.ref i2)/\(∃a b,IsPair h TO a b)/\je t1 i1 p1 i h/\je t2 i2 p2 i h) where
 mem:=ZH
 obj:=fun i h st b hb=>by
  refine VP.gl fun QQ eQ=>?_;obtain⟨hz,vO,⟨a,c,yi⟩,h1,h2⟩:=st;subst eQ;simp only[List.mem_cons,List.not_mem_nil,or_false] at hb;rcases hb with rfl|rfl|rfl|rfl|rfl
  ·exact⟨_,hz,fun v q=>by cases q⟩
  ·exact⟨_,vO,fun v q=>by cases q⟩
  ·exact⟨_,yi,fun v q=>by cases q⟩
  ·exact h1.obj
  ·exact h2.obj
 keep:=fun i h h' st kk=>by refine VP.gl fun QQ eQ=>?_;obtain⟨hz,vO,⟨a,c,yi⟩,h1,h2⟩:=st;subst eQ;exact⟨kk z ZH _ hz,kk TI ZH _ vO,⟨a,c,kk TO ZH _ yi⟩,h1.at fun o e=>kk i1 ZH o e,h2.at fun o e=>kk i2 ZH o e⟩
 item:=by
  intro X hP hw hK hc i QF s σ H E I hf st hg;subst hP hw hK;refine VP.gl fun QQ eQ=>?_;obtain⟨hz,vO,⟨a,c,yi⟩,h1,h2⟩:=st;subst eQ;refine VP.gl fun QQ eQ=>?_;obtain⟨xs,ys,x,y,q1,q2,e1,e2⟩:=hg;subst eQ;obtain⟨uu,Sb,s1⟩:=Inv.pH I q1;obtain⟨jb,Se,s2⟩:=Inv.pH I q2;obtain⟨u,hu,ru⟩:=Sb.get e1;obtain⟨v,hv,rv⟩:=Se.get e2;have hh:X.A.handled=none:=I.ok.hd hc;have hT:s.TypeIs (.ref z) "zip" := ⟨_,hz,rfl⟩;unfold pyNext;have Ug:i<uu.toArray.size:=by have:=(List.getElem?_eq_some_iff.mp hu).1;simpa using this
  have XA:i<jb.toArray.size:=by have:=(List.getElem?_eq_some_iff.mp hv).1;simpa using this
  refine ZS (UW (Zy (name:=Str.ofString "__next__") hT CW (Zz CW hT PySem.F.entry_zip_next (Ak (jH (by exact hh) t1 i1 p1 n1 uu.toArray) (jH (by exact hh) t2 i2 p2 n2 jb.toArray) D hz vO yi ⟨h1,s1⟩ ⟨h2,s2⟩ Ug XA fun x' y' h' tk px py z1 o1 w1 w2 pr kp=>ZT ?_) (PySem.F.args_zip_next_1 _))));have ex:x'=u:=by
   have:uu.toArray[i]?=some u:=by simpa using hu
   rw[this] at px;exact(ZV px).symm
  have ey:y'=v:=by
   have:jb.toArray[i]?=some v:=by simpa using hv
   rw[this] at py;exact(ZV py).symm
  subst ex ey;refine⟨_,rfl,wpAny_letOwnedTupleGo_zip z1 fun JP z2 sb=>?_⟩;replace sb:Heap.SameBut z h' JP:=sb;have G3:z≠s.heap.objs.size:=Zd (ZW hz);have T9:∀c o,c∉[z,TI,TO,i1,i2]->s.heap.get? c=some o->JP.get? c=some o:=fun c o qd e=>by simp only[List.mem_cons,List.not_mem_nil,or_false,not_or] at qd;exact sb.extBut c o qd.1 (kp c o qd.1 qd.2.2.1 qd.2.2.2.1 qd.2.2.2.2 e)
  have IX:=Inv.pair (tk:=tk) (h':=JP) (x:=x) (y:=y) I hf T9 (sb.extBut _ _ (Zo G3) pr) ru rv;refine⟨.ref s.heap.objs.size,_,IX,rfl,⟨_,x,y,I.b8.fresh (ZU _),rfl,rfl,fun X3 Cg=>by rw[Inv.pI I Cg q1];exact e1,fun Y1 Xl=>by rw[Inv.pI I Xl q2];exact e2⟩,⟨z2,sb.extBut _ _ D.TIz (kp _ _ D.TIz D.TITO D.TIi1 D.TIi2 vO),⟨_,_,sb.extBut _ _ D.TOz o1⟩,w1.1.at fun o e=>sb.extBut _ o D.i1z e,w2.1.at fun o e=>sb.extBut _ o D.i2z e⟩,fun b hb=>?_⟩;have Ni:b≠s.heap.objs.size:=by
   obtain⟨ob,e,_⟩:∃o,s.heap.get? b=some o/\∀v,o.data≠.cell v:=by
    simp only[List.mem_cons,List.not_mem_nil,or_false] at hb;rcases hb with rfl|rfl|rfl|rfl|rfl
    ·exact⟨_,hz,fun v q=>by cases q⟩
    ·exact⟨_,vO,fun v q=>by cases q⟩
    ·exact⟨_,yi,fun v q=>by cases q⟩
    ·exact h1.obj
    ·exact h2.obj
   exact Zd (ZW e)
  rw[aT Ni];exact(hf b hb).1
 done:=by
  intro X hP hw hK hc i QF s σ H E I hf st hg;subst hP hw hK;refine VP.gl fun QQ eQ=>?_;obtain⟨hz,vO,⟨a,c,yi⟩,h1,h2⟩:=st;subst eQ;refine VP.gl fun QQ eQ=>?_;obtain⟨xs,ys,q1,q2,b1,b2,B9⟩:=hg;subst eQ;obtain⟨uu,Sb,s1⟩:=Inv.pH I q1;obtain⟨jb,Se,s2⟩:=Inv.pH I q2;have l1:=Sb.length;have l2:=Se.length;have hh:X.A.handled=none:=I.ok.hd hc;have hT:s.TypeIs (.ref z) "zip" := ⟨_,hz,rfl⟩;have he:i=uu.toArray.size\/(i<uu.toArray.size/\i=jb.toArray.size):=by simp;lia
  unfold pyNext;refine ZS (UW (Zy (name:=Str.ofString "__next__") hT CW (Zz CW hT PySem.F.entry_zip_next (D0 (m:=0) (by exact hh) (jH (by exact hh) t1 i1 p1 n1 uu.toArray) (jH (by exact hh) t2 i2 p2 n2 jb.toArray) D hz vO yi ⟨h1,s1⟩ ⟨h2,s2⟩ he fun h' e tk hk he=>?_) (PySem.F.args_zip_next_1 _))));obtain⟨o,ho,qd⟩:=he;refine ZS (Dr (T:="StopIteration") (b:=true) ⟨o,ho,qd⟩ isSubtype_stop ?_);refine ZT ⟨rfl,Inv.tq (h':=h') I hf fun c o um e=>?_⟩;simp only[List.mem_cons,List.not_mem_nil,or_false,not_or] at um;exact hk c o um.1 um.2.2.1 um.2.2.2.1 um.2.2.2.2 e
 self:=fun _ _ _ _ _ st h=>wpAny_pyIter_zip st.1 h
section
variable{X:Cx}{EX:XE}{L:Lc}{e a b:Expr}{fa fb fe:M D}{pos p:Pos}{x:Str}
def T3(K:Frag)(t:TA):TI:=fun σ H R=>t σ H fun vs H1=>∃t1 t2 p1 p2,vs=[.ref p1,.ref p2]/\(∃xs,kJ K H1 t1 p1 xs)/\(∃ys,kJ K H1 t2 p2 ys)/\R (SJ K t1 t2 p1 p2) H1
theorem Md{es:Rz}{k:Nat}{nO:Pos}{t:TA}(hg:Gl X "zip")(hm:X.mg "zip" = none)(ha:PA X [a,b] t)(hs:starEach [a,b] X.env=[(false,eval a X.env),(false,eval b X.env)]:=by rfl)(jY:starEach [b] X.env=[(false,eval b X.env)]:=by rfl) : PI X (.Tuple es k nO) (.Call (.Name "zip" p) [a,b] [] pos) (T3 X.K t):=by
 intro QF s σ H R I h;refine Call_ (eg I hg hm boot_zip (Zh (bK (ha pos QF s σ H _ I h) fun us s1 zz=>?_) (by rw[hs,jY]) (by rw[jY];rfl)));obtain⟨vs,H1,I1,r1,q1⟩:=zz;obtain⟨t1,t2,p1,p2,e,⟨xs,h1⟩,⟨ys,h2⟩,q⟩:=q1;subst e;cases r1 with
 |cons r rr=>
  cases rr with
  |cons r' rr=>
   cases rr;cases r;cases r';obtain⟨uu,Sb,V2⟩:=Inv.pH I1 h1;obtain⟨jb,Se,V3⟩:=Inv.pH I1 h2;have lt:∀{t:Bool}{q:Addr}{aG:Array Value},oj t s1.heap q aG->q<s1.heap.objs.size:=fun {t q aG} z=>by cases t;obtain⟨o,e,_⟩:=(show Heap.IsList _ _ _ from z);exact ZW e;obtain⟨o,e,_⟩:=(show Heap.IsTuple _ _ _ from z);exact ZW e
   have l1:=lt V2;have l2:=lt V3;refine Bt V2 V3 fun h' hz vO yi WW Nm hk=>?_;refine wpAny_pyIter_zip hz ?_;have IX:Inv X QF σ H1 {s1 with heap:=h'}:=I1.kept (t':=s1.toks) hk;have ne:∀{q:Addr}(j:Nat),q<s1.heap.objs.size->q≠s1.heap.objs.size+j:=fun {q} j hq=>Zd (Z6 hq (LM _ _));have D:rH (s1.heap.objs.size+4) (s1.heap.objs.size+2) (s1.heap.objs.size+3) s1.heap.objs.size (s1.heap.objs.size+1) [s1.heap.objs.size,p1] [s1.heap.objs.size+1,p2]:=by have a1:=ne 4 l1;have a2:=ne 3 l1;have a3:=ne 1 l1;have b1:=ne 4 l2;have b2:=ne 3 l2;have b3:=ne 0 l2;refine⟨ZH,ZH,ZH,ZH,ZH,ZH,ZH,ZH,ZH,ZH,?_,?_,?_,?_,?_,?_⟩;simp[Ne.symm a1];simp[Ne.symm b1];simp[Ne.symm a2];simp[Ne.symm b2];simp;exact Zo b3;simp[Ne.symm a3]
   refine⟨_,[s1.heap.objs.size+4,s1.heap.objs.size+2,s1.heap.objs.size+3,s1.heap.objs.size,s1.heap.objs.size+1],_,_,H1,rfl,IX,DS t1 t2 D (ne 0 l1) (ne 1 l2),⟨hz,vO,⟨_,_,yi⟩,WW,Nm⟩,fun c hc=>?_,q⟩;have hle:s1.heap.objs.size<=c:=by simp only[List.mem_cons,List.not_mem_nil,or_false] at hc;rcases hc with rfl|rfl|rfl|rfl|rfl;exact LM _ _;exact LM _ _;exact LM _ _;exact ZU _;exact LM _ _
   exact I1.oK hle (I1.b8.fresh hle)
theorem kJ.same{K:Frag}{F F':Hp}{t:Bool}{q:Addr}{xs:NC}(h:kJ K F t q xs)(e:aL F F'):kJ K F' t q xs:=by cases t;exact df.same h e;exact dj.same h e
theorem Den.seq{K:Frag}{mg:MG}{F:Hp}{v:V}{d:D}{ds:Sg}(h:Den K mg F v d)(e:cq d=some ds):∃t q vs,v=.ref q/\kJ K F t q vs/\aK K mg F vs ds:=by cases h with|tup h r=>cases e;exact⟨true,_,_,rfl,h,r⟩|lst h r=>cases e;exact⟨false,_,_,rfl,h,r⟩|_=>cases e
theorem E2{G:Fx}{F:Hp}{t1 t2:Bool}{p1 p2:Addr}{vs ws:NC}{ds es:Sg}(WX:∀(σ:St)(F' H':Hp)(ρ:aQ),aL F F'->L.Good G F' H' σ ρ->True)(h1:kJ L.K F t1 p1 vs)(r1:aK L.K L.mg F vs ds)(h2:kJ L.K F t2 p2 ws)(r2:aK L.K L.mg F ws es) : D5 L G F (SJ L.K t1 t2 p1 p2) (List.zipWith (fun x y=>D.tup [x,y]) ds es):=fun σ i F' H' ρ s g=>by have q1:kJ L.K H' t1 p1 vs:=(h1.same s).same g.sub;have q2:kJ L.K H' t2 p2 ws:=(h2.same s).same g.sub;have l1:=r1.length;have l2:=r2.length;refine⟨fun hi=>?_,fun hi=>?_,fun x D4 y=>?_⟩;simp at hi;exact⟨vs,ws,vs[i]' ZG,ws[i]' ZG,q1,q2,by simp[show i<vs.length by lia],by simp[show i<ws.length by lia]⟩;simp at hi;exact⟨vs,ws,q1,q2,ZG,ZG,ZG⟩;obtain⟨q,u,v,hq,rfl,rfl,y1,y2⟩:=y;have sF:=bg (o:=.tup [u,v]) (g.sub.free hq);refine⟨_,sF,g.laid hq,fun d hd=>?_⟩;rw[List.getElem?_zipWith] at hd;cases e1:ds[i]? with|none=>rw[e1] at hd;cases hd|some d1=>cases e2:es[i]? with|none=>rw[e1,e2] at hd;cases hd|some d2=>rw[e1,e2] at hd;cases hd;obtain⟨u',a1,a2⟩:=(r1.same s).get e1;obtain⟨v',b1,b2⟩:=(r2.same s).get e2;rw[y1 vs q1] at a1;rw[y2 ws q2] at b1;cases a1;cases b1;exact .tup (dj.of aM) (.cons (a2.same sF) (.cons (b2.same sF) .nil))
theorem mP{es:Rz}{k:Nat}{nO:Pos}{fl:List (M D)}(hg:Gl X "zip")(hm:X.mg "zip" = none)(ha:yW X EX [a,b] (mL fl))(hs:starEach [a,b] X.env=[(false,eval a X.env),(false,eval b X.env)]:=by rfl)(jY:starEach [b] X.env=[(false,eval b X.env)]:=by rfl) : tw X EX (.Tuple es k nO) (.Call (.Name "zip" p) [a,b] [] pos) (qg fl):=
 (Md hg hm ha hs jY).le fun σ H Q bA=>dg bA fun G F F1 H1 bo d1 xs s1 g1 r1 o1=>by
  obtain⟨ds,e,q⟩:=o1.opt;unfold mQ at e;split at e;rename_i c d;cases r1 with|cons h1 r1=>cases r1 with|cons h2 r1=>obtain rfl:=aK.n r1;cases e1:cq c with|none=>rw[e1] at e;cases e|some cs=>cases e2:cq d with|none=>rw[e1,e2] at e;cases e|some es=>rw[e1,e2] at e;cases e;obtain⟨t1,q1,vs,rfl,z1,y1⟩:=Den.seq h1 e1;obtain⟨t2,q2,ws,rfl,z2,y2⟩:=Den.seq h2 e2;exact⟨t1,t2,q1,q2,rfl,⟨_,z1.same g1.sub⟩,⟨_,z2.same g1.sub⟩,q F1 H1 _ s1 g1 (E2 (fun _ _ _ _ _ _=>trivial) z1 y1 z2 y2)⟩
  cases e
theorem ints_of{K:Frag}{mg:MG}{F:Hp}:∀{vs:NC}{ds:Sg}{ns:Pa},aK K mg F vs ds->fB ds=some ns->vs=ns.map V.int
|_,_,_,.nil,e=>by cases e;rfl|_,_,_,.cons (ds:=ds) h t,e=>by
 cases h with
 |int i=>simp only[fB] at e;cases q:fB ds with|none=>rw[q] at e;cases e|some ns=>rw[q] at e;cases e;rw[ints_of t q];rfl
 |_=>cases e
theorem RR.pH{G:Fx}{F H:Hp}{σ:St}{ρ:aQ}{v:V}{d:D}{ds:Sg}(h:RR L G F H σ ρ v d)(g:L.Good G F H σ ρ)(e:cq d=some ds):∃t q vs,v=.ref q/\aK L.K L.mg F vs ds/\kJ L.K H t q vs:=by
 obtain⟨q,vs,rfl,r,z⟩:=RR.seq h g e;rcases z with ⟨_,z⟩|⟨_,z,_⟩
 exact⟨false,q,vs,rfl,r,z⟩;exact⟨true,q,vs,rfl,r,z⟩
theorem isLst_slot{G:Fx}{F H:Hp}{σ:St}{ρ:aQ}{j:Nat}(g:L.Good G F H σ ρ)(h:isLst (own ρ[j]?)=true):∃l vs,σ[j]?=some (some (V.ref l))/\H l=some (.lst vs):=by
 have hs:(own ρ[j]?).isSome=true:=by cases q:own ρ[j]? with|none=>rw[q] at h;cases h|some d=>rfl
 obtain⟨l,d,h1,h2,h3⟩:=lr g hs;rw[h2] at h;cases d with|lst ds=>obtain⟨vs,z,_⟩:=h3;exact⟨l,vs,h1,z⟩|_=>cases h
theorem M4(i:Nat){UP fP:Pos}(he:PV X EX e fe)(hN:X.N[i]?=some x:=by rfl)(hv:xc X.env.scope x:=by exact ZK)(hd:Y3 x:=by decide)
  (j9:Y4 x:=by decide)
  (hpe:∀{to:TE}{t:TA},PE X (.Name x p) to->PA X [e] t->PE X (.Call (.Attribute (.Name x p) "append" UP) [e] [] fP) (Sq X.K "list" sT to t))
  (ja:ZC X e []:=by rfl):mS X EX (.Expr (.Call (.Attribute (.Name x p) "append" UP) [e] [] fP) pos) (lz i fe):=
 (sN (hpe (gQ hN hv hd j9) (cu he fL ja))).le fun E σ H bA=>vW bA fun G F ρ g0 o=>by unfold lz at o;by_cases hl:isLst (own ρ[i]?)=true;rw[ZY hl] at o;obtain⟨l,vs,z1,z2⟩:=isLst_slot (L:=lc X EX) g0 hl;refine⟨_,z1,.inl ⟨rfl,_,df.of z2⟩,aV g0 o (fun x r q=>q.x) fun F1 H1 bo d1 v s1 g1 r1 o1=>?_⟩;obtain⟨l',vd,bO,y1,y2,y3,g2,q⟩:=u6 (L:=lc X EX) g1 r1 (Out.YV o1);rw[z1] at y1;cases y1;exact⟨l,vd,v,rfl,rfl,y2,y3,q F1 _ σ s1 g2⟩;rw[Za hl] at o;exact o.elim
def yM(K:Frag):R2:=fun x y H Q=>∃l b xs zs,x=.ref l/\y=.ref b/\df K H l xs/\df K H b zs/\xs.length+zs.length<=sizeLine/\∀p,H p=none->Q (.ref p) (upd H p (.lst (xs++zs)))
theorem FO:fZ X (binaryOp .Add) (yM X.K):=by intro QF s σ H x y v u Q I rx ry h;obtain⟨l,b,xs,zs,rfl,rfl,hH,hB,hz,q⟩:=h;cases rx;cases ry;obtain⟨aG,r,⟨⟨c1,d1,Yg,XQ⟩,n,e,hc,hd,RQ⟩,_⟩:=I.list hH;obtain⟨jb,r2,⟨⟨c2,d2,Yh,NA⟩,n2,e2,yj,hd2,OJ⟩,_⟩:=I.list hB;simp only at hc hd RQ yj hd2 OJ;subst hc RQ yj OJ;refine concat_meets ⟨_,e,rfl⟩ ⟨_,e2,rfl⟩ noFill_list_add seq_list_add PySem.F.slot_list_add PySem.F.entry_list_add (PySem.F.args_list_add_2 _ _) (list_addW l b aG.toArray jb.toArray n n2 d1 d2 XQ NA (by rw[ZX,ZX,<-r.length,<-r2.length];exact hz)) ⟨e,e2,?_⟩;have ea:aG.toArray++jb.toArray=(aG++jb).toArray:=ZH;rw[ea];exact⟨.ref _,_,I.Kv (t':=s.toks) (r.append r2) (by rw[Zq];lia),rfl,q _ I.fresh⟩
theorem JJ:ki L (yM L.K) NY:=fun G F H σ ρ x y dx dy d Q g0 rx ry e k=>by
 cases dx with
 |lst xs=>cases dy with|lst ys=>simp only[NY] at e;split at e;rename_i hl;cases e;obtain⟨_,_,rfl,h1,r1⟩:=Den.l rx;obtain⟨_,_,rfl,h2,r2⟩:=Den.l ry;refine⟨_,_,_,_,rfl,rfl,df.same h1 g0.sub,df.same h2 g0.sub,by rw[r1.length,r2.length,<-vo];exact hl,fun p hp=>?_⟩;have sF:∀o,aL F (upd F p o):=fun o=>bg (o:=o) (g0.sub.free hp);exact k _ _ _ (sF _) (g0.laid hp) (.lst (df.of aM) (aK.append (aK.same (sF _) r1) (aK.same (sF _) r2)));cases e|_=>cases e
 |_=>cases e
theorem aJ:fZ X (binaryOp .Add) (fun x y H Q=>(uS fun i j=>.int (i+j)) x y H Q\/(yL X.K x y H Q\/yM X.K x y H Q)):=fZ.or Q18 (fZ.or FN FO)
theorem aO:ki L (fun x y H Q=>(uS fun i j=>.int (i+j)) x y H Q\/(yL L.K x y H Q\/yM L.K x y H Q)) aY:=fun G F H σ ρ x y dx dy d Q g0 rx ry e k=>by
 cases dx with
 |int _=>cases dy with|int _=>exact .inl (Ot G F H σ ρ x y _ _ d Q g0 rx ry e k)|_=>cases e
 |tup _=>cases dy with|tup _=>exact .inr (.inl (JK G F H σ ρ x y _ _ d Q g0 rx ry e k))|_=>cases e
 |lst _=>cases dy with|lst _=>exact .inr (.inr (JJ G F H σ ρ x y _ _ d Q g0 rx ry e k))|_=>cases e
 |_=>cases e
def RO:Rl (Option Int) (Option Int):=fun _ _ _ _ _ b a=>b=a
def w6(X:Cx)(EX:XE)(e:Option Expr)(f:Option (M D)):Prop:=PO X e (lift (lc X EX) RO (lh f))
theorem Hv{X:Cx}{e:Option Expr}{t t':TO}(h:PO X e t)(k:∀σ H Q,t' σ H Q->t σ H Q):PO X e t':=fun QF s σ H Q I q=>h QF s σ H Q I (k _ _ _ q)
theorem bG:w6 X EX none none:=Hv Gp fun σ H Q bA=>lf bA fun G F ρ g0 o=>o F H none (aL.refl _) g0 rfl
theorem bH(h:PV X EX e fe):w6 X EX (some e) (some fe):=Hv (Gq h) fun σ H Q bA=>dg bA fun G F F1 H1 bo d1 x s1 g1 r1 o1=>by cases d1 with|int i=>obtain rfl:=Den.i r1;exact⟨i,rfl,o1 F1 H1 _ s1 g1 rfl⟩|_=>exact o1.elim
theorem DF(n d:Nat)(o:XB):HT.cK n d o=uU n d o:=by cases o with|none=>rfl|some v=>unfold HT.cK uU;first|rfl|(split<;>first|rfl|lia)
theorem rQ{K:Frag}{mg:MG}{F:Hp}{vs:NC}{ds:Sg}(h:aK K mg F vs ds)(lo hi:XB):aK K mg F (kQ vs lo hi) (VP.cutD ds lo hi):=by unfold kQ VP.cutD;rw[h.length,DF,DF];exact(h.drop _).take _
end
theorem iF{js:XT}{m n:Nat}(h:js.all (fun j=>decide (m<=j)&&decide (j<m+n))=true):∀j∈js,m<=j/\j<m+n:=fun j hj=>by have:=List.all_eq_true.mp h j hj;rw[Zb] at this;exact⟨Zx this.1,Zx this.2⟩
structure oi(K:Frag)(mg:MG)(x:Str)(st:Stmt)(ps:R5)(f:Addr)(fd:FuncData):Prop where
 fu:Ej K x x st f fd
 bi:Binds K fd ps []
 mg:mg x=some (.ref f)
section
variable{X:Cx}{EX:XE}{L:Lc}{e a b c:Expr}{fa fb fc fe:M D}{pos:Pos}{x:Str}
def iR:D->Value->Prop|.bz,v=>v=.none|.bl k,v=>v=.bool k|.int i,v=>∃t,v=.int i t|.str s,v=>∃t,v=.str s t|_,_=>False
theorem iR.den(h:iR d v):∃u:V,RelV u v/\∀(K:Frag)(mg:MG)(F:Hp),Den K mg F u d:=by cases d with|bz=>cases h;exact⟨.bz,rfl,fun _ _ _=>.bz⟩|bl k=>cases h;exact⟨.bl k,rfl,fun _ _ _=>.bl k⟩|int i=>obtain⟨t,rfl⟩:=h;exact⟨.int i,⟨t,rfl⟩,fun _ _ _=>.int i⟩|str s=>obtain⟨t,rfl⟩:=h;exact⟨.str s,⟨t,rfl⟩,fun _ _ _=>.str s⟩|_=>exact h.elim
def U2(mg:MG)(x:Str)(d:D):Prop:=∃v,mg x=some v/\iR d v
theorem jw(hm:U2 X.mg x d)(hg:Gl X x)(hd:Y3 x:=by decide):PV X EX (.Name x pos) (mC d):=by obtain⟨v,h1,h2⟩:=hm;obtain⟨u,r,den⟩:=h2.den;exact uQ (jQ hg h1 r hd) (fun _ _ _ q=>q) fun F=>den _ _ F
theorem tS(hg:ki (lc X EX) r g)(Nk:ki (lc X EX) r' g')(ha:∀σ H Q,lift (lc X EX) (RV (lc X EX)) fa σ H Q->ta σ H Q)(hb:∀σ H Q,lift (lc X EX) (RV (lc X EX)) fb σ H Q->tb σ H Q)(hc:∀σ H Q,lift (lc X EX) (RV (lc X EX)) fc σ H Q->tc σ H Q) (σ:St) (H:Hp) (Q:VK) (h:lift (lc X EX) (RV (lc X EX)) (zD g g' fa fb fc) σ H Q):wU r r' ta tb tc σ H Q:=by
 obtain⟨G,F,ρ,g0,o⟩:=h;refine ha _ _ _ (aV g0 o (fun x r q=>q) fun F1 H1 bo d1 x s1 g1 r1 o1=>?_);refine hb _ _ _ (aV g1 o1 (fun x r q=>q.same s1) fun F2 H2 mR d2 y s2 g2 r2 o2=>?_);obtain⟨d,e,q⟩:=o2.YV.opt;refine hg G F2 H2 σ mR x y d1 d2 d _ g2 (r1.same s2) r2 e fun F3 H3 v s3 g3 r3=>?_;cases d with
  |bl k=>obtain rfl:=Den.b r3;refine⟨k,rfl,?_⟩;cases k with|true=>refine vU (hc _ _ _ (aV g3 q (fun x r q=>q.same (s1.trans (s2.trans s3))) fun F4 H4 IU d4 z s4 g4 r4 o4=>?_));obtain⟨d5,e5,q5⟩:=o4.opt;exact Nk G F4 H4 σ IU y z d2 d4 d5 Q g4 (r2.same (s3.trans s4)) r4 e5 (eM.same (s1.trans (s2.trans (s3.trans s4))) q5)|false=>exact vT (q F3 H3 _ (s1.trans (s2.trans s3)) g3 (.bl _))
  |_=>exact q.elim
theorem hU(ho:fZ X (compareOp op) r)(tE:fZ X (compareOp zS) r')(hg:ki (lc X EX) r g)(Nk:ki (lc X EX) r' g')(ha:PV X EX a fa)(hb:PV X EX b fb)(hc:PV X EX c fc)(hm:lastMarks [op,zS] [b,c]=false:=by exact ZO):PV X EX (.Compare a [op,zS] [b,c] pos) (zD g g' fa fb fc):=
 (De ho tE ha hb hc hm).le (tS hg Nk (fun _ _ _ q=>q) (fun _ _ _ q=>q) fun _ _ _ q=>q)
theorem C9(ho:fZ X (compareOp op) r)(tE:fZ X (compareOp zS) r')(hg:ki (lc X EX) r g)(Nk:ki (lc X EX) r' g')(ha:PV X EX a fa)(hb:PV X EX b fb)(hc:PV X EX c fc)(hm:lastMarks [op,zS] [b,c]=false:=by exact ZO):PB X EX (.Compare a [op,zS] [b,c] pos) (tB (zD g g' fa fb fc)):=
 (Ds ho tE ha hb hc hm).le fun σ H Q bA=>lf bA fun G F ρ g0 o=>by refine tS hg Nk (fun _ _ _ q=>q) (fun _ _ _ q=>q) (fun _ _ _ q=>q) σ H _ (aV g0 o (fun x r q=>q) fun F1 H1 bo d1 x s1 g1 r1 o1=>?_);cases d1 with|bl k=>obtain rfl:=Den.b r1;exact⟨k,rfl,o1 F1 H1 k s1 g1 rfl⟩|_=>exact o1.elim
theorem jX{prog:Program}{w:World}{A:Around}{E:Y5}{s:Shared}{t sl:Addr}{items:Array Value}{vl vu:Value}{lo hi:XB}{Q:Y5}(ht:IsTup s.heap t items)(hs:s.heap.IsSliceOf sl vl vu .none)(pl:IsPart vl lo)(pu:IsPart vu hi)(hw:HT.cK items.size 0 lo=0/\HT.cK items.size items.size hi=items.size) (h:Q (.ref t) s):wpAny (model prog w) A (getItem (.ref t) (.ref sl)) Q E s:=by
 obtain⟨os,JZ,JT,oQ⟩:=id hs;have Tg:s.TypeIs (.ref sl) "slice" := ⟨os,JZ,JT⟩;unfold getItem;try with_reducible refine S5 ?_
 first|refine ZS (ZT ?_)|skip
 refine ZS (wpAny_sequenceKey ht.typeIs (by decide) ?_);refine ZS (Zy (name:=Str.ofString "__getitem__") ht.typeIs MU (Zz MU ht.typeIs entry_tuple_getitem ?_ (args_tuple_getitem _ _)));show wpAny _ _ (Builtin.Tuple.tupleItemsOf (.ref t) >>= _) _ _ s;refine ZS (PyProof.Rows.tupleItemsOf_ ht ?_);refine ZS (Lb Tg ?_);rw[ZY (by decide)];refine ZS (HT.hW hs pl pu ?_);have TX:(((HT.cK items.size 0 lo:Nat):Int) == 0&&(1:Int) == 1&&(HT.cK items.size items.size hi-HT.cK items.size 0 lo) == items.size)=true:=by rw[hw.1,hw.2];simp
 show wpAny _ _ (if (((HT.cK items.size 0 lo:Nat):Int) == 0&&(1:Int) == 1&&(HT.cK items.size items.size hi-HT.cK items.size 0 lo) == items.size)=true then _ else _) _ _ s;rw[ZY TX];refine ZS ?_;unfold Builtin.Tuple.tupleIsExact;refine ZS (Lb ht.typeIs (ZT ?_));rw[ZY (by decide)];refine ZS (vM (ZT ⟨_,rfl,ZT h⟩))
def Ur(K:Frag):V->XB->XB->Hp->VK->Prop:=fun x lo hi H Q=>∃q xs,x=.ref q/\dj K H q xs/\(kQ xs lo hi=xs->Q (.ref q) H)/\∀p,H p=none->Q (.ref p) (upd H p (.tup (kQ xs lo hi)))
theorem GX:L2.tG X (Ur X.K):=by
 intro QF s σ H x v vl vu lo hi sl Q I rx hs pl pu h;obtain⟨q,xs,rfl,hx,h1,h2⟩:=h;by_cases hw:HT.cK xs.length 0 lo=0/\HT.cK xs.length xs.length hi=xs.length;cases rx;obtain⟨aG,r,ht,hz⟩:=I.tuple hx;have Nv:aG.toArray.size=xs.length:=by rw[ZX];exact r.length.symm
 refine⟨"tuple",_,PyProof.Rows.slot_tuple_getitem.lookup,ht.typeIs,jX ht hs pl pu (by rw[Nv];exact hw) ⟨.ref q,H,I,rfl,h1 ?_⟩⟩;unfold kQ;rw[hw.1,hw.2];simp;exact Q14 QF s σ H _ v vl vu lo hi sl Q I rx hs pl pu ⟨q,xs,rfl,hx,hw,h2⟩
theorem ql(items:Array Value)(lo hi:XB):slicePick items lo hi none=((items.toList.drop (HT.cK items.size 0 lo)).take (HT.cK items.size items.size hi-HT.cK items.size 0 lo)).toArray:=by
 have e:sliceBounds lo hi none items.size=(((HT.cK items.size 0 lo:Nat):Int),((HT.cK items.size items.size hi:Nat):Int),1):=by
  simp only[sliceBounds,Option.getD_none];simp only[show (1:Int) > 0 by decide,if_true];cases lo with
  |none=>cases hi with|none=>rfl|some j=>simp only[HT.cK];congr 1;congr 1;split<;>lia
  |some i=>cases hi with|none=>simp only[HT.cK];congr 1;split<;>lia|some j=>simp only[HT.cK];congr 1;(split<;>lia);congr 1;split<;>lia
 unfold slicePick;rw[e];simp only[sliceRange_one,pick_run]
def Mr(K:Frag):V->XB->XB->Hp->VK->Prop:=fun x lo hi H Q=>∃q xs,x=.ref q/\df K H q xs/\∀p,H p=none->Q (.ref p) (upd H p (.lst (kQ xs lo hi)))
theorem MI:L2.tG X (Mr X.K):=by
 intro QF s σ H x v vl vu lo hi sl Q I rx hs pl pu h;obtain⟨q,xs,rfl,hx,h1⟩:=h;cases rx;obtain⟨aG,r,ht,hz⟩:=I.list hx;have Nv:aG.toArray.size=xs.length:=by rw[ZX];exact r.length.symm
 refine⟨"list",_,slot_list_getitem.lookup,ht.isList.typeIs,wpAny_getItem_list_slice ht.isList hs pl pu .none (by decide) ?_ (by rw[Nv];exact hz)⟩;rw[ql,Nv];exact⟨.ref _,_,I.Kv (t':=s.toks) ((r.drop (HT.cK xs.length 0 lo)).take (HT.cK xs.length xs.length hi-HT.cK xs.length 0 lo)) (Zw (jk xs lo hi) hz),rfl,h1 _ I.fresh⟩
theorem dw{lo hi:Option Expr}{fl fh:Option (M D)}{p2:Pos}(he:PV X EX e fe)(hl:w6 X EX lo fl)(hh:w6 X EX hi fh):PV X EX (.Subscript e (.Slice lo hi none p2) pos) (nK d6 fe fl fh):=(Q0f (GX.or MI) he hl hh).le fun σ H Q bA=>lf bA fun G F ρ g0 o=>aV g0 o (fun x r q=>q) fun F1 H1 bo d1 x s1 g1 r1 o1=>aV g1 o1 (fun x r q=>q.same s1) fun F2 H2 mR l l' s2 g2 r2 o2=>aV g2 o2 (fun x r q=>q.same (s1.trans s2)) fun F3 H3 U0 h h' s3 g3 r3 o3=>by cases r2;cases r3;obtain⟨d,e1,q⟩:=o3.opt;have Nz:=r1.same (s2.trans s3);cases d1 with|tup ds=>cases e1;obtain⟨_,_,rfl,hq,rq⟩:=Den.t Nz;refine .inl ⟨_,_,rfl,dj.same hq g3.sub,fun e2=>?_,fun p hp=>?_⟩;have:=rQ rq l h;rw[e2] at this;exact q F3 H3 _ (s1.trans (s2.trans s3)) g3 (.tup hq this);rename_i vs;have sF:=bg (o:=.tup (kQ vs l h)) (g3.sub.free hp);exact q _ _ _ (s1.trans (s2.trans (s3.trans sF))) (g3.laid hp) (.tup (dj.of aM) ((rQ rq l h).same sF))|lst ds=>cases e1;obtain⟨_,_,rfl,hq,rq⟩:=Den.l Nz;refine .inr ⟨_,_,rfl,df.same hq g3.sub,fun p hp=>?_⟩;rename_i vs;have sF:=bg (o:=.lst (kQ vs l h)) (g3.sub.free hp);exact q _ _ _ (s1.trans (s2.trans (s3.trans sF))) (g3.laid hp) (.lst (df.of aM) ((rQ rq l h).same sF))|_=>cases e1
end
namespace RV
theorem Ab:Slot "reversed" "__init__" "object.__init__":=.of (owner:="object") (n:="__init__") (by rw[QS,Uy];kernel_rfl) (by decide +kernel) (by decide +kernel) (by decide +kernel) (by first|exact .inl (by decide +kernel)|exact .inr (by decide +kernel)) (by rw[Hq];kernel_rfl)
theorem called:TypeCalled "reversed" "reversed.__new__" "object.__init__":=⟨by decide +kernel,PySem.F.create_reversed,⟨_,_,PySem.F.mro_reversed⟩,PySem.F.made_reversed,rO,PySem.F.sub_reversed_self,Ab⟩
theorem slot_next:Slot "reversed" "__next__" "reversed.__next__":=.of (owner:="reversed") (n:="__next__") (by rw[QS,Uy];kernel_rfl) (by decide +kernel) (by decide +kernel) (by decide +kernel) (by first|exact .inl (by decide +kernel)|exact .inr (by decide +kernel)) (by rw[Hq];kernel_rfl)
theorem entry_next:entryFor table "reversed.__next__" = some Builtin.«reversed.__next__» := entryFor_of_tree (by kernel_rfl)
theorem mB:Manifest.owners.lookup (String.ofList ['d','e','s','r','e','v','e','r'].reverse)=some Manifest.sig_reversed:=by kernel_rfl
theorem args_next(a:Value):argsOk "reversed.__next__" ⟨[a],[]⟩:=by unfold argsOk;rw[signature?_of (id:="reversed.__next__") (n:=['_','_','t','x','e','n','_','_']) (o:=['d','e','s','r','e','v','e','r']) (by kernel_rfl) mB];kernel_rfl
theorem rp:Slot "reversed" "__iter__" "reversed.__iter__":=.of (owner:="reversed") (n:="__iter__") (by rw[QS,Uy];kernel_rfl) (by decide +kernel) (by decide +kernel) (by decide +kernel) (by first|exact .inl (by decide +kernel)|exact .inr (by decide +kernel)) (by rw[Hq];kernel_rfl)
theorem y8(a:Value):argsOk "reversed.__iter__" ⟨[a],[]⟩:=by unfold argsOk;rw[signature?_of (id:="reversed.__iter__") (n:=['_','_','r','e','t','i','_','_']) (o:=['d','e','s','r','e','v','e','r']) (by kernel_rfl) mB];kernel_rfl
theorem Q1W:entryFor table "reversed.__iter__" = some Builtin.«dict_keyiterator.__iter__»:=entryFor_alias (id':="dict_keyiterator.__iter__") (by kernel_rfl) (by first|rfl|decide +kernel|(unfold String.splitOn;simp +decide [String.splitOnAux])) (by decide +kernel) (by kernel_rfl)
theorem sD:typeLookup (.type "tuple") "__reversed__" = pure none:=by rw[QS,Uy];kernel_rfl
theorem qp:isSubtype (.type "tuple") (.type "dict")=pure false:=by rw[Hq];kernel_rfl
section
variable{prog:Program}{w:World}{A:Around}{E:Y5}{s:Shared}
def obj(t:Addr)(i:Int):Obj:={cls:=.type "reversed",data:=.fields #[.ref t,rawInt i]}
def Is(h:Heap)(a t:Addr)(i:Int):Prop:=∃o,h.get? a=some o/\o.cls=.type "reversed" /\ o.data=.fields #[.ref t,rawInt i]
theorem Q1h(ht:IsTup s.heap t items)(hz:items.size<=sizeLine)
  (h:∀tk,Q₁ (.ref s.heap.objs.size) {s with heap:=s.heap.push (obj t ((items.size:Int)-1)),toks:=tk}) :
  codeAny (model prog w) A (.call (.builtin "reversed.__new__") ⟨[.type "reversed",.ref t],[]⟩) (wants Q₁ E) s:=by
 refine codeAny_of_tree ?_;refine ZS (m:=checkBuiltinCall "reversed.__new__" ⟨[.type "reversed",.ref t],[]⟩) (XH (PySem.F.newCall_reversed_1 _) (ZT ⟨Nd rO _,VQ PySem.F.entry_reversed_new ?_⟩));rw[J8 rO _];unfold Builtin.«reversed.__new__»;refine ZS (XH (newClass_reversed _) ?_);refine ZS (XH (a:=()) (by first|rfl|kernel_rfl) ?_);refine ZS (XH (a:=()) (by first|rfl|kernel_rfl) ?_);try dsimp only
 refine ZS (DP ht.typeIs sD ?_);try dsimp only
 refine ZS (ZS (m:=isInstance (.ref t) (.type "dict")) (Dr (b:=false) ht.typeIs qp ?_));refine ZS (m:=specialOf (.ref t) "__getitem__") (DP ht.typeIs PyProof.Rows.slot_tuple_getitem.lookup ?_);refine ZT ?_;refine ZS (m:=call (Value.builtin "len") [Value.ref t]) (len_tuple ht (by rw[Up] at hz;lia) ?_);refine ZS (m:=asInt? (.int items.size _)) (ZT ?_);refine ZS (m:=newObj (.type "reversed") (.fields #[.ref t,rawInt ((items.size:Int)-1)])) (Zk (ZT (h _)))
theorem make(ht:IsTup s.heap t items)(hz:items.size<=sizeLine)(h:∀tk,Q (.ref s.heap.objs.size) {s with heap:=s.heap.push (obj t ((items.size:Int)-1)),toks:=tk}):wpAny (model prog w) A (call (.type "reversed") [.ref t]) Q E s:=by refine callType_codes (Q₁:=fun o br=>br.TypeIs o "reversed" /\ Q o br) called (PySem.F.typeCall_reversed_1 _) PySem.F.entry_object_init (Q1h ht hz fun tk=>⟨⟨_,Y8 _ rfl,rfl⟩,h tk⟩) fun o br h₁=>?_;exact⟨h₁.1,FY o _,object_init_meets called.init.lookup called.made (by decide) prog w A.in1 _ br ⟨h₁.1,rfl,h₁.2⟩⟩
theorem Is.typeIs(x:Is s.heap a t i):s.TypeIs (.ref a) "reversed" := let ⟨o,ho,hc,_⟩:=x;⟨o,ho,hc⟩
theorem Is.at(x:Is h a t i)(e:∀o,h.get? a=some o->h'.get? a=some o):Is h' a t i:=let ⟨o,ho,r⟩:=x;⟨o,e _ ho,r⟩
theorem next_item{it t:Addr}{i:Nat}{items:Array Value}{x:Value}{Q:Pj->Shared->Prop}(hit:Is s.heap it t (i:Int))(ht:IsTup s.heap t items)(hx:items[i]?=some x)(hz:items.size<=sizeLine)(hQ:∀h' tk,Is h' it t ((i:Int)-1)->Heap.SameBut it s.heap h'->Q (some x) {s with heap:=h',toks:=tk}):wpAny (model prog w) A (pyNext (.ref it)) Q E s:=by
 obtain⟨o,ho,hc,hd⟩:=id hit;unfold pyNext;refine ZS (UW (Zy (name:=Str.ofString "__next__") hit.typeIs slot_next (Zz slot_next hit.typeIs entry_next ?_ (args_next _))));unfold Builtin.«reversed.__next__»;refine ZS (XH (a:=(Value.ref it,[])) rfl ?_);refine ZS (Zm ho hd (x:=.ref t) rfl ?_);refine ZS (Zm ho hd (x:=rawInt (i:Int)) rfl ?_);show wpAny _ _ (if (i:Int)<0 then _ else _) _ _ s;rw[Za ZG];refine ZS (m:=specialOf (.ref t) "__getitem__") (DP ht.typeIs PyProof.Rows.slot_tuple_getitem.lookup ?_);have hi:i<items.size:=(Array.getElem?_eq_some_iff.mp hx).1;have Xo:(items.size:Int)<=16777216:=by rw[Up] at hz;lia
 refine ZS (m:=mkInt (i:Int)) (wpAny_mkInt ?_);refine ZS (m:=(getItem (Value.ref t) _).attempt) (UW (getItem_tuple (items:=items) (j:=i) ht ZG ZG ?_ hx ?_));unfold seqIndex?;simp;lia;refine ZS (m:=field (Value.ref it) 1) (Zm ho hd (x:=rawInt (i:Int)) rfl ?_);refine ZS (m:=setField (Value.ref it) 1 (rawInt ((i:Int)-1))) (MJ ho hd ZH ?_);refine ZT ⟨x,rfl,ZT (hQ _ _ ?_ (Kx ..))⟩;exact⟨_,Zv _ ho (K2 (GR hd _)),(Obj.cls_mapFields ..).trans hc,by rw[GR hd];simp⟩
theorem next_end(hh:A.handled=none)(hit:Is s.heap it t (-1))(hQ:∀h',Heap.ExtBut it s.heap h'->Q none {s with heap:=h'}):wpAny (model prog w) A (pyNext (.ref it)) Q E s:=by
 obtain⟨o,ho,hc,hd⟩:=id hit;unfold pyNext;refine ZS (UW (Zy (name:=Str.ofString "__next__") hit.typeIs slot_next (Zz slot_next hit.typeIs entry_next ?_ (args_next _))));unfold Builtin.«reversed.__next__»;refine ZS (XH (a:=(Value.ref it,[])) rfl ?_);refine ZS (Zm ho hd (x:=.ref t) rfl ?_);refine ZS (Zm ho hd (x:=rawInt (-1)) rfl ?_);show wpAny _ _ (if (-1:Int)<0 then _ else _) _ _ s;rw[ZY (by decide)];refine ZS (vM ?_);refine ZS (ZS (m:=setField (Value.ref it) 1 (rawInt (-1))) (MJ ho hd ZH ?_));have OS:=Zv (Obj.mapFields fun vs=>vs.set! 1 (rawInt (-1))) ho (K2 (GR hd _));have Tp:(Obj.mapFields (fun vs=>vs.set! 1 (rawInt (-1))) o).data=.fields #[.ref t,rawInt (-1)]:=by rw[GR hd];simp
 refine MJ OS Tp ZH ?_;refine ZS (m:=Builtin.SmallTypes.stopIteration) ?_;refine ZS (m:=newExc (.type "StopIteration") []) ?_;simp only[newExc,newTuple];refine ZS (Zk ?_ (by size_fits));refine ZS (m:=firstArgMember _ _) (XH (a:=Value.none) (by first|rfl|(simp only[firstArgMember];rfl)) ?_);refine Zk ?_ (by size_fits);simp only[raiseNew];refine ZS (wpAny_handled ?_);first|rw[show A.in1.handled=none from hh]|rw[hh]
 refine ZS (ZT (wpAny_throw ?_));refine ZS (Dr (T:="StopIteration") (b:=true) ⟨_,Y8 _ rfl,rfl⟩ isSubtype_stop ?_);refine ZT (hQ _ fun b ob hb e=>?_);refine Y7 _ (Y7 _ ?_);exact(Zj _ _ (Zo hb)).trans ((Zj _ _ (Zo hb)).trans e)
theorem l7(hit:Is s.heap it t i)(h:Q (.ref it) s):wpAny (model prog w) A (pyIter (.ref it)) Q E s:=by refine wpAny_pyIter_slot hit.typeIs rp (Zz rp hit.typeIs Q1W ?_ (y8 _));exact ZT ⟨_,rfl,"reversed",_,hit.typeIs,slot_next.lookup,h⟩
end
end RV
def Rm(K:Frag)(t:Bool)(q:Addr)(n:Nat):It:=⟨fun i H=>∃xs x,kJ K H t q xs/\xs.length=n/\i<n/\xs[n-1-i]?=some x,fun i H x H'=>H'=H/\∀xs,kJ K H t q xs->xs[n-1-i]?=some x,fun i H=>i=n⟩
def mT(t:Bool)(it q:Addr)(i:Int)(h:Heap):Prop:=if t then RV.Is h it q i else h.IsRevIter it q i
theorem mT.at(x:mT t it q i h)(e:∀o,h.get? it=some o->h'.get? it=some o):mT t it q i h':=by cases t;exact Heap.IsRevIter.at x e;exact RV.Is.at x e
theorem mT.obj(x:mT t it q i h):∃o n vs,h.get? it=some o/\o.cls=.type n/\o.data=.fields vs/\["enumerate","zip","dict_itemiterator","dict_reverseitemiterator","odict_iterator","itertools.zip_longest","itertools.pairwise"].contains n=false:=by cases t;obtain⟨o,h1,h2,h3⟩:=x;exact⟨o,_,_,h1,h2,h3,by decide⟩;obtain⟨o,h1,h2,h3⟩:=x;exact⟨o,_,_,h1,h2,h3,by decide⟩
theorem u5{P:Program}{w:World}{K:Frag}{tg:Expr}(t:Bool)(q it:Addr)(n:Nat):Turn P w K tg (Rm K t q n) [it] it (fun i h=>i<=n/\mT t it q ((n:Int)-1-i) h) where
 mem:=ZH
 obj:=fun i h st b hb=>by
  have e:b=it:=by simpa using hb
  subst e;obtain⟨o,_,_,e,_,d,_⟩:=st.2.obj;exact⟨o,e,fun v z=>by rw[d] at z;cases z⟩
 keep:=fun i h h' st k=>⟨st.1,st.2.at fun o e=>k it ZH o e⟩
 item:=by
  intro X hP hw hK hc i QF s σ H E I hf st hg;subst hP hw hK;obtain⟨xs,x,hq,hl,hi,hx⟩:=hg;obtain⟨f0,f1,f2,f3,f4,f5⟩:=hf it ZH;have e1:(n:Int)-1-(i:Int)=((n-1-i:Nat):Int):=ZG;have e2:((n-1-i:Nat):Int)-1=(n:Int)-1-((i+1:Nat):Int):=ZG;have wL:=st.2;rw[e1] at wL;have fin:∀u h' tk,RelV x u->mT t it q (((n-1-i:Nat):Int)-1) h'->Heap.SameBut it s.heap h'->wpAny (model X.prog X.w) X.A (letOwnedTupleGo tg (.ref it) u) (fun _ s2=>∃x H',Inv X QF σ H' s2/\RelV x u/\(Rm X.K t q n).Ss i H x H'/\(i+1<=n/\mT t it q ((n:Int)-1-((i+1:Nat):Int)) s2.heap)/\∀b∈[it],H' b=none) E {s with heap:=h',toks:=tk}:=fun u h' tk ru nN sb=>by have I1:Inv X QF σ H {s with heap:=h',toks:=tk}:=I.turned (t':=tk) (fun b o hb e=>(sb.2 b hb).trans e) f0 f1 f3 f4 f5;rw[e2] at nN;obtain⟨o,nm,vs,e,c,d,nc⟩:=nN.obj;exact qT (s:={s with heap:=h',toks:=tk}) e c d nc ⟨x,H,I1,ru,⟨rfl,fun ys hy=>by rw[Inv.pI I hy hq];exact hx⟩,⟨hi,nN⟩,fun b hb=>(hf b hb).1⟩
  cases t with|false=>obtain⟨aG,rv,pl,hz⟩:=I.list (show df X.K H q xs from hq);obtain⟨u,hu,ru⟩:=rv.get hx;exact wpAny_pyNext_rev_item wL pl.isList (x:=u) (by simpa using hu) fun h' nN sb=>⟨u,rfl,fin u h' s.toks ru nN sb⟩|true=>obtain⟨aG,rv,tp,hz⟩:=I.tuple (show dj X.K H q xs from hq);obtain⟨u,hu,ru⟩:=rv.get hx;exact RV.next_item wL tp (x:=u) (by simpa using hu) (by rw[ZX,<-rv.length];exact hz) fun h' tk nN sb=>⟨u,rfl,fin u h' tk ru nN sb⟩
 done:=by intro X hP hw hK hc i QF s σ H E I hf st hg;subst hP hw hK;obtain⟨f0,f1,f2,f3,f4,f5⟩:=hf it ZH;have Nk:i=n:=hg;have e1:(n:Int)-1-(i:Int)=-1:=ZG;have wL:=st.2;rw[e1] at wL;cases t with|false=>exact wpAny_pyNext_rev_end (I.ok.hd hc) wL fun h' eb=>⟨rfl,I.turned (t':=s.toks) (fun b o hb e=>eb b o hb e) f0 f1 f3 f4 f5⟩|true=>exact RV.next_end (I.ok.hd hc) wL fun h' eb=>⟨rfl,I.turned (t':=s.toks) (fun b o hb e=>eb b o hb e) f0 f1 f3 f4 f5⟩
 self:=fun _ i _ _ _ st h=>by cases t with|false=>exact wpAny_pyIter_revIter st.2 h|true=>exact RV.l7 st.2 h
section
variable{X:Cx}{EX:XE}{L:Lc}{e a b tg:Expr}{fa fb fe:M D}{pos p:Pos}{x:Str}
def T1(K:Frag)(t:TA):TI:=fun σ H R=>t σ H fun vs H1=>∃b q xs,vs=[.ref q]/\kJ K H1 b q xs/\R (Rm K b q xs.length) H1
theorem Q1I{t:TA}(hg:Gl X "reversed")(hm:X.mg "reversed" = none)(ha:PA X [a] t)(hs:starEach [a] X.env=[(false,eval a X.env)]:=by rfl):PI X tg (.Call (.Name "reversed" p) [a] [] pos) (T1 X.K t):=by
 intro QF s σ H R I h;refine Call_ (eg I hg hm boot_reversed (Zh (bK (ha pos QF s σ H _ I h) fun us s1 zz=>?_) (by rw[hs];rfl) (by rfl)));obtain⟨vs,H1,I1,r1,q1⟩:=zz;obtain⟨t,q,xs,e,sq,hR⟩:=q1;subst e;obtain⟨u,rfl,ru⟩:=vals1 r1;cases ru;have fp:∀b∈[s1.heap.objs.size],i8 X QF H1 b:=fun b hb=>by
  have e:b=s1.heap.objs.size:=by simpa using hb
  subst e;exact I1.oK (ZU _) (I1.b8.fresh (ZU _))
 cases t with
 |false=>
  obtain⟨aG,rv,pl,hz⟩:=I1.list (show df X.K H1 q xs from sq);have hl:aG.toArray.size=xs.length:=by rw[ZX];exact rv.length.symm
  refine call_reversed_list pl.isList ?_;rw[hl];have ri:Heap.IsRevIter (s1.heap.push (revObj q ((xs.length:Int)-1))) s1.heap.objs.size q ((xs.length:Int)-1):=⟨_,Y8 _ rfl,rfl,rfl⟩;refine wpAny_pyIter_revIter (s:={s1 with heap:=_}) ri ?_;exact⟨_,[s1.heap.objs.size],_,_,H1,rfl,I1.kept (t':=s1.toks) fun b o e=>Y7 _ e,u5 false q _ xs.length,⟨Zp _,by show Heap.IsRevIter _ _ _ _;simpa using ri⟩,fp,hR⟩
 |true=>
  obtain⟨aG,rv,tp,hz⟩:=I1.tuple (show dj X.K H1 q xs from sq);have hl:aG.toArray.size=xs.length:=by rw[ZX];exact rv.length.symm
  refine RV.make tp (by rw[hl];exact hz) fun tk=>?_;rw[hl];have ri:RV.Is (s1.heap.push (RV.obj q ((xs.length:Int)-1))) s1.heap.objs.size q ((xs.length:Int)-1):=⟨_,Y8 _ rfl,rfl,rfl⟩;refine RV.l7 (s:={s1 with heap:=_,toks:=tk}) ri ?_;exact⟨_,[s1.heap.objs.size],_,_,H1,rfl,I1.kept (t':=tk) fun b o e=>Y7 _ e,u5 true q _ xs.length,⟨Zp _,by show RV.Is _ _ _ _;simpa using ri⟩,fp,hR⟩
theorem EZ(h:kJ L.K F t q vs)(r:aK L.K L.mg F vs ds):D5 L G F (Rm L.K t q vs.length) ds.reverse:=fun σ i F' H' ρ s g=>by
 have sq:kJ L.K H' t q vs:=(h.same s).same g.sub;have hl:=r.length;refine⟨fun hi=>?_,fun hi=>?_,fun x D4 ⟨e,y⟩=>?_⟩;simp at hi;exact⟨vs,vs[vs.length-1-i]' ZJ,sq,rfl,ZJ,by simp[show vs.length-1-i<vs.length by omega]⟩;simp at hi;show i=vs.length;omega;subst e;refine⟨F',aL.refl _,g,fun d hd=>?_⟩;have hi:i<ds.length:=by simpa using (List.getElem?_eq_some_iff.mp hd).1
 rw[vI hi,<-hl] at hd;obtain⟨v,h1,h2⟩:=(r.same s).get hd;rw[y vs sq] at h1;cases h1;exact h2
theorem Q0c(hg:Gl X "reversed")(hm:X.mg "reversed" = none)(ha:PV X EX a fa)(hs:starEach [a] X.env=[(false,eval a X.env)]:=by rfl):tw X EX tg (.Call (.Name "reversed" p) [a] [] pos) (Fv fa):=(Q1I hg hm (cu ha fL hs) hs).le fun σ H Q bA=>dg bA fun G F F1 H1 bo d1 y s1 g1 r1 o1=>by obtain⟨ds,e,q⟩:=o1.opt;cases e1:cq d1 with|none=>rw[e1] at e;cases e|some es=>rw[e1] at e;cases e;obtain⟨t,q1,vs,rfl,z,r⟩:=Den.seq r1 e1;exact⟨t,q1,vs,rfl,z.same g1.sub,q F1 H1 _ s1 g1 (EZ z r)⟩
end
namespace GA
def Hx(T:String):Prop:=T="list_reverseiterator" \/ T="reversed"
section
variable{prog:Program}{w:World}{A:Around}{E:Y5}{s:Shared}{I:Addr}{fp wr:VL}{n:Nat}{P:Nat->Value->Prop}{St:Nat->Heap->Prop}{T:String}
def Hint(prog:Program)(w:World)(A:Around)(I:Addr)(St:Nat->Heap->Prop):Prop:=∀(s:Shared)(Q:Bool->Shared->Prop)(E:Y5),St 0 s.heap->(∀b tk,s.toks<=tk->Q b {s with toks:=tk})->wpAny (model prog w) A (Builtin.List.listLengthHint (.ref I)) Q E s
theorem extend(h2:Hx T)(W:WalksS prog w A.in1 I fp wr (fun a b=>b=a) n P (fun i s=>St i s.heap))(hT:∀(i:Nat)(s:Shared),St i s.heap->s.TypeIs (.ref I) T)(hh:Hint prog w A.in1 I St)(S:Addr)(res:Value)(c₀:Nat)(ja:St 0 s.heap)(B6:S∉fp)(hI:I∈fp)
  (hS:s.heap.get? S=some {cls:=.type "list",data:=.seq #[] c₀}) (hn:n<=sizeLine)
  (hR:∀s' yY c',Moved (S::wr) (fun a b=>b=a) s s'->s'.heap.get? S=some {cls:=.type "list",dict:=none,data:=.seq yY c',slots:=#[]}->ItemsOf P yY n->R (.ok (.ret res)) s') :
  wpAny (model prog w) A.in1 (Builtin.List.listExtendWith (.ref S) (.ref I) res) (fun fin s'=>match fin with|.done f=>R (.ok f) s'|.again c'=>c'.quiet=true/\codeAny (model prog w) A c' R s') (fun e s'=>R (.error e) s') s:=by
 have WH:S≠I:=fun e=>B6 (e ▸ hI);have h1:Builtin.List.listSameRef (.ref S) (.ref I)=false:=by simp[Builtin.List.listSameRef,WH]
 unfold Builtin.List.listExtendWith;refine ZS (Lb (hT 0 _ ja) ?_);rw[Za (by rw[h1];rcases h2 with rfl|rfl<;>decide)];refine ZS (W.self 0 _ _ _ ja (ZS (S5 (hh s _ _ ja fun b tk RX=>?_))));have wL:=W.frame 0 s s.heap tk ja RX fun b _ o e=>e;cases b with|false=>rw[Za (by rcases h2 with rfl|rfl<;>decide)];refine ZT ⟨Nd PySem.F.plain_extend_loop _,codeAny_extend_loopS W hn _ B6 _ n 0 _ _ _ rfl (Zp _) wL hS (ItemsOf.nil P) fun s' yY c' hm JR iE=>hR s' yY c' ?_ JR iE⟩;have mv:Moved (S::wr) (fun a b=>b=a) s {s with toks:=tk}:=⟨fun b o hb e=>e,rfl,rfl,rfl,RX⟩;exact Moved.trans W.gtrans mv hm|true=>rw[ZY (by rcases h2 with rfl|rfl<;>decide)];refine ZS (vM (ZS (m:=updateSeq S (·.push .none) >>= fun _=>updateSeq S (·.pop)) (ZS (Jl hS rfl ?_))));have q1:=Zv (Obj.mapSeq (·.push Value.none)) hS rfl;refine Jl (hz:=by seq_fits) q1 rfl ?_;have q2:=Zv (Obj.mapSeq (·.pop)) q1 rfl;have Qi:∀b o,b≠S->s.heap.get? b=some o->((s.heap.update S (Obj.mapSeq (·.push Value.none))).update S (Obj.mapSeq (·.pop))).get? b=some o:=fun b o hb e=>(Zj _ _ (Zo hb)).trans ((Zj _ _ (Zo hb)).trans e);refine ZT ⟨Nd PySem.F.plain_extend_loop _,codeAny_extend_loopS W hn _ B6 _ n 0 _ _ _ rfl (Zp _) (W.frame 0 s _ tk ja RX fun b hb o e=>Qi b o (fun z=>B6 (z ▸ hb)) e) q2 (ItemsOf.nil P) fun s' yY c' hm JR iE=>hR s' yY c' ?_ JR iE⟩;have mv:Moved (S::wr) (fun a b=>b=a) s {s with heap:=(s.heap.update S (Obj.mapSeq (·.push Value.none))).update S (Obj.mapSeq (·.pop)),toks:=tk}:=⟨fun b o hb e=>Qi b o (fun z=>hb (by rw[z];exact Z2)) e,rfl,rfl,rfl,RX⟩;exact Moved.trans W.gtrans mv hm
theorem gathered(h2:Hx T)(W:WalksS prog w A.in1 I fp wr (fun a b=>b=a) n P (fun i s=>St i s.heap))(hT:∀(i:Nat)(s:Shared),St i s.heap->s.TypeIs (.ref I) T)(hh:Hint prog w A.in1 I St)(ja:St 0 s.heap)(zl:∀b∈fp,b<s.heap.objs.size)(hI:I∈fp)(hn:n<=sizeLine)(hQ:∀s' acc,Moved wr (fun a b=>b=a) s s'->ItemsOf P acc n->Q acc.toList s'):wpAny (model prog w) A (collect (.ref I)) Q E s:=by have B6:s.heap.objs.size∉fp:=fun hm=>Nw _ (zl _ hm);refine ZS (m:=runValue (.builtin "proto.collect" ⟨[.ref I],[]⟩)) (wpAny_runValue (VQ PySem.F.entry_proto_collect ?_));rw[J8 PySem.F.plain_proto_collect _];refine ZS (m:=newList []) (Zk (ZT ⟨Nd PySem.F.plain_list_iadd _,VQ PySem.F.entry_list_iadd ?_⟩));rw[J8 PySem.F.plain_list_iadd _];have X:=extend (R:=fun r s'=>r=.ok (.ret (.ref s.heap.objs.size))/\∃acc c,Moved (s.heap.objs.size::wr) (fun a b=>b=a) {s with heap:=s.heap.push {cls:=.type "list",data:=.seq ([]:MY).toArray}} s'/\s'.heap.get? s.heap.objs.size=some {cls:=.type "list",dict:=none,data:=.seq acc c,slots:=#[]}/\ItemsOf P acc n) (s:={s with heap:=s.heap.push {cls:=.type "list",data:=.seq ([]:MY).toArray}}) h2 W hT hh s.heap.objs.size (.ref s.heap.objs.size) 0 (W.frame 0 s _ s.toks ja (ZU _) fun b _ o e=>Y7 _ e) B6 hI (Y8 _ rfl) hn fun s' acc c hm hS iE=>⟨rfl,acc,c,hm,hS,iE⟩;have fin:∀s',(∃acc c,Moved (s.heap.objs.size::wr) (fun a b=>b=a) {s with heap:=s.heap.push {cls:=.type "list",data:=.seq ([]:MY).toArray}} s'/\s'.heap.get? s.heap.objs.size=some {cls:=.type "list",dict:=none,data:=.seq acc c,slots:=#[]}/\ItemsOf P acc n)->wpAny (model prog w) A (do let o <-load s.heap.objs.size;match o.data with|.seq xs _=>pure xs.toList|_=>unsupported "internal:collect") Q E s':=fun s' ⟨acc,c,hm,hS,iE⟩=>ZS (wpAny_load hS (ZT (hQ s' acc (Moved.drop_new (o:={cls:=.type "list",data:=.seq ([]:MY).toArray}) (tk:=s.toks) hm (ZU _)) iE)));refine R9 X (fun f s' h=>?_) fun e s' h=>absurd h.1 ZH;cases f with|done f=>obtain⟨e,h⟩:=h;cases e;exact fin s' h|again c'=>exact⟨h.1,Hf h.2 fun r Ee ⟨e,h⟩=>by subst e;exact fin Ee h⟩
theorem vD(h2:Hx T)(W:WalksS prog w A.in1.in1 I fp wr (fun a b=>b=a) n P (fun i s=>St i s.heap))(hT:∀(i:Nat)(s:Shared),St i s.heap->s.TypeIs (.ref I) T)(hh:Hint prog w A.in1.in1 I St)(ja:St 0 s.heap)(zl:∀b∈fp,b<s.heap.objs.size)(hI:I∈fp)(hn:n<=sizeLine)
  (h:∀s' acc,Moved wr (fun a b=>b=a) s s'->ItemsOf P acc n->Q₁ (.ref s'.heap.objs.size) {s' with heap:=s'.heap.push {cls:=.type "tuple",data:=.seq acc}}) :
  codeAny (model prog w) A (.call (.builtin "tuple.__new__") ⟨[.type "tuple",.ref I],[]⟩) (wants Q₁ E) s:=by
 refine codeAny_of_tree (ZS (m:=checkBuiltinCall "tuple.__new__" ⟨[.type "tuple",.ref I],[]⟩) (XH (PySem.F.newCall_tuple_1 _) (ZT ⟨Nd PySem.F.plain_tuple_new _,VQ PySem.F.entry_tuple_new ?_⟩)));rw[J8 PySem.F.plain_tuple_new _];have k1:=sub_tuple_self;have k2:=init_tuple_lookup;have k3:=madeHere_tuple;have k4:=hT 0 s ja;rcases h2 with rfl|rfl;have z2:Hx "list_reverseiterator" := .inl rfl
 wp_walk using Lb k4,gathered z2 W hT hh ja zl hI hn
 intro s' acc hm iE;refine ZS (m:=Builtin.Tuple.tupleExact acc.toList.toArray) (Zk (ZT ?_) (by show acc.toList.toArray.size<=sizeLine;simp only[Array.toArray_toList];rw[iE.1];exact hn));rw[show acc.toList.toArray=acc by simp];exact h s' acc hm iE;have z2:Hx "reversed" := .inr rfl
 wp_walk using Lb k4,gathered z2 W hT hh ja zl hI hn
 intro s' acc hm iE;refine ZS (m:=Builtin.Tuple.tupleExact acc.toList.toArray) (Zk (ZT ?_) (by show acc.toList.toArray.size<=sizeLine;simp only[Array.toArray_toList];rw[iE.1];exact hn));rw[show acc.toList.toArray=acc by simp];exact h s' acc hm iE
theorem ou(h2:Hx T)(W:WalksS prog w A.in1.in1.in1 I fp wr (fun a b=>b=a) n P (fun i s=>St i s.heap))(hT:∀(i:Nat)(s:Shared),St i s.heap->s.TypeIs (.ref I) T)(hh:Hint prog w A.in1.in1.in1 I St)(ja:St 0 s.heap)(zl:∀b∈fp,b<s.heap.objs.size)(hI:I∈fp)(hn:n<=sizeLine)(hQ:∀s' acc,Moved wr (fun a b=>b=a) s s'->ItemsOf P acc n->Q (.ref s'.heap.objs.size) {s' with heap:=s'.heap.push {cls:=.type "tuple",data:=.seq acc}}):wpAny (model prog w) A (call (.type "tuple") [.ref I]) Q E s:=by refine callType_codes (Q₁:=fun obj br=>br.TypeIs obj "tuple" /\ Q obj br) PySem.F.called_tuple (PySem.F.typeCall_tuple_1 _) PySem.F.entry_object_init (vD h2 W hT hh ja zl hI hn fun s' acc hm iE=>⟨⟨_,Y8 _ rfl,rfl⟩,hQ s' acc hm iE⟩) fun obj br h₁=>?_;exact⟨h₁.1,FY obj _,object_init_meets PySem.F.called_tuple.init.lookup PySem.F.called_tuple.made (by decide) prog w A.in1 _ br ⟨h₁.1,rfl,h₁.2⟩⟩
end
theorem FI:typeLookup (.type "list_reverseiterator") "__len__" = pure none:=by rw[QS,Uy];kernel_rfl
theorem JU:typeLookup (.type "list_reverseiterator") "__length_hint__" = pure (some (.builtin "list_reverseiterator.__length_hint__")):=by rw[QS,Uy];kernel_rfl
theorem Q1G:typeLookup (.type "reversed") "__len__" = pure none:=by rw[QS,Uy];kernel_rfl
theorem Cb:typeLookup (.type "reversed") "__length_hint__" = pure (some (.builtin "reversed.__length_hint__")):=by rw[QS,Uy];kernel_rfl
theorem rm:Slot "reversed" "__length_hint__" "reversed.__length_hint__":=.of (owner:="reversed") (n:="__length_hint__") Cb (by decide +kernel) (by decide +kernel) (by decide +kernel) (by first|exact .inl (by decide +kernel)|exact .inr (by decide +kernel)) (by rw[Hq];kernel_rfl)
theorem vH:entryFor table "reversed.__length_hint__" = some Builtin.«reversed.__length_hint__» := entryFor_of_tree (by kernel_rfl)
theorem y7(a:Value):argsOk "reversed.__length_hint__" ⟨[a],[]⟩:=by unfold argsOk;rw[signature?_of (id:="reversed.__length_hint__") (n:=['_','_','t','n','i','h','_','h','t','g','n','e','l','_','_']) (o:=['d','e','s','r','e','v','e','r']) (by kernel_rfl) RV.mB];kernel_rfl
section
variable{prog:Program}{w:World}{A:Around}
def SM(it q:Addr)(items:Array Value):Nat->Heap->Prop:=fun i h=>i<=items.size/\h.IsRevIter it q ((items.size:Int)-1-(i:Int))/\h.IsList q items
def Ru(it q:Addr)(items:Array Value):Nat->Heap->Prop:=fun i h=>i<=items.size/\RV.Is h it q ((items.size:Int)-1-(i:Int))/\IsTup h q items
theorem Ib:Hint prog w A it (SM it q items):=fun s Q E st h=>by
 have hT:s.TypeIs (.ref it) "list_reverseiterator" := st.2.1.typeIs;unfold Builtin.List.listLengthHint;refine ZS (DP hT FI ?_);refine ZS (m:=specialOf (.ref it) "__length_hint__") (DP hT JU ?_);generalize OK:("list_reverseiterator.__length_hint__" : String)=T4
 wp_delta
 rw[show splitId T4=some ("list_reverseiterator","__length_hint__") from by subst OK;decide +kernel];subst OK;refine ZS (Dr (b:=true) hT (by rw[Hq];kernel_rfl) (ZT (h _ s.toks (ZU _))))
theorem Ic(hz:items.size<=sizeLine):Hint prog w A it (Ru it q items):=fun s Q E st h=>by
 have hT:s.TypeIs (.ref it) "reversed" := st.2.1.typeIs;unfold Builtin.List.listLengthHint;refine ZS (DP hT Q1G ?_);refine ZS (m:=specialOf (.ref it) "__length_hint__") (DP hT Cb ?_);generalize OK:("reversed.__length_hint__" : String)=T4
 wp_delta
 rw[show splitId T4=some ("reversed","__length_hint__") from by subst OK;decide +kernel];subst OK;refine ZS (Dr (b:=true) hT (by rw[Hq];kernel_rfl) ?_);obtain⟨_,⟨o,ho,hc,hd⟩,ht⟩:=id st;have Xo:(items.size:Int)<=16777216:=by rw[Up] at hz;lia
 rw[Za (show ¬((!true)=true) by decide)];dsimp only[];rw[Za (by decide)];refine ZS (vM (ZS (XH (rm.bind _) ?_)));refine ZS (m:=(call (.builtin "reversed.__length_hint__") [.ref it]).attempt) (UW (Zz rm hT vH ?_ (y7 _)));unfold Builtin.«reversed.__length_hint__»;refine ZS (XH (a:=Value.ref it) (by first|rfl|kernel_rfl) ?_);refine ZS (Zm ho hd (x:=.ref q) rfl ?_);rw[Za (by intro z;cases z)];dsimp only[];refine ZS (m:=call (Value.builtin "len") [Value.ref q]) (len_tuple ht ZG ?_);refine ZS (m:=asInt? (.int items.size _)) (ZT ?_);refine ZS (m:=field (.ref it) 1) (Zm (s:={s with toks:=s.toks+1+1}) ho hd (x:=rawInt ((items.size:Int)-1-((0:Nat):Int))) rfl ?_);have e0:(items.size:Int)-1-((0:Nat):Int)+1=items.size:=ZG;show wpAny _ _ (if (items.size:Int)<(items.size:Int)-1-((0:Nat):Int)+1 then _ else retInt ((items.size:Int)-1-((0:Nat):Int)+1)) _ _ _;rw[Za ZG,e0];have f1:Builtin.List.listFitsIndex (items.size:Int)=true:=by
  unfold Builtin.List.listFitsIndex;simp only[Bool.and_eq_true,decide_eq_true_eq]
  lia
 have f2:Builtin.List.listTooLong ((items.size:Int).toNat)=false:=by unfold Builtin.List.listTooLong;rw[ZA];simp only[decide_eq_false_iff_not,gt_iff_lt,Nat.not_lt];exact hz
 have f3:¬(items.size:Int)<0:=ZG;generalize (items.size:Int)=k at f1 f2 f3 ⊢;refine ZS (m:=mkInt k) (wpAny_mkInt (ZT ⟨_,rfl,?_⟩));dsimp only[];refine ZS (XH (a:=some k) rfl ?_);dsimp only[];rw[Za (by rw[f1];decide),Za f3,Za (by rw[f2];decide)];exact ZT (h _ _ (by show s.toks<=s.toks+1+1+1;lia))
theorem IS(hh:A.handled=none)(it q:Addr)(zq:q≠it)(items:Array Value)(hz:items.size<=sizeLine):Walks prog w A it [it,q] [it] items.size (fun i v=>items[items.size-1-i]?=some v) (Ru it q items) where
 sub:=fun b hb=>by simp at hb;simp[hb]
 frame:=fun _ _ _ x hk=>⟨x.1,x.2.1.at fun o e=>hk it ZH o e,by obtain⟨o,e,r⟩:=x.2.2;exact⟨o,hk q ZH o e,r⟩⟩
 item:=fun i s Q E hi x hQ=>by have e:(items.size:Int)-1-(i:Int)=((items.size-1-i:Nat):Int):=ZG;have e2:((items.size-1-i:Nat):Int)-1=(items.size:Int)-1-((i+1:Nat):Int):=ZG;have hit:=x.2.1;rw[e] at hit;have hx:items[items.size-1-i]?=some (items[items.size-1-i]' ZG):=Array.getElem?_eq_getElem ZG;refine RV.next_item hit x.2.2 hx hz fun h' tk EN sb=>?_;rw[e2] at EN;refine hQ _ h' tk hx ⟨hi,EN,?_⟩ fun b o hb eo=>(sb.2 b fun z=>hb (by simp[z])).trans eo;obtain⟨o,eo,r⟩:=x.2.2;exact⟨o,(sb.2 q zq).trans eo,r⟩
 done:=fun s Q E x hQ=>by have e:(items.size:Int)-1-(items.size:Int)=-1:=ZG;have hit:=x.2.1;rw[e] at hit;exact RV.next_end hh hit fun h' he=>hQ h' s.toks fun b o hb eo=>he b o (fun z=>hb (by simp[z])) eo
 self:=fun _ _ _ _ x hQ=>RV.l7 x.2.1 hQ
end
end GA
section
variable{X:Cx}{EX:XE}{L:Lc}{e a b tg:Expr}{fa fb fe:M D}{pos p UR p':Pos}
theorem qW{items acc:Array Value}(h:ItemsOf (fun i v=>items[items.size-1-i]?=some v) acc items.size):acc=items.toList.reverse.toArray:=by
 obtain⟨h1,h2⟩:=h;apply Array.ext';refine O3 fun i=>?_;by_cases hi:i<acc.size;have e:=h2 i acc[i] (Array.getElem?_eq_getElem hi);have l:acc.toList[i]?=some acc[i]:=by simp[hi]
 rw[l];simp only[List.toList_toArray];rw[vI (by simp;lia),<-e];simp;have Nm:¬i<items.size:=ZG;rw[Z9 (by simp;lia),Z9 (by simp;lia)]
theorem zK{QF:Y6}{σ:St}{H:Hp}{s s':Shared}{it:Addr}(I:Inv X QF σ H s)(hf:i8 X QF H it)(m:Moved [it] (fun a b=>b=a) s s'):Inv X QF σ H s':=by
 obtain⟨hp,g,d,tk,os⟩:=s';obtain⟨m1,m2,m3,m4,m5⟩:=m;simp only at m1 m2 m3 m4 m5;subst m2 m3 m4;have WS:∀b∈[it],i8 X QF H b:=fun b hb=>by
  have e:b=it:=by simpa using hb
  subst e;exact hf
 exact Inv.tq (h':=hp) (tk:=tk) (fp:=[it]) I WS m1
def IE(K:Frag):NC->Hp->VK->Prop:=fun xs H Q=>∃t q ys,xs=[.ref q]/\kJ K H t q ys/\∀p,H p=none->Q (.ref p) (upd H p (.tup ys.reverse))
theorem Q17{t:TA}(hg:Gl X "reversed")(hm:X.mg "reversed" = none)(zm:Gl X "tuple")(Cd:X.mg "tuple" = none)(hc:X.calm=true)(ha:PA X [a] t)(hs:starEach [a] X.env=[(false,eval a X.env)]:=by rfl)(jY:starEach [.Call (.Name "reversed" p) [a] [] pos] X.env=[(false,eval (.Call (.Name "reversed" p) [a] [] pos) X.env)]:=by rfl):PE X (.Call (.Name "tuple" p') [.Call (.Name "reversed" p) [a] [] pos] [] UR) (QR (IE X.K) t):=by
 intro QF s σ H Q I h;refine Pz (eg I zm Cd boot_tuple (Zh ?_ jY rfl));rw[jY];refine ve (Call_ (eg I hg hm boot_reversed (Zh (bK (ha pos QF s σ H _ I h) fun us s1 zz=>?_) hs rfl)));obtain⟨vs,H1,I1,r1,q1⟩:=zz;obtain⟨t,q,xs,e,sq,hR⟩:=q1;subst e;obtain⟨u,rfl,ru⟩:=vals1 r1;cases ru;have fp:i8 X QF H1 s1.heap.objs.size:=I1.oK (ZU _) (I1.b8.fresh (ZU _));have fin:∀(o:Obj)(tk:Nat)(aG:MY)(s':Shared)(acc:Array Value),Vals xs aG->xs.length<=sizeLine->Moved [s1.heap.objs.size] (fun a b=>b=a) {s1 with heap:=s1.heap.push o,toks:=tk} s'->ItemsOf (fun i v=>aG.toArray[aG.toArray.size-1-i]?=some v) acc aG.toArray.size->EP X QF σ Q (.ref s'.heap.objs.size) {s' with heap:=s'.heap.push {cls:=.type "tuple",data:=.seq acc}}:=fun o tk aG s' acc rv hz m hi=>by have I2:Inv X QF σ H1 {s1 with heap:=s1.heap.push o,toks:=tk}:=I1.kept (t':=tk) fun b o e=>Y7 _ e;have I3:=zK I2 fp m;rw[qW hi];refine⟨.ref s'.heap.objs.size,_,I3.laid (t':=s'.toks) (o:=.tup xs.reverse) (fun b ob q=>Y7 _ q) (ZU _) ?_,rfl,hR _ (I3.b8.fresh (ZU _))⟩;exact⟨by rw[List.length_reverse];exact hz,_,Vals.reverse rv,kK.new _ _⟩
 cases t with
 |false=>
  obtain⟨aG,rv,pl,hz⟩:=I1.list (show df X.K H1 q xs from sq);have hsz:aG.toArray.size<=sizeLine:=by rw[ZX,<-rv.length];exact hz
  refine call_reversed_list pl.isList (PH ?_);have lt:q<s1.heap.objs.size:=by obtain⟨o,e,_⟩:=pl.isList;exact ZW e
  have ri:Heap.IsRevIter (s1.heap.push (revObj q ((aG.toArray.size:Int)-1))) s1.heap.objs.size q ((aG.toArray.size:Int)-1-((0:Nat):Int)):=⟨_,Y8 _ rfl,rfl,by simp[revObj]⟩;have W:=(Walks.listRev (prog:=X.prog) (w:=X.w) (A:=X.A.in1.in1.in1) (I1.ok.hd hc) s1.heap.objs.size q (Zd lt) aG.toArray).toS;refine GA.ou (T:="list_reverseiterator") (St:=GA.SM s1.heap.objs.size q aG.toArray) (s:={s1 with heap:=s1.heap.push (revObj q ((aG.toArray.size:Int)-1))}) (.inl rfl) W (fun i s st=>st.2.1.typeIs) GA.Ib ⟨Zp _,ri,?_⟩ (fun b hb=>?_) ZH hsz fun s' acc m hi=>fin _ s1.toks aG s' acc rv hz m hi;exact pl.isList.at fun o e=>Y7 _ e;simp only[List.mem_cons,List.not_mem_nil,or_false] at hb;rcases hb with rfl|rfl;exact ZW (Y8 _ rfl);exact Us lt (ZW (Y8 _ rfl))
 |true=>
  obtain⟨aG,rv,tp,hz⟩:=I1.tuple (show dj X.K H1 q xs from sq);have hsz:aG.toArray.size<=sizeLine:=by rw[ZX,<-rv.length];exact hz
  refine RV.make tp hsz fun tk=>PH ?_;have lt:q<s1.heap.objs.size:=by obtain⟨o,e,_⟩:=tp;exact ZW e
  have ri:RV.Is (s1.heap.push (RV.obj q ((aG.toArray.size:Int)-1))) s1.heap.objs.size q ((aG.toArray.size:Int)-1-((0:Nat):Int)):=⟨_,Y8 _ rfl,rfl,by simp[RV.obj]⟩;have W:=(GA.IS (prog:=X.prog) (w:=X.w) (A:=X.A.in1.in1.in1) (I1.ok.hd hc) s1.heap.objs.size q (Zd lt) aG.toArray hsz).toS;refine GA.ou (T:="reversed") (St:=GA.Ru s1.heap.objs.size q aG.toArray) (s:={s1 with heap:=s1.heap.push (RV.obj q ((aG.toArray.size:Int)-1)),toks:=tk}) (.inr rfl) W (fun i s st=>st.2.1.typeIs) (GA.Ic hsz) ⟨Zp _,ri,?_⟩ (fun b hb=>?_) ZH hsz fun s' acc m hi=>fin _ tk aG s' acc rv hz m hi;obtain⟨o,e,r⟩:=tp;exact⟨o,Y7 _ e,r⟩;simp only[List.mem_cons,List.not_mem_nil,or_false] at hb;rcases hb with rfl|rfl;exact ZW (Y8 _ rfl);exact Us lt (ZW (Y8 _ rfl))
theorem JM:IY L (IE L.K) qh:=fun G F H σ ρ x dx d Q g0 rx e k=>by unfold qh at e;cases e1:cq dx with|none=>rw[e1] at e;cases e|some ds=>rw[e1] at e;cases e;obtain⟨t,q,vs,rfl,r,z⟩:=RR.pH rx g0 e1;refine⟨t,q,vs,rfl,z,fun p hp=>?_⟩;have sF:=bg (o:=.tup vs.reverse) (g0.sub.free hp);exact k _ _ _ sF (g0.laid hp) (.tup (dj.of aM) ((aK.reverse r).same sF))
theorem yK(hg:Gl X "reversed")(hm:X.mg "reversed" = none)(zm:Gl X "tuple")(Cd:X.mg "tuple" = none)(ha:PR X EX a fa)(hc:X.calm=true:=by rfl)(hs:starEach [a] X.env=[(false,eval a X.env)]:=by rfl)(jY:starEach [.Call (.Name "reversed" p) [a] [] pos] X.env=[(false,eval (.Call (.Name "reversed" p) [a] [] pos) X.env)]:=by rfl):PV X EX (.Call (.Name "tuple" p') [.Call (.Name "reversed" p) [a] [] pos] [] UR) (m1 qh fa):=
 (Q17 hg hm zm Cd hc (mD ha hs) hs jY).le fun σ H Q bA=>dg bA fun G F F1 H1 bo d1 x s1 g1 r1 o1=>by obtain⟨d,e,q⟩:=o1.opt;exact JM G F1 H1 σ bo x d1 d Q g1 r1 e (eM.same s1 q)
end
namespace GA
section
variable{prog:Program}{w:World}{A:Around}{E:Y5}{s:Shared}{I:Addr}{fp wr:VL}{n:Nat}{P:Nat->Value->Prop}{St:Nat->Heap->Prop}{T:String}
theorem zh(h2:Hx T)(W:WalksS prog w A.in1 I fp wr (fun a b=>b=a) n P (fun i s=>St i s.heap))(hT:∀(i:Nat)(s:Shared),St i s.heap->s.TypeIs (.ref I) T)(hh:Hint prog w A.in1 I St)(S:Addr)(ja:St 0 s.heap)(B6:S∉fp)(hI:I∈fp)
  (hS:s.heap.get? S=some {cls:=.type "list",data:=.seq #[]}) (hn:n<=sizeLine)
  (hR:∀s' acc c,Moved (S::wr) (fun a b=>b=a) s s'->s'.heap.get? S=some {cls:=.type "list",dict:=none,data:=.seq acc c,slots:=#[]}->ItemsOf P acc n->R (.ok (.ret .none)) s') :
  wpAny (model prog w) A.in1 (Builtin.«list.__init__» ⟨[.ref S,.ref I],[]⟩) (fun fin s'=>match fin with|.done f=>R (.ok f) s'|.again c'=>c'.quiet=true/\codeAny (model prog w) A c' R s') (fun e s'=>R (.error e) s') s:=by
 have q2:=Zv (Obj.mapSeq (fun _=>(#[]:Array Value))) hS rfl;have Qi:∀b o,b≠S->s.heap.get? b=some o->(s.heap.update S (Obj.mapSeq (fun _=>(#[]:Array Value)))).get? b=some o:=fun b o hb e=>by rw[Zj _ _ (Zo hb)];exact e
 refine ZS (m:=Builtin.List.listItems (.ref S)) ?_;unfold Builtin.List.listItems;refine ZS (XJ hS rfl (ZT ?_));refine ZS (m:=updateSeq S (fun _=>#[])) (Jl hS rfl (ZS (Aj ?_)));refine extend (s:={s with heap:=s.heap.update S (Obj.mapSeq (fun _=>(#[]:Array Value)))}) h2 W hT hh S .none _ (W.frame 0 s _ s.toks ja (ZU _) fun b hb o e=>Qi b o (fun z=>B6 (z ▸ hb)) e) B6 hI q2 hn fun s' acc c hm JR iE=>hR s' acc c ?_ JR iE;have mv:Moved (S::wr) (fun a b=>b=a) s {s with heap:=s.heap.update S (Obj.mapSeq (fun _=>(#[]:Array Value)))}:=⟨fun b o hb e=>Qi b o (fun z=>hb (by rw[z];exact Z2)) e,rfl,rfl,rfl,ZU _⟩;exact Moved.trans W.gtrans mv hm
theorem qD(h2:Hx T)(W:WalksS prog w A.in1.in1 I fp wr (fun a b=>b=a) n P (fun i s=>St i s.heap))(hT:∀(i:Nat)(s:Shared),St i s.heap->s.TypeIs (.ref I) T)(hh:Hint prog w A.in1.in1 I St)(ja:St 0 s.heap)(zl:∀b∈fp,b<s.heap.objs.size)(hI:I∈fp)(hn:n<=sizeLine)
  (hQ:∀s' acc c,Moved (s.heap.objs.size::wr) (fun a b=>b=a) {s with heap:=s.heap.push {cls:=.type "list",data:=.seq #[]}} s'->s'.heap.get? s.heap.objs.size=some {cls:=.type "list",dict:=none,data:=.seq acc c,slots:=#[]}->ItemsOf P acc n->Q (.ref s.heap.objs.size) s') :
  wpAny (model prog w) A (call (.type "list") [.ref I]) Q E s:=by
 have B6:s.heap.objs.size∉fp:=fun hm=>Nw _ (zl _ hm);have hS:(s.heap.push {cls:=.type "list",data:=.seq #[]}).get? s.heap.objs.size=some {cls:=.type "list",data:=.seq #[]}:=Y8 _ rfl;refine callType_codes (Q₁:=fun obj br=>obj=.ref s.heap.objs.size/\br={s with heap:=s.heap.push {cls:=.type "list",data:=.seq #[]}}) PySem.F.called_list (PySem.F.typeCall_list_1 _) PySem.F.entry_list_init (code_list_new _ ⟨rfl,rfl⟩) fun obj br z=>?_;obtain⟨rfl,rfl⟩:=z;refine⟨⟨_,hS,rfl⟩,PySem.F.args_list_init_2 _ _,?_⟩;exact zh (s:={s with heap:=s.heap.push {cls:=.type "list",data:=.seq #[]}}) h2 W hT hh _ (W.frame 0 s _ s.toks ja (ZU _) fun b _ o e=>Y7 _ e) B6 hI hS hn fun s' acc c hm JR iE=>⟨rfl,hQ s' acc c hm JR iE⟩
end
end GA
section
variable{X:Cx}{EX:XE}{L:Lc}{a:Expr}{fa:M D}{p pos p' UR:Pos}
def QB(K:Frag):NC->Hp->VK->Prop:=fun xs H Q=>∃t q ys,xs=[.ref q]/\kJ K H t q ys/\∀p,H p=none->Q (.ref p) (upd H p (.lst ys.reverse))
theorem FX(hg:Gl X "reversed")(hm:X.mg "reversed" = none)(zm:Gl X "list")(Cd:X.mg "list" = none)(hc:X.calm=true)(ha:PA X [a] t)(hs:starEach [a] X.env=[(false,eval a X.env)]:=by rfl)(jY:starEach [.Call (.Name "reversed" p) [a] [] pos] X.env=[(false,eval (.Call (.Name "reversed" p) [a] [] pos) X.env)]:=by rfl):PE X (.Call (.Name "list" p') [.Call (.Name "reversed" p) [a] [] pos] [] UR) (QR (QB X.K) t):=by
 intro QF s σ H Q I h;refine Pz (eg I zm Cd Rx (Zh ?_ jY rfl));rw[jY];refine ve (Call_ (eg I hg hm boot_reversed (Zh (bK (ha pos QF s σ H _ I h) fun us s1 zz=>?_) hs rfl)));obtain⟨vs,H1,I1,r1,q1⟩:=zz;obtain⟨t,q,xs,e,sq,hR⟩:=q1;subst e;obtain⟨u,rfl,ru⟩:=vals1 r1;cases ru;have fp:i8 X QF H1 s1.heap.objs.size:=I1.oK (ZU _) (I1.b8.fresh (ZU _));have fin:∀(o:Obj)(tk:Nat)(aG:MY)(s':Shared)(acc:Array Value)(c:Nat),Vals xs aG->xs.length<=sizeLine ->
   Moved ((s1.heap.push o).objs.size::[s1.heap.objs.size]) (fun a b=>b=a) {s1 with heap:=(s1.heap.push o).push {cls:=.type "list",data:=.seq #[]},toks:=tk} s'->s'.heap.get? (s1.heap.push o).objs.size=some {cls:=.type "list",dict:=none,data:=.seq acc c,slots:=#[]} ->
   ItemsOf (fun i v=>aG.toArray[aG.toArray.size-1-i]?=some v) acc aG.toArray.size->EP X QF σ Q (.ref (s1.heap.push o).objs.size) s':=fun o tk aG s' acc c rv hz m hl hi=>by
  obtain⟨hp,g,d,XZ,os⟩:=s';obtain⟨m1,m2,m3,m4,m5⟩:=m;simp only at m1 m2 m3 m4 m5 hl;subst m2 m3 m4;have hsz:(s1.heap.push o).objs.size=s1.heap.objs.size+1:=by simp[Heap.push]
  rw[qW hi] at hl;refine⟨.ref (s1.heap.push o).objs.size,_,I1.laid (t':=XZ) (o:=.lst xs.reverse) (fun b ob q=>?_) (by rw[hsz];exact Nu _) ⟨by rw[List.length_reverse];exact hz,_,c,Vals.reverse rv,hl⟩,rfl,hR _ (I1.b8.fresh (by rw[hsz];exact Nu _))⟩;have lt:=ZW q;have n1:b≠(s1.heap.push o).objs.size:=Zd (Z6 lt (by rw[hsz];exact Nu _));have n2:b≠s1.heap.objs.size:=Zd lt;exact m1 b ob (by simp only[List.mem_cons,List.not_mem_nil,or_false,not_or];exact⟨n1,n2⟩) (Y7 _ (Y7 _ q))
 cases t with
 |false=>
  obtain⟨aG,rv,pl,hz⟩:=I1.list (show df X.K H1 q xs from sq);have hsz:aG.toArray.size<=sizeLine:=by rw[ZX,<-rv.length];exact hz
  refine call_reversed_list pl.isList (PH ?_);have lt:q<s1.heap.objs.size:=by obtain⟨o,e,_⟩:=pl.isList;exact ZW e
  have ri:Heap.IsRevIter (s1.heap.push (revObj q ((aG.toArray.size:Int)-1))) s1.heap.objs.size q ((aG.toArray.size:Int)-1-((0:Nat):Int)):=⟨_,Y8 _ rfl,rfl,by simp[revObj]⟩;have W:=(Walks.listRev (prog:=X.prog) (w:=X.w) (A:=X.A.in1.in1) (I1.ok.hd hc) s1.heap.objs.size q (Zd lt) aG.toArray).toS;refine GA.qD (T:="list_reverseiterator") (St:=GA.SM s1.heap.objs.size q aG.toArray) (s:={s1 with heap:=s1.heap.push (revObj q ((aG.toArray.size:Int)-1))}) (.inl rfl) W (fun i s st=>st.2.1.typeIs) GA.Ib ⟨Zp _,ri,?_⟩ (fun b hb=>?_) ZH hsz fun s' acc c m hl hi=>fin _ s1.toks aG s' acc c rv hz m hl hi;exact pl.isList.at fun o e=>Y7 _ e;simp only[List.mem_cons,List.not_mem_nil,or_false] at hb;rcases hb with rfl|rfl;exact ZW (Y8 _ rfl);exact Us lt (ZW (Y8 _ rfl))
 |true=>
  obtain⟨aG,rv,tp,hz⟩:=I1.tuple (show dj X.K H1 q xs from sq);have hsz:aG.toArray.size<=sizeLine:=by rw[ZX,<-rv.length];exact hz
  refine RV.make tp hsz fun tk=>PH ?_;have lt:q<s1.heap.objs.size:=by obtain⟨o,e,_⟩:=tp;exact ZW e
  have ri:RV.Is (s1.heap.push (RV.obj q ((aG.toArray.size:Int)-1))) s1.heap.objs.size q ((aG.toArray.size:Int)-1-((0:Nat):Int)):=⟨_,Y8 _ rfl,rfl,by simp[RV.obj]⟩;have W:=(GA.IS (prog:=X.prog) (w:=X.w) (A:=X.A.in1.in1) (I1.ok.hd hc) s1.heap.objs.size q (Zd lt) aG.toArray hsz).toS;refine GA.qD (T:="reversed") (St:=GA.Ru s1.heap.objs.size q aG.toArray) (s:={s1 with heap:=s1.heap.push (RV.obj q ((aG.toArray.size:Int)-1)),toks:=tk}) (.inr rfl) W (fun i s st=>st.2.1.typeIs) (GA.Ic hsz) ⟨Zp _,ri,?_⟩ (fun b hb=>?_) ZH hsz fun s' acc c m hl hi=>fin _ tk aG s' acc c rv hz m hl hi;obtain⟨o,e,r⟩:=tp;exact⟨o,Y7 _ e,r⟩;simp only[List.mem_cons,List.not_mem_nil,or_false] at hb;rcases hb with rfl|rfl;exact ZW (Y8 _ rfl);exact Us lt (ZW (Y8 _ rfl))
theorem Gf(hg:Gl X "reversed")(hm:X.mg "reversed" = none)(zm:Gl X "list")(Cd:X.mg "list" = none)(ha:PR X EX a fa)(hc:X.calm=true:=by rfl)(hs:starEach [a] X.env=[(false,eval a X.env)]:=by rfl)(jY:starEach [.Call (.Name "reversed" p) [a] [] pos] X.env=[(false,eval (.Call (.Name "reversed" p) [a] [] pos) X.env)]:=by rfl):PF X EX (.Call (.Name "list" p') [.Call (.Name "reversed" p) [a] [] pos] [] UR) (m1 DC fa):=
 (FX hg hm zm Cd hc (mD ha hs) hs jY).le fun σ H Q bA=>dg bA fun G F F1 H1 bo d1 x s1 g1 r1 o1=>by obtain⟨d,e,q⟩:=o1.opt;unfold DC at e;cases e1:cq d1 with|none=>rw[e1] at e;cases e|some ds=>rw[e1] at e;cases e;obtain⟨t,b,vs,rfl,r,z⟩:=RR.pH r1 g1 e1;refine⟨t,b,vs,rfl,z,fun p hp=>?_⟩;have ob:eG (lc X EX).K (lc X EX).mg F1 (upd H1 p (.lst vs.reverse)) p (.lst ds.reverse):=⟨_,aM,aK.reverse r⟩;exact q F1 _ _ s1 (g1.made hp) ⟨p,rfl,g1.loose hp ob⟩
def GG(K:Frag)(al:Bool):NC->Hp->VK->Prop:=fun xs H Q=>∃(q:Addr)(bs:N0),xs=[.ref q]/\df K H q (bs.map V.bl)/\Q (.bl (if al then bs.all id else bs.any id)) H
theorem qA:∀{bs:N0}{us:MY},Vals (bs.map V.bl) us->us=bs.map Value.bool|[],_,h=>by cases h;rfl|b::bs,_,h=>by cases h with|cons h1 h2=>rw[qA h2,ZZ];cases (show _=Value.bool b from h1);rfl
theorem range_all(bs:N0):(List.range bs.length).all (fun i=>bs.getD i false)=bs.all id/\(List.range bs.length).any (fun i=>bs.getD i false)=bs.any id:=by
 have e:(List.range bs.length).map (fun i=>bs.getD i false)=bs:=by apply vz;simp;intro i h1 h2;simp[h2]
 refine⟨?_,?_⟩;rw[show bs.all id=((List.range bs.length).map fun i=>bs.getD i false).all id by rw[e],List.all_map];rfl;rw[show bs.any id=((List.range bs.length).map fun i=>bs.getD i false).any id by rw[e],List.any_map];rfl
theorem qB(hc:X.calm=true)(al:Bool):dO X (.builtin (if al then "all" else "any")) (GG X.K al):=by
 intro QF s σ H xs us Q I r h;obtain⟨q,bs,rfl,hq,k⟩:=h;obtain⟨u,rfl,ru⟩:=vals1 r;cases ru;obtain⟨aG,rv,pl,hz⟩:=I.list hq;have e:=qA rv;subst e;have lt:q<s.heap.objs.size:=by obtain⟨o,e,_⟩:=pl.isList;exact ZW e
 have hh:X.A.in1.handled=none:=I.ok.hd hc;have W:=Walks.list (prog:=X.prog) (w:=X.w) (A:=X.A.in1) hh s.heap.objs.size q (Zd lt) (bs.map Value.bool).toArray;have st:(fun i (h:Heap)=>h.IsListIter s.heap.objs.size q i/\h.IsList q (bs.map Value.bool).toArray) 0 (s.heap.push {cls:=.type "list_iterator",data:=.fields #[.ref q,.int 0 0]}):=⟨⟨_,Y8 _ rfl,rfl,rfl⟩,pl.isList.push _⟩;have tr:TruthOf X.prog X.w X.A.in1 (fun i v=>(bs.map Value.bool).toArray[i]?=some v) (fun i=>bs.getD i false):=fun i v s Q E hP hQ=>by
  have Nh:bs[i]?.map Value.bool=some v:=by simpa using hP
  cases e:bs[i]? with
  |none=>rw[e] at Nh;cases Nh|some b=>
   rw[e] at Nh;cases Nh;have:bs.getD i false=b:=by simp[e]
   dsimp only at hQ;rw[this] at hQ;exact RJ hQ
 have kp:∀(h':Heap),(∀b o,b∉[s.heap.objs.size]->(s.heap.push {cls:=.type "list_iterator",data:=.fields #[.ref q,.int 0 0]}).get? b=some o->h'.get? b=some o)->∀b o,s.heap.get? b=some o->h'.get? b=some o:=fun h' hk b o e=>by have lt:=ZW e;have n1:b≠s.heap.objs.size:=Zd lt;exact hk b o (by simp[n1]) (Y7 _ e)
 have hsz:(bs.map Value.bool).toArray.size=bs.length:=ZH;cases al with|true=>refine call_all_walk (RK pl.isList ⟨_,_,_,_,_,_,_,rfl,W,st,tr,fun h' tk hk=>?_⟩);rw[hsz,(range_all bs).1];exact⟨.bl _,H,I.kept (kp h' hk),rfl,k⟩|false=>refine call_any_walk (RK pl.isList ⟨_,_,_,_,_,_,_,rfl,W,st,tr,fun h' tk hk=>?_⟩);rw[hsz,(range_all bs).2];exact⟨.bl _,H,I.kept (kp h' hk),rfl,k⟩
theorem Bq{K:Frag}{mg:MG}{F:Hp}:∀{vs:NC}{ds:Sg}{bs:N0},aK K mg F vs ds->iq ds=some bs->vs=bs.map V.bl
|_,_,_,.nil,e=>by cases e;rfl|_,_,_,.cons (d:=d) h t,e=>by
 cases d with
 |bl b=>obtain rfl:=Den.b h;simp only[iq] at e;cases q:iq _ with|none=>rw[q] at e;cases e|some bs=>rw[q] at e;cases e;rw[Bq t q];rfl
 |_=>cases e
theorem oN(al:Bool):IY L (GG L.K al) (nB al):=fun G F H σ ρ x dx d Q g0 rx e k=>by
 cases dx with
 |lst ds=>
  simp only[nB] at e;cases e2:iq ds with
  |none=>rw[e2] at e;cases e|some bs=>
   rw[e2] at e;cases e;obtain⟨q,vs,rfl,r,z⟩:=RR.seq rx g0 rfl;rcases z with ⟨_,z⟩|⟨z,_⟩
   rw[Bq r e2] at z;exact⟨q,bs,rfl,z,k F H _ (aL.refl _) g0 (.bl _)⟩;cases z
 |_=>cases e
theorem lQ(hc:X.calm=true):dO X (.builtin "all") (GG X.K true):=qB hc true
theorem qC(hc:X.calm=true):dO X (.builtin "any") (GG X.K false):=qB hc false
theorem boot_all:bootBuiltins "all" = some (.builtin "all"):=by kernel_rfl
theorem boot_any:bootBuiltins "any" = some (.builtin "any"):=by kernel_rfl
theorem wI(g:L.Good G F H σ ρ)(r:Den L.K L.mg F v x)(o:Out (fD k (setAt kd x) ρ) P E) : ∃l vs i j bO,kd=.int i/\σ[k]?=some (some (V.ref l))/\H l=some (.lst vs)/\Kf vs.length i=some j/\L.Good G F (upd H l (.lst (vs.set j v))) σ bO/\P () bO:=by
 unfold fD at o;cases q:own ρ[k]? with
 |none=>rw[q] at o;exact o.elim|some d=>
  rw[q] at o;dsimp only at o;cases q2:setAt kd x d with
  |none=>rw[q2] at o;exact o.elim|some d'=>
   rw[q2] at o;have o':P () (cE k d' ρ):=o;cases d with
   |lst ds=>
    cases kd with
    |int i=>
     simp only[setAt] at q2;cases q4:E4 ds.length i with
     |none=>rw[q4] at q2;cases q2|some j=>
      rw[q4] at q2;cases q2;cases q3:ρ[k]? with
      |none=>rw[q3] at q;cases q|some s=>
       rw[q3] at q;have sl:=g.slot k s q3;have fin:∀l s',σ[k]?=some (some (V.ref l))->cj s=true->eG L.K L.mg F H l (.lst ds)->((∃e,s=.ow e/\s'=.ow (.lst (ds.set j x)))\/(∃e,s=.io e/\s'=.io (.lst (ds.set j x))))->cE k (.lst (ds.set j x)) ρ=ρ.set k s'->∃l vs i' j bO,D.int i=.int i'/\σ[k]?=some (some (V.ref l))/\H l=some (.lst vs)/\Kf vs.length i'=some j/\L.Good G F (upd H l (.lst (vs.set j v))) σ bO/\P () bO:=fun l s' z1 z2 z3 z4 z5=>by obtain⟨vs,y1,y2⟩:=z3;refine⟨l,vs,i,j,_,rfl,z1,y1,by rw[y2.length];exact q4,Good.write g q3 z2 z1 z4 ⟨_,aM,y2.set j r⟩,?_⟩;rw[<-z5];exact o'
       cases s with|no=>cases q|sh e=>cases q|ow e=>cases q;obtain⟨l,z1,z2,z3,z4⟩:=sl;exact fin l _ (join_some z1) rfl z4 (.inl ⟨_,rfl,rfl⟩) (by unfold cE;rw[q3])|io e=>cases q;obtain⟨l,z1,z2,z3,z4⟩:=sl;exact fin l _ (join_some z1) rfl z4 (.inr ⟨_,rfl,rfl⟩) (by unfold cE;rw[q3])
    |_=>cases q2
   |_=>cases q2
variable{b value:Expr}{fk fv:M D}{x:Str}
theorem gC(i:Nat){p1 p2 p3:Pos}(hk:PV X EX b fk)(hv:PV X EX value fv)(hN:X.N[i]?=some x:=by rfl)(J2:xc X.env.scope x:=by exact ZK)(hd:Y3 x:=by decide)
  (j9:Y4 x:=by decide) (hs:swapsWithSole [.Subscript (.Name x p1) b p2] value p3.line X.env=pure false:=by rfl) (hw:swappedStores [.Subscript (.Name x p1) b p2] value X.env=pure none:=by rfl)
  (h1:(assignEach [.Subscript (.Name x p1) b p2] X.env).map (·.2)=[assign (.Subscript (.Name x p1) b p2) X.env]:=by rfl)
  (ha:∀v,assign (.Subscript (.Name x p1) b p2) X.env v=(do
   let ov <-holding [v] (eval (.Name x p1) X.env);let iv <-holding [v,ov] (eval b X.env)
   standAt p2
   holding [v,ov,iv] (setItem ov iv v)
   release [v,ov,iv] []):=by exact ZP):mS X EX (.Assign [.Subscript (.Name x p1) b p2] value p3) (gy i fk fv):=
 (Me hv (L9 (gQ hN J2 hd j9) hk set_list ha) hs hw h1).le fun E σ H bA=>vW bA fun G F ρ g0 o=>aV g0 o (fun x r q=>q.x) fun F1 H1 bo d1 v s1 g1 r1 o1=>by by_cases hl:isLst (own bo[i]?)=true;rw[ZY hl] at o1;obtain⟨l,vs,z1,z2⟩:=isLst_slot (L:=lc X EX) g1 hl;refine⟨_,z1,aV g1 o1 (fun x r q=>(q.same s1).x) fun F2 H2 mR d2 y s2 g2 r2 o2=>?_⟩;obtain⟨l',vd,k,j,bO,y0,y1,y2,y3,g3,q⟩:=wI (L:=lc X EX) g2 (r1.same s2) (Out.YV o2);rw[z1] at y1;cases y1;subst y0;obtain rfl:=Den.i r2;exact⟨l,vd,k,j,rfl,rfl,y2,y3,q F2 _ σ (s1.trans s2) g3⟩;rw[Za hl] at o1;exact o1.elim
end
section
variable{X:Cx}{EX:XE}{L:Lc}{e a b c:Expr}{fa fb fc fe:M D}{pos:Pos}{x:Str}
theorem iR.Of:∀{ds:Sg}{us:MY},Paired iR ds us->∃vs:NC,Vals vs us/\∀(K:Frag)(mg:MG)(F:Hp),aK K mg F vs ds|_,_,.nil=>⟨[],.nil,fun _ _ _=>.nil⟩|_,_,.cons h t=>by obtain⟨v,r,d⟩:=h.den;obtain⟨vs,rs,es⟩:=iR.Of t;exact⟨v::vs,.cons r rs,fun K mg F=>.cons (d K mg F) (es K mg F)⟩
def rG(K:Frag)(d:D)(v:Value):Prop:=iR d v\/∃(ds:Sg)(q:Addr)(aG:Array Value)(n:Nat),d=.tup ds/\v=.ref q/\K.lookup q=some ⟨.type "tuple",none,.seq aG n,#[]⟩/\aG.size<=sizeLine/\Paired iR ds aG.toList
theorem rG.den{K:Frag}{d:D}{v:Value}(h:rG K d v):∃u:V,RelV u v/\∀(mg:MG)(F:Hp),Den K mg F u d:=by rcases h with h|⟨ds,q,aG,n,rfl,rfl,hl,hz,hp⟩;obtain⟨u,r,d⟩:=h.den;exact⟨u,r,fun mg F=>d K mg F⟩;obtain⟨vs,rs,es⟩:=iR.Of hp;exact⟨.ref q,rfl,fun mg F=>.tup (.inr ⟨_,aG,n,hl,rfl,rfl,hz,rs,rfl⟩) (es K mg F)⟩
theorem Q2A{K:Frag}{ds:Sg}{q:Addr}{aG:Array Value}{n:Nat}(hl:K.lookup q=some ⟨.type "tuple",none,.seq aG n,#[]⟩)(hz:aG.size<=sizeLine)(hp:Paired iR ds aG.toList):rG K (.tup ds) (.ref q):=.inr ⟨ds,q,aG,n,rfl,rfl,hl,hz,hp⟩
structure El(w:World)(K:Frag)(mg:MG)(x:Str)(t:List (Str×D))(ab:R5):Prop where
 ex:∃(q:Addr)(es:Array DictEntry)(n:Nat),mg x=some (.ref q)/\(q == sysModules)=false/\K.lookup q=some ⟨.type "dict",none,.dict es n,#[]⟩/\W.KeysLit w.params es.toList/\(∀k d,t.lookup k=some d->∃v,W.nsIn K q k=some (some v)/\rG K d v)/\∀k∈ab,W.nsIn K q k=some none
theorem Q0H{K:Frag}{q:Addr}{t:List (Str×D)}(h:∀p∈t,∃v,W.nsIn K q p.1=some (some v)/\rG K p.2 v):∀k d,t.lookup k=some d->∃v,W.nsIn K q k=some (some v)/\rG K d v:=fun k d e=>h (k,d) (Zn e)
theorem sR{t:List (Str×D)}{ab:R5}{p:Pos}(T:El X.w X.K X.mg x t ab)(hg:Gl X x)(hb:PV X EX b fb)(i9:Y3 x:=by decide)
  (hs:∀(q:Addr)(k:Str)(tk:Tok),subscripted b false (.ref q) (.str k tk)=operate [.ref q,.str k tk] (getItem (.ref q) (.str k tk)):=by intro _ _ _;with_unfolding_all rfl) :
  PV X EX (.Subscript (.Name x p) b pos) (m1 (DO t) fb):=by
 intro QF s σ H Q I h;obtain⟨G,F,ρ,g0,o⟩:=h;obtain⟨q,es,n,hm,_,hl,hk,hv,_⟩:=T.ex;refine Subscript_ (k7 I hg hm ?_ i9);refine bK (hb QF s σ H _ I (aV g0 o (fun x r q=>q) fun F1 H1 bo d1 y s1 g1 r1 o1=>(⟨F1,bo,d1,s1,g1,r1,o1⟩:∃F1 bo d1,aL F F1/\(lc X EX).Good G F1 H1 σ bo/\Den X.K X.mg F1 y d1/\Out (opt (DO t d1) bo) (eM (lc X EX) (RV (lc X EX)) G F σ Q) (cY (lc X EX) G F σ)))) fun u s2 zz=>?_;obtain⟨y,H2,I2,r2,F1,bo,d1,s1,g1,den,o1⟩:=zz;obtain⟨d,e1,q1⟩:=o1.opt;cases d1 with|str k=>obtain rfl:=Den.s den;obtain⟨tk,rfl⟩:=r2;obtain⟨v,hn,fl⟩:=hv k d e1;obtain⟨u2,ru,SY⟩:=fl.den;have RT:=W.mapOf_K (prog:=X.prog) (w:=X.w) I2.qe hl hk;refine PyProof.Rows.tail_any RT.typeIs slot_dict_getitem.lookup (wpAny_getItem_of (strKind_is X.prog X.w k tk) RT (W.find_K hl hn) ?_) (hs q k tk);exact⟨u2,H2,I2.tok _,ru,q1 F1 H2 u2 s1 g1 (SY _ F1)⟩|_=>cases e1
def Dx(w:World)(K:Frag)(neg:Bool):R2:=fun x y H Q=>∃(k:Str)(q:Addr)(es:Array DictEntry)(n:Nat)(r:Pj),x=.str k/\y=.ref q/\(q == sysModules)=false/\K.lookup q=some ⟨.type "dict",none,.dict es n,#[]⟩/\W.KeysLit w.params es.toList/\W.nsIn K q k=some r/\Q (.bl (if neg then !r.isSome else r.isSome)) H
theorem C8:fZ X (compareOp .In) (Dx X.w X.K false):=by intro QF s σ H x y v u Q I rx ry h;obtain⟨k,q,es,n,r,rfl,rfl,lo,hl,hk,hn,hq⟩:=h;obtain⟨tk,rfl⟩:=rx;cases ry;have RT:=W.mapOf_K (prog:=X.prog) (w:=X.w) I.qe hl hk;refine wpAny_in_of (strKind_is X.prog X.w k tk) lo RT ?_;rw[W.find_K hl hn];exact⟨.bl _,H,I.tok _,rfl,hq⟩
theorem Cm(lo:(q == sysModules)=false)(hl:X.K.lookup q=some ⟨.type "dict",none,.dict es n,#[]⟩)(hk:W.KeysLit X.w.params es.toList)
  (hv:∀k d,t.lookup k=some d->∃v,W.nsIn X.K q k=some (some v)/\rG X.K d v) (OC:∀k∈ab,W.nsIn X.K q k=some none) (σ:St) (H:Hp) (Q:VK)
  (h:lift (lc X EX) (RV (lc X EX)) (m1 (sZ neg t ab) fa) σ H Q):NB (Dx X.w X.K neg) (lift (lc X EX) (RV (lc X EX)) fa) (tC (.ref q)) σ H Q:=by
 obtain⟨G,F,ρ,g0,o⟩:=h;refine aV g0 o (fun x r q=>q) fun F1 H1 bo d1 x s1 g1 r1 o1=>?_;obtain⟨d,e1,q1⟩:=o1.opt;cases d1 with
  |str k=>obtain rfl:=Den.s r1;simp only[sZ] at e1;cases e2:t.lookup k with|some d2=>rw[e2] at e1;cases e1;obtain⟨v,hn,_⟩:=hv k d2 e2;exact⟨k,q,es,n,some v,rfl,rfl,lo,hl,hk,hn,by cases neg<;>exact q1 F1 H1 _ s1 g1 (.bl _)⟩|none=>rw[e2] at e1;dsimp only at e1;split at e1;rename_i hm;cases e1;exact⟨k,q,es,n,none,rfl,rfl,lo,hl,hk,OC k (by simpa using hm),by cases neg<;>exact q1 F1 H1 _ s1 g1 (.bl _)⟩;cases e1
  |_=>cases e1
theorem IK{e:Expr}{f:M D}{t:TE}{tt:TT}(hp:PT X e tt)(k:∀σ H Q,t σ H (fun v H1=>∃b,v=.bl b/\Q b H1)->tt σ H Q)(hl:∀σ H Q,lift (lc X EX) (RV (lc X EX)) f σ H Q->t σ H Q):PB X EX e (tB f):=hp.le fun σ H Q bA=>lf bA fun G F ρ g0 o=>k σ H Q (hl σ H _ (aV g0 o (fun x r q=>q) fun F1 H1 bo d1 x s1 g1 r1 o1=>by cases d1 with|bl k=>obtain rfl:=Den.b r1;exact⟨k,rfl,o1 F1 H1 k s1 g1 rfl⟩|_=>exact o1.elim))
theorem Dd(T:El X.w X.K X.mg x t ab)(hg:Gl X x)(ha:PV X EX a fa)(hm:behindInMarks .In (.Name x p)=false)(i9:Y3 x:=by decide):PB X EX (.Compare a [.In] [.Name x p] pos) (tB (m1 (sZ false t ab) fa)):=by obtain⟨q,es,n,h1,lo,hl,hk,hv,OC⟩:=T.ex;exact IK (yJ C8 ha (jQ (v:=.ref q) hg h1 rfl i9) hm) (fun _ _ _ h=>h) (Cm lo hl hk hv OC)
theorem ui{K:Frag}{mg:MG}{F:Hp}{v:V}{d:D}(r:Den K mg F v d)(f:jl d=true):j5 v=true:=by cases r<;>first|rfl|cases f
theorem EE{K:Frag}{mg:MG}{F:Hp}{v w:V}{d e:D}(r:Den K mg F v d)(q:Den K mg F w e)(f:jl d=true)(f2:jl e=true):ED v w=eqB d e:=by cases r<;>first|(cases f;done)|(cases q<;>first|(cases f2;done)|rfl)
theorem yo{K:Frag}{mg:MG}{F:Hp}{v:V}{d:D}(r:Den K mg F v d)(f:jl d=true):∀{vs:NC}{ds:Sg},aK K mg F vs ds->ds.all jl=true->vs.all j5=true/\R1 v vs=ds.any fun y=>eqB y d|_,_,.nil,_=>⟨rfl,rfl⟩|_,_,.cons h t,fs=>by rw[CR,Zb] at fs;obtain⟨i1,i2⟩:=yo r f t fs.2;refine⟨?_,?_⟩;rw[CR,ui h fs.1,i1];rfl;unfold R1 at i2 ⊢;rw[M1,M1,i2,EE h r fs.1 f]
theorem zi(neg:Bool):ki L (V0 L.K neg) (inD neg):=fun G F H σ ρ x y dx dy d Q g0 rx ry e k=>by unfold inD at e;cases e1:cq dy with|none=>rw[e1] at e;cases e|some ds=>rw[e1] at e;dsimp only at e;split at e;rename_i hf;rw[Zb] at hf;cases e;obtain⟨t,q,vs,rfl,hq,r⟩:=Den.seq ry e1;obtain⟨i1,i2⟩:=yo rx hf.1 r hf.2;refine⟨q,vs,rfl,?_,ui rx hf.1,i1,?_⟩;have:=kJ.same hq g0.sub;cases t;exact .inl this;exact .inr this;rw[i2];exact k F H _ (aL.refl _) g0 (.bl _);cases e
end
section
variable{K:Frag}{mg:MG}{G:Fx}{F H:Hp}{σ:St}{ρ:aQ}
theorem Good.snoc(g:Good K mg G F H σ ρ)(x:Loose K mg G F H σ ρ l d):Good K mg G F H (σ++[some (V.ref l)]) (ρ++[.ow d]):=by
 have low:∀{i:Nat}{s:Sl},(ρ++[Sl.ow d])[i]?=some s->(i<ρ.length/\ρ[i]?=some s/\(σ++[some (V.ref l)])[i]?=σ[i]?)\/(i=ρ.length/\s=.ow d/\(σ++[some (V.ref l)])[i]?=some (some (V.ref l))):=fun {i s} h=>by
  by_cases hi:i<ρ.length;rw[Z7 hi] at h;exact .inl ⟨hi,h,Z7 (by rw[g.len];exact hi)⟩;rw[Zc ZG] at h;have:i=ρ.length:=by
   by_cases z:i-ρ.length=0
   lia
   rw[Z9 (by simp;lia)] at h;cases h
  subst this;simp at h;refine .inr ⟨rfl,h.symm,?_⟩;rw[Zc (by rw[g.len];exact ZU _),g.len];simp
 exact {
  sF:=g.sF
  sub:=g.sub
  old:=g.old
  new:=g.new
  len:=by simp[g.len]
  slot:=fun i s h=>by
   rcases low h with ⟨_,h1,h2⟩|⟨_,rfl,h2⟩
   rw[h2];exact g.slot i s h1;rw[h2];exact⟨l,rfl,x.nF,x.n0,x.ob⟩
  apart:=fun i j m s t h1 h2 o1 o2 e1 e2=>by
   rcases low h1 with ⟨_,a1,a2⟩|⟨a0,rfl,a2⟩
   rw[a2] at e1;rcases low h2 with ⟨_,b1,b2⟩|⟨b0,rfl,b2⟩
   rw[b2] at e2;exact g.apart i j m s t a1 b1 o1 o2 e1 e2;rw[b2] at e2;cases e2;exact absurd e1 (x.ns i s a1 o1);rw[a2] at e1;cases e1;rcases low h2 with ⟨_,b1,b2⟩|⟨b0,rfl,b2⟩
   rw[b2] at e2;exact absurd e2 (x.ns j t b1 o2)
   lia
  m9:=g.m9
  nH:=g.nH}
theorem Good.MZ(g:Good K mg G F H (σ++[some (V.ref l)]) bO)(hd:bO[σ.length]?=some (.ow d)):Good K mg G F H σ (bO.take σ.length)/\Loose K mg G F H σ (bO.take σ.length) l d:=by
 have g2:=g.take σ.length;rw[List.take_left] at g2;have at_:(σ++[some (V.ref l)])[σ.length]?=some (some (V.ref l)):=ZH;obtain⟨m,h1,h2,h3,h4⟩:=g.slot _ _ hd;rw[at_] at h1;cases h1;refine⟨g2,h2,h3,h4,fun i s h o e=>?_⟩;have hi:i<σ.length:=by
  have:=(List.getElem?_eq_some_iff.mp h).1;simp at this
  lia
 rw[Zu hi] at h;have:=g.apart i σ.length l s _ h hd o rfl (by rw[Z7 hi];exact e) at_
 lia
theorem lM.more:∀{vs:NC}{as:List AV},lM L F σ vs as->lM L F (σ++t) vs as|_,_,.nil=>.nil|_,_,.cons (a:=a) h r=>by refine .cons ?_ (lM.more r);cases a with|val d=>exact h|io j=>have hj:j<σ.length:=(List.getElem?_eq_some_iff.mp (show σ[j]?=_ from h)).1;show (σ++t)[j]?=_;rw[Z7 hj];exact h
end
section
variable{X:Cx}{EX:XE}{L:Lc}{e a b o value:Expr}{es:Rz}{fa fe fo:M D}{as:List VP.Arg}{pos p UP:Pos}{x c m:Str}
variable{CX:vf}{k:Nat}{fA C:Addr}{fd:FuncData}{ps:R5}{fl:N0}{fs:Fn}{cs:R5}{f:Str}
def IZ(K:Frag)(mg:MG)(cs:R5)(f:Str):Prop:=∀c∈cs,∃C,mg c=some (.ref C)/\yU K C/\ij K C f
theorem kz{K:Frag}{mg:MG}{F:Hp}{f:Str}{d:D}:∀{fs:List (Str×V)}{ds:Sg},aK K mg F (fs.map (·.2)) ds->((fs.map (·.1)).zip ds).lookup f=some d->∃v,fs.lookup f=some v/\Den K mg F v d|[],_,.nil,h=>by cases h| (n,v)::fs,_,.cons h t,q=>by simp only[List.map_cons,List.zip_cons_cons,List.lookup_cons] at q ⊢;split at q;cases q;exact⟨v,rfl,h⟩;exact kz t q
theorem aW(T:IZ X.K X.mg cs f)(ha:PR X EX e fe)(hb:attributeBase e f X.env (eval e X.env)=eval e X.env:=by rfl):PV X EX (.Attribute e f pos) (m1 (aZ cs f) fe):=(L0 ha hb).le fun σ H Q bA=>dg bA fun G F F1 H1 bo d1 y s1 g1 r1 o1=>by
 obtain⟨d,e1,q⟩:=o1.opt;cases d1 with
 |ins c ns vs=>
  simp only[aZ] at e1;split at e1;rename_i hc;obtain⟨C,hm,hC,hn⟩:=T c (by simpa using hc);rcases r1 with r1|⟨l,rfl,C',dx,fs,h1,h2,rfl,h4⟩;cases r1 with|ins h qd r=>obtain⟨v,lv,dv⟩:=kz r e1;rw[show (lc X EX).mg c=some (.ref C) from hm] at qd;cases qd;exact⟨_,C,_,_,v,rfl,g1.sub _ _ h,hC,hn,lv,q F1 H1 v s1 g1 dv⟩
  obtain⟨v,lv,dv⟩:=kz h4 e1;rw[show (lc X EX).mg c=some (.ref C) from hm] at h2;cases h2;exact⟨_,C,_,_,v,rfl,h1,hC,hn,lv,q F1 H1 v s1 g1 dv⟩;cases e1
 |_=>cases e1
theorem uO{K:Frag}{mg:MG}{F:Hp}{f:Str}{v:V}{d:D}(h:Den K mg F v d):∀{fs:List (Str×V)}{ds:Sg},aK K mg F (fs.map (·.2)) ds->(gF f v fs).map (·.1)=(jv f d (fs.map (·.1)) ds).1/\aK K mg F ((gF f v fs).map (·.2)) (jv f d (fs.map (·.1)) ds).2|[],_,.nil=>⟨rfl,.cons h .nil⟩| (n,w)::fs,_,.cons q t=>by obtain⟨i1,i2⟩:=uO (f:=f) h t;simp only[gF,List.map_cons,jv];split;exact⟨rfl,.cons h t⟩;exact⟨by simp[i1],.cons q i2⟩
theorem aX(i:Nat){UR p':Pos}(T:IZ X.K X.mg cs f)(hv:PV X EX value fe)(hN:X.N[i]?=some x:=by rfl)(J2:xc X.env.scope x:=by exact ZK)(hd:Y3 x:=by decide)(j9:Y4 x:=by decide) (hs:swapsWith value (some (.Attribute (.Name x p') f UR)) pos.line X.env=pure false:=by rfl):mS X EX (.Assign [.Attribute (.Name x p') f UR] value pos) (bp i cs f fe):=
 (Mf (gQ hN J2 hd j9) hv hs).le fun E σ H bA=>vW bA fun G F ρ g0 o=>aV g0 o (fun x r q=>q.x) fun F1 H1 bo d1 v s1 g1 r1 o1=>by
  have o2:=o1.YV;unfold fD at o2;cases q:bo[i]? with
  |none=>rw[q] at o2;exact o2.elim|some sl=>
   rw[q] at o2;have go:∀(d:D)(l:Addr),own (some sl)=some d->σ[i]?=some (some (V.ref l))->eG X.K X.mg F1 H1 l d->cj sl=true->∃Wa,σ[i]?=some (some Wa)/\∃a C dx fs,Wa=V.ref a/\H1 a=some (HO.ins C dx fs)/\yU X.K C/\ij X.K C f/\fs.length<1000/\E.nx σ (upd H1 a (HO.ins C dx (gF f v fs))):=fun d l e1 e2 ob ow=>by
    rw[e1] at o2;dsimp only at o2;cases e3:DJ cs f d1 d with
    |none=>rw[e3] at o2;exact o2.elim|some d'=>
     rw[e3] at o2;cases d with
     |ins c ns vs=>
      simp only[DJ] at e3;split at e3;rename_i hc;rw[Zb] at hc;cases e3;obtain⟨C,dx,fs,h1,h2,rfl,h4⟩:=ob;obtain⟨C',hm,hC,hn⟩:=T c (by simpa using hc.1);rw[hm] at h2;cases h2;obtain⟨p1,p2⟩:=uO (f:=f) r1 h4;refine⟨_,e2,l,C,dx,fs,rfl,h1,hC,hn,by simpa using Zx hc.2,?_⟩;have VY:eG X.K X.mg F1 (upd H1 l (HO.ins C dx (gF f v fs))) l (.ins c (jv f d1 (fs.map (·.1)) vs).1 (jv f d1 (fs.map (·.1)) vs).2):=⟨C,dx,_,aM,hm,p1,p2⟩;have g2:(lc X EX).Good G F1 (upd H1 l (HO.ins C dx (gF f v fs))) σ (cE i (.ins c (jv f d1 (fs.map (·.1)) vs).1 (jv f d1 (fs.map (·.1)) vs).2) bo):=by unfold cE;rw[q];cases sl with|ow z=>exact Good.write g1 q rfl e2 (.inl ⟨z,rfl,rfl⟩) VY|io z=>exact Good.write g1 q rfl e2 (.inr ⟨z,rfl,rfl⟩) VY|_=>cases ow
      exact o2 F1 _ σ s1 g2;cases e3
     |_=>cases e3
   have k:=g1.slot i sl q;cases sl with|no=>exact o2.elim|sh d=>exact o2.elim|ow d=>obtain⟨l,z1,z2,z3,z4⟩:=k;exact go d l rfl (join_some z1) z4 rfl|io d=>obtain⟨l,z1,z2,z3,z4⟩:=k;exact go d l rfl (join_some z1) z4 rfl
theorem xi{K:Frag}{mg:MG}{EX Wd:XE}{F:Hp}{σ:St}:∀{vs:NC}{as:List AV},lM ⟨K,mg,EX⟩ F σ vs as->lM ⟨K,mg,Wd⟩ F σ vs as|_,_,.nil=>.nil|_,_,.cons (a:=a) h r=>.cons (by cases a<;>exact h) (xi r)
theorem lookup_none:∀{fs:List (Str×V)},(fs.map (·.1)).contains m=false->fs.lookup m=none|[],_=>rfl| (n,v)::fs,h=>by simp only[List.map_cons,List.contains_cons,Bool.or_eq_false_iff] at h;rw[List.lookup_cons,h.1];exact lookup_none h.2
theorem GD{pl:Sem Bool}(Tn:X.mg c=some (.ref C))(cl:yU X.K C)(hm:Meth X.K C m fA)(F:dP X.prog X.w X.K X.mg X.base CX k fA fd ps (nM X.K X.mg (false::fl) fs))(hr:cA k X.A)(hb:Binds X.K fd ps [])(hx:fg CX X EX)
  (ho:PV X EX o fo) (ha:w5 X EX (e::es) as) (uo:as.map VP.Arg.isIo=fl:=by rfl)
  (ja:ZC X e es:=by rfl) (jc:ZE X pos es:=by rfl)
  (ht:eval (.Call (.Attribute o m UP) (e::es) [] pos) X.env=(do
   let ov <-eval o X.env
   standAt UP.atName
   let (f,first) <-holding [ov] (getMethod ov m pl)
   callWith pos f first (backTo pos (starEach (e::es) X.env)) (backToKw pos (keywordEach [] X.env))):=by rfl) :
  PV X EX (.Call (.Attribute o m UP) (e::es) [] pos) (ck c m fs fo as):=by
 intro QF s σ H Q I h;obtain⟨G,F0,ρ,g0,oo⟩:=h;refine W.methodCall_KW (pl:=pl) (bK (ho QF s σ H _ I (aV g0 oo (fun x r q=>q) fun F1 H1 bo d1 x s1 g1 r1 o1=>(⟨F1,bo,d1,s1,g1,r1,o1⟩:∃F1 bo d1,aL F0 F1/\(lc X EX).Good G F1 H1 σ bo/\Den X.K X.mg F1 x d1/\Out ((if iZ c m d1 then YV (bL as) fun vs=>nI fs (.val d1::vs) else stuck) bo) (eM (lc X EX) (RV (lc X EX)) G F0 σ Q) (cY (lc X EX) G F0 σ)))) fun u s1 zz=>?_) ht;obtain⟨y,H1,I1,ry,F1,bo,d1,se,g1,r1,o1⟩:=zz;rcases o1.ite with ⟨hi,o2⟩|⟨_,o2⟩
 cases d1 with
 |ins c' ns vs=>
  simp only[iZ,Bool.and_eq_true,Bool.not_eq_true'] at hi;have qd:c'=c:=by simpa using hi.1
  subst qd;cases r1 with
  |ins h yj r=>
   rw[Tn] at yj;cases yj;rename_i a dx Wy;obtain rfl:u=Value.ref a:=ry;refine Q0r I1 (g1.sub _ _ h) cl hm (lookup_none hi.2) ?_;refine EY (first:=[.ref a]) (h₀:=X.base) I.ok.mod.Ko hm.kp (bK (ha pos QF s1 σ H1 (fun ws H2=>nM X.K X.mg (false::fl) fs (.ref a::ws) H2 Q (EX σ)) I1 ⟨G,F1,bo,g1,?_⟩) fun us s2 ⟨ws,H2,I2,r2,q2⟩=>⟨I2.qe,?_⟩) ja jc;unfold VP.YV at o2;cases q:bL as bo with|no=>rw[q] at o2;exact o2.elim|exc xx mR=>rw[q] at o2;exact cY.same se o2|ok av mR=>rw[q] at o2;intro F2 H2 ws s2 g2 r2;have Nz:Den X.K X.mg F2 (.ref a) (.ins c' (Wy.map (·.1)) vs):=Den.same s2 (.ins h Tn r);exact rK (L:=lc X EX) g2 (.cons (show Hs (lc X EX) F2 σ (.ref a) (.val _) from Nz) r2) (by rw[ZZ,dJ q,uo]) o2 (fun x r q=>q.same (se.trans s2)) fun F' H' bO d v s' g' rd P=>P F' H' v (se.trans (s2.trans s')) g' rd
   exact n6 (us:=.ref a::us) (vs:=.ref a::ws) F hr hb hx I2 (.cons rfl r2) q2
 |_=>cases hi
 exact o2.elim
theorem z7{QF:Y6}{σ:St}{H:Hp}{s:Shared}{Q:VK}{us:MY}{vs:NC}{sp:Sp}(M:Mk X.K C fA)(F:dP X.prog X.w X.K X.mg X.base CX k fA fd ps sp)(hr:cA (k+1) X.A)(hb:Binds X.K fd ps [])
  (hx:fg CX X EX) (I:Inv X QF σ H s) (r:Vals vs us)
  (h:∀x dx,H x=none->H dx=none->dx≠x->sp (.ref x::vs) (upd (upd H dx (.own x)) x (.ins C dx [])) (fun v H2=>v=.bz/\Q (.ref x) H2) (EX σ)) :
  wpAny (model X.prog X.w) X.A (call (.ref C) us) (EP X QF σ Q) X.xe s:=by
 have hq:=h (s.heap.objs.size+1) s.heap.objs.size (I.b8.fresh (Nu _)) (I.b8.fresh (ZU _)) (Zd (Di _));have I2:=Inv.made (C:=C) I;have r2:Vals (V.ref (s.heap.objs.size+1)::vs) (Value.ref (s.heap.objs.size+1)::us):=.cons rfl r;have hl:(Value.ref (s.heap.objs.size+1)::us).length=ps.length:=by rw[<-F.len _ _ _ _ hq];exact r2.length.symm
 have OD:=hb _ (Value.ref (s.heap.objs.size+1)::us) I2.qe (by simpa using hl);rw[Fj] at OD;refine wpAny_call (CT (f:=fA) I.qe M.makes M.init (beq_iff_eq.mp M.fn) (Hf (F.run _ X.stack _ _ ⟨Value.ref (s.heap.objs.size+1)::us,[]⟩ (Value.ref (s.heap.objs.size+1)::us) _ _ (EX σ) (hr.make C us []) (I2.Og.make C us []) OD r2 hq) fun r s' J1=>?_));cases r with|error e=>exact hx QF σ _ _ e s' I2 J1|ok fl=>cases fl with|ret u=>obtain⟨v,H',I3,rv,ev,q3⟩:=I2.after J1;subst ev;exact⟨rv,⟨V.ref (s.heap.objs.size+1),H',I3,rfl,q3⟩⟩|next=>exact False.elim J1|brk=>exact False.elim J1|cont=>exact False.elim J1
theorem Ge(M:Mk X.K C fA)(F:dP X.prog X.w X.K X.mg X.base CX k fA fd ps (nM X.K X.mg (true::fl) fs))(hr:cA (k+1) X.A)(hg:Gl X c)(hm:X.mg c=some (.ref C))(hb:Binds X.K fd ps [])(hx:fg CX X EX)
  (ha:w5 X EX (e::es) as) (uo:as.map VP.Arg.isIo=fl:=by rfl) (i9:Y3 c:=by decide) (he:ZC X e es:=by rfl) (jc:ZE X pos es:=by rfl) :
  PF X EX (.Call (.Name c p) (e::es) [] pos) (dM c fs as):=by
 intro QF s σ H Q I h;obtain⟨G,F0,ρ,g0,o⟩:=h;refine Pz (k7 I hg hm ?_ i9);refine EY (h₀:=X.base) I.ok.mod.Ko M.kp (bK (ha pos QF s σ H (fun vs H1=>∀x dx,H1 x=none->H1 dx=none->dx≠x->nM X.K X.mg (true::fl) fs (.ref x::vs) (upd (upd H1 dx (.own x)) x (.ins C dx [])) (fun v H2=>v=.bz/\Q (.ref x) H2) (EX σ)) I ⟨G,F0,ρ,g0,?_⟩) fun us s1 ⟨vs,H1,I1,r,q⟩=>⟨I1.qe,z7 M F hr hb hx I1 r q⟩) he jc;unfold dM VP.YV at o;cases q:bL as ρ with
 |no=>rw[q] at o;exact o.elim|exc xx bo=>rw[q] at o;exact o|ok av bo=>
  rw[q] at o;intro F1 H1 vs s1 g1 r1 x dx Xj Vt zq;have VH:upd H1 dx (.own x) x=none:=by rw[aT (Zo zq)];exact Xj
  have g2:(lc X EX).Good G F1 (upd (upd H1 dx (.own x)) x (.ins C dx [])) σ bo:=(g1.made Vt).made VH;have lo:Loose X.K X.mg G F1 (upd (upd H1 dx (.own x)) x (.ins C dx [])) σ bo x (.ins c [] []):=Good.loose (g1.made Vt) VH ⟨C,dx,[],aM,hm,rfl,.nil⟩;have g3:=Good.snoc g2 lo;have len:σ.length=bo.length:=g1.len;have Wk:Hs (⟨X.K,X.mg,fun _=>EX σ⟩:Lc) F1 (σ++[some (V.ref x)]) (.ref x) (.io bo.length):=by show (σ++[some (V.ref x)])[bo.length]?=_;rw[<-len];simp
  have o':Out (zG c fs av bo) (eM (lc X EX) (RF (lc X EX)) G F0 σ Q) (cY (lc X EX) G F0 σ):=o;have bk:Out (nI fs (.io bo.length::av) (bo++[.ow (.ins c [] [])])) (fun d r'=>d=.bz/\∃d',r'[bo.length]?=some (.ow d')/\eM (lc X EX) (RF (lc X EX)) G F0 σ Q d' (r'.take bo.length)) (fun x r'=>cY (lc X EX) G F0 σ x (r'.take bo.length)):=by
   unfold zG at o';cases e1:nI fs (.io bo.length::av) (bo++[.ow (.ins c [] [])]) with
   |no=>rw[e1] at o';exact o'|exc y r'=>rw[e1] at o';exact o'|ok d r'=>
    rw[e1] at o';cases d with
    |bz=>dsimp only at o';cases e2:r'[bo.length]? with|none=>rw[e2] at o';exact o'.elim|some sl=>rw[e2] at o';cases sl with|ow d'=>exact⟨rfl,d',e2,o'⟩|_=>exact o'.elim
    |_=>exact o'.elim
  refine rK (L:=⟨X.K,X.mg,fun _=>EX σ⟩) (G:=G) (F:=F1) (σ:=σ++[some (V.ref x)]) g3 (.cons Wk (lM.more (L:=⟨X.K,X.mg,fun _=>EX σ⟩) (by exact xi r1))) (by rw[ZZ,dJ q,uo]) bk (fun y r' z F' H' cc dd s' g' xr=>?_) fun F' H' bO d v s' g' rd P=>?_;have gt:=g'.take σ.length;rw[List.take_left,len] at gt;exact z F' H' cc dd (s1.trans s') gt xr;obtain⟨rfl,d',e2,P⟩:=P;obtain rfl:=Den.n rd;rw[<-len] at e2 P;obtain⟨gt,Xy⟩:=Good.MZ g' e2;exact⟨rfl,P F' H' _ (s1.trans s') gt ⟨x,rfl,Xy⟩⟩
end
def SE(K:Frag)(p:Addr):It:=⟨fun i H=>∃xs x,df K H p xs/\xs[i]?=some x,
 fun i H v H'=>∃q x,H q=none/\v=.ref q/\H'=upd H q (.tup [.int i,x])/\∀xs,df K H p xs->xs[i]?=some x,
 fun i H=>∃xs,df K H p xs/\i=xs.length⟩
theorem Af{P:Program}{w:World}{K:Frag}{es:Rz}{k:Nat}{nO:Pos}{p e it:Addr}(n1:p≠it)(n2:e≠it)(n3:e≠p) : Turn P w K (.Tuple es k nO) (SE K p) [e,it] e (fun i h=>(∃old,IsEnum h e it i old)/\h.IsListIter it p i) where
 mem:=ZH
 obj:=fun i h st b hb=>by
  obtain⟨⟨old,he⟩,o,hi,hc,hd⟩:=st;simp only[List.mem_cons,List.not_mem_nil,or_false] at hb;rcases hb with rfl|rfl
  ·exact⟨_,he,fun v q=>by cases q⟩
  ·exact⟨_,hi,fun v q=>by rw[hd] at q;cases q⟩
 keep:=fun i h h' st kk=>by obtain⟨⟨old,he⟩,hi⟩:=st;exact⟨⟨old,kk e ZH _ he⟩,hi.at fun o q=>kk it ZH o q⟩
 item:=by
  intro X hP hw hK hc i QF s σ H E I hf st hg;subst hP hw hK;obtain⟨⟨old,he⟩,hi⟩:=st;obtain⟨xs,x,q1,e1⟩:=hg;obtain⟨aG,rv,pl,_⟩:=I.list q1;obtain⟨u,hu,ru⟩:=rv.get e1;have hh:X.A.handled=none:=I.ok.hd hc;have Ug:i<aG.toArray.size:=by have:=(List.getElem?_eq_some_iff.mp hu).1;simpa using this
  refine wpAny_pyNext_enum_itemD (Draws.list (by exact hh) it p n1 aG.toArray) he ⟨hi,pl.isList⟩ Ug n2 (by simp[n2,n3]) fun x' h' tk px ho nN pr hsz kp=>?_;have ex:x'=u:=by
   have:aG.toArray[i]?=some u:=by simpa using hu
   rw[this] at px;exact(ZV px).symm
  subst ex;refine⟨_,rfl,wpAny_letOwnedTupleGo_enum ho fun JP z2 sb=>?_⟩;replace sb:Heap.SameBut e h' JP:=sb;have G3:e≠s.heap.objs.size:=Zd (ZW he);have T9:∀c o,c∉[e,it]->s.heap.get? c=some o->JP.get? c=some o:=fun c o qd q=>by simp only[List.mem_cons,List.not_mem_nil,or_false,not_or] at qd;exact sb.extBut c o qd.1 (kp c o qd.1 qd.2 q)
  have IX:=Inv.pair (tk:=tk+1) (h':=JP) (x:=.int i) (y:=x) I hf T9 (sb.extBut _ _ (Zo G3) pr) ⟨_,rfl⟩ ru;refine⟨.ref s.heap.objs.size,_,IX,rfl,⟨_,x,I.b8.fresh (ZU _),rfl,rfl,fun X3 Cg=>by rw[I.oX Cg q1];exact e1⟩,⟨⟨_,by simpa using z2⟩,nN.1.at fun o q=>sb.extBut _ o (Zo n2) q⟩,fun b hb=>?_⟩;have Ni:b≠s.heap.objs.size:=by
   simp only[List.mem_cons,List.not_mem_nil,or_false] at hb;rcases hb with rfl|rfl
   ·exact G3
   ·obtain⟨o,q,_⟩:=hi;exact Zd (ZW q)
  rw[aT Ni];exact(hf b hb).1
 done:=by
  intro X hP hw hK hc i QF s σ H E I hf st hg;subst hP hw hK;obtain⟨⟨old,he⟩,hi⟩:=st;obtain⟨xs,q1,B9⟩:=hg;obtain⟨aG,rv,pl,_⟩:=I.list q1;have l1:=rv.length;have hh:X.A.handled=none:=I.ok.hd hc;have ee:i=aG.toArray.size:=by simp;lia
  rw[ee] at he hi;refine wpAny_pyNext_enum_endD (Draws.list (by exact hh) it p n1 aG.toArray) he ⟨hi,pl.isList⟩ fun h' hk=>⟨rfl,Inv.tq (h':=h') I hf fun c o um q=>?_⟩;simp only[List.mem_cons,List.not_mem_nil,or_false,not_or] at um;exact hk c o um.2 q
 self:=fun _ _ _ _ _ st h=>by obtain⟨⟨old,he⟩,_⟩:=st;exact wpAny_pyIter_enum he h
theorem wa(l:Addr)(xs:Array Value)(n:Nat)(sl:Array (Option Value)):Meets (Builtin.«enumerate.__new__» ⟨[.type "enumerate",.ref l],[]⟩) (fun _ R s=>s.heap.get? l=some {cls:=.type "list",dict:=none,data:=.seq xs n,slots:=sl}/\R (.ok (.ret (.ref (s.heap.push {cls:=.type "list_iterator",data:=.fields #[.ref l,.int 0 0]}).objs.size))) {s with heap:=(s.heap.push {cls:=.type "list_iterator",data:=.fields #[.ref l,.int 0 0]}).push {cls:=.type "enumerate",data:=.fields #[.none,.bool false,.ref s.heap.objs.size,rawInt 0,.none,.none]}}):=
 .of_wp fun prog w A R s z=>by
  obtain⟨hp,g,d,tk,os⟩:=s;obtain⟨q1,q2⟩:=z;have z1:=sub_enumerate;have z2:Heap.IsList (Shared.heap ⟨hp,g,d,tk,os⟩) l xs:=⟨_,q1,rfl,n,rfl⟩
  wp_walk using FJ q1
  refine wpAny_stack_any fun st=>ZT ?_;split;rename_i c _ _ _ _ _;cases (c == Value.type "enumerate")<;>(wp_walk using FJ q1,RK z2;exact⟨_,rfl,q2⟩)
  wp_walk using FJ q1,RK z2
  exact⟨_,rfl,q2⟩
section
variable{X:Cx}{EX:XE}{L:Lc}{e a b:Expr}{fa fb fe:M D}{pos p:Pos}{x:Str}
theorem boot_enumerate:bootBuiltins "enumerate" = some (.type "enumerate"):=by kernel_rfl
def O0(K:Frag)(t:TA):TI:=fun σ H R=>t σ H fun vs H1=>∃q,vs=[.ref q]/\(∃xs,df K H1 q xs)/\R (SE K q) H1
theorem Gi{es:Rz}{k:Nat}{nO:Pos}{t:TA}(hg:Gl X "enumerate")(hm:X.mg "enumerate" = none)(ha:PA X [a] t)(hs:starEach [a] X.env=[(false,eval a X.env)]:=by rfl) : PI X (.Tuple es k nO) (.Call (.Name "enumerate" p) [a] [] pos) (O0 X.K t):=by
 intro QF s σ H R I h;refine Call_ (eg I hg hm boot_enumerate (Zh (bK (ha pos QF s σ H _ I h) fun us s1 zz=>?_) hs rfl));obtain⟨vs,H1,I1,r1,q1⟩:=zz;obtain⟨q,e,⟨xs,h1⟩,hR⟩:=q1;subst e;obtain⟨u,rfl,ru⟩:=vals1 r1;cases ru;obtain⟨aG,rv,pl,_⟩:=I1.list h1;obtain⟨⟨c0,d0,Yf,XO⟩,n,hq,Vq,Vs,OI⟩:=pl;simp only at Vq Vs OI;subst Vq Vs OI;have lt:q<s1.heap.objs.size:=ZW hq;refine callType_new PySem.F.called_enumerate (by decide) (PySem.F.typeCall_enumerate_1 _) (PySem.F.newCall_enumerate_1 _) (fun obj=>FY obj _) PySem.F.entry_enumerate_new (wa q aG.toArray n XO) ⟨hq,⟨_,Y8 _ rfl,rfl⟩,?_⟩;have sz:(s1.heap.push {cls:=.type "list_iterator",data:=.fields #[.ref q,.int 0 0]}).objs.size=s1.heap.objs.size+1:=Sh ..;have he:IsEnum ((s1.heap.push {cls:=.type "list_iterator",data:=.fields #[.ref q,.int 0 0]}).push {cls:=.type "enumerate",data:=.fields #[.none,.bool false,.ref s1.heap.objs.size,rawInt 0,.none,.none]}) (s1.heap.objs.size+1) s1.heap.objs.size 0 .none:=by rw[<-sz];exact Y8 _ rfl
 rw[sz];refine wpAny_pyIter_enum he ?_;have IX:Inv X QF σ H1 {s1 with heap:=(s1.heap.push {cls:=.type "list_iterator",data:=.fields #[.ref q,.int 0 0]}).push {cls:=.type "enumerate",data:=.fields #[.none,.bool false,.ref s1.heap.objs.size,rawInt 0,.none,.none]}}:=I1.kept (t':=s1.toks) fun b o e=>Y7 _ (Y7 _ e);refine⟨_,[s1.heap.objs.size+1,s1.heap.objs.size],_,_,H1,rfl,IX,Af (Zd lt) ZH (Ml (PQ lt)),⟨⟨_,he⟩,⟨_,Y7 _ (Y8 _ rfl),rfl,rfl⟩⟩,fun c hc=>?_,hR⟩;have hle:s1.heap.objs.size<=c:=by simp only[List.mem_cons,List.not_mem_nil,or_false] at hc;rcases hc with rfl|rfl;exact LM _ _;exact ZU _
 exact I1.oK hle (I1.b8.fresh hle)
theorem Cr(h1:df L.K F q vs)(r1:aK L.K L.mg F vs ds) : D5 L G F (SE L.K q) (jZ ds):=fun σ i F' H' ρ s g=>by
 have q1:df L.K H' q vs:=df.same (df.same h1 s) g.sub;have l1:=r1.length;have le:(jZ ds).length=ds.length:=by simp[jZ]
 refine⟨fun hi=>?_,fun hi=>?_,fun x D4 y=>?_⟩;exact⟨vs,vs[i]' ZG,q1,by simp[show i<vs.length by lia]⟩;exact⟨vs,q1,ZG⟩;obtain⟨b,u,hq,rfl,rfl,y1⟩:=y;have sF:=bg (o:=.tup [.int i,u]) (g.sub.free hq);refine⟨_,sF,g.laid hq,fun d hd=>?_⟩;unfold jZ at hd;rw[List.getElem?_zipWith] at hd;cases e1:ds[i]? with|none=>rw[e1] at hd;cases e2:(List.range ds.length)[i]?<;>rw[e2] at hd<;>cases hd|some d1=>have hi:i<ds.length:=(List.getElem?_eq_some_iff.mp e1).1;rw[e1,uD hi] at hd;cases hd;obtain⟨u',a1,a2⟩:=(r1.same s).get e1;rw[y1 vs q1] at a1;cases a1;exact .tup (dj.of aM) (.cons (.int i) (.cons (a2.same sF) .nil))
theorem lF{es:Rz}{k:Nat}{nO:Pos}{fl:List (M D)}(hg:Gl X "enumerate")(hm:X.mg "enumerate" = none)(ha:yW X EX [a] (mL fl))(hs:starEach [a] X.env=[(false,eval a X.env)]:=by rfl) : tw X EX (.Tuple es k nO) (.Call (.Name "enumerate" p) [a] [] pos) (nj fl):=
 (Gi hg hm ha hs).le fun σ H Q bA=>dg bA fun G F F1 H1 bo d1 xs s1 g1 r1 o1=>by
  obtain⟨ds,e,q⟩:=o1.opt;unfold kR at e;split at e;cases r1 with|cons h1 r1=>obtain rfl:=aK.n r1;cases e;obtain⟨_,_,rfl,h,r⟩:=Den.l h1;exact⟨_,rfl,⟨_,df.same h g1.sub⟩,q F1 H1 _ s1 g1 (Cr h r)⟩
  cases e
end
section
variable{X:Cx}{EX:XE}{L:Lc}{e a b:Expr}{fa fb fe:M D}{pos p:Pos}{x c:Str}
theorem jC{st:Stmt}:mS X EX st mI:=fun QF s σ H E I ⟨G,F,ρ,g0,o⟩=>o.elim
structure yV(K:Frag)(D:Addr):Prop where
 pg:W.plainGet K D "__class__" = true
 hd:W.hasDictIn K D=true
 fi:W.findIn K (.ref D) "__class__" = some (some (.builtin "object.__class__"))
 mr:W.mroIn K D (.type "object")=some true
structure NM(K:Frag)(mg:MG)(c:Str)(subs:Nt):Prop where
 sp:W.specialIn K (.builtin "object.__class__") "__get__" = some (some (.builtin "getset_descriptor.__get__"))
 tk:W.takesIn K (.builtin "object.__class__")=some true
 ex:∃C,mg c=some (.ref C)/\∀p∈subs,∃D,mg p.1=some (.ref D)/\yV K D/\W.kitOne K (.ref D) (.ref C)=some p.2
def Qx(K:Frag)(C:Addr):NC->Hp->VK->Prop:=fun xs H Q=>∃q D dx fs b,xs=[.ref q,.ref C]/\H q=some (.ins D dx fs)/\yV K D/\W.kitOne K (.ref D) (.ref C)=some b/\Q (.bl b) H
theorem za(sp:W.specialIn X.K (.builtin "object.__class__") "__get__" = some (some (.builtin "getset_descriptor.__get__")))(tk:W.takesIn X.K (.builtin "object.__class__")=some true):dO X (.builtin "isinstance") (Qx X.K C):=by intro QF s σ H xs us Q I r h;obtain⟨q,D,dx,fs,b,rfl,hq,f,hb,k⟩:=h;obtain⟨u,v,rfl,ru,rv⟩:=vals2 r;cases ru;cases rv;obtain⟨h1,h2,h3,h4,mA,h5,h6⟩:=(show dm X.prog X.w H s.heap q (.ins D dx fs) from I.b8 q _ hq);obtain⟨od,TK⟩:=(show ∃o,s.heap.get? dx=some o from I.b8 dx _ h1);exact W.kia_one (W.kitx_own f.pg f.hd f.fi sp tk f.mr) I.qe ⟨h4,rfl,rfl,TK⟩ hb (fun z=>nomatch z) fun tk=>⟨.bl b,H,I.tok tk,rfl,k⟩
theorem cG{subs:Nt}{pT:Pos}(T:NM X.K X.mg c subs)(hg:Gl X "isinstance")(hm:X.mg "isinstance" = none)(zm:Gl X c)(ha:PR X EX a fa)(WR:Y3 c:=by decide)
  (hs:starEach [a,.Name c pT] X.env=(false,eval a X.env)::starEach [.Name c pT] X.env:=by rfl) (jY:starEach [.Name c pT] X.env=(false,eval (.Name c pT) X.env)::starEach [] X.env:=by rfl) (jc:(backTo pos (starEach [.Name c pT] X.env)).any (·.1)=false:=by rfl) :
  PV X EX (.Call (.Name "isinstance" p) [a,.Name c pT] [] pos) (m1 (a7 subs) fa):=by
 obtain⟨C,hC,ES⟩:=T.ex;exact(ju (za (C:=C) T.sp T.tk) hg hm boot_isinstance (cu ha (cu (jQ (v:=.ref C) zm hC rfl WR) fL jY) hs) (by decide) (by decide) hs jc).le fun σ H Q bA=>dg bA fun G F F1 H1 bo d1 x s1 g1 r1 o1=>by
  obtain⟨d,e,q⟩:=o1.opt;cases d1 with
  |ins c' ns vs=>
   simp only[a7] at e;cases e1:subs.lookup c' with
   |none=>rw[e1] at e;cases e|some b=>
    rw[e1] at e;cases e;obtain⟨D,hD,f,hb⟩:=ES (c',b) (Zn e1);rcases r1 with r1|⟨l,rfl,D',dx,fs,z1,z2,z3,z4⟩;cases r1 with|ins h hc r=>rw[show (lc X EX).mg c'=some (.ref D) from hD] at hc;cases hc;exact⟨_,D,_,_,b,rfl,g1.sub _ _ h,f,hb,q F1 H1 _ s1 g1 (.bl _)⟩
    rw[show (lc X EX).mg c'=some (.ref D) from hD] at z2;cases z2;exact⟨_,D,_,_,b,rfl,z1,f,hb,q F1 H1 _ s1 g1 (.bl _)⟩
  |_=>cases e
end
def SD(lo:Int)(n:Nat):It:=⟨fun i _=>i<n,fun i H x H'=>H'=H/\x=.int (lo-i),fun i _=>n<=i⟩
theorem Ae{P:Program}{w:World}{K:Frag}{tg:Expr}(it:Addr)(lo:Int)(n:Nat):Turn P w K tg (SD lo n) [it] it (fun i h=>IsRangeIter h it (lo+(i:Nat)*(-1)) ((n:Int)-(i:Nat)) (-1)) where
 mem:=ZH
 obj:=fun i h st b hb=>by
  have e:b=it:=by simpa using hb
  subst e;exact⟨_,st,fun v z=>by have z':Data.fields _=Data.cell v:=z;cases z'⟩
 keep:=fun i h h' st k=>k it ZH _ st
 item:=by intro X hP hw hK hc i QF s σ H E I hf st hg;subst hP hw hK;obtain⟨f0,f1,f2,f3,f4,f5⟩:=hf it ZH;refine(Walks.range (prog:=X.prog) (w:=X.w) (I.ok.hd hc) it lo (-1) n).item i s _ _ hg st fun v h' tk hv nN kk=>?_;obtain⟨t,rfl⟩:=hv;have I1:Inv X QF σ H {s with heap:=h',toks:=tk}:=I.turned (fun b o hb e=>kk b o (by simpa using hb) e) f0 f1 f3 f4 f5;refine⟨_,rfl,qT (s:={s with heap:=h',toks:=tk}) (n:="range_iterator") nN rfl rfl (by decide) ⟨.int (lo-i),H,I1,⟨t,?_⟩,⟨rfl,rfl⟩,nN,fun b hb=>(hf b hb).1⟩⟩;rw[show lo+(i:Int)*-1=lo-i by lia]
 done:=by intro X hP hw hK hc i QF s σ H E I hf st hg;subst hP hw hK;obtain⟨f0,f1,f2,f3,f4,f5⟩:=hf it ZH;exact wpAny_pyNext_range_end (I.ok.hd hc) st (by have:n<=i:=hg;lia) fun h' eb=>⟨rfl,I.turned (t':=s.toks) (fun b o hb e=>eb b o hb e) f0 f1 f3 f4 f5⟩
 self:=fun _ _ _ _ _ st h=>wpAny_pyIter_rangeiter st h
section
variable{X:Cx}{EX:XE}{L:Lc}{tg a b c:Expr}{p pos:Pos}
def OZ(ta:TA):TI:=fun σ H R=>ta σ H fun vs H1=>∃i j:Int,vs=[.int i,.int j,.int (-1)]/\(-(2 ^ 62)<=i/\i<2 ^ 62/\-(2 ^ 62)<=j/\j<2 ^ 62)/\R (SD i (i-j).toNat) H1
theorem Q1J(hg:Gl X "range")(hm:X.mg "range" = none)(ha:PA X [a,b,c] ta)(hs:starEach [a,b,c] X.env=[(false,eval a X.env),(false,eval b X.env),(false,eval c X.env)]:=by rfl)(jY:starEach [b,c] X.env=[(false,eval b X.env),(false,eval c X.env)]:=by rfl) : PI X tg (.Call (.Name "range" p) [a,b,c] [] pos) (OZ ta):=by
 intro QF s σ H R I h;refine Call_ (eg I hg hm boot_range (Zh (bK (ha pos QF s σ H _ I h) fun us s1 zz=>?_) (by rw[hs,jY]) (by rw[jY];rfl)));obtain⟨vs,H1,I1,r1,q1⟩:=zz;obtain⟨i,j,e,⟨q1,q2,q3,q4⟩,q⟩:=q1;subst e;cases r1 with
 |cons r rr=>cases rr with
  |cons r' rr=>cases rr with
   |cons XI rr=>
    cases rr;obtain⟨t,rfl⟩:=r;obtain⟨u,rfl⟩:=r';obtain⟨v,rfl⟩:=XI;refine call_range_3 (by decide) ?_ (.inl (PyProof.noPylong_small (by decide)));have I2:Inv X QF σ H1 {s1 with heap:=s1.heap.push {cls:=.type "range",data:=.fields #[.int i t,.int j u,.int (-1) v]},toks:=s1.toks}:=I1.kept fun b o e=>Y7 _ e;refine wpAny_pyIter_range (IsRange.new ..) (W.small_down q1 q2 q3 q4) ?_;refine⟨(s1.heap.push {cls:=.type "range",data:=.fields #[.int i t,.int j u,.int (-1) v]}).objs.size,[(s1.heap.push {cls:=.type "range",data:=.fields #[.int i t,.int j u,.int (-1) v]}).objs.size],_,_,H1,rfl,I2.kept (t':=s1.toks) fun b o e=>Y7 _ e,Ae _ i (i-j).toNat,?_,fun b hb=>?_,q⟩;show IsRangeIter _ _ (i+((0:Nat):Int)*(-1)) ((((i-j).toNat:Nat):Int)-((0:Nat):Int)) (-1);rw[show i+((0:Nat):Int)*(-1)=i by simp,show (((i-j).toNat:Nat):Int)-((0:Nat):Int)=Builtin.Range.rangeSize i j (-1) by rw[W.rangeSize_downNat];simp];exact Y8 _ rfl;have e:b=(s1.heap.push {cls:=.type "range",data:=.fields #[.int i t,.int j u,.int (-1) v]}).objs.size:=by simpa using hb
    subst e;exact I2.oK (ZU _) (I2.b8.fresh (ZU _))
theorem Cq(lo:Int)(n:Nat):D5 L G F (SD lo n) ((List.range n).map fun(k:Nat)=>.int (lo-k)):=fun σ i F' H' ρ s g=>by
 refine⟨fun hi=>?_,fun hi=>?_,fun x D4 y=>?_⟩;exact(by simpa using hi:i<n);exact Nat.le_of_eq (by simpa using hi.symm:n=i);obtain⟨rfl,rfl⟩:=y;refine⟨F',aL.refl _,g,fun d hd=>?_⟩;rw[Zs] at hd;cases e:(List.range n)[i]? with
 |none=>rw[e] at hd;cases hd|some k=>
  rw[e] at hd;cases hd;have hi:i<n:=by have:=(List.getElem?_eq_some_iff.mp e).1;simpa using this
  rw[uD hi] at e;cases e;exact .int _
theorem Hi(hg:Gl X "range")(hm:X.mg "range" = none)(ha:yW X EX [a,b,c] (mL fl))(hs:starEach [a,b,c] X.env=[(false,eval a X.env),(false,eval b X.env),(false,eval c X.env)]:=by rfl)(jY:starEach [b,c] X.env=[(false,eval b X.env),(false,eval c X.env)]:=by rfl) : tw X EX tg (.Call (.Name "range" p) [a,b,c] [] pos) (CL fl):=
 (Q1J hg hm ha hs jY).le fun σ H Q bA=>dg bA fun G F F1 H1 bo d1 xs s1 g1 r1 o1=>by
  obtain⟨ds,e,q⟩:=o1.opt;unfold DD at e;split at e;rename_i i j k;cases r1 with|cons h r1=>cases r1 with|cons h2 r1=>cases r1 with|cons h3 r1=>obtain rfl:=aK.n r1;obtain rfl:=Den.i h;obtain rfl:=Den.i h2;obtain rfl:=Den.i h3;split at e;rename_i hb;cases e;obtain⟨b1,b2,b3⟩:=hb;subst b1;exact⟨i,j,rfl,⟨b2.1,b2.2,b3.1,b3.2⟩,q F1 H1 _ s1 g1 (Cq i (i-j).toNat)⟩;cases e
  cases e
end
open PySem.AutoSeq1 (wpAny_loadPart')
theorem noFill_tuple_mul:fillsNumberSlot (.type "tuple") "mul" = pure false:=PySem.fillsNumberSlot_seq (id:="tuple.__mul__") (r:=some (.builtin "tuple.__rmul__")) PySem.F.slot_tuple_mul.lookup (by decide +kernel) PySem.F.slot_tuple_rmul.lookup (by decide +kernel)
theorem sV:seqRepeat? (.type "tuple")=pure (some (.builtin "tuple.__mul__")):=by unfold seqRepeat?;rw[PySem.seqSlot_of (T:="tuple") (name:="__mul__") (id:="tuple.__mul__") PySem.F.slot_tuple_mul.lookup (by decide +kernel),PySem.seqSlot_of (T:="tuple") (name:="__rmul__") (id:="tuple.__rmul__") PySem.F.slot_tuple_rmul.lookup (by decide +kernel)];rfl
theorem oS(a:Int)(t:Tok)(l:Addr)(items:Array Value)(n:Nat)(dd:Ng)(sl:Array (Option Value)) : Meets (Builtin.«int.__rmul__» ⟨[.int a t,.ref l],[]⟩) (fun _ R s=>s.heap.get? l=some {cls:=.type "tuple",dict:=dd,data:=.seq items n,slots:=sl}/\R (.ok (.ret Value.notImplemented)) s):=
 .of_wp fun prog w A R s h=>by obtain⟨hp,g,d,tk,os⟩:=s;obtain⟨hl,h⟩:=h;wp_walk;exact⟨_,rfl,h⟩
theorem wV(l:Addr)(items:Array Value)(n:Nat)(dd:Ng)(sl:Array (Option Value))(x:Int)(u:Tok)(h1:¬(decide (x < -(2 ^ 63))||decide (x>=2 ^ 63))=true)(h2:(items.isEmpty||x == 1)=true) : Meets (Builtin.«tuple.__mul__» ⟨[.ref l,.int x u],[]⟩) (fun _ R s=>s.heap.get? l=some {cls:=.type "tuple",dict:=dd,data:=.seq items n,slots:=sl}/\R (.ok (.ret (Value.ref l))) {s with heap:=s.heap,toks:=s.toks}):=
 .of_wp fun prog w A R s h=>by obtain⟨hp,g,d,tk,os⟩:=s;obtain⟨hl,h⟩:=h;wp_walk using wpAny_loadPart' hl;refine zM (Z0 h1) ?_;wp_walk using wpAny_loadPart' hl;exact⟨_,rfl,h⟩
theorem wW(l:Addr)(items:Array Value)(n:Nat)(dd:Ng)(sl:Array (Option Value))(x:Int)(u:Tok)(h1:¬(decide (x < -(2 ^ 63))||decide (x>=2 ^ 63))=true)(h2:¬(items.isEmpty||x == 1)=true)(h3:(decide (x<=0)||items.isEmpty)=true) : Meets (Builtin.«tuple.__mul__» ⟨[.ref l,.int x u],[]⟩) (fun _ R s=>s.heap.get? l=some {cls:=.type "tuple",dict:=dd,data:=.seq items n,slots:=sl}/\R (.ok (.ret (Value.ref s.heap.objs.size))) {s with heap:=s.heap.push {cls:=Value.type "tuple",data:=Data.seq #[]},toks:=s.toks}):=
 .of_wp fun prog w A R s h=>by obtain⟨hp,g,d,tk,os⟩:=s;obtain⟨hl,h⟩:=h;wp_walk using wpAny_loadPart' hl;refine zM (Z0 h1) ?_;wp_walk using wpAny_loadPart' hl;exact⟨_,rfl,h⟩
theorem wX(l:Addr)(items:Array Value)(n:Nat)(dd:Ng)(sl:Array (Option Value))(x:Int)(u:Tok)(h1:¬(decide (x < -(2 ^ 63))||decide (x>=2 ^ 63))=true)(h2:¬(items.isEmpty||x == 1)=true)(h3:¬(decide (x<=0)||items.isEmpty)=true)
  (h4:¬((items.size:Int)*x > (2 ^ 63-1) / 8)) (h5:¬Builtin.Tuple.tupleTooMany ((items.size:Int)*x)=true) (hsz:(List.foldl (fun x1 x2=>x1++x2) #[] (List.replicate x.toNat items)).size<=sizeLine) :
  Meets (Builtin.«tuple.__mul__» ⟨[.ref l,.int x u],[]⟩) (fun _ R s=>s.heap.get? l=some {cls:=.type "tuple",dict:=dd,data:=.seq items n,slots:=sl}/\R (.ok (.ret (Value.ref s.heap.objs.size))) {s with heap:=s.heap.push {cls:=Value.type "tuple",data:=Data.seq (List.foldl (fun x1 x2=>x1++x2) #[] (List.replicate x.toNat items))},toks:=s.toks}):=
 .of_wp fun prog w A R s h=>by obtain⟨hp,g,d,tk,os⟩:=s;obtain⟨hl,h⟩:=h;wp_walk using wpAny_loadPart' hl;refine zM (Z0 h1) ?_;wp_walk using wpAny_loadPart' hl;refine zM (Z0 h4) ?_;wp_walk using wpAny_loadPart' hl;exact⟨_,rfl,h⟩
section
variable{X:Cx}{EX:XE}{L:Lc}{a b:Expr}{fa fb:M D}{pos:Pos}
def Dy(K:Frag):R2:=fun x y H Q=>∃l k xs,x=.ref l/\y=.int k/\dj K H l xs/\-(2 ^ 63)<=k/\k<2 ^ 63/\xs.length*k.toNat<=sizeLine/\((List.replicate k.toNat xs).flatten=xs->Q (.ref l) H)/\∀p,H p=none->Q (.ref p) (upd H p (.tup (List.replicate k.toNat xs).flatten))
theorem FQ:fZ X (binaryOp .Mult) (Dy X.K):=by
 intro QF s σ H x y v u Q I rx ry h;obtain⟨l,k,xs,rfl,rfl,hH,h1,h2,hz,q1,q⟩:=h;cases rx;obtain⟨t,rfl⟩:=ry;obtain⟨aG,r,pt,_⟩:=I.tuple hH;obtain⟨⟨cls,dd,data,sl⟩,e,hc,n,hd⟩:=id pt;simp only at hc hd;subst hc hd;have hl:=r.length;have hr:¬(decide (k < -(2 ^ 63))||decide (k>=2 ^ 63))=true:=by simp only[Bool.or_eq_true,decide_eq_true_eq,not_or];lia
 have hf:∀m:Nat,List.foldl (fun x1 x2=>x1++x2) #[] (List.replicate m aG.toArray)=(List.replicate m aG).flatten.toArray:=fun m=>by have:=foldl_rep aG m [];rw[List.nil_append] at this;exact this
 refine wpAny_binaryOp_repeat_ref (T:="tuple") (U:="int") (by decide) ⟨_,e,rfl⟩ (fun s'=>typeIs_int s' k t) noFill_tuple_mul PySem.F.fills_int_mul PySem.F.slot_int_rmul sV PySem.F.slot_int_index.lookup (Sk PySem.F.slot_int_rmul (typeIs_int s k t) PySem.F.entry_int_rmul (PySem.F.args_int_rmul_2 _ _) (oS k t l aG.toArray n dd sl) ⟨e,rfl,⟨_,e,rfl⟩,?_⟩);by_cases c1:(aG.toArray.isEmpty||k == 1)=true;refine Sk Ov ⟨_,e,rfl⟩ Gh (E0 _ _) (wV l aG.toArray n dd sl k t hr c1) ⟨e,.ref l,H,I,rfl,q1 ?_⟩;rw[CM] at c1;rcases c1 with c1|c1;have:aG=[]:=by simpa using c1
 have:xs=[]:=r.lq.mp this;subst this;exact List.eq_nil_of_length_eq_zero (by rw[len_rep];simp);have:k=1:=by simpa using c1
 subst this;simp;by_cases c2:(decide (k<=0)||aG.toArray.isEmpty)=true;refine Sk Ov ⟨_,e,rfl⟩ Gh (E0 _ _) (wW l aG.toArray n dd sl k t hr c1 c2) ⟨e,?_⟩;have hk:k.toNat=0:=by rw[CM] at c1 c2;rcases c2 with c2|c2;have:=Zx c2;lia;exact absurd (.inl c2) c1
 rw[hk] at q hz;exact⟨.ref s.heap.objs.size,_,I.laid (t':=s.toks) (o:=.tup []) (fun b ob q=>Y7 _ q) (ZU _) ⟨Zp _,[],.nil,kK.new _ _⟩,rfl,q _ (I.b8.fresh (ZU _))⟩;have hk:0<k:=by
  rw[CM,not_or] at c2;have:=of_decide_eq_false (Bool.eq_false_iff.mpr c2.1)
  lia
 have hm:((aG.toArray.size:Nat):Int)*k=((xs.length*k.toNat:Nat):Int):=by rw[ZX,<-hl,Int.natCast_mul,Int.toNat_of_nonneg ZG]
 have hb:(sizeLine:Nat)<=16777216:=by decide
 refine Sk Ov ⟨_,e,rfl⟩ Gh (E0 _ _) (wX l aG.toArray n dd sl k t hr c1 c2 (by rw[hm];lia) (by rw[hm];unfold Builtin.Tuple.tupleTooMany;simp only[decide_eq_true_eq];lia) (by rw[hf,ZX,len_rep,<-hl,Nat.mul_comm];exact hz)) ⟨e,?_⟩;rw[hf];exact⟨.ref s.heap.objs.size,_,I.laid (t':=s.toks) (o:=.tup (List.replicate k.toNat xs).flatten) (fun b ob q=>Y7 _ q) (ZU _) ⟨by rw[len_rep,Nat.mul_comm];exact hz,_,r.rep k.toNat,kK.new _ _⟩,rfl,q _ (I.b8.fresh (ZU _))⟩
theorem aK.rep{K:Frag}{mg:MG}{F:Hp}{vs:NC}{ds:Sg}(h:aK K mg F vs ds):∀n:Nat,aK K mg F (List.replicate n vs).flatten (List.replicate n ds).flatten|0=>.nil|n+1=>by rw[zL,zL,La,La];exact aK.append h (aK.rep h n)
theorem yD:fZ X (binaryOp .Mult) (fun x y H Q=>(rI vm fun i j=>.int (i*j)) x y H Q\/(Dy X.K x y H Q\/Mq x y H Q)):=fZ.or gP (fZ.or FQ LS)
theorem B1:ki L (fun x y H Q=>(rI vm fun i j=>.int (i*j)) x y H Q\/(Dy L.K x y H Q\/Mq x y H Q)) zN:=fun G F H σ ρ x y dx dy d Q g0 rx ry e k=>by
 cases dx with
 |int _=>cases dy with|int _=>exact .inl (j8 G F H σ ρ x y _ _ d Q g0 rx ry e k)|_=>cases e
 |tup ds=>cases dy with|int i=>simp only[zN] at e;split at e;rename_i hc;cases e;obtain rfl:=Den.i ry;obtain⟨_,_,rfl,h1,r1⟩:=Den.t rx;rename_i p vs;have hz:=hc.2.2;rw[<-r1.length,vo] at hz;have hb:(iS:Int)=16777216:=rfl;have Yq:=hc.1;have Yr:=hc.2.1;refine .inr (.inl ⟨p,i,vs,rfl,rfl,dj.same h1 g0.sub,ZG,ZG,hz,fun z=>?_,fun q hq=>?_⟩);have:=aK.rep r1 i.toNat;rw[z] at this;exact k F H _ (aL.refl _) g0 (.tup h1 this);have sF:=bg (o:=.tup (List.replicate i.toNat vs).flatten) (g0.sub.free hq);exact k _ _ _ sF (g0.laid hq) (.tup (dj.of aM) (aK.rep (aK.same sF r1) _));cases e|_=>cases e
 |_=>cases e
end
structure DM(K:Frag)(x qn:Str)(st:Stmt)(f:Addr):Prop where
 l:∃(oc:Value)(od:Ng)(kV doc pm:Value)(an:Ng)(cd ct:Value)(sl:Array (Option Value)),K.lookup f=some ⟨oc,od,.func (W.fnOf x qn (cR st) (bM st) (aP st) .none kV doc pm an cd ct),sl⟩/\W.codeIn K cd qn=true
 k:W.keepIn K (.ref f)=true
structure DH(K:Frag)(x:Str)(st:Stmt)(f:Addr):Prop where
 a:W.nsIn K mainGlobals x=some (some (.ref f))
 m:DM K x x st f
abbrev An(x qn:Str)(st:Stmt)(ps:R5):Prop:=∀(kV doc pm:Value)(an:Ng)(cd ct:Value)(us:MY),us.length=ps.length->bindArgs (W.fnOf x qn (cR st) (bM st) (aP st) .none kV doc pm an cd ct) ⟨us,[]⟩=pure (ps.zip us)
section
variable{K:Frag}{mg:MG}{h:Heap}{x qn:Str}{st:Stmt}{f:Addr}{ps:R5}
theorem DM.is(d:DM K x qn st f)(b:An x qn st ps):∃fd,Ej K x qn st f fd/\Binds K fd ps []:=by obtain⟨⟨oc,od,kV,doc,pm,an,cd,ct,sl,l,c⟩,k⟩:=d;exact⟨_,BW l c k,(BW l c k).binds b⟩
theorem DH.is(d:DH K x st f)(X:K.In h)(G:h.Ns mainGlobals mg)(b:An x x st ps):∃fd,oi K mg x st ps f fd:=by obtain⟨fd,F,B⟩:=d.m.is b;exact⟨fd,F,B,Ui X G d.a⟩
end
theorem v0{P:MY->Prop}(h:P []):∀us:MY,us.length=0->P us:=fun us e=>List.length_eq_zero_iff.mp e ▸ h
theorem vc{n:Nat}{P:MY->Prop}(h:∀a,∀us:MY,us.length=n->P (a::us)):∀us:MY,us.length=n+1->P us:=fun us e=>by cases us with|nil=>cases e|cons a us=>exact h a us (Nat.succ.inj e)
theorem U9{x qn:Str}{st:Stmt}{p0:Str}(h:∀(kV doc pm:Value)(an:Ng)(cd ct:Value)(a0:Value),bindArgs (W.fnOf x qn (cR st) (bM st) (aP st) .none kV doc pm an cd ct) ⟨[a0],[]⟩=pure ([p0].zip [a0]):=by intros;rfl):An x qn st [p0]:=fun kV doc pm an cd ct=>vc fun _=>v0 (h _ _ _ _ _ _ _)
theorem Va{x qn:Str}{st:Stmt}{p0 p1:Str}(h:∀(kV doc pm:Value)(an:Ng)(cd ct:Value)(a0 a1:Value),bindArgs (W.fnOf x qn (cR st) (bM st) (aP st) .none kV doc pm an cd ct) ⟨[a0,a1],[]⟩=pure ([p0,p1].zip [a0,a1]):=by intros;rfl):An x qn st [p0,p1]:=fun kV doc pm an cd ct=>vc fun _=>vc fun _=>v0 (h _ _ _ _ _ _ _ _)
theorem Vb{x qn:Str}{st:Stmt}{p0 p1 p2:Str}(h:∀(kV doc pm:Value)(an:Ng)(cd ct:Value)(a0 a1 a2:Value),bindArgs (W.fnOf x qn (cR st) (bM st) (aP st) .none kV doc pm an cd ct) ⟨[a0,a1,a2],[]⟩=pure ([p0,p1,p2].zip [a0,a1,a2]):=by intros;rfl):An x qn st [p0,p1,p2]:=fun kV doc pm an cd ct=>vc fun _=>vc fun _=>vc fun _=>v0 (h _ _ _ _ _ _ _ _ _)
theorem Vc{x qn:Str}{st:Stmt}{p0 p1 p2 p3:Str}(h:∀(kV doc pm:Value)(an:Ng)(cd ct:Value)(a0 a1 a2 a3:Value),bindArgs (W.fnOf x qn (cR st) (bM st) (aP st) .none kV doc pm an cd ct) ⟨[a0,a1,a2,a3],[]⟩=pure ([p0,p1,p2,p3].zip [a0,a1,a2,a3]):=by intros;rfl):An x qn st [p0,p1,p2,p3]:=fun kV doc pm an cd ct=>vc fun _=>vc fun _=>vc fun _=>vc fun _=>v0 (h _ _ _ _ _ _ _ _ _ _)
theorem Vd{x qn:Str}{st:Stmt}{p0 p1 p2 p3 p4:Str}(h:∀(kV doc pm:Value)(an:Ng)(cd ct:Value)(a0 a1 a2 a3 a4:Value),bindArgs (W.fnOf x qn (cR st) (bM st) (aP st) .none kV doc pm an cd ct) ⟨[a0,a1,a2,a3,a4],[]⟩=pure ([p0,p1,p2,p3,p4].zip [a0,a1,a2,a3,a4]):=by intros;rfl):An x qn st [p0,p1,p2,p3,p4]:=fun kV doc pm an cd ct=>vc fun _=>vc fun _=>vc fun _=>vc fun _=>vc fun _=>v0 (h _ _ _ _ _ _ _ _ _ _ _)
theorem Ve{x qn:Str}{st:Stmt}{p0 p1 p2 p3 p4 p5:Str}(h:∀(kV doc pm:Value)(an:Ng)(cd ct:Value)(a0 a1 a2 a3 a4 a5:Value),bindArgs (W.fnOf x qn (cR st) (bM st) (aP st) .none kV doc pm an cd ct) ⟨[a0,a1,a2,a3,a4,a5],[]⟩=pure ([p0,p1,p2,p3,p4,p5].zip [a0,a1,a2,a3,a4,a5]):=by intros;rfl):An x qn st [p0,p1,p2,p3,p4,p5]:=fun kV doc pm an cd ct=>vc fun _=>vc fun _=>vc fun _=>vc fun _=>vc fun _=>vc fun _=>v0 (h _ _ _ _ _ _ _ _ _ _ _ _)
theorem Vf{x qn:Str}{st:Stmt}{p0 p1 p2 p3 p4 p5 p6:Str}(h:∀(kV doc pm:Value)(an:Ng)(cd ct:Value)(a0 a1 a2 a3 a4 a5 a6:Value),bindArgs (W.fnOf x qn (cR st) (bM st) (aP st) .none kV doc pm an cd ct) ⟨[a0,a1,a2,a3,a4,a5,a6],[]⟩=pure ([p0,p1,p2,p3,p4,p5,p6].zip [a0,a1,a2,a3,a4,a5,a6]):=by intros;rfl):An x qn st [p0,p1,p2,p3,p4,p5,p6]:=fun kV doc pm an cd ct=>vc fun _=>vc fun _=>vc fun _=>vc fun _=>vc fun _=>vc fun _=>vc fun _=>v0 (h _ _ _ _ _ _ _ _ _ _ _ _ _)
theorem Ux{N P:R5}{sc:Scope}(h1:sc.kind=.function:=by rfl)(h2:sc.isCoroutine=false:=by rfl)(h3:sc.isGenerator=false:=by rfl)(h4:N.Nodup:=by exact ZR)(h5:N.take P.length=P:=by rfl)(h6:∀x∈P,sc.names.lookup x=some .local\/sc.names.lookup x=some .cell:=by exact ZR) (h7:∀y∈sc.names,y.2≠.free:=by exact ZR):dQ N P sc:=⟨h1,h2,h3,h4,h5,h6,h7⟩
theorem Iw(l:R5)(h:l.Nodup:=by exact ZR):List.Nodup l:=h
section
variable{prog:Program}{w:World}{A:Around}{E:Y5}{s:Shared}
theorem tT(hl:s.heap.IsTuple l vs.toArray)
  (h:Q vs {s with heap:=(s.heap.push (seqObj "list" #[] 0)).update s.heap.objs.size (Obj.mapSeq (·++vs.toArray))}) (hsz:vs.length<=sizeLine) :
  wpAny (model prog w) A (collect (.ref l)) Q E s:=by
 obtain⟨o,ho,hc,n,hd⟩:=id hl;unfold collect;refine ZS (wpAny_runValue (VQ entry_proto_collect' ?_));show wpAny _ _ (do again (.builtin "list.__iadd__" ⟨[<-newList [],.ref l],[]⟩)) _ _ s;refine ZS (wpAny_newList (ZT ⟨Code.quiet_builtin _ (by decide +kernel),VQ entry_list_iadd' ?_⟩));show wpAny _ _ (Builtin.List.listExtendWith (.ref s.heap.objs.size) (.ref l) (.ref s.heap.objs.size)) _ _ {s with heap:=s.heap.push (seqObj "list" #[] 0)};unfold Builtin.List.listExtendWith;have tE:(s.heap.push (seqObj "list" #[] 0)).get? l=some o:=Y7 _ ho;refine ZS (Lb (T:="tuple") ⟨o,tE,hc⟩ ?_);have ht:(Value.type "tuple" == Value.type "tuple")=true:=by rfl
 rw[ZY (by rw[ht];simp)];refine ZS (listItems_at tE hd ?_);refine ZS (listItems_at (xs:=#[]) (n:=0) (Y8 _ rfl) rfl ?_);rw[Za ZH];refine ZS (listUpdate_at (xs:=#[]) (n:=0) (Y8 _ rfl) rfl ?_ (Zp _) (by show (#[]++vs.toArray).size<=sizeLine+1;simp only[Array.size_append,List.size_toArray,List.length_nil];lia));refine ZT ?_;show wpAny (model prog w) A (do
  let o <-load s.heap.objs.size
  match o.data with|.seq xs _=>pure xs.toList|_=>unsupported "internal:collect") Q E {s with heap:=(s.heap.push (seqObj "list" #[] 0)).update s.heap.objs.size (Obj.mapSeq (·++vs.toArray))}
 refine ZS (wpAny_load (get?_update_seq (Y8 _ rfl) _) ?_);show wpAny _ _ (pure ((#[]:Array Value)++vs.toArray).toList) Q E _;rw[show ((#[]:Array Value)++vs.toArray).toList=vs by simp];exact ZT h
theorem sY(hl:s.heap.IsTuple l vs.toArray)(hI:IntsAre vs ns)(Oz:vs.length<64)
  (h:∀(out:Array Value)(Ed:Pa),IntsAre out.toList Ed->Ed.Perm ns->Ed.Pairwise (·<=·)->Q (.ref (s.heap.objs.size+1)) {s with heap:=sortedAll s.heap vs out}) :
  wpAny (model prog w) A (call (.builtin "sorted") [.ref l]) Q E s:=by
 refine Calls.call_function_entry kind_sorted plain_sorted entry_sorted (args_sorted1 _) ?_;unfold Builtin.«sorted»;refine ZS (m:=checkCount "sorted" 1 1 _) (ZT ?_);refine ZS (tT hl ?_ (by rw[Up];lia));refine ZS (wpAny_newList ?_);have hsz:((s.heap.push (seqObj "list" #[] 0)).update s.heap.objs.size (Obj.mapSeq (·++vs.toArray))).objs.size=s.heap.objs.size+1:=by rw[Heap.size_update,size_push']
 have RU:(((s.heap.push (seqObj "list" #[] 0)).update s.heap.objs.size (Obj.mapSeq (·++vs.toArray))).push (seqObj "list" vs.toArray 0)).get? (s.heap.objs.size+1)=some (seqObj "list" vs.toArray 0):=by rw[<-hsz];exact Y8 _ rfl
 show wpAny _ _ _ _ _ {s with heap:=((s.heap.push (seqObj "list" #[] 0)).update s.heap.objs.size (Obj.mapSeq (·++vs.toArray))).push (seqObj "list" vs.toArray 0)};rw[hsz];refine ZS (S5 (Zz slot_list_sort ⟨_,RU,rfl⟩ entry_list_sort (list_sort_tree RU hI Oz fun out Ed a1 a2 a3=>⟨_,rfl,?_⟩) (args_list_sort _)));exact ZT ⟨_,rfl,h out Ed a1 a2 a3⟩
end
section
variable{X:Cx}{EX:XE}{L:Lc}{a:Expr}{fa:M D}{p pos p' UR:Pos}
theorem hZ:∀{us:MY}{ns:Pa},IntsAre us ns->Vals (ns.map V.int) us|_,_,.nil=>.nil|_,_,.cons n t h=>.cons ⟨t,rfl⟩ (hZ h)
theorem rC:∀(n:Nat)(lo:Nat)(us:MY),us.length=n->(∀(j:Nat)(v:Value),us[j]?=some v->∃t,v=.int ((lo+j:Nat):Int) t)->Vals ((List.range' lo n).map fun(k:Nat)=>V.int k) us|0,_,[],_,_=>.nil|n+1,lo,u::us,hl,h=>by rw[List.range'_succ,ZZ];refine .cons ?_ (rC n (lo+1) us (by simpa using hl) fun j v e=>?_);obtain⟨t,e⟩:=h 0 u rfl;exact⟨t,by simpa using e⟩;obtain⟨t,e⟩:=h (j+1) v (by simpa using e);exact⟨t,by rw[e,show lo+1+j=lo+(j+1) by lia]⟩
def IF(K:Frag):NC->Hp->VK->Prop:=fun xs H Q=>∃(t:Bool)(q:Addr)(ns:Pa),xs=[.ref q]/\kJ K H t q (ns.map V.int)/\ns.length<64/\∀p,H p=none->Q (.ref p) (upd H p (.lst ((sortI ns).map V.int)))
theorem tP:dO X (.builtin "sorted") (IF X.K):=by
 intro QF s σ H xs us Q I r h;obtain⟨t,q,ns,rfl,hq,Oz,k⟩:=h;obtain⟨u,rfl,ru⟩:=vals1 r;cases ru;obtain⟨aG,rv,sq⟩:=Inv.pH I hq;have hi:IntsAre aG ns:=intsAre_of rv;have hl:aG.length<64:=by rw[<-rv.length,Zf];exact Oz
 have fin:∀(out:Array Value)(Ed:Pa),IntsAre out.toList Ed->Ed.Perm ns->Ed.Pairwise (·<=·)->EP X QF σ Q (.ref (s.heap.objs.size+1)) {s with heap:=sortedAll s.heap aG out}:=fun out Ed a1 a2 a3=>by
  have e:=uY a2 a3;subst e;obtain⟨c,hc⟩:=sortedAll_at s.heap aG out;have z:((sortI ns).map V.int).length<=sizeLine:=by rw[Zf,a2.length_eq,Up];lia
  exact⟨.ref (s.heap.objs.size+1),_,I.laid (t':=s.toks) (o:=.lst ((sortI ns).map V.int)) (fun b o e=>sortedAll_old e) (Nu _) ⟨z,out.toList,c,hZ a1,hc⟩,rfl,k _ (I.b8.fresh (Nu _))⟩
 cases t;exact sorted_ints (show s.heap.IsList q aG.toArray from sq) hi hl fin;exact sY (show s.heap.IsTuple q aG.toArray from sq) hi hl fin
theorem JN:IY L (IF L.K) uX:=fun G F H σ ρ x dx d Q g0 rx e k=>by unfold uX at e;cases e1:cq dx with|none=>rw[e1] at e;cases e|some ds=>rw[e1] at e;dsimp only at e;cases e2:fB ds with|none=>rw[e2] at e;cases e|some ns=>rw[e2] at e;dsimp only at e;split at e;rename_i Oz;cases e;obtain⟨t,q,vs,rfl,r,z⟩:=RR.pH rx g0 e1;have ev:=ints_of r e2;subst ev;refine⟨t,q,ns,rfl,z,Oz,fun l hl=>?_⟩;have sF:=bg (o:=.lst ((sortI ns).map V.int)) (g0.sub.free hl);exact k _ _ _ sF (g0.laid hl) (.lst (df.of aM) (aK.ints _));cases e
theorem FW(hg:Gl X "range")(hm:X.mg "range" = none)(zm:Gl X "list")(Cd:X.mg "list" = none)(hc:X.calm=true)(ha:PA X [a] t)(hs:starEach [a] X.env=[(false,eval a X.env)]:=by rfl)
  (jY:starEach [.Call (.Name "range" p) [a] [] pos] X.env=[(false,eval (.Call (.Name "range" p) [a] [] pos) X.env)]:=by rfl):PE X (.Call (.Name "list" p') [.Call (.Name "range" p) [a] [] pos] [] UR)
  (QR (fun xs H Q=>∃j:Int,xs=[.int j]/\-1000<=j/\j<=1000/\∀l,H l=none->Q (.ref l) (upd H l (.lst ((List.range j.toNat).map fun(k:Nat)=>V.int k)))) t):=by
 intro QF s σ H Q I h;refine Pz (eg I zm Cd Rx (Zh ?_ jY rfl));rw[jY];refine ve (Call_ (eg I hg hm boot_range (Zh (bK (ha pos QF s σ H _ I h) fun us s1 zz=>?_) hs rfl)));obtain⟨vs,H1,I1,r1,q1⟩:=zz;obtain⟨j,e,b1,b2,hR⟩:=q1;subst e;cases r1 with
 |cons r rr=>
  cases rr;obtain⟨t,rfl⟩:=r;refine call_range_1 (PH ?_);refine call_list_range (n:=j.toNat) (I1.ok.hd hc) (IsRange.new ..) (small_one ZG ZG ZG ZG) (by rw[rangeSize_one];split<;>lia) ZG fun h' tk acc c hk ho hi=>?_;have hsz:(s1.heap.push {cls:=.type "range",data:=.fields #[.int 0 s1.toks,.int j t,.int 1 (s1.toks+1)]}).objs.size=s1.heap.objs.size+1:=by simp[Heap.push]
  have hv:Vals ((List.range j.toNat).map fun(k:Nat)=>V.int k) acc.toList:=by rw[List.range_eq_range'];refine rC _ _ _ (by simpa using hi.1) fun i v e=>?_;obtain⟨t,e⟩:=hi.2 i v (by simpa using e);exact⟨t,by rw[e];simp⟩
  refine⟨.ref _,_,I1.laid (t':=tk) (o:=.lst ((List.range j.toNat).map fun(k:Nat)=>V.int k)) (fun b o e=>hk b o (Y7 _ e)) (by rw[size_push'];exact Nu _) ⟨by rw[Zf,Zl,Up];lia,acc.toList,c,hv,ho⟩,rfl,hR _ (I1.b8.fresh (by rw[size_push'];exact Nu _))⟩
theorem Gb(hg:Gl X "range")(hm:X.mg "range" = none)(zm:Gl X "list")(Cd:X.mg "list" = none)(ha:yW X EX [a] (mL fl))(hc:X.calm=true:=by rfl)(hs:starEach [a] X.env=[(false,eval a X.env)]:=by rfl)(jY:starEach [.Call (.Name "range" p) [a] [] pos] X.env=[(false,eval (.Call (.Name "range" p) [a] [] pos) X.env)]:=by rfl):PF X EX (.Call (.Name "list" p') [.Call (.Name "range" p) [a] [] pos] [] UR) (mF CF fl):=
 (FW hg hm zm Cd hc ha hs jY).le fun σ H Q bA=>dg bA fun G F F1 H1 bo d1 xs s1 g1 r1 o1=>by
  obtain⟨d,e,q⟩:=o1.opt;unfold CF at e;split at e;rename_i j;cases r1 with|cons h r1=>obtain rfl:=aK.n r1;obtain rfl:=Den.i h;split at e;rename_i hb;cases e;refine⟨j,rfl,hb.1,hb.2,fun l hl=>?_⟩;exact q _ _ _ s1 (g1.made hl) ⟨l,rfl,g1.loose hl ⟨_,aM,aK.map (fun(k:Nat)=>Den.int k) _⟩⟩;cases e
  cases e
end
section
variable{X:Cx}{EX:XE}{L:Lc}{o e a b:Expr}{fo fa fb fe:M D}{pos UP fP p:Pos}{name:Str}{id:String}
theorem Q1O:ki L (rI NI fun i j=>.int (i ^ j.toNat)) Gr:=fun G F H σ ρ x y dx dy d Q g0 rx ry e k=>by
 cases dx with
 |int i=>cases dy with|int j=>simp only[Gr] at e;split at e;rename_i hb;cases e;obtain rfl:=Den.i rx;obtain rfl:=Den.i ry;exact⟨i,j,rfl,rfl,⟨hb.1,ZG,hb.2.2⟩,k F H _ (aL.refl _) g0 (.int _)⟩;cases e|_=>cases e
 |_=>cases e
end
section
variable{X:Cx}{EX:XE}{L:Lc}{e a b c:Expr}{fe fa fb:M D}{f:M Fl}{pos:Pos}{x:Str}{p:Pos}
theorem CG(g:L.Good G F H σ ρ)(h:own ρ[k]?=some (.lst ds)) : ∃l vs,σ[k]?=some (some (V.ref l))/\H l=some (.lst vs)/\aK L.K L.mg F vs ds/\∀vd Am,aK L.K L.mg F vd Am->L.Good G F (upd H l (.lst vd)) σ (cE k (.lst Am) ρ):=by cases q3:ρ[k]? with|none=>rw[q3] at h;cases h|some s=>rw[q3] at h;have sl:=g.slot k s q3;cases s with|no=>cases h|sh e=>cases h|ow e=>cases h;obtain⟨l,z1,z2,z3,vs,z4,z5⟩:=sl;refine⟨l,vs,join_some z1,z4,z5,fun vd Am r=>?_⟩;rw[show cE k (.lst Am) ρ=ρ.set k (.ow (.lst Am)) by unfold cE;rw[q3]];exact Good.write g q3 rfl (join_some z1) (.inl ⟨_,rfl,rfl⟩) ⟨_,aM,r⟩|io e=>cases h;obtain⟨l,z1,z2,z3,vs,z4,z5⟩:=sl;refine⟨l,vs,join_some z1,z4,z5,fun vd Am r=>?_⟩;rw[show cE k (.lst Am) ρ=ρ.set k (.io (.lst Am)) by unfold cE;rw[q3]];exact Good.write g q3 rfl (join_some z1) (.inr ⟨_,rfl,rfl⟩) ⟨_,aM,r⟩
theorem DY(hp:PassesOwn (model X.prog X.w) X.A X.env X.xe)(hc:PB X EX c ft)(hb:lN X EX body f):mS X EX (.While c body [] pos) (wG ft f):=(Dq hp hc hb).le fun E σ H bA=>vW bA fun G F ρ g0 o=>by refine⟨fun m σ H=>∃F' bO,aL F F'/\(lc X EX).Good G F' H σ bO/\Out (gD ft f m bO) (f9 (lc X EX) G F E) (cL (lc X EX) G F),⟨10000,F,ρ,aL.refl _,g0,o⟩,?_⟩;rintro m IV H1 ⟨F1,bo,s1,g1,o1⟩;cases m with|zero=>exact o1.elim|succ m=>refine aV g1 o1 (fun x r q=>(q.same s1).x) fun F2 H2 mR d b s2 g2 r2 o2=>?_;cases r2;cases d with|false=>rw[Za (by decide)] at o2 ⊢;exact o2 F2 H2 IV (s1.trans s2) g2|true=>rw[ZY rfl] at o2 ⊢;refine⟨fun bx H'=>∃F' bO,aL F F'/\(lc X EX).Good G F' H' bx bO/\Out (gD ft f m bO) (f9 (lc X EX) G F E) (cL (lc X EX) G F),fun bx H' q=>⟨m,Di m,q⟩,?_⟩;refine⟨G,F2,mR,g2,(Out.YV o2).mono (fun k r z=>?_) fun _ _ z=>z.same (s1.trans s2)⟩;cases k with|nx=>exact fun F' H' bx s g'=>⟨F',r,(s1.trans s2).trans s,g',z⟩|ct=>exact fun F' H' bx s g'=>⟨F',r,(s1.trans s2).trans s,g',z⟩|bk=>exact fun F' H' bx s g'=>z F' H' bx ((s1.trans s2).trans s) g'|rt d=>exact fun F' H' bx v s g'=>z F' H' bx v ((s1.trans s2).trans s) g'
theorem M5(i:Nat){UP fP:Pos}(he:PF X EX e fe)(hN:X.N[i]?=some x:=by rfl)(hv:xc X.env.scope x:=by exact ZK)(hd:Y3 x:=by decide)
  (j9:Y4 x:=by decide)
  (hpe:∀{to:TE}{t:TA},PE X (.Name x p) to->PA X [e] t->PE X (.Call (.Attribute (.Name x p) "extend" UP) [e] [] fP) (Sq X.K "list" yN to t))
  (ja:ZC X e []:=by rfl):mS X EX (.Expr (.Call (.Attribute (.Name x p) "extend" UP) [e] [] fP) pos) (DE i fe):=
 (sN (hpe (gQ hN hv hd j9) (cu he fL ja))).le fun E σ H bA=>vW bA fun G F ρ g0 o=>by
  unfold DE at o;by_cases hl:isLst (own ρ[i]?)=true;rw[ZY hl] at o;obtain⟨l,vs,z1,z2⟩:=isLst_slot (L:=lc X EX) g0 hl;refine⟨_,z1,.inl ⟨rfl,_,df.of z2⟩,aV g0 o (fun x r q=>q.x) fun F1 H1 bo d1 v s1 g1 r1 o1=>?_⟩;have o2:=Out.YV o1;unfold fD at o2;cases q:own bo[i]? with
  |none=>rw[q] at o2;exact o2.elim|some d0=>
   rw[q] at o2;cases d0 with
   |lst ds=>cases d1 with|lst es=>simp only[vJ] at o2;split at o2;rename_i d' q2;split at q2;rename_i hz;cases q2;obtain⟨l',vd,h1,h2,h3,h4⟩:=CG (L:=lc X EX) g1 q;rw[z1] at h1;cases h1;obtain⟨bb,rfl,lo⟩:=r1;obtain⟨ws,hb,rb⟩:=lo.ob;refine⟨l,bb,vd,ws,rfl,rfl,h2,hb,?_,o2 F1 _ σ s1 (h4 _ _ (h3.append rb))⟩;rw[h3.length,rb.length,Up];exact hz;cases q2;exact o2.elim|_=>simp only[vJ] at o2;exact o2.elim
   |_=>simp only[vJ] at o2;exact o2.elim
  rw[Za hl] at o;exact o.elim
end
section
variable{X:Cx}{EX:XE}{L:Lc}{e a b c:Expr}{fe fa fb:M D}{f:M Fl}{pos:Pos}{x:Str}{p:Pos}
theorem Good.gone{K:Frag}{mg:MG}{G:Fx}{F H F' H':Hp}{σ:St}{ρ:aQ}{l:Addr}{d:D}{cB:Sg}(g:Good K mg G F H σ ρ)(lo:Loose K mg G F H σ ρ l d)(a:After K mg F H F' H' [l] cB):Good K mg G F' H' σ ρ:=by
 have ux:∀{m:Addr},F m=none->(∃o,H m=some o)->F' m=none:=fun {m} h ⟨o,ho⟩=>by cases q:F' m with|none=>rfl|some u=>rcases a.new m u q with z|z;rw[h] at z;cases z;rw[ho] at z;cases z
 have nl:∀{b:Addr}{o:HO},G.H₀ b=some o->b∉[l]:=fun {b o} e hb=>by
  have:b=l:=by simpa using hb
  subst this;rw[lo.n0] at e;cases e
 exact {
  sF:=g.sF.trans a.sF
  sub:=a.sub
  old:=fun b o e n=>a.old b o (g.old b o e n) (nl e)
  new:=fun b o e=>by rcases a.new b o e with z|z;exact g.new b o z;exact .inr (g.zP z)
  len:=g.len
  slot:=fun i s h=>(g.slot i s h).same a.sF (fun m _ _ f t=>ux f t) fun m o hv ow e=>a.old m o e fun hb=>by
   have:m=l:=by simpa using hb
   subst this;exact lo.ns i s h ow (join_some hv)
  apart:=g.apart
  m9:=fun i b h=>by obtain⟨⟨o,q1⟩,q2,u,q3⟩:=g.m9 i b h;exact⟨⟨o,a.old b o q1 (nl q3)⟩,ux q2 ⟨o,q1⟩,u,q3⟩
  nH:=g.nH}
variable{CX:vf}{k:Nat}{fA:Addr}{fd:FuncData}{ps:R5}{fs:Fn}
theorem Dw(F:dP X.prog X.w X.K X.mg X.base CX k fA fd ps (nM X.K X.mg [true] fs))(hr:cA k X.A)(hg:Gl X x)(hm:X.mg x=some (.ref fA))(hk:W.keepIn X.K (.ref fA)=true)(hb:Binds X.K fd ps [])(hx:fg CX X EX)
  (ha:PF X EX a fa) (i9:Y3 x:=by decide) (he:ZC X a []:=by rfl) (jc:(backTo pos (starEach [] X.env)).any (·.1)=false:=by rfl) :
  PV X EX (.Call (.Name x p) [a] [] pos) (mh fs fa):=by
 intro QF s σ H Q I h;obtain⟨G,F0,ρ,g0,o⟩:=h;refine Pz (k7 I hg hm ?_ i9);refine EY (h₀:=X.base) I.ok.mod.Ko hk (bK (cu ha fL he pos QF s σ H (fun vs H1=>nM X.K X.mg [true] fs vs H1 Q (EX σ)) I ?_) fun us s1 ⟨vs,H1,I1,r,q⟩=>⟨I1.qe,?_⟩) he jc;refine aV g0 o (fun x r q=>q) fun F1 H1 bo d1 v s1 g1 r1 o1=>?_;obtain⟨l,rfl,lo⟩:=r1;refine⟨rfl,F1,[d1],g1.sub,⟨⟨l,rfl,lo.nF,lo.ob⟩,trivial⟩,by simp[oT,dF],?_⟩;unfold Az at o1;cases q2:fs [d1] with
  |no=>rw[q2] at o1;exact o1.elim|ok d cB=>
   rw[q2] at o1
   match cB,o1 with|[io],o1=>exact fun F' H' v a rd=>o1 F' H' v (s1.trans a.sF) (Good.gone g1 lo a) rd|[],o1=>exact o1.elim|_::_::_,o1=>exact o1.elim
  |exc xx cB=>
   rw[q2] at o1
   match cB,o1 with|[io],o1=>exact fun F' H' c dx a rx=>o1 F' H' c dx (s1.trans a.sF) (Good.gone g1 lo a) rx|[],o1=>exact o1.elim|_::_::_,o1=>exact o1.elim
 exact n6 F hr hb hx I1 r q
end
section
variable{pg:Program}{wd:World}{A:Around}{R:Result->Shared->Prop}{It:Addr}{fp wr:VL}{n:Nat}{P:Nat->Value->Prop}{Z:Nat->Heap->Prop}{dv:Value}
theorem y9(a d:Value):argsOk "max" ⟨[a],[("default",d)]⟩:=by unfold argsOk;kernel_rfl
theorem jN:(toString "max" ++ toString ".loop" : String)="max.loop" := by decide
theorem zI(W:Walks pg wd A.in1 It fp wr n P Z)(bt:Nat->Nat->Bool)(cm:CmpOf pg wd A.in1 .Gt P bt)(S:Addr)(nS:S∉fp) :
  ∀(m i:Nat)(t:Shared)(best:Value)(cap:Nat),n-(i+1)=m->i+1<=n->Z (i+1) t.heap->P (argBest bt i) best ->
  t.heap.get? S=some {cls:=.type "list",dict:=none,data:=.seq #[best,best] cap,slots:=#[]} ->
  (∀v g tk,P (argBest bt (n-1)) v->(∀b o,b∉wr->b≠S->t.heap.get? b=some o->g.get? b=some o)->R (.ok (.ret v)) {t with heap:=g,toks:=tk}) ->
  codeAny (model pg wd) A (.builtin "max.loop" ⟨[.ref It,.none,.ref S],[("default",dv)]⟩) R t:=by
 have nw:S∉wr:=fun q=>nS (W.sub _ q);intro m;induction m with|zero=>intro i t best cap e1 e2 hz hb hS fin;have en:i+1=n:=ZG;refine VQ uN ?_;rw[J8 sX _];refine ZS (m:=seqItems? (.ref S)) (XJ hS rfl ?_);refine ZS (m:=tryCatch (pyNext (.ref It)) _) (wD (W.done t _ _ (en ▸ hz) fun g tk kp=>?_));have HX:=kp S _ nw hS;refine ZS (m:=updateSeq S (fun _=>#[])) (Jl HX rfl (ZS (Aj (ZT ?_))));exact fin best _ tk (by rw[<-en];exact hb) fun b o q1 q2 z=>(Zj _ _ (Zo q2)).trans (kp b o q1 z)|succ m ih=>intro i t best cap e1 e2 hz hb hS fin;have lt:i+1<n:=ZG;refine VQ uN ?_;rw[J8 sX _];refine ZS (m:=seqItems? (.ref S)) (XJ hS rfl ?_);refine ZS (m:=tryCatch (pyNext (.ref It)) _) (wD (W.item (i+1) t _ _ lt hz fun v g tk hv RZ kp=>?_));have HX:=kp S _ nw hS;refine ZS (m:=tryCatch (holding [v,v] (richCompare .Gt v best >>= _)) _) (wD (S5 (ZS (cm (i+1) (argBest bt i) v best _ _ _ hv hb ?_))));refine ZS (S5 (RJ (ZS (Aj (ZT ?_)))));cases q:bt (i+1) (argBest bt i) with|true=>simp only[if_true];refine ZS (Jl HX rfl (ZS (Aj ?_)));rw[jN];refine ZT ⟨Nd sX _,ih (i+1) _ v _ ZG lt (W.frame _ _ _ RZ fun b mb o z=>(Zj _ _ (fun w:S=b=>nS (by rw[w];exact mb))).trans z) (by simp only[argBest,q,if_true];exact hv) (Zv _ HX rfl) fun v2 g2 QZ y1 y2=>?_⟩;exact fin v2 g2 QZ y1 fun b o q1 q2 z=>y2 b o q1 q2 ((Zj _ _ (Zo q2)).trans (kp b o q1 z))|false=>simp only[Bool.false_eq_true,if_false];refine ZS (Aj ?_);rw[jN];exact ZT ⟨Nd sX _,ih (i+1) _ best cap ZG lt RZ (by simp only[argBest,q,Bool.false_eq_true,if_false];exact hb) HX fun v2 g2 QZ y1 y2=>fin v2 g2 QZ y1 fun b o q1 q2 z=>y2 b o q1 q2 (kp b o q1 z)⟩
theorem v9(W:Walks pg wd A.in1 It fp wr n P Z)(bt:Nat->Nat->Bool)(cm:CmpOf pg wd A.in1 .Gt P bt)(S:Addr)(nS:S∉fp)(hz:Z 0 t.heap)
  (hS:t.heap.get? S=some {cls:=.type "list",dict:=none,data:=.seq #[] cap,slots:=#[]})
  (fin:∀v g tk,(n=0/\v=dv\/0<n/\P (argBest bt (n-1)) v)->(∀b o,b∉wr->b≠S->t.heap.get? b=some o->g.get? b=some o)->R (.ok (.ret v)) {t with heap:=g,toks:=tk}) :
  codeAny (model pg wd) A (.builtin "max.loop" ⟨[.ref It,.none,.ref S],[("default",dv)]⟩) R t:=by
 have nw:S∉wr:=fun q=>nS (W.sub _ q);refine VQ uN ?_;rw[J8 sX _];refine ZS (m:=seqItems? (.ref S)) (XJ hS rfl ?_);by_cases hn:0<n;refine ZS (m:=tryCatch (pyNext (.ref It)) _) (wD (W.item 0 t _ _ hn hz fun v g tk hv RZ kp=>?_));have HX:=kp S _ nw hS;refine ZS (m:=updateSeq S (fun _=>#[v,v])) (Jl HX rfl ?_);rw[jN];refine ZT ⟨Nd sX _,zI W bt cm S nS _ 0 _ v _ rfl hn (W.frame _ _ _ RZ fun b mb o z=>(Zj _ _ (fun w:S=b=>nS (by rw[w];exact mb))).trans z) hv (Zv _ HX rfl) fun v2 g2 QZ y1 y2=>?_⟩;exact fin v2 g2 QZ (.inr ⟨hn,y1⟩) fun b o q1 q2 z=>y2 b o q1 q2 ((Zj _ _ (Zo q2)).trans (kp b o q1 z));have n0:n=0:=ZG;refine ZS (m:=tryCatch (pyNext (.ref It)) _) (wD (W.done t _ _ (n0 ▸ hz) fun g tk kp=>?_));exact ZS (vM (ZT (fin dv g tk (.inl ⟨n0,rfl⟩) fun b o q1 _ z=>kp b o q1 z)))
end
def mx(a b:Int):Int:=if a<b then b else a
theorem xy(ns:Pa):∀k,k<ns.length->argBest (fun i j=>decide (ns.getD i 0 > ns.getD j 0)) k<=k/\ns.getD (argBest (fun i j=>decide (ns.getD i 0 > ns.getD j 0)) k) 0=((ns.drop 1).take k).foldl mx (ns.getD 0 0)
|0,_=>⟨ZU _,by simp[argBest]⟩|k+1,h=>by
 obtain⟨i1,i2⟩:=xy ns k ZG;have e:((ns.drop 1).take (k+1)).foldl mx (ns.getD 0 0)=mx (((ns.drop 1).take k).foldl mx (ns.getD 0 0)) (ns.getD (k+1) 0):=by
  rw[List.take_succ,List.foldl_append];have:(ns.drop 1)[k]?=some (ns.getD (k+1) 0):=by rw[List.getElem?_drop,show 1+k=k+1 by lia];simp[h]
  rw[this];rfl
 rw[e,<-i2];have st:argBest (fun i j=>decide (ns.getD i 0 > ns.getD j 0)) (k+1)=if decide (ns.getD (k+1) 0 > ns.getD (argBest (fun i j=>decide (ns.getD i 0 > ns.getD j 0)) k) 0)=true then k+1 else argBest (fun i j=>decide (ns.getD i 0 > ns.getD j 0)) k:=rfl
 rw[st];generalize argBest (fun i j=>decide (ns.getD i 0 > ns.getD j 0)) k=m at *;by_cases q:ns.getD (k+1) 0 > ns.getD m 0;rw[Y9 q,ZY rfl];exact⟨ZU _,by unfold mx;rw[ZY q]⟩;rw[Z0 q,Za (by decide)];exact⟨ZG,by unfold mx;rw[Za q]⟩
theorem tO(i:Int)(is:Pa):(i::is).getD (argBest (fun a b=>decide ((i::is).getD a 0 > (i::is).getD b 0)) ((i::is).length-1)) 0=is.foldl mx i:=by rw[(xy (i::is) ((i::is).length-1) ZH).2];simp
section
variable{pg:Program}{wd:World}{A:Around}{E:Y5}{s:Shared}
theorem G8{id:String}{b:Builtin}{args:MY}{kw:List (Str×Value)}{Q:Y5}(k0:builtinKind id=none)(p0:plainId id=true)(e0:entryFor table id=some b)(a0:argsOk id ⟨args,kw⟩)
  (go:wpAny (model pg wd) A.in1 (b ⟨args,kw⟩) (fun fin s'=>match fin with|.done f=>(match (Except.ok f:Result) with|.ok (.ret v)=>Q v s'|.ok _=>False|.error e=>E e s')|.again c'=>c'.quiet=true/\codeAny (model pg wd) A c' (fun r s'=>match r with|.ok (.ret v)=>Q v s'|.ok _=>False|.error e=>E e s') s') E s) :
  wpAny (model pg wd) A (call (.builtin id) args kw) Q E s:=by
 refine wpAny_call (codeAny_call_builtin p0 e0 ?_);simp only[checkBuiltinCall,k0];cases q:Manifest.signature? id with
 |none=>exact ZT go|some sig=>
  have h2:Bind.checkArgs id sig ⟨args,kw⟩=pure ():=by simpa only[argsOk,q] using a0
  simp only[h2];exact ZT go
theorem ze(hh:A.handled=none)(hl:s.heap.IsTuple q aG.toArray)(hi:IntsAre aG ns)
  (h:∀v h' tk,(ns=[]/\v=dv\/∃i is t,ns=i::is/\v=.int (is.foldl mx i) t)->(∀b o,s.heap.get? b=some o->h'.get? b=some o)->Q v {s with heap:=h',toks:=tk}) :
  wpAny (model pg wd) A (call (.builtin "max") [.ref q] [("default",dv)]) Q E s:=by
 refine G8 PySem.F.kind_max PySem.F.plain_max PySem.F.entry_max (y9 _ _) ?_;refine ZS (m:=Builtin.Builtins.bindParams "max" ["key","default"] 0 ⟨[],[("default",dv)]⟩) (XH (show _=pure [none,some dv] from rfl) ?_);refine ZS (ZT (ZS (LN hl ?_)));have lt:q<s.heap.objs.size:=by obtain⟨o,e,_⟩:=hl;exact ZW e
 have vals:∀i v,aG.toArray[i]?=some v->∃t,v=Value.int (ns.getD i 0) t:=fun i v e=>by
  have e':aG[i]?=some v:=by simpa using e
  clear e h hl;induction hi generalizing i with|nil=>simp at e'|cons n t hr ih=>cases i with|zero=>simp at e';exact⟨t,by simp[<-e']⟩|succ i=>exact ih i (by simpa using e')
 have W:=Walks.tuple (prog:=pg) (w:=wd) (A:=A.in1) hh s.heap.objs.size q (Zd lt) aG.toArray;refine ZS (Zk ?_);have hsz:(s.heap.push {cls:=.type "tuple_iterator",data:=.fields #[.ref q,.int 0 0]}).objs.size=s.heap.objs.size+1:=Sh ..;rw[jN];refine ZT ⟨Nd sX _,v9 W _ (CmpOf.ints_gt (fun i=>ns.getD i 0) vals) _ ?_ (cap:=0) ?_ ?_ fun v g tk hv kp=>?_⟩;intro hm;rw[hsz] at hm;simp at hm;rw[<-hm] at lt;exact Nw _ (Nat.lt_of_succ_lt lt);exact⟨⟨_,Y7 _ (Y8 _ rfl),rfl,rfl⟩,(hl.push _).push _⟩;exact Y8 _ rfl;have Pm:aG.length=ns.length:=by clear h hl vals W hv kp;induction hi with|nil=>rfl|cons n t hr ih=>simp[ih]
 refine h v g tk ?_ fun b o e=>kp b o ?_ ?_ (Y7 _ (Y7 _ e));rcases hv with ⟨h0,rfl⟩|⟨h0,hv⟩
 refine .inl ⟨?_,rfl⟩;have:aG.length=0:=by simpa using h0
 exact List.length_eq_zero_iff.mp ZG;obtain⟨t,e⟩:=vals _ _ hv;cases ns with
 |nil=>simp at h0;rw[Pm] at h0;simp at h0|cons i is=>
  refine .inr ⟨i,is,t,rfl,?_⟩;rw[e,<-tO i is];have:aG.toArray.size-1=(i::is).length-1:=by rw[<-Pm];simp
  rw[this]
 have:=ZW e;intro hm;have z:b=s.heap.objs.size:=by simpa using hm
 rw[z] at this;exact Nw _ this;have:=ZW e;intro z;rw[z,hsz] at this;exact Nw _ (Nat.lt_of_succ_lt this)
end
section
variable{X:Cx}{EX:XE}{L:Lc}{a b:Expr}{fa fb:M D}{p pos kp:Pos}
theorem GC(hc:X.calm=true)(qU:Gl X "max")(hm:X.mg "max" = none)(hv:bootBuiltins "max" = some (.builtin "max"))(ha:PV X EX a fa)(hb:PV X EX b fb)
  (hs:ZC X a []:=by rfl)
  (he:backTo pos (starEach [a] X.env)=(false,eval a X.env)::backTo pos (starEach [] X.env):=by rfl) (hp:(backTo pos (starEach [a] X.env)).any (·.1)=false:=by rfl)
  (TB:(backToKw pos (keywordEach [⟨some "default",b,kp⟩] X.env)).all (·.1.isSome)=true:=by rfl) (Np:(backToKw pos (keywordEach [⟨some "default",b,kp⟩] X.env)).any (·.1.isNone)=false:=by rfl)
  (W2:(backToKw pos (keywordEach [⟨some "default",b,kp⟩] X.env)).filterMap (·.1)=[("default" : Str)]:=by rfl) :
  PV X EX (.Call (.Name "max" p) [a] [⟨some "default",b,kp⟩] pos) (m2 mj fa fb):=by
 intro QF s σ H Q I ⟨G,F,ρ,g0,o⟩;refine Pz (eg I qU hm hv ?_ (by decide) (by decide));refine callWith_kw (bK (cu ha fL hs pos QF s σ H (fun xs H1=>∃x,xs=[x]/\lift (lc X EX) (RV (lc X EX)) fb σ H1 fun y H2=>(∃q ns,x=.ref q/\dj X.K H2 q (ns.map V.int)/\Q (match ns with|[]=>y|i::is=>.int (is.foldl mx i)) H2)) I ?_) fun us s1 ⟨vs,H1,I1,r1,q1⟩=>?_) he hp TB Np;refine aV g0 o (fun x r q=>q) fun F1 H1 bo d1 x s1 g1 r1 o1=>⟨x,rfl,aV g1 o1 (fun x r q=>q.same s1) fun F2 H2 mR d2 y s2 g2 r2 o2=>?_⟩;obtain⟨d,e,q⟩:=o2.opt;cases d1 with
  |tup ds=>simp only[mj] at e;cases e2:fB ds with|none=>rw[e2] at e;cases e|some ns=>rw[e2] at e;have Nz:=r1.same s2;obtain⟨_,_,rfl,h1,z1⟩:=Den.t Nz;have ev:=ints_of z1 e2;subst ev;refine⟨_,ns,rfl,dj.same h1 g2.sub,?_⟩;cases ns with|nil=>cases e;exact q F2 H2 y (s1.trans s2) g2 r2|cons i is=>cases e;exact q F2 H2 _ (s1.trans s2) g2 (.int _)
  |_=>simp only[mj,reduceCtorEq] at e
 obtain⟨x,rfl,lf⟩:=q1;obtain⟨u,rfl,ru⟩:=vals1 r1;refine kws_cons (bK (hb QF s1 σ H1 _ I1 lf) fun dv s2 ⟨y,H2,I2,ry,q,ns,hx,hq,k⟩=>kws_nil ?_);subst hx;cases ru;rw[W2];obtain⟨aG,rv,pl,_⟩:=I2.tuple hq;refine ze (I2.ok.hd hc) pl (L2.intsAre_of rv) fun v h' tk Ec VN=>?_;rcases Ec with ⟨rfl,rfl⟩|⟨i,is,t,rfl,rfl⟩
 exact⟨y,H2,I2.kept VN,ry,k⟩;exact⟨.int (is.foldl mx i),H2,I2.kept VN,⟨t,rfl⟩,k⟩
end
open Classical in
noncomputable def gO(F H:Hp)(σ:St)(ρ:aQ):Hp:=fun a=>if ∃(i:Nat)(s:Sl),ρ[i]?=some s/\cj s=true/\σ[i]?=some (some (V.ref a)) then H a else F a
section
variable{K:Frag}{mg:MG}{G:Fx}{F F4 H H4:Hp}{σ:St}{ρ qr:aQ}
theorem rD{i:Nat}{s:Sl}{a:Addr}(h:ρ[i]?=some s)(o:cj s=true)(e:σ[i]?=some (some (V.ref a))):gO F H σ ρ a=H a:=ZY ⟨i,s,h,o,e⟩
theorem jB(g:Good K mg G F H σ ρ)(a:Addr):(∃l d,a=l/\eG K mg F H l d/\F l=none/\gO F H σ ρ a=H a)\/gO F H σ ρ a=F a:=by by_cases z:∃(i:Nat)(s:Sl),ρ[i]?=some s/\cj s=true/\σ[i]?=some (some (V.ref a));refine .inl ?_;obtain⟨i,s,h1,h2,h3⟩:=id z;obtain⟨l,d,e,n,ob,_⟩:=(g.slot i s h1).own h2;rw[h3] at e;cases e;exact⟨a,d,rfl,ob,n,ZY z⟩;exact .inr (Za z)
theorem kH(g:Good K mg G F H σ ρ):aL F (gO F H σ ρ):=fun a o e=>by
 rcases jB g a with ⟨l,d,rfl,ob,n,q⟩|q
 rw[n] at e;cases e;rw[q];exact e
theorem Good.view(g:Good K mg G F H σ ρ):Good K mg ⟨H,gO F H σ ρ,[]⟩ (gO F H σ ρ) H σ (ρ.map de) where
 sF:=aL.refl _
 sub:=fun a o e=>by
  rcases jB g a with ⟨l,d,rfl,ob,n,q⟩|q
  rw[q] at e;exact e;rw[q] at e;exact g.sub _ _ e
 old:=fun a o e _=>e
 new:=fun a o e=>.inl e
 len:=by rw[Zf];exact g.len
 slot:=fun i s h=>by rw[Zs] at h;cases q:ρ[i]? with|none=>rw[q] at h;cases h|some t=>rw[q] at h;have e:de t=s:=ZV h;subst e;have sl:=g.slot i t q;cases t with|no=>trivial|sh d=>obtain⟨u,h1,h2⟩:=sl;exact⟨u,h1,h2.same (kH g)⟩|ow d=>obtain⟨l,h1,h2,h3,h4⟩:=sl;obtain⟨o,ho⟩:=h4.has;exact⟨_,h1,h4.den ho (kH g) (by rw[rD q rfl (join_some h1)];exact ho)⟩|io d=>obtain⟨l,h1,h2,h3,h4⟩:=sl;obtain⟨o,ho⟩:=h4.has;exact⟨_,h1,h4.den ho (kH g) (by rw[rD q rfl (join_some h1)];exact ho)⟩
 apart:=fun i j l s t h1 h2 o1=>by rw[Zs] at h1;cases q:ρ[i]? with|none=>rw[q] at h1;cases h1|some t=>rw[q] at h1;have e:de t=s:=ZV h1;subst e;cases t<;>cases o1
 m9:=fun i a h=>by cases h
 nH:=fun i a b h=>by cases h
open Classical in
noncomputable def gH(F F4 H:Hp):Hp:=fun a=>if (H a).isSome then F a else F4 a
theorem gR(h:H a=some o):gH F F4 H a=F a:=ZY (by rw[h];rfl)
theorem lP(h:H a=none):gH F F4 H a=F4 a:=Za (by rw[h];simp)
theorem oq(g:Good K mg G F H σ ρ)(gv:Good K mg ⟨H,gO F H σ ρ,[]⟩ F4 H4 σ qr)(h:F4 a=some o)(n1:∀xs,o≠.lst xs)(n2:∀xs ep,o≠.dK xs ep)(n3:∀C d fs,o≠.ins C d fs):gH F F4 H a=some o:=by
 cases q:H a with
 |none=>rw[lP q];exact h|some u=>
  rw[gR q];rcases gv.new a o h with z|z;have z':gO F H σ ρ a=some o:=z;rcases jB g a with ⟨l,d,rfl,ob,n,e⟩|e
  rw[e] at z';cases d with|lst ds=>obtain⟨vs,h1,_⟩:=ob;rw[h1] at z';cases z';exact absurd rfl (n1 _)|gg ks ds=>obtain⟨vs,ep,h1,_⟩:=ob;rw[h1] at z';cases z';exact absurd rfl (n2 _ _)|ins c ns ds=>obtain⟨C,dx,fs,h1,_⟩:=ob;rw[h1] at z';cases z';exact absurd rfl (n3 _ _ _)|_=>exact ob.elim
  rw[<-e];exact z';have z':H a=none:=z;rw[q] at z';cases z'
theorem dj.back(g:Good K mg G F H σ ρ)(gv:Good K mg ⟨H,gO F H σ ρ,[]⟩ F4 H4 σ qr)(h:dj K F4 a xs):dj K (gH F F4 H) a xs:=by
 rcases h with (h|⟨o,h⟩)|h
 exact .inl (.inl (oq g gv h (fun _ z=>nomatch z) (fun _ _ z=>nomatch z) fun _ _ _ z=>nomatch z));exact .inl (.inr ⟨o,oq g gv h (fun _ z=>nomatch z) (fun _ _ z=>nomatch z) fun _ _ _ z=>nomatch z⟩);exact .inr h
theorem xg{a b:Bool}(h:(a&&b)=true):a=true/\b=true:=(Zb _ _).mp h
theorem Den.back(g:Good K mg G F H σ ρ)(gv:Good K mg ⟨H,gO F H σ ρ,[]⟩ F4 H4 σ qr){v:V}{d:D}(h:Den K mg F4 v d):QY d=true->Den K mg (gH F F4 H) v d:=Den.rec (motive_1:=fun v d _=>QY d=true->Den K mg (gH F F4 H) v d) (motive_2:=fun vs ds _=>noLs ds=true->aK K mg (gH F F4 H) vs ds) (fun _=>.bz) (fun b _=>.bl b) (fun i _=>.int i) (fun x _=>.str x) (fun h _ r n=>.tup (dj.back g gv h) (r n)) (fun _ _ _ n=>nomatch n) (fun _ _ _ n=>nomatch n) (fun _ _ _ _ n=>nomatch n) (fun _ _ _ _ _ n=>nomatch n) (fun _=>.nil) (fun _ _ h t n=>.cons (h (xg n).1) (t (xg n).2)) h
theorem aK.back(g:Good K mg G F H σ ρ)(gv:Good K mg ⟨H,gO F H σ ρ,[]⟩ F4 H4 σ qr){vs:NC}{ds:Sg}(h:aK K mg F4 vs ds):noLs ds=true->aK K mg (gH F F4 H) vs ds:=h.ind (P:=fun vs ds=>noLs ds=true->aK K mg (gH F F4 H) vs ds) (fun _=>.nil) fun h _ t n=>.cons (h.back g gv (xg n).1) (t (xg n).2)
theorem Good.mO(g:Good K mg G F H σ ρ)(gv:Good K mg ⟨H,gO F H σ ρ,[]⟩ F4 H4 σ qr):aL F (gH F F4 H)/\Good K mg G (gH F F4 H) H4 σ ρ:=by
 have kept:∀a o,H a=some o->H4 a=some o:=fun a o e=>gv.old a o e fun i z=>by cases z
 have sF:aL F (gH F F4 H):=fun a o e=>by rw[gR (g.sub _ _ e)];exact e
 have nF:∀{l:Addr},F l=none->(∃o,H l=some o)->gH F F4 H l=none:=fun {l} h ⟨o,ho⟩=>by rw[gR ho];exact h
 refine⟨sF,?_⟩;exact {
  sF:=g.sF.trans sF
  sub:=fun a o e=>by cases q:H a with|none=>rw[lP q] at e;exact gv.sub _ _ e|some u=>rw[gR q] at e;exact kept _ _ (g.sub _ _ e)
  old:=fun a o e n=>kept _ _ (g.old a o e n)
  new:=fun a o e=>by cases q:H a with|none=>exact .inr (g.zP q)|some u=>rw[gR q] at e;exact g.new a o e
  len:=g.len
  slot:=fun i s h=>(g.slot i s h).same sF (fun l _ _ f t=>nF f t) fun l o _ _ e=>kept _ _ e
  apart:=g.apart
  m9:=fun i a h=>by obtain⟨⟨o,h1⟩,h2,h3⟩:=g.m9 i a h;exact⟨⟨o,kept _ _ h1⟩,nF h2 ⟨o,h1⟩,h3⟩
  nH:=g.nH}
theorem Loose.mO(g:Good K mg G F H σ ρ)(gv:Good K mg ⟨H,gO F H σ ρ,[]⟩ F4 H4 σ qr)(lo:Loose K mg ⟨H,gO F H σ ρ,[]⟩ F4 H4 σ qr l (.lst ds))(n:noLs ds=true):Loose K mg G (gH F F4 H) H4 σ ρ l (.lst ds):=by have h0:H l=none:=lo.n0;obtain⟨vs,h1,h2⟩:=lo.ob;refine⟨by rw[lP h0];exact lo.nF,g.zP h0,⟨vs,h1,aK.back g gv h2 n⟩,fun i s h ow e=>?_⟩;obtain⟨m,d,e1,e2,e3,_⟩:=(g.slot i s h).own ow;rw[e] at e1;cases e1;obtain⟨u,hu⟩:=e3.has;rw[h0] at hu;cases hu
end
section
variable{X:Cx}{EX:XE}{e elt tg Om:Expr}{ifs:Rz}{pos:Pos}{it:M (List D)}{gf:D->M Unit}{ft:M Bool}{fe f:M D}{js:XT}{scope:Scope}{N':R5}
theorem vb(o:Out (kf f ρ) P E):Out (f (ρ.map de)) (fun d _=>∃ds,d=.lst ds/\noLs ds=true/\P d ρ) (fun _ _=>False):=by unfold kf at o;cases q:f (ρ.map de) with|no=>rw[q] at o;exact o.elim|exc x r=>rw[q] at o;exact o.elim|ok d r=>rw[q] at o;cases d with|lst ds=>dsimp only at o;split at o;rename_i hn;exact⟨ds,rfl,hn,o⟩;exact o.elim|_=>exact o.elim
theorem uR(h:PV X EX e f):PV X EX e (jr f):=L2.PE.le h fun σ H Q bA=>lf bA fun G F ρ g0 o=>
 ⟨_,_,_,Good.view g0,(show Out (f (ρ.map de)) (fun d _=>QY d=true/\eM (lc X EX) (RV (lc X EX)) G F σ Q d ρ) (fun _ _=>False) by
  unfold jr at o;cases q:f (ρ.map de) with|no=>rw[q] at o;exact o.elim|exc x r=>rw[q] at o;exact o.elim|ok d r=>rw[q] at o;dsimp only at o;split at o;rename_i hn;exact⟨hn,o⟩;exact o.elim).mono (fun d r ⟨hn,q⟩ F4 H4 b s4 g4 den=>by
  obtain⟨u1,u2⟩:=Good.mO g0 g4;exact q _ _ _ u1 u2 (Den.back g0 g4 den hn)) fun _ _ z=>z.elim⟩
theorem Hm(n i:Nat){y:Str}{py lB:Pos}(hN:X.N.Nodup)(hy:X.N[i]?=some y)(hx:Loc X.env.scope y)(hc:X.calm=true)(c:bJ X scope N')(hn:X.N.length+n+1=N'.length)(hi:tw X EX tg Om it)(sj:∀d r x r',gf d r≠.exc x r')(tD:∀j∈js,X.N.length<=j/\j<X.N.length+n)
  (hg:∀C s H ex,w8 (bE X scope C N' s H ex) EX tg js gf) (ht:∀C s H ex EX,Ao (bE X scope C N' s H ex) EX ifs ft) (he:∀C s H ex EX,PV (bE X scope C N' s H ex) EX elt fe)
  (ET:swapsWith (.ListComp elt [⟨tg,Om,ifs,0⟩] scope pos) (some (.Name y py)) lB.line X.env=pure true:=by rfl) (hs:∀x,foldedSetIterable Om X.env x=pure x:=by exact ZP)
  (zk:ZD X y:=by exact ZL):mS X EX (.Assign [.Name y py] (.ListComp elt [⟨tg,Om,ifs,0⟩] scope pos) lB) (fU i (kf (aS n it gf ft fe))):=by
 intro QF s σ H E I h;obtain⟨G,F,ρ,g0,o⟩:=h;rw[Fm _ _ _ _ ET];refine ZS (Au (ZS ?_));show wpAny _ X.A (do let _ <-comprehension (.ListComp elt [⟨tg,Om,ifs,0⟩] scope pos) scope X.env _ (newList []) false (firstIter [⟨tg,Om,ifs,0⟩] X.env) (some (assign (.Name y py) X.env))) _ _ s;refine ZS (R9 (jG (use:=some (assign (.Name y py) X.env)) (QQ:=fun _ s'=>SP X QF E .next s') n hc c hn hi sj tD hg ht (xw:=fun _ _ _ _ _ _=>False) (fun C s H ex=>he C s H ex _) (fun _ _ _ _ _ _ _ _ _ _ z=>z.elim) hs I (Good.view g0) (vb (Out.YV o)) (fun x r q=>q.elim) fun F4 H4 s5 qr d l C mm e4 g4 lo post IX EO FC=>?_) (fun _ s' hq=>ZT (ZT hq)) fun _ _ e=>e);show wpAny _ X.A (assign (.Name y py) X.env (.ref l)) _ _ s5;refine uK (jT IX hN hy hx (v:=.ref l) rfl (fun s6 I6 zz=>?_) zk);obtain⟨a,sb,ha⟩:=zz;have OA:C≠a:=by rcases ha with rfl|ha;exact FC.2.1;exact fun z=>FC.2.2.2.2.1 _ _ ha z.symm
 obtain⟨ds,rfl,Ih,post⟩:=post;obtain⟨u1,u2⟩:=Good.mO g0 g4;have Ue:=Loose.mO g0 g4 lo Ih;obtain⟨mR,g2,q⟩:=pz (L:=lc X EX) u2 Ue (Out.YV post);refine⟨mm,EO.sameBut sb OA,fun h' Eb=>⟨σ.set i (some (.ref l)),H4,?_,q _ _ _ u1 g2⟩⟩;exact I6.turned (t':=s6.toks) (fun b ob hb e=>Eb.extBut b ob hb e) FC.1 FC.2.1 FC.2.2.2.1 FC.2.2.2.2.1 FC.2.2.2.2.2
end
section
variable{K:Frag}{mg:MG}{F:Hp}
theorem nV:∀{aR:List (Key×V)}{ds:Sg}{k:Key}{d:D},aK K mg F (aR.map (·.2)) ds->rT (aR.map (·.1)) ds k=some d->∃v,jA aR k=some v/\Den K mg F v d|[],_,_,_,_,e=>by cases e|p::aR,d'::ds,k,d,.cons h t,e=>by rw[ZZ,rT] at e;by_cases c:p.1=k;rw[ZY c] at e;cases e;exact⟨p.2,u9 c,h⟩;rw[Za c] at e;obtain⟨v,h1,h2⟩:=nV t e;exact⟨v,(pQ c).trans h1,h2⟩
theorem vF:∀{aR:List (Key×V)}{ds:Sg}{k:Key},aK K mg F (aR.map (·.2)) ds->rT (aR.map (·.1)) ds k=none->jA aR k=none|[],_,_,_,_=>rfl|p::aR,d'::ds,k,.cons h t,e=>by rw[ZZ,rT] at e;by_cases c:p.1=k;rw[ZY c] at e;cases e;rw[Za c] at e;exact(pQ c).trans (vF t e)
theorem Q0T{aR:List (Key×V)}{ds:Sg}{k:Key}(h:aK K mg F (aR.map (·.2)) ds):(jA aR k).isSome=(rT (aR.map (·.1)) ds k).isSome:=by cases e:rT (aR.map (·.1)) ds k with|none=>rw[vF h e];rfl|some d=>obtain⟨v,h1,_⟩:=nV h e;rw[h1];rfl
theorem Du{aR:List (Key×V)}{p:Key×V}{k:Key}{v:V}(hn:¬k∈aR.map (·.1))(e:p.1=k):putK (p::aR) k v=(p.1,v)::aR:=by unfold putK;rw[ZY (by simp[e])];simp only[List.map_cons,if_pos e];congr 1;refine(List.map_congr_left fun q hq=>?_).trans (List.map_id aR);exact Za fun(z:q.1=k)=>hn (by rw[<-z];exact Z8 hq)
theorem Dt{aR:List (Key×V)}{p:Key×V}{k:Key}{v:V}(e:¬p.1=k):putK (p::aR) k v=p::putK aR k v:=by unfold putK;simp only[List.any_cons,Z0 e,Bool.false_or];split;simp[e];rfl
theorem xB(hx:Den K mg F v x):∀{aR:List (Key×V)}{ds:Sg},(aR.map (·.1)).Nodup->aK K mg F (aR.map (·.2)) ds->(putK aR k v).map (·.1)=(vG k x (aR.map (·.1)) ds).1/\aK K mg F ((putK aR k v).map (·.2)) (vG k x (aR.map (·.1)) ds).2|[],_,_,.nil=>⟨rfl,.cons hx .nil⟩|p::aR,d::ds,hn,.cons h t=>by have Cf:=List.nodup_cons.mp hn;rw[ZZ,vG];by_cases c:p.1=k;rw[ZY c,Du (c ▸ Cf.1) c];exact⟨rfl,.cons hx t⟩;rw[Za c,Dt c];obtain⟨h1,h2⟩:=xB hx Cf.2 t;exact⟨by rw[ZZ,h1],.cons h h2⟩
end
section
variable{X:Cx}{QF:Y6}{σ:St}{H:Hp}{s:Shared}{a:Addr}{aR:List (Key×V)}{ep:Nat}{k:Key}{v:V}{u r:Value}{A:Around}{E:Y5}
theorem iW(I:Inv X QF σ H s)(e:H a=some (.dK aR ep)):aR.length<=sizeLine/\(a == sysModules)=false/\∃vs,KV aR vs/\s.heap.DictAt (eC X.prog X.w) a vs ep:=show dm X.prog X.w H s.heap a (.dK aR ep) from I.b8 a _ e
theorem Bz(I:Inv X QF σ H s)(e:H a=some (.dK aR ep)):(aR.map (·.1)).Nodup:=by obtain⟨_,_,vs,r,d⟩:=iW I e;have:=d.nodup;rwa [<-KV.keys r] at this
theorem rS(I:Inv X QF σ H s)(e:H a=some (.dK aR ep)):s.TypeIs (.ref a) "dict" /\ (∀b,Value.ref a=.ref b->∃ob,s.heap.get? b=some ob/\ob.dict=none):=by obtain⟨_,_,vs,_,d⟩:=iW I e;refine⟨d.dictOf.typeIs,fun b q=>?_⟩;cases q;obtain⟨ob,_,h1,h2,_⟩:=d;exact⟨ob,h1,h2.2.1⟩
end
section
variable{X:Cx}{EX:XE}{e a b c:Expr}{fa fb fc:M D}{pos:Pos}{ta tb tc:TE}
theorem Df(ha:PE X a ta)(hb:PE X b tb)(hs:Jb b):PE X (.Subscript a b pos) (fun σ H Q=>ta σ H fun x H1=>tb σ H1 fun y H2=>∃p aR ep k v,x=.ref p/\H2 p=some (.dK aR ep)/\y=kV k/\jA aR k=some v/\Q v H2):=by intro QF s σ H Q I h;refine G2 PySem.F.slot_dict_getitem.lookup hs (bK (ha QF s σ H _ I h) fun u s1 ⟨x,H1,I1,rx,q1⟩=>bK (hb QF s1 σ H1 _ I1 q1) fun iv s2 zz=>?_);obtain⟨y,H2,I2,ry,p,aR,ep,k,v,ex,eh,ey,l,q2⟩:=zz;subst ex ey;obtain rfl:u=Value.ref p:=rx;refine⟨(rS I2 eh).1,?_⟩;obtain⟨z,hd,vs,rel,dd⟩:=iW I2 eh;obtain⟨w',hw,QE⟩:=jW.some_of (v:=v) (o:=valueAt vs k) (by rw[<-l];exact rel.val k);exact wpAny_getItem_of (uw ry) dd.dictOf.mapOf hw ⟨v,H2,I2.tok _,QE,q2⟩
theorem iP(ha:PV X EX a fa)(hb:PV X EX b fb)(hs:Jb b:=by exact ZQ):PV X EX (.Subscript a b pos) (m2 oy fa fb):=L2.PE.le (Df ha hb hs) fun σ H Q bA=>dg bA fun G F F1 H1 bo d1 x s1 g1 r1 o1=>aV g1 o1 (fun x r q=>q.same s1) fun F2 H2 mR d2 y s2 g2 r2 o2=>by
 obtain⟨d,e,q⟩:=o2.opt;cases r1 with
 |gg h r=>cases r2 with|int k=>obtain⟨v,h1,h2⟩:=nV (r.same s2) e;exact⟨_,_,_,.inl k,v,rfl,g2.sub _ _ (s2 _ _ h),rfl,h1,q F2 H2 v (s1.trans s2) g2 h2⟩|_=>cases e
 |_=>cases e
theorem yE{neg:Bool}(ha:PE X a ta)(hb:PE X b tb):PC X (if neg then .NotIn else .In) a b (fun σ H Q=>ta σ H fun y H1=>tb σ H1 fun x H2=>∃p aR ep k,x=.ref p/\H2 p=some (.dK aR ep)/\y=kV k/\Q (.bl (if neg then !(jA aR k).isSome else(jA aR k).isSome)) H2):=by intro QF s σ H Q I h;refine bK (ha QF s σ H _ I h) fun iv s1 ⟨y,H1,I1,ry,q1⟩=>bK (hb QF s1 σ H1 _ I1 q1) fun u s2 zz=>?_;obtain⟨x,H2,I2,rx,p,aR,ep,k,ex,eh,ey,q2⟩:=zz;subst ex ey;obtain rfl:u=Value.ref p:=rx;obtain⟨z,hd,vs,rel,dd⟩:=iW I2 eh;cases neg with|false=>refine wpAny_in_of (uw ry) hd dd.dictOf.mapOf ?_;rw[<-(rel.val k).isSome_eq];exact⟨.bl (jA aR k).isSome,H2,I2.tok _,rfl,q2⟩|true=>refine wpAny_notIn_of (uw ry) hd dd.dictOf.mapOf ?_;rw[<-(rel.val k).isSome_eq];exact⟨.bl (!(jA aR k).isSome),H2,I2.tok _,rfl,q2⟩
theorem Ip(σ:St)(H:Hp)(Q:VK)(h:lift (lc X EX) (RV (lc X EX)) (m2 (rR neg) fa fb) σ H Q):lift (lc X EX) (RV (lc X EX)) fa σ H fun y H1=>lift (lc X EX) (RV (lc X EX)) fb σ H1 fun x H2=>∃p aR ep k,x=.ref p/\H2 p=some (.dK aR ep)/\y=kV k/\Q (.bl (if neg then !(jA aR k).isSome else(jA aR k).isSome)) H2:=by
 obtain⟨G,F,ρ,g0,o⟩:=h;refine aV g0 o (fun x r q=>q) fun F1 H1 bo d1 x s1 g1 r1 o1=>aV g1 o1 (fun x r q=>q.same s1) fun F2 H2 mR d2 y s2 g2 r2 o2=>?_;obtain⟨d,e,q⟩:=o2.opt;cases r1 with
  |int k=>cases r2 with|gg h r=>cases e;refine⟨_,_,_,.inl k,rfl,g2.sub _ _ h,rfl,q F2 H2 _ (s1.trans s2) g2 ?_⟩;rw[Q0T r];exact .bl _|_=>cases e
  |_=>cases e
theorem Mn(ha:PV X EX a fa)(hb:PV X EX b fb)(hm:behindInMarks .In b=false:=by rfl):PV X EX (.Compare a [.In] [b] pos) (m2 (rR false) fa fb):=L2.PE.le (LZ (yE (neg:=false) ha hb) hm) Ip
theorem FU(ha:PV X EX a fa)(hb:PV X EX b fb)(hm:behindInMarks .NotIn b=false:=by rfl):PB X EX (.Compare a [.NotIn] [b] pos) (tB (m2 (rR true) fa fb)):=IK (Mi (yE (neg:=true) ha hb) hm) (fun _ _ _ h=>h) Ip
theorem Dg(ha:PE X a ta)(hb:PE X b tb)(hc:PE X c tc)(m:M2 X a "get" UP b c pos):PE X (.Call (.Attribute a "get" UP) [b,c] [] pos) (fun σ H Q=>ta σ H fun x H1=>∃p aR ep,x=.ref p/\H1 p=some (.dK aR ep)/\tb σ H1 fun y H2=>tc σ H2 fun z H3=>∃aR ep k,H3 p=some (.dK aR ep)/\y=kV k/\Q ((jA aR k).getD z) H3):=by intro QF s σ H Q I h;refine wpAny_Call_method m.base m.j4 m.line PySem.F.plainAttrs_dict PySem.F.slot_dict_get PySem.F.type_dict_get (bK (ha QF s σ H _ I h) fun u s1 zz=>?_);obtain⟨x,H1,I1,rx,p,aR,ep,ex,eh,q1⟩:=zz;subst ex;obtain rfl:u=Value.ref p:=rx;refine⟨(rS I1 eh).1,(rS I1 eh).2,?_⟩;rw[m.trees];refine tK rfl (Calls.evalArgs_plain (ve (bK (hb QF s1 σ H1 _ I1 q1) fun iv s2 ⟨y,H2,I2,ry,q2⟩=>ve (bK (hc QF s2 σ H2 _ I2 q2) fun fv s3 ⟨z,H3,I3,rz,aR,ep,k,eh,ey,q3⟩=>PH ?_))));subst ey;obtain⟨_,hd,vs,rel,dd⟩:=iW I3 eh;exact call_meetsIn PySem.F.slot_dict_get dd.dictOf.typeIs PySem.F.entry_dict_get (PySem.F.args_dict_get_3 _ _ _) (meets_dict_get_default (eC X.prog X.w) p (uw ry) hd fv) ⟨_,dd.dictOf.mapOf,_,H3,I3.tok _,(rel.val k).getD rz,q3⟩
theorem uP{UP:Pos}(ha:PV X EX a fa)(hb:PV X EX b fb)(hc:PV X EX c fc)(m:M2 X a "get" UP b c pos:=by exact⟨rfl,rfl,rfl,rfl⟩):PV X EX (.Call (.Attribute a "get" UP) [b,c] [] pos) (nk fa fb fc):=L2.PE.le (Dg ha hb hc m) fun σ H Q bA=>dg bA fun G F F1 H1 bo d1 x s1 g1 r1 o1=>by
 rcases Out.ite o1 with ⟨ht,o1⟩|⟨_,o1⟩
 cases r1 with
 |gg h r=>
  refine⟨_,_,_,rfl,g1.sub _ _ h,aV g1 o1 (fun x r q=>q.same s1) fun F2 H2 mR d2 y s2 g2 r2 o2=>aV g2 o2 (fun x r q=>q.same (s1.trans s2)) fun F3 H3 U0 d3 z s3 g3 r3 o3=>?_⟩;obtain⟨d,e,q⟩:=o3.opt;cases r2 with
  |int k=>have r':=r.same (s2.trans s3);have e':=ZV e;refine⟨_,_,.inl k,g3.sub _ _ (s3 _ _ (s2 _ _ h)),rfl,q F3 H3 _ ((s1.trans s2).trans s3) g3 ?_⟩;rw[<-e'];cases q2:rT _ _ (Sum.inl k) with|none=>rw[vF r' q2];exact r3|some d'=>obtain⟨v,h1,h2⟩:=nV r' q2;rw[h1];exact h2
  |_=>cases e
 |_=>cases ht
 exact o1.elim
theorem sM:PF X EX (.Dict [] [] pos) (mC (.gg [] [])):=fun QF s σ H Q I zz=>by obtain⟨G,F,ρ,g,o⟩:=zz;have hp:=I.b8.fresh (ZU s.heap.objs.size);have dd:(s.heap.push {cls:=.type "dict",data:=.dict #[]}).DictAt (eC X.prog X.w) s.heap.objs.size [] 0:=⟨_,_,Y8 _ rfl,⟨rfl,rfl,rfl⟩,rfl,fun _ h=>(by simp at h),.nil,ZH⟩;have ob:dm X.prog X.w H (s.heap.push {cls:=.type "dict",data:=.dict #[]}) s.heap.objs.size (.dK [] 0):=⟨Zp _,beq_eq_false_iff_ne.mpr (Zo (Zd I.big)),[],.nil,dd⟩;exact wpAny_Dict_empty ⟨.ref s.heap.objs.size,_,I.laid (a:=s.heap.objs.size) (o:=.dK [] 0) (t':=s.toks) (fun _ _ q=>Y7 _ q) (ZU _) ob,rfl,o F _ _ (aL.refl _) (g.made hp) ⟨_,rfl,g.loose hp ⟨[],0,aM,rfl,.nil⟩⟩⟩
end
def SF(a:Addr)(aR:List (Key×V))(ep:Nat):It:=⟨fun i H=>H a=some (.dK aR ep)/\i<aR.length,fun i H x H'=>H'=H/\∃p,aR[i]?=some p/\x=kV p.1,fun i H=>H a=some (.dK aR ep)/\i=aR.length⟩
theorem Pe(h:(eC P w).is k u=true):RelV (kV k) u:=by
 rcases bP (k:=k) (v:=u) h with ⟨i,t,rfl,rfl⟩|⟨x,t,rfl,rfl⟩
 exact⟨t,rfl⟩;exact⟨t,rfl⟩
theorem Ag{P:Program}{w:World}{K:Frag}{tg:Expr}(a it:Addr)(aR:List (Key×V))(ep:Nat):Turn P w K tg (SF a aR ep) [it] it (fun i h=>h.IsKeyIter it a i aR.length ep) where
 mem:=ZH
 obj:=fun i h st b hb=>by
  have e:b=it:=by simpa using hb
  subst e;obtain⟨o,e,c,d⟩:=st;exact⟨o,e,fun v z=>by rw[d] at z;cases z⟩
 keep:=fun i h h' st k=>st.at fun o e=>k it ZH o e
 item:=by
  intro X hP hw hK hc i QF s σ H E I hf st hg;subst hP hw hK;obtain⟨eh,hi⟩:=hg;obtain⟨z,hd,vs,rel,dd⟩:=iW I eh;have hl:aR.length=vs.length:=v5 rel;obtain⟨f0,f1,f2,f3,f4,f5⟩:=hf it ZH;obtain⟨⟨k,x⟩,hx⟩:∃p,vs[i]?=some p:=⟨_,Z4 ZG⟩;have hk:aR[i]?=some aR[i]:=Z4 hi;have W4:aR[i].1=k:=by have h1:=congrArg (fun l=>l[i]?) (KV.keys rel);simp only[List.getElem?_map,hk,hx,Option.map_some] at h1;exact ZV h1
  rw[hl] at st;refine wpAny_pyNext_dict_item st dd hx fun key h' JV nN sb=>?_;have I1:Inv X QF σ H {s with heap:=h'}:=I.turned (t':=s.toks) (fun b o hb e=>(sb.2 b hb).trans e) f0 f1 f3 f4 f5;obtain⟨o,e,c,d⟩:=id nN;rw[<-hl] at nN;exact⟨key,rfl,qT (s:={s with heap:=h'}) e c d (by decide) ⟨kV k,H,I1,Pe JV,⟨rfl,_,hk,by rw[W4]⟩,nN,fun b hb=>(hf b hb).1⟩⟩
 done:=by intro X hP hw hK hc i QF s σ H E I hf st hg;subst hP hw hK;obtain⟨eh,hi⟩:=hg;obtain⟨z,hd,vs,rel,dd⟩:=iW I eh;have hl:aR.length=vs.length:=v5 rel;obtain⟨f0,f1,f2,f3,f4,f5⟩:=hf it ZH;rw[hl] at st hi;exact wpAny_pyNext_dict_end (I.ok.hd hc) st dd (by simp[hi]) fun h' eb=>⟨rfl,I.turned (t':=s.toks) (fun b o hb e=>eb b o hb e) f0 f1 f3 f4 f5⟩
 self:=fun _ _ _ _ _ st h=>wpAny_pyIter_keyiter st h
section
variable{X:Cx}{EX:XE}{L:Lc}{e a b c tg:Expr}{fa fb fe:M D}{pos:Pos}
theorem Gj{l:Expr}{tl:TE}(hl:PE X l tl):PI X tg l (fun σ H R=>tl σ H fun x H1=>∃a aR ep,x=.ref a/\H1 a=some (.dK aR ep)/\R (SF a aR ep) H1):=by
 intro QF s σ H R I h;refine bK (hl QF s σ H _ I h) fun v s1 zz=>?_;obtain⟨x,H1,I1,r1,a,aR,ep,e,eh,q⟩:=zz;subst e;cases r1;obtain⟨z,hd,vs,rel,dd⟩:=iW I1 eh;have hl:aR.length=vs.length:=v5 rel;refine wpAny_pyIter_dict hd dd ?_;refine⟨s1.heap.objs.size,[s1.heap.objs.size],_,_,H1,rfl,I1.kept (t':=s1.toks) fun b o e=>Y7 _ e,Ag a _ aR ep,⟨_,Y8 _ rfl,rfl,by rw[hl];rfl⟩,fun b hb=>?_,q⟩;have e:b=s1.heap.objs.size:=by simpa using hb
 subst e;exact I1.oK (ZU _) (I1.b8.fresh (ZU _))
theorem Q0g{K:Frag}{mg:MG}{F:Hp}(k:Key):Den K mg F (kV k) (Cw k):=by cases k with|inl i=>exact .int i|inr x=>exact .str x
theorem Cs{G:Fx}{F:Hp}{a:Addr}{aR:List (Key×V)}{ep:Nat}(h:F a=some (.dK aR ep)):D5 L G F (SF a aR ep) ((aR.map (·.1)).map Cw):=fun σ i F' H' ρ s g=>by have h':=g.sub _ _ (s _ _ h);refine⟨fun hi=>⟨h',by simpa using hi⟩,fun hi=>⟨h',by simpa using hi⟩,fun x D4 zz=>?_⟩;obtain⟨e,p,hp,hx⟩:=zz;subst e;refine⟨F',aL.refl _,g,fun d hd=>?_⟩;rw[Zs,Zs,hp] at hd;have:Cw p.1=d:=ZV hd;subst this;rw[hx];exact Q0g p.1
theorem Hj(h:PV X EX e fe):tw X EX tg e (uz fe):=L2.PI.le (Gj h) fun σ H Q bA=>dg bA fun G F F1 H1 bo d1 y s1 g1 r1 o1=>by obtain⟨ds,e,q⟩:=o1.opt;cases r1 with|gg h r=>cases e;exact⟨_,_,_,rfl,g1.sub _ _ h,q F1 H1 _ s1 g1 (Cs h)⟩|_=>cases e
end
section
variable{X:Cx}{EX:XE}{L:Lc}{e a b c value:Expr}{fa fb fe fk fv:M D}{pos:Pos}{x:Str}{to ti tv:TE}
theorem Dn(ho:PE X o to)(hi:PE X i ti)(hv:PE X value tv)(hs:swapsWith value (some (.Subscript o i UR)) pos.line X.env=pure false) : PS X (.Assign [.Subscript o i UR] value pos) (fun D σ H=>tv σ H fun v H1=>to σ H1 fun x H2=>ti σ H2 fun y H3=>∃a aR ep k,x=.ref a/\H3 a=some (.dK aR ep)/\y=kV k/\aR.length<sizeLine/\((aR.map (·.1)).Nodup->∀oz,D.nx σ (upd H3 a (.dK (putK aR k v) oz)))):=by
 intro QF s σ H D I h;refine wpAny_Assign_Subscript (bK (hv QF s σ H _ I h) fun r s1 ⟨v,H1,I1,rv,q1⟩=>bK (ho QF s1 σ H1 _ I1 q1) fun u s2 ⟨x,H2,I2,rx,q2⟩=>bK (hi QF s2 σ H2 _ I2 q2) fun iv s3 zz=>?_) hs;obtain⟨y,H3,I3,ry,a,aR,ep,k,ex,eh,ey,hl,q3⟩:=zz;subst ex ey;obtain rfl:u=Value.ref a:=rx;obtain⟨z,hd,vs,rel,dd⟩:=iW I3 eh;have hz:vs.length<=sizeLine:=by rw[<-rel.length];exact z
 have hl:(putK aR k v).length<=sizeLine:=by have:=uy aR k v;lia
 refine wpAny_setItem_pairs (hsz:=hz) (uw ry) dd.dictOf fun h' SX hs=>?_;obtain⟨oz,da⟩:=SX.dictAt;have he:∃q,h'.get? a=some q:=let ⟨q,_,hq,_⟩:=da;⟨q,hq⟩;refine⟨σ,_,I3.write (x:=a) (e:=a) (by rw[eh];exact True.intro) (.inl rfl) (fun b q hb z=>(hs.2 b hb).trans z) he (o:=.dK (putK aR k v) oz) ⟨hl,hd,_,rel.put k rv,da⟩,q3 (Bz I3 eh) oz⟩
theorem zY{G:Fx}{F H:Hp}{σ:St}{ρ:aQ}{k:Nat}{kd x:D}{v:V}{P:Unit->aQ->Prop}{E:Xn->aQ->Prop}(g:L.Good G F H σ ρ)(r:Den L.K L.mg F v x)(o:Out (fD k (putD kd x) ρ) P E) : ∃l aR ep i bO,kd=.int i/\σ[k]?=some (some (V.ref l))/\H l=some (.dK aR ep)/\aR.length<sizeLine/\((aR.map (·.1)).Nodup->∀oz,L.Good G F (upd H l (.dK (putK aR (.inl i) v) oz)) σ bO)/\P () bO:=by
 unfold fD at o;cases q:own ρ[k]? with
 |none=>rw[q] at o;exact o.elim|some d=>
  rw[q] at o;dsimp only at o;cases q2:putD kd x d with
  |none=>rw[q2] at o;exact o.elim|some d'=>
   rw[q2] at o;have o':P () (cE k d' ρ):=o;cases d with
   |gg ks vs=>
    cases kd with
    |int i=>
     simp only[putD] at q2;split at q2;rename_i m7;cases q2;cases q3:ρ[k]? with
     |none=>rw[q3] at q;cases q|some s=>
      rw[q3] at q;have sl:=g.slot k s q3;have fin:∀l s',σ[k]?=some (some (V.ref l))->cj s=true->eG L.K L.mg F H l (.gg ks vs)->((∃e,s=.ow e/\s'=.ow (.gg (vG (.inl i) x ks vs).1 (vG (.inl i) x ks vs).2))\/(∃e,s=.io e/\s'=.io (.gg (vG (.inl i) x ks vs).1 (vG (.inl i) x ks vs).2)))->cE k (.gg (vG (.inl i) x ks vs).1 (vG (.inl i) x ks vs).2) ρ=ρ.set k s'->∃l aR ep i' bO,D.int i=.int i'/\σ[k]?=some (some (V.ref l))/\H l=some (.dK aR ep)/\aR.length<sizeLine/\((aR.map (·.1)).Nodup->∀oz,L.Good G F (upd H l (.dK (putK aR (.inl i') v) oz)) σ bO)/\P () bO:=fun l s' z1 z2 z3 z4 z5=>by
       obtain⟨aR,ep,y1,y2,y3⟩:=z3;refine⟨l,aR,ep,i,ρ.set k s',rfl,z1,y1,?_,fun hn oz=>?_,by rw[<-z5];exact o'⟩;have:aR.length=ks.length:=by rw[<-y2];simp
       exact Us ZG (show 1000<sizeLine by decide);subst y2;obtain⟨h1,h2⟩:=xB r (k:=.inl i) hn y3;exact Good.write g q3 z2 z1 z4 ⟨_,oz,aM,h1,h2⟩
      cases s with|no=>cases q|sh e=>cases q|ow e=>cases q;obtain⟨l,z1,z2,z3,z4⟩:=sl;exact fin l _ (join_some z1) rfl z4 (.inl ⟨_,rfl,rfl⟩) (by unfold cE;rw[q3])|io e=>cases q;obtain⟨l,z1,z2,z3,z4⟩:=sl;exact fin l _ (join_some z1) rfl z4 (.inr ⟨_,rfl,rfl⟩) (by unfold cE;rw[q3])
     cases q2
    |_=>cases q2
   |_=>cases q2
theorem tu(i:Nat){p1 p2:Pos}(hk:PV X EX b fk)(hv:PV X EX value fv)(hN:X.N[i]?=some x:=by rfl)(J2:xc X.env.scope x:=by exact ZK)(hd:Y3 x:=by decide)(j9:Y4 x:=by decide) (hs:swapsWith value (some (.Subscript (.Name x p1) b p2)) pos.line X.env=pure false:=by rfl):mS X EX (.Assign [.Subscript (.Name x p1) b p2] value pos) (uV i fk fv):=
 L2.PS.le (Dn (gQ hN J2 hd j9) hk hv hs) fun E σ H bA=>vW bA fun G F ρ g0 o=>aV g0 o (fun x r q=>q.x) fun F1 H1 bo d1 v s1 g1 r1 o1=>by by_cases hl:(own bo[i]?).isSome=true;rw[ZY hl] at o1;obtain⟨l,d0,z1,_,_⟩:=lr (L:=lc X EX) g1 hl;refine⟨_,z1,aV g1 o1 (fun x r q=>(q.same s1).x) fun F2 H2 mR d2 y s2 g2 r2 o2=>?_⟩;obtain⟨l',aR,ep,k,bO,y0,y1,y2,y3,g3,q⟩:=zY (L:=lc X EX) g2 (r1.same s2) (Out.YV o2);rw[z1] at y1;cases y1;subst y0;obtain rfl:=Den.i r2;exact⟨l,aR,ep,.inl k,rfl,y2,rfl,y3,fun hn oz=>q F2 _ σ (s1.trans s2) (g3 hn oz)⟩;rw[Za hl] at o1;exact o1.elim
theorem vC:dO X (.type "dict") (fun xs H Q=>∃a aR ep,xs=[V.ref a]/\H a=some (.dK aR ep)/\∀p oz,H p=none->Q (.ref p) (upd H p (.dK aR oz))):=by intro QF s σ H xs us Q I rs h;obtain⟨a,aR,ep,rfl,e,q⟩:=h;obtain⟨u,rfl,ru⟩:=vals1 rs;cases ru;obtain⟨z,hd,vs,rel,dd⟩:=iW I e;refine kt_call_dict hd dd.dictOf (by rw[<-rel.length];exact z) fun h' SX hs=>?_;obtain⟨oz,da⟩:=SX.dictAt;refine⟨.ref s.heap.objs.size,_,I.laid (a:=s.heap.objs.size) (o:=.dK aR oz) (t':=s.toks) (fun b q hq=>?_) (ZU _) ⟨z,beq_eq_false_iff_ne.mpr (Zo (Zd I.big)),vs,rel,da⟩,rfl,q _ oz (I.b8.fresh (ZU _))⟩;exact(hs.2 b (Zd (ZW hq))).trans (Y7 _ hq)
theorem Ga{x:Str}{p:Pos}(qU:Gl X x)(hm:X.mg x=none)(hv:bootBuiltins x=some (.type "dict"))(ha:PV X EX a fa)(hn:x≠"__name__" := by decide)(i9:Y3 x:=by decide)(hs:ZC X a []:=by rfl):PF X EX (.Call (.Name x p) [a] [] pos) (m1 By fa):=
 L2.PE.le (jP vC qU hm hv (mD (PV.rd ha) hs) hn i9 hs rfl) fun σ H Q bA=>dg bA fun G F F1 H1 bo d1 x s1 g1 r1 o1=>by
  obtain⟨d,e,q⟩:=o1.opt;have z:∃l aR ep ds,x=.ref l/\d1=.gg (aR.map (·.1)) ds/\H1 l=some (.dK aR ep)/\aK X.K X.mg F1 (aR.map (·.2)) ds:=by
   rcases r1 with r1|⟨l,rfl,ob⟩;cases r1 with|gg h r=>exact⟨_,_,_,_,rfl,rfl,g1.sub _ _ h,r⟩|_=>cases e
   cases d1 with|gg ks ds=>obtain⟨aR,ep,h1,rfl,h3⟩:=ob;exact⟨l,aR,ep,ds,rfl,rfl,h1,h3⟩|_=>cases e
  obtain⟨l,aR,ep,ds,rfl,rfl,h1,h2⟩:=z;cases e;exact⟨l,aR,ep,rfl,h1,fun p oz hl=>q _ _ _ s1 (g1.made hl) ⟨p,rfl,g1.loose hl ⟨aR,oz,aM,rfl,h2⟩⟩⟩
theorem Gy{x:Str}{p:Pos}(qU:Gl X x)(hm:X.mg x=none)(hv:bootBuiltins x=some (.type "dict"))(ha:PV X EX a fa)(hn:x≠"__name__" := by decide)(i9:Y3 x:=by decide)(hs:ZC X a []:=by rfl):PV X EX (.Call (.Name x p) [a] [] pos) (m1 By fa):=PF.pv (Ga qU hm hv ha hn i9 hs)
theorem boot_dict:bootBuiltins "dict" = some (.type "dict"):=by kernel_rfl
end
section
variable{X:Cx}{EX:XE}{L:Lc}{e a b c:Expr}{fa fb:M D}{pos:Pos}
abbrev Rw(v a:Addr):HO:=.ext fun h=>h.IsValuesView v a
theorem Q1T:SK X "dict.values" (fun x xs H Q=>∃a aR ep,x=.ref a/\xs=[]/\H a=some (.dK aR ep)/\∀v,H v=none->Q (.ref v) (upd H v (Rw v a))):=by intro QF s σ H x xs v us Q I rx rs h;obtain⟨a,aR,ep,rfl,rfl,e,q⟩:=h;cases rx;have Xi:=rs.zero;subst Xi;obtain⟨z,hd,vs,rel,dd⟩:=iW I e;refine call_meetsIn PySem.F.slot_dict_values dd.dictOf.typeIs PySem.F.entry_dict_values (PySem.F.args_dict_values_1 _) (meets_dict_values (eC X.prog X.w) a hd) ⟨⟨_,dd.dictOf⟩,?_⟩;have vw:(s.heap.push {cls:=.type "dict_values",data:=.fields #[.ref a]}).IsValuesView s.heap.objs.size a:=⟨_,Y8 _ rfl,rfl,rfl⟩;exact⟨.ref s.heap.objs.size,_,I.laid (a:=s.heap.objs.size) (o:=Rw s.heap.objs.size a) (t':=s.toks) (fun _ _ q=>Y7 _ q) (ZU _) ⟨vw,⟨_,Y8 _ rfl⟩,fun h1 h2 ⟨o,ho,r⟩ k=>⟨o,k _ ho,r⟩⟩,rfl,q _ (I.b8.fresh (ZU _))⟩
theorem rg{α β:Type}{F:α->β->Prop}:∀{CH:List α}{CI:List β}{j:Nat}{p:α}{q:β},Paired F CH CI->CH[j]?=some p->CI[j]?=some q->F p q|_,_,0,_,_,.cons h _,e1,e2=>by simp at e1 e2;subst e1 e2;exact h|_,_,j+1,_,_,.cons _ t,e1,e2=>rg (j:=j) t (by simpa using e1) (by simpa using e2)|_,_,j,_,_,.nil,e1,_=>by simp at e1
theorem zd(hc:X.calm=true):dO X (.builtin "max") (fun xs H Q=>∃v a aR ep i is,xs=[V.ref v]/\H v=some (Rw v a)/\H a=some (.dK aR ep)/\aR.map (·.2)=(i::is).map V.int/\Q (.int (is.foldl mx i)) H):=by
 intro QF s σ H xs us Q I rs h;obtain⟨v,a,aR,ep,i,is,rfl,ev,ea,hk,q⟩:=h;obtain⟨u,rfl,ru⟩:=vals1 rs;cases ru;obtain⟨vw,_,_⟩:=(show dm X.prog X.w H s.heap v (Rw v a) from I.b8 v _ ev);obtain⟨z,hd,vs,rel,dd⟩:=iW I ea;have hl:aR.length=vs.length:=v5 rel;have Ig:aR.length=is.length+1:=by have:=congrArg List.length hk;simpa using this
 have lt:a<s.heap.objs.size:=dd.lt_size;have vals:∀j w,(∃k,vs[j]?=some (k,w))->∃t,w=Value.int ((i::is).getD j 0) t:=fun j w ⟨k,hj⟩=>by
  have Tx:=(List.getElem?_eq_some_iff.mp hj).1;obtain⟨p,hp⟩:∃p,aR[j]?=some p:=⟨_,Z4 ZG⟩;have hr:=rg rel hp hj;have e2:=congrArg (fun l=>l[j]?) hk;simp only[List.getElem?_map,hp,Option.map_some] at e2;have e3:p.2=V.int ((i::is).getD j 0):=by
   have OM:j<(i::is).length:=by simp;lia
   rw[Z4 OM] at e2;have:=ZV e2;rw[this];simp[Z5,Z4 OM]
  have OU:=hr.2;rw[e3] at OU;exact OU
 refine call_max_walk (wpAny_pyIter_values vw dd ?_);refine⟨s.heap.objs.size,_,_,_,_,_,_,rfl,Walks.dictValues (A:=X.A.in1) (knd:=eC X.prog X.w) (I.ok.hd hc) s.heap.objs.size a (Zd lt) vs ep,⟨⟨_,Y8 _ rfl,rfl,rfl⟩,dd.push _⟩,fun b hb=>?_,ZG,CmpOf.ints_gt (fun j=>(i::is).getD j 0) vals,fun w h' tk hw kp=>?_⟩;rw[Sh];simp at hb;rcases hb with rfl|rfl;exact Di _;exact PQ lt;obtain⟨t,e⟩:=vals _ _ hw;refine⟨.int (is.foldl mx i),H,I.kept fun b o e=>kp b o (fun hm=>?_) (Y7 _ e),⟨t,?_⟩,q⟩;have:=ZW e;have zb:b=s.heap.objs.size:=by simpa using hm
 rw[zb] at this;exact Nw _ this;rw[e,<-tO i is,show vs.length-1=(i::is).length-1 by simp;lia]
theorem GB{p ap cp:Pos}(hc:X.calm=true)(qU:Gl X "max")(hm:X.mg "max" = none)(hv:bootBuiltins "max" = some (.builtin "max"))(ha:PV X EX a fa)
  (hb:attributeBase a "values" X.env (eval a X.env)=eval a X.env:=by rfl) (uq:(ap.endLine == cp.line)=true:=by rfl)
  (hs:starEach [.Call (.Attribute a "values" ap) [] [] cp] X.env=(false,eval (.Call (.Attribute a "values" ap) [] [] cp) X.env)::starEach [] X.env:=by rfl) :
  PV X EX (.Call (.Name "max" p) [.Call (.Attribute a "values" ap) [] [] cp] [] pos) (m1 q9 fa):=
 L2.PE.le (ju (zd hc) qU hm hv (cu (LY PySem.F.plainAttrs_dict PySem.F.slot_dict_values PySem.F.type_dict_values Q1T ha hb uq) fL hs) (by decide) (by decide) hs rfl) fun σ H Q bA=>dg bA fun G F F1 H1 bo d1 x s1 g1 r1 o1=>by obtain⟨d,e,q⟩:=o1.opt;cases r1 with|@gg p0 aR ep ds h r=>simp only[q9] at e;split at e;rename_i i is hi;cases e;have ev:=ints_of r hi;have h1:=g1.sub _ _ h;refine⟨.inr (.inr (.inl ⟨rfl,.inl ⟨_,_,h1⟩⟩)),p0,aR,ep,rfl,rfl,h1,fun v hv=>⟨v,p0,aR,ep,i,is,rfl,aM,?_,ev,q F1 _ _ s1 (g1.made hv) (.int _)⟩⟩;rw[aT (bq h1 hv)];exact h1;cases e|_=>cases e
end
section
variable{X:Cx}{EX:XE}{L:Lc}{e a b:Expr}{fa fb fe:M D}{pos p:Pos}{c1 c2:Str}
structure NN(K:Frag)(mg:MG)(c1 c2:Str)(subs:Nt):Prop where
 sp:W.specialIn K (.builtin "object.__class__") "__get__" = some (some (.builtin "getset_descriptor.__get__"))
 tk:W.takesIn K (.builtin "object.__class__")=some true
 ex:∃C1 C2,mg c1=some (.ref C1)/\mg c2=some (.ref C2)/\∀p∈subs,∃D,mg p.1=some (.ref D)/\yV K D/\W.kitAny K (.ref D) [.ref C1,.ref C2]=some p.2
theorem zc(sp:W.specialIn X.K (.builtin "object.__class__") "__get__" = some (some (.builtin "getset_descriptor.__get__")))(tk:W.takesIn X.K (.builtin "object.__class__")=some true) : dO X (.builtin "isinstance") (fun xs H Q=>∃q t D dx fs b,xs=[.ref q,.ref t]/\H q=some (.ins D dx fs)/\H t=some (.tup [.ref C1,.ref C2])/\yV X.K D/\W.kitAny X.K (.ref D) [.ref C1,.ref C2]=some b/\Q (.bl b) H):=by
 intro QF s σ H xs us Q I r h;obtain⟨q,t,D,dx,fs,b,rfl,hq,ht,f,hb,k⟩:=h;obtain⟨u,v,rfl,ru,rv⟩:=vals2 r;cases ru;cases rv;obtain⟨h1,h2,h3,h4,mA,h5,h6⟩:=(show dm X.prog X.w H s.heap q (.ins D dx fs) from I.b8 q _ hq);obtain⟨od,TK⟩:=(show ∃o,s.heap.get? dx=some o from I.b8 dx _ h1);obtain⟨_,aG,rv,⟨o,ho,hc,⟨n,RQ⟩,Yu⟩⟩:=(show dm X.prog X.w H s.heap t (.tup [.ref C1,.ref C2]) from I.b8 t _ ht);obtain⟨u1,u2,rfl,r1,r2⟩:=vals2 rv;cases r1;cases r2;have eo:o=⟨.type "tuple",o.dict,.seq [Value.ref C1,.ref C2].toArray n,o.slots⟩:=by rw[<-hc,<-RQ]
 rw[eo] at ho;exact W.kia_tup (W.kitx_own f.pg f.hd f.fi sp tk f.mr) I.qe ⟨h4,rfl,rfl,TK⟩ ho hb (fun z=>nomatch z) fun tk=>⟨.bl b,H,I.tok tk,rfl,k⟩
theorem Gz{subs:Nt}{p1 p2 p3:Pos}{x1}(T:NN X.K X.mg c1 c2 subs)(hg:Gl X "isinstance")(hm:X.mg "isinstance" = none)(ha:PR X EX a fa)(WU:Gl X c1:=by rfl)(WV:Gl X c2:=by rfl)(Tp:Y3 c1:=by decide)(hd2:Y3 c2:=by decide)
  (hs:starEach [a,.Tuple [.Name c1 p1,.Name c2 p2] x1 p3] X.env=(false,eval a X.env)::starEach [.Tuple [.Name c1 p1,.Name c2 p2] x1 p3] X.env:=by rfl)
  (jY:starEach [.Tuple [.Name c1 p1,.Name c2 p2] x1 p3] X.env=(false,eval (.Tuple [.Name c1 p1,.Name c2 p2] x1 p3) X.env)::starEach [] X.env:=by rfl)
  (Xd:starEach [.Name c1 p1,.Name c2 p2] X.env=(false,eval (.Name c1 p1) X.env)::starEach [.Name c2 p2] X.env:=by rfl) (Xe:starEach [.Name c2 p2] X.env=(false,eval (.Name c2 p2) X.env)::starEach [] X.env:=by rfl)
  (jc:(backTo pos (starEach [.Tuple [.Name c1 p1,.Name c2 p2] x1 p3] X.env)).any (·.1)=false:=by rfl) :
  PV X EX (.Call (.Name "isinstance" p) [a,.Tuple [.Name c1 p1,.Name c2 p2] x1 p3] [] pos) (m1 (a7 subs) fa):=by
 obtain⟨C1,C2,Wz,WA,ES⟩:=T.ex;exact L2.PE.le (ju (zc (C1:=C1) (C2:=C2) T.sp T.tk) hg hm boot_isinstance (cu ha (cu (Dj (cu (jQ (v:=.ref C1) WU Wz rfl Tp) (cu (jQ (v:=.ref C2) WV WA rfl hd2) fL Xe) Xd)) fL jY) hs) (by decide) (by decide) hs jc) fun σ H Q bA=>dg bA fun G F F1 H1 bo d1 x s1 g1 r1 o1=>by
  obtain⟨d,e,q⟩:=o1.opt;refine⟨show (2:Nat)<=sizeLine by decide,fun t ht=>?_⟩;cases d1 with
  |ins c' ns vs=>
   simp only[a7] at e;cases e1:subs.lookup c' with
   |none=>rw[e1] at e;cases e|some b=>
    rw[e1] at e;cases e;obtain⟨D,hD,f,hb⟩:=ES (c',b) (Zn e1);rcases r1 with r1|⟨l,rfl,D',dx,fs,z1,z2,z3,z4⟩;cases r1 with|ins h hc r=>rw[show (lc X EX).mg c'=some (.ref D) from hD] at hc;cases hc;have h1:=g1.sub _ _ h;exact⟨_,t,D,_,_,b,rfl,by rw[aT (bq h1 ht)];exact h1,aM,f,hb,q F1 _ _ s1 (g1.made ht) (.bl _)⟩
    rw[show (lc X EX).mg c'=some (.ref D) from hD] at z2;cases z2;exact⟨_,t,D,_,_,b,rfl,by rw[aT (bq z1 ht)];exact z1,aM,f,hb,q F1 _ _ s1 (g1.made ht) (.bl _)⟩
  |_=>cases e
end
structure NG(K:Frag)(mg:MG)(c m:Str)(C f:Addr):Prop where
 mg:mg c=some (.ref C)
 sp:W.specialIn K (.ref C) "__getattribute__" = some (some (.builtin "type.__getattribute__"))
 rd:W.readsIn K C (.type "type")=true
 fi:W.findCls K (.ref C) (.type "type") m=some (.val (.ref f))
 kp:W.keepIn K (.ref f)=true
section
variable{X:Cx}{EX:XE}{e:Expr}{es:Rz}{as:List VP.Arg}{pos p UP:Pos}{CX:vf}{k:Nat}{C fA:Addr}{fd:FuncData}{ps:R5}{c m:Str}{fl:N0}{fs:Fn}
theorem Gw{pl:Sem Bool}(B:NG X.K X.mg c m C fA)(F:dP X.prog X.w X.K X.mg X.base CX k fA fd ps (nM X.K X.mg fl fs))(hr:cA k X.A)(hb:Binds X.K fd ps [])(hx:fg CX X EX)(ha:w5 X EX (e::es) as)(hg:Gl X c:=by rfl)(uo:as.map VP.Arg.isIo=fl:=by rfl)
  (i9:Y3 c:=by decide) (ja:ZC X e es:=by rfl) (jc:ZE X pos es:=by rfl)
  (ht:eval (.Call (.Attribute (.Name c p) m UP) (e::es) [] pos) X.env=(do
   let ov <-eval (.Name c p) X.env
   standAt UP.atName
   let (f,first) <-holding [ov] (getMethod ov m pl)
   callWith pos f first (backTo pos (starEach (e::es) X.env)) (backToKw pos (keywordEach [] X.env))):=by rfl) :
  PV X EX (.Call (.Attribute (.Name c p) m UP) (e::es) [] pos) (ax fs as):=by
 intro QF s σ H Q I h;obtain⟨G,F0,ρ,g0,o⟩:=h;refine W.methodCall_KW (pl:=pl) (bK (jQ (v:=.ref C) hg B.mg rfl i9 QF s σ H (fun x H1=>x=.ref C/\H1=H) I ⟨rfl,rfl⟩) fun u s1 zz=>?_) ht;obtain⟨y,H1,I1,ry,hy,hH⟩:=zz;subst hy hH;obtain rfl:u=Value.ref C:=ry;refine W.method_cls I1.qe B.sp (W.cls_value I1.qe B.rd B.fi rfl ?_);have I2:Inv X QF σ H1 {s1 with toks:=s1.toks+1}:=I1.tok _;refine EY (first:=[]) (h₀:=X.base) I.ok.mod.Ko B.kp (bK (ha pos QF _ σ H1 (fun vs H1=>nM X.K X.mg fl fs vs H1 Q (EX σ)) I2 ⟨G,F0,ρ,g0,?_⟩) fun us s2 ⟨vs,H2,I3,r,q⟩=>⟨I3.qe,?_⟩) ja jc;unfold ax VP.YV at o;cases q:bL as ρ with|no=>rw[q] at o;exact o.elim|exc xx bo=>rw[q] at o;exact o|ok av bo=>rw[q] at o;intro F1 H1 vs s1 g1 r1;exact rK (L:=lc X EX) g1 r1 (by rw[dJ q];exact uo) o (fun x r q=>q.same s1) fun F' H' bO d v s' g' rd P=>P F' H' v (s1.trans s') g' rd
 exact n6 F hr hb hx I3 r q
end
section
variable{X:Cx}{EX:XE}{e elt tg Om:Expr}{ifs:Rz}{pos:Pos}{it:M (List D)}{gf:D->M Unit}{ft:M Bool}{fe f:M D}{js:XT}{scope:Scope}{N':R5}
theorem Hn(n i:Nat){y:Str}{py lB:Pos}(hN:X.N.Nodup)(hy:X.N[i]?=some y)(hx:Loc X.env.scope y)(hc:X.calm=true)(c:bJ X scope N')(hn:X.N.length+n+1=N'.length)(hi:tw X EX tg Om it)(sj:∀d r x r',gf d r≠.exc x r')(tD:∀j∈js,X.N.length<=j/\j<X.N.length+n)
  (hg:∀C s H ex,w8 (bE X scope C N' s H ex) EX tg js gf) (ht:∀C s H ex EX,Ao (bE X scope C N' s H ex) EX ifs ft) (he:∀C s H ex EX,PV (bE X scope C N' s H ex) EX elt fe)
  (ET:swapsWith (.ListComp elt [⟨tg,Om,ifs,0⟩] scope pos) (some (.Name y py)) lB.line X.env=pure true:=by rfl) (hs:∀x,foldedSetIterable Om X.env x=pure x:=by exact ZP)
  (zk:ZD X y:=by exact ZL):mS X EX (.Assign [.Name y py] (.ListComp elt [⟨tg,Om,ifs,0⟩] scope pos) lB) (aN i (kf (aS n it gf ft fe))):=by
 intro QF s σ H E I h;obtain⟨G,F,ρ,g0,o⟩:=h;rw[Fm _ _ _ _ ET];refine ZS (Au (ZS ?_));show wpAny _ X.A (do let _ <-comprehension (.ListComp elt [⟨tg,Om,ifs,0⟩] scope pos) scope X.env _ (newList []) false (firstIter [⟨tg,Om,ifs,0⟩] X.env) (some (assign (.Name y py) X.env))) _ _ s;refine ZS (R9 (jG (use:=some (assign (.Name y py) X.env)) (QQ:=fun _ s'=>SP X QF E .next s') n hc c hn hi sj tD hg ht (xw:=fun _ _ _ _ _ _=>False) (fun C s H ex=>he C s H ex _) (fun _ _ _ _ _ _ _ _ _ _ z=>z.elim) hs I (Good.view g0) (vb (Out.YV o)) (fun x r q=>q.elim) fun F4 H4 s5 qr d l C mm e4 g4 lo post IX EO FC=>?_) (fun _ s' hq=>ZT (ZT hq)) fun _ _ e=>e);show wpAny _ X.A (assign (.Name y py) X.env (.ref l)) _ _ s5;refine uK (jT IX hN hy hx (v:=.ref l) rfl (fun s6 I6 zz=>?_) zk);obtain⟨a,sb,ha⟩:=zz;have OA:C≠a:=by rcases ha with rfl|ha;exact FC.2.1;exact fun z=>FC.2.2.2.2.1 _ _ ha z.symm
 obtain⟨ds,rfl,Ih,post⟩:=post;obtain⟨u1,u2⟩:=Good.mO g0 g4;have Ue:=Loose.mO g0 g4 lo Ih;obtain⟨F5,s5,g5,d5⟩:=Ue.fast u2;obtain⟨mR,g2,q⟩:=jy (L:=lc X EX) g5 d5 (Out.YV post);refine⟨mm,EO.sameBut sb OA,fun h' Eb=>⟨σ.set i (some (.ref l)),H4,?_,q _ _ _ (u1.trans s5) g2⟩⟩;exact I6.turned (t':=s6.toks) (fun b ob hb e=>Eb.extBut b ob hb e) FC.1 FC.2.1 FC.2.2.2.1 FC.2.2.2.2.1 FC.2.2.2.2.2
end
end VS
end
section
set_option linter.all false
namespace VS
open PySem PySem.Spec PyProof.Rows L2 VP
theorem oJ{P:Program}{w:World}{K:Frag}{mg:MG}{base:Heap}{CX:vf}{k:Nat}{f:Addr}{fd:FuncData}{ps:R5}{fl:N0}(h:fl.length=ps.length):dP P w K mg base CX k f fd ps (nM K mg fl fun _=>.no):=⟨fun _ _ _ _ q=>q.1.trans h,fun _ _ _ _ _ _ _ _ _ _ _ _ _ ⟨_,_,_,_,_,_,q⟩=>q.elim⟩
structure Ei where
 f:Nat->Addr
 d:Nat->FuncData
 g:Nat->Addr
 e:Nat->FuncData
 c:Nat->Addr
abbrev vx:=Str×Stmt×List Str
abbrev Aq:=Str×Str×Str×Bool×Stmt×List Str
structure Je where
 b:List Str
 n:List (Str×D)
 t:List (Str×List (Str×D)×List Str)
 d:List vx
 m:List Aq
 k:List Str
 f:List (Str×List Str)
 a:List Str
 i:List (Str×List (Str×Bool))
 j:List (Str×Str×List (Str×Bool))
structure Hu(K:Frag)(mg:MG)(c x qn:Str)(bs:Bool)(st:Stmt)(ps:R5)(C f:Addr)(fd:FuncData):Prop where
 fu:Ej K x qn st f fd
 bi:Binds K fd ps []
 gm:mg c=some (.ref C)
 cls:yU K C
 me:Meth K C x f
 Uj:x="__init__" -> Mk K C f
 ba:bs=true->NG K mg c x C f
structure Txt(L:Je)(w:World)(K:Frag)(mg:MG)(a:Ei):Prop where
 b:∀(i:Nat) {x} (_:L.b[i]?=some x:=by rfl),mg x=none
 n:∀(i:Nat) {x d} (_:L.n[i]?=some (x,d):=by rfl),U2 mg x d
 t:∀(i:Nat) {x t ab} (_:L.t[i]?=some (x,t,ab):=by rfl),El w K mg x t ab
 d:∀(i:Nat) {x st ps} (_:L.d[i]?=some (x,st,ps):=by rfl),oi K mg x st ps (a.f i) (a.d i)
 m:∀(i:Nat) {c x qn bs st ps} (_:L.m[i]?=some (c,x,qn,bs,st,ps):=by rfl),Hu K mg c x qn bs st ps (a.c i) (a.g i) (a.e i)
 f:∀(i:Nat) {f cs} (_:L.f[i]?=some (f,cs):=by rfl),IZ K mg cs f
 i:∀(i:Nat) {c su} (_:L.i[i]?=some (c,su):=by rfl),NM K mg c su
 j:∀(i:Nat) {c1 c2 su} (_:L.j[i]?=some (c1,c2,su):=by rfl),NN K mg c1 c2 su
def NT(K:Frag)(q:Addr):R5->Prop|[]=>True|x::l=>W.nsIn K q x=some none/\NT K q l
def Rp(K:Frag):List (Str×D)->Prop|[]=>True| (x,d)::l=>(∃v,W.nsIn K mainGlobals x=some (some v)/\iR d v)/\Rp K l
def Rq(K:Frag)(q:Addr):List (Str×D)->Prop|[]=>True| (x,d)::l=>(∃v,W.nsIn K q x=some (some v)/\rG K d v)/\Rq K q l
def NU(w:World)(K:Frag):List (Str×List (Str×D)×List Str)->Prop|[]=>True| (x,t,ab)::l=>(∃(q:Addr)(es:Array DictEntry)(n:Nat),W.nsIn K mainGlobals x=some (some (.ref q))/\(q == sysModules)=false/\K.lookup q=some ⟨.type "dict",none,.dict es n,#[]⟩/\W.KeysLit w.params es.toList/\Rq K q t/\NT K q ab)/\NU w K l
def NJ(K:Frag):List vx->Prop|[]=>True| (x,st,_)::l=>(∃f,DH K x st f)/\NJ K l
structure MH(K:Frag)(c x qn:Str)(bs:Bool)(st:Stmt)(C f:Addr):Prop where
 n:W.nsIn K mainGlobals c=some (some (.ref C))
 i:W.findIn K (.ref C) x=some (some (.ref f))
 fn:W.isFn K (.ref f)=true
 m:DM K x qn st f
 Uj:W.makesIn K C=true
 kc:W.keepIn K (.ref C)=true
 ba:bs=true->W.specialIn K (.ref C) "__getattribute__" = some (some (.builtin "type.__getattribute__"))/\W.readsIn K C (.type "type")=true/\W.findCls K (.ref C) (.type "type") x=some (.val (.ref f))
def NR(K:Frag):List Aq->Prop|[]=>True| (c,x,qn,bs,st,_)::l=>(∃C f,MH K c x qn bs st C f)/\NR K l
def NH(K:Frag):R5->Prop|[]=>True|c::l=>(∃C,W.nsIn K mainGlobals c=some (some (.ref C))/\yU K C)/\NH K l
def Rc(K:Frag):R5->Prop|[]=>True|c::l=>(∃C,W.nsIn K mainGlobals c=some (some (.ref C))/\yV K C)/\Rc K l
def NS(K:Frag)(f:Str):R5->Prop|[]=>True|c::l=>(∃C,W.nsIn K mainGlobals c=some (some (.ref C))/\W.findIn K (.ref C) f=some none)/\NS K f l
def Rh(K:Frag):List (Str×List Str)->Prop|[]=>True| (f,cs)::l=>NS K f cs/\Rh K l
def NO(K:Frag)(C:Addr):Nt->Prop|[]=>True| (c,b)::l=>(∃D,W.nsIn K mainGlobals c=some (some (.ref D))/\W.kitOne K (.ref D) (.ref C)=some b)/\NO K C l
def Rj(K:Frag):List (Str×List (Str×Bool))->Prop|[]=>True| (c,su)::l=>(∃C,W.nsIn K mainGlobals c=some (some (.ref C))/\NO K C su)/\Rj K l
def NP(K:Frag)(C C':Addr):Nt->Prop|[]=>True| (c,b)::l=>(∃D,W.nsIn K mainGlobals c=some (some (.ref D))/\W.kitAny K (.ref D) [.ref C,.ref C']=some b)/\NP K C C' l
def Rn(K:Frag):List (Str×Str×List (Str×Bool))->Prop|[]=>True| (c,c',su)::l=>(∃C C',W.nsIn K mainGlobals c=some (some (.ref C))/\W.nsIn K mainGlobals c'=some (some (.ref C'))/\NP K C C' su)/\Rn K l
def Rf:List vx->Prop|[]=>True| (x,st,ps)::l=>An x x st ps/\Rf l
def Rg:List Aq->Prop|[]=>True| (_,x,qn,_,st,ps)::l=>An x qn st ps/\Rg l
def Je.nD(L:Je):Bool:=L.f.all (fun p=>p.2.all fun c=>L.k.elem c)&&L.m.all (fun r=>L.k.elem r.1)&&L.i.all (fun p=>p.2.all fun q=>L.a.elem q.1)&&L.j.all (fun p=>p.2.2.all fun q=>L.a.elem q.1)
section
variable{K:Frag}{mg:MG}{h:Heap}{w:World}
theorem NT.at:∀{l:R5},NT K q l->∀{x},x∈l->W.nsIn K q x=some none|_::_,⟨h,t⟩,_,m=>by cases m with|head=>exact h|tail _ m=>exact t.at m
theorem Rp.at:∀{l:List (Str×D)},Rp K l->∀{x d},(x,d)∈l->∃v,W.nsIn K mainGlobals x=some (some v)/\iR d v|_::_,⟨h,t⟩,_,_,m=>by cases m with|head=>exact h|tail _ m=>exact t.at m
theorem Rq.at:∀{l:List (Str×D)},Rq K q l->∀p∈l,∃v,W.nsIn K q p.1=some (some v)/\rG K p.2 v|_::_,⟨h,t⟩,_,m=>by cases m with|head=>exact h|tail _ m=>exact t.at _ m
theorem NU.at(X:K.In h)(G:h.Ns mainGlobals mg):∀{l:List (Str×List (Str×D)×List Str)},NU w K l->∀{x t ab},(x,t,ab)∈l->El w K mg x t ab|_::_,⟨⟨q,es,n,h1,h2,h3,h4,h5,h6⟩,t⟩,_,_,_,m=>by cases m with|head=>exact⟨⟨q,es,n,Ui X G h1,h2,h3,h4,Q0H h5.at,fun k hk=>h6.at hk⟩⟩|tail _ m=>exact NU.at X G t m
theorem NH.at:∀{l:R5},NH K l->∀{c C},c∈l->W.nsIn K mainGlobals c=some (some (.ref C))->yU K C|_::_,⟨⟨D,h,k⟩,t⟩,_,_,m,e=>by cases m with|head=>rw[h] at e;cases e;exact k|tail _ m=>exact t.at m e
theorem Rc.at:∀{l:R5},Rc K l->∀{c C},c∈l->W.nsIn K mainGlobals c=some (some (.ref C))->yV K C|_::_,⟨⟨D,h,k⟩,t⟩,_,_,m,e=>by cases m with|head=>rw[h] at e;cases e;exact k|tail _ m=>exact t.at m e
theorem NS.at:∀{l:R5},NS K f l->∀{c},c∈l->∃C,W.nsIn K mainGlobals c=some (some (.ref C))/\ij K C f|_::_,⟨h,t⟩,_,m=>by cases m with|head=>exact h|tail _ m=>exact t.at m
theorem Rh.at:∀{l:List (Str×List Str)},Rh K l->∀{f cs},(f,cs)∈l->NS K f cs|_::_,⟨h,t⟩,_,_,m=>by cases m with|head=>exact h|tail _ m=>exact t.at m
theorem NO.at:∀{l:Nt},NO K C l->∀p∈l,∃D,W.nsIn K mainGlobals p.1=some (some (.ref D))/\W.kitOne K (.ref D) (.ref C)=some p.2|_::_,⟨h,t⟩,_,m=>by cases m with|head=>exact h|tail _ m=>exact t.at _ m
theorem Rj.at:∀{l:List (Str×List (Str×Bool))},Rj K l->∀{c su},(c,su)∈l->∃C,W.nsIn K mainGlobals c=some (some (.ref C))/\NO K C su|_::_,⟨h,t⟩,_,_,m=>by cases m with|head=>exact h|tail _ m=>exact t.at m
theorem NP.at:∀{l:Nt},NP K C C' l->∀p∈l,∃D,W.nsIn K mainGlobals p.1=some (some (.ref D))/\W.kitAny K (.ref D) [.ref C,.ref C']=some p.2|_::_,⟨h,t⟩,_,m=>by cases m with|head=>exact h|tail _ m=>exact t.at _ m
theorem Rn.at:∀{l:List (Str×Str×List (Str×Bool))},Rn K l->∀{c c' su},(c,c',su)∈l->∃C C',W.nsIn K mainGlobals c=some (some (.ref C))/\W.nsIn K mainGlobals c'=some (some (.ref C'))/\NP K C C' su|_::_,⟨h,t⟩,_,_,_,m=>by cases m with|head=>exact h|tail _ m=>exact t.at m
theorem NJ.is(X:K.In h)(G:h.Ns mainGlobals mg):∀{l:List vx},NJ K l->Rf l->∃ps:List (Addr×FuncData),∀(i:Nat) {x st qs},l[i]?=some (x,st,qs)->oi K mg x st qs (ps.getD i default).1 (ps.getD i default).2|[],_,_=>⟨[],fun i _ _ _ e=>by simp at e⟩|_::_,⟨⟨f,d⟩,t⟩,⟨b,bs⟩=>by obtain⟨ps,hp⟩:=NJ.is X G t bs;obtain⟨fd,D⟩:=d.is X G b;refine⟨(f,fd)::ps,fun i _ _ _ e=>?_⟩;cases i with|zero=>simp only[List.getElem?_cons_zero,Option.some.injEq,Prod.mk.injEq] at e;obtain⟨rfl,rfl,rfl⟩:=e;exact D|succ i=>exact hp i (by simpa using e)
theorem NR.is(X:K.In h)(G:h.Ns mainGlobals mg)(C:NH K ks):∀{l:List Aq},NR K l->Rg l->(∀r∈l,r.1∈ks)->∃ps:List (Addr×Addr×FuncData),∀(i:Nat) {c x qn bs st qs},l[i]?=some (c,x,qn,bs,st,qs)->Hu K mg c x qn bs st qs (ps.getD i default).1 (ps.getD i default).2.1 (ps.getD i default).2.2|[],_,_,_=>⟨[],fun i _ _ _ _ _ _ e=>by simp at e⟩|_::_,⟨⟨c,f,d⟩,t⟩,⟨b,bs⟩,hk=>by obtain⟨ps,hp⟩:=NR.is X G C t bs fun r hr=>hk r (Z1 _ hr);obtain⟨fd,F,B⟩:=d.m.is b;refine⟨(c,f,fd)::ps,fun i _ _ _ _ _ _ e=>?_⟩;cases i with|zero=>simp only[List.getElem?_cons_zero,Option.some.injEq,Prod.mk.injEq] at e;obtain⟨rfl,rfl,rfl,rfl,rfl,rfl⟩:=e;have m:=Ui X G d.n;refine⟨F,B,m,C.at (hk _ Z2) d.n,⟨d.i,d.fn,d.m.k⟩,fun e=>⟨d.Uj,?_,d.fn,d.kc⟩,fun e=>⟨m,(d.ba e).1,(d.ba e).2.1,(d.ba e).2.2,d.m.k⟩⟩;rw[<-e];exact d.i|succ i=>exact hp i (by simpa using e)
theorem Q1r(X:K.In h)(G:h.Ns mainGlobals mg)(nD:L.nD=true)(bd:Rf L.d)(bm:Rg L.m)(hb:NT K mainGlobals L.b)(hn:Rp K L.n)(ht:NU w K L.t)(hd:NJ K L.d)(hc:NH K L.k)(hm:NR K L.m)(hf:Rh K L.f)(ha:Rc K L.a)(hi:Rj K L.i)(hj:Rn K L.j)(sp:W.specialIn K (.builtin "object.__class__") "__get__" = some (some (.builtin "getset_descriptor.__get__"))) (tk:W.takesIn K (.builtin "object.__class__")=some true):∃a:Ei,Txt L w K mg a:=by simp only[Je.nD,Bool.and_eq_true,List.all_eq_true,List.elem_eq_contains,List.contains_iff_mem] at nD;obtain⟨⟨⟨f1,f2⟩,f3⟩,f4⟩:=nD;obtain⟨ps,hp⟩:=hd.is X G bd;obtain⟨qs,hq⟩:=hm.is X G hc bm f2;refine⟨⟨fun i=>(ps.getD i default).1,fun i=>(ps.getD i default).2,fun i=>(qs.getD i default).2.1,fun i=>(qs.getD i default).2.2,fun i=>(qs.getD i default).1⟩,fun i x e=>W.mg_none_of X G (hb.at (Z3 e)),fun i x d e=>?_,fun i x t ab e=>ht.at X G (Z3 e),hp,hq,fun i f cs e c JT=>?_,fun i c su e=>?_,fun i c c' su e=>?_⟩;obtain⟨v,e1,e2⟩:=hn.at (Z3 e);exact⟨v,Ui X G e1,e2⟩;have m:=Z3 e;obtain⟨C,e1,e2⟩:=(hf.at m).at JT;exact⟨C,Ui X G e1,hc.at (f1 _ m c JT) e1,e2⟩;have m:=Z3 e;obtain⟨C,e1,e2⟩:=hi.at m;refine⟨sp,tk,C,Ui X G e1,fun p hp=>?_⟩;obtain⟨D,e3,e4⟩:=e2.at p hp;exact⟨D,Ui X G e3,ha.at (f3 _ m p hp) e3,e4⟩;have m:=Z3 e;obtain⟨C,C',e1,Wn,e2⟩:=hj.at m;refine⟨sp,tk,C,C',Ui X G e1,Ui X G Wn,fun p hp=>?_⟩;obtain⟨D,e3,e4⟩:=e2.at p hp;exact⟨D,Ui X G e3,ha.at (f4 _ m p hp) e3,e4⟩
theorem oi.Ub{x p:Str}{st:Stmt}{f:Addr}{fd:FuncData}(d:oi K mg x st [p] f fd)(c:∀(kV doc pm:Value)(an:Ng)(cd ct:Value)(s:Shared)(v:Value),BindsTo s (W.fnOf x x (cR st) (bM st) (aP st) .none kV doc pm an cd ct) ⟨[v],[]⟩ [(p,v)]) (s:Shared) (v:Value):BindsTo s fd ⟨[v],[]⟩ [(p,v)]:=by obtain⟨oc,od,kV,doc,pm,an,ir,ct,FT,rfl,lk,j9⟩:=d.fu.ex;exact c _ _ _ _ _ _ s v
end
abbrev Cl(P:Program)(base:Heap){L:Je}{w:World}{K:Frag}{mg:MG}{a:Ei}(T:Txt L w K mg a)(x:Str)(k:Nat)(fl:N0)(f:Fn):Prop:=∃st ps fA fd,oi K mg x st ps fA fd/\dP P w K mg base pS k fA fd ps (nM K mg fl f)
abbrev kI(P:Program)(base:Heap){L:Je}{w:World}{K:Frag}{mg:MG}{a:Ei}(T:Txt L w K mg a)(c x:Str)(bs:Bool)(k:Nat)(fl:N0)(f:Fn):Prop:=∃qn st ps C fA fd,Hu K mg c x qn bs st ps C fA fd/\dP P w K mg base pS k fA fd ps (nM K mg fl f)
section
variable{P:Program}{w:World}{K:Frag}{mg:MG}{base:Heap}
theorem fo{x:Str}{st:Stmt}{f:Addr}{fd:FuncData}{ps:R5}{k:Nat}{fl:N0}(N:R5)(body:M Fl)(D:oi K mg x st ps f fd)
 (jn:∀{ir:Value}{A:Around}{outer:List Env}{s:Shared}{H:Hp}{E:XK},dQ N ps (aP st)->cA k (A.deeper (envOfC x (aP st) s.heap.objs.size f ir))->lN (p9 pS P w K mg base N x (aP st) f ir A outer s H E).Iy (fun _=>E) (bM st) body) (S:dQ N ps (aP st):=by exact Ux) (hl:fl.length=ps.length:=by rfl) :
 dP P w K mg base pS (k+1) f fd ps (nM K mg fl (defn N.length fl body)):=BS D.fu S hl fun _ _ _ _ _ _ hr=>jn S hr
theorem fc{g:Fn}{x:Str}{st:Stmt}{f:Addr}{fd:FuncData}{ps:R5}{k:Nat}{fl:N0}(loc:R5)(body:M Fl)(D:oi K mg x st ps f fd)
 (jn:∀{ir:Value}{A:Around}{outer:List Env}{s:Shared}{H:Hp}{E:XK},dQ (ps++loc) ps (aP st)->cA k (A.deeper (envOfC x (aP st) s.heap.objs.size f ir))->lN (p9 pS P w K mg base (ps++loc) x (aP st) f ir A outer s H E).Iy (fun _=>E) (bM st) body) (S:dQ (ps++loc) ps (aP st):=by exact Ux) (hl:fl.length=ps.length:=by rfl) (hg:defn (ps++loc).length fl body=g:=by exact rfl) :
 ∃st ps fA fd,oi K mg x st ps fA fd/\dP P w K mg base pS (k+1) fA fd ps (nM K mg fl g):=⟨st,ps,f,fd,D,hg ▸ BS D.fu S hl fun _ _ _ _ _ _ hr=>jn S hr⟩
theorem fm{g:Fn}{c x qn:Str}{bs:Bool}{st:Stmt}{C f:Addr}{fd:FuncData}{ps:R5}{k:Nat}{fl:N0}(loc:R5)(body:M Fl)(D:Hu K mg c x qn bs st ps C f fd)
 (jn:∀{ir:Value}{A:Around}{outer:List Env}{s:Shared}{H:Hp}{E:XK},dQ (ps++loc) ps (aP st)->cA k (A.deeper (envOfC qn (aP st) s.heap.objs.size f ir))->lN (p9 pS P w K mg base (ps++loc) qn (aP st) f ir A outer s H E).Iy (fun _=>E) (bM st) body) (S:dQ (ps++loc) ps (aP st):=by exact Ux) (hl:fl.length=ps.length:=by rfl) (hg:defn (ps++loc).length fl body=g:=by exact rfl) :
 ∃qn st ps C fA fd,Hu K mg c x qn bs st ps C fA fd/\dP P w K mg base pS (k+1) fA fd ps (nM K mg fl g):=⟨qn,st,ps,C,f,fd,D,hg ▸ BS D.fu S hl fun _ _ _ _ _ _ hr=>jn S hr⟩
end
section
variable{X:Cx}{EX:XE}{e a b o tg Om elt value:Expr}{es ifs:Rz}{as:List VP.Arg}{fa fb fe fo:M D}{f:M Fl}{body:List Stmt}{pos p UP:Pos}{k n i:Nat}{C fA:Addr}{fd:FuncData}{ps:R5}{c x m qn:Str}{bs:Bool}{st:Stmt}{fl:N0}{fs:Fn}
theorem wB(W:∃qn st ps C fA fd,Hu X.K X.mg c "__init__" qn bs st ps C fA fd/\dP X.prog X.w X.K X.mg X.base pS k fA fd ps (nM X.K X.mg (true::fl) fs))(hr:cA n X.A)(ha:w5 X EX (e::es) as)(hk:k+1<=n:=by exact ZN)(hg:Gl X c:=by rfl)(uo:as.map VP.Arg.isIo=fl:=by rfl)(i9:Y3 c:=by decide)(he:ZC X e es:=by rfl) (jc:ZE X pos es:=by rfl):PF X EX (.Call (.Name c p) (e::es) [] pos) (dM c fs as):=
 let ⟨_,_,_,_,_,_,M,F⟩:=W;Ge (M.Uj rfl) F (hr.mono hk) hg M.gm M.bi pA ha uo i9 he jc
theorem n5{pl:Sem Bool}(W:∃qn st ps C fA fd,Hu X.K X.mg c m qn bs st ps C fA fd/\dP X.prog X.w X.K X.mg X.base pS k fA fd ps (nM X.K X.mg (false::fl) fs))(hr:cA n X.A)(ho:PV X EX o fo)(ha:w5 X EX (e::es) as)(hk:k<=n:=by exact ZN)(uo:as.map VP.Arg.isIo=fl:=by rfl)
  (ja:ZC X e es:=by rfl) (jc:ZE X pos es:=by rfl)
  (ht:eval (.Call (.Attribute o m UP) (e::es) [] pos) X.env=(do
   let ov <-eval o X.env
   standAt UP.atName
   let (f,first) <-holding [ov] (getMethod ov m pl)
   callWith pos f first (backTo pos (starEach (e::es) X.env)) (backToKw pos (keywordEach [] X.env))):=by rfl):PV X EX (.Call (.Attribute o m UP) (e::es) [] pos) (ck c m fs fo as):=
 let ⟨_,_,_,_,_,_,M,F⟩:=W;GD M.gm M.cls M.me F (hr.mono hk) M.bi pA ho ha uo ja jc ht
theorem Qk{pl:Sem Bool}(W:∃qn st ps C fA fd,Hu X.K X.mg c m qn true st ps C fA fd/\dP X.prog X.w X.K X.mg X.base pS k fA fd ps (nM X.K X.mg fl fs))(hr:cA n X.A)(ha:w5 X EX (e::es) as)(hk:k<=n:=by exact ZN)(hg:Gl X c:=by rfl)(uo:as.map VP.Arg.isIo=fl:=by rfl)
 (i9:Y3 c:=by decide) (ja:ZC X e es:=by rfl) (jc:ZE X pos es:=by rfl)
 (ht:eval (.Call (.Attribute (.Name c p) m UP) (e::es) [] pos) X.env=(do
  let ov <-eval (.Name c p) X.env
  standAt UP.atName
  let (f,first) <-holding [ov] (getMethod ov m pl)
  callWith pos f first (backTo pos (starEach (e::es) X.env)) (backToKw pos (keywordEach [] X.env))):=by rfl) :
 PV X EX (.Call (.Attribute (.Name c p) m UP) (e::es) [] pos) (ax fs as):=let ⟨_,_,_,_,_,_,M,F⟩:=W;Gw (M.ba rfl) F (hr.mono hk) M.bi pA ha hg uo i9 ja jc ht
theorem bj(W:∃st ps fA fd,oi X.K X.mg x st ps fA fd/\dP X.prog X.w X.K X.mg X.base pS k fA fd ps (nM X.K X.mg fl fs))(hr:cA n X.A)(ha:w5 X EX (e::es) as)(hk:k<=n:=by exact ZN)(hg:Gl X x:=by rfl)(uo:as.map VP.Arg.isIo=fl:=by rfl)(i9:Y3 x:=by decide)(he:ZC X e es:=by rfl) (jc:ZE X pos es:=by rfl):PV X EX (.Call (.Name x p) (e::es) [] pos) (ax fs as):=
 let ⟨_,_,_,_,D,F⟩:=W;Gx F (hr.mono hk) hg D.mg D.fu.kp D.bi pA ha uo i9 he jc
theorem XG(W:∃st ps fA fd,oi X.K X.mg x st ps fA fd/\dP X.prog X.w X.K X.mg X.base pS k fA fd ps (nM X.K X.mg [true] fs))(hr:cA n X.A)(ha:PF X EX a fa)(hk:k<=n:=by exact ZN)(hg:Gl X x:=by rfl)(i9:Y3 x:=by decide)(he:ZC X a []:=by rfl)(jc:(backTo pos (starEach [] X.env)).any (·.1)=false:=by rfl):PV X EX (.Call (.Name x p) [a] [] pos) (mh fs fa):=let ⟨_,_,_,_,D,F⟩:=W;Dw F (hr.mono hk) hg D.mg D.fu.kp D.bi pA ha i9 he jc
theorem cf(hm:X.mg "len" = none)(ha:PR X EX a fa)(hg:Gl X "len" := by rfl)(hs:ZC X a []:=by rfl):PV X EX (.Call (.Name "len" p) [a] [] pos) (m1 bB fa):=eU rM Ou hg hm PySem.boot_len ha (by decide) (by decide) hs
theorem uM(hm:X.mg "tuple" = none)(ha:PR X EX a fa)(hg:Gl X "tuple" := by rfl)(hs:ZC X a []:=by rfl):PV X EX (.Call (.Name "tuple" p) [a] [] pos) (m1 i6 fa):=zZ Q1H EK hg hm boot_tuple ha (by decide) (by decide) hs
theorem dE(hr:cA n X.A)(ha:PV X EX a fa)(hb:PV X EX b fb):PB X EX (.Compare a [.Eq] [b] pos) (tB (m2 b7 fa fb)):=cb (sJ hr.units) yf ha hb (bF _)
theorem vh(hr:cA n X.A)(ha:PV X EX a fa)(hb:PV X EX b fb):PB X EX (.Compare a [.NotEq] [b] pos) (tB (m2 fW fa fb)):=cb (wx hr.units) B2 ha hb (bF _)
theorem bZ(i:Nat){x:Str}{UR:Pos}(hN:X.N.Nodup)(he:PV X EX e fe)(hi:X.N[i]?=some x:=by rfl)(hx:Loc X.env.scope x:=by exact ZM)(hs:swapsWith e (some (.Name x UR)) pos.line X.env=pure false:=by rfl)(hf:ZD X x:=by exact ZL):mS X EX (.Assign [.Name x UR] e pos) (aN i fe):=M8 i hN hi hx he hs hf
theorem DX(i:Nat){x:Str}{UR:Pos}(hN:X.N.Nodup)(he:PF X EX e fe)(hi:X.N[i]?=some x:=by rfl)(hx:Loc X.env.scope x:=by exact ZM)(hs:swapsWith e (some (.Name x UR)) pos.line X.env=pure false:=by rfl)(hf:ZD X x:=by exact ZL):mS X EX (.Assign [.Name x UR] e pos) (fU i fe):=M7 i hN hi hx he hs hf
theorem jU(i:Nat)(hN:X.N.Nodup)(hi:X.N[i]?=some x:=by rfl)(hx:Loc X.env.scope x:=by exact ZM)(hf:ZD X x:=by exact ZL):w8 X EX (.Name x pos) [i] (aD i):=Hh i hN hi hx hf
theorem pX(i:Nat)(hN:X.N.Nodup)(h2:vt X EX es is)(hi:X.N[i]?=some x:=by rfl)(hx:Loc X.env.scope x:=by exact ZM)(hf:ZD X x:=by exact ZL) (hs:(assignEach (.Name x pos::es) X.env).map (·.2)=assign (.Name x pos) X.env::(assignEach es X.env).map (·.2):=by rfl):vt X EX (.Name x pos::es) (i::is):=DV i hN hi hx h2 hf hs
theorem IP(i:Nat){UP fP:Pos}(he:PV X EX e fe)(hN:X.N[i]?=some x:=by rfl)(hv:xc X.env.scope x:=by exact ZK)(hd:Y3 x:=by decide)
 (j9:Y4 x:=by decide)
 (hpe:∀{to:TE}{t:TA},PE X (.Name x p) to->PA X [e] t->PE X (.Call (.Attribute (.Name x p) "append" UP) [e] [] fP) (Sq X.K "list" sT to t):=by exact fun ho ha=>Iz PySem.F.plainAttrs_list PySem.F.slot_list_append PySem.F.type_list_append rf ho ha)
 (ja:ZC X e []:=by rfl):mS X EX (.Expr (.Call (.Attribute (.Name x p) "append" UP) [e] [] fP) pos) (lz i fe):=M4 i he hN hv hd j9 hpe ja
theorem qq(hi:tw X EX tg Om it)(hg:w8 X EX tg js gf)(hb:lN X EX body f)(sj:∀d r x r',gf d r≠.exc x r':=by first|exact eY|exact BY)(hp:PassesOwn (model X.prog X.w) X.A X.env X.xe:=by exact PassesOwn.never)(hc:X.calm=true:=by rfl)(hs:∀x,foldedSetIterable Om X.env x=pure x:=by exact ZP):mS X EX (.For tg Om body [] pos) (fE it gf f):=M6 hp hc hi hg hb sj hs
variable{it:M (List D)}{gf:D->M Unit}{ft:M Bool}{js:XT}{scope:Scope}
theorem vi(n:Nat)(N':R5)(hi:tw X EX tg Om it)(hg:N'.Nodup->∀{C s H ex},w8 (bE X scope C N' s H ex) EX tg js gf)(ht:∀{C s H ex EX},Ao (bE X scope C N' s H ex) EX ifs ft)(he:∀{C s H ex EX},PV (bE X scope C N' s H ex) EX elt fe)
 (nd:N'.Nodup:=by exact ZR) (sj:∀d r x r',gf d r≠.exc x r':=by first|exact eY|exact BY) (tD:∀j∈js,X.N.length<=j/\j<X.N.length+n:=by exact iF (by kernel_rfl)) (hc:X.calm=true:=by rfl) (c:bJ X scope N':=by exact⟨rfl,by kernel_rfl⟩) (hn:X.N.length+n+1=N'.length:=by rfl)
 (hs:∀x,foldedSetIterable Om X.env x=pure x:=by exact ZP):PF X EX (.ListComp elt [⟨tg,Om,ifs,0⟩] scope pos) (aS n it gf ft fe):=FZ n hc c hn hi sj tD (fun _ _ _ _=>hg nd) (fun _ _ _ _ _=>ht) (fun _ _ _ _ _=>he) hs
end
def Uz(K:Frag):Sp:=fun vs H Q _=>∃(a:Addr)(ns:Pa),vs=[.ref a]/\df K H a (ns.map V.int)/\ns.length<=63/\∀H',Q (.bl true) H'
abbrev NK(l:W.OpenLaw)(w:World)(K:Frag)(mg:MG)(fa:Addr)(k:Nat)(p:Str):Prop:=∃fd:FuncData,(∀(s:Shared)(v:Value),BindsTo s fd ⟨[v],[]⟩ [(p,v)])/\∀base:Heap,dP l.prog w K mg base pS k fa fd [p] (Uz K)
theorem walk63{l:W.OpenLaw}{q:Program}{loose:R5}{XP:(Str->Pj)->Heap->Prop}{YP:World->Heap->Prop}{d:DefRec}{K:Params->W.Frag}(k:Nat)(hn:l.most=some 63)(OH:d.params.defaults=[])
  (hY:∀(w:World)(h:Heap),YP w h->(K w.params).In h)
  (F:∀(w:World)(mg:Str->Pj)(fa:Addr)(h:Heap),(K w.params).In h->h.Ns mainGlobals mg->mg d.name=some (.ref fa)->NK l w (K w.params) mg fa k "_law_script") (hr:cA k callerA:=by exact⟨rfl,by decide,by decide⟩) :
  W.WalkO q loose XP YP l.row.toRowW d [] (fun f vs=>PySem.call f vs):=
 L2.Ho (n:=63) (k:=k) (x:="_law_script") (CX:=fun _=>pS) (sp:=fun w=>Uz (K w.params)) hn (by decide) OH hr hY (fun w mg fa h a b c=>let ⟨fd,u,v⟩:=F w mg fa h a b c;⟨fd,u,fun base _ _=>v base⟩) (fun _ _ a ns hl _ hS=>⟨a,ns,rfl,hS,hl,fun _=>rfl⟩) fun _ _ _ _ _ z=>z
end VS
end
section
namespace VP
section
variable{α β:Type}
noncomputable def Res.then{α β:Type}:Res α->(α->M β)->Res β|.ok a r,g=>g a r|.exc x r,_=>.exc x r|.no,_=>.no
noncomputable def Res.seq:Res Fl->M Fl->Res Fl|.ok .nx r,g=>g r|.ok k r,_=>.ok k r|.exc x r,_=>.exc x r|.no,_=>.no
noncomputable def Res.turn:Res Fl->M Fl->Res Fl|.ok .nx r,g=>g r|.ok .ct r,g=>g r|.ok .bk r,_=>.ok .nx r|.ok (.rt d) r,_=>.ok (.rt d) r|.exc x r,_=>.exc x r|.no,_=>.no
@[simp] theorem ay(a:α)(r:aQ)(g:α->M β):(Res.ok a r).then g=g a r:=ZF
@[simp] theorem noL(c:Prop)[Decidable c](a b:Res α)(g:α->M β):(if c then a else b).then g=if c then a.then g else b.then g:=by split<;>rfl
@[simp] theorem wH(r:aQ)(g:M Fl):(Res.ok .nx r).seq g=g r:=ZF
@[simp] theorem Q01(d:D)(r:aQ)(g:M Fl):(Res.ok (.rt d) r).seq g=.ok (.rt d) r:=ZF
@[simp] theorem Q0A(c:Prop)[Decidable c](a b:Res Fl)(g:M Fl):(if c then a else b).seq g=if c then a.seq g else b.seq g:=by split<;>rfl
@[simp] theorem Hd(r:aQ)(g:M Fl):(Res.ok .nx r).turn g=g r:=ZF
@[simp] theorem He(d:D)(r:aQ)(g:M Fl):(Res.ok (.rt d) r).turn g=.ok (.rt d) r:=ZF
@[simp] theorem dG(a:α)(r:aQ):ret a r=.ok a r:=ZF
@[simp] theorem cn(a:α):opt (some a)=ret a:=ZF
theorem aE(f:M α)(g:α->M β)(r:aQ):YV f g r=(f r).then g:=by unfold YV;cases f r<;>rfl
@[simp] theorem Q0D(d:D)(r:aQ):mC d r=.ok d r:=ZF
@[simp] theorem Iv(g:D->S4)(a:M D)(r:aQ):m1 g a r=(a r).then fun x=>opt (g x):=aE _ _ _
@[simp] theorem Px(g:D->D->S4)(a b:M D)(r:aQ):m2 g a b r=(a r).then fun x r=>(b r).then fun y=>opt (g x y):=by unfold m2;rw[aE];congr;funext x r;exact aE _ _ _
@[simp] theorem Q19(r:aQ):mL [] r=.ok [] r:=ZF
@[simp] theorem Fq(f:M D)(fs:List (M D))(r:aQ):mL (f::fs) r=(f r).then fun x r=>(mL fs r).then fun xs=>ret (x::xs):=by
 conv=>lhs;unfold mL
 rw[aE];congr;funext x r;exact aE _ _ _
@[simp] theorem PD(g:Sg->S4)(as:List (M D))(r:aQ):mF g as r=(mL as r).then fun xs=>opt (g xs):=aE _ _ _
@[simp] theorem Fz(as:List (M D))(r:aQ):bc as r=(mL as r).then fun xs=>opt (Ad xs):=aE _ _ _
@[simp] theorem Fs(as:List (M D))(r:aQ):du as r=(mL as r).then fun xs=>opt (zC xs):=aE _ _ _
def boolOf:D->M Bool|.bl b=>ret b|_=>stuck
@[simp] theorem Q0Q(b:Bool):boolOf (.bl b)=ret b:=ZF
@[simp] theorem QO(a:M D)(r:aQ):tB a r=(a r).then boolOf:=by unfold tB;rw[aE];cases a r with|ok d r'=>cases d<;>rfl|_=>rfl
@[simp] theorem G6(a:M Bool)(r:aQ):lD a r=(a r).then fun b=>ret (!b):=aE _ _ _
@[simp] theorem G4(a b:M Bool)(r:aQ):kF a b r=(a r).then fun x r=>if x=true then b r else .ok false r:=by unfold kF;rw[aE];congr;funext x r;cases x<;>rfl
@[simp] theorem MR(a b:M Bool)(r:aQ):qo a b r=(a r).then fun x r=>if x=true then .ok true r else b r:=by unfold qo;rw[aE];congr;funext x r;cases x<;>rfl
@[simp] theorem Kz(c:M Bool)(a b:M D)(r:aQ):yv c a b r=(c r).then fun x r=>if x=true then a r else b r:=by unfold yv;rw[aE];congr;funext x r;cases x<;>rfl
@[simp] theorem CJ(a b:M D)(r:aQ):ni a b r=((a r).then boolOf).then fun x r=>if x=true then b r else .ok (.bl false) r:=by
 unfold ni;rw[aE];cases a r with
 |ok d r'=>
  cases d<;>try rfl
  rename_i b;cases b<;>rfl
 |_=>rfl
@[simp] theorem Ft(a b:M D)(r:aQ):zH a b r=((a r).then boolOf).then fun x r=>if x=true then .ok (.bl true) r else b r:=by
 unfold zH;rw[aE];cases a r with
 |ok d r'=>
  cases d<;>try rfl
  rename_i b;cases b<;>rfl
 |_=>rfl
@[simp] theorem Q0J(r:aQ):aA r=.ok .nx r:=ZF
@[simp] theorem oa(f g:M Fl)(r:aQ):ak f g r=(f r).seq g:=by unfold ak YV;cases f r with|ok k r'=>cases k<;>rfl|_=>rfl
@[simp] theorem mH(f:M Unit)(r:aQ):Eg f r=(f r).then fun _=>ret .nx:=aE _ _ _
@[simp] theorem Q0Y(f:M D)(r:aQ):aC f r=(f r).then fun d=>ret (.rt d):=aE _ _ _
@[simp] theorem My(c:M Bool)(a b:M Fl)(r:aQ):bI c a b r=(c r).then fun x r=>if x=true then a r else b r:=by unfold bI;rw[aE];congr;funext x r;cases x<;>rfl
@[simp] theorem GS(i:Nat)(f:M D)(r:aQ):aN i f r=(f r).then fun d r=>if free r[i]?=true then .ok .nx (r.set i (.sh d)) else .no:=by unfold aN;rw[aE];congr;funext d r;rw[mH];unfold nJ;split<;>rfl
@[simp] theorem GQ(i:Nat)(f:M D)(r:aQ):fU i f r=(f r).then fun d r=>if free r[i]?=true then .ok .nx (r.set i (.ow d)) else .no:=by unfold fU;rw[aE];congr;funext d r;rw[mH];unfold CQ;split<;>rfl
@[simp] theorem Mx(i:Nat)(f:M Fl)(r:aQ):vj i f r=(Nx i r).then fun _=>f:=aE _ _ _
noncomputable def QH:Option Sl->Option D|some (.sh d)=>some d|_=>none
noncomputable def anyOf:Option Sl->Option D|some (.sh d)=>some d|some (.ow d)=>some d|some (.io d)=>some d|_=>none
@[simp] theorem Q1k(d:D):QH (some (.sh d))=some d:=ZF
@[simp] theorem Q1n(d:D):anyOf (some (.ow d))=some d:=ZF
@[simp] theorem Q00:free (some .no)=true:=ZF
@[simp] theorem Q06(d:D):free (some (.sh d))=true:=ZF
@[simp] theorem wz(d:D):own (some (.ow d))=some d:=ZF
@[simp] theorem Q0F(d:D):own (some (.io d))=some d:=ZF
@[simp] theorem FA(i:Nat)(r:aQ):af i r=opt (QH r[i]?) r:=by unfold af;cases h:r[i]? with|none=>rfl|some s=>cases s<;>rfl
@[simp] theorem KA(i:Nat)(r:aQ):yw i r=opt (anyOf r[i]?) r:=by unfold yw;cases h:r[i]? with|none=>rfl|some s=>cases s<;>rfl
noncomputable def Vk(i:Nat)(r:aQ):Option Sl->Res Unit|some (.ow d)=>.ok () (r.set i (.sh d))|some (.sh _)=>.ok () r|_=>.no
@[simp] theorem Q08(i:Nat)(r:aQ):Nx i r=Vk i r r[i]?:=by unfold Nx;cases h:r[i]? with|none=>rfl|some s=>cases s<;>rfl
@[simp] theorem Q0P(i:Nat)(r:aQ)(d:D):Vk i r (some (.ow d))=.ok () (r.set i (.sh d)):=ZF
noncomputable def Mm(i:Nat)(r:aQ):Option Sl->D->aQ|some (.ow _),d=>r.set i (.ow d)|some (.io _),d=>r.set i (.io d)|_,_=>r
@[simp] theorem sP(i:Nat)(d:D)(r:aQ):cE i d r=Mm i r r[i]? d:=by unfold cE;cases h:r[i]? with|none=>rfl|some s=>cases s<;>rfl
@[simp] theorem sO(i:Nat)(r:aQ)(e d:D):Mm i r (some (.ow e)) d=r.set i (.ow d):=ZF
@[simp] theorem Q0O(i:Nat)(r:aQ)(e d:D):Mm i r (some (.io e)) d=r.set i (.io d):=ZF
@[simp] theorem lj(i:Nat)(g:D->S4)(r:aQ):fD i g r=(opt (own r[i]?) r).then fun d r=>(opt (g d) r).then fun d' r=>.ok () (cE i d' r):=by unfold fD;cases own r[i]? with|none=>rfl|some d=>simp only[cn,dG,ay];cases g d<;>rfl
@[simp] theorem GO(i:Nat)(fe:M D)(r:aQ):lz i fe r=if isLst (own r[i]?)=true then(fe r).then fun x r=>(fD i (gb x) r).then fun _=>ret .nx else .no:=by unfold lz;split;rw[aE];congr;funext x r;exact mH _ _;rfl
@[simp] theorem isLst_lst(ds:Sg):isLst (some (.lst ds))=true:=ZF
@[simp] theorem z9(i:Nat)(fk fv:M D)(r:aQ):gy i fk fv r=(fv r).then fun v r=>if isLst (own r[i]?)=true then(fk r).then fun k r=>(fD i (setAt k v) r).then fun _=>ret .nx else .no:=by unfold gy;rw[aE];congr;funext v r;split;rw[aE];congr;funext k r;exact mH _ _;rfl
@[simp] theorem oM(i:Nat)(d:D)(r:aQ):aD i d r=if free r[i]?=true then .ok () (r.set i (.sh d)) else .no:=ZF
@[simp] theorem yx(i:Nat)(d:D)(r:aQ):nJ i d r=if free r[i]?=true then .ok () (r.set i (.sh d)) else .no:=ZF
@[simp] theorem Q22(r:aQ):qa [] [] r=.ok () r:=ZF
@[simp] theorem qS(i:Nat)(is:XT)(d:D)(ds:Sg)(r:aQ):qa (i::is) (d::ds) r=(nJ i d r).then fun _=>qa is ds:=aE _ _ _
@[simp] theorem EJ(is:XT)(ds:Sg):cW is (.tup ds)=qa is ds:=ZF
@[simp] theorem GP(it:M (List D))(g:D->M Unit)(body:M Fl)(r:aQ):fE it g body r=(it r).then fun ds=>loop g body ds:=aE _ _ _
@[simp] theorem l9(g:D->M Unit)(body:M Fl)(d:D)(ds:Sg)(r:aQ):loop g body (d::ds) r=(g d r).then fun _ r=>(body r).turn (loop g body ds):=by
 conv=>lhs;unfold loop
 rw[aE];congr;funext u r;rw[aE];cases body r with|ok k r'=>cases k<;>rfl|_=>rfl
@[simp] theorem Q1w(k:Nat)(g:D->M Unit)(test:M Bool)(elt:M D)(r:aQ):turns k g test elt [] r=.ok () r:=ZF
@[simp] theorem kG(k:Nat)(g:D->M Unit)(test:M Bool)(elt:M D)(d:D)(ds:Sg)(r:aQ):turns k g test elt (d::ds) r=(g d r).then fun _ r=>(test r).then fun b r=>if b=true then(elt r).then fun x r=>(fD k (gb x) r).then fun _=>turns k g test elt ds else turns k g test elt ds r:=by
 conv=>lhs;unfold turns
 rw[aE];congr;funext u r;rw[aE];congr;funext b r;cases b with|true=>simp only[if_true];rw[aE];congr;funext x r;exact aE _ _ _|false=>rfl
theorem oY(n:Nat)(it:M (List D))(g:D->M Unit)(test:M Bool)(elt:M D)(r:aQ):aS n it g test elt r=(it r).then fun ds=>inner n fun k=>turns k g test elt ds:=aE _ _ _
def fin(fl:N0):Res Fl->FR
|.ok (.rt d) r=>match b9 fl r with
  |some cB=>.ok d cB|none=>.no
 |.ok .nx r=>match b9 fl r with|some cB=>.ok .bz cB|none=>.no
 |.exc x r=>match b9 fl r with|some cB=>.exc x cB|none=>.no
 |_=>.no
theorem eV(n:Nat)(fl:N0)(body:M Fl)(ds:Sg)(h:ds.length=fl.length):defn n fl body ds=fin fl (body (cO n fl ds)):=by unfold defn;rw[ZY h];cases body (cO n fl ds) with|ok k r=>cases k<;>rfl|_=>rfl
def HH(js:XT)(r:aQ):FR->Res D|.ok d cB=>.ok d (putAll js cB r)|.exc x cB=>.exc x (putAll js cB r)|.no=>.no
@[simp] theorem ot(js:XT)(r:aQ)(d:D)(cB:Sg):HH js r (.ok d cB)=.ok d (putAll js cB r):=ZF
@[simp] theorem Q13(ds:Sg)(r:aQ):putAll [] ds r=r:=ZF
@[simp] theorem Q1Q(j:Nat)(js:XT)(d:D)(ds:Sg)(r:aQ):putAll (j::js) (d::ds) r=putAll js ds (cE j d r):=ZF
@[simp] theorem Q21(r:aQ):bL [] r=.ok [] r:=ZF
@[simp] theorem Q05(f:M D)(as:List Arg)(r:aQ):bL (.val f::as) r=(f r).then fun d r=>(bL as r).then fun vs=>ret (.val d::vs):=by
 conv=>lhs;unfold bL
 rw[aE];congr;funext x r;exact aE _ _ _
@[simp] theorem Q0q(r:aQ):pU [] r=some []:=ZF
@[simp] theorem Q0u(d:D)(as:List AV)(r:aQ):pU (.val d::as) r=(pU as r).map (d::·):=ZF
@[simp] theorem Jj(j:Nat)(as:List AV)(r:aQ):pU (.io j::as) r=(own r[j]?).bind fun d=>(pU as r).map (d::·):=by
 conv=>lhs;unfold pU
 cases own r[j]?<;>rfl
@[simp] theorem Q1l:fC []=[]:=ZF
@[simp] theorem Cn(d:D)(as:List AV):fC (.val d::as)=fC as:=ZF
@[simp] theorem EV(j:Nat)(as:List AV):fC (.io j::as)=j::fC as:=ZF
@[simp] theorem CK(f:Fn)(as:List Arg)(r:aQ):ax f as r=(bL as r).then fun vs=>nI f vs:=aE _ _ _
@[simp] theorem sx(f:Fn)(vs:List AV)(r:aQ):nI f vs r=(opt (pU vs r) r).then fun ds r=>if (fC vs).Nodup then HH (fC vs) r (f ds) else .no:=by unfold nI;cases pU vs r with|none=>rfl|some ds=>simp only[cn,dG,ay];split;cases f ds<;>rfl;rfl
@[simp] theorem nz(n:Nat)(b:Bool)(bs:N0)(d:D)(ds:Sg):cO (n+1) (b::bs) (d::ds)=(if b=true then .io d else .sh d)::cO n bs ds:=by cases b<;>rfl
@[simp] theorem pM(n:Nat):cO n [] []=List.replicate n .no:=ZF
@[simp] theorem As(i j:Int):aY (.int i) (.int j)=some (.int (i+j)):=ZF
@[simp] theorem yR(i j:Int):gA (.int i) (.int j)=some (.int (i-j)):=ZF
@[simp] theorem FH(i:Int):mw (.int i)=some (.int (-i)):=ZF
@[simp] theorem mf(i j:Int):ltI (.int i) (.int j)=some (.bl (decide (i<j))):=ZF
@[simp] theorem gi(i j:Int):pW (.int i) (.int j)=some (.bl (decide (i<=j))):=ZF
@[simp] theorem B5(i j:Int):B4 (.int i) (.int j)=some (.bl (decide (j<i))):=ZF
@[simp] theorem JO(i j:Int):RN (.int i) (.int j)=some (.bl (decide (j<=i))):=ZF
theorem hJ(i j:Int)(h:0<j):nL (.int i) (.int j)=some (.int (i % j)):=ZY h
theorem qP(i j:Int)(h:0<j)(h2:j<1073741824):yb (.int i) (.int j)=some (.int (i / j)):=ZY ⟨h,h2⟩
theorem mq(i j:Int)(h:-(2 ^ 64)<i)(h2:i<2 ^ 64):mn (.int i) (.int j)=some (.int (i*j)):=ZY (.inl ⟨h,h2⟩)
theorem gp(i j:Int)(h:-(2 ^ 64)<j)(h2:j<2 ^ 64):mn (.int i) (.int j)=some (.int (i*j)):=ZY (.inr ⟨h,h2⟩)
@[simp] theorem gI(i j:Int):b7 (.int i) (.int j)=some (.bl (decide (i=j))):=by simp[b7,plain,BE];rfl
@[simp] theorem di(i j:Int):fW (.int i) (.int j)=some (.bl (!decide (i=j))):=by simp[fW,plain,BE];rfl
@[simp] theorem Q1i(ds:Sg):bB (.tup ds)=some (.int ds.length):=ZF
@[simp] theorem Q1s(ds:Sg):bB (.lst ds)=some (.int ds.length):=ZF
@[simp] theorem sy(i j:Int):maxD [.int i,.int j]=some (.int (max i j)):=by simp only[maxD,Option.some.injEq,D.int.injEq];split<;>lia
@[simp] theorem DG(ds:Sg):cq (.tup ds)=some ds:=ZF
@[simp] theorem Q20(ds:Sg):cq (.lst ds)=some ds:=ZF
@[simp] theorem Fy(f:M D)(r:aQ):dk f r=(f r).then fun d=>opt (cq d):=aE _ _ _
@[simp] theorem CS(fl:List (M D))(r:aQ):cJ fl r=(mL fl r).then fun xs=>opt (qi xs):=aE _ _ _
@[simp] theorem FD(fl:List (M D))(r:aQ):qg fl r=(mL fl r).then fun xs=>opt (mQ xs):=aE _ _ _
noncomputable def O9(n:Nat):Sg:=(List.range n).map fun(i:Nat)=>D.int i
theorem GJ(j:Int)(h:-(2 ^ 62)<=j)(h2:j<2 ^ 62):qi [.int j]=some (O9 j.toNat):=ZY ⟨h,h2⟩
theorem G9(ds:Sg)(h:ds.length<=16777216):Ad ds=some (.tup ds):=ZY h
theorem Fg(ds:Sg)(h:ds.length<=16777216):zC ds=some (.lst ds):=ZY h
@[simp] theorem Q04:zC []=some (.lst []):=ZF
theorem ip(x:D)(xs:Sg)(h:xs.length<16777216):gb x (.lst xs)=some (.lst (xs++[x])):=by show (if _ then _ else _)=_;rw[ZY h]
theorem Q0w(xs ys:Sg)(h:xs.length+ys.length<=iS):aY (.tup xs) (.tup ys)=some (.tup (xs++ys)):=ZY h
theorem kL(xs ys:Sg)(h:xs.length+ys.length<=iS):aY (.lst xs) (.lst ys)=some (.lst (xs++ys)):=ZY h
theorem ky(xs:Sg)(i:Int)(d:D)(h0:0<=i)(h:xs[i.toNat]?=some d):yq xs i=some d:=by have hl:=(List.getElem?_eq_some_iff.mp h).1;unfold yq E4;rw[ZY h0,ZY ZG];exact h
@[simp] theorem Q0K(xs:Sg)(i:Int):aq (.tup xs) (.int i)=yq xs i:=ZF
@[simp] theorem jK(xs:Sg)(i:Int):aq (.lst xs) (.int i)=yq xs i:=ZF
def intOf:D->M (Option Int)|.int i=>ret (some i)|_=>stuck
@[simp] theorem vY(f:M D)(r:aQ):lh (some f) r=(f r).then intOf:=by show YV f _ r=_;rw[aE];cases f r with|ok d r'=>cases d<;>rfl|_=>rfl
@[simp] theorem KC(g:D->XB->XB->S4)(f:M D)(lo hi:Option (M D))(r:aQ):nK g f lo hi r=(f r).then fun d r=>(lh lo r).then fun l r=>(lh hi r).then fun h=>opt (g d l h):=by unfold nK;rw[aE];congr;funext d r;rw[aE];congr;funext l r;exact aE _ _ _
@[simp] theorem Ky(g g2:D->D->S4)(a b c:M D)(r:aQ):zD g g2 a b c r=(a r).then fun x r=>(b r).then fun y r=>((opt (g x y) r).then boolOf).then fun k r=>if k=true then(c r).then fun z=>opt (g2 y z) else .ok (.bl false) r:=by
 unfold zD;rw[aE];congr;funext x r;rw[aE];congr;funext y r;rw[aE];cases g x y with
 |none=>rfl|some d=>
  cases d<;>try rfl
  rename_i k;cases k;rfl;exact aE _ _ _
@[simp] theorem Fw(f:M D)(r:aQ):Fv f r=(f r).then fun d=>opt ((cq d).map List.reverse):=aE _ _ _
@[simp] theorem tU(xs:Sg)(lo hi:XB):d6 (.lst xs) lo hi=some (.lst (cutD xs lo hi)):=ZF
theorem dH{r:aQ}{xs:aQ}{s s':Sl}:(r++s::xs).set r.length s'=r++s'::xs:=by rw[List.set_append_right _ _ (ZU _)];simp
theorem cZ{r:aQ}{xs:aQ}{s:Sl}:(r++s::xs)[r.length]?=some s:=by rw[Zc (ZU _)];simp
theorem u7{r:aQ}{s:Sl}{acc:Sg}{x:D}(h:acc.length<16777216):fD (r.length+1) (gb x) (r++[s,.ow (.lst acc)])=.ok () (r++[s,.ow (.lst (acc++[x]))]):=by have e:r++[s,Sl.ow (.lst acc)]=(r++[s])++Sl.ow (.lst acc)::[]:=ZH;have e2:r.length+1=(r++[s]).length:=ZH;rw[e,e2,lj,cZ];simp only[wz,cn,dG,ay,ip x acc h,sP,cZ,sO,dH];simp
theorem Od(t:D->Bool)(f:D->D)(oQ:it r=.ok ds r)(hk:k=r.length)(hL:ds.length<=16777216)
  (ht:∀d∈ds,∀acc,test (r++[.sh d,.ow acc])=.ok (t d) (r++[.sh d,.ow acc]))
  (he:∀d∈ds,t d=true->∀acc,elt (r++[.sh d,.ow acc])=.ok (f d) (r++[.sh d,.ow acc])) :
  aS 1 it (aD k) test elt r=.ok (.lst ((ds.filter t).map f)) r:=by
 subst hk;have key:∀(es:Sg)(acc:Sg)(s:Sl),free (some s)=true->(∀d∈es,d∈ds)->acc.length+es.length<=16777216->∃s',turns (r.length+1) (aD r.length) test elt es (r++[s,.ow (.lst acc)])=.ok () (r++[s',.ow (.lst (acc++(es.filter t).map f))]):=by
  intro es;induction es with
  |nil=>intro acc s _ _ _;exact⟨s,ZH⟩|cons d es ih=>
   intro acc s hs hm hl;have hd:=hm d Z2;have OP:∀x∈es,x∈ds:=fun x hx=>hm x (Z1 _ hx);have e1:aD r.length d (r++[s,.ow (.lst acc)])=.ok () (r++[.sh d,.ow (.lst acc)]):=by rw[oM,cZ,ZY hs,dH]
   rw[kG,e1,ay,ht d hd,ay];cases q:t d with|false=>obtain⟨s',z⟩:=ih acc (.sh d) rfl OP (by simp at hl;lia);refine⟨s',?_⟩;rw[Za ZH,z,pZ,q,Za ZH]|true=>obtain⟨s',z⟩:=ih (acc++[f d]) (.sh d) rfl OP (by simp at hl ⊢;lia);refine⟨s',?_⟩;rw[ZY rfl,he d hd q,ay,u7 (by simp at hl;lia),ay,z,pZ,q,ZY rfl];simp
 obtain⟨s',z⟩:=key ds [] .no rfl (fun _ h=>h) (by simpa using hL);rw[oY,oQ,ay];unfold inner;have e:r++List.replicate 1 Sl.no++[Sl.ow (.lst [])]=r++[.no,.ow (.lst [])]:=ZH;dsimp only;rw[e,z];have e2:(r++[s',Sl.ow (.lst ([]++(ds.filter t).map f))])[r.length+1]?=some (.ow (.lst ([]++(ds.filter t).map f))):=by rw[Zc ZG];simp
 simp only[e2];simp
theorem Jp(f:D->D)(oQ:it r=.ok ds r)(hk:k=r.length)(hL:ds.length<=16777216)
  (he:∀d∈ds,∀acc,elt (r++[.sh d,.ow acc])=.ok (f d) (r++[.sh d,.ow acc])) :
  aS 1 it (aD k) (ret true) elt r=.ok (.lst (ds.map f)) r:=by
 have:=Od (test:=ret true) (fun _=>true) f oQ hk hL (fun _ _ _=>rfl) (fun d h _=>he d h);rw[this,List.filter_eq_self.mpr (fun _ _=>rfl)]
end
@[simp] theorem Q1p(r:aQ):b9 [] r=some []:=by cases r<;>rfl
@[simp] theorem Q1j(bs:N0)(s:Sl)(r:aQ):b9 (false::bs) (s::r)=b9 bs r:=ZF
@[simp] theorem Q1z(bs:N0)(d:D)(r:aQ):b9 (true::bs) (.io d::r)=(b9 bs r).map (d::·):=ZF
noncomputable def JE(d:D):Option (List D)->FR|some cB=>.ok d cB|none=>.no
@[simp] theorem Q1u(d:D)(l:Sg):JE d (some l)=.ok d l:=ZF
@[simp] theorem Q1y(fl:N0)(d:D)(r:aQ):fin fl (.ok (.rt d) r)=JE d (b9 fl r):=by unfold fin JE;first|(dsimp only;done)|(dsimp only;cases b9 fl r<;>rfl)
@[simp] theorem uT(n:Nat):List.replicate (n+1) Sl.no=.no::List.replicate n .no:=ZF
@[simp] theorem IG:List.replicate 0 Sl.no=[]:=ZF
noncomputable def T(xs:Pa):D:=.tup (xs.map .int)
noncomputable def Z(xs:Pa):D:=.lst (xs.map .int)
@[simp] theorem Ks(xs:Pa):bB (T xs)=some (.int xs.length):=by simp[T]
@[simp] theorem Kt(xs:Pa):bB (Z xs)=some (.int xs.length):=by simp[Z]
@[simp] theorem sW(xs:Pa):cq (T xs)=some (xs.map .int):=ZF
@[simp] theorem MA(xs:Pa):cq (Z xs)=some (xs.map .int):=ZF
@[simp] theorem Q0b(xs:Pa):gZ (T xs)=some (Z xs):=ZF
@[simp] theorem Q1U(xs:Pa):gZ (Z xs)=some (Z xs):=ZF
@[simp] theorem Hb(xs:Pa):i6 (T xs)=some (T xs):=ZF
@[simp] theorem Hc(xs:Pa):i6 (Z xs)=some (T xs):=ZF
@[simp] theorem Q1q(xs:Pa)(i:Int):aq (Z xs) (.int i)=yq (xs.map .int) i:=ZF
theorem fS(xs:Pa)(i:Int)(h0:0<=i)(h:i<xs.length):yq (xs.map D.int) i=some (.int (xs.getD i.toNat 0)):=by refine ky _ _ _ h0 ?_;have h2:i.toNat<xs.length:=ZG;simp[h2]
theorem eN(xs ys:Pa)(h:xs.length+ys.length<=iS):aY (T xs) (T ys)=some (T (xs++ys)):=by unfold T;rw[Q0w]<;>simp[h]
theorem Jf(xs ys:Pa)(h:xs.length+ys.length<=iS):aY (Z xs) (Z ys)=some (Z (xs++ys)):=by unfold Z;rw[kL]<;>simp[h]
theorem Ay(xs:Pa)(x:Int)(h:xs.length<16777216):gb (.int x) (Z xs)=some (Z (xs++[x])):=by unfold Z;rw[ip];simp;simpa using h
theorem MV:D.tup []=T []:=ZF
theorem Pr:D.lst []=Z []:=ZF
theorem gL(n:Nat)(xs:Pa):eT n (xs.map .int)=true:=by induction xs with|nil=>cases n<;>rfl|cons x xs ih=>simp[eT,ih];cases n<;>simp[plain]
theorem lT(xs ys:Pa):oA (xs.map .int) (ys.map .int)=decide (xs=ys):=by induction xs generalizing ys with|nil=>cases ys<;>simp[oA]|cons x xs ih=>cases ys with|nil=>simp[oA]|cons y ys=>simp[oA,ih,BE];rfl
@[simp] theorem BH(xs ys:Pa):b7 (T xs) (T ys)=some (.bl (decide (xs=ys))):=by unfold b7 T;simp[plain,gL,BF,BG,lT]
@[simp] theorem CV(xs ys:Pa):fW (T xs) (T ys)=some (.bl (!decide (xs=ys))):=by unfold fW T;simp[plain,gL,BF,BG,lT]
theorem Al(a b:D)(xs ys:Pa)(ha:cq a=some (xs.map .int))(hb:cq b=some (ys.map .int)):mQ [a,b]=some ((xs.zip ys).map fun p=>.tup [.int p.1,.int p.2]):=by simp only[mQ,ha,hb];congr 1;clear ha hb;induction xs generalizing ys with|nil=>simp|cons x xs ih=>cases ys with|nil=>simp|cons y ys=>simp[ih]
@[simp] theorem Mu(xs:Pa):qh (Z xs)=some (T xs.reverse):=by simp[qh,T]
theorem ly(j:Int)(n:Nat)(h:j.toNat=n)(h2:-(2 ^ 62)<=j)(h3:j<2 ^ 62):qi [.int j]=some ((List.range n).map fun(k:Nat)=>.int k):=by subst h;exact GJ j h2 h3
noncomputable def bw(g:D->M Unit)(body:M Fl)(d:D)(r:aQ):Res Fl:=(g d r).then fun _=>body
noncomputable def cont:Res Fl->Option aQ|.ok .nx r=>some r|.ok .ct r=>some r|_=>none
@[simp] theorem Q1v(r:aQ):cont (.ok .nx r)=some r:=ZF
theorem jM(h:cont (bw g body d r)=some r'):loop g body (d::ds) r=loop g body ds r':=by rw[l9];unfold bw at h;cases q:g d r with|no=>rw[q] at h;cases h|exc x r=>rw[q] at h;cases h|ok u r1=>rw[q,ay] at h;rw[ay];cases q2:body r1 with|no=>rw[q2] at h;cases h|exc x r=>rw[q2] at h;cases h|ok k r2=>rw[q2] at h;cases k with|nx=>cases h;rfl|ct=>cases h;rfl|bk=>cases h|rt v=>cases h
theorem CC(h:bw g body d r=.ok (.rt v) r'):loop g body (d::ds) r=.ok (.rt v) r':=by rw[l9];unfold bw at h;cases q:g d r with|no=>rw[q] at h;cases h|exc x r=>rw[q] at h;cases h|ok u r1=>rw[q,ay] at h;rw[ay,h];rfl
noncomputable def jm{S E A:Type}(step:S->A->E ⊕ S):List A->S->E ⊕ S|[],s=>.inr s|a::as,s=>match step s a with|.inl e=>.inl e|.inr s'=>jm step as s'
theorem kA{S Tm A:Type}(mk:A->D)(R:S->Tm->aQ)(ok:Tm->Prop)(step:S->A->D ⊕ S):∀(as:List A)(P:Nat->S->Prop)(s:S)(t:Tm),ok t->P 0 s ->
  (∀(i:Nat)(a:A),as[i]?=some a->∀s t,ok t->P i s->match step s a with|.inr s'=>P (i+1) s'/\∃t',ok t'/\cont (bw g body (mk a) (R s t))=some (R s' t')|.inl v=>∃s' t',bw g body (mk a) (R s t)=.ok (.rt v) (R s' t')) ->
  match jm step as s with|.inr s'=>P as.length s'/\∃t',ok t'/\loop g body (as.map mk) (R s t)=.ok .nx (R s' t')|.inl v=>∃s' t',loop g body (as.map mk) (R s t)=.ok (.rt v) (R s' t'):=by
 intro as;induction as with|nil=>intro P s t ht hs _;exact⟨hs,t,ht,rfl⟩|cons a as ih=>intro P s t ht hs h;have h1:=h 0 a rfl s t ht hs;simp only[jm,List.map_cons];cases q:step s a with|inl v=>rw[q] at h1;obtain⟨s',t',e⟩:=h1;exact⟨s',t',CC e⟩|inr s1=>rw[q] at h1;obtain⟨p1,t1,o1,e1⟩:=h1;have h2:=ih (fun k=>P (k+1)) s1 t1 o1 p1 fun i a' ha=>h (i+1) a' (by simpa using ha);have e:(a::as).length=as.length+1:=ZH;dsimp only;rw[e];cases q2:jm step as s1 with|inl v=>rw[q2] at h2;obtain⟨s',t',z⟩:=h2;exact⟨s',t',by rw[jM e1];exact z⟩|inr s2=>rw[q2] at h2;obtain⟨p2,t2,o2,z⟩:=h2;exact⟨p2,t2,o2,by rw[jM e1];exact z⟩
theorem iG{S Tm A:Type}(mk:A->D)(R:S->Tm->aQ)(ok:Tm->Prop)(P:Nat->S->Prop)(step:S->A->S)(as:List A)(s:S)(t:Tm)(ht:ok t)(hs:P 0 s)
  (h:∀(i:Nat)(a:A),as[i]?=some a->∀s t,ok t->P i s->P (i+1) (step s a)/\∃t',ok t'/\cont (bw g body (mk a) (R s t))=some (R (step s a) t')) :
  P as.length (as.foldl step s)/\∃t',ok t'/\loop g body (as.map mk) (R s t)=.ok .nx (R (as.foldl step s) t'):=by
 have:=kA (g:=g) (body:=body) mk R ok (fun s a=>.inr (step s a)) as P s t ht hs h;have e:∀(as:List A)(s:S),jm (E:=D) (fun s a=>.inr (step s a)) as s=.inr (as.foldl step s):=by intro as;induction as with|nil=>intro s;rfl|cons a as ih=>intro s;exact ih _
 rw[e] at this;exact this
theorem dz(h:(List.range n)[i]?=some k):k=i/\i<n:=by have h1:=(List.getElem?_eq_some_iff.mp h).1;simp at h1;rw[uD h1] at h;exact⟨(ZV h).symm,h1⟩
def qR(s:Sl):Prop:=free (some s)=true
def j6(s:Sl×Sl):Prop:=free (some s.1)=true/\free (some s.2)=true
def ye(s:Sl×Sl×Sl):Prop:=free (some s.1)=true/\free (some s.2.1)=true/\free (some s.2.2)=true
@[simp] theorem E3(j:Nat)(i:D)(r:aQ):Ct j i r=(opt (own r[j]?) r).then fun d=>opt (aq d i):=by unfold Ct;cases own r[j]?<;>rfl
@[simp] theorem Fo(j:Nat)(fb:M D)(r:aQ):bU j fb r=if (own r[j]?).isSome=true then(fb r).then (Ct j) else .no:=by unfold bU;split;exact aE _ _ _;rfl
theorem E5(n:Nat)(i:Int)(h0:0<=i)(h:i<n):E4 n i=some i.toNat:=by unfold E4;rw[ZY h0,ZY h]
theorem mJ(xs:Sg)(i:Int)(v:D)(h0:0<=i)(h:i<xs.length):setAt (.int i) v (.lst xs)=some (.lst (xs.set i.toNat v)):=by show (E4 xs.length i).map _=_;rw[E5 _ _ h0 h];rfl
theorem yO(xs:Pa)(i v:Int)(h0:0<=i)(h:i<xs.length):setAt (.int i) (.int v) (Z xs)=some (Z (xs.set i.toNat v)):=by unfold Z;rw[mJ _ _ _ h0 (by simpa using h)];simp
noncomputable def outs{S A B:Type}(step:S->A->S)(f:S->A->B):S->List A->List B|_,[]=>[]|s,a::as=>f s a::outs step f (step s a) as
theorem HL{S A:Type}(mk:A->D)(R:S->aQ)(P:Nat->S->Prop)(step:S->A->S)(f:S->A->D)(as:List A)(s:S)
  (Nv:∀s,(R s).length=k) (oQ:it r0=.ok (as.map mk) (R s)) (hL:as.length<=16777216) (hP:P 0 s)
  (he:∀(i:Nat)(a:A),as[i]?=some a->∀s acc,P i s->P (i+1) (step s a)/\elt (R s++[.sh (mk a),.ow acc])=.ok (f s a) (R (step s a)++[.sh (mk a),.ow acc])) :
  aS 1 it (aD k) (ret true) elt r0=.ok (.lst (outs step f s as)) (R (as.foldl step s))/\P as.length (as.foldl step s):=by
 have key:∀(es:List A)(n:Nat)(acc:Sg)(x:Sl)(s:S),free (some x)=true->(∀(i:Nat)(a:A),es[i]?=some a->as[n+i]?=some a)->acc.length+es.length<=16777216->P n s->(∃x',turns (k+1) (aD k) (ret true) elt (es.map mk) (R s++[x,.ow (.lst acc)])=.ok () (R (es.foldl step s)++[x',.ow (.lst (acc++outs step f s es))]))/\P (n+es.length) (es.foldl step s):=by
  intro es;induction es with
  |nil=>intro n acc x s _ _ _ hp;exact⟨⟨x,by simp[outs]⟩,hp⟩|cons a es ih=>
   intro n acc x s hx hm hl hp;obtain⟨p1,e1⟩:=he n a (hm 0 a rfl) s (.lst acc) hp;obtain⟨⟨x',e2⟩,p2⟩:=ih (n+1) (acc++[f s a]) (.sh (mk a)) (step s a) rfl (fun i b hb=>by rw[Nat.add_assoc,Nat.add_comm 1 i];exact hm (i+1) b hb) (by simp at hl ⊢;lia) p1;refine⟨⟨x',?_⟩,?_⟩;have g1:aD k (mk a) (R s++[x,.ow (.lst acc)])=.ok () (R s++[.sh (mk a),.ow (.lst acc)]):=by have:=cZ (r:=R s) (xs:=[.ow (.lst acc)]) (s:=x);have:=dH (r:=R s) (xs:=[.ow (.lst acc)]) (s:=x) (s':=.sh (mk a));rw[Nv s] at *;rw[oM];simp_all
   have u1:fD (k+1) (gb (f s a)) (R (step s a)++[.sh (mk a),.ow (.lst acc)])=.ok () (R (step s a)++[.sh (mk a),.ow (.lst (acc++[f s a]))]):=by have:=u7 (r:=R (step s a)) (s:=.sh (mk a)) (acc:=acc) (x:=f s a) (by simp at hl;lia);rw[Nv] at this;exact this
   rw[ZZ,kG,g1,ay,dG,ay,ZY rfl,e1,ay,u1,ay,e2];simp[outs];have e:n+(a::es).length=n+1+es.length:=by simp;lia
   rw[e];exact p2
 obtain⟨⟨x',z⟩,p⟩:=key as 0 [] .no s rfl (fun i a h=>by rw[tJ];exact h) (by simpa using hL) hP;refine⟨?_,by rw[tJ] at p;exact p⟩;rw[oY,oQ,ay];unfold inner;have e:R s++List.replicate 1 Sl.no++[Sl.ow (.lst [])]=R s++[.no,.ow (.lst [])]:=ZH;dsimp only;rw[e,Nv,z];have e2:(R (as.foldl step s)++[x',Sl.ow (.lst ([]++outs step f s as))])[k+1]?=some (.ow (.lst ([]++outs step f s as))):=by rw[Zc (by rw[Nv];lia),Nv];simp
 simp only[e2];have e3:List.take k (R (as.foldl step s)++[x',Sl.ow (.lst ([]++outs step f s as))])=R (as.foldl step s):=by rw[<-Nv (as.foldl step s)];simp
 rw[e3];simp
theorem uJ{S A B:Type}(f:A->B)(s:S):∀as:List A,outs (fun(s:S)(_:A)=>s) (fun _ a=>f a) s as=as.map f|[]=>rfl|a::as=>by simp[outs,uJ f s as]
theorem gT{A:Type}{it:M (List D)}{elt:M D}{k:Nat}{r:aQ}{out:D}(mk:A->D)(f:A->D)(as:List A)(oQ:it r=.ok (as.map mk) r)(hL:as.length<=16777216)(vQ:D.lst (as.map f)=out)(he:∀a∈as,∀acc,elt (r++[.sh (mk a),.ow acc])=.ok (f a) (r++[.sh (mk a),.ow acc])) (hk:r.length=k:=by rfl):aS 1 it (aD k) (ret true) elt r=.ok out r:=by have:=(HL (elt:=elt) mk (fun(_:Unit)=>r) (fun _ _=>True) (fun s _=>s) (fun _ a=>f a) as () (fun _=>hk) oQ hL trivial fun i a ha s acc _=>⟨trivial,he a (Z3 ha) acc⟩).1;rw[uJ,vQ] at this;exact this
@[simp] theorem PY(xs ys:Pa):fW (Z xs) (Z ys)=some (.bl (!decide (xs=ys))):=by unfold fW Z;simp[plain,gL,BF,BG,lT]
@[simp] theorem Q24(a:D)(xs:Sg):yq (a::xs) 0=some a:=ky _ _ _ ZG rfl
@[simp] theorem Q23(a b c:D):Ad [a,b,c]=some (.tup [a,b,c]):=ZF
theorem HK{A:Type}(mk:A->D)(sl:A->List Sl)(t:A->Bool)(f:A->D)(as:List A)(hk:r.length=k)(oQ:it r=.ok (as.map mk) r)(hL:as.length<=16777216)
  (OW:∀a∈as,(sl a).length=n/\∀x∈sl a,free (some x)=true)
  (hg:∀a∈as,∀(ts:List Sl) acc,ts.length=n->(∀x∈ts,free (some x)=true)->g (mk a) (r++ts++[.ow acc])=.ok () (r++sl a++[.ow acc]))
  (ht:∀a∈as,∀acc,test (r++sl a++[.ow acc])=.ok (t a) (r++sl a++[.ow acc]))
  (he:∀a∈as,t a=true->∀acc,elt (r++sl a++[.ow acc])=.ok (f a) (r++sl a++[.ow acc])) :
  aS n it g test elt r=.ok (.lst ((as.filter t).map f)) r:=by
 subst hk;have Q2:∀(ts:List Sl)(acc:Sg)(x:D),ts.length=n->acc.length<16777216->fD (r.length+n) (gb x) (r++ts++[.ow (.lst acc)])=.ok () (r++ts++[.ow (.lst (acc++[x]))]):=by
  intro ts acc x h1 h2;have e2:r.length+n=(r++ts).length:=by simp[h1]
  rw[e2,lj];have:=cZ (r:=r++ts) (xs:=[]) (s:=.ow (.lst acc));rw[this];have:=dH (r:=r++ts) (xs:=[]) (s:=.ow (.lst acc)) (s':=.ow (.lst (acc++[x])));simp only[wz,cn,dG,ay,ip x acc h2,sP,cZ,sO,this]
 have key:∀(es:List A)(acc:Sg)(ts:List Sl),ts.length=n->(∀x∈ts,free (some x)=true)->(∀d∈es,d∈as)->acc.length+es.length<=16777216->∃IM,IM.length=n/\turns (r.length+n) g test elt (es.map mk) (r++ts++[.ow (.lst acc)])=.ok () (r++IM++[.ow (.lst (acc++(es.filter t).map f))]):=by intro es;induction es with|nil=>intro acc ts h1 _ _ _;exact⟨ts,h1,ZH⟩|cons a es ih=>intro acc ts h1 h2 hm hl;have ha:=hm a Z2;have OP:∀x∈es,x∈as:=fun x hx=>hm x (Z1 _ hx);rw[ZZ,kG,hg a ha ts _ h1 h2,ay,ht a ha,ay];cases q:t a with|false=>obtain⟨IM,z1,z2⟩:=ih acc (sl a) (OW a ha).1 (OW a ha).2 OP (by simp at hl;lia);refine⟨IM,z1,?_⟩;rw[Za ZH,z2,pZ,q,Za ZH]|true=>obtain⟨IM,z1,z2⟩:=ih (acc++[f a]) (sl a) (OW a ha).1 (OW a ha).2 OP (by simp at hl ⊢;lia);refine⟨IM,z1,?_⟩;rw[ZY rfl,he a ha q,ay,Q2 _ _ _ (OW a ha).1 (by simp at hl;lia),ay,z2,pZ,q,ZY rfl];simp
 obtain⟨IM,z1,z2⟩:=key as [] (List.replicate n .no) ZH (fun x hx=>by rw[List.eq_of_mem_replicate hx];rfl) (fun _ h=>h) (by simpa using hL);rw[oY,oQ,ay];unfold inner;dsimp only;rw[z2];have e2:(r++IM++[Sl.ow (.lst ([]++(as.filter t).map f))])[r.length+n]?=some (.ow (.lst ([]++(as.filter t).map f))):=by rw[Zc (by simp;lia)];simp[z1]
 simp only[e2];simp
theorem Oq{r:aQ}{ts:List Sl}{acc x y:D}(h1:ts.length=2)(h2:∀x∈ts,free (some x)=true):cW [r.length,r.length+1] (.tup [x,y]) (r++ts++[.ow acc])=.ok () (r++[.sh x,.sh y]++[.ow acc]):=by
 match ts,h1,h2 with
 |[s,s2],_,h2=>
  have hs:=h2 s Z2;have jY:=h2 s2 (Z1 _ Z2);have g2:(r++[Sl.sh x,s2,.ow acc])[r.length+1]?=some s2:=by rw[Zc ZG];simp
  have g3:(r++[Sl.sh x,s2,.ow acc]).set (r.length+1) (.sh y)=r++[.sh x,.sh y,.ow acc]:=by rw[List.set_append_right _ _ ZG];simp
  simp only[List.append_assoc,List.cons_append,List.nil_append];rw[EJ,qS,yx,cZ,ZY hs,dH,ay,qS,yx,g2,ZY jY,g3];rfl
theorem Jq{A:Type}{it:M (List D)}{test:M Bool}{elt:M D}{k:Nat}{r:aQ}{out:D}(m1 m2:A->D)(t:A->Bool)(f:A->D)(as:List A)(oQ:it r=.ok (as.map fun a=>.tup [m1 a,m2 a]) r)(hL:as.length<=16777216)(vQ:D.lst ((as.filter t).map f)=out)
  (ht:∀a∈as,∀acc,test (r++[.sh (m1 a),.sh (m2 a),.ow acc])=.ok (t a) (r++[.sh (m1 a),.sh (m2 a),.ow acc]))
  (he:∀a∈as,t a=true->∀acc,elt (r++[.sh (m1 a),.sh (m2 a),.ow acc])=.ok (f a) (r++[.sh (m1 a),.sh (m2 a),.ow acc])) (hk:r.length=k:=by rfl) :
  aS 2 it (cW [k,k+1]) test elt r=.ok out r:=by
 rw[<-vQ];subst hk;refine HK (fun a=>.tup [m1 a,m2 a]) (fun a=>[.sh (m1 a),.sh (m2 a)]) t f as rfl oQ hL (fun a _=>⟨rfl,by intro x hx;simp at hx;rcases hx with rfl|rfl<;>rfl⟩) (fun a ha ts acc h1 h2=>Oq h1 h2) (fun a ha acc=>?_) fun a ha q acc=>?_;have:=ht a ha acc;simpa using this;have:=he a ha q acc;simpa using this
theorem Jr{A:Type}{it:M (List D)}{elt:M D}{k:Nat}{r:aQ}{out:D}(m1 m2:A->D)(f:A->D)(as:List A)(oQ:it r=.ok (as.map fun a=>.tup [m1 a,m2 a]) r)(hL:as.length<=16777216)(vQ:D.lst (as.map f)=out)
  (he:∀a∈as,∀acc,elt (r++[.sh (m1 a),.sh (m2 a),.ow acc])=.ok (f a) (r++[.sh (m1 a),.sh (m2 a),.ow acc])) (hk:r.length=k:=by rfl) :
  aS 2 it (cW [k,k+1]) (ret true) elt r=.ok out r:=
 Jq m1 m2 (fun _=>true) f as oQ hL (by rw[List.filter_eq_self.mpr (fun _ _=>rfl)];exact vQ) (fun _ _ _=>rfl) (fun a ha _ acc=>he a ha acc) hk
theorem rP{A:Type}{it:M (List D)}{test:M Bool}{elt:M D}{k:Nat}{r:aQ}{out:D}(mk:A->D)(t:A->Bool)(f:A->D)(as:List A)(oQ:it r=.ok (as.map mk) r)(hL:as.length<=16777216)(vQ:D.lst ((as.filter t).map f)=out)
  (ht:∀a∈as,∀acc,test (r++[.sh (mk a),.ow acc])=.ok (t a) (r++[.sh (mk a),.ow acc]))
  (he:∀a∈as,t a=true->∀acc,elt (r++[.sh (mk a),.ow acc])=.ok (f a) (r++[.sh (mk a),.ow acc])) (hk:r.length=k:=by rfl) :
  aS 1 it (aD k) test elt r=.ok out r:=by
 rw[<-vQ];subst hk;refine HK mk (fun a=>[.sh (mk a)]) t f as rfl oQ hL (fun a _=>⟨rfl,by intro x hx;simp at hx;rw[hx];rfl⟩) (fun a ha ts acc h1 h2=>?_) (fun a ha acc=>?_) fun a ha q acc=>?_
 match ts,h1,h2 with|[s],_,h2=>have hs:=h2 s Z2;simp only[List.append_assoc,List.cons_append,List.nil_append];rw[oM,cZ,ZY hs,dH]
 have:=ht a ha acc;simpa using this;have:=he a ha q acc;simpa using this
@[simp] theorem CN(c:Str)(f:Fn)(as:List Arg)(r:aQ):dM c f as r=(bL as r).then fun vs=>zG c f vs:=aE _ _ _
@[simp] theorem CO(c m:Str)(f:Fn)(fo:M D)(as:List Arg)(r:aQ):ck c m f fo as r=(fo r).then fun o r=>if iZ c m o=true then(bL as r).then fun vs=>nI f (.val o::vs) else .no:=by unfold ck;rw[aE];congr;funext o r;split;exact aE _ _ _;rfl
@[simp] theorem Q10(fl:List (M D))(r:aQ):nj fl r=(mL fl r).then fun xs=>opt (kR xs):=aE _ _ _
@[simp] theorem Q03(fl:List (M D))(r:aQ):CL fl r=(mL fl r).then fun xs=>opt (DD xs):=aE _ _ _
@[simp] theorem qG(ds:Sg):kR [.lst ds]=some (jZ ds):=ZF
theorem qH{A:Type}(mk:A->D)(as:List A):jZ (as.map mk)=(List.range as.length).zipWith (fun i a=>D.tup [.int (i:Nat),mk a]) as:=by unfold jZ;rw[Zf,List.zipWith_map_right]
@[simp] theorem tH(al:Bool)(ds:Sg):nB al (.lst ds)=(iq ds).map fun bs=>.bl (if al then bs.all id else bs.any id):=ZF
theorem km{A:Type}(f:A->Bool):∀as:List A,iq (as.map fun a=>D.bl (f a))=some (as.map f)|[]=>rfl|a::as=>by simp[iq,km f as]
theorem Av{A:Type}(f:A->Bool)(as:List A):nB true (.lst (as.map fun a=>D.bl (f a)))=some (.bl (as.all f)):=by rw[tH,km];simp[Function.comp_def]
theorem Ax{A:Type}(f:A->Bool)(as:List A):nB false (.lst (as.map fun a=>D.bl (f a)))=some (.bl (as.any f)):=by rw[tH,km];simp[Function.comp_def]
theorem CP(c:Str)(f:Fn)(vals:Sg)(d:D)(r:aQ)(h:f (.ins c [] []::vals)=.ok .bz [d]):zG c f (vals.map AV.val) r=.ok d r:=by
 have e1:∀(vs:Sg)(r:aQ),pU (vs.map AV.val) r=some vs:=fun vs r=>by induction vs with|nil=>rfl|cons v vs ih=>simp[ih]
 have e2:∀vs:Sg,fC (vs.map AV.val)=[]:=fun vs=>by induction vs with|nil=>rfl|cons v vs ih=>simp[ih]
 have g:(r++[Sl.ow (.ins c [] [])])[r.length]?=some (.ow (.ins c [] [])):=ZH;have p:putAll [r.length] [d] (r++[Sl.ow (.ins c [] [])])=r++[.ow d]:=by rw[Q1Q,Q13,sP,g,sO,dH]
 unfold zG;rw[sx,Jj,g];simp only[wz,Option.bind_some,e1,Option.map_some,cn,dG,ay,EV,e2];rw[ZY ZH,h,ot,p];simp
theorem l6:∀ns:Pa,fB (ns.map .int)=some ns|[]=>rfl|n::ns=>by rw[ZZ,fB,l6 ns];rfl
theorem GZ(xs:Pa)(h:xs.length<64):uX (T xs)=some (Z (sortI xs)):=by have e:cq (T xs)=some (xs.map .int):=rfl;unfold uX;rw[e];dsimp only;rw[l6];dsimp only;rw[if_pos h];rfl
noncomputable def nP(n:Nat):Pa:=(List.range n).map fun(k:Nat)=>(k:Int)
theorem Ff(n:Nat)(h:n<=1000):CF [.int n]=some (Z (nP n)):=by simp only[CF];rw[ZY ZG];simp[Z,nP,Function.comp_def]
theorem mK(h:sortI xs=nP n)(hx:x∈xs):∃k:Nat,x=k/\k<n:=by have:=(sortI_perm xs).mem_iff.mpr hx;rw[h] at this;obtain⟨k,hk,rfl⟩:=List.mem_map.mp this;exact⟨k,rfl,by simpa using hk⟩
def Q09(i:Nat)(r:aQ):D->Res D
|.lst xs=>match xs.getLast? with
  |some d=>.ok d (cE i (.lst xs.dropLast) r)|none=>.no
 |_=>.no
@[simp] theorem Q1x(i:Nat)(fe:M D)(r:aQ):DE i fe r=if isLst (own r[i]?)=true then(fe r).then fun x r=>(fD i (vJ x) r).then fun _=>ret .nx else .no:=by unfold DE;split;rw[aE];congr;funext k r;exact mH _ _;rfl
theorem EF(xs ys:Sg)(h:xs.length+ys.length<=iS):vJ (.lst ys) (.lst xs)=some (.lst (xs++ys)):=ZY h
@[simp] theorem zE(f:Fn)(a:M D)(r:aQ):mh f a r=(a r).then (Az f):=aE _ _ _
theorem Er(f:Fn)(d v:D)(w:D)(r:aQ)(h:f [d]=.ok v [w]):Az f d r=.ok v r:=by unfold Az;rw[h]
def IQ(r:aQ):Res D->Res D|.ok (.lst ds) _=>if noLs ds then .ok (.lst ds) r else .no|_=>.no
@[simp] theorem uA(f:M D)(r:aQ):kf f r=IQ r (f (r.map de)):=by unfold kf;cases f (r.map de) with|ok d r=>cases d<;>rfl|exc e r=>rfl|no=>rfl
theorem va(r r':aQ)(ds:Sg)(h:noLs ds=true):IQ r (.ok (.lst ds) r')=.ok (.lst ds) r:=ZY h
def M3(r:aQ):Res D->Res D|.ok d _=>if QY d then .ok d r else .no|_=>.no
@[simp] theorem qZ(f:M D)(r:aQ):jr f r=M3 r (f (r.map de)):=by unfold jr;cases f (r.map de) with|ok d r=>rfl|exc e r=>rfl|no=>rfl
@[simp] theorem lG(d:D):de (.ow d)=.sh d:=rfl
@[simp] theorem DW(d:D):de (.io d)=.sh d:=rfl
@[simp] theorem lH(d:D):de (.sh d)=.sh d:=rfl
@[simp] theorem pR:de .no=.no:=rfl
theorem Q0Z(h:c r=.ok false r'):gD c b (n+1) r=.ok .nx r':=by unfold gD;rw[aE,h];rfl
theorem Q0m(h:c r=.ok true r1)(h2:b r1=.ok .nx r2):gD c b (n+1) r=gD c b n r2:=by rw[gD,aE,h];show (YV b _) r1=_;rw[aE,h2];rfl
theorem CU(xs:Pa)(d:D):mj (T xs) d=match xs with|[]=>some d|i::is=>some (.int (is.foldl (fun a b=>if a<b then b else a) i)):=by
 have e:fB (xs.map .int)=some xs:=by induction xs with|nil=>rfl|cons x xs ih=>simp[fB,ih]
 show (match fB (xs.map .int) with|some []=>some d|some (i::is)=>some (.int (is.foldl (fun a b=>if a<b then b else a) i))|none=>none)=_;rw[e];cases xs<;>rfl
variable{α β:Type}
def MD:Fl->M Fl->M Fl|.nx,g=>g|k,_=>ret k
theorem QK(h:f r=.ok k r1)(h2:MD k g r1=R):ak f g r=R:=by rw[oa,h];cases k<;>exact h2
theorem GU(h:g r=R):MD .nx g r=R:=h
theorem GV:MD (.rt d) g r=.ok (.rt d) r:=rfl
theorem Sz:mC d r=.ok d r:=rfl
theorem P5:aA r=.ok .nx r:=rfl
theorem z6{a:α}:ret a r=.ok a r:=rfl
theorem O5(h:c r=.ok t r1)(h2:(bif t then a else b) r1=R):bI c a b r=R:=by rw[My,h];cases t<;>exact h2
theorem KI(h:c r=.ok t r1)(h2:(bif t then a else b) r1=R):yv c a b r=R:=by rw[Kz,h];cases t<;>exact h2
theorem HJ{a b:M α}{R:Res α}(ht:t=true)(h:a r=R):(bif t then a else b) r=R:=by subst ht;exact h
theorem HI{a b:M α}{R:Res α}(ht:t=false)(h:b r=R):(bif t then a else b) r=R:=by subst ht;exact h
theorem ME{i:Nat}{f:M D}{r r1 r2:aQ}{d:D}(h:f r=.ok d r1)(hf:free r1[i]?=true)(h2:r1.set i (.sh d)=r2):aN i f r=.ok .nx r2:=by rw[GS,h,ay,ZY hf,h2]
theorem LV{i:Nat}{f:M D}{r r1 r2:aQ}{d:D}(h:f r=.ok d r1)(hf:free r1[i]?=true)(h2:r1.set i (.ow d)=r2):fU i f r=.ok .nx r2:=by rw[GQ,h,ay,ZY hf,h2]
theorem Mt(h:f r=.ok d r1):aC f r=.ok (.rt d) r1:=by rw[Q0Y,h];rfl
theorem M0(h:r[i]?=some (.sh d)):af i r=.ok d r:=by rw[FA,h];rfl
theorem Pw(h:a r=.ok x r1)(hg:g x=some z):m1 g a r=.ok z r1:=by rw[Iv,h,ay,hg];rfl
theorem Py(h:a r=.ok x r1)(h2:b r1=.ok y r2)(hg:g x y=some z):m2 g a b r=.ok z r2:=by rw[Px,h,ay,h2,ay,hg];rfl
theorem Q0L(h:mL as r=.ok xs r1)(hg:g xs=some z):mF g as r=.ok z r1:=by rw[PD,h,ay,hg];rfl
theorem zF:mL [] r=.ok [] r:=rfl
theorem Q0B(h:f r=.ok x r1)(h2:mL fs r1=.ok xs r2):mL (f::fs) r=.ok (x::xs) r2:=by rw[Fq,h,ay,h2];rfl
theorem MW(h:mL fs r=.ok xs r1)(hl:(decide (xs.length<=16777216))=true):bc fs r=.ok (.tup xs) r1:=by rw[Fz,h,ay,G9 _ (Zx hl)];rfl
theorem Q1a(h:mL fs r=.ok xs r1)(hl:(decide (xs.length<=16777216))=true):du fs r=.ok (.lst xs) r1:=by rw[Fs,h,ay,Fg _ (Zx hl)];rfl
theorem QP(h:a r=.ok (.bl b) r1):tB a r=.ok b r1:=by rw[QO,h];rfl
theorem KW(h:a r=.ok b r1):lD a r=.ok (!b) r1:=by rw[G6,h];rfl
theorem Jg(h:a r=.ok x r1)(h2:(bif x then b else ret false) r1=.ok t r2):kF a b r=.ok t r2:=by rw[G4,h];cases x<;>exact h2
theorem Qh(h:a r=.ok x r1)(h2:(bif x then ret true else b) r1=.ok t r2):qo a b r=.ok t r2:=by rw[MR,h];cases x<;>exact h2
theorem Ep(h:a r=.ok (.bl x) r1)(h2:(bif x then b else ret (.bl false)) r1=R):ni a b r=R:=by rw[CJ,h];cases x<;>exact h2
theorem LU(h:a r=.ok (.bl x) r1)(h2:(bif x then ret (.bl true) else b) r1=R):zH a b r=R:=by rw[Ft,h];cases x<;>exact h2
theorem QJ(e:f r=.ok d r1)(e1:lh lo r1=.ok l r2)(e2:lh hi r2=.ok h r3)(hg:g d l h=some z):nK g f lo hi r=.ok z r3:=by rw[KC,e,ay,e1,ay,e2,ay,hg];rfl
theorem Qu(h:f r=.ok (.int i) r1):lh (some f) r=.ok (some i) r1:=by rw[vY,h];rfl
theorem Eu(h:bL as r=.ok vs r1)(ha:pU vs r1=some ds)(hn:decide (fC vs).Nodup=true)(hf:f ds=.ok d cB)(hp:putAll (fC vs) cB r1=r2):ax f as r=.ok d r2:=by rw[CK,h,ay,sx,ha,cn,dG,ay,ZY (Zx hn),hf,ot,hp]
theorem Q1M:bL [] r=.ok [] r:=rfl
theorem Q1S(h:f r=.ok d r1)(h2:bL as r1=.ok vs r2):bL (.val f::as) r=.ok (.val d::vs) r2:=by show YV _ _ r=_;rw[aE,h,ay,aE,h2];rfl
theorem Q0v(h:(own r[j]?).isSome=true)(h2:bL as r=.ok vs r2):bL (.io j::as) r=.ok (.io j::vs) r2:=by show (if _ then _ else _)=_;rw[ZY h,aE,h2];rfl
theorem Ki(h0:(own r[j]?).isSome=true)(h:f r=.ok i r1)(h1:own r1[j]?=some d)(h2:aq d i=some z):bU j f r=.ok z r1:=by rw[Fo,ZY h0,h,ay,E3,h1,cn,dG,ay,h2];rfl
theorem Oh(hl:decide (ds.length=fl.length)=true)(h:b (cO n fl ds)=.ok (.rt d) r)(hi:b9 fl r=some cB):defn n fl b ds=.ok d cB:=by rw[eV _ _ _ _ (Zx hl),h];show (match b9 fl r with|some cB=>FR.ok d cB|none=>FR.no)=_;rw[hi]
theorem FF(ho:fo r=.ok o r1)(hi:iZ c m o=true)(h:bL as r1=.ok vs r2)(ha:pU vs r2=some ds)(hn:decide (fC vs).Nodup=true)(hf:f (o::ds)=.ok d cB)(hp:putAll (fC vs) cB r2=r3):ck c m f fo as r=.ok d r3:=by rw[CO,ho,ay,ZY hi,h,ay,sx,Q0u,ha,Option.map_some,cn,dG,ay,Cn,ZY (Zx hn),hf,ot,hp]
theorem JH(h:it r=.ok ds r1)(h2:loop g b ds r1=R):fE it g b r=R:=by rw[GP,h];exact h2
theorem Mw(h:mL fl r=.ok xs r1)(h2:qi xs=some ds):cJ fl r=.ok ds r1:=by rw[CS,h,ay,h2];rfl
theorem MC(h:f r=.ok d r1)(h2:cq d=some ds):dk f r=.ok ds r1:=by rw[Fy,h,ay,h2];rfl
theorem Nb(h:mL fl r=.ok xs r1)(h2:mQ xs=some ds):qg fl r=.ok ds r1:=by rw[FD,h,ay,h2];rfl
theorem EB(h:mL fl r=.ok xs r1)(h2:kR xs=some ds):nj fl r=.ok ds r1:=by rw[Q10,h,ay,h2];rfl
theorem Q0S(h:f r=.ok d r1)(h2:(cq d).map List.reverse=some ds):Fv f r=.ok ds r1:=by rw[Fw,h,ay,h2];rfl
theorem Ji(h0:isLst (own r[i]?)=true)(h:f r=.ok x r1)(h1:own r1[i]?=some d)(h2:gb x d=some d')(h3:cE i d' r1=r2):lz i f r=.ok .nx r2:=by rw[GO,ZY h0,h,ay,lj,h1,cn,dG,ay,h2,cn,dG,ay,h3];rfl
theorem MF(hv:fv r=.ok v r1)(h0:isLst (own r1[i]?)=true)(hk:fk r1=.ok k r3)(h1:own r3[i]?=some d)(h2:setAt k v d=some d')(h3:cE i d' r3=r2):gy i fk fv r=.ok .nx r2:=by rw[z9,hv,ay,ZY h0,hk,ay,lj,h1,cn,dG,ay,h2,cn,dG,ay,h3];rfl
theorem Ol(h:Nx i r=.ok () r1)(h2:f r1=R):vj i f r=R:=by rw[Mx,h];exact h2
theorem QD(h:anyOf r[i]?=some d):yw i r=.ok d r:=by rw[KA,h];rfl
theorem EL(h:a r=.ok x r1)(hx:isDct x=true)(h2:b r1=.ok y r2)(h3:c r2=.ok w r3)(hg:Bx x y w=some z):nk a b c r=.ok z r3:=by show YV _ _ r=_;rw[aE,h,ay,ZY hx,aE,h2,ay,aE,h3,ay,hg];rfl
theorem Fc(h:f r=.ok d r1)(h2:Cy d=some ds):uz f r=.ok ds r1:=by show YV _ _ r=_;rw[aE,h,ay,h2];rfl
theorem Gu(hv:fv r=.ok v r1)(h0:(own r1[i]?).isSome=true)(hk:fk r1=.ok k r3)(h1:own r3[i]?=some d)(h2:putD k v d=some d')(h3:cE i d' r3=r2):uV i fk fv r=.ok .nx r2:=by show YV _ _ r=_;rw[aE,hv,ay,ZY h0,aE,hk,ay,mH,lj,h1,cn,dG,ay,h2,cn,dG,ay,h3];rfl
theorem Ob(h:a r=.ok x r1)(h2:b r1=.ok y r2)(hg:g x y=some (.bl k))(h3:(bif k then m1 (g2 y) c else ret (.bl false)) r2=R):zD g g2 a b c r=R:=by rw[Ky,h,ay,h2,ay,hg];cases k;exact h3;rw[<-h3];exact(Iv ..).symm
theorem FE(h:bL as r=.ok vs r1)(hv:ds.map AV.val=vs)(hf:f (.ins c [] []::ds)=.ok .bz [d]):dM c f as r=.ok d r1:=by subst hv;rw[CN,h,ay];exact CP c f ds d r1 hf
theorem DU(h:ds.map AV.val=vs):(d::ds).map AV.val=.val d::vs:=by rw[ZZ,h]
theorem Hg:([]:Sg).map AV.val=[]:=rfl
theorem EI(e:o=some s)(h:free (some s)=true):free o=true:=by rw[e];exact h
end VP
end
section
set_option maxRecDepth 100000
set_option linter.all false
namespace LW
open PySem VP
def names:R5:=(["given","even","turn","cut","drop","wide","spread","shape","shift","one","both","where","fold","run","pick","join","minus","half","none","add","less","times","least","most","below","alike","line","number","numbers","place","sides","many"]:R5)
def nm(i:Nat):Str:=names.getD i ""
abbrev cI(i:Int):M D:=mC (.int i)
abbrev cS(i:Nat):M D:=mC (.str (nm i))
abbrev cT:M D:=mC (.bl true)
abbrev cF:M D:=mC (.bl false)
def qt:R5:=[(nm 27),(nm 28),(nm 26)]
def mM:List (Str×D):=[((nm 9),.tup [.str (nm 16),.str (nm 17),.str (nm 18)]),((nm 10),.tup [.str (nm 19),.str (nm 20),.str (nm 21),.str (nm 22),.str (nm 23),.str (nm 24),.str (nm 25)]),((nm 12),.tup [.str (nm 19),.str (nm 21),.str (nm 22),.str (nm 23)])]
def yX:R5:=[]
def mN:List (Str×D):=[((nm 0),.tup [.str (nm 27)]),((nm 1),.tup [.str (nm 28),.str (nm 27)]),((nm 2),.tup [.str (nm 26),.str (nm 28)]),((nm 3),.tup [.str (nm 26),.str (nm 27),.str (nm 27),.str (nm 27),.str (nm 27)]),((nm 4),.tup [.str (nm 26),.str (nm 27),.str (nm 27)]),((nm 5),.tup [.str (nm 26),.str (nm 27)]),((nm 6),.tup [.str (nm 26),.str (nm 28)]),((nm 7),.tup [.str (nm 26),.str (nm 28)]),((nm 8),.tup [.str (nm 26),.str (nm 27),.str (nm 27),.str (nm 27)]),((nm 9),.tup [.str (nm 9),.str (nm 26)]),((nm 10),.tup [.str (nm 10),.str (nm 26),.str (nm 26)]),((nm 11),.tup [.str (nm 26),.str (nm 26),.str (nm 26)]),((nm 12),.tup [.str (nm 12),.str (nm 26),.str (nm 27)]),((nm 13),.tup [.str (nm 12),.str (nm 26),.str (nm 27)]),((nm 14),.tup [.str (nm 26),.str (nm 27),.str (nm 26)]),((nm 15),.tup [.str (nm 26),.str (nm 26),.str (nm 27)])]
def gV:R5:=["Joined"]
def gW:R5:=["Where"]
def fV:R5:=["Joined"]
def kT:R5:=["Both","Fold","One","Through"]
def d8:R5:=["One","Within"]
def nW:R5:=["Weaver"]
def eW:R5:=["Both","Where"]
def oI:R5:=["Plan"]
def dh:R5:=["Fill","Fold","Load","Pick","Read","Through"]
def kU:R5:=["Plan"]
def nX:R5:=["Weaver"]
def lU:R5:=["Even","Within"]
def rX:R5:=["Joined","Within"]
def jI:R5:=["Pick"]
def iC:R5:=["Weaver"]
def dq:R5:=["Both","Where"]
def cv:R5:=["Plan"]
def nY:R5:=["Fold","Pick","Through"]
def cw:R5:=["Fill","Fold","Load","Pick","Through","Weaver"]
def nZ:R5:=["Fold","Joined","Within"]
def jJ:R5:=["Pick"]
def iX:R5:=["Pick"]
def uf:R5:=["Read"]
def ug:R5:=["Read"]
def uh:R5:=["Load"]
def eX:R5:=["Fill","Fold","Through"]
noncomputable def cx:Nt:=[("Both",true),("Even",false),("Joined",false),("One",false),("Read",false),("Where",false),("Within",false)]
noncomputable def bS:Nt:=[("Both",false),("Even",false),("Joined",true),("One",false),("Read",false),("Where",false),("Within",false)]
noncomputable def gX:Nt:=[("Fill",false),("Fold",false),("Load",true),("Pick",false),("Through",false)]
noncomputable def fR:Nt:=[("Both",false),("Even",false),("Joined",false),("One",true),("Read",false),("Where",false),("Within",false)]
noncomputable def gY:Nt:=[("Fill",false),("Fold",false),("Load",false),("Pick",true),("Through",false)]
noncomputable def ef:Nt:=[("Both",false),("Even",false),("Joined",false),("One",false),("Read",true),("Where",false),("Within",false)]
noncomputable def bQ:Nt:=[("Both",false),("Even",false),("Joined",false),("One",false),("Read",false),("Where",true),("Within",false)]
noncomputable def dc:Nt:=[("Both",false),("Even",false),("Joined",false),("One",false),("Read",false),("Where",false),("Within",true)]
noncomputable def bT:Nt:=[("Both",false),("Even",false),("Joined",false),("One",true),("Read",false),("Where",false),("Within",true)]
def iH:=ak (aN 1 (m2 mn (af 1) (af 2))) aA
def AO:=ak (aN 1 (cI 1)) (ak (fE (dk (af 0)) (aD 2) iH) (ak (aC (af 1)) aA))
def tZ:Fn:=defn 3 [false] AO
def AQ:=ak (aC (m2 aY (m2 aY (nK d6 (af 0) none (some (af 1))) (bc [(af 2)])) (nK d6 (af 0) (some (m2 aY (af 1) (cI 1))) none))) aA
def j3:Fn:=defn 3 [false,false,false] AQ
def iI:=ak (bI (kF (tB (m2 fW (m2 aq (af 3) (af 6)) (m2 aq (af 4) (af 6)))) (kF (tB (m2 fW (m2 aq (af 3) (af 6)) (cI 1))) (tB (m2 fW (m2 aq (af 4) (af 6)) (cI 1))))) (ak (aC (mC .bz)) aA) aA) (ak (aN 5 (m2 aY (af 5) (bc [(m2 aq (du [(m2 aq (af 3) (af 6)),(m2 aq (af 4) (af 6))]) (mF intD [(m2 b7 (m2 aq (af 3) (af 6)) (cI 1))]))]))) aA)
def xm:=ak (aN 2 (mF maxD [(m1 bB (af 0)),(m1 bB (af 1))])) (ak (aN 3 (m2 aY (m2 zN (bc [(cI 1)]) (m2 gA (af 2) (m1 bB (af 0)))) (af 0))) (ak (aN 4 (m2 aY (m2 zN (bc [(cI 1)]) (m2 gA (af 2) (m1 bB (af 1)))) (af 1))) (ak (aN 5 (bc [])) (ak (fE (cJ [(af 2)]) (aD 6) iI) (ak (aC (af 5)) aA)))))
def gU:Fn:=defn 7 [false,false] xm
def AW:=ak (aN 2 (bU 0 (cI 1))) (ak (gy 0 (cI 1) (m2 aY (af 2) (cI 1))) (ak (bI (tB (m2 ltI (af 2) (m1 bB (bU 0 (cI 0))))) (ak (aC (m2 nL (m2 aq (bU 0 (cI 0)) (af 2)) (af 1))) aA) aA) (ak (aC (cI 0)) aA)))
def bu:Fn:=defn 3 [true,false] AW
def jf:=m2 aY (cI 1) (ax bu [.io 0,.val (cI 3)])
def kM:=ak (aN 5 (bU 2 (af 1))) (ak (aN 6 (ax bu [.io 0,.val (m1 bB (yw 2))])) (ak (bI (tB (m2 b7 (af 3) (cI 9))) (ak (aC (bc [(bc [(cS 9),(m2 aq (du [(cS 16),(cS 17),(cS 18)]) (ax bu [.io 0,.val (cI 3)])),(af 1)]),(af 5)])) aA) aA) (ak (bI (tB (m2 b7 (af 3) (cI 10))) (ak (aN 7 (m2 aq (du [(cS 19),(cS 20),(cS 21),(cS 22),(cS 23),(cS 24),(cS 25)]) (ax bu [.io 0,.val (cI 7)]))) (ak (bI (tB (m2 isND (ax gU [.val (af 5),.val (bU 2 (af 6))]) (mC .bz))) (ak (aN 6 (af 1)) aA) aA) (ak (aC (bc [(bc [(cS 10),(af 7),(af 1),(af 6)]),(ax gU [.val (af 5),.val (bU 2 (af 6))])])) aA))) aA) (ak (bI (tB (m2 b7 (af 3) (cI 11))) (ak (aN 8 (ax bu [.io 0,.val (m1 bB (yw 2))])) (ak (aN 9 (ax gU [.val (af 5),.val (bU 2 (af 6))])) (ak (bI (qo (tB (m2 isND (af 9) (mC .bz))) (tB (m2 isND (ax gU [.val (af 9),.val (bU 2 (af 8))]) (mC .bz)))) (ak (aC (bc [(bc [(cS 11),(af 1),(af 1),(af 1)]),(af 5)])) aA) aA) (ak (aC (bc [(bc [(cS 11),(af 6),(af 1),(af 8)]),(ax gU [.val (af 9),.val (bU 2 (af 8))])])) aA)))) aA) (ak (bI (tB (m2 b7 (af 3) (cI 12))) (ak (aN 9 (m1 i6 (aS 1 (cJ [(ax bu [.io 0,.val (cI 3)])]) (aD 11) (VP.ret true) jf))) (ak (aC (bc [(bc [(cS 1),(af 9),(ax bu [.io 0,.val (cI 1000003)])]),(af 9)])) aA)) aA) (ak (bI (tB (m2 b7 (af 5) (bc []))) (ak (aC (bc [(bc [(cS 9),(cS 16),(af 1)]),(af 5)])) aA) aA) (ak (aN 10 (ax bu [.io 0,.val (m1 bB (af 5))])) (ak (bI (tB (m2 b7 (af 3) (cI 13))) (ak (bI (qo (tB (m2 ltI (ax bu [.io 0,.val (cI 5)]) (cI 4))) (tB (m2 fW (m1 bB (bU 2 (af 6))) (cI 1)))) (ak (aN 6 (af 4)) aA) aA) (ak (aC (bc [(bc [(cS 14),(af 1),(af 10),(af 6)]),(ax j3 [.val (af 5),.val (af 10),.val (m2 aq (bU 2 (af 6)) (cI 0))])])) aA)) aA) (ak (bI (qo (tB (m2 fW (m1 bB (bU 2 (af 6))) (m1 bB (af 5)))) (tB (m2 fW (ax j3 [.val (af 5),.val (af 10),.val (cI 0)]) (ax j3 [.val (bU 2 (af 6)),.val (af 10),.val (cI 0)])))) (ak (aN 6 (af 1)) aA) aA) (ak (aC (bc [(bc [(cS 15),(af 1),(af 6),(af 10)]),(ax j3 [.val (af 5),.val (af 10),.val (m2 aY (m2 aq (af 5) (af 10)) (m2 aq (bU 2 (af 6)) (af 10)))])])) aA))))))))))
def eJ:Fn:=defn 11 [true,false,true,false,false] kM
def AU:=ak (aN 4 (ax bu [.io 0,.val (m1 bB (af 2))])) (ak (aN 5 (m2 aq (af 2) (af 4))) (ak (aN 6 (du [(cS 19),(cS 21),(cS 22),(cS 23)])) (ak (bI (tB (m2 b7 (af 3) (cI 4))) (ak (aN 7 (m2 gA (ax bu [.io 0,.val (cI 9)]) (cI 4))) (ak (aC (bc [(bc [(cS 8),(af 1),(af 4),(af 7),(ax bu [.io 0,.val (cI 1000003)])]),(af 2)])) aA)) aA) (ak (bI (tB (m2 b7 (af 3) (cI 5))) (ak (aN 8 (m2 aq (af 6) (m2 nL (ax bu [.io 0,.val (cI 4)]) (m2 aq (du [(cI 2),(cI 4)]) (mF intD [(m2 B4 (af 5) (cI 0))]))))) (ak (aC (bc [(bc [(cS 12),(af 8),(af 1),(af 4)]),(m2 aY (nK d6 (af 2) none (some (af 4))) (nK d6 (af 2) (some (m2 aY (af 4) (cI 1))) none))])) aA)) aA) (ak (bI (tB (m2 b7 (af 3) (cI 6))) (ak (aC (bc [(bc [(cS 13),(m2 aq (af 6) (ax bu [.io 0,.val (cI 4)])),(af 1),(af 4)]),(af 2)])) aA) aA) (ak (bI (tB (m2 b7 (af 5) (cI 0))) (ak (aC (bc [(bc [(cS 9),(cS 18),(af 1)]),(af 2)])) aA) aA) (ak (aN 9 (ax bu [.io 0,.val (af 5)])) (ak (bI (tB (m2 b7 (af 3) (cI 7))) (ak (aC (bc [(bc [(cS 4),(af 1),(af 4),(af 9)]),(m2 aY (nK d6 (af 2) none (some (af 4))) (nK d6 (af 2) (some (m2 aY (af 4) (cI 1))) none))])) aA) aA) (ak (aN 10 (m2 aY (cI 1) (ax bu [.io 0,.val (cI 3)]))) (ak (aN 11 (m2 yb (m2 gA (m2 gA (af 5) (cI 1)) (af 9)) (af 10))) (ak (bI (tB (m2 b7 (ax bu [.io 0,.val (cI 2)]) (cI 1))) (ak (aN 11 (m2 yb (af 9) (af 10))) (ak (aN 10 (m2 gA (cI 0) (af 10))) aA)) aA) (ak (aN 12 (m2 gA (m2 aY (af 11) (cI 1)) (ax bu [.io 0,.val (m2 aY (af 11) (cI 2))]))) (ak (aC (bc [(bc [(cS 3),(af 1),(af 4),(af 9),(af 10),(af 12)]),(ax j3 [.val (af 2),.val (af 4),.val (af 12)])])) aA)))))))))))))
def ub:Fn:=defn 13 [true,false,false,false] AU
def jg:=m2 nL (m2 aY (af 10) (af 5)) (af 4)
def jh:=m2 aq (af 2) (af 10)
def ji:=m2 aq (du [(af 10),(ax bu [.io 0,.val (cI 4)])]) (mF intD [(m2 b7 (af 10) (cI 1))])
def mV:=ak (aN 4 (m1 bB (af 2))) (ak (bI (tB (m2 b7 (af 3) (cI 0))) (ak (aN 5 (ax bu [.io 0,.val (mF maxD [(cI 1),(af 4)])])) (ak (aN 6 (aS 1 (cJ [(af 4)]) (aD 10) (VP.ret true) jg)) (ak (bI (tB (m2 b7 (ax bu [.io 0,.val (cI 2)]) (cI 1))) (ak (aN 6 (m1 DC (af 6))) aA) aA) (ak (aC (bc [(bc [(cS 2),(af 1),(m1 i6 (af 6))]),(m1 i6 (aS 1 (dk (af 6)) (aD 10) (VP.ret true) jh))])) aA)))) aA) (ak (bI (tB (m2 b7 (af 3) (cI 1))) (ak (aN 7 (ax bu [.io 0,.val (m2 aY (af 4) (cI 1))])) (ak (aC (bc [(bc [(cS 5),(af 1),(af 7)]),(m2 aY (m2 aY (nK d6 (af 2) none (some (af 7))) (bc [(cI 1)])) (nK d6 (af 2) (some (af 7)) none))])) aA)) aA) (ak (bI (tB (m2 b7 (af 3) (cI 2))) (ak (aN 8 (m1 i6 (aS 1 (dk (af 2)) (aD 10) (VP.ret true) ji))) (ak (bI (tB (m2 b7 (ax bu [.io 0,.val (cI 2)]) (cI 1))) (ak (aN 8 (m2 aY (bc [(ax bu [.io 0,.val (cI 4)])]) (af 8))) aA) aA) (ak (aC (bc [(bc [(cS 6),(af 1),(af 8)]),(af 8)])) aA))) aA) (ak (aN 9 (ax tZ [.val (af 2)])) (ak (aN 8 (m2 aq (du [(m1 qh (af 2)),(bc [(af 9)]),(bc [(cI 1),(af 9)]),(bc [(af 9),(cI 1)])]) (ax bu [.io 0,.val (cI 4)]))) (ak (aC (bc [(bc [(cS 7),(af 1),(af 8)]),(af 8)])) aA))))))
def gJ:Fn:=defn 10 [true,false,false,false] mV
def gc:=m2 aq (du [(cI 2),(cI 3),(cI 1),(cI 2),(cI 3),(cI 1),(cI 2),(cI 0)]) (ax bu [.io 0,.val (cI 8)])
def ek:=ak (aN 3 (ax bu [.io 0,.val (cI 4)])) (ak (lz 1 (m1 i6 (aS 1 (cJ [(af 3)]) (aD 12) (VP.ret true) gc))) aA)
def dR:=bc [(cS 0),(m2 nL (m2 aY (af 12) (af 5)) (af 4))]
def dS:=m2 aq (af 1) (m2 aq (af 12) (cI 1))
def el:=ak (aN 9 (m2 gA (m2 gA (m1 bB (yw 6)) (cI 1)) (ax bu [.io 0,.val (m1 bB (yw 6))]))) (ak (aN 10 (ax bu [.io 0,.val (cI 16)])) (ak (bI (tB (m2 ltI (af 10) (cI 4))) (ak (aN 11 (ax gJ [.io 0,.val (af 9),.val (bU 7 (af 9)),.val (af 10)])) aA) (ak (bI (kF (tB (m2 ltI (af 10) (cI 9))) (tB (m2 fW (bU 7 (af 9)) (bc [])))) (ak (aN 11 (ax ub [.io 0,.val (af 9),.val (bU 7 (af 9)),.val (af 10)])) aA) (ak (bI (tB (m2 b7 (af 10) (cI 15))) (ak (aN 11 (bc [(bc [(cS 0),(m2 nL (af 9) (af 4))]),(bU 1 (m2 nL (af 9) (af 4)))])) aA) (ak (aN 11 (ax eJ [.io 0,.val (af 9),.io 7,.val (af 10),.val (af 8)])) aA)) aA)) aA)) (ak (bI (qo (tB (m2 B4 (ax tZ [.val (m2 aq (af 11) (cI 1))]) (cI 27))) (qo (tB (m2 B4 (m1 bB (m2 aq (af 11) (cI 1))) (cI 4))) (tB (m2 B4 (m2 mj (m2 aq (af 11) (cI 1)) (cI 0)) (cI 24))))) (ak (aN 11 (bc [(bc [(cS 9),(cS 16),(af 9)]),(bU 7 (af 9))])) aA) aA) (ak (lz 6 (m2 aq (af 11) (cI 0))) (ak (lz 7 (m2 aq (af 11) (cI 1))) aA)))))
def AR:=ak (fU 1 (du [])) (ak (fE (cJ [(m2 aY (cI 1) (ax bu [.io 0,.val (cI 2)]))]) (aD 2) ek) (ak (lz 1 (bc [(m2 aq (du [(cI 2),(cI 3),(cI 1),(cI 4)]) (ax bu [.io 0,.val (cI 4)]))])) (ak (aN 4 (m1 bB (yw 1))) (ak (aN 5 (ax bu [.io 0,.val (af 4)])) (ak (fU 6 (aS 1 (cJ [(af 4)]) (aD 12) (VP.ret true) dR)) (ak (fU 7 (kf (aS 1 (dk (af 6)) (aD 12) (VP.ret true) dS))) (ak (aN 8 (m2 nL (m2 gA (m2 gA (af 4) (cI 1)) (af 5)) (af 4))) (ak (fE (cJ [(m2 aY (cI 1) (ax bu [.io 0,.val (cI 10)]))]) (aD 2) el) (ak (vj 1 (vj 7 (vj 6 (aC (bc [(af 6),(af 7),(af 4),(af 1)]))))) aA)))))))))
def ua:Fn:=defn 12 [true] AR
def bC:=ak (bI (tB (m2 b7 (af 2) (m1 bB (af 1)))) (ak (aC (af 1)) aA) aA) (ak (aN 3 (m2 aq (af 1) (af 2))) (ak (bI (qo (tB (m1 (a7 fR) (af 3))) (tB (m1 (a7 dc) (af 3)))) (ak (aN 1 (m2 aY (af 1) (du [(m1 (aZ d8 "inner") (af 3))]))) aA) aA) (ak (bI (qo (tB (m1 (a7 cx) (af 3))) (tB (m1 (a7 bQ) (af 3)))) (ak (aN 1 (m2 aY (af 1) (du [(m1 (aZ eW "left") (af 3)),(m1 (aZ dq "right") (af 3))]))) aA) aA) (ak (bI (tB (m1 (a7 bQ) (af 3))) (ak (aN 1 (m2 aY (af 1) (du [(m1 (aZ gW "asked") (af 3))]))) aA) aA) (ak (bI (tB (m1 (a7 bS) (af 3))) (ak (aN 1 (m2 aY (af 1) (du [(m1 (aZ gV "ahead") (af 3)),(m1 (aZ fV "behind") (af 3))]))) aA) aA) aA)))))
def xn:=ak (aN 1 (du [(af 0)])) (ak (fE (cJ [(m2 Gr (cI 10) (cI 6))]) (aD 2) bC) (ak (aC (af 1)) aA))
def qJ:Fn:=defn 4 [false] xn
def eO:=m1 (aZ dh "line") (af 1)
def eP:=tB (m1 (a7 ef) (af 1))
def AS:=ak (bI (tB (m1 (a7 gX) (af 0))) (ak (aC (du [])) aA) aA) (ak (bI (tB (m1 (a7 gY) (af 0))) (ak (aC (du [(m1 (aZ jJ "source") (af 0)),(m1 (aZ jI "places") (af 0))])) aA) aA) (ak (aC (aS 1 (dk (ax qJ [.val (m1 (aZ eX "tree") (af 0))])) (aD 1) eP eO)) aA))
def oE:Fn:=defn 1 [false] AS
def Oa:=ak (bp 0 kU "loops" (m1 gZ (af 1))) (ak (bp 0 cv "row_of" (m1 By (af 2))) (ak (bp 0 oI "lengths" (m1 gZ (af 3))) aA))
def JD:Fn:=defn 4 [true,false,false,false] Oa
def xq:=ak (aC (ni (m2 (inD false) (m2 aq (m2 aq (af 0) (af 2)) (cI 0)) (bc [(cS 6),(cS 10),(cS 11)])) (m2 fW (m2 aq (af 1) (af 2)) (m2 aq (af 1) (af 3))))) aA
def xW:Fn:=defn 4 [false,false,false,false] xq
def iu:=m2 (inD false) (m2 aq (m2 aq (af 0) (af 5)) (cI 0)) (bc [(cS 7),(cS 14)])
def iw:=ax xW [.val (af 0),.val (af 1),.val (af 5),.val (af 2)]
def AK:=ak (aN 4 (m2 aq (m2 aq (af 0) (af 2)) (cI 0))) (ak (bI (qo (tB (m2 b7 (af 2) (m2 gA (m1 bB (af 0)) (cI 1)))) (tB (m2 (inD false) (af 4) (bc [(cS 0),(cS 12),(cS 13),(cS 14)])))) (ak (aC cT) aA) aA) (ak (bI (tB (m1 (nB false) (aS 1 (dk (af 3)) (aD 5) (VP.ret true) iu))) (ak (aC cT) aA) aA) (ak (bI (tB (m2 b7 (af 4) (cS 1))) (ak (aC cF) aA) aA) (ak (aC (zH (m2 B4 (m1 bB (af 3)) (cI 1)) (m1 (nB false) (aS 1 (dk (af 3)) (aD 5) (VP.ret true) iw)))) aA))))
def xH:Fn:=defn 5 [false,false,false,false] AK
def p7:=af 2
def p8:=tB (m2 b7 (af 1) (cS 26))
def HF:=ak (aC (aS 2 (qg [(m1 (DO mN) (m2 aq (af 0) (cI 0))),(nK d6 (af 0) (some (cI 1)) none)]) (cW [1,2]) p8 p7)) aA
def mX:Fn:=defn 1 [false] HF
def dU:=af 4
def dZ:=tB (m2 b7 (af 6) (af 2))
def cU:=ak (bI (tB (m2 aq (af 1) (af 4))) (ak (DE 3 (aS 1 (dk (ax mX [.val (af 5)])) (aD 6) dZ dU)) aA) aA) aA
def A1:=ak (fU 3 (du [])) (ak (fE (nj [(af 0)]) (cW [4,5]) cU) (ak (vj 3 (aC (af 3))) aA))
def xN:Fn:=defn 6 [false,false,false] A1
def dY:M D:=cF
def eB:=ak (gy 1 (af 3) cT) aA
def cV:=ak (bI (tB (bU 1 (af 2))) (ak (fE (dk (ax mX [.val (m2 aq (af 0) (af 2))])) (aD 3) eB) aA) aA) aA
def Bh:=ak (fU 1 (aS 1 (dk (af 0)) (aD 4) (VP.ret true) dY)) (ak (gy 1 (m2 gA (m1 bB (af 0)) (cI 1)) cT) (ak (fE (CL [(m2 gA (m1 bB (af 0)) (cI 1)),(m1 mw (cI 1)),(m1 mw (cI 1))]) (aD 2) cV) (ak (vj 1 (aC (af 1))) aA)))
def uc:Fn:=defn 4 [false] Bh
def dA:=ak (lz 3 (ni (m2 aq (af 2) (af 4)) (ax xH [.val (af 0),.val (af 1),.val (af 4),.val (ax xN [.val (af 0),.val (af 2),.val (af 4)])]))) aA
def AN:=ak (aN 2 (ax uc [.val (af 0)])) (ak (fU 3 (du [])) (ak (fE (nj [(af 0)]) (cW [4,5]) dA) (ak (vj 3 (aC (af 3))) aA)))
def tY:Fn:=defn 6 [false,false] AN
def dt:=ak (aN 1 (m2 mn (af 1) (af 2))) aA
def AE:=ak (aN 1 (cI 1)) (ak (fE (dk (af 0)) (aD 2) dt) (ak (aC (af 1)) aA))
def oC:Fn:=defn 3 [false] AE
def fG:=cI 0
def dB:=ak (aN 4 (m2 oy (af 1) (m1 (aZ dh "line") (af 3)))) (ak (gy 2 (af 4) (mF maxD [(bU 2 (af 4)),(ax oC [.val (m1 (aZ cw "sides") (af 3))])])) aA)
def AY:=ak (fU 2 (aS 1 (cJ [(m2 aY (m1 q9 (af 1)) (cI 1))]) (aD 5) (VP.ret true) fG)) (ak (fE (dk (af 0)) (aD 3) dB) (ak (vj 2 (aC (af 2))) aA))
def xK:Fn:=defn 5 [false,false] AY
def N7:=ak (bp 0 dh "line" (af 1)) (ak (bp 0 cw "sides" (af 2)) aA)
def zg:Fn:=defn 3 [true,false,false] N7
def N3:=ak (rk (ax zg [.io 0,.val (af 1),.val (af 2)])) (ak (bp 0 eX "tree" (af 3)) aA)
def Jx:Fn:=defn 4 [true,false,false,false] N3
def N4:=ak (rk (ax zg [.io 0,.val (af 1),.val (af 2)])) (ak (bp 0 nY "side" (af 3)) (ak (bp 0 nZ "size" (af 4)) (ak (bp 0 kT "deed" (af 5)) (ak (bp 0 eX "tree" (af 6)) aA))))
def Jy:Fn:=defn 7 [true,false,false,false,false,false,false] N4
def N6:=ak (rk (ax zg [.io 0,.val (af 1),.val (af 2)])) (ak (bp 0 uh "table" (af 3)) aA)
def JA:Fn:=defn 4 [true,false,false,false] N6
def N9:=ak (rk (ax zg [.io 0,.val (af 1),.val (af 2)])) (ak (bp 0 nY "side" (af 3)) (ak (bp 0 jJ "source" (af 4)) (ak (bp 0 jI "places" (af 5)) (ak (bp 0 iX "source_sides" (af 6)) aA))))
def JC:Fn:=defn 7 [true,false,false,false,false,false,false] N9
def HA:=ak (rk (ax zg [.io 0,.val (af 1),.val (af 2)])) (ak (bp 0 nY "side" (af 3)) (ak (bp 0 kT "deed" (af 4)) (ak (bp 0 eX "tree" (af 5)) aA)))
def BM:Fn:=defn 6 [true,false,false,false,false,false] HA
def HB:=ak (bp 0 iC "program" (af 1)) (ak (bp 0 cw "sides" (af 2)) (ak (bp 0 nW "kept" (af 3)) (ak (bp 0 nX "many" (af 4)) aA)))
def xC:Fn:=defn 5 [true,false,false,false,false] HB
def N1:=ak (bp 0 kT "deed" (af 1)) (ak (bp 0 eW "left" (af 2)) (ak (bp 0 dq "right" (af 3)) aA))
def Jv:Fn:=defn 4 [true,false,false,false] N1
def N2:=ak (bp 0 lU "number" (af 1)) aA
def Jw:Fn:=defn 2 [true,false] N2
def N8:=ak (bp 0 kT "deed" (af 1)) (ak (bp 0 d8 "inner" (af 2)) aA)
def JB:Fn:=defn 3 [true,false,false] N8
def Hz:=ak (bp 0 dh "line" (af 1)) (ak (bp 0 uf "start" (af 2)) (ak (bp 0 ug "steps" (af 3)) aA))
def BL:Fn:=defn 4 [true,false,false,false] Hz
def fH:=cI 0
def cg:=ak (aN 3 (m2 aY (af 3) (m2 mn (m2 aq (af 5) (cI 0)) (af 6)))) (ak (bI (tB (m2 fW (m2 aq (af 5) (cI 1)) (m1 mw (cI 1)))) (ak (gy 4 (m2 aq (af 5) (cI 1)) (m2 aY (bU 4 (m2 aq (af 5) (cI 1))) (m2 mn (m2 aq (af 5) (cI 2)) (af 6)))) aA) aA) aA)
def A6:=ak (aN 3 (cI 0)) (ak (fU 4 (aS 1 (cJ [(af 2)]) (aD 7) (VP.ret true) fH)) (ak (fE (qg [(af 0),(af 1)]) (cW [5,6]) cg) (ak (aC (bc [(af 3),(m1 i6 (yw 4))])) aA)))
def xR:Fn:=defn 7 [false,false,false] A6
def dC:=ak (lz 1 (af 2)) (ak (aN 2 (m2 mn (af 2) (af 3))) aA)
def Be:=ak (fU 1 (du [])) (ak (aN 2 (cI 1)) (ak (fE (Fv (af 0)) (aD 3) dC) (ak (aC (m1 qh (yw 1))) aA)))
def xX:Fn:=defn 4 [false] Be
def AD:=ak (aN 4 (ax xR [.val (af 2),.val (ax xX [.val (af 3)]),.val (m1 (aZ nX "many") (af 0))])) (ak (aC (dM "Read" BL [.val (af 1),.val (m2 aq (af 4) (cI 0)),.val (m2 aq (af 4) (cI 1))])) aA)
def tW:Fn:=defn 5 [false,false,false,false] AD
def N5:=ak (bp 0 rX "part" (af 1)) (ak (bp 0 nZ "size" (af 2)) (ak (bp 0 gV "ahead" (af 3)) (ak (bp 0 fV "behind" (af 4)) aA)))
def Jz:Fn:=defn 5 [true,false,false,false,false] N5
def A2:=ak (aC (bc [(af 0),(m1 mw (cI 1)),(cI 0)])) aA
def qL:Fn:=defn 1 [false] A2
def xo:=ak (aN 3 (m2 aY (af 1) (m2 mn (af 2) (m2 aq (af 0) (cI 0))))) (ak (bI (tB (m2 b7 (m2 mn (af 2) (m2 aq (af 0) (cI 2))) (cI 0))) (ak (aC (ax qL [.val (af 3)])) aA) aA) (ak (aC (bc [(af 3),(m2 aq (af 0) (cI 1)),(m2 mn (af 2) (m2 aq (af 0) (cI 2)))])) aA))
def qK:Fn:=defn 4 [false,false,false] xo
def Bj:=ak (fU 4 (m1 gZ (af 0))) (ak (gy 4 (af 1) (ax qK [.val (m2 aq (af 0) (af 1)),.val (af 2),.val (af 3)])) (ak (vj 4 (aC (af 4))) aA))
def qO:Fn:=defn 5 [false,false,false,false] Bj
def HD:=ak (bp 0 rX "part" (af 1)) (ak (bp 0 nZ "size" (af 2)) (ak (bp 0 d8 "inner" (af 3)) (ak (bp 0 lU "number" (af 4)) aA)))
def BP:Fn:=defn 5 [true,false,false,false,false] HD
def fI:=yv (tB (m2 b7 (af 3) (cI 1))) (ax qL [.val (cI 0)]) (af 4)
def Bk:=ak (aN 2 (nK d6 (af 0) (some (m2 gA (m1 bB (af 0)) (m1 bB (af 1)))) none)) (ak (aC (aS 2 (qg [(af 1),(af 2)]) (cW [3,4]) (VP.ret true) fI)) aA)
def x6:Fn:=defn 3 [false,false] Bk
def Bi:=ak (aC (m2 aY (m2 aY (nK d6 (af 0) none (some (af 1))) (du [(ax qL [.val (af 2)])])) (nK d6 (af 0) (some (af 1)) none))) aA
def x5:Fn:=defn 3 [false,false,false] Bi
def dD:=ak (gy 2 (af 3) (af 4)) aA
def Bl:=ak (fU 2 (m1 gZ (af 0))) (ak (fE (qg [(af 1),(af 0)]) (cW [3,4]) dD) (ak (vj 2 (aC (af 2))) aA))
def x9:Fn:=defn 5 [false,false] Bl
def Bm:=ak (aC (m2 aY (nK d6 (af 0) none (some (af 1))) (nK d6 (af 0) (some (m2 aY (af 1) (cI 1))) none))) aA
def ya:Fn:=defn 2 [false,false] Bm
def HC:=ak (bp 0 gW "asked" (af 1)) (ak (bp 0 eW "left" (af 2)) (ak (bp 0 dq "right" (af 3)) aA))
def BO:Fn:=defn 4 [true,false,false,false] HC
def tM(w:Nat->Fn):=ak (bI (tB (m2 aq (m1 (aZ nW "kept") (af 0)) (af 1))) (ak (aC (ck "Weaver" "row_read" tW (af 0) [.val (af 1),.val (af 2),.val (m2 aq (m1 (aZ cw "sides") (af 0)) (af 1))])) aA) aA) (ak (aC (ck "Weaver" "tree_made" (w 1) (af 0) [.val (af 1),.val (af 2)])) aA)
def iT(w:Nat->Fn):=ak (aN 3 (m2 aq (m1 (aZ iC "program") (af 0)) (af 1))) (ak (aN 4 (m2 aq (af 3) (cI 0))) (ak (bI (tB (m2 b7 (af 4) (cS 1))) (ak (aC (dM "Even" Jw [.val (m2 aq (af 3) (cI 2))])) aA) aA) (ak (bI (tB (m2 b7 (af 4) (cS 9))) (ak (aC (dM "One" JB [.val (m2 aq (af 3) (cI 1)),.val (ck "Weaver" "tree_named" (w 0) (af 0) [.val (m2 aq (af 3) (cI 2)),.val (af 2)])])) aA) aA) (ak (bI (tB (m2 b7 (af 4) (cS 10))) (ak (aC (dM "Both" Jv [.val (m2 aq (af 3) (cI 1)),.val (ck "Weaver" "tree_spread" (w 3) (af 0) [.val (m2 aq (af 3) (cI 2)),.val (af 2)]),.val (ck "Weaver" "tree_spread" (w 3) (af 0) [.val (m2 aq (af 3) (cI 3)),.val (af 2)])])) aA) aA) (ak (bI (tB (m2 b7 (af 4) (cS 11))) (ak (aC (dM "Where" BO [.val (ck "Weaver" "tree_spread" (w 3) (af 0) [.val (m2 aq (af 3) (cI 1)),.val (af 2)]),.val (ck "Weaver" "tree_spread" (w 3) (af 0) [.val (m2 aq (af 3) (cI 2)),.val (af 2)]),.val (ck "Weaver" "tree_spread" (w 3) (af 0) [.val (m2 aq (af 3) (cI 3)),.val (af 2)])])) aA) aA) (ak (bI (tB (m2 b7 (af 4) (cS 8))) (ak (aC (ck "Weaver" "tree_shifted" (w 4) (af 0) [.val (m2 aq (af 3) (cI 1)),.val (m2 aq (af 3) (cI 2)),.val (m2 aq (af 3) (cI 3)),.val (m2 aq (af 3) (cI 4)),.val (af 2)])) aA) aA) (ak (bI (tB (m2 b7 (af 4) (cS 15))) (ak (aC (ck "Weaver" "tree_joined" (w 5) (af 0) [.val (m2 aq (af 3) (cI 1)),.val (m2 aq (af 3) (cI 2)),.val (m2 aq (af 3) (cI 3)),.val (af 2)])) aA) aA) (ak (bI (tB (m2 b7 (af 4) (cS 7))) (ak (aC (ck "Weaver" "row_read" tW (af 0) [.val (m2 aq (af 3) (cI 1)),.val (af 2),.val (m2 aq (m1 (aZ cw "sides") (af 0)) (af 1))])) aA) aA) (ak (aC (ck "Weaver" "tree_viewed" (w 2) (af 0) [.val (af 3),.val (af 2)])) aA)))))))))
def iU(w:Nat->Fn):=ak (aN 3 (m2 aq (af 1) (cI 0))) (ak (bI (tB (m2 b7 (af 3) (cS 2))) (ak (aC (ck "Weaver" "tree_named" (w 0) (af 0) [.val (m2 aq (af 1) (cI 1)),.val (ax x9 [.val (af 2),.val (m2 aq (af 1) (cI 2))])])) aA) aA) (ak (bI (tB (m2 b7 (af 3) (cS 3))) (ak (aC (ck "Weaver" "tree_named" (w 0) (af 0) [.val (m2 aq (af 1) (cI 1)),.val (ax qO [.val (af 2),.val (m2 aq (af 1) (cI 2)),.val (m2 aq (af 1) (cI 3)),.val (m2 aq (af 1) (cI 4))])])) aA) aA) (ak (bI (tB (m2 b7 (af 3) (cS 4))) (ak (aC (ck "Weaver" "tree_named" (w 0) (af 0) [.val (m2 aq (af 1) (cI 1)),.val (ax x5 [.val (af 2),.val (m2 aq (af 1) (cI 2)),.val (m2 aq (af 1) (cI 3))])])) aA) aA) (ak (bI (tB (m2 b7 (af 3) (cS 5))) (ak (aC (ck "Weaver" "tree_named" (w 0) (af 0) [.val (m2 aq (af 1) (cI 1)),.val (ax ya [.val (af 2),.val (m2 aq (af 1) (cI 2))])])) aA) aA) (ak (aC (ck "Weaver" "tree_spread" (w 3) (af 0) [.val (m2 aq (af 1) (cI 1)),.val (af 2)])) aA)))))
def xl(w:Nat->Fn):=ak (aC (ck "Weaver" "tree_named" (w 0) (af 0) [.val (af 1),.val (ax x6 [.val (af 2),.val (m2 aq (m1 (aZ cw "sides") (af 0)) (af 1))])])) aA
def xk(w:Nat->Fn):=ak (aN 6 (ax qO [.val (af 5),.val (af 2),.val (m1 mw (af 3)),.val (cI 1)])) (ak (aC (dM "Within" BP [.val (m2 aq (af 6) (af 2)),.val (m2 aq (m2 aq (m1 (aZ cw "sides") (af 0)) (af 1)) (af 2)),.val (ck "Weaver" "tree_named" (w 0) (af 0) [.val (af 1),.val (af 6)]),.val (af 4)])) aA)
def xj(w:Nat->Fn):=ak (aN 5 (m2 aq (m2 aq (m1 (aZ cw "sides") (af 0)) (af 1)) (af 3))) (ak (aN 6 (ax qO [.val (af 4),.val (af 3),.val (m1 mw (af 5)),.val (cI 1)])) (ak (aC (dM "Joined" Jz [.val (m2 aq (af 4) (af 3)),.val (af 5),.val (ck "Weaver" "tree_named" (w 0) (af 0) [.val (af 1),.val (af 4)]),.val (ck "Weaver" "tree_named" (w 0) (af 0) [.val (af 2),.val (af 6)])])) aA))
def dN:Nat->Nat->Fn|0=>fun _ _=>.no|n+1=>fun i=>match i with|0=>defn 3 [false,false,false] (tM (dN n))|1=>defn 5 [false,false,false] (iT (dN n))|2=>defn 4 [false,false,false] (iU (dN n))|3=>defn 3 [false,false,false] (xl (dN n))|4=>defn 7 [false,false,false,false,false,false] (xk (dN n))|5=>defn 7 [false,false,false,false,false] (xj (dN n))|_=>fun _=>.no
def xD:Fn:=dN 64 0
def BN:Fn:=dN 64 1
def cQ:=bc [(cI 0),(af 1),(cI 1)]
def Bd:=ak (aC (aS 1 (cJ [(af 0)]) (aD 1) (VP.ret true) cQ)) aA
def oG:Fn:=defn 1 [false] Bd
def om:=ak (aN 4 (m2 aq (af 0) (af 3))) (ak (aN 5 (m2 aq (af 1) (af 3))) (ak (aN 6 (m2 aq (af 4) (cI 0))) (ak (bI (tB (m2 b7 (af 6) (cS 0))) (ak (aC (dM "Load" JA [.val (af 3),.val (af 5),.val (m2 aq (af 4) (cI 1))])) aA) aA) (ak (bI (tB (m2 b7 (af 6) (cS 14))) (ak (aC (dM "Pick" JC [.val (af 3),.val (af 5),.val (m2 aq (af 4) (cI 2)),.val (m2 aq (af 4) (cI 1)),.val (m2 aq (af 4) (cI 3)),.val (m2 aq (af 1) (m2 aq (af 4) (cI 1)))])) aA) aA) (ak (bI (tB (m2 b7 (af 6) (cS 12))) (ak (aN 7 (m2 aq (af 1) (m2 aq (af 4) (cI 2)))) (ak (aN 8 (ck "Weaver" "tree_named" xD (dM "Weaver" xC [.val (af 0),.val (af 1),.val (af 2),.val (m1 bB (af 7))]) [.val (m2 aq (af 4) (cI 2)),.val (ax oG [.val (m1 bB (af 7))])])) (ak (aC (dM "Fold" Jy [.val (af 3),.val (af 5),.val (m2 aq (af 4) (cI 3)),.val (m2 aq (af 7) (m2 aq (af 4) (cI 3))),.val (m2 aq (af 4) (cI 1)),.val (af 8)])) aA))) aA) (ak (aN 9 (dM "Weaver" xC [.val (af 0),.val (af 1),.val (af 2),.val (m1 bB (af 5))])) (ak (bI (tB (m2 b7 (af 6) (cS 13))) (ak (aC (dM "Through" BM [.val (af 3),.val (af 5),.val (m2 aq (af 4) (cI 3)),.val (m2 aq (af 4) (cI 1)),.val (ck "Weaver" "tree_named" xD (af 9) [.val (m2 aq (af 4) (cI 2)),.val (ax oG [.val (m1 bB (af 5))])])])) aA) aA) (ak (aC (dM "Fill" Jx [.val (af 3),.val (af 5),.val (ck "Weaver" "tree_made" BN (af 9) [.val (af 3),.val (ax oG [.val (m1 bB (af 5))])])])) aA))))))))
def kS:Fn:=defn 10 [false,false,false,false] om
def iV(w:Nat->Fn):=ak (bI (tB (m1 (a7 ef) (af 0))) (ak (aC (du [(m1 (aZ dh "line") (af 0))])) aA) aA) (ak (bI (tB (m1 (a7 bT) (af 0))) (ak (aC (ax (w 0) [.val (m1 (aZ d8 "inner") (af 0))])) aA) aA) (ak (bI (tB (m1 (a7 cx) (af 0))) (ak (aC (m2 aY (ax (w 0) [.val (m1 (aZ eW "left") (af 0))]) (ax (w 0) [.val (m1 (aZ dq "right") (af 0))]))) aA) aA) (ak (bI (tB (m1 (a7 bQ) (af 0))) (ak (aC (m2 aY (m2 aY (ax (w 0) [.val (m1 (aZ gW "asked") (af 0))]) (ax (w 0) [.val (m1 (aZ eW "left") (af 0))])) (ax (w 0) [.val (m1 (aZ dq "right") (af 0))]))) aA) aA) (ak (bI (tB (m1 (a7 bS) (af 0))) (ak (aC (m2 aY (ax (w 0) [.val (m1 (aZ gV "ahead") (af 0))]) (ax (w 0) [.val (m1 (aZ fV "behind") (af 0))]))) aA) aA) (ak (aC (du [])) aA)))))
def vk:Nat->Nat->Fn|0=>fun _ _=>.no|n+1=>fun i=>match i with|0=>defn 1 [false] (iV (vk n))|_=>fun _=>.no
def BR:Fn:=vk 64 0
def AZ:=ak (bI (tB (m1 (a7 gX) (af 0))) (ak (aC (du [])) aA) aA) (ak (bI (tB (m1 (a7 gY) (af 0))) (ak (aC (du [(m1 (aZ jJ "source") (af 0)),(m1 (aZ jI "places") (af 0))])) aA) aA) (ak (aC (ax BR [.val (m1 (aZ eX "tree") (af 0))])) aA))
def oF:Fn:=defn 1 [false] AZ
def cC:=ak (uV 1 (af 4) (af 2)) aA
def cD:=ak (fE (dk (ax oF [.val (af 3)])) (aD 4) cC) aA
def AX:=ak (fU 1 (mC (.gg [] []))) (ak (fE (nj [(af 0)]) (cW [2,3]) cD) (ak (vj 1 (aC (af 1))) aA))
def xJ:Fn:=defn 5 [false] AX
def bW:=tB (m2 (inD false) (af 1) (af 0))
def cH:=ak (aN 1 (m2 aY (af 1) (cI 1))) aA
def A0:=ak (aN 1 (cI 0)) (ak (wG bW cH) (ak (aC (af 1)) aA))
def xM:Fn:=defn 2 [false] A0
def fO:=m2 oy (af 2) (af 6)
def fQ:=tB (m2 RN (m2 oy (af 1) (af 6)) (af 3))
def fT:=ak (aN 5 (kf (aS 1 (uz (af 2)) (aD 6) fQ fO))) (ak (uV 2 (m1 (aZ dh "line") (af 4)) (ax xM [.val (af 5)])) aA)
def A8:=ak (aN 1 (ax xJ [.val (af 0)])) (ak (fU 2 (mC (.gg [] []))) (ak (fE (nj [(af 0)]) (cW [3,4]) fT) (ak (vj 2 (aC (af 2))) aA)))
def xS:Fn:=defn 6 [false] A8
def ko:=m2 (inD false) (af 2) (m1 (DO mM) (af 1))
def kq:=tB (m1 (sZ false mM qt) (af 1))
def HE:=ak (aC (m1 (nB true) (aS 2 (qg [(m1 (DO mN) (m2 aq (af 0) (cI 0))),(nK d6 (af 0) (some (cI 1)) none)]) (cW [1,2]) kq ko))) aA
def BQ:Fn:=defn 1 [false] HE
def AL:=ak (aC (zD pW ltI (cI 0) (af 0) (cI 1000003))) aA
def tX:Fn:=defn 1 [false] AL
def tN:=ak (bI (tB (m2 b7 (m2 aq (af 0) (cI 0)) (cS 1))) (ak (aC (ax tX [.val (m2 aq (af 0) (cI 2))])) aA) aA) (ak (aC (zH (m2 fW (m2 aq (af 0) (cI 0)) (cS 8)) (ax tX [.val (m2 aq (af 0) (cI 4))]))) aA)
def mY:Fn:=defn 1 [false] tN
def cM:=zD pW ltI (cI 0) (af 3) (af 1)
def xp:=ak (bI (tB (m2 b7 (m2 aq (af 0) (cI 0)) (cS 0))) (ak (aC (zD pW ltI (cI 0) (m2 aq (af 0) (cI 1)) (af 2))) aA) aA) (ak (aC (m1 (nB true) (aS 1 (dk (ax mX [.val (af 0)])) (aD 3) (VP.ret true) cM))) aA)
def qM:Fn:=defn 3 [false,false,false] xp
def dW:=zD pW pW (cI 0) (af 1) (cI 64)
def A9:=ak (bI (qo (tB (m2 B4 (m1 bB (af 0)) (cI 4))) (lD (tB (m1 (nB true) (aS 1 (dk (af 0)) (aD 1) (VP.ret true) dW))))) (ak (aC cF) aA) aA) (ak (aC (m2 pW (ax oC [.val (af 0)]) (cI 4096))) aA)
def xT:Fn:=defn 1 [false] A9
def AJ:=ak (aC (zD pW ltI (cI 0) (af 1) (m1 bB (af 0)))) aA
def j0:Fn:=defn 2 [false,false] AJ
def Bo:=ak (aC (m2 aY (nK d6 (af 0) none (some (af 1))) (nK d6 (af 0) (some (m2 aY (af 1) (cI 1))) none))) aA
def oH:Fn:=defn 2 [false,false] Bo
def AH:=ak (bI (lD (tB (ax j0 [.val (af 1),.val (af 2)]))) (ak (aC (mC .bz)) aA) aA) (ak (bI (kF (tB (m2 b7 (m2 aq (af 1) (af 2)) (cI 0))) (tB (m2 (inD false) (af 0) (bc [(cS 22),(cS 23)])))) (ak (aC (mC .bz)) aA) aA) (ak (aC (ax oH [.val (af 1),.val (af 2)])) aA))
def xG:Fn:=defn 3 [false,false,false] AH
def A7:=ak (aC (m2 aY (m2 aY (nK d6 (af 0) none (some (af 1))) (bc [(af 2)])) (nK d6 (af 0) (some (m2 aY (af 1) (cI 1))) none))) aA
def qN:Fn:=defn 3 [false,false,false] A7
def AM:=ak (bI (qo (lD (tB (ax j0 [.val (af 0),.val (af 2)]))) (tB (m2 fW (m1 bB (af 0)) (m1 bB (af 1))))) (ak (aC (mC .bz)) aA) aA) (ak (bI (tB (m2 fW (ax oH [.val (af 0),.val (af 2)]) (ax oH [.val (af 1),.val (af 2)]))) (ak (aC (mC .bz)) aA) aA) (ak (aC (ax qN [.val (af 0),.val (af 2),.val (m2 aY (m2 aq (af 0) (af 2)) (m2 aq (af 1) (af 2)))])) aA))
def xI:Fn:=defn 3 [false,false,false] AM
def A3:=ak (bI (qo (lD (tB (ax j0 [.val (af 0),.val (af 1)]))) (tB (m2 fW (m1 bB (af 2)) (cI 1)))) (ak (aC (mC .bz)) aA) aA) (ak (aC (ax qN [.val (af 0),.val (af 1),.val (m2 aq (af 2) (cI 0))])) aA)
def xO:Fn:=defn 3 [false,false,false] A3
def fj:=cI 1
def Bn:=ak (aC (m2 aY (aS 1 (cJ [(m2 gA (af 1) (m1 bB (af 0)))]) (aD 2) (VP.ret true) fj) (m1 gZ (af 0)))) aA
def ue:Fn:=defn 2 [false,false] Bn
def eA:=ak (bI (kF (tB (m2 fW (af 4) (af 5))) (kF (tB (m2 fW (af 4) (cI 1))) (tB (m2 fW (af 5) (cI 1))))) (ak (aC (mC .bz)) aA) aA) (ak (lz 3 (yv (tB (m2 b7 (af 4) (cI 1))) (af 5) (af 4))) aA)
def Bb:=ak (aN 2 (mF maxD [(m1 bB (af 0)),(m1 bB (af 1))])) (ak (fU 3 (du [])) (ak (fE (qg [(ax ue [.val (af 0),.val (af 2)]),(ax ue [.val (af 1),.val (af 2)])]) (cW [4,5]) eA) (ak (aC (m1 i6 (yw 3))) aA)))
def mZ:Fn:=defn 6 [false,false] Bb
def AI:=ak (aC (ni (ax j0 [.val (af 0),.val (af 1)]) (zD pW ltI (cI 0) (af 2) (m2 aq (af 0) (af 1))))) aA
def qI:Fn:=defn 3 [false,false,false] AI
def AF:=ak (bI (qo (lD (tB (ax j0 [.val (af 0),.val (af 1)]))) (qo (tB (m2 b7 (af 3) (cI 0))) (tB (m2 ltI (af 4) (cI 0))))) (ak (aC (mC .bz)) aA) aA) (ak (bI (kF (tB (m2 B4 (af 4) (cI 0))) (lD (kF (tB (ax qI [.val (af 0),.val (af 1),.val (af 2)])) (tB (ax qI [.val (af 0),.val (af 1),.val (m2 aY (af 2) (m2 mn (af 3) (m2 gA (af 4) (cI 1))))]))))) (ak (aC (mC .bz)) aA) aA) (ak (aC (ax qN [.val (af 0),.val (af 1),.val (af 4)])) aA))
def xE:Fn:=defn 5 [false,false,false,false,false] AF
def AG:=ak (aC (yv (tB (ax qI [.val (af 0),.val (af 1),.val (af 2)])) (ax oH [.val (af 0),.val (af 1)]) (mC .bz))) aA
def xF:Fn:=defn 3 [false,false,false] AG
def A5:=ak (aC (m2 aY (m2 aY (nK d6 (af 0) none (some (af 1))) (bc [(af 2)])) (nK d6 (af 0) (some (af 1)) none))) aA
def xQ:Fn:=defn 3 [false,false,false] A5
def dX:=m2 aq (af 0) (af 2)
def Bg:=ak (bI (tB (m2 fW (m1 uX (af 1)) (mF CF [(m1 bB (af 0))]))) (ak (aC (mC .bz)) aA) aA) (ak (aC (m1 i6 (aS 1 (dk (af 1)) (aD 2) (VP.ret true) dX))) aA)
def xZ:Fn:=defn 2 [false,false] Bg
def mW:=ak (aN 2 (m2 aq (af 0) (cI 0))) (ak (bI (tB (m2 b7 (af 2) (cS 2))) (ak (aC (ax xZ [.val (af 1),.val (m2 aq (af 0) (cI 2))])) aA) aA) (ak (bI (tB (m2 b7 (af 2) (cS 3))) (ak (aC (ax xE [.val (af 1),.val (m2 aq (af 0) (cI 2)),.val (m2 aq (af 0) (cI 3)),.val (m2 aq (af 0) (cI 4)),.val (m2 aq (af 0) (cI 5))])) aA) aA) (ak (bI (tB (m2 b7 (af 2) (cS 4))) (ak (aC (ax xF [.val (af 1),.val (m2 aq (af 0) (cI 2)),.val (m2 aq (af 0) (cI 3))])) aA) aA) (ak (bI (tB (m2 b7 (af 2) (cS 5))) (ak (aC (yv (tB (zD pW pW (cI 0) (m2 aq (af 0) (cI 2)) (m1 bB (af 1)))) (ax xQ [.val (af 1),.val (m2 aq (af 0) (cI 2)),.val (cI 1)]) (mC .bz))) aA) aA) (ak (bI (tB (m2 b7 (af 2) (cS 6))) (ak (aC (yv (tB (m2 b7 (ax mZ [.val (af 1),.val (m2 aq (af 0) (cI 2))]) (m2 aq (af 0) (cI 2)))) (m2 aq (af 0) (cI 2)) (mC .bz))) aA) aA) (ak (aC (yv (tB (m2 b7 (ax oC [.val (af 1)]) (ax oC [.val (m2 aq (af 0) (cI 2))]))) (m2 aq (af 0) (cI 2)) (mC .bz))) aA))))))
def gK:Fn:=defn 3 [false,false] mW
def Bf:=ak (aN 3 (ax mZ [.val (af 0),.val (af 1)])) (ak (aC (yv (tB (m2 isND (af 3) (mC .bz))) (mC .bz) (ax mZ [.val (af 3),.val (af 2)]))) aA)
def xY:Fn:=defn 4 [false,false,false] Bf
def eI:=ak (aN 3 (m2 aq (af 0) (cI 0))) (ak (bI (tB (m2 b7 (af 3) (cS 0))) (ak (aC (m2 aq (af 2) (m2 aq (af 0) (cI 1)))) aA) aA) (ak (bI (tB (m2 b7 (af 3) (cS 1))) (ak (aC (m2 aq (af 0) (cI 1))) aA) aA) (ak (bI (tB (m2 b7 (af 3) (cS 9))) (ak (aC (bU 1 (m2 aq (af 0) (cI 2)))) aA) aA) (ak (bI (tB (m2 b7 (af 3) (cS 10))) (ak (aC (ax mZ [.val (bU 1 (m2 aq (af 0) (cI 2))),.val (bU 1 (m2 aq (af 0) (cI 3)))])) aA) aA) (ak (bI (tB (m2 b7 (af 3) (cS 11))) (ak (aC (ax xY [.val (bU 1 (m2 aq (af 0) (cI 1))),.val (bU 1 (m2 aq (af 0) (cI 2))),.val (bU 1 (m2 aq (af 0) (cI 3)))])) aA) aA) (ak (bI (tB (m2 b7 (af 3) (cS 12))) (ak (aC (ax xG [.val (m2 aq (af 0) (cI 1)),.val (bU 1 (m2 aq (af 0) (cI 2))),.val (m2 aq (af 0) (cI 3))])) aA) aA) (ak (bI (tB (m2 b7 (af 3) (cS 13))) (ak (aC (yv (tB (ax j0 [.val (bU 1 (m2 aq (af 0) (cI 2))),.val (m2 aq (af 0) (cI 3))])) (bU 1 (m2 aq (af 0) (cI 2))) (mC .bz))) aA) aA) (ak (bI (tB (m2 b7 (af 3) (cS 14))) (ak (aC (ax xO [.val (bU 1 (m2 aq (af 0) (cI 1))),.val (m2 aq (af 0) (cI 2)),.val (bU 1 (m2 aq (af 0) (cI 3)))])) aA) aA) (ak (bI (tB (m2 b7 (af 3) (cS 15))) (ak (aC (ax xI [.val (bU 1 (m2 aq (af 0) (cI 1))),.val (bU 1 (m2 aq (af 0) (cI 2))),.val (m2 aq (af 0) (cI 3))])) aA) aA) (ak (bI (tB (m2 b7 (af 3) (cS 8))) (ak (aC (yv (tB (ax j0 [.val (bU 1 (m2 aq (af 0) (cI 1))),.val (m2 aq (af 0) (cI 2))])) (bU 1 (m2 aq (af 0) (cI 1))) (mC .bz))) aA) aA) (ak (aC (ax gK [.val (af 0),.val (bU 1 (m2 aq (af 0) (cI 1)))])) aA)))))))))))
def d7:Fn:=defn 4 [false,true,false] eI
def Ba:=ak (bI (lD (tB (ax qM [.val (af 1),.val (m1 bB (yw 2)),.val (m1 bB (af 3))]))) (ak mI aA) aA) (ak (bI (lD (tB (ax mY [.val (af 1)]))) (ak mI aA) aA) (ak (aN 4 (yv (tB (ax BQ [.val (af 1)])) (ax d7 [.val (af 1),.io 2,.val (af 3)]) (mC .bz))) (ak (bI (qo (tB (m2 isND (af 4) (mC .bz))) (lD (tB (ax xT [.val (af 4)])))) (ak mI aA) aA) (ak (aC (af 4)) aA))))
def xU:Fn:=defn 5 [false,false,true,false] Ba
def ff:=ak (lz 2 (ax xU [.val (af 3),.val (af 4),.io 2,.val (af 1)])) aA
def Bc:=ak (bI (tB (m2 b7 (m1 bB (af 0)) (cI 0))) (ak mI aA) aA) (ak (bI (tB (m2 B4 (m1 bB (af 0)) (cI 40))) (ak mI aA) aA) (ak (fU 2 (du [])) (ak (fE (nj [(af 0)]) (cW [3,4]) ff) (ak (vj 2 (aC (af 2))) aA))))
def xV:Fn:=defn 5 [false,false] Bc
def iy:=ax kS [.val (af 0),.val (af 2),.val (af 3),.val (af 6)]
def iB:=tB (m2 aq (af 3) (af 6))
def A4:=ak (aN 2 (ax xV [.val (af 0),.val (af 1)])) (ak (aN 3 (ax tY [.val (af 0),.val (af 2)])) (ak (aN 4 (aS 1 (cJ [(m1 bB (af 0))]) (aD 6) iB iy)) (ak (aN 5 (ax xS [.val (af 4)])) (ak (aC (dM "Plan" JD [.val (af 4),.val (af 5),.val (ax xK [.val (af 4),.val (af 5)])])) aA))))
def xP:Fn:=defn 6 [false,false] A4
def lb:=ak (bI (qo (tB (m2 (rR true) (af 6) (m1 (aZ cv "row_of") (af 2)))) (tB (m2 b7 (m2 oy (m1 (aZ cv "row_of") (af 2)) (af 6)) (af 5)))) (ak (aC cF) aA) aA) (ak (bI (tB (m2 fW (jr (nk (af 3) (m2 oy (m1 (aZ cv "row_of") (af 2)) (af 6)) (m1 mw (cI 1)))) (af 6))) (ak (aC cF) aA) aA) aA)
def lg:=ak (aN 5 (m2 oy (m1 (aZ cv "row_of") (af 2)) (m1 (aZ dh "line") (af 4)))) (ak (fE (dk (ax oE [.val (af 4)])) (aD 6) lb) (ak (uV 3 (af 5) (m1 (aZ dh "line") (af 4))) aA))
def AB:=ak (aN 1 (mh ua (du [(af 0),(cI 0)]))) (ak (aN 2 (ax xP [.val (m1 gZ (m2 aq (af 1) (cI 0))),.val (m1 gZ (m2 aq (af 1) (cI 3)))])) (ak (fU 3 (mC (.gg [] []))) (ak (fE (dk (m1 (aZ kU "loops") (af 2))) (aD 4) lg) (ak (aN 7 (m2 gA (m1 bB (m2 aq (af 1) (cI 0))) (cI 1))) (ak (aC (ni (m2 (rR false) (af 7) (m1 (aZ cv "row_of") (af 2))) (m2 b7 (jr (nk (af 3) (m2 oy (m1 (aZ cv "row_of") (af 2)) (af 7)) (m1 mw (cI 1)))) (af 7)))) aA)))))
def BK:Fn:=defn 8 [false] AB
def cell(ns:Pa)(k:Nat):Int:=ns.getD k 0
def Row(ns:Pa)(p:Nat):D:=.lst [Z ns,.int p]
theorem pP(ns:Pa)(p:Nat)(m:Int)(h:0<m):bu [Row ns p,.int m]=.ok (.int (cell ns p % m)) [Row ns (p+1)]:=by rw[bu,eV _ _ _ _ rfl];unfold AW cell Row;have i0:∀(j:Int),yq [Z ns,.int j] 0=some (Z ns):=fun _=>rfl;have i1:∀(j:Int),yq [Z ns,.int j] 1=some (.int j):=fun _=>rfl;have st:∀(i j:Int),setAt (.int 1) (.int j) (.lst [Z ns,.int i])=some (.lst [Z ns,.int j]):=fun _ _=>rfl;by_cases hp:p<ns.length;have e:=fS ns p ZG ZG;simp[i0,i1,st,hp,e,hJ _ _ h];have YF:¬(p:Int)<ns.length:=ZG;have g:ns[p]?=none:=Z9 ZG;simp[i0,i1,st,hp,g]
theorem ll:names.all lC=true/\names.Nodup:=⟨by decide +kernel,by decide +kernel⟩
theorem mz{i:Nat}(h:i<names.length):nm i=names[i]:=by simp[nm,h]
theorem Ju(i j:Nat)(hi:i<names.length)(hj:j<names.length):b7 (.str (nm i)) (.str (nm j))=some (.bl (decide (i=j))):=by
 have f:∀k,k<names.length->lC (nm k)=true:=fun k h=>by rw[mz h];exact List.all_eq_true.mp ll.1 _ (BA h)
 have e:(nm i == nm j)=decide (i=j):=by rw[mz hi,mz hj];by_cases h:i=j;subst h;simp;have:names[i]≠names[j]:=fun z=>h ((Et ll.2).mp z);simp[h,this]
 simp[b7,VP.plain,f i hi,f j hj,HN,e]
theorem PU:32<=names.length:=by decide
theorem HQ(i j:Nat)(hi:i<32)(hj:j<32):b7 (.str (nm i)) (.str (nm j))=some (.bl (decide (i=j))):=Ju i j (Z6 hi PU) (Z6 hj PU)
theorem aI{α:Type}{x y:α}(h:x=y:=by
  repeat' first
    |with_reducible assumption
    | (with_reducible show (_:Res D)=_
       first
         | ((with_reducible apply M0);exact rfl)
         |with_reducible first|exact Sz|apply Pw|apply Py|apply Eu|exact z6|apply KI|apply Q0L|apply MW|apply Q1a|apply Ep|apply LU|apply QJ|apply Ki|apply EL|apply Ob|apply FE|apply FF
         | ((with_reducible apply QD);exact rfl))
    | (with_reducible show (_:S4)=_
       with_reducible first|exact HQ _ _ (by decide) (by decide)|exact As _ _|exact yR _ _|exact gI _ _|exact di _ _|exact mf _ _|exact gi _ _|exact B5 _ _|exact FH _|exact Ks _|exact Kt _|exact Hc _|exact Hb _|exact Q0b _|exact Q1U _)
    | (with_reducible show (_:Res Fl)=_
       first
         |with_reducible first|apply QK|apply GU|apply ME|apply LV|apply O5|apply Mt|exact P5|exact GV|apply RD|exact z6|apply JH|apply Ji|apply S1|apply MF|apply Si|apply Ol|apply Gu
        )
    | (with_reducible show (_:Res (List AV))=_
       with_reducible first|exact Q1M|apply Q1S|apply Q0v|exact z6)
    | (with_reducible show (_:Res Bool)=_
       first
         |with_reducible first|apply QP|apply KW|apply Jg|apply Qh|exact z6
        )
    | (with_reducible show (_:Res (List D))=_
       with_reducible first|exact zF|apply Q0B|apply MC|apply Mw|apply Nb|apply EB|apply Q0S|apply Fc|exact z6)
    | ((with_reducible apply HJ);refine Y9 ?_;with_reducible assumption)|((with_reducible apply HI);refine Z0 ?_;with_reducible assumption)|((with_reducible apply HJ);exact rfl)|((with_reducible apply HI);exact rfl)
    |with_reducible first|apply Qu|exact Hg|apply DU|exact sW _|exact MA _|exact z6
    | (conv=>{lhs;dsimp only[List.set,putAll,cE,fC,List.getElem?_cons_zero,List.getElem?_cons_succ,pU,own,Option.map_some]};done)
    |exact rfl|(refine EI rfl ?_;with_reducible assumption)):x=y:=h
theorem rn{n:Nat}{fl:N0}{b:M Fl}{ds cB:Sg}{r r0:aQ}{d:D}(hl:decide (ds.length=fl.length)=true:=by exact rfl)(h0:cO n fl ds=r0:=by conv=>{lhs;simp only[nz,pM,uT,IG,Bool.false_eq_true,↓reduceIte]})(h:b r0=.ok (.rt d) r:=by exact aI)(hi:b9 fl r=some cB:=by exact rfl):defn n fl b ds=.ok d cB:=Oh hl (h0 ▸ h) hi
theorem Q0l(i j:Nat)(hi:i<32)(hj:j<32):(nm i == nm j)=decide (i=j):=by have h1:=Z6 hi PU;have h2:=Z6 hj PU;rw[mz h1,mz h2];by_cases h:i=j;subst h;simp;have:names[i]≠names[j]:=fun z=>h ((Et ll.2).mp z);simp[h,this]
theorem VV(i j:Nat)(hi:i<32)(hj:j<32):fW (.str (nm i)) (.str (nm j))=some (.bl (!decide (i=j))):=by
 have e:=HQ i j hi hj;unfold b7 at e;unfold fW;split at e;rename_i hp;rw[ZY hp];have e':eqB (D.str (nm i)) (.str (nm j))=decide (i=j):=by simpa using e
 rw[e'];cases e
theorem yp(k:Bool):intD [.bl k]=some (.int (if k=true then 1 else 0)):=rfl
def Rt(a:Int):Prop:=0<=a/\a<1000003
def a8:Pa->Int|[]=>1|x::r=>x*a8 r
structure Sd(xs:Pa):Prop where
 len:xs.length<=4
 bd:∀x∈xs,0<=x/\x<=64
theorem yI:∀(xs:Pa),(∀x∈xs,0<=x/\x<=64)->0<=a8 xs/\a8 xs<=64 ^ xs.length|[],_=>by simp[a8]|x::r,h=>by have hx:=h x Z2;have hr:=yI r fun y hy=>h y (Z1 _ hy);simp only[a8,List.length_cons];refine⟨DN hx.1 hr.1,?_⟩;have:x*a8 r<=64*64 ^ r.length:=Int.mul_le_mul hx.2 hr.2 hr.1 ZG;rw[Int.pow_succ];lia
theorem Q1A:∀{n:Nat},n<=4->(64:Int) ^ n<=16777216|0,_=>by decide|1,_=>by decide|2,_=>by decide|3,_=>by decide|4,_=>by decide
theorem Sd.drop{xs:Pa}(h:Sd xs)(k:Nat):Sd (xs.drop k):=⟨by have:=h.len;simp;lia,fun y hy=>h.bd y (PJ hy)⟩
theorem kE:∀(xs:Pa)(a:Int),xs.foldl (fun p x=>p*x) a=a*a8 xs|[],a=>by simp[a8]|x::r,a=>by simp only[List.foldl_cons,a8];rw[kE r];rw[Int.mul_assoc]
def back(xs:Pa)(k:Nat):Int:=if k<xs.length then xs.getD (xs.length-1-k) 1 else 1
def pj(x y:Int):Bool:=decide (x=1\/y=1\/x=y)
def pk(x y:Int):Int:=if x=1 then y else x
def IJ(acc:Pa)(p:Int×Int):D ⊕ List Int:=if pj p.1 p.2 then .inr (acc++[pk p.1 p.2]) else .inl .bz
theorem qQ(ps:List (Int×Int)):∀acc,jm IJ ps acc=if ps.all (fun p=>pj p.1 p.2) then .inr (acc++ps.map fun p=>pk p.1 p.2) else .inl .bz:=by induction ps with|nil=>intro acc;simp[jm]|cons p ps ih=>intro acc;simp only[jm,IJ,List.all_cons];by_cases q:pj p.1 p.2=true;simp only[q,if_true,ih,Bool.true_and];simp;simp[q]
def zT:Option (List Int)->D|some xs=>T xs|none=>.bz
def pairs(one other:Pa):List (Int×Int):=(List.range (max one.length other.length)).map fun k=>(back one k,back other k)
def meet(one other:Pa):Option (List Int):=if (pairs one other).all (fun p=>pj p.1 p.2) then some ((pairs one other).map fun p=>pk p.1 p.2).reverse else none
def ahead(xs:Pa)(n:Nat):Pa:=List.replicate (n-xs.length) 1++xs
theorem jV(one other:Pa):(ahead one (max one.length other.length)).zip (ahead other (max one.length other.length))=(pairs one other).reverse:=by
 have len:∀(xs:Pa)(n:Nat),xs.length<=n->(ahead xs n).length=n:=fun xs n h=>by simp[ahead];omega
 have get:∀(xs:Pa)(n i:Nat),xs.length<=n->i<n->(ahead xs n)[i]?=some (back xs (n-1-i)):=fun xs n i h hi=>by unfold ahead back;by_cases c:i<n-xs.length;rw[Z7 (by simpa using c),Za ZJ];simp[c];rw[Zc (by simp;omega),ZY ZJ];have e:xs.length-1-(n-1-i)=i-(n-xs.length):=ZJ;have hl:i-(n-xs.length)<xs.length:=ZJ;simp[e,hl]
 refine O3 fun i=>?_;by_cases hi:i<max one.length other.length;rw[show (List.zip (ahead one (max one.length other.length)) (ahead other (max one.length other.length)))[i]?=some (back one (max one.length other.length-1-i),back other (max one.length other.length-1-i)) from List.getElem?_zip_eq_some.mpr ⟨get one _ _ ZJ hi,get other _ _ ZJ hi⟩];rw[vI (by simp[pairs];omega)];simp only[pairs,List.length_map,List.length_range,List.getElem?_map];rw[uD ZJ];rfl;rw[Z9 (by rw[List.length_zip,len _ _ ZJ,len _ _ ZJ];omega),Z9 (by simp[pairs];omega)]
theorem lO(xs:Pa)(n:Nat)(h:xs.length<=n):(ahead xs n).length=n:=by simp[ahead];lia
theorem oV(one other:Pa)(h1:one.length<=4)(h2:other.length<=4):gU [T one,T other]=.ok (zT (meet one other)) []:=by
 obtain⟨n,hn⟩:∃n,max one.length other.length=n:=⟨_,rfl⟩;have o1:one.length<=n:=hn ▸ Kh ..;have o2:other.length<=n:=hn ▸ E9 ..;have n4:n<=4:=hn ▸ Nat.max_le.mpr ⟨h1,h2⟩;have mx:maxD [.int (one.length:Int),.int (other.length:Int)]=some (.int (n:Int)):=by rw[sy,show max (one.length:Int) other.length=n by lia]
 have er:qi [.int (n:Int)]=some ((List.range n).map fun(k:Nat)=>.int k):=ly _ _ ZG ZG ZG;have mu:∀(xs:Pa),xs.length<=n->zN (.tup [.int 1]) (.int ((n:Int)-xs.length))=some (T (List.replicate (n-xs.length) 1)):=fun xs hx=>by
  have e:((n:Int)-xs.length).toNat=n-xs.length:=ZG;have d:zN (.tup [.int 1]) (.int ((n:Int)-xs.length))=if -(iS:Int)<=(n:Int)-xs.length/\(n:Int)-xs.length<=iS/\[D.int 1].length*((n:Int)-xs.length).toNat<=iS then some (.tup (List.replicate ((n:Int)-xs.length).toNat [D.int 1]).flatten) else none:=rfl
  rw[d,ZY (by simp[iS];lia),e];simp[T,List.map_replicate]
 have ad:∀(xs:Pa),xs.length<=n->aY (T (List.replicate (n-xs.length) 1)) (T xs)=some (T (ahead xs n)):=fun xs hx=>by rw[eN _ _ (by simp[iS];lia)];rfl
 have l1:=lO one n ZG;have l2:=lO other n ZG;have zp:=jV one other;rw[hn] at zp;have L:=kA (g:=aD 6) (body:=iI) (fun(k:Nat)=>D.int k) (fun(s:Pa)(t:Sl)=>[.sh (T one),.sh (T other),.sh (.int (n:Int)),.sh (T (ahead one n)),.sh (T (ahead other n)),.sh (T s),t]) qR (fun acc k=>IJ acc ((ahead one n).getD k 0,(ahead other n).getD k 0)) (List.range n) (fun k s=>s.length=k) [] .no rfl rfl ?_;have e:jm (fun acc k=>IJ acc ((ahead one n).getD k 0,(ahead other n).getD k 0)) (List.range n) []=jm IJ (pairs one other).reverse []:=by
  have em:(pairs one other).reverse=(List.range n).map fun k=>((ahead one n).getD k 0,(ahead other n).getD k 0):=by
   rw[<-zp];refine vz (by simp[l1,l2]) fun k a b=>?_;have hk:k<n:=by simpa using b
   simp[l1,l2,hk]
  rw[em];generalize (List.range n)=ks;generalize ([]:Pa)=acc;induction ks generalizing acc with|nil=>rfl|cons k ks ih=>simp only[jm,List.map_cons];split<;>simp_all
 rw[e,qQ,Mb] at L;unfold meet;have YL:=mu one o1;have YM:=mu other o2;have X8:=ad one o1;have X9:=ad other o2;by_cases q:(pairs one other).all (fun p=>pj p.1 p.2)=true;rw[ZY q] at L;obtain⟨_,t,_,L⟩:=L;simp only[List.nil_append] at L;rw[ZY q];rw[show T []=D.tup [] from rfl,zv] at L;unfold gU xm zT;exact rn;rw[Za q] at L;obtain⟨s',t,L⟩:=L;rw[Za q];rw[show T []=D.tup [] from rfl] at L;unfold gU xm zT;exact rn;intro i k hk acc t ht hP;obtain⟨rfl,hk⟩:=dz hk;have hf:free (some t)=true:=ht;have e1:∀x:Int,aY (T acc) (.tup [.int x])=some (T (acc++[x])):=fun x=>eN acc [x] (by simp[iS];lia);have i1:=fS (ahead one n) k ZG ZG;have i2:=fS (ahead other n) k ZG ZG;simp only[ZA] at i1 i2;generalize (ahead one n).getD k 0=x at *;generalize (ahead other n).getD k 0=y at *;have g6:aD 6 (.int (k:Int)) [.sh (T one),.sh (T other),.sh (.int (n:Int)),.sh (T (ahead one n)),.sh (T (ahead other n)),.sh (T acc),t]=.ok () [.sh (T one),.sh (T other),.sh (.int (n:Int)),.sh (T (ahead one n)),.sh (T (ahead other n)),.sh (T acc),.sh (.int k)]:=by simp[hf]
 have x1:bw (aD 6) iI (.int k) [.sh (T one),.sh (T other),.sh (.int (n:Int)),.sh (T (ahead one n)),.sh (T (ahead other n)),.sh (T acc),t]=if pj x y then .ok .nx [.sh (T one),.sh (T other),.sh (.int (n:Int)),.sh (T (ahead one n)),.sh (T (ahead other n)),.sh (T (acc++[pk x y])),.sh (.int k)] else .ok (.rt .bz) [.sh (T one),.sh (T other),.sh (.int (n:Int)),.sh (T (ahead one n)),.sh (T (ahead other n)),.sh (T acc),.sh (.int k)]:=by
  have n1:=di x y;have n2:=di x 1;have n3:=di y 1;have n4:=gI x 1;have e2:pj x y=(decide (x=1)||decide (y=1)||decide (x=y)):=by simp[pj,Bool.or_assoc]
  have e3:pk x y=if decide (x=1)=true then y else x:=by simp[pk]
  rw[e2,e3,bw,g6,ay];have j1:aq (T (ahead one n)) (.int (k:Int))=some (.int x):=i1;have j2:aq (T (ahead other n)) (.int (k:Int))=some (.int y):=i2;clear er mu ad zp i1 i2;generalize T (ahead one n)=A at *;generalize T (ahead other n)=B at *;generalize T one=O1 at *;generalize T other=O2 at *;clear mx;generalize decide (x=1)=b1 at *;generalize decide (y=1)=b2 at *;generalize decide (x=y)=b3 at *;have Wq:=e1 x;have Wr:=e1 y;unfold iI;cases b1;cases b2;cases b3;exact aI;exact aI;cases b3<;>exact aI;cases b2<;>cases b3<;>exact aI
 unfold IJ;dsimp only;rw[x1];by_cases q:pj x y=true;rw[ZY q,ZY q];exact⟨by simp[hP],.sh (.int k),rfl,rfl⟩;rw[Za q,Za q];exact⟨acc,.sh (.int k),rfl⟩
def Sm(xs:Pa):Prop:=∀x∈xs,-100000<=x/\x<=100000
theorem Jt(i j:Nat)(hi:i<32)(hj:j<32):eqB (.str (nm i)) (.str (nm j))=decide (i=j):=by rw[HN];exact Q0l i j hi hj
theorem lA(n k:Nat)(d:Nat)(h:k<=n):uU n d (some (k:Int))=k:=by unfold uU;dsimp only;rw[if_neg ZG];lia
@[simp] theorem jx(n d:Nat):uU n d none=d:=ZF
def wo(s:Pa)(k:Nat):Pa:=s.take k++s.drop (k+1)
def pin(s:Pa)(k:Nat)(x:Int):Pa:=s.take k++x::s.drop k
def rep(s:Pa)(k:Nat)(x:Int):Pa:=s.take k++x::s.drop (k+1)
theorem uL:∀(a b:Pa),a8 (a++b)=a8 a*a8 b|[],b=>by simp[a8]|x::a,b=>by simp only[List.cons_append,a8,uL a b];rw[Int.mul_assoc]
def bY(ss:Pk):D:=.lst (ss.map T)
theorem Pc(ss:Pk)(i:Nat)(s:Pa)(h:ss[i]?=some s):yq (ss.map T) (i:Int)=some (T s):=by refine ky _ _ _ ZG ?_;simp[h]
theorem eZ(ss:Pk):bB (bY ss)=some (.int ss.length):=by simp[bY]
theorem EW(ss:Pk)(i:Nat)(s:Pa)(h:ss[i]?=some s):aq (bY ss) (.int i)=some (T s):=Pc ss i s h
theorem gn{s t m:Pa}(h:meet s t=some m):m.length=max s.length t.length:=by unfold meet at h;split at h;cases h;simp[pairs];cases h
theorem Gm(n:Nat)(s:Pa):VP.plain (n+1) (T s)=true:=by unfold T;rw[VP.plain];exact gL n s
theorem EG(k:Nat)(h:k<32):lC (nm k)=true:=by have h':=Z6 h PU;rw[mz h'];exact List.all_eq_true.mp ll.1 _ (BA h')
inductive PL where
 |given (j:Int)|gE (s:Pa) (x:Int)|turn (a:Nat) (o:Pa)|cut (a:Nat) (k b st m:Int)|drop (a:Nat) (k p:Int)|wide (a:Nat) (k:Int)|spread (a:Nat) (t:Pa)|shape (a:Nat) (t:Pa)|shift (a:Nat) (k n x:Int)|one (d a:Nat)|both (d a b:Nat)|cX (a b c:Nat)|fold (d a:Nat) (k:Int)|run (d a:Nat) (k:Int)|pick (a:Nat) (k:Int) (b:Nat)|join (a b:Nat) (k:Int)
abbrev R4:=List PL
instance:Inhabited PL:=⟨.given 0⟩
def PL.k:PL->Nat|.given _=>0|.gE _ _=>1|.turn _ _=>2|.cut _ _ _ _ _=>3|.drop _ _ _=>4|.wide _ _=>5|.spread _ _=>6|.shape _ _=>7|.shift _ _ _ _=>8|.one _ _=>9|.both _ _ _=>10|.cX _ _ _=>11|.fold _ _ _=>12|.run _ _ _=>13|.pick _ _ _=>14|.join _ _ _=>15
def PL.ps:PL->List D|.given j=>[.int j]|.gE s x=>[T s,.int x]|.turn a o=>[.int a,T o]|.cut a k b st m=>[.int a,.int k,.int b,.int st,.int m]|.drop a k p=>[.int a,.int k,.int p]|.wide a k=>[.int a,.int k]|.spread a t=>[.int a,T t]|.shape a t=>[.int a,T t]|.shift a k n x=>[.int a,.int k,.int n,.int x]|.one d a=>[.str (nm d),.int a]|.both d a b=>[.str (nm d),.int a,.int b]|.cX a b c=>[.int a,.int b,.int c]|.fold d a k=>[.str (nm d),.int a,.int k]|.run d a k=>[.str (nm d),.int a,.int k]|.pick a k b=>[.int a,.int k,.int b]|.join a b k=>[.int a,.int b,.int k]
def PL.d(l:PL):D:=.tup (.str (nm l.k)::l.ps)
def PL.ns:PL->List Nat|.given _=>[]|.gE _ _=>[]|.turn a _=>[a]|.cut a _ _ _ _=>[a]|.drop a _ _=>[a]|.wide a _=>[a]|.spread a _=>[a]|.shape a _=>[a]|.shift a _ _ _=>[a]|.one _ a=>[a]|.both _ a b=>[a,b]|.cX a b c=>[a,b,c]|.fold _ a _=>[a]|.run _ a _=>[a]|.pick a _ b=>[a,b]|.join a b _=>[a,b]
def PL.nD:PL->Prop|.one d _=>d<32|.both d _ _=>d<32|.fold d _ _=>d<32|.run d _ _=>d<32|_=>True
theorem PL.Pd(l:PL):l.k<16:=by cases l<;>simp[PL.k]
theorem PL.j4(l:PL):l.ns.length<=3:=by cases l<;>simp[PL.ns]
theorem PL.kind(l:PL):aq l.d (.int 0)=some (.str (nm l.k)):=by unfold PL.d;simp
theorem PL.named(l:PL):mX [l.d]=.ok (.lst (l.ns.map fun a=>D.int (a:Nat))) []:=by cases l<;>kernel_rfl!
def PL.ok(l:PL):Prop:=l.nD
theorem PL.plain(l:PL)(h:l.nD)(n:Nat):VP.plain (n+2) l.d=true:=by have f:∀k,k<32->lC (nm k)=true:=EG;have p:∀s:Pa,VP.plain (n+1) (T s)=true:=Gm n;cases l<;>simp[PL.d,PL.k,PL.ps,PL.nD,VP.plain,eT,p,f] at h ⊢<;>exact f _ h
def Pg(ls:R4):D:=.lst (ls.map PL.d)
theorem Iq(ls:R4)(i:Nat)(l:PL)(h:ls[i]?=some l):aq (Pg ls) (.int (i:Int))=some l.d:=by unfold Pg;rw[jK];exact ky _ _ _ ZG (by simp[h])
theorem jL(ls:R4):bB (Pg ls)=some (.int ls.length):=by simp[Pg]
theorem DI(ls:R4):cq (Pg ls)=some (ls.map PL.d):=rfl
theorem cz{S Tm A:Type}{g:D->M Unit}{body:M Fl}(mk:A->D)(R:S->Tm->aQ)(ok:Tm->Prop):∀(as:List A)(P:Nat->S->Prop)(s:S)(t:Tm),ok t->P 0 s ->
  (∀(i:Nat)(a:A),as[i]?=some a->∀s t,ok t->P i s->∃s' t',P (i+1) s'/\ok t'/\cont (bw g body (mk a) (R s t))=some (R s' t')) ->
  ∃s' t',P as.length s'/\ok t'/\loop g body (as.map mk) (R s t)=.ok .nx (R s' t'):=by
 intro as;induction as with|nil=>intro P s t ht hs _;exact⟨s,t,hs,ht,rfl⟩|cons a as ih=>intro P s t ht hs h;obtain⟨s1,t1,p1,o1,e1⟩:=h 0 a rfl s t ht hs;obtain⟨s2,t2,p2,o2,e2⟩:=ih (fun k=>P (k+1)) s1 t1 o1 p1 fun i a' ha=>h (i+1) a' (by simpa using ha);exact⟨s2,t2,by simpa using p2,o2,by rw[List.map_cons,jM e1];exact e2⟩
def Wf(ls:R4):Prop:=∀(i:Nat)(l:PL),ls[i]?=some l->∀r∈l.ns,r<i
inductive tF(ls:R4):Nat->Prop where
 |last:tF ls (ls.length-1)|step {i r:Nat} {l:PL}:tF ls i->ls[i]?=some l->r∈l.ns->tF ls r
theorem tF.lt{ls:R4}(wf:Wf ls)(h0:ls≠[]){i:Nat}(h:tF ls i):i<ls.length:=by induction h with|last=>have:=List.length_pos_iff.mpr h0;lia|step h e hr ih=>have:=wf _ _ e _ hr;lia
def ie(w:N0):D:=.lst (w.map .bl)
def eL(ks:XT):D:=.lst (ks.map fun k=>.int (k:Nat))
theorem uB:∀(ns:XT)(w:N0)(i:Nat),(ns.foldl (fun w r=>w.set r true) w).length=w.length/\((ns.foldl (fun w r=>w.set r true) w)[i]?=some true<->i<w.length/\(w[i]?=some true\/i∈ns))
|[],w,i=>by refine⟨rfl,⟨fun h=>⟨(List.getElem?_eq_some_iff.mp h).1,.inl h⟩,fun ⟨h1,h⟩=>?_⟩⟩;rcases h with h|h;exact h;simp at h
|r::ns,w,i=>by obtain⟨h1,h2⟩:=uB ns (w.set r true) i;simp only[List.foldl_cons];refine⟨by rw[h1];simp,?_⟩;rw[h2];simp only[List.length_set,List.mem_cons];constructor;rintro⟨a,b⟩;refine⟨a,?_⟩;rcases b with b|b;by_cases e:r=i;exact .inr (.inl e.symm);rw[Ze e] at b;exact .inl b;exact .inr (.inr b);rintro⟨a,b⟩;refine⟨a,?_⟩;by_cases e:r=i;subst e;exact .inl (by rw[Zg a]);rw[Ze e];rcases b with b|b|b;exact .inl b;exact absurd b.symm e;exact .inr b
theorem Bp(w:N0)(r:Nat)(b:Bool)(h:r<w.length):setAt (.int (r:Int)) (.bl b) (ie w)=some (ie (w.set r b)):=by unfold ie;rw[mJ _ _ _ ZG (by simp;lia),ZA,List.map_set]
theorem kN(w:N0)(i:Nat)(b:Bool)(h:w[i]?=some b):aq (ie w) (.int (i:Int))=some (.bl b):=by unfold ie;rw[jK];exact ky _ _ _ ZG (by simp[h])
theorem q8(P:D)(s:Sl):∀(ns:XT)(w:N0),(∀r∈ns,r<w.length)->∀t,free (some t)=true->∃t',free (some t')=true/\loop (aD 3) eB (ns.map fun k=>D.int (k:Nat)) [.sh P,.ow (ie w),s,t]=.ok .nx [.sh P,.ow (ie (ns.foldl (fun w r=>w.set r true) w)),s,t']|[],w,_,t,ht=>⟨t,ht,rfl⟩|r::ns,w,h,t,ht=>by have hr:=h r Z2;obtain⟨t',h1,h2⟩:=q8 P s ns (w.set r true) (fun x hx=>by simpa using h x (Z1 _ hx)) (.sh (.int r)) rfl;refine⟨t',h1,?_⟩;have il:isLst (some (ie w))=true:=rfl;rw[ZZ,jM (r':=[.sh P,.ow (ie (w.set r true)),s,.sh (.int r)]) (by simp[bw,eB,ht,il,Bp w r true hr]),h2];rfl
theorem Ai(ls:R4)(wf:Wf ls)(h0:ls≠[])(hl:ls.length<=100):∃w,uc [Pg ls]=.ok (ie w) []/\w.length=ls.length/\∀i,w[i]?=some true<->tF ls i:=by
 rw[uc,eV _ _ _ _ rfl];have hn:=List.length_pos_iff.mpr h0;have c:aS 1 (dk (af 0)) (aD 4) (VP.ret true) dY [.sh (Pg ls),.no,.no,.no]=.ok (ie (List.replicate ls.length false)) [.sh (Pg ls),.no,.no,.no]:=by refine gT PL.d (fun _=>D.bl false) ls (by simp[DI]) ZG (by simp[ie,List.map_const']) fun l hl acc=>?_;simp[dY]
 have ln:=jL ls;have st:=Bp (List.replicate ls.length false) (ls.length-1) true (by simp;lia);rw[show (((ls.length-1:Nat)):Int)=(ls.length:Int)-1 by lia] at st;have il:∀w,isLst (some (ie w))=true:=fun _=>rfl;have dn:DD [.int ((ls.length:Int)-1),.int (-1),.int (-1)]=some ((List.range ls.length).map fun(k:Nat)=>.int ((ls.length:Int)-1-k)):=by
  have d:DD [.int ((ls.length:Int)-1),.int (-1),.int (-1)]=if (-1:Int)=-1/\(-(2 ^ 62)<=(ls.length:Int)-1/\(ls.length:Int)-1<2 ^ 62)/\-(2 ^ 62)<=(-1:Int)/\(-1:Int)<2 ^ 62 then some ((List.range ((ls.length:Int)-1 - -1).toNat).map fun(k:Nat)=>.int ((ls.length:Int)-1-k)) else none:=rfl
  rw[d,ZY ⟨rfl,⟨ZG,ZG⟩,by decide,by decide⟩];rw[show ((ls.length:Int)-1 - -1).toNat=ls.length by lia]
 obtain⟨w,t,⟨hw,h1,h2,h3⟩,ht,L⟩:=cz (g:=aD 2) (body:=cV) (fun(k:Nat)=>D.int ((ls.length:Int)-1-k)) (fun(w:N0)(t:Sl×Sl)=>[.sh (Pg ls),.ow (ie w),t.1,t.2]) j6 (List.range ls.length)
  (fun j w=>w.length=ls.length/\(∀i,w[i]?=some true->tF ls i)/\w[ls.length-1]?=some true/\∀i,ls.length-j<=i->w[i]?=some true->∀l,ls[i]?=some l->∀r∈l.ns,w[r]?=some true)
  ((List.replicate ls.length false).set (ls.length-1) true) (.no,.no) ⟨rfl,rfl⟩ ⟨ZH,fun i h=>by
   by_cases e:ls.length-1=i;subst e;exact .last;rw[Ze e,zB] at h;split at h<;>simp at h,by rw[List.getElem?_set_self (by simp;lia)],fun i hi h l hl=>by
   have:=(List.getElem?_eq_some_iff.mp hl).1;lia⟩ (by
  intro j k hk w t ht hP;obtain⟨rfl,hj⟩:=dz hk;obtain⟨t2,t3⟩:=t;obtain⟨f2,f3⟩:=ht;obtain⟨hw,p1,p2,p3⟩:=hP;dsimp only at f2 f3;have m6:ls.length-1-k<ls.length:=ZG;have ei:((ls.length:Int)-1-k)=((ls.length-1-k:Nat):Int):=ZG;rw[ei];obtain⟨l,hl⟩:∃l,ls[ls.length-1-k]?=some l:=⟨_,Z4 m6⟩;have ix:=Iq ls _ l hl;generalize hi:ls.length-1-k=i at *;obtain⟨b,hb⟩:∃b,w[i]?=some b:=⟨_,Z4 ZG⟩;have bi:=kN w i b hb;cases b with
  |false=>refine⟨w,(.sh (.int i),t3),⟨hw,p1,p2,fun m hm h x hx=>?_⟩,⟨rfl,f3⟩,?_⟩;by_cases e:m=i;subst e;rw[hb] at h;cases h;exact p3 m ZG h x hx;simp[bw,cV,f2,bi]|true=>
   have nb:=fun r hr=>wf i l hl r hr;obtain⟨t',Xg,L⟩:=q8 (Pg ls) (.sh (.int i)) l.ns w (fun r hr=>by have:=nb r hr;lia) t3 f3;have mg:=uB l.ns w;refine⟨l.ns.foldl (fun w r=>w.set r true) w,(.sh (.int i),t'),⟨by rw[(mg 0).1];exact hw,fun m h=>?_,?_,fun m hm h x hx r hr=>?_⟩,⟨rfl,Xg⟩,?_⟩;rcases ((mg m).2.mp h).2 with q|q;exact p1 m q;exact .step (p1 i hb) hl q;exact(mg _).2.mpr ⟨ZG,.inl p2⟩;rcases ((mg m).2.mp h).2 with q|q;by_cases e:m=i;subst e;rw[hl] at hx;cases hx;exact(mg r).2.mpr ⟨by have:=nb r hr;lia,.inr hr⟩;have:=p3 m ZG q x hx r hr;exact(mg r).2.mpr ⟨(List.getElem?_eq_some_iff.mp this).1,.inl this⟩;have:=nb m q;by_cases e:m=i
   lia
   lia
   simp[bw,cV,f2,bi,ix,PL.named,L])
 obtain⟨t2,t3⟩:=t;simp only[List.length_range] at h3;refine⟨w,?_,hw,fun i=>⟨h1 i,fun h=>?_⟩⟩;simp[Bh,c,il,ln,st,dn,L];induction h with|last=>exact h2|step h e hr ih=>exact h3 _ ZG ih _ e _ hr
theorem Xr(k:Nat)(hk:k<32)(js:XT)(hj:∀j∈js,j<32):((js.map fun j=>D.str (nm j)).any fun y=>eqB y (.str (nm k)))=decide (k∈js)/\(js.map fun j=>D.str (nm j)).all jl=true:=by induction js with|nil=>simp|cons j js ih=>obtain⟨h1,h2⟩:=ih fun x hx=>hj x (Z1 _ hx);refine⟨?_,?_⟩;rw[ZZ,M1,h1,Jt _ _ (hj j Z2) hk];by_cases e:j=k;simp[e];have e':¬k=j:=fun z=>e z.symm;simp[e,e'];rw[ZZ,CR,h2];rfl
theorem Kc(k:Nat)(hk:k<32)(js:XT)(hj:∀j∈js,j<32):inD false (.str (nm k)) (.tup (js.map fun j=>D.str (nm j)))=some (.bl (decide (k∈js))):=by obtain⟨h1,h2⟩:=Xr k hk js hj;unfold inD;rw[DG];dsimp only;rw[h2,h1];rfl
def fJ(ls:R4)(i:Nat):PL:=ls.getD i default
def kd(ls:R4)(i:Nat):Nat:=(fJ ls i).k
def sd(ss:Pk)(i:Nat):Pa:=ss.getD i []
def gq(ls:R4)(i:Nat):XT:=(fJ ls i).ns
theorem Cv(ls:R4)(i:Nat):kd ls i<32:=by have:=(fJ ls i).Pd;unfold kd;lia
theorem uv(ls:R4)(i:Nat)(h:i<ls.length):aq (Pg ls) (.int (i:Int))=some (fJ ls i).d:=Iq ls i _ (by simp[fJ,h])
theorem cy(ss:Pk)(i:Nat)(h:i<ss.length):aq (bY ss) (.int (i:Int))=some (T (sd ss i)):=EW ss i _ (by simp[sd,h])
def fK(ls:R4)(w:N0)(p:Nat):XT:=(List.range ls.length).flatMap fun i=>if w.getD i false then((gq ls i).filter (fun r=>decide (r=p))).map fun _=>i else []
theorem zW(ls:R4)(l:PL)(P W:D)(p i:Nat)(acc:D)(t:Sl):aS 1 (dk (ax mX [.val (af 5)])) (aD 6) dZ dU [.sh P,.sh W,.sh (.int p),.ow acc,.sh (.int i),.sh l.d]=.ok (eL ((l.ns.filter fun r=>decide (r=p)).map fun _=>i)) [.sh P,.sh W,.sh (.int p),.ow acc,.sh (.int i),.sh l.d]:=by
 have n:=l.named;have fw:=l.j4;generalize l.ns=ns at n fw ⊢;generalize l.d=ld at n ⊢;refine rP (fun(a:Nat)=>D.int (a:Nat)) (fun r=>decide (r=p)) (fun _=>D.int i) ns aI ZG (by rw[eL,KQ];rfl) (fun a _ acc=>?_) fun a _ _ acc=>?_;have e:b7 (.int (a:Int)) (.int (p:Int))=some (.bl (decide (a=p))):=by rw[gI];congr 3;exact propext Int.ofNat_inj
 dsimp only[List.cons_append,List.nil_append];unfold dZ;exact aI;dsimp only[List.cons_append,List.nil_append];unfold dU;exact aI
theorem rV(ls:R4):jZ (ls.map PL.d)=(List.range ls.length).map fun(i:Nat)=>D.tup [.int i,(fJ ls i).d]:=by
 rw[qH];refine vz ZH fun i h1 h2=>?_;have h:i<ls.length:=by simpa using h2
 simp[h,fJ]
theorem zO(ls:R4)(w:N0)(p:Nat)(hw:w.length=ls.length)(hl:ls.length<=100):xN [Pg ls,ie w,.int p]=.ok (eL (fK ls w p)) []:=by
 rw[xN,eV _ _ _ _ rfl];have en:kR [Pg ls]=some ((List.range ls.length).map fun(i:Nat)=>D.tup [.int i,(fJ ls i).d]):=by unfold Pg;rw[qG,rV]
 let f:=fun(i:Nat)=>if w.getD i false then((gq ls i).filter (fun r=>decide (r=p))).map fun _=>i else []
 obtain⟨_,t,_,L⟩:=iG (g:=cW [4,5]) (body:=cU) (fun(i:Nat)=>D.tup [.int i,(fJ ls i).d]) (fun(s:XT)(t:Sl×Sl)=>[.sh (Pg ls),.sh (ie w),.sh (.int p),.ow (eL s),t.1,t.2]) j6
  (fun k s=>s.length<=3*k) (fun s i=>s++f i) (List.range ls.length) [] (.no,.no) ⟨rfl,rfl⟩ ZH (by
  intro j i hi s t ht hP;obtain⟨t4,t5⟩:=t;obtain⟨f4,f5⟩:=ht;dsimp only at f4 f5;obtain⟨rfl,hi⟩:=dz hi;obtain⟨b,hb⟩:∃b,w[i]?=some b:=⟨_,Z4 ZG⟩;have hg:w.getD i false=b:=by simp[hb]
  have bi:=kN w i b hb;have il:isLst (some (eL s))=true:=rfl;have fw:=(fJ ls i).j4;cases b with
  |false=>
   have e:f i=[]:=by simp[f,hb]
   refine⟨by rw[e];simp;lia,(.sh (.int i),.sh (fJ ls i).d),⟨rfl,rfl⟩,?_⟩;rw[e];generalize (fJ ls i).d=ld;simp[bw,cU,f4,f5,bi]
  |true=>
   have e:f i=(((fJ ls i).ns.filter (fun r=>decide (r=p))).map fun _=>i):=by simp[f,hb,gq]
   have pc:=zW ls (fJ ls i) (Pg ls) (ie w) p i (eL s) .no;rw[<-e] at pc;have le:(f i).length<=3:=by rw[e,Zf];exact Zw (JF _ _) fw
   have ex:vJ (eL (f i)) (eL s)=some (eL (s++f i)):=by unfold eL;rw[EF _ _ (by simp[iS];lia),Uh]
   refine⟨by simp;lia,(.sh (.int i),.sh (fJ ls i).d),⟨rfl,rfl⟩,?_⟩;generalize (fJ ls i).d=ld at *;generalize f i=fi at *;simp[bw,cU,f4,f5,bi,pc,il,ex])
 have e:(List.range ls.length).foldl (fun s i=>s++f i) []=fK ls w p:=by
  have g:∀(xs:XT)(a:XT),xs.foldl (fun s i=>s++f i) a=a++xs.flatMap f:=by intro xs;induction xs with|nil=>intro a;simp|cons x xs ih=>intro a;simp[ih]
  rw[g];rfl
 rw[e] at L;have l0:D.lst []=eL []:=rfl;simp[A1,l0,en,L]
def K4:XT:=[0,12,13,14]
def S3:XT:=[6,10,11]
def H2:XT:=[7,14]
def II(ls:R4)(ss:Pk)(i p:Nat):Bool:=decide (kd ls i∈S3)&&!decide (sd ss i=sd ss p)
def kZ(ls:R4)(ss:Pk)(p:Nat)(ms:XT):Bool:=decide (p=ls.length-1)||decide (kd ls p∈K4)||ms.any (fun i=>decide (kd ls i∈H2))||(!decide (kd ls p=1)&&(decide (1<ms.length)||ms.any fun i=>II ls ss i p))
theorem wK(ls:R4)(ss:Pk)(i p:Nat)(hi:i<ls.length)(hp:p<ls.length)(hs:ss.length=ls.length):xW [Pg ls,bY ss,.int i,.int p]=.ok (.bl (II ls ss i p)) []:=by rw[xW,eV _ _ _ _ rfl];have ix:=uv ls i hi;have kk:=PL.kind (fJ ls i);have kl:=Cv ls i;have ik:inD false (.str (nm (kd ls i))) (.tup [.str (nm 6),.str (nm 10),.str (nm 11)])=some (.bl (decide (kd ls i∈S3))):=Kc (kd ls i) kl S3 (by simp[S3]);have s1:=cy ss i ZG;have s2:=cy ss p ZG;have e:(fJ ls i).k=kd ls i:=rfl;rw[e] at kk;generalize (fJ ls i).d=ld at *;unfold II;by_cases h:kd ls i∈S3;rw[Y9 h] at ik;simp[xq,ix,kk,ik,s1,s2,h];rw[Z0 h] at ik;simp[xq,ix,kk,ik,h]
theorem vS(ls:R4)(ss:Pk)(p:Nat)(ms:XT)(hp:p<ls.length)(hs:ss.length=ls.length)(hm:∀i∈ms,i<ls.length)(hl:ms.length<=1000):xH [Pg ls,bY ss,.int p,eL ms]=.ok (.bl (kZ ls ss p ms)) []:=by
 have ix:=uv ls p hp;have kk:=PL.kind (fJ ls p);have kl:=Cv ls p;have e:(fJ ls p).k=kd ls p:=rfl;rw[e] at kk;have i4:inD false (.str (nm (kd ls p))) (.tup [.str (nm 0),.str (nm 12),.str (nm 13),.str (nm 14)])=some (.bl (decide (kd ls p∈K4))):=Kc (kd ls p) kl K4 (by simp[K4]);have ln:=jL ls;have c1:aS 1 (dk (af 3)) (aD 5) (VP.ret true) iu [.sh (Pg ls),.sh (bY ss),.sh (.int p),.sh (eL ms),.sh (.str (nm (kd ls p)))]=.ok (.lst (ms.map fun i=>D.bl (decide (kd ls i∈H2)))) [.sh (Pg ls),.sh (bY ss),.sh (.int p),.sh (eL ms),.sh (.str (nm (kd ls p)))]:=by refine gT (fun(i:Nat)=>D.int i) (fun i=>D.bl (decide (kd ls i∈H2))) ms rfl ZG rfl fun i hi acc=>?_;have YK:=uv ls i (hm i hi);have Xw:=PL.kind (fJ ls i);have ei:(fJ ls i).k=kd ls i:=rfl;rw[ei] at Xw;have ik:inD false (.str (nm (kd ls i))) (.tup [.str (nm 7),.str (nm 14)])=some (.bl (decide (kd ls i∈H2))):=Kc (kd ls i) (Cv ls i) H2 (by simp[H2]);generalize (fJ ls i).d=ld at *;dsimp only[List.cons_append,List.nil_append];unfold iu;exact aI
 have c2:aS 1 (dk (af 3)) (aD 5) (VP.ret true) iw [.sh (Pg ls),.sh (bY ss),.sh (.int p),.sh (eL ms),.sh (.str (nm (kd ls p)))]=.ok (.lst (ms.map fun i=>D.bl (II ls ss i p))) [.sh (Pg ls),.sh (bY ss),.sh (.int p),.sh (eL ms),.sh (.str (nm (kd ls p)))]:=by refine gT (fun(i:Nat)=>D.int i) (fun i=>D.bl (II ls ss i p)) ms rfl ZG rfl fun i hi acc=>?_;have:=wK ls ss i p (hm i hi) hp hs;dsimp only[List.cons_append,List.nil_append];unfold iw;exact aI
 have a1:=Ax (fun i=>decide (kd ls i∈H2)) ms;have a2:=Ax (fun i=>II ls ss i p) ms;have e1:=HQ (kd ls p) 1 kl ZG;have lm:bB (eL ms)=some (.int ms.length):=by simp[eL]
 generalize (fJ ls p).d=ld at *;generalize D.lst (ms.map fun i=>D.bl (decide (kd ls i∈H2)))=L1 at *;generalize D.lst (ms.map fun i=>D.bl (II ls ss i p))=L2 at *;generalize eL ms=N at *;generalize Pg ls=Pl at *;generalize bY ss=Sl at *;have g1:B4 (.int (ms.length:Int)) (.int 1)=some (.bl (decide (1<ms.length))):=by rw[B5];congr 3;exact propext ZG
 have g2:b7 (.int (p:Int)) (.int ((ls.length:Int)-1))=some (.bl (decide (p=ls.length-1))):=by rw[gI];congr 3;exact propext ZG
 unfold kZ xH AK;generalize decide (p=ls.length-1)=b1 at *;generalize decide (kd ls p∈K4)=b2 at *;generalize decide (kd ls p=1)=b3 at *;generalize decide (1<ms.length)=b4 at *;generalize ms.any (fun i=>decide (kd ls i∈H2))=b5 at *;generalize ms.any (fun i=>II ls ss i p)=b6 at *;cases b1;cases b2;cases b5;cases b3;cases b4;cases b6<;>exact rn;exact rn;exact rn;exact rn;exact rn;exact rn
def qX(ls:R4)(ss:Pk)(w:N0):N0:=(List.range ls.length).map fun p=>w.getD p false&&kZ ls ss p (fK ls w p)
theorem o6(ls:R4)(w:N0)(p i:Nat):i∈fK ls w p<->i<ls.length/\w.getD i false=true/\p∈gq ls i:=by
 unfold fK;rw[List.mem_flatMap];constructor;rintro⟨j,hj,h⟩;rw[List.mem_range] at hj;by_cases q:w.getD j false=true;rw[ZY q] at h;obtain⟨r,hr,e⟩:=List.mem_map.mp h;subst e;rw[List.mem_filter] at hr;have:r=p:=by simpa using hr.2
 subst this;exact⟨hj,q,hr.1⟩;rw[Za q] at h;simp at h;rintro⟨h1,h2,h3⟩;refine⟨i,List.mem_range.mpr h1,?_⟩;rw[ZY h2];exact List.mem_map.mpr ⟨p,List.mem_filter.mpr ⟨h3,ZH⟩,rfl⟩
theorem wb(ls:R4)(w:N0)(p:Nat):(fK ls w p).length<=3*ls.length:=by
 unfold fK;generalize ls.length=n;induction n with
 |zero=>simp|succ n ih=>
  rw[List.range_succ,List.flatMap_append,Zq];have:([n].flatMap fun i=>if w.getD i false then((gq ls i).filter (fun r=>decide (r=p))).map fun _=>i else []).length<=3:=by rw[List.flatMap_cons,List.flatMap_nil,Fj];split;rw[Zf];exact Zw (JF _ _) (fJ ls n).j4;simp
  lia
theorem qf(ls:R4)(ss:Pk)(wf:Wf ls)(h0:ls≠[])(hl:ls.length<=100)(hs:ss.length=ls.length):∃w,uc [Pg ls]=.ok (ie w) []/\w.length=ls.length/\(∀i,w[i]?=some true<->tF ls i)/\tY [Pg ls,bY ss]=.ok (ie (qX ls ss w)) []:=by
 obtain⟨w,h1,h2,h3⟩:=Ai ls wf h0 hl;refine⟨w,h1,h2,h3,?_⟩;rw[tY,eV _ _ _ _ rfl];have en:kR [Pg ls]=some ((List.range ls.length).map fun(i:Nat)=>D.tup [.int i,(fJ ls i).d]):=by unfold Pg;rw[qG,rV]
 let f:=fun p=>w.getD p false&&kZ ls ss p (fK ls w p);obtain⟨_,t,_,L⟩:=iG (g:=cW [4,5]) (body:=dA) (fun(i:Nat)=>D.tup [.int i,(fJ ls i).d]) (fun(s:N0)(t:Sl×Sl)=>[.sh (Pg ls),.sh (bY ss),.sh (ie w),.ow (ie s),t.1,t.2]) j6
  (fun k s=>s.length=k) (fun s i=>s++[f i]) (List.range ls.length) [] (.no,.no) ⟨rfl,rfl⟩ rfl (by
  intro j i hi s t ht hP;obtain⟨t4,t5⟩:=t;obtain⟨f4,f5⟩:=ht;dsimp only at f4 f5;obtain⟨rfl,hi⟩:=dz hi;obtain⟨b,hb⟩:∃b,w[i]?=some b:=⟨_,Z4 ZG⟩;have hg:w.getD i false=b:=by simp[hb]
  have bi:=kN w i b hb;have il:isLst (some (ie s))=true:=rfl;have nl:=wb ls w i;have na:=zO ls w i h2 hl;have ik:=vS ls ss i (fK ls w i) hi hs (fun m hm=>((o6 ls w i m).mp hm).1) ZG;have ap:gb (.bl (f i)) (ie s)=some (ie (s++[f i])):=by unfold ie;rw[ip _ _ (by simp;lia),Uh];rfl
  refine⟨by simp[hP],(.sh (.int i),.sh (fJ ls i).d),⟨rfl,rfl⟩,?_⟩;generalize (fJ ls i).d=ld at *;cases b with
  |false=>
   have e:f i=false:=by simp only[f,hg,Bool.false_and]
   rw[e] at ap ⊢;simp[bw,dA,f4,f5,bi,il,ap]
  |true=>
   have e:f i=kZ ls ss i (fK ls w i):=by simp only[f,hg,Bool.true_and]
   rw[e] at ap ⊢;simp[bw,dA,f4,f5,bi,na,ik,il,ap])
 have e:(List.range ls.length).foldl (fun s i=>s++[f i]) []=qX ls ss w:=by
  have g:∀(xs:XT)(a:N0),xs.foldl (fun s i=>s++[f i]) a=a++xs.map f:=by intro xs;induction xs with|nil=>intro a;simp|cons x xs ih=>intro a;simp[ih]
  rw[g];rfl
 rw[e] at L;have l0:D.lst []=ie []:=rfl;obtain⟨t4,t5⟩:=t;unfold AN;simp only[nz,pM,uT,IG,if_neg (show ¬(false=true) by decide)];rw[oa,show aN 2 _ _=.ok .nx [.sh (Pg ls),.sh (bY ss),.sh (ie w),.no,.no,.no] by simp[h1],wH];rw[oa,show fU 3 _ _=.ok .nx [.sh (Pg ls),.sh (bY ss),.sh (ie w),.ow (ie []),.no,.no] by simp[l0],wH];rw[oa,show fE _ _ _ _=.ok .nx [.sh (Pg ls),.sh (bY ss),.sh (ie w),.ow (ie (qX ls ss w)),t4,t5] by simp[en,L,-List.map_map],wH];simp
theorem meet_comm(one other:Pa):meet one other=meet other one:=by
 have e:pairs other one=(pairs one other).map fun p=>(p.2,p.1):=by unfold pairs;rw[Nat.max_comm];simp
 unfold meet;rw[e];have h1:∀x y,pj y x=pj x y:=fun x y=>by unfold pj;grind
 have h2:∀x y,pj x y=true->pk y x=pk x y:=fun x y=>by unfold pj pk;grind
 simp only[List.all_map,List.map_map,Function.comp_def,h1];split;rename_i q;congr 2;refine List.map_congr_left fun p hp=>(h2 _ _ ?_).symm;exact List.all_eq_true.mp q p hp;rfl
theorem meet_self(S:Pa):meet S S=some S:=by
 have z:=jV S S;rw[Nat.max_self] at z;have e:ahead S S.length=S:=by simp[ahead]
 rw[e] at z;have a:(pairs S S).all (fun p=>pj p.1 p.2)=true:=by
  rw[<-Mb,<-z];refine List.all_eq_true.mpr fun p hp=>?_;have:p.1=p.2:=by obtain⟨i,hi,rfl⟩:=List.mem_iff_getElem.mp hp;simp
  simp[pj,this]
 unfold meet;rw[ZY a,<-zv,<-z];congr 1;refine vz ZH fun i h1 h2=>?_;simp[pk]
theorem yc:∀(a t:Pa),a.length=t.length->(((a.zip t).all (fun p=>pj p.1 p.2)=true/\(a.zip t).map (fun p=>pk p.1 p.2)=t)<->∀i<t.length,a.getD i 0=1\/a.getD i 0=t.getD i 0)
|[],[],_=>ZH|x::a,y::t,h=>by
 have ih:=yc a t (by simpa using h);simp only[List.zip_cons_cons,List.all_cons,List.map_cons,Bool.and_eq_true,List.cons.injEq];constructor;rintro⟨⟨h1,h2⟩,h3,h4⟩ i hi;cases i with|zero=>simp only[List.getD_cons_zero];unfold pk at h3;split at h3;exact .inl ‹_›;exact .inr h3|succ i=>simp only[List.getD_cons_succ];exact ih.mp ⟨h2,h4⟩ i (by simpa using hi)
 intro k;have k0:=k 0 ZH;simp only[List.getD_cons_zero] at k0;have:=ih.mpr fun i hi=>by have:=k (i+1) (by simpa using hi);simpa only[List.getD_cons_succ] using this
 refine⟨⟨?_,this.1⟩,?_,this.2⟩;unfold pj;rcases k0 with h|h<;>simp[h];unfold pk;split;rfl;rcases k0 with h|h;contradiction;exact h
theorem y4(s:Pa)(n i:Nat)(h:s.length<=n)(hi:i<n):(ahead s n).getD i 0=if i<n-s.length then 1 else s.getD (i-(n-s.length)) 0:=by unfold ahead;by_cases c:i<n-s.length;rw[ZY c,Z5,Z7 (by simpa using c)];simp[c];rw[Za c,Z5,Zc (by simp;lia),Z5];simp
theorem nq(s t:Pa)(h:s.length<=t.length)(k:∀k<s.length,s.getD k 0=1\/s.getD k 0=t.getD (t.length-s.length+k) 0):meet s t=some t:=by
 have z:=jV s t;have e:max s.length t.length=t.length:=ZG;rw[e] at z;have ht:ahead t t.length=t:=by simp[ahead]
 rw[ht] at z;have f:=yc (ahead s t.length) t (by rw[lO _ _ h]);rw[z,Mb,zv] at f;obtain⟨q1,q2⟩:=f.mpr fun i hi=>by rw[y4 s _ _ h hi];split;exact .inl rfl;have:=k (i-(t.length-s.length)) ZG;rwa [show t.length-s.length+(i-(t.length-s.length))=i by lia] at this
 unfold meet;rw[ZY q1,q2]
def gM(n tn:Nat):Pa:=(List.range n).map fun(k:Nat)=>((k:Int)+tn) % n
def sE(n:Nat)(o:Pa):Bool:=(decide ((nP n).Pairwise (·<=·))&&(nP n).isPerm o)&&(decide (o.length=n)&&(List.range n).all fun(j:Nat)=>o.contains (j:Int))
theorem DR:(List.range 5).all (fun n=>(List.range 4).all fun tn=>decide (max 1 n<=tn)||(sE n (gM n tn)&&sE n (gM n tn).reverse))=true:=by decide +kernel
theorem yS(n tn:Nat)(hn:n<=4)(ht:tn<max 1 n)(b:Bool):sortI (if b then(gM n tn).reverse else gM n tn)=nP n/\(if b then(gM n tn).reverse else gM n tn).length=n/\∀j:Nat,j<n->(j:Int)∈(if b then(gM n tn).reverse else gM n tn):=by
 have h:=List.all_eq_true.mp (List.all_eq_true.mp DR n (by simp;lia)) tn (by simp;lia);have h2:decide (max 1 n<=tn)=false:=by simp;lia
 rw[h2,Bool.false_or,Zb] at h;have key:∀o:Pa,sE n o=true->sortI o=nP n/\o.length=n/\∀j:Nat,j<n->(j:Int)∈o:=fun o q=>by simp only[sE,Bool.and_eq_true,decide_eq_true_eq,List.all_eq_true] at q;exact⟨(uY (List.isPerm_iff.mp q.1.2) q.1.1).symm,q.2.1,fun j hj=>by simpa using q.2.2 j (by simpa using hj)⟩
 cases b;exact key _ h.1;exact key _ h.2
theorem Dm(s:Pa):a8 s.reverse=a8 s:=by induction s with|nil=>rfl|cons x s ih=>rw[LF,uL,ih];simp only[a8];rw[Int.mul_one,Int.mul_comm]
def Told(n:Nat)(G S:Nat->Pa):PL->Pa->Prop|.given j,t=>∃k:Nat,j=k/\k<n/\t=G k|.gE s x,t=>t=s/\Rt x|.turn a o,t=>sortI o=nP (S a).length/\o.length=(S a).length/\t=o.map fun x=>(S a).getD x.toNat 0|.cut a k b st m,t=>∃j:Nat,k=j/\j<(S a).length/\(st≠0/\-3<=st/\st<=3)/\0<=m/\(0<m->(0<=b/\b<(S a).getD j 0)/\0<=b+st*(m-1)/\b+st*(m-1)<(S a).getD j 0)/\t=rep (S a) j m|.drop a k p,t=>∃j:Nat,k=j/\j<(S a).length/\(0<=p/\p<(S a).getD j 0)/\t=wo (S a) j|.wide a k,t=>∃j:Nat,k=j/\j<=(S a).length/\t=pin (S a) j 1|.spread a u,t=>meet (S a) u=some u/\t=u|.shape a u,t=>a8 (S a)=a8 u/\t=u|.shift a k _ x,t=>∃j:Nat,k=j/\j<(S a).length/\Rt x/\t=S a|.one d a,t=>(16<=d/\d<=18)/\t=S a|.both d a b,t=>(19<=d/\d<=25)/\meet (S a) (S b)=some t|.cX a b c,t=>∃u,meet (S a) (S b)=some u/\meet u (S c)=some t|.fold d a k,t=>∃j:Nat,k=j/\j<(S a).length/\d∈[19,21,22,23]/\((S a).getD j 0=0->d≠22/\d≠23)/\t=wo (S a) j|.run d a k,t=>∃j:Nat,k=j/\j<(S a).length/\d∈[19,21,22,23]/\t=S a|.pick a k b,t=>∃(j:Nat)(y:Int),k=j/\j<(S a).length/\S b=[y]/\t=rep (S a) j y|.join a b k,t=>∃j:Nat,k=j/\j<(S a).length/\(S a).length=(S b).length/\wo (S a) j=wo (S b) j/\t=rep (S a) j ((S a).getD j 0+(S b).getD j 0)
theorem Told.mono{n:Nat}{G S S':Nat->Pa}{l:PL}{t:Pa}(h:Told n G S l t)(e:∀a∈l.ns,S' a=S a):Told n G S' l t:=by cases l<;>simp only[PL.ns,List.mem_cons,List.not_mem_nil,or_false,forall_eq_or_imp,forall_eq] at e<;>simp only[Told] at h ⊢<;>first|exact h|simpa only[e] using h
theorem Told.nD{n:Nat}{G S:Nat->Pa}{l:PL}{t:Pa}(h:Told n G S l t):l.nD:=by
 cases l<;>simp only[Told,PL.nD] at h ⊢
 lia
 lia
 obtain⟨_,_,_,h,_⟩:=h;simp at h;lia;obtain⟨_,_,_,h,_⟩:=h;simp at h;lia
def SI(s:Pa):Prop:=s.length<=4/\(∀x∈s,0<=x/\x<=24)/\a8 s<=27
def Pre(s:Pa):Prop:=s.length<=9/\∀x∈s,0<=x/\x<=100
theorem SI.pre{s:Pa}(h:SI s):Pre s:=⟨by have:=h.1;lia,fun x hx=>by have:=h.2.1 x hx;lia⟩
theorem SI.get{s:Pa}(h:SI s)(k:Nat):0<=s.getD k 0/\s.getD k 0<=24:=by by_cases hk:k<s.length;have:=h.2.1 s[k] (BA hk);simpa[hk] using this;rw[Z5,Z9 ZG];simp
theorem SI.Qs{s:Pa}(h:SI s):0<=a8 s:=(yI s fun x hx=>by have:=h.2.1 x hx;lia).1
theorem qF(s:Pa)(k:Nat)(hk:k<=s.length):d6 (T s) none (some (k:Int))=some (T (s.take k)):=by have:d6 (T s) none (some (k:Int))=some (.tup (cutD (s.map .int) none (some (k:Int)))):=rfl;rw[this,cutD,Zf,lA _ _ _ hk,jx];simp[T]
theorem qE(s:Pa)(k:Nat)(hk:k<=s.length):d6 (T s) (some (k:Int)) none=some (T (s.drop k)):=by have:d6 (T s) (some (k:Int)) none=some (.tup (cutD (s.map .int) (some (k:Int)) none)):=rfl;rw[this,cutD,Zf,lA _ _ _ hk,jx,zQ ZH];simp[T]
theorem Bu(s:Pa)(h:Pre s):tZ [T s]=.ok (.int (a8 s)) []:=by rw[tZ,eV _ _ _ _ rfl];obtain⟨_,t,_,L⟩:=iG (g:=aD 2) (body:=iH) D.int (fun(p:Int)(t:Sl)=>[.sh (T s),.sh (.int p),t]) qR (fun _ _=>True) (fun p x=>p*x) s 1 .no rfl trivial (by intro i x hx p t ht _;have hm:=h.2 x (Z3 hx);have hf:free (some t)=true:=ht;refine⟨trivial,.sh (.int x),rfl,?_⟩;simp[bw,iH,hf,gp p x ZG ZG]);rw[kE,Int.one_mul] at L;simp[AO,L]
inductive gG{A B:Type}(P:A->B->Prop):List A->List B->Prop where
 |nil:gG P [] []|cons {a:A} {b:B} {as:List A} {bs:List B} (h:P a b) (t:gG P as bs):gG P (a::as) (b::bs)
theorem gG.len{A B:Type}{P:A->B->Prop}:∀{as:List A}{bs:List B},gG P as bs->as.length=bs.length|_,_,.nil=>rfl|_,_,.cons _ t=>by simp[gG.len t]
theorem gG.right{A B:Type}{P:A->B->Prop}:∀{as:List A}{bs:List B},gG P as bs->∀b∈bs,∃a∈as,P a b|_,_,.cons (a:=a) h t,b,hb=>by rcases List.mem_cons.mp hb with rfl|hb;exact⟨a,Z2,h⟩;obtain⟨a',h1,h2⟩:=gG.right t b hb;exact⟨a',Z1 _ h1,h2⟩
theorem lS{A:Type}{it:M (List D)}{elt:M D}{k:Nat}{r0:aQ}(mk:A->D)(R:Nat->aQ)(P:A->Int->Prop)(as:List A)(p:Nat)(Nv:∀q,(R q).length=k)(oQ:it r0=.ok (as.map mk) (R p))(hL:as.length<=1000)
  (he:∀a∈as,∀q,∃q' b,P a b/\∀acc,elt (R q++[.sh (mk a),.ow acc])=.ok (.int b) (R q'++[.sh (mk a),.ow acc])) :
  ∃q' bs,aS 1 it (aD k) (ret true) elt r0=.ok (Z bs) (R q')/\gG P as bs:=by
 have ch:∀(a:A)(q:Nat),∃z:Nat×Int,a∈as->P a z.2/\∀acc,elt (R q++[.sh (mk a),.ow acc])=.ok (.int z.2) (R z.1++[.sh (mk a),.ow acc]):=fun a q=>by by_cases h:a∈as;obtain⟨q',b,h1,h2⟩:=he a h q;exact⟨(q',b),fun _=>⟨h1,h2⟩⟩;exact⟨(0,0),fun z=>absurd z h⟩
 let F:=fun a q=>Classical.choose (ch a q);have hF:∀a q,a∈as->P a (F a q).2/\∀acc,elt (R q++[.sh (mk a),.ow acc])=.ok (.int (F a q).2) (R (F a q).1++[.sh (mk a),.ow acc]):=fun a q=>Classical.choose_spec (ch a q);have h:=(HL (elt:=elt) mk R (fun _ _=>True) (fun q a=>(F a q).1) (fun q a=>.int (F a q).2) as p Nv oQ ZG trivial (fun i a ha q acc _=>⟨trivial,(hF a q (Z3 ha)).2 acc⟩)).1;have em:∀(as:List A)(s:Nat),outs (fun q a=>(F a q).1) (fun q a=>D.int (F a q).2) s as=(outs (fun q a=>(F a q).1) (fun q a=>(F a q).2) s as).map D.int:=by intro as;induction as with|nil=>intro s;rfl|cons a as ih=>intro s;simp[outs,ih]
 have ea:∀(bs:List A)(s:Nat),(∀a∈bs,a∈as)->gG P bs (outs (fun q a=>(F a q).1) (fun q a=>(F a q).2) s bs):=by intro bs;induction bs with|nil=>intro s _;exact .nil|cons a bs ih=>intro s hb;exact .cons (hF a s (hb a Z2)).1 (ih _ fun x hx=>hb x (Z1 _ hx))
 rw[em] at h;exact⟨_,_,h,ea as p fun a h=>h⟩
theorem gG.Ow{P:Int->Int->Prop}:∀{as bs:Pa},gG P as bs->∀k<as.length,P (as.getD k 0) (bs.getD k 0)|_,_,.cons h _,0,_=>h|_,_,.cons _ t,k+1,hk=>by simpa only[List.getD_cons_succ] using gG.Ow t k (by simpa using hk)
theorem drawn(ns:Pa)(q n:Nat)(h:0<n):∃b:Nat,bu [Row ns q,.int n]=.ok (.int b) [Row ns (q+1)]/\b<n:=by have t:=pP ns q n ZG;have r1:0<=cell ns q % (n:Int):=Int.emod_nonneg _ ZG;have r2:cell ns q % (n:Int)<n:=Ms _ ZG;refine⟨(cell ns q % (n:Int)).toNat,?_,ZG⟩;rwa [show ((cell ns q % (n:Int)).toNat:Int)=cell ns q % (n:Int) by lia]
theorem bN(ns:Pa)(q:Nat)(n:Int)(h:0<n):∃b:Int,bu [Row ns q,.int n]=.ok (.int b) [Row ns (q+1)]/\0<=b/\b<n:=⟨_,pP ns q n h,Int.emod_nonneg _ ZG,Ms _ h⟩
theorem qj(n:Nat)(h:n<=1000):qi [.int (n:Int)]=some ((List.range n).map fun(k:Nat)=>.int k):=ly _ _ ZG ZG ZG
theorem Q3(ns:Pa)(q a:Nat)(s:Pa)(hs:SI s):∃(o:Pa)(q':Nat),gJ [Row ns q,.int a,T s,.int 0]=.ok (.tup [.tup [.str (nm 2),.int a,T o],T (o.map fun x=>s.getD x.toNat 0)]) [Row ns q']/\sortI o=nP s.length/\o.length=s.length:=by
 have hl:=hs.1;obtain⟨N,hN⟩:∃N:Nat,N=max 1 s.length:=⟨_,rfl⟩;obtain⟨tn,tm,Xh⟩:=drawn ns q N ZG;have mx:maxD [.int 1,.int (s.length:Int)]=some (.int (N:Int)):=by rw[sy];congr 2;lia
 have er:=qj s.length ZG;have hc:aS 1 (cJ [(af 4)]) (aD 10) (VP.ret true) jg [.io (Row ns (q+1)),.sh (.int a),.sh (T s),.sh (.int 0),.sh (.int s.length),.sh (.int tn),.no,.no,.no,.no]=.ok (Z (gM s.length tn)) [.io (Row ns (q+1)),.sh (.int a),.sh (T s),.sh (.int 0),.sh (.int s.length),.sh (.int tn),.no,.no,.no,.no]:=by refine gT (fun(k:Nat)=>D.int k) (fun k=>D.int (((k:Int)+tn) % s.length)) (List.range s.length) aI (by simp;lia) (by simp[Z,gM,Function.comp_def]) fun k hk acc=>?_;have yk:=List.mem_range.mp hk;have md:=hJ ((k:Int)+tn) s.length ZG;unfold jg;exact aI
 have yj:∀o:Pa,sortI o=nP s.length->o.length=s.length->aS 1 (dk (af 6)) (aD 10) (VP.ret true) jh [.io (Row ns (q+2)),.sh (.int a),.sh (T s),.sh (.int 0),.sh (.int s.length),.sh (.int tn),.sh (Z o),.no,.no,.no]=.ok (Z (o.map fun x=>s.getD x.toNat 0)) [.io (Row ns (q+2)),.sh (.int a),.sh (T s),.sh (.int 0),.sh (.int s.length),.sh (.int tn),.sh (Z o),.no,.no,.no]:=fun o ho RW=>by refine gT D.int (fun x=>D.int (s.getD x.toNat 0)) o aI ZG (by simp[Z,Function.comp_def]) fun x hx acc=>?_;obtain⟨j,rfl,hj⟩:=mK ho hx;have ix:aq (T s) (.int j)=some (.int (s.getD (j:Int).toNat 0)):=fS s j ZG ZG;unfold jh;exact aI
 obtain⟨b,t2,_,_⟩:=bN ns (q+1) 2 ZG;by_cases c:b=1;obtain⟨o1,o2,_⟩:=yS s.length tn hl ZG true;simp only[if_true] at o1 o2;have h2:=yj _ o1 o2;have rv:DC (Z (gM s.length tn))=some (Z (gM s.length tn).reverse):=by simp[Z,DC]
 generalize gM s.length tn=o at *;refine⟨o.reverse,q+2,?_,o1,o2⟩;unfold gJ mV;exact rn;obtain⟨o1,o2,_⟩:=yS s.length tn hl ZG false;simp only[Bool.false_eq_true,if_false] at o1 o2;have h2:=yj _ o1 o2;generalize gM s.length tn=o at *;refine⟨o,q+2,?_,o1,o2⟩;unfold gJ mV;exact rn
theorem Q4(ns:Pa)(q a:Nat)(s:Pa)(hs:SI s):∃(k q':Nat),gJ [Row ns q,.int a,T s,.int 1]=.ok (.tup [.tup [.str (nm 5),.int a,.int k],T (pin s k 1)]) [Row ns q']/\k<=s.length:=by have hl:=hs.1;obtain⟨k,tm,hk⟩:=drawn ns q (s.length+1) ZG;rw[show ((s.length+1:Nat):Int)=(s.length:Int)+1 by lia] at tm;have c1:=qF s k ZG;have c2:=qE s k ZG;have a1:aY (T (s.take k)) (.tup [.int 1])=_:=eN (s.take k) [1] (by simp[iS];lia);have a2:=eN (s.take k++[1]) (s.drop k) (by simp[iS];lia);rw[show s.take k++[1]++s.drop k=pin s k 1 by simp[pin]] at a2;exact⟨k,q+1,by unfold gJ mV;exact rn,ZG⟩
theorem Q5(ns:Pa)(q a:Nat)(s:Pa)(hs:SI s):∃(u:Pa)(q':Nat),gJ [Row ns q,.int a,T s,.int 2]=.ok (.tup [.tup [.str (nm 6),.int a,T u],T u]) [Row ns q']/\meet s u=some u/\Pre u:=by
 have hl:=hs.1;have t4:=fun q=>pP ns q 4 ZG;obtain⟨q1,ys,hc,he⟩:=lS (it:=dk (af 2)) (elt:=ji) (k:=10) (r0:=[.io (Row ns q),.sh (.int a),.sh (T s),.sh (.int 2),.sh (.int s.length),.no,.no,.no,.no,.no]) D.int (fun q=>[.io (Row ns q),.sh (.int a),.sh (T s),.sh (.int 2),.sh (.int s.length),.no,.no,.no,.no,.no]) (fun x y=>(0<=y/\y<=24)/\(x=1\/x=y)) s q (fun _=>rfl) aI ZG (fun x hx q'=>by
  obtain⟨y,tt,_,_⟩:=bN ns q' 4 ZG;have hb:=hs.2.1 x hx;have i0:aq (.lst [.int x,.int y]) (.int (if x=1 then 1 else 0))=some (.int (if x=1 then y else x)):=by split<;>rfl
  have ii:intD [.bl (decide (x=1))]=some (.int (if x=1 then 1 else 0)):=by rw[yp];simp
  refine⟨q'+1,if x=1 then y else x,by split<;>lia,fun acc=>?_⟩;unfold ji;exact aI)
 have hy:∀y∈ys,0<=y/\y<=24:=fun y hy=>by obtain⟨_,_,h⟩:=he.right y hy;exact h.1
 have yl:=he.len;have hg:=fun k (hk:k<s.length)=>(he.Ow k hk).2;obtain⟨b,tt,_,_⟩:=bN ns q1 2 ZG;by_cases c:b=1;obtain⟨v,t5,v0,v4⟩:=bN ns (q1+1) 4 ZG;have ad:aY (.tup [.int v]) (T ys)=some (T (v::ys)):=eN [v] ys (by simp[iS];lia);refine⟨v::ys,q1+2,by unfold gJ mV;exact rn,nq _ _ (by simp;lia) fun k hk=>?_,by simp;lia,fun x hx=>?_⟩;rw[show (v::ys).length-s.length+k=k+1 by simp;lia,List.getD_cons_succ];exact hg k hk;rcases List.mem_cons.mp hx with rfl|hx
 lia
 have:=hy x hx;lia;refine⟨ys,q1+1,by unfold gJ mV;exact rn,nq _ _ ZG fun k hk=>?_,ZG,fun x hx=>by have:=hy x hx;lia⟩;rw[show ys.length-s.length+k=k by lia];exact hg k hk
theorem Q6(ns:Pa)(q a:Nat)(s:Pa)(hs:SI s):∃(u:Pa)(q':Nat),gJ [Row ns q,.int a,T s,.int 3]=.ok (.tup [.tup [.str (nm 7),.int a,T u],T u]) [Row ns q']/\a8 s=a8 u/\Pre u:=by
 have hl:=hs.1;have cl:=Bu s hs.pre;have h0:=hs.Qs;have YG:=hs.2.2;obtain⟨c,tt,_,_⟩:=bN ns q 4 ZG;have rv:qh (T s)=some (T s.reverse):=by simp[T,qh]
 obtain⟨t,ht,W9,hq⟩:∃t,aq (.lst [T s.reverse,.tup [.int (a8 s)],.tup [.int 1,.int (a8 s)],.tup [.int (a8 s),.int 1]]) (.int c)=some (T t)/\a8 s=a8 t/\Pre t:=by have c4:c=0\/c=1\/c=2\/c=3:=ZG;rcases c4 with c|c|c|c<;>rw[c];exact⟨s.reverse,rfl,(Dm s).symm,by simp;lia,fun x hx=>by have:=hs.2.1 x (by simpa using hx);lia⟩;exact⟨[a8 s],rfl,by simp[a8],ZH,fun x hx=>by simp at hx;subst hx;lia⟩;exact⟨[1,a8 s],rfl,by simp[a8],ZH,fun x hx=>by simp at hx;lia⟩;exact⟨[a8 s,1],rfl,by simp[a8],ZH,fun x hx=>by simp at hx;lia⟩
 refine⟨t,q+1,?_,W9,hq⟩;unfold gJ mV;exact rn
theorem Hk(n:Nat)(G S:Nat->Pa)(ns:Pa)(q a:Nat)(hs:SI (S a))(w:Int)(w0:0<=w)(w4:w<4):∃(l:PL)(t:Pa)(q':Nat),gJ [Row ns q,.int a,T (S a),.int w]=.ok (.tup [l.d,T t]) [Row ns q']/\Told n G S l t/\l.ns=[a]/\Pre t:=by
 have ww:w=0\/w=1\/w=2\/w=3:=ZG;rcases ww with rfl|rfl|rfl|rfl;obtain⟨o,q',e,h1,h2⟩:=Q3 ns q a _ hs;exact⟨.turn a o,_,q',e,⟨h1,h2,rfl⟩,rfl,by have:=hs.1;simp;lia,fun x hx=>by obtain⟨y,_,rfl⟩:=List.mem_map.mp hx;have:=hs.get y.toNat;lia⟩;obtain⟨k,q',e,h⟩:=Q4 ns q a _ hs;refine⟨.wide a k,_,q',e,⟨k,rfl,h,rfl⟩,rfl,by have:=hs.1;simp[pin];lia,fun x hx=>?_⟩;simp only[pin] at hx;rcases List.mem_append.mp hx with hx|hx;have:=hs.2.1 x (LR hx);lia;rcases List.mem_cons.mp hx with rfl|hx
 lia
 have:=hs.2.1 x (PJ hx);lia;obtain⟨u,q',e,h,h2⟩:=Q5 ns q a _ hs;exact⟨.spread a u,_,q',e,⟨h,rfl⟩,rfl,h2⟩;obtain⟨u,q',e,h,h2⟩:=Q6 ns q a _ hs;exact⟨.shape a u,_,q',e,⟨h,rfl⟩,rfl,h2⟩
theorem gS(s:Pa)(k:Nat)(x:Int)(hk:k<s.length)(hl:s.length<=100):j3 [T s,.int k,.int x]=.ok (T (rep s k x)) []:=by have a1:aY (T (s.take k)) (.tup [.int x])=_:=eN (s.take k) [x] (by simp[iS];lia);have a2:=eN (s.take k++[x]) (s.drop (k+1)) (by simp[iS];lia);have c1:=qF s k ZG;have c2:=qE s (k+1) ZG;rw[show (((k+1:Nat)):Int)=(k:Int)+1 by lia] at c2;rw[show s.take k++[x]++s.drop (k+1)=rep s k x by simp[rep]] at a2;unfold j3 AQ;exact rn
theorem sU{s:Pa}{k:Nat}{x:Int}(h:Pre s)(hx:0<=x/\x<=100)(hk:k<s.length):Pre (rep s k x):=by refine⟨by have:=h.1;simp[rep];lia,fun y hy=>?_⟩;simp only[rep] at hy;rcases List.mem_append.mp hy with hy|hy;exact h.2 y (LR hy);rcases List.mem_cons.mp hy with rfl|hy;exact hx;exact h.2 y (PJ hy)
theorem IT{s:Pa}{k:Nat}(h:Pre s):Pre (wo s k):=by refine⟨by have:=h.1;simp[wo];omega,fun y hy=>?_⟩;simp only[wo] at hy;rcases List.mem_append.mp hy with hy|hy;exact h.2 y (LR hy);exact h.2 y (PJ hy)
theorem IB(m:Int)(h0:0<=m)(h4:m<4):∃d,(d∈[19,21,22,23]/\(m<2->d≠22/\d≠23))/\aq (.lst [.str (nm 19),.str (nm 21),.str (nm 22),.str (nm 23)]) (.int m)=some (.str (nm d)):=by have:m=0\/m=1\/m=2\/m=3:=ZG;rcases this with rfl|rfl|rfl|rfl;exact⟨19,by decide,rfl⟩;exact⟨21,by decide,rfl⟩;exact⟨22,by decide,rfl⟩;exact⟨23,by decide,rfl⟩
theorem DK(n:Nat)(G S:Nat->Pa)(ns:Pa)(q a:Nat)(hs:SI (S a))(zq:S a≠[])(w:Int)(w0:4<=w)(w9:w<9):∃(l:PL)(t:Pa)(q':Nat),ub [Row ns q,.int a,T (S a),.int w]=.ok (.tup [l.d,T t]) [Row ns q']/\Told n G S l t/\l.ns=[a]/\Pre t:=by
 unfold ub AU;obtain⟨s,hS⟩:∃s,s=S a:=⟨_,rfl⟩;rw[<-hS] at hs zq ⊢;have hl:=hs.1;have hp:=hs.pre;have hn:=List.length_pos_iff.mpr zq;obtain⟨j,ts,hj⟩:=drawn ns q s.length hn;obtain⟨z,hz⟩:∃z,s.getD j 0=z:=⟨_,rfl⟩;have ix:aq (T s) (.int j)=some (.int z):=by have:=fS s j ZG ZG;rw[ZA,hz] at this;exact this
 have sb:=hs.get j;rw[hz] at sb;have c1:=qF s j ZG;have c2:=qE s (j+1) ZG;rw[show (((j+1:Nat)):Int)=(j:Int)+1 by lia] at c2;have a1:aY (T (s.take j)) (T (s.drop (j+1)))=some (T (wo s j)):=eN (s.take j) (s.drop (j+1)) (by simp[iS];lia);by_cases c4:w=4;obtain⟨x,t9,_,_⟩:=bN ns (q+1) 9 ZG;obtain⟨y,tR,y0,y1⟩:=bN ns (q+2) 1000003 ZG;exact⟨.shift a j (x-4) y,s,q+3,rn,⟨j,rfl,by rw[<-hS];exact hj,⟨y0,y1⟩,hS⟩,rfl,hp⟩;by_cases c5:w=5;obtain⟨x,t4,x0,x4⟩:=bN ns (q+1) 4 ZG;have ii:intD [.bl (decide (0<z))]=some (.int (if 0<z then 1 else 0)):=by rw[yp];simp
 obtain⟨m,hm⟩:∃m:Int,m=if 0<z then 4 else 2:=⟨_,rfl⟩
 have i2:aq (.lst [.int 2,.int 4]) (.int (if 0<z then 1 else 0))=some (.int m):=by rw[hm];split<;>rfl
 have m4:(m=4\/m=2)/\(z=0->m=2):=by rw[hm];split<;>lia
 have md:=hJ x m ZG;obtain⟨d,hd,id⟩:=IB (x % m) (Int.emod_nonneg _ ZG) (by have:=Ms x (show 0<m by lia);lia);have Yc:¬w=4:=c4;refine⟨.fold d a j,wo s j,q+2,rn,⟨j,rfl,by rw[<-hS];exact hj,hd.1,fun h=>hd.2 ?_,by rw[hS]⟩,rfl,IT hp⟩;rw[<-hS,hz] at h;have:=Ms x (show 0<m by lia)
 lia
 by_cases c6:w=6;obtain⟨x,t4,x0,x4⟩:=bN ns (q+1) 4 ZG;obtain⟨d,hd,id⟩:=IB x x0 x4;exact⟨.run d a j,s,q+2,rn,⟨j,rfl,by rw[<-hS];exact hj,hd.1,hS⟩,rfl,hp⟩;by_cases z0:z=0;exact⟨.one 18 a,s,q+1,rn,⟨ZG,hS⟩,rfl,hp⟩;obtain⟨b,tz,b0,b1⟩:=bN ns (q+1) z ZG;by_cases c7:w=7;exact⟨.drop a j b,wo s j,q+2,rn,⟨j,rfl,by rw[<-hS];exact hj,⟨b0,by rw[<-hS,hz];exact b1⟩,by rw[hS]⟩,rfl,IT hp⟩;obtain⟨x,t3,x0,x3⟩:=bN ns (q+2) 3 ZG;obtain⟨v,t2,v0,v2⟩:=bN ns (q+3) 2 ZG;have f1:=qP (z-1-b) (1+x) ZG ZG;have f2:=qP b (1+x) ZG ZG;have k1:0<=(z-1-b) / (1+x):=Int.ediv_nonneg ZG ZG;have k2:(z-1-b) / (1+x)*(1+x)<=z-1-b:=Int.ediv_mul_le _ ZG;have k3:0<=b / (1+x):=Int.ediv_nonneg ZG ZG;have k4:b / (1+x)*(1+x)<=b:=Int.ediv_mul_le _ ZG;have k5:(z-1-b) / (1+x)<=z-1-b:=Int.ediv_le_self _ ZG;have k6:b / (1+x)<=b:=Int.ediv_le_self _ ZG;have key:∀(u m:Int),0<=m->0<=u->m<=u+1->0<m->(1+x)*(m-1)<=u*(1+x):=fun u m _ _ h3 h4=>by rw[Int.mul_comm];exact Int.mul_le_mul_of_nonneg_right ZG ZG
 have Pf:∀m:Int,0<m->0<=(1+x)*(m-1):=fun m h=>DN ZG ZG;by_cases c:v=1;generalize b / (1+x)=u at *;obtain⟨m,tm,m0,m1⟩:=bN ns (q+4) (u+2) ZG;have ch:=gS s j (u+1-m) hj ZG;refine⟨.cut a j b (0-(1+x)) (u+1-m),rep s j (u+1-m),q+5,rn,⟨j,rfl,by rw[<-hS];exact hj,ZG,ZG,fun h=>?_,by rw[hS]⟩,rfl,sU hp ZG hj⟩;rw[<-hS,hz];have e:(0-(1+x))*(u+1-m-1)=-((1+x)*(u+1-m-1)):=by rw[Int.zero_sub,Int.neg_mul]
 have:=key u (u+1-m) ZG k3 ZG h;have:=Pf (u+1-m) h;rw[e];lia;generalize (z-1-b) / (1+x)=u at *;obtain⟨m,tm,m0,m1⟩:=bN ns (q+4) (u+2) ZG;have ch:=gS s j (u+1-m) hj ZG;refine⟨.cut a j b (1+x) (u+1-m),rep s j (u+1-m),q+5,rn,⟨j,rfl,by rw[<-hS];exact hj,ZG,ZG,fun h=>?_,by rw[hS]⟩,rfl,sU hp ZG hj⟩;rw[<-hS,hz];have:=key u (u+1-m) ZG k1 ZG h;have:=Pf (u+1-m) h
 lia
theorem xt(s:Pa)(h:∀x∈s,0<=x/\x<=24)(k:Nat):0<=back s k/\back s k<=24:=by unfold back;split;rename_i hk;have h2:s.length-1-k<s.length:=ZJ;have:=h s[s.length-1-k] (BA h2);simpa[h2] using this;omega
theorem yz{s t m:Pa}(h1:∀x∈s,0<=x/\x<=24)(h2:∀x∈t,0<=x/\x<=24)(h:meet s t=some m):∀x∈m,0<=x/\x<=24:=fun x hx=>by unfold meet at h;split at h;cases h;rw[List.mem_reverse] at hx;obtain⟨p,hp,rfl⟩:=List.mem_map.mp hx;unfold pairs at hp;obtain⟨k,_,rfl⟩:=List.mem_map.mp hp;have:=xt s h1 k;have:=xt t h2 k;unfold pk;dsimp only;split<;>lia;cases h
def Ar(ss:Pk):Prop:=∀s∈ss,SI s
theorem Ar.at{ss:Pk}(h:Ar ss){i:Nat}(hi:i<ss.length):SI (sd ss i):=by
 have:sd ss i=ss[i]:=by simp[sd,hi]
 rw[this];exact h _ (BA hi)
theorem Qq(m:Int)(h0:0<=m)(h3:m<3):∃d,(16<=d/\d<=18)/\aq (.lst [.str (nm 16),.str (nm 17),.str (nm 18)]) (.int m)=some (.str (nm d)):=by have:m=0\/m=1\/m=2:=ZG;rcases this with rfl|rfl|rfl;exact⟨16,ZG,rfl⟩;exact⟨17,ZG,rfl⟩;exact⟨18,ZG,rfl⟩
theorem Qp(m:Int)(h0:0<=m)(h7:m<7):∃d,(19<=d/\d<=25)/\aq (.lst [.str (nm 19),.str (nm 20),.str (nm 21),.str (nm 22),.str (nm 23),.str (nm 24),.str (nm 25)]) (.int m)=some (.str (nm d)):=by have:m=0\/m=1\/m=2\/m=3\/m=4\/m=5\/m=6:=ZG;rcases this with rfl|rfl|rfl|rfl|rfl|rfl|rfl;exact⟨19,ZG,rfl⟩;exact⟨20,ZG,rfl⟩;exact⟨21,ZG,rfl⟩;exact⟨22,ZG,rfl⟩;exact⟨23,ZG,rfl⟩;exact⟨24,ZG,rfl⟩;exact⟨25,ZG,rfl⟩
theorem sA{s t m:Pa}(hs:SI s)(ht:SI t)(e:meet s t=some m):gU [T s,T t]=.ok (T m) []/\(m.length<=4/\∀x∈m,0<=x/\x<=24):=by have:=oV s t hs.1 ht.1;rw[e] at this;exact⟨this,by have:=gn e;have:=hs.1;have:=ht.1;lia,yz hs.2.1 ht.2.1 e⟩
theorem yA{s t:Pa}(hs:SI s)(ht:SI t)(e:meet s t=none):gU [T s,T t]=.ok .bz []:=by have:=oV s t hs.1 ht.1;rwa [e] at this
theorem pre_of{m:Pa}(h:m.length<=4/\∀x∈m,0<=x/\x<=24):Pre m:=⟨ZG,fun x hx=>by have:=h.2 x hx;lia⟩
theorem CZ(s:Pa):isND (T s) .bz=some (.bl false):=rfl
theorem P0:isND .bz .bz=some (.bl true):=rfl
theorem r8(s:Pa)(j:Nat)(h:j<s.length):aq (T s) (.int (j:Int))=some (.int (s.getD j 0)):=by have:=fS s j ZG ZG;rwa [ZA] at this
theorem Q15{s t:Pa}{j:Nat}(h:s.length=t.length)(e:rep s j 0=rep t j 0):wo s j=wo t j:=by unfold rep at e;have h1:=List.append_inj e (by simp[h]);unfold wo;rw[h1.1,(List.cons.inj h1.2).2]
section
variable(N:Nat)(G:Nat->Pa)(ns:Pa)(q a ix_:Nat)(ss:Pk)(kX:Ar ss)(ha:a<ss.length)(hi:ix_<ss.length)(h1:(sd ss ix_).length=1)
include kX ha hi h1
theorem Q1B:∃(l:PL)(t:Pa)(q':Nat),eJ [Row ns q,.int a,bY ss,.int 9,.int ix_]=.ok (.tup [l.d,T t]) [Row ns q',bY ss]/\Told N G (sd ss) l t/\(∀r∈l.ns,r<ss.length)/\Pre t:=by unfold eJ kM;have ia:=cy ss a ha;have ln:=eZ ss;obtain⟨b,tb,hb⟩:=drawn ns q ss.length ZG;obtain⟨x,t3,x0,x3⟩:=bN ns (q+1) 3 ZG;obtain⟨d,hd,id⟩:=Qq x x0 x3;exact⟨.one d a,sd ss a,q+2,rn,⟨hd,rfl⟩,fun r hr=>by simp[PL.ns] at hr;lia,(kX.at ha).pre⟩
theorem KJ:∃(l:PL)(t:Pa)(q':Nat),eJ [Row ns q,.int a,bY ss,.int 10,.int ix_]=.ok (.tup [l.d,T t]) [Row ns q',bY ss]/\Told N G (sd ss) l t/\(∀r∈l.ns,r<ss.length)/\Pre t:=by unfold eJ kM;have ia:=cy ss a ha;have ln:=eZ ss;obtain⟨b,tb,hb⟩:=drawn ns q ss.length ZG;have ib:=cy ss b hb;obtain⟨x,t7,x0,x7⟩:=bN ns (q+1) 7 ZG;obtain⟨d,hd,id⟩:=Qp x x0 x7;have n0:=P0;cases e:meet (sd ss a) (sd ss b) with|none=>have m1:=yA (kX.at ha) (kX.at hb) e;obtain⟨m2,mp⟩:=sA (kX.at ha) (kX.at ha) (meet_self _);exact⟨.both d a a,sd ss a,q+2,rn,⟨hd,meet_self _⟩,fun r hr=>by simp[PL.ns] at hr;lia,pre_of mp⟩|some m=>obtain⟨m1,mp⟩:=sA (kX.at ha) (kX.at hb) e;have n1:=CZ m;exact⟨.both d a b,m,q+2,rn,⟨hd,e⟩,fun r hr=>by simp[PL.ns] at hr;lia,pre_of mp⟩
theorem KL:∃(l:PL)(t:Pa)(q':Nat),eJ [Row ns q,.int a,bY ss,.int 11,.int ix_]=.ok (.tup [l.d,T t]) [Row ns q',bY ss]/\Told N G (sd ss) l t/\(∀r∈l.ns,r<ss.length)/\Pre t:=by unfold eJ kM;have ia:=cy ss a ha;have ln:=eZ ss;obtain⟨b,tb,hb⟩:=drawn ns q ss.length ZG;have ib:=cy ss b hb;obtain⟨c,tc,hc⟩:=drawn ns (q+1) ss.length ZG;have ic:=cy ss c hc;have n0:=P0;cases e:meet (sd ss a) (sd ss b) with|none=>have m1:=yA (kX.at ha) (kX.at hb) e;exact⟨.cX a a a,sd ss a,q+2,rn,⟨_,meet_self _,meet_self _⟩,fun r hr=>by simp[PL.ns] at hr;lia,(kX.at ha).pre⟩|some m=>obtain⟨m1,mp⟩:=sA (kX.at ha) (kX.at hb) e;have n1:=CZ m;have m2:=oV m (sd ss c) mp.1 (kX.at hc).1;cases e2:meet m (sd ss c) with|none=>rw[e2] at m2;have m3:gU [T m,T (sd ss c)]=.ok .bz []:=m2;exact⟨.cX a a a,sd ss a,q+2,rn,⟨_,meet_self _,meet_self _⟩,fun r hr=>by simp[PL.ns] at hr;lia,(kX.at ha).pre⟩|some n=>rw[e2] at m2;have m3:gU [T m,T (sd ss c)]=.ok (T n) []:=m2;have n2:=CZ n;have nl:=gn e2;have Tn:=(kX.at hc).1;exact⟨.cX b a c,n,q+2,rn,⟨_,(meet_comm _ _).trans e,e2⟩,fun r hr=>by simp[PL.ns] at hr;lia,pre_of ⟨ZG,yz mp.2 (kX.at hc).2.1 e2⟩⟩
theorem KN:∃(l:PL)(t:Pa)(q':Nat),eJ [Row ns q,.int a,bY ss,.int 12,.int ix_]=.ok (.tup [l.d,T t]) [Row ns q',bY ss]/\Told N G (sd ss) l t/\(∀r∈l.ns,r<ss.length)/\Pre t:=by
 unfold eJ kM;have ia:=cy ss a ha;have ln:=eZ ss;obtain⟨b,tb,hb⟩:=drawn ns q ss.length ZG;obtain⟨n,t3,hn⟩:=drawn ns (q+1) 3 ZG;have t3:bu [Row ns (q+1),.int 3]=.ok (.int n) [Row ns (q+1+1)]:=t3;have er:=qj n ZG;obtain⟨q1,ys,hc,he⟩:=lS (it:=cJ [(ax bu [.io 0,.val (mC (.int 3))])]) (elt:=jf) (k:=11) (r0:=[.io (Row ns (q+1)),.sh (.int a),.io (bY ss),.sh (.int 12),.sh (.int ix_),.sh (T (sd ss a)),.sh (.int b),.no,.no,.no,.no]) (fun(k:Nat)=>D.int k) (fun q=>[.io (Row ns q),.sh (.int a),.io (bY ss),.sh (.int 12),.sh (.int ix_),.sh (T (sd ss a)),.sh (.int b),.no,.no,.no,.no]) (fun _ y=>0<=y/\y<=24) (List.range n) (q+1+1) (fun _=>rfl) aI (by simp;lia) (fun k _ q'=>by obtain⟨y,tt,_,_⟩:=bN ns q' 3 ZG;exact⟨q'+1,1+y,ZG,fun acc=>by unfold jf;exact aI⟩);have hy:∀y∈ys,0<=y/\y<=24:=fun y hy=>by obtain⟨_,_,h⟩:=he.right y hy;exact h
 have yl:=he.len;simp only[List.length_range] at yl;obtain⟨y,tR,y0,y1⟩:=bN ns q1 1000003 ZG;exact⟨.gE ys y,ys,q1+1,rn,⟨rfl,y0,y1⟩,fun r hr=>by simp[PL.ns] at hr,pre_of ⟨ZG,hy⟩⟩
theorem PN(w:Int)(c9:¬w=9)(SR:¬w=10)(SS:¬w=11)(SU:¬w=12)(c0:sd ss a=[]):∃(l:PL)(t:Pa)(q':Nat),eJ [Row ns q,.int a,bY ss,.int w,.int ix_]=.ok (.tup [l.d,T t]) [Row ns q',bY ss]/\Told N G (sd ss) l t/\(∀r∈l.ns,r<ss.length)/\Pre t:=by unfold eJ kM;have ia:=cy ss a ha;rw[c0] at ia;have ln:=eZ ss;obtain⟨b,tb,hb⟩:=drawn ns q ss.length ZG;have e0:b7 (T []) (.tup [])=some (.bl true):=rfl;exact⟨.one 16 a,[],q+1,rn,⟨ZG,c0.symm⟩,fun r hr=>by simp[PL.ns] at hr;lia,ZH,ZH⟩
theorem KO(c0:sd ss a≠[]):∃(l:PL)(t:Pa)(q':Nat),eJ [Row ns q,.int a,bY ss,.int 13,.int ix_]=.ok (.tup [l.d,T t]) [Row ns q',bY ss]/\Told N G (sd ss) l t/\(∀r∈l.ns,r<ss.length)/\Pre t:=by
 unfold eJ kM;have ia:=cy ss a ha;have ln:=eZ ss;obtain⟨b,tb,hb⟩:=drawn ns q ss.length ZG;have ib:=cy ss b hb;have ii:=cy ss ix_ hi;have hs:=kX.at ha;have e0:b7 (T (sd ss a)) (.tup [])=some (.bl false):=by rw[MV,BH];simp[c0]
 obtain⟨j,tj,hj⟩:=drawn ns (q+1) (sd ss a).length (List.length_pos_iff.mpr c0);obtain⟨x,t5,_,_⟩:=bN ns (q+2) 5 ZG;have fin:∀e:Nat,e<ss.length->(sd ss e).length=1->∃y,sd ss e=[y]/\aq (T (sd ss e)) (.int 0)=some (.int y)/\j3 [T (sd ss a),.int j,.int y]=.ok (T (rep (sd ss a) j y)) []/\Pre (rep (sd ss a) j y):=fun e he Nq=>by have g:=(kX.at he).get 0;have:=hs.1;obtain⟨y,hy⟩:∃y,sd ss e=[y]:=List.length_eq_one_iff.mp Nq;rw[hy] at g ⊢;exact⟨y,rfl,rfl,gS _ _ _ hj ZG,sU hs.pre (by simp at g;lia) hj⟩
 obtain⟨y,hy,f1,f2,f3⟩:=fin ix_ hi h1;by_cases k5:x<4;exact⟨.pick a j ix_,_,q+3,rn,⟨j,y,rfl,hj,hy,rfl⟩,fun r hr=>by simp[PL.ns] at hr;lia,f3⟩;have ne:fW (.int ((sd ss b).length:Int)) (.int 1)=some (.bl (!decide ((sd ss b).length=1))):=by rw[di,decide_eq_decide.mpr (show ((sd ss b).length:Int)=1<->(sd ss b).length=1 by lia)]
 by_cases kb:(sd ss b).length=1;obtain⟨y,hy,g1,g2,g3⟩:=fin b hb kb;rw[Y9 kb] at ne;have ne:fW (.int ((sd ss b).length:Int)) (.int 1)=some (.bl false):=ne;exact⟨.pick a j b,_,q+3,rn,⟨j,y,rfl,hj,hy,rfl⟩,fun r hr=>by simp[PL.ns] at hr;lia,g3⟩;rw[Z0 kb] at ne;have ne:fW (.int ((sd ss b).length:Int)) (.int 1)=some (.bl true):=ne;exact⟨.pick a j ix_,_,q+3,rn,⟨j,y,rfl,hj,hy,rfl⟩,fun r hr=>by simp[PL.ns] at hr;lia,f3⟩
theorem KP(c0:sd ss a≠[]):∃(l:PL)(t:Pa)(q':Nat),eJ [Row ns q,.int a,bY ss,.int 14,.int ix_]=.ok (.tup [l.d,T t]) [Row ns q',bY ss]/\Told N G (sd ss) l t/\(∀r∈l.ns,r<ss.length)/\Pre t:=by
 unfold eJ kM;have ia:=cy ss a ha;have ln:=eZ ss;obtain⟨b,tb,hb⟩:=drawn ns q ss.length ZG;have ib:=cy ss b hb;have hs:=kX.at ha;have hl:=hs.1;have e0:b7 (T (sd ss a)) (.tup [])=some (.bl false):=by rw[MV,BH];simp[c0]
 obtain⟨j,tj,hj⟩:=drawn ns (q+1) (sd ss a).length (List.length_pos_iff.mpr c0);have i1:=r8 (sd ss a) j hj;have fin:∀e:Nat,e<ss.length->j3 [T (sd ss a),.int j,.int ((sd ss a).getD j 0+(sd ss e).getD j 0)]=.ok (T (rep (sd ss a) j ((sd ss a).getD j 0+(sd ss e).getD j 0))) []/\Pre (rep (sd ss a) j ((sd ss a).getD j 0+(sd ss e).getD j 0)):=fun e he=>by have g:=(kX.at he).get j;have g2:=hs.get j;exact⟨gS _ _ _ hj ZG,sU hs.pre ZG hj⟩
 have Yd:=gS (sd ss a) j 0 hj ZG;obtain⟨f2,f3⟩:=fin a ha;have ne:fW (.int ((sd ss b).length:Int)) (.int ((sd ss a).length:Int))=some (.bl (!decide ((sd ss b).length=(sd ss a).length))):=by rw[di,decide_eq_decide.mpr (show ((sd ss b).length:Int)=(sd ss a).length<->(sd ss b).length=(sd ss a).length by lia)]
 by_cases kl:(sd ss b).length=(sd ss a).length;have Ye:=gS (sd ss b) j 0 ZG (by have:=(kX.at hb).1;lia);rw[Y9 kl] at ne;have ne:fW (.int ((sd ss b).length:Int)) (.int ((sd ss a).length:Int))=some (.bl false):=ne;have nr:fW (T (rep (sd ss a) j 0)) (T (rep (sd ss b) j 0))=some (.bl (!decide (rep (sd ss a) j 0=rep (sd ss b) j 0))):=CV _ _;by_cases kr:rep (sd ss a) j 0=rep (sd ss b) j 0;have i2:=r8 (sd ss b) j ZG;obtain⟨g2,g3⟩:=fin b hb;rw[Y9 kr] at nr;have nr:fW (T (rep (sd ss a) j 0)) (T (rep (sd ss b) j 0))=some (.bl false):=nr;exact⟨.join a b j,_,q+2,rn,⟨j,rfl,hj,kl.symm,Q15 kl.symm kr,rfl⟩,fun r hr=>by simp[PL.ns] at hr;lia,g3⟩;rw[Z0 kr] at nr;have nr:fW (T (rep (sd ss a) j 0)) (T (rep (sd ss b) j 0))=some (.bl true):=nr;exact⟨.join a a j,_,q+2,rn,⟨j,rfl,hj,rfl,rfl,rfl⟩,fun r hr=>by simp[PL.ns] at hr;lia,f3⟩;rw[Z0 kl] at ne;have ne:fW (.int ((sd ss b).length:Int)) (.int ((sd ss a).length:Int))=some (.bl true):=ne;exact⟨.join a a j,_,q+2,rn,⟨j,rfl,hj,rfl,rfl,rfl⟩,fun r hr=>by simp[PL.ns] at hr;lia,f3⟩
theorem FG(w:Int)(w4:4<=w)(YZ:w<15)(hw:w<9->sd ss a=[]) : ∃(l:PL)(t:Pa)(q':Nat),eJ [Row ns q,.int a,bY ss,.int w,.int ix_]=.ok (.tup [l.d,T t]) [Row ns q',bY ss]/\Told N G (sd ss) l t/\(∀r∈l.ns,r<ss.length)/\Pre t:=by
 by_cases c9:w=9;subst c9;exact Q1B N G ns q a ix_ ss kX ha hi h1;by_cases SR:w=10;subst SR;exact KJ N G ns q a ix_ ss kX ha hi h1;by_cases SS:w=11;subst SS;exact KL N G ns q a ix_ ss kX ha hi h1;by_cases SU:w=12;subst SU;exact KN N G ns q a ix_ ss kX ha hi h1;by_cases c0:sd ss a=[];exact PN N G ns q a ix_ ss kX ha hi h1 w c9 SR SS SU c0;have:w=13\/w=14:=by
  have:¬w<9:=fun z=>c0 (hw z)
  lia
 rcases this with rfl|rfl;exact KO N G ns q a ix_ ss kX ha hi h1 c0;exact KP N G ns q a ix_ ss kX ha hi h1 c0
end
def KR:Pa->Int|[]=>0|i::is=>is.foldl (fun a b=>if a<b then b else a) i
theorem rY:∀(is:Pa)(a:Int),a<=is.foldl (fun a b=>if a<b then b else a) a/\∀x∈is,x<=is.foldl (fun a b=>if a<b then b else a) a|[],a=>⟨ZH,fun x hx=>by simp at hx⟩|i::is,a=>by obtain⟨h1,h2⟩:=rY is (if a<i then i else a);simp only[List.foldl_cons];generalize is.foldl (fun a b=>if a<b then b else a) (if a<i then i else a)=z at *;refine⟨by split at h1<;>lia,fun x hx=>?_⟩;rcases List.mem_cons.mp hx with rfl|hx;split at h1<;>lia;exact h2 x hx
theorem KS{t:Pa}(h:KR t<=24):∀x∈t,x<=24:=fun x hx=>by
 cases t with
 |nil=>simp at hx|cons i is=>
  obtain⟨h1,h2⟩:=rY is i;have e:KR (i::is)=is.foldl (fun a b=>if a<b then b else a) i:=rfl;rcases List.mem_cons.mp hx with rfl|hx
  lia
  have:=h2 x hx;lia
theorem KD(t:Pa):mj (T t) (.int 0)=some (.int (KR t)):=by rw[CU];cases t<;>rfl
def Fp(ns:Pa)(gs:Pk)(c tn ix_:Int)(ls:R4)(ss:Pk)(q:Nat)(s2 s3 s9 Ef z8:Sl):aQ:=[.io (Row ns q),.ow (bY gs),s2,s3,.sh (.int c),.sh (.int tn),.ow (Pg ls),.ow (bY ss),.sh (.int ix_),s9,Ef,z8]
structure Gd(gs:Pk)(ls:R4)(ss:Pk)(ix_:Nat):Prop where
 len:ss.length=ls.length
 wf:Wf ls
 told:∀i l,ls[i]?=some l->Told gs.length (sd gs) (sd ss) l (sd ss i)
 si:Ar ss
 ix:ix_<ss.length
 one:(sd ss ix_).length=1
 ne:ls≠[]
theorem og{ss:Pk}{t:Pa}{i:Nat}(h:i<ss.length):sd (ss++[t]) i=sd ss i:=by unfold sd;rw[Z5,Z7 h,Z5]
theorem Gd.more{gs:Pk}{ls:R4}{ss:Pk}{ix_:Nat}(g:Gd gs ls ss ix_){l:PL}{t:Pa}(hl:∀r∈l.ns,r<ss.length)(hf:Told gs.length (sd gs) (sd ss) l t)(ht:SI t):Gd gs (ls++[l]) (ss++[t]) ix_:=by
 have hx:∀i x,(ls++[l])[i]?=some x->ls[i]?=some x\/(i=ss.length/\x=l):=fun i x hx=>by
  by_cases h:i<ls.length;rw[Z7 h] at hx;exact .inl hx;rw[Zc ZG] at hx;have:=(List.getElem?_eq_some_iff.mp hx).1;have e:i-ls.length=0:=by simp at this;lia
  rw[e] at hx;exact .inr ⟨by have:=g.len;lia,by simpa using hx.symm⟩
 refine⟨by simp[g.len],fun i x h r hr=>?_,fun i x h=>?_,fun x h=>?_,by simp;have:=g.ix;lia,by rw[og g.ix];exact g.one,ZH⟩;rcases hx i x h with h|⟨rfl,rfl⟩;exact g.wf i x h r hr;exact hl r hr;rcases hx i x h with h|⟨rfl,rfl⟩;have hi:=(List.getElem?_eq_some_iff.mp h).1;have Nv:=g.len;rw[og ZG];exact(g.told i x h).mono fun r hr=>og (by have:=g.wf i x h r hr;lia);rw[show sd (ss++[t]) ss.length=t by simp[sd]];exact hf.mono fun r hr=>og (hl r hr);rcases List.mem_append.mp h with h|h;exact g.si x h;have:x=t:=by simpa using h
 subst this;exact ht
theorem BU(ns:Pa)(gs:Pk)(Ia:Ar gs)(tn:Int)(ix_:Nat)(ls:R4)(ss:Pk)(g:Gd gs ls ss ix_)(q:Nat)(s2 s3 z8:Sl)(Vn:free (some z8)=true)(a:Nat)(ha:a<ss.length)(w:Int)(w0:0<=w)(Wb:w<16)(hg:0<gs.length)(G:M Fl)
  (hG:G=(bI (tB (m2 ltI (af 10) (mC (.int 4)))) (ak (aN 11 (ax gJ [.io 0,.val (af 9),.val (bU 7 (af 9)),.val (af 10)]))
  aA) (ak (bI (kF (tB (m2 ltI (af 10) (mC (.int 9)))) (tB (m2 fW (bU 7 (af 9)) (bc [])))) (ak (aN 11 (ax ub [.io 0,.val (af 9),.val (bU 7 (af 9)),.val (af 10)]))
  aA) (ak (bI (tB (m2 b7 (af 10) (mC (.int 15)))) (ak (aN 11 (bc [(bc [(mC (.str (nm 0))),(m2 nL (af 9) (af 4))]),(bU 1 (m2 nL (af 9) (af 4)))]))
  aA) (ak (aN 11 (ax eJ [.io 0,.val (af 9),.io 7,.val (af 10),.val (af 8)]))
  aA))
  aA))
  aA))):∃(l:PL)(t:Pa)(q':Nat),G (Fp ns gs gs.length tn ix_ ls ss q s2 s3 (.sh (.int a)) (.sh (.int w)) z8)=.ok .nx (Fp ns gs gs.length tn ix_ ls ss q' s2 s3 (.sh (.int a)) (.sh (.int w)) (.sh (.tup [l.d,T t])))/\Told gs.length (sd gs) (sd ss) l t/\(∀r∈l.ns,r<ss.length)/\Pre t:=by
 subst hG;unfold Fp;have ia:=cy ss a ha;have hs:=g.si.at ha;by_cases c1:w<4;obtain⟨l,t,q',e,h1,h2,h3⟩:=Hk gs.length (sd gs) (sd ss) ns q a hs w w0 c1;refine⟨l,t,q',?_,h1,fun r hr=>by rw[h2] at hr;simp at hr;lia,h3⟩;generalize l.d=ld at *;exact aI;by_cases c2:w<9/\sd ss a≠[];obtain⟨l,t,q',e,h1,h2,h3⟩:=DK gs.length (sd gs) (sd ss) ns q a hs c2.2 w ZG c2.1;refine⟨l,t,q',?_,h1,fun r hr=>by rw[h2] at hr;simp at hr;lia,h3⟩;generalize l.d=ld at *;obtain⟨Yb,Wl⟩:=c2;have ne:fW (T (sd ss a)) (.tup [])=some (.bl true):=by rw[MV,CV,Z0 Wl];rfl
 exact aI;by_cases c3:w=15;have md:=hJ a gs.length ZG;obtain⟨b,hb⟩:∃b,b=a % gs.length:=⟨_,rfl⟩;have Ti:b<gs.length:=by rw[hb];exact Nat.mod_lt _ hg
 have eb:((a:Int) % (gs.length:Int))=(b:Int):=by rw[hb];simp
 rw[eb] at md;have ib:=cy gs b Ti;refine⟨.given b,sd gs b,q,?_,⟨b,rfl,Ti,rfl⟩,fun r hr=>by simp[PL.ns] at hr,(Ia.at Ti).pre⟩;have c4:¬w<9:=ZG;simp only[PL.d,PL.k,PL.ps];exact aI;obtain⟨l,t,q',e,h1,h2,h3⟩:=FG gs.length (sd gs) ns q a ix_ ss g.si ha g.ix g.one w ZG ZG (fun z=>by cases e:sd ss a with|nil=>rfl|cons x r=>exact absurd ⟨z,by rw[e];simp⟩ c2);refine⟨l,t,q',?_,h1,h2,h3⟩;generalize l.d=ld at *;by_cases c4:w<9;have c5:sd ss a=[]:=by cases e:sd ss a with|nil=>rfl|cons x r=>exact absurd ⟨c4,by rw[e];simp⟩ c2
 have ne:fW (T (sd ss a)) (.tup [])=some (.bl false):=by rw[c5];rfl
 exact aI;exact aI
theorem JI(x y:D):aq (.tup [x,y]) (.int 0)=some x:=rfl
theorem GY(x y:D):aq (.tup [x,y]) (.int 1)=some y:=rfl
theorem Q1(ns:Pa)(gs:Pk)(Ia:Ar gs)(hg:0<gs.length)(tn:Int)(ix_:Nat)(ls:R4)(ss:Pk)(g:Gd gs ls ss ix_)(hl:ls.length<=40)(q:Nat)(s2 s3 s9 Ef z8:Sl)(h9:free (some s9)=true)(Yp:free (some Ef)=true)(Vn:free (some z8)=true) : ∃(l:PL)(t:Pa)(q':Nat)(Sf GL GN:Sl),el (Fp ns gs gs.length tn ix_ ls ss q s2 s3 s9 Ef z8)=.ok .nx (Fp ns gs gs.length tn ix_ (ls++[l]) (ss++[t]) q' s2 s3 Sf GL GN)/\Gd gs (ls++[l]) (ss++[t]) ix_/\free (some Sf)=true/\free (some GL)=true/\free (some GN)=true:=by
 have ln:=jL ls;have hn:=List.length_pos_iff.mpr g.ne;have Nv:=g.len;obtain⟨b,tl,hb⟩:=drawn ns q ls.length hn;obtain⟨a,Yt,ha⟩:∃a:Nat,gA (.int ((ls.length:Int)-1)) (.int b)=some (.int (a:Int))/\a<ss.length:=⟨ls.length-1-b,by rw[yR];congr 2;lia,ZG⟩;obtain⟨w,YY,w0,Wb⟩:=bN ns (q+1) 16 ZG;obtain⟨l,t,q',e,h1,h2,h3⟩:=BU ns gs Ia tn ix_ ls ss g (q+2) s2 s3 z8 Vn a ha w w0 Wb hg _ rfl;have cl:=Bu t h3;have mx:=KD t;have ia:=cy ss a ha;have U7:∀l:PL,gb l.d (Pg ls)=some (Pg (ls++[l])):=fun l=>by unfold Pg;rw[ip _ _ (by simp;lia),Uh];rfl
 have U8:∀t,gb (T t) (bY ss)=some (bY (ss++[t])):=fun t=>by unfold bY;rw[ip _ _ (by simp;lia),Uh];rfl
 unfold Fp at e ⊢;unfold el;by_cases c:a8 t<=27/\t.length<=4/\KR t<=24;refine⟨l,t,q',.sh (.int a),.sh (.int w),.sh (.tup [l.d,T t]),?_,g.more h2 h1 ⟨c.2.1,fun x hx=>⟨(h3.2 x hx).1,KS c.2.2 x hx⟩,c.1⟩,rfl,rfl,rfl⟩;have k1:¬27<a8 t:=ZG;have k2:¬(4:Int)<t.length:=ZG;have k3:¬24<KR t:=ZG;have a1:=U7 l;have a2:=U8 t;generalize l.d=ld at *;have p1:=JI ld (T t);have p2:=GY ld (T t);exact aI;refine⟨.one 16 a,sd ss a,q',.sh (.int a),.sh (.int w),.sh (.tup [.tup [.str (nm 9),.str (nm 16),.int a],T (sd ss a)]),?_,g.more (fun r hr=>by simp[PL.ns] at hr;lia) ⟨ZG,rfl⟩ (g.si.at ha),rfl,rfl,rfl⟩;have a1:=U7 (.one 16 a);have a2:=U8 (sd ss a);have p2:=GY l.d (T t);have p3:=JI (.tup [.str (nm 9),.str (nm 16),.int a]) (T (sd ss a));have p4:=GY (.tup [.str (nm 9),.str (nm 16),.int a]) (T (sd ss a));have a1:gb (.tup [.str (nm 9),.str (nm 16),.int a]) (Pg ls)=some (Pg (ls++[.one 16 a])):=a1;generalize l.d=ld at *;by_cases k1:27<a8 t;exact aI;by_cases k2:(4:Int)<t.length;exact aI;have k3:24<KR t:=by by_cases z:24<KR t;exact z;exact absurd ⟨ZG,ZG,ZG⟩ c
 exact aI
theorem UO(m:Int)(h0:0<=m)(h8:m<8):∃v:Int,0<=v/\v<=3/\aq (.lst [.int 2,.int 3,.int 1,.int 2,.int 3,.int 1,.int 2,.int 0]) (.int m)=some (.int v):=by have:m=0\/m=1\/m=2\/m=3\/m=4\/m=5\/m=6\/m=7:=ZG;rcases this with rfl|rfl|rfl|rfl|rfl|rfl|rfl|rfl;exact⟨2,ZG,ZG,rfl⟩;exact⟨3,ZG,ZG,rfl⟩;exact⟨1,ZG,ZG,rfl⟩;exact⟨2,ZG,ZG,rfl⟩;exact⟨3,ZG,ZG,rfl⟩;exact⟨1,ZG,ZG,rfl⟩;exact⟨2,ZG,ZG,rfl⟩;exact⟨0,ZG,ZG,rfl⟩
theorem UN(m:Int)(h0:0<=m)(h8:m<4):∃v:Int,0<=v/\v<=4/\aq (.lst [.int 2,.int 3,.int 1,.int 4]) (.int m)=some (.int v):=by have:m=0\/m=1\/m=2\/m=3:=ZG;rcases this with rfl|rfl|rfl|rfl;exact⟨2,ZG,ZG,rfl⟩;exact⟨3,ZG,ZG,rfl⟩;exact⟨1,ZG,ZG,rfl⟩;exact⟨4,ZG,ZG,rfl⟩
theorem IC:∀(xs:Pa),(∀x∈xs,0<=x/\x<=3)->0<=a8 xs/\a8 xs<=3 ^ xs.length|[],_=>by simp[a8]|x::r,h=>by have hx:=h x Z2;have hr:=IC r fun y hy=>h y (Z1 _ hy);simp only[a8,List.length_cons];refine⟨DN hx.1 hr.1,?_⟩;have:x*a8 r<=3*3 ^ r.length:=Int.mul_le_mul hx.2 hr.2 hr.1 ZG;rw[Int.pow_succ];lia
theorem XM(xs:Pa)(hl:xs.length<=3)(h:∀x∈xs,0<=x/\x<=3):SI xs:=by
 refine⟨ZG,fun x hx=>by have:=h x hx;lia,?_⟩;have p:=(IC xs h).2;have:(3:Int) ^ xs.length<=27:=by
  generalize xs.length=n at *
  match n,hl with|0,_=>decide|1,_=>decide|2,_=>decide|3,_=>decide
 lia
theorem noLs_T:∀ss:Pk,noLs (ss.map T)=true
|[]=>rfl|s::ss=>by
 have:QY (T s)=true:=by unfold T;rw[QY];induction s with|nil=>rfl|cons x s ih=>rw[ZZ,noLs,QY,ih];rfl
 rw[ZZ,noLs,this,noLs_T ss];rfl
def ye(t:Sl×Sl×Sl):Prop:=free (some t.1)=true/\free (some t.2.1)=true/\free (some t.2.2)=true
def Oj(t:Sl×Sl×Sl×Sl):Prop:=free (some t.1)=true/\free (some t.2.1)=true/\free (some t.2.2.1)=true/\free (some t.2.2.2)=true
theorem Jh(gs:Pk)(t:Pa)(h:gs.length<=100):gb (T t) (bY gs)=some (bY (gs++[t])):=by unfold bY;rw[ip _ _ (by simp;lia),Uh];rfl
theorem wC(ns:Pa)(p:Nat):∃(ls:R4)(ss gs:Pk)(ix_ q:Nat),ua [Row ns p]=.ok (.tup [Pg ls,bY ss,.int gs.length,bY gs]) [Row ns q]/\Gd gs ls ss ix_/\Ar gs/\ls.length<=14:=by
 obtain⟨z,t2,z0,z2⟩:=bN ns p 2 ZG;obtain⟨n,hn,OR⟩:∃n:Nat,aY (.int 1) (.int z)=some (.int (n:Int))/\1<=n/\n<=2:=⟨(1+z).toNat,congrArg (fun z=>some (D.int z)) ZG,ZG,ZG⟩;have er:=qj n ZG;obtain⟨⟨q1,gs⟩,t,⟨qU,Ia⟩,ht,L⟩:=cz (g:=aD 2) (body:=ek) (fun(k:Nat)=>D.int k) (fun(s:Nat×List (List Int))(t:Sl×Sl)=>[.io (Row ns s.1),.ow (bY s.2),t.1,t.2,.no,.no,.no,.no,.no,.no,.no,.no]) j6 (List.range n) (fun k s=>s.2.length=k/\Ar s.2) (p+1,[]) (.no,.no) ⟨rfl,rfl⟩ ⟨rfl,fun s hs=>by simp at hs⟩ (by
  intro i k hk s t ht hP;obtain⟨q,gs⟩:=s;obtain⟨t3,t4⟩:=t;obtain⟨f3,f4⟩:=ht;obtain⟨hl,b8⟩:=hP;dsimp only at f3 f4 hl b8;obtain⟨rfl,hk⟩:=dz hk;obtain⟨m,tk,YD⟩:=drawn ns q 4 ZG;have tk:bu [Row ns q,.int 4]=.ok (.int m) [Row ns (q+1)]:=tk;have er:=qj m ZG;obtain⟨q',ys,hc,he⟩:=lS (it:=cJ [(af 3)]) (elt:=gc) (k:=12) (r0:=[.io (Row ns (q+1)),.ow (bY gs),.sh (.int k),.sh (.int m),.no,.no,.no,.no,.no,.no,.no,.no]) (fun(k:Nat)=>D.int k) (fun q=>[.io (Row ns q),.ow (bY gs),.sh (.int k),.sh (.int m),.no,.no,.no,.no,.no,.no,.no,.no]) (fun _ y=>0<=y/\y<=3) (List.range m) (q+1) (fun _=>rfl) aI (by simp;lia) (fun j _ q'=>by obtain⟨x,t8,x0,x8⟩:=bN ns q' 8 ZG;obtain⟨v,v0,v3,iv⟩:=UO x x0 x8;exact⟨q'+1,v,⟨v0,v3⟩,fun acc=>by unfold gc;exact aI⟩);have yl:=he.len;simp only[List.length_range] at yl;have hy:SI ys:=XM ys ZG fun y hy=>by obtain⟨_,_,h⟩:=he.right y hy;exact h
  have ap:=Jh gs ys ZG;refine⟨(q',gs++[ys]),(.sh (.int k),.sh (.int m)),⟨by simp[hl],fun x hx=>?_⟩,⟨rfl,rfl⟩,?_⟩;rcases List.mem_append.mp hx with hx|hx;exact b8 x hx;have:x=ys:=by simpa using hx
  subst this;exact hy;have e:aD 2 (.int (k:Int)) [.io (Row ns q),.ow (bY gs),t3,t4,.no,.no,.no,.no,.no,.no,.no,.no]=.ok () [.io (Row ns q),.ow (bY gs),.sh (.int k),t4,.no,.no,.no,.no,.no,.no,.no,.no]:=by simp[f3]
  dsimp only;rw[bw,e,ay,show ek _=.ok .nx _ by unfold ek;exact aI];rfl)
 obtain⟨t3,t4⟩:=t;obtain⟨f3,f4⟩:=ht;simp only[List.length_range] at qU;dsimp only at qU Ia f3 f4 L;obtain⟨x,tv,x0,x4⟩:=bN ns q1 4 ZG;obtain⟨v,v0,v4,iv⟩:=UN x x0 x4;have hv:SI [v]:=⟨ZH,fun x hx=>by simp at hx;lia,by simp[a8];lia⟩;have ap:gb (.tup [.int v]) (bY gs)=some (bY (gs++[[v]])):=Jh gs [v] ZG;have EM:Ar (gs++[[v]]):=fun x hx=>by
  rcases List.mem_append.mp hx with hx|hx;exact Ia x hx;have:x=[v]:=by simpa using hx
  subst this;exact hv
 have qV:sd (gs++[[v]]) ((gs++[[v]]).length-1)=[v]:=by simp[sd]
 have Yv:2<=(gs++[[v]]).length/\(gs++[[v]]).length<=3:=by simp;lia
 generalize Yw:gs++[[v]]=gz at *;have ln:=eZ gz;obtain⟨tn,tt,Xh⟩:=drawn ns (q1+1) gz.length ZG;have Yl:=qj gz.length ZG;let pl:=fun(k:Nat)=>PL.given (((k+tn) % gz.length:Nat));have c6:aS 1 (cJ [(af 4)]) (aD 12) (VP.ret true) dR [.io (Row ns (q1+2)),.ow (bY gz),t3,t4,.sh (.int gz.length),.sh (.int tn),.no,.no,.no,.no,.no,.no]=.ok (Pg ((List.range gz.length).map pl)) [.io (Row ns (q1+2)),.ow (bY gz),t3,t4,.sh (.int gz.length),.sh (.int tn),.no,.no,.no,.no,.no,.no]:=by refine gT (fun(k:Nat)=>D.int k) (fun k=>(pl k).d) (List.range gz.length) aI (by simp;lia) (by simp[Pg,Function.comp_def]) fun k hk acc=>?_;have md:=hJ ((k:Int)+tn) gz.length ZG;rw[show ((k:Int)+tn) % (gz.length:Int)=(((k+tn) % gz.length:Nat):Int) by simp] at md;show dR _=.ok (.tup [.str (nm 0),.int (((k+tn) % gz.length:Nat):Int)]) _;generalize (k+tn) % gz.length=m at *;unfold dR;exact aI
 let sl:=fun(k:Nat)=>sd gz ((k+tn) % gz.length);have c7:aS 1 (dk (af 6)) (aD 12) (VP.ret true) dS [.sh (Row ns (q1+2)),.sh (bY gz),de t3,de t4,.sh (.int gz.length),.sh (.int tn),.sh (Pg ((List.range gz.length).map pl)),.no,.no,.no,.no,.no]=.ok (.lst (((List.range gz.length).map sl).map T)) [.sh (Row ns (q1+2)),.sh (bY gz),de t3,de t4,.sh (.int gz.length),.sh (.int tn),.sh (Pg ((List.range gz.length).map pl)),.no,.no,.no,.no,.no]:=by refine gT (fun(k:Nat)=>(pl k).d) (fun k=>T (sl k)) (List.range gz.length) (by simp[DI,Function.comp_def]) (by simp;lia) (by simp[Function.comp_def]) fun k hk acc=>?_;have ib:=cy gz ((k+tn) % gz.length) (Nat.mod_lt _ ZG);have i1:aq (pl k).d (.int 1)=some (.int (((k+tn) % gz.length:Nat))):=rfl;generalize (pl k).d=ld at *;rw[show sl k=sd gz ((k+tn) % gz.length) from rfl];generalize (k+tn) % gz.length=j at ib i1 ⊢;unfold dS;exact aI
 have nl:=noLs_T ((List.range gz.length).map sl);have v7:kf (aS 1 (dk (af 6)) (aD 12) (VP.ret true) dS) [.io (Row ns (q1+2)),.ow (bY gz),t3,t4,.sh (.int gz.length),.sh (.int tn),.ow (Pg ((List.range gz.length).map pl)),.no,.no,.no,.no,.no]=.ok (bY ((List.range gz.length).map sl)) [.io (Row ns (q1+2)),.ow (bY gz),t3,t4,.sh (.int gz.length),.sh (.int tn),.ow (Pg ((List.range gz.length).map pl)),.no,.no,.no,.no,.no]:=by rw[uA];simp only[List.map_cons,List.map_nil,DW,lG,lH,pR];rw[c7,va _ _ _ nl];rfl
 obtain⟨ix_,YB⟩:∃ix_:Nat,ix_=gz.length-1-tn:=⟨_,rfl⟩;have mi:nL (.int ((gz.length:Int)-1-tn)) (.int gz.length)=some (.int (ix_:Int)):=by rw[hJ _ _ ZG,Int.emod_eq_of_lt ZG ZG];exact congrArg (fun z=>some (D.int z)) ZG
 have G0:Gd gz ((List.range gz.length).map pl) ((List.range gz.length).map sl) ix_:=by
  have es:∀i,i<gz.length->sd ((List.range gz.length).map sl) i=sl i:=fun i hi=>by simp[sd,hi]
  refine⟨ZH,fun i l hl r hr=>?_,fun i l hl=>?_,fun s hs=>?_,by simp;lia,?_,fun z=>?_⟩;obtain⟨k,_,rfl⟩:=List.mem_map.mp (Z3 hl);simp[pl,PL.ns] at hr;have hi:=(List.getElem?_eq_some_iff.mp hl).1;simp only[List.length_map,List.length_range] at hi;have:l=pl i:=by simpa[hi] using hl.symm
  subst this;rw[es i hi];exact⟨(i+tn) % gz.length,rfl,Nat.mod_lt _ ZG,rfl⟩;obtain⟨k,hk,rfl⟩:=List.mem_map.mp hs;exact EM.at (Nat.mod_lt _ ZG);rw[es _ ZG];show (sd gz ((ix_+tn) % gz.length)).length=1;rw[show ix_+tn=gz.length-1 by lia,Nat.mod_eq_of_lt ZG,qV];rfl;have:=congrArg List.length z;rw[Zf,Zl,List.length_nil] at this;lia
 have Vx:((List.range gz.length).map pl).length<=3:=by simp;lia
 generalize ((List.range gz.length).map pl)=Xz at *;generalize ((List.range gz.length).map sl)=XS at *;obtain⟨y,YX,y0,Y0⟩:=bN ns (q1+2) 10 ZG;obtain⟨Uk,W6,VA⟩:∃n:Nat,aY (.int 1) (.int y)=some (.int (n:Int))/\n<=10:=⟨(1+y).toNat,congrArg (fun z=>some (D.int z)) ZG,ZG⟩;have Ws:=qj Uk ZG;obtain⟨⟨q3,ls,ss⟩,t,⟨Vy,hG⟩,ht,L5⟩:=cz (g:=aD 2) (body:=el) (fun(k:Nat)=>D.int k) (fun(s:Nat×List PL×List (List Int))(t:Sl×Sl×Sl×Sl)=>Fp ns gz gz.length tn ix_ s.2.1 s.2.2 s.1 t.1 t4 t.2.1 t.2.2.1 t.2.2.2) Oj (List.range Uk) (fun k s=>s.2.1.length<=3+k/\Gd gz s.2.1 s.2.2 ix_) (q1+3,Xz,XS) (t3,.no,.no,.no) ⟨f3,rfl,rfl,rfl⟩ ⟨ZG,G0⟩ (by intro i k hk s t ht hP;obtain⟨q,ls,ss⟩:=s;obtain⟨s2,s9,Ef,z8⟩:=t;obtain⟨g2,g9,RM,Vl⟩:=ht;obtain⟨hl,hG⟩:=hP;dsimp only at g2 g9 RM Vl hl hG;obtain⟨rfl,hk⟩:=dz hk;obtain⟨l,t,q',Sf,GL,GN,e,WC,k9,Xu,Xv⟩:=Q1 ns gz EM ZG tn ix_ ls ss hG ZG q (.sh (.int k)) t4 s9 Ef z8 g9 RM Vl;refine⟨(q',ls++[l],ss++[t]),(.sh (.int k),Sf,GL,GN),⟨by simp;lia,WC⟩,⟨rfl,k9,Xu,Xv⟩,?_⟩;dsimp only;rw[bw,show aD 2 (.int (k:Int)) (Fp ns gz gz.length tn ix_ ls ss q s2 t4 s9 Ef z8)=.ok () (Fp ns gz gz.length tn ix_ ls ss q (.sh (.int k)) t4 s9 Ef z8) by simp[Fp,g2],ay,e];rfl);obtain⟨s2,s9,Ef,z8⟩:=t;simp only[List.length_range] at Vy;dsimp only[Fp] at Vy hG L5;have Tf:bY []=.lst []:=rfl;rw[Tf] at L;refine⟨ls,ss,gz,ix_,q3,?_,hG,EM,ZG⟩;clear G0 hG EM Ia nl c7 qV;unfold ua AR;exact rn
theorem yB(xs:Pa)(n:Nat)(hx:xs.length<=100)(hn:n<=100):ue [T xs,.int n]=.ok (Z (ahead xs n)) []:=by
 rw[ue,eV _ _ _ _ rfl];unfold Bn;have er:qi [.int ((n:Int)-xs.length)]=some ((List.range (n-xs.length)).map fun(k:Nat)=>.int k):=ly _ _ ZG ZG ZG;have hc:aS 1 (cJ [m2 gA (af 1) (m1 bB (af 0))]) (aD 2) (VP.ret true) fj [.sh (T xs),.sh (.int n)]=.ok (Z (List.replicate (n-xs.length) 1)) [.sh (T xs),.sh (.int n)]:=by rw[Jp (ds:=(List.range (n-xs.length)).map fun(k:Nat)=>.int k) (fun _=>.int 1)];congr 1;simp[Z,Function.comp_def,List.map_const'];simp[er];rfl;simp;lia;intro d _ acc;rfl
 have e2:aY (Z (List.replicate (n-xs.length) 1)) (Z xs)=some (Z (ahead xs n)):=by rw[Jf];rfl;simp[iS];lia
 simp[hc,e2]
theorem PM(one other:Pa)(h1:one.length<=100)(h2:other.length<=100):mZ [T one,T other]=.ok (zT (meet one other)) []:=by
 rw[mZ,eV _ _ _ _ rfl];have L:=kA (g:=cW [4,5]) (body:=eA) (fun(p:Int×Int)=>D.tup [.int p.1,.int p.2]) (fun(s:Pa)(t:Sl×Sl)=>[.sh (T one),.sh (T other),.sh (.int (max one.length other.length:Nat)),.ow (Z s),t.1,t.2]) j6 IJ (pairs one other).reverse (fun k s=>s.length=k) [] (.no,.no) ⟨rfl,rfl⟩ rfl ?_;rw[qQ] at L;have em:((max one.length other.length:Nat):Int)=max (one.length:Int) other.length:=ZJ;have ez:mQ [Z (ahead one (max one.length other.length)),Z (ahead other (max one.length other.length))]=some ((pairs one other).reverse.map fun p=>.tup [.int p.1,.int p.2]):=by rw[Al _ _ _ _ rfl rfl,jV]
 have o1:=yB one (max one.length other.length) h1 ZJ;have o2:=yB other (max one.length other.length) h2 ZJ;rw[em] at o1 o2;simp only[em] at L;unfold Bb meet;rw[Mb] at L;by_cases q:(pairs one other).all (fun p=>pj p.1 p.2)=true;rw[ZY q] at L;obtain⟨_,t,_,L⟩:=L;rw[ZY q];simp only[List.nil_append] at L;simp[Pr,o1,o2,ez,L,zT,-List.map_reverse,-List.map_map];rw[zv];rw[Za q] at L;obtain⟨s',t,L⟩:=L;rw[Za q];simp[Pr,o1,o2,ez,L,zT,-List.map_reverse,-List.map_map];intro i p hp acc t ht hP;have hi:=(List.getElem?_eq_some_iff.mp hp).1;obtain⟨t4,t5⟩:=t;obtain⟨h4,h5⟩:=ht;dsimp only at h4 h5 hP;have e1:∀x:Int,gb (.int x) (Z acc)=some (Z (acc++[x])):=fun x=>Ay _ _ (by simp[pairs] at hi;omega);have x1:bw (cW [4,5]) eA (.tup [.int p.1,.int p.2]) [.sh (T one),.sh (T other),.sh (.int (max one.length other.length:Nat)),.ow (Z acc),t4,t5]=if pj p.1 p.2 then .ok .nx [.sh (T one),.sh (T other),.sh (.int (max one.length other.length:Nat)),.ow (Z (acc++[pk p.1 p.2])),.sh (.int p.1),.sh (.int p.2)] else .ok (.rt .bz) [.sh (T one),.sh (T other),.sh (.int (max one.length other.length:Nat)),.ow (Z acc),.sh (.int p.1),.sh (.int p.2)]:=by
  have g6:cW [4,5] (.tup [.int p.1,.int p.2]) [.sh (T one),.sh (T other),.sh (.int (max one.length other.length:Nat)),.ow (Z acc),t4,t5]=.ok () [.sh (T one),.sh (T other),.sh (.int (max one.length other.length:Nat)),.ow (Z acc),.sh (.int p.1),.sh (.int p.2)]:=by simp[h4,h5]
  have n1:=di p.1 p.2;have n2:=di p.1 1;have n3:=di p.2 1;have n4:=gI p.1 1;have e2:pj p.1 p.2=(decide (p.1=1)||decide (p.2=1)||decide (p.1=p.2)):=by simp[pj,Bool.or_assoc]
  have e3:pk p.1 p.2=if decide (p.1=1)=true then p.2 else p.1:=by simp[pk]
  have Wq:=e1 p.1;have Wr:=e1 p.2;rw[e2,e3,bw,g6,ay];clear e1 e2 e3 g6;generalize decide (p.1=1)=b1 at *;generalize decide (p.2=1)=b2 at *;generalize decide (p.1=p.2)=b3 at *;generalize (max one.length other.length:Nat)=mx at *;generalize T one=O1 at *;generalize T other=O2 at *;unfold eA;cases b1;cases b2;cases b3;exact aI;exact aI;cases b3<;>exact aI;cases b2<;>cases b3<;>exact aI
 unfold IJ;dsimp only;rw[x1];by_cases q:pj p.1 p.2=true;rw[ZY q,ZY q];exact⟨by simp[hP],(_,_),⟨rfl,rfl⟩,rfl⟩;rw[Za q,Za q];exact⟨acc,(_,_),rfl⟩
theorem sC{s t m:Pa}(h1:s.length<=100)(h2:t.length<=100)(e:meet s t=some m):mZ [T s,T t]=.ok (T m) []:=by have:=PM s t h1 h2;rwa [e] at this
theorem lJ(s:Pa)(k:Nat)(hk:k<s.length)(hl:s.length<=100):oH [T s,.int k]=.ok (T (wo s k)) []:=by have a2:aY (T (s.take k)) (T (s.drop (k+1)))=some (T (wo s k)):=eN _ _ (by simp[iS];omega);have c1:=qF s k ZJ;have c2:=qE s (k+1) ZJ;rw[show (((k+1:Nat)):Int)=(k:Int)+1 by omega] at c2;unfold oH Bo;exact rn
theorem mG(s:Pa)(k:Nat)(x:Int)(hk:k<s.length)(hl:s.length<=100):qN [T s,.int k,.int x]=.ok (T (rep s k x)) []:=by have a1:aY (T (s.take k)) (.tup [.int x])=_:=eN (s.take k) [x] (by simp[iS];lia);have a2:=eN (s.take k++[x]) (s.drop (k+1)) (by simp[iS];lia);have c1:=qF s k ZG;have c2:=qE s (k+1) ZG;rw[show (((k+1:Nat)):Int)=(k:Int)+1 by lia] at c2;rw[show s.take k++[x]++s.drop (k+1)=rep s k x by simp[rep]] at a2;unfold qN A7;exact rn
theorem Gv(s:Pa)(k:Nat)(x:Int)(hk:k<=s.length)(hl:s.length<=100):xQ [T s,.int k,.int x]=.ok (T (pin s k x)) []:=by have a1:aY (T (s.take k)) (.tup [.int x])=_:=eN (s.take k) [x] (by simp[iS];lia);have a2:=eN (s.take k++[x]) (s.drop k) (by simp[iS];lia);have c1:=qF s k ZG;have c2:=qE s k ZG;rw[show s.take k++[x]++s.drop k=pin s k x by simp[pin]] at a2;unfold xQ A5;exact rn
theorem eR(s:Pa)(k:Nat)(hk:k<s.length):j0 [T s,.int k]=.ok (.bl true) []:=by
 have e1:pW (.int 0) (.int (k:Int))=some (.bl true):=by rw[gi,Y9 ZG]
 have e2:ltI (.int (k:Int)) (.int s.length)=some (.bl true):=by rw[mf,Y9 ZG]
 unfold j0 AJ;exact rn
theorem ku(s:Pa)(k:Nat)(p:Int)(hk:k<s.length)(h0:0<=p)(h1:p<s.getD k 0):qI [T s,.int k,.int p]=.ok (.bl true) []:=by
 have e1:pW (.int 0) (.int p)=some (.bl true):=by rw[gi,Y9 h0]
 have e2:ltI (.int p) (.int (s.getD k 0))=some (.bl true):=by rw[mf,Y9 h1]
 have hs:=eR s k hk;have i1:=r8 s k hk;unfold qI AI;exact rn
theorem EH(d:Nat)(s:Pa)(k:Nat)(hk:k<s.length)(hl:s.length<=100)(hd:d∈[19,21,22,23])(h0:s.getD k 0=0->d≠22/\d≠23):xG [.str (nm d),T s,.int k]=.ok (T (wo s k)) []:=by
 have hs:=eR s k hk;have i1:=r8 s k hk;have w:=lJ s k hk hl;generalize s.getD k 0=z at *;unfold xG AH;by_cases z0:z=0;have h1:=h0 z0;have i2:inD false (.str (nm d)) (.tup [.str (nm 22),.str (nm 23)])=some (.bl false):=by simp only[List.mem_cons,List.not_mem_nil,or_false] at hd;rcases hd with rfl|rfl|rfl|rfl;kernel_rfl!;kernel_rfl!;exact absurd rfl h1.1;exact absurd rfl h1.2
 exact rn;exact rn
theorem Gk(s:Pa)(k:Nat)(y:Int)(hk:k<s.length)(hl:s.length<=100):xO [T s,.int k,T [y]]=.ok (T (rep s k y)) []:=by have hs:=eR s k hk;have w:=mG s k y hk hl;have ln:bB (T [y])=some (.int 1):=rfl;have i1:aq (T [y]) (.int 0)=some (.int y):=rfl;unfold xO A3;exact rn
theorem E7(s t:Pa)(k:Nat)(hk:k<s.length)(hl:s.length<=100)(h1:s.length=t.length)(h2:wo s k=wo t k):xI [T s,T t,.int k]=.ok (T (rep s k (s.getD k 0+t.getD k 0))) []:=by
 have hs:=eR s k hk;have w:=mG s k (s.getD k 0+t.getD k 0) hk hl;have w1:=lJ s k hk hl;have w2:=lJ t k ZG ZG;have i1:=r8 s k hk;have i2:=r8 t k ZG;have n1:fW (.int (s.length:Int)) (.int t.length)=some (.bl false):=by rw[di,Y9 ZG];rfl
 have n2:fW (T (wo s k)) (T (wo t k))=some (.bl false):=by rw[CV,Y9 h2];rfl
 unfold xI AM;exact rn
theorem Q11(s o:Pa)(hl:s.length<=60)(h1:sortI o=nP s.length)(h2:o.length=s.length):xZ [T s,T o]=.ok (T (o.map fun x=>s.getD x.toNat 0)) []:=by
 have e1:=GZ o ZG;have e2:=Ff s.length ZG;have e3:fW (Z (sortI o)) (Z (nP s.length))=some (.bl false):=by rw[PY,Y9 h1];rfl
 have c:aS 1 (dk (af 1)) (aD 2) (VP.ret true) dX [.sh (T s),.sh (T o)]=.ok (Z (o.map fun x=>s.getD x.toNat 0)) [.sh (T s),.sh (T o)]:=by refine gT D.int (fun x=>D.int (s.getD x.toNat 0)) o aI ZG (by simp[Z,Function.comp_def]) fun x hx acc=>?_;obtain⟨j,rfl,hj⟩:=mK h1 hx;have ix:aq (T s) (.int j)=some (.int (s.getD (j:Int).toNat 0)):=fS s j ZG ZG;unfold dX;exact aI
 unfold xZ Bg;exact rn
theorem Oe(s:Pa)(k:Nat)(b st m:Int)(hk:k<s.length)(hl:s.length<=100)(ja:st≠0/\-3<=st/\st<=3)(hm:0<=m)(hp:0<m->(0<=b/\b<s.getD k 0)/\0<=b+st*(m-1)/\b+st*(m-1)<s.getD k 0):xE [T s,.int k,.int b,.int st,.int m]=.ok (T (rep s k m)) []:=by have hs:=eR s k hk;have w:=mG s k m hk hl;have c1:¬st=0:=ja.1;have c2:¬m<0:=ZG;unfold xE AF;by_cases c3:0<m;have h:=hp c3;have p1:=ku s k b hk h.1.1 h.1.2;have p2:=ku s k _ hk h.2.1 h.2.2;have mu:=mq st (m-1) ZG ZG;exact rn;exact rn
theorem BC(s:Pa)(k:Nat)(p:Int)(hk:k<s.length)(hl:s.length<=100)(h0:0<=p)(h1:p<s.getD k 0):xF [T s,.int k,.int p]=.ok (T (wo s k)) []:=by have p1:=ku s k p hk h0 h1;have w:=lJ s k hk hl;unfold xF AG;exact rn
theorem Q0R{s t u m n:Pa}(hs:s.length<=4)(ht:t.length<=4)(hu:u.length<=4)(e1:meet s t=some m)(e2:meet m u=some n):xY [T s,T t,T u]=.ok (T n) []:=by have ml:=gn e1;have m1:=sC ZG ZG e1;have m2:=sC ZG ZG e2;have n1:=CZ m;unfold xY Bf;exact rn
theorem Q16(body:M Fl)(hb:body=dt)(xs:Pa)(h:Sm xs)(d:D):∃t,loop (aD 2) body (xs.map .int) [.sh d,.sh (.int 1),.no]=.ok .nx [.sh d,.sh (.int (a8 xs)),t]:=by subst hb;obtain⟨_,t,_,L⟩:=iG (g:=aD 2) (body:=dt) D.int (fun(s:Int)(t:Sl)=>[.sh d,.sh (.int s),t]) qR (fun _ _=>True) (fun p x=>p*x) xs 1 .no rfl trivial (by intro i x hx p t ht _;have hm:=h x (Z3 hx);have hf:free (some t)=true:=ht;refine⟨trivial,.sh (.int x),rfl,?_⟩;simp[bw,dt,hf,gp p x ZG ZG]);rw[kE,Int.one_mul] at L;exact⟨t,L⟩
theorem iz(xs:Pa)(h:Sm xs):oC [T xs]=.ok (.int (a8 xs)) []:=by rw[oC,eV _ _ _ _ rfl];obtain⟨t,L⟩:=Q16 dt rfl xs h (T xs);simp[AE,L]
theorem Ew(s:Pa)(h:SI s):xT [T s]=.ok (.bl true) []:=by
 have hl:=h.1;have c:aS 1 (dk (af 0)) (aD 1) (VP.ret true) dW [.sh (T s)]=.ok (.lst (s.map fun x=>D.bl true)) [.sh (T s)]:=by
  refine gT D.int (fun x=>D.bl true) s aI ZJ rfl fun x hx acc=>?_;have hb:=h.2.1 x hx;have e1:pW (.int 0) (.int x)=some (.bl true):=by rw[gi,Y9 hb.1]
  have e2:pW (.int x) (.int 64)=some (.bl true):=by rw[gi,Y9 ZJ]
  unfold dW;exact aI
 have e:nB true (.lst (s.map fun x=>D.bl true))=some (.bl true):=by rw[Av (fun _=>true) s];simp
 have hc:=iz s fun x hx=>by have:=h.2.1 x hx;omega
 have l4:¬(4:Int)<s.length:=ZJ;have e4:pW (.int (a8 s)) (.int 4096)=some (.bl true):=by rw[gi,Y9 (by have:=h.2.2;omega)]
 unfold xT A9;exact rn
theorem PL.Ny(l:PL):mX [l.d]=.ok (eL l.ns) []:=l.named
theorem Cz{n:Nat}{G S:Nat->Pa}{l:PL}{t:Pa}(h:Told n G S l t):BQ [l.d]=.ok (.bl true) []:=by
 cases l with
 |one d a=>obtain⟨⟨h1,h2⟩,_⟩:=h;have:d=16\/d=17\/d=18:=ZG;rcases this with rfl|rfl|rfl<;>kernel_rfl!
 |both d a b=>obtain⟨⟨h1,h2⟩,_⟩:=h;have:d=19\/d=20\/d=21\/d=22\/d=23\/d=24\/d=25:=ZG;rcases this with rfl|rfl|rfl|rfl|rfl|rfl|rfl<;>kernel_rfl!
 |fold d a k=>obtain⟨_,_,_,h,_⟩:=h;simp only[List.mem_cons,List.not_mem_nil,or_false] at h;rcases h with rfl|rfl|rfl|rfl<;>kernel_rfl!
 |run d a k=>obtain⟨_,_,_,h,_⟩:=h;simp only[List.mem_cons,List.not_mem_nil,or_false] at h;rcases h with rfl|rfl|rfl|rfl<;>kernel_rfl!
 |_=>kernel_rfl!
theorem IH(x:Int)(h:Rt x):tX [.int x]=.ok (.bl true) []:=by
 have e1:pW (.int 0) (.int x)=some (.bl true):=by rw[gi,Y9 h.1]
 have e2:ltI (.int x) (.int 1000003)=some (.bl true):=by rw[mf,Y9 h.2]
 unfold tX AL;exact rn
theorem EA{n:Nat}{G S:Nat->Pa}{l:PL}{t:Pa}(h:Told n G S l t):mY [l.d]=.ok (.bl true) []:=by
 by_cases c1:l.k=1;cases l<;>simp only[PL.k] at c1<;>try lia
 rename_i s x;have r:=IH x h.2;show mY [.tup [.str (nm 1),T s,.int x]]=_;unfold mY tN;exact rn;by_cases c8:l.k=8;cases l<;>simp only[PL.k] at c8<;>try lia
 rename_i a k m x;obtain⟨_,_,_,hr,_⟩:=h;have r:=IH x hr;have ne:=VV 8 8 (by decide) (by decide);show mY [.tup [.str (nm 8),.int a,.int k,.int m,.int x]]=_;unfold mY tN;exact rn;have k1:=l.kind;have Ua:=l.Pd;have e1:b7 (.str (nm l.k)) (.str (nm 1))=some (.bl false):=by rw[HQ _ _ ZG ZG,Z0 c1]
 have e2:fW (.str (nm l.k)) (.str (nm 8))=some (.bl true):=by rw[VV _ _ ZG ZG,Z0 c8];rfl
 generalize l.d=ld at *;unfold mY tN;exact rn
theorem DQ{n:Nat}{G S:Nat->Pa}{l:PL}{t:Pa}{m:Nat}(h:Told n G S l t)(hl:∀r∈l.ns,r<m):qM [l.d,.int m,.int n]=.ok (.bl true) []:=by
 by_cases c0:l.k=0;cases l<;>simp only[PL.k] at c0<;>try lia
 obtain⟨k,rfl,hk,_⟩:=h;have e1:pW (.int 0) (.int (k:Int))=some (.bl true):=by rw[gi,Y9 ZG]
 have e2:ltI (.int (k:Int)) (.int n)=some (.bl true):=by rw[mf,Y9 ZG]
 show qM [.tup [.str (nm 0),.int (k:Int)],.int m,.int n]=_;unfold qM xp;exact rn;have k1:=l.kind;have Ua:=l.Pd;have lf:=l.j4;have e1:b7 (.str (nm l.k)) (.str (nm 0))=some (.bl false):=by rw[HQ _ _ ZG ZG,Z0 c0]
 have nb:=l.Ny;generalize l.d=ld at *;have c:aS 1 (dk (ax mX [.val (af 0)])) (aD 3) (VP.ret true) cM [.sh ld,.sh (.int m),.sh (.int n)]=.ok (.lst (l.ns.map fun _=>D.bl true)) [.sh ld,.sh (.int m),.sh (.int n)]:=by
  have sq:cq (eL l.ns)=some (l.ns.map fun a=>D.int (a:Nat)):=rfl;refine gT (fun a=>D.int (a:Nat)) (fun _=>D.bl true) l.ns aI ZG rfl fun a ha acc=>?_;have hb:=hl a ha;have e1:pW (.int 0) (.int (a:Int))=some (.bl true):=by rw[gi,Y9 ZG]
  have e2:ltI (.int (a:Int)) (.int m)=some (.bl true):=by rw[mf,Y9 ZG]
  unfold cM;exact aI
 have e:nB true (.lst (l.ns.map fun _=>D.bl true))=some (.bl true):=by rw[Av (fun _=>true) l.ns];simp
 unfold qM xp;exact rn
theorem G7{gs ss:Pk}{l:PL}{t:Pa}(h:Told gs.length (sd gs) (sd ss) l t)(hl:∀r∈l.ns,r<ss.length)(si:Ar ss)(ht:SI t):d7 [l.d,bY ss,bY gs]=.ok (T t) [bY ss]:=by
 have key:∀a,a∈l.ns->aq (bY ss) (.int (a:Int))=some (T (sd ss a))/\(sd ss a).length<=4/\SI (sd ss a):=fun a ha=>⟨cy ss a (hl a ha),(si.at (hl a ha)).1,si.at (hl a ha)⟩;have sm:∀s,SI s->Sm s:=fun s h x hx=>by have:=h.2.1 x hx;lia
 cases l<;>simp only[PL.ns,List.mem_cons,List.not_mem_nil,or_false,forall_eq_or_imp,forall_eq] at key<;>simp only[PL.d,PL.k,PL.ps];rename_i j;obtain⟨k,rfl,hk,rfl⟩:=h;have ib:=cy gs k hk;unfold d7 eI;exact rn;rename_i s x;obtain⟨rfl,_⟩:=h;unfold d7 eI;exact rn;rename_i a o;obtain⟨h1,h2,rfl⟩:=h;obtain⟨ia,il,_⟩:=key;have w:=Q11 _ _ ZG h1 h2;have v:gK [.tup [.str (nm 2),.int a,T o],T (sd ss a)]=.ok (T (o.map fun x=>(sd ss a).getD x.toNat 0)) []:=by unfold gK mW;exact rn
 unfold d7 eI;exact rn;rename_i a k b st m;obtain⟨j,rfl,hj,h1,h2,h3,rfl⟩:=h;obtain⟨ia,il,_⟩:=key;have w:=Oe _ _ b st m hj ZG h1 h2 h3;have v:gK [.tup [.str (nm 3),.int a,.int (j:Int),.int b,.int st,.int m],T (sd ss a)]=.ok (T (rep (sd ss a) j m)) []:=by unfold gK mW;exact rn
 unfold d7 eI;exact rn;rename_i a k p;obtain⟨j,rfl,hj,h1,rfl⟩:=h;obtain⟨ia,il,_⟩:=key;have w:=BC _ _ p hj ZG h1.1 h1.2;have v:gK [.tup [.str (nm 4),.int a,.int (j:Int),.int p],T (sd ss a)]=.ok (T (wo (sd ss a) j)) []:=by unfold gK mW;exact rn
 unfold d7 eI;exact rn;rename_i a k;obtain⟨j,rfl,hj,rfl⟩:=h;obtain⟨ia,il,_⟩:=key;have w:=Gv (sd ss a) j 1 hj ZG;have e1:pW (.int 0) (.int (j:Int))=some (.bl true):=by rw[gi,Y9 ZG]
 have e2:pW (.int (j:Int)) (.int (sd ss a).length)=some (.bl true):=by rw[gi,Y9 ZG]
 have v:gK [.tup [.str (nm 5),.int a,.int (j:Int)],T (sd ss a)]=.ok (T (pin (sd ss a) j 1)) []:=by unfold gK mW;exact rn
 unfold d7 eI;exact rn;rename_i a u;obtain⟨h1,rfl⟩:=h;obtain⟨ia,il,_⟩:=key;have w:=sC ZG (by have:=ht.1;lia) h1;have e1:b7 (T t) (T t)=some (.bl true):=by rw[BH,Y9 rfl]
 have v:gK [.tup [.str (nm 6),.int a,T t],T (sd ss a)]=.ok (T t) []:=by unfold gK mW;exact rn
 unfold d7 eI;exact rn;rename_i a u;obtain⟨h1,rfl⟩:=h;obtain⟨ia,il,is⟩:=key;have w1:=iz _ (sm _ is);have w2:=iz _ (sm _ ht);have e1:b7 (.int (a8 (sd ss a))) (.int (a8 t))=some (.bl true):=by rw[gI,Y9 h1]
 have v:gK [.tup [.str (nm 7),.int a,T t],T (sd ss a)]=.ok (T t) []:=by unfold gK mW;exact rn
 unfold d7 eI;exact rn;rename_i a k m x;obtain⟨j,rfl,hj,h1,rfl⟩:=h;obtain⟨ia,il,_⟩:=key;have w:=eR _ _ hj;unfold d7 eI;exact rn;rename_i d a;obtain⟨_,rfl⟩:=h;obtain⟨ia,il,_⟩:=key;unfold d7 eI;exact rn;rename_i d a b;obtain⟨_,h1⟩:=h;obtain⟨⟨ia,il,_⟩,ib,R0,_⟩:=key;have w:=sC ZG ZG h1;unfold d7 eI;exact rn;rename_i a b c;obtain⟨u,h1,h2⟩:=h;obtain⟨⟨ia,il,_⟩,⟨ib,R0,_⟩,ic,Xp,_⟩:=key;have w:=Q0R il R0 Xp h1 h2;unfold d7 eI;exact rn;rename_i d a k;obtain⟨j,rfl,hj,h1,h2,rfl⟩:=h;obtain⟨ia,il,_⟩:=key;have w:=EH _ _ _ hj ZG h1 h2;unfold d7 eI;exact rn;rename_i d a k;obtain⟨j,rfl,hj,h1,rfl⟩:=h;obtain⟨ia,il,_⟩:=key;have w:=eR _ _ hj;unfold d7 eI;exact rn;rename_i a k b;obtain⟨j,y,rfl,hj,h1,rfl⟩:=h;obtain⟨⟨ia,il,_⟩,ib,R0,_⟩:=key;rw[h1] at ib;have w:=Gk _ _ y hj ZG;unfold d7 eI;exact rn;rename_i a b k;obtain⟨j,rfl,hj,h1,h2,rfl⟩:=h;obtain⟨⟨ia,il,_⟩,ib,R0,_⟩:=key;have w:=E7 _ _ _ hj ZG h1 h2;unfold d7 eI;exact rn
theorem Fe{gs ss:Pk}{l:PL}{t:Pa}(i:Nat)(h:Told gs.length (sd gs) (sd ss) l t)(hl:∀r∈l.ns,r<ss.length)(si:Ar ss)(ht:SI t):xU [.int i,l.d,bY ss,bY gs]=.ok (T t) [bY ss]:=by have e1:=DQ h hl;have e2:=EA h;have e3:=Cz h;have e4:=G7 h hl si ht;have e5:=Ew t ht;have l1:=eZ ss;have l2:=eZ gs;have n1:=CZ t;generalize l.d=ld at *;unfold xU Ba;exact rn
theorem uW(gs:Pk)(ls:R4)(ss:Pk)(ix_:Nat)(g:Gd gs ls ss ix_)(pV:ls.length<=14):xV [Pg ls,bY gs]=.ok (bY ss) []:=by
 have hn:=List.length_pos_iff.mpr g.ne;have Nv:=g.len;have ln:=jL ls;have en:kR [Pg ls]=some ((List.range ls.length).map fun(i:Nat)=>D.tup [.int i,(fJ ls i).d]):=by rw[<-rV];rfl
 obtain⟨s,t,hs,ht,L⟩:=cz (g:=cW [3,4]) (body:=ff) (fun(i:Nat)=>D.tup [.int i,(fJ ls i).d]) (fun(s:Pk)(t:Sl×Sl)=>[.sh (Pg ls),.sh (bY gs),.ow (bY s),t.1,t.2]) j6 (List.range ls.length) (fun k s=>s=ss.take k) [] (.no,.no) ⟨rfl,rfl⟩ ZH (by
  intro i k hk s t ht hP;obtain⟨rfl,hk⟩:=dz hk;obtain⟨t3,t4⟩:=t;obtain⟨f3,f4⟩:=ht;dsimp only at f3 f4;subst hP;have hl:ls[k]?=some (fJ ls k):=by simp[fJ,hk]
  have tl:(ss.take k).length=k:=by simp;lia
  have es:∀r,r<k->sd (ss.take k) r=sd ss r:=fun r hr=>by simp[sd,hr]
  have lk:=Fe (ss:=ss.take k) k ((g.told k _ hl).mono fun r hr=>es r (g.wf k _ hl r hr)) (fun r hr=>by rw[tl];exact g.wf k _ hl r hr) (fun s hs=>g.si s (LR hs)) (g.si.at ZG);have ap:=Jh (ss.take k) (sd ss k) ZG;rw[show ss.take k++[sd ss k]=ss.take (k+1) by
   have:sd ss k=ss[k]:=by simp[sd,show k<ss.length by lia]
   rw[this];simp] at ap
  generalize (fJ ls k).d=ld at *;refine⟨ss.take (k+1),(.sh (.int k),.sh ld),rfl,⟨rfl,rfl⟩,?_⟩;have e:cW [3,4] (.tup [.int (k:Int),ld]) [.sh (Pg ls),.sh (bY gs),.ow (bY (ss.take k)),t3,t4]=.ok () [.sh (Pg ls),.sh (bY gs),.ow (bY (ss.take k)),.sh (.int k),.sh ld]:=by simp[f3,f4]
  dsimp only;rw[bw,e,ay,show ff _=.ok .nx _ by unfold ff;exact aI];rfl)
 obtain⟨t3,t4⟩:=t;subst hs;dsimp only at L;rw[Zl,zQ ZG] at L;have Tf:bY []=.lst []:=rfl;rw[Tf] at L;have c1:¬(ls.length:Int)=0:=ZG;have c2:¬(40:Int)<ls.length:=ZG;unfold xV Bc;exact rn
def pD(p:Int×Int×Int):D:=.tup [.int p.1,.int p.2.1,.int p.2.2]
def WD(w:R3):D:=.lst (w.map pD)
def NV(m:Nat)(p:Int×Int×Int):Prop:=p.2.1=-1\/0<=p.2.1/\p.2.1<m
def tx(m n:Nat)(w:R3):Prop:=w.length=n/\∀p∈w,NV m p
def pN(x:Int):Int×Int×Int:=(x,-1,0)
theorem wQ(m:Nat)(x:Int):NV m (pN x):=.inl rfl
theorem Ud(w:R3):bB (WD w)=some (.int w.length):=by simp[WD]
theorem MB(w:R3):cq (WD w)=some (w.map pD):=rfl
theorem Pu(w:R3):gZ (WD w)=some (WD w):=rfl
theorem T7(w:R3)(k:Nat)(p:Int×Int×Int)(h:w[k]?=some p):aq (WD w) (.int (k:Int))=some (pD p):=by unfold WD;rw[jK];exact ky _ _ _ ZG (by simp[h])
theorem QG(w:R3)(k:Nat)(p:Int×Int×Int)(h:k<w.length):setAt (.int (k:Int)) (pD p) (WD w)=some (WD (w.set k p)):=by unfold WD;rw[mJ _ _ _ ZG (by simp;lia),ZA,List.map_set]
theorem addW(v w:R3)(h:v.length+w.length<=1000):aY (WD v) (WD w)=some (WD (v++w)):=by unfold WD;rw[kL _ _ (by simp[iS];lia),Uh]
theorem HM(w:R3)(k:Nat)(h:k<=w.length):d6 (WD w) none (some (k:Int))=some (WD (w.take k)):=by unfold WD;rw[tU,cutD,Zf,lA _ _ _ h,jx];simp
theorem Bw(w:R3)(k:Nat)(h:k<=w.length):d6 (WD w) (some (k:Int)) none=some (WD (w.drop k)):=by unfold WD;rw[tU,cutD,Zf,lA _ _ _ h,jx,zQ ZH];simp
theorem u0(n:Nat)(h:n<=100):∃w,oG [.int n]=.ok (WD w) []/\tx n n w:=by
 have er:=qj n ZG;have c:aS 1 (cJ [(af 0)]) (aD 1) (VP.ret true) cQ [.sh (.int n)]=.ok (WD ((List.range n).map fun(k:Nat)=>((0:Int),(k:Int),(1:Int)))) [.sh (.int n)]:=by refine gT (fun(k:Nat)=>D.int k) (fun k=>pD (0,(k:Int),1)) (List.range n) aI (by simp;lia) (by simp[WD,Function.comp_def]) fun k hk acc=>?_;show cQ _=.ok (.tup [.int 0,.int (k:Int),.int 1]) _;unfold cQ;exact aI
 refine⟨(List.range n).map fun(k:Nat)=>((0:Int),(k:Int),(1:Int)),?_,ZH,fun p hp=>?_⟩;generalize (List.range n).map (fun(k:Nat)=>((0:Int),(k:Int),(1:Int)))=w at c;unfold oG Bd;exact rn;obtain⟨k,hk,rfl⟩:=List.mem_map.mp hp;have:=List.mem_range.mp hk;exact .inr ⟨ZH,by simp;lia⟩
theorem pK(x:Int):qL [.int x]=.ok (pD (pN x)) []:=by show _=FR.ok (.tup [.int x,.int (-1),.int 0]) _;unfold qL A2;exact rn
theorem Q0V(m:Nat)(p:Int×Int×Int)(b st:Int)(h:-(2 ^ 64)<st)(h2:st<2 ^ 64)(hp:NV m p):∃p',qK [pD p,.int b,.int st]=.ok (pD p') []/\NV m p':=by obtain⟨x,y,z⟩:=p;have m1:=mq st x h h2;have m2:=mq st z h h2;have s1:=pK (b+st*x);show ∃p',qK [.tup [.int x,.int y,.int z],.int b,.int st]=_/\_;by_cases c:st*z=0;exact⟨pN (b+st*x),by unfold qK xo;exact rn,wQ _ _⟩;refine⟨(b+st*x,y,st*z),?_,hp⟩;show _=FR.ok (.tup [.int (b+st*x),.int y,.int (st*z)]) _;unfold qK xo;exact rn
theorem moved(m n:Nat)(w:R3)(k:Nat)(b st:Int)(h:-(2 ^ 64)<st)(h2:st<2 ^ 64)(hk:k<n)(hw:tx m n w):∃w',qO [WD w,.int k,.int b,.int st]=.ok (WD w') []/\tx m n w':=by obtain⟨hl,hp⟩:=hw;obtain⟨p,VC⟩:∃p,w[k]?=some p:=⟨_,Z4 ZG⟩;obtain⟨p',e,ok⟩:=Q0V m p b st h h2 (hp p (Z3 VC));have i1:=T7 w k p VC;have l1:=Pu w;have s1:=QG w k p' ZG;have il:isLst (some (WD w))=true:=rfl;refine⟨w.set k p',by unfold qO Bj;exact rn,by simp[hl],fun x hx=>?_⟩;rcases List.mem_or_eq_of_mem_set hx with hx|rfl;exact hp x hx;exact ok
theorem turned(m n:Nat)(w:R3)(o:Pa)(hw:tx m n w)(ho:∀x∈o,∃j:Nat,x=j/\j<n):∃w',x9 [WD w,T o]=.ok (WD w') []/\tx m n w':=by
 have l1:=Pu w;have ez:mQ [T o,WD w]=some ((o.zip w).map fun q=>.tup [.int q.1,pD q.2]):=by
  have h:∀(o:Pa)(w:R3),List.zipWith (fun x y=>D.tup [x,y]) (o.map D.int) (w.map pD)=(o.zip w).map fun q=>.tup [.int q.1,pD q.2]:=by intro o;induction o with|nil=>intro w;rfl|cons x o ih=>intro w;cases w with|nil=>rfl|cons p w=>simp[ih]
  simp only[mQ,sW,MB,h]
 obtain⟨w',t,hP,ht,L⟩:=cz (g:=cW [3,4]) (body:=dD) (fun(q:Int×Int×Int×Int)=>D.tup [.int q.1,pD q.2]) (fun(v:R3)(t:Sl×Sl)=>[.sh (WD w),.sh (T o),.ow (WD v),t.1,t.2]) j6 (o.zip w) (fun _ v=>tx m n v) w (.no,.no) ⟨rfl,rfl⟩ hw (by
  intro i q hq v t ht hP;obtain⟨t3,t4⟩:=t;obtain⟨f3,f4⟩:=ht;dsimp only at f3 f4;have hm:=Z3 hq;obtain⟨x,p⟩:=q;obtain⟨j,rfl,hj⟩:=ho x (Uw hm).1;have s1:=QG v j p (by rw[hP.1];exact hj);have il:isLst (some (WD v))=true:=rfl;refine⟨v.set j p,(.sh (.int j),.sh (pD p)),⟨by simp[hP.1],fun y hy=>?_⟩,⟨rfl,rfl⟩,?_⟩;rcases List.mem_or_eq_of_mem_set hy with hy|rfl;exact hP.2 y hy;exact hw.2 _ (Uw hm).2;have e:cW [3,4] (.tup [.int (j:Int),pD p]) [.sh (WD w),.sh (T o),.ow (WD v),t3,t4]=.ok () [.sh (WD w),.sh (T o),.ow (WD v),.sh (.int j),.sh (pD p)]:=by simp[f3,f4]
  dsimp only;rw[bw,e,ay,show dD _=.ok .nx _ by unfold dD;exact aI];rfl)
 exact⟨w',by unfold x9 Bl;exact rn,hP⟩
theorem dropped(m n:Nat)(w:R3)(k:Nat)(x:Int)(hk:k<=n)(hn:n<=100)(hw:tx m n w):∃w',x5 [WD w,.int k,.int x]=.ok (WD w') []/\tx m (n+1) w':=by obtain⟨hl,hp⟩:=hw;have c1:=HM w k ZG;have c2:=Bw w k ZG;have s1:=pK x;have a1:aY (WD (w.take k)) (.lst [pD (pN x)])=some (WD (w.take k++[pN x])):=addW (w.take k) [pN x] (by simp;lia);have a2:=addW (w.take k++[pN x]) (w.drop k) (by simp;lia);refine⟨_,by unfold x5 Bi;exact rn,by simp;lia,fun p h=>?_⟩;rcases List.mem_append.mp h with h|h;rcases List.mem_append.mp h with h|h;exact hp p (LR h);rw[List.mem_singleton.mp h];exact wQ _ _;exact hp p (PJ h)
theorem Q0e(m n:Nat)(w:R3)(k:Nat)(hk:k<n)(hn:n<=100)(hw:tx m n w):∃w',ya [WD w,.int k]=.ok (WD w') []/\tx m (n-1) w':=by obtain⟨hl,hp⟩:=hw;have c1:=HM w k ZG;have c2:=Bw w (k+1) ZG;rw[show (((k+1:Nat)):Int)=(k:Int)+1 by lia] at c2;have a2:=addW (w.take k) (w.drop (k+1)) (by simp;lia);refine⟨_,by unfold ya Bm;exact rn,by simp;lia,fun p h=>?_⟩;rcases List.mem_append.mp h with h|h;exact hp p (LR h);exact hp p (PJ h)
theorem G1(m n:Nat)(w:R3)(s:Pa)(hk:s.length<=n)(hn:n<=100)(hw:tx m n w):∃w',x6 [WD w,T s]=.ok (WD w') []/\tx m s.length w':=by
 obtain⟨hl,hp⟩:=hw;have c1:=Bw w (w.length-s.length) ZJ;rw[show (((w.length-s.length:Nat)):Int)=(w.length:Int)-s.length by omega] at c1;have l1:=Ud w;have dl:(w.drop (w.length-s.length)).length=s.length:=by simp;omega
 have dp:∀p∈w.drop (w.length-s.length),NV m p:=fun p h=>hp p (PJ h);generalize w.drop (w.length-s.length)=v at *;have ez:mQ [T s,WD v]=some ((s.zip v).map fun q=>.tup [.int q.1,pD q.2]):=by
  have h:∀(o:Pa)(w:R3),List.zipWith (fun x y=>D.tup [x,y]) (o.map D.int) (w.map pD)=(o.zip w).map fun q=>.tup [.int q.1,pD q.2]:=by intro o;induction o with|nil=>intro w;rfl|cons x o ih=>intro w;cases w with|nil=>rfl|cons p w=>simp[ih]
  simp only[mQ,sW,MB,h]
 have s1:=pK 0;have c:aS 2 (qg [(af 1),(af 2)]) (cW [3,4]) (VP.ret true) fI [.sh (WD w),.sh (T s),.sh (WD v)]=.ok (WD ((s.zip v).map fun q=>if q.1=1 then pN 0 else q.2)) [.sh (WD w),.sh (T s),.sh (WD v)]:=by refine Jr (fun q:Int×Int×Int×Int=>D.int q.1) (fun q=>pD q.2) (fun q=>pD (if q.1=1 then pN 0 else q.2)) (s.zip v) aI (by simp;omega) (by simp[WD,Function.comp_def]) fun q hq acc=>?_;obtain⟨x,p⟩:=q;dsimp only;unfold fI;by_cases h:x=1;rw[ZY h];exact aI;rw[Za h];exact aI
 refine⟨(s.zip v).map fun q=>if q.1=1 then pN 0 else q.2,?_,by simp;omega,fun p h=>?_⟩;generalize ((s.zip v).map fun q=>if q.1=1 then pN 0 else q.2)=u at c;unfold x6 Bk;exact rn;obtain⟨q,hq,rfl⟩:=List.mem_map.mp h;split;exact wQ _ _;exact dp _ (Uw hq).2
theorem Q1X(s:Pa)(h:SI s):∃xs,xX [T s]=.ok (T xs) []/\∀y∈xs,0<=y/\y<=16777216:=by
 have hl:=h.1;obtain⟨⟨xs,st⟩,t,⟨h1,h2,h3⟩,ht,L⟩:=cz (g:=aD 3) (body:=dC) D.int (fun(s':List Int×Int)(t:Sl)=>[.sh (T s),.ow (Z s'.1),.sh (.int s'.2),t]) qR s.reverse (fun k s'=>s'.1.length=k/\(0<=s'.2/\s'.2<=64 ^ k)/\∀y∈s'.1,0<=y/\y<=16777216) ([],1) .no rfl ⟨rfl,ZH,fun y hy=>by cases hy⟩ (by
  intro i y hy s' t ht hP;obtain⟨xs,st⟩:=s';obtain⟨p1,p2,p3⟩:=hP;dsimp only at p1 p2 p3;have hm:=h.2.1 y (List.mem_reverse.mp (Z3 hy));have hi:=(List.getElem?_eq_some_iff.mp hy).1;simp at hi;have hf:free (some t)=true:=ht;have p4:=Q1A (n:=i) ZG;have ap:=Ay xs st ZG;have mu:=gp st y ZG ZG;refine⟨(xs++[st],st*y),.sh (.int y),⟨by simp[p1],⟨DN p2.1 hm.1,?_⟩,fun z hz=>?_⟩,rfl,?_⟩;show st*y<=64 ^ (i+1);rw[Int.pow_succ];exact Int.mul_le_mul p2.2 ZG hm.1 ZG;rcases List.mem_append.mp hz with hz|hz;exact p3 z hz;rw[List.mem_singleton.mp hz];lia;have e:aD 3 (.int y) [.sh (T s),.ow (Z xs),.sh (.int st),t]=.ok () [.sh (T s),.ow (Z xs),.sh (.int st),.sh (.int y)]:=by simp[hf]
  dsimp only;rw[bw,e,ay,show dC _=.ok .nx _ by unfold dC;exact aI];rfl)
 dsimp only at L h3;have e1:(cq (T s)).map List.reverse=some (s.reverse.map D.int):=ZH;have e2:qh (Z xs)=some (T xs.reverse):=Mu xs;have z0:Z []=.lst []:=rfl;rw[z0] at L;exact⟨xs.reverse,by unfold xX Be;exact rn,fun y hy=>h3 y (List.mem_reverse.mp hy)⟩
theorem DA(m n:Nat)(w:R3)(xs:Pa)(hw:tx m n w)(hm:m<=100)(hx:∀y∈xs,0<=y/\y<=16777216):∃(a:Int)(ys:Pa),xR [WD w,T xs,.int m]=.ok (.tup [.int a,T ys]) []:=by
 have er:=qj m ZG;have c:aS 1 (cJ [(af 2)]) (aD 7) (VP.ret true) fH [.sh (WD w),.sh (T xs),.sh (.int m),.sh (.int 0),.no,.no,.no]=.ok (Z (List.replicate m 0)) [.sh (WD w),.sh (T xs),.sh (.int m),.sh (.int 0),.no,.no,.no]:=by refine gT (fun(k:Nat)=>D.int k) (fun _=>D.int 0) (List.range m) aI (by simp;lia) (by simp[Z,List.map_const']) fun k hk acc=>?_;unfold fH;exact aI
 have ez:mQ [WD w,T xs]=some ((w.zip xs).map fun q=>.tup [pD q.1,.int q.2]):=by
  have h:∀(w:R3)(o:Pa),List.zipWith (fun x y=>D.tup [x,y]) (w.map pD) (o.map D.int)=(w.zip o).map fun q=>.tup [pD q.1,.int q.2]:=by intro w;induction w with|nil=>intro o;rfl|cons x o ih=>intro w;cases w with|nil=>rfl|cons p w=>simp[ih]
  simp only[mQ,sW,MB,h]
 obtain⟨⟨a,ys⟩,t,hP,ht,L⟩:=cz (g:=cW [5,6]) (body:=cg) (fun(q:(Int×Int×Int)×Int)=>D.tup [pD q.1,.int q.2]) (fun(s:Int×List Int)(t:Sl×Sl)=>[.sh (WD w),.sh (T xs),.sh (.int m),.sh (.int s.1),.ow (Z s.2),t.1,t.2]) j6 (w.zip xs) (fun _ s=>s.2.length=m) (0,List.replicate m 0) (.no,.no) ⟨rfl,rfl⟩ ZH (by
  intro i q hq s t ht hP;obtain⟨t3,t4⟩:=t;obtain⟨f3,f4⟩:=ht;obtain⟨a,ys⟩:=s;dsimp only at f3 f4 hP;have Ce:=Z3 hq;obtain⟨⟨x,y,z⟩,v⟩:=q;have hv:=hx v (Uw Ce).2;have hp:=hw.2 _ (Uw Ce).1;have m1:=gp x v ZG ZG;have m2:=gp z v ZG ZG;have e:cW [5,6] (.tup [pD (x,y,z),.int v]) [.sh (WD w),.sh (T xs),.sh (.int m),.sh (.int a),.ow (Z ys),t3,t4]=.ok () [.sh (WD w),.sh (T xs),.sh (.int m),.sh (.int a),.ow (Z ys),.sh (.tup [.int x,.int y,.int z]),.sh (.int v)]:=by simp[f3,f4,pD]
  have il:isLst (some (Z ys))=true:=rfl;by_cases h:y=-1;have ne:fW (.int y) (.int (-1))=some (.bl false):=by rw[di,Y9 h];rfl
  refine⟨(a+x*v,ys),(.sh (.tup [.int x,.int y,.int z]),.sh (.int v)),hP,⟨rfl,rfl⟩,?_⟩;dsimp only;rw[bw,e,ay,show cg _=.ok .nx _ by unfold cg;exact aI];rfl;have ne:fW (.int y) (.int (-1))=some (.bl true):=by rw[di,Z0 h];rfl
  have hy:0<=y/\y<m:=by rcases hp with hp|hp;exact absurd hp h;exact hp
  have ix:aq (Z ys) (.int y)=some (.int (ys.getD y.toNat 0)):=fS ys y hy.1 ZG;have st:=yO ys y (ys.getD y.toNat 0+z*v) hy.1 ZG;refine⟨(a+x*v,ys.set y.toNat (ys.getD y.toNat 0+z*v)),(.sh (.tup [.int x,.int y,.int z]),.sh (.int v)),by simp[hP],⟨rfl,rfl⟩,?_⟩;dsimp only;rw[bw,e,ay,show cg _=.ok .nx _ by unfold cg;exact aI];rfl)
 exact⟨a,ys,by unfold xR A6;exact rn⟩
inductive Tr where
 |gE (x:Int)|read (at_:Nat) (a:Int) (ys:Pa)|one (d:Nat) (t:Tr)|both (d:Nat) (l r:Tr)|cX (a l r:Tr)|within (p:Int×Int×Int) (z:Int) (t:Tr) (x:Int)|joined (p:Int×Int×Int) (z:Int) (l r:Tr)
def Tr.d:Tr->D|.gE x=>.ins "Even" ["number"] [.int x]|.read n a ys=>.ins "Read" ["line","start","steps"] [.int n,.int a,T ys]|.one d t=>.ins "One" ["deed","inner"] [.str (nm d),t.d]|.both d l r=>.ins "Both" ["deed","left","right"] [.str (nm d),l.d,r.d]|.cX a l r=>.ins "Where" ["asked","left","right"] [a.d,l.d,r.d]|.within p z t x=>.ins "Within" ["part","size","inner","number"] [pD p,.int z,t.d,.int x]|.joined p z l r=>.ins "Joined" ["part","size","ahead","behind"] [pD p,.int z,l.d,r.d]
def Tr.rs:Tr->List Nat|.gE _=>[]|.read n _ _=>[n]|.one _ t=>t.rs|.both _ l r=>l.rs++r.rs|.cX a l r=>a.rs++l.rs++r.rs|.within _ _ t _=>t.rs|.joined _ _ l r=>l.rs++r.rs
def Tr.dep:Tr->Nat|.gE _=>1|.read _ _ _=>1|.one _ t=>t.dep+1|.both _ l r=>max l.dep r.dep+1|.cX a l r=>max a.dep (max l.dep r.dep)+1|.within _ _ t _=>t.dep+1|.joined _ _ l r=>max l.dep r.dep+1
theorem J4(x:D):Jw [.ins "Even" [] [],x]=.ok .bz [.ins "Even" ["number"] [x]]:=ZI
theorem Ka(x y z:D):BL [.ins "Read" [] [],x,y,z]=.ok .bz [.ins "Read" ["line","start","steps"] [x,y,z]]:=ZI
theorem O4(x y:D):JB [.ins "One" [] [],x,y]=.ok .bz [.ins "One" ["deed","inner"] [x,y]]:=ZI
theorem J3(x y z:D):Jv [.ins "Both" [] [],x,y,z]=.ok .bz [.ins "Both" ["deed","left","right"] [x,y,z]]:=ZI
theorem Kb(x y z:D):BO [.ins "Where" [] [],x,y,z]=.ok .bz [.ins "Where" ["asked","left","right"] [x,y,z]]:=ZI
theorem Ck(x y z u:D):BP [.ins "Within" [] [],x,y,z,u]=.ok .bz [.ins "Within" ["part","size","inner","number"] [x,y,z,u]]:=ZI
theorem Cj(x y z u:D):Jz [.ins "Joined" [] [],x,y,z,u]=.ok .bz [.ins "Joined" ["part","size","ahead","behind"] [x,y,z,u]]:=ZI
def Wv(ls:R4)(ss:Pk)(kp:N0)(m:Nat):D:=.ins "Weaver" ["program","sides","kept","many"] [Pg ls,bY ss,ie kp,.int m]
section
variable(ls:R4)(ss:Pk)(kp:N0)(m:Nat)
theorem UY:aZ iC "program" (Wv ls ss kp m)=some (Pg ls):=ZI
theorem Na:aZ cw "sides" (Wv ls ss kp m)=some (bY ss):=ZI
theorem Q0x:aZ nW "kept" (Wv ls ss kp m)=some (ie kp):=ZI
theorem UX:aZ nX "many" (Wv ls ss kp m)=some (.int m):=ZI
theorem Q7:iZ "Weaver" "row_read" (Wv ls ss kp m)=true:=ZI
theorem Q8:iZ "Weaver" "tree_made" (Wv ls ss kp m)=true:=ZI
theorem DZ:iZ "Weaver" "tree_named" (Wv ls ss kp m)=true:=ZI
theorem Q9:iZ "Weaver" "tree_spread" (Wv ls ss kp m)=true:=ZI
theorem US:iZ "Weaver" "tree_shifted" (Wv ls ss kp m)=true:=ZI
theorem UT:iZ "Weaver" "tree_joined" (Wv ls ss kp m)=true:=ZI
theorem UU:iZ "Weaver" "tree_viewed" (Wv ls ss kp m)=true:=ZI
theorem M9:xC [.ins "Weaver" [] [],Pg ls,bY ss,ie kp,.int m]=.ok .bz [Wv ls ss kp m]:=ZI
theorem row_read(at_ n:Nat)(w:R3)(s:Pa)(hs:SI s)(hw:tx m n w)(hm:m<=100):∃a ys,tW [Wv ls ss kp m,.int at_,WD w,T s]=.ok (Tr.read at_ a ys).d []:=by obtain⟨xs,e1,hx⟩:=Q1X s hs;obtain⟨a,ys,e2⟩:=DA m n w xs hw hm hx;have e3:=UX ls ss kp m;have e4:=Ka (.int at_) (.int a) (T ys);have p1:=JI (.int a) (T ys);have p2:=GY (.int a) (T ys);refine⟨a,ys,?_⟩;unfold Tr.d tW AD;generalize Wv ls ss kp m=W at *;exact rn
inductive rF(ls:R4)(kp:N0):Nat->Nat->Prop where
 |self {a:Nat} (h:kp[a]?=some true):rF ls kp a a|step {a b r:Nat} (h:kp[a]?=some false) (hb:b∈gq ls a) (hr:rF ls kp b r):rF ls kp a r
theorem rF.kept{ls:R4}{kp:N0}{a r:Nat}(h:kp[a]?=some true):rF ls kp a r<->r=a:=by
 constructor;intro z;cases z with|self _=>rfl|step h2=>rw[h] at h2;cases h2
 rintro rfl;exact .self h
def Ap(ls:R4)(kp:N0)(a r:Nat):Prop:=∃b∈gq ls a,rF ls kp b r
structure Kp(ls:R4)(kp:N0):Prop where
 len:kp.length=ls.length
 k4:∀i,tF ls i->kd ls i∈[0,12,13,14]->kp[i]?=some true
 k2:∀i,tF ls i->kd ls i∈[7,14]->∀a∈gq ls i,kp[a]?=some true
 last:kp[ls.length-1]?=some true
 want:∀i,kp[i]?=some true->tF ls i
def nR(n at_:Nat):Prop:=∀(m:Nat)(w:R3),tx m (sd ss at_).length w->m<=100->∃t:Tr,dN n 0 [Wv ls ss kp m,.int at_,WD w]=.ok t.d []/\t.dep<=at_+1/\∀r,r∈t.rs<->rF ls kp at_ r
end
section
variable{gs:Pk}{ls:R4}{ss:Pk}{ix_:Nat}(g:Gd gs ls ss ix_){kp:N0}(K:Kp ls kp)
theorem k8{i:Nat}(h:i<ls.length):ls[i]?=some (fJ ls i):=by simp[fJ,h]
include g
theorem tf{i:Nat}(h:i<ls.length):Told gs.length (sd gs) (sd ss) (fJ ls i) (sd ss i):=g.told i _ (k8 h)
theorem ny{i:Nat}(h:i<ls.length):SI (sd ss i):=g.si.at (by have:=g.len;lia)
theorem pe{i b:Nat}(h:i<ls.length)(hb:b∈gq ls i):b<i:=g.wf i _ (k8 h) b hb
theorem fY{n a k:Nat}(ha:a<ls.length)(N:nR ls ss kp n a)(m:Nat)(w:R3)(hw:tx m k w)(hk:(sd ss a).length<=k)(TB:k<=100)(hm:m<=100):∃t:Tr,dN (n+1) 3 [Wv ls ss kp m,.int a,WD w]=.ok t.d []/\t.dep<=a+1/\∀r,r∈t.rs<->rF ls kp a r:=by obtain⟨w',e,ur⟩:=G1 m k w (sd ss a) hk TB hw;obtain⟨t,et,h1,h2⟩:=N m w' ur hm;refine⟨t,?_,h1,h2⟩;have f1:=Na ls ss kp m;have f2:=DZ ls ss kp m;have ia:=cy ss a (by have:=g.len;lia);show defn 3 [false,false,false] (xl (dN n)) _=_;generalize Wv ls ss kp m=W at *;generalize t.d=td at *;generalize dN n=wf at *;unfold xl;exact rn
def Ja(ls:R4)(ss:Pk)(kp:N0)(n at_:Nat):Prop:=∀(m:Nat)(w:R3),tx m (sd ss at_).length w->m<=100->∃t:Tr,dN n 1 [Wv ls ss kp m,.int at_,WD w]=.ok t.d []/\t.dep<=at_+1/\∀r,r∈t.rs<->Ap ls kp at_ r
theorem Hl{n at_ a:Nat}(l:PL)(hl:fJ ls at_=l)(m6:at_<ls.length)(hk:l.k=2\/l.k=3\/l.k=4\/l.k=5\/l.k=6)(ha:l.ns=[a])(N:∀n',n<=n'->nR ls ss kp n' a)(m:Nat)(w:R3)(hw:tx m (sd ss at_).length w)(hm:m<=100):∃t:Tr,dN (n+2) 2 [Wv ls ss kp m,l.d,WD w]=.ok t.d []/\t.dep<=a+1/\∀r,r∈t.rs<->rF ls kp a r:=by
 have hT:=tf g m6;rw[hl] at hT;have hA:a<ls.length:=by have:=pe g m6 (b:=a) (by unfold gq;rw[hl,ha];simp);lia
 have sl:=(ny g m6).1;have sa:=(ny g hA).1;have f2:=DZ ls ss kp m;have f4:=Q9 ls ss kp m;cases l with|turn a' o=>simp only[PL.ns,List.cons.injEq,and_true] at ha;subst ha;obtain⟨h1,h2,h3⟩:=hT;rw[h3] at hw;simp only[List.length_map,h2] at hw;obtain⟨w',e,ur⟩:=turned m _ w o hw fun x hx=>mK h1 hx;obtain⟨t,et,t1,t2⟩:=N (n+1) ZG m w' ur hm;refine⟨t,?_,t1,t2⟩;show defn 4 [false,false,false] (iU (dN (n+1))) [_,.tup [.str (nm 2),.int a',T o],_]=_;generalize Wv ls ss kp m=W at *;generalize t.d=td at *;generalize dN (n+1)=wf at *;unfold iU;exact rn|cut a' k b st mm=>simp only[PL.ns,List.cons.injEq,and_true] at ha;subst ha;obtain⟨j,rfl,hj,h1,_,_,h3⟩:=hT;rw[h3] at hw;rw[show (rep (sd ss a') j mm).length=(sd ss a').length by simp[rep];lia] at hw;obtain⟨w',e,ur⟩:=moved m _ w j b st ZG ZG hj hw;obtain⟨t,et,t1,t2⟩:=N (n+1) ZG m w' ur hm;refine⟨t,?_,t1,t2⟩;show defn 4 [false,false,false] (iU (dN (n+1))) [_,.tup [.str (nm 3),.int a',.int j,.int b,.int st,.int mm],_]=_;generalize Wv ls ss kp m=W at *;generalize t.d=td at *;generalize dN (n+1)=wf at *;unfold iU;exact rn|drop a' k p=>simp only[PL.ns,List.cons.injEq,and_true] at ha;subst ha;obtain⟨j,rfl,hj,_,h3⟩:=hT;rw[h3] at hw;obtain⟨w',e,ur⟩:=dropped m _ w j p (by simp[wo];lia) (by simp[wo];lia) hw;rw[show (wo (sd ss a') j).length+1=(sd ss a').length by simp[wo];lia] at ur;obtain⟨t,et,t1,t2⟩:=N (n+1) ZG m w' ur hm;refine⟨t,?_,t1,t2⟩;show defn 4 [false,false,false] (iU (dN (n+1))) [_,.tup [.str (nm 4),.int a',.int j,.int p],_]=_;generalize Wv ls ss kp m=W at *;generalize t.d=td at *;generalize dN (n+1)=wf at *;unfold iU;exact rn|wide a' k=>simp only[PL.ns,List.cons.injEq,and_true] at ha;subst ha;obtain⟨j,rfl,hj,h3⟩:=hT;rw[h3] at hw;obtain⟨w',e,ur⟩:=Q0e m _ w j (by simp[pin];lia) (by simp[pin];lia) hw;rw[show (pin (sd ss a') j 1).length-1=(sd ss a').length by simp[pin];lia] at ur;obtain⟨t,et,t1,t2⟩:=N (n+1) ZG m w' ur hm;refine⟨t,?_,t1,t2⟩;show defn 4 [false,false,false] (iU (dN (n+1))) [_,.tup [.str (nm 5),.int a',.int j],_]=_;generalize Wv ls ss kp m=W at *;generalize t.d=td at *;generalize dN (n+1)=wf at *;unfold iU;exact rn|spread a' u=>simp only[PL.ns,List.cons.injEq,and_true] at ha;subst ha;obtain⟨h1,h3⟩:=hT;have ml:=gn h1;rw[h3] at hw;obtain⟨t,et,t1,t2⟩:=fY g hA (N n ZG) m w hw ZG (by rw[<-h3];lia) hm;refine⟨t,?_,t1,t2⟩;show defn 4 [false,false,false] (iU (dN (n+1))) [_,.tup [.str (nm 6),.int a',T u],_]=_;generalize Wv ls ss kp m=W at *;generalize t.d=td at *;generalize dN (n+1)=wf at *;unfold iU;exact rn|_=>simp[PL.k] at hk
theorem yy{n at_:Nat}(m6:at_<ls.length)(hk:kd ls at_∉[0,12,13,14])(h7:kd ls at_=7->∀a∈gq ls at_,kp[a]?=some true)(N:∀a∈gq ls at_,∀n',n<=n'->nR ls ss kp n' a):Ja ls ss kp (n+3) at_:=by
 intro m w hw hm;have hT:=tf g m6;have m7:=fun b hb=>pe g m6 (b:=b) hb;have hi:=uv ls at_ m6;have hs:=cy ss at_ (by have:=g.len;lia);have sl:=(ny g m6).1;have sL:=ny g m6;have f0:=UY ls ss kp m;have f1:=Na ls ss kp m;have f2:=DZ ls ss kp m;have f4:=Q9 ls ss kp m;have f5:=US ls ss kp m;have f6:=UT ls ss kp m;have f7:=UU ls ss kp m;have f8:=Q7 ls ss kp m;unfold kd at hk h7;unfold gq at N m7 h7;unfold Ap gq;obtain⟨l,hl⟩:∃l,fJ ls at_=l:=⟨_,rfl⟩;rw[hl] at hk N hT hi m7 h7 ⊢;have vw:∀a,(l.k=2\/l.k=3\/l.k=4\/l.k=5\/l.k=6)->l.ns=[a]->∃t:Tr,defn 5 [false,false,false] (iT (dN (n+2))) [Wv ls ss kp m,.int at_,WD w]=.ok t.d []/\t.dep<=at_+1/\∀r,r∈t.rs<->∃b∈l.ns,rF ls kp b r:=fun a h2 h3=>by
  have ha:=m7 a (by rw[h3];simp);obtain⟨t,et,t1,t2⟩:=Hl g l hl m6 h2 h3 (N a (by rw[h3];simp)) m w hw hm;refine⟨t,?_,ZG,fun r=>by rw[t2,h3];simp⟩;have k1:=l.kind;have Ua:=l.Pd;have ne:∀j,j<32->l.k≠j->b7 (.str (nm l.k)) (.str (nm j))=some (.bl false):=fun j hj h=>by rw[HQ _ _ ZG hj,Z0 h]
  have n1:=ne 1 ZG ZG;have n9:=ne 9 ZG ZG;have Uk:=ne 10 ZG ZG;have YQ:=ne 11 ZG ZG;have n8:=ne 8 ZG ZG;have YU:=ne 15 ZG ZG;have n7:=ne 7 ZG ZG;generalize Wv ls ss kp m=W at *;generalize l.d=ld at *;generalize t.d=td at *;generalize dN (n+2)=wf at *;unfold iT;exact rn
 have rd:∀a,a∈l.ns->a<ls.length:=fun a ha=>by have:=m7 a ha;lia
 have sa:∀a,a∈l.ns->aq (bY ss) (.int (a:Int))=some (T (sd ss a)):=fun a ha=>cy ss a (by have:=rd a ha;have:=g.len;lia);show ∃t:Tr,defn 5 [false,false,false] (iT (dN (n+2))) _=_/\_/\_;have yk:l.k≠0/\l.k≠12/\l.k≠13/\l.k≠14:=by simpa using hk
 cases l with
 |given j=>exact absurd rfl yk.1|fold d a k=>exact absurd rfl yk.2.1|run d a k=>exact absurd rfl yk.2.2.1|pick a k b=>exact absurd rfl yk.2.2.2|gE s x=>refine⟨.gE x,?_,by simp[Tr.dep],fun r=>by simp[Tr.rs,PL.ns]⟩;have e1:=J4 (.int x);have hi:aq (Pg ls) (.int (at_:Int))=some (.tup [.str (nm 1),T s,.int x]):=hi;unfold Tr.d;generalize Wv ls ss kp m=W at *;generalize dN (n+2)=wf at *;unfold iT;exact rn|turn a o=>exact vw _ (by simp[PL.k]) rfl|cut a k b st mm=>exact vw _ (by simp[PL.k]) rfl|drop a k p=>exact vw _ (by simp[PL.k]) rfl|wide a k=>exact vw _ (by simp[PL.k]) rfl|spread a u=>exact vw _ (by simp[PL.k]) rfl|shape a u=>have ka:=h7 rfl a (by simp[PL.ns]);obtain⟨x,ys,e⟩:=row_read ls ss kp m a _ w (sd ss at_) sL hw hm;refine⟨.read a x ys,?_,by simp[Tr.dep],fun r=>by simp[Tr.rs,PL.ns,rF.kept ka]⟩;have hi:aq (Pg ls) (.int (at_:Int))=some (.tup [.str (nm 7),.int a,T u]):=hi;generalize (Tr.read a x ys).d=td at *;generalize Wv ls ss kp m=W at *;generalize dN (n+2)=wf at *;unfold iT;exact rn|shift a k by_ x=>
  have ha:=m7 a (by simp[PL.ns]);have ia:=sa a (by simp[PL.ns]);obtain⟨j,rfl,hj,_,h3⟩:=hT;rw[h3] at hw;obtain⟨w',e,ur⟩:=moved m _ w j (-by_) 1 ZG ZG hj hw;obtain⟨t,et,t1,t2⟩:=N a (by simp[PL.ns]) (n+1) ZG m w' ur hm;obtain⟨p,hp⟩:∃p,w'[j]?=some p:=⟨_,Z4 (by rw[ur.1];exact hj)⟩;have i1:=T7 w' j p hp;have i2:=r8 (sd ss a) j hj;have e1:=Ck (pD p) (.int ((sd ss a).getD j 0)) t.d (.int x);have sh:dN (n+2) 4 [Wv ls ss kp m,.int a,.int j,.int by_,.int x,WD w]=.ok (Tr.within p ((sd ss a).getD j 0) t x).d []:=by show defn 7 [false,false,false,false,false,false] (xk (dN (n+1))) _=.ok (.ins "Within" ["part","size","inner","number"] [pD p,.int ((sd ss a).getD j 0),t.d,.int x]) _;generalize Wv ls ss kp m=W at *;generalize t.d=td at *;generalize pD p=pd at *;generalize dN (n+1)=wf at *;unfold xk;exact rn
  refine⟨.within p ((sd ss a).getD j 0) t x,?_,by simp only[Tr.dep];lia,fun r=>by simp[Tr.rs,PL.ns,t2]⟩;have hi:aq (Pg ls) (.int (at_:Int))=some (.tup [.str (nm 8),.int a,.int j,.int by_,.int x]):=hi;generalize (Tr.within p ((sd ss a).getD j 0) t x).d=td at *;generalize Wv ls ss kp m=W at *;generalize dN (n+2)=wf at *;unfold iT;exact rn
 |one d a=>have ha:=m7 a (by simp[PL.ns]);obtain⟨_,h3⟩:=hT;rw[h3] at hw;obtain⟨t,et,t1,t2⟩:=N a (by simp[PL.ns]) (n+2) ZG m w hw hm;refine⟨.one d t,?_,by simp only[Tr.dep];lia,fun r=>by simp[Tr.rs,PL.ns,t2]⟩;have e1:=O4 (.str (nm d)) t.d;have hi:aq (Pg ls) (.int (at_:Int))=some (.tup [.str (nm 9),.str (nm d),.int a]):=hi;unfold Tr.d;generalize Wv ls ss kp m=W at *;generalize t.d=td at *;generalize dN (n+2)=wf at *;unfold iT;exact rn|both d a b=>have ha:=m7 a (by simp[PL.ns]);have hb:=m7 b (by simp[PL.ns]);obtain⟨_,h3⟩:=hT;have ml:=gn h3;obtain⟨t,et,t1,t2⟩:=fY g ZG (N a (by simp[PL.ns]) (n+1) ZG) m w hw ZG ZG hm;obtain⟨u,eu,u1,u2⟩:=fY g ZG (N b (by simp[PL.ns]) (n+1) ZG) m w hw ZG ZG hm;refine⟨.both d t u,?_,by simp only[Tr.dep];lia,fun r=>by simp[Tr.rs,PL.ns,t2,u2]⟩;have e1:=J3 (.str (nm d)) t.d u.d;have hi:aq (Pg ls) (.int (at_:Int))=some (.tup [.str (nm 10),.str (nm d),.int a,.int b]):=hi;unfold Tr.d;generalize Wv ls ss kp m=W at *;generalize t.d=td at *;generalize u.d=ud at *;generalize dN (n+1+1)=wf at *;unfold iT;exact rn|cX a b c=>have ha:=m7 a (by simp[PL.ns]);have hb:=m7 b (by simp[PL.ns]);have hc:=m7 c (by simp[PL.ns]);obtain⟨v,h2,h3⟩:=hT;have ml:=gn h3;have YN:=gn h2;obtain⟨t,et,t1,t2⟩:=fY g ZG (N a (by simp[PL.ns]) (n+1) ZG) m w hw ZG ZG hm;obtain⟨u,eu,u1,u2⟩:=fY g ZG (N b (by simp[PL.ns]) (n+1) ZG) m w hw ZG ZG hm;obtain⟨x,ex,x1,x2⟩:=fY g ZG (N c (by simp[PL.ns]) (n+1) ZG) m w hw ZG ZG hm;refine⟨.cX t u x,?_,by simp only[Tr.dep];lia,fun r=>by simp[Tr.rs,PL.ns,t2,u2,x2]⟩;have e1:=Kb t.d u.d x.d;have hi:aq (Pg ls) (.int (at_:Int))=some (.tup [.str (nm 11),.int a,.int b,.int c]):=hi;unfold Tr.d;generalize Wv ls ss kp m=W at *;generalize t.d=td at *;generalize u.d=ud at *;generalize x.d=xd at *;generalize dN (n+1+1)=wf at *;unfold iT;exact rn|join a b k=>
  have ha:=m7 a (by simp[PL.ns]);have hb:=m7 b (by simp[PL.ns]);have ia:=sa a (by simp[PL.ns]);obtain⟨j,rfl,hj,h2,_,h3⟩:=hT;rw[h3,show (rep (sd ss a) j ((sd ss a).getD j 0+(sd ss b).getD j 0)).length=(sd ss a).length by simp[rep];lia] at hw;obtain⟨w',e,ur⟩:=moved m _ w j (-(sd ss a).getD j 0) 1 ZG ZG hj hw;obtain⟨t,et,t1,t2⟩:=N a (by simp[PL.ns]) (n+1) ZG m w hw hm;rw[h2] at ur;obtain⟨u,eu,u1,u2⟩:=N b (by simp[PL.ns]) (n+1) ZG m w' ur hm;obtain⟨p,hp⟩:∃p,w[j]?=some p:=⟨_,Z4 (by rw[hw.1];exact hj)⟩;have i1:=T7 w j p hp;have i2:=r8 (sd ss a) j hj;generalize (sd ss a).getD j 0=z at *;have e1:=Cj (pD p) (.int z) t.d u.d;have sh:dN (n+2) 5 [Wv ls ss kp m,.int a,.int b,.int j,WD w]=.ok (Tr.joined p z t u).d []:=by show defn 7 [false,false,false,false,false] (xj (dN (n+1))) _=.ok (.ins "Joined" ["part","size","ahead","behind"] [pD p,.int z,t.d,u.d]) _;generalize Wv ls ss kp m=W at *;generalize t.d=td at *;generalize u.d=ud at *;generalize pD p=pd at *;generalize dN (n+1)=wf at *;unfold xj;exact rn
  refine⟨.joined p z t u,?_,by simp only[Tr.dep];lia,fun r=>by simp[Tr.rs,PL.ns,t2,u2]⟩;have hi:aq (Pg ls) (.int (at_:Int))=some (.tup [.str (nm 15),.int a,.int b,.int j]):=hi;generalize (Tr.joined p z t u).d=td at *;generalize Wv ls ss kp m=W at *;generalize dN (n+2)=wf at *;unfold iT;exact rn
include K
theorem uE:∀(at_:Nat),at_<ls.length->tF ls at_->∀n,4*at_+4<=n->nR ls ss kp n at_:=by intro at_;induction at_ using Nat.strongRecOn with|_ at_ ih=>intro m6 hr n hn m w hw hm;obtain⟨n,rfl⟩:∃n',n=n'+1:=⟨n-1,ZG⟩;obtain⟨b,hb⟩:∃b,kp[at_]?=some b:=⟨_,Z4 (by rw[K.len];exact m6)⟩;have ib:=kN kp at_ b hb;have hs:=cy ss at_ (by have:=g.len;lia);have f1:=Na ls ss kp m;have f3:=Q0x ls ss kp m;have f4:=Q7 ls ss kp m;have f5:=Q8 ls ss kp m;show ∃t:Tr,defn 3 [false,false,false] (tM (dN n)) _=_/\_/\_;cases b with|true=>obtain⟨x,ys,e⟩:=row_read ls ss kp m at_ _ w (sd ss at_) (ny g m6) hw hm;refine⟨.read at_ x ys,?_,by simp[Tr.dep],fun r=>by simp[Tr.rs,rF.kept hb]⟩;generalize (Tr.read at_ x ys).d=td at *;generalize Wv ls ss kp m=W at *;generalize dN n=wf at *;unfold tM;exact rn|false=>obtain⟨n,rfl⟩:∃n',n=n'+3:=⟨n-3,ZG⟩;obtain⟨t,e,t1,t2⟩:=yy g m6 (fun h=>by have:=K.k4 at_ hr h;rw[hb] at this;cases this) (fun h=>K.k2 at_ hr (by rw[h];simp)) (n:=n) (fun a ha n' Cf=>by have m7:=pe g m6 ha;exact ih a m7 ZG (.step hr (k8 m6) ha) n' ZG) m w hw hm;refine⟨t,?_,t1,fun r=>?_⟩;generalize t.d=td at *;generalize Wv ls ss kp m=W at *;generalize dN (n+3)=wf at *;unfold tM;exact rn;rw[t2];exact⟨fun ⟨b,h1,h2⟩=>.step hb h1 h2,fun z=>by cases z with|self h=>rw[hb] at h;cases h|step _ h1 h2=>exact⟨_,h1,h2⟩⟩
end
theorem Tr.j4:∀t:Tr,t.rs.length<=3 ^ t.dep|.gE _=>by simp[Tr.rs]|.read _ _ _=>by simp[Tr.rs,Tr.dep]|.one _ t=>by have:=t.j4;simp only[Tr.rs,Tr.dep,Nat.pow_succ];lia|.within _ _ t _=>by have:=t.j4;simp only[Tr.rs,Tr.dep,Nat.pow_succ];lia|.both _ l r=>by have h1:=l.j4;have h2:=r.j4;have k1:=Pt (n:=3) ZG (Kh l.dep r.dep);have k2:=Pt (n:=3) ZG (E9 l.dep r.dep);simp only[Tr.rs,Tr.dep,Nat.pow_succ,List.length_append];lia|.joined _ _ l r=>by have h1:=l.j4;have h2:=r.j4;have k1:=Pt (n:=3) ZG (Kh l.dep r.dep);have k2:=Pt (n:=3) ZG (E9 l.dep r.dep);simp only[Tr.rs,Tr.dep,Nat.pow_succ,List.length_append];lia|.cX a l r=>by have h0:=a.j4;have h1:=l.j4;have h2:=r.j4;have k0:=Pt (n:=3) ZG (Kh a.dep (max l.dep r.dep));have k1:=Pt (n:=3) ZG (Zw (Kh l.dep r.dep) (E9 a.dep (max l.dep r.dep)));have k2:=Pt (n:=3) ZG (Zw (E9 l.dep r.dep) (E9 a.dep (max l.dep r.dep)));simp only[Tr.rs,Tr.dep,Nat.pow_succ,List.length_append];lia
theorem En(xs ys:XT)(h:xs.length+ys.length<=16777216):aY (eL xs) (eL ys)=some (eL (xs++ys)):=by unfold eL;rw[kL _ _ (by simpa[iS] using h),Uh]
theorem pC{n:Nat}(h:n<=14):3 ^ n<=4782969:=Pt (n:=3) ZG h
theorem GI:∀(t:Tr)(n:Nat),t.dep<=n->t.dep<=14->vk n 0 [t.d]=.ok (eL t.rs) []:=by intro t;induction t with|gE x=>intro n hn _;obtain⟨n,rfl⟩:∃k,n=k+1:=⟨n-1,by simp only[Tr.dep] at hn;lia⟩;kernel_rfl!|read a x ys=>intro n hn _;obtain⟨n,rfl⟩:∃k,n=k+1:=⟨n-1,by simp only[Tr.dep] at hn;lia⟩;kernel_rfl!|one d t ih=>intro n hn pV;simp only[Tr.dep] at hn pV;obtain⟨n,rfl⟩:∃k,n=k+1:=⟨n-1,ZG⟩;have e:=ih n ZG ZG;have i1:a7 ef (Tr.one d t).d=some (.bl false):=ZI;have i2:a7 bT (Tr.one d t).d=some (.bl true):=ZI;have f1:aZ d8 "inner" (Tr.one d t).d=some t.d:=ZI;show defn 1 [false] (iV (vk n)) _=.ok (eL t.rs) _;generalize (Tr.one d t).d=x at *;generalize t.d=td at *;generalize vk n=wf at *;unfold iV;exact rn|within p z t y ih=>intro n hn pV;simp only[Tr.dep] at hn pV;obtain⟨n,rfl⟩:∃k,n=k+1:=⟨n-1,ZG⟩;have e:=ih n ZG ZG;have i1:a7 ef (Tr.within p z t y).d=some (.bl false):=ZI;have i2:a7 bT (Tr.within p z t y).d=some (.bl true):=ZI;have f1:aZ d8 "inner" (Tr.within p z t y).d=some t.d:=ZI;show defn 1 [false] (iV (vk n)) _=.ok (eL t.rs) _;generalize (Tr.within p z t y).d=x at *;generalize t.d=td at *;generalize vk n=wf at *;unfold iV;exact rn|both d l r O6 O7=>intro n hn pV;simp only[Tr.dep] at hn pV;obtain⟨n,rfl⟩:∃k,n=k+1:=⟨n-1,ZG⟩;have e1:=O6 n ZG ZG;have e2:=O7 n ZG ZG;have i1:a7 ef (Tr.both d l r).d=some (.bl false):=ZI;have i2:a7 bT (Tr.both d l r).d=some (.bl false):=ZI;have i3:a7 cx (Tr.both d l r).d=some (.bl true):=ZI;have f1:aZ eW "left" (Tr.both d l r).d=some l.d:=ZI;have f2:aZ dq "right" (Tr.both d l r).d=some r.d:=ZI;have k1:=l.j4;have k2:=r.j4;have p1:=pC (n:=l.dep) ZG;have p2:=pC (n:=r.dep) ZG;have ad:=En l.rs r.rs ZG;show defn 1 [false] (iV (vk n)) _=.ok (eL (l.rs++r.rs)) _;generalize (Tr.both d l r).d=x at *;generalize l.d=ld at *;generalize r.d=rd at *;generalize vk n=wf at *;unfold iV;exact rn|cX a l r Xq O6 O7=>intro n hn pV;simp only[Tr.dep] at hn pV;obtain⟨n,rfl⟩:∃k,n=k+1:=⟨n-1,ZG⟩;have e0:=Xq n ZG ZG;have e1:=O6 n ZG ZG;have e2:=O7 n ZG ZG;have i1:a7 ef (Tr.cX a l r).d=some (.bl false):=ZI;have i2:a7 bT (Tr.cX a l r).d=some (.bl false):=ZI;have i3:a7 cx (Tr.cX a l r).d=some (.bl false):=ZI;have i4:a7 bQ (Tr.cX a l r).d=some (.bl true):=ZI;have f0:aZ gW "asked" (Tr.cX a l r).d=some a.d:=ZI;have f1:aZ eW "left" (Tr.cX a l r).d=some l.d:=ZI;have f2:aZ dq "right" (Tr.cX a l r).d=some r.d:=ZI;have k0:=a.j4;have k1:=l.j4;have k2:=r.j4;have p0:=pC (n:=a.dep) ZG;have p1:=pC (n:=l.dep) ZG;have p2:=pC (n:=r.dep) ZG;have ad:=En a.rs l.rs ZG;have Ya:=En (a.rs++l.rs) r.rs (by simp;lia);show defn 1 [false] (iV (vk n)) _=.ok (eL (a.rs++l.rs++r.rs)) _;generalize (Tr.cX a l r).d=x at *;generalize a.d=ad at *;generalize l.d=ld at *;generalize r.d=rd at *;generalize vk n=wf at *;unfold iV;exact rn|joined p z l r O6 O7=>intro n hn pV;simp only[Tr.dep] at hn pV;obtain⟨n,rfl⟩:∃k,n=k+1:=⟨n-1,ZG⟩;have e1:=O6 n ZG ZG;have e2:=O7 n ZG ZG;have i1:a7 ef (Tr.joined p z l r).d=some (.bl false):=ZI;have i2:a7 bT (Tr.joined p z l r).d=some (.bl false):=ZI;have i3:a7 cx (Tr.joined p z l r).d=some (.bl false):=ZI;have i4:a7 bQ (Tr.joined p z l r).d=some (.bl false):=ZI;have i5:a7 bS (Tr.joined p z l r).d=some (.bl true):=ZI;have f1:aZ gV "ahead" (Tr.joined p z l r).d=some l.d:=ZI;have f2:aZ fV "behind" (Tr.joined p z l r).d=some r.d:=ZI;have k1:=l.j4;have k2:=r.j4;have p1:=pC (n:=l.dep) ZG;have p2:=pC (n:=r.dep) ZG;have ad:=En l.rs r.rs ZG;show defn 1 [false] (iV (vk n)) _=.ok (eL (l.rs++r.rs)) _;generalize (Tr.joined p z l r).d=x at *;generalize l.d=ld at *;generalize r.d=rd at *;generalize vk n=wf at *;unfold iV;exact rn
def Tr.kids:Tr->List Tr|.gE _=>[]|.read _ _ _=>[]|.one _ t=>[t]|.both _ l r=>[l,r]|.cX a l r=>[l,r,a]|.within _ _ t _=>[t]|.joined _ _ l r=>[l,r]
theorem Tr.Kn{t s:Tr}(h:s∈t.kids):∀r∈s.rs,r∈t.rs:=by cases t<;>simp only[Tr.kids,List.mem_cons,List.not_mem_nil,or_false] at h;subst h;exact fun r hr=>hr;rcases h with rfl|rfl<;>intro r hr<;>simp[Tr.rs,hr];rcases h with rfl|rfl|rfl<;>intro r hr<;>simp[Tr.rs,hr];subst h;exact fun r hr=>hr;rcases h with rfl|rfl<;>intro r hr<;>simp[Tr.rs,hr]
def jD(ts:List Tr):D:=.lst (ts.map Tr.d)
theorem qu(xs ys:List Tr)(h:xs.length+ys.length<=16777216):aY (jD xs) (jD ys)=some (jD (xs++ys)):=by unfold jD;rw[kL _ _ (by simpa[iS] using h),Uh]
theorem T6(ts:List Tr)(k:Nat)(t:Tr)(h:ts[k]?=some t):aq (jD ts) (.int (k:Int))=some t.d:=by unfold jD;rw[jK];exact ky _ _ _ ZG (by simp[h])
theorem Iu(ts:List Tr):bB (jD ts)=some (.int ts.length):=by simp[jD]
theorem Q1R(x:D)(ts:List Tr)(k:Nat)(t:Tr)(h:ts[k]?=some t)(hl:ts.length<=10000000)(s:Sl)(hs:free (some s)=true):bC [.sh x,.sh (jD ts),.sh (.int k),s]=.ok .nx [.sh x,.sh (jD (ts++t.kids)),.sh (.int k),.sh t.d]:=by have hk:=(List.getElem?_eq_some_iff.mp h).1;have ix:=T6 ts k t h;have ln:=Iu ts;have c:¬(k:Int)=ts.length:=ZG;cases t with|gE x=>have i1:a7 fR (Tr.gE x).d=some (.bl false):=ZI;have i2:a7 dc (Tr.gE x).d=some (.bl false):=ZI;have i3:a7 cx (Tr.gE x).d=some (.bl false):=ZI;have i4:a7 bQ (Tr.gE x).d=some (.bl false):=ZI;have i5:a7 bS (Tr.gE x).d=some (.bl false):=ZI;rw[show (Tr.gE x).kids=[] from rfl,Fj];generalize (Tr.gE x).d=td at *;unfold bC;exact aI|read a x ys=>have i1:a7 fR (Tr.read a x ys).d=some (.bl false):=ZI;have i2:a7 dc (Tr.read a x ys).d=some (.bl false):=ZI;have i3:a7 cx (Tr.read a x ys).d=some (.bl false):=ZI;have i4:a7 bQ (Tr.read a x ys).d=some (.bl false):=ZI;have i5:a7 bS (Tr.read a x ys).d=some (.bl false):=ZI;rw[show (Tr.read a x ys).kids=[] from rfl,Fj];generalize (Tr.read a x ys).d=td at *;unfold bC;exact aI|one d t=>have i1:a7 fR (Tr.one d t).d=some (.bl true):=ZI;have i2:a7 cx (Tr.one d t).d=some (.bl false):=ZI;have i3:a7 bQ (Tr.one d t).d=some (.bl false):=ZI;have i4:a7 bS (Tr.one d t).d=some (.bl false):=ZI;have Wt:aZ d8 "inner" (Tr.one d t).d=some t.d:=ZI;have a1:aY (jD ts) (.lst [t.d])=some (jD (ts++[t])):=qu ts [t] (by simp;lia);rw[show ts++[t]=ts++(Tr.one d t).kids from rfl] at a1;generalize ts++(Tr.one d t).kids=Sr at *;generalize (Tr.one d t).d=td at *;generalize t.d=td at *;unfold bC;exact aI|within p z t y=>have i1:a7 fR (Tr.within p z t y).d=some (.bl false):=ZI;have i2:a7 dc (Tr.within p z t y).d=some (.bl true):=ZI;have i3:a7 cx (Tr.within p z t y).d=some (.bl false):=ZI;have i4:a7 bQ (Tr.within p z t y).d=some (.bl false):=ZI;have i5:a7 bS (Tr.within p z t y).d=some (.bl false):=ZI;have Wt:aZ d8 "inner" (Tr.within p z t y).d=some t.d:=ZI;have a1:aY (jD ts) (.lst [t.d])=some (jD (ts++[t])):=qu ts [t] (by simp;lia);rw[show ts++[t]=ts++(Tr.within p z t y).kids from rfl] at a1;generalize ts++(Tr.within p z t y).kids=Sr at *;generalize (Tr.within p z t y).d=td at *;generalize t.d=td at *;unfold bC;exact aI|both d l r=>have i1:a7 fR (Tr.both d l r).d=some (.bl false):=ZI;have i2:a7 dc (Tr.both d l r).d=some (.bl false):=ZI;have i3:a7 cx (Tr.both d l r).d=some (.bl true):=ZI;have i4:a7 bQ (Tr.both d l r).d=some (.bl false):=ZI;have i5:a7 bS (Tr.both d l r).d=some (.bl false):=ZI;have Vg:aZ eW "left" (Tr.both d l r).d=some l.d:=ZI;have Vh:aZ dq "right" (Tr.both d l r).d=some r.d:=ZI;have a1:aY (jD ts) (.lst [l.d,r.d])=some (jD (ts++[l,r])):=qu ts [l,r] (by simp;lia);rw[show ts++[l,r]=ts++(Tr.both d l r).kids from rfl] at a1;generalize ts++(Tr.both d l r).kids=Sr at *;generalize (Tr.both d l r).d=td at *;generalize l.d=ld at *;generalize r.d=rd at *;unfold bC;exact aI|cX a l r=>have i1:a7 fR (Tr.cX a l r).d=some (.bl false):=ZI;have i2:a7 dc (Tr.cX a l r).d=some (.bl false):=ZI;have i3:a7 cx (Tr.cX a l r).d=some (.bl false):=ZI;have i4:a7 bQ (Tr.cX a l r).d=some (.bl true):=ZI;have i5:a7 bS (Tr.cX a l r).d=some (.bl false):=ZI;have Vg:aZ eW "left" (Tr.cX a l r).d=some l.d:=ZI;have Vh:aZ dq "right" (Tr.cX a l r).d=some r.d:=ZI;have Yo:aZ gW "asked" (Tr.cX a l r).d=some a.d:=ZI;have a1:aY (jD ts) (.lst [l.d,r.d])=some (jD (ts++[l,r])):=qu ts [l,r] (by simp;lia);have a2:aY (jD (ts++[l,r])) (.lst [a.d])=some (jD (ts++[l,r]++[a])):=qu (ts++[l,r]) [a] (by simp;lia);rw[show ts++[l,r]++[a]=ts++(Tr.cX a l r).kids by simp[Tr.kids]] at a2;generalize ts++(Tr.cX a l r).kids=Sr at *;generalize (Tr.cX a l r).d=td at *;generalize l.d=ld at *;generalize r.d=rd at *;generalize a.d=ad at *;unfold bC;exact aI|joined p z l r=>have i1:a7 fR (Tr.joined p z l r).d=some (.bl false):=ZI;have i2:a7 dc (Tr.joined p z l r).d=some (.bl false):=ZI;have i3:a7 cx (Tr.joined p z l r).d=some (.bl false):=ZI;have i4:a7 bQ (Tr.joined p z l r).d=some (.bl false):=ZI;have i5:a7 bS (Tr.joined p z l r).d=some (.bl true):=ZI;have Vg:aZ gV "ahead" (Tr.joined p z l r).d=some l.d:=ZI;have Vh:aZ fV "behind" (Tr.joined p z l r).d=some r.d:=ZI;have a1:aY (jD ts) (.lst [l.d,r.d])=some (jD (ts++[l,r])):=qu ts [l,r] (by simp;lia);rw[show ts++[l,r]=ts++(Tr.joined p z l r).kids from rfl] at a1;generalize ts++(Tr.joined p z l r).kids=Sr at *;generalize (Tr.joined p z l r).d=td at *;generalize l.d=ld at *;generalize r.d=rd at *;unfold bC;exact aI
theorem Q0W{S Tm A:Type}{g:D->M Unit}{body:M Fl}(mk:A->D)(R:S->Tm->aQ)(ok:Tm->Prop)(Q:D->aQ->Prop):∀(as:List A)(P:Nat->S->Prop)(s:S)(t:Tm),ok t->P 0 s ->
  (∀(i:Nat)(a:A),as[i]?=some a->∀s t,ok t->P i s->(∃s' t',P (i+1) s'/\ok t'/\bw g body (mk a) (R s t)=.ok .nx (R s' t'))\/∃d r,Q d r/\bw g body (mk a) (R s t)=.ok (.rt d) r) ->
  (∃s' t',P as.length s'/\ok t'/\loop g body (as.map mk) (R s t)=.ok .nx (R s' t'))\/∃d r,Q d r/\loop g body (as.map mk) (R s t)=.ok (.rt d) r:=by
 intro as;induction as with
 |nil=>intro P s t ht hs _;exact .inl ⟨s,t,hs,ht,rfl⟩|cons a as ih=>
  intro P s t ht hs h;have tl:∀r,loop g body (mk a::as.map mk) r=(bw g body (mk a) r).turn (loop g body (as.map mk)):=fun r=>by rw[l9,bw];cases g (mk a) r<;>rfl
  rcases h 0 a rfl s t ht hs with ⟨s1,t1,p1,o1,e1⟩|⟨d,r,q,e⟩
  rw[ZZ,tl,e1,Hd];exact ih (fun k=>P (k+1)) s1 t1 o1 p1 fun i a' ha=>h (i+1) a' (by simpa using ha);exact .inr ⟨d,r,q,by rw[ZZ,tl,e,He]⟩
theorem Q0o(t:Tr):∃ts:List Tr,qJ [t.d]=.ok (jD ts) []/\ts.length<=16777216/\∀s∈ts,∀r∈s.rs,r∈t.rs:=by
 have er:qi [.int 1000000]=some ((List.range 1000000).map fun(k:Nat)=>.int k):=ly _ _ rfl ZG ZG;have pw:Gr (.int 10) (.int 6)=some (.int 1000000):=rfl;have l0:D.lst [t.d]=jD [t]:=rfl;rcases Q0W (g:=aD 2) (body:=bC) (fun(k:Nat)=>D.int k) (fun(ts:List Tr)(s:Sl×Sl)=>[.sh t.d,.sh (jD ts),s.1,s.2]) j6 (fun d q=>(∃ts:List Tr,d=jD ts/\ts.length<=16777216/\∀s∈ts,∀r∈s.rs,r∈t.rs)/\∃s q',q=s::q') (List.range 1000000) (fun k ts=>(k<ts.length\/k=ts.length)/\ts.length<=3*k+1/\∀s∈ts,∀r∈s.rs,r∈t.rs) [t] (.no,.no) ⟨rfl,rfl⟩ ⟨ZH,ZH,fun s hs=>by rw[List.mem_singleton.mp hs];exact fun r h=>h⟩ (by
  intro i k hk ts s hs hP;obtain⟨rfl,hk⟩:=dz hk;obtain⟨s2,s3⟩:=s;obtain⟨g2,g3⟩:=hs;obtain⟨p1,p2,p3⟩:=hP;dsimp only at g2 g3;have e:aD 2 (.int (k:Int)) [.sh t.d,.sh (jD ts),s2,s3]=.ok () [.sh t.d,.sh (jD ts),.sh (.int k),s3]:=by simp[g2]
  rcases p1 with p1|p1;obtain⟨u,hu⟩:∃u,ts[k]?=some u:=⟨_,Z4 p1⟩;have nt:=Q1R t.d ts k u hu ZG s3 g3;have kl:u.kids.length<=3/\(ts++u.kids).length=ts.length+u.kids.length:=⟨by cases u<;>simp[Tr.kids],ZH⟩;refine .inl ⟨ts++u.kids,(.sh (.int k),.sh u.d),⟨ZG,ZG,fun s hs r hr=>?_⟩,⟨rfl,rfl⟩,by rw[bw,e,ay];exact nt⟩;rcases List.mem_append.mp hs with hs|hs;exact p3 s hs r hr;exact p3 u (Z3 hu) r (Tr.Kn hs r hr);refine .inr ⟨jD ts,[.sh t.d,.sh (jD ts),.sh (.int k),s3],⟨⟨ts,rfl,ZG,p3⟩,_,_,rfl⟩,?_⟩;rw[bw,e,ay];have ln:=Iu ts;have c:(k:Int)=ts.length:=ZG;generalize t.d=td at *;generalize jD ts=V9 at *;unfold bC;exact aI) with ⟨ts,s,⟨_,hm,hP⟩,_,L⟩|⟨d,r,⟨⟨ts,rfl,hQ⟩,s,q,rfl⟩,L⟩
 refine⟨ts,?_,by simp only[List.length_range] at hm;lia,hP⟩;obtain⟨s2,s3⟩:=s;rw[<-l0] at L;dsimp only at L;generalize t.d=td at *;generalize jD ts=V9 at *;generalize (List.range 1000000).map (fun(k:Nat)=>D.int k)=ds at *;unfold qJ xn;exact rn;refine⟨ts,?_,hQ⟩;rw[<-l0] at L;dsimp only at L;generalize t.d=td at *;generalize jD ts=V9 at *;generalize (List.range 1000000).map (fun(k:Nat)=>D.int k)=ds at *;unfold qJ xn;exact rn
theorem J7(x y z:D):JA [.ins "Load" [] [],x,y,z]=.ok .bz [.ins "Load" ["line","sides","table"] [x,y,z]]:=ZI
theorem J5(x y z:D):Jx [.ins "Fill" [] [],x,y,z]=.ok .bz [.ins "Fill" ["line","sides","tree"] [x,y,z]]:=ZI
theorem J6(x y a b c z:D):Jy [.ins "Fold" [] [],x,y,a,b,c,z]=.ok .bz [.ins "Fold" ["line","sides","side","size","deed","tree"] [x,y,a,b,c,z]]:=ZI
theorem zt(x y a b z:D):BM [.ins "Through" [] [],x,y,a,b,z]=.ok .bz [.ins "Through" ["line","sides","side","deed","tree"] [x,y,a,b,z]]:=ZI
theorem Q0C(x y a b c z:D):JC [.ins "Pick" [] [],x,y,a,b,c,z]=.ok .bz [.ins "Pick" ["line","sides","side","source","places","source_sides"] [x,y,a,b,c,z]]:=ZI
def Tr.isR:Tr->Bool|.read _ _ _=>true|_=>false
def Tr.at_:Tr->Nat|.read n _ _=>n|_=>0
theorem Tr.Xt(t:Tr):a7 ef t.d=some (.bl t.isR):=by cases t<;>kernel_rfl!
theorem Tr.line(t:Tr)(h:t.isR=true):aZ dh "line" t.d=some (.int t.at_):=by cases t with|read n a ys=>kernel_rfl!|_=>cases h
theorem Tr.KH(t:Tr)(h:t.isR=true):t.at_∈t.rs:=by cases t with|read n a ys=>simp[Tr.rs,Tr.at_]|_=>cases h
theorem zx(x:D)(t:Tr)(h1:a7 gX x=some (.bl false))(h2:a7 gY x=some (.bl false))(h3:aZ eX "tree" x=some t.d):∃rs,oE [x]=.ok (eL rs) []/\∀r∈rs,r∈t.rs:=by
 obtain⟨ts,e,hl,hr⟩:=Q0o t;have sq:cq (jD ts)=some (ts.map Tr.d):=rfl;have c:aS 1 (dk (ax qJ [.val (m1 (aZ eX "tree") (af 0))])) (aD 1) eP eO [.sh x]=.ok (eL ((ts.filter Tr.isR).map Tr.at_)) [.sh x]:=by refine rP Tr.d Tr.isR (fun t=>D.int (t.at_:Nat)) ts ?_ hl (by simp[eL,Function.comp_def]) (fun s _ acc=>?_) fun s _ hs acc=>?_;generalize t.d=td at *;exact aI;have i:=s.Xt;generalize s.d=sd at *;generalize s.isR=b at *;unfold eP;exact aI;have i:=s.line hs;generalize s.d=sd at *;unfold eO;exact aI
 refine⟨(ts.filter Tr.isR).map Tr.at_,?_,fun r Xa=>?_⟩;generalize (ts.filter Tr.isR).map Tr.at_=rs at c;unfold oE AS;exact rn;obtain⟨s,hs,rfl⟩:=List.mem_map.mp Xa;obtain⟨hs,hR⟩:=List.mem_filter.mp hs;exact hr s hs _ (s.KH hR)
theorem zU(x:D)(t:Tr)(h1:a7 gX x=some (.bl false))(h2:a7 gY x=some (.bl false))(h3:aZ eX "tree" x=some t.d)(hd:t.dep<=14):oF [x]=.ok (eL t.rs) []:=by have e:BR [t.d]=.ok (eL t.rs) []:=GI t 64 ZG hd;generalize t.d=td at *;unfold oF AZ;exact rn
structure vp(ls:R4)(ss:Pk)(kp:N0)(a:Nat)(x:D):Prop where
 line:aZ dh "line" x=some (.int a)
 QI:aZ cw "sides" x=some (T (sd ss a))
 own:∃rs,oF [x]=.ok (eL rs) []/\∀r,r∈rs<->Ap ls kp a r
 Ub:∃rs,oE [x]=.ok (eL rs) []/\∀r∈rs,Ap ls kp a r
theorem ma{ls:R4}{ss:Pk}{kp:N0}{a:Nat}{x:D}(t:Tr)(h0:aZ dh "line" x=some (.int a))(hs:aZ cw "sides" x=some (T (sd ss a)))(h1:a7 gX x=some (.bl false))(h2:a7 gY x=some (.bl false))(h3:aZ eX "tree" x=some t.d)(hd:t.dep<=14)(hr:∀r,r∈t.rs<->Ap ls kp a r):vp ls ss kp a x:=by obtain⟨rs,e,h⟩:=zx x t h1 h2 h3;exact⟨h0,hs,⟨_,zU x t h1 h2 h3 hd,hr⟩,⟨rs,e,fun r h'=>(hr r).mp (h r h')⟩⟩
section
variable{gs:Pk}{ls:R4}{ss:Pk}{ix_:Nat}(g:Gd gs ls ss ix_){kp:N0}(K:Kp ls kp)(pV:ls.length<=14)
include g K pV
theorem vX(a:Nat)(ha:kp[a]?=some true):∃x,kS [Pg ls,bY ss,ie kp,.int a]=.ok x []/\vp ls ss kp a x:=by
 have hr:=K.want a ha;have m6:=hr.lt g.wf g.ne;have hT:=tf g m6;have hi:=uv ls a m6;have hs:=cy ss a (by have:=g.len;lia);have sl:=(ny g m6).1;have Ir:∀b∈gq ls a,b<ls.length/\tF ls b/\aq (bY ss) (.int (b:Int))=some (T (sd ss b)):=fun b hb=>by have:=pe g m6 hb;exact⟨ZG,.step hr (k8 m6) hb,cy ss b (by have:=g.len;lia)⟩
 have Ny:∀b∈gq ls a,∃(w:R3)(t:Tr),oG [.int ((sd ss b).length:Nat)]=.ok (WD w) []/\xD [Wv ls ss kp (sd ss b).length,.int b,WD w]=.ok t.d []/\t.dep<=14/\∀r,r∈t.rs<->rF ls kp b r:=fun b hb=>by obtain⟨h1,h2,_⟩:=Ir b hb;have h4:=(ny g h1).1;obtain⟨w,e1,hw⟩:=u0 (sd ss b).length ZG;obtain⟨t,e,d1,d2⟩:=uE g K b h1 h2 64 ZG (sd ss b).length w hw ZG;exact⟨w,t,e1,e,ZG,d2⟩
 by_cases hk:kd ls a∈[0,12,13,14];unfold kd at hk;unfold gq at Ir Ny;obtain⟨l,hl⟩:∃l,fJ ls a=l:=⟨_,rfl⟩;have Sa:∀r,Ap ls kp a r<->∃b∈l.ns,rF ls kp b r:=fun r=>by unfold Ap gq;rw[hl]
 have Np:=K.k2 a hr;unfold kd gq at Np;rw[hl] at hk hT hi Ir Ny Np;cases l with
 |given j=>have hi:aq (Pg ls) (.int (a:Int))=some (.tup [.str (nm 0),.int j]):=hi;have i1:=J7 (.int a) (T (sd ss a)) (.int j);refine⟨.ins "Load" ["line","sides","table"] [.int a,T (sd ss a),.int j],?_,ZI,ZI,⟨[],ZI,fun r=>by rw[Sa];simp[PL.ns]⟩,[],ZI,fun r h=>by cases h⟩;unfold kS om;exact rn|fold d b k=>obtain⟨j,rfl,hj,_⟩:=hT;obtain⟨h1,h2,h3⟩:=Ir b (by simp[PL.ns]);obtain⟨w,t,e1,e2,d1,d2⟩:=Ny b (by simp[PL.ns]);have hi:aq (Pg ls) (.int (a:Int))=some (.tup [.str (nm 12),.str (nm d),.int b,.int j]):=hi;have i2:=r8 (sd ss b) j hj;generalize (sd ss b).getD j 0=z at *;have i1:=J6 (.int a) (T (sd ss a)) (.int j) (.int z) (.str (nm d)) t.d;have wi:=M9 ls ss kp (sd ss b).length;have w3:=DZ ls ss kp (sd ss b).length;refine⟨_,?_,ma t (x:=.ins "Fold" ["line","sides","side","size","deed","tree"] [.int a,T (sd ss a),.int j,.int z,.str (nm d),t.d]) ZI ZI ZI ZI ZI d1 fun r=>by rw[Sa,d2];simp[PL.ns]⟩;generalize Wv ls ss kp (sd ss b).length=W at *;generalize t.d=td at *;unfold kS om;exact rn|run d b k=>obtain⟨j,rfl,hj,_,hS⟩:=hT;obtain⟨h1,h2,h3⟩:=Ir b (by simp[PL.ns]);obtain⟨w,t,e1,e2,d1,d2⟩:=Ny b (by simp[PL.ns]);rw[<-hS] at e1 e2;have hi:aq (Pg ls) (.int (a:Int))=some (.tup [.str (nm 13),.str (nm d),.int b,.int j]):=hi;have i1:=zt (.int a) (T (sd ss a)) (.int j) (.str (nm d)) t.d;have wi:=M9 ls ss kp (sd ss a).length;have w3:=DZ ls ss kp (sd ss a).length;refine⟨_,?_,ma t (x:=.ins "Through" ["line","sides","side","deed","tree"] [.int a,T (sd ss a),.int j,.str (nm d),t.d]) ZI ZI ZI ZI ZI d1 fun r=>by rw[Sa,d2];simp[PL.ns]⟩;generalize Wv ls ss kp (sd ss a).length=W at *;generalize t.d=td at *;unfold kS om;exact rn|pick b k c=>
  have kb:=Np (by simp[PL.k]) b (by simp[PL.ns]);have kc:=Np (by simp[PL.k]) c (by simp[PL.ns]);obtain⟨h1,h2,h3⟩:=Ir b (by simp[PL.ns]);have hi:aq (Pg ls) (.int (a:Int))=some (.tup [.str (nm 14),.int b,.int k,.int c]):=hi;have i1:=Q0C (.int a) (T (sd ss a)) (.int k) (.int b) (.int c) (T (sd ss b));have rr:∀r,Ap ls kp a r<->r∈[b,c]:=fun r=>by rw[Sa];simp[PL.ns,rF.kept kb,rF.kept kc]
  refine⟨.ins "Pick" ["line","sides","side","source","places","source_sides"] [.int a,T (sd ss a),.int k,.int b,.int c,T (sd ss b)],?_,ZI,ZI,⟨[b,c],ZI,fun r=>(rr r).symm⟩,[b,c],ZI,fun r h=>(rr r).mpr h⟩;unfold kS om;exact rn
 |_=>simp[PL.k] at hk
 have w0:=M9 ls ss kp (sd ss a).length;obtain⟨w,e1,hw⟩:=u0 (sd ss a).length ZG;obtain⟨t,e2,d1,d2⟩:=yy g m6 hk (fun h=>K.k2 a hr (by rw[h];simp)) (n:=61) (fun b hb n' Cf=>uE g K b (Ir b hb).1 (Ir b hb).2.1 n' (by have:=pe g m6 hb;lia)) (sd ss a).length w hw ZG;have e2:BN [Wv ls ss kp (sd ss a).length,.int a,WD w]=.ok t.d []:=e2;have i1:=J5 (.int a) (T (sd ss a)) t.d;have w2:=Q8 ls ss kp (sd ss a).length;refine⟨_,?_,ma t (x:=.ins "Fill" ["line","sides","tree"] [.int a,T (sd ss a),t.d]) ZI ZI ZI ZI ZI ZG d2⟩;have k1:=(fJ ls a).kind;have Ua:=(fJ ls a).Pd;have yk:kd ls a≠0/\kd ls a≠12/\kd ls a≠13/\kd ls a≠14:=by simpa using hk
 unfold kd at yk;have ne:∀j,j<32->(fJ ls a).k≠j->b7 (.str (nm (fJ ls a).k)) (.str (nm j))=some (.bl false):=fun j hj h=>by rw[HQ _ _ ZG hj,Z0 h]
 have n0:=ne 0 ZG yk.1;have YR:=ne 12 ZG yk.2.1;have YS:=ne 13 ZG yk.2.2.1;have YT:=ne 14 ZG yk.2.2.2;generalize Wv ls ss kp (sd ss a).length=W at *;generalize t.d=td at *;generalize (fJ ls a).d=ld at *;generalize nm (fJ ls a).k=kn at *;unfold kS om;exact rn
end
def Dc(m:Sj):D:=.gg (m.map fun p=>.inl (p.1:Int)) (m.map fun p=>.int (p.2:Int))
def fF:Sj->Nat->Option Nat|[],_=>none|p::m,k=>if p.1=k then some p.2 else fF m k
def qv(k v:Nat):Sj->List (Nat×Nat)|[]=>[(k,v)]|p::m=>if p.1=k then(p.1,v)::m else p::qv k v m
theorem oR(a b:Nat):((.inl (a:Int):Sum Int Str)=.inl (b:Int))<->a=b:=⟨fun h=>by cases h;rfl,fun h=>by rw[h]⟩
theorem iD:∀(m:Sj)(k v:Nat),fF m k=some v->oy (Dc m) (.int (k:Int))=some (.int (v:Int))|[],_,_,h=>by cases h|p::m,k,v,h=>by have ih:=iD m k v;unfold fF at h;show (if _ then _ else rT _ _ _)=_;by_cases c:p.1=k;rw[ZY c] at h;cases h;rw[ZY ((oR _ _).mpr c)];rw[Za c] at h;rw[Za fun z=>c ((oR _ _).mp z)];exact ih h
theorem tV:∀(m:Sj)(k:Nat),fF m k=none->rT (m.map fun p=>.inl (p.1:Int)) (m.map fun p=>D.int (p.2:Int)) (.inl (k:Int))=none|[],_,_=>rfl|p::m,k,h=>by unfold fF at h;show (if _ then _ else rT _ _ _)=_;by_cases c:p.1=k;rw[ZY c] at h;cases h;rw[Za c] at h;rw[Za fun z=>c ((oR _ _).mp z)];exact tV m k h
theorem yh(m:Sj)(k v:Nat)(x:D)(h:fF m k=some v):Bx (Dc m) (.int (k:Int)) x=some (.int (v:Int)):=by have:rT (m.map fun p=>.inl (p.1:Int)) (m.map fun p=>D.int (p.2:Int)) (.inl (k:Int))=some (.int (v:Int)):=iD m k v h;show some ((rT _ _ _).getD x)=_;rw[this];rfl
theorem yP(m:Sj)(k:Nat):(rT (m.map fun p=>.inl (p.1:Int)) (m.map fun p=>D.int (p.2:Int)) (.inl (k:Int))).isSome=(fF m k).isSome:=by cases h:fF m k with|none=>rw[tV m k h];rfl|some v=>rw[show rT _ _ _=_ from iD m k v h];rfl
theorem O8(m:Sj)(k:Nat):rR false (.int (k:Int)) (Dc m)=some (.bl (fF m k).isSome):=by rw[<-yP];rfl
theorem PZ(m:Sj)(k:Nat):rR true (.int (k:Int)) (Dc m)=some (.bl (!(fF m k).isSome)):=by rw[<-yP];rfl
theorem BB(k v:Nat):∀m:Sj,vG (.inl (k:Int)) (.int (v:Int)) (m.map fun p=>.inl (p.1:Int)) (m.map fun p=>D.int (p.2:Int))=((qv k v m).map fun p=>.inl (p.1:Int),(qv k v m).map fun p=>D.int (p.2:Int))|[]=>rfl|p::m=>by have ih:=BB k v m;rw[ZZ,ZZ,vG,ih,qv];by_cases c:p.1=k;rw[ZY ((oR _ _).mpr c),ZY c];rfl;rw[Za fun z=>c ((oR _ _).mp z),Za c];rfl
theorem wF(m:Sj)(k v:Nat)(h:m.length<1000):putD (.int (k:Int)) (.int (v:Int)) (Dc m)=some (Dc (qv k v m)):=by show (if _ then _ else _)=_;rw[ZY (by simpa using h),BB];rfl
theorem fN(k v:Nat):∀(m:Sj)(j:Nat),fF (qv k v m) j=if k=j then some v else fF m j|[],j=>by simp[qv,fF]|p::m,j=>by have ih:=fN k v m j;unfold qv;by_cases c:p.1=k;rw[ZY c,fF,fF];dsimp only;rw[c];split<;>rfl;rw[Za c,fF,ih,fF];by_cases c2:p.1=j;rw[ZY c2,Za ZG,ZY c2];rw[Za c2,Za c2]
theorem xh(k v:Nat):∀m:Sj,(qv k v m).length<=m.length+1/\((fF m k).isSome=true->(qv k v m).length=m.length)|[]=>⟨by simp[qv],fun h=>by cases h⟩|p::m=>by have ih:=xh k v m;unfold qv fF;by_cases c:p.1=k;rw[ZY c,ZY c];exact⟨ZH,fun _=>ZH⟩;rw[Za c,Za c];exact⟨by simp only[List.length_cons];lia,fun h=>by simp only[List.length_cons];rw[ih.2 h]⟩
theorem nU(k v:Nat):∀m:Sj,fF m k=none->qv k v m=m++[(k,v)]|[],_=>rfl|p::m,h=>by unfold fF at h;unfold qv;by_cases c:p.1=k;rw[ZY c] at h;cases h;rw[Za c] at h;rw[Za c,nU k v m h];rfl
theorem nT:∀(m:Sj)(k v:Nat),fF m k=some v->(k,v)∈m|[],_,_,h=>by cases h|p::m,k,v,h=>by unfold fF at h;by_cases c:p.1=k;rw[ZY c] at h;cases h;subst c;exact Z2;rw[Za c] at h;exact Z1 _ (nT m k v h)
theorem wc{α:Type}[DecidableEq α]:∀(l l':List α),l.Nodup->(∀x∈l,x∈l')->l.length<=l'.length|[],_,_,_=>ZH|x::l,l',hn,h=>by have hx:=h x Z2;have Cf:=List.nodup_cons.mp hn;have ih:=wc l (l'.erase x) Cf.2 fun y hy=>(List.mem_erase_of_ne (fun z:y=x=>Cf.1 (by rw[<-z];exact hy))).mpr (h y (Z1 _ hy));have e:=List.length_erase_of_mem hx;have:=List.length_pos_of_mem hx;simp only[List.length_cons];lia
theorem Q0U(rows:XT)(hl:rows.length<=100):∃r:Nat,xM [eL rows]=.ok (.int r) []/\r∉rows/\r<=100:=by
 have Xs:∀k:Nat,inD false (.int (k:Int)) (eL rows)=some (.bl (decide (k∈rows))):=fun k=>by
  have sq:cq (eL rows)=some (rows.map fun k=>D.int (k:Nat)):=rfl;unfold inD;rw[sq];dsimp only;have fl:(rows.map fun k=>D.int (k:Nat)).all jl=true:=by simp[jl]
  rw[fl,Bool.and_true,ZY (show jl (D.int (k:Int))=true from rfl)];have:((rows.map fun k=>D.int (k:Nat)).any fun y=>eqB y (.int (k:Int)))=decide (k∈rows):=by simp only[List.any_map,Function.comp_def,eqB];rw[Bool.eq_iff_iff];simp only[List.any_eq_true,beq_iff_eq,decide_eq_true_eq];exact⟨fun ⟨x,h,e⟩=>(show x=k by lia) ▸ h,fun h=>⟨k,h,rfl⟩⟩
  simp[this]
 have key:∀(n k:Nat),n+k=101->(∀j<k,j∈rows)->∃r:Nat,gD bW cH (n+9899) [.sh (eL rows),.sh (.int k)]=.ok .nx [.sh (eL rows),.sh (.int r)]/\r∉rows/\r<=100:=by
  intro n;induction n with
  |zero=>intro k hk hj;have:=wc (List.range k) rows List.nodup_range fun x hx=>hj x (List.mem_range.mp hx);simp at this;lia|succ n ih=>
   intro k hk hj;have ik:=Xs k;by_cases c:k∈rows;rw[Y9 c] at ik;obtain⟨r,e,h1,h2⟩:=ih (k+1) ZG fun j Nn=>by by_cases z:j=k;rw[z];exact c;exact hj j ZG
   refine⟨r,?_,h1,h2⟩;rw[show n+1+9899=(n+9899)+1 by lia,Q0m (r1:=[.sh (eL rows),.sh (.int k)]) (r2:=[.sh (eL rows),.sh (.int ((k+1:Nat):Int))])];exact e;unfold bW;exact aI;rw[show (((k+1:Nat)):Int)=(k:Int)+1 by lia];unfold cH;exact aI;rw[Z0 c] at ik;refine⟨k,?_,c,ZG⟩;rw[show n+1+9899=(n+9899)+1 by lia];refine Q0Z ?_;unfold bW;exact aI
 obtain⟨r,e,h1,h2⟩:=key 101 0 rfl fun j hj=>ZG;refine⟨r,?_,h1,h2⟩;have e:wG bW cH [.sh (eL rows),.sh (.int 0)]=.ok .nx [.sh (eL rows),.sh (.int r)]:=e;unfold xM A0;exact rn
theorem yG{A B:Type}[Inhabited B]{P:A->B->Prop}{as:List A}(h:∀a∈as,∃b,P a b):∃f:A->B,∀a∈as,P a (f a):=by
 classical
 refine⟨fun a=>if h':∃b,P a b then h'.choose else default,fun a ha=>?_⟩;have h':=h a ha;dsimp only;rw[dif_pos h'];exact h'.choose_spec
theorem tI(k v:Nat):∀(m:Sj)(w:Nat),fF m k=some w->(qv k v m).map (·.1)=m.map (·.1)|[],_,h=>by cases h|p::m,w,h=>by unfold fF at h;unfold qv;by_cases c:p.1=k;rw[ZY c];rfl;rw[Za c] at h;rw[Za c,ZZ,ZZ,tI k v m w h]
theorem xf:∀(m:Sj)(k:Nat),fF m k=none->k∉m.map (·.1)|[],_,_=>ZH|p::m,k,h=>by unfold fF at h;by_cases c:p.1=k;rw[ZY c] at h;cases h;rw[Za c] at h;have:=xf m k h;simp only[List.map_cons,List.mem_cons,not_or];exact⟨fun z=>c z.symm,this⟩
def Kd(m:Sj):Prop:=(m.map (·.1)).Nodup/\∀k∈m.map (·.1),k<14
theorem Kd.j4{m:Sj}(h:Kd m):m.length<=14:=by have:=wc (m.map (·.1)) (List.range 14) h.1 fun x hx=>List.mem_range.mpr (h.2 x hx);simpa using this
theorem Kd.put{m:Sj}(h:Kd m){k:Nat}(v:Nat)(hk:k<14):Kd (qv k v m):=by cases e:fF m k with|some w=>unfold Kd;rw[tI k v m w e];exact h|none=>rw[nU k v m e];have hn:=xf m k e;unfold Kd;rw[Uh];refine⟨List.nodup_append.mpr ⟨h.1,ZH,fun a ha b hb z=>?_⟩,fun x hx=>?_⟩;simp at hb;rw[<-z] at hb;subst hb;exact hn ha;rcases List.mem_append.mp hx with hx|hx;exact h.2 x hx;simp at hx;lia
theorem Kd.nil:Kd []:=⟨ZH,ZH⟩
structure NQ(n:Nat)(as:XT)(X:Nat->D)(rd:Nat->XT)(ss:Pk):Prop where
 some:as≠[]
 ord:as.Pairwise (· < ·)
 j4:as.length<=14
 small:∀a∈as,a<14
 line:∀a∈as,aZ dh "line" (X a)=Option.some (.int (a:Int))
 side:∀a∈as,aZ cw "sides" (X a)=Option.some (T (sd ss a))/\SI (sd ss a)
 read:∀a∈as,oF [X a]=.ok (eL (rd a)) []
 own:∀a∈as,∀r∈rd a,r∈as/\r<a
 all:∀i,i+1<as.length->∃a∈as,as.getD i 0∈rd a
section
variable{n:Nat}{as:XT}{X:Nat->D}{rd:Nat->XT}{ss:Pk}(L:NQ n as X rd ss)
def kj(as:XT)(X:Nat->D):D:=.lst (as.map X)
theorem vB{as:XT}{i:Nat}(h:i<as.length):as.getD i 0∈as:=by rw[Z5,Z4 h];exact BA h
theorem BD(as:XT)(X:Nat->D):kR [kj as X]=some ((List.range as.length).map fun(i:Nat)=>D.tup [.int i,X (as.getD i 0)]):=by
 show some (jZ (as.map X))=_;rw[qH];congr 1;refine vz ZH fun i h1 h2=>?_;have hi:i<as.length:=by simpa using h2
 simp[hi]
include L
theorem wy{i j:Nat}(hi:i<as.length)(hj:j<as.length):as.getD i 0<as.getD j 0<->i<j:=by
 have e:∀k (h:k<as.length),as.getD k 0=as[k]:=fun k h=>by simp[h]
 rw[e i hi,e j hj];have p:=List.pairwise_iff_getElem.mp L.ord;constructor;intro h;rcases Nat.lt_trichotomy i j with z|z|z;exact z;subst z;lia;have:=p j i hj hi z;lia;intro z;exact p i j hi hj z
theorem at_of{a:Nat}(h:a∈as):∃i,i<as.length/\as.getD i 0=a:=by obtain⟨i,hi,e⟩:=List.mem_iff_getElem.mp h;exact⟨i,hi,by simp[hi,e]⟩
theorem vA{i j:Nat}(hi:i<as.length)(hj:j<as.length)(e:as.getD i 0=as.getD j 0):i=j:=by rcases Nat.lt_trichotomy i j with z|z|z;have:=(wy L hi hj).mpr z;lia;exact z;have:=(wy L hj hi).mpr z;lia
def Ht(as:XT)(rd:Nat->XT)(i:Nat)(m:Sj):Prop:=(Kd m/\∀r v,fF m r=some v->v<i)/\∀j<i,∀k∈rd (as.getD j 0),∃j',j<=j'/\fF m k=some j'
theorem Fd:∃m,xJ [kj as X]=.ok (Dc m) []/\Ht as rd as.length m:=by
 have en:=BD as X;obtain⟨m,t,hP,ht,Lp⟩:=cz (g:=cW [2,3]) (body:=cD) (fun(i:Nat)=>D.tup [.int i,X (as.getD i 0)]) (fun(m:Sj)(t:Sl×Sl×Sl)=>[.sh (kj as X),.ow (Dc m),t.1,t.2.1,t.2.2]) ye (List.range as.length) (Ht as rd) [] (.no,.no,.no) ⟨rfl,rfl,rfl⟩ ⟨⟨Kd.nil,fun r v h=>by cases h⟩,fun j hj=>ZG⟩ (by
  intro i k hk m t ht hP;obtain⟨rfl,hk⟩:=dz hk;obtain⟨t2,t3,t4⟩:=t;obtain⟨f2,f3,f4⟩:=ht;dsimp only at f2 f3 f4;have ha:=vB hk;have rb:=L.read _ ha;have ow:=L.own _ ha;obtain⟨⟨hK,hV⟩,hP⟩:=hP;have YI:=L.small _ ha;generalize WJ:as.getD k 0=a at *;obtain⟨m',s,⟨WG,hq⟩,hs,Li⟩:=cz (g:=aD 4) (body:=cC) (fun(r:Nat)=>D.int r) (fun(m:Sj)(t:Sl)=>[.sh (kj as X),.ow (Dc m),.sh (.int k),.sh (X a),t]) qR (rd a) (fun c m'=>(Kd m'/\∀r v,fF m' r=some v->v<k+1)/\(∀j v,fF m j=some v->∃v',v<=v'/\fF m' j=some v')/\∀j<c,fF m' ((rd a).getD j 0)=some k) m t4 f4 ⟨⟨hK,fun r v h=>by have:=hV r v h;lia⟩,fun j v h=>⟨v,ZU _,h⟩,fun j hj=>ZG⟩ (by
   intro c r hr m' t ht Nh;obtain⟨⟨q1,q4⟩,q2,q3⟩:=Nh;have hf:free (some t)=true:=ht;have Xb:=Z3 hr;have TQ:=ow r Xb;have OT:=L.small r TQ.1;have pt:=wF m' r k (by have:=q1.j4;lia);refine⟨qv r k m',.sh (.int r),⟨⟨q1.put k OT,fun r' v h=>?_⟩,fun j v hj=>?_,fun j hj=>?_⟩,rfl,?_⟩;rw[fN] at h;split at h;cases h;lia;exact q4 r' v h;obtain⟨v',h1,h2⟩:=q2 j v hj;rw[fN];by_cases c:r=j;rw[ZY c];exact⟨k,by have:=hV j v hj;lia,rfl⟩;rw[Za c];exact⟨v',h1,h2⟩;rw[fN];by_cases z:j=c;have:(rd a).getD j 0=r:=by rw[z,Z5,hr];rfl
   rw[this,ZY rfl];split;rfl;exact q3 j ZG;have e:aD 4 (.int (r:Int)) [.sh (kj as X),.ow (Dc m'),.sh (.int k),.sh (X a),t]=.ok () [.sh (kj as X),.ow (Dc m'),.sh (.int k),.sh (X a),.sh (.int r)]:=by simp[hf]
   generalize X a=xa at *;generalize kj as X=xs at *;rw[bw,e,ay,show cC _=.ok .nx _ by unfold cC;exact aI];rfl)
  have Ys:cq (eL (rd a))=some ((rd a).map fun(r:Nat)=>D.int (r:Int)):=rfl;refine⟨m',(.sh (.int k),.sh (X a),s),⟨WG,fun j hj r hr=>?_⟩,⟨rfl,rfl,hs⟩,?_⟩;by_cases z:j=k;rw[z,WJ] at hr;obtain⟨c,hc,e⟩:=List.mem_iff_getElem.mp hr;have:=hq.2 c hc;rw[show (rd a).getD c 0=r by simp[hc,e]] at this;exact⟨k,ZG,this⟩;obtain⟨j',h1,h2⟩:=hP j ZG r hr;obtain⟨v',h3,h4⟩:=hq.1 r j' h2;exact⟨v',ZG,h4⟩;have e:cW [2,3] (.tup [.int (k:Int),X a]) [.sh (kj as X),.ow (Dc m),t2,t3,t4]=.ok () [.sh (kj as X),.ow (Dc m),.sh (.int k),.sh (X a),t4]:=by simp[f2,f3]
  dsimp only;generalize X a=xa at *;generalize kj as X=xs at *;generalize (rd a).map (fun(r:Nat)=>D.int (r:Int))=rs at *;rw[bw,e,ay,show cD _=.ok .nx _ by unfold cD;exact aI];rfl)
 obtain⟨t2,t3,t4⟩:=t;simp only[List.length_range] at hP;refine⟨m,?_,hP⟩;have hD:Dc []=.gg [] []:=rfl;rw[hD] at Lp;dsimp only at Lp;generalize kj as X=xs at *;unfold xJ AX;exact rn
end
section
variable{n:Nat}{as:XT}{X:Nat->D}{rd:Nat->XT}{ss:Pk}(L:NQ n as X rd ss)
theorem noLs_N:∀ks:XT,noLs (ks.map fun k=>D.int (k:Nat))=true|[]=>rfl|k::ks=>by rw[ZZ,noLs,noLs_N ks];rfl
theorem Fb(m:Sj):Cy (Dc m)=some ((m.map (·.1)).map fun(k:Nat)=>D.int (k:Int)):=by show some ((m.map fun p=>(.inl (p.1:Int):Sum Int Str)).map Cw)=_;rw[KQ,KQ];rfl
def xb(as:XT)(rd:Nat->XT)(i:Nat)(R:Sj):Prop:=R.map (·.1)=as.take i/\(∀p∈R,p.2<=100)/\(∀j<i,∃v,fF R (as.getD j 0)=some v)/\∀j j',j<j'->j'<i->(∃q,j'<=q/\q<as.length/\as.getD j 0∈rd (as.getD q 0))->fF R (as.getD j 0)≠fF R (as.getD j' 0)
theorem pO{as:XT}{i k:Nat}(hi:i<=as.length)(h:k∈as.take i):∃j,j<i/\as.getD j 0=k:=by obtain⟨j,hj,e⟩:=List.mem_iff_getElem.mp h;simp only[List.length_take] at hj;have h2:j<as.length:=ZG;exact⟨j,ZG,by rw[<-e];simp[h2]⟩
theorem yd:∀(is:Pa)(a B:Int),a<=B->(∀x∈is,x<=B)->is.foldl (fun a b=>if a<b then b else a) a<=B|[],a,B,h,_=>h|i::is,a,B,h,h2=>by rw[List.foldl_cons];refine yd is _ B ?_ fun x hx=>h2 x (Z1 _ hx);split;exact h2 i Z2;exact h
theorem KG(R:Sj)(h:R≠[])(Ox:∀p∈R,p.2<=100):∃mx:Nat,q9 (Dc R)=some (.int (mx:Int))/\mx<=100/\∀p∈R,p.2<=mx:=by
 cases R with
 |nil=>exact absurd rfl h|cons p R=>
  have e:fB ((p::R).map fun p=>D.int (p.2:Int))=some ((p.2:Int)::R.map fun p=>(p.2:Int)):=by have:=l6 ((p::R).map fun p=>(p.2:Int));rw[KQ] at this;exact this
  obtain⟨h1,h2⟩:=rY (R.map fun p=>(p.2:Int)) (p.2:Int);have h3:=yd (R.map fun p=>(p.2:Int)) (p.2:Int) 100 (by have:=Ox p Z2;lia) fun x hx=>by obtain⟨q,hq,rfl⟩:=List.mem_map.mp hx;have:=Ox q (Z1 _ hq);lia
  have ev:q9 (Dc (p::R))=some (.int ((R.map fun p=>(p.2:Int)).foldl (fun a b=>if a<b then b else a) (p.2:Int))):=by show (match fB ((p::R).map fun p=>D.int (p.2:Int)) with|some (i::is)=>some (D.int (is.foldl (fun a b=>if a<b then b else a) i))|_=>none)=_;rw[e]
  generalize (R.map fun p=>(p.2:Int)).foldl (fun a b=>if a<b then b else a) (p.2:Int)=z at *;refine⟨z.toNat,by rw[ev,show ((z.toNat:Nat):Int)=z by lia],ZG,fun q hq=>?_⟩;rcases List.mem_cons.mp hq with rfl|hq
  lia
  have:=h2 (q.2:Int) (Z8 (f:=fun p=>(p.2:Int)) hq);lia
include L
theorem GK:∃R,xS [kj as X]=.ok (Dc R) []/\xb as rd as.length R:=by
 obtain⟨m,em,⟨hK,hV⟩,hm⟩:=Fd L;have en:=BD as X;have Ph:∀i,i+1<as.length->∃v,fF m (as.getD i 0)=some v:=fun i hi=>by obtain⟨a,ha,hr⟩:=L.all i hi;obtain⟨q,hq,e⟩:=at_of L ha;rw[<-e] at hr;obtain⟨v,_,h⟩:=hm q hq _ hr;exact⟨v,h⟩
 obtain⟨R,t,hP,ht,Lp⟩:=cz (g:=cW [3,4]) (body:=fT) (fun(i:Nat)=>D.tup [.int i,X (as.getD i 0)]) (fun(R:Sj)(t:Sl×Sl×Sl)=>[.sh (kj as X),.sh (Dc m),.ow (Dc R),t.1,t.2.1,t.2.2]) ye (List.range as.length) (xb as rd) [] (.no,.no,.no) ⟨rfl,rfl,rfl⟩ ⟨ZH,ZH,fun j hj=>ZG,fun j j' _ h=>ZG⟩ (by
  intro i k hk R t ht hP;obtain⟨rfl,hk⟩:=dz hk;obtain⟨t3,t4,t5⟩:=t;obtain⟨f3,f4,f5⟩:=ht;dsimp only at f3 f4 f5;obtain⟨p1,p2,p3,p4⟩:=hP;have ha:=vB hk;have li:=L.line _ ha;let lv:=fun j:Nat=>(fF m j).getD 0;let rv:=fun j:Nat=>(fF R j).getD 0;have Vz:∀j∈as.take k,fF m j=some (lv j):=fun j hj=>by obtain⟨q,hq,e⟩:=pO ZG hj;obtain⟨v,h⟩:=Ph q ZG;rw[e] at h;show _=some ((fF m j).getD 0);rw[h];rfl
  have VE:∀j∈as.take k,fF R j=some (rv j):=fun j hj=>by obtain⟨q,hq,e⟩:=pO ZG hj;obtain⟨v,h⟩:=p3 q hq;rw[e] at h;show _=some ((fF R j).getD 0);rw[h];rfl
  obtain⟨nd,TF⟩:∃nd:XT,nd=((as.take k).filter fun j=>decide (k<=lv j)).map rv:=⟨_,rfl⟩;have ks:=Fb R;rw[p1] at ks;obtain⟨xa,TV⟩:∃xa,xa=X (as.getD k 0):=⟨_,rfl⟩;obtain⟨xs,Xk⟩:∃xs,xs=kj as X:=⟨_,rfl⟩;rw[<-TV] at li ⊢;rw[<-Xk];have c:aS 1 (uz (af 2)) (aD 6) fQ fO [.sh xs,.sh (Dc m),.sh (Dc R),.sh (.int k),.sh xa,de t5]=.ok (.lst (nd.map fun j=>D.int (j:Nat))) [.sh xs,.sh (Dc m),.sh (Dc R),.sh (.int k),.sh xa,de t5]:=by
   refine rP (fun(j:Nat)=>D.int (j:Int)) (fun j=>decide (k<=lv j)) (fun j=>D.int (rv j:Nat)) (as.take k) aI (by have:=L.j4;simp;lia) (by rw[TF,KQ];rfl) (fun j hj acc=>?_) fun j hj _ acc=>?_;have g1:=iD m j (lv j) (Vz j hj);have ge:RN (.int (lv j:Int)) (.int (k:Int))=some (.bl (decide (k<=lv j))):=by rw[JO,decide_eq_decide.mpr (show (k:Int)<=lv j<->k<=lv j by lia)]
   generalize lv j=v at *;unfold fQ;exact aI;have g1:=iD R j (rv j) (VE j hj);generalize rv j=v at *;unfold fO;exact aI
  have vw:kf (aS 1 (uz (af 2)) (aD 6) fQ fO) [.sh xs,.sh (Dc m),.ow (Dc R),.sh (.int k),.sh xa,t5]=.ok (eL nd) [.sh xs,.sh (Dc m),.ow (Dc R),.sh (.int k),.sh xa,t5]:=by rw[uA];simp only[List.map_cons,List.map_nil,lG,lH];rw[c,va _ _ _ (noLs_N nd)];rfl
  have XC:nd.length<=100:=by
   rw[TF,Zf];have:=JF (fun j=>decide (k<=lv j)) (as.take k);have h3:=L.j4;have h4:=List.length_take_le k as;have h5:=Mv (i:=k) (l:=as)
   lia
  obtain⟨r,lo,hr,TN⟩:=Q0U nd XC;have Rl:R.length<=14:=by have:=congrArg List.length p1;simp only[List.length_map,List.length_take] at this;have:=L.j4;lia
  have pt:=wF R (as.getD k 0) r ZG;have Ih:fF R (as.getD k 0)=none:=by
   cases e:fF R (as.getD k 0) with
   |none=>rfl|some v=>
    have Ce:=Z8 (f:=(·.1)) (nT R _ v e);rw[p1] at Ce;obtain⟨j,hj,e2⟩:=pO ZG Ce;have:=vA L (i:=j) (j:=k) ZG hk e2
    lia
  have tk:as.take k++[as.getD k 0]=as.take (k+1):=by
   have:as.getD k 0=as[k]:=by simp[hk]
   rw[this];simp
  refine⟨qv (as.getD k 0) r R,(.sh (.int k),.sh xa,.sh (eL nd)),⟨?_,fun p hp=>?_,fun j hj=>?_,fun j j' W0 Nn hq=>?_⟩,⟨rfl,rfl,rfl⟩,?_⟩;rw[nU _ _ _ Ih,Uh,p1];exact tk;rw[nU _ _ _ Ih] at hp;rcases List.mem_append.mp hp with hp|hp;exact p2 p hp;rw[List.mem_singleton.mp hp];exact TN;rw[fN];split;exact⟨_,rfl⟩;by_cases z:j=k;subst z;contradiction;exact p3 j ZG;rw[fN,fN];have h1:¬as.getD k 0=as.getD j 0:=fun z=>by have:=vA L hk ZG z;lia
  rw[Za h1];by_cases z:j'=k;subst z;rw[ZY rfl];obtain⟨q,q1,q2,q3⟩:=hq;have Tz:as.getD j 0∈as.take j':=by rw[Z5,Z4 ZG];exact List.mem_take_iff_getElem.mpr ⟨j,ZG,rfl⟩
  rw[VE _ Tz];intro z;have z:rv (as.getD j 0)=r:=ZV z;apply hr;rw[TF,<-z];refine Z8 (List.mem_filter.mpr ⟨Tz,Y9 ?_⟩);obtain⟨v,v1,v2⟩:=hm q q2 _ q3;rw[Vz _ Tz] at v2;have:=ZV v2
  lia
  have h2:¬as.getD k 0=as.getD j' 0:=fun z'=>by have:=vA L hk ZG z';lia
  rw[Za h2];exact p4 j j' W0 ZG hq;have e:cW [3,4] (.tup [.int (k:Int),xa]) [.sh xs,.sh (Dc m),.ow (Dc R),t3,t4,t5]=.ok () [.sh xs,.sh (Dc m),.ow (Dc R),.sh (.int k),.sh xa,t5]:=by simp[f3,f4]
  dsimp only;clear c;rw[bw,e,ay,show fT _=.ok .nx _ by unfold fT;exact aI];rfl)
 obtain⟨t3,t4,t5⟩:=t;simp only[List.length_range] at hP;refine⟨R,?_,hP⟩;have hD:Dc []=.gg [] []:=rfl;rw[hD] at Lp;dsimp only at Lp;generalize kj as X=xs at *;unfold xS A8;exact rn
theorem vV(R:Sj)(hR:xb as rd as.length R):∃ys,xK [kj as X,Dc R]=.ok (Z ys) []:=by
 obtain⟨p1,p2,p3,p4⟩:=hR;obtain⟨mx,em,YE,hle⟩:=KG R (fun z=>by rw[z] at p1;have:=congrArg List.length p1;have:=List.length_pos_iff.mpr L.some;simp at *;lia) p2;have ad:aY (.int (mx:Int)) (.int 1)=some (.int ((mx+1:Nat):Int)):=rfl;have er:=qj (mx+1) ZG;have c:aS 1 (cJ [(m2 aY (m1 q9 (af 1)) (mC (.int 1)))]) (aD 5) (VP.ret true) fG [.sh (kj as X),.sh (Dc R),.no,.no,.no]=.ok (Z (List.replicate (mx+1) 0)) [.sh (kj as X),.sh (Dc R),.no,.no,.no]:=by refine gT (fun(k:Nat)=>D.int k) (fun _=>D.int 0) (List.range (mx+1)) aI (by simp;lia) (by simp[Z,List.map_const']) fun k hk acc=>?_;unfold fG;exact aI
 obtain⟨ys,t,hP,ht,Lp⟩:=cz (g:=aD 3) (body:=dB) X (fun(ys:Pa)(t:Sl×Sl)=>[.sh (kj as X),.sh (Dc R),.ow (Z ys),t.1,t.2]) j6 as (fun _ ys=>ys.length=mx+1) (List.replicate (mx+1) 0) (.no,.no) ⟨rfl,rfl⟩ ZH (by
  intro i a ha ys t ht hP;obtain⟨t3,t4⟩:=t;obtain⟨f3,f4⟩:=ht;dsimp only at f3 f4;have ha:=Z3 ha;have li:=L.line a ha;obtain⟨si,sS⟩:=L.side a ha;obtain⟨j,hj,ej⟩:=at_of L ha;obtain⟨v,hv⟩:=p3 j hj;rw[ej] at hv;have gv:=iD R a v hv;have VG:=hle _ (nT R a v hv);have ci:=iz (sd ss a) fun x hx=>by have:=sS.2.1 x hx;lia
  have ix:aq (Z ys) (.int (v:Int))=some (.int (ys.getD v 0)):=by have:=fS ys v ZG (by dsimp only at VG;lia);rwa [ZA] at this
  have YO:=sy (ys.getD v 0) (a8 (sd ss a));generalize max (ys.getD v 0) (a8 (sd ss a))=z at *;have st:=yO ys v z ZG (by dsimp only at VG;lia);rw[ZA] at st;have il:isLst (some (Z ys))=true:=rfl;refine⟨ys.set v z,(.sh (X a),.sh (.int v)),by simp[hP],⟨rfl,rfl⟩,?_⟩;have e:aD 3 (X a) [.sh (kj as X),.sh (Dc R),.ow (Z ys),t3,t4]=.ok () [.sh (kj as X),.sh (Dc R),.ow (Z ys),.sh (X a),t4]:=by simp[f3]
  dsimp only;generalize X a=xa at *;generalize kj as X=xs at *;generalize ys.getD v 0=y0 at *;rw[bw,e,ay,show dB _=.ok .nx _ by unfold dB;exact aI];rfl)
 obtain⟨t3,t4⟩:=t;refine⟨ys,?_⟩;have sq:cq (kj as X)=some (as.map X):=rfl;dsimp only at Lp;generalize kj as X=xs at *;generalize as.map X=ds at *;unfold xK AY;exact rn
end
theorem E8(gs:Pk)(ls:R4)(ss:Pk)(ix_:Nat)(g:Gd gs ls ss ix_)(pV:ls.length<=14):∃kp,tY [Pg ls,bY ss]=.ok (ie kp) []/\Kp ls kp:=by
 obtain⟨w,_,wl,hw,e⟩:=qf ls ss g.wf g.ne ZG g.len;have hn:=List.length_pos_iff.mpr g.ne;have gw:∀i,w.getD i false=true<->tF ls i:=fun i=>by rw[<-hw i,Z5];cases h:w[i]? with|none=>simp|some b=>simp
 have gk:∀i,(qX ls ss w)[i]?=some true<->i<ls.length/\tF ls i/\kZ ls ss i (fK ls w i)=true:=fun i=>by unfold qX;by_cases hi:i<ls.length;rw[Zs,uD hi];simp only[Option.map_some,Option.some.injEq,Bool.and_eq_true,gw];exact⟨fun h=>⟨hi,h⟩,fun h=>h.2⟩;rw[Z9 (by simp;lia)];exact⟨fun h=>(by cases h),fun h=>absurd h.1 hi⟩
 refine⟨_,e,by simp[qX],fun i hr h=>(gk i).mpr ⟨hr.lt g.wf g.ne,hr,?_⟩,fun i hr h a ha=>(gk a).mpr ?_,(gk _).mpr ⟨ZG,.last,?_⟩,fun i h=>((gk i).mp h).2.1⟩;have:kd ls i∈K4:=h;simp[kZ,this];have hi:=hr.lt g.wf g.ne;have ra:tF ls a:=.step hr (k8 hi) ha;refine⟨ra.lt g.wf g.ne,ra,?_⟩;have hm:=(o6 ls w a i).mpr ⟨hi,(gw i).mpr hr,ha⟩;have h2:kd ls i∈H2:=h;have:(fK ls w a).any (fun i=>decide (kd ls i∈H2))=true:=List.any_eq_true.mpr ⟨i,hm,by simp[h2]⟩;simp[kZ,this];simp[kZ]
section
variable{gs:Pk}{ls:R4}{ss:Pk}{ix_:Nat}(g:Gd gs ls ss ix_){kp:N0}(K:Kp ls kp)(pV:ls.length<=14)
include g K
theorem rF.low{b r:Nat}(h:rF ls kp b r):b<ls.length->kp[r]?=some true/\r<=b:=by induction h with|self h=>exact fun _=>⟨h,ZG⟩|step h hb _ ih=>intro ha;have:=pe g ha hb;have:=ih ZG;exact⟨this.1,ZG⟩
theorem Aw{y:Nat}(h:tF ls y):∀r,Ap ls kp y r->∃a,kp[a]?=some true/\Ap ls kp a r:=by
 induction h with
 |last=>exact fun r hr=>⟨_,K.last,hr⟩|@step i y l hi e hy ih=>
  intro r hr;have YA:=hi.lt g.wf g.ne;have Xm:y<ls.length:=by have:=g.wf i l e y hy;lia
  have TY:y∈gq ls i:=by unfold gq;rw[show fJ ls i=l by simp[fJ,e]];exact hy
  obtain⟨b,hb⟩:∃b,kp[y]?=some b:=⟨_,Z4 (by rw[K.len];exact Xm)⟩;cases b with|true=>exact⟨y,hb,hr⟩|false=>obtain⟨c,hc,WO⟩:=hr;exact ih r ⟨y,TY,.step hb hc WO⟩
include pV
theorem CD:∃(as:XT)(X:Nat->D)(rd:Nat->XT),aS 1 (cJ [(m1 bB (af 0))]) (aD 6) iB iy [.sh (Pg ls),.sh (bY gs),.sh (bY ss),.sh (ie kp),.no,.no]=.ok (kj as X) [.sh (Pg ls),.sh (bY gs),.sh (bY ss),.sh (ie kp),.no,.no]/\NQ ls.length as X rd ss/\(∀a∈as,∃rs,oE [X a]=.ok (eL rs) []/\∀r∈rs,r∈rd a)/\as.getD (as.length-1) 0=ls.length-1:=by
 have hn:=List.length_pos_iff.mpr g.ne;obtain⟨as,has⟩:∃as,as=(List.range ls.length).filter fun a=>kp.getD a false:=⟨_,rfl⟩;have hm:∀a,a∈as<->kp[a]?=some true:=fun a=>by rw[has,List.mem_filter,List.mem_range,Z5];cases h:kp[a]? with|none=>simp|some b=>have:=(List.getElem?_eq_some_iff.mp h).1;have:=K.len;simp;lia
 obtain⟨X,hX⟩:=yG (as:=as) (P:=fun(a:Nat) x=>kS [Pg ls,bY ss,ie kp,.int a]=.ok x []/\vp ls ss kp a x) fun a ha=>vX g K pV a ((hm a).mp ha);obtain⟨rd,OV⟩:=yG (as:=as) (P:=fun(a:Nat)(rs:XT)=>oF [X a]=.ok (eL rs) []/\∀r,r∈rs<->Ap ls kp a r) fun a ha=>(hX a ha).2.own;have lt:∀a∈as,a<ls.length:=fun a ha=>(K.want a ((hm a).mp ha)).lt g.wf g.ne;have ord:as.Pairwise (· < ·):=by rw[has];exact List.Pairwise.filter _ List.pairwise_lt_range
 have j4:as.length<=14:=by rw[has];have:=JF (fun a=>kp.getD a false) (List.range ls.length);simp only[List.length_range] at this;lia
 have CA:ls.length-1∈as:=(hm _).mpr K.last;have Pp:∀i,i+1<as.length->as.getD i 0<ls.length-1:=fun i hi=>by have p:=List.pairwise_iff_getElem.mp ord i (i+1) ZG hi ZG;have:=lt _ (BA hi);simp[show i<as.length by lia];lia
 have Lp:NQ ls.length as X rd ss:=by
  refine⟨fun z=>(by rw[z] at CA;cases CA),ord,j4,fun a ha=>(by have:=lt a ha;lia),fun a ha=>(hX a ha).2.line,fun a ha=>⟨(hX a ha).2.QI,ny g (lt a ha)⟩,fun a ha=>(OV a ha).1,fun a ha r hr=>?_,fun i hi=>?_⟩;obtain⟨b,hb,WM⟩:=((OV a ha).2 r).mp hr;have h1:=pe g (lt a ha) hb;have h2:=rF.low g K WM (by have:=lt a ha;lia);exact⟨(hm r).mpr h2.1,ZG⟩;have hx:=vB (as:=as) (i:=i) ZG;have zq:=Pp i hi;have hk:=(hm _).mp hx;have hR:=K.want _ hk;generalize as.getD i 0=x at *;cases hR with
  |last=>lia|@step j _ l hj e hy=>
   have TY:x∈gq ls j:=by unfold gq;rw[show fJ ls j=l by simp[fJ,e]];exact hy
   obtain⟨a,h1,h2⟩:=Aw g K hj x ⟨x,TY,.self hk⟩;have ha:=(hm a).mpr h1;exact⟨a,ha,((OV a ha).2 x).mpr h2⟩
 refine⟨as,X,rd,?_,Lp,fun a ha=>?_,?_⟩;have ln:=jL ls;have er:=qj ls.length ZG;refine rP (fun(k:Nat)=>D.int k) (fun a=>kp.getD a false) X (List.range ls.length) aI (by simp;lia) (by rw[<-has];rfl) (fun a ha acc=>?_) fun a ha hk acc=>?_;have hb:kp[a]?=some (kp.getD a false):=by have:=List.mem_range.mp ha;have:=K.len;simp[show a<kp.length by lia]
 have bi:=kN kp a _ hb;generalize kp.getD a false=b at *;unfold iB;exact aI;have hx:=(hX a (by rw[has];exact List.mem_filter.mpr ⟨ha,hk⟩)).1;generalize X a=xa at *;unfold iy;exact aI;obtain⟨rs,e,h⟩:=(hX a ha).2.Ub;exact⟨rs,e,fun r hr=>((OV a ha).2 r).mpr (h r hr)⟩;obtain⟨i,hi,e⟩:=at_of Lp CA;by_cases z:i+1<as.length;have:=Pp i z;lia;rw[show as.length-1=i by lia];exact e
end
def Rr(as:XT)(X:Nat->D)(R:Sj)(ys:Pa):D:=.ins "Plan" ["loops","row_of","lengths"] [kj as X,Dc R,Z ys]
theorem Q1Z(as:XT)(X:Nat->D)(R:Sj)(ys:Pa):JD [.ins "Plan" [] [],kj as X,Dc R,Z ys]=.ok .bz [Rr as X R ys]:=ZI
theorem Gn{gs:Pk}{ls:R4}{ss:Pk}{ix_:Nat}(g:Gd gs ls ss ix_)(pV:ls.length<=14):∃(as:XT)(X:Nat->D)(rd:Nat->XT)(R:Sj)(ys:Pa),xP [Pg ls,bY gs]=.ok (Rr as X R ys) []/\NQ ls.length as X rd ss/\(∀a∈as,∃rs,oE [X a]=.ok (eL rs) []/\∀r∈rs,r∈rd a)/\as.getD (as.length-1) 0=ls.length-1/\xb as rd as.length R:=by have e1:=uW gs ls ss ix_ g pV;obtain⟨kp,e2,K⟩:=E8 gs ls ss ix_ g pV;obtain⟨as,X,rd,e3,L,hl,qV⟩:=CD g K pV;obtain⟨R,e4,hR⟩:=GK L;obtain⟨ys,e5⟩:=vV L R hR;have e6:=Q1Z as X R ys;refine⟨as,X,rd,R,ys,?_,L,hl,qV,hR⟩;generalize Rr as X R ys=pl at *;generalize kj as X=xs at *;unfold xP A4;exact rn
theorem Bs{f:Fn}{a:M D}{r r1:aQ}{d v w:D}(h:a r=.ok d r1)(hf:f [d]=.ok v [w]):mh f a r=.ok v r1:=by rw[zE,h,ay];exact Er f d v w r1 hf
theorem Kq(ns:Pa):BK [Z ns]=.ok (.bl true) []:=by
 obtain⟨ls,ss,gs,ix_,q,e1,g,Ia,pV⟩:=wC ns 0;have hn:=List.length_pos_iff.mpr g.ne;obtain⟨as,X,rd,R,ys,e2,L,hl,qV,p1,p2,p3,p4⟩:=Gn g pV;have has:=List.length_pos_iff.mpr L.some;obtain⟨pl,jc⟩:∃pl,pl=Rr as X R ys:=⟨_,rfl⟩;have fr:aZ cv "row_of" pl=some (Dc R):=by rw[jc];kernel_rfl!
 have fl:aZ kU "loops" pl=some (kj as X):=by rw[jc];kernel_rfl!
 rw[<-jc] at e2;obtain⟨dr,Ts⟩:∃dr,dr=D.tup [Pg ls,bY ss,.int gs.length,bY gs]:=⟨_,rfl⟩;have d0:aq dr (.int 0)=some (Pg ls):=by rw[Ts];rfl
 have d3:aq dr (.int 3)=some (bY gs):=by rw[Ts];rfl
 rw[<-Ts] at e1;have l0:gZ (Pg ls)=some (Pg ls):=rfl;have l3:gZ (bY gs)=some (bY gs):=rfl;have VR:∀t3 t4 t5 t6 t7:Sl,mh ua (du [(af 0),(mC (.int 0))]) [.sh (Z ns),.no,.no,t3,t4,t5,t6,t7]=.ok dr [.sh (Z ns),.no,.no,t3,t4,t5,t6,t7]:=fun _ _ _ _ _=>Bs (d:=.lst [Z ns,.int 0]) aI e1;have VR:=VR .no .no .no .no .no;have row:∀a∈as,∃v,fF R a=some v/\v<=100:=fun a ha=>by obtain⟨j,hj,e⟩:=at_of L ha;obtain⟨v,hv⟩:=p3 j hj;rw[e] at hv;exact⟨v,hv,p2 _ (nT R a v hv)⟩
 let P:=fun(i:Nat)(H:Sj)=>H.length<=i/\(∀j<i,(j+1=i\/∃q,i<=q/\q<as.length/\as.getD j 0∈rd (as.getD q 0))->∃v,fF R (as.getD j 0)=some v/\fF H v=some (as.getD j 0));obtain⟨H,t,hP,ht,Lp⟩:=cz (g:=aD 4) (body:=lg) X (fun(H:Sj)(t:Sl×Sl×Sl)=>[.sh (Z ns),.sh dr,.sh pl,.ow (Dc H),t.1,t.2.1,t.2.2,.no]) ye as P [] (.no,.no,.no) ⟨rfl,rfl,rfl⟩ ⟨ZH,fun j hj=>ZG⟩ (by
  intro i a Tw H t ht hP;obtain⟨t4,t5,t6⟩:=t;obtain⟨f4,f5,f6⟩:=ht;dsimp only at f4 f5 f6;obtain⟨q1,q2⟩:=hP;have ha:=Z3 Tw;have hi:=(List.getElem?_eq_some_iff.mp Tw).1;have ea:as.getD i 0=a:=by rw[Z5,Tw];rfl
  have li:=L.line a ha;obtain⟨rs,er,Xc⟩:=hl a ha;obtain⟨v,hv,YJ⟩:=row a ha;have gv:=iD R a v hv;obtain⟨xa,TV⟩:∃xa,xa=X a:=⟨_,rfl⟩;rw[<-TV] at li er ⊢;have key:∀r∈rs,∃u,fF R r=some u/\u≠v/\fF H u=some r:=fun r hr=>by have VD:=Xc r hr;have ow:=L.own a ha r VD;obtain⟨j,hj,e⟩:=at_of L ow.1;have OM:j<i:=(wy L hj hi).mp (by rw[e,ea];exact ow.2);have hq:∃q,i<=q/\q<as.length/\as.getD j 0∈rd (as.getD q 0):=⟨i,ZG,hi,by rw[e,ea];exact VD⟩;obtain⟨u,hu,RY⟩:=q2 j OM (.inr hq);have ne:=p4 j i OM hi hq;rw[e] at hu RY ne;refine⟨u,hu,fun z=>ne ?_,RY⟩;rw[hu,ea,hv,z]
  obtain⟨_,s,_,hs,Li⟩:=cz (g:=aD 6) (body:=lb) (fun(r:Nat)=>D.int r) (fun(_:Unit)(t:Sl)=>[.sh (Z ns),.sh dr,.sh pl,.ow (Dc H),.sh xa,.sh (.int v),t,.no]) qR rs (fun _ _=>True) () t6 f6 trivial (by
   intro c r hr _ t ht _;have hf:free (some t)=true:=ht;obtain⟨u,hu,zq,hH⟩:=key r (Z3 hr);have g1:=iD R r u hu;have n1:=PZ R r;rw[hu] at n1;have n1:rR true (.int (r:Int)) (Dc R)=some (.bl false):=n1;have eq1:b7 (.int (u:Int)) (.int (v:Int))=some (.bl false):=by rw[gI,Z0 ZG]
   have go:=yh H u r (.int (-1)) hH;have ne1:fW (.int (r:Int)) (.int (r:Int))=some (.bl false):=by rw[di,Y9 rfl];rfl
   have vv:jr (nk (af 3) (m2 oy (m1 (aZ cv "row_of") (af 2)) (af 6)) (m1 mw (mC (.int 1)))) [.sh (Z ns),.sh dr,.sh pl,.ow (Dc H),.sh xa,.sh (.int v),.sh (.int r),.no]=.ok (.int r) [.sh (Z ns),.sh dr,.sh pl,.ow (Dc H),.sh xa,.sh (.int v),.sh (.int r),.no]:=by rw[qZ];simp only[List.map_cons,List.map_nil,lG,lH,pR];rw[show nk _ _ _ _=.ok (.int r) _ from aI];rfl
   refine⟨(),.sh (.int r),trivial,rfl,?_⟩;have e:aD 6 (.int (r:Int)) [.sh (Z ns),.sh dr,.sh pl,.ow (Dc H),.sh xa,.sh (.int v),t,.no]=.ok () [.sh (Z ns),.sh dr,.sh pl,.ow (Dc H),.sh xa,.sh (.int v),.sh (.int r),.no]:=by simp[hf]
   rw[bw,e,ay,show lb _=.ok .nx _ by unfold lb;exact aI];rfl)
  have sq:cq (eL rs)=some (rs.map fun(r:Nat)=>D.int (r:Int)):=rfl;have pt:=wF H v a (by have:=L.j4;lia);refine⟨qv v a H,(.sh xa,.sh (.int v),s),⟨by have:=(xh v a H).1;lia,fun j hj hq=>?_⟩,⟨rfl,rfl,hs⟩,?_⟩;by_cases z:j=i;subst z;rw[ea];exact⟨v,hv,by rw[fN,ZY rfl]⟩;have J1:∃q,i+1<=q/\q<as.length/\as.getD j 0∈rd (as.getD q 0):=by
   rcases hq with hq|hq
   lia
   exact hq
  obtain⟨q,h1,h2,h3⟩:=J1;obtain⟨u,hu,RY⟩:=q2 j ZG (.inr ⟨q,ZG,h2,h3⟩);have ne:=p4 j i ZG hi ⟨q,ZG,h2,h3⟩;rw[hu,ea,hv] at ne;exact⟨u,hu,by rw[fN,Za fun z=>ne (by rw[z])];exact RY⟩;have e:aD 4 xa [.sh (Z ns),.sh dr,.sh pl,.ow (Dc H),t4,t5,t6,.no]=.ok () [.sh (Z ns),.sh dr,.sh pl,.ow (Dc H),.sh xa,t5,t6,.no]:=by simp[f4]
  dsimp only;generalize rs.map (fun(r:Nat)=>D.int (r:Int))=ds at *;rw[bw,e,ay,show lg _=.ok .nx _ by unfold lg;exact aI];rfl)
 obtain⟨t4,t5,t6⟩:=t;obtain⟨f4,f5,f6⟩:=ht;obtain⟨_,hP⟩:=hP;obtain⟨v,hv,hH⟩:=hP (as.length-1) ZG (.inl ZG);rw[qV] at hv hH;have ln:=jL ls;have su:gA (.int (ls.length:Int)) (.int 1)=some (.int ((ls.length-1:Nat):Int)):=congrArg (fun z=>some (D.int z)) ZG;generalize ls.length-1=la at *;have g1:=iD R la v hv;have n1:=O8 R la;rw[hv] at n1;have n1:rR false (.int (la:Int)) (Dc R)=some (.bl true):=n1;have go:=yh H v la (.int (-1)) hH;have eq1:b7 (.int (la:Int)) (.int (la:Int))=some (.bl true):=by rw[gI,Y9 rfl]
 have sq:cq (kj as X)=some (as.map X):=rfl;have hD:Dc []=.gg [] []:=rfl;rw[hD] at Lp;dsimp only at Lp;have vv:jr (nk (af 3) (m2 oy (m1 (aZ cv "row_of") (af 2)) (af 7)) (m1 mw (mC (.int 1)))) [.sh (Z ns),.sh dr,.sh pl,.ow (Dc H),t4,t5,t6,.sh (.int la)]=.ok (.int la) [.sh (Z ns),.sh dr,.sh pl,.ow (Dc H),t4,t5,t6,.sh (.int la)]:=by rw[qZ];simp only[List.map_cons,List.map_nil,lG,lH,pR];rw[show nk _ _ _ _=.ok (.int la) _ from aI];rfl
 clear p4 p3 hP row;generalize kj as X=xs at *;generalize as.map X=ds at *;unfold BK AB;exact rn
end LW
end
section
set_option Elab.async false
set_option maxRecDepth 100000
set_option maxHeartbeats 4000000
set_option linter.all false
namespace LW
open PySem PySem.Spec PyProof.Rows L2 VP VS
seal lN mS PV PB lK PF yW w5 PR w8 tw vt Ao
def top(i:Nat):Stmt:=PySem.Challenge.pw_loomarrays_k20_whole_no_row_is_lost.main.body.getD i (.Pass ⟨0,0,0,0⟩)
def L:Je where
 b:=["all","any","dict","enumerate","int","isinstance","len","list","max","range","reversed","sorted","tuple","zip"]
 n:=[("LONGEST_SIDE",.int 64),("MOST_CELLS",.int 4096),("MOST_LINES",.int 40),("MOST_SIDES",.int 4),("REST",.int 1000003)]
 t:=[("DEEDS",mM,qt),("FORMS",mN,yX)]
 d:=([("_law_cells",top 85,["_law_sides"]),
  ("_law_changed",top 87,["_law_sides","_law_side","_law_size"]),
  ("_law_met",top 86,["_law_one","_law_other"]),
  ("_law_taken",top 84,["_law_row","_law_many"]),
  ("_law_more",top 90,["_law_row","_law_a","_law_sides","_law_way","_law_index"]),
  ("_law_sided",top 89,["_law_row","_law_a","_law_own","_law_way"]),
  ("_law_view",top 88,["_law_row","_law_a","_law_own","_law_way"]),
  ("_law_program",top 91,["_law_row"]),
  ("_law_nodes",top 93,["_law_node"]),
  ("_law_rows_read",top 94,["_law_loop"]),
  ("spreads",top 10,["program","sides","number","at"]),
  ("is_kept",top 9,["program","sides","at","naming"]),
  ("named_by",top 3,["line"]),
  ("naming_lines",top 8,["program","wanted","at"]),
  ("wanted_lines",top 6,["program"]),
  ("kept_lines",top 7,["program","sides"]),
  ("cells_in",top 22,["sides"]),
  ("lengths_of",top 82,["loops","row_of"]),
  ("reading_by",top 71,["way","strides","many"]),
  ("strides_of",top 23,["sides"]),
  ("part_standing",top 64,["number"]),
  ("part_moved",top 67,["part","begin","step"]),
  ("way_moved",top 66,["way","side","begin","step"]),
  ("way_spread",top 70,["way","own"])]:List vx) ++
  ([("way_dropped",top 68,["way","side","place"]),
  ("way_turned",top 65,["way","order"]),
  ("way_widened",top 69,["way","side"]),
  ("straight_way",top 63,["many"]),
  ("loop_of",top 75,["program","sides","kept","at"]),
  ("lines_read_in",top 77,["tree"]),
  ("lines_read_by",top 78,["loop"]),
  ("last_readings",top 79,["loops"]),
  ("lowest_beside",top 81,["rows"]),
  ("rows_of",top 80,["loops"]),
  ("deed_is_known",top 4,["line"]),
  ("is_rest",top 13,["number"]),
  ("number_is_cell",top 34,["line"]),
  ("places_are_there",top 33,["line","lines_ahead","tables"]),
  ("sides_can_be",top 21,["sides"]),
  ("has_side",top 37,["sides","side"]),
  ("without",top 26,["row","side"]),
  ("folded_sides",top 43,["deed","sides","side"]),
  ("replaced",top 28,["row","side","number"]),
  ("joined_sides",top 45,["one","other","side"]),
  ("picked_sides",top 44,["sides","side","places"]),
  ("with_ones_ahead",top 25,["sides","many"]),
  ("sides_met",top 24,["one","other"]),
  ("has_place",top 38,["sides","side","place"])]:List vx) ++
  ([("cut_sides",top 40,["sides","side","begin","step","many"]),
  ("dropped_sides",top 41,["sides","side","place"]),
  ("put_in",top 27,["row","side","number"]),
  ("turned_sides",top 39,["sides","order"]),
  ("sides_viewed",top 36,["line","sides"]),
  ("three_met",top 42,["one","other","third"]),
  ("sides_told",top 35,["line","ahead","given"]),
  ("sides_looked_over",top 32,["at","line","ahead","given"]),
  ("sides_of",top 31,["program","given"]),
  ("plan_of",top 74,["program","given"]),
  ("law",top 95,["_law_script"])]:List vx)
 m:=([("Plan","__init__","Plan.__init__",false,inClass (top 73) 0,["self","loops","row_of","lengths"]),
  ("Loop","__init__","Loop.__init__",true,inClass (top 47) 0,["self","line","sides"]),
  ("Fill","__init__","Fill.__init__",false,inClass (top 49) 0,["self","line","sides","tree"]),
  ("Fold","__init__","Fold.__init__",false,inClass (top 50) 0,["self","line","sides","side","size","deed","tree"]),
  ("Load","__init__","Load.__init__",false,inClass (top 48) 0,["self","line","sides","table"]),
  ("Pick","__init__","Pick.__init__",false,inClass (top 52) 0,["self","line","sides","side","source","places","source_sides"]),
  ("Through","__init__","Through.__init__",false,inClass (top 51) 0,["self","line","sides","side","deed","tree"]),
  ("Weaver","__init__","Weaver.__init__",false,inClass (top 76) 0,["self","program","sides","kept","many"]),
  ("Both","__init__","Both.__init__",false,inClass (top 58) 0,["self","deed","left","right"]),
  ("Even","__init__","Even.__init__",false,inClass (top 55) 0,["self","number"]),
  ("One","__init__","One.__init__",false,inClass (top 57) 0,["self","deed","inner"]),
  ("Read","__init__","Read.__init__",false,inClass (top 56) 0,["self","line","start","steps"]),
  ("Weaver","row_read","Weaver.row_read",false,inClass (top 76) 2,["self","at","way","sides"]),
  ("Joined","__init__","Joined.__init__",false,inClass (top 61) 0,["self","part","size","ahead","behind"]),
  ("Within","__init__","Within.__init__",false,inClass (top 60) 0,["self","part","size","inner","number"]),
  ("Where","__init__","Where.__init__",false,inClass (top 59) 0,["self","asked","left","right"]),
  ("Weaver","tree_named","Weaver.tree_named",false,inClass (top 76) 1,["self","at","way"]),
  ("Weaver","tree_made","Weaver.tree_made",false,inClass (top 76) 3,["self","at","way"]),
  ("Weaver","tree_viewed","Weaver.tree_viewed",false,inClass (top 76) 4,["self","line","way"]),
  ("Weaver","tree_spread","Weaver.tree_spread",false,inClass (top 76) 5,["self","at","way"]),
  ("Weaver","tree_shifted","Weaver.tree_shifted",false,inClass (top 76) 6,["self","at","side","by","number","way"]),
  ("Weaver","tree_joined","Weaver.tree_joined",false,inClass (top 76) 7,["self","ahead","behind","side","way"])]:List Aq)
 k:=["Plan","Loop","Fill","Fold","Load","Pick","Through","Weaver","Both","Even","One","Read","Joined","Within","Where"]
 f:=([("ahead",gV),
  ("asked",gW),
  ("behind",fV),
  ("deed",kT),
  ("inner",d8),
  ("kept",nW),
  ("left",eW),
  ("lengths",oI),
  ("line",dh),
  ("loops",kU),
  ("many",nX),
  ("number",lU),
  ("part",rX),
  ("places",jI),
  ("program",iC),
  ("right",dq),
  ("row_of",cv),
  ("side",nY),
  ("sides",cw),
  ("size",nZ),
  ("source",jJ),
  ("source_sides",iX),
  ("start",uf),
  ("steps",ug)]:List (Str×List Str)) ++
  ([("table",uh),
  ("tree",eX)]:List (Str×List Str))
 a:=["Both","Even","Joined","One","Read","Where","Within","Fill","Fold","Load","Pick","Through"]
 i:=[("Both",cx),("Joined",bS),("Load",gX),("One",fR),("Pick",gY),("Read",ef),("Where",bQ),("Within",dc)]
 j:=[("One","Within",bT)]
section
variable{P:Program}{w:World}{K:Frag}{mg:MG}{base:Heap}{a:Ei}(T:Txt L w K mg a)
theorem C6:Cl P base T "_law_cells" 1 [false] tZ:=fc ["_law_found","_law_size"] AO (T.d 0 rfl) fun S hr=>(ae (bZ 1 S.nd aj) (ae (qq (cP (aa 0)) (jU 2 S.nd) (ae (bZ 1 S.nd (aF gP j8 (aa 1) (aa 2))) ah)) (ae (ar (aa 1)) ah)))
theorem pf:Cl P base T "_law_changed" 1 [false,false,false] j3:=fc [] AQ (T.d 1 rfl) fun S hr=>(ae (ar (aF aJ aO (aF aJ aO (dw (aa 0) bG (bH (aa 1))) (aH (ai (aa 2) aw))) (dw (aa 0) (bH (aF aJ aO (aa 1) aj)) bG))) ah)
theorem ph:Cl P base T "_law_met" 1 [false,false] gU:=fc ["_law_many","_law_left","_law_right","_law_found","_law_k"] xm (T.d 2 rfl) fun S hr=>(ae (bZ 2 S.nd (lx (jE rfl) yg rfl (T.b 8) boot_max (ai (cf (T.b 6) (PV.rd (aa 0))) (ai (cf (T.b 6) (PV.rd (aa 1))) aw)))) (ae (bZ 3 S.nd (aF aJ aO (aF yD B1 (aH (ai aj aw)) (aF cN eK (aa 2) (cf (T.b 6) (PV.rd (aa 0))))) (aa 0))) (ae (bZ 4 S.nd (aF aJ aO (aF yD B1 (aH (ai aj aw)) (aF cN eK (aa 2) (cf (T.b 6) (PV.rd (aa 1))))) (aa 1))) (ae (bZ 5 S.nd (aH aw)) (ae (qq (bR rfl (T.b 9) (ai (aa 2) aw)) (jU 6 S.nd) (ae (aB (lK.pb (jt (vh hr (au (aa 3) (aa 6)) (au (aa 4) (aa 6))) (jt (vh hr (au (aa 3) (aa 6)) aj) (jO (vh hr (au (aa 4) (aa 6)) aj))))) (ae (ar bV) ah) ah) (ae (bZ 5 S.nd (aF aJ aO (aa 5) (aH (ai (au (PF.pv (bD (ai (au (aa 3) (aa 6)) (ai (au (aa 4) (aa 6)) aw)))) (pG lR vK rfl (T.b 4) boot_int (ai (gx (sJ hr.units) yf (au (aa 3) (aa 6)) aj (bF _)) aw))) aw)))) ah))) (ae (ar (aa 5)) ah))))))
theorem bh:Cl P base T "_law_taken" 1 [true,false] bu:=fc ["_law_at"] AW (T.d 3 rfl) fun S hr=>(ae (bZ 2 S.nd (a9 0 aj)) (ae (gC 0 aj (aF aJ aO (aa 2) aj)) (ae (aB (cb kg qc (aa 2) (cf (T.b 6) (PV.rd (a9 0 aj))) (bF _)) (ae (ar (aF kC oO (au (a9 0 aj) (aa 2)) (aa 1))) ah) ah) (ae (ar aj) ah))))
theorem Ld:Cl P base T "_law_more" 2 [true,false,true,false,false] eJ:=fc ["_law_own","_law_b","_law_deed","_law_c","_law_found","_law_side"] kM (T.d 4 rfl) fun S hr=>(ae (bZ 5 S.nd (a9 2 (aa 1))) (ae (bZ 6 S.nd (bj (bh T) hr (aU 0 (ag (cf (T.b 6) (iN 2)) ao)))) (ae (aB (dE hr (aa 3) aj) (ae (ar (aH (ai (aH (ai az (ai (au (PF.pv (bD (ai az (ai az (ai az aw))))) (bj (bh T) hr (aU 0 (ag aj ao)))) (ai (aa 1) aw)))) (ai (aa 5) aw)))) ah) ah) (ae (aB (dE hr (aa 3) aj) (ae (bZ 7 S.nd (au (PF.pv (bD (ai az (ai az (ai az (ai az (ai az (ai az (ai az aw))))))))) (bj (bh T) hr (aU 0 (ag aj ao))))) (ae (aB (cb pq uk (bj (ph T) hr (ag (aa 5) (ag (a9 2 (aa 6)) ao))) bV (bF _)) (ae (bZ 6 S.nd (aa 1)) ah) ah) (ae (ar (aH (ai (aH (ai az (ai (aa 7) (ai (aa 1) (ai (aa 6) aw))))) (ai (bj (ph T) hr (ag (aa 5) (ag (a9 2 (aa 6)) ao))) aw)))) ah))) ah) (ae (aB (dE hr (aa 3) aj) (ae (bZ 8 S.nd (bj (bh T) hr (aU 0 (ag (cf (T.b 6) (iN 2)) ao)))) (ae (bZ 9 S.nd (bj (ph T) hr (ag (aa 5) (ag (a9 2 (aa 6)) ao)))) (ae (aB (lK.pb (gu (cb pq uk (aa 9) bV (bF _)) (eS (cb pq uk (bj (ph T) hr (ag (aa 9) (ag (a9 2 (aa 8)) ao))) bV (bF _))))) (ae (ar (aH (ai (aH (ai az (ai (aa 1) (ai (aa 1) (ai (aa 1) aw))))) (ai (aa 5) aw)))) ah) ah) (ae (ar (aH (ai (aH (ai az (ai (aa 6) (ai (aa 1) (ai (aa 8) aw))))) (ai (bj (ph T) hr (ag (aa 9) (ag (a9 2 (aa 8)) ao))) aw)))) ah)))) ah) (ae (aB (dE hr (aa 3) aj) (ae (bZ 9 S.nd (uM (T.b 12) (PV.rd (PF.pv (vi 1 ["_law_row","_law_a","_law_sides","_law_way","_law_index","_law_own","_law_b","_law_deed","_law_c","_law_found","_law_side","_law_k","?acc11"] (bR rfl (T.b 9) (ai (bj (bh T) hr (aU 0 (ag aj ao))) aw)) (fun nd=>(jU 11 nd)) bX (aF aJ aO aj (bj (bh T) hr (aU 0 (ag aj ao))))))))) (ae (ar (aH (ai (aH (ai az (ai (aa 9) (ai (bj (bh T) hr (aU 0 (ag aj ao))) aw)))) (ai (aa 9) aw)))) ah)) ah) (ae (aB (dE hr (aa 5) (aH aw)) (ae (ar (aH (ai (aH (ai az (ai az (ai (aa 1) aw)))) (ai (aa 5) aw)))) ah) ah) (ae (bZ 10 S.nd (bj (bh T) hr (aU 0 (ag (cf (T.b 6) (PV.rd (aa 5))) ao)))) (ae (aB (dE hr (aa 3) aj) (ae (aB (lK.pb (gu (cb kg qc (bj (bh T) hr (aU 0 (ag aj ao))) aj (bF _)) (eS (vh hr (cf (T.b 6) (PV.rd (a9 2 (aa 6)))) aj)))) (ae (bZ 6 S.nd (aa 4)) ah) ah) (ae (ar (aH (ai (aH (ai az (ai (aa 1) (ai (aa 10) (ai (aa 6) aw))))) (ai (bj (pf T) hr (ag (aa 5) (ag (aa 10) (ag (au (a9 2 (aa 6)) aj) ao)))) aw)))) ah)) ah) (ae (aB (lK.pb (gu (vh hr (cf (T.b 6) (PV.rd (a9 2 (aa 6)))) (cf (T.b 6) (PV.rd (aa 5)))) (eS (vh hr (bj (pf T) hr (ag (aa 5) (ag (aa 10) (ag aj ao)))) (bj (pf T) hr (ag (a9 2 (aa 6)) (ag (aa 10) (ag aj ao)))))))) (ae (bZ 6 S.nd (aa 1)) ah) ah) (ae (ar (aH (ai (aH (ai az (ai (aa 1) (ai (aa 6) (ai (aa 10) aw))))) (ai (bj (pf T) hr (ag (aa 5) (ag (aa 10) (ag (aF aJ aO (au (aa 5) (aa 10)) (au (a9 2 (aa 6)) (aa 10))) ao)))) aw)))) ah)))))))))))
theorem Lh:Cl P base T "_law_sided" 2 [true,false,false,false] ub:=fc ["_law_side","_law_size","_law_folds","_law_by","_law_deed","_law_begin","_law_step","_law_room","_law_many"] AU (T.d 5 rfl) fun S hr=>(ae (bZ 4 S.nd (bj (bh T) hr (aU 0 (ag (cf (T.b 6) (PV.rd (aa 2))) ao)))) (ae (bZ 5 S.nd (au (aa 2) (aa 4))) (ae (bZ 6 S.nd (PF.pv (bD (ai az (ai az (ai az (ai az aw))))))) (ae (aB (dE hr (aa 3) aj) (ae (bZ 7 S.nd (aF cN eK (bj (bh T) hr (aU 0 (ag aj ao))) aj)) (ae (ar (aH (ai (aH (ai az (ai (aa 1) (ai (aa 4) (ai (aa 7) (ai (bj (bh T) hr (aU 0 (ag aj ao))) aw)))))) (ai (aa 2) aw)))) ah)) ah) (ae (aB (dE hr (aa 3) aj) (ae (bZ 8 S.nd (au (aa 6) (aF kC oO (bj (bh T) hr (aU 0 (ag aj ao))) (au (PF.pv (bD (ai aj (ai aj aw)))) (pG lR vK rfl (T.b 4) boot_int (ai (gx nu uj (aa 5) aj (bF _)) aw)))))) (ae (ar (aH (ai (aH (ai az (ai (aa 8) (ai (aa 1) (ai (aa 4) aw))))) (ai (aF aJ aO (dw (aa 2) bG (bH (aa 4))) (dw (aa 2) (bH (aF aJ aO (aa 4) aj)) bG)) aw)))) ah)) ah) (ae (aB (dE hr (aa 3) aj) (ae (ar (aH (ai (aH (ai az (ai (au (aa 6) (bj (bh T) hr (aU 0 (ag aj ao)))) (ai (aa 1) (ai (aa 4) aw))))) (ai (aa 2) aw)))) ah) ah) (ae (aB (dE hr (aa 5) aj) (ae (ar (aH (ai (aH (ai az (ai az (ai (aa 1) aw)))) (ai (aa 2) aw)))) ah) ah) (ae (bZ 9 S.nd (bj (bh T) hr (aU 0 (ag (aa 5) ao)))) (ae (aB (dE hr (aa 3) aj) (ae (ar (aH (ai (aH (ai az (ai (aa 1) (ai (aa 4) (ai (aa 9) aw))))) (ai (aF aJ aO (dw (aa 2) bG (bH (aa 4))) (dw (aa 2) (bH (aF aJ aO (aa 4) aj)) bG)) aw)))) ah) ah) (ae (bZ 10 S.nd (aF aJ aO aj (bj (bh T) hr (aU 0 (ag aj ao))))) (ae (bZ 11 S.nd (aF yC BZ (aF cN eK (aF cN eK (aa 5) aj) (aa 9)) (aa 10))) (ae (aB (dE hr (bj (bh T) hr (aU 0 (ag aj ao))) aj) (ae (bZ 11 S.nd (aF yC BZ (aa 9) (aa 10))) (ae (bZ 10 S.nd (aF cN eK aj (aa 10))) ah)) ah) (ae (bZ 12 S.nd (aF cN eK (aF aJ aO (aa 11) aj) (bj (bh T) hr (aU 0 (ag (aF aJ aO (aa 11) aj) ao))))) (ae (ar (aH (ai (aH (ai az (ai (aa 1) (ai (aa 4) (ai (aa 9) (ai (aa 10) (ai (aa 12) aw))))))) (ai (bj (pf T) hr (ag (aa 2) (ag (aa 4) (ag (aa 12) ao)))) aw)))) ah))))))))))))))
theorem Lj:Cl P base T "_law_view" 2 [true,false,false,false] gJ:=fc ["_law_many","_law_turn","_law_order","_law_at","_law_sides","_law_cells_here"] mV (T.d 6 rfl) fun S hr=>(ae (bZ 4 S.nd (cf (T.b 6) (PV.rd (aa 2)))) (ae (aB (dE hr (aa 3) aj) (ae (bZ 5 S.nd (bj (bh T) hr (aU 0 (ag (lx (jE rfl) yg rfl (T.b 8) boot_max (ai aj (ai (aa 4) aw))) ao)))) (ae (yT 1 6 S.nd rfl (Or.inl rfl) rfl (N':=["_law_row","_law_a","_law_own","_law_way","_law_many","_law_turn","_law_order","_law_at","_law_sides","_law_cells_here","_law_k","?acc10"]) ⟨rfl,by kernel_rfl⟩ rfl (bR rfl (T.b 9) (ai (aa 4) aw)) eY (iF (by kernel_rfl)) (fun C s H ex=>(jU 10 (Iw ["_law_row","_law_a","_law_own","_law_way","_law_many","_law_turn","_law_order","_law_at","_law_sides","_law_cells_here","_law_k","?acc10"]))) (fun C s H ex _=>bX) (fun C s H ex _=>(aF kC oO (aF aJ aO (aa 10) (aa 5)) (aa 4)))) (ae (aB (dE hr (bj (bh T) hr (aU 0 (ag aj ao))) aj) (ae (bZ 6 S.nd (PF.pv (Gf rfl (T.b 10) rfl (T.b 7) (PV.rd (aa 6))))) ah) ah) (ae (ar (aH (ai (aH (ai az (ai (aa 1) (ai (uM (T.b 12) (PV.rd (aa 6))) aw)))) (ai (uM (T.b 12) (PV.rd (PF.pv (vi 1 ["_law_row","_law_a","_law_own","_law_way","_law_many","_law_turn","_law_order","_law_at","_law_sides","_law_cells_here","_law_k","?acc10"] (cP (aa 6)) (fun nd=>(jU 10 nd)) bX (au (aa 2) (aa 10)))))) aw)))) ah)))) ah) (ae (aB (dE hr (aa 3) aj) (ae (bZ 7 S.nd (bj (bh T) hr (aU 0 (ag (aF aJ aO (aa 4) aj) ao)))) (ae (ar (aH (ai (aH (ai az (ai (aa 1) (ai (aa 7) aw)))) (ai (aF aJ aO (aF aJ aO (dw (aa 2) bG (bH (aa 7))) (aH (ai aj aw))) (dw (aa 2) (bH (aa 7)) bG)) aw)))) ah)) ah) (ae (aB (dE hr (aa 3) aj) (ae (bZ 8 S.nd (uM (T.b 12) (PV.rd (PF.pv (vi 1 ["_law_row","_law_a","_law_own","_law_way","_law_many","_law_turn","_law_order","_law_at","_law_sides","_law_cells_here","_law_size","?acc10"] (cP (aa 2)) (fun nd=>(jU 10 nd)) bX (au (PF.pv (bD (ai (aa 10) (ai (bj (bh T) hr (aU 0 (ag aj ao))) aw)))) (pG lR vK rfl (T.b 4) boot_int (ai (gx (sJ hr.units) yf (aa 10) aj (bF _)) aw)))))))) (ae (aB (dE hr (bj (bh T) hr (aU 0 (ag aj ao))) aj) (ae (bZ 8 S.nd (aF aJ aO (aH (ai (bj (bh T) hr (aU 0 (ag aj ao))) aw)) (aa 8))) ah) ah) (ae (ar (aH (ai (aH (ai az (ai (aa 1) (ai (aa 8) aw)))) (ai (aa 8) aw)))) ah))) ah) (ae (bZ 9 S.nd (bj (C6 T) hr (ag (aa 2) ao))) (ae (bZ 8 S.nd (au (PF.pv (bD (ai (yK rfl (T.b 10) rfl (T.b 12) (PV.rd (aa 2))) (ai (aH (ai (aa 9) aw)) (ai (aH (ai aj (ai (aa 9) aw))) (ai (aH (ai (aa 9) (ai aj aw))) aw)))))) (bj (bh T) hr (aU 0 (ag aj ao))))) (ae (ar (aH (ai (aH (ai az (ai (aa 1) (ai (aa 8) aw)))) (ai (aa 8) aw)))) ah)))))))
theorem Lf:Cl P base T "_law_program" 3 [true] ua:=fc ["_law_given","_law_k","_law_many","_law_count","_law_turn","_law_program_here","_law_sides","_law_index","_law_a","_law_way","_law_found"] AR (T.d 7 rfl) fun S hr=>(ae (DX 1 S.nd (bD aw)) (ae (qq (bR rfl (T.b 9) (ai (aF aJ aO aj (bj (bh T) hr (aU 0 (ag aj ao)))) aw)) (jU 2 S.nd) (ae (bZ 3 S.nd (bj (bh T) hr (aU 0 (ag aj ao)))) (ae (IP 1 (uM (T.b 12) (PV.rd (PF.pv (vi 1 ["_law_row","_law_given","_law_k","_law_many","_law_count","_law_turn","_law_program_here","_law_sides","_law_index","_law_a","_law_way","_law_found","_law_j","?acc12"] (bR rfl (T.b 9) (ai (aa 3) aw)) (fun nd=>(jU 12 nd)) bX (au (PF.pv (bD (ai aj (ai aj (ai aj (ai aj (ai aj (ai aj (ai aj (ai aj aw)))))))))) (bj (bh T) hr (aU 0 (ag aj ao))))))))) ah))) (ae (IP 1 (aH (ai (au (PF.pv (bD (ai aj (ai aj (ai aj (ai aj aw)))))) (bj (bh T) hr (aU 0 (ag aj ao)))) aw))) (ae (bZ 4 S.nd (cf (T.b 6) (iN 1))) (ae (bZ 5 S.nd (bj (bh T) hr (aU 0 (ag (aa 4) ao)))) (ae (oh 1 6 S.nd rfl (Or.inl rfl) rfl (N':=["_law_row","_law_given","?2","_law_many","_law_count","_law_turn","_law_program_here","_law_sides","_law_index","_law_a","_law_way","_law_found","_law_k","?acc12"]) ⟨rfl,by kernel_rfl⟩ rfl (bR rfl (T.b 9) (ai (aa 4) aw)) eY (iF (by kernel_rfl)) (fun C s H ex=>(jU 12 (Iw ["_law_row","_law_given","?2","_law_many","_law_count","_law_turn","_law_program_here","_law_sides","_law_index","_law_a","_law_way","_law_found","_law_k","?acc12"]))) (fun C s H ex _=>bX) (fun C s H ex _=>(aH (ai az (ai (aF kC oO (aF aJ aO (aa 12) (aa 5)) (aa 4)) aw))))) (ae (Hm 1 7 S.nd rfl (Or.inl rfl) rfl (N':=["_law_row","_law_given","_law_k","_law_many","_law_count","_law_turn","_law_program_here","_law_sides","_law_index","_law_a","_law_way","_law_found","_law_line","?acc12"]) ⟨rfl,by kernel_rfl⟩ rfl (cP (aa 6)) eY (iF (by kernel_rfl)) (fun C s H ex=>(jU 12 (Iw ["_law_row","_law_given","_law_k","_law_many","_law_count","_law_turn","_law_program_here","_law_sides","_law_index","_law_a","_law_way","_law_found","_law_line","?acc12"]))) (fun C s H ex _=>bX) (fun C s H ex _=>(au (aa 1) (au (aa 12) aj)))) (ae (bZ 8 S.nd (aF kC oO (aF cN eK (aF cN eK (aa 4) aj) (aa 5)) (aa 4))) (ae (qq (bR rfl (T.b 9) (ai (aF aJ aO aj (bj (bh T) hr (aU 0 (ag aj ao)))) aw)) (jU 2 S.nd) (ae (bZ 9 S.nd (aF cN eK (aF cN eK (cf (T.b 6) (iN 6)) aj) (bj (bh T) hr (aU 0 (ag (cf (T.b 6) (iN 6)) ao))))) (ae (bZ 10 S.nd (bj (bh T) hr (aU 0 (ag aj ao)))) (ae (aB (cb kg qc (aa 10) aj (bF _)) (ae (bZ 11 S.nd (bj (Lj T) hr (aU 0 (ag (aa 9) (ag (a9 7 (aa 9)) (ag (aa 10) ao)))))) ah) (ae (aB (lK.pb (jt (cb kg qc (aa 10) aj (bF _)) (jO (vh hr (a9 7 (aa 9)) (aH aw))))) (ae (bZ 11 S.nd (bj (Lh T) hr (aU 0 (ag (aa 9) (ag (a9 7 (aa 9)) (ag (aa 10) ao)))))) ah) (ae (aB (dE hr (aa 10) aj) (ae (bZ 11 S.nd (aH (ai (aH (ai az (ai (aF kC oO (aa 9) (aa 4)) aw))) (ai (a9 1 (aF kC oO (aa 9) (aa 4))) aw)))) ah) (ae (bZ 11 S.nd (bj (Ld T) hr (aU 0 (ag (aa 9) (aU 7 (ag (aa 10) (ag (aa 8) ao))))))) ah)) ah)) ah)) (ae (aB (lK.pb (gu (cb nu uj (bj (C6 T) hr (ag (au (aa 11) aj) ao)) aj (bF _)) (gu (cb nu uj (cf (T.b 6) (PV.rd (au (aa 11) aj))) aj (bF _)) (eS (cb nu uj (GC rfl rfl (T.b 8) boot_max (au (aa 11) aj) aj) aj (bF _)))))) (ae (bZ 11 S.nd (aH (ai (aH (ai az (ai az (ai (aa 9) aw)))) (ai (a9 7 (aa 9)) aw)))) ah) ah) (ae (IP 6 (au (aa 11) aj)) (ae (IP 7 (au (aa 11) aj)) ah))))))) (ae (i7 (i:=1) (i7 (i:=7) (i7 (i:=6) (ar (aH (ai (aa 6) (ai (aa 7) (ai (aa 4) (ai (aa 1) aw))))))))) ah))))))))))
theorem Le:Cl P base T "_law_nodes" 1 [false] qJ:=fc ["_law_found","_law_k","_law_one"] xn (T.d 8 rfl) fun S hr=>(ae (bZ 1 S.nd (PF.pv (bD (ai (aa 0) aw)))) (ae (qq (bR rfl (T.b 9) (ai (aF Q0M Q1O aj aj) aw)) (jU 2 S.nd) (ae (aB (dE hr (aa 2) (cf (T.b 6) (PV.rd (aa 1)))) (ae (ar (aa 1)) ah) ah) (ae (bZ 3 S.nd (au (aa 1) (aa 2))) (ae (aB (lK.pb (gu (bf (cG (T.i 3) rfl (T.b 5) rfl (PV.rd (aa 3)))) (eS (bf (cG (T.i 7) rfl (T.b 5) rfl (PV.rd (aa 3))))))) (ae (bZ 1 S.nd (aF aJ aO (aa 1) (PF.pv (bD (ai (aW (T.f 4) (PV.rd (aa 3))) aw))))) ah) ah) (ae (aB (lK.pb (gu (bf (cG (T.i 0) rfl (T.b 5) rfl (PV.rd (aa 3)))) (eS (bf (cG (T.i 6) rfl (T.b 5) rfl (PV.rd (aa 3))))))) (ae (bZ 1 S.nd (aF aJ aO (aa 1) (PF.pv (bD (ai (aW (T.f 6) (PV.rd (aa 3))) (ai (aW (T.f 15) (PV.rd (aa 3))) aw)))))) ah) ah) (ae (aB (bf (cG (T.i 6) rfl (T.b 5) rfl (PV.rd (aa 3)))) (ae (bZ 1 S.nd (aF aJ aO (aa 1) (PF.pv (bD (ai (aW (T.f 1) (PV.rd (aa 3))) aw))))) ah) ah) (ae (aB (bf (cG (T.i 1) rfl (T.b 5) rfl (PV.rd (aa 3)))) (ae (bZ 1 S.nd (aF aJ aO (aa 1) (PF.pv (bD (ai (aW (T.f 0) (PV.rd (aa 3))) (ai (aW (T.f 2) (PV.rd (aa 3))) aw)))))) ah) ah) ah))))))) (ae (ar (aa 1)) ah)))
theorem Lg:Cl P base T "_law_rows_read" 2 [false] oE:=fc [] AS (T.d 9 rfl) fun S hr=>(ae (aB (bf (cG (T.i 2) rfl (T.b 5) rfl (PV.rd (aa 0)))) (ae (ar (PF.pv (bD aw))) ah) ah) (ae (aB (bf (cG (T.i 4) rfl (T.b 5) rfl (PV.rd (aa 0)))) (ae (ar (PF.pv (bD (ai (aW (T.f 20) (PV.rd (aa 0))) (ai (aW (T.f 13) (PV.rd (aa 0))) aw))))) ah) ah) (ae (ar (PF.pv (vi 1 ["_law_loop","_law_node","?acc1"] (cP (bj (Le T) hr (ag (aW (T.f 25) (PV.rd (aa 0))) ao))) (fun nd=>(jU 1 nd)) (jR (bf (cG (T.i 5) rfl (T.b 5) rfl (PV.rd (aa 1))))) (aW (T.f 8) (PV.rd (aa 1)))))) ah)))
theorem Qe:kI P base T "Plan" "__init__" false 1 [true,false,false,false] JD:=fm [] Oa (T.m 0 rfl) fun S hr=>(ae (aX 0 (T.f 9) (PF.pv (iM rfl (T.b 7) Rx (PV.rd (aa 1))))) (ae (aX 0 (T.f 16) (Gy rfl (T.b 2) VS.boot_dict (aa 2))) (ae (aX 0 (T.f 7) (PF.pv (iM rfl (T.b 7) Rx (PV.rd (aa 3))))) ah)))
theorem Q1b:Cl P base T "spreads" 1 [false,false,false,false] xW:=fc [] xq (T.d 10 rfl) fun S hr=>(ae (ar (sQ (gx fX (zi false) (au (au (aa 0) (aa 2)) aj) (aH (ai az (ai az (ai az aw)))) (by with_unfolding_all rfl)) (mE (gx (wx hr.units) B2 (au (aa 1) (aa 2)) (au (aa 1) (aa 3)) (bF _))))) ah)
theorem K9:Cl P base T "is_kept" 2 [false,false,false,false] xH:=fc ["kind"] AK (T.d 11 rfl) fun S hr=>(ae (bZ 4 S.nd (au (au (aa 0) (aa 2)) aj)) (ae (aB (lK.pb (gu (dE hr (aa 2) (aF cN eK (cf (T.b 6) (PV.rd (aa 0))) aj)) (eS (cb fX (zi false) (aa 4) (aH (ai az (ai az (ai az (ai az aw))))) (by with_unfolding_all rfl))))) (ae (ar lu) ah) ah) (ae (aB (bf (eU (qC rfl) (oN false) rfl (T.b 1) VS.boot_any (PV.rd (PF.pv (vi 1 ["program","sides","at","naming","kind","number","?acc5"] (cP (aa 3)) (fun nd=>(jU 5 nd)) bX (gx fX (zi false) (au (au (aa 0) (aa 5)) aj) (aH (ai az (ai az aw))) (by with_unfolding_all rfl))))))) (ae (ar lu) ah) ah) (ae (aB (dE hr (aa 4) az) (ae (ar lu) ah) ah) (ae (ar (ID (gx nu uj (cf (T.b 6) (PV.rd (aa 3))) aj (bF _)) (mE (eU (qC rfl) (oN false) rfl (T.b 1) VS.boot_any (PV.rd (PF.pv (vi 1 ["program","sides","at","naming","kind","number","?acc5"] (cP (aa 3)) (fun nd=>(jU 5 nd)) bX (bj (Q1b T) hr (ag (aa 0) (ag (aa 1) (ag (aa 5) (ag (aa 2) ao)))))))))))) ah)))))
theorem wj:Cl P base T "named_by" 1 [false] mX:=fc [] HF (T.d 12 rfl) fun S hr=>(ae (ar (PF.pv (vi 2 ["line","part","value","?acc1"] (mP rfl (T.b 13) (ai (sR (T.t 1 rfl) rfl (au (aa 0) aj)) (ai (dw (aa 0) (bH aj) bG) aw))) (fun nd=>(gB rfl (pX 1 nd (pX 2 nd eE)))) (jR (dE hr (aa 1) az)) (aa 2)))) ah)
theorem Lr:Cl P base T "naming_lines" 2 [false,false,false] xN:=fc ["naming","number","line"] A1 (T.d 13 rfl) fun S hr=>(ae (DX 3 S.nd (bD aw)) (ae (qq (lF rfl (T.b 3) (ai (aa 0) aw)) (gB rfl (pX 4 S.nd (pX 5 S.nd eE))) (ae (aB (bf (au (aa 1) (aa 4))) (ae (M5 3 (vi 1 ["program","wanted","at","naming","number","line","named","?acc6"] (cP (bj (wj T) hr (ag (aa 5) ao))) (fun nd=>(jU 6 nd)) (jR (dE hr (aa 6) (aa 2))) (aa 4)) (hpe:=fun ho ha=>Iz PySem.F.plainAttrs_list PySem.F.slot_list_extend PySem.F.type_list_extend Q0E ho ha)) ah) ah) ah)) (ae (i7 (i:=3) (ar (aa 3))) ah)))
theorem LL:Cl P base T "wanted_lines" 2 [false] uc:=fc ["wanted","at","named"] Bh (T.d 14 rfl) fun S hr=>(ae (oh 1 1 S.nd rfl (Or.inl rfl) rfl (N':=["program","wanted","at","named","line","?acc4"]) ⟨rfl,by kernel_rfl⟩ rfl (cP (aa 0)) eY (iF (by kernel_rfl)) (fun C s H ex=>(jU 4 (Iw ["program","wanted","at","named","line","?acc4"]))) (fun C s H ex _=>bX) (fun C s H ex _=>lu)) (ae (gC 1 (aF cN eK (cf (T.b 6) (PV.rd (aa 0))) aj) lu) (ae (qq (Hi rfl (T.b 9) (ai (aF cN eK (cf (T.b 6) (PV.rd (aa 0))) aj) (ai (nv jz gN aj) (ai (nv jz gN aj) aw)))) (jU 2 S.nd) (ae (aB (bf (a9 1 (aa 2))) (ae (qq (cP (bj (wj T) hr (ag (au (aa 0) (aa 2)) ao))) (jU 3 S.nd) (ae (gC 1 (aa 3) lu) ah)) ah) ah) ah)) (ae (i7 (i:=1) (ar (aa 1))) ah))))
theorem Q0n:Cl P base T "kept_lines" 3 [false,false] tY:=fc ["wanted","kept","at","line"] AN (T.d 15 rfl) fun S hr=>(ae (bZ 2 S.nd (bj (LL T) hr (ag (aa 0) ao))) (ae (DX 3 S.nd (bD aw)) (ae (qq (lF rfl (T.b 3) (ai (aa 0) aw)) (gB rfl (pX 4 S.nd (pX 5 S.nd eE))) (ae (IP 3 (sQ (au (aa 2) (aa 4)) (mE (bj (K9 T) hr (ag (aa 0) (ag (aa 1) (ag (aa 4) (ag (bj (Lr T) hr (ag (aa 0) (ag (aa 2) (ag (aa 4) ao)))) ao)))))))) ah)) (ae (i7 (i:=3) (ar (aa 3))) ah))))
theorem sG:Cl P base T "cells_in" 1 [false] oC:=fc ["many","side"] AE (T.d 16 rfl) fun S hr=>(ae (bZ 1 S.nd aj) (ae (qq (cP (aa 0)) (jU 2 S.nd) (ae (bZ 1 S.nd (aF gP j8 (aa 1) (aa 2))) ah)) (ae (ar (aa 1)) ah)))
theorem Q1K:Cl P base T "lengths_of" 2 [false,false] xK:=fc ["lengths","loop","row"] AY (T.d 17 rfl) fun S hr=>(ae (oh 1 2 S.nd rfl (Or.inl rfl) rfl (N':=["loops","row_of","lengths","loop","?4","row","?acc5"]) ⟨rfl,by kernel_rfl⟩ rfl (bR rfl (T.b 9) (ai (aF aJ aO (GB rfl rfl (T.b 8) boot_max (aa 1)) aj) aw)) eY (iF (by kernel_rfl)) (fun C s H ex=>(jU 5 (Iw ["loops","row_of","lengths","loop","?4","row","?acc5"]))) (fun C s H ex _=>bX) (fun C s H ex _=>aj)) (ae (qq (cP (aa 0)) (jU 3 S.nd) (ae (bZ 4 S.nd (iP (aa 1) (aW (T.f 8) (PV.rd (aa 3))))) (ae (gC 2 (aa 4) (lx (jE rfl) yg rfl (T.b 8) boot_max (ai (a9 2 (aa 4)) (ai (bj (sG T) hr (ag (aW (T.f 18) (PV.rd (aa 3))) ao)) aw)))) ah))) (ae (i7 (i:=2) (ar (aa 2))) ah)))
theorem uI:kI P base T "Loop" "__init__" true 1 [true,false,false] zg:=fm [] N7 (T.m 1 rfl) fun S hr=>(ae (aX 0 (T.f 8) (aa 1)) (ae (aX 0 (T.f 18) (aa 2)) ah))
theorem P8:kI P base T "Fill" "__init__" false 2 [true,false,false,false] Jx:=fm [] N3 (T.m 2 rfl) fun S hr=>(ae (lI (Qk (uI T) hr (aU 0 (ag (aa 1) (ag (aa 2) ao))))) (ae (aX 0 (T.f 25) (aa 3)) ah))
theorem P9:kI P base T "Fold" "__init__" false 2 [true,false,false,false,false,false,false] Jy:=fm [] N4 (T.m 3 rfl) fun S hr=>(ae (lI (Qk (uI T) hr (aU 0 (ag (aa 1) (ag (aa 2) ao))))) (ae (aX 0 (T.f 17) (aa 3)) (ae (aX 0 (T.f 19) (aa 4)) (ae (aX 0 (T.f 3) (aa 5)) (ae (aX 0 (T.f 25) (aa 6)) ah)))))
theorem Qb:kI P base T "Load" "__init__" false 2 [true,false,false,false] JA:=fm [] N6 (T.m 4 rfl) fun S hr=>(ae (lI (Qk (uI T) hr (aU 0 (ag (aa 1) (ag (aa 2) ao))))) (ae (aX 0 (T.f 24) (aa 3)) ah))
theorem Qd:kI P base T "Pick" "__init__" false 2 [true,false,false,false,false,false,false] JC:=fm [] N9 (T.m 5 rfl) fun S hr=>(ae (lI (Qk (uI T) hr (aU 0 (ag (aa 1) (ag (aa 2) ao))))) (ae (aX 0 (T.f 17) (aa 3)) (ae (aX 0 (T.f 20) (aa 4)) (ae (aX 0 (T.f 13) (aa 5)) (ae (aX 0 (T.f 21) (aa 6)) ah)))))
theorem K0:kI P base T "Through" "__init__" false 2 [true,false,false,false,false,false] BM:=fm [] HA (T.m 6 rfl) fun S hr=>(ae (lI (Qk (uI T) hr (aU 0 (ag (aa 1) (ag (aa 2) ao))))) (ae (aX 0 (T.f 17) (aa 3)) (ae (aX 0 (T.f 3) (aa 4)) (ae (aX 0 (T.f 25) (aa 5)) ah))))
theorem C0:kI P base T "Weaver" "__init__" false 1 [true,false,false,false,false] xC:=fm [] HB (T.m 7 rfl) fun S hr=>(ae (aX 0 (T.f 14) (aa 1)) (ae (aX 0 (T.f 18) (aa 2)) (ae (aX 0 (T.f 5) (aa 3)) (ae (aX 0 (T.f 10) (aa 4)) ah))))
theorem P6:kI P base T "Both" "__init__" false 1 [true,false,false,false] Jv:=fm [] N1 (T.m 8 rfl) fun S hr=>(ae (aX 0 (T.f 3) (aa 1)) (ae (aX 0 (T.f 6) (aa 2)) (ae (aX 0 (T.f 15) (aa 3)) ah)))
theorem P7:kI P base T "Even" "__init__" false 1 [true,false] Jw:=fm [] N2 (T.m 9 rfl) fun S hr=>(ae (aX 0 (T.f 11) (aa 1)) ah)
theorem Qc:kI P base T "One" "__init__" false 1 [true,false,false] JB:=fm [] N8 (T.m 10 rfl) fun S hr=>(ae (aX 0 (T.f 3) (aa 1)) (ae (aX 0 (T.f 4) (aa 2)) ah))
theorem KZ:kI P base T "Read" "__init__" false 1 [true,false,false,false] BL:=fm [] Hz (T.m 11 rfl) fun S hr=>(ae (aX 0 (T.f 8) (aa 1)) (ae (aX 0 (T.f 22) (aa 2)) (ae (aX 0 (T.f 23) (aa 3)) ah)))
theorem Lz:Cl P base T "reading_by" 1 [false,false,false] xR:=fc ["start","steps","part","stride"] A6 (T.d 18 rfl) fun S hr=>(ae (bZ 3 S.nd aj) (ae (oh 1 4 S.nd rfl (Or.inl rfl) rfl (N':=["way","strides","many","start","steps","part","stride","index","?acc7"]) ⟨rfl,by kernel_rfl⟩ rfl (bR rfl (T.b 9) (ai (aa 2) aw)) eY (iF (by kernel_rfl)) (fun C s H ex=>(jU 7 (Iw ["way","strides","many","start","steps","part","stride","index","?acc7"]))) (fun C s H ex _=>bX) (fun C s H ex _=>aj)) (ae (qq (mP rfl (T.b 13) (ai (aa 0) (ai (aa 1) aw))) (gB rfl (pX 5 S.nd (pX 6 S.nd eE))) (ae (bZ 3 S.nd (aF aJ aO (aa 3) (aF gP j8 (au (aa 5) aj) (aa 6)))) (ae (aB (vh hr (au (aa 5) aj) (nv jz gN aj)) (ae (gC 4 (au (aa 5) aj) (aF aJ aO (a9 4 (au (aa 5) aj)) (aF gP j8 (au (aa 5) aj) (aa 6)))) ah) ah) ah))) (ae (ar (aH (ai (aa 3) (ai (uM (T.b 12) (iN 4)) aw)))) ah))))
theorem LI:Cl P base T "strides_of" 1 [false] xX:=fc ["backwards","stride","side"] Be (T.d 19 rfl) fun S hr=>(ae (DX 1 S.nd (bD aw)) (ae (bZ 2 S.nd aj) (ae (qq (Q0c rfl (T.b 10) (aa 0)) (jU 3 S.nd) (ae (IP 1 (aa 2)) (ae (bZ 2 S.nd (aF gP j8 (aa 2) (aa 3))) ah))) (ae (ar (yK rfl (T.b 10) rfl (T.b 12) (iN 1))) ah))))
theorem C3:kI P base T "Weaver" "row_read" false 3 [false,false,false,false] tW:=fm ["reading"] AD (T.m 12 rfl) fun S hr=>(ae (bZ 4 S.nd (bj (Lz T) hr (ag (aa 2) (ag (bj (LI T) hr (ag (aa 3) ao)) (ag (aW (T.f 10) (PV.rd (aa 0))) ao))))) (ae (ar (PF.pv (wB (KZ T) hr (ag (aa 1) (ag (au (aa 4) aj) (ag (au (aa 4) aj) ao)))))) ah))
theorem Qa:kI P base T "Joined" "__init__" false 1 [true,false,false,false,false] Jz:=fm [] N5 (T.m 13 rfl) fun S hr=>(ae (aX 0 (T.f 12) (aa 1)) (ae (aX 0 (T.f 19) (aa 2)) (ae (aX 0 (T.f 0) (aa 3)) (ae (aX 0 (T.f 2) (aa 4)) ah))))
theorem wk:Cl P base T "part_standing" 1 [false] qL:=fc [] A2 (T.d 20 rfl) fun S hr=>(ae (ar (aH (ai (aa 0) (ai (nv jz gN aj) (ai aj aw))))) ah)
theorem Lu:Cl P base T "part_moved" 2 [false,false,false] qK:=fc ["first"] xo (T.d 21 rfl) fun S hr=>(ae (bZ 3 S.nd (aF aJ aO (aa 1) (aF gP j8 (aa 2) (au (aa 0) aj)))) (ae (aB (dE hr (aF gP j8 (aa 2) (au (aa 0) aj)) aj) (ae (ar (bj (wk T) hr (ag (aa 3) ao))) ah) ah) (ae (ar (aH (ai (aa 3) (ai (au (aa 0) aj) (ai (aF gP j8 (aa 2) (au (aa 0) aj)) aw))))) ah)))
theorem wt:Cl P base T "way_moved" 3 [false,false,false,false] qO:=fc ["moved"] Bj (T.d 22 rfl) fun S hr=>(ae (DX 4 S.nd (iM rfl (T.b 7) Rx (PV.rd (aa 0)))) (ae (gC 4 (aa 1) (bj (Lu T) hr (ag (au (aa 0) (aa 1)) (ag (aa 2) (ag (aa 3) ao))))) (ae (i7 (i:=4) (ar (aa 4))) ah)))
theorem K3:kI P base T "Within" "__init__" false 1 [true,false,false,false,false] BP:=fm [] HD (T.m 14 rfl) fun S hr=>(ae (aX 0 (T.f 12) (aa 1)) (ae (aX 0 (T.f 19) (aa 2)) (ae (aX 0 (T.f 4) (aa 3)) (ae (aX 0 (T.f 11) (aa 4)) ah))))
theorem Q0X:Cl P base T "way_spread" 2 [false,false] x6:=fc ["last"] Bk (T.d 23 rfl) fun S hr=>(ae (bZ 2 S.nd (dw (aa 0) (bH (aF cN eK (cf (T.b 6) (PV.rd (aa 0))) (cf (T.b 6) (PV.rd (aa 1))))) bG)) (ae (ar (PF.pv (vi 2 ["way","own","last","side","part","?acc3"] (mP rfl (T.b 13) (ai (aa 1) (ai (aa 2) aw))) (fun nd=>(gB rfl (pX 3 nd (pX 4 nd eE)))) bX (kh (dE hr (aa 3) aj) (bj (wk T) hr (ag aj ao)) (aa 4))))) ah))
theorem Q0h:Cl P base T "way_dropped" 2 [false,false,false] x5:=fc [] Bi (T.d 24 rfl) fun S hr=>(ae (ar (aF aJ aO (aF aJ aO (dw (aa 0) bG (bH (aa 1))) (PF.pv (bD (ai (bj (wk T) hr (ag (aa 2) ao)) aw)))) (dw (aa 0) (bH (aa 1)) bG))) ah)
theorem LO:Cl P base T "way_turned" 1 [false,false] x9:=fc ["turned","side","part"] Bl (T.d 25 rfl) fun S hr=>(ae (DX 2 S.nd (iM rfl (T.b 7) Rx (PV.rd (aa 0)))) (ae (qq (mP rfl (T.b 13) (ai (aa 1) (ai (aa 0) aw))) (gB rfl (pX 3 S.nd (pX 4 S.nd eE))) (ae (gC 2 (aa 3) (aa 4)) ah)) (ae (i7 (i:=2) (ar (aa 2))) ah)))
theorem LP:Cl P base T "way_widened" 1 [false,false] ya:=fc [] Bm (T.d 26 rfl) fun S hr=>(ae (ar (aF aJ aO (dw (aa 0) bG (bH (aa 1))) (dw (aa 0) (bH (aF aJ aO (aa 1) aj)) bG))) ah)
theorem Q1V:kI P base T "Where" "__init__" false 1 [true,false,false,false] BO:=fm [] HC (T.m 15 rfl) fun S hr=>(ae (aX 0 (T.f 1) (aa 1)) (ae (aX 0 (T.f 6) (aa 2)) (ae (aX 0 (T.f 15) (aa 3)) ah)))
def I0(P:Program)(base:Heap){w:World}{K:Frag}{mg:MG}{a:Ei}(T:Txt L w K mg a)(n:Nat):Prop:=
 kI P base T "Weaver" "tree_named" false (3+n) [false,false,false] (dN n 0) /\
 kI P base T "Weaver" "tree_made" false (3+n) [false,false,false] (dN n 1) /\
 kI P base T "Weaver" "tree_viewed" false (3+n) [false,false,false] (dN n 2) /\
 kI P base T "Weaver" "tree_spread" false (3+n) [false,false,false] (dN n 3) /\
 kI P base T "Weaver" "tree_shifted" false (3+n) [false,false,false,false,false,false] (dN n 4) /\
 kI P base T "Weaver" "tree_joined" false (3+n) [false,false,false,false,false] (dN n 5)
theorem MM{n:Nat}(ih:I0 P base T n):kI P base T "Weaver" "tree_named" false (3+n+1) [false,false,false] (dN (n+1) 0):=by obtain⟨ec,lY,l5,gh,lZ,lX⟩:=ih;exact fm [] (tM (dN n)) (T.m 16 rfl) fun S hr=>(ae (aB (bf (au (aW (T.f 5) (PV.rd (aa 0))) (aa 1))) (ae (ar (n5 (C3 T) hr (aa 0) (ag (aa 1) (ag (aa 2) (ag (au (aW (T.f 18) (PV.rd (aa 0))) (aa 1)) ao))))) ah) ah) (ae (ar (n5 lY hr (aa 0) (ag (aa 1) (ag (aa 2) ao)))) ah))
theorem ML{n:Nat}(ih:I0 P base T n):kI P base T "Weaver" "tree_made" false (3+n+1) [false,false,false] (dN (n+1) 1):=by obtain⟨ec,lY,l5,gh,lZ,lX⟩:=ih;exact fm ["line","kind"] (iT (dN n)) (T.m 17 rfl) fun S hr=>(ae (bZ 3 S.nd (au (aW (T.f 14) (PV.rd (aa 0))) (aa 1))) (ae (bZ 4 S.nd (au (aa 3) aj)) (ae (aB (dE hr (aa 4) az) (ae (ar (PF.pv (wB (P7 T) hr (ag (au (aa 3) aj) ao)))) ah) ah) (ae (aB (dE hr (aa 4) az) (ae (ar (PF.pv (wB (Qc T) hr (ag (au (aa 3) aj) (ag (n5 ec hr (aa 0) (ag (au (aa 3) aj) (ag (aa 2) ao))) ao))))) ah) ah) (ae (aB (dE hr (aa 4) az) (ae (ar (PF.pv (wB (P6 T) hr (ag (au (aa 3) aj) (ag (n5 gh hr (aa 0) (ag (au (aa 3) aj) (ag (aa 2) ao))) (ag (n5 gh hr (aa 0) (ag (au (aa 3) aj) (ag (aa 2) ao))) ao)))))) ah) ah) (ae (aB (dE hr (aa 4) az) (ae (ar (PF.pv (wB (Q1V T) hr (ag (n5 gh hr (aa 0) (ag (au (aa 3) aj) (ag (aa 2) ao))) (ag (n5 gh hr (aa 0) (ag (au (aa 3) aj) (ag (aa 2) ao))) (ag (n5 gh hr (aa 0) (ag (au (aa 3) aj) (ag (aa 2) ao))) ao)))))) ah) ah) (ae (aB (dE hr (aa 4) az) (ae (ar (n5 lZ hr (aa 0) (ag (au (aa 3) aj) (ag (au (aa 3) aj) (ag (au (aa 3) aj) (ag (au (aa 3) aj) (ag (aa 2) ao))))))) ah) ah) (ae (aB (dE hr (aa 4) az) (ae (ar (n5 lX hr (aa 0) (ag (au (aa 3) aj) (ag (au (aa 3) aj) (ag (au (aa 3) aj) (ag (aa 2) ao)))))) ah) ah) (ae (aB (dE hr (aa 4) az) (ae (ar (n5 (C3 T) hr (aa 0) (ag (au (aa 3) aj) (ag (aa 2) (ag (au (aW (T.f 18) (PV.rd (aa 0))) (aa 1)) ao))))) ah) ah) (ae (ar (n5 l5 hr (aa 0) (ag (aa 3) (ag (aa 2) ao)))) ah))))))))))
theorem MP{n:Nat}(ih:I0 P base T n):kI P base T "Weaver" "tree_viewed" false (3+n+1) [false,false,false] (dN (n+1) 2):=by obtain⟨ec,lY,l5,gh,lZ,lX⟩:=ih;exact fm ["kind"] (iU (dN n)) (T.m 18 rfl) fun S hr=>(ae (bZ 3 S.nd (au (aa 1) aj)) (ae (aB (dE hr (aa 3) az) (ae (ar (n5 ec hr (aa 0) (ag (au (aa 1) aj) (ag (bj (LO T) hr (ag (aa 2) (ag (au (aa 1) aj) ao))) ao)))) ah) ah) (ae (aB (dE hr (aa 3) az) (ae (ar (n5 ec hr (aa 0) (ag (au (aa 1) aj) (ag (bj (wt T) hr (ag (aa 2) (ag (au (aa 1) aj) (ag (au (aa 1) aj) (ag (au (aa 1) aj) ao))))) ao)))) ah) ah) (ae (aB (dE hr (aa 3) az) (ae (ar (n5 ec hr (aa 0) (ag (au (aa 1) aj) (ag (bj (Q0h T) hr (ag (aa 2) (ag (au (aa 1) aj) (ag (au (aa 1) aj) ao)))) ao)))) ah) ah) (ae (aB (dE hr (aa 3) az) (ae (ar (n5 ec hr (aa 0) (ag (au (aa 1) aj) (ag (bj (LP T) hr (ag (aa 2) (ag (au (aa 1) aj) ao))) ao)))) ah) ah) (ae (ar (n5 gh hr (aa 0) (ag (au (aa 1) aj) (ag (aa 2) ao)))) ah))))))
theorem MO{n:Nat}(ih:I0 P base T n):kI P base T "Weaver" "tree_spread" false (3+n+1) [false,false,false] (dN (n+1) 3):=by obtain⟨ec,lY,l5,gh,lZ,lX⟩:=ih;exact fm [] (xl (dN n)) (T.m 19 rfl) fun S hr=>(ae (ar (n5 ec hr (aa 0) (ag (aa 1) (ag (bj (Q0X T) hr (ag (aa 2) (ag (au (aW (T.f 18) (PV.rd (aa 0))) (aa 1)) ao))) ao)))) ah)
theorem MN{n:Nat}(ih:I0 P base T n):kI P base T "Weaver" "tree_shifted" false (3+n+1) [false,false,false,false,false,false] (dN (n+1) 4):=by obtain⟨ec,lY,l5,gh,lZ,lX⟩:=ih;exact fm ["moved"] (xk (dN n)) (T.m 20 rfl) fun S hr=>(ae (bZ 6 S.nd (bj (wt T) hr (ag (aa 5) (ag (aa 2) (ag (nv jz gN (aa 3)) (ag aj ao)))))) (ae (ar (PF.pv (wB (K3 T) hr (ag (au (aa 6) (aa 2)) (ag (au (au (aW (T.f 18) (PV.rd (aa 0))) (aa 1)) (aa 2)) (ag (n5 ec hr (aa 0) (ag (aa 1) (ag (aa 6) ao))) (ag (aa 4) ao))))))) ah))
theorem MK{n:Nat}(ih:I0 P base T n):kI P base T "Weaver" "tree_joined" false (3+n+1) [false,false,false,false,false] (dN (n+1) 5):=by obtain⟨ec,lY,l5,gh,lZ,lX⟩:=ih;exact fm ["size","moved"] (xj (dN n)) (T.m 21 rfl) fun S hr=>(ae (bZ 5 S.nd (au (au (aW (T.f 18) (PV.rd (aa 0))) (aa 1)) (aa 3))) (ae (bZ 6 S.nd (bj (wt T) hr (ag (aa 4) (ag (aa 3) (ag (nv jz gN (aa 5)) (ag aj ao)))))) (ae (ar (PF.pv (wB (Qa T) hr (ag (au (aa 4) (aa 3)) (ag (aa 5) (ag (n5 ec hr (aa 0) (ag (aa 1) (ag (aa 4) ao))) (ag (n5 ec hr (aa 0) (ag (aa 2) (ag (aa 6) ao))) ao))))))) ah)))
theorem mU:∀n,I0 P base T n|0=>⟨⟨_,_,_,_,_,_,(T.m 16 rfl),oJ rfl⟩,⟨_,_,_,_,_,_,(T.m 17 rfl),oJ rfl⟩,⟨_,_,_,_,_,_,(T.m 18 rfl),oJ rfl⟩,⟨_,_,_,_,_,_,(T.m 19 rfl),oJ rfl⟩,⟨_,_,_,_,_,_,(T.m 20 rfl),oJ rfl⟩,⟨_,_,_,_,_,_,(T.m 21 rfl),oJ rfl⟩⟩|n+1=>⟨MM T (mU n),ML T (mU n),MP T (mU n),MO T (mU n),MN T (mU n),MK T (mU n)⟩
theorem C4:kI P base T "Weaver" "tree_named" false 67 [false,false,false] xD:=(mU T 64).1
theorem K1:kI P base T "Weaver" "tree_made" false 67 [false,false,false] BN:=(mU T 64).2.1
theorem wq:Cl P base T "straight_way" 1 [false] oG:=fc [] Bd (T.d 27 rfl) fun S hr=>(ae (ar (PF.pv (vi 1 ["many","at","?acc1"] (bR rfl (T.b 9) (ai (aa 0) aw)) (fun nd=>(jU 1 nd)) bX (aH (ai aj (ai (aa 1) (ai aj aw))))))) ah)
theorem Lo:Cl P base T "loop_of" 68 [false,false,false,false] kS:=fc ["line","own","kind","inner","tree","weaver"] om (T.d 28 rfl) fun S hr=>(ae (bZ 4 S.nd (au (aa 0) (aa 3))) (ae (bZ 5 S.nd (au (aa 1) (aa 3))) (ae (bZ 6 S.nd (au (aa 4) aj)) (ae (aB (dE hr (aa 6) az) (ae (ar (PF.pv (wB (Qb T) hr (ag (aa 3) (ag (aa 5) (ag (au (aa 4) aj) ao)))))) ah) ah) (ae (aB (dE hr (aa 6) az) (ae (ar (PF.pv (wB (Qd T) hr (ag (aa 3) (ag (aa 5) (ag (au (aa 4) aj) (ag (au (aa 4) aj) (ag (au (aa 4) aj) (ag (au (aa 1) (au (aa 4) aj)) ao))))))))) ah) ah) (ae (aB (dE hr (aa 6) az) (ae (bZ 7 S.nd (au (aa 1) (au (aa 4) aj))) (ae (bZ 8 S.nd (n5 (C4 T) hr (PF.pv (wB (C0 T) hr (ag (aa 0) (ag (aa 1) (ag (aa 2) (ag (cf (T.b 6) (PV.rd (aa 7))) ao)))))) (ag (au (aa 4) aj) (ag (bj (wq T) hr (ag (cf (T.b 6) (PV.rd (aa 7))) ao)) ao)))) (ae (ar (PF.pv (wB (P9 T) hr (ag (aa 3) (ag (aa 5) (ag (au (aa 4) aj) (ag (au (aa 7) (au (aa 4) aj)) (ag (au (aa 4) aj) (ag (aa 8) ao))))))))) ah))) ah) (ae (bZ 9 S.nd (PF.pv (wB (C0 T) hr (ag (aa 0) (ag (aa 1) (ag (aa 2) (ag (cf (T.b 6) (PV.rd (aa 5))) ao))))))) (ae (aB (dE hr (aa 6) az) (ae (ar (PF.pv (wB (K0 T) hr (ag (aa 3) (ag (aa 5) (ag (au (aa 4) aj) (ag (au (aa 4) aj) (ag (n5 (C4 T) hr (aa 9) (ag (au (aa 4) aj) (ag (bj (wq T) hr (ag (cf (T.b 6) (PV.rd (aa 5))) ao)) ao))) ao)))))))) ah) ah) (ae (ar (PF.pv (wB (P8 T) hr (ag (aa 3) (ag (aa 5) (ag (n5 (K1 T) hr (aa 9) (ag (aa 3) (ag (bj (wq T) hr (ag (cf (T.b 6) (PV.rd (aa 5))) ao)) ao))) ao)))))) ah)))))))))
def U3(P:Program)(base:Heap){w:World}{K:Frag}{mg:MG}{a:Ei}(T:Txt L w K mg a)(n:Nat):Prop:=Cl P base T "lines_read_in" (0+n) [false] (vk n 0)
theorem MQ{n:Nat}(ih:U3 P base T n):Cl P base T "lines_read_in" (0+n+1) [false] (vk (n+1) 0):=by have jq:=ih;exact fc [] (iV (vk n)) (T.d 29 rfl) fun S hr=>(ae (aB (bf (cG (T.i 5) rfl (T.b 5) rfl (PV.rd (aa 0)))) (ae (ar (PF.pv (bD (ai (aW (T.f 8) (PV.rd (aa 0))) aw)))) ah) ah) (ae (aB (bf (Gz (T.j 0) rfl (T.b 5) (PV.rd (aa 0)))) (ae (ar (bj jq hr (ag (aW (T.f 4) (PV.rd (aa 0))) ao))) ah) ah) (ae (aB (bf (cG (T.i 0) rfl (T.b 5) rfl (PV.rd (aa 0)))) (ae (ar (aF aJ aO (bj jq hr (ag (aW (T.f 6) (PV.rd (aa 0))) ao)) (bj jq hr (ag (aW (T.f 15) (PV.rd (aa 0))) ao)))) ah) ah) (ae (aB (bf (cG (T.i 6) rfl (T.b 5) rfl (PV.rd (aa 0)))) (ae (ar (aF aJ aO (aF aJ aO (bj jq hr (ag (aW (T.f 1) (PV.rd (aa 0))) ao)) (bj jq hr (ag (aW (T.f 6) (PV.rd (aa 0))) ao))) (bj jq hr (ag (aW (T.f 15) (PV.rd (aa 0))) ao)))) ah) ah) (ae (aB (bf (cG (T.i 1) rfl (T.b 5) rfl (PV.rd (aa 0)))) (ae (ar (aF aJ aO (bj jq hr (ag (aW (T.f 0) (PV.rd (aa 0))) ao)) (bj jq hr (ag (aW (T.f 2) (PV.rd (aa 0))) ao)))) ah) ah) (ae (ar (PF.pv (bD aw))) ah))))))
theorem Hy:∀n,U3 P base T n|0=>⟨_,_,_,_,(T.d 29 rfl),oJ rfl⟩|n+1=>MQ T (Hy n)
theorem Ln:Cl P base T "lines_read_in" 64 [false] BR:=(Hy T 64)
theorem Lm:Cl P base T "lines_read_by" 65 [false] oF:=fc [] AZ (T.d 30 rfl) fun S hr=>(ae (aB (bf (cG (T.i 2) rfl (T.b 5) rfl (PV.rd (aa 0)))) (ae (ar (PF.pv (bD aw))) ah) ah) (ae (aB (bf (cG (T.i 4) rfl (T.b 5) rfl (PV.rd (aa 0)))) (ae (ar (PF.pv (bD (ai (aW (T.f 20) (PV.rd (aa 0))) (ai (aW (T.f 13) (PV.rd (aa 0))) aw))))) ah) ah) (ae (ar (bj (Ln T) hr (ag (aW (T.f 25) (PV.rd (aa 0))) ao))) ah)))
theorem Lk:Cl P base T "last_readings" 66 [false] xJ:=fc ["last","at","loop","line"] AX (T.d 31 rfl) fun S hr=>(ae (DX 1 S.nd sM) (ae (qq (lF rfl (T.b 3) (ai (aa 0) aw)) (gB rfl (pX 2 S.nd (pX 3 S.nd eE))) (ae (qq (cP (bj (Lm T) hr (ag (aa 3) ao))) (jU 4 S.nd) (ae (tu 1 (aa 4) (aa 2)) ah)) ah)) (ae (i7 (i:=1) (ar (aa 1))) ah)))
theorem Lq:Cl P base T "lowest_beside" 1 [false] xM:=fc ["row"] A0 (T.d 32 rfl) fun S hr=>(ae (bZ 1 S.nd aj) (ae (DY PassesOwn.never (cb fX (zi false) (aa 1) (aa 0) (by with_unfolding_all rfl)) (ae (bZ 1 S.nd (aF aJ aO (aa 1) aj)) ah)) (ae (ar (aa 1)) ah)))
theorem LA:Cl P base T "rows_of" 67 [false] xS:=fc ["last","row_of","at","loop","needed"] A8 (T.d 33 rfl) fun S hr=>(ae (bZ 1 S.nd (bj (Lk T) hr (ag (aa 0) ao))) (ae (DX 2 S.nd sM) (ae (qq (lF rfl (T.b 3) (ai (aa 0) aw)) (gB rfl (pX 3 S.nd (pX 4 S.nd eE))) (ae (Hn 1 5 S.nd rfl (Or.inl rfl) rfl (N':=["loops","last","row_of","at","loop","needed","line","?acc6"]) ⟨rfl,by kernel_rfl⟩ rfl (Hj (aa 2)) eY (iF (by kernel_rfl)) (fun C s H ex=>(jU 6 (Iw ["loops","last","row_of","at","loop","needed","line","?acc6"]))) (fun C s H ex _=>(jR (cb Qg S8 (iP (aa 1) (aa 6)) (aa 3) (bF _)))) (fun C s H ex _=>(iP (aa 2) (aa 6)))) (ae (tu 2 (aW (T.f 8) (PV.rd (aa 4))) (bj (Lq T) hr (ag (aa 5) ao))) ah))) (ae (i7 (i:=2) (ar (aa 2))) ah))))
theorem K6:Cl P base T "deed_is_known" 1 [false] BQ:=fc [] HE (T.d 34 rfl) fun S hr=>(ae (ar (eU (lQ rfl) (oN true) rfl (T.b 0) VS.boot_all (PV.rd (PF.pv (vi 2 ["line","part","value","?acc1"] (mP rfl (T.b 13) (ai (sR (T.t 1 rfl) rfl (au (aa 0) aj)) (ai (dw (aa 0) (bH aj) bG) aw))) (fun nd=>(gB rfl (pX 1 nd (pX 2 nd eE)))) (jR (Dd (T.t 0 rfl) rfl (aa 1) (by with_unfolding_all rfl))) (gx fX (zi false) (aa 2) (sR (T.t 0 rfl) rfl (aa 1)) (by with_unfolding_all rfl))))))) ah)
theorem C5:Cl P base T "is_rest" 1 [false] tX:=fc [] AL (T.d 35 rfl) fun S hr=>(ae (ar (hU gr kg qb qc aj (aa 0) (jw (T.n 4 rfl) rfl))) ah)
theorem Ls:Cl P base T "number_is_cell" 2 [false] mY:=fc [] tN (T.d 36 rfl) fun S hr=>(ae (aB (dE hr (au (aa 0) aj) az) (ae (ar (bj (C5 T) hr (ag (au (aa 0) aj) ao))) ah) ah) (ae (ar (ID (gx (wx hr.units) B2 (au (aa 0) aj) az (bF _)) (mE (bj (C5 T) hr (ag (au (aa 0) aj) ao))))) ah))
theorem Q1c:Cl P base T "places_are_there" 2 [false,false,false] qM:=fc [] xp (T.d 37 rfl) fun S hr=>(ae (aB (dE hr (au (aa 0) aj) az) (ae (ar (hU gr kg qb qc aj (au (aa 0) aj) (aa 2))) ah) ah) (ae (ar (eU (lQ rfl) (oN true) rfl (T.b 0) VS.boot_all (PV.rd (PF.pv (vi 1 ["line","lines_ahead","tables","named","?acc3"] (cP (bj (wj T) hr (ag (aa 0) ao))) (fun nd=>(jU 3 nd)) bX (hU gr kg qb qc aj (aa 3) (aa 1))))))) ah))
theorem LB:Cl P base T "sides_can_be" 2 [false] xT:=fc [] A9 (T.d 38 rfl) fun S hr=>(ae (aB (lK.pb (gu (cb nu uj (cf (T.b 6) (PV.rd (aa 0))) (jw (T.n 3 rfl) rfl) (bF _)) (eS (iL (bf (eU (lQ rfl) (oN true) rfl (T.b 0) VS.boot_all (PV.rd (PF.pv (vi 1 ["sides","side","?acc1"] (cP (aa 0)) (fun nd=>(jU 1 nd)) bX (hU gr gr qb qb aj (aa 1) (jw (T.n 0 rfl) rfl))))))))))) (ae (ar lu) ah) ah) (ae (ar (gx gr qb (bj (sG T) hr (ag (aa 0) ao)) (jw (T.n 1 rfl) rfl) (bF _))) ah))
theorem kB:Cl P base T "has_side" 1 [false,false] j0:=fc [] AJ (T.d 39 rfl) fun S hr=>(ae (ar (hU gr kg qb qc aj (aa 1) (cf (T.b 6) (PV.rd (aa 0))))) ah)
theorem sI:Cl P base T "without" 1 [false,false] oH:=fc [] Bo (T.d 40 rfl) fun S hr=>(ae (ar (aF aJ aO (dw (aa 0) bG (bH (aa 1))) (dw (aa 0) (bH (aF aJ aO (aa 1) aj)) bG))) ah)
theorem Q0N:Cl P base T "folded_sides" 2 [false,false,false] xG:=fc [] AH (T.d 41 rfl) fun S hr=>(ae (aB (iL (bf (bj (kB T) hr (ag (aa 1) (ag (aa 2) ao))))) (ae (ar bV) ah) ah) (ae (aB (lK.pb (jt (dE hr (au (aa 1) (aa 2)) aj) (jO (cb fX (zi false) (aa 0) (aH (ai az (ai az aw))) (by with_unfolding_all rfl))))) (ae (ar bV) ah) ah) (ae (ar (bj (sI T) hr (ag (aa 1) (ag (aa 2) ao)))) ah)))
theorem wm:Cl P base T "replaced" 1 [false,false,false] qN:=fc [] A7 (T.d 42 rfl) fun S hr=>(ae (ar (aF aJ aO (aF aJ aO (dw (aa 0) bG (bH (aa 1))) (aH (ai (aa 2) aw))) (dw (aa 0) (bH (aF aJ aO (aa 1) aj)) bG))) ah)
theorem Q0d:Cl P base T "joined_sides" 2 [false,false,false] xI:=fc [] AM (T.d 43 rfl) fun S hr=>(ae (aB (lK.pb (gu (iL (bf (bj (kB T) hr (ag (aa 0) (ag (aa 2) ao))))) (eS (vh hr (cf (T.b 6) (PV.rd (aa 0))) (cf (T.b 6) (PV.rd (aa 1))))))) (ae (ar bV) ah) ah) (ae (aB (vh hr (bj (sI T) hr (ag (aa 0) (ag (aa 2) ao))) (bj (sI T) hr (ag (aa 1) (ag (aa 2) ao)))) (ae (ar bV) ah) ah) (ae (ar (bj (wm T) hr (ag (aa 0) (ag (aa 2) (ag (aF aJ aO (au (aa 0) (aa 2)) (au (aa 1) (aa 2))) ao))))) ah)))
theorem Lv:Cl P base T "picked_sides" 2 [false,false,false] xO:=fc [] A3 (T.d 44 rfl) fun S hr=>(ae (aB (lK.pb (gu (iL (bf (bj (kB T) hr (ag (aa 0) (ag (aa 1) ao))))) (eS (vh hr (cf (T.b 6) (PV.rd (aa 2))) aj)))) (ae (ar bV) ah) ah) (ae (ar (bj (wm T) hr (ag (aa 0) (ag (aa 1) (ag (au (aa 2) aj) ao))))) ah))
theorem C7:Cl P base T "with_ones_ahead" 1 [false,false] ue:=fc [] Bn (T.d 45 rfl) fun S hr=>(ae (ar (aF aJ aO (PF.pv (vi 1 ["sides","many","missing","?acc2"] (bR rfl (T.b 9) (ai (aF cN eK (aa 1) (cf (T.b 6) (PV.rd (aa 0)))) aw)) (fun nd=>(jU 2 nd)) bX aj)) (PF.pv (iM rfl (T.b 7) Rx (PV.rd (aa 0)))))) ah)
theorem sH:Cl P base T "sides_met" 2 [false,false] mZ:=fc ["many","met","left","right"] Bb (T.d 46 rfl) fun S hr=>(ae (bZ 2 S.nd (lx (jE rfl) yg rfl (T.b 8) boot_max (ai (cf (T.b 6) (PV.rd (aa 0))) (ai (cf (T.b 6) (PV.rd (aa 1))) aw)))) (ae (DX 3 S.nd (bD aw)) (ae (qq (mP rfl (T.b 13) (ai (bj (C7 T) hr (ag (aa 0) (ag (aa 2) ao))) (ai (bj (C7 T) hr (ag (aa 1) (ag (aa 2) ao))) aw))) (gB rfl (pX 4 S.nd (pX 5 S.nd eE))) (ae (aB (lK.pb (jt (vh hr (aa 4) (aa 5)) (jt (vh hr (aa 4) aj) (jO (vh hr (aa 5) aj))))) (ae (ar bV) ah) ah) (ae (IP 3 (kh (dE hr (aa 4) aj) (aa 5) (aa 4))) ah))) (ae (ar (uM (T.b 12) (iN 3))) ah))))
theorem wg:Cl P base T "has_place" 2 [false,false,false] qI:=fc [] AI (T.d 47 rfl) fun S hr=>(ae (ar (sQ (bj (kB T) hr (ag (aa 0) (ag (aa 1) ao))) (mE (hU gr kg qb qc aj (aa 2) (au (aa 0) (aa 1)))))) ah)
theorem K5:Cl P base T "cut_sides" 3 [false,false,false,false,false] xE:=fc [] AF (T.d 48 rfl) fun S hr=>(ae (aB (lK.pb (gu (iL (bf (bj (kB T) hr (ag (aa 0) (ag (aa 1) ao))))) (gu (dE hr (aa 3) aj) (eS (cb kg qc (aa 4) aj (bF _)))))) (ae (ar bV) ah) ah) (ae (aB (lK.pb (jt (cb nu uj (aa 4) aj (bF _)) (jO (iL (lK.pb (jt (bf (bj (wg T) hr (ag (aa 0) (ag (aa 1) (ag (aa 2) ao))))) (jO (bf (bj (wg T) hr (ag (aa 0) (ag (aa 1) (ag (aF aJ aO (aa 2) (aF gP j8 (aa 3) (aF cN eK (aa 4) aj))) ao)))))))))))) (ae (ar bV) ah) ah) (ae (ar (bj (wm T) hr (ag (aa 0) (ag (aa 1) (ag (aa 4) ao))))) ah)))
theorem K7:Cl P base T "dropped_sides" 3 [false,false,false] xF:=fc [] AG (T.d 49 rfl) fun S hr=>(ae (ar (kh (bf (bj (wg T) hr (ag (aa 0) (ag (aa 1) (ag (aa 2) ao))))) (bj (sI T) hr (ag (aa 0) (ag (aa 1) ao))) bV)) ah)
theorem Ly:Cl P base T "put_in" 1 [false,false,false] xQ:=fc [] A5 (T.d 50 rfl) fun S hr=>(ae (ar (aF aJ aO (aF aJ aO (dw (aa 0) bG (bH (aa 1))) (aH (ai (aa 2) aw))) (dw (aa 0) (bH (aa 1)) bG))) ah)
theorem LK:Cl P base T "turned_sides" 1 [false,false] xZ:=fc [] Bg (T.d 51 rfl) fun S hr=>(ae (aB (vh hr (eU tP JN rfl (T.b 11) PyProof.Rows.boot_sorted (PV.rd (aa 1))) (PF.pv (Gb rfl (T.b 9) rfl (T.b 7) (ai (cf (T.b 6) (PV.rd (aa 0))) aw)))) (ae (ar bV) ah) ah) (ae (ar (uM (T.b 12) (PV.rd (PF.pv (vi 1 ["sides","order","side","?acc2"] (cP (aa 1)) (fun nd=>(jU 2 nd)) bX (au (aa 0) (aa 2))))))) ah))
theorem LG:Cl P base T "sides_viewed" 4 [false,false] gK:=fc ["kind"] mW (T.d 52 rfl) fun S hr=>(ae (bZ 2 S.nd (au (aa 0) aj)) (ae (aB (dE hr (aa 2) az) (ae (ar (bj (LK T) hr (ag (aa 1) (ag (au (aa 0) aj) ao)))) ah) ah) (ae (aB (dE hr (aa 2) az) (ae (ar (bj (K5 T) hr (ag (aa 1) (ag (au (aa 0) aj) (ag (au (aa 0) aj) (ag (au (aa 0) aj) (ag (au (aa 0) aj) ao))))))) ah) ah) (ae (aB (dE hr (aa 2) az) (ae (ar (bj (K7 T) hr (ag (aa 1) (ag (au (aa 0) aj) (ag (au (aa 0) aj) ao))))) ah) ah) (ae (aB (dE hr (aa 2) az) (ae (ar (kh (C9 gr gr qb qb aj (au (aa 0) aj) (cf (T.b 6) (PV.rd (aa 1)))) (bj (Ly T) hr (ag (aa 1) (ag (au (aa 0) aj) (ag aj ao)))) bV)) ah) ah) (ae (aB (dE hr (aa 2) az) (ae (ar (kh (dE hr (bj (sH T) hr (ag (aa 1) (ag (au (aa 0) aj) ao))) (au (aa 0) aj)) (au (aa 0) aj) bV)) ah) ah) (ae (ar (kh (dE hr (bj (sG T) hr (ag (aa 1) ao)) (bj (sG T) hr (ag (au (aa 0) aj) ao))) (au (aa 0) aj) bV)) ah)))))))
theorem LJ:Cl P base T "three_met" 3 [false,false,false] xY:=fc ["met"] Bf (T.d 53 rfl) fun S hr=>(ae (bZ 3 S.nd (bj (sH T) hr (ag (aa 0) (ag (aa 1) ao)))) (ae (ar (kh (cb pq uk (aa 3) bV (bF _)) bV (bj (sH T) hr (ag (aa 3) (ag (aa 2) ao))))) ah))
theorem Q1C:Cl P base T "sides_told" 5 [false,true,false] d7:=fc ["kind"] eI (T.d 54 rfl) fun S hr=>(ae (bZ 3 S.nd (au (aa 0) aj)) (ae (aB (dE hr (aa 3) az) (ae (ar (au (aa 2) (au (aa 0) aj))) ah) ah) (ae (aB (dE hr (aa 3) az) (ae (ar (au (aa 0) aj)) ah) ah) (ae (aB (dE hr (aa 3) az) (ae (ar (a9 1 (au (aa 0) aj))) ah) ah) (ae (aB (dE hr (aa 3) az) (ae (ar (bj (sH T) hr (ag (a9 1 (au (aa 0) aj)) (ag (a9 1 (au (aa 0) aj)) ao)))) ah) ah) (ae (aB (dE hr (aa 3) az) (ae (ar (bj (LJ T) hr (ag (a9 1 (au (aa 0) aj)) (ag (a9 1 (au (aa 0) aj)) (ag (a9 1 (au (aa 0) aj)) ao))))) ah) ah) (ae (aB (dE hr (aa 3) az) (ae (ar (bj (Q0N T) hr (ag (au (aa 0) aj) (ag (a9 1 (au (aa 0) aj)) (ag (au (aa 0) aj) ao))))) ah) ah) (ae (aB (dE hr (aa 3) az) (ae (ar (kh (bf (bj (kB T) hr (ag (a9 1 (au (aa 0) aj)) (ag (au (aa 0) aj) ao)))) (a9 1 (au (aa 0) aj)) bV)) ah) ah) (ae (aB (dE hr (aa 3) az) (ae (ar (bj (Lv T) hr (ag (a9 1 (au (aa 0) aj)) (ag (au (aa 0) aj) (ag (a9 1 (au (aa 0) aj)) ao))))) ah) ah) (ae (aB (dE hr (aa 3) az) (ae (ar (bj (Q0d T) hr (ag (a9 1 (au (aa 0) aj)) (ag (a9 1 (au (aa 0) aj)) (ag (au (aa 0) aj) ao))))) ah) ah) (ae (aB (dE hr (aa 3) az) (ae (ar (kh (bf (bj (kB T) hr (ag (a9 1 (au (aa 0) aj)) (ag (au (aa 0) aj) ao)))) (a9 1 (au (aa 0) aj)) bV)) ah) ah) (ae (ar (bj (LG T) hr (ag (aa 0) (ag (a9 1 (au (aa 0) aj)) ao)))) ah))))))))))))
theorem LC:Cl P base T "sides_looked_over" 6 [false,false,true,false] xU:=fc ["sides"] Ba (T.d 55 rfl) fun S hr=>(ae (aB (iL (bf (bj (Q1c T) hr (ag (aa 1) (ag (cf (T.b 6) (iN 2)) (ag (cf (T.b 6) (PV.rd (aa 3))) ao)))))) (ae jC ah) ah) (ae (aB (iL (bf (bj (Ls T) hr (ag (aa 1) ao)))) (ae jC ah) ah) (ae (bZ 4 S.nd (kh (bf (bj (K6 T) hr (ag (aa 1) ao))) (bj (Q1C T) hr (ag (aa 1) (aU 2 (ag (aa 3) ao)))) bV)) (ae (aB (lK.pb (gu (cb pq uk (aa 4) bV (bF _)) (eS (iL (bf (bj (LB T) hr (ag (aa 4) ao))))))) (ae jC ah) ah) (ae (ar (aa 4)) ah)))))
theorem LD:Cl P base T "sides_of" 7 [false,false] xV:=fc ["ahead","at","line"] Bc (T.d 56 rfl) fun S hr=>(ae (aB (dE hr (cf (T.b 6) (PV.rd (aa 0))) aj) (ae jC ah) ah) (ae (aB (cb nu uj (cf (T.b 6) (PV.rd (aa 0))) (jw (T.n 2 rfl) rfl) (bF _)) (ae jC ah) ah) (ae (DX 2 S.nd (bD aw)) (ae (qq (lF rfl (T.b 3) (ai (aa 0) aw)) (gB rfl (pX 3 S.nd (pX 4 S.nd eE))) (ae (IP 2 (bj (LC T) hr (ag (aa 3) (ag (aa 4) (aU 2 (ag (aa 1) ao)))))) ah)) (ae (i7 (i:=2) (ar (aa 2))) ah)))))
theorem Lx:Cl P base T "plan_of" 69 [false,false] xP:=fc ["sides","kept","loops","row_of"] A4 (T.d 57 rfl) fun S hr=>(ae (bZ 2 S.nd (bj (LD T) hr (ag (aa 0) (ag (aa 1) ao)))) (ae (bZ 3 S.nd (bj (Q0n T) hr (ag (aa 0) (ag (aa 2) ao)))) (ae (yT 1 4 S.nd rfl (Or.inl rfl) rfl (N':=["program","given","sides","kept","loops","row_of","at","?acc6"]) ⟨rfl,by kernel_rfl⟩ rfl (bR rfl (T.b 9) (ai (cf (T.b 6) (PV.rd (aa 0))) aw)) eY (iF (by kernel_rfl)) (fun C s H ex=>(jU 6 (Iw ["program","given","sides","kept","loops","row_of","at","?acc6"]))) (fun C s H ex _=>(jR (bf (au (aa 3) (aa 6))))) (fun C s H ex _=>(bj (Lo T) hr (ag (aa 0) (ag (aa 2) (ag (aa 3) (ag (aa 6) ao))))))) (ae (bZ 5 S.nd (bj (LA T) hr (ag (aa 4) ao))) (ae (ar (PF.pv (wB (Qe T) hr (ag (aa 4) (ag (aa 5) (ag (bj (Q1K T) hr (ag (aa 4) (ag (aa 5) ao))) ao)))))) ah)))))
include T in
theorem KY:dP P w K mg base pS 70 (a.f 58) (a.d 58) ["_law_script"] (nM K mg [false] BK):=fo ["_law_script","_law_drawn_here","_law_plan","_law_holds","_law_loop","_law_row","_law_line","_law_last"] AB (T.d 58 rfl) fun S hr=>(ae (bZ 1 S.nd (XG (Lf T) hr (bD (ai (aa 0) (ai aj aw))))) (ae (bZ 2 S.nd (bj (Lx T) hr (ag (PF.pv (iM rfl (T.b 7) Rx (PV.rd (au (aa 1) aj)))) (ag (PF.pv (iM rfl (T.b 7) Rx (PV.rd (au (aa 1) aj)))) ao)))) (ae (DX 3 S.nd sM) (ae (qq (cP (aW (T.f 9) (PV.rd (aa 2)))) (jU 4 S.nd) (ae (bZ 5 S.nd (iP (aW (T.f 16) (PV.rd (aa 2))) (aW (T.f 8) (PV.rd (aa 4))))) (ae (qq (cP (bj (Lg T) hr (ag (aa 4) ao))) (jU 6 S.nd) (ae (aB (lK.pb (gu (FU (aa 6) (aW (T.f 16) (PV.rd (aa 2)))) (eS (dE hr (iP (aW (T.f 16) (PV.rd (aa 2))) (aa 6)) (aa 5))))) (ae (ar lu) ah) ah) (ae (aB (vh hr (uR (uP (aa 3) (iP (aW (T.f 16) (PV.rd (aa 2))) (aa 6)) (nv jz gN aj))) (aa 6)) (ae (ar lu) ah) ah) ah))) (ae (tu 3 (aa 5) (aW (T.f 8) (PV.rd (aa 4)))) ah)))) (ae (bZ 7 S.nd (aF cN eK (cf (T.b 6) (PV.rd (au (aa 1) aj))) aj)) (ae (ar (sQ (Mn (aa 7) (aW (T.f 16) (PV.rd (aa 2)))) (mE (gx (sJ hr.units) yf (uR (uP (aa 3) (iP (aW (T.f 16) (PV.rd (aa 2))) (aa 7)) (nv jz gN aj))) (aa 7) (bF _))))) ah))))))
end
end LW
end
section
set_option Elab.async false
set_option maxRecDepth 100000
set_option maxHeartbeats 4000000
namespace LW
open PySem PySem.Spec PyProof.Rows L2 VP VS
theorem bd:Rf L.d:=by repeat (first|exact True.intro|refine⟨by first|exact U9|exact Va|exact Vb|exact Vc|exact Vd|exact Ve|exact Vf,?_⟩)
theorem bm:Rg L.m:=by repeat (first|exact True.intro|refine⟨by first|exact U9|exact Va|exact Vb|exact Vc|exact Vd|exact Ve|exact Vf,?_⟩)
theorem Kr{P:Program}{w:World}{K:Frag}{mg:MG}{base:Heap}{a:Ei}(T:Txt L w K mg a):dP P w K mg base pS 70 (a.f 58) (a.d 58) ["_law_script"] (Uz K):=(KY T).imp fun vs H Q E ⟨p,ns,e,hs,hl,q⟩=>by subst e;refine⟨rfl,H,[Z ns],aL.refl _,⟨.lst hs (aK.ints ns),trivial⟩,by simp[oT,dF],?_⟩;rw[Kq];exact fun F' H' v _ hv=>by cases hv;exact q H'
theorem all_mk{l:W.OpenLaw}{w:World}{K:Frag}{mg:MG}{fa:Addr}(WT:mg "law" = some (.ref fa))(E:∃a:Ei,Txt L w K mg a):NK l w K mg fa 70 "_law_script" := by obtain⟨a,T⟩:=E;have D:=T.d 58 rfl;have e:=WT.symm.trans D.mg;cases e;exact⟨_,D.Ub fun _ _ _ _ _ _ _ _=>.of_eq rfl,fun base=>Kr T⟩
end LW
structure PySem.W.Fast:Prop where(tw17007603884906645840 tw9184362953816738377 tw5247309287674607587 tw4090491471794102804 tw13267851437687703622 tw11376250605706282243 tw15576812338586186200 tw2910198492251497938 tw2363872246522682034 tw16966581360610496522 tw9563154578956045714 tw16634709547525043155 tw11101597191603574559 tw9090414544829470010 tw18140445809542149937 tw9623455777595267441 tw4349863910657846890 tw13843135712522594693 tw1508933709985826959 tw5517378485168436221 tw13545097806900493876 tw11333650958129093251 tw17739765228810209999 tw7691372816332746716 tw14821090602721284052 tw12949568865223555143 tw659487088392421103 tw13726078397790797950 tw18229873727862870222 tw576458825277034550 tw16478009892751549846 tw7939383271065408537 tw11999645598486929768 tw10522485290618695795 tw1194246704486643078 tw3978965926718631733 tw5904997658774670146 tw9962151042307223319 tw11173677192545087572 tw14135704978053762497 tw11338349951434551820 tw9989753789399132585 tw9336647522460224106 tw9321128459353582217 tw11090364584644492002 tw15300566893165179654 tw11186763799452112115 tw12777366823970653813 tw15664353215577301684 tw14827981181762785346 tw9180485516387750928 tw12841357336406263696 tw12594253185120743535 tw12365314408505668054 tw11606596132759777896 tw11752048675721201001 tw4794409815768454435 tw15306850082483008221 tw14521558479904664415 tw15399165928708558960 tw1117413555491594448 tw14801182449090529617 tw11748079353821650344 tw5947721505612803432 tw5803256782691889794 tw3462697889520605664 tw13672074777759719502 tw16612680878916709802 tw2847157971767434686 tw11979759311815957356 tw7839012279908483846 tw18307682359141189414 tw16890444058085207994 tw15941502774675342989 tw4016647622778404173 tw14090019221083379541 tw15728896377700874211 tw3507352521774583251 tw4941904770735176087 tw15192267170241599607 tw17412373219031535983 tw13635793254208804807 tw11244647852422480244 tw13442656613419339298 tw18107148095977908087 tw1421402162964850655 tw12568744749154361446 tw15247539813304155445 tw11002675688472753808 tw371267907757725008 tw12961932053714825871 tw18295964458654232276 tw5545971190920673872 tw16167841630441243482 tw10734017917176475563 tw616942617507159650 tw6068846946159822912 tw14916376372764706082 tw14365879774086967012 tw7551404680330871673 tw7061970450768066325 tw15045735364531304437 tw15727080407235393763 tw605788959067932634 tw5014832057003869 tw6320007145062737857 tw9425601640380214887 tw6510026738796837717 tw783966845046816019 tw11253039615606540854 tw16337663108497638376 tw8431726936456318247 tw9003530526091038425 tw13388703436338998458 tw8857697726789932758 tw6495413109609170969 tw5828760983633122769 tw8742477165319518343 tw2707558785668742132 tw1719081276335889729 tw1304770765761912829 tw370273047871629872 tw18206086914640534546 tw13331972684882047716 tw1678678117696875494 tw15931152250975868132 tw1609518877235004971 tw1339625398140467583 tw3978235895521668213 tw10544003569499012215 tw4494846766350806172 tw11815980108125007087 tw1171248468696240644 tw9796581652224160520 tw3374294681208469296 tw4430933421369124971 tw4034011242850421748 tw3746153349962570355 tw14009423710769331988 tw6860859843243050638 tw15062761666660501279 tw17676792698109794496 tw6173365972857133690 tw9744451000746124671 tw1195633939459583105 tw13591443055548870351 tw4483060743191374556 tw1842714383129145651 tw12253628152992444209 tw5967479964107956090 tw6932226579707756965 tw17039348831447874553 tw7542566844406559087 tw7100146016326677476 tw6742299679307459284 tw4573347134847891573 tw5003619023600473853 tw879001400029774554 tw5928470507753724398 tw10557244209097928809 tw11007889507769912911 tw16235278059330327954 tw8022900090096264592 tw636436114159515482 tw12223801024050906924 tw771143817775120163 tw14701309133744274949 tw15706214632827467029 tw7958372615974742120 tw12216814896185868909 tw8629024159093589243 tw9008474523444637550 tw23455803077817263 tw8836966843686549648 tw2101521400510931121 tw6610359440180871827 tw6640683046486693421 tw3684295928219456829 tw3942409704323733346 tw12482689757323422511 tw15123250129957999489 tw8305384052199489340 tw17575053245200737672 tw11029221239108758988 tw10669428331407299162 tw3129398874433387992 tw11465042638876052952 tw3717871878995741928 tw14174103058905137656 tw800444631803972274 tw17982672601646418256 tw2401384450744166395 tw16354873419188246015 tw18045477628600939479 tw6017634696893631869 tw12134268291448977331 tw3676156697188639491 tw12670798137100297329 tw9761485278223798691 tw10447906147159832584 tw2102601613799156672 tw11622766325077300596 tw2227346088736441994 tw456203977366575549 tw227992174984054603 tw10458308523528830285 tw16303958752378101455 tw4416355676854151028 tw6387316408549022782 tw12984811087506237274 tw13739177116001716861 tw871296820247567897 tw17574436626632097884 tw3101429411050494645 tw1748070217317427109 tw4060021445490770591 tw3048694715718563628 tw5060959550952701785 tw7740466230028924813 tw10872802856895473313 tw5731771557578085786 tw8375332262383343827 tw13917018879316494187 tw14746737704189264507 tw17019596002167449283 tw7760391654568825591 tw15318988843300916055 tw7396103087200386398 tw7810901228547572824 tw6506711593968194289 tw3004211194281692851 tw6580810724825934366 tw5216046158567772173 tw15582455483868564309 tw923759229709739229 tw13307022443831533390 tw9087928780420862478 tw6217816349063633286 tw3023077173572308777 tw12508481278569702899 tw5606751086549097175 tw10198843566350610502 tw9944942570659963920 tw17904266513225880174 tw13870210692871993935 tw13583629388701168375 tw8038800915028870342 tw11194881285259813007 tw937507937361458351 tw3766082981195694287 tw11680178863218275610 tw3397657170503296292 tw11058175423506452392 tw14400333816990318760 tw13268832567339660679 tw15701756632100650988 tw9435056360565302151 tw14499366426628559405 tw5181388041079780601 tw15426473959287236714 tw3470617330860355494 tw16102334338580678848 tw3280308306346817352 tw9879109639653432860 tw6706519797790212361 tw285881453835821874 tw9804459790000282633 tw18346274271020639724 tw14690418031140608283 tw9700973389110439151 tw7112382224441985988 tw13459523692975656809 tw12343761782121258652 tw9530647440934478893 tw10970366820118566385 tw7951885501646639444 tw8099451821760275711 tw7856735679096274035 tw4488849433810388050 tw13323195408719341221 tw1190363236910926763 tw6440880997085891359 tw1222143282361021740 tw5251728273404794671 tw6345526044930170830 tw17366336391265909634 tw16275174967471258420 tw9088458658577722035 tw6997762884528007854 tw12788699880379287134 tw7550428095644881998 tw16598720025549627431 tw3625774632510689754 tw14617598186033131880 tw3068549606128583323 tw2474384704094487685 tw5768880039902802551 tw10466115692234189834 tw15669806706270955863 tw13261299359132979506 tw12637655219671714275 tw82532447732654970 tw3120238915910573949 tw15399741385442738987 tw3910500369948669895 tw2585783891813485230 tw16006782706589966474 tw4565815065791340747 tw7753312756154130548 tw18418593045959713860 tw4507378539328640622 tw4542163929614481787 tw13844418037527785522 tw5643882778530842035 tw184366475356049629 tw286982476918978140 tw1289604719102610503 tw5072157672524660149 tw4868602106948412521 tw14016799151017396214 tw12560328456825338123 tw11815802677309798869 tw10345135295339250824 tw11422757187876959966 tw11190327665657481310 tw1134285006029715502 tw5593803153826501278 tw9393462996220743836 tw9213942901960324068 tw7973304480267565901 tw12230026548529393258 tw16704463253761805511 tw8930540694427537774 tw7110534898594336462 tw13982485781872879318 tw8963049448252397763 tw13395979803788951184 tw15252372208556392610 tw17284585028113331192 tw6090397099405601731 tw2285670891506584504 tw7840330854423831472 tw5761565912172666880 tw2393335442946606658 tw12613229158124749898 tw1787286498146399944 tw13429144333045388388 tw11153988542360692059 tw13467790929654748680 tw14225190799985469519 tw11575886181215801535 tw14444295989891678004 tw16356007972552806704 tw4017941721936158469 tw5817080766642776759 tw11960282660169522631 tw17678828454601639729 tw4004811130623522081 tw7895896764430573978 tw9363233782665024748 tw9766814071975223755 tw9606908165676192269 tw17929301108007642716 tw3587403713136733885 tw438087693052347628 tw801575608254584643 tw10599452196618846317 tw14496805522758319125 tw5866858215359294445 tw12939436552826539138 tw9572553109246361030 tw9619019200426861695 tw15628250522699161616 tw14929349482300140890 tw16977356493531928948 tw1398788899959003749 tw11121906714888242602 tw11712703337857784483 tw9699393618762739295 tw16318783064607161266 tw4285996934767389212 tw2890681634680936889 tw9470701287606758666 tw11756754092664204672 tw9255852218577166095 tw9280227738023225436 tw12327280952959870667 tw6655252685055369353 tw1093194093209788582 tw12982821038499697224 tw13010610558669290655 tw12339701355368073557 tw18197453260381281651 tw586185676146003909 tw9807733271314673721 tw16454577943105248260 tw13549634993672709519 tw1353918465160396766 tw5264808002473967444 tw14641490871809540803 tw1854030102258555269 tw14512619283350398639 tw13615825571331071727 tw18219579032712021945 tw16075031894801823201 tw14160625148633460238 tw11376824350992080124 tw15268414795047585734 tw9510935535365020524 tw6022999651521095955 tw13004608509499043737 tw1484295891705176211 tw5879089807423773270 tw294425446222852346 tw8604975503678696779 tw8439316405591418301 tw17047342458004648771 tw2320470794896681525 tw17858772203233034816 tw375896817342292088 tw7350024651164652839 tw1400171641747027881 tw12802040759586113132 tw10764399094906021193 tw5740797964618996704 tw16498954596689019985 tw5737726085329143993 tw11661788291889155791 tw1756656204272485111 tw14363532683202176196 tw15017513425215653206 tw3560398242858551706 tw5752604799546029949 tw14693743523204434298 tw6894866155136801041 tw16076308775032693977 tw14409497400791224560 tw10496720944344138024 tw17061200160938393918 tw11667402418631800244 tw13196280060782291319 tw7893635777422678495 tw12177735033797559068 tw9535883245799857276 tw13707023321188508969 tw12067601408053442786 tw7731338254843920622 tw12054505227722013134 tw759057053957016532 tw6237121937800553128 tw9483212430237241535 tw11697487657992326065 tw15378174145691780173 tw17505259975043659400 tw14663496931454692917 tw1122813663561088969 tw8948117470408732937 tw17122198874912175321 tw11090132312151236674 tw7712747706779875563 tw16938480795767622749 tw6568351677711707925 tw4514879270918316528 tw442529148468725120 tw16012278403085077925 tw13597767715502560813 tw16228095785916499674 tw16284427181094557771 tw4593700627649806545 tw3608244854322907163 tw16792887636362944268 tw15733245346388077458 tw16824413507579412668 tw8204477568717336942 tw120846380935539105 tw14528020541976725549 tw7292051210361537632 tw12010265726763033134 tw11006467348539720348 tw14660743015707428716 tw9279292860844188527 tw9561297218265440235 tw159239996874643985 tw13896738514695864654 tw6825426972050977958 tw15043733260702631101 tw13862455570282446125 tw10134052675796930075 tw13628872066693805249 tw13171717594461911951 tw9775817079645511438 tw4560568788958681997 tw13962810720723883135 tw10526626278330955250 tw4751745907985702176 tw7874530072786601454 tw15648757856925691163 tw5982275916868887907 tw17526871383323876103 tw3538175515026860834 tw7157391788955070592 tw10293529689536776046 tw17066893215429104355 tw12161729015464416932 tw14935291553875549203 tw11024007097660162415 tw16929080150800596437 tw4488139951082025555 tw12220073929463324348 tw2030733535052717185 tw1701480767613788169 tw13776943380660403443 tw2253505765042240243 tw18048597440579944822 tw18321036004296600582 tw15391683523965625467 tw8252883825938403229 tw15582534077473146892 tw714132978678503446 tw9668523801018366947 tw10996210676926117997 tw5829567130763559017 tw11233239608925021026 tw4327746385149099293 tw1746013820713616557 tw15443162714622096997 tw15405961329956772199 tw7870671277598326874 tw1645296063724123243 tw13595325063538935415 tw5337672157326965127 tw15212787966210703501 tw5755008341011789343 tw1342359034978918271 tw2710291953033412142 tw5554847300133450715 tw2159341791513065176 tw3045974067062172943 tw14746071888379708354:True)
open PySem PySem.W PyProof.Rows
set_option maxRecDepth 100000 in
set_option maxHeartbeats 0 in
theorem PySem.Challenge.cw_loomarrays_k20_whole_no_row_is_lost_holds : PySem.Challenge.rw_loomarrays_k20_whole_no_row_is_lost.Holds := by
 w_on;o_law;k_head;(case hw=>w_witness2)
 k_fill
 refine VS.walk63 (l:=PySem.Challenge.rw_loomarrays_k20_whole_no_row_is_lost) 70 rfl rfl (fun w h Y=>PySem.W.kIn_of Y) ?F
 intro w mg fa h KX G OQ
 refine' LW.all_mk OQ (VS.Q1r KX G (by kernel_rfl) LW.bd LW.bm ?zhb ?zhn ?zht ?zhd ?zhc ?zhm ?zhf ?zha ?zhi ?zhj ?zsp ?ztk)
 case zsp=>k_is
 case ztk=>k_is
 case zhb=>repeat (first | exact True.intro | refine ⟨by k_is,?_⟩)
 case zhn=>repeat (first | exact True.intro | refine ⟨⟨_,by k_is,⟨_,rfl⟩⟩,?_⟩)
 case zhd=>repeat (first | exact True.intro | refine ⟨⟨_,by k_is,⟨⟨_,_,_,_,_,_,_,_,_,by k_is,by k_is⟩,by k_is⟩⟩,?_⟩)
 case zhm=>repeat (first | exact True.intro | refine ⟨⟨_,_,by k_is,by k_is,by k_is,⟨⟨_,_,_,_,_,_,_,_,_,by k_is,by k_is⟩,by k_is⟩,by k_is,by k_is,by first | (intro z;cases z;done) | exact fun _=>⟨by k_is,by k_is,by k_is⟩⟩,?_⟩)
 case zhc=>repeat (first | exact True.intro | refine ⟨⟨_,by k_is,⟨by k_is,by k_is,by k_is,by k_is⟩⟩,?_⟩)
 case zha=>repeat (first | exact True.intro | refine ⟨⟨_,by k_is,⟨by k_is,by k_is,by k_is,by k_is⟩⟩,?_⟩)
 case zhf=>repeat (first | exact True.intro | refine ⟨by repeat (first | exact True.intro | refine ⟨⟨_,by k_is,by k_is⟩,?_⟩),?_⟩)
 case zhi=>repeat (first | exact True.intro | refine ⟨⟨_,by k_is,by repeat (first | exact True.intro | refine ⟨⟨_,by k_is,by kit_is⟩,?_⟩)⟩,?_⟩)
 case zhj=>repeat (first | exact True.intro | refine ⟨⟨_,_,by k_is,by k_is,by repeat (first | exact True.intro | refine ⟨⟨_,by k_is,by kit_is⟩,?_⟩)⟩,?_⟩)
 case zht=>repeat (first | exact True.intro | refine ⟨⟨_,_,_,by k_is,by decide,by k_is,by k_keys,by repeat (first | exact True.intro | refine ⟨⟨_,by k_is,VS.Q2A (by k_is) (by decide) (by repeat (first | exact .nil | refine .cons ⟨_,rfl⟩ ?_))⟩,?_⟩),by repeat (first | exact True.intro | refine ⟨by k_is,?_⟩)⟩,?_⟩)
end
