import PyProof.Rows.All
import KE.KStateDown
import KE.RegKIsAll
import KE.KRevIter
import KE.KDictOf
import Wide.Line
import Open.Line
import OpenK.KLine
import PyProof.Rows.KernelRfl
import PySem.Challenge.RW_loomarrays_k19_a_loop_for_each_kept_line
set_option Elab.async false
open PySem
set_option linter.defProp false
abbrev Yw(x:PySem.Str):Prop:=(x == ("__debug__" : PySem.Str))=false
abbrev Xj(x:PySem.Str):Prop:=(x == ("__classdict__" : PySem.Str))=false
abbrev UI:=PySem.Value->PySem.Shared->Prop
abbrev P4:=List (PySem.Addr×PySem.Obj)
def WL:=@Heap.get?_push_of_some
def PQ:=@Heap.get?_push_size
def Ub:=@decide_eq_true
def Vy:=@decide_eq_false
def QC:=@List.mem_cons_of_mem
def QI:=@List.mem_cons_self
def Np:=@List.mem_of_getElem?
def QR:=@List.getElem?_eq_getElem
def SE:=@List.getD_eq_getElem?_getD
def US:=@Nat.lt_of_lt_of_le
def MS:=@List.getElem?_append_left
def Jv:=@List.mem_map_of_mem
def Iv:=@List.getElem?_eq_none
def BA:=@Int.toNat_natCast
theorem RM{A:Sort _}{a:A}:a=a:=Eq.trans rfl rfl
set_option compiler.extract_closed false
noncomputable section
abbrev W3:=List PySem.Expr
abbrev UL:=Option PySem.Addr
abbrev Xr:=List PySem.Addr
abbrev UU:=Option PySem.Value
abbrev RU:=List PySem.Value
abbrev PU:=List PySem.Str
abbrev HE:=List (PySem.Str×Bool)
abbrev Pq:=Option Int
abbrev WK:=List Bool
abbrev UA:=List Nat
abbrev R4:=List Int
abbrev UH:=List (Nat×Nat)
abbrev WI:=List (Int×Int×Int)
abbrev WU:=List (List Int)
theorem T9{p:Prop}(h:p:=by lia):p:=h
theorem G9{p:Prop}(h:p:=by simp):p:=h
theorem UC{p:Prop}(h:p:=by kernel_rfl!):p:=h
theorem Uk{p:Prop}(h:p:=by omega):p:=h
theorem Oi{p:Prop}(h:p:=by first|exact Or.inl rfl|exact Or.inr (Or.inl rfl)|exact Or.inr (Or.inr rfl)):p:=h
theorem NP{p:Prop}(h:p:=by first|exact .inl rfl|exact .inr rfl|assumption):p:=h
theorem Hm{p:Prop}(h:p:=by first|exact Or.inl rfl|exact Or.inr rfl):p:=h
theorem RH{p:Prop}(h:p:=by first|decide|lia):p:=h
theorem MQ{p:Prop}(h:p:=by with_unfolding_all rfl):p:=h
theorem Bz{p:Prop}(h:p:=by intro _;rfl):p:=h
theorem OM{p:Prop}(h:p:=by intro _ _;rfl):p:=h
theorem Eb{p:Prop}(h:p:=by decide +kernel):p:=h
def U0:=@wpAny_bind
def Qo:=@wpAny_pure
def Uj:=@Nat.le_refl
def RD:=@Option.some.inj
def UG:=@Heap.lt_size
def Tv:=@List.size_toArray
def Ge:=@if_pos
def Po:=@List.map_cons
def UE:=@if_neg
def NU:=@Bool.and_eq_true
def Sr:=@List.getElem?_append_right
def Vz:=@Nat.ne_of_lt
def H0:=@List.getElem?_set_ne
def UR:=@List.length_map
def xP:=@List.getElem?_set_self
def YY:=@PyProof.Rows.callWith_type1
def BC:=@Bool.false_ne_true
def rE:=@Heap.get?_update_other
def MC:=@wpAny_newObj_type
def GH:=@List.length_range
def Xt:=@wpAny_field
def AG:=@mem_of_lookup
def W5:=@Ne.symm
def IA:=@Nat.zero_le
def xU:=@List.length_append
def O9:=@List.mem_append_right
def GF:=@List.getElem?_map
def LK:=@List.length_cons
def Sv:=@List.getElem?_take_of_lt
def vT:=@Heap.get?_update_self
def DT:=@Nat.le_trans
def A0:=@of_decide_eq_true
def O4:=@wpAny_callSpecial?_slot
def xM:=@wpAny_call_entry
def Mw:=@wpAny_truthy_bool
def Hb:=@builtinLookup_eq_fast
def ML:=@wpAny_seqItems
def K8:=@wpAny_Call_Name_kw
def Ng:=@Nat.pow_le_pow_right
def nJ:=@Nat.lt_irrefl
def Xc:=@wpAny_pyIter_list
def Bo:=@F.plain_max_loop
def U7:=@List.nil_append
def E3:=@List.map_append
def SU:=@wpAny_of_eq
def MT:=@Heap.size_push
def Ju:=@List.mem_of_mem_drop
def MY:=@Around.under_plainId
def uI:=@codeAny_builtin
def IP:=@List.replicate_succ
def Nx:=@sizeLine_eq
def Ss:=@List.getElem?_take_eq_none
def A7:=@wpAny_specialOf
def HL:=@typeLookup_type
def Vk:=@List.of_mem_zip
def ON:=@Nat.le_succ
def E7:=@Calls.spliced_nil
def Nf:=@List.mem_of_mem_take
def M8:=@F.slot_tuple_iterator_next
def RX:=@wpAny_mono
def OP:=@wpAny_holding
def OQ:=@plainId_quiet
def OU:=@PyProof.Rows.slot_tuple_getitem
def M1:=@List.length_take
def IQ:=@List.getElem_mem
def Hl:=@List.getElem?_replicate
def S6:=@List.map_map
def Oc:=@wpAny_setField_rec
def xO:=@wpAny_pyIter_tuple
def Wr:=@Obj.data_mapFields
def Bg:=@Calls.spliced_cons
def Ip:=@wpAny_passesOwn
def OX:=@List.append_nil
def AB:=@List.any_cons
def OW:=@List.flatten_cons
def Ru:=@isSubtype_type
def FJ:=@Nat.lt_succ_self
def WC:=@Nat.le_max_right
def vg:=@Nat.le_add_right
def FA:=@List.map_reverse
def Mr:=@List.getElem?_range
def TH:=@List.all_cons
def QP:=@wpAny_updateSeq
def E0:=@wpAny_letGo
def Js:=@wpAny_typeOf
def El:=@F.slot_zip_next
def FH:=@List.length_filter_le
def QS:=@PyProof.Rows.boot_list
def K9:=@wpAny_rule
def Ll:=@call_meets
def QL:=@wpAny_isInstance
def rM:=@List.getElem_inj
def rO:=@List.ext_getElem
def LZ:=@wpAny_standAt
def DY:=@wpAny_attempt
def Lb:=@Paired.length
def Ir:=@Nat.le_max_left
def OL:=@List.foldl_cons
def Io:=@Bool.or_eq_true
def xg:=@codeAny_mono
def AN:=@Nat.lt_trans
def tN:=@List.map_nil
def vM:=@wpAny_tryCatch
def BS:=@wpAny_setField
def AR:=@Int.emod_lt_of_pos
def Oo:=@F.plain_reversed_new
def Ml:=@F.args_object_init_2
def AH:=@List.drop_eq_getElem_cons
def QA:=@W.mg_of
def Lm:=@wpAny_assign_Name
def AI:=@Nat.lt_succ_of_lt
def Au:=@List.reverse_cons
def DU:=@List.ext_getElem?
def Xd:=@F.args_tuple_mul_2
def NC:=@F.args_tuple_add_2
def RY:=@AutoSeq1.wpAny_loadPart'
def HW:=@List.filter_cons
def Mj:=@List.all_reverse
def N3:=@F.entry_tuple_mul
def DW:=@F.entry_tuple_add
def rz:=@W.callWith_K
def AE:=@Nat.zero_add
def Mv:=@Nat.ne_of_gt
def Jr:=@F.slot_tuple_mul
def D8:=@F.slot_tuple_add
def EN:=@F.entry_max_loop
def yj:=@List.take_of_length_le
def xG:=@wpAny_ite_false
def Mf:=@exec_Assign_Name_used
def Ft:=@Obj.isFreed_of_fields
def IB:=@List.getElem?_reverse
def W2:=@Int.mul_nonneg
def Nk:=@wpAny_updateSeq_pair
def BE:=@List.filterMap_cons
def BV:=@Heap.SameBut.update
def Td:=@wpAny_onRaise
set_option autoImplicit true
section
set_option Elab.async false
set_option linter.all false
set_option maxRecDepth 100000
namespace L2
open PySem PySem.Spec PyProof.Rows
abbrev Key:=Sum Int Str
def sQ:Key->Value->Bool|.inl k,v=>Value.isInt k v|.inr x,v=>Value.isStrOf x v
def Wy(w:World):Key->Int|.inl k=>hashInt k|.inr x=>hashStr w x
theorem bX:∀{k:Key}{v:Value},sQ k v=true->(∃i t,k=Sum.inl i/\v=Value.int i t)\/(∃x t,k=Sum.inr x/\v=Value.str x t)|.inl i,v,h=>by obtain⟨t,e⟩:=Value.isInt_shape (k:=i) (v:=v) h;exact .inl ⟨i,t,rfl,e⟩|.inr x,v,h=>by obtain⟨t,e⟩:=Value.isStrOf_shape (x:=x) (v:=v) h;exact .inr ⟨x,t,rfl,e⟩
theorem Q13(i:Int)(t:Tok):sQ (.inl i) (.int i t)=true:=by simp[sQ,Value.isInt]
theorem A1(x:Str)(t:Tok):sQ (.inr x) (.str x t)=true:=by simp[sQ,Value.isStrOf]
theorem Q2W(a b:Int):decide ((Sum.inl a:Key)=Sum.inl b)=(a == b):=by by_cases e:a=b;subst e;simp;have h:¬(Sum.inl a:Key)=Sum.inl b:=fun q=>e (Sum.inl.inj q);rw[Vy h];exact(beq_eq_false_iff_ne.mpr e).symm
theorem My(a b:Str):decide ((Sum.inr a:Key)=Sum.inr b)=decide (a=b):=by by_cases e:a=b;subst e;simp;have h:¬(Sum.inr a:Key)=Sum.inr b:=fun q=>e (Sum.inr.inj q);rw[Vy h,Vy e]
theorem Q16(a:Int)(b:Str):decide ((Sum.inl a:Key)=Sum.inr b)=false:=Vy (fun q=>nomatch q)
theorem Mx(a:Str)(b:Int):decide ((Sum.inr a:Key)=Sum.inl b)=false:=Vy (fun q=>nomatch q)
def fU(prog:Program)(w:World):PySem.KeyKind prog w Key where
 is:=sQ
 hash:=Wy w
 inj:=fun v a b ha hb=>by
  rcases bX ha with ⟨i,t,rfl,rfl⟩|⟨x,t,rfl,rfl⟩
  rcases bX hb with ⟨j,u,rfl,e⟩|⟨y,u,rfl,e⟩
  injection e with e1 _;rw[e1];exact nomatch e;rcases bX hb with ⟨j,u,rfl,e⟩|⟨y,u,rfl,e⟩
  exact nomatch e;injection e with e1 _;rw[e1]
 byValue:=fun k v h=>by rcases bX h with ⟨i,t,rfl,rfl⟩|⟨x,t,rfl,rfl⟩<;>rfl
 pyHash:=fun hv h=>by
  rcases bX hv with ⟨i,t,rfl,rfl⟩|⟨x,t,rfl,rfl⟩
  exact wpAny_pyHash_int h;exact wpAny_pyHash_str h
 eqBool:=fun hu hv h=>by
  rcases bX hu with ⟨i,t,rfl,rfl⟩|⟨x,t,rfl,rfl⟩
  rcases bX hv with ⟨j,u,rfl,rfl⟩|⟨y,u,rfl,rfl⟩
  rw[Q2W] at h;exact wpAny_eqBool_int h;rw[Q16] at h;exact SeqAt.EqAt.int_str i t y u _ _ _ _ h;rcases bX hv with ⟨j,u,rfl,rfl⟩|⟨y,u,rfl,rfl⟩
  rw[Mx] at h;exact SeqAt.EqAt.str_int x t j u _ _ _ _ h;rw[My] at h;exact wpAny_eqBool_str h
 «strs» := fun k x t v h=>by
  rcases bX h with ⟨i,u,rfl,e⟩|⟨y,u,rfl,e⟩
  exact nomatch e;injection e with e1 _;subst e1;cases v<;>rfl
theorem vS(prog:Program)(w:World)(i:Int)(t:Tok):(fU prog w).is (.inl i) (.int i t)=true:=Q13 i t
theorem Q11(prog:Program)(w:World)(x:Str)(t:Tok):(fU prog w).is (.inr x) (.str x t)=true:=A1 x t
inductive V where
 |bC|bl (b:Bool)|int (i:Int)|str (x:Str)|Ua (b:Array UInt8)|Ui (b:UInt64)|ref (a:Addr)|ty (n:String)
 deriving DecidableEq
abbrev O6:=List V
def RelV:V->Value->Prop|.bC,u=>u=Value.none|.bl b,u=>u=Value.bool b|.int i,u=>∃t,u=Value.int i t|.str x,u=>∃t,u=Value.str x t|.Ua b,u=>∃t,u=Value.bytes b t|.Ui b,u=>∃t,u=Value.float b t|.ref a,u=>u=Value.ref a|.ty n,u=>u=Value.type n
abbrev Vals:O6->RU->Prop:=Paired RelV
theorem Vals.length(r:Vals xs us):xs.length=us.length:=Lb r
theorem Vals.get:∀{xs:O6}{us:RU}{i:Nat}{x:V},Vals xs us->xs[i]?=some x->∃u,us[i]?=some u/\RelV x u|_,_,_,_,.nil,e=>by simp at e|_,_,0,_,.cons r _,e=>by simp at e;subst e;exact⟨_,rfl,r⟩|_,_,i+1,x,.cons _ t,e=>by obtain⟨u,h1,h2⟩:=Vals.get (i:=i) (x:=x) t (by simpa using e);exact⟨u,by simpa using h1,h2⟩
theorem Vals.set(r:RelV x u):∀{xs:O6}{us:RU}(i:Nat),Vals xs us->Vals (xs.set i x) (us.set i u)|_,_,_,.nil=>.nil|_,_,0,.cons _ t=>.cons r t|_,_,i+1,.cons q t=>.cons q (Vals.set r i t)
theorem Vals.append:∀{xs ys:O6}{us ws:RU},Vals xs us->Vals ys ws->Vals (xs++ys) (us++ws)|_,_,_,_,.nil,s=>s|_,_,_,_,.cons r t,s=>.cons r (Vals.append t s)
theorem Vals.take:∀{xs:O6}{us:RU}(n:Nat),Vals xs us->Vals (xs.take n) (us.take n)|_,_,0,_=>.nil|_,_,_+1,.nil=>.nil|_,_,n+1,.cons r t=>.cons r (Vals.take n t)
theorem Vals.drop:∀{xs:O6}{us:RU}(n:Nat),Vals xs us->Vals (xs.drop n) (us.drop n)|_,_,0,r=>r|_,_,_+1,.nil=>.nil|_,_,n+1,.cons _ t=>Vals.drop n t
def kO:Option V->UU->Prop|some v,some u=>RelV v u|none,none=>True|_,_=>False
def KV{κ:Type}:List (κ×V)->List (κ×Value)->Prop:=Paired fun(p:κ×V)(q:κ×Value)=>p.1=q.1/\RelV p.2 q.2
def kV:Key->V|.inl i=>.int i|.inr x=>.str x
inductive HO where
 |lst (xs:O6)|tup (xs:O6)|dK (aO:List (Key×V)) (ep:Nat)|dT (aO:List (List Key×V))|set (S:Int->Bool) (n:Nat)|ins (C dx:Addr) (fs:List (Str×V))|own (x:Addr)|xd (fs:List (Str×V))|met (f x:Addr)|W0 (lo hi:Int)|FX (o:Obj) (u:HO)|OZ (ps:Array Value)|ext (φ:Heap->Prop)
abbrev Hp:=Addr->Option HO
def upd(H:Hp)(a:Addr)(o:HO):Hp:=fun b=>if b=a then some o else H b
theorem aJ:upd H a o a=some o:=by unfold upd;rw[Ge rfl]
theorem aQ(h:b≠a):upd H a o b=H b:=by unfold upd;rw[UE h]
theorem bz{H:Hp}{a b:Addr}{o:HO}(h:H a=some o)(h':H b=none):a≠b:=by intro e;subst e;rw[h] at h';cases h'
def lR(h:Heap)(a:Addr)(items:Array Value):Prop:=∃o,h.get? a=some o/\o.cls=.type "tuple" /\ (∃n,o.data=.seq items n)/\o.dict=none
theorem lR.tup(x:lR h a items):IsTup h a items:=let ⟨o,ho,hc,hd,_⟩:=x;⟨o,ho,hc,hd⟩
theorem lR.lt(x:lR h a items):a<h.objs.size:=let ⟨_,ho,_⟩:=x;UG ho
theorem lR.new(h:Heap)(items:Array Value):lR (h.push {cls:=.type "tuple",data:=.seq items}) h.objs.size items:=⟨_,PQ _ rfl,rfl,⟨_,rfl⟩,rfl⟩
section
variable(P:Program)(w:World)
def dw(H:Hp)(h:Heap)(a:Addr):HO->Prop
|.lst xs=>xs.length<=sizeLine/\∃(aD:RU)(n:Nat),Vals xs aD/\h.get? a=some {cls:=.type "list",data:=.seq aD.toArray n}|.tup xs=>xs.length<=sizeLine/\∃aD:RU,Vals xs aD/\lR h a aD.toArray|.dK aO ep=>aO.length<=sizeLine/\(a == sysModules)=false/\∃vs,KV aO vs/\h.DictAt (fU P w) a vs ep|.dT aO=>aO.length<=sizeLine/\(a == sysModules)=false/\∃xs:List (List Key×Addr×Value),
 Paired (fun(p:List Key×V)(q:List Key×Addr×Value)=>p.1=q.1/\H q.2.1=some (.tup (p.1.map kV))/\RelV p.2 q.2.2) aO xs /\
 ∃o es ep,h.get? a=some o/\o.ExactDict/\o.data=.dict es ep/\es.toList=xs.map (entryOfKey (tupleKind (fU P w)))/\(xs.map (·.1)).Nodup
|.set S n=>h.SetOf (intKind P w) a S n|.ins C dx fs=>H dx=some (.own a)/\fs.length<=1000/\dx≠a/\h.get? a=some (W.instObj C dx)/\∃mA,h.Ns1 dx mA/\(∀f,kO (fs.lookup f) (mA f))/\PySem.Within mA (fs.map (·.1))|.own _=>∃o,h.get? a=some o|.xd fs=>∃mA,h.Ns1 a mA/\∀f,kO (fs.lookup f) (mA f)|.W0 lo hi=>∃t u v,h.get? a=some {cls:=.type "range",data:=.fields #[.int lo t,.int hi u,.int 1 v]}|.FX o u=>h.get? a=some o/\dw H h a u|.OZ ps=>h.get? a=some {cls:=.none,data:=.fields ps}|.met f x=>h.get? a=some (W.methodObj (.ref f) (.ref x))|.ext φ=>φ h/\(∃o,h.get? a=some o)/\∀h1 h2:Heap,φ h1->(∀o,h1.get? a=some o->h2.get? a=some o)->φ h2
def nV(H:Hp)(h:Heap):Prop:=∀a o,H a=some o->dw P w H h a o
end
section
variable{P:Program}{w:World}{H H':Hp}{h h':Heap}{a:Addr}{o:HO}
theorem dw.lt(x:dw P w H h a o):a<h.objs.size:=by cases o with|lst xs=>obtain⟨_,_,_,_,e⟩:=x;exact UG e|tup xs=>obtain⟨_,_,_,p⟩:=x;exact p.lt|dK aO ep=>obtain⟨_,_,_,_,o,_,e,_⟩:=x;exact UG e|dT aO=>obtain⟨_,_,_,_,o,_,_,e,_⟩:=x;exact UG e|set S n=>obtain⟨o,_,_,_,e,_⟩:=x;exact UG e|ins C dx fs=>obtain⟨_,_,_,e,_⟩:=x;exact UG e|own y=>obtain⟨_,e⟩:=x;exact UG e|xd fs=>obtain⟨_,⟨_,_,_,e,_⟩,_⟩:=x;exact UG e|W0 lo hi=>obtain⟨_,_,_,e⟩:=x;exact UG e|FX ob u=>obtain⟨e,_⟩:=x;exact UG e|OZ ps=>exact UG (show h.get? a=some _ from x)|met f y=>exact UG (show h.get? a=some _ from x)|ext φ=>obtain⟨_,⟨_,e⟩,_⟩:=x;exact UG e
theorem Paired.R9{α β:Type}{F G:α->β->Prop}:∀{Ee:List α}{Ef:List β},Paired F Ee Ef->(∀a b,F a b->G a b)->Paired G Ee Ef|_,_,.nil,_=>.nil|_,_,.cons r t,f=>.cons (f _ _ r) (Paired.R9 t f)
theorem dw.yt(x:dw P w H h a o)(k:∀b u,(b=a\/H b=some (.own a))->h.get? b=some u->h'.get? b=some u)(ho:∀b,H b=some (.own a)->H' b=some (.own a)) (ht:∀b xs,H b=some (.tup xs)->H' b=some (.tup xs)):dw P w H' h' a o:=by induction o with|lst xs=>obtain⟨z,aD,n,r,e⟩:=x;exact⟨z,aD,n,r,k _ _ (.inl rfl) e⟩|tup xs=>obtain⟨z,aD,r,ob,e,c⟩:=x;exact⟨z,aD,r,ob,k _ _ (.inl rfl) e,c⟩|dK aO ep=>obtain⟨z,y,vs,r,ob,es,e,c⟩:=x;exact⟨z,y,vs,r,ob,es,k _ _ (.inl rfl) e,c⟩|dT aO=>obtain⟨z,y,xs,r,ob,es,ep,e,c⟩:=x;exact⟨z,y,xs,Paired.R9 r fun p q z=>⟨z.1,ht _ _ z.2.1,z.2.2⟩,ob,es,ep,k _ _ (.inl rfl) e,c⟩|set S n=>obtain⟨ob,es,ep,t,e,c⟩:=x;exact⟨ob,es,ep,t,k _ _ (.inl rfl) e,c⟩|ins C dx fs=>obtain⟨d,z,ne,e,mA,⟨od,es,ep,e2,c⟩,r⟩:=x;exact⟨ho _ d,z,ne,k _ _ (.inl rfl) e,mA,⟨od,es,ep,k _ _ (.inr d) e2,c⟩,r⟩|own y=>obtain⟨ob,e⟩:=x;exact⟨ob,k _ _ (.inl rfl) e⟩|xd fs=>obtain⟨mA,⟨od,es,ep,e,c⟩,r⟩:=x;exact⟨mA,⟨od,es,ep,k _ _ (.inl rfl) e,c⟩,r⟩|W0 lo hi=>obtain⟨t,u,v,e⟩:=x;exact⟨t,u,v,k _ _ (.inl rfl) e⟩|FX ob u ih=>obtain⟨e,q⟩:=x;exact⟨k _ _ (.inl rfl) e,ih q⟩|OZ ps=>have e:h.get? a=some {cls:=.none,data:=.fields ps}:=x;show h'.get? a=some {cls:=.none,data:=.fields ps};exact k a _ (.inl rfl) e|met f y=>have e:h.get? a=some (W.methodObj (.ref f) (.ref y)):=x;show h'.get? a=some (W.methodObj (.ref f) (.ref y));exact k a _ (.inl rfl) e|ext φ=>obtain⟨p,⟨o,e⟩,st⟩:=x;exact⟨st _ _ p fun o q=>k _ _ (.inl rfl) q,⟨o,k _ _ (.inl rfl) e⟩,st⟩
theorem nV.lt(x:nV P w H h)(e:H a=some o):a<h.objs.size:=(x a o e).lt
theorem nV.fresh(x:nV P w H h)(e:h.objs.size<=a):H a=none:=by cases q:H a with|none=>rfl|some u=>exact absurd (US (x.lt q) e) (nJ _)
theorem nV.kept(x:nV P w H h)(k:∀b u,h.get? b=some u->h'.get? b=some u):nV P w H h':=fun a o e=>(x a o e).yt (fun b u _ q=>k b u q) (fun _ q=>q) fun _ _ q=>q
theorem nV.laid(x:nV P w H h)(k:∀b u,h.get? b=some u->h'.get? b=some u)(hp:h.objs.size<=a)(new:dw P w (upd H a o) h' a o):nV P w (upd H a o) h':=fun b u e=>by have hn:=x.fresh hp;by_cases hb:b=a;subst hb;rw[aJ] at e;cases e;exact new;rw[aQ hb] at e;exact(x b u e).yt (fun c v _ q=>k c v q) (fun c q=>by rw[aQ (bz q hn)];exact q) fun c xs q=>by rw[aQ (bz q hn)];exact q
end
def Rd(H:Hp)(a:Addr)(u:HO):Prop:=H a=some u\/∃o,H a=some (.FX o u)
theorem Rd.ok(r:Rd H a u)(x:nV P w H h):dw P w H h a u:=by rcases r with r|⟨o,r⟩;exact x a u r;obtain⟨_,q⟩:=x a _ r;exact q
def T2:Option HO->Prop|some (.lst _)=>True|some (.dK _ _)=>True|some (.dT _)=>True|some (.set _ _)=>True|some (.ins _ _ _)=>True|some (.ext _)=>True|_=>False
section
variable{P:Program}{w:World}{H:Hp}{h h':Heap}{x e:Addr}{o':HO}
theorem nV.write(ok:nV P w H h)(mu:T2 (H x))(he:e=x\/H e=some (.own x))(k:∀b u,b≠e->h.get? b=some u->h'.get? b=some u)(Pu:∃u,h'.get? e=some u)(new:dw P w (upd H x o') h' x o'):nV P w (upd H x o') h':=fun b u q=>by
 have Sn:∀c y,H c=some (.own y)->c≠x:=fun c y r z=>by subst z;rw[r] at mu;exact mu
 have WS:∀c xs,H c=some (.tup xs)->c≠x:=fun c xs r z=>by subst z;rw[r] at mu;exact mu
 by_cases hb:b=x;subst hb;rw[aJ] at q;cases q;exact new;rw[aQ hb] at q;by_cases LS:b=e;have q':H b=some (.own x):=by rcases he with z|z;exact absurd (LS.trans z) hb;rw[LS];exact z
 rw[q] at q';cases q';obtain⟨v,hv⟩:=Pu;exact⟨v,by rw[LS];exact hv⟩;refine(ok b u q).yt (fun c v hc r=>k c v ?_ r) (fun c r=>by rw[aQ (Sn c b r)];exact r) fun c xs r=>by rw[aQ (WS c xs r)];exact r
 rcases hc with rfl|hc;exact LS;rintro rfl;rcases he with z|z;exact Sn c b hc z;rw[hc] at z;cases z;exact hb rfl
end
structure Un(fs ex:Xr)(H H':Hp)(h h':Heap):Prop where
 keep:∀b o,h.get? b=some o->H b=none->b∉fs->b∉ex->h'.get? b=some o
 slot:∀b o,h.get? b=some o->H b=none->b∈fs->b∉ex->∃sl,h'.get? b=some {o with slots:=sl}
 free:∀b o,h.get? b=some o->H b=none->b∉ex->H' b=none
 there:∀b o,h.get? b=some o->b∉ex->∃o',h'.get? b=some o'
 wx:∀b xs,H b=some (.tup xs)->H' b=some (.tup xs)
 tY:∀b o u,H b=some (.FX o u)->H' b=some (.FX o u)
 wu:∀b ps,H b=some (.OZ ps)->∃more,H' b=some (.OZ (ps++more))
section
variable{fs Zb ex ex':Xr}{H H1 H2:Hp}{h h1 h2 h':Heap}{a x e:Addr}{o:HO}
theorem Un.any(u:Un fs ex H H1 h h1)(q:h.get? b=some ob)(n:H b=none)(hx:b∉ex):∃sl,h1.get? b=some {ob with slots:=sl}:=by by_cases hb:b∈fs;exact u.slot b ob q n hb hx;exact⟨ob.slots,u.keep b ob q n hb hx⟩
theorem Un.kept(k:∀b u,h.get? b=some u->h'.get? b=some u):Un fs ex H H h h':=⟨fun b ob q _ _ _=>k b ob q,fun b ob q _ _ _=>⟨ob.slots,k b ob q⟩,fun _ _ _ n _=>n,fun b ob q _=>⟨ob,k b ob q⟩,fun _ _ q=>q,fun _ _ _ q=>q,fun _ ps q=>⟨#[],by rw[q];simp⟩⟩
theorem Un.refl:Un fs ex H H h h:=Un.kept fun _ _ q=>q
theorem Un.laid(k:∀b u,h.get? b=some u->h'.get? b=some u)(hp:h.objs.size<=a)(hn:H a=none):Un fs ex H (upd H a o) h h' where
 keep:=fun b u q _ _ _=>k b u q
 slot:=fun b u q _ _ _=>⟨u.slots,k b u q⟩
 free:=fun b u q n _=>by rw[aQ (Vz (US (UG q) hp))];exact n
 there:=fun b u q _=>⟨u,k b u q⟩
 wx:=fun b xs q=>by rw[aQ (bz q hn)];exact q
 tY:=fun b u xs q=>by rw[aQ (bz q hn)];exact q
 wu:=fun b ps q=>⟨#[],by rw[aQ (bz q hn),q];simp⟩
theorem Un.write(mu:T2 (H x))(he:e=x\/H e=some (.own x))(k:∀b u,b≠e->h.get? b=some u->h'.get? b=some u)(Pu:∃u,h'.get? e=some u):Un fs ex H (upd H x o) h h':=by
 have hx:∀b,H b=none->b≠x:=fun b n z=>by subst z;rw[n] at mu;exact mu
 have hb:∀b,H b=none->b≠e:=fun b n z=>by subst z;rcases he with r|r;exact hx b n r;rw[n] at r;cases r
 have hm:∀b u,H b=some u->¬T2 (some u)->b≠x:=fun b u q nm z=>by subst z;rw[q] at mu;exact nm mu
 refine⟨fun b u q n _ _=>k b u (hb b n) q,fun b u q n _ _=>⟨u.slots,k b u (hb b n) q⟩,fun b u q n _=>by rw[aQ (hx b n)];exact n,fun b u q _=>?_,fun b xs q=>by rw[aQ (hm b _ q fun z=>z)];exact q,fun b u xs q=>by rw[aQ (hm b _ q fun z=>z)];exact q,fun b ps q=>⟨#[],by rw[aQ (hm b _ q fun z=>z),q];simp⟩⟩;by_cases LS:b=e;subst LS;exact Pu;exact⟨u,k b u LS q⟩
end
def Gn(h:Heap)(H:Hp):Xr:=(List.range h.objs.size).filter fun a=>(H a).isSome
def uh(h:Heap)(H:Hp):Heap:=W.hideAll h (Gn h H)
theorem Q2E(h:Heap)(H:Hp):(uh h H).objs.size=h.objs.size:=W.hideAll_size _ _
theorem DG(e:h.get? b=some o)(n:H b=none):(uh h H).get? b=some o:=W.hideAll_get _ e fun hm=>by have q:(H b).isSome=true:=(List.mem_filter.mp hm).2;rw[n] at q;simp at q
theorem HS(e:(uh h H).get? b=some o):h.get? b=some o/\H b=none:=by have e':h.get? b=some o:=W.of_hideAll (Gn h H) e;refine⟨e',?_⟩;cases q:H b with|none=>rfl|some x=>have hm:b∈Gn h H:=List.mem_filter.mpr ⟨List.mem_range.mpr (UG e'),by simp[q]⟩;have z:(uh h H).get? b=none:=W.hideAll_none (Gn h H) hm;rw[z] at e;cases e
def Gx(g h:Heap)(L:Addr):P4:=(List.range h.objs.size).filterMap fun a=>if a=L\/(g.get? a).isSome=true then none else(h.get? a).map fun o=>(a,o)
def rest(g h:Heap)(L d:Addr):P4:=(Gx g h L).filter fun p=>decide (p.1≠d)
structure Mod(K:W.Frag)(mg:Str->UU)(base:Heap):Prop where
 Mz:K.In base
 glob:base.Ns mainGlobals mg
 blt:∃mb,base.Ns builtinsNs mb/\∀x:Str,x≠"__name__" -> mb x=bootBuiltins x
 nolimit:base.NoLimit
structure Cx where
 prog:Program
 w:World
 K:W.Frag
 mg:Str->Option Value
 base:Heap
 A:Around
 N:List Str
 s₀:Shared
 H₀:Hp
 env:Env
 outer:List Env
 stack:List Env
 ex:List Addr
 fn:Str->Bool
 calm:Bool
 pn:P4
 xe:UI
def BL(l:List Env):Xr:=l.filterMap (·.frame)
abbrev Cx.fs(X:Cx):Xr:=BL X.outer
def uZ(sc:Scope)(x:Str):Prop:=sc.names.lookup x=some .local\/sc.names.lookup x=some .cell\/sc.names.lookup x=some .free
def Loc(sc:Scope)(x:Str):Prop:=sc.names.lookup x=some .local\/sc.names.lookup x=some .cell
def Look(env:Env)(h:Heap)(m:Str->UU)(x:Str)(u:Value):Prop:=(env.kindOf x=some .local/\m x=some u)\/((env.kindOf x=some .cell\/env.kindOf x=some .free)/\∃c,env.cells.lookup x=some c/\h.IsCell c (some u))
structure Cx.Ok(X:Cx):Prop where
 mod:Mod X.K X.mg X.base
 kind:X.env.scope.kind=.function
 glob:X.env.globals=mainGlobals
 blt:X.env.builtins=builtinsNs
 above:X.s₀.heap.objs.size<=X.env.locals
 inj:∀x y c,X.env.cells.lookup x=some c->X.env.cells.lookup y=some c->x=y
 has:∀x,(X.env.kindOf x=some .cell\/X.env.kindOf x=some .free)->∃c,X.env.cells.lookup x=some c
 QB:∀x c,X.fn x=true->X.env.cells.lookup x=some c->X.s₀.heap.objs.size<=c
 hd:X.calm=true->X.A.handled=none
 frames:X.A.frames=some X.stack
 UX:X.stack=X.outer\/(X.stack=X.env::X.outer/\X.env.frame=some X.env.locals)
 Uh:∀b∈X.ex,b≠X.env.locals/\∀x c,X.env.cells.lookup x=some c->c≠b
 bs:∀b o,X.base.get? b=some o->X.s₀.heap.get? b=some o/\X.H₀ b=none
 FV:X.base.objs.size<=X.s₀.heap.objs.size
 Eu:∀b o,X.base.get? b=some o->b∉X.ex
 Di:∀b∈X.ex,b∉X.fs
 nj:X.s₀.heap.FunFrames X.base X.outer
 J4:∀b∈X.fs,X.H₀ b=none
structure Inv(X:Cx)(UW:P4)(σ:List (Option V))(H:Hp)(s:Shared):Prop where
 ok:X.Ok
 os:s.os=X.s₀.os
 bare:AllBare s.gens
 base:Un X.fs X.ex X.H₀ H X.s₀.heap s.heap
 loc:∃m,s.heap.Ns X.env.locals m/\∀(i:Nat)(x:Str)(v:V),X.N[i]?=some x->σ[i]?=some (some v)->uZ X.env.scope x->∃u,RelV v u/\Look X.env s.heap m x u
 cell:∀x c,X.env.cells.lookup x=some c->∃v,s.heap.IsCell c v
 free:H X.env.locals=none
 kZ:∀x c,X.env.cells.lookup x=some c->H c=none
 pin:∀p∈X.pn++UW,s.heap.get? p.1=some p.2/\H p.1=none/\p.1≠X.env.locals/\p.1∉X.fs/\∀v,p.2.data≠.cell v
 cg:nV X.prog X.w H s.heap
 len:σ.length=X.N.length
section
variable{X:Cx}{UW:P4}{σ:List (Option V)}{H H':Hp}{s:Shared}{h':Heap}
theorem Cx.Ok.WQ(ok:X.Ok)(e:X.base.get? b=some o):b∉X.fs:=fun hb=>by have:=(ok.nj.mem hb).1;rw[e] at this;cases this
theorem Inv.bs(I:Inv X UW σ H s):∀b o,X.base.get? b=some o->s.heap.get? b=some o/\H b=none:=fun b o e=>⟨I.base.keep b o (I.ok.bs b o e).1 (I.ok.bs b o e).2 (I.ok.WQ e) (I.ok.Eu b o e),I.base.free b o (I.ok.bs b o e).1 (I.ok.bs b o e).2 (I.ok.Eu b o e)⟩
theorem Inv.bk(I:Inv X UW σ H s):∀b o,X.base.get? b=some o->s.heap.get? b=some o:=fun b o e=>(I.bs b o e).1
theorem Inv.mod(I:Inv X UW σ H s):Mod X.K X.mg X.base:=I.ok.mod
theorem Inv.mP(I:Inv X UW σ H s):X.K.In s.heap:=I.ok.mod.Mz.keeps I.bk
theorem Inv.nolimit(I:Inv X UW σ H s):s.heap.NoLimit:=I.ok.mod.nolimit.keeps I.bk
theorem Inv.lt(I:Inv X UW σ H s):X.env.locals<s.heap.objs.size:=let ⟨_,hn,_⟩:=I.loc;hn.lt
theorem Inv.sz(I:Inv X UW σ H s):X.s₀.heap.objs.size<=s.heap.objs.size:=DT I.ok.above (Nat.le_of_lt I.lt)
theorem Inv.WR(I:Inv X UW σ H s){a:Addr}(h:s.heap.objs.size<=a):a∉X.fs:=fun hb=>by obtain⟨_,o,ho,_⟩:=I.ok.nj.mem hb;exact absurd (US (UG ho) (DT I.sz h)) (nJ _)
theorem Inv.Lf(I:Inv X UW σ H s):∀x c,X.env.cells.lookup x=some c->c≠X.env.locals:=fun x c e z=>by obtain⟨v,o,ho,hd⟩:=I.cell x c e;obtain⟨m,⟨o',es,ep,uW,Q2,_⟩,_⟩:=I.loc;rw[z,uW] at ho;cases ho;rw[Q2] at hd;cases hd
theorem Inv.nj(I:Inv X UW σ H s):s.heap.FunFrames X.base X.outer:=by
 have all:∀(l:List Env),(∀b∈BL l,b∈X.fs)->X.s₀.heap.FunFrames X.base l->s.heap.FunFrames X.base l:=by intro l;induction l with|nil=>intro _ _;trivial|cons env r ih=>intro hs hl;obtain⟨hk,⟨L,o,hf,hn,ho,hd⟩,hr⟩:=hl;have hL:L∈X.fs:=hs L (by unfold BL;rw[BE,hf];exact QI);obtain⟨sl,e⟩:=I.base.slot L o ho (I.ok.J4 L hL) hL fun z=>I.ok.Di L z hL;exact⟨hk,⟨L,_,hf,hn,e,hd⟩,ih (fun b hb=>hs b (by unfold BL;rw[BE,hf];exact QC _ hb)) hr⟩
 exact all X.outer (fun _ hb=>hb) I.ok.nj
theorem Inv.stack(I:Inv X UW σ H s):s.heap.FunFrames X.base X.stack:=by rcases I.ok.UX with e|⟨e,hf⟩;rw[e];exact I.nj;rw[e];obtain⟨m,hn,_⟩:=I.loc;refine .cons (by rw[I.ok.kind];decide) hf hn ?_ I.nj;exact Heap.get?_none_of_le (DT I.ok.FV I.ok.above)
theorem Inv.yv(I:Inv X UW σ H s):∀b∈BL X.stack,b∈X.env.locals::X.fs:=fun b hb=>by rcases I.ok.UX with e|⟨e,hf⟩;rw[e] at hb;exact QC _ hb;rw[e] at hb;unfold BL at hb;rw[BE,hf] at hb;exact hb
theorem Inv.Al(I:Inv X UW σ H s):∀b∈BL X.stack,H b=none:=fun b hb=>by rcases List.mem_cons.mp (I.yv b hb) with e|hb;rw[e];exact I.free;obtain⟨_,o,ho,_⟩:=I.ok.nj.mem hb;exact I.base.free b o ho (I.ok.J4 b hb) fun z=>I.ok.Di b z hb
theorem Inv.step{g':Array GenState}{t':Nat}{d':Drawn}{ch:Xr}(I:Inv X UW σ H s)
  (FZ:∀b∈ch,(b∈X.ex\/X.s₀.heap.objs.size<=b)/\b≠X.env.locals/\(∀x c,X.env.cells.lookup x=some c->c≠b)/\∀p∈X.pn++UW,p.1≠b)
  (keep:∀b o,b≠X.env.locals->b∉X.fs->b∉ch->s.heap.get? b=some o->H b=none->h'.get? b=some o)
  (slot:∀b o,b≠X.env.locals->b∈X.fs->b∉ch->s.heap.get? b=some o->H b=none->∃sl,h'.get? b=some {o with slots:=sl}) (free:∀b o,b∉ch->s.heap.get? b=some o->H b=none->H' b=none)
  (there:∀b o,b∉ch->s.heap.get? b=some o->∃o',h'.get? b=some o')
  (wx:∀b xs,H b=some (.tup xs)->H' b=some (.tup xs)) (tY:∀b o u,H b=some (.FX o u)->H' b=some (.FX o u)) (wu:∀b ps,H b=some (.OZ ps)->∃more,H' b=some (.OZ (ps++more)))
  (ns:∀m,s.heap.Ns X.env.locals m->h'.Ns X.env.locals m) (cg:nV X.prog X.w H' h') (hg:AllBare g') :
  Inv X UW σ H' {s with heap:=h',gens:=g',drawn:=d',toks:=t'}:=by
 have Yz:∀b o,X.s₀.heap.get? b=some o->b≠X.env.locals:=fun b o e=>Vz (US (UG e) I.ok.above);have UJ:∀b o,X.s₀.heap.get? b=some o->b∉X.ex->b∉ch:=fun b o e hx hb=>by rcases (FZ b hb).1 with z|z;exact hx z;exact absurd (US (UG e) z) (nJ _)
 have cellK:∀x c,X.env.cells.lookup x=some c->∀v,s.heap.IsCell c v->h'.IsCell c v:=fun x c e v zz=>by obtain⟨o,ho,hd⟩:=zz;have Sg:c∉ch:=fun z=>(FZ c z).2.2.1 x c e rfl;by_cases hc:c∈X.fs;obtain⟨sl,q⟩:=slot c o (I.Lf x c e) hc Sg ho (I.kZ x c e);exact⟨_,q,hd⟩;exact⟨o,keep c o (I.Lf x c e) hc Sg ho (I.kZ x c e),hd⟩
 refine⟨I.ok,I.os,hg,⟨fun b o e n hb hx=>?_,fun b o e n hb hx=>?_,fun b o e n hx=>?_,fun b o e hx=>?_,fun b xs e=>wx b xs (I.base.wx b xs e),fun b o xs e=>tY b o xs (I.base.tY b o xs e),fun b ps e=>?_⟩,?_,fun x c e=>?_,?_,fun x c e=>?_,fun p hp=>?_,cg,I.len⟩;exact keep b o (Yz b o e) hb (UJ b o e hx) (I.base.keep b o e n hb hx) (I.base.free b o e n hx);obtain⟨sl,e1⟩:=I.base.slot b o e n hb hx;obtain⟨sl',e2⟩:=slot b _ (Yz b o e) hb (UJ b o e hx) e1 (I.base.free b o e n hx);exact⟨sl',e2⟩;obtain⟨o',e1⟩:=I.base.there b o e hx;exact free b o' (UJ b o e hx) e1 (I.base.free b o e n hx);obtain⟨o',e1⟩:=I.base.there b o e hx;exact there b o' (UJ b o e hx) e1;obtain⟨m1,e1⟩:=I.base.wu b ps e;obtain⟨m2,e2⟩:=wu b _ e1;exact⟨m1++m2,by rw[e2,Array.append_assoc]⟩;obtain⟨m,hn,hl⟩:=I.loc;refine⟨m,ns m hn,fun i x v e1 e2 e3=>?_⟩;obtain⟨u,r,l⟩:=hl i x v e1 e2 e3;refine⟨u,r,?_⟩;rcases l with l|⟨k,c,e,z⟩;exact .inl l;exact .inr ⟨k,c,e,cellK x c e _ z⟩;obtain⟨v,z⟩:=I.cell x c e;exact⟨v,cellK x c e v z⟩;obtain⟨m,⟨o,_,_,ho,_⟩,_⟩:=I.loc;exact free _ o (fun z=>(FZ _ z).2.1 rfl) ho I.free;obtain⟨v,o,ho,hd⟩:=I.cell x c e;exact free c o (fun z=>(FZ c z).2.2.1 x c e rfl) ho (I.kZ x c e);obtain⟨e,n,ne,nf,d⟩:=I.pin p hp;have Sg:p.1∉ch:=fun z=>(FZ p.1 z).2.2.2 p hp rfl;exact⟨keep p.1 p.2 ne nf Sg e n,free p.1 p.2 Sg e n,ne,nf,d⟩
theorem Inv.un(I:Inv X UW σ H s)(u:Un X.fs [] H H' s.heap h')(cg:nV X.prog X.w H' h'):Inv X UW σ H' {s with heap:=h',toks:=t'}:=by obtain⟨m,⟨o,es,ep,ho,r⟩,_⟩:=id I.loc;obtain⟨sl,hL⟩:=u.any ho I.free G9;exact I.step (g':=s.gens) (d':=s.drawn) (ch:=[]) (fun _ z=>nomatch z) (fun b o _ hb _ e n=>u.keep b o e n hb G9) (fun b o _ hb _ e n=>u.slot b o e n hb G9) (fun b o _ e n=>u.free b o e n G9) (fun b o _ e=>u.there b o e G9) u.wx u.tY u.wu (fun m' hm=>by obtain⟨o',Vv,pS,uW,r'⟩:=hm;rw[ho] at uW;cases uW;exact⟨_,Vv,pS,hL,r'⟩) cg I.bare
theorem Inv.call(I:Inv X UW σ H s)(u:Un (BL X.stack) ch H H' s.heap h')(cg:nV X.prog X.w H' h')(hg:AllBare g')
  (FZ:∀b∈ch,(b∈X.ex\/X.s₀.heap.objs.size<=b)/\b≠X.env.locals/\(∀x c,X.env.cells.lookup x=some c->c≠b)/\∀p∈X.pn++UW,p.1≠b) :
  Inv X UW σ H' {s with heap:=h',gens:=g',drawn:=d',toks:=t'}:=by
 obtain⟨m,⟨o,es,ep,ho,r⟩,_⟩:=id I.loc;obtain⟨sl,hL⟩:=u.any ho I.free fun z=>(FZ _ z).2.1 rfl;exact I.step (ch:=ch) FZ (fun b o hL hb hc e n=>u.keep b o e n (fun z=>(List.mem_cons.mp (I.yv b z)).elim hL hb) hc) (fun b o _ _ hc e n=>u.any e n hc) (fun b o hc e n=>u.free b o e n hc) (fun b o hc e=>u.there b o e hc) u.wx u.tY u.wu (fun m' hm=>by obtain⟨o',Vv,pS,uW,r'⟩:=hm;rw[ho] at uW;cases uW;exact⟨_,Vv,pS,hL,r'⟩) cg hg
theorem Inv.turned{t':Nat}{it:Addr}(I:Inv X UW σ H s)(k:∀b o,b≠it->s.heap.get? b=some o->h'.get? b=some o)(hn:H it=none)(hL:it≠X.env.locals)(h1:it∈X.ex\/X.s₀.heap.objs.size<=it) (h2:∀x c,X.env.cells.lookup x=some c->c≠it) (h3:∀p∈X.pn++UW,p.1≠it):Inv X UW σ H {s with heap:=h',toks:=t'}:=by
 have YA:∀b u,H b=some u->b≠it:=fun b u e z=>by rw[z,hn] at e;cases e
 refine I.step (g':=s.gens) (d':=s.drawn) (ch:=[it]) (fun b hb=>?_) (fun b o _ _ hc e _=>k b o (fun z=>hc (by simp[z])) e) (fun b o _ _ hc e _=>⟨o.slots,k b o (fun z=>hc (by simp[z])) e⟩) (fun _ _ _ _ n=>n) (fun b o hc e=>⟨o,k b o (fun z=>hc (by simp[z])) e⟩) (fun _ _ e=>e) (fun _ _ _ e=>e) (fun b ps e=>⟨#[],by rw[e];simp⟩) (fun m hm=>?_) (fun b u e=>?_) I.bare;have e:b=it:=by simpa using hb
 subst e;exact⟨h1,hL,h2,h3⟩;obtain⟨o,es,ep,ho,r⟩:=hm;exact⟨o,es,ep,k _ o (W5 hL) ho,r⟩;refine(I.cg b u e).yt (fun c v hc q=>k c v ?_ q) (fun _ q=>q) fun _ _ q=>q;rcases hc with z|z;rw[z];exact YA b u e;exact YA c _ z
theorem Inv.tok(I:Inv X UW σ H s)(t:Nat):Inv X UW σ H {s with toks:=t}:=I.un (h':=s.heap) (t':=t) Un.refl I.cg
theorem Inv.kept(I:Inv X UW σ H s)(k:∀b u,s.heap.get? b=some u->h'.get? b=some u):Inv X UW σ H {s with heap:=h',toks:=t'}:=I.un (Un.kept k) (I.cg.kept k)
theorem Inv.laid{a:Addr}{o:HO}{t':Nat}(I:Inv X UW σ H s)(k:∀b u,s.heap.get? b=some u->h'.get? b=some u)(hp:s.heap.objs.size<=a)(new:dw X.prog X.w (upd H a o) h' a o) : Inv X UW σ (upd H a o) {s with heap:=h',toks:=t'}:=I.un (Un.laid k hp (I.cg.fresh hp)) (I.cg.laid k hp new)
theorem Inv.write(I:Inv X UW σ H s)(mu:T2 (H x))(he:e=x\/H e=some (.own x))(k:∀b u,b≠e->s.heap.get? b=some u->h'.get? b=some u)(Pu:∃u,h'.get? e=some u)(new:dw X.prog X.w (upd H x o) h' x o):Inv X UW σ (upd H x o) {s with heap:=h',toks:=t'}:=I.un (Un.write mu he k Pu) (I.cg.write mu he k Pu new)
theorem Inv.Ac(I:Inv X UW σ H s)(h:∀p∈SQ,s.heap.get? p.1=some p.2/\H p.1=none/\p.1≠X.env.locals/\p.1∉X.fs/\∀v,p.2.data≠.cell v):Inv X SQ σ H s:=⟨I.ok,I.os,I.bare,I.base,I.loc,I.cell,I.free,I.kZ,fun p hp=>(List.mem_append.mp hp).elim (fun z=>I.pin p (List.mem_append_left _ z)) (h p),I.cg,I.len⟩
theorem vV{N:PU}(hN:N.Nodup){i j:Nat}{x:Str}(a:N[i]?=some x)(b:N[j]?=some x):i=j:=by obtain⟨h1,e1⟩:=List.getElem?_eq_some_iff.mp a;obtain⟨h2,e2⟩:=List.getElem?_eq_some_iff.mp b;exact(rM hN).mp (e1.trans e2.symm)
theorem kM(I:Inv X UW σ H s)(hN:X.N.Nodup)(hi:X.N[i]?=some x)(hx:Loc X.env.scope x)(r:RelV v u)(h:∀s',Inv X UW (σ.set i (some v)) H s'->(∃a,Heap.SameBut a s.heap s'.heap/\(a=X.env.locals\/X.env.cells.lookup x=some a))->Q () s') (hf:X.fn x=true\/X.env.scope.names.lookup x=some .local:=by exact NP):wpAny M A (storeName X.env x u) Q E s:=by
 obtain⟨m,hn,hl⟩:=id I.loc;have VR:(X.env.scope.kind == .class||(X.env.scope.kind == .module&&X.env.locals != X.env.globals))=false:=by rw[I.ok.kind];rfl
 have Q8:i<σ.length:=by rw[I.len];exact(List.getElem?_eq_some_iff.mp hi).1
 have Lf:=I.Lf;have tracked:∀{a:Addr}{h':Heap},(∃o,s.heap.get? a=some o/\H a=none)->Heap.SameBut a s.heap h'->nV X.prog X.w H h':=fun {a h'} ha hs b ob e=>by obtain⟨_,_,J9⟩:=ha;refine(I.cg b ob e).yt (fun c w' hc q=>(hs.2 c ?_).trans q) (fun _ q=>q) fun _ _ q=>q;rintro rfl;rcases hc with rfl|hc;rw[J9] at e;cases e;rw[J9] at hc;cases hc
 rcases hx with hk|hk;refine wpAny_storeName_local hk hn (fun h' DK hs=>?_) VR;obtain⟨oL,_,_,Ut,_⟩:=id hn;refine h _ ⟨I.ok,I.os,I.bare,⟨fun b o e n hb hx=>?_,fun b o e n hb hx=>?_,I.base.free,fun b o e hx=>?_,I.base.wx,I.base.tY,I.base.wu⟩,⟨_,DK,fun j y v' e1 e2 e3=>?_⟩,fun y c e=>?_,I.free,I.kZ,fun p hp=>?_,tracked ⟨oL,Ut,I.free⟩ hs,by simpa using I.len⟩ ⟨_,hs,.inl rfl⟩;exact(hs.2 b (Vz (US (UG e) I.ok.above))).trans (I.base.keep b o e n hb hx);obtain⟨sl,e1⟩:=I.base.slot b o e n hb hx;exact⟨sl,(hs.2 b (Vz (US (UG e) I.ok.above))).trans e1⟩;obtain⟨o',e1⟩:=I.base.there b o e hx;exact⟨o',(hs.2 b (Vz (US (UG e) I.ok.above))).trans e1⟩;by_cases hj:j=i;subst hj;rw[hi] at e1;cases e1;rw[xP Q8] at e2;cases e2;exact⟨u,r,.inl ⟨hk,G9⟩⟩;rw[H0 (W5 hj)] at e2;obtain⟨u',r',q⟩:=hl j y v' e1 e2 e3;refine⟨u',r',?_⟩;rcases q with ⟨k,e⟩|⟨k,c,e,z⟩
 refine .inl ⟨k,?_⟩;have:y≠x:=fun e=>hj (vV hN e1 (e ▸ hi));simp[this,e];exact .inr ⟨k,c,e,z.sameBut hs (Lf y c e)⟩;obtain⟨w',z⟩:=I.cell y c e;exact⟨w',z.sameBut hs (Lf y c e)⟩;obtain⟨e,n,ne,nf,d⟩:=I.pin p hp;exact⟨(hs.2 p.1 ne).trans e,n,ne,nf,d⟩;have AO:X.fn x=true:=by rcases hf with z|z;exact z;rw[z] at hk;cases hk
 obtain⟨c,hc⟩:=I.ok.has x (.inl hk);obtain⟨w',z⟩:=I.cell x c hc;refine wpAny_storeName_cell I.ok.kind hk hc z (fun h' rD hs=>?_);obtain⟨oc,Yk,V8⟩:=id z;refine h {s with heap:=h'} ⟨I.ok,I.os,I.bare,⟨fun b o e n hb hx=>?_,fun b o e n hb hx=>?_,I.base.free,fun b o e hx=>?_,I.base.wx,I.base.tY,I.base.wu⟩,⟨m,hn.sameBut hs (W5 (Lf x c hc)),fun j y v' e1 e2 e3=>?_⟩,fun y c' e=>?_,I.free,I.kZ,fun p hp=>?_,tracked ⟨oc,Yk,I.kZ x c hc⟩ hs,by simpa using I.len⟩ ⟨c,hs,.inr hc⟩;exact(hs.2 b (Vz (US (UG e) (I.ok.QB x c AO hc)))).trans (I.base.keep b o e n hb hx);obtain⟨sl,e1⟩:=I.base.slot b o e n hb hx;exact⟨sl,(hs.2 b (Vz (US (UG e) (I.ok.QB x c AO hc)))).trans e1⟩;obtain⟨o',e1⟩:=I.base.there b o e hx;exact⟨o',(hs.2 b (Vz (US (UG e) (I.ok.QB x c AO hc)))).trans e1⟩;by_cases hj:j=i;subst hj;rw[hi] at e1;cases e1;rw[xP Q8] at e2;cases e2;exact⟨u,r,.inr ⟨.inl hk,c,hc,rD⟩⟩;rw[H0 (W5 hj)] at e2;obtain⟨u',r',q⟩:=hl j y v' e1 e2 e3;refine⟨u',r',?_⟩;rcases q with q|⟨k,c',e,z'⟩;exact .inl q;refine .inr ⟨k,c',e,z'.sameBut hs ?_⟩;rintro rfl;exact hj (vV hN e1 (I.ok.inj _ _ _ e hc ▸ hi));by_cases X7:c'=c;subst X7;exact⟨_,rD⟩;obtain⟨w2,z2⟩:=I.cell y c' e;exact⟨w2,z2.sameBut hs X7⟩;obtain⟨e,n,ne,nf,d⟩:=I.pin p hp;refine⟨(hs.2 p.1 ?_).trans e,n,ne,nf,d⟩;intro q;rw[q,Yk] at e;have q':oc=p.2:=RD e;exact d w' (by rw[<-q'];exact V8)
theorem wq(I:Inv X UW σ H s)(hN:X.N.Nodup)(hi:X.N[i]?=some x)(hx:Loc X.env.scope x)(r:RelV v u)(h:∀s',Inv X UW (σ.set i (some v)) H s'->Q () s') (hf:X.fn x=true\/X.env.scope.names.lookup x=some .local:=by exact NP):wpAny M A (storeName X.env x u) Q E s:=
 kM I hN hi hx r (fun s' I' _=>h s' I') hf
theorem Inv.CV(I:Inv X UW σ H s)(ho:s'.os=s.os)(u:Un (BL X.stack) ch H H' s.heap s'.heap)(cg:nV X.prog X.w H' s'.heap)(hg:AllBare s'.gens)(FZ:∀b∈ch,(b∈X.ex\/X.s₀.heap.objs.size<=b)/\b≠X.env.locals/\(∀x c,X.env.cells.lookup x=some c->c≠b)/\∀p∈X.pn++UW,p.1≠b):Inv X UW σ H' s':=by obtain⟨h',g',d',t',o'⟩:=s';have e:o'=s.os:=ho;subst e;exact I.call (g':=g') (t':=t') (d':=d') u cg hg FZ
end
abbrev XK:=Value->UL->Hp->Prop
abbrev St:=List (Option V)
abbrev VK:=V->Hp->Prop
abbrev TE:=St->Hp->VK->Prop
abbrev TT:=St->Hp->(Bool->Hp->Prop)->Prop
abbrev TA:=St->Hp->(List V->Hp->Prop)->Prop
structure Ends where
 nx:St->Hp->Prop
 rt:VK
 bk:St->Hp->Prop:=fun _ _=>False
 ct:St->Hp->Prop:=fun _ _=>False
abbrev TS:=Ends->St->Hp->Prop
def EP(X:Cx)(UW:P4)(σ:St)(Q:VK)(u:Value)(s':Shared):Prop:=∃v H',Inv X UW σ H' s'/\RelV v u/\Q v H'
def TP(X:Cx)(UW:P4)(σ:St)(Q:Bool->Hp->Prop)(b:Bool)(s':Shared):Prop:=∃H',Inv X UW σ H' s'/\Q b H'
def AP(X:Cx)(UW:P4)(σ:St)(Q:O6->Hp->Prop)(us:RU)(s':Shared):Prop:=∃vs H',Inv X UW σ H' s'/\Vals vs us/\Q vs H'
def SP(X:Cx)(UW:P4)(D:Ends)(f:Flow)(s':Shared):Prop:=match f with|.next=>∃bE H',Inv X UW bE H' s'/\D.nx bE H'|.brk=>∃bE H',Inv X UW bE H' s'/\D.bk bE H'|.cont=>∃bE H',Inv X UW bE H' s'/\D.ct bE H'|.ret u=>∃v bE H',Inv X UW bE H' s'/\RelV v u/\D.rt v H'
def PE(X:Cx)(e:Expr)(t:TE):Prop:=∀(UW:P4)(s:Shared)(σ:St)(H:Hp)(Q:VK),Inv X UW σ H s->t σ H Q->wpAny (model X.prog X.w) X.A (eval e X.env) (EP X UW σ Q) X.xe s
def PT(X:Cx)(e:Expr)(t:TT):Prop:=∀(UW:P4)(s:Shared)(σ:St)(H:Hp)(Q:Bool->Hp->Prop),Inv X UW σ H s->t σ H Q->wpAny (model X.prog X.w) X.A (isTrue e X.env (eval e X.env)) (TP X UW σ Q) X.xe s
def PW(X:Cx)(e:Expr)(t:TT):Prop:=∀(whole:Sem Value)(UW:P4)(s:Shared)(σ:St)(H:Hp)(Q:Bool->Hp->Prop),Inv X UW σ H s->t σ H Q->wpAny (model X.prog X.w) X.A (isTrue e X.env whole) (TP X UW σ Q) X.xe s
theorem PW.pt(h:PW X e t):PT X e t:=h _
def PA(X:Cx)(es:W3)(t:TA):Prop:=∀(pos:Pos)(UW:P4)(s:Shared)(σ:St)(H:Hp)(Q:O6->Hp->Prop),Inv X UW σ H s->t σ H Q->wpAny (model X.prog X.w) X.A (spliced (backTo pos (starEach es X.env))) (AP X UW σ Q) X.xe s
def PS(X:Cx)(st:Stmt)(t:TS):Prop:=∀(UW:P4)(s:Shared)(σ:St)(H:Hp)(D:Ends),Inv X UW σ H s->t D σ H->wpAny (model X.prog X.w) X.A (exec st X.env) (SP X UW D) X.xe s
def wJ(X:Cx)(st:List Stmt)(t:TS):Prop:=∀(UW:P4)(s:Shared)(σ:St)(H:Hp)(D:Ends),Inv X UW σ H s->t D σ H->wpAny (model X.prog X.w) X.A (execs st X.env) (SP X UW D) X.xe s
theorem bS{α:Type}{t:Sem α}{Q Q':α->Shared->Prop}(h:wpAny M A t Q E s)(hQ:∀a s,Q a s->Q' a s):wpAny M A t Q' E s:=RX h hQ fun _ _ x=>x
section
variable{X:Cx}
theorem bin{a b:Expr}{ta tb:TE}(ha:PE X a ta)(hb:PE X b tb){UW:P4}{s:Shared}{σ:St}{H:Hp}{R:V->V->Hp->Prop}(I:Inv X UW σ H s)(h:ta σ H fun x H1=>tb σ H1 fun y H2=>R x y H2)
  {α:Type} {Q:α->Shared->Prop} {f:Value->Value->Sem α}
  (hf:∀v u s2 x y H2,Inv X UW σ H2 s2->RelV x v->RelV y u->R x y H2->wpAny (model X.prog X.w) X.A (f v u) Q X.xe s2) :
  wpAny (model X.prog X.w) X.A (eval a X.env) (fun v bA=>wpAny (model X.prog X.w) X.A (eval b X.env) (fun u rN=>wpAny (model X.prog X.w) X.A (f v u) Q X.xe rN) X.xe bA) X.xe s:=by
 refine bS (ha UW s σ H _ I h) fun v s1 zz=>?_;obtain⟨x,H1,I1,r1,q1⟩:=zz;refine bS (hb UW s1 σ H1 _ I1 q1) fun u s2 zz=>?_;obtain⟨y,H2,I2,r2,q2⟩:=zz;exact hf v u s2 x y H2 I2 r1 r2 q2
def Jn(i:Nat):TE:=fun σ H Q=>∃v,σ[i]?=some (some v)/\Q v H
def tC(v:V):TE:=fun _ H Q=>Q v H
theorem fO{i:Nat}{x:Str}{pos:Pos}(hN:X.N[i]?=some x)(hv:uZ X.env.scope x)(hd:Yw x:=by decide)(jC:Xj x:=by decide):PE X (.Name x pos) (Jn i):=by
 intro UW s σ H Q I h;obtain⟨v,e,h⟩:=h;obtain⟨m,hn,hl⟩:=I.loc;obtain⟨u,r,l⟩:=hl i x v hN e hv;have fin:EP X UW σ Q u s:=⟨v,H,I,r,h⟩;rcases l with ⟨hk,hm⟩|⟨hk,c,hc,J8⟩
 exact wpAny_Name (wpAny_loadName_local I.ok.kind hk hn hm fin) hd;rcases hk with hk|hk;exact wpAny_Name (wpAny_loadName_cell I.ok.kind hk hc J8 fin) hd;exact wpAny_Name (wpAny_loadName_free I.ok.kind hk hc J8 fin jC) hd
theorem N6{i j pos}:PE X (.Constant (.int i) j pos) (tC (.int i)):=fun _ _ _ H _ I h=>wpAny_Constant_int ⟨.int i,H,I.tok _,⟨_,rfl⟩,h⟩
theorem SJ{b j pos}:PE X (.Constant (.bool b) j pos) (tC (.bl b)):=fun _ _ _ H _ I h=>Constant_bool ⟨.bl b,H,I,rfl,h⟩
theorem N8{j pos}:PE X (.Constant .none j pos) (tC .bC):=fun _ _ _ H _ I h=>Constant_none ⟨.bC,H,I,rfl,h⟩
theorem Ob{x j pos}:PE X (.Constant (.str x) j pos) (tC (.str x)):=fun _ _ _ H _ I h=>Calls.Constant_str ⟨.str x,H,I.tok _,⟨_,rfl⟩,h⟩
def Gl(X:Cx)(x:Str):Prop:=X.env.kindOf x=some .globalImplicit
theorem mh{E:UI}{UW:P4}{s:Shared}{σ:St}{H:Hp}{x:Str}{u:Value}{pos:Pos}{Q:UI}(I:Inv X UW σ H s)(hg:Gl X x)(hm:X.mg x=some u)(h:Q u s)(hd:Yw x:=by decide):wpAny (model X.prog X.w) X.A (eval (.Name x pos) X.env) Q E s:=
 Calls.Name_function_global I.ok.kind hg (Calls.loadGlobal_global (by rw[I.ok.glob];exact I.mod.glob.keeps I.bk) hm h) hd
theorem dX{E:UI}{UW:P4}{s:Shared}{σ:St}{H:Hp}{x:Str}{u:Value}{pos:Pos}{Q:UI}(I:Inv X UW σ H s)(hg:Gl X x)(hm:X.mg x=none)(hv:bootBuiltins x=some u)(h:Q u s)(hn:x≠"__name__" := by decide) (hd:Yw x:=by decide):wpAny (model X.prog X.w) X.A (eval (.Name x pos) X.env) Q E s:=by obtain⟨mb,h1,h2⟩:=I.mod.blt;exact Calls.Name_function_global I.ok.kind hg (Calls.loadGlobal_builtin (by rw[I.ok.glob];exact I.mod.glob.keeps I.bk) hm (by rw[I.ok.blt];exact h1.keeps I.bk) ((h2 x hn).trans hv) h) hd
theorem kI(hg:Gl X x)(hm:X.mg x=some u)(r:RelV v u)(hd:Yw x:=by decide):PE X (.Name x pos) (tC v):=fun _ _ _ H _ I h=>mh I hg hm ⟨v,H,I,r,h⟩ hd
theorem Ia{x:Str}{v:V}{u:Value}{pos:Pos}(hg:Gl X x)(hm:X.mg x=none)(hv:bootBuiltins x=some u)(r:RelV v u)(hn:x≠"__name__" := by decide)(hd:Yw x:=by decide):PE X (.Name x pos) (tC v):=fun _ _ _ H _ I h=>dX I hg hm hv ⟨v,H,I,r,h⟩ hn hd
variable{a b:Expr}{ta tb:TE}{pos:Pos}
def PC(X:Cx)(op:CmpOp)(a b:Expr)(t:TE):Prop:=∀(UW:P4)(s:Shared)(σ:St)(H:Hp)(Q:VK),Inv X UW σ H s->t σ H Q->wpAny (model X.prog X.w) X.A (eval a X.env) (fun v bA=>wpAny (model X.prog X.w) X.A (eval b X.env) (fun u rN=>wpAny (model X.prog X.w) X.A (compareOp op v u) (EP X UW σ Q) X.xe rN) X.xe bA) X.xe s
theorem Et(b:Expr)(h:op≠.In)(h2:op≠.NotIn):behindInMarks op b=false:=by
 have e1:(op == CmpOp.In)=false:=by cases op<;>first|rfl|exact absurd rfl h
 have e2:(op == CmpOp.NotIn)=false:=by cases op<;>first|rfl|exact absurd rfl h2
 cases b<;>simp[behindInMarks,e1,e2]
def Fw(t:TE):TT:=fun σ H Q=>t σ H fun x H1=>∃c,x=.bl c/\Q c H1
theorem Om{op:CmpOp}{t:TE}(h:PC X op a b t)(h1:behindInMarks op b=false:=by first|exact Et _ (by decide) (by decide)|rfl):PT X (.Compare a [op] [b] pos) (Fw t):=by intro UW s σ H Q I hw;refine wpAny_isTrue_Compare1 (bS (h UW s σ H _ I hw) fun v s1 h1=>bS h1 fun u s2 h2=>bS h2 fun c s3 zz=>?_) h1;obtain⟨x,H1,I1,r1,q1⟩:=zz;obtain⟨d,rfl,q⟩:=q1;cases r1;exact Mw ⟨H1,I1,q⟩
theorem Oq{e:Expr}{t:TE}(h:PE X e t)(he:∀whole,isTrue e X.env whole=(do let v <-whole;standAt e.pos;holding [v] (truthy v)):=by exact Bz):PT X e (Fw t):=by intro UW s σ H Q I hw;refine isTrue_plain (bS (h UW s σ H _ I hw) fun v s1 zz=>?_) (he _);obtain⟨x,H1,I1,r1,q1⟩:=zz;obtain⟨d,rfl,q⟩:=q1;cases r1;exact Mw ⟨H1,I1,q⟩
variable{tA UY:TT}{rest:W3}
def Q2n(t u:TT):TT:=fun σ H Q=>t σ H fun c H1=>if c=true then u σ H1 Q else Q false H1
def Q2o(t u:TT):TT:=fun σ H Q=>t σ H fun c H1=>if c=true then Q true H1 else u σ H1 Q
def Q2m(t:TT):TT:=fun σ H Q=>t σ H fun c H1=>Q (!c) H1
theorem Q0J(ha:PT X a tA):PW X (.BoolOp .And [a] pos) tA:=by intro wh UW s σ H Q I h;refine isTrue_and (bS (ha UW s σ H Q I h) fun c s1 e=>?_);cases c with|true=>exact isTrue_and_nil e|false=>exact e
theorem Ox(ha:PT X a tA):PW X (.BoolOp .Or [a] pos) tA:=by intro wh UW s σ H Q I h;refine isTrue_or (bS (ha UW s σ H Q I h) fun c s1 e=>?_);cases c with|false=>exact isTrue_or_nil e|true=>exact e
theorem Ow(ha:PT X a tA)(hb:PW X (.BoolOp .And (b::rest) pos) UY):PW X (.BoolOp .And (a::b::rest) pos) (Q2n tA UY):=by intro wh UW s σ H Q I h;refine isTrue_and (bS (ha UW s σ H _ I h) fun c s1 zz=>?_);obtain⟨H1,I1,q1⟩:=zz;cases c with|true=>exact hb wh UW s1 σ H1 Q I1 q1|false=>exact⟨H1,I1,q1⟩
theorem SV(ha:PT X a tA)(hb:PW X (.BoolOp .Or (b::rest) pos) UY):PW X (.BoolOp .Or (a::b::rest) pos) (Q2o tA UY):=by intro wh UW s σ H Q I h;refine isTrue_or (bS (ha UW s σ H _ I h) fun c s1 zz=>?_);obtain⟨H1,I1,q1⟩:=zz;cases c with|true=>exact⟨H1,I1,q1⟩|false=>exact hb wh UW s1 σ H1 Q I1 q1
theorem Q2F(ha:PT X a tA):PT X (.UnaryOp .Not a pos) (Q2m tA):=by intro UW s σ H Q I h;exact isTrue_not (ha UW s σ H (fun c H1=>Q (!c) H1) I h)
def Tf(ta tb:TE):TE:=fun σ H Q=>ta σ H fun x H1=>∃c,x=.bl c/\if c=true then tb σ H1 Q else Q (.bl false) H1
def Xh(ta tb:TE):TE:=fun σ H Q=>ta σ H fun x H1=>∃c,x=.bl c/\if c=true then Q (.bl true) H1 else tb σ H1 Q
def Ts(ta:TE):TE:=fun σ H Q=>ta σ H fun x H1=>∃c,x=.bl c/\Q (.bl (!c)) H1
theorem Oa{op}(h:PE X a t):PE X (.BoolOp op [a] pos) t:=fun UW s σ H Q I hw=>BoolOp_one (h UW s σ H Q I hw)
theorem N4(ha:PE X a ta)(hb:PE X (.BoolOp .And (b::rest) pos) tb):PE X (.BoolOp .And (a::b::rest) pos) (Tf ta tb):=by intro UW s σ H Q I h;refine BoolOp_and (bS (ha UW s σ H _ I h) fun v s1 zz=>?_);obtain⟨x,H1,I1,r1,q1⟩:=zz;obtain⟨c,rfl,q1⟩:=q1;cases r1;refine Mw ?_;cases c with|true=>exact hb UW s1 σ H1 Q I1 q1|false=>exact⟨.bl false,H1,I1,rfl,q1⟩
theorem SK(ha:PE X a ta)(hb:PE X (.BoolOp .Or (b::rest) pos) tb):PE X (.BoolOp .Or (a::b::rest) pos) (Xh ta tb):=by intro UW s σ H Q I h;refine BoolOp_or (bS (ha UW s σ H _ I h) fun v s1 zz=>?_);obtain⟨x,H1,I1,r1,q1⟩:=zz;obtain⟨c,rfl,q1⟩:=q1;cases r1;refine Mw ?_;cases c with|false=>exact hb UW s1 σ H1 Q I1 q1|true=>exact⟨.bl true,H1,I1,rfl,q1⟩
theorem N9(ha:PE X a ta):PE X (.UnaryOp .Not a pos) (Ts ta):=by intro UW s σ H Q I h;refine UnaryOp_ (bS (ha UW s σ H _ I h) fun v s1 zz=>?_);obtain⟨x,H1,I1,r1,q1⟩:=zz;obtain⟨c,rfl,q1⟩:=q1;cases r1;exact not_of (Mw ⟨.bl (!c),H1,I1,rfl,q1⟩)
def tIf(t:TT)(ta tb:TE):TE:=fun σ H Q=>t σ H fun c H1=>if c=true then ta σ H1 Q else tb σ H1 Q
theorem Q2Z{c:Expr}(hc:PT X c tA)(ha:PE X a ta)(hb:PE X b tb):PE X (.IfExp c a b pos) (tIf tA ta tb):=by intro UW s σ H Q I h;refine wpAny_IfExp (bS (hc UW s σ H _ I h) fun d s1 zz=>?_);obtain⟨H1,I1,q1⟩:=zz;cases d with|true=>exact ha UW s1 σ H1 Q I1 q1|false=>exact hb UW s1 σ H1 Q I1 q1
end
def cU(K:W.Frag)(H:Hp)(a:Addr)(xs:O6):Prop:=Rd H a (.lst xs)\/∃(o:Obj)(aD:Array Value)(n:Nat),K.lookup a=some o/\o.cls=.type "list" /\ o.dict=none/\o.data=.seq aD n/\aD.size<=sizeLine/\Vals xs aD.toList
def dB(K:W.Frag)(H:Hp)(a:Addr)(xs:O6):Prop:=Rd H a (.tup xs)\/∃(o:Obj)(aD:Array Value)(n:Nat),K.lookup a=some o/\o.cls=.type "tuple" /\ o.data=.seq aD n/\aD.size<=sizeLine/\Vals xs aD.toList/\o.dict=none
def Vj:Value->Option V|.none=>some .bC|.bool b=>some (.bl b)|.int i _=>some (.int i)|.str x _=>some (.str x)|.bytes b _=>some (.Ua b)|.float b _=>some (.Ui b)|.ref a=>some (.ref a)|.type n=>some (.ty n)|_=>none
theorem RelV.abs(r:RelV x u):Vj u=some x:=by cases x with|bC=>cases r;rfl|bl _=>cases r;rfl|int _=>obtain⟨t,rfl⟩:=r;rfl|str _=>obtain⟨t,rfl⟩:=r;rfl|Ua _=>obtain⟨t,rfl⟩:=r;rfl|Ui _=>obtain⟨t,rfl⟩:=r;rfl|ref _=>cases r;rfl|ty _=>cases r;rfl
theorem RelV.inj(r:RelV x u)(q:RelV y u):x=y:=RD (r.abs.symm.trans q.abs)
theorem Vals.inj:∀{xs ys:O6}{us:RU},Vals xs us->Vals ys us->xs=ys|_,_,_,.nil,.nil=>rfl|_,_,_,.cons r t,.cons r' t'=>by rw[r.inj r',Vals.inj t t']
section
variable{X:Cx}{UW:P4}{σ:St}{H:Hp}{s:Shared}{a:Addr}{xs ys:O6}
theorem cU.of{K:W.Frag}(h:H a=some (.lst xs)):cU K H a xs:=.inl (.inl h)
theorem dB.of{K:W.Frag}(h:H a=some (.tup xs)):dB K H a xs:=.inl (.inl h)
theorem Inv.list(I:Inv X UW σ H s)(h:cU X.K H a xs):∃aD:RU,Vals xs aD/\PlainL s.heap a aD.toArray/\xs.length<=sizeLine:=by
 rcases h with h|⟨o,aD,n,hk,hc,hd,hs,hz,r⟩;obtain⟨z,aD,n,r,e⟩:=h.ok I.cg;exact⟨aD,r,⟨_,n,e,rfl,rfl,rfl⟩,z⟩;refine⟨aD.toList,r,⟨o,n,I.mP a o hk,hc,hd,by simpa using hs⟩,?_⟩;have e:=r.length;simp only[Array.length_toList] at e
 lia
theorem Inv.O5(I:Inv X UW σ H s)(h:dB X.K H a xs):∃aD:RU,Vals xs aD/\lR s.heap a aD.toArray/\xs.length<=sizeLine:=by
 rcases h with h|⟨o,aD,n,hk,hc,hs,hz,r,dn⟩;obtain⟨z,aD,r,p⟩:=h.ok I.cg;exact⟨aD,r,p,z⟩;refine⟨aD.toList,r,⟨o,I.mP a o hk,hc,⟨n,by simpa using hs⟩,dn⟩,?_⟩;have e:=r.length;simp only[Array.length_toList] at e
 lia
theorem Inv.tuple(I:Inv X UW σ H s)(h:dB X.K H a xs):∃aD:RU,Vals xs aD/\IsTup s.heap a aD.toArray/\xs.length<=sizeLine:=by obtain⟨aD,r,p,z⟩:=I.O5 h;exact⟨aD,r,p.tup,z⟩
theorem Inv.qr(I:Inv X UW σ H s)(h:cU X.K H a xs)(h':cU X.K H a ys):xs=ys:=by
 obtain⟨aD,r,⟨o,n,e,_,_,d⟩,_⟩:=I.list h;obtain⟨its',r',⟨o',n',e',_,_,d'⟩,_⟩:=I.list h';rw[e] at e';cases e';rw[d] at d';injection d' with d1 _;have:aD=its':=by simpa using congrArg Array.toList d1
 subst this;exact r.inj r'
theorem Inv.tx(I:Inv X UW σ H s)(h:dB X.K H a xs)(h':dB X.K H a ys):xs=ys:=by
 obtain⟨aD,r,⟨o,e,_,n,d⟩,_⟩:=I.tuple h;obtain⟨its',r',⟨o',e',_,n',d'⟩,_⟩:=I.tuple h';rw[e] at e';cases e';rw[d] at d';injection d' with d1 _;have:aD=its':=by simpa using congrArg Array.toList d1
 subst this;exact r.inj r'
end
abbrev Cx.oT(X:Cx)(E:UI):Cx:={X with xe:=E}
abbrev Cx.Kt(X:Cx):Cx:=X.oT fun _ _=>False
theorem Cx.Ok.oT{X:Cx}(ok:X.Ok)(E:UI):(X.oT E).Ok:=⟨ok.mod,ok.kind,ok.glob,ok.blt,ok.above,ok.inj,ok.has,ok.QB,ok.hd,ok.frames,ok.UX,ok.Uh,ok.bs,ok.FV,ok.Eu,ok.Di,ok.nj,ok.J4⟩
theorem Cx.Ok.jv{X:Cx}{E:UI}(ok:(X.oT E).Ok):X.Ok:=⟨ok.mod,ok.kind,ok.glob,ok.blt,ok.above,ok.inj,ok.has,ok.QB,ok.hd,ok.frames,ok.UX,ok.Uh,ok.bs,ok.FV,ok.Eu,ok.Di,ok.nj,ok.J4⟩
section
variable{X:Cx}{UW:P4}{σ:St}{H:Hp}{s:Shared}{E:UI}
theorem Inv.oT(I:Inv X UW σ H s)(E:UI):Inv (X.oT E) UW σ H s:=⟨I.ok.oT E,I.os,I.bare,I.base,I.loc,I.cell,I.free,I.kZ,I.pin,I.cg,I.len⟩
theorem Inv.jv(I:Inv (X.oT E) UW σ H s):Inv X UW σ H s:=⟨I.ok.jv,I.os,I.bare,I.base,I.loc,I.cell,I.free,I.kZ,I.pin,I.cg,I.len⟩
theorem SP.jv(h:SP (X.oT E) UW D f s'):SP X UW D f s':=by cases f with|next=>obtain⟨bE,H',I,q⟩:=h;exact⟨bE,H',I.jv,q⟩|brk=>obtain⟨bE,H',I,q⟩:=h;exact⟨bE,H',I.jv,q⟩|cont=>obtain⟨bE,H',I,q⟩:=h;exact⟨bE,H',I.jv,q⟩|ret u=>obtain⟨v,bE,H',I,r,q⟩:=h;exact⟨v,bE,H',I.jv,r,q⟩
theorem wJ.Kt{st:List Stmt}{t:TS}(h:wJ X.Kt st t):wJ X st t:=fun UW s σ H D I hw=>RX (h UW s σ H D (I.oT _) hw) (fun _ _ q=>q.jv) fun _ _ z=>False.elim z
end
section
variable{X:Cx}{st:Stmt}{rest:List Stmt}{t u:TS}{e:Expr}{te:TE}{pos:Pos}
def Tq:TS:=fun D σ H=>D.nx σ H
def Q01(t u:TS):TS:=fun D σ H=>t {D with nx:=u D} σ H
theorem Q0v:wJ X [] Tq:=fun _ _ σ H _ I h=>wpAny_execs_nil ⟨σ,H,I,h⟩
theorem E1(h1:PS X st t)(h2:wJ X rest u):wJ X (st::rest) (Q01 t u):=by intro UW s σ H D I h;refine wpAny_execs_cons (bS (h1 UW s σ H {D with nx:=u D} I h) fun f s1 q=>?_);cases f with|next=>obtain⟨bE,H',I',q⟩:=q;exact h2 UW s1 bE H' D I' q|ret v=>exact q|brk=>exact q|cont=>exact q
theorem Inv.quiet{UW:P4}{σ:St}{H:Hp}{s:Shared}(I:Inv X UW σ H s):interactive X.env=false:=by simp[interactive,I.ok.kind]
def Tp(te:TE):TS:=fun D σ H=>te σ H fun _ H1=>D.nx σ H1
theorem uC(he:PE X e te)(hs:swapsWith e none pos.line X.env=pure false:=by rfl):PS X (.Expr e pos) (Tp te):=by intro UW s σ H D I h;exact wpAny_Expr_any (bS (he UW s σ H _ I h) fun v s1 ⟨x,H1,I1,r1,q1⟩=>⟨σ,H1,I1,q1⟩) I.quiet hs
def Xi(te:TE):TS:=fun D σ H=>te σ H D.rt
theorem Ol(he:PE X e te):PS X (.Return (some e) pos) (Xi te):=by intro UW s σ H D I h;exact wpAny_Return_some (bS (he UW s σ H _ I h) fun v s1 ⟨x,H1,I1,r1,q1⟩=>⟨x,σ,H1,I1,r1,q1⟩)
def Xe(c:TT)(t u:TS):TS:=fun D σ H=>c σ H fun b H1=>if b=true then t D σ H1 else u D σ H1
theorem SS{c:Expr}{a b:List Stmt}{tc:TT}(hc:PT X c tc)(ha:wJ X a t)(hb:wJ X b u):PS X (.If c a b pos) (Xe tc t u):=by intro UW s σ H D I h;refine wpAny_If (bS (hc UW s σ H _ I h) fun d s1 zz=>?_);obtain⟨H1,I1,q1⟩:=zz;cases d with|true=>exact ha UW s1 σ H1 D I1 q1|false=>exact hb UW s1 σ H1 D I1 q1
end
abbrev TG:=V->St->Hp->(St->Hp->Prop)->Prop
abbrev JJ:=List V->St->Hp->(St->Hp->Prop)->Prop
def PG(X:Cx)(target:Expr)(t:TG):Prop:=∀(UW:P4)(s:Shared)(σ:St)(H:Hp)(v:V)(u:Value)(Q:St->Hp->Prop),Inv X UW σ H s->RelV v u->t v σ H Q->wpAny (model X.prog X.w) X.A (assign target X.env u) (fun _ s'=>∃bE H',Inv X UW bE H' s'/\Q bE H') X.xe s
def FT(X:Cx)(ts:W3)(t:JJ):Prop:=∀(UW:P4)(s:Shared)(σ:St)(H:Hp)(vs:O6)(us:RU)(Q:St->Hp->Prop),Inv X UW σ H s->Vals vs us->t vs σ H Q->wpAny (model X.prog X.w) X.A (assignInOrder ((assignEach ts X.env).map (·.2)) us) (fun _ s'=>∃bE H',Inv X UW bE H' s'/\Q bE H') X.xe s
abbrev K1:=V->V->V->Hp->(Hp->Prop)->Prop
def Ql(X:Cx)(t:K1):Prop:=∀(UW:P4)(s:Shared)(σ:St)(H:Hp)(o i v:V)(ov iv u:Value)(Q:Hp->Prop),Inv X UW σ H s->RelV o ov->RelV i iv->RelV v u->t o i v H Q->wpAny (model X.prog X.w) X.A (setItem ov iv u) (fun _ s'=>∃H',Inv X UW σ H' s'/\Q H') X.xe s
section
variable{X:Cx}{pos:Pos}
def MD(i:Nat):TG:=fun v σ H Q=>Q (σ.set i (some v)) H
theorem Aa(hN:X.N.Nodup)(hi:X.N[i]?=some x)(hx:Loc X.env.scope x)(hf:X.fn x=true\/X.env.scope.names.lookup x=some .local:=by exact NP):PG X (.Name x pos) (MD i):=by intro UW s σ H v u Q I r h;exact Lm (wq I hN hi hx r (fun s' I'=>⟨_,H,I',h⟩) hf)
def VA:JJ:=fun vs σ H Q=>vs=[]/\Q σ H
def QO(t:TG)(u:JJ):JJ:=fun vs σ H Q=>∃v r,vs=v::r/\t v σ H fun bE H'=>u r bE H' Q
theorem Q28:FT X [] VA:=by intro UW s σ H vs us Q I r h;obtain⟨e,h⟩:=h;subst e;cases r;exact assignInOrder_nil ⟨σ,H,I,h⟩
theorem ET{e:Expr}{es:W3}{t:TG}{u:JJ}(h1:PG X e t)(h2:FT X es u)(hs:(assignEach (e::es) X.env).map (·.2)=assign e X.env::(assignEach es X.env).map (·.2):=by rfl):FT X (e::es) (QO t u):=by intro UW s σ H vs us Q I r h;obtain⟨v,vr,e1,h⟩:=h;subst e1;cases r with|cons r rr=>rw[hs];refine assignInOrder_cons (bS (h1 UW s σ H _ _ _ I r h) fun _ s1 zz=>?_);obtain⟨KQ,H1,I1,q1⟩:=zz;exact h2 UW s1 KQ H1 _ _ Q I1 rr q1
def Q2l(K:W.Frag)(n:Nat)(t:JJ):TG:=fun v σ H Q=>∃a xs,v=.ref a/\dB K H a xs/\xs.length=n/\t xs σ H Q
theorem Od{es:W3}{k:Nat}{t:JJ}{n:Nat}(hc:X.calm=true)(h:FT X es t)(hn:(assignEach es X.env).length=n:=by rfl) (jI:(assignEach es X.env).findIdx? (·.1)=none:=by rfl):PG X (.Tuple es k pos) (Q2l X.K n t):=by intro UW s σ H v u Q I r hw;obtain⟨a,xs,e1,hq,hl,hw⟩:=hw;subst e1;cases r;obtain⟨aD,rv,ht,hz⟩:=I.tuple hq;refine assign_Tuple_tuple (I.ok.hd hc) ht (by simp[hn,<-hl,rv.length]) jI fun h' hx=>?_;have I1:Inv X UW σ H {s with heap:=h'}:=I.kept (t':=s.toks) fun b o e=>hx b o (Vz (UG e)) e;exact h UW _ σ H xs _ Q I1 (by simpa using rv) hw
def VB(to ti:TE)(t:K1):TG:=fun v σ H Q=>to σ H fun o H1=>ti σ H1 fun i H2=>t o i v H2 fun H3=>Q σ H3
theorem Q1d{o i:Expr}{to ti:TE}{t:K1}(ho:PE X o to)(hi:PE X i ti)(hs:Ql X t)(ha:∀v,assign (.Subscript o i pos) X.env v=(do
  let ov <-holding [v] (eval o X.env);let iv <-holding [v,ov] (eval i X.env)
  standAt pos
  holding [v,ov,iv] (setItem ov iv v)
  release [v,ov,iv] []):=by exact Bz):PG X (.Subscript o i pos) (VB to ti t):=by
 intro UW s σ H v u Q I r h;rw[ha];refine U0 (OP (bS (ho UW s σ H _ I h) fun ov s1 zz=>?_));obtain⟨x,H1,I1,r1,q1⟩:=zz;refine U0 (OP (bS (hi UW s1 σ H1 _ I1 q1) fun iv s2 zz=>?_));obtain⟨y,H2,I2,r2,q2⟩:=zz;refine U0 (LZ (U0 (OP (bS (hs UW s2 σ H2 x y v ov iv u _ I2 r1 r2 r q2) fun _ s3 zz=>?_))));obtain⟨H3,I3,q3⟩:=zz;exact wpAny_release ⟨σ,H3,I3,q3⟩
def Tg(te:TE)(g:TG):TS:=fun D σ H=>te σ H fun x H1=>g x σ H1 D.nx
theorem Oh{tg e:Expr}{te:TE}{g:TG}(he:PE X e te)(hg:PG X tg g)(hs:swapsWithSole [tg] e pos.line X.env=pure false:=by rfl)(hw:swappedStores [tg] e X.env=pure none:=by rfl)(h1:(assignEach [tg] X.env).map (·.2)=[assign tg X.env]:=by rfl):PS X (.Assign [tg] e pos) (Tg te g):=by intro UW s σ H D I h;refine wpAny_Assign_stores (bS (he UW s σ H _ I h) fun v s1 zz=>?_) hs hw;obtain⟨x,H1,I1,r1,q1⟩:=zz;rw[h1];exact bS (hg UW s1 σ H1 x v _ I1 r1 q1) fun _ s2 q=>q
theorem EZ{i:Nat}{x:Str}{e:Expr}{te:TE}{Wu:Pos}(hN:X.N.Nodup)(hi:X.N[i]?=some x)(hx:Loc X.env.scope x)(he:PE X e te)(hs:swapsWith e (some (.Name x Wu)) pos.line X.env=pure false:=by rfl)(hf:X.fn x=true\/X.env.scope.names.lookup x=some .local:=by exact NP) : PS X (.Assign [.Name x Wu] e pos) (Tg te (MD i)):=by intro UW s σ H D I h;refine wpAny_Assign_Name (bS (he UW s σ H _ I h) fun v s1 zz=>?_) hs;obtain⟨y,H1,I1,r1,q1⟩:=zz;exact wq I1 hN hi hx r1 (fun s2 I2=>⟨_,H1,I2,q1⟩) hf
end
section
variable{X:Cx}{pos:Pos}
def OY(c:TT)(tb:TS):TS:=fun D σ H=>∃W:Nat->St->Hp->Prop,(∃m,W m σ H)/\∀m σ H,W m σ H->c σ H fun b H1=>if b=true then ∃N:St->Hp->Prop,(∀bE H',N bE H'->∃m',m'<m/\W m' bE H')/\tb {D with nx:=N,ct:=N,bk:=D.nx} σ H1 else D.nx σ H1
theorem Q1t{c:Expr}{body:List Stmt}{tc:TT}{tb:TS}(hp:PassesOwn (model X.prog X.w) X.A X.env X.xe)(hc:PT X c tc)(hb:wJ X body tb):PS X (.While c body [] pos) (OY tc tb):=by
 intro UW s σ H D I h;obtain⟨W,⟨m0,w0⟩,turn⟩:=h;refine wpAny_While (codeAny_whileLoop (fun n s'=>∃bE H',Inv X UW bE H' s'/\W n bE H') ?_ m0 ⟨σ,H,I,w0⟩);rintro n s1 ⟨KQ,H1,I1,w1⟩;refine Ip hp (bS (hc UW s1 KQ H1 _ I1 (turn n KQ H1 w1)) fun b s2 zz=>?_);obtain⟨H2,I2,q2⟩:=zz;cases b with
 |true=>obtain⟨N,hN,q2⟩:=q2;rw[Ge rfl];refine Ip hp (bS (hb UW s2 KQ H2 _ I2 q2) fun f s3 q3=>?_);cases f with|next=>obtain⟨FO,H3,I3,n3⟩:=q3;obtain⟨m',hm,w3⟩:=hN FO H3 n3;exact⟨m',hm,FO,H3,I3,w3⟩|cont=>obtain⟨FO,H3,I3,n3⟩:=q3;obtain⟨m',hm,w3⟩:=hN FO H3 n3;exact⟨m',hm,FO,H3,I3,w3⟩|brk=>exact q3|ret v=>exact q3
 |false=>rw[UE BC];exact wpAny_execs_nil ⟨KQ,H2,I2,q2⟩
end
structure It where
 go:Nat->Hp->Prop
 U1:Nat->Hp->V->Hp->Prop
 stop:Nat->Hp->Prop
def jG(X:Cx)(UW:P4)(H:Hp)(b:Addr):Prop:=H b=none/\b≠X.env.locals/\b∉X.fs/\(b∈X.ex\/X.s₀.heap.objs.size<=b)/\(∀x c,X.env.cells.lookup x=some c->c≠b)/\∀p∈X.pn++UW,p.1≠b
theorem Inv.p8{X:Cx}{UW:P4}{σ:St}{H H':Hp}{s:Shared}{b:Addr}(I:Inv X UW σ H s)(hb:s.heap.objs.size<=b)(hn:H' b=none):jG X UW H' b:=by refine⟨hn,Mv (US I.lt hb),I.WR hb,.inr (DT I.sz hb),fun x c e z=>?_,fun p hp z=>?_⟩;obtain⟨v,q⟩:=I.cell x c e;exact absurd (US q.lt (by rw[z];exact hb)) (nJ _);exact absurd (US (UG (I.pin p hp).1) (by rw[z];exact hb)) (nJ _)
structure Turn(P:Program)(w:World)(K:W.Frag)(tg:Expr)(J:It)(fp:Xr)(it:Addr)(tn:Nat->Heap->Prop):Prop where
 mem:it∈fp
 obj:∀i h,tn i h->∀b∈fp,∃o,h.get? b=some o/\∀v,o.data≠.cell v
 keep:∀i h h',tn i h->(∀b∈fp,∀o,h.get? b=some o->h'.get? b=some o)->tn i h'
 item:∀(X:Cx),X.prog=P->X.w=w->X.K=K->X.calm=true->∀(i:Nat)(UW:P4)(s:Shared)(σ:St)(H:Hp)(E:UI),Inv X UW σ H s->(∀b∈fp,jG X UW H b)->tn i s.heap->J.go i H->wpAny (model P w) X.A (pyNext (.ref it)) (fun r s1=>∃u,r=some u/\wpAny (model P w) X.A (letOwnedTupleGo tg (.ref it) u) (fun _ s2=>∃x H',Inv X UW σ H' s2/\RelV x u/\J.U1 i H x H'/\tn (i+1) s2.heap/\∀b∈fp,H' b=none) E s1) E s
 done:∀(X:Cx),X.prog=P->X.w=w->X.K=K->X.calm=true->∀(i:Nat)(UW:P4)(s:Shared)(σ:St)(H:Hp)(E:UI),Inv X UW σ H s->(∀b∈fp,jG X UW H b)->tn i s.heap->J.stop i H->wpAny (model P w) X.A (pyNext (.ref it)) (fun r s1=>r=none/\Inv X UW σ H s1) E s
 self:∀(A:Around)(i:Nat)(s:Shared)(Q:UI)(E:UI),tn i s.heap->Q (.ref it) s->wpAny (model P w) A (pyIter (.ref it)) Q E s
abbrev TI:=St->Hp->(It->Hp->Prop)->Prop
def XC(X:Cx)(UW:P4)(σ:St)(tg:Expr)(R:It->Hp->Prop)(Ww:Value)(s2:Shared):Prop:=∃(it:Addr)(fp:Xr)(tn:Nat->Heap->Prop)(J:It)(H':Hp),Ww=.ref it/\Inv X UW σ H' s2/\Turn X.prog X.w X.K tg J fp it tn/\tn 0 s2.heap/\(∀b∈fp,jG X UW H' b)/\R J H'
def PI(X:Cx)(tg UD:Expr)(wi:TI):Prop:=∀(UW:P4)(s:Shared)(σ:St)(H:Hp)(R:It->Hp->Prop),Inv X UW σ H s->wi σ H R->wpAny (model X.prog X.w) X.A (eval UD X.env) (fun v s1=>wpAny (model X.prog X.w) X.A (pyIter v) (XC X UW σ tg R) X.xe s1) X.xe s
theorem sM(ho:s.heap.get? it=some o)(hc:o.cls=.type n)(hd:o.data=.fields vs)
    (hn:["enumerate","zip","dict_itemiterator","dict_reverseitemiterator","odict_iterator","itertools.zip_longest","itertools.pairwise"].contains n=false) (hQ:Q () s):wpAny M A (letOwnedTupleGo tg (.ref it) u) Q E s:=by
  unfold letOwnedTupleGo
  cases tg<;>first
    |exact Qo hQ
    | (cases u<;>first
        |exact Qo hQ
        | (refine U0 (wpAny_load ho ?_)
           rw[hc,hd]
           show wpAny M A (if (["enumerate","zip","dict_itemiterator","dict_reverseitemiterator","odict_iterator","itertools.zip_longest","itertools.pairwise"].contains n&&vs[0]? == some (rawInt _))=true then _ else _) Q E s
           rw[UE (by intro h;rw[hn,Bool.false_and] at h;cases h)]
           exact Qo hQ))
def Vc(K:W.Frag)(a:Addr):It:=⟨fun i H=>∃xs x,cU K H a xs/\xs[i]?=some x,fun i H x H'=>H'=H/\∀xs,cU K H a xs->xs[i]?=some x,fun i H=>∃xs,cU K H a xs/\xs.length<=i⟩
def Vd(K:W.Frag)(a:Addr):It:=⟨fun i H=>∃xs x,dB K H a xs/\xs[i]?=some x,fun i H x H'=>H'=H/\∀xs,dB K H a xs->xs[i]?=some x,fun i H=>∃xs,dB K H a xs/\xs.length<=i⟩
def TY(lo:Int)(n:Nat):It:=⟨fun i _=>i<n,fun i H x H'=>H'=H/\x=.int (lo+i),fun i _=>n<=i⟩
theorem BF{P:Program}{w:World}{K:W.Frag}{tg:Expr}(a it:Addr):Turn P w K tg (Vc K a) [it] it (fun i h=>h.IsListIter it a i) where
 mem:=G9
 obj:=fun i h st b hb=>by
  have e:b=it:=by simpa using hb
  subst e;obtain⟨o,e,c,d⟩:=st;exact⟨o,e,fun v z=>by rw[d] at z;cases z⟩
 keep:=fun i h h' st k=>st.at fun o e=>k it G9 o e
 item:=by intro X hP hw hK hc i UW s σ H E I hf st hg;subst hP hw hK;obtain⟨xs,x,hq,hx⟩:=hg;obtain⟨aD,rv,p,hz⟩:=I.list hq;obtain⟨u,hu,ru⟩:=rv.get hx;obtain⟨f0,f1,f2,f3,f4,f5⟩:=hf it G9;refine wpAny_pyNext_list_item st p.isList (x:=u) (by simpa using hu) fun h' oQ sb=>?_;have I1:Inv X UW σ H {s with heap:=h'}:=I.turned (t':=s.toks) (fun b o hb e=>(sb.2 b hb).trans e) f0 f1 f3 f4 f5;obtain⟨o,e,c,d⟩:=id oQ;exact⟨u,rfl,sM (s:={s with heap:=h'}) e c d (by decide) ⟨x,H,I1,ru,⟨rfl,fun ys hy=>by rw[I.qr hy hq];exact hx⟩,oQ,fun b hb=>(hf b hb).1⟩⟩
 done:=by intro X hP hw hK hc i UW s σ H E I hf st hg;subst hP hw hK;obtain⟨xs,hq,hx⟩:=hg;obtain⟨aD,rv,p,hz⟩:=I.list hq;obtain⟨f0,f1,f2,f3,f4,f5⟩:=hf it G9;have hl:=rv.length;exact wpAny_pyNext_list_end (I.ok.hd hc) st p.isList (by simp;lia) fun h' eb=>⟨rfl,I.turned (t':=s.toks) (fun b o hb e=>eb b o hb e) f0 f1 f3 f4 f5⟩
 self:=fun _ _ _ _ _ st h=>wpAny_pyIter_listiter st h
theorem yB{P:Program}{w:World}{K:W.Frag}{tg:Expr}(a it:Addr):Turn P w K tg (Vd K a) [it] it (fun i h=>h.IsTupleIter it a i) where
 mem:=G9
 obj:=fun i h st b hb=>by
  have e:b=it:=by simpa using hb
  subst e;obtain⟨o,e,c,d⟩:=st;exact⟨o,e,fun v z=>by rw[d] at z;cases z⟩
 keep:=fun i h h' st k=>st.at fun o e=>k it G9 o e
 item:=by intro X hP hw hK hc i UW s σ H E I hf st hg;subst hP hw hK;obtain⟨xs,x,hq,hx⟩:=hg;obtain⟨aD,rv,p,hz⟩:=I.tuple hq;obtain⟨u,hu,ru⟩:=rv.get hx;obtain⟨f0,f1,f2,f3,f4,f5⟩:=hf it G9;refine wpAny_pyNext_tuple_item st (show s.heap.IsTuple a aD.toArray from p) (x:=u) (by simpa using hu) fun h' oQ sb=>?_;have I1:Inv X UW σ H {s with heap:=h'}:=I.turned (t':=s.toks) (fun b o hb e=>(sb.2 b hb).trans e) f0 f1 f3 f4 f5;obtain⟨o,e,c,d⟩:=id oQ;exact⟨u,rfl,sM (s:={s with heap:=h'}) e c d (by decide) ⟨x,H,I1,ru,⟨rfl,fun ys hy=>by rw[I.tx hy hq];exact hx⟩,oQ,fun b hb=>(hf b hb).1⟩⟩
 done:=by intro X hP hw hK hc i UW s σ H E I hf st hg;subst hP hw hK;obtain⟨xs,hq,hx⟩:=hg;obtain⟨aD,rv,p,hz⟩:=I.tuple hq;obtain⟨f0,f1,f2,f3,f4,f5⟩:=hf it G9;have hl:=rv.length;exact wpAny_pyNext_tuple_end (I.ok.hd hc) st (show s.heap.IsTuple a aD.toArray from p) (by simp;lia) fun h' eb=>⟨rfl,I.turned (t':=s.toks) (fun b o hb e=>eb b o hb e) f0 f1 f3 f4 f5⟩
 self:=fun _ _ _ _ _ st h=>wpAny_pyIter_tupleiter st h
theorem yA{P:Program}{w:World}{K:W.Frag}{tg:Expr}(it:Addr)(lo:Int)(n:Nat):Turn P w K tg (TY lo n) [it] it (fun i h=>IsRangeIter h it (lo+(i:Nat)*1) ((n:Int)-(i:Nat)) 1) where
 mem:=G9
 obj:=fun i h st b hb=>by
  have e:b=it:=by simpa using hb
  subst e;exact⟨_,st,fun v z=>by have z':Data.fields _=Data.cell v:=z;cases z'⟩
 keep:=fun i h h' st k=>k it G9 _ st
 item:=by intro X hP hw hK hc i UW s σ H E I hf st hg;subst hP hw hK;obtain⟨f0,f1,f2,f3,f4,f5⟩:=hf it G9;have W:=Walks.range (prog:=X.prog) (w:=X.w) (I.ok.hd hc) it lo 1 n;refine W.item i s _ _ hg st fun v h' tk hv oQ kk=>?_;obtain⟨t,rfl⟩:=hv;have I1:Inv X UW σ H {s with heap:=h',toks:=tk}:=I.turned (fun b o hb e=>kk b o (by simpa using hb) e) f0 f1 f3 f4 f5;refine⟨_,rfl,sM (s:={s with heap:=h',toks:=tk}) (n:="range_iterator") oQ rfl rfl (by decide) ⟨.int (lo+i),H,I1,⟨t,?_⟩,⟨rfl,rfl⟩,oQ,fun b hb=>(hf b hb).1⟩⟩;rw[Int.mul_one]
 done:=by intro X hP hw hK hc i UW s σ H E I hf st hg;subst hP hw hK;obtain⟨f0,f1,f2,f3,f4,f5⟩:=hf it G9;exact wpAny_pyNext_range_end (I.ok.hd hc) st (by have:n<=i:=hg;lia) fun h' eb=>⟨rfl,I.turned (t':=s.toks) (fun b o hb e=>eb b o hb e) f0 f1 f3 f4 f5⟩
 self:=fun _ _ _ _ _ st h=>wpAny_pyIter_rangeiter st h
section
variable{X:Cx}{tg:Expr}
theorem Fc{UW:P4}{σ:St}{H:Hp}{s:Shared}{R:It->Hp->Prop}{E:UI}{lo hi:Int}{t u v:Tok}{tk:Nat}(I:Inv X UW σ H s)(h1:-(2 ^ 62)<=lo)(h2:lo<2 ^ 62)(h3:-(2 ^ 62)<=hi)(h4:hi<2 ^ 62)(q:R (TY lo (hi-lo).toNat) H):wpAny (model X.prog X.w) X.A (pyIter (.ref s.heap.objs.size)) (XC X UW σ tg R) E {s with heap:=s.heap.push {cls:=.type "range",data:=.fields #[.int lo t,.int hi u,.int 1 v]},toks:=tk}:=by
 refine wpAny_pyIter_range (IsRange.new ..) (small_one h1 h2 h3 h4) ?_;have I1:Inv X UW σ H {s with heap:=s.heap.push {cls:=.type "range",data:=.fields #[.int lo t,.int hi u,.int 1 v]},toks:=tk}:=I.kept fun b o e=>WL _ e;refine⟨(s.heap.push {cls:=.type "range",data:=.fields #[.int lo t,.int hi u,.int 1 v]}).objs.size,[(s.heap.push {cls:=.type "range",data:=.fields #[.int lo t,.int hi u,.int 1 v]}).objs.size],_,_,H,rfl,I1.kept (t':=tk) fun b o e=>WL _ e,yA _ lo (hi-lo).toNat,?_,fun b hb=>?_,q⟩;have e1:lo+((0:Nat):Int)*1=lo:=G9;have e2:(((hi-lo).toNat:Nat):Int)-((0:Nat):Int)=Builtin.Range.rangeSize lo hi 1:=by rw[rangeSize_one];split<;>lia
 show IsRangeIter _ _ (lo+((0:Nat):Int)*1) ((((hi-lo).toNat:Nat):Int)-((0:Nat):Int)) 1;rw[e1,e2];exact PQ _ rfl;have e:b=(s.heap.push {cls:=.type "range",data:=.fields #[.int lo t,.int hi u,.int 1 v]}).objs.size:=by simpa using hb
 subst e;exact I1.p8 (Uj _) (I1.cg.fresh (Uj _))
def Rr(ta:TA):TI:=fun σ H R=>ta σ H fun vs H1=>∃j:Int,vs=[.int j]/\-(2 ^ 62)<=j/\j<2 ^ 62/\R (TY 0 j.toNat) H1
theorem Bn{a:Expr}{ta:TA}{p pos:Pos}(hg:Gl X "range")(hm:X.mg "range" = none)(ha:PA X [a] ta)(hs:starEach [a] X.env=[(false,eval a X.env)]:=by rfl):PI X tg (.Call (.Name "range" p) [a] [] pos) (Rr ta):=by intro UW s σ H R I h;refine Call_ (dX I hg hm boot_range (YY (bS (ha pos UW s σ H _ I h) fun us s1 zz=>?_) hs rfl));obtain⟨vs,H1,I1,r1,q1⟩:=zz;obtain⟨j,e,q1,q2,q⟩:=q1;subst e;cases r1 with|cons r rr=>cases rr;obtain⟨t,rfl⟩:=r;exact call_range_1 (Fc I1 T9 T9 q1 q2 (by simpa using q))
def Q2N(wi:TI)(g:TG)(tb:TS):TS:=fun D σ H=>wi σ H fun J H1=>∃W:Nat->Nat->St->Hp->Prop,(∃m,W 0 m σ H1)/\∀i m σ H,W i m σ H->(J.stop i H/\D.nx σ H)\/(J.go i H/\∃N:St->Hp->Prop,(∀bE H',N bE H'->∃m',m'<m/\W (i+1) m' bE H')/\∀x H',J.U1 i H x H'->g x σ H' fun U6 H2=>tb {D with nx:=N,ct:=N,bk:=D.nx} U6 H2)
def qJ(fp:Xr)(h:Heap):P4:=fp.filterMap fun b=>(h.get? b).map fun o=>(b,o)
theorem jn(hb:b∈fp)(e:h.get? b=some o):(b,o)∈qJ fp h:=List.mem_filterMap.mpr ⟨b,hb,by rw[e];rfl⟩
theorem Bi(hp:p∈qJ fp h):p.1∈fp/\h.get? p.1=some p.2:=by obtain⟨b,hb,e⟩:=List.mem_filterMap.mp hp;cases q:h.get? b with|none=>rw[q] at e;cases e|some o=>rw[q] at e;have e':(b,o)=p:=RD e;subst e';exact⟨hb,q⟩
theorem Inv.pinned{UW:P4}{σ:St}{H:Hp}{s:Shared}{fp:Xr}(I:Inv X UW σ H s)(hf:∀b∈fp,jG X UW H b)(ho:∀b∈fp,∃o,s.heap.get? b=some o/\∀v,o.data≠.cell v):Inv X (UW++qJ fp s.heap) σ H s:=I.Ac fun p hp=>(List.mem_append.mp hp).elim (fun z=>I.pin p (O9 _ z)) fun z=>by obtain⟨hb,e⟩:=Bi z;obtain⟨f0,f1,f2,_⟩:=hf p.1 hb;obtain⟨o,e',d⟩:=ho p.1 hb;rw[e] at e';cases e';exact⟨e,f0,f1,f2,d⟩
theorem Inv.mJ{UW pl:P4}{σ:St}{H:Hp}{s:Shared}(I:Inv X (UW++pl) σ H s):Inv X UW σ H s:=I.Ac fun p hp=>I.pin p (O9 _ (List.mem_append_left _ hp))
theorem Oj{UD:Expr}{body:List Stmt}{wi:TI}{g:TG}{tb:TS}{pos:Pos}(hp:PassesOwn (model X.prog X.w) X.A X.env X.xe)(hc:X.calm=true)(hi:PI X tg UD wi)(hg:PG X tg g)(hb:wJ X body tb)(hs:∀x,foldedSetIterable UD X.env x=pure x:=by exact Bz):PS X (.For tg UD body [] pos) (Q2N wi g tb):=by
 intro UW s σ H D I h;refine wpAny_For (bS (hi UW s σ H _ I h) fun v s1 h1=>bS h1 fun Ww s2 h2=>?_) hs;obtain⟨it,fp,tn,J,H2,e,I2,T,yp,f2,W,⟨m0,w0⟩,turn⟩:=h2;subst e;have yr:∀{H':Hp},(∀b∈fp,H' b=none)->∀b∈fp,jG X UW H' b:=fun hn b hb=>⟨hn b hb,(f2 b hb).2⟩;refine codeAny_forLoop_any (fun n s'=>∃i bE H',Inv X UW bE H' s'/\tn i s'.heap/\(∀b∈fp,H' b=none)/\W i n bE H') ?_ m0 ⟨0,σ,H2,I2,yp,fun b hb=>(f2 b hb).1,w0⟩;rintro n s3 ⟨i,FO,H3,I3,YI,XW,w3⟩;rcases turn i n FO H3 w3 with ⟨stop,qn⟩|⟨go,N,hN,step⟩
 ·refine Ip hp (bS (T.done X rfl rfl rfl hc i UW s3 FO H3 X.xe I3 (yr XW) YI stop) fun r s4 ⟨hr,I4⟩=>?_);subst hr;exact wpAny_execs_nil ⟨FO,H3,I4,qn⟩
 ·refine Ip hp (bS (T.item X rfl rfl rfl hc i UW s3 FO H3 X.xe I3 (yr XW) YI go) fun r s4 zz=>?_);obtain⟨u,hr,h4⟩:=zz;subst hr;refine Ip hp (bS h4 fun _ s5 zz=>?_);obtain⟨x,H5,I5,r5,y5,W7,Y9⟩:=zz;have YT:=I5.pinned (yr Y9) (T.obj _ _ W7);refine Ip hp (bS (hg _ s5 FO H5 x u _ YT r5 (step x H5 y5)) fun _ s6 zz=>?_);obtain⟨σ6,H6,I6,q6⟩:=zz;refine Ip hp (bS (hb _ s6 σ6 H6 _ I6 q6) fun f s7 q7=>?_);have again:∀{mR:St}{H7:Hp},Inv X (UW++qJ fp s5.heap) mR H7 s7->N mR H7->∃m,m<n/\∃i bE H',Inv X UW bE H' s7/\tn i s7.heap/\(∀b∈fp,H' b=none)/\W i m bE H':=fun {mR H7} I7 n7=>by obtain⟨m',hm,w7⟩:=hN mR H7 n7;refine⟨m',hm,i+1,mR,H7,I7.mJ,T.keep _ _ _ W7 fun b hb o e=>(I7.pin (b,o) (O9 _ (O9 _ (jn hb e)))).1,fun b hb=>?_,w7⟩;obtain⟨o,e,d⟩:=T.obj _ _ W7 b hb;exact(I7.pin (b,o) (O9 _ (O9 _ (jn hb e)))).2.1
  cases f with|next=>obtain⟨mR,H7,I7,n7⟩:=q7;exact again I7 n7|cont=>obtain⟨mR,H7,I7,n7⟩:=q7;exact again I7 n7|brk=>obtain⟨mR,H7,I7,q7⟩:=q7;exact⟨mR,H7,I7.mJ,q7⟩|ret v=>obtain⟨x7,mR,H7,I7,r7,q7⟩:=q7;exact⟨x7,mR,H7,I7.mJ,r7,q7⟩
end
abbrev R2:=V->V->Hp->VK->Prop
def gC(X:Cx)(f:Value->Value->Sem Value)(r:R2):Prop:=∀(UW:P4)(s:Shared)(σ:St)(H:Hp)(x y:V)(v u:Value)(Q:VK),Inv X UW σ H s->RelV x v->RelV y u->r x y H Q->wpAny (model X.prog X.w) X.A (f v u) (EP X UW σ Q) X.xe s
def T7(X:Cx)(f:Value->Sem Value)(r:V->Hp->VK->Prop):Prop:=∀(UW:P4)(s:Shared)(σ:St)(H:Hp)(x:V)(v:Value)(Q:VK),Inv X UW σ H s->RelV x v->r x H Q->wpAny (model X.prog X.w) X.A (f v) (EP X UW σ Q) X.xe s
def dF(X:Cx)(f:Value)(r:O6->Hp->VK->Prop):Prop:=∀(UW:P4)(s:Shared)(σ:St)(H:Hp)(xs:O6)(us:RU)(Q:VK),Inv X UW σ H s->Vals xs us->r xs H Q->wpAny (model X.prog X.w) X.A (call f us) (EP X UW σ Q) X.xe s
def KH(r:R2)(ta tb:TE):TE:=fun σ H Q=>ta σ H fun x H1=>tb σ H1 fun y H2=>r x y H2 Q
def tUn(r:V->Hp->VK->Prop)(ta:TE):TE:=fun σ H Q=>ta σ H fun x H1=>r x H1 Q
def rI(C:Int->Int->Prop)(g:Int->Int->V):R2:=fun x y H Q=>∃i j,x=.int i/\y=.int j/\C i j/\Q (g i j) H
def wc(g:Int->Int->V):R2:=fun x y H Q=>∃i j,x=.int i/\y=.int j/\Q (g i j) H
def rU(g:Int->V):V->Hp->VK->Prop:=fun x H Q=>∃i,x=.int i/\Q (g i) H
section
variable{X:Cx}{a b c:Expr}{ta tb tc:TE}{pos:Pos}
theorem Ld(ha:PE X a ta)(hb:PE X b tb){UW:P4}{s:Shared}{σ:St}{H:Hp}{R:V->V->Hp->Prop}(I:Inv X UW σ H s)
  (h:ta σ H fun x H1=>tb σ H1 fun y H2=>R x y H2) {Q:UI} {f:Value->Value->Sem Value}
  (hf:∀v u s2 x y H2,Inv X UW σ H2 s2->RelV x v->RelV y u->R x y H2->wpAny (model X.prog X.w) X.A (f v u) Q X.xe s2) :
  wpAny (model X.prog X.w) X.A (eval a X.env) (fun v bA=>wpAny (model X.prog X.w) X.A (eval b X.env) (fun u rN=>wpAny (model X.prog X.w) X.A (f v u) Q X.xe rN) X.xe bA) X.xe s:=by
 refine bS (ha UW s σ H _ I h) fun v s1 zz=>?_;obtain⟨x,H1,I1,r1,q1⟩:=zz;refine bS (hb UW s1 σ H1 _ I1 q1) fun u s2 zz=>?_;obtain⟨y,H2,I2,r2,q2⟩:=zz;exact hf v u s2 x y H2 I2 r1 r2 q2
theorem EO(ho:gC X (binaryOp op) r)(ha:PE X a ta)(hb:PE X b tb):PE X (.BinOp a op b pos) (KH r ta tb):=by intro UW s σ H Q I h;exact wpAny_BinOp (Ld ha hb I h fun v u s2 x y H2 I2 rx ry q=>ho UW s2 σ H2 x y v u Q I2 rx ry q)
theorem SM{op:UnaryOp}{r:V->Hp->VK->Prop}(ho:T7 X (unaryOp op) r)(ha:PE X a ta):PE X (.UnaryOp op a pos) (tUn r ta):=by intro UW s σ H Q I h;exact UnaryOp_ (bS (ha UW s σ H _ I h) fun v s1 ⟨x,H1,I1,r1,q1⟩=>ho UW s1 σ H1 x v Q I1 r1 q1)
theorem WT{f:Value->Value->Sem Value}{C:Int->Int->Prop}{g:Int->Int->Int}
  (rule:∀(i j:Int)(t u:Tok)(s:Shared)(Q:UI)(E:UI),C i j->Q (.int (g i j) s.toks) {s with toks:=s.toks+1}->wpAny (model X.prog X.w) X.A (f (.int i t) (.int j u)) Q E s) :
  gC X f (rI C fun i j=>.int (g i j)):=by
 intro UW s σ H x y v u Q I rx ry h;obtain⟨i,j,rfl,rfl,hc,q⟩:=h;obtain⟨t,rfl⟩:=rx;obtain⟨t',rfl⟩:=ry;exact rule i j t t' s _ _ hc ⟨.int (g i j),H,I.tok _,⟨_,rfl⟩,q⟩
theorem SA{f:Value->Value->Sem Value}{g:Int->Int->Int}
  (rule:∀(i j:Int)(t u:Tok)(s:Shared)(Q:UI)(E:UI),Q (.int (g i j) s.toks) {s with toks:=s.toks+1}->wpAny (model X.prog X.w) X.A (f (.int i t) (.int j u)) Q E s) :
  gC X f (wc fun i j=>.int (g i j)):=by
 intro UW s σ H x y v u Q I rx ry h;obtain⟨i,j,rfl,rfl,q⟩:=h;obtain⟨t,rfl⟩:=rx;obtain⟨t',rfl⟩:=ry;exact rule i j t t' s _ _ ⟨.int (g i j),H,I.tok _,⟨_,rfl⟩,q⟩
theorem HU{f:Value->Value->Sem Value}{g:Int->Int->Bool}
  (rule:∀(i j:Int)(t u:Tok)(s:Shared)(Q:UI)(E:UI),Q (.bool (g i j)) s->wpAny (model X.prog X.w) X.A (f (.int i t) (.int j u)) Q E s) :
  gC X f (wc fun i j=>.bl (g i j)):=by
 intro UW s σ H x y v u Q I rx ry h;obtain⟨i,j,rfl,rfl,q⟩:=h;obtain⟨t,rfl⟩:=rx;obtain⟨t',rfl⟩:=ry;exact rule i j t t' s _ _ ⟨.bl (g i j),H,I,rfl,q⟩
def KR(i j:Int):Prop:=0<j/\j<1073741824
def wO(i j:Int):Prop:=(-(2 ^ 64)<i/\i<2 ^ 64)\/(-(2 ^ 64)<j/\j<2 ^ 64)
theorem wO.ok(h:wO i j):IntMulOk i j:=by
 rcases h with ⟨h1,h2⟩|⟨h1,h2⟩
 exact .of_left (intBits_le_64 h1 h2);exact .of_right (intBits_le_64 h1 h2)
theorem NY:gC X (binaryOp .Add) (wc fun i j=>.int (i+j)):=SA fun _ _ _ _ _ _ _ q=>add_int q
theorem cD:gC X (binaryOp .Sub) (wc fun i j=>.int (i-j)):=SA fun _ _ _ _ _ _ _ q=>sub_int q
theorem iF:gC X (binaryOp .Mult) (rI wO fun i j=>.int (i*j)):=WT fun _ _ _ _ _ _ _ hc q=>mul_int q hc.ok
theorem zZ:gC X (binaryOp .FloorDiv) (rI KR fun i j=>.int (i / j)):=WT fun i j _ _ _ _ _ hc q=>by have h1:(0:Int)<j:=hc.1;have h2:j<1073741824:=hc.2;exact floordiv_int T9 (by rw[Int.fdiv_eq_ediv_of_nonneg i T9];exact q) (.inl (PyProof.noPylong_small T9))
theorem lG:gC X (binaryOp .Mod) (rI (fun _ j=>0<j) fun i j=>.int (i % j)):=WT fun i j _ _ _ _ _ hc q=>by have h1:(0:Int)<j:=hc;exact mod_int' T9 (by rw[Int.fmod_eq_emod_of_nonneg i T9];exact q)
theorem unI{f:Value->Sem Value}{g:Int->Int}
  (rule:∀(i:Int)(t:Tok)(s:Shared)(Q:UI)(E:UI),Q (.int (g i) s.toks) {s with toks:=s.toks+1}->wpAny (model X.prog X.w) X.A (f (.int i t)) Q E s) :
  T7 X f (rU fun i=>.int (g i)):=by
 intro UW s σ H x v Q I rx h;obtain⟨i,rfl,q⟩:=h;obtain⟨t,rfl⟩:=rx;exact rule i t s _ _ ⟨.int (g i),H,I.tok _,⟨_,rfl⟩,q⟩
theorem lL:T7 X (unaryOp .USub) (rU fun i=>.int (-i)):=unI fun _ _ _ _ _ q=>neg_int q
end
section
variable{X:Cx}{a b c:Expr}{ta tb tc:TE}{pos:Pos}
theorem LC{UW:P4}{σ:St}{H:Hp}{s:Shared}{Q:VK}{k k':Bool}(I:Inv X UW σ H s)(q:Q (.bl k) H)(e:k=k'):EP X UW σ Q (.bool k') s:=by subst e;exact⟨.bl k,H,I,rfl,q⟩
theorem ke:gC X (compareOp .Lt) (wc fun i j=>.bl (decide (i<j))):=HU fun _ _ _ _ _ _ _ q=>lt_int q
theorem gB:gC X (compareOp .LtE) (wc fun i j=>.bl (decide (i<=j))):=HU fun _ _ _ _ _ _ _ q=>le_int q
theorem mD:gC X (compareOp .Gt) (wc fun i j=>.bl (decide (j<i))):=HU fun _ _ _ _ _ _ _ q=>gt_int q
theorem SD:gC X (compareOp .GtE) (wc fun i j=>.bl (decide (j<=i))):=HU fun _ _ _ _ _ _ _ q=>ge_int q
theorem qF:gC X (compareOp .Is) (fun x y H Q=>y=.bC/\Q (.bl (decide (x=.bC))) H):=by intro UW s σ H x y v u Q I rx ry h;obtain⟨rfl,q⟩:=h;cases ry;refine is_none_gen (LC I q ?_);cases x<;>first| (cases rx;rfl)| (obtain⟨t,rfl⟩:=rx;rfl)
theorem gC.or(h:gC X f r)(h':gC X f r'):gC X f (fun x y H Q=>r x y H Q\/r' x y H Q):=by intro UW s σ H x y v u Q I rx ry q;rcases q with q|q;exact h UW s σ H x y v u Q I rx ry q;exact h' UW s σ H x y v u Q I rx ry q
theorem bq(b:Expr)(h:op≠.In:=by decide)(h2:op≠.NotIn:=by decide):behindInMarks op b=false:=by
 have e1:(op == CmpOp.In)=false:=by cases op<;>first|rfl|exact absurd rfl h
 have e2:(op == CmpOp.NotIn)=false:=by cases op<;>first|rfl|exact absurd rfl h2
 cases b<;>simp[behindInMarks,e1,e2]
theorem Ib(ho:gC X (compareOp op) r)(ha:PE X a ta)(hb:PE X b tb)(hm:behindInMarks op b=false):PE X (.Compare a [op] [b] pos) (KH r ta tb):=by intro UW s σ H Q I h;exact wpAny_Compare1 (Ld ha hb I h fun v u s2 x y H2 I2 rx ry q=>ho UW s2 σ H2 x y v u Q I2 rx ry q) hm
def KI(t:TE):TT:=fun σ H Q=>t σ H fun x H'=>∃k,x=.bl k/\Q k H'
theorem ph{op:CmpOp}{r:R2}(ho:gC X (compareOp op) r)(ha:PE X a ta)(hb:PE X b tb)(hm:behindInMarks op b=false):PT X (.Compare a [op] [b] pos) (KI (KH r ta tb)):=by intro UW s σ H Q I h;refine wpAny_isTrue_Compare1 (bS (ha UW s σ H _ I h) fun v s1 ⟨x,H1,I1,r1,q1⟩=>bS (hb UW s1 σ H1 _ I1 q1) fun u s2 ⟨y,H2,I2,r2,q2⟩=>bS (ho UW s2 σ H2 x y v u _ I2 r1 r2 q2) fun c s3 zz=>?_) hm;obtain⟨z,H3,I3,r3,k,e,q3⟩:=zz;subst e;cases r3;exact Mw ⟨H3,I3,q3⟩
def yw(r r':R2)(ta tb tc:TE):TE:=fun σ H Q=>ta σ H fun x H1=>tb σ H1 fun y H2=>r x y H2 fun z H3=>∃k,z=.bl k/\(if k=true then tc σ H3 fun w' H4=>r' y w' H4 Q else Q (.bl false) H3)
theorem EL{op Bj:CmpOp}{r r':R2}(ho:gC X (compareOp op) r)(uW:gC X (compareOp Bj) r')(ha:PE X a ta)(hb:PE X b tb)(hc:PE X c tc)(hm:lastMarks [op,Bj] [b,c]=false:=by exact MQ):PE X (.Compare a [op,Bj] [b,c] pos) (yw r r' ta tb tc):=by intro UW s σ H Q I h;refine Compare_chain (bS (ha UW s σ H _ I h) fun v s1 ⟨x,H1,I1,r1,q1⟩=>chain_link (bS (hb UW s1 σ H1 _ I1 q1) fun u s2 ⟨y,H2,I2,r2,q2⟩=>bS (ho UW s2 σ H2 x y v u _ I2 r1 r2 q2) fun d s3 zz=>?_)) hm;obtain⟨z,H3,I3,r3,k,e,q3⟩:=zz;subst e;cases r3;refine Mw ?_;cases k with|false=>exact ite_ff ⟨.bl false,H3,I3,rfl,q3⟩|true=>exact ite_tt (chain_last (bS (hc UW s3 σ H3 _ I3 q3) fun w' s4 ⟨z',H4,I4,r4,q4⟩=>uW UW s4 σ H4 y z' u w' Q I4 r2 r4 q4))
theorem E2{op Bj:CmpOp}{r r':R2}(ho:gC X (compareOp op) r)(uW:gC X (compareOp Bj) r')(ha:PE X a ta)(hb:PE X b tb)(hc:PE X c tc)(hm:lastMarks [op,Bj] [b,c]=false:=by exact MQ):PT X (.Compare a [op,Bj] [b,c] pos) (KI (yw r r' ta tb tc)):=by intro UW s σ H Q I h;refine isTrue_chain (bS (ha UW s σ H _ I h) fun v s1 ⟨x,H1,I1,r1,q1⟩=>test_link (bS (hb UW s1 σ H1 _ I1 q1) fun u s2 ⟨y,H2,I2,r2,q2⟩=>bS (ho UW s2 σ H2 x y v u _ I2 r1 r2 q2) fun d s3 zz=>?_)) hm;obtain⟨z,H3,I3,r3,k,e,q3⟩:=zz;subst e;cases r3;refine Mw ?_;cases k with|false=>obtain⟨k',e',q'⟩:=q3;cases e';exact ite_ff ⟨H3,I3,q'⟩|true=>refine ite_tt (test_last (bS (hc UW s3 σ H3 _ I3 q3) fun w' s4 ⟨z',H4,I4,r4,q4⟩=>bS (uW UW s4 σ H4 y z' u w' _ I4 r2 r4 q4) fun d' s5 zz=>?_));obtain⟨z2,H5,I5,r5,k2,e2,q5⟩:=zz;subst e2;cases r5;exact Mw ⟨H5,I5,q5⟩
theorem qq:(sizeLine:Nat)<2 ^ 63:=by rw[Nx];decide
theorem vals1(r:Vals [x] us):∃u,us=[u]/\RelV x u:=by cases r with|cons r1 r2=>cases r2;exact⟨_,rfl,r1⟩
theorem vals2(r:Vals [x,y] us):∃u w',us=[u,w']/\RelV x u/\RelV y w':=by cases r with|cons r1 r2=>cases r2 with|cons r3 r4=>cases r4;exact⟨_,_,rfl,r1,r3⟩
theorem iH(hc:X.calm=true):dF X (.builtin "max") (fun xs H Q=>∃i j,xs=[.int i,.int j]/\Q (.int (if j > i then j else i)) H):=by intro UW s σ H xs us Q I r h;obtain⟨i,j,rfl,q⟩:=h;obtain⟨u,w',rfl,⟨t,rfl⟩,⟨t',rfl⟩⟩:=vals2 r;refine max_two_ints (I.ok.hd hc) fun h' tk k=>⟨_,H,I.kept k,?_,q⟩;by_cases hj:j > i;rw[Ge hj,Ge hj];exact⟨_,rfl⟩;rw[UE hj,UE hj];exact⟨_,rfl⟩
theorem mZ:dF X (.type "int") (fun xs H Q=>(∃i,xs=[.int i]/\Q (.int i) H)\/∃k,xs=[.bl k]/\Q (.int (if k then 1 else 0)) H):=by
 intro UW s σ H xs us Q I r h;rcases h with ⟨i,rfl,q⟩|⟨k,rfl,q⟩
 obtain⟨u,rfl,t,rfl⟩:=vals1 r;exact call_int_int ⟨.int i,H,I,⟨_,rfl⟩,q⟩;obtain⟨u,rfl,r1⟩:=vals1 r;cases r1;exact call_int_bool ⟨.int (if k then 1 else 0),H,I.tok _,⟨_,rfl⟩,q⟩
end
structure wU(h:Heap)(x dx C:Addr)(mA:Str->UU):Prop where
 obj:h.get? x=some (W.instObj C dx)
 ns:h.Ns1 dx mA
 ne:dx≠x
theorem A4{h:Heap}{dx:Addr}{mA:Str->UU}(n:h.Ns1 dx mA):∃od,h.get? dx=some od/\∀name,W.lookIn name od=some (mA name):=by
 obtain⟨o,es,ep,ho,hd,hk,_,hm⟩:=n;refine⟨o,ho,fun name=>?_⟩;have e:=hm name;unfold nsFind findBy at e;rw[<-Array.find?_toList] at e;unfold W.lookIn;rw[hd];dsimp only;split;rename_i y q;rw[q] at e;exact congrArg some e;rename_i q;rw[q] at e;have a:es.toList.any (·.refKey)=false:=by rw[List.any_eq_false];intro y hy;obtain⟨z,t,L0⟩:=hk y (Array.mem_toList_iff.mp hy);simp[DictEntry.refKey,L0]
 have a':¬es.toList.any (·.refKey)=true:=by rw[a];exact BC
 rw[UE a'];exact congrArg some e
theorem wU.look(I:wU h x dx C mA):∃od,W.InstAt h x (W.instObj C dx) C (some od)/\∀name,W.lookIn name od=some (mA name):=
 let ⟨od,ho,hl⟩:=A4 I.ns
 ⟨od,⟨I.obj,rfl,rfl,ho⟩,hl⟩
section
variable{prog:Program}{w:World}{A:Around}{E:UI}{s:Shared}{K:W.Frag}{x dx C f:Addr}{mA:Str->UU}{name:Str}{v:Value}
theorem get_map(X:K.In s.heap)(I:wU s.heap x dx C mA)(hg:W.plainGet K C name=true)(hh:W.hasDictIn K C=true)
  (ha:W.findIn K (.ref C) name=some none) (hv:mA name=some v) (AU:W.handedIn v=true) (h:Q v {s with toks:=s.toks+1}) :
  wpAny (model prog w) A (getAttr (.ref x) name expr) Q E s:=by
 obtain⟨od,J,hl⟩:=I.look;exact W.get_value X J (W.plainGet_of hg).1 (W.findObj_own hh ha rfl (by rw[hl,hv])) AU h
theorem DB(X:K.In s.heap)(I:wU s.heap x dx C mA)(hg:W.plainGet K C name=true)
  (hf:W.findIn K (.ref C) name=some (some (.ref f))) (ht:W.isFn K (.ref f)=true) (hv:mA name=none) (h:Q (.ref f,[.ref x]) s) :
  wpAny (model prog w) A (getMethod (.ref x) name pl) Q E s:=by
 obtain⟨od,J,hl⟩:=I.look;exact W.method_fn X J (W.plainGet_of hg).1 (W.plainGet_of hg).2 hf (beq_iff_eq.mp ht) (by show (W.lookIn name od).map (·.isSome)=some false;rw[hl,hv];rfl) h
theorem Jc(X:K.In s.heap)(I:wU s.heap x dx C mA)
  (hs:W.findIn K (.ref C) "__setattr__" = some (some (.builtin "object.__setattr__"))) (hp:W.plainOver K C=true) (ht:W.takerIn K C name=some none) (hh:W.hasDictIn K C=true)
  (hw:PySem.Within mA ns) (hsz:ns.length<=sizeLine)
  (h:∀h',wU h' x dx C (fun y=>if y=name then some v else mA y)->Heap.SameBut dx s.heap h'->Q () {s with heap:=h',toks:=s.toks+2}) :
  wpAny (model prog w) A (setAttr (.ref x) name v) Q E s:=by
 obtain⟨od,J,hl⟩:=I.look;refine W.set_plain X J hs (W.osa_open (s:={s with toks:=s.toks+1}) (r:=none) X J hp ht fun b=>?_);obtain⟨cd,hc,Q2⟩:=W.any_some hh;have hx:s.heap.get? x=some ⟨.ref C,some dx,.plain,#[]⟩:=I.obj;refine U0 (Qo (U0 (U0 (wpAny_loadPart hx (U0 (W.Looks.here (s:={s with toks:=s.toks+1}) (W.looks_clsIn X hc) ?_))))));rw[Q2];refine Qo (a:=some dx) (U0 (Qo (U0 ?_)));refine wpAny_nsSet1 (s:={s with toks:=s.toks+1}) I.ns fun h' Rg jW=>?_;obtain⟨oD,esD,epD,ZH,Zr,Zp⟩:=Rg.count (PySem.Within.cons name v hw);refine U0 (wpAny_lookBehind ZH (by rw[Zr];exact pastItsLine_dict (DT Zp (by rw[LK];lia))) ?_);exact Qo (h _ ⟨(jW.2 _ (W5 I.ne)).trans I.obj,Rg,I.ne⟩ jW)
theorem Er(X:K.In s.heap)(hm:W.makesIn K C=true)
  (hi:W.findIn K (.ref C) "__init__" = some (some (.ref f))) (hf:W.typeIn K (.ref f)=some (.type "function"))
  (h:codeAny (model prog w) (A.under (.builtin "type.__call__" ⟨.ref C::vs,kw⟩)) (.call (.ref f) ⟨.ref (s.heap.objs.size+1)::vs,kw⟩) (W.InitBack (s.heap.objs.size+1) R) {s with heap:=(s.heap.push W.emptyDict).push (W.instObj C s.heap.objs.size)}) :
  codeAny (model prog w) A (.call (.ref C) ⟨vs,kw⟩) R s:=by
 obtain⟨hh,g,d,t,os⟩:=s;exact W.make_core (W.makes_of X hm) (W.looks_findIn X hi) (fun self=>W.bind_fn X self hf) (.inl rfl) h
end
def gq(f:Str)(v:V):List (Str×V)->List (Str×V)|[]=>[(f,v)]| (g,x)::r=>if g=f then(g,v)::r else(g,x)::gq f v r
theorem iw(f g:Str)(v:V):∀fs:List (Str×V),(gq f v fs).lookup g=if g=f then some v else fs.lookup g|[]=>by show List.lookup g [(f,v)]=_;by_cases h:g=f;have hb:(g == f)=true:=beq_iff_eq.mpr h;simp only[List.lookup,hb,if_pos h];have hb:(g == f)=false:=beq_eq_false_iff_ne.mpr h;simp only[List.lookup,hb,if_neg h]| (k,x)::r=>by have ih:=iw f g v r;rw[show gq f v ((k,x)::r)=(if k=f then(k,v)::r else(k,x)::gq f v r) from rfl];by_cases hk:k=f;rw[Ge hk];by_cases h:g=k;have hb:(g == k)=true:=beq_iff_eq.mpr h;simp only[List.lookup,hb,if_pos (h.trans hk)];have hb:(g == k)=false:=beq_eq_false_iff_ne.mpr h;simp only[List.lookup,hb,if_neg (fun e:g=f=>h (e.trans hk.symm))];rw[UE hk];by_cases h:g=k;have hb:(g == k)=true:=beq_iff_eq.mpr h;simp only[List.lookup,hb,if_neg (fun e:g=f=>hk (h.symm.trans e))];have hb:(g == k)=false:=beq_eq_false_iff_ne.mpr h;simp only[List.lookup,hb];exact ih
theorem nC(f:Str)(v:V):∀fs:List (Str×V),f∈(gq f v fs).map (·.1)/\∀g,g∈fs.map (·.1)->g∈(gq f v fs).map (·.1)|[]=>⟨by simp[gq],fun g h=>by simp at h⟩| (k,x)::r=>by obtain⟨i1,i2⟩:=nC f v r;rw[show gq f v ((k,x)::r)=(if k=f then(k,v)::r else(k,x)::gq f v r) from rfl];by_cases hk:k=f;rw[Ge hk];subst hk;exact⟨G9,fun g h=>by simpa using h⟩;rw[UE hk];refine⟨?_,fun g h=>?_⟩;rw[Po];exact QC _ i1;rw[Po] at h ⊢;rcases List.mem_cons.mp h with e|e;exact List.mem_cons.mpr (.inl e);exact QC _ (i2 g e)
theorem oy(f:Str)(v:V):∀fs:List (Str×V),(gq f v fs).length<=fs.length+1|[]=>by simp[gq]| (k,x)::r=>by have ih:=oy f v r;rw[show gq f v ((k,x)::r)=(if k=f then(k,v)::r else(k,x)::gq f v r) from rfl];by_cases hk:k=f;rw[Ge hk,LK,LK];lia;rw[UE hk,LK,LK];lia
theorem kO.some_of(r:kO (some v) o):∃u,o=some u/\RelV v u:=by cases o with|none=>exact(show False from r).elim|some u=>exact⟨u,rfl,r⟩
theorem kO.none_of(r:kO none o):o=none:=by cases o with|none=>rfl|some u=>exact(show False from r).elim
theorem Q2A(r:RelV v u):W.handedIn u=true:=by cases v with|bC=>cases (show u=Value.none from r);rfl|bl b=>cases (show u=Value.bool b from r);rfl|int i=>obtain⟨t,e⟩:=(show ∃t,u=Value.int i t from r);cases e;rfl|str x=>obtain⟨t,e⟩:=(show ∃t,u=Value.str x t from r);cases e;rfl|Ua b=>obtain⟨t,e⟩:=(show ∃t,u=Value.bytes b t from r);cases e;rfl|Ui b=>obtain⟨t,e⟩:=(show ∃t,u=Value.float b t from r);cases e;rfl|ref a=>cases (show u=Value.ref a from r);rfl|ty n=>cases (show u=Value.type n from r);rfl
section
variable{P:Program}{w:World}{H H':Hp}{h h':Heap}{a C dx:Addr}{fs Zb:List (Str×V)}
theorem um(cg:nV P w H h)(e:H a=some (.ins C dx fs)):∃mA,wU h a dx C mA/\(∀f,kO (fs.lookup f) (mA f))/\PySem.Within mA (fs.map (·.1))/\fs.length<=1000/\H dx=some (.own a):=by obtain⟨d,z,ne,ob,mA,n,r,q⟩:=(show dw P w H h a (.ins C dx fs) from cg a _ e);exact⟨mA,⟨ob,n,ne⟩,r,q,z,d⟩
end
structure Aq(K:W.Frag)(C:Addr):Prop where
 pg:W.plainGet K C Str.empty=true
 hd:W.hasDictIn K C=true
 po:W.plainOver K C=true
 sa:W.findIn K (.ref C) "__setattr__" = some (some (.builtin "object.__setattr__"))
theorem Aq.get{K:W.Frag}{C:Addr}(c:Aq K C)(f:Str):W.plainGet K C f=true:=c.pg
def iY(K:W.Frag)(C:Addr)(f:Str):Prop:=W.findIn K (.ref C) f=some none
theorem iY.Tu{K:W.Frag}{C:Addr}{f:Str}(n:iY K C f):W.takerIn K C f=some none:=by unfold W.takerIn;rw[show W.findIn K (.ref C) f=some none from n];rfl
structure Meth(K:W.Frag)(C:Addr)(m:Str)(f:Addr):Prop where
 at_:W.findIn K (.ref C) m=some (some (.ref f))
 fn:W.isFn K (.ref f)=true
 kp:W.keepIn K (.ref f)=true
section
variable{X:Cx}{UW:P4}{σ:St}{H:Hp}{s:Shared}{a C dx:Addr}{fs:List (Str×V)}{f:Str}{v:V}{A:Around}{E:UI}
theorem xq(I:Inv X UW σ H s)(e:H a=some (.ins C dx fs))(c:Aq X.K C)(n:iY X.K C f)(l:fs.lookup f=some v)(h:∀u s',Inv X UW σ H s'->RelV v u->Q u s'):wpAny (model X.prog X.w) A (getAttr (.ref a) f b) Q E s:=by obtain⟨mA,O,r,_,_,_⟩:=um I.cg e;obtain⟨u,hu,ru⟩:=kO.some_of (v:=v) (o:=mA f) (by rw[<-l];exact r f);exact get_map I.mP O (c.get f) c.hd n hu (Q2A ru) (h u _ (I.tok _) ru)
theorem xt(I:Inv X UW σ H s)(e:H a=some (.ins C dx fs))(c:Aq X.K C)(k:Meth X.K C m g)(l:fs.lookup m=none)(h:Q (.ref g,[.ref a]) s):wpAny (model X.prog X.w) A (getMethod (.ref a) m pl) Q E s:=by obtain⟨mA,O,r,_,_,_⟩:=um I.cg e;have hn:mA m=none:=kO.none_of (by rw[<-l];exact r m);exact DB I.mP O (c.get m) k.at_ k.fn hn h
theorem yn(I:Inv X UW σ H s)(e:H a=some (.ins C dx fs))(c:Aq X.K C)(n:iY X.K C f)(hl:fs.length<1000)(ry:RelV y u)(h:∀s',Inv X UW σ (upd H a (.ins C dx (gq f y fs))) s'->Q () s'):wpAny (model X.prog X.w) A (setAttr (.ref a) f u) Q E s:=by
 obtain⟨mA,O,r,wi,_,ho⟩:=um I.cg e;have hz:(fs.map (·.1)).length<=sizeLine:=by rw[UR,Nx];lia
 refine Jc I.mP O c.sa c.po n.Tu c.hd wi hz fun h' O' sb=>h _ ?_;have hd:∃o,h'.get? dx=some o:=let ⟨o,_,_,e',_⟩:=O'.ns;⟨o,e'⟩;refine I.write (x:=a) (e:=dx) (by rw[e];exact True.intro) (.inr ho) (fun b q hb z=>(sb.2 b hb).trans z) hd ?_;refine⟨by rw[aQ O.ne];exact ho,?_,O.ne,O'.obj,_,O'.ns,fun g=>?_,fun g hg=>?_⟩;have:=oy f y fs;lia;show kO ((gq f y fs).lookup g) (if g=f then some u else mA g);rw[iw];by_cases q:g=f;rw[Ge q,Ge q];exact ry;rw[UE q,UE q];exact r g;by_cases q:g=f;rw[q];exact(nC f y fs).1;refine(nC f y fs).2 g (wi g fun z=>hg ?_);show (if g=f then some u else mA g)=none;rw[UE q];exact z
theorem Inv.made(I:Inv X UW σ H s):Inv X UW σ (upd (upd H s.heap.objs.size (.own (s.heap.objs.size+1))) (s.heap.objs.size+1) (.ins C s.heap.objs.size [])) {s with heap:=(s.heap.push W.emptyDict).push (W.instObj C s.heap.objs.size)}:=by
 have e1:(s.heap.push W.emptyDict).get? s.heap.objs.size=some W.emptyDict:=PQ s.heap rfl;have e2:((s.heap.push W.emptyDict).push (W.instObj C s.heap.objs.size)).get? (s.heap.objs.size+1)=some (W.instObj C s.heap.objs.size):=by have:=PQ (s.heap.push W.emptyDict) (o:=W.instObj C s.heap.objs.size) rfl;rwa [MT] at this
 have e3:(s.heap.push W.emptyDict).Ns s.heap.objs.size (fun _=>none):=⟨W.emptyDict,#[],_,e1,rfl,(fun e he=>absurd he G9),fun _=>rfl⟩;have I1:=I.laid (a:=s.heap.objs.size) (o:=.own (s.heap.objs.size+1)) (h':=s.heap.push W.emptyDict) (t':=s.toks) (fun b u q=>WL _ q) (Uj _) ⟨_,e1⟩;refine I1.laid (a:=s.heap.objs.size+1) (o:=.ins C s.heap.objs.size []) (t':=s.toks) (fun b u q=>WL _ q) (Nat.le_of_eq (MT _ _)) ?_;have ne:s.heap.objs.size≠s.heap.objs.size+1:=Vz (FJ _);refine⟨by rw[aQ ne,aJ],IA _,ne,e2,fun _=>none,(Heap.Ns1.of_empty e3).at fun o q=>WL _ q,fun _=>True.intro,fun y hy=>absurd rfl hy⟩
theorem GC(hb:attributeBase e f env (eval e env)=eval e env)(h:wpAny (model prog w) A (eval e env) (fun o bA=>wpAny (model prog w) A (getAttr o f true) Q E bA) E s):wpAny (model prog w) A (eval (.Attribute e f pos) env) Q E s:=
 Attribute_any_ h (by rw[arm_eval_Attribute,hb])
end
def Q1C(K:W.Frag)(ta:TE)(f:Str):TE:=fun σ H Q=>ta σ H fun x H1=>∃a C dx fs v,x=.ref a/\H1 a=some (.ins C dx fs)/\Aq K C/\iY K C f/\fs.lookup f=some v/\Q v H1
def Q2f(K:W.Frag)(ta tv:TE)(f:Str):TS:=fun D σ H=>tv σ H fun y H1=>ta σ H1 fun x H2=>∃a C dx fs,x=.ref a/\H2 a=some (.ins C dx fs)/\Aq K C/\iY K C f/\fs.length<1000/\D.nx σ (upd H2 a (.ins C dx (gq f y fs)))
section
variable{X:Cx}{o e value:Expr}{f:Str}{pos Wu oR:Pos}{ta tv:TE}
theorem N5(he:PE X e ta)(hb:attributeBase e f X.env (eval e X.env)=eval e X.env):PE X (.Attribute e f pos) (Q1C X.K ta f):=by intro UW s σ H Q I h;refine GC hb (bS (he UW s σ H _ I h) fun u s1 zz=>?_);obtain⟨x,H1,I1,rx,a,C,dx,fs,v,ex,ea,c,n,l,q⟩:=zz;subst ex;obtain rfl:u=Value.ref a:=rx;exact xq I1 ea c n l fun u' s2 I2 ru=>⟨v,H1,I2,ru,q⟩
theorem Q0Q(ha:PE X o ta)(hv:PE X value tv)(hs:swapsWith value (some (.Attribute o f Wu)) pos.line X.env=pure false):PS X (.Assign [.Attribute o f Wu] value pos) (Q2f X.K ta tv f):=by intro UW s σ H D I h;refine plainObj_wpAny_Assign_Attribute (bS (hv UW s σ H _ I h) fun u s1 ⟨y,H1,I1,ry,q⟩=>bS (ha UW s1 σ H1 _ I1 q) fun ov s2 zz=>?_) hs;obtain⟨x,H2,I2,rx,a,C,dx,fs,ex,ea,c,n,l,q2⟩:=zz;subst ex;obtain rfl:ov=Value.ref a:=rx;exact yn I2 ea c n l ry fun s3 I3=>⟨σ,_,I3,q2⟩
end
structure cG(k:Nat)(A:Around):Prop where
 hd:A.handled=none
 dp:A.depth+3*k+5<recursionLimit
 un:A.units+16*k+200<cLine
theorem cG.mono(r:cG k A)(h:j<=k):cG j A:=⟨r.hd,by have:=r.dp;lia,by have:=r.un;lia⟩
theorem cG.deeper(r:cG (k+1) A)(env:Env):cG k (A.deeper env):=⟨r.hd,by have:=r.dp;show A.depth+1+3*k+5<_;lia,by have:=r.un;show A.units+3+16*k+200<_;lia⟩
theorem cG.in1(r:cG (k+1) A):cG k A.in1:=⟨r.hd,by have:=r.dp;show A.depth+3*k+5<_;lia,by have:=r.un;show A.units+1+16*k+200<_;lia⟩
theorem Q0m{A:Around}{C:Addr}{us:RU}{kw:List (Str×Value)}:(A.under (.builtin "type.__call__" ⟨.ref C::us,kw⟩)).depth=A.depth+1:=by first|rfl|simp[Around.under,Code.weight,Code.isCreation,Code.isGuard,Code.isCaller,Code.frames,Code.isFrame,guardIds]
theorem xQ{A:Around}{C:Addr}{us:RU}{kw:List (Str×Value)}:(A.under (.builtin "type.__call__" ⟨.ref C::us,kw⟩)).units=A.units+1:=by first|rfl|simp[Around.under,Code.cUnits,Code.frames,Code.isFrame]
theorem cG.make(r:cG (k+1) A)(C:Addr)(us:RU)(kw:List (Str×Value)):cG k (A.under (.builtin "type.__call__" ⟨.ref C::us,kw⟩)):=⟨r.hd,by have:=r.dp;rw[Q0m];lia,by have:=r.un;rw[xQ];lia⟩
theorem cG.depth(r:cG k A):A.depth<recursionLimit:=by have:=r.dp;lia
theorem cG.units(r:cG k A):A.units+64<cLine:=by have:=r.un;lia
def Xg:TA:=fun _ H Q=>Q [] H
def To(ta:TE)(tr:TA):TA:=fun σ H Q=>ta σ H fun x H1=>tr σ H1 fun xs H2=>Q (x::xs) H2
section
variable{X:Cx}{e:Expr}{es:W3}{te:TE}{t:TA}{pos:Pos}
theorem fN:PA X [] Xg:=fun _ _ _ _ H Q I h=>E7 ⟨[],H,I,.nil,h⟩
theorem cb(ha:PE X e te)(hr:PA X es t)(hs:starEach (e::es) X.env=(false,eval e X.env)::starEach es X.env:=by rfl):PA X (e::es) (To te t):=by intro pos UW s σ H Q I h;rw[hs];show wpAny _ _ (spliced ((false,eval e X.env)::backTo pos (starEach es X.env))) _ _ s;refine Bg (bS (ha UW s σ H _ I h) fun u s1 zz=>?_);obtain⟨x,H1,I1,r1,q1⟩:=zz;exact bS (hr pos UW s1 σ H1 _ I1 q1) fun us s2 ⟨xs,H2,I2,r2,q2⟩=>⟨x::xs,H2,I2,.cons r1 r2,q2⟩
def Xk(t:TA):TE:=fun σ H Q=>t σ H fun xs H1=>xs.length<=sizeLine/\∀p,H1 p=none->Q (.ref p) (upd H1 p (.tup xs))
def Xf(t:TA):TE:=fun σ H Q=>t σ H fun xs H1=>xs.length<=sizeLine/\∀p,H1 p=none->Q (.ref p) (upd H1 p (.lst xs))
theorem ES{x1}(h:PA X es t):PE X (.Tuple es x1 pos) (Xk t):=by intro UW s σ H Q I hq;refine wpAny_Tuple_spliced (bS (h pos UW s σ H _ I hq) fun us s1 ⟨xs,H1,I1,r,z,q⟩=>⟨by rw[<-r.length];exact z,?_⟩);have hf:H1 s1.heap.objs.size=none:=I1.cg.fresh (Uj _);refine⟨.ref s1.heap.objs.size,upd H1 s1.heap.objs.size (.tup xs),I1.laid (t':=s1.toks) (fun b u e=>WL _ e) (Uj _) ?_,rfl,q _ hf⟩;exact⟨z,us,r,⟨_,PQ _ rfl,rfl,⟨_,rfl⟩,rfl⟩⟩
theorem N7(h:PA X es t):PE X (.List es pos) (Xf t):=by intro UW s σ H Q I hq;refine wpAny_List_spliced (bS (h pos UW s σ H _ I hq) fun us s1 ⟨xs,H1,I1,r,z,q⟩=>⟨by rw[<-r.length];exact z,?_⟩);have hf:H1 s1.heap.objs.size=none:=I1.cg.fresh (Uj _);refine⟨.ref s1.heap.objs.size,upd H1 s1.heap.objs.size (.lst xs),I1.laid (t':=s1.toks) (fun b u e=>WL _ e) (Uj _) ?_,rfl,q _ hf⟩;exact⟨z,us,0,r,PQ _ rfl⟩
end
abbrev Sp:=List V->Hp->VK->XK->Prop
abbrev uX:=List Env->Hp->Shared->XK->Value->Shared->Prop
structure rl(P:Program)(w:World)(K:W.Frag)(mg:Str->UU)(base:Heap)(A:Around)(outer:List Env)(s:Shared)(H:Hp):Prop where
 frames:A.frames=some outer
 mod:Mod K mg base
 bs:∀b o,base.get? b=some o->s.heap.get? b=some o/\H b=none
 FV:base.objs.size<=s.heap.objs.size
 nj:s.heap.FunFrames base outer
 J4:∀b∈BL outer,H b=none
 cg:nV P w H s.heap
 bare:AllBare s.gens
def CE(outer:List Env)(P:Program)(w:World)(H:Hp)(s:Shared)(Q:VK)(u:Value)(s':Shared):Prop:=∃v H',s'.os=s.os/\AllBare s'.gens/\Un (BL outer) [] H H' s.heap s'.heap/\nV P w H' s'.heap/\RelV v u/\Q v H'
def CR(CX:uX)(outer:List Env)(P:Program)(w:World)(H:Hp)(s:Shared)(Q:VK)(E:XK)(r:Result)(s':Shared):Prop:=match r with|.ok (.ret u)=>CE outer P w H s Q u s'|.ok _=>False|.error e=>CX outer H s E e s'
structure dG(P:Program)(w:World)(K:W.Frag)(mg:Str->UU)(base:Heap)(CX:uX)(k:Nat)(f:Addr)(fd:FuncData)(ps:PU)(sp:Sp):Prop where
 len:∀vs H Q E,sp vs H Q E->vs.length=ps.length
 run:∀(A:Around)(outer:List Env)(s:Shared)(H:Hp)(args:Args)(us:RU)(vs:O6)(Q:VK)(E:XK),cG k A->rl P w K mg base A outer s H->BindsTo s fd args (ps.zip us)->Vals vs us->sp vs H Q E->codeAny (model P w) A (.call (.ref f) args) (CR CX outer P w H s Q E) s
theorem dG.imp{P:Program}{w:World}{K:W.Frag}{mg:Str->UU}{base:Heap}{CX:uX}{k:Nat}{f:Addr}{fd:FuncData}{ps:PU}{sp Tc:Sp}(F:dG P w K mg base CX k f fd ps sp)(h:∀vs H Q E,Tc vs H Q E->sp vs H Q E):dG P w K mg base CX k f fd ps Tc:=
 ⟨fun vs H Q E q=>F.len vs H Q E (h _ _ _ _ q),fun A outer s H args us vs Q E hr he hb hv hs=>F.run A outer s H args us vs Q E hr he hb hv (h _ _ _ _ hs)⟩
theorem rl.make{P:Program}{w:World}{K:W.Frag}{mg:Str->UU}{base:Heap}{A:Around}{outer:List Env}{s:Shared}{H:Hp}(e:rl P w K mg base A outer s H)(C:Addr)(us:RU)(kw:List (Str×Value)) : rl P w K mg base (A.under (.builtin "type.__call__" ⟨.ref C::us,kw⟩)) outer s H:=⟨by first|exact e.frames|(simpa[Around.under,Code.envs,Code.isFrame,pushEnvs] using e.frames),e.mod,e.bs,e.FV,e.nj,e.J4,e.cg,e.bare⟩
theorem rl.in1{P:Program}{w:World}{K:W.Frag}{mg:Str->UU}{base:Heap}{A:Around}{outer:List Env}{s:Shared}{H:Hp}(e:rl P w K mg base A outer s H) : rl P w K mg base A.in1 outer s H:=⟨e.frames,e.mod,e.bs,e.FV,e.nj,e.J4,e.cg,e.bare⟩
section
variable{X:Cx}{UW:P4}{σ:St}{H:Hp}{s s':Shared}
theorem Inv.QG(I:Inv X UW σ H s):rl X.prog X.w X.K X.mg X.base X.A X.stack s H:=⟨I.ok.frames,I.ok.mod,I.bs,DT I.ok.FV I.sz,I.stack,I.Al,I.cg,I.bare⟩
theorem Inv.after(I:Inv X UW σ H s)(h:CE X.stack X.prog X.w H s Q u s'):EP X UW σ Q u s':=by obtain⟨v,H',os,bare,un,cg,r,q⟩:=h;obtain⟨hh,g,d,t,os'⟩:=s';obtain rfl:os'=s.os:=os;exact⟨v,H',I.call (h':=hh) (g':=g) (d':=d) (t':=t) (ch:=[]) un cg bare (fun b z=>absurd z G9),r,q⟩
end
def Binds(K:W.Frag)(fd:FuncData)(ps:PU)(ds:RU):Prop:=∀(s:Shared)(us:RU),K.In s.heap->(us++ds).length=ps.length->BindsTo s fd ⟨us,[]⟩ (ps.zip (us++ds))
theorem Binds.all{K:W.Frag}{fd:FuncData}{ps:PU}(h:∀us:RU,us.length=ps.length->bindArgs fd ⟨us,[]⟩=pure (ps.zip us)):Binds K fd ps []:=fun s us _ hl=>by rw[OX] at hl ⊢;exact .of_eq (h us hl)
section
variable{X:Cx}{CX:uX}{k:Nat}{f C:Addr}{fd:FuncData}{ps:PU}{sp:Sp}{dvs:O6}{ds:RU}{E:XK}{x m:Str}{p pos QN:Pos}{e o:Expr}{es:W3}{ta:TE}{t:TA}
structure Mk(K:W.Frag)(C f:Addr):Prop where
 makes:W.makesIn K C=true
 init:W.findIn K (.ref C) "__init__" = some (some (.ref f))
 fn:W.isFn K (.ref f)=true
 kp:W.keepIn K (.ref C)=true
end
structure eK(N P:PU)(sc:Scope):Prop where
 kind:sc.kind=.function
 co:sc.isCoroutine=false
 gen:sc.isGenerator=false
 nd:N.Nodup
 pre:N.take P.length=P
 par:∀x∈P,sc.names.lookup x=some .local\/sc.names.lookup x=some .cell
 M4:∀y∈sc.names,y.2≠.free
theorem rV{kindOf:Str->Option NameKind}{x:Str}:∀{binds:List (Str×Value)}{m:Str->UU},(∀v,(x,v)∉binds)->bindL kindOf binds m x=m x
|[],_,_=>rfl| (n,v)::r,m,h=>by
 unfold bindL;rw[rV fun w hw=>h w (QC _ hw)];split;have:x≠n:=by rintro rfl;exact h v QI
 simp[this];rfl
theorem rS{kindOf:Str->Option NameKind}{x:Str}:∀{binds:List (Str×Value)}{m:Str->UU},(∀v,(x,v)∉binds)->bindC kindOf binds m x=m x
|[],_,_=>rfl| (n,v)::r,m,h=>by
 unfold bindC;rw[rS fun w hw=>h w (QC _ hw)];split;rfl;have:x≠n:=by rintro rfl;exact h v QI
 simp[this]
theorem rT{kindOf:Str->Option NameKind}{x:Str}{v:Value}:∀{P:PU}{vs:RU}{i:Nat}{m:Str->UU},P.Nodup->P[i]?=some x->vs[i]?=some v->kindOf x=some .local->bindL kindOf (P.zip vs) m x=some v
|[],_,_,_,_,h,_,_=>by simp at h|_::_,[],_,_,_,_,h,_=>by simp at h|p::P,w::vs,0,m,nd,h1,h2,hk=>by simp at h1 h2;subst h1;subst h2;show bindL kindOf ((p,w)::P.zip vs) m p=_;unfold bindL;rw[rV fun v hv=>(List.nodup_cons.mp nd).1 (Vk hv).1,Ge hk];simp|p::P,w::vs,i+1,m,nd,h1,h2,hk=>by show bindL kindOf ((p,w)::P.zip vs) m x=_;unfold bindL;exact rT (i:=i) (List.nodup_cons.mp nd).2 (by simpa using h1) (by simpa using h2) hk
theorem rR{kindOf:Str->Option NameKind}{x:Str}{v:Value}:∀{P:PU}{vs:RU}{i:Nat}{m:Str->UU},P.Nodup->P[i]?=some x->vs[i]?=some v->kindOf x≠some .local->bindC kindOf (P.zip vs) m x=some v
|[],_,_,_,_,h,_,_=>by simp at h|_::_,[],_,_,_,_,h,_=>by simp at h|p::P,w::vs,0,m,nd,h1,h2,hk=>by simp at h1 h2;subst h1;subst h2;show bindC kindOf ((p,w)::P.zip vs) m p=_;unfold bindC;rw[rS fun v hv=>(List.nodup_cons.mp nd).1 (Vk hv).1,UE hk];simp|p::P,w::vs,i+1,m,nd,h1,h2,hk=>by show bindC kindOf ((p,w)::P.zip vs) m x=_;unfold bindC;exact rR (i:=i) (List.nodup_cons.mp nd).2 (by simpa using h1) (by simpa using h2) hk
def start(N:PU)(vs:O6):St:=vs.map some++List.replicate (N.length-vs.length) none
def rA(CX:uX)(P:Program)(w:World)(K:W.Frag)(mg:Str->UU)(base:Heap)(N:PU)(Xp:Str)(scope:Scope)(f:Addr)(cd:Value)(A:Around)(outer:List Env)(s:Shared)(H:Hp)(E:XK):Cx where
 prog:=P
 w:=w
 K:=K
 mg:=mg
 base:=base
 A:=A.deeper (envOfC Xp scope s.heap.objs.size f cd)
 N:=N
 s₀:=s
 H₀:=H
 env:=envOfC Xp scope s.heap.objs.size f cd
 outer:=outer
 stack:=envOfC Xp scope s.heap.objs.size f cd::outer
 ex:=[]
 calm:=true
 fn:=fun _=>true
 pn:=[]
 xe:=fun e s'=>wpAny (model P w) (A.deeper (envOfC Xp scope s.heap.objs.size f cd)) (leaving (envOfC Xp scope s.heap.objs.size f cd) e) (fun _ Gh=>CX outer H s E e Gh) (fun e' Gh=>CX outer H s E e' Gh) s'
theorem vd{sc:Scope}{n:Nat}{x:Str}(h:sc.names.lookup x=some .cell):∃c,(cellsFrom n sc.names []).lookup x=some c:=by have q:=W.cellsFrom_some sc.names n [] (.inl h);exact Option.isSome_iff_exists.mp q
theorem AY{CX:uX}{P:Program}{w:World}{K:W.Frag}{mg:Str->UU}{base:Heap}{N ps:PU}{Xp:Str}{scope:Scope}{f:Addr}{cd:Value}{A:Around}{outer:List Env}{s s1:Shared}{H:Hp}{E:XK}{us:RU}{vs:O6}
  (S:eK N ps scope) (hd:A.handled=none) (e0:rl P w K mg base A outer s H) (hl:vs.length=ps.length) (r:Vals vs us)
  (x:InCallC s s.heap.objs.size (bindL (envOfC Xp scope s.heap.objs.size f cd).kindOf (ps.zip us) fun _=>none) (cellsFrom (s.heap.objs.size+1) scope.names []) (bindC (envOfC Xp scope s.heap.objs.size f cd).kindOf (ps.zip us) fun _=>none) s1) :
  Inv (rA CX P w K mg base N Xp scope f cd A outer s H E) [] (start N vs) H s1:=by
 have iP:ps.length<=N.length:=by have:=congrArg List.length S.pre;rw[M1] at this;lia
 obtain⟨h1,tk,rfl,hk⟩:=x.done;have noA:∀b:Addr,b∉(rA CX P w K mg base N Xp scope f cd A outer s H E).ex:=fun b z=>absurd (show b∈([]:Xr) from z) G9;refine⟨⟨e0.mod,S.kind,rfl,rfl,Uj _,fun y z c h1 h2=>?_,fun y hy=>?_,fun y c _ h=>?_,fun _=>hd,Around.frames_deeper e0.frames,.inr ⟨rfl,rfl⟩,fun b z=>absurd z (noA b),e0.bs,e0.FV,fun b _ _=>noA b,fun b z=>absurd z (noA b),e0.nj,e0.J4⟩,rfl,e0.bare,Un.kept hk,⟨_,x.toInCall.ns,fun i y v h1 h2 h3=>?_⟩,fun y c h=>⟨_,x.cell y c h⟩,e0.cg.fresh (Uj _),fun y c h=>?_,fun p hp=>absurd (show p∈([]:P4) from hp) G9,e0.cg.kept hk,?_⟩;exact name_of_addr x.apart (AG h1) (AG h2);have hy:scope.names.lookup y=some .cell\/scope.names.lookup y=some .free:=hy;rcases hy with hy|hy;exact vd hy;exact absurd rfl (S.M4 _ (AG hy));exact Nat.le_of_lt (x.above y c (AG h));have hi:i<vs.length:=by unfold start at h2;by_cases hi:i<vs.length;exact hi;rw[Sr (by simpa using hi)] at h2;rw[Hl] at h2;split at h2<;>cases h2
 have ha:vs[i]?=some v:=by unfold start at h2;rw[MS (by simpa using hi),GF] at h2;cases e:vs[i]? with|none=>rw[e] at h2;cases h2|some a=>rw[e] at h2;cases h2;rfl
 obtain⟨u,hu,rv⟩:=r.get ha;have hp:ps[i]?=some y:=by rw[<-S.pre,Sv T9];exact h1
 have Yy:ps.Nodup:=by rw[<-S.pre];exact S.nd.sublist (List.take_sublist _ _)
 refine⟨u,rv,?_⟩;rcases S.par y (Np hp) with k|k;exact .inl ⟨k,rT Yy hp hu k⟩;obtain⟨c,e⟩:=vd (n:=s.heap.objs.size+1) k;refine .inr ⟨.inl k,c,e,?_⟩;have q:=x.cell y c e;rw[rR Yy hp hu (by show scope.names.lookup y≠_;rw[k];decide)] at q;exact q;exact e0.cg.fresh (Nat.le_of_lt (x.above y c (AG h)));unfold start;show _=N.length;rw[xU,UR,List.length_replicate]
 lia
theorem QK{CX:uX}{P:Program}{w:World}{K:W.Frag}{mg:Str->UU}{base:Heap}{k:Nat}{f:Addr}{name Xp:Str}{params:Arguments}{body:List Stmt}{scope:Scope}{dV kV doc pm i9 ct oc:Value}{an od:UL}
  {HY:Array (Option Value)} {N ps:PU} {sp:Sp} (lk:K.lookup f=some ⟨oc,od,.func (W.fnOf name Xp params body scope dV kV doc pm an i9 ct),HY⟩) (jC:W.codeIn K i9 Xp=true) (S:eK N ps scope)
  (len:∀vs H Q E,sp vs H Q E->vs.length=ps.length)
  (jV:∀(A:Around)(outer:List Env)(s:Shared)(H:Hp)(vs:O6)(Q:VK)(E:XK),cG k (A.deeper (envOfC Xp scope s.heap.objs.size f i9))->sp vs H Q E->∃t,wJ (rA CX P w K mg base N Xp scope f i9 A outer s H E) body t/\t {nx:=fun _ H'=>Q .bC H',rt:=Q} (start N vs) H) :
  dG P w K mg base CX (k+1) f (W.fnOf name Xp params body scope dV kV doc pm an i9 ct) ps sp:=by
 refine⟨len,fun A outer s H args us vs Q E hr e0 hb r Gb=>?_⟩;have hl:=len _ _ _ _ Gb;have KX:K.In s.heap:=e0.mod.Mz.keeps fun b o e=>(e0.bs b o e).1;have lim:s.heap.NoLimit:=e0.mod.nolimit.keeps fun b o e=>(e0.bs b o e).1;have Q9:∀y∈ps.zip us,scope.names.lookup y.1=some .local\/(scope.names.lookup y.1=some .cell/\((cellsFrom (s.heap.objs.size+1) scope.names []).lookup y.1).isSome=true):=fun ⟨n,v⟩ hy=>by
  rcases S.par n (Vk hy).1 with q|q
  ·exact .inl q
  ·exact .inr ⟨q,W.cellsFrom_some _ _ _ (.inl q)⟩
 refine codeAny_call_function hr.depth (KX _ _ lk) rfl S.co S.gen rfl (W.codeRec_of KX jC) (hb _ _ _ _ ?_);refine wpAny_newFunctionEnv_cells S.kind Q9 fun env he s1 x=>?_;subst he;refine⟨lim.keeps x.toInCall.keep,codeAny_func ?_⟩;obtain⟨t,ht,hq⟩:=jV A outer s H vs Q E (hr.deeper _) Gb;have I:Inv (rA CX P w K mg base N Xp scope f i9 A outer s H E) [] (start N vs) H s1:=AY S hr.hd e0 hl r x;refine RX (ht [] s1 (start N vs) H _ I hq) (fun fl s' hs=>?_) fun e s' hs=>hs;have fin:∀{bE:St}{H':Hp}{v:V}{u:Value},Inv (rA CX P w K mg base N Xp scope f i9 A outer s H E) [] bE H' s'->RelV v u->Q v H'->CE outer P w H s Q u s':=fun {bE H' v u} J rv q=>⟨v,H',J.os,J.bare,J.base,J.cg,rv,q⟩;cases fl with|ret u=>obtain⟨v,bE,H',J,rv,q⟩:=hs;exact fin J rv q|next=>obtain⟨bE,H',J,q⟩:=hs;exact fin (v:=V.bC) (u:=Value.none) J rfl q|brk=>obtain⟨_,_,_,q⟩:=hs;exact False.elim q|cont=>obtain⟨_,_,_,q⟩:=hs;exact False.elim q
section
variable{X:Cx}{x:Str}{p pos:Pos}{e:Expr}{es:W3}{t:TA}{id T:String}{r:O6->Hp->VK->Prop}
def Tn(r:O6->Hp->VK->Prop)(t:TA):TE:=fun σ H Q=>t σ H fun vs H1=>r vs H1 Q
theorem iT(hc:dF X (.builtin id) r)(hg:Gl X x)(hm:X.mg x=none)(hv:bootBuiltins x=some (.builtin id))(ha:PA X (e::es) t)(hn:x≠"__name__" := by decide)(jH:Yw x:=by decide)(he:starEach (e::es) X.env=(false,eval e X.env)::starEach es X.env:=by rfl) (iP:(backTo pos (starEach es X.env)).any (·.1)=false:=by rfl):PE X (.Call (.Name x p) (e::es) [] pos) (Tn r t):=by intro UW s σ H Q I h;refine K8 (dX I hg hm hv ?_ hn jH);exact PyProof.Rows.callWith_builtin1 (bS (ha pos UW s σ H _ I h) fun us s1 ⟨vs,H1,I1,r1,q1⟩=>hc UW s1 σ H1 vs us Q I1 r1 q1) he iP
theorem kH(hc:dF X (.type T) r)(hg:Gl X x)(hm:X.mg x=none)(hv:bootBuiltins x=some (.type T))(ha:PA X (e::es) t)(hn:x≠"__name__" := by decide)(jH:Yw x:=by decide)(he:starEach (e::es) X.env=(false,eval e X.env)::starEach es X.env:=by rfl) (iP:(backTo pos (starEach es X.env)).any (·.1)=false:=by rfl):PE X (.Call (.Name x p) (e::es) [] pos) (Tn r t):=by intro UW s σ H Q I h;refine K8 (dX I hg hm hv ?_ hn jH);exact YY (bS (ha pos UW s σ H _ I h) fun us s1 ⟨vs,H1,I1,r1,q1⟩=>hc UW s1 σ H1 vs us Q I1 r1 q1) he iP
end
end L2
namespace HT
open PySem PyProof.Rows
section
variable{prog:Program}{w:World}{A:Around}{E:UI}{s:Shared}
theorem GI(ht:IsTup s.heap t vs.toArray)(hb:IsTup s.heap b ws.toArray)(hv:vs≠[])
  (h1:ws=[]->Q (.ref t) s) (h2:ws≠[]->Q (.ref s.heap.objs.size) {s with heap:=s.heap.push {cls:=.type "tuple",data:=.seq (vs++ws).toArray}})
  (hsz:vs.length+ws.length<=sizeLine):wpAny (model prog w) A (binaryOp .Add (.ref t) (.ref b)) Q E s:=by
 obtain⟨⟨cls,dd,data,sl⟩,ho,hc,n,hd⟩:=id ht;obtain⟨⟨Vq,Uc,data2,PY⟩,L4,wK,n2,hd2⟩:=id hb;simp only at hc hd wK hd2;subst hc hd wK hd2;have e:vs.toArray++ws.toArray=(vs++ws).toArray:=G9;by_cases hw:ws=[];exact concat_meets ⟨_,ho,rfl⟩ ⟨_,L4,rfl⟩ noFill_tuple_add seq_tuple_add D8 DW (NC _ _) (tuple_addW1 t b vs.toArray ws.toArray n n2 dd Uc sl PY (by simpa using hv) (by simp[hw])) ⟨ho,L4,h1 hw⟩;refine concat_meets ⟨_,ho,rfl⟩ ⟨_,L4,rfl⟩ noFill_tuple_add seq_tuple_add D8 DW (NC _ _) (tuple_addW2 t b vs.toArray ws.toArray n n2 dd Uc sl PY (by simpa using hv) (by simpa using hw) (by rw[Tv,Tv];exact hsz)) ⟨ho,L4,?_⟩;rw[e];exact h2 hw
def cY(n d:Nat):Pq->Nat|none=>d|some v=>if v<0 then(v+(n:Int)).toNat else min v.toNat n
theorem ki(n d:Nat):cY n d none=d:=rfl
theorem mG(n d k:Nat):cY n d (some (k:Int))=min k n:=by show (if (k:Int)<0 then((k:Int)+(n:Int)).toNat else min (k:Int).toNat n)=min k n;rw[UE T9,BA]
theorem OG(n d:Nat)(hd:d<=n)(o:Pq):cY n d o<=n:=by cases o with|none=>exact hd|some v=>show (if v<0 then(v+(n:Int)).toNat else min v.toNat n)<=n;by_cases hv:v<0;rw[Ge hv];lia;rw[UE hv];exact Nat.min_le_right _ _
theorem yT(v:Int)(n d:Nat):(if v<0 then max (v+(n:Int)) 0 else min v (n:Int))=((cY n d (some v):Nat):Int):=by show (if v<0 then max (v+(n:Int)) 0 else min v (n:Int))=(((if v<0 then(v+(n:Int)).toNat else min v.toNat n):Nat):Int);by_cases hv:v<0;simp only[if_pos hv];lia;simp only[if_neg hv];lia
theorem wY(lo hi:Pq)(n:Nat):Builtin.Slice.sliceAdjust lo hi 1 (n:Int)=(((cY n 0 lo:Nat):Int),((cY n n hi:Nat):Int)):=by
 have h1:¬((1:Int)<0):=T9;unfold Builtin.Slice.sliceAdjust;simp only[h1,if_false];refine Prod.ext ?_ ?_;cases lo with|none=>rfl|some v=>exact yT v n 0
 cases hi with|none=>rfl|some v=>exact yT v n n
theorem yh(i j:Nat):Builtin.Slice.slicePlaces (i:Int) (j:Int) 1=j-i:=by unfold Builtin.Slice.slicePlaces;have h1:(1:Int) > 0:=T9;simp only[h1,if_true,Int.ediv_one];split<;>lia
theorem qW(p:IsPart v o)(h:Q o s):wpAny (model prog w) A (Builtin.Slice.slicePartIndex v) Q E s:=by cases p with|none=>exact slicePart_none h|int i t=>exact slicePart_int h
theorem iV{sl:Addr}{vl vu:Value}{lo hi:Pq}{n:Nat}{Q:Int×Int×Nat->Shared->Prop}(hs:s.heap.IsSliceOf sl vl vu .none)(pl:IsPart vl lo)(pu:IsPart vu hi)(h:Q (((cY n 0 lo:Nat):Int),1,cY n n hi-cY n 0 lo) s):wpAny (model prog w) A (Builtin.Slice.sliceApplied (.ref sl) (pure (n:Int))) Q E s:=by obtain⟨os,L8,LV,qf⟩:=id hs;unfold Builtin.Slice.sliceApplied Builtin.Slice.sliceFields;refine U0 (U0 (Xt L8 qf (x:=vl) rfl (U0 (Xt L8 qf (x:=vu) rfl (U0 (Xt L8 qf (x:=.none) rfl (Qo ?_)))))));refine U0 (slicePart_none ?_);show wpAny _ _ (if ((1:Int) == 0)=true then _ else _) _ _ s;rw[UE (by decide)];refine U0 (qW pl (U0 (qW pu (U0 (Qo ?_)))));show wpAny _ _ (match Builtin.Slice.sliceAdjust lo hi 1 (n:Int) with|(lo,hi)=>pure (lo,(1:Int),Builtin.Slice.slicePlaces lo hi 1)) _ _ s;rw[wY lo hi n];show wpAny _ _ (pure (((cY n 0 lo:Nat):Int),(1:Int),Builtin.Slice.slicePlaces ((cY n 0 lo:Nat):Int) ((cY n n hi:Nat):Int) 1)) _ _ s;rw[yh];exact Qo h
theorem EU(xs:Array Value)(i k:Nat):((List.range k).filterMap fun(m:Nat)=>xs[((i:Int)+(m:Int)*1).toNat]?).toArray=((xs.toList.drop i).take k).toArray:=by
 have e:(fun(m:Nat)=>xs[((i:Int)+(m:Int)*1).toNat]?)=fun m=>xs[i+m]?:=by funext m;have:((i:Int)+(m:Int)*1).toNat=i+m:=T9;rw[this]
 rw[e];have:=pick_run xs i k;rw[List.filterMap_map] at this;have e2:((fun x=>xs[x]?)∘fun x=>i+x)=fun m=>xs[i+m]?:=rfl;rw[e2] at this;rw[this]
theorem l9{t sl:Addr}{items:Array Value}{vl vu:Value}{lo hi:Pq}{Q:UI}(ht:IsTup s.heap t items)(hs:s.heap.IsSliceOf sl vl vu .none)(pl:IsPart vl lo)(pu:IsPart vu hi)
  (hw:¬(cY items.size 0 lo=0/\cY items.size items.size hi=items.size))
  (h:Q (.ref s.heap.objs.size) {s with heap:=s.heap.push {cls:=.type "tuple",data:=.seq ((items.toList.drop (cY items.size 0 lo)).take (cY items.size items.size hi-cY items.size 0 lo)).toArray}})
  (hsz:items.size<=sizeLine):wpAny (model prog w) A (getItem (.ref t) (.ref sl)) Q E s:=by
 have zI:sizeOk (.seq ((items.toList.drop (cY items.size 0 lo)).take (cY items.size items.size hi-cY items.size 0 lo)).toArray):=by show ((items.toList.drop (cY items.size 0 lo)).take (cY items.size items.size hi-cY items.size 0 lo)).toArray.size<=sizeLine;rw[Tv,M1,List.length_drop,Array.length_toList];omega
 have hj:cY items.size items.size hi<=items.size:=OG _ _ (Uj _) hi;obtain⟨os,L8,LV,qf⟩:=id hs;have VL:s.TypeIs (.ref sl) "slice" := ⟨os,L8,LV⟩;unfold getItem;try with_reducible refine OP ?_
 first|refine U0 (Qo ?_)|skip
 refine U0 (wpAny_sequenceKey ht.typeIs (by decide) ?_);refine U0 (O4 (name:=Str.ofString "__getitem__") ht.typeIs OU (xM OU ht.typeIs entry_tuple_getitem ?_ (args_tuple_getitem _ _)));show wpAny _ _ (Builtin.Tuple.tupleItemsOf (.ref t) >>= _) _ _ s;refine U0 (tupleItemsOf_ ht ?_);refine U0 (Js VL ?_);rw[Ge (by decide)];refine U0 (iV hs pl pu ?_);have Kj:¬((((cY items.size 0 lo:Nat):Int) == 0&&(1:Int) == 1&&(cY items.size items.size hi-cY items.size 0 lo) == items.size)=true):=by intro q;rw[NU,NU] at q;have q1:((cY items.size 0 lo:Nat):Int)=0:=eq_of_beq q.1.1;have q2:cY items.size items.size hi-cY items.size 0 lo=items.size:=eq_of_beq q.2;exact hw ⟨Uk,Uk⟩
 show wpAny _ _ (if (((cY items.size 0 lo:Nat):Int) == 0&&(1:Int) == 1&&(cY items.size items.size hi-cY items.size 0 lo) == items.size)=true then _ else _) _ _ s;rw[UE Kj,EU];first|exact U0 (m:=Builtin.Tuple.tupleExact _) (MC (Qo ⟨_,rfl,Qo h⟩) zI)|exact U0 (m:=Builtin.Tuple.tupleExact _) (MC (U0 (Qo (Qo ⟨_,rfl,Qo h⟩))) zI)|exact U0 (U0 (m:=Builtin.Tuple.tupleExact _) (MC (Qo (Qo ⟨_,rfl,Qo h⟩)) zI))|exact U0 (U0 (m:=Builtin.Tuple.tupleExact _) (MC (Qo ⟨_,rfl,Qo h⟩) zI))
end
end HT
namespace L2
open PySem PySem.Spec PyProof.Rows
abbrev TO:=St->Hp->(Option Int->Hp->Prop)->Prop
def PO(X:Cx)(e:Option Expr)(t:TO):Prop:=∀(UW:P4)(s:Shared)(σ:St)(H:Hp)(Q:Pq->Hp->Prop),Inv X UW σ H s->t σ H Q->wpAny (model X.prog X.w) X.A (evalPart e X.env) (fun u s'=>∃o H',Inv X UW σ H' s'/\IsPart u o/\Q o H') X.xe s
def Jl:TO:=fun _ H Q=>Q none H
def Tt(t:TE):TO:=fun σ H Q=>t σ H fun x H1=>∃i,x=.int i/\Q (some i) H1
theorem intsAre_of:∀{us:RU},Vals (ns.map V.int) us->IntsAre us ns:=by induction ns with|nil=>intro us r;rw[tN] at r;cases r;exact .nil|cons n ns ih=>intro us r;rw[Po] at r;cases r with|cons r1 r2=>obtain⟨t,e⟩:=r1;subst e;exact .cons n t (ih r2)
section
variable{X:Cx}{e:Expr}{te:TE}{lo hi:Option Expr}{tl th:TO}{pos p2:Pos}
theorem Iw:PO X none Jl:=by intro UW s σ H Q I h;rw[evalPart_none];exact Qo ⟨none,H,I,.none,h⟩
theorem Iy(h:PE X e te):PO X (some e) (Tt te):=by intro UW s σ H Q I hw;rw[evalPart_some];refine bS (h UW s σ H _ I hw) fun u s1 zz=>?_;obtain⟨x,H1,I1,r1,q1⟩:=zz;obtain⟨i,rfl,q⟩:=q1;obtain⟨t,rfl⟩:=r1;exact⟨some i,H1,I1,.int i t,q⟩
def uY(X:Cx)(r:V->Pq->Pq->Hp->VK->Prop):Prop:=∀(UW:P4)(s:Shared)(σ:St)(H:Hp)(x:V)(v vl vu:Value)(lo hi:Pq)(sl:Addr)(Q:VK),Inv X UW σ H s->RelV x v->s.heap.IsSliceOf sl vl vu .none->IsPart vl lo->IsPart vu hi->r x lo hi H Q->∃T id,typeLookup (.type T) "__getitem__" = pure (some (.builtin id))/\s.TypeIs v T/\wpAny (model X.prog X.w) X.A (getItem v (.ref sl)) (EP X UW σ Q) X.xe s
theorem uY.or(h:uY X r)(h':uY X r'):uY X (fun x lo hi H Q=>r x lo hi H Q\/r' x lo hi H Q):=by intro UW s σ H x v vl vu lo hi sl Q I rx hs pl pu q;rcases q with q|q;exact h UW s σ H x v vl vu lo hi sl Q I rx hs pl pu q;exact h' UW s σ H x v vl vu lo hi sl Q I rx hs pl pu q
def tSl(r:V->Pq->Pq->Hp->VK->Prop)(te:TE)(tl th:TO):TE:=fun σ H Q=>te σ H fun x H1=>tl σ H1 fun l H2=>th σ H2 fun u H3=>r x l u H3 Q
theorem ER(hr:uY X r)(he:PE X e te)(hl:PO X lo tl)(hu:PO X hi th):PE X (.Subscript e (.Slice lo hi none p2) pos) (tSl r te tl th):=by intro UW s σ H Q I h;refine Subscript_ (bS (he UW s σ H _ I h) fun v s1 zz=>?_);obtain⟨x,H1,I1,r1,q1⟩:=zz;refine wpAny_Slice (bS (hl UW s1 σ H1 _ I1 q1) fun vl s2 ⟨l,H2,I2,pl,q2⟩=>bS (hu UW s2 σ H2 _ I2 q2) fun vu s3 zz=>?_);obtain⟨u,H3,I3,pu,q3⟩:=zz;rw[evalPart_none];refine Qo ?_;have I4:Inv X UW σ H3 {s3 with heap:=s3.heap.push {cls:=.type "slice",data:=.fields #[vl,vu,.none]}}:=I3.kept (t':=s3.toks) fun b ob q=>WL _ q;obtain⟨T,id,hT,ht,hg⟩:=hr UW {s3 with heap:=s3.heap.push {cls:=.type "slice",data:=.fields #[vl,vu,.none]}} σ H3 x v vl vu l u s3.heap.objs.size Q I4 r1 (Heap.IsSliceOf.new ..) pl pu q3;show wpAny (model X.prog X.w) X.A (subscriptTail e (.Slice lo hi none p2) v (.ref s3.heap.objs.size)) (EP X UW σ Q) X.xe {s3 with heap:=s3.heap.push {cls:=.type "slice",data:=.fields #[vl,vu,.none]}};exact tail_any (ops:=[.ref s3.heap.objs.size,v]) ht hT hg (by with_unfolding_all rfl)
def lW(xs:O6)(lo hi:Pq):O6:=(xs.drop (HT.cY xs.length 0 lo)).take (HT.cY xs.length xs.length hi-HT.cY xs.length 0 lo)
theorem jR(xs:O6)(lo hi:Pq):(lW xs lo hi).length<=xs.length:=by
 unfold lW;rw[M1,List.length_drop]
 lia
def WY(K:W.Frag):V->Pq->Pq->Hp->VK->Prop:=fun x lo hi H Q=>∃a xs,x=.ref a/\dB K H a xs/\¬(HT.cY xs.length 0 lo=0/\HT.cY xs.length xs.length hi=xs.length)/\∀p,H p=none->Q (.ref p) (upd H p (.tup (lW xs lo hi)))
theorem OO:uY X (WY X.K):=by
 intro UW s σ H x v vl vu lo hi sl Q I rx hs pl pu h;obtain⟨a,xs,rfl,hx,hw,q⟩:=h;cases rx;obtain⟨aD,r,ht,hz⟩:=I.tuple hx;have R5:aD.toArray.size=xs.length:=by rw[Tv];exact r.length.symm
 refine⟨"tuple",_,PyProof.Rows.slot_tuple_getitem.lookup,ht.typeIs,?_⟩;refine HT.l9 ht hs pl pu (by rw[R5];exact hw) ?_ (by rw[R5];exact hz);rw[R5];refine⟨.ref s.heap.objs.size,_,I.laid (t':=s.toks) (o:=.tup (lW xs lo hi)) (fun b ob q=>WL _ q) (Uj _) ?_,rfl,q _ (I.cg.fresh (Uj _))⟩;exact⟨DT (jR xs lo hi) hz,_,(r.drop (HT.cY xs.length 0 lo)).take (HT.cY xs.length xs.length hi-HT.cY xs.length 0 lo),lR.new _ _⟩
def SW(K:W.Frag):R2:=fun x y H Q=>∃a b xs ys,x=.ref a/\y=.ref b/\dB K H a xs/\dB K H b ys/\xs≠[]/\xs.length+ys.length<=sizeLine/\(ys=[]->Q (.ref a) H)/\(ys≠[]->∀p,H p=none->Q (.ref p) (upd H p (.tup (xs++ys))))
theorem Vals.mB(r:Vals xs us):us=[]<->xs=[]:=by cases r with|nil=>simp|cons _ _=>simp
theorem Q2Q:gC X (binaryOp .Add) (SW X.K):=by intro UW s σ H x y v u Q I rx ry h;obtain⟨a,b,xs,ys,rfl,rfl,ha,hb,hx,hz,q1,q2⟩:=h;cases rx;cases ry;obtain⟨aD,r1,p1,_⟩:=I.tuple ha;obtain⟨jJ,r2,p2,_⟩:=I.tuple hb;refine HT.GI p1 p2 (fun z=>hx (r1.mB.mp z)) (fun z=>⟨.ref a,H,I,rfl,q1 (r2.mB.mp z)⟩) (fun z=>?_) (by rw[<-r1.length,<-r2.length];exact hz);refine⟨.ref s.heap.objs.size,_,I.laid (t':=s.toks) (o:=.tup (xs++ys)) (fun b ob q=>WL _ q) (Uj _) ?_,rfl,q2 (fun w=>z (r2.mB.mpr w)) _ (I.cg.fresh (Uj _))⟩;exact⟨by rw[xU];exact hz,_,r1.append r2,lR.new _ _⟩
end
def Mq(n:Nat)(i:Int):Option Nat:=if 0<=i then(if i<n then some i.toNat else none) else if -(n:Int)<=i then some (i+n).toNat else none
def B1{α:Type}(xs:List α)(i:Int):Option α:=(Mq xs.length i).bind fun j=>xs[j]?
theorem zM(h:Mq n i=some j):seqIndex? i n=some j/\j<n/\-(n:Int)<=i/\i<n:=by unfold Mq at h;by_cases h0:0<=i;rw[Ge h0] at h;by_cases h1:i<n;rw[Ge h1] at h;have e:i.toNat=j:=RD h;exact⟨by rw[seqIndex_of h0 h1,e],T9,T9,h1⟩;rw[UE h1] at h;cases h;rw[UE h0] at h;by_cases h1:-(n:Int)<=i;rw[Ge h1] at h;have e:(i+n).toNat=j:=RD h;exact⟨by rw[seqIndex_neg T9 h1,e],T9,h1,T9⟩;rw[UE h1] at h;cases h
theorem tL{α:Type}{xs:List α}{v:α}(h:B1 xs i=some v):∃j,seqIndex? i xs.length=some j/\xs[j]?=some v/\j<xs.length/\-(xs.length:Int)<=i/\i<xs.length:=by unfold B1 at h;cases e:Mq xs.length i with|none=>rw[e] at h;cases h|some j=>rw[e] at h;obtain⟨h1,h2,h3,h4⟩:=zM e;exact⟨j,h1,h,h2,h3,h4⟩
def tG(b:Expr):Prop:=∀o i,subscripted b false o i=operate [o,i] (getItem o i)
def Gs(X:Cx)(r:R2):Prop:=∀(value slice:Expr)(UW:P4)(s:Shared)(σ:St)(H:Hp)(x y:V)(v u:Value)(Q:VK),Inv X UW σ H s->RelV x v->RelV y u->r x y H Q->subscripted slice false v u=operate [v,u] (getItem v u)->wpAny (model X.prog X.w) X.A (subscriptTail value slice v u) (EP X UW σ Q) X.xe s
def Vg(X:Cx)(id:String)(r:V->O6->Hp->VK->Prop):Prop:=∀(UW:P4)(s:Shared)(σ:St)(H:Hp)(x:V)(xs:O6)(v:Value)(us:RU)(Q:VK),Inv X UW σ H s->RelV x v->Vals xs us->r x xs H Q->wpAny (model X.prog X.w) X.A (call (.builtin id) (v::us)) (EP X UW σ Q) X.xe s
section
variable{X:Cx}{a b:Expr}{ta tb:TE}{pos:Pos}
theorem Gs.or(h:Gs X r)(h':Gs X r'):Gs X (fun x y H Q=>r x y H Q\/r' x y H Q):=by intro value slice UW s σ H x y v u Q I rx ry q hs;rcases q with q|q;exact h value slice UW s σ H x y v u Q I rx ry q hs;exact h' value slice UW s σ H x y v u Q I rx ry q hs
theorem Kv(hr:Gs X r)(ha:PE X a ta)(hb:PE X b tb)(hs:tG b):PE X (.Subscript a b pos) (KH r ta tb):=by intro UW s σ H Q I h;exact Subscript_ (Ld ha hb I h fun v u s2 x y H2 I2 rx ry q=>hr a b UW s2 σ H2 x y v u Q I2 rx ry q (hs _ _))
def SY(K:W.Frag):R2:=fun x y H Q=>∃p xs i v,x=.ref p/\y=.int i/\cU K H p xs/\B1 xs i=some v/\Q v H
def S1(K:W.Frag):R2:=fun x y H Q=>∃p xs i v,x=.ref p/\y=.int i/\dB K H p xs/\B1 xs i=some v/\Q v H
def S0:R2:=fun x y H Q=>∃z i c,x=.str z/\y=.int i/\z.length<=sizeLine/\B1 z.cps.toList i=some c/\Q (.str ⟨#[c]⟩) H
theorem Hi:Gs X (SY X.K):=by
 intro value slice UW s σ H x y v u Q I rx ry h hs;obtain⟨p,xs,i,z,rfl,rfl,hq,he,q⟩:=h;cases rx;obtain⟨t,rfl⟩:=ry;obtain⟨aD,r,pl,hz⟩:=I.list hq;obtain⟨j,h1,h2,h3,h4,h5⟩:=tL he;obtain⟨w,ew,S7⟩:=r.get h2;have hl:=r.length;have hn:=qq;have fin:EP X UW σ Q w s:=⟨z,H,I,S7,q⟩;by_cases h0:0<=i;have hj:i.toNat=j:=by rw[seqIndex_of h0 h5] at h1;exact RD h1
 exact item_listR pl.isList h0 T9 (by rw[hj];simpa using ew) fin hs;have hj:(i+(aD.toArray.size:Int)).toNat=j:=by rw[seqIndex_neg T9 h4] at h1;rw[Tv,<-hl];exact RD h1
 exact subscriptTail_builtinR (x:=w) pl.isList.typeIs slot_list_getitem.lookup (wpAny_getItem_list_neg (Q:=fun r s'=>r=w/\EP X UW σ Q r s') pl.isList T9 (by rw[Tv]<;>lia) T9 (by rw[hj];simpa using ew) ⟨rfl,fin⟩) hs
theorem Ms:Gs X (S1 X.K):=by intro value slice UW s σ H x y v u Q I rx ry h hs;obtain⟨p,xs,i,z,rfl,rfl,hq,he,q⟩:=h;cases rx;obtain⟨t,rfl⟩:=ry;obtain⟨aD,r,pl,hz⟩:=I.tuple hq;obtain⟨j,h1,h2,h3,h4,h5⟩:=tL he;obtain⟨w,ew,S7⟩:=r.get h2;have hl:=r.length;have hn:=qq;have fin:EP X UW σ Q w s:=⟨z,H,I,S7,q⟩;exact subscriptTail_builtinR (x:=w) pl.typeIs slot_tuple_getitem.lookup (getItem_tuple (j:=j) (Q:=fun r s'=>r=w/\EP X UW σ Q r s') pl T9 T9 (by rw[Tv,<-hl];exact h1) (by simpa using ew) ⟨rfl,fin⟩) hs
theorem Q1q:Gs X S0:=by
 intro value slice UW s σ H x y v u Q I rx ry h hs;obtain⟨z,i,c,rfl,rfl,hz,he,q⟩:=h;obtain⟨t,rfl⟩:=rx;obtain⟨t',rfl⟩:=ry;obtain⟨j,h1,h2,h3,h4,h5⟩:=tL he;have hl:z.cps.toList.length=z.length:=by simp[Str.length]
 rw[hl] at h1 h4 h5;have hn:=qq;exact tail_any (typeIs_str s z t) slot_str_getitem.lookup (getItem_str (c:=c) (by have e1:decide (i < -(2 ^ 63:Int))=false:=Vy T9;have e2:decide (i>=2 ^ 63)=false:=Vy T9;rw[e1,e2,Bool.or_false]) (by rw[h1];simpa using h2) ⟨.str ⟨#[c]⟩,H,I.tok _,⟨_,rfl⟩,q⟩) hs
def YE(K:W.Frag):R2:=fun x y H Q=>SY K x y H Q\/S1 K x y H Q\/S0 x y H Q
theorem D4:Gs X (YE X.K):=Hi.or (Ms.or Q1q)
theorem xR(aD:RU)(n j:Nat)(u:Value):Obj.mapSeq (·.setIfInBounds j u) {cls:=.type "list",data:=.seq aD.toArray n}={cls:=.type "list",data:=.seq (aD.set j u).toArray n}:=by simp[Obj.mapSeq]
theorem Inv.lst{UW:P4}{σ:St}{H:Hp}{s:Shared}{p:Addr}{xs:O6}(I:Inv X UW σ H s)(h:H p=some (.lst xs)) : ∃(aD:RU)(n:Nat),Vals xs aD/\s.heap.get? p=some {cls:=.type "list",data:=.seq aD.toArray n}/\xs.length<=sizeLine:=by obtain⟨z,aD,n,r,e⟩:=I.cg p _ h;exact⟨aD,n,r,e,z⟩
theorem Inv.MF{UW:P4}{σ:St}{H:Hp}{s:Shared}{p:Addr}{xs ys:O6}{aD its':RU}{n n':Nat}{f:Obj->Obj}(I:Inv X UW σ H s)(h:H p=some (.lst xs))
  (ho:s.heap.get? p=some {cls:=.type "list",data:=.seq aD.toArray n}) (hf:f {cls:=.type "list",data:=.seq aD.toArray n}={cls:=.type "list",data:=.seq its'.toArray n'}) (r:Vals ys its') (hz:ys.length<=sizeLine) (t:Nat) :
  Inv X UW σ (upd H p (.lst ys)) {s with heap:=s.heap.update p f,toks:=t}:=by
 have e:(s.heap.update p f).get? p=some {cls:=.type "list",data:=.seq its'.toArray n'}:=by rw[vT f ho (by rw[hf]<;>rfl),hf]
 refine I.write (x:=p) (e:=p) (by rw[h];trivial) (.inl rfl) (fun b u hb q=>(rE _ _ (W5 hb)).trans q) ⟨_,e⟩ ?_;exact⟨hz,its',n',r,e⟩
def S5:V->V->V->Hp->(Hp->Prop)->Prop:=fun o i v H Q=>∃p xs k j,o=.ref p/\i=.int k/\H p=some (.lst xs)/\Mq xs.length k=some j/\Q (upd H p (.lst (xs.set j v)))
theorem set_list:Ql X S5:=by
 intro UW s σ H o i v ov iv u Q I ro ri rv h;obtain⟨p,xs,k,j,rfl,rfl,hp,hj,q⟩:=h;cases ro;obtain⟨t,rfl⟩:=ri;obtain⟨aD,n,r,ho,hz⟩:=I.lst hp;obtain⟨h1,h2,h3,h4⟩:=zM hj;have hl:=r.length;have hn:=qq;have I':Inv X UW σ (upd H p (.lst (xs.set j v))) {s with heap:=s.heap.update p (Obj.mapSeq (·.setIfInBounds j u))}:=I.MF hp ho (xR aD n j u) (r.set rv j) (by rw[List.length_set];exact hz) s.toks;by_cases h0:0<=k;have hk:k.toNat=j:=by rw[seqIndex_of h0 h4] at h1;exact RD h1
 exact W.ki_setAt ho h0 T9 (by rw[Tv,<-hl];exact h4) (by rw[hk];exact⟨_,I',q⟩);have hk:(k+(aD.toArray.size:Int)).toNat=j:=by rw[seqIndex_neg T9 h3] at h1;rw[Tv,<-hl];exact RD h1
 exact W.ki_setBack ho T9 (by rw[Tv,<-hl];exact h3) T9 (by rw[hk];exact⟨_,I',q⟩)
theorem uN(lo hi:Pq)(n:Nat):(sliceBounds lo hi none n).1=((HT.cY n 0 lo:Nat):Int)/\(sliceBounds lo hi none n).2.1=((HT.cY n n hi:Nat):Int)/\(sliceBounds lo hi none n).2.2=1:=by
 refine⟨?_,?_,rfl⟩;cases lo with|none=>simp[sliceBounds,HT.cY]|some i=>simp only[sliceBounds,HT.cY,Option.getD_none,show (1:Int) > 0 by decide,if_true];by_cases h:i<0;simp only[h,if_true]<;>lia;simp only[h,if_false]<;>lia
 cases hi with|none=>simp[sliceBounds,HT.cY]|some i=>simp only[sliceBounds,HT.cY,Option.getD_none,show (1:Int) > 0 by decide,if_true];by_cases h:i<0;simp only[h,if_true]<;>lia;simp only[h,if_false]<;>lia
theorem rL(aD:RU)(lo hi:Pq):slicePick aD.toArray lo hi none=((aD.drop (HT.cY aD.length 0 lo)).take (HT.cY aD.length aD.length hi-HT.cY aD.length 0 lo)).toArray:=by obtain⟨h1,h2,h3⟩:=uN lo hi aD.toArray.size;unfold slicePick;rw[h1,h2,h3];simp only[sliceRange_one,pick_run,List.size_toArray]<;>rfl
def Oz(K:W.Frag):V->Pq->Pq->Hp->VK->Prop:=fun x lo hi H Q=>∃a xs,x=.ref a/\cU K H a xs/\∀p,H p=none->Q (.ref p) (upd H p (.lst (lW xs lo hi)))
theorem Q38:uY X (Oz X.K):=by intro UW s σ H x v vl vu lo hi sl Q I rx hs pl pu h;obtain⟨a,xs,rfl,hx,q⟩:=h;cases rx;obtain⟨aD,r,ht,hz⟩:=I.list hx;have R5:=r.length;refine⟨"list",_,slot_list_getitem.lookup,ht.isList.typeIs,?_⟩;refine wpAny_getItem_list_slice ht.isList hs pl pu .none G9 ?_ (by rw[Tv]<;>lia);rw[rL,<-R5];refine⟨.ref s.heap.objs.size,_,I.laid (t':=s.toks) (o:=.lst (lW xs lo hi)) (fun b ob q=>WL _ q) (Uj _) ?_,rfl,q _ (I.cg.fresh (Uj _))⟩;exact⟨DT (jR xs lo hi) hz,_,0,(r.drop (HT.cY xs.length 0 lo)).take (HT.cY xs.length xs.length hi-HT.cY xs.length 0 lo),PQ _ rfl⟩
def kY:V->Bool|.bC=>true|.bl _=>true|.int _=>true|.str _=>true|_=>false
def GN:V->V->Bool|.bC,.bC=>true|.bl a,.bl b=>a == b|.bl a,.int b=>(if a then 1 else 0) == b|.int a,.bl b=>a == (if b then 1 else 0)|.int a,.int b=>a == b|.str a,.str b=>a == b|_,_=>false
theorem Q1z(ry:RelV y u)(rx:RelV x v)(fy:kY y=true)(fx:kY x=true):SeqAt.EqAt A s u v (GN y x):=by
 cases y with
 |bC=>cases ry;cases x with|bC=>cases rx;exact SeqAt.EqAt.same _|bl b=>cases rx;exact SeqAt.EqAt.none_bool b|int b=>obtain⟨t,rfl⟩:=rx;exact SeqAt.EqAt.none_int b t|str b=>obtain⟨t,rfl⟩:=rx;exact SeqAt.EqAt.none_str b t|_=>exact absurd (show false=true from fx) BC
 |bl a=>cases ry;cases x with|bC=>cases rx;exact SeqAt.EqAt.bool_none a|bl b=>cases rx;exact SeqAt.EqAt.bool_bool a b|int b=>obtain⟨t,rfl⟩:=rx;exact SeqAt.EqAt.bool_int a b t|str b=>obtain⟨t,rfl⟩:=rx;exact SeqAt.EqAt.bool_str a b t|_=>exact absurd (show false=true from fx) BC
 |int a=>obtain⟨t',rfl⟩:=ry;cases x with|bC=>cases rx;exact SeqAt.EqAt.int_none a t'|bl b=>cases rx;exact SeqAt.EqAt.int_bool a t' b|int b=>obtain⟨t,rfl⟩:=rx;exact SeqAt.EqAt.int_int a t' b t|str b=>obtain⟨t,rfl⟩:=rx;exact SeqAt.EqAt.int_str a t' b t|_=>exact absurd (show false=true from fx) BC
 |str a=>obtain⟨t',rfl⟩:=ry;cases x with|bC=>cases rx;exact SeqAt.EqAt.str_none a t'|bl b=>cases rx;exact SeqAt.EqAt.str_bool a t' b|int b=>obtain⟨t,rfl⟩:=rx;exact SeqAt.EqAt.str_int a t' b t|str b=>obtain⟨t,rfl⟩:=rx;exact SeqAt.EqAt.str_str a t' b t|_=>exact absurd (show false=true from fx) BC
 |_=>exact absurd (show false=true from fy) BC
def xl(x:V)(u:Value):Bool:=match u with|.none=>GN .bC x|.bool b=>GN (.bl b) x|.int i _=>GN (.int i) x|.str z _=>GN (.str z) x|_=>false
theorem Dh(r:RelV y u)(f:kY y=true):xl x u=GN y x:=by cases y with|bC=>cases r;rfl|bl b=>cases r;rfl|int i=>obtain⟨t,rfl⟩:=r;rfl|str z=>obtain⟨t,rfl⟩:=r;rfl|_=>exact absurd (show false=true from f) BC
theorem lS:∀{xs:O6}{us:RU},Vals xs us->xs.all kY=true->us.any (xl x)=xs.any fun y=>GN y x|_,_,.nil,_=>rfl|y::xs,u::us,.cons r t,f=>by rw[TH,NU] at f;rw[AB,AB,Dh r f.1,lS t f.2]
theorem j7(rx:RelV x v)(fx:kY x=true):∀{xs:O6}{us:RU},Vals xs us->xs.all kY=true->∀u∈us,SeqAt.EqAt A s u v (xl x u)|_,_,.nil,_=>fun u hu=>by cases hu|y::xs,u::us,.cons r t,f=>fun u' hu=>by rw[TH,NU] at f;rcases List.mem_cons.mp hu with rfl|hu;rw[Dh r f.1];exact Q1z r rx f.1 fx;exact j7 rx fx t f.2 u' hu
def UB(x:V)(xs:O6):Bool:=xs.any fun y=>GN y x
def UM(K:W.Frag)(neg:Bool):R2:=fun x y H Q=>∃p xs,y=.ref p/\(cU K H p xs\/dB K H p xs)/\kY x=true/\xs.all kY=true/\Q (.bl (if neg then !UB x xs else UB x xs)) H
theorem eD:gC X (compareOp .In) (UM X.K false):=by intro UW s σ H x y v u Q I rx ry h;obtain⟨p,xs,rfl,hq,fx,fs,q⟩:=h;cases ry;rcases hq with hq|hq;obtain⟨aD,r,pl,hz⟩:=I.list hq;refine SeqAt.in_listAt (xl x) pl.isList (fun w hw=>j7 rx fx r fs w (by simpa using hw)) ⟨.bl _,H,I,rfl,?_⟩;rw[show aD.toArray.any (xl x)=aD.any (xl x) by simp,lS r fs];exact q;obtain⟨aD,r,pl,hz⟩:=I.tuple hq;refine SeqAt.in_tupleAt (xl x) pl (fun w hw=>j7 rx fx r fs w (by simpa using hw)) ⟨.bl _,H,I,rfl,?_⟩;rw[show aD.toArray.any (xl x)=aD.any (xl x) by simp,lS r fs];exact q
theorem mE:gC X (compareOp .NotIn) (UM X.K true):=by intro UW s σ H x y v u Q I rx ry h;obtain⟨p,xs,rfl,hq,fx,fs,q⟩:=h;cases ry;rcases hq with hq|hq;obtain⟨aD,r,pl,hz⟩:=I.list hq;refine SeqAt.notIn_listAt (xl x) pl.isList (fun w hw=>j7 rx fx r fs w (by simpa using hw)) ⟨.bl _,H,I,rfl,?_⟩;rw[show aD.toArray.any (xl x)=aD.any (xl x) by simp,lS r fs];exact q;obtain⟨aD,r,pl,hz⟩:=I.tuple hq;refine SeqAt.notIn_tupleAt (xl x) pl (fun w hw=>j7 rx fx r fs w (by simpa using hw)) ⟨.bl _,H,I,rfl,?_⟩;rw[show aD.toArray.any (xl x)=aD.any (xl x) by simp,lS r fs];exact q
theorem Q2B:dF X (.builtin "len") (fun xs H Q=>∃p ys,xs=[.ref p]/\(cU X.K H p ys\/dB X.K H p ys)/\Q (.int ys.length) H):=by intro UW s σ H xs us Q I r h;obtain⟨p,ys,rfl,hq,q⟩:=h;obtain⟨u,rfl,rx⟩:=vals1 r;cases rx;have hn:=qq;rcases hq with hq|hq;obtain⟨aD,r',pl,hz⟩:=I.list hq;have R5:=r'.length;exact Calls.call_len_list pl.isList (by simp only[List.size_toArray]<;>lia) ⟨.int ys.length,H,I.tok _,⟨s.toks+1,by rw[Tv,R5]⟩,q⟩;obtain⟨aD,r',pl,hz⟩:=I.tuple hq;have R5:=r'.length;exact len_tuple pl (by simp only[List.size_toArray]<;>lia) ⟨.int ys.length,H,I.tok _,⟨s.toks+1,by rw[Tv,R5]⟩,q⟩
theorem tO:dF X (.type "list") (fun xs H Q=>∃p ys,xs=[.ref p]/\(cU X.K H p ys\/dB X.K H p ys)/\∀l,H l=none->Q (.ref l) (upd H l (.lst ys))):=by intro UW s σ H xs us Q I r h;obtain⟨p,ys,rfl,hq,q⟩:=h;obtain⟨u,rfl,rx⟩:=vals1 r;cases rx;have fin:∀(aD:RU),Vals ys aD->ys.length<=sizeLine->∀(h':Heap)(c':Nat),(∀b o',s.heap.get? b=some o'->h'.get? b=some o')->h'.get? s.heap.objs.size=some {cls:=.type "list",dict:=none,data:=.seq aD.toArray c',slots:=#[]}->EP X UW σ Q (.ref s.heap.objs.size) {s with heap:=h'}:=fun aD r' hz h' c' kp e=>⟨.ref s.heap.objs.size,_,I.laid (t':=s.toks) kp (Uj _) (show dw X.prog X.w _ h' _ (.lst ys) from⟨hz,aD,c',r',e⟩),rfl,q _ (I.cg.fresh (Uj _))⟩;rcases hq with hq|hq;obtain⟨aD,r',pl,hz⟩:=I.list hq;have R5:=r'.length;obtain⟨o,ho,hc,n,hd⟩:=pl.isList;exact call_list_seq p (.inl rfl) ho hc hd (fun h' c' kp e=>fin aD r' hz h' c' kp e) (by simp only[List.size_toArray]<;>lia);obtain⟨aD,r',pl,hz⟩:=I.tuple hq;have R5:=r'.length;obtain⟨o,ho,hc,n,hd⟩:=pl;exact call_list_seq p (.inr rfl) ho hc hd (fun h' c' kp e=>fin aD r' hz h' c' kp e) (by simp only[List.size_toArray]<;>lia)
theorem rm:dF X (.type "tuple") (fun xs H Q=>∃p ys,xs=[.ref p]/\((cU X.K H p ys/\∀l,H l=none->Q (.ref l) (upd H l (.tup ys)))\/(dB X.K H p ys/\Q (.ref p) H))):=by
 intro UW s σ H xs us Q I r h;obtain⟨p,ys,rfl,h⟩:=h;obtain⟨u,rfl,rx⟩:=vals1 r;cases rx;rcases h with ⟨hq,q⟩|⟨hq,q⟩
 obtain⟨aD,r',pl,hz⟩:=I.list hq;have R5:=r'.length;refine call_tuple_list pl.isList (fun h' kp=>?_) (by simp only[List.size_toArray]<;>lia);have I1:Inv X UW σ H {s with heap:=h'}:=I.kept (t':=s.toks) kp;have I2:Inv X UW σ (upd H h'.objs.size (.tup ys)) {s with heap:=h'.push {cls:=.type "tuple",data:=.seq aD.toArray}}:=I1.laid (t':=s.toks) (fun b o e=>WL _ e) (Uj _) (show dw X.prog X.w _ _ _ (.tup ys) from⟨hz,aD,r',lR.new _ _⟩);exact⟨.ref h'.objs.size,_,I2,rfl,q _ (I1.cg.fresh (Uj _))⟩;obtain⟨aD,r',pl,hz⟩:=I.tuple hq;exact call_tuple_same pl ⟨.ref p,H,I,rfl,q⟩
def Xq(K:W.Frag)(T:String)(x:V)(H:Hp):Prop:=match x with|.str _=>T="str"|.int _=>T="int"|.ref p=>(T="list" /\ ∃xs,cU K H p xs)\/(T="tuple" /\ ∃o,K.lookup p=some o/\o.cls=.type "tuple" /\ o.dict=none)\/(T="dict" /\ ((∃aO ep,H p=some (.dK aO ep))\/∃aO,H p=some (.dT aO)))\/(T="set" /\ ∃S n,H p=some (.set S n))|_=>False
theorem FG{UW:P4}{σ:St}{H:Hp}{s:Shared}{T:String}{x:V}{v:Value}(I:Inv X UW σ H s)(r:RelV x v)(ty:Xq X.K T x H) : s.TypeIs v T/\∀a,v=.ref a->∃ob,s.heap.get? a=some ob/\ob.dict=none:=by
 cases x with
 |str z=>obtain⟨t,rfl⟩:=r;cases (show T="str" from ty);exact⟨typeIs_str s z t,fun _ e=>nomatch e⟩|int i=>obtain⟨t,rfl⟩:=r;cases (show T="int" from ty);exact⟨typeIs_int s i t,fun _ e=>nomatch e⟩|ref p=>
  cases r;rcases ty with ⟨rfl,xs,hq⟩|⟨rfl,o,hk,hc,hd⟩|⟨rfl,hk⟩|⟨rfl,S,n,hk⟩
  obtain⟨aD,_,pl,_⟩:=I.list hq;refine⟨pl.isList.typeIs,fun a e=>?_⟩;cases e;obtain⟨o,n,e,c,hd,_⟩:=pl;exact⟨o,e,hd⟩;refine⟨⟨o,I.mP p o hk,hc⟩,fun a e=>?_⟩;cases e;exact⟨o,I.mP _ o hk,hd⟩;have z:∃o,s.heap.get? p=some o/\o.ExactDict:=by
   rcases hk with ⟨aO,ep0,hk⟩|⟨aO,hk⟩
   obtain⟨_,_,_,_,o,_,e,ex,_⟩:=I.cg p _ hk;exact⟨o,e,ex⟩;obtain⟨_,_,_,_,o,_,_,e,ex,_⟩:=I.cg p _ hk;exact⟨o,e,ex⟩
  obtain⟨o,e,ex⟩:=z;refine⟨⟨o,e,ex.1⟩,fun a e2=>?_⟩;cases e2;exact⟨o,e,ex.2.1⟩;obtain⟨o,_,_,_,e,ex,_⟩:=I.cg p _ hk;refine⟨⟨o,e,ex.1⟩,fun a e2=>?_⟩;cases e2;exact⟨o,e,ex.2.1⟩
 |_=>exact False.elim ty
def Th(K:W.Frag)(T:String)(r:V->O6->Hp->VK->Prop)(to:TE):TE:=fun σ H Q=>to σ H fun x H1=>Xq K T x H1/\r x [] H1 Q
def UZ(K:W.Frag)(T:String)(r:V->O6->Hp->VK->Prop)(to:TE)(t:TA):TE:=fun σ H Q=>to σ H fun x H1=>Xq K T x H1/\t σ H1 fun xs H2=>r x xs H2 Q
variable{o e:Expr}{es:W3}{to:TE}{t:TA}{name:Str}{QN iD:Pos}{T id:String}{r:V->O6->Hp->VK->Prop}
theorem EK(pa:PlainAttrs T)(slot:Slot T name id)(Wg:typeOf (.builtin id)=pure (.type "method_descriptor"))(hm:Vg X id r)(ho:PE X o to)(DE:attributeBase o name X.env (eval o X.env)=eval o X.env:=by rfl) (vG:(QN.endLine == iD.line)=true:=by rfl):PE X (.Call (.Attribute o name QN) [] [] iD) (Th X.K T r to):=by intro UW s σ H Q I h;refine wpAny_Call_method0_late DE vG (bS (ho UW s σ H _ I h) fun v s1 zz=>?_);obtain⟨x,H1,I1,r1,ty,q1⟩:=zz;obtain⟨h1,h2⟩:=FG I1 r1 ty;exact⟨T,id,pa,slot,Wg,h1,h2,Calls.callWith_builtin rfl (PySem.evalArgs_none (hm UW s1 σ H1 x [] v [] Q I1 r1 .nil q1))⟩
theorem Ku(pa:PlainAttrs T)(slot:Slot T name id)(Wg:typeOf (.builtin id)=pure (.type "method_descriptor"))(hm:Vg X id r)(ho:PE X o to)(ha:PA X (e::es) t)
  (DE:attributeBase o name X.env (eval o X.env)=eval o X.env:=by rfl)
  (V0:((backTo iD (starEach (e::es) X.env)).all (fun x=>!x.1)&&(backToKw iD (keywordEach [] X.env)).all (fun x=>x.1.isSome) && decide ((e::es).length+([]:List Keyword).length+(if ([]:List Keyword).isEmpty then 0 else 1)<30))=true:=by rfl)
  (vG:(QN.endLine == iD.line)=true:=by rfl) (hs:starEach (e::es) X.env=(false,eval e X.env)::starEach es X.env:=by rfl) (L9:(backTo iD (starEach es X.env)).any (·.1)=false:=by rfl) :
  PE X (.Call (.Attribute o name QN) (e::es) [] iD) (UZ X.K T r to t):=by
 intro UW s σ H Q I h;refine wpAny_Call_method_late DE V0 vG rfl (bS (ho UW s σ H _ I h) fun v s1 zz=>?_);obtain⟨x,H1,I1,r1,ty,q1⟩:=zz;obtain⟨h1,h2⟩:=FG I1 r1 ty;refine⟨T,id,pa,slot,Wg,h1,h2,?_⟩;have hA:=ha iD UW s1 σ H1 _ I1 q1;rw[hs] at hA ⊢;refine Calls.callWith_builtin (by show (false||(backTo iD (starEach es X.env)).any (·.1))=false;rw[L9]<;>rfl) (Calls.evalArgs_plain ?_);exact bS hA fun us s2 ⟨vs,H2,I2,r2,q2⟩=>hm UW s2 σ H2 x vs v us Q I2 r1 r2 q2
end
def Vf(X:Cx)(id:String)(r:V->O6->Hp->VK->Prop):Prop:=∀(UW:P4)(s:Shared)(σ:St)(H:Hp)(x:V)(xs:O6)(v:Value)(us:RU)(Q:VK),Inv X UW σ H s->RelV x v->Vals xs us->r x xs H Q->wpAny (model X.prog X.w) X.A (call (.builtin id) (v::us)) (EP X UW σ Q) X.xe s
theorem Vals.one:∀{x:V}{us:RU},Vals [x] us->∃u,us=[u]/\RelV x u|_,_,.cons r .nil=>⟨_,rfl,r⟩
theorem Vals.zero:∀{us:RU},Vals [] us->us=[]|_,.nil=>rfl
theorem Vals.dropLast(h:Vals xs us):Vals xs.dropLast us.dropLast:=by induction h with|nil=>exact .nil|cons r t ih=>cases t with|nil=>exact .nil|cons q t'=>exact .cons r ih
theorem Vals.eraseIdx:∀{xs:O6}{us:RU}(i:Nat),Vals xs us->Vals (xs.eraseIdx i) (us.eraseIdx i)|_,_,_,.nil=>.nil|_,_,0,.cons _ t=>t|_,_,i+1,.cons r t=>.cons r (Vals.eraseIdx i t)
theorem Vals.reverse(h:Vals xs us):Vals xs.reverse us.reverse:=by induction h with|nil=>exact .nil|cons r t ih=>rw[Au,Au];exact Vals.append ih (.cons r .nil)
theorem Vals.rep(h:Vals xs us):∀k:Nat,Vals (List.replicate k xs).flatten (List.replicate k us).flatten|0=>.nil|k+1=>by rw[IP,IP,OW,OW];exact Vals.append h (Vals.rep h k)
theorem xm{α:Type}(l:List α):l.eraseIdx (l.length-1)=l.dropLast:=by
 induction l with
 |nil=>rfl|cons a r ih=>
  cases r with
  |nil=>rfl|cons b r=>
   have e:(a::b::r).length-1=((b::r).length-1)+1:=by
    have h1:(a::b::r).length=r.length+2:=rfl;have h2:(b::r).length=r.length+1:=rfl
    lia
   rw[e,List.eraseIdx_cons_succ,ih];all_goals rfl
theorem foldl_rep(aD:RU):∀(k:Nat)(acc:RU),List.foldl (fun x1 x2=>x1++x2) acc.toArray (List.replicate k aD.toArray)=(acc++(List.replicate k aD).flatten).toArray
|0,acc=>G9|k+1,acc=>by
 have e:acc.toArray++aD.toArray=(acc++aD).toArray:=G9;have e2:(acc++aD)++(List.replicate k aD).flatten=acc++(List.replicate (k+1) aD).flatten:=by rw[IP,OW,List.append_assoc]
 rw[<-e2,<-foldl_rep aD k (acc++aD),<-e,IP,OL]
section
variable{X:Cx}{UW:P4}{σ:St}{H:Hp}{s:Shared}{l b:Addr}{xs ys zs:O6}
theorem Inv.ME{aD its':RU}{n:Nat}{f:Array Value->Array Value}{t':Nat}(I:Inv X UW σ H s)(hH:H l=some (.lst xs))
  (e:s.heap.get? l=some {cls:=.type "list",data:=.seq aD.toArray n}) (hf:f aD.toArray=its'.toArray) (hv:Vals ys its') (hz:ys.length<=sizeLine) :
  Inv X UW σ (upd H l (.lst ys)) {s with heap:=s.heap.update l (Obj.mapSeq f),toks:=t'}:=by
 have q:=PySem.IsL.update e f;rw[hf] at q;refine I.write (x:=l) (e:=l) (by rw[hH];exact trivial) (.inl rfl) (fun b' u hb hu=>(rE s.heap (Obj.mapSeq f) (W5 hb)).trans hu) ⟨_,q⟩ ?_;exact⟨hz,its',_,hv,q⟩
theorem Inv.Hr(I:Inv X UW σ H s)(hv:Vals ys aD)(hz:ys.length<=sizeLine) : Inv X UW σ (upd H s.heap.objs.size (.lst ys)) {s with heap:=s.heap.push {cls:=.type "list",data:=.seq aD.toArray},toks:=t'}:=
 I.laid (fun _ _ q=>WL _ q) (Uj _) ⟨hz,aD,0,hv,PQ _ rfl⟩
theorem Inv.fresh(I:Inv X UW σ H s):H s.heap.objs.size=none:=I.cg.fresh (Uj _)
theorem Inv.Ed(I:Inv X UW σ H s)(hH:H l=some (.lst xs)):xs.length<=sizeLine/\∃(aD:RU)(n:Nat),Vals xs aD/\xs.length=aD.length/\s.heap.get? l=some {cls:=.type "list",data:=.seq aD.toArray n}:=by obtain⟨z,aD,n,r,e⟩:=I.cg l _ hH;exact⟨z,aD,n,r,r.length,e⟩
theorem qy(h:n<=sizeLine):Builtin.List.listTooLong n=false:=by unfold Builtin.List.listTooLong;exact Vy T9
end
section
variable{X:Cx}
def uG:V->O6->Hp->VK->Prop:=fun x vs H Q=>∃l xs y,x=.ref l/\vs=[y]/\H l=some (.lst xs)/\xs.length<sizeLine/\Q .bC (upd H l (.lst (xs++[y])))
theorem sV:Vf X "list.append" uG:=by
 intro UW s σ H x vs v us Q I rx rv h;obtain⟨l,xs,y,rfl,rfl,hH,hz,q⟩:=h;cases rx;obtain⟨u,rfl,ru⟩:=rv.one;obtain⟨z,aD,n,r,hl,e⟩:=I.Ed hH;refine Ll F.slot_list_append ⟨_,e,rfl⟩ F.entry_list_append (F.args_list_append_2 _ _) (PySem.list_append l aD.toArray n u (by rw[Tv];lia)) ⟨e,?_⟩;refine⟨.bC,_,I.ME (its':=aD++[u]) hH e G9 (r.append (.cons ru .nil)) ?_,rfl,q⟩;rw[xU,List.length_singleton]
 lia
def Ai:V->O6->Hp->VK->Prop:=fun x vs H Q=>∃l b xs zs,x=.ref l/\vs=[.ref b]/\H l=some (.lst xs)/\H b=some (.lst zs)/\xs.length+zs.length<=sizeLine/\Q .bC (upd H l (.lst (xs++zs)))
theorem Bd:Vf X "list.extend" Ai:=by
 intro UW s σ H x vs v us Q I rx rv h;obtain⟨l,b,xs,zs,rfl,rfl,hH,hB,hz,q⟩:=h;cases rx;obtain⟨u,rfl,ru⟩:=rv.one;cases ru;obtain⟨z,aD,n,r,hl,e⟩:=I.Ed hH;obtain⟨z2,jJ,n2,r2,Kh,e2⟩:=I.Ed hB;have hsz:aD.toArray.size+jJ.toArray.size<=sizeLine:=by rw[Tv,Tv];lia
 have vH:¬(!aD.toArray.isEmpty&&Builtin.List.listTooLong (aD.toArray.size+jJ.toArray.size))=true:=by rw[qy hsz,Bool.and_false];exact BC
 refine Ll F.slot_list_extend ⟨_,e,rfl⟩ F.entry_list_extend (F.args_list_extend_2 _ _) (AutoSeq1.list_extend_list_list_0 l aD.toArray n b jJ.toArray n2 vH (by rw[Tv];lia) T9) ⟨e,e2,?_⟩;refine⟨.bC,_,I.ME (its':=aD++jJ) hH e G9 (r.append r2) ?_,rfl,q⟩;rw[xU]
 lia
def S2:V->O6->Hp->VK->Prop:=fun x vs H Q=>∃l xs y,x=.ref l/\vs=[]/\H l=some (.lst xs)/\xs[xs.length-1]?=some y/\Q y (upd H l (.lst xs.dropLast))
theorem MZ:Vf X "list.pop" S2:=by
 intro UW s σ H x vs v us Q I rx rv h;obtain⟨l,xs,y,rfl,rfl,hH,hy,q⟩:=h;cases rx;have Wh:=rv.zero;subst Wh;obtain⟨z,aD,n,r,hl,e⟩:=I.Ed hH;obtain⟨u,hu,ru⟩:=r.get hy;have Wk:aD.toArray[aD.toArray.size-1]?=some u:=by show aD.toArray[aD.length-1]?=some u;rw[<-Array.getElem?_toList,<-hl];exact hu
 refine Ll F.slot_list_pop ⟨_,e,rfl⟩ F.entry_list_pop (F.args_list_pop_1 _) (MeetsSeq.list_pop_last l aD.toArray n u Wk (by rw[Tv];lia)) ⟨e,?_⟩;refine⟨y,_,I.ME (its':=aD.dropLast) hH e ?_ r.dropLast ?_,ru,q⟩;show aD.toArray.eraseIdxIfInBounds (aD.toArray.size-1)=aD.dropLast.toArray;rw[Tv,List.eraseIdxIfInBounds_toArray,xm];rw[List.length_dropLast]
 lia
def Oy:R2:=fun x y H Q=>∃l k xs,x=.ref l/\y=.int k/\H l=some (.lst xs)/\-(2 ^ 63)<=k/\k<2 ^ 63/\xs.length*k.toNat<=sizeLine/\∀p,H p=none->Q (.ref p) (upd H p (.lst (List.replicate k.toNat xs).flatten))
theorem len_rep{α:Type}(xs:List α)(k:Nat):(List.replicate k xs).flatten.length=k*xs.length:=by induction k with|zero=>simp|succ k ih=>rw[IP,OW,xU,ih,Nat.succ_mul,Nat.add_comm]
theorem N0:gC X (binaryOp .Mult) Oy:=by
 intro UW s σ H x y v u Q I rx ry h;obtain⟨l,k,xs,rfl,rfl,hH,h1,h2,hz,q⟩:=h;cases rx;obtain⟨t,rfl⟩:=ry;obtain⟨z,aD,n,r,hl,e⟩:=I.Ed hH;have R5:aD.toArray.size*k.toNat<=sizeLine:=by rw[Tv,<-hl];exact hz
 have LU:¬aD.toArray.size*k.toNat > (2 ^ 63-1) / 8:=by
  have:(sizeLine:Nat)<=(2 ^ 63-1) / 8:=by decide
  lia
 have LY:¬(!Builtin.List.listFitsIndex k)=true:=by rw[fitsIndex_both h1 h2];exact BC
 have vH:¬Builtin.List.listTooLong (aD.toArray.size*k.toNat)=true:=by rw[qy R5];exact BC
 have L3:List.foldl (fun x1 x2=>x1++x2) #[] (List.replicate (if aD.toArray.isEmpty=true then 0 else k.toNat) aD.toArray)=(List.replicate k.toNat aD).flatten.toArray:=by
  have f0:∀m:Nat,List.foldl (fun x1 x2=>x1++x2) #[] (List.replicate m aD.toArray)=(List.replicate m aD).flatten.toArray:=fun m=>by have:=foldl_rep aD m [];rw[U7] at this;exact this
  rw[f0];cases aD with|nil=>simp|cons a r'=>rw[UE G9]
 refine wpAny_binaryOp_repeat_ref (T:="list") (U:="int") (by decide) ⟨_,e,rfl⟩ (fun s'=>typeIs_int s' k t) noFill_list_mul F.fills_int_mul F.slot_int_rmul repeat_list F.slot_int_index.lookup (Ll F.slot_int_rmul (typeIs_int s k t) F.entry_int_rmul (F.args_int_rmul_2 _ _) (int___rmul___int_list k t l aD.toArray n) ⟨e,rfl,⟨_,e,rfl⟩,Ll F.slot_list_mul ⟨_,e,rfl⟩ F.entry_list_mul (F.args_list_mul_2 _ _) (AutoListH.list___mul___list_int_3 l aD.toArray n k t LY LU vH) ⟨e,?_⟩⟩);rw[L3];exact⟨.ref _,_,I.Hr (t':=s.toks) (r.rep k.toNat) (by rw[len_rep,Nat.mul_comm];exact hz),rfl,q _ I.fresh⟩
end
end L2
namespace Xz
open PySem PySem.W PySem.Calls PyProof.Rows
theorem oI:∀(ns:R4)(vs:RU),WellAll P h vs (ns.map WData.int)->IntsAre vs ns:=by intro ns;induction ns with|nil=>intro vs w;rw[tN] at w;cases w;exact .nil|cons n ns ih=>intro vs w;rw[Po] at w;cases w with|cons a b=>cases a;exact .cons _ _ (ih _ b)
theorem By{l:OpenLaw}{n:Nat}(hn:l.most=some n){P:Params}{h:Heap}{args:List WData}{vals:RU}
  (G1:l.row.toRowW.claim.pre args=true) (Wj:WellAll P h vals args) :
  ∃a vs ns,vals=[Value.ref a]/\args=[WData.list (ns.map WData.int)]/\h.get? a=some {cls:=.type "list",data:=.seq vs.toArray}/\IntsAre vs ns/\ns.length<=n:=by
 have ZN:WShape.hasAll [] args [.list .int]=true:=(pre_splitW G1).1;have hc:l.pre.holds [] {args:=args}=true:=(pre_splitW G1).2;obtain⟨d,r,rfl,h1,h2⟩:=hasAllW_cons ZN;obtain rfl:=hasAllW_nil h2;obtain⟨xs,rfl,h3⟩:=hasW_list h1;obtain⟨ns,rfl⟩:=items_int h3;have R5:ns.length<=n:=by
  unfold OpenLaw.pre at hc;have h4:(WTm.not (.lt (.lit (.int (n:Int))) (.len (.arg 0)))).holds [] {args:=[.list (ns.map .int)]}=true:=by have h4:=(holds_andW hc).1;rw[hn] at h4;exact h4
  have h5:=condW_of h4 (w_not (w_lt w_lit (w_len_list (w_arg rfl))));rw[UR] at h5;refine Nat.le_of_not_lt fun q=>?_;have q':(n:Int)<((ns.length:Nat):Int):=T9;first| (rw[Ub q'] at h5;exact absurd h5 (by decide))| (simp at h5;lia)
 cases Wj with|cons w1 w2=>cases w2;cases w1 with|list ho VM=>exact⟨_,_,ns,rfl,rfl,ho,oI ns _ VM,R5⟩
theorem Bp(l:OpenLaw)(args:List WData):l.row.toRowW.claim.post args (.bool true) args=true:=postW_of (r:=l.row.toRowW) (X:=(true == true))
 (show WShape.has [] (.bool true) .bool=true by first|rfl|decide|simp[WShape.has,WShape.arms,WShape.armsAll])
 (show (WTm.eq .res (.lit (.bool true))).value [] {args:=args,res:=some (.bool true),after:=args}=some (.bool (true == true)) from w_eq_bool (w_res rfl) w_lit) rfl
theorem u6{l:OpenLaw}{n:Nat}{q:Program}{loose:PU}{XP:(Str->UU)->Heap->Prop}{YP:World->Heap->Prop}{d:DefRec}
  (hn:l.most=some n) (Q3:d.params.defaults=[])
  (call:∀(w:World)(s₀ bA:Shared)(mg mb:Str->UU)(fa:Addr)(o:Obj)(pm cd doc:Value)(a:Addr)(vs:RU)(ns:R4),
   Ground q loose [] XP w s₀ mg mb bA.heap->YP w bA.heap ->
   bA.heap.get? fa=some o->o.data=.func (docDef d.name d.params d.body d.scope pm cd doc)->bA.heap.CodeRec cd d.name->mg d.name=some (.ref fa) ->
   bA.heap.get? a=some {cls:=.type "list",data:=.seq vs.toArray}->IntsAre vs ns->ns.length<=n->bA.gens=#[] ->
   codeAny (model l.prog w) callerA (.call (.ref fa) ⟨[.ref a],[]⟩) (fun r s'=>r=.ok (.ret (.bool true))/\OldK bA.heap s'.heap/\s'.os=bA.os/\AllBare s'.gens) bA) :
  WalkO q loose XP YP l.row.toRowW d [] (fun f vs=>PySem.call f vs):=by
 intro w s₀ bA mg mb G Y fa o pm cd doc dV kV ho hd jC hD Rf hg args vals as G1 ZF Uv Wj hlo;obtain rfl:dV=.none:=Dflts.none hD Q3;obtain rfl:kV=.none:=Dflts.noKw hD;obtain⟨a,vs,ns,rfl,rfl,L6,hints,R5⟩:=By hn G1 Wj;refine enter_call (xg (call w s₀ bA mg mb fa o pm cd doc a vs ns G Y ho (fd_plain hd) jC Rf L6 hints R5 hg) fun r s' hq=>?_);obtain⟨rfl,h2,h3,h4⟩:=hq;exact⟨.inl ⟨.bool true,.bool true,[],rfl,fun _=>rfl,.bool true,Bp l _,fun _=>⟨List.Pairwise.nil,fun _ hm=>(nomatch hm)⟩⟩,h2,h3,h4⟩
end Xz
namespace L2
open PySem PySem.Spec PyProof.Rows
theorem iW:∀{vs:RU}{ns:R4},IntsAre vs ns->Vals (ns.map V.int) vs|_,_,.nil=>.nil|_,_,.cons n t h=>.cons ⟨t,rfl⟩ (iW h)
def K0(H:Hp):Prop:=∀b,H b=none\/∃o xs,H b=some (.FX o (.lst xs))
theorem Q2Y{P:Program}{w:World}{K:W.Frag}{mg mb:Str->UU}{CX:uX}{k:Nat}{fa a:Addr}{fd:FuncData}{x:Str}{sp:Sp}{bA:Shared}{vs:RU}{ns:R4}
  (KX:K.In bA.heap) (PK:bA.heap.Ns mainGlobals mg) (hb:bA.heap.Ns builtinsNs mb) (Zn:∀x:Str,x≠"__name__" -> mb x=bootBuiltins x) (V5:bA.heap.NoLimit) (hg:bA.gens=#[])
  (ha:bA.heap.get? a=some {cls:=.type "list",data:=.seq vs.toArray}) (hi:IntsAre vs ns) (hl:ns.length<=sizeLine) (hr:cG k callerA)
  (F:∀base:Heap,K.In base->base.Ns mainGlobals mg->dG P w K mg base CX k fa fd [x] sp) (Q0:∀(s:Shared)(u:Value),BindsTo s fd ⟨[u],[]⟩ [(x,u)])
  (Gb:∀H:Hp,K0 H->cU K H a (ns.map V.int)->sp [.ref a] H (fun v _=>v=.bl true) fun _ _ _=>False)
  (VE:∀H e s',CX [] H bA (fun _ _ _=>False) e s'->False) :
  codeAny (model P w) callerA (.call (.ref fa) ⟨[.ref a],[]⟩) (fun r s'=>r=.ok (.ret (.bool true))/\OldK bA.heap s'.heap/\s'.os=bA.os/\AllBare s'.gens) bA:=by
 have rv:=iW hi;have WB:=hi.length;have core:∀H:Hp,K0 H->cU K H a (ns.map V.int)->nV P w H bA.heap->(∀b,H b≠none->b=a)->(H a≠none->K.lookup a=none)->codeAny (model P w) callerA (.call (.ref fa) ⟨[.ref a],[]⟩) (fun r s'=>r=.ok (.ret (.bool true))/\OldK bA.heap s'.heap/\s'.os=bA.os/\AllBare s'.gens) bA:=by
  intro H hO hS cg hA hK;have yR:∀{b:Addr}{o:Obj},bA.heap.get? b=some o->H b=none->(uh bA.heap H).get? b=some o:=fun e n=>DG e n;have noA:∀{b:Addr}{o:Obj}{es:Array DictEntry}{ep:Nat},bA.heap.get? b=some o->o.data=.dict es ep->H b=none:=fun {b o es ep} e d=>by cases q:H b with|none=>rfl|some u=>have e':b=a:=hA b (by rw[q];simp);subst e';rw[ha] at e;cases e;have d':Data.seq vs.toArray _=Data.dict es ep:=d;cases d'
  have UK:∀{b:Addr}{m:Str->UU},bA.heap.Ns b m->(uh bA.heap H).Ns b m:=fun {b m} ⟨o,es,ep,e,d,r⟩=>⟨o,es,ep,yR e (noA e d),d,r⟩;have X5:K.In (uh bA.heap H):=fun b o e=>yR (KX b o e) (by cases q:H b with|none=>rfl|some u=>have e':b=a:=hA b (by rw[q];simp);subst e';rw[hK (by rw[q];simp)] at e;cases e);have hM:Mod K mg (uh bA.heap H):=⟨X5,UK PK,⟨mb,UK hb,Zn⟩,let ⟨mc,h1,h2⟩:=V5;⟨mc,UK h1,h2⟩⟩;have e0:rl P w K mg (uh bA.heap H) callerA [] bA H:=⟨rfl,hM,fun b o e=>HS e,Nat.le_of_eq (Q2E _ _),trivial,fun b hb=>absurd (show b∈([]:Xr) from hb) G9,cg,.of_eq hg⟩;refine xg ((F _ X5 (UK PK)).run callerA [] bA H ⟨[.ref a],[]⟩ [.ref a] [.ref a] _ _ hr e0 (Q0 bA (.ref a)) (.cons rfl .nil) (Gb H hO hS)) fun r s' h=>?_;cases r with
   |error e=>exact(VE H e s' h).elim|ok fl=>
    cases fl with
    |next=>exact False.elim h|brk=>exact False.elim h|cont=>exact False.elim h|ret u=>
     obtain⟨v,H',os,bare,un,Wa,r',q⟩:=h;have q':v=.bl true:=q;subst q';obtain rfl:u=Value.bool true:=r';refine⟨rfl,OldK.of_keep fun b o e=>?_,os,bare⟩;cases q:H b with
     |none=>exact un.keep b o e q (by intro z;exact absurd (show b∈([]:Xr) from z) G9) G9|some u=>
      rcases hO b with z|⟨ob,xs,z⟩
      ·rw[q] at z;cases z
      ·have z2:=un.tY b ob _ z;obtain⟨e1,_⟩:=cg b _ z;obtain⟨e2,_⟩:=Wa b _ z2;rw[e] at e1;cases e1;exact e2
 cases hk:K.lookup a with
 |some o=>have e:=KX a o hk;rw[ha] at e;cases e;refine core (fun _=>none) (fun _=>.inl rfl) (.inr ⟨_,vs.toArray,_,hk,rfl,rfl,rfl,by rw[Tv,WB];exact hl,by simpa using rv⟩) (fun b u z=>by have z':(none:Option HO)=some u:=z;cases z') (fun b z=>absurd rfl z) fun z=>absurd rfl z|none=>
  refine core (fun b=>if b=a then some (.FX {cls:=.type "list",data:=.seq vs.toArray} (.lst (ns.map V.int))) else none) (fun b=>?_) (.inl (.inr ⟨{cls:=.type "list",data:=.seq vs.toArray},Ge rfl⟩)) (fun b u z=>?_) (fun b z=>?_) fun _=>hk
  ·by_cases hb:b=a
   ·exact .inr ⟨_,_,Ge hb⟩
   ·exact .inl (UE hb)
  ·by_cases hb:b=a
   ·have z':=(Ge hb).symm.trans z;cases z';subst hb;exact⟨ha,by rw[UR];exact hl,vs,_,rv,ha⟩
   ·have z':=(UE hb).symm.trans z;cases z'
  ·by_cases hb:b=a
   ·exact hb
   ·exact absurd (UE hb) z
theorem JC{l:W.OpenLaw}{n k:Nat}{q:Program}{loose:PU}{XP:(Str->UU)->Heap->Prop}{YP:World->Heap->Prop}{d:DefRec}{K:Params->W.Frag}{CX:World->uX}{sp:World->Sp}{x:Str}
  (hn:l.most=some n) (Rg:n<=sizeLine) (Q3:d.params.defaults=[]) (hr:cG k callerA)
  (hY:∀(w:World)(h:Heap),YP w h->(K w.params).In h)
  (F:∀(w:World)(mg:Str->UU)(fa:Addr)(h:Heap),(K w.params).In h->h.Ns mainGlobals mg->mg d.name=some (.ref fa)->∃fd:FuncData,(∀(s:Shared)(u:Value),BindsTo s fd ⟨[u],[]⟩ [(x,u)])/\∀base:Heap,(K w.params).In base->base.Ns mainGlobals mg->dG l.prog w (K w.params) mg base (CX w) k fa fd [x] (sp w))
  (Gb:∀(w:World)(H:Hp)(a:Addr)(ns:R4),ns.length<=n->K0 H->cU (K w.params) H a (ns.map V.int)->sp w [.ref a] H (fun v _=>v=.bl true) fun _ _ _=>False)
  (VE:∀(w:World)(H:Hp)(s:Shared)(e:Value)(s':Shared),CX w [] H s (fun _ _ _=>False) e s'->False) :
  W.WalkO q loose XP YP l.row.toRowW d [] (fun f vs=>PySem.call f vs):=by
 refine Xz.u6 hn Q3 fun w s₀ bA mg mb fa o pm cd doc a vs ns G Y ho hd jC Rf L6 hints R5 hg=>?_;have KX:=hY w _ Y;obtain⟨fd,hb,hF⟩:=F w mg fa _ KX G.T.g Rf;exact Q2Y KX G.T.g G.T.b G.T.builtins G.T.nolimit hg L6 hints (DT R5 Rg) hr hF hb (fun H hO hS=>Gb w H a ns R5 hO hS) fun H e s'=>VE w H bA e s'
def inClass(s:Stmt)(j:Nat):Stmt:=match s with|.ClassDef _ _ _ body _ _ _ _ _ _ _=>body.getD j (.Pass ⟨0,0,0,0⟩)|_=>.Pass ⟨0,0,0,0⟩
def dg(s:Stmt):Arguments:=match s with|.FunctionDef _ a _ _ _ _ _ _ _ _=>a|_=>{posonlyargs:=[],args:=[],vararg:=none,kwonlyargs:=[],kw_defaults:=[],kwarg:=none,defaults:=[]}
def bT(s:Stmt):List Stmt:=match s with|.FunctionDef _ _ b _ _ _ _ _ _ _=>b|_=>[]
def aS(s:Stmt):Scope:=match s with|.FunctionDef _ _ _ _ _ _ sc _ _ _=>sc|_=>{kind:=.function,names:=[],isGenerator:=false,isCoroutine:=false}
abbrev pC:uX:=fun _ _ _ _ _ _=>False
structure Gr(K:W.Frag)(x Xp:Str)(st:Stmt)(f:Addr)(fd:FuncData):Prop where
 ex:∃(oc:Value)(od:UL)(kV doc pm:Value)(an:UL)(i9 ct:Value)(HY:Array (Option Value)),fd=W.fnOf x Xp (dg st) (bT st) (aS st) .none kV doc pm an i9 ct/\K.lookup f=some ⟨oc,od,.func fd,HY⟩/\W.codeIn K i9 Xp=true
 kp:W.keepIn K (.ref f)=true
section
variable{P:Program}{w:World}{K:W.Frag}{mg:Str->UU}{base:Heap}
theorem Gr.ok{x Xp:Str}{st:Stmt}{f:Addr}{fd:FuncData}{N ps:PU}{k:Nat}{sp:Sp}(F:Gr K x Xp st f fd)(S:eK N ps (aS st))(len:∀vs H Q E,sp vs H Q E->vs.length=ps.length)(jV:∀(i9:Value)(A:Around)(outer:List Env)(s:Shared)(H:Hp)(vs:O6)(Q:VK)(E:XK),cG k (A.deeper (envOfC Xp (aS st) s.heap.objs.size f i9))->sp vs H Q E->∃t,wJ (rA pC P w K mg base N Xp (aS st) f i9 A outer s H E).Kt (bT st) t/\t {nx:=fun _ H'=>Q .bC H',rt:=Q} (start N vs) H):dG P w K mg base pC (k+1) f fd ps sp:=by obtain⟨oc,od,kV,doc,pm,an,i9,ct,HY,rfl,lk,jC⟩:=F.ex;refine QK lk jC S len fun A outer s H vs Q E hr Gb=>?_;obtain⟨t,h,q⟩:=jV i9 A outer s H vs Q E hr Gb;exact⟨t,h.Kt,q⟩
theorem Gr.binds{x Xp:Str}{st:Stmt}{f:Addr}{fd:FuncData}{ps:PU}(F:Gr K x Xp st f fd)(h:∀(kV doc pm:Value)(an:UL)(i9 ct:Value)(us:RU),us.length=ps.length->bindArgs (W.fnOf x Xp (dg st) (bT st) (aS st) .none kV doc pm an i9 ct) ⟨us,[]⟩=pure (ps.zip us)):Binds K fd ps []:=by obtain⟨oc,od,kV,doc,pm,an,i9,ct,HY,rfl,lk,jC⟩:=F.ex;exact .all (h kV doc pm an i9 ct)
theorem Du{x Xp:Str}{st:Stmt}{f:Addr}{oc:Value}{od an:UL}{HY:Array (Option Value)}{kV doc pm i9 ct:Value}(l:K.lookup f=some ⟨oc,od,.func (W.fnOf x Xp (dg st) (bT st) (aS st) .none kV doc pm an i9 ct),HY⟩)(c:W.codeIn K i9 Xp=true) (k:W.keepIn K (.ref f)=true):Gr K x Xp st f (W.fnOf x Xp (dg st) (bT st) (aS st) .none kV doc pm an i9 ct):=⟨⟨oc,od,kV,doc,pm,an,i9,ct,HY,rfl,l,c⟩,k⟩
end
section
variable{X:Cx}
theorem pv(i:Nat){x:Str}{pos:Pos}(hN:X.N[i]?=some x:=by rfl)(hv:uZ X.env.scope x:=by exact Oi)(hd:Yw x:=by decide)(jC:Xj x:=by decide):PE X (.Name x pos) (Jn i):=fO hN hv hd jC
end
theorem xH{A B:Prop}(h:B):if false=true then A else B:=by rw[UE BC];exact h
theorem xI{A B:Prop}(h:A):if true=true then A else B:=by rw[Ge rfl];exact h
def aL(H H':Hp):Prop:=∀b o,H b=some o->H' b=some o
theorem aL.refl(H:Hp):aL H H:=fun _ _ h=>h
theorem aL.trans(a:aL H H1)(b:aL H1 H2):aL H H2:=fun c o h=>b c o (a c o h)
theorem aL.free(e:aL H H')(h:H' l=Option.none):H l=Option.none:=by cases q:H l with|none=>rfl|some o=>rw[e l o q] at h;cases h
theorem aL.seq{K:W.Frag}{H H':Hp}{a:Addr}{xs:O6}(e:aL H H')(h:cU K H a xs):cU K H' a xs:=by
 rcases h with (h|⟨o,h⟩)|h
 exact .inl (.inl (e _ _ h));exact .inl (.inr ⟨o,e _ _ h⟩);exact .inr h
end L2
end
section
set_option Elab.async false
set_option linter.all false
set_option maxRecDepth 100000
namespace L2
open PySem PySem.Spec PyProof.Rows
section
variable{κ:Type}[DecidableEq κ]
def kT(aO:List (κ×V))(k:κ):Option V:=(aO.find? fun kv=>decide (kv.1=k)).map (·.2)
def putK(aO:List (κ×V))(k:κ)(v:V):List (κ×V):=if (aO.any fun kv=>decide (kv.1=k))=true then aO.map (fun kv=>if kv.1=k then(kv.1,v) else kv) else aO++[(k,v)]
theorem wB{p:κ×V}{r:List (κ×V)}{k:κ}(e:p.1=k):kT (p::r) k=some p.2:=by simp[kT,List.find?_cons,e]
theorem rg{p:κ×V}{r:List (κ×V)}{k:κ}(e:¬p.1=k):kT (p::r) k=kT r k:=by simp[kT,List.find?_cons,e]
theorem vN(aO:List (κ×V))(k:κ)(v:V):(putK aO k v).length<=aO.length+1:=by unfold putK;split;rw[UR];lia;rw[xU,LK,List.length_nil];lia
theorem kO.isSome_eq{o:Option V}{u:UU}(r:kO o u):o.isSome=u.isSome:=by
 cases o with
 |none=>cases u with|none=>rfl|some _=>exact(show False from r).elim
 |some _=>cases u with|none=>exact(show False from r).elim|some _=>rfl
theorem kO.getD{o:Option V}{u:UU}{d:V}{d':Value}(r:kO o u)(rd:RelV d d'):RelV (o.getD d) (u.getD d'):=by
 cases o with
 |none=>cases u with|none=>exact rd|some _=>exact(show False from r).elim
 |some _=>cases u with|none=>exact(show False from r).elim|some _=>exact r
theorem KV.val{aO:List (κ×V)}{vs:List (κ×Value)}(r:KV aO vs)(k:κ):kO (kT aO k) (valueAt vs k):=by
 unfold KV at r;induction r with
 |nil=>exact True.intro|@cons p q ps qs h t ih=>
  obtain⟨h1,h2⟩:=h;by_cases e:p.1=k;have e':q.1=k:=h1.symm.trans e;have b:valueAt (q::qs) k=some q.2:=by simp[valueAt,List.find?_cons,e']
  rw[wB e,b];exact h2;have e':¬q.1=k:=fun z=>e (h1.trans z);have b:valueAt (q::qs) k=valueAt qs k:=by simp[valueAt,List.find?_cons,e']
  rw[rg e,b];exact ih
theorem KV.any{aO:List (κ×V)}{vs:List (κ×Value)}(r:KV aO vs)(k:κ):(aO.any fun kv=>decide (kv.1=k))=vs.any fun kv=>decide (kv.1=k):=by unfold KV at r;induction r with|nil=>rfl|cons h t ih=>rw[AB,AB,ih,h.1]
theorem KV.WZ{aO:List (κ×V)}{vs:List (κ×Value)}(r:KV aO vs)(k:κ){y:V}{u:Value}(ry:RelV y u) : KV (aO.map fun kv=>if kv.1=k then(kv.1,y) else kv) (vs.map fun kv=>if kv.1=k then(kv.1,u) else kv):=by unfold KV at r ⊢;induction r with|nil=>exact .nil|@cons p q ps qs h t ih=>rw[Po,Po];refine .cons ?_ ih;obtain⟨h1,h2⟩:=h;by_cases e:p.1=k;rw[Ge e,Ge (h1.symm.trans e)];exact⟨h1,ry⟩;rw[UE e,UE (fun z=>e (h1.trans z))];exact⟨h1,h2⟩
theorem KV.put{aO:List (κ×V)}{vs:List (κ×Value)}(r:KV aO vs)(k:κ){y:V}{u:Value}(ry:RelV y u):KV (putK aO k y) (stored vs k u):=by unfold putK stored;rw[r.any k];by_cases e:(vs.any fun kv=>decide (kv.1=k))=true;rw[Ge e,Ge e];exact r.WZ k ry;rw[UE e,UE e];exact Paired.snoc r ⟨rfl,ry⟩
theorem KV.keys{aO:List (κ×V)}{vs:List (κ×Value)}(r:KV aO vs):aO.map (·.1)=vs.map (·.1):=by unfold KV at r;induction r with|nil=>rfl|cons h t ih=>rw[Po,Po,ih,h.1]
theorem KV.length{aO:List (κ×V)}{vs:List (κ×Value)}(r:KV aO vs):aO.length=vs.length:=Lb r
end
theorem zN{P:Program}{w:World}{k:Key}{u:Value}(r:RelV (kV k) u):(fU P w).is k u=true:=by cases k with|inl i=>obtain⟨t,e⟩:=(show ∃t,u=Value.int i t from r);subst e;exact vS P w i t|inr x=>obtain⟨t,e⟩:=(show ∃t,u=Value.str x t from r);subst e;exact Q11 P w x t
section
variable{X:Cx}{UW:P4}{σ:St}{H:Hp}{s:Shared}
theorem Inv.big(I:Inv X UW σ H s):sysModules<s.heap.objs.size:=by have h:mainGlobals<s.heap.objs.size:=(I.mod.glob.keeps I.bk).lt;exact AN (by decide) h
end
def KZ(i:Expr):Prop:=∀ov iv,subscripted i false ov iv=operate [ov,iv] (getItem ov iv)
theorem Ji{prog:Program}{w:World}{A:Around}{E:UI}{s:Shared}{env:Env}{value slice:Expr}{pos:Pos}{T id:String}{Q:UI}
  (hl:typeLookup (.type T) "__getitem__" = pure (some (.builtin id))) (hs:KZ slice)
  (h:wpAny (model prog w) A (eval value env) (fun o bA=>wpAny (model prog w) A (eval slice env) (fun i rN=>rN.TypeIs o T/\wpAny (model prog w) A (getItem o i) Q E rN) E bA) E s) :
  wpAny (model prog w) A (eval (.Subscript value slice pos) env) Q E s:=by
 refine Subscript_ (RX h (fun o bA h₁=>RX h₁ (fun i rN mf=>?_) fun _ _ x=>x) fun _ _ x=>x);obtain⟨hT,mf⟩:=mf;unfold subscriptTail;refine U0 ?_;rw[getitemInPython_of_ne hT.not_modules];refine U0 (A7 hT hl ?_);have fin:wpAny (model prog w) A (subscripted slice false o i) (fun r Te=>wpAny (model prog w) A (letTemporaryGo value o r >>= fun _=>pure r) Q E Te) E rN:=by rw[hs o i];exact wpAny_operating (RX mf (fun r Te oH=>U0 (wpAny_letTemporaryGo (Qo oH))) fun _ _ x=>x)
 first|exact Qo (U0 fin)|exact U0 (Qo (U0 fin))|exact U0 fin
end L2
end
section
namespace VP
theorem gl{P:Prop}(h:∀Q:Prop,Q=P->Q):P:=h P rfl
inductive D where
 |bC|bl (b:Bool)|int (i:Int)|str (x:Str)|tup (xs:List D)|lst (xs:List D)|gK (ks:List (Sum Int Str)) (vs:List D)|ins (c:Str) (ns:PU) (vs:List D)|FW (c:Str) (ns:PU) (vs:List D)
 deriving Inhabited
abbrev PM:=Option D
abbrev RN:=List D
inductive Sl where
 |no|sh (d:D)|ow (d:D)|io (d:D)
 deriving Inhabited
abbrev aR:=List Sl
structure Xn where
 cls:Str
 ns:List Str
 vs:List D
inductive Res(α:Type) where
 |ok (a:α) (r:aR)|exc (x:Xn) (r:aR)|no
abbrev M(α:Type):=aR->Res α
inductive Fl where
 |nx|bk|ct|rt (d:D)
noncomputable def ret{α:Type}(a:α):M α:=fun r=>.ok a r
noncomputable def PN{α β:Type}(f:M α)(g:α->M β):M β:=fun r=>match f r with|.ok a r'=>g a r'|.exc x r'=>.exc x r'|.no=>.no
noncomputable def stuck{α:Type}:M α:=fun _=>.no
def opt{α:Type}:Option α->M α|some a=>ret a|none=>stuck
noncomputable def af(i:Nat):M D:=fun r=>match r[i]? with|some (.sh d)=>.ok d r|_=>.no
noncomputable def wL(i:Nat):M D:=fun r=>match r[i]? with|some (.sh d)=>.ok d r|some (.ow d)=>.ok d r|some (.io d)=>.ok d r|_=>.no
noncomputable def free:Option Sl->Bool|some (.io _)=>false|some _=>true|none=>false
def oM(i:Nat)(d:D):M Unit:=fun r=>if free r[i]? then .ok () (r.set i (.sh d)) else .no
def En(i:Nat)(d:D):M Unit:=fun r=>if free r[i]? then .ok () (r.set i (.ow d)) else .no
noncomputable def own:Option Sl->Option D|some (.ow d)=>some d|some (.io d)=>some d|_=>none
noncomputable def cE(i:Nat)(d:D)(r:aR):aR:=match r[i]? with|some (.ow _)=>r.set i (.ow d)|some (.io _)=>r.set i (.io d)|_=>r
noncomputable def MK(i:Nat):M Unit:=fun r=>match r[i]? with|some (.ow d)=>.ok () (r.set i (.sh d))|some (.sh d)=>.ok () r|_=>.no
def gg(i:Nat)(g:D->PM):M Unit:=fun r=>match own r[i]? with
 |some d=>match g d with
   |some d'=>.ok () (cE i d' r)|none=>.no
  |none=>.no
def mC(d:D):M D:=ret d
def m1(g:D->PM)(a:M D):M D:=PN a fun x=>opt (g x)
def m2(g:D->D->PM)(a b:M D):M D:=PN a fun x=>PN b fun y=>opt (g x y)
def mL:List (M D)->M (List D)|[]=>ret []|f::fs=>PN f fun x=>PN (mL fs) fun xs=>ret (x::xs)
def mF(g:RN->PM)(as:List (M D)):M D:=PN (mL as) fun xs=>opt (g xs)
def tB(a:M D):M Bool:=PN a fun x=>match x with|.bl b=>ret b|_=>stuck
def d8(a:M Bool):M Bool:=PN a fun b=>ret (!b)
def gh(a b:M Bool):M Bool:=PN a fun x=>if x then b else ret false
def lh(a b:M Bool):M Bool:=PN a fun x=>if x then ret true else b
def MM(a:M Bool):M D:=PN a fun b=>ret (.bl b)
def zR(c:M Bool)(a b:M D):M D:=PN c fun x=>if x then a else b
def ak(f g:M Fl):M Fl:=PN f fun k=>match k with|.nx=>g|.bk=>ret .bk|.ct=>ret .ct|.rt d=>ret (.rt d)
def aA:M Fl:=ret .nx
def Gj(f:M Unit):M Fl:=PN f fun _=>ret .nx
def sZ(f:M D):M Fl:=PN f fun _=>ret .nx
def aC(f:M D):M Fl:=PN f fun d=>ret (.rt d)
def bD(c:M Bool)(a b:M Fl):M Fl:=PN c fun x=>if x then a else b
def aN(i:Nat)(f:M D):M Fl:=PN f fun d=>Gj (oM i d)
def dZ(i:Nat)(f:M D):M Fl:=PN f fun d=>Gj (En i d)
def uK(i:Nat)(f:M Fl):M Fl:=PN (MK i) fun _=>f
def aE(i:Nat):D->M Unit:=fun d=>oM i d
def rC:UA->RN->M Unit|[],[]=>ret ()|i::is,d::ds=>PN (oM i d) fun _=>rC is ds|_,_=>stuck
def cJ(is:UA):D->M Unit:=fun d=>match d with|.tup ds=>rC is ds|_=>stuck
def loop(g:D->M Unit)(body:M Fl):RN->M Fl|[]=>ret .nx|d::ds=>PN (g d) fun _=>PN body fun k=>match k with|.nx=>loop g body ds|.ct=>loop g body ds|.bk=>ret .nx|.rt e=>ret (.rt e)
def eG(it:M (List D))(g:D->M Unit)(body:M Fl):M Fl:=PN it fun ds=>loop g body ds
noncomputable def gD(x:D):D->Option D|.lst xs=>if xs.length<16777216 then some (.lst (xs++[x])) else none|_=>none
def turns(k:Nat)(g:D->M Unit)(test:M Bool)(elt:M D):RN->M Unit
|[]=>ret ()|d::ds=>PN (g d) fun _=>PN test fun b=>if b
 then PN elt fun x=>PN (gg k (gD x)) fun _=>turns k g test elt ds
 else turns k g test elt ds
noncomputable def inner(n:Nat)(f:Nat->M Unit):M D:=fun r=>match f (r.length+n) (r++List.replicate n .no++[.ow (.lst [])]) with
 |.ok _ r'=>match r'[r.length+n]? with
   |some (.ow d)=>.ok d (r'.take r.length)|_=>.no
  |.exc x r'=>.exc x (r'.take r.length)|.no=>.no
def aU(n:Nat)(it:M (List D))(g:D->M Unit)(test:M Bool)(elt:M D):M D:=PN it fun ds=>inner n fun k=>turns k g test elt ds
def gx(c:M Bool)(body:M Fl):Nat->M Fl
|0=>stuck|n+1=>PN c fun b=>if b
 then PN body fun k=>match k with|.nx=>gx c body n|.ct=>gx c body n|.bk=>ret .nx|.rt e=>ret (.rt e)
 else ret .nx
inductive FR where
 |ok (d:D) (cK:RN)|exc (x:Xn) (cK:RN)|no
abbrev Fn:=List D->FR
noncomputable def de(n:Nat):WK->RN->aR|b::bs,d::ds=>(if b then .io d else .sh d)::de (n-1) bs ds|_,_=>List.replicate n .no
noncomputable def cj:WK->aR->Option (List D)|[],_=>some []|true::bs,.io d::r=>(cj bs r).map (d::·)|false::bs,_::r=>cj bs r|_,_=>none
def defn(n:Nat)(fl:WK)(body:M Fl):Fn:=fun ds=>
 if ds.length=fl.length then
  match body (de n fl ds) with
  |.ok (.rt d) r=>match cj fl r with|some cK=>.ok d cK|none=>.no
  |.ok .nx r=>match cj fl r with|some cK=>.ok .bC cK|none=>.no
  |.ok .bk _=>.no|.ok .ct _=>.no|.exc x r=>match cj fl r with|some cK=>.exc x cK|none=>.no
  |.no=>.no
 else .no
inductive Arg where
 |val (f:M D)|io (j:Nat)
inductive AV where
 |val (d:D)|io (j:Nat)
def bR:List Arg->M (List AV)|[]=>ret []|.val f::as=>PN f fun d=>PN (bR as) fun vs=>ret (.val d::vs)|.io j::as=>fun r=>if (own r[j]?).isSome then PN (bR as) (fun vs=>ret (.io j::vs)) r else .no
def rj:List AV->aR->Option (List D)|[],_=>some []|.val d::as,r=>(rj as r).map (d::·)|.io j::as,r=>match own r[j]? with|some d=>(rj as r).map (d::·)|none=>none
noncomputable def gb:List AV->List Nat|[]=>[]|.val _::as=>gb as|.io j::as=>j::gb as
def putAll:UA->RN->aR->aR|j::js,d::ds,r=>putAll js ds (cE j d r)|_,_,r=>r
noncomputable def Arg.isIo:Arg->Bool|.val _=>false|.io _=>true
def oK(f:Fn)(vs:List AV):M D:=fun r=>
 match rj vs r with
 |some ds=>if (gb vs).Nodup then match f ds with
   |.ok d cK=>.ok d (putAll (gb vs) cK r)|.exc x cK=>.exc x (putAll (gb vs) cK r)|.no=>.no
  else .no
 |none=>.no
def ax(f:Fn)(as:List Arg):M D:=PN (bR as) fun vs=>oK f vs
def gV(a b:M D):M D:=PN a fun x=>match x with|.bl true=>b|.bl false=>ret (.bl false)|_=>stuck
def xN(a b:M D):M D:=PN a fun x=>match x with|.bl true=>ret (.bl true)|.bl false=>b|_=>stuck
noncomputable def BB(ds:RN):PM:=if ds.length<=16777216 then some (.tup ds) else none
noncomputable def vO(ds:RN):PM:=if ds.length<=16777216 then some (.lst ds) else none
def bf(fl:List (M D)):M D:=PN (mL fl) fun xs=>opt (BB xs)
def cA(fl:List (M D)):M D:=PN (mL fl) fun xs=>opt (vO xs)
noncomputable def eL:Nat:=16777216
noncomputable def Q1Q:D->D->Option D|.int i,.int j=>some (.int (i+j))|_,_=>none
noncomputable def gJ:D->D->Option D|.int i,.int j=>some (.int (i-j))|_,_=>none
noncomputable def nH:D->D->Option D|.int i,.int j=>if (-(2 ^ 64)<i/\i<2 ^ 64)\/(-(2 ^ 64)<j/\j<2 ^ 64) then some (.int (i*j)) else none|_,_=>none
noncomputable def zD:D->D->Option D|.int i,.int j=>if 0<j/\j<1073741824 then some (.int (i / j)) else none|_,_=>none
noncomputable def oO:D->D->Option D|.int i,.int j=>if 0<j then some (.int (i % j)) else none|_,_=>none
noncomputable def rH:D->Option D|.int i=>some (.int (-i))|_=>none
noncomputable def ltI:D->D->Option D|.int i,.int j=>some (.bl (decide (i<j)))|_,_=>none
noncomputable def o6:D->D->Option D|.int i,.int j=>some (.bl (decide (i<=j)))|_,_=>none
noncomputable def xy:D->D->Option D|.int i,.int j=>some (.bl (decide (j<i)))|_,_=>none
noncomputable def Um:D->D->Option D|.int i,.int j=>some (.bl (decide (j<=i)))|_,_=>none
noncomputable def BK:D->D->Option Bool|.bC,.bC=>some true|.bC,.int _=>some false|.int _,.bC=>some false|.bC,.bl _=>some false|.bl _,.bC=>some false|.bC,.str _=>some false|.str _,.bC=>some false|.int i,.int j=>some (decide (i=j))|.bl i,.bl j=>some (decide (i=j))|.str i,.str j=>some (decide (i=j))|.int _,.str _=>some false|.str _,.int _=>some false|.bl _,.str _=>some false|.str _,.bl _=>some false|_,_=>none
noncomputable def isNon:D->Bool|.bC=>true|_=>false
def isND(x y:D):PM:=if isNon y then some (.bl (isNon x)) else none
def Qn:D->D->Option D|.tup xs,.tup ys=>if xs.length+ys.length<=eL then some (.tup (xs++ys)) else none|_,_=>none
def wX:D->D->Option D|.lst xs,.lst ys=>if xs.length+ys.length<=eL then some (.lst (xs++ys)) else none|_,_=>none
noncomputable def orE(g g':D->D->PM)(x y:D):PM:=match g x y with|some d=>some d|none=>g' x y
noncomputable def BN(n:Nat)(i:Int):Option Nat:=if 0<=i then(if i<n then some i.toNat else none) else if -(n:Int)<=i then some (i+n).toNat else none
def zL(xs:RN)(i:Int):PM:=(BN xs.length i).bind fun j=>xs[j]?
def aq:D->D->Option D|.tup xs,.int i=>zL xs i|.lst xs,.int i=>zL xs i|_,_=>none
mutual
noncomputable def eqB:D->D->Bool|.bC,.bC=>true|.bl a,.bl b=>a == b|.bl a,.int j=>(if a then 1 else 0) == j|.int i,.bl b=>i == (if b then 1 else 0)|.int i,.int j=>i == j|.str x,.str y=>x == y|.lst xs,.lst ys=>m8 xs ys|.tup xs,.tup ys=>m8 xs ys|_,_=>false
noncomputable def m8:RN->RN->Bool|[],[]=>true|x::xs,y::ys=>eqB x y&&m8 xs ys|[],_::_=>false|_::_,[]=>false
end
theorem vj(i j:Int):eqB (.int i) (.int j)=(i == j):=RM
theorem J1(x y:Str):eqB (.str x) (.str y)=(x == y):=RM
theorem vk(xs ys:RN):eqB (.lst xs) (.lst ys)=m8 xs ys:=RM
theorem yV(xs ys:RN):eqB (.tup xs) (.tup ys)=m8 xs ys:=RM
noncomputable def mI(x:Str):Bool:=x.cps.toList.all (·<0x110000)
mutual
noncomputable def plain:Nat->D->Bool|_,.bC=>true|_,.bl _=>true|_,.int _=>true|_,.str x=>mI x|n+1,.tup xs=>dE n xs|n+1,.lst xs=>dE n xs|_,_=>false
noncomputable def dE:Nat->RN->Bool|_,[]=>true|n,x::xs=>plain n x&&dE n xs
end
def bG(x y:D):PM:=if plain 60 x&&plain 60 y then some (.bl (eqB x y)) else none
def dz(x y:D):PM:=if plain 60 x&&plain 60 y then some (.bl (!eqB x y)) else none
noncomputable def cy:D->Option (List D)|.tup ds=>some ds|.lst ds=>some ds|_=>none
def dC(f:M D):M (List D):=PN f fun d=>opt (cy d)
noncomputable def uJ:RN->Option (List D)|[.int j]=>if -(2 ^ 62)<=j/\j<2 ^ 62 then some ((List.range j.toNat).map fun(i:Nat)=>.int i) else none|_=>none
noncomputable def aah:RN->Option (List D)|[.int i,.int j]=>if (-(2 ^ 62)<=i/\i<2 ^ 62)/\-(2 ^ 62)<=j/\j<2 ^ 62 then some ((List.range (j-i).toNat).map fun(k:Nat)=>.int (i+k)) else none|_=>none
def cH(fl:List (M D)):M (List D):=PN (mL fl) fun xs=>opt (uJ xs)
noncomputable def bp:D->Option D|.tup ds=>some (.int ds.length)|.lst ds=>some (.int ds.length)|_=>none
noncomputable def iA:D->Option D|.tup ds=>some (.tup ds)|.lst ds=>some (.tup ds)|_=>none
noncomputable def iR:D->Option D|.tup ds=>some (.lst ds)|.lst ds=>some (.lst ds)|_=>none
noncomputable def maxD:RN->Option D|[.int i,.int j]=>some (.int (if j > i then j else i))|_=>none
noncomputable def intD:RN->Option D|[.int i]=>some (.int i)|[.bl b]=>some (.int (if b then 1 else 0))|_=>none
noncomputable def vL:D->Option String|.bC=>some "NoneType"|.bl _=>some "bool"|.int _=>some "int"|.str _=>some "str"|.tup _=>some "tuple"|.lst _=>some "list"|.gK _ _=>some "dict"|.ins _ _ _=>none|.FW _ _ _=>none
def kR(T:String)(x:D):PM:=(vL x).map fun k=>.bl (k == T||(k == "bool" && T == "int"))
def mO:RN->Option (List D)
|[a,b]=>match cy a,cy b with
  |some xs,some ys=>some (List.zipWith (fun x y=>D.tup [x,y]) xs ys)|_,_=>none
 |_=>none
def qv(fl:List (M D)):M (List D):=PN (mL fl) fun xs=>opt (mO xs)
noncomputable def ff:RN->Option (List Int)|[]=>some []|.int i::r=>(ff r).map (i::·)|_=>none
def aan(d:D):PM:=match cy d with|some ds=>(ff ds).map fun ns=>.int ns.sum|none=>none
noncomputable def isLst:PM->Bool|some (.lst _)=>true|_=>false
def kS(i:Nat)(fe:M D):M Fl:=fun r=>if isLst (own r[i]?) then PN fe (fun x=>Gj (gg i (gD x))) r else .no
def setAt(k v:D):D->Option D
|.lst xs=>match k with
  |.int i=>(BN xs.length i).map fun j=>.lst (xs.set j v)|_=>none
 |_=>none
def cB(i:Nat)(fk fv:M D):M Fl:=PN fv fun v=>fun r=>if isLst (own r[i]?) then PN fk (fun k=>Gj (gg i (setAt k v))) r else .no
noncomputable def we(n d:Nat):Pq->Nat|none=>d|some v=>if v<0 then(v+n).toNat else min v.toNat n
def cutD(xs:RN)(lo hi:Pq):RN:=(xs.drop (we xs.length 0 lo)).take (we xs.length xs.length hi-we xs.length 0 lo)
def mq:Option (M D)->M (Option Int)|none=>ret none|some f=>PN f fun d=>match d with|.int i=>ret (some i)|_=>stuck
def oN(g:D->Pq->Pq->PM)(f:M D)(lo hi:Option (M D)):M D:=PN f fun d=>PN (mq lo) fun l=>PN (mq hi) fun h=>opt (g d l h)
def DZ(j:Nat)(i:D):M D:=fun r=>match own r[j]? with|some d=>opt (aq d i) r|none=>.no
def bO(j:Nat)(fb:M D):M D:=fun r=>if (own r[j]?).isSome then PN fb (DZ j) r else .no
def bj:D->D->Option D|.int i,.int j=>some (.int (i+j))|.tup xs,.tup ys=>if xs.length+ys.length<=eL then some (.tup (xs++ys)) else none|.lst xs,.lst ys=>if xs.length+ys.length<=eL then some (.lst (xs++ys)) else none|_,_=>none
def eU(d:D)(lo hi:Pq):PM:=match d with|.tup xs=>some (.tup (cutD xs lo hi))|.lst xs=>some (.lst (cutD xs lo hi))|_=>none
def zQ(g g2:D->D->PM)(a b c:M D):M D:=PN a fun x=>PN b fun y=>PN (opt (g x y)) fun d=>match d with|.bl true=>PN c fun z=>opt (g2 y z)|.bl false=>ret (.bl false)|_=>stuck
noncomputable def Fz(t:List (Str×D)):D->Option D|.str k=>t.lookup k|_=>none
def HD(f:M D):M (List D):=PN f fun d=>opt ((cy d).map List.reverse)
def rK(d:D):PM:=(cy d).map fun xs=>.tup xs.reverse
def Fg(d:D):PM:=(cy d).map fun xs=>.lst xs.reverse
noncomputable def i8:RN->Option (List Bool)|[]=>some []|.bl b::r=>(i8 r).map (b::·)|_=>none
def oF(al:Bool):D->Option D|.lst ds=>(i8 ds).map fun bs=>.bl (if al then bs.all id else bs.any id)|_=>none
noncomputable def uP(neg:Bool)(t:List (Str×D))(ab:PU):D->Option D
|.str k=>match t.lookup k with
  |some _=>some (.bl (!neg))|none=>if ab.contains k then some (.bl neg) else none
 |_=>none
noncomputable def jB:D->Bool|.bC=>true|.bl _=>true|.int _=>true|.str _=>true|_=>false
def inD(neg:Bool)(x y:D):PM:=match cy y with|some ds=>if jB x&&ds.all jB then some (.bl (if neg then !(ds.any fun y=>eqB y x) else ds.any fun y=>eqB y x)) else none|none=>none
noncomputable def aZ(cs:PU)(f:Str):D->Option D|.ins c ns vs=>if cs.contains c then(ns.zip vs).lookup f else none|_=>none
noncomputable def kf(f:Str)(v:D):PU->RN->List Str×List D|n::ns,x::vs=>if n=f then(n::ns,v::vs) else(n::(kf f v ns vs).1,x::(kf f v ns vs).2)|_,_=>([f],[v])
def Fs(cs:PU)(f:Str)(v:D):D->Option D|.ins c ns vs=>if cs.contains c&&decide (ns.length<1000) then some (.ins c (kf f v ns vs).1 (kf f v ns vs).2) else none|_=>none
def bu(i:Nat)(cs:PU)(f:Str)(fv:M D):M Fl:=PN fv fun v=>Gj (gg i (Fs cs f v))
def A8(c:Str)(f:Fn)(vs:List AV):M D:=fun r=>match oK f (.io r.length::vs) (r++[.ow (.ins c [] [])]) with
 |.ok .bC r'=>match r'[r.length]? with
   |some (.ow d)=>.ok d (r'.take r.length)|_=>.no
  |.exc x r'=>.exc x (r'.take r.length)|_=>.no
def eC(c:Str)(f:Fn)(as:List Arg):M D:=PN (bR as) fun vs=>A8 c f vs
noncomputable def jE(c m:Str):D->Bool|.ins c' ns _=>c' == c&&!ns.contains m|_=>false
def cw(c m:Str)(f:Fn)(fo:M D)(as:List Arg):M D:=PN fo fun o=>if jE c m o then PN (bR as) fun vs=>oK f (.val o::vs) else stuck
noncomputable def bK(subs:HE)(x:D):PM:=match x with|.ins c _ _=>(subs.lookup c).map .bl|_=>none
def nQ:M Fl:=stuck
noncomputable def kU(ds:RN):RN:=List.zipWith (fun(i:Nat) d=>D.tup [.int i,d]) (List.range ds.length) ds
def lY:RN->Option (List D)|[.lst ds]=>some (kU ds)|_=>none
def oz(fl:List (M D)):M (List D):=PN (mL fl) fun xs=>opt (lY xs)
noncomputable def Fh:RN->Option (List D)|[.int i,.int j,.int k]=>if k=-1/\(-(2 ^ 62)<=i/\i<2 ^ 62)/\-(2 ^ 62)<=j/\j<2 ^ 62 then some ((List.range (i-j).toNat).map fun(k:Nat)=>.int (i-k)) else none|_=>none
def Ei(fl:List (M D)):M (List D):=PN (mL fl) fun xs=>opt (Fh xs)
end VP
end
section
namespace VP
def Bf:D->D->Option D|.int i,.int j=>nH (.int i) (.int j)|.tup xs,.int k=>if -(eL:Int)<=k/\k<=eL/\xs.length*k.toNat<=eL then some (.tup (List.replicate k.toNat xs).flatten) else none|_,_=>none
def mulL:D->D->Option D|.lst xs,.int k=>if -(eL:Int)<=k/\k<=eL/\xs.length*k.toNat<=eL then some (.lst (List.replicate k.toNat xs).flatten) else none|_,_=>none
def Ug(neg:Bool)(x y:D):PM:=if neg then dz x y else bG x y
def vf(g:D->D->PM)(j:Nat)(d:D):M D:=fun r=>match own r[j]? with|some x=>opt (g x d) r|none=>.no
def sT(g:D->D->PM)(j:Nat)(fb:M D):M D:=fun r=>if (own r[j]?).isSome then PN fb (vf g j) r else .no
end VP
end
section
namespace VP
noncomputable def sortI(xs:R4):R4:=xs.mergeSort fun a b=>decide (a<=b)
theorem sortI_perm(xs:R4):(sortI xs).Perm xs:=List.mergeSort_perm ..
theorem Q0H(xs:R4):(sortI xs).Pairwise (·<=·):=by have:=List.pairwise_mergeSort (le:=fun(a b:Int)=>decide (a<=b)) (fun a b c h1 h2=>by simp at *;lia) (fun a b=>by simp;lia) xs;exact this.imp fun h=>by simpa using h
theorem wm(p:ys.Perm xs)(o:ys.Pairwise (·<=·)):ys=sortI xs:=List.Perm.eq_of_pairwise (fun x y _ _ h1 h2=>Int.le_antisymm h1 h2) o (Q0H xs) (p.trans (sortI_perm xs).symm)
def wk(d:D):PM:=match cy d with
|some ds=>match ff ds with
  |some ns=>if ns.length<64 then some (.lst ((sortI ns).map .int)) else none|none=>none
 |none=>none
noncomputable def Ec:RN->Option D|[.int j]=>if -1000<=j/\j<=1000 then some (.lst ((List.range j.toNat).map fun(k:Nat)=>.int k)) else none|_=>none
noncomputable def aaf:D->D->Option D|.int i,.int j=>if 0<=j/\j<=1000/\i.natAbs<2 ^ 64 then some (.int (i ^ j.toNat)) else none|_,_=>none
def qS(c:M Bool)(body:M Fl):M Fl:=gx c body 10000
def Eo(i:Nat):M D:=fun r=>match own r[i]? with
 |some (.lst xs)=>match xs.getLast? with
   |some d=>.ok d (cE i (.lst xs.dropLast) r)|none=>.no
  |_=>.no
def xn(x:D):D->Option D
|.lst xs=>match x with
  |.lst ys=>if xs.length+ys.length<=eL then some (.lst (xs++ys)) else none|_=>none
 |_=>none
def Fi(i:Nat)(fe:M D):M Fl:=fun r=>if isLst (own r[i]?) then PN fe (fun x=>Gj (gg i (xn x))) r else .no
def DQ(neg:Bool)(j:Nat)(x:D):M D:=fun r=>match own r[j]? with|some y=>opt (inD neg x y) r|none=>.no
def Hy(neg:Bool)(fa:M D)(j:Nat):M D:=PN fa (DQ neg j)
def nG(x y:D):PM:=match x with
|.tup ds=>match ff ds with
  |some []=>some y|some (i::is)=>some (.int (is.foldl (fun a b=>if a<b then b else a) i))|none=>none
 |_=>none
noncomputable def B0(f:Fn)(d:D):M D:=fun r=>match f [d] with|.ok v [_]=>.ok v r|.exc x [_]=>.exc x r|_=>.no
def nE(f:Fn)(a:M D):M D:=PN a (B0 f)
noncomputable def fJ:Sl->Sl|.ow d=>.sh d|.io d=>.sh d|s=>s
mutual
noncomputable def QM:D->Bool|.bC=>true|.bl _=>true|.int _=>true|.str _=>true|.tup ds=>noLs ds|_=>false
noncomputable def noLs:RN->Bool|[]=>true|d::ds=>QM d&&noLs ds
end
def lb(f:M D):M D:=fun r=>match f (r.map fJ) with|.ok (.lst ds) _=>if noLs ds then .ok (.lst ds) r else .no|_=>.no
noncomputable def xh:List (Sum Int Str)->RN->Sum Int Str->Option D|k'::ks,v::vs,k=>if k'=k then some v else xh ks vs k|_,_,_=>none
noncomputable def xi(k:Sum Int Str)(v:D):List (Sum Int Str)->RN->List (Sum Int Str)×List D|k'::ks,x::vs=>if k'=k then(k'::ks,v::vs) else(k'::(xi k v ks vs).1,x::(xi k v ks vs).2)|_,_=>([k],[v])
def AJ:D->D->Option D|.gK ks vs,.int k=>xh ks vs (.inl k)|_,_=>none
def C4(neg:Bool):D->D->Option D|.int k,.gK ks vs=>some (.bl (if neg then !(xh ks vs (.inl k)).isSome else(xh ks vs (.inl k)).isSome))|_,_=>none
def putD(k v:D):D->Option D
|.gK ks vs=>match k with
  |.int i=>if ks.length<1000 then some (.gK (xi (.inl i) v ks vs).1 (xi (.inl i) v ks vs).2) else none|_=>none
 |_=>none
def Aj(i:Nat)(fk fv:M D):M Fl:=PN fv fun v=>fun r=>if (own r[i]?).isSome then PN fk (fun k=>Gj (gg i (putD k v))) r else .no
noncomputable def D5:Sum Int Str->D|.inl i=>.int i|.inr s=>.str s
def D6:D->Option (List D)|.gK ks _=>some (ks.map D5)|_=>none
def vP(f:M D):M (List D):=PN f fun d=>opt (D6 d)
def oA:D->Option D
|.gK _ vs=>match ff vs with
  |some (i::is)=>some (.int (is.foldl (fun a b=>if a<b then b else a) i))|_=>none
 |_=>none
noncomputable def C5:D->Option D|.gK ks vs=>some (.gK ks vs)|_=>none
noncomputable def Lk:D->Option D|.gK ks _=>some (.int ks.length)|_=>none
end VP
end
section
set_option linter.all false
set_option maxRecDepth 100000
abbrev Ys(X:L2.Cx)(e:PySem.Expr)(l:List PySem.Expr):Prop:=PySem.starEach (e::l) X.env=(false,PySem.eval e X.env)::PySem.starEach l X.env
abbrev IL(X:L2.Cx)(x:PySem.Str):Prop:=X.fn x=true\/X.env.scope.names.lookup x=some .local
abbrev OR(X:L2.Cx)(p:PySem.Pos)(l:List PySem.Expr):Prop:=(PySem.backTo p (PySem.starEach l X.env)).any (·.1)=false
namespace VS
open PySem PySem.Spec PyProof.Rows L2 VP
abbrev Frag:=W.Frag
abbrev St:=L2.St
abbrev MG:=Str->Option Value
def YX(a C:Addr)(dx:UL):Heap->Prop:=fun h=>∃vs sl,h.get? a=some ⟨.ref C,dx,.fields vs,sl⟩/\vs[2]?=some .none
mutual
inductive Den(K:Frag)(mg:MG)(F:Hp):V->D->Prop where
 |bC:Den K mg F .bC .bC|bl (b:Bool):Den K mg F (.bl b) (.bl b)|int (i:Int):Den K mg F (.int i) (.int i)|str (x:Str):Den K mg F (.str x) (.str x)|tup {a:Addr} {vs:O6} {ds:RN} (h:dB K F a vs) (r:aI K mg F vs ds):Den K mg F (.ref a) (.tup ds)|lst {a:Addr} {vs:O6} {ds:RN} (h:cU K F a vs) (r:aI K mg F vs ds):Den K mg F (.ref a) (.lst ds)|gK {a:Addr} {aO:List (Key×V)} {ep:Nat} {ds:RN} (h:F a=some (.dK aO ep)) (r:aI K mg F (aO.map (·.2)) ds):Den K mg F (.ref a) (.gK (aO.map (·.1)) ds)|ins {a C dx:Addr} {c:Str} {fs:List (Str×V)} {ds:RN} (h:F a=some (.ins C dx fs)) (hc:mg c=some (.ref C)) (r:aI K mg F (fs.map (·.2)) ds):Den K mg F (.ref a) (.ins c (fs.map (·.1)) ds)|FW {a C:Addr} {dx:UL} {c:Str} {fs:List (Str×V)} {ds:RN} (h:F a=some (.ext (YX a C dx))) (hc:mg c=some (.ref C)) (hf:(dx=none/\fs=[])\/∃b,dx=some b/\F b=some (.xd fs)) (r:aI K mg F (fs.map (·.2)) ds):Den K mg F (.ref a) (.FW c (fs.map (·.1)) ds)
inductive aI(K:Frag)(mg:MG)(F:Hp):O6->RN->Prop where
 |nil:aI K mg F [] []|cons {v:V} {d:D} {vs:O6} {ds:RN} (h:Den K mg F v d) (t:aI K mg F vs ds):aI K mg F (v::vs) (d::ds)
end
section
variable{K:Frag}{mg:MG}{F:Hp}{v:V}{ds:RN}
theorem Den.n(h:Den K mg F v .bC):v=.bC:=by cases h;rfl
theorem Den.b{b:Bool}(h:Den K mg F v (.bl b)):v=.bl b:=by cases h;rfl
theorem Den.i{i:Int}(h:Den K mg F v (.int i)):v=.int i:=by cases h;rfl
theorem Den.s{x:Str}(h:Den K mg F v (.str x)):v=.str x:=by cases h;rfl
theorem Den.t(h:Den K mg F v (.tup ds)):∃a vs,v=.ref a/\dB K F a vs/\aI K mg F vs ds:=by cases h with|tup h r=>exact⟨_,_,rfl,h,r⟩
theorem Den.l(h:Den K mg F v (.lst ds)):∃a vs,v=.ref a/\cU K F a vs/\aI K mg F vs ds:=by cases h with|lst h r=>exact⟨_,_,rfl,h,r⟩
theorem aI.n{vs:O6}(h:aI K mg F vs []):vs=[]:=by cases h;rfl
theorem aI.c{vs:O6}{d:D}(h:aI K mg F vs (d::ds)):∃v ws,vs=v::ws/\Den K mg F v d/\aI K mg F ws ds:=by cases h with|cons h r=>exact⟨_,_,rfl,h,r⟩
end
theorem dB.same{K:Frag}{F F':Hp}{a:Addr}{xs:O6}(h:dB K F a xs)(e:aL F F'):dB K F' a xs:=by
 rcases h with (h|⟨o,h⟩)|h
 exact .inl (.inl (e _ _ h));exact .inl (.inr ⟨o,e _ _ h⟩);exact .inr h
theorem cU.same{K:Frag}{F F':Hp}{a:Addr}{xs:O6}(h:cU K F a xs)(e:aL F F'):cU K F' a xs:=e.seq h
section
variable{K:Frag}{mg:MG}{F F' H H':Hp}
theorem Den.same(e:aL F F'){v:V}{d:D}(h:Den K mg F v d):Den K mg F' v d:=Den.rec (motive_1:=fun v d _=>Den K mg F' v d) (motive_2:=fun vs ds _=>aI K mg F' vs ds) .bC .bl .int .str (fun h _ r=>.tup (dB.same h e) r) (fun h _ r=>.lst (cU.same h e) r) (fun h _ r=>.gK (e _ _ h) r) (fun h hc _ r=>.ins (e _ _ h) hc r) (fun h hc hf _ r=>.FW (e _ _ h) hc (hf.imp id (Exists.imp fun _=>And.imp id (e _ _))) r) .nil (fun _ _ h t=>.cons h t) h
theorem aI.ind{P:O6->RN->Prop}(n:P [] [])(c:∀{v d vs ds},Den K mg F v d->aI K mg F vs ds->P vs ds->P (v::vs) (d::ds)){vs:O6}{ds:RN}(h:aI K mg F vs ds):P vs ds:=aI.rec (motive_1:=fun _ _ _=>True) (motive_2:=fun vs ds _=>P vs ds) ⟨⟩ (fun _=>⟨⟩) (fun _=>⟨⟩) (fun _=>⟨⟩) (fun _ _ _=>⟨⟩) (fun _ _ _=>⟨⟩) (fun _ _ _=>⟨⟩) (fun _ _ _ _=>⟨⟩) (fun _ _ _ _ _=>⟨⟩) n (fun h t _=>c h t) h
theorem aI.same(e:aL F F'){vs:O6}{ds:RN}(h:aI K mg F vs ds):aI K mg F' vs ds:=h.ind .nil fun h _=>.cons (h.same e)
theorem aI.length{vs:O6}{ds:RN}(h:aI K mg F vs ds):vs.length=ds.length:=h.ind (P:=fun vs ds=>vs.length=ds.length) rfl fun _ _=>congrArg Nat.succ
theorem aI.append{vs ws:O6}{ds es:RN}(h:aI K mg F vs ds)(s:aI K mg F ws es):aI K mg F (vs++ws) (ds++es):=h.ind (P:=fun vs ds=>aI K mg F (vs++ws) (ds++es)) s fun h _=>.cons h
theorem aI.get:∀{vs:O6}{ds:RN}{i:Nat}{d:D},aI K mg F vs ds->ds[i]?=some d->∃v,vs[i]?=some v/\Den K mg F v d|_,_,_,_,.nil,e=>by simp at e|_,_,0,_,.cons h _,e=>by simp at e;subst e;exact⟨_,rfl,h⟩|_,_,i+1,_,.cons _ t,e=>by obtain⟨v,h1,h2⟩:=aI.get (i:=i) t (by simpa using e);exact⟨v,by simpa using h1,h2⟩
theorem aI.set:∀{vs:O6}{ds:RN}{v:V}{d:D}(i:Nat),aI K mg F vs ds->Den K mg F v d->aI K mg F (vs.set i v) (ds.set i d)|_,_,_,_,_,.nil,_=>.nil|_,_,_,_,0,.cons _ t,h=>.cons h t|_,_,_,_,i+1,.cons q t,h=>.cons q (aI.set i t h)
theorem aI.take:∀{vs:O6}{ds:RN}(n:Nat),aI K mg F vs ds->aI K mg F (vs.take n) (ds.take n)|_,_,0,_=>by simpa using aI.nil|_,_,_+1,.nil=>.nil|_,_,n+1,.cons h t=>.cons h (aI.take n t)
theorem aI.drop:∀{vs:O6}{ds:RN}(n:Nat),aI K mg F vs ds->aI K mg F (vs.drop n) (ds.drop n)|_,_,0,h=>by simpa using h|_,_,_+1,.nil=>.nil|_,_,n+1,.cons _ t=>aI.drop n t
theorem aI.reverse(h:aI K mg F vs ds):aI K mg F vs.reverse ds.reverse:=by induction vs generalizing ds with|nil=>cases h;exact .nil|cons v vs ih=>cases h with|cons h t=>simp only[List.reverse_cons];exact(ih t).append (.cons h .nil)
theorem aI.ints(ns:R4):aI K mg F (ns.map V.int) (ns.map D.int):=by induction ns with|nil=>exact .nil|cons n r ih=>exact .cons (.int n) ih
theorem aI.map{α:Type}{f:α->V}{g:α->D}(h:∀a,Den K mg F (f a) (g a))(l:List α):aI K mg F (l.map f) (l.map g):=by induction l with|nil=>exact .nil|cons a l ih=>exact .cons (h a) ih
def dU(K:Frag)(mg:MG)(F H:Hp)(l:Addr):D->Prop|.lst ds=>∃vs,H l=some (.lst vs)/\aI K mg F vs ds|.gK ks ds=>∃aO ep,H l=some (.dK aO ep)/\aO.map (·.1)=ks/\aI K mg F (aO.map (·.2)) ds|.ins c ns ds=>∃C dx fs,H l=some (.ins C dx fs)/\mg c=some (.ref C)/\fs.map (·.1)=ns/\aI K mg F (fs.map (·.2)) ds|_=>False
theorem dU.same(h:dU K mg F H l d)(e:aL F F')(eh:∀o,H l=some o->H' l=some o):dU K mg F' H' l d:=by cases d with|lst ds=>obtain⟨vs,h1,h2⟩:=h;exact⟨vs,eh _ h1,h2.same e⟩|gK ks ds=>obtain⟨aO,ep,h1,h2,h3⟩:=h;exact⟨aO,ep,eh _ h1,h2,h3.same e⟩|ins c ns ds=>obtain⟨C,dx,fs,h1,h2,h3,h4⟩:=h;exact⟨C,dx,fs,eh _ h1,h2,h3,h4.same e⟩|_=>exact h.elim
theorem dU.has(h:dU K mg F H l d):∃o,H l=some o:=by cases d with|lst ds=>obtain⟨vs,h1,h2⟩:=h;exact⟨_,h1⟩|gK ks ds=>obtain⟨aO,ep,h1,h2,h3⟩:=h;exact⟨_,h1⟩|ins c ns ds=>obtain⟨C,dx,fs,h1,h2,h3,h4⟩:=h;exact⟨_,h1⟩|_=>exact h.elim
theorem dU.den(h:dU K mg F H l d)(ho:H l=some o)(e:aL F F')(hl:F' l=some o):Den K mg F' (.ref l) d:=by cases d with|lst ds=>obtain⟨vs,h1,h2⟩:=h;rw[ho] at h1;cases h1;exact .lst (cU.of hl) (h2.same e)|gK ks ds=>obtain⟨aO,ep,h1,rfl,h3⟩:=h;rw[ho] at h1;cases h1;exact .gK hl (h3.same e)|ins c ns ds=>obtain⟨C,dx,fs,h1,h2,rfl,h4⟩:=h;rw[ho] at h1;cases h1;exact .ins hl h2 (h4.same e)|_=>exact h.elim
end
structure Fx where
 H₀:Hp
 Qb:Hp
 io:List (Nat×Addr)
def uY(K:Frag)(mg:MG)(G:Fx)(F H:Hp)(i:Nat)(v:Option V):Sl->Prop|.no=>True|.sh d=>∃u,v=some u/\Den K mg F u d|.ow d=>∃l,v=some (.ref l)/\F l=none/\G.H₀ l=none/\dU K mg F H l d|.io d=>∃l,v=some (.ref l)/\(i,l)∈G.io/\F l=none/\dU K mg F H l d
def cq:Sl->Bool|.ow _=>true|.io _=>true|_=>false
structure Good(K:Frag)(mg:MG)(G:Fx)(F H:Hp)(σ:St)(ρ:aR):Prop where
 sF:aL G.Qb F
 sub:aL F H
 old:∀a o,G.H₀ a=some o->(∀i,(i,a)∉G.io)->H a=some o
 new:∀a o,F a=some o->G.Qb a=some o\/G.H₀ a=none
 len:σ.length=ρ.length
 slot:∀(i:Nat)(s:Sl),ρ[i]?=some s->uY K mg G F H i (σ[i]?.join) s
 apart:∀(i j:Nat)(l:Addr)(s t:Sl),ρ[i]?=some s->ρ[j]?=some t->cq s=true->cq t=true->σ[i]?=some (some (V.ref l))->σ[j]?=some (some (V.ref l))->i=j
 oq:∀i a,(i,a)∈G.io->(∃o,H a=some o)/\F a=none/\∃o,G.H₀ a=some o
 oJ:∀i a b,(i,a)∈G.io->(i,b)∈G.io->a=b
section
variable{K:Frag}{mg:MG}{G:Fx}{F F' H H':Hp}{σ:St}{ρ:aR}
theorem uY.own(h:uY K mg G F H i v s)(o:cq s=true):∃l d,v=some (.ref l)/\F l=none/\dU K mg F H l d/\(s=.ow d\/s=.io d):=by cases s with|no=>cases o|sh d=>cases o|ow d=>obtain⟨l,h1,h2,h3,h4⟩:=h;exact⟨l,d,h1,h2,h4,.inl rfl⟩|io d=>obtain⟨l,h1,h2,h3,h4⟩:=h;exact⟨l,d,h1,h3,h4,.inr rfl⟩
theorem uY.same(h:uY K mg G F H i v s)(e:aL F F')(hn:∀l,v=some (.ref l)->cq s=true->F l=none->(∃o,H l=some o)->F' l=none)(eh:∀l o,v=some (.ref l)->cq s=true->H l=some o->H' l=some o):uY K mg G F' H' i v s:=by cases s with|no=>trivial|sh d=>obtain⟨u,h1,h2⟩:=h;exact⟨u,h1,h2.same e⟩|ow d=>obtain⟨l,h1,h2,h3,h4⟩:=h;exact⟨l,h1,hn l h1 rfl h2 h4.has,h3,h4.same e fun o=>eh l o h1 rfl⟩|io d=>obtain⟨l,h1,h2,h3,h4⟩:=h;exact⟨l,h1,h2,hn l h1 rfl h3 h4.has,h4.same e fun o=>eh l o h1 rfl⟩
theorem Good.ext(g:Good K mg G F H σ ρ)(eF:aL F F')(eH:aL H H')(sub:aL F' H')(new:∀a o,F' a=some o->F a=some o\/H a=none):Good K mg G F' H' σ ρ where
 sF:=g.sF.trans eF
 sub:=sub
 old:=fun a o e n=>eH _ _ (g.old a o e n)
 new:=fun a o e=>by rcases new a o e with h|h;exact g.new a o h;refine .inr ?_;cases q:G.H₀ a with|none=>rfl|some u=>by_cases z:∃i,(i,a)∈G.io;obtain⟨i,z⟩:=z;obtain⟨⟨w,hw⟩,_⟩:=g.oq i a z;rw[h] at hw;cases hw;have:=g.old a u q (fun i w=>z ⟨i,w⟩);rw[h] at this;cases this
 len:=g.len
 slot:=fun i s h=>(g.slot i s h).same eF (fun l _ _ hf ⟨o,ho⟩=>by cases q:F' l with|none=>rfl|some u=>rcases new l u q with z|z;rw[hf] at z;cases z;rw[ho] at z;cases z) fun l o _ _ e=>eH _ _ e
 apart:=g.apart
 oq:=fun i a h=>by obtain⟨⟨o,h1⟩,h2,h3⟩:=g.oq i a h;refine⟨⟨o,eH _ _ h1⟩,?_,h3⟩;cases q:F' a with|none=>rfl|some u=>rcases new a u q with z|z;rw[h2] at z;cases z;rw[h1] at z;cases z
 oJ:=g.oJ
theorem bh(h:A p=none):aL A (upd A p o):=fun b q e=>by rw[aQ (bz e h)];exact e
theorem Good.laid(g:Good K mg G F H σ ρ)(hp:H p=none):Good K mg G (upd F p o) (upd H p o) σ ρ:=by have fp:F p=none:=g.sub.free hp;refine g.ext (bh fp) (bh hp) (fun b q e=>?_) fun a u e=>?_;by_cases hb:b=p;subst hb;rw[aJ] at e ⊢;exact e;rw[aQ hb] at e ⊢;exact g.sub _ _ e;by_cases hb:a=p;subst hb;exact .inr hp;rw[aQ hb] at e;exact .inl e
theorem Good.made(g:Good K mg G F H σ ρ)(hp:H p=none):Good K mg G F (upd H p o) σ ρ:=g.ext (aL.refl _) (bh hp) (g.sub.trans (bh hp)) fun a u e=>.inl e
theorem Good.Bh(g:Good K mg G F H σ ρ)(hp:H p=none):G.H₀ p=none:=by cases q:G.H₀ p with|none=>rfl|some u=>by_cases z:∃i,(i,p)∈G.io;obtain⟨i,z⟩:=z;obtain⟨⟨w,hw⟩,_⟩:=g.oq i p z;rw[hp] at hw;cases hw;have:=g.old p u q (fun i w=>z ⟨i,w⟩);rw[hp] at this;cases this
structure Loose(K:Frag)(mg:MG)(G:Fx)(F H:Hp)(σ:St)(ρ:aR)(l:Addr)(d:D):Prop where
 nF:F l=none
 n0:G.H₀ l=none
 ob:dU K mg F H l d
 ns:∀(i:Nat)(s:Sl),ρ[i]?=some s->cq s=true->σ[i]?≠some (some (V.ref l))
theorem Good.loose(g:Good K mg G F H σ ρ)(hp:H p=none)(ho:dU K mg F (upd H p o) p d):Loose K mg G F (upd H p o) σ ρ p d where
 nF:=g.sub.free hp
 n0:=g.Bh hp
 ob:=ho
 ns:=fun i s h o e=>by obtain⟨l,d,h1,h2,h3,h4⟩:=(g.slot i s h).own o;rw[e] at h1;cases h1;obtain⟨u,hu⟩:=h3.has;rw[hp] at hu;cases hu
theorem Loose.fast(x:Loose K mg G F H σ ρ l d)(g:Good K mg G F H σ ρ):∃F',aL F F'/\Good K mg G F' H σ ρ/\Den K mg F' (.ref l) d:=by
 obtain⟨o,ho⟩:=x.ob.has;refine⟨upd F l o,bh x.nF,?_,x.ob.den ho (bh x.nF) aJ⟩;exact {
  sF:=g.sF.trans (bh x.nF)
  sub:=fun b q e=>by by_cases hb:b=l;subst hb;rw[aJ] at e;cases e;exact ho;rw[aQ hb] at e;exact g.sub _ _ e
  old:=g.old
  new:=fun a u e=>by by_cases hb:a=l;subst hb;exact .inr x.n0;rw[aQ hb] at e;exact g.new a u e
  len:=g.len
  slot:=fun i s h=>(g.slot i s h).same (bh x.nF) (fun m hv ow hf _=>by
   have:m≠l:=fun z=>by subst z;refine x.ns i s h ow ?_;cases q:σ[i]? with|none=>rw[q] at hv;cases hv|some w=>rw[q] at hv;exact congrArg some hv
   rw[aQ this];exact hf) fun _ _ _ _ e=>e
  apart:=g.apart
  oq:=fun i a h=>by
   obtain⟨h1,h2,u,h3⟩:=g.oq i a h;refine⟨h1,?_,u,h3⟩;have:a≠l:=fun z=>by subst z;rw[x.n0] at h3;cases h3
   rw[aQ this];exact h2
  oJ:=g.oJ}
theorem join_some{σ:St}{i:Nat}{v:V}(h:σ[i]?.join=some v):σ[i]?=some (some v):=by cases q:σ[i]? with|none=>rw[q] at h;cases h|some w=>rw[q] at h;exact congrArg some h
theorem Good.store(g:Good K mg G F H σ ρ)(hf:free ρ[i]?=true)(hs:uY K mg G F H i (some v) s')(X6:cq s'=true->∀(j:Nat)(s:Sl),ρ[j]?=some s->cq s=true->j≠i->σ[j]?≠some (some v)):Good K mg G F H (σ.set i (some v)) (ρ.set i s') where
 sF:=g.sF
 sub:=g.sub
 old:=g.old
 new:=g.new
 len:=by simp[g.len]
 slot:=fun j s h=>by
  by_cases hj:j=i;subst hj;have hi:j<ρ.length:=by cases q:ρ[j]? with|none=>rw[q] at hf;cases hf|some w=>exact(List.getElem?_eq_some_iff.mp q).1
  rw[xP hi] at h;cases h;rw[xP (by rw[g.len];exact hi)];exact hs;rw[H0 (W5 hj)] at h ⊢;exact g.slot j s h
 apart:=fun j k l s t h1 h2 o1 o2 e1 e2=>by
  by_cases hj:j=i;by_cases hk:k=i;rw[hj,hk];subst hj;rw[H0 (W5 hk)] at h2 e2;have hi:j<ρ.length:=by cases q:ρ[j]? with|none=>rw[q] at hf;cases hf|some w=>exact(List.getElem?_eq_some_iff.mp q).1
  rw[xP hi] at h1;cases h1;rw[xP (by rw[g.len];exact hi)] at e1;cases e1;exact absurd e2 (X6 o1 k t h2 o2 hk);rw[H0 (W5 hj)] at h1 e1;by_cases hk:k=i;subst hk;have hi:k<ρ.length:=by cases q:ρ[k]? with|none=>rw[q] at hf;cases hf|some w=>exact(List.getElem?_eq_some_iff.mp q).1
  rw[xP hi] at h2;cases h2;rw[xP (by rw[g.len];exact hi)] at e2;cases e2;exact absurd e1 (X6 o2 j s h1 o1 hj);rw[H0 (W5 hk)] at h2 e2;exact g.apart j k l s t h1 h2 o1 o2 e1 e2
 oq:=g.oq
 oJ:=g.oJ
theorem Good.write(g:Good K mg G F H σ ρ)(hr:ρ[i]?=some s)(ho:cq s=true)(hl:σ[i]?=some (some (V.ref l)))(hs:(∃e,s=.ow e/\s'=.ow d)\/(∃e,s=.io e/\s'=.io d)) (hd:dU K mg F (upd H l o) l d):Good K mg G F (upd H l o) σ (ρ.set i s'):=by
 have nF:F l=none:=by obtain⟨m,e,h1,h2,h3,_⟩:=(g.slot i s hr).own ho;rw[hl] at h1;cases h1;exact h2
 have hi:i<ρ.length:=(List.getElem?_eq_some_iff.mp hr).1;have ow':cq s'=true:=by rcases hs with ⟨e,_,rfl⟩|⟨e,_,rfl⟩<;>rfl
 exact {
  sF:=g.sF
  sub:=fun b q e=>by have:b≠l:=bz e nF;rw[aQ this];exact g.sub _ _ e
  old:=fun a q e n=>by
   have:a≠l:=fun z=>by
    subst z;have k:=g.slot i s hr;rcases hs with ⟨e',rfl,_⟩|⟨e',rfl,_⟩
    obtain⟨m,h1,h2,h3,_⟩:=k;rw[hl] at h1;cases h1;rw[e] at h3;cases h3;obtain⟨m,h1,h2,h3,_⟩:=k;rw[hl] at h1;cases h1;exact n i h2
   rw[aQ this];exact g.old a q e n
  new:=g.new
  len:=by simp[g.len]
  slot:=fun j t h=>by
   by_cases hj:j=i;subst hj;rw[xP hi] at h;cases h;have k:=g.slot j s hr;rcases hs with ⟨e',rfl,rfl⟩|⟨e',rfl,rfl⟩
   obtain⟨m,h1,h2,h3,_⟩:=k;rw[hl] at h1;cases h1;rw[hl];exact⟨l,rfl,h2,h3,hd⟩;obtain⟨m,h1,h2,h3,_⟩:=k;rw[hl] at h1;cases h1;rw[hl];exact⟨l,rfl,h2,h3,hd⟩;rw[H0 (W5 hj)] at h;refine(g.slot j t h).same (aL.refl _) (fun _ _ _ z _=>z) fun m q hv ow e=>?_;have:m≠l:=fun z=>by subst z;exact hj (g.apart j i m t s h hr ow ho (join_some hv) hl)
   rw[aQ this];exact e
  apart:=fun j k m t u h1 h2 o1 o2 e1 e2=>by
   have f:∀{j:Nat}{t:Sl},(ρ.set i s')[j]?=some t->cq t=true->∃t',ρ[j]?=some t'/\cq t'=true:=fun {j t} h o=>by by_cases hj:j=i;subst hj;exact⟨s,hr,ho⟩;rw[H0 (W5 hj)] at h;exact⟨t,h,o⟩
   obtain⟨t',a1,a2⟩:=f h1 o1;obtain⟨u',b1,b2⟩:=f h2 o2;exact g.apart j k m t' u' a1 b1 a2 b2 e1 e2
  oq:=fun j a h=>by obtain⟨⟨q,h1⟩,h2,h3⟩:=g.oq j a h;refine⟨?_,h2,h3⟩;by_cases ha:a=l;subst ha;exact⟨o,aJ⟩;exact⟨q,by rw[aQ ha];exact h1⟩
  oJ:=g.oJ}
theorem Good.fz{i:Nat}{d:D}(g:Good K mg G F H σ ρ)(hr:ρ[i]?=some (.ow d)):∃F',aL F F'/\Good K mg G F' H σ (ρ.set i (.sh d)):=by
 obtain⟨l,h1,h2,h3,h4⟩:=g.slot i _ hr;have hl:=join_some h1;have hi:i<ρ.length:=(List.getElem?_eq_some_iff.mp hr).1;obtain⟨o,ho⟩:=h4.has;refine⟨upd F l o,bh h2,?_⟩;exact {
  sF:=g.sF.trans (bh h2)
  sub:=fun b q e=>by by_cases hb:b=l;subst hb;rw[aJ] at e;cases e;exact ho;rw[aQ hb] at e;exact g.sub _ _ e
  old:=g.old
  new:=fun a u e=>by by_cases hb:a=l;subst hb;exact .inr h3;rw[aQ hb] at e;exact g.new a u e
  len:=by simp[g.len]
  slot:=fun j s h=>by
   by_cases hj:j=i;subst hj;rw[xP hi] at h;cases h;exact⟨_,h1,h4.den ho (bh h2) aJ⟩;rw[H0 (W5 hj)] at h;refine(g.slot j s h).same (bh h2) (fun m hv ow hf _=>?_) fun _ _ _ _ e=>e;have:m≠l:=fun z=>by subst z;exact hj (g.apart j i m s _ h hr ow rfl (join_some hv) hl)
   rw[aQ this];exact hf
  apart:=fun j k m t u h1 h2 o1 o2 e1 e2=>by
   have f:∀{j:Nat}{t:Sl},(ρ.set i (.sh d))[j]?=some t->cq t=true->ρ[j]?=some t:=fun {j t} h o=>by by_cases hj:j=i;subst hj;rw[xP hi] at h;cases h;cases o;rw[H0 (W5 hj)] at h;exact h
   exact g.apart j k m t u (f h1 o1) (f h2 o2) o1 o2 e1 e2
  oq:=fun j a h=>by
   obtain⟨q1,q2,u,q3⟩:=g.oq j a h;refine⟨q1,?_,u,q3⟩;have:a≠l:=fun z=>by subst z;rw[h3] at q3;cases q3
   rw[aQ this];exact q2
  oJ:=g.oJ}
end
def XR(K:Frag)(mg:MG)(F H:Hp)(c:Value)(dx:UL)(x:Xn):Prop:=∃C,c=.ref C/\mg x.cls=some (.ref C)/\∃fs:List (Str×V),((dx=none/\fs=[])\/∃a,dx=some a/\F a=some (.xd fs))/\fs.map (·.1)=x.ns/\aI K mg F (fs.map (·.2)) x.vs
abbrev XE:=St->XK
structure Lc where
 K:Frag
 mg:MG
 EX:XE
def Out{α:Type}:Res α->(α->aR->Prop)->(Xn->aR->Prop)->Prop|.ok a r,P,_=>P a r|.exc x r,_,E=>E x r|.no,_,_=>False
theorem Out.PN{α β:Type}{f:M α}{g:α->M β}{P:β->aR->Prop}(h:Out (PN f g r) P E):Out (f r) (fun a r'=>Out (g a r') P E) E:=by unfold VP.PN at h;cases q:f r with|ok a r'=>rw[q] at h;exact h|exc x r'=>rw[q] at h;exact h|no=>rw[q] at h;exact h
theorem Out.mono{α:Type}{r:Res α}{P P':α->aR->Prop}(h:Out r P E)(hP:∀a r,P a r->P' a r)(hE:∀x r,E x r->E' x r):Out r P' E':=by cases r with|ok a r=>exact hP _ _ h|exc x r=>exact hE _ _ h|no=>exact h
theorem Out.opt{α:Type}{o:Option α}{P:α->aR->Prop}(h:Out (opt o r) P E):∃a,o=some a/\P a r:=by cases o with|none=>exact h.elim|some a=>exact⟨a,rfl,h⟩
theorem Out.ite{α:Type}{f g:M α}{P:α->aR->Prop}(h:Out ((if b then f else g) r) P E):(b=true/\Out (f r) P E)\/(b=false/\Out (g r) P E):=by cases b with|true=>exact .inl ⟨rfl,h⟩|false=>exact .inr ⟨rfl,h⟩
abbrev Rl(α β:Type):=Fx->Hp->Hp->St->aR->β->α->Prop
section
variable(L:Lc)
abbrev Lc.Good(G:Fx)(F H:Hp)(σ:St)(ρ:aR):Prop:=VS.Good L.K L.mg G F H σ ρ
def RV:Rl D V:=fun _ F _ _ _ v d=>Den L.K L.mg F v d
def RR:Rl D V:=fun _ F H _ _ v d=>Den L.K L.mg F v d\/∃l,v=.ref l/\dU L.K L.mg F H l d
def RF:Rl D V:=fun G F H σ ρ v d=>∃l,v=.ref l/\Loose L.K L.mg G F H σ ρ l d
def RB:Rl Bool Bool:=fun _ _ _ _ _ b a=>b=a
def RL:Rl (List D) (List V):=fun _ F _ _ _ vs ds=>aI L.K L.mg F vs ds
def dq(G:Fx)(F:Hp)(σ:St):Xn->aR->Prop:=fun x bP=>∀F' H' c dx,aL F F'->L.Good G F' H' σ bP->XR L.K L.mg F' H' c dx x->L.EX σ c dx H'
def fX{α β:Type}(R:Rl α β)(G:Fx)(F:Hp)(σ:St)(Q:β->Hp->Prop):α->aR->Prop:=fun a bP=>∀F' H' b,aL F F'->L.Good G F' H' σ bP->R G F' H' σ bP b a->Q b H'
def lift{α β:Type}(R:Rl α β)(f:M α):St->Hp->(β->Hp->Prop)->Prop:=fun σ H Q=>∃G F ρ,L.Good G F H σ ρ/\Out (f ρ) (fX L R G F σ Q) (dq L G F σ)
end
section
variable{L:Lc}{α β γ:Type}{G:Fx}{F F1 H:Hp}{σ:St}{ρ:aR}
theorem aW{Ra:Rl α β}{f:M α}{g:α->M γ}{P:γ->aR->Prop}{W:β->Hp->Prop}(g0:L.Good G F H σ ρ)(o:Out (PN f g ρ) P E)(hE:∀x r,E x r->dq L G F σ x r)(k:∀F1 H1 bo a b,aL F F1->L.Good G F1 H1 σ bo->Ra G F1 H1 σ bo b a->Out (g a bo) P E->W b H1):lift L Ra f σ H W:=
 ⟨G,F,ρ,g0,o.PN.mono (fun a bo q F1 H1 b e g1 r=>k F1 H1 bo a b e g1 r q) hE⟩
theorem lf{Ra:Rl α β}{f:M α}{Q:β->Hp->Prop}{C:Prop}(h:lift L Ra f σ H Q)(k:∀G F ρ,L.Good G F H σ ρ->Out (f ρ) (fX L Ra G F σ Q) (dq L G F σ)->C):C:=by obtain⟨G,F,ρ,g0,o⟩:=h;exact k G F ρ g0 o
theorem dm{δ:Type}{Ra:Rl α β}{Rb:Rl γ δ}{f:M α}{g:α->M γ}{Q:δ->Hp->Prop}{W:β->Hp->Prop}(h:lift L Rb (PN f g) σ H Q)(k:∀G F F1 H1 bo a b,aL F F1->L.Good G F1 H1 σ bo->Ra G F1 H1 σ bo b a->Out (g a bo) (fX L Rb G F σ Q) (dq L G F σ)->W b H1):lift L Ra f σ H W:=
 lf h fun G F ρ g0 o=>aW g0 o (fun x r q=>q) (k G F)
theorem dq.same(e:aL F F1)(h:dq L G F σ x r):dq L G F1 σ x r:=fun F' H' c dx s g q=>h F' H' c dx (e.trans s) g q
theorem fX.same{R:Rl α β}{Q:β->Hp->Prop}(e:aL F F1){a:α}(h:fX L R G F σ Q a r):fX L R G F1 σ Q a r:=fun F' H' b s g q=>h F' H' b (e.trans s) g q
end
abbrev lc(X:Cx)(EX:XE):Lc:=⟨X.K,X.mg,EX⟩
def PV(X:Cx)(EX:XE)(e:Expr)(f:M D):Prop:=PE X e (lift (lc X EX) (RV (lc X EX)) f)
def PR(X:Cx)(EX:XE)(e:Expr)(f:M D):Prop:=PE X e (lift (lc X EX) (RR (lc X EX)) f)
def PF(X:Cx)(EX:XE)(e:Expr)(f:M D):Prop:=PE X e (lift (lc X EX) (RF (lc X EX)) f)
def PB(X:Cx)(EX:XE)(e:Expr)(f:M Bool):Prop:=PT X e (lift (lc X EX) RB f)
def As(X:Cx)(EX:XE)(es:W3)(f:M (List D)):Prop:=PA X es (lift (lc X EX) (RL (lc X EX)) f)
theorem _root_.L2.PE.le(h:PE X e t)(k:∀σ H Q,t' σ H Q->t σ H Q):PE X e t':=fun UW s σ H Q I q=>h UW s σ H Q I (k _ _ _ q)
theorem _root_.L2.PT.le(h:PT X e t)(k:∀σ H Q,t' σ H Q->t σ H Q):PT X e t':=fun UW s σ H Q I q=>h UW s σ H Q I (k _ _ _ q)
theorem _root_.L2.PA.le(h:PA X es t)(k:∀σ H Q,t' σ H Q->t σ H Q):PA X es t':=fun pos UW s σ H Q I q=>h pos UW s σ H Q I (k _ _ _ q)
theorem _root_.L2.PS.le(h:PS X e t)(k:∀D σ H,t' D σ H->t D σ H):PS X e t':=fun UW s σ H D I q=>h UW s σ H D I (k _ _ _ q)
theorem _root_.L2.wJ.le(h:wJ X e t)(k:∀D σ H,t' D σ H->t D σ H):wJ X e t':=fun UW s σ H D I q=>h UW s σ H D I (k _ _ _ q)
section
variable{X:Cx}{EX:XE}{e a b c:Expr}{f fa fb fc:M D}{pos:Pos}
theorem PV.rd(h:PV X EX e f):PR X EX e f:=h.le fun σ H Q ⟨G,F,ρ,g,o⟩=>⟨G,F,ρ,g,o.mono (fun a r q F' H' b s g' d=>q F' H' b s g' (.inl d)) fun x r q=>q⟩
theorem PF.pv(h:PF X EX e f):PV X EX e f:=h.le fun σ H Q ⟨G,F,ρ,g,o⟩=>⟨G,F,ρ,g,o.mono (fun a r q F' H' b s g' zz=>by obtain⟨l,e,d⟩:=zz;subst e;obtain⟨F2,s2,g2,d2⟩:=d.fast g';exact q F2 H' _ (s.trans s2) g2 d2) fun x r q=>q⟩
theorem aa(i:Nat){x:Str}(hN:X.N[i]?=some x:=by rfl)(hv:uZ X.env.scope x:=by exact Oi)(hd:Yw x:=by decide)(jC:Xj x:=by decide):PV X EX (.Name x pos) (af i):=
 (fO hN hv hd jC).le fun σ H Q zz=>by obtain⟨G,F,ρ,g,o⟩:=zz;unfold af at o;cases q:ρ[i]? with|none=>rw[q] at o;exact o.elim|some s=>rw[q] at o;cases s with|sh d=>obtain⟨u,h1,h2⟩:=g.slot i _ q;exact⟨u,join_some h1,o F H u (aL.refl _) g h2⟩|_=>exact o.elim
theorem gZ(i:Nat){x:Str}(hN:X.N[i]?=some x:=by rfl)(hv:uZ X.env.scope x:=by exact Oi)(hd:Yw x:=by decide)(jC:Xj x:=by decide):PR X EX (.Name x pos) (wL i):=
 (fO hN hv hd jC).le fun σ H Q zz=>by obtain⟨G,F,ρ,g,o⟩:=zz;unfold wL at o;cases q:ρ[i]? with|none=>rw[q] at o;exact o.elim|some s=>rw[q] at o;have k:=g.slot i _ q;cases s with|no=>exact o.elim|sh d=>obtain⟨u,h1,h2⟩:=k;exact⟨u,join_some h1,o F H u (aL.refl _) g (.inl h2)⟩|ow d=>obtain⟨l,h1,h2,h3,h4⟩:=k;exact⟨_,join_some h1,o F H _ (aL.refl _) g (.inr ⟨l,rfl,h4⟩)⟩|io d=>obtain⟨l,h1,h2,h3,h4⟩:=k;exact⟨_,join_some h1,o F H _ (aL.refl _) g (.inr ⟨l,rfl,h4⟩)⟩
theorem wb(h:PE X e t)(k:∀σ H Q,Q v H->t σ H Q)(hd:∀F,Den X.K X.mg F v d):PV X EX e (mC d):=h.le fun σ H Q ⟨G,F,ρ,g,o⟩=>k σ H Q (o F H v (aL.refl _) g (hd F))
theorem aj{j}:PV X EX (.Constant (.int i) j pos) (mC (.int i)):=wb N6 (fun _ _ _ q=>q) fun _=>.int i
theorem dA{j}:PV X EX (.Constant (.bool i) j pos) (mC (.bl i)):=wb SJ (fun _ _ _ q=>q) fun _=>.bl i
theorem b7{j}:PV X EX (.Constant .none j pos) (mC .bC):=wb N8 (fun _ _ _ q=>q) fun _=>.bC
theorem ay{j}:PV X EX (.Constant (.str i) j pos) (mC (.str i)):=wb Ob (fun _ _ _ q=>q) fun _=>.str i
abbrev Gv(L:Lc)(G:Fx)(F:Hp)(σ:St)(ρ:aR)(d:D)(Q:VK):Prop:=∀F' H' v,aL F F'->L.Good G F' H' σ ρ->Den L.K L.mg F' v d->Q v H'
def lj(L:Lc)(r:R2)(g:D->D->PM):Prop:=∀G F H σ ρ x y dx dy d Q,L.Good G F H σ ρ->Den L.K L.mg F x dx->Den L.K L.mg F y dy->g dx dy=some d->Gv L G F σ ρ d Q->r x y H Q
def XD(L:Lc)(r:V->Hp->VK->Prop)(g:D->PM):Prop:=∀G F H σ ρ x dx d Q,L.Good G F H σ ρ->RR L G F H σ ρ x dx->g dx=some d->Gv L G F σ ρ d Q->r x H Q
def TV(L:Lc)(r:O6->Hp->VK->Prop)(g:RN->PM):Prop:=∀G F H σ ρ xs Ue d Q,L.Good G F H σ ρ->aI L.K L.mg F xs Ue->g Ue=some d->Gv L G F σ ρ d Q->r xs H Q
theorem gB(hg:lj (lc X EX) r g)(ha:∀σ H Q,lift (lc X EX) (RV (lc X EX)) fa σ H Q->ta σ H Q)(hb:∀σ H Q,lift (lc X EX) (RV (lc X EX)) fb σ H Q->tb σ H Q)(σ:St) (H:Hp) (Q:VK) (h:lift (lc X EX) (RV (lc X EX)) (m2 g fa fb) σ H Q):KH r ta tb σ H Q:=by obtain⟨G,F,ρ,g0,o⟩:=h;refine ha _ _ _ (aW g0 o (fun x r q=>q) fun F1 H1 bo d1 x s1 g1 r1 o1=>?_);refine hb _ _ _ (aW g1 o1 (fun x r q=>q.same s1) fun F2 H2 mQ d2 y s2 g2 r2 o2=>?_);obtain⟨d,e,q⟩:=o2.opt;exact hg G F2 H2 σ mQ x y d1 d2 d Q g2 (r1.same s2) r2 e (fX.same (s1.trans s2) q)
theorem aH(ho:gC X (binaryOp op) r)(hg:lj (lc X EX) r g)(ha:PV X EX a fa)(hb:PV X EX b fb):PV X EX (.BinOp a op b pos) (m2 g fa fb):=(EO ho ha hb).le (gB hg (fun _ _ _ q=>q) fun _ _ _ q=>q)
theorem du(ho:gC X (compareOp op) r)(hg:lj (lc X EX) r g)(ha:PV X EX a fa)(hb:PV X EX b fb)(hm:behindInMarks op b=false):PV X EX (.Compare a [op] [b] pos) (m2 g fa fb):=(Ib ho ha hb hm).le (gB hg (fun _ _ _ q=>q) fun _ _ _ q=>q)
theorem qO(ho:T7 X (unaryOp op) r)(hg:XD (lc X EX) r g)(ha:PV X EX a fa):PV X EX (.UnaryOp op a pos) (m1 g fa):=(SM ho ha).le fun σ H Q bx=>dm bx fun G F F1 H1 bo d1 x s1 g1 r1 o1=>by obtain⟨d,e,q⟩:=o1.opt;exact hg G F1 H1 σ bo x d1 d Q g1 (.inl r1) e (fX.same s1 q)
theorem aY(h:PV X EX a fa)(he:∀whole,isTrue a X.env whole=(do let v <-whole;standAt a.pos;holding [v] (truthy v)):=by exact Bz):PB X EX a (tB fa):=(Oq h he).le fun σ H Q bx=>dm bx fun G F F1 H1 bo d1 x s1 g1 r1 o1=>by cases d1 with|bl k=>obtain rfl:=Den.b r1;exact⟨k,rfl,o1 F1 H1 k s1 g1 rfl⟩|_=>exact o1.elim
theorem bV{op:CmpOp}{r:R2}{g:D->D->PM}(ho:gC X (compareOp op) r)(hg:lj (lc X EX) r g)(ha:PV X EX a fa)(hb:PV X EX b fb)(hm:behindInMarks op b=false):PB X EX (.Compare a [op] [b] pos) (tB (m2 g fa fb)):=(ph ho ha hb hm).le fun σ H Q bx=>lf bx fun G F ρ g0 o=>by refine gB hg (fun _ _ _ q=>q) (fun _ _ _ q=>q) σ H _ (aW g0 o (fun x r q=>q) fun F1 H1 bo d1 x s1 g1 r1 o1=>?_);cases d1 with|bl k=>obtain rfl:=Den.b r1;exact⟨k,rfl,o1 F1 H1 k s1 g1 rfl⟩|_=>exact o1.elim
variable{f1 f2:M Bool}{rest:W3}
def iX(X:Cx)(EX:XE)(e:Expr)(f:M Bool):Prop:=PW X e (lift (lc X EX) RB f)
theorem _root_.L2.PW.le(h:PW X e t)(k:∀σ H Q,t' σ H Q->t σ H Q):PW X e t':=fun w UW s σ H Q I q=>h w UW s σ H Q I (k _ _ _ q)
theorem iX.pb(h:iX X EX e f1):PB X EX e f1:=PW.pt h
theorem bW(h:PB X EX a f1):PB X EX (.UnaryOp .Not a pos) (d8 f1):=(Q2F h).le fun σ H Q bx=>dm bx fun G F F1 H1 bo d1 x s1 g1 r1 o1=>by cases r1;exact o1 F1 H1 _ s1 g1 rfl
theorem dR(h:PB X EX a f1):iX X EX (.BoolOp .And [a] pos) f1:=Q0J h
theorem cO(h:PB X EX a f1):iX X EX (.BoolOp .Or [a] pos) f1:=Ox h
theorem dD(h1:PB X EX a f1)(h2:iX X EX (.BoolOp .And (b::rest) pos) f2):iX X EX (.BoolOp .And (a::b::rest) pos) (gh f1 f2):=L2.PW.le (Ow h1 h2) fun σ H Q bx=>dm bx fun G F F1 H1 bo d1 x s1 g1 r1 o1=>by
 cases r1;rcases o1.ite with ⟨e,o2⟩|⟨e,o2⟩
 subst e;exact xI ⟨G,F1,bo,g1,o2.mono (fun _ _=>fX.same s1) fun _ _=>dq.same s1⟩;subst e;exact xH (o2 F1 H1 false s1 g1 rfl)
theorem cW(h1:PB X EX a f1)(h2:iX X EX (.BoolOp .Or (b::rest) pos) f2):iX X EX (.BoolOp .Or (a::b::rest) pos) (lh f1 f2):=L2.PW.le (SV h1 h2) fun σ H Q bx=>dm bx fun G F F1 H1 bo d1 x s1 g1 r1 o1=>by
 cases r1;rcases o1.ite with ⟨e,o2⟩|⟨e,o2⟩
 subst e;exact xI (o2 F1 H1 true s1 g1 rfl);subst e;exact xH ⟨G,F1,bo,g1,o2.mono (fun _ _=>fX.same s1) fun _ _=>dq.same s1⟩
theorem lg(hc:PB X EX c f1)(ha:PV X EX a fa)(hb:PV X EX b fb):PV X EX (.IfExp c a b pos) (zR f1 fa fb):=(Q2Z hc ha hb).le fun σ H Q bx=>dm bx fun G F F1 H1 bo d1 x s1 g1 r1 o1=>by
 cases r1;rcases o1.ite with ⟨e,o2⟩|⟨e,o2⟩
 subst e;exact xI ⟨G,F1,bo,g1,o2.mono (fun _ _=>fX.same s1) fun _ _=>dq.same s1⟩;subst e;exact xH ⟨G,F1,bo,g1,o2.mono (fun _ _=>fX.same s1) fun _ _=>dq.same s1⟩
theorem Ou(ha:PV X EX a fa):PV X EX (.UnaryOp .Not a pos) (MM (d8 (tB fa))):=(N9 ha).le fun σ H Q bx=>lf bx fun G F ρ g0 o=>by refine⟨G,F,ρ,g0,o.PN.PN.PN.mono (fun d1 bo o1 F1 H1 x s1 g1 r1=>?_) fun _ _ q=>q⟩;cases d1 with|bl k=>obtain rfl:=Den.b r1;exact⟨k,rfl,o1 F1 H1 _ s1 g1 (.bl _)⟩|_=>exact o1.elim
theorem gr{op}(h:PV X EX a fa):PV X EX (.BoolOp op [a] pos) fa:=Oa h
theorem hJ(ha:PV X EX a fa)(hb:PV X EX (.BoolOp .And (b::rest) pos) fb):PV X EX (.BoolOp .And (a::b::rest) pos) (gV fa fb):=(N4 ha hb).le fun σ H Q bx=>dm bx fun G F F1 H1 bo d1 x s1 g1 r1 o1=>by
 cases d1 with
 |bl k=>obtain rfl:=Den.b r1;refine⟨k,rfl,?_⟩;cases k with|true=>exact xI ⟨G,F1,bo,g1,Out.mono o1 (fun _ _=>fX.same s1) fun _ _=>dq.same s1⟩|false=>exact xH (o1 F1 H1 _ s1 g1 (.bl _))
 |_=>exact o1.elim
theorem E8(ha:PV X EX a fa)(hb:PV X EX (.BoolOp .Or (b::rest) pos) fb):PV X EX (.BoolOp .Or (a::b::rest) pos) (xN fa fb):=(SK ha hb).le fun σ H Q bx=>dm bx fun G F F1 H1 bo d1 x s1 g1 r1 o1=>by
 cases d1 with
 |bl k=>obtain rfl:=Den.b r1;refine⟨k,rfl,?_⟩;cases k with|true=>exact xI (o1 F1 H1 _ s1 g1 (.bl _))|false=>exact xH ⟨G,F1,bo,g1,Out.mono o1 (fun _ _=>fX.same s1) fun _ _=>dq.same s1⟩
 |_=>exact o1.elim
variable{es:W3}{fs:M (List D)}
theorem aw:As X EX [] (mL []):=fN.le fun σ H Q bx=>lf bx fun G F ρ g0 o=>o F H [] (aL.refl _) g0 .nil
theorem ai(ha:PV X EX a fa)(hr:As X EX es (mL fl))(hs:Ys X a es:=by rfl):As X EX (a::es) (mL (fa::fl)):=(cb ha hr hs).le fun σ H Q bx=>dm bx fun G F F1 H1 bo d1 x s1 g1 r1 o1=>aW g1 o1 (fun x r q=>q.same s1) fun F2 H2 mQ d2 y s2 g2 r2 o2=>o2 F2 H2 _ (s1.trans s2) g2 (.cons (r1.same s2) r2)
theorem Q2X(h:BB ds=some d):ds.length<=sizeLine/\d=.tup ds:=by unfold BB at h;split at h;cases h;exact⟨by rw[Nx];assumption,rfl⟩;cases h
theorem Hv(h:vO ds=some d):ds.length<=sizeLine/\d=.lst ds:=by unfold vO at h;split at h;cases h;exact⟨by rw[Nx];assumption,rfl⟩;cases h
theorem aF{fl:List (M D)}{x1}(h:As X EX es (mL fl)):PV X EX (.Tuple es x1 pos) (bf fl):=(ES h).le fun σ H Q bx=>lf bx fun G F ρ g0 o=>aW g0 o (fun x r q=>q) fun F1 H1 bo d1 xs s1 g1 r1 o1=>by obtain⟨d,e,q⟩:=o1.opt;obtain⟨hl,rfl⟩:=Q2X e;refine⟨by rw[aI.length r1];exact hl,fun p hp=>?_⟩;have sF:=bh (o:=.tup xs) (g1.sub.free hp);exact q _ _ _ (s1.trans sF) (g1.laid hp) (.tup (dB.of aJ) (aI.same sF r1))
theorem bc(h:As X EX es (mL fl)):PF X EX (.List es pos) (cA fl):=(N7 h).le fun σ H Q bx=>dm bx fun G F F1 H1 bo d1 xs s1 g1 r1 o1=>by obtain⟨d,e,q⟩:=o1.opt;obtain⟨hl,rfl⟩:=Hv e;refine⟨by rw[aI.length r1];exact hl,fun p hp=>?_⟩;exact q _ _ _ s1 (g1.made hp) ⟨p,rfl,g1.loose hp ⟨xs,aJ,r1⟩⟩
variable{x:Str}{p:Pos}{id T:String}{r:O6->Hp->VK->Prop}{g:RN->PM}
theorem kg(hc:dF X (.builtin id) r)(hg:TV (lc X EX) r g)(sN:Gl X x)(hm:X.mg x=none)(hv:bootBuiltins x=some (.builtin id))(ha:As X EX (e::es) (mL fl))(hn:x≠"__name__" := by decide)(jH:Yw x:=by decide)(he:Ys X e es:=by rfl) (iP:OR X pos es:=by rfl):PV X EX (.Call (.Name x p) (e::es) [] pos) (mF g fl):=
 (iT hc sN hm hv ha hn jH he iP).le fun σ H Q bx=>dm bx fun G F F1 H1 bo d1 xs s1 g1 r1 o1=>by obtain⟨d,e,q⟩:=o1.opt;exact hg G F1 H1 σ bo xs d1 d Q g1 r1 e (fX.same s1 q)
end
section
variable(L:Lc)
def cZ(G:Fx)(F:Hp):Xn->aR->Prop:=fun x bP=>∀F' H' bE c dx,aL F F'->L.Good G F' H' bE bP->XR L.K L.mg F' H' c dx x->L.EX bE c dx H'
def gM(G:Fx)(F:Hp)(E:Ends):Fl->aR->Prop:=fun k bP=>match k with|.nx=>∀F' H' bE,aL F F'->L.Good G F' H' bE bP->E.nx bE H'|.bk=>∀F' H' bE,aL F F'->L.Good G F' H' bE bP->E.bk bE H'|.ct=>∀F' H' bE,aL F F'->L.Good G F' H' bE bP->E.ct bE H'|.rt d=>∀F' H' bE v,aL F F'->L.Good G F' H' bE bP->Den L.K L.mg F' v d->E.rt v H'
def zO(f:M Fl):TS:=fun E σ H=>∃G F ρ,L.Good G F H σ ρ/\Out (f ρ) (gM L G F E) (cZ L G F)
def RS(js:UA)(g:D->M Unit):TG:=fun v σ H Q=>∃G F ρ d,L.Good G F H σ ρ/\Den L.K L.mg F v d/\Out (g d ρ) (fun _ bP=>∀F' H' bE,aL F F'->L.Good G F' H' bE bP->(∀j,j∉js->bE[j]?=σ[j]?)->Q bE H') (fun _ _=>False)
def FQ(G:Fx)(F:Hp)(J:It)(ds:RN):Prop:=∀σ i F' H' ρ,aL F F'->L.Good G F' H' σ ρ->(i<ds.length->J.go i H')/\(i=ds.length->J.stop i H')/\∀x FP,J.U1 i H' x FP->∃U8,aL F' U8/\L.Good G U8 FP σ ρ/\∀d,ds[i]?=some d->Den L.K L.mg U8 x d
def RI:Rl (List D) It:=fun G F _ _ _ J ds=>FQ L G F J ds
end
section
variable{L:Lc}
theorem xK{f:M Fl}{E:Ends}{σ:St}{H:Hp}{C:Prop}(h:zO L f E σ H)(k:∀G F ρ,L.Good G F H σ ρ->Out (f ρ) (gM L G F E) (cZ L G F)->C):C:=by obtain⟨G,F,ρ,g0,o⟩:=h;exact k G F ρ g0 o
end
def nW(X:Cx)(EX:XE)(st:Stmt)(f:M Fl):Prop:=PS X st (zO (lc X EX) f)
def mU(X:Cx)(EX:XE)(st:List Stmt)(f:M Fl):Prop:=wJ X st (zO (lc X EX) f)
def yE(X:Cx)(EX:XE)(tg:Expr)(js:UA)(g:D->M Unit):Prop:=PG X tg (RS (lc X EX) js g)
def uT(X:Cx)(EX:XE)(tg UD:Expr)(f:M (List D)):Prop:=PI X tg UD (lift (lc X EX) (RI (lc X EX)) f)
theorem _root_.L2.PG.le(h:PG X tg t)(k:∀v σ H Q,t' v σ H Q->t v σ H Q):PG X tg t':=fun UW s σ H v u Q I r q=>h UW s σ H v u Q I r (k _ _ _ _ q)
theorem _root_.L2.PI.le(h:PI X tg it t)(k:∀σ H Q,t' σ H Q->t σ H Q):PI X tg it t':=fun UW s σ H R I q=>h UW s σ H R I (k _ _ _ q)
section
variable{X:Cx}{EX:XE}{st:Stmt}{rest:List Stmt}{e a b c tg:Expr}{fe fa fb:M D}{f g:M Fl}{pos:Pos}
theorem cZ.x{L:Lc}{G:Fx}{F:Hp}{σ:St}{x:Xn}{r:aR}(h:cZ L G F x r):dq L G F σ x r:=fun F' H' c dx s g q=>h F' H' σ c dx s g q
theorem cZ.same{L:Lc}{G:Fx}{F F1:Hp}(e:aL F F1){x:Xn}{r:aR}(h:cZ L G F x r):cZ L G F1 x r:=fun F' H' bE c dx s g q=>h F' H' bE c dx (e.trans s) g q
theorem gM.same(e:aL F F1)(h:gM L G F E k r):gM L G F1 E k r:=by cases k with|nx=>exact fun F' H' bE s g=>h F' H' bE (e.trans s) g|bk=>exact fun F' H' bE s g=>h F' H' bE (e.trans s) g|ct=>exact fun F' H' bE s g=>h F' H' bE (e.trans s) g|rt d=>exact fun F' H' bE v s g=>h F' H' bE v (e.trans s) g
theorem ah:mU X EX [] aA:=Q0v.le fun E σ H bx=>xK bx fun G F ρ g0 o=>o F H σ (aL.refl _) g0
theorem ae(h1:nW X EX st f)(h2:mU X EX rest g):mU X EX (st::rest) (ak f g):=(E1 h1 h2).le fun E σ H bx=>xK bx fun G F ρ g0 o=>⟨G,F,ρ,g0,o.PN.mono (fun k r q=>by cases k with|nx=>exact fun F' H' bE s g'=>⟨G,F',r,g',Out.mono q (fun _ _=>gM.same s) fun _ _=>cZ.same s⟩|bk=>exact q|ct=>exact q|rt d=>exact q) fun _ _ q=>q⟩
theorem hU{i:Nat}(h:nW X EX st f):nW X EX st (uK i f):=h.le fun E σ H bx=>xK bx fun G F ρ g0 o=>by unfold uK VP.PN MK at o;cases q:ρ[i]? with|none=>simp only[q] at o;exact o.elim|some s=>simp only[q] at o;cases s with|no=>exact o.elim|io d=>exact o.elim|sh d=>exact⟨G,F,ρ,g0,o⟩|ow d=>obtain⟨F',s,g1⟩:=Good.fz g0 q;exact⟨G,F',_,g1,Out.mono o (fun _ _=>gM.same s) fun _ _=>cZ.same s⟩
theorem mM(he:PV X EX e fe)(hs:swapsWith e none pos.line X.env=pure false:=by rfl):nW X EX (.Expr e pos) (sZ fe):=(uC he hs).le fun E σ H bx=>xK bx fun G F ρ g0 o=>aW g0 o (fun x r q=>q.x) fun F1 H1 bo d1 x s1 g1 r1 o1=>o1 F1 H1 σ s1 g1
theorem au(he:PV X EX e fe):nW X EX (.Return (some e) pos) (aC fe):=(Ol he).le fun E σ H bx=>xK bx fun G F ρ g0 o=>aW g0 o (fun x r q=>q.x) fun F1 H1 bo d1 x s1 g1 r1 o1=>o1 F1 H1 σ x s1 g1 r1
theorem aB(hc:PB X EX c f1)(ha:mU X EX sa f)(hb:mU X EX sb g):nW X EX (.If c sa sb pos) (bD f1 f g):=(SS hc ha hb).le fun E σ H bx=>xK bx fun G F ρ g0 o=>aW g0 o (fun x r q=>q.x) fun F1 H1 bo d1 x s1 g1 r1 o1=>by
 cases r1;rcases o1.ite with ⟨e,o2⟩|⟨e,o2⟩
 subst e;exact xI ⟨G,F1,bo,g1,o2.mono (fun _ _=>gM.same s1) fun _ _=>cZ.same s1⟩;subst e;exact xH ⟨G,F1,bo,g1,o2.mono (fun _ _=>gM.same s1) fun _ _=>cZ.same s1⟩
theorem kj{L:Lc}{G:Fx}{F H:Hp}{σ:St}{ρ:aR}{i:Nat}{d:D}{v:V}{P:Unit->aR->Prop}{E:Xn->aR->Prop}(g0:L.Good G F H σ ρ)(r:Den L.K L.mg F v d)(o:Out (oM i d ρ) P E) : ∃bP,L.Good G F H (σ.set i (some v)) bP/\P () bP:=by unfold oM at o;by_cases hf:free ρ[i]?=true;rw[Ge hf] at o;exact⟨_,Good.store (s':=.sh d) g0 hf ⟨v,rfl,r⟩ (fun z=>by cases z),o⟩;rw[UE hf] at o;exact o.elim
theorem qG{L:Lc}{G:Fx}{F H:Hp}{σ:St}{ρ:aR}{i:Nat}{d:D}{l:Addr}{P:Unit->aR->Prop}{E:Xn->aR->Prop}(g0:L.Good G F H σ ρ)(r:Loose L.K L.mg G F H σ ρ l d)(o:Out (En i d ρ) P E) : ∃bP,L.Good G F H (σ.set i (some (.ref l))) bP/\P () bP:=by unfold En at o;by_cases hf:free ρ[i]?=true;rw[Ge hf] at o;exact⟨_,Good.store (s':=.ow d) g0 hf ⟨l,rfl,r.nF,r.n0,r.ob⟩ (fun _ j s hj ho _=>r.ns j s hj ho),o⟩;rw[UE hf] at o;exact o.elim
theorem Pe(i:Nat){x:Str}{Wu:Pos}(hN:X.N.Nodup)(hi:X.N[i]?=some x)(hx:Loc X.env.scope x)(he:PV X EX e fe)(hs:swapsWith e (some (.Name x Wu)) pos.line X.env=pure false:=by rfl)(hf:IL X x:=by exact NP):nW X EX (.Assign [.Name x Wu] e pos) (aN i fe):=
 (EZ hN hi hx he hs hf).le fun E σ H bx=>xK bx fun G F ρ g0 o=>aW g0 o (fun x r q=>q.x) fun F1 H1 bo d1 v s1 g1 r1 o1=>by obtain⟨mQ,g2,q⟩:=kj g1 r1 o1.PN;exact q F1 H1 _ s1 g2
theorem Pd(i:Nat){x:Str}{Wu:Pos}(hN:X.N.Nodup)(hi:X.N[i]?=some x)(hx:Loc X.env.scope x)(he:PF X EX e fe)(hs:swapsWith e (some (.Name x Wu)) pos.line X.env=pure false:=by rfl)(hf:IL X x:=by exact NP):nW X EX (.Assign [.Name x Wu] e pos) (dZ i fe):=
 (EZ hN hi hx he hs hf).le fun E σ H bx=>xK bx fun G F ρ g0 o=>aW g0 o (fun x r q=>q.x) fun F1 H1 bo d1 v s1 g1 r1 o1=>by obtain⟨l,rfl,r1⟩:=r1;obtain⟨mQ,g2,q⟩:=qG g1 r1 o1.PN;exact q F1 H1 _ s1 g2
theorem Q0F(i:Nat)(hN:X.N.Nodup)(hi:X.N[i]?=some x)(hx:Loc X.env.scope x)(hf:IL X x:=by exact NP):yE X EX (.Name x pos) [i] (aE i):=(Aa hN hi hx hf).le fun v σ H Q zz=>by obtain⟨G,F,ρ,d,g0,r,o⟩:=zz;obtain⟨bP,g1,q⟩:=kj g0 r o;exact q F H _ (aL.refl _) g1 fun j hj=>H0 (fun e=>hj (by simp[e]))
def Q2k(L:Lc)(is:UA):JJ:=fun vs σ H Q=>∃G F ρ ds,L.Good G F H σ ρ/\aI L.K L.mg F vs ds/\Out (rC is ds ρ) (fun _ bP=>∀F' H' bE,aL F F'->L.Good G F' H' bE bP->(∀j,j∉is->bE[j]?=σ[j]?)->Q bE H') (fun _ _=>False)
def wV(X:Cx)(EX:XE)(ts:W3)(is:UA):Prop:=FT X ts (Q2k (lc X EX) is)
theorem _root_.L2.FT.le(h:FT X ts t)(k:∀v σ H Q,t' v σ H Q->t v σ H Q):FT X ts t':=fun UW s σ H v u Q I r q=>h UW s σ H v u Q I r (k _ _ _ _ q)
theorem dS:wV X EX [] []:=L2.FT.le Q28 fun vs σ H Q zz=>by obtain⟨G,F,ρ,ds,g0,r,o⟩:=zz;cases r with|nil=>exact⟨rfl,o F H σ (aL.refl _) g0 fun _ _=>rfl⟩|cons h t=>exact o.elim
theorem FI(i:Nat){is:UA}{x:Str}{es:W3}(hN:X.N.Nodup)(hi:X.N[i]?=some x)(hx:Loc X.env.scope x)(h2:wV X EX es is)(hf:IL X x:=by exact NP) (hs:(assignEach (.Name x pos::es) X.env).map (·.2)=assign (.Name x pos) X.env::(assignEach es X.env).map (·.2):=by rfl):wV X EX (.Name x pos::es) (i::is):=
 L2.FT.le (ET (Aa hN hi hx hf) h2 hs) fun vs σ H Q zz=>by obtain⟨G,F,ρ,ds,g0,r,o⟩:=zz;cases r with|nil=>exact o.elim|cons h t=>refine⟨_,_,rfl,?_⟩;obtain⟨bP,g1,q⟩:=kj g0 h o.PN;exact⟨G,F,bP,_,g1,t,Out.mono q (fun _ r z F' H' bE s g hj=>z F' H' bE s g fun j hn=>by rw[hj j fun m=>hn (QC _ m),H0 (fun e=>hn (by simp[e]))]) fun _ _ z=>z⟩
theorem gu{es:W3}{k:Nat}{is:UA}(hc:X.calm=true)(h:wV X EX es is)(hn:(assignEach es X.env).length=is.length:=by rfl) (jI:(assignEach es X.env).findIdx? (·.1)=none:=by rfl):yE X EX (.Tuple es k pos) is (cJ is):=
 (Od (n:=is.length) hc h hn jI).le fun v σ H Q zz=>by
  obtain⟨G,F,ρ,d,g0,r,o⟩:=zz;have len:∀{is:UA}{ds:RN}{ρ:aR}{P:Unit->aR->Prop}{E:Xn->aR->Prop},Out (rC is ds ρ) P E->(∀x r,¬E x r)->ds.length=is.length:=by
   intro is;induction is with
   |nil=>intro ds ρ P E o _;cases ds with|nil=>rfl|cons=>exact o.elim
   |cons i is ih=>intro ds ρ P E o hE;cases ds with|nil=>exact o.elim|cons d ds=>have o':=o.PN;unfold oM at o';split at o';simp[ih o' hE];exact o'.elim
  cases d with|tup ds=>obtain⟨_,_,rfl,h1,h2⟩:=Den.t r;exact⟨_,_,rfl,dB.same h1 g0.sub,by rw[aI.length h2];exact len o fun _ _ z=>z,G,F,ρ,ds,g0,h2,o⟩|_=>exact o.elim
theorem eY:∀d r x r',aE i d r≠.exc x r':=fun d r x r' h=>by unfold aE oM at h;split at h<;>cases h
theorem Dv:∀{is:UA}{ds:RN}{r:aR}{x:Xn}{r':aR},rC is ds r≠.exc x r'|[],[],_,_,_,h=>by cases h|[],_::_,_,_,_,h=>by cases h|_::_,[],_,_,_,h=>by cases h|i::is,d::ds,r,x,r',h=>by simp only[rC,VP.PN,oM] at h;split at h;rename_i a r2 q;exact Dv h;rename_i x2 r2 q;split at q<;>cases q;cases h
theorem Dw:∀d r x r',cJ is d r≠.exc x r':=fun d r x r' h=>by unfold cJ at h;cases d with|tup ds=>exact Dv h|_=>cases h
theorem Pc(hp:PassesOwn (model X.prog X.w) X.A X.env X.xe)(hc:X.calm=true)(hi:uT X EX tg UD it)(hg:yE X EX tg js gf)(hb:mU X EX body f)(ug:∀d r x r',gf d r≠.exc x r') (hs:∀x,foldedSetIterable UD X.env x=pure x:=by exact Bz):nW X EX (.For tg UD body [] pos) (eG it gf f):=
 (Oj hp hc hi hg hb hs).le fun E σ H bx=>xK bx fun G F ρ g0 o=>aW g0 o (fun x r q=>q.x) fun F1 H1 bo ds J s1 g1 r1 o1=>by
  refine⟨fun i m σ H=>m=ds.length-i/\i<=ds.length/\∃F' bP,aL F1 F'/\(lc X EX).Good G F' H σ bP/\Out (loop gf f (ds.drop i) bP) (gM (lc X EX) G F E) (cZ (lc X EX) G F),⟨ds.length,G9,IA _,F1,bo,aL.refl _,g1,by simpa using o1⟩,?_⟩;rintro i m U6 H2 ⟨rfl,hi,F2,mQ,s2,g2,o2⟩;obtain⟨t1,t2,t3⟩:=r1 U6 i F2 H2 mQ s2 g2;by_cases lP:i<ds.length;refine .inr ⟨t1 lP,fun bE H'=>∃F' bP,aL F1 F'/\(lc X EX).Good G F' H' bE bP/\Out (loop gf f (ds.drop (i+1)) bP) (gM (lc X EX) G F E) (cZ (lc X EX) G F),fun bE H' q=>⟨ds.length-(i+1),Uk,rfl,lP,q⟩,fun x H3 y=>?_⟩;obtain⟨F3,s3,g3,r3⟩:=t3 x H3 y;have e:ds.drop i=ds[i]::ds.drop (i+1):=AH lP;rw[e] at o2;have o3:Out (gf ds[i] mQ) (fun _ bP=>Out (PN f (fun k=>match k with|.nx=>loop gf f (ds.drop (i+1))|.ct=>loop gf f (ds.drop (i+1))|.bk=>ret .nx|.rt e=>ret (.rt e)) bP) (gM (lc X EX) G F E) (cZ (lc X EX) G F)) (cZ (lc X EX) G F):=Out.PN o2;refine⟨G,F3,mQ,ds[i],g3,r3 _ (by simp[lP]),?_⟩;cases q:gf ds[i] mQ with|no=>rw[q] at o3;exact o3.elim|exc x r=>exact absurd q (ug _ _ _ _)|ok u YO=>rw[q] at o3;intro F4 H4 JE s4 g4 _;refine⟨G,F4,YO,g4,(Out.PN o3).mono (fun k r z=>?_) fun _ _ z=>z.same ((s1.trans s2).trans (s3.trans s4))⟩;cases k with|nx=>exact fun F' H' bE s g'=>⟨F',r,s2.trans (s3.trans (s4.trans s)),g',z⟩|ct=>exact fun F' H' bE s g'=>⟨F',r,s2.trans (s3.trans (s4.trans s)),g',z⟩|bk=>exact fun F' H' bE s g'=>z F' H' bE ((s1.trans s2).trans (s3.trans (s4.trans s))) g'|rt d=>exact fun F' H' bE v s g'=>z F' H' bE v ((s1.trans s2).trans (s3.trans (s4.trans s))) g'
  have e:i=ds.length:=Uk;subst e;refine .inl ⟨t2 rfl,?_⟩;rw[List.drop_length] at o2;exact o2 F2 H2 U6 (s1.trans s2) g2
end
section
variable(K:Frag)(mg:MG)
def jK(F H:Hp):WK->O6->RN->Prop|[],[],[]=>True|false::bs,v::vs,d::ds=>Den K mg F v d/\jK F H bs vs ds|true::bs,v::vs,d::ds=>(∃l,v=.ref l/\F l=none/\dU K mg F H l d)/\jK F H bs vs ds|_,_,_=>False
def wQ(F H:Hp):Xr->RN->Prop|[],[]=>True|l::ls,d::ds=>(F l=none/\dU K mg F H l d)/\wQ F H ls ds|_,_=>False
end
def dW:Nat->WK->O6->List (Nat×Addr)|i,true::bs,.ref l::vs=>(i,l)::dW (i+1) bs vs|i,_::bs,_::vs=>dW (i+1) bs vs|_,_,_=>[]
def qi(fl:WK)(vs:O6):Xr:=(dW 0 fl vs).map (·.2)
structure After(K:Frag)(mg:MG)(F H F' H':Hp)(ls:Xr)(cK:RN):Prop where
 sF:aL F F'
 sub:aL F' H'
 old:∀a o,H a=some o->a∉ls->H' a=some o
 new:∀a o,F' a=some o->F a=some o\/H a=none
 cK:wQ K mg F' H' ls cK
def oP(K:Frag)(mg:MG)(fl:WK)(f:Fn):Sp:=fun vs H Q E=>vs.length=fl.length/\∃F ds,aL F H/\jK K mg F H fl vs ds/\(qi fl vs).Nodup/\match f ds with|.ok d cK=>∀F' H' v,After K mg F H F' H' (qi fl vs) cK->Den K mg F' v d->Q v H'|.exc x cK=>∀F' H' c dx,After K mg F H F' H' (qi fl vs) cK->XR K mg F' H' c dx x->E c dx H'|.no=>False
section
variable{K:Frag}{mg:MG}{F H:Hp}
theorem uo:∀{i0:Nat}{fl:WK}{vs:O6}{i:Nat}{a:Addr},(i,a)∈dW i0 fl vs->i0<=i/\vs[i-i0]?=some (.ref a)/\fl[i-i0]?=some true:=by
 intro i0 fl;induction fl generalizing i0 with
 |nil=>intro vs i a h;cases vs<;>simp[dW] at h|cons b bs ih=>
  intro vs i a h;cases vs with
  |nil=>cases b<;>simp[dW] at h|cons v vs=>
   have step:(i,a)∈dW (i0+1) bs vs->i0<=i/\(v::vs)[i-i0]?=some (.ref a)/\(b::bs)[i-i0]?=some true:=fun h=>by obtain⟨h1,h2,h3⟩:=ih h;have e:i-i0=(i-(i0+1))+1:=T9;rw[e];exact⟨T9,by simpa using h2,by simpa using h3⟩
   cases b with
   |false=>cases v<;>exact step (by simpa[dW] using h)|true=>
    cases v with
    |ref l=>rcases List.mem_cons.mp (show (i,a)∈(i0,l)::dW (i0+1) bs vs from h) with e|h;cases e;simp;exact step h
    |_=>exact step (by simpa[dW] using h)
theorem qj:∀{i0:Nat}{fl:WK}{vs:O6}{k:Nat}{a:Addr},fl[k]?=some true->vs[k]?=some (.ref a)->(i0+k,a)∈dW i0 fl vs:=by intro i0 fl;induction fl generalizing i0 with|nil=>intro vs k a h;simp at h|cons b bs ih=>intro vs k a h1 h2;cases vs with|nil=>simp at h2|cons v vs=>cases k with|zero=>simp at h1 h2;subst h1 h2;simp[dW]|succ k=>have q:=ih (i0:=i0+1) (vs:=vs) (k:=k) (a:=a) (by simpa using h1) (by simpa using h2);have e:i0+(k+1)=i0+1+k:=T9;rw[e];cases b with|false=>cases v<;>simpa[dW] using q|true=>cases v<;>simp[dW,q]
theorem jK.get:∀{fl:WK}{vs:O6}{ds:RN},jK K mg F H fl vs ds->∀(k:Nat)(b:Bool)(v:V)(d:D),fl[k]?=some b->vs[k]?=some v->ds[k]?=some d->(b=false->Den K mg F v d)/\(b=true->∃l,v=.ref l/\F l=none/\dU K mg F H l d):=by
 intro fl;induction fl with
 |nil=>intro vs ds h k b v d h1;simp at h1|cons b bs ih=>
  intro vs ds h k b' v d h1 h2 h3;cases vs with
  |nil=>simp at h2|cons w vs=>cases ds with
   |nil=>simp at h3|cons e ds=>
    cases k with
    |zero=>simp at h1 h2 h3;subst h1 h2 h3;cases b with|false=>exact⟨fun _=>h.1,fun z=>(by cases z)⟩|true=>exact⟨fun z=>(by cases z),fun _=>h.1⟩
    |succ k=>
     have h':jK K mg F H bs vs ds:=by cases b<;>exact h.2
     exact ih h' k b' v d (by simpa using h1) (by simpa using h2) (by simpa using h3)
theorem jK.len:∀{fl:WK}{vs:O6}{ds:RN},jK K mg F H fl vs ds->vs.length=fl.length/\ds.length=fl.length:=by
 intro fl;induction fl with
 |nil=>intro vs ds h;cases vs<;>cases ds<;>first|exact⟨rfl,rfl⟩|exact(show False from h).elim
 |cons b bs ih=>
  intro vs ds h;cases vs with
  |nil=>cases b<;>cases ds<;>exact(show False from h).elim|cons w vs=>cases ds with
   |nil=>cases b<;>exact(show False from h).elim|cons e ds=>
    have h':jK K mg F H bs vs ds:=by cases b<;>exact h.2
    obtain⟨h1,h2⟩:=ih h';exact⟨by simp[h1],by simp[h2]⟩
theorem qY:∀{n:Nat}{fl:WK}{ds:RN},fl.length=ds.length->∀(i:Nat)(s:Sl),(de n fl ds)[i]?=some s->(i<fl.length/\∃b d,fl[i]?=some b/\ds[i]?=some d/\s=(if b then .io d else .sh d))\/(fl.length<=i/\s=.no):=by
 intro n fl;induction fl generalizing n with
 |nil=>intro ds hl i s h;cases ds with|nil=>refine .inr ⟨IA _,?_⟩;simp only[de] at h;rw[Hl] at h;split at h;exact(RD h).symm;cases h|cons=>simp at hl
 |cons b bs ih=>
  intro ds hl i s h;cases ds with
  |nil=>simp at hl|cons d ds=>
   simp only[de] at h;cases i with
   |zero=>simp at h;exact .inl ⟨G9,b,d,rfl,rfl,h.symm⟩|succ i=>
    rcases ih (by simpa using hl) i s (by simpa using h) with ⟨h1,b',d',h2,h3,h4⟩|⟨h1,h2⟩
    exact .inl ⟨by simp;lia,b',d',by simpa using h2,by simpa using h3,h4⟩;exact .inr ⟨by simp;lia,h2⟩
theorem yq:∀{n:Nat}{fl:WK}{ds:RN},fl.length=ds.length->fl.length<=n->(de n fl ds).length=n:=by
 intro n fl;induction fl generalizing n with
 |nil=>intro ds hl hn;cases ds with|nil=>simp[de]|cons=>simp at hl
 |cons b bs ih=>intro ds hl hn;cases ds with|nil=>simp at hl|cons d ds=>simp only[de,List.length_cons];rw[ih (by simpa using hl) (by simp at hn;lia)];simp at hn;lia
theorem tw{N:PU}{vs:O6}{i:Nat}{v:V}(h:vs[i]?=some v):(start N vs)[i]?=some (some v):=by have hi:i<vs.length:=(List.getElem?_eq_some_iff.mp h).1;unfold L2.start;rw[MS (by simpa using hi),GF,h];rfl
theorem xu(hs:aL F H)(ha:jK K mg F H fl vs ds)(hd:(qi fl vs).Nodup)(hn:fl.length<=N.length) : Good K mg ⟨H,F,dW 0 fl vs⟩ F H (start N vs) (de N.length fl ds):=by
 obtain⟨l1,l2⟩:=ha.len;have at_:∀{i:Nat}{a:Addr},(i,a)∈dW 0 fl vs->∃d,F a=none/\dU K mg F H a d:=fun {i a} h=>by
  obtain⟨_,h2,h3⟩:=uo h;rw[Nat.sub_zero] at h2 h3;have hi:i<ds.length:=by rw[l2,<-l1];exact(List.getElem?_eq_some_iff.mp h2).1
  obtain⟨l,e,q1,q2⟩:=(ha.get i true _ ds[i] h3 h2 (by simp[hi])).2 rfl;cases e;exact⟨_,q1,q2⟩
 have SG:∀{i:Nat}{s:Sl}{l:Addr},(de N.length fl ds)[i]?=some s->cq s=true->(start N vs)[i]?=some (some (V.ref l))->(i,l)∈dW 0 fl vs:=fun {i s l} h o e=>by
  rcases qY l2.symm i s h with ⟨h1,b,d,h2,h3,rfl⟩|⟨_,rfl⟩
  cases b with|false=>cases o|true=>have hv:i<vs.length:=T9;rw[tw (v:=vs[i]) (by simp[hv])] at e;have e':vs[i]=V.ref l:=RD (RD e);have:=qj (i0:=0) (vs:=vs) (k:=i) (a:=l) h2 (by rw[<-e'];simp[hv]);rwa [AE] at this
  cases o
 exact {
  sF:=aL.refl _
  sub:=hs
  old:=fun a o e _=>e
  new:=fun a o e=>.inl e
  len:=by
   rw[yq l2.symm hn];unfold L2.start;rw[xU,UR,List.length_replicate]
   lia
  slot:=fun i s h=>by
   rcases qY l2.symm i s h with ⟨h1,b,d,h2,h3,rfl⟩|⟨_,rfl⟩
   have hv:i<vs.length:=T9;have q:=ha.get i b vs[i] d h2 (by simp[hv]) h3;rw[tw (v:=vs[i]) (by simp[hv])];cases b with|false=>exact⟨_,rfl,q.1 rfl⟩|true=>obtain⟨l,e,q1,q2⟩:=q.2 rfl;refine⟨l,by rw[e];rfl,?_,q1,q2⟩;have:=qj (i0:=0) (vs:=vs) (k:=i) (a:=l) h2 (by rw[<-e];simp[hv]);rwa [AE] at this
   trivial
  apart:=fun i j l s t h1 h2 o1 o2 e1 e2=>by
   have m1:=SG h1 o1 e1;have m2:=SG h2 o2 e2;obtain⟨a,ha,ea⟩:=List.mem_iff_getElem.mp m1;obtain⟨b,hb,eb⟩:=List.mem_iff_getElem.mp m2;have QY:a=b:=by refine(rM hd (i:=a) (j:=b) (h₀:=by simpa[qi] using ha) (h₁:=by simpa[qi] using hb)).mp ?_;simp[qi,ea,eb]
   subst QY;rw[ea] at eb;cases eb;rfl
  oq:=fun i a h=>by obtain⟨d,q1,q2⟩:=at_ h;exact⟨q2.has,q1,q2.has⟩
  oJ:=fun i a b h1 h2=>by obtain⟨_,q1,_⟩:=uo h1;obtain⟨_,q2,_⟩:=uo h2;rw[q1] at q2;cases q2;rfl}
theorem Q12(g:Good K mg G F H σ ρ)(hG:G.io=dW 0 fl vs)(hv:vs.length=fl.length)(h:cj fl ρ=some cK)(hr:∀(k:Nat),fl[k]?=some true->∃a,vs[k]?=some (V.ref a)):wQ K mg F H (qi fl vs) cK:=by
 have gen:∀(LD:WK)(k:Nat)(wH:O6)(r:aR)(cK:RN),LD=fl.drop k->wH=vs.drop k->r=ρ.drop k->cj LD r=some cK->wQ K mg F H ((dW k LD wH).map (·.2)) cK:=by
  intro LD;induction LD with
  |nil=>
   intro k wH r cK h1 h2 h3 h4;have:wH=[]:=by
    rw[h2];apply List.drop_eq_nil_of_le;rw[hv];have:=congrArg List.length h1;simp at this
    lia
   subst this;simp[cj] at h4;subst h4;trivial
  |cons b bs ih=>
   intro k wH r cK h1 h2 h3 h4;have hk:k<fl.length:=by
    have:=congrArg List.length h1;simp at this
    lia
   have hb:fl[k]?=some b:=by have:=congrArg List.head? h1;simpa using this.symm
   have Pt:bs=fl.drop (k+1):=by have:=congrArg List.tail h1;simpa using this
   have Yn:k<vs.length:=T9;have Ma:wH=vs[k]::vs.drop (k+1):=by rw[h2];exact AH Yn
   subst Ma;cases r with
   |nil=>cases b<;>simp[cj] at h4|cons s r=>
    have hrk:k<ρ.length:=by
     have:=congrArg List.length h3;simp at this
     lia
    have Wc:ρ[k]?=some s:=by have:=congrArg List.head? h3;simpa using this.symm
    have Rk:r=ρ.drop (k+1):=by have:=congrArg List.tail h3;simpa using this
    cases b with
    |false=>have q:=ih (k+1) (vs.drop (k+1)) r cK Pt rfl Rk (by simpa[cj] using h4);cases e:vs[k]<;>simpa[dW,e] using q|true=>
     obtain⟨a,ha⟩:=hr k hb;have e:vs[k]=.ref a:=by
      have:vs[k]?=some vs[k]:=by simp[Yn]
      rw[this] at ha;exact RD ha
     rw[e];cases s with
     |io d=>
      simp only[cj] at h4;cases q:cj bs r with
      |none=>rw[q] at h4;cases h4|some RE=>
       rw[q] at h4;have h5:d::RE=cK:=RD h4;subst h5;obtain⟨l,z1,z2,z3,z4⟩:=g.slot k _ Wc;have m:(k,a)∈G.io:=by rw[hG];have:=qj (i0:=0) (vs:=vs) (k:=k) (a:=a) hb ha;rwa [AE] at this
       have:l=a:=g.oJ k l a z2 m;subst this;exact⟨⟨z3,z4⟩,ih (k+1) (vs.drop (k+1)) r RE Pt rfl Rk q⟩
     |_=>simp[cj] at h4
 exact gen fl 0 vs ρ cK G9 G9 G9 h
end
section
variable{P:Program}{w:World}{K:Frag}{mg:MG}{base:Heap}
theorem Fv(hp:N.take ps.length=ps)(hl:fl.length=ps.length)(h:oP K mg fl (defn N.length fl body) vs H Q E) : zO ⟨K,mg,fun _=>E⟩ body {nx:=fun _ H'=>Q .bC H',rt:=Q} (start N vs) H:=by
 obtain⟨hv,F,ds,hs,ha,hd,h⟩:=h;have ZI:fl.length<=N.length:=by
  have:=congrArg List.length hp;rw[M1] at this
  lia
 have g0:=xu (N:=N) hs ha hd ZI;have Zy:∀(k:Nat),fl[k]?=some true->∃a,vs[k]?=some (V.ref a):=fun k q=>by have hk:k<fl.length:=(List.getElem?_eq_some_iff.mp q).1;obtain⟨l1,l2⟩:=ha.len;have Ye:k<vs.length:=T9;have ZD:k<ds.length:=T9;obtain⟨l,e,_⟩:=(ha.get k true vs[k] ds[k] q (by simp[Ye]) (by simp[ZD])).2 rfl;exact⟨l,by rw[<-e];simp[Ye]⟩
 refine⟨_,F,_,g0,?_⟩;unfold defn at h;rw[Ge ha.len.2] at h;have Vl:∀{F' H':Hp}{bE:St}{bP:aR}{cK:RN},aL F F'->Good K mg ⟨H,F,dW 0 fl vs⟩ F' H' bE bP->cj fl bP=some cK->After K mg F H F' H' (qi fl vs) cK:=fun {F' H' bE bP cK} s g q=>⟨s,g.sub,fun a o e n=>g.old a o e fun i z=>n (List.mem_map.mpr ⟨_,z,rfl⟩),g.new,Q12 g rfl hv q Zy⟩;generalize body (de N.length fl ds)=R at h;cases R with
  |no=>exact h|exc z bP=>cases q:cj fl bP with|none=>simp only[q] at h|some cK=>simp only[q] at h;exact fun F' H' bE c dx s g r=>h F' H' c dx (Vl s g q) r
  |ok LD bP=>
   cases LD with
   |bk=>exact h.elim|ct=>exact h.elim|nx=>cases q:cj fl bP with|none=>simp only[q] at h|some cK=>simp only[q] at h;exact fun F' H' bE s g=>h F' H' .bC (Vl s g q) .bC
   |rt d=>cases q:cj fl bP with|none=>simp only[q] at h|some cK=>simp only[q] at h;exact fun F' H' bE v s g r=>h F' H' v (Vl s g q) r
theorem Ds{x Xp:Str}{st:Stmt}{f:Addr}{fd:FuncData}{N ps:PU}{k:Nat}{fl:WK}{body:M Fl}(Fu:Gr K x Xp st f fd)(S:eK N ps (aS st))(hl:fl.length=ps.length)
  (jV:∀(i9:Value)(A:Around)(outer:List Env)(s:Shared)(H:Hp)(E:XK),cG k (A.deeper (envOfC Xp (aS st) s.heap.objs.size f i9))->mU (rA pC P w K mg base N Xp (aS st) f i9 A outer s H E).Kt (fun _=>E) (bT st) body) :
  dG P w K mg base pC (k+1) f fd ps (oP K mg fl (defn N.length fl body)):=by
 refine Fu.ok S (fun vs H Q E h=>by rw[h.1,hl]) fun i9 A outer s H vs Q E hr h=>?_;exact⟨_,jV i9 A outer s H E hr,Fv S.pre hl h⟩
end
def Ff(d:D):Sl->Sl|.ow _=>.ow d|.io _=>.io d|s=>s
theorem qM(j:Nat)(d:D)(r:aR)(i:Nat):(cE j d r)[i]?=if i=j then(r[i]?).map (Ff d) else r[i]?:=by unfold cE;cases q:r[j]? with|none=>dsimp only;split;rename_i e;subst e;rw[q];rfl;rfl|some s=>have hj:j<r.length:=(List.getElem?_eq_some_iff.mp q).1;cases s with|no=>dsimp only;split;rename_i e;subst e;rw[q];rfl;rfl|sh e=>dsimp only;split;rename_i e;subst e;rw[q];rfl;rfl|ow e=>dsimp only;split;rename_i e;subst e;rw[xP hj,q];rfl;rename_i e;rw[H0 (W5 e)]|io e=>dsimp only;split;rename_i e;subst e;rw[xP hj,q];rfl;rename_i e;rw[H0 (W5 e)]
theorem E5(j:Nat)(d:D)(r:aR):(cE j d r).length=r.length:=by unfold cE;split<;>simp
theorem qL:∀(js:UA)(ds:RN)(r:aR),(putAll js ds r).length=r.length|[],_,_=>rfl|_::_,[],_=>rfl|j::js,d::ds,r=>by show (putAll js ds (cE j d r)).length=_;rw[qL,E5]
theorem jt:∀{js:UA}{ds:RN}{r:aR}{i:Nat},i∉js->(putAll js ds r)[i]?=r[i]?|[],_,_,_,_=>rfl|_::_,[],_,_,_=>rfl|j::js,d::ds,r,i,h=>by show (putAll js ds (cE j d r))[i]?=_;rw[jt (fun z=>h (QC _ z)),qM,UE (fun e=>h (by rw[e];exact QI))]
theorem sY:∀{js:UA}{ds:RN}{r:aR}{k i:Nat}{d:D},js.Nodup->js[k]?=some i->ds[k]?=some d->(putAll js ds r)[i]?=(r[i]?).map (Ff d)
|[],_,_,_,_,_,_,h,_=>by simp at h|_::_,[],_,_,_,_,_,_,h=>by simp at h|j::js,e::ds,r,0,i,d,nd,h1,h2=>by simp at h1 h2;subst h1 h2;show (putAll js ds (cE j e r))[j]?=_;rw[jt (List.nodup_cons.mp nd).1,qM,Ge rfl]|j::js,e::ds,r,k+1,i,d,nd,h1,h2=>by
 have X1:js[k]?=some i:=by simpa using h1
 have ne:i≠j:=fun z=>(List.nodup_cons.mp nd).1 (by rw[<-z];exact Np X1);show (putAll js ds (cE j e r))[i]?=_;rw[sY (List.nodup_cons.mp nd).2 X1 (by simpa using h2),qM,UE ne]
section
variable{K:Frag}{mg:MG}
theorem wQ.get:∀{F H:Hp}{ls:Xr}{ds:RN},wQ K mg F H ls ds->ls.length=ds.length/\∀(k:Nat)(l:Addr)(d:D),ls[k]?=some l->ds[k]?=some d->F l=none/\dU K mg F H l d|_,_,[],[],_=>⟨rfl,fun k l d h=>by simp at h⟩|_,_,[],_::_,h=>(show False from h).elim|_,_,_::_,[],h=>(show False from h).elim|F,H,l::ls,d::ds,h=>by obtain⟨h1,h2⟩:=wQ.get (F:=F) (H:=H) (ls:=ls) (ds:=ds) h.2;refine⟨by simp[h1],fun k l' d' e1 e2=>?_⟩;cases k with|zero=>simp at e1 e2;subst e1 e2;exact h.1|succ k=>exact h2 k l' d' (by simpa using e1) (by simpa using e2)
theorem Good.called(g:Good K mg G F H σ ρ)(hj:js.Nodup)(hl:js.length=ls.length)(hs:∀(k j:Nat)(l:Addr),js[k]?=some j->ls[k]?=some l->(∃s,ρ[j]?=some s/\cq s=true)/\σ[j]?=some (some (V.ref l))) (a:After K mg F H F' H' ls cK):Good K mg G F' H' σ (putAll js cK ρ):=by
 obtain⟨hi,ig⟩:=a.cK.get;have Mo:∀{l:Addr},l∈ls->∃(k j:Nat)(s:Sl),js[k]?=some j/\ls[k]?=some l/\ρ[j]?=some s/\cq s=true/\σ[j]?=some (some (V.ref l)):=fun {l} h=>by
  obtain⟨k,hk,e⟩:=List.mem_iff_getElem.mp h;have e':ls[k]?=some l:=by rw[<-e];simp[hk]
  have ui:k<js.length:=T9;obtain⟨⟨s,q1,q2⟩,q3⟩:=hs k js[k] l (by simp[ui]) e';exact⟨k,js[k],s,by simp[ui],e',q1,q2,q3⟩
 have YB:∀a' o,F' a'=some o->F a'=some o\/H a'=none:=a.new;have vK:∀{l:Addr},F l=none->(∃o,H l=some o)->F' l=none:=fun {l} h ⟨o,ho⟩=>by cases q:F' l with|none=>rfl|some u=>rcases a.new l u q with z|z;rw[h] at z;cases z;rw[ho] at z;cases z
 exact {
  sF:=g.sF.trans a.sF
  sub:=a.sub
  old:=fun b o e n=>by refine a.old b o (g.old b o e n) fun hb=>?_;obtain⟨k,j,s,q1,q2,q3,q4,q5⟩:=Mo hb;have t:=g.slot j s q3;cases s with|no=>cases q4|sh d=>cases q4|ow d=>obtain⟨l,z1,z2,z3,z4⟩:=t;rw[q5] at z1;cases z1;rw[e] at z3;cases z3|io d=>obtain⟨l,z1,z2,z3,z4⟩:=t;rw[q5] at z1;cases z1;exact n j z2
  new:=fun b o e=>by rcases a.new b o e with z|z;exact g.new b o z;exact .inr (g.Bh z)
  len:=by rw[qL];exact g.len
  slot:=fun i s h=>by
   by_cases Px:i∈js;obtain⟨k,hk,e⟩:=List.mem_iff_getElem.mp Px;have e':js[k]?=some i:=by rw[<-e];simp[hk]
   have Yd:k<ls.length:=T9;have Yc:k<cK.length:=T9;rw[sY hj e' (d:=cK[k]) (by simp[Yc])] at h;obtain⟨⟨s0,q1,q2⟩,q3⟩:=hs k i ls[k] e' (by simp[Yd]);rw[q1] at h;have h':Ff cK[k] s0=s:=RD h;subst h';obtain⟨y1,y2⟩:=ig k ls[k] cK[k] (by simp[Yd]) (by simp[Yc]);have t:=g.slot i s0 q1;cases s0 with|no=>cases q2|sh d=>cases q2|ow d=>obtain⟨l,z1,z2,z3,z4⟩:=t;rw[q3] at z1;cases z1;rw[q3];exact⟨ls[k],rfl,y1,z3,y2⟩|io d=>obtain⟨l,z1,z2,z3,z4⟩:=t;rw[q3] at z1;cases z1;rw[q3];exact⟨ls[k],rfl,z2,y1,y2⟩
   rw[jt Px] at h;refine(g.slot i s h).same a.sF (fun l _ _ f t=>vK f t) fun l o hv ow e=>a.old l o e fun hb=>?_;obtain⟨k,j,s',q1,q2,q3,q4,q5⟩:=Mo hb;have:i=j:=g.apart i j l s s' h q3 ow q4 (join_some hv) q5;subst this;exact Px (Np q1)
  apart:=fun i j l s t h1 h2 o1 o2 e1 e2=>by
   have f:∀{i:Nat}{s:Sl},(putAll js cK ρ)[i]?=some s->cq s=true->∃s',ρ[i]?=some s'/\cq s'=true:=fun {i s} h o=>by
    by_cases Px:i∈js;obtain⟨k,hk,e⟩:=List.mem_iff_getElem.mp Px;have e':js[k]?=some i:=by rw[<-e];simp[hk]
    obtain⟨q1,_⟩:=hs k i (ls[k]' T9) e' (by simp[show k<ls.length by lia]);exact q1;rw[jt Px] at h;exact⟨s,h,o⟩
   obtain⟨s',a1,a2⟩:=f h1 o1;obtain⟨t',b1,b2⟩:=f h2 o2;exact g.apart i j l s' t' a1 b1 a2 b2 e1 e2
  oq:=fun i b h=>by
   obtain⟨⟨o,q1⟩,q2,q3⟩:=g.oq i b h;refine⟨?_,vK q2 ⟨o,q1⟩,q3⟩;by_cases hb:b∈ls;obtain⟨k,j,s,z1,z2,_⟩:=Mo hb;have hk:k<cK.length:=by
    have:=(List.getElem?_eq_some_iff.mp z2).1
    lia
   exact(ig k b cK[k] z2 (by simp[hk])).2.has;exact⟨o,a.old b o q1 hb⟩
  oJ:=g.oJ}
end
def JF(L:Lc)(F:Hp)(σ:St):V->AV->Prop|v,.val d=>Den L.K L.mg F v d|v,.io j=>σ[j]?=some (some v)
inductive mS(L:Lc)(F:Hp)(σ:St):O6->List AV->Prop where
 |nil:mS L F σ [] []|cons {v:V} {a:AV} {vs:O6} {as:List AV} (h:JF L F σ v a) (t:mS L F σ vs as):mS L F σ (v::vs) (a::as)
def RA(L:Lc):Rl (List AV) (List V):=fun _ F _ σ _ vs as=>mS L F σ vs as
theorem JF.same(e:aL F F')(h:JF L F σ v a):JF L F' σ v a:=by cases a with|val d=>exact Den.same e h|io j=>exact h
def yC(X:Cx)(EX:XE)(es:W3)(as:List VP.Arg):Prop:=PA X es (lift (lc X EX) (RA (lc X EX)) (bR as))
section
variable{X:Cx}{EX:XE}{e a:Expr}{es:W3}{as:List VP.Arg}{fa:M D}{pos:Pos}
theorem ao:yC X EX [] []:=fN.le fun σ H Q bx=>lf bx fun G F ρ g0 o=>o F H [] (aL.refl _) g0 .nil
theorem ag(ha:PV X EX a fa)(hr:yC X EX es as)(hs:Ys X a es:=by rfl):yC X EX (a::es) (.val fa::as):=(cb ha hr hs).le fun σ H Q bx=>dm bx fun G F F1 H1 bo d1 x s1 g1 r1 o1=>aW g1 o1 (fun x r q=>q.same s1) fun F2 H2 mQ d2 y s2 g2 r2 o2=>o2 F2 H2 _ (s1.trans s2) g2 (.cons (JF.same s2 (a:=.val d1) r1) r2)
theorem aX(j:Nat){x:Str}(hr:yC X EX es as)(hN:X.N[j]?=some x:=by rfl)(hv:uZ X.env.scope x:=by exact Oi)(hd:Yw x:=by decide)(jC:Xj x:=by decide) (hs:starEach (.Name x pos::es) X.env=(false,eval (.Name x pos) X.env)::starEach es X.env:=by rfl):yC X EX (.Name x pos::es) (.io j::as):=
 (cb (fO hN hv hd jC) hr hs).le fun σ H Q bx=>lf bx fun G F ρ g0 o=>by
  have o':Out ((if (own ρ[j]?).isSome then PN (bR as) (fun vs=>ret (.io j::vs)) ρ else .no)) (fX (lc X EX) (RA (lc X EX)) G F σ Q) (dq (lc X EX) G F σ):=o;cases q:ρ[j]? with
  |none=>rw[q] at o';exact o'.elim|some s=>
   rw[q] at o';have hv:∃v,σ[j]?=some (some v):=by have t:=g0.slot j s q;cases s with|no=>exact o'.elim|sh d=>exact o'.elim|ow d=>obtain⟨l,z,_⟩:=t;exact⟨_,join_some z⟩|io d=>obtain⟨l,z,_⟩:=t;exact⟨_,join_some z⟩
   obtain⟨v,hv⟩:=hv;have o2:Out (PN (bR as) (fun vs=>ret (.io j::vs)) ρ) (fX (lc X EX) (RA (lc X EX)) G F σ Q) (dq (lc X EX) G F σ):=by cases s with|no=>exact o'.elim|sh d=>exact o'.elim|ow d=>exact o'|io d=>exact o'
   refine⟨v,hv,aW g0 o2 (fun x r q=>q) fun F1 H1 bo d1 x s1 g1 r1 o1=>o1 F1 H1 _ s1 g1 (.cons (show JF (lc X EX) F1 σ v (.io j) from hv) r1)⟩
theorem La{L:Lc}{G:Fx}{F H:Hp}{σ:St}{ρ:aR}(g:L.Good G F H σ ρ):∀{vs:O6}{as:List AV}{ds:RN}{fl:WK},mS L F σ vs as->rj as ρ=some ds->as.map (fun a=>match a with|.val _=>false|.io _=>true)=fl->jK L.K L.mg F H fl vs ds/\∀i0:Nat,(gb as).length=((dW i0 fl vs).map (·.2)).length/\∀(k j:Nat)(l:Addr),(gb as)[k]?=some j->((dW i0 fl vs).map (·.2))[k]?=some l->(∃s,ρ[j]?=some s/\cq s=true)/\σ[j]?=some (some (V.ref l)):=by
 intro vs as;induction as generalizing vs with
 |nil=>intro ds fl h1 h2 h3;cases h1;simp[rj] at h2;subst h2 h3;exact⟨trivial,fun i0=>⟨by simp[gb,dW],fun k j l e=>by simp[gb] at e⟩⟩|cons a as ih=>
  intro ds fl h1 h2 h3;cases h1 with
  |cons hv ht=>
   rename_i v vs;subst h3;cases a with
   |val d=>
    simp only[rj] at h2;cases q:rj as ρ with
    |none=>rw[q] at h2;cases h2|some BJ=>
     rw[q] at h2;have VD:d::BJ=ds:=RD h2;subst VD;obtain⟨k1,k2⟩:=ih ht q rfl;refine⟨⟨hv,k1⟩,fun i0=>?_⟩;have e:dW i0 (List.map (fun a=>match a with|.val _=>false|.io _=>true) (.val d::as)) (v::vs)=dW (i0+1) (List.map (fun a=>match a with|.val _=>false|.io _=>true) as) vs:=by cases v<;>rfl
     rw[e];exact k2 (i0+1)
   |io j=>
    simp only[rj] at h2;cases q0:own ρ[j]? with
    |none=>rw[q0] at h2;cases h2|some d=>
     rw[q0] at h2;simp only at h2;cases q:rj as ρ with
     |none=>rw[q] at h2;cases h2|some BJ=>
      rw[q] at h2;have VD:d::BJ=ds:=RD h2;subst VD;obtain⟨k1,k2⟩:=ih ht q rfl;have AU:σ[j]?=some (some v):=hv;have hl:∃l s,v=.ref l/\ρ[j]?=some s/\cq s=true/\F l=none/\dU L.K L.mg F H l d:=by cases q1:ρ[j]? with|none=>rw[q1] at q0;cases q0|some s=>rw[q1] at q0;have t:=g.slot j s q1;cases s with|no=>cases q0|sh e=>cases q0|ow e=>have WV:e=d:=RD q0;subst WV;obtain⟨l,z1,z2,z3,z4⟩:=t;rw[AU] at z1;have Xy:v=V.ref l:=RD z1;exact⟨l,_,Xy,rfl,rfl,z2,z4⟩|io e=>have WV:e=d:=RD q0;subst WV;obtain⟨l,z1,z2,z3,z4⟩:=t;rw[AU] at z1;have Xy:v=V.ref l:=RD z1;exact⟨l,_,Xy,rfl,rfl,z3,z4⟩
      obtain⟨l,s,rfl,q1,q2,q3,q4⟩:=hl;refine⟨⟨⟨l,rfl,q3,q4⟩,k1⟩,fun i0=>?_⟩;obtain⟨m1,m2⟩:=k2 (i0+1);refine⟨by simpa[gb,dW] using m1,fun k j' l' e1 e2=>?_⟩;cases k with|zero=>simp[gb,dW] at e1 e2;subst e1 e2;exact⟨⟨s,q1,q2⟩,AU⟩|succ k=>exact m2 k j' l' (by simpa[gb] using e1) (by simpa[dW] using e2)
variable{CX:uX}{k:Nat}{fA:Addr}{fd:FuncData}{ps:PU}{E:XK}{x:Str}{p:Pos}{fl:WK}{fs:Fn}
theorem Aw{L:Lc}{G:Fx}{F H:Hp}{σ:St}{ρ:aR}(g:L.Good G F H σ ρ){js:UA}{ls:Xr}(hj:js.Nodup)(hl:js.length=ls.length)(hs:∀(k j:Nat)(l:Addr),js[k]?=some j->ls[k]?=some l->(∃s,ρ[j]?=some s/\cq s=true)/\σ[j]?=some (some (V.ref l))):ls.Nodup:=by
 rw[List.nodup_iff_pairwise_ne,List.pairwise_iff_getElem];intro i j hi PD hij e;have Py:i<js.length:=T9;have Zz:j<js.length:=T9;obtain⟨⟨s,a1,a2⟩,a3⟩:=hs i js[i] ls[i] (by simp[Py]) (by simp[hi]);obtain⟨⟨t,b1,b2⟩,b3⟩:=hs j js[j] ls[j] (by simp[Zz]) (by simp[PD]);rw[e] at a3;have:=g.apart js[i] js[j] ls[j] s t a1 b1 a2 b2 a3 b3;have:i=j:=(rM hj).mp this
 lia
theorem tK{L:Lc}{G:Fx}{F H:Hp}{σ:St}{ρ:aR}{vs:O6}{as:List AV}{Q:VK}{P:D->aR->Prop}{Ex:Xn->aR->Prop}(g:L.Good G F H σ ρ)(r:mS L F σ vs as)
  (vF:as.map (fun a=>match a with|.val _=>false|.io _=>true)=fl) (o:Out (oK fs as ρ) P Ex) (hE:∀x r,Ex x r->dq L G F σ x r)
  (hP:∀F' H' bP d v,aL F F'->L.Good G F' H' σ bP->Den L.K L.mg F' v d->P d bP->Q v H'):oP L.K L.mg fl fs vs H Q (L.EX σ):=by
 unfold oK at o;cases q:rj as ρ with
 |none=>rw[q] at o;exact o.elim|some ds=>
  rw[q] at o;dsimp only at o;by_cases nd:(gb as).Nodup;rw[Ge nd] at o;obtain⟨k1,k2⟩:=La g r q vF;obtain⟨k3,k4⟩:=k2 0;refine⟨by rw[k1.len.1],F,ds,g.sub,k1,Aw g nd k3 k4,?_⟩;cases q2:fs ds with|no=>rw[q2] at o;exact o.elim|ok d cK=>rw[q2] at o;exact fun F' H' v a rd=>hP F' H' _ d v a.sF (Good.called g nd k3 k4 a) rd o|exc xx cK=>rw[q2] at o;exact fun F' H' c dx a rx=>hE _ _ o F' H' c dx a.sF (Good.called g nd k3 k4 a) rx
  rw[UE nd] at o;exact o.elim
def fW(CX:uX)(X:Cx)(EX:XE):Prop:=∀(UW:P4)(σ:St)(H:Hp)(s:Shared)(e:Value)(s':Shared),Inv X UW σ H s->CX X.stack H s (EX σ) e s'->X.xe e s'
theorem pq{UW:P4}{σ:St}{H:Hp}{s:Shared}{Q:VK}{us:RU}{vs:O6}{sp:Sp}(F:dG X.prog X.w X.K X.mg X.base CX k fA fd ps sp)(hr:cG k X.A)(hb:Binds X.K fd ps [])(hx:fW CX X EX)(I:Inv X UW σ H s) (r:Vals vs us) (h:sp vs H Q (EX σ)):wpAny (model X.prog X.w) X.A (call (.ref fA) us) (EP X UW σ Q) X.xe s:=by
 have hl:us.length=ps.length:=by rw[<-r.length];exact F.len _ _ _ _ h
 have QZ:=hb s us I.mP (by simpa using hl);rw[OX] at QZ;refine wpAny_call (xg (F.run X.A X.stack s H ⟨us,[]⟩ us vs Q (EX σ) hr I.QG QZ r h) fun r s' hq=>?_);cases r with|error e=>exact hx UW σ H s e s' I hq|ok fl=>cases fl with|ret u=>exact I.after hq|next=>exact False.elim hq|brk=>exact False.elim hq|cont=>exact False.elim hq
theorem eB:∀{as:List VP.Arg}{ρ bP:aR}{vs:List AV},bR as ρ=.ok vs bP->vs.map (fun a=>match a with|.val _=>false|.io _=>true)=as.map VP.Arg.isIo
|[],ρ,bP,vs,h=>by cases h;rfl|.val f::as,ρ,bP,vs,h=>by
 simp only[bR,VP.PN] at h;cases q:f ρ with
 |ok d r=>simp only[q] at h;cases q2:bR as r with|ok ws r2=>simp only[q2,VP.ret] at h;cases h;simp[VP.Arg.isIo,eB q2]|exc x r2=>simp only[q2] at h;cases h|no=>simp only[q2] at h;cases h
 |exc x r2=>simp only[q] at h;cases h|no=>simp only[q] at h;cases h
|.io j::as,ρ,bP,vs,h=>by
 simp only[bR,VP.PN] at h;split at h;cases q2:bR as ρ with|ok ws r2=>simp only[q2,VP.ret] at h;cases h;simp[VP.Arg.isIo,eB q2]|exc x r2=>simp only[q2] at h;cases h|no=>simp only[q2] at h;cases h
 cases h
theorem IE(F:dG X.prog X.w X.K X.mg X.base CX k fA fd ps (oP X.K X.mg fl fs))(hr:cG k X.A)(hg:Gl X x)(hm:X.mg x=some (.ref fA))(hk:W.keepIn X.K (.ref fA)=true)(hb:Binds X.K fd ps [])(hx:fW CX X EX)
  (ha:yC X EX (e::es) as) (vF:as.map VP.Arg.isIo=fl:=by rfl) (jH:Yw x:=by decide) (he:Ys X e es:=by rfl) (iP:OR X pos es:=by rfl) :
  PV X EX (.Call (.Name x p) (e::es) [] pos) (ax fs as):=by
 intro UW s σ H Q I h;obtain⟨G,F0,ρ,g0,o⟩:=h;refine K8 (mh I hg hm ?_ jH);refine rz (h₀:=X.base) I.ok.mod.Mz hk (bS (ha pos UW s σ H (fun vs H1=>oP X.K X.mg fl fs vs H1 Q (EX σ)) I ⟨G,F0,ρ,g0,?_⟩) fun us s1 ⟨vs,H1,I1,r,q⟩=>⟨I1.mP,?_⟩) he iP;unfold ax VP.PN at o;cases q:bR as ρ with|no=>rw[q] at o;exact o.elim|exc xx bo=>rw[q] at o;exact o|ok av bo=>rw[q] at o;intro F1 H1 vs s1 g1 r1;exact tK (L:=lc X EX) g1 r1 (by rw[eB q];exact vF) o (fun x r q=>q.same s1) fun F' H' bP d v s' g' rd P=>P F' H' v (s1.trans s') g' rd
 exact pq F hr hb hx I1 r q
theorem qH:fW pC X EX:=fun _ _ _ _ _ _ _ h=>h.elim
end
theorem mT:eL=sizeLine:=sizeLine_eq.symm
section
variable{X:Cx}{EX:XE}{L:Lc}
theorem Dy{C:Int->Int->Prop}{gv:Int->Int->V}{gd:Int->Int->D}{g:D->D->PM}(hd:∀F i j,Den L.K L.mg F (gv i j) (gd i j))(hg:∀x y d,g x y=some d->∃i j,x=.int i/\y=.int j/\C i j/\d=gd i j):lj L (rI C gv) g:=fun G F H σ ρ x y dx dy d Q g0 rx ry e k=>by obtain⟨i,j,rfl,rfl,hc,rfl⟩:=hg dx dy d e;obtain rfl:=Den.i rx;obtain rfl:=Den.i ry;exact⟨i,j,rfl,rfl,hc,k F H _ (aL.refl _) g0 (hd F i j)⟩
def YD(f:Int->Int->PM):D->D->Option D|.int i,.int j=>f i j|_,_=>none
theorem jo(h:YD f x y=some d):∃i j,x=.int i/\y=.int j/\f i j=some d:=by
 cases x with
 |int i=>cases y with|int j=>exact⟨i,j,rfl,rfl,h⟩|_=>cases h
 |_=>cases h
theorem ye{C:Int->Int->Prop}[∀i j,Decidable (C i j)]{g:Int->Int->D}{x y d:D}(h:YD (fun i j=>if C i j then some (g i j) else none) x y=some d):∃i j,x=.int i/\y=.int j/\C i j/\d=g i j:=by obtain⟨i,j,e1,e2,e⟩:=jo h;by_cases c:C i j;rw[Ge c] at e;exact⟨i,j,e1,e2,c,(RD e).symm⟩;rw[UE c] at e;cases e
theorem nk{gv:Int->Int->V}{gd:Int->Int->D}{g:D->D->PM}(hd:∀F i j,Den L.K L.mg F (gv i j) (gd i j))(hg:∀x y d,g x y=some d->∃i j,x=.int i/\y=.int j/\d=gd i j):lj L (wc gv) g:=fun G F H σ ρ x y dx dy d Q g0 rx ry e k=>by obtain⟨i,j,rfl,rfl,rfl⟩:=hg dx dy d e;obtain rfl:=Den.i rx;obtain rfl:=Den.i ry;exact⟨i,j,rfl,rfl,k F H _ (aL.refl _) g0 (hd F i j)⟩
theorem Q0B:lj L (wc fun i j=>.int (i+j)) Q1Q:=nk (gd:=fun i j=>.int (i+j)) (fun F i j=>.int _) fun x y d h=>let ⟨i,j,e1,e2,e⟩:=jo (f:=fun i j=>some (.int (i+j))) h;⟨i,j,e1,e2,(RD e).symm⟩
theorem eg:lj L (wc fun i j=>.int (i-j)) gJ:=nk (gd:=fun i j=>.int (i-j)) (fun F i j=>.int _) fun x y d h=>let ⟨i,j,e1,e2,e⟩:=jo (f:=fun i j=>some (.int (i-j))) h;⟨i,j,e1,e2,(RD e).symm⟩
theorem k7:lj L (rI wO fun i j=>.int (i*j)) nH:=Dy (C:=wO) (gd:=fun i j=>.int (i*j)) (fun F i j=>.int _) fun x y d h=>ye (C:=fun i j=>(-(2 ^ 64)<i/\i<2 ^ 64)\/(-(2 ^ 64)<j/\j<2 ^ 64)) (g:=fun i j=>.int (i*j)) h
theorem Dx:lj L (rI KR fun i j=>.int (i / j)) zD:=Dy (C:=KR) (gd:=fun i j=>.int (i / j)) (fun F i j=>.int _) fun x y d h=>ye (C:=fun _ j=>0<j/\j<1073741824) (g:=fun i j=>.int (i / j)) h
theorem qd:lj L (rI (fun _ j=>0<j) fun i j=>.int (i % j)) oO:=Dy (C:=fun _ j=>0<j) (gd:=fun i j=>.int (i % j)) (fun F i j=>.int _) fun x y d h=>ye (C:=fun _ j=>0<j) (g:=fun i j=>.int (i % j)) h
theorem qc:lj L (wc fun i j=>.bl (decide (i<j))) ltI:=nk (gd:=fun i j=>.bl (decide (i<j))) (fun F i j=>.bl _) fun x y d h=>let ⟨i,j,e1,e2,e⟩:=jo (f:=fun i j=>some (.bl (decide (i<j)))) h;⟨i,j,e1,e2,(RD e).symm⟩
theorem qb:lj L (wc fun i j=>.bl (decide (i<=j))) o6:=nk (gd:=fun i j=>.bl (decide (i<=j))) (fun F i j=>.bl _) fun x y d h=>let ⟨i,j,e1,e2,e⟩:=jo (f:=fun i j=>some (.bl (decide (i<=j)))) h;⟨i,j,e1,e2,(RD e).symm⟩
theorem tZ:lj L (wc fun i j=>.bl (decide (j<i))) xy:=nk (gd:=fun i j=>.bl (decide (j<i))) (fun F i j=>.bl _) fun x y d h=>let ⟨i,j,e1,e2,e⟩:=jo (f:=fun i j=>some (.bl (decide (j<i)))) h;⟨i,j,e1,e2,(RD e).symm⟩
theorem VC:lj L (wc fun i j=>.bl (decide (j<=i))) Um:=nk (gd:=fun i j=>.bl (decide (j<=i))) (fun F i j=>.bl _) fun x y d h=>let ⟨i,j,e1,e2,e⟩:=jo (f:=fun i j=>some (.bl (decide (j<=i)))) h;⟨i,j,e1,e2,(RD e).symm⟩
theorem isNon_den{K:Frag}{mg:MG}{F:Hp}{x:V}{dx:D}(rx:Den K mg F x dx):isNon dx=decide (x=.bC):=by cases rx<;>simp[isNon]
theorem vC:lj L (fun x y H Q=>y=.bC/\Q (.bl (decide (x=.bC))) H) isND:=fun G F H σ ρ x y dx dy d Q g0 rx ry e k=>by unfold isND at e;split at e;rename_i hn;cases e;rw[isNon_den ry] at hn;refine⟨A0 hn,?_⟩;rw[<-isNon_den rx];exact k F H _ (aL.refl _) g0 (.bl _);cases e
theorem ju:XD L (rU fun i=>.int (-i)) rH:=fun G F H σ ρ x dx d Q g0 rx e k=>by cases dx<;>simp[rH] at e;subst e;rcases rx with rx|⟨l,_,z⟩;obtain rfl:=Den.i rx;exact⟨_,rfl,k F H _ (aL.refl _) g0 (.int _)⟩;exact z.elim
def Ag(K:Frag):R2:=fun x y H Q=>∃a b xs ys,x=.ref a/\y=.ref b/\dB K H a xs/\dB K H b ys/\xs.length+ys.length<=sizeLine/\(ys=[]->Q (.ref a) H)/\(xs=[]->Q (.ref b) H)/\(∀p,H p=none->Q (.ref p) (upd H p (.tup (xs++ys))))
theorem Q0r{prog:Program}{w:World}{A:Around}{E:UI}{s:Shared}{t b:Addr}{ws:RU}{Q:UI}(ht:IsTup s.heap t (#[]:Array Value))(hb:IsTup s.heap b ws.toArray)(h1:Q (.ref b) s):wpAny (model prog w) A (binaryOp .Add (.ref t) (.ref b)) Q E s:=by obtain⟨⟨cls,dd,data,sl⟩,ho,hc,n,hd⟩:=id ht;obtain⟨⟨Vq,Uc,data2,PY⟩,L4,wK,n2,hd2⟩:=id hb;simp only at hc hd wK hd2;subst hc hd wK hd2;exact concat_meets ⟨_,ho,rfl⟩ ⟨_,L4,rfl⟩ noFill_tuple_add seq_tuple_add D8 DW (NC _ _) (tuple_addW0 t b #[] ws.toArray n n2 dd Uc sl PY rfl) ⟨ho,L4,h1⟩
theorem HV:gC X (binaryOp .Add) (Ag X.K):=by intro UW s σ H x y v u Q I rx ry h;obtain⟨a,b,xs,ys,rfl,rfl,ha,hb,hz,q1,q2,q3⟩:=h;by_cases hx:xs=[];cases rx;cases ry;obtain⟨aD,r1,p1,_⟩:=I.tuple ha;obtain⟨jJ,r2,p2,_⟩:=I.tuple hb;have:aD=[]:=r1.mB.mpr hx;subst this;exact Q0r p1 p2 ⟨.ref b,H,I,rfl,q2 hx⟩;exact Q2Q UW s σ H _ _ v u Q I rx ry ⟨a,b,xs,ys,rfl,rfl,ha,hb,hx,hz,q1,fun _=>q3⟩
theorem LI:lj L (Ag L.K) Qn:=fun G F H σ ρ x y dx dy d Q g0 rx ry e k=>by
 cases dx with
 |tup xs=>cases dy with|tup ys=>simp only[Qn] at e;split at e;rename_i hl;cases e;obtain⟨a,vs,rfl,h1,r1⟩:=Den.t rx;obtain⟨b,ws,rfl,h2,r2⟩:=Den.t ry;refine⟨a,b,vs,ws,rfl,rfl,dB.same h1 g0.sub,dB.same h2 g0.sub,?_,fun z=>?_,fun z=>?_,fun p hp=>?_⟩;rw[r1.length,r2.length,<-mT];exact hl;subst z;cases r2;rw[OX] at k;exact k F H _ (aL.refl _) g0 (.tup h1 r1);subst z;cases r1;exact k F H _ (aL.refl _) g0 (.tup h2 r2);have sF:=bh (o:=.tup (vs++ws)) (g0.sub.free hp);exact k _ _ _ sF (g0.laid hp) (.tup (dB.of aJ) (aI.append (aI.same sF r1) (aI.same sF r2)));cases e|_=>cases e
 |_=>cases e
theorem aI.B1{K:Frag}{mg:MG}{F:Hp}{vs:O6}{ds:RN}{i:Int}{d:D}(h:aI K mg F vs ds)(e:zL ds i=some d):∃v,B1 vs i=some v/\Den K mg F v d:=by unfold zL at e;unfold L2.B1;rw[h.length];show ∃v,(BN ds.length i).bind _=_/\_;cases q:BN ds.length i with|none=>rw[q] at e;cases e|some j=>rw[q] at e;exact h.get e
theorem LJ:lj L (YE L.K) aq:=fun G F H σ ρ x y dx dy d Q g0 rx ry e k=>by
 cases dx with
 |tup _=>cases dy with|int _=>obtain rfl:=Den.i ry;obtain⟨_,_,rfl,h1,r1⟩:=Den.t rx;obtain⟨v,e1,e2⟩:=aI.B1 r1 e;exact .inr (.inl ⟨_,_,_,v,rfl,rfl,dB.same h1 g0.sub,e1,k F H v (aL.refl _) g0 e2⟩)|_=>cases e
 |lst _=>cases dy with|int _=>obtain rfl:=Den.i ry;obtain⟨_,_,rfl,h1,r1⟩:=Den.l rx;obtain⟨v,e1,e2⟩:=aI.B1 r1 e;exact .inl ⟨_,_,_,v,rfl,rfl,cU.same h1 g0.sub,e1,k F H v (aL.refl _) g0 e2⟩|_=>cases e
 |_=>cases e
variable{a b e c:Expr}{fa fb:M D}{pos:Pos}
theorem ar(ha:PV X EX a fa)(hb:PV X EX b fb)(hs:tG b:=by exact OM):PV X EX (.Subscript a b pos) (m2 aq fa fb):=(Kv D4 ha hb hs).le (gB LJ (fun _ _ _ q=>q) fun _ _ _ q=>q)
theorem gY{L:Lc}{G:Fx}{F H:Hp}{σ:St}{ρ:aR}{j:Nat}(g:L.Good G F H σ ρ)(h:(own ρ[j]?).isSome=true):∃l d,σ[j]?=some (some (V.ref l))/\own ρ[j]?=some d/\dU L.K L.mg F H l d:=by cases q:ρ[j]? with|none=>rw[q] at h;cases h|some t=>rw[q] at h;have sl:=g.slot j t q;cases t with|no=>cases h|sh d=>cases h|ow d=>obtain⟨l,z1,z2,z3,z4⟩:=sl;exact⟨l,d,join_some z1,rfl,z4⟩|io d=>obtain⟨l,z1,z2,z3,z4⟩:=sl;exact⟨l,d,join_some z1,rfl,z4⟩
theorem a7(j:Nat){x:Str}{p:Pos}(hb:PV X EX b fb)(hs:tG b:=by exact OM)(hN:X.N[j]?=some x:=by rfl)(hv:uZ X.env.scope x:=by exact Oi)(hd:Yw x:=by decide)(jC:Xj x:=by decide):PV X EX (.Subscript (.Name x p) b pos) (bO j fb):=by
 refine(Kv D4 (fO hN hv hd jC) hb hs).le fun σ H Q bx=>lf bx fun G F ρ g0 o=>?_;unfold bO at o;by_cases ho:(own ρ[j]?).isSome=true;rw[Ge ho] at o;obtain⟨l,d0,AU,_,_⟩:=gY g0 ho;refine⟨_,AU,aW g0 o (fun x r q=>q) fun F1 H1 bo d1 y s1 g1 r1 o1=>?_⟩;unfold DZ at o1;by_cases Rh:(own bo[j]?).isSome=true;obtain⟨l',d,Kf,Q2,ob⟩:=gY g1 Rh;rw[AU] at Kf;cases Kf;rw[Q2] at o1;obtain⟨d2,e2,q2⟩:=Out.opt o1;cases d with
  |lst ds=>obtain⟨vs,h1,h2⟩:=ob;cases d1 with|int i=>obtain rfl:=Den.i r1;obtain⟨w,e1,e3⟩:=aI.B1 h2 e2;exact .inl ⟨_,_,_,w,rfl,rfl,cU.of h1,e1,q2 F1 H1 w s1 g1 e3⟩|_=>exact absurd e2 (by simp[aq])
  |gK ks ds=>cases d1<;>exact absurd e2 (by simp[aq])|ins c ns ds=>cases d1<;>exact absurd e2 (by simp[aq])|_=>exact ob.elim
 cases q:own bo[j]? with|none=>rw[q] at o1;exact o1.elim|some d=>rw[q] at Rh;exact absurd rfl Rh
 rw[UE ho] at o;exact o.elim
end
def jQ(cells:List (Str×Addr)):List (Str×NameKind)->List (Str×Addr)->List (Str×Addr)
|[],acc=>acc| (x,k)::r,acc=>if k == .free then
  (match cells.lookup x with|some c=>jQ cells r ((x,c)::acc)|none=>jQ cells r acc)
 else jQ cells r acc
theorem lV:∀{names:List (Str×NameKind)}{acc:List (Str×Addr)}{p:Str×Addr},p∈jQ cells names acc->p∈acc\/cells.lookup p.1=some p.2
|[],_,_,h=>.inl h| (x,k)::r,acc,p,h=>by
 unfold jQ at h;split at h;cases q:cells.lookup x with|none=>rw[q] at h;exact lV h|some c=>rw[q] at h;rcases lV h with h|h;rcases List.mem_cons.mp h with h|h;subst h;exact .inr q;exact .inl h;exact .inr h
 exact lV h
theorem ky:∀{names:List (Str×NameKind)}{acc:List (Str×Addr)}{p:Str×Addr},p∈acc->p∈jQ cells names acc
|[],_,_,h=>h| (x,k)::r,acc,p,h=>by
 unfold jQ;split;cases q:cells.lookup x with|none=>exact ky h|some c=>exact ky (QC _ h)
 exact ky h
theorem lU(hc:cells.lookup x=some c):∀{names:List (Str×NameKind)}{acc:List (Str×Addr)},(x,NameKind.free)∈names->(x,c)∈jQ cells names acc
| (y,k)::r,acc,h=>by
 unfold jQ;rcases List.mem_cons.mp h with h|h;cases h;simp only[beq_self_eq_true,if_true,hc];exact ky QI;split;cases q:cells.lookup y with|none=>exact lU hc h|some c'=>exact lU hc h
 exact lU hc h
theorem gT{α:Type}{a:α}:∀{l:List (Str×α)},(x,a)∈l->∃b,l.lookup x=some b
| (y,b)::r,h=>by
 by_cases e:(x == y)=true;exact⟨b,by simp[List.lookup_cons,e]⟩;have e':(x == y)=false:=by simpa using e
 rcases List.mem_cons.mp h with h|h;cases h;simp at e';obtain⟨c,hc⟩:=gT h;exact⟨c,by simp[List.lookup_cons,e',hc]⟩
theorem ec(h:(jQ cells names []).lookup x=some c):cells.lookup x=some c:=by rcases lV (AG h) with h|h;cases h;exact h
theorem Q2H(hc:cells.lookup x=some c)(h:(x,NameKind.free)∈names):(jQ cells names []).lookup x=some c:=by obtain⟨b,hb⟩:=gT (lU (acc:=[]) hc h);have:=ec hb;rw[hc] at this;cases this;exact hb
theorem oG(h:∀p∈scope.names,p.2=.free->∃c,env.cells.lookup p.1=some c):closureFor scope env=pure (jQ env.cells scope.names []):=by
 have gen:∀(names:List (Str×NameKind))(acc:List (Str×Addr)),(∀p∈names,p.2=.free->∃c,env.cells.lookup p.1=some c)->(forIn names acc fun(x:Str×NameKind) r=>(if x.2 == .free then(do let c <-cellOf env x.1;pure (ForInStep.yield ((x.1,c)::r))) else pure (ForInStep.yield r):Sem _))=pure (jQ env.cells names acc):=by
  intro names;induction names with
  |nil=>intro acc _;rfl|cons p r ih=>
   intro acc hp;obtain⟨x,k⟩:=p;rw[List.forIn_cons];unfold jQ;by_cases hk:k=.free;subst hk;obtain⟨c,hc⟩:=hp (x,.free) QI rfl;have e:cellOf env x=pure c:=by unfold cellOf;rw[show env.cells.lookup x=some c from hc]
   simp only[beq_self_eq_true,if_true,e,hc];exact ih _ fun q hq=>hp q (QC _ hq);have hb:(k == NameKind.free)=false:=by simpa using hk
   simp only[hb,Bool.false_eq_true,if_false];exact ih _ fun q hq=>hp q (QC _ hq)
 have:=gen scope.names [] h;unfold closureFor;simpa using this
theorem fG:(relabel scope env).names.lookup x=(scope.names.lookup x).map fun k=>if (k == .free&&env.scope.kind == .function&&env.kindOf x == some .cell) then .cell else k:=by
 unfold relabel;generalize scope.names=l;induction l with
 |nil=>rfl|cons p r ih=>
  obtain⟨n,k⟩:=p;simp only[List.map_cons];by_cases hx:(x == n)=true;have e:x=n:=by simpa using hx
  subst e;simp only[List.lookup_cons,beq_self_eq_true,Option.map_some];split<;>simp[List.lookup_cons];have e':(x == n)=false:=by simpa using hx
  have e2:List.lookup x ((n,k)::r)=List.lookup x r:=by simp[List.lookup_cons,e']
  rw[e2,<-ih];split<;>simp[List.lookup_cons,e']
def je(outer inner:List (Str×NameKind))(N N':PU):Bool:=
 inner.all (fun p=>p.2 != .cell&&(p.2 != .free||outer.lookup p.1 == some .cell||outer.lookup p.1 == some .free)&&(p.2 != .local||inner.lookup p.1 == some .local)) &&
 decide (N.length<=N'.length)&&(List.range N.length).all (fun i=>match N'[i]? with|some x=>inner.lookup x != some .local&&(inner.lookup x == none||N[i]? == some x)|none=>true)&&(match N'[N'.length-1]? with|some x=>inner.lookup x == none|none=>false)&&decide (N.length+1<=N'.length)
def bI(X:Cx)(scope:Scope)(C:Addr)(N':PU)(s:Shared)(H:Hp)(ex:Xr):Cx:={X with env:=compEnvC scope (jQ X.env.cells scope.names []) C X.env,N:=N',s₀:=s,H₀:=H,outer:=X.stack,ex:=ex,fn:=fun _=>false,pn:=[],xe:=fun _ _=>False}
structure bQ(X:Cx)(scope:Scope)(N':PU):Prop where
 kind:scope.kind=.function
 Pp:je X.env.scope.names scope.names X.N N'=true
section
variable{X:Cx}{scope:Scope}{N':PU}
theorem bQ.free(c:bQ X scope N')(hp:p∈scope.names)(hf:p.2=.free):X.env.kindOf p.1=some .cell\/X.env.kindOf p.1=some .free:=by have h:=c.Pp;unfold je at h;simp only[Bool.and_eq_true,List.all_eq_true] at h;have q:=(h.1.1.1.1 p hp).1.2;rw[hf] at q;simp at q;exact q
theorem bQ.xX(c:bQ X scope N')(hp:p∈scope.names):p.2≠.cell:=by have h:=c.Pp;unfold je at h;simp only[Bool.and_eq_true,List.all_eq_true] at h;have q:=(h.1.1.1.1 p hp).1.1;simpa using q
theorem bQ.names(c:bQ X scope N')(hp:p∈scope.names)(hl:p.2=.local):scope.names.lookup p.1=some .local:=by have h:=c.Pp;unfold je at h;simp only[Bool.and_eq_true,List.all_eq_true] at h;have q:=(h.1.1.1.1 p hp).2;rw[hl] at q;simpa using q
theorem bQ.len(c:bQ X scope N'):X.N.length+1<=N'.length:=by have h:=c.Pp;unfold je at h;simp only[Bool.and_eq_true] at h;exact A0 h.2
theorem bQ.acc(c:bQ X scope N')(hx:N'[N'.length-1]?=some x):scope.names.lookup x=none:=by have h:=c.Pp;unfold je at h;simp only[Bool.and_eq_true] at h;have q:=h.1.2;rw[hx] at q;simpa using q
theorem bQ.at(c:bQ X scope N')(hi:i<X.N.length)(hx:N'[i]?=some x):scope.names.lookup x≠some .local/\(scope.names.lookup x=none\/X.N[i]?=some x):=by have h:=c.Pp;unfold je at h;simp only[Bool.and_eq_true,List.all_eq_true] at h;have q:=h.1.1.2 i (List.mem_range.mpr hi);rw[hx] at q;simp only[Bool.and_eq_true,Bool.or_eq_true] at q;refine⟨by simpa using q.1,?_⟩;rcases q.2 with z|z;exact .inl (by simpa using z);exact .inr (by simpa using z)
theorem bQ.Vp(c:bQ X scope N')(ok:X.Ok):closureFor scope X.env=pure (jQ X.env.cells scope.names []):=oG fun p hp hf=>ok.has p.1 (c.free hp hf)
theorem bQ.look(c:bQ X scope N')(ok:X.Ok)(hx:scope.names.lookup x=some .free) : ((relabel scope X.env).names.lookup x=some .cell\/(relabel scope X.env).names.lookup x=some .free)/\(X.env.kindOf x=some .cell\/X.env.kindOf x=some .free)/\∃a,X.env.cells.lookup x=some a/\(jQ X.env.cells scope.names []).lookup x=some a:=by have hm:=AG hx;have hk:=c.free hm rfl;obtain⟨a,ha⟩:=ok.has x hk;refine⟨?_,hk,a,ha,Q2H ha hm⟩;rw[fG,hx];simp only[Option.map_some];split;exact .inl rfl;exact .inr rfl
theorem Q29{UW:P4}{σ:St}{H:Hp}{s:Shared}{fp:Xr}{h₁:Heap}{D C:Addr}{tk:Nat}(c:bQ X scope N')(I:Inv X UW σ H s)(hf:∀b∈fp,jG X UW H b)(AQ:∀b∈fp,b<s.heap.objs.size)
  (hD:D=s.heap.objs.size) (hC:C=s.heap.objs.size+1) (old:∀b o,s.heap.get? b=some o->h₁.get? b=some o) (PK:h₁.Ns C fun _=>none) (hl:h₁.get? D=some {cls:=.type "list",data:=.seq #[] 0}) :
  Inv (bI X scope C N' s H fp) [] (σ++List.replicate (N'.length-1-σ.length) none++[some (V.ref D)]) (upd H D (.lst [])) {s with heap:=h₁,toks:=tk}:=by
 have VG:H D=none:=I.cg.fresh (by rw[hD];exact Uj _);have Zf:H C=none:=I.cg.fresh (by rw[hC];exact ON _);have VF:C≠D:=by rw[hC,hD];exact Mv (FJ _)
 have Wb:nV X.prog X.w (upd H D (.lst [])) h₁:=I.cg.laid old (by rw[hD];exact Uj _) ⟨IA _,[],0,.nil,hl⟩;have Le:∀x a,X.env.cells.lookup x=some a->a<s.heap.objs.size:=fun x a e=>by obtain⟨v,q⟩:=I.cell x a e;exact q.lt
 have Z3:σ.length=X.N.length:=I.len;refine⟨⟨I.ok.mod,?_,I.ok.glob,I.ok.blt,?_,?_,?_,?_,I.ok.hd,I.ok.frames,.inl rfl,?_,I.bs,DT I.ok.FV I.sz,?_,?_,I.stack,I.Al⟩,rfl,I.bare,Un.laid old (by rw[hD];exact Uj _) VG,⟨_,PK,?_⟩,?_,?_,?_,?_,Wb,?_⟩;show (relabel scope X.env).kind=_;exact c.kind;show s.heap.objs.size<=C;rw[hC];exact ON _;intro x y a h1 h2;exact I.ok.inj x y a (ec h1) (ec h2);intro x hx;have DL:(relabel scope X.env).names.lookup x=some .cell\/(relabel scope X.env).names.lookup x=some .free:=hx;rw[fG] at DL;cases q:scope.names.lookup x with
 |none=>rw[q] at DL;rcases DL with z|z<;>cases z
 |some k=>
  rw[q] at DL;have hk:k=.free:=by have nc:=c.xX (AG q);simp only[Option.map_some] at DL;split at DL;rename_i hh;simp at hh;exact hh.1.1;rcases DL with z|z;exact absurd (RD z) nc;exact RD z
  subst hk;refine VP.gl fun QQ eQ=>?_;obtain⟨_,_,a,_,z⟩:=c.look I.ok q;subst eQ;exact⟨a,z⟩
 intro x a hx _;exact absurd (show false=true from hx) BC;intro b hb;refine⟨?_,fun x a e=>?_⟩;show b≠C;rw[hC];exact Vz (AI (AQ b hb));exact(hf b hb).2.2.2.2.1 x a (ec e);intro b o e hb;rcases (hf b hb).2.2.2.1 with z|z;exact I.ok.Eu b o e z;exact absurd (US (UG e) (DT I.ok.FV z)) (nJ _);intro b hb Zm;rcases List.mem_cons.mp (I.yv b Zm) with z|z;exact(hf b hb).2.1 z;exact(hf b hb).2.2.1 z;intro i x v h1 h2 h3;by_cases hi:i<σ.length;rw[MS (by simp;lia),MS hi] at h2;obtain⟨n1,n2⟩:=c.at T9 h1;have FY:(relabel scope X.env).names.lookup x=some .local\/(relabel scope X.env).names.lookup x=some .cell\/(relabel scope X.env).names.lookup x=some .free:=h3;rw[fG] at FY;cases q:scope.names.lookup x with
 |none=>rw[q] at FY;rcases FY with z|z|z<;>cases z
 |some k=>
  have hk:k=.free:=by rw[q] at FY n1;have nc:=c.xX (AG q);simp only[Option.map_some] at FY;split at FY;rename_i hh;simp at hh;exact hh.1.1;rcases FY with z|z|z;exact absurd z n1;exact absurd (RD z) nc;exact RD z
  subst hk;have hN:X.N[i]?=some x:=by rcases n2 with z|z;rw[q] at z;cases z;exact z
  refine VP.gl fun QQ eQ=>?_;obtain⟨k1,k2,a,k3,k4⟩:=c.look I.ok q;subst eQ;obtain⟨m,hm,Kf⟩:=I.loc;have vis:uZ X.env.scope x:=k2.elim (fun z=>.inr (.inl z)) fun z=>.inr (.inr z);obtain⟨u,ru,lk⟩:=Kf i x v hN h2 vis;refine⟨u,ru,.inr ⟨k1,a,k4,?_⟩⟩;rcases lk with ⟨z,_⟩|⟨_,a',z1,z2⟩
  rcases k2 with k2|k2<;>(rw[k2] at z;cases z);rw[k3] at z1;cases z1;obtain⟨ob,y1,y2⟩:=z2;exact⟨ob,old _ _ y1,y2⟩
 by_cases Py:i<N'.length-1;rw[MS (by simp;lia),Sr T9,Hl] at h2;split at h2<;>cases h2;have hi3:i<N'.length:=(List.getElem?_eq_some_iff.mp h1).1;have e:i=N'.length-1:=T9;rw[e] at h1;have z:=c.acc h1;have FY:(relabel scope X.env).names.lookup x=some .local\/(relabel scope X.env).names.lookup x=some .cell\/(relabel scope X.env).names.lookup x=some .free:=h3;rw[fG,z] at FY;rcases FY with y|y|y<;>cases y;intro x a e;obtain⟨v,ob,y1,y2⟩:=I.cell x a (ec e);exact⟨v,ob,old _ _ y1,y2⟩;show upd H D (.lst []) C=none;rw[aQ VF];exact Zf;intro x a e;have e':=ec e;have:a≠D:=by rw[hD];exact Vz (Le x a e')
 rw[aQ this];exact I.kZ x a e';intro p hp;exact absurd (show p∈([]:P4) from hp) G9;show (σ++_++_).length=N'.length;have:=c.len;simp
 lia
def BP(X:Cx)(EX:XE)(ifs:W3)(f:M Bool):Prop:=∀(UW:P4)(s:Shared)(σ:St)(H:Hp)(Q:Bool->Hp->Prop),Inv X UW σ H s->lift (lc X EX) RB f σ H Q->wpAny (model X.prog X.w) X.A (forIn ifs true fun c r=>if r=true then do let ok <-isTrue c X.env (eval c X.env);pure (ForInStep.yield ok) else pure (ForInStep.yield r)) (TP X UW σ Q) X.xe s
theorem cf:BP X EX [] (ret true):=fun UW s σ H Q I ⟨G,F,ρ,g,o⟩=>wpAny_tests_nil ⟨H,I,o F H true (aL.refl _) g rfl⟩
theorem kJ(h:PB X EX c f):BP X EX [c] f:=fun UW s σ H Q I q=>wpAny_tests_one (h UW s σ H Q I q)
theorem Good.take{K:Frag}{mg:MG}{G:Fx}{F H:Hp}{σ:St}{ρ:aR}(g:Good K mg G F H σ ρ)(n:Nat):Good K mg G F H (σ.take n) (ρ.take n) where
 sF:=g.sF
 sub:=g.sub
 old:=g.old
 new:=g.new
 len:=by simp[g.len]
 slot:=fun i s h=>by by_cases hi:i<n;rw[Sv hi] at h ⊢;exact g.slot i s h;rw[Ss T9] at h;cases h
 apart:=fun i j l s t h1 h2 o1 o2 e1 e2=>by by_cases hi:i<n;by_cases hj:j<n;rw[Sv hi] at h1 e1;rw[Sv hj] at h2 e2;exact g.apart i j l s t h1 h2 o1 o2 e1 e2;rw[Ss T9] at h2;cases h2;rw[Ss T9] at h1;cases h1
 oq:=g.oq
 oJ:=g.oJ
theorem Good.more{K:Frag}{mg:MG}{G:Fx}{F H:Hp}{σ:St}{ρ:aR}{D:Addr}(g:Good K mg G F H σ ρ)(n:Nat)(hD:H D=none):Good K mg G F (upd H D (.lst [])) (σ++List.replicate n none++[some (V.ref D)]) (ρ++List.replicate n .no++[.ow (.lst [])]):=by
 have g1:Good K mg G F (upd H D (.lst [])) σ ρ:=g.made hD;have at_:∀{i:Nat}{s:Sl},(ρ++List.replicate n .no++[.ow (.lst [])])[i]?=some s->(i<ρ.length/\ρ[i]?=some s/\(σ++List.replicate n none++[some (V.ref D)])[i]?=σ[i]?)\/(s=.no)\/(i=ρ.length+n/\s=.ow (.lst [])/\(σ++List.replicate n none++[some (V.ref D)])[i]?=some (some (V.ref D))):=fun {i s} h=>by
  by_cases hi:i<ρ.length;rw[MS (by simp;lia),MS hi] at h;exact .inl ⟨hi,h,by rw[MS (by simp[g.len];lia),MS (by rw[g.len];exact hi)]⟩;by_cases Py:i<ρ.length+n;rw[MS (by simp;lia),Sr T9,Hl] at h;split at h;exact .inr (.inl (RD h).symm);cases h;rw[Sr (by simp;lia)] at h;have e:i=ρ.length+n:=by
   have:=(List.getElem?_eq_some_iff.mp h).1;simp at this
   lia
  subst e;simp at h;refine .inr (.inr ⟨rfl,h.symm,?_⟩);rw[Sr (by simp[g.len])];simp[g.len]
 have noD:∀{i:Nat}{s:Sl},ρ[i]?=some s->cq s=true->σ[i]?≠some (some (V.ref D)):=fun {i s} h o e=>by refine VP.gl fun QQ eQ=>?_;obtain⟨l,d,h1,h2,h3,h4⟩:=(g.slot i s h).own o;subst eQ;rw[e] at h1;cases h1;obtain⟨u,hu⟩:=h3.has;rw[hD] at hu;cases hu
 exact {
  sF:=g1.sF
  sub:=g1.sub
  old:=g1.old
  new:=g1.new
  len:=by simp[g.len]
  slot:=fun i s h=>by
   rcases at_ h with ⟨h1,h2,h3⟩|rfl|⟨h1,rfl,h3⟩
   rw[h3];exact g1.slot i s h2;trivial;rw[h3];exact⟨D,rfl,g.sub.free hD,g.Bh hD,[],aJ,.nil⟩
  apart:=fun i j l s t h1 h2 o1 o2 e1 e2=>by
   rcases at_ h1 with ⟨a1,a2,a3⟩|rfl|⟨a1,rfl,a3⟩
   rcases at_ h2 with ⟨b1,b2,b3⟩|rfl|⟨b1,rfl,b3⟩
   rw[a3] at e1;rw[b3] at e2;exact g.apart i j l s t a2 b2 o1 o2 e1 e2;cases o2;rw[a3] at e1;rw[b3] at e2;cases e2;exact absurd e1 (noD a2 o1);cases o1;rcases at_ h2 with ⟨b1,b2,b3⟩|rfl|⟨b1,rfl,b3⟩
   rw[a3] at e1;rw[b3] at e2;cases e1;exact absurd e2 (noD b2 o2);cases o2;rw[a1,b1]
  oq:=g1.oq
  oJ:=g1.oJ}
theorem wz{L:Lc}{G:Fx}{F H:Hp}{σ:St}{ρ:aR}{k:Nat}{x:D}{v:V}{P:Unit->aR->Prop}{E:Xn->aR->Prop}(g:L.Good G F H σ ρ)(r:Den L.K L.mg F v x)(o:Out (gg k (gD x) ρ) P E) : ∃l vs bP,σ[k]?=some (some (V.ref l))/\H l=some (.lst vs)/\vs.length<sizeLine/\L.Good G F (upd H l (.lst (vs++[v]))) σ bP/\P () bP:=by
 unfold gg at o;cases q:own ρ[k]? with
 |none=>rw[q] at o;exact o.elim|some d=>
  rw[q] at o;dsimp only at o;cases q2:gD x d with
  |none=>rw[q2] at o;exact o.elim|some d'=>
   rw[q2] at o;have o':P () (cE k d' ρ):=o;cases d with
   |lst ds=>
    simp only[gD] at q2;split at q2;rename_i hl;cases q2;cases q3:ρ[k]? with
    |none=>rw[q3] at q;cases q|some s=>
     rw[q3] at q;have sl:=g.slot k s q3;have fin:∀l s',σ[k]?=some (some (V.ref l))->cq s=true->dU L.K L.mg F H l (.lst ds)->((∃e,s=.ow e/\s'=.ow (.lst (ds++[x])))\/(∃e,s=.io e/\s'=.io (.lst (ds++[x]))))->cE k (.lst (ds++[x])) ρ=ρ.set k s'->∃l vs bP,σ[k]?=some (some (V.ref l))/\H l=some (.lst vs)/\vs.length<sizeLine/\L.Good G F (upd H l (.lst (vs++[v]))) σ bP/\P () bP:=fun l s' z1 z2 z3 z4 z5=>by obtain⟨vs,y1,y2⟩:=z3;refine⟨l,vs,_,z1,y1,by rw[y2.length,Nx];exact hl,Good.write g q3 z2 z1 z4 ⟨_,aJ,y2.append (.cons r .nil)⟩,?_⟩;rw[<-z5];exact o'
     cases s with|no=>cases q|sh e=>cases q|ow e=>cases q;refine VP.gl fun QQ eQ=>?_;obtain⟨l,z1,z2,z3,z4⟩:=sl;subst eQ;exact fin l _ (join_some z1) rfl z4 (.inl ⟨_,rfl,rfl⟩) (by unfold cE;rw[q3])|io e=>cases q;refine VP.gl fun QQ eQ=>?_;obtain⟨l,z1,z2,z3,z4⟩:=sl;subst eQ;exact fin l _ (join_some z1) rfl z4 (.inr ⟨_,rfl,rfl⟩) (by unfold cE;rw[q3])
    cases q2
   |_=>cases q2
variable{X:Cx}{EX:XE}{elt tg UD:Expr}{ifs:W3}{pos:Pos}{it:M (List D)}{gf:D->M Unit}{ft:M Bool}{fe:M D}{js:UA}{scope:Scope}{N':PU}
theorem kz(n:Nat){use:Option (Value->Sem Unit)}{QQ:UI}{UW:P4}{s:Shared}{σ:St}{H F:Hp}{G:Fx}{ρ:aR}{P:D->aR->Prop}{Ex:Xn->aR->Prop}
  (hc:X.calm=true) (c:bQ X scope N') (hn:X.N.length+n+1=N'.length) (hi:uT X EX tg UD it) (ug:∀d r x r',gf d r≠.exc x r') (uV:∀j∈js,X.N.length<=j/\j<X.N.length+n)
  (hg:∀C s H ex,yE (bI X scope C N' s H ex) EX tg js gf) (ht:∀C s H ex EX,BP (bI X scope C N' s H ex) EX ifs ft)
  {xw:Addr->Shared->Hp->Xr->Value->Shared->Prop} (he:∀C s H ex,PV ((bI X scope C N' s H ex).oT (xw C s H ex)) (fun _=>EX σ) elt fe)
  (hw:∀(l C:Addr)(s2:Shared)(H2:Hp)(fp:Xr)(v:Value)(s':Shared),Inv X UW σ H2 s2->(∀b∈fp,jG X UW H2 b)->C=s2.heap.objs.size+1->xw C s2 H2 fp v s'->notedBy (model X.prog X.w) X.A (bI X scope C N' s2 H2 fp).env (fun x Gh=>compPost (model X.prog X.w) X.A X.xe use QQ (.ref l) C (.error x) Gh) v s')
  (hs:∀x,foldedSetIterable UD X.env x=pure x) (I:Inv X UW σ H s) (g0:(lc X EX).Good G F H σ ρ) (o:Out (aU n it gf ft fe ρ) P Ex) (hE:∀x r,Ex x r->dq (lc X EX) G F σ x r)
  (DF:∀(F4 H4:Hp)(s5:Shared)(rP:aR)(d:D)(l C:Addr)(mm:Str->UU),aL F F4->(lc X EX).Good G F4 H4 σ rP->Loose X.K X.mg G F4 H4 σ rP l d->P d rP->Inv X UW σ H4 s5->s5.heap.Ns C mm->jG X UW H4 C->compPost (model X.prog X.w) X.A X.xe use QQ (.ref l) C (.ok .next) s5) :
  wpAny (model X.prog X.w) X.A (comprehension (.ListComp elt [⟨tg,UD,ifs,0⟩] scope pos) scope X.env (firstIterPos [⟨tg,UD,ifs,0⟩] pos) (newList []) (firstAsync [⟨tg,UD,ifs,0⟩]) (firstIter [⟨tg,UD,ifs,0⟩] X.env) use) QQ X.xe s:=by
 refine wpAny_comprehension_free (use:=use) rfl hs (c.Vp I.ok) c.kind (fun y hy hl=>c.names hy hl) ?_;refine bS (hi UW s σ H (fun J H1=>∃F1 bo ds,aL F F1/\(lc X EX).Good G F1 H1 σ bo/\FQ (lc X EX) G F1 J ds/\Out (inner n (fun k=>turns k gf ft fe ds) bo) P Ex) I (aW g0 o hE fun F1 H1 bo ds J s1 g1 r1 o1=>⟨F1,bo,ds,s1,g1,r1,o1⟩)) fun xv s1 h1=>bS h1 fun Ww s2 h2=>?_;refine VP.gl fun QQ eQ=>?_;obtain⟨Yr,fp,tn,J,H2,e,I2,T,yp,f2,F1,bo,ds,e1,g1,r1,o1⟩:=h2;subst eQ;subst e;refine MC (wpAny_newFunctionEnv (fun y hy=>c.xX hy) (by intro y hy;simp at hy) (fun h₁ xC uj=>?_) c.kind);dsimp only at xC uj ⊢;generalize VI:s2.heap.push {cls:=.type "list",dict:=none,data:=.seq ([]:RU).toArray}=HP at xC uj ⊢;have hC:HP.objs.size=s2.heap.objs.size+1:=by rw[<-VI,MT]
 have VF:s2.heap.objs.size≠HP.objs.size:=by rw[hC];exact Vz (FJ _)
 have old:∀b o,s2.heap.get? b=some o->h₁.get? b=some o:=fun b o e=>uj.extBut b o (by have:=UG e;rw[hC];exact Vz (AI this)) (WL _ (VI ▸ WL _ e));have hl:h₁.get? s2.heap.objs.size=some {cls:=.type "list",data:=.seq #[] 0}:=uj.extBut _ _ VF (WL _ (VI ▸ PQ _ rfl));have AQ:∀b∈fp,b<s2.heap.objs.size:=fun b hb=>by obtain⟨ob,e,_⟩:=T.obj 0 _ yp b hb;exact UG e
 have PK:h₁.Ns HP.objs.size fun _=>none:=by simpa using xC
 have VG:H2 s2.heap.objs.size=none:=I2.cg.fresh (Uj _);have Yu:σ.length=X.N.length:=I.len;have RQ:bo.length=σ.length:=g1.len.symm;have DK:N'.length-1-σ.length=n:=T9;have I3:=Q29 (tk:=s2.toks+([]:List (Str×Value)).length) c I2 f2 AQ rfl hC old PK hl;rw[DK] at I3;have g2:=Good.more g1 n VG;rw[show inner n (fun k=>turns k gf ft fe ds) bo=_ from rfl] at o1;unfold inner at o1;rw[RQ] at o1;let XX:=bI X scope HP.objs.size N' s2 H2 fp;have zP:∀s3:Shared,s3={s2 with heap:=h₁,toks:=s2.toks+([]:List (Str×Value)).length}->codeAny (model X.prog X.w) X.A (.compLoop (.ListComp elt [⟨tg,UD,ifs,0⟩] scope pos) 0 (.ref Yr) (.ref s2.heap.objs.size) XX.env) (compPost (model X.prog X.w) X.A X.xe use QQ (.ref s2.heap.objs.size) HP.objs.size) s3:=by
  rintro s3 rfl;have VH:∀{α:Type}{t:Sem α}{Q':α->Shared->Prop}{E':UI}{s':Shared},wpAny (model X.prog X.w) X.A t Q' (fun _ _=>False) s'->wpAny (model X.prog X.w) X.A t Q' E' s':=fun h=>RX h (fun _ _ q=>q) fun _ _ z=>z.elim;refine codeAny_loop rfl (fun m s'=>∃i bE H' F' bP,m=ds.length-i/\i<=ds.length/\Inv XX [] bE H' s'/\tn i s'.heap/\(∀b∈fp,H' b=none)/\aL F1 F'/\Good X.K X.mg G F' H' bE bP/\(∀j,j<σ.length->bE[j]?=σ[j]?)/\bE[σ.length+n]?=some (some (V.ref s2.heap.objs.size)) /\
   Out (turns (σ.length+n) gf ft fe (ds.drop i) bP) (fun _ r=>∃d,r[σ.length+n]?=some (.ow d)/\P d (r.take σ.length)) (fun x r=>Ex x (r.take σ.length))) (fun m s4 hI=>?_) ds.length
   ⟨0,_,_,F1,_,G9,IA _,I3,T.keep _ _ _ yp (fun b _ ob e=>old b ob e),fun b hb=>?_,aL.refl _,g2,fun j hj=>?_,?_,?_⟩
  show wpAny _ X.A ((compTurn (.ListComp elt [⟨tg,UD,ifs,0⟩] scope pos) 0 (.ref Yr) (.ref s2.heap.objs.size) XX.env).onRaise (fun x=>do noteFrame x XX.env;theTreesLotGoes x)) _ _ s4;refine wpAny_noted ?_;rw[compTurn_list];refine VP.gl fun QQ eQ=>?_;obtain⟨i,JE,H4,F4,KP,rfl,hi4,I4,YJ,XY,e4,g4,G4,Up,o4⟩:=hI;subst eQ;have yr:∀{H':Hp},(∀b∈fp,H' b=none)->∀b∈fp,jG XX [] H' b:=fun {H'} hz b hb=>⟨hz b hb,(I3.ok.Uh b hb).1,I3.ok.Di b hb,.inl hb,fun x a e=>(I3.ok.Uh b hb).2 x a e,fun p hp=>absurd (show p∈([]:P4) from hp) G9⟩;obtain⟨t1,t2,t3⟩:=r1 JE i F4 H4 KP e4 g4;have Zk:∀{α:Type}{t:Sem α}{Q':α->Shared->Prop}{s':Shared},wpAny (model X.prog X.w) X.A t Q' (xw HP.objs.size s2 H2 fp) s'->wpAny (model X.prog X.w) X.A t Q' (notedBy (model X.prog X.w) X.A XX.env (fun x Gh=>compPost (model X.prog X.w) X.A X.xe use QQ (.ref s2.heap.objs.size) HP.objs.size (.error x) Gh)) s':=fun h=>RX h (fun _ _ q=>q) fun v Gh z=>hw _ _ _ _ _ _ _ I2 f2 hC z;have JU:∀{F' H':Hp}{mR:St}{r:aR},Good X.K X.mg G F' H' mR r->(∀j,j∉js->mR[j]?=JE[j]?)->Good X.K X.mg G F' H' σ (r.take σ.length):=fun {F' H' mR r} g hj=>by
   have Vx:mR.take σ.length=σ:=by refine DU fun j=>?_;by_cases PD:j<σ.length;rw[Sv PD,hj j fun m=>by have:=(uV j m).1;lia];exact G4 j PD;rw[Ss T9,Iv T9]
   have:=Good.take g σ.length;rw[Vx] at this;exact this
  by_cases lP:i<ds.length;have ed:ds.drop i=ds[i]::ds.drop (i+1):=AH lP;rw[ed] at o4;refine U0 (LZ (U0 (bS (T.item XX rfl rfl rfl hc i [] s4 JE H4 _ I4 (yr XY) YJ (t1 lP)) fun r s5 zz=>?_)));obtain⟨u,hr,h5⟩:=zz;subst hr;refine U0 (bS h5 fun _ s6 zz=>?_);obtain⟨x,H6,I6,r6,y6,W8,Za⟩:=zz;obtain⟨F6,e6,g6,q6⟩:=t3 x H6 y6;have YU:=I6.pinned (yr Za) (T.obj _ _ W8);have again:∀{s7:Shared}{mR:St}{H7 F7:Hp}{P6:aR},Inv XX ([]++qJ fp s6.heap) mR H7 s7->aL F6 F7->Good X.K X.mg G F7 H7 mR P6->(∀j,j∉js->mR[j]?=JE[j]?) ->
    Out (turns (σ.length+n) gf ft fe (ds.drop (i+1)) P6) (fun _ r=>∃d,r[σ.length+n]?=some (.ow d)/\P d (r.take σ.length)) (fun x r=>Ex x (r.take σ.length)) ->
    ∃m,m<ds.length-i/\∃i bE H' F' bP,m=ds.length-i/\i<=ds.length/\Inv XX [] bE H' s7/\tn i s7.heap/\(∀b∈fp,H' b=none)/\aL F1 F'/\Good X.K X.mg G F' H' bE bP/\(∀j,j<σ.length->bE[j]?=σ[j]?)/\bE[σ.length+n]?=some (some (V.ref s2.heap.objs.size))/\Out (turns (σ.length+n) gf ft fe (ds.drop i) bP) (fun _ r=>∃d,r[σ.length+n]?=some (.ow d)/\P d (r.take σ.length)) (fun x r=>Ex x (r.take σ.length)):=fun {s7 mR H7 F7 P6} I7 e7 g7 Ke o7=>by
   refine⟨ds.length-(i+1),T9,i+1,mR,H7,F7,P6,rfl,lP,I7.mJ,T.keep _ _ _ W8 fun b hb ob e=>(I7.pin (b,ob) (O9 _ (O9 _ (jn hb e)))).1,fun b hb=>?_,e4.trans (e6.trans e7),g7,fun j hj=>?_,?_,o7⟩;obtain⟨ob,e,d⟩:=T.obj _ _ W8 b hb;exact(I7.pin (b,ob) (O9 _ (O9 _ (jn hb e)))).2.1;rw[Ke j fun m=>by have:=(uV j m).1;lia];exact G4 j hj;rw[Ke _ fun m=>by have:=(uV _ m).2;lia];exact Up
  refine U0 (VH (bS (hg HP.objs.size s2 H2 fp _ s6 JE H6 x u (fun bE H'=>∃F' bP,aL F6 F'/\Good X.K X.mg G F' H' bE bP/\(∀j,j∉js->bE[j]?=JE[j]?) /\
   Out (PN ft (fun b=>if b then PN fe fun x=>PN (gg (σ.length+n) (gD x)) fun _=>turns (σ.length+n) gf ft fe (ds.drop (i+1)) else turns (σ.length+n) gf ft fe (ds.drop (i+1))) bP) (fun _ r=>∃d,r[σ.length+n]?=some (.ow d)/\P d (r.take σ.length)) (fun x r=>Ex x (r.take σ.length))) YU r6
   ⟨G,F6,KP,ds[i],g6,q6 _ (by simp[lP]),(show Out (gf ds[i] KP) _ _ by have o5:=Out.PN o4;cases q:gf ds[i] KP with|no=>rw[q] at o5;exact o5.elim|exc x r=>exact absurd q (ug _ _ _ _)|ok u r=>rw[q] at o5;exact fun F' H' bE s g hj=>⟨F',r,s,g,hj,o5⟩)⟩) fun _ s7 ⟨mR,H7,I7,F7,P6,e7,g7,Ke,o7⟩=>?_))
  refine U0 (VH (bS (ht HP.objs.size s2 H2 fp (fun _=>EX σ) _ s7 mR H7 (fun b H'=>∃F' bP,aL F7 F'/\Good X.K X.mg G F' H' mR bP /\
   Out ((if b then PN fe fun x=>PN (gg (σ.length+n) (gD x)) fun _=>turns (σ.length+n) gf ft fe (ds.drop (i+1)) else turns (σ.length+n) gf ft fe (ds.drop (i+1))) bP) (fun _ r=>∃d,r[σ.length+n]?=some (.ow d)/\P d (r.take σ.length)) (fun x r=>Ex x (r.take σ.length))) I7
   ⟨G,F7,P6,g7,(Out.PN o7).mono (fun a r z F' H' b s g e=>by cases e;exact⟨F',r,s,g,z⟩) fun x r z F' H' c dx s g xr=>hE x _ z F' H' c dx (e1.trans (e4.trans (e6.trans (e7.trans s)))) (JU g Ke) xr⟩) fun ok s8 zz=>?_))
  obtain⟨H8,I8,F8,ρ8,e8,g8,o8⟩:=zz;cases ok with
  |false=>exact Qo ⟨rfl,again I8 (e7.trans e8) g8 Ke o8⟩|true=>
   refine U0 (U0 (Zk (bS (he HP.objs.size s2 H2 fp _ s8 mR H8 (fun v H'=>∃F' bP d,aL F8 F'/\Good X.K X.mg G F' H' mR bP/\Den X.K X.mg F' v d /\
    Out (PN (gg (σ.length+n) (gD d)) (fun _=>turns (σ.length+n) gf ft fe (ds.drop (i+1))) bP) (fun _ r=>∃d,r[σ.length+n]?=some (.ow d)/\P d (r.take σ.length)) (fun x r=>Ex x (r.take σ.length))) (I8.oT _)
    ⟨G,F8,ρ8,g8,(Out.PN o8).mono (fun a r z F' H' b s g e=>⟨F',r,a,s,g,e,z⟩) fun x r z F' H' c dx s g xr=>hE x _ z F' H' c dx (e1.trans (e4.trans (e6.trans (e7.trans (e8.trans s))))) (JU g Ke) xr⟩) fun xv s9 zz=>?_)))
   obtain⟨y,H9,YV,r9,F9,ρ9,d9,e9,g9,Y1,o9⟩:=zz;have I9:=YV.jv;refine VP.gl fun QQ eQ=>?_;obtain⟨l,vs,aax,Yp,Zh,R5,Ul,o10⟩:=wz (L:=lc X EX) g9 Y1 (Out.PN o9);subst eQ;rw[Ke _ fun m=>by have:=(uV _ m).2;lia,Up] at Yp;cases Yp;refine U0 (VH (bS (sV (X:=XX) _ s9 mR H9 (.ref s2.heap.objs.size) [y] (.ref s2.heap.objs.size) [xv] (fun _ H'=>H'=upd H9 s2.heap.objs.size (.lst (vs++[y]))) I9 rfl (.cons r9 .nil) ⟨_,vs,y,rfl,rfl,Zh,R5,rfl⟩) fun _ Gi zz=>?_));obtain⟨_,H10,YS,_,Y3⟩:=zz;subst Y3;exact Qo (Qo ⟨rfl,again YS ((e7.trans e8).trans e9) Ul Ke o10⟩)
  have e:i=ds.length:=T9;subst e;refine U0 (LZ (U0 (bS (T.done XX rfl rfl rfl hc _ [] s4 JE H4 _ I4 (yr XY) YJ (t2 rfl)) fun r s5 ⟨hr,I5⟩=>?_)));subst hr;refine Qo ?_;obtain⟨mm,GZ,_⟩:=id I5.loc;rw[List.drop_length] at o4;obtain⟨d,hd,post⟩:∃d,KP[σ.length+n]?=some (.ow d)/\P d (KP.take σ.length):=o4;have IX:Inv X UW σ H4 s5:=I2.CV (s':=s5) I5.os I5.base I5.cg I5.bare fun b hb=>⟨(f2 b hb).2.2.2.1,(f2 b hb).2.1,(f2 b hb).2.2.2.2.1,(f2 b hb).2.2.2.2.2⟩;have FC:jG X UW H4 HP.objs.size:=I2.p8 (by rw[hC];exact ON _) I5.free;have Vx:JE.take σ.length=σ:=by refine DU fun j=>?_;by_cases hj:j<σ.length;rw[Sv hj];exact G4 j hj;rw[Ss T9,Iv T9]
  refine VP.gl fun QQ eQ=>?_;obtain⟨l,z1,z2,z3,z4⟩:=g4.slot _ _ hd;subst eQ;rw[Up] at z1;cases z1;refine DF F4 H4 s5 _ d _ _ mm (e1.trans e4) (by have:=Good.take g4 σ.length;rw[Vx] at this;exact this) ⟨z2,z3,z4,fun j t hj ho BM=>?_⟩ post IX GZ FC;have V2:j<σ.length:=by
   have:=(List.getElem?_eq_some_iff.mp hj).1;simp at this
   lia
  rw[Sv V2] at hj;have:=g4.apart j (σ.length+n) s2.heap.objs.size t _ hj hd ho rfl (by rw[G4 j V2];exact BM) Up
  lia
  rw[aQ (Vz (AQ b hb))];exact(f2 b hb).1;rw[MS (by simp;lia),MS hj];rw[Sr G9];simp;simp only[List.drop_zero];cases q:turns (σ.length+n) gf ft fe ds (bo++List.replicate n .no++[.ow (.lst [])]) with|no=>simp only[q] at o1;exact o1.elim|exc x r=>simp only[q] at o1;exact o1|ok u r=>simp only[q] at o1;show ∃d,r[σ.length+n]?=some (.ow d)/\_;cases q2:r[σ.length+n]? with|none=>simp only[q2] at o1;exact o1.elim|some t=>simp only[q2] at o1;cases t with|ow d=>exact⟨d,rfl,o1⟩|no=>exact o1.elim|sh d=>exact o1.elim|io d=>exact o1.elim
 exact codeAny_compStart_list (zP _ rfl) (T.self _ _ _ _ _ (T.keep _ _ _ yp fun b _ ob e=>old b ob e) (zP _ rfl))
theorem Ii(n:Nat)(hc:X.calm=true)(c:bQ X scope N')(hn:X.N.length+n+1=N'.length)(hi:uT X EX tg UD it)(ug:∀d r x r',gf d r≠.exc x r')(uV:∀j∈js,X.N.length<=j/\j<X.N.length+n)
  (hg:∀C s H ex,yE (bI X scope C N' s H ex) EX tg js gf) (ht:∀C s H ex EX,BP (bI X scope C N' s H ex) EX ifs ft) (he:∀C s H ex EX,PV (bI X scope C N' s H ex) EX elt fe)
  (hs:∀x,foldedSetIterable UD X.env x=pure x:=by exact Bz):PF X EX (.ListComp elt [⟨tg,UD,ifs,0⟩] scope pos) (aU n it gf ft fe):=by
 intro UW s σ H Q I h;refine VP.gl fun QQ eQ=>?_;obtain⟨G,F,ρ,g0,o⟩:=h;subst eQ;rw[eval_ListComp];refine kz (use:=none) n hc c hn hi ug uV hg ht (xw:=fun _ _ _ _ _ _=>False) (fun C s H ex=>he C s H ex _) (fun _ _ _ _ _ _ _ _ _ _ z=>z.elim) hs I g0 o (fun x r q=>q) fun F4 H4 s5 rP d l C mm e4 g4 lo post IX GZ FC=>?_;refine⟨mm,GZ,fun h' Ga=>⟨.ref l,H4,?_,rfl,post F4 H4 _ e4 g4 ⟨l,rfl,lo⟩⟩⟩;exact IX.turned (t':=s5.toks) (fun b ob hb e=>Ga.extBut b ob hb e) FC.1 FC.2.1 FC.2.2.2.1 FC.2.2.2.2.1 FC.2.2.2.2.2
theorem pP(n i:Nat){y:Str}{py mH:Pos}{f:D->M Fl}(hc:X.calm=true)(c:bQ X scope N')(hn:X.N.length+n+1=N'.length)(hi:uT X EX tg UD it)(ug:∀d r x r',gf d r≠.exc x r')(uV:∀j∈js,X.N.length<=j/\j<X.N.length+n)
  (hg:∀C s H ex,yE (bI X scope C N' s H ex) EX tg js gf) (ht:∀C s H ex EX,BP (bI X scope C N' s H ex) EX ifs ft) (he:∀C s H ex EX,PV (bI X scope C N' s H ex) EX elt fe)
  (hN:X.N.Nodup) (hy:X.N[i]?=some y) (hx:Loc X.env.scope y) (G3:swapsWith (.ListComp elt [⟨tg,UD,ifs,0⟩] scope pos) (some (.Name y py)) mH.line X.env=pure true)
  (hf:∀{G:Fx}{F4 H4 F:Hp}{σ:St}{rP:aR}{l:Addr}{d:D}{E:Ends},(lc X EX).Good G F4 H4 σ rP->Loose X.K X.mg G F4 H4 σ rP l d->aL F F4->Out (f d rP) (gM (lc X EX) G F E) (cZ (lc X EX) G F)->E.nx (σ.set i (some (.ref l))) H4)
  (hs:∀x,foldedSetIterable UD X.env x=pure x) (AO:IL X y):nW X EX (.Assign [.Name y py] (.ListComp elt [⟨tg,UD,ifs,0⟩] scope pos) mH) (PN (aU n it gf ft fe) f):=by
 intro UW s σ H E I h;refine VP.gl fun QQ eQ=>?_;obtain⟨G,F,ρ,g0,o⟩:=h;subst eQ;rw[Mf _ _ _ _ G3];refine U0 (LZ (U0 ?_));show wpAny _ X.A (do let _ <-comprehension (.ListComp elt [⟨tg,UD,ifs,0⟩] scope pos) scope X.env _ (newList []) false (firstIter [⟨tg,UD,ifs,0⟩] X.env) (some (assign (.Name y py) X.env))) _ _ s;refine U0 (RX (kz (use:=some (assign (.Name y py) X.env)) (QQ:=fun _ s'=>SP X UW E .next s') n hc c hn hi ug uV hg ht (xw:=fun _ _ _ _ _ _=>False) (fun C s H ex=>he C s H ex _) (fun _ _ _ _ _ _ _ _ _ _ z=>z.elim) hs I g0 (Out.PN o) (fun x r q=>q.x) fun F4 H4 s5 rP d l C mm e4 g4 lo post IX GZ FC=>?_) (fun _ s' hq=>Qo (Qo hq)) fun _ _ e=>e);show wpAny _ X.A (assign (.Name y py) X.env (.ref l)) _ _ s5;refine Lm (kM IX hN hy hx (v:=.ref l) rfl (fun s6 I6 zz=>?_) AO);obtain⟨a,sb,ha⟩:=zz;have QW:C≠a:=by rcases ha with rfl|ha;exact FC.2.1;exact fun z=>FC.2.2.2.2.1 _ _ ha z.symm
 refine⟨mm,GZ.sameBut sb QW,fun h' Ga=>⟨σ.set i (some (.ref l)),H4,?_,hf g4 lo e4 post⟩⟩;exact I6.turned (t':=s6.toks) (fun b ob hb e=>Ga.extBut b ob hb e) FC.1 FC.2.1 FC.2.2.2.1 FC.2.2.2.2.1 FC.2.2.2.2.2
theorem uS(n i:Nat){y:Str}{py mH:Pos}(hN:X.N.Nodup)(hy:X.N[i]?=some y)(hx:Loc X.env.scope y)(hc:X.calm=true)(c:bQ X scope N')(hn:X.N.length+n+1=N'.length)(hi:uT X EX tg UD it)(ug:∀d r x r',gf d r≠.exc x r')(uV:∀j∈js,X.N.length<=j/\j<X.N.length+n)
  (hg:∀C s H ex,yE (bI X scope C N' s H ex) EX tg js gf) (ht:∀C s H ex EX,BP (bI X scope C N' s H ex) EX ifs ft) (he:∀C s H ex EX,PV (bI X scope C N' s H ex) EX elt fe)
  (G3:swapsWith (.ListComp elt [⟨tg,UD,ifs,0⟩] scope pos) (some (.Name y py)) mH.line X.env=pure true:=by rfl) (hs:∀x,foldedSetIterable UD X.env x=pure x:=by exact Bz)
  (AO:IL X y:=by exact NP):nW X EX (.Assign [.Name y py] (.ListComp elt [⟨tg,UD,ifs,0⟩] scope pos) mH) (aN i (aU n it gf ft fe)):=
 pP n i (f:=fun d=>Gj (oM i d)) hc c hn hi ug uV hg ht he hN hy hx G3 (fun {G F4 H4 F σ rP l d E} g4 lo e4 o=>by obtain⟨F5,e5,g5,dn⟩:=lo.fast g4;obtain⟨mQ,g2,q⟩:=kj (L:=lc X EX) g5 dn (Out.PN o);exact q F5 H4 _ (e4.trans e5) g2) hs AO
theorem pB(n i:Nat){y:Str}{py mH:Pos}(hN:X.N.Nodup)(hy:X.N[i]?=some y)(hx:Loc X.env.scope y)(hc:X.calm=true)(c:bQ X scope N')(hn:X.N.length+n+1=N'.length)(hi:uT X EX tg UD it)(ug:∀d r x r',gf d r≠.exc x r')(uV:∀j∈js,X.N.length<=j/\j<X.N.length+n)
  (hg:∀C s H ex,yE (bI X scope C N' s H ex) EX tg js gf) (ht:∀C s H ex EX,BP (bI X scope C N' s H ex) EX ifs ft) (he:∀C s H ex EX,PV (bI X scope C N' s H ex) EX elt fe)
  (G3:swapsWith (.ListComp elt [⟨tg,UD,ifs,0⟩] scope pos) (some (.Name y py)) mH.line X.env=pure true:=by rfl) (hs:∀x,foldedSetIterable UD X.env x=pure x:=by exact Bz)
  (AO:IL X y:=by exact NP):nW X EX (.Assign [.Name y py] (.ListComp elt [⟨tg,UD,ifs,0⟩] scope pos) mH) (dZ i (aU n it gf ft fe)):=
 pP n i (f:=fun d=>Gj (En i d)) hc c hn hi ug uV hg ht he hN hy hx G3 (fun {G F4 H4 F σ rP l d E} g4 lo e4 o=>by obtain⟨mQ,g2,q⟩:=qG (L:=lc X EX) g4 lo (Out.PN o);exact q F4 H4 _ e4 g2) hs AO
end
section
variable{X:Cx}{EX:XE}{L:Lc}{tg e a b:Expr}{fa fb fe:M D}{G:Fx}{F:Hp}
theorem He(h:dB L.K F p vs)(r:aI L.K L.mg F vs ds):FQ L G F (Vd L.K p) ds:=fun σ i F' H' ρ s g=>by have sq:dB L.K H' p vs:=dB.same (dB.same h s) g.sub;have hl:=r.length;refine⟨fun hi=>⟨vs,vs[i]' T9,sq,by simp[show i<vs.length by lia]⟩,fun hi=>⟨vs,sq,T9⟩,fun x FP ⟨e,y⟩=>?_⟩;subst e;refine⟨F',aL.refl _,g,fun d hd=>?_⟩;obtain⟨v,h1,h2⟩:=(r.same s).get hd;rw[y vs sq] at h1;cases h1;exact h2
theorem Q17(h:cU L.K F p vs)(r:aI L.K L.mg F vs ds):FQ L G F (Vc L.K p) ds:=fun σ i F' H' ρ s g=>by have sq:cU L.K H' p vs:=cU.same (cU.same h s) g.sub;have hl:=r.length;refine⟨fun hi=>⟨vs,vs[i]' T9,sq,by simp[show i<vs.length by lia]⟩,fun hi=>⟨vs,sq,T9⟩,fun x FP ⟨e,y⟩=>?_⟩;subst e;refine⟨F',aL.refl _,g,fun d hd=>?_⟩;obtain⟨v,h1,h2⟩:=(r.same s).get hd;rw[y vs sq] at h1;cases h1;exact h2
theorem Hd(lo:Int)(n:Nat):FQ L G F (TY lo n) ((List.range n).map fun(k:Nat)=>.int (lo+k)):=fun σ i F' H' ρ s g=>by
 refine⟨fun hi=>(by simpa using hi:i<n),fun hi=>(Nat.le_of_eq (by simpa using hi.symm):n<=i),fun x FP ⟨e,y⟩=>?_⟩;subst e y;refine⟨F',aL.refl _,g,fun d hd=>?_⟩;rw[GF] at hd;cases q:(List.range n)[i]? with
 |none=>rw[q] at hd;cases hd|some k=>
  rw[q] at hd;have:k=i:=by have:=List.getElem?_eq_some_iff.mp q;obtain⟨h1,h2⟩:=this;simp at h2;exact h2.symm
  subst this;cases hd;exact .int _
def Wq(K:Frag)(tl:TE):TI:=fun σ H R=>tl σ H fun x H1=>∃p,x=.ref p/\(((∃xs,cU K H1 p xs)/\R (Vc K p) H1)\/((∃xs,dB K H1 p xs)/\R (Vd K p) H1))
theorem Of(hl:PE X l tl):PI X tg l (Wq X.K tl):=by
 intro UW s σ H R I h;refine bS (hl UW s σ H _ I h) fun v s1 zz=>?_;obtain⟨x,H1,I1,r1,q1⟩:=zz;obtain⟨p,e,q1⟩:=q1;subst e;cases r1;rcases q1 with ⟨⟨xs,hq⟩,q⟩|⟨⟨xs,hq⟩,q⟩
 obtain⟨aD,rv,pl,hz⟩:=I1.list hq;refine Xc pl.isList ?_;refine⟨s1.heap.objs.size,[s1.heap.objs.size],_,_,H1,rfl,I1.kept (t':=s1.toks) fun b o e=>WL _ e,BF p _,⟨_,PQ _ rfl,rfl,rfl⟩,fun b hb=>?_,q⟩;have e:b=s1.heap.objs.size:=by simpa using hb
 subst e;exact I1.p8 (Uj _) (I1.cg.fresh (Uj _));obtain⟨aD,rv,pl,hz⟩:=I1.tuple hq;refine xO (show s1.heap.IsTuple p aD.toArray from pl) ?_;refine⟨s1.heap.objs.size,[s1.heap.objs.size],_,_,H1,rfl,I1.kept (t':=s1.toks) fun b o e=>WL _ e,yB p _,⟨_,PQ _ rfl,rfl,rfl⟩,fun b hb=>?_,q⟩;have e:b=s1.heap.objs.size:=by simpa using hb
 subst e;exact I1.p8 (Uj _) (I1.cg.fresh (Uj _))
theorem cQ(h:PV X EX e fe):uT X EX tg e (dC fe):=(Of h).le fun σ H Q bx=>dm bx fun G F F1 H1 bo d1 x s1 g1 r1 o1=>by obtain⟨ds,e,q⟩:=o1.opt;cases r1 with|tup h1 r1=>cases e;exact⟨_,rfl,.inr ⟨⟨_,dB.same h1 g1.sub⟩,q F1 H1 _ s1 g1 (He h1 r1)⟩⟩|lst h1 r1=>cases e;exact⟨_,rfl,.inl ⟨⟨_,cU.same h1 g1.sub⟩,q F1 H1 _ s1 g1 (Q17 h1 r1)⟩⟩|_=>cases e
theorem bY{fl:List (M D)}{p pos:Pos}(hg:Gl X "range")(hm:X.mg "range" = none)(ha:As X EX [a] (mL fl))(hs:starEach [a] X.env=[(false,eval a X.env)]:=by rfl):uT X EX tg (.Call (.Name "range" p) [a] [] pos) (cH fl):=(Bn hg hm ha hs).le fun σ H Q bx=>dm bx fun G F F1 H1 bo d1 xs s1 g1 r1 o1=>by
 obtain⟨ds,e,q⟩:=o1.opt;unfold uJ at e;split at e;rename_i j;cases r1 with|cons h r1=>obtain rfl:=aI.n r1;obtain rfl:=Den.i h;split at e;rename_i hb;cases e;refine⟨j,rfl,hb.1,hb.2,q F1 H1 _ s1 g1 ?_⟩;have:=Hd (L:=lc X EX) (G:=G) (F:=F1) 0 j.toNat;simp only[Int.zero_add] at this;exact this;cases e
 cases e
end
section
variable{X:Cx}{EX:XE}{L:Lc}{e a b:Expr}{fa fb fe:M D}{pos p:Pos}{x:Str}{id T:String}
def KS(L:Lc)(r:O6->Hp->VK->Prop)(g:D->PM):Prop:=∀G F H σ ρ x dx d Q,L.Good G F H σ ρ->RR L G F H σ ρ x dx->g dx=some d->Gv L G F σ ρ d Q->r [x] H Q
theorem nM(ha:PR X EX a fa)(hs:Ys X a []:=by rfl):PA X [a] (fun σ H Q=>lift (lc X EX) (RR (lc X EX)) fa σ H fun v H'=>Q [v] H'):=(cb ha fN hs).le fun σ H Q h=>h
theorem eE(hc:dF X (.builtin id) r)(hg:KS (lc X EX) r g)(sN:Gl X x)(hm:X.mg x=none)(hv:bootBuiltins x=some (.builtin id))(ha:PR X EX a fa)(hn:x≠"__name__" := by decide)(jH:Yw x:=by decide)(hs:Ys X a []:=by rfl):PV X EX (.Call (.Name x p) [a] [] pos) (m1 g fa):=
 (iT hc sN hm hv (nM ha hs) hn jH hs rfl).le fun σ H Q bx=>dm bx fun G F F1 H1 bo d1 x s1 g1 r1 o1=>by obtain⟨d,e,q⟩:=o1.opt;exact hg G F1 H1 σ bo x d1 d Q g1 r1 e (fX.same s1 q)
theorem Br(hc:dF X (.type T) r)(hg:KS (lc X EX) r g)(sN:Gl X x)(hm:X.mg x=none)(hv:bootBuiltins x=some (.type T))(ha:PR X EX a fa)(hn:x≠"__name__" := by decide)(jH:Yw x:=by decide)(hs:Ys X a []:=by rfl):PV X EX (.Call (.Name x p) [a] [] pos) (m1 g fa):=
 (kH hc sN hm hv (nM ha hs) hn jH hs rfl).le fun σ H Q bx=>dm bx fun G F F1 H1 bo d1 x s1 g1 r1 o1=>by obtain⟨d,e,q⟩:=o1.opt;exact hg G F1 H1 σ bo x d1 d Q g1 r1 e (fX.same s1 q)
theorem qN(hc:dF X (.type T) r)(hg:TV (lc X EX) r g)(sN:Gl X x)(hm:X.mg x=none)(hv:bootBuiltins x=some (.type T))(ha:As X EX (e::es) (mL fl))(hn:x≠"__name__" := by decide)(jH:Yw x:=by decide)(he:Ys X e es:=by rfl) (iP:OR X pos es:=by rfl):PV X EX (.Call (.Name x p) (e::es) [] pos) (mF g fl):=
 (kH hc sN hm hv ha hn jH he iP).le fun σ H Q bx=>dm bx fun G F F1 H1 bo d1 xs s1 g1 r1 o1=>by obtain⟨d,e,q⟩:=o1.opt;exact hg G F1 H1 σ bo xs d1 d Q g1 r1 e (fX.same s1 q)
theorem RR.seq(h:RR L G F H σ ρ v d)(g:L.Good G F H σ ρ)(e:cy d=some ds) : ∃p vs,v=.ref p/\aI L.K L.mg F vs ds/\((d=.lst ds/\cU L.K H p vs)\/(d=.tup ds/\dB L.K H p vs/\dB L.K F p vs)):=by
 rcases h with h|⟨l,rfl,h⟩;cases h with|tup h1 r1=>cases e;exact⟨_,_,rfl,r1,.inr ⟨rfl,dB.same h1 g.sub,h1⟩⟩|lst h1 r1=>cases e;exact⟨_,_,rfl,r1,.inl ⟨rfl,cU.same h1 g.sub⟩⟩|_=>cases e
 cases d with|lst xs=>cases e;obtain⟨vs,h1,h2⟩:=h;exact⟨l,vs,rfl,h2,.inl ⟨rfl,cU.of h1⟩⟩|gK ks xs=>cases e|ins c ns xs=>cases e|_=>exact h.elim
theorem Q1x:KS L (fun xs H Q=>∃p ys,xs=[.ref p]/\(cU L.K H p ys\/dB L.K H p ys)/\Q (.int ys.length) H) bp:=fun G F H σ ρ x dx d Q g0 rx e k=>by
 have hs:∃ds,cy dx=some ds/\d=.int ds.length:=by cases dx<;>cases e<;>exact⟨_,rfl,rfl⟩
 obtain⟨ds,h1,rfl⟩:=hs;obtain⟨p,vs,rfl,r,q⟩:=RR.seq rx g0 h1;refine⟨p,vs,rfl,q.elim (fun z=>.inl z.2) (fun z=>.inr z.2.1),?_⟩;rw[r.length];exact k F H _ (aL.refl _) g0 (.int _)
theorem GW:KS L (fun xs H Q=>∃p ys,xs=[.ref p]/\((cU L.K H p ys/\∀l,H l=none->Q (.ref l) (upd H l (.tup ys)))\/(dB L.K H p ys/\Q (.ref p) H))) iA:=fun G F H σ ρ x dx d Q g0 rx e k=>by
 have hs:∃ds,cy dx=some ds/\d=.tup ds:=by cases dx<;>cases e<;>exact⟨_,rfl,rfl⟩
 obtain⟨ds,h1,rfl⟩:=hs;obtain⟨p,vs,rfl,r,q⟩:=RR.seq rx g0 h1;refine⟨p,vs,rfl,?_⟩;rcases q with ⟨rfl,q⟩|⟨rfl,q,q2⟩
 refine .inl ⟨q,fun l hl=>?_⟩;have sF:=bh (o:=.tup vs) (g0.sub.free hl);exact k _ _ _ sF (g0.laid hl) (.tup (dB.of aJ) (r.same sF));exact .inr ⟨q,k F H _ (aL.refl _) g0 (.tup q2 r)⟩
theorem jr(sN:Gl X x)(hm:X.mg x=none)(hv:bootBuiltins x=some (.type "list"))(ha:PR X EX a fa)(hn:x≠"__name__" := by decide)(jH:Yw x:=by decide)(hs:Ys X a []:=by rfl):PF X EX (.Call (.Name x p) [a] [] pos) (m1 iR fa):=
 (kH tO sN hm hv (nM ha hs) hn jH hs rfl).le fun σ H Q bx=>dm bx fun G F F1 H1 bo d1 x s1 g1 r1 o1=>by
  obtain⟨d,e,q⟩:=o1.opt;have hs:∃ds,cy d1=some ds/\d=.lst ds:=by cases d1<;>cases e<;>exact⟨_,rfl,rfl⟩
  obtain⟨ds,h1,rfl⟩:=hs;obtain⟨p,vs,rfl,r,z⟩:=RR.seq r1 g1 h1;refine⟨p,vs,rfl,z.elim (fun z=>.inl z.2) (fun z=>.inr z.2.1),fun l hl=>?_⟩;exact q _ _ _ s1 (g1.made hl) ⟨l,rfl,g1.loose hl ⟨vs,aJ,r⟩⟩
theorem vD:TV L (fun xs H Q=>∃i j,xs=[.int i,.int j]/\Q (.int (if j > i then j else i)) H) maxD:=fun G F H σ ρ xs Ue d Q g0 rx e k=>by
 unfold maxD at e;split at e;rename_i i j;cases rx with|cons h1 rx=>cases rx with|cons h2 rx=>obtain rfl:=aI.n rx;obtain rfl:=Den.i h1;obtain rfl:=Den.i h2;cases e;exact⟨i,j,rfl,k F H _ (aL.refl _) g0 (.int _)⟩
 cases e
theorem xp:TV L (fun xs H Q=>(∃i,xs=[.int i]/\Q (.int i) H)\/∃k,xs=[.bl k]/\Q (.int (if k then 1 else 0)) H) intD:=fun G F H σ ρ xs Ue d Q g0 rx e k=>by
 unfold VP.intD at e;split at e;rename_i i;cases rx with|cons h1 rx=>obtain rfl:=aI.n rx;obtain rfl:=Den.i h1;cases e;exact .inl ⟨i,rfl,k F H _ (aL.refl _) g0 (.int _)⟩
 rename_i i;cases rx with|cons h1 rx=>obtain rfl:=aI.n rx;obtain rfl:=Den.b h1;cases e;exact .inr ⟨i,rfl,k F H _ (aL.refl _) g0 (.int _)⟩
 cases e
end
mutual
def toPy:D->PyData|.bC=>.none|.bl b=>.bool b|.int i=>.int i|.str x=>.str x|.tup xs=>.tuple (toPys xs)|.lst xs=>.list (toPys xs)|.gK _ _=>.none|.ins _ _ _=>.none|.FW _ _ _=>.none
def toPys:RN->List PyData|[]=>[]|x::xs=>toPy x::toPys xs
end
mutual
theorem tV:∀(n m:Nat)(x y:D),plain n x=true->plain m y=true->PyData.eqv (toPy x) (toPy y)=eqB x y
|n,m,.tup xs,.tup ys,h1,h2=>by cases n with|zero=>cases h1|succ n=>cases m with|zero=>cases h2|succ m=>exact pU n m xs ys h1 h2
|n,m,.lst xs,.lst ys,h1,h2=>by cases n with|zero=>cases h1|succ n=>cases m with|zero=>cases h2|succ m=>exact pU n m xs ys h1 h2
|n,m,.bC,y,h1,h2=>by cases y<;>first|rfl|(cases m<;>cases h2)
|n,m,.bl _,y,h1,h2=>by cases y<;>first|rfl|(cases m<;>cases h2)
|n,m,.int _,y,h1,h2=>by cases y<;>first|rfl|(cases m<;>cases h2)
|n,m,.str _,y,h1,h2=>by cases y<;>first|rfl|(cases m<;>cases h2)
|n,m,.gK _ _,y,h1,h2=>by cases n<;>cases h1|n,m,.ins _ _ _,y,h1,h2=>by cases n<;>cases h1|n,m,.FW _ _ _,y,h1,h2=>by cases n<;>cases h1|n,m,.tup xs,.bC,h1,h2=>rfl|n,m,.tup xs,.bl _,h1,h2=>rfl|n,m,.tup xs,.int _,h1,h2=>rfl|n,m,.tup xs,.str _,h1,h2=>rfl|n,m,.tup xs,.lst _,h1,h2=>rfl|n,m,.tup xs,.gK _ _,h1,h2=>by cases m<;>cases h2|n,m,.tup xs,.ins _ _ _,h1,h2=>by cases m<;>cases h2|n,m,.tup xs,.FW _ _ _,h1,h2=>by cases m<;>cases h2|n,m,.lst xs,.bC,h1,h2=>rfl|n,m,.lst xs,.bl _,h1,h2=>rfl|n,m,.lst xs,.int _,h1,h2=>rfl|n,m,.lst xs,.str _,h1,h2=>rfl|n,m,.lst xs,.tup _,h1,h2=>rfl|n,m,.lst xs,.gK _ _,h1,h2=>by cases m<;>cases h2|n,m,.lst xs,.ins _ _ _,h1,h2=>by cases m<;>cases h2|n,m,.lst xs,.FW _ _ _,h1,h2=>by cases m<;>cases h2
theorem pU:∀(n m:Nat)(xs ys:RN),dE n xs=true->dE m ys=true->PyData.eqvAll (toPys xs) (toPys ys)=m8 xs ys|n,m,[],[],_,_=>rfl|n,m,[],_::_,_,_=>rfl|n,m,_::_,[],_,_=>rfl|n,m,x::xs,y::ys,h1,h2=>by simp only[dE,Bool.and_eq_true] at h1 h2;show (PyData.eqv (toPy x) (toPy y)&&PyData.eqvAll (toPys xs) (toPys ys))=(eqB x y&&m8 xs ys);rw[tV n m x y h1.1 h2.1,pU n m xs ys h1.2 h2.2]
end
mutual
theorem sX:∀(n:Nat)(x:D),plain n x=true->(toPy x).canLay0=true/\(toPy x).depth<=n
|n,.bC,_=>⟨rfl,IA _⟩|n,.bl _,_=>⟨rfl,IA _⟩|n,.int _,_=>⟨rfl,IA _⟩|n,.str x,h=>⟨by cases n<;>exact(Array.all_toList.symm).trans h,IA _⟩|n,.tup xs,h=>by cases n with|zero=>cases h|succ n=>obtain⟨h1,h2⟩:=lH n xs h;exact⟨h1,Nat.succ_le_succ h2⟩
|n,.lst xs,h=>by cases n with|zero=>cases h|succ n=>obtain⟨h1,h2⟩:=lH n xs h;exact⟨h1,Nat.succ_le_succ h2⟩
|n,.gK _ _,h=>by cases n<;>cases h|n,.ins _ _ _,h=>by cases n<;>cases h|n,.FW _ _ _,h=>by cases n<;>cases h
theorem lH:∀(n:Nat)(xs:RN),dE n xs=true->PyData.canLayAll0 (toPys xs)=true/\PyData.depthAll (toPys xs)<=n
|n,[],_=>⟨rfl,IA _⟩|n,x::xs,h=>by
 simp only[dE,Bool.and_eq_true] at h;obtain⟨h1,h2⟩:=sX n x h.1;obtain⟨h3,h4⟩:=lH n xs h.2;refine⟨?_,?_⟩;show ((toPy x).canLay0&&PyData.canLayAll0 (toPys xs))=true;rw[h1,h3];rfl;show max (toPy x).depth (PyData.depthAll (toPys xs))<=n
 lia
end
section
variable{X:Cx}{EX:XE}{L:Lc}{UW:P4}{σ:St}{H F:Hp}{s:Shared}
theorem Den.reads(I:Inv X UW σ H s)(sub:aL F H){v:V}{d:D}{n:Nat}{u:Value}(h:Den X.K X.mg F v d):plain n d=true->RelV v u->∃as,Reads s.heap u (toPy d) as:=Den.rec (motive_1:=fun v d _=>∀n u,plain n d=true->RelV v u->∃as,Reads s.heap u (toPy d) as) (motive_2:=fun vs ds _=>∀n us,dE n ds=true->Vals vs us->∃as,ReadsAll s.heap us (toPys ds) as)
 (fun _ _ _ r=>by cases r;exact⟨_,.none⟩) (fun b _ _ _ r=>by cases r;exact⟨_,.bool b⟩) (fun i _ _ _ r=>by obtain⟨t,rfl⟩:=r;exact⟨_,.int i t⟩) (fun x _ _ _ r=>by obtain⟨t,rfl⟩:=r;exact⟨_,.str x t⟩)
 (fun h _ ih n _ hp r=>by cases r;cases n with|zero=>cases hp|succ n=>obtain⟨aD,rv,⟨o,ho,hc,m,hd⟩,_⟩:=I.tuple (dB.same h sub);obtain⟨as,ha⟩:=ih n _ hp rv;exact⟨_,.tuple ho hc hd (by simpa using ha)⟩)
 (fun h _ ih n _ hp r=>by cases r;cases n with|zero=>cases hp|succ n=>obtain⟨aD,rv,pl,_⟩:=I.list (cU.same h sub);obtain⟨o,ho,hc,m,hd⟩:=pl.isList;obtain⟨as,ha⟩:=ih n _ hp rv;exact⟨_,.list ho hc hd (by simpa using ha)⟩)
 (fun _ _ _ n _ hp _=>by cases n<;>cases hp) (fun _ _ _ _ n _ hp _=>by cases n<;>cases hp) (fun _ _ _ _ _ n _ hp _=>by cases n<;>cases hp) (fun _ _ _ r=>by cases r;exact⟨_,.nil⟩)
 (fun _ _ h t n _ hp r=>by cases r with|cons r1 r2=>simp only[dE,Bool.and_eq_true] at hp;obtain⟨as,ha⟩:=h n _ hp.1 r1;obtain⟨bs,hb⟩:=t n _ hp.2 r2;exact⟨_,.cons ha hb⟩) h n u
def Bs(K:Frag)(mg:MG)(neg:Bool):R2:=fun x y H Q=>∃F dx dy,aL F H/\Den K mg F x dx/\Den K mg F y dy/\plain 60 dx=true/\plain 60 dy=true/\Q (.bl (if neg then !eqB dx dy else eqB dx dy)) H
theorem kL(h:plain 60 d=true):SeqAt.shaped (toPy d)=true:=by obtain⟨h1,h2⟩:=sX 60 d h;unfold SeqAt.shaped;rw[h1,Ub T9];rfl
theorem jq(hu:X.A.units+64<cLine):gC X (compareOp .Eq) (Bs X.K X.mg false):=by intro UW s σ H x y v u Q I rx ry h;obtain⟨F,dx,dy,sub,h1,h2,p1,p2,q⟩:=h;obtain⟨as,ra⟩:=Den.reads I sub h1 p1 rx;obtain⟨bs,rb⟩:=Den.reads I sub h2 p2 ry;exact SeqAt.compareEq_shaped ra rb (kL p1) (kL p2) hu (by rw[tV 60 60 dx dy p1 p2];exact⟨.bl _,H,I,rfl,q⟩)
theorem uB(hu:X.A.units+64<cLine):gC X (compareOp .NotEq) (Bs X.K X.mg true):=by intro UW s σ H x y v u Q I rx ry h;obtain⟨F,dx,dy,sub,h1,h2,p1,p2,q⟩:=h;obtain⟨as,ra⟩:=Den.reads I sub h1 p1 rx;obtain⟨bs,rb⟩:=Den.reads I sub h2 p2 ry;exact SeqAt.compareNe_shaped ra rb (kL p1) (kL p2) hu (by rw[tV 60 60 dx dy p1 p2];exact⟨.bl _,H,I,rfl,q⟩)
theorem oi:lj L (Bs L.K L.mg false) bG:=fun G F H σ ρ x y dx dy d Q g0 rx ry e k=>by unfold bG at e;split at e;rename_i hp;cases e;rw[NU] at hp;exact⟨F,dx,dy,g0.sub,rx,ry,hp.1,hp.2,k F H _ (aL.refl _) g0 (.bl _)⟩;cases e
theorem DA:lj L (Bs L.K L.mg true) dz:=fun G F H σ ρ x y dx dy d Q g0 rx ry e k=>by unfold dz at e;split at e;rename_i hp;cases e;rw[NU] at hp;exact⟨F,dx,dy,g0.sub,rx,ry,hp.1,hp.2,k F H _ (aL.refl _) g0 (.bl _)⟩;cases e
end
section
variable{prog:Program}{w:World}{A:Around}{E:UI}{s:Shared}
theorem mz{items}(hit:s.heap.IsTupleIter it t i)
  (ht:s.heap.IsTuple t items) (hx:items[i]?=some x)
  (hQ:∀h',h'.IsTupleIter it t (i+1)->Heap.SameBut it s.heap h'->Q x {s with heap:=h'}) :
  wpAny (model prog w) A (Builtin.SmallTypes.nextOf (.ref it)) Q E s:=by
 obtain⟨o,ho,hc,hd⟩:=id hit;refine VP.gl fun QQ eQ=>?_;obtain⟨ol,Uu,_,nl,VY⟩:=ht;subst eQ;unfold Builtin.SmallTypes.nextOf;refine U0 (O4 (name:=Str.ofString "__next__") hit.typeIs M8 (xM M8 hit.typeIs PySem.F.entry_tuple_iterator_next ?_ (PySem.F.args_tuple_iterator_next_1 _)));show wpAny _ _ (field (.ref it) 0 >>= _) _ _ s;refine U0 (Xt ho hd (x:=.ref t) rfl ?_);show wpAny _ _ (if (Value.ref t == Value.none)=true then _ else _) _ _ s;rw[UE (show ¬((Value.ref t == Value.none)=true) from BC)];show wpAny _ _ (field (.ref it) 1 >>= _) _ _ s;refine U0 (Xt ho hd (x:=.int i 0) rfl ?_);show wpAny _ _ (seqItems? (.ref t) >>= _) _ _ s;refine U0 (ML Uu VY ?_);simp only[BA,hx];refine U0 (BS ho hd G9 (Qo ⟨x,rfl,Qo (hQ _ ?_ (BV ..))⟩));exact⟨_,vT _ ho (Ft (Wr hd _)),(Obj.cls_mapFields ..).trans hc,by rw[Wr hd];simp[rawInt]⟩
theorem Q1B{items}(hh:A.handled=none)
  (hit:s.heap.IsTupleIter it t i) (ht:s.heap.IsTuple t items) (hx:items[i]?=none)
  (hE:∀h' e,Heap.ExtBut it s.heap h'->(∃o,h'.get? e=some o/\o.cls=.type "StopIteration")->E (.ref e) {s with heap:=h'}) :
  wpAny (model prog w) A (Builtin.SmallTypes.nextOf (.ref it)) Q E s:=by
 obtain⟨o,ho,hc,hd⟩:=id hit;refine VP.gl fun QQ eQ=>?_;obtain⟨ol,Uu,_,nl,VY⟩:=ht;subst eQ;unfold Builtin.SmallTypes.nextOf;refine U0 (O4 (name:=Str.ofString "__next__") hit.typeIs M8 (xM M8 hit.typeIs PySem.F.entry_tuple_iterator_next ?_ (PySem.F.args_tuple_iterator_next_1 _)));show wpAny _ _ (field (.ref it) 0 >>= _) _ _ s;refine U0 (Xt ho hd (x:=.ref t) rfl ?_);show wpAny _ _ (if (Value.ref t == Value.none)=true then _ else _) _ _ s;rw[UE (show ¬((Value.ref t == Value.none)=true) from BC)];show wpAny _ _ (field (.ref it) 1 >>= _) _ _ s;refine U0 (Xt ho hd (x:=.int i 0) rfl ?_);show wpAny _ _ (seqItems? (.ref t) >>= _) _ _ s;refine U0 (ML Uu VY ?_);simp only[BA,hx];refine U0 (K9 (U0 (BS ho hd G9 ?_)));show wpAny _ _ (newExc (.type "StopIteration") [] >>= _) _ _ _;refine U0 ?_;simp only[newExc,newTuple];refine U0 (MC ?_ (by size_fits));refine U0 (m:=firstArgMember _ _) (SU (a:=Value.none) (by first|rfl|(simp only[firstArgMember];rfl)) ?_);refine MC ?_ (by size_fits);simp only[raiseNew];refine U0 (wpAny_handled ?_);first|rw[show A.in1.handled=none from hh]|rw[hh]
 refine U0 (Qo (wpAny_throw ?_));exact hE _ _ (((BV ..).extBut.push _).push _) ⟨_,PQ _ rfl,rfl⟩
end
def jL(t:Bool)(it a:Addr)(i:Nat)(h:Heap):Prop:=if t then h.IsTupleIter it a i else h.IsListIter it a i
def pF(t:Bool)(h:Heap)(a:Addr)(items:Array Value):Prop:=if t then h.IsTuple a items else h.IsList a items
theorem jL.at(x:jL t it a i h)(e:∀o,h.get? it=some o->h'.get? it=some o):jL t it a i h':=by cases t;exact Heap.IsListIter.at (h:=h) (h':=h') x e;exact Heap.IsTupleIter.at (h:=h) (h':=h') x e
theorem jL.obj(x:jL t it a i h):∃o,h.get? it=some o/\∀v,o.data≠.cell v:=by cases t;obtain⟨o,e,c,d⟩:=(show h.IsListIter it a i from x);exact⟨o,e,fun v z=>by rw[d] at z;cases z⟩;obtain⟨o,e,c,d⟩:=(show h.IsTupleIter it a i from x);exact⟨o,e,fun v z=>by rw[d] at z;cases z⟩
theorem kA(hh:A.handled=none)(t:Bool)(it l:Addr)(BM:l≠it)(items:Array Value) : Draws prog w A it [it,l] items.size (fun i v=>items[i]?=some v) (fun i h=>jL t it l i h/\pF t h l items):=by
 cases t with
 |false=>exact Draws.list hh it l BM items|true=>exact {
  live:=fun _ _ st=>let ⟨o,ho,_⟩:=st.1;⟨o,ho⟩
  frame:=fun _ _ _ st hk=>⟨Heap.IsTupleIter.at st.1 fun o e=>hk it G9 o e,by obtain⟨o,e,r⟩:=(show Heap.IsTuple _ l items from st.2);exact⟨o,hk l G9 o e,r⟩⟩
  item:=fun i s Q E hi st hQ=>by refine mz (show s.heap.IsTupleIter it l i from st.1) (show s.heap.IsTuple l items from st.2) (x:=items[i]) (by simp[hi]) fun h' GY Ga=>?_;refine hQ _ h' s.toks (by simp[hi]) ⟨GY,?_⟩ Ga;obtain⟨o,e,r⟩:=(show Heap.IsTuple _ l items from st.2);exact⟨o,Ga.extBut l o BM e,r⟩
  done:=fun s Q E st hE=>Q1B hh (show s.heap.IsTupleIter it l _ from st.1) (show s.heap.IsTuple l items from st.2) G9 hE}
section
variable{prog:Program}{w:World}{A:Around}{E:UI}{s:Shared}{z TI TO i1 i2:Addr}{J2 J3:Xr}{n1 n2 k:Nat}{P1 P2:Nat->Value->Prop}{Pn Qm:Nat->Heap->Prop}{a b:Value}
structure tJ(z TI TO i1 i2:Addr)(J2 J3:Xr):Prop where
 TIz:TI≠z
 TOz:TO≠z
 i1z:i1≠z
 i2z:i2≠z
 TITO:TI≠TO
 TIi1:TI≠i1
 TIi2:TI≠i2
 TOi1:TO≠i1
 TOi2:TO≠i2
 i12:i1≠i2
 z1:z∉J2
 z2:z∉J3
 o1:TO∉J2
 o2:TO∉J3
 YN:i1∉J3
 x21:i2∉J2
theorem BH{Q:UI}(D1:Draws prog w A i1 J2 n1 P1 Pn)(D2:Draws prog w A i2 J3 n2 P2 Qm)(D:tJ z TI TO i1 i2 J2 J3)
  (hz:IsZip s.heap z TI TO .none) (xA:IsPair s.heap TI (.ref i1) (.ref i2)) (zH:IsPair s.heap TO a b) (h1:Pn k s.heap) (h2:Qm k s.heap) (k1:k<n1) (k2:k<n2)
  (hQ:∀x y h' tk,P1 k x->P2 k y->IsZip h' z TI TO (rawInt s.heap.objs.size)->IsPair h' TO x y->Pn (k+1) h'->Qm (k+1) h'->IsPair h' s.heap.objs.size x y->(∀c o,c≠z->c≠TO->c≠i1->c≠i2->s.heap.get? c=some o->h'.get? c=some o)->Q (.ref s.heap.objs.size) {s with heap:=h',toks:=tk}) :
  wpAny (model prog w) A (Builtin.«zip.__next__» ⟨[.ref z],[]⟩) (fun fin s'=>∃v,fin=.done (.ret v)/\Q v s') E s:=by
 show wpAny _ _ (field (.ref z) 2 >>= _) _ _ _;refine U0 (Xt hz rfl (x:=.bool false) rfl ?_);show wpAny _ _ (field (.ref z) 3 >>= _) _ _ _;refine U0 (Xt hz rfl (x:=.ref TI) rfl ?_);refine U0 (ML xA rfl ?_);show wpAny _ _ (Builtin.SmallTypes.ownedTupleIsFree (.ref z) >>= _) _ _ _;refine U0 ?_;unfold Builtin.SmallTypes.ownedTupleIsFree;refine U0 (Xt hz rfl (x:=.none) rfl (Qo ?_));simp only[if_true];refine U0 (K9 ?_);refine U0 (Xt hz rfl (x:=.ref TO) rfl ?_);refine U0 (Oc hz G9 fun h₁ om jX=>?_);replace om:IsZip h₁ z TI TO .ellipsis:=om;refine U0 ?_;simp only[List.zipIdx_cons,List.zipIdx_nil,List.forIn_cons,List.forIn_nil];refine U0 (U0 (Td ?_));show wpAny _ _ (Builtin.SmallTypes.nextOf (.ref i1) >>= _) _ _ _;refine U0 (D1.item k _ _ _ k1 (D1.frame k _ h₁ h1 fun b hb o e=>jX.extBut b o (fun q=>D.z1 (q ▸ hb)) e) fun x mf Tx px J5 fZ=>Qo ?_);replace fZ:Heap.SameBut i1 h₁ mf:=fZ;have qe:IsPair mf TO a b:=fZ.extBut _ _ D.TOi1 (jX.extBut _ _ D.TOz zH);refine U0 (ML qe rfl ?_);refine U0 (Nk qe fun oH ue gA=>?_);replace ue:IsPair oH TO x b:=ue;replace gA:Heap.SameBut TO mf oH:=gA;refine U0 (E0 (Qo ?_));refine U0 (U0 (Td ?_));show wpAny _ _ (Builtin.SmallTypes.nextOf (.ref i2) >>= _) _ _ _;refine U0 (D2.item k _ _ _ k2 (D2.frame k _ oH h2 fun b hb o e=>gA.extBut b o (fun q=>D.o2 (q ▸ hb)) (fZ.extBut b o (fun q=>D.YN (q ▸ hb)) (jX.extBut b o (fun q=>D.z2 (q ▸ hb)) e))) fun y xE YK py QU jD=>Qo ?_);replace jD:Heap.SameBut i2 oH xE:=jD;have DD:IsPair xE TO x b:=jD.extBut _ _ D.TOi2 ue;refine U0 (ML DD rfl ?_);refine U0 (Nk DD fun lz uf k8=>?_);replace uf:IsPair lz TO x y:=uf;replace k8:Heap.SameBut TO xE lz:=k8;refine U0 (E0 (Qo (Qo ?_)));refine U0 (ML uf rfl ?_);refine U0 (wpAny_newTuple ?_);have hsz:lz.objs.size=s.heap.objs.size:=by rw[k8.1,jD.1,gA.1,fZ.1,jX.1]
 have Ko:IsZip lz z TI TO .ellipsis:=k8.extBut _ _ D.TOz.symm (jD.extBut _ _ D.i2z.symm (gA.extBut _ _ D.TOz.symm (fZ.extBut _ _ D.i1z.symm om)));have Rc:∀c o,c≠z->c≠TO->c≠i1->c≠i2->s.heap.get? c=some o->lz.get? c=some o:=fun c o c1 c2 c3 c4 e=>k8.extBut _ _ c2 (jD.extBut _ _ c4 (gA.extBut _ _ c2 (fZ.extBut _ _ c3 (jX.extBut _ _ c1 e))));have Rn:z<lz.objs.size:=UG Ko;show wpAny _ _ (Builtin.SmallTypes.ownedTupleHandOut (.ref z) (.ref lz.objs.size) >>= _) _ _ _;refine U0 ?_;unfold Builtin.SmallTypes.ownedTupleHandOut;have Ro:IsZip (lz.push {cls:=.type "tuple",data:=.seq #[x,y]}) z TI TO .ellipsis:=WL _ Ko;refine U0 (Oc Ro G9 fun Wn DN Kk=>?_);replace DN:IsZip Wn z TI TO (rawInt lz.objs.size):=DN;refine Oc DN G9 fun AW zJ Kl=>?_;replace zJ:IsZip AW z TI TO (rawInt lz.objs.size):=zJ;have up:∀c o,c≠z->lz.get? c=some o->AW.get? c=some o:=fun c o c1 e=>Kl.extBut _ _ c1 (Kk.extBut _ _ c1 (WL _ e));have J7:IsPair AW lz.objs.size x y:=Kl.extBut _ _ (Mv Rn) (Kk.extBut _ _ (Mv Rn) (PQ _ rfl));rw[hsz] at zJ J7;refine Qo ⟨_,rfl,?_⟩;show Q (.ref lz.objs.size) _;rw[hsz];refine hQ x y AW _ px py zJ (up _ _ D.TOz uf) (D1.frame _ mf AW J5 fun b hb o e=>up b o (fun q=>D.z1 (q ▸ hb)) (k8.extBut b o (fun q=>D.o1 (q ▸ hb)) (jD.extBut b o (fun q=>D.x21 (q ▸ hb)) (gA.extBut b o (fun q=>D.o1 (q ▸ hb)) e)))) (D2.frame _ xE AW QU fun b hb o e=>up b o (fun q=>D.z2 (q ▸ hb)) (k8.extBut b o (fun q=>D.o2 (q ▸ hb)) e)) J7 fun c o c1 c2 c3 c4 e=>up c o c1 (Rc c o c1 c2 c3 c4 e)
theorem FN{Q:Fin->Shared->Prop}{m:Nat}(hh:A.handled=none)(D1:Draws prog w A i1 J2 n1 P1 Pn)(D2:Draws prog w A i2 J3 n2 P2 Qm)(D:tJ z TI TO i1 i2 J2 J3)
  (hz:IsZip s.heap z TI TO .none) (xA:IsPair s.heap TI (.ref i1) (.ref i2)) (zH:IsPair s.heap TO a b) (h1:Pn k s.heap) (h2:Qm k s.heap) (DF:k=n1\/(k<n1/\k=n2))
  (hE:∀h' e tk,(∀c o,c≠z->c≠TO->c≠i1->c≠i2->s.heap.get? c=some o->h'.get? c=some o)->(∃o,h'.get? e=some o/\o.cls=.type "StopIteration")->E (.ref e) {s with heap:=h',toks:=tk}) :
  wpAny (model prog w) A (Builtin.«zip.__next__» ⟨[.ref z],[]⟩) Q E s:=by
 show wpAny _ _ (field (.ref z) 2 >>= _) _ _ _;refine U0 (Xt hz rfl (x:=.bool false) rfl ?_);show wpAny _ _ (field (.ref z) 3 >>= _) _ _ _;refine U0 (Xt hz rfl (x:=.ref TI) rfl ?_);refine U0 (ML xA rfl ?_);show wpAny _ _ (Builtin.SmallTypes.ownedTupleIsFree (.ref z) >>= _) _ _ _;refine U0 ?_;unfold Builtin.SmallTypes.ownedTupleIsFree;refine U0 (Xt hz rfl (x:=.none) rfl (Qo ?_));simp only[if_true];refine U0 (K9 ?_);refine U0 (Xt hz rfl (x:=.ref TO) rfl ?_);refine U0 (Oc hz G9 fun h₁ om jX=>?_);replace om:IsZip h₁ z TI TO .ellipsis:=om;refine U0 ?_;simp only[List.zipIdx_cons,List.zipIdx_nil,List.forIn_cons,List.forIn_nil];refine U0 (U0 (Td ?_));show wpAny _ _ (Builtin.SmallTypes.nextOf (.ref i1) >>= _) _ _ _;have YH:Pn k h₁:=D1.frame k _ h₁ h1 fun b hb o e=>jX.extBut b o (fun q=>D.z1 (q ▸ hb)) e;rcases DF with rfl|⟨k1,rfl⟩;refine U0 (D1.done _ _ _ YH fun mf e fZ he=>?_);obtain⟨oe,L7,Q1⟩:=he;have Km:IsZip mf z TI TO .ellipsis:=fZ _ _ D.i1z.symm om;have VZ:e≠z:=fun x=>by subst x;rw[Km] at L7;cases L7;simp at Q1
 refine Oc Km G9 fun oH _ gA=>hE oH e _ (fun c o c1 _ c3 _ x=>gA.extBut _ _ c1 (fZ _ _ c3 (jX.extBut _ _ c1 x))) ⟨oe,gA.extBut _ _ VZ L7,Q1⟩;refine U0 (D1.item k _ _ _ k1 YH fun x mf Tx px J5 fZ=>Qo ?_);replace fZ:Heap.SameBut i1 h₁ mf:=fZ;have qe:IsPair mf TO a b:=fZ.extBut _ _ D.TOi1 (jX.extBut _ _ D.TOz zH);refine U0 (ML qe rfl ?_);refine U0 (Nk qe fun oH ue gA=>?_);replace gA:Heap.SameBut TO mf oH:=gA;refine U0 (E0 (Qo ?_));refine U0 (U0 (Td ?_));show wpAny _ _ (Builtin.SmallTypes.nextOf (.ref i2) >>= _) _ _ _;refine U0 (D2.done _ _ _ (D2.frame k _ oH h2 fun b hb o e=>gA.extBut b o (fun q=>D.o2 (q ▸ hb)) (fZ.extBut b o (fun q=>D.YN (q ▸ hb)) (jX.extBut b o (fun q=>D.z2 (q ▸ hb)) e))) fun xE e jD he=>?_);replace jD:Heap.ExtBut i2 oH xE:=jD;obtain⟨oe,L7,Q1⟩:=he;have Kn:IsZip xE z TI TO .ellipsis:=jD _ _ D.i2z.symm (gA.extBut _ _ D.TOz.symm (fZ.extBut _ _ D.i1z.symm om));have VZ:e≠z:=fun x=>by subst x;rw[Kn] at L7;cases L7;simp at Q1
 refine Oc Kn G9 fun lz _ k8=>hE lz e _ (fun c o c1 c2 c3 c4 x=>k8.extBut _ _ c1 (jD _ _ c4 (gA.extBut _ _ c2 (fZ.extBut _ _ c3 (jX.extBut _ _ c1 x))))) ⟨oe,k8.extBut _ _ VZ L7,Q1⟩
end
abbrev DV(t:Bool)(l:Addr):Obj:={cls:=.type (if t then "tuple_iterator" else "list_iterator"),data:=.fields #[.ref l,.int 0 0]}
abbrev U2(h:Heap)(t1:Bool)(l1:Addr):Heap:=h.push (DV t1 l1)
abbrev U3(h:Heap)(t1 t2:Bool)(l1 l2:Addr):Heap:=(U2 h t1 l1).push (DV t2 l2)
abbrev U4(h:Heap)(t1 t2:Bool)(l1 l2:Addr):Heap:=(U3 h t1 t2 l1 l2).push {cls:=.type "tuple",data:=.seq #[.ref h.objs.size,.ref (U2 h t1 l1).objs.size]}
abbrev U5(h:Heap)(t1 t2:Bool)(l1 l2:Addr):Heap:=(U4 h t1 t2 l1 l2).push {cls:=.type "tuple",data:=.seq #[.none,.none]}
abbrev P5(h:Heap)(t1 t2:Bool)(l1 l2:Addr):Heap:=(U5 h t1 t2 l1 l2).push {cls:=.type "zip",data:=.fields #[.none,.bool false,.bool false,.ref (U3 h t1 t2 l1 l2).objs.size,.ref (U4 h t1 t2 l1 l2).objs.size]}
theorem IsTuple.push{h:Heap}{a:Addr}{items:Array Value}(x:h.IsTuple a items)(o:Obj):(h.push o).IsTuple a items:=let ⟨ob,e,r⟩:=x;⟨ob,WL _ e,r⟩
set_option maxHeartbeats 4000000 in
theorem Bb(t1 t2:Bool)(l1 l2:Addr)(xs ys:Array Value) : Meets (Builtin.«zip.__new__» ⟨[.type "zip",.ref l1,.ref l2],[]⟩) (fun _ R s=>pF t1 s.heap l1 xs/\pF t2 s.heap l2 ys/\R (.ok (.ret (.ref (U5 s.heap t1 t2 l1 l2).objs.size))) {s with heap:=P5 s.heap t1 t2 l1 l2}):=
 .of_wp fun prog w A R s h=>by
  refine VP.gl fun QQ eQ=>?_;obtain⟨hp,g,d,tk,os⟩:=s;obtain⟨Kg,Kh,h⟩:=h;subst eQ;have G2:=sub_zip;cases t1 with
   |false=>
    have QX:Heap.IsList (Shared.heap ⟨hp,g,d,tk,os⟩) l1 xs:=Kg;cases t2 with
    |false=>
     have LQ:Heap.IsList (Shared.heap ⟨hp.push {cls:=.type "list_iterator",data:=.fields #[.ref l1,.int 0 0]},g,d,tk,os⟩) l2 ys:=Heap.IsList.push Kh _
     wp_walk using Xc QX,Xc LQ
     exact⟨_,rfl,h⟩
    |true=>
     have LQ:Heap.IsTuple (Shared.heap ⟨hp.push {cls:=.type "list_iterator",data:=.fields #[.ref l1,.int 0 0]},g,d,tk,os⟩) l2 ys:=IsTuple.push Kh _
     wp_walk using Xc QX,xO LQ
     exact⟨_,rfl,h⟩
   |true=>
    have QX:Heap.IsTuple (Shared.heap ⟨hp,g,d,tk,os⟩) l1 xs:=Kg;cases t2 with
    |false=>
     have LQ:Heap.IsList (Shared.heap ⟨hp.push {cls:=.type "tuple_iterator",data:=.fields #[.ref l1,.int 0 0]},g,d,tk,os⟩) l2 ys:=Heap.IsList.push Kh _
     wp_walk using xO QX,Xc LQ
     exact⟨_,rfl,h⟩
    |true=>
     have LQ:Heap.IsTuple (Shared.heap ⟨hp.push {cls:=.type "tuple_iterator",data:=.fields #[.ref l1,.int 0 0]},g,d,tk,os⟩) l2 ys:=IsTuple.push Kh _
     wp_walk using xO QX,xO LQ
     exact⟨_,rfl,h⟩
theorem tf(e:h.get? it=some (DV t l)):jL t it l 0 h:=by cases t;exact⟨_,e,rfl,rfl⟩;exact⟨_,e,rfl,rfl⟩
theorem CZ{prog:Program}{w:World}{A:Around}{E:UI}{s:Shared}{t1 t2:Bool}{l1 l2:Addr}{xs ys:Array Value}{Q:UI}(Kg:pF t1 s.heap l1 xs)(Kh:pF t2 s.heap l2 ys)
  (h:∀h',IsZip h' (s.heap.objs.size+4) (s.heap.objs.size+2) (s.heap.objs.size+3) .none->IsPair h' (s.heap.objs.size+2) (.ref s.heap.objs.size) (.ref (s.heap.objs.size+1)) ->
   IsPair h' (s.heap.objs.size+3) .none .none->jL t1 s.heap.objs.size l1 0 h'->jL t2 (s.heap.objs.size+1) l2 0 h' ->
   (∀c o,s.heap.get? c=some o->h'.get? c=some o)->Q (.ref (s.heap.objs.size+4)) {s with heap:=h'}) :
  wpAny (model prog w) A (call (.type "zip") [.ref l1,.ref l2]) Q E s:=by
 refine callType_new PySem.F.called_zip (by decide) (PySem.F.typeCall_zip_2 _ _) (PySem.F.newCall_zip_2 _ _) (fun obj=>PySem.F.args_object_init_3 obj _ _) PySem.F.entry_zip_new (Bb t1 t2 l1 l2 xs ys) ⟨Kg,Kh,?_⟩;have z1:(U2 s.heap t1 l1).objs.size=s.heap.objs.size+1:=MT ..;have z2:(U3 s.heap t1 t2 l1 l2).objs.size=s.heap.objs.size+2:=by rw[MT,z1]
 have z3:(U4 s.heap t1 t2 l1 l2).objs.size=s.heap.objs.size+3:=by rw[MT,z2]
 have z4:(U5 s.heap t1 t2 l1 l2).objs.size=s.heap.objs.size+4:=by rw[MT,z3]
 have g5:(P5 s.heap t1 t2 l1 l2).get? (U5 s.heap t1 t2 l1 l2).objs.size=some _:=PQ _ rfl;have g4:(P5 s.heap t1 t2 l1 l2).get? (U4 s.heap t1 t2 l1 l2).objs.size=some _:=WL _ (PQ _ rfl);have g3:(P5 s.heap t1 t2 l1 l2).get? (U3 s.heap t1 t2 l1 l2).objs.size=some _:=WL _ (WL _ (PQ _ rfl));have g2:(P5 s.heap t1 t2 l1 l2).get? (U2 s.heap t1 l1).objs.size=some _:=WL _ (WL _ (WL _ (PQ _ rfl)));have g1:(P5 s.heap t1 t2 l1 l2).get? s.heap.objs.size=some _:=WL _ (WL _ (WL _ (WL _ (PQ _ rfl))));show _/\_;rw[z2,z3,z4] at g5;rw[z1,z2] at g3;rw[z3] at g4;rw[z1] at g2;rw[z4];exact⟨⟨_,g5,rfl⟩,h _ g5 g3 g4 (tf g1) (tf g2) fun c o x=>WL _ (WL _ (WL _ (WL _ (WL _ x))))⟩
def lQ(K:Frag)(H:Hp)(t:Bool)(p:Addr)(xs:O6):Prop:=if t then dB K H p xs else cU K H p xs
theorem Inv.qU{X:Cx}{UW:P4}{σ:St}{H:Hp}{s:Shared}{t:Bool}{p:Addr}{xs:O6}(I:Inv X UW σ H s)(h:lQ X.K H t p xs):∃aD:RU,Vals xs aD/\pF t s.heap p aD.toArray:=by cases t;obtain⟨aD,rv,pl,_⟩:=I.list (show cU X.K H p xs from h);exact⟨aD,rv,pl.isList⟩;obtain⟨aD,rv,pl,_⟩:=I.tuple (show dB X.K H p xs from h);exact⟨aD,rv,pl⟩
theorem Inv.qV{X:Cx}{UW:P4}{σ:St}{H:Hp}{s:Shared}{t:Bool}{p:Addr}{xs ys:O6}(I:Inv X UW σ H s)(h:lQ X.K H t p xs)(h':lQ X.K H t p ys):xs=ys:=by cases t;exact I.qr h h';exact I.tx h h'
def Ve(K:Frag)(t1 t2:Bool)(p1 p2:Addr):It:=⟨fun i H=>∃xs ys x y,lQ K H t1 p1 xs/\lQ K H t2 p2 ys/\xs[i]?=some x/\ys[i]?=some y,
 fun i H v H'=>∃q x y,H q=none/\v=.ref q/\H'=upd H q (.tup [x,y])/\(∀xs,lQ K H t1 p1 xs->xs[i]?=some x)/\(∀ys,lQ K H t2 p2 ys->ys[i]?=some y),
 fun i H=>∃xs ys,lQ K H t1 p1 xs/\lQ K H t2 p2 ys/\i<=xs.length/\i<=ys.length/\(xs.length<=i\/ys.length<=i)⟩
theorem Inv.pair{X:Cx}{UW:P4}{σ:St}{H:Hp}{s:Shared}{fp:Xr}{h':Heap}{tk:Nat}{x y:V}{u v:Value}(I:Inv X UW σ H s)(hf:∀b∈fp,jG X UW H b)
  (hk:∀c o,c∉fp->s.heap.get? c=some o->h'.get? c=some o) (hp:IsPair h' s.heap.objs.size u v) (rx:RelV x u) (ry:RelV y v) :
  Inv X UW σ (upd H s.heap.objs.size (.tup [x,y])) {s with heap:=h',toks:=tk}:=by
 have hn:H s.heap.objs.size=none:=I.cg.fresh (Uj _);have Gn:∀{b:Addr}{o:HO},H b=some o->b∉fp:=fun {b o} e hb=>by rw[(hf b hb).1] at e;cases e
 refine I.CV (s':={s with heap:=h',toks:=tk}) (ch:=fp) rfl ⟨fun b o e n hb hx=>hk b o hx e,fun b o e n hb hx=>⟨o.slots,by rw[hk b o hx e]⟩,fun b o e n hx=>?_,fun b o e hx=>⟨o,hk b o hx e⟩,fun b xs e=>?_,fun b o u e=>?_,fun b o e=>?_⟩ (fun b o e=>?_) I.bare fun b hb=>⟨(hf b hb).2.2.2.1,(hf b hb).2.1,(hf b hb).2.2.2.2.1,(hf b hb).2.2.2.2.2⟩;rw[aQ (Vz (UG e))];exact n;rw[aQ (bz e hn)];exact e;rw[aQ (bz e hn)];exact e;exact⟨#[],by rw[aQ (bz e hn),e];simp⟩;by_cases hb:b=s.heap.objs.size;subst hb;rw[aJ] at e;cases e;exact⟨by show 2<=sizeLine;decide,[u,v],.cons rx (.cons ry .nil),⟨_,hp,rfl,⟨_,rfl⟩,rfl⟩⟩;rw[aQ hb] at e;refine(I.cg b o e).yt (fun c w' hc q=>hk c w' ?_ q) (fun c q=>by rw[aQ (bz q hn)];exact q) fun c xs q=>by rw[aQ (bz q hn)];exact q
 rcases hc with rfl|hc;exact Gn e;exact Gn hc
theorem Inv.uR{X:Cx}{UW:P4}{σ:St}{H:Hp}{s:Shared}{fp:Xr}{h':Heap}{tk:Nat}(I:Inv X UW σ H s)(hf:∀b∈fp,jG X UW H b)(hk:∀c o,c∉fp->s.heap.get? c=some o->h'.get? c=some o):Inv X UW σ H {s with heap:=h',toks:=tk}:=by
 have Gn:∀{b:Addr}{o:HO},H b=some o->b∉fp:=fun {b o} e hb=>by rw[(hf b hb).1] at e;cases e
 refine I.CV (s':={s with heap:=h',toks:=tk}) (ch:=fp) rfl ⟨fun b o e n hb hx=>hk b o hx e,fun b o e n hb hx=>⟨o.slots,by rw[hk b o hx e]⟩,fun b o e n hx=>n,fun b o e hx=>⟨o,hk b o hx e⟩,fun b xs e=>e,fun b o u e=>e,fun b o e=>⟨#[],by rw[e];simp⟩⟩ (fun b o e=>?_) I.bare fun b hb=>⟨(hf b hb).2.2.2.1,(hf b hb).2.1,(hf b hb).2.2.2.2.1,(hf b hb).2.2.2.2.2⟩;refine(I.cg b o e).yt (fun c w' hc q=>hk c w' ?_ q) (fun c q=>q) fun c xs q=>q;rcases hc with rfl|hc;exact Gn e;exact Gn hc
theorem FF{P:Program}{w:World}{K:Frag}{es:W3}{k:Nat}{oR:Pos}(t1 t2:Bool){p1 p2 z TI TO i1 i2:Addr}(D:tJ z TI TO i1 i2 [i1,p1] [i2,p2])(n1:p1≠i1)(n2:p2≠i2) : Turn P w K (.Tuple es k oR) (Ve K t1 t2 p1 p2) [z,TI,TO,i1,i2] z (fun i h=>IsZip h z TI TO .none/\IsPair h TI (.ref i1) (.ref i2)/\(∃a b,IsPair h TO a b)/\jL t1 i1 p1 i h/\jL t2 i2 p2 i h) where
 mem:=G9
 obj:=fun i h st b hb=>by
  refine VP.gl fun QQ eQ=>?_;obtain⟨hz,xA,⟨a,c,zH⟩,h1,h2⟩:=st;subst eQ;simp only[List.mem_cons,List.not_mem_nil,or_false] at hb;rcases hb with rfl|rfl|rfl|rfl|rfl
  ·exact⟨_,hz,fun v q=>by cases q⟩
  ·exact⟨_,xA,fun v q=>by cases q⟩
  ·exact⟨_,zH,fun v q=>by cases q⟩
  ·exact h1.obj
  ·exact h2.obj
 keep:=fun i h h' st kk=>by refine VP.gl fun QQ eQ=>?_;obtain⟨hz,xA,⟨a,c,zH⟩,h1,h2⟩:=st;subst eQ;exact⟨kk z G9 _ hz,kk TI G9 _ xA,⟨a,c,kk TO G9 _ zH⟩,h1.at fun o e=>kk i1 G9 o e,h2.at fun o e=>kk i2 G9 o e⟩
 item:=by
  intro X hP hw hK hc i UW s σ H E I hf st hg;subst hP hw hK;refine VP.gl fun QQ eQ=>?_;obtain⟨hz,xA,⟨a,c,zH⟩,h1,h2⟩:=st;subst eQ;refine VP.gl fun QQ eQ=>?_;obtain⟨xs,ys,x,y,q1,q2,e1,e2⟩:=hg;subst eQ;obtain⟨vJ,UO,s1⟩:=Inv.qU I q1;obtain⟨jJ,UP,s2⟩:=Inv.qU I q2;obtain⟨u,hu,ru⟩:=UO.get e1;obtain⟨v,hv,rv⟩:=UP.get e2;have hh:X.A.handled=none:=I.ok.hd hc;have hT:s.TypeIs (.ref z) "zip" := ⟨_,hz,rfl⟩;unfold pyNext;have WJ:i<vJ.toArray.size:=by have:=(List.getElem?_eq_some_iff.mp hu).1;simpa using this
  have Z6:i<jJ.toArray.size:=by have:=(List.getElem?_eq_some_iff.mp hv).1;simpa using this
  refine U0 (DY (O4 (name:=Str.ofString "__next__") hT El (xM El hT PySem.F.entry_zip_next (BH (kA (by exact hh) t1 i1 p1 n1 vJ.toArray) (kA (by exact hh) t2 i2 p2 n2 jJ.toArray) D hz xA zH ⟨h1,s1⟩ ⟨h2,s2⟩ WJ Z6 fun x' y' h' tk px py z1 o1 w1 w2 pr kp=>Qo ?_) (PySem.F.args_zip_next_1 _))));have ex:x'=u:=by
   have:vJ.toArray[i]?=some u:=by simpa using hu
   rw[this] at px;exact(RD px).symm
  have ey:y'=v:=by
   have:jJ.toArray[i]?=some v:=by simpa using hv
   rw[this] at py;exact(RD py).symm
  subst ex ey;refine⟨_,rfl,wpAny_letOwnedTupleGo_zip z1 fun LO z2 sb=>?_⟩;replace sb:Heap.SameBut z h' LO:=sb;have Jj:z≠s.heap.objs.size:=Vz (UG hz);have Wz:∀c o,c∉[z,TI,TO,i1,i2]->s.heap.get? c=some o->LO.get? c=some o:=fun c o rD e=>by simp only[List.mem_cons,List.not_mem_nil,or_false,not_or] at rD;exact sb.extBut c o rD.1 (kp c o rD.1 rD.2.2.1 rD.2.2.2.1 rD.2.2.2.2 e)
  have IX:=Inv.pair (tk:=tk) (h':=LO) (x:=x) (y:=y) I hf Wz (sb.extBut _ _ (W5 Jj) pr) ru rv;refine⟨.ref s.heap.objs.size,_,IX,rfl,⟨_,x,y,I.cg.fresh (Uj _),rfl,rfl,fun xs' DL=>by rw[Inv.qV I DL q1];exact e1,fun ys' Wk=>by rw[Inv.qV I Wk q2];exact e2⟩,⟨z2,sb.extBut _ _ D.TIz (kp _ _ D.TIz D.TITO D.TIi1 D.TIi2 xA),⟨_,_,sb.extBut _ _ D.TOz o1⟩,w1.1.at fun o e=>sb.extBut _ o D.i1z e,w2.1.at fun o e=>sb.extBut _ o D.i2z e⟩,fun b hb=>?_⟩;have Pt:b≠s.heap.objs.size:=by
   obtain⟨ob,e,_⟩:∃o,s.heap.get? b=some o/\∀v,o.data≠.cell v:=by
    simp only[List.mem_cons,List.not_mem_nil,or_false] at hb;rcases hb with rfl|rfl|rfl|rfl|rfl
    ·exact⟨_,hz,fun v q=>by cases q⟩
    ·exact⟨_,xA,fun v q=>by cases q⟩
    ·exact⟨_,zH,fun v q=>by cases q⟩
    ·exact h1.obj
    ·exact h2.obj
   exact Vz (UG e)
  rw[aQ Pt];exact(hf b hb).1
 done:=by
  intro X hP hw hK hc i UW s σ H E I hf st hg;subst hP hw hK;refine VP.gl fun QQ eQ=>?_;obtain⟨hz,xA,⟨a,c,zH⟩,h1,h2⟩:=st;subst eQ;refine VP.gl fun QQ eQ=>?_;obtain⟨xs,ys,q1,q2,b1,b2,DF⟩:=hg;subst eQ;obtain⟨vJ,UO,s1⟩:=Inv.qU I q1;obtain⟨jJ,UP,s2⟩:=Inv.qU I q2;have l1:=UO.length;have l2:=UP.length;have hh:X.A.handled=none:=I.ok.hd hc;have hT:s.TypeIs (.ref z) "zip" := ⟨_,hz,rfl⟩;have he:i=vJ.toArray.size\/(i<vJ.toArray.size/\i=jJ.toArray.size):=by simp;lia
  unfold pyNext;refine U0 (DY (O4 (name:=Str.ofString "__next__") hT El (xM El hT PySem.F.entry_zip_next (FN (m:=0) (by exact hh) (kA (by exact hh) t1 i1 p1 n1 vJ.toArray) (kA (by exact hh) t2 i2 p2 n2 jJ.toArray) D hz xA zH ⟨h1,s1⟩ ⟨h2,s2⟩ he fun h' e tk hk he=>?_) (PySem.F.args_zip_next_1 _))));obtain⟨o,ho,rD⟩:=he;refine U0 (QL (T:="StopIteration") (b:=true) ⟨o,ho,rD⟩ isSubtype_stop ?_);refine Qo ⟨rfl,Inv.uR (h':=h') I hf fun c o vE e=>?_⟩;simp only[List.mem_cons,List.not_mem_nil,or_false,not_or] at vE;exact hk c o vE.1 vE.2.2.1 vE.2.2.2.1 vE.2.2.2.2 e
 self:=fun _ _ _ _ _ st h=>wpAny_pyIter_zip st.1 h
section
variable{X:Cx}{EX:XE}{L:Lc}{e a b:Expr}{fa fb fe:M D}{pos p:Pos}{x:Str}
def Q1f(K:Frag)(t:TA):TI:=fun σ H R=>t σ H fun vs H1=>∃t1 t2 p1 p2,vs=[.ref p1,.ref p2]/\(∃xs,lQ K H1 t1 p1 xs)/\(∃ys,lQ K H1 t2 p2 ys)/\R (Ve K t1 t2 p1 p2) H1
theorem Og{es:W3}{k:Nat}{oR:Pos}{t:TA}(hg:Gl X "zip")(hm:X.mg "zip" = none)(ha:PA X [a,b] t)(hs:starEach [a,b] X.env=[(false,eval a X.env),(false,eval b X.env)]:=by rfl)(jW:starEach [b] X.env=[(false,eval b X.env)]:=by rfl) : PI X (.Tuple es k oR) (.Call (.Name "zip" p) [a,b] [] pos) (Q1f X.K t):=by
 intro UW s σ H R I h;refine Call_ (dX I hg hm boot_zip (YY (bS (ha pos UW s σ H _ I h) fun us s1 zz=>?_) (by rw[hs,jW]) (by rw[jW];rfl)));obtain⟨vs,H1,I1,r1,q1⟩:=zz;obtain⟨t1,t2,p1,p2,e,⟨xs,h1⟩,⟨ys,h2⟩,q⟩:=q1;subst e;cases r1 with
 |cons r rr=>
  cases rr with
  |cons r' rr=>
   cases rr;cases r;cases r';obtain⟨vJ,UO,YF⟩:=Inv.qU I1 h1;obtain⟨jJ,UP,YG⟩:=Inv.qU I1 h2;have lt:∀{t:Bool}{q:Addr}{aD:Array Value},pF t s1.heap q aD->q<s1.heap.objs.size:=fun {t q aD} z=>by cases t;obtain⟨o,e,_⟩:=(show Heap.IsList _ _ _ from z);exact UG e;obtain⟨o,e,_⟩:=(show Heap.IsTuple _ _ _ from z);exact UG e
   have l1:=lt YF;have l2:=lt YG;refine CZ YF YG fun h' hz xA zH Zw Py hk=>?_;refine wpAny_pyIter_zip hz ?_;have IX:Inv X UW σ H1 {s1 with heap:=h'}:=I1.kept (t':=s1.toks) hk;have ne:∀{q:Addr}(j:Nat),q<s1.heap.objs.size->q≠s1.heap.objs.size+j:=fun {q} j hq=>Vz (US hq (vg _ _));have D:tJ (s1.heap.objs.size+4) (s1.heap.objs.size+2) (s1.heap.objs.size+3) s1.heap.objs.size (s1.heap.objs.size+1) [s1.heap.objs.size,p1] [s1.heap.objs.size+1,p2]:=by have a1:=ne 4 l1;have a2:=ne 3 l1;have a3:=ne 1 l1;have b1:=ne 4 l2;have b2:=ne 3 l2;have b3:=ne 0 l2;refine⟨G9,G9,G9,G9,G9,G9,G9,G9,G9,G9,?_,?_,?_,?_,?_,?_⟩;simp[Ne.symm a1];simp[Ne.symm b1];simp[Ne.symm a2];simp[Ne.symm b2];simp;exact W5 b3;simp[Ne.symm a3]
   refine⟨_,[s1.heap.objs.size+4,s1.heap.objs.size+2,s1.heap.objs.size+3,s1.heap.objs.size,s1.heap.objs.size+1],_,_,H1,rfl,IX,FF t1 t2 D (ne 0 l1) (ne 1 l2),⟨hz,xA,⟨_,_,zH⟩,Zw,Py⟩,fun c hc=>?_,q⟩;have hle:s1.heap.objs.size<=c:=by simp only[List.mem_cons,List.not_mem_nil,or_false] at hc;rcases hc with rfl|rfl|rfl|rfl|rfl;exact vg _ _;exact vg _ _;exact vg _ _;exact Uj _;exact vg _ _
   exact I1.p8 hle (I1.cg.fresh hle)
theorem lQ.same{K:Frag}{F F':Hp}{t:Bool}{q:Addr}{xs:O6}(h:lQ K F t q xs)(e:aL F F'):lQ K F' t q xs:=by cases t;exact cU.same h e;exact dB.same h e
theorem Den.seq{K:Frag}{mg:MG}{F:Hp}{v:V}{d:D}{ds:RN}(h:Den K mg F v d)(e:cy d=some ds):∃t q vs,v=.ref q/\lQ K F t q vs/\aI K mg F vs ds:=by cases h with|tup h r=>cases e;exact⟨true,_,_,rfl,h,r⟩|lst h r=>cases e;exact⟨false,_,_,rfl,h,r⟩|_=>cases e
theorem Hf{G:Fx}{F:Hp}{t1 t2:Bool}{p1 p2:Addr}{vs ws:O6}{ds es:RN}(Zx:∀(σ:St)(F' H':Hp)(ρ:aR),aL F F'->L.Good G F' H' σ ρ->True)(h1:lQ L.K F t1 p1 vs)(r1:aI L.K L.mg F vs ds)(h2:lQ L.K F t2 p2 ws)(r2:aI L.K L.mg F ws es) : FQ L G F (Ve L.K t1 t2 p1 p2) (List.zipWith (fun x y=>D.tup [x,y]) ds es):=fun σ i F' H' ρ s g=>by have q1:lQ L.K H' t1 p1 vs:=(h1.same s).same g.sub;have q2:lQ L.K H' t2 p2 ws:=(h2.same s).same g.sub;have l1:=r1.length;have l2:=r2.length;refine⟨fun hi=>?_,fun hi=>?_,fun x FP y=>?_⟩;simp at hi;exact⟨vs,ws,vs[i]' T9,ws[i]' T9,q1,q2,by simp[show i<vs.length by lia],by simp[show i<ws.length by lia]⟩;simp at hi;exact⟨vs,ws,q1,q2,T9,T9,T9⟩;obtain⟨q,u,v,hq,rfl,rfl,y1,y2⟩:=y;have sF:=bh (o:=.tup [u,v]) (g.sub.free hq);refine⟨_,sF,g.laid hq,fun d hd=>?_⟩;rw[List.getElem?_zipWith] at hd;cases e1:ds[i]? with|none=>rw[e1] at hd;cases hd|some d1=>cases e2:es[i]? with|none=>rw[e1,e2] at hd;cases hd|some d2=>rw[e1,e2] at hd;cases hd;obtain⟨u',a1,a2⟩:=(r1.same s).get e1;obtain⟨v',b1,b2⟩:=(r2.same s).get e2;rw[y1 vs q1] at a1;rw[y2 ws q2] at b1;cases a1;cases b1;exact .tup (dB.of aJ) (.cons (a2.same sF) (.cons (b2.same sF) .nil))
theorem lM{es:W3}{k:Nat}{oR:Pos}{fl:List (M D)}(hg:Gl X "zip")(hm:X.mg "zip" = none)(ha:As X EX [a,b] (mL fl))(hs:starEach [a,b] X.env=[(false,eval a X.env),(false,eval b X.env)]:=by rfl)(jW:starEach [b] X.env=[(false,eval b X.env)]:=by rfl) : uT X EX (.Tuple es k oR) (.Call (.Name "zip" p) [a,b] [] pos) (qv fl):=
 (Og hg hm ha hs jW).le fun σ H Q bx=>dm bx fun G F F1 H1 bo d1 xs s1 g1 r1 o1=>by
  obtain⟨ds,e,q⟩:=o1.opt;unfold mO at e;split at e;rename_i c d;cases r1 with|cons h1 r1=>cases r1 with|cons h2 r1=>obtain rfl:=aI.n r1;cases e1:cy c with|none=>rw[e1] at e;cases e|some cs=>cases e2:cy d with|none=>rw[e1,e2] at e;cases e|some es=>rw[e1,e2] at e;cases e;obtain⟨t1,q1,vs,rfl,z1,y1⟩:=Den.seq h1 e1;obtain⟨t2,q2,ws,rfl,z2,y2⟩:=Den.seq h2 e2;exact⟨t1,t2,q1,q2,rfl,⟨_,z1.same g1.sub⟩,⟨_,z2.same g1.sub⟩,q F1 H1 _ s1 g1 (Hf (fun _ _ _ _ _ _=>trivial) z1 y1 z2 y2)⟩
  cases e
theorem ints_of{K:Frag}{mg:MG}{F:Hp}:∀{vs:O6}{ds:RN}{ns:R4},aI K mg F vs ds->ff ds=some ns->vs=ns.map V.int
|_,_,_,.nil,e=>by cases e;rfl|_,_,_,.cons (ds:=ds) h t,e=>by
 cases h with
 |int i=>simp only[ff] at e;cases q:ff ds with|none=>rw[q] at e;cases e|some ns=>rw[q] at e;cases e;rw[ints_of t q];rfl
 |_=>cases e
theorem RR.qU{G:Fx}{F H:Hp}{σ:St}{ρ:aR}{v:V}{d:D}{ds:RN}(h:RR L G F H σ ρ v d)(g:L.Good G F H σ ρ)(e:cy d=some ds):∃t q vs,v=.ref q/\aI L.K L.mg F vs ds/\lQ L.K H t q vs:=by
 obtain⟨q,vs,rfl,r,z⟩:=RR.seq h g e;rcases z with ⟨_,z⟩|⟨_,z,_⟩
 exact⟨false,q,vs,rfl,r,z⟩;exact⟨true,q,vs,rfl,r,z⟩
theorem Ho(K:Frag):∀k∈["NoneType","bool","int","str","tuple","list","dict"],∀T∈["int","bool","tuple","list","str","dict"],W.kitOne K (.type k) (.type T)=some (k == T||(k == "bool" && T == "int")):=by intro k hk T hT;simp only[List.mem_cons,List.not_mem_nil,or_false] at hk hT;rcases hk with rfl|rfl|rfl|rfl|rfl|rfl|rfl<;>rcases hT with rfl|rfl|rfl|rfl|rfl|rfl<;>first|rfl|decide +kernel|(show W.kitOne K _ _=_;kernel_rfl)
def WW(L:Lc)(T:String):O6->Hp->VK->Prop:=fun xs H Q=>∃x G F σ ρ d k b,xs=[x,.ty T]/\L.Good G F H σ ρ/\RR L G F H σ ρ x d/\vL d=some k/\W.kitOne L.K (.type k) (.type T)=some b/\Q (.bl b) H
theorem CY(T:String):dF X (.builtin "isinstance") (WW (lc X EX) T):=by
 intro UW s σ0 H xs us Q I r h;obtain⟨x,G,F,σ,ρ,d,k,b,rfl,g,rx,hk,hb,q⟩:=h;obtain⟨u,c,rfl,ru,rc⟩:=vals2 r;obtain rfl:c=Value.type T:=rc;have fin:∀tk,EP X UW σ0 Q (.bool b) {s with toks:=tk}:=fun tk=>⟨.bl b,H,I.tok tk,rfl,q⟩;have obj:∀{l:Addr}{ds:RN},cy d=some ds->x=.ref l->(d=.lst ds->∃o,s.heap.get? l=some o/\o.cls=.type "list")/\(d=.tup ds->∃o,s.heap.get? l=some o/\o.cls=.type "tuple"):=fun {l ds} e ex=>by
  obtain⟨q',vs,e2,_,z⟩:=RR.seq rx g e;rw[ex] at e2;cases e2;rcases z with ⟨z1,z2⟩|⟨z1,z2,_⟩
  refine⟨fun _=>?_,fun z=>(by rw[z1] at z;cases z)⟩;obtain⟨aD,_,pl,_⟩:=I.list z2;obtain⟨o,ho,hc,_⟩:=pl.isList;exact⟨o,ho,hc⟩;refine⟨fun z=>(by rw[z1] at z;cases z),fun _=>?_⟩;obtain⟨aD,_,⟨o,ho,hc,_⟩,_⟩:=I.tuple z2;exact⟨o,ho,hc⟩
 cases d with
 |bC=>cases hk;rcases rx with rx|⟨_,_,z⟩;obtain rfl:=Den.n rx;cases (show u=Value.none from ru);exact W.kia_one W.kitx_none I.mP True.intro hb (fun z=>nomatch z) fin;exact z.elim
 |bl v=>cases hk;rcases rx with rx|⟨_,_,z⟩;obtain rfl:=Den.b rx;cases (show u=Value.bool v from ru);exact W.kia_one W.kitx_bool I.mP True.intro hb (fun z=>nomatch z) fin;exact z.elim
 |int v=>cases hk;rcases rx with rx|⟨_,_,z⟩;obtain rfl:=Den.i rx;obtain⟨t,q⟩:=(show ∃t,u=Value.int v t from ru);cases q;exact W.kia_one W.kitx_int I.mP True.intro hb (fun z=>nomatch z) fin;exact z.elim
 |str v=>cases hk;rcases rx with rx|⟨_,_,z⟩;obtain rfl:=Den.s rx;obtain⟨t,q⟩:=(show ∃t,u=Value.str v t from ru);cases q;exact W.kia_one W.kitx_str I.mP True.intro hb (fun z=>nomatch z) fin;exact z.elim
 |tup ds=>cases hk;obtain⟨l,vs,e2,_⟩:=RR.seq rx g rfl;obtain⟨o,ho,hc⟩:=(obj rfl e2).2 rfl;subst e2;cases (show u=Value.ref l from ru);exact W.kia_one W.kitx_tuple I.mP ⟨o,ho,hc⟩ hb (fun z=>nomatch z) fin|lst ds=>cases hk;obtain⟨l,vs,e2,_⟩:=RR.seq rx g rfl;obtain⟨o,ho,hc⟩:=(obj rfl e2).1 rfl;subst e2;cases (show u=Value.ref l from ru);exact W.kia_one W.kitx_list I.mP ⟨o,ho,hc⟩ hb (fun z=>nomatch z) fin|gK ks ds=>
  cases hk;have hd:∃l aO ep,x=.ref l/\H l=some (.dK aO ep):=by
   rcases rx with rx|⟨l,e,z⟩;cases rx with|gK h r=>exact⟨_,_,_,rfl,g.sub _ _ h⟩
   obtain⟨aO,ep,z1,_⟩:=z;exact⟨l,aO,ep,e,z1⟩
  obtain⟨l,aO,ep,rfl,hl⟩:=hd;cases (show u=Value.ref l from ru);obtain⟨_,_,vs,_,p⟩:=(show dw X.prog X.w H s.heap l (.dK aO ep) from I.cg l _ hl);obtain⟨o,es,h1,h2,_⟩:=p;exact W.kia_one W.kitx_dict I.mP ⟨o,h1,h2.1⟩ hb (fun z=>nomatch z) fin
 |ins c ns ds=>cases hk|FW c ns ds=>cases hk
theorem nN(T:String){xT:Str}{pT:Pos}(hT:T∈["int","bool","tuple","list","str","dict"])(hg:Gl X "isinstance")(hm:X.mg "isinstance" = none)(xB:Gl X xT)(AS:X.mg xT=none)(ZQ:bootBuiltins xT=some (.type T))(ha:PR X EX a fa)
  (hn:xT≠"__name__" := by decide) (VW:Yw xT:=by decide)
  (hs:starEach [a,.Name xT pT] X.env=(false,eval a X.env)::starEach [.Name xT pT] X.env:=by rfl) (jW:starEach [.Name xT pT] X.env=(false,eval (.Name xT pT) X.env)::starEach [] X.env:=by rfl) (iP:(backTo pos (starEach [.Name xT pT] X.env)).any (·.1)=false:=by rfl) :
  PV X EX (.Call (.Name "isinstance" p) [a,.Name xT pT] [] pos) (m1 (kR T) fa):=
 (iT (CY (EX:=EX) T) hg hm boot_isinstance (cb ha (cb (Ia (v:=.ty T) xB AS ZQ rfl hn VW) fN jW) hs) (by decide) (by decide) hs iP).le fun σ H Q bx=>dm bx fun G F F1 H1 bo d1 x s1 g1 r1 o1=>by
  obtain⟨d,e,q⟩:=o1.opt;unfold kR at e;cases ek:vL d1 with
  |none=>rw[ek] at e;cases e|some k=>
   rw[ek] at e;cases e;have hk:k∈["NoneType","bool","int","str","tuple","list","dict"]:=by cases d1<;>cases ek<;>simp
   exact⟨x,G,F1,σ,bo,d1,k,_,rfl,g1,r1,ek,Ho _ k hk T hT,q F1 H1 _ s1 g1 (.bl _)⟩
theorem isLst_slot{G:Fx}{F H:Hp}{σ:St}{ρ:aR}{j:Nat}(g:L.Good G F H σ ρ)(h:isLst (own ρ[j]?)=true):∃l vs,σ[j]?=some (some (V.ref l))/\H l=some (.lst vs):=by
 have hs:(own ρ[j]?).isSome=true:=by cases q:own ρ[j]? with|none=>rw[q] at h;cases h|some d=>rfl
 obtain⟨l,d,h1,h2,h3⟩:=gY g hs;rw[h2] at h;cases d with|lst ds=>obtain⟨vs,z,_⟩:=h3;exact⟨l,vs,h1,z⟩|_=>cases h
theorem Pa(i:Nat){QN iD:Pos}(he:PV X EX e fe)(hN:X.N[i]?=some x:=by rfl)(hv:uZ X.env.scope x:=by exact Oi)(hd:Yw x:=by decide)
  (jC:Xj x:=by decide)
  (hpe:∀{to:TE}{t:TA},PE X (.Name x p) to->PA X [e] t->PE X (.Call (.Attribute (.Name x p) "append" QN) [e] [] iD) (UZ X.K "list" uG to t))
  (jI:Ys X e []:=by rfl):nW X EX (.Expr (.Call (.Attribute (.Name x p) "append" QN) [e] [] iD) pos) (kS i fe):=
 (uC (hpe (fO hN hv hd jC) (cb he fN jI))).le fun E σ H bx=>xK bx fun G F ρ g0 o=>by unfold kS at o;by_cases hl:isLst (own ρ[i]?)=true;rw[Ge hl] at o;obtain⟨l,vs,z1,z2⟩:=isLst_slot (L:=lc X EX) g0 hl;refine⟨_,z1,.inl ⟨rfl,_,cU.of z2⟩,aW g0 o (fun x r q=>q.x) fun F1 H1 bo d1 v s1 g1 r1 o1=>?_⟩;obtain⟨l',wH,bP,y1,y2,y3,g2,q⟩:=wz (L:=lc X EX) g1 r1 (Out.PN o1);rw[z1] at y1;cases y1;exact⟨l,wH,v,rfl,rfl,y2,y3,q F1 _ σ s1 g2⟩;rw[UE hl] at o;exact o.elim
def Ah(K:Frag):R2:=fun x y H Q=>∃l b xs zs,x=.ref l/\y=.ref b/\cU K H l xs/\cU K H b zs/\xs.length+zs.length<=sizeLine/\∀p,H p=none->Q (.ref p) (upd H p (.lst (xs++zs)))
theorem zY:gC X (binaryOp .Add) (Ah X.K):=by intro UW s σ H x y v u Q I rx ry h;obtain⟨l,b,xs,zs,rfl,rfl,hH,hB,hz,q⟩:=h;cases rx;cases ry;obtain⟨aD,r,⟨⟨c1,d1,dt1,sl1⟩,n,e,hc,hd,Uq⟩,_⟩:=I.list hH;obtain⟨jJ,r2,⟨⟨c2,d2,dt2,PY⟩,n2,e2,wK,hd2,Q6⟩,_⟩:=I.list hB;simp only at hc hd Uq wK hd2 Q6;subst hc Uq wK Q6;refine concat_meets ⟨_,e,rfl⟩ ⟨_,e2,rfl⟩ noFill_list_add seq_list_add PySem.F.slot_list_add PySem.F.entry_list_add (PySem.F.args_list_add_2 _ _) (list_addW l b aD.toArray jJ.toArray n n2 d1 d2 sl1 PY (by rw[Tv,Tv,<-r.length,<-r2.length];exact hz)) ⟨e,e2,?_⟩;have ea:aD.toArray++jJ.toArray=(aD++jJ).toArray:=G9;rw[ea];exact⟨.ref _,_,I.Hr (t':=s.toks) (r.append r2) (by rw[xU];lia),rfl,q _ I.fresh⟩
theorem Ih(ha:PV X EX a fa)(hb:PV X EX b fb):PF X EX (.BinOp a .Add b pos) (m2 wX fa fb):=
 (EO zY ha hb).le fun σ H Q bx=>dm bx fun G F F1 H1 bo d1 x s1 g1 r1 o1=>aW g1 o1 (fun x r q=>q.same s1) fun F2 H2 mQ d2 y s2 g2 r2 o2=>by
  obtain⟨d,e,q⟩:=o2.opt
  cases d1<;>cases d2<;>try (simp only[wX,reduceCtorEq] at e;done)
  rename_i xs ys
  simp only[wX] at e
  split at e
  ·rename_i hl
   cases e
   have Gg:=r1.same s2
   obtain⟨_,_,rfl,h1,z1⟩:=Den.l Gg
   ·obtain⟨_,_,rfl,h2,z2⟩:=Den.l r2
    ·
     refine⟨_,_,_,_,rfl,rfl,cU.same h1 g2.sub,cU.same h2 g2.sub,by rw[z1.length,z2.length,<-mT];exact hl,fun p hp=>?_⟩
     exact q _ _ _ (s1.trans s2) (g2.made hp) ⟨p,rfl,g2.loose hp ⟨_,aJ,z1.append z2⟩⟩
  ·cases e
theorem LH:lj L (Ah L.K) wX:=fun G F H σ ρ x y dx dy d Q g0 rx ry e k=>by
 cases dx with
 |lst xs=>cases dy with|lst ys=>simp only[wX] at e;split at e;rename_i hl;cases e;obtain⟨_,_,rfl,h1,r1⟩:=Den.l rx;obtain⟨_,_,rfl,h2,r2⟩:=Den.l ry;refine⟨_,_,_,_,rfl,rfl,cU.same h1 g0.sub,cU.same h2 g0.sub,by rw[r1.length,r2.length,<-mT];exact hl,fun p hp=>?_⟩;have sF:∀o,aL F (upd F p o):=fun o=>bh (o:=o) (g0.sub.free hp);exact k _ _ _ (sF _) (g0.laid hp) (.lst (cU.of aJ) (aI.append (aI.same (sF _) r1) (aI.same (sF _) r2)));cases e|_=>cases e
 |_=>cases e
theorem aM:gC X (binaryOp .Add) (fun x y H Q=>(wc fun i j=>.int (i+j)) x y H Q\/(Ag X.K x y H Q\/Ah X.K x y H Q)):=gC.or NY (gC.or HV zY)
theorem aP:lj L (fun x y H Q=>(wc fun i j=>.int (i+j)) x y H Q\/(Ag L.K x y H Q\/Ah L.K x y H Q)) bj:=fun G F H σ ρ x y dx dy d Q g0 rx ry e k=>by
 cases dx with
 |int _=>cases dy with|int _=>exact .inl (Q0B G F H σ ρ x y _ _ d Q g0 rx ry e k)|_=>cases e
 |tup _=>cases dy with|tup _=>exact .inr (.inl (LI G F H σ ρ x y _ _ d Q g0 rx ry e k))|_=>cases e
 |lst _=>cases dy with|lst _=>exact .inr (.inr (LH G F H σ ρ x y _ _ d Q g0 rx ry e k))|_=>cases e
 |_=>cases e
def RO:Rl (Option Int) (Option Int):=fun _ _ _ _ _ b a=>b=a
def yD(X:Cx)(EX:XE)(e:Option Expr)(f:Option (M D)):Prop:=PO X e (lift (lc X EX) RO (mq f))
theorem JI{X:Cx}{e:Option Expr}{t t':TO}(h:PO X e t)(k:∀σ H Q,t' σ H Q->t σ H Q):PO X e t':=fun UW s σ H Q I q=>h UW s σ H Q I (k _ _ _ q)
theorem bM:yD X EX none none:=JI Iw fun σ H Q bx=>lf bx fun G F ρ g0 o=>o F H none (aL.refl _) g0 rfl
theorem bN(h:PV X EX e fe):yD X EX (some e) (some fe):=JI (Iy h) fun σ H Q bx=>dm bx fun G F F1 H1 bo d1 x s1 g1 r1 o1=>by cases d1 with|int i=>obtain rfl:=Den.i r1;exact⟨i,rfl,o1 F1 H1 _ s1 g1 rfl⟩|_=>exact o1.elim
theorem Fm(n d:Nat)(o:Pq):HT.cY n d o=we n d o:=by cases o with|none=>rfl|some v=>unfold HT.cY we;first|rfl|(split<;>first|rfl|lia)
theorem tS{K:Frag}{mg:MG}{F:Hp}{vs:O6}{ds:RN}(h:aI K mg F vs ds)(lo hi:Pq):aI K mg F (lW vs lo hi) (VP.cutD ds lo hi):=by unfold lW VP.cutD;rw[h.length,Fm,Fm];exact(h.drop _).take _
end
theorem iE{js:UA}{m n:Nat}(h:js.all (fun j=>decide (m<=j)&&decide (j<m+n))=true):∀j∈js,m<=j/\j<m+n:=fun j hj=>by have:=List.all_eq_true.mp h j hj;rw[NU] at this;exact⟨A0 this.1,A0 this.2⟩
structure pE(K:Frag)(mg:MG)(x:Str)(st:Stmt)(ps:PU)(f:Addr)(fd:FuncData):Prop where
 fu:Gr K x x st f fd
 bi:Binds K fd ps []
 mg:mg x=some (.ref f)
section
variable{X:Cx}{EX:XE}{L:Lc}{e a b c:Expr}{fa fb fc fe:M D}{pos:Pos}{x:Str}
def jw:D->Value->Prop|.bC,v=>v=.none|.bl k,v=>v=.bool k|.int i,v=>∃t,v=.int i t|.str s,v=>∃t,v=.str s t|_,_=>False
theorem jw.den(h:jw d v):∃u:V,RelV u v/\∀(K:Frag)(mg:MG)(F:Hp),Den K mg F u d:=by cases d with|bC=>cases h;exact⟨.bC,rfl,fun _ _ _=>.bC⟩|bl k=>cases h;exact⟨.bl k,rfl,fun _ _ _=>.bl k⟩|int i=>obtain⟨t,rfl⟩:=h;exact⟨.int i,⟨t,rfl⟩,fun _ _ _=>.int i⟩|str s=>obtain⟨t,rfl⟩:=h;exact⟨.str s,⟨t,rfl⟩,fun _ _ _=>.str s⟩|_=>exact h.elim
def XA(mg:MG)(x:Str)(d:D):Prop:=∃v,mg x=some v/\jw d v
theorem kh(hm:XA X.mg x d)(hg:Gl X x)(hd:Yw x:=by decide):PV X EX (.Name x pos) (mC d):=by obtain⟨v,h1,h2⟩:=hm;obtain⟨u,r,den⟩:=h2.den;exact wb (kI hg h1 r hd) (fun _ _ _ q=>q) fun F=>den _ _ F
theorem ve(hg:lj (lc X EX) r g)(Pw:lj (lc X EX) r' g')(ha:∀σ H Q,lift (lc X EX) (RV (lc X EX)) fa σ H Q->ta σ H Q)(hb:∀σ H Q,lift (lc X EX) (RV (lc X EX)) fb σ H Q->tb σ H Q)(hc:∀σ H Q,lift (lc X EX) (RV (lc X EX)) fc σ H Q->tc σ H Q) (σ:St) (H:Hp) (Q:VK) (h:lift (lc X EX) (RV (lc X EX)) (zQ g g' fa fb fc) σ H Q):yw r r' ta tb tc σ H Q:=by
 obtain⟨G,F,ρ,g0,o⟩:=h;refine ha _ _ _ (aW g0 o (fun x r q=>q) fun F1 H1 bo d1 x s1 g1 r1 o1=>?_);refine hb _ _ _ (aW g1 o1 (fun x r q=>q.same s1) fun F2 H2 mQ d2 y s2 g2 r2 o2=>?_);obtain⟨d,e,q⟩:=o2.PN.opt;refine hg G F2 H2 σ mQ x y d1 d2 d _ g2 (r1.same s2) r2 e fun F3 H3 v s3 g3 r3=>?_;cases d with
  |bl k=>obtain rfl:=Den.b r3;refine⟨k,rfl,?_⟩;cases k with|true=>refine xI (hc _ _ _ (aW g3 q (fun x r q=>q.same (s1.trans (s2.trans s3))) fun F4 H4 KP d4 z s4 g4 r4 o4=>?_));obtain⟨d5,e5,q5⟩:=o4.opt;exact Pw G F4 H4 σ KP y z d2 d4 d5 Q g4 (r2.same (s3.trans s4)) r4 e5 (fX.same (s1.trans (s2.trans (s3.trans s4))) q5)|false=>exact xH (q F3 H3 _ (s1.trans (s2.trans s3)) g3 (.bl _))
  |_=>exact q.elim
theorem iU(ho:gC X (compareOp op) r)(uW:gC X (compareOp Bj) r')(hg:lj (lc X EX) r g)(Pw:lj (lc X EX) r' g')(ha:PV X EX a fa)(hb:PV X EX b fb)(hc:PV X EX c fc)(hm:lastMarks [op,Bj] [b,c]=false:=by exact MQ):PV X EX (.Compare a [op,Bj] [b,c] pos) (zQ g g' fa fb fc):=
 (EL ho uW ha hb hc hm).le (ve hg Pw (fun _ _ _ q=>q) (fun _ _ _ q=>q) fun _ _ _ q=>q)
theorem vY(ho:gC X (compareOp op) r)(uW:gC X (compareOp Bj) r')(hg:lj (lc X EX) r g)(Pw:lj (lc X EX) r' g')(ha:PV X EX a fa)(hb:PV X EX b fb)(hc:PV X EX c fc)(hm:lastMarks [op,Bj] [b,c]=false:=by exact MQ):PB X EX (.Compare a [op,Bj] [b,c] pos) (tB (zQ g g' fa fb fc)):=
 (E2 ho uW ha hb hc hm).le fun σ H Q bx=>lf bx fun G F ρ g0 o=>by refine ve hg Pw (fun _ _ _ q=>q) (fun _ _ _ q=>q) (fun _ _ _ q=>q) σ H _ (aW g0 o (fun x r q=>q) fun F1 H1 bo d1 x s1 g1 r1 o1=>?_);cases d1 with|bl k=>obtain rfl:=Den.b r1;exact⟨k,rfl,o1 F1 H1 k s1 g1 rfl⟩|_=>exact o1.elim
theorem kQ{prog:Program}{w:World}{A:Around}{E:UI}{s:Shared}{t sl:Addr}{items:Array Value}{vl vu:Value}{lo hi:Pq}{Q:UI}(ht:IsTup s.heap t items)(hs:s.heap.IsSliceOf sl vl vu .none)(pl:IsPart vl lo)(pu:IsPart vu hi)(hw:HT.cY items.size 0 lo=0/\HT.cY items.size items.size hi=items.size) (h:Q (.ref t) s):wpAny (model prog w) A (getItem (.ref t) (.ref sl)) Q E s:=by
 obtain⟨os,L8,LV,qf⟩:=id hs;have VL:s.TypeIs (.ref sl) "slice" := ⟨os,L8,LV⟩;unfold getItem;try with_reducible refine OP ?_
 first|refine U0 (Qo ?_)|skip
 refine U0 (wpAny_sequenceKey ht.typeIs (by decide) ?_);refine U0 (O4 (name:=Str.ofString "__getitem__") ht.typeIs OU (xM OU ht.typeIs entry_tuple_getitem ?_ (args_tuple_getitem _ _)));show wpAny _ _ (Builtin.Tuple.tupleItemsOf (.ref t) >>= _) _ _ s;refine U0 (PyProof.Rows.tupleItemsOf_ ht ?_);refine U0 (Js VL ?_);rw[Ge (by decide)];refine U0 (HT.iV hs pl pu ?_);have Wl:(((HT.cY items.size 0 lo:Nat):Int) == 0&&(1:Int) == 1&&(HT.cY items.size items.size hi-HT.cY items.size 0 lo) == items.size)=true:=by rw[hw.1,hw.2];simp
 show wpAny _ _ (if (((HT.cY items.size 0 lo:Nat):Int) == 0&&(1:Int) == 1&&(HT.cY items.size items.size hi-HT.cY items.size 0 lo) == items.size)=true then _ else _) _ _ s;rw[Ge Wl];refine U0 ?_;unfold Builtin.Tuple.tupleIsExact;refine U0 (Js ht.typeIs (Qo ?_));rw[Ge (by decide)];refine U0 (K9 (Qo ⟨_,rfl,Qo h⟩))
def WX(K:Frag):V->Pq->Pq->Hp->VK->Prop:=fun x lo hi H Q=>∃q xs,x=.ref q/\dB K H q xs/\(lW xs lo hi=xs->Q (.ref q) H)/\∀p,H p=none->Q (.ref p) (upd H p (.tup (lW xs lo hi)))
theorem Jd:L2.uY X (WX X.K):=by
 intro UW s σ H x v vl vu lo hi sl Q I rx hs pl pu h;obtain⟨q,xs,rfl,hx,h1,h2⟩:=h;by_cases hw:HT.cY xs.length 0 lo=0/\HT.cY xs.length xs.length hi=xs.length;cases rx;obtain⟨aD,r,ht,hz⟩:=I.tuple hx;have R5:aD.toArray.size=xs.length:=by rw[Tv];exact r.length.symm
 refine⟨"tuple",_,PyProof.Rows.slot_tuple_getitem.lookup,ht.typeIs,kQ ht hs pl pu (by rw[R5];exact hw) ⟨.ref q,H,I,rfl,h1 ?_⟩⟩;unfold lW;rw[hw.1,hw.2];simp;exact OO UW s σ H _ v vl vu lo hi sl Q I rx hs pl pu ⟨q,xs,rfl,hx,hw,h2⟩
theorem Q21(items:Array Value)(lo hi:Pq):slicePick items lo hi none=((items.toList.drop (HT.cY items.size 0 lo)).take (HT.cY items.size items.size hi-HT.cY items.size 0 lo)).toArray:=by
 have e:sliceBounds lo hi none items.size=(((HT.cY items.size 0 lo:Nat):Int),((HT.cY items.size items.size hi:Nat):Int),1):=by
  simp only[sliceBounds,Option.getD_none];simp only[show (1:Int) > 0 by decide,if_true];cases lo with
  |none=>cases hi with|none=>rfl|some j=>simp only[HT.cY];congr 1;congr 1;split<;>lia
  |some i=>cases hi with|none=>simp only[HT.cY];congr 1;split<;>lia|some j=>simp only[HT.cY];congr 1;(split<;>lia);congr 1;split<;>lia
 unfold slicePick;rw[e];simp only[sliceRange_one,pick_run]
def Oz(K:Frag):V->Pq->Pq->Hp->VK->Prop:=fun x lo hi H Q=>∃q xs,x=.ref q/\cU K H q xs/\∀p,H p=none->Q (.ref p) (upd H p (.lst (lW xs lo hi)))
theorem Q1R:L2.uY X (Oz X.K):=by
 intro UW s σ H x v vl vu lo hi sl Q I rx hs pl pu h;obtain⟨q,xs,rfl,hx,h1⟩:=h;cases rx;obtain⟨aD,r,ht,hz⟩:=I.list hx;have R5:aD.toArray.size=xs.length:=by rw[Tv];exact r.length.symm
 refine⟨"list",_,slot_list_getitem.lookup,ht.isList.typeIs,wpAny_getItem_list_slice ht.isList hs pl pu .none (by decide) ?_ (by rw[R5];exact hz)⟩;rw[Q21,R5];exact⟨.ref _,_,I.Hr (t':=s.toks) ((r.drop (HT.cY xs.length 0 lo)).take (HT.cY xs.length xs.length hi-HT.cY xs.length 0 lo)) (DT (jR xs lo hi) hz),rfl,h1 _ I.fresh⟩
theorem dI{lo hi:Option Expr}{fl fh:Option (M D)}{p2:Pos}(he:PV X EX e fe)(hl:yD X EX lo fl)(hh:yD X EX hi fh):PV X EX (.Subscript e (.Slice lo hi none p2) pos) (oN eU fe fl fh):=(ER (Jd.or Q1R) he hl hh).le fun σ H Q bx=>lf bx fun G F ρ g0 o=>aW g0 o (fun x r q=>q) fun F1 H1 bo d1 x s1 g1 r1 o1=>aW g1 o1 (fun x r q=>q.same s1) fun F2 H2 mQ l l' s2 g2 r2 o2=>aW g2 o2 (fun x r q=>q.same (s1.trans s2)) fun F3 H3 YO h h' s3 g3 r3 o3=>by cases r2;cases r3;obtain⟨d,e1,q⟩:=o3.opt;have Gg:=r1.same (s2.trans s3);cases d1 with|tup ds=>cases e1;obtain⟨_,_,rfl,hq,rq⟩:=Den.t Gg;refine .inl ⟨_,_,rfl,dB.same hq g3.sub,fun e2=>?_,fun p hp=>?_⟩;have:=tS rq l h;rw[e2] at this;exact q F3 H3 _ (s1.trans (s2.trans s3)) g3 (.tup hq this);rename_i vs;have sF:=bh (o:=.tup (lW vs l h)) (g3.sub.free hp);exact q _ _ _ (s1.trans (s2.trans (s3.trans sF))) (g3.laid hp) (.tup (dB.of aJ) ((tS rq l h).same sF))|lst ds=>cases e1;obtain⟨_,_,rfl,hq,rq⟩:=Den.l Gg;refine .inr ⟨_,_,rfl,cU.same hq g3.sub,fun p hp=>?_⟩;rename_i vs;have sF:=bh (o:=.lst (lW vs l h)) (g3.sub.free hp);exact q _ _ _ (s1.trans (s2.trans (s3.trans sF))) (g3.laid hp) (.lst (cU.of aJ) ((tS rq l h).same sF))|_=>cases e1
end
namespace RV
theorem Q0V:Slot "reversed" "__init__" "object.__init__":=.of (owner:="object") (n:="__init__") (by rw[HL,Hb];kernel_rfl) (by decide +kernel) (by decide +kernel) (by decide +kernel) (by first|exact .inl (by decide +kernel)|exact .inr (by decide +kernel)) (by rw[Ru];kernel_rfl)
theorem called:TypeCalled "reversed" "reversed.__new__" "object.__init__":=⟨by decide +kernel,PySem.F.create_reversed,⟨_,_,PySem.F.mro_reversed⟩,PySem.F.made_reversed,Oo,PySem.F.sub_reversed_self,Q0V⟩
theorem slot_next:Slot "reversed" "__next__" "reversed.__next__":=.of (owner:="reversed") (n:="__next__") (by rw[HL,Hb];kernel_rfl) (by decide +kernel) (by decide +kernel) (by decide +kernel) (by first|exact .inl (by decide +kernel)|exact .inr (by decide +kernel)) (by rw[Ru];kernel_rfl)
theorem entry_next:entryFor table "reversed.__next__" = some Builtin.«reversed.__next__» := entryFor_of_tree (by kernel_rfl)
theorem nL:Manifest.owners.lookup (String.ofList ['d','e','s','r','e','v','e','r'].reverse)=some Manifest.sig_reversed:=by kernel_rfl
theorem args_next(a:Value):argsOk "reversed.__next__" ⟨[a],[]⟩:=by unfold argsOk;rw[signature?_of (id:="reversed.__next__") (n:=['_','_','t','x','e','n','_','_']) (o:=['d','e','s','r','e','v','e','r']) (by kernel_rfl) nL];kernel_rfl
theorem tu:Slot "reversed" "__iter__" "reversed.__iter__":=.of (owner:="reversed") (n:="__iter__") (by rw[HL,Hb];kernel_rfl) (by decide +kernel) (by decide +kernel) (by decide +kernel) (by first|exact .inl (by decide +kernel)|exact .inr (by decide +kernel)) (by rw[Ru];kernel_rfl)
theorem Az(a:Value):argsOk "reversed.__iter__" ⟨[a],[]⟩:=by unfold argsOk;rw[signature?_of (id:="reversed.__iter__") (n:=['_','_','r','e','t','i','_','_']) (o:=['d','e','s','r','e','v','e','r']) (by kernel_rfl) nL];kernel_rfl
theorem xk:entryFor table "reversed.__iter__" = some Builtin.«dict_keyiterator.__iter__»:=entryFor_alias (id':="dict_keyiterator.__iter__") (by kernel_rfl) (by first|rfl|decide +kernel|(unfold String.splitOn;simp +decide [String.splitOnAux])) (by decide +kernel) (by kernel_rfl)
theorem uw:typeLookup (.type "tuple") "__reversed__" = pure none:=by rw[HL,Hb];kernel_rfl
theorem Q22:isSubtype (.type "tuple") (.type "dict")=pure false:=by rw[Ru];kernel_rfl
section
variable{prog:Program}{w:World}{A:Around}{E:UI}{s:Shared}
def obj(t:Addr)(i:Int):Obj:={cls:=.type "reversed",data:=.fields #[.ref t,rawInt i]}
def Is(h:Heap)(a t:Addr)(i:Int):Prop:=∃o,h.get? a=some o/\o.cls=.type "reversed" /\ o.data=.fields #[.ref t,rawInt i]
theorem C0(ht:IsTup s.heap t items)(hz:items.size<=sizeLine)
  (h:∀tk,Q₁ (.ref s.heap.objs.size) {s with heap:=s.heap.push (obj t ((items.size:Int)-1)),toks:=tk}) :
  codeAny (model prog w) A (.call (.builtin "reversed.__new__") ⟨[.type "reversed",.ref t],[]⟩) (wants Q₁ E) s:=by
 refine codeAny_of_tree ?_;refine U0 (m:=checkBuiltinCall "reversed.__new__" ⟨[.type "reversed",.ref t],[]⟩) (SU (PySem.F.newCall_reversed_1 _) (Qo ⟨OQ Oo _,uI PySem.F.entry_reversed_new ?_⟩));rw[MY Oo _];unfold Builtin.«reversed.__new__»;refine U0 (SU (newClass_reversed _) ?_);refine U0 (SU (a:=()) (by first|rfl|kernel_rfl) ?_);refine U0 (SU (a:=()) (by first|rfl|kernel_rfl) ?_);try dsimp only
 refine U0 (A7 ht.typeIs uw ?_);try dsimp only
 refine U0 (U0 (m:=isInstance (.ref t) (.type "dict")) (QL (b:=false) ht.typeIs Q22 ?_));refine U0 (m:=specialOf (.ref t) "__getitem__") (A7 ht.typeIs PyProof.Rows.slot_tuple_getitem.lookup ?_);refine Qo ?_;refine U0 (m:=call (Value.builtin "len") [Value.ref t]) (len_tuple ht (by rw[Nx] at hz;lia) ?_);refine U0 (m:=asInt? (.int items.size _)) (Qo ?_);refine U0 (m:=newObj (.type "reversed") (.fields #[.ref t,rawInt ((items.size:Int)-1)])) (MC (Qo (h _)))
theorem make(ht:IsTup s.heap t items)(hz:items.size<=sizeLine)(h:∀tk,Q (.ref s.heap.objs.size) {s with heap:=s.heap.push (obj t ((items.size:Int)-1)),toks:=tk}):wpAny (model prog w) A (call (.type "reversed") [.ref t]) Q E s:=by refine callType_codes (Q₁:=fun o bA=>bA.TypeIs o "reversed" /\ Q o bA) called (PySem.F.typeCall_reversed_1 _) PySem.F.entry_object_init (C0 ht hz fun tk=>⟨⟨_,PQ _ rfl,rfl⟩,h tk⟩) fun o bA h₁=>?_;exact⟨h₁.1,Ml o _,object_init_meets called.init.lookup called.made (by decide) prog w A.in1 _ bA ⟨h₁.1,rfl,h₁.2⟩⟩
theorem Is.typeIs(x:Is s.heap a t i):s.TypeIs (.ref a) "reversed" := let ⟨o,ho,hc,_⟩:=x;⟨o,ho,hc⟩
theorem Is.at(x:Is h a t i)(e:∀o,h.get? a=some o->h'.get? a=some o):Is h' a t i:=let ⟨o,ho,r⟩:=x;⟨o,e _ ho,r⟩
theorem next_item{it t:Addr}{i:Nat}{items:Array Value}{x:Value}{Q:UU->Shared->Prop}(hit:Is s.heap it t (i:Int))(ht:IsTup s.heap t items)(hx:items[i]?=some x)(hz:items.size<=sizeLine)(hQ:∀h' tk,Is h' it t ((i:Int)-1)->Heap.SameBut it s.heap h'->Q (some x) {s with heap:=h',toks:=tk}):wpAny (model prog w) A (pyNext (.ref it)) Q E s:=by
 obtain⟨o,ho,hc,hd⟩:=id hit;unfold pyNext;refine U0 (DY (O4 (name:=Str.ofString "__next__") hit.typeIs slot_next (xM slot_next hit.typeIs entry_next ?_ (args_next _))));unfold Builtin.«reversed.__next__»;refine U0 (SU (a:=(Value.ref it,[])) rfl ?_);refine U0 (Xt ho hd (x:=.ref t) rfl ?_);refine U0 (Xt ho hd (x:=rawInt (i:Int)) rfl ?_);show wpAny _ _ (if (i:Int)<0 then _ else _) _ _ s;rw[UE T9];refine U0 (m:=specialOf (.ref t) "__getitem__") (A7 ht.typeIs PyProof.Rows.slot_tuple_getitem.lookup ?_);have hi:i<items.size:=(Array.getElem?_eq_some_iff.mp hx).1;have ZV:(items.size:Int)<=16777216:=by rw[Nx] at hz;lia
 refine U0 (m:=mkInt (i:Int)) (wpAny_mkInt ?_);refine U0 (m:=(getItem (Value.ref t) _).attempt) (DY (getItem_tuple (items:=items) (j:=i) ht T9 T9 ?_ hx ?_));unfold seqIndex?;simp;lia;refine U0 (m:=field (Value.ref it) 1) (Xt ho hd (x:=rawInt (i:Int)) rfl ?_);refine U0 (m:=setField (Value.ref it) 1 (rawInt ((i:Int)-1))) (BS ho hd G9 ?_);refine Qo ⟨x,rfl,Qo (hQ _ _ ?_ (BV ..))⟩;exact⟨_,vT _ ho (Ft (Wr hd _)),(Obj.cls_mapFields ..).trans hc,by rw[Wr hd];simp⟩
theorem next_end(hh:A.handled=none)(hit:Is s.heap it t (-1))(hQ:∀h',Heap.ExtBut it s.heap h'->Q none {s with heap:=h'}):wpAny (model prog w) A (pyNext (.ref it)) Q E s:=by
 obtain⟨o,ho,hc,hd⟩:=id hit;unfold pyNext;refine U0 (DY (O4 (name:=Str.ofString "__next__") hit.typeIs slot_next (xM slot_next hit.typeIs entry_next ?_ (args_next _))));unfold Builtin.«reversed.__next__»;refine U0 (SU (a:=(Value.ref it,[])) rfl ?_);refine U0 (Xt ho hd (x:=.ref t) rfl ?_);refine U0 (Xt ho hd (x:=rawInt (-1)) rfl ?_);show wpAny _ _ (if (-1:Int)<0 then _ else _) _ _ s;rw[Ge (by decide)];refine U0 (K9 ?_);refine U0 (U0 (m:=setField (Value.ref it) 1 (rawInt (-1))) (BS ho hd G9 ?_));have Rh:=vT (Obj.mapFields fun vs=>vs.set! 1 (rawInt (-1))) ho (Ft (Wr hd _));have LX:(Obj.mapFields (fun vs=>vs.set! 1 (rawInt (-1))) o).data=.fields #[.ref t,rawInt (-1)]:=by rw[Wr hd];simp
 refine BS Rh LX G9 ?_;refine U0 (m:=Builtin.SmallTypes.stopIteration) ?_;refine U0 (m:=newExc (.type "StopIteration") []) ?_;simp only[newExc,newTuple];refine U0 (MC ?_ (by size_fits));refine U0 (m:=firstArgMember _ _) (SU (a:=Value.none) (by first|rfl|(simp only[firstArgMember];rfl)) ?_);refine MC ?_ (by size_fits);simp only[raiseNew];refine U0 (wpAny_handled ?_);first|rw[show A.in1.handled=none from hh]|rw[hh]
 refine U0 (Qo (wpAny_throw ?_));refine U0 (QL (T:="StopIteration") (b:=true) ⟨_,PQ _ rfl,rfl⟩ isSubtype_stop ?_);refine Qo (hQ _ fun b ob hb e=>?_);refine WL _ (WL _ ?_);exact(rE _ _ (W5 hb)).trans ((rE _ _ (W5 hb)).trans e)
theorem nB(hit:Is s.heap it t i)(h:Q (.ref it) s):wpAny (model prog w) A (pyIter (.ref it)) Q E s:=by refine wpAny_pyIter_slot hit.typeIs tu (xM tu hit.typeIs xk ?_ (Az _));exact Qo ⟨_,rfl,"reversed",_,hit.typeIs,slot_next.lookup,h⟩
end
end RV
def TZ(K:Frag)(t:Bool)(q:Addr)(n:Nat):It:=⟨fun i H=>∃xs x,lQ K H t q xs/\xs.length=n/\i<n/\xs[n-1-i]?=some x,fun i H x H'=>H'=H/\∀xs,lQ K H t q xs->xs[n-1-i]?=some x,fun i H=>i=n⟩
def nX(t:Bool)(it q:Addr)(i:Int)(h:Heap):Prop:=if t then RV.Is h it q i else h.IsRevIter it q i
theorem nX.at(x:nX t it q i h)(e:∀o,h.get? it=some o->h'.get? it=some o):nX t it q i h':=by cases t;exact Heap.IsRevIter.at x e;exact RV.Is.at x e
theorem nX.obj(x:nX t it q i h):∃o n vs,h.get? it=some o/\o.cls=.type n/\o.data=.fields vs/\["enumerate","zip","dict_itemiterator","dict_reverseitemiterator","odict_iterator","itertools.zip_longest","itertools.pairwise"].contains n=false:=by cases t;obtain⟨o,h1,h2,h3⟩:=x;exact⟨o,_,_,h1,h2,h3,by decide⟩;obtain⟨o,h1,h2,h3⟩:=x;exact⟨o,_,_,h1,h2,h3,by decide⟩
theorem wy{P:Program}{w:World}{K:Frag}{tg:Expr}(t:Bool)(q it:Addr)(n:Nat):Turn P w K tg (TZ K t q n) [it] it (fun i h=>i<=n/\nX t it q ((n:Int)-1-i) h) where
 mem:=G9
 obj:=fun i h st b hb=>by
  have e:b=it:=by simpa using hb
  subst e;obtain⟨o,_,_,e,_,d,_⟩:=st.2.obj;exact⟨o,e,fun v z=>by rw[d] at z;cases z⟩
 keep:=fun i h h' st k=>⟨st.1,st.2.at fun o e=>k it G9 o e⟩
 item:=by
  intro X hP hw hK hc i UW s σ H E I hf st hg;subst hP hw hK;obtain⟨xs,x,hq,hl,hi,hx⟩:=hg;obtain⟨f0,f1,f2,f3,f4,f5⟩:=hf it G9;have e1:(n:Int)-1-(i:Int)=((n-1-i:Nat):Int):=T9;have e2:((n-1-i:Nat):Int)-1=(n:Int)-1-((i+1:Nat):Int):=T9;have yp:=st.2;rw[e1] at yp;have fin:∀u h' tk,RelV x u->nX t it q (((n-1-i:Nat):Int)-1) h'->Heap.SameBut it s.heap h'->wpAny (model X.prog X.w) X.A (letOwnedTupleGo tg (.ref it) u) (fun _ s2=>∃x H',Inv X UW σ H' s2/\RelV x u/\(TZ X.K t q n).U1 i H x H'/\(i+1<=n/\nX t it q ((n:Int)-1-((i+1:Nat):Int)) s2.heap)/\∀b∈[it],H' b=none) E {s with heap:=h',toks:=tk}:=fun u h' tk ru oQ sb=>by have I1:Inv X UW σ H {s with heap:=h',toks:=tk}:=I.turned (t':=tk) (fun b o hb e=>(sb.2 b hb).trans e) f0 f1 f3 f4 f5;rw[e2] at oQ;obtain⟨o,nm,vs,e,c,d,nc⟩:=oQ.obj;exact sM (s:={s with heap:=h',toks:=tk}) e c d nc ⟨x,H,I1,ru,⟨rfl,fun ys hy=>by rw[Inv.qV I hy hq];exact hx⟩,⟨hi,oQ⟩,fun b hb=>(hf b hb).1⟩
  cases t with|false=>obtain⟨aD,rv,pl,hz⟩:=I.list (show cU X.K H q xs from hq);obtain⟨u,hu,ru⟩:=rv.get hx;exact wpAny_pyNext_rev_item yp pl.isList (x:=u) (by simpa using hu) fun h' oQ sb=>⟨u,rfl,fin u h' s.toks ru oQ sb⟩|true=>obtain⟨aD,rv,tp,hz⟩:=I.tuple (show dB X.K H q xs from hq);obtain⟨u,hu,ru⟩:=rv.get hx;exact RV.next_item yp tp (x:=u) (by simpa using hu) (by rw[Tv,<-rv.length];exact hz) fun h' tk oQ sb=>⟨u,rfl,fin u h' tk ru oQ sb⟩
 done:=by intro X hP hw hK hc i UW s σ H E I hf st hg;subst hP hw hK;obtain⟨f0,f1,f2,f3,f4,f5⟩:=hf it G9;have Pw:i=n:=hg;have e1:(n:Int)-1-(i:Int)=-1:=T9;have yp:=st.2;rw[e1] at yp;cases t with|false=>exact wpAny_pyNext_rev_end (I.ok.hd hc) yp fun h' eb=>⟨rfl,I.turned (t':=s.toks) (fun b o hb e=>eb b o hb e) f0 f1 f3 f4 f5⟩|true=>exact RV.next_end (I.ok.hd hc) yp fun h' eb=>⟨rfl,I.turned (t':=s.toks) (fun b o hb e=>eb b o hb e) f0 f1 f3 f4 f5⟩
 self:=fun _ i _ _ _ st h=>by cases t with|false=>exact wpAny_pyIter_revIter st.2 h|true=>exact RV.nB st.2 h
section
variable{X:Cx}{EX:XE}{L:Lc}{e a b tg:Expr}{fa fb fe:M D}{pos p:Pos}{x:Str}
def Wo(K:Frag)(t:TA):TI:=fun σ H R=>t σ H fun vs H1=>∃b q xs,vs=[.ref q]/\lQ K H1 b q xs/\R (TZ K b q xs.length) H1
theorem Oe{t:TA}(hg:Gl X "reversed")(hm:X.mg "reversed" = none)(ha:PA X [a] t)(hs:starEach [a] X.env=[(false,eval a X.env)]:=by rfl):PI X tg (.Call (.Name "reversed" p) [a] [] pos) (Wo X.K t):=by
 intro UW s σ H R I h;refine Call_ (dX I hg hm boot_reversed (YY (bS (ha pos UW s σ H _ I h) fun us s1 zz=>?_) (by rw[hs];rfl) (by rfl)));obtain⟨vs,H1,I1,r1,q1⟩:=zz;obtain⟨t,q,xs,e,sq,hR⟩:=q1;subst e;obtain⟨u,rfl,ru⟩:=vals1 r1;cases ru;have fp:∀b∈[s1.heap.objs.size],jG X UW H1 b:=fun b hb=>by
  have e:b=s1.heap.objs.size:=by simpa using hb
  subst e;exact I1.p8 (Uj _) (I1.cg.fresh (Uj _))
 cases t with
 |false=>
  obtain⟨aD,rv,pl,hz⟩:=I1.list (show cU X.K H1 q xs from sq);have hl:aD.toArray.size=xs.length:=by rw[Tv];exact rv.length.symm
  refine call_reversed_list pl.isList ?_;rw[hl];have ri:Heap.IsRevIter (s1.heap.push (revObj q ((xs.length:Int)-1))) s1.heap.objs.size q ((xs.length:Int)-1):=⟨_,PQ _ rfl,rfl,rfl⟩;refine wpAny_pyIter_revIter (s:={s1 with heap:=_}) ri ?_;exact⟨_,[s1.heap.objs.size],_,_,H1,rfl,I1.kept (t':=s1.toks) fun b o e=>WL _ e,wy false q _ xs.length,⟨IA _,by show Heap.IsRevIter _ _ _ _;simpa using ri⟩,fp,hR⟩
 |true=>
  obtain⟨aD,rv,tp,hz⟩:=I1.tuple (show dB X.K H1 q xs from sq);have hl:aD.toArray.size=xs.length:=by rw[Tv];exact rv.length.symm
  refine RV.make tp (by rw[hl];exact hz) fun tk=>?_;rw[hl];have ri:RV.Is (s1.heap.push (RV.obj q ((xs.length:Int)-1))) s1.heap.objs.size q ((xs.length:Int)-1):=⟨_,PQ _ rfl,rfl,rfl⟩;refine RV.nB (s:={s1 with heap:=_,toks:=tk}) ri ?_;exact⟨_,[s1.heap.objs.size],_,_,H1,rfl,I1.kept (t':=tk) fun b o e=>WL _ e,wy true q _ xs.length,⟨IA _,by show RV.Is _ _ _ _;simpa using ri⟩,fp,hR⟩
theorem Hc(h:lQ L.K F t q vs)(r:aI L.K L.mg F vs ds):FQ L G F (TZ L.K t q vs.length) ds.reverse:=fun σ i F' H' ρ s g=>by
 have sq:lQ L.K H' t q vs:=(h.same s).same g.sub;have hl:=r.length;refine⟨fun hi=>?_,fun hi=>?_,fun x FP ⟨e,y⟩=>?_⟩;simp at hi;exact⟨vs,vs[vs.length-1-i]' Uk,sq,rfl,Uk,by simp[show vs.length-1-i<vs.length by omega]⟩;simp at hi;show i=vs.length;omega;subst e;refine⟨F',aL.refl _,g,fun d hd=>?_⟩;have hi:i<ds.length:=by simpa using (List.getElem?_eq_some_iff.mp hd).1
 rw[IB hi,<-hl] at hd;obtain⟨v,h1,h2⟩:=(r.same s).get hd;rw[y vs sq] at h1;cases h1;exact h2
theorem Q0x(hg:Gl X "reversed")(hm:X.mg "reversed" = none)(ha:PV X EX a fa)(hs:starEach [a] X.env=[(false,eval a X.env)]:=by rfl):uT X EX tg (.Call (.Name "reversed" p) [a] [] pos) (HD fa):=(Oe hg hm (cb ha fN hs) hs).le fun σ H Q bx=>dm bx fun G F F1 H1 bo d1 y s1 g1 r1 o1=>by obtain⟨ds,e,q⟩:=o1.opt;cases e1:cy d1 with|none=>rw[e1] at e;cases e|some es=>rw[e1] at e;cases e;obtain⟨t,q1,vs,rfl,z,r⟩:=Den.seq r1 e1;exact⟨t,q1,vs,rfl,z.same g1.sub,q F1 H1 _ s1 g1 (Hc z r)⟩
end
namespace GA
def JK(T:String):Prop:=T="list_reverseiterator" \/ T="reversed"
section
variable{prog:Program}{w:World}{A:Around}{E:UI}{s:Shared}{I:Addr}{fp wr:Xr}{n:Nat}{P:Nat->Value->Prop}{St:Nat->Heap->Prop}{T:String}
def Hint(prog:Program)(w:World)(A:Around)(I:Addr)(St:Nat->Heap->Prop):Prop:=∀(s:Shared)(Q:Bool->Shared->Prop)(E:UI),St 0 s.heap->(∀b tk,s.toks<=tk->Q b {s with toks:=tk})->wpAny (model prog w) A (Builtin.List.listLengthHint (.ref I)) Q E s
theorem extend(h2:JK T)(W:WalksS prog w A.in1 I fp wr (fun a b=>b=a) n P (fun i s=>St i s.heap))(hT:∀(i:Nat)(s:Shared),St i s.heap->s.TypeIs (.ref I) T)(hh:Hint prog w A.in1 I St)(S:Addr)(res:Value)(c₀:Nat)(jI:St 0 s.heap)(DC:S∉fp)(hI:I∈fp)
  (hS:s.heap.get? S=some {cls:=.type "list",data:=.seq #[] c₀}) (hn:n<=sizeLine)
  (hR:∀s' Av c',Moved (S::wr) (fun a b=>b=a) s s'->s'.heap.get? S=some {cls:=.type "list",dict:=none,data:=.seq Av c',slots:=#[]}->ItemsOf P Av n->R (.ok (.ret res)) s') :
  wpAny (model prog w) A.in1 (Builtin.List.listExtendWith (.ref S) (.ref I) res) (fun fin s'=>match fin with|.done f=>R (.ok f) s'|.again c'=>c'.quiet=true/\codeAny (model prog w) A c' R s') (fun e s'=>R (.error e) s') s:=by
 have Zj:S≠I:=fun e=>DC (e ▸ hI);have h1:Builtin.List.listSameRef (.ref S) (.ref I)=false:=by simp[Builtin.List.listSameRef,Zj]
 unfold Builtin.List.listExtendWith;refine U0 (Js (hT 0 _ jI) ?_);rw[UE (by rw[h1];rcases h2 with rfl|rfl<;>decide)];refine U0 (W.self 0 _ _ _ jI (U0 (OP (hh s _ _ jI fun b tk Uw=>?_))));have yp:=W.frame 0 s s.heap tk jI Uw fun b _ o e=>e;cases b with|false=>rw[UE (by rcases h2 with rfl|rfl<;>decide)];refine Qo ⟨OQ PySem.F.plain_extend_loop _,codeAny_extend_loopS W hn _ DC _ n 0 _ _ _ rfl (IA _) yp hS (ItemsOf.nil P) fun s' Av c' hm LR jj=>hR s' Av c' ?_ LR jj⟩;have mv:Moved (S::wr) (fun a b=>b=a) s {s with toks:=tk}:=⟨fun b o hb e=>e,rfl,rfl,rfl,Uw⟩;exact Moved.trans W.gtrans mv hm|true=>rw[Ge (by rcases h2 with rfl|rfl<;>decide)];refine U0 (K9 (U0 (m:=updateSeq S (·.push .none) >>= fun _=>updateSeq S (·.pop)) (U0 (QP hS rfl ?_))));have q1:=vT (Obj.mapSeq (·.push Value.none)) hS rfl;refine QP (hz:=by seq_fits) q1 rfl ?_;have q2:=vT (Obj.mapSeq (·.pop)) q1 rfl;have SF:∀b o,b≠S->s.heap.get? b=some o->((s.heap.update S (Obj.mapSeq (·.push Value.none))).update S (Obj.mapSeq (·.pop))).get? b=some o:=fun b o hb e=>(rE _ _ (W5 hb)).trans ((rE _ _ (W5 hb)).trans e);refine Qo ⟨OQ PySem.F.plain_extend_loop _,codeAny_extend_loopS W hn _ DC _ n 0 _ _ _ rfl (IA _) (W.frame 0 s _ tk jI Uw fun b hb o e=>SF b o (fun z=>DC (z ▸ hb)) e) q2 (ItemsOf.nil P) fun s' Av c' hm LR jj=>hR s' Av c' ?_ LR jj⟩;have mv:Moved (S::wr) (fun a b=>b=a) s {s with heap:=(s.heap.update S (Obj.mapSeq (·.push Value.none))).update S (Obj.mapSeq (·.pop)),toks:=tk}:=⟨fun b o hb e=>SF b o (fun z=>hb (by rw[z];exact QI)) e,rfl,rfl,rfl,Uw⟩;exact Moved.trans W.gtrans mv hm
theorem gathered(h2:JK T)(W:WalksS prog w A.in1 I fp wr (fun a b=>b=a) n P (fun i s=>St i s.heap))(hT:∀(i:Nat)(s:Shared),St i s.heap->s.TypeIs (.ref I) T)(hh:Hint prog w A.in1 I St)(jI:St 0 s.heap)(AQ:∀b∈fp,b<s.heap.objs.size)(hI:I∈fp)(hn:n<=sizeLine)(hQ:∀s' acc,Moved wr (fun a b=>b=a) s s'->ItemsOf P acc n->Q acc.toList s'):wpAny (model prog w) A (collect (.ref I)) Q E s:=by have DC:s.heap.objs.size∉fp:=fun hm=>nJ _ (AQ _ hm);refine U0 (m:=runValue (.builtin "proto.collect" ⟨[.ref I],[]⟩)) (wpAny_runValue (uI PySem.F.entry_proto_collect ?_));rw[MY PySem.F.plain_proto_collect _];refine U0 (m:=newList []) (MC (Qo ⟨OQ PySem.F.plain_list_iadd _,uI PySem.F.entry_list_iadd ?_⟩));rw[MY PySem.F.plain_list_iadd _];have X:=extend (R:=fun r s'=>r=.ok (.ret (.ref s.heap.objs.size))/\∃acc c,Moved (s.heap.objs.size::wr) (fun a b=>b=a) {s with heap:=s.heap.push {cls:=.type "list",data:=.seq ([]:RU).toArray}} s'/\s'.heap.get? s.heap.objs.size=some {cls:=.type "list",dict:=none,data:=.seq acc c,slots:=#[]}/\ItemsOf P acc n) (s:={s with heap:=s.heap.push {cls:=.type "list",data:=.seq ([]:RU).toArray}}) h2 W hT hh s.heap.objs.size (.ref s.heap.objs.size) 0 (W.frame 0 s _ s.toks jI (Uj _) fun b _ o e=>WL _ e) DC hI (PQ _ rfl) hn fun s' acc c hm hS jj=>⟨rfl,acc,c,hm,hS,jj⟩;have fin:∀s',(∃acc c,Moved (s.heap.objs.size::wr) (fun a b=>b=a) {s with heap:=s.heap.push {cls:=.type "list",data:=.seq ([]:RU).toArray}} s'/\s'.heap.get? s.heap.objs.size=some {cls:=.type "list",dict:=none,data:=.seq acc c,slots:=#[]}/\ItemsOf P acc n)->wpAny (model prog w) A (do let o <-load s.heap.objs.size;match o.data with|.seq xs _=>pure xs.toList|_=>unsupported "internal:collect") Q E s':=fun s' ⟨acc,c,hm,hS,jj⟩=>U0 (wpAny_load hS (Qo (hQ s' acc (Moved.drop_new (o:={cls:=.type "list",data:=.seq ([]:RU).toArray}) (tk:=s.toks) hm (Uj _)) jj)));refine RX X (fun f s' h=>?_) fun e s' h=>absurd h.1 G9;cases f with|done f=>obtain⟨e,h⟩:=h;cases e;exact fin s' h|again c'=>exact⟨h.1,xg h.2 fun r Gh ⟨e,h⟩=>by subst e;exact fin Gh h⟩
theorem xf(h2:JK T)(W:WalksS prog w A.in1.in1 I fp wr (fun a b=>b=a) n P (fun i s=>St i s.heap))(hT:∀(i:Nat)(s:Shared),St i s.heap->s.TypeIs (.ref I) T)(hh:Hint prog w A.in1.in1 I St)(jI:St 0 s.heap)(AQ:∀b∈fp,b<s.heap.objs.size)(hI:I∈fp)(hn:n<=sizeLine)
  (h:∀s' acc,Moved wr (fun a b=>b=a) s s'->ItemsOf P acc n->Q₁ (.ref s'.heap.objs.size) {s' with heap:=s'.heap.push {cls:=.type "tuple",data:=.seq acc}}) :
  codeAny (model prog w) A (.call (.builtin "tuple.__new__") ⟨[.type "tuple",.ref I],[]⟩) (wants Q₁ E) s:=by
 refine codeAny_of_tree (U0 (m:=checkBuiltinCall "tuple.__new__" ⟨[.type "tuple",.ref I],[]⟩) (SU (PySem.F.newCall_tuple_1 _) (Qo ⟨OQ PySem.F.plain_tuple_new _,uI PySem.F.entry_tuple_new ?_⟩)));rw[MY PySem.F.plain_tuple_new _];have k1:=sub_tuple_self;have k2:=init_tuple_lookup;have k3:=madeHere_tuple;have k4:=hT 0 s jI;rcases h2 with rfl|rfl;have z2:JK "list_reverseiterator" := .inl rfl
 wp_walk using Js k4,gathered z2 W hT hh jI AQ hI hn
 intro s' acc hm jj;refine U0 (m:=Builtin.Tuple.tupleExact acc.toList.toArray) (MC (Qo ?_) (by show acc.toList.toArray.size<=sizeLine;simp only[Array.toArray_toList];rw[jj.1];exact hn));rw[show acc.toList.toArray=acc by simp];exact h s' acc hm jj;have z2:JK "reversed" := .inr rfl
 wp_walk using Js k4,gathered z2 W hT hh jI AQ hI hn
 intro s' acc hm jj;refine U0 (m:=Builtin.Tuple.tupleExact acc.toList.toArray) (MC (Qo ?_) (by show acc.toList.toArray.size<=sizeLine;simp only[Array.toArray_toList];rw[jj.1];exact hn));rw[show acc.toList.toArray=acc by simp];exact h s' acc hm jj
theorem pN(h2:JK T)(W:WalksS prog w A.in1.in1.in1 I fp wr (fun a b=>b=a) n P (fun i s=>St i s.heap))(hT:∀(i:Nat)(s:Shared),St i s.heap->s.TypeIs (.ref I) T)(hh:Hint prog w A.in1.in1.in1 I St)(jI:St 0 s.heap)(AQ:∀b∈fp,b<s.heap.objs.size)(hI:I∈fp)(hn:n<=sizeLine)(hQ:∀s' acc,Moved wr (fun a b=>b=a) s s'->ItemsOf P acc n->Q (.ref s'.heap.objs.size) {s' with heap:=s'.heap.push {cls:=.type "tuple",data:=.seq acc}}):wpAny (model prog w) A (call (.type "tuple") [.ref I]) Q E s:=by refine callType_codes (Q₁:=fun obj bA=>bA.TypeIs obj "tuple" /\ Q obj bA) PySem.F.called_tuple (PySem.F.typeCall_tuple_1 _) PySem.F.entry_object_init (xf h2 W hT hh jI AQ hI hn fun s' acc hm jj=>⟨⟨_,PQ _ rfl,rfl⟩,hQ s' acc hm jj⟩) fun obj bA h₁=>?_;exact⟨h₁.1,Ml obj _,object_init_meets PySem.F.called_tuple.init.lookup PySem.F.called_tuple.made (by decide) prog w A.in1 _ bA ⟨h₁.1,rfl,h₁.2⟩⟩
end
theorem HQ:typeLookup (.type "list_reverseiterator") "__len__" = pure none:=by rw[HL,Hb];kernel_rfl
theorem Q23:typeLookup (.type "list_reverseiterator") "__length_hint__" = pure (some (.builtin "list_reverseiterator.__length_hint__")):=by rw[HL,Hb];kernel_rfl
theorem HR:typeLookup (.type "reversed") "__len__" = pure none:=by rw[HL,Hb];kernel_rfl
theorem DI:typeLookup (.type "reversed") "__length_hint__" = pure (some (.builtin "reversed.__length_hint__")):=by rw[HL,Hb];kernel_rfl
theorem tq:Slot "reversed" "__length_hint__" "reversed.__length_hint__":=.of (owner:="reversed") (n:="__length_hint__") DI (by decide +kernel) (by decide +kernel) (by decide +kernel) (by first|exact .inl (by decide +kernel)|exact .inr (by decide +kernel)) (by rw[Ru];kernel_rfl)
theorem xj:entryFor table "reversed.__length_hint__" = some Builtin.«reversed.__length_hint__» := entryFor_of_tree (by kernel_rfl)
theorem Ay(a:Value):argsOk "reversed.__length_hint__" ⟨[a],[]⟩:=by unfold argsOk;rw[signature?_of (id:="reversed.__length_hint__") (n:=['_','_','t','n','i','h','_','h','t','g','n','e','l','_','_']) (o:=['d','e','s','r','e','v','e','r']) (by kernel_rfl) RV.nL];kernel_rfl
section
variable{prog:Program}{w:World}{A:Around}
def Vh(it q:Addr)(items:Array Value):Nat->Heap->Prop:=fun i h=>i<=items.size/\h.IsRevIter it q ((items.size:Int)-1-(i:Int))/\h.IsList q items
def T6(it q:Addr)(items:Array Value):Nat->Heap->Prop:=fun i h=>i<=items.size/\RV.Is h it q ((items.size:Int)-1-(i:Int))/\IsTup h q items
theorem Kb:Hint prog w A it (Vh it q items):=fun s Q E st h=>by
 have hT:s.TypeIs (.ref it) "list_reverseiterator" := st.2.1.typeIs;unfold Builtin.List.listLengthHint;refine U0 (A7 hT HQ ?_);refine U0 (m:=specialOf (.ref it) "__length_hint__") (A7 hT Q23 ?_);generalize Q7:("list_reverseiterator.__length_hint__" : String)=Ws
 wp_delta
 rw[show splitId Ws=some ("list_reverseiterator","__length_hint__") from by subst Q7;decide +kernel];subst Q7;refine U0 (QL (b:=true) hT (by rw[Ru];kernel_rfl) (Qo (h _ s.toks (Uj _))))
theorem Kc(hz:items.size<=sizeLine):Hint prog w A it (T6 it q items):=fun s Q E st h=>by
 have hT:s.TypeIs (.ref it) "reversed" := st.2.1.typeIs;unfold Builtin.List.listLengthHint;refine U0 (A7 hT HR ?_);refine U0 (m:=specialOf (.ref it) "__length_hint__") (A7 hT DI ?_);generalize Q7:("reversed.__length_hint__" : String)=Ws
 wp_delta
 rw[show splitId Ws=some ("reversed","__length_hint__") from by subst Q7;decide +kernel];subst Q7;refine U0 (QL (b:=true) hT (by rw[Ru];kernel_rfl) ?_);obtain⟨_,⟨o,ho,hc,hd⟩,ht⟩:=id st;have ZV:(items.size:Int)<=16777216:=by rw[Nx] at hz;lia
 rw[UE (show ¬((!true)=true) by decide)];dsimp only[];rw[UE (by decide)];refine U0 (K9 (U0 (SU (tq.bind _) ?_)));refine U0 (m:=(call (.builtin "reversed.__length_hint__") [.ref it]).attempt) (DY (xM tq hT xj ?_ (Ay _)));unfold Builtin.«reversed.__length_hint__»;refine U0 (SU (a:=Value.ref it) (by first|rfl|kernel_rfl) ?_);refine U0 (Xt ho hd (x:=.ref q) rfl ?_);rw[UE (by intro z;cases z)];dsimp only[];refine U0 (m:=call (Value.builtin "len") [Value.ref q]) (len_tuple ht T9 ?_);refine U0 (m:=asInt? (.int items.size _)) (Qo ?_);refine U0 (m:=field (.ref it) 1) (Xt (s:={s with toks:=s.toks+1+1}) ho hd (x:=rawInt ((items.size:Int)-1-((0:Nat):Int))) rfl ?_);have e0:(items.size:Int)-1-((0:Nat):Int)+1=items.size:=T9;show wpAny _ _ (if (items.size:Int)<(items.size:Int)-1-((0:Nat):Int)+1 then _ else retInt ((items.size:Int)-1-((0:Nat):Int)+1)) _ _ _;rw[UE T9,e0];have f1:Builtin.List.listFitsIndex (items.size:Int)=true:=by
  unfold Builtin.List.listFitsIndex;simp only[Bool.and_eq_true,decide_eq_true_eq]
  lia
 have f2:Builtin.List.listTooLong ((items.size:Int).toNat)=false:=by unfold Builtin.List.listTooLong;rw[BA];simp only[decide_eq_false_iff_not,gt_iff_lt,Nat.not_lt];exact hz
 have f3:¬(items.size:Int)<0:=T9;generalize (items.size:Int)=k at f1 f2 f3 ⊢;refine U0 (m:=mkInt k) (wpAny_mkInt (Qo ⟨_,rfl,?_⟩));dsimp only[];refine U0 (SU (a:=some k) rfl ?_);dsimp only[];rw[UE (by rw[f1];decide),UE f3,UE (by rw[f2];decide)];exact Qo (h _ _ (by show s.toks<=s.toks+1+1+1;lia))
theorem KN(hh:A.handled=none)(it q:Addr)(BM:q≠it)(items:Array Value)(hz:items.size<=sizeLine):Walks prog w A it [it,q] [it] items.size (fun i v=>items[items.size-1-i]?=some v) (T6 it q items) where
 sub:=fun b hb=>by simp at hb;simp[hb]
 frame:=fun _ _ _ x hk=>⟨x.1,x.2.1.at fun o e=>hk it G9 o e,by obtain⟨o,e,r⟩:=x.2.2;exact⟨o,hk q G9 o e,r⟩⟩
 item:=fun i s Q E hi x hQ=>by have e:(items.size:Int)-1-(i:Int)=((items.size-1-i:Nat):Int):=T9;have e2:((items.size-1-i:Nat):Int)-1=(items.size:Int)-1-((i+1:Nat):Int):=T9;have hit:=x.2.1;rw[e] at hit;have hx:items[items.size-1-i]?=some (items[items.size-1-i]' T9):=Array.getElem?_eq_getElem T9;refine RV.next_item hit x.2.2 hx hz fun h' tk GY sb=>?_;rw[e2] at GY;refine hQ _ h' tk hx ⟨hi,GY,?_⟩ fun b o hb eo=>(sb.2 b fun z=>hb (by simp[z])).trans eo;obtain⟨o,eo,r⟩:=x.2.2;exact⟨o,(sb.2 q BM).trans eo,r⟩
 done:=fun s Q E x hQ=>by have e:(items.size:Int)-1-(items.size:Int)=-1:=T9;have hit:=x.2.1;rw[e] at hit;exact RV.next_end hh hit fun h' he=>hQ h' s.toks fun b o hb eo=>he b o (fun z=>hb (by simp[z])) eo
 self:=fun _ _ _ _ x hQ=>RV.nB x.2.1 hQ
end
end GA
section
variable{X:Cx}{EX:XE}{L:Lc}{e a b tg:Expr}{fa fb fe:M D}{pos p Wu p':Pos}
theorem sO{items acc:Array Value}(h:ItemsOf (fun i v=>items[items.size-1-i]?=some v) acc items.size):acc=items.toList.reverse.toArray:=by
 obtain⟨h1,h2⟩:=h;apply Array.ext';refine DU fun i=>?_;by_cases hi:i<acc.size;have e:=h2 i acc[i] (Array.getElem?_eq_getElem hi);have l:acc.toList[i]?=some acc[i]:=by simp[hi]
 rw[l];simp only[List.toList_toArray];rw[IB (by simp;lia),<-e];simp;have Py:¬i<items.size:=T9;rw[Iv (by simp;lia),Iv (by simp;lia)]
theorem Bc{UW:P4}{σ:St}{H:Hp}{s s':Shared}{it:Addr}(I:Inv X UW σ H s)(hf:jG X UW H it)(m:Moved [it] (fun a b=>b=a) s s'):Inv X UW σ H s':=by
 obtain⟨hp,g,d,tk,os⟩:=s';obtain⟨m1,m2,m3,m4,m5⟩:=m;simp only at m1 m2 m3 m4 m5;subst m2 m3 m4;have Zs:∀b∈[it],jG X UW H b:=fun b hb=>by
  have e:b=it:=by simpa using hb
  subst e;exact hf
 exact Inv.uR (h':=hp) (tk:=tk) (fp:=[it]) I Zs m1
def KA(K:Frag):O6->Hp->VK->Prop:=fun xs H Q=>∃t q ys,xs=[.ref q]/\lQ K H t q ys/\∀p,H p=none->Q (.ref p) (upd H p (.tup ys.reverse))
theorem Ig{t:TA}(hg:Gl X "reversed")(hm:X.mg "reversed" = none)(xB:Gl X "tuple")(AS:X.mg "tuple" = none)(hc:X.calm=true)(ha:PA X [a] t)(hs:starEach [a] X.env=[(false,eval a X.env)]:=by rfl)(jW:starEach [.Call (.Name "reversed" p) [a] [] pos] X.env=[(false,eval (.Call (.Name "reversed" p) [a] [] pos) X.env)]:=by rfl):PE X (.Call (.Name "tuple" p') [.Call (.Name "reversed" p) [a] [] pos] [] Wu) (Tn (KA X.K) t):=by
 intro UW s σ H Q I h;refine K8 (dX I xB AS boot_tuple (YY ?_ jW rfl));rw[jW];refine Bg (Call_ (dX I hg hm boot_reversed (YY (bS (ha pos UW s σ H _ I h) fun us s1 zz=>?_) hs rfl)));obtain⟨vs,H1,I1,r1,q1⟩:=zz;obtain⟨t,q,xs,e,sq,hR⟩:=q1;subst e;obtain⟨u,rfl,ru⟩:=vals1 r1;cases ru;have fp:jG X UW H1 s1.heap.objs.size:=I1.p8 (Uj _) (I1.cg.fresh (Uj _));have fin:∀(o:Obj)(tk:Nat)(aD:RU)(s':Shared)(acc:Array Value),Vals xs aD->xs.length<=sizeLine->Moved [s1.heap.objs.size] (fun a b=>b=a) {s1 with heap:=s1.heap.push o,toks:=tk} s'->ItemsOf (fun i v=>aD.toArray[aD.toArray.size-1-i]?=some v) acc aD.toArray.size->EP X UW σ Q (.ref s'.heap.objs.size) {s' with heap:=s'.heap.push {cls:=.type "tuple",data:=.seq acc}}:=fun o tk aD s' acc rv hz m hi=>by have I2:Inv X UW σ H1 {s1 with heap:=s1.heap.push o,toks:=tk}:=I1.kept (t':=tk) fun b o e=>WL _ e;have I3:=Bc I2 fp m;rw[sO hi];refine⟨.ref s'.heap.objs.size,_,I3.laid (t':=s'.toks) (o:=.tup xs.reverse) (fun b ob q=>WL _ q) (Uj _) ?_,rfl,hR _ (I3.cg.fresh (Uj _))⟩;exact⟨by rw[List.length_reverse];exact hz,_,Vals.reverse rv,lR.new _ _⟩
 cases t with
 |false=>
  obtain⟨aD,rv,pl,hz⟩:=I1.list (show cU X.K H1 q xs from sq);have hsz:aD.toArray.size<=sizeLine:=by rw[Tv,<-rv.length];exact hz
  refine call_reversed_list pl.isList (E7 ?_);have lt:q<s1.heap.objs.size:=by obtain⟨o,e,_⟩:=pl.isList;exact UG e
  have ri:Heap.IsRevIter (s1.heap.push (revObj q ((aD.toArray.size:Int)-1))) s1.heap.objs.size q ((aD.toArray.size:Int)-1-((0:Nat):Int)):=⟨_,PQ _ rfl,rfl,by simp[revObj]⟩;have W:=(Walks.listRev (prog:=X.prog) (w:=X.w) (A:=X.A.in1.in1.in1) (I1.ok.hd hc) s1.heap.objs.size q (Vz lt) aD.toArray).toS;refine GA.pN (T:="list_reverseiterator") (St:=GA.Vh s1.heap.objs.size q aD.toArray) (s:={s1 with heap:=s1.heap.push (revObj q ((aD.toArray.size:Int)-1))}) (.inl rfl) W (fun i s st=>st.2.1.typeIs) GA.Kb ⟨IA _,ri,?_⟩ (fun b hb=>?_) G9 hsz fun s' acc m hi=>fin _ s1.toks aD s' acc rv hz m hi;exact pl.isList.at fun o e=>WL _ e;simp only[List.mem_cons,List.not_mem_nil,or_false] at hb;rcases hb with rfl|rfl;exact UG (PQ _ rfl);exact AN lt (UG (PQ _ rfl))
 |true=>
  obtain⟨aD,rv,tp,hz⟩:=I1.tuple (show dB X.K H1 q xs from sq);have hsz:aD.toArray.size<=sizeLine:=by rw[Tv,<-rv.length];exact hz
  refine RV.make tp hsz fun tk=>E7 ?_;have lt:q<s1.heap.objs.size:=by obtain⟨o,e,_⟩:=tp;exact UG e
  have ri:RV.Is (s1.heap.push (RV.obj q ((aD.toArray.size:Int)-1))) s1.heap.objs.size q ((aD.toArray.size:Int)-1-((0:Nat):Int)):=⟨_,PQ _ rfl,rfl,by simp[RV.obj]⟩;have W:=(GA.KN (prog:=X.prog) (w:=X.w) (A:=X.A.in1.in1.in1) (I1.ok.hd hc) s1.heap.objs.size q (Vz lt) aD.toArray hsz).toS;refine GA.pN (T:="reversed") (St:=GA.T6 s1.heap.objs.size q aD.toArray) (s:={s1 with heap:=s1.heap.push (RV.obj q ((aD.toArray.size:Int)-1)),toks:=tk}) (.inr rfl) W (fun i s st=>st.2.1.typeIs) (GA.Kc hsz) ⟨IA _,ri,?_⟩ (fun b hb=>?_) G9 hsz fun s' acc m hi=>fin _ tk aD s' acc rv hz m hi;obtain⟨o,e,r⟩:=tp;exact⟨o,WL _ e,r⟩;simp only[List.mem_cons,List.not_mem_nil,or_false] at hb;rcases hb with rfl|rfl;exact UG (PQ _ rfl);exact AN lt (UG (PQ _ rfl))
theorem LL:KS L (KA L.K) rK:=fun G F H σ ρ x dx d Q g0 rx e k=>by unfold rK at e;cases e1:cy dx with|none=>rw[e1] at e;cases e|some ds=>rw[e1] at e;cases e;obtain⟨t,q,vs,rfl,r,z⟩:=RR.qU rx g0 e1;refine⟨t,q,vs,rfl,z,fun p hp=>?_⟩;have sF:=bh (o:=.tup vs.reverse) (g0.sub.free hp);exact k _ _ _ sF (g0.laid hp) (.tup (dB.of aJ) ((aI.reverse r).same sF))
theorem Af(hg:Gl X "reversed")(hm:X.mg "reversed" = none)(xB:Gl X "tuple")(AS:X.mg "tuple" = none)(ha:PR X EX a fa)(hc:X.calm=true:=by rfl)(hs:starEach [a] X.env=[(false,eval a X.env)]:=by rfl)(jW:starEach [.Call (.Name "reversed" p) [a] [] pos] X.env=[(false,eval (.Call (.Name "reversed" p) [a] [] pos) X.env)]:=by rfl):PV X EX (.Call (.Name "tuple" p') [.Call (.Name "reversed" p) [a] [] pos] [] Wu) (m1 rK fa):=
 (Ig hg hm xB AS hc (nM ha hs) hs jW).le fun σ H Q bx=>dm bx fun G F F1 H1 bo d1 x s1 g1 r1 o1=>by obtain⟨d,e,q⟩:=o1.opt;exact LL G F1 H1 σ bo x d1 d Q g1 r1 e (fX.same s1 q)
end
namespace GA
section
variable{prog:Program}{w:World}{A:Around}{E:UI}{s:Shared}{I:Addr}{fp wr:Xr}{n:Nat}{P:Nat->Value->Prop}{St:Nat->Heap->Prop}{T:String}
theorem AL(h2:JK T)(W:WalksS prog w A.in1 I fp wr (fun a b=>b=a) n P (fun i s=>St i s.heap))(hT:∀(i:Nat)(s:Shared),St i s.heap->s.TypeIs (.ref I) T)(hh:Hint prog w A.in1 I St)(S:Addr)(jI:St 0 s.heap)(DC:S∉fp)(hI:I∈fp)
  (hS:s.heap.get? S=some {cls:=.type "list",data:=.seq #[]}) (hn:n<=sizeLine)
  (hR:∀s' acc c,Moved (S::wr) (fun a b=>b=a) s s'->s'.heap.get? S=some {cls:=.type "list",dict:=none,data:=.seq acc c,slots:=#[]}->ItemsOf P acc n->R (.ok (.ret .none)) s') :
  wpAny (model prog w) A.in1 (Builtin.«list.__init__» ⟨[.ref S,.ref I],[]⟩) (fun fin s'=>match fin with|.done f=>R (.ok f) s'|.again c'=>c'.quiet=true/\codeAny (model prog w) A c' R s') (fun e s'=>R (.error e) s') s:=by
 have q2:=vT (Obj.mapSeq (fun _=>(#[]:Array Value))) hS rfl;have SF:∀b o,b≠S->s.heap.get? b=some o->(s.heap.update S (Obj.mapSeq (fun _=>(#[]:Array Value)))).get? b=some o:=fun b o hb e=>by rw[rE _ _ (W5 hb)];exact e
 refine U0 (m:=Builtin.List.listItems (.ref S)) ?_;unfold Builtin.List.listItems;refine U0 (ML hS rfl (Qo ?_));refine U0 (m:=updateSeq S (fun _=>#[])) (QP hS rfl (U0 (E0 ?_)));refine extend (s:={s with heap:=s.heap.update S (Obj.mapSeq (fun _=>(#[]:Array Value)))}) h2 W hT hh S .none _ (W.frame 0 s _ s.toks jI (Uj _) fun b hb o e=>SF b o (fun z=>DC (z ▸ hb)) e) DC hI q2 hn fun s' acc c hm LR jj=>hR s' acc c ?_ LR jj;have mv:Moved (S::wr) (fun a b=>b=a) s {s with heap:=s.heap.update S (Obj.mapSeq (fun _=>(#[]:Array Value)))}:=⟨fun b o hb e=>SF b o (fun z=>hb (by rw[z];exact QI)) e,rfl,rfl,rfl,Uj _⟩;exact Moved.trans W.gtrans mv hm
theorem rZ(h2:JK T)(W:WalksS prog w A.in1.in1 I fp wr (fun a b=>b=a) n P (fun i s=>St i s.heap))(hT:∀(i:Nat)(s:Shared),St i s.heap->s.TypeIs (.ref I) T)(hh:Hint prog w A.in1.in1 I St)(jI:St 0 s.heap)(AQ:∀b∈fp,b<s.heap.objs.size)(hI:I∈fp)(hn:n<=sizeLine)
  (hQ:∀s' acc c,Moved (s.heap.objs.size::wr) (fun a b=>b=a) {s with heap:=s.heap.push {cls:=.type "list",data:=.seq #[]}} s'->s'.heap.get? s.heap.objs.size=some {cls:=.type "list",dict:=none,data:=.seq acc c,slots:=#[]}->ItemsOf P acc n->Q (.ref s.heap.objs.size) s') :
  wpAny (model prog w) A (call (.type "list") [.ref I]) Q E s:=by
 have DC:s.heap.objs.size∉fp:=fun hm=>nJ _ (AQ _ hm);have hS:(s.heap.push {cls:=.type "list",data:=.seq #[]}).get? s.heap.objs.size=some {cls:=.type "list",data:=.seq #[]}:=PQ _ rfl;refine callType_codes (Q₁:=fun obj bA=>obj=.ref s.heap.objs.size/\bA={s with heap:=s.heap.push {cls:=.type "list",data:=.seq #[]}}) PySem.F.called_list (PySem.F.typeCall_list_1 _) PySem.F.entry_list_init (code_list_new _ ⟨rfl,rfl⟩) fun obj bA z=>?_;obtain⟨rfl,rfl⟩:=z;refine⟨⟨_,hS,rfl⟩,PySem.F.args_list_init_2 _ _,?_⟩;exact AL (s:={s with heap:=s.heap.push {cls:=.type "list",data:=.seq #[]}}) h2 W hT hh _ (W.frame 0 s _ s.toks jI (Uj _) fun b _ o e=>WL _ e) DC hI hS hn fun s' acc c hm LR jj=>⟨rfl,hQ s' acc c hm LR jj⟩
end
end GA
section
variable{X:Cx}{EX:XE}{L:Lc}{a:Expr}{fa:M D}{p pos p' Wu:Pos}
def S4(K:Frag):O6->Hp->VK->Prop:=fun xs H Q=>∃t q ys,xs=[.ref q]/\lQ K H t q ys/\∀p,H p=none->Q (.ref p) (upd H p (.lst ys.reverse))
theorem Ie(hg:Gl X "reversed")(hm:X.mg "reversed" = none)(xB:Gl X "list")(AS:X.mg "list" = none)(hc:X.calm=true)(ha:PA X [a] t)(hs:starEach [a] X.env=[(false,eval a X.env)]:=by rfl)(jW:starEach [.Call (.Name "reversed" p) [a] [] pos] X.env=[(false,eval (.Call (.Name "reversed" p) [a] [] pos) X.env)]:=by rfl):PE X (.Call (.Name "list" p') [.Call (.Name "reversed" p) [a] [] pos] [] Wu) (Tn (S4 X.K) t):=by
 intro UW s σ H Q I h;refine K8 (dX I xB AS QS (YY ?_ jW rfl));rw[jW];refine Bg (Call_ (dX I hg hm boot_reversed (YY (bS (ha pos UW s σ H _ I h) fun us s1 zz=>?_) hs rfl)));obtain⟨vs,H1,I1,r1,q1⟩:=zz;obtain⟨t,q,xs,e,sq,hR⟩:=q1;subst e;obtain⟨u,rfl,ru⟩:=vals1 r1;cases ru;have fp:jG X UW H1 s1.heap.objs.size:=I1.p8 (Uj _) (I1.cg.fresh (Uj _));have fin:∀(o:Obj)(tk:Nat)(aD:RU)(s':Shared)(acc:Array Value)(c:Nat),Vals xs aD->xs.length<=sizeLine ->
   Moved ((s1.heap.push o).objs.size::[s1.heap.objs.size]) (fun a b=>b=a) {s1 with heap:=(s1.heap.push o).push {cls:=.type "list",data:=.seq #[]},toks:=tk} s'->s'.heap.get? (s1.heap.push o).objs.size=some {cls:=.type "list",dict:=none,data:=.seq acc c,slots:=#[]} ->
   ItemsOf (fun i v=>aD.toArray[aD.toArray.size-1-i]?=some v) acc aD.toArray.size->EP X UW σ Q (.ref (s1.heap.push o).objs.size) s':=fun o tk aD s' acc c rv hz m hl hi=>by
  obtain⟨hp,g,d,tk',os⟩:=s';obtain⟨m1,m2,m3,m4,m5⟩:=m;simp only at m1 m2 m3 m4 m5 hl;subst m2 m3 m4;have hsz:(s1.heap.push o).objs.size=s1.heap.objs.size+1:=by simp[Heap.push]
  rw[sO hi] at hl;refine⟨.ref (s1.heap.push o).objs.size,_,I1.laid (t':=tk') (o:=.lst xs.reverse) (fun b ob q=>?_) (by rw[hsz];exact ON _) ⟨by rw[List.length_reverse];exact hz,_,c,Vals.reverse rv,hl⟩,rfl,hR _ (I1.cg.fresh (by rw[hsz];exact ON _))⟩;have lt:=UG q;have n1:b≠(s1.heap.push o).objs.size:=Vz (US lt (by rw[hsz];exact ON _));have n2:b≠s1.heap.objs.size:=Vz lt;exact m1 b ob (by simp only[List.mem_cons,List.not_mem_nil,or_false,not_or];exact⟨n1,n2⟩) (WL _ (WL _ q))
 cases t with
 |false=>
  obtain⟨aD,rv,pl,hz⟩:=I1.list (show cU X.K H1 q xs from sq);have hsz:aD.toArray.size<=sizeLine:=by rw[Tv,<-rv.length];exact hz
  refine call_reversed_list pl.isList (E7 ?_);have lt:q<s1.heap.objs.size:=by obtain⟨o,e,_⟩:=pl.isList;exact UG e
  have ri:Heap.IsRevIter (s1.heap.push (revObj q ((aD.toArray.size:Int)-1))) s1.heap.objs.size q ((aD.toArray.size:Int)-1-((0:Nat):Int)):=⟨_,PQ _ rfl,rfl,by simp[revObj]⟩;have W:=(Walks.listRev (prog:=X.prog) (w:=X.w) (A:=X.A.in1.in1) (I1.ok.hd hc) s1.heap.objs.size q (Vz lt) aD.toArray).toS;refine GA.rZ (T:="list_reverseiterator") (St:=GA.Vh s1.heap.objs.size q aD.toArray) (s:={s1 with heap:=s1.heap.push (revObj q ((aD.toArray.size:Int)-1))}) (.inl rfl) W (fun i s st=>st.2.1.typeIs) GA.Kb ⟨IA _,ri,?_⟩ (fun b hb=>?_) G9 hsz fun s' acc c m hl hi=>fin _ s1.toks aD s' acc c rv hz m hl hi;exact pl.isList.at fun o e=>WL _ e;simp only[List.mem_cons,List.not_mem_nil,or_false] at hb;rcases hb with rfl|rfl;exact UG (PQ _ rfl);exact AN lt (UG (PQ _ rfl))
 |true=>
  obtain⟨aD,rv,tp,hz⟩:=I1.tuple (show dB X.K H1 q xs from sq);have hsz:aD.toArray.size<=sizeLine:=by rw[Tv,<-rv.length];exact hz
  refine RV.make tp hsz fun tk=>E7 ?_;have lt:q<s1.heap.objs.size:=by obtain⟨o,e,_⟩:=tp;exact UG e
  have ri:RV.Is (s1.heap.push (RV.obj q ((aD.toArray.size:Int)-1))) s1.heap.objs.size q ((aD.toArray.size:Int)-1-((0:Nat):Int)):=⟨_,PQ _ rfl,rfl,by simp[RV.obj]⟩;have W:=(GA.KN (prog:=X.prog) (w:=X.w) (A:=X.A.in1.in1) (I1.ok.hd hc) s1.heap.objs.size q (Vz lt) aD.toArray hsz).toS;refine GA.rZ (T:="reversed") (St:=GA.T6 s1.heap.objs.size q aD.toArray) (s:={s1 with heap:=s1.heap.push (RV.obj q ((aD.toArray.size:Int)-1)),toks:=tk}) (.inr rfl) W (fun i s st=>st.2.1.typeIs) (GA.Kc hsz) ⟨IA _,ri,?_⟩ (fun b hb=>?_) G9 hsz fun s' acc c m hl hi=>fin _ tk aD s' acc c rv hz m hl hi;obtain⟨o,e,r⟩:=tp;exact⟨o,WL _ e,r⟩;simp only[List.mem_cons,List.not_mem_nil,or_false] at hb;rcases hb with rfl|rfl;exact UG (PQ _ rfl);exact AN lt (UG (PQ _ rfl))
theorem Im(hg:Gl X "reversed")(hm:X.mg "reversed" = none)(xB:Gl X "list")(AS:X.mg "list" = none)(ha:PR X EX a fa)(hc:X.calm=true:=by rfl)(hs:starEach [a] X.env=[(false,eval a X.env)]:=by rfl)(jW:starEach [.Call (.Name "reversed" p) [a] [] pos] X.env=[(false,eval (.Call (.Name "reversed" p) [a] [] pos) X.env)]:=by rfl):PF X EX (.Call (.Name "list" p') [.Call (.Name "reversed" p) [a] [] pos] [] Wu) (m1 Fg fa):=
 (Ie hg hm xB AS hc (nM ha hs) hs jW).le fun σ H Q bx=>dm bx fun G F F1 H1 bo d1 x s1 g1 r1 o1=>by obtain⟨d,e,q⟩:=o1.opt;unfold Fg at e;cases e1:cy d1 with|none=>rw[e1] at e;cases e|some ds=>rw[e1] at e;cases e;obtain⟨t,b,vs,rfl,r,z⟩:=RR.qU r1 g1 e1;refine⟨t,b,vs,rfl,z,fun p hp=>?_⟩;have ob:dU (lc X EX).K (lc X EX).mg F1 (upd H1 p (.lst vs.reverse)) p (.lst ds.reverse):=⟨_,aJ,aI.reverse r⟩;exact q F1 _ _ s1 (g1.made hp) ⟨p,rfl,g1.loose hp ob⟩
def IM(K:Frag)(al:Bool):O6->Hp->VK->Prop:=fun xs H Q=>∃(q:Addr)(bs:WK),xs=[.ref q]/\cU K H q (bs.map V.bl)/\Q (.bl (if al then bs.all id else bs.any id)) H
theorem rW:∀{bs:WK}{us:RU},Vals (bs.map V.bl) us->us=bs.map Value.bool|[],_,h=>by cases h;rfl|b::bs,_,h=>by cases h with|cons h1 h2=>rw[rW h2,Po];cases (show _=Value.bool b from h1);rfl
theorem range_all(bs:WK):(List.range bs.length).all (fun i=>bs.getD i false)=bs.all id/\(List.range bs.length).any (fun i=>bs.getD i false)=bs.any id:=by
 have e:(List.range bs.length).map (fun i=>bs.getD i false)=bs:=by apply rO;simp;intro i h1 h2;simp[h2]
 refine⟨?_,?_⟩;rw[show bs.all id=((List.range bs.length).map fun i=>bs.getD i false).all id by rw[e],List.all_map];rfl;rw[show bs.any id=((List.range bs.length).map fun i=>bs.getD i false).any id by rw[e],List.any_map];rfl
theorem rX(hc:X.calm=true)(al:Bool):dF X (.builtin (if al then "all" else "any")) (IM X.K al):=by
 intro UW s σ H xs us Q I r h;obtain⟨q,bs,rfl,hq,k⟩:=h;obtain⟨u,rfl,ru⟩:=vals1 r;cases ru;obtain⟨aD,rv,pl,hz⟩:=I.list hq;have e:=rW rv;subst e;have lt:q<s.heap.objs.size:=by obtain⟨o,e,_⟩:=pl.isList;exact UG e
 have hh:X.A.in1.handled=none:=I.ok.hd hc;have W:=Walks.list (prog:=X.prog) (w:=X.w) (A:=X.A.in1) hh s.heap.objs.size q (Vz lt) (bs.map Value.bool).toArray;have st:(fun i (h:Heap)=>h.IsListIter s.heap.objs.size q i/\h.IsList q (bs.map Value.bool).toArray) 0 (s.heap.push {cls:=.type "list_iterator",data:=.fields #[.ref q,.int 0 0]}):=⟨⟨_,PQ _ rfl,rfl,rfl⟩,pl.isList.push _⟩;have tr:TruthOf X.prog X.w X.A.in1 (fun i v=>(bs.map Value.bool).toArray[i]?=some v) (fun i=>bs.getD i false):=fun i v s Q E hP hQ=>by
  have Pr:bs[i]?.map Value.bool=some v:=by simpa using hP
  cases e:bs[i]? with
  |none=>rw[e] at Pr;cases Pr|some b=>
   rw[e] at Pr;cases Pr;have:bs.getD i false=b:=by simp[e]
   dsimp only at hQ;rw[this] at hQ;exact Mw hQ
 have kp:∀(h':Heap),(∀b o,b∉[s.heap.objs.size]->(s.heap.push {cls:=.type "list_iterator",data:=.fields #[.ref q,.int 0 0]}).get? b=some o->h'.get? b=some o)->∀b o,s.heap.get? b=some o->h'.get? b=some o:=fun h' hk b o e=>by have lt:=UG e;have n1:b≠s.heap.objs.size:=Vz lt;exact hk b o (by simp[n1]) (WL _ e)
 have hsz:(bs.map Value.bool).toArray.size=bs.length:=G9;cases al with|true=>refine call_all_walk (Xc pl.isList ⟨_,_,_,_,_,_,_,rfl,W,st,tr,fun h' tk hk=>?_⟩);rw[hsz,(range_all bs).1];exact⟨.bl _,H,I.kept (kp h' hk),rfl,k⟩|false=>refine call_any_walk (Xc pl.isList ⟨_,_,_,_,_,_,_,rfl,W,st,tr,fun h' tk hk=>?_⟩);rw[hsz,(range_all bs).2];exact⟨.bl _,H,I.kept (kp h' hk),rfl,k⟩
theorem CU{K:Frag}{mg:MG}{F:Hp}:∀{vs:O6}{ds:RN}{bs:WK},aI K mg F vs ds->i8 ds=some bs->vs=bs.map V.bl
|_,_,_,.nil,e=>by cases e;rfl|_,_,_,.cons (d:=d) h t,e=>by
 cases d with
 |bl b=>obtain rfl:=Den.b h;simp only[i8] at e;cases q:i8 _ with|none=>rw[q] at e;cases e|some bs=>rw[q] at e;cases e;rw[CU t q];rfl
 |_=>cases e
theorem qa(al:Bool):KS L (IM L.K al) (oF al):=fun G F H σ ρ x dx d Q g0 rx e k=>by
 cases dx with
 |lst ds=>
  simp only[oF] at e;cases e2:i8 ds with
  |none=>rw[e2] at e;cases e|some bs=>
   rw[e2] at e;cases e;obtain⟨q,vs,rfl,r,z⟩:=RR.seq rx g0 rfl;rcases z with ⟨_,z⟩|⟨z,_⟩
   rw[CU r e2] at z;exact⟨q,bs,rfl,z,k F H _ (aL.refl _) g0 (.bl _)⟩;cases z
 |_=>cases e
theorem mY(hc:X.calm=true):dF X (.builtin "all") (IM X.K true):=rX hc true
theorem rY(hc:X.calm=true):dF X (.builtin "any") (IM X.K false):=rX hc false
theorem boot_all:bootBuiltins "all" = some (.builtin "all"):=by kernel_rfl
theorem boot_any:bootBuiltins "any" = some (.builtin "any"):=by kernel_rfl
theorem ym(g:L.Good G F H σ ρ)(r:Den L.K L.mg F v x)(o:Out (gg k (setAt kd x) ρ) P E) : ∃l vs i j bP,kd=.int i/\σ[k]?=some (some (V.ref l))/\H l=some (.lst vs)/\Mq vs.length i=some j/\L.Good G F (upd H l (.lst (vs.set j v))) σ bP/\P () bP:=by
 unfold gg at o;cases q:own ρ[k]? with
 |none=>rw[q] at o;exact o.elim|some d=>
  rw[q] at o;dsimp only at o;cases q2:setAt kd x d with
  |none=>rw[q2] at o;exact o.elim|some d'=>
   rw[q2] at o;have o':P () (cE k d' ρ):=o;cases d with
   |lst ds=>
    cases kd with
    |int i=>
     simp only[setAt] at q2;cases q4:BN ds.length i with
     |none=>rw[q4] at q2;cases q2|some j=>
      rw[q4] at q2;cases q2;cases q3:ρ[k]? with
      |none=>rw[q3] at q;cases q|some s=>
       rw[q3] at q;have sl:=g.slot k s q3;have fin:∀l s',σ[k]?=some (some (V.ref l))->cq s=true->dU L.K L.mg F H l (.lst ds)->((∃e,s=.ow e/\s'=.ow (.lst (ds.set j x)))\/(∃e,s=.io e/\s'=.io (.lst (ds.set j x))))->cE k (.lst (ds.set j x)) ρ=ρ.set k s'->∃l vs i' j bP,D.int i=.int i'/\σ[k]?=some (some (V.ref l))/\H l=some (.lst vs)/\Mq vs.length i'=some j/\L.Good G F (upd H l (.lst (vs.set j v))) σ bP/\P () bP:=fun l s' z1 z2 z3 z4 z5=>by obtain⟨vs,y1,y2⟩:=z3;refine⟨l,vs,i,j,_,rfl,z1,y1,by rw[y2.length];exact q4,Good.write g q3 z2 z1 z4 ⟨_,aJ,y2.set j r⟩,?_⟩;rw[<-z5];exact o'
       cases s with|no=>cases q|sh e=>cases q|ow e=>cases q;obtain⟨l,z1,z2,z3,z4⟩:=sl;exact fin l _ (join_some z1) rfl z4 (.inl ⟨_,rfl,rfl⟩) (by unfold cE;rw[q3])|io e=>cases q;obtain⟨l,z1,z2,z3,z4⟩:=sl;exact fin l _ (join_some z1) rfl z4 (.inr ⟨_,rfl,rfl⟩) (by unfold cE;rw[q3])
    |_=>cases q2
   |_=>cases q2
variable{b value:Expr}{fk fv:M D}{x:Str}
theorem cz(i:Nat){p1 p2 p3:Pos}(hk:PV X EX b fk)(hv:PV X EX value fv)(hN:X.N[i]?=some x:=by rfl)(Ma:uZ X.env.scope x:=by exact Oi)(hd:Yw x:=by decide)
  (jC:Xj x:=by decide) (hs:swapsWithSole [.Subscript (.Name x p1) b p2] value p3.line X.env=pure false:=by rfl) (hw:swappedStores [.Subscript (.Name x p1) b p2] value X.env=pure none:=by rfl)
  (h1:(assignEach [.Subscript (.Name x p1) b p2] X.env).map (·.2)=[assign (.Subscript (.Name x p1) b p2) X.env]:=by rfl)
  (ha:∀v,assign (.Subscript (.Name x p1) b p2) X.env v=(do
   let ov <-holding [v] (eval (.Name x p1) X.env);let iv <-holding [v,ov] (eval b X.env)
   standAt p2
   holding [v,ov,iv] (setItem ov iv v)
   release [v,ov,iv] []):=by exact Bz):nW X EX (.Assign [.Subscript (.Name x p1) b p2] value p3) (cB i fk fv):=
 (Oh hv (Q1d (fO hN Ma hd jC) hk set_list ha) hs hw h1).le fun E σ H bx=>xK bx fun G F ρ g0 o=>aW g0 o (fun x r q=>q.x) fun F1 H1 bo d1 v s1 g1 r1 o1=>by by_cases hl:isLst (own bo[i]?)=true;rw[Ge hl] at o1;obtain⟨l,vs,z1,z2⟩:=isLst_slot (L:=lc X EX) g1 hl;refine⟨_,z1,aW g1 o1 (fun x r q=>(q.same s1).x) fun F2 H2 mQ d2 y s2 g2 r2 o2=>?_⟩;obtain⟨l',wH,k,j,bP,y0,y1,y2,y3,g3,q⟩:=ym (L:=lc X EX) g2 (r1.same s2) (Out.PN o2);rw[z1] at y1;cases y1;subst y0;obtain rfl:=Den.i r2;exact⟨l,wH,k,j,rfl,rfl,y2,y3,q F2 _ σ (s1.trans s2) g3⟩;rw[UE hl] at o1;exact o1.elim
end
section
variable{X:Cx}{EX:XE}{L:Lc}{e a b c:Expr}{fa fb fc fe:M D}{pos:Pos}{x:Str}
theorem jw.QF:∀{ds:RN}{us:RU},Paired jw ds us->∃vs:O6,Vals vs us/\∀(K:Frag)(mg:MG)(F:Hp),aI K mg F vs ds|_,_,.nil=>⟨[],.nil,fun _ _ _=>.nil⟩|_,_,.cons h t=>by obtain⟨v,r,d⟩:=h.den;obtain⟨vs,rs,es⟩:=jw.QF t;exact⟨v::vs,.cons r rs,fun K mg F=>.cons (d K mg F) (es K mg F)⟩
def tI(K:Frag)(d:D)(v:Value):Prop:=jw d v\/∃(ds:RN)(q:Addr)(aD:Array Value)(n:Nat),d=.tup ds/\v=.ref q/\K.lookup q=some ⟨.type "tuple",none,.seq aD n,#[]⟩/\aD.size<=sizeLine/\Paired jw ds aD.toList
theorem tI.den{K:Frag}{d:D}{v:Value}(h:tI K d v):∃u:V,RelV u v/\∀(mg:MG)(F:Hp),Den K mg F u d:=by rcases h with h|⟨ds,q,aD,n,rfl,rfl,hl,hz,hp⟩;obtain⟨u,r,d⟩:=h.den;exact⟨u,r,fun mg F=>d K mg F⟩;obtain⟨vs,rs,es⟩:=jw.QF hp;exact⟨.ref q,rfl,fun mg F=>.tup (.inr ⟨_,aD,n,hl,rfl,rfl,hz,rs,rfl⟩) (es K mg F)⟩
theorem Q31{K:Frag}{ds:RN}{q:Addr}{aD:Array Value}{n:Nat}(hl:K.lookup q=some ⟨.type "tuple",none,.seq aD n,#[]⟩)(hz:aD.size<=sizeLine)(hp:Paired jw ds aD.toList):tI K (.tup ds) (.ref q):=.inr ⟨ds,q,aD,n,rfl,rfl,hl,hz,hp⟩
structure Gu(w:World)(K:Frag)(mg:MG)(x:Str)(t:List (Str×D))(ab:PU):Prop where
 ex:∃(q:Addr)(es:Array DictEntry)(n:Nat),mg x=some (.ref q)/\(q == sysModules)=false/\K.lookup q=some ⟨.type "dict",none,.dict es n,#[]⟩/\W.KeysLit w.params es.toList/\(∀k d,t.lookup k=some d->∃v,W.nsIn K q k=some (some v)/\tI K d v)/\∀k∈ab,W.nsIn K q k=some none
theorem Q1p{K:Frag}{q:Addr}{t:List (Str×D)}(h:∀p∈t,∃v,W.nsIn K q p.1=some (some v)/\tI K p.2 v):∀k d,t.lookup k=some d->∃v,W.nsIn K q k=some (some v)/\tI K d v:=fun k d e=>h (k,d) (AG e)
theorem uF{t:List (Str×D)}{ab:PU}{p:Pos}(T:Gu X.w X.K X.mg x t ab)(hg:Gl X x)(hb:PV X EX b fb)(jH:Yw x:=by decide)
  (hs:∀(q:Addr)(k:Str)(tk:Tok),subscripted b false (.ref q) (.str k tk)=operate [.ref q,.str k tk] (getItem (.ref q) (.str k tk)):=by intro _ _ _;with_unfolding_all rfl) :
  PV X EX (.Subscript (.Name x p) b pos) (m1 (Fz t) fb):=by
 intro UW s σ H Q I h;obtain⟨G,F,ρ,g0,o⟩:=h;obtain⟨q,es,n,hm,_,hl,hk,hv,_⟩:=T.ex;refine Subscript_ (mh I hg hm ?_ jH);refine bS (hb UW s σ H _ I (aW g0 o (fun x r q=>q) fun F1 H1 bo d1 y s1 g1 r1 o1=>(⟨F1,bo,d1,s1,g1,r1,o1⟩:∃F1 bo d1,aL F F1/\(lc X EX).Good G F1 H1 σ bo/\Den X.K X.mg F1 y d1/\Out (opt (Fz t d1) bo) (fX (lc X EX) (RV (lc X EX)) G F σ Q) (dq (lc X EX) G F σ)))) fun u s2 zz=>?_;obtain⟨y,H2,I2,r2,F1,bo,d1,s1,g1,den,o1⟩:=zz;obtain⟨d,e1,q1⟩:=o1.opt;cases d1 with|str k=>obtain rfl:=Den.s den;obtain⟨tk,rfl⟩:=r2;obtain⟨v,hn,fl⟩:=hv k d e1;obtain⟨u2,ru,Vt⟩:=fl.den;have Us:=W.mapOf_K (prog:=X.prog) (w:=X.w) I2.mP hl hk;refine PyProof.Rows.tail_any Us.typeIs slot_dict_getitem.lookup (wpAny_getItem_of (strKind_is X.prog X.w k tk) Us (W.find_K hl hn) ?_) (hs q k tk);exact⟨u2,H2,I2.tok _,ru,q1 F1 H2 u2 s1 g1 (Vt _ F1)⟩|_=>cases e1
def E9(w:World)(K:Frag)(neg:Bool):R2:=fun x y H Q=>∃(k:Str)(q:Addr)(es:Array DictEntry)(n:Nat)(r:UU),x=.str k/\y=.ref q/\(q == sysModules)=false/\K.lookup q=some ⟨.type "dict",none,.dict es n,#[]⟩/\W.KeysLit w.params es.toList/\W.nsIn K q k=some r/\Q (.bl (if neg then !r.isSome else r.isSome)) H
theorem EH:gC X (compareOp .In) (E9 X.w X.K false):=by intro UW s σ H x y v u Q I rx ry h;obtain⟨k,q,es,n,r,rfl,rfl,lo,hl,hk,hn,hq⟩:=h;obtain⟨tk,rfl⟩:=rx;cases ry;have Us:=W.mapOf_K (prog:=X.prog) (w:=X.w) I.mP hl hk;refine wpAny_in_of (strKind_is X.prog X.w k tk) lo Us ?_;rw[W.find_K hl hn];exact⟨.bl _,H,I.tok _,rfl,hq⟩
theorem DR(lo:(q == sysModules)=false)(hl:X.K.lookup q=some ⟨.type "dict",none,.dict es n,#[]⟩)(hk:W.KeysLit X.w.params es.toList)
  (hv:∀k d,t.lookup k=some d->∃v,W.nsIn X.K q k=some (some v)/\tI X.K d v) (QY:∀k∈ab,W.nsIn X.K q k=some none) (σ:St) (H:Hp) (Q:VK)
  (h:lift (lc X EX) (RV (lc X EX)) (m1 (uP neg t ab) fa) σ H Q):KH (E9 X.w X.K neg) (lift (lc X EX) (RV (lc X EX)) fa) (tC (.ref q)) σ H Q:=by
 obtain⟨G,F,ρ,g0,o⟩:=h;refine aW g0 o (fun x r q=>q) fun F1 H1 bo d1 x s1 g1 r1 o1=>?_;obtain⟨d,e1,q1⟩:=o1.opt;cases d1 with
  |str k=>obtain rfl:=Den.s r1;simp only[uP] at e1;cases e2:t.lookup k with|some d2=>rw[e2] at e1;cases e1;obtain⟨v,hn,_⟩:=hv k d2 e2;exact⟨k,q,es,n,some v,rfl,rfl,lo,hl,hk,hn,by cases neg<;>exact q1 F1 H1 _ s1 g1 (.bl _)⟩|none=>rw[e2] at e1;dsimp only at e1;split at e1;rename_i hm;cases e1;exact⟨k,q,es,n,none,rfl,rfl,lo,hl,hk,QY k (by simpa using hm),by cases neg<;>exact q1 F1 H1 _ s1 g1 (.bl _)⟩;cases e1
  |_=>cases e1
theorem Fy{e:Expr}{f:M D}{t:TE}{tt:TT}(hp:PT X e tt)(k:∀σ H Q,t σ H (fun v H1=>∃b,v=.bl b/\Q b H1)->tt σ H Q)(hl:∀σ H Q,lift (lc X EX) (RV (lc X EX)) f σ H Q->t σ H Q):PB X EX e (tB f):=hp.le fun σ H Q bx=>lf bx fun G F ρ g0 o=>k σ H Q (hl σ H _ (aW g0 o (fun x r q=>q) fun F1 H1 bo d1 x s1 g1 r1 o1=>by cases d1 with|bl k=>obtain rfl:=Den.b r1;exact⟨k,rfl,o1 F1 H1 k s1 g1 rfl⟩|_=>exact o1.elim))
theorem EJ(T:Gu X.w X.K X.mg x t ab)(hg:Gl X x)(ha:PV X EX a fa)(hm:behindInMarks .In (.Name x p)=false)(jH:Yw x:=by decide):PB X EX (.Compare a [.In] [.Name x p] pos) (tB (m1 (uP false t ab) fa)):=by obtain⟨q,es,n,h1,lo,hl,hk,hv,QY⟩:=T.ex;exact Fy (ph EH ha (kI (v:=.ref q) hg h1 rfl jH) hm) (fun _ _ _ h=>h) (DR lo hl hk hv QY)
theorem pZ{K:Frag}{mg:MG}{F:Hp}{v:V}{d:D}(r:Den K mg F v d)(f:jB d=true):kY v=true:=by cases r<;>first|rfl|cases f
theorem GO{K:Frag}{mg:MG}{F:Hp}{v w:V}{d e:D}(r:Den K mg F v d)(q:Den K mg F w e)(f:jB d=true)(f2:jB e=true):GN v w=eqB d e:=by cases r<;>first|(cases f;done)|(cases q<;>first|(cases f2;done)|rfl)
theorem uk{K:Frag}{mg:MG}{F:Hp}{v:V}{d:D}(r:Den K mg F v d)(f:jB d=true):∀{vs:O6}{ds:RN},aI K mg F vs ds->ds.all jB=true->vs.all kY=true/\UB v vs=ds.any fun y=>eqB y d|_,_,.nil,_=>⟨rfl,rfl⟩|_,_,.cons h t,fs=>by rw[TH,NU] at fs;obtain⟨i1,i2⟩:=uk r f t fs.2;refine⟨?_,?_⟩;rw[TH,pZ h fs.1,i1];rfl;unfold UB at i2 ⊢;rw[AB,AB,i2,GO h r fs.1 f]
theorem ua(neg:Bool):lj L (UM L.K neg) (inD neg):=fun G F H σ ρ x y dx dy d Q g0 rx ry e k=>by unfold inD at e;cases e1:cy dy with|none=>rw[e1] at e;cases e|some ds=>rw[e1] at e;dsimp only at e;split at e;rename_i hf;rw[NU] at hf;cases e;obtain⟨t,q,vs,rfl,hq,r⟩:=Den.seq ry e1;obtain⟨i1,i2⟩:=uk rx hf.1 r hf.2;refine⟨q,vs,rfl,?_,pZ rx hf.1,i1,?_⟩;have:=lQ.same hq g0.sub;cases t;exact .inl this;exact .inr this;rw[i2];exact k F H _ (aL.refl _) g0 (.bl _);cases e
end
section
variable{K:Frag}{mg:MG}{G:Fx}{F H:Hp}{σ:St}{ρ:aR}
theorem Good.snoc(g:Good K mg G F H σ ρ)(x:Loose K mg G F H σ ρ l d):Good K mg G F H (σ++[some (V.ref l)]) (ρ++[.ow d]):=by
 have low:∀{i:Nat}{s:Sl},(ρ++[Sl.ow d])[i]?=some s->(i<ρ.length/\ρ[i]?=some s/\(σ++[some (V.ref l)])[i]?=σ[i]?)\/(i=ρ.length/\s=.ow d/\(σ++[some (V.ref l)])[i]?=some (some (V.ref l))):=fun {i s} h=>by
  by_cases hi:i<ρ.length;rw[MS hi] at h;exact .inl ⟨hi,h,MS (by rw[g.len];exact hi)⟩;rw[Sr T9] at h;have:i=ρ.length:=by
   by_cases z:i-ρ.length=0
   lia
   rw[Iv (by simp;lia)] at h;cases h
  subst this;simp at h;refine .inr ⟨rfl,h.symm,?_⟩;rw[Sr (by rw[g.len];exact Uj _),g.len];simp
 exact {
  sF:=g.sF
  sub:=g.sub
  old:=g.old
  new:=g.new
  len:=by simp[g.len]
  slot:=fun i s h=>by
   rcases low h with ⟨_,h1,h2⟩|⟨_,rfl,h2⟩
   rw[h2];exact g.slot i s h1;rw[h2];exact⟨l,rfl,x.nF,x.n0,x.ob⟩
  apart:=fun i j m s t h1 h2 o1 o2 e1 e2=>by
   rcases low h1 with ⟨_,a1,a2⟩|⟨a0,rfl,a2⟩
   rw[a2] at e1;rcases low h2 with ⟨_,b1,b2⟩|⟨b0,rfl,b2⟩
   rw[b2] at e2;exact g.apart i j m s t a1 b1 o1 o2 e1 e2;rw[b2] at e2;cases e2;exact absurd e1 (x.ns i s a1 o1);rw[a2] at e1;cases e1;rcases low h2 with ⟨_,b1,b2⟩|⟨b0,rfl,b2⟩
   rw[b2] at e2;exact absurd e2 (x.ns j t b1 o2)
   lia
  oq:=g.oq
  oJ:=g.oJ}
theorem Good.O7(g:Good K mg G F H (σ++[some (V.ref l)]) bP)(hd:bP[σ.length]?=some (.ow d)):Good K mg G F H σ (bP.take σ.length)/\Loose K mg G F H σ (bP.take σ.length) l d:=by
 have g2:=g.take σ.length;rw[List.take_left] at g2;have at_:(σ++[some (V.ref l)])[σ.length]?=some (some (V.ref l)):=G9;obtain⟨m,h1,h2,h3,h4⟩:=g.slot _ _ hd;rw[at_] at h1;cases h1;refine⟨g2,h2,h3,h4,fun i s h o e=>?_⟩;have hi:i<σ.length:=by
  have:=(List.getElem?_eq_some_iff.mp h).1;simp at this
  lia
 rw[Sv hi] at h;have:=g.apart i σ.length l s _ h hd o rfl (by rw[MS hi];exact e) at_
 lia
theorem mS.more:∀{vs:O6}{as:List AV},mS L F σ vs as->mS L F (σ++t) vs as|_,_,.nil=>.nil|_,_,.cons (a:=a) h r=>by refine .cons ?_ (mS.more r);cases a with|val d=>exact h|io j=>have hj:j<σ.length:=(List.getElem?_eq_some_iff.mp (show σ[j]?=_ from h)).1;show (σ++t)[j]?=_;rw[MS hj];exact h
end
section
variable{X:Cx}{EX:XE}{L:Lc}{e a b o value:Expr}{es:W3}{fa fe fo:M D}{as:List VP.Arg}{pos p QN:Pos}{x c m:Str}
variable{CX:uX}{k:Nat}{fA C:Addr}{fd:FuncData}{ps:PU}{fl:WK}{fs:Fn}{cs:PU}{f:Str}
def KU(K:Frag)(mg:MG)(cs:PU)(f:Str):Prop:=∀c∈cs,∃C,mg c=some (.ref C)/\Aq K C/\iY K C f
theorem lB{K:Frag}{mg:MG}{F:Hp}{f:Str}{d:D}:∀{fs:List (Str×V)}{ds:RN},aI K mg F (fs.map (·.2)) ds->((fs.map (·.1)).zip ds).lookup f=some d->∃v,fs.lookup f=some v/\Den K mg F v d|[],_,.nil,h=>by cases h| (n,v)::fs,_,.cons h t,q=>by simp only[List.map_cons,List.zip_cons_cons,List.lookup_cons] at q ⊢;split at q;cases q;exact⟨v,rfl,h⟩;exact lB t q
theorem aT(T:KU X.K X.mg cs f)(ha:PR X EX e fe)(hb:attributeBase e f X.env (eval e X.env)=eval e X.env:=by rfl):PV X EX (.Attribute e f pos) (m1 (aZ cs f) fe):=(N5 ha hb).le fun σ H Q bx=>dm bx fun G F F1 H1 bo d1 y s1 g1 r1 o1=>by
 obtain⟨d,e1,q⟩:=o1.opt;cases d1 with
 |ins c ns vs=>
  simp only[aZ] at e1;split at e1;rename_i hc;obtain⟨C,hm,hC,hn⟩:=T c (by simpa using hc);rcases r1 with r1|⟨l,rfl,C',dx,fs,h1,h2,rfl,h4⟩;cases r1 with|ins h rD r=>obtain⟨v,lv,dv⟩:=lB r e1;rw[show (lc X EX).mg c=some (.ref C) from hm] at rD;cases rD;exact⟨_,C,_,_,v,rfl,g1.sub _ _ h,hC,hn,lv,q F1 H1 v s1 g1 dv⟩
  obtain⟨v,lv,dv⟩:=lB h4 e1;rw[show (lc X EX).mg c=some (.ref C) from hm] at h2;cases h2;exact⟨_,C,_,_,v,rfl,h1,hC,hn,lv,q F1 H1 v s1 g1 dv⟩;cases e1
 |_=>cases e1
theorem wa{K:Frag}{mg:MG}{F:Hp}{f:Str}{v:V}{d:D}(h:Den K mg F v d):∀{fs:List (Str×V)}{ds:RN},aI K mg F (fs.map (·.2)) ds->(gq f v fs).map (·.1)=(kf f d (fs.map (·.1)) ds).1/\aI K mg F ((gq f v fs).map (·.2)) (kf f d (fs.map (·.1)) ds).2|[],_,.nil=>⟨rfl,.cons h .nil⟩| (n,w)::fs,_,.cons q t=>by obtain⟨i1,i2⟩:=wa (f:=f) h t;simp only[gq,List.map_cons,kf];split;exact⟨rfl,.cons h t⟩;exact⟨by simp[i1],.cons q i2⟩
theorem a8(i:Nat){Wu p':Pos}(T:KU X.K X.mg cs f)(hv:PV X EX value fe)(hN:X.N[i]?=some x:=by rfl)(Ma:uZ X.env.scope x:=by exact Oi)(hd:Yw x:=by decide)(jC:Xj x:=by decide) (hs:swapsWith value (some (.Attribute (.Name x p') f Wu)) pos.line X.env=pure false:=by rfl):nW X EX (.Assign [.Attribute (.Name x p') f Wu] value pos) (bu i cs f fe):=
 (Q0Q (fO hN Ma hd jC) hv hs).le fun E σ H bx=>xK bx fun G F ρ g0 o=>aW g0 o (fun x r q=>q.x) fun F1 H1 bo d1 v s1 g1 r1 o1=>by
  have o2:=o1.PN;unfold gg at o2;cases q:bo[i]? with
  |none=>rw[q] at o2;exact o2.elim|some sl=>
   rw[q] at o2;have go:∀(d:D)(l:Addr),own (some sl)=some d->σ[i]?=some (some (V.ref l))->dU X.K X.mg F1 H1 l d->cq sl=true->∃YL,σ[i]?=some (some YL)/\∃a C dx fs,YL=V.ref a/\H1 a=some (HO.ins C dx fs)/\Aq X.K C/\iY X.K C f/\fs.length<1000/\E.nx σ (upd H1 a (HO.ins C dx (gq f v fs))):=fun d l e1 e2 ob ow=>by
    rw[e1] at o2;dsimp only at o2;cases e3:Fs cs f d1 d with
    |none=>rw[e3] at o2;exact o2.elim|some d'=>
     rw[e3] at o2;cases d with
     |ins c ns vs=>
      simp only[Fs] at e3;split at e3;rename_i hc;rw[NU] at hc;cases e3;obtain⟨C,dx,fs,h1,h2,rfl,h4⟩:=ob;obtain⟨C',hm,hC,hn⟩:=T c (by simpa using hc.1);rw[hm] at h2;cases h2;obtain⟨p1,p2⟩:=wa (f:=f) r1 h4;refine⟨_,e2,l,C,dx,fs,rfl,h1,hC,hn,by simpa using A0 hc.2,?_⟩;have YC:dU X.K X.mg F1 (upd H1 l (HO.ins C dx (gq f v fs))) l (.ins c (kf f d1 (fs.map (·.1)) vs).1 (kf f d1 (fs.map (·.1)) vs).2):=⟨C,dx,_,aJ,hm,p1,p2⟩;have g2:(lc X EX).Good G F1 (upd H1 l (HO.ins C dx (gq f v fs))) σ (cE i (.ins c (kf f d1 (fs.map (·.1)) vs).1 (kf f d1 (fs.map (·.1)) vs).2) bo):=by unfold cE;rw[q];cases sl with|ow z=>exact Good.write g1 q rfl e2 (.inl ⟨z,rfl,rfl⟩) YC|io z=>exact Good.write g1 q rfl e2 (.inr ⟨z,rfl,rfl⟩) YC|_=>cases ow
      exact o2 F1 _ σ s1 g2;cases e3
     |_=>cases e3
   have k:=g1.slot i sl q;cases sl with|no=>exact o2.elim|sh d=>exact o2.elim|ow d=>obtain⟨l,z1,z2,z3,z4⟩:=k;exact go d l rfl (join_some z1) z4 rfl|io d=>obtain⟨l,z1,z2,z3,z4⟩:=k;exact go d l rfl (join_some z1) z4 rfl
theorem yI{K:Frag}{mg:MG}{EX YR:XE}{F:Hp}{σ:St}:∀{vs:O6}{as:List AV},mS ⟨K,mg,EX⟩ F σ vs as->mS ⟨K,mg,YR⟩ F σ vs as|_,_,.nil=>.nil|_,_,.cons (a:=a) h r=>.cons (by cases a<;>exact h) (yI r)
theorem lookup_none:∀{fs:List (Str×V)},(fs.map (·.1)).contains m=false->fs.lookup m=none|[],_=>rfl| (n,v)::fs,h=>by simp only[List.map_cons,List.contains_cons,Bool.or_eq_false_iff] at h;rw[List.lookup_cons,h.1];exact lookup_none h.2
theorem IK{pl:Sem Bool}(VQ:X.mg c=some (.ref C))(cl:Aq X.K C)(hm:Meth X.K C m fA)(F:dG X.prog X.w X.K X.mg X.base CX k fA fd ps (oP X.K X.mg (false::fl) fs))(hr:cG k X.A)(hb:Binds X.K fd ps [])(hx:fW CX X EX)
  (ho:PV X EX o fo) (ha:yC X EX (e::es) as) (vF:as.map VP.Arg.isIo=fl:=by rfl)
  (jI:Ys X e es:=by rfl) (iP:OR X pos es:=by rfl)
  (ht:eval (.Call (.Attribute o m QN) (e::es) [] pos) X.env=(do
   let ov <-eval o X.env
   standAt QN.atName
   let (f,first) <-holding [ov] (getMethod ov m pl)
   callWith pos f first (backTo pos (starEach (e::es) X.env)) (backToKw pos (keywordEach [] X.env))):=by rfl) :
  PV X EX (.Call (.Attribute o m QN) (e::es) [] pos) (cw c m fs fo as):=by
 intro UW s σ H Q I h;obtain⟨G,F0,ρ,g0,oo⟩:=h;refine W.methodCall_KW (pl:=pl) (bS (ho UW s σ H _ I (aW g0 oo (fun x r q=>q) fun F1 H1 bo d1 x s1 g1 r1 o1=>(⟨F1,bo,d1,s1,g1,r1,o1⟩:∃F1 bo d1,aL F0 F1/\(lc X EX).Good G F1 H1 σ bo/\Den X.K X.mg F1 x d1/\Out ((if jE c m d1 then PN (bR as) fun vs=>oK fs (.val d1::vs) else stuck) bo) (fX (lc X EX) (RV (lc X EX)) G F0 σ Q) (dq (lc X EX) G F0 σ)))) fun u s1 zz=>?_) ht;obtain⟨y,H1,I1,ry,F1,bo,d1,se,g1,r1,o1⟩:=zz;rcases o1.ite with ⟨hi,o2⟩|⟨_,o2⟩
 cases d1 with
 |ins c' ns vs=>
  simp only[jE,Bool.and_eq_true,Bool.not_eq_true'] at hi;have rD:c'=c:=by simpa using hi.1
  subst rD;cases r1 with
  |ins h wK r=>
   rw[VQ] at wK;cases wK;rename_i a dx Zc;obtain rfl:u=Value.ref a:=ry;refine xt I1 (g1.sub _ _ h) cl hm (lookup_none hi.2) ?_;refine rz (first:=[.ref a]) (h₀:=X.base) I.ok.mod.Mz hm.kp (bS (ha pos UW s1 σ H1 (fun ws H2=>oP X.K X.mg (false::fl) fs (.ref a::ws) H2 Q (EX σ)) I1 ⟨G,F1,bo,g1,?_⟩) fun us s2 ⟨ws,H2,I2,r2,q2⟩=>⟨I2.mP,?_⟩) jI iP;unfold VP.PN at o2;cases q:bR as bo with|no=>rw[q] at o2;exact o2.elim|exc xx mQ=>rw[q] at o2;exact dq.same se o2|ok av mQ=>rw[q] at o2;intro F2 H2 ws s2 g2 r2;have Gg:Den X.K X.mg F2 (.ref a) (.ins c' (Zc.map (·.1)) vs):=Den.same s2 (.ins h VQ r);exact tK (L:=lc X EX) g2 (.cons (show JF (lc X EX) F2 σ (.ref a) (.val _) from Gg) r2) (by rw[Po,eB q,vF]) o2 (fun x r q=>q.same (se.trans s2)) fun F' H' bP d v s' g' rd P=>P F' H' v (se.trans (s2.trans s')) g' rd
   exact pq (us:=.ref a::us) (vs:=.ref a::ws) F hr hb hx I2 (.cons rfl r2) q2
 |_=>cases hi
 exact o2.elim
theorem Bu{UW:P4}{σ:St}{H:Hp}{s:Shared}{Q:VK}{us:RU}{vs:O6}{sp:Sp}(M:Mk X.K C fA)(F:dG X.prog X.w X.K X.mg X.base CX k fA fd ps sp)(hr:cG (k+1) X.A)(hb:Binds X.K fd ps [])
  (hx:fW CX X EX) (I:Inv X UW σ H s) (r:Vals vs us)
  (h:∀x dx,H x=none->H dx=none->dx≠x->sp (.ref x::vs) (upd (upd H dx (.own x)) x (.ins C dx [])) (fun v H2=>v=.bC/\Q (.ref x) H2) (EX σ)) :
  wpAny (model X.prog X.w) X.A (call (.ref C) us) (EP X UW σ Q) X.xe s:=by
 have hq:=h (s.heap.objs.size+1) s.heap.objs.size (I.cg.fresh (ON _)) (I.cg.fresh (Uj _)) (Vz (FJ _));have I2:=Inv.made (C:=C) I;have r2:Vals (V.ref (s.heap.objs.size+1)::vs) (Value.ref (s.heap.objs.size+1)::us):=.cons rfl r;have hl:(Value.ref (s.heap.objs.size+1)::us).length=ps.length:=by rw[<-F.len _ _ _ _ hq];exact r2.length.symm
 have QZ:=hb _ (Value.ref (s.heap.objs.size+1)::us) I2.mP (by simpa using hl);rw[OX] at QZ;refine wpAny_call (Er (f:=fA) I.mP M.makes M.init (beq_iff_eq.mp M.fn) (xg (F.run _ X.stack _ _ ⟨Value.ref (s.heap.objs.size+1)::us,[]⟩ (Value.ref (s.heap.objs.size+1)::us) _ _ (EX σ) (hr.make C us []) (I2.QG.make C us []) QZ r2 hq) fun r s' Ri=>?_));cases r with|error e=>exact hx UW σ _ _ e s' I2 Ri|ok fl=>cases fl with|ret u=>obtain⟨v,H',I3,rv,ev,q3⟩:=I2.after Ri;subst ev;exact⟨rv,⟨V.ref (s.heap.objs.size+1),H',I3,rfl,q3⟩⟩|next=>exact False.elim Ri|brk=>exact False.elim Ri|cont=>exact False.elim Ri
theorem Il(M:Mk X.K C fA)(F:dG X.prog X.w X.K X.mg X.base CX k fA fd ps (oP X.K X.mg (true::fl) fs))(hr:cG (k+1) X.A)(hg:Gl X c)(hm:X.mg c=some (.ref C))(hb:Binds X.K fd ps [])(hx:fW CX X EX)
  (ha:yC X EX (e::es) as) (vF:as.map VP.Arg.isIo=fl:=by rfl) (jH:Yw c:=by decide) (he:Ys X e es:=by rfl) (iP:OR X pos es:=by rfl) :
  PF X EX (.Call (.Name c p) (e::es) [] pos) (eC c fs as):=by
 intro UW s σ H Q I h;obtain⟨G,F0,ρ,g0,o⟩:=h;refine K8 (mh I hg hm ?_ jH);refine rz (h₀:=X.base) I.ok.mod.Mz M.kp (bS (ha pos UW s σ H (fun vs H1=>∀x dx,H1 x=none->H1 dx=none->dx≠x->oP X.K X.mg (true::fl) fs (.ref x::vs) (upd (upd H1 dx (.own x)) x (.ins C dx [])) (fun v H2=>v=.bC/\Q (.ref x) H2) (EX σ)) I ⟨G,F0,ρ,g0,?_⟩) fun us s1 ⟨vs,H1,I1,r,q⟩=>⟨I1.mP,Bu M F hr hb hx I1 r q⟩) he iP;unfold eC VP.PN at o;cases q:bR as ρ with
 |no=>rw[q] at o;exact o.elim|exc xx bo=>rw[q] at o;exact o|ok av bo=>
  rw[q] at o;intro F1 H1 vs s1 g1 r1 x dx ZS X9 BM;have Yo:upd H1 dx (.own x) x=none:=by rw[aQ (W5 BM)];exact ZS
  have g2:(lc X EX).Good G F1 (upd (upd H1 dx (.own x)) x (.ins C dx [])) σ bo:=(g1.made X9).made Yo;have lo:Loose X.K X.mg G F1 (upd (upd H1 dx (.own x)) x (.ins C dx [])) σ bo x (.ins c [] []):=Good.loose (g1.made X9) Yo ⟨C,dx,[],aJ,hm,rfl,.nil⟩;have g3:=Good.snoc g2 lo;have len:σ.length=bo.length:=g1.len;have YZ:JF (⟨X.K,X.mg,fun _=>EX σ⟩:Lc) F1 (σ++[some (V.ref x)]) (.ref x) (.io bo.length):=by show (σ++[some (V.ref x)])[bo.length]?=_;rw[<-len];simp
  have o':Out (A8 c fs av bo) (fX (lc X EX) (RF (lc X EX)) G F0 σ Q) (dq (lc X EX) G F0 σ):=o;have bk:Out (oK fs (.io bo.length::av) (bo++[.ow (.ins c [] [])])) (fun d r'=>d=.bC/\∃d',r'[bo.length]?=some (.ow d')/\fX (lc X EX) (RF (lc X EX)) G F0 σ Q d' (r'.take bo.length)) (fun x r'=>dq (lc X EX) G F0 σ x (r'.take bo.length)):=by
   unfold A8 at o';cases e1:oK fs (.io bo.length::av) (bo++[.ow (.ins c [] [])]) with
   |no=>rw[e1] at o';exact o'|exc y r'=>rw[e1] at o';exact o'|ok d r'=>
    rw[e1] at o';cases d with
    |bC=>dsimp only at o';cases e2:r'[bo.length]? with|none=>rw[e2] at o';exact o'.elim|some sl=>rw[e2] at o';cases sl with|ow d'=>exact⟨rfl,d',e2,o'⟩|_=>exact o'.elim
    |_=>exact o'.elim
  refine tK (L:=⟨X.K,X.mg,fun _=>EX σ⟩) (G:=G) (F:=F1) (σ:=σ++[some (V.ref x)]) g3 (.cons YZ (mS.more (L:=⟨X.K,X.mg,fun _=>EX σ⟩) (by exact yI r1))) (by rw[Po,eB q,vF]) bk (fun y r' z F' H' cc dd s' g' xr=>?_) fun F' H' bP d v s' g' rd P=>?_;have gt:=g'.take σ.length;rw[List.take_left,len] at gt;exact z F' H' cc dd (s1.trans s') gt xr;obtain⟨rfl,d',e2,P⟩:=P;obtain rfl:=Den.n rd;rw[<-len] at e2 P;obtain⟨gt,Z4⟩:=Good.O7 g' e2;exact⟨rfl,P F' H' _ (s1.trans s') gt ⟨x,rfl,Z4⟩⟩
end
def Va(K:Frag)(p:Addr):It:=⟨fun i H=>∃xs x,cU K H p xs/\xs[i]?=some x,
 fun i H v H'=>∃q x,H q=none/\v=.ref q/\H'=upd H q (.tup [.int i,x])/\∀xs,cU K H p xs->xs[i]?=some x,
 fun i H=>∃xs,cU K H p xs/\i=xs.length⟩
theorem BD{P:Program}{w:World}{K:Frag}{es:W3}{k:Nat}{oR:Pos}{p e it:Addr}(n1:p≠it)(n2:e≠it)(n3:e≠p) : Turn P w K (.Tuple es k oR) (Va K p) [e,it] e (fun i h=>(∃old,IsEnum h e it i old)/\h.IsListIter it p i) where
 mem:=G9
 obj:=fun i h st b hb=>by
  obtain⟨⟨old,he⟩,o,hi,hc,hd⟩:=st;simp only[List.mem_cons,List.not_mem_nil,or_false] at hb;rcases hb with rfl|rfl
  ·exact⟨_,he,fun v q=>by cases q⟩
  ·exact⟨_,hi,fun v q=>by rw[hd] at q;cases q⟩
 keep:=fun i h h' st kk=>by obtain⟨⟨old,he⟩,hi⟩:=st;exact⟨⟨old,kk e G9 _ he⟩,hi.at fun o q=>kk it G9 o q⟩
 item:=by
  intro X hP hw hK hc i UW s σ H E I hf st hg;subst hP hw hK;obtain⟨⟨old,he⟩,hi⟩:=st;obtain⟨xs,x,q1,e1⟩:=hg;obtain⟨aD,rv,pl,_⟩:=I.list q1;obtain⟨u,hu,ru⟩:=rv.get e1;have hh:X.A.handled=none:=I.ok.hd hc;have WJ:i<aD.toArray.size:=by have:=(List.getElem?_eq_some_iff.mp hu).1;simpa using this
  refine wpAny_pyNext_enum_itemD (Draws.list (by exact hh) it p n1 aD.toArray) he ⟨hi,pl.isList⟩ WJ n2 (by simp[n2,n3]) fun x' h' tk px ho oQ pr hsz kp=>?_;have ex:x'=u:=by
   have:aD.toArray[i]?=some u:=by simpa using hu
   rw[this] at px;exact(RD px).symm
  subst ex;refine⟨_,rfl,wpAny_letOwnedTupleGo_enum ho fun LO z2 sb=>?_⟩;replace sb:Heap.SameBut e h' LO:=sb;have Jj:e≠s.heap.objs.size:=Vz (UG he);have Wz:∀c o,c∉[e,it]->s.heap.get? c=some o->LO.get? c=some o:=fun c o rD q=>by simp only[List.mem_cons,List.not_mem_nil,or_false,not_or] at rD;exact sb.extBut c o rD.1 (kp c o rD.1 rD.2 q)
  have IX:=Inv.pair (tk:=tk+1) (h':=LO) (x:=.int i) (y:=x) I hf Wz (sb.extBut _ _ (W5 Jj) pr) ⟨_,rfl⟩ ru;refine⟨.ref s.heap.objs.size,_,IX,rfl,⟨_,x,I.cg.fresh (Uj _),rfl,rfl,fun xs' DL=>by rw[I.qr DL q1];exact e1⟩,⟨⟨_,by simpa using z2⟩,oQ.1.at fun o q=>sb.extBut _ o (W5 n2) q⟩,fun b hb=>?_⟩;have Pt:b≠s.heap.objs.size:=by
   simp only[List.mem_cons,List.not_mem_nil,or_false] at hb;rcases hb with rfl|rfl
   ·exact Jj
   ·obtain⟨o,q,_⟩:=hi;exact Vz (UG q)
  rw[aQ Pt];exact(hf b hb).1
 done:=by
  intro X hP hw hK hc i UW s σ H E I hf st hg;subst hP hw hK;obtain⟨⟨old,he⟩,hi⟩:=st;obtain⟨xs,q1,DF⟩:=hg;obtain⟨aD,rv,pl,_⟩:=I.list q1;have l1:=rv.length;have hh:X.A.handled=none:=I.ok.hd hc;have ee:i=aD.toArray.size:=by simp;lia
  rw[ee] at he hi;refine wpAny_pyNext_enum_endD (Draws.list (by exact hh) it p n1 aD.toArray) he ⟨hi,pl.isList⟩ fun h' hk=>⟨rfl,Inv.uR (h':=h') I hf fun c o vE q=>?_⟩;simp only[List.mem_cons,List.not_mem_nil,or_false,not_or] at vE;exact hk c o vE.2 q
 self:=fun _ _ _ _ _ st h=>by obtain⟨⟨old,he⟩,_⟩:=st;exact wpAny_pyIter_enum he h
theorem Q0w(l:Addr)(xs:Array Value)(n:Nat)(sl:Array (Option Value)):Meets (Builtin.«enumerate.__new__» ⟨[.type "enumerate",.ref l],[]⟩) (fun _ R s=>s.heap.get? l=some {cls:=.type "list",dict:=none,data:=.seq xs n,slots:=sl}/\R (.ok (.ret (.ref (s.heap.push {cls:=.type "list_iterator",data:=.fields #[.ref l,.int 0 0]}).objs.size))) {s with heap:=(s.heap.push {cls:=.type "list_iterator",data:=.fields #[.ref l,.int 0 0]}).push {cls:=.type "enumerate",data:=.fields #[.none,.bool false,.ref s.heap.objs.size,rawInt 0,.none,.none]}}):=
 .of_wp fun prog w A R s z=>by
  obtain⟨hp,g,d,tk,os⟩:=s;obtain⟨q1,q2⟩:=z;have z1:=sub_enumerate;have z2:Heap.IsList (Shared.heap ⟨hp,g,d,tk,os⟩) l xs:=⟨_,q1,rfl,n,rfl⟩
  wp_walk using RY q1
  refine wpAny_stack_any fun st=>Qo ?_;split;rename_i c _ _ _ _ _;cases (c == Value.type "enumerate")<;>(wp_walk using RY q1,Xc z2;exact⟨_,rfl,q2⟩)
  wp_walk using RY q1,Xc z2
  exact⟨_,rfl,q2⟩
section
variable{X:Cx}{EX:XE}{L:Lc}{e a b:Expr}{fa fb fe:M D}{pos p:Pos}{x:Str}
theorem boot_enumerate:bootBuiltins "enumerate" = some (.type "enumerate"):=by kernel_rfl
def Rq(K:Frag)(t:TA):TI:=fun σ H R=>t σ H fun vs H1=>∃q,vs=[.ref q]/\(∃xs,cU K H1 q xs)/\R (Va K q) H1
theorem Iq{es:W3}{k:Nat}{oR:Pos}{t:TA}(hg:Gl X "enumerate")(hm:X.mg "enumerate" = none)(ha:PA X [a] t)(hs:starEach [a] X.env=[(false,eval a X.env)]:=by rfl) : PI X (.Tuple es k oR) (.Call (.Name "enumerate" p) [a] [] pos) (Rq X.K t):=by
 intro UW s σ H R I h;refine Call_ (dX I hg hm boot_enumerate (YY (bS (ha pos UW s σ H _ I h) fun us s1 zz=>?_) hs rfl));obtain⟨vs,H1,I1,r1,q1⟩:=zz;obtain⟨q,e,⟨xs,h1⟩,hR⟩:=q1;subst e;obtain⟨u,rfl,ru⟩:=vals1 r1;cases ru;obtain⟨aD,rv,pl,_⟩:=I1.list h1;obtain⟨⟨c0,d0,dt0,sl0⟩,n,hq,VO,X8,Q5⟩:=pl;simp only at VO X8 Q5;subst VO X8 Q5;have lt:q<s1.heap.objs.size:=UG hq;refine callType_new PySem.F.called_enumerate (by decide) (PySem.F.typeCall_enumerate_1 _) (PySem.F.newCall_enumerate_1 _) (fun obj=>Ml obj _) PySem.F.entry_enumerate_new (Q0w q aD.toArray n sl0) ⟨hq,⟨_,PQ _ rfl,rfl⟩,?_⟩;have sz:(s1.heap.push {cls:=.type "list_iterator",data:=.fields #[.ref q,.int 0 0]}).objs.size=s1.heap.objs.size+1:=MT ..;have he:IsEnum ((s1.heap.push {cls:=.type "list_iterator",data:=.fields #[.ref q,.int 0 0]}).push {cls:=.type "enumerate",data:=.fields #[.none,.bool false,.ref s1.heap.objs.size,rawInt 0,.none,.none]}) (s1.heap.objs.size+1) s1.heap.objs.size 0 .none:=by rw[<-sz];exact PQ _ rfl
 rw[sz];refine wpAny_pyIter_enum he ?_;have IX:Inv X UW σ H1 {s1 with heap:=(s1.heap.push {cls:=.type "list_iterator",data:=.fields #[.ref q,.int 0 0]}).push {cls:=.type "enumerate",data:=.fields #[.none,.bool false,.ref s1.heap.objs.size,rawInt 0,.none,.none]}}:=I1.kept (t':=s1.toks) fun b o e=>WL _ (WL _ e);refine⟨_,[s1.heap.objs.size+1,s1.heap.objs.size],_,_,H1,rfl,IX,BD (Vz lt) G9 (Mv (AI lt)),⟨⟨_,he⟩,⟨_,WL _ (PQ _ rfl),rfl,rfl⟩⟩,fun c hc=>?_,hR⟩;have hle:s1.heap.objs.size<=c:=by simp only[List.mem_cons,List.not_mem_nil,or_false] at hc;rcases hc with rfl|rfl;exact vg _ _;exact Uj _
 exact I1.p8 hle (I1.cg.fresh hle)
theorem DX(h1:cU L.K F q vs)(r1:aI L.K L.mg F vs ds) : FQ L G F (Va L.K q) (kU ds):=fun σ i F' H' ρ s g=>by
 have q1:cU L.K H' q vs:=cU.same (cU.same h1 s) g.sub;have l1:=r1.length;have le:(kU ds).length=ds.length:=by simp[kU]
 refine⟨fun hi=>?_,fun hi=>?_,fun x FP y=>?_⟩;exact⟨vs,vs[i]' T9,q1,by simp[show i<vs.length by lia]⟩;exact⟨vs,q1,T9⟩;obtain⟨b,u,hq,rfl,rfl,y1⟩:=y;have sF:=bh (o:=.tup [.int i,u]) (g.sub.free hq);refine⟨_,sF,g.laid hq,fun d hd=>?_⟩;unfold kU at hd;rw[List.getElem?_zipWith] at hd;cases e1:ds[i]? with|none=>rw[e1] at hd;cases e2:(List.range ds.length)[i]?<;>rw[e2] at hd<;>cases hd|some d1=>have hi:i<ds.length:=(List.getElem?_eq_some_iff.mp e1).1;rw[e1,Mr hi] at hd;cases hd;obtain⟨u',a1,a2⟩:=(r1.same s).get e1;rw[y1 vs q1] at a1;cases a1;exact .tup (dB.of aJ) (.cons (.int i) (.cons (a2.same sF) .nil))
theorem mK{es:W3}{k:Nat}{oR:Pos}{fl:List (M D)}(hg:Gl X "enumerate")(hm:X.mg "enumerate" = none)(ha:As X EX [a] (mL fl))(hs:starEach [a] X.env=[(false,eval a X.env)]:=by rfl) : uT X EX (.Tuple es k oR) (.Call (.Name "enumerate" p) [a] [] pos) (oz fl):=
 (Iq hg hm ha hs).le fun σ H Q bx=>dm bx fun G F F1 H1 bo d1 xs s1 g1 r1 o1=>by
  obtain⟨ds,e,q⟩:=o1.opt;unfold lY at e;split at e;cases r1 with|cons h1 r1=>obtain rfl:=aI.n r1;cases e;obtain⟨_,_,rfl,h,r⟩:=Den.l h1;exact⟨_,rfl,⟨_,cU.same h g1.sub⟩,q F1 H1 _ s1 g1 (DX h r)⟩
  cases e
end
section
variable{X:Cx}{EX:XE}{L:Lc}{e a b:Expr}{fa fb fe:M D}{pos p:Pos}{x c:Str}
theorem ku{st:Stmt}:nW X EX st nQ:=fun UW s σ H E I ⟨G,F,ρ,g0,o⟩=>o.elim
structure Ar(K:Frag)(D:Addr):Prop where
 pg:W.plainGet K D "__class__" = true
 hd:W.hasDictIn K D=true
 fi:W.findIn K (.ref D) "__class__" = some (some (.builtin "object.__class__"))
 mr:W.mroIn K D (.type "object")=some true
structure Qc(K:Frag)(mg:MG)(c:Str)(subs:HE):Prop where
 sp:W.specialIn K (.builtin "object.__class__") "__get__" = some (some (.builtin "getset_descriptor.__get__"))
 tk:W.takesIn K (.builtin "object.__class__")=some true
 ex:∃C,mg c=some (.ref C)/\∀p∈subs,∃D,mg p.1=some (.ref D)/\Ar K D/\W.kitOne K (.ref D) (.ref C)=some p.2
def SX(K:Frag)(C:Addr):O6->Hp->VK->Prop:=fun xs H Q=>∃q D dx fs b,xs=[.ref q,.ref C]/\H q=some (.ins D dx fs)/\Ar K D/\W.kitOne K (.ref D) (.ref C)=some b/\Q (.bl b) H
theorem Q1j(sp:W.specialIn X.K (.builtin "object.__class__") "__get__" = some (some (.builtin "getset_descriptor.__get__")))(tk:W.takesIn X.K (.builtin "object.__class__")=some true):dF X (.builtin "isinstance") (SX X.K C):=by intro UW s σ H xs us Q I r h;obtain⟨q,D,dx,fs,b,rfl,hq,f,hb,k⟩:=h;obtain⟨u,v,rfl,ru,rv⟩:=vals2 r;cases ru;cases rv;obtain⟨h1,h2,h3,h4,mA,h5,h6⟩:=(show dw X.prog X.w H s.heap q (.ins D dx fs) from I.cg q _ hq);obtain⟨od,V9⟩:=(show ∃o,s.heap.get? dx=some o from I.cg dx _ h1);exact W.kia_one (W.kitx_own f.pg f.hd f.fi sp tk f.mr) I.mP ⟨h4,rfl,rfl,V9⟩ hb (fun z=>nomatch z) fun tk=>⟨.bl b,H,I.tok tk,rfl,k⟩
theorem cC{subs:HE}{pT:Pos}(T:Qc X.K X.mg c subs)(hg:Gl X "isinstance")(hm:X.mg "isinstance" = none)(xB:Gl X c)(ha:PR X EX a fa)(VW:Yw c:=by decide)
  (hs:starEach [a,.Name c pT] X.env=(false,eval a X.env)::starEach [.Name c pT] X.env:=by rfl) (jW:starEach [.Name c pT] X.env=(false,eval (.Name c pT) X.env)::starEach [] X.env:=by rfl) (iP:(backTo pos (starEach [.Name c pT] X.env)).any (·.1)=false:=by rfl) :
  PV X EX (.Call (.Name "isinstance" p) [a,.Name c pT] [] pos) (m1 (bK subs) fa):=by
 obtain⟨C,hC,G2⟩:=T.ex;exact(iT (Q1j (C:=C) T.sp T.tk) hg hm boot_isinstance (cb ha (cb (kI (v:=.ref C) xB hC rfl VW) fN jW) hs) (by decide) (by decide) hs iP).le fun σ H Q bx=>dm bx fun G F F1 H1 bo d1 x s1 g1 r1 o1=>by
  obtain⟨d,e,q⟩:=o1.opt;cases d1 with
  |ins c' ns vs=>
   simp only[bK] at e;cases e1:subs.lookup c' with
   |none=>rw[e1] at e;cases e|some b=>
    rw[e1] at e;cases e;obtain⟨D,hD,f,hb⟩:=G2 (c',b) (AG e1);rcases r1 with r1|⟨l,rfl,D',dx,fs,z1,z2,z3,z4⟩;cases r1 with|ins h hc r=>rw[show (lc X EX).mg c'=some (.ref D) from hD] at hc;cases hc;exact⟨_,D,_,_,b,rfl,g1.sub _ _ h,f,hb,q F1 H1 _ s1 g1 (.bl _)⟩
    rw[show (lc X EX).mg c'=some (.ref D) from hD] at z2;cases z2;exact⟨_,D,_,_,b,rfl,z1,f,hb,q F1 H1 _ s1 g1 (.bl _)⟩
  |_=>cases e
end
def U9(lo:Int)(n:Nat):It:=⟨fun i _=>i<n,fun i H x H'=>H'=H/\x=.int (lo-i),fun i _=>n<=i⟩
theorem Q0o{P:Program}{w:World}{K:Frag}{tg:Expr}(it:Addr)(lo:Int)(n:Nat):Turn P w K tg (U9 lo n) [it] it (fun i h=>IsRangeIter h it (lo+(i:Nat)*(-1)) ((n:Int)-(i:Nat)) (-1)) where
 mem:=G9
 obj:=fun i h st b hb=>by
  have e:b=it:=by simpa using hb
  subst e;exact⟨_,st,fun v z=>by have z':Data.fields _=Data.cell v:=z;cases z'⟩
 keep:=fun i h h' st k=>k it G9 _ st
 item:=by intro X hP hw hK hc i UW s σ H E I hf st hg;subst hP hw hK;obtain⟨f0,f1,f2,f3,f4,f5⟩:=hf it G9;refine(Walks.range (prog:=X.prog) (w:=X.w) (I.ok.hd hc) it lo (-1) n).item i s _ _ hg st fun v h' tk hv oQ kk=>?_;obtain⟨t,rfl⟩:=hv;have I1:Inv X UW σ H {s with heap:=h',toks:=tk}:=I.turned (fun b o hb e=>kk b o (by simpa using hb) e) f0 f1 f3 f4 f5;refine⟨_,rfl,sM (s:={s with heap:=h',toks:=tk}) (n:="range_iterator") oQ rfl rfl (by decide) ⟨.int (lo-i),H,I1,⟨t,?_⟩,⟨rfl,rfl⟩,oQ,fun b hb=>(hf b hb).1⟩⟩;rw[show lo+(i:Int)*-1=lo-i by lia]
 done:=by intro X hP hw hK hc i UW s σ H E I hf st hg;subst hP hw hK;obtain⟨f0,f1,f2,f3,f4,f5⟩:=hf it G9;exact wpAny_pyNext_range_end (I.ok.hd hc) st (by have:n<=i:=hg;lia) fun h' eb=>⟨rfl,I.turned (t':=s.toks) (fun b o hb e=>eb b o hb e) f0 f1 f3 f4 f5⟩
 self:=fun _ _ _ _ _ st h=>wpAny_pyIter_rangeiter st h
section
variable{X:Cx}{EX:XE}{L:Lc}{tg a b c:Expr}{p pos:Pos}
def Rp(ta:TA):TI:=fun σ H R=>ta σ H fun vs H1=>∃i j:Int,vs=[.int i,.int j,.int (-1)]/\(-(2 ^ 62)<=i/\i<2 ^ 62/\-(2 ^ 62)<=j/\j<2 ^ 62)/\R (U9 i (i-j).toNat) H1
theorem Q1h(hg:Gl X "range")(hm:X.mg "range" = none)(ha:PA X [a,b,c] ta)(hs:starEach [a,b,c] X.env=[(false,eval a X.env),(false,eval b X.env),(false,eval c X.env)]:=by rfl)(jW:starEach [b,c] X.env=[(false,eval b X.env),(false,eval c X.env)]:=by rfl) : PI X tg (.Call (.Name "range" p) [a,b,c] [] pos) (Rp ta):=by
 intro UW s σ H R I h;refine Call_ (dX I hg hm boot_range (YY (bS (ha pos UW s σ H _ I h) fun us s1 zz=>?_) (by rw[hs,jW]) (by rw[jW];rfl)));obtain⟨vs,H1,I1,r1,q1⟩:=zz;obtain⟨i,j,e,⟨q1,q2,q3,q4⟩,q⟩:=q1;subst e;cases r1 with
 |cons r rr=>cases rr with
  |cons r' rr=>cases rr with
   |cons r'' rr=>
    cases rr;obtain⟨t,rfl⟩:=r;obtain⟨u,rfl⟩:=r';obtain⟨v,rfl⟩:=r'';refine call_range_3 (by decide) ?_ (.inl (PyProof.noPylong_small (by decide)));have I2:Inv X UW σ H1 {s1 with heap:=s1.heap.push {cls:=.type "range",data:=.fields #[.int i t,.int j u,.int (-1) v]},toks:=s1.toks}:=I1.kept fun b o e=>WL _ e;refine wpAny_pyIter_range (IsRange.new ..) (W.small_down q1 q2 q3 q4) ?_;refine⟨(s1.heap.push {cls:=.type "range",data:=.fields #[.int i t,.int j u,.int (-1) v]}).objs.size,[(s1.heap.push {cls:=.type "range",data:=.fields #[.int i t,.int j u,.int (-1) v]}).objs.size],_,_,H1,rfl,I2.kept (t':=s1.toks) fun b o e=>WL _ e,Q0o _ i (i-j).toNat,?_,fun b hb=>?_,q⟩;show IsRangeIter _ _ (i+((0:Nat):Int)*(-1)) ((((i-j).toNat:Nat):Int)-((0:Nat):Int)) (-1);rw[show i+((0:Nat):Int)*(-1)=i by simp,show (((i-j).toNat:Nat):Int)-((0:Nat):Int)=Builtin.Range.rangeSize i j (-1) by rw[W.rangeSize_downNat];simp];exact PQ _ rfl;have e:b=(s1.heap.push {cls:=.type "range",data:=.fields #[.int i t,.int j u,.int (-1) v]}).objs.size:=by simpa using hb
    subst e;exact I2.p8 (Uj _) (I2.cg.fresh (Uj _))
theorem Q2T(lo:Int)(n:Nat):FQ L G F (U9 lo n) ((List.range n).map fun(k:Nat)=>.int (lo-k)):=fun σ i F' H' ρ s g=>by
 refine⟨fun hi=>?_,fun hi=>?_,fun x FP y=>?_⟩;exact(by simpa using hi:i<n);exact Nat.le_of_eq (by simpa using hi.symm:n=i);obtain⟨rfl,rfl⟩:=y;refine⟨F',aL.refl _,g,fun d hd=>?_⟩;rw[GF] at hd;cases e:(List.range n)[i]? with
 |none=>rw[e] at hd;cases hd|some k=>
  rw[e] at hd;cases hd;have hi:i<n:=by have:=(List.getElem?_eq_some_iff.mp e).1;simpa using this
  rw[Mr hi] at e;cases e;exact .int _
theorem Jw(hg:Gl X "range")(hm:X.mg "range" = none)(ha:As X EX [a,b,c] (mL fl))(hs:starEach [a,b,c] X.env=[(false,eval a X.env),(false,eval b X.env),(false,eval c X.env)]:=by rfl)(jW:starEach [b,c] X.env=[(false,eval b X.env),(false,eval c X.env)]:=by rfl) : uT X EX tg (.Call (.Name "range" p) [a,b,c] [] pos) (Ei fl):=
 (Q1h hg hm ha hs jW).le fun σ H Q bx=>dm bx fun G F F1 H1 bo d1 xs s1 g1 r1 o1=>by
  obtain⟨ds,e,q⟩:=o1.opt;unfold Fh at e;split at e;rename_i i j k;cases r1 with|cons h r1=>cases r1 with|cons h2 r1=>cases r1 with|cons h3 r1=>obtain rfl:=aI.n r1;obtain rfl:=Den.i h;obtain rfl:=Den.i h2;obtain rfl:=Den.i h3;split at e;rename_i hb;cases e;obtain⟨b1,b2,b3⟩:=hb;subst b1;exact⟨i,j,rfl,⟨b2.1,b2.2,b3.1,b3.2⟩,q F1 H1 _ s1 g1 (Q2T i (i-j).toNat)⟩;cases e
  cases e
end
open PySem.AutoSeq1 (wpAny_loadPart')
theorem noFill_tuple_mul:fillsNumberSlot (.type "tuple") "mul" = pure false:=PySem.fillsNumberSlot_seq (id:="tuple.__mul__") (r:=some (.builtin "tuple.__rmul__")) PySem.F.slot_tuple_mul.lookup (by decide +kernel) PySem.F.slot_tuple_rmul.lookup (by decide +kernel)
theorem Q1K:seqRepeat? (.type "tuple")=pure (some (.builtin "tuple.__mul__")):=by unfold seqRepeat?;rw[PySem.seqSlot_of (T:="tuple") (name:="__mul__") (id:="tuple.__mul__") PySem.F.slot_tuple_mul.lookup (by decide +kernel),PySem.seqSlot_of (T:="tuple") (name:="__rmul__") (id:="tuple.__rmul__") PySem.F.slot_tuple_rmul.lookup (by decide +kernel)];rfl
theorem qh(a:Int)(t:Tok)(l:Addr)(items:Array Value)(n:Nat)(dd:UL)(sl:Array (Option Value)) : Meets (Builtin.«int.__rmul__» ⟨[.int a t,.ref l],[]⟩) (fun _ R s=>s.heap.get? l=some {cls:=.type "tuple",dict:=dd,data:=.seq items n,slots:=sl}/\R (.ok (.ret Value.notImplemented)) s):=
 .of_wp fun prog w A R s h=>by obtain⟨hp,g,d,tk,os⟩:=s;obtain⟨hl,h⟩:=h;wp_walk;exact⟨_,rfl,h⟩
theorem yx(l:Addr)(items:Array Value)(n:Nat)(dd:UL)(sl:Array (Option Value))(x:Int)(u:Tok)(h1:¬(decide (x < -(2 ^ 63))||decide (x>=2 ^ 63))=true)(h2:(items.isEmpty||x == 1)=true) : Meets (Builtin.«tuple.__mul__» ⟨[.ref l,.int x u],[]⟩) (fun _ R s=>s.heap.get? l=some {cls:=.type "tuple",dict:=dd,data:=.seq items n,slots:=sl}/\R (.ok (.ret (Value.ref l))) {s with heap:=s.heap,toks:=s.toks}):=
 .of_wp fun prog w A R s h=>by obtain⟨hp,g,d,tk,os⟩:=s;obtain⟨hl,h⟩:=h;wp_walk using wpAny_loadPart' hl;refine xG (Vy h1) ?_;wp_walk using wpAny_loadPart' hl;exact⟨_,rfl,h⟩
theorem yy(l:Addr)(items:Array Value)(n:Nat)(dd:UL)(sl:Array (Option Value))(x:Int)(u:Tok)(h1:¬(decide (x < -(2 ^ 63))||decide (x>=2 ^ 63))=true)(h2:¬(items.isEmpty||x == 1)=true)(h3:(decide (x<=0)||items.isEmpty)=true) : Meets (Builtin.«tuple.__mul__» ⟨[.ref l,.int x u],[]⟩) (fun _ R s=>s.heap.get? l=some {cls:=.type "tuple",dict:=dd,data:=.seq items n,slots:=sl}/\R (.ok (.ret (Value.ref s.heap.objs.size))) {s with heap:=s.heap.push {cls:=Value.type "tuple",data:=Data.seq #[]},toks:=s.toks}):=
 .of_wp fun prog w A R s h=>by obtain⟨hp,g,d,tk,os⟩:=s;obtain⟨hl,h⟩:=h;wp_walk using wpAny_loadPart' hl;refine xG (Vy h1) ?_;wp_walk using wpAny_loadPart' hl;exact⟨_,rfl,h⟩
theorem yz(l:Addr)(items:Array Value)(n:Nat)(dd:UL)(sl:Array (Option Value))(x:Int)(u:Tok)(h1:¬(decide (x < -(2 ^ 63))||decide (x>=2 ^ 63))=true)(h2:¬(items.isEmpty||x == 1)=true)(h3:¬(decide (x<=0)||items.isEmpty)=true)
  (h4:¬((items.size:Int)*x > (2 ^ 63-1) / 8)) (h5:¬Builtin.Tuple.tupleTooMany ((items.size:Int)*x)=true) (hsz:(List.foldl (fun x1 x2=>x1++x2) #[] (List.replicate x.toNat items)).size<=sizeLine) :
  Meets (Builtin.«tuple.__mul__» ⟨[.ref l,.int x u],[]⟩) (fun _ R s=>s.heap.get? l=some {cls:=.type "tuple",dict:=dd,data:=.seq items n,slots:=sl}/\R (.ok (.ret (Value.ref s.heap.objs.size))) {s with heap:=s.heap.push {cls:=Value.type "tuple",data:=Data.seq (List.foldl (fun x1 x2=>x1++x2) #[] (List.replicate x.toNat items))},toks:=s.toks}):=
 .of_wp fun prog w A R s h=>by obtain⟨hp,g,d,tk,os⟩:=s;obtain⟨hl,h⟩:=h;wp_walk using wpAny_loadPart' hl;refine xG (Vy h1) ?_;wp_walk using wpAny_loadPart' hl;refine xG (Vy h4) ?_;wp_walk using wpAny_loadPart' hl;exact⟨_,rfl,h⟩
section
variable{X:Cx}{EX:XE}{L:Lc}{a b:Expr}{fa fb:M D}{pos:Pos}
def Fb(K:Frag):R2:=fun x y H Q=>∃l k xs,x=.ref l/\y=.int k/\dB K H l xs/\-(2 ^ 63)<=k/\k<2 ^ 63/\xs.length*k.toNat<=sizeLine/\((List.replicate k.toNat xs).flatten=xs->Q (.ref l) H)/\∀p,H p=none->Q (.ref p) (upd H p (.tup (List.replicate k.toNat xs).flatten))
theorem HX:gC X (binaryOp .Mult) (Fb X.K):=by
 intro UW s σ H x y v u Q I rx ry h;obtain⟨l,k,xs,rfl,rfl,hH,h1,h2,hz,q1,q⟩:=h;cases rx;obtain⟨t,rfl⟩:=ry;obtain⟨aD,r,pt,_⟩:=I.tuple hH;obtain⟨⟨cls,dd,data,sl⟩,e,hc,n,hd⟩:=id pt;simp only at hc hd;subst hc hd;have hl:=r.length;have hr:¬(decide (k < -(2 ^ 63))||decide (k>=2 ^ 63))=true:=by simp only[Bool.or_eq_true,decide_eq_true_eq,not_or];lia
 have hf:∀m:Nat,List.foldl (fun x1 x2=>x1++x2) #[] (List.replicate m aD.toArray)=(List.replicate m aD).flatten.toArray:=fun m=>by have:=foldl_rep aD m [];rw[U7] at this;exact this
 refine wpAny_binaryOp_repeat_ref (T:="tuple") (U:="int") (by decide) ⟨_,e,rfl⟩ (fun s'=>typeIs_int s' k t) noFill_tuple_mul PySem.F.fills_int_mul PySem.F.slot_int_rmul Q1K PySem.F.slot_int_index.lookup (Ll PySem.F.slot_int_rmul (typeIs_int s k t) PySem.F.entry_int_rmul (PySem.F.args_int_rmul_2 _ _) (qh k t l aD.toArray n dd sl) ⟨e,rfl,⟨_,e,rfl⟩,?_⟩);by_cases c1:(aD.toArray.isEmpty||k == 1)=true;refine Ll Jr ⟨_,e,rfl⟩ N3 (Xd _ _) (yx l aD.toArray n dd sl k t hr c1) ⟨e,.ref l,H,I,rfl,q1 ?_⟩;rw[Io] at c1;rcases c1 with c1|c1;have:aD=[]:=by simpa using c1
 have:xs=[]:=r.mB.mp this;subst this;exact List.eq_nil_of_length_eq_zero (by rw[len_rep];simp);have:k=1:=by simpa using c1
 subst this;simp;by_cases c2:(decide (k<=0)||aD.toArray.isEmpty)=true;refine Ll Jr ⟨_,e,rfl⟩ N3 (Xd _ _) (yy l aD.toArray n dd sl k t hr c1 c2) ⟨e,?_⟩;have hk:k.toNat=0:=by rw[Io] at c1 c2;rcases c2 with c2|c2;have:=A0 c2;lia;exact absurd (.inl c2) c1
 rw[hk] at q hz;exact⟨.ref s.heap.objs.size,_,I.laid (t':=s.toks) (o:=.tup []) (fun b ob q=>WL _ q) (Uj _) ⟨IA _,[],.nil,lR.new _ _⟩,rfl,q _ (I.cg.fresh (Uj _))⟩;have hk:0<k:=by
  rw[Io,not_or] at c2;have:=of_decide_eq_false (Bool.eq_false_iff.mpr c2.1)
  lia
 have hm:((aD.toArray.size:Nat):Int)*k=((xs.length*k.toNat:Nat):Int):=by rw[Tv,<-hl,Int.natCast_mul,Int.toNat_of_nonneg T9]
 have hb:(sizeLine:Nat)<=16777216:=by decide
 refine Ll Jr ⟨_,e,rfl⟩ N3 (Xd _ _) (yz l aD.toArray n dd sl k t hr c1 c2 (by rw[hm];lia) (by rw[hm];unfold Builtin.Tuple.tupleTooMany;simp only[decide_eq_true_eq];lia) (by rw[hf,Tv,len_rep,<-hl,Nat.mul_comm];exact hz)) ⟨e,?_⟩;rw[hf];exact⟨.ref s.heap.objs.size,_,I.laid (t':=s.toks) (o:=.tup (List.replicate k.toNat xs).flatten) (fun b ob q=>WL _ q) (Uj _) ⟨by rw[len_rep,Nat.mul_comm];exact hz,_,r.rep k.toNat,lR.new _ _⟩,rfl,q _ (I.cg.fresh (Uj _))⟩
theorem aI.rep{K:Frag}{mg:MG}{F:Hp}{vs:O6}{ds:RN}(h:aI K mg F vs ds):∀n:Nat,aI K mg F (List.replicate n vs).flatten (List.replicate n ds).flatten|0=>.nil|n+1=>by rw[IP,IP,OW,OW];exact aI.append h (aI.rep h n)
theorem z6:gC X (binaryOp .Mult) (fun x y H Q=>(rI wO fun i j=>.int (i*j)) x y H Q\/(Fb X.K x y H Q\/Oy x y H Q)):=gC.or iF (gC.or HX N0)
theorem Dz:lj L (fun x y H Q=>(rI wO fun i j=>.int (i*j)) x y H Q\/(Fb L.K x y H Q\/Oy x y H Q)) Bf:=fun G F H σ ρ x y dx dy d Q g0 rx ry e k=>by
 cases dx with
 |int _=>cases dy with|int _=>exact .inl (k7 G F H σ ρ x y _ _ d Q g0 rx ry e k)|_=>cases e
 |tup ds=>cases dy with|int i=>simp only[Bf] at e;split at e;rename_i hc;cases e;obtain rfl:=Den.i ry;obtain⟨_,_,rfl,h1,r1⟩:=Den.t rx;rename_i p vs;have hz:=hc.2.2;rw[<-r1.length,mT] at hz;have hb:(eL:Int)=16777216:=rfl;have X3:=hc.1;have X4:=hc.2.1;refine .inr (.inl ⟨p,i,vs,rfl,rfl,dB.same h1 g0.sub,T9,T9,hz,fun z=>?_,fun q hq=>?_⟩);have:=aI.rep r1 i.toNat;rw[z] at this;exact k F H _ (aL.refl _) g0 (.tup h1 this);have sF:=bh (o:=.tup (List.replicate i.toNat vs).flatten) (g0.sub.free hq);exact k _ _ _ sF (g0.laid hq) (.tup (dB.of aJ) (aI.rep (aI.same sF r1) _));cases e|_=>cases e
 |_=>cases e
theorem dU.now{K:Frag}{mg:MG}{F H:Hp}{l:Addr}{d:D}(sub:aL F H)(o:dU K mg F H l d):∃F',aL F F'/\aL F' H/\Den K mg F' (.ref l) d:=by
 obtain⟨u,hu⟩:=o.has;have s1:aL F (upd F l u):=fun a v e=>by by_cases z:a=l;subst z;rw[aJ,<-hu];exact sub _ _ e;rw[aQ z];exact e
 refine⟨upd F l u,s1,fun a v e=>?_,o.den hu s1 aJ⟩;by_cases z:a=l;subst z;rw[aJ] at e;rw[hu];exact e;rw[aQ z] at e;exact sub _ _ e
theorem Lq{neg:Bool}{d1 d2 d:D}(e:(if neg then dz d1 d2 else bG d1 d2)=some d):VP.plain 60 d1=true/\VP.plain 60 d2=true/\d=.bl (if neg then !eqB d1 d2 else eqB d1 d2):=by cases neg with|true=>simp only[if_true] at e ⊢;unfold dz at e;split at e;rename_i hp;rw[NU] at hp;cases e;exact⟨hp.1,hp.2,rfl⟩;cases e|false=>simp only[Bool.false_eq_true,if_false] at e ⊢;unfold bG at e;split at e;rename_i hp;rw[NU] at hp;cases e;exact⟨hp.1,hp.2,rfl⟩;cases e
def Vr(neg:Bool):CmpOp:=if neg then .NotEq else .Eq
theorem NZ(neg:Bool)(hu:X.A.units+64<cLine):gC X (compareOp (Vr neg)) (Bs X.K X.mg neg):=by cases neg with|true=>exact uB hu|false=>exact jq hu
end
structure DM(K:Frag)(x qn:Str)(st:Stmt)(f:Addr):Prop where
 l:∃(oc:Value)(od:UL)(kV doc pm:Value)(an:UL)(cd ct:Value)(sl:Array (Option Value)),K.lookup f=some ⟨oc,od,.func (W.fnOf x qn (dg st) (bT st) (aS st) .none kV doc pm an cd ct),sl⟩/\W.codeIn K cd qn=true
 k:W.keepIn K (.ref f)=true
structure DH(K:Frag)(x:Str)(st:Stmt)(f:Addr):Prop where
 a:W.nsIn K mainGlobals x=some (some (.ref f))
 m:DM K x x st f
abbrev BO(x qn:Str)(st:Stmt)(ps:PU):Prop:=∀(kV doc pm:Value)(an:UL)(cd ct:Value)(us:RU),us.length=ps.length->bindArgs (W.fnOf x qn (dg st) (bT st) (aS st) .none kV doc pm an cd ct) ⟨us,[]⟩=pure (ps.zip us)
section
variable{K:Frag}{mg:MG}{h:Heap}{x qn:Str}{st:Stmt}{f:Addr}{ps:PU}
theorem DM.is(d:DM K x qn st f)(b:BO x qn st ps):∃fd,Gr K x qn st f fd/\Binds K fd ps []:=by obtain⟨⟨oc,od,kV,doc,pm,an,cd,ct,sl,l,c⟩,k⟩:=d;exact⟨_,Du l c k,(Du l c k).binds b⟩
theorem DH.is(d:DH K x st f)(X:K.In h)(G:h.Ns mainGlobals mg)(b:BO x x st ps):∃fd,pE K mg x st ps f fd:=by obtain⟨fd,F,B⟩:=d.m.is b;exact⟨fd,F,B,QA X G d.a⟩
end
theorem v0{P:RU->Prop}(h:P []):∀us:RU,us.length=0->P us:=fun us e=>List.length_eq_zero_iff.mp e ▸ h
theorem vc{n:Nat}{P:RU->Prop}(h:∀a,∀us:RU,us.length=n->P (a::us)):∀us:RU,us.length=n+1->P us:=fun us e=>by cases us with|nil=>cases e|cons a us=>exact h a us (Nat.succ.inj e)
theorem XH{x qn:Str}{st:Stmt}{p0:Str}(h:∀(kV doc pm:Value)(an:UL)(cd ct:Value)(a0:Value),bindArgs (W.fnOf x qn (dg st) (bT st) (aS st) .none kV doc pm an cd ct) ⟨[a0],[]⟩=pure ([p0].zip [a0]):=by intros;rfl):BO x qn st [p0]:=fun kV doc pm an cd ct=>vc fun _=>v0 (h _ _ _ _ _ _ _)
theorem XI{x qn:Str}{st:Stmt}{p0 p1:Str}(h:∀(kV doc pm:Value)(an:UL)(cd ct:Value)(a0 a1:Value),bindArgs (W.fnOf x qn (dg st) (bT st) (aS st) .none kV doc pm an cd ct) ⟨[a0,a1],[]⟩=pure ([p0,p1].zip [a0,a1]):=by intros;rfl):BO x qn st [p0,p1]:=fun kV doc pm an cd ct=>vc fun _=>vc fun _=>v0 (h _ _ _ _ _ _ _ _)
theorem XJ{x qn:Str}{st:Stmt}{p0 p1 p2:Str}(h:∀(kV doc pm:Value)(an:UL)(cd ct:Value)(a0 a1 a2:Value),bindArgs (W.fnOf x qn (dg st) (bT st) (aS st) .none kV doc pm an cd ct) ⟨[a0,a1,a2],[]⟩=pure ([p0,p1,p2].zip [a0,a1,a2]):=by intros;rfl):BO x qn st [p0,p1,p2]:=fun kV doc pm an cd ct=>vc fun _=>vc fun _=>vc fun _=>v0 (h _ _ _ _ _ _ _ _ _)
theorem XM{x qn:Str}{st:Stmt}{p0 p1 p2 p3:Str}(h:∀(kV doc pm:Value)(an:UL)(cd ct:Value)(a0 a1 a2 a3:Value),bindArgs (W.fnOf x qn (dg st) (bT st) (aS st) .none kV doc pm an cd ct) ⟨[a0,a1,a2,a3],[]⟩=pure ([p0,p1,p2,p3].zip [a0,a1,a2,a3]):=by intros;rfl):BO x qn st [p0,p1,p2,p3]:=fun kV doc pm an cd ct=>vc fun _=>vc fun _=>vc fun _=>vc fun _=>v0 (h _ _ _ _ _ _ _ _ _ _)
theorem XN{x qn:Str}{st:Stmt}{p0 p1 p2 p3 p4:Str}(h:∀(kV doc pm:Value)(an:UL)(cd ct:Value)(a0 a1 a2 a3 a4:Value),bindArgs (W.fnOf x qn (dg st) (bT st) (aS st) .none kV doc pm an cd ct) ⟨[a0,a1,a2,a3,a4],[]⟩=pure ([p0,p1,p2,p3,p4].zip [a0,a1,a2,a3,a4]):=by intros;rfl):BO x qn st [p0,p1,p2,p3,p4]:=fun kV doc pm an cd ct=>vc fun _=>vc fun _=>vc fun _=>vc fun _=>vc fun _=>v0 (h _ _ _ _ _ _ _ _ _ _ _)
theorem XO{x qn:Str}{st:Stmt}{p0 p1 p2 p3 p4 p5:Str}(h:∀(kV doc pm:Value)(an:UL)(cd ct:Value)(a0 a1 a2 a3 a4 a5:Value),bindArgs (W.fnOf x qn (dg st) (bT st) (aS st) .none kV doc pm an cd ct) ⟨[a0,a1,a2,a3,a4,a5],[]⟩=pure ([p0,p1,p2,p3,p4,p5].zip [a0,a1,a2,a3,a4,a5]):=by intros;rfl):BO x qn st [p0,p1,p2,p3,p4,p5]:=fun kV doc pm an cd ct=>vc fun _=>vc fun _=>vc fun _=>vc fun _=>vc fun _=>vc fun _=>v0 (h _ _ _ _ _ _ _ _ _ _ _ _)
theorem XQ{x qn:Str}{st:Stmt}{p0 p1 p2 p3 p4 p5 p6:Str}(h:∀(kV doc pm:Value)(an:UL)(cd ct:Value)(a0 a1 a2 a3 a4 a5 a6:Value),bindArgs (W.fnOf x qn (dg st) (bT st) (aS st) .none kV doc pm an cd ct) ⟨[a0,a1,a2,a3,a4,a5,a6],[]⟩=pure ([p0,p1,p2,p3,p4,p5,p6].zip [a0,a1,a2,a3,a4,a5,a6]):=by intros;rfl):BO x qn st [p0,p1,p2,p3,p4,p5,p6]:=fun kV doc pm an cd ct=>vc fun _=>vc fun _=>vc fun _=>vc fun _=>vc fun _=>vc fun _=>vc fun _=>v0 (h _ _ _ _ _ _ _ _ _ _ _ _ _)
theorem W4{N P:PU}{sc:Scope}(h1:sc.kind=.function:=by rfl)(h2:sc.isCoroutine=false:=by rfl)(h3:sc.isGenerator=false:=by rfl)(h4:N.Nodup:=by exact Eb)(h5:N.take P.length=P:=by rfl)(h6:∀x∈P,sc.names.lookup x=some .local\/sc.names.lookup x=some .cell:=by exact Eb) (h7:∀y∈sc.names,y.2≠.free:=by exact Eb):eK N P sc:=⟨h1,h2,h3,h4,h5,h6,h7⟩
theorem HM(l:PU)(h:l.Nodup:=by exact Eb):List.Nodup l:=h
theorem Q0p(a:Int)(t:Tok)(l:Addr)(items:Array Value)(n:Nat)(sl:Array (Option Value)) : Meets (Builtin.«int.__rmul__» ⟨[.int a t,.ref l],[]⟩) (fun _ R s=>s.heap.get? l=some {cls:=.type "list",dict:=none,data:=.seq items n,slots:=sl}/\R (.ok (.ret Value.notImplemented)) s):=
 .of_wp fun prog w A R s h=>by obtain⟨hp,g,d,tk,os⟩:=s;obtain⟨hl,h⟩:=h;wp_walk;exact⟨_,rfl,h⟩
theorem A3(l:Addr)(items:Array Value)(n:Nat)(sl:Array (Option Value))(x:Int)(u:Tok)(VO:¬(!Builtin.List.listFitsIndex x)=true)(hc1:¬items.size*x.toNat > (2 ^ 63-1) / 8)(wK:¬Builtin.List.listTooLong (items.size*x.toNat)=true) : Meets (Builtin.«list.__mul__» ⟨[.ref l,.int x u],[]⟩) (fun _ R s=>s.heap.get? l=some {cls:=.type "list",dict:=none,data:=.seq items n,slots:=sl}/\R (.ok (.ret (Value.ref s.heap.objs.size))) {s with heap:=s.heap.push {cls:=Value.type "list",data:=Data.seq (List.foldl (fun x1 x2=>x1++x2) #[] (List.replicate (if items.isEmpty=true then 0 else x.toNat) items))},toks:=s.toks}):=
 .of_wp fun prog w A R s h=>by
  obtain⟨hp,g,d,tk,os⟩:=s;obtain⟨hl,h⟩:=h;have hsz:=AutoListH.joined_fits wK
  wp_walk;refine xG (Vy (Nat.not_lt.mpr hsz)) ?_;wp_walk;exact⟨_,rfl,h⟩
section
variable{X:Cx}{EX:XE}{L:Lc}{a b:Expr}{fa fb:M D}{pos:Pos}
def Kz(K:Frag):R2:=fun x y H Q=>∃l k xs,x=.ref l/\y=.int k/\cU K H l xs/\-(2 ^ 63)<=k/\k<2 ^ 63/\xs.length*k.toNat<=sizeLine/\∀p,H p=none->Q (.ref p) (upd H p (.lst (List.replicate k.toNat xs).flatten))
theorem z7:gC X (binaryOp .Mult) (Kz X.K):=by
 intro UW s σ H x y v u Q I rx ry h;obtain⟨l,k,xs,rfl,rfl,hH,h1,h2,hz,q⟩:=h;cases rx;obtain⟨t,rfl⟩:=ry;obtain⟨aD,r,⟨⟨cls,dd,data,sl⟩,n,e,hc,VX,hd⟩,_⟩:=I.list hH;simp only at hc VX hd;subst hc VX hd;have hl:=r.length;have R5:aD.toArray.size*k.toNat<=sizeLine:=by rw[Tv,<-hl];exact hz
 have LU:¬aD.toArray.size*k.toNat > (2 ^ 63-1) / 8:=by
  have:(sizeLine:Nat)<=(2 ^ 63-1) / 8:=by decide
  lia
 have LY:¬(!Builtin.List.listFitsIndex k)=true:=by rw[fitsIndex_both h1 h2];exact BC
 have vH:¬Builtin.List.listTooLong (aD.toArray.size*k.toNat)=true:=by rw[qy R5];exact BC
 have L3:List.foldl (fun x1 x2=>x1++x2) #[] (List.replicate (if aD.toArray.isEmpty=true then 0 else k.toNat) aD.toArray)=(List.replicate k.toNat aD).flatten.toArray:=by
  have f0:∀m:Nat,List.foldl (fun x1 x2=>x1++x2) #[] (List.replicate m aD.toArray)=(List.replicate m aD).flatten.toArray:=fun m=>by have:=foldl_rep aD m [];rw[U7] at this;exact this
  rw[f0];cases aD with|nil=>simp|cons a r'=>rw[UE G9]
 refine wpAny_binaryOp_repeat_ref (T:="list") (U:="int") (by decide) ⟨_,e,rfl⟩ (fun s'=>typeIs_int s' k t) noFill_list_mul PySem.F.fills_int_mul PySem.F.slot_int_rmul repeat_list PySem.F.slot_int_index.lookup (Ll PySem.F.slot_int_rmul (typeIs_int s k t) PySem.F.entry_int_rmul (PySem.F.args_int_rmul_2 _ _) (Q0p k t l aD.toArray n sl) ⟨e,rfl,⟨_,e,rfl⟩,Ll PySem.F.slot_list_mul ⟨_,e,rfl⟩ PySem.F.entry_list_mul (PySem.F.args_list_mul_2 _ _) (A3 l aD.toArray n sl k t LY LU vH) ⟨e,?_⟩⟩);rw[L3];exact⟨.ref _,_,I.Hr (t':=s.toks) (r.rep k.toNat) (by rw[len_rep,Nat.mul_comm];exact hz),rfl,q _ I.fresh⟩
theorem Q0z:lj L (Kz L.K) mulL:=fun G F H σ ρ x y dx dy d Q g0 rx ry e k=>by
 cases dx<;>cases dy<;>try (simp only[mulL,reduceCtorEq] at e;done)
 rename_i ds i
 simp only[mulL] at e
 split at e
 ·rename_i hc
  cases e
  obtain rfl:=Den.i ry
  obtain⟨_,_,rfl,h1,r1⟩:=Den.l rx
  ·
   rename_i p vs
   have hz:=hc.2.2
   rw[<-r1.length,mT] at hz
   have hb:(eL:Int)=16777216:=rfl
   have X3:=hc.1
   have X4:=hc.2.1
   refine⟨p,i,vs,rfl,rfl,cU.same h1 g0.sub,T9,T9,hz,fun q hq=>?_⟩
   have sF:=bh (o:=.lst (List.replicate i.toNat vs).flatten) (g0.sub.free hq)
   exact k _ _ _ sF (g0.laid hq) (.lst (.inl (.inl aJ)) (aI.rep (aI.same sF r1) _))
 ·cases e
theorem Lo{neg:Bool}{j:Nat}{σ:St}{H:Hp}{Q:VK}(h:lift (lc X EX) (RV (lc X EX)) (sT (Ug neg) j fb) σ H Q):KH (Bs X.K X.mg neg) (Jn j) (lift (lc X EX) (RV (lc X EX)) fb) σ H Q:=by
 obtain⟨G,F,ρ,g0,o⟩:=h;unfold sT at o;by_cases ho:(own ρ[j]?).isSome=true;rw[Ge ho] at o;obtain⟨l,d0,AU,_,_⟩:=gY g0 ho;refine⟨_,AU,aW g0 o (fun x r q=>q) fun F1 H1 bo d1 y s1 g1 r1 o1=>?_⟩;unfold vf at o1;cases q:own bo[j]? with|none=>rw[q] at o1;exact o1.elim|some d2=>rw[q] at o1;obtain⟨l',d',h1,h2,h3⟩:=gY g1 (by rw[q];rfl);rw[AU] at h1;cases h1;rw[q] at h2;cases h2;obtain⟨d,e,k⟩:=o1.opt;obtain⟨p1,p2,rfl⟩:=Lq e;obtain⟨F',f1,f2,den⟩:=dU.now g1.sub h3;exact⟨F',d2,d1,f2,den,r1.same f1,p1,p2,k F1 H1 _ s1 g1 (.bl _)⟩
 rw[UE ho] at o;exact o.elim
theorem Q2S(neg:Bool)(hu:X.A.units+64<cLine)(j:Nat){x:Str}{p:Pos}(hb:PV X EX b fb)(hm:behindInMarks (Vr neg) b=false)(hN:X.N[j]?=some x:=by rfl)(hv:uZ X.env.scope x:=by exact Oi)(hd:Yw x:=by decide)(jC:Xj x:=by decide):PB X EX (.Compare (.Name x p) [Vr neg] [b] pos) (tB (sT (Ug neg) j fb)):=
 (ph (NZ neg hu) (fO hN hv hd jC) hb hm).le fun σ H Q bx=>lf bx fun G F ρ g0 o=>Lo (aW g0 o (fun x r q=>q) fun F1 H1 bo d1 x s1 g1 r1 o1=>by cases d1 with|bl k=>obtain rfl:=Den.b r1;exact⟨k,rfl,o1 F1 H1 k s1 g1 rfl⟩|_=>exact o1.elim)
end
section
variable{prog:Program}{w:World}{A:Around}{E:UI}{s:Shared}
theorem Q1o(hl:s.heap.IsTuple l vs.toArray)
  (h:Q vs {s with heap:=(s.heap.push (seqObj "list" #[] 0)).update s.heap.objs.size (Obj.mapSeq (·++vs.toArray))}) (hsz:vs.length<=sizeLine) :
  wpAny (model prog w) A (collect (.ref l)) Q E s:=by
 obtain⟨o,ho,hc,n,hd⟩:=id hl;unfold collect;refine U0 (wpAny_runValue (uI entry_proto_collect' ?_));show wpAny _ _ (do again (.builtin "list.__iadd__" ⟨[<-newList [],.ref l],[]⟩)) _ _ s;refine U0 (wpAny_newList (Qo ⟨Code.quiet_builtin _ (by decide +kernel),uI entry_list_iadd' ?_⟩));show wpAny _ _ (Builtin.List.listExtendWith (.ref s.heap.objs.size) (.ref l) (.ref s.heap.objs.size)) _ _ {s with heap:=s.heap.push (seqObj "list" #[] 0)};unfold Builtin.List.listExtendWith;have uW:(s.heap.push (seqObj "list" #[] 0)).get? l=some o:=WL _ ho;refine U0 (Js (T:="tuple") ⟨o,uW,hc⟩ ?_);have ht:(Value.type "tuple" == Value.type "tuple")=true:=by rfl
 rw[Ge (by rw[ht];simp)];refine U0 (listItems_at uW hd ?_);refine U0 (listItems_at (xs:=#[]) (n:=0) (PQ _ rfl) rfl ?_);rw[UE G9];refine U0 (listUpdate_at (xs:=#[]) (n:=0) (PQ _ rfl) rfl ?_ (IA _) (by show (#[]++vs.toArray).size<=sizeLine+1;simp only[Array.size_append,List.size_toArray,List.length_nil];lia));refine Qo ?_;show wpAny (model prog w) A (do
  let o <-load s.heap.objs.size
  match o.data with|.seq xs _=>pure xs.toList|_=>unsupported "internal:collect") Q E {s with heap:=(s.heap.push (seqObj "list" #[] 0)).update s.heap.objs.size (Obj.mapSeq (·++vs.toArray))}
 refine U0 (wpAny_load (get?_update_seq (PQ _ rfl) _) ?_);show wpAny _ _ (pure ((#[]:Array Value)++vs.toArray).toList) Q E _;rw[show ((#[]:Array Value)++vs.toArray).toList=vs by simp];exact Qo h
theorem uO(hl:s.heap.IsTuple l vs.toArray)(hI:IntsAre vs ns)(QV:vs.length<64)
  (h:∀(out:Array Value)(Gf:R4),IntsAre out.toList Gf->Gf.Perm ns->Gf.Pairwise (·<=·)->Q (.ref (s.heap.objs.size+1)) {s with heap:=sortedAll s.heap vs out}) :
  wpAny (model prog w) A (call (.builtin "sorted") [.ref l]) Q E s:=by
 refine Calls.call_function_entry kind_sorted plain_sorted entry_sorted (args_sorted1 _) ?_;unfold Builtin.«sorted»;refine U0 (m:=checkCount "sorted" 1 1 _) (Qo ?_);refine U0 (Q1o hl ?_ (by rw[Nx];lia));refine U0 (wpAny_newList ?_);have hsz:((s.heap.push (seqObj "list" #[] 0)).update s.heap.objs.size (Obj.mapSeq (·++vs.toArray))).objs.size=s.heap.objs.size+1:=by rw[Heap.size_update,size_push']
 have Ut:(((s.heap.push (seqObj "list" #[] 0)).update s.heap.objs.size (Obj.mapSeq (·++vs.toArray))).push (seqObj "list" vs.toArray 0)).get? (s.heap.objs.size+1)=some (seqObj "list" vs.toArray 0):=by rw[<-hsz];exact PQ _ rfl
 show wpAny _ _ _ _ _ {s with heap:=((s.heap.push (seqObj "list" #[] 0)).update s.heap.objs.size (Obj.mapSeq (·++vs.toArray))).push (seqObj "list" vs.toArray 0)};rw[hsz];refine U0 (OP (xM slot_list_sort ⟨_,Ut,rfl⟩ entry_list_sort (list_sort_tree Ut hI QV fun out Gf a1 a2 a3=>⟨_,rfl,?_⟩) (args_list_sort _)));exact Qo ⟨_,rfl,h out Gf a1 a2 a3⟩
end
section
variable{X:Cx}{EX:XE}{L:Lc}{a:Expr}{fa:M D}{p pos p' Wu:Pos}
theorem iW:∀{us:RU}{ns:R4},IntsAre us ns->Vals (ns.map V.int) us|_,_,.nil=>.nil|_,_,.cons n t h=>.cons ⟨t,rfl⟩ (iW h)
theorem tD:∀(n:Nat)(lo:Nat)(us:RU),us.length=n->(∀(j:Nat)(v:Value),us[j]?=some v->∃t,v=.int ((lo+j:Nat):Int) t)->Vals ((List.range' lo n).map fun(k:Nat)=>V.int k) us|0,_,[],_,_=>.nil|n+1,lo,u::us,hl,h=>by rw[List.range'_succ,Po];refine .cons ?_ (tD n (lo+1) us (by simpa using hl) fun j v e=>?_);obtain⟨t,e⟩:=h 0 u rfl;exact⟨t,by simpa using e⟩;obtain⟨t,e⟩:=h (j+1) v (by simpa using e);exact⟨t,by rw[e,show lo+1+j=lo+(j+1) by lia]⟩
def KC(K:Frag):O6->Hp->VK->Prop:=fun xs H Q=>∃(t:Bool)(q:Addr)(ns:R4),xs=[.ref q]/\lQ K H t q (ns.map V.int)/\ns.length<64/\∀p,H p=none->Q (.ref p) (upd H p (.lst ((sortI ns).map V.int)))
theorem vb:dF X (.builtin "sorted") (KC X.K):=by
 intro UW s σ H xs us Q I r h;obtain⟨t,q,ns,rfl,hq,QV,k⟩:=h;obtain⟨u,rfl,ru⟩:=vals1 r;cases ru;obtain⟨aD,rv,sq⟩:=Inv.qU I hq;have hi:IntsAre aD ns:=intsAre_of rv;have hl:aD.length<64:=by rw[<-rv.length,UR];exact QV
 have fin:∀(out:Array Value)(Gf:R4),IntsAre out.toList Gf->Gf.Perm ns->Gf.Pairwise (·<=·)->EP X UW σ Q (.ref (s.heap.objs.size+1)) {s with heap:=sortedAll s.heap aD out}:=fun out Gf a1 a2 a3=>by
  have e:=wm a2 a3;subst e;obtain⟨c,hc⟩:=sortedAll_at s.heap aD out;have z:((sortI ns).map V.int).length<=sizeLine:=by rw[UR,a2.length_eq,Nx];lia
  exact⟨.ref (s.heap.objs.size+1),_,I.laid (t':=s.toks) (o:=.lst ((sortI ns).map V.int)) (fun b o e=>sortedAll_old e) (ON _) ⟨z,out.toList,c,iW a1,hc⟩,rfl,k _ (I.cg.fresh (ON _))⟩
 cases t;exact sorted_ints (show s.heap.IsList q aD.toArray from sq) hi hl fin;exact uO (show s.heap.IsTuple q aD.toArray from sq) hi hl fin
theorem LM:KS L (KC L.K) wk:=fun G F H σ ρ x dx d Q g0 rx e k=>by unfold wk at e;cases e1:cy dx with|none=>rw[e1] at e;cases e|some ds=>rw[e1] at e;dsimp only at e;cases e2:ff ds with|none=>rw[e2] at e;cases e|some ns=>rw[e2] at e;dsimp only at e;split at e;rename_i QV;cases e;obtain⟨t,q,vs,rfl,r,z⟩:=RR.qU rx g0 e1;have ev:=ints_of r e2;subst ev;refine⟨t,q,ns,rfl,z,QV,fun l hl=>?_⟩;have sF:=bh (o:=.lst ((sortI ns).map V.int)) (g0.sub.free hl);exact k _ _ _ sF (g0.laid hl) (.lst (cU.of aJ) (aI.ints _));cases e
theorem Ic(hg:Gl X "range")(hm:X.mg "range" = none)(xB:Gl X "list")(AS:X.mg "list" = none)(hc:X.calm=true)(ha:PA X [a] t)(hs:starEach [a] X.env=[(false,eval a X.env)]:=by rfl)
  (jW:starEach [.Call (.Name "range" p) [a] [] pos] X.env=[(false,eval (.Call (.Name "range" p) [a] [] pos) X.env)]:=by rfl):PE X (.Call (.Name "list" p') [.Call (.Name "range" p) [a] [] pos] [] Wu)
  (Tn (fun xs H Q=>∃j:Int,xs=[.int j]/\-1000<=j/\j<=1000/\∀l,H l=none->Q (.ref l) (upd H l (.lst ((List.range j.toNat).map fun(k:Nat)=>V.int k)))) t):=by
 intro UW s σ H Q I h;refine K8 (dX I xB AS QS (YY ?_ jW rfl));rw[jW];refine Bg (Call_ (dX I hg hm boot_range (YY (bS (ha pos UW s σ H _ I h) fun us s1 zz=>?_) hs rfl)));obtain⟨vs,H1,I1,r1,q1⟩:=zz;obtain⟨j,e,b1,b2,hR⟩:=q1;subst e;cases r1 with
 |cons r rr=>
  cases rr;obtain⟨t,rfl⟩:=r;refine call_range_1 (E7 ?_);refine call_list_range (n:=j.toNat) (I1.ok.hd hc) (IsRange.new ..) (small_one T9 T9 T9 T9) (by rw[rangeSize_one];split<;>lia) T9 fun h' tk acc c hk ho hi=>?_;have hsz:(s1.heap.push {cls:=.type "range",data:=.fields #[.int 0 s1.toks,.int j t,.int 1 (s1.toks+1)]}).objs.size=s1.heap.objs.size+1:=by simp[Heap.push]
  have hv:Vals ((List.range j.toNat).map fun(k:Nat)=>V.int k) acc.toList:=by rw[List.range_eq_range'];refine tD _ _ _ (by simpa using hi.1) fun i v e=>?_;obtain⟨t,e⟩:=hi.2 i v (by simpa using e);exact⟨t,by rw[e];simp⟩
  refine⟨.ref _,_,I1.laid (t':=tk) (o:=.lst ((List.range j.toNat).map fun(k:Nat)=>V.int k)) (fun b o e=>hk b o (WL _ e)) (by rw[size_push'];exact ON _) ⟨by rw[UR,GH,Nx];lia,acc.toList,c,hv,ho⟩,rfl,hR _ (I1.cg.fresh (by rw[size_push'];exact ON _))⟩
theorem Ik(hg:Gl X "range")(hm:X.mg "range" = none)(xB:Gl X "list")(AS:X.mg "list" = none)(ha:As X EX [a] (mL fl))(hc:X.calm=true:=by rfl)(hs:starEach [a] X.env=[(false,eval a X.env)]:=by rfl)(jW:starEach [.Call (.Name "range" p) [a] [] pos] X.env=[(false,eval (.Call (.Name "range" p) [a] [] pos) X.env)]:=by rfl):PF X EX (.Call (.Name "list" p') [.Call (.Name "range" p) [a] [] pos] [] Wu) (mF Ec fl):=
 (Ic hg hm xB AS hc ha hs jW).le fun σ H Q bx=>dm bx fun G F F1 H1 bo d1 xs s1 g1 r1 o1=>by
  obtain⟨d,e,q⟩:=o1.opt;unfold Ec at e;split at e;rename_i j;cases r1 with|cons h r1=>obtain rfl:=aI.n r1;obtain rfl:=Den.i h;split at e;rename_i hb;cases e;refine⟨j,rfl,hb.1,hb.2,fun l hl=>?_⟩;exact q _ _ _ s1 (g1.made hl) ⟨l,rfl,g1.loose hl ⟨_,aJ,aI.map (fun(k:Nat)=>Den.int k) _⟩⟩;cases e
  cases e
end
def Vi(h:Heap)(e:Addr)(c:Value)(dx:UL):Prop:=∃vs sl,h.get? e=some ⟨c,dx,.fields vs,sl⟩/\vs[2]?=some .none/\vs[1]?=some .none
def Q0n(h0:Heap)(H:Hp)(h:Heap)(e:Addr)(c:Value)(dx:UL)(v:Value):Prop:=∃vs sl T ot ts,h.get? e=some ⟨c,dx,.fields vs,sl⟩/\vs[2]?=some .none/\vs[1]?=some (.ref T)/\T≠e/\h0.get? T=none/\H T=none/\h.get? T=some ot/\ot.data=.fields ts/\ts[3]?=some v
structure Xo(h0:Heap)(H:Hp)(h:Heap)(e:Addr)(c:Value)(dx:UL):Prop where
 lo:h0.get? e=none
 nt:H e=none
 st:Vi h e c dx\/∃v,Q0n h0 H h e c dx v
section
variable{X:Cx}{σ:St}{H:Hp}{s:Shared}{e:Addr}{c:Value}{dx:UL}
def Kp(fs:Xr)(h h':Heap):Prop:=∀b o,b∉fs->(∀vs,o.data≠.fields vs)->h.get? b=some o->h'.get? b=some o
end
def YQ(P:Program)(w:World):uX:=fun outer H s E v s'=>∃e c dx H',v=.ref e/\s'.os=s.os/\AllBare s'.gens/\Un (BL outer) [] H H' s.heap s'.heap/\nV P w H' s'.heap/\Xo s.heap H' s'.heap e c dx/\E c dx H'
section
variable{P:Program}{w:World}{K:Frag}{mg:MG}{base:Heap}
theorem dG.no{k:Nat}{f:Addr}{fd:FuncData}{ps:PU}{sp Tc:Sp}(F:dG P w K mg base (YQ P w) k f fd ps sp)(h:∀vs H Q E,Tc vs H Q E->sp vs H Q fun _ _ _=>False):dG P w K mg base pC k f fd ps Tc:=⟨fun vs H Q E q=>F.len _ _ _ _ (h vs H Q E q),fun A outer s H args us vs Q E hr e0 hb r Gb=>xg (F.run A outer s H args us vs Q (fun _ _ _=>False) hr e0 hb r (h _ _ _ _ Gb)) fun r s' hq=>by cases r with|error e=>obtain⟨_,_,_,_,_,_,_,_,_,_,z⟩:=hq;exact z.elim|ok fl=>cases fl<;>exact hq⟩
end
section
variable{X:Cx}{EX:XE}{L:Lc}{e a b c:Expr}{fe fa fb:M D}{f:M Fl}{pos:Pos}{x:Str}{p:Pos}
theorem qt(g:L.Good G F H σ ρ)(h:own ρ[k]?=some (.lst ds)) : ∃l vs,σ[k]?=some (some (V.ref l))/\H l=some (.lst vs)/\aI L.K L.mg F vs ds/\∀wH BJ,aI L.K L.mg F wH BJ->L.Good G F (upd H l (.lst wH)) σ (cE k (.lst BJ) ρ):=by cases q3:ρ[k]? with|none=>rw[q3] at h;cases h|some s=>rw[q3] at h;have sl:=g.slot k s q3;cases s with|no=>cases h|sh e=>cases h|ow e=>cases h;obtain⟨l,z1,z2,z3,vs,z4,z5⟩:=sl;refine⟨l,vs,join_some z1,z4,z5,fun wH BJ r=>?_⟩;rw[show cE k (.lst BJ) ρ=ρ.set k (.ow (.lst BJ)) by unfold cE;rw[q3]];exact Good.write g q3 rfl (join_some z1) (.inl ⟨_,rfl,rfl⟩) ⟨_,aJ,r⟩|io e=>cases h;obtain⟨l,z1,z2,z3,vs,z4,z5⟩:=sl;refine⟨l,vs,join_some z1,z4,z5,fun wH BJ r=>?_⟩;rw[show cE k (.lst BJ) ρ=ρ.set k (.io (.lst BJ)) by unfold cE;rw[q3]];exact Good.write g q3 rfl (join_some z1) (.inr ⟨_,rfl,rfl⟩) ⟨_,aJ,r⟩
theorem wI(hp:PassesOwn (model X.prog X.w) X.A X.env X.xe)(hc:PB X EX c ft)(hb:mU X EX body f):nW X EX (.While c body [] pos) (qS ft f):=(Q1t hp hc hb).le fun E σ H bx=>xK bx fun G F ρ g0 o=>by refine⟨fun m σ H=>∃F' bP,aL F F'/\(lc X EX).Good G F' H σ bP/\Out (gx ft f m bP) (gM (lc X EX) G F E) (cZ (lc X EX) G F),⟨10000,F,ρ,aL.refl _,g0,o⟩,?_⟩;rintro m KQ H1 ⟨F1,bo,s1,g1,o1⟩;cases m with|zero=>exact o1.elim|succ m=>refine aW g1 o1 (fun x r q=>(q.same s1).x) fun F2 H2 mQ d b s2 g2 r2 o2=>?_;cases r2;cases d with|false=>rw[UE (by decide)] at o2 ⊢;exact o2 F2 H2 KQ (s1.trans s2) g2|true=>rw[Ge rfl] at o2 ⊢;refine⟨fun bE H'=>∃F' bP,aL F F'/\(lc X EX).Good G F' H' bE bP/\Out (gx ft f m bP) (gM (lc X EX) G F E) (cZ (lc X EX) G F),fun bE H' q=>⟨m,FJ m,q⟩,?_⟩;refine⟨G,F2,mQ,g2,(Out.PN o2).mono (fun k r z=>?_) fun _ _ z=>z.same (s1.trans s2)⟩;cases k with|nx=>exact fun F' H' bE s g'=>⟨F',r,(s1.trans s2).trans s,g',z⟩|ct=>exact fun F' H' bE s g'=>⟨F',r,(s1.trans s2).trans s,g',z⟩|bk=>exact fun F' H' bE s g'=>z F' H' bE ((s1.trans s2).trans s) g'|rt d=>exact fun F' H' bE v s g'=>z F' H' bE v ((s1.trans s2).trans s) g'
theorem aI.dropLast{K:Frag}{mg:MG}{F:Hp}{vs:O6}{ds:RN}(h:aI K mg F vs ds):aI K mg F vs.dropLast ds.dropLast:=by rw[List.dropLast_eq_take,List.dropLast_eq_take,h.length];exact h.take _
theorem Ov(i:Nat){QN iD:Pos}(hN:X.N[i]?=some x:=by rfl)(hv:uZ X.env.scope x:=by exact Oi)(hd:Yw x:=by decide)
  (jC:Xj x:=by decide)
  (hpe:∀{to:TE},PE X (.Name x p) to->PE X (.Call (.Attribute (.Name x p) "pop" QN) [] [] iD) (Th X.K "list" S2 to)):PV X EX (.Call (.Attribute (.Name x p) "pop" QN) [] [] iD) (Eo i):=
 (hpe (fO hN hv hd jC)).le fun σ H Q bx=>lf bx fun G F ρ g0 o=>by
  unfold Eo at o;cases q:own ρ[i]? with
  |none=>rw[q] at o;exact o.elim|some d0=>
   rw[q] at o;cases d0 with
   |lst ds=>
    dsimp only at o;cases q2:ds.getLast? with
    |none=>rw[q2] at o;exact o.elim|some d=>
     rw[q2] at o;obtain⟨l,vs,h1,h2,h3,h4⟩:=qt (L:=lc X EX) g0 q;have hl:ds[ds.length-1]?=some d:=by rw[<-List.getLast?_eq_getElem?];exact q2
     obtain⟨v,Wi,ZP⟩:=h3.get hl;rw[<-h3.length] at Wi;exact⟨_,h1,.inl ⟨rfl,_,cU.of h2⟩,l,vs,v,rfl,rfl,h2,Wi,o F _ v (aL.refl _) (h4 _ _ (aI.dropLast h3)) ZP⟩
   |_=>exact o.elim
theorem Pb(i:Nat){QN iD:Pos}(he:PF X EX e fe)(hN:X.N[i]?=some x:=by rfl)(hv:uZ X.env.scope x:=by exact Oi)(hd:Yw x:=by decide)
  (jC:Xj x:=by decide)
  (hpe:∀{to:TE}{t:TA},PE X (.Name x p) to->PA X [e] t->PE X (.Call (.Attribute (.Name x p) "extend" QN) [e] [] iD) (UZ X.K "list" Ai to t))
  (jI:Ys X e []:=by rfl):nW X EX (.Expr (.Call (.Attribute (.Name x p) "extend" QN) [e] [] iD) pos) (Fi i fe):=
 (uC (hpe (fO hN hv hd jC) (cb he fN jI))).le fun E σ H bx=>xK bx fun G F ρ g0 o=>by
  unfold Fi at o;by_cases hl:isLst (own ρ[i]?)=true;rw[Ge hl] at o;obtain⟨l,vs,z1,z2⟩:=isLst_slot (L:=lc X EX) g0 hl;refine⟨_,z1,.inl ⟨rfl,_,cU.of z2⟩,aW g0 o (fun x r q=>q.x) fun F1 H1 bo d1 v s1 g1 r1 o1=>?_⟩;have o2:=Out.PN o1;unfold gg at o2;cases q:own bo[i]? with
  |none=>rw[q] at o2;exact o2.elim|some d0=>
   rw[q] at o2;cases d0 with
   |lst ds=>cases d1 with|lst es=>simp only[xn] at o2;split at o2;rename_i d' q2;split at q2;rename_i hz;cases q2;obtain⟨l',wH,h1,h2,h3,h4⟩:=qt (L:=lc X EX) g1 q;rw[z1] at h1;cases h1;obtain⟨bb,rfl,lo⟩:=r1;obtain⟨ws,hb,rb⟩:=lo.ob;refine⟨l,bb,wH,ws,rfl,rfl,h2,hb,?_,o2 F1 _ σ s1 (h4 _ _ (h3.append rb))⟩;rw[h3.length,rb.length,Nx];exact hz;cases q2;exact o2.elim|_=>simp only[xn] at o2;exact o2.elim
   |_=>simp only[xn] at o2;exact o2.elim
  rw[UE hl] at o;exact o.elim
end
section
variable{X:Cx}{EX:XE}{L:Lc}{e a b c:Expr}{fe fa fb:M D}{f:M Fl}{pos:Pos}{x:Str}{p:Pos}
theorem Mn{neg:Bool}{j:Nat}{σ:St}{H:Hp}{Q:VK}(h:lift (lc X EX) (RV (lc X EX)) (Hy neg fa j) σ H Q):KH (UM X.K neg) (lift (lc X EX) (RV (lc X EX)) fa) (Jn j) σ H Q:=by obtain⟨G,F,ρ,g0,o⟩:=h;refine aW g0 o (fun x r q=>q) fun F1 H1 bo d1 y s1 g1 r1 o1=>?_;unfold DQ at o1;cases q:own bo[j]? with|none=>rw[q] at o1;exact o1.elim|some d2=>rw[q] at o1;obtain⟨d,e,k⟩:=Out.opt o1;unfold inD at e;cases d2 with|lst ds=>simp only[cy] at e;split at e;rename_i hf;rw[NU] at hf;cases e;obtain⟨l,vs,h1,h2,h3,_⟩:=qt (L:=lc X EX) g1 q;obtain⟨i1,i2⟩:=uk r1 hf.1 h3 hf.2;exact⟨_,h1,l,vs,rfl,.inl (cU.of h2),pZ r1 hf.1,i1,by rw[i2];exact k F1 H1 _ s1 g1 (.bl _)⟩;cases e|tup ds=>obtain⟨l',d',z1,z2,z3⟩:=gY g1 (j:=j) (by rw[q];rfl);rw[q] at z2;cases z2;exact z3.elim|_=>simp only[cy,reduceCtorEq] at e
theorem Bm(j:Nat)(ha:PV X EX a fa)(hm:behindInMarks .NotIn (.Name x p)=false)(hN:X.N[j]?=some x:=by rfl)(hv:uZ X.env.scope x:=by exact Oi)(hd:Yw x:=by decide)(jC:Xj x:=by decide):PB X EX (.Compare a [.NotIn] [.Name x p] pos) (tB (Hy true fa j)):=
 Fy (ph mE ha (fO hN hv hd jC) hm) (fun _ _ _ h=>h) fun _ _ _ h=>Mn h
theorem z9(ha:PV X EX a fa)(hb:PV X EX b fb):PF X EX (.BinOp a .Mult b pos) (m2 mulL fa fb):=
 (EO z7 ha hb).le fun σ H Q bx=>dm bx fun G F F1 H1 bo d1 x s1 g1 r1 o1=>aW g1 o1 (fun x r q=>q.same s1) fun F2 H2 mQ d2 y s2 g2 r2 o2=>by
  obtain⟨d,e,q⟩:=o2.opt
  cases d1<;>cases d2<;>try (simp only[mulL,reduceCtorEq] at e;done)
  rename_i ds i
  simp only[mulL] at e
  split at e
  ·rename_i hc
   cases e
   obtain rfl:=Den.i r2
   have Gg:=r1.same s2
   obtain⟨_,_,rfl,h1,z1⟩:=Den.l Gg
   ·
    rename_i pp vs
    have hz:=hc.2.2
    rw[<-z1.length,mT] at hz
    have hb:(eL:Int)=16777216:=rfl
    have X3:=hc.1
    have X4:=hc.2.1
    refine⟨pp,i,vs,rfl,rfl,cU.same h1 g2.sub,T9,T9,hz,fun w hw=>?_⟩
    exact q _ _ _ (s1.trans s2) (g2.made hw) ⟨w,rfl,g2.loose hw ⟨_,aJ,aI.rep z1 _⟩⟩
  ·cases e
theorem Good.gone{K:Frag}{mg:MG}{G:Fx}{F H F' H':Hp}{σ:St}{ρ:aR}{l:Addr}{d:D}{cK:RN}(g:Good K mg G F H σ ρ)(lo:Loose K mg G F H σ ρ l d)(a:After K mg F H F' H' [l] cK):Good K mg G F' H' σ ρ:=by
 have vK:∀{m:Addr},F m=none->(∃o,H m=some o)->F' m=none:=fun {m} h ⟨o,ho⟩=>by cases q:F' m with|none=>rfl|some u=>rcases a.new m u q with z|z;rw[h] at z;cases z;rw[ho] at z;cases z
 have nl:∀{b:Addr}{o:HO},G.H₀ b=some o->b∉[l]:=fun {b o} e hb=>by
  have:b=l:=by simpa using hb
  subst this;rw[lo.n0] at e;cases e
 exact {
  sF:=g.sF.trans a.sF
  sub:=a.sub
  old:=fun b o e n=>a.old b o (g.old b o e n) (nl e)
  new:=fun b o e=>by rcases a.new b o e with z|z;exact g.new b o z;exact .inr (g.Bh z)
  len:=g.len
  slot:=fun i s h=>(g.slot i s h).same a.sF (fun m _ _ f t=>vK f t) fun m o hv ow e=>a.old m o e fun hb=>by
   have:m=l:=by simpa using hb
   subst this;exact lo.ns i s h ow (join_some hv)
  apart:=g.apart
  oq:=fun i b h=>by obtain⟨⟨o,q1⟩,q2,u,q3⟩:=g.oq i b h;exact⟨⟨o,a.old b o q1 (nl q3)⟩,vK q2 ⟨o,q1⟩,u,q3⟩
  oJ:=g.oJ}
variable{CX:uX}{k:Nat}{fA:Addr}{fd:FuncData}{ps:PU}{fs:Fn}
theorem Q1S(F:dG X.prog X.w X.K X.mg X.base CX k fA fd ps (oP X.K X.mg [true] fs))(hr:cG k X.A)(hg:Gl X x)(hm:X.mg x=some (.ref fA))(hk:W.keepIn X.K (.ref fA)=true)(hb:Binds X.K fd ps [])(hx:fW CX X EX)
  (ha:PF X EX a fa) (jH:Yw x:=by decide) (he:Ys X a []:=by rfl) (iP:(backTo pos (starEach [] X.env)).any (·.1)=false:=by rfl) :
  PV X EX (.Call (.Name x p) [a] [] pos) (nE fs fa):=by
 intro UW s σ H Q I h;obtain⟨G,F0,ρ,g0,o⟩:=h;refine K8 (mh I hg hm ?_ jH);refine rz (h₀:=X.base) I.ok.mod.Mz hk (bS (cb ha fN he pos UW s σ H (fun vs H1=>oP X.K X.mg [true] fs vs H1 Q (EX σ)) I ?_) fun us s1 ⟨vs,H1,I1,r,q⟩=>⟨I1.mP,?_⟩) he iP;refine aW g0 o (fun x r q=>q) fun F1 H1 bo d1 v s1 g1 r1 o1=>?_;obtain⟨l,rfl,lo⟩:=r1;refine⟨rfl,F1,[d1],g1.sub,⟨⟨l,rfl,lo.nF,lo.ob⟩,trivial⟩,by simp[qi,dW],?_⟩;unfold B0 at o1;cases q2:fs [d1] with
  |no=>rw[q2] at o1;exact o1.elim|ok d cK=>
   rw[q2] at o1
   match cK,o1 with|[io],o1=>exact fun F' H' v a rd=>o1 F' H' v (s1.trans a.sF) (Good.gone g1 lo a) rd|[],o1=>exact o1.elim|_::_::_,o1=>exact o1.elim
  |exc xx cK=>
   rw[q2] at o1
   match cK,o1 with|[io],o1=>exact fun F' H' c dx a rx=>o1 F' H' c dx (s1.trans a.sF) (Good.gone g1 lo a) rx|[],o1=>exact o1.elim|_::_::_,o1=>exact o1.elim
 exact pq F hr hb hx I1 r q
end
section
variable{pg:Program}{wd:World}{A:Around}{R:Result->Shared->Prop}{It:Addr}{fp wr:Xr}{n:Nat}{P:Nat->Value->Prop}{Z:Nat->Heap->Prop}{dv:Value}
theorem AA(a d:Value):argsOk "max" ⟨[a],[("default",d)]⟩:=by unfold argsOk;kernel_rfl
theorem kG:(toString "max" ++ toString ".loop" : String)="max.loop" := by decide
theorem Ba(W:Walks pg wd A.in1 It fp wr n P Z)(bt:Nat->Nat->Bool)(cm:CmpOf pg wd A.in1 .Gt P bt)(S:Addr)(nS:S∉fp) :
  ∀(m i:Nat)(t:Shared)(best:Value)(cap:Nat),n-(i+1)=m->i+1<=n->Z (i+1) t.heap->P (argBest bt i) best ->
  t.heap.get? S=some {cls:=.type "list",dict:=none,data:=.seq #[best,best] cap,slots:=#[]} ->
  (∀v g tk,P (argBest bt (n-1)) v->(∀b o,b∉wr->b≠S->t.heap.get? b=some o->g.get? b=some o)->R (.ok (.ret v)) {t with heap:=g,toks:=tk}) ->
  codeAny (model pg wd) A (.builtin "max.loop" ⟨[.ref It,.none,.ref S],[("default",dv)]⟩) R t:=by
 have nw:S∉wr:=fun q=>nS (W.sub _ q);intro m;induction m with|zero=>intro i t best cap e1 e2 hz hb hS fin;have en:i+1=n:=T9;refine uI EN ?_;rw[MY Bo _];refine U0 (m:=seqItems? (.ref S)) (ML hS rfl ?_);refine U0 (m:=tryCatch (pyNext (.ref It)) _) (vM (W.done t _ _ (en ▸ hz) fun g tk kp=>?_));have J6:=kp S _ nw hS;refine U0 (m:=updateSeq S (fun _=>#[])) (QP J6 rfl (U0 (E0 (Qo ?_))));exact fin best _ tk (by rw[<-en];exact hb) fun b o q1 q2 z=>(rE _ _ (W5 q2)).trans (kp b o q1 z)|succ m ih=>intro i t best cap e1 e2 hz hb hS fin;have lt:i+1<n:=T9;refine uI EN ?_;rw[MY Bo _];refine U0 (m:=seqItems? (.ref S)) (ML hS rfl ?_);refine U0 (m:=tryCatch (pyNext (.ref It)) _) (vM (W.item (i+1) t _ _ lt hz fun v g tk hv Ux kp=>?_));have J6:=kp S _ nw hS;refine U0 (m:=tryCatch (holding [v,v] (richCompare .Gt v best >>= _)) _) (vM (OP (U0 (cm (i+1) (argBest bt i) v best _ _ _ hv hb ?_))));refine U0 (OP (Mw (U0 (E0 (Qo ?_)))));cases q:bt (i+1) (argBest bt i) with|true=>simp only[if_true];refine U0 (QP J6 rfl (U0 (E0 ?_)));rw[kG];refine Qo ⟨OQ Bo _,ih (i+1) _ v _ T9 lt (W.frame _ _ _ Ux fun b mb o z=>(rE _ _ (fun w:S=b=>nS (by rw[w];exact mb))).trans z) (by simp only[argBest,q,if_true];exact hv) (vT _ J6 rfl) fun v2 g2 Tw y1 y2=>?_⟩;exact fin v2 g2 Tw y1 fun b o q1 q2 z=>y2 b o q1 q2 ((rE _ _ (W5 q2)).trans (kp b o q1 z))|false=>simp only[Bool.false_eq_true,if_false];refine U0 (E0 ?_);rw[kG];exact Qo ⟨OQ Bo _,ih (i+1) _ best cap T9 lt Ux (by simp only[argBest,q,Bool.false_eq_true,if_false];exact hb) J6 fun v2 g2 Tw y1 y2=>fin v2 g2 Tw y1 fun b o q1 q2 z=>y2 b o q1 q2 (kp b o q1 z)⟩
theorem xS(W:Walks pg wd A.in1 It fp wr n P Z)(bt:Nat->Nat->Bool)(cm:CmpOf pg wd A.in1 .Gt P bt)(S:Addr)(nS:S∉fp)(hz:Z 0 t.heap)
  (hS:t.heap.get? S=some {cls:=.type "list",dict:=none,data:=.seq #[] cap,slots:=#[]})
  (fin:∀v g tk,(n=0/\v=dv\/0<n/\P (argBest bt (n-1)) v)->(∀b o,b∉wr->b≠S->t.heap.get? b=some o->g.get? b=some o)->R (.ok (.ret v)) {t with heap:=g,toks:=tk}) :
  codeAny (model pg wd) A (.builtin "max.loop" ⟨[.ref It,.none,.ref S],[("default",dv)]⟩) R t:=by
 have nw:S∉wr:=fun q=>nS (W.sub _ q);refine uI EN ?_;rw[MY Bo _];refine U0 (m:=seqItems? (.ref S)) (ML hS rfl ?_);by_cases hn:0<n;refine U0 (m:=tryCatch (pyNext (.ref It)) _) (vM (W.item 0 t _ _ hn hz fun v g tk hv Ux kp=>?_));have J6:=kp S _ nw hS;refine U0 (m:=updateSeq S (fun _=>#[v,v])) (QP J6 rfl ?_);rw[kG];refine Qo ⟨OQ Bo _,Ba W bt cm S nS _ 0 _ v _ rfl hn (W.frame _ _ _ Ux fun b mb o z=>(rE _ _ (fun w:S=b=>nS (by rw[w];exact mb))).trans z) hv (vT _ J6 rfl) fun v2 g2 Tw y1 y2=>?_⟩;exact fin v2 g2 Tw (.inr ⟨hn,y1⟩) fun b o q1 q2 z=>y2 b o q1 q2 ((rE _ _ (W5 q2)).trans (kp b o q1 z));have n0:n=0:=T9;refine U0 (m:=tryCatch (pyNext (.ref It)) _) (vM (W.done t _ _ (n0 ▸ hz) fun g tk kp=>?_));exact U0 (K9 (Qo (fin dv g tk (.inl ⟨n0,rfl⟩) fun b o q1 _ z=>kp b o q1 z)))
end
def mx(a b:Int):Int:=if a<b then b else a
theorem yS(ns:R4):∀k,k<ns.length->argBest (fun i j=>decide (ns.getD i 0 > ns.getD j 0)) k<=k/\ns.getD (argBest (fun i j=>decide (ns.getD i 0 > ns.getD j 0)) k) 0=((ns.drop 1).take k).foldl mx (ns.getD 0 0)
|0,_=>⟨Uj _,by simp[argBest]⟩|k+1,h=>by
 obtain⟨i1,i2⟩:=yS ns k T9;have e:((ns.drop 1).take (k+1)).foldl mx (ns.getD 0 0)=mx (((ns.drop 1).take k).foldl mx (ns.getD 0 0)) (ns.getD (k+1) 0):=by
  rw[List.take_succ,List.foldl_append];have:(ns.drop 1)[k]?=some (ns.getD (k+1) 0):=by rw[List.getElem?_drop,show 1+k=k+1 by lia];simp[h]
  rw[this];rfl
 rw[e,<-i2];have st:argBest (fun i j=>decide (ns.getD i 0 > ns.getD j 0)) (k+1)=if decide (ns.getD (k+1) 0 > ns.getD (argBest (fun i j=>decide (ns.getD i 0 > ns.getD j 0)) k) 0)=true then k+1 else argBest (fun i j=>decide (ns.getD i 0 > ns.getD j 0)) k:=rfl
 rw[st];generalize argBest (fun i j=>decide (ns.getD i 0 > ns.getD j 0)) k=m at *;by_cases q:ns.getD (k+1) 0 > ns.getD m 0;rw[Ub q,Ge rfl];exact⟨Uj _,by unfold mx;rw[Ge q]⟩;rw[Vy q,UE (by decide)];exact⟨T9,by unfold mx;rw[UE q]⟩
theorem va(i:Int)(is:R4):(i::is).getD (argBest (fun a b=>decide ((i::is).getD a 0 > (i::is).getD b 0)) ((i::is).length-1)) 0=is.foldl mx i:=by rw[(yS (i::is) ((i::is).length-1) G9).2];simp
section
variable{pg:Program}{wd:World}{A:Around}{E:UI}{s:Shared}
theorem Jp{id:String}{b:Builtin}{args:RU}{kw:List (Str×Value)}{Q:UI}(k0:builtinKind id=none)(p0:plainId id=true)(e0:entryFor table id=some b)(a0:argsOk id ⟨args,kw⟩)
  (go:wpAny (model pg wd) A.in1 (b ⟨args,kw⟩) (fun fin s'=>match fin with|.done f=>(match (Except.ok f:Result) with|.ok (.ret v)=>Q v s'|.ok _=>False|.error e=>E e s')|.again c'=>c'.quiet=true/\codeAny (model pg wd) A c' (fun r s'=>match r with|.ok (.ret v)=>Q v s'|.ok _=>False|.error e=>E e s') s') E s) :
  wpAny (model pg wd) A (call (.builtin id) args kw) Q E s:=by
 refine wpAny_call (codeAny_call_builtin p0 e0 ?_);simp only[checkBuiltinCall,k0];cases q:Manifest.signature? id with
 |none=>exact Qo go|some sig=>
  have h2:Bind.checkArgs id sig ⟨args,kw⟩=pure ():=by simpa only[argsOk,q] using a0
  simp only[h2];exact Qo go
theorem Q0t(hh:A.handled=none)(hl:s.heap.IsTuple q aD.toArray)(hi:IntsAre aD ns)
  (h:∀v h' tk,(ns=[]/\v=dv\/∃i is t,ns=i::is/\v=.int (is.foldl mx i) t)->(∀b o,s.heap.get? b=some o->h'.get? b=some o)->Q v {s with heap:=h',toks:=tk}) :
  wpAny (model pg wd) A (call (.builtin "max") [.ref q] [("default",dv)]) Q E s:=by
 refine Jp PySem.F.kind_max PySem.F.plain_max PySem.F.entry_max (AA _ _) ?_;refine U0 (m:=Builtin.Builtins.bindParams "max" ["key","default"] 0 ⟨[],[("default",dv)]⟩) (SU (show _=pure [none,some dv] from rfl) ?_);refine U0 (Qo (U0 (xO hl ?_)));have lt:q<s.heap.objs.size:=by obtain⟨o,e,_⟩:=hl;exact UG e
 have vals:∀i v,aD.toArray[i]?=some v->∃t,v=Value.int (ns.getD i 0) t:=fun i v e=>by
  have e':aD[i]?=some v:=by simpa using e
  clear e h hl;induction hi generalizing i with|nil=>simp at e'|cons n t hr ih=>cases i with|zero=>simp at e';exact⟨t,by simp[<-e']⟩|succ i=>exact ih i (by simpa using e')
 have W:=Walks.tuple (prog:=pg) (w:=wd) (A:=A.in1) hh s.heap.objs.size q (Vz lt) aD.toArray;refine U0 (MC ?_);have hsz:(s.heap.push {cls:=.type "tuple_iterator",data:=.fields #[.ref q,.int 0 0]}).objs.size=s.heap.objs.size+1:=MT ..;rw[kG];refine Qo ⟨OQ Bo _,xS W _ (CmpOf.ints_gt (fun i=>ns.getD i 0) vals) _ ?_ (cap:=0) ?_ ?_ fun v g tk hv kp=>?_⟩;intro hm;rw[hsz] at hm;simp at hm;rw[<-hm] at lt;exact nJ _ (Nat.lt_of_succ_lt lt);exact⟨⟨_,WL _ (PQ _ rfl),rfl,rfl⟩,(hl.push _).push _⟩;exact PQ _ rfl;have RP:aD.length=ns.length:=by clear h hl vals W hv kp;induction hi with|nil=>rfl|cons n t hr ih=>simp[ih]
 refine h v g tk ?_ fun b o e=>kp b o ?_ ?_ (WL _ (WL _ e));rcases hv with ⟨h0,rfl⟩|⟨h0,hv⟩
 refine .inl ⟨?_,rfl⟩;have:aD.length=0:=by simpa using h0
 exact List.length_eq_zero_iff.mp T9;obtain⟨t,e⟩:=vals _ _ hv;cases ns with
 |nil=>simp at h0;rw[RP] at h0;simp at h0|cons i is=>
  refine .inr ⟨i,is,t,rfl,?_⟩;rw[e,<-va i is];have:aD.toArray.size-1=(i::is).length-1:=by rw[<-RP];simp
  rw[this]
 have:=UG e;intro hm;have z:b=s.heap.objs.size:=by simpa using hm
 rw[z] at this;exact nJ _ this;have:=UG e;intro z;rw[z,hsz] at this;exact nJ _ (Nat.lt_of_succ_lt this)
end
section
variable{X:Cx}{EX:XE}{L:Lc}{a b:Expr}{fa fb:M D}{p pos kp:Pos}
theorem IJ(hc:X.calm=true)(sN:Gl X "max")(hm:X.mg "max" = none)(hv:bootBuiltins "max" = some (.builtin "max"))(ha:PV X EX a fa)(hb:PV X EX b fb)
  (hs:Ys X a []:=by rfl)
  (he:backTo pos (starEach [a] X.env)=(false,eval a X.env)::backTo pos (starEach [] X.env):=by rfl) (hp:(backTo pos (starEach [a] X.env)).any (·.1)=false:=by rfl)
  (V4:(backToKw pos (keywordEach [⟨some "default",b,kp⟩] X.env)).all (·.1.isSome)=true:=by rfl) (PH:(backToKw pos (keywordEach [⟨some "default",b,kp⟩] X.env)).any (·.1.isNone)=false:=by rfl)
  (ZC:(backToKw pos (keywordEach [⟨some "default",b,kp⟩] X.env)).filterMap (·.1)=[("default" : Str)]:=by rfl) :
  PV X EX (.Call (.Name "max" p) [a] [⟨some "default",b,kp⟩] pos) (m2 nG fa fb):=by
 intro UW s σ H Q I ⟨G,F,ρ,g0,o⟩;refine K8 (dX I sN hm hv ?_ (by decide) (by decide));refine callWith_kw (bS (cb ha fN hs pos UW s σ H (fun xs H1=>∃x,xs=[x]/\lift (lc X EX) (RV (lc X EX)) fb σ H1 fun y H2=>(∃q ns,x=.ref q/\dB X.K H2 q (ns.map V.int)/\Q (match ns with|[]=>y|i::is=>.int (is.foldl mx i)) H2)) I ?_) fun us s1 ⟨vs,H1,I1,r1,q1⟩=>?_) he hp V4 PH;refine aW g0 o (fun x r q=>q) fun F1 H1 bo d1 x s1 g1 r1 o1=>⟨x,rfl,aW g1 o1 (fun x r q=>q.same s1) fun F2 H2 mQ d2 y s2 g2 r2 o2=>?_⟩;obtain⟨d,e,q⟩:=o2.opt;cases d1 with
  |tup ds=>simp only[nG] at e;cases e2:ff ds with|none=>rw[e2] at e;cases e|some ns=>rw[e2] at e;have Gg:=r1.same s2;obtain⟨_,_,rfl,h1,z1⟩:=Den.t Gg;have ev:=ints_of z1 e2;subst ev;refine⟨_,ns,rfl,dB.same h1 g2.sub,?_⟩;cases ns with|nil=>cases e;exact q F2 H2 y (s1.trans s2) g2 r2|cons i is=>cases e;exact q F2 H2 _ (s1.trans s2) g2 (.int _)
  |_=>simp only[nG,reduceCtorEq] at e
 obtain⟨x,rfl,lf⟩:=q1;obtain⟨u,rfl,ru⟩:=vals1 r1;refine kws_cons (bS (hb UW s1 σ H1 _ I1 lf) fun dv s2 ⟨y,H2,I2,ry,q,ns,hx,hq,k⟩=>kws_nil ?_);subst hx;cases ru;rw[ZC];obtain⟨aD,rv,pl,_⟩:=I2.tuple hq;refine Q0t (I2.ok.hd hc) pl (L2.intsAre_of rv) fun v h' tk AU Yt=>?_;rcases AU with ⟨rfl,rfl⟩|⟨i,is,t,rfl,rfl⟩
 exact⟨y,H2,I2.kept Yt,ry,k⟩;exact⟨.int (is.foldl mx i),H2,I2.kept Yt,⟨t,rfl⟩,k⟩
end
open Classical in
noncomputable def iC(F H:Hp)(σ:St)(ρ:aR):Hp:=fun a=>if ∃(i:Nat)(s:Sl),ρ[i]?=some s/\cq s=true/\σ[i]?=some (some (V.ref a)) then H a else F a
section
variable{K:Frag}{mg:MG}{G:Fx}{F F4 H H4:Hp}{σ:St}{ρ rP:aR}
theorem tE{i:Nat}{s:Sl}{a:Addr}(h:ρ[i]?=some s)(o:cq s=true)(e:σ[i]?=some (some (V.ref a))):iC F H σ ρ a=H a:=Ge ⟨i,s,h,o,e⟩
theorem kq(g:Good K mg G F H σ ρ)(a:Addr):(∃l d,a=l/\dU K mg F H l d/\F l=none/\iC F H σ ρ a=H a)\/iC F H σ ρ a=F a:=by by_cases z:∃(i:Nat)(s:Sl),ρ[i]?=some s/\cq s=true/\σ[i]?=some (some (V.ref a));refine .inl ?_;obtain⟨i,s,h1,h2,h3⟩:=id z;obtain⟨l,d,e,n,ob,_⟩:=(g.slot i s h1).own h2;rw[h3] at e;cases e;exact⟨a,d,rfl,ob,n,Ge z⟩;exact .inr (UE z)
theorem lN(g:Good K mg G F H σ ρ):aL F (iC F H σ ρ):=fun a o e=>by
 rcases kq g a with ⟨l,d,rfl,ob,n,q⟩|q
 rw[n] at e;cases e;rw[q];exact e
theorem Good.view(g:Good K mg G F H σ ρ):Good K mg ⟨H,iC F H σ ρ,[]⟩ (iC F H σ ρ) H σ (ρ.map fJ) where
 sF:=aL.refl _
 sub:=fun a o e=>by
  rcases kq g a with ⟨l,d,rfl,ob,n,q⟩|q
  rw[q] at e;exact e;rw[q] at e;exact g.sub _ _ e
 old:=fun a o e _=>e
 new:=fun a o e=>.inl e
 len:=by rw[UR];exact g.len
 slot:=fun i s h=>by rw[GF] at h;cases q:ρ[i]? with|none=>rw[q] at h;cases h|some t=>rw[q] at h;have e:fJ t=s:=RD h;subst e;have sl:=g.slot i t q;cases t with|no=>trivial|sh d=>obtain⟨u,h1,h2⟩:=sl;exact⟨u,h1,h2.same (lN g)⟩|ow d=>obtain⟨l,h1,h2,h3,h4⟩:=sl;obtain⟨o,ho⟩:=h4.has;exact⟨_,h1,h4.den ho (lN g) (by rw[tE q rfl (join_some h1)];exact ho)⟩|io d=>obtain⟨l,h1,h2,h3,h4⟩:=sl;obtain⟨o,ho⟩:=h4.has;exact⟨_,h1,h4.den ho (lN g) (by rw[tE q rfl (join_some h1)];exact ho)⟩
 apart:=fun i j l s t h1 h2 o1=>by rw[GF] at h1;cases q:ρ[i]? with|none=>rw[q] at h1;cases h1|some t=>rw[q] at h1;have e:fJ t=s:=RD h1;subst e;cases t<;>cases o1
 oq:=fun i a h=>by cases h
 oJ:=fun i a b h=>by cases h
open Classical in
noncomputable def ij(F F4 H:Hp):Hp:=fun a=>if (H a).isSome then F a else F4 a
theorem iG(h:H a=some o):ij F F4 H a=F a:=Ge (by rw[h];rfl)
theorem mX(h:H a=none):ij F F4 H a=F4 a:=UE (by rw[h];simp)
theorem pL(g:Good K mg G F H σ ρ)(gv:Good K mg ⟨H,iC F H σ ρ,[]⟩ F4 H4 σ rP)(h:F4 a=some o)(n1:∀xs,o≠.lst xs)(n2:∀xs ep,o≠.dK xs ep)(n3:∀C d fs,o≠.ins C d fs):ij F F4 H a=some o:=by
 cases q:H a with
 |none=>rw[mX q];exact h|some u=>
  rw[iG q];rcases gv.new a o h with z|z;have z':iC F H σ ρ a=some o:=z;rcases kq g a with ⟨l,d,rfl,ob,n,e⟩|e
  rw[e] at z';cases d with|lst ds=>obtain⟨vs,h1,_⟩:=ob;rw[h1] at z';cases z';exact absurd rfl (n1 _)|gK ks ds=>obtain⟨vs,ep,h1,_⟩:=ob;rw[h1] at z';cases z';exact absurd rfl (n2 _ _)|ins c ns ds=>obtain⟨C,dx,fs,h1,_⟩:=ob;rw[h1] at z';cases z';exact absurd rfl (n3 _ _ _)|_=>exact ob.elim
  rw[<-e];exact z';have z':H a=none:=z;rw[q] at z';cases z'
theorem dB.back(g:Good K mg G F H σ ρ)(gv:Good K mg ⟨H,iC F H σ ρ,[]⟩ F4 H4 σ rP)(h:dB K F4 a xs):dB K (ij F F4 H) a xs:=by
 rcases h with (h|⟨o,h⟩)|h
 exact .inl (.inl (pL g gv h (fun _ z=>nomatch z) (fun _ _ z=>nomatch z) fun _ _ _ z=>nomatch z));exact .inl (.inr ⟨o,pL g gv h (fun _ z=>nomatch z) (fun _ _ z=>nomatch z) fun _ _ _ z=>nomatch z⟩);exact .inr h
theorem yH{a b:Bool}(h:(a&&b)=true):a=true/\b=true:=(NU _ _).mp h
theorem Den.back(g:Good K mg G F H σ ρ)(gv:Good K mg ⟨H,iC F H σ ρ,[]⟩ F4 H4 σ rP){v:V}{d:D}(h:Den K mg F4 v d):QM d=true->Den K mg (ij F F4 H) v d:=Den.rec (motive_1:=fun v d _=>QM d=true->Den K mg (ij F F4 H) v d) (motive_2:=fun vs ds _=>noLs ds=true->aI K mg (ij F F4 H) vs ds) (fun _=>.bC) (fun b _=>.bl b) (fun i _=>.int i) (fun x _=>.str x) (fun h _ r n=>.tup (dB.back g gv h) (r n)) (fun _ _ _ n=>nomatch n) (fun _ _ _ n=>nomatch n) (fun _ _ _ _ n=>nomatch n) (fun _ _ _ _ _ n=>nomatch n) (fun _=>.nil) (fun _ _ h t n=>.cons (h (yH n).1) (t (yH n).2)) h
theorem aI.back(g:Good K mg G F H σ ρ)(gv:Good K mg ⟨H,iC F H σ ρ,[]⟩ F4 H4 σ rP){vs:O6}{ds:RN}(h:aI K mg F4 vs ds):noLs ds=true->aI K mg (ij F F4 H) vs ds:=h.ind (P:=fun vs ds=>noLs ds=true->aI K mg (ij F F4 H) vs ds) (fun _=>.nil) fun h _ t n=>.cons (h.back g gv (yH n).1) (t (yH n).2)
theorem Good.rf(g:Good K mg G F H σ ρ)(gv:Good K mg ⟨H,iC F H σ ρ,[]⟩ F4 H4 σ rP):aL F (ij F F4 H)/\Good K mg G (ij F F4 H) H4 σ ρ:=by
 have kept:∀a o,H a=some o->H4 a=some o:=fun a o e=>gv.old a o e fun i z=>by cases z
 have sF:aL F (ij F F4 H):=fun a o e=>by rw[iG (g.sub _ _ e)];exact e
 have nF:∀{l:Addr},F l=none->(∃o,H l=some o)->ij F F4 H l=none:=fun {l} h ⟨o,ho⟩=>by rw[iG ho];exact h
 refine⟨sF,?_⟩;exact {
  sF:=g.sF.trans sF
  sub:=fun a o e=>by cases q:H a with|none=>rw[mX q] at e;exact gv.sub _ _ e|some u=>rw[iG q] at e;exact kept _ _ (g.sub _ _ e)
  old:=fun a o e n=>kept _ _ (g.old a o e n)
  new:=fun a o e=>by cases q:H a with|none=>exact .inr (g.Bh q)|some u=>rw[iG q] at e;exact g.new a o e
  len:=g.len
  slot:=fun i s h=>(g.slot i s h).same sF (fun l _ _ f t=>nF f t) fun l o _ _ e=>kept _ _ e
  apart:=g.apart
  oq:=fun i a h=>by obtain⟨⟨o,h1⟩,h2,h3⟩:=g.oq i a h;exact⟨⟨o,kept _ _ h1⟩,nF h2 ⟨o,h1⟩,h3⟩
  oJ:=g.oJ}
theorem Loose.rf(g:Good K mg G F H σ ρ)(gv:Good K mg ⟨H,iC F H σ ρ,[]⟩ F4 H4 σ rP)(lo:Loose K mg ⟨H,iC F H σ ρ,[]⟩ F4 H4 σ rP l (.lst ds))(n:noLs ds=true):Loose K mg G (ij F F4 H) H4 σ ρ l (.lst ds):=by have h0:H l=none:=lo.n0;obtain⟨vs,h1,h2⟩:=lo.ob;refine⟨by rw[mX h0];exact lo.nF,g.Bh h0,⟨vs,h1,aI.back g gv h2 n⟩,fun i s h ow e=>?_⟩;obtain⟨m,d,e1,e2,e3,_⟩:=(g.slot i s h).own ow;rw[e] at e1;cases e1;obtain⟨u,hu⟩:=e3.has;rw[h0] at hu;cases hu
end
section
variable{X:Cx}{EX:XE}{e elt tg UD:Expr}{ifs:W3}{pos:Pos}{it:M (List D)}{gf:D->M Unit}{ft:M Bool}{fe f:M D}{js:UA}{scope:Scope}{N':PU}
theorem wG(o:Out (lb f ρ) P E):Out (f (ρ.map fJ)) (fun d _=>∃ds,d=.lst ds/\noLs ds=true/\P d ρ) (fun _ _=>False):=by unfold lb at o;cases q:f (ρ.map fJ) with|no=>rw[q] at o;exact o.elim|exc x r=>rw[q] at o;exact o.elim|ok d r=>rw[q] at o;cases d with|lst ds=>dsimp only at o;split at o;rename_i hn;exact⟨ds,rfl,hn,o⟩;exact o.elim|_=>exact o.elim
theorem JA(n i:Nat){y:Str}{py mH:Pos}(hN:X.N.Nodup)(hy:X.N[i]?=some y)(hx:Loc X.env.scope y)(hc:X.calm=true)(c:bQ X scope N')(hn:X.N.length+n+1=N'.length)(hi:uT X EX tg UD it)(ug:∀d r x r',gf d r≠.exc x r')(uV:∀j∈js,X.N.length<=j/\j<X.N.length+n)
  (hg:∀C s H ex,yE (bI X scope C N' s H ex) EX tg js gf) (ht:∀C s H ex EX,BP (bI X scope C N' s H ex) EX ifs ft) (he:∀C s H ex EX,PV (bI X scope C N' s H ex) EX elt fe)
  (G3:swapsWith (.ListComp elt [⟨tg,UD,ifs,0⟩] scope pos) (some (.Name y py)) mH.line X.env=pure true:=by rfl) (hs:∀x,foldedSetIterable UD X.env x=pure x:=by exact Bz)
  (AO:IL X y:=by exact NP):nW X EX (.Assign [.Name y py] (.ListComp elt [⟨tg,UD,ifs,0⟩] scope pos) mH) (dZ i (lb (aU n it gf ft fe))):=by
 intro UW s σ H E I h;obtain⟨G,F,ρ,g0,o⟩:=h;rw[Mf _ _ _ _ G3];refine U0 (LZ (U0 ?_));show wpAny _ X.A (do let _ <-comprehension (.ListComp elt [⟨tg,UD,ifs,0⟩] scope pos) scope X.env _ (newList []) false (firstIter [⟨tg,UD,ifs,0⟩] X.env) (some (assign (.Name y py) X.env))) _ _ s;refine U0 (RX (kz (use:=some (assign (.Name y py) X.env)) (QQ:=fun _ s'=>SP X UW E .next s') n hc c hn hi ug uV hg ht (xw:=fun _ _ _ _ _ _=>False) (fun C s H ex=>he C s H ex _) (fun _ _ _ _ _ _ _ _ _ _ z=>z.elim) hs I (Good.view g0) (wG (Out.PN o)) (fun x r q=>q.elim) fun F4 H4 s5 rP d l C mm e4 g4 lo post IX GZ FC=>?_) (fun _ s' hq=>Qo (Qo hq)) fun _ _ e=>e);show wpAny _ X.A (assign (.Name y py) X.env (.ref l)) _ _ s5;refine Lm (kM IX hN hy hx (v:=.ref l) rfl (fun s6 I6 zz=>?_) AO);obtain⟨a,sb,ha⟩:=zz;have QW:C≠a:=by rcases ha with rfl|ha;exact FC.2.1;exact fun z=>FC.2.2.2.2.1 _ _ ha z.symm
 obtain⟨ds,rfl,Kj,post⟩:=post;obtain⟨u1,u2⟩:=Good.rf g0 g4;have WG:=Loose.rf g0 g4 lo Kj;obtain⟨mQ,g2,q⟩:=qG (L:=lc X EX) u2 WG (Out.PN post);refine⟨mm,GZ.sameBut sb QW,fun h' Ga=>⟨σ.set i (some (.ref l)),H4,?_,q _ _ _ u1 g2⟩⟩;exact I6.turned (t':=s6.toks) (fun b ob hb e=>Ga.extBut b ob hb e) FC.1 FC.2.1 FC.2.2.2.1 FC.2.2.2.2.1 FC.2.2.2.2.2
end
section
variable{X:Cx}{EX:XE}{e a test value:Expr}{ft:M Bool}{fe:M D}{f g:M Fl}{st:Stmt}{body rest:List Stmt}{pos p:Pos}{x fn:Str}
theorem iw{v:V}:∀{fs:List (Str×V)},(gq fn v fs).lookup fn=some v|[]=>by simp[gq]| (n,w)::fs=>by simp only[gq];split;rename_i h;simp[h];rename_i h;rw[List.lookup_cons,show (fn == n)=false from beq_false_of_ne (W5 h)];exact iw
end
section
variable{P:Program}{w:World}{K:Frag}{mg:MG}{base:Heap}
theorem d6{f g:M Fl}(h:∀r bP,g r≠.ok .nx bP):∀r bP,ak f g r≠.ok .nx bP:=fun r bP e=>by unfold ak VP.PN at e;cases q:f r with|no=>rw[q] at e;cases e|exc x r'=>rw[q] at e;cases e|ok k r'=>rw[q] at e;cases k with|nx=>exact h _ _ e|bk=>cases e|ct=>cases e|rt d=>cases e
end
section
variable{K:Frag}{mg:MG}{F:Hp}
theorem tT:∀{aO:List (Key×V)}{ds:RN}{k:Key}{d:D},aI K mg F (aO.map (·.2)) ds->xh (aO.map (·.1)) ds k=some d->∃v,kT aO k=some v/\Den K mg F v d|[],_,_,_,_,e=>by cases e|p::aO,d'::ds,k,d,.cons h t,e=>by rw[Po,xh] at e;by_cases c:p.1=k;rw[Ge c] at e;cases e;exact⟨p.2,wB c,h⟩;rw[UE c] at e;obtain⟨v,h1,h2⟩:=tT t e;exact⟨v,(rg c).trans h1,h2⟩
theorem C7:∀{aO:List (Key×V)}{ds:RN}{k:Key},aI K mg F (aO.map (·.2)) ds->xh (aO.map (·.1)) ds k=none->kT aO k=none|[],_,_,_,_=>rfl|p::aO,d'::ds,k,.cons h t,e=>by rw[Po,xh] at e;by_cases c:p.1=k;rw[Ge c] at e;cases e;rw[UE c] at e;exact(rg c).trans (C7 t e)
theorem C8{aO:List (Key×V)}{ds:RN}{k:Key}(h:aI K mg F (aO.map (·.2)) ds):(kT aO k).isSome=(xh (aO.map (·.1)) ds k).isSome:=by cases e:xh (aO.map (·.1)) ds k with|none=>rw[C7 h e];rfl|some d=>obtain⟨v,h1,_⟩:=tT h e;rw[h1];rfl
theorem E4{aO:List (Key×V)}{p:Key×V}{k:Key}{v:V}(hn:¬k∈aO.map (·.1))(e:p.1=k):putK (p::aO) k v=(p.1,v)::aO:=by unfold putK;rw[Ge (by simp[e])];simp only[List.map_cons,if_pos e];congr 1;refine(List.map_congr_left fun q hq=>?_).trans (List.map_id aO);exact UE fun(z:q.1=k)=>hn (by rw[<-z];exact Jv hq)
theorem Q1F{aO:List (Key×V)}{p:Key×V}{k:Key}{v:V}(e:¬p.1=k):putK (p::aO) k v=p::putK aO k v:=by unfold putK;simp only[List.any_cons,Vy e,Bool.false_or];split;simp[e];rfl
theorem yU(hx:Den K mg F v x):∀{aO:List (Key×V)}{ds:RN},(aO.map (·.1)).Nodup->aI K mg F (aO.map (·.2)) ds->(putK aO k v).map (·.1)=(xi k x (aO.map (·.1)) ds).1/\aI K mg F ((putK aO k v).map (·.2)) (xi k x (aO.map (·.1)) ds).2|[],_,_,.nil=>⟨rfl,.cons hx .nil⟩|p::aO,d::ds,hn,.cons h t=>by have DK:=List.nodup_cons.mp hn;rw[Po,xi];by_cases c:p.1=k;rw[Ge c,E4 (c ▸ DK.1) c];exact⟨rfl,.cons hx t⟩;rw[UE c,Q1F c];obtain⟨h1,h2⟩:=yU hx DK.2 t;exact⟨by rw[Po,h1],.cons h h2⟩
end
section
variable{X:Cx}{UW:P4}{σ:St}{H:Hp}{s:Shared}{a:Addr}{aO:List (Key×V)}{ep:Nat}{k:Key}{v:V}{u r:Value}{A:Around}{E:UI}
theorem jA(I:Inv X UW σ H s)(e:H a=some (.dK aO ep)):aO.length<=sizeLine/\(a == sysModules)=false/\∃vs,KV aO vs/\s.heap.DictAt (fU X.prog X.w) a vs ep:=show dw X.prog X.w H s.heap a (.dK aO ep) from I.cg a _ e
theorem C6(I:Inv X UW σ H s)(e:H a=some (.dK aO ep)):(aO.map (·.1)).Nodup:=by obtain⟨_,_,vs,r,d⟩:=jA I e;have:=d.nodup;rwa [<-KV.keys r] at this
theorem GK(I:Inv X UW σ H s)(e:H a=some (.dK aO ep)):s.TypeIs (.ref a) "dict" /\ (∀b,Value.ref a=.ref b->∃ob,s.heap.get? b=some ob/\ob.dict=none):=by obtain⟨_,_,vs,_,d⟩:=jA I e;refine⟨d.dictOf.typeIs,fun b q=>?_⟩;cases q;obtain⟨ob,_,h1,h2,_⟩:=d;exact⟨ob,h1,h2.2.1⟩
end
section
variable{X:Cx}{EX:XE}{e a b c:Expr}{fa fb fc:M D}{pos:Pos}{ta tb tc:TE}
theorem EM(ha:PE X a ta)(hb:PE X b tb)(hs:KZ b):PE X (.Subscript a b pos) (fun σ H Q=>ta σ H fun x H1=>tb σ H1 fun y H2=>∃p aO ep k v,x=.ref p/\H2 p=some (.dK aO ep)/\y=kV k/\kT aO k=some v/\Q v H2):=by intro UW s σ H Q I h;refine Ji PySem.F.slot_dict_getitem.lookup hs (bS (ha UW s σ H _ I h) fun u s1 ⟨x,H1,I1,rx,q1⟩=>bS (hb UW s1 σ H1 _ I1 q1) fun iv s2 zz=>?_);obtain⟨y,H2,I2,ry,p,aO,ep,k,v,ex,eh,ey,l,q2⟩:=zz;subst ex ey;obtain rfl:u=Value.ref p:=rx;refine⟨(GK I2 eh).1,?_⟩;obtain⟨z,hd,vs,rel,dd⟩:=jA I2 eh;obtain⟨w',hw,S7⟩:=kO.some_of (v:=v) (o:=valueAt vs k) (by rw[<-l];exact rel.val k);exact wpAny_getItem_of (zN ry) dd.dictOf.mapOf hw ⟨v,H2,I2.tok _,S7,q2⟩
theorem pj(ha:PV X EX a fa)(hb:PV X EX b fb)(hs:KZ b:=by exact OM):PV X EX (.Subscript a b pos) (m2 AJ fa fb):=L2.PE.le (EM ha hb hs) fun σ H Q bx=>dm bx fun G F F1 H1 bo d1 x s1 g1 r1 o1=>aW g1 o1 (fun x r q=>q.same s1) fun F2 H2 mQ d2 y s2 g2 r2 o2=>by
 obtain⟨d,e,q⟩:=o2.opt;cases r1 with
 |gK h r=>cases r2 with|int k=>obtain⟨v,h1,h2⟩:=tT (r.same s2) e;exact⟨_,_,_,.inl k,v,rfl,g2.sub _ _ (s2 _ _ h),rfl,h1,q F2 H2 v (s1.trans s2) g2 h2⟩|_=>cases e
 |_=>cases e
theorem Q0k{neg:Bool}(ha:PE X a ta)(hb:PE X b tb):PC X (if neg then .NotIn else .In) a b (fun σ H Q=>ta σ H fun y H1=>tb σ H1 fun x H2=>∃p aO ep k,x=.ref p/\H2 p=some (.dK aO ep)/\y=kV k/\Q (.bl (if neg then !(kT aO k).isSome else(kT aO k).isSome)) H2):=by intro UW s σ H Q I h;refine bS (ha UW s σ H _ I h) fun iv s1 ⟨y,H1,I1,ry,q1⟩=>bS (hb UW s1 σ H1 _ I1 q1) fun u s2 zz=>?_;obtain⟨x,H2,I2,rx,p,aO,ep,k,ex,eh,ey,q2⟩:=zz;subst ex ey;obtain rfl:u=Value.ref p:=rx;obtain⟨z,hd,vs,rel,dd⟩:=jA I2 eh;cases neg with|false=>refine wpAny_in_of (zN ry) hd dd.dictOf.mapOf ?_;rw[<-(rel.val k).isSome_eq];exact⟨.bl (kT aO k).isSome,H2,I2.tok _,rfl,q2⟩|true=>refine wpAny_notIn_of (zN ry) hd dd.dictOf.mapOf ?_;rw[<-(rel.val k).isSome_eq];exact⟨.bl (!(kT aO k).isSome),H2,I2.tok _,rfl,q2⟩
theorem Rz(σ:St)(H:Hp)(Q:VK)(h:lift (lc X EX) (RV (lc X EX)) (m2 (C4 neg) fa fb) σ H Q):lift (lc X EX) (RV (lc X EX)) fa σ H fun y H1=>lift (lc X EX) (RV (lc X EX)) fb σ H1 fun x H2=>∃p aO ep k,x=.ref p/\H2 p=some (.dK aO ep)/\y=kV k/\Q (.bl (if neg then !(kT aO k).isSome else(kT aO k).isSome)) H2:=by
 obtain⟨G,F,ρ,g0,o⟩:=h;refine aW g0 o (fun x r q=>q) fun F1 H1 bo d1 x s1 g1 r1 o1=>aW g1 o1 (fun x r q=>q.same s1) fun F2 H2 mQ d2 y s2 g2 r2 o2=>?_;obtain⟨d,e,q⟩:=o2.opt;cases r1 with
  |int k=>cases r2 with|gK h r=>cases e;refine⟨_,_,_,.inl k,rfl,g2.sub _ _ h,rfl,q F2 H2 _ (s1.trans s2) g2 ?_⟩;rw[C8 r];exact .bl _|_=>cases e
  |_=>cases e
theorem HZ(ha:PV X EX a fa)(hb:PV X EX b fb)(hm:behindInMarks .NotIn b=false:=by rfl):PB X EX (.Compare a [.NotIn] [b] pos) (tB (m2 (C4 true) fa fb)):=Fy (Om (Q0k (neg:=true) ha hb) hm) (fun _ _ _ h=>h) Rz
theorem z8:PF X EX (.Dict [] [] pos) (mC (.gK [] [])):=fun UW s σ H Q I zz=>by obtain⟨G,F,ρ,g,o⟩:=zz;have hp:=I.cg.fresh (Uj s.heap.objs.size);have dd:(s.heap.push {cls:=.type "dict",data:=.dict #[]}).DictAt (fU X.prog X.w) s.heap.objs.size [] 0:=⟨_,_,PQ _ rfl,⟨rfl,rfl,rfl⟩,rfl,fun _ h=>(by simp at h),.nil,G9⟩;have ob:dw X.prog X.w H (s.heap.push {cls:=.type "dict",data:=.dict #[]}) s.heap.objs.size (.dK [] 0):=⟨IA _,beq_eq_false_iff_ne.mpr (W5 (Vz I.big)),[],.nil,dd⟩;exact wpAny_Dict_empty ⟨.ref s.heap.objs.size,_,I.laid (a:=s.heap.objs.size) (o:=.dK [] 0) (t':=s.toks) (fun _ _ q=>WL _ q) (Uj _) ob,rfl,o F _ _ (aL.refl _) (g.made hp) ⟨_,rfl,g.loose hp ⟨[],0,aJ,rfl,.nil⟩⟩⟩
end
def Vb(a:Addr)(aO:List (Key×V))(ep:Nat):It:=⟨fun i H=>H a=some (.dK aO ep)/\i<aO.length,fun i H x H'=>H'=H/\∃p,aO[i]?=some p/\x=kV p.1,fun i H=>H a=some (.dK aO ep)/\i=aO.length⟩
theorem Q0T(h:(fU P w).is k u=true):RelV (kV k) u:=by
 rcases bX (k:=k) (v:=u) h with ⟨i,t,rfl,rfl⟩|⟨x,t,rfl,rfl⟩
 exact⟨t,rfl⟩;exact⟨t,rfl⟩
theorem Q2h{P:Program}{w:World}{K:Frag}{tg:Expr}(a it:Addr)(aO:List (Key×V))(ep:Nat):Turn P w K tg (Vb a aO ep) [it] it (fun i h=>h.IsKeyIter it a i aO.length ep) where
 mem:=G9
 obj:=fun i h st b hb=>by
  have e:b=it:=by simpa using hb
  subst e;obtain⟨o,e,c,d⟩:=st;exact⟨o,e,fun v z=>by rw[d] at z;cases z⟩
 keep:=fun i h h' st k=>st.at fun o e=>k it G9 o e
 item:=by
  intro X hP hw hK hc i UW s σ H E I hf st hg;subst hP hw hK;obtain⟨eh,hi⟩:=hg;obtain⟨z,hd,vs,rel,dd⟩:=jA I eh;have hl:aO.length=vs.length:=Lb rel;obtain⟨f0,f1,f2,f3,f4,f5⟩:=hf it G9;obtain⟨⟨k,x⟩,hx⟩:∃p,vs[i]?=some p:=⟨_,QR T9⟩;have hk:aO[i]?=some aO[i]:=QR hi;have ZE:aO[i].1=k:=by have h1:=congrArg (fun l=>l[i]?) (KV.keys rel);simp only[List.getElem?_map,hk,hx,Option.map_some] at h1;exact RD h1
  rw[hl] at st;refine wpAny_pyNext_dict_item st dd hx fun key h' L0 oQ sb=>?_;have I1:Inv X UW σ H {s with heap:=h'}:=I.turned (t':=s.toks) (fun b o hb e=>(sb.2 b hb).trans e) f0 f1 f3 f4 f5;obtain⟨o,e,c,d⟩:=id oQ;rw[<-hl] at oQ;exact⟨key,rfl,sM (s:={s with heap:=h'}) e c d (by decide) ⟨kV k,H,I1,Q0T L0,⟨rfl,_,hk,by rw[ZE]⟩,oQ,fun b hb=>(hf b hb).1⟩⟩
 done:=by intro X hP hw hK hc i UW s σ H E I hf st hg;subst hP hw hK;obtain⟨eh,hi⟩:=hg;obtain⟨z,hd,vs,rel,dd⟩:=jA I eh;have hl:aO.length=vs.length:=Lb rel;obtain⟨f0,f1,f2,f3,f4,f5⟩:=hf it G9;rw[hl] at st hi;exact wpAny_pyNext_dict_end (I.ok.hd hc) st dd (by simp[hi]) fun h' eb=>⟨rfl,I.turned (t':=s.toks) (fun b o hb e=>eb b o hb e) f0 f1 f3 f4 f5⟩
 self:=fun _ _ _ _ _ st h=>wpAny_pyIter_keyiter st h
section
variable{X:Cx}{EX:XE}{L:Lc}{e a b c tg:Expr}{fa fb fe:M D}{pos:Pos}
theorem Q26{l:Expr}{tl:TE}(hl:PE X l tl):PI X tg l (fun σ H R=>tl σ H fun x H1=>∃a aO ep,x=.ref a/\H1 a=some (.dK aO ep)/\R (Vb a aO ep) H1):=by
 intro UW s σ H R I h;refine bS (hl UW s σ H _ I h) fun v s1 zz=>?_;obtain⟨x,H1,I1,r1,a,aO,ep,e,eh,q⟩:=zz;subst e;cases r1;obtain⟨z,hd,vs,rel,dd⟩:=jA I1 eh;have hl:aO.length=vs.length:=Lb rel;refine wpAny_pyIter_dict hd dd ?_;refine⟨s1.heap.objs.size,[s1.heap.objs.size],_,_,H1,rfl,I1.kept (t':=s1.toks) fun b o e=>WL _ e,Q2h a _ aO ep,⟨_,PQ _ rfl,rfl,by rw[hl];rfl⟩,fun b hb=>?_,q⟩;have e:b=s1.heap.objs.size:=by simpa using hb
 subst e;exact I1.p8 (Uj _) (I1.cg.fresh (Uj _))
theorem Q1b{K:Frag}{mg:MG}{F:Hp}(k:Key):Den K mg F (kV k) (D5 k):=by cases k with|inl i=>exact .int i|inr x=>exact .str x
theorem Q24{G:Fx}{F:Hp}{a:Addr}{aO:List (Key×V)}{ep:Nat}(h:F a=some (.dK aO ep)):FQ L G F (Vb a aO ep) ((aO.map (·.1)).map D5):=fun σ i F' H' ρ s g=>by have h':=g.sub _ _ (s _ _ h);refine⟨fun hi=>⟨h',by simpa using hi⟩,fun hi=>⟨h',by simpa using hi⟩,fun x FP zz=>?_⟩;obtain⟨e,p,hp,hx⟩:=zz;subst e;refine⟨F',aL.refl _,g,fun d hd=>?_⟩;rw[GF,GF,hp] at hd;have:D5 p.1=d:=RD hd;subst this;rw[hx];exact Q1b p.1
theorem Jx(h:PV X EX e fe):uT X EX tg e (vP fe):=L2.PI.le (Q26 h) fun σ H Q bx=>dm bx fun G F F1 H1 bo d1 y s1 g1 r1 o1=>by obtain⟨ds,e,q⟩:=o1.opt;cases r1 with|gK h r=>cases e;exact⟨_,_,_,rfl,g1.sub _ _ h,q F1 H1 _ s1 g1 (Q24 h)⟩|_=>cases e
end
section
variable{X:Cx}{EX:XE}{L:Lc}{e a b c value:Expr}{fa fb fe fk fv:M D}{pos:Pos}{x:Str}{to ti tv:TE}
theorem EY(ho:PE X o to)(hi:PE X i ti)(hv:PE X value tv)(hs:swapsWith value (some (.Subscript o i Wu)) pos.line X.env=pure false) : PS X (.Assign [.Subscript o i Wu] value pos) (fun D σ H=>tv σ H fun v H1=>to σ H1 fun x H2=>ti σ H2 fun y H3=>∃a aO ep k,x=.ref a/\H3 a=some (.dK aO ep)/\y=kV k/\aO.length<sizeLine/\((aO.map (·.1)).Nodup->∀pS,D.nx σ (upd H3 a (.dK (putK aO k v) pS)))):=by
 intro UW s σ H D I h;refine wpAny_Assign_Subscript (bS (hv UW s σ H _ I h) fun r s1 ⟨v,H1,I1,rv,q1⟩=>bS (ho UW s1 σ H1 _ I1 q1) fun u s2 ⟨x,H2,I2,rx,q2⟩=>bS (hi UW s2 σ H2 _ I2 q2) fun iv s3 zz=>?_) hs;obtain⟨y,H3,I3,ry,a,aO,ep,k,ex,eh,ey,hl,q3⟩:=zz;subst ex ey;obtain rfl:u=Value.ref a:=rx;obtain⟨z,hd,vs,rel,dd⟩:=jA I3 eh;have hz:vs.length<=sizeLine:=by rw[<-rel.length];exact z
 have hl:(putK aO k v).length<=sizeLine:=by have:=vN aO k v;lia
 refine wpAny_setItem_pairs (hsz:=hz) (zN ry) dd.dictOf fun h' Vs hs=>?_;obtain⟨pS,da⟩:=Vs.dictAt;have he:∃q,h'.get? a=some q:=let ⟨q,_,hq,_⟩:=da;⟨q,hq⟩;refine⟨σ,_,I3.write (x:=a) (e:=a) (by rw[eh];exact True.intro) (.inl rfl) (fun b q hb z=>(hs.2 b hb).trans z) he (o:=.dK (putK aO k v) pS) ⟨hl,hd,_,rel.put k rv,da⟩,q3 (C6 I3 eh) pS⟩
theorem Bq{G:Fx}{F H:Hp}{σ:St}{ρ:aR}{k:Nat}{kd x:D}{v:V}{P:Unit->aR->Prop}{E:Xn->aR->Prop}(g:L.Good G F H σ ρ)(r:Den L.K L.mg F v x)(o:Out (gg k (putD kd x) ρ) P E) : ∃l aO ep i bP,kd=.int i/\σ[k]?=some (some (V.ref l))/\H l=some (.dK aO ep)/\aO.length<sizeLine/\((aO.map (·.1)).Nodup->∀pS,L.Good G F (upd H l (.dK (putK aO (.inl i) v) pS)) σ bP)/\P () bP:=by
 unfold gg at o;cases q:own ρ[k]? with
 |none=>rw[q] at o;exact o.elim|some d=>
  rw[q] at o;dsimp only at o;cases q2:putD kd x d with
  |none=>rw[q2] at o;exact o.elim|some d'=>
   rw[q2] at o;have o':P () (cE k d' ρ):=o;cases d with
   |gK ks vs=>
    cases kd with
    |int i=>
     simp only[putD] at q2;split at q2;rename_i lP;cases q2;cases q3:ρ[k]? with
     |none=>rw[q3] at q;cases q|some s=>
      rw[q3] at q;have sl:=g.slot k s q3;have fin:∀l s',σ[k]?=some (some (V.ref l))->cq s=true->dU L.K L.mg F H l (.gK ks vs)->((∃e,s=.ow e/\s'=.ow (.gK (xi (.inl i) x ks vs).1 (xi (.inl i) x ks vs).2))\/(∃e,s=.io e/\s'=.io (.gK (xi (.inl i) x ks vs).1 (xi (.inl i) x ks vs).2)))->cE k (.gK (xi (.inl i) x ks vs).1 (xi (.inl i) x ks vs).2) ρ=ρ.set k s'->∃l aO ep i' bP,D.int i=.int i'/\σ[k]?=some (some (V.ref l))/\H l=some (.dK aO ep)/\aO.length<sizeLine/\((aO.map (·.1)).Nodup->∀pS,L.Good G F (upd H l (.dK (putK aO (.inl i') v) pS)) σ bP)/\P () bP:=fun l s' z1 z2 z3 z4 z5=>by
       obtain⟨aO,ep,y1,y2,y3⟩:=z3;refine⟨l,aO,ep,i,ρ.set k s',rfl,z1,y1,?_,fun hn pS=>?_,by rw[<-z5];exact o'⟩;have:aO.length=ks.length:=by rw[<-y2];simp
       exact AN T9 (show 1000<sizeLine by decide);subst y2;obtain⟨h1,h2⟩:=yU r (k:=.inl i) hn y3;exact Good.write g q3 z2 z1 z4 ⟨_,pS,aJ,h1,h2⟩
      cases s with|no=>cases q|sh e=>cases q|ow e=>cases q;obtain⟨l,z1,z2,z3,z4⟩:=sl;exact fin l _ (join_some z1) rfl z4 (.inl ⟨_,rfl,rfl⟩) (by unfold cE;rw[q3])|io e=>cases q;obtain⟨l,z1,z2,z3,z4⟩:=sl;exact fin l _ (join_some z1) rfl z4 (.inr ⟨_,rfl,rfl⟩) (by unfold cE;rw[q3])
     cases q2
    |_=>cases q2
   |_=>cases q2
theorem Ap(i:Nat){p1 p2:Pos}(hk:PV X EX b fk)(hv:PV X EX value fv)(hN:X.N[i]?=some x:=by rfl)(Ma:uZ X.env.scope x:=by exact Oi)(hd:Yw x:=by decide)(jC:Xj x:=by decide) (hs:swapsWith value (some (.Subscript (.Name x p1) b p2)) pos.line X.env=pure false:=by rfl):nW X EX (.Assign [.Subscript (.Name x p1) b p2] value pos) (Aj i fk fv):=
 L2.PS.le (EY (fO hN Ma hd jC) hk hv hs) fun E σ H bx=>xK bx fun G F ρ g0 o=>aW g0 o (fun x r q=>q.x) fun F1 H1 bo d1 v s1 g1 r1 o1=>by by_cases hl:(own bo[i]?).isSome=true;rw[Ge hl] at o1;obtain⟨l,d0,z1,_,_⟩:=gY (L:=lc X EX) g1 hl;refine⟨_,z1,aW g1 o1 (fun x r q=>(q.same s1).x) fun F2 H2 mQ d2 y s2 g2 r2 o2=>?_⟩;obtain⟨l',aO,ep,k,bP,y0,y1,y2,y3,g3,q⟩:=Bq (L:=lc X EX) g2 (r1.same s2) (Out.PN o2);rw[z1] at y1;cases y1;subst y0;obtain rfl:=Den.i r2;exact⟨l,aO,ep,.inl k,rfl,y2,rfl,y3,fun hn pS=>q F2 _ σ (s1.trans s2) (g3 hn pS)⟩;rw[UE hl] at o1;exact o1.elim
theorem xb:dF X (.type "dict") (fun xs H Q=>∃a aO ep,xs=[V.ref a]/\H a=some (.dK aO ep)/\∀p pS,H p=none->Q (.ref p) (upd H p (.dK aO pS))):=by intro UW s σ H xs us Q I rs h;obtain⟨a,aO,ep,rfl,e,q⟩:=h;obtain⟨u,rfl,ru⟩:=vals1 rs;cases ru;obtain⟨z,hd,vs,rel,dd⟩:=jA I e;refine kt_call_dict hd dd.dictOf (by rw[<-rel.length];exact z) fun h' Vs hs=>?_;obtain⟨pS,da⟩:=Vs.dictAt;refine⟨.ref s.heap.objs.size,_,I.laid (a:=s.heap.objs.size) (o:=.dK aO pS) (t':=s.toks) (fun b q hq=>?_) (Uj _) ⟨z,beq_eq_false_iff_ne.mpr (W5 (Vz I.big)),vs,rel,da⟩,rfl,q _ pS (I.cg.fresh (Uj _))⟩;exact(hs.2 b (Vz (UG hq))).trans (WL _ hq)
theorem Ij{x:Str}{p:Pos}(sN:Gl X x)(hm:X.mg x=none)(hv:bootBuiltins x=some (.type "dict"))(ha:PV X EX a fa)(hn:x≠"__name__" := by decide)(jH:Yw x:=by decide)(hs:Ys X a []:=by rfl):PF X EX (.Call (.Name x p) [a] [] pos) (m1 C5 fa):=
 L2.PE.le (kH xb sN hm hv (nM (PV.rd ha) hs) hn jH hs rfl) fun σ H Q bx=>dm bx fun G F F1 H1 bo d1 x s1 g1 r1 o1=>by
  obtain⟨d,e,q⟩:=o1.opt;have z:∃l aO ep ds,x=.ref l/\d1=.gK (aO.map (·.1)) ds/\H1 l=some (.dK aO ep)/\aI X.K X.mg F1 (aO.map (·.2)) ds:=by
   rcases r1 with r1|⟨l,rfl,ob⟩;cases r1 with|gK h r=>exact⟨_,_,_,_,rfl,rfl,g1.sub _ _ h,r⟩|_=>cases e
   cases d1 with|gK ks ds=>obtain⟨aO,ep,h1,rfl,h3⟩:=ob;exact⟨l,aO,ep,ds,rfl,rfl,h1,h3⟩|_=>cases e
  obtain⟨l,aO,ep,ds,rfl,rfl,h1,h2⟩:=z;cases e;exact⟨l,aO,ep,rfl,h1,fun p pS hl=>q _ _ _ s1 (g1.made hl) ⟨p,rfl,g1.loose hl ⟨aO,pS,aJ,rfl,h2⟩⟩⟩
theorem IF{x:Str}{p:Pos}(sN:Gl X x)(hm:X.mg x=none)(hv:bootBuiltins x=some (.type "dict"))(ha:PV X EX a fa)(hn:x≠"__name__" := by decide)(jH:Yw x:=by decide)(hs:Ys X a []:=by rfl):PV X EX (.Call (.Name x p) [a] [] pos) (m1 C5 fa):=PF.pv (Ij sN hm hv ha hn jH hs)
theorem boot_dict:bootBuiltins "dict" = some (.type "dict"):=by kernel_rfl
end
section
variable{X:Cx}{EX:XE}{L:Lc}{e a b c:Expr}{fa fb:M D}{pos:Pos}
abbrev T8(v a:Addr):HO:=.ext fun h=>h.IsValuesView v a
theorem Be:Vg X "dict.values" (fun x xs H Q=>∃a aO ep,x=.ref a/\xs=[]/\H a=some (.dK aO ep)/\∀v,H v=none->Q (.ref v) (upd H v (T8 v a))):=by intro UW s σ H x xs v us Q I rx rs h;obtain⟨a,aO,ep,rfl,rfl,e,q⟩:=h;cases rx;have Wh:=rs.zero;subst Wh;obtain⟨z,hd,vs,rel,dd⟩:=jA I e;refine call_meetsIn PySem.F.slot_dict_values dd.dictOf.typeIs PySem.F.entry_dict_values (PySem.F.args_dict_values_1 _) (meets_dict_values (fU X.prog X.w) a hd) ⟨⟨_,dd.dictOf⟩,?_⟩;have vw:(s.heap.push {cls:=.type "dict_values",data:=.fields #[.ref a]}).IsValuesView s.heap.objs.size a:=⟨_,PQ _ rfl,rfl,rfl⟩;exact⟨.ref s.heap.objs.size,_,I.laid (a:=s.heap.objs.size) (o:=T8 s.heap.objs.size a) (t':=s.toks) (fun _ _ q=>WL _ q) (Uj _) ⟨vw,⟨_,PQ _ rfl⟩,fun h1 h2 ⟨o,ho,r⟩ k=>⟨o,k _ ho,r⟩⟩,rfl,q _ (I.cg.fresh (Uj _))⟩
theorem sW{α β:Type}{F:α->β->Prop}:∀{Ee:List α}{Ef:List β}{j:Nat}{p:α}{q:β},Paired F Ee Ef->Ee[j]?=some p->Ef[j]?=some q->F p q|_,_,0,_,_,.cons h _,e1,e2=>by simp at e1 e2;subst e1 e2;exact h|_,_,j+1,_,_,.cons _ t,e1,e2=>sW (j:=j) t (by simpa using e1) (by simpa using e2)|_,_,j,_,_,.nil,e1,_=>by simp at e1
theorem AF(hc:X.calm=true):dF X (.builtin "max") (fun xs H Q=>∃v a aO ep i is,xs=[V.ref v]/\H v=some (T8 v a)/\H a=some (.dK aO ep)/\aO.map (·.2)=(i::is).map V.int/\Q (.int (is.foldl mx i)) H):=by
 intro UW s σ H xs us Q I rs h;obtain⟨v,a,aO,ep,i,is,rfl,ev,ea,hk,q⟩:=h;obtain⟨u,rfl,ru⟩:=vals1 rs;cases ru;obtain⟨vw,_,_⟩:=(show dw X.prog X.w H s.heap v (T8 v a) from I.cg v _ ev);obtain⟨z,hd,vs,rel,dd⟩:=jA I ea;have hl:aO.length=vs.length:=Lb rel;have Kh:aO.length=is.length+1:=by have:=congrArg List.length hk;simpa using this
 have lt:a<s.heap.objs.size:=dd.lt_size;have vals:∀j w,(∃k,vs[j]?=some (k,w))->∃t,w=Value.int ((i::is).getD j 0) t:=fun j w ⟨k,hj⟩=>by
  have V2:=(List.getElem?_eq_some_iff.mp hj).1;obtain⟨p,hp⟩:∃p,aO[j]?=some p:=⟨_,QR T9⟩;have hr:=sW rel hp hj;have e2:=congrArg (fun l=>l[j]?) hk;simp only[List.getElem?_map,hp,Option.map_some] at e2;have e3:p.2=V.int ((i::is).getD j 0):=by
   have Yb:j<(i::is).length:=by simp;lia
   rw[QR Yb] at e2;have:=RD e2;rw[this];simp[SE,QR Yb]
  have Rk:=hr.2;rw[e3] at Rk;exact Rk
 refine call_max_walk (wpAny_pyIter_values vw dd ?_);refine⟨s.heap.objs.size,_,_,_,_,_,_,rfl,Walks.dictValues (A:=X.A.in1) (knd:=fU X.prog X.w) (I.ok.hd hc) s.heap.objs.size a (Vz lt) vs ep,⟨⟨_,PQ _ rfl,rfl,rfl⟩,dd.push _⟩,fun b hb=>?_,T9,CmpOf.ints_gt (fun j=>(i::is).getD j 0) vals,fun w h' tk hw kp=>?_⟩;rw[MT];simp at hb;rcases hb with rfl|rfl;exact FJ _;exact AI lt;obtain⟨t,e⟩:=vals _ _ hw;refine⟨.int (is.foldl mx i),H,I.kept fun b o e=>kp b o (fun hm=>?_) (WL _ e),⟨t,?_⟩,q⟩;have:=UG e;have zb:b=s.heap.objs.size:=by simpa using hm
 rw[zb] at this;exact nJ _ this;rw[e,<-va i is,show vs.length-1=(i::is).length-1 by simp;lia]
theorem II{p ap cp:Pos}(hc:X.calm=true)(sN:Gl X "max")(hm:X.mg "max" = none)(hv:bootBuiltins "max" = some (.builtin "max"))(ha:PV X EX a fa)
  (hb:attributeBase a "values" X.env (eval a X.env)=eval a X.env:=by rfl) (vG:(ap.endLine == cp.line)=true:=by rfl)
  (hs:starEach [.Call (.Attribute a "values" ap) [] [] cp] X.env=(false,eval (.Call (.Attribute a "values" ap) [] [] cp) X.env)::starEach [] X.env:=by rfl) :
  PV X EX (.Call (.Name "max" p) [.Call (.Attribute a "values" ap) [] [] cp] [] pos) (m1 oA fa):=
 L2.PE.le (iT (AF hc) sN hm hv (cb (EK PySem.F.plainAttrs_dict PySem.F.slot_dict_values PySem.F.type_dict_values Be ha hb vG) fN hs) (by decide) (by decide) hs rfl) fun σ H Q bx=>dm bx fun G F F1 H1 bo d1 x s1 g1 r1 o1=>by obtain⟨d,e,q⟩:=o1.opt;cases r1 with|@gK p0 aO ep ds h r=>simp only[oA] at e;split at e;rename_i i is hi;cases e;have ev:=ints_of r hi;have h1:=g1.sub _ _ h;refine⟨.inr (.inr (.inl ⟨rfl,.inl ⟨_,_,h1⟩⟩)),p0,aO,ep,rfl,rfl,h1,fun v hv=>⟨v,p0,aO,ep,i,is,rfl,aJ,?_,ev,q F1 _ _ s1 (g1.made hv) (.int _)⟩⟩;rw[aQ (bz h1 hv)];exact h1;cases e|_=>cases e
end
section
variable{X:Cx}{EX:XE}{L:Lc}{e a b:Expr}{fa fb fe:M D}{pos p:Pos}{c1 c2:Str}
structure Qd(K:Frag)(mg:MG)(c1 c2:Str)(subs:HE):Prop where
 sp:W.specialIn K (.builtin "object.__class__") "__get__" = some (some (.builtin "getset_descriptor.__get__"))
 tk:W.takesIn K (.builtin "object.__class__")=some true
 ex:∃C1 C2,mg c1=some (.ref C1)/\mg c2=some (.ref C2)/\∀p∈subs,∃D,mg p.1=some (.ref D)/\Ar K D/\W.kitAny K (.ref D) [.ref C1,.ref C2]=some p.2
theorem AD(sp:W.specialIn X.K (.builtin "object.__class__") "__get__" = some (some (.builtin "getset_descriptor.__get__")))(tk:W.takesIn X.K (.builtin "object.__class__")=some true) : dF X (.builtin "isinstance") (fun xs H Q=>∃q t D dx fs b,xs=[.ref q,.ref t]/\H q=some (.ins D dx fs)/\H t=some (.tup [.ref C1,.ref C2])/\Ar X.K D/\W.kitAny X.K (.ref D) [.ref C1,.ref C2]=some b/\Q (.bl b) H):=by
 intro UW s σ H xs us Q I r h;obtain⟨q,t,D,dx,fs,b,rfl,hq,ht,f,hb,k⟩:=h;obtain⟨u,v,rfl,ru,rv⟩:=vals2 r;cases ru;cases rv;obtain⟨h1,h2,h3,h4,mA,h5,h6⟩:=(show dw X.prog X.w H s.heap q (.ins D dx fs) from I.cg q _ hq);obtain⟨od,V9⟩:=(show ∃o,s.heap.get? dx=some o from I.cg dx _ h1);obtain⟨_,aD,rv,⟨o,ho,hc,⟨n,Uq⟩,VX⟩⟩:=(show dw X.prog X.w H s.heap t (.tup [.ref C1,.ref C2]) from I.cg t _ ht);obtain⟨u1,u2,rfl,r1,r2⟩:=vals2 rv;cases r1;cases r2;have eo:o=⟨.type "tuple",o.dict,.seq [Value.ref C1,.ref C2].toArray n,o.slots⟩:=by rw[<-hc,<-Uq]
 rw[eo] at ho;exact W.kia_tup (W.kitx_own f.pg f.hd f.fi sp tk f.mr) I.mP ⟨h4,rfl,rfl,V9⟩ ho hb (fun z=>nomatch z) fun tk=>⟨.bl b,H,I.tok tk,rfl,k⟩
theorem IH{subs:HE}{p1 p2 p3:Pos}{x1}(T:Qd X.K X.mg c1 c2 subs)(hg:Gl X "isinstance")(hm:X.mg "isinstance" = none)(ha:PR X EX a fa)(Zu:Gl X c1:=by rfl)(Zv:Gl X c2:=by rfl)(LX:Yw c1:=by decide)(hd2:Yw c2:=by decide)
  (hs:starEach [a,.Tuple [.Name c1 p1,.Name c2 p2] x1 p3] X.env=(false,eval a X.env)::starEach [.Tuple [.Name c1 p1,.Name c2 p2] x1 p3] X.env:=by rfl)
  (jW:starEach [.Tuple [.Name c1 p1,.Name c2 p2] x1 p3] X.env=(false,eval (.Tuple [.Name c1 p1,.Name c2 p2] x1 p3) X.env)::starEach [] X.env:=by rfl)
  (ZL:starEach [.Name c1 p1,.Name c2 p2] X.env=(false,eval (.Name c1 p1) X.env)::starEach [.Name c2 p2] X.env:=by rfl) (ZM:starEach [.Name c2 p2] X.env=(false,eval (.Name c2 p2) X.env)::starEach [] X.env:=by rfl)
  (iP:(backTo pos (starEach [.Tuple [.Name c1 p1,.Name c2 p2] x1 p3] X.env)).any (·.1)=false:=by rfl) :
  PV X EX (.Call (.Name "isinstance" p) [a,.Tuple [.Name c1 p1,.Name c2 p2] x1 p3] [] pos) (m1 (bK subs) fa):=by
 obtain⟨C1,C2,Zd,Ze,G2⟩:=T.ex;exact L2.PE.le (iT (AD (C1:=C1) (C2:=C2) T.sp T.tk) hg hm boot_isinstance (cb ha (cb (ES (cb (kI (v:=.ref C1) Zu Zd rfl LX) (cb (kI (v:=.ref C2) Zv Ze rfl hd2) fN ZM) ZL)) fN jW) hs) (by decide) (by decide) hs iP) fun σ H Q bx=>dm bx fun G F F1 H1 bo d1 x s1 g1 r1 o1=>by
  obtain⟨d,e,q⟩:=o1.opt;refine⟨show (2:Nat)<=sizeLine by decide,fun t ht=>?_⟩;cases d1 with
  |ins c' ns vs=>
   simp only[bK] at e;cases e1:subs.lookup c' with
   |none=>rw[e1] at e;cases e|some b=>
    rw[e1] at e;cases e;obtain⟨D,hD,f,hb⟩:=G2 (c',b) (AG e1);rcases r1 with r1|⟨l,rfl,D',dx,fs,z1,z2,z3,z4⟩;cases r1 with|ins h hc r=>rw[show (lc X EX).mg c'=some (.ref D) from hD] at hc;cases hc;have h1:=g1.sub _ _ h;exact⟨_,t,D,_,_,b,rfl,by rw[aQ (bz h1 ht)];exact h1,aJ,f,hb,q F1 _ _ s1 (g1.made ht) (.bl _)⟩
    rw[show (lc X EX).mg c'=some (.ref D) from hD] at z2;cases z2;exact⟨_,t,D,_,_,b,rfl,by rw[aQ (bz z1 ht)];exact z1,aJ,f,hb,q F1 _ _ s1 (g1.made ht) (.bl _)⟩
  |_=>cases e
end
structure P7(K:Frag)(mg:MG)(c m:Str)(C f:Addr):Prop where
 mg:mg c=some (.ref C)
 sp:W.specialIn K (.ref C) "__getattribute__" = some (some (.builtin "type.__getattribute__"))
 rd:W.readsIn K C (.type "type")=true
 fi:W.findCls K (.ref C) (.type "type") m=some (.val (.ref f))
 kp:W.keepIn K (.ref f)=true
section
variable{X:Cx}{EX:XE}{e:Expr}{es:W3}{as:List VP.Arg}{pos p QN:Pos}{CX:uX}{k:Nat}{C fA:Addr}{fd:FuncData}{ps:PU}{c m:Str}{fl:WK}{fs:Fn}
theorem ID{pl:Sem Bool}(B:P7 X.K X.mg c m C fA)(F:dG X.prog X.w X.K X.mg X.base CX k fA fd ps (oP X.K X.mg fl fs))(hr:cG k X.A)(hb:Binds X.K fd ps [])(hx:fW CX X EX)(ha:yC X EX (e::es) as)(hg:Gl X c:=by rfl)(vF:as.map VP.Arg.isIo=fl:=by rfl)
  (jH:Yw c:=by decide) (jI:Ys X e es:=by rfl) (iP:OR X pos es:=by rfl)
  (ht:eval (.Call (.Attribute (.Name c p) m QN) (e::es) [] pos) X.env=(do
   let ov <-eval (.Name c p) X.env
   standAt QN.atName
   let (f,first) <-holding [ov] (getMethod ov m pl)
   callWith pos f first (backTo pos (starEach (e::es) X.env)) (backToKw pos (keywordEach [] X.env))):=by rfl) :
  PV X EX (.Call (.Attribute (.Name c p) m QN) (e::es) [] pos) (ax fs as):=by
 intro UW s σ H Q I h;obtain⟨G,F0,ρ,g0,o⟩:=h;refine W.methodCall_KW (pl:=pl) (bS (kI (v:=.ref C) hg B.mg rfl jH UW s σ H (fun x H1=>x=.ref C/\H1=H) I ⟨rfl,rfl⟩) fun u s1 zz=>?_) ht;obtain⟨y,H1,I1,ry,hy,hH⟩:=zz;subst hy hH;obtain rfl:u=Value.ref C:=ry;refine W.method_cls I1.mP B.sp (W.cls_value I1.mP B.rd B.fi rfl ?_);have I2:Inv X UW σ H1 {s1 with toks:=s1.toks+1}:=I1.tok _;refine rz (first:=[]) (h₀:=X.base) I.ok.mod.Mz B.kp (bS (ha pos UW _ σ H1 (fun vs H1=>oP X.K X.mg fl fs vs H1 Q (EX σ)) I2 ⟨G,F0,ρ,g0,?_⟩) fun us s2 ⟨vs,H2,I3,r,q⟩=>⟨I3.mP,?_⟩) jI iP;unfold ax VP.PN at o;cases q:bR as ρ with|no=>rw[q] at o;exact o.elim|exc xx bo=>rw[q] at o;exact o|ok av bo=>rw[q] at o;intro F1 H1 vs s1 g1 r1;exact tK (L:=lc X EX) g1 r1 (by rw[eB q];exact vF) o (fun x r q=>q.same s1) fun F' H' bP d v s' g' rd P=>P F' H' v (s1.trans s') g' rd
 exact pq F hr hb hx I3 r q
end
section
variable{X:Cx}{EX:XE}{e elt tg UD:Expr}{ifs:W3}{pos:Pos}{it:M (List D)}{gf:D->M Unit}{ft:M Bool}{fe f:M D}{js:UA}{scope:Scope}{N':PU}
theorem JB(n i:Nat){y:Str}{py mH:Pos}(hN:X.N.Nodup)(hy:X.N[i]?=some y)(hx:Loc X.env.scope y)(hc:X.calm=true)(c:bQ X scope N')(hn:X.N.length+n+1=N'.length)(hi:uT X EX tg UD it)(ug:∀d r x r',gf d r≠.exc x r')(uV:∀j∈js,X.N.length<=j/\j<X.N.length+n)
  (hg:∀C s H ex,yE (bI X scope C N' s H ex) EX tg js gf) (ht:∀C s H ex EX,BP (bI X scope C N' s H ex) EX ifs ft) (he:∀C s H ex EX,PV (bI X scope C N' s H ex) EX elt fe)
  (G3:swapsWith (.ListComp elt [⟨tg,UD,ifs,0⟩] scope pos) (some (.Name y py)) mH.line X.env=pure true:=by rfl) (hs:∀x,foldedSetIterable UD X.env x=pure x:=by exact Bz)
  (AO:IL X y:=by exact NP):nW X EX (.Assign [.Name y py] (.ListComp elt [⟨tg,UD,ifs,0⟩] scope pos) mH) (aN i (lb (aU n it gf ft fe))):=by
 intro UW s σ H E I h;obtain⟨G,F,ρ,g0,o⟩:=h;rw[Mf _ _ _ _ G3];refine U0 (LZ (U0 ?_));show wpAny _ X.A (do let _ <-comprehension (.ListComp elt [⟨tg,UD,ifs,0⟩] scope pos) scope X.env _ (newList []) false (firstIter [⟨tg,UD,ifs,0⟩] X.env) (some (assign (.Name y py) X.env))) _ _ s;refine U0 (RX (kz (use:=some (assign (.Name y py) X.env)) (QQ:=fun _ s'=>SP X UW E .next s') n hc c hn hi ug uV hg ht (xw:=fun _ _ _ _ _ _=>False) (fun C s H ex=>he C s H ex _) (fun _ _ _ _ _ _ _ _ _ _ z=>z.elim) hs I (Good.view g0) (wG (Out.PN o)) (fun x r q=>q.elim) fun F4 H4 s5 rP d l C mm e4 g4 lo post IX GZ FC=>?_) (fun _ s' hq=>Qo (Qo hq)) fun _ _ e=>e);show wpAny _ X.A (assign (.Name y py) X.env (.ref l)) _ _ s5;refine Lm (kM IX hN hy hx (v:=.ref l) rfl (fun s6 I6 zz=>?_) AO);obtain⟨a,sb,ha⟩:=zz;have QW:C≠a:=by rcases ha with rfl|ha;exact FC.2.1;exact fun z=>FC.2.2.2.2.1 _ _ ha z.symm
 obtain⟨ds,rfl,Kj,post⟩:=post;obtain⟨u1,u2⟩:=Good.rf g0 g4;have WG:=Loose.rf g0 g4 lo Kj;obtain⟨F5,s5,g5,d5⟩:=WG.fast u2;obtain⟨mQ,g2,q⟩:=kj (L:=lc X EX) g5 d5 (Out.PN post);refine⟨mm,GZ.sameBut sb QW,fun h' Ga=>⟨σ.set i (some (.ref l)),H4,?_,q _ _ _ (u1.trans s5) g2⟩⟩;exact I6.turned (t':=s6.toks) (fun b ob hb e=>Ga.extBut b ob hb e) FC.1 FC.2.1 FC.2.2.2.1 FC.2.2.2.2.1 FC.2.2.2.2.2
end
end VS
end
section
set_option linter.all false
namespace VS
open PySem PySem.Spec PyProof.Rows L2 VP
theorem p7{P:Program}{w:World}{K:Frag}{mg:MG}{base:Heap}{CX:uX}{k:Nat}{f:Addr}{fd:FuncData}{ps:PU}{fl:WK}(h:fl.length=ps.length):dG P w K mg base CX k f fd ps (oP K mg fl fun _=>.no):=⟨fun _ _ _ _ q=>q.1.trans h,fun _ _ _ _ _ _ _ _ _ _ _ _ _ ⟨_,_,_,_,_,_,q⟩=>q.elim⟩
structure Gq where
 f:Nat->Addr
 d:Nat->FuncData
 g:Nat->Addr
 e:Nat->FuncData
 c:Nat->Addr
abbrev wW:=Str×Stmt×List Str
abbrev BQ:=Str×Str×Str×Bool×Stmt×List Str
structure K2 where
 b:List Str
 n:List (Str×D)
 t:List (Str×List (Str×D)×List Str)
 d:List wW
 m:List BQ
 k:List Str
 f:List (Str×List Str)
 a:List Str
 i:List (Str×List (Str×Bool))
 j:List (Str×Str×List (Str×Bool))
structure JH(K:Frag)(mg:MG)(c x qn:Str)(bs:Bool)(st:Stmt)(ps:PU)(C f:Addr)(fd:FuncData):Prop where
 fu:Gr K x qn st f fd
 bi:Binds K fd ps []
 gm:mg c=some (.ref C)
 cls:Aq K C
 me:Meth K C x f
 WM:x="__init__" -> Mk K C f
 ba:bs=true->P7 K mg c x C f
structure Txt(L:K2)(w:World)(K:Frag)(mg:MG)(a:Gq):Prop where
 b:∀(i:Nat) {x} (_:L.b[i]?=some x:=by rfl),mg x=none
 n:∀(i:Nat) {x d} (_:L.n[i]?=some (x,d):=by rfl),XA mg x d
 t:∀(i:Nat) {x t ab} (_:L.t[i]?=some (x,t,ab):=by rfl),Gu w K mg x t ab
 d:∀(i:Nat) {x st ps} (_:L.d[i]?=some (x,st,ps):=by rfl),pE K mg x st ps (a.f i) (a.d i)
 m:∀(i:Nat) {c x qn bs st ps} (_:L.m[i]?=some (c,x,qn,bs,st,ps):=by rfl),JH K mg c x qn bs st ps (a.c i) (a.g i) (a.e i)
 f:∀(i:Nat) {f cs} (_:L.f[i]?=some (f,cs):=by rfl),KU K mg cs f
 i:∀(i:Nat) {c su} (_:L.i[i]?=some (c,su):=by rfl),Qc K mg c su
 j:∀(i:Nat) {c1 c2 su} (_:L.j[i]?=some (c1,c2,su):=by rfl),Qd K mg c1 c2 su
def Qi(K:Frag)(q:Addr):PU->Prop|[]=>True|x::l=>W.nsIn K q x=some none/\Qi K q l
def T3(K:Frag):List (Str×D)->Prop|[]=>True| (x,d)::l=>(∃v,W.nsIn K mainGlobals x=some (some v)/\jw d v)/\T3 K l
def T4(K:Frag)(q:Addr):List (Str×D)->Prop|[]=>True| (x,d)::l=>(∃v,W.nsIn K q x=some (some v)/\tI K d v)/\T4 K q l
def Qj(w:World)(K:Frag):List (Str×List (Str×D)×List Str)->Prop|[]=>True| (x,t,ab)::l=>(∃(q:Addr)(es:Array DictEntry)(n:Nat),W.nsIn K mainGlobals x=some (some (.ref q))/\(q == sysModules)=false/\K.lookup q=some ⟨.type "dict",none,.dict es n,#[]⟩/\W.KeysLit w.params es.toList/\T4 K q t/\Qi K q ab)/\Qj w K l
def P9(K:Frag):List wW->Prop|[]=>True| (x,st,_)::l=>(∃f,DH K x st f)/\P9 K l
structure MH(K:Frag)(c x qn:Str)(bs:Bool)(st:Stmt)(C f:Addr):Prop where
 n:W.nsIn K mainGlobals c=some (some (.ref C))
 i:W.findIn K (.ref C) x=some (some (.ref f))
 fn:W.isFn K (.ref f)=true
 m:DM K x qn st f
 WM:W.makesIn K C=true
 kc:W.keepIn K (.ref C)=true
 ba:bs=true->W.specialIn K (.ref C) "__getattribute__" = some (some (.builtin "type.__getattribute__"))/\W.readsIn K C (.type "type")=true/\W.findCls K (.ref C) (.type "type") x=some (.val (.ref f))
def Qg(K:Frag):List BQ->Prop|[]=>True| (c,x,qn,bs,st,_)::l=>(∃C f,MH K c x qn bs st C f)/\Qg K l
def P8(K:Frag):PU->Prop|[]=>True|c::l=>(∃C,W.nsIn K mainGlobals c=some (some (.ref C))/\Aq K C)/\P8 K l
def TN(K:Frag):PU->Prop|[]=>True|c::l=>(∃C,W.nsIn K mainGlobals c=some (some (.ref C))/\Ar K C)/\TN K l
def Qh(K:Frag)(f:Str):PU->Prop|[]=>True|c::l=>(∃C,W.nsIn K mainGlobals c=some (some (.ref C))/\W.findIn K (.ref C) f=some none)/\Qh K f l
def TU(K:Frag):List (Str×List Str)->Prop|[]=>True| (f,cs)::l=>Qh K f cs/\TU K l
def Qe(K:Frag)(C:Addr):HE->Prop|[]=>True| (c,b)::l=>(∃D,W.nsIn K mainGlobals c=some (some (.ref D))/\W.kitOne K (.ref D) (.ref C)=some b)/\Qe K C l
def TX(K:Frag):List (Str×List (Str×Bool))->Prop|[]=>True| (c,su)::l=>(∃C,W.nsIn K mainGlobals c=some (some (.ref C))/\Qe K C su)/\TX K l
def Qf(K:Frag)(C C':Addr):HE->Prop|[]=>True| (c,b)::l=>(∃D,W.nsIn K mainGlobals c=some (some (.ref D))/\W.kitAny K (.ref D) [.ref C,.ref C']=some b)/\Qf K C C' l
def T1(K:Frag):List (Str×Str×List (Str×Bool))->Prop|[]=>True| (c,c',su)::l=>(∃C C',W.nsIn K mainGlobals c=some (some (.ref C))/\W.nsIn K mainGlobals c'=some (some (.ref C'))/\Qf K C C' su)/\T1 K l
def TQ:List wW->Prop|[]=>True| (x,st,ps)::l=>BO x x st ps/\TQ l
def TR:List BQ->Prop|[]=>True| (_,x,qn,_,st,ps)::l=>BO x qn st ps/\TR l
def K2.l7(L:K2):Bool:=L.f.all (fun p=>p.2.all fun c=>L.k.elem c)&&L.m.all (fun r=>L.k.elem r.1)&&L.i.all (fun p=>p.2.all fun q=>L.a.elem q.1)&&L.j.all (fun p=>p.2.2.all fun q=>L.a.elem q.1)
section
variable{K:Frag}{mg:MG}{h:Heap}{w:World}
theorem Qi.at:∀{l:PU},Qi K q l->∀{x},x∈l->W.nsIn K q x=some none|_::_,⟨h,t⟩,_,m=>by cases m with|head=>exact h|tail _ m=>exact t.at m
theorem T3.at:∀{l:List (Str×D)},T3 K l->∀{x d},(x,d)∈l->∃v,W.nsIn K mainGlobals x=some (some v)/\jw d v|_::_,⟨h,t⟩,_,_,m=>by cases m with|head=>exact h|tail _ m=>exact t.at m
theorem T4.at:∀{l:List (Str×D)},T4 K q l->∀p∈l,∃v,W.nsIn K q p.1=some (some v)/\tI K p.2 v|_::_,⟨h,t⟩,_,m=>by cases m with|head=>exact h|tail _ m=>exact t.at _ m
theorem Qj.at(X:K.In h)(G:h.Ns mainGlobals mg):∀{l:List (Str×List (Str×D)×List Str)},Qj w K l->∀{x t ab},(x,t,ab)∈l->Gu w K mg x t ab|_::_,⟨⟨q,es,n,h1,h2,h3,h4,h5,h6⟩,t⟩,_,_,_,m=>by cases m with|head=>exact⟨⟨q,es,n,QA X G h1,h2,h3,h4,Q1p h5.at,fun k hk=>h6.at hk⟩⟩|tail _ m=>exact Qj.at X G t m
theorem P8.at:∀{l:PU},P8 K l->∀{c C},c∈l->W.nsIn K mainGlobals c=some (some (.ref C))->Aq K C|_::_,⟨⟨D,h,k⟩,t⟩,_,_,m,e=>by cases m with|head=>rw[h] at e;cases e;exact k|tail _ m=>exact t.at m e
theorem TN.at:∀{l:PU},TN K l->∀{c C},c∈l->W.nsIn K mainGlobals c=some (some (.ref C))->Ar K C|_::_,⟨⟨D,h,k⟩,t⟩,_,_,m,e=>by cases m with|head=>rw[h] at e;cases e;exact k|tail _ m=>exact t.at m e
theorem Qh.at:∀{l:PU},Qh K f l->∀{c},c∈l->∃C,W.nsIn K mainGlobals c=some (some (.ref C))/\iY K C f|_::_,⟨h,t⟩,_,m=>by cases m with|head=>exact h|tail _ m=>exact t.at m
theorem TU.at:∀{l:List (Str×List Str)},TU K l->∀{f cs},(f,cs)∈l->Qh K f cs|_::_,⟨h,t⟩,_,_,m=>by cases m with|head=>exact h|tail _ m=>exact t.at m
theorem Qe.at:∀{l:HE},Qe K C l->∀p∈l,∃D,W.nsIn K mainGlobals p.1=some (some (.ref D))/\W.kitOne K (.ref D) (.ref C)=some p.2|_::_,⟨h,t⟩,_,m=>by cases m with|head=>exact h|tail _ m=>exact t.at _ m
theorem TX.at:∀{l:List (Str×List (Str×Bool))},TX K l->∀{c su},(c,su)∈l->∃C,W.nsIn K mainGlobals c=some (some (.ref C))/\Qe K C su|_::_,⟨h,t⟩,_,_,m=>by cases m with|head=>exact h|tail _ m=>exact t.at m
theorem Qf.at:∀{l:HE},Qf K C C' l->∀p∈l,∃D,W.nsIn K mainGlobals p.1=some (some (.ref D))/\W.kitAny K (.ref D) [.ref C,.ref C']=some p.2|_::_,⟨h,t⟩,_,m=>by cases m with|head=>exact h|tail _ m=>exact t.at _ m
theorem T1.at:∀{l:List (Str×Str×List (Str×Bool))},T1 K l->∀{c c' su},(c,c',su)∈l->∃C C',W.nsIn K mainGlobals c=some (some (.ref C))/\W.nsIn K mainGlobals c'=some (some (.ref C'))/\Qf K C C' su|_::_,⟨h,t⟩,_,_,_,m=>by cases m with|head=>exact h|tail _ m=>exact t.at m
theorem P9.is(X:K.In h)(G:h.Ns mainGlobals mg):∀{l:List wW},P9 K l->TQ l->∃ps:List (Addr×FuncData),∀(i:Nat) {x st qs},l[i]?=some (x,st,qs)->pE K mg x st qs (ps.getD i default).1 (ps.getD i default).2|[],_,_=>⟨[],fun i _ _ _ e=>by simp at e⟩|_::_,⟨⟨f,d⟩,t⟩,⟨b,bs⟩=>by obtain⟨ps,hp⟩:=P9.is X G t bs;obtain⟨fd,D⟩:=d.is X G b;refine⟨(f,fd)::ps,fun i _ _ _ e=>?_⟩;cases i with|zero=>simp only[List.getElem?_cons_zero,Option.some.injEq,Prod.mk.injEq] at e;obtain⟨rfl,rfl,rfl⟩:=e;exact D|succ i=>exact hp i (by simpa using e)
theorem Qg.is(X:K.In h)(G:h.Ns mainGlobals mg)(C:P8 K ks):∀{l:List BQ},Qg K l->TR l->(∀r∈l,r.1∈ks)->∃ps:List (Addr×Addr×FuncData),∀(i:Nat) {c x qn bs st qs},l[i]?=some (c,x,qn,bs,st,qs)->JH K mg c x qn bs st qs (ps.getD i default).1 (ps.getD i default).2.1 (ps.getD i default).2.2|[],_,_,_=>⟨[],fun i _ _ _ _ _ _ e=>by simp at e⟩|_::_,⟨⟨c,f,d⟩,t⟩,⟨b,bs⟩,hk=>by obtain⟨ps,hp⟩:=Qg.is X G C t bs fun r hr=>hk r (QC _ hr);obtain⟨fd,F,B⟩:=d.m.is b;refine⟨(c,f,fd)::ps,fun i _ _ _ _ _ _ e=>?_⟩;cases i with|zero=>simp only[List.getElem?_cons_zero,Option.some.injEq,Prod.mk.injEq] at e;obtain⟨rfl,rfl,rfl,rfl,rfl,rfl⟩:=e;have m:=QA X G d.n;refine⟨F,B,m,C.at (hk _ QI) d.n,⟨d.i,d.fn,d.m.k⟩,fun e=>⟨d.WM,?_,d.fn,d.kc⟩,fun e=>⟨m,(d.ba e).1,(d.ba e).2.1,(d.ba e).2.2,d.m.k⟩⟩;rw[<-e];exact d.i|succ i=>exact hp i (by simpa using e)
theorem Q34(X:K.In h)(G:h.Ns mainGlobals mg)(l7:L.l7=true)(bd:TQ L.d)(bm:TR L.m)(hb:Qi K mainGlobals L.b)(hn:T3 K L.n)(ht:Qj w K L.t)(hd:P9 K L.d)(hc:P8 K L.k)(hm:Qg K L.m)(hf:TU K L.f)(ha:TN K L.a)(hi:TX K L.i)(hj:T1 K L.j)(sp:W.specialIn K (.builtin "object.__class__") "__get__" = some (some (.builtin "getset_descriptor.__get__"))) (tk:W.takesIn K (.builtin "object.__class__")=some true):∃a:Gq,Txt L w K mg a:=by simp only[K2.l7,Bool.and_eq_true,List.all_eq_true,List.elem_eq_contains,List.contains_iff_mem] at l7;obtain⟨⟨⟨f1,f2⟩,f3⟩,f4⟩:=l7;obtain⟨ps,hp⟩:=hd.is X G bd;obtain⟨qs,hq⟩:=hm.is X G hc bm f2;refine⟨⟨fun i=>(ps.getD i default).1,fun i=>(ps.getD i default).2,fun i=>(qs.getD i default).2.1,fun i=>(qs.getD i default).2.2,fun i=>(qs.getD i default).1⟩,fun i x e=>W.mg_none_of X G (hb.at (Np e)),fun i x d e=>?_,fun i x t ab e=>ht.at X G (Np e),hp,hq,fun i f cs e c LV=>?_,fun i c su e=>?_,fun i c c' su e=>?_⟩;obtain⟨v,e1,e2⟩:=hn.at (Np e);exact⟨v,QA X G e1,e2⟩;have m:=Np e;obtain⟨C,e1,e2⟩:=(hf.at m).at LV;exact⟨C,QA X G e1,hc.at (f1 _ m c LV) e1,e2⟩;have m:=Np e;obtain⟨C,e1,e2⟩:=hi.at m;refine⟨sp,tk,C,QA X G e1,fun p hp=>?_⟩;obtain⟨D,e3,e4⟩:=e2.at p hp;exact⟨D,QA X G e3,ha.at (f3 _ m p hp) e3,e4⟩;have m:=Np e;obtain⟨C,C',e1,Y2,e2⟩:=hj.at m;refine⟨sp,tk,C,C',QA X G e1,QA X G Y2,fun p hp=>?_⟩;obtain⟨D,e3,e4⟩:=e2.at p hp;exact⟨D,QA X G e3,ha.at (f4 _ m p hp) e3,e4⟩
theorem pE.Z2{x p:Str}{st:Stmt}{f:Addr}{fd:FuncData}(d:pE K mg x st [p] f fd)(c:∀(kV doc pm:Value)(an:UL)(cd ct:Value)(s:Shared)(v:Value),BindsTo s (W.fnOf x x (dg st) (bT st) (aS st) .none kV doc pm an cd ct) ⟨[v],[]⟩ [(p,v)]) (s:Shared) (v:Value):BindsTo s fd ⟨[v],[]⟩ [(p,v)]:=by obtain⟨oc,od,kV,doc,pm,an,i9,ct,HY,rfl,lk,jC⟩:=d.fu.ex;exact c _ _ _ _ _ _ s v
end
abbrev Cl(P:Program)(base:Heap){L:K2}{w:World}{K:Frag}{mg:MG}{a:Gq}(T:Txt L w K mg a)(x:Str)(k:Nat)(fl:WK)(f:Fn):Prop:=∃st ps fA fd,pE K mg x st ps fA fd/\dG P w K mg base pC k fA fd ps (oP K mg fl f)
abbrev lO(P:Program)(base:Heap){L:K2}{w:World}{K:Frag}{mg:MG}{a:Gq}(T:Txt L w K mg a)(c x:Str)(bs:Bool)(k:Nat)(fl:WK)(f:Fn):Prop:=∃qn st ps C fA fd,JH K mg c x qn bs st ps C fA fd/\dG P w K mg base pC k fA fd ps (oP K mg fl f)
section
variable{P:Program}{w:World}{K:Frag}{mg:MG}{base:Heap}
theorem fo{x:Str}{st:Stmt}{f:Addr}{fd:FuncData}{ps:PU}{k:Nat}{fl:WK}(N:PU)(body:M Fl)(D:pE K mg x st ps f fd)
 (jV:∀{i9:Value}{A:Around}{outer:List Env}{s:Shared}{H:Hp}{E:XK},eK N ps (aS st)->cG k (A.deeper (envOfC x (aS st) s.heap.objs.size f i9))->mU (rA pC P w K mg base N x (aS st) f i9 A outer s H E).Kt (fun _=>E) (bT st) body) (S:eK N ps (aS st):=by exact W4) (hl:fl.length=ps.length:=by rfl) :
 dG P w K mg base pC (k+1) f fd ps (oP K mg fl (defn N.length fl body)):=Ds D.fu S hl fun _ _ _ _ _ _ hr=>jV S hr
theorem fc{g:Fn}{x:Str}{st:Stmt}{f:Addr}{fd:FuncData}{ps:PU}{k:Nat}{fl:WK}(loc:PU)(body:M Fl)(D:pE K mg x st ps f fd)
 (jV:∀{i9:Value}{A:Around}{outer:List Env}{s:Shared}{H:Hp}{E:XK},eK (ps++loc) ps (aS st)->cG k (A.deeper (envOfC x (aS st) s.heap.objs.size f i9))->mU (rA pC P w K mg base (ps++loc) x (aS st) f i9 A outer s H E).Kt (fun _=>E) (bT st) body) (S:eK (ps++loc) ps (aS st):=by exact W4) (hl:fl.length=ps.length:=by rfl) (hg:defn (ps++loc).length fl body=g:=by exact rfl) :
 ∃st ps fA fd,pE K mg x st ps fA fd/\dG P w K mg base pC (k+1) fA fd ps (oP K mg fl g):=⟨st,ps,f,fd,D,hg ▸ Ds D.fu S hl fun _ _ _ _ _ _ hr=>jV S hr⟩
theorem fm{g:Fn}{c x qn:Str}{bs:Bool}{st:Stmt}{C f:Addr}{fd:FuncData}{ps:PU}{k:Nat}{fl:WK}(loc:PU)(body:M Fl)(D:JH K mg c x qn bs st ps C f fd)
 (jV:∀{i9:Value}{A:Around}{outer:List Env}{s:Shared}{H:Hp}{E:XK},eK (ps++loc) ps (aS st)->cG k (A.deeper (envOfC qn (aS st) s.heap.objs.size f i9))->mU (rA pC P w K mg base (ps++loc) qn (aS st) f i9 A outer s H E).Kt (fun _=>E) (bT st) body) (S:eK (ps++loc) ps (aS st):=by exact W4) (hl:fl.length=ps.length:=by rfl) (hg:defn (ps++loc).length fl body=g:=by exact rfl) :
 ∃qn st ps C fA fd,JH K mg c x qn bs st ps C fA fd/\dG P w K mg base pC (k+1) fA fd ps (oP K mg fl g):=⟨qn,st,ps,C,f,fd,D,hg ▸ Ds D.fu S hl fun _ _ _ _ _ _ hr=>jV S hr⟩
end
section
variable{X:Cx}{EX:XE}{e a b o tg UD elt value:Expr}{es ifs:W3}{as:List VP.Arg}{fa fb fe fo:M D}{f:M Fl}{body:List Stmt}{pos p QN:Pos}{k n i:Nat}{C fA:Addr}{fd:FuncData}{ps:PU}{c x m qn:Str}{bs:Bool}{st:Stmt}{fl:WK}{fs:Fn}
theorem yi(W:∃qn st ps C fA fd,JH X.K X.mg c "__init__" qn bs st ps C fA fd/\dG X.prog X.w X.K X.mg X.base pC k fA fd ps (oP X.K X.mg (true::fl) fs))(hr:cG n X.A)(ha:yC X EX (e::es) as)(hk:k+1<=n:=by exact RH)(hg:Gl X c:=by rfl)(vF:as.map VP.Arg.isIo=fl:=by rfl)(jH:Yw c:=by decide)(he:Ys X e es:=by rfl) (iP:OR X pos es:=by rfl):PF X EX (.Call (.Name c p) (e::es) [] pos) (eC c fs as):=
 let ⟨_,_,_,_,_,_,M,F⟩:=W;Il (M.WM rfl) F (hr.mono hk) hg M.gm M.bi qH ha vF jH he iP
theorem pf{pl:Sem Bool}(W:∃qn st ps C fA fd,JH X.K X.mg c m qn bs st ps C fA fd/\dG X.prog X.w X.K X.mg X.base pC k fA fd ps (oP X.K X.mg (false::fl) fs))(hr:cG n X.A)(ho:PV X EX o fo)(ha:yC X EX (e::es) as)(hk:k<=n:=by exact RH)(vF:as.map VP.Arg.isIo=fl:=by rfl)
  (jI:Ys X e es:=by rfl) (iP:OR X pos es:=by rfl)
  (ht:eval (.Call (.Attribute o m QN) (e::es) [] pos) X.env=(do
   let ov <-eval o X.env
   standAt QN.atName
   let (f,first) <-holding [ov] (getMethod ov m pl)
   callWith pos f first (backTo pos (starEach (e::es) X.env)) (backToKw pos (keywordEach [] X.env))):=by rfl):PV X EX (.Call (.Attribute o m QN) (e::es) [] pos) (cw c m fs fo as):=
 let ⟨_,_,_,_,_,_,M,F⟩:=W;IK M.gm M.cls M.me F (hr.mono hk) M.bi qH ho ha vF jI iP ht
theorem SH{pl:Sem Bool}(W:∃qn st ps C fA fd,JH X.K X.mg c m qn true st ps C fA fd/\dG X.prog X.w X.K X.mg X.base pC k fA fd ps (oP X.K X.mg fl fs))(hr:cG n X.A)(ha:yC X EX (e::es) as)(hk:k<=n:=by exact RH)(hg:Gl X c:=by rfl)(vF:as.map VP.Arg.isIo=fl:=by rfl)
 (jH:Yw c:=by decide) (jI:Ys X e es:=by rfl) (iP:OR X pos es:=by rfl)
 (ht:eval (.Call (.Attribute (.Name c p) m QN) (e::es) [] pos) X.env=(do
  let ov <-eval (.Name c p) X.env
  standAt QN.atName
  let (f,first) <-holding [ov] (getMethod ov m pl)
  callWith pos f first (backTo pos (starEach (e::es) X.env)) (backToKw pos (keywordEach [] X.env))):=by rfl) :
 PV X EX (.Call (.Attribute (.Name c p) m QN) (e::es) [] pos) (ax fs as):=let ⟨_,_,_,_,_,_,M,F⟩:=W;ID (M.ba rfl) F (hr.mono hk) M.bi qH ha hg vF jH jI iP ht
theorem bg(W:∃st ps fA fd,pE X.K X.mg x st ps fA fd/\dG X.prog X.w X.K X.mg X.base pC k fA fd ps (oP X.K X.mg fl fs))(hr:cG n X.A)(ha:yC X EX (e::es) as)(hk:k<=n:=by exact RH)(hg:Gl X x:=by rfl)(vF:as.map VP.Arg.isIo=fl:=by rfl)(jH:Yw x:=by decide)(he:Ys X e es:=by rfl) (iP:OR X pos es:=by rfl):PV X EX (.Call (.Name x p) (e::es) [] pos) (ax fs as):=
 let ⟨_,_,_,_,D,F⟩:=W;IE F (hr.mono hk) hg D.mg D.fu.kp D.bi qH ha vF jH he iP
theorem pcL(W:∃st ps fA fd,pE X.K X.mg x st ps fA fd/\dG X.prog X.w X.K X.mg X.base pC k fA fd ps (oP X.K X.mg [true] fs))(hr:cG n X.A)(ha:PF X EX a fa)(hk:k<=n:=by exact RH)(hg:Gl X x:=by rfl)(jH:Yw x:=by decide)(he:Ys X a []:=by rfl)(iP:(backTo pos (starEach [] X.env)).any (·.1)=false:=by rfl):PV X EX (.Call (.Name x p) [a] [] pos) (nE fs fa):=let ⟨_,_,_,_,D,F⟩:=W;Q1S F (hr.mono hk) hg D.mg D.fu.kp D.bi qH ha jH he iP
theorem bL(hm:X.mg "len" = none)(ha:PR X EX a fa)(hg:Gl X "len" := by rfl)(hs:Ys X a []:=by rfl):PV X EX (.Call (.Name "len" p) [a] [] pos) (m1 bp fa):=eE Q2B Q1x hg hm PySem.boot_len ha (by decide) (by decide) hs
theorem rJ(hm:X.mg "tuple" = none)(ha:PR X EX a fa)(hg:Gl X "tuple" := by rfl)(hs:Ys X a []:=by rfl):PV X EX (.Call (.Name "tuple" p) [a] [] pos) (m1 iA fa):=Br rm GW hg hm boot_tuple ha (by decide) (by decide) hs
theorem cX(hr:cG n X.A)(ha:PV X EX a fa)(hb:PV X EX b fb):PB X EX (.Compare a [.Eq] [b] pos) (tB (m2 bG fa fb)):=bV (jq hr.units) oi ha hb (bq _)
theorem qI(hr:cG n X.A)(ha:PV X EX a fa)(hb:PV X EX b fb):PB X EX (.Compare a [.NotEq] [b] pos) (tB (m2 dz fa fb)):=bV (uB hr.units) DA ha hb (bq _)
theorem b8(i:Nat){x:Str}{Wu:Pos}(hN:X.N.Nodup)(he:PV X EX e fe)(hi:X.N[i]?=some x:=by rfl)(hx:Loc X.env.scope x:=by exact Hm)(hs:swapsWith e (some (.Name x Wu)) pos.line X.env=pure false:=by rfl)(hf:IL X x:=by exact NP):nW X EX (.Assign [.Name x Wu] e pos) (aN i fe):=Pe i hN hi hx he hs hf
theorem wM(i:Nat){x:Str}{Wu:Pos}(hN:X.N.Nodup)(he:PF X EX e fe)(hi:X.N[i]?=some x:=by rfl)(hx:Loc X.env.scope x:=by exact Hm)(hs:swapsWith e (some (.Name x Wu)) pos.line X.env=pure false:=by rfl)(hf:IL X x:=by exact NP):nW X EX (.Assign [.Name x Wu] e pos) (dZ i fe):=Pd i hN hi hx he hs hf
theorem ko(i:Nat)(hN:X.N.Nodup)(hi:X.N[i]?=some x:=by rfl)(hx:Loc X.env.scope x:=by exact Hm)(hf:IL X x:=by exact NP):yE X EX (.Name x pos) [i] (aE i):=Q0F i hN hi hx hf
theorem pA(i:Nat)(hN:X.N.Nodup)(h2:wV X EX es is)(hi:X.N[i]?=some x:=by rfl)(hx:Loc X.env.scope x:=by exact Hm)(hf:IL X x:=by exact NP) (hs:(assignEach (.Name x pos::es) X.env).map (·.2)=assign (.Name x pos) X.env::(assignEach es X.env).map (·.2):=by rfl):wV X EX (.Name x pos::es) (i::is):=FI i hN hi hx h2 hf hs
theorem Gp(i:Nat){QN iD:Pos}(he:PV X EX e fe)(hN:X.N[i]?=some x:=by rfl)(hv:uZ X.env.scope x:=by exact Oi)(hd:Yw x:=by decide)
 (jC:Xj x:=by decide)
 (hpe:∀{to:TE}{t:TA},PE X (.Name x p) to->PA X [e] t->PE X (.Call (.Attribute (.Name x p) "append" QN) [e] [] iD) (UZ X.K "list" uG to t):=by exact fun ho ha=>Ku PySem.F.plainAttrs_list PySem.F.slot_list_append PySem.F.type_list_append sV ho ha)
 (jI:Ys X e []:=by rfl):nW X EX (.Expr (.Call (.Attribute (.Name x p) "append" QN) [e] [] iD) pos) (kS i fe):=Pa i he hN hv hd jC hpe jI
theorem rh(hi:uT X EX tg UD it)(hg:yE X EX tg js gf)(hb:mU X EX body f)(ug:∀d r x r',gf d r≠.exc x r':=by first|exact eY|exact Dw)(hp:PassesOwn (model X.prog X.w) X.A X.env X.xe:=by exact PassesOwn.never)(hc:X.calm=true:=by rfl)(hs:∀x,foldedSetIterable UD X.env x=pure x:=by exact Bz):nW X EX (.For tg UD body [] pos) (eG it gf f):=Pc hp hc hi hg hb ug hs
variable{it:M (List D)}{gf:D->M Unit}{ft:M Bool}{js:UA}{scope:Scope}
theorem yg(n:Nat)(N':PU)(hi:uT X EX tg UD it)(hg:N'.Nodup->∀{C s H ex},yE (bI X scope C N' s H ex) EX tg js gf)(ht:∀{C s H ex EX},BP (bI X scope C N' s H ex) EX ifs ft)(he:∀{C s H ex EX},PV (bI X scope C N' s H ex) EX elt fe)
 (nd:N'.Nodup:=by exact Eb) (ug:∀d r x r',gf d r≠.exc x r':=by first|exact eY|exact Dw) (uV:∀j∈js,X.N.length<=j/\j<X.N.length+n:=by exact iE (by kernel_rfl)) (hc:X.calm=true:=by rfl) (c:bQ X scope N':=by exact⟨rfl,by kernel_rfl⟩) (hn:X.N.length+n+1=N'.length:=by rfl)
 (hs:∀x,foldedSetIterable UD X.env x=pure x:=by exact Bz):PF X EX (.ListComp elt [⟨tg,UD,ifs,0⟩] scope pos) (aU n it gf ft fe):=Ii n hc c hn hi ug uV (fun _ _ _ _=>hg nd) (fun _ _ _ _ _=>ht) (fun _ _ _ _ _=>he) hs
end
def W6(K:Frag):Sp:=fun vs H Q _=>∃(a:Addr)(ns:R4),vs=[.ref a]/\cU K H a (ns.map V.int)/\ns.length<=63/\∀H',Q (.bl true) H'
abbrev Qa(l:W.OpenLaw)(w:World)(K:Frag)(mg:MG)(fa:Addr)(k:Nat)(p:Str):Prop:=∃fd:FuncData,(∀(s:Shared)(v:Value),BindsTo s fd ⟨[v],[]⟩ [(p,v)])/\∀base:Heap,dG l.prog w K mg base pC k fa fd [p] (W6 K)
theorem walk63{l:W.OpenLaw}{q:Program}{loose:PU}{XP:(Str->UU)->Heap->Prop}{YP:World->Heap->Prop}{d:DefRec}{K:Params->W.Frag}(k:Nat)(hn:l.most=some 63)(Q3:d.params.defaults=[])
  (hY:∀(w:World)(h:Heap),YP w h->(K w.params).In h)
  (F:∀(w:World)(mg:Str->UU)(fa:Addr)(h:Heap),(K w.params).In h->h.Ns mainGlobals mg->mg d.name=some (.ref fa)->Qa l w (K w.params) mg fa k "_law_script") (hr:cG k callerA:=by exact⟨rfl,by decide,by decide⟩) :
  W.WalkO q loose XP YP l.row.toRowW d [] (fun f vs=>PySem.call f vs):=
 L2.JC (n:=63) (k:=k) (x:="_law_script") (CX:=fun _=>pC) (sp:=fun w=>W6 (K w.params)) hn (by decide) Q3 hr hY (fun w mg fa h a b c=>let ⟨fd,u,v⟩:=F w mg fa h a b c;⟨fd,u,fun base _ _=>v base⟩) (fun _ _ a ns hl _ hS=>⟨a,ns,rfl,hS,hl,fun _=>rfl⟩) fun _ _ _ _ _ z=>z
section
variable{X:Cx}{EX:XE}{L:Lc}{a:Expr}{fa:M D}{p pos:Pos}{x:Str}
def Ky:O6->Hp->VK->Prop:=fun xs H Q=>∃q aO ep,xs=[V.ref q]/\H q=some (.dK aO ep)/\Q (.int aO.length) H
theorem Q2V:dF X (.builtin "len") Ky:=by intro UW s σ H xs us Q I r h;obtain⟨q,aO,ep,rfl,ha,k⟩:=h;obtain⟨u,rfl,ru⟩:=vals1 r;cases ru;obtain⟨z,hd,vs,rel,dd⟩:=jA I ha;refine call_len_dict hd dd.dictOf (by rw[<-rel.length];rw[Nx] at z;lia) ?_;rw[<-rel.length];exact⟨.int aO.length,H,I.tok _,⟨_,rfl⟩,k⟩
theorem IG(hg:Gl X "len")(hm:X.mg "len" = none)(ha:PV X EX a fa)(hs:Ys X a []:=by rfl):PV X EX (.Call (.Name "len" p) [a] [] pos) (m1 Lk fa):=eE (r:=Ky) Q2V (fun G F H σ ρ x dx d Q g0 rx e k=>by
 cases dx with
 |gK ks ds=>
  cases e;have hd:∃l aO ep,x=.ref l/\H l=some (.dK aO ep)/\aO.map (·.1)=ks:=by
   rcases rx with rx|⟨l,e,z⟩;cases rx with|gK h r=>exact⟨_,_,_,rfl,g0.sub _ _ h,rfl⟩
   obtain⟨aO,ep,z1,z2,_⟩:=z;exact⟨l,aO,ep,e,z1,z2⟩
  obtain⟨l,aO,ep,rfl,hl,rfl⟩:=hd;refine⟨l,aO,ep,rfl,hl,?_⟩;rw[UR] at k;exact k F H _ (aL.refl _) g0 (.int _)
 |_=>cases e) hg hm PySem.boot_len (PV.rd ha) (by decide) (by decide) hs
end
end VS
end
section
namespace VP
section
variable{α β:Type}
noncomputable def Res.then{α β:Type}:Res α->(α->M β)->Res β|.ok a r,g=>g a r|.exc x r,_=>.exc x r|.no,_=>.no
noncomputable def Res.seq:Res Fl->M Fl->Res Fl|.ok .nx r,g=>g r|.ok k r,_=>.ok k r|.exc x r,_=>.exc x r|.no,_=>.no
noncomputable def Res.turn:Res Fl->M Fl->Res Fl|.ok .nx r,g=>g r|.ok .ct r,g=>g r|.ok .bk r,_=>.ok .nx r|.ok (.rt d) r,_=>.ok (.rt d) r|.exc x r,_=>.exc x r|.no,_=>.no
@[simp] theorem az(a:α)(r:aR)(g:α->M β):(Res.ok a r).then g=g a r:=RM
@[simp] theorem Q0d(c:Prop)[Decidable c](a b:Res α)(g:α->M β):(if c then a else b).then g=if c then a.then g else b.then g:=by split<;>rfl
@[simp] theorem d6(r:aR)(g:M Fl):(Res.ok .nx r).seq g=g r:=RM
@[simp] theorem Q0u(d:D)(r:aR)(g:M Fl):(Res.ok (.rt d) r).seq g=.ok (.rt d) r:=RM
@[simp] theorem Q0D(c:Prop)[Decidable c](a b:Res Fl)(g:M Fl):(if c then a else b).seq g=if c then a.seq g else b.seq g:=by split<;>rfl
@[simp] theorem Q0Y(r:aR)(g:M Fl):(Res.ok .nx r).turn g=g r:=RM
@[simp] theorem dY(a:α)(r:aR):ret a r=.ok a r:=RM
@[simp] theorem cx(a:α):opt (some a)=ret a:=RM
theorem aG(f:M α)(g:α->M β)(r:aR):PN f g r=(f r).then g:=by unfold PN;cases f r<;>rfl
@[simp] theorem Q00(d:D)(r:aR):mC d r=.ok d r:=RM
@[simp] theorem Ks(g:D->PM)(a:M D)(r:aR):m1 g a r=(a r).then fun x=>opt (g x):=aG _ _ _
@[simp] theorem Q2P(g:D->D->PM)(a b:M D)(r:aR):m2 g a b r=(a r).then fun x r=>(b r).then fun y=>opt (g x y):=by unfold m2;rw[aG];congr;funext x r;exact aG _ _ _
@[simp] theorem Q04(r:aR):mL [] r=.ok [] r:=RM
@[simp] theorem HA(f:M D)(fs:List (M D))(r:aR):mL (f::fs) r=(f r).then fun x r=>(mL fs r).then fun xs=>ret (x::xs):=by
 conv=>lhs;unfold mL
 rw[aG];congr;funext x r;exact aG _ _ _
@[simp] theorem R6(g:RN->PM)(as:List (M D))(r:aR):mF g as r=(mL as r).then fun xs=>opt (g xs):=aG _ _ _
@[simp] theorem HG(as:List (M D))(r:aR):bf as r=(mL as r).then fun xs=>opt (BB xs):=aG _ _ _
@[simp] theorem HB(as:List (M D))(r:aR):cA as r=(mL as r).then fun xs=>opt (vO xs):=aG _ _ _
def boolOf:D->M Bool|.bl b=>ret b|_=>stuck
@[simp] theorem Q0f(b:Bool):boolOf (.bl b)=ret b:=RM
@[simp] theorem Ti(a:M D)(r:aR):tB a r=(a r).then boolOf:=by unfold tB;rw[aG];cases a r with|ok d r'=>cases d<;>rfl|_=>rfl
@[simp] theorem Jm(a:M Bool)(r:aR):d8 a r=(a r).then fun b=>ret (!b):=aG _ _ _
@[simp] theorem Jk(a b:M Bool)(r:aR):gh a b r=(a r).then fun x r=>if x=true then b r else .ok false r:=by unfold gh;rw[aG];congr;funext x r;cases x<;>rfl
@[simp] theorem Q1i(a b:M Bool)(r:aR):lh a b r=(a r).then fun x r=>if x=true then .ok true r else b r:=by unfold lh;rw[aG];congr;funext x r;cases x<;>rfl
@[simp] theorem Q2s(a:M Bool)(r:aR):MM a r=(a r).then fun b=>ret (.bl b):=aG _ _ _
@[simp] theorem Q18(c:M Bool)(a b:M D)(r:aR):zR c a b r=(c r).then fun x r=>if x=true then a r else b r:=by unfold zR;rw[aG];congr;funext x r;cases x<;>rfl
@[simp] theorem Eg(a b:M D)(r:aR):gV a b r=((a r).then boolOf).then fun x r=>if x=true then b r else .ok (.bl false) r:=by
 unfold gV;rw[aG];cases a r with
 |ok d r'=>
  cases d<;>try rfl
  rename_i b;cases b<;>rfl
 |_=>rfl
@[simp] theorem HC(a b:M D)(r:aR):xN a b r=((a r).then boolOf).then fun x r=>if x=true then .ok (.bl true) r else b r:=by
 unfold xN;rw[aG];cases a r with
 |ok d r'=>
  cases d<;>try rfl
  rename_i b;cases b<;>rfl
 |_=>rfl
@[simp] theorem Q33(r:aR):aA r=.ok .nx r:=RM
@[simp] theorem cP(f g:M Fl)(r:aR):ak f g r=(f r).seq g:=by unfold ak PN;cases f r with|ok k r'=>cases k<;>rfl|_=>rfl
@[simp] theorem nP(f:M Unit)(r:aR):Gj f r=(f r).then fun _=>ret .nx:=aG _ _ _
@[simp] theorem IZ(f:M D)(r:aR):aC f r=(f r).then fun d=>ret (.rt d):=aG _ _ _
@[simp] theorem Fj(c:M Bool)(a b:M Fl)(r:aR):bD c a b r=(c r).then fun x r=>if x=true then a r else b r:=by unfold bD;rw[aG];congr;funext x r;cases x<;>rfl
@[simp] theorem I0(i:Nat)(f:M D)(r:aR):aN i f r=(f r).then fun d r=>if free r[i]?=true then .ok .nx (r.set i (.sh d)) else .no:=by unfold aN;rw[aG];congr;funext d r;rw[nP];unfold oM;split<;>rfl
@[simp] theorem IY(i:Nat)(f:M D)(r:aR):dZ i f r=(f r).then fun d r=>if free r[i]?=true then .ok .nx (r.set i (.ow d)) else .no:=by unfold dZ;rw[aG];congr;funext d r;rw[nP];unfold En;split<;>rfl
@[simp] theorem OF(i:Nat)(f:M Fl)(r:aR):uK i f r=(MK i r).then fun _=>f:=aG _ _ _
noncomputable def S9:Option Sl->Option D|some (.sh d)=>some d|_=>none
noncomputable def anyOf:Option Sl->Option D|some (.sh d)=>some d|some (.ow d)=>some d|some (.io d)=>some d|_=>none
@[simp] theorem Q30(d:D):S9 (some (.sh d))=some d:=RM
@[simp] theorem Q0Z(d:D):anyOf (some (.ow d))=some d:=RM
@[simp] theorem Q0a:free (some .no)=true:=RM
@[simp] theorem Q0P(d:D):free (some (.sh d))=true:=RM
@[simp] theorem yf(d:D):own (some (.ow d))=some d:=RM
@[simp] theorem Q2q(d:D):own (some (.io d))=some d:=RM
@[simp] theorem HH(i:Nat)(r:aR):af i r=opt (S9 r[i]?) r:=by unfold af;cases h:r[i]? with|none=>rfl|some s=>cases s<;>rfl
@[simp] theorem MN(i:Nat)(r:aR):wL i r=opt (anyOf r[i]?) r:=by unfold wL;cases h:r[i]? with|none=>rfl|some s=>cases s<;>rfl
noncomputable def XZ(i:Nat)(r:aR):Option Sl->Res Unit|some (.ow d)=>.ok () (r.set i (.sh d))|some (.sh _)=>.ok () r|_=>.no
@[simp] theorem Q2v(i:Nat)(r:aR):MK i r=XZ i r r[i]?:=by unfold MK;cases h:r[i]? with|none=>rfl|some s=>cases s<;>rfl
@[simp] theorem Q0j(i:Nat)(r:aR)(d:D):XZ i r (some (.ow d))=.ok () (r.set i (.sh d)):=RM
noncomputable def Ot(i:Nat)(r:aR):Option Sl->D->aR|some (.ow _),d=>r.set i (.ow d)|some (.io _),d=>r.set i (.io d)|_,_=>r
@[simp] theorem uE(i:Nat)(d:D)(r:aR):cE i d r=Ot i r r[i]? d:=by unfold cE;cases h:r[i]? with|none=>rfl|some s=>cases s<;>rfl
@[simp] theorem uD(i:Nat)(r:aR)(e d:D):Ot i r (some (.ow e)) d=r.set i (.ow d):=RM
@[simp] theorem Q32(i:Nat)(r:aR)(e d:D):Ot i r (some (.io e)) d=r.set i (.io d):=RM
@[simp] theorem mw(i:Nat)(g:D->PM)(r:aR):gg i g r=(opt (own r[i]?) r).then fun d r=>(opt (g d) r).then fun d' r=>.ok () (cE i d' r):=by unfold gg;cases own r[i]? with|none=>rfl|some d=>simp only[cx,dY,az];cases g d<;>rfl
@[simp] theorem IV(i:Nat)(fe:M D)(r:aR):kS i fe r=if isLst (own r[i]?)=true then(fe r).then fun x r=>(gg i (gD x) r).then fun _=>ret .nx else .no:=by unfold kS;split;rw[aG];congr;funext x r;exact nP _ _;rfl
@[simp] theorem isLst_lst(ds:RN):isLst (some (.lst ds))=true:=RM
@[simp] theorem Bx(i:Nat)(fk fv:M D)(r:aR):cB i fk fv r=(fv r).then fun v r=>if isLst (own r[i]?)=true then(fk r).then fun k r=>(gg i (setAt k v) r).then fun _=>ret .nx else .no:=by unfold cB;rw[aG];congr;funext v r;split;rw[aG];congr;funext k r;exact nP _ _;rfl
@[simp] theorem p9(i:Nat)(d:D)(r:aR):aE i d r=if free r[i]?=true then .ok () (r.set i (.sh d)) else .no:=RM
@[simp] theorem zS(i:Nat)(d:D)(r:aR):oM i d r=if free r[i]?=true then .ok () (r.set i (.sh d)) else .no:=RM
@[simp] theorem Q3B(r:aR):rC [] [] r=.ok () r:=RM
@[simp] theorem sJ(i:Nat)(is:UA)(d:D)(ds:RN)(r:aR):rC (i::is) (d::ds) r=(oM i d r).then fun _=>rC is ds:=aG _ _ _
@[simp] theorem GV(is:UA)(ds:RN):cJ is (.tup ds)=rC is ds:=RM
@[simp] theorem IW(it:M (List D))(g:D->M Unit)(body:M Fl)(r:aR):eG it g body r=(it r).then fun ds=>loop g body ds:=aG _ _ _
@[simp] theorem sR(g:D->M Unit)(body:M Fl)(d:D)(ds:RN)(r:aR):loop g body (d::ds) r=(g d r).then fun _ r=>(body r).turn (loop g body ds):=by
 conv=>lhs;unfold loop
 rw[aG];congr;funext u r;rw[aG];cases body r with|ok k r'=>cases k<;>rfl|_=>rfl
@[simp] theorem Q03(k:Nat)(g:D->M Unit)(test:M Bool)(elt:M D)(r:aR):turns k g test elt [] r=.ok () r:=RM
@[simp] theorem lK(k:Nat)(g:D->M Unit)(test:M Bool)(elt:M D)(d:D)(ds:RN)(r:aR):turns k g test elt (d::ds) r=(g d r).then fun _ r=>(test r).then fun b r=>if b=true then(elt r).then fun x r=>(gg k (gD x) r).then fun _=>turns k g test elt ds else turns k g test elt ds r:=by
 conv=>lhs;unfold turns
 rw[aG];congr;funext u r;rw[aG];congr;funext b r;cases b with|true=>simp only[if_true];rw[aG];congr;funext x r;exact aG _ _ _|false=>rfl
theorem qu(n:Nat)(it:M (List D))(g:D->M Unit)(test:M Bool)(elt:M D)(r:aR):aU n it g test elt r=(it r).then fun ds=>inner n fun k=>turns k g test elt ds:=aG _ _ _
def fin(fl:WK):Res Fl->FR
|.ok (.rt d) r=>match cj fl r with
  |some cK=>.ok d cK|none=>.no
 |.ok .nx r=>match cj fl r with|some cK=>.ok .bC cK|none=>.no
 |.exc x r=>match cj fl r with|some cK=>.exc x cK|none=>.no
 |_=>.no
theorem dh(n:Nat)(fl:WK)(body:M Fl)(ds:RN)(h:ds.length=fl.length):defn n fl body ds=fin fl (body (de n fl ds)):=by unfold defn;rw[Ge h];cases body (de n fl ds) with|ok k r=>cases k<;>rfl|_=>rfl
def JV(js:UA)(r:aR):FR->Res D|.ok d cK=>.ok d (putAll js cK r)|.exc x cK=>.exc x (putAll js cK r)|.no=>.no
@[simp] theorem pM(js:UA)(r:aR)(d:D)(cK:RN):JV js r (.ok d cK)=.ok d (putAll js cK r):=RM
@[simp] theorem yk(ds:RN)(r:aR):putAll [] ds r=r:=RM
@[simp] theorem v9(j:Nat)(js:UA)(d:D)(ds:RN)(r:aR):putAll (j::js) (d::ds) r=putAll js ds (cE j d r):=RM
@[simp] theorem Q05(r:aR):bR [] r=.ok [] r:=RM
@[simp] theorem Q2y(f:M D)(as:List Arg)(r:aR):bR (.val f::as) r=(f r).then fun d r=>(bR as r).then fun vs=>ret (.val d::vs):=by
 conv=>lhs;unfold bR
 rw[aG];congr;funext x r;exact aG _ _ _
@[simp] theorem Q0M(r:aR):rj [] r=some []:=RM
@[simp] theorem GD(d:D)(as:List AV)(r:aR):rj (.val d::as) r=(rj as r).map (d::·):=RM
@[simp] theorem Q1y(j:Nat)(as:List AV)(r:aR):rj (.io j::as) r=(own r[j]?).bind fun d=>(rj as r).map (d::·):=by
 conv=>lhs;unfold rj
 cases own r[j]?<;>rfl
@[simp] theorem Q0b:gb []=[]:=RM
@[simp] theorem DS(d:D)(as:List AV):gb (.val d::as)=gb as:=RM
@[simp] theorem G5(j:Nat)(as:List AV):gb (.io j::as)=j::gb as:=RM
@[simp] theorem Eh(f:Fn)(as:List Arg)(r:aR):ax f as r=(bR as r).then fun vs=>oK f vs:=aG _ _ _
@[simp] theorem uq(f:Fn)(vs:List AV)(r:aR):oK f vs r=(opt (rj vs r) r).then fun ds r=>if (gb vs).Nodup then JV (gb vs) r (f ds) else .no:=by unfold oK;cases rj vs r with|none=>rfl|some ds=>simp only[cx,dY,az];split;cases f ds<;>rfl;rfl
@[simp] theorem km(n:Nat)(b:Bool)(bs:WK)(d:D)(ds:RN):de (n+1) (b::bs) (d::ds)=(if b=true then .io d else .sh d)::de n bs ds:=by cases b<;>rfl
@[simp] theorem lJ(n:Nat):de n [] []=List.replicate n .no:=RM
@[simp] theorem BU(i j:Int):bj (.int i) (.int j)=some (.int (i+j)):=RM
@[simp] theorem Am(i j:Int):gJ (.int i) (.int j)=some (.int (i-j)):=RM
@[simp] theorem HN(i:Int):rH (.int i)=some (.int (-i)):=RM
@[simp] theorem lD(i j:Int):ltI (.int i) (.int j)=some (.bl (decide (i<j))):=RM
@[simp] theorem gp(i j:Int):o6 (.int i) (.int j)=some (.bl (decide (i<=j))):=RM
@[simp] theorem uc(i j:Int):xy (.int i) (.int j)=some (.bl (decide (j<i))):=RM
@[simp] theorem LN(i j:Int):Um (.int i) (.int j)=some (.bl (decide (j<=i))):=RM
theorem iS(i j:Int)(h:0<j):oO (.int i) (.int j)=some (.int (i % j)):=Ge h
theorem sH(i j:Int)(h:0<j)(h2:j<1073741824):zD (.int i) (.int j)=some (.int (i / j)):=Ge ⟨h,h2⟩
theorem nI(i j:Int)(h:-(2 ^ 64)<i)(h2:i<2 ^ 64):nH (.int i) (.int j)=some (.int (i*j)):=Ge (.inl ⟨h,h2⟩)
theorem gX(i j:Int)(h:-(2 ^ 64)<j)(h2:j<2 ^ 64):nH (.int i) (.int j)=some (.int (i*j)):=Ge (.inr ⟨h,h2⟩)
@[simp] theorem jg(i j:Int):bG (.int i) (.int j)=some (.bl (decide (i=j))):=by simp[bG,plain,vj];rfl
@[simp] theorem dk(i j:Int):dz (.int i) (.int j)=some (.bl (!decide (i=j))):=by simp[dz,plain,vj];rfl
@[simp] theorem Q35(ds:RN):bp (.tup ds)=some (.int ds.length):=RM
@[simp] theorem Q0L(ds:RN):bp (.lst ds)=some (.int ds.length):=RM
@[simp] theorem pe(i j:Int):maxD [.int i,.int j]=some (.int (max i j)):=by simp only[maxD,Option.some.injEq,D.int.injEq];split<;>lia
@[simp] theorem Fo(ds:RN):cy (.tup ds)=some ds:=RM
@[simp] theorem qT(ds:RN):cy (.lst ds)=some ds:=RM
@[simp] theorem HF(f:M D)(r:aR):dC f r=(f r).then fun d=>opt (cy d):=aG _ _ _
@[simp] theorem Ep(fl:List (M D))(r:aR):cH fl r=(mL fl r).then fun xs=>opt (uJ xs):=aG _ _ _
@[simp] theorem HI(fl:List (M D))(r:aR):qv fl r=(mL fl r).then fun xs=>opt (mO xs):=aG _ _ _
noncomputable def RC(n:Nat):RN:=(List.range n).map fun(i:Nat)=>D.int i
theorem Q1a(j:Int)(h:-(2 ^ 62)<=j)(h2:j<2 ^ 62):uJ [.int j]=some (RC j.toNat):=Ge ⟨h,h2⟩
theorem Jq(ds:RN)(h:ds.length<=16777216):BB ds=some (.tup ds):=Ge h
theorem Hu(ds:RN)(h:ds.length<=16777216):vO ds=some (.lst ds):=Ge h
@[simp] theorem Q2z:vO []=some (.lst []):=RM
@[simp] theorem Q37(a:D):vO [a]=some (.lst [a]):=RM
theorem ie(x:D)(xs:RN)(h:xs.length<16777216):gD x (.lst xs)=some (.lst (xs++[x])):=by show (if _ then _ else _)=_;rw[Ge h]
theorem Q2i(xs ys:RN)(h:xs.length+ys.length<=eL):bj (.tup xs) (.tup ys)=some (.tup (xs++ys)):=Ge h
theorem pH(xs ys:RN)(h:xs.length+ys.length<=eL):bj (.lst xs) (.lst ys)=some (.lst (xs++ys)):=Ge h
theorem j4(xs:RN)(i:Int)(d:D)(h0:0<=i)(h:xs[i.toNat]?=some d):zL xs i=some d:=by have hl:=(List.getElem?_eq_some_iff.mp h).1;unfold zL BN;rw[Ge h0,Ge T9];exact h
@[simp] theorem bnd(xs:RN)(i:Int):aq (.tup xs) (.int i)=zL xs i:=RM
@[simp] theorem iQ(xs:RN)(i:Int):aq (.lst xs) (.int i)=zL xs i:=RM
def intOf:D->M (Option Int)|.int i=>ret (some i)|_=>stuck
@[simp] theorem Q1e(f:M D)(r:aR):mq (some f) r=(f r).then intOf:=by show PN f _ r=_;rw[aG];cases f r with|ok d r'=>cases d<;>rfl|_=>rfl
@[simp] theorem MO(g:D->Pq->Pq->PM)(f:M D)(lo hi:Option (M D))(r:aR):oN g f lo hi r=(f r).then fun d r=>(mq lo r).then fun l r=>(mq hi r).then fun h=>opt (g d l h):=by unfold oN;rw[aG];congr;funext d r;rw[aG];congr;funext l r;exact aG _ _ _
@[simp] theorem MJ(g g2:D->D->PM)(a b c:M D)(r:aR):zQ g g2 a b c r=(a r).then fun x r=>(b r).then fun y r=>((opt (g x y) r).then boolOf).then fun k r=>if k=true then(c r).then fun z=>opt (g2 y z) else .ok (.bl false) r:=by
 unfold zQ;rw[aG];congr;funext x r;rw[aG];congr;funext y r;rw[aG];cases g x y with
 |none=>rfl|some d=>
  cases d<;>try rfl
  rename_i k;cases k;rfl;exact aG _ _ _
@[simp] theorem Q2x(f:M D)(r:aR):HD f r=(f r).then fun d=>opt ((cy d).map List.reverse):=aG _ _ _
@[simp] theorem vh(xs:RN)(lo hi:Pq):eU (.lst xs) lo hi=some (.lst (cutD xs lo hi)):=RM
theorem d7{r:aR}{xs:aR}{s s':Sl}:(r++s::xs).set r.length s'=r++s'::xs:=by rw[List.set_append_right _ _ (Uj _)];simp
theorem dt{r:aR}{xs:aR}{s:Sl}:(r++s::xs)[r.length]?=some s:=by rw[Sr (Uj _)];simp
theorem wA{r:aR}{s:Sl}{acc:RN}{x:D}(h:acc.length<16777216):gg (r.length+1) (gD x) (r++[s,.ow (.lst acc)])=.ok () (r++[s,.ow (.lst (acc++[x]))]):=by have e:r++[s,Sl.ow (.lst acc)]=(r++[s])++Sl.ow (.lst acc)::[]:=G9;have e2:r.length+1=(r++[s]).length:=G9;rw[e,e2,mw,dt];simp only[yf,cx,dY,az,ie x acc h,uE,dt,uD,d7];simp
theorem QD(t:D->Bool)(f:D->D)(qf:it r=.ok ds r)(hk:k=r.length)(hL:ds.length<=16777216)
  (ht:∀d∈ds,∀acc,test (r++[.sh d,.ow acc])=.ok (t d) (r++[.sh d,.ow acc]))
  (he:∀d∈ds,t d=true->∀acc,elt (r++[.sh d,.ow acc])=.ok (f d) (r++[.sh d,.ow acc])) :
  aU 1 it (aE k) test elt r=.ok (.lst ((ds.filter t).map f)) r:=by
 subst hk;have key:∀(es:RN)(acc:RN)(s:Sl),free (some s)=true->(∀d∈es,d∈ds)->acc.length+es.length<=16777216->∃s',turns (r.length+1) (aE r.length) test elt es (r++[s,.ow (.lst acc)])=.ok () (r++[s',.ow (.lst (acc++(es.filter t).map f))]):=by
  intro es;induction es with
  |nil=>intro acc s _ _ _;exact⟨s,G9⟩|cons d es ih=>
   intro acc s hs hm hl;have hd:=hm d QI;have PJ:∀x∈es,x∈ds:=fun x hx=>hm x (QC _ hx);have e1:aE r.length d (r++[s,.ow (.lst acc)])=.ok () (r++[.sh d,.ow (.lst acc)]):=by rw[p9,dt,Ge hs,d7]
   rw[lK,e1,az,ht d hd,az];cases q:t d with|false=>obtain⟨s',z⟩:=ih acc (.sh d) rfl PJ (by simp at hl;lia);refine⟨s',?_⟩;rw[UE G9,z,HW,q,UE G9]|true=>obtain⟨s',z⟩:=ih (acc++[f d]) (.sh d) rfl PJ (by simp at hl ⊢;lia);refine⟨s',?_⟩;rw[Ge rfl,he d hd q,az,wA (by simp at hl;lia),az,z,HW,q,Ge rfl];simp
 obtain⟨s',z⟩:=key ds [] .no rfl (fun _ h=>h) (by simpa using hL);rw[qu,qf,az];unfold inner;have e:r++List.replicate 1 Sl.no++[Sl.ow (.lst [])]=r++[.no,.ow (.lst [])]:=G9;dsimp only;rw[e,z];have e2:(r++[s',Sl.ow (.lst ([]++(ds.filter t).map f))])[r.length+1]?=some (.ow (.lst ([]++(ds.filter t).map f))):=by rw[Sr T9];simp
 simp only[e2];simp
theorem Lg(f:D->D)(qf:it r=.ok ds r)(hk:k=r.length)(hL:ds.length<=16777216)
  (he:∀d∈ds,∀acc,elt (r++[.sh d,.ow acc])=.ok (f d) (r++[.sh d,.ow acc])) :
  aU 1 it (aE k) (ret true) elt r=.ok (.lst (ds.map f)) r:=by
 have:=QD (test:=ret true) (fun _=>true) f qf hk hL (fun _ _ _=>rfl) (fun d h _=>he d h);rw[this,List.filter_eq_self.mpr (fun _ _=>rfl)]
end
@[simp] theorem Q36(r:aR):cj [] r=some []:=by cases r<;>rfl
@[simp] theorem Q0O(bs:WK)(s:Sl)(r:aR):cj (false::bs) (s::r)=cj bs r:=RM
@[simp] theorem Q3A(bs:WK)(d:D)(r:aR):cj (true::bs) (.io d::r)=(cj bs r).map (d::·):=RM
noncomputable def LB(d:D):Option (List D)->FR|some cK=>.ok d cK|none=>.no
@[simp] theorem Q2w(d:D)(l:RN):LB d (some l)=.ok d l:=RM
@[simp] theorem Q07(fl:WK)(d:D)(r:aR):fin fl (.ok (.rt d) r)=LB d (cj fl r):=by unfold fin LB;first|(dsimp only;done)|(dsimp only;cases cj fl r<;>rfl)
@[simp] theorem qP(n:Nat):List.replicate (n+1) Sl.no=.no::List.replicate n .no:=RM
@[simp] theorem Fe:List.replicate 0 Sl.no=[]:=RM
noncomputable def T(xs:R4):D:=.tup (xs.map .int)
noncomputable def Z(xs:R4):D:=.lst (xs.map .int)
@[simp] theorem Q0q(xs:R4):bp (T xs)=some (.int xs.length):=by simp[T]
@[simp] theorem D9(xs:R4):bp (Z xs)=some (.int xs.length):=by simp[Z]
@[simp] theorem uL(xs:R4):cy (T xs)=some (xs.map .int):=RM
@[simp] theorem OH(xs:R4):cy (Z xs)=some (xs.map .int):=RM
@[simp] theorem Hw(xs:R4):iR (T xs)=some (Z xs):=RM
@[simp] theorem Hx(xs:R4):iR (Z xs)=some (Z xs):=RM
@[simp] theorem Q1u(xs:R4):iA (T xs)=some (T xs):=RM
@[simp] theorem An(xs:R4):iA (Z xs)=some (T xs):=RM
@[simp] theorem Q3I(k:String)(xs:R4):kR k (T xs)=some (.bl ("tuple" == k)):=by simp only[kR,T,vL,Option.map_some];simp
@[simp] theorem Q0N(i:Int):kR "int" (.int i)=some (.bl true):=RM
@[simp] theorem Q0e(i:Int):kR "bool" (.int i)=some (.bl false):=by simp[kR,vL]
@[simp] theorem Q0g(xs:R4)(i:Int):aq (Z xs) (.int i)=zL (xs.map .int) i:=RM
theorem fQ(xs:R4)(i:Int)(h0:0<=i)(h:i<xs.length):zL (xs.map D.int) i=some (.int (xs.getD i.toNat 0)):=by refine j4 _ _ _ h0 ?_;have h2:i.toNat<xs.length:=T9;simp[h2]
theorem fK(xs ys:R4)(h:xs.length+ys.length<=eL):bj (T xs) (T ys)=some (T (xs++ys)):=by unfold T;rw[Q2i]<;>simp[h]
theorem K3(xs ys:R4)(h:xs.length+ys.length<=eL):bj (Z xs) (Z ys)=some (Z (xs++ys)):=by unfold Z;rw[pH]<;>simp[h]
theorem BZ(xs:R4)(x:Int)(h:xs.length<16777216):gD (.int x) (Z xs)=some (Z (xs++[x])):=by unfold Z;rw[ie];simp;simpa using h
theorem O3:D.tup []=T []:=RM
theorem RT:D.lst []=Z []:=RM
theorem iz(n:Nat)(xs:R4):dE n (xs.map .int)=true:=by induction xs with|nil=>cases n<;>rfl|cons x xs ih=>simp[dE,ih];cases n<;>simp[plain]
theorem kB(xs ys:R4):m8 (xs.map .int) (ys.map .int)=decide (xs=ys):=by induction xs generalizing ys with|nil=>cases ys<;>simp[m8]|cons x xs ih=>cases ys with|nil=>simp[m8]|cons y ys=>simp[m8,ih,vj];rfl
@[simp] theorem Dg(xs ys:R4):bG (T xs) (T ys)=some (.bl (decide (xs=ys))):=by unfold bG T;simp[plain,iz,vk,yV,kB]
@[simp] theorem zW(xs ys:R4):dz (T xs) (T ys)=some (.bl (!decide (xs=ys))):=by unfold dz T;simp[plain,iz,vk,yV,kB]
theorem BI(a b:D)(xs ys:R4)(ha:cy a=some (xs.map .int))(hb:cy b=some (ys.map .int)):mO [a,b]=some ((xs.zip ys).map fun p=>.tup [.int p.1,.int p.2]):=by simp only[mO,ha,hb];congr 1;clear ha hb;induction xs generalizing ys with|nil=>simp|cons x xs ih=>cases ys with|nil=>simp|cons y ys=>simp[ih]
@[simp] theorem OC(xs:R4):rK (Z xs)=some (T xs.reverse):=by simp[rK,T]
theorem qQ(j:Int)(n:Nat)(h:j.toNat=n)(h2:-(2 ^ 62)<=j)(h3:j<2 ^ 62):uJ [.int j]=some ((List.range n).map fun(k:Nat)=>.int k):=by subst h;exact Q1a j h2 h3
noncomputable def bH(g:D->M Unit)(body:M Fl)(d:D)(r:aR):Res Fl:=(g d r).then fun _=>body
noncomputable def cont:Res Fl->Option aR|.ok .nx r=>some r|.ok .ct r=>some r|_=>none
@[simp] theorem Q06(r:aR):cont (.ok .nx r)=some r:=RM
theorem eA(h:cont (bH g body d r)=some r'):loop g body (d::ds) r=loop g body ds r':=by rw[sR];unfold bH at h;cases q:g d r with|no=>rw[q] at h;cases h|exc x r=>rw[q] at h;cases h|ok u r1=>rw[q,az] at h;rw[az];cases q2:body r1 with|no=>rw[q2] at h;cases h|exc x r=>rw[q2] at h;cases h|ok k r2=>rw[q2] at h;cases k with|nx=>cases h;rfl|ct=>cases h;rfl|bk=>cases h|rt v=>cases h
theorem Ea(h:bH g body d r=.ok (.rt v) r'):loop g body (d::ds) r=.ok (.rt v) r':=by rw[sR];unfold bH at h;cases q:g d r with|no=>rw[q] at h;cases h|exc x r=>rw[q] at h;cases h|ok u r1=>rw[q,az] at h;rw[az,h];rfl
noncomputable def jU{S E A:Type}(step:S->A->E ⊕ S):List A->S->E ⊕ S|[],s=>.inr s|a::as,s=>match step s a with|.inl e=>.inl e|.inr s'=>jU step as s'
theorem lC{S Tm A:Type}(mk:A->D)(R:S->Tm->aR)(ok:Tm->Prop)(step:S->A->D ⊕ S):∀(as:List A)(P:Nat->S->Prop)(s:S)(t:Tm),ok t->P 0 s ->
  (∀(i:Nat)(a:A),as[i]?=some a->∀s t,ok t->P i s->match step s a with|.inr s'=>P (i+1) s'/\∃t',ok t'/\cont (bH g body (mk a) (R s t))=some (R s' t')|.inl v=>∃s' t',bH g body (mk a) (R s t)=.ok (.rt v) (R s' t')) ->
  match jU step as s with|.inr s'=>P as.length s'/\∃t',ok t'/\loop g body (as.map mk) (R s t)=.ok .nx (R s' t')|.inl v=>∃s' t',loop g body (as.map mk) (R s t)=.ok (.rt v) (R s' t'):=by
 intro as;induction as with|nil=>intro P s t ht hs _;exact⟨hs,t,ht,rfl⟩|cons a as ih=>intro P s t ht hs h;have h1:=h 0 a rfl s t ht hs;simp only[jU,List.map_cons];cases q:step s a with|inl v=>rw[q] at h1;obtain⟨s',t',e⟩:=h1;exact⟨s',t',Ea e⟩|inr s1=>rw[q] at h1;obtain⟨p1,t1,o1,e1⟩:=h1;have h2:=ih (fun k=>P (k+1)) s1 t1 o1 p1 fun i a' ha=>h (i+1) a' (by simpa using ha);have e:(a::as).length=as.length+1:=G9;dsimp only;rw[e];cases q2:jU step as s1 with|inl v=>rw[q2] at h2;obtain⟨s',t',z⟩:=h2;exact⟨s',t',by rw[eA e1];exact z⟩|inr s2=>rw[q2] at h2;obtain⟨p2,t2,o2,z⟩:=h2;exact⟨p2,t2,o2,by rw[eA e1];exact z⟩
theorem jk{S Tm A:Type}(mk:A->D)(R:S->Tm->aR)(ok:Tm->Prop)(P:Nat->S->Prop)(step:S->A->S)(as:List A)(s:S)(t:Tm)(ht:ok t)(hs:P 0 s)
  (h:∀(i:Nat)(a:A),as[i]?=some a->∀s t,ok t->P i s->P (i+1) (step s a)/\∃t',ok t'/\cont (bH g body (mk a) (R s t))=some (R (step s a) t')) :
  P as.length (as.foldl step s)/\∃t',ok t'/\loop g body (as.map mk) (R s t)=.ok .nx (R (as.foldl step s) t'):=by
 have:=lC (g:=g) (body:=body) mk R ok (fun s a=>.inr (step s a)) as P s t ht hs h;have e:∀(as:List A)(s:S),jU (E:=D) (fun s a=>.inr (step s a)) as s=.inr (as.foldl step s):=by intro as;induction as with|nil=>intro s;rfl|cons a as ih=>intro s;exact ih _
 rw[e] at this;exact this
theorem fF(h:(List.range n)[i]?=some k):k=i/\i<n:=by have h1:=(List.getElem?_eq_some_iff.mp h).1;simp at h1;rw[Mr h1] at h;exact⟨(RD h).symm,h1⟩
def vB(s:Sl):Prop:=free (some s)=true
def l8(s:Sl×Sl):Prop:=free (some s.1)=true/\free (some s.2)=true
def zG(s:Sl×Sl×Sl):Prop:=free (some s.1)=true/\free (some s.2.1)=true/\free (some s.2.2)=true
@[simp] theorem Hg(j:Nat)(i:D)(r:aR):DZ j i r=(opt (own r[j]?) r).then fun d=>opt (aq d i):=by unfold DZ;cases own r[j]?<;>rfl
@[simp] theorem Hz(j:Nat)(fb:M D)(r:aR):bO j fb r=if (own r[j]?).isSome=true then(fb r).then (DZ j) else .no:=by unfold bO;split;exact aG _ _ _;rfl
theorem Hh(n:Nat)(i:Int)(h0:0<=i)(h:i<n):BN n i=some i.toNat:=by unfold BN;rw[Ge h0,Ge h]
theorem kK(xs:RN)(i:Int)(v:D)(h0:0<=i)(h:i<xs.length):setAt (.int i) v (.lst xs)=some (.lst (xs.set i.toNat v)):=by show (BN xs.length i).map _=_;rw[Hh _ _ h0 h];rfl
theorem uM(xs:R4)(i v:Int)(h0:0<=i)(h:i<xs.length):setAt (.int i) (.int v) (Z xs)=some (Z (xs.set i.toNat v)):=by unfold Z;rw[kK _ _ _ h0 (by simpa using h)];simp
noncomputable def outs{S A B:Type}(step:S->A->S)(f:S->A->B):S->List A->List B|_,[]=>[]|s,a::as=>f s a::outs step f (step s a) as
theorem JZ{S A:Type}(mk:A->D)(R:S->aR)(P:Nat->S->Prop)(step:S->A->S)(f:S->A->D)(as:List A)(s:S)
  (R5:∀s,(R s).length=k) (qf:it r0=.ok (as.map mk) (R s)) (hL:as.length<=16777216) (hP:P 0 s)
  (he:∀(i:Nat)(a:A),as[i]?=some a->∀s acc,P i s->P (i+1) (step s a)/\elt (R s++[.sh (mk a),.ow acc])=.ok (f s a) (R (step s a)++[.sh (mk a),.ow acc])) :
  aU 1 it (aE k) (ret true) elt r0=.ok (.lst (outs step f s as)) (R (as.foldl step s))/\P as.length (as.foldl step s):=by
 have key:∀(es:List A)(n:Nat)(acc:RN)(x:Sl)(s:S),free (some x)=true->(∀(i:Nat)(a:A),es[i]?=some a->as[n+i]?=some a)->acc.length+es.length<=16777216->P n s->(∃x',turns (k+1) (aE k) (ret true) elt (es.map mk) (R s++[x,.ow (.lst acc)])=.ok () (R (es.foldl step s)++[x',.ow (.lst (acc++outs step f s es))]))/\P (n+es.length) (es.foldl step s):=by
  intro es;induction es with
  |nil=>intro n acc x s _ _ _ hp;exact⟨⟨x,by simp[outs]⟩,hp⟩|cons a es ih=>
   intro n acc x s hx hm hl hp;obtain⟨p1,e1⟩:=he n a (hm 0 a rfl) s (.lst acc) hp;obtain⟨⟨x',e2⟩,p2⟩:=ih (n+1) (acc++[f s a]) (.sh (mk a)) (step s a) rfl (fun i b hb=>by rw[Nat.add_assoc,Nat.add_comm 1 i];exact hm (i+1) b hb) (by simp at hl ⊢;lia) p1;refine⟨⟨x',?_⟩,?_⟩;have g1:aE k (mk a) (R s++[x,.ow (.lst acc)])=.ok () (R s++[.sh (mk a),.ow (.lst acc)]):=by have:=dt (r:=R s) (xs:=[.ow (.lst acc)]) (s:=x);have:=d7 (r:=R s) (xs:=[.ow (.lst acc)]) (s:=x) (s':=.sh (mk a));rw[R5 s] at *;rw[p9];simp_all
   have u1:gg (k+1) (gD (f s a)) (R (step s a)++[.sh (mk a),.ow (.lst acc)])=.ok () (R (step s a)++[.sh (mk a),.ow (.lst (acc++[f s a]))]):=by have:=wA (r:=R (step s a)) (s:=.sh (mk a)) (acc:=acc) (x:=f s a) (by simp at hl;lia);rw[R5] at this;exact this
   rw[Po,lK,g1,az,dY,az,Ge rfl,e1,az,u1,az,e2];simp[outs];have e:n+(a::es).length=n+1+es.length:=by simp;lia
   rw[e];exact p2
 obtain⟨⟨x',z⟩,p⟩:=key as 0 [] .no s rfl (fun i a h=>by rw[AE];exact h) (by simpa using hL) hP;refine⟨?_,by rw[AE] at p;exact p⟩;rw[qu,qf,az];unfold inner;have e:R s++List.replicate 1 Sl.no++[Sl.ow (.lst [])]=R s++[.no,.ow (.lst [])]:=G9;dsimp only;rw[e,R5,z];have e2:(R (as.foldl step s)++[x',Sl.ow (.lst ([]++outs step f s as))])[k+1]?=some (.ow (.lst ([]++outs step f s as))):=by rw[Sr (by rw[R5];lia),R5];simp
 simp only[e2];have e3:List.take k (R (as.foldl step s)++[x',Sl.ow (.lst ([]++outs step f s as))])=R (as.foldl step s):=by rw[<-R5 (as.foldl step s)];simp
 rw[e3];simp
theorem vX{S A B:Type}(f:A->B)(s:S):∀as:List A,outs (fun(s:S)(_:A)=>s) (fun _ a=>f a) s as=as.map f|[]=>rfl|a::as=>by simp[outs,vX f s as]
theorem iJ{A:Type}{it:M (List D)}{elt:M D}{k:Nat}{r:aR}{out:D}(mk:A->D)(f:A->D)(as:List A)(qf:it r=.ok (as.map mk) r)(hL:as.length<=16777216)(xD:D.lst (as.map f)=out)(he:∀a∈as,∀acc,elt (r++[.sh (mk a),.ow acc])=.ok (f a) (r++[.sh (mk a),.ow acc])) (hk:r.length=k:=by rfl):aU 1 it (aE k) (ret true) elt r=.ok out r:=by have:=(JZ (elt:=elt) mk (fun(_:Unit)=>r) (fun _ _=>True) (fun s _=>s) (fun _ a=>f a) as () (fun _=>hk) qf hL trivial fun i a ha s acc _=>⟨trivial,he a (Np ha) acc⟩).1;rw[vX,xD] at this;exact this
@[simp] theorem Sh(xs ys:R4):dz (Z xs) (Z ys)=some (.bl (!decide (xs=ys))):=by unfold dz Z;simp[plain,iz,vk,yV,kB]
@[simp] theorem Q0I(a:D)(xs:RN):zL (a::xs) 0=some a:=j4 _ _ _ T9 rfl
@[simp] theorem Q3C(a b c:D):BB [a,b,c]=some (.tup [a,b,c]):=RM
@[simp] theorem Q2r(a b c d:D):vO [a,b,c,d]=some (.lst [a,b,c,d]):=RM
theorem JY{A:Type}(mk:A->D)(sl:A->List Sl)(t:A->Bool)(f:A->D)(as:List A)(hk:r.length=k)(qf:it r=.ok (as.map mk) r)(hL:as.length<=16777216)
  (Rm:∀a∈as,(sl a).length=n/\∀x∈sl a,free (some x)=true)
  (hg:∀a∈as,∀(ts:List Sl) acc,ts.length=n->(∀x∈ts,free (some x)=true)->g (mk a) (r++ts++[.ow acc])=.ok () (r++sl a++[.ow acc]))
  (ht:∀a∈as,∀acc,test (r++sl a++[.ow acc])=.ok (t a) (r++sl a++[.ow acc]))
  (he:∀a∈as,t a=true->∀acc,elt (r++sl a++[.ow acc])=.ok (f a) (r++sl a++[.ow acc])) :
  aU n it g test elt r=.ok (.lst ((as.filter t).map f)) r:=by
 subst hk;have TB:∀(ts:List Sl)(acc:RN)(x:D),ts.length=n->acc.length<16777216->gg (r.length+n) (gD x) (r++ts++[.ow (.lst acc)])=.ok () (r++ts++[.ow (.lst (acc++[x]))]):=by
  intro ts acc x h1 h2;have e2:r.length+n=(r++ts).length:=by simp[h1]
  rw[e2,mw];have:=dt (r:=r++ts) (xs:=[]) (s:=.ow (.lst acc));rw[this];have:=d7 (r:=r++ts) (xs:=[]) (s:=.ow (.lst acc)) (s':=.ow (.lst (acc++[x])));simp only[yf,cx,dY,az,ie x acc h2,uE,dt,uD,this]
 have key:∀(es:List A)(acc:RN)(ts:List Sl),ts.length=n->(∀x∈ts,free (some x)=true)->(∀d∈es,d∈as)->acc.length+es.length<=16777216->∃KJ,KJ.length=n/\turns (r.length+n) g test elt (es.map mk) (r++ts++[.ow (.lst acc)])=.ok () (r++KJ++[.ow (.lst (acc++(es.filter t).map f))]):=by intro es;induction es with|nil=>intro acc ts h1 _ _ _;exact⟨ts,h1,G9⟩|cons a es ih=>intro acc ts h1 h2 hm hl;have ha:=hm a QI;have PJ:∀x∈es,x∈as:=fun x hx=>hm x (QC _ hx);rw[Po,lK,hg a ha ts _ h1 h2,az,ht a ha,az];cases q:t a with|false=>obtain⟨KJ,z1,z2⟩:=ih acc (sl a) (Rm a ha).1 (Rm a ha).2 PJ (by simp at hl;lia);refine⟨KJ,z1,?_⟩;rw[UE G9,z2,HW,q,UE G9]|true=>obtain⟨KJ,z1,z2⟩:=ih (acc++[f a]) (sl a) (Rm a ha).1 (Rm a ha).2 PJ (by simp at hl ⊢;lia);refine⟨KJ,z1,?_⟩;rw[Ge rfl,he a ha q,az,TB _ _ _ (Rm a ha).1 (by simp at hl;lia),az,z2,HW,q,Ge rfl];simp
 obtain⟨KJ,z1,z2⟩:=key as [] (List.replicate n .no) G9 (fun x hx=>by rw[List.eq_of_mem_replicate hx];rfl) (fun _ h=>h) (by simpa using hL);rw[qu,qf,az];unfold inner;dsimp only;rw[z2];have e2:(r++KJ++[Sl.ow (.lst ([]++(as.filter t).map f))])[r.length+n]?=some (.ow (.lst ([]++(as.filter t).map f))):=by rw[Sr (by simp;lia)];simp[z1]
 simp only[e2];simp
theorem Q1s{r:aR}{ts:List Sl}{acc x y:D}(h1:ts.length=2)(h2:∀x∈ts,free (some x)=true):cJ [r.length,r.length+1] (.tup [x,y]) (r++ts++[.ow acc])=.ok () (r++[.sh x,.sh y]++[.ow acc]):=by
 match ts,h1,h2 with
 |[s,s2],_,h2=>
  have hs:=h2 s QI;have jW:=h2 s2 (QC _ QI);have g2:(r++[Sl.sh x,s2,.ow acc])[r.length+1]?=some s2:=by rw[Sr T9];simp
  have g3:(r++[Sl.sh x,s2,.ow acc]).set (r.length+1) (.sh y)=r++[.sh x,.sh y,.ow acc]:=by rw[List.set_append_right _ _ T9];simp
  simp only[List.append_assoc,List.cons_append,List.nil_append];rw[GV,sJ,zS,dt,Ge hs,d7,az,sJ,zS,g2,Ge jW,g3];rfl
theorem Lh{A:Type}{it:M (List D)}{test:M Bool}{elt:M D}{k:Nat}{r:aR}{out:D}(m1 m2:A->D)(t:A->Bool)(f:A->D)(as:List A)(qf:it r=.ok (as.map fun a=>.tup [m1 a,m2 a]) r)(hL:as.length<=16777216)(xD:D.lst ((as.filter t).map f)=out)
  (ht:∀a∈as,∀acc,test (r++[.sh (m1 a),.sh (m2 a),.ow acc])=.ok (t a) (r++[.sh (m1 a),.sh (m2 a),.ow acc]))
  (he:∀a∈as,t a=true->∀acc,elt (r++[.sh (m1 a),.sh (m2 a),.ow acc])=.ok (f a) (r++[.sh (m1 a),.sh (m2 a),.ow acc])) (hk:r.length=k:=by rfl) :
  aU 2 it (cJ [k,k+1]) test elt r=.ok out r:=by
 rw[<-xD];subst hk;refine JY (fun a=>.tup [m1 a,m2 a]) (fun a=>[.sh (m1 a),.sh (m2 a)]) t f as rfl qf hL (fun a _=>⟨rfl,by intro x hx;simp at hx;rcases hx with rfl|rfl<;>rfl⟩) (fun a ha ts acc h1 h2=>Q1s h1 h2) (fun a ha acc=>?_) fun a ha q acc=>?_;have:=ht a ha acc;simpa using this;have:=he a ha q acc;simpa using this
theorem Lj{A:Type}{it:M (List D)}{elt:M D}{k:Nat}{r:aR}{out:D}(m1 m2:A->D)(f:A->D)(as:List A)(qf:it r=.ok (as.map fun a=>.tup [m1 a,m2 a]) r)(hL:as.length<=16777216)(xD:D.lst (as.map f)=out)
  (he:∀a∈as,∀acc,elt (r++[.sh (m1 a),.sh (m2 a),.ow acc])=.ok (f a) (r++[.sh (m1 a),.sh (m2 a),.ow acc])) (hk:r.length=k:=by rfl) :
  aU 2 it (cJ [k,k+1]) (ret true) elt r=.ok out r:=
 Lh m1 m2 (fun _=>true) f as qf hL (by rw[List.filter_eq_self.mpr (fun _ _=>rfl)];exact xD) (fun _ _ _=>rfl) (fun a ha _ acc=>he a ha acc) hk
theorem tQ{A:Type}{it:M (List D)}{test:M Bool}{elt:M D}{k:Nat}{r:aR}{out:D}(mk:A->D)(t:A->Bool)(f:A->D)(as:List A)(qf:it r=.ok (as.map mk) r)(hL:as.length<=16777216)(xD:D.lst ((as.filter t).map f)=out)
  (ht:∀a∈as,∀acc,test (r++[.sh (mk a),.ow acc])=.ok (t a) (r++[.sh (mk a),.ow acc]))
  (he:∀a∈as,t a=true->∀acc,elt (r++[.sh (mk a),.ow acc])=.ok (f a) (r++[.sh (mk a),.ow acc])) (hk:r.length=k:=by rfl) :
  aU 1 it (aE k) test elt r=.ok out r:=by
 rw[<-xD];subst hk;refine JY mk (fun a=>[.sh (mk a)]) t f as rfl qf hL (fun a _=>⟨rfl,by intro x hx;simp at hx;rw[hx];rfl⟩) (fun a ha ts acc h1 h2=>?_) (fun a ha acc=>?_) fun a ha q acc=>?_
 match ts,h1,h2 with|[s],_,h2=>have hs:=h2 s QI;simp only[List.append_assoc,List.cons_append,List.nil_append];rw[p9,dt,Ge hs,d7]
 have:=ht a ha acc;simpa using this;have:=he a ha q acc;simpa using this
@[simp] theorem Ek(c:Str)(f:Fn)(as:List Arg)(r:aR):eC c f as r=(bR as r).then fun vs=>A8 c f vs:=aG _ _ _
@[simp] theorem Q1v(c m:Str)(f:Fn)(fo:M D)(as:List Arg)(r:aR):cw c m f fo as r=(fo r).then fun o r=>if jE c m o=true then(bR as r).then fun vs=>oK f (.val o::vs) else .no:=by unfold cw;rw[aG];congr;funext o r;split;exact aG _ _ _;rfl
@[simp] theorem Ej(fl:List (M D))(r:aR):oz fl r=(mL fl r).then fun xs=>opt (lY xs):=aG _ _ _
@[simp] theorem Q39(fl:List (M D))(r:aR):Ei fl r=(mL fl r).then fun xs=>opt (Fh xs):=aG _ _ _
@[simp] theorem sj(ds:RN):lY [.lst ds]=some (kU ds):=RM
theorem sk{A:Type}(mk:A->D)(as:List A):kU (as.map mk)=(List.range as.length).zipWith (fun i a=>D.tup [.int (i:Nat),mk a]) as:=by unfold kU;rw[UR,List.zipWith_map_right]
@[simp] theorem u0(al:Bool)(ds:RN):oF al (.lst ds)=(i8 ds).map fun bs=>.bl (if al then bs.all id else bs.any id):=RM
theorem ll{A:Type}(f:A->Bool):∀as:List A,i8 (as.map fun a=>D.bl (f a))=some (as.map f)|[]=>rfl|a::as=>by simp[i8,ll f as]
theorem BW{A:Type}(f:A->Bool)(as:List A):oF true (.lst (as.map fun a=>D.bl (f a)))=some (.bl (as.all f)):=by rw[u0,ll];simp[Function.comp_def]
theorem BY{A:Type}(f:A->Bool)(as:List A):oF false (.lst (as.map fun a=>D.bl (f a)))=some (.bl (as.any f)):=by rw[u0,ll];simp[Function.comp_def]
theorem Em(c:Str)(f:Fn)(vals:RN)(d:D)(r:aR)(h:f (.ins c [] []::vals)=.ok .bC [d]):A8 c f (vals.map AV.val) r=.ok d r:=by
 have e1:∀(vs:RN)(r:aR),rj (vs.map AV.val) r=some vs:=fun vs r=>by induction vs with|nil=>rfl|cons v vs ih=>simp[ih]
 have e2:∀vs:RN,gb (vs.map AV.val)=[]:=fun vs=>by induction vs with|nil=>rfl|cons v vs ih=>simp[ih]
 have g:(r++[Sl.ow (.ins c [] [])])[r.length]?=some (.ow (.ins c [] [])):=G9;have p:putAll [r.length] [d] (r++[Sl.ow (.ins c [] [])])=r++[.ow d]:=by rw[v9,yk,uE,g,uD,d7]
 unfold A8;rw[uq,Q1y,g];simp only[yf,Option.bind_some,e1,Option.map_some,cx,dY,az,G5,e2];rw[Ge G9,h,pM,p];simp
@[simp] theorem Q08(g:D->D->PM)(j:Nat)(d:D)(r:aR):vf g j d r=(opt (own r[j]?) r).then fun x=>opt (g x d):=by unfold vf;cases own r[j]?<;>rfl
@[simp] theorem Q2t(g:D->D->PM)(j:Nat)(fb:M D)(r:aR):sT g j fb r=if (own r[j]?).isSome=true then(fb r).then (vf g j) else .no:=by unfold sT;split;exact aG _ _ _;rfl
@[simp] theorem Q09(x y:D):Ug true x y=dz x y:=RM
theorem kE:∀ns:R4,ff (ns.map .int)=some ns|[]=>rfl|n::ns=>by rw[Po,ff,kE ns];rfl
theorem Jg(xs:R4)(h:xs.length<64):wk (T xs)=some (Z (sortI xs)):=by have e:cy (T xs)=some (xs.map .int):=rfl;unfold wk;rw[e];dsimp only;rw[kE];dsimp only;rw[if_pos h];rfl
noncomputable def oS(n:Nat):R4:=(List.range n).map fun(k:Nat)=>(k:Int)
theorem Ht(n:Nat)(h:n<=1000):Ec [.int n]=some (Z (oS n)):=by simp only[Ec];rw[Ge T9];simp[Z,oS,Function.comp_def]
theorem nR(h:sortI xs=oS n)(hx:x∈xs):∃k:Nat,x=k/\k<n:=by have:=(sortI_perm xs).mem_iff.mpr hx;rw[h] at this;obtain⟨k,hk,rfl⟩:=List.mem_map.mp this;exact⟨k,rfl,by simpa using hk⟩
def Iz(i:Nat)(r:aR):D->Res D
|.lst xs=>match xs.getLast? with
  |some d=>.ok d (cE i (.lst xs.dropLast) r)|none=>.no
 |_=>.no
@[simp] theorem Q02(i:Nat)(r:aR):Eo i r=(opt (own r[i]?) r).then fun d r=>Iz i r d:=by unfold Eo;cases own r[i]? with|none=>rfl|some d=>cases d<;>rfl
@[simp] theorem EV(i:Nat)(r:aR)(xs:RN)(d:D):Iz i r (.lst (xs++[d]))=.ok d (cE i (.lst xs) r):=by unfold Iz;simp
@[simp] theorem Q0l(i:Nat)(fe:M D)(r:aR):Fi i fe r=if isLst (own r[i]?)=true then(fe r).then fun x r=>(gg i (xn x) r).then fun _=>ret .nx else .no:=by unfold Fi;split;rw[aG];congr;funext k r;exact nP _ _;rfl
theorem GQ(xs ys:RN)(h:xs.length+ys.length<=eL):xn (.lst ys) (.lst xs)=some (.lst (xs++ys)):=Ge h
@[simp] theorem Q2u(neg:Bool)(j:Nat)(x:D)(r:aR):DQ neg j x r=(opt (own r[j]?) r).then fun y=>opt (inD neg x y):=by unfold DQ;cases own r[j]?<;>rfl
@[simp] theorem Q0c(neg:Bool)(fa:M D)(j:Nat)(r:aR):Hy neg fa j r=(fa r).then (DQ neg j):=aG _ _ _
@[simp] theorem A6(f:Fn)(a:M D)(r:aR):nE f a r=(a r).then (B0 f):=aG _ _ _
theorem GB(f:Fn)(d v:D)(w:D)(r:aR)(h:f [d]=.ok v [w]):B0 f d r=.ok v r:=by unfold B0;rw[h]
def KL(r:aR):Res D->Res D|.ok (.lst ds) _=>if noLs ds then .ok (.lst ds) r else .no|_=>.no
@[simp] theorem vQ(f:M D)(r:aR):lb f r=KL r (f (r.map fJ)):=by unfold lb;cases f (r.map fJ) with|ok d r=>cases d<;>rfl|exc e r=>rfl|no=>rfl
theorem wC(r r':aR)(ds:RN)(h:noLs ds=true):KL r (.ok (.lst ds) r')=.ok (.lst ds) r:=Ge h
@[simp] theorem wD(d:D):fJ (.ow d)=.sh d:=rfl
@[simp] theorem Q1m(d:D):fJ (.io d)=.sh d:=rfl
@[simp] theorem wF(d:D):fJ (.sh d)=.sh d:=rfl
@[simp] theorem FK:fJ .no=.no:=rfl
theorem oE(h:c r=.ok false r'):gx c b (n+1) r=.ok .nx r':=by unfold gx;rw[aG,h];rfl
theorem tF(h:c r=.ok true r1)(h2:b r1=.ok .nx r2):gx c b (n+1) r=gx c b n r2:=by rw[gx,aG,h];show (PN b _) r1=_;rw[aG,h2];rfl
theorem Es(xs:R4)(d:D):nG (T xs) d=match xs with|[]=>some d|i::is=>some (.int (is.foldl (fun a b=>if a<b then b else a) i)):=by
 have e:ff (xs.map .int)=some xs:=by induction xs with|nil=>rfl|cons x xs ih=>simp[ff,ih]
 show (match ff (xs.map .int) with|some []=>some d|some (i::is)=>some (.int (is.foldl (fun a b=>if a<b then b else a) i))|none=>none)=_;rw[e];cases xs<;>rfl
variable{α β:Type}
def OK:Fl->M Fl->M Fl|.nx,g=>g|k,_=>ret k
theorem Q2j(h:f r=.ok k r1)(h2:OK k g r1=R):ak f g r=R:=by rw[cP,h];cases k<;>exact h2
theorem Ja(h:g r=R):OK .nx g r=R:=h
theorem Jb:OK (.rt d) g r=.ok (.rt d) r:=rfl
theorem Q1E:mC d r=.ok d r:=rfl
theorem So:aA r=.ok .nx r:=rfl
theorem Bt{a:α}:ret a r=.ok a r:=rfl
theorem Rv(h:c r=.ok t r1)(h2:(bif t then a else b) r1=R):bD c a b r=R:=by rw[Fj,h];cases t<;>exact h2
theorem Q0E(h:c r=.ok t r1)(h2:(bif t then a else b) r1=R):zR c a b r=R:=by rw[Q18,h];cases t<;>exact h2
theorem JX{a b:M α}{R:Res α}(ht:t=true)(h:a r=R):(bif t then a else b) r=R:=by subst ht;exact h
theorem JW{a b:M α}{R:Res α}(ht:t=false)(h:b r=R):(bif t then a else b) r=R:=by subst ht;exact h
theorem Q27{i:Nat}{f:M D}{r r1 r2:aR}{d:D}(h:f r=.ok d r1)(hf:free r1[i]?=true)(h2:r1.set i (.sh d)=r2):aN i f r=.ok .nx r2:=by rw[I0,h,az,Ge hf,h2]
theorem N2{i:Nat}{f:M D}{r r1 r2:aR}{d:D}(h:f r=.ok d r1)(hf:free r1[i]?=true)(h2:r1.set i (.ow d)=r2):dZ i f r=.ok .nx r2:=by rw[IY,h,az,Ge hf,h2]
theorem OB(h:f r=.ok d r1):aC f r=.ok (.rt d) r1:=by rw[IZ,h];rfl
theorem O8(h:r[i]?=some (.sh d)):af i r=.ok d r:=by rw[HH,h];rfl
theorem Q1V(h:a r=.ok x r1)(hg:g x=some z):m1 g a r=.ok z r1:=by rw[Ks,h,az,hg];rfl
theorem RZ(h:a r=.ok x r1)(h2:b r1=.ok y r2)(hg:g x y=some z):m2 g a b r=.ok z r2:=by rw[Q2P,h,az,h2,az,hg];rfl
theorem R7(h:mL as r=.ok xs r1)(hg:g xs=some z):mF g as r=.ok z r1:=by rw[R6,h,az,hg];rfl
theorem Q1O:mL [] r=.ok [] r:=rfl
theorem R8(h:f r=.ok x r1)(h2:mL fs r1=.ok xs r2):mL (f::fs) r=.ok (x::xs) r2:=by rw[HA,h,az,h2];rfl
theorem Q14(h:mL fs r=.ok xs r1)(hl:(decide (xs.length<=16777216))=true):bf fs r=.ok (.tup xs) r1:=by rw[HG,h,az,Jq _ (A0 hl)];rfl
theorem MI(h:mL fs r=.ok xs r1)(hl:(decide (xs.length<=16777216))=true):cA fs r=.ok (.lst xs) r1:=by rw[HB,h,az,Hu _ (A0 hl)];rfl
theorem Tj(h:a r=.ok (.bl b) r1):tB a r=.ok b r1:=by rw[Ti,h];rfl
theorem M5(h:a r=.ok b r1):d8 a r=.ok (!b) r1:=by rw[Jm,h];rfl
theorem K6(h:a r=.ok x r1)(h2:(bif x then b else ret false) r1=.ok t r2):gh a b r=.ok t r2:=by rw[Jk,h];cases x<;>exact h2
theorem Q0C(h:a r=.ok x r1)(h2:(bif x then ret true else b) r1=.ok t r2):lh a b r=.ok t r2:=by rw[Q1i,h];cases x<;>exact h2
theorem Gy(h:a r=.ok (.bl x) r1)(h2:(bif x then b else ret (.bl false)) r1=R):gV a b r=R:=by rw[Eg,h];cases x<;>exact h2
theorem N1(h:a r=.ok (.bl x) r1)(h2:(bif x then ret (.bl true) else b) r1=R):xN a b r=R:=by rw[HC,h];cases x<;>exact h2
theorem Tb(e:f r=.ok d r1)(e1:mq lo r1=.ok l r2)(e2:mq hi r2=.ok h r3)(hg:g d l h=some z):oN g f lo hi r=.ok z r3:=by rw[MO,e,az,e1,az,e2,az,hg];rfl
theorem Q1G(h:f r=.ok (.int i) r1):mq (some f) r=.ok (some i) r1:=by rw[Q1e,h];rfl
theorem Q0y(h:bR as r=.ok vs r1)(ha:rj vs r1=some ds)(hn:decide (gb vs).Nodup=true)(hf:f ds=.ok d cK)(hp:putAll (gb vs) cK r1=r2):ax f as r=.ok d r2:=by rw[Eh,h,az,uq,ha,cx,dY,az,Ge (A0 hn),hf,pM,hp]
theorem u4:bR [] r=.ok [] r:=rfl
theorem u5(h:f r=.ok d r1)(h2:bR as r1=.ok vs r2):bR (.val f::as) r=.ok (.val d::vs) r2:=by show PN _ _ r=_;rw[aG,h,az,aG,h2];rfl
theorem w5(h:(own r[j]?).isSome=true)(h2:bR as r=.ok vs r2):bR (.io j::as) r=.ok (.io j::vs) r2:=by show (if _ then _ else _)=_;rw[Ge h,aG,h2];rfl
theorem Mt(h0:(own r[j]?).isSome=true)(h:f r=.ok i r1)(h1:own r1[j]?=some d)(h2:aq d i=some z):bO j f r=.ok z r1:=by rw[Hz,Ge h0,h,az,Hg,h1,cx,dY,az,h2];rfl
theorem QJ(hl:decide (ds.length=fl.length)=true)(h:b (de n fl ds)=.ok (.rt d) r)(hi:cj fl r=some cK):defn n fl b ds=.ok d cK:=by rw[dh _ _ _ _ (A0 hl),h];show (match cj fl r with|some cK=>FR.ok d cK|none=>FR.no)=_;rw[hi]
theorem HK(ho:fo r=.ok o r1)(hi:jE c m o=true)(h:bR as r1=.ok vs r2)(ha:rj vs r2=some ds)(hn:decide (gb vs).Nodup=true)(hf:f (o::ds)=.ok d cK)(hp:putAll (gb vs) cK r2=r3):cw c m f fo as r=.ok d r3:=by rw[Q1v,ho,az,Ge hi,h,az,uq,GD,ha,Option.map_some,cx,dY,az,DS,Ge (A0 hn),hf,pM,hp]
theorem LF(h:it r=.ok ds r1)(h2:loop g b ds r1=R):eG it g b r=R:=by rw[IW,h];exact h2
theorem OE(h:mL fl r=.ok xs r1)(h2:uJ xs=some ds):cH fl r=.ok ds r1:=by rw[Ep,h,az,h2];rfl
theorem OJ(h:f r=.ok d r1)(h2:cy d=some ds):dC f r=.ok ds r1:=by rw[HF,h,az,h2];rfl
theorem Pj(h:mL fl r=.ok xs r1)(h2:mO xs=some ds):qv fl r=.ok ds r1:=by rw[HI,h,az,h2];rfl
theorem GL(h:mL fl r=.ok xs r1)(h2:lY xs=some ds):oz fl r=.ok ds r1:=by rw[Ej,h,az,h2];rfl
theorem OD(h:f r=.ok d r1)(h2:(cy d).map List.reverse=some ds):HD f r=.ok ds r1:=by rw[Q2x,h,az,h2];rfl
theorem Q19(h0:isLst (own r[i]?)=true)(h:f r=.ok x r1)(h1:own r1[i]?=some d)(h2:gD x d=some d')(h3:cE i d' r1=r2):kS i f r=.ok .nx r2:=by rw[IV,Ge h0,h,az,mw,h1,cx,dY,az,h2,cx,dY,az,h3];rfl
theorem Q0W(hv:fv r=.ok v r1)(h0:isLst (own r1[i]?)=true)(hk:fk r1=.ok k r3)(h1:own r3[i]?=some d)(h2:setAt k v d=some d')(h3:cE i d' r3=r2):cB i fk fv r=.ok .nx r2:=by rw[Bx,hv,az,Ge h0,hk,az,mw,h1,cx,dY,az,h2,cx,dY,az,h3];rfl
theorem noL(h:MK i r=.ok () r1)(h2:f r1=R):uK i f r=R:=by rw[OF,h];exact h2
theorem Q1c(h:anyOf r[i]?=some d):wL i r=.ok d r:=by rw[MN,h];rfl
theorem Hn(h:f r=.ok d r1)(h2:D6 d=some ds):vP f r=.ok ds r1:=by show PN _ _ r=_;rw[aG,h,az,h2];rfl
theorem Q2e(hv:fv r=.ok v r1)(h0:(own r1[i]?).isSome=true)(hk:fk r1=.ok k r3)(h1:own r3[i]?=some d)(h2:putD k v d=some d')(h3:cE i d' r3=r2):Aj i fk fv r=.ok .nx r2:=by show PN _ _ r=_;rw[aG,hv,az,Ge h0,aG,hk,az,nP,mw,h1,cx,dY,az,h2,cx,dY,az,h3];rfl
theorem Q2I(h:a r=.ok x r1)(h2:b r1=.ok y r2)(hg:g x y=some (.bl k))(h3:(bif k then m1 (g2 y) c else ret (.bl false)) r2=R):zQ g g2 a b c r=R:=by rw[MJ,h,az,h2,az,hg];cases k;exact h3;rw[<-h3];exact(Ks ..).symm
theorem HJ(h:bR as r=.ok vs r1)(hv:ds.map AV.val=vs)(hf:f (.ins c [] []::ds)=.ok .bC [d]):eC c f as r=.ok d r1:=by subst hv;rw[Ek,h,az];exact Em c f ds d r1 hf
theorem Q1w(h:ds.map AV.val=vs):(d::ds).map AV.val=.val d::vs:=by rw[Po,h]
theorem Q1I:([]:RN).map AV.val=[]:=rfl
theorem GU(e:o=some s)(h:free (some s)=true):free o=true:=by rw[e];exact h
end VP
end
section
set_option maxRecDepth 100000
set_option linter.all false
namespace LW
open PySem VP
def names:PU:=(["given","even","turn","cut","drop","wide","spread","shape","shift","one","both","where","fold","run","pick","join","minus","half","none","add","less","times","least","most","below","alike","line","number","numbers","place","sides","many"]:PU)
def nm(i:Nat):Str:=names.getD i ""
abbrev cI(i:Int):M D:=mC (.int i)
abbrev cS(i:Nat):M D:=mC (.str (nm i))
abbrev cT:M D:=mC (.bl true)
abbrev cF:M D:=mC (.bl false)
def rQ:PU:=[(nm 27),(nm 28),(nm 26)]
def nT:List (Str×D):=[((nm 9),.tup [.str (nm 16),.str (nm 17),.str (nm 18)]),((nm 10),.tup [.str (nm 19),.str (nm 20),.str (nm 21),.str (nm 22),.str (nm 23),.str (nm 24),.str (nm 25)]),((nm 12),.tup [.str (nm 19),.str (nm 21),.str (nm 22),.str (nm 23)])]
def Q2L:PU:=[]
def nU:List (Str×D):=[((nm 0),.tup [.str (nm 27)]),((nm 1),.tup [.str (nm 28),.str (nm 27)]),((nm 2),.tup [.str (nm 26),.str (nm 28)]),((nm 3),.tup [.str (nm 26),.str (nm 27),.str (nm 27),.str (nm 27),.str (nm 27)]),((nm 4),.tup [.str (nm 26),.str (nm 27),.str (nm 27)]),((nm 5),.tup [.str (nm 26),.str (nm 27)]),((nm 6),.tup [.str (nm 26),.str (nm 28)]),((nm 7),.tup [.str (nm 26),.str (nm 28)]),((nm 8),.tup [.str (nm 26),.str (nm 27),.str (nm 27),.str (nm 27)]),((nm 9),.tup [.str (nm 9),.str (nm 26)]),((nm 10),.tup [.str (nm 10),.str (nm 26),.str (nm 26)]),((nm 11),.tup [.str (nm 26),.str (nm 26),.str (nm 26)]),((nm 12),.tup [.str (nm 12),.str (nm 26),.str (nm 27)]),((nm 13),.tup [.str (nm 12),.str (nm 26),.str (nm 27)]),((nm 14),.tup [.str (nm 26),.str (nm 27),.str (nm 26)]),((nm 15),.tup [.str (nm 26),.str (nm 26),.str (nm 27)])]
def l5:PU:=["Joined"]
def l6:PU:=["Where"]
def kC:PU:=["Joined"]
def gG:PU:=["Both","Fold","One","Through"]
def iL:PU:=["One","Within"]
def oY:PU:=["Weaver"]
def jh:PU:=["Both","Where"]
def gP:PU:=["Plan"]
def eW:PU:=["Fill","Fold","Load","Loop","Pick","Read","Through"]
def iM:PU:=["Plan"]
def oZ:PU:=["Weaver"]
def nh:PU:=["Even","Within"]
def tW:PU:=["Joined","Within"]
def iN:PU:=["Pick"]
def ji:PU:=["Weaver"]
def gQ:PU:=["Both","Where"]
def fL:PU:=["Plan"]
def eX:PU:=["Fold","Pick","Through"]
def cu:PU:=["Fill","Fold","Load","Loop","Pick","Through","Weaver"]
def kD:PU:=["Fold","Joined","Within"]
def iO:PU:=["Pick"]
def dM:PU:=["Pick"]
def vy:PU:=["Read"]
def vz:PU:=["Read"]
def jT:PU:=["Load"]
def gH:PU:=["Fill","Fold","Through"]
noncomputable def jZ:HE:=[("Both",true),("Even",false),("Joined",false),("Node",false),("One",false),("Read",false),("Where",false),("Within",false)]
noncomputable def qk:HE:=[("Fill",true),("Fold",false),("Load",false),("Loop",false),("Pick",false),("Through",false)]
noncomputable def ql:HE:=[("Fill",false),("Fold",true),("Load",false),("Loop",false),("Pick",false),("Through",false)]
noncomputable def lA:HE:=[("Both",false),("Even",false),("Joined",true),("Node",false),("One",false),("Read",false),("Where",false),("Within",false)]
noncomputable def fj:HE:=[("Fill",false),("Fold",false),("Load",true),("Loop",false),("Pick",false),("Through",false)]
noncomputable def j0:HE:=[("Fill",true),("Fold",true),("Load",true),("Loop",true),("Pick",true),("Through",true)]
noncomputable def qm:HE:=[("Both",true),("Even",true),("Joined",true),("Node",true),("One",true),("Read",true),("Where",true),("Within",true)]
noncomputable def gc:HE:=[("Fill",false),("Fold",false),("Load",false),("Loop",false),("Pick",true),("Through",false)]
noncomputable def qo:HE:=[("Plan",true)]
noncomputable def gS:HE:=[("Both",false),("Even",false),("Joined",false),("Node",false),("One",false),("Read",true),("Where",false),("Within",false)]
noncomputable def j3:HE:=[("Fill",false),("Fold",false),("Load",false),("Loop",false),("Pick",false),("Through",true)]
noncomputable def kF:HE:=[("Both",false),("Even",false),("Joined",false),("Node",false),("One",false),("Read",false),("Where",true),("Within",false)]
noncomputable def bZ:HE:=[("Both",false),("Even",false),("Joined",false),("Node",false),("One",true),("Read",false),("Where",false),("Within",true)]
def jl:=ak (aN 1 (m2 nH (af 1) (af 2))) aA
def Ce:=ak (aN 1 (cI 1)) (ak (eG (dC (af 0)) (aE 2) jl) (ak (aC (af 1)) aA))
def sv:Fn:=defn 3 [false] Ce
def Co:=ak (aC (gV (m1 (kR "int") (af 0)) (MM (d8 (tB (m1 (kR "bool") (af 0))))))) aA
def n6:Fn:=defn 1 [false] Co
def gU:=ak (bD (d8 (tB (ax n6 [.val (af 2)]))) (ak (aC cF) aA) aA) aA
def Ci:=ak (bD (lh (d8 (tB (m1 (kR "tuple") (af 0)))) (tB (m2 dz (m1 bp (af 0)) (m1 bp (af 1))))) (ak (aC cF) aA) aA) (ak (eG (dC (af 0)) (aE 2) gU) (ak (aC (m2 bG (af 0) (af 1))) aA))
def jS:Fn:=defn 3 [false,false] Ci
def pJ:=ak (aN 3 (m2 aq (af 1) (cI 0))) (ak (bD (d8 (tB (m1 (bK j0) (af 0)))) (ak (aC cF) aA) aA) (ak (bD (gh (d8 (tB (m1 (bK fj) (af 0)))) (gh (d8 (tB (m1 (bK gc) (af 0)))) (d8 (tB (m1 (bK qm) (m1 (aZ gH "tree") (af 0))))))) (ak (aC cF) aA) aA) (ak (bD (tB (m2 bG (af 3) (cS 0))) (ak (aC (gV (m1 (bK fj) (af 0)) (gV (ax n6 [.val (m1 (aZ jT "table") (af 0))]) (m2 bG (m1 (aZ jT "table") (af 0)) (m2 aq (af 1) (cI 1)))))) aA) aA) (ak (bD (gh (tB (m2 bG (af 3) (cS 12))) (tB (m1 (bK ql) (af 0)))) (ak (aN 4 (bf [(m1 (aZ eX "side") (af 0)),(m1 (aZ kD "size") (af 0))])) (ak (aC (gV (ax jS [.val (af 4),.val (bf [(m2 aq (af 1) (cI 3)),(m2 aq (m2 aq (af 2) (m2 aq (af 1) (cI 2))) (m2 aq (af 1) (cI 3)))])]) (m2 bG (m1 (aZ gG "deed") (af 0)) (m2 aq (af 1) (cI 1))))) aA)) aA) (ak (bD (gh (tB (m2 bG (af 3) (cS 13))) (tB (m1 (bK j3) (af 0)))) (ak (aC (gV (ax n6 [.val (m1 (aZ eX "side") (af 0))]) (gV (m2 bG (m1 (aZ eX "side") (af 0)) (m2 aq (af 1) (cI 3))) (m2 bG (m1 (aZ gG "deed") (af 0)) (m2 aq (af 1) (cI 1)))))) aA) aA) (ak (bD (gh (tB (m2 bG (af 3) (cS 14))) (tB (m1 (bK gc) (af 0)))) (ak (aN 4 (bf [(m1 (aZ eX "side") (af 0)),(m1 (aZ iO "source") (af 0)),(m1 (aZ iN "places") (af 0))])) (ak (aC (gV (ax jS [.val (af 4),.val (bf [(m2 aq (af 1) (cI 2)),(m2 aq (af 1) (cI 1)),(m2 aq (af 1) (cI 3))])]) (ax jS [.val (m1 (aZ dM "source_sides") (af 0)),.val (m2 aq (af 2) (m2 aq (af 1) (cI 1)))]))) aA)) aA) (ak (aC (gV (m1 (bK qk) (af 0)) (m2 (inD true) (af 3) (cA [(cS 12),(cS 13),(cS 14)])))) aA)))))))
def gy:Fn:=defn 5 [false,false,false] pJ
def JS:=ak (bD (lh (tB (m2 bG (m2 aq (af 0) (cI 0)) (cS 0))) (tB (m2 bG (m2 aq (af 0) (cI 0)) (cS 1)))) (ak (aC (cA [])) aA) aA) (ak (bD (tB (m2 bG (m2 aq (af 0) (cI 0)) (cS 11))) (ak (aC (cA [(m2 aq (af 0) (cI 1)),(m2 aq (af 0) (cI 2)),(m2 aq (af 0) (cI 3))])) aA) aA) (ak (bD (tB (m2 bG (m2 aq (af 0) (cI 0)) (cS 10))) (ak (aC (cA [(m2 aq (af 0) (cI 2)),(m2 aq (af 0) (cI 3))])) aA) aA) (ak (bD (lh (tB (m2 bG (m2 aq (af 0) (cI 0)) (cS 9))) (lh (tB (m2 bG (m2 aq (af 0) (cI 0)) (cS 12))) (tB (m2 bG (m2 aq (af 0) (cI 0)) (cS 13))))) (ak (aC (cA [(m2 aq (af 0) (cI 2))])) aA) aA) (ak (bD (tB (m2 bG (m2 aq (af 0) (cI 0)) (cS 14))) (ak (aC (cA [(m2 aq (af 0) (cI 1)),(m2 aq (af 0) (cI 3))])) aA) aA) (ak (bD (tB (m2 bG (m2 aq (af 0) (cI 0)) (cS 15))) (ak (aC (cA [(m2 aq (af 0) (cI 1)),(m2 aq (af 0) (cI 2))])) aA) aA) (ak (aC (cA [(m2 aq (af 0) (cI 1))])) aA))))))
def za:Fn:=defn 1 [false] JS
def fS:=ak (bD (tB (Hy true (af 3) 1)) (ak (kS 1 (af 3)) (ak (kS 2 (af 3)) aA)) aA) aA
def dJ:=tB (sT (Ug true) 2 (cA []))
def fV:=ak (eG (dC (ax za [.val (m2 aq (af 0) (Eo 2))])) (aE 3) fS) aA
def Cn:=ak (dZ 1 (cA [(m2 gJ (m1 bp (af 0)) (cI 1))])) (ak (dZ 2 (cA [(m2 gJ (m1 bp (af 0)) (cI 1))])) (ak (qS dJ fV) (ak (uK 1 (aC (af 1))) aA)))
def zc:Fn:=defn 4 [false] Cn
def iy:=ak (cB 4 (af 7) (m2 bj (bO 4 (af 7)) (cI 1))) (ak (bD (lh (tB (m2 bG (m2 aq (af 6) (cI 0)) (cS 7))) (tB (m2 bG (m2 aq (af 6) (cI 0)) (cS 14)))) (ak (cB 3 (af 7) cT) aA) aA) (ak (bD (gh (tB (m2 dz (m2 aq (m2 aq (af 0) (af 7)) (cI 0)) (cS 1))) (tB (m2 xy (bO 4 (af 7)) (cI 1)))) (ak (cB 3 (af 7) cT) aA) aA) (ak (bD (gh (tB (m2 dz (m2 aq (m2 aq (af 0) (af 7)) (cI 0)) (cS 1))) (gh (tB (m2 (inD false) (m2 aq (af 6) (cI 0)) (cA [(cS 6),(cS 10),(cS 11)]))) (tB (m2 dz (m2 aq (af 1) (af 7)) (m2 aq (af 1) (af 5)))))) (ak (cB 3 (af 7) cT) aA) aA) aA)))
def j6:=ak (aN 6 (m2 aq (af 0) (af 5))) (ak (cB 3 (af 5) (xN (bO 3 (af 5)) (m2 (inD false) (m2 aq (af 6) (cI 0)) (cA [(cS 0),(cS 12),(cS 13),(cS 14)])))) (ak (eG (dC (ax za [.val (af 6)])) (aE 7) iy) aA))
def Cg:=ak (aN 2 (ax zc [.val (af 0)])) (ak (dZ 3 (m2 mulL (cA [cF]) (m1 bp (af 0)))) (ak (dZ 4 (m2 mulL (cA [(cI 0)]) (m1 bp (af 0)))) (ak (eG (dC (af 2)) (aE 5) j6) (ak (cB 3 (m1 rH (cI 1)) cT) (ak (uK 3 (aC (af 3))) aA)))))
def sy:Fn:=defn 8 [false,false] Cg
def Cf:=ak (aC (m2 bj (m2 bj (oN eU (af 0) none (some (af 1))) (bf [(af 2)])) (oN eU (af 0) (some (m2 bj (af 1) (cI 1))) none))) aA
def kX:Fn:=defn 3 [false,false,false] Cf
def jm:=ak (bD (gh (tB (m2 dz (m2 aq (af 3) (af 6)) (m2 aq (af 4) (af 6)))) (gh (tB (m2 dz (m2 aq (af 3) (af 6)) (cI 1))) (tB (m2 dz (m2 aq (af 4) (af 6)) (cI 1))))) (ak (aC (mC .bC)) aA) aA) (ak (aN 5 (m2 bj (af 5) (bf [(m2 aq (cA [(m2 aq (af 3) (af 6)),(m2 aq (af 4) (af 6))]) (mF intD [(m2 bG (m2 aq (af 3) (af 6)) (cI 1))]))]))) aA)
def yM:=ak (aN 2 (mF maxD [(m1 bp (af 0)),(m1 bp (af 1))])) (ak (aN 3 (m2 bj (m2 Bf (bf [(cI 1)]) (m2 gJ (af 2) (m1 bp (af 0)))) (af 0))) (ak (aN 4 (m2 bj (m2 Bf (bf [(cI 1)]) (m2 gJ (af 2) (m1 bp (af 1)))) (af 1))) (ak (aN 5 (bf [])) (ak (eG (cH [(af 2)]) (aE 6) jm) (ak (aC (af 5)) aA)))))
def iK:Fn:=defn 7 [false,false] yM
def Cm:=ak (aN 2 (bO 0 (cI 1))) (ak (cB 0 (cI 1) (m2 bj (af 2) (cI 1))) (ak (bD (tB (m2 ltI (af 2) (m1 bp (bO 0 (cI 0))))) (ak (aC (m2 oO (m2 aq (bO 0 (cI 0)) (af 2)) (af 1))) aA) aA) (ak (aC (cI 0)) aA)))
def bB:Fn:=defn 3 [true,false] Cm
def jM:=m2 bj (cI 1) (ax bB [.io 0,.val (cI 3)])
def lT:=ak (aN 5 (bO 2 (af 1))) (ak (aN 6 (ax bB [.io 0,.val (m1 bp (wL 2))])) (ak (bD (tB (m2 bG (af 3) (cI 9))) (ak (aC (bf [(bf [(cS 9),(m2 aq (cA [(cS 16),(cS 17),(cS 18)]) (ax bB [.io 0,.val (cI 3)])),(af 1)]),(af 5)])) aA) aA) (ak (bD (tB (m2 bG (af 3) (cI 10))) (ak (aN 7 (m2 aq (cA [(cS 19),(cS 20),(cS 21),(cS 22),(cS 23),(cS 24),(cS 25)]) (ax bB [.io 0,.val (cI 7)]))) (ak (bD (tB (m2 isND (ax iK [.val (af 5),.val (bO 2 (af 6))]) (mC .bC))) (ak (aN 6 (af 1)) aA) aA) (ak (aC (bf [(bf [(cS 10),(af 7),(af 1),(af 6)]),(ax iK [.val (af 5),.val (bO 2 (af 6))])])) aA))) aA) (ak (bD (tB (m2 bG (af 3) (cI 11))) (ak (aN 8 (ax bB [.io 0,.val (m1 bp (wL 2))])) (ak (aN 9 (ax iK [.val (af 5),.val (bO 2 (af 6))])) (ak (bD (lh (tB (m2 isND (af 9) (mC .bC))) (tB (m2 isND (ax iK [.val (af 9),.val (bO 2 (af 8))]) (mC .bC)))) (ak (aC (bf [(bf [(cS 11),(af 1),(af 1),(af 1)]),(af 5)])) aA) aA) (ak (aC (bf [(bf [(cS 11),(af 6),(af 1),(af 8)]),(ax iK [.val (af 9),.val (bO 2 (af 8))])])) aA)))) aA) (ak (bD (tB (m2 bG (af 3) (cI 12))) (ak (aN 9 (m1 iA (aU 1 (cH [(ax bB [.io 0,.val (cI 3)])]) (aE 11) (VP.ret true) jM))) (ak (aC (bf [(bf [(cS 1),(af 9),(ax bB [.io 0,.val (cI 1000003)])]),(af 9)])) aA)) aA) (ak (bD (tB (m2 bG (af 5) (bf []))) (ak (aC (bf [(bf [(cS 9),(cS 16),(af 1)]),(af 5)])) aA) aA) (ak (aN 10 (ax bB [.io 0,.val (m1 bp (af 5))])) (ak (bD (tB (m2 bG (af 3) (cI 13))) (ak (bD (lh (tB (m2 ltI (ax bB [.io 0,.val (cI 5)]) (cI 4))) (tB (m2 dz (m1 bp (bO 2 (af 6))) (cI 1)))) (ak (aN 6 (af 4)) aA) aA) (ak (aC (bf [(bf [(cS 14),(af 1),(af 10),(af 6)]),(ax kX [.val (af 5),.val (af 10),.val (m2 aq (bO 2 (af 6)) (cI 0))])])) aA)) aA) (ak (bD (lh (tB (m2 dz (m1 bp (bO 2 (af 6))) (m1 bp (af 5)))) (tB (m2 dz (ax kX [.val (af 5),.val (af 10),.val (cI 0)]) (ax kX [.val (bO 2 (af 6)),.val (af 10),.val (cI 0)])))) (ak (aN 6 (af 1)) aA) aA) (ak (aC (bf [(bf [(cS 15),(af 1),(af 6),(af 10)]),(ax kX [.val (af 5),.val (af 10),.val (m2 bj (m2 aq (af 5) (af 10)) (m2 aq (bO 2 (af 6)) (af 10)))])])) aA))))))))))
def fI:Fn:=defn 11 [true,false,true,false,false] lT
def Ck:=ak (aN 4 (ax bB [.io 0,.val (m1 bp (af 2))])) (ak (aN 5 (m2 aq (af 2) (af 4))) (ak (aN 6 (cA [(cS 19),(cS 21),(cS 22),(cS 23)])) (ak (bD (tB (m2 bG (af 3) (cI 4))) (ak (aN 7 (m2 gJ (ax bB [.io 0,.val (cI 9)]) (cI 4))) (ak (aC (bf [(bf [(cS 8),(af 1),(af 4),(af 7),(ax bB [.io 0,.val (cI 1000003)])]),(af 2)])) aA)) aA) (ak (bD (tB (m2 bG (af 3) (cI 5))) (ak (aN 8 (m2 aq (af 6) (m2 oO (ax bB [.io 0,.val (cI 4)]) (m2 aq (cA [(cI 2),(cI 4)]) (mF intD [(m2 xy (af 5) (cI 0))]))))) (ak (aC (bf [(bf [(cS 12),(af 8),(af 1),(af 4)]),(m2 bj (oN eU (af 2) none (some (af 4))) (oN eU (af 2) (some (m2 bj (af 4) (cI 1))) none))])) aA)) aA) (ak (bD (tB (m2 bG (af 3) (cI 6))) (ak (aC (bf [(bf [(cS 13),(m2 aq (af 6) (ax bB [.io 0,.val (cI 4)])),(af 1),(af 4)]),(af 2)])) aA) aA) (ak (bD (tB (m2 bG (af 5) (cI 0))) (ak (aC (bf [(bf [(cS 9),(cS 18),(af 1)]),(af 2)])) aA) aA) (ak (aN 9 (ax bB [.io 0,.val (af 5)])) (ak (bD (tB (m2 bG (af 3) (cI 7))) (ak (aC (bf [(bf [(cS 4),(af 1),(af 4),(af 9)]),(m2 bj (oN eU (af 2) none (some (af 4))) (oN eU (af 2) (some (m2 bj (af 4) (cI 1))) none))])) aA) aA) (ak (aN 10 (m2 bj (cI 1) (ax bB [.io 0,.val (cI 3)]))) (ak (aN 11 (m2 zD (m2 gJ (m2 gJ (af 5) (cI 1)) (af 9)) (af 10))) (ak (bD (tB (m2 bG (ax bB [.io 0,.val (cI 2)]) (cI 1))) (ak (aN 11 (m2 zD (af 9) (af 10))) (ak (aN 10 (m2 gJ (cI 0) (af 10))) aA)) aA) (ak (aN 12 (m2 gJ (m2 bj (af 11) (cI 1)) (ax bB [.io 0,.val (m2 bj (af 11) (cI 2))]))) (ak (aC (bf [(bf [(cS 3),(af 1),(af 4),(af 9),(af 10),(af 12)]),(ax kX [.val (af 2),.val (af 4),.val (af 12)])])) aA)))))))))))))
def vt:Fn:=defn 13 [true,false,false,false] Ck
def jN:=m2 oO (m2 bj (af 10) (af 5)) (af 4)
def jO:=m2 aq (af 2) (af 10)
def jP:=m2 aq (cA [(af 10),(ax bB [.io 0,.val (cI 4)])]) (mF intD [(m2 bG (af 10) (cI 1))])
def nZ:=ak (aN 4 (m1 bp (af 2))) (ak (bD (tB (m2 bG (af 3) (cI 0))) (ak (aN 5 (ax bB [.io 0,.val (mF maxD [(cI 1),(af 4)])])) (ak (aN 6 (aU 1 (cH [(af 4)]) (aE 10) (VP.ret true) jN)) (ak (bD (tB (m2 bG (ax bB [.io 0,.val (cI 2)]) (cI 1))) (ak (aN 6 (m1 Fg (af 6))) aA) aA) (ak (aC (bf [(bf [(cS 2),(af 1),(m1 iA (af 6))]),(m1 iA (aU 1 (dC (af 6)) (aE 10) (VP.ret true) jO))])) aA)))) aA) (ak (bD (tB (m2 bG (af 3) (cI 1))) (ak (aN 7 (ax bB [.io 0,.val (m2 bj (af 4) (cI 1))])) (ak (aC (bf [(bf [(cS 5),(af 1),(af 7)]),(m2 bj (m2 bj (oN eU (af 2) none (some (af 7))) (bf [(cI 1)])) (oN eU (af 2) (some (af 7)) none))])) aA)) aA) (ak (bD (tB (m2 bG (af 3) (cI 2))) (ak (aN 8 (m1 iA (aU 1 (dC (af 2)) (aE 10) (VP.ret true) jP))) (ak (bD (tB (m2 bG (ax bB [.io 0,.val (cI 2)]) (cI 1))) (ak (aN 8 (m2 bj (bf [(ax bB [.io 0,.val (cI 4)])]) (af 8))) aA) aA) (ak (aC (bf [(bf [(cS 6),(af 1),(af 8)]),(af 8)])) aA))) aA) (ak (aN 9 (ax sv [.val (af 2)])) (ak (aN 8 (m2 aq (cA [(m1 rK (af 2)),(bf [(af 9)]),(bf [(cI 1),(af 9)]),(bf [(af 9),(cI 1)])]) (ax bB [.io 0,.val (cI 4)]))) (ak (aC (bf [(bf [(cS 7),(af 1),(af 8)]),(af 8)])) aA))))))
def iq:Fn:=defn 10 [true,false,false,false] nZ
def gO:=m2 aq (cA [(cI 2),(cI 3),(cI 1),(cI 2),(cI 3),(cI 1),(cI 2),(cI 0)]) (ax bB [.io 0,.val (cI 8)])
def fq:=ak (aN 3 (ax bB [.io 0,.val (cI 4)])) (ak (kS 1 (m1 iA (aU 1 (cH [(af 3)]) (aE 12) (VP.ret true) gO))) aA)
def eM:=bf [(cS 0),(m2 oO (m2 bj (af 12) (af 5)) (af 4))]
def eN:=m2 aq (af 1) (m2 aq (af 12) (cI 1))
def fB:=ak (aN 9 (m2 gJ (m2 gJ (m1 bp (wL 6)) (cI 1)) (ax bB [.io 0,.val (m1 bp (wL 6))]))) (ak (aN 10 (ax bB [.io 0,.val (cI 16)])) (ak (bD (tB (m2 ltI (af 10) (cI 4))) (ak (aN 11 (ax iq [.io 0,.val (af 9),.val (bO 7 (af 9)),.val (af 10)])) aA) (ak (bD (gh (tB (m2 ltI (af 10) (cI 9))) (tB (m2 dz (bO 7 (af 9)) (bf [])))) (ak (aN 11 (ax vt [.io 0,.val (af 9),.val (bO 7 (af 9)),.val (af 10)])) aA) (ak (bD (tB (m2 bG (af 10) (cI 15))) (ak (aN 11 (bf [(bf [(cS 0),(m2 oO (af 9) (af 4))]),(bO 1 (m2 oO (af 9) (af 4)))])) aA) (ak (aN 11 (ax fI [.io 0,.val (af 9),.io 7,.val (af 10),.val (af 8)])) aA)) aA)) aA)) (ak (bD (lh (tB (m2 xy (ax sv [.val (m2 aq (af 11) (cI 1))]) (cI 27))) (lh (tB (m2 xy (m1 bp (m2 aq (af 11) (cI 1))) (cI 4))) (tB (m2 xy (m2 nG (m2 aq (af 11) (cI 1)) (cI 0)) (cI 24))))) (ak (aN 11 (bf [(bf [(cS 9),(cS 16),(af 9)]),(bO 7 (af 9))])) aA) aA) (ak (kS 6 (m2 aq (af 11) (cI 0))) (ak (kS 7 (m2 aq (af 11) (cI 1))) aA)))))
def Cj:=ak (dZ 1 (cA [])) (ak (eG (cH [(m2 bj (cI 1) (ax bB [.io 0,.val (cI 2)]))]) (aE 2) fq) (ak (kS 1 (bf [(m2 aq (cA [(cI 2),(cI 3),(cI 1),(cI 4)]) (ax bB [.io 0,.val (cI 4)]))])) (ak (aN 4 (m1 bp (wL 1))) (ak (aN 5 (ax bB [.io 0,.val (af 4)])) (ak (dZ 6 (aU 1 (cH [(af 4)]) (aE 12) (VP.ret true) eM)) (ak (dZ 7 (lb (aU 1 (dC (af 6)) (aE 12) (VP.ret true) eN))) (ak (aN 8 (m2 oO (m2 gJ (m2 gJ (af 4) (cI 1)) (af 5)) (af 4))) (ak (eG (cH [(m2 bj (cI 1) (ax bB [.io 0,.val (cI 10)]))]) (aE 2) fB) (ak (uK 1 (uK 7 (uK 6 (aC (bf [(af 6),(af 7),(af 4),(af 1)]))))) aA)))))))))
def vq:Fn:=defn 12 [true] Cj
def Qz:=ak (bu 0 iM "loops" (m1 iR (af 1))) (ak (bu 0 fL "row_of" (m1 C5 (af 2))) (ak (bu 0 gP "lengths" (m1 iR (af 3))) aA))
def LA:Fn:=defn 4 [true,false,false,false] Qz
def yP:=ak (aC (gV (m2 (inD false) (m2 aq (m2 aq (af 0) (af 2)) (cI 0)) (bf [(cS 6),(cS 10),(cS 11)])) (m2 dz (m2 aq (af 1) (af 2)) (m2 aq (af 1) (af 3))))) aA
def zu:Fn:=defn 4 [false,false,false,false] yP
def ja:=m2 (inD false) (m2 aq (m2 aq (af 0) (af 5)) (cI 0)) (bf [(cS 7),(cS 14)])
def jb:=ax zu [.val (af 0),.val (af 1),.val (af 5),.val (af 2)]
def Ca:=ak (aN 4 (m2 aq (m2 aq (af 0) (af 2)) (cI 0))) (ak (bD (lh (tB (m2 bG (af 2) (m2 gJ (m1 bp (af 0)) (cI 1)))) (tB (m2 (inD false) (af 4) (bf [(cS 0),(cS 12),(cS 13),(cS 14)])))) (ak (aC cT) aA) aA) (ak (bD (tB (m1 (oF false) (aU 1 (dC (af 3)) (aE 5) (VP.ret true) ja))) (ak (aC cT) aA) aA) (ak (bD (tB (m2 bG (af 4) (cS 1))) (ak (aC cF) aA) aA) (ak (aC (xN (m2 xy (m1 bp (af 3)) (cI 1)) (m1 (oF false) (aU 1 (dC (af 3)) (aE 5) (VP.ret true) jb)))) aA))))
def y8:Fn:=defn 5 [false,false,false,false] Ca
def rp:=af 2
def Q2U:=tB (m2 bG (af 1) (cS 26))
def JT:=ak (aC (aU 2 (qv [(m1 (Fz nU) (m2 aq (af 0) (cI 0))),(oN eU (af 0) (some (cI 1)) none)]) (cJ [1,2]) Q2U rp)) aA
def oa:Fn:=defn 1 [false] JT
def eO:=af 4
def eT:=tB (m2 bG (af 6) (af 2))
def di:=ak (bD (tB (m2 aq (af 1) (af 4))) (ak (Fi 3 (aU 1 (dC (ax oa [.val (af 5)])) (aE 6) eT eO)) aA) aA) aA
def Ct:=ak (dZ 3 (cA [])) (ak (eG (oz [(af 0)]) (cJ [4,5]) di) (ak (uK 3 (aC (af 3))) aA))
def zg:Fn:=defn 6 [false,false,false] Ct
def eS:M D:=cF
def fD:=ak (cB 1 (af 3) cT) aA
def dj:=ak (bD (tB (bO 1 (af 2))) (ak (eG (dC (ax oa [.val (m2 aq (af 0) (af 2))])) (aE 3) fD) aA) aA) aA
def CL:=ak (dZ 1 (aU 1 (dC (af 0)) (aE 4) (VP.ret true) eS)) (ak (cB 1 (m2 gJ (m1 bp (af 0)) (cI 1)) cT) (ak (eG (Ei [(m2 gJ (m1 bp (af 0)) (cI 1)),(m1 rH (cI 1)),(m1 rH (cI 1))]) (aE 2) dj) (ak (uK 1 (aC (af 1))) aA)))
def vv:Fn:=defn 4 [false] CL
def dN:=ak (kS 3 (gV (m2 aq (af 2) (af 4)) (ax y8 [.val (af 0),.val (af 1),.val (af 4),.val (ax zg [.val (af 0),.val (af 2),.val (af 4)])]))) aA
def Cd:=ak (aN 2 (ax vv [.val (af 0)])) (ak (dZ 3 (cA [])) (ak (eG (oz [(af 0)]) (cJ [4,5]) dN) (ak (uK 3 (aC (af 3))) aA)))
def vp:Fn:=defn 6 [false,false] Cd
def dH:=ak (aN 1 (m2 nH (af 1) (af 2))) aA
def B4:=ak (aN 1 (cI 1)) (ak (eG (dC (af 0)) (aE 2) dH) (ak (aC (af 1)) aA))
def pV:Fn:=defn 3 [false] B4
def gi:=cI 0
def dO:=ak (aN 4 (m2 AJ (af 1) (m1 (aZ eW "line") (af 3)))) (ak (cB 2 (af 4) (mF maxD [(bO 2 (af 4)),(ax pV [.val (m1 (aZ cu "sides") (af 3))])])) aA)
def Cq:=ak (dZ 2 (aU 1 (cH [(m2 bj (m1 oA (af 1)) (cI 1))]) (aE 5) (VP.ret true) gi)) (ak (eG (dC (af 0)) (aE 3) dO) (ak (uK 2 (aC (af 2))) aA))
def ze:Fn:=defn 5 [false,false] Cq
def Qw:=ak (bu 0 eW "line" (af 1)) (ak (bu 0 cu "sides" (af 2)) aA)
def AK:Fn:=defn 3 [true,false,false] Qw
def Qs:=ak (sZ (ax AK [.io 0,.val (af 1),.val (af 2)])) (ak (bu 0 gH "tree" (af 3)) aA)
def Lu:Fn:=defn 4 [true,false,false,false] Qs
def Qt:=ak (sZ (ax AK [.io 0,.val (af 1),.val (af 2)])) (ak (bu 0 eX "side" (af 3)) (ak (bu 0 kD "size" (af 4)) (ak (bu 0 gG "deed" (af 5)) (ak (bu 0 gH "tree" (af 6)) aA))))
def Lv:Fn:=defn 7 [true,false,false,false,false,false,false] Qt
def Qv:=ak (sZ (ax AK [.io 0,.val (af 1),.val (af 2)])) (ak (bu 0 jT "table" (af 3)) aA)
def Lx:Fn:=defn 4 [true,false,false,false] Qv
def Qy:=ak (sZ (ax AK [.io 0,.val (af 1),.val (af 2)])) (ak (bu 0 eX "side" (af 3)) (ak (bu 0 iO "source" (af 4)) (ak (bu 0 iN "places" (af 5)) (ak (bu 0 dM "source_sides" (af 6)) aA))))
def Lz:Fn:=defn 7 [true,false,false,false,false,false,false] Qy
def JN:=ak (sZ (ax AK [.io 0,.val (af 1),.val (af 2)])) (ak (bu 0 eX "side" (af 3)) (ak (bu 0 gG "deed" (af 4)) (ak (bu 0 gH "tree" (af 5)) aA)))
def Dl:Fn:=defn 6 [true,false,false,false,false,false] JN
def JO:=ak (bu 0 ji "program" (af 1)) (ak (bu 0 cu "sides" (af 2)) (ak (bu 0 oY "kept" (af 3)) (ak (bu 0 oZ "many" (af 4)) aA)))
def yX:Fn:=defn 5 [true,false,false,false,false] JO
def Qq:=ak (bu 0 gG "deed" (af 1)) (ak (bu 0 jh "left" (af 2)) (ak (bu 0 gQ "right" (af 3)) aA))
def Lr:Fn:=defn 4 [true,false,false,false] Qq
def Qr:=ak (bu 0 nh "number" (af 1)) aA
def Ls:Fn:=defn 2 [true,false] Qr
def Qx:=ak (bu 0 gG "deed" (af 1)) (ak (bu 0 iL "inner" (af 2)) aA)
def Ly:Fn:=defn 3 [true,false,false] Qx
def JM:=ak (bu 0 eW "line" (af 1)) (ak (bu 0 vy "start" (af 2)) (ak (bu 0 vz "steps" (af 3)) aA))
def Dk:Fn:=defn 4 [true,false,false,false] JM
def gj:=cI 0
def cn:=ak (aN 3 (m2 bj (af 3) (m2 nH (m2 aq (af 5) (cI 0)) (af 6)))) (ak (bD (tB (m2 dz (m2 aq (af 5) (cI 1)) (m1 rH (cI 1)))) (ak (cB 4 (m2 aq (af 5) (cI 1)) (m2 bj (bO 4 (m2 aq (af 5) (cI 1))) (m2 nH (m2 aq (af 5) (cI 2)) (af 6)))) aA) aA) aA)
def Cz:=ak (aN 3 (cI 0)) (ak (dZ 4 (aU 1 (cH [(af 2)]) (aE 7) (VP.ret true) gj)) (ak (eG (qv [(af 0),(af 1)]) (cJ [5,6]) cn) (ak (aC (bf [(af 3),(m1 iA (wL 4))])) aA)))
def zk:Fn:=defn 7 [false,false,false] Cz
def dP:=ak (kS 1 (af 2)) (ak (aN 2 (m2 nH (af 2) (af 3))) aA)
def CI:=ak (dZ 1 (cA [])) (ak (aN 2 (cI 1)) (ak (eG (HD (af 0)) (aE 3) dP) (ak (aC (m1 rK (wL 1))) aA)))
def zv:Fn:=defn 4 [false] CI
def B3:=ak (aN 4 (ax zk [.val (af 2),.val (ax zv [.val (af 3)]),.val (m1 (aZ oZ "many") (af 0))])) (ak (aC (eC "Read" Dk [.val (af 1),.val (m2 aq (af 4) (cI 0)),.val (m2 aq (af 4) (cI 1))])) aA)
def vn:Fn:=defn 5 [false,false,false,false] B3
def Qu:=ak (bu 0 tW "part" (af 1)) (ak (bu 0 kD "size" (af 2)) (ak (bu 0 l5 "ahead" (af 3)) (ak (bu 0 kC "behind" (af 4)) aA)))
def Lw:Fn:=defn 5 [true,false,false,false,false] Qu
def Cu:=ak (aC (bf [(af 0),(m1 rH (cI 1)),(cI 0)])) aA
def sC:Fn:=defn 1 [false] Cu
def yN:=ak (aN 3 (m2 bj (af 1) (m2 nH (af 2) (m2 aq (af 0) (cI 0))))) (ak (bD (tB (m2 bG (m2 nH (af 2) (m2 aq (af 0) (cI 2))) (cI 0))) (ak (aC (ax sC [.val (af 3)])) aA) aA) (ak (aC (bf [(af 3),(m2 aq (af 0) (cI 1)),(m2 nH (af 2) (m2 aq (af 0) (cI 2)))])) aA))
def sA:Fn:=defn 4 [false,false,false] yN
def CN:=ak (dZ 4 (m1 iR (af 0))) (ak (cB 4 (af 1) (ax sA [.val (m2 aq (af 0) (af 1)),.val (af 2),.val (af 3)])) (ak (uK 4 (aC (af 4))) aA))
def sG:Fn:=defn 5 [false,false,false,false] CN
def JQ:=ak (bu 0 tW "part" (af 1)) (ak (bu 0 kD "size" (af 2)) (ak (bu 0 iL "inner" (af 3)) (ak (bu 0 nh "number" (af 4)) aA)))
def Dp:Fn:=defn 5 [true,false,false,false,false] JQ
def gn:=zR (tB (m2 bG (af 3) (cI 1))) (ax sC [.val (cI 0)]) (af 4)
def CO:=ak (aN 2 (oN eU (af 0) (some (m2 gJ (m1 bp (af 0)) (m1 bp (af 1)))) none)) (ak (aC (aU 2 (qv [(af 1),(af 2)]) (cJ [3,4]) (VP.ret true) gn)) aA)
def zA:Fn:=defn 3 [false,false] CO
def CM:=ak (aC (m2 bj (m2 bj (oN eU (af 0) none (some (af 1))) (cA [(ax sC [.val (af 2)])])) (oN eU (af 0) (some (af 1)) none))) aA
def zy:Fn:=defn 3 [false,false,false] CM
def dQ:=ak (cB 2 (af 3) (af 4)) aA
def CP:=ak (dZ 2 (m1 iR (af 0))) (ak (eG (qv [(af 1),(af 0)]) (cJ [3,4]) dQ) (ak (uK 2 (aC (af 2))) aA))
def zB:Fn:=defn 5 [false,false] CP
def CQ:=ak (aC (m2 bj (oN eU (af 0) none (some (af 1))) (oN eU (af 0) (some (m2 bj (af 1) (cI 1))) none))) aA
def zC:Fn:=defn 2 [false,false] CQ
def JP:=ak (bu 0 l6 "asked" (af 1)) (ak (bu 0 jh "left" (af 2)) (ak (bu 0 gQ "right" (af 3)) aA))
def Dn:Fn:=defn 4 [true,false,false,false] JP
def u7(w:Nat->Fn):=ak (bD (tB (m2 aq (m1 (aZ oY "kept") (af 0)) (af 1))) (ak (aC (cw "Weaver" "row_read" vn (af 0) [.val (af 1),.val (af 2),.val (m2 aq (m1 (aZ cu "sides") (af 0)) (af 1))])) aA) aA) (ak (aC (cw "Weaver" "tree_made" (w 1) (af 0) [.val (af 1),.val (af 2)])) aA)
def jx(w:Nat->Fn):=ak (aN 3 (m2 aq (m1 (aZ ji "program") (af 0)) (af 1))) (ak (aN 4 (m2 aq (af 3) (cI 0))) (ak (bD (tB (m2 bG (af 4) (cS 1))) (ak (aC (eC "Even" Ls [.val (m2 aq (af 3) (cI 2))])) aA) aA) (ak (bD (tB (m2 bG (af 4) (cS 9))) (ak (aC (eC "One" Ly [.val (m2 aq (af 3) (cI 1)),.val (cw "Weaver" "tree_named" (w 0) (af 0) [.val (m2 aq (af 3) (cI 2)),.val (af 2)])])) aA) aA) (ak (bD (tB (m2 bG (af 4) (cS 10))) (ak (aC (eC "Both" Lr [.val (m2 aq (af 3) (cI 1)),.val (cw "Weaver" "tree_spread" (w 3) (af 0) [.val (m2 aq (af 3) (cI 2)),.val (af 2)]),.val (cw "Weaver" "tree_spread" (w 3) (af 0) [.val (m2 aq (af 3) (cI 3)),.val (af 2)])])) aA) aA) (ak (bD (tB (m2 bG (af 4) (cS 11))) (ak (aC (eC "Where" Dn [.val (cw "Weaver" "tree_spread" (w 3) (af 0) [.val (m2 aq (af 3) (cI 1)),.val (af 2)]),.val (cw "Weaver" "tree_spread" (w 3) (af 0) [.val (m2 aq (af 3) (cI 2)),.val (af 2)]),.val (cw "Weaver" "tree_spread" (w 3) (af 0) [.val (m2 aq (af 3) (cI 3)),.val (af 2)])])) aA) aA) (ak (bD (tB (m2 bG (af 4) (cS 8))) (ak (aC (cw "Weaver" "tree_shifted" (w 4) (af 0) [.val (m2 aq (af 3) (cI 1)),.val (m2 aq (af 3) (cI 2)),.val (m2 aq (af 3) (cI 3)),.val (m2 aq (af 3) (cI 4)),.val (af 2)])) aA) aA) (ak (bD (tB (m2 bG (af 4) (cS 15))) (ak (aC (cw "Weaver" "tree_joined" (w 5) (af 0) [.val (m2 aq (af 3) (cI 1)),.val (m2 aq (af 3) (cI 2)),.val (m2 aq (af 3) (cI 3)),.val (af 2)])) aA) aA) (ak (bD (tB (m2 bG (af 4) (cS 7))) (ak (aC (cw "Weaver" "row_read" vn (af 0) [.val (m2 aq (af 3) (cI 1)),.val (af 2),.val (m2 aq (m1 (aZ cu "sides") (af 0)) (af 1))])) aA) aA) (ak (aC (cw "Weaver" "tree_viewed" (w 2) (af 0) [.val (af 3),.val (af 2)])) aA)))))))))
def jy(w:Nat->Fn):=ak (aN 3 (m2 aq (af 1) (cI 0))) (ak (bD (tB (m2 bG (af 3) (cS 2))) (ak (aC (cw "Weaver" "tree_named" (w 0) (af 0) [.val (m2 aq (af 1) (cI 1)),.val (ax zB [.val (af 2),.val (m2 aq (af 1) (cI 2))])])) aA) aA) (ak (bD (tB (m2 bG (af 3) (cS 3))) (ak (aC (cw "Weaver" "tree_named" (w 0) (af 0) [.val (m2 aq (af 1) (cI 1)),.val (ax sG [.val (af 2),.val (m2 aq (af 1) (cI 2)),.val (m2 aq (af 1) (cI 3)),.val (m2 aq (af 1) (cI 4))])])) aA) aA) (ak (bD (tB (m2 bG (af 3) (cS 4))) (ak (aC (cw "Weaver" "tree_named" (w 0) (af 0) [.val (m2 aq (af 1) (cI 1)),.val (ax zy [.val (af 2),.val (m2 aq (af 1) (cI 2)),.val (m2 aq (af 1) (cI 3))])])) aA) aA) (ak (bD (tB (m2 bG (af 3) (cS 5))) (ak (aC (cw "Weaver" "tree_named" (w 0) (af 0) [.val (m2 aq (af 1) (cI 1)),.val (ax zC [.val (af 2),.val (m2 aq (af 1) (cI 2))])])) aA) aA) (ak (aC (cw "Weaver" "tree_spread" (w 3) (af 0) [.val (m2 aq (af 1) (cI 1)),.val (af 2)])) aA)))))
def yL(w:Nat->Fn):=ak (aC (cw "Weaver" "tree_named" (w 0) (af 0) [.val (af 1),.val (ax zA [.val (af 2),.val (m2 aq (m1 (aZ cu "sides") (af 0)) (af 1))])])) aA
def yK(w:Nat->Fn):=ak (aN 6 (ax sG [.val (af 5),.val (af 2),.val (m1 rH (af 3)),.val (cI 1)])) (ak (aC (eC "Within" Dp [.val (m2 aq (af 6) (af 2)),.val (m2 aq (m2 aq (m1 (aZ cu "sides") (af 0)) (af 1)) (af 2)),.val (cw "Weaver" "tree_named" (w 0) (af 0) [.val (af 1),.val (af 6)]),.val (af 4)])) aA)
def yJ(w:Nat->Fn):=ak (aN 5 (m2 aq (m2 aq (m1 (aZ cu "sides") (af 0)) (af 1)) (af 3))) (ak (aN 6 (ax sG [.val (af 4),.val (af 3),.val (m1 rH (af 5)),.val (cI 1)])) (ak (aC (eC "Joined" Lw [.val (m2 aq (af 4) (af 3)),.val (af 5),.val (cw "Weaver" "tree_named" (w 0) (af 0) [.val (af 1),.val (af 4)]),.val (cw "Weaver" "tree_named" (w 0) (af 0) [.val (af 2),.val (af 6)])])) aA))
def eI:Nat->Nat->Fn|0=>fun _ _=>.no|n+1=>fun i=>match i with|0=>defn 3 [false,false,false] (u7 (eI n))|1=>defn 5 [false,false,false] (jx (eI n))|2=>defn 4 [false,false,false] (jy (eI n))|3=>defn 3 [false,false,false] (yL (eI n))|4=>defn 7 [false,false,false,false,false,false] (yK (eI n))|5=>defn 7 [false,false,false,false,false] (yJ (eI n))|_=>fun _=>.no
def yY:Fn:=eI 64 0
def Dm:Fn:=eI 64 1
def df:=bf [(cI 0),(af 1),(cI 1)]
def CH:=ak (aC (aU 1 (cH [(af 0)]) (aE 1) (VP.ret true) df)) aA
def pX:Fn:=defn 1 [false] CH
def pK:=ak (aN 4 (m2 aq (af 0) (af 3))) (ak (aN 5 (m2 aq (af 1) (af 3))) (ak (aN 6 (m2 aq (af 4) (cI 0))) (ak (bD (tB (m2 bG (af 6) (cS 0))) (ak (aC (eC "Load" Lx [.val (af 3),.val (af 5),.val (m2 aq (af 4) (cI 1))])) aA) aA) (ak (bD (tB (m2 bG (af 6) (cS 14))) (ak (aC (eC "Pick" Lz [.val (af 3),.val (af 5),.val (m2 aq (af 4) (cI 2)),.val (m2 aq (af 4) (cI 1)),.val (m2 aq (af 4) (cI 3)),.val (m2 aq (af 1) (m2 aq (af 4) (cI 1)))])) aA) aA) (ak (bD (tB (m2 bG (af 6) (cS 12))) (ak (aN 7 (m2 aq (af 1) (m2 aq (af 4) (cI 2)))) (ak (aN 8 (cw "Weaver" "tree_named" yY (eC "Weaver" yX [.val (af 0),.val (af 1),.val (af 2),.val (m1 bp (af 7))]) [.val (m2 aq (af 4) (cI 2)),.val (ax pX [.val (m1 bp (af 7))])])) (ak (aC (eC "Fold" Lv [.val (af 3),.val (af 5),.val (m2 aq (af 4) (cI 3)),.val (m2 aq (af 7) (m2 aq (af 4) (cI 3))),.val (m2 aq (af 4) (cI 1)),.val (af 8)])) aA))) aA) (ak (aN 9 (eC "Weaver" yX [.val (af 0),.val (af 1),.val (af 2),.val (m1 bp (af 5))])) (ak (bD (tB (m2 bG (af 6) (cS 13))) (ak (aC (eC "Through" Dl [.val (af 3),.val (af 5),.val (m2 aq (af 4) (cI 3)),.val (m2 aq (af 4) (cI 1)),.val (cw "Weaver" "tree_named" yY (af 9) [.val (m2 aq (af 4) (cI 2)),.val (ax pX [.val (m1 bp (af 5))])])])) aA) aA) (ak (aC (eC "Fill" Lu [.val (af 3),.val (af 5),.val (cw "Weaver" "tree_made" Dm (af 9) [.val (af 3),.val (ax pX [.val (m1 bp (af 5))])])])) aA))))))))
def lZ:Fn:=defn 10 [false,false,false,false] pK
def jz(w:Nat->Fn):=ak (bD (tB (m1 (bK gS) (af 0))) (ak (aC (cA [(m1 (aZ eW "line") (af 0))])) aA) aA) (ak (bD (tB (m1 (bK bZ) (af 0))) (ak (aC (ax (w 0) [.val (m1 (aZ iL "inner") (af 0))])) aA) aA) (ak (bD (tB (m1 (bK jZ) (af 0))) (ak (aC (m2 bj (ax (w 0) [.val (m1 (aZ jh "left") (af 0))]) (ax (w 0) [.val (m1 (aZ gQ "right") (af 0))]))) aA) aA) (ak (bD (tB (m1 (bK kF) (af 0))) (ak (aC (m2 bj (m2 bj (ax (w 0) [.val (m1 (aZ l6 "asked") (af 0))]) (ax (w 0) [.val (m1 (aZ jh "left") (af 0))])) (ax (w 0) [.val (m1 (aZ gQ "right") (af 0))]))) aA) aA) (ak (bD (tB (m1 (bK lA) (af 0))) (ak (aC (m2 bj (ax (w 0) [.val (m1 (aZ l5 "ahead") (af 0))]) (ax (w 0) [.val (m1 (aZ kC "behind") (af 0))]))) aA) aA) (ak (aC (cA [])) aA)))))
def wN:Nat->Nat->Fn|0=>fun _ _=>.no|n+1=>fun i=>match i with|0=>defn 1 [false] (jz (wN n))|_=>fun _=>.no
def Dr:Fn:=wN 64 0
def Cr:=ak (bD (tB (m1 (bK fj) (af 0))) (ak (aC (cA [])) aA) aA) (ak (bD (tB (m1 (bK gc) (af 0))) (ak (aC (cA [(m1 (aZ iO "source") (af 0)),(m1 (aZ iN "places") (af 0))])) aA) aA) (ak (aC (ax Dr [.val (m1 (aZ gH "tree") (af 0))])) aA))
def pW:Fn:=defn 1 [false] Cr
def cL:=ak (Aj 1 (af 4) (af 2)) aA
def cM:=ak (eG (dC (ax pW [.val (af 3)])) (aE 4) cL) aA
def Cp:=ak (dZ 1 (mC (.gK [] []))) (ak (eG (oz [(af 0)]) (cJ [2,3]) cM) (ak (uK 1 (aC (af 1))) aA))
def zd:Fn:=defn 5 [false] Cp
def b9:=tB (m2 (inD false) (af 1) (af 0))
def cR:=ak (aN 1 (m2 bj (af 1) (cI 1))) aA
def Cs:=ak (aN 1 (cI 0)) (ak (qS b9 cR) (ak (aC (af 1)) aA))
def zf:Fn:=defn 2 [false] Cs
def gE:=m2 AJ (af 2) (af 6)
def gF:=tB (m2 Um (m2 AJ (af 1) (af 6)) (af 3))
def gI:=ak (aN 5 (lb (aU 1 (vP (af 2)) (aE 6) gF gE))) (ak (Aj 2 (m1 (aZ eW "line") (af 4)) (ax zf [.val (af 5)])) aA)
def CB:=ak (aN 1 (ax zd [.val (af 0)])) (ak (dZ 2 (mC (.gK [] []))) (ak (eG (oz [(af 0)]) (cJ [3,4]) gI) (ak (uK 2 (aC (af 2))) aA)))
def zm:Fn:=defn 6 [false] CB
def lq:=m2 (inD false) (af 2) (m1 (Fz nT) (af 1))
def lr:=tB (m1 (uP false nT rQ) (af 1))
def JR:=ak (aC (m1 (oF true) (aU 2 (qv [(m1 (Fz nU) (m2 aq (af 0) (cI 0))),(oN eU (af 0) (some (cI 1)) none)]) (cJ [1,2]) lr lq))) aA
def Dq:Fn:=defn 1 [false] JR
def Cb:=ak (aC (zQ o6 ltI (cI 0) (af 0) (cI 1000003))) aA
def vo:Fn:=defn 1 [false] Cb
def u9:=ak (bD (tB (m2 bG (m2 aq (af 0) (cI 0)) (cS 1))) (ak (aC (ax vo [.val (m2 aq (af 0) (cI 2))])) aA) aA) (ak (aC (xN (m2 dz (m2 aq (af 0) (cI 0)) (cS 8)) (ax vo [.val (m2 aq (af 0) (cI 4))]))) aA)
def og:Fn:=defn 1 [false] u9
def dc:=zQ o6 ltI (cI 0) (af 3) (af 1)
def yO:=ak (bD (tB (m2 bG (m2 aq (af 0) (cI 0)) (cS 0))) (ak (aC (zQ o6 ltI (cI 0) (m2 aq (af 0) (cI 1)) (af 2))) aA) aA) (ak (aC (m1 (oF true) (aU 1 (dC (ax oa [.val (af 0)])) (aE 3) (VP.ret true) dc))) aA)
def sD:Fn:=defn 3 [false,false,false] yO
def eP:=zQ o6 o6 (cI 0) (af 1) (cI 64)
def CC:=ak (bD (lh (tB (m2 xy (m1 bp (af 0)) (cI 4))) (d8 (tB (m1 (oF true) (aU 1 (dC (af 0)) (aE 1) (VP.ret true) eP))))) (ak (aC cF) aA) aA) (ak (aC (m2 o6 (ax pV [.val (af 0)]) (cI 4096))) aA)
def zo:Fn:=defn 1 [false] CC
def B9:=ak (aC (zQ o6 ltI (cI 0) (af 1) (m1 bp (af 0)))) aA
def kW:Fn:=defn 2 [false,false] B9
def CT:=ak (aC (m2 bj (oN eU (af 0) none (some (af 1))) (oN eU (af 0) (some (m2 bj (af 1) (cI 1))) none))) aA
def pY:Fn:=defn 2 [false,false] CT
def B7:=ak (bD (d8 (tB (ax kW [.val (af 1),.val (af 2)]))) (ak (aC (mC .bC)) aA) aA) (ak (bD (gh (tB (m2 bG (m2 aq (af 1) (af 2)) (cI 0))) (tB (m2 (inD false) (af 0) (bf [(cS 22),(cS 23)])))) (ak (aC (mC .bC)) aA) aA) (ak (aC (ax pY [.val (af 1),.val (af 2)])) aA))
def y7:Fn:=defn 3 [false,false,false] B7
def CA:=ak (aC (m2 bj (m2 bj (oN eU (af 0) none (some (af 1))) (bf [(af 2)])) (oN eU (af 0) (some (m2 bj (af 1) (cI 1))) none))) aA
def sE:Fn:=defn 3 [false,false,false] CA
def Cc:=ak (bD (lh (d8 (tB (ax kW [.val (af 0),.val (af 2)]))) (tB (m2 dz (m1 bp (af 0)) (m1 bp (af 1))))) (ak (aC (mC .bC)) aA) aA) (ak (bD (tB (m2 dz (ax pY [.val (af 0),.val (af 2)]) (ax pY [.val (af 1),.val (af 2)]))) (ak (aC (mC .bC)) aA) aA) (ak (aC (ax sE [.val (af 0),.val (af 2),.val (m2 bj (m2 aq (af 0) (af 2)) (m2 aq (af 1) (af 2)))])) aA))
def y9:Fn:=defn 3 [false,false,false] Cc
def Cv:=ak (bD (lh (d8 (tB (ax kW [.val (af 0),.val (af 1)]))) (tB (m2 dz (m1 bp (af 2)) (cI 1)))) (ak (aC (mC .bC)) aA) aA) (ak (aC (ax sE [.val (af 0),.val (af 1),.val (m2 aq (af 2) (cI 0))])) aA)
def zh:Fn:=defn 3 [false,false,false] Cv
def fY:=cI 1
def CS:=ak (aC (m2 bj (aU 1 (cH [(m2 gJ (af 1) (m1 bp (af 0)))]) (aE 2) (VP.ret true) fY) (m1 iR (af 0)))) aA
def vx:Fn:=defn 2 [false,false] CS
def fC:=ak (bD (gh (tB (m2 dz (af 4) (af 5))) (gh (tB (m2 dz (af 4) (cI 1))) (tB (m2 dz (af 5) (cI 1))))) (ak (aC (mC .bC)) aA) aA) (ak (kS 3 (zR (tB (m2 bG (af 4) (cI 1))) (af 5) (af 4))) aA)
def CF:=ak (aN 2 (mF maxD [(m1 bp (af 0)),(m1 bp (af 1))])) (ak (dZ 3 (cA [])) (ak (eG (qv [(ax vx [.val (af 0),.val (af 2)]),(ax vx [.val (af 1),.val (af 2)])]) (cJ [4,5]) fC) (ak (aC (m1 iA (wL 3))) aA)))
def oh:Fn:=defn 6 [false,false] CF
def B8:=ak (aC (gV (ax kW [.val (af 0),.val (af 1)]) (zQ o6 ltI (cI 0) (af 2) (m2 aq (af 0) (af 1))))) aA
def sr:Fn:=defn 3 [false,false,false] B8
def B5:=ak (bD (lh (d8 (tB (ax kW [.val (af 0),.val (af 1)]))) (lh (tB (m2 bG (af 3) (cI 0))) (tB (m2 ltI (af 4) (cI 0))))) (ak (aC (mC .bC)) aA) aA) (ak (bD (gh (tB (m2 xy (af 4) (cI 0))) (d8 (gh (tB (ax sr [.val (af 0),.val (af 1),.val (af 2)])) (tB (ax sr [.val (af 0),.val (af 1),.val (m2 bj (af 2) (m2 nH (af 3) (m2 gJ (af 4) (cI 1))))]))))) (ak (aC (mC .bC)) aA) aA) (ak (aC (ax sE [.val (af 0),.val (af 1),.val (af 4)])) aA))
def yZ:Fn:=defn 5 [false,false,false,false,false] B5
def B6:=ak (aC (zR (tB (ax sr [.val (af 0),.val (af 1),.val (af 2)])) (ax pY [.val (af 0),.val (af 1)]) (mC .bC))) aA
def y4:Fn:=defn 3 [false,false,false] B6
def Cy:=ak (aC (m2 bj (m2 bj (oN eU (af 0) none (some (af 1))) (bf [(af 2)])) (oN eU (af 0) (some (af 1)) none))) aA
def zj:Fn:=defn 3 [false,false,false] Cy
def eR:=m2 aq (af 0) (af 2)
def CK:=ak (bD (tB (m2 dz (m1 wk (af 1)) (mF Ec [(m1 bp (af 0))]))) (ak (aC (mC .bC)) aA) aA) (ak (aC (m1 iA (aU 1 (dC (af 1)) (aE 2) (VP.ret true) eR))) aA)
def zx:Fn:=defn 2 [false,false] CK
def n5:=ak (aN 2 (m2 aq (af 0) (cI 0))) (ak (bD (tB (m2 bG (af 2) (cS 2))) (ak (aC (ax zx [.val (af 1),.val (m2 aq (af 0) (cI 2))])) aA) aA) (ak (bD (tB (m2 bG (af 2) (cS 3))) (ak (aC (ax yZ [.val (af 1),.val (m2 aq (af 0) (cI 2)),.val (m2 aq (af 0) (cI 3)),.val (m2 aq (af 0) (cI 4)),.val (m2 aq (af 0) (cI 5))])) aA) aA) (ak (bD (tB (m2 bG (af 2) (cS 4))) (ak (aC (ax y4 [.val (af 1),.val (m2 aq (af 0) (cI 2)),.val (m2 aq (af 0) (cI 3))])) aA) aA) (ak (bD (tB (m2 bG (af 2) (cS 5))) (ak (aC (zR (tB (zQ o6 o6 (cI 0) (m2 aq (af 0) (cI 2)) (m1 bp (af 1)))) (ax zj [.val (af 1),.val (m2 aq (af 0) (cI 2)),.val (cI 1)]) (mC .bC))) aA) aA) (ak (bD (tB (m2 bG (af 2) (cS 6))) (ak (aC (zR (tB (m2 bG (ax oh [.val (af 1),.val (m2 aq (af 0) (cI 2))]) (m2 aq (af 0) (cI 2)))) (m2 aq (af 0) (cI 2)) (mC .bC))) aA) aA) (ak (aC (zR (tB (m2 bG (ax pV [.val (af 1)]) (ax pV [.val (m2 aq (af 0) (cI 2))]))) (m2 aq (af 0) (cI 2)) (mC .bC))) aA))))))
def ir:Fn:=defn 3 [false,false] n5
def CJ:=ak (aN 3 (ax oh [.val (af 0),.val (af 1)])) (ak (aC (zR (tB (m2 isND (af 3) (mC .bC))) (mC .bC) (ax oh [.val (af 3),.val (af 2)]))) aA)
def zw:Fn:=defn 4 [false,false,false] CJ
def fH:=ak (aN 3 (m2 aq (af 0) (cI 0))) (ak (bD (tB (m2 bG (af 3) (cS 0))) (ak (aC (m2 aq (af 2) (m2 aq (af 0) (cI 1)))) aA) aA) (ak (bD (tB (m2 bG (af 3) (cS 1))) (ak (aC (m2 aq (af 0) (cI 1))) aA) aA) (ak (bD (tB (m2 bG (af 3) (cS 9))) (ak (aC (bO 1 (m2 aq (af 0) (cI 2)))) aA) aA) (ak (bD (tB (m2 bG (af 3) (cS 10))) (ak (aC (ax oh [.val (bO 1 (m2 aq (af 0) (cI 2))),.val (bO 1 (m2 aq (af 0) (cI 3)))])) aA) aA) (ak (bD (tB (m2 bG (af 3) (cS 11))) (ak (aC (ax zw [.val (bO 1 (m2 aq (af 0) (cI 1))),.val (bO 1 (m2 aq (af 0) (cI 2))),.val (bO 1 (m2 aq (af 0) (cI 3)))])) aA) aA) (ak (bD (tB (m2 bG (af 3) (cS 12))) (ak (aC (ax y7 [.val (m2 aq (af 0) (cI 1)),.val (bO 1 (m2 aq (af 0) (cI 2))),.val (m2 aq (af 0) (cI 3))])) aA) aA) (ak (bD (tB (m2 bG (af 3) (cS 13))) (ak (aC (zR (tB (ax kW [.val (bO 1 (m2 aq (af 0) (cI 2))),.val (m2 aq (af 0) (cI 3))])) (bO 1 (m2 aq (af 0) (cI 2))) (mC .bC))) aA) aA) (ak (bD (tB (m2 bG (af 3) (cS 14))) (ak (aC (ax zh [.val (bO 1 (m2 aq (af 0) (cI 1))),.val (m2 aq (af 0) (cI 2)),.val (bO 1 (m2 aq (af 0) (cI 3)))])) aA) aA) (ak (bD (tB (m2 bG (af 3) (cS 15))) (ak (aC (ax y9 [.val (bO 1 (m2 aq (af 0) (cI 1))),.val (bO 1 (m2 aq (af 0) (cI 2))),.val (m2 aq (af 0) (cI 3))])) aA) aA) (ak (bD (tB (m2 bG (af 3) (cS 8))) (ak (aC (zR (tB (ax kW [.val (bO 1 (m2 aq (af 0) (cI 1))),.val (m2 aq (af 0) (cI 2))])) (bO 1 (m2 aq (af 0) (cI 1))) (mC .bC))) aA) aA) (ak (aC (ax ir [.val (af 0),.val (bO 1 (m2 aq (af 0) (cI 1)))])) aA)))))))))))
def eV:Fn:=defn 4 [false,true,false] fH
def CD:=ak (bD (d8 (tB (ax sD [.val (af 1),.val (m1 bp (wL 2)),.val (m1 bp (af 3))]))) (ak nQ aA) aA) (ak (bD (d8 (tB (ax og [.val (af 1)]))) (ak nQ aA) aA) (ak (aN 4 (zR (tB (ax Dq [.val (af 1)])) (ax eV [.val (af 1),.io 2,.val (af 3)]) (mC .bC))) (ak (bD (lh (tB (m2 isND (af 4) (mC .bC))) (d8 (tB (ax zo [.val (af 4)])))) (ak nQ aA) aA) (ak (aC (af 4)) aA))))
def zq:Fn:=defn 5 [false,false,true,false] CD
def fT:=ak (kS 2 (ax zq [.val (af 3),.val (af 4),.io 2,.val (af 1)])) aA
def CG:=ak (bD (tB (m2 bG (m1 bp (af 0)) (cI 0))) (ak nQ aA) aA) (ak (bD (tB (m2 xy (m1 bp (af 0)) (cI 40))) (ak nQ aA) aA) (ak (dZ 2 (cA [])) (ak (eG (oz [(af 0)]) (cJ [3,4]) fT) (ak (uK 2 (aC (af 2))) aA))))
def zt:Fn:=defn 5 [false,false] CG
def jc:=ax lZ [.val (af 0),.val (af 2),.val (af 3),.val (af 6)]
def jf:=tB (m2 aq (af 3) (af 6))
def Cw:=ak (aN 2 (ax zt [.val (af 0),.val (af 1)])) (ak (aN 3 (ax vp [.val (af 0),.val (af 2)])) (ak (aN 4 (aU 1 (cH [(m1 bp (af 0))]) (aE 6) jf jc)) (ak (aN 5 (ax zm [.val (af 4)])) (ak (aC (eC "Plan" LA [.val (af 4),.val (af 5),.val (ax ze [.val (af 4),.val (af 5)])])) aA))))
def zi:Fn:=defn 6 [false,false] Cw
def pO:=af 12
def pQ:=tB (m2 aq (af 4) (af 12))
def mn:=ak (bD (lh (d8 (tB (ax n6 [.val (m1 (aZ eW "line") (af 10))]))) (lh (tB (m2 dz (m1 (aZ eW "line") (af 10)) (af 9))) (d8 (tB (ax jS [.val (m1 (aZ cu "sides") (af 10)),.val (m2 aq (af 3) (af 9))]))))) (ak (aC cF) aA) aA) (ak (bD (lh (d8 (tB (ax gy [.val (af 10),.val (m2 aq (af 2) (af 9)),.val (af 3)]))) (tB (m2 (C4 true) (af 9) (m1 (aZ fL "row_of") (af 7))))) (ak (aC cF) aA) aA) (ak (aN 11 (m2 AJ (m1 (aZ fL "row_of") (af 7)) (af 9))) (ak (bD (lh (d8 (tB (ax n6 [.val (af 11)]))) (d8 (tB (zQ o6 ltI (cI 0) (af 11) (cI 50))))) (ak (aC cF) aA) aA) (ak (uK 8 (dZ 8 (m2 wX (af 8) (m2 mulL (cA [(cI 0)]) (m2 gJ (m2 bj (af 11) (cI 1)) (m1 bp (wL 8))))))) (ak (cB 8 (af 11) (mF maxD [(bO 8 (af 11)),(ax sv [.val (m2 aq (af 3) (af 9))])])) aA)))))
def B2:=ak (aN 1 (nE vq (cA [(af 0),(cI 0)]))) (ak (aN 2 (m2 aq (af 1) (cI 0))) (ak (aN 3 (m2 aq (af 1) (cI 1))) (ak (aN 4 (ax sy [.val (af 2),.val (af 3)])) (ak (aN 5 (aU 1 (cH [(m1 bp (af 2))]) (aE 12) pQ pO)) (ak (aN 6 (m1 iR (m2 aq (af 1) (cI 3)))) (ak (aN 7 (ax zi [.val (m1 iR (af 2)),.val (af 6)])) (ak (bD (tB (m2 dz (af 6) (m2 aq (af 1) (cI 3)))) (ak (aC cF) aA) aA) (ak (bD (lh (d8 (tB (m1 (bK qo) (af 7)))) (lh (d8 (tB (m1 (kR "list") (m1 (aZ iM "loops") (af 7))))) (tB (m2 dz (m1 bp (m1 (aZ iM "loops") (af 7))) (m1 bp (af 5)))))) (ak (aC cF) aA) aA) (ak (dZ 8 (cA [])) (ak (eG (qv [(af 5),(m1 (aZ iM "loops") (af 7))]) (cJ [9,10]) mn) (ak (bD (lh (d8 (tB (m1 (kR "dict") (m1 (aZ fL "row_of") (af 7))))) (lh (tB (m2 dz (m1 Lk (m1 (aZ fL "row_of") (af 7))) (m1 bp (af 5)))) (d8 (tB (m1 (kR "list") (m1 (aZ gP "lengths") (af 7))))))) (ak (aC cF) aA) aA) (ak (aC (ax jS [.val (m1 iA (m1 (aZ gP "lengths") (af 7))),.val (m1 iA (wL 8))])) aA))))))))))))
def Dj:Fn:=defn 12 [false] B2
def cell(ns:R4)(k:Nat):Int:=ns.getD k 0
def Row(ns:R4)(p:Nat):D:=.lst [Z ns,.int p]
theorem q9(ns:R4)(p:Nat)(m:Int)(h:0<m):bB [Row ns p,.int m]=.ok (.int (cell ns p % m)) [Row ns (p+1)]:=by rw[bB,dh _ _ _ _ rfl];unfold Cm cell Row;have i0:∀(j:Int),zL [Z ns,.int j] 0=some (Z ns):=fun _=>rfl;have i1:∀(j:Int),zL [Z ns,.int j] 1=some (.int j):=fun _=>rfl;have st:∀(i j:Int),setAt (.int 1) (.int j) (.lst [Z ns,.int i])=some (.lst [Z ns,.int j]):=fun _ _=>rfl;by_cases hp:p<ns.length;have e:=fQ ns p T9 T9;simp[i0,i1,st,hp,e,iS _ _ h];have hp':¬(p:Int)<ns.length:=T9;have g:ns[p]?=none:=Iv T9;simp[i0,i1,st,hp,g]
theorem my:names.all mI=true/\names.Nodup:=⟨by decide +kernel,by decide +kernel⟩
theorem nK{i:Nat}(h:i<names.length):nm i=names[i]:=by simp[nm,h]
theorem Ln(i j:Nat)(hi:i<names.length)(hj:j<names.length):bG (.str (nm i)) (.str (nm j))=some (.bl (decide (i=j))):=by
 have f:∀k,k<names.length->mI (nm k)=true:=fun k h=>by rw[nK h];exact List.all_eq_true.mp my.1 _ (IQ h)
 have e:(nm i == nm j)=decide (i=j):=by rw[nK hi,nK hj];by_cases h:i=j;subst h;simp;have:names[i]≠names[j]:=fun z=>h ((rM my.2).mp z);simp[h,this]
 simp[bG,VP.plain,f i hi,f j hj,J1,e]
theorem Sf:32<=names.length:=by decide
theorem BK(i j:Nat)(hi:i<32)(hj:j<32):bG (.str (nm i)) (.str (nm j))=some (.bl (decide (i=j))):=Ln i j (US hi Sf) (US hj Sf)
theorem aK{α:Type}{x y:α}(h:x=y:=by
  repeat' first
    |with_reducible assumption
    | (with_reducible show (_:Res D)=_
       first
         | ((with_reducible apply O8);exact rfl)
         |with_reducible first|exact Q1E|apply Q1V|apply RZ|apply Q0y|exact Bt|apply Q0E|apply R7|apply Q14|apply MI|apply Gy|apply N1|apply Tb|apply Mt|apply Uo|apply Q2I|apply HJ|apply HK
         | ((with_reducible apply Q1c);exact rfl))
    | (with_reducible show (_:PM)=_
       with_reducible first|exact BK _ _ (by decide) (by decide)|exact BU _ _|exact Am _ _|exact jg _ _|exact dk _ _|exact lD _ _|exact gp _ _|exact uc _ _|exact HN _|exact Q0q _|exact D9 _|exact An _|exact Q1u _|exact Hw _|exact Hx _)
    | (with_reducible show (_:Res Fl)=_
       first
         |with_reducible first|apply Q2j|apply Ja|apply Q27|apply N2|apply Rv|apply OB|exact So|exact Jb|apply Ud|exact Bt|apply LF|apply Q19|apply Vw|apply Q0W|apply UT|apply noL|apply Q2e
        )
    | (with_reducible show (_:Res (List AV))=_
       with_reducible first|exact u4|apply u5|apply w5|exact Bt)
    | (with_reducible show (_:Res Bool)=_
       first
         |with_reducible first|apply Tj|apply M5|apply K6|apply Q0C|exact Bt
        )
    | (with_reducible show (_:Res (List D))=_
       with_reducible first|exact Q1O|apply R8|apply OJ|apply OE|apply Pj|apply GL|apply OD|apply Hn|exact Bt)
    | ((with_reducible apply JX);refine Ub ?_;with_reducible assumption)|((with_reducible apply JW);refine Vy ?_;with_reducible assumption)|((with_reducible apply JX);exact rfl)|((with_reducible apply JW);exact rfl)
    |with_reducible first|apply Q1G|exact Q1I|apply Q1w|exact uL _|exact OH _|exact Bt
    | (conv=>{lhs;dsimp only[List.set,putAll,cE,gb,List.getElem?_cons_zero,List.getElem?_cons_succ,rj,own,Option.map_some]};done)
    |exact rfl|(refine GU rfl ?_;with_reducible assumption)):x=y:=h
theorem rn{n:Nat}{fl:WK}{b:M Fl}{ds cK:RN}{r r0:aR}{d:D}(hl:decide (ds.length=fl.length)=true:=by exact rfl)(h0:de n fl ds=r0:=by conv=>{lhs;simp only[km,lJ,qP,Fe,Bool.false_eq_true,↓reduceIte]})(h:b r0=.ok (.rt d) r:=by exact aK)(hi:cj fl r=some cK:=by exact rfl):defn n fl b ds=.ok d cK:=QJ hl (h0 ▸ h) hi
theorem Q25(i j:Nat)(hi:i<32)(hj:j<32):(nm i == nm j)=decide (i=j):=by have h1:=US hi Sf;have h2:=US hj Sf;rw[nK h1,nK h2];by_cases h:i=j;subst h;simp;have:names[i]≠names[j]:=fun z=>h ((rM my.2).mp z);simp[h,this]
theorem WO(i j:Nat)(hi:i<32)(hj:j<32):dz (.str (nm i)) (.str (nm j))=some (.bl (!decide (i=j))):=by
 have e:=BK i j hi hj;unfold bG at e;unfold dz;split at e;rename_i hp;rw[Ge hp];have e':eqB (D.str (nm i)) (.str (nm j))=decide (i=j):=by simpa using e
 rw[e'];cases e
theorem zK(k:Bool):intD [.bl k]=some (.int (if k=true then 1 else 0)):=rfl
def Rt(a:Int):Prop:=0<=a/\a<1000003
def aV:R4->Int|[]=>1|x::r=>x*aV r
structure Sd(xs:R4):Prop where
 len:xs.length<=4
 bd:∀x∈xs,0<=x/\x<=64
theorem Ae:∀(xs:R4),(∀x∈xs,0<=x/\x<=64)->0<=aV xs/\aV xs<=64 ^ xs.length|[],_=>by simp[aV]|x::r,h=>by have hx:=h x QI;have hr:=Ae r fun y hy=>h y (QC _ hy);simp only[aV,List.length_cons];refine⟨W2 hx.1 hr.1,?_⟩;have:x*aV r<=64*64 ^ r.length:=Int.mul_le_mul hx.2 hr.2 hr.1 T9;rw[Int.pow_succ];lia
theorem v5:∀{n:Nat},n<=4->(64:Int) ^ n<=16777216|0,_=>by decide|1,_=>by decide|2,_=>by decide|3,_=>by decide|4,_=>by decide
theorem Sd.drop{xs:R4}(h:Sd xs)(k:Nat):Sd (xs.drop k):=⟨by have:=h.len;simp;lia,fun y hy=>h.bd y (Ju hy)⟩
theorem lI:∀(xs:R4)(a:Int),xs.foldl (fun p x=>p*x) a=a*aV xs|[],a=>by simp[aV]|x::r,a=>by simp only[List.foldl_cons,aV];rw[lI r];rw[Int.mul_assoc]
def back(xs:R4)(k:Nat):Int:=if k<xs.length then xs.getD (xs.length-1-k) 1 else 1
def qE(x y:Int):Bool:=decide (x=1\/y=1\/x=y)
def pk(x y:Int):Int:=if x=1 then y else x
def KG(acc:R4)(p:Int×Int):D ⊕ List Int:=if qE p.1 p.2 then .inr (acc++[pk p.1 p.2]) else .inl .bC
theorem sI(ps:List (Int×Int)):∀acc,jU KG ps acc=if ps.all (fun p=>qE p.1 p.2) then .inr (acc++ps.map fun p=>pk p.1 p.2) else .inl .bC:=by induction ps with|nil=>intro acc;simp[jU]|cons p ps ih=>intro acc;simp only[jU,KG,List.all_cons];by_cases q:qE p.1 p.2=true;simp only[q,if_true,ih,Bool.true_and];simp;simp[q]
def Bk:Option (List Int)->D|some xs=>T xs|none=>.bC
def pairs(one other:R4):List (Int×Int):=(List.range (max one.length other.length)).map fun k=>(back one k,back other k)
def meet(one other:R4):Option (List Int):=if (pairs one other).all (fun p=>qE p.1 p.2) then some ((pairs one other).map fun p=>pk p.1 p.2).reverse else none
def ahead(xs:R4)(n:Nat):R4:=List.replicate (n-xs.length) 1++xs
theorem kN(one other:R4):(ahead one (max one.length other.length)).zip (ahead other (max one.length other.length))=(pairs one other).reverse:=by
 have len:∀(xs:R4)(n:Nat),xs.length<=n->(ahead xs n).length=n:=fun xs n h=>by simp[ahead];omega
 have get:∀(xs:R4)(n i:Nat),xs.length<=n->i<n->(ahead xs n)[i]?=some (back xs (n-1-i)):=fun xs n i h hi=>by unfold ahead back;by_cases c:i<n-xs.length;rw[MS (by simpa using c),UE Uk];simp[c];rw[Sr (by simp;omega),Ge Uk];have e:xs.length-1-(n-1-i)=i-(n-xs.length):=Uk;have hl:i-(n-xs.length)<xs.length:=Uk;simp[e,hl]
 refine DU fun i=>?_;by_cases hi:i<max one.length other.length;rw[show (List.zip (ahead one (max one.length other.length)) (ahead other (max one.length other.length)))[i]?=some (back one (max one.length other.length-1-i),back other (max one.length other.length-1-i)) from List.getElem?_zip_eq_some.mpr ⟨get one _ _ Uk hi,get other _ _ Uk hi⟩];rw[IB (by simp[pairs];omega)];simp only[pairs,List.length_map,List.length_range,List.getElem?_map];rw[Mr Uk];rfl;rw[Iv (by rw[List.length_zip,len _ _ Uk,len _ _ Uk];omega),Iv (by simp[pairs];omega)]
theorem mW(xs:R4)(n:Nat)(h:xs.length<=n):(ahead xs n).length=n:=by simp[ahead];lia
theorem qp(one other:R4)(h1:one.length<=4)(h2:other.length<=4):iK [T one,T other]=.ok (Bk (meet one other)) []:=by
 obtain⟨n,hn⟩:∃n,max one.length other.length=n:=⟨_,rfl⟩;have o1:one.length<=n:=hn ▸ Ir ..;have o2:other.length<=n:=hn ▸ WC ..;have n4:n<=4:=hn ▸ Nat.max_le.mpr ⟨h1,h2⟩;have mx:maxD [.int (one.length:Int),.int (other.length:Int)]=some (.int (n:Int)):=by rw[pe,show max (one.length:Int) other.length=n by lia]
 have er:uJ [.int (n:Int)]=some ((List.range n).map fun(k:Nat)=>.int k):=qQ _ _ T9 T9 T9;have mu:∀(xs:R4),xs.length<=n->Bf (.tup [.int 1]) (.int ((n:Int)-xs.length))=some (T (List.replicate (n-xs.length) 1)):=fun xs hx=>by
  have e:((n:Int)-xs.length).toNat=n-xs.length:=T9;have d:Bf (.tup [.int 1]) (.int ((n:Int)-xs.length))=if -(eL:Int)<=(n:Int)-xs.length/\(n:Int)-xs.length<=eL/\[D.int 1].length*((n:Int)-xs.length).toNat<=eL then some (.tup (List.replicate ((n:Int)-xs.length).toNat [D.int 1]).flatten) else none:=rfl
  rw[d,Ge (by simp[eL];lia),e];simp[T,List.map_replicate]
 have ad:∀(xs:R4),xs.length<=n->bj (T (List.replicate (n-xs.length) 1)) (T xs)=some (T (ahead xs n)):=fun xs hx=>by rw[fK _ _ (by simp[eL];lia)];rfl
 have l1:=mW one n T9;have l2:=mW other n T9;have zp:=kN one other;rw[hn] at zp;have L:=lC (g:=aE 6) (body:=jm) (fun(k:Nat)=>D.int k) (fun(s:R4)(t:Sl)=>[.sh (T one),.sh (T other),.sh (.int (n:Int)),.sh (T (ahead one n)),.sh (T (ahead other n)),.sh (T s),t]) vB (fun acc k=>KG acc ((ahead one n).getD k 0,(ahead other n).getD k 0)) (List.range n) (fun k s=>s.length=k) [] .no rfl rfl ?_;have e:jU (fun acc k=>KG acc ((ahead one n).getD k 0,(ahead other n).getD k 0)) (List.range n) []=jU KG (pairs one other).reverse []:=by
  have em:(pairs one other).reverse=(List.range n).map fun k=>((ahead one n).getD k 0,(ahead other n).getD k 0):=by
   rw[<-zp];refine rO (by simp[l1,l2]) fun k a b=>?_;have hk:k<n:=by simpa using b
   simp[l1,l2,hk]
  rw[em];generalize (List.range n)=ks;generalize ([]:R4)=acc;induction ks generalizing acc with|nil=>rfl|cons k ks ih=>simp only[jU,List.map_cons];split<;>simp_all
 rw[e,sI,Mj] at L;unfold meet;have m1':=mu one o1;have m2':=mu other o2;have a1':=ad one o1;have a2':=ad other o2;by_cases q:(pairs one other).all (fun p=>qE p.1 p.2)=true;rw[Ge q] at L;obtain⟨_,t,_,L⟩:=L;simp only[List.nil_append] at L;rw[Ge q];rw[show T []=D.tup [] from rfl,FA] at L;unfold iK yM Bk;exact rn;rw[UE q] at L;obtain⟨s',t,L⟩:=L;rw[UE q];rw[show T []=D.tup [] from rfl] at L;unfold iK yM Bk;exact rn;intro i k hk acc t ht hP;obtain⟨rfl,hk⟩:=fF hk;have hf:free (some t)=true:=ht;have e1:∀x:Int,bj (T acc) (.tup [.int x])=some (T (acc++[x])):=fun x=>fK acc [x] (by simp[eL];lia);have i1:=fQ (ahead one n) k T9 T9;have i2:=fQ (ahead other n) k T9 T9;simp only[BA] at i1 i2;generalize (ahead one n).getD k 0=x at *;generalize (ahead other n).getD k 0=y at *;have g6:aE 6 (.int (k:Int)) [.sh (T one),.sh (T other),.sh (.int (n:Int)),.sh (T (ahead one n)),.sh (T (ahead other n)),.sh (T acc),t]=.ok () [.sh (T one),.sh (T other),.sh (.int (n:Int)),.sh (T (ahead one n)),.sh (T (ahead other n)),.sh (T acc),.sh (.int k)]:=by simp[hf]
 have x1:bH (aE 6) jm (.int k) [.sh (T one),.sh (T other),.sh (.int (n:Int)),.sh (T (ahead one n)),.sh (T (ahead other n)),.sh (T acc),t]=if qE x y then .ok .nx [.sh (T one),.sh (T other),.sh (.int (n:Int)),.sh (T (ahead one n)),.sh (T (ahead other n)),.sh (T (acc++[pk x y])),.sh (.int k)] else .ok (.rt .bC) [.sh (T one),.sh (T other),.sh (.int (n:Int)),.sh (T (ahead one n)),.sh (T (ahead other n)),.sh (T acc),.sh (.int k)]:=by
  have n1:=dk x y;have n2:=dk x 1;have n3:=dk y 1;have n4:=jg x 1;have e2:qE x y=(decide (x=1)||decide (y=1)||decide (x=y)):=by simp[qE,Bool.or_assoc]
  have e3:pk x y=if decide (x=1)=true then y else x:=by simp[pk]
  rw[e2,e3,bH,g6,az];have j1:aq (T (ahead one n)) (.int (k:Int))=some (.int x):=i1;have j2:aq (T (ahead other n)) (.int (k:Int))=some (.int y):=i2;clear er mu ad zp i1 i2;generalize T (ahead one n)=A at *;generalize T (ahead other n)=B at *;generalize T one=O1 at *;generalize T other=O2 at *;clear mx;generalize decide (x=1)=b1 at *;generalize decide (y=1)=b2 at *;generalize decide (x=y)=b3 at *;have Y4:=e1 x;have Y5:=e1 y;unfold jm;cases b1;cases b2;cases b3;exact aK;exact aK;cases b3<;>exact aK;cases b2<;>cases b3<;>exact aK
 unfold KG;dsimp only;rw[x1];by_cases q:qE x y=true;rw[Ge q,Ge q];exact⟨by simp[hP],.sh (.int k),rfl,rfl⟩;rw[UE q,UE q];exact⟨acc,.sh (.int k),rfl⟩
def Sm(xs:R4):Prop:=∀x∈xs,-100000<=x/\x<=100000
theorem Q2J(i j:Nat)(hi:i<32)(hj:j<32):eqB (.str (nm i)) (.str (nm j))=decide (i=j):=by rw[J1];exact Q25 i j hi hj
theorem mG(n k:Nat)(d:Nat)(h:k<=n):we n d (some (k:Int))=k:=by unfold we;dsimp only;rw[if_neg T9];lia
@[simp] theorem ki(n d:Nat):we n d none=d:=RM
def wo(s:R4)(k:Nat):R4:=s.take k++s.drop (k+1)
def pin(s:R4)(k:Nat)(x:Int):R4:=s.take k++x::s.drop k
def rep(s:R4)(k:Nat)(x:Int):R4:=s.take k++x::s.drop (k+1)
theorem v8:∀(a b:R4),aV (a++b)=aV a*aV b|[],b=>by simp[aV]|x::a,b=>by simp only[List.cons_append,aV,v8 a b];rw[Int.mul_assoc]
def bF(ss:WU):D:=.lst (ss.map T)
theorem RG(ss:WU)(i:Nat)(s:R4)(h:ss[i]?=some s):zL (ss.map T) (i:Int)=some (T s):=by refine j4 _ _ _ T9 ?_;simp[h]
theorem fR(ss:WU):bp (bF ss)=some (.int ss.length):=by simp[bF]
theorem Ha(ss:WU)(i:Nat)(s:R4)(h:ss[i]?=some s):aq (bF ss) (.int i)=some (T s):=RG ss i s h
theorem gW{s t m:R4}(h:meet s t=some m):m.length=max s.length t.length:=by unfold meet at h;split at h;cases h;simp[pairs];cases h
theorem Ad(n:Nat)(s:R4):VP.plain (n+1) (T s)=true:=by unfold T;rw[VP.plain];exact iz n s
theorem QH(s:R4):eqB (T s) (T s)=true:=by unfold T;rw[yV,kB];simp
theorem vZ(n:Nat):∀ss:WU,dE (n+1) (ss.map T)=true|[]=>rfl|s::ss=>by rw[Po,dE,Ad,vZ n ss];rfl
theorem Df:∀ss:WU,m8 (ss.map T) (ss.map T)=true|[]=>rfl|s::ss=>by rw[Po,m8,QH,Df ss];rfl
theorem M3(ss:WU):dz (bF ss) (bF ss)=some (.bl false):=by unfold dz bF;rw[VP.plain,vZ,vk,Df];rfl
theorem GR(k:Nat)(h:k<32):mI (nm k)=true:=by have h':=US h Sf;rw[nK h'];exact List.all_eq_true.mp my.1 _ (IQ h')
inductive PL where
 |given (j:Int)|m9 (s:R4) (x:Int)|turn (a:Nat) (o:R4)|cut (a:Nat) (k b st m:Int)|drop (a:Nat) (k p:Int)|wide (a:Nat) (k:Int)|spread (a:Nat) (t:R4)|shape (a:Nat) (t:R4)|shift (a:Nat) (k n x:Int)|one (d a:Nat)|both (d a b:Nat)|hW (a b c:Nat)|fold (d a:Nat) (k:Int)|run (d a:Nat) (k:Int)|pick (a:Nat) (k:Int) (b:Nat)|join (a b:Nat) (k:Int)
abbrev WH:=List PL
instance:Inhabited PL:=⟨.given 0⟩
def PL.k:PL->Nat|.given _=>0|.m9 _ _=>1|.turn _ _=>2|.cut _ _ _ _ _=>3|.drop _ _ _=>4|.wide _ _=>5|.spread _ _=>6|.shape _ _=>7|.shift _ _ _ _=>8|.one _ _=>9|.both _ _ _=>10|.hW _ _ _=>11|.fold _ _ _=>12|.run _ _ _=>13|.pick _ _ _=>14|.join _ _ _=>15
def PL.ps:PL->List D|.given j=>[.int j]|.m9 s x=>[T s,.int x]|.turn a o=>[.int a,T o]|.cut a k b st m=>[.int a,.int k,.int b,.int st,.int m]|.drop a k p=>[.int a,.int k,.int p]|.wide a k=>[.int a,.int k]|.spread a t=>[.int a,T t]|.shape a t=>[.int a,T t]|.shift a k n x=>[.int a,.int k,.int n,.int x]|.one d a=>[.str (nm d),.int a]|.both d a b=>[.str (nm d),.int a,.int b]|.hW a b c=>[.int a,.int b,.int c]|.fold d a k=>[.str (nm d),.int a,.int k]|.run d a k=>[.str (nm d),.int a,.int k]|.pick a k b=>[.int a,.int k,.int b]|.join a b k=>[.int a,.int b,.int k]
def PL.d(l:PL):D:=.tup (.str (nm l.k)::l.ps)
def PL.ns:PL->List Nat|.given _=>[]|.m9 _ _=>[]|.turn a _=>[a]|.cut a _ _ _ _=>[a]|.drop a _ _=>[a]|.wide a _=>[a]|.spread a _=>[a]|.shape a _=>[a]|.shift a _ _ _=>[a]|.one _ a=>[a]|.both _ a b=>[a,b]|.hW a b c=>[a,b,c]|.fold _ a _=>[a]|.run _ a _=>[a]|.pick a _ b=>[a,b]|.join a b _=>[a,b]
def PL.l7:PL->Prop|.one d _=>d<32|.both d _ _=>d<32|.fold d _ _=>d<32|.run d _ _=>d<32|_=>True
theorem PL.Mu(l:PL):l.k<16:=by cases l<;>simp[PL.k]
theorem PL.lu(l:PL):l.ns.length<=3:=by cases l<;>simp[PL.ns]
theorem PL.kind(l:PL):aq l.d (.int 0)=some (.str (nm l.k)):=by unfold PL.d;simp
theorem PL.named(l:PL):oa [l.d]=.ok (.lst (l.ns.map fun a=>D.int (a:Nat))) []:=by cases l<;>kernel_rfl!
def PL.ok(l:PL):Prop:=l.l7
theorem PL.plain(l:PL)(h:l.l7)(n:Nat):VP.plain (n+2) l.d=true:=by have f:∀k,k<32->mI (nm k)=true:=GR;have p:∀s:R4,VP.plain (n+1) (T s)=true:=Ad n;cases l<;>simp[PL.d,PL.k,PL.ps,PL.l7,VP.plain,dE,p,f] at h ⊢<;>exact f _ h
def Pg(ls:WH):D:=.lst (ls.map PL.d)
theorem D3(ls:WH)(i:Nat)(l:PL)(h:ls[i]?=some l):aq (Pg ls) (.int (i:Int))=some l.d:=by unfold Pg;rw[iQ];exact j4 _ _ _ T9 (by simp[h])
theorem iu(ls:WH):bp (Pg ls)=some (.int ls.length):=by simp[Pg]
theorem Fq(ls:WH):cy (Pg ls)=some (ls.map PL.d):=rfl
theorem cV{S Tm A:Type}{g:D->M Unit}{body:M Fl}(mk:A->D)(R:S->Tm->aR)(ok:Tm->Prop):∀(as:List A)(P:Nat->S->Prop)(s:S)(t:Tm),ok t->P 0 s ->
  (∀(i:Nat)(a:A),as[i]?=some a->∀s t,ok t->P i s->∃s' t',P (i+1) s'/\ok t'/\cont (bH g body (mk a) (R s t))=some (R s' t')) ->
  ∃s' t',P as.length s'/\ok t'/\loop g body (as.map mk) (R s t)=.ok .nx (R s' t'):=by
 intro as;induction as with|nil=>intro P s t ht hs _;exact⟨s,t,hs,ht,rfl⟩|cons a as ih=>intro P s t ht hs h;obtain⟨s1,t1,p1,o1,e1⟩:=h 0 a rfl s t ht hs;obtain⟨s2,t2,p2,o2,e2⟩:=ih (fun k=>P (k+1)) s1 t1 o1 p1 fun i a' ha=>h (i+1) a' (by simpa using ha);exact⟨s2,t2,by simpa using p2,o2,by rw[List.map_cons,eA e1];exact e2⟩
def Wf(ls:WH):Prop:=∀(i:Nat)(l:PL),ls[i]?=some l->∀r∈l.ns,r<i
inductive oV(ls:WH):Nat->Prop where
 |last:oV ls (ls.length-1)|step {i r:Nat} {l:PL}:oV ls i->ls[i]?=some l->r∈l.ns->oV ls r
theorem oV.lt{ls:WH}(wf:Wf ls)(h0:ls≠[]){i:Nat}(h:oV ls i):i<ls.length:=by induction h with|last=>have:=List.length_pos_iff.mpr h0;lia|step h e hr ih=>have:=wf _ _ e _ hr;lia
def eJ(w:WK):D:=.lst (w.map .bl)
def bJ(ks:UA):D:=.lst (ks.map fun k=>.int (k:Nat))
theorem vR:∀(ns:UA)(w:WK)(i:Nat),(ns.foldl (fun w r=>w.set r true) w).length=w.length/\((ns.foldl (fun w r=>w.set r true) w)[i]?=some true<->i<w.length/\(w[i]?=some true\/i∈ns))
|[],w,i=>by refine⟨rfl,⟨fun h=>⟨(List.getElem?_eq_some_iff.mp h).1,.inl h⟩,fun ⟨h1,h⟩=>?_⟩⟩;rcases h with h|h;exact h;simp at h
|r::ns,w,i=>by obtain⟨h1,h2⟩:=vR ns (w.set r true) i;simp only[List.foldl_cons];refine⟨by rw[h1];simp,?_⟩;rw[h2];simp only[List.length_set,List.mem_cons];constructor;rintro⟨a,b⟩;refine⟨a,?_⟩;rcases b with b|b;by_cases e:r=i;exact .inr (.inl e.symm);rw[H0 e] at b;exact .inl b;exact .inr (.inr b);rintro⟨a,b⟩;refine⟨a,?_⟩;by_cases e:r=i;subst e;exact .inl (by rw[xP a]);rw[H0 e];rcases b with b|b|b;exact .inl b;exact absurd b.symm e;exact .inr b
theorem tM(w:WK)(r:Nat)(b:Bool)(h:r<w.length):setAt (.int (r:Int)) (.bl b) (eJ w)=some (eJ (w.set r b)):=by unfold eJ;rw[kK _ _ _ T9 (by simp;lia),BA,List.map_set]
theorem i7(w:WK)(i:Nat)(b:Bool)(h:w[i]?=some b):aq (eJ w) (.int (i:Int))=some (.bl b):=by unfold eJ;rw[iQ];exact j4 _ _ _ T9 (by simp[h])
theorem sU(P:D)(s:Sl):∀(ns:UA)(w:WK),(∀r∈ns,r<w.length)->∀t,free (some t)=true->∃t',free (some t')=true/\loop (aE 3) fD (ns.map fun k=>D.int (k:Nat)) [.sh P,.ow (eJ w),s,t]=.ok .nx [.sh P,.ow (eJ (ns.foldl (fun w r=>w.set r true) w)),s,t']|[],w,_,t,ht=>⟨t,ht,rfl⟩|r::ns,w,h,t,ht=>by have hr:=h r QI;obtain⟨t',h1,h2⟩:=sU P s ns (w.set r true) (fun x hx=>by simpa using h x (QC _ hx)) (.sh (.int r)) rfl;refine⟨t',h1,?_⟩;have il:isLst (some (eJ w))=true:=rfl;rw[Po,eA (r':=[.sh P,.ow (eJ (w.set r true)),s,.sh (.int r)]) (by simp[bH,fD,ht,il,tM w r true hr]),h2];rfl
theorem BG(ls:WH)(wf:Wf ls)(h0:ls≠[])(hl:ls.length<=100):∃w,vv [Pg ls]=.ok (eJ w) []/\w.length=ls.length/\∀i,w[i]?=some true<->oV ls i:=by
 rw[vv,dh _ _ _ _ rfl];have hn:=List.length_pos_iff.mpr h0;have c:aU 1 (dC (af 0)) (aE 4) (VP.ret true) eS [.sh (Pg ls),.no,.no,.no]=.ok (eJ (List.replicate ls.length false)) [.sh (Pg ls),.no,.no,.no]:=by refine iJ PL.d (fun _=>D.bl false) ls (by simp[Fq]) T9 (by simp[eJ,List.map_const']) fun l hl acc=>?_;simp[eS]
 have ln:=iu ls;have st:=tM (List.replicate ls.length false) (ls.length-1) true (by simp;lia);rw[show (((ls.length-1:Nat)):Int)=(ls.length:Int)-1 by lia] at st;have il:∀w,isLst (some (eJ w))=true:=fun _=>rfl;have dn:Fh [.int ((ls.length:Int)-1),.int (-1),.int (-1)]=some ((List.range ls.length).map fun(k:Nat)=>.int ((ls.length:Int)-1-k)):=by
  have d:Fh [.int ((ls.length:Int)-1),.int (-1),.int (-1)]=if (-1:Int)=-1/\(-(2 ^ 62)<=(ls.length:Int)-1/\(ls.length:Int)-1<2 ^ 62)/\-(2 ^ 62)<=(-1:Int)/\(-1:Int)<2 ^ 62 then some ((List.range ((ls.length:Int)-1 - -1).toNat).map fun(k:Nat)=>.int ((ls.length:Int)-1-k)) else none:=rfl
  rw[d,Ge ⟨rfl,⟨T9,T9⟩,by decide,by decide⟩];rw[show ((ls.length:Int)-1 - -1).toNat=ls.length by lia]
 obtain⟨w,t,⟨hw,h1,h2,h3⟩,ht,L⟩:=cV (g:=aE 2) (body:=dj) (fun(k:Nat)=>D.int ((ls.length:Int)-1-k)) (fun(w:WK)(t:Sl×Sl)=>[.sh (Pg ls),.ow (eJ w),t.1,t.2]) l8 (List.range ls.length)
  (fun j w=>w.length=ls.length/\(∀i,w[i]?=some true->oV ls i)/\w[ls.length-1]?=some true/\∀i,ls.length-j<=i->w[i]?=some true->∀l,ls[i]?=some l->∀r∈l.ns,w[r]?=some true)
  ((List.replicate ls.length false).set (ls.length-1) true) (.no,.no) ⟨rfl,rfl⟩ ⟨G9,fun i h=>by
   by_cases e:ls.length-1=i;subst e;exact .last;rw[H0 e,Hl] at h;split at h<;>simp at h,by rw[List.getElem?_set_self (by simp;lia)],fun i hi h l hl=>by
   have:=(List.getElem?_eq_some_iff.mp hl).1;lia⟩ (by
  intro j k hk w t ht hP;obtain⟨rfl,hj⟩:=fF hk;obtain⟨t2,t3⟩:=t;obtain⟨f2,f3⟩:=ht;obtain⟨hw,p1,p2,p3⟩:=hP;dsimp only at f2 f3;have oj:ls.length-1-k<ls.length:=T9;have ei:((ls.length:Int)-1-k)=((ls.length-1-k:Nat):Int):=T9;rw[ei];obtain⟨l,hl⟩:∃l,ls[ls.length-1-k]?=some l:=⟨_,QR oj⟩;have ix:=D3 ls _ l hl;generalize hi:ls.length-1-k=i at *;obtain⟨b,hb⟩:∃b,w[i]?=some b:=⟨_,QR T9⟩;have bi:=i7 w i b hb;cases b with
  |false=>refine⟨w,(.sh (.int i),t3),⟨hw,p1,p2,fun m hm h x hx=>?_⟩,⟨rfl,f3⟩,?_⟩;by_cases e:m=i;subst e;rw[hb] at h;cases h;exact p3 m T9 h x hx;simp[bH,dj,f2,bi]|true=>
   have nb:=fun r hr=>wf i l hl r hr;obtain⟨t',We,L⟩:=sU (Pg ls) (.sh (.int i)) l.ns w (fun r hr=>by have:=nb r hr;lia) t3 f3;have mg:=vR l.ns w;refine⟨l.ns.foldl (fun w r=>w.set r true) w,(.sh (.int i),t'),⟨by rw[(mg 0).1];exact hw,fun m h=>?_,?_,fun m hm h x hx r hr=>?_⟩,⟨rfl,We⟩,?_⟩;rcases ((mg m).2.mp h).2 with q|q;exact p1 m q;exact .step (p1 i hb) hl q;exact(mg _).2.mpr ⟨T9,.inl p2⟩;rcases ((mg m).2.mp h).2 with q|q;by_cases e:m=i;subst e;rw[hl] at hx;cases hx;exact(mg r).2.mpr ⟨by have:=nb r hr;lia,.inr hr⟩;have:=p3 m T9 q x hx r hr;exact(mg r).2.mpr ⟨(List.getElem?_eq_some_iff.mp this).1,.inl this⟩;have:=nb m q;by_cases e:m=i
   lia
   lia
   simp[bH,dj,f2,bi,ix,PL.named,L])
 obtain⟨t2,t3⟩:=t;simp only[List.length_range] at h3;refine⟨w,?_,hw,fun i=>⟨h1 i,fun h=>?_⟩⟩;simp[CL,c,il,ln,st,dn,L];induction h with|last=>exact h2|step h e hr ih=>exact h3 _ T9 ih _ e _ hr
theorem Wt(k:Nat)(hk:k<32)(js:UA)(hj:∀j∈js,j<32):((js.map fun j=>D.str (nm j)).any fun y=>eqB y (.str (nm k)))=decide (k∈js)/\(js.map fun j=>D.str (nm j)).all jB=true:=by induction js with|nil=>simp|cons j js ih=>obtain⟨h1,h2⟩:=ih fun x hx=>hj x (QC _ hx);refine⟨?_,?_⟩;rw[Po,AB,h1,Q2J _ _ (hj j QI) hk];by_cases e:j=k;simp[e];have e':¬k=j:=fun z=>e z.symm;simp[e,e'];rw[Po,TH,h2];rfl
theorem Mm(k:Nat)(hk:k<32)(js:UA)(hj:∀j∈js,j<32):inD false (.str (nm k)) (.tup (js.map fun j=>D.str (nm j)))=some (.bl (decide (k∈js))):=by obtain⟨h1,h2⟩:=Wt k hk js hj;unfold inD;rw[Fo];dsimp only;rw[h2,h1];rfl
theorem Ry(k:Nat)(hk:k<32)(js:UA)(hj:∀j∈js,j<32):inD false (.str (nm k)) (.lst (js.map fun j=>D.str (nm j)))=some (.bl (decide (k∈js))):=by obtain⟨h1,h2⟩:=Wt k hk js hj;unfold inD;rw[qT];dsimp only;rw[h2,h1];rfl
def cv(ls:WH)(i:Nat):PL:=ls.getD i default
def kd(ls:WH)(i:Nat):Nat:=(cv ls i).k
def sd(ss:WU)(i:Nat):R4:=ss.getD i []
def fE(ls:WH)(i:Nat):UA:=(cv ls i).ns
theorem ox(ls:WH)(i:Nat):kd ls i<32:=by have:=(cv ls i).Mu;unfold kd;lia
theorem ou(ls:WH)(i:Nat)(h:i<ls.length):aq (Pg ls) (.int (i:Int))=some (cv ls i).d:=D3 ls i _ (by simp[cv,h])
theorem ck(ss:WU)(i:Nat)(h:i<ss.length):aq (bF ss) (.int (i:Int))=some (T (sd ss i)):=Ha ss i _ (by simp[sd,h])
def cN(ls:WH)(w:WK)(p:Nat):UA:=(List.range ls.length).flatMap fun i=>if w.getD i false then((fE ls i).filter (fun r=>decide (r=p))).map fun _=>i else []
theorem Q1D(ls:WH)(l:PL)(P W:D)(p i:Nat)(acc:D)(t:Sl):aU 1 (dC (ax oa [.val (af 5)])) (aE 6) eT eO [.sh P,.sh W,.sh (.int p),.ow acc,.sh (.int i),.sh l.d]=.ok (bJ ((l.ns.filter fun r=>decide (r=p)).map fun _=>i)) [.sh P,.sh W,.sh (.int p),.ow acc,.sh (.int i),.sh l.d]:=by
 have n:=l.named;have fw:=l.lu;generalize l.ns=ns at n fw ⊢;generalize l.d=ld at n ⊢;refine tQ (fun(a:Nat)=>D.int (a:Nat)) (fun r=>decide (r=p)) (fun _=>D.int i) ns aK T9 (by rw[bJ,S6];rfl) (fun a _ acc=>?_) fun a _ _ acc=>?_;have e:bG (.int (a:Int)) (.int (p:Int))=some (.bl (decide (a=p))):=by rw[jg];congr 3;exact propext Int.ofNat_inj
 dsimp only[List.cons_append,List.nil_append];unfold eT;exact aK;dsimp only[List.cons_append,List.nil_append];unfold eO;exact aK
theorem tU(ls:WH):kU (ls.map PL.d)=(List.range ls.length).map fun(i:Nat)=>D.tup [.int i,(cv ls i).d]:=by
 rw[sk];refine rO G9 fun i h1 h2=>?_;have h:i<ls.length:=by simpa using h2
 simp[h,cv]
theorem Q1g(ls:WH)(w:WK)(p:Nat)(hw:w.length=ls.length)(hl:ls.length<=100):zg [Pg ls,eJ w,.int p]=.ok (bJ (cN ls w p)) []:=by
 rw[zg,dh _ _ _ _ rfl];have en:lY [Pg ls]=some ((List.range ls.length).map fun(i:Nat)=>D.tup [.int i,(cv ls i).d]):=by unfold Pg;rw[sj,tU]
 let f:=fun(i:Nat)=>if w.getD i false then((fE ls i).filter (fun r=>decide (r=p))).map fun _=>i else []
 obtain⟨_,t,_,L⟩:=jk (g:=cJ [4,5]) (body:=di) (fun(i:Nat)=>D.tup [.int i,(cv ls i).d]) (fun(s:UA)(t:Sl×Sl)=>[.sh (Pg ls),.sh (eJ w),.sh (.int p),.ow (bJ s),t.1,t.2]) l8
  (fun k s=>s.length<=3*k) (fun s i=>s++f i) (List.range ls.length) [] (.no,.no) ⟨rfl,rfl⟩ G9 (by
  intro j i hi s t ht hP;obtain⟨t4,t5⟩:=t;obtain⟨f4,f5⟩:=ht;dsimp only at f4 f5;obtain⟨rfl,hi⟩:=fF hi;obtain⟨b,hb⟩:∃b,w[i]?=some b:=⟨_,QR T9⟩;have hg:w.getD i false=b:=by simp[hb]
  have bi:=i7 w i b hb;have il:isLst (some (bJ s))=true:=rfl;have fw:=(cv ls i).lu;cases b with
  |false=>
   have e:f i=[]:=by simp[f,hb]
   refine⟨by rw[e];simp;lia,(.sh (.int i),.sh (cv ls i).d),⟨rfl,rfl⟩,?_⟩;rw[e];generalize (cv ls i).d=ld;simp[bH,di,f4,f5,bi]
  |true=>
   have e:f i=(((cv ls i).ns.filter (fun r=>decide (r=p))).map fun _=>i):=by simp[f,hb,fE]
   have pc:=Q1D ls (cv ls i) (Pg ls) (eJ w) p i (bJ s) .no;rw[<-e] at pc;have le:(f i).length<=3:=by rw[e,UR];exact DT (FH _ _) fw
   have ex:xn (bJ (f i)) (bJ s)=some (bJ (s++f i)):=by unfold bJ;rw[GQ _ _ (by simp[eL];lia),E3]
   refine⟨by simp;lia,(.sh (.int i),.sh (cv ls i).d),⟨rfl,rfl⟩,?_⟩;generalize (cv ls i).d=ld at *;generalize f i=fi at *;simp[bH,di,f4,f5,bi,pc,il,ex])
 have e:(List.range ls.length).foldl (fun s i=>s++f i) []=cN ls w p:=by
  have g:∀(xs:UA)(a:UA),xs.foldl (fun s i=>s++f i) a=a++xs.flatMap f:=by intro xs;induction xs with|nil=>intro a;simp|cons x xs ih=>intro a;simp[ih]
  rw[g];rfl
 rw[e] at L;have l0:D.lst []=bJ []:=rfl;simp[Ct,l0,en,L]
def K4:UA:=[0,12,13,14]
def S3:UA:=[6,10,11]
def H2:UA:=[7,14]
def Gk(ls:WH)(ss:WU)(i p:Nat):Bool:=decide (kd ls i∈S3)&&!decide (sd ss i=sd ss p)
def jF(ls:WH)(ss:WU)(p:Nat)(ms:UA):Bool:=decide (p=ls.length-1)||decide (kd ls p∈K4)||ms.any (fun i=>decide (kd ls i∈H2))||(!decide (kd ls p=1)&&(decide (1<ms.length)||ms.any fun i=>Gk ls ss i p))
theorem yo(ls:WH)(ss:WU)(i p:Nat)(hi:i<ls.length)(hp:p<ls.length)(hs:ss.length=ls.length):zu [Pg ls,bF ss,.int i,.int p]=.ok (.bl (Gk ls ss i p)) []:=by rw[zu,dh _ _ _ _ rfl];have ix:=ou ls i hi;have kk:=PL.kind (cv ls i);have kl:=ox ls i;have ik:inD false (.str (nm (kd ls i))) (.tup [.str (nm 6),.str (nm 10),.str (nm 11)])=some (.bl (decide (kd ls i∈S3))):=Mm (kd ls i) kl S3 (by simp[S3]);have s1:=ck ss i T9;have s2:=ck ss p T9;have e:(cv ls i).k=kd ls i:=rfl;rw[e] at kk;generalize (cv ls i).d=ld at *;unfold Gk;by_cases h:kd ls i∈S3;rw[Ub h] at ik;simp[yP,ix,kk,ik,s1,s2,h];rw[Vy h] at ik;simp[yP,ix,kk,ik,h]
theorem Q2b(ls:WH)(ss:WU)(p:Nat)(ms:UA)(hp:p<ls.length)(hs:ss.length=ls.length)(hm:∀i∈ms,i<ls.length)(hl:ms.length<=1000):y8 [Pg ls,bF ss,.int p,bJ ms]=.ok (.bl (jF ls ss p ms)) []:=by
 have ix:=ou ls p hp;have kk:=PL.kind (cv ls p);have kl:=ox ls p;have e:(cv ls p).k=kd ls p:=rfl;rw[e] at kk;have i4:inD false (.str (nm (kd ls p))) (.tup [.str (nm 0),.str (nm 12),.str (nm 13),.str (nm 14)])=some (.bl (decide (kd ls p∈K4))):=Mm (kd ls p) kl K4 (by simp[K4]);have ln:=iu ls;have c1:aU 1 (dC (af 3)) (aE 5) (VP.ret true) ja [.sh (Pg ls),.sh (bF ss),.sh (.int p),.sh (bJ ms),.sh (.str (nm (kd ls p)))]=.ok (.lst (ms.map fun i=>D.bl (decide (kd ls i∈H2)))) [.sh (Pg ls),.sh (bF ss),.sh (.int p),.sh (bJ ms),.sh (.str (nm (kd ls p)))]:=by refine iJ (fun(i:Nat)=>D.int i) (fun i=>D.bl (decide (kd ls i∈H2))) ms rfl T9 rfl fun i hi acc=>?_;have ixi:=ou ls i (hm i hi);have Z1:=PL.kind (cv ls i);have ei:(cv ls i).k=kd ls i:=rfl;rw[ei] at Z1;have ik:inD false (.str (nm (kd ls i))) (.tup [.str (nm 7),.str (nm 14)])=some (.bl (decide (kd ls i∈H2))):=Mm (kd ls i) (ox ls i) H2 (by simp[H2]);generalize (cv ls i).d=ld at *;dsimp only[List.cons_append,List.nil_append];unfold ja;exact aK
 have c2:aU 1 (dC (af 3)) (aE 5) (VP.ret true) jb [.sh (Pg ls),.sh (bF ss),.sh (.int p),.sh (bJ ms),.sh (.str (nm (kd ls p)))]=.ok (.lst (ms.map fun i=>D.bl (Gk ls ss i p))) [.sh (Pg ls),.sh (bF ss),.sh (.int p),.sh (bJ ms),.sh (.str (nm (kd ls p)))]:=by refine iJ (fun(i:Nat)=>D.int i) (fun i=>D.bl (Gk ls ss i p)) ms rfl T9 rfl fun i hi acc=>?_;have:=yo ls ss i p (hm i hi) hp hs;dsimp only[List.cons_append,List.nil_append];unfold jb;exact aK
 have a1:=BY (fun i=>decide (kd ls i∈H2)) ms;have a2:=BY (fun i=>Gk ls ss i p) ms;have e1:=BK (kd ls p) 1 kl T9;have lm:bp (bJ ms)=some (.int ms.length):=by simp[bJ]
 generalize (cv ls p).d=ld at *;generalize D.lst (ms.map fun i=>D.bl (decide (kd ls i∈H2)))=L1 at *;generalize D.lst (ms.map fun i=>D.bl (Gk ls ss i p))=L2 at *;generalize bJ ms=N at *;generalize Pg ls=Pl at *;generalize bF ss=Sl at *;have g1:xy (.int (ms.length:Int)) (.int 1)=some (.bl (decide (1<ms.length))):=by rw[uc];congr 3;exact propext T9
 have g2:bG (.int (p:Int)) (.int ((ls.length:Int)-1))=some (.bl (decide (p=ls.length-1))):=by rw[jg];congr 3;exact propext T9
 unfold jF y8 Ca;generalize decide (p=ls.length-1)=b1 at *;generalize decide (kd ls p∈K4)=b2 at *;generalize decide (kd ls p=1)=b3 at *;generalize decide (1<ms.length)=b4 at *;generalize ms.any (fun i=>decide (kd ls i∈H2))=b5 at *;generalize ms.any (fun i=>Gk ls ss i p)=b6 at *;cases b1;cases b2;cases b5;cases b3;cases b4;cases b6<;>exact rn;exact rn;exact rn;exact rn;exact rn;exact rn
def j5(ls:WH)(ss:WU)(w:WK):WK:=(List.range ls.length).map fun p=>w.getD p false&&jF ls ss p (cN ls w p)
theorem lE(ls:WH)(w:WK)(p i:Nat):i∈cN ls w p<->i<ls.length/\w.getD i false=true/\p∈fE ls i:=by
 unfold cN;rw[List.mem_flatMap];constructor;rintro⟨j,hj,h⟩;rw[List.mem_range] at hj;by_cases q:w.getD j false=true;rw[Ge q] at h;obtain⟨r,hr,e⟩:=List.mem_map.mp h;subst e;rw[List.mem_filter] at hr;have:r=p:=by simpa using hr.2
 subst this;exact⟨hj,q,hr.1⟩;rw[UE q] at h;simp at h;rintro⟨h1,h2,h3⟩;refine⟨i,List.mem_range.mpr h1,?_⟩;rw[Ge h2];exact List.mem_map.mpr ⟨p,List.mem_filter.mpr ⟨h3,G9⟩,rfl⟩
theorem xV(ls:WH)(w:WK)(p:Nat):(cN ls w p).length<=3*ls.length:=by
 unfold cN;generalize ls.length=n;induction n with
 |zero=>simp|succ n ih=>
  rw[List.range_succ,List.flatMap_append,xU];have:([n].flatMap fun i=>if w.getD i false then((fE ls i).filter (fun r=>decide (r=p))).map fun _=>i else []).length<=3:=by rw[List.flatMap_cons,List.flatMap_nil,OX];split;rw[UR];exact DT (FH _ _) (cv ls n).lu;simp
  lia
theorem rF(ls:WH)(ss:WU)(wf:Wf ls)(h0:ls≠[])(hl:ls.length<=100)(hs:ss.length=ls.length):∃w,vv [Pg ls]=.ok (eJ w) []/\w.length=ls.length/\(∀i,w[i]?=some true<->oV ls i)/\vp [Pg ls,bF ss]=.ok (eJ (j5 ls ss w)) []:=by
 obtain⟨w,h1,h2,h3⟩:=BG ls wf h0 hl;refine⟨w,h1,h2,h3,?_⟩;rw[vp,dh _ _ _ _ rfl];have en:lY [Pg ls]=some ((List.range ls.length).map fun(i:Nat)=>D.tup [.int i,(cv ls i).d]):=by unfold Pg;rw[sj,tU]
 let f:=fun p=>w.getD p false&&jF ls ss p (cN ls w p);obtain⟨_,t,_,L⟩:=jk (g:=cJ [4,5]) (body:=dN) (fun(i:Nat)=>D.tup [.int i,(cv ls i).d]) (fun(s:WK)(t:Sl×Sl)=>[.sh (Pg ls),.sh (bF ss),.sh (eJ w),.ow (eJ s),t.1,t.2]) l8
  (fun k s=>s.length=k) (fun s i=>s++[f i]) (List.range ls.length) [] (.no,.no) ⟨rfl,rfl⟩ rfl (by
  intro j i hi s t ht hP;obtain⟨t4,t5⟩:=t;obtain⟨f4,f5⟩:=ht;dsimp only at f4 f5;obtain⟨rfl,hi⟩:=fF hi;obtain⟨b,hb⟩:∃b,w[i]?=some b:=⟨_,QR T9⟩;have hg:w.getD i false=b:=by simp[hb]
  have bi:=i7 w i b hb;have il:isLst (some (eJ s))=true:=rfl;have nl:=xV ls w i;have na:=Q1g ls w i h2 hl;have ik:=Q2b ls ss i (cN ls w i) hi hs (fun m hm=>((lE ls w i m).mp hm).1) T9;have ap:gD (.bl (f i)) (eJ s)=some (eJ (s++[f i])):=by unfold eJ;rw[ie _ _ (by simp;lia),E3];rfl
  refine⟨by simp[hP],(.sh (.int i),.sh (cv ls i).d),⟨rfl,rfl⟩,?_⟩;generalize (cv ls i).d=ld at *;cases b with
  |false=>
   have e:f i=false:=by simp only[f,hg,Bool.false_and]
   rw[e] at ap ⊢;simp[bH,dN,f4,f5,bi,il,ap]
  |true=>
   have e:f i=jF ls ss i (cN ls w i):=by simp only[f,hg,Bool.true_and]
   rw[e] at ap ⊢;simp[bH,dN,f4,f5,bi,na,ik,il,ap])
 have e:(List.range ls.length).foldl (fun s i=>s++[f i]) []=j5 ls ss w:=by
  have g:∀(xs:UA)(a:WK),xs.foldl (fun s i=>s++[f i]) a=a++xs.map f:=by intro xs;induction xs with|nil=>intro a;simp|cons x xs ih=>intro a;simp[ih]
  rw[g];rfl
 rw[e] at L;have l0:D.lst []=eJ []:=rfl;obtain⟨t4,t5⟩:=t;unfold Cd;simp only[km,lJ,qP,Fe,if_neg (show ¬(false=true) by decide)];rw[cP,show aN 2 _ _=.ok .nx [.sh (Pg ls),.sh (bF ss),.sh (eJ w),.no,.no,.no] by simp[h1],d6];rw[cP,show dZ 3 _ _=.ok .nx [.sh (Pg ls),.sh (bF ss),.sh (eJ w),.ow (eJ []),.no,.no] by simp[l0],d6];rw[cP,show eG _ _ _ _=.ok .nx [.sh (Pg ls),.sh (bF ss),.sh (eJ w),.ow (eJ (j5 ls ss w)),t4,t5] by simp[en,L,-List.map_map],d6];simp
theorem meet_comm(one other:R4):meet one other=meet other one:=by
 have e:pairs other one=(pairs one other).map fun p=>(p.2,p.1):=by unfold pairs;rw[Nat.max_comm];simp
 unfold meet;rw[e];have h1:∀x y,qE y x=qE x y:=fun x y=>by unfold qE;grind
 have h2:∀x y,qE x y=true->pk y x=pk x y:=fun x y=>by unfold qE pk;grind
 simp only[List.all_map,List.map_map,Function.comp_def,h1];split;rename_i q;congr 2;refine List.map_congr_left fun p hp=>(h2 _ _ ?_).symm;exact List.all_eq_true.mp q p hp;rfl
theorem meet_self(S:R4):meet S S=some S:=by
 have z:=kN S S;rw[Nat.max_self] at z;have e:ahead S S.length=S:=by simp[ahead]
 rw[e] at z;have a:(pairs S S).all (fun p=>qE p.1 p.2)=true:=by
  rw[<-Mj,<-z];refine List.all_eq_true.mpr fun p hp=>?_;have:p.1=p.2:=by obtain⟨i,hi,rfl⟩:=List.mem_iff_getElem.mp hp;simp
  simp[qE,this]
 unfold meet;rw[Ge a,<-FA,<-z];congr 1;refine rO G9 fun i h1 h2=>?_;simp[pk]
theorem zE:∀(a t:R4),a.length=t.length->(((a.zip t).all (fun p=>qE p.1 p.2)=true/\(a.zip t).map (fun p=>pk p.1 p.2)=t)<->∀i<t.length,a.getD i 0=1\/a.getD i 0=t.getD i 0)
|[],[],_=>G9|x::a,y::t,h=>by
 have ih:=zE a t (by simpa using h);simp only[List.zip_cons_cons,List.all_cons,List.map_cons,Bool.and_eq_true,List.cons.injEq];constructor;rintro⟨⟨h1,h2⟩,h3,h4⟩ i hi;cases i with|zero=>simp only[List.getD_cons_zero];unfold pk at h3;split at h3;exact .inl ‹_›;exact .inr h3|succ i=>simp only[List.getD_cons_succ];exact ih.mp ⟨h2,h4⟩ i (by simpa using hi)
 intro k;have k0:=k 0 G9;simp only[List.getD_cons_zero] at k0;have:=ih.mpr fun i hi=>by have:=k (i+1) (by simpa using hi);simpa only[List.getD_cons_succ] using this
 refine⟨⟨?_,this.1⟩,?_,this.2⟩;unfold qE;rcases k0 with h|h<;>simp[h];unfold pk;split;rfl;rcases k0 with h|h;contradiction;exact h
theorem Ax(s:R4)(n i:Nat)(h:s.length<=n)(hi:i<n):(ahead s n).getD i 0=if i<n-s.length then 1 else s.getD (i-(n-s.length)) 0:=by unfold ahead;by_cases c:i<n-s.length;rw[Ge c,SE,MS (by simpa using c)];simp[c];rw[UE c,SE,Sr (by simp;lia),SE];simp
theorem oB(s t:R4)(h:s.length<=t.length)(k:∀k<s.length,s.getD k 0=1\/s.getD k 0=t.getD (t.length-s.length+k) 0):meet s t=some t:=by
 have z:=kN s t;have e:max s.length t.length=t.length:=T9;rw[e] at z;have ht:ahead t t.length=t:=by simp[ahead]
 rw[ht] at z;have f:=zE (ahead s t.length) t (by rw[mW _ _ h]);rw[z,Mj,FA] at f;obtain⟨q1,q2⟩:=f.mpr fun i hi=>by rw[Ax s _ _ h hi];split;exact .inl rfl;have:=k (i-(t.length-s.length)) T9;rwa [show t.length-s.length+(i-(t.length-s.length))=i by lia] at this
 unfold meet;rw[Ge q1,q2]
def iB(n tn:Nat):R4:=(List.range n).map fun(k:Nat)=>((k:Int)+tn) % n
def ux(n:Nat)(o:R4):Bool:=(decide ((oS n).Pairwise (·<=·))&&(oS n).isPerm o)&&(decide (o.length=n)&&(List.range n).all fun(j:Nat)=>o.contains (j:Int))
theorem FE:(List.range 5).all (fun n=>(List.range 4).all fun tn=>decide (max 1 n<=tn)||(ux n (iB n tn)&&ux n (iB n tn).reverse))=true:=by decide +kernel
theorem Ao(n tn:Nat)(hn:n<=4)(ht:tn<max 1 n)(b:Bool):sortI (if b then(iB n tn).reverse else iB n tn)=oS n/\(if b then(iB n tn).reverse else iB n tn).length=n/\∀j:Nat,j<n->(j:Int)∈(if b then(iB n tn).reverse else iB n tn):=by
 have h:=List.all_eq_true.mp (List.all_eq_true.mp FE n (by simp;lia)) tn (by simp;lia);have h2:decide (max 1 n<=tn)=false:=by simp;lia
 rw[h2,Bool.false_or,NU] at h;have key:∀o:R4,ux n o=true->sortI o=oS n/\o.length=n/\∀j:Nat,j<n->(j:Int)∈o:=fun o q=>by simp only[ux,Bool.and_eq_true,decide_eq_true_eq,List.all_eq_true] at q;exact⟨(wm (List.isPerm_iff.mp q.1.2) q.1.1).symm,q.2.1,fun j hj=>by simpa using q.2.2 j (by simpa using hj)⟩
 cases b;exact key _ h.1;exact key _ h.2
theorem EW(s:R4):aV s.reverse=aV s:=by induction s with|nil=>rfl|cons x s ih=>rw[Au,v8,ih];simp only[aV];rw[Int.mul_one,Int.mul_comm]
def Told(n:Nat)(G S:Nat->R4):PL->R4->Prop|.given j,t=>∃k:Nat,j=k/\k<n/\t=G k|.m9 s x,t=>t=s/\Rt x|.turn a o,t=>sortI o=oS (S a).length/\o.length=(S a).length/\t=o.map fun x=>(S a).getD x.toNat 0|.cut a k b st m,t=>∃j:Nat,k=j/\j<(S a).length/\(st≠0/\-3<=st/\st<=3)/\0<=m/\(0<m->(0<=b/\b<(S a).getD j 0)/\0<=b+st*(m-1)/\b+st*(m-1)<(S a).getD j 0)/\t=rep (S a) j m|.drop a k p,t=>∃j:Nat,k=j/\j<(S a).length/\(0<=p/\p<(S a).getD j 0)/\t=wo (S a) j|.wide a k,t=>∃j:Nat,k=j/\j<=(S a).length/\t=pin (S a) j 1|.spread a u,t=>meet (S a) u=some u/\t=u|.shape a u,t=>aV (S a)=aV u/\t=u|.shift a k _ x,t=>∃j:Nat,k=j/\j<(S a).length/\Rt x/\t=S a|.one d a,t=>(16<=d/\d<=18)/\t=S a|.both d a b,t=>(19<=d/\d<=25)/\meet (S a) (S b)=some t|.hW a b c,t=>∃u,meet (S a) (S b)=some u/\meet u (S c)=some t|.fold d a k,t=>∃j:Nat,k=j/\j<(S a).length/\d∈[19,21,22,23]/\((S a).getD j 0=0->d≠22/\d≠23)/\t=wo (S a) j|.run d a k,t=>∃j:Nat,k=j/\j<(S a).length/\d∈[19,21,22,23]/\t=S a|.pick a k b,t=>∃(j:Nat)(y:Int),k=j/\j<(S a).length/\S b=[y]/\t=rep (S a) j y|.join a b k,t=>∃j:Nat,k=j/\j<(S a).length/\(S a).length=(S b).length/\wo (S a) j=wo (S b) j/\t=rep (S a) j ((S a).getD j 0+(S b).getD j 0)
theorem Told.mono{n:Nat}{G S S':Nat->R4}{l:PL}{t:R4}(h:Told n G S l t)(e:∀a∈l.ns,S' a=S a):Told n G S' l t:=by cases l<;>simp only[PL.ns,List.mem_cons,List.not_mem_nil,or_false,forall_eq_or_imp,forall_eq] at e<;>simp only[Told] at h ⊢<;>first|exact h|simpa only[e] using h
theorem Told.l7{n:Nat}{G S:Nat->R4}{l:PL}{t:R4}(h:Told n G S l t):l.l7:=by
 cases l<;>simp only[Told,PL.l7] at h ⊢
 lia
 lia
 obtain⟨_,_,_,h,_⟩:=h;simp at h;lia;obtain⟨_,_,_,h,_⟩:=h;simp at h;lia
def SI(s:R4):Prop:=s.length<=4/\(∀x∈s,0<=x/\x<=24)/\aV s<=27
def Pre(s:R4):Prop:=s.length<=9/\∀x∈s,0<=x/\x<=100
theorem SI.pre{s:R4}(h:SI s):Pre s:=⟨by have:=h.1;lia,fun x hx=>by have:=h.2.1 x hx;lia⟩
theorem SI.get{s:R4}(h:SI s)(k:Nat):0<=s.getD k 0/\s.getD k 0<=24:=by by_cases hk:k<s.length;have:=h.2.1 s[k] (IQ hk);simpa[hk] using this;rw[SE,Iv T9];simp
theorem SI.SR{s:R4}(h:SI s):0<=aV s:=(Ae s fun x hx=>by have:=h.2.1 x hx;lia).1
theorem sf(s:R4)(k:Nat)(hk:k<=s.length):eU (T s) none (some (k:Int))=some (T (s.take k)):=by have:eU (T s) none (some (k:Int))=some (.tup (cutD (s.map .int) none (some (k:Int)))):=rfl;rw[this,cutD,UR,mG _ _ _ hk,ki];simp[T]
theorem r8(s:R4)(k:Nat)(hk:k<=s.length):eU (T s) (some (k:Int)) none=some (T (s.drop k)):=by have:eU (T s) (some (k:Int)) none=some (.tup (cutD (s.map .int) (some (k:Int)) none)):=rfl;rw[this,cutD,UR,mG _ _ _ hk,ki,yj G9];simp[T]
theorem xc(s:R4)(h:Pre s):sv [T s]=.ok (.int (aV s)) []:=by rw[sv,dh _ _ _ _ rfl];obtain⟨_,t,_,L⟩:=jk (g:=aE 2) (body:=jl) D.int (fun(p:Int)(t:Sl)=>[.sh (T s),.sh (.int p),t]) vB (fun _ _=>True) (fun p x=>p*x) s 1 .no rfl trivial (by intro i x hx p t ht _;have hm:=h.2 x (Np hx);have hf:free (some t)=true:=ht;refine⟨trivial,.sh (.int x),rfl,?_⟩;simp[bH,jl,hf,gX p x T9 T9]);rw[lI,Int.one_mul] at L;simp[Ce,L]
inductive hZ{A B:Type}(P:A->B->Prop):List A->List B->Prop where
 |nil:hZ P [] []|cons {a:A} {b:B} {as:List A} {bs:List B} (h:P a b) (t:hZ P as bs):hZ P (a::as) (b::bs)
theorem hZ.len{A B:Type}{P:A->B->Prop}:∀{as:List A}{bs:List B},hZ P as bs->as.length=bs.length|_,_,.nil=>rfl|_,_,.cons _ t=>by simp[hZ.len t]
theorem hZ.right{A B:Type}{P:A->B->Prop}:∀{as:List A}{bs:List B},hZ P as bs->∀b∈bs,∃a∈as,P a b|_,_,.cons (a:=a) h t,b,hb=>by rcases List.mem_cons.mp hb with rfl|hb;exact⟨a,QI,h⟩;obtain⟨a',h1,h2⟩:=hZ.right t b hb;exact⟨a',QC _ h1,h2⟩
theorem m6{A:Type}{it:M (List D)}{elt:M D}{k:Nat}{r0:aR}(mk:A->D)(R:Nat->aR)(P:A->Int->Prop)(as:List A)(p:Nat)(R5:∀q,(R q).length=k)(qf:it r0=.ok (as.map mk) (R p))(hL:as.length<=1000)
  (he:∀a∈as,∀q,∃q' b,P a b/\∀acc,elt (R q++[.sh (mk a),.ow acc])=.ok (.int b) (R q'++[.sh (mk a),.ow acc])) :
  ∃q' bs,aU 1 it (aE k) (ret true) elt r0=.ok (Z bs) (R q')/\hZ P as bs:=by
 have ch:∀(a:A)(q:Nat),∃z:Nat×Int,a∈as->P a z.2/\∀acc,elt (R q++[.sh (mk a),.ow acc])=.ok (.int z.2) (R z.1++[.sh (mk a),.ow acc]):=fun a q=>by by_cases h:a∈as;obtain⟨q',b,h1,h2⟩:=he a h q;exact⟨(q',b),fun _=>⟨h1,h2⟩⟩;exact⟨(0,0),fun z=>absurd z h⟩
 let F:=fun a q=>Classical.choose (ch a q);have hF:∀a q,a∈as->P a (F a q).2/\∀acc,elt (R q++[.sh (mk a),.ow acc])=.ok (.int (F a q).2) (R (F a q).1++[.sh (mk a),.ow acc]):=fun a q=>Classical.choose_spec (ch a q);have h:=(JZ (elt:=elt) mk R (fun _ _=>True) (fun q a=>(F a q).1) (fun q a=>.int (F a q).2) as p R5 qf T9 trivial (fun i a ha q acc _=>⟨trivial,(hF a q (Np ha)).2 acc⟩)).1;have em:∀(as:List A)(s:Nat),outs (fun q a=>(F a q).1) (fun q a=>D.int (F a q).2) s as=(outs (fun q a=>(F a q).1) (fun q a=>(F a q).2) s as).map D.int:=by intro as;induction as with|nil=>intro s;rfl|cons a as ih=>intro s;simp[outs,ih]
 have ea:∀(bs:List A)(s:Nat),(∀a∈bs,a∈as)->hZ P bs (outs (fun q a=>(F a q).1) (fun q a=>(F a q).2) s bs):=by intro bs;induction bs with|nil=>intro s _;exact .nil|cons a bs ih=>intro s hb;exact .cons (hF a s (hb a QI)).1 (ih _ fun x hx=>hb x (QC _ hx))
 rw[em] at h;exact⟨_,_,h,ea as p fun a h=>h⟩
theorem hZ.QT{P:Int->Int->Prop}:∀{as bs:R4},hZ P as bs->∀k<as.length,P (as.getD k 0) (bs.getD k 0)|_,_,.cons h _,0,_=>h|_,_,.cons _ t,k+1,hk=>by simpa only[List.getD_cons_succ] using hZ.QT t k (by simpa using hk)
theorem drawn(ns:R4)(q n:Nat)(h:0<n):∃b:Nat,bB [Row ns q,.int n]=.ok (.int b) [Row ns (q+1)]/\b<n:=by have t:=q9 ns q n T9;have r1:0<=cell ns q % (n:Int):=Int.emod_nonneg _ T9;have r2:cell ns q % (n:Int)<n:=AR _ T9;refine⟨(cell ns q % (n:Int)).toNat,?_,T9⟩;rwa [show ((cell ns q % (n:Int)).toNat:Int)=cell ns q % (n:Int) by lia]
theorem bU(ns:R4)(q:Nat)(n:Int)(h:0<n):∃b:Int,bB [Row ns q,.int n]=.ok (.int b) [Row ns (q+1)]/\0<=b/\b<n:=⟨_,q9 ns q n h,Int.emod_nonneg _ T9,AR _ h⟩
theorem qR(n:Nat)(h:n<=1000):uJ [.int (n:Int)]=some ((List.range n).map fun(k:Nat)=>.int k):=qQ _ _ T9 T9 T9
theorem TC(ns:R4)(q a:Nat)(s:R4)(hs:SI s):∃(o:R4)(q':Nat),iq [Row ns q,.int a,T s,.int 0]=.ok (.tup [.tup [.str (nm 2),.int a,T o],T (o.map fun x=>s.getD x.toNat 0)]) [Row ns q']/\sortI o=oS s.length/\o.length=s.length:=by
 have hl:=hs.1;obtain⟨N,hN⟩:∃N:Nat,N=max 1 s.length:=⟨_,rfl⟩;obtain⟨tn,tm,ZO⟩:=drawn ns q N T9;have mx:maxD [.int 1,.int (s.length:Int)]=some (.int (N:Int)):=by rw[pe];congr 2;lia
 have er:=qR s.length T9;have hc:aU 1 (cH [(af 4)]) (aE 10) (VP.ret true) jN [.io (Row ns (q+1)),.sh (.int a),.sh (T s),.sh (.int 0),.sh (.int s.length),.sh (.int tn),.no,.no,.no,.no]=.ok (Z (iB s.length tn)) [.io (Row ns (q+1)),.sh (.int a),.sh (T s),.sh (.int 0),.sh (.int s.length),.sh (.int tn),.no,.no,.no,.no]:=by refine iJ (fun(k:Nat)=>D.int k) (fun k=>D.int (((k:Int)+tn) % s.length)) (List.range s.length) aK (by simp;lia) (by simp[Z,iB,Function.comp_def]) fun k hk acc=>?_;have ui:=List.mem_range.mp hk;have md:=iS ((k:Int)+tn) s.length T9;unfold jN;exact aK
 have wK:∀o:R4,sortI o=oS s.length->o.length=s.length->aU 1 (dC (af 6)) (aE 10) (VP.ret true) jO [.io (Row ns (q+2)),.sh (.int a),.sh (T s),.sh (.int 0),.sh (.int s.length),.sh (.int tn),.sh (Z o),.no,.no,.no]=.ok (Z (o.map fun x=>s.getD x.toNat 0)) [.io (Row ns (q+2)),.sh (.int a),.sh (T s),.sh (.int 0),.sh (.int s.length),.sh (.int tn),.sh (Z o),.no,.no,.no]:=fun o ho Uu=>by refine iJ D.int (fun x=>D.int (s.getD x.toNat 0)) o aK T9 (by simp[Z,Function.comp_def]) fun x hx acc=>?_;obtain⟨j,rfl,hj⟩:=nR ho hx;have ix:aq (T s) (.int j)=some (.int (s.getD (j:Int).toNat 0)):=fQ s j T9 T9;unfold jO;exact aK
 obtain⟨b,t2,_,_⟩:=bU ns (q+1) 2 T9;by_cases c:b=1;obtain⟨o1,o2,_⟩:=Ao s.length tn hl T9 true;simp only[if_true] at o1 o2;have h2:=wK _ o1 o2;have rv:Fg (Z (iB s.length tn))=some (Z (iB s.length tn).reverse):=by simp[Z,Fg]
 generalize iB s.length tn=o at *;refine⟨o.reverse,q+2,?_,o1,o2⟩;unfold iq nZ;exact rn;obtain⟨o1,o2,_⟩:=Ao s.length tn hl T9 false;simp only[Bool.false_eq_true,if_false] at o1 o2;have h2:=wK _ o1 o2;generalize iB s.length tn=o at *;refine⟨o,q+2,?_,o1,o2⟩;unfold iq nZ;exact rn
theorem TF(ns:R4)(q a:Nat)(s:R4)(hs:SI s):∃(k q':Nat),iq [Row ns q,.int a,T s,.int 1]=.ok (.tup [.tup [.str (nm 5),.int a,.int k],T (pin s k 1)]) [Row ns q']/\k<=s.length:=by have hl:=hs.1;obtain⟨k,tm,hk⟩:=drawn ns q (s.length+1) T9;rw[show ((s.length+1:Nat):Int)=(s.length:Int)+1 by lia] at tm;have c1:=sf s k T9;have c2:=r8 s k T9;have a1:bj (T (s.take k)) (.tup [.int 1])=_:=fK (s.take k) [1] (by simp[eL];lia);have a2:=fK (s.take k++[1]) (s.drop k) (by simp[eL];lia);rw[show s.take k++[1]++s.drop k=pin s k 1 by simp[pin]] at a2;exact⟨k,q+1,by unfold iq nZ;exact rn,T9⟩
theorem Q1r(ns:R4)(q a:Nat)(s:R4)(hs:SI s):∃(u:R4)(q':Nat),iq [Row ns q,.int a,T s,.int 2]=.ok (.tup [.tup [.str (nm 6),.int a,T u],T u]) [Row ns q']/\meet s u=some u/\Pre u:=by
 have hl:=hs.1;have t4:=fun q=>q9 ns q 4 T9;obtain⟨q1,ys,hc,he⟩:=m6 (it:=dC (af 2)) (elt:=jP) (k:=10) (r0:=[.io (Row ns q),.sh (.int a),.sh (T s),.sh (.int 2),.sh (.int s.length),.no,.no,.no,.no,.no]) D.int (fun q=>[.io (Row ns q),.sh (.int a),.sh (T s),.sh (.int 2),.sh (.int s.length),.no,.no,.no,.no,.no]) (fun x y=>(0<=y/\y<=24)/\(x=1\/x=y)) s q (fun _=>rfl) aK T9 (fun x hx q'=>by
  obtain⟨y,tt,_,_⟩:=bU ns q' 4 T9;have hb:=hs.2.1 x hx;have i0:aq (.lst [.int x,.int y]) (.int (if x=1 then 1 else 0))=some (.int (if x=1 then y else x)):=by split<;>rfl
  have ii:intD [.bl (decide (x=1))]=some (.int (if x=1 then 1 else 0)):=by rw[zK];simp
  refine⟨q'+1,if x=1 then y else x,by split<;>lia,fun acc=>?_⟩;unfold jP;exact aK)
 have hy:∀y∈ys,0<=y/\y<=24:=fun y hy=>by obtain⟨_,_,h⟩:=he.right y hy;exact h.1
 have yl:=he.len;have hg:=fun k (hk:k<s.length)=>(he.QT k hk).2;obtain⟨b,tt,_,_⟩:=bU ns q1 2 T9;by_cases c:b=1;obtain⟨v,t5,v0,v4⟩:=bU ns (q1+1) 4 T9;have ad:bj (.tup [.int v]) (T ys)=some (T (v::ys)):=fK [v] ys (by simp[eL];lia);refine⟨v::ys,q1+2,by unfold iq nZ;exact rn,oB _ _ (by simp;lia) fun k hk=>?_,by simp;lia,fun x hx=>?_⟩;rw[show (v::ys).length-s.length+k=k+1 by simp;lia,List.getD_cons_succ];exact hg k hk;rcases List.mem_cons.mp hx with rfl|hx
 lia
 have:=hy x hx;lia;refine⟨ys,q1+1,by unfold iq nZ;exact rn,oB _ _ T9 fun k hk=>?_,T9,fun x hx=>by have:=hy x hx;lia⟩;rw[show ys.length-s.length+k=k by lia];exact hg k hk
theorem TJ(ns:R4)(q a:Nat)(s:R4)(hs:SI s):∃(u:R4)(q':Nat),iq [Row ns q,.int a,T s,.int 3]=.ok (.tup [.tup [.str (nm 7),.int a,T u],T u]) [Row ns q']/\aV s=aV u/\Pre u:=by
 have hl:=hs.1;have cl:=xc s hs.pre;have h0:=hs.SR;have hpr:=hs.2.2;obtain⟨c,tt,_,_⟩:=bU ns q 4 T9;have rv:rK (T s)=some (T s.reverse):=by simp[T,rK]
 obtain⟨t,ht,ZJ,hq⟩:∃t,aq (.lst [T s.reverse,.tup [.int (aV s)],.tup [.int 1,.int (aV s)],.tup [.int (aV s),.int 1]]) (.int c)=some (T t)/\aV s=aV t/\Pre t:=by have c4:c=0\/c=1\/c=2\/c=3:=T9;rcases c4 with c|c|c|c<;>rw[c];exact⟨s.reverse,rfl,(EW s).symm,by simp;lia,fun x hx=>by have:=hs.2.1 x (by simpa using hx);lia⟩;exact⟨[aV s],rfl,by simp[aV],G9,fun x hx=>by simp at hx;subst hx;lia⟩;exact⟨[1,aV s],rfl,by simp[aV],G9,fun x hx=>by simp at hx;lia⟩;exact⟨[aV s,1],rfl,by simp[aV],G9,fun x hx=>by simp at hx;lia⟩
 refine⟨t,q+1,?_,ZJ,hq⟩;unfold iq nZ;exact rn
theorem Jy(n:Nat)(G S:Nat->R4)(ns:R4)(q a:Nat)(hs:SI (S a))(w:Int)(w0:0<=w)(w4:w<4):∃(l:PL)(t:R4)(q':Nat),iq [Row ns q,.int a,T (S a),.int w]=.ok (.tup [l.d,T t]) [Row ns q']/\Told n G S l t/\l.ns=[a]/\Pre t:=by
 have ww:w=0\/w=1\/w=2\/w=3:=T9;rcases ww with rfl|rfl|rfl|rfl;obtain⟨o,q',e,h1,h2⟩:=TC ns q a _ hs;exact⟨.turn a o,_,q',e,⟨h1,h2,rfl⟩,rfl,by have:=hs.1;simp;lia,fun x hx=>by obtain⟨y,_,rfl⟩:=List.mem_map.mp hx;have:=hs.get y.toNat;lia⟩;obtain⟨k,q',e,h⟩:=TF ns q a _ hs;refine⟨.wide a k,_,q',e,⟨k,rfl,h,rfl⟩,rfl,by have:=hs.1;simp[pin];lia,fun x hx=>?_⟩;simp only[pin] at hx;rcases List.mem_append.mp hx with hx|hx;have:=hs.2.1 x (Nf hx);lia;rcases List.mem_cons.mp hx with rfl|hx
 lia
 have:=hs.2.1 x (Ju hx);lia;obtain⟨u,q',e,h,h2⟩:=Q1r ns q a _ hs;exact⟨.spread a u,_,q',e,⟨h,rfl⟩,rfl,h2⟩;obtain⟨u,q',e,h,h2⟩:=TJ ns q a _ hs;exact⟨.shape a u,_,q',e,⟨h,rfl⟩,rfl,h2⟩
theorem iI(s:R4)(k:Nat)(x:Int)(hk:k<s.length)(hl:s.length<=100):kX [T s,.int k,.int x]=.ok (T (rep s k x)) []:=by have a1:bj (T (s.take k)) (.tup [.int x])=_:=fK (s.take k) [x] (by simp[eL];lia);have a2:=fK (s.take k++[x]) (s.drop (k+1)) (by simp[eL];lia);have c1:=sf s k T9;have c2:=r8 s (k+1) T9;rw[show (((k+1:Nat)):Int)=(k:Int)+1 by lia] at c2;rw[show s.take k++[x]++s.drop (k+1)=rep s k x by simp[rep]] at a2;unfold kX Cf;exact rn
theorem uH{s:R4}{k:Nat}{x:Int}(h:Pre s)(hx:0<=x/\x<=100)(hk:k<s.length):Pre (rep s k x):=by refine⟨by have:=h.1;simp[rep];lia,fun y hy=>?_⟩;simp only[rep] at hy;rcases List.mem_append.mp hy with hy|hy;exact h.2 y (Nf hy);rcases List.mem_cons.mp hy with rfl|hy;exact hx;exact h.2 y (Ju hy)
theorem KO{s:R4}{k:Nat}(h:Pre s):Pre (wo s k):=by refine⟨by have:=h.1;simp[wo];omega,fun y hy=>?_⟩;simp only[wo] at hy;rcases List.mem_append.mp hy with hy|hy;exact h.2 y (Nf hy);exact h.2 y (Ju hy)
theorem Kw(m:Int)(h0:0<=m)(h4:m<4):∃d,(d∈[19,21,22,23]/\(m<2->d≠22/\d≠23))/\aq (.lst [.str (nm 19),.str (nm 21),.str (nm 22),.str (nm 23)]) (.int m)=some (.str (nm d)):=by have:m=0\/m=1\/m=2\/m=3:=T9;rcases this with rfl|rfl|rfl|rfl;exact⟨19,by decide,rfl⟩;exact⟨21,by decide,rfl⟩;exact⟨22,by decide,rfl⟩;exact⟨23,by decide,rfl⟩
theorem Q2d(n:Nat)(G S:Nat->R4)(ns:R4)(q a:Nat)(hs:SI (S a))(BM:S a≠[])(w:Int)(w0:4<=w)(w9:w<9):∃(l:PL)(t:R4)(q':Nat),vt [Row ns q,.int a,T (S a),.int w]=.ok (.tup [l.d,T t]) [Row ns q']/\Told n G S l t/\l.ns=[a]/\Pre t:=by
 unfold vt Ck;obtain⟨s,hS⟩:∃s,s=S a:=⟨_,rfl⟩;rw[<-hS] at hs BM ⊢;have hl:=hs.1;have hp:=hs.pre;have hn:=List.length_pos_iff.mpr BM;obtain⟨j,ts,hj⟩:=drawn ns q s.length hn;obtain⟨z,hz⟩:∃z,s.getD j 0=z:=⟨_,rfl⟩;have ix:aq (T s) (.int j)=some (.int z):=by have:=fQ s j T9 T9;rw[BA,hz] at this;exact this
 have sb:=hs.get j;rw[hz] at sb;have c1:=sf s j T9;have c2:=r8 s (j+1) T9;rw[show (((j+1:Nat)):Int)=(j:Int)+1 by lia] at c2;have a1:bj (T (s.take j)) (T (s.drop (j+1)))=some (T (wo s j)):=fK (s.take j) (s.drop (j+1)) (by simp[eL];lia);by_cases c4:w=4;obtain⟨x,t9,_,_⟩:=bU ns (q+1) 9 T9;obtain⟨y,tR,y0,y1⟩:=bU ns (q+2) 1000003 T9;exact⟨.shift a j (x-4) y,s,q+3,rn,⟨j,rfl,by rw[<-hS];exact hj,⟨y0,y1⟩,hS⟩,rfl,hp⟩;by_cases c5:w=5;obtain⟨x,t4,x0,x4⟩:=bU ns (q+1) 4 T9;have ii:intD [.bl (decide (0<z))]=some (.int (if 0<z then 1 else 0)):=by rw[zK];simp
 obtain⟨m,hm⟩:∃m:Int,m=if 0<z then 4 else 2:=⟨_,rfl⟩
 have i2:aq (.lst [.int 2,.int 4]) (.int (if 0<z then 1 else 0))=some (.int m):=by rw[hm];split<;>rfl
 have m4:(m=4\/m=2)/\(z=0->m=2):=by rw[hm];split<;>lia
 have md:=iS x m T9;obtain⟨d,hd,id⟩:=Kw (x % m) (Int.emod_nonneg _ T9) (by have:=AR x (show 0<m by lia);lia);have c5':¬w=4:=c4;refine⟨.fold d a j,wo s j,q+2,rn,⟨j,rfl,by rw[<-hS];exact hj,hd.1,fun h=>hd.2 ?_,by rw[hS]⟩,rfl,KO hp⟩;rw[<-hS,hz] at h;have:=AR x (show 0<m by lia)
 lia
 by_cases c6:w=6;obtain⟨x,t4,x0,x4⟩:=bU ns (q+1) 4 T9;obtain⟨d,hd,id⟩:=Kw x x0 x4;exact⟨.run d a j,s,q+2,rn,⟨j,rfl,by rw[<-hS];exact hj,hd.1,hS⟩,rfl,hp⟩;by_cases z0:z=0;exact⟨.one 18 a,s,q+1,rn,⟨T9,hS⟩,rfl,hp⟩;obtain⟨b,tz,b0,b1⟩:=bU ns (q+1) z T9;by_cases c7:w=7;exact⟨.drop a j b,wo s j,q+2,rn,⟨j,rfl,by rw[<-hS];exact hj,⟨b0,by rw[<-hS,hz];exact b1⟩,by rw[hS]⟩,rfl,KO hp⟩;obtain⟨x,t3,x0,x3⟩:=bU ns (q+2) 3 T9;obtain⟨v,t2,v0,v2⟩:=bU ns (q+3) 2 T9;have f1:=sH (z-1-b) (1+x) T9 T9;have f2:=sH b (1+x) T9 T9;have k1:0<=(z-1-b) / (1+x):=Int.ediv_nonneg T9 T9;have k2:(z-1-b) / (1+x)*(1+x)<=z-1-b:=Int.ediv_mul_le _ T9;have k3:0<=b / (1+x):=Int.ediv_nonneg T9 T9;have k4:b / (1+x)*(1+x)<=b:=Int.ediv_mul_le _ T9;have k5:(z-1-b) / (1+x)<=z-1-b:=Int.ediv_le_self _ T9;have k6:b / (1+x)<=b:=Int.ediv_le_self _ T9;have key:∀(u m:Int),0<=m->0<=u->m<=u+1->0<m->(1+x)*(m-1)<=u*(1+x):=fun u m _ _ h3 h4=>by rw[Int.mul_comm];exact Int.mul_le_mul_of_nonneg_right T9 T9
 have RJ:∀m:Int,0<m->0<=(1+x)*(m-1):=fun m h=>W2 T9 T9;by_cases c:v=1;generalize b / (1+x)=u at *;obtain⟨m,tm,m0,m1⟩:=bU ns (q+4) (u+2) T9;have ch:=iI s j (u+1-m) hj T9;refine⟨.cut a j b (0-(1+x)) (u+1-m),rep s j (u+1-m),q+5,rn,⟨j,rfl,by rw[<-hS];exact hj,T9,T9,fun h=>?_,by rw[hS]⟩,rfl,uH hp T9 hj⟩;rw[<-hS,hz];have e:(0-(1+x))*(u+1-m-1)=-((1+x)*(u+1-m-1)):=by rw[Int.zero_sub,Int.neg_mul]
 have:=key u (u+1-m) T9 k3 T9 h;have:=RJ (u+1-m) h;rw[e];lia;generalize (z-1-b) / (1+x)=u at *;obtain⟨m,tm,m0,m1⟩:=bU ns (q+4) (u+2) T9;have ch:=iI s j (u+1-m) hj T9;refine⟨.cut a j b (1+x) (u+1-m),rep s j (u+1-m),q+5,rn,⟨j,rfl,by rw[<-hS];exact hj,T9,T9,fun h=>?_,by rw[hS]⟩,rfl,uH hp T9 hj⟩;rw[<-hS,hz];have:=key u (u+1-m) T9 k1 T9 h;have:=RJ (u+1-m) h
 lia
theorem yQ(s:R4)(h:∀x∈s,0<=x/\x<=24)(k:Nat):0<=back s k/\back s k<=24:=by unfold back;split;rename_i hk;have h2:s.length-1-k<s.length:=Uk;have:=h s[s.length-1-k] (IQ h2);simpa[h2] using this;omega
theorem zU{s t m:R4}(h1:∀x∈s,0<=x/\x<=24)(h2:∀x∈t,0<=x/\x<=24)(h:meet s t=some m):∀x∈m,0<=x/\x<=24:=fun x hx=>by unfold meet at h;split at h;cases h;rw[List.mem_reverse] at hx;obtain⟨p,hp,rfl⟩:=List.mem_map.mp hx;unfold pairs at hp;obtain⟨k,_,rfl⟩:=List.mem_map.mp hp;have:=yQ s h1 k;have:=yQ t h2 k;unfold pk;dsimp only;split<;>lia;cases h
def BR(ss:WU):Prop:=∀s∈ss,SI s
theorem BR.at{ss:WU}(h:BR ss){i:Nat}(hi:i<ss.length):SI (sd ss i):=by
 have:sd ss i=ss[i]:=by simp[sd,hi]
 rw[this];exact h _ (IQ hi)
theorem SO(m:Int)(h0:0<=m)(h3:m<3):∃d,(16<=d/\d<=18)/\aq (.lst [.str (nm 16),.str (nm 17),.str (nm 18)]) (.int m)=some (.str (nm d)):=by have:m=0\/m=1\/m=2:=T9;rcases this with rfl|rfl|rfl;exact⟨16,T9,rfl⟩;exact⟨17,T9,rfl⟩;exact⟨18,T9,rfl⟩
theorem SN(m:Int)(h0:0<=m)(h7:m<7):∃d,(19<=d/\d<=25)/\aq (.lst [.str (nm 19),.str (nm 20),.str (nm 21),.str (nm 22),.str (nm 23),.str (nm 24),.str (nm 25)]) (.int m)=some (.str (nm d)):=by have:m=0\/m=1\/m=2\/m=3\/m=4\/m=5\/m=6:=T9;rcases this with rfl|rfl|rfl|rfl|rfl|rfl|rfl;exact⟨19,T9,rfl⟩;exact⟨20,T9,rfl⟩;exact⟨21,T9,rfl⟩;exact⟨22,T9,rfl⟩;exact⟨23,T9,rfl⟩;exact⟨24,T9,rfl⟩;exact⟨25,T9,rfl⟩
theorem ur{s t m:R4}(hs:SI s)(ht:SI t)(e:meet s t=some m):iK [T s,T t]=.ok (T m) []/\(m.length<=4/\∀x∈m,0<=x/\x<=24):=by have:=qp s t hs.1 ht.1;rw[e] at this;exact⟨this,by have:=gW e;have:=hs.1;have:=ht.1;lia,zU hs.2.1 ht.2.1 e⟩
theorem zV{s t:R4}(hs:SI s)(ht:SI t)(e:meet s t=none):iK [T s,T t]=.ok .bC []:=by have:=qp s t hs.1 ht.1;rwa [e] at this
theorem pre_of{m:R4}(h:m.length<=4/\∀x∈m,0<=x/\x<=24):Pre m:=⟨T9,fun x hx=>by have:=h.2 x hx;lia⟩
theorem Ew(s:R4):isND (T s) .bC=some (.bl false):=rfl
theorem Sk:isND .bC .bC=some (.bl true):=rfl
theorem ub(s:R4)(j:Nat)(h:j<s.length):aq (T s) (.int (j:Int))=some (.int (s.getD j 0)):=by have:=fQ s j T9 T9;rwa [BA] at this
theorem OA{s t:R4}{j:Nat}(h:s.length=t.length)(e:rep s j 0=rep t j 0):wo s j=wo t j:=by unfold rep at e;have h1:=List.append_inj e (by simp[h]);unfold wo;rw[h1.1,(List.cons.inj h1.2).2]
section
variable(N:Nat)(G:Nat->R4)(ns:R4)(q a ix_:Nat)(ss:WU)(ma:BR ss)(ha:a<ss.length)(hi:ix_<ss.length)(h1:(sd ss ix_).length=1)
include ma ha hi h1
theorem Se:∃(l:PL)(t:R4)(q':Nat),fI [Row ns q,.int a,bF ss,.int 9,.int ix_]=.ok (.tup [l.d,T t]) [Row ns q',bF ss]/\Told N G (sd ss) l t/\(∀r∈l.ns,r<ss.length)/\Pre t:=by unfold fI lT;have ia:=ck ss a ha;have ln:=fR ss;obtain⟨b,tb,hb⟩:=drawn ns q ss.length T9;obtain⟨x,t3,x0,x3⟩:=bU ns (q+1) 3 T9;obtain⟨d,hd,id⟩:=SO x x0 x3;exact⟨.one d a,sd ss a,q+2,rn,⟨hd,rfl⟩,fun r hr=>by simp[PL.ns] at hr;lia,(ma.at ha).pre⟩
theorem Q1H:∃(l:PL)(t:R4)(q':Nat),fI [Row ns q,.int a,bF ss,.int 10,.int ix_]=.ok (.tup [l.d,T t]) [Row ns q',bF ss]/\Told N G (sd ss) l t/\(∀r∈l.ns,r<ss.length)/\Pre t:=by unfold fI lT;have ia:=ck ss a ha;have ln:=fR ss;obtain⟨b,tb,hb⟩:=drawn ns q ss.length T9;have ib:=ck ss b hb;obtain⟨x,t7,x0,x7⟩:=bU ns (q+1) 7 T9;obtain⟨d,hd,id⟩:=SN x x0 x7;have n0:=Sk;cases e:meet (sd ss a) (sd ss b) with|none=>have m1:=zV (ma.at ha) (ma.at hb) e;obtain⟨m2,mp⟩:=ur (ma.at ha) (ma.at ha) (meet_self _);exact⟨.both d a a,sd ss a,q+2,rn,⟨hd,meet_self _⟩,fun r hr=>by simp[PL.ns] at hr;lia,pre_of mp⟩|some m=>obtain⟨m1,mp⟩:=ur (ma.at ha) (ma.at hb) e;have n1:=Ew m;exact⟨.both d a b,m,q+2,rn,⟨hd,e⟩,fun r hr=>by simp[PL.ns] at hr;lia,pre_of mp⟩
theorem MU:∃(l:PL)(t:R4)(q':Nat),fI [Row ns q,.int a,bF ss,.int 11,.int ix_]=.ok (.tup [l.d,T t]) [Row ns q',bF ss]/\Told N G (sd ss) l t/\(∀r∈l.ns,r<ss.length)/\Pre t:=by unfold fI lT;have ia:=ck ss a ha;have ln:=fR ss;obtain⟨b,tb,hb⟩:=drawn ns q ss.length T9;have ib:=ck ss b hb;obtain⟨c,tc,hc⟩:=drawn ns (q+1) ss.length T9;have ic:=ck ss c hc;have n0:=Sk;cases e:meet (sd ss a) (sd ss b) with|none=>have m1:=zV (ma.at ha) (ma.at hb) e;exact⟨.hW a a a,sd ss a,q+2,rn,⟨_,meet_self _,meet_self _⟩,fun r hr=>by simp[PL.ns] at hr;lia,(ma.at ha).pre⟩|some m=>obtain⟨m1,mp⟩:=ur (ma.at ha) (ma.at hb) e;have n1:=Ew m;have m2:=qp m (sd ss c) mp.1 (ma.at hc).1;cases e2:meet m (sd ss c) with|none=>rw[e2] at m2;have m3:iK [T m,T (sd ss c)]=.ok .bC []:=m2;exact⟨.hW a a a,sd ss a,q+2,rn,⟨_,meet_self _,meet_self _⟩,fun r hr=>by simp[PL.ns] at hr;lia,(ma.at ha).pre⟩|some n=>rw[e2] at m2;have m3:iK [T m,T (sd ss c)]=.ok (T n) []:=m2;have n2:=Ew n;have nl:=gW e2;have VQ:=(ma.at hc).1;exact⟨.hW b a c,n,q+2,rn,⟨_,(meet_comm _ _).trans e,e2⟩,fun r hr=>by simp[PL.ns] at hr;lia,pre_of ⟨T9,zU mp.2 (ma.at hc).2.1 e2⟩⟩
theorem MV:∃(l:PL)(t:R4)(q':Nat),fI [Row ns q,.int a,bF ss,.int 12,.int ix_]=.ok (.tup [l.d,T t]) [Row ns q',bF ss]/\Told N G (sd ss) l t/\(∀r∈l.ns,r<ss.length)/\Pre t:=by
 unfold fI lT;have ia:=ck ss a ha;have ln:=fR ss;obtain⟨b,tb,hb⟩:=drawn ns q ss.length T9;obtain⟨n,t3,hn⟩:=drawn ns (q+1) 3 T9;have t3:bB [Row ns (q+1),.int 3]=.ok (.int n) [Row ns (q+1+1)]:=t3;have er:=qR n T9;obtain⟨q1,ys,hc,he⟩:=m6 (it:=cH [(ax bB [.io 0,.val (mC (.int 3))])]) (elt:=jM) (k:=11) (r0:=[.io (Row ns (q+1)),.sh (.int a),.io (bF ss),.sh (.int 12),.sh (.int ix_),.sh (T (sd ss a)),.sh (.int b),.no,.no,.no,.no]) (fun(k:Nat)=>D.int k) (fun q=>[.io (Row ns q),.sh (.int a),.io (bF ss),.sh (.int 12),.sh (.int ix_),.sh (T (sd ss a)),.sh (.int b),.no,.no,.no,.no]) (fun _ y=>0<=y/\y<=24) (List.range n) (q+1+1) (fun _=>rfl) aK (by simp;lia) (fun k _ q'=>by obtain⟨y,tt,_,_⟩:=bU ns q' 3 T9;exact⟨q'+1,1+y,T9,fun acc=>by unfold jM;exact aK⟩);have hy:∀y∈ys,0<=y/\y<=24:=fun y hy=>by obtain⟨_,_,h⟩:=he.right y hy;exact h
 have yl:=he.len;simp only[List.length_range] at yl;obtain⟨y,tR,y0,y1⟩:=bU ns q1 1000003 T9;exact⟨.m9 ys y,ys,q1+1,rn,⟨rfl,y0,y1⟩,fun r hr=>by simp[PL.ns] at hr,pre_of ⟨T9,hy⟩⟩
theorem Sb(w:Int)(c9:¬w=9)(Vm:¬w=10)(Vn:¬w=11)(Vo:¬w=12)(c0:sd ss a=[]):∃(l:PL)(t:R4)(q':Nat),fI [Row ns q,.int a,bF ss,.int w,.int ix_]=.ok (.tup [l.d,T t]) [Row ns q',bF ss]/\Told N G (sd ss) l t/\(∀r∈l.ns,r<ss.length)/\Pre t:=by unfold fI lT;have ia:=ck ss a ha;rw[c0] at ia;have ln:=fR ss;obtain⟨b,tb,hb⟩:=drawn ns q ss.length T9;have e0:bG (T []) (.tup [])=some (.bl true):=rfl;exact⟨.one 16 a,[],q+1,rn,⟨T9,c0.symm⟩,fun r hr=>by simp[PL.ns] at hr;lia,G9,G9⟩
theorem MW(c0:sd ss a≠[]):∃(l:PL)(t:R4)(q':Nat),fI [Row ns q,.int a,bF ss,.int 13,.int ix_]=.ok (.tup [l.d,T t]) [Row ns q',bF ss]/\Told N G (sd ss) l t/\(∀r∈l.ns,r<ss.length)/\Pre t:=by
 unfold fI lT;have ia:=ck ss a ha;have ln:=fR ss;obtain⟨b,tb,hb⟩:=drawn ns q ss.length T9;have ib:=ck ss b hb;have ii:=ck ss ix_ hi;have hs:=ma.at ha;have e0:bG (T (sd ss a)) (.tup [])=some (.bl false):=by rw[O3,Dg];simp[c0]
 obtain⟨j,tj,hj⟩:=drawn ns (q+1) (sd ss a).length (List.length_pos_iff.mpr c0);obtain⟨x,t5,_,_⟩:=bU ns (q+2) 5 T9;have fin:∀e:Nat,e<ss.length->(sd ss e).length=1->∃y,sd ss e=[y]/\aq (T (sd ss e)) (.int 0)=some (.int y)/\kX [T (sd ss a),.int j,.int y]=.ok (T (rep (sd ss a) j y)) []/\Pre (rep (sd ss a) j y):=fun e he Kg=>by have g:=(ma.at he).get 0;have:=hs.1;obtain⟨y,hy⟩:∃y,sd ss e=[y]:=List.length_eq_one_iff.mp Kg;rw[hy] at g ⊢;exact⟨y,rfl,rfl,iI _ _ _ hj T9,uH hs.pre (by simp at g;lia) hj⟩
 obtain⟨y,hy,f1,f2,f3⟩:=fin ix_ hi h1;by_cases k5:x<4;exact⟨.pick a j ix_,_,q+3,rn,⟨j,y,rfl,hj,hy,rfl⟩,fun r hr=>by simp[PL.ns] at hr;lia,f3⟩;have ne:dz (.int ((sd ss b).length:Int)) (.int 1)=some (.bl (!decide ((sd ss b).length=1))):=by rw[dk,decide_eq_decide.mpr (show ((sd ss b).length:Int)=1<->(sd ss b).length=1 by lia)]
 by_cases kb:(sd ss b).length=1;obtain⟨y,hy,g1,g2,g3⟩:=fin b hb kb;rw[Ub kb] at ne;have ne:dz (.int ((sd ss b).length:Int)) (.int 1)=some (.bl false):=ne;exact⟨.pick a j b,_,q+3,rn,⟨j,y,rfl,hj,hy,rfl⟩,fun r hr=>by simp[PL.ns] at hr;lia,g3⟩;rw[Vy kb] at ne;have ne:dz (.int ((sd ss b).length:Int)) (.int 1)=some (.bl true):=ne;exact⟨.pick a j ix_,_,q+3,rn,⟨j,y,rfl,hj,hy,rfl⟩,fun r hr=>by simp[PL.ns] at hr;lia,f3⟩
theorem MX(c0:sd ss a≠[]):∃(l:PL)(t:R4)(q':Nat),fI [Row ns q,.int a,bF ss,.int 14,.int ix_]=.ok (.tup [l.d,T t]) [Row ns q',bF ss]/\Told N G (sd ss) l t/\(∀r∈l.ns,r<ss.length)/\Pre t:=by
 unfold fI lT;have ia:=ck ss a ha;have ln:=fR ss;obtain⟨b,tb,hb⟩:=drawn ns q ss.length T9;have ib:=ck ss b hb;have hs:=ma.at ha;have hl:=hs.1;have e0:bG (T (sd ss a)) (.tup [])=some (.bl false):=by rw[O3,Dg];simp[c0]
 obtain⟨j,tj,hj⟩:=drawn ns (q+1) (sd ss a).length (List.length_pos_iff.mpr c0);have i1:=ub (sd ss a) j hj;have fin:∀e:Nat,e<ss.length->kX [T (sd ss a),.int j,.int ((sd ss a).getD j 0+(sd ss e).getD j 0)]=.ok (T (rep (sd ss a) j ((sd ss a).getD j 0+(sd ss e).getD j 0))) []/\Pre (rep (sd ss a) j ((sd ss a).getD j 0+(sd ss e).getD j 0)):=fun e he=>by have g:=(ma.at he).get j;have g2:=hs.get j;exact⟨iI _ _ _ hj T9,uH hs.pre T9 hj⟩
 have ch0:=iI (sd ss a) j 0 hj T9;obtain⟨f2,f3⟩:=fin a ha;have ne:dz (.int ((sd ss b).length:Int)) (.int ((sd ss a).length:Int))=some (.bl (!decide ((sd ss b).length=(sd ss a).length))):=by rw[dk,decide_eq_decide.mpr (show ((sd ss b).length:Int)=(sd ss a).length<->(sd ss b).length=(sd ss a).length by lia)]
 by_cases kl:(sd ss b).length=(sd ss a).length;have ch1:=iI (sd ss b) j 0 T9 (by have:=(ma.at hb).1;lia);rw[Ub kl] at ne;have ne:dz (.int ((sd ss b).length:Int)) (.int ((sd ss a).length:Int))=some (.bl false):=ne;have nr:dz (T (rep (sd ss a) j 0)) (T (rep (sd ss b) j 0))=some (.bl (!decide (rep (sd ss a) j 0=rep (sd ss b) j 0))):=zW _ _;by_cases kr:rep (sd ss a) j 0=rep (sd ss b) j 0;have i2:=ub (sd ss b) j T9;obtain⟨g2,g3⟩:=fin b hb;rw[Ub kr] at nr;have nr:dz (T (rep (sd ss a) j 0)) (T (rep (sd ss b) j 0))=some (.bl false):=nr;exact⟨.join a b j,_,q+2,rn,⟨j,rfl,hj,kl.symm,OA kl.symm kr,rfl⟩,fun r hr=>by simp[PL.ns] at hr;lia,g3⟩;rw[Vy kr] at nr;have nr:dz (T (rep (sd ss a) j 0)) (T (rep (sd ss b) j 0))=some (.bl true):=nr;exact⟨.join a a j,_,q+2,rn,⟨j,rfl,hj,rfl,rfl,rfl⟩,fun r hr=>by simp[PL.ns] at hr;lia,f3⟩;rw[Vy kl] at ne;have ne:dz (.int ((sd ss b).length:Int)) (.int ((sd ss a).length:Int))=some (.bl true):=ne;exact⟨.join a a j,_,q+2,rn,⟨j,rfl,hj,rfl,rfl,rfl⟩,fun r hr=>by simp[PL.ns] at hr;lia,f3⟩
theorem Q1P(w:Int)(w4:4<=w)(w15:w<15)(hw:w<9->sd ss a=[]) : ∃(l:PL)(t:R4)(q':Nat),fI [Row ns q,.int a,bF ss,.int w,.int ix_]=.ok (.tup [l.d,T t]) [Row ns q',bF ss]/\Told N G (sd ss) l t/\(∀r∈l.ns,r<ss.length)/\Pre t:=by
 by_cases c9:w=9;subst c9;exact Se N G ns q a ix_ ss ma ha hi h1;by_cases Vm:w=10;subst Vm;exact Q1H N G ns q a ix_ ss ma ha hi h1;by_cases Vn:w=11;subst Vn;exact MU N G ns q a ix_ ss ma ha hi h1;by_cases Vo:w=12;subst Vo;exact MV N G ns q a ix_ ss ma ha hi h1;by_cases c0:sd ss a=[];exact Sb N G ns q a ix_ ss ma ha hi h1 w c9 Vm Vn Vo c0;have:w=13\/w=14:=by
  have:¬w<9:=fun z=>c0 (hw z)
  lia
 rcases this with rfl|rfl;exact MW N G ns q a ix_ ss ma ha hi h1 c0;exact MX N G ns q a ix_ ss ma ha hi h1 c0
end
def M0:R4->Int|[]=>0|i::is=>is.foldl (fun a b=>if a<b then b else a) i
theorem tX:∀(is:R4)(a:Int),a<=is.foldl (fun a b=>if a<b then b else a) a/\∀x∈is,x<=is.foldl (fun a b=>if a<b then b else a) a|[],a=>⟨G9,fun x hx=>by simp at hx⟩|i::is,a=>by obtain⟨h1,h2⟩:=tX is (if a<i then i else a);simp only[List.foldl_cons];generalize is.foldl (fun a b=>if a<b then b else a) (if a<i then i else a)=z at *;refine⟨by split at h1<;>lia,fun x hx=>?_⟩;rcases List.mem_cons.mp hx with rfl|hx;split at h1<;>lia;exact h2 x hx
theorem Q1Z{t:R4}(h:M0 t<=24):∀x∈t,x<=24:=fun x hx=>by
 cases t with
 |nil=>simp at hx|cons i is=>
  obtain⟨h1,h2⟩:=tX is i;have e:M0 (i::is)=is.foldl (fun a b=>if a<b then b else a) i:=rfl;rcases List.mem_cons.mp hx with rfl|hx
  lia
  have:=h2 x hx;lia
theorem MP(t:R4):nG (T t) (.int 0)=some (.int (M0 t)):=by rw[Es];cases t<;>rfl
def Fp(ns:R4)(gs:WU)(c tn ix_:Int)(ls:WH)(ss:WU)(q:Nat)(s2 s3 s9 Gi Bw:Sl):aR:=[.io (Row ns q),.ow (bF gs),s2,s3,.sh (.int c),.sh (.int tn),.ow (Pg ls),.ow (bF ss),.sh (.int ix_),s9,Gi,Bw]
structure Gd(gs:WU)(ls:WH)(ss:WU)(ix_:Nat):Prop where
 len:ss.length=ls.length
 wf:Wf ls
 told:∀i l,ls[i]?=some l->Told gs.length (sd gs) (sd ss) l (sd ss i)
 si:BR ss
 ix:ix_<ss.length
 one:(sd ss ix_).length=1
 ne:ls≠[]
theorem pw{ss:WU}{t:R4}{i:Nat}(h:i<ss.length):sd (ss++[t]) i=sd ss i:=by unfold sd;rw[SE,MS h,SE]
theorem Gd.more{gs:WU}{ls:WH}{ss:WU}{ix_:Nat}(g:Gd gs ls ss ix_){l:PL}{t:R4}(hl:∀r∈l.ns,r<ss.length)(hf:Told gs.length (sd gs) (sd ss) l t)(ht:SI t):Gd gs (ls++[l]) (ss++[t]) ix_:=by
 have hx:∀i x,(ls++[l])[i]?=some x->ls[i]?=some x\/(i=ss.length/\x=l):=fun i x hx=>by
  by_cases h:i<ls.length;rw[MS h] at hx;exact .inl hx;rw[Sr T9] at hx;have:=(List.getElem?_eq_some_iff.mp hx).1;have e:i-ls.length=0:=by simp at this;lia
  rw[e] at hx;exact .inr ⟨by have:=g.len;lia,by simpa using hx.symm⟩
 refine⟨by simp[g.len],fun i x h r hr=>?_,fun i x h=>?_,fun x h=>?_,by simp;have:=g.ix;lia,by rw[pw g.ix];exact g.one,G9⟩;rcases hx i x h with h|⟨rfl,rfl⟩;exact g.wf i x h r hr;exact hl r hr;rcases hx i x h with h|⟨rfl,rfl⟩;have hi:=(List.getElem?_eq_some_iff.mp h).1;have R5:=g.len;rw[pw T9];exact(g.told i x h).mono fun r hr=>pw (by have:=g.wf i x h r hr;lia);rw[show sd (ss++[t]) ss.length=t by simp[sd]];exact hf.mono fun r hr=>pw (hl r hr);rcases List.mem_append.mp h with h|h;exact g.si x h;have:x=t:=by simpa using h
 subst this;exact ht
theorem Dt(ns:R4)(gs:WU)(Ka:BR gs)(tn:Int)(ix_:Nat)(ls:WH)(ss:WU)(g:Gd gs ls ss ix_)(q:Nat)(s2 s3 Bw:Sl)(X2:free (some Bw)=true)(a:Nat)(ha:a<ss.length)(w:Int)(w0:0<=w)(YM:w<16)(hg:0<gs.length)(G:M Fl)
  (hG:G=(bD (tB (m2 ltI (af 10) (mC (.int 4)))) (ak (aN 11 (ax iq [.io 0,.val (af 9),.val (bO 7 (af 9)),.val (af 10)]))
  aA) (ak (bD (gh (tB (m2 ltI (af 10) (mC (.int 9)))) (tB (m2 dz (bO 7 (af 9)) (bf [])))) (ak (aN 11 (ax vt [.io 0,.val (af 9),.val (bO 7 (af 9)),.val (af 10)]))
  aA) (ak (bD (tB (m2 bG (af 10) (mC (.int 15)))) (ak (aN 11 (bf [(bf [(mC (.str (nm 0))),(m2 oO (af 9) (af 4))]),(bO 1 (m2 oO (af 9) (af 4)))]))
  aA) (ak (aN 11 (ax fI [.io 0,.val (af 9),.io 7,.val (af 10),.val (af 8)]))
  aA))
  aA))
  aA))):∃(l:PL)(t:R4)(q':Nat),G (Fp ns gs gs.length tn ix_ ls ss q s2 s3 (.sh (.int a)) (.sh (.int w)) Bw)=.ok .nx (Fp ns gs gs.length tn ix_ ls ss q' s2 s3 (.sh (.int a)) (.sh (.int w)) (.sh (.tup [l.d,T t])))/\Told gs.length (sd gs) (sd ss) l t/\(∀r∈l.ns,r<ss.length)/\Pre t:=by
 subst hG;unfold Fp;have ia:=ck ss a ha;have hs:=g.si.at ha;by_cases c1:w<4;obtain⟨l,t,q',e,h1,h2,h3⟩:=Jy gs.length (sd gs) (sd ss) ns q a hs w w0 c1;refine⟨l,t,q',?_,h1,fun r hr=>by rw[h2] at hr;simp at hr;lia,h3⟩;generalize l.d=ld at *;exact aK;by_cases c2:w<9/\sd ss a≠[];obtain⟨l,t,q',e,h1,h2,h3⟩:=Q2d gs.length (sd gs) (sd ss) ns q a hs c2.2 w T9 c2.1;refine⟨l,t,q',?_,h1,fun r hr=>by rw[h2] at hr;simp at hr;lia,h3⟩;generalize l.d=ld at *;obtain⟨c21,Y0⟩:=c2;have ne:dz (T (sd ss a)) (.tup [])=some (.bl true):=by rw[O3,zW,Vy Y0];rfl
 exact aK;by_cases c3:w=15;have md:=iS a gs.length T9;obtain⟨b,hb⟩:∃b,b=a % gs.length:=⟨_,rfl⟩;have VN:b<gs.length:=by rw[hb];exact Nat.mod_lt _ hg
 have eb:((a:Int) % (gs.length:Int))=(b:Int):=by rw[hb];simp
 rw[eb] at md;have ib:=ck gs b VN;refine⟨.given b,sd gs b,q,?_,⟨b,rfl,VN,rfl⟩,fun r hr=>by simp[PL.ns] at hr,(Ka.at VN).pre⟩;have c4:¬w<9:=T9;simp only[PL.d,PL.k,PL.ps];exact aK;obtain⟨l,t,q',e,h1,h2,h3⟩:=Q1P gs.length (sd gs) ns q a ix_ ss g.si ha g.ix g.one w T9 T9 (fun z=>by cases e:sd ss a with|nil=>rfl|cons x r=>exact absurd ⟨z,by rw[e];simp⟩ c2);refine⟨l,t,q',?_,h1,h2,h3⟩;generalize l.d=ld at *;by_cases c4:w<9;have c5:sd ss a=[]:=by cases e:sd ss a with|nil=>rfl|cons x r=>exact absurd ⟨c4,by rw[e];simp⟩ c2
 have ne:dz (T (sd ss a)) (.tup [])=some (.bl false):=by rw[c5];rfl
 exact aK;exact aK
theorem LG(x y:D):aq (.tup [x,y]) (.int 0)=some x:=rfl
theorem Je(x y:D):aq (.tup [x,y]) (.int 1)=some y:=rfl
theorem Tz(ns:R4)(gs:WU)(Ka:BR gs)(hg:0<gs.length)(tn:Int)(ix_:Nat)(ls:WH)(ss:WU)(g:Gd gs ls ss ix_)(hl:ls.length<=40)(q:Nat)(s2 s3 s9 Gi Bw:Sl)(h9:free (some s9)=true)(h10:free (some Gi)=true)(X2:free (some Bw)=true) : ∃(l:PL)(t:R4)(q':Nat)(UQ IT IU:Sl),fB (Fp ns gs gs.length tn ix_ ls ss q s2 s3 s9 Gi Bw)=.ok .nx (Fp ns gs gs.length tn ix_ (ls++[l]) (ss++[t]) q' s2 s3 UQ IT IU)/\Gd gs (ls++[l]) (ss++[t]) ix_/\free (some UQ)=true/\free (some IT)=true/\free (some IU)=true:=by
 have ln:=iu ls;have hn:=List.length_pos_iff.mpr g.ne;have R5:=g.len;obtain⟨b,tl,hb⟩:=drawn ns q ls.length hn;obtain⟨a,hae,ha⟩:∃a:Nat,gJ (.int ((ls.length:Int)-1)) (.int b)=some (.int (a:Int))/\a<ss.length:=⟨ls.length-1-b,by rw[Am];congr 2;lia,T9⟩;obtain⟨w,t16,w0,YM⟩:=bU ns (q+1) 16 T9;obtain⟨l,t,q',e,h1,h2,h3⟩:=Dt ns gs Ka tn ix_ ls ss g (q+2) s2 s3 Bw X2 a ha w w0 YM hg _ rfl;have cl:=xc t h3;have mx:=MP t;have ia:=ck ss a ha;have XF:∀l:PL,gD l.d (Pg ls)=some (Pg (ls++[l])):=fun l=>by unfold Pg;rw[ie _ _ (by simp;lia),E3];rfl
 have XG:∀t,gD (T t) (bF ss)=some (bF (ss++[t])):=fun t=>by unfold bF;rw[ie _ _ (by simp;lia),E3];rfl
 unfold Fp at e ⊢;unfold fB;by_cases c:aV t<=27/\t.length<=4/\M0 t<=24;refine⟨l,t,q',.sh (.int a),.sh (.int w),.sh (.tup [l.d,T t]),?_,g.more h2 h1 ⟨c.2.1,fun x hx=>⟨(h3.2 x hx).1,Q1Z c.2.2 x hx⟩,c.1⟩,rfl,rfl,rfl⟩;have k1:¬27<aV t:=T9;have k2:¬(4:Int)<t.length:=T9;have k3:¬24<M0 t:=T9;have a1:=XF l;have a2:=XG t;generalize l.d=ld at *;have p1:=LG ld (T t);have p2:=Je ld (T t);exact aK;refine⟨.one 16 a,sd ss a,q',.sh (.int a),.sh (.int w),.sh (.tup [.tup [.str (nm 9),.str (nm 16),.int a],T (sd ss a)]),?_,g.more (fun r hr=>by simp[PL.ns] at hr;lia) ⟨T9,rfl⟩ (g.si.at ha),rfl,rfl,rfl⟩;have a1:=XF (.one 16 a);have a2:=XG (sd ss a);have p2:=Je l.d (T t);have p3:=LG (.tup [.str (nm 9),.str (nm 16),.int a]) (T (sd ss a));have p4:=Je (.tup [.str (nm 9),.str (nm 16),.int a]) (T (sd ss a));have a1:gD (.tup [.str (nm 9),.str (nm 16),.int a]) (Pg ls)=some (Pg (ls++[.one 16 a])):=a1;generalize l.d=ld at *;by_cases k1:27<aV t;exact aK;by_cases k2:(4:Int)<t.length;exact aK;have k3:24<M0 t:=by by_cases z:24<M0 t;exact z;exact absurd ⟨T9,T9,T9⟩ c
 exact aK
theorem Xm(m:Int)(h0:0<=m)(h8:m<8):∃v:Int,0<=v/\v<=3/\aq (.lst [.int 2,.int 3,.int 1,.int 2,.int 3,.int 1,.int 2,.int 0]) (.int m)=some (.int v):=by have:m=0\/m=1\/m=2\/m=3\/m=4\/m=5\/m=6\/m=7:=T9;rcases this with rfl|rfl|rfl|rfl|rfl|rfl|rfl|rfl;exact⟨2,T9,T9,rfl⟩;exact⟨3,T9,T9,rfl⟩;exact⟨1,T9,T9,rfl⟩;exact⟨2,T9,T9,rfl⟩;exact⟨3,T9,T9,rfl⟩;exact⟨1,T9,T9,rfl⟩;exact⟨2,T9,T9,rfl⟩;exact⟨0,T9,T9,rfl⟩
theorem Xl(m:Int)(h0:0<=m)(h8:m<4):∃v:Int,0<=v/\v<=4/\aq (.lst [.int 2,.int 3,.int 1,.int 4]) (.int m)=some (.int v):=by have:m=0\/m=1\/m=2\/m=3:=T9;rcases this with rfl|rfl|rfl|rfl;exact⟨2,T9,T9,rfl⟩;exact⟨3,T9,T9,rfl⟩;exact⟨1,T9,T9,rfl⟩;exact⟨4,T9,T9,rfl⟩
theorem Kx:∀(xs:R4),(∀x∈xs,0<=x/\x<=3)->0<=aV xs/\aV xs<=3 ^ xs.length|[],_=>by simp[aV]|x::r,h=>by have hx:=h x QI;have hr:=Kx r fun y hy=>h y (QC _ hy);simp only[aV,List.length_cons];refine⟨W2 hx.1 hr.1,?_⟩;have:x*aV r<=3*3 ^ r.length:=Int.mul_le_mul hx.2 hr.2 hr.1 T9;rw[Int.pow_succ];lia
theorem si3(xs:R4)(hl:xs.length<=3)(h:∀x∈xs,0<=x/\x<=3):SI xs:=by
 refine⟨T9,fun x hx=>by have:=h x hx;lia,?_⟩;have p:=(Kx xs h).2;have:(3:Int) ^ xs.length<=27:=by
  generalize xs.length=n at *
  match n,hl with|0,_=>decide|1,_=>decide|2,_=>decide|3,_=>decide
 lia
theorem noLs_T:∀ss:WU,noLs (ss.map T)=true
|[]=>rfl|s::ss=>by
 have:QM (T s)=true:=by unfold T;rw[QM];induction s with|nil=>rfl|cons x s ih=>rw[Po,noLs,QM,ih];rfl
 rw[Po,noLs,this,noLs_T ss];rfl
def zG(t:Sl×Sl×Sl):Prop:=free (some t.1)=true/\free (some t.2.1)=true/\free (some t.2.2)=true
def Q20(t:Sl×Sl×Sl×Sl):Prop:=free (some t.1)=true/\free (some t.2.1)=true/\free (some t.2.2.1)=true/\free (some t.2.2.2)=true
theorem K7(gs:WU)(t:R4)(h:gs.length<=100):gD (T t) (bF gs)=some (bF (gs++[t])):=by unfold bF;rw[ie _ _ (by simp;lia),E3];rfl
theorem Q2a(ns:R4)(p:Nat):∃(ls:WH)(ss gs:WU)(ix_ q:Nat),vq [Row ns p]=.ok (.tup [Pg ls,bF ss,.int gs.length,bF gs]) [Row ns q]/\Gd gs ls ss ix_/\BR gs/\ls.length<=14:=by
 obtain⟨z,t2,z0,z2⟩:=bU ns p 2 T9;obtain⟨n,hn,Rg⟩:∃n:Nat,bj (.int 1) (.int z)=some (.int (n:Int))/\1<=n/\n<=2:=⟨(1+z).toNat,congrArg (fun z=>some (D.int z)) T9,T9,T9⟩;have er:=qR n T9;obtain⟨⟨q1,gs⟩,t,⟨sN,Ka⟩,ht,L⟩:=cV (g:=aE 2) (body:=fq) (fun(k:Nat)=>D.int k) (fun(s:Nat×List (List Int))(t:Sl×Sl)=>[.io (Row ns s.1),.ow (bF s.2),t.1,t.2,.no,.no,.no,.no,.no,.no,.no,.no]) l8 (List.range n) (fun k s=>s.2.length=k/\BR s.2) (p+1,[]) (.no,.no) ⟨rfl,rfl⟩ ⟨rfl,fun s hs=>by simp at hs⟩ (by
  intro i k hk s t ht hP;obtain⟨q,gs⟩:=s;obtain⟨t3,t4⟩:=t;obtain⟨f3,f4⟩:=ht;obtain⟨hl,cg⟩:=hP;dsimp only at f3 f4 hl cg;obtain⟨rfl,hk⟩:=fF hk;obtain⟨m,tk,hm4⟩:=drawn ns q 4 T9;have tk:bB [Row ns q,.int 4]=.ok (.int m) [Row ns (q+1)]:=tk;have er:=qR m T9;obtain⟨q',ys,hc,he⟩:=m6 (it:=cH [(af 3)]) (elt:=gO) (k:=12) (r0:=[.io (Row ns (q+1)),.ow (bF gs),.sh (.int k),.sh (.int m),.no,.no,.no,.no,.no,.no,.no,.no]) (fun(k:Nat)=>D.int k) (fun q=>[.io (Row ns q),.ow (bF gs),.sh (.int k),.sh (.int m),.no,.no,.no,.no,.no,.no,.no,.no]) (fun _ y=>0<=y/\y<=3) (List.range m) (q+1) (fun _=>rfl) aK (by simp;lia) (fun j _ q'=>by obtain⟨x,t8,x0,x8⟩:=bU ns q' 8 T9;obtain⟨v,v0,v3,iv⟩:=Xm x x0 x8;exact⟨q'+1,v,⟨v0,v3⟩,fun acc=>by unfold gO;exact aK⟩);have yl:=he.len;simp only[List.length_range] at yl;have hy:SI ys:=si3 ys T9 fun y hy=>by obtain⟨_,_,h⟩:=he.right y hy;exact h
  have ap:=K7 gs ys T9;refine⟨(q',gs++[ys]),(.sh (.int k),.sh (.int m)),⟨by simp[hl],fun x hx=>?_⟩,⟨rfl,rfl⟩,?_⟩;rcases List.mem_append.mp hx with hx|hx;exact cg x hx;have:x=ys:=by simpa using hx
  subst this;exact hy;have e:aE 2 (.int (k:Int)) [.io (Row ns q),.ow (bF gs),t3,t4,.no,.no,.no,.no,.no,.no,.no,.no]=.ok () [.io (Row ns q),.ow (bF gs),.sh (.int k),t4,.no,.no,.no,.no,.no,.no,.no,.no]:=by simp[f3]
  dsimp only;rw[bH,e,az,show fq _=.ok .nx _ by unfold fq;exact aK];rfl)
 obtain⟨t3,t4⟩:=t;obtain⟨f3,f4⟩:=ht;simp only[List.length_range] at sN;dsimp only at sN Ka f3 f4 L;obtain⟨x,tv,x0,x4⟩:=bU ns q1 4 T9;obtain⟨v,v0,v4,iv⟩:=Xl x x0 x4;have hv:SI [v]:=⟨G9,fun x hx=>by simp at hx;lia,by simp[aV];lia⟩;have ap:gD (.tup [.int v]) (bF gs)=some (bF (gs++[[v]])):=K7 gs [v] T9;have GX:BR (gs++[[v]]):=fun x hx=>by
  rcases List.mem_append.mp hx with hx|hx;exact Ka x hx;have:x=[v]:=by simpa using hx
  subst this;exact hv
 have Ki:sd (gs++[[v]]) ((gs++[[v]]).length-1)=[v]:=by simp[sd]
 have hg3:2<=(gs++[[v]]).length/\(gs++[[v]]).length<=3:=by simp;lia
 generalize hgz:gs++[[v]]=gz at *;have ln:=fR gz;obtain⟨tn,tt,ZO⟩:=drawn ns (q1+1) gz.length T9;have er2:=qR gz.length T9;let pl:=fun(k:Nat)=>PL.given (((k+tn) % gz.length:Nat));have c6:aU 1 (cH [(af 4)]) (aE 12) (VP.ret true) eM [.io (Row ns (q1+2)),.ow (bF gz),t3,t4,.sh (.int gz.length),.sh (.int tn),.no,.no,.no,.no,.no,.no]=.ok (Pg ((List.range gz.length).map pl)) [.io (Row ns (q1+2)),.ow (bF gz),t3,t4,.sh (.int gz.length),.sh (.int tn),.no,.no,.no,.no,.no,.no]:=by refine iJ (fun(k:Nat)=>D.int k) (fun k=>(pl k).d) (List.range gz.length) aK (by simp;lia) (by simp[Pg,Function.comp_def]) fun k hk acc=>?_;have md:=iS ((k:Int)+tn) gz.length T9;rw[show ((k:Int)+tn) % (gz.length:Int)=(((k+tn) % gz.length:Nat):Int) by simp] at md;show eM _=.ok (.tup [.str (nm 0),.int (((k+tn) % gz.length:Nat):Int)]) _;generalize (k+tn) % gz.length=m at *;unfold eM;exact aK
 let sl:=fun(k:Nat)=>sd gz ((k+tn) % gz.length);have c7:aU 1 (dC (af 6)) (aE 12) (VP.ret true) eN [.sh (Row ns (q1+2)),.sh (bF gz),fJ t3,fJ t4,.sh (.int gz.length),.sh (.int tn),.sh (Pg ((List.range gz.length).map pl)),.no,.no,.no,.no,.no]=.ok (.lst (((List.range gz.length).map sl).map T)) [.sh (Row ns (q1+2)),.sh (bF gz),fJ t3,fJ t4,.sh (.int gz.length),.sh (.int tn),.sh (Pg ((List.range gz.length).map pl)),.no,.no,.no,.no,.no]:=by refine iJ (fun(k:Nat)=>(pl k).d) (fun k=>T (sl k)) (List.range gz.length) (by simp[Fq,Function.comp_def]) (by simp;lia) (by simp[Function.comp_def]) fun k hk acc=>?_;have ib:=ck gz ((k+tn) % gz.length) (Nat.mod_lt _ T9);have i1:aq (pl k).d (.int 1)=some (.int (((k+tn) % gz.length:Nat))):=rfl;generalize (pl k).d=ld at *;rw[show sl k=sd gz ((k+tn) % gz.length) from rfl];generalize (k+tn) % gz.length=j at ib i1 ⊢;unfold eN;exact aK
 have nl:=noLs_T ((List.range gz.length).map sl);have v7:lb (aU 1 (dC (af 6)) (aE 12) (VP.ret true) eN) [.io (Row ns (q1+2)),.ow (bF gz),t3,t4,.sh (.int gz.length),.sh (.int tn),.ow (Pg ((List.range gz.length).map pl)),.no,.no,.no,.no,.no]=.ok (bF ((List.range gz.length).map sl)) [.io (Row ns (q1+2)),.ow (bF gz),t3,t4,.sh (.int gz.length),.sh (.int tn),.ow (Pg ((List.range gz.length).map pl)),.no,.no,.no,.no,.no]:=by rw[vQ];simp only[List.map_cons,List.map_nil,Q1m,wD,wF,FK];rw[c7,wC _ _ _ nl];rfl
 obtain⟨ix_,hix⟩:∃ix_:Nat,ix_=gz.length-1-tn:=⟨_,rfl⟩;have mi:oO (.int ((gz.length:Int)-1-tn)) (.int gz.length)=some (.int (ix_:Int)):=by rw[iS _ _ T9,Int.emod_eq_of_lt T9 T9];exact congrArg (fun z=>some (D.int z)) T9
 have G0:Gd gz ((List.range gz.length).map pl) ((List.range gz.length).map sl) ix_:=by
  have es:∀i,i<gz.length->sd ((List.range gz.length).map sl) i=sl i:=fun i hi=>by simp[sd,hi]
  refine⟨G9,fun i l hl r hr=>?_,fun i l hl=>?_,fun s hs=>?_,by simp;lia,?_,fun z=>?_⟩;obtain⟨k,_,rfl⟩:=List.mem_map.mp (Np hl);simp[pl,PL.ns] at hr;have hi:=(List.getElem?_eq_some_iff.mp hl).1;simp only[List.length_map,List.length_range] at hi;have:l=pl i:=by simpa[hi] using hl.symm
  subst this;rw[es i hi];exact⟨(i+tn) % gz.length,rfl,Nat.mod_lt _ T9,rfl⟩;obtain⟨k,hk,rfl⟩:=List.mem_map.mp hs;exact GX.at (Nat.mod_lt _ T9);rw[es _ T9];show (sd gz ((ix_+tn) % gz.length)).length=1;rw[show ix_+tn=gz.length-1 by lia,Nat.mod_eq_of_lt T9,Ki];rfl;have:=congrArg List.length z;rw[UR,GH,List.length_nil] at this;lia
 have Yf:((List.range gz.length).map pl).length<=3:=by simp;lia
 generalize ((List.range gz.length).map pl)=Z5 at *;generalize ((List.range gz.length).map sl)=ss0 at *;obtain⟨y,PZ,y0,y10⟩:=bU ns (q1+2) 10 T9;obtain⟨WN,ZG,Yi⟩:∃n:Nat,bj (.int 1) (.int y)=some (.int (n:Int))/\n<=10:=⟨(1+y).toNat,congrArg (fun z=>some (D.int z)) T9,T9⟩;have Y7:=qR WN T9;obtain⟨⟨q3,ls,ss⟩,t,⟨Yg,hG⟩,ht,L5⟩:=cV (g:=aE 2) (body:=fB) (fun(k:Nat)=>D.int k) (fun(s:Nat×List PL×List (List Int))(t:Sl×Sl×Sl×Sl)=>Fp ns gz gz.length tn ix_ s.2.1 s.2.2 s.1 t.1 t4 t.2.1 t.2.2.1 t.2.2.2) Q20 (List.range WN) (fun k s=>s.2.1.length<=3+k/\Gd gz s.2.1 s.2.2 ix_) (q1+3,Z5,ss0) (t3,.no,.no,.no) ⟨f3,rfl,rfl,rfl⟩ ⟨T9,G0⟩ (by intro i k hk s t ht hP;obtain⟨q,ls,ss⟩:=s;obtain⟨s2,s9,Gi,Bw⟩:=t;obtain⟨g2,g9,Ul,X0⟩:=ht;obtain⟨hl,hG⟩:=hP;dsimp only at g2 g9 Ul X0 hl hG;obtain⟨rfl,hk⟩:=fF hk;obtain⟨l,t,q',UQ,IT,IU,e,Zg,k9,ZZ,Z0⟩:=Tz ns gz GX T9 tn ix_ ls ss hG T9 q (.sh (.int k)) t4 s9 Gi Bw g9 Ul X0;refine⟨(q',ls++[l],ss++[t]),(.sh (.int k),UQ,IT,IU),⟨by simp;lia,Zg⟩,⟨rfl,k9,ZZ,Z0⟩,?_⟩;dsimp only;rw[bH,show aE 2 (.int (k:Int)) (Fp ns gz gz.length tn ix_ ls ss q s2 t4 s9 Gi Bw)=.ok () (Fp ns gz gz.length tn ix_ ls ss q (.sh (.int k)) t4 s9 Gi Bw) by simp[Fp,g2],az,e];rfl);obtain⟨s2,s9,Gi,Bw⟩:=t;simp only[List.length_range] at Yg;dsimp only[Fp] at Yg hG L5;have VJ:bF []=.lst []:=rfl;rw[VJ] at L;refine⟨ls,ss,gz,ix_,q3,?_,hG,GX,T9⟩;clear G0 hG GX Ka nl c7 Ki;unfold vq Cj;exact rn
theorem zX(xs:R4)(n:Nat)(hx:xs.length<=100)(hn:n<=100):vx [T xs,.int n]=.ok (Z (ahead xs n)) []:=by
 rw[vx,dh _ _ _ _ rfl];unfold CS;have er:uJ [.int ((n:Int)-xs.length)]=some ((List.range (n-xs.length)).map fun(k:Nat)=>.int k):=qQ _ _ T9 T9 T9;have hc:aU 1 (cH [m2 gJ (af 1) (m1 bp (af 0))]) (aE 2) (VP.ret true) fY [.sh (T xs),.sh (.int n)]=.ok (Z (List.replicate (n-xs.length) 1)) [.sh (T xs),.sh (.int n)]:=by rw[Lg (ds:=(List.range (n-xs.length)).map fun(k:Nat)=>.int k) (fun _=>.int 1)];congr 1;simp[Z,Function.comp_def,List.map_const'];simp[er];rfl;simp;lia;intro d _ acc;rfl
 have e2:bj (Z (List.replicate (n-xs.length) 1)) (Z xs)=some (Z (ahead xs n)):=by rw[K3];rfl;simp[eL];lia
 simp[hc,e2]
theorem Sa(one other:R4)(h1:one.length<=100)(h2:other.length<=100):oh [T one,T other]=.ok (Bk (meet one other)) []:=by
 rw[oh,dh _ _ _ _ rfl];have L:=lC (g:=cJ [4,5]) (body:=fC) (fun(p:Int×Int)=>D.tup [.int p.1,.int p.2]) (fun(s:R4)(t:Sl×Sl)=>[.sh (T one),.sh (T other),.sh (.int (max one.length other.length:Nat)),.ow (Z s),t.1,t.2]) l8 KG (pairs one other).reverse (fun k s=>s.length=k) [] (.no,.no) ⟨rfl,rfl⟩ rfl ?_;rw[sI] at L;have em:((max one.length other.length:Nat):Int)=max (one.length:Int) other.length:=Uk;have ez:mO [Z (ahead one (max one.length other.length)),Z (ahead other (max one.length other.length))]=some ((pairs one other).reverse.map fun p=>.tup [.int p.1,.int p.2]):=by rw[BI _ _ _ _ rfl rfl,kN]
 have o1:=zX one (max one.length other.length) h1 Uk;have o2:=zX other (max one.length other.length) h2 Uk;rw[em] at o1 o2;simp only[em] at L;unfold CF meet;rw[Mj] at L;by_cases q:(pairs one other).all (fun p=>qE p.1 p.2)=true;rw[Ge q] at L;obtain⟨_,t,_,L⟩:=L;rw[Ge q];simp only[List.nil_append] at L;simp[RT,o1,o2,ez,L,Bk,-List.map_reverse,-List.map_map];rw[FA];rw[UE q] at L;obtain⟨s',t,L⟩:=L;rw[UE q];simp[RT,o1,o2,ez,L,Bk,-List.map_reverse,-List.map_map];intro i p hp acc t ht hP;have hi:=(List.getElem?_eq_some_iff.mp hp).1;obtain⟨t4,t5⟩:=t;obtain⟨h4,h5⟩:=ht;dsimp only at h4 h5 hP;have e1:∀x:Int,gD (.int x) (Z acc)=some (Z (acc++[x])):=fun x=>BZ _ _ (by simp[pairs] at hi;omega);have x1:bH (cJ [4,5]) fC (.tup [.int p.1,.int p.2]) [.sh (T one),.sh (T other),.sh (.int (max one.length other.length:Nat)),.ow (Z acc),t4,t5]=if qE p.1 p.2 then .ok .nx [.sh (T one),.sh (T other),.sh (.int (max one.length other.length:Nat)),.ow (Z (acc++[pk p.1 p.2])),.sh (.int p.1),.sh (.int p.2)] else .ok (.rt .bC) [.sh (T one),.sh (T other),.sh (.int (max one.length other.length:Nat)),.ow (Z acc),.sh (.int p.1),.sh (.int p.2)]:=by
  have g6:cJ [4,5] (.tup [.int p.1,.int p.2]) [.sh (T one),.sh (T other),.sh (.int (max one.length other.length:Nat)),.ow (Z acc),t4,t5]=.ok () [.sh (T one),.sh (T other),.sh (.int (max one.length other.length:Nat)),.ow (Z acc),.sh (.int p.1),.sh (.int p.2)]:=by simp[h4,h5]
  have n1:=dk p.1 p.2;have n2:=dk p.1 1;have n3:=dk p.2 1;have n4:=jg p.1 1;have e2:qE p.1 p.2=(decide (p.1=1)||decide (p.2=1)||decide (p.1=p.2)):=by simp[qE,Bool.or_assoc]
  have e3:pk p.1 p.2=if decide (p.1=1)=true then p.2 else p.1:=by simp[pk]
  have Y4:=e1 p.1;have Y5:=e1 p.2;rw[e2,e3,bH,g6,az];clear e1 e2 e3 g6;generalize decide (p.1=1)=b1 at *;generalize decide (p.2=1)=b2 at *;generalize decide (p.1=p.2)=b3 at *;generalize (max one.length other.length:Nat)=mx at *;generalize T one=O1 at *;generalize T other=O2 at *;unfold fC;cases b1;cases b2;cases b3;exact aK;exact aK;cases b3<;>exact aK;cases b2<;>cases b3<;>exact aK
 unfold KG;dsimp only;rw[x1];by_cases q:qE p.1 p.2=true;rw[Ge q,Ge q];exact⟨by simp[hP],(_,_),⟨rfl,rfl⟩,rfl⟩;rw[UE q,UE q];exact⟨acc,(_,_),rfl⟩
theorem uu{s t m:R4}(h1:s.length<=100)(h2:t.length<=100)(e:meet s t=some m):oh [T s,T t]=.ok (T m) []:=by have:=Sa s t h1 h2;rwa [e] at this
theorem mN(s:R4)(k:Nat)(hk:k<s.length)(hl:s.length<=100):pY [T s,.int k]=.ok (T (wo s k)) []:=by have a2:bj (T (s.take k)) (T (s.drop (k+1)))=some (T (wo s k)):=fK _ _ (by simp[eL];omega);have c1:=sf s k Uk;have c2:=r8 s (k+1) Uk;rw[show (((k+1:Nat)):Int)=(k:Int)+1 by omega] at c2;unfold pY CT;exact rn
theorem nO(s:R4)(k:Nat)(x:Int)(hk:k<s.length)(hl:s.length<=100):sE [T s,.int k,.int x]=.ok (T (rep s k x)) []:=by have a1:bj (T (s.take k)) (.tup [.int x])=_:=fK (s.take k) [x] (by simp[eL];lia);have a2:=fK (s.take k++[x]) (s.drop (k+1)) (by simp[eL];lia);have c1:=sf s k T9;have c2:=r8 s (k+1) T9;rw[show (((k+1:Nat)):Int)=(k:Int)+1 by lia] at c2;rw[show s.take k++[x]++s.drop (k+1)=rep s k x by simp[rep]] at a2;unfold sE CA;exact rn
theorem IC(s:R4)(k:Nat)(x:Int)(hk:k<=s.length)(hl:s.length<=100):zj [T s,.int k,.int x]=.ok (T (pin s k x)) []:=by have a1:bj (T (s.take k)) (.tup [.int x])=_:=fK (s.take k) [x] (by simp[eL];lia);have a2:=fK (s.take k++[x]) (s.drop k) (by simp[eL];lia);have c1:=sf s k T9;have c2:=r8 s k T9;rw[show s.take k++[x]++s.drop k=pin s k x by simp[pin]] at a2;unfold zj Cy;exact rn
theorem fM(s:R4)(k:Nat)(hk:k<s.length):kW [T s,.int k]=.ok (.bl true) []:=by
 have e1:o6 (.int 0) (.int (k:Int))=some (.bl true):=by rw[gp,Ub T9]
 have e2:ltI (.int (k:Int)) (.int s.length)=some (.bl true):=by rw[lD,Ub T9]
 unfold kW B9;exact rn
theorem ly(s:R4)(k:Nat)(p:Int)(hk:k<s.length)(h0:0<=p)(h1:p<s.getD k 0):sr [T s,.int k,.int p]=.ok (.bl true) []:=by
 have e1:o6 (.int 0) (.int p)=some (.bl true):=by rw[gp,Ub h0]
 have e2:ltI (.int p) (.int (s.getD k 0))=some (.bl true):=by rw[lD,Ub h1]
 have hs:=fM s k hk;have i1:=ub s k hk;unfold sr B8;exact rn
theorem GS(d:Nat)(s:R4)(k:Nat)(hk:k<s.length)(hl:s.length<=100)(hd:d∈[19,21,22,23])(h0:s.getD k 0=0->d≠22/\d≠23):y7 [.str (nm d),T s,.int k]=.ok (T (wo s k)) []:=by
 have hs:=fM s k hk;have i1:=ub s k hk;have w:=mN s k hk hl;generalize s.getD k 0=z at *;unfold y7 B7;by_cases z0:z=0;have h1:=h0 z0;have i2:inD false (.str (nm d)) (.tup [.str (nm 22),.str (nm 23)])=some (.bl false):=by simp only[List.mem_cons,List.not_mem_nil,or_false] at hd;rcases hd with rfl|rfl|rfl|rfl;kernel_rfl!;kernel_rfl!;exact absurd rfl h1.1;exact absurd rfl h1.2
 exact rn;exact rn
theorem Iu(s:R4)(k:Nat)(y:Int)(hk:k<s.length)(hl:s.length<=100):zh [T s,.int k,T [y]]=.ok (T (rep s k y)) []:=by have hs:=fM s k hk;have w:=nO s k y hk hl;have ln:bp (T [y])=some (.int 1):=rfl;have i1:aq (T [y]) (.int 0)=some (.int y):=rfl;unfold zh Cv;exact rn
theorem Hj(s t:R4)(k:Nat)(hk:k<s.length)(hl:s.length<=100)(h1:s.length=t.length)(h2:wo s k=wo t k):y9 [T s,T t,.int k]=.ok (T (rep s k (s.getD k 0+t.getD k 0))) []:=by
 have hs:=fM s k hk;have w:=nO s k (s.getD k 0+t.getD k 0) hk hl;have w1:=mN s k hk hl;have w2:=mN t k T9 T9;have i1:=ub s k hk;have i2:=ub t k T9;have n1:dz (.int (s.length:Int)) (.int t.length)=some (.bl false):=by rw[dk,Ub T9];rfl
 have n2:dz (T (wo s k)) (T (wo t k))=some (.bl false):=by rw[zW,Ub h2];rfl
 unfold y9 Cc;exact rn
theorem Jt(s o:R4)(hl:s.length<=60)(h1:sortI o=oS s.length)(h2:o.length=s.length):zx [T s,T o]=.ok (T (o.map fun x=>s.getD x.toNat 0)) []:=by
 have e1:=Jg o T9;have e2:=Ht s.length T9;have e3:dz (Z (sortI o)) (Z (oS s.length))=some (.bl false):=by rw[Sh,Ub h1];rfl
 have c:aU 1 (dC (af 1)) (aE 2) (VP.ret true) eR [.sh (T s),.sh (T o)]=.ok (Z (o.map fun x=>s.getD x.toNat 0)) [.sh (T s),.sh (T o)]:=by refine iJ D.int (fun x=>D.int (s.getD x.toNat 0)) o aK T9 (by simp[Z,Function.comp_def]) fun x hx acc=>?_;obtain⟨j,rfl,hj⟩:=nR h1 hx;have ix:aq (T s) (.int j)=some (.int (s.getD (j:Int).toNat 0)):=fQ s j T9 T9;unfold eR;exact aK
 unfold zx CK;exact rn
theorem QE(s:R4)(k:Nat)(b st m:Int)(hk:k<s.length)(hl:s.length<=100)(jI:st≠0/\-3<=st/\st<=3)(hm:0<=m)(hp:0<m->(0<=b/\b<s.getD k 0)/\0<=b+st*(m-1)/\b+st*(m-1)<s.getD k 0):yZ [T s,.int k,.int b,.int st,.int m]=.ok (T (rep s k m)) []:=by have hs:=fM s k hk;have w:=nO s k m hk hl;have c1:¬st=0:=jI.1;have c2:¬m<0:=T9;unfold yZ B5;by_cases c3:0<m;have h:=hp c3;have p1:=ly s k b hk h.1.1 h.1.2;have p2:=ly s k _ hk h.2.1 h.2.2;have mu:=nI st (m-1) T9 T9;exact rn;exact rn
theorem Dd(s:R4)(k:Nat)(p:Int)(hk:k<s.length)(hl:s.length<=100)(h0:0<=p)(h1:p<s.getD k 0):y4 [T s,.int k,.int p]=.ok (T (wo s k)) []:=by have p1:=ly s k p hk h0 h1;have w:=mN s k hk hl;unfold y4 B6;exact rn
theorem O0{s t u m n:R4}(hs:s.length<=4)(ht:t.length<=4)(hu:u.length<=4)(e1:meet s t=some m)(e2:meet m u=some n):zw [T s,T t,T u]=.ok (T n) []:=by have ml:=gW e1;have m1:=uu T9 T9 e1;have m2:=uu T9 T9 e2;have n1:=Ew m;unfold zw CJ;exact rn
theorem tP(body:M Fl)(hb:body=dH)(xs:R4)(h:Sm xs)(d:D):∃t,loop (aE 2) body (xs.map .int) [.sh d,.sh (.int 1),.no]=.ok .nx [.sh d,.sh (.int (aV xs)),t]:=by subst hb;obtain⟨_,t,_,L⟩:=jk (g:=aE 2) (body:=dH) D.int (fun(s:Int)(t:Sl)=>[.sh d,.sh (.int s),t]) vB (fun _ _=>True) (fun p x=>p*x) xs 1 .no rfl trivial (by intro i x hx p t ht _;have hm:=h x (Np hx);have hf:free (some t)=true:=ht;refine⟨trivial,.sh (.int x),rfl,?_⟩;simp[bH,dH,hf,gX p x T9 T9]);rw[lI,Int.one_mul] at L;exact⟨t,L⟩
theorem jd(xs:R4)(h:Sm xs):pV [T xs]=.ok (.int (aV xs)) []:=by rw[pV,dh _ _ _ _ rfl];obtain⟨t,L⟩:=tP dH rfl xs h (T xs);simp[B4,L]
theorem GG(s:R4)(h:SI s):zo [T s]=.ok (.bl true) []:=by
 have hl:=h.1;have c:aU 1 (dC (af 0)) (aE 1) (VP.ret true) eP [.sh (T s)]=.ok (.lst (s.map fun x=>D.bl true)) [.sh (T s)]:=by
  refine iJ D.int (fun x=>D.bl true) s aK Uk rfl fun x hx acc=>?_;have hb:=h.2.1 x hx;have e1:o6 (.int 0) (.int x)=some (.bl true):=by rw[gp,Ub hb.1]
  have e2:o6 (.int x) (.int 64)=some (.bl true):=by rw[gp,Ub Uk]
  unfold eP;exact aK
 have e:oF true (.lst (s.map fun x=>D.bl true))=some (.bl true):=by rw[BW (fun _=>true) s];simp
 have hc:=jd s fun x hx=>by have:=h.2.1 x hx;omega
 have l4:¬(4:Int)<s.length:=Uk;have e4:o6 (.int (aV s)) (.int 4096)=some (.bl true):=by rw[gp,Ub (by have:=h.2.2;omega)]
 unfold zo CC;exact rn
theorem PL.PX(l:PL):oa [l.d]=.ok (bJ l.ns) []:=l.named
theorem D7{n:Nat}{G S:Nat->R4}{l:PL}{t:R4}(h:Told n G S l t):Dq [l.d]=.ok (.bl true) []:=by
 cases l with
 |one d a=>obtain⟨⟨h1,h2⟩,_⟩:=h;have:d=16\/d=17\/d=18:=T9;rcases this with rfl|rfl|rfl<;>kernel_rfl!
 |both d a b=>obtain⟨⟨h1,h2⟩,_⟩:=h;have:d=19\/d=20\/d=21\/d=22\/d=23\/d=24\/d=25:=T9;rcases this with rfl|rfl|rfl|rfl|rfl|rfl|rfl<;>kernel_rfl!
 |fold d a k=>obtain⟨_,_,_,h,_⟩:=h;simp only[List.mem_cons,List.not_mem_nil,or_false] at h;rcases h with rfl|rfl|rfl|rfl<;>kernel_rfl!
 |run d a k=>obtain⟨_,_,_,h,_⟩:=h;simp only[List.mem_cons,List.not_mem_nil,or_false] at h;rcases h with rfl|rfl|rfl|rfl<;>kernel_rfl!
 |_=>kernel_rfl!
theorem KD(x:Int)(h:Rt x):vo [.int x]=.ok (.bl true) []:=by
 have e1:o6 (.int 0) (.int x)=some (.bl true):=by rw[gp,Ub h.1]
 have e2:ltI (.int x) (.int 1000003)=some (.bl true):=by rw[lD,Ub h.2]
 unfold vo Cb;exact rn
theorem GJ{n:Nat}{G S:Nat->R4}{l:PL}{t:R4}(h:Told n G S l t):og [l.d]=.ok (.bl true) []:=by
 by_cases c1:l.k=1;cases l<;>simp only[PL.k] at c1<;>try lia
 rename_i s x;have r:=KD x h.2;show og [.tup [.str (nm 1),T s,.int x]]=_;unfold og u9;exact rn;by_cases c8:l.k=8;cases l<;>simp only[PL.k] at c8<;>try lia
 rename_i a k m x;obtain⟨_,_,_,hr,_⟩:=h;have r:=KD x hr;have ne:=WO 8 8 (by decide) (by decide);show og [.tup [.str (nm 8),.int a,.int k,.int m,.int x]]=_;unfold og u9;exact rn;have k1:=l.kind;have WA:=l.Mu;have e1:bG (.str (nm l.k)) (.str (nm 1))=some (.bl false):=by rw[BK _ _ T9 T9,Vy c1]
 have e2:dz (.str (nm l.k)) (.str (nm 8))=some (.bl true):=by rw[WO _ _ T9 T9,Vy c8];rfl
 generalize l.d=ld at *;unfold og u9;exact rn
theorem FD{n:Nat}{G S:Nat->R4}{l:PL}{t:R4}{m:Nat}(h:Told n G S l t)(hl:∀r∈l.ns,r<m):sD [l.d,.int m,.int n]=.ok (.bl true) []:=by
 by_cases c0:l.k=0;cases l<;>simp only[PL.k] at c0<;>try lia
 obtain⟨k,rfl,hk,_⟩:=h;have e1:o6 (.int 0) (.int (k:Int))=some (.bl true):=by rw[gp,Ub T9]
 have e2:ltI (.int (k:Int)) (.int n)=some (.bl true):=by rw[lD,Ub T9]
 show sD [.tup [.str (nm 0),.int (k:Int)],.int m,.int n]=_;unfold sD yO;exact rn;have k1:=l.kind;have WA:=l.Mu;have lf:=l.lu;have e1:bG (.str (nm l.k)) (.str (nm 0))=some (.bl false):=by rw[BK _ _ T9 T9,Vy c0]
 have nb:=l.PX;generalize l.d=ld at *;have c:aU 1 (dC (ax oa [.val (af 0)])) (aE 3) (VP.ret true) dc [.sh ld,.sh (.int m),.sh (.int n)]=.ok (.lst (l.ns.map fun _=>D.bl true)) [.sh ld,.sh (.int m),.sh (.int n)]:=by
  have sq:cy (bJ l.ns)=some (l.ns.map fun a=>D.int (a:Nat)):=rfl;refine iJ (fun a=>D.int (a:Nat)) (fun _=>D.bl true) l.ns aK T9 rfl fun a ha acc=>?_;have hb:=hl a ha;have e1:o6 (.int 0) (.int (a:Int))=some (.bl true):=by rw[gp,Ub T9]
  have e2:ltI (.int (a:Int)) (.int m)=some (.bl true):=by rw[lD,Ub T9]
  unfold dc;exact aK
 have e:oF true (.lst (l.ns.map fun _=>D.bl true))=some (.bl true):=by rw[BW (fun _=>true) l.ns];simp
 unfold sD yO;exact rn
theorem Jo{gs ss:WU}{l:PL}{t:R4}(h:Told gs.length (sd gs) (sd ss) l t)(hl:∀r∈l.ns,r<ss.length)(si:BR ss)(ht:SI t):eV [l.d,bF ss,bF gs]=.ok (T t) [bF ss]:=by
 have key:∀a,a∈l.ns->aq (bF ss) (.int (a:Int))=some (T (sd ss a))/\(sd ss a).length<=4/\SI (sd ss a):=fun a ha=>⟨ck ss a (hl a ha),(si.at (hl a ha)).1,si.at (hl a ha)⟩;have sm:∀s,SI s->Sm s:=fun s h x hx=>by have:=h.2.1 x hx;lia
 cases l<;>simp only[PL.ns,List.mem_cons,List.not_mem_nil,or_false,forall_eq_or_imp,forall_eq] at key<;>simp only[PL.d,PL.k,PL.ps];rename_i j;obtain⟨k,rfl,hk,rfl⟩:=h;have ib:=ck gs k hk;unfold eV fH;exact rn;rename_i s x;obtain⟨rfl,_⟩:=h;unfold eV fH;exact rn;rename_i a o;obtain⟨h1,h2,rfl⟩:=h;obtain⟨ia,il,_⟩:=key;have w:=Jt _ _ T9 h1 h2;have v:ir [.tup [.str (nm 2),.int a,T o],T (sd ss a)]=.ok (T (o.map fun x=>(sd ss a).getD x.toNat 0)) []:=by unfold ir n5;exact rn
 unfold eV fH;exact rn;rename_i a k b st m;obtain⟨j,rfl,hj,h1,h2,h3,rfl⟩:=h;obtain⟨ia,il,_⟩:=key;have w:=QE _ _ b st m hj T9 h1 h2 h3;have v:ir [.tup [.str (nm 3),.int a,.int (j:Int),.int b,.int st,.int m],T (sd ss a)]=.ok (T (rep (sd ss a) j m)) []:=by unfold ir n5;exact rn
 unfold eV fH;exact rn;rename_i a k p;obtain⟨j,rfl,hj,h1,rfl⟩:=h;obtain⟨ia,il,_⟩:=key;have w:=Dd _ _ p hj T9 h1.1 h1.2;have v:ir [.tup [.str (nm 4),.int a,.int (j:Int),.int p],T (sd ss a)]=.ok (T (wo (sd ss a) j)) []:=by unfold ir n5;exact rn
 unfold eV fH;exact rn;rename_i a k;obtain⟨j,rfl,hj,rfl⟩:=h;obtain⟨ia,il,_⟩:=key;have w:=IC (sd ss a) j 1 hj T9;have e1:o6 (.int 0) (.int (j:Int))=some (.bl true):=by rw[gp,Ub T9]
 have e2:o6 (.int (j:Int)) (.int (sd ss a).length)=some (.bl true):=by rw[gp,Ub T9]
 have v:ir [.tup [.str (nm 5),.int a,.int (j:Int)],T (sd ss a)]=.ok (T (pin (sd ss a) j 1)) []:=by unfold ir n5;exact rn
 unfold eV fH;exact rn;rename_i a u;obtain⟨h1,rfl⟩:=h;obtain⟨ia,il,_⟩:=key;have w:=uu T9 (by have:=ht.1;lia) h1;have e1:bG (T t) (T t)=some (.bl true):=by rw[Dg,Ub rfl]
 have v:ir [.tup [.str (nm 6),.int a,T t],T (sd ss a)]=.ok (T t) []:=by unfold ir n5;exact rn
 unfold eV fH;exact rn;rename_i a u;obtain⟨h1,rfl⟩:=h;obtain⟨ia,il,is⟩:=key;have w1:=jd _ (sm _ is);have w2:=jd _ (sm _ ht);have e1:bG (.int (aV (sd ss a))) (.int (aV t))=some (.bl true):=by rw[jg,Ub h1]
 have v:ir [.tup [.str (nm 7),.int a,T t],T (sd ss a)]=.ok (T t) []:=by unfold ir n5;exact rn
 unfold eV fH;exact rn;rename_i a k m x;obtain⟨j,rfl,hj,h1,rfl⟩:=h;obtain⟨ia,il,_⟩:=key;have w:=fM _ _ hj;unfold eV fH;exact rn;rename_i d a;obtain⟨_,rfl⟩:=h;obtain⟨ia,il,_⟩:=key;unfold eV fH;exact rn;rename_i d a b;obtain⟨_,h1⟩:=h;obtain⟨⟨ia,il,_⟩,ib,Uz,_⟩:=key;have w:=uu T9 T9 h1;unfold eV fH;exact rn;rename_i a b c;obtain⟨u,h1,h2⟩:=h;obtain⟨⟨ia,il,_⟩,⟨ib,Uz,_⟩,ic,ZW,_⟩:=key;have w:=O0 il Uz ZW h1 h2;unfold eV fH;exact rn;rename_i d a k;obtain⟨j,rfl,hj,h1,h2,rfl⟩:=h;obtain⟨ia,il,_⟩:=key;have w:=GS _ _ _ hj T9 h1 h2;unfold eV fH;exact rn;rename_i d a k;obtain⟨j,rfl,hj,h1,rfl⟩:=h;obtain⟨ia,il,_⟩:=key;have w:=fM _ _ hj;unfold eV fH;exact rn;rename_i a k b;obtain⟨j,y,rfl,hj,h1,rfl⟩:=h;obtain⟨⟨ia,il,_⟩,ib,Uz,_⟩:=key;rw[h1] at ib;have w:=Iu _ _ y hj T9;unfold eV fH;exact rn;rename_i a b k;obtain⟨j,rfl,hj,h1,h2,rfl⟩:=h;obtain⟨⟨ia,il,_⟩,ib,Uz,_⟩:=key;have w:=Hj _ _ _ hj T9 h1 h2;unfold eV fH;exact rn
theorem Hs{gs ss:WU}{l:PL}{t:R4}(i:Nat)(h:Told gs.length (sd gs) (sd ss) l t)(hl:∀r∈l.ns,r<ss.length)(si:BR ss)(ht:SI t):zq [.int i,l.d,bF ss,bF gs]=.ok (T t) [bF ss]:=by have e1:=FD h hl;have e2:=GJ h;have e3:=D7 h;have e4:=Jo h hl si ht;have e5:=GG t ht;have l1:=fR ss;have l2:=fR gs;have n1:=Ew t;generalize l.d=ld at *;unfold zq CD;exact rn
theorem wj(gs:WU)(ls:WH)(ss:WU)(ix_:Nat)(g:Gd gs ls ss ix_)(rk:ls.length<=14):zt [Pg ls,bF gs]=.ok (bF ss) []:=by
 have hn:=List.length_pos_iff.mpr g.ne;have R5:=g.len;have ln:=iu ls;have en:lY [Pg ls]=some ((List.range ls.length).map fun(i:Nat)=>D.tup [.int i,(cv ls i).d]):=by rw[<-tU];rfl
 obtain⟨s,t,hs,ht,L⟩:=cV (g:=cJ [3,4]) (body:=fT) (fun(i:Nat)=>D.tup [.int i,(cv ls i).d]) (fun(s:WU)(t:Sl×Sl)=>[.sh (Pg ls),.sh (bF gs),.ow (bF s),t.1,t.2]) l8 (List.range ls.length) (fun k s=>s=ss.take k) [] (.no,.no) ⟨rfl,rfl⟩ G9 (by
  intro i k hk s t ht hP;obtain⟨rfl,hk⟩:=fF hk;obtain⟨t3,t4⟩:=t;obtain⟨f3,f4⟩:=ht;dsimp only at f3 f4;subst hP;have hl:ls[k]?=some (cv ls k):=by simp[cv,hk]
  have tl:(ss.take k).length=k:=by simp;lia
  have es:∀r,r<k->sd (ss.take k) r=sd ss r:=fun r hr=>by simp[sd,hr]
  have lk:=Hs (ss:=ss.take k) k ((g.told k _ hl).mono fun r hr=>es r (g.wf k _ hl r hr)) (fun r hr=>by rw[tl];exact g.wf k _ hl r hr) (fun s hs=>g.si s (Nf hs)) (g.si.at T9);have ap:=K7 (ss.take k) (sd ss k) T9;rw[show ss.take k++[sd ss k]=ss.take (k+1) by
   have:sd ss k=ss[k]:=by simp[sd,show k<ss.length by lia]
   rw[this];simp] at ap
  generalize (cv ls k).d=ld at *;refine⟨ss.take (k+1),(.sh (.int k),.sh ld),rfl,⟨rfl,rfl⟩,?_⟩;have e:cJ [3,4] (.tup [.int (k:Int),ld]) [.sh (Pg ls),.sh (bF gs),.ow (bF (ss.take k)),t3,t4]=.ok () [.sh (Pg ls),.sh (bF gs),.ow (bF (ss.take k)),.sh (.int k),.sh ld]:=by simp[f3,f4]
  dsimp only;rw[bH,e,az,show fT _=.ok .nx _ by unfold fT;exact aK];rfl)
 obtain⟨t3,t4⟩:=t;subst hs;dsimp only at L;rw[GH,yj T9] at L;have VJ:bF []=.lst []:=rfl;rw[VJ] at L;have c1:¬(ls.length:Int)=0:=T9;have c2:¬(40:Int)<ls.length:=T9;unfold zt CG;exact rn
def pD(p:Int×Int×Int):D:=.tup [.int p.1,.int p.2.1,.int p.2.2]
def WD(w:WI):D:=.lst (w.map pD)
def Qk(m:Nat)(p:Int×Int×Int):Prop:=p.2.1=-1\/0<=p.2.1/\p.2.1<m
def uU(m n:Nat)(w:WI):Prop:=w.length=n/\∀p∈w,Qk m p
def qZ(x:Int):Int×Int×Int:=(x,-1,0)
theorem yu(m:Nat)(x:Int):Qk m (qZ x):=.inl rfl
theorem Q1n(w:WI):bp (WD w)=some (.int w.length):=by simp[WD]
theorem OI(w:WI):cy (WD w)=some (w.map pD):=rfl
theorem RW(w:WI):iR (WD w)=some (WD w):=rfl
theorem Wx(w:WI)(k:Nat)(p:Int×Int×Int)(h:w[k]?=some p):aq (WD w) (.int (k:Int))=some (pD p):=by unfold WD;rw[iQ];exact j4 _ _ _ T9 (by simp[h])
theorem S8(w:WI)(k:Nat)(p:Int×Int×Int)(h:k<w.length):setAt (.int (k:Int)) (pD p) (WD w)=some (WD (w.set k p)):=by unfold WD;rw[kK _ _ _ T9 (by simp;lia),BA,List.map_set]
theorem addW(v w:WI)(h:v.length+w.length<=1000):bj (WD v) (WD w)=some (WD (v++w)):=by unfold WD;rw[pH _ _ (by simp[eL];lia),E3]
theorem J0(w:WI)(k:Nat)(h:k<=w.length):eU (WD w) none (some (k:Int))=some (WD (w.take k)):=by unfold WD;rw[vh,cutD,UR,mG _ _ _ h,ki];simp
theorem C3(w:WI)(k:Nat)(h:k<=w.length):eU (WD w) (some (k:Int)) none=some (WD (w.drop k)):=by unfold WD;rw[vh,cutD,UR,mG _ _ _ h,ki,yj G9];simp
theorem wt(n:Nat)(h:n<=100):∃w,pX [.int n]=.ok (WD w) []/\uU n n w:=by
 have er:=qR n T9;have c:aU 1 (cH [(af 0)]) (aE 1) (VP.ret true) df [.sh (.int n)]=.ok (WD ((List.range n).map fun(k:Nat)=>((0:Int),(k:Int),(1:Int)))) [.sh (.int n)]:=by refine iJ (fun(k:Nat)=>D.int k) (fun k=>pD (0,(k:Int),1)) (List.range n) aK (by simp;lia) (by simp[WD,Function.comp_def]) fun k hk acc=>?_;show df _=.ok (.tup [.int 0,.int (k:Int),.int 1]) _;unfold df;exact aK
 refine⟨(List.range n).map fun(k:Nat)=>((0:Int),(k:Int),(1:Int)),?_,G9,fun p hp=>?_⟩;generalize (List.range n).map (fun(k:Nat)=>((0:Int),(k:Int),(1:Int)))=w at c;unfold pX CH;exact rn;obtain⟨k,hk,rfl⟩:=List.mem_map.mp hp;have:=List.mem_range.mp hk;exact .inr ⟨G9,by simp;lia⟩
theorem qX(x:Int):sC [.int x]=.ok (pD (qZ x)) []:=by show _=FR.ok (.tup [.int x,.int (-1),.int 0]) _;unfold sC Cu;exact rn
theorem Q1J(m:Nat)(p:Int×Int×Int)(b st:Int)(h:-(2 ^ 64)<st)(h2:st<2 ^ 64)(hp:Qk m p):∃p',sA [pD p,.int b,.int st]=.ok (pD p') []/\Qk m p':=by obtain⟨x,y,z⟩:=p;have m1:=nI st x h h2;have m2:=nI st z h h2;have s1:=qX (b+st*x);show ∃p',sA [.tup [.int x,.int y,.int z],.int b,.int st]=_/\_;by_cases c:st*z=0;exact⟨qZ (b+st*x),by unfold sA yN;exact rn,yu _ _⟩;refine⟨(b+st*x,y,st*z),?_,hp⟩;show _=FR.ok (.tup [.int (b+st*x),.int y,.int (st*z)]) _;unfold sA yN;exact rn
theorem moved(m n:Nat)(w:WI)(k:Nat)(b st:Int)(h:-(2 ^ 64)<st)(h2:st<2 ^ 64)(hk:k<n)(hw:uU m n w):∃w',sG [WD w,.int k,.int b,.int st]=.ok (WD w') []/\uU m n w':=by obtain⟨hl,hp⟩:=hw;obtain⟨p,Yl⟩:∃p,w[k]?=some p:=⟨_,QR T9⟩;obtain⟨p',e,ok⟩:=Q1J m p b st h h2 (hp p (Np Yl));have i1:=Wx w k p Yl;have l1:=RW w;have s1:=S8 w k p' T9;have il:isLst (some (WD w))=true:=rfl;refine⟨w.set k p',by unfold sG CN;exact rn,by simp[hl],fun x hx=>?_⟩;rcases List.mem_or_eq_of_mem_set hx with hx|rfl;exact hp x hx;exact ok
theorem turned(m n:Nat)(w:WI)(o:R4)(hw:uU m n w)(ho:∀x∈o,∃j:Nat,x=j/\j<n):∃w',zB [WD w,T o]=.ok (WD w') []/\uU m n w':=by
 have l1:=RW w;have ez:mO [T o,WD w]=some ((o.zip w).map fun q=>.tup [.int q.1,pD q.2]):=by
  have h:∀(o:R4)(w:WI),List.zipWith (fun x y=>D.tup [x,y]) (o.map D.int) (w.map pD)=(o.zip w).map fun q=>.tup [.int q.1,pD q.2]:=by intro o;induction o with|nil=>intro w;rfl|cons x o ih=>intro w;cases w with|nil=>rfl|cons p w=>simp[ih]
  simp only[mO,uL,OI,h]
 obtain⟨w',t,hP,ht,L⟩:=cV (g:=cJ [3,4]) (body:=dQ) (fun(q:Int×Int×Int×Int)=>D.tup [.int q.1,pD q.2]) (fun(v:WI)(t:Sl×Sl)=>[.sh (WD w),.sh (T o),.ow (WD v),t.1,t.2]) l8 (o.zip w) (fun _ v=>uU m n v) w (.no,.no) ⟨rfl,rfl⟩ hw (by
  intro i q hq v t ht hP;obtain⟨t3,t4⟩:=t;obtain⟨f3,f4⟩:=ht;dsimp only at f3 f4;have hm:=Np hq;obtain⟨x,p⟩:=q;obtain⟨j,rfl,hj⟩:=ho x (Vk hm).1;have s1:=S8 v j p (by rw[hP.1];exact hj);have il:isLst (some (WD v))=true:=rfl;refine⟨v.set j p,(.sh (.int j),.sh (pD p)),⟨by simp[hP.1],fun y hy=>?_⟩,⟨rfl,rfl⟩,?_⟩;rcases List.mem_or_eq_of_mem_set hy with hy|rfl;exact hP.2 y hy;exact hw.2 _ (Vk hm).2;have e:cJ [3,4] (.tup [.int (j:Int),pD p]) [.sh (WD w),.sh (T o),.ow (WD v),t3,t4]=.ok () [.sh (WD w),.sh (T o),.ow (WD v),.sh (.int j),.sh (pD p)]:=by simp[f3,f4]
  dsimp only;rw[bH,e,az,show dQ _=.ok .nx _ by unfold dQ;exact aK];rfl)
 exact⟨w',by unfold zB CP;exact rn,hP⟩
theorem dropped(m n:Nat)(w:WI)(k:Nat)(x:Int)(hk:k<=n)(hn:n<=100)(hw:uU m n w):∃w',zy [WD w,.int k,.int x]=.ok (WD w') []/\uU m (n+1) w':=by obtain⟨hl,hp⟩:=hw;have c1:=J0 w k T9;have c2:=C3 w k T9;have s1:=qX x;have a1:bj (WD (w.take k)) (.lst [pD (qZ x)])=some (WD (w.take k++[qZ x])):=addW (w.take k) [qZ x] (by simp;lia);have a2:=addW (w.take k++[qZ x]) (w.drop k) (by simp;lia);refine⟨_,by unfold zy CM;exact rn,by simp;lia,fun p h=>?_⟩;rcases List.mem_append.mp h with h|h;rcases List.mem_append.mp h with h|h;exact hp p (Nf h);rw[List.mem_singleton.mp h];exact yu _ _;exact hp p (Ju h)
theorem JD(m n:Nat)(w:WI)(k:Nat)(hk:k<n)(hn:n<=100)(hw:uU m n w):∃w',zC [WD w,.int k]=.ok (WD w') []/\uU m (n-1) w':=by obtain⟨hl,hp⟩:=hw;have c1:=J0 w k T9;have c2:=C3 w (k+1) T9;rw[show (((k+1:Nat)):Int)=(k:Int)+1 by lia] at c2;have a2:=addW (w.take k) (w.drop (k+1)) (by simp;lia);refine⟨_,by unfold zC CQ;exact rn,by simp;lia,fun p h=>?_⟩;rcases List.mem_append.mp h with h|h;exact hp p (Nf h);exact hp p (Ju h)
theorem Jh(m n:Nat)(w:WI)(s:R4)(hk:s.length<=n)(hn:n<=100)(hw:uU m n w):∃w',zA [WD w,T s]=.ok (WD w') []/\uU m s.length w':=by
 obtain⟨hl,hp⟩:=hw;have c1:=C3 w (w.length-s.length) Uk;rw[show (((w.length-s.length:Nat)):Int)=(w.length:Int)-s.length by omega] at c1;have l1:=Q1n w;have dl:(w.drop (w.length-s.length)).length=s.length:=by simp;omega
 have dp:∀p∈w.drop (w.length-s.length),Qk m p:=fun p h=>hp p (Ju h);generalize w.drop (w.length-s.length)=v at *;have ez:mO [T s,WD v]=some ((s.zip v).map fun q=>.tup [.int q.1,pD q.2]):=by
  have h:∀(o:R4)(w:WI),List.zipWith (fun x y=>D.tup [x,y]) (o.map D.int) (w.map pD)=(o.zip w).map fun q=>.tup [.int q.1,pD q.2]:=by intro o;induction o with|nil=>intro w;rfl|cons x o ih=>intro w;cases w with|nil=>rfl|cons p w=>simp[ih]
  simp only[mO,uL,OI,h]
 have s1:=qX 0;have c:aU 2 (qv [(af 1),(af 2)]) (cJ [3,4]) (VP.ret true) gn [.sh (WD w),.sh (T s),.sh (WD v)]=.ok (WD ((s.zip v).map fun q=>if q.1=1 then qZ 0 else q.2)) [.sh (WD w),.sh (T s),.sh (WD v)]:=by refine Lj (fun q:Int×Int×Int×Int=>D.int q.1) (fun q=>pD q.2) (fun q=>pD (if q.1=1 then qZ 0 else q.2)) (s.zip v) aK (by simp;omega) (by simp[WD,Function.comp_def]) fun q hq acc=>?_;obtain⟨x,p⟩:=q;dsimp only;unfold gn;by_cases h:x=1;rw[Ge h];exact aK;rw[UE h];exact aK
 refine⟨(s.zip v).map fun q=>if q.1=1 then qZ 0 else q.2,?_,by simp;omega,fun p h=>?_⟩;generalize ((s.zip v).map fun q=>if q.1=1 then qZ 0 else q.2)=u at c;unfold zA CO;exact rn;obtain⟨q,hq,rfl⟩:=List.mem_map.mp h;split;exact yu _ _;exact dp _ (Vk hq).2
theorem Q2p(s:R4)(h:SI s):∃xs,zv [T s]=.ok (T xs) []/\∀y∈xs,0<=y/\y<=16777216:=by
 have hl:=h.1;obtain⟨⟨xs,st⟩,t,⟨h1,h2,h3⟩,ht,L⟩:=cV (g:=aE 3) (body:=dP) D.int (fun(s':List Int×Int)(t:Sl)=>[.sh (T s),.ow (Z s'.1),.sh (.int s'.2),t]) vB s.reverse (fun k s'=>s'.1.length=k/\(0<=s'.2/\s'.2<=64 ^ k)/\∀y∈s'.1,0<=y/\y<=16777216) ([],1) .no rfl ⟨rfl,G9,fun y hy=>by cases hy⟩ (by
  intro i y hy s' t ht hP;obtain⟨xs,st⟩:=s';obtain⟨p1,p2,p3⟩:=hP;dsimp only at p1 p2 p3;have hm:=h.2.1 y (List.mem_reverse.mp (Np hy));have hi:=(List.getElem?_eq_some_iff.mp hy).1;simp at hi;have hf:free (some t)=true:=ht;have p4:=v5 (n:=i) T9;have ap:=BZ xs st T9;have mu:=gX st y T9 T9;refine⟨(xs++[st],st*y),.sh (.int y),⟨by simp[p1],⟨W2 p2.1 hm.1,?_⟩,fun z hz=>?_⟩,rfl,?_⟩;show st*y<=64 ^ (i+1);rw[Int.pow_succ];exact Int.mul_le_mul p2.2 T9 hm.1 T9;rcases List.mem_append.mp hz with hz|hz;exact p3 z hz;rw[List.mem_singleton.mp hz];lia;have e:aE 3 (.int y) [.sh (T s),.ow (Z xs),.sh (.int st),t]=.ok () [.sh (T s),.ow (Z xs),.sh (.int st),.sh (.int y)]:=by simp[hf]
  dsimp only;rw[bH,e,az,show dP _=.ok .nx _ by unfold dP;exact aK];rfl)
 dsimp only at L h3;have e1:(cy (T s)).map List.reverse=some (s.reverse.map D.int):=G9;have e2:rK (Z xs)=some (T xs.reverse):=OC xs;have z0:Z []=.lst []:=rfl;rw[z0] at L;exact⟨xs.reverse,by unfold zv CI;exact rn,fun y hy=>h3 y (List.mem_reverse.mp hy)⟩
theorem Fd(m n:Nat)(w:WI)(xs:R4)(hw:uU m n w)(hm:m<=100)(hx:∀y∈xs,0<=y/\y<=16777216):∃(a:Int)(ys:R4),zk [WD w,T xs,.int m]=.ok (.tup [.int a,T ys]) []:=by
 have er:=qR m T9;have c:aU 1 (cH [(af 2)]) (aE 7) (VP.ret true) gj [.sh (WD w),.sh (T xs),.sh (.int m),.sh (.int 0),.no,.no,.no]=.ok (Z (List.replicate m 0)) [.sh (WD w),.sh (T xs),.sh (.int m),.sh (.int 0),.no,.no,.no]:=by refine iJ (fun(k:Nat)=>D.int k) (fun _=>D.int 0) (List.range m) aK (by simp;lia) (by simp[Z,List.map_const']) fun k hk acc=>?_;unfold gj;exact aK
 have ez:mO [WD w,T xs]=some ((w.zip xs).map fun q=>.tup [pD q.1,.int q.2]):=by
  have h:∀(w:WI)(o:R4),List.zipWith (fun x y=>D.tup [x,y]) (w.map pD) (o.map D.int)=(w.zip o).map fun q=>.tup [pD q.1,.int q.2]:=by intro w;induction w with|nil=>intro o;rfl|cons x o ih=>intro w;cases w with|nil=>rfl|cons p w=>simp[ih]
  simp only[mO,uL,OI,h]
 obtain⟨⟨a,ys⟩,t,hP,ht,L⟩:=cV (g:=cJ [5,6]) (body:=cn) (fun(q:(Int×Int×Int)×Int)=>D.tup [pD q.1,.int q.2]) (fun(s:Int×List Int)(t:Sl×Sl)=>[.sh (WD w),.sh (T xs),.sh (.int m),.sh (.int s.1),.ow (Z s.2),t.1,t.2]) l8 (w.zip xs) (fun _ s=>s.2.length=m) (0,List.replicate m 0) (.no,.no) ⟨rfl,rfl⟩ G9 (by
  intro i q hq s t ht hP;obtain⟨t3,t4⟩:=t;obtain⟨f3,f4⟩:=ht;obtain⟨a,ys⟩:=s;dsimp only at f3 f4 hP;have DJ:=Np hq;obtain⟨⟨x,y,z⟩,v⟩:=q;have hv:=hx v (Vk DJ).2;have hp:=hw.2 _ (Vk DJ).1;have m1:=gX x v T9 T9;have m2:=gX z v T9 T9;have e:cJ [5,6] (.tup [pD (x,y,z),.int v]) [.sh (WD w),.sh (T xs),.sh (.int m),.sh (.int a),.ow (Z ys),t3,t4]=.ok () [.sh (WD w),.sh (T xs),.sh (.int m),.sh (.int a),.ow (Z ys),.sh (.tup [.int x,.int y,.int z]),.sh (.int v)]:=by simp[f3,f4,pD]
  have il:isLst (some (Z ys))=true:=rfl;by_cases h:y=-1;have ne:dz (.int y) (.int (-1))=some (.bl false):=by rw[dk,Ub h];rfl
  refine⟨(a+x*v,ys),(.sh (.tup [.int x,.int y,.int z]),.sh (.int v)),hP,⟨rfl,rfl⟩,?_⟩;dsimp only;rw[bH,e,az,show cn _=.ok .nx _ by unfold cn;exact aK];rfl;have ne:dz (.int y) (.int (-1))=some (.bl true):=by rw[dk,Vy h];rfl
  have hy:0<=y/\y<m:=by rcases hp with hp|hp;exact absurd hp h;exact hp
  have ix:aq (Z ys) (.int y)=some (.int (ys.getD y.toNat 0)):=fQ ys y hy.1 T9;have st:=uM ys y (ys.getD y.toNat 0+z*v) hy.1 T9;refine⟨(a+x*v,ys.set y.toNat (ys.getD y.toNat 0+z*v)),(.sh (.tup [.int x,.int y,.int z]),.sh (.int v)),by simp[hP],⟨rfl,rfl⟩,?_⟩;dsimp only;rw[bH,e,az,show cn _=.ok .nx _ by unfold cn;exact aK];rfl)
 exact⟨a,ys,by unfold zk Cz;exact rn⟩
inductive Tr where
 |m9 (x:Int)|read (at_:Nat) (a:Int) (ys:R4)|one (d:Nat) (t:Tr)|both (d:Nat) (l r:Tr)|hW (a l r:Tr)|within (p:Int×Int×Int) (z:Int) (t:Tr) (x:Int)|joined (p:Int×Int×Int) (z:Int) (l r:Tr)
def Tr.d:Tr->D|.m9 x=>.ins "Even" ["number"] [.int x]|.read n a ys=>.ins "Read" ["line","start","steps"] [.int n,.int a,T ys]|.one d t=>.ins "One" ["deed","inner"] [.str (nm d),t.d]|.both d l r=>.ins "Both" ["deed","left","right"] [.str (nm d),l.d,r.d]|.hW a l r=>.ins "Where" ["asked","left","right"] [a.d,l.d,r.d]|.within p z t x=>.ins "Within" ["part","size","inner","number"] [pD p,.int z,t.d,.int x]|.joined p z l r=>.ins "Joined" ["part","size","ahead","behind"] [pD p,.int z,l.d,r.d]
def Tr.rs:Tr->List Nat|.m9 _=>[]|.read n _ _=>[n]|.one _ t=>t.rs|.both _ l r=>l.rs++r.rs|.hW a l r=>a.rs++l.rs++r.rs|.within _ _ t _=>t.rs|.joined _ _ l r=>l.rs++r.rs
def Tr.dep:Tr->Nat|.m9 _=>1|.read _ _ _=>1|.one _ t=>t.dep+1|.both _ l r=>max l.dep r.dep+1|.hW a l r=>max a.dep (max l.dep r.dep)+1|.within _ _ t _=>t.dep+1|.joined _ _ l r=>max l.dep r.dep+1
theorem Mc(x:D):Ls [.ins "Even" [] [],x]=.ok .bC [.ins "Even" ["number"] [x]]:=UC
theorem Mi(x y z:D):Dk [.ins "Read" [] [],x,y,z]=.ok .bC [.ins "Read" ["line","start","steps"] [x,y,z]]:=UC
theorem Q1l(x y:D):Ly [.ins "One" [] [],x,y]=.ok .bC [.ins "One" ["deed","inner"] [x,y]]:=UC
theorem Mb(x y z:D):Lr [.ins "Both" [] [],x,y,z]=.ok .bC [.ins "Both" ["deed","left","right"] [x,y,z]]:=UC
theorem Q2R(x y z:D):Dn [.ins "Where" [] [],x,y,z]=.ok .bC [.ins "Where" ["asked","left","right"] [x,y,z]]:=UC
theorem DP(x y z u:D):Dp [.ins "Within" [] [],x,y,z,u]=.ok .bC [.ins "Within" ["part","size","inner","number"] [x,y,z,u]]:=UC
theorem DO(x y z u:D):Lw [.ins "Joined" [] [],x,y,z,u]=.ok .bC [.ins "Joined" ["part","size","ahead","behind"] [x,y,z,u]]:=UC
def Wv(ls:WH)(ss:WU)(kp:WK)(m:Nat):D:=.ins "Weaver" ["program","sides","kept","many"] [Pg ls,bF ss,eJ kp,.int m]
section
variable(ls:WH)(ss:WU)(kp:WK)(m:Nat)
theorem Xx:aZ ji "program" (Wv ls ss kp m)=some (Pg ls):=UC
theorem Ph:aZ cu "sides" (Wv ls ss kp m)=some (bF ss):=UC
theorem Xv:aZ oY "kept" (Wv ls ss kp m)=some (eJ kp):=UC
theorem Xw:aZ oZ "many" (Wv ls ss kp m)=some (.int m):=UC
theorem TK:jE "Weaver" "row_read" (Wv ls ss kp m)=true:=UC
theorem TL:jE "Weaver" "tree_made" (Wv ls ss kp m)=true:=UC
theorem FL:jE "Weaver" "tree_named" (Wv ls ss kp m)=true:=UC
theorem TM:jE "Weaver" "tree_spread" (Wv ls ss kp m)=true:=UC
theorem Xs:jE "Weaver" "tree_shifted" (Wv ls ss kp m)=true:=UC
theorem Q0s:jE "Weaver" "tree_joined" (Wv ls ss kp m)=true:=UC
theorem Xu:jE "Weaver" "tree_viewed" (Wv ls ss kp m)=true:=UC
theorem Pf:yX [.ins "Weaver" [] [],Pg ls,bF ss,eJ kp,.int m]=.ok .bC [Wv ls ss kp m]:=UC
theorem row_read(at_ n:Nat)(w:WI)(s:R4)(hs:SI s)(hw:uU m n w)(hm:m<=100):∃a ys,vn [Wv ls ss kp m,.int at_,WD w,T s]=.ok (Tr.read at_ a ys).d []:=by obtain⟨xs,e1,hx⟩:=Q2p s hs;obtain⟨a,ys,e2⟩:=Fd m n w xs hw hm hx;have e3:=Xw ls ss kp m;have e4:=Mi (.int at_) (.int a) (T ys);have p1:=LG (.int a) (T ys);have p2:=Je (.int a) (T ys);refine⟨a,ys,?_⟩;unfold Tr.d vn B3;generalize Wv ls ss kp m=W at *;exact rn
inductive tH(ls:WH)(kp:WK):Nat->Nat->Prop where
 |self {a:Nat} (h:kp[a]?=some true):tH ls kp a a|step {a b r:Nat} (h:kp[a]?=some false) (hb:b∈fE ls a) (hr:tH ls kp b r):tH ls kp a r
theorem tH.kept{ls:WH}{kp:WK}{a r:Nat}(h:kp[a]?=some true):tH ls kp a r<->r=a:=by
 constructor;intro z;cases z with|self _=>rfl|step h2=>rw[h] at h2;cases h2
 rintro rfl;exact .self h
def FU(ls:WH)(kp:WK)(a r:Nat):Prop:=∃b∈fE ls a,tH ls kp b r
structure Kp(ls:WH)(kp:WK):Prop where
 len:kp.length=ls.length
 k4:∀i,oV ls i->kd ls i∈[0,12,13,14]->kp[i]?=some true
 k2:∀i,oV ls i->kd ls i∈[7,14]->∀a∈fE ls i,kp[a]?=some true
 last:kp[ls.length-1]?=some true
 want:∀i,kp[i]?=some true->oV ls i
def oU(n at_:Nat):Prop:=∀(m:Nat)(w:WI),uU m (sd ss at_).length w->m<=100->∃t:Tr,eI n 0 [Wv ls ss kp m,.int at_,WD w]=.ok t.d []/\t.dep<=at_+1/\∀r,r∈t.rs<->tH ls kp at_ r
end
section
variable{gs:WU}{ls:WH}{ss:WU}{ix_:Nat}(g:Gd gs ls ss ix_){kp:WK}(K:Kp ls kp)
theorem mj{i:Nat}(h:i<ls.length):ls[i]?=some (cv ls i):=by simp[cv,h]
include g
theorem uQ{i:Nat}(h:i<ls.length):Told gs.length (sd gs) (sd ss) (cv ls i) (sd ss i):=g.told i _ (mj h)
theorem oC{i:Nat}(h:i<ls.length):SI (sd ss i):=g.si.at (by have:=g.len;lia)
theorem qw{i b:Nat}(h:i<ls.length)(hb:b∈fE ls i):b<i:=g.wf i _ (mj h) b hb
theorem gL{n a k:Nat}(ha:a<ls.length)(N:oU ls ss kp n a)(m:Nat)(w:WI)(hw:uU m k w)(hk:(sd ss a).length<=k)(V4:k<=100)(hm:m<=100):∃t:Tr,eI (n+1) 3 [Wv ls ss kp m,.int a,WD w]=.ok t.d []/\t.dep<=a+1/\∀r,r∈t.rs<->tH ls kp a r:=by obtain⟨w',e,vI⟩:=Jh m k w (sd ss a) hk V4 hw;obtain⟨t,et,h1,h2⟩:=N m w' vI hm;refine⟨t,?_,h1,h2⟩;have f1:=Ph ls ss kp m;have f2:=FL ls ss kp m;have ia:=ck ss a (by have:=g.len;lia);show defn 3 [false,false,false] (yL (eI n)) _=_;generalize Wv ls ss kp m=W at *;generalize t.d=td at *;generalize eI n=wf at *;unfold yL;exact rn
def KY(ls:WH)(ss:WU)(kp:WK)(n at_:Nat):Prop:=∀(m:Nat)(w:WI),uU m (sd ss at_).length w->m<=100->∃t:Tr,eI n 1 [Wv ls ss kp m,.int at_,WD w]=.ok t.d []/\t.dep<=at_+1/\∀r,r∈t.rs<->FU ls kp at_ r
theorem Jz{n at_ a:Nat}(l:PL)(hl:cv ls at_=l)(oj:at_<ls.length)(hk:l.k=2\/l.k=3\/l.k=4\/l.k=5\/l.k=6)(ha:l.ns=[a])(N:∀n',n<=n'->oU ls ss kp n' a)(m:Nat)(w:WI)(hw:uU m (sd ss at_).length w)(hm:m<=100):∃t:Tr,eI (n+2) 2 [Wv ls ss kp m,l.d,WD w]=.ok t.d []/\t.dep<=a+1/\∀r,r∈t.rs<->tH ls kp a r:=by
 have hT:=uQ g oj;rw[hl] at hT;have hA:a<ls.length:=by have:=qw g oj (b:=a) (by unfold fE;rw[hl,ha];simp);lia
 have sl:=(oC g oj).1;have sa:=(oC g hA).1;have f2:=FL ls ss kp m;have f4:=TM ls ss kp m;cases l with|turn a' o=>simp only[PL.ns,List.cons.injEq,and_true] at ha;subst ha;obtain⟨h1,h2,h3⟩:=hT;rw[h3] at hw;simp only[List.length_map,h2] at hw;obtain⟨w',e,vI⟩:=turned m _ w o hw fun x hx=>nR h1 hx;obtain⟨t,et,t1,t2⟩:=N (n+1) T9 m w' vI hm;refine⟨t,?_,t1,t2⟩;show defn 4 [false,false,false] (jy (eI (n+1))) [_,.tup [.str (nm 2),.int a',T o],_]=_;generalize Wv ls ss kp m=W at *;generalize t.d=td at *;generalize eI (n+1)=wf at *;unfold jy;exact rn|cut a' k b st mm=>simp only[PL.ns,List.cons.injEq,and_true] at ha;subst ha;obtain⟨j,rfl,hj,h1,_,_,h3⟩:=hT;rw[h3] at hw;rw[show (rep (sd ss a') j mm).length=(sd ss a').length by simp[rep];lia] at hw;obtain⟨w',e,vI⟩:=moved m _ w j b st T9 T9 hj hw;obtain⟨t,et,t1,t2⟩:=N (n+1) T9 m w' vI hm;refine⟨t,?_,t1,t2⟩;show defn 4 [false,false,false] (jy (eI (n+1))) [_,.tup [.str (nm 3),.int a',.int j,.int b,.int st,.int mm],_]=_;generalize Wv ls ss kp m=W at *;generalize t.d=td at *;generalize eI (n+1)=wf at *;unfold jy;exact rn|drop a' k p=>simp only[PL.ns,List.cons.injEq,and_true] at ha;subst ha;obtain⟨j,rfl,hj,_,h3⟩:=hT;rw[h3] at hw;obtain⟨w',e,vI⟩:=dropped m _ w j p (by simp[wo];lia) (by simp[wo];lia) hw;rw[show (wo (sd ss a') j).length+1=(sd ss a').length by simp[wo];lia] at vI;obtain⟨t,et,t1,t2⟩:=N (n+1) T9 m w' vI hm;refine⟨t,?_,t1,t2⟩;show defn 4 [false,false,false] (jy (eI (n+1))) [_,.tup [.str (nm 4),.int a',.int j,.int p],_]=_;generalize Wv ls ss kp m=W at *;generalize t.d=td at *;generalize eI (n+1)=wf at *;unfold jy;exact rn|wide a' k=>simp only[PL.ns,List.cons.injEq,and_true] at ha;subst ha;obtain⟨j,rfl,hj,h3⟩:=hT;rw[h3] at hw;obtain⟨w',e,vI⟩:=JD m _ w j (by simp[pin];lia) (by simp[pin];lia) hw;rw[show (pin (sd ss a') j 1).length-1=(sd ss a').length by simp[pin];lia] at vI;obtain⟨t,et,t1,t2⟩:=N (n+1) T9 m w' vI hm;refine⟨t,?_,t1,t2⟩;show defn 4 [false,false,false] (jy (eI (n+1))) [_,.tup [.str (nm 5),.int a',.int j],_]=_;generalize Wv ls ss kp m=W at *;generalize t.d=td at *;generalize eI (n+1)=wf at *;unfold jy;exact rn|spread a' u=>simp only[PL.ns,List.cons.injEq,and_true] at ha;subst ha;obtain⟨h1,h3⟩:=hT;have ml:=gW h1;rw[h3] at hw;obtain⟨t,et,t1,t2⟩:=gL g hA (N n T9) m w hw T9 (by rw[<-h3];lia) hm;refine⟨t,?_,t1,t2⟩;show defn 4 [false,false,false] (jy (eI (n+1))) [_,.tup [.str (nm 6),.int a',T u],_]=_;generalize Wv ls ss kp m=W at *;generalize t.d=td at *;generalize eI (n+1)=wf at *;unfold jy;exact rn|_=>simp[PL.k] at hk
theorem zT{n at_:Nat}(oj:at_<ls.length)(hk:kd ls at_∉[0,12,13,14])(h7:kd ls at_=7->∀a∈fE ls at_,kp[a]?=some true)(N:∀a∈fE ls at_,∀n',n<=n'->oU ls ss kp n' a):KY ls ss kp (n+3) at_:=by
 intro m w hw hm;have hT:=uQ g oj;have lP:=fun b hb=>qw g oj (b:=b) hb;have hi:=ou ls at_ oj;have hs:=ck ss at_ (by have:=g.len;lia);have sl:=(oC g oj).1;have sL:=oC g oj;have f0:=Xx ls ss kp m;have f1:=Ph ls ss kp m;have f2:=FL ls ss kp m;have f4:=TM ls ss kp m;have f5:=Xs ls ss kp m;have f6:=Q0s ls ss kp m;have f7:=Xu ls ss kp m;have f8:=TK ls ss kp m;unfold kd at hk h7;unfold fE at N lP h7;unfold FU fE;obtain⟨l,hl⟩:∃l,cv ls at_=l:=⟨_,rfl⟩;rw[hl] at hk N hT hi lP h7 ⊢;have vw:∀a,(l.k=2\/l.k=3\/l.k=4\/l.k=5\/l.k=6)->l.ns=[a]->∃t:Tr,defn 5 [false,false,false] (jx (eI (n+2))) [Wv ls ss kp m,.int at_,WD w]=.ok t.d []/\t.dep<=at_+1/\∀r,r∈t.rs<->∃b∈l.ns,tH ls kp b r:=fun a h2 h3=>by
  have ha:=lP a (by rw[h3];simp);obtain⟨t,et,t1,t2⟩:=Jz g l hl oj h2 h3 (N a (by rw[h3];simp)) m w hw hm;refine⟨t,?_,T9,fun r=>by rw[t2,h3];simp⟩;have k1:=l.kind;have WA:=l.Mu;have ne:∀j,j<32->l.k≠j->bG (.str (nm l.k)) (.str (nm j))=some (.bl false):=fun j hj h=>by rw[BK _ _ T9 hj,Vy h]
  have n1:=ne 1 T9 T9;have n9:=ne 9 T9 T9;have WN:=ne 10 T9 T9;have n11:=ne 11 T9 T9;have n8:=ne 8 T9 T9;have n15:=ne 15 T9 T9;have n7:=ne 7 T9 T9;generalize Wv ls ss kp m=W at *;generalize l.d=ld at *;generalize t.d=td at *;generalize eI (n+2)=wf at *;unfold jx;exact rn
 have rd:∀a,a∈l.ns->a<ls.length:=fun a ha=>by have:=lP a ha;lia
 have sa:∀a,a∈l.ns->aq (bF ss) (.int (a:Int))=some (T (sd ss a)):=fun a ha=>ck ss a (by have:=rd a ha;have:=g.len;lia);show ∃t:Tr,defn 5 [false,false,false] (jx (eI (n+2))) _=_/\_/\_;have ui:l.k≠0/\l.k≠12/\l.k≠13/\l.k≠14:=by simpa using hk
 cases l with
 |given j=>exact absurd rfl ui.1|fold d a k=>exact absurd rfl ui.2.1|run d a k=>exact absurd rfl ui.2.2.1|pick a k b=>exact absurd rfl ui.2.2.2|m9 s x=>refine⟨.m9 x,?_,by simp[Tr.dep],fun r=>by simp[Tr.rs,PL.ns]⟩;have e1:=Mc (.int x);have hi:aq (Pg ls) (.int (at_:Int))=some (.tup [.str (nm 1),T s,.int x]):=hi;unfold Tr.d;generalize Wv ls ss kp m=W at *;generalize eI (n+2)=wf at *;unfold jx;exact rn|turn a o=>exact vw _ (by simp[PL.k]) rfl|cut a k b st mm=>exact vw _ (by simp[PL.k]) rfl|drop a k p=>exact vw _ (by simp[PL.k]) rfl|wide a k=>exact vw _ (by simp[PL.k]) rfl|spread a u=>exact vw _ (by simp[PL.k]) rfl|shape a u=>have ka:=h7 rfl a (by simp[PL.ns]);obtain⟨x,ys,e⟩:=row_read ls ss kp m a _ w (sd ss at_) sL hw hm;refine⟨.read a x ys,?_,by simp[Tr.dep],fun r=>by simp[Tr.rs,PL.ns,tH.kept ka]⟩;have hi:aq (Pg ls) (.int (at_:Int))=some (.tup [.str (nm 7),.int a,T u]):=hi;generalize (Tr.read a x ys).d=td at *;generalize Wv ls ss kp m=W at *;generalize eI (n+2)=wf at *;unfold jx;exact rn|shift a k by_ x=>
  have ha:=lP a (by simp[PL.ns]);have ia:=sa a (by simp[PL.ns]);obtain⟨j,rfl,hj,_,h3⟩:=hT;rw[h3] at hw;obtain⟨w',e,vI⟩:=moved m _ w j (-by_) 1 T9 T9 hj hw;obtain⟨t,et,t1,t2⟩:=N a (by simp[PL.ns]) (n+1) T9 m w' vI hm;obtain⟨p,hp⟩:∃p,w'[j]?=some p:=⟨_,QR (by rw[vI.1];exact hj)⟩;have i1:=Wx w' j p hp;have i2:=ub (sd ss a) j hj;have e1:=DP (pD p) (.int ((sd ss a).getD j 0)) t.d (.int x);have sh:eI (n+2) 4 [Wv ls ss kp m,.int a,.int j,.int by_,.int x,WD w]=.ok (Tr.within p ((sd ss a).getD j 0) t x).d []:=by show defn 7 [false,false,false,false,false,false] (yK (eI (n+1))) _=.ok (.ins "Within" ["part","size","inner","number"] [pD p,.int ((sd ss a).getD j 0),t.d,.int x]) _;generalize Wv ls ss kp m=W at *;generalize t.d=td at *;generalize pD p=pd at *;generalize eI (n+1)=wf at *;unfold yK;exact rn
  refine⟨.within p ((sd ss a).getD j 0) t x,?_,by simp only[Tr.dep];lia,fun r=>by simp[Tr.rs,PL.ns,t2]⟩;have hi:aq (Pg ls) (.int (at_:Int))=some (.tup [.str (nm 8),.int a,.int j,.int by_,.int x]):=hi;generalize (Tr.within p ((sd ss a).getD j 0) t x).d=td at *;generalize Wv ls ss kp m=W at *;generalize eI (n+2)=wf at *;unfold jx;exact rn
 |one d a=>have ha:=lP a (by simp[PL.ns]);obtain⟨_,h3⟩:=hT;rw[h3] at hw;obtain⟨t,et,t1,t2⟩:=N a (by simp[PL.ns]) (n+2) T9 m w hw hm;refine⟨.one d t,?_,by simp only[Tr.dep];lia,fun r=>by simp[Tr.rs,PL.ns,t2]⟩;have e1:=Q1l (.str (nm d)) t.d;have hi:aq (Pg ls) (.int (at_:Int))=some (.tup [.str (nm 9),.str (nm d),.int a]):=hi;unfold Tr.d;generalize Wv ls ss kp m=W at *;generalize t.d=td at *;generalize eI (n+2)=wf at *;unfold jx;exact rn|both d a b=>have ha:=lP a (by simp[PL.ns]);have hb:=lP b (by simp[PL.ns]);obtain⟨_,h3⟩:=hT;have ml:=gW h3;obtain⟨t,et,t1,t2⟩:=gL g T9 (N a (by simp[PL.ns]) (n+1) T9) m w hw T9 T9 hm;obtain⟨u,eu,u1,u2⟩:=gL g T9 (N b (by simp[PL.ns]) (n+1) T9) m w hw T9 T9 hm;refine⟨.both d t u,?_,by simp only[Tr.dep];lia,fun r=>by simp[Tr.rs,PL.ns,t2,u2]⟩;have e1:=Mb (.str (nm d)) t.d u.d;have hi:aq (Pg ls) (.int (at_:Int))=some (.tup [.str (nm 10),.str (nm d),.int a,.int b]):=hi;unfold Tr.d;generalize Wv ls ss kp m=W at *;generalize t.d=td at *;generalize u.d=ud at *;generalize eI (n+1+1)=wf at *;unfold jx;exact rn|hW a b c=>have ha:=lP a (by simp[PL.ns]);have hb:=lP b (by simp[PL.ns]);have hc:=lP c (by simp[PL.ns]);obtain⟨v,h2,h3⟩:=hT;have ml:=gW h3;have ml2:=gW h2;obtain⟨t,et,t1,t2⟩:=gL g T9 (N a (by simp[PL.ns]) (n+1) T9) m w hw T9 T9 hm;obtain⟨u,eu,u1,u2⟩:=gL g T9 (N b (by simp[PL.ns]) (n+1) T9) m w hw T9 T9 hm;obtain⟨x,ex,x1,x2⟩:=gL g T9 (N c (by simp[PL.ns]) (n+1) T9) m w hw T9 T9 hm;refine⟨.hW t u x,?_,by simp only[Tr.dep];lia,fun r=>by simp[Tr.rs,PL.ns,t2,u2,x2]⟩;have e1:=Q2R t.d u.d x.d;have hi:aq (Pg ls) (.int (at_:Int))=some (.tup [.str (nm 11),.int a,.int b,.int c]):=hi;unfold Tr.d;generalize Wv ls ss kp m=W at *;generalize t.d=td at *;generalize u.d=ud at *;generalize x.d=xd at *;generalize eI (n+1+1)=wf at *;unfold jx;exact rn|join a b k=>
  have ha:=lP a (by simp[PL.ns]);have hb:=lP b (by simp[PL.ns]);have ia:=sa a (by simp[PL.ns]);obtain⟨j,rfl,hj,h2,_,h3⟩:=hT;rw[h3,show (rep (sd ss a) j ((sd ss a).getD j 0+(sd ss b).getD j 0)).length=(sd ss a).length by simp[rep];lia] at hw;obtain⟨w',e,vI⟩:=moved m _ w j (-(sd ss a).getD j 0) 1 T9 T9 hj hw;obtain⟨t,et,t1,t2⟩:=N a (by simp[PL.ns]) (n+1) T9 m w hw hm;rw[h2] at vI;obtain⟨u,eu,u1,u2⟩:=N b (by simp[PL.ns]) (n+1) T9 m w' vI hm;obtain⟨p,hp⟩:∃p,w[j]?=some p:=⟨_,QR (by rw[hw.1];exact hj)⟩;have i1:=Wx w j p hp;have i2:=ub (sd ss a) j hj;generalize (sd ss a).getD j 0=z at *;have e1:=DO (pD p) (.int z) t.d u.d;have sh:eI (n+2) 5 [Wv ls ss kp m,.int a,.int b,.int j,WD w]=.ok (Tr.joined p z t u).d []:=by show defn 7 [false,false,false,false,false] (yJ (eI (n+1))) _=.ok (.ins "Joined" ["part","size","ahead","behind"] [pD p,.int z,t.d,u.d]) _;generalize Wv ls ss kp m=W at *;generalize t.d=td at *;generalize u.d=ud at *;generalize pD p=pd at *;generalize eI (n+1)=wf at *;unfold yJ;exact rn
  refine⟨.joined p z t u,?_,by simp only[Tr.dep];lia,fun r=>by simp[Tr.rs,PL.ns,t2,u2]⟩;have hi:aq (Pg ls) (.int (at_:Int))=some (.tup [.str (nm 15),.int a,.int b,.int j]):=hi;generalize (Tr.joined p z t u).d=td at *;generalize Wv ls ss kp m=W at *;generalize eI (n+2)=wf at *;unfold jx;exact rn
include K
theorem vU:∀(at_:Nat),at_<ls.length->oV ls at_->∀n,4*at_+4<=n->oU ls ss kp n at_:=by intro at_;induction at_ using Nat.strongRecOn with|_ at_ ih=>intro oj hr n hn m w hw hm;obtain⟨n,rfl⟩:∃n',n=n'+1:=⟨n-1,T9⟩;obtain⟨b,hb⟩:∃b,kp[at_]?=some b:=⟨_,QR (by rw[K.len];exact oj)⟩;have ib:=i7 kp at_ b hb;have hs:=ck ss at_ (by have:=g.len;lia);have f1:=Ph ls ss kp m;have f3:=Xv ls ss kp m;have f4:=TK ls ss kp m;have f5:=TL ls ss kp m;show ∃t:Tr,defn 3 [false,false,false] (u7 (eI n)) _=_/\_/\_;cases b with|true=>obtain⟨x,ys,e⟩:=row_read ls ss kp m at_ _ w (sd ss at_) (oC g oj) hw hm;refine⟨.read at_ x ys,?_,by simp[Tr.dep],fun r=>by simp[Tr.rs,tH.kept hb]⟩;generalize (Tr.read at_ x ys).d=td at *;generalize Wv ls ss kp m=W at *;generalize eI n=wf at *;unfold u7;exact rn|false=>obtain⟨n,rfl⟩:∃n',n=n'+3:=⟨n-3,T9⟩;obtain⟨t,e,t1,t2⟩:=zT g oj (fun h=>by have:=K.k4 at_ hr h;rw[hb] at this;cases this) (fun h=>K.k2 at_ hr (by rw[h];simp)) (n:=n) (fun a ha n' DK=>by have lP:=qw g oj ha;exact ih a lP T9 (.step hr (mj oj) ha) n' T9) m w hw hm;refine⟨t,?_,t1,fun r=>?_⟩;generalize t.d=td at *;generalize Wv ls ss kp m=W at *;generalize eI (n+3)=wf at *;unfold u7;exact rn;rw[t2];exact⟨fun ⟨b,h1,h2⟩=>.step hb h1 h2,fun z=>by cases z with|self h=>rw[hb] at h;cases h|step _ h1 h2=>exact⟨_,h1,h2⟩⟩
end
theorem Tr.lu:∀t:Tr,t.rs.length<=3 ^ t.dep|.m9 _=>by simp[Tr.rs]|.read _ _ _=>by simp[Tr.rs,Tr.dep]|.one _ t=>by have:=t.lu;simp only[Tr.rs,Tr.dep,Nat.pow_succ];lia|.within _ _ t _=>by have:=t.lu;simp only[Tr.rs,Tr.dep,Nat.pow_succ];lia|.both _ l r=>by have h1:=l.lu;have h2:=r.lu;have k1:=Ng (n:=3) T9 (Ir l.dep r.dep);have k2:=Ng (n:=3) T9 (WC l.dep r.dep);simp only[Tr.rs,Tr.dep,Nat.pow_succ,List.length_append];lia|.joined _ _ l r=>by have h1:=l.lu;have h2:=r.lu;have k1:=Ng (n:=3) T9 (Ir l.dep r.dep);have k2:=Ng (n:=3) T9 (WC l.dep r.dep);simp only[Tr.rs,Tr.dep,Nat.pow_succ,List.length_append];lia|.hW a l r=>by have h0:=a.lu;have h1:=l.lu;have h2:=r.lu;have k0:=Ng (n:=3) T9 (Ir a.dep (max l.dep r.dep));have k1:=Ng (n:=3) T9 (DT (Ir l.dep r.dep) (WC a.dep (max l.dep r.dep)));have k2:=Ng (n:=3) T9 (DT (WC l.dep r.dep) (WC a.dep (max l.dep r.dep)));simp only[Tr.rs,Tr.dep,Nat.pow_succ,List.length_append];lia
theorem Gw(xs ys:UA)(h:xs.length+ys.length<=16777216):bj (bJ xs) (bJ ys)=some (bJ (xs++ys)):=by unfold bJ;rw[pH _ _ (by simpa[eL] using h),E3]
theorem qK{n:Nat}(h:n<=14):3 ^ n<=4782969:=Ng (n:=3) T9 h
theorem Q1L:∀(t:Tr)(n:Nat),t.dep<=n->t.dep<=14->wN n 0 [t.d]=.ok (bJ t.rs) []:=by intro t;induction t with|m9 x=>intro n hn _;obtain⟨n,rfl⟩:∃k,n=k+1:=⟨n-1,by simp only[Tr.dep] at hn;lia⟩;kernel_rfl!|read a x ys=>intro n hn _;obtain⟨n,rfl⟩:∃k,n=k+1:=⟨n-1,by simp only[Tr.dep] at hn;lia⟩;kernel_rfl!|one d t ih=>intro n hn rk;simp only[Tr.dep] at hn rk;obtain⟨n,rfl⟩:∃k,n=k+1:=⟨n-1,T9⟩;have e:=ih n T9 T9;have i1:bK gS (Tr.one d t).d=some (.bl false):=UC;have i2:bK bZ (Tr.one d t).d=some (.bl true):=UC;have f1:aZ iL "inner" (Tr.one d t).d=some t.d:=UC;show defn 1 [false] (jz (wN n)) _=.ok (bJ t.rs) _;generalize (Tr.one d t).d=x at *;generalize t.d=td at *;generalize wN n=wf at *;unfold jz;exact rn|within p z t y ih=>intro n hn rk;simp only[Tr.dep] at hn rk;obtain⟨n,rfl⟩:∃k,n=k+1:=⟨n-1,T9⟩;have e:=ih n T9 T9;have i1:bK gS (Tr.within p z t y).d=some (.bl false):=UC;have i2:bK bZ (Tr.within p z t y).d=some (.bl true):=UC;have f1:aZ iL "inner" (Tr.within p z t y).d=some t.d:=UC;show defn 1 [false] (jz (wN n)) _=.ok (bJ t.rs) _;generalize (Tr.within p z t y).d=x at *;generalize t.d=td at *;generalize wN n=wf at *;unfold jz;exact rn|both d l r Rw Rx=>intro n hn rk;simp only[Tr.dep] at hn rk;obtain⟨n,rfl⟩:∃k,n=k+1:=⟨n-1,T9⟩;have e1:=Rw n T9 T9;have e2:=Rx n T9 T9;have i1:bK gS (Tr.both d l r).d=some (.bl false):=UC;have i2:bK bZ (Tr.both d l r).d=some (.bl false):=UC;have i3:bK jZ (Tr.both d l r).d=some (.bl true):=UC;have f1:aZ jh "left" (Tr.both d l r).d=some l.d:=UC;have f2:aZ gQ "right" (Tr.both d l r).d=some r.d:=UC;have k1:=l.lu;have k2:=r.lu;have p1:=qK (n:=l.dep) T9;have p2:=qK (n:=r.dep) T9;have ad:=Gw l.rs r.rs T9;show defn 1 [false] (jz (wN n)) _=.ok (bJ (l.rs++r.rs)) _;generalize (Tr.both d l r).d=x at *;generalize l.d=ld at *;generalize r.d=rd at *;generalize wN n=wf at *;unfold jz;exact rn|hW a l r ZX Rw Rx=>intro n hn rk;simp only[Tr.dep] at hn rk;obtain⟨n,rfl⟩:∃k,n=k+1:=⟨n-1,T9⟩;have e0:=ZX n T9 T9;have e1:=Rw n T9 T9;have e2:=Rx n T9 T9;have i1:bK gS (Tr.hW a l r).d=some (.bl false):=UC;have i2:bK bZ (Tr.hW a l r).d=some (.bl false):=UC;have i3:bK jZ (Tr.hW a l r).d=some (.bl false):=UC;have i4:bK kF (Tr.hW a l r).d=some (.bl true):=UC;have f0:aZ l6 "asked" (Tr.hW a l r).d=some a.d:=UC;have f1:aZ jh "left" (Tr.hW a l r).d=some l.d:=UC;have f2:aZ gQ "right" (Tr.hW a l r).d=some r.d:=UC;have k0:=a.lu;have k1:=l.lu;have k2:=r.lu;have p0:=qK (n:=a.dep) T9;have p1:=qK (n:=l.dep) T9;have p2:=qK (n:=r.dep) T9;have ad:=Gw a.rs l.rs T9;have ad2:=Gw (a.rs++l.rs) r.rs (by simp;lia);show defn 1 [false] (jz (wN n)) _=.ok (bJ (a.rs++l.rs++r.rs)) _;generalize (Tr.hW a l r).d=x at *;generalize a.d=ad at *;generalize l.d=ld at *;generalize r.d=rd at *;generalize wN n=wf at *;unfold jz;exact rn|joined p z l r Rw Rx=>intro n hn rk;simp only[Tr.dep] at hn rk;obtain⟨n,rfl⟩:∃k,n=k+1:=⟨n-1,T9⟩;have e1:=Rw n T9 T9;have e2:=Rx n T9 T9;have i1:bK gS (Tr.joined p z l r).d=some (.bl false):=UC;have i2:bK bZ (Tr.joined p z l r).d=some (.bl false):=UC;have i3:bK jZ (Tr.joined p z l r).d=some (.bl false):=UC;have i4:bK kF (Tr.joined p z l r).d=some (.bl false):=UC;have i5:bK lA (Tr.joined p z l r).d=some (.bl true):=UC;have f1:aZ l5 "ahead" (Tr.joined p z l r).d=some l.d:=UC;have f2:aZ kC "behind" (Tr.joined p z l r).d=some r.d:=UC;have k1:=l.lu;have k2:=r.lu;have p1:=qK (n:=l.dep) T9;have p2:=qK (n:=r.dep) T9;have ad:=Gw l.rs r.rs T9;show defn 1 [false] (jz (wN n)) _=.ok (bJ (l.rs++r.rs)) _;generalize (Tr.joined p z l r).d=x at *;generalize l.d=ld at *;generalize r.d=rd at *;generalize wN n=wf at *;unfold jz;exact rn
def Dc(m:UH):D:=.gK (m.map fun p=>.inl (p.1:Int)) (m.map fun p=>.int (p.2:Int))
def fP:UH->Nat->Option Nat|[],_=>none|p::m,k=>if p.1=k then some p.2 else fP m k
def wZ(k v:Nat):UH->List (Nat×Nat)|[]=>[(k,v)]|p::m=>if p.1=k then(p.1,v)::m else p::wZ k v m
theorem qg(a b:Nat):((.inl (a:Int):Sum Int Str)=.inl (b:Int))<->a=b:=⟨fun h=>by cases h;rfl,fun h=>by rw[h]⟩
theorem nq:∀(m:UH)(k v:Nat),fP m k=some v->AJ (Dc m) (.int (k:Int))=some (.int (v:Int))|[],_,_,h=>by cases h|p::m,k,v,h=>by have ih:=nq m k v;unfold fP at h;show (if _ then _ else xh _ _ _)=_;by_cases c:p.1=k;rw[Ge c] at h;cases h;rw[Ge ((qg _ _).mpr c)];rw[UE c] at h;rw[UE fun z=>c ((qg _ _).mp z)];exact ih h
theorem vi:∀(m:UH)(k:Nat),fP m k=none->xh (m.map fun p=>.inl (p.1:Int)) (m.map fun p=>D.int (p.2:Int)) (.inl (k:Int))=none|[],_,_=>rfl|p::m,k,h=>by unfold fP at h;show (if _ then _ else xh _ _ _)=_;by_cases c:p.1=k;rw[Ge c] at h;cases h;rw[UE c] at h;rw[UE fun z=>c ((qg _ _).mp z)];exact vi m k h
theorem Jf(m:UH)(k:Nat):(xh (m.map fun p=>.inl (p.1:Int)) (m.map fun p=>D.int (p.2:Int)) (.inl (k:Int))).isSome=(fP m k).isSome:=by cases h:fP m k with|none=>rw[vi m k h];rfl|some v=>rw[show xh _ _ _=_ from nq m k v h];rfl
theorem Si(m:UH)(k:Nat):C4 true (.int (k:Int)) (Dc m)=some (.bl (!(fP m k).isSome)):=by rw[<-Jf];rfl
theorem C9(k v:Nat):∀m:UH,xi (.inl (k:Int)) (.int (v:Int)) (m.map fun p=>.inl (p.1:Int)) (m.map fun p=>D.int (p.2:Int))=((wZ k v m).map fun p=>.inl (p.1:Int),(wZ k v m).map fun p=>D.int (p.2:Int))|[]=>rfl|p::m=>by have ih:=C9 k v m;rw[Po,Po,xi,ih,wZ];by_cases c:p.1=k;rw[Ge ((qg _ _).mpr c),Ge c];rfl;rw[UE fun z=>c ((qg _ _).mp z),UE c];rfl
theorem E6(m:UH)(k v:Nat)(h:m.length<1000):putD (.int (k:Int)) (.int (v:Int)) (Dc m)=some (Dc (wZ k v m)):=by show (if _ then _ else _)=_;rw[Ge (by simpa using h),C9];rfl
theorem i6(k v:Nat):∀(m:UH)(j:Nat),fP (wZ k v m) j=if k=j then some v else fP m j|[],j=>by simp[wZ,fP]|p::m,j=>by have ih:=i6 k v m j;unfold wZ;by_cases c:p.1=k;rw[Ge c,fP,fP];dsimp only;rw[c];split<;>rfl;rw[UE c,fP,ih,fP];by_cases c2:p.1=j;rw[Ge c2,UE T9,Ge c2];rw[UE c2,UE c2]
theorem oX(k v:Nat):∀m:UH,fP m k=none->wZ k v m=m++[(k,v)]|[],_=>rfl|p::m,h=>by unfold fP at h;unfold wZ;by_cases c:p.1=k;rw[Ge c] at h;cases h;rw[UE c] at h;rw[UE c,oX k v m h];rfl
theorem oW:∀(m:UH)(k v:Nat),fP m k=some v->(k,v)∈m|[],_,_,h=>by cases h|p::m,k,v,h=>by unfold fP at h;by_cases c:p.1=k;rw[Ge c] at h;cases h;subst c;exact QI;rw[UE c] at h;exact QC _ (oW m k v h)
theorem xW{α:Type}[DecidableEq α]:∀(l l':List α),l.Nodup->(∀x∈l,x∈l')->l.length<=l'.length|[],_,_,_=>G9|x::l,l',hn,h=>by have hx:=h x QI;have DK:=List.nodup_cons.mp hn;have ih:=xW l (l'.erase x) DK.2 fun y hy=>(List.mem_erase_of_ne (fun z:y=x=>DK.1 (by rw[<-z];exact hy))).mpr (h y (QC _ hy));have e:=List.length_erase_of_mem hx;have:=List.length_pos_of_mem hx;simp only[List.length_cons];lia
theorem A5(rows:UA)(hl:rows.length<=49):∃r:Nat,zf [bJ rows]=.ok (.int r) []/\r∉rows/\r<=49:=by
 have ZY:∀k:Nat,inD false (.int (k:Int)) (bJ rows)=some (.bl (decide (k∈rows))):=fun k=>by
  have sq:cy (bJ rows)=some (rows.map fun k=>D.int (k:Nat)):=rfl;unfold inD;rw[sq];dsimp only;have fl:(rows.map fun k=>D.int (k:Nat)).all jB=true:=by simp[jB]
  rw[fl,Bool.and_true,Ge (show jB (D.int (k:Int))=true from rfl)];have:((rows.map fun k=>D.int (k:Nat)).any fun y=>eqB y (.int (k:Int)))=decide (k∈rows):=by simp only[List.any_map,Function.comp_def,vj];rw[Bool.eq_iff_iff];simp only[List.any_eq_true,beq_iff_eq,decide_eq_true_eq];exact⟨fun ⟨x,h,e⟩=>(show x=k by lia) ▸ h,fun h=>⟨k,h,rfl⟩⟩
  simp[this]
 have key:∀(n k:Nat),n+k=50->(∀j<k,j∈rows)->∃r:Nat,gx b9 cR (n+9950) [.sh (bJ rows),.sh (.int k)]=.ok .nx [.sh (bJ rows),.sh (.int r)]/\r∉rows/\r<=49:=by
  intro n;induction n with
  |zero=>intro k hk hj;have:=xW (List.range k) rows List.nodup_range fun x hx=>hj x (List.mem_range.mp hx);simp at this;lia|succ n ih=>
   intro k hk hj;have ik:=ZY k;by_cases c:k∈rows;rw[Ub c] at ik;obtain⟨r,e,h1,h2⟩:=ih (k+1) T9 fun j PD=>by by_cases z:j=k;rw[z];exact c;exact hj j T9
   refine⟨r,?_,h1,h2⟩;rw[show n+1+9950=(n+9950)+1 by lia,tF (r1:=[.sh (bJ rows),.sh (.int k)]) (r2:=[.sh (bJ rows),.sh (.int ((k+1:Nat):Int))])];exact e;unfold b9;exact aK;rw[show (((k+1:Nat)):Int)=(k:Int)+1 by lia];unfold cR;exact aK;rw[Vy c] at ik;refine⟨k,?_,c,T9⟩;rw[show n+1+9950=(n+9950)+1 by lia];refine oE ?_;unfold b9;exact aK
 obtain⟨r,e,h1,h2⟩:=key 50 0 rfl fun j hj=>T9;refine⟨r,?_,h1,h2⟩;have e:qS b9 cR [.sh (bJ rows),.sh (.int 0)]=.ok .nx [.sh (bJ rows),.sh (.int r)]:=e;unfold zf Cs;exact rn
theorem Ab{A B:Type}[Inhabited B]{P:A->B->Prop}{as:List A}(h:∀a∈as,∃b,P a b):∃f:A->B,∀a∈as,P a (f a):=by
 classical
 refine⟨fun a=>if h':∃b,P a b then h'.choose else default,fun a ha=>?_⟩;have h':=h a ha;dsimp only;rw[dif_pos h'];exact h'.choose_spec
theorem u3(k v:Nat):∀(m:UH)(w:Nat),fP m k=some w->(wZ k v m).map (·.1)=m.map (·.1)|[],_,h=>by cases h|p::m,w,h=>by unfold fP at h;unfold wZ;by_cases c:p.1=k;rw[Ge c];rfl;rw[UE c] at h;rw[UE c,Po,Po,u3 k v m w h]
theorem yG:∀(m:UH)(k:Nat),fP m k=none->k∉m.map (·.1)|[],_,_=>G9|p::m,k,h=>by unfold fP at h;by_cases c:p.1=k;rw[Ge c] at h;cases h;rw[UE c] at h;have:=yG m k h;simp only[List.map_cons,List.mem_cons,not_or];exact⟨fun z=>c z.symm,this⟩
def Kd(m:UH):Prop:=(m.map (·.1)).Nodup/\∀k∈m.map (·.1),k<14
theorem Kd.lu{m:UH}(h:Kd m):m.length<=14:=by have:=xW (m.map (·.1)) (List.range 14) h.1 fun x hx=>List.mem_range.mpr (h.2 x hx);simpa using this
theorem Kd.put{m:UH}(h:Kd m){k:Nat}(v:Nat)(hk:k<14):Kd (wZ k v m):=by cases e:fP m k with|some w=>unfold Kd;rw[u3 k v m w e];exact h|none=>rw[oX k v m e];have hn:=yG m k e;unfold Kd;rw[E3];refine⟨List.nodup_append.mpr ⟨h.1,G9,fun a ha b hb z=>?_⟩,fun x hx=>?_⟩;simp at hb;rw[<-z] at hb;subst hb;exact hn ha;rcases List.mem_append.mp hx with hx|hx;exact h.2 x hx;simp at hx;lia
theorem Kd.nil:Kd []:=⟨G9,G9⟩
structure Pm(n:Nat)(as:UA)(X:Nat->D)(rd:Nat->UA)(ss:WU):Prop where
 some:as≠[]
 ord:as.Pairwise (· < ·)
 lu:as.length<=14
 small:∀a∈as,a<14
 line:∀a∈as,aZ eW "line" (X a)=Option.some (.int (a:Int))
 side:∀a∈as,aZ cu "sides" (X a)=Option.some (T (sd ss a))/\SI (sd ss a)
 read:∀a∈as,pW [X a]=.ok (bJ (rd a)) []
 own:∀a∈as,∀r∈rd a,r∈as/\r<a
 all:∀i,i+1<as.length->∃a∈as,as.getD i 0∈rd a
section
variable{n:Nat}{as:UA}{X:Nat->D}{rd:Nat->UA}{ss:WU}(L:Pm n as X rd ss)
def kP(as:UA)(X:Nat->D):D:=.lst (as.map X)
theorem w8{as:UA}{i:Nat}(h:i<as.length):as.getD i 0∈as:=by rw[SE,QR h];exact IQ h
theorem De(as:UA)(X:Nat->D):lY [kP as X]=some ((List.range as.length).map fun(i:Nat)=>D.tup [.int i,X (as.getD i 0)]):=by
 show some (kU (as.map X))=_;rw[sk];congr 1;refine rO G9 fun i h1 h2=>?_;have hi:i<as.length:=by simpa using h2
 simp[hi]
include L
theorem EI{i j:Nat}(hi:i<as.length)(hj:j<as.length):as.getD i 0<as.getD j 0<->i<j:=by
 have e:∀k (h:k<as.length),as.getD k 0=as[k]:=fun k h=>by simp[h]
 rw[e i hi,e j hj];have p:=List.pairwise_iff_getElem.mp L.ord;constructor;intro h;rcases Nat.lt_trichotomy i j with z|z|z;exact z;subst z;lia;have:=p j i hj hi z;lia;intro z;exact p i j hi hj z
theorem at_of{a:Nat}(h:a∈as):∃i,i<as.length/\as.getD i 0=a:=by obtain⟨i,hi,e⟩:=List.mem_iff_getElem.mp h;exact⟨i,hi,by simp[hi,e]⟩
theorem w6{i j:Nat}(hi:i<as.length)(hj:j<as.length)(e:as.getD i 0=as.getD j 0):i=j:=by rcases Nat.lt_trichotomy i j with z|z|z;have:=(EI L hi hj).mpr z;lia;exact z;have:=(EI L hj hi).mpr z;lia
def JG(as:UA)(rd:Nat->UA)(i:Nat)(m:UH):Prop:=(Kd m/\∀r v,fP m r=some v->v<i)/\∀j<i,∀k∈rd (as.getD j 0),∃j',j<=j'/\fP m k=some j'
theorem Hq:∃m,zd [kP as X]=.ok (Dc m) []/\JG as rd as.length m:=by
 have en:=De as X;obtain⟨m,t,hP,ht,Lp⟩:=cV (g:=cJ [2,3]) (body:=cM) (fun(i:Nat)=>D.tup [.int i,X (as.getD i 0)]) (fun(m:UH)(t:Sl×Sl×Sl)=>[.sh (kP as X),.ow (Dc m),t.1,t.2.1,t.2.2]) zG (List.range as.length) (JG as rd) [] (.no,.no,.no) ⟨rfl,rfl,rfl⟩ ⟨⟨Kd.nil,fun r v h=>by cases h⟩,fun j hj=>T9⟩ (by
  intro i k hk m t ht hP;obtain⟨rfl,hk⟩:=fF hk;obtain⟨t2,t3,t4⟩:=t;obtain⟨f2,f3,f4⟩:=ht;dsimp only at f2 f3 f4;have ha:=w8 hk;have rb:=L.read _ ha;have ow:=L.own _ ha;obtain⟨⟨hK,hV⟩,hP⟩:=hP;have hsm:=L.small _ ha;generalize Zl:as.getD k 0=a at *;obtain⟨m',s,⟨Zi,hq⟩,hs,Li⟩:=cV (g:=aE 4) (body:=cL) (fun(r:Nat)=>D.int r) (fun(m:UH)(t:Sl)=>[.sh (kP as X),.ow (Dc m),.sh (.int k),.sh (X a),t]) vB (rd a) (fun c m'=>(Kd m'/\∀r v,fP m' r=some v->v<k+1)/\(∀j v,fP m j=some v->∃v',v<=v'/\fP m' j=some v')/\∀j<c,fP m' ((rd a).getD j 0)=some k) m t4 f4 ⟨⟨hK,fun r v h=>by have:=hV r v h;lia⟩,fun j v h=>⟨v,Uj _,h⟩,fun j hj=>T9⟩ (by
   intro c r hr m' t ht Pr;obtain⟨⟨q1,q4⟩,q2,q3⟩:=Pr;have hf:free (some t)=true:=ht;have ZK:=Np hr;have Wd:=ow r ZK;have Rj:=L.small r Wd.1;have pt:=E6 m' r k (by have:=q1.lu;lia);refine⟨wZ r k m',.sh (.int r),⟨⟨q1.put k Rj,fun r' v h=>?_⟩,fun j v hj=>?_,fun j hj=>?_⟩,rfl,?_⟩;rw[i6] at h;split at h;cases h;lia;exact q4 r' v h;obtain⟨v',h1,h2⟩:=q2 j v hj;rw[i6];by_cases c:r=j;rw[Ge c];exact⟨k,by have:=hV j v hj;lia,rfl⟩;rw[UE c];exact⟨v',h1,h2⟩;rw[i6];by_cases z:j=c;have:(rd a).getD j 0=r:=by rw[z,SE,hr];rfl
   rw[this,Ge rfl];split;rfl;exact q3 j T9;have e:aE 4 (.int (r:Int)) [.sh (kP as X),.ow (Dc m'),.sh (.int k),.sh (X a),t]=.ok () [.sh (kP as X),.ow (Dc m'),.sh (.int k),.sh (X a),.sh (.int r)]:=by simp[hf]
   generalize X a=xa at *;generalize kP as X=xs at *;rw[bH,e,az,show cL _=.ok .nx _ by unfold cL;exact aK];rfl)
  have hSq:cy (bJ (rd a))=some ((rd a).map fun(r:Nat)=>D.int (r:Int)):=rfl;refine⟨m',(.sh (.int k),.sh (X a),s),⟨Zi,fun j hj r hr=>?_⟩,⟨rfl,rfl,hs⟩,?_⟩;by_cases z:j=k;rw[z,Zl] at hr;obtain⟨c,hc,e⟩:=List.mem_iff_getElem.mp hr;have:=hq.2 c hc;rw[show (rd a).getD c 0=r by simp[hc,e]] at this;exact⟨k,T9,this⟩;obtain⟨j',h1,h2⟩:=hP j T9 r hr;obtain⟨v',h3,h4⟩:=hq.1 r j' h2;exact⟨v',T9,h4⟩;have e:cJ [2,3] (.tup [.int (k:Int),X a]) [.sh (kP as X),.ow (Dc m),t2,t3,t4]=.ok () [.sh (kP as X),.ow (Dc m),.sh (.int k),.sh (X a),t4]:=by simp[f2,f3]
  dsimp only;generalize X a=xa at *;generalize kP as X=xs at *;generalize (rd a).map (fun(r:Nat)=>D.int (r:Int))=rs at *;rw[bH,e,az,show cM _=.ok .nx _ by unfold cM;exact aK];rfl)
 obtain⟨t2,t3,t4⟩:=t;simp only[List.length_range] at hP;refine⟨m,?_,hP⟩;have hD:Dc []=.gK [] []:=rfl;rw[hD] at Lp;dsimp only at Lp;generalize kP as X=xs at *;unfold zd Cp;exact rn
end
theorem PL.reads(l:PL):za [l.d]=.ok (.lst (l.ns.map fun a=>D.int (a:Nat))) []:=by cases l<;>kernel_rfl!
theorem qx:∀(n:Nat)(xs:UA),xs.Nodup->(∀x∈xs,x<n)->xs.length<=n
|0,xs,_,h=>by cases xs with|nil=>simp|cons x xs=>exact absurd (h x QI) T9
|n+1,xs,nd,h=>by
 have h1:=qx n (xs.erase n) (nd.erase n) (fun x hx=>by
  have:=(List.Nodup.mem_erase_iff nd).mp hx;have:=h x this.2
  lia)
 have:=List.length_erase (a:=n) (l:=xs);split at this<;>lia
theorem Gz(k:Nat)(ks:UA):((ks.map fun k=>D.int (k:Nat)).any fun y=>eqB y (.int (k:Nat)))=decide (k∈ks):=by induction ks with|nil=>simp|cons x ks ih=>rw[Po,AB,ih,vj];by_cases h:x=k;simp[h];have:¬(x:Int)=(k:Int):=T9;have h':¬k=x:=fun z=>h z.symm;simp[this,h']
theorem AM(ks:UA):(ks.map fun k=>D.int (k:Nat)).all jB=true:=by rw[List.all_eq_true];intro d hd;obtain⟨k,_,rfl⟩:=List.mem_map.mp hd;rfl
theorem Q2G(neg:Bool)(k:Nat)(ks:UA):inD neg (.int (k:Int)) (bJ ks)=some (.bl (if neg then !decide (k∈ks) else decide (k∈ks))):=by unfold inD bJ;rw[qT];dsimp only;rw[AM,Gz];rfl
def iZ(s:List Nat×List Nat)(p:Nat):List Nat×List Nat:=if p∈s.1 then s else(s.1++[p],s.2++[p])
structure Pk(ls:WH)(bw ahead:UA):Prop where
 nd:bw.Nodup
 rc:∀x∈bw,oV ls x
 la:ls.length-1∈bw
 sub:∀x∈ahead,x∈bw
 cl:∀i∈bw,i∉ahead->∀l,ls[i]?=some l->∀r∈l.ns,r∈bw
theorem Pk.le{ls:WH}{bw ahead:UA}(h:Pk ls bw ahead)(wf:Wf ls)(h0:ls≠[]):bw.length<=ls.length:=qx _ _ h.nd fun x hx=>(h.rc x hx).lt wf h0
theorem Ey(ks:UA)(k:Nat)(h:ks.length<=1000):gD (.int (k:Int)) (bJ ks)=some (bJ (ks++[k])):=by unfold bJ;rw[ie _ _ (by simp;lia),E3];rfl
theorem pI(P:D):∀(ns:UA)(bw ahead:UA),bw.length+ns.length<=1000->ahead.length+ns.length<=1000->∀t,free (some t)=true->∃t',free (some t')=true/\loop (aE 3) fS (ns.map fun k=>D.int (k:Nat)) [.sh P,.ow (bJ bw),.ow (bJ ahead),t]=.ok .nx [.sh P,.ow (bJ (ns.foldl iZ (bw,ahead)).1),.ow (bJ (ns.foldl iZ (bw,ahead)).2),t']
|[],bw,ahead,_,_,t,ht=>⟨t,ht,rfl⟩|r::ns,bw,ahead,h1,h2,t,ht=>by simp only[List.length_cons] at h1 h2;have ind:=Q2G true r bw;have il:∀w,isLst (some (bJ w))=true:=fun _=>rfl;have a1:=Ey bw r T9;have a2:=Ey ahead r T9;by_cases q:r∈bw;obtain⟨t',k1,k2⟩:=pI P ns bw ahead T9 T9 (.sh (.int r)) rfl;refine⟨t',k1,?_⟩;rw[Po,eA (r':=[.sh P,.ow (bJ bw),.ow (bJ ahead),.sh (.int r)]) (by simp[bH,fS,ht,ind,q]),k2];simp[iZ,q];obtain⟨t',k1,k2⟩:=pI P ns (bw++[r]) (ahead++[r]) (by simp;lia) (by simp;lia) (.sh (.int r)) rfl;refine⟨t',k1,?_⟩;rw[Po,eA (r':=[.sh P,.ow (bJ (bw++[r])),.ow (bJ (ahead++[r])),.sh (.int r)]) (by simp[bH,fS,ht,ind,q,il,a1,a2]),k2];simp[iZ,q]
theorem mV:∀(ns:UA)(bw ahead:UA),bw.Nodup->(∀x∈ahead,x∈bw) ->
  (ns.foldl iZ (bw,ahead)).1.Nodup/\(∀x,x∈(ns.foldl iZ (bw,ahead)).1<->x∈bw\/x∈ns)/\(∀x∈(ns.foldl iZ (bw,ahead)).2,x∈(ns.foldl iZ (bw,ahead)).1)/\(∀x∈ahead,x∈(ns.foldl iZ (bw,ahead)).2) /\
  (∀x∈(ns.foldl iZ (bw,ahead)).1,x∈bw\/x∈(ns.foldl iZ (bw,ahead)).2)/\(ns.foldl iZ (bw,ahead)).1.length+ahead.length=(ns.foldl iZ (bw,ahead)).2.length+bw.length
 |[],bw,ahead,nd,sb=>⟨nd,G9,sb,fun x h=>h,fun x h=>.inl h,by simp;lia⟩|r::ns,bw,ahead,nd,sb=>by
  simp only[List.foldl_cons];by_cases q:r∈bw;rw[show iZ (bw,ahead) r=(bw,ahead) by simp[iZ,q]];obtain⟨a,b,c,d,e,f⟩:=mV ns bw ahead nd sb;refine⟨a,fun x=>?_,c,d,e,f⟩;rw[b];simp only[List.mem_cons];constructor;rintro (h|h);exact .inl h;exact .inr (.inr h);rintro (h|rfl|h);exact .inl h;exact .inl q;exact .inr h;rw[show iZ (bw,ahead) r=(bw++[r],ahead++[r]) by simp[iZ,q]];obtain⟨a,b,c,d,e,f⟩:=mV ns (bw++[r]) (ahead++[r]) (by
   rw[List.nodup_append];exact⟨nd,G9,fun x hx y hy z=>by simp at hy;subst hy z;exact q hx⟩) (fun x hx=>by
   rcases List.mem_append.mp hx with h|h;exact List.mem_append_left _ (sb x h);exact O9 _ h)
  refine⟨a,fun x=>?_,c,fun x hx=>d x (List.mem_append_left _ hx),fun x hx=>?_,by simp at f;lia⟩;rw[b];simp only[List.mem_append,List.mem_cons,List.not_mem_nil,or_false];constructor;rintro ((h|h)|h);exact .inl h;exact .inr (.inl h);exact .inr (.inr h);rintro (h|h|h);exact .inl (.inl h);exact .inl (.inr h);exact .inr h;rcases e x hx with h|h;rcases List.mem_append.mp h with h|h;exact .inl h;exact .inr (d x (O9 _ h));exact .inr h
theorem ne_nil(ks:UA)(k:Nat):dz (bJ (ks++[k])) (.lst [])=some (.bl true):=by
 have p:VP.plain 60 (bJ (ks++[k]))=true:=by unfold bJ;rw[VP.plain];generalize ks++[k]=xs;induction xs with|nil=>rfl|cons x xs ih=>rw[Po,dE,ih];rfl
 have e:eqB (bJ (ks++[k])) (.lst [])=false:=by unfold bJ;rw[vk];cases ks<;>rfl
 unfold dz;rw[p,e];rfl
theorem sg(ls:WH)(wf:Wf ls)(h0:ls≠[])(hl:ls.length<=100):∀(m N:Nat)(bw ahead:UA),Pk ls bw ahead->(ls.length-bw.length)+ahead.length=m->m<=100->m<N->∀t,free (some t)=true->∃m7 t',gx dJ fV N [.sh (Pg ls),.ow (bJ bw),.ow (bJ ahead),t]=.ok .nx [.sh (Pg ls),.ow (bJ m7),.ow (bJ []),t']/\Pk ls m7 []
|m,0,bw,ahead,_,_,_,h,_,_=>absurd h T9|m,N+1,bw,ahead,J,hm,LP,hN,t,ht=>by
 have dl:=J.le wf h0;rcases List.eq_nil_or_concat ahead with rfl|⟨a,i,rfl⟩;refine⟨bw,t,oE ?_,J⟩;have e:dz (bJ []) (.lst [])=some (.bl false):=rfl;simp[dJ,e];rw[List.concat_eq_append] at *;have hi:=J.sub i G9;have lP:=(J.rc i hi).lt wf h0;obtain⟨l,Kf⟩:∃l,ls[i]?=some l:=⟨_,QR lP⟩;have ix:=D3 ls i l Kf;have fw:=l.lu;have PJ:ls.length-bw.length+(a.length+1)=m:=by simpa using hm
 obtain⟨t',We,L⟩:=pI (Pg ls) l.ns bw a T9 T9 t ht;obtain⟨p1,p2,p3,p4,p5,p6⟩:=mV l.ns bw a J.nd (fun x hx=>J.sub x (List.mem_append_left _ hx));have J':Pk ls (l.ns.foldl iZ (bw,a)).1 (l.ns.foldl iZ (bw,a)).2:=by refine⟨p1,fun x hx=>?_,(p2 _).mpr (.inl J.la),p3,fun x hx Yj y hy r hr=>?_⟩;rcases (p2 x).mp hx with h|h;exact J.rc x h;exact .step (J.rc i hi) Kf h;rcases p5 x hx with h|h;by_cases e:x=i;subst e;rw[Kf] at hy;cases hy;exact(p2 r).mpr (.inr hr);refine(p2 r).mpr (.inl (J.cl x h (fun z=>?_) y hy r hr));rcases List.mem_append.mp z with z|z;exact Yj (p4 x z);exact e (by simpa using z);exact absurd h Yj
 have dl':=J'.le wf h0;obtain⟨m7,t'',e,YW⟩:=sg ls wf h0 hl (m-1) N _ _ J' T9 T9 T9 t' We;refine⟨m7,t'',?_,YW⟩;rw[<-e];have po:∀r:aR,Iz 2 r (bJ (a++[i]))=.ok (.int (i:Nat)) (cE 2 (bJ a) r):=fun r=>by unfold bJ;rw[E3];exact EV _ _ _ _
 refine tF (r1:=[.sh (Pg ls),.ow (bJ bw),.ow (bJ (a++[i])),t]) (by simp[dJ,ne_nil]) ?_;simp[fV,po,ix,PL.reads,L]
theorem Q2C(ls:WH)(wf:Wf ls)(h0:ls≠[])(hl:ls.length<=100):∃bw,zc [Pg ls]=.ok (bJ bw) []/\bw.Nodup/\∀i,i∈bw<->oV ls i:=by
 rw[zc,dh _ _ _ _ rfl];have hn:=List.length_pos_iff.mpr h0;have ln:=iu ls;have e1:D.lst [.int ((ls.length:Int)-1)]=bJ [ls.length-1]:=by unfold bJ;rw[Po,tN,show ((ls.length-1:Nat):Int)=(ls.length:Int)-1 by lia]
 have J:Pk ls [ls.length-1] [ls.length-1]:=⟨G9,fun x hx=>by simp at hx;subst hx;exact .last,G9,fun x h=>h,fun i h n=>absurd h n⟩;obtain⟨bw,t,e,J'⟩:=sg ls wf h0 hl ls.length 10000 _ _ J (by simp;lia) hl T9 .no rfl;refine⟨bw,?_,J'.nd,fun i=>⟨J'.rc i,fun h=>?_⟩⟩;have e':qS dJ fV [.sh (Pg ls),.ow (bJ [ls.length-1]),.ow (bJ [ls.length-1]),.no]=.ok .nx [.sh (Pg ls),.ow (bJ bw),.ow (bJ []),t]:=e;simp[Cn,ln,e1,e'];induction h with|last=>exact J'.la|step h e hr ih=>exact J'.cl _ ih G9 _ e _ hr
inductive Act where
 |mark (i:Nat)|ev (i p:Nat)
def hits(ls:WH)(ss:WU)(p:Nat):Act->Bool|.mark i=>decide (i=p)&&decide (kd ls i∈K4)|.ev i q=>decide (q=p)&&(decide (kd ls i∈H2)||(!decide (kd ls p=1)&&(decide (kd ls i∈S3)&&!decide (sd ss p=sd ss i))))
def isEv(p:Nat):Act->Bool|.mark _=>false|.ev _ q=>decide (q=p)
def lX(ls:WH)(ss:WU)(as:List Act)(p:Nat):Bool:=as.any (hits ls ss p)||(!decide (kd ls p=1)&&decide (1<as.countP (isEv p)))
structure Rep(ls:WH)(ss:WU)(as:List Act)(bw:WK)(a9:UA):Prop where
 l1:bw.length=ls.length
 l2:a9.length=ls.length
 Qp:∀p,p<ls.length->bw[p]?=some (lX ls ss as p)
 at2:∀p,p<ls.length->a9[p]?=some (as.countP (isEv p))
def Fr(ls:WH)(ss:WU)(D0:UA)(bw:WK)(a9:UA)(s5 s6 s7:Sl):aR:=[.sh (Pg ls),.sh (bF ss),.sh (bJ D0),.ow (eJ bw),.ow (bJ a9),s5,s6,s7]
theorem xF(ls:WH)(ss:WU)(D0:UA)(bw:WK)(a9:UA)(s5 s6:Sl)(p:Nat)(hp:p<bw.length)(c:M Bool)(b:Bool)(h:c (Fr ls ss D0 bw a9 s5 s6 (.sh (.int p)))=.ok b (Fr ls ss D0 bw a9 s5 s6 (.sh (.int p)))) : bD c (ak (cB 3 (af 7) (mC (.bl true))) aA) aA (Fr ls ss D0 bw a9 s5 s6 (.sh (.int p)))=.ok .nx (Fr ls ss D0 (if b then bw.set p true else bw) a9 s5 s6 (.sh (.int p))):=by rw[Fj,h];have st:=tM bw p true hp;have il:isLst (some (eJ bw))=true:=rfl;cases b with|false=>simp|true=>simp[Fr,il,st]
theorem GP(ls:WH)(ss:WU)(D0:UA)(hs:ss.length=ls.length)(i p:Nat)(hi:i<ls.length)(hp:p<ls.length)(as:List Act)(bw:WK)(a9:UA)(R:Rep ls ss as bw a9)(hc:as.countP (isEv p)<=1000) : ∃m7 j9,iy (Fr ls ss D0 bw a9 (.sh (.int i)) (.sh (cv ls i).d) (.sh (.int p)))=.ok .nx (Fr ls ss D0 m7 j9 (.sh (.int i)) (.sh (cv ls i).d) (.sh (.int p)))/\Rep ls ss (as++[.ev i p]) m7 j9:=by
 have kk:=PL.kind (cv ls i);rw[show (cv ls i).k=kd ls i from rfl] at kk;have ixp:=ou ls p hp;have kp:=PL.kind (cv ls p);rw[show (cv ls p).k=kd ls p from rfl] at kp;have s1:=ck ss i T9;have s2:=ck ss p T9;have ik:inD false (.str (nm (kd ls i))) (.lst [.str (nm 6),.str (nm 10),.str (nm 11)])=some (.bl (decide (kd ls i∈S3))):=Ry (kd ls i) (ox ls i) S3 (by simp[S3]);have e7:=BK (kd ls i) 7 (ox ls i) T9;have XS:=BK (kd ls i) 14 (ox ls i) T9;have n1:=WO (kd ls p) 1 (ox ls p) T9;obtain⟨c,VT⟩:∃c,as.countP (isEv p)=c:=⟨_,rfl⟩;have oc:=R.at2 p hp;rw[VT] at oc hc;have io:aq (bJ a9) (.int (p:Int))=some (.int (c:Nat)):=by unfold bJ;rw[iQ];exact j4 _ _ _ T9 (by simp[oc])
 have so:setAt (.int (p:Int)) (.int ((c:Int)+1)) (bJ a9)=some (bJ (a9.set p (c+1))):=by unfold bJ;rw[kK _ _ _ T9 (by simp;have:=R.l2;lia),BA,List.map_set];rfl
 have io2:aq (bJ (a9.set p (c+1))) (.int (p:Int))=some (.int ((c:Int)+1)):=by unfold bJ;rw[iQ];exact j4 _ _ _ T9 (by rw[BA,GF,xP (by have:=R.l2;lia)];rfl)
 have il:isLst (some (bJ a9))=true:=rfl;have Kg:=R.l1;generalize hld:(cv ls i).d=ld at *;generalize hlp:(cv ls p).d=lp at *;unfold iy;rw[cP,show cB 4 _ _ (Fr ls ss D0 bw a9 (.sh (.int i)) (.sh ld) (.sh (.int p)))=.ok .nx (Fr ls ss D0 bw (a9.set p (c+1)) (.sh (.int i)) (.sh ld) (.sh (.int p))) by unfold Fr;exact aK,d6];have t1:(lh (tB (m2 bG (m2 aq (af 6) (mC (.int 0))) (mC (.str (nm 7))))) (tB (m2 bG (m2 aq (af 6) (mC (.int 0))) (mC (.str (nm 14)))))) (Fr ls ss D0 bw (a9.set p (c+1)) (.sh (.int i)) (.sh ld) (.sh (.int p)))=.ok (decide (kd ls i∈H2)) (Fr ls ss D0 bw (a9.set p (c+1)) (.sh (.int i)) (.sh ld) (.sh (.int p))):=by by_cases q:kd ls i=7;have d:decide (kd ls i=7)=true:=Ub q;have d':decide (kd ls i∈H2)=true:=Ub (by rw[q];simp[H2]);rw[d'] ; rw[d] at e7;unfold Fr;exact aK;by_cases q2:kd ls i=14;have d:decide (kd ls i=14)=true:=Ub q2;have d':decide (kd ls i∈H2)=true:=Ub (by rw[q2];simp[H2]);rw[d'];rw[Vy q] at e7;rw[d] at XS;unfold Fr;exact aK;have d':decide (kd ls i∈H2)=false:=Vy (by simp[H2];lia);rw[d'];rw[Vy q] at e7;rw[Vy q2] at XS;unfold Fr;exact aK
 rw[cP,xF ls ss D0 bw _ _ _ p T9 _ _ t1,d6];generalize LX:(if decide (kd ls i∈H2)=true then bw.set p true else bw)=rB;have VU:rB.length=ls.length:=by rw[<-LX];split<;>simp[Kg]
 have t2:(gh (tB (m2 dz (m2 aq (m2 aq (af 0) (af 7)) (mC (.int 0))) (mC (.str (nm 1))))) (tB (m2 xy (bO 4 (af 7)) (mC (.int 1))))) (Fr ls ss D0 rB (a9.set p (c+1)) (.sh (.int i)) (.sh ld) (.sh (.int p)))=.ok (!decide (kd ls p=1)&&decide (1<c+1)) (Fr ls ss D0 rB (a9.set p (c+1)) (.sh (.int i)) (.sh ld) (.sh (.int p))):=by
  by_cases q:kd ls p=1;rw[Ub q] at n1 ⊢;show _=Res.ok false _;unfold Fr;exact aK;rw[Vy q] at n1 ⊢;by_cases z:0<c;have z2:xy (.int ((c:Int)+1)) (.int 1)=some (.bl true):=by rw[uc,Ub T9]
  rw[Ub (Nat.succ_lt_succ z)];show _=Res.ok true _;unfold Fr;exact aK;have z2:xy (.int ((c:Int)+1)) (.int 1)=some (.bl false):=by rw[uc,Vy T9]
  rw[Vy (fun y=>z (Nat.lt_of_succ_lt_succ y))];show _=Res.ok false _;unfold Fr;exact aK
 rw[cP,xF ls ss D0 rB _ _ _ p T9 _ _ t2,d6];generalize hd2:(if (!decide (kd ls p=1)&&decide (1<c+1))=true then rB.set p true else rB)=pR;have VV:pR.length=ls.length:=by rw[<-hd2];split<;>simp[VU]
 have t3:(gh (tB (m2 dz (m2 aq (m2 aq (af 0) (af 7)) (mC (.int 0))) (mC (.str (nm 1))))) (gh (tB (m2 (inD false) (m2 aq (af 6) (mC (.int 0))) (cA [(mC (.str (nm 6))),(mC (.str (nm 10))),(mC (.str (nm 11)))]))) (tB (m2 dz (m2 aq (af 1) (af 7)) (m2 aq (af 1) (af 5)))))) (Fr ls ss D0 pR (a9.set p (c+1)) (.sh (.int i)) (.sh ld) (.sh (.int p)))=.ok (!decide (kd ls p=1)&&(decide (kd ls i∈S3)&&!decide (sd ss p=sd ss i))) (Fr ls ss D0 pR (a9.set p (c+1)) (.sh (.int i)) (.sh ld) (.sh (.int p))):=by by_cases q:kd ls p=1;rw[Ub q] at n1 ⊢;show _=Res.ok false _;unfold Fr;exact aK;rw[Vy q] at n1 ⊢;by_cases q2:kd ls i∈S3;rw[Ub q2] at ik ⊢;have nn:=zW (sd ss p) (sd ss i);show _=Res.ok (!decide (sd ss p=sd ss i)) _;unfold Fr;exact aK;rw[Vy q2] at ik ⊢;show _=Res.ok false _;unfold Fr;exact aK
 rw[cP,xF ls ss D0 pR _ _ _ p T9 _ _ t3,d6];refine⟨_,_,rfl,⟨by split<;>simp[VV],by simp;exact R.l2,fun q hq=>?_,fun q hq=>?_⟩⟩;have cnt:∀q,(as++[Act.ev i p]).countP (isEv q)=as.countP (isEv q)+if p=q then 1 else 0:=fun q=>by rw[List.countP_append];simp[List.countP_cons,isEv]
 by_cases e:p=q;subst e;have g:∀(d:WK)(b x:Bool),p<d.length->d[p]?=some x->(if b=true then d.set p true else d)[p]?=some (x||b):=fun d b x h1 h2=>by cases b;simp[h2];simp[h1]
 have a0:=R.Qp p hp;have a1:=g bw (decide (kd ls i∈H2)) _ T9 a0;rw[LX] at a1;have a2:=g rB (!decide (kd ls p=1)&&decide (1<c+1)) _ T9 a1;rw[hd2] at a2;rw[g pR _ _ T9 a2];congr 1;unfold lX;rw[cnt p,Ge rfl,List.any_append,VT];simp only[List.any_cons,List.any_nil,hits,decide_true,Bool.true_and,Bool.or_false];generalize as.any (hits ls ss p)=x1;generalize decide (kd ls i∈H2)=x2;generalize decide (kd ls p=1)=x3;generalize (decide (kd ls i∈S3)&&!decide (sd ss p=sd ss i))=x4;by_cases z:1<c;have z2:1<c+1:=T9;simp only[Ub z,Ub z2];cases x1<;>cases x2<;>cases x3<;>cases x4<;>rfl;simp only[Vy z];generalize decide (1<c+1)=x5;cases x1<;>cases x2<;>cases x3<;>cases x4<;>cases x5<;>rfl;have g:∀(d:WK)(b:Bool),(if b=true then d.set p true else d)[q]?=d[q]?:=fun d b=>by cases b;simp;simp[List.getElem?_set_ne e]
 rw[g,<-hd2,g,<-LX,g,R.Qp q hq];congr 1;unfold lX;rw[cnt q,UE e,List.any_append];simp[hits,e];rw[List.countP_append];by_cases e:p=q;subst e;rw[xP (by have:=R.l2;lia),VT];simp[List.countP_cons,isEv];rw[H0 e,R.at2 q hq];simp[List.countP_cons,isEv,e]
theorem yW(ls:WH)(ss:WU)(D0:UA)(hs:ss.length=ls.length)(i:Nat)(hi:i<ls.length):∀(ns:UA)(as:List Act)(bw:WK)(a9:UA),(∀r∈ns,r<ls.length)->Rep ls ss as bw a9->as.length+ns.length<=900->∀t,free (some t)=true->∃m7 j9 t',loop (aE 7) iy (ns.map fun k=>D.int (k:Nat)) (Fr ls ss D0 bw a9 (.sh (.int i)) (.sh (cv ls i).d) t)=.ok .nx (Fr ls ss D0 m7 j9 (.sh (.int i)) (.sh (cv ls i).d) t')/\Rep ls ss (as++ns.map (.ev i)) m7 j9/\free (some t')=true
|[],as,bw,a9,_,R,_,t,ht=>⟨bw,a9,t,rfl,by simpa using R,ht⟩|r::ns,as,bw,a9,h,R,hl,t,ht=>by have hr:=h r QI;have hc:as.countP (isEv r)<=as.length:=List.countP_le_length;simp only[List.length_cons] at hl;obtain⟨rB,EA,e1,R1⟩:=GP ls ss D0 hs i r hi hr as bw a9 R T9;obtain⟨pR,qz,t2,e2,R2,f2⟩:=yW ls ss D0 hs i hi ns (as++[.ev i r]) rB EA (fun x hx=>h x (QC _ hx)) R1 (by simp;lia) (.sh (.int r)) rfl;refine⟨pR,qz,t2,?_,by simpa using R2,f2⟩;rw[Po,eA (r':=Fr ls ss D0 rB EA (.sh (.int i)) (.sh (cv ls i).d) (.sh (.int r))) ?_,e2];rw[bH,show aE 7 (.int (r:Int)) (Fr ls ss D0 bw a9 (.sh (.int i)) (.sh (cv ls i).d) t)=.ok () (Fr ls ss D0 bw a9 (.sh (.int i)) (.sh (cv ls i).d) (.sh (.int r))) by simp[Fr,ht]];rw[az,e1];rfl
def gN(ls:WH)(ds:UA):List Act:=ds.flatMap fun i=>.mark i::(fE ls i).map (.ev i)
theorem A9(ls:WH)(ss:WU)(as:List Act)(bw:WK)(a9:UA)(R:Rep ls ss as bw a9)(i:Nat)(hi:i<ls.length):Rep ls ss (as++[.mark i]) (bw.set i (lX ls ss as i||decide (kd ls i∈K4))) a9:=by
 have cnt:∀q,(as++[Act.mark i]).countP (isEv q)=as.countP (isEv q):=fun q=>by rw[List.countP_append];simp[List.countP_cons,isEv]
 refine⟨by simp;exact R.l1,R.l2,fun q hq=>?_,fun q hq=>by rw[cnt];exact R.at2 q hq⟩;by_cases e:i=q;subst e;rw[xP (by have:=R.l1;lia)];congr 1;unfold lX;rw[cnt,List.any_append];simp only[List.any_cons,List.any_nil,hits,decide_true,Bool.true_and,Bool.or_false];generalize as.any (hits ls ss i)=x1;generalize (!decide (kd ls i=1)&&decide (1<as.countP (isEv i)))=x2;generalize decide (kd ls i∈K4)=x3;cases x1<;>cases x2<;>cases x3<;>rfl;rw[H0 e,R.Qp q hq];congr 1;unfold lX;rw[cnt,List.any_append];simp[hits,e]
theorem sP(ls:WH)(ss:WU)(D0:UA)(wf:Wf ls)(hs:ss.length=ls.length):∀(ds:UA)(as:List Act)(bw:WK)(a9:UA),(∀d∈ds,d<ls.length)->Rep ls ss as bw a9->as.length+4*ds.length<=900->∀t5 t6 t7,free (some t5)=true->free (some t6)=true->free (some t7)=true->∃m7 j9 W9 Xa Xb,loop (aE 5) j6 (ds.map fun k=>D.int (k:Nat)) (Fr ls ss D0 bw a9 t5 t6 t7)=.ok .nx (Fr ls ss D0 m7 j9 W9 Xa Xb)/\Rep ls ss (as++gN ls ds) m7 j9
|[],as,bw,a9,_,R,_,t5,t6,t7,_,_,_=>⟨bw,a9,t5,t6,t7,rfl,by simpa[gN] using R⟩|i::ds,as,bw,a9,h,R,hl,t5,t6,t7,h5,h6,h7=>by
 have hi:=h i QI;simp only[List.length_cons] at hl;have ix:=ou ls i hi;have kk:=PL.kind (cv ls i);rw[show (cv ls i).k=kd ls i from rfl] at kk;have i4:inD false (.str (nm (kd ls i))) (.lst [.str (nm 0),.str (nm 12),.str (nm 13),.str (nm 14)])=some (.bl (decide (kd ls i∈K4))):=Ry (kd ls i) (ox ls i) K4 (by simp[K4]);have bi:=i7 bw i _ (R.Qp i hi);have il:isLst (some (eJ bw))=true:=rfl;have st:=tM bw i (lX ls ss as i||decide (kd ls i∈K4)) (by have:=R.l1;lia);have R1:=A9 ls ss as bw a9 R i hi;have rd:=(cv ls i).reads;have fw:=(cv ls i).lu;have nb:∀r∈(cv ls i).ns,r<ls.length:=fun r hr=>by have:=wf i (cv ls i) (by simp[cv,hi]) r hr;lia
 obtain⟨pR,qz,t2,e2,R2,f2⟩:=yW ls ss D0 hs i hi (cv ls i).ns (as++[.mark i]) _ a9 nb R1 (by simp;lia) t7 h7;obtain⟨Vu,M6,W9,Xa,Xb,e3,R3⟩:=sP ls ss D0 wf hs ds _ pR qz (fun x hx=>h x (QC _ hx)) R2 (by simp;lia) (.sh (.int i)) (.sh (cv ls i).d) t2 rfl rfl f2;refine⟨Vu,M6,W9,Xa,Xb,?_,?_⟩;rw[Po,eA (r':=Fr ls ss D0 pR qz (.sh (.int i)) (.sh (cv ls i).d) t2) ?_,e3];rw[bH,show aE 5 (.int (i:Int)) (Fr ls ss D0 bw a9 t5 t6 t7)=.ok () (Fr ls ss D0 bw a9 (.sh (.int i)) t6 t7) by simp[Fr,h5],az];unfold j6;rw[cP,show aN 6 _ (Fr ls ss D0 bw a9 (.sh (.int i)) t6 t7)=.ok .nx (Fr ls ss D0 bw a9 (.sh (.int i)) (.sh (cv ls i).d) t7) by simp[Fr,ix,h6],d6];rw[cP,show cB 3 _ _ (Fr ls ss D0 bw a9 (.sh (.int i)) (.sh (cv ls i).d) t7)=.ok .nx (Fr ls ss D0 (bw.set i (lX ls ss as i||decide (kd ls i∈K4))) a9 (.sh (.int i)) (.sh (cv ls i).d) t7) by generalize lX ls ss as i=x at *;cases x;simp only[Bool.false_or] at st ⊢;simp[Fr,bi,kk,i4,il,st];simp only[Bool.true_or] at st ⊢;simp[Fr,bi,il,st],d6];rw[cP,show eG _ _ _ (Fr ls ss D0 (bw.set i (lX ls ss as i||decide (kd ls i∈K4))) a9 (.sh (.int i)) (.sh (cv ls i).d) t7)=.ok .nx (Fr ls ss D0 pR qz (.sh (.int i)) (.sh (cv ls i).d) t2) by rw[<-e2];simp[Fr,rd],d6];rfl;have e:as++gN ls (i::ds)=as++[Act.mark i]++List.map (Act.ev i) (cv ls i).ns++gN ls ds:=by simp[gN,fE]
 rw[e];exact R3
theorem Q2D(ls:WH)(ss:WU)(p:Nat)(ds:UA):(gN ls ds).any (hits ls ss p)=true<->(p∈ds/\kd ls p∈K4)\/∃i∈ds,p∈fE ls i/\(kd ls i∈H2\/(kd ls p≠1/\kd ls i∈S3/\sd ss p≠sd ss i)):=by unfold gN;rw[List.any_eq_true];constructor;rintro⟨a,ha,h⟩;obtain⟨i,hi,ha⟩:=List.mem_flatMap.mp ha;rcases List.mem_cons.mp ha with rfl|ha;simp[hits] at h;obtain⟨rfl,h⟩:=h;exact .inl ⟨hi,h⟩;obtain⟨q,hq,rfl⟩:=List.mem_map.mp ha;simp[hits] at h;obtain⟨rfl,h⟩:=h;exact .inr ⟨i,hi,hq,h⟩;rintro (⟨h1,h2⟩|⟨i,h1,h2,h3⟩);exact⟨.mark p,List.mem_flatMap.mpr ⟨p,h1,QI⟩,by simp[hits,h2]⟩;exact⟨.ev i p,List.mem_flatMap.mpr ⟨i,h1,QC _ (List.mem_map.mpr ⟨p,h2,rfl⟩)⟩,by simp[hits];exact h3⟩
theorem Q2K(xs:UA)(p:Nat)(i:Nat):(xs.map (Act.ev i)).countP (isEv p)=(xs.filter fun r=>decide (r=p)).length:=by rw[List.countP_map,List.countP_eq_length_filter];rfl
theorem pG(ls:WH)(p:Nat):∀ds:UA,(gN ls ds).countP (isEv p)=(ds.flatMap fun i=>((fE ls i).filter (fun r=>decide (r=p))).map fun _=>i).length|[]=>rfl|d::ds=>by have ih:=pG ls p ds;unfold gN at ih ⊢;rw[List.flatMap_cons,List.flatMap_cons,List.countP_append,xU,ih,List.countP_cons,Q2K];simp[isEv]
theorem rG(ls:WH)(w:WK)(p:Nat):cN ls w p=((List.range ls.length).filter fun i=>w.getD i false).flatMap fun i=>((fE ls i).filter (fun r=>decide (r=p))).map fun _=>i:=by unfold cN;generalize List.range ls.length=xs;induction xs with|nil=>rfl|cons x xs ih=>rw[List.flatMap_cons,ih,HW];by_cases q:w.getD x false=true;rw[Ge q,Ge q,List.flatMap_cons];rw[UE q,UE q];rfl
theorem uv(ls:WH)(w:WK)(ds:UA)(p:Nat)(nd:ds.Nodup)(hm:∀i,i∈ds<->i<ls.length/\w.getD i false=true):(cN ls w p).length=(gN ls ds).countP (isEv p):=by
 rw[pG,rG];have pm:((List.range ls.length).filter fun i=>w.getD i false).Perm ds:=by refine(List.perm_ext_iff_of_nodup (List.Pairwise.filter _ List.nodup_range) nd).mpr fun i=>?_;rw[List.mem_filter,List.mem_range,hm]
 exact(pm.flatMap_right _).length_eq
theorem AZ(ls:WH)(ss:WU)(wf:Wf ls)(h0:ls≠[])(w:WK)(hw:w.length=ls.length)(hr:∀i,w[i]?=some true<->oV ls i)(ds:UA)(nd:ds.Nodup)(hd:∀i,i∈ds<->oV ls i)(p:Nat)(hp:p<ls.length) : (w.getD p false&&jF ls ss p (cN ls w p))=(decide (p=ls.length-1)||lX ls ss (gN ls ds) p):=by
 have wg:∀i,i<ls.length->(w.getD i false=true<->oV ls i):=fun i hi=>by rw[<-hr i];have:i<w.length:=T9;simp[this]
 have hm:∀i,i∈ds<->i<ls.length/\w.getD i false=true:=fun i=>by rw[hd];constructor;intro h;have:=h.lt wf h0;exact⟨this,(wg i this).mpr h⟩;rintro⟨h1,h2⟩;exact(wg i h1).mp h2
 have nc:=uv ls w ds p nd hm;have ac:=Q2D ls ss p ds;have Sj:∀i,i∈cN ls w p<->i∈ds/\p∈fE ls i:=fun i=>by rw[lE,hm];constructor;rintro⟨a,b,c⟩;exact⟨⟨a,b⟩,c⟩;rintro⟨⟨a,b⟩,c⟩;exact⟨a,b,c⟩
 rw[Bool.eq_iff_iff];by_cases q:oV ls p;rw[(wg p hp).mpr q,Bool.true_and];have pd:=(hd p).mpr q;unfold jF lX;simp only[Bool.or_eq_true,decide_eq_true_eq,Bool.and_eq_true,Bool.not_eq_true',decide_eq_false_iff_not,List.any_eq_true];rw[List.any_eq_true] at ac;rw[ac,<-nc];constructor;rintro (((h|h)|⟨i,h1,h2⟩)|⟨h1,h|⟨i,h2,h3⟩⟩);exact .inl h;exact .inr (.inl (.inl ⟨pd,h⟩));obtain⟨a,b⟩:=(Sj i).mp h1;exact .inr (.inl (.inr ⟨i,a,b,.inl h2⟩));exact .inr (.inr ⟨h1,h⟩);obtain⟨a,b⟩:=(Sj i).mp h2;simp[Gk] at h3;exact .inr (.inl (.inr ⟨i,a,b,.inr ⟨h1,h3.1,fun z=>h3.2 z.symm⟩⟩));rintro (h|((⟨_,h⟩|⟨i,a,b,h|⟨h1,h2,h3⟩⟩)|⟨h1,h2⟩));exact .inl (.inl (.inl h));exact .inl (.inl (.inr h));exact .inl (.inr ⟨i,(Sj i).mpr ⟨a,b⟩,h⟩);exact .inr ⟨h1,.inr ⟨i,(Sj i).mpr ⟨a,b⟩,by simp[Gk];exact⟨h2,fun z=>h3 z.symm⟩⟩⟩;exact .inr ⟨h1,.inl h2⟩;have z:w.getD p false=false:=by cases e:w.getD p false with|false=>rfl|true=>exact absurd ((wg p hp).mp e) q
 rw[z,Bool.false_and];constructor;intro h;cases h;intro h;refine absurd ?_ q;unfold lX at h;simp only[Bool.or_eq_true,decide_eq_true_eq,Bool.and_eq_true] at h;rcases h with h|(h|⟨_,h⟩);subst h;exact .last;rcases ac.mp h with ⟨h,_⟩|⟨i,h1,h2,_⟩
 exact(hd p).mp h;have hi:=(hd i).mp h1;have Ur:=hi.lt wf h0;exact .step hi (l:=cv ls i) (by simp[cv,Ur]) h2;have hn:0<(cN ls w p).length:=by rw[nc];lia
 obtain⟨i,hi⟩:=List.exists_mem_of_length_pos hn;obtain⟨a,b⟩:=(Sj i).mp hi;have Ya:=(hd i).mp a;have Ur:=Ya.lt wf h0;exact .step Ya (l:=cv ls i) (by simp[cv,Ur]) b
theorem A2(ls:WH)(ss:WU)(wf:Wf ls)(h0:ls≠[])(hl:ls.length<=100)(hs:ss.length=ls.length)(w:WK)(hw:w.length=ls.length)(hr:∀i,w[i]?=some true<->oV ls i):sy [Pg ls,bF ss]=.ok (eJ (j5 ls ss w)) []:=by
 rw[sy,dh _ _ _ _ rfl];obtain⟨ds,e1,nd,hd⟩:=Q2C ls wf h0 hl;have hn:=List.length_pos_iff.mpr h0;have ln:=iu ls;have m1:mulL (.lst [.bl false]) (.int (ls.length:Int))=some (eJ (List.replicate ls.length false)):=by
  have:mulL (.lst [.bl false]) (.int (ls.length:Int))=if -(eL:Int)<=(ls.length:Int)/\(ls.length:Int)<=eL/\[D.bl false].length*(ls.length:Int).toNat<=eL then some (.lst (List.replicate (ls.length:Int).toNat [D.bl false]).flatten) else none:=rfl
  rw[this,Ge ⟨by simp[eL]<;>lia,by simp[eL]<;>lia,by simp[eL];lia⟩,BA];unfold eJ;simp
 have m2:mulL (.lst [.int 0]) (.int (ls.length:Int))=some (bJ (List.replicate ls.length 0)):=by
  have:mulL (.lst [.int 0]) (.int (ls.length:Int))=if -(eL:Int)<=(ls.length:Int)/\(ls.length:Int)<=eL/\[D.int 0].length*(ls.length:Int).toNat<=eL then some (.lst (List.replicate (ls.length:Int).toNat [D.int 0]).flatten) else none:=rfl
  rw[this,Ge ⟨by simp[eL]<;>lia,by simp[eL]<;>lia,by simp[eL];lia⟩,BA];unfold bJ;simp
 have R0:Rep ls ss [] (List.replicate ls.length false) (List.replicate ls.length 0):=⟨G9,G9,fun p hp=>by simp[hp,lX],fun p hp=>by simp[hp]⟩;have dl:ds.length<=ls.length:=qx _ _ nd fun x hx=>((hd x).mp hx).lt wf h0;obtain⟨bw,a9,t5,t6,t7,L,R⟩:=sP ls ss ds wf hs ds [] _ _ (fun d h=>((hd d).mp h).lt wf h0) R0 (by simp;lia) .no .no .no rfl rfl rfl;rw[U7] at R;have sl:setAt (.int (-1)) (.bl true) (eJ bw)=some (eJ (bw.set (ls.length-1) true)):=by
  unfold eJ;show (BN _ (-1)).map _=_;have:BN (bw.map D.bl).length (-1)=some (ls.length-1):=by unfold BN;rw[UE T9,Ge (by simp;have:=R.l1;lia)];simp;have:=R.l1;lia
  rw[this,List.map_set];rfl
 have ef:bw.set (ls.length-1) true=j5 ls ss w:=by
  refine DU fun p=>?_;by_cases hp:p<ls.length;have r:(j5 ls ss w)[p]?=some (w.getD p false&&jF ls ss p (cN ls w p)):=by simp[j5,hp]
  rw[r,AZ ls ss wf h0 w hw hr ds nd hd p hp];by_cases e:ls.length-1=p;subst e;rw[xP (by have:=R.l1;lia)];simp;have e':¬p=ls.length-1:=fun z=>e z.symm;rw[H0 e,R.Qp p hp];simp[e'];rw[Iv (by simp;have:=R.l1;lia),Iv (by simp[j5];lia)]
 rw[ef] at sl;have il:isLst (some (eJ bw))=true:=rfl;have sq:cy (bJ ds)=some (ds.map fun k=>D.int (k:Nat)):=rfl;unfold Cg;simp only[km,lJ,qP,Fe,if_neg (show ¬(false=true) by decide)];rw[cP,show aN 2 _ _=.ok .nx [.sh (Pg ls),.sh (bF ss),.sh (bJ ds),.no,.no,.no,.no,.no] by simp[e1],d6];rw[cP,show dZ 3 _ _=.ok .nx [.sh (Pg ls),.sh (bF ss),.sh (bJ ds),.ow (eJ (List.replicate ls.length false)),.no,.no,.no,.no] by simp[ln,m1],d6];rw[cP,show dZ 4 _ _=.ok .nx (Fr ls ss ds (List.replicate ls.length false) (List.replicate ls.length 0) .no .no .no) by simp[ln,m2,Fr],d6];rw[cP,show eG _ _ _ _=.ok .nx (Fr ls ss ds bw a9 t5 t6 t7) by rw[<-L];simp[Fr,sq],d6];unfold Fr;simp[il,sl]
theorem kx(i:Int):n6 [.int i]=.ok (.bl true) []:=by rw[n6,dh _ _ _ _ rfl];simp[Co]
theorem Ez(xs:R4)(y:D)(x:D):∀s,free (some s)=true->∃a,loop (aE 2) gU (xs.map .int) [.sh x,.sh y,s]=.ok .nx [.sh x,.sh y,a]:=by induction xs with|nil=>intro s _;exact⟨_,rfl⟩|cons i xs ih=>intro s hs;obtain⟨a,ha⟩:=ih (.sh (.int i)) rfl;refine⟨a,?_⟩;rw[<-ha];simp[hs,gU,kx]
theorem xY(xs ys:R4):jS [T xs,T ys]=.ok (.bl (decide (xs=ys))) []:=by rw[jS,dh _ _ _ _ rfl];obtain⟨a,ha⟩:=Ez xs (T ys) (T xs) .no rfl;unfold Ci;by_cases h:xs.length=ys.length;have h':(xs.length:Int)=ys.length:=T9;simp[ha,h];have h':¬(xs.length:Int)=ys.length:=T9;have:xs≠ys:=fun e=>h (by rw[e]);simp[h',this]
theorem Q2c(x y z:D):Lx [.ins "Load" [] [],x,y,z]=.ok .bC [.ins "Load" ["line","sides","table"] [x,y,z]]:=UC
theorem Md(x y z:D):Lu [.ins "Fill" [] [],x,y,z]=.ok .bC [.ins "Fill" ["line","sides","tree"] [x,y,z]]:=UC
theorem Me(x y a b c z:D):Lv [.ins "Fold" [] [],x,y,a,b,c,z]=.ok .bC [.ins "Fold" ["line","sides","side","size","deed","tree"] [x,y,a,b,c,z]]:=UC
theorem AX(x y a b z:D):Dl [.ins "Through" [] [],x,y,a,b,z]=.ok .bC [.ins "Through" ["line","sides","side","deed","tree"] [x,y,a,b,z]]:=UC
theorem Mg(x y a b c z:D):Lz [.ins "Pick" [] [],x,y,a,b,c,z]=.ok .bC [.ins "Pick" ["line","sides","side","source","places","source_sides"] [x,y,a,b,c,z]]:=UC
theorem Bl(x:D)(t:Tr)(h1:bK fj x=some (.bl false))(h2:bK gc x=some (.bl false))(h3:aZ gH "tree" x=some t.d)(hd:t.dep<=14):pW [x]=.ok (bJ t.rs) []:=by have e:Dr [t.d]=.ok (bJ t.rs) []:=Q1L t 64 T9 hd;generalize t.d=td at *;unfold pW Cr;exact rn
theorem Tr.node(t:Tr):bK qm t.d=some (.bl true):=by cases t<;>kernel_rfl!
theorem XT(i:Int):bG (.int i) (.int i)=some (.bl true):=by rw[jg,Ub rfl]
theorem j8(s:R4):jS [T s,T s]=.ok (.bl true) []:=by rw[xY,Ub rfl]
theorem vm{d:Nat}(h:d<32):bG (.str (nm d)) (.str (nm d))=some (.bl true):=by rw[BK d d h h,Ub rfl]
theorem Q2M(x S:D)(j:Int)(h1:bK j0 x=some (.bl true))(h2:bK fj x=some (.bl true))(h3:aZ jT "table" x=some (.int j)):gy [x,.tup [.str (nm 0),.int j],S]=.ok (.bl true) []:=by have w:=kx j;have q:=XT j;unfold gy pJ;exact rn
section
variable(x S:D)(t:Tr)(h1:bK j0 x=some (.bl true))(h2:bK fj x=some (.bl false))(h3:bK gc x=some (.bl false))(h4:aZ gH "tree" x=some t.d)
include h1 h2 h3 h4
theorem G7(d b:Nat)(j z:Int)(s:D)(hd:d<32)(h5:bK ql x=some (.bl true))(h6:aZ eX "side" x=some (.int j))(h7:aZ kD "size" x=some (.int z))(h8:aZ gG "deed" x=some (.str (nm d)))(hs:aq S (.int (b:Int))=some s)(hz:aq s (.int j)=some (.int z)):gy [x,.tup [.str (nm 12),.str (nm d),.int b,.int j],S]=.ok (.bl true) []:=by have n:=t.node;have m:jS [.tup [.int j,.int z],.tup [.int j,.int z]]=.ok (.bl true) []:=j8 [j,z];have q:=vm hd;generalize t.d=td at *;unfold gy pJ;exact rn
theorem Mp(d b:Nat)(j:Int)(hd:d<32)(h5:bK j3 x=some (.bl true))(h6:aZ eX "side" x=some (.int j))(h8:aZ gG "deed" x=some (.str (nm d))):gy [x,.tup [.str (nm 13),.str (nm d),.int b,.int j],S]=.ok (.bl true) []:=by have n:=t.node;have w:=kx j;have q:=XT j;have q2:=vm hd;generalize t.d=td at *;unfold gy pJ;exact rn
theorem G6(l:PL)(hk:l.k∉[0,12,13,14])(h5:bK qk x=some (.bl true)):gy [x,l.d,S]=.ok (.bl true) []:=by
 have n:=t.node;have k1:=l.kind;have Mu:=l.Mu;have ui:l.k≠0/\l.k≠12/\l.k≠13/\l.k≠14:=by simpa using hk
 have ne:∀j,j<32->l.k≠j->bG (.str (nm l.k)) (.str (nm j))=some (.bl false):=fun j hj h=>by rw[BK _ _ T9 hj,Vy h]
 have n0:=ne 0 T9 ui.1;have Z8:=ne 12 T9 ui.2.1;have Z9:=ne 13 T9 ui.2.2.1;have n14:=ne 14 T9 ui.2.2.2;have i3:inD true (.str (nm l.k)) (.lst [.str (nm 12),.str (nm 13),.str (nm 14)])=some (.bl true):=by obtain⟨h1,h2⟩:=Wt l.k T9 [12,13,14] G9;rw[Vy (by simp;lia)] at h1;show inD true (.str (nm l.k)) (.lst ([12,13,14].map fun j=>D.str (nm j)))=_;unfold inD;rw[qT];dsimp only;rw[h2,h1];rfl
 generalize t.d=td at *;generalize l.d=ld at *;generalize nm l.k=kk at *;unfold gy pJ;exact rn
end
theorem G8(x S:D)(b c:Nat)(k:Int)(s:R4)(h1:bK j0 x=some (.bl true))(h2:bK fj x=some (.bl false))(h3:bK gc x=some (.bl true))(h4:aZ eX "side" x=some (.int k))(h5:aZ iO "source" x=some (.int b))(h6:aZ iN "places" x=some (.int c))(h7:aZ dM "source_sides" x=some (T s))(hs:aq S (.int (b:Int))=some (T s)):gy [x,.tup [.str (nm 14),.int b,.int k,.int c],S]=.ok (.bl true) []:=by have m:jS [.tup [.int k,.int b,.int c],.tup [.int k,.int b,.int c]]=.ok (.bl true) []:=j8 [k,b,c];have m2:=j8 s;generalize T s=s' at *;unfold gy pJ;exact rn
structure wR(ls:WH)(ss:WU)(kp:WK)(a:Nat)(x:D):Prop where
 line:aZ eW "line" x=some (.int a)
 Ta:aZ cu "sides" x=some (T (sd ss a))
 own:∃rs,pW [x]=.ok (bJ rs) []/\∀r,r∈rs<->FU ls kp a r
 Yq:gy [x,(cv ls a).d,bF ss]=.ok (.bl true) []
theorem nD{ls:WH}{ss:WU}{kp:WK}{a:Nat}{x:D}(t:Tr)(h0:aZ eW "line" x=some (.int a))(hs:aZ cu "sides" x=some (T (sd ss a)))(h1:bK fj x=some (.bl false))(h2:bK gc x=some (.bl false))(h3:aZ gH "tree" x=some t.d)(hd:t.dep<=14)(hr:∀r,r∈t.rs<->FU ls kp a r)(h4:gy [x,(cv ls a).d,bF ss]=.ok (.bl true) []):wR ls ss kp a x:=⟨h0,hs,⟨_,Bl x t h1 h2 h3 hd,hr⟩,h4⟩
section
variable{gs:WU}{ls:WH}{ss:WU}{ix_:Nat}(g:Gd gs ls ss ix_){kp:WK}(K:Kp ls kp)(rk:ls.length<=14)
include g K rk
theorem Q15(a:Nat)(ha:kp[a]?=some true):∃x,lZ [Pg ls,bF ss,eJ kp,.int a]=.ok x []/\wR ls ss kp a x:=by
 have hr:=K.want a ha;have oj:=hr.lt g.wf g.ne;have hT:=uQ g oj;have hi:=ou ls a oj;have hs:=ck ss a (by have:=g.len;lia);have sl:=(oC g oj).1;have Kq:∀b∈fE ls a,b<ls.length/\oV ls b/\aq (bF ss) (.int (b:Int))=some (T (sd ss b)):=fun b hb=>by have:=qw g oj hb;exact⟨T9,.step hr (mj oj) hb,ck ss b (by have:=g.len;lia)⟩
 have PX:∀b∈fE ls a,∃(w:WI)(t:Tr),pX [.int ((sd ss b).length:Nat)]=.ok (WD w) []/\yY [Wv ls ss kp (sd ss b).length,.int b,WD w]=.ok t.d []/\t.dep<=14/\∀r,r∈t.rs<->tH ls kp b r:=fun b hb=>by obtain⟨h1,h2,_⟩:=Kq b hb;have h4:=(oC g h1).1;obtain⟨w,e1,hw⟩:=wt (sd ss b).length T9;obtain⟨t,e,d1,d2⟩:=vU g K b h1 h2 64 T9 (sd ss b).length w hw T9;exact⟨w,t,e1,e,T9,d2⟩
 by_cases hk:kd ls a∈[0,12,13,14];unfold kd at hk;unfold fE at Kq PX;obtain⟨l,hl⟩:∃l,cv ls a=l:=⟨_,rfl⟩;have UN:∀r,FU ls kp a r<->∃b∈l.ns,tH ls kp b r:=fun r=>by unfold FU fE;rw[hl]
 have PH:=K.k2 a hr;unfold kd fE at PH;rw[hl] at hk hT hi Kq PX PH;cases l with
 |given j=>have hi:aq (Pg ls) (.int (a:Int))=some (.tup [.str (nm 0),.int j]):=hi;have i1:=Q2c (.int a) (T (sd ss a)) (.int j);refine⟨.ins "Load" ["line","sides","table"] [.int a,T (sd ss a),.int j],?_,UC,UC,⟨[],UC,fun r=>by rw[UN];simp[PL.ns]⟩,by rw[hl];exact Q2M _ _ j UC UC UC⟩;unfold lZ pK;exact rn|fold d b k=>have V1:d<32:=hT.l7;obtain⟨j,rfl,hj,_⟩:=hT;obtain⟨h1,h2,h3⟩:=Kq b (by simp[PL.ns]);obtain⟨w,t,e1,e2,d1,d2⟩:=PX b (by simp[PL.ns]);have hi:aq (Pg ls) (.int (a:Int))=some (.tup [.str (nm 12),.str (nm d),.int b,.int j]):=hi;have i2:=ub (sd ss b) j hj;generalize (sd ss b).getD j 0=z at *;have i1:=Me (.int a) (T (sd ss a)) (.int j) (.int z) (.str (nm d)) t.d;have wi:=Pf ls ss kp (sd ss b).length;have w3:=FL ls ss kp (sd ss b).length;refine⟨_,?_,nD t (x:=.ins "Fold" ["line","sides","side","size","deed","tree"] [.int a,T (sd ss a),.int j,.int z,.str (nm d),t.d]) UC UC UC UC UC d1 (fun r=>by rw[UN,d2];simp[PL.ns]) (by rw[hl];exact G7 _ _ t UC UC UC UC d b j z _ V1 UC UC UC UC h3 i2)⟩;generalize Wv ls ss kp (sd ss b).length=W at *;generalize t.d=td at *;unfold lZ pK;exact rn|run d b k=>have V1:d<32:=hT.l7;obtain⟨j,rfl,hj,_,hS⟩:=hT;obtain⟨h1,h2,h3⟩:=Kq b (by simp[PL.ns]);obtain⟨w,t,e1,e2,d1,d2⟩:=PX b (by simp[PL.ns]);rw[<-hS] at e1 e2;have hi:aq (Pg ls) (.int (a:Int))=some (.tup [.str (nm 13),.str (nm d),.int b,.int j]):=hi;have i1:=AX (.int a) (T (sd ss a)) (.int j) (.str (nm d)) t.d;have wi:=Pf ls ss kp (sd ss a).length;have w3:=FL ls ss kp (sd ss a).length;refine⟨_,?_,nD t (x:=.ins "Through" ["line","sides","side","deed","tree"] [.int a,T (sd ss a),.int j,.str (nm d),t.d]) UC UC UC UC UC d1 (fun r=>by rw[UN,d2];simp[PL.ns]) (by rw[hl];exact Mp _ _ t UC UC UC UC d b j V1 UC UC UC)⟩;generalize Wv ls ss kp (sd ss a).length=W at *;generalize t.d=td at *;unfold lZ pK;exact rn|pick b k c=>
  have kb:=PH (by simp[PL.k]) b (by simp[PL.ns]);have kc:=PH (by simp[PL.k]) c (by simp[PL.ns]);obtain⟨h1,h2,h3⟩:=Kq b (by simp[PL.ns]);have hi:aq (Pg ls) (.int (a:Int))=some (.tup [.str (nm 14),.int b,.int k,.int c]):=hi;have i1:=Mg (.int a) (T (sd ss a)) (.int k) (.int b) (.int c) (T (sd ss b));have rr:∀r,FU ls kp a r<->r∈[b,c]:=fun r=>by rw[UN];simp[PL.ns,tH.kept kb,tH.kept kc]
  refine⟨.ins "Pick" ["line","sides","side","source","places","source_sides"] [.int a,T (sd ss a),.int k,.int b,.int c,T (sd ss b)],?_,UC,UC,⟨[b,c],UC,fun r=>(rr r).symm⟩,by rw[hl];exact G8 _ _ b c k (sd ss b) UC UC UC UC UC UC UC h3⟩;unfold lZ pK;exact rn
 |_=>simp[PL.k] at hk
 have w0:=Pf ls ss kp (sd ss a).length;obtain⟨w,e1,hw⟩:=wt (sd ss a).length T9;obtain⟨t,e2,d1,d2⟩:=zT g oj hk (fun h=>K.k2 a hr (by rw[h];simp)) (n:=61) (fun b hb n' DK=>vU g K b (Kq b hb).1 (Kq b hb).2.1 n' (by have:=qw g oj hb;lia)) (sd ss a).length w hw T9;have e2:Dm [Wv ls ss kp (sd ss a).length,.int a,WD w]=.ok t.d []:=e2;have i1:=Md (.int a) (T (sd ss a)) t.d;have w2:=TL ls ss kp (sd ss a).length;refine⟨_,?_,nD t (x:=.ins "Fill" ["line","sides","tree"] [.int a,T (sd ss a),t.d]) UC UC UC UC UC T9 d2 (G6 _ _ t UC UC UC UC _ hk UC)⟩;have k1:=(cv ls a).kind;have WA:=(cv ls a).Mu;have ui:kd ls a≠0/\kd ls a≠12/\kd ls a≠13/\kd ls a≠14:=by simpa using hk
 unfold kd at ui;have ne:∀j,j<32->(cv ls a).k≠j->bG (.str (nm (cv ls a).k)) (.str (nm j))=some (.bl false):=fun j hj h=>by rw[BK _ _ T9 hj,Vy h]
 have n0:=ne 0 T9 ui.1;have Z8:=ne 12 T9 ui.2.1;have Z9:=ne 13 T9 ui.2.2.1;have n14:=ne 14 T9 ui.2.2.2;generalize Wv ls ss kp (sd ss a).length=W at *;generalize t.d=td at *;generalize (cv ls a).d=ld at *;generalize nm (cv ls a).k=kn at *;unfold lZ pK;exact rn
end
section
variable{n:Nat}{as:UA}{X:Nat->D}{rd:Nat->UA}{ss:WU}(L:Pm n as X rd ss)
theorem noLs_N:∀ks:UA,noLs (ks.map fun k=>D.int (k:Nat))=true|[]=>rfl|k::ks=>by rw[Po,noLs,noLs_N ks];rfl
theorem Q0S(m:UH):D6 (Dc m)=some ((m.map (·.1)).map fun(k:Nat)=>D.int (k:Int)):=by show some ((m.map fun p=>(.inl (p.1:Int):Sum Int Str)).map D5)=_;rw[S6,S6];rfl
def yF(as:UA)(rd:Nat->UA)(i:Nat)(R:UH):Prop:=R.map (·.1)=as.take i/\(∀p∈R,p.2<=49)/\(∀j<i,∃v,fP R (as.getD j 0)=some v)/\∀j j',j<j'->j'<i->(∃q,j'<=q/\q<as.length/\as.getD j 0∈rd (as.getD q 0))->fP R (as.getD j 0)≠fP R (as.getD j' 0)
theorem q8{as:UA}{i k:Nat}(hi:i<=as.length)(h:k∈as.take i):∃j,j<i/\as.getD j 0=k:=by obtain⟨j,hj,e⟩:=List.mem_iff_getElem.mp h;simp only[List.length_take] at hj;have h2:j<as.length:=T9;exact⟨j,T9,by rw[<-e];simp[h2]⟩
theorem zF:∀(is:R4)(a B:Int),a<=B->(∀x∈is,x<=B)->is.foldl (fun a b=>if a<b then b else a) a<=B|[],a,B,h,_=>h|i::is,a,B,h,h2=>by rw[OL];refine zF is _ B ?_ fun x hx=>h2 x (QC _ hx);split;exact h2 i QI;exact h
theorem Q0U(R:UH)(h:R≠[])(LP:∀p∈R,p.2<=49):∃mx:Nat,oA (Dc R)=some (.int (mx:Int))/\mx<=49/\∀p∈R,p.2<=mx:=by
 cases R with
 |nil=>exact absurd rfl h|cons p R=>
  have e:ff ((p::R).map fun p=>D.int (p.2:Int))=some ((p.2:Int)::R.map fun p=>(p.2:Int)):=by have:=kE ((p::R).map fun p=>(p.2:Int));rw[S6] at this;exact this
  obtain⟨h1,h2⟩:=tX (R.map fun p=>(p.2:Int)) (p.2:Int);have h3:=zF (R.map fun p=>(p.2:Int)) (p.2:Int) 49 (by have:=LP p QI;lia) fun x hx=>by obtain⟨q,hq,rfl⟩:=List.mem_map.mp hx;have:=LP q (QC _ hq);lia
  have ev:oA (Dc (p::R))=some (.int ((R.map fun p=>(p.2:Int)).foldl (fun a b=>if a<b then b else a) (p.2:Int))):=by show (match ff ((p::R).map fun p=>D.int (p.2:Int)) with|some (i::is)=>some (D.int (is.foldl (fun a b=>if a<b then b else a) i))|_=>none)=_;rw[e]
  generalize (R.map fun p=>(p.2:Int)).foldl (fun a b=>if a<b then b else a) (p.2:Int)=z at *;refine⟨z.toNat,by rw[ev,show ((z.toNat:Nat):Int)=z by lia],T9,fun q hq=>?_⟩;rcases List.mem_cons.mp hq with rfl|hq
  lia
  have:=h2 (q.2:Int) (Jv (f:=fun p=>(p.2:Int)) hq);lia
include L
theorem IS:∃R,zm [kP as X]=.ok (Dc R) []/\yF as rd as.length R:=by
 obtain⟨m,em,⟨hK,hV⟩,hm⟩:=Hq L;have en:=De as X;have RK:∀i,i+1<as.length->∃v,fP m (as.getD i 0)=some v:=fun i hi=>by obtain⟨a,ha,hr⟩:=L.all i hi;obtain⟨q,hq,e⟩:=at_of L ha;rw[<-e] at hr;obtain⟨v,_,h⟩:=hm q hq _ hr;exact⟨v,h⟩
 obtain⟨R,t,hP,ht,Lp⟩:=cV (g:=cJ [3,4]) (body:=gI) (fun(i:Nat)=>D.tup [.int i,X (as.getD i 0)]) (fun(R:UH)(t:Sl×Sl×Sl)=>[.sh (kP as X),.sh (Dc m),.ow (Dc R),t.1,t.2.1,t.2.2]) zG (List.range as.length) (yF as rd) [] (.no,.no,.no) ⟨rfl,rfl,rfl⟩ ⟨G9,G9,fun j hj=>T9,fun j j' _ h=>T9⟩ (by
  intro i k hk R t ht hP;obtain⟨rfl,hk⟩:=fF hk;obtain⟨t3,t4,t5⟩:=t;obtain⟨f3,f4,f5⟩:=ht;dsimp only at f3 f4 f5;obtain⟨p1,p2,p3,p4⟩:=hP;have ha:=w8 hk;have li:=L.line _ ha;let lv:=fun j:Nat=>(fP m j).getD 0;let rv:=fun j:Nat=>(fP R j).getD 0;have Yh:∀j∈as.take k,fP m j=some (lv j):=fun j hj=>by obtain⟨q,hq,e⟩:=q8 T9 hj;obtain⟨v,h⟩:=RK q T9;rw[e] at h;show _=some ((fP m j).getD 0);rw[h];rfl
  have Ym:∀j∈as.take k,fP R j=some (rv j):=fun j hj=>by obtain⟨q,hq,e⟩:=q8 T9 hj;obtain⟨v,h⟩:=p3 q hq;rw[e] at h;show _=some ((fP R j).getD 0);rw[h];rfl
  obtain⟨nd,V7⟩:∃nd:UA,nd=((as.take k).filter fun j=>decide (k<=lv j)).map rv:=⟨_,rfl⟩;have ks:=Q0S R;rw[p1] at ks;obtain⟨xa,ZR⟩:∃xa,xa=X (as.getD k 0):=⟨_,rfl⟩;obtain⟨xs,ZT⟩:∃xs,xs=kP as X:=⟨_,rfl⟩;rw[<-ZR] at li ⊢;rw[<-ZT];have c:aU 1 (vP (af 2)) (aE 6) gF gE [.sh xs,.sh (Dc m),.sh (Dc R),.sh (.int k),.sh xa,fJ t5]=.ok (.lst (nd.map fun j=>D.int (j:Nat))) [.sh xs,.sh (Dc m),.sh (Dc R),.sh (.int k),.sh xa,fJ t5]:=by
   refine tQ (fun(j:Nat)=>D.int (j:Int)) (fun j=>decide (k<=lv j)) (fun j=>D.int (rv j:Nat)) (as.take k) aK (by have:=L.lu;simp;lia) (by rw[V7,S6];rfl) (fun j hj acc=>?_) fun j hj _ acc=>?_;have g1:=nq m j (lv j) (Yh j hj);have ge:Um (.int (lv j:Int)) (.int (k:Int))=some (.bl (decide (k<=lv j))):=by rw[LN,decide_eq_decide.mpr (show (k:Int)<=lv j<->k<=lv j by lia)]
   generalize lv j=v at *;unfold gF;exact aK;have g1:=nq R j (rv j) (Ym j hj);generalize rv j=v at *;unfold gE;exact aK
  have vw:lb (aU 1 (vP (af 2)) (aE 6) gF gE) [.sh xs,.sh (Dc m),.ow (Dc R),.sh (.int k),.sh xa,t5]=.ok (bJ nd) [.sh xs,.sh (Dc m),.ow (Dc R),.sh (.int k),.sh xa,t5]:=by rw[vQ];simp only[List.map_cons,List.map_nil,wD,wF];rw[c,wC _ _ _ (noLs_N nd)];rfl
  have ndl:nd.length<=49:=by
   rw[V7,UR];have:=FH (fun j=>decide (k<=lv j)) (as.take k);have h3:=L.lu;have h4:=List.length_take_le k as;have h5:=M1 (i:=k) (l:=as)
   lia
  obtain⟨r,lo,hr,Wc⟩:=A5 nd ndl;have Rl:R.length<=14:=by have:=congrArg List.length p1;simp only[List.length_map,List.length_take] at this;have:=L.lu;lia
  have pt:=E6 R (as.getD k 0) r T9;have Kj:fP R (as.getD k 0)=none:=by
   cases e:fP R (as.getD k 0) with
   |none=>rfl|some v=>
    have DJ:=Jv (f:=(·.1)) (oW R _ v e);rw[p1] at DJ;obtain⟨j,hj,e2⟩:=q8 T9 DJ;have:=w6 L (i:=j) (j:=k) T9 hk e2
    lia
  have tk:as.take k++[as.getD k 0]=as.take (k+1):=by
   have:as.getD k 0=as[k]:=by simp[hk]
   rw[this];simp
  refine⟨wZ (as.getD k 0) r R,(.sh (.int k),.sh xa,.sh (bJ nd)),⟨?_,fun p hp=>?_,fun j hj=>?_,fun j j' ZA PD hq=>?_⟩,⟨rfl,rfl,rfl⟩,?_⟩;rw[oX _ _ _ Kj,E3,p1];exact tk;rw[oX _ _ _ Kj] at hp;rcases List.mem_append.mp hp with hp|hp;exact p2 p hp;rw[List.mem_singleton.mp hp];exact Wc;rw[i6];split;exact⟨_,rfl⟩;by_cases z:j=k;subst z;contradiction;exact p3 j T9;rw[i6,i6];have h1:¬as.getD k 0=as.getD j 0:=fun z=>by have:=w6 L hk T9 z;lia
  rw[UE h1];by_cases z:j'=k;subst z;rw[Ge rfl];obtain⟨q,q1,q2,q3⟩:=hq;have V3:as.getD j 0∈as.take j':=by rw[SE,QR T9];exact List.mem_take_iff_getElem.mpr ⟨j,T9,rfl⟩
  rw[Ym _ V3];intro z;have z:rv (as.getD j 0)=r:=RD z;apply hr;rw[V7,<-z];refine Jv (List.mem_filter.mpr ⟨V3,Ub ?_⟩);obtain⟨v,v1,v2⟩:=hm q q2 _ q3;rw[Yh _ V3] at v2;have:=RD v2
  lia
  have h2:¬as.getD k 0=as.getD j' 0:=fun z'=>by have:=w6 L hk T9 z';lia
  rw[UE h2];exact p4 j j' ZA T9 hq;have e:cJ [3,4] (.tup [.int (k:Int),xa]) [.sh xs,.sh (Dc m),.ow (Dc R),t3,t4,t5]=.ok () [.sh xs,.sh (Dc m),.ow (Dc R),.sh (.int k),.sh xa,t5]:=by simp[f3,f4]
  dsimp only;clear c;rw[bH,e,az,show gI _=.ok .nx _ by unfold gI;exact aK];rfl)
 obtain⟨t3,t4,t5⟩:=t;simp only[List.length_range] at hP;refine⟨R,?_,hP⟩;have hD:Dc []=.gK [] []:=rfl;rw[hD] at Lp;dsimp only at Lp;generalize kP as X=xs at *;unfold zm CB;exact rn
end
def Gm(ys:R4)(p:Nat×Int):R4:=ys.set p.1 (max (ys.getD p.1 0) p.2)
def stM(ms:R4)(p:Nat×Int):R4:=Gm (ms++List.replicate (p.1+1-ms.length) 0) p
def pz(ms:R4)(n:Nat):R4:=ms++List.replicate (n-ms.length) 0
theorem Ak(ms:R4)(p:Nat×Int):(stM ms p).length=max ms.length (p.1+1):=by simp[stM,Gm];omega
theorem Q1W(ms:R4)(n:Nat)(p:Nat×Int)(h:p.1<n):Gm (pz ms n) p=pz (stM ms p) n:=by
 obtain⟨e,he⟩:∃e,e=ms++List.replicate (p.1+1-ms.length) (0:Int):=⟨_,rfl⟩;have el:e.length=max ms.length (p.1+1):=by rw[he];simp;omega
 have e1:pz ms n=e++List.replicate (n-e.length) 0:=by rw[he,pz,List.append_assoc,List.replicate_append_replicate];congr 2;rw[<-he];omega
 rw[e1,pz,Ak,<-el,stM,<-he,Gm,Gm,SE,MS Uk,<-SE,List.set_append_left _ _ Uk]
theorem vA(n:Nat):∀(ps:List (Nat×Int))(ms:R4),(∀p∈ps,p.1<n)->ps.foldl Gm (pz ms n)=pz (ps.foldl stM ms) n|[],_,_=>rfl|p::ps,ms,h=>by rw[OL,OL,Q1W ms n p (h p QI)];exact vA n ps _ fun q hq=>h q (QC _ hq)
theorem ni(n:Nat):∀(ps:List (Nat×Int))(ms:R4),(∀p∈ps,p.1<n)->ms.length<=n->ms.length<=(ps.foldl stM ms).length/\(ps.foldl stM ms).length<=n/\∀p∈ps,p.1<(ps.foldl stM ms).length
|[],_,_,hn=>⟨Uj _,hn,G9⟩|p::ps,ms,h,hn=>by
 have hp:=h p QI;have l:=Ak ms p;obtain⟨h1,h2,h3⟩:=ni n ps (stM ms p) (fun q hq=>h q (QC _ hq)) T9;rw[OL];refine⟨T9,h2,fun q hq=>?_⟩;rcases List.mem_cons.mp hq with rfl|hq
 lia
 exact h3 q hq
theorem fold_all(n:Nat)(ps:List (Nat×Int))(h:∀p∈ps,p.1<n+1)(hn:∃p∈ps,p.1=n):ps.foldl Gm (List.replicate (n+1) 0)=ps.foldl stM []:=by have e:=vA (n+1) ps [] h;obtain⟨_,h2,h3⟩:=ni (n+1) ps [] h G9;obtain⟨p,hp,e2⟩:=hn;have:=h3 p hp;rw[show pz [] (n+1)=List.replicate (n+1) 0 by simp[pz]] at e;rw[e,pz,show n+1-(ps.foldl stM []).length=0 by lia];simp
theorem fold_at:∀(is:R4)(a:Int),is.foldl (fun a b=>if a<b then b else a) a∈a::is|[],a=>G9|i::is,a=>by rw[OL];have:=fold_at is (if a<i then i else a);rcases List.mem_cons.mp this with h|h;rw[h];split<;>simp;exact QC _ (QC _ h)
theorem MR(R:UH)(mx:Nat)(h:oA (Dc R)=some (.int (mx:Int))):∃p∈R,p.2=mx:=by
 cases R with
 |nil=>cases h|cons p R=>
  have e:ff ((p::R).map fun p=>D.int (p.2:Int))=some ((p.2:Int)::R.map fun p=>(p.2:Int)):=by have:=kE ((p::R).map fun p=>(p.2:Int));rw[S6] at this;exact this
  have ev:oA (Dc (p::R))=some (.int ((R.map fun p=>(p.2:Int)).foldl (fun a b=>if a<b then b else a) (p.2:Int))):=by show (match ff ((p::R).map fun p=>D.int (p.2:Int)) with|some (i::is)=>some (D.int (is.foldl (fun a b=>if a<b then b else a) i))|_=>none)=_;rw[e]
  rw[ev] at h;have h:=D.int.inj (RD h);have m:=fold_at (R.map fun p=>(p.2:Int)) (p.2:Int);rw[h] at m;rcases List.mem_cons.mp m with m|m;exact⟨p,QI,T9⟩;obtain⟨q,hq,e⟩:=List.mem_map.mp m;exact⟨q,QC _ hq,T9⟩
theorem K5{R:UH}:(R.map (·.1)).Nodup->∀p∈R,fP R p.1=some p.2:=by induction R with|nil=>intro _ p h;cases h|cons q R ih=>intro hn p hp;have hn:=List.nodup_cons.mp hn;rw[fP];rcases List.mem_cons.mp hp with rfl|hp;rw[Ge rfl];rw[UE fun z=>hn.1 (by show q.1∈_;rw[z];exact Jv (f:=(·.1)) hp)];exact ih hn.2 p hp
section
variable{n:Nat}{as:UA}{X:Nat->D}{rd:Nat->UA}{ss:WU}(L:Pm n as X rd ss)
def Bv(ss:WU)(R:UH)(a:Nat):Nat×Int:=((fP R a).getD 0,aV (sd ss a))
include L
theorem xJ(R:UH)(hR:yF as rd as.length R):ze [kP as X,Dc R]=.ok (Z ((as.map (Bv ss R)).foldl stM [])) []:=by
 obtain⟨p1,p2,p3,p4⟩:=hR;rw[List.take_length] at p1;have has:=List.length_pos_iff.mpr L.some;obtain⟨mx,em,hmx,hle⟩:=Q0U R (fun z=>by rw[z] at p1;have:=congrArg List.length p1;simp at *;lia) p2;have nd:as.Nodup:=L.ord.imp fun h=>Vz h;have row:∀a∈as,∃v,fP R a=some v/\v<=mx:=fun a ha=>by obtain⟨j,hj,ej⟩:=at_of L ha;obtain⟨v,hv⟩:=p3 j hj;rw[ej] at hv;exact⟨v,hv,hle _ (oW R a v hv)⟩
 have all:=fold_all mx (as.map (Bv ss R)) (fun p hp=>by
  obtain⟨a,ha,rfl⟩:=List.mem_map.mp hp;obtain⟨v,hv,h⟩:=row a ha;show (fP R a).getD 0<_;rw[hv];exact Nat.lt_succ_of_le h) (by
  obtain⟨p,hp,e⟩:=MR R mx em;have hm:p.1∈as:=by rw[<-p1];exact Jv hp
  refine⟨_,Jv hm,?_⟩;show (fP R p.1).getD 0=_;rw[K5 (by rw[p1];exact nd) p hp];exact e)
 have ad:bj (.int (mx:Int)) (.int 1)=some (.int ((mx+1:Nat):Int)):=rfl;have er:=qR (mx+1) T9;have c:aU 1 (cH [(m2 bj (m1 oA (af 1)) (mC (.int 1)))]) (aE 5) (VP.ret true) gi [.sh (kP as X),.sh (Dc R),.no,.no,.no]=.ok (Z (List.replicate (mx+1) 0)) [.sh (kP as X),.sh (Dc R),.no,.no,.no]:=by refine iJ (fun(k:Nat)=>D.int k) (fun _=>D.int 0) (List.range (mx+1)) aK (by simp;lia) (by simp[Z,List.map_const']) fun k hk acc=>?_;unfold gi;exact aK
 obtain⟨ys,t,hP,ht,Lp⟩:=cV (g:=aE 3) (body:=dO) X (fun(ys:R4)(t:Sl×Sl)=>[.sh (kP as X),.sh (Dc R),.ow (Z ys),t.1,t.2]) l8 as (fun i ys=>ys.length=mx+1/\ys=((as.take i).map (Bv ss R)).foldl Gm (List.replicate (mx+1) 0)) (List.replicate (mx+1) 0) (.no,.no) ⟨rfl,rfl⟩ ⟨G9,rfl⟩ (by
  intro i a Pz ys t ht hP;obtain⟨hP,hY⟩:=hP;obtain⟨t3,t4⟩:=t;obtain⟨f3,f4⟩:=ht;dsimp only at f3 f4;have ha:=Np Pz;have li:=L.line a ha;obtain⟨si,sS⟩:=L.side a ha;obtain⟨v,hv,hvl⟩:=row a ha;have gv:=nq R a v hv;have ci:=jd (sd ss a) fun x hx=>by have:=sS.2.1 x hx;lia
  have ix:aq (Z ys) (.int (v:Int))=some (.int (ys.getD v 0)):=by have:=fQ ys v T9 T9;rwa [BA] at this
  have tk:(as.take (i+1)).map (Bv ss R)=(as.take i).map (Bv ss R)++[(v,aV (sd ss a))]:=by rw[List.take_add_one,Pz,E3];show _++[((fP R a).getD 0,aV (sd ss a))]=_;rw[hv];rfl
  have st:Gm ys (v,aV (sd ss a))=ys.set v (max (ys.getD v 0) (aV (sd ss a))):=rfl;have Z7:=pe (ys.getD v 0) (aV (sd ss a));generalize max (ys.getD v 0) (aV (sd ss a))=z at *;have sa:=uM ys v z T9 T9;rw[BA] at sa;have il:isLst (some (Z ys))=true:=rfl;refine⟨ys.set v z,(.sh (X a),.sh (.int v)),⟨by simp[hP],by rw[tk,List.foldl_append,<-hY,<-st];rfl⟩,⟨rfl,rfl⟩,?_⟩;have e:aE 3 (X a) [.sh (kP as X),.sh (Dc R),.ow (Z ys),t3,t4]=.ok () [.sh (kP as X),.sh (Dc R),.ow (Z ys),.sh (X a),t4]:=by simp[f3]
  dsimp only;clear hY all tk;generalize X a=xa at *;generalize kP as X=xs at *;generalize ys.getD v 0=y0 at *;rw[bH,e,az,show dO _=.ok .nx _ by unfold dO;exact aK];rfl)
 obtain⟨t3,t4⟩:=t;have hY:=hP.2;rw[List.take_length,all] at hY;rw[<-hY];have sq:cy (kP as X)=some (as.map X):=rfl;dsimp only at Lp;generalize kP as X=xs at *;generalize as.map X=ds at *;unfold ze Cq;exact rn
end
theorem Hk(gs:WU)(ls:WH)(ss:WU)(ix_:Nat)(g:Gd gs ls ss ix_)(rk:ls.length<=14):∃kp,vp [Pg ls,bF ss]=.ok (eJ kp) []/\sy [Pg ls,bF ss]=.ok (eJ kp) []/\Kp ls kp:=by
 obtain⟨w,_,wl,hw,e⟩:=rF ls ss g.wf g.ne T9 g.len;have e':=A2 ls ss g.wf g.ne T9 g.len w wl hw;have hn:=List.length_pos_iff.mpr g.ne;have gw:∀i,w.getD i false=true<->oV ls i:=fun i=>by rw[<-hw i,SE];cases h:w[i]? with|none=>simp|some b=>simp
 have gk:∀i,(j5 ls ss w)[i]?=some true<->i<ls.length/\oV ls i/\jF ls ss i (cN ls w i)=true:=fun i=>by unfold j5;by_cases hi:i<ls.length;rw[GF,Mr hi];simp only[Option.map_some,Option.some.injEq,Bool.and_eq_true,gw];exact⟨fun h=>⟨hi,h⟩,fun h=>h.2⟩;rw[Iv (by simp;lia)];exact⟨fun h=>(by cases h),fun h=>absurd h.1 hi⟩
 refine⟨_,e,e',by simp[j5],fun i hr h=>(gk i).mpr ⟨hr.lt g.wf g.ne,hr,?_⟩,fun i hr h a ha=>(gk a).mpr ?_,(gk _).mpr ⟨T9,.last,?_⟩,fun i h=>((gk i).mp h).2.1⟩;have:kd ls i∈K4:=h;simp[jF,this];have hi:=hr.lt g.wf g.ne;have ra:oV ls a:=.step hr (mj hi) ha;refine⟨ra.lt g.wf g.ne,ra,?_⟩;have hm:=(lE ls w a i).mpr ⟨hi,(gw i).mpr hr,ha⟩;have h2:kd ls i∈H2:=h;have:(cN ls w a).any (fun i=>decide (kd ls i∈H2))=true:=List.any_eq_true.mpr ⟨i,hm,by simp[h2]⟩;simp[jF,this];simp[jF]
section
variable{gs:WU}{ls:WH}{ss:WU}{ix_:Nat}(g:Gd gs ls ss ix_){kp:WK}(K:Kp ls kp)(rk:ls.length<=14)
include g K
theorem tH.low{b r:Nat}(h:tH ls kp b r):b<ls.length->kp[r]?=some true/\r<=b:=by induction h with|self h=>exact fun _=>⟨h,T9⟩|step h hb _ ih=>intro ha;have:=qw g ha hb;have:=ih T9;exact⟨this.1,T9⟩
theorem BX{y:Nat}(h:oV ls y):∀r,FU ls kp y r->∃a,kp[a]?=some true/\FU ls kp a r:=by
 induction h with
 |last=>exact fun r hr=>⟨_,K.last,hr⟩|@step i y l hi e hy ih=>
  intro r hr;have Ur:=hi.lt g.wf g.ne;have ZU:y<ls.length:=by have:=g.wf i l e y hy;lia
  have Wm:y∈fE ls i:=by unfold fE;rw[show cv ls i=l by simp[cv,e]];exact hy
  obtain⟨b,hb⟩:∃b,kp[y]?=some b:=⟨_,QR (by rw[K.len];exact ZU)⟩;cases b with|true=>exact⟨y,hb,hr⟩|false=>obtain⟨c,hc,Zq⟩:=hr;exact ih r ⟨y,Wm,.step hb hc Zq⟩
include rk
theorem Q0X:∃(as:UA)(X:Nat->D)(rd:Nat->UA),as=((List.range ls.length).filter fun a=>kp.getD a false)/\aU 1 (cH [(m1 bp (af 0))]) (aE 6) jf jc [.sh (Pg ls),.sh (bF gs),.sh (bF ss),.sh (eJ kp),.no,.no]=.ok (kP as X) [.sh (Pg ls),.sh (bF gs),.sh (bF ss),.sh (eJ kp),.no,.no]/\Pm ls.length as X rd ss/\(∀a∈as,gy [X a,(cv ls a).d,bF ss]=.ok (.bl true) []/\a<ls.length):=by
 have hn:=List.length_pos_iff.mpr g.ne;obtain⟨as,has⟩:∃as,as=(List.range ls.length).filter fun a=>kp.getD a false:=⟨_,rfl⟩;have hm:∀a,a∈as<->kp[a]?=some true:=fun a=>by rw[has,List.mem_filter,List.mem_range,SE];cases h:kp[a]? with|none=>simp|some b=>have:=(List.getElem?_eq_some_iff.mp h).1;have:=K.len;simp;lia
 obtain⟨X,hX⟩:=Ab (as:=as) (P:=fun(a:Nat) x=>lZ [Pg ls,bF ss,eJ kp,.int a]=.ok x []/\wR ls ss kp a x) fun a ha=>Q15 g K rk a ((hm a).mp ha);obtain⟨rd,Uv⟩:=Ab (as:=as) (P:=fun(a:Nat)(rs:UA)=>pW [X a]=.ok (bJ rs) []/\∀r,r∈rs<->FU ls kp a r) fun a ha=>(hX a ha).2.own;have lt:∀a∈as,a<ls.length:=fun a ha=>(K.want a ((hm a).mp ha)).lt g.wf g.ne;have ord:as.Pairwise (· < ·):=by rw[has];exact List.Pairwise.filter _ List.pairwise_lt_range
 have lu:as.length<=14:=by rw[has];have:=FH (fun a=>kp.getD a false) (List.range ls.length);simp only[List.length_range] at this;lia
 have Kr:ls.length-1∈as:=(hm _).mpr K.last;have WE:∀i,i+1<as.length->as.getD i 0<ls.length-1:=fun i hi=>by have p:=List.pairwise_iff_getElem.mp ord i (i+1) T9 hi T9;have:=lt _ (IQ hi);simp[show i<as.length by lia];lia
 have Lp:Pm ls.length as X rd ss:=by
  refine⟨fun z=>(by rw[z] at Kr;cases Kr),ord,lu,fun a ha=>(by have:=lt a ha;lia),fun a ha=>(hX a ha).2.line,fun a ha=>⟨(hX a ha).2.Ta,oC g (lt a ha)⟩,fun a ha=>(Uv a ha).1,fun a ha r hr=>?_,fun i hi=>?_⟩;obtain⟨b,hb,Zo⟩:=((Uv a ha).2 r).mp hr;have h1:=qw g (lt a ha) hb;have h2:=tH.low g K Zo (by have:=lt a ha;lia);exact⟨(hm r).mpr h2.1,T9⟩;have hx:=w8 (as:=as) (i:=i) T9;have BM:=WE i hi;have hk:=(hm _).mp hx;have hR:=K.want _ hk;generalize as.getD i 0=x at *;cases hR with
  |last=>lia|@step j _ l hj e hy=>
   have Wm:x∈fE ls j:=by unfold fE;rw[show cv ls j=l by simp[cv,e]];exact hy
   obtain⟨a,h1,h2⟩:=BX g K hj x ⟨x,Wm,.self hk⟩;have ha:=(hm a).mpr h1;exact⟨a,ha,((Uv a ha).2 x).mpr h2⟩
 refine⟨as,X,rd,has,?_,Lp,fun a ha=>⟨(hX a ha).2.Yq,lt a ha⟩⟩;have ln:=iu ls;have er:=qR ls.length T9;refine tQ (fun(k:Nat)=>D.int k) (fun a=>kp.getD a false) X (List.range ls.length) aK (by simp;lia) (by rw[<-has];rfl) (fun a ha acc=>?_) fun a ha hk acc=>?_;have hb:kp[a]?=some (kp.getD a false):=by have:=List.mem_range.mp ha;have:=K.len;simp[show a<kp.length by lia]
 have bi:=i7 kp a _ hb;generalize kp.getD a false=b at *;unfold jf;exact aK;have hx:=(hX a (by rw[has];exact List.mem_filter.mpr ⟨ha,hk⟩)).1;generalize X a=xa at *;unfold jc;exact aK
end
def T5(as:UA)(X:Nat->D)(R:UH)(ys:R4):D:=.ins "Plan" ["loops","row_of","lengths"] [kP as X,Dc R,Z ys]
theorem Mh(as:UA)(X:Nat->D)(R:UH)(ys:R4):LA [.ins "Plan" [] [],kP as X,Dc R,Z ys]=.ok .bC [T5 as X R ys]:=UC
theorem Q0G{gs:WU}{ls:WH}{ss:WU}{ix_:Nat}(g:Gd gs ls ss ix_)(rk:ls.length<=14):∃(kp:WK)(as:UA)(X:Nat->D)(rd:Nat->UA)(R:UH),sy [Pg ls,bF ss]=.ok (eJ kp) []/\kp.length=ls.length/\as=((List.range ls.length).filter fun a=>kp.getD a false)/\zi [Pg ls,bF gs]=.ok (T5 as X R ((as.map (Bv ss R)).foldl stM [])) []/\Pm ls.length as X rd ss/\(∀a∈as,gy [X a,(cv ls a).d,bF ss]=.ok (.bl true) []/\a<ls.length)/\yF as rd as.length R:=by have e1:=wj gs ls ss ix_ g rk;obtain⟨kp,e2,Y6,K⟩:=Hk gs ls ss ix_ g rk;obtain⟨as,X,rd,has,e3,L,hl⟩:=Q0X g K rk;obtain⟨R,e4,hR⟩:=IS L;have e5:=xJ L R hR;refine⟨kp,as,X,rd,R,Y6,K.len,has,?_,L,hl,hR⟩;clear has;generalize (as.map (Bv ss R)).foldl stM []=ys at *;have e6:=Mh as X R ys;generalize T5 as X R ys=pl at *;generalize kP as X=xs at *;unfold zi Cw;exact rn
theorem CW{f:Fn}{a:M D}{r r1:aR}{d v w:D}(h:a r=.ok d r1)(hf:f [d]=.ok v [w]):nE f a r=.ok v r1:=by rw[A6,h,az];exact GB f d v w r1 hf
theorem xo(R:UH)(ss:WU)(as:UA)(i a v:Nat)(h:as[i]?=some a)(hv:fP R a=some v):((as.take (i+1)).map (Bv ss R)).foldl stM []=stM (((as.take i).map (Bv ss R)).foldl stM []) (v,aV (sd ss a)):=by rw[List.take_add_one,h,E3,List.foldl_append];show stM _ ((fP R a).getD 0,aV (sd ss a))=_;rw[hv];rfl
theorem MA(ns:R4):Dj [Z ns]=.ok (.bl true) []:=by
 obtain⟨ls,ss,gs,ix_,q,e1,g,Ka,rk⟩:=Q2a ns 0;have hn:=List.length_pos_iff.mpr g.ne;obtain⟨kp,as,X,rd,R,ek,hkp,has,e2,L,hl,p1,p2,p3,p4⟩:=Q0G g rk;rw[List.take_length] at p1;obtain⟨ms,V6⟩:∃ms,ms=(as.map (Bv ss R)).foldl stM []:=⟨_,rfl⟩;rw[<-V6] at e2;obtain⟨pl,iP⟩:∃pl,pl=T5 as X R ms:=⟨_,rfl⟩;have fr:aZ fL "row_of" pl=some (Dc R):=by rw[iP];kernel_rfl!
 have fl:aZ iM "loops" pl=some (kP as X):=by rw[iP];kernel_rfl!
 have fg:aZ gP "lengths" pl=some (Z ms):=by rw[iP];kernel_rfl!
 have ip:bK qo pl=some (.bl true):=by rw[iP];kernel_rfl!
 have il:kR "list" (kP as X)=some (.bl true):=rfl;have id':kR "dict" (Dc R)=some (.bl true):=rfl;have ig:kR "list" (Z ms)=some (.bl true):=rfl;rw[<-iP] at e2;obtain⟨dr,Q4⟩:∃dr,dr=D.tup [Pg ls,bF ss,.int gs.length,bF gs]:=⟨_,rfl⟩;have d0:aq dr (.int 0)=some (Pg ls):=by rw[Q4];rfl
 have d1:aq dr (.int 1)=some (bF ss):=by rw[Q4];rfl
 have d3:aq dr (.int 3)=some (bF gs):=by rw[Q4];rfl
 rw[<-Q4] at e1;have l0:iR (Pg ls)=some (Pg ls):=rfl;have l3:iR (bF gs)=some (bF gs):=rfl;have Yx:∀t3 t4 t5 t6 t7 t8 t9 PZ P0:Sl,nE vq (cA [(af 0),(mC (.int 0))]) [.sh (Z ns),.no,.no,t3,t4,t5,t6,t7,t8,t9,PZ,P0]=.ok dr [.sh (Z ns),.no,.no,t3,t4,t5,t6,t7,t8,t9,PZ,P0]:=fun _ _ _ _ _ _ _ _ _=>CW (d:=.lst [Z ns,.int 0]) aK e1;have Yx:=Yx .no .no .no .no .no .no .no .no .no;have ng:=M3 gs;have ln:=iu ls;have er:=qR ls.length T9;have c5:aU 1 (cH [(m1 bp (af 2))]) (aE 12) pQ pO [.sh (Z ns),.sh dr,.sh (Pg ls),.sh (bF ss),.sh (eJ kp),.no,.no,.no,.no,.no,.no,.no]=.ok (bJ as) [.sh (Z ns),.sh dr,.sh (Pg ls),.sh (bF ss),.sh (eJ kp),.no,.no,.no,.no,.no,.no,.no]:=by
  refine tQ (fun(k:Nat)=>D.int k) (fun a=>kp.getD a false) (fun(k:Nat)=>D.int k) (List.range ls.length) aK (by simp;lia) (by rw[has];rfl) (fun a ha acc=>?_) fun a ha hk acc=>?_;have hb:kp[a]?=some (kp.getD a false):=by have:=List.mem_range.mp ha;simp[show a<kp.length by lia]
  have bi:=i7 kp a _ hb;generalize kp.getD a false=b at *;unfold pQ;exact aK;unfold pO;exact aK
 have row:∀a∈as,∃v,fP R a=some v/\v<=49:=fun a ha=>by obtain⟨j,hj,e⟩:=at_of L ha;obtain⟨v,hv⟩:=p3 j hj;rw[e] at hv;exact⟨v,hv,p2 _ (oW R a v hv)⟩
 have Yv:∀i a v,as[i]?=some a->fP R a=some v->(((as.take i).map (Bv ss R)).foldl stM []).length<=100:=fun i a v _ _=>by have:=(ni 100 ((as.take i).map (Bv ss R)) [] (fun p hp=>by obtain⟨b,hb,rfl⟩:=List.mem_map.mp hp;obtain⟨v,hv,h⟩:=row b (Nf hb);show (fP R b).getD 0<100;rw[hv];show v<100;lia) G9).2.1;exact this
 obtain⟨ys,t,hP,ht,Lp⟩:=cV (g:=cJ [9,10]) (body:=mn) (fun(a:Nat)=>D.tup [.int a,X a]) (fun(ys:R4)(t:Sl×Sl×Sl)=>[.sh (Z ns),.sh dr,.sh (Pg ls),.sh (bF ss),.sh (eJ kp),.sh (bJ as),.sh (bF gs),.sh pl,.ow (Z ys),t.1,t.2.1,t.2.2]) zG as (fun i ys=>ys=((as.take i).map (Bv ss R)).foldl stM []) [] (.no,.no,.no) ⟨rfl,rfl,rfl⟩ rfl (by
  intro i a Pz ys t ht hY;obtain⟨t9,PZ,P0⟩:=t;obtain⟨f9,XU,Y8⟩:=ht;dsimp only at f9 XU Y8;have ha:=Np Pz;have li:=L.line a ha;obtain⟨si,sS⟩:=L.side a ha;obtain⟨Yq,lP⟩:=hl a ha;obtain⟨v,hv,Wi⟩:=row a ha;have gv:=nq R a v hv;have n1:=Si R a;rw[hv] at n1;have n1:C4 true (.int (a:Int)) (Dc R)=some (.bl false):=n1;have ww:=kx (a:Int);have wv:=kx (v:Int);have ne1:dz (.int (a:Int)) (.int (a:Int))=some (.bl false):=by rw[dk,Ub rfl];rfl
  have sx:=ck ss a (by have:=g.len;lia);have nu:=j8 (sd ss a);have lx:=ou ls a lP;have le:o6 (.int 0) (.int (v:Int))=some (.bl true):=by rw[gp,Ub T9]
  have lt:ltI (.int (v:Int)) (.int 50)=some (.bl true):=by rw[lD,Ub T9]
  have ci:=xc (sd ss a) sS.pre;have yl:=Yv i a v Pz hv;rw[<-hY] at yl;have lm:=D9 ys;have st:=xo R ss as i a v Pz hv;rw[<-hY] at st;obtain⟨zs,Uy⟩:∃zs,zs=ys++List.replicate (v+1-ys.length) (0:Int):=⟨_,rfl⟩;have zl:v<zs.length:=by rw[Uy];simp;lia
  have mu:mulL (.lst [.int 0]) (.int ((v:Int)+1-ys.length))=some (Z (List.replicate (v+1-ys.length) 0)):=by
   have e:((v:Int)+1-ys.length).toNat=v+1-ys.length:=T9;have d:mulL (.lst [.int 0]) (.int ((v:Int)+1-ys.length))=if -(eL:Int)<=(v:Int)+1-ys.length/\(v:Int)+1-ys.length<=eL/\[D.int 0].length*((v:Int)+1-ys.length).toNat<=eL then some (.lst (List.replicate ((v:Int)+1-ys.length).toNat [D.int 0]).flatten) else none:=rfl
   rw[d,Ge (by simp[eL];lia),e];simp[Z,List.map_replicate]
  have ad:wX (Z ys) (Z (List.replicate (v+1-ys.length) 0))=some (Z zs):=by show (if (ys.map D.int).length+((List.replicate (v+1-ys.length) (0:Int)).map D.int).length<=eL then some (D.lst (ys.map D.int++(List.replicate (v+1-ys.length) (0:Int)).map D.int)) else none)=_;rw[Ge (by simp[eL];lia),Uy,<-E3];rfl
  have ix:aq (Z zs) (.int (v:Int))=some (.int (zs.getD v 0)):=by have:=fQ zs v T9 T9;rwa [BA] at this
  have sm:stM ys (v,aV (sd ss a))=zs.set v (max (zs.getD v 0) (aV (sd ss a))):=by rw[stM,Gm,Uy]
  rw[sm] at st;have Z7:=pe (zs.getD v 0) (aV (sd ss a));generalize max (zs.getD v 0) (aV (sd ss a))=z at *;have sa:=uM zs v z T9 T9;rw[BA] at sa;have isz:isLst (some (Z zs))=true:=rfl;refine⟨zs.set v z,(.sh (.int a),.sh (X a),.sh (.int v)),st.symm,⟨rfl,rfl,rfl⟩,?_⟩;have e:cJ [9,10] (.tup [.int (a:Int),X a]) [.sh (Z ns),.sh dr,.sh (Pg ls),.sh (bF ss),.sh (eJ kp),.sh (bJ as),.sh (bF gs),.sh pl,.ow (Z ys),t9,PZ,P0]=.ok () [.sh (Z ns),.sh dr,.sh (Pg ls),.sh (bF ss),.sh (eJ kp),.sh (bJ as),.sh (bF gs),.sh pl,.ow (Z ys),.sh (.int a),.sh (X a),P0]:=by simp[f9,XU]
  have fz:MK 8 [.sh (Z ns),.sh dr,.sh (Pg ls),.sh (bF ss),.sh (eJ kp),.sh (bJ as),.sh (bF gs),.sh pl,.ow (Z ys),.sh (.int a),.sh (X a),.sh (.int v)]=.ok () [.sh (Z ns),.sh dr,.sh (Pg ls),.sh (bF ss),.sh (eJ kp),.sh (bJ as),.sh (bF gs),.sh pl,.sh (Z ys),.sh (.int a),.sh (X a),.sh (.int v)]:=rfl;dsimp only;clear st sm hY;generalize (cv ls a).d=ld at *;generalize X a=xa at *;generalize zs.getD v 0=z0 at *;generalize Z (List.replicate (v+1-ys.length) 0)=zr at *;generalize T (sd ss a)=sa' at *;generalize aV (sd ss a)=pr at *;clear has e1 e2 Uy;generalize Pg ls=pg at *;generalize bF ss=sS' at *;generalize bJ as=na at *;generalize eJ kp=bk at *;rw[bH,e,az,show mn _=.ok .nx _ by unfold mn;exact aK];rfl)
 obtain⟨t9,PZ,P0⟩:=t;rw[List.take_length,<-V6] at hP;rw[hP] at Lp;have zp:mO [bJ as,kP as X]=some (as.map fun(a:Nat)=>D.tup [.int a,X a]):=by show some (List.zipWith (fun x y=>D.tup [x,y]) (as.map fun(k:Nat)=>D.int k) (as.map X))=_;rw[List.zipWith_map,List.zipWith_self]
 have nl:dz (.int (as.length:Int)) (.int (as.length:Int))=some (.bl false):=by rw[dk,Ub rfl];rfl
 have lx:bp (kP as X)=some (.int (as.length:Int)):=by show some (D.int ((as.map X).length:Nat))=_;rw[UR]
 have la:bp (bJ as)=some (.int (as.length:Int)):=by show some (D.int ((as.map _).length:Nat))=_;rw[UR]
 have ld:Lk (Dc R)=some (.int (as.length:Int)):=by have:=congrArg List.length p1;rw[UR] at this;show some (D.int ((R.map _).length:Nat))=_;rw[UR,this]
 have nu:=j8 ms;have t1:=An ms;rw[show Z []=D.lst [] from rfl] at Lp;dsimp only at Lp;clear p3 p4 hl row Yv p2;clear has V6 iP Q4 p1;generalize as.map (fun(a:Nat)=>D.tup [.int a,X a])=zs at *;generalize bJ as=na at *;generalize kP as X=xs at *;generalize T ms=tm at *;unfold Dj B2;exact rn
end LW
end
section
set_option Elab.async false
set_option maxRecDepth 100000
set_option maxHeartbeats 4000000
set_option linter.all false
namespace LW
open PySem PySem.Spec PyProof.Rows L2 VP VS
seal mU nW PV PB iX PF As yC PR yE uT wV BP
def top(i:Nat):Stmt:=PySem.Challenge.pw_loomarrays_k19_a_loop_for_each_kept_line.main.body.getD i (.Pass ⟨0,0,0,0⟩)
def L:K2 where
 b:=["all","any","bool","dict","enumerate","int","isinstance","len","list","max","range","reversed","sorted","tuple","zip"]
 n:=[("LONGEST_SIDE",.int 64),("MOST_CELLS",.int 4096),("MOST_LINES",.int 40),("MOST_SIDES",.int 4),("REST",.int 1000003)]
 t:=[("DEEDS",nT,rQ),("FORMS",nU,Q2L)]
 d:=([("_law_cells",top 87,["_law_sides"]),
  ("_law_whole",top 85,["_law_found"]),
  ("_law_numbers",top 86,["_law_found","_law_due"]),
  ("_law_is_loop",top 98,["_law_loop","_law_line","_law_sides"]),
  ("_law_reads",top 95,["_law_line"]),
  ("_law_wanted",top 96,["_law_program_here"]),
  ("_law_kept",top 97,["_law_program_here","_law_sides"]),
  ("_law_changed",top 89,["_law_sides","_law_side","_law_size"]),
  ("_law_met",top 88,["_law_one","_law_other"]),
  ("_law_taken",top 84,["_law_row","_law_many"]),
  ("_law_more",top 92,["_law_row","_law_a","_law_sides","_law_way","_law_index"]),
  ("_law_sided",top 91,["_law_row","_law_a","_law_own","_law_way"]),
  ("_law_view",top 90,["_law_row","_law_a","_law_own","_law_way"]),
  ("_law_program",top 93,["_law_row"]),
  ("spreads",top 10,["program","sides","number","at"]),
  ("is_kept",top 9,["program","sides","at","naming"]),
  ("named_by",top 3,["line"]),
  ("naming_lines",top 8,["program","wanted","at"]),
  ("wanted_lines",top 6,["program"]),
  ("kept_lines",top 7,["program","sides"]),
  ("cells_in",top 22,["sides"]),
  ("lengths_of",top 82,["loops","row_of"]),
  ("reading_by",top 71,["way","strides","many"]),
  ("strides_of",top 23,["sides"])]:List wW) ++
  ([("part_standing",top 64,["number"]),
  ("part_moved",top 67,["part","begin","step"]),
  ("way_moved",top 66,["way","side","begin","step"]),
  ("way_spread",top 70,["way","own"]),
  ("way_dropped",top 68,["way","side","place"]),
  ("way_turned",top 65,["way","order"]),
  ("way_widened",top 69,["way","side"]),
  ("straight_way",top 63,["many"]),
  ("loop_of",top 75,["program","sides","kept","at"]),
  ("lines_read_in",top 77,["tree"]),
  ("lines_read_by",top 78,["loop"]),
  ("last_readings",top 79,["loops"]),
  ("lowest_beside",top 81,["rows"]),
  ("rows_of",top 80,["loops"]),
  ("deed_is_known",top 4,["line"]),
  ("is_rest",top 13,["number"]),
  ("number_is_cell",top 34,["line"]),
  ("places_are_there",top 33,["line","lines_ahead","tables"]),
  ("sides_can_be",top 21,["sides"]),
  ("has_side",top 37,["sides","side"]),
  ("without",top 26,["row","side"]),
  ("folded_sides",top 43,["deed","sides","side"]),
  ("replaced",top 28,["row","side","number"]),
  ("joined_sides",top 45,["one","other","side"])]:List wW) ++
  ([("picked_sides",top 44,["sides","side","places"]),
  ("with_ones_ahead",top 25,["sides","many"]),
  ("sides_met",top 24,["one","other"]),
  ("has_place",top 38,["sides","side","place"]),
  ("cut_sides",top 40,["sides","side","begin","step","many"]),
  ("dropped_sides",top 41,["sides","side","place"]),
  ("put_in",top 27,["row","side","number"]),
  ("turned_sides",top 39,["sides","order"]),
  ("sides_viewed",top 36,["line","sides"]),
  ("three_met",top 42,["one","other","third"]),
  ("sides_told",top 35,["line","ahead","given"]),
  ("sides_looked_over",top 32,["at","line","ahead","given"]),
  ("sides_of",top 31,["program","given"]),
  ("plan_of",top 74,["program","given"]),
  ("law",top 99,["_law_script"])]:List wW)
 m:=([("Plan","__init__","Plan.__init__",false,inClass (top 73) 0,["self","loops","row_of","lengths"]),
  ("Loop","__init__","Loop.__init__",true,inClass (top 47) 0,["self","line","sides"]),
  ("Fill","__init__","Fill.__init__",false,inClass (top 49) 0,["self","line","sides","tree"]),
  ("Fold","__init__","Fold.__init__",false,inClass (top 50) 0,["self","line","sides","side","size","deed","tree"]),
  ("Load","__init__","Load.__init__",false,inClass (top 48) 0,["self","line","sides","table"]),
  ("Pick","__init__","Pick.__init__",false,inClass (top 52) 0,["self","line","sides","side","source","places","source_sides"]),
  ("Through","__init__","Through.__init__",false,inClass (top 51) 0,["self","line","sides","side","deed","tree"]),
  ("Weaver","__init__","Weaver.__init__",false,inClass (top 76) 0,["self","program","sides","kept","many"]),
  ("Both","__init__","Both.__init__",false,inClass (top 58) 0,["self","deed","left","right"]),
  ("Even","__init__","Even.__init__",false,inClass (top 55) 0,["self","number"]),
  ("One","__init__","One.__init__",false,inClass (top 57) 0,["self","deed","inner"]),
  ("Read","__init__","Read.__init__",false,inClass (top 56) 0,["self","line","start","steps"]),
  ("Weaver","row_read","Weaver.row_read",false,inClass (top 76) 2,["self","at","way","sides"]),
  ("Joined","__init__","Joined.__init__",false,inClass (top 61) 0,["self","part","size","ahead","behind"]),
  ("Within","__init__","Within.__init__",false,inClass (top 60) 0,["self","part","size","inner","number"]),
  ("Where","__init__","Where.__init__",false,inClass (top 59) 0,["self","asked","left","right"]),
  ("Weaver","tree_named","Weaver.tree_named",false,inClass (top 76) 1,["self","at","way"]),
  ("Weaver","tree_made","Weaver.tree_made",false,inClass (top 76) 3,["self","at","way"]),
  ("Weaver","tree_viewed","Weaver.tree_viewed",false,inClass (top 76) 4,["self","line","way"]),
  ("Weaver","tree_spread","Weaver.tree_spread",false,inClass (top 76) 5,["self","at","way"]),
  ("Weaver","tree_shifted","Weaver.tree_shifted",false,inClass (top 76) 6,["self","at","side","by","number","way"]),
  ("Weaver","tree_joined","Weaver.tree_joined",false,inClass (top 76) 7,["self","ahead","behind","side","way"])]:List BQ)
 k:=["Plan","Loop","Fill","Fold","Load","Pick","Through","Weaver","Both","Even","One","Read","Joined","Within","Where"]
 f:=([("ahead",l5),
  ("asked",l6),
  ("behind",kC),
  ("deed",gG),
  ("inner",iL),
  ("kept",oY),
  ("left",jh),
  ("lengths",gP),
  ("line",eW),
  ("loops",iM),
  ("many",oZ),
  ("number",nh),
  ("part",tW),
  ("places",iN),
  ("program",ji),
  ("right",gQ),
  ("row_of",fL),
  ("side",eX),
  ("sides",cu),
  ("size",kD),
  ("source",iO),
  ("source_sides",dM),
  ("start",vy),
  ("steps",vz)]:List (Str×List Str)) ++
  ([("table",jT),
  ("tree",gH)]:List (Str×List Str))
 a:=["Both","Even","Joined","Node","One","Read","Where","Within","Fill","Fold","Load","Loop","Pick","Through","Plan"]
 i:=[("Both",jZ),("Fill",qk),("Fold",ql),("Joined",lA),("Load",fj),("Loop",j0),("Node",qm),("Pick",gc),("Plan",qo),("Read",gS),("Through",j3),("Where",kF)]
 j:=[("One","Within",bZ)]
section
variable{P:Program}{w:World}{K:Frag}{mg:MG}{base:Heap}{a:Gq}(T:Txt L w K mg a)
theorem x6:Cl P base T "_law_cells" 1 [false] sv:=fc ["_law_found","_law_size"] Ce (T.d 0 rfl) fun S hr=>(ae (b8 1 S.nd aj) (ae (rh (cQ (aa 0)) (ko 2 S.nd) (ae (b8 1 S.nd (aH iF k7 (aa 1) (aa 2))) ah)) (ae (au (aa 1)) ah)))
theorem qD:Cl P base T "_law_whole" 1 [false] n6:=fc [] Co (T.d 1 rfl) fun S hr=>(ae (au (hJ (nN "int" G9 rfl (T.b 6) rfl (T.b 5) (by decide +kernel) (PV.rd (aa 0))) (gr (Ou (nN "bool" G9 rfl (T.b 6) rfl (T.b 2) (by decide +kernel) (PV.rd (aa 0))))))) ah)
theorem qC:Cl P base T "_law_numbers" 2 [false,false] jS:=fc ["_law_number"] Ci (T.d 2 rfl) fun S hr=>(ae (aB (iX.pb (cW (bW (aY (nN "tuple" G9 rfl (T.b 6) rfl (T.b 13) (by decide +kernel) (PV.rd (aa 0))))) (cO (qI hr (bL (T.b 7) (PV.rd (aa 0))) (bL (T.b 7) (PV.rd (aa 1))))))) (ae (au dA) ah) ah) (ae (rh (cQ (aa 0)) (ko 2 S.nd) (ae (aB (bW (aY (bg (qD T) hr (ag (aa 2) ao)))) (ae (au dA) ah) ah) ah)) (ae (au (du (jq hr.units) oi (aa 0) (aa 1) (bq _))) ah)))
theorem Nl:Cl P base T "_law_is_loop" 3 [false,false,false] gy:=fc ["_law_kind","_law_told"] pJ (T.d 3 rfl) fun S hr=>(ae (b8 3 S.nd (ar (aa 1) aj)) (ae (aB (bW (aY (cC (T.i 5) rfl (T.b 6) rfl (PV.rd (aa 0))))) (ae (au dA) ah) ah) (ae (aB (iX.pb (dD (bW (aY (cC (T.i 4) rfl (T.b 6) rfl (PV.rd (aa 0))))) (dD (bW (aY (cC (T.i 7) rfl (T.b 6) rfl (PV.rd (aa 0))))) (dR (bW (aY (cC (T.i 6) rfl (T.b 6) rfl (PV.rd (aT (T.f 25) (PV.rd (aa 0))))))))))) (ae (au dA) ah) ah) (ae (aB (cX hr (aa 3) ay) (ae (au (hJ (cC (T.i 4) rfl (T.b 6) rfl (PV.rd (aa 0))) (hJ (bg (qD T) hr (ag (aT (T.f 24) (PV.rd (aa 0))) ao)) (gr (du (jq hr.units) oi (aT (T.f 24) (PV.rd (aa 0))) (ar (aa 1) aj) (bq _)))))) ah) ah) (ae (aB (iX.pb (dD (cX hr (aa 3) ay) (dR (aY (cC (T.i 2) rfl (T.b 6) rfl (PV.rd (aa 0))))))) (ae (b8 4 S.nd (aF (ai (aT (T.f 17) (PV.rd (aa 0))) (ai (aT (T.f 19) (PV.rd (aa 0))) aw)))) (ae (au (hJ (bg (qC T) hr (ag (aa 4) (ag (aF (ai (ar (aa 1) aj) (ai (ar (ar (aa 2) (ar (aa 1) aj)) (ar (aa 1) aj)) aw))) ao))) (gr (du (jq hr.units) oi (aT (T.f 3) (PV.rd (aa 0))) (ar (aa 1) aj) (bq _))))) ah)) ah) (ae (aB (iX.pb (dD (cX hr (aa 3) ay) (dR (aY (cC (T.i 10) rfl (T.b 6) rfl (PV.rd (aa 0))))))) (ae (au (hJ (bg (qD T) hr (ag (aT (T.f 17) (PV.rd (aa 0))) ao)) (hJ (du (jq hr.units) oi (aT (T.f 17) (PV.rd (aa 0))) (ar (aa 1) aj) (bq _)) (gr (du (jq hr.units) oi (aT (T.f 3) (PV.rd (aa 0))) (ar (aa 1) aj) (bq _)))))) ah) ah) (ae (aB (iX.pb (dD (cX hr (aa 3) ay) (dR (aY (cC (T.i 7) rfl (T.b 6) rfl (PV.rd (aa 0))))))) (ae (b8 4 S.nd (aF (ai (aT (T.f 17) (PV.rd (aa 0))) (ai (aT (T.f 20) (PV.rd (aa 0))) (ai (aT (T.f 13) (PV.rd (aa 0))) aw))))) (ae (au (hJ (bg (qC T) hr (ag (aa 4) (ag (aF (ai (ar (aa 1) aj) (ai (ar (aa 1) aj) (ai (ar (aa 1) aj) aw)))) ao))) (gr (bg (qC T) hr (ag (aT (T.f 21) (PV.rd (aa 0))) (ag (ar (aa 2) (ar (aa 1) aj)) ao)))))) ah)) ah) (ae (au (hJ (cC (T.i 1) rfl (T.b 6) rfl (PV.rd (aa 0))) (gr (du mE (ua true) (aa 3) (PF.pv (bc (ai ay (ai ay (ai ay aw))))) (by with_unfolding_all rfl))))) ah))))))))
theorem EF:Cl P base T "_law_reads" 1 [false] za:=fc [] JS (T.d 4 rfl) fun S hr=>(ae (aB (iX.pb (cW (cX hr (ar (aa 0) aj) ay) (cO (cX hr (ar (aa 0) aj) ay)))) (ae (au (PF.pv (bc aw))) ah) ah) (ae (aB (cX hr (ar (aa 0) aj) ay) (ae (au (PF.pv (bc (ai (ar (aa 0) aj) (ai (ar (aa 0) aj) (ai (ar (aa 0) aj) aw)))))) ah) ah) (ae (aB (cX hr (ar (aa 0) aj) ay) (ae (au (PF.pv (bc (ai (ar (aa 0) aj) (ai (ar (aa 0) aj) aw))))) ah) ah) (ae (aB (iX.pb (cW (cX hr (ar (aa 0) aj) ay) (cW (cX hr (ar (aa 0) aj) ay) (cO (cX hr (ar (aa 0) aj) ay))))) (ae (au (PF.pv (bc (ai (ar (aa 0) aj) aw)))) ah) ah) (ae (aB (cX hr (ar (aa 0) aj) ay) (ae (au (PF.pv (bc (ai (ar (aa 0) aj) (ai (ar (aa 0) aj) aw))))) ah) ah) (ae (aB (cX hr (ar (aa 0) aj) ay) (ae (au (PF.pv (bc (ai (ar (aa 0) aj) (ai (ar (aa 0) aj) aw))))) ah) ah) (ae (au (PF.pv (bc (ai (ar (aa 0) aj) aw)))) ah)))))))
theorem Nt:Cl P base T "_law_wanted" 2 [false] zc:=fc ["_law_due","_law_ahead","_law_place"] Cn (T.d 5 rfl) fun S hr=>(ae (wM 1 S.nd (bc (ai (aH cD eg (bL (T.b 7) (PV.rd (aa 0))) aj) aw))) (ae (wM 2 S.nd (bc (ai (aH cD eg (bL (T.b 7) (PV.rd (aa 0))) aj) aw))) (ae (wI PassesOwn.never (Q2S true hr.units 2 (PF.pv (bc aw)) (bq _)) (ae (rh (cQ (bg (EF T) hr (ag (ar (aa 0) (Ov 2 (hpe:=fun ho=>EK PySem.F.plainAttrs_list PySem.F.slot_list_pop PySem.F.type_list_pop MZ ho))) ao))) (ko 3 S.nd) (ae (aB (Bm 1 (aa 3) (by with_unfolding_all rfl)) (ae (Gp 1 (aa 3)) (ae (Gp 2 (aa 3)) ah)) ah) ah)) ah)) (ae (hU (i:=1) (au (aa 1))) ah))))
theorem Nm:Cl P base T "_law_kept" 3 [false,false] sy:=fc ["_law_wanted_here","_law_due","_law_often","_law_at","_law_line","_law_place"] Cg (T.d 6 rfl) fun S hr=>(ae (b8 2 S.nd (bg (Nt T) hr (ag (aa 0) ao))) (ae (wM 3 S.nd (z9 (PF.pv (bc (ai dA aw))) (bL (T.b 7) (PV.rd (aa 0))))) (ae (wM 4 S.nd (z9 (PF.pv (bc (ai aj aw))) (bL (T.b 7) (PV.rd (aa 0))))) (ae (rh (cQ (aa 2)) (ko 5 S.nd) (ae (b8 6 S.nd (ar (aa 0) (aa 5))) (ae (cz 3 (aa 5) (E8 (a7 3 (aa 5)) (gr (du eD (ua false) (ar (aa 6) aj) (PF.pv (bc (ai ay (ai ay (ai ay (ai ay aw)))))) (by with_unfolding_all rfl))))) (ae (rh (cQ (bg (EF T) hr (ag (aa 6) ao))) (ko 7 S.nd) (ae (cz 4 (aa 7) (aH aM aP (a7 4 (aa 7)) aj)) (ae (aB (iX.pb (cW (cX hr (ar (aa 6) aj) ay) (cO (cX hr (ar (aa 6) aj) ay)))) (ae (cz 3 (aa 7) dA) ah) ah) (ae (aB (iX.pb (dD (qI hr (ar (ar (aa 0) (aa 7)) aj) ay) (dR (bV mD tZ (a7 4 (aa 7)) aj (bq _))))) (ae (cz 3 (aa 7) dA) ah) ah) (ae (aB (iX.pb (dD (qI hr (ar (ar (aa 0) (aa 7)) aj) ay) (dD (bV eD (ua false) (ar (aa 6) aj) (PF.pv (bc (ai ay (ai ay (ai ay aw))))) (by with_unfolding_all rfl)) (dR (qI hr (ar (aa 1) (aa 7)) (ar (aa 1) (aa 5))))))) (ae (cz 3 (aa 7) dA) ah) ah) ah))))) ah)))) (ae (cz 3 (qO lL ju aj) dA) (ae (hU (i:=3) (au (aa 3))) ah))))))
theorem qA:Cl P base T "_law_changed" 1 [false,false,false] kX:=fc [] Cf (T.d 7 rfl) fun S hr=>(ae (au (aH aM aP (aH aM aP (dI (aa 0) bM (bN (aa 1))) (aF (ai (aa 2) aw))) (dI (aa 0) (bN (aH aM aP (aa 1) aj)) bM))) ah)
theorem qB:Cl P base T "_law_met" 1 [false,false] iK:=fc ["_law_many","_law_left","_law_right","_law_found","_law_k"] yM (T.d 8 rfl) fun S hr=>(ae (b8 2 S.nd (kg (iH rfl) vD rfl (T.b 9) boot_max (ai (bL (T.b 7) (PV.rd (aa 0))) (ai (bL (T.b 7) (PV.rd (aa 1))) aw)))) (ae (b8 3 S.nd (aH aM aP (aH z6 Dz (aF (ai aj aw)) (aH cD eg (aa 2) (bL (T.b 7) (PV.rd (aa 0))))) (aa 0))) (ae (b8 4 S.nd (aH aM aP (aH z6 Dz (aF (ai aj aw)) (aH cD eg (aa 2) (bL (T.b 7) (PV.rd (aa 1))))) (aa 1))) (ae (b8 5 S.nd (aF aw)) (ae (rh (bY rfl (T.b 10) (ai (aa 2) aw)) (ko 6 S.nd) (ae (aB (iX.pb (dD (qI hr (ar (aa 3) (aa 6)) (ar (aa 4) (aa 6))) (dD (qI hr (ar (aa 3) (aa 6)) aj) (dR (qI hr (ar (aa 4) (aa 6)) aj))))) (ae (au b7) ah) ah) (ae (b8 5 S.nd (aH aM aP (aa 5) (aF (ai (ar (PF.pv (bc (ai (ar (aa 3) (aa 6)) (ai (ar (aa 4) (aa 6)) aw)))) (qN mZ xp rfl (T.b 5) boot_int (ai (du (jq hr.units) oi (ar (aa 3) (aa 6)) aj (bq _)) aw))) aw)))) ah))) (ae (au (aa 5)) ah))))))
theorem br:Cl P base T "_law_taken" 1 [true,false] bB:=fc ["_law_at"] Cm (T.d 9 rfl) fun S hr=>(ae (b8 2 S.nd (a7 0 aj)) (ae (cz 0 aj (aH aM aP (aa 2) aj)) (ae (aB (bV ke qc (aa 2) (bL (T.b 7) (PV.rd (a7 0 aj))) (bq _)) (ae (au (aH lG qd (ar (a7 0 aj) (aa 2)) (aa 1))) ah) ah) (ae (au aj) ah))))
theorem Nn:Cl P base T "_law_more" 2 [true,false,true,false,false] fI:=fc ["_law_own","_law_b","_law_deed","_law_c","_law_found","_law_side"] lT (T.d 10 rfl) fun S hr=>(ae (b8 5 S.nd (a7 2 (aa 1))) (ae (b8 6 S.nd (bg (br T) hr (aX 0 (ag (bL (T.b 7) (gZ 2)) ao)))) (ae (aB (cX hr (aa 3) aj) (ae (au (aF (ai (aF (ai ay (ai (ar (PF.pv (bc (ai ay (ai ay (ai ay aw))))) (bg (br T) hr (aX 0 (ag aj ao)))) (ai (aa 1) aw)))) (ai (aa 5) aw)))) ah) ah) (ae (aB (cX hr (aa 3) aj) (ae (b8 7 S.nd (ar (PF.pv (bc (ai ay (ai ay (ai ay (ai ay (ai ay (ai ay (ai ay aw))))))))) (bg (br T) hr (aX 0 (ag aj ao))))) (ae (aB (bV qF vC (bg (qB T) hr (ag (aa 5) (ag (a7 2 (aa 6)) ao))) b7 (bq _)) (ae (b8 6 S.nd (aa 1)) ah) ah) (ae (au (aF (ai (aF (ai ay (ai (aa 7) (ai (aa 1) (ai (aa 6) aw))))) (ai (bg (qB T) hr (ag (aa 5) (ag (a7 2 (aa 6)) ao))) aw)))) ah))) ah) (ae (aB (cX hr (aa 3) aj) (ae (b8 8 S.nd (bg (br T) hr (aX 0 (ag (bL (T.b 7) (gZ 2)) ao)))) (ae (b8 9 S.nd (bg (qB T) hr (ag (aa 5) (ag (a7 2 (aa 6)) ao)))) (ae (aB (iX.pb (cW (bV qF vC (aa 9) b7 (bq _)) (cO (bV qF vC (bg (qB T) hr (ag (aa 9) (ag (a7 2 (aa 8)) ao))) b7 (bq _))))) (ae (au (aF (ai (aF (ai ay (ai (aa 1) (ai (aa 1) (ai (aa 1) aw))))) (ai (aa 5) aw)))) ah) ah) (ae (au (aF (ai (aF (ai ay (ai (aa 6) (ai (aa 1) (ai (aa 8) aw))))) (ai (bg (qB T) hr (ag (aa 9) (ag (a7 2 (aa 8)) ao))) aw)))) ah)))) ah) (ae (aB (cX hr (aa 3) aj) (ae (b8 9 S.nd (rJ (T.b 13) (PV.rd (PF.pv (yg 1 ["_law_row","_law_a","_law_sides","_law_way","_law_index","_law_own","_law_b","_law_deed","_law_c","_law_found","_law_side","_law_k","?acc11"] (bY rfl (T.b 10) (ai (bg (br T) hr (aX 0 (ag aj ao))) aw)) (fun nd=>(ko 11 nd)) cf (aH aM aP aj (bg (br T) hr (aX 0 (ag aj ao))))))))) (ae (au (aF (ai (aF (ai ay (ai (aa 9) (ai (bg (br T) hr (aX 0 (ag aj ao))) aw)))) (ai (aa 9) aw)))) ah)) ah) (ae (aB (cX hr (aa 5) (aF aw)) (ae (au (aF (ai (aF (ai ay (ai ay (ai (aa 1) aw)))) (ai (aa 5) aw)))) ah) ah) (ae (b8 10 S.nd (bg (br T) hr (aX 0 (ag (bL (T.b 7) (PV.rd (aa 5))) ao)))) (ae (aB (cX hr (aa 3) aj) (ae (aB (iX.pb (cW (bV ke qc (bg (br T) hr (aX 0 (ag aj ao))) aj (bq _)) (cO (qI hr (bL (T.b 7) (PV.rd (a7 2 (aa 6)))) aj)))) (ae (b8 6 S.nd (aa 4)) ah) ah) (ae (au (aF (ai (aF (ai ay (ai (aa 1) (ai (aa 10) (ai (aa 6) aw))))) (ai (bg (qA T) hr (ag (aa 5) (ag (aa 10) (ag (ar (a7 2 (aa 6)) aj) ao)))) aw)))) ah)) ah) (ae (aB (iX.pb (cW (qI hr (bL (T.b 7) (PV.rd (a7 2 (aa 6)))) (bL (T.b 7) (PV.rd (aa 5)))) (cO (qI hr (bg (qA T) hr (ag (aa 5) (ag (aa 10) (ag aj ao)))) (bg (qA T) hr (ag (a7 2 (aa 6)) (ag (aa 10) (ag aj ao)))))))) (ae (b8 6 S.nd (aa 1)) ah) ah) (ae (au (aF (ai (aF (ai ay (ai (aa 1) (ai (aa 6) (ai (aa 10) aw))))) (ai (bg (qA T) hr (ag (aa 5) (ag (aa 10) (ag (aH aM aP (ar (aa 5) (aa 10)) (ar (a7 2 (aa 6)) (aa 10))) ao)))) aw)))) ah)))))))))))
theorem Nq:Cl P base T "_law_sided" 2 [true,false,false,false] vt:=fc ["_law_side","_law_size","_law_folds","_law_by","_law_deed","_law_begin","_law_step","_law_room","_law_many"] Ck (T.d 11 rfl) fun S hr=>(ae (b8 4 S.nd (bg (br T) hr (aX 0 (ag (bL (T.b 7) (PV.rd (aa 2))) ao)))) (ae (b8 5 S.nd (ar (aa 2) (aa 4))) (ae (b8 6 S.nd (PF.pv (bc (ai ay (ai ay (ai ay (ai ay aw))))))) (ae (aB (cX hr (aa 3) aj) (ae (b8 7 S.nd (aH cD eg (bg (br T) hr (aX 0 (ag aj ao))) aj)) (ae (au (aF (ai (aF (ai ay (ai (aa 1) (ai (aa 4) (ai (aa 7) (ai (bg (br T) hr (aX 0 (ag aj ao))) aw)))))) (ai (aa 2) aw)))) ah)) ah) (ae (aB (cX hr (aa 3) aj) (ae (b8 8 S.nd (ar (aa 6) (aH lG qd (bg (br T) hr (aX 0 (ag aj ao))) (ar (PF.pv (bc (ai aj (ai aj aw)))) (qN mZ xp rfl (T.b 5) boot_int (ai (du mD tZ (aa 5) aj (bq _)) aw)))))) (ae (au (aF (ai (aF (ai ay (ai (aa 8) (ai (aa 1) (ai (aa 4) aw))))) (ai (aH aM aP (dI (aa 2) bM (bN (aa 4))) (dI (aa 2) (bN (aH aM aP (aa 4) aj)) bM)) aw)))) ah)) ah) (ae (aB (cX hr (aa 3) aj) (ae (au (aF (ai (aF (ai ay (ai (ar (aa 6) (bg (br T) hr (aX 0 (ag aj ao)))) (ai (aa 1) (ai (aa 4) aw))))) (ai (aa 2) aw)))) ah) ah) (ae (aB (cX hr (aa 5) aj) (ae (au (aF (ai (aF (ai ay (ai ay (ai (aa 1) aw)))) (ai (aa 2) aw)))) ah) ah) (ae (b8 9 S.nd (bg (br T) hr (aX 0 (ag (aa 5) ao)))) (ae (aB (cX hr (aa 3) aj) (ae (au (aF (ai (aF (ai ay (ai (aa 1) (ai (aa 4) (ai (aa 9) aw))))) (ai (aH aM aP (dI (aa 2) bM (bN (aa 4))) (dI (aa 2) (bN (aH aM aP (aa 4) aj)) bM)) aw)))) ah) ah) (ae (b8 10 S.nd (aH aM aP aj (bg (br T) hr (aX 0 (ag aj ao))))) (ae (b8 11 S.nd (aH zZ Dx (aH cD eg (aH cD eg (aa 5) aj) (aa 9)) (aa 10))) (ae (aB (cX hr (bg (br T) hr (aX 0 (ag aj ao))) aj) (ae (b8 11 S.nd (aH zZ Dx (aa 9) (aa 10))) (ae (b8 10 S.nd (aH cD eg aj (aa 10))) ah)) ah) (ae (b8 12 S.nd (aH cD eg (aH aM aP (aa 11) aj) (bg (br T) hr (aX 0 (ag (aH aM aP (aa 11) aj) ao))))) (ae (au (aF (ai (aF (ai ay (ai (aa 1) (ai (aa 4) (ai (aa 9) (ai (aa 10) (ai (aa 12) aw))))))) (ai (bg (qA T) hr (ag (aa 2) (ag (aa 4) (ag (aa 12) ao)))) aw)))) ah))))))))))))))
theorem Nr:Cl P base T "_law_view" 2 [true,false,false,false] iq:=fc ["_law_many","_law_turn","_law_order","_law_at","_law_sides","_law_cells_here"] nZ (T.d 12 rfl) fun S hr=>(ae (b8 4 S.nd (bL (T.b 7) (PV.rd (aa 2)))) (ae (aB (cX hr (aa 3) aj) (ae (b8 5 S.nd (bg (br T) hr (aX 0 (ag (kg (iH rfl) vD rfl (T.b 9) boot_max (ai aj (ai (aa 4) aw))) ao)))) (ae (uS 1 6 S.nd rfl (Or.inl rfl) rfl (N':=["_law_row","_law_a","_law_own","_law_way","_law_many","_law_turn","_law_order","_law_at","_law_sides","_law_cells_here","_law_k","?acc10"]) ⟨rfl,by kernel_rfl⟩ rfl (bY rfl (T.b 10) (ai (aa 4) aw)) eY (iE (by kernel_rfl)) (fun C s H ex=>(ko 10 (HM ["_law_row","_law_a","_law_own","_law_way","_law_many","_law_turn","_law_order","_law_at","_law_sides","_law_cells_here","_law_k","?acc10"]))) (fun C s H ex _=>cf) (fun C s H ex _=>(aH lG qd (aH aM aP (aa 10) (aa 5)) (aa 4)))) (ae (aB (cX hr (bg (br T) hr (aX 0 (ag aj ao))) aj) (ae (b8 6 S.nd (PF.pv (Im rfl (T.b 11) rfl (T.b 8) (PV.rd (aa 6))))) ah) ah) (ae (au (aF (ai (aF (ai ay (ai (aa 1) (ai (rJ (T.b 13) (PV.rd (aa 6))) aw)))) (ai (rJ (T.b 13) (PV.rd (PF.pv (yg 1 ["_law_row","_law_a","_law_own","_law_way","_law_many","_law_turn","_law_order","_law_at","_law_sides","_law_cells_here","_law_k","?acc10"] (cQ (aa 6)) (fun nd=>(ko 10 nd)) cf (ar (aa 2) (aa 10)))))) aw)))) ah)))) ah) (ae (aB (cX hr (aa 3) aj) (ae (b8 7 S.nd (bg (br T) hr (aX 0 (ag (aH aM aP (aa 4) aj) ao)))) (ae (au (aF (ai (aF (ai ay (ai (aa 1) (ai (aa 7) aw)))) (ai (aH aM aP (aH aM aP (dI (aa 2) bM (bN (aa 7))) (aF (ai aj aw))) (dI (aa 2) (bN (aa 7)) bM)) aw)))) ah)) ah) (ae (aB (cX hr (aa 3) aj) (ae (b8 8 S.nd (rJ (T.b 13) (PV.rd (PF.pv (yg 1 ["_law_row","_law_a","_law_own","_law_way","_law_many","_law_turn","_law_order","_law_at","_law_sides","_law_cells_here","_law_size","?acc10"] (cQ (aa 2)) (fun nd=>(ko 10 nd)) cf (ar (PF.pv (bc (ai (aa 10) (ai (bg (br T) hr (aX 0 (ag aj ao))) aw)))) (qN mZ xp rfl (T.b 5) boot_int (ai (du (jq hr.units) oi (aa 10) aj (bq _)) aw)))))))) (ae (aB (cX hr (bg (br T) hr (aX 0 (ag aj ao))) aj) (ae (b8 8 S.nd (aH aM aP (aF (ai (bg (br T) hr (aX 0 (ag aj ao))) aw)) (aa 8))) ah) ah) (ae (au (aF (ai (aF (ai ay (ai (aa 1) (ai (aa 8) aw)))) (ai (aa 8) aw)))) ah))) ah) (ae (b8 9 S.nd (bg (x6 T) hr (ag (aa 2) ao))) (ae (b8 8 S.nd (ar (PF.pv (bc (ai (Af rfl (T.b 11) rfl (T.b 13) (PV.rd (aa 2))) (ai (aF (ai (aa 9) aw)) (ai (aF (ai aj (ai (aa 9) aw))) (ai (aF (ai (aa 9) (ai aj aw))) aw)))))) (bg (br T) hr (aX 0 (ag aj ao))))) (ae (au (aF (ai (aF (ai ay (ai (aa 1) (ai (aa 8) aw)))) (ai (aa 8) aw)))) ah)))))))
theorem Q0A:Cl P base T "_law_program" 3 [true] vq:=fc ["_law_given","_law_k","_law_many","_law_count","_law_turn","_law_program_here","_law_sides","_law_index","_law_a","_law_way","_law_found"] Cj (T.d 13 rfl) fun S hr=>(ae (wM 1 S.nd (bc aw)) (ae (rh (bY rfl (T.b 10) (ai (aH aM aP aj (bg (br T) hr (aX 0 (ag aj ao)))) aw)) (ko 2 S.nd) (ae (b8 3 S.nd (bg (br T) hr (aX 0 (ag aj ao)))) (ae (Gp 1 (rJ (T.b 13) (PV.rd (PF.pv (yg 1 ["_law_row","_law_given","_law_k","_law_many","_law_count","_law_turn","_law_program_here","_law_sides","_law_index","_law_a","_law_way","_law_found","_law_j","?acc12"] (bY rfl (T.b 10) (ai (aa 3) aw)) (fun nd=>(ko 12 nd)) cf (ar (PF.pv (bc (ai aj (ai aj (ai aj (ai aj (ai aj (ai aj (ai aj (ai aj aw)))))))))) (bg (br T) hr (aX 0 (ag aj ao))))))))) ah))) (ae (Gp 1 (aF (ai (ar (PF.pv (bc (ai aj (ai aj (ai aj (ai aj aw)))))) (bg (br T) hr (aX 0 (ag aj ao)))) aw))) (ae (b8 4 S.nd (bL (T.b 7) (gZ 1))) (ae (b8 5 S.nd (bg (br T) hr (aX 0 (ag (aa 4) ao)))) (ae (pB 1 6 S.nd rfl (Or.inl rfl) rfl (N':=["_law_row","_law_given","?2","_law_many","_law_count","_law_turn","_law_program_here","_law_sides","_law_index","_law_a","_law_way","_law_found","_law_k","?acc12"]) ⟨rfl,by kernel_rfl⟩ rfl (bY rfl (T.b 10) (ai (aa 4) aw)) eY (iE (by kernel_rfl)) (fun C s H ex=>(ko 12 (HM ["_law_row","_law_given","?2","_law_many","_law_count","_law_turn","_law_program_here","_law_sides","_law_index","_law_a","_law_way","_law_found","_law_k","?acc12"]))) (fun C s H ex _=>cf) (fun C s H ex _=>(aF (ai ay (ai (aH lG qd (aH aM aP (aa 12) (aa 5)) (aa 4)) aw))))) (ae (JA 1 7 S.nd rfl (Or.inl rfl) rfl (N':=["_law_row","_law_given","_law_k","_law_many","_law_count","_law_turn","_law_program_here","_law_sides","_law_index","_law_a","_law_way","_law_found","_law_line","?acc12"]) ⟨rfl,by kernel_rfl⟩ rfl (cQ (aa 6)) eY (iE (by kernel_rfl)) (fun C s H ex=>(ko 12 (HM ["_law_row","_law_given","_law_k","_law_many","_law_count","_law_turn","_law_program_here","_law_sides","_law_index","_law_a","_law_way","_law_found","_law_line","?acc12"]))) (fun C s H ex _=>cf) (fun C s H ex _=>(ar (aa 1) (ar (aa 12) aj)))) (ae (b8 8 S.nd (aH lG qd (aH cD eg (aH cD eg (aa 4) aj) (aa 5)) (aa 4))) (ae (rh (bY rfl (T.b 10) (ai (aH aM aP aj (bg (br T) hr (aX 0 (ag aj ao)))) aw)) (ko 2 S.nd) (ae (b8 9 S.nd (aH cD eg (aH cD eg (bL (T.b 7) (gZ 6)) aj) (bg (br T) hr (aX 0 (ag (bL (T.b 7) (gZ 6)) ao))))) (ae (b8 10 S.nd (bg (br T) hr (aX 0 (ag aj ao)))) (ae (aB (bV ke qc (aa 10) aj (bq _)) (ae (b8 11 S.nd (bg (Nr T) hr (aX 0 (ag (aa 9) (ag (a7 7 (aa 9)) (ag (aa 10) ao)))))) ah) (ae (aB (iX.pb (dD (bV ke qc (aa 10) aj (bq _)) (dR (qI hr (a7 7 (aa 9)) (aF aw))))) (ae (b8 11 S.nd (bg (Nq T) hr (aX 0 (ag (aa 9) (ag (a7 7 (aa 9)) (ag (aa 10) ao)))))) ah) (ae (aB (cX hr (aa 10) aj) (ae (b8 11 S.nd (aF (ai (aF (ai ay (ai (aH lG qd (aa 9) (aa 4)) aw))) (ai (a7 1 (aH lG qd (aa 9) (aa 4))) aw)))) ah) (ae (b8 11 S.nd (bg (Nn T) hr (aX 0 (ag (aa 9) (aX 7 (ag (aa 10) (ag (aa 8) ao))))))) ah)) ah)) ah)) (ae (aB (iX.pb (cW (bV mD tZ (bg (x6 T) hr (ag (ar (aa 11) aj) ao)) aj (bq _)) (cW (bV mD tZ (bL (T.b 7) (PV.rd (ar (aa 11) aj))) aj (bq _)) (cO (bV mD tZ (IJ rfl rfl (T.b 9) boot_max (ar (aa 11) aj) aj) aj (bq _)))))) (ae (b8 11 S.nd (aF (ai (aF (ai ay (ai ay (ai (aa 9) aw)))) (ai (a7 7 (aa 9)) aw)))) ah) ah) (ae (Gp 6 (ar (aa 11) aj)) (ae (Gp 7 (ar (aa 11) aj)) ah))))))) (ae (hU (i:=1) (hU (i:=7) (hU (i:=6) (au (aF (ai (aa 6) (ai (aa 7) (ai (aa 4) (ai (aa 1) aw))))))))) ah))))))))))
theorem Sz:lO P base T "Plan" "__init__" false 1 [true,false,false,false] LA:=fm [] Qz (T.m 0 rfl) fun S hr=>(ae (a8 0 (T.f 9) (PF.pv (jr rfl (T.b 8) QS (PV.rd (aa 1))))) (ae (a8 0 (T.f 16) (IF rfl (T.b 3) VS.boot_dict (aa 2))) (ae (a8 0 (T.f 7) (PF.pv (jr rfl (T.b 8) QS (PV.rd (aa 3))))) ah)))
theorem Q0R:Cl P base T "spreads" 1 [false,false,false,false] zu:=fc [] yP (T.d 14 rfl) fun S hr=>(ae (au (hJ (du eD (ua false) (ar (ar (aa 0) (aa 2)) aj) (aF (ai ay (ai ay (ai ay aw)))) (by with_unfolding_all rfl)) (gr (du (uB hr.units) DA (ar (aa 1) (aa 2)) (ar (aa 1) (aa 3)) (bq _))))) ah)
theorem Ni:Cl P base T "is_kept" 2 [false,false,false,false] y8:=fc ["kind"] Ca (T.d 15 rfl) fun S hr=>(ae (b8 4 S.nd (ar (ar (aa 0) (aa 2)) aj)) (ae (aB (iX.pb (cW (cX hr (aa 2) (aH cD eg (bL (T.b 7) (PV.rd (aa 0))) aj)) (cO (bV eD (ua false) (aa 4) (aF (ai ay (ai ay (ai ay (ai ay aw))))) (by with_unfolding_all rfl))))) (ae (au dA) ah) ah) (ae (aB (aY (eE (rY rfl) (qa false) rfl (T.b 1) VS.boot_any (PV.rd (PF.pv (yg 1 ["program","sides","at","naming","kind","number","?acc5"] (cQ (aa 3)) (fun nd=>(ko 5 nd)) cf (du eD (ua false) (ar (ar (aa 0) (aa 5)) aj) (aF (ai ay (ai ay aw))) (by with_unfolding_all rfl))))))) (ae (au dA) ah) ah) (ae (aB (cX hr (aa 4) ay) (ae (au dA) ah) ah) (ae (au (E8 (du mD tZ (bL (T.b 7) (PV.rd (aa 3))) aj (bq _)) (gr (eE (rY rfl) (qa false) rfl (T.b 1) VS.boot_any (PV.rd (PF.pv (yg 1 ["program","sides","at","naming","kind","number","?acc5"] (cQ (aa 3)) (fun nd=>(ko 5 nd)) cf (bg (Q0R T) hr (ag (aa 0) (ag (aa 1) (ag (aa 5) (ag (aa 2) ao)))))))))))) ah)))))
theorem x9:Cl P base T "named_by" 1 [false] oa:=fc [] JT (T.d 16 rfl) fun S hr=>(ae (au (PF.pv (yg 2 ["line","part","value","?acc1"] (lM rfl (T.b 14) (ai (uF (T.t 1 rfl) rfl (ar (aa 0) aj)) (ai (dI (aa 0) (bN aj) bM) aw))) (fun nd=>(gu rfl (pA 1 nd (pA 2 nd dS)))) (kJ (cX hr (aa 1) ay)) (aa 2)))) ah)
theorem NA:Cl P base T "naming_lines" 2 [false,false,false] zg:=fc ["naming","number","line"] Ct (T.d 17 rfl) fun S hr=>(ae (wM 3 S.nd (bc aw)) (ae (rh (mK rfl (T.b 4) (ai (aa 0) aw)) (gu rfl (pA 4 S.nd (pA 5 S.nd dS))) (ae (aB (aY (ar (aa 1) (aa 4))) (ae (Pb 3 (yg 1 ["program","wanted","at","naming","number","line","named","?acc6"] (cQ (bg (x9 T) hr (ag (aa 5) ao))) (fun nd=>(ko 6 nd)) (kJ (cX hr (aa 6) (aa 2))) (aa 4)) (hpe:=fun ho ha=>Ku PySem.F.plainAttrs_list PySem.F.slot_list_extend PySem.F.type_list_extend Bd ho ha)) ah) ah) ah)) (ae (hU (i:=3) (au (aa 3))) ah)))
theorem NT:Cl P base T "wanted_lines" 2 [false] vv:=fc ["wanted","at","named"] CL (T.d 18 rfl) fun S hr=>(ae (pB 1 1 S.nd rfl (Or.inl rfl) rfl (N':=["program","wanted","at","named","line","?acc4"]) ⟨rfl,by kernel_rfl⟩ rfl (cQ (aa 0)) eY (iE (by kernel_rfl)) (fun C s H ex=>(ko 4 (HM ["program","wanted","at","named","line","?acc4"]))) (fun C s H ex _=>cf) (fun C s H ex _=>dA)) (ae (cz 1 (aH cD eg (bL (T.b 7) (PV.rd (aa 0))) aj) dA) (ae (rh (Jw rfl (T.b 10) (ai (aH cD eg (bL (T.b 7) (PV.rd (aa 0))) aj) (ai (qO lL ju aj) (ai (qO lL ju aj) aw)))) (ko 2 S.nd) (ae (aB (aY (a7 1 (aa 2))) (ae (rh (cQ (bg (x9 T) hr (ag (ar (aa 0) (aa 2)) ao))) (ko 3 S.nd) (ae (cz 1 (aa 3) dA) ah)) ah) ah) ah)) (ae (hU (i:=1) (au (aa 1))) ah))))
theorem Q2g:Cl P base T "kept_lines" 3 [false,false] vp:=fc ["wanted","kept","at","line"] Cd (T.d 19 rfl) fun S hr=>(ae (b8 2 S.nd (bg (NT T) hr (ag (aa 0) ao))) (ae (wM 3 S.nd (bc aw)) (ae (rh (mK rfl (T.b 4) (ai (aa 0) aw)) (gu rfl (pA 4 S.nd (pA 5 S.nd dS))) (ae (Gp 3 (hJ (ar (aa 2) (aa 4)) (gr (bg (Ni T) hr (ag (aa 0) (ag (aa 1) (ag (aa 4) (ag (bg (NA T) hr (ag (aa 0) (ag (aa 2) (ag (aa 4) ao)))) ao)))))))) ah)) (ae (hU (i:=3) (au (aa 3))) ah))))
theorem uy:Cl P base T "cells_in" 1 [false] pV:=fc ["many","side"] B4 (T.d 20 rfl) fun S hr=>(ae (b8 1 S.nd aj) (ae (rh (cQ (aa 0)) (ko 2 S.nd) (ae (b8 1 S.nd (aH iF k7 (aa 1) (aa 2))) ah)) (ae (au (aa 1)) ah)))
theorem Nv:Cl P base T "lengths_of" 2 [false,false] ze:=fc ["lengths","loop","row"] Cq (T.d 21 rfl) fun S hr=>(ae (pB 1 2 S.nd rfl (Or.inl rfl) rfl (N':=["loops","row_of","lengths","loop","?4","row","?acc5"]) ⟨rfl,by kernel_rfl⟩ rfl (bY rfl (T.b 10) (ai (aH aM aP (II rfl rfl (T.b 9) boot_max (aa 1)) aj) aw)) eY (iE (by kernel_rfl)) (fun C s H ex=>(ko 5 (HM ["loops","row_of","lengths","loop","?4","row","?acc5"]))) (fun C s H ex _=>cf) (fun C s H ex _=>aj)) (ae (rh (cQ (aa 0)) (ko 3 S.nd) (ae (b8 4 S.nd (pj (aa 1) (aT (T.f 8) (PV.rd (aa 3))))) (ae (cz 2 (aa 4) (kg (iH rfl) vD rfl (T.b 9) boot_max (ai (a7 2 (aa 4)) (ai (bg (uy T) hr (ag (aT (T.f 18) (PV.rd (aa 3))) ao)) aw)))) ah))) (ae (hU (i:=2) (au (aa 2))) ah)))
theorem vW:lO P base T "Loop" "__init__" true 1 [true,false,false] AK:=fm [] Qw (T.m 1 rfl) fun S hr=>(ae (a8 0 (T.f 8) (aa 1)) (ae (a8 0 (T.f 18) (aa 2)) ah))
theorem Q1N:lO P base T "Fill" "__init__" false 2 [true,false,false,false] Lu:=fm [] Qs (T.m 2 rfl) fun S hr=>(ae (mM (SH (vW T) hr (aX 0 (ag (aa 1) (ag (aa 2) ao))))) (ae (a8 0 (T.f 25) (aa 3)) ah))
theorem Su:lO P base T "Fold" "__init__" false 2 [true,false,false,false,false,false,false] Lv:=fm [] Qt (T.m 3 rfl) fun S hr=>(ae (mM (SH (vW T) hr (aX 0 (ag (aa 1) (ag (aa 2) ao))))) (ae (a8 0 (T.f 17) (aa 3)) (ae (a8 0 (T.f 19) (aa 4)) (ae (a8 0 (T.f 3) (aa 5)) (ae (a8 0 (T.f 25) (aa 6)) ah)))))
theorem Sw:lO P base T "Load" "__init__" false 2 [true,false,false,false] Lx:=fm [] Qv (T.m 4 rfl) fun S hr=>(ae (mM (SH (vW T) hr (aX 0 (ag (aa 1) (ag (aa 2) ao))))) (ae (a8 0 (T.f 24) (aa 3)) ah))
theorem Sy:lO P base T "Pick" "__init__" false 2 [true,false,false,false,false,false,false] Lz:=fm [] Qy (T.m 5 rfl) fun S hr=>(ae (mM (SH (vW T) hr (aX 0 (ag (aa 1) (ag (aa 2) ao))))) (ae (a8 0 (T.f 17) (aa 3)) (ae (a8 0 (T.f 20) (aa 4)) (ae (a8 0 (T.f 13) (aa 5)) (ae (a8 0 (T.f 21) (aa 6)) ah)))))
theorem M9:lO P base T "Through" "__init__" false 2 [true,false,false,false,false,false] Dl:=fm [] JN (T.m 6 rfl) fun S hr=>(ae (mM (SH (vW T) hr (aX 0 (ag (aa 1) (ag (aa 2) ao))))) (ae (a8 0 (T.f 17) (aa 3)) (ae (a8 0 (T.f 3) (aa 4)) (ae (a8 0 (T.f 25) (aa 5)) ah))))
theorem EB:lO P base T "Weaver" "__init__" false 1 [true,false,false,false,false] yX:=fm [] JO (T.m 7 rfl) fun S hr=>(ae (a8 0 (T.f 14) (aa 1)) (ae (a8 0 (T.f 18) (aa 2)) (ae (a8 0 (T.f 5) (aa 3)) (ae (a8 0 (T.f 10) (aa 4)) ah))))
theorem Sq:lO P base T "Both" "__init__" false 1 [true,false,false,false] Lr:=fm [] Qq (T.m 8 rfl) fun S hr=>(ae (a8 0 (T.f 3) (aa 1)) (ae (a8 0 (T.f 6) (aa 2)) (ae (a8 0 (T.f 15) (aa 3)) ah)))
theorem Q0i:lO P base T "Even" "__init__" false 1 [true,false] Ls:=fm [] Qr (T.m 9 rfl) fun S hr=>(ae (a8 0 (T.f 11) (aa 1)) ah)
theorem Sx:lO P base T "One" "__init__" false 1 [true,false,false] Ly:=fm [] Qx (T.m 10 rfl) fun S hr=>(ae (a8 0 (T.f 3) (aa 1)) (ae (a8 0 (T.f 4) (aa 2)) ah))
theorem Q1U:lO P base T "Read" "__init__" false 1 [true,false,false,false] Dk:=fm [] JM (T.m 11 rfl) fun S hr=>(ae (a8 0 (T.f 8) (aa 1)) (ae (a8 0 (T.f 22) (aa 2)) (ae (a8 0 (T.f 23) (aa 3)) ah)))
theorem NI:Cl P base T "reading_by" 1 [false,false,false] zk:=fc ["start","steps","part","stride"] Cz (T.d 22 rfl) fun S hr=>(ae (b8 3 S.nd aj) (ae (pB 1 4 S.nd rfl (Or.inl rfl) rfl (N':=["way","strides","many","start","steps","part","stride","index","?acc7"]) ⟨rfl,by kernel_rfl⟩ rfl (bY rfl (T.b 10) (ai (aa 2) aw)) eY (iE (by kernel_rfl)) (fun C s H ex=>(ko 7 (HM ["way","strides","many","start","steps","part","stride","index","?acc7"]))) (fun C s H ex _=>cf) (fun C s H ex _=>aj)) (ae (rh (lM rfl (T.b 14) (ai (aa 0) (ai (aa 1) aw))) (gu rfl (pA 5 S.nd (pA 6 S.nd dS))) (ae (b8 3 S.nd (aH aM aP (aa 3) (aH iF k7 (ar (aa 5) aj) (aa 6)))) (ae (aB (qI hr (ar (aa 5) aj) (qO lL ju aj)) (ae (cz 4 (ar (aa 5) aj) (aH aM aP (a7 4 (ar (aa 5) aj)) (aH iF k7 (ar (aa 5) aj) (aa 6)))) ah) ah) ah))) (ae (au (aF (ai (aa 3) (ai (rJ (T.b 13) (gZ 4)) aw)))) ah))))
theorem NQ:Cl P base T "strides_of" 1 [false] zv:=fc ["backwards","stride","side"] CI (T.d 23 rfl) fun S hr=>(ae (wM 1 S.nd (bc aw)) (ae (b8 2 S.nd aj) (ae (rh (Q0x rfl (T.b 11) (aa 0)) (ko 3 S.nd) (ae (Gp 1 (aa 2)) (ae (b8 2 S.nd (aH iF k7 (aa 2) (aa 3))) ah))) (ae (au (Af rfl (T.b 11) rfl (T.b 13) (gZ 1))) ah))))
theorem EC:lO P base T "Weaver" "row_read" false 3 [false,false,false,false] vn:=fm ["reading"] B3 (T.m 12 rfl) fun S hr=>(ae (b8 4 S.nd (bg (NI T) hr (ag (aa 2) (ag (bg (NQ T) hr (ag (aa 3) ao)) (ag (aT (T.f 10) (PV.rd (aa 0))) ao))))) (ae (au (PF.pv (yi (Q1U T) hr (ag (aa 1) (ag (ar (aa 4) aj) (ag (ar (aa 4) aj) ao)))))) ah))
theorem Q10:lO P base T "Joined" "__init__" false 1 [true,false,false,false,false] Lw:=fm [] Qu (T.m 13 rfl) fun S hr=>(ae (a8 0 (T.f 12) (aa 1)) (ae (a8 0 (T.f 19) (aa 2)) (ae (a8 0 (T.f 0) (aa 3)) (ae (a8 0 (T.f 2) (aa 4)) ah))))
theorem ya:Cl P base T "part_standing" 1 [false] sC:=fc [] Cu (T.d 24 rfl) fun S hr=>(ae (au (aF (ai (aa 0) (ai (qO lL ju aj) (ai aj aw))))) ah)
theorem Q2O:Cl P base T "part_moved" 2 [false,false,false] sA:=fc ["first"] yN (T.d 25 rfl) fun S hr=>(ae (b8 3 S.nd (aH aM aP (aa 1) (aH iF k7 (aa 2) (ar (aa 0) aj)))) (ae (aB (cX hr (aH iF k7 (aa 2) (ar (aa 0) aj)) aj) (ae (au (bg (ya T) hr (ag (aa 3) ao))) ah) ah) (ae (au (aF (ai (aa 3) (ai (ar (aa 0) aj) (ai (aH iF k7 (aa 2) (ar (aa 0) aj)) aw))))) ah)))
theorem yd:Cl P base T "way_moved" 3 [false,false,false,false] sG:=fc ["moved"] CN (T.d 26 rfl) fun S hr=>(ae (wM 4 S.nd (jr rfl (T.b 8) QS (PV.rd (aa 0)))) (ae (cz 4 (aa 1) (bg (Q2O T) hr (ag (ar (aa 0) (aa 1)) (ag (aa 2) (ag (aa 3) ao))))) (ae (hU (i:=4) (au (aa 4))) ah)))
theorem Nc:lO P base T "Within" "__init__" false 1 [true,false,false,false,false] Dp:=fm [] JQ (T.m 14 rfl) fun S hr=>(ae (a8 0 (T.f 12) (aa 1)) (ae (a8 0 (T.f 19) (aa 2)) (ae (a8 0 (T.f 4) (aa 3)) (ae (a8 0 (T.f 11) (aa 4)) ah))))
theorem NV:Cl P base T "way_spread" 2 [false,false] zA:=fc ["last"] CO (T.d 27 rfl) fun S hr=>(ae (b8 2 S.nd (dI (aa 0) (bN (aH cD eg (bL (T.b 7) (PV.rd (aa 0))) (bL (T.b 7) (PV.rd (aa 1))))) bM)) (ae (au (PF.pv (yg 2 ["way","own","last","side","part","?acc3"] (lM rfl (T.b 14) (ai (aa 1) (ai (aa 2) aw))) (fun nd=>(gu rfl (pA 3 nd (pA 4 nd dS)))) cf (lg (cX hr (aa 3) aj) (bg (ya T) hr (ag aj ao)) (aa 4))))) ah))
theorem Q0h:Cl P base T "way_dropped" 2 [false,false,false] zy:=fc [] CM (T.d 28 rfl) fun S hr=>(ae (au (aH aM aP (aH aM aP (dI (aa 0) bM (bN (aa 1))) (PF.pv (bc (ai (bg (ya T) hr (ag (aa 2) ao)) aw)))) (dI (aa 0) (bN (aa 1)) bM))) ah)
theorem NW:Cl P base T "way_turned" 1 [false,false] zB:=fc ["turned","side","part"] CP (T.d 29 rfl) fun S hr=>(ae (wM 2 S.nd (jr rfl (T.b 8) QS (PV.rd (aa 0)))) (ae (rh (lM rfl (T.b 14) (ai (aa 1) (ai (aa 0) aw))) (gu rfl (pA 3 S.nd (pA 4 S.nd dS))) (ae (cz 2 (aa 3) (aa 4)) ah)) (ae (hU (i:=2) (au (aa 2))) ah)))
theorem NX:Cl P base T "way_widened" 1 [false,false] zC:=fc [] CQ (T.d 30 rfl) fun S hr=>(ae (au (aH aM aP (dI (aa 0) bM (bN (aa 1))) (dI (aa 0) (bN (aH aM aP (aa 1) aj)) bM))) ah)
theorem Nb:lO P base T "Where" "__init__" false 1 [true,false,false,false] Dn:=fm [] JP (T.m 15 rfl) fun S hr=>(ae (a8 0 (T.f 1) (aa 1)) (ae (a8 0 (T.f 6) (aa 2)) (ae (a8 0 (T.f 15) (aa 3)) ah)))
def KW(P:Program)(base:Heap){w:World}{K:Frag}{mg:MG}{a:Gq}(T:Txt L w K mg a)(n:Nat):Prop:=
 lO P base T "Weaver" "tree_named" false (3+n) [false,false,false] (eI n 0) /\
 lO P base T "Weaver" "tree_made" false (3+n) [false,false,false] (eI n 1) /\
 lO P base T "Weaver" "tree_viewed" false (3+n) [false,false,false] (eI n 2) /\
 lO P base T "Weaver" "tree_spread" false (3+n) [false,false,false] (eI n 3) /\
 lO P base T "Weaver" "tree_shifted" false (3+n) [false,false,false,false,false,false] (eI n 4) /\
 lO P base T "Weaver" "tree_joined" false (3+n) [false,false,false,false,false] (eI n 5)
theorem OS{n:Nat}(ih:KW P base T n):lO P base T "Weaver" "tree_named" false (3+n+1) [false,false,false] (eI (n+1) 0):=by obtain⟨eZ,ny,nA,gR,nz,nv⟩:=ih;exact fm [] (u7 (eI n)) (T.m 16 rfl) fun S hr=>(ae (aB (aY (ar (aT (T.f 5) (PV.rd (aa 0))) (aa 1))) (ae (au (pf (EC T) hr (aa 0) (ag (aa 1) (ag (aa 2) (ag (ar (aT (T.f 18) (PV.rd (aa 0))) (aa 1)) ao))))) ah) ah) (ae (au (pf ny hr (aa 0) (ag (aa 1) (ag (aa 2) ao)))) ah))
theorem Q0K{n:Nat}(ih:KW P base T n):lO P base T "Weaver" "tree_made" false (3+n+1) [false,false,false] (eI (n+1) 1):=by obtain⟨eZ,ny,nA,gR,nz,nv⟩:=ih;exact fm ["line","kind"] (jx (eI n)) (T.m 17 rfl) fun S hr=>(ae (b8 3 S.nd (ar (aT (T.f 14) (PV.rd (aa 0))) (aa 1))) (ae (b8 4 S.nd (ar (aa 3) aj)) (ae (aB (cX hr (aa 4) ay) (ae (au (PF.pv (yi (Q0i T) hr (ag (ar (aa 3) aj) ao)))) ah) ah) (ae (aB (cX hr (aa 4) ay) (ae (au (PF.pv (yi (Sx T) hr (ag (ar (aa 3) aj) (ag (pf eZ hr (aa 0) (ag (ar (aa 3) aj) (ag (aa 2) ao))) ao))))) ah) ah) (ae (aB (cX hr (aa 4) ay) (ae (au (PF.pv (yi (Sq T) hr (ag (ar (aa 3) aj) (ag (pf gR hr (aa 0) (ag (ar (aa 3) aj) (ag (aa 2) ao))) (ag (pf gR hr (aa 0) (ag (ar (aa 3) aj) (ag (aa 2) ao))) ao)))))) ah) ah) (ae (aB (cX hr (aa 4) ay) (ae (au (PF.pv (yi (Nb T) hr (ag (pf gR hr (aa 0) (ag (ar (aa 3) aj) (ag (aa 2) ao))) (ag (pf gR hr (aa 0) (ag (ar (aa 3) aj) (ag (aa 2) ao))) (ag (pf gR hr (aa 0) (ag (ar (aa 3) aj) (ag (aa 2) ao))) ao)))))) ah) ah) (ae (aB (cX hr (aa 4) ay) (ae (au (pf nz hr (aa 0) (ag (ar (aa 3) aj) (ag (ar (aa 3) aj) (ag (ar (aa 3) aj) (ag (ar (aa 3) aj) (ag (aa 2) ao))))))) ah) ah) (ae (aB (cX hr (aa 4) ay) (ae (au (pf nv hr (aa 0) (ag (ar (aa 3) aj) (ag (ar (aa 3) aj) (ag (ar (aa 3) aj) (ag (aa 2) ao)))))) ah) ah) (ae (aB (cX hr (aa 4) ay) (ae (au (pf (EC T) hr (aa 0) (ag (ar (aa 3) aj) (ag (aa 2) (ag (ar (aT (T.f 18) (PV.rd (aa 0))) (aa 1)) ao))))) ah) ah) (ae (au (pf nA hr (aa 0) (ag (aa 3) (ag (aa 2) ao)))) ah))))))))))
theorem OV{n:Nat}(ih:KW P base T n):lO P base T "Weaver" "tree_viewed" false (3+n+1) [false,false,false] (eI (n+1) 2):=by obtain⟨eZ,ny,nA,gR,nz,nv⟩:=ih;exact fm ["kind"] (jy (eI n)) (T.m 18 rfl) fun S hr=>(ae (b8 3 S.nd (ar (aa 1) aj)) (ae (aB (cX hr (aa 3) ay) (ae (au (pf eZ hr (aa 0) (ag (ar (aa 1) aj) (ag (bg (NW T) hr (ag (aa 2) (ag (ar (aa 1) aj) ao))) ao)))) ah) ah) (ae (aB (cX hr (aa 3) ay) (ae (au (pf eZ hr (aa 0) (ag (ar (aa 1) aj) (ag (bg (yd T) hr (ag (aa 2) (ag (ar (aa 1) aj) (ag (ar (aa 1) aj) (ag (ar (aa 1) aj) ao))))) ao)))) ah) ah) (ae (aB (cX hr (aa 3) ay) (ae (au (pf eZ hr (aa 0) (ag (ar (aa 1) aj) (ag (bg (Q0h T) hr (ag (aa 2) (ag (ar (aa 1) aj) (ag (ar (aa 1) aj) ao)))) ao)))) ah) ah) (ae (aB (cX hr (aa 3) ay) (ae (au (pf eZ hr (aa 0) (ag (ar (aa 1) aj) (ag (bg (NX T) hr (ag (aa 2) (ag (ar (aa 1) aj) ao))) ao)))) ah) ah) (ae (au (pf gR hr (aa 0) (ag (ar (aa 1) aj) (ag (aa 2) ao)))) ah))))))
theorem Q1Y{n:Nat}(ih:KW P base T n):lO P base T "Weaver" "tree_spread" false (3+n+1) [false,false,false] (eI (n+1) 3):=by obtain⟨eZ,ny,nA,gR,nz,nv⟩:=ih;exact fm [] (yL (eI n)) (T.m 19 rfl) fun S hr=>(ae (au (pf eZ hr (aa 0) (ag (aa 1) (ag (bg (NV T) hr (ag (aa 2) (ag (ar (aT (T.f 18) (PV.rd (aa 0))) (aa 1)) ao))) ao)))) ah)
theorem OT{n:Nat}(ih:KW P base T n):lO P base T "Weaver" "tree_shifted" false (3+n+1) [false,false,false,false,false,false] (eI (n+1) 4):=by obtain⟨eZ,ny,nA,gR,nz,nv⟩:=ih;exact fm ["moved"] (yK (eI n)) (T.m 20 rfl) fun S hr=>(ae (b8 6 S.nd (bg (yd T) hr (ag (aa 5) (ag (aa 2) (ag (qO lL ju (aa 3)) (ag aj ao)))))) (ae (au (PF.pv (yi (Nc T) hr (ag (ar (aa 6) (aa 2)) (ag (ar (ar (aT (T.f 18) (PV.rd (aa 0))) (aa 1)) (aa 2)) (ag (pf eZ hr (aa 0) (ag (aa 1) (ag (aa 6) ao))) (ag (aa 4) ao))))))) ah))
theorem Q1X{n:Nat}(ih:KW P base T n):lO P base T "Weaver" "tree_joined" false (3+n+1) [false,false,false,false,false] (eI (n+1) 5):=by obtain⟨eZ,ny,nA,gR,nz,nv⟩:=ih;exact fm ["size","moved"] (yJ (eI n)) (T.m 21 rfl) fun S hr=>(ae (b8 5 S.nd (ar (ar (aT (T.f 18) (PV.rd (aa 0))) (aa 1)) (aa 3))) (ae (b8 6 S.nd (bg (yd T) hr (ag (aa 4) (ag (aa 3) (ag (qO lL ju (aa 5)) (ag aj ao)))))) (ae (au (PF.pv (yi (Q10 T) hr (ag (ar (aa 4) (aa 3)) (ag (aa 5) (ag (pf eZ hr (aa 0) (ag (aa 1) (ag (aa 4) ao))) (ag (pf eZ hr (aa 0) (ag (aa 2) (ag (aa 6) ao))) ao))))))) ah)))
theorem nY:∀n,KW P base T n|0=>⟨⟨_,_,_,_,_,_,(T.m 16 rfl),p7 rfl⟩,⟨_,_,_,_,_,_,(T.m 17 rfl),p7 rfl⟩,⟨_,_,_,_,_,_,(T.m 18 rfl),p7 rfl⟩,⟨_,_,_,_,_,_,(T.m 19 rfl),p7 rfl⟩,⟨_,_,_,_,_,_,(T.m 20 rfl),p7 rfl⟩,⟨_,_,_,_,_,_,(T.m 21 rfl),p7 rfl⟩⟩|n+1=>⟨OS T (nY n),Q0K T (nY n),OV T (nY n),Q1Y T (nY n),OT T (nY n),Q1X T (nY n)⟩
theorem ED:lO P base T "Weaver" "tree_named" false 67 [false,false,false] yY:=(nY T 64).1
theorem Na:lO P base T "Weaver" "tree_made" false 67 [false,false,false] Dm:=(nY T 64).2.1
theorem yc:Cl P base T "straight_way" 1 [false] pX:=fc [] CH (T.d 31 rfl) fun S hr=>(ae (au (PF.pv (yg 1 ["many","at","?acc1"] (bY rfl (T.b 10) (ai (aa 0) aw)) (fun nd=>(ko 1 nd)) cf (aF (ai aj (ai (aa 1) (ai aj aw))))))) ah)
theorem Ny:Cl P base T "loop_of" 68 [false,false,false,false] lZ:=fc ["line","own","kind","inner","tree","weaver"] pK (T.d 32 rfl) fun S hr=>(ae (b8 4 S.nd (ar (aa 0) (aa 3))) (ae (b8 5 S.nd (ar (aa 1) (aa 3))) (ae (b8 6 S.nd (ar (aa 4) aj)) (ae (aB (cX hr (aa 6) ay) (ae (au (PF.pv (yi (Sw T) hr (ag (aa 3) (ag (aa 5) (ag (ar (aa 4) aj) ao)))))) ah) ah) (ae (aB (cX hr (aa 6) ay) (ae (au (PF.pv (yi (Sy T) hr (ag (aa 3) (ag (aa 5) (ag (ar (aa 4) aj) (ag (ar (aa 4) aj) (ag (ar (aa 4) aj) (ag (ar (aa 1) (ar (aa 4) aj)) ao))))))))) ah) ah) (ae (aB (cX hr (aa 6) ay) (ae (b8 7 S.nd (ar (aa 1) (ar (aa 4) aj))) (ae (b8 8 S.nd (pf (ED T) hr (PF.pv (yi (EB T) hr (ag (aa 0) (ag (aa 1) (ag (aa 2) (ag (bL (T.b 7) (PV.rd (aa 7))) ao)))))) (ag (ar (aa 4) aj) (ag (bg (yc T) hr (ag (bL (T.b 7) (PV.rd (aa 7))) ao)) ao)))) (ae (au (PF.pv (yi (Su T) hr (ag (aa 3) (ag (aa 5) (ag (ar (aa 4) aj) (ag (ar (aa 7) (ar (aa 4) aj)) (ag (ar (aa 4) aj) (ag (aa 8) ao))))))))) ah))) ah) (ae (b8 9 S.nd (PF.pv (yi (EB T) hr (ag (aa 0) (ag (aa 1) (ag (aa 2) (ag (bL (T.b 7) (PV.rd (aa 5))) ao))))))) (ae (aB (cX hr (aa 6) ay) (ae (au (PF.pv (yi (M9 T) hr (ag (aa 3) (ag (aa 5) (ag (ar (aa 4) aj) (ag (ar (aa 4) aj) (ag (pf (ED T) hr (aa 9) (ag (ar (aa 4) aj) (ag (bg (yc T) hr (ag (bL (T.b 7) (PV.rd (aa 5))) ao)) ao))) ao)))))))) ah) ah) (ae (au (PF.pv (yi (Q1N T) hr (ag (aa 3) (ag (aa 5) (ag (pf (Na T) hr (aa 9) (ag (aa 3) (ag (bg (yc T) hr (ag (bL (T.b 7) (PV.rd (aa 5))) ao)) ao))) ao)))))) ah)))))))))
def XB(P:Program)(base:Heap){w:World}{K:Frag}{mg:MG}{a:Gq}(T:Txt L w K mg a)(n:Nat):Prop:=Cl P base T "lines_read_in" (0+n) [false] (wN n 0)
theorem Q1k{n:Nat}(ih:XB P base T n):Cl P base T "lines_read_in" (0+n+1) [false] (wN (n+1) 0):=by have jY:=ih;exact fc [] (jz (wN n)) (T.d 33 rfl) fun S hr=>(ae (aB (aY (cC (T.i 9) rfl (T.b 6) rfl (PV.rd (aa 0)))) (ae (au (PF.pv (bc (ai (aT (T.f 8) (PV.rd (aa 0))) aw)))) ah) ah) (ae (aB (aY (IH (T.j 0) rfl (T.b 6) (PV.rd (aa 0)))) (ae (au (bg jY hr (ag (aT (T.f 4) (PV.rd (aa 0))) ao))) ah) ah) (ae (aB (aY (cC (T.i 0) rfl (T.b 6) rfl (PV.rd (aa 0)))) (ae (au (aH aM aP (bg jY hr (ag (aT (T.f 6) (PV.rd (aa 0))) ao)) (bg jY hr (ag (aT (T.f 15) (PV.rd (aa 0))) ao)))) ah) ah) (ae (aB (aY (cC (T.i 11) rfl (T.b 6) rfl (PV.rd (aa 0)))) (ae (au (aH aM aP (aH aM aP (bg jY hr (ag (aT (T.f 1) (PV.rd (aa 0))) ao)) (bg jY hr (ag (aT (T.f 6) (PV.rd (aa 0))) ao))) (bg jY hr (ag (aT (T.f 15) (PV.rd (aa 0))) ao)))) ah) ah) (ae (aB (aY (cC (T.i 3) rfl (T.b 6) rfl (PV.rd (aa 0)))) (ae (au (aH aM aP (bg jY hr (ag (aT (T.f 0) (PV.rd (aa 0))) ao)) (bg jY hr (ag (aT (T.f 2) (PV.rd (aa 0))) ao)))) ah) ah) (ae (au (PF.pv (bc aw))) ah))))))
theorem JL:∀n,XB P base T n|0=>⟨_,_,_,_,(T.d 33 rfl),p7 rfl⟩|n+1=>Q1k T (JL n)
theorem Q1M:Cl P base T "lines_read_in" 64 [false] Dr:=(JL T 64)
theorem Nw:Cl P base T "lines_read_by" 65 [false] pW:=fc [] Cr (T.d 34 rfl) fun S hr=>(ae (aB (aY (cC (T.i 4) rfl (T.b 6) rfl (PV.rd (aa 0)))) (ae (au (PF.pv (bc aw))) ah) ah) (ae (aB (aY (cC (T.i 7) rfl (T.b 6) rfl (PV.rd (aa 0)))) (ae (au (PF.pv (bc (ai (aT (T.f 20) (PV.rd (aa 0))) (ai (aT (T.f 13) (PV.rd (aa 0))) aw))))) ah) ah) (ae (au (bg (Q1M T) hr (ag (aT (T.f 25) (PV.rd (aa 0))) ao))) ah)))
theorem Nu:Cl P base T "last_readings" 66 [false] zd:=fc ["last","at","loop","line"] Cp (T.d 35 rfl) fun S hr=>(ae (wM 1 S.nd z8) (ae (rh (mK rfl (T.b 4) (ai (aa 0) aw)) (gu rfl (pA 2 S.nd (pA 3 S.nd dS))) (ae (rh (cQ (bg (Nw T) hr (ag (aa 3) ao))) (ko 4 S.nd) (ae (Ap 1 (aa 4) (aa 2)) ah)) ah)) (ae (hU (i:=1) (au (aa 1))) ah)))
theorem Nz:Cl P base T "lowest_beside" 1 [false] zf:=fc ["row"] Cs (T.d 36 rfl) fun S hr=>(ae (b8 1 S.nd aj) (ae (wI PassesOwn.never (bV eD (ua false) (aa 1) (aa 0) (by with_unfolding_all rfl)) (ae (b8 1 S.nd (aH aM aP (aa 1) aj)) ah)) (ae (au (aa 1)) ah)))
theorem NJ:Cl P base T "rows_of" 67 [false] zm:=fc ["last","row_of","at","loop","needed"] CB (T.d 37 rfl) fun S hr=>(ae (b8 1 S.nd (bg (Nu T) hr (ag (aa 0) ao))) (ae (wM 2 S.nd z8) (ae (rh (mK rfl (T.b 4) (ai (aa 0) aw)) (gu rfl (pA 3 S.nd (pA 4 S.nd dS))) (ae (JB 1 5 S.nd rfl (Or.inl rfl) rfl (N':=["loops","last","row_of","at","loop","needed","line","?acc6"]) ⟨rfl,by kernel_rfl⟩ rfl (Jx (aa 2)) eY (iE (by kernel_rfl)) (fun C s H ex=>(ko 6 (HM ["loops","last","row_of","at","loop","needed","line","?acc6"]))) (fun C s H ex _=>(kJ (bV SD VC (pj (aa 1) (aa 6)) (aa 3) (bq _)))) (fun C s H ex _=>(pj (aa 2) (aa 6)))) (ae (Ap 2 (aT (T.f 8) (PV.rd (aa 4))) (bg (Nz T) hr (ag (aa 5) ao))) ah))) (ae (hU (i:=2) (au (aa 2))) ah))))
theorem Q1T:Cl P base T "deed_is_known" 1 [false] Dq:=fc [] JR (T.d 38 rfl) fun S hr=>(ae (au (eE (mY rfl) (qa true) rfl (T.b 0) VS.boot_all (PV.rd (PF.pv (yg 2 ["line","part","value","?acc1"] (lM rfl (T.b 14) (ai (uF (T.t 1 rfl) rfl (ar (aa 0) aj)) (ai (dI (aa 0) (bN aj) bM) aw))) (fun nd=>(gu rfl (pA 1 nd (pA 2 nd dS)))) (kJ (EJ (T.t 0 rfl) rfl (aa 1) (by with_unfolding_all rfl))) (du eD (ua false) (aa 2) (uF (T.t 0 rfl) rfl (aa 1)) (by with_unfolding_all rfl))))))) ah)
theorem EE:Cl P base T "is_rest" 1 [false] vo:=fc [] Cb (T.d 39 rfl) fun S hr=>(ae (au (iU gB ke qb qc aj (aa 0) (kh (T.n 4 rfl) rfl))) ah)
theorem NB:Cl P base T "number_is_cell" 2 [false] og:=fc [] u9 (T.d 40 rfl) fun S hr=>(ae (aB (cX hr (ar (aa 0) aj) ay) (ae (au (bg (EE T) hr (ag (ar (aa 0) aj) ao))) ah) ah) (ae (au (E8 (du (uB hr.units) DA (ar (aa 0) aj) ay (bq _)) (gr (bg (EE T) hr (ag (ar (aa 0) aj) ao))))) ah))
theorem NF:Cl P base T "places_are_there" 2 [false,false,false] sD:=fc [] yO (T.d 41 rfl) fun S hr=>(ae (aB (cX hr (ar (aa 0) aj) ay) (ae (au (iU gB ke qb qc aj (ar (aa 0) aj) (aa 2))) ah) ah) (ae (au (eE (mY rfl) (qa true) rfl (T.b 0) VS.boot_all (PV.rd (PF.pv (yg 1 ["line","lines_ahead","tables","named","?acc3"] (cQ (bg (x9 T) hr (ag (aa 0) ao))) (fun nd=>(ko 3 nd)) cf (iU gB ke qb qc aj (aa 3) (aa 1))))))) ah))
theorem NK:Cl P base T "sides_can_be" 2 [false] zo:=fc [] CC (T.d 42 rfl) fun S hr=>(ae (aB (iX.pb (cW (bV mD tZ (bL (T.b 7) (PV.rd (aa 0))) (kh (T.n 3 rfl) rfl) (bq _)) (cO (bW (aY (eE (mY rfl) (qa true) rfl (T.b 0) VS.boot_all (PV.rd (PF.pv (yg 1 ["sides","side","?acc1"] (cQ (aa 0)) (fun nd=>(ko 1 nd)) cf (iU gB gB qb qb aj (aa 1) (kh (T.n 0 rfl) rfl))))))))))) (ae (au dA) ah) ah) (ae (au (du gB qb (bg (uy T) hr (ag (aa 0) ao)) (kh (T.n 1 rfl) rfl) (bq _))) ah))
theorem lF:Cl P base T "has_side" 1 [false,false] kW:=fc [] B9 (T.d 43 rfl) fun S hr=>(ae (au (iU gB ke qb qc aj (aa 1) (bL (T.b 7) (PV.rd (aa 0))))) ah)
theorem uA:Cl P base T "without" 1 [false,false] pY:=fc [] CT (T.d 44 rfl) fun S hr=>(ae (au (aH aM aP (dI (aa 0) bM (bN (aa 1))) (dI (aa 0) (bN (aH aM aP (aa 1) aj)) bM))) ah)
theorem Nh:Cl P base T "folded_sides" 2 [false,false,false] y7:=fc [] B7 (T.d 45 rfl) fun S hr=>(ae (aB (bW (aY (bg (lF T) hr (ag (aa 1) (ag (aa 2) ao))))) (ae (au b7) ah) ah) (ae (aB (iX.pb (dD (cX hr (ar (aa 1) (aa 2)) aj) (dR (bV eD (ua false) (aa 0) (aF (ai ay (ai ay aw))) (by with_unfolding_all rfl))))) (ae (au b7) ah) ah) (ae (au (bg (uA T) hr (ag (aa 1) (ag (aa 2) ao)))) ah)))
theorem yb:Cl P base T "replaced" 1 [false,false,false] sE:=fc [] CA (T.d 46 rfl) fun S hr=>(ae (au (aH aM aP (aH aM aP (dI (aa 0) bM (bN (aa 1))) (aF (ai (aa 2) aw))) (dI (aa 0) (bN (aH aM aP (aa 1) aj)) bM))) ah)
theorem Nj:Cl P base T "joined_sides" 2 [false,false,false] y9:=fc [] Cc (T.d 47 rfl) fun S hr=>(ae (aB (iX.pb (cW (bW (aY (bg (lF T) hr (ag (aa 0) (ag (aa 2) ao))))) (cO (qI hr (bL (T.b 7) (PV.rd (aa 0))) (bL (T.b 7) (PV.rd (aa 1))))))) (ae (au b7) ah) ah) (ae (aB (qI hr (bg (uA T) hr (ag (aa 0) (ag (aa 2) ao))) (bg (uA T) hr (ag (aa 1) (ag (aa 2) ao)))) (ae (au b7) ah) ah) (ae (au (bg (yb T) hr (ag (aa 0) (ag (aa 2) (ag (aH aM aP (ar (aa 0) (aa 2)) (ar (aa 1) (aa 2))) ao))))) ah)))
theorem ND:Cl P base T "picked_sides" 2 [false,false,false] zh:=fc [] Cv (T.d 48 rfl) fun S hr=>(ae (aB (iX.pb (cW (bW (aY (bg (lF T) hr (ag (aa 0) (ag (aa 1) ao))))) (cO (qI hr (bL (T.b 7) (PV.rd (aa 2))) aj)))) (ae (au b7) ah) ah) (ae (au (bg (yb T) hr (ag (aa 0) (ag (aa 1) (ag (ar (aa 2) aj) ao))))) ah))
theorem EG:Cl P base T "with_ones_ahead" 1 [false,false] vx:=fc [] CS (T.d 49 rfl) fun S hr=>(ae (au (aH aM aP (PF.pv (yg 1 ["sides","many","missing","?acc2"] (bY rfl (T.b 10) (ai (aH cD eg (aa 1) (bL (T.b 7) (PV.rd (aa 0)))) aw)) (fun nd=>(ko 2 nd)) cf aj)) (PF.pv (jr rfl (T.b 8) QS (PV.rd (aa 0)))))) ah)
theorem uz:Cl P base T "sides_met" 2 [false,false] oh:=fc ["many","met","left","right"] CF (T.d 50 rfl) fun S hr=>(ae (b8 2 S.nd (kg (iH rfl) vD rfl (T.b 9) boot_max (ai (bL (T.b 7) (PV.rd (aa 0))) (ai (bL (T.b 7) (PV.rd (aa 1))) aw)))) (ae (wM 3 S.nd (bc aw)) (ae (rh (lM rfl (T.b 14) (ai (bg (EG T) hr (ag (aa 0) (ag (aa 2) ao))) (ai (bg (EG T) hr (ag (aa 1) (ag (aa 2) ao))) aw))) (gu rfl (pA 4 S.nd (pA 5 S.nd dS))) (ae (aB (iX.pb (dD (qI hr (aa 4) (aa 5)) (dD (qI hr (aa 4) aj) (dR (qI hr (aa 5) aj))))) (ae (au b7) ah) ah) (ae (Gp 3 (lg (cX hr (aa 4) aj) (aa 5) (aa 4))) ah))) (ae (au (rJ (T.b 13) (gZ 3))) ah))))
theorem xZ:Cl P base T "has_place" 2 [false,false,false] sr:=fc [] B8 (T.d 51 rfl) fun S hr=>(ae (au (hJ (bg (lF T) hr (ag (aa 0) (ag (aa 1) ao))) (gr (iU gB ke qb qc aj (aa 2) (ar (aa 0) (aa 1)))))) ah)
theorem Nd:Cl P base T "cut_sides" 3 [false,false,false,false,false] yZ:=fc [] B5 (T.d 52 rfl) fun S hr=>(ae (aB (iX.pb (cW (bW (aY (bg (lF T) hr (ag (aa 0) (ag (aa 1) ao))))) (cW (cX hr (aa 3) aj) (cO (bV ke qc (aa 4) aj (bq _)))))) (ae (au b7) ah) ah) (ae (aB (iX.pb (dD (bV mD tZ (aa 4) aj (bq _)) (dR (bW (iX.pb (dD (aY (bg (xZ T) hr (ag (aa 0) (ag (aa 1) (ag (aa 2) ao))))) (dR (aY (bg (xZ T) hr (ag (aa 0) (ag (aa 1) (ag (aH aM aP (aa 2) (aH iF k7 (aa 3) (aH cD eg (aa 4) aj))) ao)))))))))))) (ae (au b7) ah) ah) (ae (au (bg (yb T) hr (ag (aa 0) (ag (aa 1) (ag (aa 4) ao))))) ah)))
theorem Q1A:Cl P base T "dropped_sides" 3 [false,false,false] y4:=fc [] B6 (T.d 53 rfl) fun S hr=>(ae (au (lg (aY (bg (xZ T) hr (ag (aa 0) (ag (aa 1) (ag (aa 2) ao))))) (bg (uA T) hr (ag (aa 0) (ag (aa 1) ao))) b7)) ah)
theorem NH:Cl P base T "put_in" 1 [false,false,false] zj:=fc [] Cy (T.d 54 rfl) fun S hr=>(ae (au (aH aM aP (aH aM aP (dI (aa 0) bM (bN (aa 1))) (aF (ai (aa 2) aw))) (dI (aa 0) (bN (aa 1)) bM))) ah)
theorem NS:Cl P base T "turned_sides" 1 [false,false] zx:=fc [] CK (T.d 55 rfl) fun S hr=>(ae (aB (qI hr (eE vb LM rfl (T.b 12) PyProof.Rows.boot_sorted (PV.rd (aa 1))) (PF.pv (Ik rfl (T.b 10) rfl (T.b 8) (ai (bL (T.b 7) (PV.rd (aa 0))) aw)))) (ae (au b7) ah) ah) (ae (au (rJ (T.b 13) (PV.rd (PF.pv (yg 1 ["sides","order","side","?acc2"] (cQ (aa 1)) (fun nd=>(ko 2 nd)) cf (ar (aa 0) (aa 2))))))) ah))
theorem NO:Cl P base T "sides_viewed" 4 [false,false] ir:=fc ["kind"] n5 (T.d 56 rfl) fun S hr=>(ae (b8 2 S.nd (ar (aa 0) aj)) (ae (aB (cX hr (aa 2) ay) (ae (au (bg (NS T) hr (ag (aa 1) (ag (ar (aa 0) aj) ao)))) ah) ah) (ae (aB (cX hr (aa 2) ay) (ae (au (bg (Nd T) hr (ag (aa 1) (ag (ar (aa 0) aj) (ag (ar (aa 0) aj) (ag (ar (aa 0) aj) (ag (ar (aa 0) aj) ao))))))) ah) ah) (ae (aB (cX hr (aa 2) ay) (ae (au (bg (Q1A T) hr (ag (aa 1) (ag (ar (aa 0) aj) (ag (ar (aa 0) aj) ao))))) ah) ah) (ae (aB (cX hr (aa 2) ay) (ae (au (lg (vY gB gB qb qb aj (ar (aa 0) aj) (bL (T.b 7) (PV.rd (aa 1)))) (bg (NH T) hr (ag (aa 1) (ag (ar (aa 0) aj) (ag aj ao)))) b7)) ah) ah) (ae (aB (cX hr (aa 2) ay) (ae (au (lg (cX hr (bg (uz T) hr (ag (aa 1) (ag (ar (aa 0) aj) ao))) (ar (aa 0) aj)) (ar (aa 0) aj) b7)) ah) ah) (ae (au (lg (cX hr (bg (uy T) hr (ag (aa 1) ao)) (bg (uy T) hr (ag (ar (aa 0) aj) ao))) (ar (aa 0) aj) b7)) ah)))))))
theorem NR:Cl P base T "three_met" 3 [false,false,false] zw:=fc ["met"] CJ (T.d 57 rfl) fun S hr=>(ae (b8 3 S.nd (bg (uz T) hr (ag (aa 0) (ag (aa 1) ao)))) (ae (au (lg (bV qF vC (aa 3) b7 (bq _)) b7 (bg (uz T) hr (ag (aa 3) (ag (aa 2) ao))))) ah))
theorem NN:Cl P base T "sides_told" 5 [false,true,false] eV:=fc ["kind"] fH (T.d 58 rfl) fun S hr=>(ae (b8 3 S.nd (ar (aa 0) aj)) (ae (aB (cX hr (aa 3) ay) (ae (au (ar (aa 2) (ar (aa 0) aj))) ah) ah) (ae (aB (cX hr (aa 3) ay) (ae (au (ar (aa 0) aj)) ah) ah) (ae (aB (cX hr (aa 3) ay) (ae (au (a7 1 (ar (aa 0) aj))) ah) ah) (ae (aB (cX hr (aa 3) ay) (ae (au (bg (uz T) hr (ag (a7 1 (ar (aa 0) aj)) (ag (a7 1 (ar (aa 0) aj)) ao)))) ah) ah) (ae (aB (cX hr (aa 3) ay) (ae (au (bg (NR T) hr (ag (a7 1 (ar (aa 0) aj)) (ag (a7 1 (ar (aa 0) aj)) (ag (a7 1 (ar (aa 0) aj)) ao))))) ah) ah) (ae (aB (cX hr (aa 3) ay) (ae (au (bg (Nh T) hr (ag (ar (aa 0) aj) (ag (a7 1 (ar (aa 0) aj)) (ag (ar (aa 0) aj) ao))))) ah) ah) (ae (aB (cX hr (aa 3) ay) (ae (au (lg (aY (bg (lF T) hr (ag (a7 1 (ar (aa 0) aj)) (ag (ar (aa 0) aj) ao)))) (a7 1 (ar (aa 0) aj)) b7)) ah) ah) (ae (aB (cX hr (aa 3) ay) (ae (au (bg (ND T) hr (ag (a7 1 (ar (aa 0) aj)) (ag (ar (aa 0) aj) (ag (a7 1 (ar (aa 0) aj)) ao))))) ah) ah) (ae (aB (cX hr (aa 3) ay) (ae (au (bg (Nj T) hr (ag (a7 1 (ar (aa 0) aj)) (ag (a7 1 (ar (aa 0) aj)) (ag (ar (aa 0) aj) ao))))) ah) ah) (ae (aB (cX hr (aa 3) ay) (ae (au (lg (aY (bg (lF T) hr (ag (a7 1 (ar (aa 0) aj)) (ag (ar (aa 0) aj) ao)))) (a7 1 (ar (aa 0) aj)) b7)) ah) ah) (ae (au (bg (NO T) hr (ag (aa 0) (ag (a7 1 (ar (aa 0) aj)) ao)))) ah))))))))))))
theorem NL:Cl P base T "sides_looked_over" 6 [false,false,true,false] zq:=fc ["sides"] CD (T.d 59 rfl) fun S hr=>(ae (aB (bW (aY (bg (NF T) hr (ag (aa 1) (ag (bL (T.b 7) (gZ 2)) (ag (bL (T.b 7) (PV.rd (aa 3))) ao)))))) (ae ku ah) ah) (ae (aB (bW (aY (bg (NB T) hr (ag (aa 1) ao)))) (ae ku ah) ah) (ae (b8 4 S.nd (lg (aY (bg (Q1T T) hr (ag (aa 1) ao))) (bg (NN T) hr (ag (aa 1) (aX 2 (ag (aa 3) ao)))) b7)) (ae (aB (iX.pb (cW (bV qF vC (aa 4) b7 (bq _)) (cO (bW (aY (bg (NK T) hr (ag (aa 4) ao))))))) (ae ku ah) ah) (ae (au (aa 4)) ah)))))
theorem NM:Cl P base T "sides_of" 7 [false,false] zt:=fc ["ahead","at","line"] CG (T.d 60 rfl) fun S hr=>(ae (aB (cX hr (bL (T.b 7) (PV.rd (aa 0))) aj) (ae ku ah) ah) (ae (aB (bV mD tZ (bL (T.b 7) (PV.rd (aa 0))) (kh (T.n 2 rfl) rfl) (bq _)) (ae ku ah) ah) (ae (wM 2 S.nd (bc aw)) (ae (rh (mK rfl (T.b 4) (ai (aa 0) aw)) (gu rfl (pA 3 S.nd (pA 4 S.nd dS))) (ae (Gp 2 (bg (NL T) hr (ag (aa 3) (ag (aa 4) (aX 2 (ag (aa 1) ao)))))) ah)) (ae (hU (i:=2) (au (aa 2))) ah)))))
theorem NG:Cl P base T "plan_of" 69 [false,false] zi:=fc ["sides","kept","loops","row_of"] Cw (T.d 61 rfl) fun S hr=>(ae (b8 2 S.nd (bg (NM T) hr (ag (aa 0) (ag (aa 1) ao)))) (ae (b8 3 S.nd (bg (Q2g T) hr (ag (aa 0) (ag (aa 2) ao)))) (ae (uS 1 4 S.nd rfl (Or.inl rfl) rfl (N':=["program","given","sides","kept","loops","row_of","at","?acc6"]) ⟨rfl,by kernel_rfl⟩ rfl (bY rfl (T.b 10) (ai (bL (T.b 7) (PV.rd (aa 0))) aw)) eY (iE (by kernel_rfl)) (fun C s H ex=>(ko 6 (HM ["program","given","sides","kept","loops","row_of","at","?acc6"]))) (fun C s H ex _=>(kJ (aY (ar (aa 3) (aa 6))))) (fun C s H ex _=>(bg (Ny T) hr (ag (aa 0) (ag (aa 2) (ag (aa 3) (ag (aa 6) ao))))))) (ae (b8 5 S.nd (bg (NJ T) hr (ag (aa 4) ao))) (ae (au (PF.pv (yi (Sz T) hr (ag (aa 4) (ag (aa 5) (ag (bg (Nv T) hr (ag (aa 4) (ag (aa 5) ao))) ao)))))) ah)))))
include T in
theorem M7:dG P w K mg base pC 70 (a.f 62) (a.d 62) ["_law_script"] (oP K mg [false] Dj):=fo ["_law_script","_law_drawn_here","_law_program_here","_law_sides","_law_kept_here","_law_lines","_law_given","_law_plan","_law_most","_law_at","_law_loop","_law_row"] B2 (T.d 62 rfl) fun S hr=>(ae (b8 1 S.nd (pcL (Q0A T) hr (bc (ai (aa 0) (ai aj aw))))) (ae (b8 2 S.nd (ar (aa 1) aj)) (ae (b8 3 S.nd (ar (aa 1) aj)) (ae (b8 4 S.nd (bg (Nm T) hr (ag (aa 2) (ag (aa 3) ao)))) (ae (uS 1 5 S.nd rfl (Or.inl rfl) rfl (N':=["_law_script","_law_drawn_here","_law_program_here","_law_sides","_law_kept_here","_law_lines","_law_given","_law_plan","_law_most","?9","_law_loop","_law_row","_law_at","?acc12"]) ⟨rfl,by kernel_rfl⟩ rfl (bY rfl (T.b 10) (ai (bL (T.b 7) (PV.rd (aa 2))) aw)) eY (iE (by kernel_rfl)) (fun C s H ex=>(ko 12 (HM ["_law_script","_law_drawn_here","_law_program_here","_law_sides","_law_kept_here","_law_lines","_law_given","_law_plan","_law_most","?9","_law_loop","_law_row","_law_at","?acc12"]))) (fun C s H ex _=>(kJ (aY (ar (aa 4) (aa 12))))) (fun C s H ex _=>(aa 12))) (ae (b8 6 S.nd (PF.pv (jr rfl (T.b 8) QS (PV.rd (ar (aa 1) aj))))) (ae (b8 7 S.nd (bg (NG T) hr (ag (PF.pv (jr rfl (T.b 8) QS (PV.rd (aa 2)))) (ag (aa 6) ao)))) (ae (aB (qI hr (aa 6) (ar (aa 1) aj)) (ae (au dA) ah) ah) (ae (aB (iX.pb (cW (bW (aY (cC (T.i 8) rfl (T.b 6) rfl (PV.rd (aa 7))))) (cW (bW (aY (nN "list" G9 rfl (T.b 6) rfl (T.b 8) (by decide +kernel) (PV.rd (aT (T.f 9) (PV.rd (aa 7))))))) (cO (qI hr (bL (T.b 7) (PV.rd (aT (T.f 9) (PV.rd (aa 7))))) (bL (T.b 7) (PV.rd (aa 5)))))))) (ae (au dA) ah) ah) (ae (wM 8 S.nd (bc aw)) (ae (rh (lM rfl (T.b 14) (ai (aa 5) (ai (aT (T.f 9) (PV.rd (aa 7))) aw))) (gu rfl (pA 9 S.nd (pA 10 S.nd dS))) (ae (aB (iX.pb (cW (bW (aY (bg (qD T) hr (ag (aT (T.f 8) (PV.rd (aa 10))) ao)))) (cW (qI hr (aT (T.f 8) (PV.rd (aa 10))) (aa 9)) (cO (bW (aY (bg (qC T) hr (ag (aT (T.f 18) (PV.rd (aa 10))) (ag (ar (aa 3) (aa 9)) ao))))))))) (ae (au dA) ah) ah) (ae (aB (iX.pb (cW (bW (aY (bg (Nl T) hr (ag (aa 10) (ag (ar (aa 2) (aa 9)) (ag (aa 3) ao)))))) (cO (HZ (aa 9) (aT (T.f 16) (PV.rd (aa 7))))))) (ae (au dA) ah) ah) (ae (b8 11 S.nd (pj (aT (T.f 16) (PV.rd (aa 7))) (aa 9))) (ae (aB (iX.pb (cW (bW (aY (bg (qD T) hr (ag (aa 11) ao)))) (cO (bW (vY gB ke qb qc aj (aa 11) aj))))) (ae (au dA) ah) ah) (ae (hU (i:=8) (wM 8 S.nd (Ih (aa 8) (aH z7 Q0z (PF.pv (bc (ai aj aw))) (aH cD eg (aH aM aP (aa 11) aj) (bL (T.b 7) (gZ 8))))))) (ae (cz 8 (aa 11) (kg (iH rfl) vD rfl (T.b 9) boot_max (ai (a7 8 (aa 11)) (ai (bg (x6 T) hr (ag (ar (aa 3) (aa 9)) ao)) aw)))) ah))))))) (ae (aB (iX.pb (cW (bW (aY (nN "dict" G9 rfl (T.b 6) rfl (T.b 3) (by decide +kernel) (PV.rd (aT (T.f 16) (PV.rd (aa 7))))))) (cW (qI hr (IG rfl (T.b 7) (aT (T.f 16) (PV.rd (aa 7)))) (bL (T.b 7) (PV.rd (aa 5)))) (cO (bW (aY (nN "list" G9 rfl (T.b 6) rfl (T.b 8) (by decide +kernel) (PV.rd (aT (T.f 7) (PV.rd (aa 7))))))))))) (ae (au dA) ah) ah) (ae (au (bg (qC T) hr (ag (rJ (T.b 13) (PV.rd (aT (T.f 7) (PV.rd (aa 7))))) (ag (rJ (T.b 13) (gZ 8)) ao)))) ah)))))))))))))
end
end LW
end
section
set_option Elab.async false
set_option maxRecDepth 100000
set_option maxHeartbeats 4000000
namespace LW
open PySem PySem.Spec PyProof.Rows L2 VP VS
theorem bd:TQ L.d:=by repeat (first|exact True.intro|refine⟨by first|exact XH|exact XI|exact XJ|exact XM|exact XN|exact XO|exact XQ,?_⟩)
theorem bm:TR L.m:=by repeat (first|exact True.intro|refine⟨by first|exact XH|exact XI|exact XJ|exact XM|exact XN|exact XO|exact XQ,?_⟩)
theorem MB{P:Program}{w:World}{K:Frag}{mg:MG}{base:Heap}{a:Gq}(T:Txt L w K mg a):dG P w K mg base pC 70 (a.f 62) (a.d 62) ["_law_script"] (W6 K):=(M7 T).imp fun vs H Q E ⟨p,ns,e,hs,hl,q⟩=>by subst e;refine⟨rfl,H,[Z ns],aL.refl _,⟨.lst hs (aI.ints ns),trivial⟩,by simp[qi,dW],?_⟩;rw[MA];exact fun F' H' v _ hv=>by cases hv;exact q H'
theorem all_mk{l:W.OpenLaw}{w:World}{K:Frag}{mg:MG}{fa:Addr}(Zt:mg "law" = some (.ref fa))(E:∃a:Gq,Txt L w K mg a):Qa l w K mg fa 70 "_law_script" := by obtain⟨a,T⟩:=E;have D:=T.d 62 rfl;have e:=Zt.symm.trans D.mg;cases e;exact⟨_,D.Z2 fun _ _ _ _ _ _ _ _=>.of_eq rfl,fun base=>MB T⟩
end LW
structure PySem.W.Fast:Prop where(tw14620563759214568838 tw16340947591703154774 tw8758653479710914888 tw8902435749824563030 tw15311721870626073466 tw3136005666433072957 tw11867351581924149969 tw11058910190822804531 tw5880220741152986989 tw6790709668662322417 tw11430935940992958355 tw804155556139273849 tw6430323127369835476 tw17456879252621535363 tw580623713126370087 tw14910021955071378038 tw3823592595941532385 tw13312123789697578852 tw8083085694969732961 tw5917975438980569298 tw3463357659087077574 tw875116369624296847 tw9443175609156021627 tw4440479830565729903 tw667650052872672245 tw5130190650736183438 tw15172944979424062486 tw6916598360240899642 tw2707101918768710882 tw8244096453211796097 tw5513665407486256316 tw5810047925500990467 tw8850244226683322 tw777444477137033037 tw18268510505504740657 tw5478515519598671155 tw11967732100945875846 tw651574126105198486 tw9954079061636633076 tw6606045418752330389 tw16085691647852638581 tw9888464854878676171 tw3497646252665536751 tw1247220575861985421 tw14933487337401142647 tw8589804184777337013 tw547198852701212562 tw14148464622658624495 tw16467612958472070399 tw6350002455747992253 tw6297750595606045559 tw13031736747113314333 tw14625655173062004565 tw12241838724078741393 tw9465621135518986021 tw6347395809937277997 tw12738662834099006581 tw10867314298034518943 tw10417985473799900567 tw9666854288547492676 tw1973846979370399741 tw8555335564245310793 tw13408054967691933234 tw15727219774579724864 tw2763811923445698640 tw11663562299869758202 tw15931895111124459410 tw4280295170655907070 tw1131873467766876645 tw142606993947540904 tw15898582278004595649 tw10514455477658374485 tw14278468169653680038 tw2547814230386840862 tw10104873293142732048 tw8042576958581750172 tw11311522927796965329 tw12232243519788585488 tw1893871733416086571 tw10161087237003819085 tw292615555601950809 tw4829145298772228635 tw14450465203690595085 tw12188739038416125098 tw3965144422531016725 tw12751108065597879725 tw4093583871773599934 tw17851793387772321111 tw1902690678206634862 tw11691031269802888660 tw5694235739784673109 tw8127468182649737855 tw1614556142947123862 tw13615107187251050510 tw15086229693420842134 tw9449882579761715673 tw6897713299961573034 tw7416760783202227124 tw16139708570401117262 tw2419363797714884212 tw7729809574702489888 tw761024018664209203 tw6643657489477619925 tw8041757308538910466 tw12539087216594796033 tw16852569134567360393 tw750678689286076987 tw14993280612691646782 tw3732643994149955562 tw15491872717770806486 tw10923320416126886500 tw15666844874752876939 tw2198695191612949082 tw1522827771357825802 tw2161157801853897685 tw17060414670654924512 tw12069166027805355887 tw17069049855570022254 tw6284758214180466844 tw13403658503093205141 tw12887891614451472948 tw3450552695606756038 tw12445914383279899061 tw190633484323108262 tw16945142283757858954 tw6442276289909648683 tw9378021002801836108 tw9274982200163774238 tw604008340640809660 tw10597283138576524520 tw15668762612281485045 tw120557794043030326 tw14954915400570347280 tw16637658504383669351 tw13165209839592219739 tw3416588850115642919 tw5768130211494654659 tw8185269645581823933 tw18161283490719959670 tw15687312339922400171 tw10097971430633679725 tw1565379960718145703 tw9299861585183544048 tw734721113219493856 tw3722784924517726266 tw13017201747792458885 tw15452186931311158389 tw6057178025849893452 tw12151789035208590942 tw9673701616244386644 tw2722241713748274680 tw14443029418424606895 tw15398991877809374489 tw18167742230911925759 tw8774451301926356626 tw12020422205920243598 tw874636078972652726 tw7085979664775231716 tw8037208729498623242 tw2798384640531898665 tw13468493994837104722 tw2064018299549861656 tw2812981286826624579 tw726987649422261475 tw12732926536750358863 tw17842679606282102728 tw10051977743979011434 tw15395386027348677204 tw15828570720546364580 tw15664643961359225630 tw17233124052583003241 tw11582588001004411453 tw14639562219525928707 tw9131919132119675444 tw4276313735148670795 tw8370673650877753666 tw13437136097998524182 tw11836982491674778516 tw5462811981066067106 tw84414214946802662 tw11736603629005941913 tw7677022809097281340 tw13300694215689614860 tw9406126984981369907 tw13148534311874201143 tw6468559868652281328 tw5018866085973163959 tw15445177824256595739 tw281664918844150012 tw7434650298361026498 tw15005192416388697616 tw1654081150604782622 tw18372909263094849257 tw7780166418675261164 tw13505547972060559790 tw6564217926701782159 tw15968960875431939012 tw4616162398722856076 tw14250170944063908763 tw2798176364181963892 tw2496159884235287282 tw8145407556211144604 tw942826316136781905 tw2991733523681220555 tw7136152187724303636 tw1218289831415559349 tw15325353375920556017 tw17850852607381546055 tw5836230982825120735 tw7428873252371439807 tw632925001120834488 tw7350367533381936497 tw7247243382001158505 tw6137564511888552081 tw13216474596483402329 tw4401393884556269134 tw9783752914395123710 tw15673555136009574115 tw13919302815671312242 tw1856344870366085523 tw14085541984697078577 tw12400920576493599578 tw7314585376454719455 tw16555693528025003511 tw7677328425479114228 tw1068925160068992951 tw485075246873962020 tw11584770280536123830 tw1541409080831646050 tw11641531833693969775 tw9177736250878028873 tw738808032426288887 tw7286410822954726157 tw14400396484454622872 tw6687308369019351699 tw12293753749932548084 tw2562542611426031676 tw13874866260731229781 tw10888353189782235507 tw587211981468953454 tw2848827769224147687 tw1612760854017478785 tw4050809002193123124 tw8720071262935426844 tw3547004101454799875 tw9570065721241601820 tw8982187009384910387 tw1426127506271554993 tw15220181421424919604 tw792888360732416439 tw5509386582626678596 tw10272849320220800072 tw2088709791777823938 tw15882047080521258210 tw13763192699972359990 tw15156336887453867985 tw15646418122509146947 tw11060110060484711595 tw9104768525353472399 tw147237870765083300 tw9940327161607738869 tw11800385987312451760 tw654102392363887643 tw12599035733562326195 tw7052622904847453432 tw12071761279782454422 tw17643316240984191101 tw17039740955928969706 tw2667755112309571840 tw17246421746486936055 tw4112978554873410598 tw3648401544610985845 tw13458485201239179575 tw12535269886723320174 tw11403235448980375096 tw2292859396924173491 tw343142504278730140 tw10384076062797752226 tw5538249565355133006 tw10263665015188994378 tw11190494629994366950 tw215247118626250112 tw14437999107744870540 tw4686823686386178338 tw8603824650712546639 tw10995929423032091548 tw7144151191558174115 tw12544551897972799659 tw9678034851590212971 tw12466573843968597586 tw13751832000440240980 tw15487679607688365090 tw15905265192097813543 tw15817387894849247952 tw11651310863094279626 tw15734589030063647263 tw12435280690175862362 tw14612391011886144085 tw13083009598671194207 tw2900535161382633657 tw15308504456100121555 tw5668275523431935688 tw5289859759899054496 tw10149908260719080174 tw8528054884883801129 tw1396999735261861866 tw8597794273372909754 tw12342791113430981448 tw5152855696787613358 tw3857298993513691119 tw30997432334161382 tw13824781687705937231 tw9419515426776974801 tw2477175559335399454 tw17587606683167700581 tw3919225436887037135 tw5127933164970268556 tw16318846217702465447 tw12313638424577252788 tw6151350379068755157 tw2746784975583822946 tw11741629069745133005 tw6344163234352448869 tw4930529937294660847 tw1345502914524183552 tw14414811986670614629 tw773221035815334629 tw14830039872583398877 tw13627871959065659272 tw14774376962073472669 tw18061440735145574420 tw791273923032626378 tw2835829655797111248 tw15547321885114290782 tw14042188698832424396 tw1090871076531217158 tw8236623246918335915 tw17055931969770029572 tw9458317135837891769 tw6970068138481254125 tw861298511182942656 tw13378439290239201280 tw10660286964438984587 tw4433683846730854729 tw10703524788432690699 tw9469196180593673350 tw9209662598141210855 tw12264778002473088955 tw18372894795115954007 tw1650200789269821193 tw9252021553606471124 tw16467142145442579175 tw4752183168790395212 tw15310811056659956547 tw1130507553986383219 tw14580377538361390968 tw7865180058510356124 tw9803875304230285399 tw16600637489801577158 tw1019243372167357207 tw2576856689745362202 tw4884447712978094598 tw13690657244231545865 tw781197798593444065 tw14363715531186076375 tw3900046417508230159 tw13140265376813318660 tw871742566622962764 tw17255899612013202793 tw17530401319658868107 tw6345777876281179240 tw12745313393064375507 tw13086325020006711430 tw11015901763119097848 tw726700278843600944 tw16602467694580204148 tw10439787522429748431 tw5591175105459681402 tw8370313606379385156 tw12979080161918950980 tw14202336647960431024 tw6705531481225190740 tw10798440698156009579 tw11485112847779498359 tw17874451616166485883 tw18354906416848211354 tw3726985896051735782 tw2789374436473203059 tw5933843333916967456 tw4939252963926420388 tw1562317672888254011 tw16389850527824626768 tw1361977078824607460 tw9309330017312496423 tw1284973207611765190 tw12868927874338414598 tw10682998719160962189 tw9364719438061527848 tw3004536480970357355 tw5346360899358517951 tw1716457075317262232 tw16044185424056849865 tw7366802980001951291 tw12830408796935629241 tw14916888428650845370 tw13535170835118107994 tw14188424545022594294 tw18421294656503677517 tw70705346154648328 tw15837419744453132824 tw3462479194854417128 tw13551377820985678990 tw16354576408783865170 tw13635756169959590185 tw6316975758698229248 tw16342882259332491353 tw10746949560525198560 tw2504749922774735232 tw324023236184996841 tw5492589146465091221 tw10484057273866295788 tw1781663178140937677 tw1948446553939303510 tw7737351121212819372 tw8593190596033100397 tw16921087497979751175 tw12079572744737630473 tw9324188022490604715 tw3035784588163993008 tw14086231671634785447 tw8411937809566982201 tw12028643057559223796 tw17309253498098405473 tw7872356889485819080 tw7600402069637583459 tw12655555465732156916 tw13554282688677532056 tw4459782727377528144 tw7449687182651212586 tw9995790026746002260 tw7520496200984392717 tw3023384817399973433 tw405923027372814963 tw8593491188344127211 tw14787873011956272957 tw2539313955676497204 tw12714860430005387368 tw16732773127417616745 tw13694976330114616565 tw8072750236223893846 tw13192612508010200544 tw3698710943578812846 tw9428155812408210544 tw4498495553362255129 tw5075180667071769671 tw588697543710906097 tw8757037153930550160 tw9228406013836813323 tw8400646648119668701 tw17403534744104138834 tw2937248729919470128 tw17609009417092750815 tw9981614020340959255 tw12336825998010586999 tw15219357730891173865 tw4901180578516976398 tw17736518837132166180 tw1773039269152890545 tw16639739143739286484 tw7590168985526295460 tw17615684721114566658 tw706827749019072271 tw2437857372756049119 tw16503026458716796826 tw6823659751838809519 tw6255626884003556649 tw3770841097889207303 tw11909287648069656645 tw3375067746724911626 tw1959778508234725771 tw3309997065440316035 tw18232212198440058643 tw1110915412940329308 tw15305761514621848104 tw1463033037066090404 tw13227840570172088718 tw10401441411628998835 tw16100461561931817208 tw9493489145207557430 tw11457431213343374532 tw14465022437130756722 tw15325645671461525771 tw2703376307382562657 tw14917045151262270952 tw8585423881738980735 tw7272382466790200544 tw4301442682073868192 tw9540871418039595692 tw16115656873602470352 tw15143565982607769633 tw14337712310703470170 tw18087624768885730383 tw15920577002663842481 tw3400125572856132048 tw18135382499899135462 tw11514125846186376357 tw3868320893806590192 tw374196606963959829 tw5140941439016392550 tw7605431640702938201 tw13688564534056390693 tw10256729129460938323 tw11783535326232761243 tw2597659666281928596 tw13863662682354060868 tw16974211087510782391 tw14308140312686260193 tw1333061559097720327 tw12786102796780209228 tw15068186885290654946 tw9201537174711858343 tw9962955111438102974 tw10262738703068262741 tw13060983225681409034 tw8104063211721023912 tw6504376199027302539 tw6765066122001752681 tw15608195319768534207 tw5454633644766281531 tw14440701078792416243 tw10798697228750910213 tw10689751291937904194 tw12786227638304216928 tw18346679979302598428 tw5537244358310472257 tw10376281949848399091 tw13657907104110695657 tw13857537544450703382 tw4680462998119301772 tw16714147835112579532 tw662047472902849075 tw9786523836371152294 tw4675509974909627445 tw14906648345024751719 tw16072545740134606572 tw2778685970645022638 tw2188123980039023467 tw14793075529069448015 tw2679302256521514764 tw2389027382930009150 tw9645427393657755818 tw10203322542905893289 tw9314015746485293173 tw390629117122661146 tw2582158962449959630:True)
open PySem PySem.W PyProof.Rows
set_option maxRecDepth 100000 in
set_option maxHeartbeats 0 in
theorem PySem.Challenge.cw_loomarrays_k19_a_loop_for_each_kept_line_holds : PySem.Challenge.rw_loomarrays_k19_a_loop_for_each_kept_line.Holds := by
 w_on;o_law;k_head;(case hw=>w_witness2)
 k_fill
 refine VS.walk63 (l:=PySem.Challenge.rw_loomarrays_k19_a_loop_for_each_kept_line) 70 rfl rfl (fun w h Y=>PySem.W.kIn_of Y) ?F
 intro w mg fa h KX G Rf
 refine' LW.all_mk Rf (VS.Q34 KX G (by kernel_rfl) LW.bd LW.bm ?zhb ?zhn ?zht ?zhd ?zhc ?zhm ?zhf ?zha ?zhi ?zhj ?zsp ?ztk)
 case zsp=>k_is
 case ztk=>k_is
 case zhb=>repeat (first | exact True.intro | refine ⟨by k_is,?_⟩)
 case zhn=>repeat (first | exact True.intro | refine ⟨⟨_,by k_is,⟨_,rfl⟩⟩,?_⟩)
 case zhd=>repeat (first | exact True.intro | refine ⟨⟨_,by k_is,⟨⟨_,_,_,_,_,_,_,_,_,by k_is,by k_is⟩,by k_is⟩⟩,?_⟩)
 case zhm=>repeat (first | exact True.intro | refine ⟨⟨_,_,by k_is,by k_is,by k_is,⟨⟨_,_,_,_,_,_,_,_,_,by k_is,by k_is⟩,by k_is⟩,by k_is,by k_is,by first | (intro z;cases z;done) | exact fun _=>⟨by k_is,by k_is,by k_is⟩⟩,?_⟩)
 case zhc=>repeat (first | exact True.intro | refine ⟨⟨_,by k_is,⟨by k_is,by k_is,by k_is,by k_is⟩⟩,?_⟩)
 case zha=>repeat (first | exact True.intro | refine ⟨⟨_,by k_is,⟨by k_is,by k_is,by k_is,by k_is⟩⟩,?_⟩)
 case zhf=>repeat (first | exact True.intro | refine ⟨by repeat (first | exact True.intro | refine ⟨⟨_,by k_is,by k_is⟩,?_⟩),?_⟩)
 case zhi=>repeat (first | exact True.intro | refine ⟨⟨_,by k_is,by repeat (first | exact True.intro | refine ⟨⟨_,by k_is,by kit_is⟩,?_⟩)⟩,?_⟩)
 case zhj=>repeat (first | exact True.intro | refine ⟨⟨_,_,by k_is,by k_is,by repeat (first | exact True.intro | refine ⟨⟨_,by k_is,by kit_is⟩,?_⟩)⟩,?_⟩)
 case zht=>repeat (first | exact True.intro | refine ⟨⟨_,_,_,by k_is,by decide,by k_is,by k_keys,by repeat (first | exact True.intro | refine ⟨⟨_,by k_is,VS.Q31 (by k_is) (by decide) (by repeat (first | exact .nil | refine .cons ⟨_,rfl⟩ ?_))⟩,?_⟩),by repeat (first | exact True.intro | refine ⟨by k_is,?_⟩)⟩,?_⟩)
end
