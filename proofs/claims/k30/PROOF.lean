import PyProof.Rows.All
import KE.KStateDown
import KE.RegKIsAll
import KE.KRevIter
import KE.KDictOf
import Wide.Line
import Open.Line
import OpenK.KLine
import PyProof.Rows.KernelRfl
import KE.KTupSum
import PySem.Challenge.RW_loomarrays_k30_whole_long_and_wide
set_option Elab.async false
open PySem
set_option linter.defProp false
abbrev Qu(x:PySem.Str):Prop:=(x == ("__debug__" : PySem.Str))=false
abbrev P7(x:PySem.Str):Prop:=(x == ("__classdict__" : PySem.Str))=false
abbrev TF:=PySem.Value->PySem.Shared->Prop
abbrev Ul:=List (PySem.Addr×PySem.Obj)
def RN:=@Heap.get?_push_of_some
def Rv:=@Heap.get?_push_size
def NU:=@decide_eq_true
def Uy:=@decide_eq_false
def X1:=@List.mem_cons_of_mem
def Rn:=@List.mem_cons_self
def TQ:=@List.mem_of_getElem?
def Uz:=@List.getElem?_eq_getElem
def OR:=@List.getD_eq_getElem?_getD
def XZ:=@Nat.lt_of_lt_of_le
def Sg:=@List.getElem?_append_left
def IB:=@List.mem_map_of_mem
def Nd:=@List.getElem?_eq_none
def ZJ:=@Int.toNat_natCast
theorem Pm{A:Sort _}{a:A}:a=a:=Eq.trans rfl rfl
set_option compiler.extract_closed false
noncomputable section
abbrev KJ:=List PySem.Expr
abbrev ZF:=Option PySem.Addr
abbrev RE:=List PySem.Addr
abbrev O8:=Option PySem.Value
abbrev We:=List PySem.Value
abbrev Ut:=List PySem.Str
abbrev TX:=List (PySem.Str×Bool)
abbrev XY:=Option Int
abbrev X4:=List Bool
abbrev Rx:=List Nat
abbrev ZX:=List Int
abbrev V8:=List (Nat×Nat)
abbrev ZE:=List (List Int)
theorem Ug{p:Prop}(h:p:=by lia):p:=h
theorem O3{p:Prop}(h:p:=by simp):p:=h
theorem Pq{p:Prop}(h:p:=by kernel_rfl!):p:=h
theorem Ux{p:Prop}(h:p:=by omega):p:=h
theorem Vd{p:Prop}(h:p:=by first|exact Or.inl rfl|exact Or.inr (Or.inl rfl)|exact Or.inr (Or.inr rfl)):p:=h
theorem RP{p:Prop}(h:p:=by first|exact .inl rfl|exact .inr rfl|assumption):p:=h
theorem A6{p:Prop}(h:p:=by first|exact Or.inl rfl|exact Or.inr rfl):p:=h
theorem U0{p:Prop}(h:p:=by first|decide|lia):p:=h
theorem Jb{p:Prop}(h:p:=by with_unfolding_all rfl):p:=h
theorem Oc{p:Prop}(h:p:=by intro _;rfl):p:=h
theorem D6{p:Prop}(h:p:=by intro _ _;rfl):p:=h
theorem Bn{p:Prop}(h:p:=by decide +kernel):p:=h
def X0:=@wpAny_bind
def Wt:=@wpAny_pure
def Gm:=@Nat.le_refl
def X6:=@Option.some.inj
def Hh:=@Heap.lt_size
def Uh:=@List.size_toArray
def WL:=@if_pos
def Pj:=@List.map_cons
def S8:=@if_neg
def ET:=@Bool.and_eq_true
def sW:=@List.getElem?_append_right
def Wi:=@Nat.ne_of_lt
def RH:=@List.getElem?_set_ne
def xN:=@List.length_map
def Vb:=@List.getElem?_set_self
def JC:=@PyProof.Rows.callWith_type1
def Qw:=@Bool.false_ne_true
def Yt:=@Heap.get?_update_other
def NB:=@wpAny_newObj_type
def EZ:=@List.length_range
def Xr:=@wpAny_field
def JA:=@mem_of_lookup
def UH:=@Ne.symm
def Xq:=@Nat.zero_le
def IL:=@List.length_append
def R8:=@List.mem_append_right
def CW:=@List.getElem?_map
def NN:=@List.length_cons
def Ox:=@List.getElem?_take_of_lt
def MP:=@Heap.get?_update_self
def RC:=@Nat.le_trans
def Hn:=@of_decide_eq_true
def Jt:=@wpAny_callSpecial?_slot
def AJ:=@wpAny_call_entry
def G6:=@wpAny_truthy_bool
def Nx:=@builtinLookup_eq_fast
def DJ:=@wpAny_seqItems
def Ju:=@wpAny_Call_Name_kw
def xO:=@Nat.lt_irrefl
def ND:=@wpAny_pyIter_list
def Mn:=@List.map_append
def HQ:=@wpAny_of_eq
def sA:=@Heap.size_push
def SY:=@Around.under_plainId
def DO:=@codeAny_builtin
def IA:=@List.replicate_succ
def Lq:=@sizeLine_eq
def Ht:=@List.getElem?_take_eq_none
def NY:=@wpAny_specialOf
def MW:=@typeLookup_type
def Bh:=@List.of_mem_zip
def Bf:=@Nat.le_succ
def Nb:=@Calls.spliced_nil
def DY:=@F.slot_tuple_iterator_next
def LD:=@wpAny_mono
def Eo:=@wpAny_holding
def Mt:=@plainId_quiet
def A3:=@PyProof.Rows.slot_tuple_getitem
def xh:=@List.length_take
def Bt:=@List.getElem_mem
def wd:=@List.getElem?_replicate
def IQ:=@List.map_map
def G5:=@wpAny_setField_rec
def JE:=@wpAny_pyIter_tuple
def D7:=@Obj.data_mapFields
def vV:=@wpAny_passesOwn
def Il:=@List.append_nil
def E1:=@List.any_cons
def Wo:=@List.flatten_cons
def wm:=@isSubtype_type
def FG:=@Nat.lt_succ_self
def NW:=@Nat.le_add_right
def GN:=@List.getElem?_range
def BI:=@List.all_cons
def DZ:=@wpAny_typeOf
def HA:=@F.slot_zip_next
def WJ:=@List.length_filter_le
def GC:=@PyProof.Rows.boot_list
def Ek:=@wpAny_rule
def FL:=@wpAny_isInstance
def Be:=@List.getElem_inj
def Nj:=@List.ext_getElem
def GG:=@wpAny_standAt
def Hy:=@wpAny_attempt
def SO:=@Paired.length
def we:=@List.foldl_cons
def xo:=@codeAny_mono
def EN:=@Nat.lt_trans
def IZ:=@wpAny_setField
def xE:=@Int.emod_lt_of_pos
def kZ:=@F.plain_reversed_new
def IC:=@F.args_object_init_2
def SU:=@List.drop_eq_getElem_cons
def FI:=@W.mg_of
def Of:=@wpAny_assign_Name
def QB:=@Nat.lt_succ_of_lt
def Hw:=@List.ext_getElem?
def NT:=@F.args_tuple_add_2
def UZ:=@AutoSeq1.wpAny_loadPart'
def LX:=@F.entry_tuple_add
def Bg:=@W.callWith_K
def OS:=@Nat.zero_add
def xP:=@Nat.ne_of_gt
def Ji:=@F.slot_tuple_add
def OG:=@List.take_of_length_le
def Ol:=@Obj.isFreed_of_fields
def Iz:=@List.getElem?_reverse
def HB:=@wpAny_updateSeq_pair
def NV:=@List.filterMap_cons
def Nv:=@Heap.SameBut.update
def QD:=@wpAny_onRaise
set_option autoImplicit true
section
set_option Elab.async false
set_option linter.all false
set_option maxRecDepth 100000
structure AuP:Prop where
  a:True:=by rfl
  b:True:=by decide
  c:True:=by intros;rfl
  d:True:=by exact rfl
namespace L2
open PySem PySem.Spec PyProof.Rows
abbrev Key:=Sum Int Str
noncomputable def rk:Key->Value->Bool|.inl k,v=>Value.isInt k v|.inr x,v=>Value.isStrOf x v
noncomputable def V2(w:World):Key->Int|.inl k=>hashInt k|.inr x=>hashStr w x
theorem b8:∀{k:Key}{v:Value},rk k v=true->(∃i t,k=Sum.inl i/\v=Value.int i t)\/(∃x t,k=Sum.inr x/\v=Value.str x t)|.inl i,v,h=>by obtain⟨t,e⟩:=Value.isInt_shape (k:=i) (v:=v) h;exact .inl ⟨i,t,rfl,e⟩|.inr x,v,h=>by obtain⟨t,e⟩:=Value.isStrOf_shape (x:=x) (v:=v) h;exact .inr ⟨x,t,rfl,e⟩
theorem A1(i:Int)(t:Tok):rk (.inl i) (.int i t)=true:=by simp[rk,Value.isInt]
theorem A2(x:Str)(t:Tok):rk (.inr x) (.str x t)=true:=by simp[rk,Value.isStrOf]
theorem Mv(a b:Int):decide ((Sum.inl a:Key)=Sum.inl b)=(a == b):=by by_cases e:a=b;subst e;simp;have h:¬(Sum.inl a:Key)=Sum.inl b:=fun q=>e (Sum.inl.inj q);rw[Uy h];exact(beq_eq_false_iff_ne.mpr e).symm
theorem My(a b:Str):decide ((Sum.inr a:Key)=Sum.inr b)=decide (a=b):=by by_cases e:a=b;subst e;simp;have h:¬(Sum.inr a:Key)=Sum.inr b:=fun q=>e (Sum.inr.inj q);rw[Uy h,Uy e]
theorem Mw(a:Int)(b:Str):decide ((Sum.inl a:Key)=Sum.inr b)=false:=Uy (fun q=>nomatch q)
theorem Mx(a:Str)(b:Int):decide ((Sum.inr a:Key)=Sum.inl b)=false:=Uy (fun q=>nomatch q)
def fQ(prog:Program)(w:World):PySem.KeyKind prog w Key where
 is:=rk
 hash:=V2 w
 inj:=fun v a b ha hb=>by
  rcases b8 ha with ⟨i,t,rfl,rfl⟩|⟨x,t,rfl,rfl⟩
  rcases b8 hb with ⟨j,u,rfl,e⟩|⟨y,u,rfl,e⟩
  injection e with e1 _;rw[e1];exact nomatch e;rcases b8 hb with ⟨j,u,rfl,e⟩|⟨y,u,rfl,e⟩
  exact nomatch e;injection e with e1 _;rw[e1]
 byValue:=fun k v h=>by rcases b8 h with ⟨i,t,rfl,rfl⟩|⟨x,t,rfl,rfl⟩<;>rfl
 pyHash:=fun hv h=>by
  rcases b8 hv with ⟨i,t,rfl,rfl⟩|⟨x,t,rfl,rfl⟩
  exact wpAny_pyHash_int h;exact wpAny_pyHash_str h
 eqBool:=fun hu hv h=>by
  rcases b8 hu with ⟨i,t,rfl,rfl⟩|⟨x,t,rfl,rfl⟩
  rcases b8 hv with ⟨j,u,rfl,rfl⟩|⟨y,u,rfl,rfl⟩
  rw[Mv] at h;exact wpAny_eqBool_int h;rw[Mw] at h;exact SeqAt.EqAt.int_str i t y u _ _ _ _ h;rcases b8 hv with ⟨j,u,rfl,rfl⟩|⟨y,u,rfl,rfl⟩
  rw[Mx] at h;exact SeqAt.EqAt.str_int x t j u _ _ _ _ h;rw[My] at h;exact wpAny_eqBool_str h
 «strs» := fun k x t v h=>by
  rcases b8 h with ⟨i,u,rfl,e⟩|⟨y,u,rfl,e⟩
  exact nomatch e;injection e with e1 _;subst e1;cases v<;>rfl
theorem vF(prog:Program)(w:World)(i:Int)(t:Tok):(fQ prog w).is (.inl i) (.int i t)=true:=A1 i t
theorem vG(prog:Program)(w:World)(x:Str)(t:Tok):(fQ prog w).is (.inr x) (.str x t)=true:=A2 x t
inductive V where
 |bB|bl (b:Bool)|int (i:Int)|str (x:Str)|TB (b:Array UInt8)|TR (b:UInt64)|ref (a:Addr)|ty (n:String)
 deriving DecidableEq
abbrev Pk:=List V
def RelV:V->Value->Prop|.bB,u=>u=Value.none|.bl b,u=>u=Value.bool b|.int i,u=>∃t,u=Value.int i t|.str x,u=>∃t,u=Value.str x t|.TB b,u=>∃t,u=Value.bytes b t|.TR b,u=>∃t,u=Value.float b t|.ref a,u=>u=Value.ref a|.ty n,u=>u=Value.type n
abbrev Vals:Pk->We->Prop:=Paired RelV
theorem Vals.length(r:Vals xs us):xs.length=us.length:=SO r
theorem Vals.get:∀{xs:Pk}{us:We}{i:Nat}{x:V},Vals xs us->xs[i]?=some x->∃u,us[i]?=some u/\RelV x u|_,_,_,_,.nil,e=>by simp at e|_,_,0,_,.cons r _,e=>by simp at e;subst e;exact⟨_,rfl,r⟩|_,_,i+1,x,.cons _ t,e=>by obtain⟨u,h1,h2⟩:=Vals.get (i:=i) (x:=x) t (by simpa using e);exact⟨u,by simpa using h1,h2⟩
theorem Vals.set(r:RelV x u):∀{xs:Pk}{us:We}(i:Nat),Vals xs us->Vals (xs.set i x) (us.set i u)|_,_,_,.nil=>.nil|_,_,0,.cons _ t=>.cons r t|_,_,i+1,.cons q t=>.cons q (Vals.set r i t)
theorem Vals.append:∀{xs ys:Pk}{us ws:We},Vals xs us->Vals ys ws->Vals (xs++ys) (us++ws)|_,_,_,_,.nil,s=>s|_,_,_,_,.cons r t,s=>.cons r (Vals.append t s)
theorem Vals.take:∀{xs:Pk}{us:We}(n:Nat),Vals xs us->Vals (xs.take n) (us.take n)|_,_,0,_=>.nil|_,_,_+1,.nil=>.nil|_,_,n+1,.cons r t=>.cons r (Vals.take n t)
theorem Vals.drop:∀{xs:Pk}{us:We}(n:Nat),Vals xs us->Vals (xs.drop n) (us.drop n)|_,_,0,r=>r|_,_,_+1,.nil=>.nil|_,_,n+1,.cons _ t=>Vals.drop n t
def lA:Option V->O8->Prop|some v,some u=>RelV v u|none,none=>True|_,_=>False
def KV{κ:Type}:List (κ×V)->List (κ×Value)->Prop:=Paired fun(p:κ×V)(q:κ×Value)=>p.1=q.1/\RelV p.2 q.2
noncomputable def kV:Key->V|.inl i=>.int i|.inr x=>.str x
inductive HO where
 |lst (xs:Pk)|tup (xs:Pk)|dK (aZ:List (Key×V)) (ep:Nat)|dT (aZ:List (List Key×V))|set (S:Int->Bool) (n:Nat)|ins (C dx:Addr) (fs:List (Str×V))|own (x:Addr)|xd (fs:List (Str×V))|met (f x:Addr)|Wr (lo hi:Int)|Gf (o:Obj) (u:HO)|BB (ps:Array Value)|ext (φ:Heap->Prop)
abbrev Hp:=Addr->Option HO
noncomputable def upd(H:Hp)(a:Addr)(o:HO):Hp:=fun b=>if b=a then some o else H b
theorem aB:upd H a o a=some o:=by unfold upd;rw[WL rfl]
theorem aF(h:b≠a):upd H a o b=H b:=by unfold upd;rw[S8 h]
theorem aT{H:Hp}{a b:Addr}{o:HO}(h:H a=some o)(h':H b=none):a≠b:=by intro e;subst e;rw[h] at h';cases h'
def nM(h:Heap)(a:Addr)(items:Array Value):Prop:=∃o,h.get? a=some o/\o.cls=.type "tuple" /\ (∃n,o.data=.seq items n)/\o.dict=none
theorem nM.tup(x:nM h a items):IsTup h a items:=let ⟨o,ho,hc,hd,_⟩:=x;⟨o,ho,hc,hd⟩
theorem nM.lt(x:nM h a items):a<h.objs.size:=let ⟨_,ho,_⟩:=x;Hh ho
theorem nM.new(h:Heap)(items:Array Value):nM (h.push {cls:=.type "tuple",data:=.seq items}) h.objs.size items:=⟨_,Rv _ rfl,rfl,⟨_,rfl⟩,rfl⟩
section
variable(P:Program)(w:World)
def dD(H:Hp)(h:Heap)(a:Addr):HO->Prop
|.lst xs=>xs.length<=sizeLine/\∃(aS:We)(n:Nat),Vals xs aS/\h.get? a=some {cls:=.type "list",data:=.seq aS.toArray n}|.tup xs=>xs.length<=sizeLine/\∃aS:We,Vals xs aS/\nM h a aS.toArray|.dK aZ ep=>aZ.length<=sizeLine/\(a == sysModules)=false/\∃vs,KV aZ vs/\h.DictAt (fQ P w) a vs ep|.dT aZ=>aZ.length<=sizeLine/\(a == sysModules)=false/\∃xs:List (List Key×Addr×Value),
 Paired (fun(p:List Key×V)(q:List Key×Addr×Value)=>p.1=q.1/\H q.2.1=some (.tup (p.1.map kV))/\RelV p.2 q.2.2) aZ xs /\
 ∃o es ep,h.get? a=some o/\o.ExactDict/\o.data=.dict es ep/\es.toList=xs.map (entryOfKey (tupleKind (fQ P w)))/\(xs.map (·.1)).Nodup
|.set S n=>h.SetOf (intKind P w) a S n|.ins C dx fs=>H dx=some (.own a)/\fs.length<=1000/\dx≠a/\h.get? a=some (W.instObj C dx)/\∃mA,h.Ns1 dx mA/\(∀f,lA (fs.lookup f) (mA f))/\PySem.Within mA (fs.map (·.1))|.own _=>∃o,h.get? a=some o|.xd fs=>∃mA,h.Ns1 a mA/\∀f,lA (fs.lookup f) (mA f)|.Wr lo hi=>∃t u v,h.get? a=some {cls:=.type "range",data:=.fields #[.int lo t,.int hi u,.int 1 v]}|.Gf o u=>h.get? a=some o/\dD H h a u|.BB ps=>h.get? a=some {cls:=.none,data:=.fields ps}|.met f x=>h.get? a=some (W.methodObj (.ref f) (.ref x))|.ext φ=>φ h/\(∃o,h.get? a=some o)/\∀h1 h2:Heap,φ h1->(∀o,h1.get? a=some o->h2.get? a=some o)->φ h2
def nJ(H:Hp)(h:Heap):Prop:=∀a o,H a=some o->dD P w H h a o
end
section
variable{P:Program}{w:World}{H H':Hp}{h h':Heap}{a:Addr}{o:HO}
theorem dD.lt(x:dD P w H h a o):a<h.objs.size:=by cases o with|lst xs=>obtain⟨_,_,_,_,e⟩:=x;exact Hh e|tup xs=>obtain⟨_,_,_,p⟩:=x;exact p.lt|dK aZ ep=>obtain⟨_,_,_,_,o,_,e,_⟩:=x;exact Hh e|dT aZ=>obtain⟨_,_,_,_,o,_,_,e,_⟩:=x;exact Hh e|set S n=>obtain⟨o,_,_,_,e,_⟩:=x;exact Hh e|ins C dx fs=>obtain⟨_,_,_,e,_⟩:=x;exact Hh e|own y=>obtain⟨_,e⟩:=x;exact Hh e|xd fs=>obtain⟨_,⟨_,_,_,e,_⟩,_⟩:=x;exact Hh e|Wr lo hi=>obtain⟨_,_,_,e⟩:=x;exact Hh e|Gf ob u=>obtain⟨e,_⟩:=x;exact Hh e|BB ps=>exact Hh (show h.get? a=some _ from x)|met f y=>exact Hh (show h.get? a=some _ from x)|ext φ=>obtain⟨_,⟨_,e⟩,_⟩:=x;exact Hh e
theorem Paired.RX{α β:Type}{F G:α->β->Prop}:∀{D8:List α}{D9:List β},Paired F D8 D9->(∀a b,F a b->G a b)->Paired G D8 D9|_,_,.nil,_=>.nil|_,_,.cons r t,f=>.cons (f _ _ r) (Paired.RX t f)
theorem dD.yn(x:dD P w H h a o)(k:∀b u,(b=a\/H b=some (.own a))->h.get? b=some u->h'.get? b=some u)(ho:∀b,H b=some (.own a)->H' b=some (.own a)) (ht:∀b xs,H b=some (.tup xs)->H' b=some (.tup xs)):dD P w H' h' a o:=by induction o with|lst xs=>obtain⟨z,aS,n,r,e⟩:=x;exact⟨z,aS,n,r,k _ _ (.inl rfl) e⟩|tup xs=>obtain⟨z,aS,r,ob,e,c⟩:=x;exact⟨z,aS,r,ob,k _ _ (.inl rfl) e,c⟩|dK aZ ep=>obtain⟨z,y,vs,r,ob,es,e,c⟩:=x;exact⟨z,y,vs,r,ob,es,k _ _ (.inl rfl) e,c⟩|dT aZ=>obtain⟨z,y,xs,r,ob,es,ep,e,c⟩:=x;exact⟨z,y,xs,Paired.RX r fun p q z=>⟨z.1,ht _ _ z.2.1,z.2.2⟩,ob,es,ep,k _ _ (.inl rfl) e,c⟩|set S n=>obtain⟨ob,es,ep,t,e,c⟩:=x;exact⟨ob,es,ep,t,k _ _ (.inl rfl) e,c⟩|ins C dx fs=>obtain⟨d,z,ne,e,mA,⟨od,es,ep,e2,c⟩,r⟩:=x;exact⟨ho _ d,z,ne,k _ _ (.inl rfl) e,mA,⟨od,es,ep,k _ _ (.inr d) e2,c⟩,r⟩|own y=>obtain⟨ob,e⟩:=x;exact⟨ob,k _ _ (.inl rfl) e⟩|xd fs=>obtain⟨mA,⟨od,es,ep,e,c⟩,r⟩:=x;exact⟨mA,⟨od,es,ep,k _ _ (.inl rfl) e,c⟩,r⟩|Wr lo hi=>obtain⟨t,u,v,e⟩:=x;exact⟨t,u,v,k _ _ (.inl rfl) e⟩|Gf ob u ih=>obtain⟨e,q⟩:=x;exact⟨k _ _ (.inl rfl) e,ih q⟩|BB ps=>have e:h.get? a=some {cls:=.none,data:=.fields ps}:=x;show h'.get? a=some {cls:=.none,data:=.fields ps};exact k a _ (.inl rfl) e|met f y=>have e:h.get? a=some (W.methodObj (.ref f) (.ref y)):=x;show h'.get? a=some (W.methodObj (.ref f) (.ref y));exact k a _ (.inl rfl) e|ext φ=>obtain⟨p,⟨o,e⟩,st⟩:=x;exact⟨st _ _ p fun o q=>k _ _ (.inl rfl) q,⟨o,k _ _ (.inl rfl) e⟩,st⟩
theorem nJ.lt(x:nJ P w H h)(e:H a=some o):a<h.objs.size:=(x a o e).lt
theorem nJ.fresh(x:nJ P w H h)(e:h.objs.size<=a):H a=none:=by cases q:H a with|none=>rfl|some u=>exact absurd (XZ (x.lt q) e) (xO _)
theorem nJ.kept(x:nJ P w H h)(k:∀b u,h.get? b=some u->h'.get? b=some u):nJ P w H h':=fun a o e=>(x a o e).yn (fun b u _ q=>k b u q) (fun _ q=>q) fun _ _ q=>q
theorem nJ.laid(x:nJ P w H h)(k:∀b u,h.get? b=some u->h'.get? b=some u)(hp:h.objs.size<=a)(new:dD P w (upd H a o) h' a o):nJ P w (upd H a o) h':=fun b u e=>by have hn:=x.fresh hp;by_cases hb:b=a;subst hb;rw[aB] at e;cases e;exact new;rw[aF hb] at e;exact(x b u e).yn (fun c v _ q=>k c v q) (fun c q=>by rw[aF (aT q hn)];exact q) fun c xs q=>by rw[aF (aT q hn)];exact q
end
def Rd(H:Hp)(a:Addr)(u:HO):Prop:=H a=some u\/∃o,H a=some (.Gf o u)
theorem Rd.ok(r:Rd H a u)(x:nJ P w H h):dD P w H h a u:=by rcases r with r|⟨o,r⟩;exact x a u r;obtain⟨_,q⟩:=x a _ r;exact q
def Tt:Option HO->Prop|some (.lst _)=>True|some (.dK _ _)=>True|some (.dT _)=>True|some (.set _ _)=>True|some (.ins _ _ _)=>True|some (.ext _)=>True|_=>False
section
variable{P:Program}{w:World}{H:Hp}{h h':Heap}{x e:Addr}{o':HO}
theorem nJ.write(ok:nJ P w H h)(mu:Tt (H x))(he:e=x\/H e=some (.own x))(k:∀b u,b≠e->h.get? b=some u->h'.get? b=some u)(Pc:∃u,h'.get? e=some u)(new:dD P w (upd H x o') h' x o'):nJ P w (upd H x o') h':=fun b u q=>by
 have R4:∀c y,H c=some (.own y)->c≠x:=fun c y r z=>by subst z;rw[r] at mu;exact mu
 have Wd:∀c xs,H c=some (.tup xs)->c≠x:=fun c xs r z=>by subst z;rw[r] at mu;exact mu
 by_cases hb:b=x;subst hb;rw[aB] at q;cases q;exact new;rw[aF hb] at q;by_cases L6:b=e;have q':H b=some (.own x):=by rcases he with z|z;exact absurd (L6.trans z) hb;rw[L6];exact z
 rw[q] at q';cases q';obtain⟨v,hv⟩:=Pc;exact⟨v,by rw[L6];exact hv⟩;refine(ok b u q).yn (fun c v hc r=>k c v ?_ r) (fun c r=>by rw[aF (R4 c b r)];exact r) fun c xs r=>by rw[aF (Wd c xs r)];exact r
 rcases hc with rfl|hc;exact L6;rintro rfl;rcases he with z|z;exact R4 c b hc z;rw[hc] at z;cases z;exact hb rfl
end
structure Un(fs ex:RE)(H H':Hp)(h h':Heap):Prop where
 keep:∀b o,h.get? b=some o->H b=none->b∉fs->b∉ex->h'.get? b=some o
 slot:∀b o,h.get? b=some o->H b=none->b∈fs->b∉ex->∃sl,h'.get? b=some {o with slots:=sl}
 free:∀b o,h.get? b=some o->H b=none->b∉ex->H' b=none
 there:∀b o,h.get? b=some o->b∉ex->∃o',h'.get? b=some o'
 wt:∀b xs,H b=some (.tup xs)->H' b=some (.tup xs)
 sG:∀b o u,H b=some (.Gf o u)->H' b=some (.Gf o u)
 wq:∀b ps,H b=some (.BB ps)->∃more,H' b=some (.BB (ps++more))
section
variable{fs Yy ex ex':RE}{H H1 H2:Hp}{h h1 h2 h':Heap}{a x e:Addr}{o:HO}
theorem Un.any(u:Un fs ex H H1 h h1)(q:h.get? b=some ob)(n:H b=none)(hx:b∉ex):∃sl,h1.get? b=some {ob with slots:=sl}:=by by_cases hb:b∈fs;exact u.slot b ob q n hb hx;exact⟨ob.slots,u.keep b ob q n hb hx⟩
theorem Un.kept(k:∀b u,h.get? b=some u->h'.get? b=some u):Un fs ex H H h h':=⟨fun b ob q _ _ _=>k b ob q,fun b ob q _ _ _=>⟨ob.slots,k b ob q⟩,fun _ _ _ n _=>n,fun b ob q _=>⟨ob,k b ob q⟩,fun _ _ q=>q,fun _ _ _ q=>q,fun _ ps q=>⟨#[],by rw[q];simp⟩⟩
theorem Un.refl:Un fs ex H H h h:=Un.kept fun _ _ q=>q
theorem Un.laid(k:∀b u,h.get? b=some u->h'.get? b=some u)(hp:h.objs.size<=a)(hn:H a=none):Un fs ex H (upd H a o) h h' where
 keep:=fun b u q _ _ _=>k b u q
 slot:=fun b u q _ _ _=>⟨u.slots,k b u q⟩
 free:=fun b u q n _=>by rw[aF (Wi (XZ (Hh q) hp))];exact n
 there:=fun b u q _=>⟨u,k b u q⟩
 wt:=fun b xs q=>by rw[aF (aT q hn)];exact q
 sG:=fun b u xs q=>by rw[aF (aT q hn)];exact q
 wq:=fun b ps q=>⟨#[],by rw[aF (aT q hn),q];simp⟩
theorem Un.write(mu:Tt (H x))(he:e=x\/H e=some (.own x))(k:∀b u,b≠e->h.get? b=some u->h'.get? b=some u)(Pc:∃u,h'.get? e=some u):Un fs ex H (upd H x o) h h':=by
 have hx:∀b,H b=none->b≠x:=fun b n z=>by subst z;rw[n] at mu;exact mu
 have hb:∀b,H b=none->b≠e:=fun b n z=>by subst z;rcases he with r|r;exact hx b n r;rw[n] at r;cases r
 have hm:∀b u,H b=some u->¬Tt (some u)->b≠x:=fun b u q nm z=>by subst z;rw[q] at mu;exact nm mu
 refine⟨fun b u q n _ _=>k b u (hb b n) q,fun b u q n _ _=>⟨u.slots,k b u (hb b n) q⟩,fun b u q n _=>by rw[aF (hx b n)];exact n,fun b u q _=>?_,fun b xs q=>by rw[aF (hm b _ q fun z=>z)];exact q,fun b u xs q=>by rw[aF (hm b _ q fun z=>z)];exact q,fun b ps q=>⟨#[],by rw[aF (hm b _ q fun z=>z),q];simp⟩⟩;by_cases L6:b=e;subst L6;exact Pc;exact⟨u,k b u L6 q⟩
end
noncomputable def Gr(h:Heap)(H:Hp):RE:=(List.range h.objs.size).filter fun a=>(H a).isSome
def sM(h:Heap)(H:Hp):Heap:=W.hideAll h (Gr h H)
theorem AS(h:Heap)(H:Hp):(sM h H).objs.size=h.objs.size:=W.hideAll_size _ _
theorem DC(e:h.get? b=some o)(n:H b=none):(sM h H).get? b=some o:=W.hideAll_get _ e fun hm=>by have q:(H b).isSome=true:=(List.mem_filter.mp hm).2;rw[n] at q;simp at q
theorem Ia(e:(sM h H).get? b=some o):h.get? b=some o/\H b=none:=by have e':h.get? b=some o:=W.of_hideAll (Gr h H) e;refine⟨e',?_⟩;cases q:H b with|none=>rfl|some x=>have hm:b∈Gr h H:=List.mem_filter.mpr ⟨List.mem_range.mpr (Hh e'),by simp[q]⟩;have z:(sM h H).get? b=none:=W.hideAll_none (Gr h H) hm;rw[z] at e;cases e
noncomputable def GB(g h:Heap)(L:Addr):Ul:=(List.range h.objs.size).filterMap fun a=>if a=L\/(g.get? a).isSome=true then none else(h.get? a).map fun o=>(a,o)
def rest(g h:Heap)(L d:Addr):Ul:=(GB g h L).filter fun p=>decide (p.1≠d)
structure Mod(K:W.Frag)(mg:Str->O8)(base:Heap):Prop where
 Hv:K.In base
 glob:base.Ns mainGlobals mg
 blt:∃mb,base.Ns builtinsNs mb/\∀x:Str,x≠"__name__" -> mb x=bootBuiltins x
 nolimit:base.NoLimit
structure Cx where
 prog:Program
 w:World
 K:W.Frag
 mg:Str->Option Value
 base:Heap
 A:Around
 N:List Str
 s₀:Shared
 H₀:Hp
 env:Env
 outer:List Env
 stack:List Env
 ex:List Addr
 fn:Str->Bool
 calm:Bool
 pn:Ul
 xe:TF
noncomputable def Dm(l:List Env):RE:=l.filterMap (·.frame)
abbrev Cx.fs(X:Cx):RE:=Dm X.outer
def oI(sc:Scope)(x:Str):Prop:=sc.names.lookup x=some .local\/sc.names.lookup x=some .cell\/sc.names.lookup x=some .free
def Loc(sc:Scope)(x:Str):Prop:=sc.names.lookup x=some .local\/sc.names.lookup x=some .cell
def Look(env:Env)(h:Heap)(m:Str->O8)(x:Str)(u:Value):Prop:=(env.kindOf x=some .local/\m x=some u)\/((env.kindOf x=some .cell\/env.kindOf x=some .free)/\∃c,env.cells.lookup x=some c/\h.IsCell c (some u))
structure Cx.Ok(X:Cx):Prop where
 mod:Mod X.K X.mg X.base
 kind:X.env.scope.kind=.function
 glob:X.env.globals=mainGlobals
 blt:X.env.builtins=builtinsNs
 above:X.s₀.heap.objs.size<=X.env.locals
 inj:∀x y c,X.env.cells.lookup x=some c->X.env.cells.lookup y=some c->x=y
 has:∀x,(X.env.kindOf x=some .cell\/X.env.kindOf x=some .free)->∃c,X.env.cells.lookup x=some c
 Qi:∀x c,X.fn x=true->X.env.cells.lookup x=some c->X.s₀.heap.objs.size<=c
 hd:X.calm=true->X.A.handled=none
 frames:X.A.frames=some X.stack
 UD:X.stack=X.outer\/(X.stack=X.env::X.outer/\X.env.frame=some X.env.locals)
 O7:∀b∈X.ex,b≠X.env.locals/\∀x c,X.env.cells.lookup x=some c->c≠b
 bs:∀b o,X.base.get? b=some o->X.s₀.heap.get? b=some o/\X.H₀ b=none
 Gb:X.base.objs.size<=X.s₀.heap.objs.size
 En:∀b o,X.base.get? b=some o->b∉X.ex
 AM:∀b∈X.ex,b∉X.fs
 mE:X.s₀.heap.FunFrames X.base X.outer
 Kf:∀b∈X.fs,X.H₀ b=none
structure Inv(X:Cx)(WO:Ul)(σ:List (Option V))(H:Hp)(s:Shared):Prop where
 ok:X.Ok
 os:s.os=X.s₀.os
 bare:AllBare s.gens
 base:Un X.fs X.ex X.H₀ H X.s₀.heap s.heap
 loc:∃m,s.heap.Ns X.env.locals m/\∀(i:Nat)(x:Str)(v:V),X.N[i]?=some x->σ[i]?=some (some v)->oI X.env.scope x->∃u,RelV v u/\Look X.env s.heap m x u
 cell:∀x c,X.env.cells.lookup x=some c->∃v,s.heap.IsCell c v
 free:H X.env.locals=none
 kL:∀x c,X.env.cells.lookup x=some c->H c=none
 pin:∀p∈X.pn++WO,s.heap.get? p.1=some p.2/\H p.1=none/\p.1≠X.env.locals/\p.1∉X.fs/\∀v,p.2.data≠.cell v
 cm:nJ X.prog X.w H s.heap
 len:σ.length=X.N.length
section
variable{X:Cx}{WO:Ul}{σ:List (Option V)}{H H':Hp}{s:Shared}{h':Heap}
theorem Cx.Ok.Wb(ok:X.Ok)(e:X.base.get? b=some o):b∉X.fs:=fun hb=>by have:=(ok.mE.mem hb).1;rw[e] at this;cases this
theorem Inv.bs(I:Inv X WO σ H s):∀b o,X.base.get? b=some o->s.heap.get? b=some o/\H b=none:=fun b o e=>⟨I.base.keep b o (I.ok.bs b o e).1 (I.ok.bs b o e).2 (I.ok.Wb e) (I.ok.En b o e),I.base.free b o (I.ok.bs b o e).1 (I.ok.bs b o e).2 (I.ok.En b o e)⟩
theorem Inv.bk(I:Inv X WO σ H s):∀b o,X.base.get? b=some o->s.heap.get? b=some o:=fun b o e=>(I.bs b o e).1
theorem Inv.mod(I:Inv X WO σ H s):Mod X.K X.mg X.base:=I.ok.mod
theorem Inv.kD(I:Inv X WO σ H s):X.K.In s.heap:=I.ok.mod.Hv.keeps I.bk
theorem Inv.nolimit(I:Inv X WO σ H s):s.heap.NoLimit:=I.ok.mod.nolimit.keeps I.bk
theorem Inv.lt(I:Inv X WO σ H s):X.env.locals<s.heap.objs.size:=let ⟨_,hn,_⟩:=I.loc;hn.lt
theorem Inv.sz(I:Inv X WO σ H s):X.s₀.heap.objs.size<=s.heap.objs.size:=RC I.ok.above (Nat.le_of_lt I.lt)
theorem Inv.Wc(I:Inv X WO σ H s){a:Addr}(h:s.heap.objs.size<=a):a∉X.fs:=fun hb=>by obtain⟨_,o,ho,_⟩:=I.ok.mE.mem hb;exact absurd (XZ (Hh ho) (RC I.sz h)) (xO _)
theorem Inv.Lv(I:Inv X WO σ H s):∀x c,X.env.cells.lookup x=some c->c≠X.env.locals:=fun x c e z=>by obtain⟨v,o,ho,hd⟩:=I.cell x c e;obtain⟨m,⟨o',es,ep,xu,QN,_⟩,_⟩:=I.loc;rw[z,xu] at ho;cases ho;rw[QN] at hd;cases hd
theorem Inv.mE(I:Inv X WO σ H s):s.heap.FunFrames X.base X.outer:=by
 have all:∀(l:List Env),(∀b∈Dm l,b∈X.fs)->X.s₀.heap.FunFrames X.base l->s.heap.FunFrames X.base l:=by intro l;induction l with|nil=>intro _ _;trivial|cons env r ih=>intro hs hl;obtain⟨hk,⟨L,o,hf,hn,ho,hd⟩,hr⟩:=hl;have hL:L∈X.fs:=hs L (by unfold Dm;rw[NV,hf];exact Rn);obtain⟨sl,e⟩:=I.base.slot L o ho (I.ok.Kf L hL) hL fun z=>I.ok.AM L z hL;exact⟨hk,⟨L,_,hf,hn,e,hd⟩,ih (fun b hb=>hs b (by unfold Dm;rw[NV,hf];exact X1 _ hb)) hr⟩
 exact all X.outer (fun _ hb=>hb) I.ok.mE
theorem Inv.stack(I:Inv X WO σ H s):s.heap.FunFrames X.base X.stack:=by rcases I.ok.UD with e|⟨e,hf⟩;rw[e];exact I.mE;rw[e];obtain⟨m,hn,_⟩:=I.loc;refine .cons (by rw[I.ok.kind];decide) hf hn ?_ I.mE;exact Heap.get?_none_of_le (RC I.ok.Gb I.ok.above)
theorem Inv.yo(I:Inv X WO σ H s):∀b∈Dm X.stack,b∈X.env.locals::X.fs:=fun b hb=>by rcases I.ok.UD with e|⟨e,hf⟩;rw[e] at hb;exact X1 _ hb;rw[e] at hb;unfold Dm at hb;rw[NV,hf] at hb;exact hb
theorem Inv.Aj(I:Inv X WO σ H s):∀b∈Dm X.stack,H b=none:=fun b hb=>by rcases List.mem_cons.mp (I.yo b hb) with e|hb;rw[e];exact I.free;obtain⟨_,o,ho,_⟩:=I.ok.mE.mem hb;exact I.base.free b o ho (I.ok.Kf b hb) fun z=>I.ok.AM b z hb
theorem Inv.step{g':Array GenState}{t':Nat}{d':Drawn}{ch:RE}(I:Inv X WO σ H s)
  (Gh:∀b∈ch,(b∈X.ex\/X.s₀.heap.objs.size<=b)/\b≠X.env.locals/\(∀x c,X.env.cells.lookup x=some c->c≠b)/\∀p∈X.pn++WO,p.1≠b)
  (keep:∀b o,b≠X.env.locals->b∉X.fs->b∉ch->s.heap.get? b=some o->H b=none->h'.get? b=some o)
  (slot:∀b o,b≠X.env.locals->b∈X.fs->b∉ch->s.heap.get? b=some o->H b=none->∃sl,h'.get? b=some {o with slots:=sl}) (free:∀b o,b∉ch->s.heap.get? b=some o->H b=none->H' b=none)
  (there:∀b o,b∉ch->s.heap.get? b=some o->∃o',h'.get? b=some o')
  (wt:∀b xs,H b=some (.tup xs)->H' b=some (.tup xs)) (sG:∀b o u,H b=some (.Gf o u)->H' b=some (.Gf o u)) (wq:∀b ps,H b=some (.BB ps)->∃more,H' b=some (.BB (ps++more)))
  (ns:∀m,s.heap.Ns X.env.locals m->h'.Ns X.env.locals m) (cm:nJ X.prog X.w H' h') (hg:AllBare g') :
  Inv X WO σ H' {s with heap:=h',gens:=g',drawn:=d',toks:=t'}:=by
 have X7:∀b o,X.s₀.heap.get? b=some o->b≠X.env.locals:=fun b o e=>Wi (XZ (Hh e) I.ok.above);have Up:∀b o,X.s₀.heap.get? b=some o->b∉X.ex->b∉ch:=fun b o e hx hb=>by rcases (Gh b hb).1 with z|z;exact hx z;exact absurd (XZ (Hh e) z) (xO _)
 have cellK:∀x c,X.env.cells.lookup x=some c->∀v,s.heap.IsCell c v->h'.IsCell c v:=fun x c e v ⟨o,ho,hd⟩=>by have RY:c∉ch:=fun z=>(Gh c z).2.2.1 x c e rfl;by_cases hc:c∈X.fs;obtain⟨sl,q⟩:=slot c o (I.Lv x c e) hc RY ho (I.kL x c e);exact⟨_,q,hd⟩;exact⟨o,keep c o (I.Lv x c e) hc RY ho (I.kL x c e),hd⟩
 refine⟨I.ok,I.os,hg,⟨fun b o e n hb hx=>?_,fun b o e n hb hx=>?_,fun b o e n hx=>?_,fun b o e hx=>?_,fun b xs e=>wt b xs (I.base.wt b xs e),fun b o xs e=>sG b o xs (I.base.sG b o xs e),fun b ps e=>?_⟩,?_,fun x c e=>?_,?_,fun x c e=>?_,fun p hp=>?_,cm,I.len⟩;exact keep b o (X7 b o e) hb (Up b o e hx) (I.base.keep b o e n hb hx) (I.base.free b o e n hx);obtain⟨sl,e1⟩:=I.base.slot b o e n hb hx;obtain⟨Z2,e2⟩:=slot b _ (X7 b o e) hb (Up b o e hx) e1 (I.base.free b o e n hx);exact⟨Z2,e2⟩;obtain⟨o',e1⟩:=I.base.there b o e hx;exact free b o' (Up b o e hx) e1 (I.base.free b o e n hx);obtain⟨o',e1⟩:=I.base.there b o e hx;exact there b o' (Up b o e hx) e1;obtain⟨m1,e1⟩:=I.base.wq b ps e;obtain⟨m2,e2⟩:=wq b _ e1;exact⟨m1++m2,by rw[e2,Array.append_assoc]⟩;obtain⟨m,hn,hl⟩:=I.loc;refine⟨m,ns m hn,fun i x v e1 e2 e3=>?_⟩;obtain⟨u,r,l⟩:=hl i x v e1 e2 e3;refine⟨u,r,?_⟩;rcases l with l|⟨k,c,e,z⟩;exact .inl l;exact .inr ⟨k,c,e,cellK x c e _ z⟩;obtain⟨v,z⟩:=I.cell x c e;exact⟨v,cellK x c e v z⟩;obtain⟨m,⟨o,_,_,ho,_⟩,_⟩:=I.loc;exact free _ o (fun z=>(Gh _ z).2.1 rfl) ho I.free;obtain⟨v,o,ho,hd⟩:=I.cell x c e;exact free c o (fun z=>(Gh c z).2.2.1 x c e rfl) ho (I.kL x c e);obtain⟨e,n,ne,nf,d⟩:=I.pin p hp;have RY:p.1∉ch:=fun z=>(Gh p.1 z).2.2.2 p hp rfl;exact⟨keep p.1 p.2 ne nf RY e n,free p.1 p.2 RY e n,ne,nf,d⟩
theorem Inv.un(I:Inv X WO σ H s)(u:Un X.fs [] H H' s.heap h')(cm:nJ X.prog X.w H' h'):Inv X WO σ H' {s with heap:=h',toks:=t'}:=by obtain⟨m,⟨o,es,ep,ho,r⟩,_⟩:=id I.loc;obtain⟨sl,hL⟩:=u.any ho I.free O3;exact I.step (g':=s.gens) (d':=s.drawn) (ch:=[]) (fun _ z=>nomatch z) (fun b o _ hb _ e n=>u.keep b o e n hb O3) (fun b o _ hb _ e n=>u.slot b o e n hb O3) (fun b o _ e n=>u.free b o e n O3) (fun b o _ e=>u.there b o e O3) u.wt u.sG u.wq (fun m' hm=>by obtain⟨o',U8,oS,xu,r'⟩:=hm;rw[ho] at xu;cases xu;exact⟨_,U8,oS,hL,r'⟩) cm I.bare
theorem Inv.call(I:Inv X WO σ H s)(u:Un (Dm X.stack) ch H H' s.heap h')(cm:nJ X.prog X.w H' h')(hg:AllBare g')
  (Gh:∀b∈ch,(b∈X.ex\/X.s₀.heap.objs.size<=b)/\b≠X.env.locals/\(∀x c,X.env.cells.lookup x=some c->c≠b)/\∀p∈X.pn++WO,p.1≠b) :
  Inv X WO σ H' {s with heap:=h',gens:=g',drawn:=d',toks:=t'}:=by
 obtain⟨m,⟨o,es,ep,ho,r⟩,_⟩:=id I.loc;obtain⟨sl,hL⟩:=u.any ho I.free fun z=>(Gh _ z).2.1 rfl;exact I.step (ch:=ch) Gh (fun b o hL hb hc e n=>u.keep b o e n (fun z=>(List.mem_cons.mp (I.yo b z)).elim hL hb) hc) (fun b o _ _ hc e n=>u.any e n hc) (fun b o hc e n=>u.free b o e n hc) (fun b o hc e=>u.there b o e hc) u.wt u.sG u.wq (fun m' hm=>by obtain⟨o',U8,oS,xu,r'⟩:=hm;rw[ho] at xu;cases xu;exact⟨_,U8,oS,hL,r'⟩) cm hg
theorem Inv.turned{t':Nat}{it:Addr}(I:Inv X WO σ H s)(k:∀b o,b≠it->s.heap.get? b=some o->h'.get? b=some o)(hn:H it=none)(hL:it≠X.env.locals)(h1:it∈X.ex\/X.s₀.heap.objs.size<=it) (h2:∀x c,X.env.cells.lookup x=some c->c≠it) (h3:∀p∈X.pn++WO,p.1≠it):Inv X WO σ H {s with heap:=h',toks:=t'}:=by
 have X8:∀b u,H b=some u->b≠it:=fun b u e z=>by rw[z,hn] at e;cases e
 refine I.step (g':=s.gens) (d':=s.drawn) (ch:=[it]) (fun b hb=>?_) (fun b o _ _ hc e _=>k b o (fun z=>hc (by simp[z])) e) (fun b o _ _ hc e _=>⟨o.slots,k b o (fun z=>hc (by simp[z])) e⟩) (fun _ _ _ _ n=>n) (fun b o hc e=>⟨o,k b o (fun z=>hc (by simp[z])) e⟩) (fun _ _ e=>e) (fun _ _ _ e=>e) (fun b ps e=>⟨#[],by rw[e];simp⟩) (fun m hm=>?_) (fun b u e=>?_) I.bare;have e:b=it:=by simpa using hb
 subst e;exact⟨h1,hL,h2,h3⟩;obtain⟨o,es,ep,ho,r⟩:=hm;exact⟨o,es,ep,k _ o (UH hL) ho,r⟩;refine(I.cm b u e).yn (fun c v hc q=>k c v ?_ q) (fun _ q=>q) fun _ _ q=>q;rcases hc with z|z;rw[z];exact X8 b u e;exact X8 c _ z
theorem Inv.tok(I:Inv X WO σ H s)(t:Nat):Inv X WO σ H {s with toks:=t}:=I.un (h':=s.heap) (t':=t) Un.refl I.cm
theorem Inv.kept(I:Inv X WO σ H s)(k:∀b u,s.heap.get? b=some u->h'.get? b=some u):Inv X WO σ H {s with heap:=h',toks:=t'}:=I.un (Un.kept k) (I.cm.kept k)
theorem Inv.laid{a:Addr}{o:HO}{t':Nat}(I:Inv X WO σ H s)(k:∀b u,s.heap.get? b=some u->h'.get? b=some u)(hp:s.heap.objs.size<=a)(new:dD X.prog X.w (upd H a o) h' a o) : Inv X WO σ (upd H a o) {s with heap:=h',toks:=t'}:=I.un (Un.laid k hp (I.cm.fresh hp)) (I.cm.laid k hp new)
theorem Inv.write(I:Inv X WO σ H s)(mu:Tt (H x))(he:e=x\/H e=some (.own x))(k:∀b u,b≠e->s.heap.get? b=some u->h'.get? b=some u)(Pc:∃u,h'.get? e=some u)(new:dD X.prog X.w (upd H x o) h' x o):Inv X WO σ (upd H x o) {s with heap:=h',toks:=t'}:=I.un (Un.write mu he k Pc) (I.cm.write mu he k Pc new)
theorem Inv.z0(I:Inv X WO σ H s)(h:∀p∈So,s.heap.get? p.1=some p.2/\H p.1=none/\p.1≠X.env.locals/\p.1∉X.fs/\∀v,p.2.data≠.cell v):Inv X So σ H s:=⟨I.ok,I.os,I.bare,I.base,I.loc,I.cell,I.free,I.kL,fun p hp=>(List.mem_append.mp hp).elim (fun z=>I.pin p (List.mem_append_left _ z)) (h p),I.cm,I.len⟩
theorem vJ{N:Ut}(hN:N.Nodup){i j:Nat}{x:Str}(a:N[i]?=some x)(b:N[j]?=some x):i=j:=by obtain⟨h1,e1⟩:=List.getElem?_eq_some_iff.mp a;obtain⟨h2,e2⟩:=List.getElem?_eq_some_iff.mp b;exact(Be hN).mp (e1.trans e2.symm)
theorem mW(I:Inv X WO σ H s)(hN:X.N.Nodup)(hi:X.N[i]?=some x)(hx:Loc X.env.scope x)(r:RelV v u)(h:∀s',Inv X WO (σ.set i (some v)) H s'->(∃a,Heap.SameBut a s.heap s'.heap/\(a=X.env.locals\/X.env.cells.lookup x=some a))->Q () s') (hf:X.fn x=true\/X.env.scope.names.lookup x=some .local:=by exact RP):wpAny M A (storeName X.env x u) Q E s:=by
 obtain⟨m,hn,hl⟩:=id I.loc;have Vo:(X.env.scope.kind == .class||(X.env.scope.kind == .module&&X.env.locals != X.env.globals))=false:=by rw[I.ok.kind];rfl
 have QV:i<σ.length:=by rw[I.len];exact(List.getElem?_eq_some_iff.mp hi).1
 have Lv:=I.Lv;have tracked:∀{a:Addr}{h':Heap},(∃o,s.heap.get? a=some o/\H a=none)->Heap.SameBut a s.heap h'->nJ X.prog X.w H h':=fun {a h'} ha hs b ob e=>by obtain⟨_,_,Kq⟩:=ha;refine(I.cm b ob e).yn (fun c w' hc q=>(hs.2 c ?_).trans q) (fun _ q=>q) fun _ _ q=>q;rintro rfl;rcases hc with rfl|hc;rw[Kq] at e;cases e;rw[Kq] at hc;cases hc
 rcases hx with hk|hk;refine wpAny_storeName_local hk hn (fun h' wQ hs=>?_) Vo;obtain⟨oL,_,_,Y9,_⟩:=id hn;refine h _ ⟨I.ok,I.os,I.bare,⟨fun b o e n hb hx=>?_,fun b o e n hb hx=>?_,I.base.free,fun b o e hx=>?_,I.base.wt,I.base.sG,I.base.wq⟩,⟨_,wQ,fun j y v' e1 e2 e3=>?_⟩,fun y c e=>?_,I.free,I.kL,fun p hp=>?_,tracked ⟨oL,Y9,I.free⟩ hs,by simpa using I.len⟩ ⟨_,hs,.inl rfl⟩;exact(hs.2 b (Wi (XZ (Hh e) I.ok.above))).trans (I.base.keep b o e n hb hx);obtain⟨sl,e1⟩:=I.base.slot b o e n hb hx;exact⟨sl,(hs.2 b (Wi (XZ (Hh e) I.ok.above))).trans e1⟩;obtain⟨o',e1⟩:=I.base.there b o e hx;exact⟨o',(hs.2 b (Wi (XZ (Hh e) I.ok.above))).trans e1⟩;by_cases hj:j=i;subst hj;rw[hi] at e1;cases e1;rw[Vb QV] at e2;cases e2;exact⟨u,r,.inl ⟨hk,O3⟩⟩;rw[RH (UH hj)] at e2;obtain⟨u',r',q⟩:=hl j y v' e1 e2 e3;refine⟨u',r',?_⟩;rcases q with ⟨k,e⟩|⟨k,c,e,z⟩
 refine .inl ⟨k,?_⟩;have:y≠x:=fun e=>hj (vJ hN e1 (e ▸ hi));simp[this,e];exact .inr ⟨k,c,e,z.sameBut hs (Lv y c e)⟩;obtain⟨w',z⟩:=I.cell y c e;exact⟨w',z.sameBut hs (Lv y c e)⟩;obtain⟨e,n,ne,nf,d⟩:=I.pin p hp;exact⟨(hs.2 p.1 ne).trans e,n,ne,nf,d⟩;have DB:X.fn x=true:=by rcases hf with z|z;exact z;rw[z] at hk;cases hk
 obtain⟨c,hc⟩:=I.ok.has x (.inl hk);obtain⟨w',z⟩:=I.cell x c hc;refine wpAny_storeName_cell I.ok.kind hk hc z (fun h' qw hs=>?_);obtain⟨oc,XM,VE⟩:=id z;refine h {s with heap:=h'} ⟨I.ok,I.os,I.bare,⟨fun b o e n hb hx=>?_,fun b o e n hb hx=>?_,I.base.free,fun b o e hx=>?_,I.base.wt,I.base.sG,I.base.wq⟩,⟨m,hn.sameBut hs (UH (Lv x c hc)),fun j y v' e1 e2 e3=>?_⟩,fun y c' e=>?_,I.free,I.kL,fun p hp=>?_,tracked ⟨oc,XM,I.kL x c hc⟩ hs,by simpa using I.len⟩ ⟨c,hs,.inr hc⟩;exact(hs.2 b (Wi (XZ (Hh e) (I.ok.Qi x c DB hc)))).trans (I.base.keep b o e n hb hx);obtain⟨sl,e1⟩:=I.base.slot b o e n hb hx;exact⟨sl,(hs.2 b (Wi (XZ (Hh e) (I.ok.Qi x c DB hc)))).trans e1⟩;obtain⟨o',e1⟩:=I.base.there b o e hx;exact⟨o',(hs.2 b (Wi (XZ (Hh e) (I.ok.Qi x c DB hc)))).trans e1⟩;by_cases hj:j=i;subst hj;rw[hi] at e1;cases e1;rw[Vb QV] at e2;cases e2;exact⟨u,r,.inr ⟨.inl hk,c,hc,qw⟩⟩;rw[RH (UH hj)] at e2;obtain⟨u',r',q⟩:=hl j y v' e1 e2 e3;refine⟨u',r',?_⟩;rcases q with q|⟨k,c',e,z'⟩;exact .inl q;refine .inr ⟨k,c',e,z'.sameBut hs ?_⟩;rintro rfl;exact hj (vJ hN e1 (I.ok.inj _ _ _ e hc ▸ hi));by_cases XA:c'=c;subst XA;exact⟨_,qw⟩;obtain⟨w2,z2⟩:=I.cell y c' e;exact⟨w2,z2.sameBut hs XA⟩;obtain⟨e,n,ne,nf,d⟩:=I.pin p hp;refine⟨(hs.2 p.1 ?_).trans e,n,ne,nf,d⟩;intro q;rw[q,XM] at e;have q':oc=p.2:=X6 e;exact d w' (by rw[<-q'];exact VE)
theorem wk(I:Inv X WO σ H s)(hN:X.N.Nodup)(hi:X.N[i]?=some x)(hx:Loc X.env.scope x)(r:RelV v u)(h:∀s',Inv X WO (σ.set i (some v)) H s'->Q () s') (hf:X.fn x=true\/X.env.scope.names.lookup x=some .local:=by exact RP):wpAny M A (storeName X.env x u) Q E s:=
 mW I hN hi hx r (fun s' I' _=>h s' I') hf
theorem Inv.yR(I:Inv X WO σ H s)(ho:s'.os=s.os)(u:Un (Dm X.stack) ch H H' s.heap s'.heap)(cm:nJ X.prog X.w H' s'.heap)(hg:AllBare s'.gens)(Gh:∀b∈ch,(b∈X.ex\/X.s₀.heap.objs.size<=b)/\b≠X.env.locals/\(∀x c,X.env.cells.lookup x=some c->c≠b)/\∀p∈X.pn++WO,p.1≠b):Inv X WO σ H' s':=by obtain⟨h',g',d',t',o'⟩:=s';have e:o'=s.os:=ho;subst e;exact I.call (g':=g') (t':=t') (d':=d') u cm hg Gh
end
abbrev XK:=Value->ZF->Hp->Prop
abbrev St:=List (Option V)
abbrev VK:=V->Hp->Prop
abbrev TE:=St->Hp->VK->Prop
abbrev TT:=St->Hp->(Bool->Hp->Prop)->Prop
abbrev TA:=St->Hp->(List V->Hp->Prop)->Prop
structure Ends where
 nx:St->Hp->Prop
 rt:VK
 bk:St->Hp->Prop:=fun _ _=>False
 ct:St->Hp->Prop:=fun _ _=>False
abbrev TS:=Ends->St->Hp->Prop
def EP(X:Cx)(WO:Ul)(σ:St)(Q:VK)(u:Value)(s':Shared):Prop:=∃v H',Inv X WO σ H' s'/\RelV v u/\Q v H'
def TP(X:Cx)(WO:Ul)(σ:St)(Q:Bool->Hp->Prop)(b:Bool)(s':Shared):Prop:=∃H',Inv X WO σ H' s'/\Q b H'
def noL(X:Cx)(WO:Ul)(σ:St)(Q:Pk->Hp->Prop)(us:We)(s':Shared):Prop:=∃vs H',Inv X WO σ H' s'/\Vals vs us/\Q vs H'
def SP(X:Cx)(WO:Ul)(D:Ends)(f:Flow)(s':Shared):Prop:=match f with|.next=>∃bf H',Inv X WO bf H' s'/\D.nx bf H'|.brk=>∃bf H',Inv X WO bf H' s'/\D.bk bf H'|.cont=>∃bf H',Inv X WO bf H' s'/\D.ct bf H'|.ret u=>∃v bf H',Inv X WO bf H' s'/\RelV v u/\D.rt v H'
def PE(X:Cx)(e:Expr)(t:TE):Prop:=∀(WO:Ul)(s:Shared)(σ:St)(H:Hp)(Q:VK),Inv X WO σ H s->t σ H Q->wpAny (model X.prog X.w) X.A (eval e X.env) (EP X WO σ Q) X.xe s
def PT(X:Cx)(e:Expr)(t:TT):Prop:=∀(WO:Ul)(s:Shared)(σ:St)(H:Hp)(Q:Bool->Hp->Prop),Inv X WO σ H s->t σ H Q->wpAny (model X.prog X.w) X.A (isTrue e X.env (eval e X.env)) (TP X WO σ Q) X.xe s
def PW(X:Cx)(e:Expr)(t:TT):Prop:=∀(whole:Sem Value)(WO:Ul)(s:Shared)(σ:St)(H:Hp)(Q:Bool->Hp->Prop),Inv X WO σ H s->t σ H Q->wpAny (model X.prog X.w) X.A (isTrue e X.env whole) (TP X WO σ Q) X.xe s
theorem PW.pt(h:PW X e t):PT X e t:=h _
def PA(X:Cx)(es:KJ)(t:TA):Prop:=∀(pos:Pos)(WO:Ul)(s:Shared)(σ:St)(H:Hp)(Q:Pk->Hp->Prop),Inv X WO σ H s->t σ H Q->wpAny (model X.prog X.w) X.A (spliced (backTo pos (starEach es X.env))) (noL X WO σ Q) X.xe s
def PS(X:Cx)(st:Stmt)(t:TS):Prop:=∀(WO:Ul)(s:Shared)(σ:St)(H:Hp)(D:Ends),Inv X WO σ H s->t D σ H->wpAny (model X.prog X.w) X.A (exec st X.env) (SP X WO D) X.xe s
def rX(X:Cx)(st:List Stmt)(t:TS):Prop:=∀(WO:Ul)(s:Shared)(σ:St)(H:Hp)(D:Ends),Inv X WO σ H s->t D σ H->wpAny (model X.prog X.w) X.A (execs st X.env) (SP X WO D) X.xe s
theorem bN{α:Type}{t:Sem α}{Q Q':α->Shared->Prop}(h:wpAny M A t Q E s)(hQ:∀a s,Q a s->Q' a s):wpAny M A t Q' E s:=LD h hQ fun _ _ x=>x
section
variable{X:Cx}
theorem bin{a b:Expr}{ta tb:TE}(ha:PE X a ta)(hb:PE X b tb){WO:Ul}{s:Shared}{σ:St}{H:Hp}{R:V->V->Hp->Prop}(I:Inv X WO σ H s)(h:ta σ H fun x H1=>tb σ H1 fun y H2=>R x y H2)
  {α:Type} {Q:α->Shared->Prop} {f:Value->Value->Sem α}
  (hf:∀v u s2 x y H2,Inv X WO σ H2 s2->RelV x v->RelV y u->R x y H2->wpAny (model X.prog X.w) X.A (f v u) Q X.xe s2) :
  wpAny (model X.prog X.w) X.A (eval a X.env) (fun v bA=>wpAny (model X.prog X.w) X.A (eval b X.env) (fun u qE=>wpAny (model X.prog X.w) X.A (f v u) Q X.xe qE) X.xe bA) X.xe s:=by
 refine bN (ha WO s σ H _ I h) fun v s1 ⟨x,H1,I1,r1,q1⟩=>?_;refine bN (hb WO s1 σ H1 _ I1 q1) fun u s2 ⟨y,H2,I2,r2,q2⟩=>?_;exact hf v u s2 x y H2 I2 r1 r2 q2
noncomputable def nY(i:Nat):TE:=fun σ H Q=>∃v,σ[i]?=some (some v)/\Q v H
noncomputable def tC(v:V):TE:=fun _ H Q=>Q v H
theorem cC{i:Nat}{x:Str}{pos:Pos}(hN:X.N[i]?=some x)(hv:oI X.env.scope x)(hd:autoParam (Qu x) AuP.b._autoParam)(gp:autoParam (P7 x) AuP.b._autoParam):PE X (.Name x pos) (nY i):=by
 intro WO s σ H Q I h;obtain⟨v,e,h⟩:=h;obtain⟨m,hn,hl⟩:=I.loc;obtain⟨u,r,l⟩:=hl i x v hN e hv;have fin:EP X WO σ Q u s:=⟨v,H,I,r,h⟩;rcases l with ⟨hk,hm⟩|⟨hk,c,hc,Kn⟩
 exact wpAny_Name (wpAny_loadName_local I.ok.kind hk hn hm fin) hd;rcases hk with hk|hk;exact wpAny_Name (wpAny_loadName_cell I.ok.kind hk hc Kn fin) hd;exact wpAny_Name (wpAny_loadName_free I.ok.kind hk hc Kn fin gp) hd
theorem tJ{i j pos}:PE X (.Constant (.int i) j pos) (tC (.int i)):=fun _ _ _ H _ I h=>wpAny_Constant_int ⟨.int i,H,I.tok _,⟨_,rfl⟩,h⟩
theorem Si{b j pos}:PE X (.Constant (.bool b) j pos) (tC (.bl b)):=fun _ _ _ H _ I h=>Constant_bool ⟨.bl b,H,I,rfl,h⟩
theorem NO{j pos}:PE X (.Constant .none j pos) (tC .bB):=fun _ _ _ H _ I h=>Constant_none ⟨.bB,H,I,rfl,h⟩
theorem NR{x j pos}:PE X (.Constant (.str x) j pos) (tC (.str x)):=fun _ _ _ H _ I h=>Calls.Constant_str ⟨.str x,H,I.tok _,⟨_,rfl⟩,h⟩
def Gl(X:Cx)(x:Str):Prop:=X.env.kindOf x=some .globalImplicit
theorem km{E:TF}{WO:Ul}{s:Shared}{σ:St}{H:Hp}{x:Str}{u:Value}{pos:Pos}{Q:TF}(I:Inv X WO σ H s)(hg:Gl X x)(hm:X.mg x=some u)(h:Q u s)(hd:autoParam (Qu x) AuP.b._autoParam):wpAny (model X.prog X.w) X.A (eval (.Name x pos) X.env) Q E s:=
 Calls.Name_function_global I.ok.kind hg (Calls.loadGlobal_global (by rw[I.ok.glob];exact I.mod.glob.keeps I.bk) hm h) hd
theorem iq{E:TF}{WO:Ul}{s:Shared}{σ:St}{H:Hp}{x:Str}{u:Value}{pos:Pos}{Q:TF}(I:Inv X WO σ H s)(hg:Gl X x)(hm:X.mg x=none)(hv:bootBuiltins x=some u)(h:Q u s)(hn:autoParam (x≠"__name__") AuP.b._autoParam) (hd:autoParam (Qu x) AuP.b._autoParam):wpAny (model X.prog X.w) X.A (eval (.Name x pos) X.env) Q E s:=by obtain⟨mb,h1,h2⟩:=I.mod.blt;exact Calls.Name_function_global I.ok.kind hg (Calls.loadGlobal_builtin (by rw[I.ok.glob];exact I.mod.glob.keeps I.bk) hm (by rw[I.ok.blt];exact h1.keeps I.bk) ((h2 x hn).trans hv) h) hd
theorem kr(hg:Gl X x)(hm:X.mg x=some u)(r:RelV v u)(hd:autoParam (Qu x) AuP.b._autoParam):PE X (.Name x pos) (tC v):=fun _ _ _ H _ I h=>km I hg hm ⟨v,H,I,r,h⟩ hd
theorem Iu{x:Str}{v:V}{u:Value}{pos:Pos}(hg:Gl X x)(hm:X.mg x=none)(hv:bootBuiltins x=some u)(r:RelV v u)(hn:autoParam (x≠"__name__") AuP.b._autoParam)(hd:autoParam (Qu x) AuP.b._autoParam):PE X (.Name x pos) (tC v):=fun _ _ _ H _ I h=>iq I hg hm hv ⟨v,H,I,r,h⟩ hn hd
def Z5(ta tb:TE)(k:Int->Int->Hp->Prop):St->Hp->Prop:=fun σ H=>ta σ H fun x H1=>tb σ H1 fun y H2=>∃i j,x=.int i/\y=.int j/\k i j H2
noncomputable def WC(ta tb:TE):TE:=fun σ H Q=>Z5 ta tb (fun i j H2=>Q (.int (i+j)) H2) σ H
variable{a b:Expr}{ta tb:TE}{pos:Pos}
theorem NL(ha:PE X a ta)(hb:PE X b tb):PE X (.BinOp a .Add b pos) (WC ta tb):=by intro WO s σ H Q I h;refine wpAny_BinOp (bin ha hb I h fun v u s2 x y H2 I2 rx ry q=>?_);obtain⟨i,j,rfl,rfl,q⟩:=q;obtain⟨t,rfl⟩:=rx;obtain⟨t',rfl⟩:=ry;exact add_int ⟨.int _,H2,I2.tok _,⟨_,rfl⟩,q⟩
def PC(X:Cx)(op:CmpOp)(a b:Expr)(t:TE):Prop:=∀(WO:Ul)(s:Shared)(σ:St)(H:Hp)(Q:VK),Inv X WO σ H s->t σ H Q->wpAny (model X.prog X.w) X.A (eval a X.env) (fun v bA=>wpAny (model X.prog X.w) X.A (eval b X.env) (fun u qE=>wpAny (model X.prog X.w) X.A (compareOp op v u) (EP X WO σ Q) X.xe qE) X.xe bA) X.xe s
theorem Em(b:Expr)(h:op≠.In)(h2:op≠.NotIn):behindInMarks op b=false:=by
 have e1:(op == CmpOp.In)=false:=by cases op<;>first|rfl|exact absurd rfl h
 have e2:(op == CmpOp.NotIn)=false:=by cases op<;>first|rfl|exact absurd rfl h2
 cases b<;>simp[behindInMarks,e1,e2]
noncomputable def I0(t:TE):TT:=fun σ H Q=>t σ H fun x H1=>∃c,x=.bl c/\Q c H1
theorem Q0j{op:CmpOp}{t:TE}(h:PC X op a b t)(h1:behindInMarks op b=false:=by first|exact Em _ (by decide) (by decide)|rfl):PT X (.Compare a [op] [b] pos) (I0 t):=by intro WO s σ H Q I hw;refine wpAny_isTrue_Compare1 (bN (h WO s σ H _ I hw) fun v s1 h1=>bN h1 fun u s2 h2=>bN h2 fun c s3 ⟨x,H1,I1,r1,q1⟩=>?_) h1;obtain⟨d,rfl,q⟩:=q1;cases r1;exact G6 ⟨H1,I1,q⟩
theorem Q1h{e:Expr}{t:TE}(h:PE X e t)(he:∀whole,isTrue e X.env whole=(do let v <-whole;standAt e.pos;holding [v] (truthy v)):=by exact Oc):PT X e (I0 t):=by intro WO s σ H Q I hw;refine isTrue_plain (bN (h WO s σ H _ I hw) fun v s1 ⟨x,H1,I1,r1,q1⟩=>?_) (he _);obtain⟨d,rfl,q⟩:=q1;cases r1;exact G6 ⟨H1,I1,q⟩
variable{tA UE:TT}{rest:KJ}
noncomputable def Q2O(t u:TT):TT:=fun σ H Q=>t σ H fun c H1=>if c=true then u σ H1 Q else Q false H1
noncomputable def Q2Q(t u:TT):TT:=fun σ H Q=>t σ H fun c H1=>if c=true then Q true H1 else u σ H1 Q
noncomputable def Q2N(t:TT):TT:=fun σ H Q=>t σ H fun c H1=>Q (!c) H1
theorem IT(ha:PT X a tA):PW X (.BoolOp .And [a] pos) tA:=by intro wh WO s σ H Q I h;refine isTrue_and (bN (ha WO s σ H Q I h) fun c s1 e=>?_);cases c with|true=>exact isTrue_and_nil e|false=>exact e
theorem N4(ha:PT X a tA):PW X (.BoolOp .Or [a] pos) tA:=by intro wh WO s σ H Q I h;refine isTrue_or (bN (ha WO s σ H Q I h) fun c s1 e=>?_);cases c with|false=>exact isTrue_or_nil e|true=>exact e
theorem NZ(ha:PT X a tA)(hb:PW X (.BoolOp .And (b::rest) pos) UE):PW X (.BoolOp .And (a::b::rest) pos) (Q2O tA UE):=by intro wh WO s σ H Q I h;refine isTrue_and (bN (ha WO s σ H _ I h) fun c s1 ⟨H1,I1,q1⟩=>?_);cases c with|true=>exact hb wh WO s1 σ H1 Q I1 q1|false=>exact⟨H1,I1,q1⟩
theorem Ss(ha:PT X a tA)(hb:PW X (.BoolOp .Or (b::rest) pos) UE):PW X (.BoolOp .Or (a::b::rest) pos) (Q2Q tA UE):=by intro wh WO s σ H Q I h;refine isTrue_or (bN (ha WO s σ H _ I h) fun c s1 ⟨H1,I1,q1⟩=>?_);cases c with|true=>exact⟨H1,I1,q1⟩|false=>exact hb wh WO s1 σ H1 Q I1 q1
theorem Q2I(ha:PT X a tA):PT X (.UnaryOp .Not a pos) (Q2N tA):=by intro WO s σ H Q I h;exact isTrue_not (ha WO s σ H (fun c H1=>Q (!c) H1) I h)
noncomputable def SR(ta tb:TE):TE:=fun σ H Q=>ta σ H fun x H1=>∃c,x=.bl c/\if c=true then tb σ H1 Q else Q (.bl false) H1
noncomputable def Q1m(ta tb:TE):TE:=fun σ H Q=>ta σ H fun x H1=>∃c,x=.bl c/\if c=true then Q (.bl true) H1 else tb σ H1 Q
noncomputable def S5(ta:TE):TE:=fun σ H Q=>ta σ H fun x H1=>∃c,x=.bl c/\Q (.bl (!c)) H1
theorem NQ{op}(h:PE X a t):PE X (.BoolOp op [a] pos) t:=fun WO s σ H Q I hw=>BoolOp_one (h WO s σ H Q I hw)
theorem NM(ha:PE X a ta)(hb:PE X (.BoolOp .And (b::rest) pos) tb):PE X (.BoolOp .And (a::b::rest) pos) (SR ta tb):=by intro WO s σ H Q I h;refine BoolOp_and (bN (ha WO s σ H _ I h) fun v s1 ⟨x,H1,I1,r1,q1⟩=>?_);obtain⟨c,rfl,q1⟩:=q1;cases r1;refine G6 ?_;cases c with|true=>exact hb WO s1 σ H1 Q I1 q1|false=>exact⟨.bl false,H1,I1,rfl,q1⟩
theorem Sj(ha:PE X a ta)(hb:PE X (.BoolOp .Or (b::rest) pos) tb):PE X (.BoolOp .Or (a::b::rest) pos) (Q1m ta tb):=by intro WO s σ H Q I h;refine BoolOp_or (bN (ha WO s σ H _ I h) fun v s1 ⟨x,H1,I1,r1,q1⟩=>?_);obtain⟨c,rfl,q1⟩:=q1;cases r1;refine G6 ?_;cases c with|false=>exact hb WO s1 σ H1 Q I1 q1|true=>exact⟨.bl true,H1,I1,rfl,q1⟩
theorem NP(ha:PE X a ta):PE X (.UnaryOp .Not a pos) (S5 ta):=by intro WO s σ H Q I h;refine UnaryOp_ (bN (ha WO s σ H _ I h) fun v s1 ⟨x,H1,I1,r1,q1⟩=>?_);obtain⟨c,rfl,q1⟩:=q1;cases r1;exact not_of (G6 ⟨.bl (!c),H1,I1,rfl,q1⟩)
noncomputable def Z6(t:TT)(ta tb:TE):TE:=fun σ H Q=>t σ H fun c H1=>if c=true then ta σ H1 Q else tb σ H1 Q
theorem vR{c:Expr}(hc:PT X c tA)(ha:PE X a ta)(hb:PE X b tb):PE X (.IfExp c a b pos) (Z6 tA ta tb):=by intro WO s σ H Q I h;refine wpAny_IfExp (bN (hc WO s σ H _ I h) fun d s1 ⟨H1,I1,q1⟩=>?_);cases d with|true=>exact ha WO s1 σ H1 Q I1 q1|false=>exact hb WO s1 σ H1 Q I1 q1
end
def cn(K:W.Frag)(H:Hp)(a:Addr)(xs:Pk):Prop:=Rd H a (.lst xs)\/∃(o:Obj)(aS:Array Value)(n:Nat),K.lookup a=some o/\o.cls=.type "list" /\ o.dict=none/\o.data=.seq aS n/\aS.size<=sizeLine/\Vals xs aS.toList
def dW(K:W.Frag)(H:Hp)(a:Addr)(xs:Pk):Prop:=Rd H a (.tup xs)\/∃(o:Obj)(aS:Array Value)(n:Nat),K.lookup a=some o/\o.cls=.type "tuple" /\ o.data=.seq aS n/\aS.size<=sizeLine/\Vals xs aS.toList/\o.dict=none
noncomputable def Q28:Value->Option V|.none=>some .bB|.bool b=>some (.bl b)|.int i _=>some (.int i)|.str x _=>some (.str x)|.bytes b _=>some (.TB b)|.float b _=>some (.TR b)|.ref a=>some (.ref a)|.type n=>some (.ty n)|_=>none
theorem RelV.abs(r:RelV x u):Q28 u=some x:=by cases x with|bB=>cases r;rfl|bl _=>cases r;rfl|int _=>obtain⟨t,rfl⟩:=r;rfl|str _=>obtain⟨t,rfl⟩:=r;rfl|TB _=>obtain⟨t,rfl⟩:=r;rfl|TR _=>obtain⟨t,rfl⟩:=r;rfl|ref _=>cases r;rfl|ty _=>cases r;rfl
theorem RelV.inj(r:RelV x u)(q:RelV y u):x=y:=X6 (r.abs.symm.trans q.abs)
theorem Vals.inj:∀{xs ys:Pk}{us:We},Vals xs us->Vals ys us->xs=ys|_,_,_,.nil,.nil=>rfl|_,_,_,.cons r t,.cons r' t'=>by rw[r.inj r',Vals.inj t t']
section
variable{X:Cx}{WO:Ul}{σ:St}{H:Hp}{s:Shared}{a:Addr}{xs ys:Pk}
theorem cn.of{K:W.Frag}(h:H a=some (.lst xs)):cn K H a xs:=.inl (.inl h)
theorem dW.of{K:W.Frag}(h:H a=some (.tup xs)):dW K H a xs:=.inl (.inl h)
theorem Inv.list(I:Inv X WO σ H s)(h:cn X.K H a xs):∃aS:We,Vals xs aS/\PlainL s.heap a aS.toArray/\xs.length<=sizeLine:=by rcases h with h|⟨o,aS,n,hk,hc,hd,hs,hz,r⟩;obtain⟨z,aS,n,r,e⟩:=h.ok I.cm;exact⟨aS,r,⟨_,n,e,rfl,rfl,rfl⟩,z⟩;refine⟨aS.toList,r,⟨o,n,I.kD a o hk,hc,hd,by simpa using hs⟩,?_⟩;have e:=r.length;simp only[Array.length_toList] at e;omega
theorem Inv.OJ(I:Inv X WO σ H s)(h:dW X.K H a xs):∃aS:We,Vals xs aS/\nM s.heap a aS.toArray/\xs.length<=sizeLine:=by rcases h with h|⟨o,aS,n,hk,hc,hs,hz,r,dn⟩;obtain⟨z,aS,r,p⟩:=h.ok I.cm;exact⟨aS,r,p,z⟩;refine⟨aS.toList,r,⟨o,I.kD a o hk,hc,⟨n,by simpa using hs⟩,dn⟩,?_⟩;have e:=r.length;simp only[Array.length_toList] at e;omega
theorem Inv.tuple(I:Inv X WO σ H s)(h:dW X.K H a xs):∃aS:We,Vals xs aS/\IsTup s.heap a aS.toArray/\xs.length<=sizeLine:=by obtain⟨aS,r,p,z⟩:=I.OJ h;exact⟨aS,r,p.tup,z⟩
theorem Inv.pI(I:Inv X WO σ H s)(h:cn X.K H a xs)(h':cn X.K H a ys):xs=ys:=by
 obtain⟨aS,r,⟨o,n,e,_,_,d⟩,_⟩:=I.list h;obtain⟨its',r',⟨o',n',e',_,_,d'⟩,_⟩:=I.list h';rw[e] at e';cases e';rw[d] at d';injection d' with d1 _;have:aS=its':=by simpa using congrArg Array.toList d1
 subst this;exact r.inj r'
theorem Inv.rO(I:Inv X WO σ H s)(h:dW X.K H a xs)(h':dW X.K H a ys):xs=ys:=by
 obtain⟨aS,r,⟨o,e,_,n,d⟩,_⟩:=I.tuple h;obtain⟨its',r',⟨o',e',_,n',d'⟩,_⟩:=I.tuple h';rw[e] at e';cases e';rw[d] at d';injection d' with d1 _;have:aS=its':=by simpa using congrArg Array.toList d1
 subst this;exact r.inj r'
end
abbrev Cx.n5(X:Cx)(E:TF):Cx:={X with xe:=E}
abbrev Cx.H0(X:Cx):Cx:=X.n5 fun _ _=>False
theorem Cx.Ok.n5{X:Cx}(ok:X.Ok)(E:TF):(X.n5 E).Ok:=⟨ok.mod,ok.kind,ok.glob,ok.blt,ok.above,ok.inj,ok.has,ok.Qi,ok.hd,ok.frames,ok.UD,ok.O7,ok.bs,ok.Gb,ok.En,ok.AM,ok.mE,ok.Kf⟩
theorem Cx.Ok.jy{X:Cx}{E:TF}(ok:(X.n5 E).Ok):X.Ok:=⟨ok.mod,ok.kind,ok.glob,ok.blt,ok.above,ok.inj,ok.has,ok.Qi,ok.hd,ok.frames,ok.UD,ok.O7,ok.bs,ok.Gb,ok.En,ok.AM,ok.mE,ok.Kf⟩
section
variable{X:Cx}{WO:Ul}{σ:St}{H:Hp}{s:Shared}{E:TF}
theorem Inv.n5(I:Inv X WO σ H s)(E:TF):Inv (X.n5 E) WO σ H s:=⟨I.ok.n5 E,I.os,I.bare,I.base,I.loc,I.cell,I.free,I.kL,I.pin,I.cm,I.len⟩
theorem Inv.jy(I:Inv (X.n5 E) WO σ H s):Inv X WO σ H s:=⟨I.ok.jy,I.os,I.bare,I.base,I.loc,I.cell,I.free,I.kL,I.pin,I.cm,I.len⟩
theorem SP.jy(h:SP (X.n5 E) WO D f s'):SP X WO D f s':=by cases f with|next=>obtain⟨bf,H',I,q⟩:=h;exact⟨bf,H',I.jy,q⟩|brk=>obtain⟨bf,H',I,q⟩:=h;exact⟨bf,H',I.jy,q⟩|cont=>obtain⟨bf,H',I,q⟩:=h;exact⟨bf,H',I.jy,q⟩|ret u=>obtain⟨v,bf,H',I,r,q⟩:=h;exact⟨v,bf,H',I.jy,r,q⟩
theorem rX.H0{st:List Stmt}{t:TS}(h:rX X.H0 st t):rX X st t:=fun WO s σ H D I hw=>LD (h WO s σ H D (I.n5 _) hw) (fun _ _ q=>q.jy) fun _ _ z=>False.elim z
end
section
variable{X:Cx}{st:Stmt}{rest:List Stmt}{t u:TS}{e:Expr}{te:TE}{pos:Pos}
noncomputable def K0:TS:=fun D σ H=>D.nx σ H
noncomputable def BA(t u:TS):TS:=fun D σ H=>t {D with nx:=u D} σ H
theorem tL:rX X [] K0:=fun _ _ σ H _ I h=>wpAny_execs_nil ⟨σ,H,I,h⟩
theorem iR(h1:PS X st t)(h2:rX X rest u):rX X (st::rest) (BA t u):=by intro WO s σ H D I h;refine wpAny_execs_cons (bN (h1 WO s σ H {D with nx:=u D} I h) fun f s1 q=>?_);cases f with|next=>obtain⟨bf,H',I',q⟩:=q;exact h2 WO s1 bf H' D I' q|ret v=>exact q|brk=>exact q|cont=>exact q
theorem II(h1:PS X st t):rX X [st] t:=by intro WO s σ H D I h;refine wpAny_execs_cons (bN (h1 WO s σ H D I h) fun f s1 q=>?_);cases f with|next=>exact wpAny_execs_nil q|ret v=>exact q|brk=>exact q|cont=>exact q
theorem Inv.quiet{WO:Ul}{σ:St}{H:Hp}{s:Shared}(I:Inv X WO σ H s):interactive X.env=false:=by simp[interactive,I.ok.kind]
noncomputable def Q1F(te:TE):TS:=fun D σ H=>te σ H fun _ H1=>D.nx σ H1
theorem oz(he:PE X e te)(hs:autoParam (swapsWith e none pos.line X.env=pure false) AuP.a._autoParam):PS X (.Expr e pos) (Q1F te):=by intro WO s σ H D I h;exact wpAny_Expr_any (bN (he WO s σ H _ I h) fun v s1 ⟨x,H1,I1,r1,q1⟩=>⟨σ,H1,I1,q1⟩) I.quiet hs
noncomputable def OF(te:TE):TS:=fun D σ H=>te σ H D.rt
theorem ya(he:PE X e te):PS X (.Return (some e) pos) (OF te):=by intro WO s σ H D I h;exact wpAny_Return_some (bN (he WO s σ H _ I h) fun v s1 ⟨x,H1,I1,r1,q1⟩=>⟨x,σ,H1,I1,r1,q1⟩)
noncomputable def WI(c:TT)(t u:TS):TS:=fun D σ H=>c σ H fun b H1=>if b=true then t D σ H1 else u D σ H1
theorem KQ{c:Expr}{a b:List Stmt}{tc:TT}(hc:PT X c tc)(ha:rX X a t)(hb:rX X b u):PS X (.If c a b pos) (WI tc t u):=by intro WO s σ H D I h;refine wpAny_If (bN (hc WO s σ H _ I h) fun d s1 ⟨H1,I1,q1⟩=>?_);cases d with|true=>exact ha WO s1 σ H1 D I1 q1|false=>exact hb WO s1 σ H1 D I1 q1
end
abbrev TG:=V->St->Hp->(St->Hp->Prop)->Prop
abbrev JO:=List V->St->Hp->(St->Hp->Prop)->Prop
def PG(X:Cx)(target:Expr)(t:TG):Prop:=∀(WO:Ul)(s:Shared)(σ:St)(H:Hp)(v:V)(u:Value)(Q:St->Hp->Prop),Inv X WO σ H s->RelV v u->t v σ H Q->wpAny (model X.prog X.w) X.A (assign target X.env u) (fun _ s'=>∃bf H',Inv X WO bf H' s'/\Q bf H') X.xe s
def FX(X:Cx)(ts:KJ)(t:JO):Prop:=∀(WO:Ul)(s:Shared)(σ:St)(H:Hp)(vs:Pk)(us:We)(Q:St->Hp->Prop),Inv X WO σ H s->Vals vs us->t vs σ H Q->wpAny (model X.prog X.w) X.A (assignInOrder ((assignEach ts X.env).map (·.2)) us) (fun _ s'=>∃bf H',Inv X WO bf H' s'/\Q bf H') X.xe s
abbrev Le:=V->V->V->Hp->(Hp->Prop)->Prop
def P0(X:Cx)(t:Le):Prop:=∀(WO:Ul)(s:Shared)(σ:St)(H:Hp)(o i v:V)(ov iv u:Value)(Q:Hp->Prop),Inv X WO σ H s->RelV o ov->RelV i iv->RelV v u->t o i v H Q->wpAny (model X.prog X.w) X.A (setItem ov iv u) (fun _ s'=>∃H',Inv X WO σ H' s'/\Q H') X.xe s
section
variable{X:Cx}{pos:Pos}
noncomputable def MB(i:Nat):TG:=fun v σ H Q=>Q (σ.set i (some v)) H
theorem ku(hN:X.N.Nodup)(hi:X.N[i]?=some x)(hx:Loc X.env.scope x)(hf:X.fn x=true\/X.env.scope.names.lookup x=some .local:=by exact RP):PG X (.Name x pos) (MB i):=by intro WO s σ H v u Q I r h;exact Of (wk I hN hi hx r (fun s' I'=>⟨_,H,I',h⟩) hf)
noncomputable def Ve:JO:=fun vs σ H Q=>vs=[]/\Q σ H
noncomputable def Qv(t:TG)(u:JO):JO:=fun vs σ H Q=>∃v r,vs=v::r/\t v σ H fun bf H'=>u r bf H' Q
theorem zX:FX X [] Ve:=by intro WO s σ H vs us Q I r h;obtain⟨e,h⟩:=h;subst e;cases r;exact assignInOrder_nil ⟨σ,H,I,h⟩
theorem pW{e:Expr}{es:KJ}{t:TG}{u:JO}(h1:PG X e t)(h2:FX X es u)(hs:autoParam ((assignEach (e::es) X.env).map (·.2)=assign e X.env::(assignEach es X.env).map (·.2)) AuP.a._autoParam):FX X (e::es) (Qv t u):=by intro WO s σ H vs us Q I r h;obtain⟨v,vr,e1,h⟩:=h;subst e1;cases r with|cons r rr=>rw[hs];refine assignInOrder_cons (bN (h1 WO s σ H _ _ _ I r h) fun _ s1 ⟨K7,H1,I1,q1⟩=>?_);exact h2 WO s1 K7 H1 _ _ Q I1 rr q1
noncomputable def Q2M(K:W.Frag)(n:Nat)(t:JO):TG:=fun v σ H Q=>∃a xs,v=.ref a/\dW K H a xs/\xs.length=n/\t xs σ H Q
theorem ES{es:KJ}{k:Nat}{t:JO}{n:Nat}(hc:X.calm=true)(h:FX X es t)(hn:autoParam ((assignEach es X.env).length=n) AuP.a._autoParam) (hU:autoParam ((assignEach es X.env).findIdx? (·.1)=none) AuP.a._autoParam):PG X (.Tuple es k pos) (Q2M X.K n t):=by intro WO s σ H v u Q I r hw;obtain⟨a,xs,e1,hq,hl,hw⟩:=hw;subst e1;cases r;obtain⟨aS,rv,ht,hz⟩:=I.tuple hq;refine assign_Tuple_tuple (I.ok.hd hc) ht (by simp[hn,<-hl,rv.length]) hU fun h' hx=>?_;have I1:Inv X WO σ H {s with heap:=h'}:=I.kept (t':=s.toks) fun b o e=>hx b o (Wi (Hh e)) e;exact h WO _ σ H xs _ Q I1 (by simpa using rv) hw
noncomputable def Vf(to ti:TE)(t:Le):TG:=fun v σ H Q=>to σ H fun o H1=>ti σ H1 fun i H2=>t o i v H2 fun H3=>Q σ H3
theorem ER{o i:Expr}{to ti:TE}{t:Le}(ho:PE X o to)(hi:PE X i ti)(hs:P0 X t)(ha:∀v,assign (.Subscript o i pos) X.env v=(do
  let ov <-holding [v] (eval o X.env);let iv <-holding [v,ov] (eval i X.env)
  standAt pos
  holding [v,ov,iv] (setItem ov iv v)
  release [v,ov,iv] []):=by exact Oc):PG X (.Subscript o i pos) (Vf to ti t):=by
 intro WO s σ H v u Q I r h;rw[ha];refine X0 (Eo (bN (ho WO s σ H _ I h) fun ov s1 ⟨x,H1,I1,r1,q1⟩=>?_));refine X0 (Eo (bN (hi WO s1 σ H1 _ I1 q1) fun iv s2 ⟨y,H2,I2,r2,q2⟩=>?_));refine X0 (GG (X0 (Eo (bN (hs WO s2 σ H2 x y v ov iv u _ I2 r1 r2 r q2) fun _ s3 ⟨H3,I3,q3⟩=>?_))));exact wpAny_release ⟨σ,H3,I3,q3⟩
noncomputable def OC(te:TE)(g:TG):TS:=fun D σ H=>te σ H fun x H1=>g x σ H1 D.nx
theorem EW{tg e:Expr}{te:TE}{g:TG}(he:PE X e te)(hg:PG X tg g)(hs:autoParam (swapsWithSole [tg] e pos.line X.env=pure false) AuP.a._autoParam)(hw:autoParam (swappedStores [tg] e X.env=pure none) AuP.a._autoParam)(h1:autoParam ((assignEach [tg] X.env).map (·.2)=[assign tg X.env]) AuP.a._autoParam):PS X (.Assign [tg] e pos) (OC te g):=by intro WO s σ H D I h;refine wpAny_Assign_stores (bN (he WO s σ H _ I h) fun v s1 ⟨x,H1,I1,r1,q1⟩=>?_) hs hw;rw[h1];exact bN (hg WO s1 σ H1 x v _ I1 r1 q1) fun _ s2 q=>q
theorem pZ{i:Nat}{x:Str}{e:Expr}{te:TE}{UA:Pos}(hN:X.N.Nodup)(hi:X.N[i]?=some x)(hx:Loc X.env.scope x)(he:PE X e te)(hs:autoParam (swapsWith e (some (.Name x UA)) pos.line X.env=pure false) AuP.a._autoParam)(hf:X.fn x=true\/X.env.scope.names.lookup x=some .local:=by exact RP) : PS X (.Assign [.Name x UA] e pos) (OC te (MB i)):=by intro WO s σ H D I h;refine wpAny_Assign_Name (bN (he WO s σ H _ I h) fun v s1 ⟨y,H1,I1,r1,q1⟩=>?_) hs;exact wk I1 hN hi hx r1 (fun s2 I2=>⟨_,H1,I2,q1⟩) hf
end
section
variable{X:Cx}{pos:Pos}
noncomputable def Q2E(c:TT)(tb:TS):TS:=fun D σ H=>∃W:Nat->St->Hp->Prop,(∃m,W m σ H)/\∀m σ H,W m σ H->c σ H fun b H1=>if b=true then ∃N:St->Hp->Prop,(∀bf H',N bf H'->∃m',m'<m/\W m' bf H')/\tb {D with nx:=N,ct:=N,bk:=D.nx} σ H1 else D.nx σ H1
theorem Q0r{c:Expr}{body:List Stmt}{tc:TT}{tb:TS}(hp:PassesOwn (model X.prog X.w) X.A X.env X.xe)(hc:PT X c tc)(hb:rX X body tb):PS X (.While c body [] pos) (Q2E tc tb):=by
 intro WO s σ H D I h;obtain⟨W,⟨m0,w0⟩,turn⟩:=h;refine wpAny_While (codeAny_whileLoop (fun n s'=>∃bf H',Inv X WO bf H' s'/\W n bf H') ?_ m0 ⟨σ,H,I,w0⟩);rintro n s1 ⟨K7,H1,I1,w1⟩;refine vV hp (bN (hc WO s1 K7 H1 _ I1 (turn n K7 H1 w1)) fun b s2 ⟨H2,I2,q2⟩=>?_);cases b with
 |true=>obtain⟨N,hN,q2⟩:=q2;rw[WL rfl];refine vV hp (bN (hb WO s2 K7 H2 _ I2 q2) fun f s3 q3=>?_);cases f with|next=>obtain⟨wI,H3,I3,n3⟩:=q3;obtain⟨m',hm,w3⟩:=hN wI H3 n3;exact⟨m',hm,wI,H3,I3,w3⟩|cont=>obtain⟨wI,H3,I3,n3⟩:=q3;obtain⟨m',hm,w3⟩:=hN wI H3 n3;exact⟨m',hm,wI,H3,I3,w3⟩|brk=>exact q3|ret v=>exact q3
 |false=>rw[S8 Qw];exact wpAny_execs_nil ⟨K7,H2,I2,q2⟩
end
structure It where
 go:Nat->Hp->Prop
 Pr:Nat->Hp->V->Hp->Prop
 stop:Nat->Hp->Prop
def iY(X:Cx)(WO:Ul)(H:Hp)(b:Addr):Prop:=H b=none/\b≠X.env.locals/\b∉X.fs/\(b∈X.ex\/X.s₀.heap.objs.size<=b)/\(∀x c,X.env.cells.lookup x=some c->c≠b)/\∀p∈X.pn++WO,p.1≠b
theorem Inv.nP{X:Cx}{WO:Ul}{σ:St}{H H':Hp}{s:Shared}{b:Addr}(I:Inv X WO σ H s)(hb:s.heap.objs.size<=b)(hn:H' b=none):iY X WO H' b:=by refine⟨hn,xP (XZ I.lt hb),I.Wc hb,.inr (RC I.sz hb),fun x c e z=>?_,fun p hp z=>?_⟩;obtain⟨v,q⟩:=I.cell x c e;exact absurd (XZ q.lt (by rw[z];exact hb)) (xO _);exact absurd (XZ (Hh (I.pin p hp).1) (by rw[z];exact hb)) (xO _)
structure Turn(P:Program)(w:World)(K:W.Frag)(tg:Expr)(J:It)(fp:RE)(it:Addr)(tn:Nat->Heap->Prop):Prop where
 mem:it∈fp
 obj:∀i h,tn i h->∀b∈fp,∃o,h.get? b=some o/\∀v,o.data≠.cell v
 keep:∀i h h',tn i h->(∀b∈fp,∀o,h.get? b=some o->h'.get? b=some o)->tn i h'
 item:∀(X:Cx),X.prog=P->X.w=w->X.K=K->X.calm=true->∀(i:Nat)(WO:Ul)(s:Shared)(σ:St)(H:Hp)(E:TF),Inv X WO σ H s->(∀b∈fp,iY X WO H b)->tn i s.heap->J.go i H->wpAny (model P w) X.A (pyNext (.ref it)) (fun r s1=>∃u,r=some u/\wpAny (model P w) X.A (letOwnedTupleGo tg (.ref it) u) (fun _ s2=>∃x H',Inv X WO σ H' s2/\RelV x u/\J.Pr i H x H'/\tn (i+1) s2.heap/\∀b∈fp,H' b=none) E s1) E s
 done:∀(X:Cx),X.prog=P->X.w=w->X.K=K->X.calm=true->∀(i:Nat)(WO:Ul)(s:Shared)(σ:St)(H:Hp)(E:TF),Inv X WO σ H s->(∀b∈fp,iY X WO H b)->tn i s.heap->J.stop i H->wpAny (model P w) X.A (pyNext (.ref it)) (fun r s1=>r=none/\Inv X WO σ H s1) E s
 self:∀(A:Around)(i:Nat)(s:Shared)(Q:TF)(E:TF),tn i s.heap->Q (.ref it) s->wpAny (model P w) A (pyIter (.ref it)) Q E s
abbrev TI:=St->Hp->(It->Hp->Prop)->Prop
def W7(X:Cx)(WO:Ul)(σ:St)(tg:Expr)(R:It->Hp->Prop)(Uj:Value)(s2:Shared):Prop:=∃(it:Addr)(fp:RE)(tn:Nat->Heap->Prop)(J:It)(H':Hp),Uj=.ref it/\Inv X WO σ H' s2/\Turn X.prog X.w X.K tg J fp it tn/\tn 0 s2.heap/\(∀b∈fp,iY X WO H' b)/\R J H'
def PI(X:Cx)(tg Ws:Expr)(wi:TI):Prop:=∀(WO:Ul)(s:Shared)(σ:St)(H:Hp)(R:It->Hp->Prop),Inv X WO σ H s->wi σ H R->wpAny (model X.prog X.w) X.A (eval Ws X.env) (fun v s1=>wpAny (model X.prog X.w) X.A (pyIter v) (W7 X WO σ tg R) X.xe s1) X.xe s
theorem rh(ho:s.heap.get? it=some o)(hc:o.cls=.type n)(hd:o.data=.fields vs)
    (hn:["enumerate","zip","dict_itemiterator","dict_reverseitemiterator","odict_iterator","itertools.zip_longest","itertools.pairwise"].contains n=false) (hQ:Q () s):wpAny M A (letOwnedTupleGo tg (.ref it) u) Q E s:=by
  unfold letOwnedTupleGo
  cases tg<;>first
    |exact Wt hQ
    | (cases u<;>first
        |exact Wt hQ
        | (refine X0 (wpAny_load ho ?_)
           rw[hc,hd]
           show wpAny M A (if (["enumerate","zip","dict_itemiterator","dict_reverseitemiterator","odict_iterator","itertools.zip_longest","itertools.pairwise"].contains n&&vs[0]? == some (rawInt _))=true then _ else _) Q E s
           rw[S8 (by intro h;rw[hn,Bool.false_and] at h;cases h)]
           exact Wt hQ))
noncomputable def La(K:W.Frag)(a:Addr):It:=⟨fun i H=>∃xs x,cn K H a xs/\xs[i]?=some x,fun i H x H'=>H'=H/\∀xs,cn K H a xs->xs[i]?=some x,fun i H=>∃xs,cn K H a xs/\xs.length<=i⟩
noncomputable def UU(K:W.Frag)(a:Addr):It:=⟨fun i H=>∃xs x,dW K H a xs/\xs[i]?=some x,fun i H x H'=>H'=H/\∀xs,dW K H a xs->xs[i]?=some x,fun i H=>∃xs,dW K H a xs/\xs.length<=i⟩
noncomputable def Tp(lo:Int)(n:Nat):It:=⟨fun i _=>i<n,fun i H x H'=>H'=H/\x=.int (lo+i),fun i _=>n<=i⟩
theorem rP{P:Program}{w:World}{K:W.Frag}{tg:Expr}(a it:Addr):Turn P w K tg (La K a) [it] it (fun i h=>h.IsListIter it a i) where
 mem:=O3
 obj:=fun i h st b hb=>by
  have e:b=it:=by simpa using hb
  subst e;obtain⟨o,e,c,d⟩:=st;exact⟨o,e,fun v z=>by rw[d] at z;cases z⟩
 keep:=fun i h h' st k=>st.at fun o e=>k it O3 o e
 item:=by intro X hP hw hK hc i WO s σ H E I hf st hg;subst hP hw hK;obtain⟨xs,x,hq,hx⟩:=hg;obtain⟨aS,rv,p,hz⟩:=I.list hq;obtain⟨u,hu,ru⟩:=rv.get hx;obtain⟨f0,f1,f2,f3,f4,f5⟩:=hf it O3;refine wpAny_pyNext_list_item st p.isList (x:=u) (by simpa using hu) fun h' nX sb=>?_;have I1:Inv X WO σ H {s with heap:=h'}:=I.turned (t':=s.toks) (fun b o hb e=>(sb.2 b hb).trans e) f0 f1 f3 f4 f5;obtain⟨o,e,c,d⟩:=id nX;exact⟨u,rfl,rh (s:={s with heap:=h'}) e c d (by decide) ⟨x,H,I1,ru,⟨rfl,fun ys hy=>by rw[I.pI hy hq];exact hx⟩,nX,fun b hb=>(hf b hb).1⟩⟩
 done:=by intro X hP hw hK hc i WO s σ H E I hf st hg;subst hP hw hK;obtain⟨xs,hq,hx⟩:=hg;obtain⟨aS,rv,p,hz⟩:=I.list hq;obtain⟨f0,f1,f2,f3,f4,f5⟩:=hf it O3;have hl:=rv.length;exact wpAny_pyNext_list_end (I.ok.hd hc) st p.isList (by simp;omega) fun h' eb=>⟨rfl,I.turned (t':=s.toks) (fun b o hb e=>eb b o hb e) f0 f1 f3 f4 f5⟩
 self:=fun _ _ _ _ _ st h=>wpAny_pyIter_listiter st h
theorem yu{P:Program}{w:World}{K:W.Frag}{tg:Expr}(a it:Addr):Turn P w K tg (UU K a) [it] it (fun i h=>h.IsTupleIter it a i) where
 mem:=O3
 obj:=fun i h st b hb=>by
  have e:b=it:=by simpa using hb
  subst e;obtain⟨o,e,c,d⟩:=st;exact⟨o,e,fun v z=>by rw[d] at z;cases z⟩
 keep:=fun i h h' st k=>st.at fun o e=>k it O3 o e
 item:=by intro X hP hw hK hc i WO s σ H E I hf st hg;subst hP hw hK;obtain⟨xs,x,hq,hx⟩:=hg;obtain⟨aS,rv,p,hz⟩:=I.tuple hq;obtain⟨u,hu,ru⟩:=rv.get hx;obtain⟨f0,f1,f2,f3,f4,f5⟩:=hf it O3;refine wpAny_pyNext_tuple_item st (show s.heap.IsTuple a aS.toArray from p) (x:=u) (by simpa using hu) fun h' nX sb=>?_;have I1:Inv X WO σ H {s with heap:=h'}:=I.turned (t':=s.toks) (fun b o hb e=>(sb.2 b hb).trans e) f0 f1 f3 f4 f5;obtain⟨o,e,c,d⟩:=id nX;exact⟨u,rfl,rh (s:={s with heap:=h'}) e c d (by decide) ⟨x,H,I1,ru,⟨rfl,fun ys hy=>by rw[I.rO hy hq];exact hx⟩,nX,fun b hb=>(hf b hb).1⟩⟩
 done:=by intro X hP hw hK hc i WO s σ H E I hf st hg;subst hP hw hK;obtain⟨xs,hq,hx⟩:=hg;obtain⟨aS,rv,p,hz⟩:=I.tuple hq;obtain⟨f0,f1,f2,f3,f4,f5⟩:=hf it O3;have hl:=rv.length;exact wpAny_pyNext_tuple_end (I.ok.hd hc) st (show s.heap.IsTuple a aS.toArray from p) (by simp;omega) fun h' eb=>⟨rfl,I.turned (t':=s.toks) (fun b o hb e=>eb b o hb e) f0 f1 f3 f4 f5⟩
 self:=fun _ _ _ _ _ st h=>wpAny_pyIter_tupleiter st h
theorem yt{P:Program}{w:World}{K:W.Frag}{tg:Expr}(it:Addr)(lo:Int)(n:Nat):Turn P w K tg (Tp lo n) [it] it (fun i h=>IsRangeIter h it (lo+(i:Nat)*1) ((n:Int)-(i:Nat)) 1) where
 mem:=O3
 obj:=fun i h st b hb=>by
  have e:b=it:=by simpa using hb
  subst e;exact⟨_,st,fun v z=>by have z':Data.fields _=Data.cell v:=z;cases z'⟩
 keep:=fun i h h' st k=>k it O3 _ st
 item:=by intro X hP hw hK hc i WO s σ H E I hf st hg;subst hP hw hK;obtain⟨f0,f1,f2,f3,f4,f5⟩:=hf it O3;have W:=Walks.range (prog:=X.prog) (w:=X.w) (I.ok.hd hc) it lo 1 n;refine W.item i s _ _ hg st fun v h' tk hv nX kk=>?_;obtain⟨t,rfl⟩:=hv;have I1:Inv X WO σ H {s with heap:=h',toks:=tk}:=I.turned (fun b o hb e=>kk b o (by simpa using hb) e) f0 f1 f3 f4 f5;refine⟨_,rfl,rh (s:={s with heap:=h',toks:=tk}) (n:="range_iterator") nX rfl rfl (by decide) ⟨.int (lo+i),H,I1,⟨t,?_⟩,⟨rfl,rfl⟩,nX,fun b hb=>(hf b hb).1⟩⟩;rw[Int.mul_one]
 done:=by intro X hP hw hK hc i WO s σ H E I hf st hg;subst hP hw hK;obtain⟨f0,f1,f2,f3,f4,f5⟩:=hf it O3;exact wpAny_pyNext_range_end (I.ok.hd hc) st (by have:n<=i:=hg;omega) fun h' eb=>⟨rfl,I.turned (t':=s.toks) (fun b o hb e=>eb b o hb e) f0 f1 f3 f4 f5⟩
 self:=fun _ _ _ _ _ st h=>wpAny_pyIter_rangeiter st h
section
variable{X:Cx}{tg:Expr}
def DI(K:W.Frag)(tl:TE):TI:=fun σ H R=>tl σ H fun x H1=>∃a,x=.ref a/\(∃xs,cn K H1 a xs)/\R (La K a) H1
theorem zZ{l:Expr}{tl:TE}(hl:PE X l tl):PI X tg l (DI X.K tl):=by
 intro WO s σ H R I h;refine bN (hl WO s σ H _ I h) fun v s1 ⟨x,H1,I1,r1,q1⟩=>?_;obtain⟨a,e,⟨xs,hq⟩,q⟩:=q1;subst e;cases r1;obtain⟨aS,rv,p,hz⟩:=I1.list hq;refine ND p.isList ?_;refine⟨s1.heap.objs.size,[s1.heap.objs.size],_,_,H1,rfl,I1.kept (t':=s1.toks) fun b o e=>RN _ e,rP a _,⟨_,Rv _ rfl,rfl,rfl⟩,fun b hb=>?_,q⟩;have e:b=s1.heap.objs.size:=by simpa using hb
 subst e;exact I1.nP (Gm _) (I1.cm.fresh (Gm _))
theorem E8{WO:Ul}{σ:St}{H:Hp}{s:Shared}{R:It->Hp->Prop}{E:TF}{lo hi:Int}{t u v:Tok}{tk:Nat}(I:Inv X WO σ H s)(h1:-(2 ^ 62)<=lo)(h2:lo<2 ^ 62)(h3:-(2 ^ 62)<=hi)(h4:hi<2 ^ 62)(q:R (Tp lo (hi-lo).toNat) H):wpAny (model X.prog X.w) X.A (pyIter (.ref s.heap.objs.size)) (W7 X WO σ tg R) E {s with heap:=s.heap.push {cls:=.type "range",data:=.fields #[.int lo t,.int hi u,.int 1 v]},toks:=tk}:=by
 refine wpAny_pyIter_range (IsRange.new ..) (small_one h1 h2 h3 h4) ?_;have I1:Inv X WO σ H {s with heap:=s.heap.push {cls:=.type "range",data:=.fields #[.int lo t,.int hi u,.int 1 v]},toks:=tk}:=I.kept fun b o e=>RN _ e;refine⟨(s.heap.push {cls:=.type "range",data:=.fields #[.int lo t,.int hi u,.int 1 v]}).objs.size,[(s.heap.push {cls:=.type "range",data:=.fields #[.int lo t,.int hi u,.int 1 v]}).objs.size],_,_,H,rfl,I1.kept (t':=tk) fun b o e=>RN _ e,yt _ lo (hi-lo).toNat,?_,fun b hb=>?_,q⟩;have e1:lo+((0:Nat):Int)*1=lo:=O3;have e2:(((hi-lo).toNat:Nat):Int)-((0:Nat):Int)=Builtin.Range.rangeSize lo hi 1:=by rw[rangeSize_one];split<;>omega
 show IsRangeIter _ _ (lo+((0:Nat):Int)*1) ((((hi-lo).toNat:Nat):Int)-((0:Nat):Int)) 1;rw[e1,e2];exact Rv _ rfl;have e:b=(s.heap.push {cls:=.type "range",data:=.fields #[.int lo t,.int hi u,.int 1 v]}).objs.size:=by simpa using hb
 subst e;exact I1.nP (Gm _) (I1.cm.fresh (Gm _))
def Rh(ta:TA):TI:=fun σ H R=>ta σ H fun vs H1=>∃j:Int,vs=[.int j]/\-(2 ^ 62)<=j/\j<2 ^ 62/\R (Tp 0 j.toNat) H1
theorem Bk{a:Expr}{ta:TA}{p pos:Pos}(hg:Gl X "range")(hm:X.mg "range" = none)(ha:PA X [a] ta)(hs:autoParam (starEach [a] X.env=[(false,eval a X.env)]) AuP.a._autoParam):PI X tg (.Call (.Name "range" p) [a] [] pos) (Rh ta):=by intro WO s σ H R I h;refine Call_ (iq I hg hm boot_range (JC (bN (ha pos WO s σ H _ I h) fun us s1 ⟨vs,H1,I1,r1,q1⟩=>?_) hs rfl));obtain⟨j,e,q1,q2,q⟩:=q1;subst e;cases r1 with|cons r rr=>cases rr;obtain⟨t,rfl⟩:=r;exact call_range_1 (E8 I1 Ux Ux q1 q2 (by simpa using q))
noncomputable def WH(wi:TI)(g:TG)(tb:TS):TS:=fun D σ H=>wi σ H fun J H1=>∃W:Nat->Nat->St->Hp->Prop,(∃m,W 0 m σ H1)/\∀i m σ H,W i m σ H->(J.stop i H/\D.nx σ H)\/(J.go i H/\∃N:St->Hp->Prop,(∀bf H',N bf H'->∃m',m'<m/\W (i+1) m' bf H')/\∀x H',J.Pr i H x H'->g x σ H' fun BK H2=>tb {D with nx:=N,ct:=N,bk:=D.nx} BK H2)
noncomputable def pX(fp:RE)(h:Heap):Ul:=fp.filterMap fun b=>(h.get? b).map fun o=>(b,o)
theorem fK(hb:b∈fp)(e:h.get? b=some o):(b,o)∈pX fp h:=List.mem_filterMap.mpr ⟨b,hb,by rw[e];rfl⟩
theorem Bi(hp:p∈pX fp h):p.1∈fp/\h.get? p.1=some p.2:=by obtain⟨b,hb,e⟩:=List.mem_filterMap.mp hp;cases q:h.get? b with|none=>rw[q] at e;cases e|some o=>rw[q] at e;have e':(b,o)=p:=X6 e;subst e';exact⟨hb,q⟩
theorem Inv.pinned{WO:Ul}{σ:St}{H:Hp}{s:Shared}{fp:RE}(I:Inv X WO σ H s)(hf:∀b∈fp,iY X WO H b)(ho:∀b∈fp,∃o,s.heap.get? b=some o/\∀v,o.data≠.cell v):Inv X (WO++pX fp s.heap) σ H s:=I.z0 fun p hp=>(List.mem_append.mp hp).elim (fun z=>I.pin p (R8 _ z)) fun z=>by obtain⟨hb,e⟩:=Bi z;obtain⟨f0,f1,f2,_⟩:=hf p.1 hb;obtain⟨o,e',d⟩:=ho p.1 hb;rw[e] at e';cases e';exact⟨e,f0,f1,f2,d⟩
theorem Inv.j7{WO pl:Ul}{σ:St}{H:Hp}{s:Shared}(I:Inv X (WO++pl) σ H s):Inv X WO σ H s:=I.z0 fun p hp=>I.pin p (R8 _ (List.mem_append_left _ hp))
theorem x9{Ws:Expr}{body:List Stmt}{wi:TI}{g:TG}{tb:TS}{pos:Pos}(hp:PassesOwn (model X.prog X.w) X.A X.env X.xe)(hc:X.calm=true)(hi:PI X tg Ws wi)(hg:PG X tg g)(hb:rX X body tb)(hs:∀x,foldedSetIterable Ws X.env x=pure x:=by exact Oc):PS X (.For tg Ws body [] pos) (WH wi g tb):=by
 intro WO s σ H D I h;refine wpAny_For (bN (hi WO s σ H _ I h) fun v s1 h1=>bN h1 fun Uj s2 h2=>?_) hs;obtain⟨it,fp,tn,J,H2,e,I2,T,qC,f2,W,⟨m0,w0⟩,turn⟩:=h2;subst e;have qf:∀{H':Hp},(∀b∈fp,H' b=none)->∀b∈fp,iY X WO H' b:=fun hn b hb=>⟨hn b hb,(f2 b hb).2⟩;refine codeAny_forLoop_any (fun n s'=>∃i bf H',Inv X WO bf H' s'/\tn i s'.heap/\(∀b∈fp,H' b=none)/\W i n bf H') ?_ m0 ⟨0,σ,H2,I2,qC,fun b hb=>(f2 b hb).1,w0⟩;rintro n s3 ⟨i,wI,H3,I3,UC,Xu,w3⟩;rcases turn i n wI H3 w3 with ⟨stop,qn⟩|⟨go,N,hN,step⟩
 ·refine vV hp (bN (T.done X rfl rfl rfl hc i WO s3 wI H3 X.xe I3 (qf Xu) UC stop) fun r s4 ⟨hr,I4⟩=>?_);subst hr;exact wpAny_execs_nil ⟨wI,H3,I4,qn⟩
 ·refine vV hp (bN (T.item X rfl rfl rfl hc i WO s3 wI H3 X.xe I3 (qf Xu) UC go) fun r s4 ⟨u,hr,h4⟩=>?_);subst hr;refine vV hp (bN h4 fun _ s5 ⟨x,H5,I5,r5,y5,Wz,Yx⟩=>?_);have Yo:=I5.pinned (qf Yx) (T.obj _ _ Wz);refine vV hp (bN (hg _ s5 wI H5 x u _ Yo r5 (step x H5 y5)) fun _ s6 ⟨σ6,H6,I6,q6⟩=>?_);refine vV hp (bN (hb _ s6 σ6 H6 _ I6 q6) fun f s7 q7=>?_);have again:∀{kT:St}{H7:Hp},Inv X (WO++pX fp s5.heap) kT H7 s7->N kT H7->∃m,m<n/\∃i bf H',Inv X WO bf H' s7/\tn i s7.heap/\(∀b∈fp,H' b=none)/\W i m bf H':=fun {kT H7} I7 n7=>by obtain⟨m',hm,w7⟩:=hN kT H7 n7;refine⟨m',hm,i+1,kT,H7,I7.j7,T.keep _ _ _ Wz fun b hb o e=>(I7.pin (b,o) (R8 _ (R8 _ (fK hb e)))).1,fun b hb=>?_,w7⟩;obtain⟨o,e,d⟩:=T.obj _ _ Wz b hb;exact(I7.pin (b,o) (R8 _ (R8 _ (fK hb e)))).2.1
  cases f with|next=>obtain⟨kT,H7,I7,n7⟩:=q7;exact again I7 n7|cont=>obtain⟨kT,H7,I7,n7⟩:=q7;exact again I7 n7|brk=>obtain⟨kT,H7,I7,q7⟩:=q7;exact⟨kT,H7,I7.j7,q7⟩|ret v=>obtain⟨x7,kT,H7,I7,r7,q7⟩:=q7;exact⟨x7,kT,H7,I7.j7,r7,q7⟩
end
abbrev R2:=V->V->Hp->VK->Prop
def ij(X:Cx)(f:Value->Value->Sem Value)(r:R2):Prop:=∀(WO:Ul)(s:Shared)(σ:St)(H:Hp)(x y:V)(v u:Value)(Q:VK),Inv X WO σ H s->RelV x v->RelV y u->r x y H Q->wpAny (model X.prog X.w) X.A (f v u) (EP X WO σ Q) X.xe s
def Tw(X:Cx)(f:Value->Sem Value)(r:V->Hp->VK->Prop):Prop:=∀(WO:Ul)(s:Shared)(σ:St)(H:Hp)(x:V)(v:Value)(Q:VK),Inv X WO σ H s->RelV x v->r x H Q->wpAny (model X.prog X.w) X.A (f v) (EP X WO σ Q) X.xe s
def eI(X:Cx)(f:Value)(r:Pk->Hp->VK->Prop):Prop:=∀(WO:Ul)(s:Shared)(σ:St)(H:Hp)(xs:Pk)(us:We)(Q:VK),Inv X WO σ H s->Vals xs us->r xs H Q->wpAny (model X.prog X.w) X.A (call f us) (EP X WO σ Q) X.xe s
noncomputable def Jw(r:R2)(ta tb:TE):TE:=fun σ H Q=>ta σ H fun x H1=>tb σ H1 fun y H2=>r x y H2 Q
noncomputable def Z8(r:V->Hp->VK->Prop)(ta:TE):TE:=fun σ H Q=>ta σ H fun x H1=>r x H1 Q
noncomputable def rI(C:Int->Int->Prop)(g:Int->Int->V):R2:=fun x y H Q=>∃i j,x=.int i/\y=.int j/\C i j/\Q (g i j) H
noncomputable def vY(g:Int->Int->V):R2:=fun x y H Q=>∃i j,x=.int i/\y=.int j/\Q (g i j) H
def rU(g:Int->V):V->Hp->VK->Prop:=fun x H Q=>∃i,x=.int i/\Q (g i) H
section
variable{X:Cx}{a b c:Expr}{ta tb tc:TE}{pos:Pos}
theorem Lr(ha:PE X a ta)(hb:PE X b tb){WO:Ul}{s:Shared}{σ:St}{H:Hp}{R:V->V->Hp->Prop}(I:Inv X WO σ H s)
  (h:ta σ H fun x H1=>tb σ H1 fun y H2=>R x y H2) {Q:TF} {f:Value->Value->Sem Value}
  (hf:∀v u s2 x y H2,Inv X WO σ H2 s2->RelV x v->RelV y u->R x y H2->wpAny (model X.prog X.w) X.A (f v u) Q X.xe s2) :
  wpAny (model X.prog X.w) X.A (eval a X.env) (fun v bA=>wpAny (model X.prog X.w) X.A (eval b X.env) (fun u qE=>wpAny (model X.prog X.w) X.A (f v u) Q X.xe qE) X.xe bA) X.xe s:=by
 refine bN (ha WO s σ H _ I h) fun v s1 ⟨x,H1,I1,r1,q1⟩=>?_;refine bN (hb WO s1 σ H1 _ I1 q1) fun u s2 ⟨y,H2,I2,r2,q2⟩=>?_;exact hf v u s2 x y H2 I2 r1 r2 q2
theorem KO(ho:ij X (binaryOp op) r)(ha:PE X a ta)(hb:PE X b tb):PE X (.BinOp a op b pos) (Jw r ta tb):=by intro WO s σ H Q I h;exact wpAny_BinOp (Lr ha hb I h fun v u s2 x y H2 I2 rx ry q=>ho WO s2 σ H2 x y v u Q I2 rx ry q)
theorem Sk{op:UnaryOp}{r:V->Hp->VK->Prop}(ho:Tw X (unaryOp op) r)(ha:PE X a ta):PE X (.UnaryOp op a pos) (Z8 r ta):=by intro WO s σ H Q I h;exact UnaryOp_ (bN (ha WO s σ H _ I h) fun v s1 ⟨x,H1,I1,r1,q1⟩=>ho WO s1 σ H1 x v Q I1 r1 q1)
theorem Us{f:Value->Value->Sem Value}{C:Int->Int->Prop}{g:Int->Int->Int}
  (rule:∀(i j:Int)(t u:Tok)(s:Shared)(Q:TF)(E:TF),C i j->Q (.int (g i j) s.toks) {s with toks:=s.toks+1}->wpAny (model X.prog X.w) X.A (f (.int i t) (.int j u)) Q E s) :
  ij X f (rI C fun i j=>.int (g i j)):=by
 intro WO s σ H x y v u Q I rx ry h;obtain⟨i,j,rfl,rfl,hc,q⟩:=h;obtain⟨t,rfl⟩:=rx;obtain⟨t',rfl⟩:=ry;exact rule i j t t' s _ _ hc ⟨.int (g i j),H,I.tok _,⟨_,rfl⟩,q⟩
theorem Sf{f:Value->Value->Sem Value}{g:Int->Int->Int}
  (rule:∀(i j:Int)(t u:Tok)(s:Shared)(Q:TF)(E:TF),Q (.int (g i j) s.toks) {s with toks:=s.toks+1}->wpAny (model X.prog X.w) X.A (f (.int i t) (.int j u)) Q E s) :
  ij X f (vY fun i j=>.int (g i j)):=by
 intro WO s σ H x y v u Q I rx ry h;obtain⟨i,j,rfl,rfl,q⟩:=h;obtain⟨t,rfl⟩:=rx;obtain⟨t',rfl⟩:=ry;exact rule i j t t' s _ _ ⟨.int (g i j),H,I.tok _,⟨_,rfl⟩,q⟩
theorem Ii{f:Value->Value->Sem Value}{g:Int->Int->Bool}
  (rule:∀(i j:Int)(t u:Tok)(s:Shared)(Q:TF)(E:TF),Q (.bool (g i j)) s->wpAny (model X.prog X.w) X.A (f (.int i t) (.int j u)) Q E s) :
  ij X f (vY fun i j=>.bl (g i j)):=by
 intro WO s σ H x y v u Q I rx ry h;obtain⟨i,j,rfl,rfl,q⟩:=h;obtain⟨t,rfl⟩:=rx;obtain⟨t',rfl⟩:=ry;exact rule i j t t' s _ _ ⟨.bl (g i j),H,I,rfl,q⟩
def K8(i j:Int):Prop:=0<j/\j<1073741824
def Py(i j:Int):Prop:=0<=j/\j<=1000000/\i.natAbs<2 ^ 64
def BP(i j:Int):Prop:=(-(2 ^ 64)<i/\i<2 ^ 64)\/(-(2 ^ 64)<j/\j<2 ^ 64)
theorem BP.ok(h:BP i j):IntMulOk i j:=by
 rcases h with ⟨h1,h2⟩|⟨h1,h2⟩
 exact .of_left (intBits_le_64 h1 h2);exact .of_right (intBits_le_64 h1 h2)
theorem NH:ij X (binaryOp .Add) (vY fun i j=>.int (i+j)):=Sf fun _ _ _ _ _ _ _ q=>add_int q
theorem cB:ij X (binaryOp .Sub) (vY fun i j=>.int (i-j)):=Sf fun _ _ _ _ _ _ _ q=>sub_int q
theorem cX:ij X (binaryOp .Mult) (rI BP fun i j=>.int (i*j)):=Us fun _ _ _ _ _ _ _ hc q=>mul_int q hc.ok
theorem gH:ij X (binaryOp .FloorDiv) (rI K8 fun i j=>.int (i / j)):=Us fun i j _ _ _ _ _ hc q=>by have h1:(0:Int)<j:=hc.1;have h2:j<1073741824:=hc.2;exact floordiv_int Ux (by rw[Int.fdiv_eq_ediv_of_nonneg i Ux];exact q) (.inl (PyProof.noPylong_small Ux))
theorem cH:ij X (binaryOp .Mod) (rI (fun _ j=>0<j) fun i j=>.int (i % j)):=Us fun i j _ _ _ _ _ hc q=>by have h1:(0:Int)<j:=hc;exact mod_int' Ux (by rw[Int.fmod_eq_emod_of_nonneg i Ux];exact q)
theorem NI:ij X (binaryOp .Pow) (rI Py fun i j=>.int (i ^ j.toNat)):=Us fun _ _ _ _ _ _ _ hc q=>pow_int_small hc.1 hc.2.1 hc.2.2 q
theorem Z9{f:Value->Sem Value}{g:Int->Int}
  (rule:∀(i:Int)(t:Tok)(s:Shared)(Q:TF)(E:TF),Q (.int (g i) s.toks) {s with toks:=s.toks+1}->wpAny (model X.prog X.w) X.A (f (.int i t)) Q E s) :
  Tw X f (rU fun i=>.int (g i)):=by
 intro WO s σ H x v Q I rx h;obtain⟨i,rfl,q⟩:=h;obtain⟨t,rfl⟩:=rx;exact rule i t s _ _ ⟨.int (g i),H,I.tok _,⟨_,rfl⟩,q⟩
theorem jx:Tw X (unaryOp .USub) (rU fun i=>.int (-i)):=Z9 fun _ _ _ _ _ q=>neg_int q
end
section
variable{X:Cx}{a b c:Expr}{ta tb tc:TE}{pos:Pos}
theorem LO{WO:Ul}{σ:St}{H:Hp}{s:Shared}{Q:VK}{k k':Bool}(I:Inv X WO σ H s)(q:Q (.bl k) H)(e:k=k'):EP X WO σ Q (.bool k') s:=by subst e;exact⟨.bl k,H,I,rfl,q⟩
theorem kQ:ij X (compareOp .Lt) (vY fun i j=>.bl (decide (i<j))):=Ii fun _ _ _ _ _ _ _ q=>lt_int q
theorem gC:ij X (compareOp .LtE) (vY fun i j=>.bl (decide (i<=j))):=Ii fun _ _ _ _ _ _ _ q=>le_int q
theorem vN:ij X (compareOp .Gt) (vY fun i j=>.bl (decide (j<i))):=Ii fun _ _ _ _ _ _ _ q=>gt_int q
theorem KL:ij X (compareOp .GtE) (vY fun i j=>.bl (decide (j<=i))):=Ii fun _ _ _ _ _ _ _ q=>ge_int q
theorem EJ:ij X (compareOp .Is) (fun x y H Q=>y=.bB/\Q (.bl (decide (x=.bB))) H):=by intro WO s σ H x y v u Q I rx ry h;obtain⟨rfl,q⟩:=h;cases ry;refine is_none_gen (LO I q ?_);cases x<;>first| (cases rx;rfl)| (obtain⟨t,rfl⟩:=rx;rfl)
theorem ij.or(h:ij X f r)(h':ij X f r'):ij X f (fun x y H Q=>r x y H Q\/r' x y H Q):=by intro WO s σ H x y v u Q I rx ry q;rcases q with q|q;exact h WO s σ H x y v u Q I rx ry q;exact h' WO s σ H x y v u Q I rx ry q
theorem b9(b:Expr)(h:autoParam (op≠.In) AuP.b._autoParam)(h2:autoParam (op≠.NotIn) AuP.b._autoParam):behindInMarks op b=false:=by
 have e1:(op == CmpOp.In)=false:=by cases op<;>first|rfl|exact absurd rfl h
 have e2:(op == CmpOp.NotIn)=false:=by cases op<;>first|rfl|exact absurd rfl h2
 cases b<;>simp[behindInMarks,e1,e2]
theorem Iw(ho:ij X (compareOp op) r)(ha:PE X a ta)(hb:PE X b tb)(hm:behindInMarks op b=false):PE X (.Compare a [op] [b] pos) (Jw r ta tb):=by intro WO s σ H Q I h;exact wpAny_Compare1 (Lr ha hb I h fun v u s2 x y H2 I2 rx ry q=>ho WO s2 σ H2 x y v u Q I2 rx ry q) hm
noncomputable def K1(t:TE):TT:=fun σ H Q=>t σ H fun x H'=>∃k,x=.bl k/\Q k H'
theorem z8{op:CmpOp}{r:R2}(ho:ij X (compareOp op) r)(ha:PE X a ta)(hb:PE X b tb)(hm:behindInMarks op b=false):PT X (.Compare a [op] [b] pos) (K1 (Jw r ta tb)):=by intro WO s σ H Q I h;refine wpAny_isTrue_Compare1 (bN (ha WO s σ H _ I h) fun v s1 ⟨x,H1,I1,r1,q1⟩=>bN (hb WO s1 σ H1 _ I1 q1) fun u s2 ⟨y,H2,I2,r2,q2⟩=>bN (ho WO s2 σ H2 x y v u _ I2 r1 r2 q2) fun c s3 ⟨z,H3,I3,r3,k,e,q3⟩=>?_) hm;subst e;cases r3;exact G6 ⟨H3,I3,q3⟩
noncomputable def yp(r r':R2)(ta tb tc:TE):TE:=fun σ H Q=>ta σ H fun x H1=>tb σ H1 fun y H2=>r x y H2 fun z H3=>∃k,z=.bl k/\(if k=true then tc σ H3 fun w' H4=>r' y w' H4 Q else Q (.bl false) H3)
theorem EM{op Bj:CmpOp}{r r':R2}(ho:ij X (compareOp op) r)(xu:ij X (compareOp Bj) r')(ha:PE X a ta)(hb:PE X b tb)(hc:PE X c tc)(hm:lastMarks [op,Bj] [b,c]=false:=by exact Jb):PE X (.Compare a [op,Bj] [b,c] pos) (yp r r' ta tb tc):=by intro WO s σ H Q I h;refine Compare_chain (bN (ha WO s σ H _ I h) fun v s1 ⟨x,H1,I1,r1,q1⟩=>chain_link (bN (hb WO s1 σ H1 _ I1 q1) fun u s2 ⟨y,H2,I2,r2,q2⟩=>bN (ho WO s2 σ H2 x y v u _ I2 r1 r2 q2) fun d s3 ⟨z,H3,I3,r3,k,e,q3⟩=>?_)) hm;subst e;cases r3;refine G6 ?_;cases k with|false=>exact ite_ff ⟨.bl false,H3,I3,rfl,q3⟩|true=>exact ite_tt (chain_last (bN (hc WO s3 σ H3 _ I3 q3) fun w' s4 ⟨z',H4,I4,r4,q4⟩=>xu WO s4 σ H4 y z' u w' Q I4 r2 r4 q4))
theorem Q1d{op Bj:CmpOp}{r r':R2}(ho:ij X (compareOp op) r)(xu:ij X (compareOp Bj) r')(ha:PE X a ta)(hb:PE X b tb)(hc:PE X c tc)(hm:lastMarks [op,Bj] [b,c]=false:=by exact Jb):PT X (.Compare a [op,Bj] [b,c] pos) (K1 (yp r r' ta tb tc)):=by intro WO s σ H Q I h;refine isTrue_chain (bN (ha WO s σ H _ I h) fun v s1 ⟨x,H1,I1,r1,q1⟩=>test_link (bN (hb WO s1 σ H1 _ I1 q1) fun u s2 ⟨y,H2,I2,r2,q2⟩=>bN (ho WO s2 σ H2 x y v u _ I2 r1 r2 q2) fun d s3 ⟨z,H3,I3,r3,k,e,q3⟩=>?_)) hm;subst e;cases r3;refine G6 ?_;cases k with|false=>obtain⟨k',e',q'⟩:=q3;cases e';exact ite_ff ⟨H3,I3,q'⟩|true=>refine ite_tt (test_last (bN (hc WO s3 σ H3 _ I3 q3) fun w' s4 ⟨z',H4,I4,r4,q4⟩=>bN (xu WO s4 σ H4 y z' u w' _ I4 r2 r4 q4) fun d' s5 ⟨z2,H5,I5,r5,k2,e2,q5⟩=>?_));subst e2;cases r5;exact G6 ⟨H5,I5,q5⟩
theorem pH:(sizeLine:Nat)<2 ^ 63:=by rw[Lq];decide
theorem vals1(r:Vals [x] us):∃u,us=[u]/\RelV x u:=by cases r with|cons r1 r2=>cases r2;exact⟨_,rfl,r1⟩
theorem vals2(r:Vals [x,y] us):∃u w',us=[u,w']/\RelV x u/\RelV y w':=by cases r with|cons r1 r2=>cases r2 with|cons r3 r4=>cases r4;exact⟨_,_,rfl,r1,r3⟩
theorem kf(hc:X.calm=true):eI X (.builtin "max") (fun xs H Q=>∃i j,xs=[.int i,.int j]/\Q (.int (if j > i then j else i)) H):=by intro WO s σ H xs us Q I r h;obtain⟨i,j,rfl,q⟩:=h;obtain⟨u,w',rfl,⟨t,rfl⟩,⟨t',rfl⟩⟩:=vals2 r;refine max_two_ints (I.ok.hd hc) fun h' tk k=>⟨_,H,I.kept k,?_,q⟩;by_cases hj:j > i;rw[WL hj,WL hj];exact⟨_,rfl⟩;rw[S8 hj,S8 hj];exact⟨_,rfl⟩
theorem AI(hc:X.calm=true):eI X (.builtin "min") (fun xs H Q=>∃i j,xs=[.int i,.int j]/\Q (.int (if j<i then j else i)) H):=by intro WO s σ H xs us Q I r h;obtain⟨i,j,rfl,q⟩:=h;obtain⟨u,w',rfl,⟨t,rfl⟩,⟨t',rfl⟩⟩:=vals2 r;refine min_two_ints (I.ok.hd hc) fun h' tk k=>⟨_,H,I.kept k,?_,q⟩;by_cases hj:j<i;rw[WL hj,WL hj];exact⟨_,rfl⟩;rw[S8 hj,S8 hj];exact⟨_,rfl⟩
end
structure wX(h:Heap)(x dx C:Addr)(mA:Str->O8):Prop where
 obj:h.get? x=some (W.instObj C dx)
 ns:h.Ns1 dx mA
 ne:dx≠x
theorem A4{h:Heap}{dx:Addr}{mA:Str->O8}(n:h.Ns1 dx mA):∃od,h.get? dx=some od/\∀name,W.lookIn name od=some (mA name):=by
 obtain⟨o,es,ep,ho,hd,hk,_,hm⟩:=n;refine⟨o,ho,fun name=>?_⟩;have e:=hm name;unfold nsFind findBy at e;rw[<-Array.find?_toList] at e;unfold W.lookIn;rw[hd];dsimp only;split;rename_i y q;rw[q] at e;exact congrArg some e;rename_i q;rw[q] at e;have a:es.toList.any (·.refKey)=false:=by rw[List.any_eq_false];intro y hy;obtain⟨z,t,Ma⟩:=hk y (Array.mem_toList_iff.mp hy);simp[DictEntry.refKey,Ma]
 have a':¬es.toList.any (·.refKey)=true:=by rw[a];exact Qw
 rw[S8 a'];exact congrArg some e
theorem wX.look(I:wX h x dx C mA):∃od,W.InstAt h x (W.instObj C dx) C (some od)/\∀name,W.lookIn name od=some (mA name):=
 let ⟨od,ho,hl⟩:=A4 I.ns
 ⟨od,⟨I.obj,rfl,rfl,ho⟩,hl⟩
section
variable{prog:Program}{w:World}{A:Around}{E:TF}{s:Shared}{K:W.Frag}{x dx C f:Addr}{mA:Str->O8}{name:Str}{v:Value}
theorem get_map(X:K.In s.heap)(I:wX s.heap x dx C mA)(hg:W.plainGet K C name=true)(hh:W.hasDictIn K C=true)
  (ha:W.findIn K (.ref C) name=some none) (hv:mA name=some v) (Kx:W.handedIn v=true) (h:Q v {s with toks:=s.toks+1}) :
  wpAny (model prog w) A (getAttr (.ref x) name expr) Q E s:=by
 obtain⟨od,J,hl⟩:=I.look;exact W.get_value X J (W.plainGet_of hg).1 (W.findObj_own hh ha rfl (by rw[hl,hv])) Kx h
theorem Dv(X:K.In s.heap)(I:wX s.heap x dx C mA)(hg:W.plainGet K C name=true)
  (hf:W.findIn K (.ref C) name=some (some (.ref f))) (ht:W.isFn K (.ref f)=true) (hv:mA name=none) (h:Q (.ref f,[.ref x]) s) :
  wpAny (model prog w) A (getMethod (.ref x) name pl) Q E s:=by
 obtain⟨od,J,hl⟩:=I.look;exact W.method_fn X J (W.plainGet_of hg).1 (W.plainGet_of hg).2 hf (beq_iff_eq.mp ht) (by show (W.lookIn name od).map (·.isSome)=some false;rw[hl,hv];rfl) h
theorem Jo(X:K.In s.heap)(I:wX s.heap x dx C mA)
  (hs:W.findIn K (.ref C) "__setattr__" = some (some (.builtin "object.__setattr__"))) (hp:W.plainOver K C=true) (ht:W.takerIn K C name=some none) (hh:W.hasDictIn K C=true)
  (hw:PySem.Within mA ns) (hsz:ns.length<=sizeLine)
  (h:∀h',wX h' x dx C (fun y=>if y=name then some v else mA y)->Heap.SameBut dx s.heap h'->Q () {s with heap:=h',toks:=s.toks+2}) :
  wpAny (model prog w) A (setAttr (.ref x) name v) Q E s:=by
 obtain⟨od,J,hl⟩:=I.look;refine W.set_plain X J hs (W.osa_open (s:={s with toks:=s.toks+1}) (r:=none) X J hp ht fun b=>?_);obtain⟨cd,hc,QN⟩:=W.any_some hh;have hx:s.heap.get? x=some ⟨.ref C,some dx,.plain,#[]⟩:=I.obj;refine X0 (Wt (X0 (X0 (wpAny_loadPart hx (X0 (W.Looks.here (s:={s with toks:=s.toks+1}) (W.looks_clsIn X hc) ?_))))));rw[QN];refine Wt (a:=some dx) (X0 (Wt (X0 ?_)));refine wpAny_nsSet1 (s:={s with toks:=s.toks+1}) I.ns fun h' T8 nQ=>?_;obtain⟨oD,esD,epD,Y8,YS,YO⟩:=T8.count (PySem.Within.cons name v hw);refine X0 (wpAny_lookBehind Y8 (by rw[YS];exact pastItsLine_dict (RC YO (by rw[NN];omega))) ?_);exact Wt (h _ ⟨(nQ.2 _ (UH I.ne)).trans I.obj,T8,I.ne⟩ nQ)
theorem vC(X:K.In s.heap)(hm:W.makesIn K C=true)
  (hi:W.findIn K (.ref C) "__init__" = some (some (.ref f))) (hf:W.typeIn K (.ref f)=some (.type "function"))
  (h:codeAny (model prog w) (A.under (.builtin "type.__call__" ⟨.ref C::vs,kw⟩)) (.call (.ref f) ⟨.ref (s.heap.objs.size+1)::vs,kw⟩) (W.InitBack (s.heap.objs.size+1) R) {s with heap:=(s.heap.push W.emptyDict).push (W.instObj C s.heap.objs.size)}) :
  codeAny (model prog w) A (.call (.ref C) ⟨vs,kw⟩) R s:=by
 obtain⟨hh,g,d,t,os⟩:=s;exact W.make_core (W.makes_of X hm) (W.looks_findIn X hi) (fun self=>W.bind_fn X self hf) (.inl rfl) h
end
noncomputable def eZ(f:Str)(v:V):List (Str×V)->List (Str×V)|[]=>[(f,v)]| (g,x)::r=>if g=f then(g,v)::r else(g,x)::eZ f v r
theorem nA(f g:Str)(v:V):∀fs:List (Str×V),(eZ f v fs).lookup g=if g=f then some v else fs.lookup g|[]=>by show List.lookup g [(f,v)]=_;by_cases h:g=f;have hb:(g == f)=true:=beq_iff_eq.mpr h;simp only[List.lookup,hb,if_pos h];have hb:(g == f)=false:=beq_eq_false_iff_ne.mpr h;simp only[List.lookup,hb,if_neg h]| (k,x)::r=>by have ih:=nA f g v r;rw[show eZ f v ((k,x)::r)=(if k=f then(k,v)::r else(k,x)::eZ f v r) from rfl];by_cases hk:k=f;rw[WL hk];by_cases h:g=k;have hb:(g == k)=true:=beq_iff_eq.mpr h;simp only[List.lookup,hb,if_pos (h.trans hk)];have hb:(g == k)=false:=beq_eq_false_iff_ne.mpr h;simp only[List.lookup,hb,if_neg (fun e:g=f=>h (e.trans hk.symm))];rw[S8 hk];by_cases h:g=k;have hb:(g == k)=true:=beq_iff_eq.mpr h;simp only[List.lookup,hb,if_neg (fun e:g=f=>hk (h.symm.trans e))];have hb:(g == k)=false:=beq_eq_false_iff_ne.mpr h;simp only[List.lookup,hb];exact ih
theorem mK(f:Str)(v:V):∀fs:List (Str×V),f∈(eZ f v fs).map (·.1)/\∀g,g∈fs.map (·.1)->g∈(eZ f v fs).map (·.1)|[]=>⟨by simp[eZ],fun g h=>by simp at h⟩| (k,x)::r=>by obtain⟨i1,i2⟩:=mK f v r;rw[show eZ f v ((k,x)::r)=(if k=f then(k,v)::r else(k,x)::eZ f v r) from rfl];by_cases hk:k=f;rw[WL hk];subst hk;exact⟨O3,fun g h=>by simpa using h⟩;rw[S8 hk];refine⟨?_,fun g h=>?_⟩;rw[Pj];exact X1 _ i1;rw[Pj] at h ⊢;rcases List.mem_cons.mp h with e|e;exact List.mem_cons.mpr (.inl e);exact X1 _ (i2 g e)
theorem ny(f:Str)(v:V):∀fs:List (Str×V),(eZ f v fs).length<=fs.length+1|[]=>by simp[eZ]| (k,x)::r=>by have ih:=ny f v r;rw[show eZ f v ((k,x)::r)=(if k=f then(k,v)::r else(k,x)::eZ f v r) from rfl];by_cases hk:k=f;rw[WL hk,NN,NN];omega;rw[S8 hk,NN,NN];omega
theorem lA.some_of(r:lA (some v) o):∃u,o=some u/\RelV v u:=by cases o with|none=>exact(show False from r).elim|some u=>exact⟨u,rfl,r⟩
theorem lA.none_of(r:lA none o):o=none:=by cases o with|none=>rfl|some u=>exact(show False from r).elim
theorem AO(r:RelV v u):W.handedIn u=true:=by cases v with|bB=>cases (show u=Value.none from r);rfl|bl b=>cases (show u=Value.bool b from r);rfl|int i=>obtain⟨t,e⟩:=(show ∃t,u=Value.int i t from r);cases e;rfl|str x=>obtain⟨t,e⟩:=(show ∃t,u=Value.str x t from r);cases e;rfl|TB b=>obtain⟨t,e⟩:=(show ∃t,u=Value.bytes b t from r);cases e;rfl|TR b=>obtain⟨t,e⟩:=(show ∃t,u=Value.float b t from r);cases e;rfl|ref a=>cases (show u=Value.ref a from r);rfl|ty n=>cases (show u=Value.type n from r);rfl
section
variable{P:Program}{w:World}{H H':Hp}{h h':Heap}{a C dx:Addr}{fs Yy:List (Str×V)}
theorem sP(cm:nJ P w H h)(e:H a=some (.ins C dx fs)):∃mA,wX h a dx C mA/\(∀f,lA (fs.lookup f) (mA f))/\PySem.Within mA (fs.map (·.1))/\fs.length<=1000/\H dx=some (.own a):=by obtain⟨d,z,ne,ob,mA,n,r,q⟩:=(show dD P w H h a (.ins C dx fs) from cm a _ e);exact⟨mA,⟨ob,n,ne⟩,r,q,z,d⟩
end
structure wK(K:W.Frag)(C:Addr):Prop where
 pg:W.plainGet K C Str.empty=true
 hd:W.hasDictIn K C=true
 po:W.plainOver K C=true
 sa:W.findIn K (.ref C) "__setattr__" = some (some (.builtin "object.__setattr__"))
theorem wK.get{K:W.Frag}{C:Addr}(c:wK K C)(f:Str):W.plainGet K C f=true:=c.pg
def ie(K:W.Frag)(C:Addr)(f:Str):Prop:=W.findIn K (.ref C) f=some none
theorem ie.S7{K:W.Frag}{C:Addr}{f:Str}(n:ie K C f):W.takerIn K C f=some none:=by unfold W.takerIn;rw[show W.findIn K (.ref C) f=some none from n];rfl
structure Meth(K:W.Frag)(C:Addr)(m:Str)(f:Addr):Prop where
 at_:W.findIn K (.ref C) m=some (some (.ref f))
 fn:W.isFn K (.ref f)=true
 kp:W.keepIn K (.ref f)=true
section
variable{X:Cx}{WO:Ul}{σ:St}{H:Hp}{s:Shared}{a C dx:Addr}{fs:List (Str×V)}{f:Str}{v:V}{A:Around}{E:TF}
theorem Q1w(I:Inv X WO σ H s)(e:H a=some (.ins C dx fs))(c:wK X.K C)(n:ie X.K C f)(l:fs.lookup f=some v)(h:∀u s',Inv X WO σ H s'->RelV v u->Q u s'):wpAny (model X.prog X.w) A (getAttr (.ref a) f b) Q E s:=by obtain⟨mA,O,r,_,_,_⟩:=sP I.cm e;obtain⟨u,hu,ru⟩:=lA.some_of (v:=v) (o:=mA f) (by rw[<-l];exact r f);exact get_map I.kD O (c.get f) c.hd n hu (AO ru) (h u _ (I.tok _) ru)
theorem k6(I:Inv X WO σ H s)(e:H a=some (.ins C dx fs))(c:wK X.K C)(k:Meth X.K C m g)(l:fs.lookup m=none)(h:Q (.ref g,[.ref a]) s):wpAny (model X.prog X.w) A (getMethod (.ref a) m pl) Q E s:=by obtain⟨mA,O,r,_,_,_⟩:=sP I.cm e;have hn:mA m=none:=lA.none_of (by rw[<-l];exact r m);exact Dv I.kD O (c.get m) k.at_ k.fn hn h
theorem yk(I:Inv X WO σ H s)(e:H a=some (.ins C dx fs))(c:wK X.K C)(n:ie X.K C f)(hl:fs.length<1000)(ry:RelV y u)(h:∀s',Inv X WO σ (upd H a (.ins C dx (eZ f y fs))) s'->Q () s'):wpAny (model X.prog X.w) A (setAttr (.ref a) f u) Q E s:=by
 obtain⟨mA,O,r,wi,_,ho⟩:=sP I.cm e;have hz:(fs.map (·.1)).length<=sizeLine:=by rw[xN,Lq];omega
 refine Jo I.kD O c.sa c.po n.S7 c.hd wi hz fun h' O' sb=>h _ ?_;have hd:∃o,h'.get? dx=some o:=let ⟨o,_,_,e',_⟩:=O'.ns;⟨o,e'⟩;refine I.write (x:=a) (e:=dx) (by rw[e];exact True.intro) (.inr ho) (fun b q hb z=>(sb.2 b hb).trans z) hd ?_;refine⟨by rw[aF O.ne];exact ho,?_,O.ne,O'.obj,_,O'.ns,fun g=>?_,fun g hg=>?_⟩;have:=ny f y fs;omega;show lA ((eZ f y fs).lookup g) (if g=f then some u else mA g);rw[nA];by_cases q:g=f;rw[WL q,WL q];exact ry;rw[S8 q,S8 q];exact r g;by_cases q:g=f;rw[q];exact(mK f y fs).1;refine(mK f y fs).2 g (wi g fun z=>hg ?_);show (if g=f then some u else mA g)=none;rw[S8 q];exact z
theorem Inv.made(I:Inv X WO σ H s):Inv X WO σ (upd (upd H s.heap.objs.size (.own (s.heap.objs.size+1))) (s.heap.objs.size+1) (.ins C s.heap.objs.size [])) {s with heap:=(s.heap.push W.emptyDict).push (W.instObj C s.heap.objs.size)}:=by
 have e1:(s.heap.push W.emptyDict).get? s.heap.objs.size=some W.emptyDict:=Rv s.heap rfl;have e2:((s.heap.push W.emptyDict).push (W.instObj C s.heap.objs.size)).get? (s.heap.objs.size+1)=some (W.instObj C s.heap.objs.size):=by have:=Rv (s.heap.push W.emptyDict) (o:=W.instObj C s.heap.objs.size) rfl;rwa [sA] at this
 have e3:(s.heap.push W.emptyDict).Ns s.heap.objs.size (fun _=>none):=⟨W.emptyDict,#[],_,e1,rfl,(fun e he=>absurd he O3),fun _=>rfl⟩;have I1:=I.laid (a:=s.heap.objs.size) (o:=.own (s.heap.objs.size+1)) (h':=s.heap.push W.emptyDict) (t':=s.toks) (fun b u q=>RN _ q) (Gm _) ⟨_,e1⟩;refine I1.laid (a:=s.heap.objs.size+1) (o:=.ins C s.heap.objs.size []) (t':=s.toks) (fun b u q=>RN _ q) (Nat.le_of_eq (sA _ _)) ?_;have ne:s.heap.objs.size≠s.heap.objs.size+1:=Wi (FG _);refine⟨by rw[aF ne,aB],Xq _,ne,e2,fun _=>none,(Heap.Ns1.of_empty e3).at fun o q=>RN _ q,fun _=>True.intro,fun y hy=>absurd rfl hy⟩
theorem GF(hb:attributeBase e f env (eval e env)=eval e env)(h:wpAny (model prog w) A (eval e env) (fun o bA=>wpAny (model prog w) A (getAttr o f true) Q E bA) E s):wpAny (model prog w) A (eval (.Attribute e f pos) env) Q E s:=
 Attribute_any_ h (by rw[arm_eval_Attribute,hb])
end
noncomputable def Fw(K:W.Frag)(ta:TE)(f:Str):TE:=fun σ H Q=>ta σ H fun x H1=>∃a C dx fs v,x=.ref a/\H1 a=some (.ins C dx fs)/\wK K C/\ie K C f/\fs.lookup f=some v/\Q v H1
def Fg(K:W.Frag)(ta tv:TE)(f:Str):TS:=fun D σ H=>tv σ H fun y H1=>ta σ H1 fun x H2=>∃a C dx fs,x=.ref a/\H2 a=some (.ins C dx fs)/\wK K C/\ie K C f/\fs.length<1000/\D.nx σ (upd H2 a (.ins C dx (eZ f y fs)))
section
variable{X:Cx}{o e value:Expr}{f:Str}{pos UA nZ:Pos}{ta tv:TE}
theorem tI(he:PE X e ta)(hb:attributeBase e f X.env (eval e X.env)=eval e X.env):PE X (.Attribute e f pos) (Fw X.K ta f):=by intro WO s σ H Q I h;refine GF hb (bN (he WO s σ H _ I h) fun u s1 zz=>?_);obtain⟨x,H1,I1,rx,a,C,dx,fs,v,ex,ea,c,n,l,q⟩:=zz;subst ex;obtain rfl:u=Value.ref a:=rx;exact Q1w I1 ea c n l fun u' s2 I2 ru=>⟨v,H1,I2,ru,q⟩
theorem pY(ha:PE X o ta)(hv:PE X value tv)(hs:swapsWith value (some (.Attribute o f UA)) pos.line X.env=pure false):PS X (.Assign [.Attribute o f UA] value pos) (Fg X.K ta tv f):=by intro WO s σ H D I h;refine plainObj_wpAny_Assign_Attribute (bN (hv WO s σ H _ I h) fun u s1 ⟨y,H1,I1,ry,q⟩=>bN (ha WO s1 σ H1 _ I1 q) fun ov s2 zz=>?_) hs;obtain⟨x,H2,I2,rx,a,C,dx,fs,ex,ea,c,n,l,q2⟩:=zz;subst ex;obtain rfl:ov=Value.ref a:=rx;exact yk I2 ea c n l ry fun s3 I3=>⟨σ,_,I3,q2⟩
theorem Q2d{pl:Sem Bool}{m:Str}{Pn:Pos}{args:KJ}{WO:Ul}{s:Shared}{σ:St}{H:Hp}{Q:TF}{te:TE}(he:PE X e te)(I:Inv X WO σ H s)
  (h:te σ H fun x H1=>∃a C dx fs g,x=.ref a/\H1 a=some (.ins C dx fs)/\wK X.K C/\Meth X.K C m g/\fs.lookup m=none/\∀s1,Inv X WO σ H1 s1->wpAny (model X.prog X.w) X.A (callWith pos (.ref g) [.ref a] (backTo pos (starEach args X.env)) (backToKw pos (keywordEach [] X.env))) Q X.xe s1)
  (ht:eval (.Call (.Attribute e m Pn) args [] pos) X.env=(do
   let ov <-eval e X.env
   standAt Pn.atName
   let (f,first) <-holding [ov] (getMethod ov m pl)
   callWith pos f first (backTo pos (starEach args X.env)) (backToKw pos (keywordEach [] X.env)))) :
  wpAny (model X.prog X.w) X.A (eval (.Call (.Attribute e m Pn) args [] pos) X.env) Q X.xe s:=by
 refine W.methodCall_KW (pl:=pl) (bN (he WO s σ H _ I h) fun u s1 ⟨x,H1,I1,rx,a,C,dx,fs,g,ex,ea,c,k,l,q⟩=>?_) ht;subst ex;obtain rfl:u=Value.ref a:=rx;exact k6 I1 ea c k l (q s1 I1)
end
structure bY(k:Nat)(A:Around):Prop where
 hd:A.handled=none
 dp:A.depth+3*k+5<recursionLimit
 un:A.units+16*k+200<cLine
theorem bY.mono(r:bY k A)(h:j<=k):bY j A:=⟨r.hd,by have:=r.dp;omega,by have:=r.un;omega⟩
theorem bY.deeper(r:bY (k+1) A)(env:Env):bY k (A.deeper env):=⟨r.hd,by have:=r.dp;show A.depth+1+3*k+5<_;omega,by have:=r.un;show A.units+3+16*k+200<_;omega⟩
theorem bY.in1(r:bY (k+1) A):bY k A.in1:=⟨r.hd,by have:=r.dp;show A.depth+3*k+5<_;omega,by have:=r.un;show A.units+1+16*k+200<_;omega⟩
theorem xM{A:Around}{C:Addr}{us:We}{kw:List (Str×Value)}:(A.under (.builtin "type.__call__" ⟨.ref C::us,kw⟩)).depth=A.depth+1:=by first|rfl|simp[Around.under,Code.weight,Code.isCreation,Code.isGuard,Code.isCaller,Code.frames,Code.isFrame,guardIds]
theorem Q0l{A:Around}{C:Addr}{us:We}{kw:List (Str×Value)}:(A.under (.builtin "type.__call__" ⟨.ref C::us,kw⟩)).units=A.units+1:=by first|rfl|simp[Around.under,Code.cUnits,Code.frames,Code.isFrame]
theorem bY.make(r:bY (k+1) A)(C:Addr)(us:We)(kw:List (Str×Value)):bY k (A.under (.builtin "type.__call__" ⟨.ref C::us,kw⟩)):=⟨r.hd,by have:=r.dp;rw[xM];omega,by have:=r.un;rw[Q0l];omega⟩
theorem bY.depth(r:bY k A):A.depth<recursionLimit:=by have:=r.dp;omega
theorem bY.units(r:bY k A):A.units+64<cLine:=by have:=r.un;omega
noncomputable def OD:TA:=fun _ H Q=>Q [] H
noncomputable def Fv(ta:TE)(tr:TA):TA:=fun σ H Q=>ta σ H fun x H1=>tr σ H1 fun xs H2=>Q (x::xs) H2
section
variable{X:Cx}{e:Expr}{es:KJ}{te:TE}{t:TA}{pos:Pos}
theorem cY:PA X [] OD:=fun _ _ _ _ H Q I h=>Nb ⟨[],H,I,.nil,h⟩
theorem bC(ha:PE X e te)(hr:PA X es t)(hs:autoParam (starEach (e::es) X.env=(false,eval e X.env)::starEach es X.env) AuP.a._autoParam):PA X (e::es) (Fv te t):=by intro pos WO s σ H Q I h;rw[hs];show wpAny _ _ (spliced ((false,eval e X.env)::backTo pos (starEach es X.env))) _ _ s;refine Calls.spliced_cons (bN (ha WO s σ H _ I h) fun u s1 ⟨x,H1,I1,r1,q1⟩=>?_);exact bN (hr pos WO s1 σ H1 _ I1 q1) fun us s2 ⟨xs,H2,I2,r2,q2⟩=>⟨x::xs,H2,I2,.cons r1 r2,q2⟩
def WK(t:TA):TE:=fun σ H Q=>t σ H fun xs H1=>xs.length<=sizeLine/\∀p,H1 p=none->Q (.ref p) (upd H1 p (.tup xs))
def S0(t:TA):TE:=fun σ H Q=>t σ H fun xs H1=>xs.length<=sizeLine/\∀p,H1 p=none->Q (.ref p) (upd H1 p (.lst xs))
theorem x4{x1}(h:PA X es t):PE X (.Tuple es x1 pos) (WK t):=by intro WO s σ H Q I hq;refine wpAny_Tuple_spliced (bN (h pos WO s σ H _ I hq) fun us s1 ⟨xs,H1,I1,r,z,q⟩=>⟨by rw[<-r.length];exact z,?_⟩);have hf:H1 s1.heap.objs.size=none:=I1.cm.fresh (Gm _);refine⟨.ref s1.heap.objs.size,upd H1 s1.heap.objs.size (.tup xs),I1.laid (t':=s1.toks) (fun b u e=>RN _ e) (Gm _) ?_,rfl,q _ hf⟩;exact⟨z,us,r,⟨_,Rv _ rfl,rfl,⟨_,rfl⟩,rfl⟩⟩
theorem EO(h:PA X es t):PE X (.List es pos) (S0 t):=by intro WO s σ H Q I hq;refine wpAny_List_spliced (bN (h pos WO s σ H _ I hq) fun us s1 ⟨xs,H1,I1,r,z,q⟩=>⟨by rw[<-r.length];exact z,?_⟩);have hf:H1 s1.heap.objs.size=none:=I1.cm.fresh (Gm _);refine⟨.ref s1.heap.objs.size,upd H1 s1.heap.objs.size (.lst xs),I1.laid (t':=s1.toks) (fun b u e=>RN _ e) (Gm _) ?_,rfl,q _ hf⟩;exact⟨z,us,0,r,Rv _ rfl⟩
end
abbrev Sp:=List V->Hp->VK->XK->Prop
abbrev wJ:=List Env->Hp->Shared->XK->Value->Shared->Prop
structure qm(P:Program)(w:World)(K:W.Frag)(mg:Str->O8)(base:Heap)(A:Around)(outer:List Env)(s:Shared)(H:Hp):Prop where
 frames:A.frames=some outer
 mod:Mod K mg base
 bs:∀b o,base.get? b=some o->s.heap.get? b=some o/\H b=none
 Gb:base.objs.size<=s.heap.objs.size
 mE:s.heap.FunFrames base outer
 Kf:∀b∈Dm outer,H b=none
 cm:nJ P w H s.heap
 bare:AllBare s.gens
def CE(outer:List Env)(P:Program)(w:World)(H:Hp)(s:Shared)(Q:VK)(u:Value)(s':Shared):Prop:=∃v H',s'.os=s.os/\AllBare s'.gens/\Un (Dm outer) [] H H' s.heap s'.heap/\nJ P w H' s'.heap/\RelV v u/\Q v H'
def CR(CX:wJ)(outer:List Env)(P:Program)(w:World)(H:Hp)(s:Shared)(Q:VK)(E:XK)(r:Result)(s':Shared):Prop:=match r with|.ok (.ret u)=>CE outer P w H s Q u s'|.ok _=>False|.error e=>CX outer H s E e s'
structure cj(P:Program)(w:World)(K:W.Frag)(mg:Str->O8)(base:Heap)(CX:wJ)(k:Nat)(f:Addr)(fd:FuncData)(ps:Ut)(sp:Sp):Prop where
 len:∀vs H Q E,sp vs H Q E->vs.length=ps.length
 run:∀(A:Around)(outer:List Env)(s:Shared)(H:Hp)(args:Args)(us:We)(vs:Pk)(Q:VK)(E:XK),bY k A->qm P w K mg base A outer s H->BindsTo s fd args (ps.zip us)->Vals vs us->sp vs H Q E->codeAny (model P w) A (.call (.ref f) args) (CR CX outer P w H s Q E) s
theorem cj.imp{P:Program}{w:World}{K:W.Frag}{mg:Str->O8}{base:Heap}{CX:wJ}{k:Nat}{f:Addr}{fd:FuncData}{ps:Ut}{sp Yh:Sp}(F:cj P w K mg base CX k f fd ps sp)(h:∀vs H Q E,Yh vs H Q E->sp vs H Q E):cj P w K mg base CX k f fd ps Yh:=
 ⟨fun vs H Q E q=>F.len vs H Q E (h _ _ _ _ q),fun A outer s H args us vs Q E hr he hb hv hs=>F.run A outer s H args us vs Q E hr he hb hv (h _ _ _ _ hs)⟩
theorem qm.make{P:Program}{w:World}{K:W.Frag}{mg:Str->O8}{base:Heap}{A:Around}{outer:List Env}{s:Shared}{H:Hp}(e:qm P w K mg base A outer s H)(C:Addr)(us:We)(kw:List (Str×Value)) : qm P w K mg base (A.under (.builtin "type.__call__" ⟨.ref C::us,kw⟩)) outer s H:=⟨by first|exact e.frames|(simpa[Around.under,Code.envs,Code.isFrame,pushEnvs] using e.frames),e.mod,e.bs,e.Gb,e.mE,e.Kf,e.cm,e.bare⟩
theorem qm.in1{P:Program}{w:World}{K:W.Frag}{mg:Str->O8}{base:Heap}{A:Around}{outer:List Env}{s:Shared}{H:Hp}(e:qm P w K mg base A outer s H) : qm P w K mg base A.in1 outer s H:=⟨e.frames,e.mod,e.bs,e.Gb,e.mE,e.Kf,e.cm,e.bare⟩
section
variable{X:Cx}{WO:Ul}{σ:St}{H:Hp}{s s':Shared}
theorem Inv.GQ(I:Inv X WO σ H s):qm X.prog X.w X.K X.mg X.base X.A X.stack s H:=⟨I.ok.frames,I.ok.mod,I.bs,RC I.ok.Gb I.sz,I.stack,I.Aj,I.cm,I.bare⟩
theorem Inv.after(I:Inv X WO σ H s)(h:CE X.stack X.prog X.w H s Q u s'):EP X WO σ Q u s':=by obtain⟨v,H',os,bare,un,cm,r,q⟩:=h;obtain⟨hh,g,d,t,ZL⟩:=s';obtain rfl:ZL=s.os:=os;exact⟨v,H',I.call (h':=hh) (g':=g) (d':=d) (t':=t) (ch:=[]) un cm bare (fun b z=>absurd z O3),r,q⟩
end
noncomputable def SX(sp:Sp)(sD:Pk)(E:XK)(t:TA):TE:=fun σ H Q=>t σ H fun vs H1=>sp (vs++sD) H1 Q E
noncomputable def S4(C:Addr)(m:Str)(sp:Sp)(sD:Pk)(E:XK)(ta:TE)(t:TA):TE:=fun σ H Q=>ta σ H fun x H1=>∃a dx fs,x=.ref a/\H1 a=some (.ins C dx fs)/\fs.lookup m=none/\t σ H1 fun vs H2=>sp (x::(vs++sD)) H2 Q E
def KZ(C:Addr)(sp:Sp)(sD:Pk)(E:XK)(t:TA):TE:=fun σ H Q=>t σ H fun vs H1=>∀x dx,H1 x=none->H1 dx=none->dx≠x->sp (.ref x::(vs++sD)) (upd (upd H1 dx (.own x)) x (.ins C dx [])) (fun v H2=>v=.bB/\Q (.ref x) H2) E
def Binds(K:W.Frag)(fd:FuncData)(ps:Ut)(ds:We):Prop:=∀(s:Shared)(us:We),K.In s.heap->(us++ds).length=ps.length->BindsTo s fd ⟨us,[]⟩ (ps.zip (us++ds))
theorem Binds.all{K:W.Frag}{fd:FuncData}{ps:Ut}(h:∀us:We,us.length=ps.length->bindArgs fd ⟨us,[]⟩=pure (ps.zip us)):Binds K fd ps []:=fun s us _ hl=>by rw[Il] at hl ⊢;exact .of_eq (h us hl)
def Passes(CX:wJ)(X:Cx)(E:XK):Prop:=∀(WO:Ul)(σ:St)(H:Hp)(s:Shared)(e:Value)(s':Shared),Inv X WO σ H s->CX X.stack H s E e s'->X.xe e s'
section
variable{X:Cx}{CX:wJ}{k:Nat}{f C:Addr}{fd:FuncData}{ps:Ut}{sp:Sp}{sD:Pk}{ds:We}{E:XK}{x m:Str}{p pos Pn:Pos}{e o:Expr}{es:KJ}{ta:TE}{t:TA}
theorem Fd{WO:Ul}{σ:St}{H:Hp}{s:Shared}{Q:VK}{us:We}{vs:Pk}(F:cj X.prog X.w X.K X.mg X.base CX k f fd ps sp)(hr:bY k X.A)(hb:Binds X.K fd ps ds)(hd:Vals sD ds)(hx:Passes CX X E)(I:Inv X WO σ H s) (r:Vals vs us) (h:sp (vs++sD) H Q E):wpAny (model X.prog X.w) X.A (call (.ref f) us) (EP X WO σ Q) X.xe s:=by
 have r2:Vals (vs++sD) (us++ds):=r.append hd;have hl:(us++ds).length=ps.length:=by rw[<-r2.length];exact F.len _ _ _ _ h
 refine wpAny_call (xo (F.run X.A X.stack s H ⟨us,[]⟩ (us++ds) (vs++sD) Q E hr I.GQ (hb s us I.kD hl) r2 h) fun r s' hq=>?_);cases r with|error e=>exact hx WO σ H s e s' I hq|ok fl=>cases fl with|ret u=>exact I.after hq|next=>exact False.elim hq|brk=>exact False.elim hq|cont=>exact False.elim hq
theorem Iv(F:cj X.prog X.w X.K X.mg X.base CX k f fd ps sp)(hr:bY k X.A)(hg:Gl X x)(hm:X.mg x=some (.ref f))(hk:W.keepIn X.K (.ref f)=true)(hb:Binds X.K fd ps ds)(hd:Vals sD ds)(hx:Passes CX X E)
  (ha:PA X (e::es) t) (jH:autoParam (Qu x) AuP.b._autoParam) (he:autoParam (starEach (e::es) X.env=(false,eval e X.env)::starEach es X.env) AuP.a._autoParam) (iX:autoParam ((backTo pos (starEach es X.env)).any (·.1)=false) AuP.a._autoParam) :
  PE X (.Call (.Name x p) (e::es) [] pos) (SX sp sD E t):=by
 intro WO s σ H Q I h;refine Ju (km I hg hm ?_ jH);refine Bg (h₀:=X.base) I.ok.mod.Hv hk (bN (ha pos WO s σ H _ I h) fun us s1 ⟨vs,H1,I1,r,q⟩=>⟨I1.kD,?_⟩) he iX;exact Fd F hr hb hd hx I1 r q
theorem oy{pl:Sem Bool}(he:PE X o ta)(c:wK X.K C)(hm:Meth X.K C m f)(F:cj X.prog X.w X.K X.mg X.base CX k f fd ps sp)(hr:bY k X.A)(hb:Binds X.K fd ps ds)(hd:Vals sD ds)(hx:Passes CX X E)(ha:PA X (e::es) t)
  (hU:autoParam (starEach (e::es) X.env=(false,eval e X.env)::starEach es X.env) AuP.a._autoParam) (iX:autoParam ((backTo pos (starEach es X.env)).any (·.1)=false) AuP.a._autoParam)
  (ht:autoParam (eval (.Call (.Attribute o m Pn) (e::es) [] pos) X.env=(do
   let ov <-eval o X.env
   standAt Pn.atName
   let (f,first) <-holding [ov] (getMethod ov m pl)
   callWith pos f first (backTo pos (starEach (e::es) X.env)) (backToKw pos (keywordEach [] X.env)))) AuP.a._autoParam) :
  PE X (.Call (.Attribute o m Pn) (e::es) [] pos) (S4 C m sp sD E ta t):=by
 intro WO s σ H Q I h;refine W.methodCall_KW (pl:=pl) (bN (he WO s σ H _ I h) fun u s1 zz=>?_) ht;obtain⟨x,H1,I1,rx,a,dx,fs,ex,ea,l,q⟩:=zz;subst ex;obtain rfl:u=Value.ref a:=rx;refine k6 I1 ea c hm l ?_;refine Bg (first:=[.ref a]) (h₀:=X.base) I.ok.mod.Hv hm.kp (bN (ha pos WO s1 σ H1 _ I1 q) fun us s2 ⟨vs,H2,I2,r,q2⟩=>⟨I2.kD,?_⟩) hU iX;exact Fd (us:=.ref a::us) (vs:=.ref a::vs) F hr hb hd hx I2 (.cons rfl r) q2
structure Mk(K:W.Frag)(C f:Addr):Prop where
 makes:W.makesIn K C=true
 init:W.findIn K (.ref C) "__init__" = some (some (.ref f))
 fn:W.isFn K (.ref f)=true
 kp:W.keepIn K (.ref C)=true
theorem Fe{WO:Ul}{σ:St}{H:Hp}{s:Shared}{Q:VK}{us:We}{vs:Pk}(M:Mk X.K C f)(F:cj X.prog X.w X.K X.mg X.base CX k f fd ps sp)(hr:bY (k+1) X.A)(hb:Binds X.K fd ps ds)(hd:Vals sD ds)
  (hx:Passes CX X E) (I:Inv X WO σ H s) (r:Vals vs us)
  (h:∀x dx,H x=none->H dx=none->dx≠x->sp (.ref x::(vs++sD)) (upd (upd H dx (.own x)) x (.ins C dx [])) (fun v H2=>v=.bB/\Q (.ref x) H2) E) :
  wpAny (model X.prog X.w) X.A (call (.ref C) us) (EP X WO σ Q) X.xe s:=by
 have hq:=h (s.heap.objs.size+1) s.heap.objs.size (I.cm.fresh (Bf _)) (I.cm.fresh (Gm _)) (Wi (FG _));have I2:=Inv.made (C:=C) I;have r2:Vals (V.ref (s.heap.objs.size+1)::(vs++sD)) (Value.ref (s.heap.objs.size+1)::(us++ds)):=.cons rfl (r.append hd);have hl:(Value.ref (s.heap.objs.size+1)::us++ds).length=ps.length:=by have e:=r2.length;rw[F.len _ _ _ _ hq] at e;exact e.symm
 refine wpAny_call (vC (f:=f) I.kD M.makes M.init (beq_iff_eq.mp M.fn) (xo (F.run _ X.stack _ _ ⟨Value.ref (s.heap.objs.size+1)::us,[]⟩ (Value.ref (s.heap.objs.size+1)::(us++ds)) _ _ E (hr.make C us []) (I2.GQ.make C us []) (hb _ (Value.ref (s.heap.objs.size+1)::us) I2.kD hl) r2 hq) fun r s' uw=>?_));cases r with|error e=>exact hx WO σ _ _ e s' I2 uw|ok fl=>cases fl with|ret u=>obtain⟨v,H',I3,rv,ev,q3⟩:=I2.after uw;subst ev;exact⟨rv,⟨V.ref (s.heap.objs.size+1),H',I3,rfl,q3⟩⟩|next=>exact False.elim uw|brk=>exact False.elim uw|cont=>exact False.elim uw
theorem Iy(M:Mk X.K C f)(F:cj X.prog X.w X.K X.mg X.base CX k f fd ps sp)(hr:bY (k+1) X.A)(hg:Gl X x)(hm:X.mg x=some (.ref C))(hb:Binds X.K fd ps ds)(hd:Vals sD ds)(hx:Passes CX X E)
  (ha:PA X (e::es) t) (jH:autoParam (Qu x) AuP.b._autoParam) (he:autoParam (starEach (e::es) X.env=(false,eval e X.env)::starEach es X.env) AuP.a._autoParam) (iX:autoParam ((backTo pos (starEach es X.env)).any (·.1)=false) AuP.a._autoParam) :
  PE X (.Call (.Name x p) (e::es) [] pos) (KZ C sp sD E t):=by
 intro WO s σ H Q I h;refine Ju (km I hg hm ?_ jH);refine Bg (h₀:=X.base) I.ok.mod.Hv M.kp (bN (ha pos WO s σ H _ I h) fun us s1 ⟨vs,H1,I1,r,q⟩=>⟨I1.kD,?_⟩) he iX;exact Fe M F hr hb hd hx I1 r q
end
structure c7(N P:Ut)(sc:Scope):Prop where
 kind:sc.kind=.function
 co:sc.isCoroutine=false
 gen:sc.isGenerator=false
 nd:N.Nodup
 pre:N.take P.length=P
 par:∀x∈P,sc.names.lookup x=some .local\/sc.names.lookup x=some .cell
 MR:∀y∈sc.names,y.2≠.free
theorem qM{kindOf:Str->Option NameKind}{x:Str}:∀{binds:List (Str×Value)}{m:Str->O8},(∀v,(x,v)∉binds)->bindL kindOf binds m x=m x
|[],_,_=>rfl| (n,v)::r,m,h=>by
 unfold bindL;rw[qM fun w hw=>h w (X1 _ hw)];split;have:x≠n:=by rintro rfl;exact h v Rn
 simp[this];rfl
theorem qK{kindOf:Str->Option NameKind}{x:Str}:∀{binds:List (Str×Value)}{m:Str->O8},(∀v,(x,v)∉binds)->bindC kindOf binds m x=m x
|[],_,_=>rfl| (n,v)::r,m,h=>by
 unfold bindC;rw[qK fun w hw=>h w (X1 _ hw)];split;rfl;have:x≠n:=by rintro rfl;exact h v Rn
 simp[this]
theorem qL{kindOf:Str->Option NameKind}{x:Str}{v:Value}:∀{P:Ut}{vs:We}{i:Nat}{m:Str->O8},P.Nodup->P[i]?=some x->vs[i]?=some v->kindOf x=some .local->bindL kindOf (P.zip vs) m x=some v
|[],_,_,_,_,h,_,_=>by simp at h|_::_,[],_,_,_,_,h,_=>by simp at h|p::P,w::vs,0,m,nd,h1,h2,hk=>by simp at h1 h2;subst h1;subst h2;show bindL kindOf ((p,w)::P.zip vs) m p=_;unfold bindL;rw[qM fun v hv=>(List.nodup_cons.mp nd).1 (Bh hv).1,WL hk];simp|p::P,w::vs,i+1,m,nd,h1,h2,hk=>by show bindL kindOf ((p,w)::P.zip vs) m x=_;unfold bindL;exact qL (i:=i) (List.nodup_cons.mp nd).2 (by simpa using h1) (by simpa using h2) hk
theorem qJ{kindOf:Str->Option NameKind}{x:Str}{v:Value}:∀{P:Ut}{vs:We}{i:Nat}{m:Str->O8},P.Nodup->P[i]?=some x->vs[i]?=some v->kindOf x≠some .local->bindC kindOf (P.zip vs) m x=some v
|[],_,_,_,_,h,_,_=>by simp at h|_::_,[],_,_,_,_,h,_=>by simp at h|p::P,w::vs,0,m,nd,h1,h2,hk=>by simp at h1 h2;subst h1;subst h2;show bindC kindOf ((p,w)::P.zip vs) m p=_;unfold bindC;rw[qK fun v hv=>(List.nodup_cons.mp nd).1 (Bh hv).1,S8 hk];simp|p::P,w::vs,i+1,m,nd,h1,h2,hk=>by show bindC kindOf ((p,w)::P.zip vs) m x=_;unfold bindC;exact qJ (i:=i) (List.nodup_cons.mp nd).2 (by simpa using h1) (by simpa using h2) hk
noncomputable def start(N:Ut)(vs:Pk):St:=vs.map some++List.replicate (N.length-vs.length) none
noncomputable def oR(CX:wJ)(P:Program)(w:World)(K:W.Frag)(mg:Str->O8)(base:Heap)(N:Ut)(TU:Str)(scope:Scope)(f:Addr)(cd:Value)(A:Around)(outer:List Env)(s:Shared)(H:Hp)(E:XK):Cx where
 prog:=P
 w:=w
 K:=K
 mg:=mg
 base:=base
 A:=A.deeper (envOfC TU scope s.heap.objs.size f cd)
 N:=N
 s₀:=s
 H₀:=H
 env:=envOfC TU scope s.heap.objs.size f cd
 outer:=outer
 stack:=envOfC TU scope s.heap.objs.size f cd::outer
 ex:=[]
 calm:=true
 fn:=fun _=>true
 pn:=[]
 xe:=fun e s'=>wpAny (model P w) (A.deeper (envOfC TU scope s.heap.objs.size f cd)) (leaving (envOfC TU scope s.heap.objs.size f cd) e) (fun _ Gp=>CX outer H s E e Gp) (fun e' Gp=>CX outer H s E e' Gp) s'
theorem uP{sc:Scope}{n:Nat}{x:Str}(h:sc.names.lookup x=some .cell):∃c,(cellsFrom n sc.names []).lookup x=some c:=by have q:=W.cellsFrom_some sc.names n [] (.inl h);exact Option.isSome_iff_exists.mp q
theorem AY{CX:wJ}{P:Program}{w:World}{K:W.Frag}{mg:Str->O8}{base:Heap}{N ps:Ut}{TU:Str}{scope:Scope}{f:Addr}{cd:Value}{A:Around}{outer:List Env}{s s1:Shared}{H:Hp}{E:XK}{us:We}{vs:Pk}
  (S:c7 N ps scope) (hd:A.handled=none) (e0:qm P w K mg base A outer s H) (hl:vs.length=ps.length) (r:Vals vs us)
  (x:InCallC s s.heap.objs.size (bindL (envOfC TU scope s.heap.objs.size f cd).kindOf (ps.zip us) fun _=>none) (cellsFrom (s.heap.objs.size+1) scope.names []) (bindC (envOfC TU scope s.heap.objs.size f cd).kindOf (ps.zip us) fun _=>none) s1) :
  Inv (oR CX P w K mg base N TU scope f cd A outer s H E) [] (start N vs) H s1:=by
 have iX:ps.length<=N.length:=by have:=congrArg List.length S.pre;rw[xh] at this;omega
 obtain⟨h1,tk,rfl,hk⟩:=x.done;have noA:∀b:Addr,b∉(oR CX P w K mg base N TU scope f cd A outer s H E).ex:=fun b z=>absurd (show b∈([]:RE) from z) O3;refine⟨⟨e0.mod,S.kind,rfl,rfl,Gm _,fun y z c h1 h2=>?_,fun y hy=>?_,fun y c _ h=>?_,fun _=>hd,Around.frames_deeper e0.frames,.inr ⟨rfl,rfl⟩,fun b z=>absurd z (noA b),e0.bs,e0.Gb,fun b _ _=>noA b,fun b z=>absurd z (noA b),e0.mE,e0.Kf⟩,rfl,e0.bare,Un.kept hk,⟨_,x.toInCall.ns,fun i y v h1 h2 h3=>?_⟩,fun y c h=>⟨_,x.cell y c h⟩,e0.cm.fresh (Gm _),fun y c h=>?_,fun p hp=>absurd (show p∈([]:Ul) from hp) O3,e0.cm.kept hk,?_⟩;exact name_of_addr x.apart (JA h1) (JA h2);have hy:scope.names.lookup y=some .cell\/scope.names.lookup y=some .free:=hy;rcases hy with hy|hy;exact uP hy;exact absurd rfl (S.MR _ (JA hy));exact Nat.le_of_lt (x.above y c (JA h));have hi:i<vs.length:=by unfold start at h2;by_cases hi:i<vs.length;exact hi;rw[sW (by simpa using hi)] at h2;rw[wd] at h2;split at h2<;>cases h2
 have ha:vs[i]?=some v:=by unfold start at h2;rw[Sg (by simpa using hi),CW] at h2;cases e:vs[i]? with|none=>rw[e] at h2;cases h2|some a=>rw[e] at h2;cases h2;rfl
 obtain⟨u,hu,rv⟩:=r.get ha;have hp:ps[i]?=some y:=by rw[<-S.pre,Ox Ux];exact h1
 have X5:ps.Nodup:=by rw[<-S.pre];exact S.nd.sublist (List.take_sublist _ _)
 refine⟨u,rv,?_⟩;rcases S.par y (TQ hp) with k|k;exact .inl ⟨k,qL X5 hp hu k⟩;obtain⟨c,e⟩:=uP (n:=s.heap.objs.size+1) k;refine .inr ⟨.inl k,c,e,?_⟩;have q:=x.cell y c e;rw[qJ X5 hp hu (by show scope.names.lookup y≠_;rw[k];decide)] at q;exact q;exact e0.cm.fresh (Nat.le_of_lt (x.above y c (JA h)));unfold start;show _=N.length;rw[IL,xN,List.length_replicate];omega
theorem Qo{CX:wJ}{P:Program}{w:World}{K:W.Frag}{mg:Str->O8}{base:Heap}{k:Nat}{f:Addr}{name TU:Str}{params:Arguments}{body:List Stmt}{scope:Scope}{dV kV doc pm gV ct oc:Value}{an od:ZF}
  {Im:Array (Option Value)} {N ps:Ut} {sp:Sp} (lk:K.lookup f=some ⟨oc,od,.func (W.fnOf name TU params body scope dV kV doc pm an gV ct),Im⟩) (gp:W.codeIn K gV TU=true) (S:c7 N ps scope)
  (len:∀vs H Q E,sp vs H Q E->vs.length=ps.length)
  (jT:∀(A:Around)(outer:List Env)(s:Shared)(H:Hp)(vs:Pk)(Q:VK)(E:XK),bY k (A.deeper (envOfC TU scope s.heap.objs.size f gV))->sp vs H Q E->∃t,rX (oR CX P w K mg base N TU scope f gV A outer s H E) body t/\t {nx:=fun _ H'=>Q .bB H',rt:=Q} (start N vs) H) :
  cj P w K mg base CX (k+1) f (W.fnOf name TU params body scope dV kV doc pm an gV ct) ps sp:=by
 refine⟨len,fun A outer s H args us vs Q E hr e0 hb r Ku=>?_⟩;have hl:=len _ _ _ _ Ku;have KX:K.In s.heap:=e0.mod.Hv.keeps fun b o e=>(e0.bs b o e).1;have lim:s.heap.NoLimit:=e0.mod.nolimit.keeps fun b o e=>(e0.bs b o e).1;have QY:∀y∈ps.zip us,scope.names.lookup y.1=some .local\/(scope.names.lookup y.1=some .cell/\((cellsFrom (s.heap.objs.size+1) scope.names []).lookup y.1).isSome=true):=fun ⟨n,v⟩ hy=>by
  rcases S.par n (Bh hy).1 with q|q
  ·exact .inl q
  ·exact .inr ⟨q,W.cellsFrom_some _ _ _ (.inl q)⟩
 refine codeAny_call_function hr.depth (KX _ _ lk) rfl S.co S.gen rfl (W.codeRec_of KX gp) (hb _ _ _ _ ?_);refine wpAny_newFunctionEnv_cells S.kind QY fun env he s1 x=>?_;subst he;refine⟨lim.keeps x.toInCall.keep,codeAny_func ?_⟩;obtain⟨t,ht,hq⟩:=jT A outer s H vs Q E (hr.deeper _) Ku;have I:Inv (oR CX P w K mg base N TU scope f gV A outer s H E) [] (start N vs) H s1:=AY S hr.hd e0 hl r x;refine LD (ht [] s1 (start N vs) H _ I hq) (fun fl s' hs=>?_) fun e s' hs=>hs;have fin:∀{bf:St}{H':Hp}{v:V}{u:Value},Inv (oR CX P w K mg base N TU scope f gV A outer s H E) [] bf H' s'->RelV v u->Q v H'->CE outer P w H s Q u s':=fun {bf H' v u} J rv q=>⟨v,H',J.os,J.bare,J.base,J.cm,rv,q⟩;cases fl with|ret u=>obtain⟨v,bf,H',J,rv,q⟩:=hs;exact fin J rv q|next=>obtain⟨bf,H',J,q⟩:=hs;exact fin (v:=V.bB) (u:=Value.none) J rfl q|brk=>obtain⟨_,_,_,q⟩:=hs;exact False.elim q|cont=>obtain⟨_,_,_,q⟩:=hs;exact False.elim q
section
variable{X:Cx}{x:Str}{p pos:Pos}{e:Expr}{es:KJ}{t:TA}{id T:String}{r:Pk->Hp->VK->Prop}
noncomputable def WG(r:Pk->Hp->VK->Prop)(t:TA):TE:=fun σ H Q=>t σ H fun vs H1=>r vs H1 Q
theorem iQ(hc:eI X (.builtin id) r)(hg:Gl X x)(hm:X.mg x=none)(hv:bootBuiltins x=some (.builtin id))(ha:PA X (e::es) t)(hn:autoParam (x≠"__name__") AuP.b._autoParam)(jH:autoParam (Qu x) AuP.b._autoParam)(he:autoParam (starEach (e::es) X.env=(false,eval e X.env)::starEach es X.env) AuP.a._autoParam) (iX:autoParam ((backTo pos (starEach es X.env)).any (·.1)=false) AuP.a._autoParam):PE X (.Call (.Name x p) (e::es) [] pos) (WG r t):=by intro WO s σ H Q I h;refine Ju (iq I hg hm hv ?_ hn jH);exact PyProof.Rows.callWith_builtin1 (bN (ha pos WO s σ H _ I h) fun us s1 ⟨vs,H1,I1,r1,q1⟩=>hc WO s1 σ H1 vs us Q I1 r1 q1) he iX
theorem mU(hc:eI X (.type T) r)(hg:Gl X x)(hm:X.mg x=none)(hv:bootBuiltins x=some (.type T))(ha:PA X (e::es) t)(hn:autoParam (x≠"__name__") AuP.b._autoParam)(jH:autoParam (Qu x) AuP.b._autoParam)(he:autoParam (starEach (e::es) X.env=(false,eval e X.env)::starEach es X.env) AuP.a._autoParam) (iX:autoParam ((backTo pos (starEach es X.env)).any (·.1)=false) AuP.a._autoParam):PE X (.Call (.Name x p) (e::es) [] pos) (WG r t):=by intro WO s σ H Q I h;refine Ju (iq I hg hm hv ?_ hn jH);exact JC (bN (ha pos WO s σ H _ I h) fun us s1 ⟨vs,H1,I1,r1,q1⟩=>hc WO s1 σ H1 vs us Q I1 r1 q1) he iX
end
end L2
namespace HT
open PySem PyProof.Rows
section
variable{prog:Program}{w:World}{A:Around}{E:TF}{s:Shared}
theorem GJ(ht:IsTup s.heap t vs.toArray)(hb:IsTup s.heap b ws.toArray)(hv:vs≠[])
  (h1:ws=[]->Q (.ref t) s) (h2:ws≠[]->Q (.ref s.heap.objs.size) {s with heap:=s.heap.push {cls:=.type "tuple",data:=.seq (vs++ws).toArray}})
  (hsz:vs.length+ws.length<=sizeLine):wpAny (model prog w) A (binaryOp .Add (.ref t) (.ref b)) Q E s:=by
 obtain⟨⟨cls,dd,data,sl⟩,ho,hc,n,hd⟩:=id ht;obtain⟨⟨U3,TJ,data2,Pp⟩,Mb,AQ,n2,hd2⟩:=id hb;simp only at hc hd AQ hd2;subst hc hd AQ hd2;have e:vs.toArray++ws.toArray=(vs++ws).toArray:=O3;by_cases hw:ws=[];exact concat_meets ⟨_,ho,rfl⟩ ⟨_,Mb,rfl⟩ noFill_tuple_add seq_tuple_add Ji LX (NT _ _) (tuple_addW1 t b vs.toArray ws.toArray n n2 dd TJ sl Pp (by simpa using hv) (by simp[hw])) ⟨ho,Mb,h1 hw⟩;refine concat_meets ⟨_,ho,rfl⟩ ⟨_,Mb,rfl⟩ noFill_tuple_add seq_tuple_add Ji LX (NT _ _) (tuple_addW2 t b vs.toArray ws.toArray n n2 dd TJ sl Pp (by simpa using hv) (by simpa using hw) (by rw[Uh,Uh];exact hsz)) ⟨ho,Mb,?_⟩;rw[e];exact h2 hw
def cR(n d:Nat):XY->Nat|none=>d|some v=>if v<0 then(v+(n:Int)).toNat else min v.toNat n
theorem v8(n d:Nat):cR n d none=d:=rfl
theorem Ag(n d k:Nat):cR n d (some (k:Int))=min k n:=by show (if (k:Int)<0 then((k:Int)+(n:Int)).toNat else min (k:Int).toNat n)=min k n;rw[S8 Ux,ZJ]
theorem Og(n d:Nat)(hd:d<=n)(o:XY):cR n d o<=n:=by cases o with|none=>exact hd|some v=>show (if v<0 then(v+(n:Int)).toNat else min v.toNat n)<=n;by_cases hv:v<0;rw[WL hv];omega;rw[S8 hv];exact Nat.min_le_right _ _
theorem yS(v:Int)(n d:Nat):(if v<0 then max (v+(n:Int)) 0 else min v (n:Int))=((cR n d (some v):Nat):Int):=by show (if v<0 then max (v+(n:Int)) 0 else min v (n:Int))=(((if v<0 then(v+(n:Int)).toNat else min v.toNat n):Nat):Int);by_cases hv:v<0;simp only[if_pos hv];omega;simp only[if_neg hv];omega
theorem w8(lo hi:XY)(n:Nat):Builtin.Slice.sliceAdjust lo hi 1 (n:Int)=(((cR n 0 lo:Nat):Int),((cR n n hi:Nat):Int)):=by
 have h1:¬((1:Int)<0):=Ux;unfold Builtin.Slice.sliceAdjust;simp only[h1,if_false];refine Prod.ext ?_ ?_;cases lo with|none=>rfl|some v=>exact yS v n 0
 cases hi with|none=>rfl|some v=>exact yS v n n
theorem x5(i j:Nat):Builtin.Slice.slicePlaces (i:Int) (j:Int) 1=j-i:=by unfold Builtin.Slice.slicePlaces;have h1:(1:Int) > 0:=Ux;simp only[h1,if_true,Int.ediv_one];split<;>omega
theorem qc(p:IsPart v o)(h:Q o s):wpAny (model prog w) A (Builtin.Slice.slicePartIndex v) Q E s:=by cases p with|none=>exact slicePart_none h|int i t=>exact slicePart_int h
theorem iU{sl:Addr}{vl vu:Value}{lo hi:XY}{n:Nat}{Q:Int×Int×Nat->Shared->Prop}(hs:s.heap.IsSliceOf sl vl vu .none)(pl:IsPart vl lo)(pu:IsPart vu hi)(h:Q (((cR n 0 lo:Nat):Int),1,cR n n hi-cR n 0 lo) s):wpAny (model prog w) A (Builtin.Slice.sliceApplied (.ref sl) (pure (n:Int))) Q E s:=by obtain⟨os,Mf,L7,vj⟩:=id hs;unfold Builtin.Slice.sliceApplied Builtin.Slice.sliceFields;refine X0 (X0 (Xr Mf vj (x:=vl) rfl (X0 (Xr Mf vj (x:=vu) rfl (X0 (Xr Mf vj (x:=.none) rfl (Wt ?_)))))));refine X0 (slicePart_none ?_);show wpAny _ _ (if ((1:Int) == 0)=true then _ else _) _ _ s;rw[S8 (by decide)];refine X0 (qc pl (X0 (qc pu (X0 (Wt ?_)))));show wpAny _ _ (match Builtin.Slice.sliceAdjust lo hi 1 (n:Int) with|(lo,hi)=>pure (lo,(1:Int),Builtin.Slice.slicePlaces lo hi 1)) _ _ s;rw[w8 lo hi n];show wpAny _ _ (pure (((cR n 0 lo:Nat):Int),(1:Int),Builtin.Slice.slicePlaces ((cR n 0 lo:Nat):Int) ((cR n n hi:Nat):Int) 1)) _ _ s;rw[x5];exact Wt h
theorem Q0h(xs:Array Value)(i k:Nat):((List.range k).filterMap fun(m:Nat)=>xs[((i:Int)+(m:Int)*1).toNat]?).toArray=((xs.toList.drop i).take k).toArray:=by
 have e:(fun(m:Nat)=>xs[((i:Int)+(m:Int)*1).toNat]?)=fun m=>xs[i+m]?:=by funext m;have:((i:Int)+(m:Int)*1).toNat=i+m:=Ux;rw[this]
 rw[e];have:=pick_run xs i k;rw[List.filterMap_map] at this;have e2:((fun x=>xs[x]?)∘fun x=>i+x)=fun m=>xs[i+m]?:=rfl;rw[e2] at this;rw[this]
theorem lO{t sl:Addr}{items:Array Value}{vl vu:Value}{lo hi:XY}{Q:TF}(ht:IsTup s.heap t items)(hs:s.heap.IsSliceOf sl vl vu .none)(pl:IsPart vl lo)(pu:IsPart vu hi)
  (hw:¬(cR items.size 0 lo=0/\cR items.size items.size hi=items.size))
  (h:Q (.ref s.heap.objs.size) {s with heap:=s.heap.push {cls:=.type "tuple",data:=.seq ((items.toList.drop (cR items.size 0 lo)).take (cR items.size items.size hi-cR items.size 0 lo)).toArray}})
  (hsz:items.size<=sizeLine):wpAny (model prog w) A (getItem (.ref t) (.ref sl)) Q E s:=by
 have zF:sizeOk (.seq ((items.toList.drop (cR items.size 0 lo)).take (cR items.size items.size hi-cR items.size 0 lo)).toArray):=by show ((items.toList.drop (cR items.size 0 lo)).take (cR items.size items.size hi-cR items.size 0 lo)).toArray.size<=sizeLine;rw[Uh,xh,List.length_drop,Array.length_toList];omega
 have hj:cR items.size items.size hi<=items.size:=Og _ _ (Gm _) hi;obtain⟨os,Mf,L7,vj⟩:=id hs;have Vl:s.TypeIs (.ref sl) "slice" := ⟨os,Mf,L7⟩;unfold getItem;try with_reducible refine Eo ?_
 first|refine X0 (Wt ?_)|skip
 refine X0 (wpAny_sequenceKey ht.typeIs (by decide) ?_);refine X0 (Jt (name:=Str.ofString "__getitem__") ht.typeIs A3 (AJ A3 ht.typeIs entry_tuple_getitem ?_ (args_tuple_getitem _ _)));show wpAny _ _ (Builtin.Tuple.tupleItemsOf (.ref t) >>= _) _ _ s;refine X0 (tupleItemsOf_ ht ?_);refine X0 (DZ Vl ?_);rw[WL (by decide)];refine X0 (iU hs pl pu ?_);have Pf:¬((((cR items.size 0 lo:Nat):Int) == 0&&(1:Int) == 1&&(cR items.size items.size hi-cR items.size 0 lo) == items.size)=true):=by intro q;rw[ET,ET] at q;have q1:((cR items.size 0 lo:Nat):Int)=0:=eq_of_beq q.1.1;have q2:cR items.size items.size hi-cR items.size 0 lo=items.size:=eq_of_beq q.2;exact hw ⟨Ux,Ux⟩
 show wpAny _ _ (if (((cR items.size 0 lo:Nat):Int) == 0&&(1:Int) == 1&&(cR items.size items.size hi-cR items.size 0 lo) == items.size)=true then _ else _) _ _ s;rw[S8 Pf,Q0h];first|exact X0 (m:=Builtin.Tuple.tupleExact _) (NB (Wt ⟨_,rfl,Wt h⟩) zF)|exact X0 (m:=Builtin.Tuple.tupleExact _) (NB (X0 (Wt (Wt ⟨_,rfl,Wt h⟩))) zF)|exact X0 (X0 (m:=Builtin.Tuple.tupleExact _) (NB (Wt (Wt ⟨_,rfl,Wt h⟩)) zF))|exact X0 (X0 (m:=Builtin.Tuple.tupleExact _) (NB (Wt ⟨_,rfl,Wt h⟩) zF))
end
end HT
namespace L2
open PySem PySem.Spec PyProof.Rows
abbrev TO:=St->Hp->(Option Int->Hp->Prop)->Prop
def PO(X:Cx)(e:Option Expr)(t:TO):Prop:=∀(WO:Ul)(s:Shared)(σ:St)(H:Hp)(Q:XY->Hp->Prop),Inv X WO σ H s->t σ H Q->wpAny (model X.prog X.w) X.A (evalPart e X.env) (fun u s'=>∃o H',Inv X WO σ H' s'/\IsPart u o/\Q o H') X.xe s
noncomputable def Q19:TO:=fun _ H Q=>Q none H
noncomputable def S6(t:TE):TO:=fun σ H Q=>t σ H fun x H1=>∃i,x=.int i/\Q (some i) H1
theorem intsAre_of:∀{us:We},Vals (ns.map V.int) us->IntsAre us ns:=by induction ns with|nil=>intro us r;rw[List.map_nil] at r;cases r;exact .nil|cons n ns ih=>intro us r;rw[Pj] at r;cases r with|cons r1 r2=>obtain⟨t,e⟩:=r1;subst e;exact .cons n t (ih r2)
section
variable{X:Cx}{e:Expr}{te:TE}{lo hi:Option Expr}{tl th:TO}{pos p2:Pos}
theorem z6:PO X none Q19:=by intro WO s σ H Q I h;rw[evalPart_none];exact Wt ⟨none,H,I,.none,h⟩
theorem z7(h:PE X e te):PO X (some e) (S6 te):=by intro WO s σ H Q I hw;rw[evalPart_some];refine bN (h WO s σ H _ I hw) fun u s1 ⟨x,H1,I1,r1,q1⟩=>?_;obtain⟨i,rfl,q⟩:=q1;obtain⟨t,rfl⟩:=r1;exact⟨some i,H1,I1,.int i t,q⟩
def uB(X:Cx)(r:V->XY->XY->Hp->VK->Prop):Prop:=∀(WO:Ul)(s:Shared)(σ:St)(H:Hp)(x:V)(v vl vu:Value)(lo hi:XY)(sl:Addr)(Q:VK),Inv X WO σ H s->RelV x v->s.heap.IsSliceOf sl vl vu .none->IsPart vl lo->IsPart vu hi->r x lo hi H Q->∃T id,typeLookup (.type T) "__getitem__" = pure (some (.builtin id))/\s.TypeIs v T/\wpAny (model X.prog X.w) X.A (getItem v (.ref sl)) (EP X WO σ Q) X.xe s
theorem uB.or(h:uB X r)(h':uB X r'):uB X (fun x lo hi H Q=>r x lo hi H Q\/r' x lo hi H Q):=by intro WO s σ H x v vl vu lo hi sl Q I rx hs pl pu q;rcases q with q|q;exact h WO s σ H x v vl vu lo hi sl Q I rx hs pl pu q;exact h' WO s σ H x v vl vu lo hi sl Q I rx hs pl pu q
noncomputable def Z7(r:V->XY->XY->Hp->VK->Prop)(te:TE)(tl th:TO):TE:=fun σ H Q=>te σ H fun x H1=>tl σ H1 fun l H2=>th σ H2 fun u H3=>r x l u H3 Q
theorem vT(hr:uB X r)(he:PE X e te)(hl:PO X lo tl)(hu:PO X hi th):PE X (.Subscript e (.Slice lo hi none p2) pos) (Z7 r te tl th):=by intro WO s σ H Q I h;refine Subscript_ (bN (he WO s σ H _ I h) fun v s1 ⟨x,H1,I1,r1,q1⟩=>?_);refine wpAny_Slice (bN (hl WO s1 σ H1 _ I1 q1) fun vl s2 ⟨l,H2,I2,pl,q2⟩=>bN (hu WO s2 σ H2 _ I2 q2) fun vu s3 ⟨u,H3,I3,pu,q3⟩=>?_);rw[evalPart_none];refine Wt ?_;have I4:Inv X WO σ H3 {s3 with heap:=s3.heap.push {cls:=.type "slice",data:=.fields #[vl,vu,.none]}}:=I3.kept (t':=s3.toks) fun b ob q=>RN _ q;obtain⟨T,id,hT,ht,hg⟩:=hr WO {s3 with heap:=s3.heap.push {cls:=.type "slice",data:=.fields #[vl,vu,.none]}} σ H3 x v vl vu l u s3.heap.objs.size Q I4 r1 (Heap.IsSliceOf.new ..) pl pu q3;show wpAny (model X.prog X.w) X.A (subscriptTail e (.Slice lo hi none p2) v (.ref s3.heap.objs.size)) (EP X WO σ Q) X.xe {s3 with heap:=s3.heap.push {cls:=.type "slice",data:=.fields #[vl,vu,.none]}};exact tail_any (ops:=[.ref s3.heap.objs.size,v]) ht hT hg (by with_unfolding_all rfl)
noncomputable def k0(xs:Pk)(lo hi:XY):Pk:=(xs.drop (HT.cR xs.length 0 lo)).take (HT.cR xs.length xs.length hi-HT.cR xs.length 0 lo)
theorem jO(xs:Pk)(lo hi:XY):(k0 xs lo hi).length<=xs.length:=by unfold k0;rw[xh,List.length_drop];omega
def Q1e(K:W.Frag):V->XY->XY->Hp->VK->Prop:=fun x lo hi H Q=>∃a xs,x=.ref a/\dW K H a xs/\¬(HT.cR xs.length 0 lo=0/\HT.cR xs.length xs.length hi=xs.length)/\∀p,H p=none->Q (.ref p) (upd H p (.tup (k0 xs lo hi)))
theorem Ot:uB X (Q1e X.K):=by
 intro WO s σ H x v vl vu lo hi sl Q I rx hs pl pu h;obtain⟨a,xs,rfl,hx,hw,q⟩:=h;cases rx;obtain⟨aS,r,ht,hz⟩:=I.tuple hx;have V9:aS.toArray.size=xs.length:=by rw[Uh];exact r.length.symm
 refine⟨"tuple",_,PyProof.Rows.slot_tuple_getitem.lookup,ht.typeIs,?_⟩;refine HT.lO ht hs pl pu (by rw[V9];exact hw) ?_ (by rw[V9];exact hz);rw[V9];refine⟨.ref s.heap.objs.size,_,I.laid (t':=s.toks) (o:=.tup (k0 xs lo hi)) (fun b ob q=>RN _ q) (Gm _) ?_,rfl,q _ (I.cm.fresh (Gm _))⟩;exact⟨RC (jO xs lo hi) hz,_,(r.drop (HT.cR xs.length 0 lo)).take (HT.cR xs.length xs.length hi-HT.cR xs.length 0 lo),nM.new _ _⟩
def Su(K:W.Frag):R2:=fun x y H Q=>∃a b xs ys,x=.ref a/\y=.ref b/\dW K H a xs/\dW K H b ys/\xs≠[]/\xs.length+ys.length<=sizeLine/\(ys=[]->Q (.ref a) H)/\(ys≠[]->∀p,H p=none->Q (.ref p) (upd H p (.tup (xs++ys))))
theorem Vals.ox(r:Vals xs us):us=[]<->xs=[]:=by cases r with|nil=>simp|cons _ _=>simp
theorem Q1c:ij X (binaryOp .Add) (Su X.K):=by intro WO s σ H x y v u Q I rx ry h;obtain⟨a,b,xs,ys,rfl,rfl,ha,hb,hx,hz,q1,q2⟩:=h;cases rx;cases ry;obtain⟨aS,r1,p1,_⟩:=I.tuple ha;obtain⟨jI,r2,p2,_⟩:=I.tuple hb;refine HT.GJ p1 p2 (fun z=>hx (r1.ox.mp z)) (fun z=>⟨.ref a,H,I,rfl,q1 (r2.ox.mp z)⟩) (fun z=>?_) (by rw[<-r1.length,<-r2.length];exact hz);refine⟨.ref s.heap.objs.size,_,I.laid (t':=s.toks) (o:=.tup (xs++ys)) (fun b ob q=>RN _ q) (Gm _) ?_,rfl,q2 (fun w=>z (r2.ox.mpr w)) _ (I.cm.fresh (Gm _))⟩;exact⟨by rw[IL];exact hz,_,r1.append r2,nM.new _ _⟩
end
noncomputable def DV(n:Nat)(i:Int):Option Nat:=if 0<=i then(if i<n then some i.toNat else none) else if -(n:Int)<=i then some (i+n).toNat else none
def AE{α:Type}(xs:List α)(i:Int):Option α:=(DV xs.length i).bind fun j=>xs[j]?
theorem zL(h:DV n i=some j):seqIndex? i n=some j/\j<n/\-(n:Int)<=i/\i<n:=by unfold DV at h;by_cases h0:0<=i;rw[WL h0] at h;by_cases h1:i<n;rw[WL h1] at h;have e:i.toNat=j:=X6 h;exact⟨by rw[seqIndex_of h0 h1,e],Ux,Ux,h1⟩;rw[S8 h1] at h;cases h;rw[S8 h0] at h;by_cases h1:-(n:Int)<=i;rw[WL h1] at h;have e:(i+n).toNat=j:=X6 h;exact⟨by rw[seqIndex_neg Ux h1,e],Ux,h1,Ux⟩;rw[S8 h1] at h;cases h
theorem sr{α:Type}{xs:List α}{v:α}(h:AE xs i=some v):∃j,seqIndex? i xs.length=some j/\xs[j]?=some v/\j<xs.length/\-(xs.length:Int)<=i/\i<xs.length:=by unfold AE at h;cases e:DV xs.length i with|none=>rw[e] at h;cases h|some j=>rw[e] at h;obtain⟨h1,h2,h3,h4⟩:=zL e;exact⟨j,h1,h,h2,h3,h4⟩
theorem sx{α:Type}{xs:List α}{j:Nat}{v:α}(h:xs[j]?=some v):AE xs (j:Int)=some v:=by
 have hj:j<xs.length:=(List.getElem?_eq_some_iff.mp h).1;have e:DV xs.length (j:Int)=some j:=by unfold DV;rw[WL Ux,WL Ux];simp
 unfold AE;rw[e];exact h
def ly(b:Expr):Prop:=∀o i,subscripted b false o i=operate [o,i] (getItem o i)
def Gw(X:Cx)(r:R2):Prop:=∀(value slice:Expr)(WO:Ul)(s:Shared)(σ:St)(H:Hp)(x y:V)(v u:Value)(Q:VK),Inv X WO σ H s->RelV x v->RelV y u->r x y H Q->subscripted slice false v u=operate [v,u] (getItem v u)->wpAny (model X.prog X.w) X.A (subscriptTail value slice v u) (EP X WO σ Q) X.xe s
def UX(X:Cx)(id:String)(r:V->Pk->Hp->VK->Prop):Prop:=∀(WO:Ul)(s:Shared)(σ:St)(H:Hp)(x:V)(xs:Pk)(v:Value)(us:We)(Q:VK),Inv X WO σ H s->RelV x v->Vals xs us->r x xs H Q->wpAny (model X.prog X.w) X.A (call (.builtin id) (v::us)) (EP X WO σ Q) X.xe s
section
variable{X:Cx}{a b:Expr}{ta tb:TE}{pos:Pos}
theorem Gw.or(h:Gw X r)(h':Gw X r'):Gw X (fun x y H Q=>r x y H Q\/r' x y H Q):=by intro value slice WO s σ H x y v u Q I rx ry q hs;rcases q with q|q;exact h value slice WO s σ H x y v u Q I rx ry q hs;exact h' value slice WO s σ H x y v u Q I rx ry q hs
theorem vS(hr:Gw X r)(ha:PE X a ta)(hb:PE X b tb)(hs:ly b):PE X (.Subscript a b pos) (Jw r ta tb):=by intro WO s σ H Q I h;exact Subscript_ (Lr ha hb I h fun v u s2 x y H2 I2 rx ry q=>hr a b WO s2 σ H2 x y v u Q I2 rx ry q (hs _ _))
def Sw(K:W.Frag):R2:=fun x y H Q=>∃p xs i v,x=.ref p/\y=.int i/\cn K H p xs/\AE xs i=some v/\Q v H
def Sy(K:W.Frag):R2:=fun x y H Q=>∃p xs i v,x=.ref p/\y=.int i/\dW K H p xs/\AE xs i=some v/\Q v H
def Sx:R2:=fun x y H Q=>∃z i c,x=.str z/\y=.int i/\z.length<=sizeLine/\AE z.cps.toList i=some c/\Q (.str ⟨#[c]⟩) H
theorem Hq:Gw X (Sw X.K):=by
 intro value slice WO s σ H x y v u Q I rx ry h hs;obtain⟨p,xs,i,z,rfl,rfl,hq,he,q⟩:=h;cases rx;obtain⟨t,rfl⟩:=ry;obtain⟨aS,r,pl,hz⟩:=I.list hq;obtain⟨j,h1,h2,h3,h4,h5⟩:=sr he;obtain⟨w,ew,SH⟩:=r.get h2;have hl:=r.length;have hn:=pH;have fin:EP X WO σ Q w s:=⟨z,H,I,SH,q⟩;by_cases h0:0<=i;have hj:i.toNat=j:=by rw[seqIndex_of h0 h5] at h1;exact X6 h1
 exact item_listR pl.isList h0 Ux (by rw[hj];simpa using ew) fin hs;have hj:(i+(aS.toArray.size:Int)).toNat=j:=by rw[seqIndex_neg Ux h4] at h1;rw[Uh,<-hl];exact X6 h1
 exact subscriptTail_builtinR (x:=w) pl.isList.typeIs slot_list_getitem.lookup (wpAny_getItem_list_neg (Q:=fun r s'=>r=w/\EP X WO σ Q r s') pl.isList Ux (by rw[Uh]<;>omega) Ux (by rw[hj];simpa using ew) ⟨rfl,fin⟩) hs
theorem Q1S:Gw X (Sy X.K):=by intro value slice WO s σ H x y v u Q I rx ry h hs;obtain⟨p,xs,i,z,rfl,rfl,hq,he,q⟩:=h;cases rx;obtain⟨t,rfl⟩:=ry;obtain⟨aS,r,pl,hz⟩:=I.tuple hq;obtain⟨j,h1,h2,h3,h4,h5⟩:=sr he;obtain⟨w,ew,SH⟩:=r.get h2;have hl:=r.length;have hn:=pH;have fin:EP X WO σ Q w s:=⟨z,H,I,SH,q⟩;exact subscriptTail_builtinR (x:=w) pl.typeIs slot_tuple_getitem.lookup (getItem_tuple (j:=j) (Q:=fun r s'=>r=w/\EP X WO σ Q r s') pl Ux Ux (by rw[Uh,<-hl];exact h1) (by simpa using ew) ⟨rfl,fin⟩) hs
theorem Ms:Gw X Sx:=by
 intro value slice WO s σ H x y v u Q I rx ry h hs;obtain⟨z,i,c,rfl,rfl,hz,he,q⟩:=h;obtain⟨t,rfl⟩:=rx;obtain⟨t',rfl⟩:=ry;obtain⟨j,h1,h2,h3,h4,h5⟩:=sr he;have hl:z.cps.toList.length=z.length:=by simp[Str.length]
 rw[hl] at h1 h4 h5;have hn:=pH;exact tail_any (typeIs_str s z t) slot_str_getitem.lookup (getItem_str (c:=c) (by have e1:decide (i < -(2 ^ 63:Int))=false:=Uy Ux;have e2:decide (i>=2 ^ 63)=false:=Uy Ux;rw[e1,e2,Bool.or_false]) (by rw[h1];simpa using h2) ⟨.str ⟨#[c]⟩,H,I.tok _,⟨_,rfl⟩,q⟩) hs
def Wm(K:W.Frag):R2:=fun x y H Q=>Sw K x y H Q\/Sy K x y H Q\/Sx x y H Q
theorem pE:Gw X (Wm X.K):=Hq.or (Q1S.or Ms)
theorem Q1A(aS:We)(n j:Nat)(u:Value):Obj.mapSeq (·.setIfInBounds j u) {cls:=.type "list",data:=.seq aS.toArray n}={cls:=.type "list",data:=.seq (aS.set j u).toArray n}:=by simp[Obj.mapSeq]
theorem Inv.lst{WO:Ul}{σ:St}{H:Hp}{s:Shared}{p:Addr}{xs:Pk}(I:Inv X WO σ H s)(h:H p=some (.lst xs)) : ∃(aS:We)(n:Nat),Vals xs aS/\s.heap.get? p=some {cls:=.type "list",data:=.seq aS.toArray n}/\xs.length<=sizeLine:=by obtain⟨z,aS,n,r,e⟩:=I.cm p _ h;exact⟨aS,n,r,e,z⟩
theorem Inv.ME{WO:Ul}{σ:St}{H:Hp}{s:Shared}{p:Addr}{xs ys:Pk}{aS its':We}{n n':Nat}{f:Obj->Obj}(I:Inv X WO σ H s)(h:H p=some (.lst xs))
  (ho:s.heap.get? p=some {cls:=.type "list",data:=.seq aS.toArray n}) (hf:f {cls:=.type "list",data:=.seq aS.toArray n}={cls:=.type "list",data:=.seq its'.toArray n'}) (r:Vals ys its') (hz:ys.length<=sizeLine) (t:Nat) :
  Inv X WO σ (upd H p (.lst ys)) {s with heap:=s.heap.update p f,toks:=t}:=by
 have e:(s.heap.update p f).get? p=some {cls:=.type "list",data:=.seq its'.toArray n'}:=by rw[MP f ho (by rw[hf]<;>rfl),hf]
 refine I.write (x:=p) (e:=p) (by rw[h];trivial) (.inl rfl) (fun b u hb q=>(Yt _ _ (UH hb)).trans q) ⟨_,e⟩ ?_;exact⟨hz,its',n',r,e⟩
def Sz:V->V->V->Hp->(Hp->Prop)->Prop:=fun o i v H Q=>∃p xs k j,o=.ref p/\i=.int k/\H p=some (.lst xs)/\DV xs.length k=some j/\Q (upd H p (.lst (xs.set j v)))
theorem set_list:P0 X Sz:=by
 intro WO s σ H o i v ov iv u Q I ro ri rv h;obtain⟨p,xs,k,j,rfl,rfl,hp,hj,q⟩:=h;cases ro;obtain⟨t,rfl⟩:=ri;obtain⟨aS,n,r,ho,hz⟩:=I.lst hp;obtain⟨h1,h2,h3,h4⟩:=zL hj;have hl:=r.length;have hn:=pH;have I':Inv X WO σ (upd H p (.lst (xs.set j v))) {s with heap:=s.heap.update p (Obj.mapSeq (·.setIfInBounds j u))}:=I.ME hp ho (Q1A aS n j u) (r.set rv j) (by rw[List.length_set];exact hz) s.toks;by_cases h0:0<=k;have hk:k.toNat=j:=by rw[seqIndex_of h0 h4] at h1;exact X6 h1
 exact W.ki_setAt ho h0 Ux (by rw[Uh,<-hl];exact h4) (by rw[hk];exact⟨_,I',q⟩);have hk:(k+(aS.toArray.size:Int)).toNat=j:=by rw[seqIndex_neg Ux h3] at h1;rw[Uh,<-hl];exact X6 h1
 exact W.ki_setBack ho Ux (by rw[Uh,<-hl];exact h3) Ux (by rw[hk];exact⟨_,I',q⟩)
theorem tW(lo hi:XY)(n:Nat):(sliceBounds lo hi none n).1=((HT.cR n 0 lo:Nat):Int)/\(sliceBounds lo hi none n).2.1=((HT.cR n n hi:Nat):Int)/\(sliceBounds lo hi none n).2.2=1:=by
 refine⟨?_,?_,rfl⟩;cases lo with|none=>simp[sliceBounds,HT.cR]|some i=>simp only[sliceBounds,HT.cR,Option.getD_none,show (1:Int) > 0 by decide,if_true];by_cases h:i<0;simp only[h,if_true]<;>omega;simp only[h,if_false]<;>omega
 cases hi with|none=>simp[sliceBounds,HT.cR]|some i=>simp only[sliceBounds,HT.cR,Option.getD_none,show (1:Int) > 0 by decide,if_true];by_cases h:i<0;simp only[h,if_true]<;>omega;simp only[h,if_false]<;>omega
theorem qA(aS:We)(lo hi:XY):slicePick aS.toArray lo hi none=((aS.drop (HT.cR aS.length 0 lo)).take (HT.cR aS.length aS.length hi-HT.cR aS.length 0 lo)).toArray:=by obtain⟨h1,h2,h3⟩:=tW lo hi aS.toArray.size;unfold slicePick;rw[h1,h2,h3];simp only[sliceRange_one,pick_run,List.size_toArray]<;>rfl
def N7(K:W.Frag):V->XY->XY->Hp->VK->Prop:=fun x lo hi H Q=>∃a xs,x=.ref a/\cn K H a xs/\∀p,H p=none->Q (.ref p) (upd H p (.lst (k0 xs lo hi)))
theorem Q2s:uB X (N7 X.K):=by intro WO s σ H x v vl vu lo hi sl Q I rx hs pl pu h;obtain⟨a,xs,rfl,hx,q⟩:=h;cases rx;obtain⟨aS,r,ht,hz⟩:=I.list hx;have V9:=r.length;refine⟨"list",_,slot_list_getitem.lookup,ht.isList.typeIs,?_⟩;refine wpAny_getItem_list_slice ht.isList hs pl pu .none O3 ?_ (by rw[Uh]<;>omega);rw[qA,<-V9];refine⟨.ref s.heap.objs.size,_,I.laid (t':=s.toks) (o:=.lst (k0 xs lo hi)) (fun b ob q=>RN _ q) (Gm _) ?_,rfl,q _ (I.cm.fresh (Gm _))⟩;exact⟨RC (jO xs lo hi) hz,_,0,(r.drop (HT.cR xs.length 0 lo)).take (HT.cR xs.length xs.length hi-HT.cR xs.length 0 lo),Rv _ rfl⟩
noncomputable def kK:V->Bool|.bB=>true|.bl _=>true|.int _=>true|.str _=>true|_=>false
noncomputable def GS:V->V->Bool|.bB,.bB=>true|.bl a,.bl b=>a == b|.bl a,.int b=>(if a then 1 else 0) == b|.int a,.bl b=>a == (if b then 1 else 0)|.int a,.int b=>a == b|.str a,.str b=>a == b|_,_=>false
theorem LA(ry:RelV y u)(rx:RelV x v)(fy:kK y=true)(fx:kK x=true):SeqAt.EqAt A s u v (GS y x):=by
 cases y with
 |bB=>cases ry;cases x with|bB=>cases rx;exact SeqAt.EqAt.same _|bl b=>cases rx;exact SeqAt.EqAt.none_bool b|int b=>obtain⟨t,rfl⟩:=rx;exact SeqAt.EqAt.none_int b t|str b=>obtain⟨t,rfl⟩:=rx;exact SeqAt.EqAt.none_str b t|_=>exact absurd (show false=true from fx) Qw
 |bl a=>cases ry;cases x with|bB=>cases rx;exact SeqAt.EqAt.bool_none a|bl b=>cases rx;exact SeqAt.EqAt.bool_bool a b|int b=>obtain⟨t,rfl⟩:=rx;exact SeqAt.EqAt.bool_int a b t|str b=>obtain⟨t,rfl⟩:=rx;exact SeqAt.EqAt.bool_str a b t|_=>exact absurd (show false=true from fx) Qw
 |int a=>obtain⟨t',rfl⟩:=ry;cases x with|bB=>cases rx;exact SeqAt.EqAt.int_none a t'|bl b=>cases rx;exact SeqAt.EqAt.int_bool a t' b|int b=>obtain⟨t,rfl⟩:=rx;exact SeqAt.EqAt.int_int a t' b t|str b=>obtain⟨t,rfl⟩:=rx;exact SeqAt.EqAt.int_str a t' b t|_=>exact absurd (show false=true from fx) Qw
 |str a=>obtain⟨t',rfl⟩:=ry;cases x with|bB=>cases rx;exact SeqAt.EqAt.str_none a t'|bl b=>cases rx;exact SeqAt.EqAt.str_bool a t' b|int b=>obtain⟨t,rfl⟩:=rx;exact SeqAt.EqAt.str_int a t' b t|str b=>obtain⟨t,rfl⟩:=rx;exact SeqAt.EqAt.str_str a t' b t|_=>exact absurd (show false=true from fx) Qw
 |_=>exact absurd (show false=true from fy) Qw
def GR(x:V)(u:Value):Bool:=match u with|.none=>GS .bB x|.bool b=>GS (.bl b) x|.int i _=>GS (.int i) x|.str z _=>GS (.str z) x|_=>false
theorem C5(r:RelV y u)(f:kK y=true):GR x u=GS y x:=by cases y with|bB=>cases r;rfl|bl b=>cases r;rfl|int i=>obtain⟨t,rfl⟩:=r;rfl|str z=>obtain⟨t,rfl⟩:=r;rfl|_=>exact absurd (show false=true from f) Qw
theorem sj:∀{xs:Pk}{us:We},Vals xs us->xs.all kK=true->us.any (GR x)=xs.any fun y=>GS y x|_,_,.nil,_=>rfl|y::xs,u::us,.cons r t,f=>by rw[BI,ET] at f;rw[E1,E1,C5 r f.1,sj t f.2]
theorem pN(rx:RelV x v)(fx:kK x=true):∀{xs:Pk}{us:We},Vals xs us->xs.all kK=true->∀u∈us,SeqAt.EqAt A s u v (GR x u)|_,_,.nil,_=>fun u hu=>by cases hu|y::xs,u::us,.cons r t,f=>fun u' hu=>by rw[BI,ET] at f;rcases List.mem_cons.mp hu with rfl|hu;rw[C5 r f.1];exact LA r rx f.1 fx;exact pN rx fx t f.2 u' hu
def Ue(x:V)(xs:Pk):Bool:=xs.any fun y=>GS y x
def Yd(K:W.Frag)(neg:Bool):R2:=fun x y H Q=>∃p xs,y=.ref p/\(cn K H p xs\/dW K H p xs)/\kK x=true/\xs.all kK=true/\Q (.bl (if neg then !Ue x xs else Ue x xs)) H
theorem iP:ij X (compareOp .In) (Yd X.K false):=by intro WO s σ H x y v u Q I rx ry h;obtain⟨p,xs,rfl,hq,fx,fs,q⟩:=h;cases ry;rcases hq with hq|hq;obtain⟨aS,r,pl,hz⟩:=I.list hq;refine SeqAt.in_listAt (GR x) pl.isList (fun w hw=>pN rx fx r fs w (by simpa using hw)) ⟨.bl _,H,I,rfl,?_⟩;rw[show aS.toArray.any (GR x)=aS.any (GR x) by simp,sj r fs];exact q;obtain⟨aS,r,pl,hz⟩:=I.tuple hq;refine SeqAt.in_tupleAt (GR x) pl (fun w hw=>pN rx fx r fs w (by simpa using hw)) ⟨.bl _,H,I,rfl,?_⟩;rw[show aS.toArray.any (GR x)=aS.any (GR x) by simp,sj r fs];exact q
theorem sy:eI X (.builtin "len") (fun xs H Q=>∃p ys,xs=[.ref p]/\(cn X.K H p ys\/dW X.K H p ys)/\Q (.int ys.length) H):=by intro WO s σ H xs us Q I r h;obtain⟨p,ys,rfl,hq,q⟩:=h;obtain⟨u,rfl,rx⟩:=vals1 r;cases rx;have hn:=pH;rcases hq with hq|hq;obtain⟨aS,r',pl,hz⟩:=I.list hq;have V9:=r'.length;exact Calls.call_len_list pl.isList (by simp only[List.size_toArray]<;>omega) ⟨.int ys.length,H,I.tok _,⟨s.toks+1,by rw[Uh,V9]⟩,q⟩;obtain⟨aS,r',pl,hz⟩:=I.tuple hq;have V9:=r'.length;exact len_tuple pl (by simp only[List.size_toArray]<;>omega) ⟨.int ys.length,H,I.tok _,⟨s.toks+1,by rw[Uh,V9]⟩,q⟩
theorem Q1E:eI X (.type "list") (fun xs H Q=>∃p ys,xs=[.ref p]/\(cn X.K H p ys\/dW X.K H p ys)/\∀l,H l=none->Q (.ref l) (upd H l (.lst ys))):=by intro WO s σ H xs us Q I r h;obtain⟨p,ys,rfl,hq,q⟩:=h;obtain⟨u,rfl,rx⟩:=vals1 r;cases rx;have fin:∀(aS:We),Vals ys aS->ys.length<=sizeLine->∀(h':Heap)(c':Nat),(∀b o',s.heap.get? b=some o'->h'.get? b=some o')->h'.get? s.heap.objs.size=some {cls:=.type "list",dict:=none,data:=.seq aS.toArray c',slots:=#[]}->EP X WO σ Q (.ref s.heap.objs.size) {s with heap:=h'}:=fun aS r' hz h' c' kp e=>⟨.ref s.heap.objs.size,_,I.laid (t':=s.toks) kp (Gm _) (show dD X.prog X.w _ h' _ (.lst ys) from⟨hz,aS,c',r',e⟩),rfl,q _ (I.cm.fresh (Gm _))⟩;rcases hq with hq|hq;obtain⟨aS,r',pl,hz⟩:=I.list hq;have V9:=r'.length;obtain⟨o,ho,hc,n,hd⟩:=pl.isList;exact call_list_seq p (.inl rfl) ho hc hd (fun h' c' kp e=>fin aS r' hz h' c' kp e) (by simp only[List.size_toArray]<;>omega);obtain⟨aS,r',pl,hz⟩:=I.tuple hq;have V9:=r'.length;obtain⟨o,ho,hc,n,hd⟩:=pl;exact call_list_seq p (.inr rfl) ho hc hd (fun h' c' kp e=>fin aS r' hz h' c' kp e) (by simp only[List.size_toArray]<;>omega)
theorem qq:eI X (.type "tuple") (fun xs H Q=>∃p ys,xs=[.ref p]/\((cn X.K H p ys/\∀l,H l=none->Q (.ref l) (upd H l (.tup ys)))\/(dW X.K H p ys/\Q (.ref p) H))):=by
 intro WO s σ H xs us Q I r h;obtain⟨p,ys,rfl,h⟩:=h;obtain⟨u,rfl,rx⟩:=vals1 r;cases rx;rcases h with ⟨hq,q⟩|⟨hq,q⟩
 obtain⟨aS,r',pl,hz⟩:=I.list hq;have V9:=r'.length;refine call_tuple_list pl.isList (fun h' kp=>?_) (by simp only[List.size_toArray]<;>omega);have I1:Inv X WO σ H {s with heap:=h'}:=I.kept (t':=s.toks) kp;have I2:Inv X WO σ (upd H h'.objs.size (.tup ys)) {s with heap:=h'.push {cls:=.type "tuple",data:=.seq aS.toArray}}:=I1.laid (t':=s.toks) (fun b o e=>RN _ e) (Gm _) (show dD X.prog X.w _ _ _ (.tup ys) from⟨hz,aS,r',nM.new _ _⟩);exact⟨.ref h'.objs.size,_,I2,rfl,q _ (I1.cm.fresh (Gm _))⟩;obtain⟨aS,r',pl,hz⟩:=I.tuple hq;exact call_tuple_same pl ⟨.ref p,H,I,rfl,q⟩
def WN(K:W.Frag)(T:String)(x:V)(H:Hp):Prop:=match x with|.str _=>T="str"|.int _=>T="int"|.ref p=>(T="list" /\ ∃xs,cn K H p xs)\/(T="tuple" /\ ∃o,K.lookup p=some o/\o.cls=.type "tuple" /\ o.dict=none)\/(T="dict" /\ ((∃aZ ep,H p=some (.dK aZ ep))\/∃aZ,H p=some (.dT aZ)))\/(T="set" /\ ∃S n,H p=some (.set S n))|_=>False
theorem FE{WO:Ul}{σ:St}{H:Hp}{s:Shared}{T:String}{x:V}{v:Value}(I:Inv X WO σ H s)(r:RelV x v)(ty:WN X.K T x H) : s.TypeIs v T/\∀a,v=.ref a->∃ob,s.heap.get? a=some ob/\ob.dict=none:=by
 cases x with
 |str z=>obtain⟨t,rfl⟩:=r;cases (show T="str" from ty);exact⟨typeIs_str s z t,fun _ e=>nomatch e⟩|int i=>obtain⟨t,rfl⟩:=r;cases (show T="int" from ty);exact⟨typeIs_int s i t,fun _ e=>nomatch e⟩|ref p=>
  cases r;rcases ty with ⟨rfl,xs,hq⟩|⟨rfl,o,hk,hc,hd⟩|⟨rfl,hk⟩|⟨rfl,S,n,hk⟩
  obtain⟨aS,_,pl,_⟩:=I.list hq;refine⟨pl.isList.typeIs,fun a e=>?_⟩;cases e;obtain⟨o,n,e,c,hd,_⟩:=pl;exact⟨o,e,hd⟩;refine⟨⟨o,I.kD p o hk,hc⟩,fun a e=>?_⟩;cases e;exact⟨o,I.kD _ o hk,hd⟩;have z:∃o,s.heap.get? p=some o/\o.ExactDict:=by
   rcases hk with ⟨aZ,ep0,hk⟩|⟨aZ,hk⟩
   obtain⟨_,_,_,_,o,_,e,ex,_⟩:=I.cm p _ hk;exact⟨o,e,ex⟩;obtain⟨_,_,_,_,o,_,_,e,ex,_⟩:=I.cm p _ hk;exact⟨o,e,ex⟩
  obtain⟨o,e,ex⟩:=z;refine⟨⟨o,e,ex.1⟩,fun a e2=>?_⟩;cases e2;exact⟨o,e,ex.2.1⟩;obtain⟨o,_,_,_,e,ex,_⟩:=I.cm p _ hk;refine⟨⟨o,e,ex.1⟩,fun a e2=>?_⟩;cases e2;exact⟨o,e,ex.2.1⟩
 |_=>exact False.elim ty
noncomputable def WD(K:W.Frag)(T:String)(r:V->Pk->Hp->VK->Prop)(to:TE):TE:=fun σ H Q=>to σ H fun x H1=>WN K T x H1/\r x [] H1 Q
noncomputable def UG(K:W.Frag)(T:String)(r:V->Pk->Hp->VK->Prop)(to:TE)(t:TA):TE:=fun σ H Q=>to σ H fun x H1=>WN K T x H1/\t σ H1 fun xs H2=>r x xs H2 Q
variable{o e:Expr}{es:KJ}{to:TE}{t:TA}{name:Str}{Pn jb:Pos}{T id:String}{r:V->Pk->Hp->VK->Prop}
theorem Q0z(pa:PlainAttrs T)(slot:Slot T name id)(VN:typeOf (.builtin id)=pure (.type "method_descriptor"))(hm:UX X id r)(ho:PE X o to)(Dz:autoParam (attributeBase o name X.env (eval o X.env)=eval o X.env) AuP.a._autoParam) (vm:autoParam ((Pn.endLine == jb.line)=true) AuP.a._autoParam):PE X (.Call (.Attribute o name Pn) [] [] jb) (WD X.K T r to):=by intro WO s σ H Q I h;refine wpAny_Call_method0_late Dz vm (bN (ho WO s σ H _ I h) fun v s1 ⟨x,H1,I1,r1,ty,q1⟩=>?_);obtain⟨h1,h2⟩:=FE I1 r1 ty;exact⟨T,id,pa,slot,VN,h1,h2,Calls.callWith_builtin rfl (PySem.evalArgs_none (hm WO s1 σ H1 x [] v [] Q I1 r1 .nil q1))⟩
theorem KN(pa:PlainAttrs T)(slot:Slot T name id)(VN:typeOf (.builtin id)=pure (.type "method_descriptor"))(hm:UX X id r)(ho:PE X o to)(ha:PA X (e::es) t)
  (Dz:autoParam (attributeBase o name X.env (eval o X.env)=eval o X.env) AuP.a._autoParam)
  (Vv:autoParam (((backTo jb (starEach (e::es) X.env)).all (fun x=>!x.1)&&(backToKw jb (keywordEach [] X.env)).all (fun x=>x.1.isSome) && decide ((e::es).length+([]:List Keyword).length+(if ([]:List Keyword).isEmpty then 0 else 1)<30))=true) AuP.a._autoParam)
  (vm:autoParam ((Pn.endLine == jb.line)=true) AuP.a._autoParam) (hs:autoParam (starEach (e::es) X.env=(false,eval e X.env)::starEach es X.env) AuP.a._autoParam) (Mg:autoParam ((backTo jb (starEach es X.env)).any (·.1)=false) AuP.a._autoParam) :
  PE X (.Call (.Attribute o name Pn) (e::es) [] jb) (UG X.K T r to t):=by
 intro WO s σ H Q I h;refine wpAny_Call_method_late Dz Vv vm rfl (bN (ho WO s σ H _ I h) fun v s1 ⟨x,H1,I1,r1,ty,q1⟩=>?_);obtain⟨h1,h2⟩:=FE I1 r1 ty;refine⟨T,id,pa,slot,VN,h1,h2,?_⟩;have hA:=ha jb WO s1 σ H1 _ I1 q1;rw[hs] at hA ⊢;refine Calls.callWith_builtin (by show (false||(backTo jb (starEach es X.env)).any (·.1))=false;rw[Mg]<;>rfl) (Calls.evalArgs_plain ?_);exact bN hA fun us s2 ⟨vs,H2,I2,r2,q2⟩=>hm WO s2 σ H2 x vs v us Q I2 r1 r2 q2
end
def W6(X:Cx)(id:String)(r:V->Pk->Hp->VK->Prop):Prop:=∀(WO:Ul)(s:Shared)(σ:St)(H:Hp)(x:V)(xs:Pk)(v:Value)(us:We)(Q:VK),Inv X WO σ H s->RelV x v->Vals xs us->r x xs H Q->wpAny (model X.prog X.w) X.A (call (.builtin id) (v::us)) (EP X WO σ Q) X.xe s
theorem Vals.one:∀{x:V}{us:We},Vals [x] us->∃u,us=[u]/\RelV x u|_,_,.cons r .nil=>⟨_,rfl,r⟩
theorem Vals.zero:∀{us:We},Vals [] us->us=[]|_,.nil=>rfl
theorem Vals.reverse(h:Vals xs us):Vals xs.reverse us.reverse:=by induction h with|nil=>exact .nil|cons r t ih=>rw[List.reverse_cons,List.reverse_cons];exact Vals.append ih (.cons r .nil)
theorem Vals.rep(h:Vals xs us):∀k:Nat,Vals (List.replicate k xs).flatten (List.replicate k us).flatten|0=>.nil|k+1=>by rw[IA,IA,Wo,Wo];exact Vals.append h (Vals.rep h k)
theorem foldl_rep(aS:We):∀(k:Nat)(acc:We),List.foldl (fun x1 x2=>x1++x2) acc.toArray (List.replicate k aS.toArray)=(acc++(List.replicate k aS).flatten).toArray
|0,acc=>O3|k+1,acc=>by
 have e:acc.toArray++aS.toArray=(acc++aS).toArray:=O3;have e2:(acc++aS)++(List.replicate k aS).flatten=acc++(List.replicate (k+1) aS).flatten:=by rw[IA,Wo,List.append_assoc]
 rw[<-e2,<-foldl_rep aS k (acc++aS),<-e,IA,we]
section
variable{X:Cx}{WO:Ul}{σ:St}{H:Hp}{s:Shared}{l b:Addr}{xs ys zs:Pk}
theorem Inv.RG{aS its':We}{n:Nat}{f:Array Value->Array Value}{t':Nat}(I:Inv X WO σ H s)(hH:H l=some (.lst xs))
  (e:s.heap.get? l=some {cls:=.type "list",data:=.seq aS.toArray n}) (hf:f aS.toArray=its'.toArray) (hv:Vals ys its') (hz:ys.length<=sizeLine) :
  Inv X WO σ (upd H l (.lst ys)) {s with heap:=s.heap.update l (Obj.mapSeq f),toks:=t'}:=by
 have q:=PySem.IsL.update e f;rw[hf] at q;refine I.write (x:=l) (e:=l) (by rw[hH];exact trivial) (.inl rfl) (fun b' u hb hu=>(Yt s.heap (Obj.mapSeq f) (UH hb)).trans hu) ⟨_,q⟩ ?_;exact⟨hz,its',_,hv,q⟩
theorem Inv.MC(I:Inv X WO σ H s)(hv:Vals ys aS)(hz:ys.length<=sizeLine) : Inv X WO σ (upd H s.heap.objs.size (.lst ys)) {s with heap:=s.heap.push {cls:=.type "list",data:=.seq aS.toArray},toks:=t'}:=
 I.laid (fun _ _ q=>RN _ q) (Gm _) ⟨hz,aS,0,hv,Rv _ rfl⟩
theorem Inv.fresh(I:Inv X WO σ H s):H s.heap.objs.size=none:=I.cm.fresh (Gm _)
theorem Inv.MD(I:Inv X WO σ H s)(hH:H l=some (.lst xs)):xs.length<=sizeLine/\∃(aS:We)(n:Nat),Vals xs aS/\xs.length=aS.length/\s.heap.get? l=some {cls:=.type "list",data:=.seq aS.toArray n}:=by obtain⟨z,aS,n,r,e⟩:=I.cm l _ hH;exact⟨z,aS,n,r,r.length,e⟩
theorem vK(h:n<=sizeLine):Builtin.List.listTooLong n=false:=by unfold Builtin.List.listTooLong;exact Uy Ux
end
section
variable{X:Cx}
def tQ:V->Pk->Hp->VK->Prop:=fun x vs H Q=>∃l xs y,x=.ref l/\vs=[y]/\H l=some (.lst xs)/\xs.length<sizeLine/\Q .bB (upd H l (.lst (xs++[y])))
theorem mO:W6 X "list.append" tQ:=by intro WO s σ H x vs v us Q I rx rv h;obtain⟨l,xs,y,rfl,rfl,hH,hz,q⟩:=h;cases rx;obtain⟨u,rfl,ru⟩:=rv.one;obtain⟨z,aS,n,r,hl,e⟩:=I.MD hH;refine call_meets F.slot_list_append ⟨_,e,rfl⟩ F.entry_list_append (F.args_list_append_2 _ _) (PySem.list_append l aS.toArray n u (by rw[Uh];omega)) ⟨e,?_⟩;refine⟨.bB,_,I.RG (its':=aS++[u]) hH e O3 (r.append (.cons ru .nil)) ?_,rfl,q⟩;rw[IL,List.length_singleton];omega
def Ac:V->Pk->Hp->VK->Prop:=fun x vs H Q=>∃l b xs zs,x=.ref l/\vs=[.ref b]/\H l=some (.lst xs)/\H b=some (.lst zs)/\xs.length+zs.length<=sizeLine/\Q .bB (upd H l (.lst (xs++zs)))
theorem Q1q:W6 X "list.extend" Ac:=by
 intro WO s σ H x vs v us Q I rx rv h;obtain⟨l,b,xs,zs,rfl,rfl,hH,hB,hz,q⟩:=h;cases rx;obtain⟨u,rfl,ru⟩:=rv.one;cases ru;obtain⟨z,aS,n,r,hl,e⟩:=I.MD hH;obtain⟨z2,jI,n2,r2,Gi,e2⟩:=I.MD hB;have hsz:aS.toArray.size+jI.toArray.size<=sizeLine:=by rw[Uh,Uh];omega
 have DE:¬(!aS.toArray.isEmpty&&Builtin.List.listTooLong (aS.toArray.size+jI.toArray.size))=true:=by rw[vK hsz,Bool.and_false];exact Qw
 refine call_meets F.slot_list_extend ⟨_,e,rfl⟩ F.entry_list_extend (F.args_list_extend_2 _ _) (AutoSeq1.list_extend_list_list_0 l aS.toArray n b jI.toArray n2 DE (by rw[Uh];omega) Ux) ⟨e,e2,?_⟩;refine⟨.bB,_,I.RG (its':=aS++jI) hH e O3 (r.append r2) ?_,rfl,q⟩;rw[IL];omega
theorem len_rep{α:Type}(xs:List α)(k:Nat):(List.replicate k xs).flatten.length=k*xs.length:=by induction k with|zero=>simp|succ k ih=>rw[IA,Wo,IL,ih,Nat.succ_mul,Nat.add_comm]
end
end L2
namespace W3
open PySem PySem.W PySem.Calls PyProof.Rows
theorem nS:∀(ns:ZX)(vs:We),WellAll P h vs (ns.map WData.int)->IntsAre vs ns:=by intro ns;induction ns with|nil=>intro vs w;rw[List.map_nil] at w;cases w;exact .nil|cons n ns ih=>intro vs w;rw[Pj] at w;cases w with|cons a b=>cases a;exact .cons _ _ (ih _ b)
theorem Bx{l:OpenLaw}{n:Nat}(hn:l.most=some n){P:Params}{h:Heap}{args:List WData}{vals:We}
  (Hb:l.row.toRowW.claim.pre args=true) (VO:WellAll P h vals args) :
  ∃a vs ns,vals=[Value.ref a]/\args=[WData.list (ns.map WData.int)]/\h.get? a=some {cls:=.type "list",data:=.seq vs.toArray}/\IntsAre vs ns/\ns.length<=n:=by
 have Zh:WShape.hasAll [] args [.list .int]=true:=(pre_splitW Hb).1;have hc:l.pre.holds [] {args:=args}=true:=(pre_splitW Hb).2;obtain⟨d,r,rfl,h1,h2⟩:=hasAllW_cons Zh;obtain rfl:=hasAllW_nil h2;obtain⟨xs,rfl,h3⟩:=hasW_list h1;obtain⟨ns,rfl⟩:=items_int h3;have V9:ns.length<=n:=by
  unfold OpenLaw.pre at hc;have h4:(WTm.not (.lt (.lit (.int (n:Int))) (.len (.arg 0)))).holds [] {args:=[.list (ns.map .int)]}=true:=by have h4:=(holds_andW hc).1;rw[hn] at h4;exact h4
  have h5:=condW_of h4 (w_not (w_lt w_lit (w_len_list (w_arg rfl))));rw[xN] at h5;refine Nat.le_of_not_lt fun q=>?_;have q':(n:Int)<((ns.length:Nat):Int):=Ux;first| (rw[NU q'] at h5;exact absurd h5 (by decide))| (simp at h5;omega)
 cases VO with|cons w1 w2=>cases w2;cases w1 with|list ho L5=>exact⟨_,_,ns,rfl,rfl,ho,nS ns _ L5,V9⟩
theorem Bm(l:OpenLaw)(args:List WData):l.row.toRowW.claim.post args (.bool true) args=true:=postW_of (r:=l.row.toRowW) (X:=(true == true))
 (show WShape.has [] (.bool true) .bool=true by first|rfl|decide|simp[WShape.has,WShape.arms,WShape.armsAll])
 (show (WTm.eq .res (.lit (.bool true))).value [] {args:=args,res:=some (.bool true),after:=args}=some (.bool (true == true)) from w_eq_bool (w_res rfl) w_lit) rfl
theorem uH{l:OpenLaw}{n:Nat}{q:Program}{loose:Ut}{XP:(Str->O8)->Heap->Prop}{YP:World->Heap->Prop}{d:DefRec}
  (hn:l.most=some n) (QO:d.params.defaults=[])
  (call:∀(w:World)(s₀ bA:Shared)(mg mb:Str->O8)(fa:Addr)(o:Obj)(pm cd doc:Value)(a:Addr)(vs:We)(ns:ZX),
   Ground q loose [] XP w s₀ mg mb bA.heap->YP w bA.heap ->
   bA.heap.get? fa=some o->o.data=.func (docDef d.name d.params d.body d.scope pm cd doc)->bA.heap.CodeRec cd d.name->mg d.name=some (.ref fa) ->
   bA.heap.get? a=some {cls:=.type "list",data:=.seq vs.toArray}->IntsAre vs ns->ns.length<=n->bA.gens=#[] ->
   codeAny (model l.prog w) callerA (.call (.ref fa) ⟨[.ref a],[]⟩) (fun r s'=>r=.ok (.ret (.bool true))/\OldK bA.heap s'.heap/\s'.os=bA.os/\AllBare s'.gens) bA) :
  WalkO q loose XP YP l.row.toRowW d [] (fun f vs=>PySem.call f vs):=by
 intro w s₀ bA mg mb G Y fa o pm cd doc dV kV ho hd gp hD Q2 hg args vals as Hb Y6 hrd VO hlo;obtain rfl:dV=.none:=Dflts.none hD QO;obtain rfl:kV=.none:=Dflts.noKw hD;obtain⟨a,vs,ns,rfl,rfl,Mc,hints,V9⟩:=Bx hn Hb VO;refine enter_call (xo (call w s₀ bA mg mb fa o pm cd doc a vs ns G Y ho (fd_plain hd) gp Q2 Mc hints V9 hg) fun r s' hq=>?_);obtain⟨rfl,h2,h3,h4⟩:=hq;exact⟨.inl ⟨.bool true,.bool true,[],rfl,fun _=>rfl,.bool true,Bm l _,fun _=>⟨List.Pairwise.nil,fun _ hm=>(nomatch hm)⟩⟩,h2,h3,h4⟩
end W3
namespace L2
open PySem PySem.Spec PyProof.Rows
theorem rQ:∀{vs:We}{ns:ZX},IntsAre vs ns->Vals (ns.map V.int) vs|_,_,.nil=>.nil|_,_,.cons n t h=>.cons ⟨t,rfl⟩ (rQ h)
def Ld(H:Hp):Prop:=∀b,H b=none\/∃o xs,H b=some (.Gf o (.lst xs))
theorem D3{P:Program}{w:World}{K:W.Frag}{mg mb:Str->O8}{CX:wJ}{k:Nat}{fa a:Addr}{fd:FuncData}{x:Str}{sp:Sp}{bA:Shared}{vs:We}{ns:ZX}
  (KX:K.In bA.heap) (Kt:bA.heap.Ns mainGlobals mg) (hb:bA.heap.Ns builtinsNs mb) (YM:∀x:Str,x≠"__name__" -> mb x=bootBuiltins x) (VA:bA.heap.NoLimit) (hg:bA.gens=#[])
  (ha:bA.heap.get? a=some {cls:=.type "list",data:=.seq vs.toArray}) (hi:IntsAre vs ns) (hl:ns.length<=sizeLine) (hr:bY k callerA)
  (F:∀base:Heap,K.In base->base.Ns mainGlobals mg->cj P w K mg base CX k fa fd [x] sp) (QL:∀(s:Shared)(u:Value),BindsTo s fd ⟨[u],[]⟩ [(x,u)])
  (Ku:∀H:Hp,Ld H->cn K H a (ns.map V.int)->sp [.ref a] H (fun v _=>v=.bl true) fun _ _ _=>False)
  (Vh:∀H e s',CX [] H bA (fun _ _ _=>False) e s'->False) :
  codeAny (model P w) callerA (.call (.ref fa) ⟨[.ref a],[]⟩) (fun r s'=>r=.ok (.ret (.bool true))/\OldK bA.heap s'.heap/\s'.os=bA.os/\AllBare s'.gens) bA:=by
 have rv:=rQ hi;have V4:=hi.length;have core:∀H:Hp,Ld H->cn K H a (ns.map V.int)->nJ P w H bA.heap->(∀b,H b≠none->b=a)->(H a≠none->K.lookup a=none)->codeAny (model P w) callerA (.call (.ref fa) ⟨[.ref a],[]⟩) (fun r s'=>r=.ok (.ret (.bool true))/\OldK bA.heap s'.heap/\s'.os=bA.os/\AllBare s'.gens) bA:=by
  intro H hO hS cm hA hK;have yP:∀{b:Addr}{o:Obj},bA.heap.get? b=some o->H b=none->(sM bA.heap H).get? b=some o:=fun e n=>DC e n;have noA:∀{b:Addr}{o:Obj}{es:Array DictEntry}{ep:Nat},bA.heap.get? b=some o->o.data=.dict es ep->H b=none:=fun {b o es ep} e d=>by cases q:H b with|none=>rfl|some u=>have e':b=a:=hA b (by rw[q];simp);subst e';rw[ha] at e;cases e;have d':Data.seq vs.toArray _=Data.dict es ep:=d;cases d'
  have Ur:∀{b:Addr}{m:Str->O8},bA.heap.Ns b m->(sM bA.heap H).Ns b m:=fun {b m} ⟨o,es,ep,e,d,r⟩=>⟨o,es,ep,yP e (noA e d),d,r⟩;have Xx:K.In (sM bA.heap H):=fun b o e=>yP (KX b o e) (by cases q:H b with|none=>rfl|some u=>have e':b=a:=hA b (by rw[q];simp);subst e';rw[hK (by rw[q];simp)] at e;cases e);have hM:Mod K mg (sM bA.heap H):=⟨Xx,Ur Kt,⟨mb,Ur hb,YM⟩,let ⟨mc,h1,h2⟩:=VA;⟨mc,Ur h1,h2⟩⟩;have e0:qm P w K mg (sM bA.heap H) callerA [] bA H:=⟨rfl,hM,fun b o e=>Ia e,Nat.le_of_eq (AS _ _),trivial,fun b hb=>absurd (show b∈([]:RE) from hb) O3,cm,.of_eq hg⟩;refine xo ((F _ Xx (Ur Kt)).run callerA [] bA H ⟨[.ref a],[]⟩ [.ref a] [.ref a] _ _ hr e0 (QL bA (.ref a)) (.cons rfl .nil) (Ku H hO hS)) fun r s' h=>?_;cases r with
   |error e=>exact(Vh H e s' h).elim|ok fl=>
    cases fl with
    |next=>exact False.elim h|brk=>exact False.elim h|cont=>exact False.elim h|ret u=>
     obtain⟨v,H',os,bare,un,VG,r',q⟩:=h;have q':v=.bl true:=q;subst q';obtain rfl:u=Value.bool true:=r';refine⟨rfl,OldK.of_keep fun b o e=>?_,os,bare⟩;cases q:H b with
     |none=>exact un.keep b o e q (by intro z;exact absurd (show b∈([]:RE) from z) O3) O3|some u=>
      rcases hO b with z|⟨ob,xs,z⟩
      ·rw[q] at z;cases z
      ·have z2:=un.sG b ob _ z;obtain⟨e1,_⟩:=cm b _ z;obtain⟨e2,_⟩:=VG b _ z2;rw[e] at e1;cases e1;exact e2
 cases hk:K.lookup a with
 |some o=>have e:=KX a o hk;rw[ha] at e;cases e;refine core (fun _=>none) (fun _=>.inl rfl) (.inr ⟨_,vs.toArray,_,hk,rfl,rfl,rfl,by rw[Uh,V4];exact hl,by simpa using rv⟩) (fun b u z=>by have z':(none:Option HO)=some u:=z;cases z') (fun b z=>absurd rfl z) fun z=>absurd rfl z|none=>
  refine core (fun b=>if b=a then some (.Gf {cls:=.type "list",data:=.seq vs.toArray} (.lst (ns.map V.int))) else none) (fun b=>?_) (.inl (.inr ⟨{cls:=.type "list",data:=.seq vs.toArray},WL rfl⟩)) (fun b u z=>?_) (fun b z=>?_) fun _=>hk
  ·by_cases hb:b=a
   ·exact .inr ⟨_,_,WL hb⟩
   ·exact .inl (S8 hb)
  ·by_cases hb:b=a
   ·have z':=(WL hb).symm.trans z;cases z';subst hb;exact⟨ha,by rw[xN];exact hl,vs,_,rv,ha⟩
   ·have z':=(S8 hb).symm.trans z;cases z'
  ·by_cases hb:b=a
   ·exact hb
   ·exact absurd (S8 hb) z
theorem JI{l:W.OpenLaw}{n k:Nat}{q:Program}{loose:Ut}{XP:(Str->O8)->Heap->Prop}{YP:World->Heap->Prop}{d:DefRec}{K:Params->W.Frag}{CX:World->wJ}{sp:World->Sp}{x:Str}
  (hn:l.most=some n) (T8:n<=sizeLine) (QO:d.params.defaults=[]) (hr:bY k callerA)
  (hY:∀(w:World)(h:Heap),YP w h->(K w.params).In h)
  (F:∀(w:World)(mg:Str->O8)(fa:Addr)(h:Heap),(K w.params).In h->h.Ns mainGlobals mg->mg d.name=some (.ref fa)->∃fd:FuncData,(∀(s:Shared)(u:Value),BindsTo s fd ⟨[u],[]⟩ [(x,u)])/\∀base:Heap,(K w.params).In base->base.Ns mainGlobals mg->cj l.prog w (K w.params) mg base (CX w) k fa fd [x] (sp w))
  (Ku:∀(w:World)(H:Hp)(a:Addr)(ns:ZX),ns.length<=n->Ld H->cn (K w.params) H a (ns.map V.int)->sp w [.ref a] H (fun v _=>v=.bl true) fun _ _ _=>False)
  (Vh:∀(w:World)(H:Hp)(s:Shared)(e:Value)(s':Shared),CX w [] H s (fun _ _ _=>False) e s'->False) :
  W.WalkO q loose XP YP l.row.toRowW d [] (fun f vs=>PySem.call f vs):=by
 refine W3.uH hn QO fun w s₀ bA mg mb fa o pm cd doc a vs ns G Y ho hd gp Q2 Mc hints V9 hg=>?_;have KX:=hY w _ Y;obtain⟨fd,hb,hF⟩:=F w mg fa _ KX G.T.g Q2;exact D3 KX G.T.g G.T.b G.T.builtins G.T.nolimit hg Mc hints (RC V9 T8) hr hF hb (fun H hO hS=>Ku w H a ns V9 hO hS) fun H e s'=>Vh w H bA e s'
def inClass(s:Stmt)(j:Nat):Stmt:=match s with|.ClassDef _ _ _ body _ _ _ _ _ _ _=>body.getD j (.Pass ⟨0,0,0,0⟩)|_=>.Pass ⟨0,0,0,0⟩
def c8(s:Stmt):Arguments:=match s with|.FunctionDef _ a _ _ _ _ _ _ _ _=>a|_=>{posonlyargs:=[],args:=[],vararg:=none,kwonlyargs:=[],kw_defaults:=[],kwarg:=none,defaults:=[]}
def bQ(s:Stmt):List Stmt:=match s with|.FunctionDef _ _ b _ _ _ _ _ _ _=>b|_=>[]
def aR(s:Stmt):Scope:=match s with|.FunctionDef _ _ _ _ _ _ sc _ _ _=>sc|_=>{kind:=.function,names:=[],isGenerator:=false,isCoroutine:=false}
abbrev jG:wJ:=fun _ _ _ _ _ _=>False
abbrev E0:XK:=fun _ _ _=>False
theorem rD:Passes jG X E0:=fun _ _ _ _ _ _ _ h=>h.elim
structure Gv(K:W.Frag)(x TU:Str)(st:Stmt)(f:Addr)(fd:FuncData):Prop where
 ex:∃(oc:Value)(od:ZF)(kV doc pm:Value)(an:ZF)(gV ct:Value)(Im:Array (Option Value)),fd=W.fnOf x TU (c8 st) (bQ st) (aR st) .none kV doc pm an gV ct/\K.lookup f=some ⟨oc,od,.func fd,Im⟩/\W.codeIn K gV TU=true
 kp:W.keepIn K (.ref f)=true
section
variable{P:Program}{w:World}{K:W.Frag}{mg:Str->O8}{base:Heap}
theorem Gv.ok{x TU:Str}{st:Stmt}{f:Addr}{fd:FuncData}{N ps:Ut}{k:Nat}{sp:Sp}(F:Gv K x TU st f fd)(S:c7 N ps (aR st))(len:∀vs H Q E,sp vs H Q E->vs.length=ps.length)(jT:∀(gV:Value)(A:Around)(outer:List Env)(s:Shared)(H:Hp)(vs:Pk)(Q:VK)(E:XK),bY k (A.deeper (envOfC TU (aR st) s.heap.objs.size f gV))->sp vs H Q E->∃t,rX (oR jG P w K mg base N TU (aR st) f gV A outer s H E).H0 (bQ st) t/\t {nx:=fun _ H'=>Q .bB H',rt:=Q} (start N vs) H):cj P w K mg base jG (k+1) f fd ps sp:=by obtain⟨oc,od,kV,doc,pm,an,gV,ct,Im,rfl,lk,gp⟩:=F.ex;refine Qo lk gp S len fun A outer s H vs Q E hr Ku=>?_;obtain⟨t,h,q⟩:=jT gV A outer s H vs Q E hr Ku;exact⟨t,h.H0,q⟩
theorem Gv.binds{x TU:Str}{st:Stmt}{f:Addr}{fd:FuncData}{ps:Ut}(F:Gv K x TU st f fd)(h:∀(kV doc pm:Value)(an:ZF)(gV ct:Value)(us:We),us.length=ps.length->bindArgs (W.fnOf x TU (c8 st) (bQ st) (aR st) .none kV doc pm an gV ct) ⟨us,[]⟩=pure (ps.zip us)):Binds K fd ps []:=by obtain⟨oc,od,kV,doc,pm,an,gV,ct,Im,rfl,lk,gp⟩:=F.ex;exact .all (h kV doc pm an gV ct)
theorem Dn{x TU:Str}{st:Stmt}{f:Addr}{oc:Value}{od an:ZF}{Im:Array (Option Value)}{kV doc pm gV ct:Value}(l:K.lookup f=some ⟨oc,od,.func (W.fnOf x TU (c8 st) (bQ st) (aR st) .none kV doc pm an gV ct),Im⟩)(c:W.codeIn K gV TU=true) (k:W.keepIn K (.ref f)=true):Gv K x TU st f (W.fnOf x TU (c8 st) (bQ st) (aR st) .none kV doc pm an gV ct):=⟨⟨oc,od,kV,doc,pm,an,gV,ct,Im,rfl,l,c⟩,k⟩
end
section
variable{X:Cx}
theorem pv(i:Nat){x:Str}{pos:Pos}(hN:autoParam (X.N[i]?=some x) AuP.a._autoParam)(hv:oI X.env.scope x:=by exact Vd)(hd:autoParam (Qu x) AuP.b._autoParam)(gp:autoParam (P7 x) AuP.b._autoParam):PE X (.Name x pos) (nY i):=cC hN hv hd gp
end
theorem sR{A B:Prop}(h:B):if false=true then A else B:=by rw[S8 Qw];exact h
theorem sT{A B:Prop}(h:A):if true=true then A else B:=by rw[WL rfl];exact h
def aE(H H':Hp):Prop:=∀b o,H b=some o->H' b=some o
theorem aE.refl(H:Hp):aE H H:=fun _ _ h=>h
theorem aE.trans(a:aE H H1)(b:aE H1 H2):aE H H2:=fun c o h=>b c o (a c o h)
theorem aE.free(e:aE H H')(h:H' l=Option.none):H l=Option.none:=by cases q:H l with|none=>rfl|some o=>rw[e l o q] at h;cases h
theorem aE.seq{K:W.Frag}{H H':Hp}{a:Addr}{xs:Pk}(e:aE H H')(h:cn K H a xs):cn K H' a xs:=by
 rcases h with (h|⟨o,h⟩)|h
 exact .inl (.inl (e _ _ h));exact .inl (.inr ⟨o,e _ _ h⟩);exact .inr h
end L2
end
section
set_option Elab.async false
set_option linter.all false
set_option maxRecDepth 100000
namespace L2
open PySem PySem.Spec PyProof.Rows
section
variable{κ:Type}[DecidableEq κ]
noncomputable def ue(aZ:List (κ×V))(k:κ):Option V:=(aZ.find? fun kv=>decide (kv.1=k)).map (·.2)
noncomputable def putK(aZ:List (κ×V))(k:κ)(v:V):List (κ×V):=if (aZ.any fun kv=>decide (kv.1=k))=true then aZ.map (fun kv=>if kv.1=k then(kv.1,v) else kv) else aZ++[(k,v)]
theorem wA{p:κ×V}{r:List (κ×V)}{k:κ}(e:p.1=k):ue (p::r) k=some p.2:=by simp[ue,List.find?_cons,e]
theorem wz{p:κ×V}{r:List (κ×V)}{k:κ}(e:¬p.1=k):ue (p::r) k=ue r k:=by simp[ue,List.find?_cons,e]
theorem vv(aZ:List (κ×V))(k:κ)(v:V):(putK aZ k v).length<=aZ.length+1:=by unfold putK;split;rw[xN];omega;rw[IL,NN,List.length_nil];omega
theorem lA.getD{o:Option V}{u:O8}{d:V}{d':Value}(r:lA o u)(rd:RelV d d'):RelV (o.getD d) (u.getD d'):=by
 cases o with
 |none=>cases u with|none=>exact rd|some _=>exact(show False from r).elim
 |some _=>cases u with|none=>exact(show False from r).elim|some _=>exact r
theorem KV.val{aZ:List (κ×V)}{vs:List (κ×Value)}(r:KV aZ vs)(k:κ):lA (ue aZ k) (valueAt vs k):=by
 unfold KV at r;induction r with
 |nil=>exact True.intro|@cons p q ps qs h t ih=>
  obtain⟨h1,h2⟩:=h;by_cases e:p.1=k;have e':q.1=k:=h1.symm.trans e;have b:valueAt (q::qs) k=some q.2:=by simp[valueAt,List.find?_cons,e']
  rw[wA e,b];exact h2;have e':¬q.1=k:=fun z=>e (h1.trans z);have b:valueAt (q::qs) k=valueAt qs k:=by simp[valueAt,List.find?_cons,e']
  rw[wz e,b];exact ih
theorem KV.any{aZ:List (κ×V)}{vs:List (κ×Value)}(r:KV aZ vs)(k:κ):(aZ.any fun kv=>decide (kv.1=k))=vs.any fun kv=>decide (kv.1=k):=by unfold KV at r;induction r with|nil=>rfl|cons h t ih=>rw[E1,E1,ih,h.1]
theorem KV.Wq{aZ:List (κ×V)}{vs:List (κ×Value)}(r:KV aZ vs)(k:κ){y:V}{u:Value}(ry:RelV y u) : KV (aZ.map fun kv=>if kv.1=k then(kv.1,y) else kv) (vs.map fun kv=>if kv.1=k then(kv.1,u) else kv):=by unfold KV at r ⊢;induction r with|nil=>exact .nil|@cons p q ps qs h t ih=>rw[Pj,Pj];refine .cons ?_ ih;obtain⟨h1,h2⟩:=h;by_cases e:p.1=k;rw[WL e,WL (h1.symm.trans e)];exact⟨h1,ry⟩;rw[S8 e,S8 (fun z=>e (h1.trans z))];exact⟨h1,h2⟩
theorem KV.put{aZ:List (κ×V)}{vs:List (κ×Value)}(r:KV aZ vs)(k:κ){y:V}{u:Value}(ry:RelV y u):KV (putK aZ k y) (stored vs k u):=by unfold putK stored;rw[r.any k];by_cases e:(vs.any fun kv=>decide (kv.1=k))=true;rw[WL e,WL e];exact r.Wq k ry;rw[S8 e,S8 e];exact Paired.snoc r ⟨rfl,ry⟩
theorem KV.keys{aZ:List (κ×V)}{vs:List (κ×Value)}(r:KV aZ vs):aZ.map (·.1)=vs.map (·.1):=by unfold KV at r;induction r with|nil=>rfl|cons h t ih=>rw[Pj,Pj,ih,h.1]
theorem KV.length{aZ:List (κ×V)}{vs:List (κ×Value)}(r:KV aZ vs):aZ.length=vs.length:=SO r
end
theorem KG{P:Program}{w:World}{k:Key}{u:Value}(r:RelV (kV k) u):(fQ P w).is k u=true:=by cases k with|inl i=>obtain⟨t,e⟩:=(show ∃t,u=Value.int i t from r);subst e;exact vF P w i t|inr x=>obtain⟨t,e⟩:=(show ∃t,u=Value.str x t from r);subst e;exact vG P w x t
section
variable{X:Cx}{WO:Ul}{σ:St}{H:Hp}{s:Shared}
theorem Inv.big(I:Inv X WO σ H s):sysModules<s.heap.objs.size:=by have h:mainGlobals<s.heap.objs.size:=(I.mod.glob.keeps I.bk).lt;exact EN (by decide) h
end
def Lb(i:Expr):Prop:=∀ov iv,subscripted i false ov iv=operate [ov,iv] (getItem ov iv)
theorem Jr{prog:Program}{w:World}{A:Around}{E:TF}{s:Shared}{env:Env}{value slice:Expr}{pos:Pos}{T id:String}{Q:TF}
  (hl:typeLookup (.type T) "__getitem__" = pure (some (.builtin id))) (hs:Lb slice)
  (h:wpAny (model prog w) A (eval value env) (fun o bA=>wpAny (model prog w) A (eval slice env) (fun i qE=>qE.TypeIs o T/\wpAny (model prog w) A (getItem o i) Q E qE) E bA) E s) :
  wpAny (model prog w) A (eval (.Subscript value slice pos) env) Q E s:=by
 refine Subscript_ (LD h (fun o bA h₁=>LD h₁ (fun i qE lP=>?_) fun _ _ x=>x) fun _ _ x=>x);obtain⟨hT,lP⟩:=lP;unfold subscriptTail;refine X0 ?_;rw[getitemInPython_of_ne hT.not_modules];refine X0 (NY hT hl ?_);have fin:wpAny (model prog w) A (subscripted slice false o i) (fun r SQ=>wpAny (model prog w) A (letTemporaryGo value o r >>= fun _=>pure r) Q E SQ) E qE:=by rw[hs o i];exact wpAny_operating (LD lP (fun r SQ nR=>X0 (wpAny_letTemporaryGo (Wt nR))) fun _ _ x=>x)
 first|exact Wt (X0 fin)|exact X0 (Wt (X0 fin))|exact X0 fin
end L2
end
section
namespace VP
theorem gl{P:Prop}(h:∀Q:Prop,Q=P->Q):P:=h P rfl
inductive D where
 |bB|bl (b:Bool)|int (i:Int)|str (x:Str)|tup (xs:List D)|lst (xs:List D)|fP (ks:List (Sum Int Str)) (vs:List D)|ins (c:Str) (ns:Ut) (vs:List D)|Ge (c:Str) (ns:Ut) (vs:List D)
 deriving Inhabited
abbrev Ui:=Option D
abbrev OK:=List D
inductive Sl where
 |no|sh (d:D)|ow (d:D)|io (d:D)
 deriving Inhabited
abbrev aU:=List Sl
structure Xn where
 cls:Str
 ns:List Str
 vs:List D
inductive Res(α:Type) where
 |ok (a:α) (r:aU)|exc (x:Xn) (r:aU)|no
abbrev M(α:Type):=aU->Res α
inductive Fl where
 |nx|bk|ct|rt (d:D)
noncomputable def ret{α:Type}(a:α):M α:=fun r=>.ok a r
noncomputable def Tz{α β:Type}(f:M α)(g:α->M β):M β:=fun r=>match f r with|.ok a r'=>g a r'|.exc x r'=>.exc x r'|.no=>.no
noncomputable def stuck{α:Type}:M α:=fun _=>.no
def opt{α:Type}:Option α->M α|some a=>ret a|none=>stuck
noncomputable def ag(i:Nat):M D:=fun r=>match r[i]? with|some (.sh d)=>.ok d r|_=>.no
noncomputable def sY(i:Nat):M D:=fun r=>match r[i]? with|some (.sh d)=>.ok d r|some (.ow d)=>.ok d r|some (.io d)=>.ok d r|_=>.no
noncomputable def free:Option Sl->Bool|some (.io _)=>false|some _=>true|none=>false
def nV(i:Nat)(d:D):M Unit:=fun r=>if free r[i]? then .ok () (r.set i (.sh d)) else .no
def Eg(i:Nat)(d:D):M Unit:=fun r=>if free r[i]? then .ok () (r.set i (.ow d)) else .no
noncomputable def own:Option Sl->Option D|some (.ow d)=>some d|some (.io d)=>some d|_=>none
noncomputable def cE(i:Nat)(d:D)(r:aU):aU:=match r[i]? with|some (.ow _)=>r.set i (.ow d)|some (.io _)=>r.set i (.io d)|_=>r
noncomputable def HE(i:Nat):M Unit:=fun r=>match r[i]? with|some (.ow d)=>.ok () (r.set i (.sh d))|some (.sh d)=>.ok () r|_=>.no
def fJ(i:Nat)(g:D->Ui):M Unit:=fun r=>match own r[i]? with
 |some d=>match g d with
   |some d'=>.ok () (cE i d' r)|none=>.no
  |none=>.no
def mC(d:D):M D:=ret d
def m1(g:D->Ui)(a:M D):M D:=Tz a fun x=>opt (g x)
def m2(g:D->D->Ui)(a b:M D):M D:=Tz a fun x=>Tz b fun y=>opt (g x y)
def mL:List (M D)->M (List D)|[]=>ret []|f::fs=>Tz f fun x=>Tz (mL fs) fun xs=>ret (x::xs)
def mF(g:OK->Ui)(as:List (M D)):M D:=Tz (mL as) fun xs=>opt (g xs)
def tB(a:M D):M Bool:=Tz a fun x=>match x with|.bl b=>ret b|_=>stuck
def f6(a:M Bool):M Bool:=Tz a fun b=>ret (!b)
def qF(a b:M Bool):M Bool:=Tz a fun x=>if x then b else ret false
def tZ(a b:M Bool):M Bool:=Tz a fun x=>if x then ret true else b
def MK(a:M Bool):M D:=Tz a fun b=>ret (.bl b)
def vz(c:M Bool)(a b:M D):M D:=Tz c fun x=>if x then a else b
def ak(f g:M Fl):M Fl:=Tz f fun k=>match k with|.nx=>g|.bk=>ret .bk|.ct=>ret .ct|.rt d=>ret (.rt d)
def aH:M Fl:=ret .nx
def Gq(f:M Unit):M Fl:=Tz f fun _=>ret .nx
def Af(f:M D):M Fl:=Tz f fun _=>ret .nx
def aM(f:M D):M Fl:=Tz f fun d=>ret (.rt d)
def bX(c:M Bool)(a b:M Fl):M Fl:=Tz c fun x=>if x then a else b
def bc(i:Nat)(f:M D):M Fl:=Tz f fun d=>Gq (nV i d)
def gu(i:Nat)(f:M D):M Fl:=Tz f fun d=>Gq (Eg i d)
def Bv(i:Nat)(f:M Fl):M Fl:=Tz (HE i) fun _=>f
def aP(i:Nat):D->M Unit:=fun d=>nV i d
def qu:Rx->OK->M Unit|[],[]=>ret ()|i::is,d::ds=>Tz (nV i d) fun _=>qu is ds|_,_=>stuck
def cq(is:Rx):D->M Unit:=fun d=>match d with|.tup ds=>qu is ds|_=>stuck
def loop(g:D->M Unit)(body:M Fl):OK->M Fl|[]=>ret .nx|d::ds=>Tz (g d) fun _=>Tz body fun k=>match k with|.nx=>loop g body ds|.ct=>loop g body ds|.bk=>ret .nx|.rt e=>ret (.rt e)
def fZ(it:M (List D))(g:D->M Unit)(body:M Fl):M Fl:=Tz it fun ds=>loop g body ds
noncomputable def gW(x:D):D->Option D|.lst xs=>if xs.length<16777216 then some (.lst (xs++[x])) else none|_=>none
def turns(k:Nat)(g:D->M Unit)(test:M Bool)(elt:M D):OK->M Unit
|[]=>ret ()|d::ds=>Tz (g d) fun _=>Tz test fun b=>if b
 then Tz elt fun x=>Tz (fJ k (gW x)) fun _=>turns k g test elt ds
 else turns k g test elt ds
noncomputable def inner(n:Nat)(f:Nat->M Unit):M D:=fun r=>match f (r.length+n) (r++List.replicate n .no++[.ow (.lst [])]) with
 |.ok _ r'=>match r'[r.length+n]? with
   |some (.ow d)=>.ok d (r'.take r.length)|_=>.no
  |.exc x r'=>.exc x (r'.take r.length)|.no=>.no
def aY(n:Nat)(it:M (List D))(g:D->M Unit)(test:M Bool)(elt:M D):M D:=Tz it fun ds=>inner n fun k=>turns k g test elt ds
def gT(c:M Bool)(body:M Fl):Nat->M Fl
|0=>stuck|n+1=>Tz c fun b=>if b
 then Tz body fun k=>match k with|.nx=>gT c body n|.ct=>gT c body n|.bk=>ret .nx|.rt e=>ret (.rt e)
 else ret .nx
inductive FR where
 |ok (d:D) (cy:OK)|exc (x:Xn) (cy:OK)|no
abbrev Fn:=List D->FR
noncomputable def cw(n:Nat):X4->OK->aU|b::bs,d::ds=>(if b then .io d else .sh d)::cw (n-1) bs ds|_,_=>List.replicate n .no
noncomputable def bR:X4->aU->Option (List D)|[],_=>some []|true::bs,.io d::r=>(bR bs r).map (d::·)|false::bs,_::r=>bR bs r|_,_=>none
def defn(n:Nat)(fl:X4)(body:M Fl):Fn:=fun ds=>
 if ds.length=fl.length then
  match body (cw n fl ds) with
  |.ok (.rt d) r=>match bR fl r with|some cy=>.ok d cy|none=>.no
  |.ok .nx r=>match bR fl r with|some cy=>.ok .bB cy|none=>.no
  |.ok .bk _=>.no|.ok .ct _=>.no|.exc x r=>match bR fl r with|some cy=>.exc x cy|none=>.no
  |.no=>.no
 else .no
inductive Arg where
 |val (f:M D)|io (j:Nat)
inductive AV where
 |val (d:D)|io (j:Nat)
def bL:List Arg->M (List AV)|[]=>ret []|.val f::as=>Tz f fun d=>Tz (bL as) fun vs=>ret (.val d::vs)|.io j::as=>fun r=>if (own r[j]?).isSome then Tz (bL as) (fun vs=>ret (.io j::vs)) r else .no
def ql:List AV->aU->Option (List D)|[],_=>some []|.val d::as,r=>(ql as r).map (d::·)|.io j::as,r=>match own r[j]? with|some d=>(ql as r).map (d::·)|none=>none
noncomputable def fU:List AV->List Nat|[]=>[]|.val _::as=>fU as|.io j::as=>j::fU as
def putAll:Rx->OK->aU->aU|j::js,d::ds,r=>putAll js ds (cE j d r)|_,_,r=>r
noncomputable def Arg.isIo:Arg->Bool|.val _=>false|.io _=>true
def nU(f:Fn)(vs:List AV):M D:=fun r=>
 match ql vs r with
 |some ds=>if (fU vs).Nodup then match f ds with
   |.ok d cy=>.ok d (putAll (fU vs) cy r)|.exc x cy=>.exc x (putAll (fU vs) cy r)|.no=>.no
  else .no
 |none=>.no
def ax(f:Fn)(as:List Arg):M D:=Tz (bL as) fun vs=>nU f vs
def iO(a b:M D):M D:=Tz a fun x=>match x with|.bl true=>b|.bl false=>ret (.bl false)|_=>stuck
def Bb(a b:M D):M D:=Tz a fun x=>match x with|.bl true=>ret (.bl true)|.bl false=>b|_=>stuck
noncomputable def BC(ds:OK):Ui:=if ds.length<=16777216 then some (.tup ds) else none
noncomputable def A8(ds:OK):Ui:=if ds.length<=16777216 then some (.lst ds) else none
def fX(fl:List (M D)):M D:=Tz (mL fl) fun xs=>opt (BC xs)
def dQ(fl:List (M D)):M D:=Tz (mL fl) fun xs=>opt (A8 xs)
noncomputable def ur:Nat:=16777216
noncomputable def Q0T:D->D->Option D|.int i,.int j=>some (.int (i+j))|_,_=>none
noncomputable def dh:D->D->Option D|.int i,.int j=>some (.int (i-j))|_,_=>none
noncomputable def cD:D->D->Option D|.int i,.int j=>if (-(2 ^ 64)<i/\i<2 ^ 64)\/(-(2 ^ 64)<j/\j<2 ^ 64) then some (.int (i*j)) else none|_,_=>none
noncomputable def eP:D->D->Option D|.int i,.int j=>if 0<j/\j<1073741824 then some (.int (i / j)) else none|_,_=>none
noncomputable def dG:D->D->Option D|.int i,.int j=>if 0<j then some (.int (i % j)) else none|_,_=>none
noncomputable def lU:D->Option D|.int i=>some (.int (-i))|_=>none
noncomputable def ltI:D->D->Option D|.int i,.int j=>some (.bl (decide (i<j)))|_,_=>none
noncomputable def xD:D->D->Option D|.int i,.int j=>some (.bl (decide (i<=j)))|_,_=>none
noncomputable def Dx:D->D->Option D|.int i,.int j=>some (.bl (decide (j<i)))|_,_=>none
noncomputable def QC:D->D->Option D|.int i,.int j=>some (.bl (decide (j<=i)))|_,_=>none
noncomputable def BN:D->D->Option Bool|.bB,.bB=>some true|.bB,.int _=>some false|.int _,.bB=>some false|.bB,.bl _=>some false|.bl _,.bB=>some false|.bB,.str _=>some false|.str _,.bB=>some false|.int i,.int j=>some (decide (i=j))|.bl i,.bl j=>some (decide (i=j))|.str i,.str j=>some (decide (i=j))|.int _,.str _=>some false|.str _,.int _=>some false|.bl _,.str _=>some false|.str _,.bl _=>some false|_,_=>none
noncomputable def isNon:D->Bool|.bB=>true|_=>false
def isND(x y:D):Ui:=if isNon y then some (.bl (isNon x)) else none
def P6:D->D->Option D|.tup xs,.tup ys=>if xs.length+ys.length<=ur then some (.tup (xs++ys)) else none|_,_=>none
def P5:D->D->Option D|.lst xs,.lst ys=>if xs.length+ys.length<=ur then some (.lst (xs++ys)) else none|_,_=>none
noncomputable def orE(g g':D->D->Ui)(x y:D):Ui:=match g x y with|some d=>some d|none=>g' x y
noncomputable def A0(n:Nat)(i:Int):Option Nat:=if 0<=i then(if i<n then some i.toNat else none) else if -(n:Int)<=i then some (i+n).toNat else none
def ux(xs:OK)(i:Int):Ui:=(A0 xs.length i).bind fun j=>xs[j]?
def aq:D->D->Option D|.tup xs,.int i=>ux xs i|.lst xs,.int i=>ux xs i|_,_=>none
mutual
noncomputable def eqB:D->D->Bool|.bB,.bB=>true|.bl a,.bl b=>a == b|.bl a,.int j=>(if a then 1 else 0) == j|.int i,.bl b=>i == (if b then 1 else 0)|.int i,.int j=>i == j|.str x,.str y=>x == y|.lst xs,.lst ys=>oT xs ys|.tup xs,.tup ys=>oT xs ys|_,_=>false
noncomputable def oT:OK->OK->Bool|[],[]=>true|x::xs,y::ys=>eqB x y&&oT xs ys|[],_::_=>false|_::_,[]=>false
end
theorem C0(i j:Int):eqB (.int i) (.int j)=(i == j):=Pm
theorem J9(x y:Str):eqB (.str x) (.str y)=(x == y):=Pm
theorem C3(xs ys:OK):eqB (.lst xs) (.lst ys)=oT xs ys:=Pm
theorem C4(xs ys:OK):eqB (.tup xs) (.tup ys)=oT xs ys:=Pm
noncomputable def tX(x:Str):Bool:=x.cps.toList.all (·<0x110000)
mutual
noncomputable def plain:Nat->D->Bool|_,.bB=>true|_,.bl _=>true|_,.int _=>true|_,.str x=>tX x|n+1,.tup xs=>gq n xs|n+1,.lst xs=>gq n xs|_,_=>false
noncomputable def gq:Nat->OK->Bool|_,[]=>true|n,x::xs=>plain n x&&gq n xs
end
def b7(x y:D):Ui:=if plain 60 x&&plain 60 y then some (.bl (eqB x y)) else none
def nW(x y:D):Ui:=if plain 60 x&&plain 60 y then some (.bl (!eqB x y)) else none
noncomputable def c5:D->Option (List D)|.tup ds=>some ds|.lst ds=>some ds|_=>none
def fC(f:M D):M (List D):=Tz f fun d=>opt (c5 d)
noncomputable def vZ:OK->Option (List D)|[.int j]=>if -(2 ^ 62)<=j/\j<2 ^ 62 then some ((List.range j.toNat).map fun(i:Nat)=>.int i) else none|_=>none
noncomputable def Q2T:OK->Option (List D)|[.int i,.int j]=>if (-(2 ^ 62)<=i/\i<2 ^ 62)/\-(2 ^ 62)<=j/\j<2 ^ 62 then some ((List.range (j-i).toNat).map fun(k:Nat)=>.int (i+k)) else none|_=>none
def eY(fl:List (M D)):M (List D):=Tz (mL fl) fun xs=>opt (vZ xs)
noncomputable def bK:D->Option D|.tup ds=>some (.int ds.length)|.lst ds=>some (.int ds.length)|_=>none
noncomputable def gb:D->Option D|.tup ds=>some (.tup ds)|.lst ds=>some (.tup ds)|_=>none
noncomputable def hX:D->Option D|.tup ds=>some (.lst ds)|.lst ds=>some (.lst ds)|_=>none
noncomputable def maxD:OK->Option D|[.int i,.int j]=>some (.int (if j > i then j else i))|_=>none
noncomputable def minD:OK->Option D|[.int i,.int j]=>some (.int (if j<i then j else i))|_=>none
noncomputable def vt:D->Option String|.bB=>some "NoneType"|.bl _=>some "bool"|.int _=>some "int"|.str _=>some "str"|.tup _=>some "tuple"|.lst _=>some "list"|.fP _ _=>some "dict"|.ins _ _ _=>none|.Ge _ _ _=>none
def lQ(T:String)(x:D):Ui:=(vt x).map fun k=>.bl (k == T||(k == "bool" && T == "int"))
def qj:OK->Option (List D)
|[a,b]=>match c5 a,c5 b with
  |some xs,some ys=>some (List.zipWith (fun x y=>D.tup [x,y]) xs ys)|_,_=>none
 |_=>none
def kE(fl:List (M D)):M (List D):=Tz (mL fl) fun xs=>opt (qj xs)
noncomputable def eT:OK->Option (List Int)|[]=>some []|.int i::r=>(eT r).map (i::·)|_=>none
def Bz(d:D):Ui:=match c5 d with|some ds=>(eT ds).map fun ns=>.int ns.sum|none=>none
noncomputable def isLst:Ui->Bool|some (.lst _)=>true|_=>false
def l6(i:Nat)(fe:M D):M Fl:=fun r=>if isLst (own r[i]?) then Tz fe (fun x=>Gq (fJ i (gW x))) r else .no
def setAt(k v:D):D->Option D
|.lst xs=>match k with
  |.int i=>(A0 xs.length i).map fun j=>.lst (xs.set j v)|_=>none
 |_=>none
def iw(i:Nat)(fk fv:M D):M Fl:=Tz fv fun v=>fun r=>if isLst (own r[i]?) then Tz fk (fun k=>Gq (fJ i (setAt k v))) r else .no
noncomputable def v7(n d:Nat):XY->Nat|none=>d|some v=>if v<0 then(v+n).toNat else min v.toNat n
def cutD(xs:OK)(lo hi:XY):OK:=(xs.drop (v7 xs.length 0 lo)).take (v7 xs.length xs.length hi-v7 xs.length 0 lo)
def lT:Option (M D)->M (Option Int)|none=>ret none|some f=>Tz f fun d=>match d with|.int i=>ret (some i)|_=>stuck
def Gn(g:D->XY->XY->Ui)(f:M D)(lo hi:Option (M D)):M D:=Tz f fun d=>Tz (lT lo) fun l=>Tz (lT hi) fun h=>opt (g d l h)
def DU(j:Nat)(i:D):M D:=fun r=>match own r[j]? with|some d=>opt (aq d i) r|none=>.no
def dB(j:Nat)(fb:M D):M D:=fun r=>if (own r[j]?).isSome then Tz fb (DU j) r else .no
def cx:D->D->Option D|.int i,.int j=>some (.int (i+j))|.tup xs,.tup ys=>if xs.length+ys.length<=ur then some (.tup (xs++ys)) else none|.lst xs,.lst ys=>if xs.length+ys.length<=ur then some (.lst (xs++ys)) else none|_,_=>none
def uR(d:D)(lo hi:XY):Ui:=match d with|.tup xs=>some (.tup (cutD xs lo hi))|.lst xs=>some (.lst (cutD xs lo hi))|_=>none
def zP(g g2:D->D->Ui)(a b c:M D):M D:=Tz a fun x=>Tz b fun y=>Tz (opt (g x y)) fun d=>match d with|.bl true=>Tz c fun z=>opt (g2 y z)|.bl false=>ret (.bl false)|_=>stuck
noncomputable def Fy(t:List (Str×D)):D->Option D|.str k=>t.lookup k|_=>none
def HJ(f:M D):M (List D):=Tz f fun d=>opt ((c5 d).map List.reverse)
def Br(d:D):Ui:=(c5 d).map fun xs=>.tup xs.reverse
noncomputable def i5:OK->Option (List Bool)|[]=>some []|.bl b::r=>(i5 r).map (b::·)|_=>none
def mq(al:Bool):D->Option D|.lst ds=>(i5 ds).map fun bs=>.bl (if al then bs.all id else bs.any id)|_=>none
noncomputable def ua(neg:Bool)(t:List (Str×D))(ab:Ut):D->Option D
|.str k=>match t.lookup k with
  |some _=>some (.bl (!neg))|none=>if ab.contains k then some (.bl neg) else none
 |_=>none
noncomputable def jS:D->Bool|.bB=>true|.bl _=>true|.int _=>true|.str _=>true|_=>false
def inD(neg:Bool)(x y:D):Ui:=match c5 y with|some ds=>if jS x&&ds.all jS then some (.bl (if neg then !(ds.any fun y=>eqB y x) else ds.any fun y=>eqB y x)) else none|none=>none
noncomputable def aC(cs:Ut)(f:Str):D->Option D|.ins c ns vs=>if cs.contains c then(ns.zip vs).lookup f else none|_=>none
noncomputable def iS(f:Str)(v:D):Ut->OK->List Str×List D|n::ns,x::vs=>if n=f then(n::ns,v::vs) else(n::(iS f v ns vs).1,x::(iS f v ns vs).2)|_,_=>([f],[v])
def j5(cs:Ut)(f:Str)(v:D):D->Option D|.ins c ns vs=>if cs.contains c&&decide (ns.length<1000) then some (.ins c (iS f v ns vs).1 (iS f v ns vs).2) else none|_=>none
def bO(i:Nat)(cs:Ut)(f:Str)(fv:M D):M Fl:=Tz fv fun v=>Gq (fJ i (j5 cs f v))
def Ba(c:Str)(f:Fn)(vs:List AV):M D:=fun r=>match nU f (.io r.length::vs) (r++[.ow (.ins c [] [])]) with
 |.ok .bB r'=>match r'[r.length]? with
   |some (.ow d)=>.ok d (r'.take r.length)|_=>.no
  |.exc x r'=>.exc x (r'.take r.length)|_=>.no
def dr(c:Str)(f:Fn)(as:List Arg):M D:=Tz (bL as) fun vs=>Ba c f vs
noncomputable def iJ(c m:Str):D->Bool|.ins c' ns _=>c' == c&&!ns.contains m|_=>false
def df(c m:Str)(f:Fn)(fo:M D)(as:List Arg):M D:=Tz fo fun o=>if iJ c m o then Tz (bL as) fun vs=>nU f (.val o::vs) else stuck
noncomputable def bo(subs:TX)(x:D):Ui:=match x with|.ins c _ _=>(subs.lookup c).map .bl|_=>none
def a7:M Fl:=stuck
noncomputable def iG(ds:OK):OK:=List.zipWith (fun(i:Nat) d=>D.tup [.int i,d]) (List.range ds.length) ds
def jP:OK->Option (List D)|[.lst ds]=>some (iG ds)|_=>none
def kP(fl:List (M D)):M (List D):=Tz (mL fl) fun xs=>opt (jP xs)
noncomputable def Fb:OK->Option (List D)|[.int i,.int j,.int k]=>if k=-1/\(-(2 ^ 62)<=i/\i<2 ^ 62)/\-(2 ^ 62)<=j/\j<2 ^ 62 then some ((List.range (i-j).toNat).map fun(k:Nat)=>.int (i-k)) else none|_=>none
def Ec(fl:List (M D)):M (List D):=Tz (mL fl) fun xs=>opt (Fb xs)
end VP
end
section
namespace VP
def Q2c:D->D->Option D|.int i,.int j=>cD (.int i) (.int j)|.tup xs,.int k=>if -(ur:Int)<=k/\k<=ur/\xs.length*k.toNat<=ur then some (.tup (List.replicate k.toNat xs).flatten) else none|_,_=>none
def mulL:D->D->Option D|.lst xs,.int k=>if -(ur:Int)<=k/\k<=ur/\xs.length*k.toNat<=ur then some (.lst (List.replicate k.toNat xs).flatten) else none|_,_=>none
def Q2W:D->D->Option D|.str x,.int i=>if x.length<=ur/\0<=i then(x.cps.toList[i.toNat]?).map fun c=>.str ⟨#[c]⟩ else none|_,_=>none
noncomputable def IH:D->D->Option D|.int i,.int j=>if 0<=j/\j<=1000/\i.natAbs<2 ^ 64 then some (.int (i ^ j.toNat)) else none|_,_=>none
def tU(c:M Bool)(body:M Fl):M Fl:=gT c body 10000
def Q2R(i:Nat):M D:=fun r=>match own r[i]? with
 |some (.lst xs)=>match xs.getLast? with
   |some d=>.ok d (cE i (.lst xs.dropLast) r)|none=>.no
  |_=>.no
def xm(x:D):D->Option D
|.lst xs=>match x with
  |.lst ys=>if xs.length+ys.length<=ur then some (.lst (xs++ys)) else none|_=>none
 |_=>none
def Ff(i:Nat)(fe:M D):M Fl:=fun r=>if isLst (own r[i]?) then Tz fe (fun x=>Gq (fJ i (xm x))) r else .no
noncomputable def jF:Sl->Sl|.ow d=>.sh d|.io d=>.sh d|s=>s
mutual
noncomputable def AP:D->Bool|.bB=>true|.bl _=>true|.int _=>true|.str _=>true|.tup ds=>noLs ds|_=>false
noncomputable def noLs:OK->Bool|[]=>true|d::ds=>AP d&&noLs ds
end
def pL(f:M D):M D:=fun r=>match f (r.map jF) with|.ok (.lst ds) _=>if noLs ds then .ok (.lst ds) r else .no|_=>.no
noncomputable def Qm:List (Sum Int Str)->OK->Sum Int Str->Option D|k'::ks,v::vs,k=>if k'=k then some v else Qm ks vs k|_,_,_=>none
noncomputable def xj(k:Sum Int Str)(v:D):List (Sum Int Str)->OK->List (Sum Int Str)×List D|k'::ks,x::vs=>if k'=k then(k'::ks,v::vs) else(k'::(xj k v ks vs).1,x::(xj k v ks vs).2)|_,_=>([k],[v])
def lG:D->D->Option D|.fP ks vs,.int k=>Qm ks vs (.inl k)|_,_=>none
def putD(k v:D):D->Option D
|.fP ks vs=>match k with
  |.int i=>if ks.length<1000 then some (.fP (xj (.inl i) v ks vs).1 (xj (.inl i) v ks vs).2) else none|_=>none
 |_=>none
def Ai(i:Nat)(fk fv:M D):M Fl:=Tz fv fun v=>fun r=>if (own r[i]?).isSome then Tz fk (fun k=>Gq (fJ i (putD k v))) r else .no
noncomputable def DW:Sum Int Str->D|.inl i=>.int i|.inr s=>.str s
def DX:D->Option (List D)|.fP ks _=>some (ks.map DW)|_=>none
def vA(f:M D):M (List D):=Tz f fun d=>opt (DX d)
def nB:D->Option D
|.fP _ vs=>match eT vs with
  |some (i::is)=>some (.int (is.foldl (fun a b=>if a<b then b else a) i))|_=>none
 |_=>none
noncomputable def qQ:D->Option D|.fP ks vs=>some (.fP ks vs)|_=>none
end VP
end
section
set_option linter.all false
set_option maxRecDepth 100000
abbrev V1(X:L2.Cx)(e:PySem.Expr)(l:List PySem.Expr):Prop:=PySem.starEach (e::l) X.env=(false,PySem.eval e X.env)::PySem.starEach l X.env
abbrev Lw(X:L2.Cx)(x:PySem.Str):Prop:=X.fn x=true\/X.env.scope.names.lookup x=some .local
abbrev Jn(X:L2.Cx)(p:PySem.Pos)(l:List PySem.Expr):Prop:=(PySem.backTo p (PySem.starEach l X.env)).any (·.1)=false
namespace VS
open PySem PySem.Spec PyProof.Rows L2 VP
abbrev Frag:=W.Frag
abbrev St:=L2.St
abbrev MG:=Str->Option Value
def Yq(a C:Addr)(dx:ZF):Heap->Prop:=fun h=>∃vs sl,h.get? a=some ⟨.ref C,dx,.fields vs,sl⟩/\vs[2]?=some .none
mutual
inductive Den(K:Frag)(mg:MG)(F:Hp):V->D->Prop where
 |bB:Den K mg F .bB .bB|bl (b:Bool):Den K mg F (.bl b) (.bl b)|int (i:Int):Den K mg F (.int i) (.int i)|str (x:Str):Den K mg F (.str x) (.str x)|tup {a:Addr} {vs:Pk} {ds:OK} (h:dW K F a vs) (r:aN K mg F vs ds):Den K mg F (.ref a) (.tup ds)|lst {a:Addr} {vs:Pk} {ds:OK} (h:cn K F a vs) (r:aN K mg F vs ds):Den K mg F (.ref a) (.lst ds)|fP {a:Addr} {aZ:List (Key×V)} {ep:Nat} {ds:OK} (h:F a=some (.dK aZ ep)) (r:aN K mg F (aZ.map (·.2)) ds):Den K mg F (.ref a) (.fP (aZ.map (·.1)) ds)|ins {a C dx:Addr} {c:Str} {fs:List (Str×V)} {ds:OK} (h:F a=some (.ins C dx fs)) (hc:mg c=some (.ref C)) (r:aN K mg F (fs.map (·.2)) ds):Den K mg F (.ref a) (.ins c (fs.map (·.1)) ds)|Ge {a C:Addr} {dx:ZF} {c:Str} {fs:List (Str×V)} {ds:OK} (h:F a=some (.ext (Yq a C dx))) (hc:mg c=some (.ref C)) (hf:(dx=none/\fs=[])\/∃b,dx=some b/\F b=some (.xd fs)) (r:aN K mg F (fs.map (·.2)) ds):Den K mg F (.ref a) (.Ge c (fs.map (·.1)) ds)
inductive aN(K:Frag)(mg:MG)(F:Hp):Pk->OK->Prop where
 |nil:aN K mg F [] []|cons {v:V} {d:D} {vs:Pk} {ds:OK} (h:Den K mg F v d) (t:aN K mg F vs ds):aN K mg F (v::vs) (d::ds)
end
section
variable{K:Frag}{mg:MG}{F:Hp}{v:V}{ds:OK}
theorem Den.n(h:Den K mg F v .bB):v=.bB:=by cases h;rfl
theorem Den.b{b:Bool}(h:Den K mg F v (.bl b)):v=.bl b:=by cases h;rfl
theorem Den.i{i:Int}(h:Den K mg F v (.int i)):v=.int i:=by cases h;rfl
theorem Den.s{x:Str}(h:Den K mg F v (.str x)):v=.str x:=by cases h;rfl
theorem Den.t(h:Den K mg F v (.tup ds)):∃a vs,v=.ref a/\dW K F a vs/\aN K mg F vs ds:=by cases h with|tup h r=>exact⟨_,_,rfl,h,r⟩
theorem Den.l(h:Den K mg F v (.lst ds)):∃a vs,v=.ref a/\cn K F a vs/\aN K mg F vs ds:=by cases h with|lst h r=>exact⟨_,_,rfl,h,r⟩
theorem aN.n{vs:Pk}(h:aN K mg F vs []):vs=[]:=by cases h;rfl
theorem aN.c{vs:Pk}{d:D}(h:aN K mg F vs (d::ds)):∃v ws,vs=v::ws/\Den K mg F v d/\aN K mg F ws ds:=by cases h with|cons h r=>exact⟨_,_,rfl,h,r⟩
end
theorem dW.same{K:Frag}{F F':Hp}{a:Addr}{xs:Pk}(h:dW K F a xs)(e:aE F F'):dW K F' a xs:=by
 rcases h with (h|⟨o,h⟩)|h
 exact .inl (.inl (e _ _ h));exact .inl (.inr ⟨o,e _ _ h⟩);exact .inr h
theorem cn.same{K:Frag}{F F':Hp}{a:Addr}{xs:Pk}(h:cn K F a xs)(e:aE F F'):cn K F' a xs:=e.seq h
section
variable{K:Frag}{mg:MG}{F F' H H':Hp}
theorem Den.same(e:aE F F'){v:V}{d:D}(h:Den K mg F v d):Den K mg F' v d:=Den.rec (motive_1:=fun v d _=>Den K mg F' v d) (motive_2:=fun vs ds _=>aN K mg F' vs ds) .bB .bl .int .str (fun h _ r=>.tup (dW.same h e) r) (fun h _ r=>.lst (cn.same h e) r) (fun h _ r=>.fP (e _ _ h) r) (fun h hc _ r=>.ins (e _ _ h) hc r) (fun h hc hf _ r=>.Ge (e _ _ h) hc (hf.imp id (Exists.imp fun _=>And.imp id (e _ _))) r) .nil (fun _ _ h t=>.cons h t) h
theorem aN.ind{P:Pk->OK->Prop}(n:P [] [])(c:∀{v d vs ds},Den K mg F v d->aN K mg F vs ds->P vs ds->P (v::vs) (d::ds)){vs:Pk}{ds:OK}(h:aN K mg F vs ds):P vs ds:=aN.rec (motive_1:=fun _ _ _=>True) (motive_2:=fun vs ds _=>P vs ds) ⟨⟩ (fun _=>⟨⟩) (fun _=>⟨⟩) (fun _=>⟨⟩) (fun _ _ _=>⟨⟩) (fun _ _ _=>⟨⟩) (fun _ _ _=>⟨⟩) (fun _ _ _ _=>⟨⟩) (fun _ _ _ _ _=>⟨⟩) n (fun h t _=>c h t) h
theorem aN.same(e:aE F F'){vs:Pk}{ds:OK}(h:aN K mg F vs ds):aN K mg F' vs ds:=h.ind .nil fun h _=>.cons (h.same e)
theorem aN.length{vs:Pk}{ds:OK}(h:aN K mg F vs ds):vs.length=ds.length:=h.ind (P:=fun vs ds=>vs.length=ds.length) rfl fun _ _=>congrArg Nat.succ
theorem aN.append{vs ws:Pk}{ds es:OK}(h:aN K mg F vs ds)(s:aN K mg F ws es):aN K mg F (vs++ws) (ds++es):=h.ind (P:=fun vs ds=>aN K mg F (vs++ws) (ds++es)) s fun h _=>.cons h
theorem aN.get:∀{vs:Pk}{ds:OK}{i:Nat}{d:D},aN K mg F vs ds->ds[i]?=some d->∃v,vs[i]?=some v/\Den K mg F v d|_,_,_,_,.nil,e=>by simp at e|_,_,0,_,.cons h _,e=>by simp at e;subst e;exact⟨_,rfl,h⟩|_,_,i+1,_,.cons _ t,e=>by obtain⟨v,h1,h2⟩:=aN.get (i:=i) t (by simpa using e);exact⟨v,by simpa using h1,h2⟩
theorem aN.set:∀{vs:Pk}{ds:OK}{v:V}{d:D}(i:Nat),aN K mg F vs ds->Den K mg F v d->aN K mg F (vs.set i v) (ds.set i d)|_,_,_,_,_,.nil,_=>.nil|_,_,_,_,0,.cons _ t,h=>.cons h t|_,_,_,_,i+1,.cons q t,h=>.cons q (aN.set i t h)
theorem aN.take:∀{vs:Pk}{ds:OK}(n:Nat),aN K mg F vs ds->aN K mg F (vs.take n) (ds.take n)|_,_,0,_=>by simpa using aN.nil|_,_,_+1,.nil=>.nil|_,_,n+1,.cons h t=>.cons h (aN.take n t)
theorem aN.drop:∀{vs:Pk}{ds:OK}(n:Nat),aN K mg F vs ds->aN K mg F (vs.drop n) (ds.drop n)|_,_,0,h=>by simpa using h|_,_,_+1,.nil=>.nil|_,_,n+1,.cons _ t=>aN.drop n t
theorem aN.reverse(h:aN K mg F vs ds):aN K mg F vs.reverse ds.reverse:=by induction vs generalizing ds with|nil=>cases h;exact .nil|cons v vs ih=>cases h with|cons h t=>simp only[List.reverse_cons];exact(ih t).append (.cons h .nil)
theorem aN.ints(ns:ZX):aN K mg F (ns.map V.int) (ns.map D.int):=by induction ns with|nil=>exact .nil|cons n r ih=>exact .cons (.int n) ih
theorem aN.map{α:Type}{f:α->V}{g:α->D}(h:∀a,Den K mg F (f a) (g a))(l:List α):aN K mg F (l.map f) (l.map g):=by induction l with|nil=>exact .nil|cons a l ih=>exact .cons (h a) ih
def fF(K:Frag)(mg:MG)(F H:Hp)(l:Addr):D->Prop|.lst ds=>∃vs,H l=some (.lst vs)/\aN K mg F vs ds|.fP ks ds=>∃aZ ep,H l=some (.dK aZ ep)/\aZ.map (·.1)=ks/\aN K mg F (aZ.map (·.2)) ds|.ins c ns ds=>∃C dx fs,H l=some (.ins C dx fs)/\mg c=some (.ref C)/\fs.map (·.1)=ns/\aN K mg F (fs.map (·.2)) ds|_=>False
theorem fF.same(h:fF K mg F H l d)(e:aE F F')(eh:∀o,H l=some o->H' l=some o):fF K mg F' H' l d:=by cases d with|lst ds=>obtain⟨vs,h1,h2⟩:=h;exact⟨vs,eh _ h1,h2.same e⟩|fP ks ds=>obtain⟨aZ,ep,h1,h2,h3⟩:=h;exact⟨aZ,ep,eh _ h1,h2,h3.same e⟩|ins c ns ds=>obtain⟨C,dx,fs,h1,h2,h3,h4⟩:=h;exact⟨C,dx,fs,eh _ h1,h2,h3,h4.same e⟩|_=>exact h.elim
theorem fF.has(h:fF K mg F H l d):∃o,H l=some o:=by cases d with|lst ds=>obtain⟨vs,h1,h2⟩:=h;exact⟨_,h1⟩|fP ks ds=>obtain⟨aZ,ep,h1,h2,h3⟩:=h;exact⟨_,h1⟩|ins c ns ds=>obtain⟨C,dx,fs,h1,h2,h3,h4⟩:=h;exact⟨_,h1⟩|_=>exact h.elim
theorem fF.den(h:fF K mg F H l d)(ho:H l=some o)(e:aE F F')(hl:F' l=some o):Den K mg F' (.ref l) d:=by cases d with|lst ds=>obtain⟨vs,h1,h2⟩:=h;rw[ho] at h1;cases h1;exact .lst (cn.of hl) (h2.same e)|fP ks ds=>obtain⟨aZ,ep,h1,rfl,h3⟩:=h;rw[ho] at h1;cases h1;exact .fP hl (h3.same e)|ins c ns ds=>obtain⟨C,dx,fs,h1,h2,rfl,h4⟩:=h;rw[ho] at h1;cases h1;exact .ins hl h2 (h4.same e)|_=>exact h.elim
end
structure Fx where
 H₀:Hp
 aW:Hp
 io:List (Nat×Addr)
def uB(K:Frag)(mg:MG)(G:Fx)(F H:Hp)(i:Nat)(v:Option V):Sl->Prop|.no=>True|.sh d=>∃u,v=some u/\Den K mg F u d|.ow d=>∃l,v=some (.ref l)/\F l=none/\G.H₀ l=none/\fF K mg F H l d|.io d=>∃l,v=some (.ref l)/\(i,l)∈G.io/\F l=none/\fF K mg F H l d
noncomputable def ck:Sl->Bool|.ow _=>true|.io _=>true|_=>false
structure Good(K:Frag)(mg:MG)(G:Fx)(F H:Hp)(σ:St)(ρ:aU):Prop where
 sF:aE G.aW F
 sub:aE F H
 old:∀a o,G.H₀ a=some o->(∀i,(i,a)∉G.io)->H a=some o
 new:∀a o,F a=some o->G.aW a=some o\/G.H₀ a=none
 len:σ.length=ρ.length
 slot:∀(i:Nat)(s:Sl),ρ[i]?=some s->uB K mg G F H i (σ[i]?.join) s
 apart:∀(i j:Nat)(l:Addr)(s t:Sl),ρ[i]?=some s->ρ[j]?=some t->ck s=true->ck t=true->σ[i]?=some (some (V.ref l))->σ[j]?=some (some (V.ref l))->i=j
 nt:∀i a,(i,a)∈G.io->(∃o,H a=some o)/\F a=none/\∃o,G.H₀ a=some o
 nT:∀i a b,(i,a)∈G.io->(i,b)∈G.io->a=b
section
variable{K:Frag}{mg:MG}{G:Fx}{F F' H H':Hp}{σ:St}{ρ:aU}
theorem uB.own(h:uB K mg G F H i v s)(o:ck s=true):∃l d,v=some (.ref l)/\F l=none/\fF K mg F H l d/\(s=.ow d\/s=.io d):=by cases s with|no=>cases o|sh d=>cases o|ow d=>obtain⟨l,h1,h2,h3,h4⟩:=h;exact⟨l,d,h1,h2,h4,.inl rfl⟩|io d=>obtain⟨l,h1,h2,h3,h4⟩:=h;exact⟨l,d,h1,h3,h4,.inr rfl⟩
theorem uB.same(h:uB K mg G F H i v s)(e:aE F F')(hn:∀l,v=some (.ref l)->ck s=true->F l=none->(∃o,H l=some o)->F' l=none)(eh:∀l o,v=some (.ref l)->ck s=true->H l=some o->H' l=some o):uB K mg G F' H' i v s:=by cases s with|no=>trivial|sh d=>obtain⟨u,h1,h2⟩:=h;exact⟨u,h1,h2.same e⟩|ow d=>obtain⟨l,h1,h2,h3,h4⟩:=h;exact⟨l,h1,hn l h1 rfl h2 h4.has,h3,h4.same e fun o=>eh l o h1 rfl⟩|io d=>obtain⟨l,h1,h2,h3,h4⟩:=h;exact⟨l,h1,h2,hn l h1 rfl h3 h4.has,h4.same e fun o=>eh l o h1 rfl⟩
theorem Good.ext(g:Good K mg G F H σ ρ)(eF:aE F F')(eH:aE H H')(sub:aE F' H')(new:∀a o,F' a=some o->F a=some o\/H a=none):Good K mg G F' H' σ ρ where
 sF:=g.sF.trans eF
 sub:=sub
 old:=fun a o e n=>eH _ _ (g.old a o e n)
 new:=fun a o e=>by rcases new a o e with h|h;exact g.new a o h;refine .inr ?_;cases q:G.H₀ a with|none=>rfl|some u=>by_cases z:∃i,(i,a)∈G.io;obtain⟨i,z⟩:=z;obtain⟨⟨w,hw⟩,_⟩:=g.nt i a z;rw[h] at hw;cases hw;have:=g.old a u q (fun i w=>z ⟨i,w⟩);rw[h] at this;cases this
 len:=g.len
 slot:=fun i s h=>(g.slot i s h).same eF (fun l _ _ hf ⟨o,ho⟩=>by cases q:F' l with|none=>rfl|some u=>rcases new l u q with z|z;rw[hf] at z;cases z;rw[ho] at z;cases z) fun l o _ _ e=>eH _ _ e
 apart:=g.apart
 nt:=fun i a h=>by obtain⟨⟨o,h1⟩,h2,h3⟩:=g.nt i a h;refine⟨⟨o,eH _ _ h1⟩,?_,h3⟩;cases q:F' a with|none=>rfl|some u=>rcases new a u q with z|z;rw[h2] at z;cases z;rw[h1] at z;cases z
 nT:=g.nT
theorem a8(h:A p=none):aE A (upd A p o):=fun b q e=>by rw[aF (aT e h)];exact e
theorem Good.laid(g:Good K mg G F H σ ρ)(hp:H p=none):Good K mg G (upd F p o) (upd H p o) σ ρ:=by have fp:F p=none:=g.sub.free hp;refine g.ext (a8 fp) (a8 hp) (fun b q e=>?_) fun a u e=>?_;by_cases hb:b=p;subst hb;rw[aB] at e ⊢;exact e;rw[aF hb] at e ⊢;exact g.sub _ _ e;by_cases hb:a=p;subst hb;exact .inr hp;rw[aF hb] at e;exact .inl e
theorem Good.made(g:Good K mg G F H σ ρ)(hp:H p=none):Good K mg G F (upd H p o) σ ρ:=g.ext (aE.refl _) (a8 hp) (g.sub.trans (a8 hp)) fun a u e=>.inl e
theorem Good.El(g:Good K mg G F H σ ρ)(hp:H p=none):G.H₀ p=none:=by cases q:G.H₀ p with|none=>rfl|some u=>by_cases z:∃i,(i,p)∈G.io;obtain⟨i,z⟩:=z;obtain⟨⟨w,hw⟩,_⟩:=g.nt i p z;rw[hp] at hw;cases hw;have:=g.old p u q (fun i w=>z ⟨i,w⟩);rw[hp] at this;cases this
structure Loose(K:Frag)(mg:MG)(G:Fx)(F H:Hp)(σ:St)(ρ:aU)(l:Addr)(d:D):Prop where
 nF:F l=none
 n0:G.H₀ l=none
 ob:fF K mg F H l d
 ns:∀(i:Nat)(s:Sl),ρ[i]?=some s->ck s=true->σ[i]?≠some (some (V.ref l))
theorem Good.loose(g:Good K mg G F H σ ρ)(hp:H p=none)(ho:fF K mg F (upd H p o) p d):Loose K mg G F (upd H p o) σ ρ p d where
 nF:=g.sub.free hp
 n0:=g.El hp
 ob:=ho
 ns:=fun i s h o e=>by obtain⟨l,d,h1,h2,h3,h4⟩:=(g.slot i s h).own o;rw[e] at h1;cases h1;obtain⟨u,hu⟩:=h3.has;rw[hp] at hu;cases hu
theorem Loose.fast(x:Loose K mg G F H σ ρ l d)(g:Good K mg G F H σ ρ):∃F',aE F F'/\Good K mg G F' H σ ρ/\Den K mg F' (.ref l) d:=by
 obtain⟨o,ho⟩:=x.ob.has;refine⟨upd F l o,a8 x.nF,?_,x.ob.den ho (a8 x.nF) aB⟩;exact {
  sF:=g.sF.trans (a8 x.nF)
  sub:=fun b q e=>by by_cases hb:b=l;subst hb;rw[aB] at e;cases e;exact ho;rw[aF hb] at e;exact g.sub _ _ e
  old:=g.old
  new:=fun a u e=>by by_cases hb:a=l;subst hb;exact .inr x.n0;rw[aF hb] at e;exact g.new a u e
  len:=g.len
  slot:=fun i s h=>(g.slot i s h).same (a8 x.nF) (fun m hv ow hf _=>by
   have:m≠l:=fun z=>by subst z;refine x.ns i s h ow ?_;cases q:σ[i]? with|none=>rw[q] at hv;cases hv|some w=>rw[q] at hv;exact congrArg some hv
   rw[aF this];exact hf) fun _ _ _ _ e=>e
  apart:=g.apart
  nt:=fun i a h=>by
   obtain⟨h1,h2,u,h3⟩:=g.nt i a h;refine⟨h1,?_,u,h3⟩;have:a≠l:=fun z=>by subst z;rw[x.n0] at h3;cases h3
   rw[aF this];exact h2
  nT:=g.nT}
theorem join_some{σ:St}{i:Nat}{v:V}(h:σ[i]?.join=some v):σ[i]?=some (some v):=by cases q:σ[i]? with|none=>rw[q] at h;cases h|some w=>rw[q] at h;exact congrArg some h
theorem Good.store(g:Good K mg G F H σ ρ)(hf:free ρ[i]?=true)(hs:uB K mg G F H i (some v) s')(Xz:ck s'=true->∀(j:Nat)(s:Sl),ρ[j]?=some s->ck s=true->j≠i->σ[j]?≠some (some v)):Good K mg G F H (σ.set i (some v)) (ρ.set i s') where
 sF:=g.sF
 sub:=g.sub
 old:=g.old
 new:=g.new
 len:=by simp[g.len]
 slot:=fun j s h=>by
  by_cases hj:j=i;subst hj;have hi:j<ρ.length:=by cases q:ρ[j]? with|none=>rw[q] at hf;cases hf|some w=>exact(List.getElem?_eq_some_iff.mp q).1
  rw[Vb hi] at h;cases h;rw[Vb (by rw[g.len];exact hi)];exact hs;rw[RH (UH hj)] at h ⊢;exact g.slot j s h
 apart:=fun j k l s t h1 h2 o1 o2 e1 e2=>by
  by_cases hj:j=i;by_cases hk:k=i;rw[hj,hk];subst hj;rw[RH (UH hk)] at h2 e2;have hi:j<ρ.length:=by cases q:ρ[j]? with|none=>rw[q] at hf;cases hf|some w=>exact(List.getElem?_eq_some_iff.mp q).1
  rw[Vb hi] at h1;cases h1;rw[Vb (by rw[g.len];exact hi)] at e1;cases e1;exact absurd e2 (Xz o1 k t h2 o2 hk);rw[RH (UH hj)] at h1 e1;by_cases hk:k=i;subst hk;have hi:k<ρ.length:=by cases q:ρ[k]? with|none=>rw[q] at hf;cases hf|some w=>exact(List.getElem?_eq_some_iff.mp q).1
  rw[Vb hi] at h2;cases h2;rw[Vb (by rw[g.len];exact hi)] at e2;cases e2;exact absurd e1 (Xz o2 j s h1 o1 hj);rw[RH (UH hk)] at h2 e2;exact g.apart j k l s t h1 h2 o1 o2 e1 e2
 nt:=g.nt
 nT:=g.nT
theorem Good.write(g:Good K mg G F H σ ρ)(hr:ρ[i]?=some s)(ho:ck s=true)(hl:σ[i]?=some (some (V.ref l)))(hs:(∃e,s=.ow e/\s'=.ow d)\/(∃e,s=.io e/\s'=.io d)) (hd:fF K mg F (upd H l o) l d):Good K mg G F (upd H l o) σ (ρ.set i s'):=by
 have nF:F l=none:=by obtain⟨m,e,h1,h2,h3,_⟩:=(g.slot i s hr).own ho;rw[hl] at h1;cases h1;exact h2
 have hi:i<ρ.length:=(List.getElem?_eq_some_iff.mp hr).1;have ow':ck s'=true:=by rcases hs with ⟨e,_,rfl⟩|⟨e,_,rfl⟩<;>rfl
 exact {
  sF:=g.sF
  sub:=fun b q e=>by have:b≠l:=aT e nF;rw[aF this];exact g.sub _ _ e
  old:=fun a q e n=>by
   have:a≠l:=fun z=>by
    subst z;have k:=g.slot i s hr;rcases hs with ⟨e',rfl,_⟩|⟨e',rfl,_⟩
    obtain⟨m,h1,h2,h3,_⟩:=k;rw[hl] at h1;cases h1;rw[e] at h3;cases h3;obtain⟨m,h1,h2,h3,_⟩:=k;rw[hl] at h1;cases h1;exact n i h2
   rw[aF this];exact g.old a q e n
  new:=g.new
  len:=by simp[g.len]
  slot:=fun j t h=>by
   by_cases hj:j=i;subst hj;rw[Vb hi] at h;cases h;have k:=g.slot j s hr;rcases hs with ⟨e',rfl,rfl⟩|⟨e',rfl,rfl⟩
   obtain⟨m,h1,h2,h3,_⟩:=k;rw[hl] at h1;cases h1;rw[hl];exact⟨l,rfl,h2,h3,hd⟩;obtain⟨m,h1,h2,h3,_⟩:=k;rw[hl] at h1;cases h1;rw[hl];exact⟨l,rfl,h2,h3,hd⟩;rw[RH (UH hj)] at h;refine(g.slot j t h).same (aE.refl _) (fun _ _ _ z _=>z) fun m q hv ow e=>?_;have:m≠l:=fun z=>by subst z;exact hj (g.apart j i m t s h hr ow ho (join_some hv) hl)
   rw[aF this];exact e
  apart:=fun j k m t u h1 h2 o1 o2 e1 e2=>by
   have f:∀{j:Nat}{t:Sl},(ρ.set i s')[j]?=some t->ck t=true->∃t',ρ[j]?=some t'/\ck t'=true:=fun {j t} h o=>by by_cases hj:j=i;subst hj;exact⟨s,hr,ho⟩;rw[RH (UH hj)] at h;exact⟨t,h,o⟩
   obtain⟨t',a1,a2⟩:=f h1 o1;obtain⟨u',b1,b2⟩:=f h2 o2;exact g.apart j k m t' u' a1 b1 a2 b2 e1 e2
  nt:=fun j a h=>by obtain⟨⟨q,h1⟩,h2,h3⟩:=g.nt j a h;refine⟨?_,h2,h3⟩;by_cases ha:a=l;subst ha;exact⟨o,aB⟩;exact⟨q,by rw[aF ha];exact h1⟩
  nT:=g.nT}
theorem Good.fz{i:Nat}{d:D}(g:Good K mg G F H σ ρ)(hr:ρ[i]?=some (.ow d)):∃F',aE F F'/\Good K mg G F' H σ (ρ.set i (.sh d)):=by
 obtain⟨l,h1,h2,h3,h4⟩:=g.slot i _ hr;have hl:=join_some h1;have hi:i<ρ.length:=(List.getElem?_eq_some_iff.mp hr).1;obtain⟨o,ho⟩:=h4.has;refine⟨upd F l o,a8 h2,?_⟩;exact {
  sF:=g.sF.trans (a8 h2)
  sub:=fun b q e=>by by_cases hb:b=l;subst hb;rw[aB] at e;cases e;exact ho;rw[aF hb] at e;exact g.sub _ _ e
  old:=g.old
  new:=fun a u e=>by by_cases hb:a=l;subst hb;exact .inr h3;rw[aF hb] at e;exact g.new a u e
  len:=by simp[g.len]
  slot:=fun j s h=>by
   by_cases hj:j=i;subst hj;rw[Vb hi] at h;cases h;exact⟨_,h1,h4.den ho (a8 h2) aB⟩;rw[RH (UH hj)] at h;refine(g.slot j s h).same (a8 h2) (fun m hv ow hf _=>?_) fun _ _ _ _ e=>e;have:m≠l:=fun z=>by subst z;exact hj (g.apart j i m s _ h hr ow rfl (join_some hv) hl)
   rw[aF this];exact hf
  apart:=fun j k m t u h1 h2 o1 o2 e1 e2=>by
   have f:∀{j:Nat}{t:Sl},(ρ.set i (.sh d))[j]?=some t->ck t=true->ρ[j]?=some t:=fun {j t} h o=>by by_cases hj:j=i;subst hj;rw[Vb hi] at h;cases h;cases o;rw[RH (UH hj)] at h;exact h
   exact g.apart j k m t u (f h1 o1) (f h2 o2) o1 o2 e1 e2
  nt:=fun j a h=>by
   obtain⟨q1,q2,u,q3⟩:=g.nt j a h;refine⟨q1,?_,u,q3⟩;have:a≠l:=fun z=>by subst z;rw[h3] at q3;cases q3
   rw[aF this];exact q2
  nT:=g.nT}
end
def XR(K:Frag)(mg:MG)(F H:Hp)(c:Value)(dx:ZF)(x:Xn):Prop:=∃C,c=.ref C/\mg x.cls=some (.ref C)/\∃fs:List (Str×V),((dx=none/\fs=[])\/∃a,dx=some a/\F a=some (.xd fs))/\fs.map (·.1)=x.ns/\aN K mg F (fs.map (·.2)) x.vs
abbrev XE:=St->XK
structure Lc where
 K:Frag
 mg:MG
 EX:XE
def Out{α:Type}:Res α->(α->aU->Prop)->(Xn->aU->Prop)->Prop|.ok a r,P,_=>P a r|.exc x r,_,E=>E x r|.no,_,_=>False
theorem Out.Tz{α β:Type}{f:M α}{g:α->M β}{P:β->aU->Prop}(h:Out (Tz f g r) P E):Out (f r) (fun a r'=>Out (g a r') P E) E:=by unfold VP.Tz at h;cases q:f r with|ok a r'=>rw[q] at h;exact h|exc x r'=>rw[q] at h;exact h|no=>rw[q] at h;exact h
theorem Out.mono{α:Type}{r:Res α}{P P':α->aU->Prop}(h:Out r P E)(hP:∀a r,P a r->P' a r)(hE:∀x r,E x r->E' x r):Out r P' E':=by cases r with|ok a r=>exact hP _ _ h|exc x r=>exact hE _ _ h|no=>exact h
theorem Out.opt{α:Type}{o:Option α}{P:α->aU->Prop}(h:Out (opt o r) P E):∃a,o=some a/\P a r:=by cases o with|none=>exact h.elim|some a=>exact⟨a,rfl,h⟩
theorem Out.ite{α:Type}{f g:M α}{P:α->aU->Prop}(h:Out ((if b then f else g) r) P E):(b=true/\Out (f r) P E)\/(b=false/\Out (g r) P E):=by cases b with|true=>exact .inl ⟨rfl,h⟩|false=>exact .inr ⟨rfl,h⟩
abbrev Rl(α β:Type):=Fx->Hp->Hp->St->aU->β->α->Prop
section
variable(L:Lc)
abbrev Lc.Good(G:Fx)(F H:Hp)(σ:St)(ρ:aU):Prop:=VS.Good L.K L.mg G F H σ ρ
noncomputable def RV:Rl D V:=fun _ F _ _ _ v d=>Den L.K L.mg F v d
noncomputable def RR:Rl D V:=fun _ F H _ _ v d=>Den L.K L.mg F v d\/∃l,v=.ref l/\fF L.K L.mg F H l d
noncomputable def RF:Rl D V:=fun G F H σ ρ v d=>∃l,v=.ref l/\Loose L.K L.mg G F H σ ρ l d
noncomputable def RB:Rl Bool Bool:=fun _ _ _ _ _ b a=>b=a
noncomputable def RL:Rl (List D) (List V):=fun _ F _ _ _ vs ds=>aN L.K L.mg F vs ds
def di(G:Fx)(F:Hp)(σ:St):Xn->aU->Prop:=fun x bV=>∀F' H' c dx,aE F F'->L.Good G F' H' σ bV->XR L.K L.mg F' H' c dx x->L.EX σ c dx H'
def gc{α β:Type}(R:Rl α β)(G:Fx)(F:Hp)(σ:St)(Q:β->Hp->Prop):α->aU->Prop:=fun a bV=>∀F' H' b,aE F F'->L.Good G F' H' σ bV->R G F' H' σ bV b a->Q b H'
def lift{α β:Type}(R:Rl α β)(f:M α):St->Hp->(β->Hp->Prop)->Prop:=fun σ H Q=>∃G F ρ,L.Good G F H σ ρ/\Out (f ρ) (gc L R G F σ Q) (di L G F σ)
end
section
variable{L:Lc}{α β γ:Type}{G:Fx}{F F1 H:Hp}{σ:St}{ρ:aU}
theorem bj{Ra:Rl α β}{f:M α}{g:α->M γ}{P:γ->aU->Prop}{W:β->Hp->Prop}(g0:L.Good G F H σ ρ)(o:Out (Tz f g ρ) P E)(hE:∀x r,E x r->di L G F σ x r)(k:∀F1 H1 bx a b,aE F F1->L.Good G F1 H1 σ bx->Ra G F1 H1 σ bx b a->Out (g a bx) P E->W b H1):lift L Ra f σ H W:=
 ⟨G,F,ρ,g0,o.Tz.mono (fun a bx q F1 H1 b e g1 r=>k F1 H1 bx a b e g1 r q) hE⟩
theorem lf{Ra:Rl α β}{f:M α}{Q:β->Hp->Prop}{C:Prop}(h:lift L Ra f σ H Q)(k:∀G F ρ,L.Good G F H σ ρ->Out (f ρ) (gc L Ra G F σ Q) (di L G F σ)->C):C:=by obtain⟨G,F,ρ,g0,o⟩:=h;exact k G F ρ g0 o
theorem dX{δ:Type}{Ra:Rl α β}{Rb:Rl γ δ}{f:M α}{g:α->M γ}{Q:δ->Hp->Prop}{W:β->Hp->Prop}(h:lift L Rb (Tz f g) σ H Q)(k:∀G F F1 H1 bx a b,aE F F1->L.Good G F1 H1 σ bx->Ra G F1 H1 σ bx b a->Out (g a bx) (gc L Rb G F σ Q) (di L G F σ)->W b H1):lift L Ra f σ H W:=
 lf h fun G F ρ g0 o=>bj g0 o (fun x r q=>q) (k G F)
theorem di.same(e:aE F F1)(h:di L G F σ x r):di L G F1 σ x r:=fun F' H' c dx s g q=>h F' H' c dx (e.trans s) g q
theorem gc.same{R:Rl α β}{Q:β->Hp->Prop}(e:aE F F1){a:α}(h:gc L R G F σ Q a r):gc L R G F1 σ Q a r:=fun F' H' b s g q=>h F' H' b (e.trans s) g q
end
abbrev lc(X:Cx)(EX:XE):Lc:=⟨X.K,X.mg,EX⟩
def PV(X:Cx)(EX:XE)(e:Expr)(f:M D):Prop:=PE X e (lift (lc X EX) (RV (lc X EX)) f)
def PR(X:Cx)(EX:XE)(e:Expr)(f:M D):Prop:=PE X e (lift (lc X EX) (RR (lc X EX)) f)
def PF(X:Cx)(EX:XE)(e:Expr)(f:M D):Prop:=PE X e (lift (lc X EX) (RF (lc X EX)) f)
def PB(X:Cx)(EX:XE)(e:Expr)(f:M Bool):Prop:=PT X e (lift (lc X EX) RB f)
def BQ(X:Cx)(EX:XE)(es:KJ)(f:M (List D)):Prop:=PA X es (lift (lc X EX) (RL (lc X EX)) f)
theorem _root_.L2.PE.le(h:PE X e t)(k:∀σ H Q,t' σ H Q->t σ H Q):PE X e t':=fun WO s σ H Q I q=>h WO s σ H Q I (k _ _ _ q)
theorem _root_.L2.PT.le(h:PT X e t)(k:∀σ H Q,t' σ H Q->t σ H Q):PT X e t':=fun WO s σ H Q I q=>h WO s σ H Q I (k _ _ _ q)
theorem _root_.L2.PA.le(h:PA X es t)(k:∀σ H Q,t' σ H Q->t σ H Q):PA X es t':=fun pos WO s σ H Q I q=>h pos WO s σ H Q I (k _ _ _ q)
theorem _root_.L2.PS.le(h:PS X e t)(k:∀D σ H,t' D σ H->t D σ H):PS X e t':=fun WO s σ H D I q=>h WO s σ H D I (k _ _ _ q)
theorem _root_.L2.rX.le(h:rX X e t)(k:∀D σ H,t' D σ H->t D σ H):rX X e t':=fun WO s σ H D I q=>h WO s σ H D I (k _ _ _ q)
section
variable{X:Cx}{EX:XE}{e a b c:Expr}{f fa fb fc:M D}{pos:Pos}
theorem PV.rd(h:PV X EX e f):PR X EX e f:=h.le fun σ H Q ⟨G,F,ρ,g,o⟩=>⟨G,F,ρ,g,o.mono (fun a r q F' H' b s g' d=>q F' H' b s g' (.inl d)) fun x r q=>q⟩
theorem PF.pv(h:PF X EX e f):PV X EX e f:=h.le fun σ H Q ⟨G,F,ρ,g,o⟩=>⟨G,F,ρ,g,o.mono (fun a r q F' H' b s g' zz=>by obtain⟨l,e,d⟩:=zz;subst e;obtain⟨F2,s2,g2,d2⟩:=d.fast g';exact q F2 H' _ (s.trans s2) g2 d2) fun x r q=>q⟩
theorem aa(i:Nat){x:Str}(hN:autoParam (X.N[i]?=some x) AuP.a._autoParam)(hv:oI X.env.scope x:=by exact Vd)(hd:autoParam (Qu x) AuP.b._autoParam)(gp:autoParam (P7 x) AuP.b._autoParam):PV X EX (.Name x pos) (ag i):=
 (cC hN hv hd gp).le fun σ H Q zz=>by obtain⟨G,F,ρ,g,o⟩:=zz;unfold ag at o;cases q:ρ[i]? with|none=>rw[q] at o;exact o.elim|some s=>rw[q] at o;cases s with|sh d=>obtain⟨u,h1,h2⟩:=g.slot i _ q;exact⟨u,join_some h1,o F H u (aE.refl _) g h2⟩|_=>exact o.elim
theorem gQ(i:Nat){x:Str}(hN:autoParam (X.N[i]?=some x) AuP.a._autoParam)(hv:oI X.env.scope x:=by exact Vd)(hd:autoParam (Qu x) AuP.b._autoParam)(gp:autoParam (P7 x) AuP.b._autoParam):PR X EX (.Name x pos) (sY i):=
 (cC hN hv hd gp).le fun σ H Q zz=>by obtain⟨G,F,ρ,g,o⟩:=zz;unfold sY at o;cases q:ρ[i]? with|none=>rw[q] at o;exact o.elim|some s=>rw[q] at o;have k:=g.slot i _ q;cases s with|no=>exact o.elim|sh d=>obtain⟨u,h1,h2⟩:=k;exact⟨u,join_some h1,o F H u (aE.refl _) g (.inl h2)⟩|ow d=>obtain⟨l,h1,h2,h3,h4⟩:=k;exact⟨_,join_some h1,o F H _ (aE.refl _) g (.inr ⟨l,rfl,h4⟩)⟩|io d=>obtain⟨l,h1,h2,h3,h4⟩:=k;exact⟨_,join_some h1,o F H _ (aE.refl _) g (.inr ⟨l,rfl,h4⟩)⟩
theorem vX(h:PE X e t)(k:∀σ H Q,Q v H->t σ H Q)(hd:∀F,Den X.K X.mg F v d):PV X EX e (mC d):=h.le fun σ H Q ⟨G,F,ρ,g,o⟩=>k σ H Q (o F H v (aE.refl _) g (hd F))
theorem aj{j}:PV X EX (.Constant (.int i) j pos) (mC (.int i)):=vX tJ (fun _ _ _ q=>q) fun _=>.int i
theorem j3{j}:PV X EX (.Constant (.bool i) j pos) (mC (.bl i)):=vX Si (fun _ _ _ q=>q) fun _=>.bl i
theorem iu{j}:PV X EX (.Constant .none j pos) (mC .bB):=vX NO (fun _ _ _ q=>q) fun _=>.bB
theorem az{j}:PV X EX (.Constant (.str i) j pos) (mC (.str i)):=vX NR (fun _ _ _ q=>q) fun _=>.str i
abbrev Gz(L:Lc)(G:Fx)(F:Hp)(σ:St)(ρ:aU)(d:D)(Q:VK):Prop:=∀F' H' v,aE F F'->L.Good G F' H' σ ρ->Den L.K L.mg F' v d->Q v H'
def kU(L:Lc)(r:R2)(g:D->D->Ui):Prop:=∀G F H σ ρ x y dx dy d Q,L.Good G F H σ ρ->Den L.K L.mg F x dx->Den L.K L.mg F y dy->g dx dy=some d->Gz L G F σ ρ d Q->r x y H Q
def W9(L:Lc)(r:V->Hp->VK->Prop)(g:D->Ui):Prop:=∀G F H σ ρ x dx d Q,L.Good G F H σ ρ->RR L G F H σ ρ x dx->g dx=some d->Gz L G F σ ρ d Q->r x H Q
def UP(L:Lc)(r:Pk->Hp->VK->Prop)(g:OK->Ui):Prop:=∀G F H σ ρ xs TN d Q,L.Good G F H σ ρ->aN L.K L.mg F xs TN->g TN=some d->Gz L G F σ ρ d Q->r xs H Q
theorem gC(hg:kU (lc X EX) r g)(ha:∀σ H Q,lift (lc X EX) (RV (lc X EX)) fa σ H Q->ta σ H Q)(hb:∀σ H Q,lift (lc X EX) (RV (lc X EX)) fb σ H Q->tb σ H Q)(σ:St) (H:Hp) (Q:VK) (h:lift (lc X EX) (RV (lc X EX)) (m2 g fa fb) σ H Q):Jw r ta tb σ H Q:=by obtain⟨G,F,ρ,g0,o⟩:=h;refine ha _ _ _ (bj g0 o (fun x r q=>q) fun F1 H1 bx d1 x s1 g1 r1 o1=>?_);refine hb _ _ _ (bj g1 o1 (fun x r q=>q.same s1) fun F2 H2 qk d2 y s2 g2 r2 o2=>?_);obtain⟨d,e,q⟩:=o2.opt;exact hg G F2 H2 σ qk x y d1 d2 d Q g2 (r1.same s2) r2 e (gc.same (s1.trans s2) q)
theorem aI(ho:ij X (binaryOp op) r)(hg:kU (lc X EX) r g)(ha:PV X EX a fa)(hb:PV X EX b fb):PV X EX (.BinOp a op b pos) (m2 g fa fb):=(KO ho ha hb).le (gC hg (fun _ _ _ q=>q) fun _ _ _ q=>q)
theorem ej(ho:ij X (compareOp op) r)(hg:kU (lc X EX) r g)(ha:PV X EX a fa)(hb:PV X EX b fb)(hm:behindInMarks op b=false):PV X EX (.Compare a [op] [b] pos) (m2 g fa fb):=(Iw ho ha hb hm).le (gC hg (fun _ _ _ q=>q) fun _ _ _ q=>q)
theorem lZ(ho:Tw X (unaryOp op) r)(hg:W9 (lc X EX) r g)(ha:PV X EX a fa):PV X EX (.UnaryOp op a pos) (m1 g fa):=(Sk ho ha).le fun σ H Q bH=>dX bH fun G F F1 H1 bx d1 x s1 g1 r1 o1=>by obtain⟨d,e,q⟩:=o1.opt;exact hg G F1 H1 σ bx x d1 d Q g1 (.inl r1) e (gc.same s1 q)
theorem aX(h:PV X EX a fa)(he:∀whole,isTrue a X.env whole=(do let v <-whole;standAt a.pos;holding [v] (truthy v)):=by exact Oc):PB X EX a (tB fa):=(Q1h h he).le fun σ H Q bH=>dX bH fun G F F1 H1 bx d1 x s1 g1 r1 o1=>by cases d1 with|bl k=>obtain rfl:=Den.b r1;exact⟨k,rfl,o1 F1 H1 k s1 g1 rfl⟩|_=>exact o1.elim
theorem fL{op:CmpOp}{r:R2}{g:D->D->Ui}(ho:ij X (compareOp op) r)(hg:kU (lc X EX) r g)(ha:PV X EX a fa)(hb:PV X EX b fb)(hm:behindInMarks op b=false):PB X EX (.Compare a [op] [b] pos) (tB (m2 g fa fb)):=(z8 ho ha hb hm).le fun σ H Q bH=>lf bH fun G F ρ g0 o=>by refine gC hg (fun _ _ _ q=>q) (fun _ _ _ q=>q) σ H _ (bj g0 o (fun x r q=>q) fun F1 H1 bx d1 x s1 g1 r1 o1=>?_);cases d1 with|bl k=>obtain rfl:=Den.b r1;exact⟨k,rfl,o1 F1 H1 k s1 g1 rfl⟩|_=>exact o1.elim
variable{f1 f2:M Bool}{rest:KJ}
def qp(X:Cx)(EX:XE)(e:Expr)(f:M Bool):Prop:=PW X e (lift (lc X EX) RB f)
theorem _root_.L2.PW.le(h:PW X e t)(k:∀σ H Q,t' σ H Q->t σ H Q):PW X e t':=fun w WO s σ H Q I q=>h w WO s σ H Q I (k _ _ _ q)
theorem qp.pb(h:qp X EX e f1):PB X EX e f1:=PW.pt h
theorem dI(h:PB X EX a f1):PB X EX (.UnaryOp .Not a pos) (f6 f1):=(Q2I h).le fun σ H Q bH=>dX bH fun G F F1 H1 bx d1 x s1 g1 r1 o1=>by cases r1;exact o1 F1 H1 _ s1 g1 rfl
theorem tH(h:PB X EX a f1):qp X EX (.BoolOp .And [a] pos) f1:=IT h
theorem jq(h:PB X EX a f1):qp X EX (.BoolOp .Or [a] pos) f1:=N4 h
theorem tG(h1:PB X EX a f1)(h2:qp X EX (.BoolOp .And (b::rest) pos) f2):qp X EX (.BoolOp .And (a::b::rest) pos) (qF f1 f2):=L2.PW.le (NZ h1 h2) fun σ H Q bH=>dX bH fun G F F1 H1 bx d1 x s1 g1 r1 o1=>by
 cases r1;rcases o1.ite with ⟨e,o2⟩|⟨e,o2⟩
 subst e;exact sT ⟨G,F1,bx,g1,o2.mono (fun _ _=>gc.same s1) fun _ _=>di.same s1⟩;subst e;exact sR (o2 F1 H1 false s1 g1 rfl)
theorem jX(h1:PB X EX a f1)(h2:qp X EX (.BoolOp .Or (b::rest) pos) f2):qp X EX (.BoolOp .Or (a::b::rest) pos) (tZ f1 f2):=L2.PW.le (Ss h1 h2) fun σ H Q bH=>dX bH fun G F F1 H1 bx d1 x s1 g1 r1 o1=>by
 cases r1;rcases o1.ite with ⟨e,o2⟩|⟨e,o2⟩
 subst e;exact sT (o2 F1 H1 true s1 g1 rfl);subst e;exact sR ⟨G,F1,bx,g1,o2.mono (fun _ _=>gc.same s1) fun _ _=>di.same s1⟩
theorem iT(hc:PB X EX c f1)(ha:PV X EX a fa)(hb:PV X EX b fb):PV X EX (.IfExp c a b pos) (vz f1 fa fb):=(vR hc ha hb).le fun σ H Q bH=>dX bH fun G F F1 H1 bx d1 x s1 g1 r1 o1=>by
 cases r1;rcases o1.ite with ⟨e,o2⟩|⟨e,o2⟩
 subst e;exact sT ⟨G,F1,bx,g1,o2.mono (fun _ _=>gc.same s1) fun _ _=>di.same s1⟩;subst e;exact sR ⟨G,F1,bx,g1,o2.mono (fun _ _=>gc.same s1) fun _ _=>di.same s1⟩
theorem Q1K(ha:PV X EX a fa):PV X EX (.UnaryOp .Not a pos) (MK (f6 (tB fa))):=(NP ha).le fun σ H Q bH=>lf bH fun G F ρ g0 o=>by refine⟨G,F,ρ,g0,o.Tz.Tz.Tz.mono (fun d1 bx o1 F1 H1 x s1 g1 r1=>?_) fun _ _ q=>q⟩;cases d1 with|bl k=>obtain rfl:=Den.b r1;exact⟨k,rfl,o1 F1 H1 _ s1 g1 (.bl _)⟩|_=>exact o1.elim
theorem jv{op}(h:PV X EX a fa):PV X EX (.BoolOp op [a] pos) fa:=NQ h
theorem jZ(ha:PV X EX a fa)(hb:PV X EX (.BoolOp .And (b::rest) pos) fb):PV X EX (.BoolOp .And (a::b::rest) pos) (iO fa fb):=(NM ha hb).le fun σ H Q bH=>dX bH fun G F F1 H1 bx d1 x s1 g1 r1 o1=>by
 cases d1 with
 |bl k=>obtain rfl:=Den.b r1;refine⟨k,rfl,?_⟩;cases k with|true=>exact sT ⟨G,F1,bx,g1,Out.mono o1 (fun _ _=>gc.same s1) fun _ _=>di.same s1⟩|false=>exact sR (o1 F1 H1 _ s1 g1 (.bl _))
 |_=>exact o1.elim
theorem KR(ha:PV X EX a fa)(hb:PV X EX (.BoolOp .Or (b::rest) pos) fb):PV X EX (.BoolOp .Or (a::b::rest) pos) (Bb fa fb):=(Sj ha hb).le fun σ H Q bH=>dX bH fun G F F1 H1 bx d1 x s1 g1 r1 o1=>by
 cases d1 with
 |bl k=>obtain rfl:=Den.b r1;refine⟨k,rfl,?_⟩;cases k with|true=>exact sT (o1 F1 H1 _ s1 g1 (.bl _))|false=>exact sR ⟨G,F1,bx,g1,Out.mono o1 (fun _ _=>gc.same s1) fun _ _=>di.same s1⟩
 |_=>exact o1.elim
variable{es:KJ}{fs:M (List D)}
theorem aK:BQ X EX [] (mL []):=cY.le fun σ H Q bH=>lf bH fun G F ρ g0 o=>o F H [] (aE.refl _) g0 .nil
theorem ar(ha:PV X EX a fa)(hr:BQ X EX es (mL fl))(hs:autoParam (V1 X a es) AuP.a._autoParam):BQ X EX (a::es) (mL (fa::fl)):=(bC ha hr hs).le fun σ H Q bH=>dX bH fun G F F1 H1 bx d1 x s1 g1 r1 o1=>bj g1 o1 (fun x r q=>q.same s1) fun F2 H2 qk d2 y s2 g2 r2 o2=>o2 F2 H2 _ (s1.trans s2) g2 (.cons (r1.same s2) r2)
theorem Q0t(h:BC ds=some d):ds.length<=sizeLine/\d=.tup ds:=by unfold BC at h;split at h;cases h;exact⟨by rw[Lq];assumption,rfl⟩;cases h
theorem HC(h:A8 ds=some d):ds.length<=sizeLine/\d=.lst ds:=by unfold A8 at h;split at h;cases h;exact⟨by rw[Lq];assumption,rfl⟩;cases h
theorem cZ{fl:List (M D)}{x1}(h:BQ X EX es (mL fl)):PV X EX (.Tuple es x1 pos) (fX fl):=(x4 h).le fun σ H Q bH=>lf bH fun G F ρ g0 o=>bj g0 o (fun x r q=>q) fun F1 H1 bx d1 xs s1 g1 r1 o1=>by obtain⟨d,e,q⟩:=o1.opt;obtain⟨hl,rfl⟩:=Q0t e;refine⟨by rw[aN.length r1];exact hl,fun p hp=>?_⟩;have sF:=a8 (o:=.tup xs) (g1.sub.free hp);exact q _ _ _ (s1.trans sF) (g1.laid hp) (.tup (dW.of aB) (aN.same sF r1))
theorem cv(h:BQ X EX es (mL fl)):PF X EX (.List es pos) (dQ fl):=(EO h).le fun σ H Q bH=>dX bH fun G F F1 H1 bx d1 xs s1 g1 r1 o1=>by obtain⟨d,e,q⟩:=o1.opt;obtain⟨hl,rfl⟩:=HC e;refine⟨by rw[aN.length r1];exact hl,fun p hp=>?_⟩;exact q _ _ _ s1 (g1.made hp) ⟨p,rfl,g1.loose hp ⟨xs,aB,r1⟩⟩
variable{x:Str}{p:Pos}{id T:String}{r:Pk->Hp->VK->Prop}{g:OK->Ui}
theorem j4(hc:eI X (.builtin id) r)(hg:UP (lc X EX) r g)(AR:Gl X x)(hm:X.mg x=none)(hv:bootBuiltins x=some (.builtin id))(ha:BQ X EX (e::es) (mL fl))(hn:autoParam (x≠"__name__") AuP.b._autoParam)(jH:autoParam (Qu x) AuP.b._autoParam)(he:autoParam (V1 X e es) AuP.a._autoParam) (iX:autoParam (Jn X pos es) AuP.a._autoParam):PV X EX (.Call (.Name x p) (e::es) [] pos) (mF g fl):=
 (iQ hc AR hm hv ha hn jH he iX).le fun σ H Q bH=>dX bH fun G F F1 H1 bx d1 xs s1 g1 r1 o1=>by obtain⟨d,e,q⟩:=o1.opt;exact hg G F1 H1 σ bx xs d1 d Q g1 r1 e (gc.same s1 q)
end
section
variable(L:Lc)
def cU(G:Fx)(F:Hp):Xn->aU->Prop:=fun x bV=>∀F' H' bf c dx,aE F F'->L.Good G F' H' bf bV->XR L.K L.mg F' H' c dx x->L.EX bf c dx H'
def gL(G:Fx)(F:Hp)(E:Ends):Fl->aU->Prop:=fun k bV=>match k with|.nx=>∀F' H' bf,aE F F'->L.Good G F' H' bf bV->E.nx bf H'|.bk=>∀F' H' bf,aE F F'->L.Good G F' H' bf bV->E.bk bf H'|.ct=>∀F' H' bf,aE F F'->L.Good G F' H' bf bV->E.ct bf H'|.rt d=>∀F' H' bf v,aE F F'->L.Good G F' H' bf bV->Den L.K L.mg F' v d->E.rt v H'
noncomputable def zN(f:M Fl):TS:=fun E σ H=>∃G F ρ,L.Good G F H σ ρ/\Out (f ρ) (gL L G F E) (cU L G F)
noncomputable def Q12(js:Rx)(g:D->M Unit):TG:=fun v σ H Q=>∃G F ρ d,L.Good G F H σ ρ/\Den L.K L.mg F v d/\Out (g d ρ) (fun _ bV=>∀F' H' bf,aE F F'->L.Good G F' H' bf bV->(∀j,j∉js->bf[j]?=σ[j]?)->Q bf H') (fun _ _=>False)
def FW(G:Fx)(F:Hp)(J:It)(ds:OK):Prop:=∀σ i F' H' ρ,aE F F'->L.Good G F' H' σ ρ->(i<ds.length->J.go i H')/\(i=ds.length->J.stop i H')/\∀x FV,J.Pr i H' x FV->∃UO,aE F' UO/\L.Good G UO FV σ ρ/\∀d,ds[i]?=some d->Den L.K L.mg UO x d
noncomputable def RI:Rl (List D) It:=fun G F _ _ _ J ds=>FW L G F J ds
end
section
variable{L:Lc}
theorem xF{f:M Fl}{E:Ends}{σ:St}{H:Hp}{C:Prop}(h:zN L f E σ H)(k:∀G F ρ,L.Good G F H σ ρ->Out (f ρ) (gL L G F E) (cU L G F)->C):C:=by obtain⟨G,F,ρ,g0,o⟩:=h;exact k G F ρ g0 o
end
def nL(X:Cx)(EX:XE)(st:Stmt)(f:M Fl):Prop:=PS X st (zN (lc X EX) f)
def lx(X:Cx)(EX:XE)(st:List Stmt)(f:M Fl):Prop:=rX X st (zN (lc X EX) f)
def Av(X:Cx)(EX:XE)(tg:Expr)(js:Rx)(g:D->M Unit):Prop:=PG X tg (Q12 (lc X EX) js g)
def uz(X:Cx)(EX:XE)(tg Ws:Expr)(f:M (List D)):Prop:=PI X tg Ws (lift (lc X EX) (RI (lc X EX)) f)
theorem _root_.L2.PG.le(h:PG X tg t)(k:∀v σ H Q,t' v σ H Q->t v σ H Q):PG X tg t':=fun WO s σ H v u Q I r q=>h WO s σ H v u Q I r (k _ _ _ _ q)
theorem _root_.L2.PI.le(h:PI X tg it t)(k:∀σ H Q,t' σ H Q->t σ H Q):PI X tg it t':=fun WO s σ H R I q=>h WO s σ H R I (k _ _ _ q)
section
variable{X:Cx}{EX:XE}{st:Stmt}{rest:List Stmt}{e a b c tg:Expr}{fe fa fb:M D}{f g:M Fl}{pos:Pos}
theorem cU.x{L:Lc}{G:Fx}{F:Hp}{σ:St}{x:Xn}{r:aU}(h:cU L G F x r):di L G F σ x r:=fun F' H' c dx s g q=>h F' H' σ c dx s g q
theorem cU.same{L:Lc}{G:Fx}{F F1:Hp}(e:aE F F1){x:Xn}{r:aU}(h:cU L G F x r):cU L G F1 x r:=fun F' H' bf c dx s g q=>h F' H' bf c dx (e.trans s) g q
theorem gL.same(e:aE F F1)(h:gL L G F E k r):gL L G F1 E k r:=by cases k with|nx=>exact fun F' H' bf s g=>h F' H' bf (e.trans s) g|bk=>exact fun F' H' bf s g=>h F' H' bf (e.trans s) g|ct=>exact fun F' H' bf s g=>h F' H' bf (e.trans s) g|rt d=>exact fun F' H' bf v s g=>h F' H' bf v (e.trans s) g
theorem ai:lx X EX [] aH:=tL.le fun E σ H bH=>xF bH fun G F ρ g0 o=>o F H σ (aE.refl _) g0
theorem ae(h1:nL X EX st f)(h2:lx X EX rest g):lx X EX (st::rest) (ak f g):=(iR h1 h2).le fun E σ H bH=>xF bH fun G F ρ g0 o=>⟨G,F,ρ,g0,o.Tz.mono (fun k r q=>by cases k with|nx=>exact fun F' H' bf s g'=>⟨G,F',r,g',Out.mono q (fun _ _=>gL.same s) fun _ _=>cU.same s⟩|bk=>exact q|ct=>exact q|rt d=>exact q) fun _ _ q=>q⟩
theorem l9{i:Nat}(h:nL X EX st f):nL X EX st (Bv i f):=h.le fun E σ H bH=>xF bH fun G F ρ g0 o=>by unfold Bv VP.Tz HE at o;cases q:ρ[i]? with|none=>simp only[q] at o;exact o.elim|some s=>simp only[q] at o;cases s with|no=>exact o.elim|io d=>exact o.elim|sh d=>exact⟨G,F,ρ,g0,o⟩|ow d=>obtain⟨F',s,g1⟩:=Good.fz g0 q;exact⟨G,F',_,g1,Out.mono o (fun _ _=>gL.same s) fun _ _=>cU.same s⟩
theorem ug(he:PV X EX e fe)(hs:autoParam (swapsWith e none pos.line X.env=pure false) AuP.a._autoParam):nL X EX (.Expr e pos) (Af fe):=(oz he hs).le fun E σ H bH=>xF bH fun G F ρ g0 o=>bj g0 o (fun x r q=>q.x) fun F1 H1 bx d1 x s1 g1 r1 o1=>o1 F1 H1 σ s1 g1
theorem au(he:PV X EX e fe):nL X EX (.Return (some e) pos) (aM fe):=(ya he).le fun E σ H bH=>xF bH fun G F ρ g0 o=>bj g0 o (fun x r q=>q.x) fun F1 H1 bx d1 x s1 g1 r1 o1=>o1 F1 H1 σ x s1 g1 r1
theorem aJ(hc:PB X EX c f1)(ha:lx X EX sa f)(hb:lx X EX sb g):nL X EX (.If c sa sb pos) (bX f1 f g):=(KQ hc ha hb).le fun E σ H bH=>xF bH fun G F ρ g0 o=>bj g0 o (fun x r q=>q.x) fun F1 H1 bx d1 x s1 g1 r1 o1=>by
 cases r1;rcases o1.ite with ⟨e,o2⟩|⟨e,o2⟩
 subst e;exact sT ⟨G,F1,bx,g1,o2.mono (fun _ _=>gL.same s1) fun _ _=>cU.same s1⟩;subst e;exact sR ⟨G,F1,bx,g1,o2.mono (fun _ _=>gL.same s1) fun _ _=>cU.same s1⟩
theorem j6{L:Lc}{G:Fx}{F H:Hp}{σ:St}{ρ:aU}{i:Nat}{d:D}{v:V}{P:Unit->aU->Prop}{E:Xn->aU->Prop}(g0:L.Good G F H σ ρ)(r:Den L.K L.mg F v d)(o:Out (nV i d ρ) P E) : ∃bV,L.Good G F H (σ.set i (some v)) bV/\P () bV:=by unfold nV at o;by_cases hf:free ρ[i]?=true;rw[WL hf] at o;exact⟨_,Good.store (s':=.sh d) g0 hf ⟨v,rfl,r⟩ (fun z=>by cases z),o⟩;rw[S8 hf] at o;exact o.elim
theorem vP{L:Lc}{G:Fx}{F H:Hp}{σ:St}{ρ:aU}{i:Nat}{d:D}{l:Addr}{P:Unit->aU->Prop}{E:Xn->aU->Prop}(g0:L.Good G F H σ ρ)(r:Loose L.K L.mg G F H σ ρ l d)(o:Out (Eg i d ρ) P E) : ∃bV,L.Good G F H (σ.set i (some (.ref l))) bV/\P () bV:=by unfold Eg at o;by_cases hf:free ρ[i]?=true;rw[WL hf] at o;exact⟨_,Good.store (s':=.ow d) g0 hf ⟨l,rfl,r.nF,r.n0,r.ob⟩ (fun _ j s hj ho _=>r.ns j s hj ho),o⟩;rw[S8 hf] at o;exact o.elim
theorem Q2B(i:Nat){x:Str}{UA:Pos}(hN:X.N.Nodup)(hi:X.N[i]?=some x)(hx:Loc X.env.scope x)(he:PV X EX e fe)(hs:autoParam (swapsWith e (some (.Name x UA)) pos.line X.env=pure false) AuP.a._autoParam)(hf:Lw X x:=by exact RP):nL X EX (.Assign [.Name x UA] e pos) (bc i fe):=
 (pZ hN hi hx he hs hf).le fun E σ H bH=>xF bH fun G F ρ g0 o=>bj g0 o (fun x r q=>q.x) fun F1 H1 bx d1 v s1 g1 r1 o1=>by obtain⟨qk,g2,q⟩:=j6 g1 r1 o1.Tz;exact q F1 H1 _ s1 g2
theorem Q0C(i:Nat){x:Str}{UA:Pos}(hN:X.N.Nodup)(hi:X.N[i]?=some x)(hx:Loc X.env.scope x)(he:PF X EX e fe)(hs:autoParam (swapsWith e (some (.Name x UA)) pos.line X.env=pure false) AuP.a._autoParam)(hf:Lw X x:=by exact RP):nL X EX (.Assign [.Name x UA] e pos) (gu i fe):=
 (pZ hN hi hx he hs hf).le fun E σ H bH=>xF bH fun G F ρ g0 o=>bj g0 o (fun x r q=>q.x) fun F1 H1 bx d1 v s1 g1 r1 o1=>by obtain⟨l,rfl,r1⟩:=r1;obtain⟨qk,g2,q⟩:=vP g1 r1 o1.Tz;exact q F1 H1 _ s1 g2
theorem Q0n(i:Nat)(hN:X.N.Nodup)(hi:X.N[i]?=some x)(hx:Loc X.env.scope x)(hf:Lw X x:=by exact RP):Av X EX (.Name x pos) [i] (aP i):=(ku hN hi hx hf).le fun v σ H Q zz=>by obtain⟨G,F,ρ,d,g0,r,o⟩:=zz;obtain⟨bV,g1,q⟩:=j6 g0 r o;exact q F H _ (aE.refl _) g1 fun j hj=>RH (fun e=>hj (by simp[e]))
def Q2L(L:Lc)(is:Rx):JO:=fun vs σ H Q=>∃G F ρ ds,L.Good G F H σ ρ/\aN L.K L.mg F vs ds/\Out (qu is ds ρ) (fun _ bV=>∀F' H' bf,aE F F'->L.Good G F' H' bf bV->(∀j,j∉is->bf[j]?=σ[j]?)->Q bf H') (fun _ _=>False)
def wY(X:Cx)(EX:XE)(ts:KJ)(is:Rx):Prop:=FX X ts (Q2L (lc X EX) is)
theorem _root_.L2.FX.le(h:FX X ts t)(k:∀v σ H Q,t' v σ H Q->t v σ H Q):FX X ts t':=fun WO s σ H v u Q I r q=>h WO s σ H v u Q I r (k _ _ _ _ q)
theorem cJ:wY X EX [] []:=L2.FX.le zX fun vs σ H Q zz=>by obtain⟨G,F,ρ,ds,g0,r,o⟩:=zz;cases r with|nil=>exact⟨rfl,o F H σ (aE.refl _) g0 fun _ _=>rfl⟩|cons h t=>exact o.elim
theorem FH(i:Nat){is:Rx}{x:Str}{es:KJ}(hN:X.N.Nodup)(hi:X.N[i]?=some x)(hx:Loc X.env.scope x)(h2:wY X EX es is)(hf:Lw X x:=by exact RP) (hs:autoParam ((assignEach (.Name x pos::es) X.env).map (·.2)=assign (.Name x pos) X.env::(assignEach es X.env).map (·.2)) AuP.a._autoParam):wY X EX (.Name x pos::es) (i::is):=
 L2.FX.le (pW (ku hN hi hx hf) h2 hs) fun vs σ H Q zz=>by obtain⟨G,F,ρ,ds,g0,r,o⟩:=zz;cases r with|nil=>exact o.elim|cons h t=>refine⟨_,_,rfl,?_⟩;obtain⟨bV,g1,q⟩:=j6 g0 h o.Tz;exact⟨G,F,bV,_,g1,t,Out.mono q (fun _ r z F' H' bf s g hj=>z F' H' bf s g fun j hn=>by rw[hj j fun m=>hn (X1 _ m),RH (fun e=>hn (by simp[e]))]) fun _ _ z=>z⟩
theorem et{es:KJ}{k:Nat}{is:Rx}(hc:X.calm=true)(h:wY X EX es is)(hn:autoParam ((assignEach es X.env).length=is.length) AuP.a._autoParam) (hU:autoParam ((assignEach es X.env).findIdx? (·.1)=none) AuP.a._autoParam):Av X EX (.Tuple es k pos) is (cq is):=
 (ES (n:=is.length) hc h hn hU).le fun v σ H Q zz=>by
  obtain⟨G,F,ρ,d,g0,r,o⟩:=zz;have len:∀{is:Rx}{ds:OK}{ρ:aU}{P:Unit->aU->Prop}{E:Xn->aU->Prop},Out (qu is ds ρ) P E->(∀x r,¬E x r)->ds.length=is.length:=by
   intro is;induction is with
   |nil=>intro ds ρ P E o _;cases ds with|nil=>rfl|cons=>exact o.elim
   |cons i is ih=>intro ds ρ P E o hE;cases ds with|nil=>exact o.elim|cons d ds=>have o':=o.Tz;unfold nV at o';split at o';simp[ih o' hE];exact o'.elim
  cases d with|tup ds=>obtain⟨_,_,rfl,h1,h2⟩:=Den.t r;exact⟨_,_,rfl,dW.same h1 g0.sub,by rw[aN.length h2];exact len o fun _ _ z=>z,G,F,ρ,ds,g0,h2,o⟩|_=>exact o.elim
theorem hJ:∀d r x r',aP i d r≠.exc x r':=fun d r x r' h=>by unfold aP nV at h;split at h<;>cases h
theorem Dp:∀{is:Rx}{ds:OK}{r:aU}{x:Xn}{r':aU},qu is ds r≠.exc x r'|[],[],_,_,_,h=>by cases h|[],_::_,_,_,_,h=>by cases h|_::_,[],_,_,_,h=>by cases h|i::is,d::ds,r,x,r',h=>by simp only[qu,VP.Tz,nV] at h;split at h;rename_i a r2 q;exact Dp h;rename_i x2 r2 q;split at q<;>cases q;cases h
theorem Dq:∀d r x r',cq is d r≠.exc x r':=fun d r x r' h=>by unfold cq at h;cases d with|tup ds=>exact Dp h|_=>cases h
theorem OQ(hp:PassesOwn (model X.prog X.w) X.A X.env X.xe)(hc:X.calm=true)(hi:uz X EX tg Ws it)(hg:Av X EX tg js gf)(hb:lx X EX body f)(vk:∀d r x r',gf d r≠.exc x r') (hs:∀x,foldedSetIterable Ws X.env x=pure x:=by exact Oc):nL X EX (.For tg Ws body [] pos) (fZ it gf f):=
 (x9 hp hc hi hg hb hs).le fun E σ H bH=>xF bH fun G F ρ g0 o=>bj g0 o (fun x r q=>q.x) fun F1 H1 bx ds J s1 g1 r1 o1=>by
  refine⟨fun i m σ H=>m=ds.length-i/\i<=ds.length/\∃F' bV,aE F1 F'/\(lc X EX).Good G F' H σ bV/\Out (loop gf f (ds.drop i) bV) (gL (lc X EX) G F E) (cU (lc X EX) G F),⟨ds.length,O3,Xq _,F1,bx,aE.refl _,g1,by simpa using o1⟩,?_⟩;rintro i m BK H2 ⟨rfl,hi,F2,qk,s2,g2,o2⟩;obtain⟨t1,t2,t3⟩:=r1 BK i F2 H2 qk s2 g2;by_cases iA:i<ds.length;refine .inr ⟨t1 iA,fun bf H'=>∃F' bV,aE F1 F'/\(lc X EX).Good G F' H' bf bV/\Out (loop gf f (ds.drop (i+1)) bV) (gL (lc X EX) G F E) (cU (lc X EX) G F),fun bf H' q=>⟨ds.length-(i+1),Ux,rfl,iA,q⟩,fun x H3 y=>?_⟩;obtain⟨F3,s3,g3,r3⟩:=t3 x H3 y;have e:ds.drop i=ds[i]::ds.drop (i+1):=SU iA;rw[e] at o2;have o3:Out (gf ds[i] qk) (fun _ bV=>Out (Tz f (fun k=>match k with|.nx=>loop gf f (ds.drop (i+1))|.ct=>loop gf f (ds.drop (i+1))|.bk=>ret .nx|.rt e=>ret (.rt e)) bV) (gL (lc X EX) G F E) (cU (lc X EX) G F)) (cU (lc X EX) G F):=Out.Tz o2;refine⟨G,F3,qk,ds[i],g3,r3 _ (by simp[iA]),?_⟩;cases q:gf ds[i] qk with|no=>rw[q] at o3;exact o3.elim|exc x r=>exact absurd q (vk _ _ _ _)|ok u Yl=>rw[q] at o3;intro F4 H4 As s4 g4 _;refine⟨G,F4,Yl,g4,(Out.Tz o3).mono (fun k r z=>?_) fun _ _ z=>z.same ((s1.trans s2).trans (s3.trans s4))⟩;cases k with|nx=>exact fun F' H' bf s g'=>⟨F',r,s2.trans (s3.trans (s4.trans s)),g',z⟩|ct=>exact fun F' H' bf s g'=>⟨F',r,s2.trans (s3.trans (s4.trans s)),g',z⟩|bk=>exact fun F' H' bf s g'=>z F' H' bf ((s1.trans s2).trans (s3.trans (s4.trans s))) g'|rt d=>exact fun F' H' bf v s g'=>z F' H' bf v ((s1.trans s2).trans (s3.trans (s4.trans s))) g'
  have e:i=ds.length:=Ux;subst e;refine .inl ⟨t2 rfl,?_⟩;rw[List.drop_length] at o2;exact o2 F2 H2 BK (s1.trans s2) g2
end
section
variable(K:Frag)(mg:MG)
def iC(F H:Hp):X4->Pk->OK->Prop|[],[],[]=>True|false::bs,v::vs,d::ds=>Den K mg F v d/\iC F H bs vs ds|true::bs,v::vs,d::ds=>(∃l,v=.ref l/\F l=none/\fF K mg F H l d)/\iC F H bs vs ds|_,_,_=>False
def wV(F H:Hp):RE->OK->Prop|[],[]=>True|l::ls,d::ds=>(F l=none/\fF K mg F H l d)/\wV F H ls ds|_,_=>False
end
noncomputable def dF:Nat->X4->Pk->List (Nat×Addr)|i,true::bs,.ref l::vs=>(i,l)::dF (i+1) bs vs|i,_::bs,_::vs=>dF (i+1) bs vs|_,_,_=>[]
def pB(fl:X4)(vs:Pk):RE:=(dF 0 fl vs).map (·.2)
structure After(K:Frag)(mg:MG)(F H F' H':Hp)(ls:RE)(cy:OK):Prop where
 sF:aE F F'
 sub:aE F' H'
 old:∀a o,H a=some o->a∉ls->H' a=some o
 new:∀a o,F' a=some o->F a=some o\/H a=none
 cy:wV K mg F' H' ls cy
def oC(K:Frag)(mg:MG)(fl:X4)(f:Fn):Sp:=fun vs H Q E=>vs.length=fl.length/\∃F ds,aE F H/\iC K mg F H fl vs ds/\(pB fl vs).Nodup/\match f ds with|.ok d cy=>∀F' H' v,After K mg F H F' H' (pB fl vs) cy->Den K mg F' v d->Q v H'|.exc x cy=>∀F' H' c dx,After K mg F H F' H' (pB fl vs) cy->XR K mg F' H' c dx x->E c dx H'|.no=>False
section
variable{K:Frag}{mg:MG}{F H:Hp}
theorem sQ:∀{i0:Nat}{fl:X4}{vs:Pk}{i:Nat}{a:Addr},(i,a)∈dF i0 fl vs->i0<=i/\vs[i-i0]?=some (.ref a)/\fl[i-i0]?=some true:=by
 intro i0 fl;induction fl generalizing i0 with
 |nil=>intro vs i a h;cases vs<;>simp[dF] at h|cons b bs ih=>
  intro vs i a h;cases vs with
  |nil=>cases b<;>simp[dF] at h|cons v vs=>
   have step:(i,a)∈dF (i0+1) bs vs->i0<=i/\(v::vs)[i-i0]?=some (.ref a)/\(b::bs)[i-i0]?=some true:=fun h=>by obtain⟨h1,h2,h3⟩:=ih h;have e:i-i0=(i-(i0+1))+1:=Ug;rw[e];exact⟨Ug,by simpa using h2,by simpa using h3⟩
   cases b with
   |false=>cases v<;>exact step (by simpa[dF] using h)|true=>
    cases v with
    |ref l=>rcases List.mem_cons.mp (show (i,a)∈(i0,l)::dF (i0+1) bs vs from h) with e|h;cases e;simp;exact step h
    |_=>exact step (by simpa[dF] using h)
theorem pC:∀{i0:Nat}{fl:X4}{vs:Pk}{k:Nat}{a:Addr},fl[k]?=some true->vs[k]?=some (.ref a)->(i0+k,a)∈dF i0 fl vs:=by intro i0 fl;induction fl generalizing i0 with|nil=>intro vs k a h;simp at h|cons b bs ih=>intro vs k a h1 h2;cases vs with|nil=>simp at h2|cons v vs=>cases k with|zero=>simp at h1 h2;subst h1 h2;simp[dF]|succ k=>have q:=ih (i0:=i0+1) (vs:=vs) (k:=k) (a:=a) (by simpa using h1) (by simpa using h2);have e:i0+(k+1)=i0+1+k:=Ug;rw[e];cases b with|false=>cases v<;>simpa[dF] using q|true=>cases v<;>simp[dF,q]
theorem iC.get:∀{fl:X4}{vs:Pk}{ds:OK},iC K mg F H fl vs ds->∀(k:Nat)(b:Bool)(v:V)(d:D),fl[k]?=some b->vs[k]?=some v->ds[k]?=some d->(b=false->Den K mg F v d)/\(b=true->∃l,v=.ref l/\F l=none/\fF K mg F H l d):=by
 intro fl;induction fl with
 |nil=>intro vs ds h k b v d h1;simp at h1|cons b bs ih=>
  intro vs ds h k b' v d h1 h2 h3;cases vs with
  |nil=>simp at h2|cons w vs=>cases ds with
   |nil=>simp at h3|cons e ds=>
    cases k with
    |zero=>simp at h1 h2 h3;subst h1 h2 h3;cases b with|false=>exact⟨fun _=>h.1,fun z=>(by cases z)⟩|true=>exact⟨fun z=>(by cases z),fun _=>h.1⟩
    |succ k=>
     have h':iC K mg F H bs vs ds:=by cases b<;>exact h.2
     exact ih h' k b' v d (by simpa using h1) (by simpa using h2) (by simpa using h3)
theorem iC.len:∀{fl:X4}{vs:Pk}{ds:OK},iC K mg F H fl vs ds->vs.length=fl.length/\ds.length=fl.length:=by
 intro fl;induction fl with
 |nil=>intro vs ds h;cases vs<;>cases ds<;>first|exact⟨rfl,rfl⟩|exact(show False from h).elim
 |cons b bs ih=>
  intro vs ds h;cases vs with
  |nil=>cases b<;>cases ds<;>exact(show False from h).elim|cons w vs=>cases ds with
   |nil=>cases b<;>exact(show False from h).elim|cons e ds=>
    have h':iC K mg F H bs vs ds:=by cases b<;>exact h.2
    obtain⟨h1,h2⟩:=ih h';exact⟨by simp[h1],by simp[h2]⟩
theorem qe:∀{n:Nat}{fl:X4}{ds:OK},fl.length=ds.length->∀(i:Nat)(s:Sl),(cw n fl ds)[i]?=some s->(i<fl.length/\∃b d,fl[i]?=some b/\ds[i]?=some d/\s=(if b then .io d else .sh d))\/(fl.length<=i/\s=.no):=by
 intro n fl;induction fl generalizing n with
 |nil=>intro ds hl i s h;cases ds with|nil=>refine .inr ⟨Xq _,?_⟩;simp only[cw] at h;rw[wd] at h;split at h;exact(X6 h).symm;cases h|cons=>simp at hl
 |cons b bs ih=>
  intro ds hl i s h;cases ds with
  |nil=>simp at hl|cons d ds=>
   simp only[cw] at h;cases i with
   |zero=>simp at h;exact .inl ⟨O3,b,d,rfl,rfl,h.symm⟩|succ i=>
    rcases ih (by simpa using hl) i s (by simpa using h) with ⟨h1,b',d',h2,h3,h4⟩|⟨h1,h2⟩
    exact .inl ⟨by simp;lia,b',d',by simpa using h2,by simpa using h3,h4⟩;exact .inr ⟨by simp;lia,h2⟩
theorem ym:∀{n:Nat}{fl:X4}{ds:OK},fl.length=ds.length->fl.length<=n->(cw n fl ds).length=n:=by
 intro n fl;induction fl generalizing n with
 |nil=>intro ds hl hn;cases ds with|nil=>simp[cw]|cons=>simp at hl
 |cons b bs ih=>intro ds hl hn;cases ds with|nil=>simp at hl|cons d ds=>simp only[cw,List.length_cons];rw[ih (by simpa using hl) (by simp at hn;lia)];simp at hn;lia
theorem mV{N:Ut}{vs:Pk}{i:Nat}{v:V}(h:vs[i]?=some v):(start N vs)[i]?=some (some v):=by have hi:i<vs.length:=(List.getElem?_eq_some_iff.mp h).1;unfold L2.start;rw[Sg (by simpa using hi),CW,h];rfl
theorem xp(hs:aE F H)(ha:iC K mg F H fl vs ds)(hd:(pB fl vs).Nodup)(hn:fl.length<=N.length) : Good K mg ⟨H,F,dF 0 fl vs⟩ F H (start N vs) (cw N.length fl ds):=by
 obtain⟨l1,l2⟩:=ha.len;have at_:∀{i:Nat}{a:Addr},(i,a)∈dF 0 fl vs->∃d,F a=none/\fF K mg F H a d:=fun {i a} h=>by
  obtain⟨_,h2,h3⟩:=sQ h;rw[Nat.sub_zero] at h2 h3;have hi:i<ds.length:=by rw[l2,<-l1];exact(List.getElem?_eq_some_iff.mp h2).1
  obtain⟨l,e,q1,q2⟩:=(ha.get i true _ ds[i] h3 h2 (by simp[hi])).2 rfl;cases e;exact⟨_,q1,q2⟩
 have Sh:∀{i:Nat}{s:Sl}{l:Addr},(cw N.length fl ds)[i]?=some s->ck s=true->(start N vs)[i]?=some (some (V.ref l))->(i,l)∈dF 0 fl vs:=fun {i s l} h o e=>by
  rcases qe l2.symm i s h with ⟨h1,b,d,h2,h3,rfl⟩|⟨_,rfl⟩
  cases b with|false=>cases o|true=>have hv:i<vs.length:=Ug;rw[mV (v:=vs[i]) (by simp[hv])] at e;have e':vs[i]=V.ref l:=X6 (X6 e);have:=pC (i0:=0) (vs:=vs) (k:=i) (a:=l) h2 (by rw[<-e'];simp[hv]);rwa [OS] at this
  cases o
 exact {
  sF:=aE.refl _
  sub:=hs
  old:=fun a o e _=>e
  new:=fun a o e=>.inl e
  len:=by
   rw[ym l2.symm hn];unfold L2.start;rw[IL,xN,List.length_replicate]
   lia
  slot:=fun i s h=>by
   rcases qe l2.symm i s h with ⟨h1,b,d,h2,h3,rfl⟩|⟨_,rfl⟩
   have hv:i<vs.length:=Ug;have q:=ha.get i b vs[i] d h2 (by simp[hv]) h3;rw[mV (v:=vs[i]) (by simp[hv])];cases b with|false=>exact⟨_,rfl,q.1 rfl⟩|true=>obtain⟨l,e,q1,q2⟩:=q.2 rfl;refine⟨l,by rw[e];rfl,?_,q1,q2⟩;have:=pC (i0:=0) (vs:=vs) (k:=i) (a:=l) h2 (by rw[<-e];simp[hv]);rwa [OS] at this
   trivial
  apart:=fun i j l s t h1 h2 o1 o2 e1 e2=>by
   have m1:=Sh h1 o1 e1;have m2:=Sh h2 o2 e2;obtain⟨a,ha,ea⟩:=List.mem_iff_getElem.mp m1;obtain⟨b,hb,eb⟩:=List.mem_iff_getElem.mp m2;have QJ:a=b:=by refine(Be hd (i:=a) (j:=b) (h₀:=by simpa[pB] using ha) (h₁:=by simpa[pB] using hb)).mp ?_;simp[pB,ea,eb]
   subst QJ;rw[ea] at eb;cases eb;rfl
  nt:=fun i a h=>by obtain⟨d,q1,q2⟩:=at_ h;exact⟨q2.has,q1,q2.has⟩
  nT:=fun i a b h1 h2=>by obtain⟨_,q1,_⟩:=sQ h1;obtain⟨_,q2,_⟩:=sQ h2;rw[q1] at q2;cases q2;rfl}
theorem DP(g:Good K mg G F H σ ρ)(hG:G.io=dF 0 fl vs)(hv:vs.length=fl.length)(h:bR fl ρ=some cy)(hr:∀(k:Nat),fl[k]?=some true->∃a,vs[k]?=some (V.ref a)):wV K mg F H (pB fl vs) cy:=by
 have gen:∀(LP:X4)(k:Nat)(wC:Pk)(r:aU)(cy:OK),LP=fl.drop k->wC=vs.drop k->r=ρ.drop k->bR LP r=some cy->wV K mg F H ((dF k LP wC).map (·.2)) cy:=by
  intro LP;induction LP with
  |nil=>
   intro k wC r cy h1 h2 h3 h4;have:wC=[]:=by
    rw[h2];apply List.drop_eq_nil_of_le;rw[hv];have:=congrArg List.length h1;simp at this
    lia
   subst this;simp[bR] at h4;subst h4;trivial
  |cons b bs ih=>
   intro k wC r cy h1 h2 h3 h4;have hk:k<fl.length:=by
    have:=congrArg List.length h1;simp at this
    lia
   have hb:fl[k]?=some b:=by have:=congrArg List.head? h1;simpa using this.symm
   have Pb:bs=fl.drop (k+1):=by have:=congrArg List.tail h1;simpa using this
   have XT:k<vs.length:=Ug;have Mi:wC=vs[k]::vs.drop (k+1):=by rw[h2];exact SU XT
   subst Mi;cases r with
   |nil=>cases b<;>simp[bR] at h4|cons s r=>
    have hrk:k<ρ.length:=by
     have:=congrArg List.length h3;simp at this
     lia
    have T9:ρ[k]?=some s:=by have:=congrArg List.head? h3;simpa using this.symm
    have Q4:r=ρ.drop (k+1):=by have:=congrArg List.tail h3;simpa using this
    cases b with
    |false=>have q:=ih (k+1) (vs.drop (k+1)) r cy Pb rfl Q4 (by simpa[bR] using h4);cases e:vs[k]<;>simpa[dF,e] using q|true=>
     obtain⟨a,ha⟩:=hr k hb;have e:vs[k]=.ref a:=by
      have:vs[k]?=some vs[k]:=by simp[XT]
      rw[this] at ha;exact X6 ha
     rw[e];cases s with
     |io d=>
      simp only[bR] at h4;cases q:bR bs r with
      |none=>rw[q] at h4;cases h4|some Ro=>
       rw[q] at h4;have h5:d::Ro=cy:=X6 h4;subst h5;obtain⟨l,z1,z2,z3,z4⟩:=g.slot k _ T9;have m:(k,a)∈G.io:=by rw[hG];have:=pC (i0:=0) (vs:=vs) (k:=k) (a:=a) hb ha;rwa [OS] at this
       have:l=a:=g.nT k l a z2 m;subst this;exact⟨⟨z3,z4⟩,ih (k+1) (vs.drop (k+1)) r Ro Pb rfl Q4 q⟩
     |_=>simp[bR] at h4
 exact gen fl 0 vs ρ cy O3 O3 O3 h
end
section
variable{P:Program}{w:World}{K:Frag}{mg:MG}{base:Heap}
theorem Fs(hp:N.take ps.length=ps)(hl:fl.length=ps.length)(h:oC K mg fl (defn N.length fl body) vs H Q E) : zN ⟨K,mg,fun _=>E⟩ body {nx:=fun _ H'=>Q .bB H',rt:=Q} (start N vs) H:=by
 obtain⟨hv,F,ds,hs,ha,hd,h⟩:=h;have Za:fl.length<=N.length:=by
  have:=congrArg List.length hp;rw[xh] at this
  lia
 have g0:=xp (N:=N) hs ha hd Za;have Y1:∀(k:Nat),fl[k]?=some true->∃a,vs[k]?=some (V.ref a):=fun k q=>by have hk:k<fl.length:=(List.getElem?_eq_some_iff.mp q).1;obtain⟨l1,l2⟩:=ha.len;have XI:k<vs.length:=Ug;have Y3:k<ds.length:=Ug;obtain⟨l,e,_⟩:=(ha.get k true vs[k] ds[k] q (by simp[XI]) (by simp[Y3])).2 rfl;exact⟨l,by rw[<-e];simp[XI]⟩
 refine⟨_,F,_,g0,?_⟩;unfold defn at h;rw[WL ha.len.2] at h;have U1:∀{F' H':Hp}{bf:St}{bV:aU}{cy:OK},aE F F'->Good K mg ⟨H,F,dF 0 fl vs⟩ F' H' bf bV->bR fl bV=some cy->After K mg F H F' H' (pB fl vs) cy:=fun {F' H' bf bV cy} s g q=>⟨s,g.sub,fun a o e n=>g.old a o e fun i z=>n (List.mem_map.mpr ⟨_,z,rfl⟩),g.new,DP g rfl hv q Y1⟩;generalize body (cw N.length fl ds)=R at h;cases R with
  |no=>exact h|exc z bV=>cases q:bR fl bV with|none=>simp only[q] at h|some cy=>simp only[q] at h;exact fun F' H' bf c dx s g r=>h F' H' c dx (U1 s g q) r
  |ok LP bV=>
   cases LP with
   |bk=>exact h.elim|ct=>exact h.elim|nx=>cases q:bR fl bV with|none=>simp only[q] at h|some cy=>simp only[q] at h;exact fun F' H' bf s g=>h F' H' .bB (U1 s g q) .bB
   |rt d=>cases q:bR fl bV with|none=>simp only[q] at h|some cy=>simp only[q] at h;exact fun F' H' bf v s g r=>h F' H' v (U1 s g q) r
theorem Dl{x TU:Str}{st:Stmt}{f:Addr}{fd:FuncData}{N ps:Ut}{k:Nat}{fl:X4}{body:M Fl}(Fu:Gv K x TU st f fd)(S:c7 N ps (aR st))(hl:fl.length=ps.length)
  (jT:∀(gV:Value)(A:Around)(outer:List Env)(s:Shared)(H:Hp)(E:XK),bY k (A.deeper (envOfC TU (aR st) s.heap.objs.size f gV))->lx (oR jG P w K mg base N TU (aR st) f gV A outer s H E).H0 (fun _=>E) (bQ st) body) :
  cj P w K mg base jG (k+1) f fd ps (oC K mg fl (defn N.length fl body)):=by
 refine Fu.ok S (fun vs H Q E h=>by rw[h.1,hl]) fun gV A outer s H vs Q E hr h=>?_;exact⟨_,jT gV A outer s H E hr,Fs S.pre hl h⟩
end
noncomputable def E9(d:D):Sl->Sl|.ow _=>.ow d|.io _=>.io d|s=>s
theorem p9(j:Nat)(d:D)(r:aU)(i:Nat):(cE j d r)[i]?=if i=j then(r[i]?).map (E9 d) else r[i]?:=by unfold cE;cases q:r[j]? with|none=>dsimp only;split;rename_i e;subst e;rw[q];rfl;rfl|some s=>have hj:j<r.length:=(List.getElem?_eq_some_iff.mp q).1;cases s with|no=>dsimp only;split;rename_i e;subst e;rw[q];rfl;rfl|sh e=>dsimp only;split;rename_i e;subst e;rw[q];rfl;rfl|ow e=>dsimp only;split;rename_i e;subst e;rw[Vb hj,q];rfl;rename_i e;rw[RH (UH e)]|io e=>dsimp only;split;rename_i e;subst e;rw[Vb hj,q];rfl;rename_i e;rw[RH (UH e)]
theorem E4(j:Nat)(d:D)(r:aU):(cE j d r).length=r.length:=by unfold cE;split<;>simp
theorem p8:∀(js:Rx)(ds:OK)(r:aU),(putAll js ds r).length=r.length|[],_,_=>rfl|_::_,[],_=>rfl|j::js,d::ds,r=>by show (putAll js ds (cE j d r)).length=_;rw[p8,E4]
theorem ju:∀{js:Rx}{ds:OK}{r:aU}{i:Nat},i∉js->(putAll js ds r)[i]?=r[i]?|[],_,_,_,_=>rfl|_::_,[],_,_,_=>rfl|j::js,d::ds,r,i,h=>by show (putAll js ds (cE j d r))[i]?=_;rw[ju (fun z=>h (X1 _ z)),p9,S8 (fun e=>h (by rw[e];exact Rn))]
theorem rF:∀{js:Rx}{ds:OK}{r:aU}{k i:Nat}{d:D},js.Nodup->js[k]?=some i->ds[k]?=some d->(putAll js ds r)[i]?=(r[i]?).map (E9 d)
|[],_,_,_,_,_,_,h,_=>by simp at h|_::_,[],_,_,_,_,_,_,h=>by simp at h|j::js,e::ds,r,0,i,d,nd,h1,h2=>by simp at h1 h2;subst h1 h2;show (putAll js ds (cE j e r))[j]?=_;rw[ju (List.nodup_cons.mp nd).1,p9,WL rfl]|j::js,e::ds,r,k+1,i,d,nd,h1,h2=>by
 have Xw:js[k]?=some i:=by simpa using h1
 have ne:i≠j:=fun z=>(List.nodup_cons.mp nd).1 (by rw[<-z];exact TQ Xw);show (putAll js ds (cE j e r))[i]?=_;rw[rF (List.nodup_cons.mp nd).2 Xw (by simpa using h2),p9,S8 ne]
section
variable{K:Frag}{mg:MG}
theorem wV.get:∀{F H:Hp}{ls:RE}{ds:OK},wV K mg F H ls ds->ls.length=ds.length/\∀(k:Nat)(l:Addr)(d:D),ls[k]?=some l->ds[k]?=some d->F l=none/\fF K mg F H l d|_,_,[],[],_=>⟨rfl,fun k l d h=>by simp at h⟩|_,_,[],_::_,h=>(show False from h).elim|_,_,_::_,[],h=>(show False from h).elim|F,H,l::ls,d::ds,h=>by obtain⟨h1,h2⟩:=wV.get (F:=F) (H:=H) (ls:=ls) (ds:=ds) h.2;refine⟨by simp[h1],fun k l' d' e1 e2=>?_⟩;cases k with|zero=>simp at e1 e2;subst e1 e2;exact h.1|succ k=>exact h2 k l' d' (by simpa using e1) (by simpa using e2)
theorem Good.called(g:Good K mg G F H σ ρ)(hj:js.Nodup)(hl:js.length=ls.length)(hs:∀(k j:Nat)(l:Addr),js[k]?=some j->ls[k]?=some l->(∃s,ρ[j]?=some s/\ck s=true)/\σ[j]?=some (some (V.ref l))) (a:After K mg F H F' H' ls cy):Good K mg G F' H' σ (putAll js cy ρ):=by
 obtain⟨hi,ig⟩:=a.cy.get;have Mr:∀{l:Addr},l∈ls->∃(k j:Nat)(s:Sl),js[k]?=some j/\ls[k]?=some l/\ρ[j]?=some s/\ck s=true/\σ[j]?=some (some (V.ref l)):=fun {l} h=>by
  obtain⟨k,hk,e⟩:=List.mem_iff_getElem.mp h;have e':ls[k]?=some l:=by rw[<-e];simp[hk]
  have XF:k<js.length:=Ug;obtain⟨⟨s,q1,q2⟩,q3⟩:=hs k js[k] l (by simp[XF]) e';exact⟨k,js[k],s,by simp[XF],e',q1,q2,q3⟩
 have X9:∀a' o,F' a'=some o->F a'=some o\/H a'=none:=a.new;have KH:∀{l:Addr},F l=none->(∃o,H l=some o)->F' l=none:=fun {l} h ⟨o,ho⟩=>by cases q:F' l with|none=>rfl|some u=>rcases a.new l u q with z|z;rw[h] at z;cases z;rw[ho] at z;cases z
 exact {
  sF:=g.sF.trans a.sF
  sub:=a.sub
  old:=fun b o e n=>by refine a.old b o (g.old b o e n) fun hb=>?_;obtain⟨k,j,s,q1,q2,q3,q4,q5⟩:=Mr hb;have t:=g.slot j s q3;cases s with|no=>cases q4|sh d=>cases q4|ow d=>obtain⟨l,z1,z2,z3,z4⟩:=t;rw[q5] at z1;cases z1;rw[e] at z3;cases z3|io d=>obtain⟨l,z1,z2,z3,z4⟩:=t;rw[q5] at z1;cases z1;exact n j z2
  new:=fun b o e=>by rcases a.new b o e with z|z;exact g.new b o z;exact .inr (g.El z)
  len:=by rw[p8];exact g.len
  slot:=fun i s h=>by
   by_cases G8:i∈js;obtain⟨k,hk,e⟩:=List.mem_iff_getElem.mp G8;have e':js[k]?=some i:=by rw[<-e];simp[hk]
   have XH:k<ls.length:=Ug;have XG:k<cy.length:=Ug;rw[rF hj e' (d:=cy[k]) (by simp[XG])] at h;obtain⟨⟨s0,q1,q2⟩,q3⟩:=hs k i ls[k] e' (by simp[XH]);rw[q1] at h;have h':E9 cy[k] s0=s:=X6 h;subst h';obtain⟨y1,y2⟩:=ig k ls[k] cy[k] (by simp[XH]) (by simp[XG]);have t:=g.slot i s0 q1;cases s0 with|no=>cases q2|sh d=>cases q2|ow d=>obtain⟨l,z1,z2,z3,z4⟩:=t;rw[q3] at z1;cases z1;rw[q3];exact⟨ls[k],rfl,y1,z3,y2⟩|io d=>obtain⟨l,z1,z2,z3,z4⟩:=t;rw[q3] at z1;cases z1;rw[q3];exact⟨ls[k],rfl,z2,y1,y2⟩
   rw[ju G8] at h;refine(g.slot i s h).same a.sF (fun l _ _ f t=>KH f t) fun l o hv ow e=>a.old l o e fun hb=>?_;obtain⟨k,j,s',q1,q2,q3,q4,q5⟩:=Mr hb;have:i=j:=g.apart i j l s s' h q3 ow q4 (join_some hv) q5;subst this;exact G8 (TQ q1)
  apart:=fun i j l s t h1 h2 o1 o2 e1 e2=>by
   have f:∀{i:Nat}{s:Sl},(putAll js cy ρ)[i]?=some s->ck s=true->∃s',ρ[i]?=some s'/\ck s'=true:=fun {i s} h o=>by
    by_cases G8:i∈js;obtain⟨k,hk,e⟩:=List.mem_iff_getElem.mp G8;have e':js[k]?=some i:=by rw[<-e];simp[hk]
    obtain⟨q1,_⟩:=hs k i (ls[k]' Ug) e' (by simp[show k<ls.length by lia]);exact q1;rw[ju G8] at h;exact⟨s,h,o⟩
   obtain⟨s',a1,a2⟩:=f h1 o1;obtain⟨t',b1,b2⟩:=f h2 o2;exact g.apart i j l s' t' a1 b1 a2 b2 e1 e2
  nt:=fun i b h=>by
   obtain⟨⟨o,q1⟩,q2,q3⟩:=g.nt i b h;refine⟨?_,KH q2 ⟨o,q1⟩,q3⟩;by_cases hb:b∈ls;obtain⟨k,j,s,z1,z2,_⟩:=Mr hb;have hk:k<cy.length:=by
    have:=(List.getElem?_eq_some_iff.mp z2).1
    lia
   exact(ig k b cy[k] z2 (by simp[hk])).2.has;exact⟨o,a.old b o q1 hb⟩
  nT:=g.nT}
end
def JL(L:Lc)(F:Hp)(σ:St):V->AV->Prop|v,.val d=>Den L.K L.mg F v d|v,.io j=>σ[j]?=some (some v)
inductive ml(L:Lc)(F:Hp)(σ:St):Pk->List AV->Prop where
 |nil:ml L F σ [] []|cons {v:V} {a:AV} {vs:Pk} {as:List AV} (h:JL L F σ v a) (t:ml L F σ vs as):ml L F σ (v::vs) (a::as)
noncomputable def RA(L:Lc):Rl (List AV) (List V):=fun _ F _ σ _ vs as=>ml L F σ vs as
theorem JL.same(e:aE F F')(h:JL L F σ v a):JL L F' σ v a:=by cases a with|val d=>exact Den.same e h|io j=>exact h
def yA(X:Cx)(EX:XE)(es:KJ)(as:List VP.Arg):Prop:=PA X es (lift (lc X EX) (RA (lc X EX)) (bL as))
section
variable{X:Cx}{EX:XE}{e a:Expr}{es:KJ}{as:List VP.Arg}{fa:M D}{pos:Pos}
theorem ao:yA X EX [] []:=cY.le fun σ H Q bH=>lf bH fun G F ρ g0 o=>o F H [] (aE.refl _) g0 .nil
theorem ah(ha:PV X EX a fa)(hr:yA X EX es as)(hs:autoParam (V1 X a es) AuP.a._autoParam):yA X EX (a::es) (.val fa::as):=(bC ha hr hs).le fun σ H Q bH=>dX bH fun G F F1 H1 bx d1 x s1 g1 r1 o1=>bj g1 o1 (fun x r q=>q.same s1) fun F2 H2 qk d2 y s2 g2 r2 o2=>o2 F2 H2 _ (s1.trans s2) g2 (.cons (JL.same s2 (a:=.val d1) r1) r2)
theorem gP(j:Nat){x:Str}(hr:yA X EX es as)(hN:autoParam (X.N[j]?=some x) AuP.a._autoParam)(hv:oI X.env.scope x:=by exact Vd)(hd:autoParam (Qu x) AuP.b._autoParam)(gp:autoParam (P7 x) AuP.b._autoParam) (hs:autoParam (starEach (.Name x pos::es) X.env=(false,eval (.Name x pos) X.env)::starEach es X.env) AuP.a._autoParam):yA X EX (.Name x pos::es) (.io j::as):=
 (bC (cC hN hv hd gp) hr hs).le fun σ H Q bH=>lf bH fun G F ρ g0 o=>by
  have o':Out ((if (own ρ[j]?).isSome then Tz (bL as) (fun vs=>ret (.io j::vs)) ρ else .no)) (gc (lc X EX) (RA (lc X EX)) G F σ Q) (di (lc X EX) G F σ):=o;cases q:ρ[j]? with
  |none=>rw[q] at o';exact o'.elim|some s=>
   rw[q] at o';have hv:∃v,σ[j]?=some (some v):=by have t:=g0.slot j s q;cases s with|no=>exact o'.elim|sh d=>exact o'.elim|ow d=>obtain⟨l,z,_⟩:=t;exact⟨_,join_some z⟩|io d=>obtain⟨l,z,_⟩:=t;exact⟨_,join_some z⟩
   obtain⟨v,hv⟩:=hv;have o2:Out (Tz (bL as) (fun vs=>ret (.io j::vs)) ρ) (gc (lc X EX) (RA (lc X EX)) G F σ Q) (di (lc X EX) G F σ):=by cases s with|no=>exact o'.elim|sh d=>exact o'.elim|ow d=>exact o'|io d=>exact o'
   refine⟨v,hv,bj g0 o2 (fun x r q=>q) fun F1 H1 bx d1 x s1 g1 r1 o1=>o1 F1 H1 _ s1 g1 (.cons (show JL (lc X EX) F1 σ v (.io j) from hv) r1)⟩
theorem Lm{L:Lc}{G:Fx}{F H:Hp}{σ:St}{ρ:aU}(g:L.Good G F H σ ρ):∀{vs:Pk}{as:List AV}{ds:OK}{fl:X4},ml L F σ vs as->ql as ρ=some ds->as.map (fun a=>match a with|.val _=>false|.io _=>true)=fl->iC L.K L.mg F H fl vs ds/\∀i0:Nat,(fU as).length=((dF i0 fl vs).map (·.2)).length/\∀(k j:Nat)(l:Addr),(fU as)[k]?=some j->((dF i0 fl vs).map (·.2))[k]?=some l->(∃s,ρ[j]?=some s/\ck s=true)/\σ[j]?=some (some (V.ref l)):=by
 intro vs as;induction as generalizing vs with
 |nil=>intro ds fl h1 h2 h3;cases h1;simp[ql] at h2;subst h2 h3;exact⟨trivial,fun i0=>⟨by simp[fU,dF],fun k j l e=>by simp[fU] at e⟩⟩|cons a as ih=>
  intro ds fl h1 h2 h3;cases h1 with
  |cons hv ht=>
   rename_i v vs;subst h3;cases a with
   |val d=>
    simp only[ql] at h2;cases q:ql as ρ with
    |none=>rw[q] at h2;cases h2|some BM=>
     rw[q] at h2;have Vg:d::BM=ds:=X6 h2;subst Vg;obtain⟨k1,k2⟩:=ih ht q rfl;refine⟨⟨hv,k1⟩,fun i0=>?_⟩;have e:dF i0 (List.map (fun a=>match a with|.val _=>false|.io _=>true) (.val d::as)) (v::vs)=dF (i0+1) (List.map (fun a=>match a with|.val _=>false|.io _=>true) as) vs:=by cases v<;>rfl
     rw[e];exact k2 (i0+1)
   |io j=>
    simp only[ql] at h2;cases q0:own ρ[j]? with
    |none=>rw[q0] at h2;cases h2|some d=>
     rw[q0] at h2;simp only at h2;cases q:ql as ρ with
     |none=>rw[q] at h2;cases h2|some BM=>
      rw[q] at h2;have Vg:d::BM=ds:=X6 h2;subst Vg;obtain⟨k1,k2⟩:=ih ht q rfl;have Kx:σ[j]?=some (some v):=hv;have hl:∃l s,v=.ref l/\ρ[j]?=some s/\ck s=true/\F l=none/\fF L.K L.mg F H l d:=by cases q1:ρ[j]? with|none=>rw[q1] at q0;cases q0|some s=>rw[q1] at q0;have t:=g.slot j s q1;cases s with|no=>cases q0|sh e=>cases q0|ow e=>have Wj:e=d:=X6 q0;subst Wj;obtain⟨l,z1,z2,z3,z4⟩:=t;rw[Kx] at z1;have W0:v=V.ref l:=X6 z1;exact⟨l,_,W0,rfl,rfl,z2,z4⟩|io e=>have Wj:e=d:=X6 q0;subst Wj;obtain⟨l,z1,z2,z3,z4⟩:=t;rw[Kx] at z1;have W0:v=V.ref l:=X6 z1;exact⟨l,_,W0,rfl,rfl,z3,z4⟩
      obtain⟨l,s,rfl,q1,q2,q3,q4⟩:=hl;refine⟨⟨⟨l,rfl,q3,q4⟩,k1⟩,fun i0=>?_⟩;obtain⟨m1,m2⟩:=k2 (i0+1);refine⟨by simpa[fU,dF] using m1,fun k j' l' e1 e2=>?_⟩;cases k with|zero=>simp[fU,dF] at e1 e2;subst e1 e2;exact⟨⟨s,q1,q2⟩,Kx⟩|succ k=>exact m2 k j' l' (by simpa[fU] using e1) (by simpa[dF] using e2)
variable{CX:wJ}{k:Nat}{fA:Addr}{fd:FuncData}{ps:Ut}{E:XK}{x:Str}{p:Pos}{fl:X4}{fs:Fn}
theorem AA{L:Lc}{G:Fx}{F H:Hp}{σ:St}{ρ:aU}(g:L.Good G F H σ ρ){js:Rx}{ls:RE}(hj:js.Nodup)(hl:js.length=ls.length)(hs:∀(k j:Nat)(l:Addr),js[k]?=some j->ls[k]?=some l->(∃s,ρ[j]?=some s/\ck s=true)/\σ[j]?=some (some (V.ref l))):ls.Nodup:=by
 rw[List.nodup_iff_pairwise_ne,List.pairwise_iff_getElem];intro i j hi QW hij e;have Pe:i<js.length:=Ug;have Y2:j<js.length:=Ug;obtain⟨⟨s,a1,a2⟩,a3⟩:=hs i js[i] ls[i] (by simp[Pe]) (by simp[hi]);obtain⟨⟨t,b1,b2⟩,b3⟩:=hs j js[j] ls[j] (by simp[Y2]) (by simp[QW]);rw[e] at a3;have:=g.apart js[i] js[j] ls[j] s t a1 b1 a2 b2 a3 b3;have:i=j:=(Be hj).mp this
 lia
theorem so{L:Lc}{G:Fx}{F H:Hp}{σ:St}{ρ:aU}{vs:Pk}{as:List AV}{Q:VK}{P:D->aU->Prop}{Ex:Xn->aU->Prop}(g:L.Good G F H σ ρ)(r:ml L F σ vs as)
  (sL:as.map (fun a=>match a with|.val _=>false|.io _=>true)=fl) (o:Out (nU fs as ρ) P Ex) (hE:∀x r,Ex x r->di L G F σ x r)
  (hP:∀F' H' bV d v,aE F F'->L.Good G F' H' σ bV->Den L.K L.mg F' v d->P d bV->Q v H'):oC L.K L.mg fl fs vs H Q (L.EX σ):=by
 unfold nU at o;cases q:ql as ρ with
 |none=>rw[q] at o;exact o.elim|some ds=>
  rw[q] at o;dsimp only at o;by_cases nd:(fU as).Nodup;rw[WL nd] at o;obtain⟨k1,k2⟩:=Lm g r q sL;obtain⟨k3,k4⟩:=k2 0;refine⟨by rw[k1.len.1],F,ds,g.sub,k1,AA g nd k3 k4,?_⟩;cases q2:fs ds with|no=>rw[q2] at o;exact o.elim|ok d cy=>rw[q2] at o;exact fun F' H' v a rd=>hP F' H' _ d v a.sF (Good.called g nd k3 k4 a) rd o|exc xx cy=>rw[q2] at o;exact fun F' H' c dx a rx=>hE _ _ o F' H' c dx a.sF (Good.called g nd k3 k4 a) rx
  rw[S8 nd] at o;exact o.elim
def gK(CX:wJ)(X:Cx)(EX:XE):Prop:=∀(WO:Ul)(σ:St)(H:Hp)(s:Shared)(e:Value)(s':Shared),Inv X WO σ H s->CX X.stack H s (EX σ) e s'->X.xe e s'
theorem tT{WO:Ul}{σ:St}{H:Hp}{s:Shared}{Q:VK}{us:We}{vs:Pk}{sp:Sp}(F:cj X.prog X.w X.K X.mg X.base CX k fA fd ps sp)(hr:bY k X.A)(hb:Binds X.K fd ps [])(hx:gK CX X EX)(I:Inv X WO σ H s) (r:Vals vs us) (h:sp vs H Q (EX σ)):wpAny (model X.prog X.w) X.A (call (.ref fA) us) (EP X WO σ Q) X.xe s:=by
 have hl:us.length=ps.length:=by rw[<-r.length];exact F.len _ _ _ _ h
 have QK:=hb s us I.kD (by simpa using hl);rw[Il] at QK;refine wpAny_call (xo (F.run X.A X.stack s H ⟨us,[]⟩ us vs Q (EX σ) hr I.GQ QK r h) fun r s' hq=>?_);cases r with|error e=>exact hx WO σ H s e s' I hq|ok fl=>cases fl with|ret u=>exact I.after hq|next=>exact False.elim hq|brk=>exact False.elim hq|cont=>exact False.elim hq
theorem eB:∀{as:List VP.Arg}{ρ bV:aU}{vs:List AV},bL as ρ=.ok vs bV->vs.map (fun a=>match a with|.val _=>false|.io _=>true)=as.map VP.Arg.isIo
|[],ρ,bV,vs,h=>by cases h;rfl|.val f::as,ρ,bV,vs,h=>by
 simp only[bL,VP.Tz] at h;cases q:f ρ with
 |ok d r=>simp only[q] at h;cases q2:bL as r with|ok ws r2=>simp only[q2,VP.ret] at h;cases h;simp[VP.Arg.isIo,eB q2]|exc x r2=>simp only[q2] at h;cases h|no=>simp only[q2] at h;cases h
 |exc x r2=>simp only[q] at h;cases h|no=>simp only[q] at h;cases h
|.io j::as,ρ,bV,vs,h=>by
 simp only[bL,VP.Tz] at h;split at h;cases q2:bL as ρ with|ok ws r2=>simp only[q2,VP.ret] at h;cases h;simp[VP.Arg.isIo,eB q2]|exc x r2=>simp only[q2] at h;cases h|no=>simp only[q2] at h;cases h
 cases h
theorem Q0w(F:cj X.prog X.w X.K X.mg X.base CX k fA fd ps (oC X.K X.mg fl fs))(hr:bY k X.A)(hg:Gl X x)(hm:X.mg x=some (.ref fA))(hk:W.keepIn X.K (.ref fA)=true)(hb:Binds X.K fd ps [])(hx:gK CX X EX)
  (ha:yA X EX (e::es) as) (sL:autoParam (as.map VP.Arg.isIo=fl) AuP.a._autoParam) (jH:autoParam (Qu x) AuP.b._autoParam) (he:autoParam (V1 X e es) AuP.a._autoParam) (iX:autoParam (Jn X pos es) AuP.a._autoParam) :
  PV X EX (.Call (.Name x p) (e::es) [] pos) (ax fs as):=by
 intro WO s σ H Q I h;obtain⟨G,F0,ρ,g0,o⟩:=h;refine Ju (km I hg hm ?_ jH);refine Bg (h₀:=X.base) I.ok.mod.Hv hk (bN (ha pos WO s σ H (fun vs H1=>oC X.K X.mg fl fs vs H1 Q (EX σ)) I ⟨G,F0,ρ,g0,?_⟩) fun us s1 ⟨vs,H1,I1,r,q⟩=>⟨I1.kD,?_⟩) he iX;unfold ax VP.Tz at o;cases q:bL as ρ with|no=>rw[q] at o;exact o.elim|exc xx bx=>rw[q] at o;exact o|ok av bx=>rw[q] at o;intro F1 H1 vs s1 g1 r1;exact so (L:=lc X EX) g1 r1 (by rw[eB q];exact sL) o (fun x r q=>q.same s1) fun F' H' bV d v s' g' rd P=>P F' H' v (s1.trans s') g' rd
 exact tT F hr hb hx I1 r q
theorem tF:gK jG X EX:=fun _ _ _ _ _ _ _ h=>h.elim
end
theorem wW:ur=sizeLine:=sizeLine_eq.symm
section
variable{X:Cx}{EX:XE}{L:Lc}
theorem Dt{C:Int->Int->Prop}{gv:Int->Int->V}{gd:Int->Int->D}{g:D->D->Ui}(hd:∀F i j,Den L.K L.mg F (gv i j) (gd i j))(hg:∀x y d,g x y=some d->∃i j,x=.int i/\y=.int j/\C i j/\d=gd i j):kU L (rI C gv) g:=fun G F H σ ρ x y dx dy d Q g0 rx ry e k=>by obtain⟨i,j,rfl,rfl,hc,rfl⟩:=hg dx dy d e;obtain rfl:=Den.i rx;obtain rfl:=Den.i ry;exact⟨i,j,rfl,rfl,hc,k F H _ (aE.refl _) g0 (hd F i j)⟩
noncomputable def Yb(f:Int->Int->Ui):D->D->Option D|.int i,.int j=>f i j|_,_=>none
theorem jo(h:Yb f x y=some d):∃i j,x=.int i/\y=.int j/\f i j=some d:=by
 cases x with
 |int i=>cases y with|int j=>exact⟨i,j,rfl,rfl,h⟩|_=>cases h
 |_=>cases h
theorem xX{C:Int->Int->Prop}[∀i j,Decidable (C i j)]{g:Int->Int->D}{x y d:D}(h:Yb (fun i j=>if C i j then some (g i j) else none) x y=some d):∃i j,x=.int i/\y=.int j/\C i j/\d=g i j:=by obtain⟨i,j,e1,e2,e⟩:=jo h;by_cases c:C i j;rw[WL c] at e;exact⟨i,j,e1,e2,c,(X6 e).symm⟩;rw[S8 c] at e;cases e
theorem mH{gv:Int->Int->V}{gd:Int->Int->D}{g:D->D->Ui}(hd:∀F i j,Den L.K L.mg F (gv i j) (gd i j))(hg:∀x y d,g x y=some d->∃i j,x=.int i/\y=.int j/\d=gd i j):kU L (vY gv) g:=fun G F H σ ρ x y dx dy d Q g0 rx ry e k=>by obtain⟨i,j,rfl,rfl,rfl⟩:=hg dx dy d e;obtain rfl:=Den.i rx;obtain rfl:=Den.i ry;exact⟨i,j,rfl,rfl,k F H _ (aE.refl _) g0 (hd F i j)⟩
theorem Qx:kU L (vY fun i j=>.int (i+j)) Q0T:=mH (gd:=fun i j=>.int (i+j)) (fun F i j=>.int _) fun x y d h=>let ⟨i,j,e1,e2,e⟩:=jo (f:=fun i j=>some (.int (i+j))) h;⟨i,j,e1,e2,(X6 e).symm⟩
theorem eA:kU L (vY fun i j=>.int (i-j)) dh:=mH (gd:=fun i j=>.int (i-j)) (fun F i j=>.int _) fun x y d h=>let ⟨i,j,e1,e2,e⟩:=jo (f:=fun i j=>some (.int (i-j))) h;⟨i,j,e1,e2,(X6 e).symm⟩
theorem fE:kU L (rI BP fun i j=>.int (i*j)) cD:=Dt (C:=BP) (gd:=fun i j=>.int (i*j)) (fun F i j=>.int _) fun x y d h=>xX (C:=fun i j=>(-(2 ^ 64)<i/\i<2 ^ 64)\/(-(2 ^ 64)<j/\j<2 ^ 64)) (g:=fun i j=>.int (i*j)) h
theorem jf:kU L (rI K8 fun i j=>.int (i / j)) eP:=Dt (C:=K8) (gd:=fun i j=>.int (i / j)) (fun F i j=>.int _) fun x y d h=>xX (C:=fun _ j=>0<j/\j<1073741824) (g:=fun i j=>.int (i / j)) h
theorem eR:kU L (rI (fun _ j=>0<j) fun i j=>.int (i % j)) dG:=Dt (C:=fun _ j=>0<j) (gd:=fun i j=>.int (i % j)) (fun F i j=>.int _) fun x y d h=>xX (C:=fun _ j=>0<j) (g:=fun i j=>.int (i % j)) h
theorem qv:kU L (vY fun i j=>.bl (decide (i<j))) ltI:=mH (gd:=fun i j=>.bl (decide (i<j))) (fun F i j=>.bl _) fun x y d h=>let ⟨i,j,e1,e2,e⟩:=jo (f:=fun i j=>some (.bl (decide (i<j)))) h;⟨i,j,e1,e2,(X6 e).symm⟩
theorem ph:kU L (vY fun i j=>.bl (decide (i<=j))) xD:=mH (gd:=fun i j=>.bl (decide (i<=j))) (fun F i j=>.bl _) fun x y d h=>let ⟨i,j,e1,e2,e⟩:=jo (f:=fun i j=>some (.bl (decide (i<=j)))) h;⟨i,j,e1,e2,(X6 e).symm⟩
theorem Dr:kU L (vY fun i j=>.bl (decide (j<i))) Dx:=mH (gd:=fun i j=>.bl (decide (j<i))) (fun F i j=>.bl _) fun x y d h=>let ⟨i,j,e1,e2,e⟩:=jo (f:=fun i j=>some (.bl (decide (j<i)))) h;⟨i,j,e1,e2,(X6 e).symm⟩
theorem Qy:kU L (vY fun i j=>.bl (decide (j<=i))) QC:=mH (gd:=fun i j=>.bl (decide (j<=i))) (fun F i j=>.bl _) fun x y d h=>let ⟨i,j,e1,e2,e⟩:=jo (f:=fun i j=>some (.bl (decide (j<=i)))) h;⟨i,j,e1,e2,(X6 e).symm⟩
theorem isNon_den{K:Frag}{mg:MG}{F:Hp}{x:V}{dx:D}(rx:Den K mg F x dx):isNon dx=decide (x=.bB):=by cases rx<;>simp[isNon]
theorem Kg:kU L (fun x y H Q=>y=.bB/\Q (.bl (decide (x=.bB))) H) isND:=fun G F H σ ρ x y dx dy d Q g0 rx ry e k=>by unfold isND at e;split at e;rename_i hn;cases e;rw[isNon_den ry] at hn;refine⟨Hn hn,?_⟩;rw[<-isNon_den rx];exact k F H _ (aE.refl _) g0 (.bl _);cases e
theorem gI:W9 L (rU fun i=>.int (-i)) lU:=fun G F H σ ρ x dx d Q g0 rx e k=>by cases dx<;>simp[lU] at e;subst e;rcases rx with rx|⟨l,_,z⟩;obtain rfl:=Den.i rx;exact⟨_,rfl,k F H _ (aE.refl _) g0 (.int _)⟩;exact z.elim
def Aa(K:Frag):R2:=fun x y H Q=>∃a b xs ys,x=.ref a/\y=.ref b/\dW K H a xs/\dW K H b ys/\xs.length+ys.length<=sizeLine/\(ys=[]->Q (.ref a) H)/\(xs=[]->Q (.ref b) H)/\(∀p,H p=none->Q (.ref p) (upd H p (.tup (xs++ys))))
theorem GI{prog:Program}{w:World}{A:Around}{E:TF}{s:Shared}{t b:Addr}{ws:We}{Q:TF}(ht:IsTup s.heap t (#[]:Array Value))(hb:IsTup s.heap b ws.toArray)(h1:Q (.ref b) s):wpAny (model prog w) A (binaryOp .Add (.ref t) (.ref b)) Q E s:=by obtain⟨⟨cls,dd,data,sl⟩,ho,hc,n,hd⟩:=id ht;obtain⟨⟨U3,TJ,data2,Pp⟩,Mb,AQ,n2,hd2⟩:=id hb;simp only at hc hd AQ hd2;subst hc hd AQ hd2;exact concat_meets ⟨_,ho,rfl⟩ ⟨_,Mb,rfl⟩ noFill_tuple_add seq_tuple_add Ji LX (NT _ _) (tuple_addW0 t b #[] ws.toArray n n2 dd TJ sl Pp rfl) ⟨ho,Mb,h1⟩
theorem Ij:ij X (binaryOp .Add) (Aa X.K):=by intro WO s σ H x y v u Q I rx ry h;obtain⟨a,b,xs,ys,rfl,rfl,ha,hb,hz,q1,q2,q3⟩:=h;by_cases hx:xs=[];cases rx;cases ry;obtain⟨aS,r1,p1,_⟩:=I.tuple ha;obtain⟨jI,r2,p2,_⟩:=I.tuple hb;have:aS=[]:=r1.ox.mpr hx;subst this;exact GI p1 p2 ⟨.ref b,H,I,rfl,q2 hx⟩;exact Q1c WO s σ H _ _ v u Q I rx ry ⟨a,b,xs,ys,rfl,rfl,ha,hb,hx,hz,q1,fun _=>q3⟩
theorem LS:kU L (Aa L.K) P6:=fun G F H σ ρ x y dx dy d Q g0 rx ry e k=>by
 cases dx with
 |tup xs=>cases dy with|tup ys=>simp only[P6] at e;split at e;rename_i hl;cases e;obtain⟨a,vs,rfl,h1,r1⟩:=Den.t rx;obtain⟨b,ws,rfl,h2,r2⟩:=Den.t ry;refine⟨a,b,vs,ws,rfl,rfl,dW.same h1 g0.sub,dW.same h2 g0.sub,?_,fun z=>?_,fun z=>?_,fun p hp=>?_⟩;rw[r1.length,r2.length,<-wW];exact hl;subst z;cases r2;rw[Il] at k;exact k F H _ (aE.refl _) g0 (.tup h1 r1);subst z;cases r1;exact k F H _ (aE.refl _) g0 (.tup h2 r2);have sF:=a8 (o:=.tup (vs++ws)) (g0.sub.free hp);exact k _ _ _ sF (g0.laid hp) (.tup (dW.of aB) (aN.append (aN.same sF r1) (aN.same sF r2)));cases e|_=>cases e
 |_=>cases e
theorem aN.AE{K:Frag}{mg:MG}{F:Hp}{vs:Pk}{ds:OK}{i:Int}{d:D}(h:aN K mg F vs ds)(e:ux ds i=some d):∃v,AE vs i=some v/\Den K mg F v d:=by unfold ux at e;unfold L2.AE;rw[h.length];show ∃v,(A0 ds.length i).bind _=_/\_;cases q:A0 ds.length i with|none=>rw[q] at e;cases e|some j=>rw[q] at e;exact h.get e
theorem LU:kU L (Wm L.K) aq:=fun G F H σ ρ x y dx dy d Q g0 rx ry e k=>by
 cases dx with
 |tup _=>cases dy with|int _=>obtain rfl:=Den.i ry;obtain⟨_,_,rfl,h1,r1⟩:=Den.t rx;obtain⟨v,e1,e2⟩:=aN.AE r1 e;exact .inr (.inl ⟨_,_,_,v,rfl,rfl,dW.same h1 g0.sub,e1,k F H v (aE.refl _) g0 e2⟩)|_=>cases e
 |lst _=>cases dy with|int _=>obtain rfl:=Den.i ry;obtain⟨_,_,rfl,h1,r1⟩:=Den.l rx;obtain⟨v,e1,e2⟩:=aN.AE r1 e;exact .inl ⟨_,_,_,v,rfl,rfl,cn.same h1 g0.sub,e1,k F H v (aE.refl _) g0 e2⟩|_=>cases e
 |_=>cases e
variable{a b e c:Expr}{fa fb:M D}{pos:Pos}
theorem aw(ha:PV X EX a fa)(hb:PV X EX b fb)(hs:ly b:=by exact D6):PV X EX (.Subscript a b pos) (m2 aq fa fb):=(vS pE ha hb hs).le (gC LU (fun _ _ _ q=>q) fun _ _ _ q=>q)
theorem lX{L:Lc}{G:Fx}{F H:Hp}{σ:St}{ρ:aU}{j:Nat}(g:L.Good G F H σ ρ)(h:(own ρ[j]?).isSome=true):∃l d,σ[j]?=some (some (V.ref l))/\own ρ[j]?=some d/\fF L.K L.mg F H l d:=by cases q:ρ[j]? with|none=>rw[q] at h;cases h|some t=>rw[q] at h;have sl:=g.slot j t q;cases t with|no=>cases h|sh d=>cases h|ow d=>obtain⟨l,z1,z2,z3,z4⟩:=sl;exact⟨l,d,join_some z1,rfl,z4⟩|io d=>obtain⟨l,z1,z2,z3,z4⟩:=sl;exact⟨l,d,join_some z1,rfl,z4⟩
theorem bF(j:Nat){x:Str}{p:Pos}(hb:PV X EX b fb)(hs:ly b:=by exact D6)(hN:autoParam (X.N[j]?=some x) AuP.a._autoParam)(hv:oI X.env.scope x:=by exact Vd)(hd:autoParam (Qu x) AuP.b._autoParam)(gp:autoParam (P7 x) AuP.b._autoParam):PV X EX (.Subscript (.Name x p) b pos) (dB j fb):=by
 refine(vS pE (cC hN hv hd gp) hb hs).le fun σ H Q bH=>lf bH fun G F ρ g0 o=>?_;unfold dB at o;by_cases ho:(own ρ[j]?).isSome=true;rw[WL ho] at o;obtain⟨l,d0,Kx,_,_⟩:=lX g0 ho;refine⟨_,Kx,bj g0 o (fun x r q=>q) fun F1 H1 bx d1 y s1 g1 r1 o1=>?_⟩;unfold DU at o1;by_cases Q3:(own bx[j]?).isSome=true;obtain⟨l',d,Ks,QN,ob⟩:=lX g1 Q3;rw[Kx] at Ks;cases Ks;rw[QN] at o1;obtain⟨d2,e2,q2⟩:=Out.opt o1;cases d with
  |lst ds=>obtain⟨vs,h1,h2⟩:=ob;cases d1 with|int i=>obtain rfl:=Den.i r1;obtain⟨w,e1,e3⟩:=aN.AE h2 e2;exact .inl ⟨_,_,_,w,rfl,rfl,cn.of h1,e1,q2 F1 H1 w s1 g1 e3⟩|_=>exact absurd e2 (by simp[aq])
  |fP ks ds=>cases d1<;>exact absurd e2 (by simp[aq])|ins c ns ds=>cases d1<;>exact absurd e2 (by simp[aq])|_=>exact ob.elim
 cases q:own bx[j]? with|none=>rw[q] at o1;exact o1.elim|some d=>rw[q] at Q3;exact absurd rfl Q3
 rw[S8 ho] at o;exact o.elim
end
def jM(cells:List (Str×Addr)):List (Str×NameKind)->List (Str×Addr)->List (Str×Addr)
|[],acc=>acc| (x,k)::r,acc=>if k == .free then
  (match cells.lookup x with|some c=>jM cells r ((x,c)::acc)|none=>jM cells r acc)
 else jM cells r acc
theorem lF:∀{names:List (Str×NameKind)}{acc:List (Str×Addr)}{p:Str×Addr},p∈jM cells names acc->p∈acc\/cells.lookup p.1=some p.2
|[],_,_,h=>.inl h| (x,k)::r,acc,p,h=>by
 unfold jM at h;split at h;cases q:cells.lookup x with|none=>rw[q] at h;exact lF h|some c=>rw[q] at h;rcases lF h with h|h;rcases List.mem_cons.mp h with h|h;subst h;exact .inr q;exact .inl h;exact .inr h
 exact lF h
theorem kg:∀{names:List (Str×NameKind)}{acc:List (Str×Addr)}{p:Str×Addr},p∈acc->p∈jM cells names acc
|[],_,_,h=>h| (x,k)::r,acc,p,h=>by
 unfold jM;split;cases q:cells.lookup x with|none=>exact kg h|some c=>exact kg (X1 _ h)
 exact kg h
theorem lE(hc:cells.lookup x=some c):∀{names:List (Str×NameKind)}{acc:List (Str×Addr)},(x,NameKind.free)∈names->(x,c)∈jM cells names acc
| (y,k)::r,acc,h=>by
 unfold jM;rcases List.mem_cons.mp h with h|h;cases h;simp only[beq_self_eq_true,if_true,hc];exact kg Rn;split;cases q:cells.lookup y with|none=>exact lE hc h|some c'=>exact lE hc h
 exact lE hc h
theorem gN{α:Type}{a:α}:∀{l:List (Str×α)},(x,a)∈l->∃b,l.lookup x=some b
| (y,b)::r,h=>by
 by_cases e:(x == y)=true;exact⟨b,by simp[List.lookup_cons,e]⟩;have e':(x == y)=false:=by simpa using e
 rcases List.mem_cons.mp h with h|h;cases h;simp at e';obtain⟨c,hc⟩:=gN h;exact⟨c,by simp[List.lookup_cons,e',hc]⟩
theorem eu(h:(jM cells names []).lookup x=some c):cells.lookup x=some c:=by rcases lF (JA h) with h|h;cases h;exact h
theorem AK(hc:cells.lookup x=some c)(h:(x,NameKind.free)∈names):(jM cells names []).lookup x=some c:=by obtain⟨b,hb⟩:=gN (lE (acc:=[]) hc h);have:=eu hb;rw[hc] at this;cases this;exact hb
theorem nO(h:∀p∈scope.names,p.2=.free->∃c,env.cells.lookup p.1=some c):closureFor scope env=pure (jM env.cells scope.names []):=by
 have gen:∀(names:List (Str×NameKind))(acc:List (Str×Addr)),(∀p∈names,p.2=.free->∃c,env.cells.lookup p.1=some c)->(forIn names acc fun(x:Str×NameKind) r=>(if x.2 == .free then(do let c <-cellOf env x.1;pure (ForInStep.yield ((x.1,c)::r))) else pure (ForInStep.yield r):Sem _))=pure (jM env.cells names acc):=by
  intro names;induction names with
  |nil=>intro acc _;rfl|cons p r ih=>
   intro acc hp;obtain⟨x,k⟩:=p;rw[List.forIn_cons];unfold jM;by_cases hk:k=.free;subst hk;obtain⟨c,hc⟩:=hp (x,.free) Rn rfl;have e:cellOf env x=pure c:=by unfold cellOf;rw[show env.cells.lookup x=some c from hc]
   simp only[beq_self_eq_true,if_true,e,hc];exact ih _ fun q hq=>hp q (X1 _ hq);have hb:(k == NameKind.free)=false:=by simpa using hk
   simp only[hb,Bool.false_eq_true,if_false];exact ih _ fun q hq=>hp q (X1 _ hq)
 have:=gen scope.names [] h;unfold closureFor;simpa using this
theorem fj:(relabel scope env).names.lookup x=(scope.names.lookup x).map fun k=>if (k == .free&&env.scope.kind == .function&&env.kindOf x == some .cell) then .cell else k:=by
 unfold relabel;generalize scope.names=l;induction l with
 |nil=>rfl|cons p r ih=>
  obtain⟨n,k⟩:=p;simp only[List.map_cons];by_cases hx:(x == n)=true;have e:x=n:=by simpa using hx
  subst e;simp only[List.lookup_cons,beq_self_eq_true,Option.map_some];split<;>simp[List.lookup_cons];have e':(x == n)=false:=by simpa using hx
  have e2:List.lookup x ((n,k)::r)=List.lookup x r:=by simp[List.lookup_cons,e']
  rw[e2,<-ih];split<;>simp[List.lookup_cons,e']
def ja(outer inner:List (Str×NameKind))(N N':Ut):Bool:=
 inner.all (fun p=>p.2 != .cell&&(p.2 != .free||outer.lookup p.1 == some .cell||outer.lookup p.1 == some .free)&&(p.2 != .local||inner.lookup p.1 == some .local)) &&
 decide (N.length<=N'.length)&&(List.range N.length).all (fun i=>match N'[i]? with|some x=>inner.lookup x != some .local&&(inner.lookup x == none||N[i]? == some x)|none=>true)&&(match N'[N'.length-1]? with|some x=>inner.lookup x == none|none=>false)&&decide (N.length+1<=N'.length)
def bI(X:Cx)(scope:Scope)(C:Addr)(N':Ut)(s:Shared)(H:Hp)(ex:RE):Cx:={X with env:=compEnvC scope (jM X.env.cells scope.names []) C X.env,N:=N',s₀:=s,H₀:=H,outer:=X.stack,ex:=ex,fn:=fun _=>false,pn:=[],xe:=fun _ _=>False}
structure bU(X:Cx)(scope:Scope)(N':Ut):Prop where
 kind:scope.kind=.function
 O5:ja X.env.scope.names scope.names X.N N'=true
section
variable{X:Cx}{scope:Scope}{N':Ut}
theorem bU.free(c:bU X scope N')(hp:p∈scope.names)(hf:p.2=.free):X.env.kindOf p.1=some .cell\/X.env.kindOf p.1=some .free:=by have h:=c.O5;unfold ja at h;simp only[Bool.and_eq_true,List.all_eq_true] at h;have q:=(h.1.1.1.1 p hp).1.2;rw[hf] at q;simp at q;exact q
theorem bU.tq(c:bU X scope N')(hp:p∈scope.names):p.2≠.cell:=by have h:=c.O5;unfold ja at h;simp only[Bool.and_eq_true,List.all_eq_true] at h;have q:=(h.1.1.1.1 p hp).1.1;simpa using q
theorem bU.names(c:bU X scope N')(hp:p∈scope.names)(hl:p.2=.local):scope.names.lookup p.1=some .local:=by have h:=c.O5;unfold ja at h;simp only[Bool.and_eq_true,List.all_eq_true] at h;have q:=(h.1.1.1.1 p hp).2;rw[hl] at q;simpa using q
theorem bU.len(c:bU X scope N'):X.N.length+1<=N'.length:=by have h:=c.O5;unfold ja at h;simp only[Bool.and_eq_true] at h;exact Hn h.2
theorem bU.acc(c:bU X scope N')(hx:N'[N'.length-1]?=some x):scope.names.lookup x=none:=by have h:=c.O5;unfold ja at h;simp only[Bool.and_eq_true] at h;have q:=h.1.2;rw[hx] at q;simpa using q
theorem bU.at(c:bU X scope N')(hi:i<X.N.length)(hx:N'[i]?=some x):scope.names.lookup x≠some .local/\(scope.names.lookup x=none\/X.N[i]?=some x):=by have h:=c.O5;unfold ja at h;simp only[Bool.and_eq_true,List.all_eq_true] at h;have q:=h.1.1.2 i (List.mem_range.mpr hi);rw[hx] at q;simp only[Bool.and_eq_true,Bool.or_eq_true] at q;refine⟨by simpa using q.1,?_⟩;rcases q.2 with z|z;exact .inl (by simpa using z);exact .inr (by simpa using z)
theorem bU.Qj(c:bU X scope N')(ok:X.Ok):closureFor scope X.env=pure (jM X.env.cells scope.names []):=nO fun p hp hf=>ok.has p.1 (c.free hp hf)
theorem bU.look(c:bU X scope N')(ok:X.Ok)(hx:scope.names.lookup x=some .free) : ((relabel scope X.env).names.lookup x=some .cell\/(relabel scope X.env).names.lookup x=some .free)/\(X.env.kindOf x=some .cell\/X.env.kindOf x=some .free)/\∃a,X.env.cells.lookup x=some a/\(jM X.env.cells scope.names []).lookup x=some a:=by have hm:=JA hx;have hk:=c.free hm rfl;obtain⟨a,ha⟩:=ok.has x hk;refine⟨?_,hk,a,ha,AK ha hm⟩;rw[fj,hx];simp only[Option.map_some];split;exact .inl rfl;exact .inr rfl
theorem oP{WO:Ul}{σ:St}{H:Hp}{s:Shared}{fp:RE}{h₁:Heap}{D C:Addr}{tk:Nat}(c:bU X scope N')(I:Inv X WO σ H s)(hf:∀b∈fp,iY X WO H b)(zD:∀b∈fp,b<s.heap.objs.size)
  (hD:D=s.heap.objs.size) (hC:C=s.heap.objs.size+1) (old:∀b o,s.heap.get? b=some o->h₁.get? b=some o) (Kt:h₁.Ns C fun _=>none) (hl:h₁.get? D=some {cls:=.type "list",data:=.seq #[] 0}) :
  Inv (bI X scope C N' s H fp) [] (σ++List.replicate (N'.length-1-σ.length) none++[some (V.ref D)]) (upd H D (.lst [])) {s with heap:=h₁,toks:=tk}:=by
 have QH:H D=none:=I.cm.fresh (by rw[hD];exact Gm _);have YE:H C=none:=I.cm.fresh (by rw[hC];exact Bf _);have QG:C≠D:=by rw[hC,hD];exact xP (FG _)
 have VH:nJ X.prog X.w (upd H D (.lst [])) h₁:=I.cm.laid old (by rw[hD];exact Gm _) ⟨Xq _,[],0,.nil,hl⟩;have Lu:∀x a,X.env.cells.lookup x=some a->a<s.heap.objs.size:=fun x a e=>by obtain⟨v,q⟩:=I.cell x a e;exact q.lt
 have Zx:σ.length=X.N.length:=I.len;refine⟨⟨I.ok.mod,?_,I.ok.glob,I.ok.blt,?_,?_,?_,?_,I.ok.hd,I.ok.frames,.inl rfl,?_,I.bs,RC I.ok.Gb I.sz,?_,?_,I.stack,I.Aj⟩,rfl,I.bare,Un.laid old (by rw[hD];exact Gm _) QH,⟨_,Kt,?_⟩,?_,?_,?_,?_,VH,?_⟩;show (relabel scope X.env).kind=_;exact c.kind;show s.heap.objs.size<=C;rw[hC];exact Bf _;intro x y a h1 h2;exact I.ok.inj x y a (eu h1) (eu h2);intro x hx;have DF:(relabel scope X.env).names.lookup x=some .cell\/(relabel scope X.env).names.lookup x=some .free:=hx;rw[fj] at DF;cases q:scope.names.lookup x with
 |none=>rw[q] at DF;rcases DF with z|z<;>cases z
 |some k=>
  rw[q] at DF;have hk:k=.free:=by have nc:=c.tq (JA q);simp only[Option.map_some] at DF;split at DF;rename_i hh;simp at hh;exact hh.1.1;rcases DF with z|z;exact absurd (X6 z) nc;exact X6 z
  subst hk;refine VP.gl fun QQ eQ=>?_;obtain⟨_,_,a,_,z⟩:=c.look I.ok q;subst eQ;exact⟨a,z⟩
 intro x a hx _;exact absurd (show false=true from hx) Qw;intro b hb;refine⟨?_,fun x a e=>?_⟩;show b≠C;rw[hC];exact Wi (QB (zD b hb));exact(hf b hb).2.2.2.2.1 x a (eu e);intro b o e hb;rcases (hf b hb).2.2.2.1 with z|z;exact I.ok.En b o e z;exact absurd (XZ (Hh e) (RC I.ok.Gb z)) (xO _);intro b hb YL;rcases List.mem_cons.mp (I.yo b YL) with z|z;exact(hf b hb).2.1 z;exact(hf b hb).2.2.1 z;intro i x v h1 h2 h3;by_cases hi:i<σ.length;rw[Sg (by simp;lia),Sg hi] at h2;obtain⟨n1,n2⟩:=c.at Ug h1;have AN:(relabel scope X.env).names.lookup x=some .local\/(relabel scope X.env).names.lookup x=some .cell\/(relabel scope X.env).names.lookup x=some .free:=h3;rw[fj] at AN;cases q:scope.names.lookup x with
 |none=>rw[q] at AN;rcases AN with z|z|z<;>cases z
 |some k=>
  have hk:k=.free:=by rw[q] at AN n1;have nc:=c.tq (JA q);simp only[Option.map_some] at AN;split at AN;rename_i hh;simp at hh;exact hh.1.1;rcases AN with z|z|z;exact absurd z n1;exact absurd (X6 z) nc;exact X6 z
  subst hk;have hN:X.N[i]?=some x:=by rcases n2 with z|z;rw[q] at z;cases z;exact z
  refine VP.gl fun QQ eQ=>?_;obtain⟨k1,k2,a,k3,k4⟩:=c.look I.ok q;subst eQ;obtain⟨m,hm,Ks⟩:=I.loc;have vis:oI X.env.scope x:=k2.elim (fun z=>.inr (.inl z)) fun z=>.inr (.inr z);obtain⟨u,ru,lk⟩:=Ks i x v hN h2 vis;refine⟨u,ru,.inr ⟨k1,a,k4,?_⟩⟩;rcases lk with ⟨z,_⟩|⟨_,a',z1,z2⟩
  rcases k2 with k2|k2<;>(rw[k2] at z;cases z);rw[k3] at z1;cases z1;obtain⟨ob,y1,y2⟩:=z2;exact⟨ob,old _ _ y1,y2⟩
 by_cases Pe:i<N'.length-1;rw[Sg (by simp;lia),sW Ug,wd] at h2;split at h2<;>cases h2;have hi3:i<N'.length:=(List.getElem?_eq_some_iff.mp h1).1;have e:i=N'.length-1:=Ug;rw[e] at h1;have z:=c.acc h1;have AN:(relabel scope X.env).names.lookup x=some .local\/(relabel scope X.env).names.lookup x=some .cell\/(relabel scope X.env).names.lookup x=some .free:=h3;rw[fj,z] at AN;rcases AN with y|y|y<;>cases y;intro x a e;obtain⟨v,ob,y1,y2⟩:=I.cell x a (eu e);exact⟨v,ob,old _ _ y1,y2⟩;show upd H D (.lst []) C=none;rw[aF QG];exact YE;intro x a e;have e':=eu e;have:a≠D:=by rw[hD];exact Wi (Lu x a e')
 rw[aF this];exact I.kL x a e';intro p hp;exact absurd (show p∈([]:Ul) from hp) O3;show (σ++_++_).length=N'.length;have:=c.len;simp
 lia
def FY(X:Cx)(EX:XE)(ifs:KJ)(f:M Bool):Prop:=∀(WO:Ul)(s:Shared)(σ:St)(H:Hp)(Q:Bool->Hp->Prop),Inv X WO σ H s->lift (lc X EX) RB f σ H Q->wpAny (model X.prog X.w) X.A (forIn ifs true fun c r=>if r=true then do let ok <-isTrue c X.env (eval c X.env);pure (ForInStep.yield ok) else pure (ForInStep.yield r)) (TP X WO σ Q) X.xe s
theorem cf:FY X EX [] (ret true):=fun WO s σ H Q I ⟨G,F,ρ,g,o⟩=>wpAny_tests_nil ⟨H,I,o F H true (aE.refl _) g rfl⟩
theorem lY(h:PB X EX c f):FY X EX [c] f:=fun WO s σ H Q I q=>wpAny_tests_one (h WO s σ H Q I q)
theorem Good.take{K:Frag}{mg:MG}{G:Fx}{F H:Hp}{σ:St}{ρ:aU}(g:Good K mg G F H σ ρ)(n:Nat):Good K mg G F H (σ.take n) (ρ.take n) where
 sF:=g.sF
 sub:=g.sub
 old:=g.old
 new:=g.new
 len:=by simp[g.len]
 slot:=fun i s h=>by by_cases hi:i<n;rw[Ox hi] at h ⊢;exact g.slot i s h;rw[Ht Ug] at h;cases h
 apart:=fun i j l s t h1 h2 o1 o2 e1 e2=>by by_cases hi:i<n;by_cases hj:j<n;rw[Ox hi] at h1 e1;rw[Ox hj] at h2 e2;exact g.apart i j l s t h1 h2 o1 o2 e1 e2;rw[Ht Ug] at h2;cases h2;rw[Ht Ug] at h1;cases h1
 nt:=g.nt
 nT:=g.nT
theorem Good.more{K:Frag}{mg:MG}{G:Fx}{F H:Hp}{σ:St}{ρ:aU}{D:Addr}(g:Good K mg G F H σ ρ)(n:Nat)(hD:H D=none):Good K mg G F (upd H D (.lst [])) (σ++List.replicate n none++[some (V.ref D)]) (ρ++List.replicate n .no++[.ow (.lst [])]):=by
 have g1:Good K mg G F (upd H D (.lst [])) σ ρ:=g.made hD;have at_:∀{i:Nat}{s:Sl},(ρ++List.replicate n .no++[.ow (.lst [])])[i]?=some s->(i<ρ.length/\ρ[i]?=some s/\(σ++List.replicate n none++[some (V.ref D)])[i]?=σ[i]?)\/(s=.no)\/(i=ρ.length+n/\s=.ow (.lst [])/\(σ++List.replicate n none++[some (V.ref D)])[i]?=some (some (V.ref D))):=fun {i s} h=>by
  by_cases hi:i<ρ.length;rw[Sg (by simp;lia),Sg hi] at h;exact .inl ⟨hi,h,by rw[Sg (by simp[g.len];lia),Sg (by rw[g.len];exact hi)]⟩;by_cases Pe:i<ρ.length+n;rw[Sg (by simp;lia),sW Ug,wd] at h;split at h;exact .inr (.inl (X6 h).symm);cases h;rw[sW (by simp;lia)] at h;have e:i=ρ.length+n:=by
   have:=(List.getElem?_eq_some_iff.mp h).1;simp at this
   lia
  subst e;simp at h;refine .inr (.inr ⟨rfl,h.symm,?_⟩);rw[sW (by simp[g.len])];simp[g.len]
 have noD:∀{i:Nat}{s:Sl},ρ[i]?=some s->ck s=true->σ[i]?≠some (some (V.ref D)):=fun {i s} h o e=>by refine VP.gl fun QQ eQ=>?_;obtain⟨l,d,h1,h2,h3,h4⟩:=(g.slot i s h).own o;subst eQ;rw[e] at h1;cases h1;obtain⟨u,hu⟩:=h3.has;rw[hD] at hu;cases hu
 exact {
  sF:=g1.sF
  sub:=g1.sub
  old:=g1.old
  new:=g1.new
  len:=by simp[g.len]
  slot:=fun i s h=>by
   rcases at_ h with ⟨h1,h2,h3⟩|rfl|⟨h1,rfl,h3⟩
   rw[h3];exact g1.slot i s h2;trivial;rw[h3];exact⟨D,rfl,g.sub.free hD,g.El hD,[],aB,.nil⟩
  apart:=fun i j l s t h1 h2 o1 o2 e1 e2=>by
   rcases at_ h1 with ⟨a1,a2,a3⟩|rfl|⟨a1,rfl,a3⟩
   rcases at_ h2 with ⟨b1,b2,b3⟩|rfl|⟨b1,rfl,b3⟩
   rw[a3] at e1;rw[b3] at e2;exact g.apart i j l s t a2 b2 o1 o2 e1 e2;cases o2;rw[a3] at e1;rw[b3] at e2;cases e2;exact absurd e1 (noD a2 o1);cases o1;rcases at_ h2 with ⟨b1,b2,b3⟩|rfl|⟨b1,rfl,b3⟩
   rw[a3] at e1;rw[b3] at e2;cases e1;exact absurd e2 (noD b2 o2);cases o2;rw[a1,b1]
  nt:=g1.nt
  nT:=g1.nT}
theorem wx{L:Lc}{G:Fx}{F H:Hp}{σ:St}{ρ:aU}{k:Nat}{x:D}{v:V}{P:Unit->aU->Prop}{E:Xn->aU->Prop}(g:L.Good G F H σ ρ)(r:Den L.K L.mg F v x)(o:Out (fJ k (gW x) ρ) P E) : ∃l vs bV,σ[k]?=some (some (V.ref l))/\H l=some (.lst vs)/\vs.length<sizeLine/\L.Good G F (upd H l (.lst (vs++[v]))) σ bV/\P () bV:=by
 unfold fJ at o;cases q:own ρ[k]? with
 |none=>rw[q] at o;exact o.elim|some d=>
  rw[q] at o;dsimp only at o;cases q2:gW x d with
  |none=>rw[q2] at o;exact o.elim|some d'=>
   rw[q2] at o;have o':P () (cE k d' ρ):=o;cases d with
   |lst ds=>
    simp only[gW] at q2;split at q2;rename_i hl;cases q2;cases q3:ρ[k]? with
    |none=>rw[q3] at q;cases q|some s=>
     rw[q3] at q;have sl:=g.slot k s q3;have fin:∀l s',σ[k]?=some (some (V.ref l))->ck s=true->fF L.K L.mg F H l (.lst ds)->((∃e,s=.ow e/\s'=.ow (.lst (ds++[x])))\/(∃e,s=.io e/\s'=.io (.lst (ds++[x]))))->cE k (.lst (ds++[x])) ρ=ρ.set k s'->∃l vs bV,σ[k]?=some (some (V.ref l))/\H l=some (.lst vs)/\vs.length<sizeLine/\L.Good G F (upd H l (.lst (vs++[v]))) σ bV/\P () bV:=fun l s' z1 z2 z3 z4 z5=>by obtain⟨vs,y1,y2⟩:=z3;refine⟨l,vs,_,z1,y1,by rw[y2.length,Lq];exact hl,Good.write g q3 z2 z1 z4 ⟨_,aB,y2.append (.cons r .nil)⟩,?_⟩;rw[<-z5];exact o'
     cases s with|no=>cases q|sh e=>cases q|ow e=>cases q;refine VP.gl fun QQ eQ=>?_;obtain⟨l,z1,z2,z3,z4⟩:=sl;subst eQ;exact fin l _ (join_some z1) rfl z4 (.inl ⟨_,rfl,rfl⟩) (by unfold cE;rw[q3])|io e=>cases q;refine VP.gl fun QQ eQ=>?_;obtain⟨l,z1,z2,z3,z4⟩:=sl;subst eQ;exact fin l _ (join_some z1) rfl z4 (.inr ⟨_,rfl,rfl⟩) (by unfold cE;rw[q3])
    cases q2
   |_=>cases q2
variable{X:Cx}{EX:XE}{elt tg Ws:Expr}{ifs:KJ}{pos:Pos}{it:M (List D)}{gf:D->M Unit}{ft:M Bool}{fe:M D}{js:Rx}{scope:Scope}{N':Ut}
theorem my(n:Nat){use:Option (Value->Sem Unit)}{QQ:TF}{WO:Ul}{s:Shared}{σ:St}{H F:Hp}{G:Fx}{ρ:aU}{P:D->aU->Prop}{Ex:Xn->aU->Prop}
  (hc:X.calm=true) (c:bU X scope N') (hn:X.N.length+n+1=N'.length) (hi:uz X EX tg Ws it) (vk:∀d r x r',gf d r≠.exc x r') (wN:∀j∈js,X.N.length<=j/\j<X.N.length+n)
  (hg:∀C s H ex,Av (bI X scope C N' s H ex) EX tg js gf) (ht:∀C s H ex EX,FY (bI X scope C N' s H ex) EX ifs ft)
  {xw:Addr->Shared->Hp->RE->Value->Shared->Prop} (he:∀C s H ex,PV ((bI X scope C N' s H ex).n5 (xw C s H ex)) (fun _=>EX σ) elt fe)
  (hw:∀(l C:Addr)(s2:Shared)(H2:Hp)(fp:RE)(v:Value)(s':Shared),Inv X WO σ H2 s2->(∀b∈fp,iY X WO H2 b)->C=s2.heap.objs.size+1->xw C s2 H2 fp v s'->notedBy (model X.prog X.w) X.A (bI X scope C N' s2 H2 fp).env (fun x Gp=>compPost (model X.prog X.w) X.A X.xe use QQ (.ref l) C (.error x) Gp) v s')
  (hs:∀x,foldedSetIterable Ws X.env x=pure x) (I:Inv X WO σ H s) (g0:(lc X EX).Good G F H σ ρ) (o:Out (aY n it gf ft fe ρ) P Ex) (hE:∀x r,Ex x r->di (lc X EX) G F σ x r)
  (DA:∀(F4 H4:Hp)(s5:Shared)(rV:aU)(d:D)(l C:Addr)(mm:Str->O8),aE F F4->(lc X EX).Good G F4 H4 σ rV->Loose X.K X.mg G F4 H4 σ rV l d->P d rV->Inv X WO σ H4 s5->s5.heap.Ns C mm->iY X WO H4 C->compPost (model X.prog X.w) X.A X.xe use QQ (.ref l) C (.ok .next) s5) :
  wpAny (model X.prog X.w) X.A (comprehension (.ListComp elt [⟨tg,Ws,ifs,0⟩] scope pos) scope X.env (firstIterPos [⟨tg,Ws,ifs,0⟩] pos) (newList []) (firstAsync [⟨tg,Ws,ifs,0⟩]) (firstIter [⟨tg,Ws,ifs,0⟩] X.env) use) QQ X.xe s:=by
 refine wpAny_comprehension_free (use:=use) rfl hs (c.Qj I.ok) c.kind (fun y hy hl=>c.names hy hl) ?_;refine bN (hi WO s σ H (fun J H1=>∃F1 bx ds,aE F F1/\(lc X EX).Good G F1 H1 σ bx/\FW (lc X EX) G F1 J ds/\Out (inner n (fun k=>turns k gf ft fe ds) bx) P Ex) I (bj g0 o hE fun F1 H1 bx ds J s1 g1 r1 o1=>⟨F1,bx,ds,s1,g1,r1,o1⟩)) fun xv s1 h1=>bN h1 fun Uj s2 h2=>?_;refine VP.gl fun QQ eQ=>?_;obtain⟨Rp,fp,tn,J,H2,e,I2,T,qC,f2,F1,bx,ds,e1,g1,r1,o1⟩:=h2;subst eQ;subst e;refine NB (wpAny_newFunctionEnv (fun y hy=>c.tq hy) (by intro y hy;simp at hy) (fun h₁ k9 jg=>?_) c.kind);dsimp only at k9 jg ⊢;generalize L3:s2.heap.push {cls:=.type "list",dict:=none,data:=.seq ([]:We).toArray}=HP at k9 jg ⊢;have hC:HP.objs.size=s2.heap.objs.size+1:=by rw[<-L3,sA]
 have QG:s2.heap.objs.size≠HP.objs.size:=by rw[hC];exact Wi (FG _)
 have old:∀b o,s2.heap.get? b=some o->h₁.get? b=some o:=fun b o e=>jg.extBut b o (by have:=Hh e;rw[hC];exact Wi (QB this)) (RN _ (L3 ▸ RN _ e));have hl:h₁.get? s2.heap.objs.size=some {cls:=.type "list",data:=.seq #[] 0}:=jg.extBut _ _ QG (RN _ (L3 ▸ Rv _ rfl));have zD:∀b∈fp,b<s2.heap.objs.size:=fun b hb=>by obtain⟨ob,e,_⟩:=T.obj 0 _ qC b hb;exact Hh e
 have Kt:h₁.Ns HP.objs.size fun _=>none:=by simpa using k9
 have QH:H2 s2.heap.objs.size=none:=I2.cm.fresh (Gm _);have Rz:σ.length=X.N.length:=I.len;have Ry:bx.length=σ.length:=g1.len.symm;have wQ:N'.length-1-σ.length=n:=Ug;have I3:=oP (tk:=s2.toks+([]:List (Str×Value)).length) c I2 f2 zD rfl hC old Kt hl;rw[wQ] at I3;have g2:=Good.more g1 n QH;rw[show inner n (fun k=>turns k gf ft fe ds) bx=_ from rfl] at o1;unfold inner at o1;rw[Ry] at o1;let XX:=bI X scope HP.objs.size N' s2 H2 fp;have lS:∀s3:Shared,s3={s2 with heap:=h₁,toks:=s2.toks+([]:List (Str×Value)).length}->codeAny (model X.prog X.w) X.A (.compLoop (.ListComp elt [⟨tg,Ws,ifs,0⟩] scope pos) 0 (.ref Rp) (.ref s2.heap.objs.size) XX.env) (compPost (model X.prog X.w) X.A X.xe use QQ (.ref s2.heap.objs.size) HP.objs.size) s3:=by
  rintro s3 rfl;have Kl:∀{α:Type}{t:Sem α}{Q':α->Shared->Prop}{E':TF}{s':Shared},wpAny (model X.prog X.w) X.A t Q' (fun _ _=>False) s'->wpAny (model X.prog X.w) X.A t Q' E' s':=fun h=>LD h (fun _ _ q=>q) fun _ _ z=>z.elim;refine codeAny_loop rfl (fun m s'=>∃i bf H' F' bV,m=ds.length-i/\i<=ds.length/\Inv XX [] bf H' s'/\tn i s'.heap/\(∀b∈fp,H' b=none)/\aE F1 F'/\Good X.K X.mg G F' H' bf bV/\(∀j,j<σ.length->bf[j]?=σ[j]?)/\bf[σ.length+n]?=some (some (V.ref s2.heap.objs.size)) /\
   Out (turns (σ.length+n) gf ft fe (ds.drop i) bV) (fun _ r=>∃d,r[σ.length+n]?=some (.ow d)/\P d (r.take σ.length)) (fun x r=>Ex x (r.take σ.length))) (fun m s4 hI=>?_) ds.length
   ⟨0,_,_,F1,_,O3,Xq _,I3,T.keep _ _ _ qC (fun b _ ob e=>old b ob e),fun b hb=>?_,aE.refl _,g2,fun j hj=>?_,?_,?_⟩
  show wpAny _ X.A ((compTurn (.ListComp elt [⟨tg,Ws,ifs,0⟩] scope pos) 0 (.ref Rp) (.ref s2.heap.objs.size) XX.env).onRaise (fun x=>do noteFrame x XX.env;theTreesLotGoes x)) _ _ s4;refine wpAny_noted ?_;rw[compTurn_list];refine VP.gl fun QQ eQ=>?_;obtain⟨i,As,H4,F4,K6,rfl,hi4,I4,Ou,Qp,e4,g4,He,TZ,o4⟩:=hI;subst eQ;have qf:∀{H':Hp},(∀b∈fp,H' b=none)->∀b∈fp,iY XX [] H' b:=fun {H'} hz b hb=>⟨hz b hb,(I3.ok.O7 b hb).1,I3.ok.AM b hb,.inl hb,fun x a e=>(I3.ok.O7 b hb).2 x a e,fun p hp=>absurd (show p∈([]:Ul) from hp) O3⟩;obtain⟨t1,t2,t3⟩:=r1 As i F4 H4 K6 e4 g4;have YK:∀{α:Type}{t:Sem α}{Q':α->Shared->Prop}{s':Shared},wpAny (model X.prog X.w) X.A t Q' (xw HP.objs.size s2 H2 fp) s'->wpAny (model X.prog X.w) X.A t Q' (notedBy (model X.prog X.w) X.A XX.env (fun x Gp=>compPost (model X.prog X.w) X.A X.xe use QQ (.ref s2.heap.objs.size) HP.objs.size (.error x) Gp)) s':=fun h=>LD h (fun _ _ q=>q) fun v Gp z=>hw _ _ _ _ _ _ _ I2 f2 hC z;have J4:∀{F' H':Hp}{kT:St}{r:aU},Good X.K X.mg G F' H' kT r->(∀j,j∉js->kT[j]?=As[j]?)->Good X.K X.mg G F' H' σ (r.take σ.length):=fun {F' H' kT r} g hj=>by
   have Va:kT.take σ.length=σ:=by refine Hw fun j=>?_;by_cases QW:j<σ.length;rw[Ox QW,hj j fun m=>by have:=(wN j m).1;lia];exact He j QW;rw[Ht Ug,Nd Ug]
   have:=Good.take g σ.length;rw[Va] at this;exact this
  by_cases iA:i<ds.length;have ed:ds.drop i=ds[i]::ds.drop (i+1):=SU iA;rw[ed] at o4;refine X0 (GG (X0 (bN (T.item XX rfl rfl rfl hc i [] s4 As H4 _ I4 (qf Qp) Ou (t1 iA)) fun r s5 zz=>?_)));obtain⟨u,hr,h5⟩:=zz;subst hr;refine X0 (bN h5 fun _ s6 zz=>?_);obtain⟨x,H6,I6,r6,y6,Ov,Vc⟩:=zz;obtain⟨F6,e6,g6,q6⟩:=t3 x H6 y6;have UQ:=I6.pinned (qf Vc) (T.obj _ _ Ov);have again:∀{s7:Shared}{kT:St}{H7 F7:Hp}{Pu:aU},Inv XX ([]++pX fp s6.heap) kT H7 s7->aE F6 F7->Good X.K X.mg G F7 H7 kT Pu->(∀j,j∉js->kT[j]?=As[j]?) ->
    Out (turns (σ.length+n) gf ft fe (ds.drop (i+1)) Pu) (fun _ r=>∃d,r[σ.length+n]?=some (.ow d)/\P d (r.take σ.length)) (fun x r=>Ex x (r.take σ.length)) ->
    ∃m,m<ds.length-i/\∃i bf H' F' bV,m=ds.length-i/\i<=ds.length/\Inv XX [] bf H' s7/\tn i s7.heap/\(∀b∈fp,H' b=none)/\aE F1 F'/\Good X.K X.mg G F' H' bf bV/\(∀j,j<σ.length->bf[j]?=σ[j]?)/\bf[σ.length+n]?=some (some (V.ref s2.heap.objs.size))/\Out (turns (σ.length+n) gf ft fe (ds.drop i) bV) (fun _ r=>∃d,r[σ.length+n]?=some (.ow d)/\P d (r.take σ.length)) (fun x r=>Ex x (r.take σ.length)):=fun {s7 kT H7 F7 Pu} I7 e7 g7 Kr o7=>by
   refine⟨ds.length-(i+1),Ug,i+1,kT,H7,F7,Pu,rfl,iA,I7.j7,T.keep _ _ _ Ov fun b hb ob e=>(I7.pin (b,ob) (R8 _ (R8 _ (fK hb e)))).1,fun b hb=>?_,e4.trans (e6.trans e7),g7,fun j hj=>?_,?_,o7⟩;obtain⟨ob,e,d⟩:=T.obj _ _ Ov b hb;exact(I7.pin (b,ob) (R8 _ (R8 _ (fK hb e)))).2.1;rw[Kr j fun m=>by have:=(wN j m).1;lia];exact He j hj;rw[Kr _ fun m=>by have:=(wN _ m).2;lia];exact TZ
  refine X0 (Kl (bN (hg HP.objs.size s2 H2 fp _ s6 As H6 x u (fun bf H'=>∃F' bV,aE F6 F'/\Good X.K X.mg G F' H' bf bV/\(∀j,j∉js->bf[j]?=As[j]?) /\
   Out (Tz ft (fun b=>if b then Tz fe fun x=>Tz (fJ (σ.length+n) (gW x)) fun _=>turns (σ.length+n) gf ft fe (ds.drop (i+1)) else turns (σ.length+n) gf ft fe (ds.drop (i+1))) bV) (fun _ r=>∃d,r[σ.length+n]?=some (.ow d)/\P d (r.take σ.length)) (fun x r=>Ex x (r.take σ.length))) UQ r6
   ⟨G,F6,K6,ds[i],g6,q6 _ (by simp[iA]),(show Out (gf ds[i] K6) _ _ by have o5:=Out.Tz o4;cases q:gf ds[i] K6 with|no=>rw[q] at o5;exact o5.elim|exc x r=>exact absurd q (vk _ _ _ _)|ok u r=>rw[q] at o5;exact fun F' H' bf s g hj=>⟨F',r,s,g,hj,o5⟩)⟩) fun _ s7 ⟨kT,H7,I7,F7,Pu,e7,g7,Kr,o7⟩=>?_))
  refine X0 (Kl (bN (ht HP.objs.size s2 H2 fp (fun _=>EX σ) _ s7 kT H7 (fun b H'=>∃F' bV,aE F7 F'/\Good X.K X.mg G F' H' kT bV /\
   Out ((if b then Tz fe fun x=>Tz (fJ (σ.length+n) (gW x)) fun _=>turns (σ.length+n) gf ft fe (ds.drop (i+1)) else turns (σ.length+n) gf ft fe (ds.drop (i+1))) bV) (fun _ r=>∃d,r[σ.length+n]?=some (.ow d)/\P d (r.take σ.length)) (fun x r=>Ex x (r.take σ.length))) I7
   ⟨G,F7,Pu,g7,(Out.Tz o7).mono (fun a r z F' H' b s g e=>by cases e;exact⟨F',r,s,g,z⟩) fun x r z F' H' c dx s g xr=>hE x _ z F' H' c dx (e1.trans (e4.trans (e6.trans (e7.trans s)))) (J4 g Kr) xr⟩) fun ok s8 zz=>?_))
  obtain⟨H8,I8,F8,ρ8,e8,g8,o8⟩:=zz;cases ok with
  |false=>exact Wt ⟨rfl,again I8 (e7.trans e8) g8 Kr o8⟩|true=>
   refine X0 (X0 (YK (bN (he HP.objs.size s2 H2 fp _ s8 kT H8 (fun v H'=>∃F' bV d,aE F8 F'/\Good X.K X.mg G F' H' kT bV/\Den X.K X.mg F' v d /\
    Out (Tz (fJ (σ.length+n) (gW d)) (fun _=>turns (σ.length+n) gf ft fe (ds.drop (i+1))) bV) (fun _ r=>∃d,r[σ.length+n]?=some (.ow d)/\P d (r.take σ.length)) (fun x r=>Ex x (r.take σ.length))) (I8.n5 _)
    ⟨G,F8,ρ8,g8,(Out.Tz o8).mono (fun a r z F' H' b s g e=>⟨F',r,a,s,g,e,z⟩) fun x r z F' H' c dx s g xr=>hE x _ z F' H' c dx (e1.trans (e4.trans (e6.trans (e7.trans (e8.trans s))))) (J4 g Kr) xr⟩) fun xv s9 zz=>?_)))
   obtain⟨y,H9,Yp,r9,F9,ρ9,d9,e9,g9,Yu,o9⟩:=zz;have I9:=Yp.jy;refine VP.gl fun QQ eQ=>?_;obtain⟨l,vs,aag,Rc,YF,V9,YA,ZK⟩:=wx (L:=lc X EX) g9 Yu (Out.Tz o9);subst eQ;rw[Kr _ fun m=>by have:=(wN _ m).2;lia,TZ] at Rc;cases Rc;refine X0 (Kl (bN (mO (X:=XX) _ s9 kT H9 (.ref s2.heap.objs.size) [y] (.ref s2.heap.objs.size) [xv] (fun _ H'=>H'=upd H9 s2.heap.objs.size (.lst (vs++[y]))) I9 rfl (.cons r9 .nil) ⟨_,vs,y,rfl,rfl,YF,V9,rfl⟩) fun _ Z0 zz=>?_));obtain⟨_,Yn,PH,_,U6⟩:=zz;subst U6;exact Wt (Wt ⟨rfl,again PH ((e7.trans e8).trans e9) YA Kr ZK⟩)
  have e:i=ds.length:=Ug;subst e;refine X0 (GG (X0 (bN (T.done XX rfl rfl rfl hc _ [] s4 As H4 _ I4 (qf Qp) Ou (t2 rfl)) fun r s5 ⟨hr,I5⟩=>?_)));subst hr;refine Wt ?_;obtain⟨mm,Ha,_⟩:=id I5.loc;rw[List.drop_length] at o4;obtain⟨d,hd,post⟩:∃d,K6[σ.length+n]?=some (.ow d)/\P d (K6.take σ.length):=o4;have IX:Inv X WO σ H4 s5:=I2.yR (s':=s5) I5.os I5.base I5.cm I5.bare fun b hb=>⟨(f2 b hb).2.2.2.1,(f2 b hb).2.1,(f2 b hb).2.2.2.2.1,(f2 b hb).2.2.2.2.2⟩;have FC:iY X WO H4 HP.objs.size:=I2.nP (by rw[hC];exact Bf _) I5.free;have Va:As.take σ.length=σ:=by refine Hw fun j=>?_;by_cases hj:j<σ.length;rw[Ox hj];exact He j hj;rw[Ht Ug,Nd Ug]
  refine VP.gl fun QQ eQ=>?_;obtain⟨l,z1,z2,z3,z4⟩:=g4.slot _ _ hd;subst eQ;rw[TZ] at z1;cases z1;refine DA F4 H4 s5 _ d _ _ mm (e1.trans e4) (by have:=Good.take g4 σ.length;rw[Va] at this;exact this) ⟨z2,z3,z4,fun j t hj ho Gj=>?_⟩ post IX Ha FC;have Vy:j<σ.length:=by
   have:=(List.getElem?_eq_some_iff.mp hj).1;simp at this
   lia
  rw[Ox Vy] at hj;have:=g4.apart j (σ.length+n) s2.heap.objs.size t _ hj hd ho rfl (by rw[He j Vy];exact Gj) TZ
  lia
  rw[aF (Wi (zD b hb))];exact(f2 b hb).1;rw[Sg (by simp;lia),Sg hj];rw[sW O3];simp;simp only[List.drop_zero];cases q:turns (σ.length+n) gf ft fe ds (bx++List.replicate n .no++[.ow (.lst [])]) with|no=>simp only[q] at o1;exact o1.elim|exc x r=>simp only[q] at o1;exact o1|ok u r=>simp only[q] at o1;show ∃d,r[σ.length+n]?=some (.ow d)/\_;cases q2:r[σ.length+n]? with|none=>simp only[q2] at o1;exact o1.elim|some t=>simp only[q2] at o1;cases t with|ow d=>exact⟨d,rfl,o1⟩|no=>exact o1.elim|sh d=>exact o1.elim|io d=>exact o1.elim
 exact codeAny_compStart_list (lS _ rfl) (T.self _ _ _ _ _ (T.keep _ _ _ qC fun b _ ob e=>old b ob e) (lS _ rfl))
theorem Q1H(n:Nat)(hc:X.calm=true)(c:bU X scope N')(hn:X.N.length+n+1=N'.length)(hi:uz X EX tg Ws it)(vk:∀d r x r',gf d r≠.exc x r')(wN:∀j∈js,X.N.length<=j/\j<X.N.length+n)
  (hg:∀C s H ex,Av (bI X scope C N' s H ex) EX tg js gf) (ht:∀C s H ex EX,FY (bI X scope C N' s H ex) EX ifs ft) (he:∀C s H ex EX,PV (bI X scope C N' s H ex) EX elt fe)
  (hs:∀x,foldedSetIterable Ws X.env x=pure x:=by exact Oc):PF X EX (.ListComp elt [⟨tg,Ws,ifs,0⟩] scope pos) (aY n it gf ft fe):=by
 intro WO s σ H Q I h;refine VP.gl fun QQ eQ=>?_;obtain⟨G,F,ρ,g0,o⟩:=h;subst eQ;rw[eval_ListComp];refine my (use:=none) n hc c hn hi vk wN hg ht (xw:=fun _ _ _ _ _ _=>False) (fun C s H ex=>he C s H ex _) (fun _ _ _ _ _ _ _ _ _ _ z=>z.elim) hs I g0 o (fun x r q=>q) fun F4 H4 s5 rV d l C mm e4 g4 lo post IX Ha FC=>?_;refine⟨mm,Ha,fun h' Gk=>⟨.ref l,H4,?_,rfl,post F4 H4 _ e4 g4 ⟨l,rfl,lo⟩⟩⟩;exact IX.turned (t':=s5.toks) (fun b ob hb e=>Gk.extBut b ob hb e) FC.1 FC.2.1 FC.2.2.2.1 FC.2.2.2.2.1 FC.2.2.2.2.2
theorem oQ(n i:Nat){y:Str}{py qd:Pos}{f:D->M Fl}(hc:X.calm=true)(c:bU X scope N')(hn:X.N.length+n+1=N'.length)(hi:uz X EX tg Ws it)(vk:∀d r x r',gf d r≠.exc x r')(wN:∀j∈js,X.N.length<=j/\j<X.N.length+n)
  (hg:∀C s H ex,Av (bI X scope C N' s H ex) EX tg js gf) (ht:∀C s H ex EX,FY (bI X scope C N' s H ex) EX ifs ft) (he:∀C s H ex EX,PV (bI X scope C N' s H ex) EX elt fe)
  (hN:X.N.Nodup) (hy:X.N[i]?=some y) (hx:Loc X.env.scope y) (Mh:swapsWith (.ListComp elt [⟨tg,Ws,ifs,0⟩] scope pos) (some (.Name y py)) qd.line X.env=pure true)
  (hf:∀{G:Fx}{F4 H4 F:Hp}{σ:St}{rV:aU}{l:Addr}{d:D}{E:Ends},(lc X EX).Good G F4 H4 σ rV->Loose X.K X.mg G F4 H4 σ rV l d->aE F F4->Out (f d rV) (gL (lc X EX) G F E) (cU (lc X EX) G F)->E.nx (σ.set i (some (.ref l))) H4)
  (hs:∀x,foldedSetIterable Ws X.env x=pure x) (DB:Lw X y):nL X EX (.Assign [.Name y py] (.ListComp elt [⟨tg,Ws,ifs,0⟩] scope pos) qd) (Tz (aY n it gf ft fe) f):=by
 intro WO s σ H E I h;refine VP.gl fun QQ eQ=>?_;obtain⟨G,F,ρ,g0,o⟩:=h;subst eQ;rw[exec_Assign_Name_used _ _ _ _ Mh];refine X0 (GG (X0 ?_));show wpAny _ X.A (do let _ <-comprehension (.ListComp elt [⟨tg,Ws,ifs,0⟩] scope pos) scope X.env _ (newList []) false (firstIter [⟨tg,Ws,ifs,0⟩] X.env) (some (assign (.Name y py) X.env))) _ _ s;refine X0 (LD (my (use:=some (assign (.Name y py) X.env)) (QQ:=fun _ s'=>SP X WO E .next s') n hc c hn hi vk wN hg ht (xw:=fun _ _ _ _ _ _=>False) (fun C s H ex=>he C s H ex _) (fun _ _ _ _ _ _ _ _ _ _ z=>z.elim) hs I g0 (Out.Tz o) (fun x r q=>q.x) fun F4 H4 s5 rV d l C mm e4 g4 lo post IX Ha FC=>?_) (fun _ s' hq=>Wt (Wt hq)) fun _ _ e=>e);show wpAny _ X.A (assign (.Name y py) X.env (.ref l)) _ _ s5;refine Of (mW IX hN hy hx (v:=.ref l) rfl (fun s6 I6 zz=>?_) DB);obtain⟨a,sb,ha⟩:=zz;have Vi:C≠a:=by rcases ha with rfl|ha;exact FC.2.1;exact fun z=>FC.2.2.2.2.1 _ _ ha z.symm
 refine⟨mm,Ha.sameBut sb Vi,fun h' Gk=>⟨σ.set i (some (.ref l)),H4,?_,hf g4 lo e4 post⟩⟩;exact I6.turned (t':=s6.toks) (fun b ob hb e=>Gk.extBut b ob hb e) FC.1 FC.2.1 FC.2.2.2.1 FC.2.2.2.2.1 FC.2.2.2.2.2
theorem Aq(n i:Nat){y:Str}{py qd:Pos}(hN:X.N.Nodup)(hy:X.N[i]?=some y)(hx:Loc X.env.scope y)(hc:X.calm=true)(c:bU X scope N')(hn:X.N.length+n+1=N'.length)(hi:uz X EX tg Ws it)(vk:∀d r x r',gf d r≠.exc x r')(wN:∀j∈js,X.N.length<=j/\j<X.N.length+n)
  (hg:∀C s H ex,Av (bI X scope C N' s H ex) EX tg js gf) (ht:∀C s H ex EX,FY (bI X scope C N' s H ex) EX ifs ft) (he:∀C s H ex EX,PV (bI X scope C N' s H ex) EX elt fe)
  (Mh:autoParam (swapsWith (.ListComp elt [⟨tg,Ws,ifs,0⟩] scope pos) (some (.Name y py)) qd.line X.env=pure true) AuP.a._autoParam) (hs:∀x,foldedSetIterable Ws X.env x=pure x:=by exact Oc)
  (DB:Lw X y:=by exact RP):nL X EX (.Assign [.Name y py] (.ListComp elt [⟨tg,Ws,ifs,0⟩] scope pos) qd) (bc i (aY n it gf ft fe)):=
 oQ n i (f:=fun d=>Gq (nV i d)) hc c hn hi vk wN hg ht he hN hy hx Mh (fun {G F4 H4 F σ rV l d E} g4 lo e4 o=>by obtain⟨F5,e5,g5,dn⟩:=lo.fast g4;obtain⟨qk,g2,q⟩:=j6 (L:=lc X EX) g5 dn (Out.Tz o);exact q F5 H4 _ (e4.trans e5) g2) hs DB
theorem uh(n i:Nat){y:Str}{py qd:Pos}(hN:X.N.Nodup)(hy:X.N[i]?=some y)(hx:Loc X.env.scope y)(hc:X.calm=true)(c:bU X scope N')(hn:X.N.length+n+1=N'.length)(hi:uz X EX tg Ws it)(vk:∀d r x r',gf d r≠.exc x r')(wN:∀j∈js,X.N.length<=j/\j<X.N.length+n)
  (hg:∀C s H ex,Av (bI X scope C N' s H ex) EX tg js gf) (ht:∀C s H ex EX,FY (bI X scope C N' s H ex) EX ifs ft) (he:∀C s H ex EX,PV (bI X scope C N' s H ex) EX elt fe)
  (Mh:autoParam (swapsWith (.ListComp elt [⟨tg,Ws,ifs,0⟩] scope pos) (some (.Name y py)) qd.line X.env=pure true) AuP.a._autoParam) (hs:∀x,foldedSetIterable Ws X.env x=pure x:=by exact Oc)
  (DB:Lw X y:=by exact RP):nL X EX (.Assign [.Name y py] (.ListComp elt [⟨tg,Ws,ifs,0⟩] scope pos) qd) (gu i (aY n it gf ft fe)):=
 oQ n i (f:=fun d=>Gq (Eg i d)) hc c hn hi vk wN hg ht he hN hy hx Mh (fun {G F4 H4 F σ rV l d E} g4 lo e4 o=>by obtain⟨qk,g2,q⟩:=vP (L:=lc X EX) g4 lo (Out.Tz o);exact q F4 H4 _ e4 g2) hs DB
end
section
variable{X:Cx}{EX:XE}{L:Lc}{tg e a b:Expr}{fa fb fe:M D}{G:Fx}{F:Hp}
theorem Hk(h:dW L.K F p vs)(r:aN L.K L.mg F vs ds):FW L G F (UU L.K p) ds:=fun σ i F' H' ρ s g=>by have sq:dW L.K H' p vs:=dW.same (dW.same h s) g.sub;have hl:=r.length;refine⟨fun hi=>⟨vs,vs[i]' Ug,sq,by simp[show i<vs.length by lia]⟩,fun hi=>⟨vs,sq,Ug⟩,fun x FV ⟨e,y⟩=>?_⟩;subst e;refine⟨F',aE.refl _,g,fun d hd=>?_⟩;obtain⟨v,h1,h2⟩:=(r.same s).get hd;rw[y vs sq] at h1;cases h1;exact h2
theorem zK(h:cn L.K F p vs)(r:aN L.K L.mg F vs ds):FW L G F (La L.K p) ds:=fun σ i F' H' ρ s g=>by have sq:cn L.K H' p vs:=cn.same (cn.same h s) g.sub;have hl:=r.length;refine⟨fun hi=>⟨vs,vs[i]' Ug,sq,by simp[show i<vs.length by lia]⟩,fun hi=>⟨vs,sq,Ug⟩,fun x FV ⟨e,y⟩=>?_⟩;subst e;refine⟨F',aE.refl _,g,fun d hd=>?_⟩;obtain⟨v,h1,h2⟩:=(r.same s).get hd;rw[y vs sq] at h1;cases h1;exact h2
theorem Hj(lo:Int)(n:Nat):FW L G F (Tp lo n) ((List.range n).map fun(k:Nat)=>.int (lo+k)):=fun σ i F' H' ρ s g=>by
 refine⟨fun hi=>(by simpa using hi:i<n),fun hi=>(Nat.le_of_eq (by simpa using hi.symm):n<=i),fun x FV ⟨e,y⟩=>?_⟩;subst e y;refine⟨F',aE.refl _,g,fun d hd=>?_⟩;rw[CW] at hd;cases q:(List.range n)[i]? with
 |none=>rw[q] at hd;cases hd|some k=>
  rw[q] at hd;have:k=i:=by have:=List.getElem?_eq_some_iff.mp q;obtain⟨h1,h2⟩:=this;simp at h2;exact h2.symm
  subst this;cases hd;exact .int _
def VW(K:Frag)(tl:TE):TI:=fun σ H R=>tl σ H fun x H1=>∃p,x=.ref p/\(((∃xs,cn K H1 p xs)/\R (La K p) H1)\/((∃xs,dW K H1 p xs)/\R (UU K p) H1))
theorem Q27(hl:PE X l tl):PI X tg l (VW X.K tl):=by
 intro WO s σ H R I h;refine bN (hl WO s σ H _ I h) fun v s1 zz=>?_;obtain⟨x,H1,I1,r1,q1⟩:=zz;obtain⟨p,e,q1⟩:=q1;subst e;cases r1;rcases q1 with ⟨⟨xs,hq⟩,q⟩|⟨⟨xs,hq⟩,q⟩
 obtain⟨aS,rv,pl,hz⟩:=I1.list hq;refine ND pl.isList ?_;refine⟨s1.heap.objs.size,[s1.heap.objs.size],_,_,H1,rfl,I1.kept (t':=s1.toks) fun b o e=>RN _ e,rP p _,⟨_,Rv _ rfl,rfl,rfl⟩,fun b hb=>?_,q⟩;have e:b=s1.heap.objs.size:=by simpa using hb
 subst e;exact I1.nP (Gm _) (I1.cm.fresh (Gm _));obtain⟨aS,rv,pl,hz⟩:=I1.tuple hq;refine JE (show s1.heap.IsTuple p aS.toArray from pl) ?_;refine⟨s1.heap.objs.size,[s1.heap.objs.size],_,_,H1,rfl,I1.kept (t':=s1.toks) fun b o e=>RN _ e,yu p _,⟨_,Rv _ rfl,rfl,rfl⟩,fun b hb=>?_,q⟩;have e:b=s1.heap.objs.size:=by simpa using hb
 subst e;exact I1.nP (Gm _) (I1.cm.fresh (Gm _))
theorem dJ(h:PV X EX e fe):uz X EX tg e (fC fe):=(Q27 h).le fun σ H Q bH=>dX bH fun G F F1 H1 bx d1 x s1 g1 r1 o1=>by obtain⟨ds,e,q⟩:=o1.opt;cases r1 with|tup h1 r1=>cases e;exact⟨_,rfl,.inr ⟨⟨_,dW.same h1 g1.sub⟩,q F1 H1 _ s1 g1 (Hk h1 r1)⟩⟩|lst h1 r1=>cases e;exact⟨_,rfl,.inl ⟨⟨_,cn.same h1 g1.sub⟩,q F1 H1 _ s1 g1 (zK h1 r1)⟩⟩|_=>cases e
theorem eD{fl:List (M D)}{p pos:Pos}(hg:Gl X "range")(hm:X.mg "range" = none)(ha:BQ X EX [a] (mL fl))(hs:autoParam (starEach [a] X.env=[(false,eval a X.env)]) AuP.a._autoParam):uz X EX tg (.Call (.Name "range" p) [a] [] pos) (eY fl):=(Bk hg hm ha hs).le fun σ H Q bH=>dX bH fun G F F1 H1 bx d1 xs s1 g1 r1 o1=>by
 obtain⟨ds,e,q⟩:=o1.opt;unfold vZ at e;split at e;rename_i j;cases r1 with|cons h r1=>obtain rfl:=aN.n r1;obtain rfl:=Den.i h;split at e;rename_i hb;cases e;refine⟨j,rfl,hb.1,hb.2,q F1 H1 _ s1 g1 ?_⟩;have:=Hj (L:=lc X EX) (G:=G) (F:=F1) 0 j.toNat;simp only[Int.zero_add] at this;exact this;cases e
 cases e
end
section
variable{X:Cx}{EX:XE}{L:Lc}{e a b:Expr}{fa fb fe:M D}{pos p:Pos}{x:Str}{id T:String}
def K9(L:Lc)(r:Pk->Hp->VK->Prop)(g:D->Ui):Prop:=∀G F H σ ρ x dx d Q,L.Good G F H σ ρ->RR L G F H σ ρ x dx->g dx=some d->Gz L G F σ ρ d Q->r [x] H Q
theorem pV(ha:PR X EX a fa)(hs:autoParam (V1 X a []) AuP.a._autoParam):PA X [a] (fun σ H Q=>lift (lc X EX) (RR (lc X EX)) fa σ H fun v H'=>Q [v] H'):=(bC ha cY hs).le fun σ H Q h=>h
theorem dC(hc:eI X (.builtin id) r)(hg:K9 (lc X EX) r g)(AR:Gl X x)(hm:X.mg x=none)(hv:bootBuiltins x=some (.builtin id))(ha:PR X EX a fa)(hn:autoParam (x≠"__name__") AuP.b._autoParam)(jH:autoParam (Qu x) AuP.b._autoParam)(hs:autoParam (V1 X a []) AuP.a._autoParam):PV X EX (.Call (.Name x p) [a] [] pos) (m1 g fa):=
 (iQ hc AR hm hv (pV ha hs) hn jH hs rfl).le fun σ H Q bH=>dX bH fun G F F1 H1 bx d1 x s1 g1 r1 o1=>by obtain⟨d,e,q⟩:=o1.opt;exact hg G F1 H1 σ bx x d1 d Q g1 r1 e (gc.same s1 q)
theorem Bo(hc:eI X (.type T) r)(hg:K9 (lc X EX) r g)(AR:Gl X x)(hm:X.mg x=none)(hv:bootBuiltins x=some (.type T))(ha:PR X EX a fa)(hn:autoParam (x≠"__name__") AuP.b._autoParam)(jH:autoParam (Qu x) AuP.b._autoParam)(hs:autoParam (V1 X a []) AuP.a._autoParam):PV X EX (.Call (.Name x p) [a] [] pos) (m1 g fa):=
 (mU hc AR hm hv (pV ha hs) hn jH hs rfl).le fun σ H Q bH=>dX bH fun G F F1 H1 bx d1 x s1 g1 r1 o1=>by obtain⟨d,e,q⟩:=o1.opt;exact hg G F1 H1 σ bx x d1 d Q g1 r1 e (gc.same s1 q)
theorem RR.seq(h:RR L G F H σ ρ v d)(g:L.Good G F H σ ρ)(e:c5 d=some ds) : ∃p vs,v=.ref p/\aN L.K L.mg F vs ds/\((d=.lst ds/\cn L.K H p vs)\/(d=.tup ds/\dW L.K H p vs/\dW L.K F p vs)):=by
 rcases h with h|⟨l,rfl,h⟩;cases h with|tup h1 r1=>cases e;exact⟨_,_,rfl,r1,.inr ⟨rfl,dW.same h1 g.sub,h1⟩⟩|lst h1 r1=>cases e;exact⟨_,_,rfl,r1,.inl ⟨rfl,cn.same h1 g.sub⟩⟩|_=>cases e
 cases d with|lst xs=>cases e;obtain⟨vs,h1,h2⟩:=h;exact⟨l,vs,rfl,h2,.inl ⟨rfl,cn.of h1⟩⟩|fP ks xs=>cases e|ins c ns xs=>cases e|_=>exact h.elim
theorem Qz:K9 L (fun xs H Q=>∃p ys,xs=[.ref p]/\(cn L.K H p ys\/dW L.K H p ys)/\Q (.int ys.length) H) bK:=fun G F H σ ρ x dx d Q g0 rx e k=>by
 have hs:∃ds,c5 dx=some ds/\d=.int ds.length:=by cases dx<;>cases e<;>exact⟨_,rfl,rfl⟩
 obtain⟨ds,h1,rfl⟩:=hs;obtain⟨p,vs,rfl,r,q⟩:=RR.seq rx g0 h1;refine⟨p,vs,rfl,q.elim (fun z=>.inl z.2) (fun z=>.inr z.2.1),?_⟩;rw[r.length];exact k F H _ (aE.refl _) g0 (.int _)
theorem Q16:K9 L (fun xs H Q=>∃p ys,xs=[.ref p]/\((cn L.K H p ys/\∀l,H l=none->Q (.ref l) (upd H l (.tup ys)))\/(dW L.K H p ys/\Q (.ref p) H))) gb:=fun G F H σ ρ x dx d Q g0 rx e k=>by
 have hs:∃ds,c5 dx=some ds/\d=.tup ds:=by cases dx<;>cases e<;>exact⟨_,rfl,rfl⟩
 obtain⟨ds,h1,rfl⟩:=hs;obtain⟨p,vs,rfl,r,q⟩:=RR.seq rx g0 h1;refine⟨p,vs,rfl,?_⟩;rcases q with ⟨rfl,q⟩|⟨rfl,q,q2⟩
 refine .inl ⟨q,fun l hl=>?_⟩;have sF:=a8 (o:=.tup vs) (g0.sub.free hl);exact k _ _ _ sF (g0.laid hl) (.tup (dW.of aB) (r.same sF));exact .inr ⟨q,k F H _ (aE.refl _) g0 (.tup q2 r)⟩
theorem jt(AR:Gl X x)(hm:X.mg x=none)(hv:bootBuiltins x=some (.type "list"))(ha:PR X EX a fa)(hn:autoParam (x≠"__name__") AuP.b._autoParam)(jH:autoParam (Qu x) AuP.b._autoParam)(hs:autoParam (V1 X a []) AuP.a._autoParam):PF X EX (.Call (.Name x p) [a] [] pos) (m1 hX fa):=
 (mU Q1E AR hm hv (pV ha hs) hn jH hs rfl).le fun σ H Q bH=>dX bH fun G F F1 H1 bx d1 x s1 g1 r1 o1=>by
  obtain⟨d,e,q⟩:=o1.opt;have hs:∃ds,c5 d1=some ds/\d=.lst ds:=by cases d1<;>cases e<;>exact⟨_,rfl,rfl⟩
  obtain⟨ds,h1,rfl⟩:=hs;obtain⟨p,vs,rfl,r,z⟩:=RR.seq r1 g1 h1;refine⟨p,vs,rfl,z.elim (fun z=>.inl z.2) (fun z=>.inr z.2.1),fun l hl=>?_⟩;exact q _ _ _ s1 (g1.made hl) ⟨l,rfl,g1.loose hl ⟨vs,aB,r⟩⟩
theorem zA:UP L (fun xs H Q=>∃i j,xs=[.int i,.int j]/\Q (.int (if j > i then j else i)) H) maxD:=fun G F H σ ρ xs TN d Q g0 rx e k=>by
 unfold maxD at e;split at e;rename_i i j;cases rx with|cons h1 rx=>cases rx with|cons h2 rx=>obtain rfl:=aN.n rx;obtain rfl:=Den.i h1;obtain rfl:=Den.i h2;cases e;exact⟨i,j,rfl,k F H _ (aE.refl _) g0 (.int _)⟩
 cases e
theorem QA:UP L (fun xs H Q=>∃i j,xs=[.int i,.int j]/\Q (.int (if j<i then j else i)) H) minD:=fun G F H σ ρ xs TN d Q g0 rx e k=>by
 unfold minD at e;split at e;rename_i i j;cases rx with|cons h1 rx=>cases rx with|cons h2 rx=>obtain rfl:=aN.n rx;obtain rfl:=Den.i h1;obtain rfl:=Den.i h2;cases e;exact⟨i,j,rfl,k F H _ (aE.refl _) g0 (.int _)⟩
 cases e
end
mutual
noncomputable def toPy:D->PyData|.bB=>.none|.bl b=>.bool b|.int i=>.int i|.str x=>.str x|.tup xs=>.tuple (toPys xs)|.lst xs=>.list (toPys xs)|.fP _ _=>.none|.ins _ _ _=>.none|.Ge _ _ _=>.none
noncomputable def toPys:OK->List PyData|[]=>[]|x::xs=>toPy x::toPys xs
end
mutual
theorem sE:∀(n m:Nat)(x y:D),plain n x=true->plain m y=true->PyData.eqv (toPy x) (toPy y)=eqB x y
|n,m,.tup xs,.tup ys,h1,h2=>by cases n with|zero=>cases h1|succ n=>cases m with|zero=>cases h2|succ m=>exact oU n m xs ys h1 h2
|n,m,.lst xs,.lst ys,h1,h2=>by cases n with|zero=>cases h1|succ n=>cases m with|zero=>cases h2|succ m=>exact oU n m xs ys h1 h2
|n,m,.bB,y,h1,h2=>by cases y<;>first|rfl|(cases m<;>cases h2)
|n,m,.bl _,y,h1,h2=>by cases y<;>first|rfl|(cases m<;>cases h2)
|n,m,.int _,y,h1,h2=>by cases y<;>first|rfl|(cases m<;>cases h2)
|n,m,.str _,y,h1,h2=>by cases y<;>first|rfl|(cases m<;>cases h2)
|n,m,.fP _ _,y,h1,h2=>by cases n<;>cases h1|n,m,.ins _ _ _,y,h1,h2=>by cases n<;>cases h1|n,m,.Ge _ _ _,y,h1,h2=>by cases n<;>cases h1|n,m,.tup xs,.bB,h1,h2=>rfl|n,m,.tup xs,.bl _,h1,h2=>rfl|n,m,.tup xs,.int _,h1,h2=>rfl|n,m,.tup xs,.str _,h1,h2=>rfl|n,m,.tup xs,.lst _,h1,h2=>rfl|n,m,.tup xs,.fP _ _,h1,h2=>by cases m<;>cases h2|n,m,.tup xs,.ins _ _ _,h1,h2=>by cases m<;>cases h2|n,m,.tup xs,.Ge _ _ _,h1,h2=>by cases m<;>cases h2|n,m,.lst xs,.bB,h1,h2=>rfl|n,m,.lst xs,.bl _,h1,h2=>rfl|n,m,.lst xs,.int _,h1,h2=>rfl|n,m,.lst xs,.str _,h1,h2=>rfl|n,m,.lst xs,.tup _,h1,h2=>rfl|n,m,.lst xs,.fP _ _,h1,h2=>by cases m<;>cases h2|n,m,.lst xs,.ins _ _ _,h1,h2=>by cases m<;>cases h2|n,m,.lst xs,.Ge _ _ _,h1,h2=>by cases m<;>cases h2
theorem oU:∀(n m:Nat)(xs ys:OK),gq n xs=true->gq m ys=true->PyData.eqvAll (toPys xs) (toPys ys)=oT xs ys|n,m,[],[],_,_=>rfl|n,m,[],_::_,_,_=>rfl|n,m,_::_,[],_,_=>rfl|n,m,x::xs,y::ys,h1,h2=>by simp only[gq,Bool.and_eq_true] at h1 h2;show (PyData.eqv (toPy x) (toPy y)&&PyData.eqvAll (toPys xs) (toPys ys))=(eqB x y&&oT xs ys);rw[sE n m x y h1.1 h2.1,oU n m xs ys h1.2 h2.2]
end
mutual
theorem rE:∀(n:Nat)(x:D),plain n x=true->(toPy x).canLay0=true/\(toPy x).depth<=n
|n,.bB,_=>⟨rfl,Xq _⟩|n,.bl _,_=>⟨rfl,Xq _⟩|n,.int _,_=>⟨rfl,Xq _⟩|n,.str x,h=>⟨by cases n<;>exact(Array.all_toList.symm).trans h,Xq _⟩|n,.tup xs,h=>by cases n with|zero=>cases h|succ n=>obtain⟨h1,h2⟩:=ll n xs h;exact⟨h1,Nat.succ_le_succ h2⟩
|n,.lst xs,h=>by cases n with|zero=>cases h|succ n=>obtain⟨h1,h2⟩:=ll n xs h;exact⟨h1,Nat.succ_le_succ h2⟩
|n,.fP _ _,h=>by cases n<;>cases h|n,.ins _ _ _,h=>by cases n<;>cases h|n,.Ge _ _ _,h=>by cases n<;>cases h
theorem ll:∀(n:Nat)(xs:OK),gq n xs=true->PyData.canLayAll0 (toPys xs)=true/\PyData.depthAll (toPys xs)<=n
|n,[],_=>⟨rfl,Xq _⟩|n,x::xs,h=>by
 simp only[gq,Bool.and_eq_true] at h;obtain⟨h1,h2⟩:=rE n x h.1;obtain⟨h3,h4⟩:=ll n xs h.2;refine⟨?_,?_⟩;show ((toPy x).canLay0&&PyData.canLayAll0 (toPys xs))=true;rw[h1,h3];rfl;show max (toPy x).depth (PyData.depthAll (toPys xs))<=n
 lia
end
section
variable{X:Cx}{EX:XE}{L:Lc}{WO:Ul}{σ:St}{H F:Hp}{s:Shared}
theorem Den.reads(I:Inv X WO σ H s)(sub:aE F H){v:V}{d:D}{n:Nat}{u:Value}(h:Den X.K X.mg F v d):plain n d=true->RelV v u->∃as,Reads s.heap u (toPy d) as:=Den.rec (motive_1:=fun v d _=>∀n u,plain n d=true->RelV v u->∃as,Reads s.heap u (toPy d) as) (motive_2:=fun vs ds _=>∀n us,gq n ds=true->Vals vs us->∃as,ReadsAll s.heap us (toPys ds) as)
 (fun _ _ _ r=>by cases r;exact⟨_,.none⟩) (fun b _ _ _ r=>by cases r;exact⟨_,.bool b⟩) (fun i _ _ _ r=>by obtain⟨t,rfl⟩:=r;exact⟨_,.int i t⟩) (fun x _ _ _ r=>by obtain⟨t,rfl⟩:=r;exact⟨_,.str x t⟩)
 (fun h _ ih n _ hp r=>by cases r;cases n with|zero=>cases hp|succ n=>obtain⟨aS,rv,⟨o,ho,hc,m,hd⟩,_⟩:=I.tuple (dW.same h sub);obtain⟨as,ha⟩:=ih n _ hp rv;exact⟨_,.tuple ho hc hd (by simpa using ha)⟩)
 (fun h _ ih n _ hp r=>by cases r;cases n with|zero=>cases hp|succ n=>obtain⟨aS,rv,pl,_⟩:=I.list (cn.same h sub);obtain⟨o,ho,hc,m,hd⟩:=pl.isList;obtain⟨as,ha⟩:=ih n _ hp rv;exact⟨_,.list ho hc hd (by simpa using ha)⟩)
 (fun _ _ _ n _ hp _=>by cases n<;>cases hp) (fun _ _ _ _ n _ hp _=>by cases n<;>cases hp) (fun _ _ _ _ _ n _ hp _=>by cases n<;>cases hp) (fun _ _ _ r=>by cases r;exact⟨_,.nil⟩)
 (fun _ _ h t n _ hp r=>by cases r with|cons r1 r2=>simp only[gq,Bool.and_eq_true] at hp;obtain⟨as,ha⟩:=h n _ hp.1 r1;obtain⟨bs,hb⟩:=t n _ hp.2 r2;exact⟨_,.cons ha hb⟩) h n u
def IV(K:Frag)(mg:MG)(neg:Bool):R2:=fun x y H Q=>∃F dx dy,aE F H/\Den K mg F x dx/\Den K mg F y dy/\plain 60 dx=true/\plain 60 dy=true/\Q (.bl (if neg then !eqB dx dy else eqB dx dy)) H
theorem kz(h:plain 60 d=true):SeqAt.shaped (toPy d)=true:=by obtain⟨h1,h2⟩:=rE 60 d h;unfold SeqAt.shaped;rw[h1,NU Ug];rfl
theorem mS(hu:X.A.units+64<cLine):ij X (compareOp .Eq) (IV X.K X.mg false):=by intro WO s σ H x y v u Q I rx ry h;obtain⟨F,dx,dy,sub,h1,h2,p1,p2,q⟩:=h;obtain⟨as,ra⟩:=Den.reads I sub h1 p1 rx;obtain⟨bs,rb⟩:=Den.reads I sub h2 p2 ry;exact SeqAt.compareEq_shaped ra rb (kz p1) (kz p2) hu (by rw[sE 60 60 dx dy p1 p2];exact⟨.bl _,H,I,rfl,q⟩)
theorem xZ(hu:X.A.units+64<cLine):ij X (compareOp .NotEq) (IV X.K X.mg true):=by intro WO s σ H x y v u Q I rx ry h;obtain⟨F,dx,dy,sub,h1,h2,p1,p2,q⟩:=h;obtain⟨as,ra⟩:=Den.reads I sub h1 p1 rx;obtain⟨bs,rb⟩:=Den.reads I sub h2 p2 ry;exact SeqAt.compareNe_shaped ra rb (kz p1) (kz p2) hu (by rw[sE 60 60 dx dy p1 p2];exact⟨.bl _,H,I,rfl,q⟩)
theorem rf:kU L (IV L.K L.mg false) b7:=fun G F H σ ρ x y dx dy d Q g0 rx ry e k=>by unfold b7 at e;split at e;rename_i hp;cases e;rw[ET] at hp;exact⟨F,dx,dy,g0.sub,rx,ry,hp.1,hp.2,k F H _ (aE.refl _) g0 (.bl _)⟩;cases e
theorem Du:kU L (IV L.K L.mg true) nW:=fun G F H σ ρ x y dx dy d Q g0 rx ry e k=>by unfold nW at e;split at e;rename_i hp;cases e;rw[ET] at hp;exact⟨F,dx,dy,g0.sub,rx,ry,hp.1,hp.2,k F H _ (aE.refl _) g0 (.bl _)⟩;cases e
end
section
variable{prog:Program}{w:World}{A:Around}{E:TF}{s:Shared}
theorem lV{items}(hit:s.heap.IsTupleIter it t i)
  (ht:s.heap.IsTuple t items) (hx:items[i]?=some x)
  (hQ:∀h',h'.IsTupleIter it t (i+1)->Heap.SameBut it s.heap h'->Q x {s with heap:=h'}) :
  wpAny (model prog w) A (Builtin.SmallTypes.nextOf (.ref it)) Q E s:=by
 obtain⟨o,ho,hc,hd⟩:=id hit;refine VP.gl fun QQ eQ=>?_;obtain⟨ol,VI,_,nl,Vt⟩:=ht;subst eQ;unfold Builtin.SmallTypes.nextOf;refine X0 (Jt (name:=Str.ofString "__next__") hit.typeIs DY (AJ DY hit.typeIs PySem.F.entry_tuple_iterator_next ?_ (PySem.F.args_tuple_iterator_next_1 _)));show wpAny _ _ (field (.ref it) 0 >>= _) _ _ s;refine X0 (Xr ho hd (x:=.ref t) rfl ?_);show wpAny _ _ (if (Value.ref t == Value.none)=true then _ else _) _ _ s;rw[S8 (show ¬((Value.ref t == Value.none)=true) from Qw)];show wpAny _ _ (field (.ref it) 1 >>= _) _ _ s;refine X0 (Xr ho hd (x:=.int i 0) rfl ?_);show wpAny _ _ (seqItems? (.ref t) >>= _) _ _ s;refine X0 (DJ VI Vt ?_);simp only[ZJ,hx];refine X0 (IZ ho hd O3 (Wt ⟨x,rfl,Wt (hQ _ ?_ (Nv ..))⟩));exact⟨_,MP _ ho (Ol (D7 hd _)),(Obj.cls_mapFields ..).trans hc,by rw[D7 hd];simp[rawInt]⟩
theorem mQ{items}(hh:A.handled=none)
  (hit:s.heap.IsTupleIter it t i) (ht:s.heap.IsTuple t items) (hx:items[i]?=none)
  (hE:∀h' e,Heap.ExtBut it s.heap h'->(∃o,h'.get? e=some o/\o.cls=.type "StopIteration")->E (.ref e) {s with heap:=h'}) :
  wpAny (model prog w) A (Builtin.SmallTypes.nextOf (.ref it)) Q E s:=by
 obtain⟨o,ho,hc,hd⟩:=id hit;refine VP.gl fun QQ eQ=>?_;obtain⟨ol,VI,_,nl,Vt⟩:=ht;subst eQ;unfold Builtin.SmallTypes.nextOf;refine X0 (Jt (name:=Str.ofString "__next__") hit.typeIs DY (AJ DY hit.typeIs PySem.F.entry_tuple_iterator_next ?_ (PySem.F.args_tuple_iterator_next_1 _)));show wpAny _ _ (field (.ref it) 0 >>= _) _ _ s;refine X0 (Xr ho hd (x:=.ref t) rfl ?_);show wpAny _ _ (if (Value.ref t == Value.none)=true then _ else _) _ _ s;rw[S8 (show ¬((Value.ref t == Value.none)=true) from Qw)];show wpAny _ _ (field (.ref it) 1 >>= _) _ _ s;refine X0 (Xr ho hd (x:=.int i 0) rfl ?_);show wpAny _ _ (seqItems? (.ref t) >>= _) _ _ s;refine X0 (DJ VI Vt ?_);simp only[ZJ,hx];refine X0 (Ek (X0 (IZ ho hd O3 ?_)));show wpAny _ _ (newExc (.type "StopIteration") [] >>= _) _ _ _;refine X0 ?_;simp only[newExc,newTuple];refine X0 (NB ?_ (by size_fits));refine X0 (m:=firstArgMember _ _) (HQ (a:=Value.none) (by first|rfl|(simp only[firstArgMember];rfl)) ?_);refine NB ?_ (by size_fits);simp only[raiseNew];refine X0 (wpAny_handled ?_);first|rw[show A.in1.handled=none from hh]|rw[hh]
 refine X0 (Wt (wpAny_throw ?_));exact hE _ _ (((Nv ..).extBut.push _).push _) ⟨_,Rv _ rfl,rfl⟩
end
def jK(t:Bool)(it a:Addr)(i:Nat)(h:Heap):Prop:=if t then h.IsTupleIter it a i else h.IsListIter it a i
def oG(t:Bool)(h:Heap)(a:Addr)(items:Array Value):Prop:=if t then h.IsTuple a items else h.IsList a items
theorem jK.at(x:jK t it a i h)(e:∀o,h.get? it=some o->h'.get? it=some o):jK t it a i h':=by cases t;exact Heap.IsListIter.at (h:=h) (h':=h') x e;exact Heap.IsTupleIter.at (h:=h) (h':=h') x e
theorem jK.obj(x:jK t it a i h):∃o,h.get? it=some o/\∀v,o.data≠.cell v:=by cases t;obtain⟨o,e,c,d⟩:=(show h.IsListIter it a i from x);exact⟨o,e,fun v z=>by rw[d] at z;cases z⟩;obtain⟨o,e,c,d⟩:=(show h.IsTupleIter it a i from x);exact⟨o,e,fun v z=>by rw[d] at z;cases z⟩
theorem kh(hh:A.handled=none)(t:Bool)(it l:Addr)(Gj:l≠it)(items:Array Value) : Draws prog w A it [it,l] items.size (fun i v=>items[i]?=some v) (fun i h=>jK t it l i h/\oG t h l items):=by
 cases t with
 |false=>exact Draws.list hh it l Gj items|true=>exact {
  live:=fun _ _ st=>let ⟨o,ho,_⟩:=st.1;⟨o,ho⟩
  frame:=fun _ _ _ st hk=>⟨Heap.IsTupleIter.at st.1 fun o e=>hk it O3 o e,by obtain⟨o,e,r⟩:=(show Heap.IsTuple _ l items from st.2);exact⟨o,hk l O3 o e,r⟩⟩
  item:=fun i s Q E hi st hQ=>by refine lV (show s.heap.IsTupleIter it l i from st.1) (show s.heap.IsTuple l items from st.2) (x:=items[i]) (by simp[hi]) fun h' G9 Gk=>?_;refine hQ _ h' s.toks (by simp[hi]) ⟨G9,?_⟩ Gk;obtain⟨o,e,r⟩:=(show Heap.IsTuple _ l items from st.2);exact⟨o,Gk.extBut l o Gj e,r⟩
  done:=fun s Q E st hE=>mQ hh (show s.heap.IsTupleIter it l _ from st.1) (show s.heap.IsTuple l items from st.2) O3 hE}
section
variable{prog:Program}{w:World}{A:Around}{E:TF}{s:Shared}{z TI TO i1 i2:Addr}{Kc Ke:RE}{n1 n2 k:Nat}{P1 P2:Nat->Value->Prop}{O1 P4:Nat->Heap->Prop}{a b:Value}
structure r8(z TI TO i1 i2:Addr)(Kc Ke:RE):Prop where
 TIz:TI≠z
 TOz:TO≠z
 i1z:i1≠z
 i2z:i2≠z
 TITO:TI≠TO
 TIi1:TI≠i1
 TIi2:TI≠i2
 TOi1:TO≠i1
 TOi2:TO≠i2
 i12:i1≠i2
 z1:z∉Kc
 z2:z∉Ke
 o1:TO∉Kc
 o2:TO∉Ke
 Yk:i1∉Ke
 x21:i2∉Kc
theorem BJ{Q:TF}(D1:Draws prog w A i1 Kc n1 P1 O1)(D2:Draws prog w A i2 Ke n2 P2 P4)(D:r8 z TI TO i1 i2 Kc Ke)
  (hz:IsZip s.heap z TI TO .none) (xq:IsPair s.heap TI (.ref i1) (.ref i2)) (zB:IsPair s.heap TO a b) (h1:O1 k s.heap) (h2:P4 k s.heap) (k1:k<n1) (k2:k<n2)
  (hQ:∀x y h' tk,P1 k x->P2 k y->IsZip h' z TI TO (rawInt s.heap.objs.size)->IsPair h' TO x y->O1 (k+1) h'->P4 (k+1) h'->IsPair h' s.heap.objs.size x y->(∀c o,c≠z->c≠TO->c≠i1->c≠i2->s.heap.get? c=some o->h'.get? c=some o)->Q (.ref s.heap.objs.size) {s with heap:=h',toks:=tk}) :
  wpAny (model prog w) A (Builtin.«zip.__next__» ⟨[.ref z],[]⟩) (fun fin s'=>∃v,fin=.done (.ret v)/\Q v s') E s:=by
 show wpAny _ _ (field (.ref z) 2 >>= _) _ _ _;refine X0 (Xr hz rfl (x:=.bool false) rfl ?_);show wpAny _ _ (field (.ref z) 3 >>= _) _ _ _;refine X0 (Xr hz rfl (x:=.ref TI) rfl ?_);refine X0 (DJ xq rfl ?_);show wpAny _ _ (Builtin.SmallTypes.ownedTupleIsFree (.ref z) >>= _) _ _ _;refine X0 ?_;unfold Builtin.SmallTypes.ownedTupleIsFree;refine X0 (Xr hz rfl (x:=.none) rfl (Wt ?_));simp only[if_true];refine X0 (Ek ?_);refine X0 (Xr hz rfl (x:=.ref TO) rfl ?_);refine X0 (G5 hz O3 fun h₁ nq jU=>?_);replace nq:IsZip h₁ z TI TO .ellipsis:=nq;refine X0 ?_;simp only[List.zipIdx_cons,List.zipIdx_nil,List.forIn_cons,List.forIn_nil];refine X0 (X0 (QD ?_));show wpAny _ _ (Builtin.SmallTypes.nextOf (.ref i1) >>= _) _ _ _;refine X0 (D1.item k _ _ _ k1 (D1.frame k _ h₁ h1 fun b hb o e=>jU.extBut b o (fun q=>D.z1 (q ▸ hb)) e) fun x lP S9 px Kk fT=>Wt ?_);replace fT:Heap.SameBut i1 h₁ lP:=fT;have pj:IsPair lP TO a b:=fT.extBut _ _ D.TOi1 (jU.extBut _ _ D.TOz zB);refine X0 (DJ pj rfl ?_);refine X0 (HB pj fun nR sI gA=>?_);replace sI:IsPair nR TO x b:=sI;replace gA:Heap.SameBut TO lP nR:=gA;refine X0 (wpAny_letGo (Wt ?_));refine X0 (X0 (QD ?_));show wpAny _ _ (Builtin.SmallTypes.nextOf (.ref i2) >>= _) _ _ _;refine X0 (D2.item k _ _ _ k2 (D2.frame k _ nR h2 fun b hb o e=>gA.extBut b o (fun q=>D.o2 (q ▸ hb)) (fT.extBut b o (fun q=>D.Yk (q ▸ hb)) (jU.extBut b o (fun q=>D.z2 (q ▸ hb)) e))) fun y xy Yi py QF jE=>Wt ?_);replace jE:Heap.SameBut i2 nR xy:=jE;have Dy:IsPair xy TO x b:=jE.extBut _ _ D.TOi2 sI;refine X0 (DJ Dy rfl ?_);refine X0 (HB Dy fun lb sJ kM=>?_);replace sJ:IsPair lb TO x y:=sJ;replace kM:Heap.SameBut TO xy lb:=kM;refine X0 (wpAny_letGo (Wt (Wt ?_)));refine X0 (DJ sJ rfl ?_);refine X0 (wpAny_newTuple ?_);have hsz:lb.objs.size=s.heap.objs.size:=by rw[kM.1,jE.1,gA.1,fT.1,jU.1]
 have KA:IsZip lb z TI TO .ellipsis:=kM.extBut _ _ D.TOz.symm (jE.extBut _ _ D.i2z.symm (gA.extBut _ _ D.TOz.symm (fT.extBut _ _ D.i1z.symm nq)));have QZ:∀c o,c≠z->c≠TO->c≠i1->c≠i2->s.heap.get? c=some o->lb.get? c=some o:=fun c o c1 c2 c3 c4 e=>kM.extBut _ _ c2 (jE.extBut _ _ c4 (gA.extBut _ _ c2 (fT.extBut _ _ c3 (jU.extBut _ _ c1 e))));have Q8:z<lb.objs.size:=Hh KA;show wpAny _ _ (Builtin.SmallTypes.ownedTupleHandOut (.ref z) (.ref lb.objs.size) >>= _) _ _ _;refine X0 ?_;unfold Builtin.SmallTypes.ownedTupleHandOut;have Q9:IsZip (lb.push {cls:=.type "tuple",data:=.seq #[x,y]}) z TI TO .ellipsis:=RN _ KA;refine X0 (G5 Q9 O3 fun VU DG Kv=>?_);replace DG:IsZip VU z TI TO (rawInt lb.objs.size):=DG;refine G5 DG O3 fun AU zG Kw=>?_;replace zG:IsZip AU z TI TO (rawInt lb.objs.size):=zG;have up:∀c o,c≠z->lb.get? c=some o->AU.get? c=some o:=fun c o c1 e=>Kw.extBut _ _ c1 (Kv.extBut _ _ c1 (RN _ e));have Km:IsPair AU lb.objs.size x y:=Kw.extBut _ _ (xP Q8) (Kv.extBut _ _ (xP Q8) (Rv _ rfl));rw[hsz] at zG Km;refine Wt ⟨_,rfl,?_⟩;show Q (.ref lb.objs.size) _;rw[hsz];refine hQ x y AU _ px py zG (up _ _ D.TOz sJ) (D1.frame _ lP AU Kk fun b hb o e=>up b o (fun q=>D.z1 (q ▸ hb)) (kM.extBut b o (fun q=>D.o1 (q ▸ hb)) (jE.extBut b o (fun q=>D.x21 (q ▸ hb)) (gA.extBut b o (fun q=>D.o1 (q ▸ hb)) e)))) (D2.frame _ xy AU QF fun b hb o e=>up b o (fun q=>D.z2 (q ▸ hb)) (kM.extBut b o (fun q=>D.o2 (q ▸ hb)) e)) Km fun c o c1 c2 c3 c4 e=>up c o c1 (QZ c o c1 c2 c3 c4 e)
theorem FU{Q:Fin->Shared->Prop}{m:Nat}(hh:A.handled=none)(D1:Draws prog w A i1 Kc n1 P1 O1)(D2:Draws prog w A i2 Ke n2 P2 P4)(D:r8 z TI TO i1 i2 Kc Ke)
  (hz:IsZip s.heap z TI TO .none) (xq:IsPair s.heap TI (.ref i1) (.ref i2)) (zB:IsPair s.heap TO a b) (h1:O1 k s.heap) (h2:P4 k s.heap) (DA:k=n1\/(k<n1/\k=n2))
  (hE:∀h' e tk,(∀c o,c≠z->c≠TO->c≠i1->c≠i2->s.heap.get? c=some o->h'.get? c=some o)->(∃o,h'.get? e=some o/\o.cls=.type "StopIteration")->E (.ref e) {s with heap:=h',toks:=tk}) :
  wpAny (model prog w) A (Builtin.«zip.__next__» ⟨[.ref z],[]⟩) Q E s:=by
 show wpAny _ _ (field (.ref z) 2 >>= _) _ _ _;refine X0 (Xr hz rfl (x:=.bool false) rfl ?_);show wpAny _ _ (field (.ref z) 3 >>= _) _ _ _;refine X0 (Xr hz rfl (x:=.ref TI) rfl ?_);refine X0 (DJ xq rfl ?_);show wpAny _ _ (Builtin.SmallTypes.ownedTupleIsFree (.ref z) >>= _) _ _ _;refine X0 ?_;unfold Builtin.SmallTypes.ownedTupleIsFree;refine X0 (Xr hz rfl (x:=.none) rfl (Wt ?_));simp only[if_true];refine X0 (Ek ?_);refine X0 (Xr hz rfl (x:=.ref TO) rfl ?_);refine X0 (G5 hz O3 fun h₁ nq jU=>?_);replace nq:IsZip h₁ z TI TO .ellipsis:=nq;refine X0 ?_;simp only[List.zipIdx_cons,List.zipIdx_nil,List.forIn_cons,List.forIn_nil];refine X0 (X0 (QD ?_));show wpAny _ _ (Builtin.SmallTypes.nextOf (.ref i1) >>= _) _ _ _;have UB:O1 k h₁:=D1.frame k _ h₁ h1 fun b hb o e=>jU.extBut b o (fun q=>D.z1 (q ▸ hb)) e;rcases DA with rfl|⟨k1,rfl⟩;refine X0 (D1.done _ _ _ UB fun lP e fT he=>?_);obtain⟨oe,Me,QM⟩:=he;have Ky:IsZip lP z TI TO .ellipsis:=fT _ _ D.i1z.symm nq;have Vu:e≠z:=fun x=>by subst x;rw[Ky] at Me;cases Me;simp at QM
 refine G5 Ky O3 fun nR _ gA=>hE nR e _ (fun c o c1 _ c3 _ x=>gA.extBut _ _ c1 (fT _ _ c3 (jU.extBut _ _ c1 x))) ⟨oe,gA.extBut _ _ Vu Me,QM⟩;refine X0 (D1.item k _ _ _ k1 UB fun x lP S9 px Kk fT=>Wt ?_);replace fT:Heap.SameBut i1 h₁ lP:=fT;have pj:IsPair lP TO a b:=fT.extBut _ _ D.TOi1 (jU.extBut _ _ D.TOz zB);refine X0 (DJ pj rfl ?_);refine X0 (HB pj fun nR sI gA=>?_);replace gA:Heap.SameBut TO lP nR:=gA;refine X0 (wpAny_letGo (Wt ?_));refine X0 (X0 (QD ?_));show wpAny _ _ (Builtin.SmallTypes.nextOf (.ref i2) >>= _) _ _ _;refine X0 (D2.done _ _ _ (D2.frame k _ nR h2 fun b hb o e=>gA.extBut b o (fun q=>D.o2 (q ▸ hb)) (fT.extBut b o (fun q=>D.Yk (q ▸ hb)) (jU.extBut b o (fun q=>D.z2 (q ▸ hb)) e))) fun xy e jE he=>?_);replace jE:Heap.ExtBut i2 nR xy:=jE;obtain⟨oe,Me,QM⟩:=he;have Kz:IsZip xy z TI TO .ellipsis:=jE _ _ D.i2z.symm (gA.extBut _ _ D.TOz.symm (fT.extBut _ _ D.i1z.symm nq));have Vu:e≠z:=fun x=>by subst x;rw[Kz] at Me;cases Me;simp at QM
 refine G5 Kz O3 fun lb _ kM=>hE lb e _ (fun c o c1 c2 c3 c4 x=>kM.extBut _ _ c1 (jE _ _ c4 (gA.extBut _ _ c2 (fT.extBut _ _ c3 (jU.extBut _ _ c1 x))))) ⟨oe,kM.extBut _ _ Vu Me,QM⟩
end
abbrev DQ(t:Bool)(l:Addr):Obj:={cls:=.type (if t then "tuple_iterator" else "list_iterator"),data:=.fields #[.ref l,.int 0 0]}
abbrev UJ(h:Heap)(t1:Bool)(l1:Addr):Heap:=h.push (DQ t1 l1)
abbrev UK(h:Heap)(t1 t2:Bool)(l1 l2:Addr):Heap:=(UJ h t1 l1).push (DQ t2 l2)
abbrev UL(h:Heap)(t1 t2:Bool)(l1 l2:Addr):Heap:=(UK h t1 t2 l1 l2).push {cls:=.type "tuple",data:=.seq #[.ref h.objs.size,.ref (UJ h t1 l1).objs.size]}
abbrev UM(h:Heap)(t1 t2:Bool)(l1 l2:Addr):Heap:=(UL h t1 t2 l1 l2).push {cls:=.type "tuple",data:=.seq #[.none,.none]}
abbrev Pt(h:Heap)(t1 t2:Bool)(l1 l2:Addr):Heap:=(UM h t1 t2 l1 l2).push {cls:=.type "zip",data:=.fields #[.none,.bool false,.bool false,.ref (UK h t1 t2 l1 l2).objs.size,.ref (UL h t1 t2 l1 l2).objs.size]}
theorem IsTuple.push{h:Heap}{a:Addr}{items:Array Value}(x:h.IsTuple a items)(o:Obj):(h.push o).IsTuple a items:=let ⟨ob,e,r⟩:=x;⟨ob,RN _ e,r⟩
set_option maxHeartbeats 4000000 in
theorem Bc(t1 t2:Bool)(l1 l2:Addr)(xs ys:Array Value) : Meets (Builtin.«zip.__new__» ⟨[.type "zip",.ref l1,.ref l2],[]⟩) (fun _ R s=>oG t1 s.heap l1 xs/\oG t2 s.heap l2 ys/\R (.ok (.ret (.ref (UM s.heap t1 t2 l1 l2).objs.size))) {s with heap:=Pt s.heap t1 t2 l1 l2}):=
 .of_wp fun prog w A R s h=>by
  refine VP.gl fun QQ eQ=>?_;obtain⟨hp,g,d,tk,os⟩:=s;obtain⟨T6,Gi,h⟩:=h;subst eQ;have Hc:=sub_zip;cases t1 with
   |false=>
    have QI:Heap.IsList (Shared.heap ⟨hp,g,d,tk,os⟩) l1 xs:=T6;cases t2 with
    |false=>
     have L4:Heap.IsList (Shared.heap ⟨hp.push {cls:=.type "list_iterator",data:=.fields #[.ref l1,.int 0 0]},g,d,tk,os⟩) l2 ys:=Heap.IsList.push Gi _
     wp_walk using ND QI,ND L4
     exact⟨_,rfl,h⟩
    |true=>
     have L4:Heap.IsTuple (Shared.heap ⟨hp.push {cls:=.type "list_iterator",data:=.fields #[.ref l1,.int 0 0]},g,d,tk,os⟩) l2 ys:=IsTuple.push Gi _
     wp_walk using ND QI,JE L4
     exact⟨_,rfl,h⟩
   |true=>
    have QI:Heap.IsTuple (Shared.heap ⟨hp,g,d,tk,os⟩) l1 xs:=T6;cases t2 with
    |false=>
     have L4:Heap.IsList (Shared.heap ⟨hp.push {cls:=.type "tuple_iterator",data:=.fields #[.ref l1,.int 0 0]},g,d,tk,os⟩) l2 ys:=Heap.IsList.push Gi _
     wp_walk using JE QI,ND L4
     exact⟨_,rfl,h⟩
    |true=>
     have L4:Heap.IsTuple (Shared.heap ⟨hp.push {cls:=.type "tuple_iterator",data:=.fields #[.ref l1,.int 0 0]},g,d,tk,os⟩) l2 ys:=IsTuple.push Gi _
     wp_walk using JE QI,JE L4
     exact⟨_,rfl,h⟩
theorem rJ(e:h.get? it=some (DQ t l)):jK t it l 0 h:=by cases t;exact⟨_,e,rfl,rfl⟩;exact⟨_,e,rfl,rfl⟩
theorem CP{prog:Program}{w:World}{A:Around}{E:TF}{s:Shared}{t1 t2:Bool}{l1 l2:Addr}{xs ys:Array Value}{Q:TF}(T6:oG t1 s.heap l1 xs)(Gi:oG t2 s.heap l2 ys)
  (h:∀h',IsZip h' (s.heap.objs.size+4) (s.heap.objs.size+2) (s.heap.objs.size+3) .none->IsPair h' (s.heap.objs.size+2) (.ref s.heap.objs.size) (.ref (s.heap.objs.size+1)) ->
   IsPair h' (s.heap.objs.size+3) .none .none->jK t1 s.heap.objs.size l1 0 h'->jK t2 (s.heap.objs.size+1) l2 0 h' ->
   (∀c o,s.heap.get? c=some o->h'.get? c=some o)->Q (.ref (s.heap.objs.size+4)) {s with heap:=h'}) :
  wpAny (model prog w) A (call (.type "zip") [.ref l1,.ref l2]) Q E s:=by
 refine callType_new PySem.F.called_zip (by decide) (PySem.F.typeCall_zip_2 _ _) (PySem.F.newCall_zip_2 _ _) (fun obj=>PySem.F.args_object_init_3 obj _ _) PySem.F.entry_zip_new (Bc t1 t2 l1 l2 xs ys) ⟨T6,Gi,?_⟩;have z1:(UJ s.heap t1 l1).objs.size=s.heap.objs.size+1:=sA ..;have z2:(UK s.heap t1 t2 l1 l2).objs.size=s.heap.objs.size+2:=by rw[sA,z1]
 have z3:(UL s.heap t1 t2 l1 l2).objs.size=s.heap.objs.size+3:=by rw[sA,z2]
 have z4:(UM s.heap t1 t2 l1 l2).objs.size=s.heap.objs.size+4:=by rw[sA,z3]
 have g5:(Pt s.heap t1 t2 l1 l2).get? (UM s.heap t1 t2 l1 l2).objs.size=some _:=Rv _ rfl;have g4:(Pt s.heap t1 t2 l1 l2).get? (UL s.heap t1 t2 l1 l2).objs.size=some _:=RN _ (Rv _ rfl);have g3:(Pt s.heap t1 t2 l1 l2).get? (UK s.heap t1 t2 l1 l2).objs.size=some _:=RN _ (RN _ (Rv _ rfl));have g2:(Pt s.heap t1 t2 l1 l2).get? (UJ s.heap t1 l1).objs.size=some _:=RN _ (RN _ (RN _ (Rv _ rfl)));have g1:(Pt s.heap t1 t2 l1 l2).get? s.heap.objs.size=some _:=RN _ (RN _ (RN _ (RN _ (Rv _ rfl))));show _/\_;rw[z2,z3,z4] at g5;rw[z1,z2] at g3;rw[z3] at g4;rw[z1] at g2;rw[z4];exact⟨⟨_,g5,rfl⟩,h _ g5 g3 g4 (rJ g1) (rJ g2) fun c o x=>RN _ (RN _ (RN _ (RN _ (RN _ x))))⟩
def mh(K:Frag)(H:Hp)(t:Bool)(p:Addr)(xs:Pk):Prop:=if t then dW K H p xs else cn K H p xs
theorem Inv.qz{X:Cx}{WO:Ul}{σ:St}{H:Hp}{s:Shared}{t:Bool}{p:Addr}{xs:Pk}(I:Inv X WO σ H s)(h:mh X.K H t p xs):∃aS:We,Vals xs aS/\oG t s.heap p aS.toArray:=by cases t;obtain⟨aS,rv,pl,_⟩:=I.list (show cn X.K H p xs from h);exact⟨aS,rv,pl.isList⟩;obtain⟨aS,rv,pl,_⟩:=I.tuple (show dW X.K H p xs from h);exact⟨aS,rv,pl⟩
theorem Inv.qb{X:Cx}{WO:Ul}{σ:St}{H:Hp}{s:Shared}{t:Bool}{p:Addr}{xs ys:Pk}(I:Inv X WO σ H s)(h:mh X.K H t p xs)(h':mh X.K H t p ys):xs=ys:=by cases t;exact I.pI h h';exact I.rO h h'
def UW(K:Frag)(t1 t2:Bool)(p1 p2:Addr):It:=⟨fun i H=>∃xs ys x y,mh K H t1 p1 xs/\mh K H t2 p2 ys/\xs[i]?=some x/\ys[i]?=some y,
 fun i H v H'=>∃q x y,H q=none/\v=.ref q/\H'=upd H q (.tup [x,y])/\(∀xs,mh K H t1 p1 xs->xs[i]?=some x)/\(∀ys,mh K H t2 p2 ys->ys[i]?=some y),
 fun i H=>∃xs ys,mh K H t1 p1 xs/\mh K H t2 p2 ys/\i<=xs.length/\i<=ys.length/\(xs.length<=i\/ys.length<=i)⟩
theorem Inv.pair{X:Cx}{WO:Ul}{σ:St}{H:Hp}{s:Shared}{fp:RE}{h':Heap}{tk:Nat}{x y:V}{u v:Value}(I:Inv X WO σ H s)(hf:∀b∈fp,iY X WO H b)
  (hk:∀c o,c∉fp->s.heap.get? c=some o->h'.get? c=some o) (hp:IsPair h' s.heap.objs.size u v) (rx:RelV x u) (ry:RelV y v) :
  Inv X WO σ (upd H s.heap.objs.size (.tup [x,y])) {s with heap:=h',toks:=tk}:=by
 have hn:H s.heap.objs.size=none:=I.cm.fresh (Gm _);have Gr:∀{b:Addr}{o:HO},H b=some o->b∉fp:=fun {b o} e hb=>by rw[(hf b hb).1] at e;cases e
 refine I.yR (s':={s with heap:=h',toks:=tk}) (ch:=fp) rfl ⟨fun b o e n hb hx=>hk b o hx e,fun b o e n hb hx=>⟨o.slots,by rw[hk b o hx e]⟩,fun b o e n hx=>?_,fun b o e hx=>⟨o,hk b o hx e⟩,fun b xs e=>?_,fun b o u e=>?_,fun b o e=>?_⟩ (fun b o e=>?_) I.bare fun b hb=>⟨(hf b hb).2.2.2.1,(hf b hb).2.1,(hf b hb).2.2.2.2.1,(hf b hb).2.2.2.2.2⟩;rw[aF (Wi (Hh e))];exact n;rw[aF (aT e hn)];exact e;rw[aF (aT e hn)];exact e;exact⟨#[],by rw[aF (aT e hn),e];simp⟩;by_cases hb:b=s.heap.objs.size;subst hb;rw[aB] at e;cases e;exact⟨by show 2<=sizeLine;decide,[u,v],.cons rx (.cons ry .nil),⟨_,hp,rfl,⟨_,rfl⟩,rfl⟩⟩;rw[aF hb] at e;refine(I.cm b o e).yn (fun c w' hc q=>hk c w' ?_ q) (fun c q=>by rw[aF (aT q hn)];exact q) fun c xs q=>by rw[aF (aT q hn)];exact q
 rcases hc with rfl|hc;exact Gr e;exact Gr hc
theorem Inv.uc{X:Cx}{WO:Ul}{σ:St}{H:Hp}{s:Shared}{fp:RE}{h':Heap}{tk:Nat}(I:Inv X WO σ H s)(hf:∀b∈fp,iY X WO H b)(hk:∀c o,c∉fp->s.heap.get? c=some o->h'.get? c=some o):Inv X WO σ H {s with heap:=h',toks:=tk}:=by
 have Gr:∀{b:Addr}{o:HO},H b=some o->b∉fp:=fun {b o} e hb=>by rw[(hf b hb).1] at e;cases e
 refine I.yR (s':={s with heap:=h',toks:=tk}) (ch:=fp) rfl ⟨fun b o e n hb hx=>hk b o hx e,fun b o e n hb hx=>⟨o.slots,by rw[hk b o hx e]⟩,fun b o e n hx=>n,fun b o e hx=>⟨o,hk b o hx e⟩,fun b xs e=>e,fun b o u e=>e,fun b o e=>⟨#[],by rw[e];simp⟩⟩ (fun b o e=>?_) I.bare fun b hb=>⟨(hf b hb).2.2.2.1,(hf b hb).2.1,(hf b hb).2.2.2.2.1,(hf b hb).2.2.2.2.2⟩;refine(I.cm b o e).yn (fun c w' hc q=>hk c w' ?_ q) (fun c q=>q) fun c xs q=>q;rcases hc with rfl|hc;exact Gr e;exact Gr hc
theorem FD{P:Program}{w:World}{K:Frag}{es:KJ}{k:Nat}{nZ:Pos}(t1 t2:Bool){p1 p2 z TI TO i1 i2:Addr}(D:r8 z TI TO i1 i2 [i1,p1] [i2,p2])(n1:p1≠i1)(n2:p2≠i2) : Turn P w K (.Tuple es k nZ) (UW K t1 t2 p1 p2) [z,TI,TO,i1,i2] z (fun i h=>IsZip h z TI TO .none/\IsPair h TI (.ref i1) (.ref i2)/\(∃a b,IsPair h TO a b)/\jK t1 i1 p1 i h/\jK t2 i2 p2 i h) where
 mem:=O3
 obj:=fun i h st b hb=>by
  refine VP.gl fun QQ eQ=>?_;obtain⟨hz,xq,⟨a,c,zB⟩,h1,h2⟩:=st;subst eQ;simp only[List.mem_cons,List.not_mem_nil,or_false] at hb;rcases hb with rfl|rfl|rfl|rfl|rfl
  ·exact⟨_,hz,fun v q=>by cases q⟩
  ·exact⟨_,xq,fun v q=>by cases q⟩
  ·exact⟨_,zB,fun v q=>by cases q⟩
  ·exact h1.obj
  ·exact h2.obj
 keep:=fun i h h' st kk=>by refine VP.gl fun QQ eQ=>?_;obtain⟨hz,xq,⟨a,c,zB⟩,h1,h2⟩:=st;subst eQ;exact⟨kk z O3 _ hz,kk TI O3 _ xq,⟨a,c,kk TO O3 _ zB⟩,h1.at fun o e=>kk i1 O3 o e,h2.at fun o e=>kk i2 O3 o e⟩
 item:=by
  intro X hP hw hK hc i WO s σ H E I hf st hg;subst hP hw hK;refine VP.gl fun QQ eQ=>?_;obtain⟨hz,xq,⟨a,c,zB⟩,h1,h2⟩:=st;subst eQ;refine VP.gl fun QQ eQ=>?_;obtain⟨xs,ys,x,y,q1,q2,e1,e2⟩:=hg;subst eQ;obtain⟨vp,Uv,s1⟩:=Inv.qz I q1;obtain⟨jI,Uw,s2⟩:=Inv.qz I q2;obtain⟨u,hu,ru⟩:=Uv.get e1;obtain⟨v,hv,rv⟩:=Uw.get e2;have hh:X.A.handled=none:=I.ok.hd hc;have hT:s.TypeIs (.ref z) "zip" := ⟨_,hz,rfl⟩;unfold pyNext;have V7:i<vp.toArray.size:=by have:=(List.getElem?_eq_some_iff.mp hu).1;simpa using this
  have ZA:i<jI.toArray.size:=by have:=(List.getElem?_eq_some_iff.mp hv).1;simpa using this
  refine X0 (Hy (Jt (name:=Str.ofString "__next__") hT HA (AJ HA hT PySem.F.entry_zip_next (BJ (kh (by exact hh) t1 i1 p1 n1 vp.toArray) (kh (by exact hh) t2 i2 p2 n2 jI.toArray) D hz xq zB ⟨h1,s1⟩ ⟨h2,s2⟩ V7 ZA fun x' y' h' tk px py z1 o1 w1 w2 pr kp=>Wt ?_) (PySem.F.args_zip_next_1 _))));have ex:x'=u:=by
   have:vp.toArray[i]?=some u:=by simpa using hu
   rw[this] at px;exact(X6 px).symm
  have ey:y'=v:=by
   have:jI.toArray[i]?=some v:=by simpa using hv
   rw[this] at py;exact(X6 py).symm
  subst ex ey;refine⟨_,rfl,wpAny_letOwnedTupleGo_zip z1 fun L0 z2 sb=>?_⟩;replace sb:Heap.SameBut z h' L0:=sb;have Js:z≠s.heap.objs.size:=Wi (Hh hz);have V3:∀c o,c∉[z,TI,TO,i1,i2]->s.heap.get? c=some o->L0.get? c=some o:=fun c o qw e=>by simp only[List.mem_cons,List.not_mem_nil,or_false,not_or] at qw;exact sb.extBut c o qw.1 (kp c o qw.1 qw.2.2.1 qw.2.2.2.1 qw.2.2.2.2 e)
  have IX:=Inv.pair (tk:=tk) (h':=L0) (x:=x) (y:=y) I hf V3 (sb.extBut _ _ (UH Js) pr) ru rv;refine⟨.ref s.heap.objs.size,_,IX,rfl,⟨_,x,y,I.cm.fresh (Gm _),rfl,rfl,fun xs' DF=>by rw[Inv.qb I DF q1];exact e1,fun ys' Zn=>by rw[Inv.qb I Zn q2];exact e2⟩,⟨z2,sb.extBut _ _ D.TIz (kp _ _ D.TIz D.TITO D.TIi1 D.TIi2 xq),⟨_,_,sb.extBut _ _ D.TOz o1⟩,w1.1.at fun o e=>sb.extBut _ o D.i1z e,w2.1.at fun o e=>sb.extBut _ o D.i2z e⟩,fun b hb=>?_⟩;have Pb:b≠s.heap.objs.size:=by
   obtain⟨ob,e,_⟩:∃o,s.heap.get? b=some o/\∀v,o.data≠.cell v:=by
    simp only[List.mem_cons,List.not_mem_nil,or_false] at hb;rcases hb with rfl|rfl|rfl|rfl|rfl
    ·exact⟨_,hz,fun v q=>by cases q⟩
    ·exact⟨_,xq,fun v q=>by cases q⟩
    ·exact⟨_,zB,fun v q=>by cases q⟩
    ·exact h1.obj
    ·exact h2.obj
   exact Wi (Hh e)
  rw[aF Pb];exact(hf b hb).1
 done:=by
  intro X hP hw hK hc i WO s σ H E I hf st hg;subst hP hw hK;refine VP.gl fun QQ eQ=>?_;obtain⟨hz,xq,⟨a,c,zB⟩,h1,h2⟩:=st;subst eQ;refine VP.gl fun QQ eQ=>?_;obtain⟨xs,ys,q1,q2,b1,b2,DA⟩:=hg;subst eQ;obtain⟨vp,Uv,s1⟩:=Inv.qz I q1;obtain⟨jI,Uw,s2⟩:=Inv.qz I q2;have l1:=Uv.length;have l2:=Uw.length;have hh:X.A.handled=none:=I.ok.hd hc;have hT:s.TypeIs (.ref z) "zip" := ⟨_,hz,rfl⟩;have he:i=vp.toArray.size\/(i<vp.toArray.size/\i=jI.toArray.size):=by simp;lia
  unfold pyNext;refine X0 (Hy (Jt (name:=Str.ofString "__next__") hT HA (AJ HA hT PySem.F.entry_zip_next (FU (m:=0) (by exact hh) (kh (by exact hh) t1 i1 p1 n1 vp.toArray) (kh (by exact hh) t2 i2 p2 n2 jI.toArray) D hz xq zB ⟨h1,s1⟩ ⟨h2,s2⟩ he fun h' e tk hk he=>?_) (PySem.F.args_zip_next_1 _))));obtain⟨o,ho,qw⟩:=he;refine X0 (FL (T:="StopIteration") (b:=true) ⟨o,ho,qw⟩ isSubtype_stop ?_);refine Wt ⟨rfl,Inv.uc (h':=h') I hf fun c o vi e=>?_⟩;simp only[List.mem_cons,List.not_mem_nil,or_false,not_or] at vi;exact hk c o vi.1 vi.2.2.1 vi.2.2.2.1 vi.2.2.2.2 e
 self:=fun _ _ _ _ _ st h=>wpAny_pyIter_zip st.1 h
section
variable{X:Cx}{EX:XE}{L:Lc}{e a b:Expr}{fa fb fe:M D}{pos p:Pos}{x:Str}
def VX(K:Frag)(t:TA):TI:=fun σ H R=>t σ H fun vs H1=>∃t1 t2 p1 p2,vs=[.ref p1,.ref p2]/\(∃xs,mh K H1 t1 p1 xs)/\(∃ys,mh K H1 t2 p2 ys)/\R (UW K t1 t2 p1 p2) H1
theorem Q06{es:KJ}{k:Nat}{nZ:Pos}{t:TA}(hg:Gl X "zip")(hm:X.mg "zip" = none)(ha:PA X [a,b] t)(hs:autoParam (starEach [a,b] X.env=[(false,eval a X.env),(false,eval b X.env)]) AuP.a._autoParam)(nQ:autoParam (starEach [b] X.env=[(false,eval b X.env)]) AuP.a._autoParam) : PI X (.Tuple es k nZ) (.Call (.Name "zip" p) [a,b] [] pos) (VX X.K t):=by
 intro WO s σ H R I h;refine Call_ (iq I hg hm boot_zip (JC (bN (ha pos WO s σ H _ I h) fun us s1 zz=>?_) (by rw[hs,nQ]) (by rw[nQ];rfl)));obtain⟨vs,H1,I1,r1,q1⟩:=zz;obtain⟨t1,t2,p1,p2,e,⟨xs,h1⟩,⟨ys,h2⟩,q⟩:=q1;subst e;cases r1 with
 |cons r rr=>
  cases rr with
  |cons r' rr=>
   cases rr;cases r;cases r';obtain⟨vp,Uv,Ye⟩:=Inv.qz I1 h1;obtain⟨jI,Uw,Yf⟩:=Inv.qz I1 h2;have lt:∀{t:Bool}{q:Addr}{aS:Array Value},oG t s1.heap q aS->q<s1.heap.objs.size:=fun {t q aS} z=>by cases t;obtain⟨o,e,_⟩:=(show Heap.IsList _ _ _ from z);exact Hh e;obtain⟨o,e,_⟩:=(show Heap.IsTuple _ _ _ from z);exact Hh e
   have l1:=lt Ye;have l2:=lt Yf;refine CP Ye Yf fun h' hz xq zB YY Pe hk=>?_;refine wpAny_pyIter_zip hz ?_;have IX:Inv X WO σ H1 {s1 with heap:=h'}:=I1.kept (t':=s1.toks) hk;have ne:∀{q:Addr}(j:Nat),q<s1.heap.objs.size->q≠s1.heap.objs.size+j:=fun {q} j hq=>Wi (XZ hq (NW _ _));have D:r8 (s1.heap.objs.size+4) (s1.heap.objs.size+2) (s1.heap.objs.size+3) s1.heap.objs.size (s1.heap.objs.size+1) [s1.heap.objs.size,p1] [s1.heap.objs.size+1,p2]:=by have a1:=ne 4 l1;have a2:=ne 3 l1;have a3:=ne 1 l1;have b1:=ne 4 l2;have b2:=ne 3 l2;have b3:=ne 0 l2;refine⟨O3,O3,O3,O3,O3,O3,O3,O3,O3,O3,?_,?_,?_,?_,?_,?_⟩;simp[Ne.symm a1];simp[Ne.symm b1];simp[Ne.symm a2];simp[Ne.symm b2];simp;exact UH b3;simp[Ne.symm a3]
   refine⟨_,[s1.heap.objs.size+4,s1.heap.objs.size+2,s1.heap.objs.size+3,s1.heap.objs.size,s1.heap.objs.size+1],_,_,H1,rfl,IX,FD t1 t2 D (ne 0 l1) (ne 1 l2),⟨hz,xq,⟨_,_,zB⟩,YY,Pe⟩,fun c hc=>?_,q⟩;have hle:s1.heap.objs.size<=c:=by simp only[List.mem_cons,List.not_mem_nil,or_false] at hc;rcases hc with rfl|rfl|rfl|rfl|rfl;exact NW _ _;exact NW _ _;exact NW _ _;exact Gm _;exact NW _ _
   exact I1.nP hle (I1.cm.fresh hle)
theorem mh.same{K:Frag}{F F':Hp}{t:Bool}{q:Addr}{xs:Pk}(h:mh K F t q xs)(e:aE F F'):mh K F' t q xs:=by cases t;exact cn.same h e;exact dW.same h e
theorem Den.seq{K:Frag}{mg:MG}{F:Hp}{v:V}{d:D}{ds:OK}(h:Den K mg F v d)(e:c5 d=some ds):∃t q vs,v=.ref q/\mh K F t q vs/\aN K mg F vs ds:=by cases h with|tup h r=>cases e;exact⟨true,_,_,rfl,h,r⟩|lst h r=>cases e;exact⟨false,_,_,rfl,h,r⟩|_=>cases e
theorem Hl{G:Fx}{F:Hp}{t1 t2:Bool}{p1 p2:Addr}{vs ws:Pk}{ds es:OK}(Y0:∀(σ:St)(F' H':Hp)(ρ:aU),aE F F'->L.Good G F' H' σ ρ->True)(h1:mh L.K F t1 p1 vs)(r1:aN L.K L.mg F vs ds)(h2:mh L.K F t2 p2 ws)(r2:aN L.K L.mg F ws es) : FW L G F (UW L.K t1 t2 p1 p2) (List.zipWith (fun x y=>D.tup [x,y]) ds es):=fun σ i F' H' ρ s g=>by have q1:mh L.K H' t1 p1 vs:=(h1.same s).same g.sub;have q2:mh L.K H' t2 p2 ws:=(h2.same s).same g.sub;have l1:=r1.length;have l2:=r2.length;refine⟨fun hi=>?_,fun hi=>?_,fun x FV y=>?_⟩;simp at hi;exact⟨vs,ws,vs[i]' Ug,ws[i]' Ug,q1,q2,by simp[show i<vs.length by lia],by simp[show i<ws.length by lia]⟩;simp at hi;exact⟨vs,ws,q1,q2,Ug,Ug,Ug⟩;obtain⟨q,u,v,hq,rfl,rfl,y1,y2⟩:=y;have sF:=a8 (o:=.tup [u,v]) (g.sub.free hq);refine⟨_,sF,g.laid hq,fun d hd=>?_⟩;rw[List.getElem?_zipWith] at hd;cases e1:ds[i]? with|none=>rw[e1] at hd;cases hd|some d1=>cases e2:es[i]? with|none=>rw[e1,e2] at hd;cases hd|some d2=>rw[e1,e2] at hd;cases hd;obtain⟨u',a1,a2⟩:=(r1.same s).get e1;obtain⟨v',b1,b2⟩:=(r2.same s).get e2;rw[y1 vs q1] at a1;rw[y2 ws q2] at b1;cases a1;cases b1;exact .tup (dW.of aB) (.cons (a2.same sF) (.cons (b2.same sF) .nil))
theorem j8{es:KJ}{k:Nat}{nZ:Pos}{fl:List (M D)}(hg:Gl X "zip")(hm:X.mg "zip" = none)(ha:BQ X EX [a,b] (mL fl))(hs:autoParam (starEach [a,b] X.env=[(false,eval a X.env),(false,eval b X.env)]) AuP.a._autoParam)(nQ:autoParam (starEach [b] X.env=[(false,eval b X.env)]) AuP.a._autoParam) : uz X EX (.Tuple es k nZ) (.Call (.Name "zip" p) [a,b] [] pos) (kE fl):=
 (Q06 hg hm ha hs nQ).le fun σ H Q bH=>dX bH fun G F F1 H1 bx d1 xs s1 g1 r1 o1=>by
  obtain⟨ds,e,q⟩:=o1.opt;unfold qj at e;split at e;rename_i c d;cases r1 with|cons h1 r1=>cases r1 with|cons h2 r1=>obtain rfl:=aN.n r1;cases e1:c5 c with|none=>rw[e1] at e;cases e|some cs=>cases e2:c5 d with|none=>rw[e1,e2] at e;cases e|some es=>rw[e1,e2] at e;cases e;obtain⟨t1,q1,vs,rfl,z1,y1⟩:=Den.seq h1 e1;obtain⟨t2,q2,ws,rfl,z2,y2⟩:=Den.seq h2 e2;exact⟨t1,t2,q1,q2,rfl,⟨_,z1.same g1.sub⟩,⟨_,z2.same g1.sub⟩,q F1 H1 _ s1 g1 (Hl (fun _ _ _ _ _ _=>trivial) z1 y1 z2 y2)⟩
  cases e
theorem ints_of{K:Frag}{mg:MG}{F:Hp}:∀{vs:Pk}{ds:OK}{ns:ZX},aN K mg F vs ds->eT ds=some ns->vs=ns.map V.int
|_,_,_,.nil,e=>by cases e;rfl|_,_,_,.cons (ds:=ds) h t,e=>by
 cases h with
 |int i=>simp only[eT] at e;cases q:eT ds with|none=>rw[q] at e;cases e|some ns=>rw[q] at e;cases e;rw[ints_of t q];rfl
 |_=>cases e
def SA(K:Frag):Pk->Hp->VK->Prop:=fun xs H Q=>∃(t:Bool)(q:Addr)(ns:ZX),xs=[.ref q]/\mh K H t q (ns.map V.int)/\Q (.int ns.sum) H
theorem uO(hc:X.calm=true):eI X (.builtin "sum") (SA X.K):=by
 intro WO s σ H xs us Q I r h;obtain⟨t,q,ns,rfl,hq,k⟩:=h;obtain⟨u,rfl,ru⟩:=vals1 r;cases ru;obtain⟨aS,rv,sq⟩:=Inv.qz I hq;have hi:IntsAre aS ns:=intsAre_of rv;have hh:X.A.handled=none:=I.ok.hd hc;have L5:=hi.allInts;obtain⟨ys,ey⟩:=L5.items;have es:preSum (numAt ys) ys.size=ns.sum:=by rw[preSum_eq,OG O3];have:=nums_intItems ys;rw[<-ey] at this;rw[<-this,show aS.toArray.toList=aS from rfl,hi.numsOf]
 cases t;have SN:s.heap.IsList q aS.toArray:=sq;rw[ey] at SN;refine sum_intListG hh SN fun h' tk t' hk=>?_;rw[es];exact⟨.int ns.sum,H,I.kept hk,⟨_,rfl⟩,k⟩;have SN:s.heap.IsTuple q aS.toArray:=sq;rw[ey] at SN;refine W.ktm_sumG hh SN fun h' tk t' hk=>?_;rw[es];exact⟨.int ns.sum,H,I.kept hk,⟨_,rfl⟩,k⟩
theorem RR.qz{G:Fx}{F H:Hp}{σ:St}{ρ:aU}{v:V}{d:D}{ds:OK}(h:RR L G F H σ ρ v d)(g:L.Good G F H σ ρ)(e:c5 d=some ds):∃t q vs,v=.ref q/\aN L.K L.mg F vs ds/\mh L.K H t q vs:=by
 obtain⟨q,vs,rfl,r,z⟩:=RR.seq h g e;rcases z with ⟨_,z⟩|⟨_,z,_⟩
 exact⟨false,q,vs,rfl,r,z⟩;exact⟨true,q,vs,rfl,r,z⟩
theorem Kh:K9 L (SA L.K) Bz:=fun G F H σ ρ x dx d Q g0 rx e k=>by unfold Bz at e;cases e1:c5 dx with|none=>rw[e1] at e;cases e|some ds=>rw[e1] at e;dsimp only at e;cases e2:eT ds with|none=>rw[e2] at e;cases e|some ns=>rw[e2] at e;cases e;obtain⟨t,q,vs,rfl,r,z⟩:=RR.qz rx g0 e1;rw[ints_of r e2] at z;exact⟨t,q,ns,rfl,z,k F H _ (aE.refl _) g0 (.int _)⟩
theorem Q26(K:Frag):∀k∈["NoneType","bool","int","str","tuple","list","dict"],∀T∈["int","bool","tuple","list","str","dict"],W.kitOne K (.type k) (.type T)=some (k == T||(k == "bool" && T == "int")):=by intro k hk T hT;simp only[List.mem_cons,List.not_mem_nil,or_false] at hk hT;rcases hk with rfl|rfl|rfl|rfl|rfl|rfl|rfl<;>rcases hT with rfl|rfl|rfl|rfl|rfl|rfl<;>first|rfl|decide +kernel|(show W.kitOne K _ _=_;kernel_rfl)
def Wl(L:Lc)(T:String):Pk->Hp->VK->Prop:=fun xs H Q=>∃x G F σ ρ d k b,xs=[x,.ty T]/\L.Good G F H σ ρ/\RR L G F H σ ρ x d/\vt d=some k/\W.kitOne L.K (.type k) (.type T)=some b/\Q (.bl b) H
theorem CO(T:String):eI X (.builtin "isinstance") (Wl (lc X EX) T):=by
 intro WO s σ0 H xs us Q I r h;obtain⟨x,G,F,σ,ρ,d,k,b,rfl,g,rx,hk,hb,q⟩:=h;obtain⟨u,c,rfl,ru,rc⟩:=vals2 r;obtain rfl:c=Value.type T:=rc;have fin:∀tk,EP X WO σ0 Q (.bool b) {s with toks:=tk}:=fun tk=>⟨.bl b,H,I.tok tk,rfl,q⟩;have obj:∀{l:Addr}{ds:OK},c5 d=some ds->x=.ref l->(d=.lst ds->∃o,s.heap.get? l=some o/\o.cls=.type "list")/\(d=.tup ds->∃o,s.heap.get? l=some o/\o.cls=.type "tuple"):=fun {l ds} e ex=>by
  obtain⟨q',vs,e2,_,z⟩:=RR.seq rx g e;rw[ex] at e2;cases e2;rcases z with ⟨z1,z2⟩|⟨z1,z2,_⟩
  refine⟨fun _=>?_,fun z=>(by rw[z1] at z;cases z)⟩;obtain⟨aS,_,pl,_⟩:=I.list z2;obtain⟨o,ho,hc,_⟩:=pl.isList;exact⟨o,ho,hc⟩;refine⟨fun z=>(by rw[z1] at z;cases z),fun _=>?_⟩;obtain⟨aS,_,⟨o,ho,hc,_⟩,_⟩:=I.tuple z2;exact⟨o,ho,hc⟩
 cases d with
 |bB=>cases hk;rcases rx with rx|⟨_,_,z⟩;obtain rfl:=Den.n rx;cases (show u=Value.none from ru);exact W.kia_one W.kitx_none I.kD True.intro hb (fun z=>nomatch z) fin;exact z.elim
 |bl v=>cases hk;rcases rx with rx|⟨_,_,z⟩;obtain rfl:=Den.b rx;cases (show u=Value.bool v from ru);exact W.kia_one W.kitx_bool I.kD True.intro hb (fun z=>nomatch z) fin;exact z.elim
 |int v=>cases hk;rcases rx with rx|⟨_,_,z⟩;obtain rfl:=Den.i rx;obtain⟨t,q⟩:=(show ∃t,u=Value.int v t from ru);cases q;exact W.kia_one W.kitx_int I.kD True.intro hb (fun z=>nomatch z) fin;exact z.elim
 |str v=>cases hk;rcases rx with rx|⟨_,_,z⟩;obtain rfl:=Den.s rx;obtain⟨t,q⟩:=(show ∃t,u=Value.str v t from ru);cases q;exact W.kia_one W.kitx_str I.kD True.intro hb (fun z=>nomatch z) fin;exact z.elim
 |tup ds=>cases hk;obtain⟨l,vs,e2,_⟩:=RR.seq rx g rfl;obtain⟨o,ho,hc⟩:=(obj rfl e2).2 rfl;subst e2;cases (show u=Value.ref l from ru);exact W.kia_one W.kitx_tuple I.kD ⟨o,ho,hc⟩ hb (fun z=>nomatch z) fin|lst ds=>cases hk;obtain⟨l,vs,e2,_⟩:=RR.seq rx g rfl;obtain⟨o,ho,hc⟩:=(obj rfl e2).1 rfl;subst e2;cases (show u=Value.ref l from ru);exact W.kia_one W.kitx_list I.kD ⟨o,ho,hc⟩ hb (fun z=>nomatch z) fin|fP ks ds=>
  cases hk;have hd:∃l aZ ep,x=.ref l/\H l=some (.dK aZ ep):=by
   rcases rx with rx|⟨l,e,z⟩;cases rx with|fP h r=>exact⟨_,_,_,rfl,g.sub _ _ h⟩
   obtain⟨aZ,ep,z1,_⟩:=z;exact⟨l,aZ,ep,e,z1⟩
  obtain⟨l,aZ,ep,rfl,hl⟩:=hd;cases (show u=Value.ref l from ru);obtain⟨_,_,vs,_,p⟩:=(show dD X.prog X.w H s.heap l (.dK aZ ep) from I.cm l _ hl);obtain⟨o,es,h1,h2,_⟩:=p;exact W.kia_one W.kitx_dict I.kD ⟨o,h1,h2.1⟩ hb (fun z=>nomatch z) fin
 |ins c ns ds=>cases hk|Ge c ns ds=>cases hk
theorem qa(T:String){xT:Str}{pT:Pos}(hT:T∈["int","bool","tuple","list","str","dict"])(hg:Gl X "isinstance")(hm:X.mg "isinstance" = none)(L8:Gl X xT)(Q0:X.mg xT=none)(Zk:bootBuiltins xT=some (.type T))(ha:PR X EX a fa)
  (hn:autoParam (xT≠"__name__") AuP.b._autoParam) (Vr:autoParam (Qu xT) AuP.b._autoParam)
  (hs:autoParam (starEach [a,.Name xT pT] X.env=(false,eval a X.env)::starEach [.Name xT pT] X.env) AuP.a._autoParam) (nQ:autoParam (starEach [.Name xT pT] X.env=(false,eval (.Name xT pT) X.env)::starEach [] X.env) AuP.a._autoParam) (iX:autoParam ((backTo pos (starEach [.Name xT pT] X.env)).any (·.1)=false) AuP.a._autoParam) :
  PV X EX (.Call (.Name "isinstance" p) [a,.Name xT pT] [] pos) (m1 (lQ T) fa):=
 (iQ (CO (EX:=EX) T) hg hm boot_isinstance (bC ha (bC (Iu (v:=.ty T) L8 Q0 Zk rfl hn Vr) cY nQ) hs) (by decide) (by decide) hs iX).le fun σ H Q bH=>dX bH fun G F F1 H1 bx d1 x s1 g1 r1 o1=>by
  obtain⟨d,e,q⟩:=o1.opt;unfold lQ at e;cases ek:vt d1 with
  |none=>rw[ek] at e;cases e|some k=>
   rw[ek] at e;cases e;have hk:k∈["NoneType","bool","int","str","tuple","list","dict"]:=by cases d1<;>cases ek<;>simp
   exact⟨x,G,F1,σ,bx,d1,k,_,rfl,g1,r1,ek,Q26 _ k hk T hT,q F1 H1 _ s1 g1 (.bl _)⟩
theorem isLst_slot{G:Fx}{F H:Hp}{σ:St}{ρ:aU}{j:Nat}(g:L.Good G F H σ ρ)(h:isLst (own ρ[j]?)=true):∃l vs,σ[j]?=some (some (V.ref l))/\H l=some (.lst vs):=by
 have hs:(own ρ[j]?).isSome=true:=by cases q:own ρ[j]? with|none=>rw[q] at h;cases h|some d=>rfl
 obtain⟨l,d,h1,h2,h3⟩:=lX g hs;rw[h2] at h;cases d with|lst ds=>obtain⟨vs,z,_⟩:=h3;exact⟨l,vs,h1,z⟩|_=>cases h
theorem OO(i:Nat){Pn jb:Pos}(he:PV X EX e fe)(hN:autoParam (X.N[i]?=some x) AuP.a._autoParam)(hv:oI X.env.scope x:=by exact Vd)(hd:autoParam (Qu x) AuP.b._autoParam)
  (gp:autoParam (P7 x) AuP.b._autoParam)
  (hpe:∀{to:TE}{t:TA},PE X (.Name x p) to->PA X [e] t->PE X (.Call (.Attribute (.Name x p) "append" Pn) [e] [] jb) (UG X.K "list" tQ to t))
  (hU:autoParam (V1 X e []) AuP.a._autoParam):nL X EX (.Expr (.Call (.Attribute (.Name x p) "append" Pn) [e] [] jb) pos) (l6 i fe):=
 (oz (hpe (cC hN hv hd gp) (bC he cY hU))).le fun E σ H bH=>xF bH fun G F ρ g0 o=>by unfold l6 at o;by_cases hl:isLst (own ρ[i]?)=true;rw[WL hl] at o;obtain⟨l,vs,z1,z2⟩:=isLst_slot (L:=lc X EX) g0 hl;refine⟨_,z1,.inl ⟨rfl,_,cn.of z2⟩,bj g0 o (fun x r q=>q.x) fun F1 H1 bx d1 v s1 g1 r1 o1=>?_⟩;obtain⟨l',wC,bV,y1,y2,y3,g2,q⟩:=wx (L:=lc X EX) g1 r1 (Out.Tz o1);rw[z1] at y1;cases y1;exact⟨l,wC,v,rfl,rfl,y2,y3,q F1 _ σ s1 g2⟩;rw[S8 hl] at o;exact o.elim
def Ab(K:Frag):R2:=fun x y H Q=>∃l b xs zs,x=.ref l/\y=.ref b/\cn K H l xs/\cn K H b zs/\xs.length+zs.length<=sizeLine/\∀p,H p=none->Q (.ref p) (upd H p (.lst (xs++zs)))
theorem Ik:ij X (binaryOp .Add) (Ab X.K):=by intro WO s σ H x y v u Q I rx ry h;obtain⟨l,b,xs,zs,rfl,rfl,hH,hB,hz,q⟩:=h;cases rx;cases ry;obtain⟨aS,r,⟨⟨c1,d1,dt1,Z4⟩,n,e,hc,hd,T5⟩,_⟩:=I.list hH;obtain⟨jI,r2,⟨⟨c2,d2,dt2,Pp⟩,n2,e2,AQ,hd2,QR⟩,_⟩:=I.list hB;simp only at hc hd T5 AQ hd2 QR;subst hc T5 AQ QR;refine concat_meets ⟨_,e,rfl⟩ ⟨_,e2,rfl⟩ noFill_list_add seq_list_add PySem.F.slot_list_add PySem.F.entry_list_add (PySem.F.args_list_add_2 _ _) (list_addW l b aS.toArray jI.toArray n n2 d1 d2 Z4 Pp (by rw[Uh,Uh,<-r.length,<-r2.length];exact hz)) ⟨e,e2,?_⟩;have ea:aS.toArray++jI.toArray=(aS++jI).toArray:=O3;rw[ea];exact⟨.ref _,_,I.MC (t':=s.toks) (r.append r2) (by rw[IL];lia),rfl,q _ I.fresh⟩
theorem LR:kU L (Ab L.K) P5:=fun G F H σ ρ x y dx dy d Q g0 rx ry e k=>by
 cases dx with
 |lst xs=>cases dy with|lst ys=>simp only[P5] at e;split at e;rename_i hl;cases e;obtain⟨_,_,rfl,h1,r1⟩:=Den.l rx;obtain⟨_,_,rfl,h2,r2⟩:=Den.l ry;refine⟨_,_,_,_,rfl,rfl,cn.same h1 g0.sub,cn.same h2 g0.sub,by rw[r1.length,r2.length,<-wW];exact hl,fun p hp=>?_⟩;have sF:∀o,aE F (upd F p o):=fun o=>a8 (o:=o) (g0.sub.free hp);exact k _ _ _ (sF _) (g0.laid hp) (.lst (cn.of aB) (aN.append (aN.same (sF _) r1) (aN.same (sF _) r2)));cases e|_=>cases e
 |_=>cases e
theorem bp:ij X (binaryOp .Add) (fun x y H Q=>(vY fun i j=>.int (i+j)) x y H Q\/(Aa X.K x y H Q\/Ab X.K x y H Q)):=ij.or NH (ij.or Ij Ik)
theorem bJ:kU L (fun x y H Q=>(vY fun i j=>.int (i+j)) x y H Q\/(Aa L.K x y H Q\/Ab L.K x y H Q)) cx:=fun G F H σ ρ x y dx dy d Q g0 rx ry e k=>by
 cases dx with
 |int _=>cases dy with|int _=>exact .inl (Qx G F H σ ρ x y _ _ d Q g0 rx ry e k)|_=>cases e
 |tup _=>cases dy with|tup _=>exact .inr (.inl (LS G F H σ ρ x y _ _ d Q g0 rx ry e k))|_=>cases e
 |lst _=>cases dy with|lst _=>exact .inr (.inr (LR G F H σ ρ x y _ _ d Q g0 rx ry e k))|_=>cases e
 |_=>cases e
noncomputable def RO:Rl (Option Int) (Option Int):=fun _ _ _ _ _ b a=>b=a
def yB(X:Cx)(EX:XE)(e:Option Expr)(f:Option (M D)):Prop:=PO X e (lift (lc X EX) RO (lT f))
theorem JN{X:Cx}{e:Option Expr}{t t':TO}(h:PO X e t)(k:∀σ H Q,t' σ H Q->t σ H Q):PO X e t':=fun WO s σ H Q I q=>h WO s σ H Q I (k _ _ _ q)
theorem kx:yB X EX none none:=JN z6 fun σ H Q bH=>lf bH fun G F ρ g0 o=>o F H none (aE.refl _) g0 rfl
theorem ky(h:PV X EX e fe):yB X EX (some e) (some fe):=JN (z7 h) fun σ H Q bH=>dX bH fun G F F1 H1 bx d1 x s1 g1 r1 o1=>by cases d1 with|int i=>obtain rfl:=Den.i r1;exact⟨i,rfl,o1 F1 H1 _ s1 g1 rfl⟩|_=>exact o1.elim
theorem Fh(n d:Nat)(o:XY):HT.cR n d o=v7 n d o:=by cases o with|none=>rfl|some v=>unfold HT.cR v7;first|rfl|(split<;>first|rfl|lia)
theorem oa{K:Frag}{mg:MG}{F:Hp}{vs:Pk}{ds:OK}(h:aN K mg F vs ds)(lo hi:XY):aN K mg F (k0 vs lo hi) (VP.cutD ds lo hi):=by unfold k0 VP.cutD;rw[h.length,Fh,Fh];exact(h.drop _).take _
end
theorem k8{js:Rx}{m n:Nat}(h:js.all (fun j=>decide (m<=j)&&decide (j<m+n))=true):∀j∈js,m<=j/\j<m+n:=fun j hj=>by have:=List.all_eq_true.mp h j hj;rw[ET] at this;exact⟨Hn this.1,Hn this.2⟩
structure oF(K:Frag)(mg:MG)(x:Str)(st:Stmt)(ps:Ut)(f:Addr)(fd:FuncData):Prop where
 fu:Gv K x x st f fd
 bi:Binds K fd ps []
 mg:mg x=some (.ref f)
section
variable{X:Cx}{EX:XE}{L:Lc}{e a b c:Expr}{fa fb fc fe:M D}{pos:Pos}{x:Str}
def jA:D->Value->Prop|.bB,v=>v=.none|.bl k,v=>v=.bool k|.int i,v=>∃t,v=.int i t|.str s,v=>∃t,v=.str s t|_,_=>False
theorem jA.den(h:jA d v):∃u:V,RelV u v/\∀(K:Frag)(mg:MG)(F:Hp),Den K mg F u d:=by cases d with|bB=>cases h;exact⟨.bB,rfl,fun _ _ _=>.bB⟩|bl k=>cases h;exact⟨.bl k,rfl,fun _ _ _=>.bl k⟩|int i=>obtain⟨t,rfl⟩:=h;exact⟨.int i,⟨t,rfl⟩,fun _ _ _=>.int i⟩|str s=>obtain⟨t,rfl⟩:=h;exact⟨.str s,⟨t,rfl⟩,fun _ _ _=>.str s⟩|_=>exact h.elim
def W4(mg:MG)(x:Str)(d:D):Prop:=∃v,mg x=some v/\jA d v
theorem ff(hm:W4 X.mg x d)(hg:Gl X x)(hd:autoParam (Qu x) AuP.b._autoParam):PV X EX (.Name x pos) (mC d):=by obtain⟨v,h1,h2⟩:=hm;obtain⟨u,r,den⟩:=h2.den;exact vX (kr hg h1 r hd) (fun _ _ _ q=>q) fun F=>den _ _ F
theorem uQ(hg:kU (lc X EX) r g)(Pd:kU (lc X EX) r' g')(ha:∀σ H Q,lift (lc X EX) (RV (lc X EX)) fa σ H Q->ta σ H Q)(hb:∀σ H Q,lift (lc X EX) (RV (lc X EX)) fb σ H Q->tb σ H Q)(hc:∀σ H Q,lift (lc X EX) (RV (lc X EX)) fc σ H Q->tc σ H Q) (σ:St) (H:Hp) (Q:VK) (h:lift (lc X EX) (RV (lc X EX)) (zP g g' fa fb fc) σ H Q):yp r r' ta tb tc σ H Q:=by
 obtain⟨G,F,ρ,g0,o⟩:=h;refine ha _ _ _ (bj g0 o (fun x r q=>q) fun F1 H1 bx d1 x s1 g1 r1 o1=>?_);refine hb _ _ _ (bj g1 o1 (fun x r q=>q.same s1) fun F2 H2 qk d2 y s2 g2 r2 o2=>?_);obtain⟨d,e,q⟩:=o2.Tz.opt;refine hg G F2 H2 σ qk x y d1 d2 d _ g2 (r1.same s2) r2 e fun F3 H3 v s3 g3 r3=>?_;cases d with
  |bl k=>obtain rfl:=Den.b r3;refine⟨k,rfl,?_⟩;cases k with|true=>refine sT (hc _ _ _ (bj g3 q (fun x r q=>q.same (s1.trans (s2.trans s3))) fun F4 H4 K6 d4 z s4 g4 r4 o4=>?_));obtain⟨d5,e5,q5⟩:=o4.opt;exact Pd G F4 H4 σ K6 y z d2 d4 d5 Q g4 (r2.same (s3.trans s4)) r4 e5 (gc.same (s1.trans (s2.trans (s3.trans s4))) q5)|false=>exact sR (q F3 H3 _ (s1.trans (s2.trans s3)) g3 (.bl _))
  |_=>exact q.elim
theorem gR(ho:ij X (compareOp op) r)(xu:ij X (compareOp Bj) r')(hg:kU (lc X EX) r g)(Pd:kU (lc X EX) r' g')(ha:PV X EX a fa)(hb:PV X EX b fb)(hc:PV X EX c fc)(hm:lastMarks [op,Bj] [b,c]=false:=by exact Jb):PV X EX (.Compare a [op,Bj] [b,c] pos) (zP g g' fa fb fc):=
 (EM ho xu ha hb hc hm).le (uQ hg Pd (fun _ _ _ q=>q) (fun _ _ _ q=>q) fun _ _ _ q=>q)
theorem EK(ho:ij X (compareOp op) r)(xu:ij X (compareOp Bj) r')(hg:kU (lc X EX) r g)(Pd:kU (lc X EX) r' g')(ha:PV X EX a fa)(hb:PV X EX b fb)(hc:PV X EX c fc)(hm:lastMarks [op,Bj] [b,c]=false:=by exact Jb):PB X EX (.Compare a [op,Bj] [b,c] pos) (tB (zP g g' fa fb fc)):=
 (Q1d ho xu ha hb hc hm).le fun σ H Q bH=>lf bH fun G F ρ g0 o=>by refine uQ hg Pd (fun _ _ _ q=>q) (fun _ _ _ q=>q) (fun _ _ _ q=>q) σ H _ (bj g0 o (fun x r q=>q) fun F1 H1 bx d1 x s1 g1 r1 o1=>?_);cases d1 with|bl k=>obtain rfl:=Den.b r1;exact⟨k,rfl,o1 F1 H1 k s1 g1 rfl⟩|_=>exact o1.elim
theorem kC{prog:Program}{w:World}{A:Around}{E:TF}{s:Shared}{t sl:Addr}{items:Array Value}{vl vu:Value}{lo hi:XY}{Q:TF}(ht:IsTup s.heap t items)(hs:s.heap.IsSliceOf sl vl vu .none)(pl:IsPart vl lo)(pu:IsPart vu hi)(hw:HT.cR items.size 0 lo=0/\HT.cR items.size items.size hi=items.size) (h:Q (.ref t) s):wpAny (model prog w) A (getItem (.ref t) (.ref sl)) Q E s:=by
 obtain⟨os,Mf,L7,vj⟩:=id hs;have Vl:s.TypeIs (.ref sl) "slice" := ⟨os,Mf,L7⟩;unfold getItem;try with_reducible refine Eo ?_
 first|refine X0 (Wt ?_)|skip
 refine X0 (wpAny_sequenceKey ht.typeIs (by decide) ?_);refine X0 (Jt (name:=Str.ofString "__getitem__") ht.typeIs A3 (AJ A3 ht.typeIs entry_tuple_getitem ?_ (args_tuple_getitem _ _)));show wpAny _ _ (Builtin.Tuple.tupleItemsOf (.ref t) >>= _) _ _ s;refine X0 (PyProof.Rows.tupleItemsOf_ ht ?_);refine X0 (DZ Vl ?_);rw[WL (by decide)];refine X0 (HT.iU hs pl pu ?_);have VR:(((HT.cR items.size 0 lo:Nat):Int) == 0&&(1:Int) == 1&&(HT.cR items.size items.size hi-HT.cR items.size 0 lo) == items.size)=true:=by rw[hw.1,hw.2];simp
 show wpAny _ _ (if (((HT.cR items.size 0 lo:Nat):Int) == 0&&(1:Int) == 1&&(HT.cR items.size items.size hi-HT.cR items.size 0 lo) == items.size)=true then _ else _) _ _ s;rw[WL VR];refine X0 ?_;unfold Builtin.Tuple.tupleIsExact;refine X0 (DZ ht.typeIs (Wt ?_));rw[WL (by decide)];refine X0 (Ek (Wt ⟨_,rfl,Wt h⟩))
def Wn(K:Frag):V->XY->XY->Hp->VK->Prop:=fun x lo hi H Q=>∃q xs,x=.ref q/\dW K H q xs/\(k0 xs lo hi=xs->Q (.ref q) H)/\∀p,H p=none->Q (.ref p) (upd H p (.tup (k0 xs lo hi)))
theorem Jp:L2.uB X (Wn X.K):=by
 intro WO s σ H x v vl vu lo hi sl Q I rx hs pl pu h;obtain⟨q,xs,rfl,hx,h1,h2⟩:=h;by_cases hw:HT.cR xs.length 0 lo=0/\HT.cR xs.length xs.length hi=xs.length;cases rx;obtain⟨aS,r,ht,hz⟩:=I.tuple hx;have V9:aS.toArray.size=xs.length:=by rw[Uh];exact r.length.symm
 refine⟨"tuple",_,PyProof.Rows.slot_tuple_getitem.lookup,ht.typeIs,kC ht hs pl pu (by rw[V9];exact hw) ⟨.ref q,H,I,rfl,h1 ?_⟩⟩;unfold k0;rw[hw.1,hw.2];simp;exact Ot WO s σ H _ v vl vu lo hi sl Q I rx hs pl pu ⟨q,xs,rfl,hx,hw,h2⟩
theorem qB(items:Array Value)(lo hi:XY):slicePick items lo hi none=((items.toList.drop (HT.cR items.size 0 lo)).take (HT.cR items.size items.size hi-HT.cR items.size 0 lo)).toArray:=by
 have e:sliceBounds lo hi none items.size=(((HT.cR items.size 0 lo:Nat):Int),((HT.cR items.size items.size hi:Nat):Int),1):=by
  simp only[sliceBounds,Option.getD_none];simp only[show (1:Int) > 0 by decide,if_true];cases lo with
  |none=>cases hi with|none=>rfl|some j=>simp only[HT.cR];congr 1;congr 1;split<;>lia
  |some i=>cases hi with|none=>simp only[HT.cR];congr 1;split<;>lia|some j=>simp only[HT.cR];congr 1;(split<;>lia);congr 1;split<;>lia
 unfold slicePick;rw[e];simp only[sliceRange_one,pick_run]
def N7(K:Frag):V->XY->XY->Hp->VK->Prop:=fun x lo hi H Q=>∃q xs,x=.ref q/\cn K H q xs/\∀p,H p=none->Q (.ref p) (upd H p (.lst (k0 xs lo hi)))
theorem Fq:L2.uB X (N7 X.K):=by
 intro WO s σ H x v vl vu lo hi sl Q I rx hs pl pu h;obtain⟨q,xs,rfl,hx,h1⟩:=h;cases rx;obtain⟨aS,r,ht,hz⟩:=I.list hx;have V9:aS.toArray.size=xs.length:=by rw[Uh];exact r.length.symm
 refine⟨"list",_,slot_list_getitem.lookup,ht.isList.typeIs,wpAny_getItem_list_slice ht.isList hs pl pu .none (by decide) ?_ (by rw[V9];exact hz)⟩;rw[qB,V9];exact⟨.ref _,_,I.MC (t':=s.toks) ((r.drop (HT.cR xs.length 0 lo)).take (HT.cR xs.length xs.length hi-HT.cR xs.length 0 lo)) (RC (jO xs lo hi) hz),rfl,h1 _ I.fresh⟩
theorem rG{lo hi:Option Expr}{fl fh:Option (M D)}{p2:Pos}(he:PV X EX e fe)(hl:yB X EX lo fl)(hh:yB X EX hi fh):PV X EX (.Subscript e (.Slice lo hi none p2) pos) (Gn uR fe fl fh):=(vT (Jp.or Fq) he hl hh).le fun σ H Q bH=>lf bH fun G F ρ g0 o=>bj g0 o (fun x r q=>q) fun F1 H1 bx d1 x s1 g1 r1 o1=>bj g1 o1 (fun x r q=>q.same s1) fun F2 H2 qk l l' s2 g2 r2 o2=>bj g2 o2 (fun x r q=>q.same (s1.trans s2)) fun F3 H3 Yl h h' s3 g3 r3 o3=>by cases r2;cases r3;obtain⟨d,e1,q⟩:=o3.opt;have Uu:=r1.same (s2.trans s3);cases d1 with|tup ds=>cases e1;obtain⟨_,_,rfl,hq,rq⟩:=Den.t Uu;refine .inl ⟨_,_,rfl,dW.same hq g3.sub,fun e2=>?_,fun p hp=>?_⟩;have:=oa rq l h;rw[e2] at this;exact q F3 H3 _ (s1.trans (s2.trans s3)) g3 (.tup hq this);rename_i vs;have sF:=a8 (o:=.tup (k0 vs l h)) (g3.sub.free hp);exact q _ _ _ (s1.trans (s2.trans (s3.trans sF))) (g3.laid hp) (.tup (dW.of aB) ((oa rq l h).same sF))|lst ds=>cases e1;obtain⟨_,_,rfl,hq,rq⟩:=Den.l Uu;refine .inr ⟨_,_,rfl,cn.same hq g3.sub,fun p hp=>?_⟩;rename_i vs;have sF:=a8 (o:=.lst (k0 vs l h)) (g3.sub.free hp);exact q _ _ _ (s1.trans (s2.trans (s3.trans sF))) (g3.laid hp) (.lst (cn.of aB) ((oa rq l h).same sF))|_=>cases e1
end
namespace RV
theorem By:Slot "reversed" "__init__" "object.__init__":=.of (owner:="object") (n:="__init__") (by rw[MW,Nx];kernel_rfl) (by decide +kernel) (by decide +kernel) (by decide +kernel) (by first|exact .inl (by decide +kernel)|exact .inr (by decide +kernel)) (by rw[wm];kernel_rfl)
theorem called:TypeCalled "reversed" "reversed.__new__" "object.__init__":=⟨by decide +kernel,PySem.F.create_reversed,⟨_,_,PySem.F.mro_reversed⟩,PySem.F.made_reversed,kZ,PySem.F.sub_reversed_self,By⟩
theorem slot_next:Slot "reversed" "__next__" "reversed.__next__":=.of (owner:="reversed") (n:="__next__") (by rw[MW,Nx];kernel_rfl) (by decide +kernel) (by decide +kernel) (by decide +kernel) (by first|exact .inl (by decide +kernel)|exact .inr (by decide +kernel)) (by rw[wm];kernel_rfl)
theorem entry_next:entryFor table "reversed.__next__" = some Builtin.«reversed.__next__» := entryFor_of_tree (by kernel_rfl)
theorem mT:Manifest.owners.lookup (String.ofList ['d','e','s','r','e','v','e','r'].reverse)=some Manifest.sig_reversed:=by kernel_rfl
theorem args_next(a:Value):argsOk "reversed.__next__" ⟨[a],[]⟩:=by unfold argsOk;rw[signature?_of (id:="reversed.__next__") (n:=['_','_','t','x','e','n','_','_']) (o:=['d','e','s','r','e','v','e','r']) (by kernel_rfl) mT];kernel_rfl
theorem rM:Slot "reversed" "__iter__" "reversed.__iter__":=.of (owner:="reversed") (n:="__iter__") (by rw[MW,Nx];kernel_rfl) (by decide +kernel) (by decide +kernel) (by decide +kernel) (by first|exact .inl (by decide +kernel)|exact .inr (by decide +kernel)) (by rw[wm];kernel_rfl)
theorem AD(a:Value):argsOk "reversed.__iter__" ⟨[a],[]⟩:=by unfold argsOk;rw[signature?_of (id:="reversed.__iter__") (n:=['_','_','r','e','t','i','_','_']) (o:=['d','e','s','r','e','v','e','r']) (by kernel_rfl) mT];kernel_rfl
theorem xl:entryFor table "reversed.__iter__" = some Builtin.«dict_keyiterator.__iter__»:=entryFor_alias (id':="dict_keyiterator.__iter__") (by kernel_rfl) (by first|rfl|decide +kernel|(unfold String.splitOn;simp +decide [String.splitOnAux])) (by decide +kernel) (by kernel_rfl)
theorem tj:typeLookup (.type "tuple") "__reversed__" = pure none:=by rw[MW,Nx];kernel_rfl
theorem qG:isSubtype (.type "tuple") (.type "dict")=pure false:=by rw[wm];kernel_rfl
section
variable{prog:Program}{w:World}{A:Around}{E:TF}{s:Shared}
def obj(t:Addr)(i:Int):Obj:={cls:=.type "reversed",data:=.fields #[.ref t,rawInt i]}
def Is(h:Heap)(a t:Addr)(i:Int):Prop:=∃o,h.get? a=some o/\o.cls=.type "reversed" /\ o.data=.fields #[.ref t,rawInt i]
theorem CU(ht:IsTup s.heap t items)(hz:items.size<=sizeLine)
  (h:∀tk,Q₁ (.ref s.heap.objs.size) {s with heap:=s.heap.push (obj t ((items.size:Int)-1)),toks:=tk}) :
  codeAny (model prog w) A (.call (.builtin "reversed.__new__") ⟨[.type "reversed",.ref t],[]⟩) (wants Q₁ E) s:=by
 refine codeAny_of_tree ?_;refine X0 (m:=checkBuiltinCall "reversed.__new__" ⟨[.type "reversed",.ref t],[]⟩) (HQ (PySem.F.newCall_reversed_1 _) (Wt ⟨Mt kZ _,DO PySem.F.entry_reversed_new ?_⟩));rw[SY kZ _];unfold Builtin.«reversed.__new__»;refine X0 (HQ (newClass_reversed _) ?_);refine X0 (HQ (a:=()) (by first|rfl|kernel_rfl) ?_);refine X0 (HQ (a:=()) (by first|rfl|kernel_rfl) ?_);try dsimp only
 refine X0 (NY ht.typeIs tj ?_);try dsimp only
 refine X0 (X0 (m:=isInstance (.ref t) (.type "dict")) (FL (b:=false) ht.typeIs qG ?_));refine X0 (m:=specialOf (.ref t) "__getitem__") (NY ht.typeIs PyProof.Rows.slot_tuple_getitem.lookup ?_);refine Wt ?_;refine X0 (m:=call (Value.builtin "len") [Value.ref t]) (len_tuple ht (by rw[Lq] at hz;lia) ?_);refine X0 (m:=asInt? (.int items.size _)) (Wt ?_);refine X0 (m:=newObj (.type "reversed") (.fields #[.ref t,rawInt ((items.size:Int)-1)])) (NB (Wt (h _)))
theorem make(ht:IsTup s.heap t items)(hz:items.size<=sizeLine)(h:∀tk,Q (.ref s.heap.objs.size) {s with heap:=s.heap.push (obj t ((items.size:Int)-1)),toks:=tk}):wpAny (model prog w) A (call (.type "reversed") [.ref t]) Q E s:=by refine callType_codes (Q₁:=fun o bA=>bA.TypeIs o "reversed" /\ Q o bA) called (PySem.F.typeCall_reversed_1 _) PySem.F.entry_object_init (CU ht hz fun tk=>⟨⟨_,Rv _ rfl,rfl⟩,h tk⟩) fun o bA h₁=>?_;exact⟨h₁.1,IC o _,object_init_meets called.init.lookup called.made (by decide) prog w A.in1 _ bA ⟨h₁.1,rfl,h₁.2⟩⟩
theorem Is.typeIs(x:Is s.heap a t i):s.TypeIs (.ref a) "reversed" := let ⟨o,ho,hc,_⟩:=x;⟨o,ho,hc⟩
theorem Is.at(x:Is h a t i)(e:∀o,h.get? a=some o->h'.get? a=some o):Is h' a t i:=let ⟨o,ho,r⟩:=x;⟨o,e _ ho,r⟩
theorem next_item{it t:Addr}{i:Nat}{items:Array Value}{x:Value}{Q:O8->Shared->Prop}(hit:Is s.heap it t (i:Int))(ht:IsTup s.heap t items)(hx:items[i]?=some x)(hz:items.size<=sizeLine)(hQ:∀h' tk,Is h' it t ((i:Int)-1)->Heap.SameBut it s.heap h'->Q (some x) {s with heap:=h',toks:=tk}):wpAny (model prog w) A (pyNext (.ref it)) Q E s:=by
 obtain⟨o,ho,hc,hd⟩:=id hit;unfold pyNext;refine X0 (Hy (Jt (name:=Str.ofString "__next__") hit.typeIs slot_next (AJ slot_next hit.typeIs entry_next ?_ (args_next _))));unfold Builtin.«reversed.__next__»;refine X0 (HQ (a:=(Value.ref it,[])) rfl ?_);refine X0 (Xr ho hd (x:=.ref t) rfl ?_);refine X0 (Xr ho hd (x:=rawInt (i:Int)) rfl ?_);show wpAny _ _ (if (i:Int)<0 then _ else _) _ _ s;rw[S8 Ug];refine X0 (m:=specialOf (.ref t) "__getitem__") (NY ht.typeIs PyProof.Rows.slot_tuple_getitem.lookup ?_);have hi:i<items.size:=(Array.getElem?_eq_some_iff.mp hx).1;have Ud:(items.size:Int)<=16777216:=by rw[Lq] at hz;lia
 refine X0 (m:=mkInt (i:Int)) (wpAny_mkInt ?_);refine X0 (m:=(getItem (Value.ref t) _).attempt) (Hy (getItem_tuple (items:=items) (j:=i) ht Ug Ug ?_ hx ?_));unfold seqIndex?;simp;lia;refine X0 (m:=field (Value.ref it) 1) (Xr ho hd (x:=rawInt (i:Int)) rfl ?_);refine X0 (m:=setField (Value.ref it) 1 (rawInt ((i:Int)-1))) (IZ ho hd O3 ?_);refine Wt ⟨x,rfl,Wt (hQ _ _ ?_ (Nv ..))⟩;exact⟨_,MP _ ho (Ol (D7 hd _)),(Obj.cls_mapFields ..).trans hc,by rw[D7 hd];simp⟩
theorem next_end(hh:A.handled=none)(hit:Is s.heap it t (-1))(hQ:∀h',Heap.ExtBut it s.heap h'->Q none {s with heap:=h'}):wpAny (model prog w) A (pyNext (.ref it)) Q E s:=by
 obtain⟨o,ho,hc,hd⟩:=id hit;unfold pyNext;refine X0 (Hy (Jt (name:=Str.ofString "__next__") hit.typeIs slot_next (AJ slot_next hit.typeIs entry_next ?_ (args_next _))));unfold Builtin.«reversed.__next__»;refine X0 (HQ (a:=(Value.ref it,[])) rfl ?_);refine X0 (Xr ho hd (x:=.ref t) rfl ?_);refine X0 (Xr ho hd (x:=rawInt (-1)) rfl ?_);show wpAny _ _ (if (-1:Int)<0 then _ else _) _ _ s;rw[WL (by decide)];refine X0 (Ek ?_);refine X0 (X0 (m:=setField (Value.ref it) 1 (rawInt (-1))) (IZ ho hd O3 ?_));have Q3:=MP (Obj.mapFields fun vs=>vs.set! 1 (rawInt (-1))) ho (Ol (D7 hd _));have Vq:(Obj.mapFields (fun vs=>vs.set! 1 (rawInt (-1))) o).data=.fields #[.ref t,rawInt (-1)]:=by rw[D7 hd];simp
 refine IZ Q3 Vq O3 ?_;refine X0 (m:=Builtin.SmallTypes.stopIteration) ?_;refine X0 (m:=newExc (.type "StopIteration") []) ?_;simp only[newExc,newTuple];refine X0 (NB ?_ (by size_fits));refine X0 (m:=firstArgMember _ _) (HQ (a:=Value.none) (by first|rfl|(simp only[firstArgMember];rfl)) ?_);refine NB ?_ (by size_fits);simp only[raiseNew];refine X0 (wpAny_handled ?_);first|rw[show A.in1.handled=none from hh]|rw[hh]
 refine X0 (Wt (wpAny_throw ?_));refine X0 (FL (T:="StopIteration") (b:=true) ⟨_,Rv _ rfl,rfl⟩ isSubtype_stop ?_);refine Wt (hQ _ fun b ob hb e=>?_);refine RN _ (RN _ ?_);exact(Yt _ _ (UH hb)).trans ((Yt _ _ (UH hb)).trans e)
theorem mJ(hit:Is s.heap it t i)(h:Q (.ref it) s):wpAny (model prog w) A (pyIter (.ref it)) Q E s:=by refine wpAny_pyIter_slot hit.typeIs rM (AJ rM hit.typeIs xl ?_ (AD _));exact Wt ⟨_,rfl,"reversed",_,hit.typeIs,slot_next.lookup,h⟩
end
end RV
def Tq(K:Frag)(t:Bool)(q:Addr)(n:Nat):It:=⟨fun i H=>∃xs x,mh K H t q xs/\xs.length=n/\i<n/\xs[n-1-i]?=some x,fun i H x H'=>H'=H/\∀xs,mh K H t q xs->xs[n-1-i]?=some x,fun i H=>i=n⟩
def ng(t:Bool)(it q:Addr)(i:Int)(h:Heap):Prop:=if t then RV.Is h it q i else h.IsRevIter it q i
theorem ng.at(x:ng t it q i h)(e:∀o,h.get? it=some o->h'.get? it=some o):ng t it q i h':=by cases t;exact Heap.IsRevIter.at x e;exact RV.Is.at x e
theorem ng.obj(x:ng t it q i h):∃o n vs,h.get? it=some o/\o.cls=.type n/\o.data=.fields vs/\["enumerate","zip","dict_itemiterator","dict_reverseitemiterator","odict_iterator","itertools.zip_longest","itertools.pairwise"].contains n=false:=by cases t;obtain⟨o,h1,h2,h3⟩:=x;exact⟨o,_,_,h1,h2,h3,by decide⟩;obtain⟨o,h1,h2,h3⟩:=x;exact⟨o,_,_,h1,h2,h3,by decide⟩
theorem wu{P:Program}{w:World}{K:Frag}{tg:Expr}(t:Bool)(q it:Addr)(n:Nat):Turn P w K tg (Tq K t q n) [it] it (fun i h=>i<=n/\ng t it q ((n:Int)-1-i) h) where
 mem:=O3
 obj:=fun i h st b hb=>by
  have e:b=it:=by simpa using hb
  subst e;obtain⟨o,_,_,e,_,d,_⟩:=st.2.obj;exact⟨o,e,fun v z=>by rw[d] at z;cases z⟩
 keep:=fun i h h' st k=>⟨st.1,st.2.at fun o e=>k it O3 o e⟩
 item:=by
  intro X hP hw hK hc i WO s σ H E I hf st hg;subst hP hw hK;obtain⟨xs,x,hq,hl,hi,hx⟩:=hg;obtain⟨f0,f1,f2,f3,f4,f5⟩:=hf it O3;have e1:(n:Int)-1-(i:Int)=((n-1-i:Nat):Int):=Ug;have e2:((n-1-i:Nat):Int)-1=(n:Int)-1-((i+1:Nat):Int):=Ug;have qC:=st.2;rw[e1] at qC;have fin:∀u h' tk,RelV x u->ng t it q (((n-1-i:Nat):Int)-1) h'->Heap.SameBut it s.heap h'->wpAny (model X.prog X.w) X.A (letOwnedTupleGo tg (.ref it) u) (fun _ s2=>∃x H',Inv X WO σ H' s2/\RelV x u/\(Tq X.K t q n).Pr i H x H'/\(i+1<=n/\ng t it q ((n:Int)-1-((i+1:Nat):Int)) s2.heap)/\∀b∈[it],H' b=none) E {s with heap:=h',toks:=tk}:=fun u h' tk ru nX sb=>by have I1:Inv X WO σ H {s with heap:=h',toks:=tk}:=I.turned (t':=tk) (fun b o hb e=>(sb.2 b hb).trans e) f0 f1 f3 f4 f5;rw[e2] at nX;obtain⟨o,nm,vs,e,c,d,nc⟩:=nX.obj;exact rh (s:={s with heap:=h',toks:=tk}) e c d nc ⟨x,H,I1,ru,⟨rfl,fun ys hy=>by rw[Inv.qb I hy hq];exact hx⟩,⟨hi,nX⟩,fun b hb=>(hf b hb).1⟩
  cases t with|false=>obtain⟨aS,rv,pl,hz⟩:=I.list (show cn X.K H q xs from hq);obtain⟨u,hu,ru⟩:=rv.get hx;exact wpAny_pyNext_rev_item qC pl.isList (x:=u) (by simpa using hu) fun h' nX sb=>⟨u,rfl,fin u h' s.toks ru nX sb⟩|true=>obtain⟨aS,rv,tp,hz⟩:=I.tuple (show dW X.K H q xs from hq);obtain⟨u,hu,ru⟩:=rv.get hx;exact RV.next_item qC tp (x:=u) (by simpa using hu) (by rw[Uh,<-rv.length];exact hz) fun h' tk nX sb=>⟨u,rfl,fin u h' tk ru nX sb⟩
 done:=by intro X hP hw hK hc i WO s σ H E I hf st hg;subst hP hw hK;obtain⟨f0,f1,f2,f3,f4,f5⟩:=hf it O3;have Pd:i=n:=hg;have e1:(n:Int)-1-(i:Int)=-1:=Ug;have qC:=st.2;rw[e1] at qC;cases t with|false=>exact wpAny_pyNext_rev_end (I.ok.hd hc) qC fun h' eb=>⟨rfl,I.turned (t':=s.toks) (fun b o hb e=>eb b o hb e) f0 f1 f3 f4 f5⟩|true=>exact RV.next_end (I.ok.hd hc) qC fun h' eb=>⟨rfl,I.turned (t':=s.toks) (fun b o hb e=>eb b o hb e) f0 f1 f3 f4 f5⟩
 self:=fun _ i _ _ _ st h=>by cases t with|false=>exact wpAny_pyIter_revIter st.2 h|true=>exact RV.mJ st.2 h
section
variable{X:Cx}{EX:XE}{L:Lc}{e a b tg:Expr}{fa fb fe:M D}{pos p:Pos}{x:Str}
def VV(K:Frag)(t:TA):TI:=fun σ H R=>t σ H fun vs H1=>∃b q xs,vs=[.ref q]/\mh K H1 b q xs/\R (Tq K b q xs.length) H1
theorem NS{t:TA}(hg:Gl X "reversed")(hm:X.mg "reversed" = none)(ha:PA X [a] t)(hs:autoParam (starEach [a] X.env=[(false,eval a X.env)]) AuP.a._autoParam):PI X tg (.Call (.Name "reversed" p) [a] [] pos) (VV X.K t):=by
 intro WO s σ H R I h;refine Call_ (iq I hg hm boot_reversed (JC (bN (ha pos WO s σ H _ I h) fun us s1 zz=>?_) (by rw[hs];rfl) (by rfl)));obtain⟨vs,H1,I1,r1,q1⟩:=zz;obtain⟨t,q,xs,e,sq,hR⟩:=q1;subst e;obtain⟨u,rfl,ru⟩:=vals1 r1;cases ru;have fp:∀b∈[s1.heap.objs.size],iY X WO H1 b:=fun b hb=>by
  have e:b=s1.heap.objs.size:=by simpa using hb
  subst e;exact I1.nP (Gm _) (I1.cm.fresh (Gm _))
 cases t with
 |false=>
  obtain⟨aS,rv,pl,hz⟩:=I1.list (show cn X.K H1 q xs from sq);have hl:aS.toArray.size=xs.length:=by rw[Uh];exact rv.length.symm
  refine call_reversed_list pl.isList ?_;rw[hl];have ri:Heap.IsRevIter (s1.heap.push (revObj q ((xs.length:Int)-1))) s1.heap.objs.size q ((xs.length:Int)-1):=⟨_,Rv _ rfl,rfl,rfl⟩;refine wpAny_pyIter_revIter (s:={s1 with heap:=_}) ri ?_;exact⟨_,[s1.heap.objs.size],_,_,H1,rfl,I1.kept (t':=s1.toks) fun b o e=>RN _ e,wu false q _ xs.length,⟨Xq _,by show Heap.IsRevIter _ _ _ _;simpa using ri⟩,fp,hR⟩
 |true=>
  obtain⟨aS,rv,tp,hz⟩:=I1.tuple (show dW X.K H1 q xs from sq);have hl:aS.toArray.size=xs.length:=by rw[Uh];exact rv.length.symm
  refine RV.make tp (by rw[hl];exact hz) fun tk=>?_;rw[hl];have ri:RV.Is (s1.heap.push (RV.obj q ((xs.length:Int)-1))) s1.heap.objs.size q ((xs.length:Int)-1):=⟨_,Rv _ rfl,rfl,rfl⟩;refine RV.mJ (s:={s1 with heap:=_,toks:=tk}) ri ?_;exact⟨_,[s1.heap.objs.size],_,_,H1,rfl,I1.kept (t':=tk) fun b o e=>RN _ e,wu true q _ xs.length,⟨Xq _,by show RV.Is _ _ _ _;simpa using ri⟩,fp,hR⟩
theorem Hi(h:mh L.K F t q vs)(r:aN L.K L.mg F vs ds):FW L G F (Tq L.K t q vs.length) ds.reverse:=fun σ i F' H' ρ s g=>by
 have sq:mh L.K H' t q vs:=(h.same s).same g.sub;have hl:=r.length;refine⟨fun hi=>?_,fun hi=>?_,fun x FV ⟨e,y⟩=>?_⟩;simp at hi;exact⟨vs,vs[vs.length-1-i]' Ux,sq,rfl,Ux,by simp[show vs.length-1-i<vs.length by omega]⟩;simp at hi;show i=vs.length;omega;subst e;refine⟨F',aE.refl _,g,fun d hd=>?_⟩;have hi:i<ds.length:=by simpa using (List.getElem?_eq_some_iff.mp hd).1
 rw[Iz hi,<-hl] at hd;obtain⟨v,h1,h2⟩:=(r.same s).get hd;rw[y vs sq] at h1;cases h1;exact h2
theorem ON(hg:Gl X "reversed")(hm:X.mg "reversed" = none)(ha:PV X EX a fa)(hs:autoParam (starEach [a] X.env=[(false,eval a X.env)]) AuP.a._autoParam):uz X EX tg (.Call (.Name "reversed" p) [a] [] pos) (HJ fa):=(NS hg hm (bC ha cY hs) hs).le fun σ H Q bH=>dX bH fun G F F1 H1 bx d1 y s1 g1 r1 o1=>by obtain⟨ds,e,q⟩:=o1.opt;cases e1:c5 d1 with|none=>rw[e1] at e;cases e|some es=>rw[e1] at e;cases e;obtain⟨t,q1,vs,rfl,z,r⟩:=Den.seq r1 e1;exact⟨t,q1,vs,rfl,z.same g1.sub,q F1 H1 _ s1 g1 (Hi z r)⟩
end
namespace GA
def O2(T:String):Prop:=T="list_reverseiterator" \/ T="reversed"
section
variable{prog:Program}{w:World}{A:Around}{E:TF}{s:Shared}{I:Addr}{fp wr:RE}{n:Nat}{P:Nat->Value->Prop}{St:Nat->Heap->Prop}{T:String}
def Hint(prog:Program)(w:World)(A:Around)(I:Addr)(St:Nat->Heap->Prop):Prop:=∀(s:Shared)(Q:Bool->Shared->Prop)(E:TF),St 0 s.heap->(∀b tk,s.toks<=tk->Q b {s with toks:=tk})->wpAny (model prog w) A (Builtin.List.listLengthHint (.ref I)) Q E s
theorem extend(h2:O2 T)(W:WalksS prog w A.in1 I fp wr (fun a b=>b=a) n P (fun i s=>St i s.heap))(hT:∀(i:Nat)(s:Shared),St i s.heap->s.TypeIs (.ref I) T)(hh:Hint prog w A.in1 I St)(S:Addr)(res:Value)(c₀:Nat)(hU:St 0 s.heap)(Pa:S∉fp)(hI:I∈fp)
  (hS:s.heap.get? S=some {cls:=.type "list",data:=.seq #[] c₀}) (hn:n<=sizeLine)
  (hR:∀s' Az c',Moved (S::wr) (fun a b=>b=a) s s'->s'.heap.get? S=some {cls:=.type "list",dict:=none,data:=.seq Az c',slots:=#[]}->ItemsOf P Az n->R (.ok (.ret res)) s') :
  wpAny (model prog w) A.in1 (Builtin.List.listExtendWith (.ref S) (.ref I) res) (fun fin s'=>match fin with|.done f=>R (.ok f) s'|.again c'=>c'.quiet=true/\codeAny (model prog w) A c' R s') (fun e s'=>R (.error e) s') s:=by
 have YI:S≠I:=fun e=>Pa (e ▸ hI);have h1:Builtin.List.listSameRef (.ref S) (.ref I)=false:=by simp[Builtin.List.listSameRef,YI]
 unfold Builtin.List.listExtendWith;refine X0 (DZ (hT 0 _ hU) ?_);rw[S8 (by rw[h1];rcases h2 with rfl|rfl<;>decide)];refine X0 (W.self 0 _ _ _ hU (X0 (Eo (hh s _ _ hU fun b tk Ua=>?_))));have qC:=W.frame 0 s s.heap tk hU Ua fun b _ o e=>e;cases b with|false=>rw[S8 (by rcases h2 with rfl|rfl<;>decide)];refine Wt ⟨Mt PySem.F.plain_extend_loop _,codeAny_extend_loopS W hn _ Pa _ n 0 _ _ _ rfl (Xq _) qC hS (ItemsOf.nil P) fun s' Az c' hm Vk k7=>hR s' Az c' ?_ Vk k7⟩;have mv:Moved (S::wr) (fun a b=>b=a) s {s with toks:=tk}:=⟨fun b o hb e=>e,rfl,rfl,rfl,Ua⟩;exact Moved.trans W.gtrans mv hm|true=>rw[WL (by rcases h2 with rfl|rfl<;>decide)];refine X0 (Ek (X0 (m:=updateSeq S (·.push .none) >>= fun _=>updateSeq S (·.pop)) (X0 (wpAny_updateSeq hS rfl ?_))));have q1:=MP (Obj.mapSeq (·.push Value.none)) hS rfl;refine wpAny_updateSeq (hz:=by seq_fits) q1 rfl ?_;have q2:=MP (Obj.mapSeq (·.pop)) q1 rfl;have Yc:∀b o,b≠S->s.heap.get? b=some o->((s.heap.update S (Obj.mapSeq (·.push Value.none))).update S (Obj.mapSeq (·.pop))).get? b=some o:=fun b o hb e=>(Yt _ _ (UH hb)).trans ((Yt _ _ (UH hb)).trans e);refine Wt ⟨Mt PySem.F.plain_extend_loop _,codeAny_extend_loopS W hn _ Pa _ n 0 _ _ _ rfl (Xq _) (W.frame 0 s _ tk hU Ua fun b hb o e=>Yc b o (fun z=>Pa (z ▸ hb)) e) q2 (ItemsOf.nil P) fun s' Az c' hm Vk k7=>hR s' Az c' ?_ Vk k7⟩;have mv:Moved (S::wr) (fun a b=>b=a) s {s with heap:=(s.heap.update S (Obj.mapSeq (·.push Value.none))).update S (Obj.mapSeq (·.pop)),toks:=tk}:=⟨fun b o hb e=>Yc b o (fun z=>hb (by rw[z];exact Rn)) e,rfl,rfl,rfl,Ua⟩;exact Moved.trans W.gtrans mv hm
theorem gathered(h2:O2 T)(W:WalksS prog w A.in1 I fp wr (fun a b=>b=a) n P (fun i s=>St i s.heap))(hT:∀(i:Nat)(s:Shared),St i s.heap->s.TypeIs (.ref I) T)(hh:Hint prog w A.in1 I St)(hU:St 0 s.heap)(zD:∀b∈fp,b<s.heap.objs.size)(hI:I∈fp)(hn:n<=sizeLine)(hQ:∀s' acc,Moved wr (fun a b=>b=a) s s'->ItemsOf P acc n->Q acc.toList s'):wpAny (model prog w) A (collect (.ref I)) Q E s:=by have Pa:s.heap.objs.size∉fp:=fun hm=>xO _ (zD _ hm);refine X0 (m:=runValue (.builtin "proto.collect" ⟨[.ref I],[]⟩)) (wpAny_runValue (DO PySem.F.entry_proto_collect ?_));rw[SY PySem.F.plain_proto_collect _];refine X0 (m:=newList []) (NB (Wt ⟨Mt PySem.F.plain_list_iadd _,DO PySem.F.entry_list_iadd ?_⟩));rw[SY PySem.F.plain_list_iadd _];have X:=extend (R:=fun r s'=>r=.ok (.ret (.ref s.heap.objs.size))/\∃acc c,Moved (s.heap.objs.size::wr) (fun a b=>b=a) {s with heap:=s.heap.push {cls:=.type "list",data:=.seq ([]:We).toArray}} s'/\s'.heap.get? s.heap.objs.size=some {cls:=.type "list",dict:=none,data:=.seq acc c,slots:=#[]}/\ItemsOf P acc n) (s:={s with heap:=s.heap.push {cls:=.type "list",data:=.seq ([]:We).toArray}}) h2 W hT hh s.heap.objs.size (.ref s.heap.objs.size) 0 (W.frame 0 s _ s.toks hU (Gm _) fun b _ o e=>RN _ e) Pa hI (Rv _ rfl) hn fun s' acc c hm hS k7=>⟨rfl,acc,c,hm,hS,k7⟩;have fin:∀s',(∃acc c,Moved (s.heap.objs.size::wr) (fun a b=>b=a) {s with heap:=s.heap.push {cls:=.type "list",data:=.seq ([]:We).toArray}} s'/\s'.heap.get? s.heap.objs.size=some {cls:=.type "list",dict:=none,data:=.seq acc c,slots:=#[]}/\ItemsOf P acc n)->wpAny (model prog w) A (do let o <-load s.heap.objs.size;match o.data with|.seq xs _=>pure xs.toList|_=>unsupported "internal:collect") Q E s':=fun s' ⟨acc,c,hm,hS,k7⟩=>X0 (wpAny_load hS (Wt (hQ s' acc (Moved.drop_new (o:={cls:=.type "list",data:=.seq ([]:We).toArray}) (tk:=s.toks) hm (Gm _)) k7)));refine LD X (fun f s' h=>?_) fun e s' h=>absurd h.1 O3;cases f with|done f=>obtain⟨e,h⟩:=h;cases e;exact fin s' h|again c'=>exact⟨h.1,xo h.2 fun r Gp ⟨e,h⟩=>by subst e;exact fin Gp h⟩
theorem Q1U(h2:O2 T)(W:WalksS prog w A.in1.in1 I fp wr (fun a b=>b=a) n P (fun i s=>St i s.heap))(hT:∀(i:Nat)(s:Shared),St i s.heap->s.TypeIs (.ref I) T)(hh:Hint prog w A.in1.in1 I St)(hU:St 0 s.heap)(zD:∀b∈fp,b<s.heap.objs.size)(hI:I∈fp)(hn:n<=sizeLine)
  (h:∀s' acc,Moved wr (fun a b=>b=a) s s'->ItemsOf P acc n->Q₁ (.ref s'.heap.objs.size) {s' with heap:=s'.heap.push {cls:=.type "tuple",data:=.seq acc}}) :
  codeAny (model prog w) A (.call (.builtin "tuple.__new__") ⟨[.type "tuple",.ref I],[]⟩) (wants Q₁ E) s:=by
 refine codeAny_of_tree (X0 (m:=checkBuiltinCall "tuple.__new__" ⟨[.type "tuple",.ref I],[]⟩) (HQ (PySem.F.newCall_tuple_1 _) (Wt ⟨Mt PySem.F.plain_tuple_new _,DO PySem.F.entry_tuple_new ?_⟩)));rw[SY PySem.F.plain_tuple_new _];have k1:=sub_tuple_self;have k2:=init_tuple_lookup;have k3:=madeHere_tuple;have k4:=hT 0 s hU;rcases h2 with rfl|rfl;have z2:O2 "list_reverseiterator" := .inl rfl
 wp_walk using DZ k4,gathered z2 W hT hh hU zD hI hn
 intro s' acc hm k7;refine X0 (m:=Builtin.Tuple.tupleExact acc.toList.toArray) (NB (Wt ?_) (by show acc.toList.toArray.size<=sizeLine;simp only[Array.toArray_toList];rw[k7.1];exact hn));rw[show acc.toList.toArray=acc by simp];exact h s' acc hm k7;have z2:O2 "reversed" := .inr rfl
 wp_walk using DZ k4,gathered z2 W hT hh hU zD hI hn
 intro s' acc hm k7;refine X0 (m:=Builtin.Tuple.tupleExact acc.toList.toArray) (NB (Wt ?_) (by show acc.toList.toArray.size<=sizeLine;simp only[Array.toArray_toList];rw[k7.1];exact hn));rw[show acc.toList.toArray=acc by simp];exact h s' acc hm k7
theorem oO(h2:O2 T)(W:WalksS prog w A.in1.in1.in1 I fp wr (fun a b=>b=a) n P (fun i s=>St i s.heap))(hT:∀(i:Nat)(s:Shared),St i s.heap->s.TypeIs (.ref I) T)(hh:Hint prog w A.in1.in1.in1 I St)(hU:St 0 s.heap)(zD:∀b∈fp,b<s.heap.objs.size)(hI:I∈fp)(hn:n<=sizeLine)(hQ:∀s' acc,Moved wr (fun a b=>b=a) s s'->ItemsOf P acc n->Q (.ref s'.heap.objs.size) {s' with heap:=s'.heap.push {cls:=.type "tuple",data:=.seq acc}}):wpAny (model prog w) A (call (.type "tuple") [.ref I]) Q E s:=by refine callType_codes (Q₁:=fun obj bA=>bA.TypeIs obj "tuple" /\ Q obj bA) PySem.F.called_tuple (PySem.F.typeCall_tuple_1 _) PySem.F.entry_object_init (Q1U h2 W hT hh hU zD hI hn fun s' acc hm k7=>⟨⟨_,Rv _ rfl,rfl⟩,hQ s' acc hm k7⟩) fun obj bA h₁=>?_;exact⟨h₁.1,IC obj _,object_init_meets PySem.F.called_tuple.init.lookup PySem.F.called_tuple.made (by decide) prog w A.in1 _ bA ⟨h₁.1,rfl,h₁.2⟩⟩
end
theorem HY:typeLookup (.type "list_reverseiterator") "__len__" = pure none:=by rw[MW,Nx];kernel_rfl
theorem L9:typeLookup (.type "list_reverseiterator") "__length_hint__" = pure (some (.builtin "list_reverseiterator.__length_hint__")):=by rw[MW,Nx];kernel_rfl
theorem HZ:typeLookup (.type "reversed") "__len__" = pure none:=by rw[MW,Nx];kernel_rfl
theorem DD:typeLookup (.type "reversed") "__length_hint__" = pure (some (.builtin "reversed.__length_hint__")):=by rw[MW,Nx];kernel_rfl
theorem rL:Slot "reversed" "__length_hint__" "reversed.__length_hint__":=.of (owner:="reversed") (n:="__length_hint__") DD (by decide +kernel) (by decide +kernel) (by decide +kernel) (by first|exact .inl (by decide +kernel)|exact .inr (by decide +kernel)) (by rw[wm];kernel_rfl)
theorem xk:entryFor table "reversed.__length_hint__" = some Builtin.«reversed.__length_hint__» := entryFor_of_tree (by kernel_rfl)
theorem AB(a:Value):argsOk "reversed.__length_hint__" ⟨[a],[]⟩:=by unfold argsOk;rw[signature?_of (id:="reversed.__length_hint__") (n:=['_','_','t','n','i','h','_','h','t','g','n','e','l','_','_']) (o:=['d','e','s','r','e','v','e','r']) (by kernel_rfl) RV.mT];kernel_rfl
section
variable{prog:Program}{w:World}{A:Around}
def W8(it q:Addr)(items:Array Value):Nat->Heap->Prop:=fun i h=>i<=items.size/\h.IsRevIter it q ((items.size:Int)-1-(i:Int))/\h.IsList q items
def UY(it q:Addr)(items:Array Value):Nat->Heap->Prop:=fun i h=>i<=items.size/\RV.Is h it q ((items.size:Int)-1-(i:Int))/\IsTup h q items
theorem QT:Hint prog w A it (W8 it q items):=fun s Q E st h=>by
 have hT:s.TypeIs (.ref it) "list_reverseiterator" := st.2.1.typeIs;unfold Builtin.List.listLengthHint;refine X0 (NY hT HY ?_);refine X0 (m:=specialOf (.ref it) "__length_hint__") (NY hT L9 ?_);generalize QS:("list_reverseiterator.__length_hint__" : String)=VY
 wp_delta
 rw[show splitId VY=some ("list_reverseiterator","__length_hint__") from by subst QS;decide +kernel];subst QS;refine X0 (FL (b:=true) hT (by rw[wm];kernel_rfl) (Wt (h _ s.toks (Gm _))))
theorem QU(hz:items.size<=sizeLine):Hint prog w A it (UY it q items):=fun s Q E st h=>by
 have hT:s.TypeIs (.ref it) "reversed" := st.2.1.typeIs;unfold Builtin.List.listLengthHint;refine X0 (NY hT HZ ?_);refine X0 (m:=specialOf (.ref it) "__length_hint__") (NY hT DD ?_);generalize QS:("reversed.__length_hint__" : String)=VY
 wp_delta
 rw[show splitId VY=some ("reversed","__length_hint__") from by subst QS;decide +kernel];subst QS;refine X0 (FL (b:=true) hT (by rw[wm];kernel_rfl) ?_);obtain⟨_,⟨o,ho,hc,hd⟩,ht⟩:=id st;have Ud:(items.size:Int)<=16777216:=by rw[Lq] at hz;lia
 rw[S8 (show ¬((!true)=true) by decide)];dsimp only[];rw[S8 (by decide)];refine X0 (Ek (X0 (HQ (rL.bind _) ?_)));refine X0 (m:=(call (.builtin "reversed.__length_hint__") [.ref it]).attempt) (Hy (AJ rL hT xk ?_ (AB _)));unfold Builtin.«reversed.__length_hint__»;refine X0 (HQ (a:=Value.ref it) (by first|rfl|kernel_rfl) ?_);refine X0 (Xr ho hd (x:=.ref q) rfl ?_);rw[S8 (by intro z;cases z)];dsimp only[];refine X0 (m:=call (Value.builtin "len") [Value.ref q]) (len_tuple ht Ug ?_);refine X0 (m:=asInt? (.int items.size _)) (Wt ?_);refine X0 (m:=field (.ref it) 1) (Xr (s:={s with toks:=s.toks+1+1}) ho hd (x:=rawInt ((items.size:Int)-1-((0:Nat):Int))) rfl ?_);have e0:(items.size:Int)-1-((0:Nat):Int)+1=items.size:=Ug;show wpAny _ _ (if (items.size:Int)<(items.size:Int)-1-((0:Nat):Int)+1 then _ else retInt ((items.size:Int)-1-((0:Nat):Int)+1)) _ _ _;rw[S8 Ug,e0];have f1:Builtin.List.listFitsIndex (items.size:Int)=true:=by
  unfold Builtin.List.listFitsIndex;simp only[Bool.and_eq_true,decide_eq_true_eq]
  lia
 have f2:Builtin.List.listTooLong ((items.size:Int).toNat)=false:=by unfold Builtin.List.listTooLong;rw[ZJ];simp only[decide_eq_false_iff_not,gt_iff_lt,Nat.not_lt];exact hz
 have f3:¬(items.size:Int)<0:=Ug;generalize (items.size:Int)=k at f1 f2 f3 ⊢;refine X0 (m:=mkInt k) (wpAny_mkInt (Wt ⟨_,rfl,?_⟩));dsimp only[];refine X0 (HQ (a:=some k) rfl ?_);dsimp only[];rw[S8 (by rw[f1];decide),S8 f3,S8 (by rw[f2];decide)];exact Wt (h _ _ (by show s.toks<=s.toks+1+1+1;lia))
theorem Tf(hh:A.handled=none)(it q:Addr)(Gj:q≠it)(items:Array Value)(hz:items.size<=sizeLine):Walks prog w A it [it,q] [it] items.size (fun i v=>items[items.size-1-i]?=some v) (UY it q items) where
 sub:=fun b hb=>by simp at hb;simp[hb]
 frame:=fun _ _ _ x hk=>⟨x.1,x.2.1.at fun o e=>hk it O3 o e,by obtain⟨o,e,r⟩:=x.2.2;exact⟨o,hk q O3 o e,r⟩⟩
 item:=fun i s Q E hi x hQ=>by have e:(items.size:Int)-1-(i:Int)=((items.size-1-i:Nat):Int):=Ug;have e2:((items.size-1-i:Nat):Int)-1=(items.size:Int)-1-((i+1:Nat):Int):=Ug;have hit:=x.2.1;rw[e] at hit;have hx:items[items.size-1-i]?=some (items[items.size-1-i]' Ug):=Array.getElem?_eq_getElem Ug;refine RV.next_item hit x.2.2 hx hz fun h' tk G9 sb=>?_;rw[e2] at G9;refine hQ _ h' tk hx ⟨hi,G9,?_⟩ fun b o hb eo=>(sb.2 b fun z=>hb (by simp[z])).trans eo;obtain⟨o,eo,r⟩:=x.2.2;exact⟨o,(sb.2 q Gj).trans eo,r⟩
 done:=fun s Q E x hQ=>by have e:(items.size:Int)-1-(items.size:Int)=-1:=Ug;have hit:=x.2.1;rw[e] at hit;exact RV.next_end hh hit fun h' he=>hQ h' s.toks fun b o hb eo=>he b o (fun z=>hb (by simp[z])) eo
 self:=fun _ _ _ _ x hQ=>RV.mJ x.2.1 hQ
end
end GA
section
variable{X:Cx}{EX:XE}{L:Lc}{e a b tg:Expr}{fa fb fe:M D}{pos p UA p':Pos}
theorem AZ{items acc:Array Value}(h:ItemsOf (fun i v=>items[items.size-1-i]?=some v) acc items.size):acc=items.toList.reverse.toArray:=by
 obtain⟨h1,h2⟩:=h;apply Array.ext';refine Hw fun i=>?_;by_cases hi:i<acc.size;have e:=h2 i acc[i] (Array.getElem?_eq_getElem hi);have l:acc.toList[i]?=some acc[i]:=by simp[hi]
 rw[l];simp only[List.toList_toArray];rw[Iz (by simp;lia),<-e];simp;have Pe:¬i<items.size:=Ug;rw[Nd (by simp;lia),Nd (by simp;lia)]
theorem Bd{WO:Ul}{σ:St}{H:Hp}{s s':Shared}{it:Addr}(I:Inv X WO σ H s)(hf:iY X WO H it)(m:Moved [it] (fun a b=>b=a) s s'):Inv X WO σ H s':=by
 obtain⟨hp,g,d,tk,os⟩:=s';obtain⟨m1,m2,m3,m4,m5⟩:=m;simp only at m1 m2 m3 m4 m5;subst m2 m3 m4;have YT:∀b∈[it],iY X WO H b:=fun b hb=>by
  have e:b=it:=by simpa using hb
  subst e;exact hf
 exact Inv.uc (h':=hp) (tk:=tk) (fp:=[it]) I YT m1
def KS(K:Frag):Pk->Hp->VK->Prop:=fun xs H Q=>∃t q ys,xs=[.ref q]/\mh K H t q ys/\∀p,H p=none->Q (.ref p) (upd H p (.tup ys.reverse))
theorem Q2G{t:TA}(hg:Gl X "reversed")(hm:X.mg "reversed" = none)(L8:Gl X "tuple")(Q0:X.mg "tuple" = none)(hc:X.calm=true)(ha:PA X [a] t)(hs:autoParam (starEach [a] X.env=[(false,eval a X.env)]) AuP.a._autoParam)(nQ:autoParam (starEach [.Call (.Name "reversed" p) [a] [] pos] X.env=[(false,eval (.Call (.Name "reversed" p) [a] [] pos) X.env)]) AuP.a._autoParam):PE X (.Call (.Name "tuple" p') [.Call (.Name "reversed" p) [a] [] pos] [] UA) (WG (KS X.K) t):=by
 intro WO s σ H Q I h;refine Ju (iq I L8 Q0 boot_tuple (JC ?_ nQ rfl));rw[nQ];refine Calls.spliced_cons (Call_ (iq I hg hm boot_reversed (JC (bN (ha pos WO s σ H _ I h) fun us s1 zz=>?_) hs rfl)));obtain⟨vs,H1,I1,r1,q1⟩:=zz;obtain⟨t,q,xs,e,sq,hR⟩:=q1;subst e;obtain⟨u,rfl,ru⟩:=vals1 r1;cases ru;have fp:iY X WO H1 s1.heap.objs.size:=I1.nP (Gm _) (I1.cm.fresh (Gm _));have fin:∀(o:Obj)(tk:Nat)(aS:We)(s':Shared)(acc:Array Value),Vals xs aS->xs.length<=sizeLine->Moved [s1.heap.objs.size] (fun a b=>b=a) {s1 with heap:=s1.heap.push o,toks:=tk} s'->ItemsOf (fun i v=>aS.toArray[aS.toArray.size-1-i]?=some v) acc aS.toArray.size->EP X WO σ Q (.ref s'.heap.objs.size) {s' with heap:=s'.heap.push {cls:=.type "tuple",data:=.seq acc}}:=fun o tk aS s' acc rv hz m hi=>by have I2:Inv X WO σ H1 {s1 with heap:=s1.heap.push o,toks:=tk}:=I1.kept (t':=tk) fun b o e=>RN _ e;have I3:=Bd I2 fp m;rw[AZ hi];refine⟨.ref s'.heap.objs.size,_,I3.laid (t':=s'.toks) (o:=.tup xs.reverse) (fun b ob q=>RN _ q) (Gm _) ?_,rfl,hR _ (I3.cm.fresh (Gm _))⟩;exact⟨by rw[List.length_reverse];exact hz,_,Vals.reverse rv,nM.new _ _⟩
 cases t with
 |false=>
  obtain⟨aS,rv,pl,hz⟩:=I1.list (show cn X.K H1 q xs from sq);have hsz:aS.toArray.size<=sizeLine:=by rw[Uh,<-rv.length];exact hz
  refine call_reversed_list pl.isList (Nb ?_);have lt:q<s1.heap.objs.size:=by obtain⟨o,e,_⟩:=pl.isList;exact Hh e
  have ri:Heap.IsRevIter (s1.heap.push (revObj q ((aS.toArray.size:Int)-1))) s1.heap.objs.size q ((aS.toArray.size:Int)-1-((0:Nat):Int)):=⟨_,Rv _ rfl,rfl,by simp[revObj]⟩;have W:=(Walks.listRev (prog:=X.prog) (w:=X.w) (A:=X.A.in1.in1.in1) (I1.ok.hd hc) s1.heap.objs.size q (Wi lt) aS.toArray).toS;refine GA.oO (T:="list_reverseiterator") (St:=GA.W8 s1.heap.objs.size q aS.toArray) (s:={s1 with heap:=s1.heap.push (revObj q ((aS.toArray.size:Int)-1))}) (.inl rfl) W (fun i s st=>st.2.1.typeIs) GA.QT ⟨Xq _,ri,?_⟩ (fun b hb=>?_) O3 hsz fun s' acc m hi=>fin _ s1.toks aS s' acc rv hz m hi;exact pl.isList.at fun o e=>RN _ e;simp only[List.mem_cons,List.not_mem_nil,or_false] at hb;rcases hb with rfl|rfl;exact Hh (Rv _ rfl);exact EN lt (Hh (Rv _ rfl))
 |true=>
  obtain⟨aS,rv,tp,hz⟩:=I1.tuple (show dW X.K H1 q xs from sq);have hsz:aS.toArray.size<=sizeLine:=by rw[Uh,<-rv.length];exact hz
  refine RV.make tp hsz fun tk=>Nb ?_;have lt:q<s1.heap.objs.size:=by obtain⟨o,e,_⟩:=tp;exact Hh e
  have ri:RV.Is (s1.heap.push (RV.obj q ((aS.toArray.size:Int)-1))) s1.heap.objs.size q ((aS.toArray.size:Int)-1-((0:Nat):Int)):=⟨_,Rv _ rfl,rfl,by simp[RV.obj]⟩;have W:=(GA.Tf (prog:=X.prog) (w:=X.w) (A:=X.A.in1.in1.in1) (I1.ok.hd hc) s1.heap.objs.size q (Wi lt) aS.toArray hsz).toS;refine GA.oO (T:="reversed") (St:=GA.UY s1.heap.objs.size q aS.toArray) (s:={s1 with heap:=s1.heap.push (RV.obj q ((aS.toArray.size:Int)-1)),toks:=tk}) (.inr rfl) W (fun i s st=>st.2.1.typeIs) (GA.QU hsz) ⟨Xq _,ri,?_⟩ (fun b hb=>?_) O3 hsz fun s' acc m hi=>fin _ tk aS s' acc rv hz m hi;obtain⟨o,e,r⟩:=tp;exact⟨o,RN _ e,r⟩;simp only[List.mem_cons,List.not_mem_nil,or_false] at hb;rcases hb with rfl|rfl;exact Hh (Rv _ rfl);exact EN lt (Hh (Rv _ rfl))
theorem Q29:K9 L (KS L.K) Br:=fun G F H σ ρ x dx d Q g0 rx e k=>by unfold Br at e;cases e1:c5 dx with|none=>rw[e1] at e;cases e|some ds=>rw[e1] at e;cases e;obtain⟨t,q,vs,rfl,r,z⟩:=RR.qz rx g0 e1;refine⟨t,q,vs,rfl,z,fun p hp=>?_⟩;have sF:=a8 (o:=.tup vs.reverse) (g0.sub.free hp);exact k _ _ _ sF (g0.laid hp) (.tup (dW.of aB) ((aN.reverse r).same sF))
theorem IS(hg:Gl X "reversed")(hm:X.mg "reversed" = none)(L8:Gl X "tuple")(Q0:X.mg "tuple" = none)(ha:PR X EX a fa)(hc:autoParam (X.calm=true) AuP.a._autoParam)(hs:autoParam (starEach [a] X.env=[(false,eval a X.env)]) AuP.a._autoParam)(nQ:autoParam (starEach [.Call (.Name "reversed" p) [a] [] pos] X.env=[(false,eval (.Call (.Name "reversed" p) [a] [] pos) X.env)]) AuP.a._autoParam):PV X EX (.Call (.Name "tuple" p') [.Call (.Name "reversed" p) [a] [] pos] [] UA) (m1 Br fa):=
 (Q2G hg hm L8 Q0 hc (pV ha hs) hs nQ).le fun σ H Q bH=>dX bH fun G F F1 H1 bx d1 x s1 g1 r1 o1=>by obtain⟨d,e,q⟩:=o1.opt;exact Q29 G F1 H1 σ bx x d1 d Q g1 r1 e (gc.same s1 q)
end
section
variable{X:Cx}{EX:XE}{L:Lc}{a:Expr}{fa:M D}{p pos p' UA:Pos}
def IU(K:Frag)(al:Bool):Pk->Hp->VK->Prop:=fun xs H Q=>∃(q:Addr)(bs:X4),xs=[.ref q]/\cn K H q (bs.map V.bl)/\Q (.bl (if al then bs.all id else bs.any id)) H
theorem qN:∀{bs:X4}{us:We},Vals (bs.map V.bl) us->us=bs.map Value.bool|[],_,h=>by cases h;rfl|b::bs,_,h=>by cases h with|cons h1 h2=>rw[qN h2,Pj];cases (show _=Value.bool b from h1);rfl
theorem range_all(bs:X4):(List.range bs.length).all (fun i=>bs.getD i false)=bs.all id/\(List.range bs.length).any (fun i=>bs.getD i false)=bs.any id:=by
 have e:(List.range bs.length).map (fun i=>bs.getD i false)=bs:=by apply Nj;simp;intro i h1 h2;simp[h2]
 refine⟨?_,?_⟩;rw[show bs.all id=((List.range bs.length).map fun i=>bs.getD i false).all id by rw[e],List.all_map];rfl;rw[show bs.any id=((List.range bs.length).map fun i=>bs.getD i false).any id by rw[e],List.any_map];rfl
theorem qO(hc:X.calm=true)(al:Bool):eI X (.builtin (if al then "all" else "any")) (IU X.K al):=by
 intro WO s σ H xs us Q I r h;obtain⟨q,bs,rfl,hq,k⟩:=h;obtain⟨u,rfl,ru⟩:=vals1 r;cases ru;obtain⟨aS,rv,pl,hz⟩:=I.list hq;have e:=qN rv;subst e;have lt:q<s.heap.objs.size:=by obtain⟨o,e,_⟩:=pl.isList;exact Hh e
 have hh:X.A.in1.handled=none:=I.ok.hd hc;have W:=Walks.list (prog:=X.prog) (w:=X.w) (A:=X.A.in1) hh s.heap.objs.size q (Wi lt) (bs.map Value.bool).toArray;have st:(fun i (h:Heap)=>h.IsListIter s.heap.objs.size q i/\h.IsList q (bs.map Value.bool).toArray) 0 (s.heap.push {cls:=.type "list_iterator",data:=.fields #[.ref q,.int 0 0]}):=⟨⟨_,Rv _ rfl,rfl,rfl⟩,pl.isList.push _⟩;have tr:TruthOf X.prog X.w X.A.in1 (fun i v=>(bs.map Value.bool).toArray[i]?=some v) (fun i=>bs.getD i false):=fun i v s Q E hP hQ=>by
  have O9:bs[i]?.map Value.bool=some v:=by simpa using hP
  cases e:bs[i]? with
  |none=>rw[e] at O9;cases O9|some b=>
   rw[e] at O9;cases O9;have:bs.getD i false=b:=by simp[e]
   dsimp only at hQ;rw[this] at hQ;exact G6 hQ
 have kp:∀(h':Heap),(∀b o,b∉[s.heap.objs.size]->(s.heap.push {cls:=.type "list_iterator",data:=.fields #[.ref q,.int 0 0]}).get? b=some o->h'.get? b=some o)->∀b o,s.heap.get? b=some o->h'.get? b=some o:=fun h' hk b o e=>by have lt:=Hh e;have n1:b≠s.heap.objs.size:=Wi lt;exact hk b o (by simp[n1]) (RN _ e)
 have hsz:(bs.map Value.bool).toArray.size=bs.length:=O3;cases al with|true=>refine call_all_walk (ND pl.isList ⟨_,_,_,_,_,_,_,rfl,W,st,tr,fun h' tk hk=>?_⟩);rw[hsz,(range_all bs).1];exact⟨.bl _,H,I.kept (kp h' hk),rfl,k⟩|false=>refine call_any_walk (ND pl.isList ⟨_,_,_,_,_,_,_,rfl,W,st,tr,fun h' tk hk=>?_⟩);rw[hsz,(range_all bs).2];exact⟨.bl _,H,I.kept (kp h' hk),rfl,k⟩
theorem CN{K:Frag}{mg:MG}{F:Hp}:∀{vs:Pk}{ds:OK}{bs:X4},aN K mg F vs ds->i5 ds=some bs->vs=bs.map V.bl
|_,_,_,.nil,e=>by cases e;rfl|_,_,_,.cons (d:=d) h t,e=>by
 cases d with
 |bl b=>obtain rfl:=Den.b h;simp only[i5] at e;cases q:i5 _ with|none=>rw[q] at e;cases e|some bs=>rw[q] at e;cases e;rw[CN t q];rfl
 |_=>cases e
theorem mG(al:Bool):K9 L (IU L.K al) (mq al):=fun G F H σ ρ x dx d Q g0 rx e k=>by
 cases dx with
 |lst ds=>
  simp only[mq] at e;cases e2:i5 ds with
  |none=>rw[e2] at e;cases e|some bs=>
   rw[e2] at e;cases e;obtain⟨q,vs,rfl,r,z⟩:=RR.seq rx g0 rfl;rcases z with ⟨_,z⟩|⟨z,_⟩
   rw[CN r e2] at z;exact⟨q,bs,rfl,z,k F H _ (aE.refl _) g0 (.bl _)⟩;cases z
 |_=>cases e
theorem ke(hc:X.calm=true):eI X (.builtin "all") (IU X.K true):=qO hc true
theorem qP(hc:X.calm=true):eI X (.builtin "any") (IU X.K false):=qO hc false
theorem boot_all:bootBuiltins "all" = some (.builtin "all"):=by kernel_rfl
theorem boot_any:bootBuiltins "any" = some (.builtin "any"):=by kernel_rfl
theorem yj(g:L.Good G F H σ ρ)(r:Den L.K L.mg F v x)(o:Out (fJ k (setAt kd x) ρ) P E) : ∃l vs i j bV,kd=.int i/\σ[k]?=some (some (V.ref l))/\H l=some (.lst vs)/\DV vs.length i=some j/\L.Good G F (upd H l (.lst (vs.set j v))) σ bV/\P () bV:=by
 unfold fJ at o;cases q:own ρ[k]? with
 |none=>rw[q] at o;exact o.elim|some d=>
  rw[q] at o;dsimp only at o;cases q2:setAt kd x d with
  |none=>rw[q2] at o;exact o.elim|some d'=>
   rw[q2] at o;have o':P () (cE k d' ρ):=o;cases d with
   |lst ds=>
    cases kd with
    |int i=>
     simp only[setAt] at q2;cases q4:A0 ds.length i with
     |none=>rw[q4] at q2;cases q2|some j=>
      rw[q4] at q2;cases q2;cases q3:ρ[k]? with
      |none=>rw[q3] at q;cases q|some s=>
       rw[q3] at q;have sl:=g.slot k s q3;have fin:∀l s',σ[k]?=some (some (V.ref l))->ck s=true->fF L.K L.mg F H l (.lst ds)->((∃e,s=.ow e/\s'=.ow (.lst (ds.set j x)))\/(∃e,s=.io e/\s'=.io (.lst (ds.set j x))))->cE k (.lst (ds.set j x)) ρ=ρ.set k s'->∃l vs i' j bV,D.int i=.int i'/\σ[k]?=some (some (V.ref l))/\H l=some (.lst vs)/\DV vs.length i'=some j/\L.Good G F (upd H l (.lst (vs.set j v))) σ bV/\P () bV:=fun l s' z1 z2 z3 z4 z5=>by obtain⟨vs,y1,y2⟩:=z3;refine⟨l,vs,i,j,_,rfl,z1,y1,by rw[y2.length];exact q4,Good.write g q3 z2 z1 z4 ⟨_,aB,y2.set j r⟩,?_⟩;rw[<-z5];exact o'
       cases s with|no=>cases q|sh e=>cases q|ow e=>cases q;obtain⟨l,z1,z2,z3,z4⟩:=sl;exact fin l _ (join_some z1) rfl z4 (.inl ⟨_,rfl,rfl⟩) (by unfold cE;rw[q3])|io e=>cases q;obtain⟨l,z1,z2,z3,z4⟩:=sl;exact fin l _ (join_some z1) rfl z4 (.inr ⟨_,rfl,rfl⟩) (by unfold cE;rw[q3])
    |_=>cases q2
   |_=>cases q2
variable{b value:Expr}{fk fv:M D}{x:Str}
theorem iW(i:Nat){p1 p2 p3:Pos}(hk:PV X EX b fk)(hv:PV X EX value fv)(hN:autoParam (X.N[i]?=some x) AuP.a._autoParam)(Mi:oI X.env.scope x:=by exact Vd)(hd:autoParam (Qu x) AuP.b._autoParam)
  (gp:autoParam (P7 x) AuP.b._autoParam) (hs:autoParam (swapsWithSole [.Subscript (.Name x p1) b p2] value p3.line X.env=pure false) AuP.a._autoParam) (hw:autoParam (swappedStores [.Subscript (.Name x p1) b p2] value X.env=pure none) AuP.a._autoParam)
  (h1:autoParam ((assignEach [.Subscript (.Name x p1) b p2] X.env).map (·.2)=[assign (.Subscript (.Name x p1) b p2) X.env]) AuP.a._autoParam)
  (ha:∀v,assign (.Subscript (.Name x p1) b p2) X.env v=(do
   let ov <-holding [v] (eval (.Name x p1) X.env);let iv <-holding [v,ov] (eval b X.env)
   standAt p2
   holding [v,ov,iv] (setItem ov iv v)
   release [v,ov,iv] []):=by exact Oc):nL X EX (.Assign [.Subscript (.Name x p1) b p2] value p3) (iw i fk fv):=
 (EW hv (ER (cC hN Mi hd gp) hk set_list ha) hs hw h1).le fun E σ H bH=>xF bH fun G F ρ g0 o=>bj g0 o (fun x r q=>q.x) fun F1 H1 bx d1 v s1 g1 r1 o1=>by by_cases hl:isLst (own bx[i]?)=true;rw[WL hl] at o1;obtain⟨l,vs,z1,z2⟩:=isLst_slot (L:=lc X EX) g1 hl;refine⟨_,z1,bj g1 o1 (fun x r q=>(q.same s1).x) fun F2 H2 qk d2 y s2 g2 r2 o2=>?_⟩;obtain⟨l',wC,k,j,bV,y0,y1,y2,y3,g3,q⟩:=yj (L:=lc X EX) g2 (r1.same s2) (Out.Tz o2);rw[z1] at y1;cases y1;subst y0;obtain rfl:=Den.i r2;exact⟨l,wC,k,j,rfl,rfl,y2,y3,q F2 _ σ (s1.trans s2) g3⟩;rw[S8 hl] at o1;exact o1.elim
end
section
variable{X:Cx}{EX:XE}{L:Lc}{e a b c:Expr}{fa fb fc fe:M D}{pos:Pos}{x:Str}
theorem jA.Ql:∀{ds:OK}{us:We},Paired jA ds us->∃vs:Pk,Vals vs us/\∀(K:Frag)(mg:MG)(F:Hp),aN K mg F vs ds|_,_,.nil=>⟨[],.nil,fun _ _ _=>.nil⟩|_,_,.cons h t=>by obtain⟨v,r,d⟩:=h.den;obtain⟨vs,rs,es⟩:=jA.Ql t;exact⟨v::vs,.cons r rs,fun K mg F=>.cons (d K mg F) (es K mg F)⟩
def rZ(K:Frag)(d:D)(v:Value):Prop:=jA d v\/∃(ds:OK)(q:Addr)(aS:Array Value)(n:Nat),d=.tup ds/\v=.ref q/\K.lookup q=some ⟨.type "tuple",none,.seq aS n,#[]⟩/\aS.size<=sizeLine/\Paired jA ds aS.toList
theorem rZ.den{K:Frag}{d:D}{v:Value}(h:rZ K d v):∃u:V,RelV u v/\∀(mg:MG)(F:Hp),Den K mg F u d:=by rcases h with h|⟨ds,q,aS,n,rfl,rfl,hl,hz,hp⟩;obtain⟨u,r,d⟩:=h.den;exact⟨u,r,fun mg F=>d K mg F⟩;obtain⟨vs,rs,es⟩:=jA.Ql hp;exact⟨.ref q,rfl,fun mg F=>.tup (.inr ⟨_,aS,n,hl,rfl,rfl,hz,rs,rfl⟩) (es K mg F)⟩
theorem Q2i{K:Frag}{ds:OK}{q:Addr}{aS:Array Value}{n:Nat}(hl:K.lookup q=some ⟨.type "tuple",none,.seq aS n,#[]⟩)(hz:aS.size<=sizeLine)(hp:Paired jA ds aS.toList):rZ K (.tup ds) (.ref q):=.inr ⟨ds,q,aS,n,rfl,rfl,hl,hz,hp⟩
structure Gy(w:World)(K:Frag)(mg:MG)(x:Str)(t:List (Str×D))(ab:Ut):Prop where
 ex:∃(q:Addr)(es:Array DictEntry)(n:Nat),mg x=some (.ref q)/\(q == sysModules)=false/\K.lookup q=some ⟨.type "dict",none,.dict es n,#[]⟩/\W.KeysLit w.params es.toList/\(∀k d,t.lookup k=some d->∃v,W.nsIn K q k=some (some v)/\rZ K d v)/\∀k∈ab,W.nsIn K q k=some none
theorem Fz{K:Frag}{q:Addr}{t:List (Str×D)}(h:∀p∈t,∃v,W.nsIn K q p.1=some (some v)/\rZ K p.2 v):∀k d,t.lookup k=some d->∃v,W.nsIn K q k=some (some v)/\rZ K d v:=fun k d e=>h (k,d) (JA e)
theorem tP{t:List (Str×D)}{ab:Ut}{p:Pos}(T:Gy X.w X.K X.mg x t ab)(hg:Gl X x)(hb:PV X EX b fb)(jH:autoParam (Qu x) AuP.b._autoParam)
  (hs:∀(q:Addr)(k:Str)(tk:Tok),subscripted b false (.ref q) (.str k tk)=operate [.ref q,.str k tk] (getItem (.ref q) (.str k tk)):=by intro _ _ _;with_unfolding_all rfl) :
  PV X EX (.Subscript (.Name x p) b pos) (m1 (Fy t) fb):=by
 intro WO s σ H Q I h;obtain⟨G,F,ρ,g0,o⟩:=h;obtain⟨q,es,n,hm,_,hl,hk,hv,_⟩:=T.ex;refine Subscript_ (km I hg hm ?_ jH);refine bN (hb WO s σ H _ I (bj g0 o (fun x r q=>q) fun F1 H1 bx d1 y s1 g1 r1 o1=>(⟨F1,bx,d1,s1,g1,r1,o1⟩:∃F1 bx d1,aE F F1/\(lc X EX).Good G F1 H1 σ bx/\Den X.K X.mg F1 y d1/\Out (opt (Fy t d1) bx) (gc (lc X EX) (RV (lc X EX)) G F σ Q) (di (lc X EX) G F σ)))) fun u s2 zz=>?_;obtain⟨y,H2,I2,r2,F1,bx,d1,s1,g1,den,o1⟩:=zz;obtain⟨d,e1,q1⟩:=o1.opt;cases d1 with|str k=>obtain rfl:=Den.s den;obtain⟨tk,rfl⟩:=r2;obtain⟨v,hn,fl⟩:=hv k d e1;obtain⟨u2,ru,U5⟩:=fl.den;have T7:=W.mapOf_K (prog:=X.prog) (w:=X.w) I2.kD hl hk;refine PyProof.Rows.tail_any T7.typeIs slot_dict_getitem.lookup (wpAny_getItem_of (strKind_is X.prog X.w k tk) T7 (W.find_K hl hn) ?_) (hs q k tk);exact⟨u2,H2,I2.tok _,ru,q1 F1 H2 u2 s1 g1 (U5 _ F1)⟩|_=>cases e1
noncomputable def E6(w:World)(K:Frag)(neg:Bool):R2:=fun x y H Q=>∃(k:Str)(q:Addr)(es:Array DictEntry)(n:Nat)(r:O8),x=.str k/\y=.ref q/\(q == sysModules)=false/\K.lookup q=some ⟨.type "dict",none,.dict es n,#[]⟩/\W.KeysLit w.params es.toList/\W.nsIn K q k=some r/\Q (.bl (if neg then !r.isSome else r.isSome)) H
theorem EI:ij X (compareOp .In) (E6 X.w X.K false):=by intro WO s σ H x y v u Q I rx ry h;obtain⟨k,q,es,n,r,rfl,rfl,lo,hl,hk,hn,hq⟩:=h;obtain⟨tk,rfl⟩:=rx;cases ry;have T7:=W.mapOf_K (prog:=X.prog) (w:=X.w) I.kD hl hk;refine wpAny_in_of (strKind_is X.prog X.w k tk) lo T7 ?_;rw[W.find_K hl hn];exact⟨.bl _,H,I.tok _,rfl,hq⟩
theorem DK(lo:(q == sysModules)=false)(hl:X.K.lookup q=some ⟨.type "dict",none,.dict es n,#[]⟩)(hk:W.KeysLit X.w.params es.toList)
  (hv:∀k d,t.lookup k=some d->∃v,W.nsIn X.K q k=some (some v)/\rZ X.K d v) (QJ:∀k∈ab,W.nsIn X.K q k=some none) (σ:St) (H:Hp) (Q:VK)
  (h:lift (lc X EX) (RV (lc X EX)) (m1 (ua neg t ab) fa) σ H Q):Jw (E6 X.w X.K neg) (lift (lc X EX) (RV (lc X EX)) fa) (tC (.ref q)) σ H Q:=by
 obtain⟨G,F,ρ,g0,o⟩:=h;refine bj g0 o (fun x r q=>q) fun F1 H1 bx d1 x s1 g1 r1 o1=>?_;obtain⟨d,e1,q1⟩:=o1.opt;cases d1 with
  |str k=>obtain rfl:=Den.s r1;simp only[ua] at e1;cases e2:t.lookup k with|some d2=>rw[e2] at e1;cases e1;obtain⟨v,hn,_⟩:=hv k d2 e2;exact⟨k,q,es,n,some v,rfl,rfl,lo,hl,hk,hn,by cases neg<;>exact q1 F1 H1 _ s1 g1 (.bl _)⟩|none=>rw[e2] at e1;dsimp only at e1;split at e1;rename_i hm;cases e1;exact⟨k,q,es,n,none,rfl,rfl,lo,hl,hk,QJ k (by simpa using hm),by cases neg<;>exact q1 F1 H1 _ s1 g1 (.bl _)⟩;cases e1
  |_=>cases e1
theorem SW{e:Expr}{f:M D}{t:TE}{tt:TT}(hp:PT X e tt)(k:∀σ H Q,t σ H (fun v H1=>∃b,v=.bl b/\Q b H1)->tt σ H Q)(hl:∀σ H Q,lift (lc X EX) (RV (lc X EX)) f σ H Q->t σ H Q):PB X EX e (tB f):=hp.le fun σ H Q bH=>lf bH fun G F ρ g0 o=>k σ H Q (hl σ H _ (bj g0 o (fun x r q=>q) fun F1 H1 bx d1 x s1 g1 r1 o1=>by cases d1 with|bl k=>obtain rfl:=Den.b r1;exact⟨k,rfl,o1 F1 H1 k s1 g1 rfl⟩|_=>exact o1.elim))
theorem EL(T:Gy X.w X.K X.mg x t ab)(hg:Gl X x)(ha:PV X EX a fa)(hm:behindInMarks .In (.Name x p)=false)(jH:autoParam (Qu x) AuP.b._autoParam):PB X EX (.Compare a [.In] [.Name x p] pos) (tB (m1 (ua false t ab) fa)):=by obtain⟨q,es,n,h1,lo,hl,hk,hv,QJ⟩:=T.ex;exact SW (z8 EI ha (kr (v:=.ref q) hg h1 rfl jH) hm) (fun _ _ _ h=>h) (DK lo hl hk hv QJ)
theorem vb{K:Frag}{mg:MG}{F:Hp}{v:V}{d:D}(r:Den K mg F v d)(f:jS d=true):kK v=true:=by cases r<;>first|rfl|cases f
theorem GU{K:Frag}{mg:MG}{F:Hp}{v w:V}{d e:D}(r:Den K mg F v d)(q:Den K mg F w e)(f:jS d=true)(f2:jS e=true):GS v w=eqB d e:=by cases r<;>first|(cases f;done)|(cases q<;>first|(cases f2;done)|rfl)
theorem zI{K:Frag}{mg:MG}{F:Hp}{v:V}{d:D}(r:Den K mg F v d)(f:jS d=true):∀{vs:Pk}{ds:OK},aN K mg F vs ds->ds.all jS=true->vs.all kK=true/\Ue v vs=ds.any fun y=>eqB y d|_,_,.nil,_=>⟨rfl,rfl⟩|_,_,.cons h t,fs=>by rw[BI,ET] at fs;obtain⟨i1,i2⟩:=zI r f t fs.2;refine⟨?_,?_⟩;rw[BI,vb h fs.1,i1];rfl;unfold Ue at i2 ⊢;rw[E1,E1,i2,GU h r fs.1 f]
theorem Ds(neg:Bool):kU L (Yd L.K neg) (inD neg):=fun G F H σ ρ x y dx dy d Q g0 rx ry e k=>by unfold inD at e;cases e1:c5 dy with|none=>rw[e1] at e;cases e|some ds=>rw[e1] at e;dsimp only at e;split at e;rename_i hf;rw[ET] at hf;cases e;obtain⟨t,q,vs,rfl,hq,r⟩:=Den.seq ry e1;obtain⟨i1,i2⟩:=zI rx hf.1 r hf.2;refine⟨q,vs,rfl,?_,vb rx hf.1,i1,?_⟩;have:=mh.same hq g0.sub;cases t;exact .inl this;exact .inr this;rw[i2];exact k F H _ (aE.refl _) g0 (.bl _);cases e
end
section
variable{K:Frag}{mg:MG}{G:Fx}{F H:Hp}{σ:St}{ρ:aU}
theorem Good.snoc(g:Good K mg G F H σ ρ)(x:Loose K mg G F H σ ρ l d):Good K mg G F H (σ++[some (V.ref l)]) (ρ++[.ow d]):=by
 have low:∀{i:Nat}{s:Sl},(ρ++[Sl.ow d])[i]?=some s->(i<ρ.length/\ρ[i]?=some s/\(σ++[some (V.ref l)])[i]?=σ[i]?)\/(i=ρ.length/\s=.ow d/\(σ++[some (V.ref l)])[i]?=some (some (V.ref l))):=fun {i s} h=>by
  by_cases hi:i<ρ.length;rw[Sg hi] at h;exact .inl ⟨hi,h,Sg (by rw[g.len];exact hi)⟩;rw[sW Ug] at h;have:i=ρ.length:=by
   by_cases z:i-ρ.length=0
   lia
   rw[Nd (by simp;lia)] at h;cases h
  subst this;simp at h;refine .inr ⟨rfl,h.symm,?_⟩;rw[sW (by rw[g.len];exact Gm _),g.len];simp
 exact {
  sF:=g.sF
  sub:=g.sub
  old:=g.old
  new:=g.new
  len:=by simp[g.len]
  slot:=fun i s h=>by
   rcases low h with ⟨_,h1,h2⟩|⟨_,rfl,h2⟩
   rw[h2];exact g.slot i s h1;rw[h2];exact⟨l,rfl,x.nF,x.n0,x.ob⟩
  apart:=fun i j m s t h1 h2 o1 o2 e1 e2=>by
   rcases low h1 with ⟨_,a1,a2⟩|⟨a0,rfl,a2⟩
   rw[a2] at e1;rcases low h2 with ⟨_,b1,b2⟩|⟨b0,rfl,b2⟩
   rw[b2] at e2;exact g.apart i j m s t a1 b1 o1 o2 e1 e2;rw[b2] at e2;cases e2;exact absurd e1 (x.ns i s a1 o1);rw[a2] at e1;cases e1;rcases low h2 with ⟨_,b1,b2⟩|⟨b0,rfl,b2⟩
   rw[b2] at e2;exact absurd e2 (x.ns j t b1 o2)
   lia
  nt:=g.nt
  nT:=g.nT}
theorem Good.OL(g:Good K mg G F H (σ++[some (V.ref l)]) bV)(hd:bV[σ.length]?=some (.ow d)):Good K mg G F H σ (bV.take σ.length)/\Loose K mg G F H σ (bV.take σ.length) l d:=by
 have g2:=g.take σ.length;rw[List.take_left] at g2;have at_:(σ++[some (V.ref l)])[σ.length]?=some (some (V.ref l)):=O3;obtain⟨m,h1,h2,h3,h4⟩:=g.slot _ _ hd;rw[at_] at h1;cases h1;refine⟨g2,h2,h3,h4,fun i s h o e=>?_⟩;have hi:i<σ.length:=by
  have:=(List.getElem?_eq_some_iff.mp h).1;simp at this
  lia
 rw[Ox hi] at h;have:=g.apart i σ.length l s _ h hd o rfl (by rw[Sg hi];exact e) at_
 lia
theorem ml.more:∀{vs:Pk}{as:List AV},ml L F σ vs as->ml L F (σ++t) vs as|_,_,.nil=>.nil|_,_,.cons (a:=a) h r=>by refine .cons ?_ (ml.more r);cases a with|val d=>exact h|io j=>have hj:j<σ.length:=(List.getElem?_eq_some_iff.mp (show σ[j]?=_ from h)).1;show (σ++t)[j]?=_;rw[Sg hj];exact h
end
section
variable{X:Cx}{EX:XE}{L:Lc}{e a b o value:Expr}{es:KJ}{fa fe fo:M D}{as:List VP.Arg}{pos p Pn:Pos}{x c m:Str}
variable{CX:wJ}{k:Nat}{fA C:Addr}{fd:FuncData}{ps:Ut}{fl:X4}{fs:Fn}{cs:Ut}{f:Str}
def nI(K:Frag)(mg:MG)(cs:Ut)(f:Str):Prop:=∀c∈cs,∃C,mg c=some (.ref C)/\wK K C/\ie K C f
theorem lh{K:Frag}{mg:MG}{F:Hp}{f:Str}{d:D}:∀{fs:List (Str×V)}{ds:OK},aN K mg F (fs.map (·.2)) ds->((fs.map (·.1)).zip ds).lookup f=some d->∃v,fs.lookup f=some v/\Den K mg F v d|[],_,.nil,h=>by cases h| (n,v)::fs,_,.cons h t,q=>by simp only[List.map_cons,List.zip_cons_cons,List.lookup_cons] at q ⊢;split at q;cases q;exact⟨v,rfl,h⟩;exact lh t q
theorem aG(T:nI X.K X.mg cs f)(ha:PR X EX e fe)(hb:autoParam (attributeBase e f X.env (eval e X.env)=eval e X.env) AuP.a._autoParam):PV X EX (.Attribute e f pos) (m1 (aC cs f) fe):=(tI ha hb).le fun σ H Q bH=>dX bH fun G F F1 H1 bx d1 y s1 g1 r1 o1=>by
 obtain⟨d,e1,q⟩:=o1.opt;cases d1 with
 |ins c ns vs=>
  simp only[aC] at e1;split at e1;rename_i hc;obtain⟨C,hm,hC,hn⟩:=T c (by simpa using hc);rcases r1 with r1|⟨l,rfl,C',dx,fs,h1,h2,rfl,h4⟩;cases r1 with|ins h qw r=>obtain⟨v,lv,dv⟩:=lh r e1;rw[show (lc X EX).mg c=some (.ref C) from hm] at qw;cases qw;exact⟨_,C,_,_,v,rfl,g1.sub _ _ h,hC,hn,lv,q F1 H1 v s1 g1 dv⟩
  obtain⟨v,lv,dv⟩:=lh h4 e1;rw[show (lc X EX).mg c=some (.ref C) from hm] at h2;cases h2;exact⟨_,C,_,_,v,rfl,h1,hC,hn,lv,q F1 H1 v s1 g1 dv⟩;cases e1
 |_=>cases e1
theorem vW{K:Frag}{mg:MG}{F:Hp}{f:Str}{v:V}{d:D}(h:Den K mg F v d):∀{fs:List (Str×V)}{ds:OK},aN K mg F (fs.map (·.2)) ds->(eZ f v fs).map (·.1)=(iS f d (fs.map (·.1)) ds).1/\aN K mg F ((eZ f v fs).map (·.2)) (iS f d (fs.map (·.1)) ds).2|[],_,.nil=>⟨rfl,.cons h .nil⟩| (n,w)::fs,_,.cons q t=>by obtain⟨i1,i2⟩:=vW (f:=f) h t;simp only[eZ,List.map_cons,iS];split;exact⟨rfl,.cons h t⟩;exact⟨by simp[i1],.cons q i2⟩
theorem bz(i:Nat){UA p':Pos}(T:nI X.K X.mg cs f)(hv:PV X EX value fe)(hN:autoParam (X.N[i]?=some x) AuP.a._autoParam)(Mi:oI X.env.scope x:=by exact Vd)(hd:autoParam (Qu x) AuP.b._autoParam)(gp:autoParam (P7 x) AuP.b._autoParam) (hs:autoParam (swapsWith value (some (.Attribute (.Name x p') f UA)) pos.line X.env=pure false) AuP.a._autoParam):nL X EX (.Assign [.Attribute (.Name x p') f UA] value pos) (bO i cs f fe):=
 (pY (cC hN Mi hd gp) hv hs).le fun E σ H bH=>xF bH fun G F ρ g0 o=>bj g0 o (fun x r q=>q.x) fun F1 H1 bx d1 v s1 g1 r1 o1=>by
  have o2:=o1.Tz;unfold fJ at o2;cases q:bx[i]? with
  |none=>rw[q] at o2;exact o2.elim|some sl=>
   rw[q] at o2;have go:∀(d:D)(l:Addr),own (some sl)=some d->σ[i]?=some (some (V.ref l))->fF X.K X.mg F1 H1 l d->ck sl=true->∃Yj,σ[i]?=some (some Yj)/\∃a C dx fs,Yj=V.ref a/\H1 a=some (HO.ins C dx fs)/\wK X.K C/\ie X.K C f/\fs.length<1000/\E.nx σ (upd H1 a (HO.ins C dx (eZ f v fs))):=fun d l e1 e2 ob ow=>by
    rw[e1] at o2;dsimp only at o2;cases e3:j5 cs f d1 d with
    |none=>rw[e3] at o2;exact o2.elim|some d'=>
     rw[e3] at o2;cases d with
     |ins c ns vs=>
      simp only[j5] at e3;split at e3;rename_i hc;rw[ET] at hc;cases e3;obtain⟨C,dx,fs,h1,h2,rfl,h4⟩:=ob;obtain⟨C',hm,hC,hn⟩:=T c (by simpa using hc.1);rw[hm] at h2;cases h2;obtain⟨p1,p2⟩:=vW (f:=f) r1 h4;refine⟨_,e2,l,C,dx,fs,rfl,h1,hC,hn,by simpa using Hn hc.2,?_⟩;have Ya:fF X.K X.mg F1 (upd H1 l (HO.ins C dx (eZ f v fs))) l (.ins c (iS f d1 (fs.map (·.1)) vs).1 (iS f d1 (fs.map (·.1)) vs).2):=⟨C,dx,_,aB,hm,p1,p2⟩;have g2:(lc X EX).Good G F1 (upd H1 l (HO.ins C dx (eZ f v fs))) σ (cE i (.ins c (iS f d1 (fs.map (·.1)) vs).1 (iS f d1 (fs.map (·.1)) vs).2) bx):=by unfold cE;rw[q];cases sl with|ow z=>exact Good.write g1 q rfl e2 (.inl ⟨z,rfl,rfl⟩) Ya|io z=>exact Good.write g1 q rfl e2 (.inr ⟨z,rfl,rfl⟩) Ya|_=>cases ow
      exact o2 F1 _ σ s1 g2;cases e3
     |_=>cases e3
   have k:=g1.slot i sl q;cases sl with|no=>exact o2.elim|sh d=>exact o2.elim|ow d=>obtain⟨l,z1,z2,z3,z4⟩:=k;exact go d l rfl (join_some z1) z4 rfl|io d=>obtain⟨l,z1,z2,z3,z4⟩:=k;exact go d l rfl (join_some z1) z4 rfl
theorem yE{K:Frag}{mg:MG}{EX Ym:XE}{F:Hp}{σ:St}:∀{vs:Pk}{as:List AV},ml ⟨K,mg,EX⟩ F σ vs as->ml ⟨K,mg,Ym⟩ F σ vs as|_,_,.nil=>.nil|_,_,.cons (a:=a) h r=>.cons (by cases a<;>exact h) (yE r)
theorem lookup_none:∀{fs:List (Str×V)},(fs.map (·.1)).contains m=false->fs.lookup m=none|[],_=>rfl| (n,v)::fs,h=>by simp only[List.map_cons,List.contains_cons,Bool.or_eq_false_iff] at h;rw[List.lookup_cons,h.1];exact lookup_none h.2
theorem Q1X{pl:Sem Bool}(XB:X.mg c=some (.ref C))(cl:wK X.K C)(hm:Meth X.K C m fA)(F:cj X.prog X.w X.K X.mg X.base CX k fA fd ps (oC X.K X.mg (false::fl) fs))(hr:bY k X.A)(hb:Binds X.K fd ps [])(hx:gK CX X EX)
  (ho:PV X EX o fo) (ha:yA X EX (e::es) as) (sL:autoParam (as.map VP.Arg.isIo=fl) AuP.a._autoParam)
  (hU:autoParam (V1 X e es) AuP.a._autoParam) (iX:autoParam (Jn X pos es) AuP.a._autoParam)
  (ht:autoParam (eval (.Call (.Attribute o m Pn) (e::es) [] pos) X.env=(do
   let ov <-eval o X.env
   standAt Pn.atName
   let (f,first) <-holding [ov] (getMethod ov m pl)
   callWith pos f first (backTo pos (starEach (e::es) X.env)) (backToKw pos (keywordEach [] X.env)))) AuP.a._autoParam) :
  PV X EX (.Call (.Attribute o m Pn) (e::es) [] pos) (df c m fs fo as):=by
 intro WO s σ H Q I h;obtain⟨G,F0,ρ,g0,oo⟩:=h;refine W.methodCall_KW (pl:=pl) (bN (ho WO s σ H _ I (bj g0 oo (fun x r q=>q) fun F1 H1 bx d1 x s1 g1 r1 o1=>(⟨F1,bx,d1,s1,g1,r1,o1⟩:∃F1 bx d1,aE F0 F1/\(lc X EX).Good G F1 H1 σ bx/\Den X.K X.mg F1 x d1/\Out ((if iJ c m d1 then Tz (bL as) fun vs=>nU fs (.val d1::vs) else stuck) bx) (gc (lc X EX) (RV (lc X EX)) G F0 σ Q) (di (lc X EX) G F0 σ)))) fun u s1 zz=>?_) ht;obtain⟨y,H1,I1,ry,F1,bx,d1,se,g1,r1,o1⟩:=zz;rcases o1.ite with ⟨hi,o2⟩|⟨_,o2⟩
 cases d1 with
 |ins c' ns vs=>
  simp only[iJ,Bool.and_eq_true,Bool.not_eq_true'] at hi;have qw:c'=c:=by simpa using hi.1
  subst qw;cases r1 with
  |ins h AQ r=>
   rw[XB] at AQ;cases AQ;rename_i a dx Yz;obtain rfl:u=Value.ref a:=ry;refine k6 I1 (g1.sub _ _ h) cl hm (lookup_none hi.2) ?_;refine Bg (first:=[.ref a]) (h₀:=X.base) I.ok.mod.Hv hm.kp (bN (ha pos WO s1 σ H1 (fun ws H2=>oC X.K X.mg (false::fl) fs (.ref a::ws) H2 Q (EX σ)) I1 ⟨G,F1,bx,g1,?_⟩) fun us s2 ⟨ws,H2,I2,r2,q2⟩=>⟨I2.kD,?_⟩) hU iX;unfold VP.Tz at o2;cases q:bL as bx with|no=>rw[q] at o2;exact o2.elim|exc xx qk=>rw[q] at o2;exact di.same se o2|ok av qk=>rw[q] at o2;intro F2 H2 ws s2 g2 r2;have Uu:Den X.K X.mg F2 (.ref a) (.ins c' (Yz.map (·.1)) vs):=Den.same s2 (.ins h XB r);exact so (L:=lc X EX) g2 (.cons (show JL (lc X EX) F2 σ (.ref a) (.val _) from Uu) r2) (by rw[Pj,eB q,sL]) o2 (fun x r q=>q.same (se.trans s2)) fun F' H' bV d v s' g' rd P=>P F' H' v (se.trans (s2.trans s')) g' rd
   exact tT (us:=.ref a::us) (vs:=.ref a::ws) F hr hb hx I2 (.cons rfl r2) q2
 |_=>cases hi
 exact o2.elim
theorem Bu{WO:Ul}{σ:St}{H:Hp}{s:Shared}{Q:VK}{us:We}{vs:Pk}{sp:Sp}(M:Mk X.K C fA)(F:cj X.prog X.w X.K X.mg X.base CX k fA fd ps sp)(hr:bY (k+1) X.A)(hb:Binds X.K fd ps [])
  (hx:gK CX X EX) (I:Inv X WO σ H s) (r:Vals vs us)
  (h:∀x dx,H x=none->H dx=none->dx≠x->sp (.ref x::vs) (upd (upd H dx (.own x)) x (.ins C dx [])) (fun v H2=>v=.bB/\Q (.ref x) H2) (EX σ)) :
  wpAny (model X.prog X.w) X.A (call (.ref C) us) (EP X WO σ Q) X.xe s:=by
 have hq:=h (s.heap.objs.size+1) s.heap.objs.size (I.cm.fresh (Bf _)) (I.cm.fresh (Gm _)) (Wi (FG _));have I2:=Inv.made (C:=C) I;have r2:Vals (V.ref (s.heap.objs.size+1)::vs) (Value.ref (s.heap.objs.size+1)::us):=.cons rfl r;have hl:(Value.ref (s.heap.objs.size+1)::us).length=ps.length:=by rw[<-F.len _ _ _ _ hq];exact r2.length.symm
 have QK:=hb _ (Value.ref (s.heap.objs.size+1)::us) I2.kD (by simpa using hl);rw[Il] at QK;refine wpAny_call (vC (f:=fA) I.kD M.makes M.init (beq_iff_eq.mp M.fn) (xo (F.run _ X.stack _ _ ⟨Value.ref (s.heap.objs.size+1)::us,[]⟩ (Value.ref (s.heap.objs.size+1)::us) _ _ (EX σ) (hr.make C us []) (I2.GQ.make C us []) QK r2 hq) fun r s' uw=>?_));cases r with|error e=>exact hx WO σ _ _ e s' I2 uw|ok fl=>cases fl with|ret u=>obtain⟨v,H',I3,rv,ev,q3⟩:=I2.after uw;subst ev;exact⟨rv,⟨V.ref (s.heap.objs.size+1),H',I3,rfl,q3⟩⟩|next=>exact False.elim uw|brk=>exact False.elim uw|cont=>exact False.elim uw
theorem Q21(M:Mk X.K C fA)(F:cj X.prog X.w X.K X.mg X.base CX k fA fd ps (oC X.K X.mg (true::fl) fs))(hr:bY (k+1) X.A)(hg:Gl X c)(hm:X.mg c=some (.ref C))(hb:Binds X.K fd ps [])(hx:gK CX X EX)
  (ha:yA X EX (e::es) as) (sL:autoParam (as.map VP.Arg.isIo=fl) AuP.a._autoParam) (jH:autoParam (Qu c) AuP.b._autoParam) (he:autoParam (V1 X e es) AuP.a._autoParam) (iX:autoParam (Jn X pos es) AuP.a._autoParam) :
  PF X EX (.Call (.Name c p) (e::es) [] pos) (dr c fs as):=by
 intro WO s σ H Q I h;obtain⟨G,F0,ρ,g0,o⟩:=h;refine Ju (km I hg hm ?_ jH);refine Bg (h₀:=X.base) I.ok.mod.Hv M.kp (bN (ha pos WO s σ H (fun vs H1=>∀x dx,H1 x=none->H1 dx=none->dx≠x->oC X.K X.mg (true::fl) fs (.ref x::vs) (upd (upd H1 dx (.own x)) x (.ins C dx [])) (fun v H2=>v=.bB/\Q (.ref x) H2) (EX σ)) I ⟨G,F0,ρ,g0,?_⟩) fun us s1 ⟨vs,H1,I1,r,q⟩=>⟨I1.kD,Bu M F hr hb hx I1 r q⟩) he iX;unfold dr VP.Tz at o;cases q:bL as ρ with
 |no=>rw[q] at o;exact o.elim|exc xx bx=>rw[q] at o;exact o|ok av bx=>
  rw[q] at o;intro F1 H1 vs s1 g1 r1 x dx Zm Ko Gj;have Ub:upd H1 dx (.own x) x=none:=by rw[aF (UH Gj)];exact Zm
  have g2:(lc X EX).Good G F1 (upd (upd H1 dx (.own x)) x (.ins C dx [])) σ bx:=(g1.made Ko).made Ub;have lo:Loose X.K X.mg G F1 (upd (upd H1 dx (.own x)) x (.ins C dx [])) σ bx x (.ins c [] []):=Good.loose (g1.made Ko) Ub ⟨C,dx,[],aB,hm,rfl,.nil⟩;have g3:=Good.snoc g2 lo;have len:σ.length=bx.length:=g1.len;have Ys:JL (⟨X.K,X.mg,fun _=>EX σ⟩:Lc) F1 (σ++[some (V.ref x)]) (.ref x) (.io bx.length):=by show (σ++[some (V.ref x)])[bx.length]?=_;rw[<-len];simp
  have o':Out (Ba c fs av bx) (gc (lc X EX) (RF (lc X EX)) G F0 σ Q) (di (lc X EX) G F0 σ):=o;have bk:Out (nU fs (.io bx.length::av) (bx++[.ow (.ins c [] [])])) (fun d r'=>d=.bB/\∃d',r'[bx.length]?=some (.ow d')/\gc (lc X EX) (RF (lc X EX)) G F0 σ Q d' (r'.take bx.length)) (fun x r'=>di (lc X EX) G F0 σ x (r'.take bx.length)):=by
   unfold Ba at o';cases e1:nU fs (.io bx.length::av) (bx++[.ow (.ins c [] [])]) with
   |no=>rw[e1] at o';exact o'|exc y r'=>rw[e1] at o';exact o'|ok d r'=>
    rw[e1] at o';cases d with
    |bB=>dsimp only at o';cases e2:r'[bx.length]? with|none=>rw[e2] at o';exact o'.elim|some sl=>rw[e2] at o';cases sl with|ow d'=>exact⟨rfl,d',e2,o'⟩|_=>exact o'.elim
    |_=>exact o'.elim
  refine so (L:=⟨X.K,X.mg,fun _=>EX σ⟩) (G:=G) (F:=F1) (σ:=σ++[some (V.ref x)]) g3 (.cons Ys (ml.more (L:=⟨X.K,X.mg,fun _=>EX σ⟩) (by exact yE r1))) (by rw[Pj,eB q,sL]) bk (fun y r' z F' H' cc dd s' g' xr=>?_) fun F' H' bV d v s' g' rd P=>?_;have gt:=g'.take σ.length;rw[List.take_left,len] at gt;exact z F' H' cc dd (s1.trans s') gt xr;obtain⟨rfl,d',e2,P⟩:=P;obtain rfl:=Den.n rd;rw[<-len] at e2 P;obtain⟨gt,Zy⟩:=Good.OL g' e2;exact⟨rfl,P F' H' _ (s1.trans s') gt ⟨x,rfl,Zy⟩⟩
end
def US(K:Frag)(p:Addr):It:=⟨fun i H=>∃xs x,cn K H p xs/\xs[i]?=some x,
 fun i H v H'=>∃q x,H q=none/\v=.ref q/\H'=upd H q (.tup [.int i,x])/\∀xs,cn K H p xs->xs[i]?=some x,
 fun i H=>∃xs,cn K H p xs/\i=xs.length⟩
theorem BE{P:Program}{w:World}{K:Frag}{es:KJ}{k:Nat}{nZ:Pos}{p e it:Addr}(n1:p≠it)(n2:e≠it)(n3:e≠p) : Turn P w K (.Tuple es k nZ) (US K p) [e,it] e (fun i h=>(∃old,IsEnum h e it i old)/\h.IsListIter it p i) where
 mem:=O3
 obj:=fun i h st b hb=>by
  obtain⟨⟨old,he⟩,o,hi,hc,hd⟩:=st;simp only[List.mem_cons,List.not_mem_nil,or_false] at hb;rcases hb with rfl|rfl
  ·exact⟨_,he,fun v q=>by cases q⟩
  ·exact⟨_,hi,fun v q=>by rw[hd] at q;cases q⟩
 keep:=fun i h h' st kk=>by obtain⟨⟨old,he⟩,hi⟩:=st;exact⟨⟨old,kk e O3 _ he⟩,hi.at fun o q=>kk it O3 o q⟩
 item:=by
  intro X hP hw hK hc i WO s σ H E I hf st hg;subst hP hw hK;obtain⟨⟨old,he⟩,hi⟩:=st;obtain⟨xs,x,q1,e1⟩:=hg;obtain⟨aS,rv,pl,_⟩:=I.list q1;obtain⟨u,hu,ru⟩:=rv.get e1;have hh:X.A.handled=none:=I.ok.hd hc;have V7:i<aS.toArray.size:=by have:=(List.getElem?_eq_some_iff.mp hu).1;simpa using this
  refine wpAny_pyNext_enum_itemD (Draws.list (by exact hh) it p n1 aS.toArray) he ⟨hi,pl.isList⟩ V7 n2 (by simp[n2,n3]) fun x' h' tk px ho nX pr hsz kp=>?_;have ex:x'=u:=by
   have:aS.toArray[i]?=some u:=by simpa using hu
   rw[this] at px;exact(X6 px).symm
  subst ex;refine⟨_,rfl,wpAny_letOwnedTupleGo_enum ho fun L0 z2 sb=>?_⟩;replace sb:Heap.SameBut e h' L0:=sb;have Js:e≠s.heap.objs.size:=Wi (Hh he);have V3:∀c o,c∉[e,it]->s.heap.get? c=some o->L0.get? c=some o:=fun c o qw q=>by simp only[List.mem_cons,List.not_mem_nil,or_false,not_or] at qw;exact sb.extBut c o qw.1 (kp c o qw.1 qw.2 q)
  have IX:=Inv.pair (tk:=tk+1) (h':=L0) (x:=.int i) (y:=x) I hf V3 (sb.extBut _ _ (UH Js) pr) ⟨_,rfl⟩ ru;refine⟨.ref s.heap.objs.size,_,IX,rfl,⟨_,x,I.cm.fresh (Gm _),rfl,rfl,fun xs' DF=>by rw[I.pI DF q1];exact e1⟩,⟨⟨_,by simpa using z2⟩,nX.1.at fun o q=>sb.extBut _ o (UH n2) q⟩,fun b hb=>?_⟩;have Pb:b≠s.heap.objs.size:=by
   simp only[List.mem_cons,List.not_mem_nil,or_false] at hb;rcases hb with rfl|rfl
   ·exact Js
   ·obtain⟨o,q,_⟩:=hi;exact Wi (Hh q)
  rw[aF Pb];exact(hf b hb).1
 done:=by
  intro X hP hw hK hc i WO s σ H E I hf st hg;subst hP hw hK;obtain⟨⟨old,he⟩,hi⟩:=st;obtain⟨xs,q1,DA⟩:=hg;obtain⟨aS,rv,pl,_⟩:=I.list q1;have l1:=rv.length;have hh:X.A.handled=none:=I.ok.hd hc;have ee:i=aS.toArray.size:=by simp;lia
  rw[ee] at he hi;refine wpAny_pyNext_enum_endD (Draws.list (by exact hh) it p n1 aS.toArray) he ⟨hi,pl.isList⟩ fun h' hk=>⟨rfl,Inv.uc (h':=h') I hf fun c o vi q=>?_⟩;simp only[List.mem_cons,List.not_mem_nil,or_false,not_or] at vi;exact hk c o vi.2 q
 self:=fun _ _ _ _ _ st h=>by obtain⟨⟨old,he⟩,_⟩:=st;exact wpAny_pyIter_enum he h
theorem Q2C(l:Addr)(xs:Array Value)(n:Nat)(sl:Array (Option Value)):Meets (Builtin.«enumerate.__new__» ⟨[.type "enumerate",.ref l],[]⟩) (fun _ R s=>s.heap.get? l=some {cls:=.type "list",dict:=none,data:=.seq xs n,slots:=sl}/\R (.ok (.ret (.ref (s.heap.push {cls:=.type "list_iterator",data:=.fields #[.ref l,.int 0 0]}).objs.size))) {s with heap:=(s.heap.push {cls:=.type "list_iterator",data:=.fields #[.ref l,.int 0 0]}).push {cls:=.type "enumerate",data:=.fields #[.none,.bool false,.ref s.heap.objs.size,rawInt 0,.none,.none]}}):=
 .of_wp fun prog w A R s z=>by
  obtain⟨hp,g,d,tk,os⟩:=s;obtain⟨q1,q2⟩:=z;have z1:=sub_enumerate;have z2:Heap.IsList (Shared.heap ⟨hp,g,d,tk,os⟩) l xs:=⟨_,q1,rfl,n,rfl⟩
  wp_walk using UZ q1
  refine wpAny_stack_any fun st=>Wt ?_;split;rename_i c _ _ _ _ _;cases (c == Value.type "enumerate")<;>(wp_walk using UZ q1,ND z2;exact⟨_,rfl,q2⟩)
  wp_walk using UZ q1,ND z2
  exact⟨_,rfl,q2⟩
section
variable{X:Cx}{EX:XE}{L:Lc}{e a b:Expr}{fa fb fe:M D}{pos p:Pos}{x:Str}
theorem boot_enumerate:bootBuiltins "enumerate" = some (.type "enumerate"):=by kernel_rfl
def Rg(K:Frag)(t:TA):TI:=fun σ H R=>t σ H fun vs H1=>∃q,vs=[.ref q]/\(∃xs,cn K H1 q xs)/\R (US K q) H1
theorem zY{es:KJ}{k:Nat}{nZ:Pos}{t:TA}(hg:Gl X "enumerate")(hm:X.mg "enumerate" = none)(ha:PA X [a] t)(hs:autoParam (starEach [a] X.env=[(false,eval a X.env)]) AuP.a._autoParam) : PI X (.Tuple es k nZ) (.Call (.Name "enumerate" p) [a] [] pos) (Rg X.K t):=by
 intro WO s σ H R I h;refine Call_ (iq I hg hm boot_enumerate (JC (bN (ha pos WO s σ H _ I h) fun us s1 zz=>?_) hs rfl));obtain⟨vs,H1,I1,r1,q1⟩:=zz;obtain⟨q,e,⟨xs,h1⟩,hR⟩:=q1;subst e;obtain⟨u,rfl,ru⟩:=vals1 r1;cases ru;obtain⟨aS,rv,pl,_⟩:=I1.list h1;obtain⟨⟨c0,d0,dt0,Z3⟩,n,hq,Vm,XC,QP⟩:=pl;simp only at Vm XC QP;subst Vm XC QP;have lt:q<s1.heap.objs.size:=Hh hq;refine callType_new PySem.F.called_enumerate (by decide) (PySem.F.typeCall_enumerate_1 _) (PySem.F.newCall_enumerate_1 _) (fun obj=>IC obj _) PySem.F.entry_enumerate_new (Q2C q aS.toArray n Z3) ⟨hq,⟨_,Rv _ rfl,rfl⟩,?_⟩;have sz:(s1.heap.push {cls:=.type "list_iterator",data:=.fields #[.ref q,.int 0 0]}).objs.size=s1.heap.objs.size+1:=sA ..;have he:IsEnum ((s1.heap.push {cls:=.type "list_iterator",data:=.fields #[.ref q,.int 0 0]}).push {cls:=.type "enumerate",data:=.fields #[.none,.bool false,.ref s1.heap.objs.size,rawInt 0,.none,.none]}) (s1.heap.objs.size+1) s1.heap.objs.size 0 .none:=by rw[<-sz];exact Rv _ rfl
 rw[sz];refine wpAny_pyIter_enum he ?_;have IX:Inv X WO σ H1 {s1 with heap:=(s1.heap.push {cls:=.type "list_iterator",data:=.fields #[.ref q,.int 0 0]}).push {cls:=.type "enumerate",data:=.fields #[.none,.bool false,.ref s1.heap.objs.size,rawInt 0,.none,.none]}}:=I1.kept (t':=s1.toks) fun b o e=>RN _ (RN _ e);refine⟨_,[s1.heap.objs.size+1,s1.heap.objs.size],_,_,H1,rfl,IX,BE (Wi lt) O3 (xP (QB lt)),⟨⟨_,he⟩,⟨_,RN _ (Rv _ rfl),rfl,rfl⟩⟩,fun c hc=>?_,hR⟩;have hle:s1.heap.objs.size<=c:=by simp only[List.mem_cons,List.not_mem_nil,or_false] at hc;rcases hc with rfl|rfl;exact NW _ _;exact Gm _
 exact I1.nP hle (I1.cm.fresh hle)
theorem vo(h1:cn L.K F q vs)(r1:aN L.K L.mg F vs ds) : FW L G F (US L.K q) (iG ds):=fun σ i F' H' ρ s g=>by
 have q1:cn L.K H' q vs:=cn.same (cn.same h1 s) g.sub;have l1:=r1.length;have le:(iG ds).length=ds.length:=by simp[iG]
 refine⟨fun hi=>?_,fun hi=>?_,fun x FV y=>?_⟩;exact⟨vs,vs[i]' Ug,q1,by simp[show i<vs.length by lia]⟩;exact⟨vs,q1,Ug⟩;obtain⟨b,u,hq,rfl,rfl,y1⟩:=y;have sF:=a8 (o:=.tup [.int i,u]) (g.sub.free hq);refine⟨_,sF,g.laid hq,fun d hd=>?_⟩;unfold iG at hd;rw[List.getElem?_zipWith] at hd;cases e1:ds[i]? with|none=>rw[e1] at hd;cases e2:(List.range ds.length)[i]?<;>rw[e2] at hd<;>cases hd|some d1=>have hi:i<ds.length:=(List.getElem?_eq_some_iff.mp e1).1;rw[e1,GN hi] at hd;cases hd;obtain⟨u',a1,a2⟩:=(r1.same s).get e1;rw[y1 vs q1] at a1;cases a1;exact .tup (dW.of aB) (.cons (.int i) (.cons (a2.same sF) .nil))
theorem jz{es:KJ}{k:Nat}{nZ:Pos}{fl:List (M D)}(hg:Gl X "enumerate")(hm:X.mg "enumerate" = none)(ha:BQ X EX [a] (mL fl))(hs:autoParam (starEach [a] X.env=[(false,eval a X.env)]) AuP.a._autoParam) : uz X EX (.Tuple es k nZ) (.Call (.Name "enumerate" p) [a] [] pos) (kP fl):=
 (zY hg hm ha hs).le fun σ H Q bH=>dX bH fun G F F1 H1 bx d1 xs s1 g1 r1 o1=>by
  obtain⟨ds,e,q⟩:=o1.opt;unfold jP at e;split at e;cases r1 with|cons h1 r1=>obtain rfl:=aN.n r1;cases e;obtain⟨_,_,rfl,h,r⟩:=Den.l h1;exact⟨_,rfl,⟨_,cn.same h g1.sub⟩,q F1 H1 _ s1 g1 (vo h r)⟩
  cases e
end
section
variable{X:Cx}{EX:XE}{L:Lc}{e a b:Expr}{fa fb fe:M D}{pos p:Pos}{x c:Str}
theorem aQ{st:Stmt}:nL X EX st a7:=fun WO s σ H E I ⟨G,F,ρ,g0,o⟩=>o.elim
structure Au(K:Frag)(D:Addr):Prop where
 pg:W.plainGet K D "__class__" = true
 hd:W.hasDictIn K D=true
 fi:W.findIn K (.ref D) "__class__" = some (some (.builtin "object.__class__"))
 mr:W.mroIn K D (.type "object")=some true
structure PJ(K:Frag)(mg:MG)(c:Str)(subs:TX):Prop where
 sp:W.specialIn K (.builtin "object.__class__") "__get__" = some (some (.builtin "getset_descriptor.__get__"))
 tk:W.takesIn K (.builtin "object.__class__")=some true
 ex:∃C,mg c=some (.ref C)/\∀p∈subs,∃D,mg p.1=some (.ref D)/\Au K D/\W.kitOne K (.ref D) (.ref C)=some p.2
def Sv(K:Frag)(C:Addr):Pk->Hp->VK->Prop:=fun xs H Q=>∃q D dx fs b,xs=[.ref q,.ref C]/\H q=some (.ins D dx fs)/\Au K D/\W.kitOne K (.ref D) (.ref C)=some b/\Q (.bl b) H
theorem AF(sp:W.specialIn X.K (.builtin "object.__class__") "__get__" = some (some (.builtin "getset_descriptor.__get__")))(tk:W.takesIn X.K (.builtin "object.__class__")=some true):eI X (.builtin "isinstance") (Sv X.K C):=by intro WO s σ H xs us Q I r h;obtain⟨q,D,dx,fs,b,rfl,hq,f,hb,k⟩:=h;obtain⟨u,v,rfl,ru,rv⟩:=vals2 r;cases ru;cases rv;obtain⟨h1,h2,h3,h4,mA,h5,h6⟩:=(show dD X.prog X.w H s.heap q (.ins D dx fs) from I.cm q _ hq);obtain⟨od,VF⟩:=(show ∃o,s.heap.get? dx=some o from I.cm dx _ h1);exact W.kia_one (W.kitx_own f.pg f.hd f.fi sp tk f.mr) I.kD ⟨h4,rfl,rfl,VF⟩ hb (fun z=>nomatch z) fun tk=>⟨.bl b,H,I.tok tk,rfl,k⟩
theorem cg{subs:TX}{pT:Pos}(T:PJ X.K X.mg c subs)(hg:Gl X "isinstance")(hm:X.mg "isinstance" = none)(L8:Gl X c)(ha:PR X EX a fa)(Vr:autoParam (Qu c) AuP.b._autoParam)
  (hs:autoParam (starEach [a,.Name c pT] X.env=(false,eval a X.env)::starEach [.Name c pT] X.env) AuP.a._autoParam) (nQ:autoParam (starEach [.Name c pT] X.env=(false,eval (.Name c pT) X.env)::starEach [] X.env) AuP.a._autoParam) (iX:autoParam ((backTo pos (starEach [.Name c pT] X.env)).any (·.1)=false) AuP.a._autoParam) :
  PV X EX (.Call (.Name "isinstance" p) [a,.Name c pT] [] pos) (m1 (bo subs) fa):=by
 obtain⟨C,hC,Hc⟩:=T.ex;exact(iQ (AF (C:=C) T.sp T.tk) hg hm boot_isinstance (bC ha (bC (kr (v:=.ref C) L8 hC rfl Vr) cY nQ) hs) (by decide) (by decide) hs iX).le fun σ H Q bH=>dX bH fun G F F1 H1 bx d1 x s1 g1 r1 o1=>by
  obtain⟨d,e,q⟩:=o1.opt;cases d1 with
  |ins c' ns vs=>
   simp only[bo] at e;cases e1:subs.lookup c' with
   |none=>rw[e1] at e;cases e|some b=>
    rw[e1] at e;cases e;obtain⟨D,hD,f,hb⟩:=Hc (c',b) (JA e1);rcases r1 with r1|⟨l,rfl,D',dx,fs,z1,z2,z3,z4⟩;cases r1 with|ins h hc r=>rw[show (lc X EX).mg c'=some (.ref D) from hD] at hc;cases hc;exact⟨_,D,_,_,b,rfl,g1.sub _ _ h,f,hb,q F1 H1 _ s1 g1 (.bl _)⟩
    rw[show (lc X EX).mg c'=some (.ref D) from hD] at z2;cases z2;exact⟨_,D,_,_,b,rfl,z1,f,hb,q F1 H1 _ s1 g1 (.bl _)⟩
  |_=>cases e
end
noncomputable def UR(lo:Int)(n:Nat):It:=⟨fun i _=>i<n,fun i H x H'=>H'=H/\x=.int (lo-i),fun i _=>n<=i⟩
theorem BD{P:Program}{w:World}{K:Frag}{tg:Expr}(it:Addr)(lo:Int)(n:Nat):Turn P w K tg (UR lo n) [it] it (fun i h=>IsRangeIter h it (lo+(i:Nat)*(-1)) ((n:Int)-(i:Nat)) (-1)) where
 mem:=O3
 obj:=fun i h st b hb=>by
  have e:b=it:=by simpa using hb
  subst e;exact⟨_,st,fun v z=>by have z':Data.fields _=Data.cell v:=z;cases z'⟩
 keep:=fun i h h' st k=>k it O3 _ st
 item:=by intro X hP hw hK hc i WO s σ H E I hf st hg;subst hP hw hK;obtain⟨f0,f1,f2,f3,f4,f5⟩:=hf it O3;refine(Walks.range (prog:=X.prog) (w:=X.w) (I.ok.hd hc) it lo (-1) n).item i s _ _ hg st fun v h' tk hv nX kk=>?_;obtain⟨t,rfl⟩:=hv;have I1:Inv X WO σ H {s with heap:=h',toks:=tk}:=I.turned (fun b o hb e=>kk b o (by simpa using hb) e) f0 f1 f3 f4 f5;refine⟨_,rfl,rh (s:={s with heap:=h',toks:=tk}) (n:="range_iterator") nX rfl rfl (by decide) ⟨.int (lo-i),H,I1,⟨t,?_⟩,⟨rfl,rfl⟩,nX,fun b hb=>(hf b hb).1⟩⟩;rw[show lo+(i:Int)*-1=lo-i by lia]
 done:=by intro X hP hw hK hc i WO s σ H E I hf st hg;subst hP hw hK;obtain⟨f0,f1,f2,f3,f4,f5⟩:=hf it O3;exact wpAny_pyNext_range_end (I.ok.hd hc) st (by have:n<=i:=hg;lia) fun h' eb=>⟨rfl,I.turned (t':=s.toks) (fun b o hb e=>eb b o hb e) f0 f1 f3 f4 f5⟩
 self:=fun _ _ _ _ _ st h=>wpAny_pyIter_rangeiter st h
section
variable{X:Cx}{EX:XE}{L:Lc}{tg a b c:Expr}{p pos:Pos}
def Rf(ta:TA):TI:=fun σ H R=>ta σ H fun vs H1=>∃i j:Int,vs=[.int i,.int j,.int (-1)]/\(-(2 ^ 62)<=i/\i<2 ^ 62/\-(2 ^ 62)<=j/\j<2 ^ 62)/\R (UR i (i-j).toNat) H1
theorem ID(hg:Gl X "range")(hm:X.mg "range" = none)(ha:PA X [a,b,c] ta)(hs:autoParam (starEach [a,b,c] X.env=[(false,eval a X.env),(false,eval b X.env),(false,eval c X.env)]) AuP.a._autoParam)(nQ:autoParam (starEach [b,c] X.env=[(false,eval b X.env),(false,eval c X.env)]) AuP.a._autoParam) : PI X tg (.Call (.Name "range" p) [a,b,c] [] pos) (Rf ta):=by
 intro WO s σ H R I h;refine Call_ (iq I hg hm boot_range (JC (bN (ha pos WO s σ H _ I h) fun us s1 zz=>?_) (by rw[hs,nQ]) (by rw[nQ];rfl)));obtain⟨vs,H1,I1,r1,q1⟩:=zz;obtain⟨i,j,e,⟨q1,q2,q3,q4⟩,q⟩:=q1;subst e;cases r1 with
 |cons r rr=>cases rr with
  |cons r' rr=>cases rr with
   |cons ZT rr=>
    cases rr;obtain⟨t,rfl⟩:=r;obtain⟨u,rfl⟩:=r';obtain⟨v,rfl⟩:=ZT;refine call_range_3 (by decide) ?_ (.inl (PyProof.noPylong_small (by decide)));have I2:Inv X WO σ H1 {s1 with heap:=s1.heap.push {cls:=.type "range",data:=.fields #[.int i t,.int j u,.int (-1) v]},toks:=s1.toks}:=I1.kept fun b o e=>RN _ e;refine wpAny_pyIter_range (IsRange.new ..) (W.small_down q1 q2 q3 q4) ?_;refine⟨(s1.heap.push {cls:=.type "range",data:=.fields #[.int i t,.int j u,.int (-1) v]}).objs.size,[(s1.heap.push {cls:=.type "range",data:=.fields #[.int i t,.int j u,.int (-1) v]}).objs.size],_,_,H1,rfl,I2.kept (t':=s1.toks) fun b o e=>RN _ e,BD _ i (i-j).toNat,?_,fun b hb=>?_,q⟩;show IsRangeIter _ _ (i+((0:Nat):Int)*(-1)) ((((i-j).toNat:Nat):Int)-((0:Nat):Int)) (-1);rw[show i+((0:Nat):Int)*(-1)=i by simp,show (((i-j).toNat:Nat):Int)-((0:Nat):Int)=Builtin.Range.rangeSize i j (-1) by rw[W.rangeSize_downNat];simp];exact Rv _ rfl;have e:b=(s1.heap.push {cls:=.type "range",data:=.fields #[.int i t,.int j u,.int (-1) v]}).objs.size:=by simpa using hb
    subst e;exact I2.nP (Gm _) (I2.cm.fresh (Gm _))
theorem DS(lo:Int)(n:Nat):FW L G F (UR lo n) ((List.range n).map fun(k:Nat)=>.int (lo-k)):=fun σ i F' H' ρ s g=>by
 refine⟨fun hi=>?_,fun hi=>?_,fun x FV y=>?_⟩;exact(by simpa using hi:i<n);exact Nat.le_of_eq (by simpa using hi.symm:n=i);obtain⟨rfl,rfl⟩:=y;refine⟨F',aE.refl _,g,fun d hd=>?_⟩;rw[CW] at hd;cases e:(List.range n)[i]? with
 |none=>rw[e] at hd;cases hd|some k=>
  rw[e] at hd;cases hd;have hi:i<n:=by have:=(List.getElem?_eq_some_iff.mp e).1;simpa using this
  rw[GN hi] at e;cases e;exact .int _
theorem JD(hg:Gl X "range")(hm:X.mg "range" = none)(ha:BQ X EX [a,b,c] (mL fl))(hs:autoParam (starEach [a,b,c] X.env=[(false,eval a X.env),(false,eval b X.env),(false,eval c X.env)]) AuP.a._autoParam)(nQ:autoParam (starEach [b,c] X.env=[(false,eval b X.env),(false,eval c X.env)]) AuP.a._autoParam) : uz X EX tg (.Call (.Name "range" p) [a,b,c] [] pos) (Ec fl):=
 (ID hg hm ha hs nQ).le fun σ H Q bH=>dX bH fun G F F1 H1 bx d1 xs s1 g1 r1 o1=>by
  obtain⟨ds,e,q⟩:=o1.opt;unfold Fb at e;split at e;rename_i i j k;cases r1 with|cons h r1=>cases r1 with|cons h2 r1=>cases r1 with|cons h3 r1=>obtain rfl:=aN.n r1;obtain rfl:=Den.i h;obtain rfl:=Den.i h2;obtain rfl:=Den.i h3;split at e;rename_i hb;cases e;obtain⟨b1,b2,b3⟩:=hb;subst b1;exact⟨i,j,rfl,⟨b2.1,b2.2,b3.1,b3.2⟩,q F1 H1 _ s1 g1 (DS i (i-j).toNat)⟩;cases e
  cases e
end
open PySem.AutoSeq1 (wpAny_loadPart')
section
variable{X:Cx}{EX:XE}{L:Lc}{a b:Expr}{fa fb:M D}{pos:Pos}
theorem aN.rep{K:Frag}{mg:MG}{F:Hp}{vs:Pk}{ds:OK}(h:aN K mg F vs ds):∀n:Nat,aN K mg F (List.replicate n vs).flatten (List.replicate n ds).flatten|0=>.nil|n+1=>by rw[IA,IA,Wo,Wo];exact aN.append h (aN.rep h n)
end
structure DM(K:Frag)(x qn:Str)(st:Stmt)(f:Addr):Prop where
 l:∃(oc:Value)(od:ZF)(kV doc pm:Value)(an:ZF)(cd ct:Value)(sl:Array (Option Value)),K.lookup f=some ⟨oc,od,.func (W.fnOf x qn (c8 st) (bQ st) (aR st) .none kV doc pm an cd ct),sl⟩/\W.codeIn K cd qn=true
 k:W.keepIn K (.ref f)=true
structure DH(K:Frag)(x:Str)(st:Stmt)(f:Addr):Prop where
 a:W.nsIn K mainGlobals x=some (some (.ref f))
 m:DM K x x st f
abbrev BO(x qn:Str)(st:Stmt)(ps:Ut):Prop:=∀(kV doc pm:Value)(an:ZF)(cd ct:Value)(us:We),us.length=ps.length->bindArgs (W.fnOf x qn (c8 st) (bQ st) (aR st) .none kV doc pm an cd ct) ⟨us,[]⟩=pure (ps.zip us)
section
variable{K:Frag}{mg:MG}{h:Heap}{x qn:Str}{st:Stmt}{f:Addr}{ps:Ut}
theorem DM.is(d:DM K x qn st f)(b:BO x qn st ps):∃fd,Gv K x qn st f fd/\Binds K fd ps []:=by obtain⟨⟨oc,od,kV,doc,pm,an,cd,ct,sl,l,c⟩,k⟩:=d;exact⟨_,Dn l c k,(Dn l c k).binds b⟩
theorem DH.is(d:DH K x st f)(X:K.In h)(G:h.Ns mainGlobals mg)(b:BO x x st ps):∃fd,oF K mg x st ps f fd:=by obtain⟨fd,F,B⟩:=d.m.is b;exact⟨fd,F,B,FI X G d.a⟩
end
theorem v0{P:We->Prop}(h:P []):∀us:We,us.length=0->P us:=fun us e=>List.length_eq_zero_iff.mp e ▸ h
theorem vc{n:Nat}{P:We->Prop}(h:∀a,∀us:We,us.length=n->P (a::us)):∀us:We,us.length=n+1->P us:=fun us e=>by cases us with|nil=>cases e|cons a us=>exact h a us (Nat.succ.inj e)
theorem Xb{x qn:Str}{st:Stmt}{p0:Str}(h:autoParam (∀(kV doc pm:Value)(an:ZF)(cd ct:Value)(a0:Value),bindArgs (W.fnOf x qn (c8 st) (bQ st) (aR st) .none kV doc pm an cd ct) ⟨[a0],[]⟩=pure ([p0].zip [a0])) AuP.c._autoParam):BO x qn st [p0]:=fun kV doc pm an cd ct=>vc fun _=>v0 (h _ _ _ _ _ _ _)
theorem Xc{x qn:Str}{st:Stmt}{p0 p1:Str}(h:autoParam (∀(kV doc pm:Value)(an:ZF)(cd ct:Value)(a0 a1:Value),bindArgs (W.fnOf x qn (c8 st) (bQ st) (aR st) .none kV doc pm an cd ct) ⟨[a0,a1],[]⟩=pure ([p0,p1].zip [a0,a1])) AuP.c._autoParam):BO x qn st [p0,p1]:=fun kV doc pm an cd ct=>vc fun _=>vc fun _=>v0 (h _ _ _ _ _ _ _ _)
theorem Xd{x qn:Str}{st:Stmt}{p0 p1 p2:Str}(h:autoParam (∀(kV doc pm:Value)(an:ZF)(cd ct:Value)(a0 a1 a2:Value),bindArgs (W.fnOf x qn (c8 st) (bQ st) (aR st) .none kV doc pm an cd ct) ⟨[a0,a1,a2],[]⟩=pure ([p0,p1,p2].zip [a0,a1,a2])) AuP.c._autoParam):BO x qn st [p0,p1,p2]:=fun kV doc pm an cd ct=>vc fun _=>vc fun _=>vc fun _=>v0 (h _ _ _ _ _ _ _ _ _)
theorem Xe{x qn:Str}{st:Stmt}{p0 p1 p2 p3:Str}(h:autoParam (∀(kV doc pm:Value)(an:ZF)(cd ct:Value)(a0 a1 a2 a3:Value),bindArgs (W.fnOf x qn (c8 st) (bQ st) (aR st) .none kV doc pm an cd ct) ⟨[a0,a1,a2,a3],[]⟩=pure ([p0,p1,p2,p3].zip [a0,a1,a2,a3])) AuP.c._autoParam):BO x qn st [p0,p1,p2,p3]:=fun kV doc pm an cd ct=>vc fun _=>vc fun _=>vc fun _=>vc fun _=>v0 (h _ _ _ _ _ _ _ _ _ _)
theorem Xf{x qn:Str}{st:Stmt}{p0 p1 p2 p3 p4:Str}(h:autoParam (∀(kV doc pm:Value)(an:ZF)(cd ct:Value)(a0 a1 a2 a3 a4:Value),bindArgs (W.fnOf x qn (c8 st) (bQ st) (aR st) .none kV doc pm an cd ct) ⟨[a0,a1,a2,a3,a4],[]⟩=pure ([p0,p1,p2,p3,p4].zip [a0,a1,a2,a3,a4])) AuP.c._autoParam):BO x qn st [p0,p1,p2,p3,p4]:=fun kV doc pm an cd ct=>vc fun _=>vc fun _=>vc fun _=>vc fun _=>vc fun _=>v0 (h _ _ _ _ _ _ _ _ _ _ _)
theorem Xg{x qn:Str}{st:Stmt}{p0 p1 p2 p3 p4 p5:Str}(h:autoParam (∀(kV doc pm:Value)(an:ZF)(cd ct:Value)(a0 a1 a2 a3 a4 a5:Value),bindArgs (W.fnOf x qn (c8 st) (bQ st) (aR st) .none kV doc pm an cd ct) ⟨[a0,a1,a2,a3,a4,a5],[]⟩=pure ([p0,p1,p2,p3,p4,p5].zip [a0,a1,a2,a3,a4,a5])) AuP.c._autoParam):BO x qn st [p0,p1,p2,p3,p4,p5]:=fun kV doc pm an cd ct=>vc fun _=>vc fun _=>vc fun _=>vc fun _=>vc fun _=>vc fun _=>v0 (h _ _ _ _ _ _ _ _ _ _ _ _)
theorem Xh{x qn:Str}{st:Stmt}{p0 p1 p2 p3 p4 p5 p6:Str}(h:autoParam (∀(kV doc pm:Value)(an:ZF)(cd ct:Value)(a0 a1 a2 a3 a4 a5 a6:Value),bindArgs (W.fnOf x qn (c8 st) (bQ st) (aR st) .none kV doc pm an cd ct) ⟨[a0,a1,a2,a3,a4,a5,a6],[]⟩=pure ([p0,p1,p2,p3,p4,p5,p6].zip [a0,a1,a2,a3,a4,a5,a6])) AuP.c._autoParam):BO x qn st [p0,p1,p2,p3,p4,p5,p6]:=fun kV doc pm an cd ct=>vc fun _=>vc fun _=>vc fun _=>vc fun _=>vc fun _=>vc fun _=>vc fun _=>v0 (h _ _ _ _ _ _ _ _ _ _ _ _ _)
theorem KU{N P:Ut}{sc:Scope}(h1:autoParam (sc.kind=.function) AuP.a._autoParam)(h2:autoParam (sc.isCoroutine=false) AuP.a._autoParam)(h3:autoParam (sc.isGenerator=false) AuP.a._autoParam)(h4:N.Nodup:=by exact Bn)(h5:autoParam (N.take P.length=P) AuP.a._autoParam)(h6:∀x∈P,sc.names.lookup x=some .local\/sc.names.lookup x=some .cell:=by exact Bn) (h7:∀y∈sc.names,y.2≠.free:=by exact Bn):c7 N P sc:=⟨h1,h2,h3,h4,h5,h6,h7⟩
theorem Po(l:Ut)(h:l.Nodup:=by exact Bn):List.Nodup l:=h
theorem qx(a:Int)(t:Tok)(l:Addr)(items:Array Value)(n:Nat)(sl:Array (Option Value)) : Meets (Builtin.«int.__rmul__» ⟨[.int a t,.ref l],[]⟩) (fun _ R s=>s.heap.get? l=some {cls:=.type "list",dict:=none,data:=.seq items n,slots:=sl}/\R (.ok (.ret Value.notImplemented)) s):=
 .of_wp fun prog w A R s h=>by obtain⟨hp,g,d,tk,os⟩:=s;obtain⟨hl,h⟩:=h;wp_walk;exact⟨_,rfl,h⟩
theorem Q1T(l:Addr)(items:Array Value)(n:Nat)(sl:Array (Option Value))(x:Int)(u:Tok)(Vm:¬(!Builtin.List.listFitsIndex x)=true)(hc1:¬items.size*x.toNat > (2 ^ 63-1) / 8)(AQ:¬Builtin.List.listTooLong (items.size*x.toNat)=true) : Meets (Builtin.«list.__mul__» ⟨[.ref l,.int x u],[]⟩) (fun _ R s=>s.heap.get? l=some {cls:=.type "list",dict:=none,data:=.seq items n,slots:=sl}/\R (.ok (.ret (Value.ref s.heap.objs.size))) {s with heap:=s.heap.push {cls:=Value.type "list",data:=Data.seq (List.foldl (fun x1 x2=>x1++x2) #[] (List.replicate (if items.isEmpty=true then 0 else x.toNat) items))},toks:=s.toks}):=
 .of_wp fun prog w A R s h=>by
  obtain⟨hp,g,d,tk,os⟩:=s;obtain⟨hl,h⟩:=h;have hsz:=AutoListH.joined_fits AQ
  wp_walk;refine wpAny_ite_false (Uy (Nat.not_lt.mpr hsz)) ?_;wp_walk;exact⟨_,rfl,h⟩
section
variable{X:Cx}{EX:XE}{L:Lc}{a b:Expr}{fa fb:M D}{pos:Pos}
def E7(K:Frag):R2:=fun x y H Q=>∃l k xs,x=.ref l/\y=.int k/\cn K H l xs/\-(2 ^ 63)<=k/\k<2 ^ 63/\xs.length*k.toNat<=sizeLine/\∀p,H p=none->Q (.ref p) (upd H p (.lst (List.replicate k.toNat xs).flatten))
theorem zV:ij X (binaryOp .Mult) (E7 X.K):=by
 intro WO s σ H x y v u Q I rx ry h;obtain⟨l,k,xs,rfl,rfl,hH,h1,h2,hz,q⟩:=h;cases rx;obtain⟨t,rfl⟩:=ry;obtain⟨aS,r,⟨⟨cls,dd,data,sl⟩,n,e,hc,Vs,hd⟩,_⟩:=I.list hH;simp only at hc Vs hd;subst hc Vs hd;have hl:=r.length;have V9:aS.toArray.size*k.toNat<=sizeLine:=by rw[Uh,<-hl];exact hz
 have Vn:¬aS.toArray.size*k.toNat > (2 ^ 63-1) / 8:=by
  have:(sizeLine:Nat)<=(2 ^ 63-1) / 8:=by decide
  lia
 have Vw:¬(!Builtin.List.listFitsIndex k)=true:=by rw[fitsIndex_both h1 h2];exact Qw
 have DE:¬Builtin.List.listTooLong (aS.toArray.size*k.toNat)=true:=by rw[vK V9];exact Qw
 have VD:List.foldl (fun x1 x2=>x1++x2) #[] (List.replicate (if aS.toArray.isEmpty=true then 0 else k.toNat) aS.toArray)=(List.replicate k.toNat aS).flatten.toArray:=by
  have f0:∀m:Nat,List.foldl (fun x1 x2=>x1++x2) #[] (List.replicate m aS.toArray)=(List.replicate m aS).flatten.toArray:=fun m=>by have:=foldl_rep aS m [];rw[List.nil_append] at this;exact this
  rw[f0];cases aS with|nil=>simp|cons a r'=>rw[S8 O3]
 refine wpAny_binaryOp_repeat_ref (T:="list") (U:="int") (by decide) ⟨_,e,rfl⟩ (fun s'=>typeIs_int s' k t) noFill_list_mul PySem.F.fills_int_mul PySem.F.slot_int_rmul repeat_list PySem.F.slot_int_index.lookup (call_meets PySem.F.slot_int_rmul (typeIs_int s k t) PySem.F.entry_int_rmul (PySem.F.args_int_rmul_2 _ _) (qx k t l aS.toArray n sl) ⟨e,rfl,⟨_,e,rfl⟩,call_meets PySem.F.slot_list_mul ⟨_,e,rfl⟩ PySem.F.entry_list_mul (PySem.F.args_list_mul_2 _ _) (Q1T l aS.toArray n sl k t Vw Vn DE) ⟨e,?_⟩⟩);rw[VD];exact⟨.ref _,_,I.MC (t':=s.toks) (r.rep k.toNat) (by rw[len_rep,Nat.mul_comm];exact hz),rfl,q _ I.fresh⟩
theorem LV:kU L (E7 L.K) mulL:=fun G F H σ ρ x y dx dy d Q g0 rx ry e k=>by
 cases dx<;>cases dy<;>try (simp only[mulL,reduceCtorEq] at e;done)
 rename_i ds i
 simp only[mulL] at e
 split at e
 ·rename_i hc
  cases e
  obtain rfl:=Den.i ry
  obtain⟨_,_,rfl,h1,r1⟩:=Den.l rx
  ·
   rename_i p vs
   have hz:=hc.2.2
   rw[<-r1.length,wW] at hz
   have hb:(ur:Int)=16777216:=rfl
   have h12:=hc.1
   have h22:=hc.2.1
   refine⟨p,i,vs,rfl,rfl,cn.same h1 g0.sub,Ug,Ug,hz,fun q hq=>?_⟩
   have sF:=a8 (o:=.lst (List.replicate i.toNat vs).flatten) (g0.sub.free hq)
   exact k _ _ _ sF (g0.laid hq) (.lst (.inl (.inl aB)) (aN.rep (aN.same sF r1) _))
 ·cases e
end
section
variable{X:Cx}{EX:XE}{L:Lc}{o e a b:Expr}{fo fa fb fe:M D}{pos Pn jb p:Pos}{name:Str}{id:String}
theorem Q25:kU L (rI Py fun i j=>.int (i ^ j.toNat)) IH:=fun G F H σ ρ x y dx dy d Q g0 rx ry e k=>by
 cases dx with
 |int i=>cases dy with|int j=>simp only[IH] at e;split at e;rename_i hb;cases e;obtain rfl:=Den.i rx;obtain rfl:=Den.i ry;exact⟨i,j,rfl,rfl,⟨hb.1,Ug,hb.2.2⟩,k F H _ (aE.refl _) g0 (.int _)⟩;cases e|_=>cases e
 |_=>cases e
end
section
variable{X:Cx}{EX:XE}{L:Lc}{e a b c:Expr}{fe fa fb:M D}{f:M Fl}{pos:Pos}{x:Str}{p:Pos}
theorem Q1a(g:L.Good G F H σ ρ)(h:own ρ[k]?=some (.lst ds)) : ∃l vs,σ[k]?=some (some (V.ref l))/\H l=some (.lst vs)/\aN L.K L.mg F vs ds/\∀wC BM,aN L.K L.mg F wC BM->L.Good G F (upd H l (.lst wC)) σ (cE k (.lst BM) ρ):=by cases q3:ρ[k]? with|none=>rw[q3] at h;cases h|some s=>rw[q3] at h;have sl:=g.slot k s q3;cases s with|no=>cases h|sh e=>cases h|ow e=>cases h;obtain⟨l,z1,z2,z3,vs,z4,z5⟩:=sl;refine⟨l,vs,join_some z1,z4,z5,fun wC BM r=>?_⟩;rw[show cE k (.lst BM) ρ=ρ.set k (.ow (.lst BM)) by unfold cE;rw[q3]];exact Good.write g q3 rfl (join_some z1) (.inl ⟨_,rfl,rfl⟩) ⟨_,aB,r⟩|io e=>cases h;obtain⟨l,z1,z2,z3,vs,z4,z5⟩:=sl;refine⟨l,vs,join_some z1,z4,z5,fun wC BM r=>?_⟩;rw[show cE k (.lst BM) ρ=ρ.set k (.io (.lst BM)) by unfold cE;rw[q3]];exact Good.write g q3 rfl (join_some z1) (.inr ⟨_,rfl,rfl⟩) ⟨_,aB,r⟩
theorem FN(hp:PassesOwn (model X.prog X.w) X.A X.env X.xe)(hc:PB X EX c ft)(hb:lx X EX body f):nL X EX (.While c body [] pos) (tU ft f):=(Q0r hp hc hb).le fun E σ H bH=>xF bH fun G F ρ g0 o=>by refine⟨fun m σ H=>∃F' bV,aE F F'/\(lc X EX).Good G F' H σ bV/\Out (gT ft f m bV) (gL (lc X EX) G F E) (cU (lc X EX) G F),⟨10000,F,ρ,aE.refl _,g0,o⟩,?_⟩;rintro m K7 H1 ⟨F1,bx,s1,g1,o1⟩;cases m with|zero=>exact o1.elim|succ m=>refine bj g1 o1 (fun x r q=>(q.same s1).x) fun F2 H2 qk d b s2 g2 r2 o2=>?_;cases r2;cases d with|false=>rw[S8 (by decide)] at o2 ⊢;exact o2 F2 H2 K7 (s1.trans s2) g2|true=>rw[WL rfl] at o2 ⊢;refine⟨fun bf H'=>∃F' bV,aE F F'/\(lc X EX).Good G F' H' bf bV/\Out (gT ft f m bV) (gL (lc X EX) G F E) (cU (lc X EX) G F),fun bf H' q=>⟨m,FG m,q⟩,?_⟩;refine⟨G,F2,qk,g2,(Out.Tz o2).mono (fun k r z=>?_) fun _ _ z=>z.same (s1.trans s2)⟩;cases k with|nx=>exact fun F' H' bf s g'=>⟨F',r,(s1.trans s2).trans s,g',z⟩|ct=>exact fun F' H' bf s g'=>⟨F',r,(s1.trans s2).trans s,g',z⟩|bk=>exact fun F' H' bf s g'=>z F' H' bf ((s1.trans s2).trans s) g'|rt d=>exact fun F' H' bf v s g'=>z F' H' bf v ((s1.trans s2).trans s) g'
theorem OP(i:Nat){Pn jb:Pos}(he:PF X EX e fe)(hN:autoParam (X.N[i]?=some x) AuP.a._autoParam)(hv:oI X.env.scope x:=by exact Vd)(hd:autoParam (Qu x) AuP.b._autoParam)
  (gp:autoParam (P7 x) AuP.b._autoParam)
  (hpe:∀{to:TE}{t:TA},PE X (.Name x p) to->PA X [e] t->PE X (.Call (.Attribute (.Name x p) "extend" Pn) [e] [] jb) (UG X.K "list" Ac to t))
  (hU:autoParam (V1 X e []) AuP.a._autoParam):nL X EX (.Expr (.Call (.Attribute (.Name x p) "extend" Pn) [e] [] jb) pos) (Ff i fe):=
 (oz (hpe (cC hN hv hd gp) (bC he cY hU))).le fun E σ H bH=>xF bH fun G F ρ g0 o=>by
  unfold Ff at o;by_cases hl:isLst (own ρ[i]?)=true;rw[WL hl] at o;obtain⟨l,vs,z1,z2⟩:=isLst_slot (L:=lc X EX) g0 hl;refine⟨_,z1,.inl ⟨rfl,_,cn.of z2⟩,bj g0 o (fun x r q=>q.x) fun F1 H1 bx d1 v s1 g1 r1 o1=>?_⟩;have o2:=Out.Tz o1;unfold fJ at o2;cases q:own bx[i]? with
  |none=>rw[q] at o2;exact o2.elim|some d0=>
   rw[q] at o2;cases d0 with
   |lst ds=>cases d1 with|lst es=>simp only[xm] at o2;split at o2;rename_i d' q2;split at q2;rename_i hz;cases q2;obtain⟨l',wC,h1,h2,h3,h4⟩:=Q1a (L:=lc X EX) g1 q;rw[z1] at h1;cases h1;obtain⟨bb,rfl,lo⟩:=r1;obtain⟨ws,hb,rb⟩:=lo.ob;refine⟨l,bb,wC,ws,rfl,rfl,h2,hb,?_,o2 F1 _ σ s1 (h4 _ _ (h3.append rb))⟩;rw[h3.length,rb.length,Lq];exact hz;cases q2;exact o2.elim|_=>simp only[xm] at o2;exact o2.elim
   |_=>simp only[xm] at o2;exact o2.elim
  rw[S8 hl] at o;exact o.elim
end
noncomputable def mx(a b:Int):Int:=if a<b then b else a
theorem yQ(ns:ZX):∀k,k<ns.length->argBest (fun i j=>decide (ns.getD i 0 > ns.getD j 0)) k<=k/\ns.getD (argBest (fun i j=>decide (ns.getD i 0 > ns.getD j 0)) k) 0=((ns.drop 1).take k).foldl mx (ns.getD 0 0)
|0,_=>⟨Gm _,by simp[argBest]⟩|k+1,h=>by
 obtain⟨i1,i2⟩:=yQ ns k Ug;have e:((ns.drop 1).take (k+1)).foldl mx (ns.getD 0 0)=mx (((ns.drop 1).take k).foldl mx (ns.getD 0 0)) (ns.getD (k+1) 0):=by
  rw[List.take_succ,List.foldl_append];have:(ns.drop 1)[k]?=some (ns.getD (k+1) 0):=by rw[List.getElem?_drop,show 1+k=k+1 by lia];simp[h]
  rw[this];rfl
 rw[e,<-i2];have st:argBest (fun i j=>decide (ns.getD i 0 > ns.getD j 0)) (k+1)=if decide (ns.getD (k+1) 0 > ns.getD (argBest (fun i j=>decide (ns.getD i 0 > ns.getD j 0)) k) 0)=true then k+1 else argBest (fun i j=>decide (ns.getD i 0 > ns.getD j 0)) k:=rfl
 rw[st];generalize argBest (fun i j=>decide (ns.getD i 0 > ns.getD j 0)) k=m at *;by_cases q:ns.getD (k+1) 0 > ns.getD m 0;rw[NU q,WL rfl];exact⟨Gm _,by unfold mx;rw[WL q]⟩;rw[Uy q,S8 (by decide)];exact⟨Ug,by unfold mx;rw[S8 q]⟩
theorem CL(i:Int)(is:ZX):(i::is).getD (argBest (fun a b=>decide ((i::is).getD a 0 > (i::is).getD b 0)) ((i::is).length-1)) 0=is.foldl mx i:=by rw[(yQ (i::is) ((i::is).length-1) O3).2];simp
open Classical in
def h8(F H:Hp)(σ:St)(ρ:aU):Hp:=fun a=>if ∃(i:Nat)(s:Sl),ρ[i]?=some s/\ck s=true/\σ[i]?=some (some (V.ref a)) then H a else F a
section
variable{K:Frag}{mg:MG}{G:Fx}{F F4 H H4:Hp}{σ:St}{ρ rV:aU}
theorem rR{i:Nat}{s:Sl}{a:Addr}(h:ρ[i]?=some s)(o:ck s=true)(e:σ[i]?=some (some (V.ref a))):h8 F H σ ρ a=H a:=WL ⟨i,s,h,o,e⟩
theorem j9(g:Good K mg G F H σ ρ)(a:Addr):(∃l d,a=l/\fF K mg F H l d/\F l=none/\h8 F H σ ρ a=H a)\/h8 F H σ ρ a=F a:=by by_cases z:∃(i:Nat)(s:Sl),ρ[i]?=some s/\ck s=true/\σ[i]?=some (some (V.ref a));refine .inl ?_;obtain⟨i,s,h1,h2,h3⟩:=id z;obtain⟨l,d,e,n,ob,_⟩:=(g.slot i s h1).own h2;rw[h3] at e;cases e;exact⟨a,d,rfl,ob,n,WL z⟩;exact .inr (S8 z)
theorem lr(g:Good K mg G F H σ ρ):aE F (h8 F H σ ρ):=fun a o e=>by
 rcases j9 g a with ⟨l,d,rfl,ob,n,q⟩|q
 rw[n] at e;cases e;rw[q];exact e
theorem Good.view(g:Good K mg G F H σ ρ):Good K mg ⟨H,h8 F H σ ρ,[]⟩ (h8 F H σ ρ) H σ (ρ.map jF) where
 sF:=aE.refl _
 sub:=fun a o e=>by
  rcases j9 g a with ⟨l,d,rfl,ob,n,q⟩|q
  rw[q] at e;exact e;rw[q] at e;exact g.sub _ _ e
 old:=fun a o e _=>e
 new:=fun a o e=>.inl e
 len:=by rw[xN];exact g.len
 slot:=fun i s h=>by rw[CW] at h;cases q:ρ[i]? with|none=>rw[q] at h;cases h|some t=>rw[q] at h;have e:jF t=s:=X6 h;subst e;have sl:=g.slot i t q;cases t with|no=>trivial|sh d=>obtain⟨u,h1,h2⟩:=sl;exact⟨u,h1,h2.same (lr g)⟩|ow d=>obtain⟨l,h1,h2,h3,h4⟩:=sl;obtain⟨o,ho⟩:=h4.has;exact⟨_,h1,h4.den ho (lr g) (by rw[rR q rfl (join_some h1)];exact ho)⟩|io d=>obtain⟨l,h1,h2,h3,h4⟩:=sl;obtain⟨o,ho⟩:=h4.has;exact⟨_,h1,h4.den ho (lr g) (by rw[rR q rfl (join_some h1)];exact ho)⟩
 apart:=fun i j l s t h1 h2 o1=>by rw[CW] at h1;cases q:ρ[i]? with|none=>rw[q] at h1;cases h1|some t=>rw[q] at h1;have e:jF t=s:=X6 h1;subst e;cases t<;>cases o1
 nt:=fun i a h=>by cases h
 nT:=fun i a b h=>by cases h
open Classical in
noncomputable def gZ(F F4 H:Hp):Hp:=fun a=>if (H a).isSome then F a else F4 a
theorem iD(h:H a=some o):gZ F F4 H a=F a:=WL (by rw[h];rfl)
theorem mw(h:H a=none):gZ F F4 H a=F4 a:=S8 (by rw[h];simp)
theorem oM(g:Good K mg G F H σ ρ)(gv:Good K mg ⟨H,h8 F H σ ρ,[]⟩ F4 H4 σ rV)(h:F4 a=some o)(n1:∀xs,o≠.lst xs)(n2:∀xs ep,o≠.dK xs ep)(n3:∀C d fs,o≠.ins C d fs):gZ F F4 H a=some o:=by
 cases q:H a with
 |none=>rw[mw q];exact h|some u=>
  rw[iD q];rcases gv.new a o h with z|z;have z':h8 F H σ ρ a=some o:=z;rcases j9 g a with ⟨l,d,rfl,ob,n,e⟩|e
  rw[e] at z';cases d with|lst ds=>obtain⟨vs,h1,_⟩:=ob;rw[h1] at z';cases z';exact absurd rfl (n1 _)|fP ks ds=>obtain⟨vs,ep,h1,_⟩:=ob;rw[h1] at z';cases z';exact absurd rfl (n2 _ _)|ins c ns ds=>obtain⟨C,dx,fs,h1,_⟩:=ob;rw[h1] at z';cases z';exact absurd rfl (n3 _ _ _)|_=>exact ob.elim
  rw[<-e];exact z';have z':H a=none:=z;rw[q] at z';cases z'
theorem dW.back(g:Good K mg G F H σ ρ)(gv:Good K mg ⟨H,h8 F H σ ρ,[]⟩ F4 H4 σ rV)(h:dW K F4 a xs):dW K (gZ F F4 H) a xs:=by
 rcases h with (h|⟨o,h⟩)|h
 exact .inl (.inl (oM g gv h (fun _ z=>nomatch z) (fun _ _ z=>nomatch z) fun _ _ _ z=>nomatch z));exact .inl (.inr ⟨o,oM g gv h (fun _ z=>nomatch z) (fun _ _ z=>nomatch z) fun _ _ _ z=>nomatch z⟩);exact .inr h
theorem yD{a b:Bool}(h:(a&&b)=true):a=true/\b=true:=(ET _ _).mp h
theorem Den.back(g:Good K mg G F H σ ρ)(gv:Good K mg ⟨H,h8 F H σ ρ,[]⟩ F4 H4 σ rV){v:V}{d:D}(h:Den K mg F4 v d):AP d=true->Den K mg (gZ F F4 H) v d:=Den.rec (motive_1:=fun v d _=>AP d=true->Den K mg (gZ F F4 H) v d) (motive_2:=fun vs ds _=>noLs ds=true->aN K mg (gZ F F4 H) vs ds) (fun _=>.bB) (fun b _=>.bl b) (fun i _=>.int i) (fun x _=>.str x) (fun h _ r n=>.tup (dW.back g gv h) (r n)) (fun _ _ _ n=>nomatch n) (fun _ _ _ n=>nomatch n) (fun _ _ _ _ n=>nomatch n) (fun _ _ _ _ _ n=>nomatch n) (fun _=>.nil) (fun _ _ h t n=>.cons (h (yD n).1) (t (yD n).2)) h
theorem aN.back(g:Good K mg G F H σ ρ)(gv:Good K mg ⟨H,h8 F H σ ρ,[]⟩ F4 H4 σ rV){vs:Pk}{ds:OK}(h:aN K mg F4 vs ds):noLs ds=true->aN K mg (gZ F F4 H) vs ds:=h.ind (P:=fun vs ds=>noLs ds=true->aN K mg (gZ F F4 H) vs ds) (fun _=>.nil) fun h _ t n=>.cons (h.back g gv (yD n).1) (t (yD n).2)
theorem Good.yv(g:Good K mg G F H σ ρ)(gv:Good K mg ⟨H,h8 F H σ ρ,[]⟩ F4 H4 σ rV):aE F (gZ F F4 H)/\Good K mg G (gZ F F4 H) H4 σ ρ:=by
 have kept:∀a o,H a=some o->H4 a=some o:=fun a o e=>gv.old a o e fun i z=>by cases z
 have sF:aE F (gZ F F4 H):=fun a o e=>by rw[iD (g.sub _ _ e)];exact e
 have nF:∀{l:Addr},F l=none->(∃o,H l=some o)->gZ F F4 H l=none:=fun {l} h ⟨o,ho⟩=>by rw[iD ho];exact h
 refine⟨sF,?_⟩;exact {
  sF:=g.sF.trans sF
  sub:=fun a o e=>by cases q:H a with|none=>rw[mw q] at e;exact gv.sub _ _ e|some u=>rw[iD q] at e;exact kept _ _ (g.sub _ _ e)
  old:=fun a o e n=>kept _ _ (g.old a o e n)
  new:=fun a o e=>by cases q:H a with|none=>exact .inr (g.El q)|some u=>rw[iD q] at e;exact g.new a o e
  len:=g.len
  slot:=fun i s h=>(g.slot i s h).same sF (fun l _ _ f t=>nF f t) fun l o _ _ e=>kept _ _ e
  apart:=g.apart
  nt:=fun i a h=>by obtain⟨⟨o,h1⟩,h2,h3⟩:=g.nt i a h;exact⟨⟨o,kept _ _ h1⟩,nF h2 ⟨o,h1⟩,h3⟩
  nT:=g.nT}
theorem Loose.yv(g:Good K mg G F H σ ρ)(gv:Good K mg ⟨H,h8 F H σ ρ,[]⟩ F4 H4 σ rV)(lo:Loose K mg ⟨H,h8 F H σ ρ,[]⟩ F4 H4 σ rV l (.lst ds))(n:noLs ds=true):Loose K mg G (gZ F F4 H) H4 σ ρ l (.lst ds):=by have h0:H l=none:=lo.n0;obtain⟨vs,h1,h2⟩:=lo.ob;refine⟨by rw[mw h0];exact lo.nF,g.El h0,⟨vs,h1,aN.back g gv h2 n⟩,fun i s h ow e=>?_⟩;obtain⟨m,d,e1,e2,e3,_⟩:=(g.slot i s h).own ow;rw[e] at e1;cases e1;obtain⟨u,hu⟩:=e3.has;rw[h0] at hu;cases hu
end
section
variable{X:Cx}{EX:XE}{e elt tg Ws:Expr}{ifs:KJ}{pos:Pos}{it:M (List D)}{gf:D->M Unit}{ft:M Bool}{fe f:M D}{js:Rx}{scope:Scope}{N':Ut}
theorem Q1p(o:Out (pL f ρ) P E):Out (f (ρ.map jF)) (fun d _=>∃ds,d=.lst ds/\noLs ds=true/\P d ρ) (fun _ _=>False):=by unfold pL at o;cases q:f (ρ.map jF) with|no=>rw[q] at o;exact o.elim|exc x r=>rw[q] at o;exact o.elim|ok d r=>rw[q] at o;cases d with|lst ds=>dsimp only at o;split at o;rename_i hn;exact⟨ds,rfl,hn,o⟩;exact o.elim|_=>exact o.elim
end
section
variable{K:Frag}{mg:MG}{F:Hp}
theorem sC:∀{aZ:List (Key×V)}{ds:OK}{k:Key}{d:D},aN K mg F (aZ.map (·.2)) ds->Qm (aZ.map (·.1)) ds k=some d->∃v,ue aZ k=some v/\Den K mg F v d|[],_,_,_,_,e=>by cases e|p::aZ,d'::ds,k,d,.cons h t,e=>by rw[Pj,Qm] at e;by_cases c:p.1=k;rw[WL c] at e;cases e;exact⟨p.2,wA c,h⟩;rw[S8 c] at e;obtain⟨v,h1,h2⟩:=sC t e;exact⟨v,(wz c).trans h1,h2⟩
theorem E3{aZ:List (Key×V)}{p:Key×V}{k:Key}{v:V}(hn:¬k∈aZ.map (·.1))(e:p.1=k):putK (p::aZ) k v=(p.1,v)::aZ:=by unfold putK;rw[WL (by simp[e])];simp only[List.map_cons,if_pos e];congr 1;refine(List.map_congr_left fun q hq=>?_).trans (List.map_id aZ);exact S8 fun(z:q.1=k)=>hn (by rw[<-z];exact IB hq)
theorem E2{aZ:List (Key×V)}{p:Key×V}{k:Key}{v:V}(e:¬p.1=k):putK (p::aZ) k v=p::putK aZ k v:=by unfold putK;simp only[List.any_cons,Uy e,Bool.false_or];split;simp[e];rfl
theorem yU(hx:Den K mg F v x):∀{aZ:List (Key×V)}{ds:OK},(aZ.map (·.1)).Nodup->aN K mg F (aZ.map (·.2)) ds->(putK aZ k v).map (·.1)=(xj k x (aZ.map (·.1)) ds).1/\aN K mg F ((putK aZ k v).map (·.2)) (xj k x (aZ.map (·.1)) ds).2|[],_,_,.nil=>⟨rfl,.cons hx .nil⟩|p::aZ,d::ds,hn,.cons h t=>by have wQ:=List.nodup_cons.mp hn;rw[Pj,xj];by_cases c:p.1=k;rw[WL c,E3 (c ▸ wQ.1) c];exact⟨rfl,.cons hx t⟩;rw[S8 c,E2 c];obtain⟨h1,h2⟩:=yU hx wQ.2 t;exact⟨by rw[Pj,h1],.cons h h2⟩
end
section
variable{X:Cx}{WO:Ul}{σ:St}{H:Hp}{s:Shared}{a:Addr}{aZ:List (Key×V)}{ep:Nat}{k:Key}{v:V}{u r:Value}{A:Around}{E:TF}
theorem kG(I:Inv X WO σ H s)(e:H a=some (.dK aZ ep)):aZ.length<=sizeLine/\(a == sysModules)=false/\∃vs,KV aZ vs/\s.heap.DictAt (fQ X.prog X.w) a vs ep:=show dD X.prog X.w H s.heap a (.dK aZ ep) from I.cm a _ e
theorem Q0y(I:Inv X WO σ H s)(e:H a=some (.dK aZ ep)):(aZ.map (·.1)).Nodup:=by obtain⟨_,_,vs,r,d⟩:=kG I e;have:=d.nodup;rwa [<-KV.keys r] at this
theorem GO(I:Inv X WO σ H s)(e:H a=some (.dK aZ ep)):s.TypeIs (.ref a) "dict" /\ (∀b,Value.ref a=.ref b->∃ob,s.heap.get? b=some ob/\ob.dict=none):=by obtain⟨_,_,vs,_,d⟩:=kG I e;refine⟨d.dictOf.typeIs,fun b q=>?_⟩;cases q;obtain⟨ob,_,h1,h2,_⟩:=d;exact⟨ob,h1,h2.2.1⟩
end
section
variable{X:Cx}{EX:XE}{e a b c:Expr}{fa fb fc:M D}{pos:Pos}{ta tb tc:TE}
theorem vQ(ha:PE X a ta)(hb:PE X b tb)(hs:Lb b):PE X (.Subscript a b pos) (fun σ H Q=>ta σ H fun x H1=>tb σ H1 fun y H2=>∃p aZ ep k v,x=.ref p/\H2 p=some (.dK aZ ep)/\y=kV k/\ue aZ k=some v/\Q v H2):=by intro WO s σ H Q I h;refine Jr PySem.F.slot_dict_getitem.lookup hs (bN (ha WO s σ H _ I h) fun u s1 ⟨x,H1,I1,rx,q1⟩=>bN (hb WO s1 σ H1 _ I1 q1) fun iv s2 zz=>?_);obtain⟨y,H2,I2,ry,p,aZ,ep,k,v,ex,eh,ey,l,q2⟩:=zz;subst ex ey;obtain rfl:u=Value.ref p:=rx;refine⟨(GO I2 eh).1,?_⟩;obtain⟨z,hd,vs,rel,dd⟩:=kG I2 eh;obtain⟨w',hw,SH⟩:=lA.some_of (v:=v) (o:=valueAt vs k) (by rw[<-l];exact rel.val k);exact wpAny_getItem_of (KG ry) dd.dictOf.mapOf hw ⟨v,H2,I2.tok _,SH,q2⟩
theorem tO(ha:PV X EX a fa)(hb:PV X EX b fb)(hs:Lb b:=by exact D6):PV X EX (.Subscript a b pos) (m2 lG fa fb):=L2.PE.le (vQ ha hb hs) fun σ H Q bH=>dX bH fun G F F1 H1 bx d1 x s1 g1 r1 o1=>bj g1 o1 (fun x r q=>q.same s1) fun F2 H2 qk d2 y s2 g2 r2 o2=>by
 obtain⟨d,e,q⟩:=o2.opt;cases r1 with
 |fP h r=>cases r2 with|int k=>obtain⟨v,h1,h2⟩:=sC (r.same s2) e;exact⟨_,_,_,.inl k,v,rfl,g2.sub _ _ (s2 _ _ h),rfl,h1,q F2 H2 v (s1.trans s2) g2 h2⟩|_=>cases e
 |_=>cases e
theorem zW:PF X EX (.Dict [] [] pos) (mC (.fP [] [])):=fun WO s σ H Q I zz=>by obtain⟨G,F,ρ,g,o⟩:=zz;have hp:=I.cm.fresh (Gm s.heap.objs.size);have dd:(s.heap.push {cls:=.type "dict",data:=.dict #[]}).DictAt (fQ X.prog X.w) s.heap.objs.size [] 0:=⟨_,_,Rv _ rfl,⟨rfl,rfl,rfl⟩,rfl,fun _ h=>(by simp at h),.nil,O3⟩;have ob:dD X.prog X.w H (s.heap.push {cls:=.type "dict",data:=.dict #[]}) s.heap.objs.size (.dK [] 0):=⟨Xq _,beq_eq_false_iff_ne.mpr (UH (Wi I.big)),[],.nil,dd⟩;exact wpAny_Dict_empty ⟨.ref s.heap.objs.size,_,I.laid (a:=s.heap.objs.size) (o:=.dK [] 0) (t':=s.toks) (fun _ _ q=>RN _ q) (Gm _) ob,rfl,o F _ _ (aE.refl _) (g.made hp) ⟨_,rfl,g.loose hp ⟨[],0,aB,rfl,.nil⟩⟩⟩
end
def UT(a:Addr)(aZ:List (Key×V))(ep:Nat):It:=⟨fun i H=>H a=some (.dK aZ ep)/\i<aZ.length,fun i H x H'=>H'=H/\∃p,aZ[i]?=some p/\x=kV p.1,fun i H=>H a=some (.dK aZ ep)/\i=aZ.length⟩
theorem Rr(h:(fQ P w).is k u=true):RelV (kV k) u:=by
 rcases b8 (k:=k) (v:=u) h with ⟨i,t,rfl,rfl⟩|⟨x,t,rfl,rfl⟩
 exact⟨t,rfl⟩;exact⟨t,rfl⟩
theorem BF{P:Program}{w:World}{K:Frag}{tg:Expr}(a it:Addr)(aZ:List (Key×V))(ep:Nat):Turn P w K tg (UT a aZ ep) [it] it (fun i h=>h.IsKeyIter it a i aZ.length ep) where
 mem:=O3
 obj:=fun i h st b hb=>by
  have e:b=it:=by simpa using hb
  subst e;obtain⟨o,e,c,d⟩:=st;exact⟨o,e,fun v z=>by rw[d] at z;cases z⟩
 keep:=fun i h h' st k=>st.at fun o e=>k it O3 o e
 item:=by
  intro X hP hw hK hc i WO s σ H E I hf st hg;subst hP hw hK;obtain⟨eh,hi⟩:=hg;obtain⟨z,hd,vs,rel,dd⟩:=kG I eh;have hl:aZ.length=vs.length:=SO rel;obtain⟨f0,f1,f2,f3,f4,f5⟩:=hf it O3;obtain⟨⟨k,x⟩,hx⟩:∃p,vs[i]?=some p:=⟨_,Uz Ug⟩;have hk:aZ[i]?=some aZ[i]:=Uz hi;have Y4:aZ[i].1=k:=by have h1:=congrArg (fun l=>l[i]?) (KV.keys rel);simp only[List.getElem?_map,hk,hx,Option.map_some] at h1;exact X6 h1
  rw[hl] at st;refine wpAny_pyNext_dict_item st dd hx fun key h' Ma nX sb=>?_;have I1:Inv X WO σ H {s with heap:=h'}:=I.turned (t':=s.toks) (fun b o hb e=>(sb.2 b hb).trans e) f0 f1 f3 f4 f5;obtain⟨o,e,c,d⟩:=id nX;rw[<-hl] at nX;exact⟨key,rfl,rh (s:={s with heap:=h'}) e c d (by decide) ⟨kV k,H,I1,Rr Ma,⟨rfl,_,hk,by rw[Y4]⟩,nX,fun b hb=>(hf b hb).1⟩⟩
 done:=by intro X hP hw hK hc i WO s σ H E I hf st hg;subst hP hw hK;obtain⟨eh,hi⟩:=hg;obtain⟨z,hd,vs,rel,dd⟩:=kG I eh;have hl:aZ.length=vs.length:=SO rel;obtain⟨f0,f1,f2,f3,f4,f5⟩:=hf it O3;rw[hl] at st hi;exact wpAny_pyNext_dict_end (I.ok.hd hc) st dd (by simp[hi]) fun h' eb=>⟨rfl,I.turned (t':=s.toks) (fun b o hb e=>eb b o hb e) f0 f1 f3 f4 f5⟩
 self:=fun _ _ _ _ _ st h=>wpAny_pyIter_keyiter st h
section
variable{X:Cx}{EX:XE}{L:Lc}{e a b c tg:Expr}{fa fb fe:M D}{pos:Pos}
theorem IE{l:Expr}{tl:TE}(hl:PE X l tl):PI X tg l (fun σ H R=>tl σ H fun x H1=>∃a aZ ep,x=.ref a/\H1 a=some (.dK aZ ep)/\R (UT a aZ ep) H1):=by
 intro WO s σ H R I h;refine bN (hl WO s σ H _ I h) fun v s1 zz=>?_;obtain⟨x,H1,I1,r1,a,aZ,ep,e,eh,q⟩:=zz;subst e;cases r1;obtain⟨z,hd,vs,rel,dd⟩:=kG I1 eh;have hl:aZ.length=vs.length:=SO rel;refine wpAny_pyIter_dict hd dd ?_;refine⟨s1.heap.objs.size,[s1.heap.objs.size],_,_,H1,rfl,I1.kept (t':=s1.toks) fun b o e=>RN _ e,BF a _ aZ ep,⟨_,Rv _ rfl,rfl,by rw[hl];rfl⟩,fun b hb=>?_,q⟩;have e:b=s1.heap.objs.size:=by simpa using hb
 subst e;exact I1.nP (Gm _) (I1.cm.fresh (Gm _))
theorem Hs{K:Frag}{mg:MG}{F:Hp}(k:Key):Den K mg F (kV k) (DW k):=by cases k with|inl i=>exact .int i|inr x=>exact .str x
theorem DT{G:Fx}{F:Hp}{a:Addr}{aZ:List (Key×V)}{ep:Nat}(h:F a=some (.dK aZ ep)):FW L G F (UT a aZ ep) ((aZ.map (·.1)).map DW):=fun σ i F' H' ρ s g=>by have h':=g.sub _ _ (s _ _ h);refine⟨fun hi=>⟨h',by simpa using hi⟩,fun hi=>⟨h',by simpa using hi⟩,fun x FV zz=>?_⟩;obtain⟨e,p,hp,hx⟩:=zz;subst e;refine⟨F',aE.refl _,g,fun d hd=>?_⟩;rw[CW,CW,hp] at hd;have:DW p.1=d:=X6 hd;subst this;rw[hx];exact Hs p.1
theorem Q1Z(h:PV X EX e fe):uz X EX tg e (vA fe):=L2.PI.le (IE h) fun σ H Q bH=>dX bH fun G F F1 H1 bx d1 y s1 g1 r1 o1=>by obtain⟨ds,e,q⟩:=o1.opt;cases r1 with|fP h r=>cases e;exact⟨_,_,_,rfl,g1.sub _ _ h,q F1 H1 _ s1 g1 (DT h)⟩|_=>cases e
end
section
variable{X:Cx}{EX:XE}{L:Lc}{e a b c value:Expr}{fa fb fe fk fv:M D}{pos:Pos}{x:Str}{to ti tv:TE}
theorem EY(ho:PE X o to)(hi:PE X i ti)(hv:PE X value tv)(hs:swapsWith value (some (.Subscript o i UA)) pos.line X.env=pure false) : PS X (.Assign [.Subscript o i UA] value pos) (fun D σ H=>tv σ H fun v H1=>to σ H1 fun x H2=>ti σ H2 fun y H3=>∃a aZ ep k,x=.ref a/\H3 a=some (.dK aZ ep)/\y=kV k/\aZ.length<sizeLine/\((aZ.map (·.1)).Nodup->∀oS,D.nx σ (upd H3 a (.dK (putK aZ k v) oS)))):=by
 intro WO s σ H D I h;refine wpAny_Assign_Subscript (bN (hv WO s σ H _ I h) fun r s1 ⟨v,H1,I1,rv,q1⟩=>bN (ho WO s1 σ H1 _ I1 q1) fun u s2 ⟨x,H2,I2,rx,q2⟩=>bN (hi WO s2 σ H2 _ I2 q2) fun iv s3 zz=>?_) hs;obtain⟨y,H3,I3,ry,a,aZ,ep,k,ex,eh,ey,hl,q3⟩:=zz;subst ex ey;obtain rfl:u=Value.ref a:=rx;obtain⟨z,hd,vs,rel,dd⟩:=kG I3 eh;have hz:vs.length<=sizeLine:=by rw[<-rel.length];exact z
 have hl:(putK aZ k v).length<=sizeLine:=by have:=vv aZ k v;lia
 refine wpAny_setItem_pairs (hsz:=hz) (KG ry) dd.dictOf fun h' U4 hs=>?_;obtain⟨oS,da⟩:=U4.dictAt;have he:∃q,h'.get? a=some q:=let ⟨q,_,hq,_⟩:=da;⟨q,hq⟩;refine⟨σ,_,I3.write (x:=a) (e:=a) (by rw[eh];exact True.intro) (.inl rfl) (fun b q hb z=>(hs.2 b hb).trans z) he (o:=.dK (putK aZ k v) oS) ⟨hl,hd,_,rel.put k rv,da⟩,q3 (Q0y I3 eh) oS⟩
theorem Q0X{G:Fx}{F H:Hp}{σ:St}{ρ:aU}{k:Nat}{kd x:D}{v:V}{P:Unit->aU->Prop}{E:Xn->aU->Prop}(g:L.Good G F H σ ρ)(r:Den L.K L.mg F v x)(o:Out (fJ k (putD kd x) ρ) P E) : ∃l aZ ep i bV,kd=.int i/\σ[k]?=some (some (V.ref l))/\H l=some (.dK aZ ep)/\aZ.length<sizeLine/\((aZ.map (·.1)).Nodup->∀oS,L.Good G F (upd H l (.dK (putK aZ (.inl i) v) oS)) σ bV)/\P () bV:=by
 unfold fJ at o;cases q:own ρ[k]? with
 |none=>rw[q] at o;exact o.elim|some d=>
  rw[q] at o;dsimp only at o;cases q2:putD kd x d with
  |none=>rw[q2] at o;exact o.elim|some d'=>
   rw[q2] at o;have o':P () (cE k d' ρ):=o;cases d with
   |fP ks vs=>
    cases kd with
    |int i=>
     simp only[putD] at q2;split at q2;rename_i iA;cases q2;cases q3:ρ[k]? with
     |none=>rw[q3] at q;cases q|some s=>
      rw[q3] at q;have sl:=g.slot k s q3;have fin:∀l s',σ[k]?=some (some (V.ref l))->ck s=true->fF L.K L.mg F H l (.fP ks vs)->((∃e,s=.ow e/\s'=.ow (.fP (xj (.inl i) x ks vs).1 (xj (.inl i) x ks vs).2))\/(∃e,s=.io e/\s'=.io (.fP (xj (.inl i) x ks vs).1 (xj (.inl i) x ks vs).2)))->cE k (.fP (xj (.inl i) x ks vs).1 (xj (.inl i) x ks vs).2) ρ=ρ.set k s'->∃l aZ ep i' bV,D.int i=.int i'/\σ[k]?=some (some (V.ref l))/\H l=some (.dK aZ ep)/\aZ.length<sizeLine/\((aZ.map (·.1)).Nodup->∀oS,L.Good G F (upd H l (.dK (putK aZ (.inl i') v) oS)) σ bV)/\P () bV:=fun l s' z1 z2 z3 z4 z5=>by
       obtain⟨aZ,ep,y1,y2,y3⟩:=z3;refine⟨l,aZ,ep,i,ρ.set k s',rfl,z1,y1,?_,fun hn oS=>?_,by rw[<-z5];exact o'⟩;have:aZ.length=ks.length:=by rw[<-y2];simp
       exact EN Ug (show 1000<sizeLine by decide);subst y2;obtain⟨h1,h2⟩:=yU r (k:=.inl i) hn y3;exact Good.write g q3 z2 z1 z4 ⟨_,oS,aB,h1,h2⟩
      cases s with|no=>cases q|sh e=>cases q|ow e=>cases q;obtain⟨l,z1,z2,z3,z4⟩:=sl;exact fin l _ (join_some z1) rfl z4 (.inl ⟨_,rfl,rfl⟩) (by unfold cE;rw[q3])|io e=>cases q;obtain⟨l,z1,z2,z3,z4⟩:=sl;exact fin l _ (join_some z1) rfl z4 (.inr ⟨_,rfl,rfl⟩) (by unfold cE;rw[q3])
     cases q2
    |_=>cases q2
   |_=>cases q2
theorem Ap(i:Nat){p1 p2:Pos}(hk:PV X EX b fk)(hv:PV X EX value fv)(hN:autoParam (X.N[i]?=some x) AuP.a._autoParam)(Mi:oI X.env.scope x:=by exact Vd)(hd:autoParam (Qu x) AuP.b._autoParam)(gp:autoParam (P7 x) AuP.b._autoParam) (hs:autoParam (swapsWith value (some (.Subscript (.Name x p1) b p2)) pos.line X.env=pure false) AuP.a._autoParam):nL X EX (.Assign [.Subscript (.Name x p1) b p2] value pos) (Ai i fk fv):=
 L2.PS.le (EY (cC hN Mi hd gp) hk hv hs) fun E σ H bH=>xF bH fun G F ρ g0 o=>bj g0 o (fun x r q=>q.x) fun F1 H1 bx d1 v s1 g1 r1 o1=>by by_cases hl:(own bx[i]?).isSome=true;rw[WL hl] at o1;obtain⟨l,d0,z1,_,_⟩:=lX (L:=lc X EX) g1 hl;refine⟨_,z1,bj g1 o1 (fun x r q=>(q.same s1).x) fun F2 H2 qk d2 y s2 g2 r2 o2=>?_⟩;obtain⟨l',aZ,ep,k,bV,y0,y1,y2,y3,g3,q⟩:=Q0X (L:=lc X EX) g2 (r1.same s2) (Out.Tz o2);rw[z1] at y1;cases y1;subst y0;obtain rfl:=Den.i r2;exact⟨l,aZ,ep,.inl k,rfl,y2,rfl,y3,fun hn oS=>q F2 _ σ (s1.trans s2) (g3 hn oS)⟩;rw[S8 hl] at o1;exact o1.elim
theorem xg:eI X (.type "dict") (fun xs H Q=>∃a aZ ep,xs=[V.ref a]/\H a=some (.dK aZ ep)/\∀p oS,H p=none->Q (.ref p) (upd H p (.dK aZ oS))):=by intro WO s σ H xs us Q I rs h;obtain⟨a,aZ,ep,rfl,e,q⟩:=h;obtain⟨u,rfl,ru⟩:=vals1 rs;cases ru;obtain⟨z,hd,vs,rel,dd⟩:=kG I e;refine kt_call_dict hd dd.dictOf (by rw[<-rel.length];exact z) fun h' U4 hs=>?_;obtain⟨oS,da⟩:=U4.dictAt;refine⟨.ref s.heap.objs.size,_,I.laid (a:=s.heap.objs.size) (o:=.dK aZ oS) (t':=s.toks) (fun b q hq=>?_) (Gm _) ⟨z,beq_eq_false_iff_ne.mpr (UH (Wi I.big)),vs,rel,da⟩,rfl,q _ oS (I.cm.fresh (Gm _))⟩;exact(hs.2 b (Wi (Hh hq))).trans (RN _ hq)
theorem Q0F{x:Str}{p:Pos}(AR:Gl X x)(hm:X.mg x=none)(hv:bootBuiltins x=some (.type "dict"))(ha:PV X EX a fa)(hn:autoParam (x≠"__name__") AuP.b._autoParam)(jH:autoParam (Qu x) AuP.b._autoParam)(hs:autoParam (V1 X a []) AuP.a._autoParam):PF X EX (.Call (.Name x p) [a] [] pos) (m1 qQ fa):=
 L2.PE.le (mU xg AR hm hv (pV (PV.rd ha) hs) hn jH hs rfl) fun σ H Q bH=>dX bH fun G F F1 H1 bx d1 x s1 g1 r1 o1=>by
  obtain⟨d,e,q⟩:=o1.opt;have z:∃l aZ ep ds,x=.ref l/\d1=.fP (aZ.map (·.1)) ds/\H1 l=some (.dK aZ ep)/\aN X.K X.mg F1 (aZ.map (·.2)) ds:=by
   rcases r1 with r1|⟨l,rfl,ob⟩;cases r1 with|fP h r=>exact⟨_,_,_,_,rfl,rfl,g1.sub _ _ h,r⟩|_=>cases e
   cases d1 with|fP ks ds=>obtain⟨aZ,ep,h1,rfl,h3⟩:=ob;exact⟨l,aZ,ep,ds,rfl,rfl,h1,h3⟩|_=>cases e
  obtain⟨l,aZ,ep,ds,rfl,rfl,h1,h2⟩:=z;cases e;exact⟨l,aZ,ep,rfl,h1,fun p oS hl=>q _ _ _ s1 (g1.made hl) ⟨p,rfl,g1.loose hl ⟨aZ,oS,aB,rfl,h2⟩⟩⟩
theorem z9{x:Str}{p:Pos}(AR:Gl X x)(hm:X.mg x=none)(hv:bootBuiltins x=some (.type "dict"))(ha:PV X EX a fa)(hn:autoParam (x≠"__name__") AuP.b._autoParam)(jH:autoParam (Qu x) AuP.b._autoParam)(hs:autoParam (V1 X a []) AuP.a._autoParam):PV X EX (.Call (.Name x p) [a] [] pos) (m1 qQ fa):=PF.pv (Q0F AR hm hv ha hn jH hs)
theorem boot_dict:bootBuiltins "dict" = some (.type "dict"):=by kernel_rfl
end
section
variable{X:Cx}{EX:XE}{L:Lc}{e a b c:Expr}{fa fb:M D}{pos:Pos}
abbrev Tx(v a:Addr):HO:=.ext fun h=>h.IsValuesView v a
theorem Q1N:UX X "dict.values" (fun x xs H Q=>∃a aZ ep,x=.ref a/\xs=[]/\H a=some (.dK aZ ep)/\∀v,H v=none->Q (.ref v) (upd H v (Tx v a))):=by intro WO s σ H x xs v us Q I rx rs h;obtain⟨a,aZ,ep,rfl,rfl,e,q⟩:=h;cases rx;have Zj:=rs.zero;subst Zj;obtain⟨z,hd,vs,rel,dd⟩:=kG I e;refine call_meetsIn PySem.F.slot_dict_values dd.dictOf.typeIs PySem.F.entry_dict_values (PySem.F.args_dict_values_1 _) (meets_dict_values (fQ X.prog X.w) a hd) ⟨⟨_,dd.dictOf⟩,?_⟩;have vw:(s.heap.push {cls:=.type "dict_values",data:=.fields #[.ref a]}).IsValuesView s.heap.objs.size a:=⟨_,Rv _ rfl,rfl,rfl⟩;exact⟨.ref s.heap.objs.size,_,I.laid (a:=s.heap.objs.size) (o:=Tx s.heap.objs.size a) (t':=s.toks) (fun _ _ q=>RN _ q) (Gm _) ⟨vw,⟨_,Rv _ rfl⟩,fun h1 h2 ⟨o,ho,r⟩ k=>⟨o,k _ ho,r⟩⟩,rfl,q _ (I.cm.fresh (Gm _))⟩
theorem rC{α β:Type}{F:α->β->Prop}:∀{D8:List α}{D9:List β}{j:Nat}{p:α}{q:β},Paired F D8 D9->D8[j]?=some p->D9[j]?=some q->F p q|_,_,0,_,_,.cons h _,e1,e2=>by simp at e1 e2;subst e1 e2;exact h|_,_,j+1,_,_,.cons _ t,e1,e2=>rC (j:=j) t (by simpa using e1) (by simpa using e2)|_,_,j,_,_,.nil,e1,_=>by simp at e1
theorem AH(hc:X.calm=true):eI X (.builtin "max") (fun xs H Q=>∃v a aZ ep i is,xs=[V.ref v]/\H v=some (Tx v a)/\H a=some (.dK aZ ep)/\aZ.map (·.2)=(i::is).map V.int/\Q (.int (is.foldl mx i)) H):=by
 intro WO s σ H xs us Q I rs h;obtain⟨v,a,aZ,ep,i,is,rfl,ev,ea,hk,q⟩:=h;obtain⟨u,rfl,ru⟩:=vals1 rs;cases ru;obtain⟨vw,_,_⟩:=(show dD X.prog X.w H s.heap v (Tx v a) from I.cm v _ ev);obtain⟨z,hd,vs,rel,dd⟩:=kG I ea;have hl:aZ.length=vs.length:=SO rel;have Gi:aZ.length=is.length+1:=by have:=congrArg List.length hk;simpa using this
 have lt:a<s.heap.objs.size:=dd.lt_size;have vals:∀j w,(∃k,vs[j]?=some (k,w))->∃t,w=Value.int ((i::is).getD j 0) t:=fun j w ⟨k,hj⟩=>by
  have Vy:=(List.getElem?_eq_some_iff.mp hj).1;obtain⟨p,hp⟩:∃p,aZ[j]?=some p:=⟨_,Uz Ug⟩;have hr:=rC rel hp hj;have e2:=congrArg (fun l=>l[j]?) hk;simp only[List.getElem?_map,hp,Option.map_some] at e2;have e3:p.2=V.int ((i::is).getD j 0):=by
   have QX:j<(i::is).length:=by simp;lia
   rw[Uz QX] at e2;have:=X6 e2;rw[this];simp[OR,Uz QX]
  have Q4:=hr.2;rw[e3] at Q4;exact Q4
 refine call_max_walk (wpAny_pyIter_values vw dd ?_);refine⟨s.heap.objs.size,_,_,_,_,_,_,rfl,Walks.dictValues (A:=X.A.in1) (knd:=fQ X.prog X.w) (I.ok.hd hc) s.heap.objs.size a (Wi lt) vs ep,⟨⟨_,Rv _ rfl,rfl,rfl⟩,dd.push _⟩,fun b hb=>?_,Ug,CmpOf.ints_gt (fun j=>(i::is).getD j 0) vals,fun w h' tk hw kp=>?_⟩;rw[sA];simp at hb;rcases hb with rfl|rfl;exact FG _;exact QB lt;obtain⟨t,e⟩:=vals _ _ hw;refine⟨.int (is.foldl mx i),H,I.kept fun b o e=>kp b o (fun hm=>?_) (RN _ e),⟨t,?_⟩,q⟩;have:=Hh e;have zb:b=s.heap.objs.size:=by simpa using hm
 rw[zb] at this;exact xO _ this;rw[e,<-CL i is,show vs.length-1=(i::is).length-1 by simp;lia]
theorem IP{p ap cp:Pos}(hc:X.calm=true)(AR:Gl X "max")(hm:X.mg "max" = none)(hv:bootBuiltins "max" = some (.builtin "max"))(ha:PV X EX a fa)
  (hb:autoParam (attributeBase a "values" X.env (eval a X.env)=eval a X.env) AuP.a._autoParam) (vm:autoParam ((ap.endLine == cp.line)=true) AuP.a._autoParam)
  (hs:autoParam (starEach [.Call (.Attribute a "values" ap) [] [] cp] X.env=(false,eval (.Call (.Attribute a "values" ap) [] [] cp) X.env)::starEach [] X.env) AuP.a._autoParam) :
  PV X EX (.Call (.Name "max" p) [.Call (.Attribute a "values" ap) [] [] cp] [] pos) (m1 nB fa):=
 L2.PE.le (iQ (AH hc) AR hm hv (bC (Q0z PySem.F.plainAttrs_dict PySem.F.slot_dict_values PySem.F.type_dict_values Q1N ha hb vm) cY hs) (by decide) (by decide) hs rfl) fun σ H Q bH=>dX bH fun G F F1 H1 bx d1 x s1 g1 r1 o1=>by obtain⟨d,e,q⟩:=o1.opt;cases r1 with|@fP p0 aZ ep ds h r=>simp only[nB] at e;split at e;rename_i i is hi;cases e;have ev:=ints_of r hi;have h1:=g1.sub _ _ h;refine⟨.inr (.inr (.inl ⟨rfl,.inl ⟨_,_,h1⟩⟩)),p0,aZ,ep,rfl,rfl,h1,fun v hv=>⟨v,p0,aZ,ep,i,is,rfl,aB,?_,ev,q F1 _ _ s1 (g1.made hv) (.int _)⟩⟩;rw[aF (aT h1 hv)];exact h1;cases e|_=>cases e
end
section
variable{X:Cx}{EX:XE}{L:Lc}{e a b:Expr}{fa fb fe:M D}{pos p:Pos}{c1 c2:Str}
structure PK(K:Frag)(mg:MG)(c1 c2:Str)(subs:TX):Prop where
 sp:W.specialIn K (.builtin "object.__class__") "__get__" = some (some (.builtin "getset_descriptor.__get__"))
 tk:W.takesIn K (.builtin "object.__class__")=some true
 ex:∃C1 C2,mg c1=some (.ref C1)/\mg c2=some (.ref C2)/\∀p∈subs,∃D,mg p.1=some (.ref D)/\Au K D/\W.kitAny K (.ref D) [.ref C1,.ref C2]=some p.2
theorem AG(sp:W.specialIn X.K (.builtin "object.__class__") "__get__" = some (some (.builtin "getset_descriptor.__get__")))(tk:W.takesIn X.K (.builtin "object.__class__")=some true) : eI X (.builtin "isinstance") (fun xs H Q=>∃q t D dx fs b,xs=[.ref q,.ref t]/\H q=some (.ins D dx fs)/\H t=some (.tup [.ref C1,.ref C2])/\Au X.K D/\W.kitAny X.K (.ref D) [.ref C1,.ref C2]=some b/\Q (.bl b) H):=by
 intro WO s σ H xs us Q I r h;obtain⟨q,t,D,dx,fs,b,rfl,hq,ht,f,hb,k⟩:=h;obtain⟨u,v,rfl,ru,rv⟩:=vals2 r;cases ru;cases rv;obtain⟨h1,h2,h3,h4,mA,h5,h6⟩:=(show dD X.prog X.w H s.heap q (.ins D dx fs) from I.cm q _ hq);obtain⟨od,VF⟩:=(show ∃o,s.heap.get? dx=some o from I.cm dx _ h1);obtain⟨_,aS,rv,⟨o,ho,hc,⟨n,T5⟩,Vs⟩⟩:=(show dD X.prog X.w H s.heap t (.tup [.ref C1,.ref C2]) from I.cm t _ ht);obtain⟨u1,u2,rfl,r1,r2⟩:=vals2 rv;cases r1;cases r2;have eo:o=⟨.type "tuple",o.dict,.seq [Value.ref C1,.ref C2].toArray n,o.slots⟩:=by rw[<-hc,<-T5]
 rw[eo] at ho;exact W.kia_tup (W.kitx_own f.pg f.hd f.fi sp tk f.mr) I.kD ⟨h4,rfl,rfl,VF⟩ ho hb (fun z=>nomatch z) fun tk=>⟨.bl b,H,I.tok tk,rfl,k⟩
theorem IM{subs:TX}{p1 p2 p3:Pos}{x1}(T:PK X.K X.mg c1 c2 subs)(hg:Gl X "isinstance")(hm:X.mg "isinstance" = none)(ha:PR X EX a fa)(YV:autoParam (Gl X c1) AuP.a._autoParam)(YW:autoParam (Gl X c2) AuP.a._autoParam)(Vq:autoParam (Qu c1) AuP.b._autoParam)(hd2:autoParam (Qu c2) AuP.b._autoParam)
  (hs:autoParam (starEach [a,.Tuple [.Name c1 p1,.Name c2 p2] x1 p3] X.env=(false,eval a X.env)::starEach [.Tuple [.Name c1 p1,.Name c2 p2] x1 p3] X.env) AuP.a._autoParam)
  (nQ:autoParam (starEach [.Tuple [.Name c1 p1,.Name c2 p2] x1 p3] X.env=(false,eval (.Tuple [.Name c1 p1,.Name c2 p2] x1 p3) X.env)::starEach [] X.env) AuP.a._autoParam)
  (Zf:autoParam (starEach [.Name c1 p1,.Name c2 p2] X.env=(false,eval (.Name c1 p1) X.env)::starEach [.Name c2 p2] X.env) AuP.a._autoParam) (Zg:autoParam (starEach [.Name c2 p2] X.env=(false,eval (.Name c2 p2) X.env)::starEach [] X.env) AuP.a._autoParam)
  (iX:autoParam ((backTo pos (starEach [.Tuple [.Name c1 p1,.Name c2 p2] x1 p3] X.env)).any (·.1)=false) AuP.a._autoParam) :
  PV X EX (.Call (.Name "isinstance" p) [a,.Tuple [.Name c1 p1,.Name c2 p2] x1 p3] [] pos) (m1 (bo subs) fa):=by
 obtain⟨C1,C2,YC,YD,Hc⟩:=T.ex;exact L2.PE.le (iQ (AG (C1:=C1) (C2:=C2) T.sp T.tk) hg hm boot_isinstance (bC ha (bC (x4 (bC (kr (v:=.ref C1) YV YC rfl Vq) (bC (kr (v:=.ref C2) YW YD rfl hd2) cY Zg) Zf)) cY nQ) hs) (by decide) (by decide) hs iX) fun σ H Q bH=>dX bH fun G F F1 H1 bx d1 x s1 g1 r1 o1=>by
  obtain⟨d,e,q⟩:=o1.opt;refine⟨show (2:Nat)<=sizeLine by decide,fun t ht=>?_⟩;cases d1 with
  |ins c' ns vs=>
   simp only[bo] at e;cases e1:subs.lookup c' with
   |none=>rw[e1] at e;cases e|some b=>
    rw[e1] at e;cases e;obtain⟨D,hD,f,hb⟩:=Hc (c',b) (JA e1);rcases r1 with r1|⟨l,rfl,D',dx,fs,z1,z2,z3,z4⟩;cases r1 with|ins h hc r=>rw[show (lc X EX).mg c'=some (.ref D) from hD] at hc;cases hc;have h1:=g1.sub _ _ h;exact⟨_,t,D,_,_,b,rfl,by rw[aF (aT h1 ht)];exact h1,aB,f,hb,q F1 _ _ s1 (g1.made ht) (.bl _)⟩
    rw[show (lc X EX).mg c'=some (.ref D) from hD] at z2;cases z2;exact⟨_,t,D,_,_,b,rfl,by rw[aF (aT z1 ht)];exact z1,aB,f,hb,q F1 _ _ s1 (g1.made ht) (.bl _)⟩
  |_=>cases e
end
structure Pw(K:Frag)(mg:MG)(c m:Str)(C f:Addr):Prop where
 mg:mg c=some (.ref C)
 sp:W.specialIn K (.ref C) "__getattribute__" = some (some (.builtin "type.__getattribute__"))
 rd:W.readsIn K C (.type "type")=true
 fi:W.findCls K (.ref C) (.type "type") m=some (.val (.ref f))
 kp:W.keepIn K (.ref f)=true
section
variable{X:Cx}{EX:XE}{e:Expr}{es:KJ}{as:List VP.Arg}{pos p Pn:Pos}{CX:wJ}{k:Nat}{C fA:Addr}{fd:FuncData}{ps:Ut}{c m:Str}{fl:X4}{fs:Fn}
theorem IK{pl:Sem Bool}(B:Pw X.K X.mg c m C fA)(F:cj X.prog X.w X.K X.mg X.base CX k fA fd ps (oC X.K X.mg fl fs))(hr:bY k X.A)(hb:Binds X.K fd ps [])(hx:gK CX X EX)(ha:yA X EX (e::es) as)(hg:autoParam (Gl X c) AuP.a._autoParam)(sL:autoParam (as.map VP.Arg.isIo=fl) AuP.a._autoParam)
  (jH:autoParam (Qu c) AuP.b._autoParam) (hU:autoParam (V1 X e es) AuP.a._autoParam) (iX:autoParam (Jn X pos es) AuP.a._autoParam)
  (ht:autoParam (eval (.Call (.Attribute (.Name c p) m Pn) (e::es) [] pos) X.env=(do
   let ov <-eval (.Name c p) X.env
   standAt Pn.atName
   let (f,first) <-holding [ov] (getMethod ov m pl)
   callWith pos f first (backTo pos (starEach (e::es) X.env)) (backToKw pos (keywordEach [] X.env)))) AuP.a._autoParam) :
  PV X EX (.Call (.Attribute (.Name c p) m Pn) (e::es) [] pos) (ax fs as):=by
 intro WO s σ H Q I h;obtain⟨G,F0,ρ,g0,o⟩:=h;refine W.methodCall_KW (pl:=pl) (bN (kr (v:=.ref C) hg B.mg rfl jH WO s σ H (fun x H1=>x=.ref C/\H1=H) I ⟨rfl,rfl⟩) fun u s1 zz=>?_) ht;obtain⟨y,H1,I1,ry,hy,hH⟩:=zz;subst hy hH;obtain rfl:u=Value.ref C:=ry;refine W.method_cls I1.kD B.sp (W.cls_value I1.kD B.rd B.fi rfl ?_);have I2:Inv X WO σ H1 {s1 with toks:=s1.toks+1}:=I1.tok _;refine Bg (first:=[]) (h₀:=X.base) I.ok.mod.Hv B.kp (bN (ha pos WO _ σ H1 (fun vs H1=>oC X.K X.mg fl fs vs H1 Q (EX σ)) I2 ⟨G,F0,ρ,g0,?_⟩) fun us s2 ⟨vs,H2,I3,r,q⟩=>⟨I3.kD,?_⟩) hU iX;unfold ax VP.Tz at o;cases q:bL as ρ with|no=>rw[q] at o;exact o.elim|exc xx bx=>rw[q] at o;exact o|ok av bx=>rw[q] at o;intro F1 H1 vs s1 g1 r1;exact so (L:=lc X EX) g1 r1 (by rw[eB q];exact sL) o (fun x r q=>q.same s1) fun F' H' bV d v s' g' rd P=>P F' H' v (s1.trans s') g' rd
 exact tT F hr hb hx I3 r q
end
section
variable{X:Cx}{EX:XE}{e elt tg Ws:Expr}{ifs:KJ}{pos:Pos}{it:M (List D)}{gf:D->M Unit}{ft:M Bool}{fe f:M D}{js:Rx}{scope:Scope}{N':Ut}
theorem JF(n i:Nat){y:Str}{py qd:Pos}(hN:X.N.Nodup)(hy:X.N[i]?=some y)(hx:Loc X.env.scope y)(hc:X.calm=true)(c:bU X scope N')(hn:X.N.length+n+1=N'.length)(hi:uz X EX tg Ws it)(vk:∀d r x r',gf d r≠.exc x r')(wN:∀j∈js,X.N.length<=j/\j<X.N.length+n)
  (hg:∀C s H ex,Av (bI X scope C N' s H ex) EX tg js gf) (ht:∀C s H ex EX,FY (bI X scope C N' s H ex) EX ifs ft) (he:∀C s H ex EX,PV (bI X scope C N' s H ex) EX elt fe)
  (Mh:autoParam (swapsWith (.ListComp elt [⟨tg,Ws,ifs,0⟩] scope pos) (some (.Name y py)) qd.line X.env=pure true) AuP.a._autoParam) (hs:∀x,foldedSetIterable Ws X.env x=pure x:=by exact Oc)
  (DB:Lw X y:=by exact RP):nL X EX (.Assign [.Name y py] (.ListComp elt [⟨tg,Ws,ifs,0⟩] scope pos) qd) (bc i (pL (aY n it gf ft fe))):=by
 intro WO s σ H E I h;obtain⟨G,F,ρ,g0,o⟩:=h;rw[exec_Assign_Name_used _ _ _ _ Mh];refine X0 (GG (X0 ?_));show wpAny _ X.A (do let _ <-comprehension (.ListComp elt [⟨tg,Ws,ifs,0⟩] scope pos) scope X.env _ (newList []) false (firstIter [⟨tg,Ws,ifs,0⟩] X.env) (some (assign (.Name y py) X.env))) _ _ s;refine X0 (LD (my (use:=some (assign (.Name y py) X.env)) (QQ:=fun _ s'=>SP X WO E .next s') n hc c hn hi vk wN hg ht (xw:=fun _ _ _ _ _ _=>False) (fun C s H ex=>he C s H ex _) (fun _ _ _ _ _ _ _ _ _ _ z=>z.elim) hs I (Good.view g0) (Q1p (Out.Tz o)) (fun x r q=>q.elim) fun F4 H4 s5 rV d l C mm e4 g4 lo post IX Ha FC=>?_) (fun _ s' hq=>Wt (Wt hq)) fun _ _ e=>e);show wpAny _ X.A (assign (.Name y py) X.env (.ref l)) _ _ s5;refine Of (mW IX hN hy hx (v:=.ref l) rfl (fun s6 I6 zz=>?_) DB);obtain⟨a,sb,ha⟩:=zz;have Vi:C≠a:=by rcases ha with rfl|ha;exact FC.2.1;exact fun z=>FC.2.2.2.2.1 _ _ ha z.symm
 obtain⟨ds,rfl,Pf,post⟩:=post;obtain⟨u1,u2⟩:=Good.yv g0 g4;have Zz:=Loose.yv g0 g4 lo Pf;obtain⟨F5,s5,g5,d5⟩:=Zz.fast u2;obtain⟨qk,g2,q⟩:=j6 (L:=lc X EX) g5 d5 (Out.Tz post);refine⟨mm,Ha.sameBut sb Vi,fun h' Gk=>⟨σ.set i (some (.ref l)),H4,?_,q _ _ _ (u1.trans s5) g2⟩⟩;exact I6.turned (t':=s6.toks) (fun b ob hb e=>Gk.extBut b ob hb e) FC.1 FC.2.1 FC.2.2.2.1 FC.2.2.2.2.1 FC.2.2.2.2.2
end
end VS
end
section
set_option linter.all false
namespace VS
open PySem PySem.Spec PyProof.Rows L2 VP
theorem q8{P:Program}{w:World}{K:Frag}{mg:MG}{base:Heap}{CX:wJ}{k:Nat}{f:Addr}{fd:FuncData}{ps:Ut}{fl:X4}(h:fl.length=ps.length):cj P w K mg base CX k f fd ps (oC K mg fl fun _=>.no):=⟨fun _ _ _ _ q=>q.1.trans h,fun _ _ _ _ _ _ _ _ _ _ _ _ _ ⟨_,_,_,_,_,_,q⟩=>q.elim⟩
structure Gu where
 f:Nat->Addr
 d:Nat->FuncData
 g:Nat->Addr
 e:Nat->FuncData
 c:Nat->Addr
abbrev w6:=Str×Stmt×List Str
abbrev Ax:=Str×Str×Str×Bool×Stmt×List Str
structure Lf where
 b:List Str
 n:List (Str×D)
 t:List (Str×List (Str×D)×List Str)
 d:List w6
 m:List Ax
 k:List Str
 f:List (Str×List Str)
 a:List Str
 i:List (Str×List (Str×Bool))
 j:List (Str×Str×List (Str×Bool))
structure qo(K:Frag)(mg:MG)(c x qn:Str)(bs:Bool)(st:Stmt)(ps:Ut)(C f:Addr)(fd:FuncData):Prop where
 fu:Gv K x qn st f fd
 bi:Binds K fd ps []
 gm:mg c=some (.ref C)
 cls:wK K C
 me:Meth K C x f
 Um:x="__init__" -> Mk K C f
 ba:bs=true->Pw K mg c x C f
structure Txt(L:Lf)(w:World)(K:Frag)(mg:MG)(a:Gu):Prop where
 b:∀(i:Nat) {x} (_:autoParam (L.b[i]?=some x) AuP.a._autoParam),mg x=none
 n:∀(i:Nat) {x d} (_:autoParam (L.n[i]?=some (x,d)) AuP.a._autoParam),W4 mg x d
 t:∀(i:Nat) {x t ab} (_:autoParam (L.t[i]?=some (x,t,ab)) AuP.a._autoParam),Gy w K mg x t ab
 d:∀(i:Nat) {x st ps} (_:autoParam (L.d[i]?=some (x,st,ps)) AuP.a._autoParam),oF K mg x st ps (a.f i) (a.d i)
 m:∀(i:Nat) {c x qn bs st ps} (_:autoParam (L.m[i]?=some (c,x,qn,bs,st,ps)) AuP.a._autoParam),qo K mg c x qn bs st ps (a.c i) (a.g i) (a.e i)
 f:∀(i:Nat) {f cs} (_:autoParam (L.f[i]?=some (f,cs)) AuP.a._autoParam),nI K mg cs f
 i:∀(i:Nat) {c su} (_:autoParam (L.i[i]?=some (c,su)) AuP.a._autoParam),PJ K mg c su
 j:∀(i:Nat) {c1 c2 su} (_:autoParam (L.j[i]?=some (c1,c2,su)) AuP.a._autoParam),PK K mg c1 c2 su
def PY(K:Frag)(q:Addr):Ut->Prop|[]=>True|x::l=>W.nsIn K q x=some none/\PY K q l
def Tu(K:Frag):List (Str×D)->Prop|[]=>True| (x,d)::l=>(∃v,W.nsIn K mainGlobals x=some (some v)/\jA d v)/\Tu K l
def Tv(K:Frag)(q:Addr):List (Str×D)->Prop|[]=>True| (x,d)::l=>(∃v,W.nsIn K q x=some (some v)/\rZ K d v)/\Tv K q l
def PZ(w:World)(K:Frag):List (Str×List (Str×D)×List Str)->Prop|[]=>True| (x,t,ab)::l=>(∃(q:Addr)(es:Array DictEntry)(n:Nat),W.nsIn K mainGlobals x=some (some (.ref q))/\(q == sysModules)=false/\K.lookup q=some ⟨.type "dict",none,.dict es n,#[]⟩/\W.KeysLit w.params es.toList/\Tv K q t/\PY K q ab)/\PZ w K l
def Pz(K:Frag):List w6->Prop|[]=>True| (x,st,_)::l=>(∃f,DH K x st f)/\Pz K l
structure MH(K:Frag)(c x qn:Str)(bs:Bool)(st:Stmt)(C f:Addr):Prop where
 n:W.nsIn K mainGlobals c=some (some (.ref C))
 i:W.findIn K (.ref C) x=some (some (.ref f))
 fn:W.isFn K (.ref f)=true
 m:DM K x qn st f
 Um:W.makesIn K C=true
 kc:W.keepIn K (.ref C)=true
 ba:bs=true->W.specialIn K (.ref C) "__getattribute__" = some (some (.builtin "type.__getattribute__"))/\W.readsIn K C (.type "type")=true/\W.findCls K (.ref C) (.type "type") x=some (.val (.ref f))
def PU(K:Frag):List Ax->Prop|[]=>True| (c,x,qn,bs,st,_)::l=>(∃C f,MH K c x qn bs st C f)/\PU K l
def Px(K:Frag):Ut->Prop|[]=>True|c::l=>(∃C,W.nsIn K mainGlobals c=some (some (.ref C))/\wK K C)/\Px K l
def Th(K:Frag):Ut->Prop|[]=>True|c::l=>(∃C,W.nsIn K mainGlobals c=some (some (.ref C))/\Au K C)/\Th K l
def PX(K:Frag)(f:Str):Ut->Prop|[]=>True|c::l=>(∃C,W.nsIn K mainGlobals c=some (some (.ref C))/\W.findIn K (.ref C) f=some none)/\PX K f l
def Tn(K:Frag):List (Str×List Str)->Prop|[]=>True| (f,cs)::l=>PX K f cs/\Tn K l
def PM(K:Frag)(C:Addr):TX->Prop|[]=>True| (c,b)::l=>(∃D,W.nsIn K mainGlobals c=some (some (.ref D))/\W.kitOne K (.ref D) (.ref C)=some b)/\PM K C l
def To(K:Frag):List (Str×List (Str×Bool))->Prop|[]=>True| (c,su)::l=>(∃C,W.nsIn K mainGlobals c=some (some (.ref C))/\PM K C su)/\To K l
def PN(K:Frag)(C C':Addr):TX->Prop|[]=>True| (c,b)::l=>(∃D,W.nsIn K mainGlobals c=some (some (.ref D))/\W.kitAny K (.ref D) [.ref C,.ref C']=some b)/\PN K C C' l
def Ts(K:Frag):List (Str×Str×List (Str×Bool))->Prop|[]=>True| (c,c',su)::l=>(∃C C',W.nsIn K mainGlobals c=some (some (.ref C))/\W.nsIn K mainGlobals c'=some (some (.ref C'))/\PN K C C' su)/\Ts K l
def Ti:List w6->Prop|[]=>True| (x,st,ps)::l=>BO x x st ps/\Ti l
def Tj:List Ax->Prop|[]=>True| (_,x,qn,_,st,ps)::l=>BO x qn st ps/\Tj l
noncomputable def Lf.Dk(L:Lf):Bool:=L.f.all (fun p=>p.2.all fun c=>L.k.elem c)&&L.m.all (fun r=>L.k.elem r.1)&&L.i.all (fun p=>p.2.all fun q=>L.a.elem q.1)&&L.j.all (fun p=>p.2.2.all fun q=>L.a.elem q.1)
section
variable{K:Frag}{mg:MG}{h:Heap}{w:World}
theorem PY.at:∀{l:Ut},PY K q l->∀{x},x∈l->W.nsIn K q x=some none|_::_,⟨h,t⟩,_,m=>by cases m with|head=>exact h|tail _ m=>exact t.at m
theorem Tu.at:∀{l:List (Str×D)},Tu K l->∀{x d},(x,d)∈l->∃v,W.nsIn K mainGlobals x=some (some v)/\jA d v|_::_,⟨h,t⟩,_,_,m=>by cases m with|head=>exact h|tail _ m=>exact t.at m
theorem Tv.at:∀{l:List (Str×D)},Tv K q l->∀p∈l,∃v,W.nsIn K q p.1=some (some v)/\rZ K p.2 v|_::_,⟨h,t⟩,_,m=>by cases m with|head=>exact h|tail _ m=>exact t.at _ m
theorem PZ.at(X:K.In h)(G:h.Ns mainGlobals mg):∀{l:List (Str×List (Str×D)×List Str)},PZ w K l->∀{x t ab},(x,t,ab)∈l->Gy w K mg x t ab|_::_,⟨⟨q,es,n,h1,h2,h3,h4,h5,h6⟩,t⟩,_,_,_,m=>by cases m with|head=>exact⟨⟨q,es,n,FI X G h1,h2,h3,h4,Fz h5.at,fun k hk=>h6.at hk⟩⟩|tail _ m=>exact PZ.at X G t m
theorem Px.at:∀{l:Ut},Px K l->∀{c C},c∈l->W.nsIn K mainGlobals c=some (some (.ref C))->wK K C|_::_,⟨⟨D,h,k⟩,t⟩,_,_,m,e=>by cases m with|head=>rw[h] at e;cases e;exact k|tail _ m=>exact t.at m e
theorem Th.at:∀{l:Ut},Th K l->∀{c C},c∈l->W.nsIn K mainGlobals c=some (some (.ref C))->Au K C|_::_,⟨⟨D,h,k⟩,t⟩,_,_,m,e=>by cases m with|head=>rw[h] at e;cases e;exact k|tail _ m=>exact t.at m e
theorem PX.at:∀{l:Ut},PX K f l->∀{c},c∈l->∃C,W.nsIn K mainGlobals c=some (some (.ref C))/\ie K C f|_::_,⟨h,t⟩,_,m=>by cases m with|head=>exact h|tail _ m=>exact t.at m
theorem Tn.at:∀{l:List (Str×List Str)},Tn K l->∀{f cs},(f,cs)∈l->PX K f cs|_::_,⟨h,t⟩,_,_,m=>by cases m with|head=>exact h|tail _ m=>exact t.at m
theorem PM.at:∀{l:TX},PM K C l->∀p∈l,∃D,W.nsIn K mainGlobals p.1=some (some (.ref D))/\W.kitOne K (.ref D) (.ref C)=some p.2|_::_,⟨h,t⟩,_,m=>by cases m with|head=>exact h|tail _ m=>exact t.at _ m
theorem To.at:∀{l:List (Str×List (Str×Bool))},To K l->∀{c su},(c,su)∈l->∃C,W.nsIn K mainGlobals c=some (some (.ref C))/\PM K C su|_::_,⟨h,t⟩,_,_,m=>by cases m with|head=>exact h|tail _ m=>exact t.at m
theorem PN.at:∀{l:TX},PN K C C' l->∀p∈l,∃D,W.nsIn K mainGlobals p.1=some (some (.ref D))/\W.kitAny K (.ref D) [.ref C,.ref C']=some p.2|_::_,⟨h,t⟩,_,m=>by cases m with|head=>exact h|tail _ m=>exact t.at _ m
theorem Ts.at:∀{l:List (Str×Str×List (Str×Bool))},Ts K l->∀{c c' su},(c,c',su)∈l->∃C C',W.nsIn K mainGlobals c=some (some (.ref C))/\W.nsIn K mainGlobals c'=some (some (.ref C'))/\PN K C C' su|_::_,⟨h,t⟩,_,_,_,m=>by cases m with|head=>exact h|tail _ m=>exact t.at m
theorem Pz.is(X:K.In h)(G:h.Ns mainGlobals mg):∀{l:List w6},Pz K l->Ti l->∃ps:List (Addr×FuncData),∀(i:Nat) {x st qs},l[i]?=some (x,st,qs)->oF K mg x st qs (ps.getD i default).1 (ps.getD i default).2|[],_,_=>⟨[],fun i _ _ _ e=>by simp at e⟩|_::_,⟨⟨f,d⟩,t⟩,⟨b,bs⟩=>by obtain⟨ps,hp⟩:=Pz.is X G t bs;obtain⟨fd,D⟩:=d.is X G b;refine⟨(f,fd)::ps,fun i _ _ _ e=>?_⟩;cases i with|zero=>simp only[List.getElem?_cons_zero,Option.some.injEq,Prod.mk.injEq] at e;obtain⟨rfl,rfl,rfl⟩:=e;exact D|succ i=>exact hp i (by simpa using e)
theorem PU.is(X:K.In h)(G:h.Ns mainGlobals mg)(C:Px K ks):∀{l:List Ax},PU K l->Tj l->(∀r∈l,r.1∈ks)->∃ps:List (Addr×Addr×FuncData),∀(i:Nat) {c x qn bs st qs},l[i]?=some (c,x,qn,bs,st,qs)->qo K mg c x qn bs st qs (ps.getD i default).1 (ps.getD i default).2.1 (ps.getD i default).2.2|[],_,_,_=>⟨[],fun i _ _ _ _ _ _ e=>by simp at e⟩|_::_,⟨⟨c,f,d⟩,t⟩,⟨b,bs⟩,hk=>by obtain⟨ps,hp⟩:=PU.is X G C t bs fun r hr=>hk r (X1 _ hr);obtain⟨fd,F,B⟩:=d.m.is b;refine⟨(c,f,fd)::ps,fun i _ _ _ _ _ _ e=>?_⟩;cases i with|zero=>simp only[List.getElem?_cons_zero,Option.some.injEq,Prod.mk.injEq] at e;obtain⟨rfl,rfl,rfl,rfl,rfl,rfl⟩:=e;have m:=FI X G d.n;refine⟨F,B,m,C.at (hk _ Rn) d.n,⟨d.i,d.fn,d.m.k⟩,fun e=>⟨d.Um,?_,d.fn,d.kc⟩,fun e=>⟨m,(d.ba e).1,(d.ba e).2.1,(d.ba e).2.2,d.m.k⟩⟩;rw[<-e];exact d.i|succ i=>exact hp i (by simpa using e)
theorem Q2f(X:K.In h)(G:h.Ns mainGlobals mg)(Dk:L.Dk=true)(bd:Ti L.d)(bm:Tj L.m)(hb:PY K mainGlobals L.b)(hn:Tu K L.n)(ht:PZ w K L.t)(hd:Pz K L.d)(hc:Px K L.k)(hm:PU K L.m)(hf:Tn K L.f)(ha:Th K L.a)(hi:To K L.i)(hj:Ts K L.j)(sp:W.specialIn K (.builtin "object.__class__") "__get__" = some (some (.builtin "getset_descriptor.__get__"))) (tk:W.takesIn K (.builtin "object.__class__")=some true):∃a:Gu,Txt L w K mg a:=by simp only[Lf.Dk,Bool.and_eq_true,List.all_eq_true,List.elem_eq_contains,List.contains_iff_mem] at Dk;obtain⟨⟨⟨f1,f2⟩,f3⟩,f4⟩:=Dk;obtain⟨ps,hp⟩:=hd.is X G bd;obtain⟨qs,hq⟩:=hm.is X G hc bm f2;refine⟨⟨fun i=>(ps.getD i default).1,fun i=>(ps.getD i default).2,fun i=>(qs.getD i default).2.1,fun i=>(qs.getD i default).2.2,fun i=>(qs.getD i default).1⟩,fun i x e=>W.mg_none_of X G (hb.at (TQ e)),fun i x d e=>?_,fun i x t ab e=>ht.at X G (TQ e),hp,hq,fun i f cs e c L7=>?_,fun i c su e=>?_,fun i c c' su e=>?_⟩;obtain⟨v,e1,e2⟩:=hn.at (TQ e);exact⟨v,FI X G e1,e2⟩;have m:=TQ e;obtain⟨C,e1,e2⟩:=(hf.at m).at L7;exact⟨C,FI X G e1,hc.at (f1 _ m c L7) e1,e2⟩;have m:=TQ e;obtain⟨C,e1,e2⟩:=hi.at m;refine⟨sp,tk,C,FI X G e1,fun p hp=>?_⟩;obtain⟨D,e3,e4⟩:=e2.at p hp;exact⟨D,FI X G e3,ha.at (f3 _ m p hp) e3,e4⟩;have m:=TQ e;obtain⟨C,C',e1,Xl,e2⟩:=hj.at m;refine⟨sp,tk,C,C',FI X G e1,FI X G Xl,fun p hp=>?_⟩;obtain⟨D,e3,e4⟩:=e2.at p hp;exact⟨D,FI X G e3,ha.at (f4 _ m p hp) e3,e4⟩
theorem oF.Zw{x p:Str}{st:Stmt}{f:Addr}{fd:FuncData}(d:oF K mg x st [p] f fd)(c:∀(kV doc pm:Value)(an:ZF)(cd ct:Value)(s:Shared)(v:Value),BindsTo s (W.fnOf x x (c8 st) (bQ st) (aR st) .none kV doc pm an cd ct) ⟨[v],[]⟩ [(p,v)]) (s:Shared) (v:Value):BindsTo s fd ⟨[v],[]⟩ [(p,v)]:=by obtain⟨oc,od,kV,doc,pm,an,gV,ct,Im,rfl,lk,gp⟩:=d.fu.ex;exact c _ _ _ _ _ _ s v
end
abbrev Cl(P:Program)(base:Heap){L:Lf}{w:World}{K:Frag}{mg:MG}{a:Gu}(T:Txt L w K mg a)(x:Str)(k:Nat)(fl:X4)(f:Fn):Prop:=∃st ps fA fd,oF K mg x st ps fA fd/\cj P w K mg base jG k fA fd ps (oC K mg fl f)
abbrev m9(P:Program)(base:Heap){L:Lf}{w:World}{K:Frag}{mg:MG}{a:Gu}(T:Txt L w K mg a)(c x:Str)(bs:Bool)(k:Nat)(fl:X4)(f:Fn):Prop:=∃qn st ps C fA fd,qo K mg c x qn bs st ps C fA fd/\cj P w K mg base jG k fA fd ps (oC K mg fl f)
section
variable{P:Program}{w:World}{K:Frag}{mg:MG}{base:Heap}
theorem fo{x:Str}{st:Stmt}{f:Addr}{fd:FuncData}{ps:Ut}{k:Nat}{fl:X4}(N:Ut)(body:M Fl)(D:oF K mg x st ps f fd)
 (jT:∀{gV:Value}{A:Around}{outer:List Env}{s:Shared}{H:Hp}{E:XK},c7 N ps (aR st)->bY k (A.deeper (envOfC x (aR st) s.heap.objs.size f gV))->lx (oR jG P w K mg base N x (aR st) f gV A outer s H E).H0 (fun _=>E) (bQ st) body) (S:c7 N ps (aR st):=by exact KU) (hl:autoParam (fl.length=ps.length) AuP.a._autoParam) :
 cj P w K mg base jG (k+1) f fd ps (oC K mg fl (defn N.length fl body)):=Dl D.fu S hl fun _ _ _ _ _ _ hr=>jT S hr
theorem fc{g:Fn}{x:Str}{st:Stmt}{f:Addr}{fd:FuncData}{ps:Ut}{k:Nat}{fl:X4}(loc:Ut)(body:M Fl)(D:oF K mg x st ps f fd)
 (jT:∀{gV:Value}{A:Around}{outer:List Env}{s:Shared}{H:Hp}{E:XK},c7 (ps++loc) ps (aR st)->bY k (A.deeper (envOfC x (aR st) s.heap.objs.size f gV))->lx (oR jG P w K mg base (ps++loc) x (aR st) f gV A outer s H E).H0 (fun _=>E) (bQ st) body) (S:c7 (ps++loc) ps (aR st):=by exact KU) (hl:autoParam (fl.length=ps.length) AuP.a._autoParam) (hg:autoParam (defn (ps++loc).length fl body=g) AuP.d._autoParam) :
 ∃st ps fA fd,oF K mg x st ps fA fd/\cj P w K mg base jG (k+1) fA fd ps (oC K mg fl g):=⟨st,ps,f,fd,D,hg ▸ Dl D.fu S hl fun _ _ _ _ _ _ hr=>jT S hr⟩
theorem fm{g:Fn}{c x qn:Str}{bs:Bool}{st:Stmt}{C f:Addr}{fd:FuncData}{ps:Ut}{k:Nat}{fl:X4}(loc:Ut)(body:M Fl)(D:qo K mg c x qn bs st ps C f fd)
 (jT:∀{gV:Value}{A:Around}{outer:List Env}{s:Shared}{H:Hp}{E:XK},c7 (ps++loc) ps (aR st)->bY k (A.deeper (envOfC qn (aR st) s.heap.objs.size f gV))->lx (oR jG P w K mg base (ps++loc) qn (aR st) f gV A outer s H E).H0 (fun _=>E) (bQ st) body) (S:c7 (ps++loc) ps (aR st):=by exact KU) (hl:autoParam (fl.length=ps.length) AuP.a._autoParam) (hg:autoParam (defn (ps++loc).length fl body=g) AuP.d._autoParam) :
 ∃qn st ps C fA fd,qo K mg c x qn bs st ps C fA fd/\cj P w K mg base jG (k+1) fA fd ps (oC K mg fl g):=⟨qn,st,ps,C,f,fd,D,hg ▸ Dl D.fu S hl fun _ _ _ _ _ _ hr=>jT S hr⟩
end
section
variable{X:Cx}{EX:XE}{e a b o tg Ws elt value:Expr}{es ifs:KJ}{as:List VP.Arg}{fa fb fe fo:M D}{f:M Fl}{body:List Stmt}{pos p Pn:Pos}{k n i:Nat}{C fA:Addr}{fd:FuncData}{ps:Ut}{c x m qn:Str}{bs:Bool}{st:Stmt}{fl:X4}{fs:Fn}
theorem x6(W:∃qn st ps C fA fd,qo X.K X.mg c "__init__" qn bs st ps C fA fd/\cj X.prog X.w X.K X.mg X.base jG k fA fd ps (oC X.K X.mg (true::fl) fs))(hr:bY n X.A)(ha:yA X EX (e::es) as)(hk:k+1<=n:=by exact U0)(hg:autoParam (Gl X c) AuP.a._autoParam)(sL:autoParam (as.map VP.Arg.isIo=fl) AuP.a._autoParam)(jH:autoParam (Qu c) AuP.b._autoParam)(he:autoParam (V1 X e es) AuP.a._autoParam) (iX:autoParam (Jn X pos es) AuP.a._autoParam):PF X EX (.Call (.Name c p) (e::es) [] pos) (dr c fs as):=
 let ⟨_,_,_,_,_,_,M,F⟩:=W;Q21 (M.Um rfl) F (hr.mono hk) hg M.gm M.bi tF ha sL jH he iX
theorem tK{pl:Sem Bool}(W:∃qn st ps C fA fd,qo X.K X.mg c m qn bs st ps C fA fd/\cj X.prog X.w X.K X.mg X.base jG k fA fd ps (oC X.K X.mg (false::fl) fs))(hr:bY n X.A)(ho:PV X EX o fo)(ha:yA X EX (e::es) as)(hk:k<=n:=by exact U0)(sL:autoParam (as.map VP.Arg.isIo=fl) AuP.a._autoParam)
  (hU:autoParam (V1 X e es) AuP.a._autoParam) (iX:autoParam (Jn X pos es) AuP.a._autoParam)
  (ht:autoParam (eval (.Call (.Attribute o m Pn) (e::es) [] pos) X.env=(do
   let ov <-eval o X.env
   standAt Pn.atName
   let (f,first) <-holding [ov] (getMethod ov m pl)
   callWith pos f first (backTo pos (starEach (e::es) X.env)) (backToKw pos (keywordEach [] X.env)))) AuP.a._autoParam):PV X EX (.Call (.Attribute o m Pn) (e::es) [] pos) (df c m fs fo as):=
 let ⟨_,_,_,_,_,_,M,F⟩:=W;Q1X M.gm M.cls M.me F (hr.mono hk) M.bi tF ho ha sL hU iX ht
theorem Wh{pl:Sem Bool}(W:∃qn st ps C fA fd,qo X.K X.mg c m qn true st ps C fA fd/\cj X.prog X.w X.K X.mg X.base jG k fA fd ps (oC X.K X.mg fl fs))(hr:bY n X.A)(ha:yA X EX (e::es) as)(hk:k<=n:=by exact U0)(hg:autoParam (Gl X c) AuP.a._autoParam)(sL:autoParam (as.map VP.Arg.isIo=fl) AuP.a._autoParam)
 (jH:autoParam (Qu c) AuP.b._autoParam) (hU:autoParam (V1 X e es) AuP.a._autoParam) (iX:autoParam (Jn X pos es) AuP.a._autoParam)
 (ht:autoParam (eval (.Call (.Attribute (.Name c p) m Pn) (e::es) [] pos) X.env=(do
  let ov <-eval (.Name c p) X.env
  standAt Pn.atName
  let (f,first) <-holding [ov] (getMethod ov m pl)
  callWith pos f first (backTo pos (starEach (e::es) X.env)) (backToKw pos (keywordEach [] X.env)))) AuP.a._autoParam) :
 PV X EX (.Call (.Attribute (.Name c p) m Pn) (e::es) [] pos) (ax fs as):=let ⟨_,_,_,_,_,_,M,F⟩:=W;IK (M.ba rfl) F (hr.mono hk) M.bi tF ha hg sL jH hU iX ht
theorem bM(W:∃st ps fA fd,oF X.K X.mg x st ps fA fd/\cj X.prog X.w X.K X.mg X.base jG k fA fd ps (oC X.K X.mg fl fs))(hr:bY n X.A)(ha:yA X EX (e::es) as)(hk:k<=n:=by exact U0)(hg:autoParam (Gl X x) AuP.a._autoParam)(sL:autoParam (as.map VP.Arg.isIo=fl) AuP.a._autoParam)(jH:autoParam (Qu x) AuP.b._autoParam)(he:autoParam (V1 X e es) AuP.a._autoParam) (iX:autoParam (Jn X pos es) AuP.a._autoParam):PV X EX (.Call (.Name x p) (e::es) [] pos) (ax fs as):=
 let ⟨_,_,_,_,D,F⟩:=W;Q0w F (hr.mono hk) hg D.mg D.fu.kp D.bi tF ha sL jH he iX
theorem d8(hm:X.mg "len" = none)(ha:PR X EX a fa)(hg:autoParam (Gl X "len") AuP.a._autoParam)(hs:autoParam (V1 X a []) AuP.a._autoParam):PV X EX (.Call (.Name "len" p) [a] [] pos) (m1 bK fa):=dC sy Qz hg hm PySem.boot_len ha (by decide) (by decide) hs
theorem yc(hm:X.mg "tuple" = none)(ha:PR X EX a fa)(hg:autoParam (Gl X "tuple") AuP.a._autoParam)(hs:autoParam (V1 X a []) AuP.a._autoParam):PV X EX (.Call (.Name "tuple" p) [a] [] pos) (m1 gb fa):=Bo qq Q16 hg hm boot_tuple ha (by decide) (by decide) hs
theorem dg(hr:bY n X.A)(ha:PV X EX a fa)(hb:PV X EX b fb):PB X EX (.Compare a [.Eq] [b] pos) (tB (m2 b7 fa fb)):=fL (mS hr.units) rf ha hb (b9 _)
theorem Ir(hr:bY n X.A)(ha:PV X EX a fa)(hb:PV X EX b fb):PB X EX (.Compare a [.NotEq] [b] pos) (tB (m2 nW fa fb)):=fL (xZ hr.units) Du ha hb (b9 _)
theorem eG(i:Nat){x:Str}{UA:Pos}(hN:X.N.Nodup)(he:PV X EX e fe)(hi:autoParam (X.N[i]?=some x) AuP.a._autoParam)(hx:Loc X.env.scope x:=by exact A6)(hs:autoParam (swapsWith e (some (.Name x UA)) pos.line X.env=pure false) AuP.a._autoParam)(hf:Lw X x:=by exact RP):nL X EX (.Assign [.Name x UA] e pos) (bc i fe):=Q2B i hN hi hx he hs hf
theorem BG(i:Nat){x:Str}{UA:Pos}(hN:X.N.Nodup)(he:PF X EX e fe)(hi:autoParam (X.N[i]?=some x) AuP.a._autoParam)(hx:Loc X.env.scope x:=by exact A6)(hs:autoParam (swapsWith e (some (.Name x UA)) pos.line X.env=pure false) AuP.a._autoParam)(hf:Lw X x:=by exact RP):nL X EX (.Assign [.Name x UA] e pos) (gu i fe):=Q0C i hN hi hx he hs hf
theorem mZ(i:Nat)(hN:X.N.Nodup)(hi:autoParam (X.N[i]?=some x) AuP.a._autoParam)(hx:Loc X.env.scope x:=by exact A6)(hf:Lw X x:=by exact RP):Av X EX (.Name x pos) [i] (aP i):=Q0n i hN hi hx hf
theorem lu(i:Nat)(hN:X.N.Nodup)(h2:wY X EX es is)(hi:autoParam (X.N[i]?=some x) AuP.a._autoParam)(hx:Loc X.env.scope x:=by exact A6)(hf:Lw X x:=by exact RP) (hs:autoParam ((assignEach (.Name x pos::es) X.env).map (·.2)=assign (.Name x pos) X.env::(assignEach es X.env).map (·.2)) AuP.a._autoParam):wY X EX (.Name x pos::es) (i::is):=FH i hN hi hx h2 hf hs
theorem K3(i:Nat){Pn jb:Pos}(he:PV X EX e fe)(hN:autoParam (X.N[i]?=some x) AuP.a._autoParam)(hv:oI X.env.scope x:=by exact Vd)(hd:autoParam (Qu x) AuP.b._autoParam)
 (gp:autoParam (P7 x) AuP.b._autoParam)
 (hpe:∀{to:TE}{t:TA},PE X (.Name x p) to->PA X [e] t->PE X (.Call (.Attribute (.Name x p) "append" Pn) [e] [] jb) (UG X.K "list" tQ to t):=by exact fun ho ha=>KN PySem.F.plainAttrs_list PySem.F.slot_list_append PySem.F.type_list_append mO ho ha)
 (hU:autoParam (V1 X e []) AuP.a._autoParam):nL X EX (.Expr (.Call (.Attribute (.Name x p) "append" Pn) [e] [] jb) pos) (l6 i fe):=OO i he hN hv hd gp hpe hU
theorem uf(hi:uz X EX tg Ws it)(hg:Av X EX tg js gf)(hb:lx X EX body f)(vk:∀d r x r',gf d r≠.exc x r':=by first|exact hJ|exact Dq)(hp:PassesOwn (model X.prog X.w) X.A X.env X.xe:=by exact PassesOwn.never)(hc:autoParam (X.calm=true) AuP.a._autoParam)(hs:∀x,foldedSetIterable Ws X.env x=pure x:=by exact Oc):nL X EX (.For tg Ws body [] pos) (fZ it gf f):=OQ hp hc hi hg hb vk hs
variable{it:M (List D)}{gf:D->M Unit}{ft:M Bool}{js:Rx}{scope:Scope}
theorem vU(n:Nat)(N':Ut)(hi:uz X EX tg Ws it)(hg:N'.Nodup->∀{C s H ex},Av (bI X scope C N' s H ex) EX tg js gf)(ht:∀{C s H ex EX},FY (bI X scope C N' s H ex) EX ifs ft)(he:∀{C s H ex EX},PV (bI X scope C N' s H ex) EX elt fe)
 (nd:N'.Nodup:=by exact Bn) (vk:∀d r x r',gf d r≠.exc x r':=by first|exact hJ|exact Dq) (wN:∀j∈js,X.N.length<=j/\j<X.N.length+n:=by exact k8 (by kernel_rfl)) (hc:autoParam (X.calm=true) AuP.a._autoParam) (c:bU X scope N':=by exact⟨rfl,by kernel_rfl⟩) (hn:autoParam (X.N.length+n+1=N'.length) AuP.a._autoParam)
 (hs:∀x,foldedSetIterable Ws X.env x=pure x:=by exact Oc):PF X EX (.ListComp elt [⟨tg,Ws,ifs,0⟩] scope pos) (aY n it gf ft fe):=Q1H n hc c hn hi vk wN (fun _ _ _ _=>hg nd) (fun _ _ _ _ _=>ht) (fun _ _ _ _ _=>he) hs
end
noncomputable def Ww(K:Frag):Sp:=fun vs H Q _=>∃(a:Addr)(ns:ZX),vs=[.ref a]/\cn K H a (ns.map V.int)/\ns.length<=63/\∀H',Q (.bl true) H'
abbrev PD(l:W.OpenLaw)(w:World)(K:Frag)(mg:MG)(fa:Addr)(k:Nat)(p:Str):Prop:=∃fd:FuncData,(∀(s:Shared)(v:Value),BindsTo s fd ⟨[v],[]⟩ [(p,v)])/\∀base:Heap,cj l.prog w K mg base jG k fa fd [p] (Ww K)
theorem walk63{l:W.OpenLaw}{q:Program}{loose:Ut}{XP:(Str->O8)->Heap->Prop}{YP:World->Heap->Prop}{d:DefRec}{K:Params->W.Frag}(k:Nat)(hn:l.most=some 63)(QO:d.params.defaults=[])
  (hY:∀(w:World)(h:Heap),YP w h->(K w.params).In h)
  (F:∀(w:World)(mg:Str->O8)(fa:Addr)(h:Heap),(K w.params).In h->h.Ns mainGlobals mg->mg d.name=some (.ref fa)->PD l w (K w.params) mg fa k "_law_script") (hr:bY k callerA:=by exact⟨rfl,by decide,by decide⟩) :
  W.WalkO q loose XP YP l.row.toRowW d [] (fun f vs=>PySem.call f vs):=
 L2.JI (n:=63) (k:=k) (x:="_law_script") (CX:=fun _=>jG) (sp:=fun w=>Ww (K w.params)) hn (by decide) QO hr hY (fun w mg fa h a b c=>let ⟨fd,u,v⟩:=F w mg fa h a b c;⟨fd,u,fun base _ _=>v base⟩) (fun _ _ a ns hl _ hS=>⟨a,ns,rfl,hS,hl,fun _=>rfl⟩) fun _ _ _ _ _ z=>z
end VS
end
section
set_option linter.all false
namespace VP
structure Wk where
 rows:List (List Int)
 dn:Int
structure WS where
 r:aU
 j:Option Nat
 w:Wk
abbrev WE(α:Type):=D->WS->Option (α×Wk)
abbrev WM:=D->WS->Option (Fl×WS)
noncomputable def wP(f:M α):WE α:=fun _ S=>match f S.r with|.ok d _=>some (d,S.w)|_=>none
noncomputable def wB(f:WE α)(g:α->WE β):WE β:=fun o S=>(f o S).bind fun p=>g p.1 o {S with w:=p.2}
noncomputable def wR(a:α):WE α:=fun _ S=>some (a,S.w)
def bt:List (WE D)->WE (List D)|[]=>wR []|f::fs=>wB f fun d=>wB (bt fs) fun ds=>wR (d::ds)
noncomputable def wO(o:Option α):WE α:=fun _ S=>o.map (·,S.w)
noncomputable def Ja:FR->Option D|.ok d []=>some d|_=>none
def ma(f:Fn)(n:Nat)(as:WE (List D)):WE D:=wB as fun ds=>wO (if ds.length=n then Ja (f ds) else none)
abbrev Ga:=List D->D->Wk->Option (D×Wk)
def bT(f:Ga)(n:Nat)(as:WE (List D)):WE D:=wB as fun ds o S=>if ds.length=n then f ds o S.w else none
def Gs(c:M Bool)(f g:WE α):WE α:=wB (wP c) fun b=>if b then f else g
def rowAt(o:D)(W:Wk)(l:D):Option (Nat×List Int):=match lG o l with|some (.int (.ofNat j))=>W.rows[j]?.map (j,·)|_=>none
def Ar(e i:M D):WE D:=wB (wP e) fun l=>wB (wP i) fun p=>fun o S=>match rowAt o S.w l,p with|some (_,r),.int (.ofNat k)=>r[k]?.map fun v=>(.int v,S.w)|_,_=>none
noncomputable def bh(f g:WM):WM:=fun o S=>(f o S).bind fun p=>match p.1 with|.nx=>g o p.2|k=>some (k,p.2)
noncomputable def fq:WM:=fun _ S=>some (.nx,S)
noncomputable def jJ(f:WE D):WM:=fun o S=>(f o S).map fun p=>(.rt p.1,{S with w:=p.2})
noncomputable def gX(i:Nat)(f:WE D):WM:=fun o S=>(f o S).map fun p=>(.nx,{S with r:=S.r.set i (.sh p.1),w:=p.2})
def fN(c:M Bool)(f g:WM):WM:=fun o S=>(wP c o S).bind fun p=>(if p.1 then f else g) o S
noncomputable def nE:WM:=fun _ S=>some (.nx,{S with w:={S.w with dn:=S.w.dn+1}})
def wF(i:Nat)(f:M D):WM:=fun o S=>(wP f o S).bind fun p=>(rowAt o S.w p.1).bind fun q=>if i<S.r.length then some (.nx,{S with r:=S.r.set i .no,j:=some q.1}) else none
noncomputable def hand(j:Option Nat)(W:Wk):Option (Nat×List Int):=j.bind fun j=>W.rows[j]?.map (j,·)
def yw(i:M D):WE D:=wB (wP i) fun p _ S=>match p,hand S.j S.w with|.int (.ofNat k),some (_,r)=>r[k]?.map fun v=>(.int v,S.w)|_,_=>none
def mf(i:M D)(f:WE D):WM:=fun o S=>(f o S).bind fun p=>(wP i o {S with w:=p.2}).bind fun q=>match p.1,q.1,hand S.j p.2 with|.int v,.int (.ofNat k),some (j,r)=>if k<r.length then some (.nx,{S with w:=⟨p.2.rows.set j (r.set k v),p.2.dn⟩}) else none|_,_,_=>none
def qi(i j:Nat)(f:WM):Nat->OK->WM|_,[]=>fq|k,d::ds=>fun o S=>(f o {S with r:=(S.r.set i (.sh (.int k))).set j (.sh d)}).bind fun p=>match p.1 with|.nx=>qi i j f (k+1) ds o p.2|_=>none
def nG(l:M D)(i j:Nat)(f:WM):WM:=fun o S=>(wP l o S).bind fun p=>match p.1 with|.lst ds=>qi i j f 0 ds o S|_=>none
noncomputable def n4(f:WE D):WM:=fun o S=>(f o S).map fun p=>(.nx,{S with w:=p.2})
def m6(i:Nat)(f:WM):OK->WM|[]=>fq|d::ds=>fun o S=>(f o {S with r:=S.r.set i (.sh d)}).bind fun p=>match p.1 with|.nx=>m6 i f ds o p.2|_=>none
def wD(l:M D)(i:Nat)(f:WM):WM:=fun o S=>(wP l o S).bind fun p=>match p.1 with|.lst ds=>m6 i f ds o S|_=>none
def FO(e n:M D):WE D:=wB (wP e) fun l=>wB (wP n) fun p=>fun o S=>match rowAt o S.w l,p with|some (_,r),.int k=>some (.lst (cutD (r.map .int) none (some k)),S.w)|_,_=>none
noncomputable def UI:WE D:=fun _ S=>some (.int S.w.dn,S.w)
def JH(as:WE (List D)):WE D:=wB as fun ds=>wO (if ds.length<1000 then some (.tup ds) else none)
noncomputable def fO(n:Nat)(ds:OK):aU:=.no::(ds.map .sh++List.replicate (n-1-ds.length) .no)
def dE(n:Nat)(body:WM):Ga:=fun ds o W=>(body o ⟨fO n ds,none,W⟩).bind fun p=>match p.1 with|.rt d=>some (d,p.2.w)|.nx=>some (.bB,p.2.w)|_=>none
noncomputable def C6(ι:D->Option (D×Wk))(n:Nat)(body:WM):Fn
|[p,t]=>match ι p with
  |some (o,W)=>match body o ⟨[.sh p,.sh t]++List.replicate n .no,none,W⟩ with
    |some (.rt d,_)=>.ok d []|_=>.no
   |none=>.no
 |_=>.no
def qh:D->Option (D×Wk)|.ins c ns [_,.fP ks vs,.lst ls]=>if c="Plan" /\ ns=(["loops","row_of","lengths"]:List PySem.Str) then(eT ls).bind fun xs=>if xs.length<1000/\∀x∈xs,0<=x/\x<100000 then some (.fP ks vs,⟨xs.map fun n=>List.replicate n.toNat 0,0⟩) else none else none|_=>none
end VP
end
section
set_option linter.all false
set_option maxRecDepth 100000
namespace VS
open PySem PySem.Spec PyProof.Rows L2 VP
structure Wy where
 a:Addr
 ls:List Addr
 ro:D
structure BS(K:Frag)(mg:MG)(Y:Wy)(F H:Hp)(W:Wk):Prop where
 ob:∃C dx r u,mg "Work" = some (.ref C)/\H Y.a=some (.ins C dx [("row_of",u),("rows",.ref r),("done",.int W.dn)])/\Den K mg F u Y.ro/\F r=some (.lst (Y.ls.map V.ref))
 len:Y.ls.length=W.rows.length
 row:∀(j:Nat) l ns,Y.ls[j]?=some l->W.rows[j]?=some ns->H l=some (.lst (ns.map V.int))
 na:F Y.a=none
 nl:∀l∈Y.ls,F l=none
 nd:(Y.a::Y.ls).Nodup
structure Wx(Y:Wy)(F H F' H':Hp):Prop where
 sF:aE F F'
 sub:aE F' H'
 old:∀b o,H b=some o->b≠Y.a->b∉Y.ls->H' b=some o
 new:∀b o,F' b=some o->F b=some o\/H b=none
 TK:∀b o,H b=some o->∃o',H' b=some o'
theorem Wx.refl{Y:Wy}(s:aE F H):Wx Y F H F H:=⟨aE.refl _,s,fun _ _ e _ _=>e,fun _ _ e=>.inl e,fun _ o e=>⟨o,e⟩⟩
theorem Wx.trans{Y:Wy}(x:Wx Y F H F1 H1)(y:Wx Y F1 H1 F2 H2):Wx Y F H F2 H2 where
 sF:=x.sF.trans y.sF
 sub:=y.sub
 old:=fun b o e n m=>y.old b o (x.old b o e n m) n m
 new:=fun b o e=>(y.new b o e).elim (x.new b o) fun z=>.inr (by cases q:H b with|none=>rfl|some u=>obtain⟨o',h⟩:=x.TK b u q;rw[z] at h;cases h)
 TK:=fun b o e=>let ⟨o',h⟩:=x.TK b o e;y.TK b o' h
structure Wg(K:Frag)(mg:MG)(Y:Wy)(aW H₀ F H:Hp)(σ:St)(ρ:aU)(W:Wk):Prop where
 x:Wx Y aW H₀ F H
 w:BS K mg Y F H W
 len:σ.length=ρ.length
 slot:∀(i:Nat) d,ρ[i]?=some (.sh d)->∃u,σ[i]?.join=some u/\Den K mg F u d
 no:∀(i:Nat) s,ρ[i]?=some s->ck s=false
section
variable{K:Frag}{mg:MG}{Y:Wy}{aW H₀ F H F' H':Hp}{σ bf:St}{ρ bV:aU}{W W':Wk}
theorem Wg.good(g:Wg K mg Y aW H₀ F H σ ρ W):Good K mg ⟨H,F,[]⟩ F H σ ρ where
 sF:=aE.refl _
 sub:=g.x.sub
 old:=fun _ _ e _=>e
 new:=fun _ _ e=>.inl e
 len:=g.len
 slot:=fun i s h=>by cases s with|no=>trivial|sh d=>exact g.slot i d h|ow d=>cases g.no i _ h|io d=>cases g.no i _ h
 apart:=fun i j l s t h _ o=>by rw[g.no i s h] at o;cases o
 nt:=fun i a h=>by cases h
 nT:=fun i a b h=>by cases h
theorem BS.same(w:BS K mg Y F H W)(s:aE F F')(o:∀b o,H b=some o->H' b=some o)(n:∀b o,F' b=some o->F b=some o\/H b=none):BS K mg Y F' H' W:=by
 obtain⟨C,dx,r,u,h1,h2,h3,h4⟩:=w.ob;have z:∀b o,F b=none->H b=some o->F' b=none:=fun b o e1 e2=>by cases q:F' b with|none=>rfl|some v=>rcases n b v q with t|t<;>simp_all
 refine⟨⟨C,dx,r,u,h1,o _ _ h2,h3.same s,s _ _ h4⟩,w.len,fun j l ns a b=>o _ _ (w.row j l ns a b),z _ _ w.na h2,fun l hl=>?_,w.nd⟩;obtain⟨j,hj⟩:=List.getElem?_of_mem hl;have iA:j<W.rows.length:=by rw[<-w.len];exact(List.getElem?_eq_some_iff.mp hj).1
 exact z _ _ (w.nl l hl) (w.row j l _ hj (Uz iA))
theorem Wg.ext(g:Wg K mg Y aW H₀ F H σ ρ W)(s:aE F F')(b:aE F' H')(o:aE H H')(n:∀b o,F' b=some o->F b=some o\/H b=none):Wg K mg Y aW H₀ F' H' σ ρ W where
 x:=g.x.trans ⟨s,b,fun b u e _ _=>o b u e,n,fun b u e=>⟨u,o b u e⟩⟩
 w:=g.w.same s o n
 len:=g.len
 slot:=fun i d h=>let ⟨u,a,b⟩:=g.slot i d h;⟨u,a,b.same s⟩
 no:=g.no
theorem Wg.back(g:Wg K mg Y aW H₀ F H σ ρ W)(q:Good K mg ⟨H,F,[]⟩ F' H' bf bV):Wg K mg Y aW H₀ F' H' σ ρ W:=g.ext q.sF q.sub (fun b o e=>q.old b o e O3) q.new
theorem Wg.use{L:Lc}{α β:Type}{R:Rl α β}{f:M α}{v:α}{Q:β->Hp->Prop}(g:Wg L.K L.mg Y aW H₀ F H σ ρ W)(e:f ρ=.ok v bV)(k:∀F' H' b,Wg L.K L.mg Y aW H₀ F' H' σ ρ W->aE F F'->R ⟨H,F,[]⟩ F' H' σ bV b v->Q b H'):lift L R f σ H Q:=
 ⟨⟨H,F,[]⟩,F,ρ,g.good,by rw[e];exact fun F' H' b s g' r=>k F' H' b (g.back g') s r⟩
theorem Wg.set(g:Wg K mg Y aW H₀ F H σ ρ W)(i:Nat)(h:Den K mg F v d):Wg K mg Y aW H₀ F H (σ.set i (some v)) (ρ.set i (.sh d)) W where
 x:=g.x
 w:=g.w
 len:=by simp[g.len]
 slot:=fun j c h'=>by rw[List.getElem?_set] at h' ⊢;by_cases hj:i=j;subst hj;rw[WL rfl] at h' ⊢;split at h';rename_i hl;cases h';rw[WL (by rw[g.len];exact hl)];exact⟨v,rfl,h⟩;cases h';rw[S8 hj] at h' ⊢;exact g.slot j c h'
 no:=fun j s h'=>by rw[List.getElem?_set] at h';by_cases hj:i=j;rw[WL hj] at h';split at h';cases h';rfl;cases h';rw[S8 hj] at h';exact g.no j s h'
theorem Wg.put(g:Wg K mg Y aW H₀ F H σ ρ W)(i:Nat)(v:V):Wg K mg Y aW H₀ F H (σ.set i (some v)) (ρ.set i .no) W where
 x:=g.x
 w:=g.w
 len:=by simp[g.len]
 slot:=fun j c h'=>by rw[List.getElem?_set] at h' ⊢;by_cases hj:i=j;subst hj;rw[WL rfl] at h';split at h'<;>cases h';rw[S8 hj] at h' ⊢;exact g.slot j c h'
 no:=fun j s h'=>by rw[List.getElem?_set] at h';by_cases hj:i=j;rw[WL hj] at h';split at h';cases h';rfl;cases h';rw[S8 hj] at h';exact g.no j s h'
theorem Wg.go(g:Wg K mg Y aW H₀ F H σ ρ W)(x:Wx Y F H F' H')(w:BS K mg Y F' H' W'):Wg K mg Y aW H₀ F' H' σ ρ W' where
 x:=g.x.trans x
 w:=w
 len:=g.len
 slot:=fun i d h=>let ⟨u,a,b⟩:=g.slot i d h;⟨u,a,b.same x.sF⟩
 no:=g.no
theorem Wg.write{j:Nat}{l:Addr}{ns ms:ZX}(g:Wg K mg Y aW H₀ F H σ ρ W)(hl:Y.ls[j]?=some l):Wg K mg Y aW H₀ F (upd H l (.lst (ms.map V.int))) σ ρ ⟨W.rows.set j ms,W.dn⟩:=by
 have hm:=TQ hl;have Y5:l≠Y.a:=fun e=>(List.nodup_cons.mp g.w.nd).1 (e ▸ hm);have hF:=g.w.nl l hm;have sub:aE F (upd H l (.lst (ms.map V.int))):=fun b o e=>by rw[aF (aT e hF)];exact g.x.sub _ _ e
 refine g.go ⟨aE.refl _,sub,fun b o e n m=>by rw[aF (fun z:b=l=>m (z ▸ hm))];exact e,fun _ _ e=>.inl e,fun b o e=>?_⟩ ?_;by_cases z:b=l;subst z;exact⟨_,aB⟩;exact⟨o,by rw[aF z];exact e⟩;obtain⟨C,dx,r,u,h1,h2,h3,h4⟩:=g.w.ob;refine⟨⟨C,dx,r,u,h1,by rw[aF Y5.symm];exact h2,h3,h4⟩,by simp[g.w.len],fun i m ks a b=>?_,g.w.na,g.w.nl,g.w.nd⟩;rw[List.getElem?_set] at b;by_cases z:j=i;subst z;rw[hl] at a;cases a;rw[WL rfl] at b;split at b;cases b;exact aB;cases b;rw[S8 z] at b;have:m≠l:=fun q=>by subst q;have nd:=(List.nodup_cons.mp g.w.nd).2;exact z ((List.getElem?_inj (List.getElem?_eq_some_iff.mp hl).1 nd).mp (hl.trans a.symm))
 rw[aF this];exact g.w.row i m ks a b
end
noncomputable def Jq(K:Frag)(mg:MG)(n:Nat)(φ:OK->D->Wk->Option (D×Wk)):Sp:=fun vs H Q E=>vs.length=n/\∃F Y W us ds d W',vs=.ref Y.a::us/\aE F H/\aN K mg F us ds/\BS K mg Y F H W/\φ ds Y.ro W=some (d,W')/\∀F' H' v,Wx Y F H F' H'->BS K mg Y F' H' W'->Den K mg F' v d->Q v H'
def SM(K:Frag)(mg:MG):Sp:=fun vs H Q E=>vs.length=2/\∃F Y W u d j l,vs=[.ref Y.a,u]/\aE F H/\Den K mg F u d/\BS K mg Y F H W/\lG Y.ro d=some (.int (j:Nat))/\Y.ls[j]?=some l/\Q (.ref l) H
theorem JG{X:Cx}{EX:XE}{WA:List Stmt}:lx X EX WA a7:=fun WO s σ H E I ⟨G,F,ρ,g0,o⟩=>o.elim
section
variable{X:Cx}{e:Expr}{f:Str}{ta:TE}{pos:Pos}
theorem wv(i:Nat){x:Str}(hN:autoParam (X.N[i]?=some x) AuP.a._autoParam)(hv:oI X.env.scope x:=by exact Vd)(hd:autoParam (Qu x) AuP.b._autoParam)(gp:autoParam (P7 x) AuP.b._autoParam):PE X (.Name x pos) (nY i):=cC hN hv hd gp
theorem wf(he:PE X e ta)(hb:autoParam (attributeBase e f X.env (eval e X.env)=eval e X.env) AuP.a._autoParam):PE X (.Attribute e f pos) (Fw X.K ta f):=tI he hb
theorem BS.fld{K:Frag}{mg:MG}{cs:Ut}{Y:Wy}{W:Wk}{Q:VK}{i:Nat}(w:BS K mg Y F H W)(T:nI K mg cs f)(hc:("Work" : Str)∈cs)(hs:σ[i]?=some (some (.ref Y.a)))(h:∀C dx r u,H Y.a=some (.ins C dx [("row_of",u),("rows",.ref r),("done",.int W.dn)])->Den K mg F u Y.ro->F r=some (.lst (Y.ls.map V.ref))->∃v,([("row_of",u),("rows",.ref r),("done",.int W.dn)]:List (Str×V)).lookup f=some v/\Q v H):Fw K (nY i) f σ H Q:=by obtain⟨C,dx,r,u,h1,h2,h3,h4⟩:=w.ob;obtain⟨C',m,c,n⟩:=T _ hc;rw[h1] at m;cases m;obtain⟨v,l,q⟩:=h C dx r u h2 h3 h4;exact⟨_,hs,_,C,dx,_,v,rfl,h2,c,n,l,q⟩
end
abbrev kA:XE:=fun _ _ _ _=>False
structure Wf(K:Frag)(mg:MG)(Z:Nat×Nat)(Y:Wy)(aW H₀ F H:Hp)(σ:St)(S:WS):Prop where
 g:Wg K mg Y aW H₀ F H σ S.r S.w
 me:σ[Z.1]?=some (some (.ref Y.a))
 rw:∀j,S.j=some j->∃l,Y.ls[j]?=some l/\σ[Z.2]?=some (some (.ref l))
abbrev Rw(α β:Type):=Hp->β->α->Prop
def rz{α β:Type}(K:Frag)(mg:MG)(Z:Nat×Nat)(R:Rw α β)(f:WE α):St->Hp->(β->Hp->Prop)->Prop:=fun σ H Q=>∃Y aW H₀ F S d W',Wf K mg Z Y aW H₀ F H σ S/\f Y.ro S=some (d,W')/\∀F' H' v,Wf K mg Z Y aW H₀ F' H' σ {S with w:=W'}->aE F F'->R F' v d->Q v H'
def wL(X:Cx)(Z:Nat×Nat)(e:Expr)(f:WE D):Prop:=PE X e (rz X.K X.mg Z (Den X.K X.mg) f)
def O0(X:Cx)(Z:Nat×Nat)(es:KJ)(f:WE (List D)):Prop:=PA X es (rz X.K X.mg Z (aN X.K X.mg) f)
section
variable{K:Frag}{mg:MG}{Z:Nat×Nat}{α β γ δ:Type}{R:Rw α β}{R':Rw γ δ}{f:WE α}{h:α->WE γ}{σ:St}{H:Hp}
theorem GD{Q:δ->Hp->Prop}{V:β->Hp->Prop}(q:rz K mg Z R' (wB f h) σ H Q)(k:∀Y aW H₀ F (S:WS) F1 H1 v b W1 d W2,Wf K mg Z Y aW H₀ F1 H1 σ {S with w:=W1}->aE F F1->R F1 b v->h v Y.ro {S with w:=W1}=some (d,W2)->(∀F' H' v,Wf K mg Z Y aW H₀ F' H' σ {S with w:=W2}->aE F F'->R' F' v d->Q v H')->V b H1):rz K mg Z R f σ H V:=by obtain⟨Y,aW,H₀,F,S,d,W2,g,e,c⟩:=q;unfold wB at e;cases q:f Y.ro S with|none=>rw[q] at e;cases e|some p=>rw[q] at e;exact⟨Y,aW,H₀,F,S,p.1,p.2,g,q,fun F1 H1 b g1 s r=>k Y aW H₀ F S F1 H1 p.1 b p.2 d W2 g1 s r e c⟩
theorem Rk{Y:Wy}{aW H₀ F F1 H1:Hp}{S:WS}{W1 W2:Wk}{d:γ}{f:WE γ}{Q:δ->Hp->Prop}(g:Wf K mg Z Y aW H₀ F1 H1 σ {S with w:=W1})(s:aE F F1)(e:f Y.ro {S with w:=W1}=some (d,W2))(c:∀F' H' v,Wf K mg Z Y aW H₀ F' H' σ {S with w:=W2}->aE F F'->R' F' v d->Q v H'):rz K mg Z R' f σ H1 Q:=
 ⟨Y,aW,H₀,F1,{S with w:=W1},d,W2,g,e,fun F' H' v g' s' r=>c F' H' v g' (s.trans s') r⟩
end
theorem Wf.ext{K:Frag}{mg:MG}{Y:Wy}{S:WS}(g:Wf K mg Z Y aW H₀ F H σ S)(s:aE F F')(b:aE F' H')(o:aE H H')(n:∀b o,F' b=some o->F b=some o\/H b=none):Wf K mg Z Y aW H₀ F' H' σ S:=⟨g.g.ext s b o n,g.me,g.rw⟩
section
variable{X:Cx}{Z:Nat×Nat}{e a b o:Expr}{es:KJ}{pos p Pn:Pos}
theorem h9{EX:XE}{α β:Type}{R:Rl α β}{R':Rw α β}{f:M α}{Q:β->Hp->Prop}(hR:∀G F H σ ρ b a,R G F H σ ρ b a->R' F b a)(h:rz X.K X.mg Z R' (wP f) σ H Q):lift (lc X EX) R f σ H Q:=by obtain⟨Y,aW,H₀,F,S,d,W',g,e,k⟩:=h;unfold wP at e;cases q:f S.r with|ok v r=>rw[q] at e;cases e;exact Wg.use (L:=lc X EX) g.g q fun F' H' b g' s r=>k F' H' b ⟨g',g.me,g.rw⟩ s (hR _ _ _ _ _ _ _ r)|exc x r=>rw[q] at e;cases e|no=>rw[q] at e;cases e
theorem bu{f:M D}(h:PV X kA e f):wL X Z e (wP f):=L2.PE.le h fun σ H Q z=>h9 (fun _ _ _ _ _ _ _ r=>r) z
theorem dM:O0 X Z [] (bt []):=cY.le fun σ H Q zz=>by obtain⟨Y,aW,H₀,F,S,d,W',g,e,k⟩:=zz;cases e;exact k F H [] g (aE.refl _) .nil
theorem a9{f:WE D}{fs:List (WE D)}(h:wL X Z e f)(t:O0 X Z es (bt fs))(hs:autoParam (V1 X e es) AuP.a._autoParam):O0 X Z (e::es) (bt (f::fs)):=L2.PA.le (bC h t hs) fun σ H Q z=>GD z fun Y aW H₀ F S F1 H1 v b W1 d W2 g s r e c=>by unfold wB wR at e;cases q:bt fs Y.ro {S with w:=W1} with|none=>rw[q] at e;cases e|some p=>rw[q] at e;cases e;exact⟨Y,aW,H₀,F1,_,p.1,p.2,g,q,fun F' H' vs g' s' r'=>c F' H' _ g' (s.trans s') (.cons (r.same s') r')⟩
theorem P8{K:Frag}{mg:MG}{F H:Hp}{vs:Pk}{ds:OK}(h:aN K mg F vs ds):iC K mg F H (List.replicate vs.length false) vs ds/\dF i (List.replicate vs.length false) vs=[]:=by revert i;exact h.ind (P:=fun vs ds=>∀{i:Nat},iC K mg F H (List.replicate vs.length false) vs ds/\dF i (List.replicate vs.length false) vs=[]) ⟨trivial,rfl⟩ fun {v d vs ds} h _ ih {i}=>⟨⟨h,(ih (i:=i)).1⟩,by simp only[List.length_cons,List.replicate_succ,dF];exact ih.2⟩
theorem w_call{x:Str}{n k:Nat}{fs:Fn}{f:WE (List D)}(W:∃st ps fA fd,oF X.K X.mg x st ps fA fd/\cj X.prog X.w X.K X.mg X.base jG k fA fd ps (oC X.K X.mg (List.replicate (es.length+1) false) fs))(hr:bY n X.A)(ha:O0 X Z (e::es) f)(hk:k<=n:=by exact U0)(hg:autoParam (Gl X x) AuP.a._autoParam)(jH:autoParam (Qu x) AuP.b._autoParam)(he:autoParam (V1 X e es) AuP.a._autoParam) (iX:autoParam (Jn X pos es) AuP.a._autoParam):wL X Z (.Call (.Name x p) (e::es) [] pos) (ma fs (es.length+1) f):=by
 obtain⟨st,ps,fA,fd,D,Fo⟩:=W;refine L2.PE.le (Iv Fo (hr.mono hk) hg D.mg D.fu.kp D.bi .nil rD ha jH he iX) fun σ H Q z=>GD z fun Y aW H₀ F S F1 H1 v b W1 d W2 g s r e c=>?_;unfold wO at e;rw[Il];by_cases hl:v.length=es.length+1;rw[WL hl] at e;rw[<-r.length] at hl;obtain⟨a1,a2⟩:=P8 (H:=H1) (i:=0) r;rw[hl] at a1 a2;have a3:pB (List.replicate (es.length+1) false) b=[]:=congrArg _ a2;refine⟨by simp[hl],F1,v,g.g.x.sub,a1,by rw[a3];exact .nil,?_⟩;cases q:fs v with
  |ok u cy=>rw[q] at e;cases cy with|nil=>cases e;intro F' H' w af rd;rw[a3] at af;exact c F' H' w (g.ext af.sF af.sub (fun b o e=>af.old b o e O3) af.new) (s.trans af.sF) rd|cons _ _=>cases e
  |exc x cy=>rw[q] at e;cases e|no=>rw[q] at e;cases e
 rw[S8 hl] at e;cases e
theorem gy{pl:Sem Bool}{m:Str}{n k:Nat}{φ:Ga}{f:WE (List D)}{x:Str}(W:∃qn st ps C fA fd,qo X.K X.mg "Work" m qn bs st ps C fA fd/\cj X.prog X.w X.K X.mg X.base jG k fA fd ps (Jq X.K X.mg (es.length+2) φ))(hr:bY n X.A)(ha:O0 X Z (e::es) f)(hk:k<=n:=by exact U0)
  (hN:autoParam (X.N[Z.1]?=some x) AuP.a._autoParam) (hv:oI X.env.scope x:=by exact Vd) (hm:autoParam ((["row_of","rows","done"]:Ut).contains m=false) AuP.b._autoParam) (hd:autoParam (Qu x) AuP.b._autoParam) (gp:autoParam (P7 x) AuP.b._autoParam)
  (hU:autoParam (V1 X e es) AuP.a._autoParam) (iX:autoParam (Jn X pos es) AuP.a._autoParam)
  (ht:autoParam (eval (.Call (.Attribute (.Name x p) m Pn) (e::es) [] pos) X.env=(do
   let ov <-eval (.Name x p) X.env
   standAt Pn.atName
   let (f,first) <-holding [ov] (getMethod ov m pl)
   callWith pos f first (backTo pos (starEach (e::es) X.env)) (backToKw pos (keywordEach [] X.env)))) AuP.a._autoParam):wL X Z (.Call (.Attribute (.Name x p) m Pn) (e::es) [] pos) (bT φ (es.length+1) f):=by
 obtain⟨qn,st,ps,C,fA,fd,M,Fo⟩:=W;refine L2.PE.le (oy (cC hN hv hd gp) M.cls M.me Fo (hr.mono hk) M.bi .nil rD ha hU iX ht) fun σ H Q z=>?_;have z':=z;obtain⟨Y,aW,H₀,F,S,d,W',g,e,c⟩:=z;obtain⟨C',dx,r,u,h1,h2,h3,h4⟩:=g.g.w.ob;rw[M.gm] at h1;cases h1;refine⟨_,g.me,Y.a,dx,_,rfl,h2,lookup_none hm,?_⟩
 ·unfold bT wB at e;cases q:f Y.ro S with
 |none=>rw[q] at e;cases e|some p=>
  rw[q] at e;refine⟨Y,aW,H₀,F,S,p.1,p.2,g,q,fun F1 H1 vs g1 s1 r1=>?_⟩;by_cases hl:p.1.length=es.length+1
  ·simp only[Option.bind,if_pos hl] at e;show Jq X.K X.mg (es.length+2) φ (V.ref Y.a::(vs++[])) H1 Q E0;rw[Il];exact⟨by simp[r1.length,hl],F1,Y,p.2,vs,p.1,d,W',rfl,g1.g.x.sub,r1,g1.g.w,e,fun F' H' v x w dv=>c F' H' v ⟨g1.g.go x w,g1.me,g1.rw⟩ (s1.trans x.sF) dv⟩
  ·simp only[Option.bind,if_neg hl] at e;cases e
theorem Td{c:Expr}{fc:M Bool}{fa fb:WE D}(hc:PB X kA c fc)(ha:wL X Z a fa)(hb:wL X Z b fb):wL X Z (.IfExp c a b pos) (Gs fc fa fb):=L2.PE.le (vR hc ha hb) fun σ H Q z=>h9 (R':=fun _ b a=>b=a) (fun _ _ _ _ _ _ _ r=>r) (GD (R:=fun _ b a=>b=a) z fun Y aW H₀ F S F1 H1 v b W1 d W2 g s r e c=>by subst r;cases b with|true=>exact sT (Rk g s e c)|false=>exact sR (Rk g s e c))
theorem DR{fi:M D}{l d:D}{o:D}{S:WS}{W2:Wk}(h:wB (wP fi) (fun p o S=>match rowAt o S.w l,p with|some (_,r),.int (.ofNat k)=>r[k]?.map fun v=>(.int v,S.w)|_,_=>none) o S=some (d,W2)) : ∃(j:Nat)(r:ZX)(k:Nat)(v:Int)(ρ:aU),lG o l=some (.int (j:Nat))/\S.w.rows[j]?=some r/\fi S.r=.ok (.int (k:Nat)) ρ/\r[k]?=some v/\d=.int v/\W2=S.w:=by
 unfold wB wP at h;cases q:fi S.r with
 |exc x r=>rw[q] at h;cases h|no=>rw[q] at h;cases h|ok p ρ=>
  rw[q] at h;simp only[Option.bind] at h;split at h;rename_i j r k e;unfold rowAt at e;split at e;rename_i j' e';cases e2:S.w.rows[j']? with|none=>rw[e2] at e;cases e|some r'=>rw[e2] at e;cases e;cases e3:r[k]? with|none=>rw[e3] at h;cases h|some v=>rw[e3] at h;cases h;exact⟨_,_,k,v,ρ,e',e2,rfl,e3,rfl,rfl⟩
  cases e;cases h
theorem OT{pl:Sem Bool}{x:Str}{n k:Nat}{fa fb:M D}{Pn p2:Pos}(W:∃qn st ps C fA fd,qo X.K X.mg "Work" "row_with" qn bs st ps C fA fd/\cj X.prog X.w X.K X.mg X.base jG k fA fd ps (SM X.K X.mg))(hr:bY n X.A)(ha:PV X kA a fa)(hb:PV X kA b fb)(hk:k<=n:=by exact U0)
  (hN:autoParam (X.N[Z.1]?=some x) AuP.a._autoParam) (hv:oI X.env.scope x:=by exact Vd) (hd:autoParam (Qu x) AuP.b._autoParam) (gp:autoParam (P7 x) AuP.b._autoParam)
  (hU:autoParam (V1 X a []) AuP.a._autoParam) (hs:ly b:=by exact D6)
  (ht:autoParam (eval (.Call (.Attribute (.Name x p) "row_with" Pn) [a] [] pos) X.env=(do
   let ov <-eval (.Name x p) X.env
   standAt Pn.atName
   let (f,first) <-holding [ov] (getMethod ov "row_with" pl)
   callWith pos f first (backTo pos (starEach [a] X.env)) (backToKw pos (keywordEach [] X.env)))) AuP.a._autoParam):wL X Z (.Subscript (.Call (.Attribute (.Name x p) "row_with" Pn) [a] [] pos) b p2) (Ar fa fb):=by
 obtain⟨qn,st,ps,C,fA,fd,M,Fo⟩:=W;refine L2.PE.le (vS pE (oy (cC hN hv hd gp) M.cls M.me Fo (hr.mono hk) M.bi .nil rD (bC ha cY hU) hU rfl ht) hb hs) fun σ H Q z=>?_;have z':=z;obtain⟨Y,aW,H₀,F,S,d,W',g,e,c⟩:=z;obtain⟨C',dx,r,u,h1,h2,h3,h4⟩:=g.g.w.ob;rw[M.gm] at h1;cases h1;unfold Ar wB at e;cases q:wP fa Y.ro S with
  |none=>rw[q] at e;cases e|some pa=>
   rw[q] at e;obtain⟨j,row,i,v,ρ,e1,e2,e3,e4,rfl,rfl⟩:=DR e;have hW:pa.2=S.w:=by
    unfold wP at q;split at q
    ·cases q;rfl
    ·cases q
   refine⟨_,g.me,Y.a,dx,_,rfl,h2,lookup_none (show (["row_of","rows","done"]:Ut).contains "row_with" = false by decide),h9 (EX:=kA) (R:=RV (lc X kA)) (R':=Den X.K X.mg) (fun _ _ _ _ _ _ _ r=>r) ⟨Y,aW,H₀,F,S,pa.1,pa.2,g,q,fun F1 H1 y g1 s1 r1=>?_⟩⟩;have iA:j<Y.ls.length:=by rw[g1.g.w.len];exact(List.getElem?_eq_some_iff.mp e2).1
   refine⟨rfl,F1,Y,pa.2,y,pa.1,j,Y.ls[j],rfl,g1.g.x.sub,r1,g1.g.w,e1,Uz iA,?_⟩;refine Wg.use (L:=lc X kA) g1.g e3 fun F2 H2 y2 g2 s2 r2=>?_;obtain rfl:=Den.i r2;exact .inl ⟨_,_,_,_,rfl,rfl,cn.of (g2.w.row j _ row (Uz iA) e2),sx (by simp[e4]),c F2 H2 (.int v) ⟨g2,g1.me,g1.rw⟩ (s1.trans s2) (.int v)⟩
noncomputable def liftM(K:Frag)(mg:MG)(Z:Nat×Nat)(f:WM):TS:=fun E σ H=>∃Y aW H₀ F S k S',Wf K mg Z Y aW H₀ F H σ S/\f Y.ro S=some (k,S')/\match k with|.nx=>∀F' H' bf,Wf K mg Z Y aW H₀ F' H' bf S'->E.nx bf H'|.rt d=>∀F' H' bf v,Wf K mg Z Y aW H₀ F' H' bf S'->Den K mg F' v d->E.rt v H'|_=>False
def FZ(X:Cx)(Z:Nat×Nat)(st:Stmt)(f:WM):Prop:=PS X st (liftM X.K X.mg Z f)
def rY(X:Cx)(Z:Nat×Nat)(st:List Stmt)(f:WM):Prop:=rX X st (liftM X.K X.mg Z f)
theorem bP:rY X Z [] fq:=tL.le fun E σ H zz=>by obtain⟨Y,aW,H₀,F,S,k,S',g,e,c⟩:=zz;cases e;exact c F H σ g
theorem aV{st:Stmt}{rest:List Stmt}{f h:WM}(h1:FZ X Z st f)(h2:rY X Z rest h):rY X Z (st::rest) (bh f h):=L2.rX.le (iR h1 h2) fun E σ H zz=>by obtain⟨Y,aW,H₀,F,S,k,S',g,e,c⟩:=zz;unfold bh at e;cases q:f Y.ro S with|none=>rw[q] at e;cases e|some p=>rw[q] at e;obtain⟨k1,S1⟩:=p;refine⟨Y,aW,H₀,F,S,k1,S1,g,q,?_⟩;cases k1 with|nx=>exact fun F' H' bf g'=>⟨Y,aW,H₀,F',S1,k,S',g',e,c⟩|bk=>cases e;exact c|ct=>cases e;exact c|rt d=>cases e;exact c
theorem m7{f:WE D}(h:wL X Z e f):FZ X Z (.Return (some e) pos) (jJ f):=L2.PS.le (ya h) fun E σ H zz=>by obtain⟨Y,aW,H₀,F,S,k,S',g,e,c⟩:=zz;unfold jJ at e;cases q:f Y.ro S with|none=>rw[q] at e;cases e|some p=>rw[q] at e;cases e;exact⟨Y,aW,H₀,F,S,p.1,p.2,g,q,fun F' H' v g' s r=>c F' H' σ v g' r⟩
theorem kR{c:Expr}{fc:M Bool}{sa sb:List Stmt}{fa fb:WM}(hc:PB X kA c fc)(ha:rY X Z sa fa)(hb:rY X Z sb fb):FZ X Z (.If c sa sb pos) (fN fc fa fb):=L2.PS.le (KQ hc ha hb) fun E σ H zz=>by
 obtain⟨Y,aW,H₀,F,S,k,S',g,e,c⟩:=zz;unfold fN at e;cases q:wP fc Y.ro S with
 |none=>rw[q] at e;cases e|some p=>
  rw[q] at e;refine h9 (EX:=kA) (R:=RB) (R':=fun _ b a=>b=a) (fun _ _ _ _ _ _ _ r=>r) ⟨Y,aW,H₀,F,S,p.1,p.2,g,q,fun F' H' v g' s r=>?_⟩;have hW:p.2=S.w:=by unfold wP at q;split at q;cases q;rfl;cases q
  rw[hW] at g';subst r;obtain⟨v,_⟩:=p;cases v with|true=>exact sT ⟨Y,aW,H₀,F',S,k,S',g',e,c⟩|false=>exact sR ⟨Y,aW,H₀,F',S,k,S',g',e,c⟩
theorem Wf.set{K:Frag}{mg:MG}{Y:Wy}{S:WS}(g:Wf K mg Z Y aW H₀ F H σ S)(i:Nat)(h:Den K mg F v d)(h1:i≠Z.1)(h2:i≠Z.2):Wf K mg Z Y aW H₀ F H (σ.set i (some v)) {S with r:=S.r.set i (.sh d)}:=⟨g.g.set i h,by rw[RH h1];exact g.me,fun j e=>let ⟨l,a,b⟩:=g.rw j e;⟨l,a,by rw[RH h2];exact b⟩⟩
theorem m8(i:Nat){x:Str}{UA:Pos}{f:WE D}(hN:X.N.Nodup)(h:wL X Z e f)(h1:autoParam (i≠Z.1) AuP.b._autoParam)(h2:autoParam (i≠Z.2) AuP.b._autoParam)(hi:autoParam (X.N[i]?=some x) AuP.a._autoParam)(hx:Loc X.env.scope x:=by exact A6)(hs:autoParam (swapsWith e (some (.Name x UA)) pos.line X.env=pure false) AuP.a._autoParam)(hf:Lw X x:=by exact RP):FZ X Z (.Assign [.Name x UA] e pos) (gX i f):=L2.PS.le (pZ hN hi hx h hs hf) fun E σ H zz=>by obtain⟨Y,aW,H₀,F,S,k,S',g,e,c⟩:=zz;unfold gX at e;cases q:f Y.ro S with|none=>rw[q] at e;cases e|some p=>rw[q] at e;cases e;exact⟨Y,aW,H₀,F,S,p.1,p.2,g,q,fun F' H' v g' s r=>c F' H' _ (g'.set i r h1 h2)⟩
theorem uk{x:Str}{p1 p2 p3 p4 p5 p6 p7:Pos}{cs:Ut}{jj}(T:nI X.K X.mg cs "done")(hc:autoParam (("Work" : Str)∈cs) AuP.b._autoParam)(hN:autoParam (X.N[Z.1]?=some x) AuP.a._autoParam)(hv:oI X.env.scope x:=by exact Vd)(hd:autoParam (Qu x) AuP.b._autoParam)(gp:autoParam (P7 x) AuP.b._autoParam)
  (hs:autoParam (swapsWith (.BinOp (.Attribute (.Name x p1) "done" p2) .Add (.Constant (.int 1) jj p3) p4) (some (.Attribute (.Name x p5) "done" p6)) p7.line X.env=pure false) AuP.a._autoParam)
  (hb:autoParam (attributeBase (.Name x p1) "done" X.env (eval (.Name x p1) X.env)=eval (.Name x p1) X.env) AuP.a._autoParam):FZ X Z (.Assign [.Attribute (.Name x p5) "done" p6] (.BinOp (.Attribute (.Name x p1) "done" p2) .Add (.Constant (.int 1) jj p3) p4) p7) nE:=
 L2.PS.le (pY (cC hN hv hd gp) (NL (tI (cC hN hv hd gp) hb) tJ) hs) fun E σ H zz=>by
  obtain⟨Y,aW,H₀,F,S,k,S',g,e,c⟩:=zz;cases e;obtain⟨C,dx,r,u,h1,h2,h3,h4⟩:=g.g.w.ob;obtain⟨C',m,cl,na⟩:=T _ hc;rw[h1] at m;cases m;have nr:r≠Y.a:=fun z=>by rw[z,g.g.w.na] at h4;cases h4
  refine⟨_,g.me,Y.a,C,dx,_,.int S.w.dn,rfl,h2,cl,na,rfl,S.w.dn,1,rfl,rfl,_,g.me,Y.a,C,dx,_,rfl,h2,cl,na,O3,?_⟩;refine c F _ σ ⟨g.g.go ⟨aE.refl _,fun b o e=>?_,fun b o e n _=>?_,fun _ _ e=>.inl e,fun b o e=>?_⟩ ⟨⟨C,dx,r,u,h1,aB,h3,h4⟩,g.g.w.len,fun j l ns a b=>?_,g.g.w.na,g.g.w.nl,g.g.w.nd⟩,g.me,g.rw⟩
  ·rw[aF (aT e g.g.w.na)];exact g.g.x.sub _ _ e
  ·rw[aF n];exact e
  ·by_cases z:b=Y.a
   ·subst z;exact⟨_,aB⟩
   ·exact⟨o,by rw[aF z];exact e⟩
  ·have:l≠Y.a:=fun z=>(List.nodup_cons.mp g.g.w.nd).1 (z ▸ TQ a);rw[aF this];exact g.g.w.row j l ns a b
end
theorem FP{K:Frag}{mg:MG}{m qn:Str}{bs:Bool}{st:Stmt}{C f:Addr}{fd:FuncData}{ps:Ut}{k rs:Nat}(N:Ut)(body:WM)(M:qo K mg "Work" m qn bs st ps C f fd)
  (hb:∀{gV:Value}{A:Around}{outer:List Env}{s:Shared}{H:Hp}{E:XK},c7 N ps (aR st)->bY k (A.deeper (envOfC qn (aR st) s.heap.objs.size f gV))->rY (oR jG P w K mg base N qn (aR st) f gV A outer s H E).H0 (0,rs) (bQ st) body) (hl:autoParam (ps.length<=N.length) AuP.b._autoParam) (S:c7 N ps (aR st):=by exact KU) (wQ:autoParam (ps.length=np) AuP.a._autoParam) (hg:autoParam (dE N.length body=φ) AuP.d._autoParam) :
  ∃qn st ps C fA fd,qo K mg "Work" m qn bs st ps C fA fd/\cj P w K mg base jG (k+1) fA fd ps (Jq K mg np φ):=
 ⟨qn,st,ps,C,f,fd,M,M.fu.ok S (fun _ _ _ _ h=>h.1.trans wQ.symm) fun gV A outer s H vs Q E hr h=>⟨_,hb S hr,by
  subst wQ hg;obtain⟨hn,F,Y,W,us,ds,d,W',rfl,sub,du,wa,e,c⟩:=h;unfold dE at e;cases q:body Y.ro ⟨fO N.length ds,none,W⟩ with
  |none=>rw[q] at e;cases e|some p=>
   rw[q] at e;obtain⟨k1,S1⟩:=p;have hd:=du.length;simp only[List.length_cons] at hn;refine⟨Y,F,H,F,⟨fO N.length ds,none,W⟩,k1,S1,⟨⟨Wx.refl sub,wa,?_,fun i d h=>?_,fun i s h=>?_⟩,rfl,fun j e=>by cases e⟩,q,?_⟩;simp[L2.start,fO];omega;unfold fO at h;cases i with
   |zero=>cases h|succ i=>
    rw[List.getElem?_cons_succ,List.getElem?_append] at h;split at h;rw[CW] at h;cases q:ds[i]? with|none=>rw[q] at h;cases h|some d'=>rw[q] at h;cases h;obtain⟨v,h1,h2⟩:=du.get q;exact⟨v,by rw[mV (v:=v) (by simpa using h1)];rfl,h2⟩
    rw[wd] at h;split at h<;>cases h
   unfold fO at h;cases i with
   |zero=>cases h;rfl|succ i=>
    rw[List.getElem?_cons_succ,List.getElem?_append] at h;split at h;rw[CW] at h;cases q:ds[i]? with|none=>rw[q] at h;cases h|some d'=>rw[q] at h;cases h;rfl
    rw[wd] at h;split at h<;>cases h;rfl
   cases k1 with|nx=>cases e;exact fun F' H' bf g=>c F' H' .bB g.g.x g.g.w .bB|bk=>cases e|ct=>cases e|rt d=>cases e;exact fun F' H' bf v g r=>c F' H' v g.g.x g.g.w r⟩⟩
theorem BH{f:M α}{o:D}{S:WS}(h:wP f o S=some (v,W)):(∃ρ,f S.r=.ok v ρ)/\W=S.w:=by unfold wP at h;split at h;rename_i d r q;cases h;exact⟨⟨_,q⟩,rfl⟩;cases h
theorem rH(h:rowAt o W l=some (j,r)):lG o l=some (.int (j:Nat))/\W.rows[j]?=some r:=by
 unfold rowAt at h;split at h;rename_i j' e;cases e2:W.rows[j']? with|none=>rw[e2] at h;cases h|some r'=>rw[e2] at h;cases h;exact⟨e,e2⟩
 cases h
theorem vh(h:hand j W=some (i,r)):j=some i/\W.rows[i]?=some r:=by unfold hand at h;cases j with|none=>cases h|some k=>simp only[Option.bind] at h;cases e:W.rows[k]? with|none=>rw[e] at h;cases h|some r'=>rw[e] at h;cases h;exact⟨rfl,e⟩
section
variable{X:Cx}{Z:Nat×Nat}{e a b o:Expr}{es:KJ}{pos p Pn:Pos}
theorem Wf.here{K:Frag}{mg:MG}{Y:Wy}{S:WS}(g:Wf K mg Z Y aW H₀ F H σ S):Wf K mg Z Y F H F H σ S:=⟨⟨Wx.refl g.g.x.sub,g.g.w,g.g.len,g.g.slot,g.g.no⟩,g.me,g.rw⟩
theorem Wf.then{K:Frag}{mg:MG}{Y:Wy}{S S':WS}(g:Wf K mg Z Y aW H₀ F H σ S)(h:Wf K mg Z Y F H F' H' bf S'):Wf K mg Z Y aW H₀ F' H' bf S':=⟨⟨g.g.x.trans h.g.x,h.g.w,h.g.len,h.g.slot,h.g.no⟩,h.me,h.rw⟩
theorem w_get{x:Str}{fi:M D}(hi:PV X kA a fi)(hN:autoParam (X.N[Z.2]?=some x) AuP.a._autoParam)(hv:oI X.env.scope x:=by exact Vd)(hd:autoParam (Qu x) AuP.b._autoParam)(gp:autoParam (P7 x) AuP.b._autoParam)(hs:ly a:=by exact D6):wL X Z (.Subscript (.Name x p) a pos) (yw fi):=by
 refine L2.PE.le (vS pE (cC hN hv hd gp) hi hs) fun σ H Q z=>?_;obtain⟨Y,aW,H₀,F,S,d,W',g,e,c⟩:=z;unfold yw wB at e;cases q:wP fi Y.ro S with
  |none=>rw[q] at e;cases e|some pa=>
   rw[q] at e;obtain⟨y,W1⟩:=pa;obtain⟨⟨ρ,e1⟩,rfl⟩:=BH q;simp only[Option.bind] at e;split at e;rename_i k j r e2;obtain⟨hj,hr⟩:=vh e2;obtain⟨l,h1,h2⟩:=g.rw j hj;cases e3:r[k]? with|none=>rw[e3] at e;cases e|some v=>rw[e3] at e;cases e;refine⟨_,h2,Wg.use (L:=lc X kA) g.g e1 fun F2 H2 y2 g2 s2 r2=>?_⟩;obtain rfl:=Den.i r2;exact .inl ⟨_,_,_,_,rfl,rfl,cn.of (g2.w.row j _ r h1 hr),sx (by simp[e3]),c F2 H2 (.int v) ⟨g2,g.me,g.rw⟩ s2 (.int v)⟩
   cases e
theorem yy{pl:Sem Bool}{x y:Str}{n k:Nat}{fa:M D}{p2 UA:Pos}(YH:X.N.Nodup)(W:∃qn st ps C fA fd,qo X.K X.mg "Work" "row_with" qn bs st ps C fA fd/\cj X.prog X.w X.K X.mg X.base jG k fA fd ps (SM X.K X.mg))(hr:bY n X.A)(ha:PV X kA a fa)(hz:autoParam (Z.2≠Z.1) AuP.b._autoParam)(hk:k<=n:=by exact U0)
  (hN:autoParam (X.N[Z.1]?=some x) AuP.a._autoParam) (hv:oI X.env.scope x:=by exact Vd) (hd:autoParam (Qu x) AuP.b._autoParam) (gp:autoParam (P7 x) AuP.b._autoParam)
  (hU:autoParam (V1 X a []) AuP.a._autoParam)
  (ht:autoParam (eval (.Call (.Attribute (.Name x p) "row_with" Pn) [a] [] pos) X.env=(do
   let ov <-eval (.Name x p) X.env
   standAt Pn.atName
   let (f,first) <-holding [ov] (getMethod ov "row_with" pl)
   callWith pos f first (backTo pos (starEach [a] X.env)) (backToKw pos (keywordEach [] X.env)))) AuP.a._autoParam)
  (hi:autoParam (X.N[Z.2]?=some y) AuP.a._autoParam) (hx:Loc X.env.scope y:=by exact A6) (hs:autoParam (swapsWith (.Call (.Attribute (.Name x p) "row_with" Pn) [a] [] pos) (some (.Name y UA)) p2.line X.env=pure false) AuP.a._autoParam)
  (hf:Lw X y:=by exact RP):FZ X Z (.Assign [.Name y UA] (.Call (.Attribute (.Name x p) "row_with" Pn) [a] [] pos) p2) (wF Z.2 fa):=by
 obtain⟨qn,st,ps,C,fA,fd,M,Fo⟩:=W;refine L2.PS.le (pZ YH hi hx (oy (cC hN hv hd gp) M.cls M.me Fo (hr.mono hk) M.bi .nil rD (bC ha cY hU) hU rfl ht) hs hf) fun E σ H zz=>?_;obtain⟨Y,aW,H₀,F,S,k,S',g,e,c⟩:=zz;obtain⟨C',dx,r,u,h1,h2,h3,h4⟩:=g.g.w.ob;rw[M.gm] at h1;cases h1;unfold wF at e;cases q:wP fa Y.ro S with
  |none=>rw[q] at e;cases e|some pa=>
   rw[q] at e;simp only[Option.bind] at e;obtain⟨y,W1⟩:=pa;have hW:=(BH q).2;subst hW;cases q2:rowAt Y.ro S.w y with
   |none=>rw[q2] at e;cases e|some jr=>
    rw[q2] at e;simp only at e;by_cases V9:Z.2<S.r.length
    ·rw[WL V9] at e;cases e;obtain⟨j,row⟩:=jr;obtain⟨e1,e2⟩:=rH q2;refine⟨_,g.me,Y.a,dx,_,rfl,h2,lookup_none (show (["row_of","rows","done"]:Ut).contains "row_with" = false by decide),h9 (EX:=kA) (R:=RV (lc X kA)) (R':=Den X.K X.mg) (fun _ _ _ _ _ _ _ r=>r) ⟨Y,aW,H₀,F,S,y,S.w,g,q,fun F1 H1 z g1 s1 r1=>?_⟩⟩;have iA:j<Y.ls.length:=by rw[g1.g.w.len];exact(List.getElem?_eq_some_iff.mp e2).1
     refine⟨rfl,F1,Y,S.w,z,y,j,Y.ls[j],rfl,g1.g.x.sub,r1,g1.g.w,e1,Uz iA,c F1 H1 _ ⟨g1.g.put Z.2 _,?_,fun j' e'=>?_⟩⟩
     ·rw[RH hz];exact g1.me
     ·cases e';exact⟨_,Uz iA,Vb (by rw[g1.g.len];exact V9)⟩
    ·rw[S8 V9] at e;cases e
theorem yx{x:Str}{f:WE D}{fi:M D}{p2 p3:Pos}(h:wL X Z e f)(hi:PV X kA a fi)(hN:autoParam (X.N[Z.2]?=some x) AuP.a._autoParam)(hv:oI X.env.scope x:=by exact Vd)(hd:autoParam (Qu x) AuP.b._autoParam)(gp:autoParam (P7 x) AuP.b._autoParam)
  (ha:∀v,assign (.Subscript (.Name x p) a p2) X.env v=(do
   let ov <-holding [v] (eval (.Name x p) X.env);let iv <-holding [v,ov] (eval a X.env)
   standAt p2
   holding [v,ov,iv] (setItem ov iv v)
   release [v,ov,iv] []):=by exact Oc)
  (hs:autoParam (swapsWithSole [.Subscript (.Name x p) a p2] e p3.line X.env=pure false) AuP.a._autoParam) (hw:autoParam (swappedStores [.Subscript (.Name x p) a p2] e X.env=pure none) AuP.a._autoParam)
  (h1:autoParam ((assignEach [.Subscript (.Name x p) a p2] X.env).map (·.2)=[assign (.Subscript (.Name x p) a p2) X.env]) AuP.a._autoParam):FZ X Z (.Assign [.Subscript (.Name x p) a p2] e p3) (mf fi f):=by
 refine L2.PS.le (EW h (ER (cC hN hv hd gp) hi set_list ha) hs hw h1) fun E σ H zz=>?_;obtain⟨Y,aW,H₀,F,S,k,S',g,e,c⟩:=zz;unfold mf at e;cases q:f Y.ro S with|none=>rw[q] at e;cases e|some pa=>rw[q] at e;simp only[Option.bind] at e;obtain⟨vd,W1⟩:=pa;cases q2:wP fi Y.ro {S with w:=W1} with|none=>rw[q2] at e;cases e|some pi=>rw[q2] at e;simp only at e;obtain⟨id,W2⟩:=pi;obtain⟨⟨ρ,e1⟩,hW⟩:=BH q2;split at e;rename_i v k j r G8 hh;simp only at G8;subst G8;obtain⟨hj,hr⟩:=vh hh;by_cases hk:k<r.length;rw[WL hk] at e;cases e;refine⟨Y,aW,H₀,F,S,_,W1,g,q,fun F1 H1 z g1 s1 r1=>?_⟩;obtain rfl:=Den.i r1;obtain⟨l,l1,l2⟩:=g1.rw j hj;refine⟨_,l2,Wg.use (L:=lc X kA) g1.g e1 fun F2 H2 y2 g2 s2 r2=>?_⟩;obtain rfl:=Den.i r2;refine⟨l,_,_,k,rfl,rfl,g2.w.row j l r l1 hr,by show DV _ ((k:Nat):Int)=some k;unfold DV;rw[WL (Int.natCast_nonneg k),WL (by simpa using hk)];simp,?_⟩;have:=g2.write (ms:=r.set k v) (ns:=[]) l1;rw[List.map_set] at this;exact c F2 _ σ ⟨this,g1.me,g1.rw⟩;rw[S8 hk] at e;cases e;cases e
theorem uo{f:WE D}(h:wL X Z e f)(hs:autoParam (swapsWith e none pos.line X.env=pure false) AuP.a._autoParam):FZ X Z (.Expr e pos) (n4 f):=L2.PS.le (oz h hs) fun E σ H zz=>by obtain⟨Y,aW,H₀,F,S,k,S',g,e,c⟩:=zz;unfold n4 at e;cases q:f Y.ro S with|none=>rw[q] at e;cases e|some p=>rw[q] at e;cases e;exact⟨Y,aW,H₀,F,S,p.1,p.2,g,q,fun F' H' v g' s r=>c F' H' σ g'⟩
theorem um(i j:Nat){x y:Str}{p1 p2 p3 p4 p5:Pos}{kt:Nat}{body:List Stmt}{f:WM}{fa:M D}(hN:X.N.Nodup)(hm:X.mg "enumerate" = none)(ha:PV X kA a fa)(hb:rY X Z body f)(i1:autoParam (i≠Z.1) AuP.b._autoParam)(i2:autoParam (i≠Z.2) AuP.b._autoParam)(j1:autoParam (j≠Z.1) AuP.b._autoParam)(j2:autoParam (j≠Z.2) AuP.b._autoParam)
  (hg:autoParam (Gl X "enumerate") AuP.a._autoParam) (hs:autoParam (starEach [a] X.env=[(false,eval a X.env)]) AuP.a._autoParam) (hi:autoParam (X.N[i]?=some x) AuP.a._autoParam) (hj:autoParam (X.N[j]?=some y) AuP.a._autoParam) (hx:Loc X.env.scope x:=by exact A6) (hy:Loc X.env.scope y:=by exact A6)
  (fx:Lw X x:=by exact RP) (fy:Lw X y:=by exact RP)
  (g1:autoParam ((assignEach [.Name x p1,.Name y p2] X.env).map (·.2)=assign (.Name x p1) X.env::(assignEach [.Name y p2] X.env).map (·.2)) AuP.a._autoParam) (g2:autoParam ((assignEach [.Name y p2] X.env).map (·.2)=assign (.Name y p2) X.env::(assignEach [] X.env).map (·.2)) AuP.a._autoParam)
  (gn:autoParam ((assignEach [.Name x p1,.Name y p2] X.env).length=2) AuP.a._autoParam) (gs:autoParam ((assignEach [.Name x p1,.Name y p2] X.env).findIdx? (·.1)=none) AuP.a._autoParam) (hc:autoParam (X.calm=true) AuP.a._autoParam) (hp:PassesOwn (model X.prog X.w) X.A X.env X.xe:=by exact PassesOwn.never)
  (Vx:∀z,foldedSetIterable (.Call (.Name "enumerate" p4) [a] [] p5) X.env z=pure z:=by exact Oc):FZ X Z (.For (.Tuple [.Name x p1,.Name y p2] kt p3) (.Call (.Name "enumerate" p4) [a] [] p5) body [] pos) (nG fa i j f):=by
 refine L2.PS.le (x9 hp hc (zY hg hm (bC ha cY (by rw[hs];rfl)) hs) (ES hc (pW (ku hN hi hx fx) (pW (ku hN hj hy fy) zX g2) g1) gn gs) hb Vx) fun E σ H zz=>?_;obtain⟨Y,aW,H₀,F,S,k,S',g,e,c⟩:=zz;unfold nG at e;cases q:wP fa Y.ro S with
  |none=>rw[q] at e;cases e|some pa=>
   rw[q] at e;simp only[Option.bind] at e;obtain⟨ld,W1⟩:=pa;have hW:=(BH q).2;subst hW;cases ld with
   |lst ds=>
    simp only at e;refine h9 (EX:=kA) (R:=RV (lc X kA)) (R':=Den X.K X.mg) (fun _ _ _ _ _ _ _ r=>r) ⟨Y,aW,H₀,F,S,_,S.w,g,q,fun F1 H1 z g1 s1 r1=>?_⟩;obtain⟨l,vs,rfl,hl,dl⟩:=Den.l r1;refine⟨l,rfl,⟨vs,cn.same hl g1.g.x.sub⟩,fun n m σ H=>m=ds.length-n/\n<=ds.length/\∃F' S1,Wf X.K X.mg Z Y aW H₀ F' H σ S1/\aE F1 F'/\qi i j f n (ds.drop n) Y.ro S1=some (k,S'),⟨ds.length,O3,Xq _,F1,S,g1,aE.refl _,by simpa using e⟩,?_⟩;rintro n m BK H2 ⟨rfl,hn,F2,S2,g2,s2,e2⟩;obtain⟨t1,t2,t3⟩:=vo (L:=lc X kA) (G:=⟨H2,F2,[]⟩) (cn.same hl s2) (dl.same s2) BK n F2 H2 S2.r (aE.refl _) g2.g.good;have le:(iG ds).length=ds.length:=by simp[iG]
    rw[le] at t1 t2;by_cases iA:n<ds.length;refine .inr ⟨t1 iA,fun bf H'=>∃F' S1,Wf X.K X.mg Z Y aW H₀ F' H' bf S1/\aE F1 F'/\qi i j f (n+1) (ds.drop (n+1)) Y.ro S1=some (k,S'),fun bf H' z=>⟨ds.length-(n+1),Ux,rfl,iA,z⟩,fun z H3 y=>?_⟩;obtain⟨F3,s3,g3,r3⟩:=t3 z H3 y;have Qt:Wf X.K X.mg Z Y aW H₀ F3 H3 BK S2:=⟨g2.g.back g3,g2.me,g2.rw⟩;obtain⟨tl,tvs,rfl,ht,dt⟩:=Den.t (r3 (.tup [.int n,ds[n]]) (by simp[iG,List.getElem?_zipWith,iA]));obtain⟨v1,w1,rfl,d1,dt⟩:=dt.c;obtain⟨v2,w2,rfl,d2,dt⟩:=dt.c;obtain rfl:=dt.n;rw[SU iA] at e2;unfold qi at e2;cases q3:f Y.ro {S2 with r:=(S2.r.set i (.sh (.int n))).set j (.sh ds[n])} with|none=>rw[q3] at e2;cases e2|some p=>rw[q3] at e2;obtain⟨k3,S3⟩:=p;cases k3 with|nx=>exact⟨tl,_,rfl,dW.same ht g3.sub,rfl,v1,_,rfl,v2,_,rfl,rfl,Y,F3,H3,F3,_,.nx,S3,((Qt.set i d1 i1 i2).set j d2 j1 j2).here,q3,fun F' H' bf g'=>⟨F',S3,Qt.then g',s2.trans (s3.trans g'.g.x.sF),e2⟩⟩|bk=>cases e2|ct=>cases e2|rt d=>cases e2
    have en:n=ds.length:=Ux;subst en;rw[List.drop_length] at e2;cases e2;exact .inl ⟨t2 rfl,c F2 H2 BK g2⟩
   |_=>cases e
theorem uq{WA:List Stmt}:rY X Z WA (fun _ _=>none):=fun WO s σ H E I zz=>by obtain⟨_,_,_,_,_,_,_,_,e,_⟩:=zz;cases e
end
theorem Ob{K:Frag}{mg:MG}{cs Xi:Ut}{vs:Pk}{H:Hp}{Q:VK}{E:XK}{nx bk ct}(h:SM K mg vs H Q E)(T1:nI K mg cs "rows")(T2:nI K mg Xi "row_of")(c1:("Work" : Str)∈cs)(c2:("Work" : Str)∈Xi) : OF (Jw (Wm K) (Fw K (nY 0) "rows") fun σ H Q=>Fw K (nY 0) "row_of" σ H fun x H1=>nY 1 σ H1 fun y H2=>∃p aZ ep k v,x=.ref p/\H2 p=some (.dK aZ ep)/\y=kV k/\ue aZ k=some v/\Q v H2) {nx:=nx,bk:=bk,ct:=ct,rt:=Q} (L2.start ["self","line"] vs) H:=by
 obtain⟨_,F,Y,W,u,d,j,l,rfl,sub,du,wa,hj,hl,q⟩:=h;unfold OF Jw;refine wa.fld T1 c1 rfl fun C dx r z e1 e2 e3=>⟨_,rfl,?_⟩;refine wa.fld T2 c2 rfl fun C dx r' z' Xl Xo e3'=>⟨_,rfl,_,rfl,?_⟩;cases XQ:Y.ro with
  |fP ks ds=>rw[XQ] at hj Xo;cases Xo with|fP h r=>cases du with|int k=>obtain⟨v,h1,h2⟩:=sC r hj;cases h2;exact⟨_,_,_,.inl k,_,rfl,sub _ _ h,rfl,h1,.inl ⟨_,_,_,_,rfl,rfl,cn.of (sub _ _ e3),sx (by simp[hl]),q⟩⟩|_=>cases hj
  |_=>rw[XQ] at hj;cases hj
section
variable{X:Cx}{Z:Nat×Nat}{e a b o:Expr}{es:KJ}{pos p Pn:Pos}
theorem Wf.laid{K:Frag}{mg:MG}{Y:Wy}{S:WS}{p:Addr}{o:HO}(g:Wf K mg Z Y aW H₀ F H σ S)(hp:H p=none):Wf K mg Z Y aW H₀ (upd F p o) (upd H p o) σ S/\aE F (upd F p o):=by have fp:F p=none:=g.g.x.sub.free hp;refine⟨g.ext (a8 fp) (fun b q e=>?_) (a8 hp) fun a u e=>?_,a8 fp⟩;by_cases hb:b=p;subst hb;rw[aB] at e ⊢;exact e;rw[aF hb] at e ⊢;exact g.g.x.sub _ _ e;by_cases hb:a=p;subst hb;exact .inr hp;rw[aF hb] at e;exact .inl e
theorem Te{x1}{f:WE (List D)}(h:O0 X Z es f):wL X Z (.Tuple es x1 pos) (JH f):=L2.PE.le (x4 h) fun σ H Q z=>GD z fun Y aW H₀ F S F1 H1 v b W1 d W2 g s r e c=>by unfold wO at e;by_cases hl:v.length<1000;rw[WL hl] at e;cases e;refine⟨by rw[r.length];exact RC (Nat.le_of_lt hl) (by decide),fun p hp=>?_⟩;obtain⟨g',s'⟩:=g.laid (o:=.tup b) hp;exact c _ _ _ g' (s.trans s') (.tup (dW.of aB) (r.same s'));rw[S8 hl] at e;cases e
theorem WQ{x:Str}{cs:Ut}(T:nI X.K X.mg cs "done")(hc:autoParam (("Work" : Str)∈cs) AuP.b._autoParam)(hN:autoParam (X.N[Z.1]?=some x) AuP.a._autoParam)(hv:oI X.env.scope x:=by exact Vd)(hd:autoParam (Qu x) AuP.b._autoParam)(gp:autoParam (P7 x) AuP.b._autoParam)(hb:autoParam (attributeBase (.Name x p) "done" X.env (eval (.Name x p) X.env)=eval (.Name x p) X.env) AuP.a._autoParam):wL X Z (.Attribute (.Name x p) "done" pos) UI:=
 L2.PE.le (tI (cC hN hv hd gp) hb) fun σ H Q zz=>by obtain⟨Y,aW,H₀,F,S,d,W',g,e,c⟩:=zz;cases e;exact g.g.w.fld T hc g.me fun C dx r u _ _ _=>⟨_,rfl,c F H _ g (aE.refl _) (.int _)⟩
theorem GL{fi:M D}{l d:D}{o:D}{S:WS}{W2:Wk}(h:wB (wP fi) (fun p o S=>match rowAt o S.w l,p with|some (_,r),.int k=>some (.lst (cutD (r.map .int) none (some k)),S.w)|_,_=>none) o S=some (d,W2)) : ∃(j:Nat)(r:ZX)(k:Int)(ρ:aU),lG o l=some (.int (j:Nat))/\S.w.rows[j]?=some r/\fi S.r=.ok (.int k) ρ/\d=.lst (cutD (r.map .int) none (some k))/\W2=S.w:=by unfold wB at h;cases q:wP fi o S with|none=>rw[q] at h;cases h|some p=>rw[q] at h;obtain⟨p,W⟩:=p;obtain⟨⟨ρ,e⟩,rfl⟩:=BH q;simp only[Option.bind] at h;split at h;rename_i j r k e2;cases h;obtain⟨e3,e4⟩:=rH e2;exact⟨j,r,k,ρ,e3,e4,e,rfl,rfl⟩;cases h
theorem Tc{pl:Sem Bool}{x:Str}{n k:Nat}{fa fb:M D}{Pn p2 p3:Pos}(W:∃qn st ps C fA fd,qo X.K X.mg "Work" "row_with" qn bs st ps C fA fd/\cj X.prog X.w X.K X.mg X.base jG k fA fd ps (SM X.K X.mg))(hr:bY n X.A)(ha:PV X kA a fa)(hb:PV X kA b fb)(hk:k<=n:=by exact U0)
  (hN:autoParam (X.N[Z.1]?=some x) AuP.a._autoParam) (hv:oI X.env.scope x:=by exact Vd) (hd:autoParam (Qu x) AuP.b._autoParam) (gp:autoParam (P7 x) AuP.b._autoParam)
  (hU:autoParam (V1 X a []) AuP.a._autoParam)
  (ht:autoParam (eval (.Call (.Attribute (.Name x p) "row_with" Pn) [a] [] pos) X.env=(do
   let ov <-eval (.Name x p) X.env
   standAt Pn.atName
   let (f,first) <-holding [ov] (getMethod ov "row_with" pl)
   callWith pos f first (backTo pos (starEach [a] X.env)) (backToKw pos (keywordEach [] X.env)))) AuP.a._autoParam):wL X Z (.Subscript (.Call (.Attribute (.Name x p) "row_with" Pn) [a] [] pos) (.Slice none (some b) none p3) p2) (FO fa fb):=by
 obtain⟨qn,st,ps,C,fA,fd,M,Fo⟩:=W;refine L2.PE.le (vT Fq (oy (cC hN hv hd gp) M.cls M.me Fo (hr.mono hk) M.bi .nil rD (bC ha cY hU) hU rfl ht) z6 (z7 hb)) fun σ H Q z=>?_;obtain⟨Y,aW,H₀,F,S,d,W',g,e,c⟩:=z;obtain⟨C',dx,r,u,h1,h2,h3,h4⟩:=g.g.w.ob;rw[M.gm] at h1;cases h1;unfold FO wB at e;cases q:wP fa Y.ro S with
  |none=>rw[q] at e;cases e|some pa=>
   rw[q] at e;obtain⟨j,row,i,ρ,e1,e2,e3,rfl,rfl⟩:=GL e;refine⟨_,g.me,Y.a,dx,_,rfl,h2,lookup_none (show (["row_of","rows","done"]:Ut).contains "row_with" = false by decide),h9 (EX:=kA) (R:=RV (lc X kA)) (R':=Den X.K X.mg) (fun _ _ _ _ _ _ _ r=>r) ⟨Y,aW,H₀,F,S,pa.1,pa.2,g,q,fun F1 H1 y g1 s1 r1=>?_⟩⟩;have iA:j<Y.ls.length:=by rw[g1.g.w.len];exact(List.getElem?_eq_some_iff.mp e2).1
   refine⟨rfl,F1,Y,pa.2,y,pa.1,j,Y.ls[j],rfl,g1.g.x.sub,r1,g1.g.w,e1,Uz iA,?_⟩;refine Wg.use (L:=lc X kA) g1.g e3 fun F2 H2 y2 g2 s2 r2=>?_;obtain rfl:=Den.i r2;refine⟨i,rfl,_,_,rfl,cn.of (g2.w.row j _ row (Uz iA) e2),fun p hp=>?_⟩;obtain⟨g',s'⟩:=Wf.laid (o:=.lst (k0 (row.map V.int) none (some i))) (⟨g2,g1.me,g1.rw⟩:Wf X.K X.mg Z Y aW H₀ F2 H2 σ _) hp;exact c _ _ _ g' (s1.trans (s2.trans s')) (.lst (cn.of aB) (oa (aN.ints row) none (some i)))
theorem JK(i:Nat){x:Str}{p1:Pos}{body:List Stmt}{f:WM}{fa:M D}(hN:X.N.Nodup)(ha:PV X kA a fa)(hb:rY X Z body f)(i1:autoParam (i≠Z.1) AuP.b._autoParam)(i2:autoParam (i≠Z.2) AuP.b._autoParam)(hi:autoParam (X.N[i]?=some x) AuP.a._autoParam)(hx:Loc X.env.scope x:=by exact A6)(fx:Lw X x:=by exact RP) (hc:autoParam (X.calm=true) AuP.a._autoParam) (hp:PassesOwn (model X.prog X.w) X.A X.env X.xe:=by exact PassesOwn.never) (Vx:∀z,foldedSetIterable a X.env z=pure z:=by exact Oc):FZ X Z (.For (.Name x p1) a body [] pos) (wD fa i f):=by
 refine L2.PS.le (x9 hp hc (zZ ha) (ku hN hi hx fx) hb Vx) fun E σ H zz=>?_;obtain⟨Y,aW,H₀,F,S,k,S',g,e,c⟩:=zz;unfold wD at e;cases q:wP fa Y.ro S with
  |none=>rw[q] at e;cases e|some pa=>
   rw[q] at e;simp only[Option.bind] at e;obtain⟨ld,W1⟩:=pa;have hW:=(BH q).2;subst hW;cases ld with
   |lst ds=>
    simp only at e;refine h9 (EX:=kA) (R:=RV (lc X kA)) (R':=Den X.K X.mg) (fun _ _ _ _ _ _ _ r=>r) ⟨Y,aW,H₀,F,S,_,S.w,g,q,fun F1 H1 z g1 s1 r1=>?_⟩;obtain⟨l,vs,rfl,hl,dl⟩:=Den.l r1;refine⟨l,rfl,⟨vs,cn.same hl g1.g.x.sub⟩,fun n m σ H=>m=ds.length-n/\n<=ds.length/\∃F' S1,Wf X.K X.mg Z Y aW H₀ F' H σ S1/\aE F1 F'/\m6 i f (ds.drop n) Y.ro S1=some (k,S'),⟨ds.length,O3,Xq _,F1,S,g1,aE.refl _,by simpa using e⟩,?_⟩;rintro n m BK H2 ⟨rfl,hn,F2,S2,g2,s2,e2⟩;obtain⟨t1,t2,t3⟩:=zK (L:=lc X kA) (G:=⟨H2,F2,[]⟩) (cn.same hl s2) (dl.same s2) BK n F2 H2 S2.r (aE.refl _) g2.g.good;by_cases iA:n<ds.length;refine .inr ⟨t1 iA,fun bf H'=>∃F' S1,Wf X.K X.mg Z Y aW H₀ F' H' bf S1/\aE F1 F'/\m6 i f (ds.drop (n+1)) Y.ro S1=some (k,S'),fun bf H' z=>⟨ds.length-(n+1),Ux,rfl,iA,z⟩,fun z H3 y=>?_⟩;obtain⟨F3,s3,g3,r3⟩:=t3 z H3 y;have Qt:Wf X.K X.mg Z Y aW H₀ F3 H3 BK S2:=⟨g2.g.back g3,g2.me,g2.rw⟩;have d1:=r3 ds[n] (by simp[iA]);rw[SU iA] at e2;unfold m6 at e2;cases q3:f Y.ro {S2 with r:=S2.r.set i (.sh ds[n])} with|none=>rw[q3] at e2;cases e2|some p=>rw[q3] at e2;obtain⟨k3,S3⟩:=p;cases k3 with|nx=>exact⟨Y,F3,H3,F3,_,.nx,S3,(Qt.set i d1 i1 i2).here,q3,fun F' H' bf g'=>⟨F',S3,Qt.then g',s2.trans (s3.trans g'.g.x.sF),e2⟩⟩|bk=>cases e2|ct=>cases e2|rt d=>cases e2
    have en:n=ds.length:=Ux;subst en;rw[List.drop_length] at e2;cases e2;exact .inl ⟨t2 rfl,c F2 H2 BK g2⟩
   |_=>cases e
end
noncomputable def Wu(K:Frag)(mg:MG)(ι:D->Option (D×Wk)):Sp:=fun vs H Q E=>vs.length=2/\∃F a C dx u d ro W,vs=[.ref a,u]/\aE F H/\F a=none/\mg "Work" = some (.ref C)/\H a=some (.ins C dx [])/\Den K mg F u d/\ι d=some (ro,W)/\∀F' H' ls,aE F F'->aE F' H'->(∀b o,H b=some o->b≠a->H' b=some o)->(∀b o,F' b=some o->F b=some o\/H b=none)->(∀l∈ls,H l=none)->BS K mg ⟨a,ls,ro⟩ F' H' W->Q .bB H'
theorem Od{K:Frag}{mg:MG}{ι:D->Option (D×Wk)}{body:WM}{N:Ut}{vs:Pk}{H:Hp}{Q:VK}{E:XK}{n:Nat}{C:Addr}{nx bk ct}(hN:N.length=n+3)(hC:mg "Work" = some (.ref C))(h:oC K mg [false,false] (C6 ι (n+1) body) vs H Q E) : BA (OC (KZ C (Wu K mg ι) [] E0 (Fv (nY 0) OD)) (MB 2)) (liftM K mg (2,n+3) body) {nx:=nx,bk:=bk,ct:=ct,rt:=Q} (L2.start N vs) H:=by
 obtain⟨hl,F,ds,sub,args,_,post⟩:=h;obtain⟨u,t,p,q,rfl,rfl,du,dt⟩:∃u t p q,vs=[u,t]/\ds=[p,q]/\Den K mg F u p/\Den K mg F t q:=by rcases vs with _|⟨u,_|⟨t,_|⟨_,_⟩⟩⟩;cases hl;cases hl;rcases ds with _|⟨p,_|⟨q,_|⟨_,_⟩⟩⟩;exact args.elim;exact args.2.elim;exact⟨u,t,p,q,rfl,rfl,args.1,args.2.1⟩;exact args.2.2.elim;cases hl
 simp only[C6] at post;cases e1:ι p with
 |none=>rw[e1] at post;exact post.elim|some ow=>
  obtain⟨o,W⟩:=ow;rw[e1] at post;simp only at post;cases e2:body o ⟨[.sh p,.sh q]++List.replicate (n+1) .no,none,W⟩ with
  |none=>rw[e2] at post;exact post.elim|some kS=>
   obtain⟨k,S⟩:=kS;rw[e2] at post;cases k with
   |nx=>exact post.elim|bk=>exact post.elim|ct=>exact post.elim|rt d=>
    refine⟨u,rfl,fun x dx hx XD Gj=>?_⟩;have fx:F x=none:=sub.free hx;have fd:F dx=none:=sub.free XD;have kp:∀b z,H b=some z->upd (upd H dx (.own x)) x (.ins C dx []) b=some z:=fun b z e=>by rw[aF (aT e hx),aF (aT e XD)];exact e
    refine⟨rfl,F,x,C,dx,u,p,o,W,rfl,fun b z e=>kp b z (sub b z e),fx,hC,aB,du,e1,fun F' H' ls sF sb old new Y7 wat=>⟨rfl,?_⟩⟩;have Se:∀b z,H b=some z->H' b=some z:=fun b z e=>old b z (kp b z e) (aT e hx);have hn:∀l∈ls,H l=none:=fun l hm=>by cases q:H l with|none=>rfl|some z=>have:=kp l z q;rw[Y7 l hm] at this;cases this
    refine⟨⟨x,ls,o⟩,F',H',F',⟨[.sh p,.sh q]++List.replicate (n+1) .no,none,W⟩,.rt d,S,⟨⟨Wx.refl sb,wat,by simp[L2.start,hN],fun i c h=>?_,fun i s h=>?_⟩,?_,fun j e=>by cases e⟩,e2,fun F2 H2 BK v g r=>?_⟩
    match i,h with|0,h=>cases h;exact⟨u,rfl,du.same sF⟩|1,h=>cases h;exact⟨t,rfl,dt.same sF⟩|i+2,h=>simp only[List.cons_append,List.nil_append,List.getElem?_cons_succ,List.getElem?_replicate] at h;split at h<;>cases h
    match i,h with|0,h=>cases h;rfl|1,h=>cases h;rfl|i+2,h=>simp only[List.cons_append,List.nil_append,List.getElem?_cons_succ,List.getElem?_replicate] at h;split at h<;>cases h;rfl
    show ((L2.start N [u,t]).set 2 (some (V.ref x)))[2]?=_;rw[Vb (by simp[L2.start,hN])];refine post F2 H2 v ⟨sF.trans g.g.x.sF,g.g.x.sub,fun b z e _=>g.g.x.old b z (Se b z e) (aT e hx) (fun hm=>by rw[hn b hm] at e;cases e),fun b z e=>?_,trivial⟩ r;have nn:∀{b},H' b=none->H b=none:=fun {b} e=>by cases q:H b with|none=>rfl|some z=>rw[Se b z q] at e;cases e
    rcases g.g.x.new b z e with h|h;rcases new b z h with h|h;exact .inl h;refine .inr ?_;cases q:H b with|none=>rfl|some w=>rw[kp b w q] at h;cases h
    exact .inr (nn h)
def Ft(n:Nat)(wi:TI)(g:TG)(te:TE):TE:=fun σ H Q=>wi σ H fun J H1=>∀D,H1 D=none->∃W:Nat->Nat->St->Hp->Prop,(∃m,W 0 m (σ++List.replicate n none++[some (.ref D)]) (upd H1 D (.lst [])))/\∀i m bf H',W i m bf H'->(J.stop i H'/\Q (.ref D) H')\/(J.go i H'/\∀x H2,J.Pr i H' x H2->g x bf H2 fun wI H3=>te wI H3 fun y H4=>∃xs,H4 D=some (.lst xs)/\xs.length<sizeLine/\∃m',m'<m/\W (i+1) m' wI (upd H4 D (.lst (xs++[y]))))
theorem Q1x{X:Cx}{scope:Scope}{N':Ut}{tg Ws elt:Expr}{wi:TI}{g:TG}{te:TE}{pos:Pos}(n:Nat)(hc:X.calm=true)(c:bU X scope N')(hn:X.N.length+n+1=N'.length)(hi:PI X tg Ws wi)(hg:∀C s H ex,PG (bI X scope C N' s H ex) tg g)(he:∀C s H ex,PE (bI X scope C N' s H ex) elt te)(hs:∀x,foldedSetIterable Ws X.env x=pure x:=by exact Oc):PE X (.ListComp elt [⟨tg,Ws,[],0⟩] scope pos) (Ft n wi g te):=by
 intro WO s σ H Q I h;rw[eval_ListComp];refine wpAny_comprehension_free (use:=none) rfl hs (c.Qj I.ok) c.kind (fun y hy hl=>c.names hy hl) ?_;refine bN (hi WO s σ H _ I h) fun xv s1 h1=>bN h1 fun Uj s2 h2=>?_;refine VP.gl fun QQ eQ=>?_;obtain⟨Rp,fp,tn,J,H2,e,I2,T,qC,f2,rest⟩:=h2;subst eQ;subst e;refine NB (wpAny_newFunctionEnv (fun y hy=>c.tq hy) (by intro y hy;simp at hy) (fun h₁ k9 jg=>?_) c.kind);dsimp only at k9 jg ⊢;generalize L3:s2.heap.push {cls:=.type "list",dict:=none,data:=.seq ([]:We).toArray}=HP at k9 jg ⊢;have hC:HP.objs.size=s2.heap.objs.size+1:=by rw[<-L3,sA]
 have QG:s2.heap.objs.size≠HP.objs.size:=by rw[hC];exact Wi (FG _)
 have old:∀b o,s2.heap.get? b=some o->h₁.get? b=some o:=fun b o e=>jg.extBut b o (by have:=Hh e;rw[hC];exact Wi (QB this)) (RN _ (L3 ▸ RN _ e));have hl:h₁.get? s2.heap.objs.size=some {cls:=.type "list",data:=.seq #[] 0}:=jg.extBut _ _ QG (RN _ (L3 ▸ Rv _ rfl));have zD:∀b∈fp,b<s2.heap.objs.size:=fun b hb=>by obtain⟨ob,e,_⟩:=T.obj 0 _ qC b hb;exact Hh e
 have Kt:h₁.Ns HP.objs.size fun _=>none:=by simpa using k9
 have QH:H2 s2.heap.objs.size=none:=I2.cm.fresh (Gm _);have Rz:σ.length=X.N.length:=I.len;have wQ:N'.length-1-σ.length=n:=Ug;have I3:=oP (tk:=s2.toks+([]:List (Str×Value)).length) c I2 f2 zD rfl hC old Kt hl;rw[wQ] at I3;obtain⟨W,⟨m0,w0⟩,turn⟩:=rest _ QH;let XX:=bI X scope HP.objs.size N' s2 H2 fp;have lS:∀s3:Shared,s3={s2 with heap:=h₁,toks:=s2.toks+([]:List (Str×Value)).length}->codeAny (model X.prog X.w) X.A (.compLoop (.ListComp elt [⟨tg,Ws,[],0⟩] scope pos) 0 (.ref Rp) (.ref s2.heap.objs.size) XX.env) (compPost (model X.prog X.w) X.A X.xe none (EP X WO σ Q) (.ref s2.heap.objs.size) HP.objs.size) s3:=by
  rintro s3 rfl;have Kl:∀{α:Type}{t:Sem α}{Q':α->Shared->Prop}{E':TF}{s':Shared},wpAny (model X.prog X.w) X.A t Q' (fun _ _=>False) s'->wpAny (model X.prog X.w) X.A t Q' E' s':=fun h=>LD h (fun _ _ q=>q) fun _ _ z=>z.elim;refine codeAny_loop rfl (fun m s'=>∃i bf H',W i m bf H'/\Inv XX [] bf H' s'/\tn i s'.heap/\∀b∈fp,H' b=none) (fun m s4 hI=>?_) m0 ⟨0,_,_,w0,I3,T.keep _ _ _ qC (fun b _ ob e=>old b ob e),fun b hb=>?_⟩;show wpAny _ X.A ((compTurn (.ListComp elt [⟨tg,Ws,[],0⟩] scope pos) 0 (.ref Rp) (.ref s2.heap.objs.size) XX.env).onRaise (fun x=>do noteFrame x XX.env;theTreesLotGoes x)) _ _ s4;refine wpAny_noted ?_;rw[compTurn_list];refine VP.gl fun QQ eQ=>?_;obtain⟨i,As,H4,w4,I4,Ou,Qp⟩:=hI;subst eQ;have qf:∀{H':Hp},(∀b∈fp,H' b=none)->∀b∈fp,iY XX [] H' b:=fun {H'} hz b hb=>⟨hz b hb,(I3.ok.O7 b hb).1,I3.ok.AM b hb,.inl hb,fun x a e=>(I3.ok.O7 b hb).2 x a e,fun p hp=>absurd (show p∈([]:Ul) from hp) O3⟩;rcases turn i m As H4 w4 with ⟨Q7,hQ⟩|⟨YX,step⟩
  refine X0 (GG (X0 (bN (T.done XX rfl rfl rfl hc _ [] s4 As H4 _ I4 (qf Qp) Ou Q7) fun r s5 ⟨hr,I5⟩=>?_)));subst hr;refine Wt ?_;obtain⟨mm,Ha,_⟩:=id I5.loc;have IX:Inv X WO σ H4 s5:=I2.yR (s':=s5) I5.os I5.base I5.cm I5.bare fun b hb=>⟨(f2 b hb).2.2.2.1,(f2 b hb).2.1,(f2 b hb).2.2.2.2.1,(f2 b hb).2.2.2.2.2⟩;have FC:iY X WO H4 HP.objs.size:=I2.nP (by rw[hC];exact Bf _) I5.free;exact⟨mm,Ha,fun h' Gk=>⟨.ref _,H4,IX.turned (t':=s5.toks) (fun b ob hb e=>Gk.extBut b ob hb e) FC.1 FC.2.1 FC.2.2.2.1 FC.2.2.2.2.1 FC.2.2.2.2.2,rfl,hQ⟩⟩;refine X0 (GG (X0 (bN (T.item XX rfl rfl rfl hc i [] s4 As H4 _ I4 (qf Qp) Ou YX) fun r s5 zz=>?_)));obtain⟨u,hr,h5⟩:=zz;subst hr;refine X0 (bN h5 fun _ s6 zz=>?_);obtain⟨x,H6,I6,r6,y6,Ov,Vc⟩:=zz;have UQ:=I6.pinned (qf Vc) (T.obj _ _ Ov);refine X0 (Kl (bN (hg HP.objs.size s2 H2 fp _ s6 As H6 x u _ UQ r6 (step x H6 y6)) fun _ s7 zz=>?_));obtain⟨kT,H7,I7,q7⟩:=zz;refine X0 (Kl (wpAny_tests_nil ?_));refine X0 (X0 (Kl (bN (he HP.objs.size s2 H2 fp _ s7 kT H7 _ I7 q7) fun xv s9 zz=>?_)));obtain⟨y,H9,I9,r9,xs,hx,V9,m',hm,w9⟩:=zz;refine X0 (Kl (bN (mO (X:=XX) _ s9 kT H9 (.ref s2.heap.objs.size) [y] (.ref s2.heap.objs.size) [xv] (fun _ H'=>H'=upd H9 s2.heap.objs.size (.lst (xs++[y]))) I9 rfl (.cons r9 .nil) ⟨_,xs,y,rfl,rfl,hx,V9,rfl⟩) fun _ Z0 zz=>?_));obtain⟨_,Yn,PH,_,U6⟩:=zz;subst U6;refine Wt (Wt ⟨rfl,m',hm,i+1,kT,_,w9,PH.j7,T.keep _ _ _ Ov fun b hb ob e=>(PH.pin (b,ob) (R8 _ (R8 _ (fK hb e)))).1,fun b hb=>?_⟩);obtain⟨ob,e,d⟩:=T.obj _ _ Ov b hb;exact(PH.pin (b,ob) (R8 _ (R8 _ (fK hb e)))).2.1;rw[aF (Wi (zD b hb))];exact(f2 b hb).1
 exact codeAny_compStart_list (lS _ rfl) (T.self _ _ _ _ _ (T.keep _ _ _ qC fun b _ ob e=>old b ob e) (lS _ rfl))
def Ak(K:Frag)(j:Nat):TE:=Jw (E7 K) (S0 (Fv (tC (.int 0)) OD)) (nY j)
theorem Je{K:Frag}{σ:St}{H:Hp}{Q:VK}{l:Addr}{xs:ZX}{j n:Nat}(hl:cn K H l (xs.map V.int))(hx:xs.length<1000)(hb:∀x∈xs,0<=x/\x<100000)(hj:j<σ.length+n+1)
  (k:∀D ps H',H D=none->(∀p∈ps,H p=none)->(D::ps).Nodup->ps.length=xs.length->aE H H'->H' D=some (.lst (ps.map V.ref))->(∀(i:Nat) p x,ps[i]?=some p->xs[i]?=some x->H' p=some (.lst ((List.replicate x.toNat 0).map V.int)))->Q (.ref D) H') (D:Addr) (hD:H D=none) :
  ∃W:Nat->Nat->St->Hp->Prop,(∃m,W 0 m (σ++List.replicate n none++[some (.ref D)]) (upd H D (.lst [])))/\∀i m bf H',W i m bf H'->((La K l).stop i H'/\Q (.ref D) H')\/((La K l).go i H'/\∀x H2,(La K l).Pr i H' x H2->MB j x bf H2 fun wI H3=>Ak K j wI H3 fun y H4=>∃xs,H4 D=some (.lst xs)/\xs.length<sizeLine/\∃m',m'<m/\W (i+1) m' wI (upd H4 D (.lst (xs++[y])))):=by
 refine⟨fun i m bf H'=>∃ps,m=xs.length-i/\i<=xs.length/\bf.length=σ.length+n+1/\ps.length=i/\aE H H'/\(∀p∈ps,H p=none)/\(D::ps).Nodup/\H' D=some (.lst (ps.map V.ref))/\∀(k:Nat) p x,ps[k]?=some p->xs[k]?=some x->H' p=some (.lst ((List.replicate x.toNat 0).map V.int)),⟨xs.length,[],O3,Xq _,by simp[Nat.add_assoc],rfl,a8 hD,O3,O3,aB,O3⟩,?_⟩;rintro i m bf H' ⟨ps,rfl,hi,Rc,hp,hs,hn,hd,Vj,hr⟩;have Ks:cn K H' l (xs.map V.int):=cn.same hl hs;by_cases iA:i<xs.length;refine .inr ⟨⟨_,.int xs[i],Ks,by simp[iA]⟩,?_⟩;rintro x H2 ⟨rfl,Ub⟩;have e:x=.int xs[i]:=by have:=Ub _ Ks;simp[iA] at this;exact this.symm
 subst e;refine⟨by decide,fun p VJ=>⟨.int xs[i],by rw[Vb (by rw[Rc];exact hj)],p,xs[i],[.int 0],rfl,rfl,cn.of aB,?_,?_,?_,fun q hq=>?_⟩⟩;have:=(hb xs[i] (Bt _)).1;omega;have:=(hb xs[i] (Bt _)).2;omega;have:=(hb xs[i] (Bt _)).2;have:(xs[i]).toNat<=100000:=Ux;simp only[List.length_singleton,Nat.one_mul];exact RC this (by decide);have Zd:q≠p:=fun z=>by rw[z,aB] at hq;cases hq
 have uw:H2 q=none:=by rw[aF Zd] at hq;exact hq
 have keep:∀b o,H2 b=some o->upd (upd H2 p (.lst [.int 0])) q (.lst (List.replicate (xs[i]).toNat [V.int 0]).flatten) b=some o:=fun b o e=>by rw[aF (aT e uw),aF (aT e VJ)];exact e
 have nH:∀{b},H2 b=none->H b=none:=fun {b} e=>by cases z:H b with|none=>rfl|some o=>rw[hs b o z] at e;cases e
 have qD:q≠D:=fun z=>by rw[z,Vj] at uw;cases uw
 have ZS:q∉ps:=fun z=>by
  obtain⟨t,ht⟩:=List.getElem?_of_mem z;have:t<xs.length:=by have:=(List.getElem?_eq_some_iff.mp ht).1;omega
  rw[hr t q _ ht (Uz this)] at uw;cases uw
 have sL:(List.replicate (xs[i]).toNat [V.int 0]).flatten=(List.replicate (xs[i]).toNat 0).map V.int:=O3;refine⟨ps.map V.ref,keep _ _ Vj,by simp[hp];exact XZ (EN iA hx) (by decide),xs.length-(i+1),Ux,ps++[q],rfl,iA,by simp[Rc],by simp[hp],fun b o e=>?_,fun b hm=>?_,?_,by rw[aB];simp,fun t b y h1 h2=>?_⟩;rw[aF (aT e hD)];exact keep b o (hs b o e);rcases List.mem_append.mp hm with h|h;exact hn b h;simp at h;subst h;exact nH uw;have h1:=List.nodup_cons.mp hd;refine List.nodup_cons.mpr ⟨fun z=>?_,List.nodup_append.mpr ⟨h1.2,O3,fun a ha b hb=>?_⟩⟩;rcases List.mem_append.mp z with h|h;exact h1.1 h;simp at h;exact qD h.symm;simp at hb;subst hb;exact fun z=>ZS (z ▸ ha);rw[List.getElem?_append] at h1;by_cases ht:t<ps.length;rw[WL ht] at h1;have bD:b≠D:=fun z=>(List.nodup_cons.mp hd).1 (z ▸ TQ h1);rw[aF bD];exact keep _ _ (hr t b y h1 h2);rw[S8 ht] at h1;have:t=i:=by have:=(List.getElem?_eq_some_iff.mp h1).1;simp at this;omega
 subst this;rw[hp,Nat.sub_self] at h1;simp at h1;subst h1;rw[Uz iA] at h2;cases h2;rw[aF qD,aB,sL];have:i=xs.length:=Ux;subst this;exact .inl ⟨⟨_,Ks,O3⟩,k D ps H' hD hn hd hp hs Vj hr⟩
theorem Bs{L:Lc}{σ:St}{H:Hp}{Q:VK}{f:M D}{j n:Nat}(hj:j<σ.length+n+1)
  (h:lift L (RV L) f σ H fun v H1=>∃(l:Addr)(xs:ZX),v=.ref l/\cn L.K H1 l (xs.map V.int)/\xs.length<1000/\(∀x∈xs,0<=x/\x<100000)/\∀D ps H',H1 D=none->(∀p∈ps,H1 p=none)->(D::ps).Nodup->ps.length=xs.length->aE H1 H'->H' D=some (.lst (ps.map V.ref))->(∀(i:Nat) p x,ps[i]?=some p->xs[i]?=some x->H' p=some (.lst ((List.replicate x.toNat 0).map V.int)))->Q (.ref D) H') :
  Ft n (DI L.K (lift L (RV L) f)) (MB j) (Ak L.K j) σ H Q:=by
 obtain⟨G,F,ρ,g,o⟩:=h;refine⟨G,F,ρ,g,o.mono (fun a r q F' H' b s g' d=>?_) fun x r q=>q⟩;obtain⟨l,xs,e,h1,h2,h3,h4⟩:=q F' H' b s g' d;exact⟨l,e,⟨_,h1⟩,Je h1 h2 h3 hj h4⟩
theorem Ao{K:Frag}{mg:MG}{F:Hp}:∀{ls:OK}{vs:Pk}{xs:ZX},aN K mg F vs ls->eT ls=some xs->vs=xs.map V.int|[],_,_,h,e=>by cases h;cases e;rfl|.int i::ls,_,xs,h,e=>by obtain⟨v,ws,rfl,hv,ht⟩:=h.c;obtain rfl:=hv.i;simp only[eT] at e;cases q:eT ls with|none=>rw[q] at e;cases e|some ys=>rw[q] at e;cases e;rw[Ao ht q];rfl
theorem DL(h:qh d=some (ro,W)):∃l0 ks vs ls xs,d=.ins "Plan" ["loops","row_of","lengths"] [l0,.fP ks vs,.lst ls]/\eT ls=some xs/\xs.length<1000/\(∀x∈xs,0<=x/\x<100000)/\ro=.fP ks vs/\W=⟨xs.map fun n=>List.replicate n.toNat 0,0⟩:=by
 unfold qh at h;split at h;rename_i c ns l0 ks vs ls;split at h;rename_i hc;obtain⟨rfl,rfl⟩:=hc;cases q:eT ls with|none=>rw[q] at h;cases h|some xs=>rw[q] at h;simp only[Option.bind] at h;split at h;rename_i hb;cases h;exact⟨l0,ks,vs,ls,xs,rfl,q,hb.1,hb.2,rfl,rfl⟩;cases h
 cases h;cases h
theorem Ki{K:Frag}{mg:MG}{F H:Hp}{u v:V}{d:D}(sub:aE F H)(du:Den K mg F u d):Good K mg ⟨H,F,[]⟩ F H [some v,some u] [.no,.sh d] where
 sF:=aE.refl _
 sub:=sub
 old:=fun _ _ e _=>e
 new:=fun _ _ e=>.inl e
 len:=rfl
 slot:=fun i s h=>by match i,h with|0,h=>cases h;trivial|1,h=>cases h;exact⟨u,rfl,du⟩
 apart:=fun i j l s t h _ o=>by match i,h with|0,h=>cases h;cases o|1,h=>cases h;cases o
 nt:=fun i a h=>by cases h
 nT:=fun i a b h=>by cases h
theorem Hf{K:Frag}{mg:MG}{EX:XE}{O6 Xj Xk TH:Ut}{vs:Pk}{H:Hp}{Q:VK}{E:XK}{bk ct}(h:Wu K mg qh vs H Q E)(T1:nI K mg O6 "row_of")(T2:nI K mg Xj "rows")(T3:nI K mg Xk "done")(c1:("Work" : Str)∈O6)(c2:("Work" : Str)∈Xj)(c3:("Work" : Str)∈Xk)(p1:O6.contains "Plan" = true)(p4:TH.contains "Plan" = true) : BA (Fg K (nY 0) (lift ⟨K,mg,EX⟩ (RV ⟨K,mg,EX⟩) (m1 qQ (m1 (aC O6 "row_of") (ag 1)))) "row_of") (BA (Fg K (nY 0) (Ft 1 (DI K (lift ⟨K,mg,EX⟩ (RV ⟨K,mg,EX⟩) (m1 (aC TH "lengths") (ag 1)))) (MB 2) (Ak K 2)) "rows") (BA (Fg K (nY 0) (tC (.int 0)) "done") K0)) {nx:=fun _ H'=>Q .bB H',bk:=bk,ct:=ct,rt:=Q} (L2.start ["self","plan"] vs) H:=by
 obtain⟨_,F,a,C,dx,u,d,ro,W,rfl,sub,fa,hC,ha,du,Zp,kk⟩:=h;obtain⟨l0,ks,ws,ls,xs,rfl,VQ,V9,YN,rfl,rfl⟩:=DL Zp;have fld:∀{cs:Ut}{f:Str},nI K mg cs f->("Work" : Str)∈cs->wK K C/\ie K C f:=fun T c=>by obtain⟨C',m,cl,na⟩:=T _ c;rw[hC] at m;cases m;exact⟨cl,na⟩
 refine⟨⟨H,F,[]⟩,F,[.no,.sh _],Ki sub du,?_⟩;have e1:m1 qQ (m1 (aC O6 "row_of") (ag 1)) [.no,.sh (.ins "Plan" ["loops","row_of","lengths"] [l0,.fP ks ws,.lst ls])]=.ok (.fP ks ws) [.no,.sh (.ins "Plan" ["loops","row_of","lengths"] [l0,.fP ks ws,.lst ls])]:=by
  have z1:(("row_of" : Str) == "loops")=false:=by decide
  have z:("Plan" : Str)∈O6:=by simpa using p1
  simp[m1,VP.Tz,ag,VP.opt,VP.ret,aC,z,qQ,List.lookup,z1]
 rw[e1];intro F1 H1 v s1 g1 r1;have o1:∀b o,H b=some o->H1 b=some o:=fun b o e=>g1.old b o e O3;have Xs:F1 a=none:=by cases q:F1 a with|none=>rfl|some z=>rcases g1.new a z q with t|t<;>simp_all
 refine⟨.ref a,rfl,a,C,dx,[],rfl,o1 _ _ ha,(fld T1 c1).1,(fld T1 c1).2,by decide,?_⟩;have WB:aE F1 (upd H1 a (.ins C dx [("row_of",v)])):=fun b o e=>by rw[aF (aT e Xs)];exact g1.sub _ _ e
 unfold BA Fg;dsimp only;refine Bs (L:=⟨K,mg,EX⟩) (n:=1) (j:=2) (by simp[L2.start]) ⟨⟨_,F1,[]⟩,F1,[.no,.sh _],Ki WB (du.same s1),?_⟩;have e2:m1 (aC TH "lengths") (ag 1) [.no,.sh (.ins "Plan" ["loops","row_of","lengths"] [l0,.fP ks ws,.lst ls])]=.ok (.lst ls) [.no,.sh (.ins "Plan" ["loops","row_of","lengths"] [l0,.fP ks ws,.lst ls])]:=by
  have z1:(("lengths" : Str) == "loops")=false:=by decide
  have z2:(("lengths" : Str) == "row_of")=false:=by decide
  have z:("Plan" : Str)∈TH:=by simpa using p4
  simp[m1,VP.Tz,ag,VP.opt,VP.ret,aC,z,List.lookup,z1,z2]
 rw[e2];intro F2 H2 w s2 g2 r2;obtain⟨l,vs,rfl,hl,dl⟩:=Den.l r2;obtain rfl:=Ao dl VQ;have Gi:cn K H2 l (xs.map V.int):=cn.same hl g2.sub;have o2:∀b o,upd H1 a (.ins C dx [("row_of",v)]) b=some o->H2 b=some o:=fun b o e=>g2.old b o e O3;refine⟨l,xs,rfl,Gi,V9,YN,fun D ps H3 hD hn nd iX sm hd hr=>?_⟩;have T4:H2 a=some (.ins C dx [("row_of",v)]):=o2 _ _ aB;have q1:eZ "rows" (.ref D) [("row_of",v)]=([("row_of",v),("rows",.ref D)]:List (Str×V)):=by
  have z:¬("row_of" : Str)="rows" := by decide
  simp[eZ,z]
 have q2:eZ "done" (.int 0) [("row_of",v),("rows",.ref D)]=([("row_of",v),("rows",.ref D),("done",.int 0)]:List (Str×V)):=by
  have z:¬("row_of" : Str)="done" := by decide
  have z':¬("rows" : Str)="done" := by decide
  simp[eZ,z,z']
 refine⟨.ref a,rfl,a,C,dx,[("row_of",v)],rfl,sm _ _ T4,(fld T2 c2).1,(fld T2 c2).2,O3,?_⟩;refine⟨.ref a,rfl,a,C,dx,[("row_of",v),("rows",.ref D)],rfl,by rw[aB,q1],(fld T3 c3).1,(fld T3 c3).2,O3,?_⟩;have Xt:F2 a=none:=by
  cases q:F2 a with
  |none=>rfl|some z=>
   rcases g2.new a z q with t|t
   ·have t:F1 a=some z:=t;rw[Xs] at t;cases t
   ·have t:upd H1 a (HO.ins C dx [("row_of",v)]) a=none:=t;rw[aB] at t;cases t
 have aD:D≠a:=fun z=>by rw[z,T4] at hD;cases hD
 have fD:F2 D=none:=g2.sub.free hD;have up:∀b o,H b=some o->b≠a->H2 b=some o:=fun b o e n=>o2 b o (by rw[aF n];exact o1 b o e);have dn:∀{b},H2 b=none->H b=none:=fun {b} e=>by
  cases q:H b with
  |none=>rfl|some z=>
   by_cases n:b=a
   ·subst n;rw[T4] at e;cases e
   ·rw[up b z q n] at e;cases e
 show Q .bB (upd (upd H3 a (.ins C dx (eZ "rows" (.ref D) [("row_of",v)]))) a (.ins C dx (eZ "done" (.int 0) [("row_of",v),("rows",.ref D)])));rw[q2];have ne:∀{b},b≠a->upd (upd H3 a (.ins C dx (eZ "rows" (.ref D) [("row_of",v)]))) a (.ins C dx [("row_of",v),("rows",.ref D),("done",.int 0)]) b=H3 b:=fun {b} n=>by rw[aF n,aF n]
 have Yg:aE F2 (upd F2 D (.lst (ps.map V.ref))):=a8 fD;have pa:∀p∈ps,p≠a:=fun p hp z=>by have:=hn p hp;rw[z,T4] at this;cases this
 refine kk (upd F2 D (.lst (ps.map V.ref))) _ ps (s1.trans (s2.trans Yg)) (fun b o e=>?_) (fun b o e n=>?_) (fun b o e=>?_) (fun p hp=>dn (hn p hp)) ⟨⟨C,dx,D,v,hC,aB,r1.same (s2.trans Yg),aB⟩,by simp[iX],fun i p ns h1 h2=>?_,by rw[aF aD.symm];exact Xt,fun p hp=>?_,?_⟩
 ·by_cases z:b=D
  ·subst z;rw[aB] at e;cases e;rw[ne aD];exact hd
  ·rw[aF z] at e;have n:b≠a:=fun q=>by rw[q,Xt] at e;cases e
   rw[ne n];exact sm _ _ (g2.sub _ _ e)
 ·rw[ne n];exact sm _ _ (up b o e n)
 ·by_cases z:b=D
  ·subst z;exact .inr (dn hD)
  ·rw[aF z] at e;rcases g2.new b o e with t|t
   ·exact g1.new b o t
   ·have t:upd H1 a (HO.ins C dx [("row_of",v)]) b=none:=t;refine .inr ?_;cases q:H b with
   |none=>rfl|some y=>
    by_cases n:b=a
    ·subst n;rw[aB] at t;cases t
    ·rw[aF n,o1 b y q] at t;cases t
 ·rw[CW] at h2;cases q:xs[i]? with|none=>rw[q] at h2;cases h2|some x=>rw[q] at h2;cases h2;rw[ne (pa p (TQ h1))];exact hr i p x h1 q
 ·have:p≠D:=fun z=>(List.nodup_cons.mp nd).1 (z ▸ hp);rw[aF this];exact g2.sub.free (hn p hp)
 ·exact List.nodup_cons.mpr ⟨fun h=>pa a h rfl,(List.nodup_cons.mp nd).2⟩
theorem Sr{X:Cx}{e:Expr}{f:M D}(h:PV X kA e f):PE X e (lift (lc X kA) (RV (lc X kA)) f):=h
end VS
end
section
namespace VP
section
variable{α β:Type}
noncomputable def Res.then{α β:Type}:Res α->(α->M β)->Res β|.ok a r,g=>g a r|.exc x r,_=>.exc x r|.no,_=>.no
noncomputable def Res.seq:Res Fl->M Fl->Res Fl|.ok .nx r,g=>g r|.ok k r,_=>.ok k r|.exc x r,_=>.exc x r|.no,_=>.no
noncomputable def Res.turn:Res Fl->M Fl->Res Fl|.ok .nx r,g=>g r|.ok .ct r,g=>g r|.ok .bk r,_=>.ok .nx r|.ok (.rt d) r,_=>.ok (.rt d) r|.exc x r,_=>.exc x r|.no,_=>.no
@[simp] theorem aA(a:α)(r:aU)(g:α->M β):(Res.ok a r).then g=g a r:=Pm
@[simp] theorem Q0g(c:Prop)[Decidable c](a b:Res α)(g:α->M β):(if c then a else b).then g=if c then a.then g else b.then g:=by split<;>rfl
@[simp] theorem yi(r:aU)(g:M Fl):(Res.ok .nx r).seq g=g r:=Pm
@[simp] theorem Q0Z(d:D)(r:aU)(g:M Fl):(Res.ok (.rt d) r).seq g=.ok (.rt d) r:=Pm
@[simp] theorem Q07(c:Prop)[Decidable c](a b:Res Fl)(g:M Fl):(if c then a else b).seq g=if c then a.seq g else b.seq g:=by split<;>rfl
@[simp] theorem Q0u(r:aU)(g:M Fl):(Res.ok .nx r).turn g=g r:=Pm
@[simp] theorem dz(a:α)(r:aU):ret a r=.ok a r:=Pm
@[simp] theorem bW(a:α):opt (some a)=ret a:=Pm
theorem aL(f:M α)(g:α->M β)(r:aU):Tz f g r=(f r).then g:=by unfold Tz;cases f r<;>rfl
@[simp] theorem Q2V(d:D)(r:aU):mC d r=.ok d r:=Pm
@[simp] theorem KI(g:D->Ui)(a:M D)(r:aU):m1 g a r=(a r).then fun x=>opt (g x):=aL _ _ _
@[simp] theorem RK(g:D->D->Ui)(a b:M D)(r:aU):m2 g a b r=(a r).then fun x r=>(b r).then fun y=>opt (g x y):=by unfold m2;rw[aL];congr;funext x r;exact aL _ _ _
@[simp] theorem Q2j(r:aU):mL [] r=.ok [] r:=Pm
@[simp] theorem HG(f:M D)(fs:List (M D))(r:aU):mL (f::fs) r=(f r).then fun x r=>(mL fs r).then fun xs=>ret (x::xs):=by
 conv=>lhs;unfold mL
 rw[aL];congr;funext x r;exact aL _ _ _
@[simp] theorem RS(g:OK->Ui)(as:List (M D))(r:aU):mF g as r=(mL as r).then fun xs=>opt (g xs):=aL _ _ _
@[simp] theorem HM(as:List (M D))(r:aU):fX as r=(mL as r).then fun xs=>opt (BC xs):=aL _ _ _
@[simp] theorem HH(as:List (M D))(r:aU):dQ as r=(mL as r).then fun xs=>opt (A8 xs):=aL _ _ _
def boolOf:D->M Bool|.bl b=>ret b|_=>stuck
@[simp] theorem Q0N(b:Bool):boolOf (.bl b)=ret b:=Pm
@[simp] theorem Q22(a:M D)(r:aU):tB a r=(a r).then boolOf:=by unfold tB;rw[aL];cases a r with|ok d r'=>cases d<;>rfl|_=>rfl
@[simp] theorem Jv(a:M Bool)(r:aU):f6 a r=(a r).then fun b=>ret (!b):=aL _ _ _
@[simp] theorem Q14(a b:M Bool)(r:aU):qF a b r=(a r).then fun x r=>if x=true then b r else .ok false r:=by unfold qF;rw[aL];congr;funext x r;cases x<;>rfl
@[simp] theorem OE(a b:M Bool)(r:aU):tZ a b r=(a r).then fun x r=>if x=true then .ok true r else b r:=by unfold tZ;rw[aL];congr;funext x r;cases x<;>rfl
@[simp] theorem Q03(a:M Bool)(r:aU):MK a r=(a r).then fun b=>ret (.bl b):=aL _ _ _
@[simp] theorem MJ(c:M Bool)(a b:M D)(r:aU):vz c a b r=(c r).then fun x r=>if x=true then a r else b r:=by unfold vz;rw[aL];congr;funext x r;cases x<;>rfl
@[simp] theorem Ea(a b:M D)(r:aU):iO a b r=((a r).then boolOf).then fun x r=>if x=true then b r else .ok (.bl false) r:=by
 unfold iO;rw[aL];cases a r with
 |ok d r'=>
  cases d<;>try rfl
  rename_i b;cases b<;>rfl
 |_=>rfl
@[simp] theorem HI(a b:M D)(r:aU):Bb a b r=((a r).then boolOf).then fun x r=>if x=true then .ok (.bl true) r else b r:=by
 unfold Bb;rw[aL];cases a r with
 |ok d r'=>
  cases d<;>try rfl
  rename_i b;cases b<;>rfl
 |_=>rfl
@[simp] theorem Q2k(r:aU):aH r=.ok .nx r:=Pm
@[simp] theorem oB(f g:M Fl)(r:aU):ak f g r=(f r).seq g:=by unfold ak Tz;cases f r with|ok k r'=>cases k<;>rfl|_=>rfl
@[simp] theorem lq(f:M Unit)(r:aU):Gq f r=(f r).then fun _=>ret .nx:=aL _ _ _
@[simp] theorem Q2D(f:M D)(r:aU):aM f r=(f r).then fun d=>ret (.rt d):=aL _ _ _
@[simp] theorem Q24(c:M Bool)(a b:M Fl)(r:aU):bX c a b r=(c r).then fun x r=>if x=true then a r else b r:=by unfold bX;rw[aL];congr;funext x r;cases x<;>rfl
@[simp] theorem Jj(i:Nat)(f:M D)(r:aU):bc i f r=(f r).then fun d r=>if free r[i]?=true then .ok .nx (r.set i (.sh d)) else .no:=by unfold bc;rw[aL];congr;funext d r;rw[lq];unfold nV;split<;>rfl
@[simp] theorem Jh(i:Nat)(f:M D)(r:aU):gu i f r=(f r).then fun d r=>if free r[i]?=true then .ok .nx (r.set i (.ow d)) else .no:=by unfold gu;rw[aL];congr;funext d r;rw[lq];unfold Eg;split<;>rfl
@[simp] theorem Oe(i:Nat)(f:M Fl)(r:aU):Bv i f r=(HE i r).then fun _=>f:=aL _ _ _
noncomputable def SJ:Option Sl->Option D|some (.sh d)=>some d|_=>none
noncomputable def anyOf:Option Sl->Option D|some (.sh d)=>some d|some (.ow d)=>some d|some (.io d)=>some d|_=>none
@[simp] theorem Q0B(d:D):SJ (some (.sh d))=some d:=Pm
@[simp] theorem Q01(d:D):anyOf (some (.io d))=some d:=Pm
@[simp] theorem Q2m:free (some .no)=true:=Pm
@[simp] theorem Q2X(d:D):free (some (.sh d))=true:=Pm
@[simp] theorem x3(d:D):own (some (.ow d))=some d:=Pm
@[simp] theorem Q2Z(d:D):own (some (.io d))=some d:=Pm
@[simp] theorem HN(i:Nat)(r:aU):ag i r=opt (SJ r[i]?) r:=by unfold ag;cases h:r[i]? with|none=>rfl|some s=>cases s<;>rfl
@[simp] theorem ML(i:Nat)(r:aU):sY i r=opt (anyOf r[i]?) r:=by unfold sY;cases h:r[i]? with|none=>rfl|some s=>cases s<;>rfl
noncomputable def Xv(i:Nat)(r:aU):Option Sl->Res Unit|some (.ow d)=>.ok () (r.set i (.sh d))|some (.sh _)=>.ok () r|_=>.no
@[simp] theorem Q2S(i:Nat)(r:aU):HE i r=Xv i r r[i]?:=by unfold HE;cases h:r[i]? with|none=>rfl|some s=>cases s<;>rfl
@[simp] theorem Q0Q(i:Nat)(r:aU)(d:D):Xv i r (some (.ow d))=.ok () (r.set i (.sh d)):=Pm
noncomputable def NX(i:Nat)(r:aU):Option Sl->D->aU|some (.ow _),d=>r.set i (.ow d)|some (.io _),d=>r.set i (.io d)|_,_=>r
@[simp] theorem tN(i:Nat)(d:D)(r:aU):cE i d r=NX i r r[i]? d:=by unfold cE;cases h:r[i]? with|none=>rfl|some s=>cases s<;>rfl
@[simp] theorem tM(i:Nat)(r:aU)(e d:D):NX i r (some (.ow e)) d=r.set i (.ow d):=Pm
@[simp] theorem Q2Y(i:Nat)(r:aU)(e d:D):NX i r (some (.io e)) d=r.set i (.io d):=Pm
@[simp] theorem kq(i:Nat)(g:D->Ui)(r:aU):fJ i g r=(opt (own r[i]?) r).then fun d r=>(opt (g d) r).then fun d' r=>.ok () (cE i d' r):=by unfold fJ;cases own r[i]? with|none=>rfl|some d=>simp only[bW,dz,aA];cases g d<;>rfl
@[simp] theorem Jf(i:Nat)(fe:M D)(r:aU):l6 i fe r=if isLst (own r[i]?)=true then(fe r).then fun x r=>(fJ i (gW x) r).then fun _=>ret .nx else .no:=by unfold l6;split;rw[aL];congr;funext x r;exact lq _ _;rfl
@[simp] theorem isLst_lst(ds:OK):isLst (some (.lst ds))=true:=Pm
@[simp] theorem Bw(i:Nat)(fk fv:M D)(r:aU):iw i fk fv r=(fv r).then fun v r=>if isLst (own r[i]?)=true then(fk r).then fun k r=>(fJ i (setAt k v) r).then fun _=>ret .nx else .no:=by unfold iw;rw[aL];congr;funext v r;split;rw[aL];congr;funext k r;exact lq _ _;rfl
@[simp] theorem vg(i:Nat)(d:D)(r:aU):aP i d r=if free r[i]?=true then .ok () (r.set i (.sh d)) else .no:=Pm
@[simp] theorem zQ(i:Nat)(d:D)(r:aU):nV i d r=if free r[i]?=true then .ok () (r.set i (.sh d)) else .no:=Pm
@[simp] theorem Q00(r:aU):qu [] [] r=.ok () r:=Pm
@[simp] theorem q9(i:Nat)(is:Rx)(d:D)(ds:OK)(r:aU):qu (i::is) (d::ds) r=(nV i d r).then fun _=>qu is ds:=aL _ _ _
@[simp] theorem Q1Y(is:Rx)(ds:OK):cq is (.tup ds)=qu is ds:=Pm
@[simp] theorem Jg(it:M (List D))(g:D->M Unit)(body:M Fl)(r:aU):fZ it g body r=(it r).then fun ds=>loop g body ds:=aL _ _ _
@[simp] theorem Q2b(g:D->M Unit)(body:M Fl)(r:aU):loop g body [] r=.ok .nx r:=Pm
@[simp] theorem mN(g:D->M Unit)(body:M Fl)(d:D)(ds:OK)(r:aU):loop g body (d::ds) r=(g d r).then fun _ r=>(body r).turn (loop g body ds):=by
 conv=>lhs;unfold loop
 rw[aL];congr;funext u r;rw[aL];cases body r with|ok k r'=>cases k<;>rfl|_=>rfl
@[simp] theorem Q0O(k:Nat)(g:D->M Unit)(test:M Bool)(elt:M D)(r:aU):turns k g test elt [] r=.ok () r:=Pm
@[simp] theorem qg(k:Nat)(g:D->M Unit)(test:M Bool)(elt:M D)(d:D)(ds:OK)(r:aU):turns k g test elt (d::ds) r=(g d r).then fun _ r=>(test r).then fun b r=>if b=true then(elt r).then fun x r=>(fJ k (gW x) r).then fun _=>turns k g test elt ds else turns k g test elt ds r:=by
 conv=>lhs;unfold turns
 rw[aL];congr;funext u r;rw[aL];congr;funext b r;cases b with|true=>simp only[if_true];rw[aL];congr;funext x r;exact aL _ _ _|false=>rfl
theorem pK(n:Nat)(it:M (List D))(g:D->M Unit)(test:M Bool)(elt:M D)(r:aU):aY n it g test elt r=(it r).then fun ds=>inner n fun k=>turns k g test elt ds:=aL _ _ _
def fin(fl:X4):Res Fl->FR
|.ok (.rt d) r=>match bR fl r with
  |some cy=>.ok d cy|none=>.no
 |.ok .nx r=>match bR fl r with|some cy=>.ok .bB cy|none=>.no
 |.exc x r=>match bR fl r with|some cy=>.exc x cy|none=>.no
 |_=>.no
theorem bG(n:Nat)(fl:X4)(body:M Fl)(ds:OK)(h:ds.length=fl.length):defn n fl body ds=fin fl (body (cw n fl ds)):=by unfold defn;rw[WL h];cases body (cw n fl ds) with|ok k r=>cases k<;>rfl|_=>rfl
def J5(js:Rx)(r:aU):FR->Res D|.ok d cy=>.ok d (putAll js cy r)|.exc x cy=>.exc x (putAll js cy r)|.no=>.no
@[simp] theorem oN(js:Rx)(r:aU)(d:D)(cy:OK):J5 js r (.ok d cy)=.ok d (putAll js cy r):=Pm
@[simp] theorem yd(ds:OK)(r:aU):putAll [] ds r=r:=Pm
@[simp] theorem Q1b(j:Nat)(js:Rx)(d:D)(ds:OK)(r:aU):putAll (j::js) (d::ds) r=putAll js ds (cE j d r):=Pm
@[simp] theorem Q0L(r:aU):bL [] r=.ok [] r:=Pm
@[simp] theorem Q2l(f:M D)(as:List Arg)(r:aU):bL (.val f::as) r=(f r).then fun d r=>(bL as r).then fun vs=>ret (.val d::vs):=by
 conv=>lhs;unfold bL
 rw[aL];congr;funext x r;exact aL _ _ _
@[simp] theorem Q04(j:Nat)(as:List Arg)(r:aU):bL (.io j::as) r=if (own r[j]?).isSome=true then(bL as r).then fun vs=>ret (.io j::vs) else .no:=by
 conv=>lhs;unfold bL
 split
 ·exact aL _ _ _
 ·rfl
@[simp] theorem bnd(r:aU):ql [] r=some []:=Pm
@[simp] theorem Q1s(d:D)(as:List AV)(r:aU):ql (.val d::as) r=(ql as r).map (d::·):=Pm
@[simp] theorem Ll(j:Nat)(as:List AV)(r:aU):ql (.io j::as) r=(own r[j]?).bind fun d=>(ql as r).map (d::·):=by
 conv=>lhs;unfold ql
 cases own r[j]?<;>rfl
@[simp] theorem Q09:fU []=[]:=Pm
@[simp] theorem Q1G(d:D)(as:List AV):fU (.val d::as)=fU as:=Pm
@[simp] theorem Hg(j:Nat)(as:List AV):fU (.io j::as)=j::fU as:=Pm
@[simp] theorem Eb(f:Fn)(as:List Arg)(r:aU):ax f as r=(bL as r).then fun vs=>nU f vs:=aL _ _ _
@[simp] theorem sX(f:Fn)(vs:List AV)(r:aU):nU f vs r=(opt (ql vs r) r).then fun ds r=>if (fU vs).Nodup then J5 (fU vs) r (f ds) else .no:=by unfold nU;cases ql vs r with|none=>rfl|some ds=>simp only[bW,dz,aA];split;cases f ds<;>rfl;rfl
@[simp] theorem hZ(n:Nat)(b:Bool)(bs:X4)(d:D)(ds:OK):cw (n+1) (b::bs) (d::ds)=(if b=true then .io d else .sh d)::cw n bs ds:=by cases b<;>rfl
@[simp] theorem jw(n:Nat):cw n [] []=List.replicate n .no:=Pm
@[simp] theorem fR(i j:Int):cx (.int i) (.int j)=some (.int (i+j)):=Pm
@[simp] theorem tY(i j:Int):dh (.int i) (.int j)=some (.int (i-j)):=Pm
@[simp] theorem HX(i:Int):lU (.int i)=some (.int (-i)):=Pm
@[simp] theorem xJ(i j:Int):ltI (.int i) (.int j)=some (.bl (decide (i<j))):=Pm
@[simp] theorem pG(i j:Int):xD (.int i) (.int j)=some (.bl (decide (i<=j))):=Pm
@[simp] theorem sH(i j:Int):Dx (.int i) (.int j)=some (.bl (decide (j<i))):=Pm
@[simp] theorem LY(i j:Int):QC (.int i) (.int j)=some (.bl (decide (j<=i))):=Pm
theorem fY(i j:Int)(h:0<j):dG (.int i) (.int j)=some (.int (i % j)):=WL h
theorem fH(i j:Int)(h:0<j)(h2:j<1073741824):eP (.int i) (.int j)=some (.int (i / j)):=WL ⟨h,h2⟩
theorem cQ(i j:Int)(h:-(2 ^ 64)<i)(h2:i<2 ^ 64):cD (.int i) (.int j)=some (.int (i*j)):=WL (.inl ⟨h,h2⟩)
theorem jn(i j:Int)(h:-(2 ^ 64)<j)(h2:j<2 ^ 64):cD (.int i) (.int j)=some (.int (i*j)):=WL (.inr ⟨h,h2⟩)
@[simp] theorem lH(i j:Int):b7 (.int i) (.int j)=some (.bl (decide (i=j))):=by simp[b7,plain,C0];rfl
@[simp] theorem ou(i j:Int):nW (.int i) (.int j)=some (.bl (!decide (i=j))):=by simp[nW,plain,C0];rfl
@[simp] theorem Q2U(ds:OK):bK (.tup ds)=some (.int ds.length):=Pm
@[simp] theorem Q05(ds:OK):bK (.lst ds)=some (.int ds.length):=Pm
@[simp] theorem ot(i j:Int):maxD [.int i,.int j]=some (.int (max i j)):=by simp only[maxD,Option.some.injEq,D.int.injEq];split<;>lia
@[simp] theorem HU(i j:Int):minD [.int i,.int j]=some (.int (min i j)):=by simp only[minD,Option.some.injEq,D.int.injEq];split<;>lia
@[simp] theorem Fp(ds:OK):c5 (.tup ds)=some ds:=Pm
@[simp] theorem Fm(ds:OK):c5 (.lst ds)=some ds:=Pm
@[simp] theorem HL(f:M D)(r:aU):fC f r=(f r).then fun d=>opt (c5 d):=aL _ _ _
@[simp] theorem Eh(fl:List (M D))(r:aU):eY fl r=(mL fl r).then fun xs=>opt (vZ xs):=aL _ _ _
@[simp] theorem Q1D(fl:List (M D))(r:aU):kE fl r=(mL fl r).then fun xs=>opt (qj xs):=aL _ _ _
noncomputable def Rm(n:Nat):OK:=(List.range n).map fun(i:Nat)=>D.int i
theorem Q0U(j:Int)(h:-(2 ^ 62)<=j)(h2:j<2 ^ 62):vZ [.int j]=some (Rm j.toNat):=WL ⟨h,h2⟩
theorem Jz(ds:OK)(h:ds.length<=16777216):BC ds=some (.tup ds):=WL h
theorem Q2H(ds:OK)(h:ds.length<=16777216):A8 ds=some (.lst ds):=WL h
@[simp] theorem Q0k:A8 []=some (.lst []):=Pm
theorem gY(x:D)(xs:OK)(h:xs.length<16777216):gW x (.lst xs)=some (.lst (xs++[x])):=by show (if _ then _ else _)=_;rw[WL h]
theorem ip(xs:OK)(i:Int)(d:D)(h0:0<=i)(h:xs[i.toNat]?=some d):ux xs i=some d:=by have hl:=(List.getElem?_eq_some_iff.mp h).1;unfold ux A0;rw[WL h0,WL Ug];exact h
@[simp] theorem Q2e(xs:OK)(i:Int):aq (.tup xs) (.int i)=ux xs i:=Pm
@[simp] theorem fI(xs:OK)(i:Int):aq (.lst xs) (.int i)=ux xs i:=Pm
def intOf:D->M (Option Int)|.int i=>ret (some i)|_=>stuck
@[simp] theorem xK(f:M D)(r:aU):lT (some f) r=(f r).then intOf:=by show Tz f _ r=_;rw[aL];cases f r with|ok d r'=>cases d<;>rfl|_=>rfl
@[simp] theorem MM(g:D->XY->XY->Ui)(f:M D)(lo hi:Option (M D))(r:aU):Gn g f lo hi r=(f r).then fun d r=>(lT lo r).then fun l r=>(lT hi r).then fun h=>opt (g d l h):=by unfold Gn;rw[aL];congr;funext d r;rw[aL];congr;funext l r;exact aL _ _ _
@[simp] theorem MI(g g2:D->D->Ui)(a b c:M D)(r:aU):zP g g2 a b c r=(a r).then fun x r=>(b r).then fun y r=>((opt (g x y) r).then boolOf).then fun k r=>if k=true then(c r).then fun z=>opt (g2 y z) else .ok (.bl false) r:=by
 unfold zP;rw[aL];congr;funext x r;rw[aL];congr;funext y r;rw[aL];cases g x y with
 |none=>rfl|some d=>
  cases d<;>try rfl
  rename_i k;cases k;rfl;exact aL _ _ _
@[simp] theorem HK(f:M D)(r:aU):HJ f r=(f r).then fun d=>opt ((c5 d).map List.reverse):=aL _ _ _
theorem fM{r:aU}{xs:aU}{s s':Sl}:(r++s::xs).set r.length s'=r++s'::xs:=by rw[List.set_append_right _ _ (Gm _)];simp
theorem dZ{r:aU}{xs:aU}{s:Sl}:(r++s::xs)[r.length]?=some s:=by rw[sW (Gm _)];simp
theorem FF{r:aU}{s:Sl}{acc:OK}{x:D}(h:acc.length<16777216):fJ (r.length+1) (gW x) (r++[s,.ow (.lst acc)])=.ok () (r++[s,.ow (.lst (acc++[x]))]):=by have e:r++[s,Sl.ow (.lst acc)]=(r++[s])++Sl.ow (.lst acc)::[]:=O3;have e2:r.length+1=(r++[s]).length:=O3;rw[e,e2,kq,dZ];simp only[x3,bW,dz,aA,gY x acc h,tN,dZ,tM,fM];simp
end
@[simp] theorem Q0f(r:aU):bR [] r=some []:=by cases r<;>rfl
@[simp] theorem Q0M(bs:X4)(s:Sl)(r:aU):bR (false::bs) (s::r)=bR bs r:=Pm
@[simp] theorem Q0d(bs:X4)(d:D)(r:aU):bR (true::bs) (.io d::r)=(bR bs r).map (d::·):=Pm
noncomputable def LN(d:D):Option (List D)->FR|some cy=>.ok d cy|none=>.no
@[simp] theorem Q2a(d:D)(l:OK):LN d (some l)=.ok d l:=Pm
@[simp] theorem Q0m(fl:X4)(d:D)(r:aU):fin fl (.ok (.rt d) r)=LN d (bR fl r):=by unfold fin LN;first|(dsimp only;done)|(dsimp only;cases bR fl r<;>rfl)
@[simp] theorem Q0A(fl:X4)(c:Prop)[Decidable c](a b:Res Fl):fin fl (if c then a else b)=if c then fin fl a else fin fl b:=by split<;>rfl
@[simp] theorem l4(n:Nat):List.replicate (n+1) Sl.no=.no::List.replicate n .no:=Pm
@[simp] theorem Ae:List.replicate 0 Sl.no=[]:=Pm
noncomputable def T(xs:ZX):D:=.tup (xs.map .int)
noncomputable def Z(xs:ZX):D:=.lst (xs.map .int)
@[simp] theorem mM(xs:ZX):bK (T xs)=some (.int xs.length):=by simp[T]
@[simp] theorem sV(xs:ZX):bK (Z xs)=some (.int xs.length):=by simp[Z]
@[simp] theorem Oh(xs:ZX):c5 (T xs)=some (xs.map .int):=Pm
@[simp] theorem Oi(xs:ZX):c5 (Z xs)=some (xs.map .int):=Pm
@[simp] theorem HD(xs:ZX):hX (T xs)=some (Z xs):=Pm
@[simp] theorem zO(xs:ZX):hX (Z xs)=some (Z xs):=Pm
@[simp] theorem An(xs:ZX):gb (T xs)=some (T xs):=Pm
@[simp] theorem ub(xs:ZX):gb (Z xs)=some (T xs):=Pm
@[simp] theorem Q0I(k:String)(xs:ZX):lQ k (T xs)=some (.bl ("tuple" == k)):=by simp only[lQ,T,vt,Option.map_some];simp
@[simp] theorem Q0c(i:Int):lQ "int" (.int i)=some (.bl true):=Pm
@[simp] theorem Q0a(i:Int):lQ "bool" (.int i)=some (.bl false):=by simp[lQ,vt]
@[simp] theorem Q2g(xs:ZX)(i:Int):aq (Z xs) (.int i)=ux (xs.map .int) i:=Pm
theorem Ho(xs:ZX)(i:Int)(h0:0<=i)(h:i<xs.length):ux (xs.map D.int) i=some (.int (xs.getD i.toNat 0)):=by refine ip _ _ _ h0 ?_;have h2:i.toNat<xs.length:=Ug;simp[h2]
theorem Lj(xs:ZX)(x:Int)(h:xs.length<16777216):gW (.int x) (Z xs)=some (Z (xs++[x])):=by unfold Z;rw[gY];simp;simpa using h
theorem jY(n:Nat)(xs:ZX):gq n (xs.map .int)=true:=by induction xs with|nil=>cases n<;>rfl|cons x xs ih=>simp[gq,ih];cases n<;>simp[plain]
theorem mD(xs ys:ZX):oT (xs.map .int) (ys.map .int)=decide (xs=ys):=by induction xs generalizing ys with|nil=>cases ys<;>simp[oT]|cons x xs ih=>cases ys with|nil=>simp[oT]|cons y ys=>simp[oT,ih,C0];rfl
@[simp] theorem Q0v(xs ys:ZX):b7 (T xs) (T ys)=some (.bl (decide (xs=ys))):=by unfold b7 T;simp[plain,jY,C3,C4,mD]
@[simp] theorem Q0b(xs ys:ZX):nW (T xs) (T ys)=some (.bl (!decide (xs=ys))):=by unfold nW T;simp[plain,jY,C3,C4,mD]
@[simp] theorem Q0s(xs ys:ZX):b7 (Z xs) (Z ys)=some (.bl (decide (xs=ys))):=by unfold b7 Z;simp[plain,jY,C3,C4,mD]
theorem v3(j:Int)(n:Nat)(h:j.toNat=n)(h2:-(2 ^ 62)<=j)(h3:j<2 ^ 62):vZ [.int j]=some ((List.range n).map fun(k:Nat)=>.int k):=by subst h;exact Q0U j h2 h3
noncomputable def bS(g:D->M Unit)(body:M Fl)(d:D)(r:aU):Res Fl:=(g d r).then fun _=>body
noncomputable def cont:Res Fl->Option aU|.ok .nx r=>some r|.ok .ct r=>some r|_=>none
@[simp] theorem Q02(r:aU):cont (.ok .nx r)=some r:=Pm
theorem bE(h:cont (bS g body d r)=some r'):loop g body (d::ds) r=loop g body ds r':=by rw[mN];unfold bS at h;cases q:g d r with|no=>rw[q] at h;cases h|exc x r=>rw[q] at h;cases h|ok u r1=>rw[q,aA] at h;rw[aA];cases q2:body r1 with|no=>rw[q2] at h;cases h|exc x r=>rw[q2] at h;cases h|ok k r2=>rw[q2] at h;cases k with|nx=>cases h;rfl|ct=>cases h;rfl|bk=>cases h|rt v=>cases h
theorem D5(h:bS g body d r=.ok (.rt v) r'):loop g body (d::ds) r=.ok (.rt v) r':=by rw[mN];unfold bS at h;cases q:g d r with|no=>rw[q] at h;cases h|exc x r=>rw[q] at h;cases h|ok u r1=>rw[q,aA] at h;rw[aA,h];rfl
noncomputable def ve{S E A:Type}(step:S->A->E ⊕ S):List A->S->E ⊕ S|[],s=>.inr s|a::as,s=>match step s a with|.inl e=>.inl e|.inr s'=>ve step as s'
theorem xH{S Tm A:Type}(mk:A->D)(R:S->Tm->aU)(ok:Tm->Prop)(step:S->A->D ⊕ S):∀(as:List A)(P:Nat->S->Prop)(s:S)(t:Tm),ok t->P 0 s ->
  (∀(i:Nat)(a:A),as[i]?=some a->∀s t,ok t->P i s->match step s a with|.inr s'=>P (i+1) s'/\∃t',ok t'/\cont (bS g body (mk a) (R s t))=some (R s' t')|.inl v=>∃s' t',bS g body (mk a) (R s t)=.ok (.rt v) (R s' t')) ->
  match ve step as s with|.inr s'=>P as.length s'/\∃t',ok t'/\loop g body (as.map mk) (R s t)=.ok .nx (R s' t')|.inl v=>∃s' t',loop g body (as.map mk) (R s t)=.ok (.rt v) (R s' t'):=by
 intro as;induction as with|nil=>intro P s t ht hs _;exact⟨hs,t,ht,rfl⟩|cons a as ih=>intro P s t ht hs h;have h1:=h 0 a rfl s t ht hs;simp only[ve,List.map_cons];cases q:step s a with|inl v=>rw[q] at h1;obtain⟨s',t',e⟩:=h1;exact⟨s',t',D5 e⟩|inr s1=>rw[q] at h1;obtain⟨p1,t1,o1,e1⟩:=h1;have h2:=ih (fun k=>P (k+1)) s1 t1 o1 p1 fun i a' ha=>h (i+1) a' (by simpa using ha);have e:(a::as).length=as.length+1:=O3;dsimp only;rw[e];cases q2:ve step as s1 with|inl v=>rw[q2] at h2;obtain⟨s',t',z⟩:=h2;exact⟨s',t',by rw[bE e1];exact z⟩|inr s2=>rw[q2] at h2;obtain⟨p2,t2,o2,z⟩:=h2;exact⟨p2,t2,o2,by rw[bE e1];exact z⟩
theorem pJ{S Tm A:Type}(mk:A->D)(R:S->Tm->aU)(ok:Tm->Prop)(P:Nat->S->Prop)(step:S->A->S)(as:List A)(s:S)(t:Tm)(ht:ok t)(hs:P 0 s)
  (h:∀(i:Nat)(a:A),as[i]?=some a->∀s t,ok t->P i s->P (i+1) (step s a)/\∃t',ok t'/\cont (bS g body (mk a) (R s t))=some (R (step s a) t')) :
  P as.length (as.foldl step s)/\∃t',ok t'/\loop g body (as.map mk) (R s t)=.ok .nx (R (as.foldl step s) t'):=by
 have:=xH (g:=g) (body:=body) mk R ok (fun s a=>.inr (step s a)) as P s t ht hs h;have e:∀(as:List A)(s:S),ve (E:=D) (fun s a=>.inr (step s a)) as s=.inr (as.foldl step s):=by intro as;induction as with|nil=>intro s;rfl|cons a as ih=>intro s;exact ih _
 rw[e] at this;exact this
theorem fg(h:(List.range n)[i]?=some k):k=i/\i<n:=by have h1:=(List.getElem?_eq_some_iff.mp h).1;simp at h1;rw[GN h1] at h;exact⟨(X6 h).symm,h1⟩
def Qq(s:Sl):Prop:=free (some s)=true
def pf(s:Sl×Sl):Prop:=free (some s.1)=true/\free (some s.2)=true
def vf(s:Sl×Sl×Sl):Prop:=free (some s.1)=true/\free (some s.2.1)=true/\free (some s.2.2)=true
@[simp] theorem Hm(j:Nat)(i:D)(r:aU):DU j i r=(opt (own r[j]?) r).then fun d=>opt (aq d i):=by unfold DU;cases own r[j]?<;>rfl
@[simp] theorem HF(j:Nat)(fb:M D)(r:aU):dB j fb r=if (own r[j]?).isSome=true then(fb r).then (DU j) else .no:=by unfold dB;split;exact aL _ _ _;rfl
theorem Q13(n:Nat)(i:Int)(h0:0<=i)(h:i<n):A0 n i=some i.toNat:=by unfold A0;rw[WL h0,WL h]
theorem rK(xs:OK)(i:Int)(v:D)(h0:0<=i)(h:i<xs.length):setAt (.int i) v (.lst xs)=some (.lst (xs.set i.toNat v)):=by show (A0 xs.length i).map _=_;rw[Q13 _ _ h0 h];rfl
theorem Jm(xs:ZX)(i v:Int)(h0:0<=i)(h:i<xs.length):setAt (.int i) (.int v) (Z xs)=some (Z (xs.set i.toNat v)):=by unfold Z;rw[rK _ _ _ h0 (by simpa using h)];simp
noncomputable def outs{S A B:Type}(step:S->A->S)(f:S->A->B):S->List A->List B|_,[]=>[]|s,a::as=>f s a::outs step f (step s a) as
theorem Qk{S A:Type}(mk:A->D)(R:S->aU)(P:Nat->S->Prop)(step:S->A->S)(f:S->A->D)(as:List A)(s:S)
  (V9:∀s,(R s).length=k) (vj:it r0=.ok (as.map mk) (R s)) (hL:as.length<=16777216) (hP:P 0 s)
  (he:∀(i:Nat)(a:A),as[i]?=some a->∀s acc,P i s->P (i+1) (step s a)/\elt (R s++[.sh (mk a),.ow acc])=.ok (f s a) (R (step s a)++[.sh (mk a),.ow acc])) :
  aY 1 it (aP k) (ret true) elt r0=.ok (.lst (outs step f s as)) (R (as.foldl step s))/\P as.length (as.foldl step s):=by
 have key:∀(es:List A)(n:Nat)(acc:OK)(x:Sl)(s:S),free (some x)=true->(∀(i:Nat)(a:A),es[i]?=some a->as[n+i]?=some a)->acc.length+es.length<=16777216->P n s->(∃x',turns (k+1) (aP k) (ret true) elt (es.map mk) (R s++[x,.ow (.lst acc)])=.ok () (R (es.foldl step s)++[x',.ow (.lst (acc++outs step f s es))]))/\P (n+es.length) (es.foldl step s):=by
  intro es;induction es with
  |nil=>intro n acc x s _ _ _ hp;exact⟨⟨x,by simp[outs]⟩,hp⟩|cons a es ih=>
   intro n acc x s hx hm hl hp;obtain⟨p1,e1⟩:=he n a (hm 0 a rfl) s (.lst acc) hp;obtain⟨⟨x',e2⟩,p2⟩:=ih (n+1) (acc++[f s a]) (.sh (mk a)) (step s a) rfl (fun i b hb=>by rw[Nat.add_assoc,Nat.add_comm 1 i];exact hm (i+1) b hb) (by simp at hl ⊢;lia) p1;refine⟨⟨x',?_⟩,?_⟩;have g1:aP k (mk a) (R s++[x,.ow (.lst acc)])=.ok () (R s++[.sh (mk a),.ow (.lst acc)]):=by have:=dZ (r:=R s) (xs:=[.ow (.lst acc)]) (s:=x);have:=fM (r:=R s) (xs:=[.ow (.lst acc)]) (s:=x) (s':=.sh (mk a));rw[V9 s] at *;rw[vg];simp_all
   have u1:fJ (k+1) (gW (f s a)) (R (step s a)++[.sh (mk a),.ow (.lst acc)])=.ok () (R (step s a)++[.sh (mk a),.ow (.lst (acc++[f s a]))]):=by have:=FF (r:=R (step s a)) (s:=.sh (mk a)) (acc:=acc) (x:=f s a) (by simp at hl;lia);rw[V9] at this;exact this
   rw[Pj,qg,g1,aA,dz,aA,WL rfl,e1,aA,u1,aA,e2];simp[outs];have e:n+(a::es).length=n+1+es.length:=by simp;lia
   rw[e];exact p2
 obtain⟨⟨x',z⟩,p⟩:=key as 0 [] .no s rfl (fun i a h=>by rw[OS];exact h) (by simpa using hL) hP;refine⟨?_,by rw[OS] at p;exact p⟩;rw[pK,vj,aA];unfold inner;have e:R s++List.replicate 1 Sl.no++[Sl.ow (.lst [])]=R s++[.no,.ow (.lst [])]:=O3;dsimp only;rw[e,V9,z];have e2:(R (as.foldl step s)++[x',Sl.ow (.lst ([]++outs step f s as))])[k+1]?=some (.ow (.lst ([]++outs step f s as))):=by rw[sW (by rw[V9];lia),V9];simp
 simp only[e2];have e3:List.take k (R (as.foldl step s)++[x',Sl.ow (.lst ([]++outs step f s as))])=R (as.foldl step s):=by rw[<-V9 (as.foldl step s)];simp
 rw[e3];simp
theorem vO{S A B:Type}(f:A->B)(s:S):∀as:List A,outs (fun(s:S)(_:A)=>s) (fun _ a=>f a) s as=as.map f|[]=>rfl|a::as=>by simp[outs,vO f s as]
theorem jN{A:Type}{it:M (List D)}{elt:M D}{k:Nat}{r:aU}{out:D}(mk:A->D)(f:A->D)(as:List A)(vj:it r=.ok (as.map mk) r)(hL:as.length<=16777216)(sN:D.lst (as.map f)=out)(he:∀a∈as,∀acc,elt (r++[.sh (mk a),.ow acc])=.ok (f a) (r++[.sh (mk a),.ow acc])) (hk:autoParam (r.length=k) AuP.a._autoParam):aY 1 it (aP k) (ret true) elt r=.ok out r:=by have:=(Qk (elt:=elt) mk (fun(_:Unit)=>r) (fun _ _=>True) (fun s _=>s) (fun _ a=>f a) as () (fun _=>hk) vj hL trivial fun i a ha s acc _=>⟨trivial,he a (TQ ha) acc⟩).1;rw[vO,sN] at this;exact this
@[simp] theorem Q0D(a:D)(xs:OK):ux (a::xs) 0=some a:=ip _ _ _ Ug rfl
@[simp] theorem Q0Y(a b:D)(xs:OK):ux (a::b::xs) 1=some b:=ip _ _ _ Ug rfl
@[simp] theorem Q08(a b c:D)(xs:OK):ux (a::b::c::xs) 2=some c:=ip _ _ _ Ug rfl
@[simp] theorem Q0e(a b c:D):BC [a,b,c]=some (.tup [a,b,c]):=Pm
theorem J8{A:Type}(mk:A->D)(sl:A->List Sl)(t:A->Bool)(f:A->D)(as:List A)(hk:r.length=k)(vj:it r=.ok (as.map mk) r)(hL:as.length<=16777216)
  (Q6:∀a∈as,(sl a).length=n/\∀x∈sl a,free (some x)=true)
  (hg:∀a∈as,∀(ts:List Sl) acc,ts.length=n->(∀x∈ts,free (some x)=true)->g (mk a) (r++ts++[.ow acc])=.ok () (r++sl a++[.ow acc]))
  (ht:∀a∈as,∀acc,test (r++sl a++[.ow acc])=.ok (t a) (r++sl a++[.ow acc]))
  (he:∀a∈as,t a=true->∀acc,elt (r++sl a++[.ow acc])=.ok (f a) (r++sl a++[.ow acc])) :
  aY n it g test elt r=.ok (.lst ((as.filter t).map f)) r:=by
 subst hk;have Ta:∀(ts:List Sl)(acc:OK)(x:D),ts.length=n->acc.length<16777216->fJ (r.length+n) (gW x) (r++ts++[.ow (.lst acc)])=.ok () (r++ts++[.ow (.lst (acc++[x]))]):=by
  intro ts acc x h1 h2;have e2:r.length+n=(r++ts).length:=by simp[h1]
  rw[e2,kq];have:=dZ (r:=r++ts) (xs:=[]) (s:=.ow (.lst acc));rw[this];have:=fM (r:=r++ts) (xs:=[]) (s:=.ow (.lst acc)) (s':=.ow (.lst (acc++[x])));simp only[x3,bW,dz,aA,gY x acc h2,tN,dZ,tM,this]
 have key:∀(es:List A)(acc:OK)(ts:List Sl),ts.length=n->(∀x∈ts,free (some x)=true)->(∀d∈es,d∈as)->acc.length+es.length<=16777216->∃K2,K2.length=n/\turns (r.length+n) g test elt (es.map mk) (r++ts++[.ow (.lst acc)])=.ok () (r++K2++[.ow (.lst (acc++(es.filter t).map f))]):=by intro es;induction es with|nil=>intro acc ts h1 _ _ _;exact⟨ts,h1,O3⟩|cons a es ih=>intro acc ts h1 h2 hm hl;have ha:=hm a Rn;have XJ:∀x∈es,x∈as:=fun x hx=>hm x (X1 _ hx);rw[Pj,qg,hg a ha ts _ h1 h2,aA,ht a ha,aA];cases q:t a with|false=>obtain⟨K2,z1,z2⟩:=ih acc (sl a) (Q6 a ha).1 (Q6 a ha).2 XJ (by simp at hl;lia);refine⟨K2,z1,?_⟩;rw[S8 O3,z2,List.filter_cons,q,S8 O3]|true=>obtain⟨K2,z1,z2⟩:=ih (acc++[f a]) (sl a) (Q6 a ha).1 (Q6 a ha).2 XJ (by simp at hl ⊢;lia);refine⟨K2,z1,?_⟩;rw[WL rfl,he a ha q,aA,Ta _ _ _ (Q6 a ha).1 (by simp at hl;lia),aA,z2,List.filter_cons,q,WL rfl];simp
 obtain⟨K2,z1,z2⟩:=key as [] (List.replicate n .no) O3 (fun x hx=>by rw[List.eq_of_mem_replicate hx];rfl) (fun _ h=>h) (by simpa using hL);rw[pK,vj,aA];unfold inner;dsimp only;rw[z2];have e2:(r++K2++[Sl.ow (.lst ([]++(as.filter t).map f))])[r.length+n]?=some (.ow (.lst ([]++(as.filter t).map f))):=by rw[sW (by simp;lia)];simp[z1]
 simp only[e2];simp
theorem Q0o{r:aU}{ts:List Sl}{acc x y:D}(h1:ts.length=2)(h2:∀x∈ts,free (some x)=true):cq [r.length,r.length+1] (.tup [x,y]) (r++ts++[.ow acc])=.ok () (r++[.sh x,.sh y]++[.ow acc]):=by
 match ts,h1,h2 with
 |[s,s2],_,h2=>
  have hs:=h2 s Rn;have nQ:=h2 s2 (X1 _ Rn);have g2:(r++[Sl.sh x,s2,.ow acc])[r.length+1]?=some s2:=by rw[sW Ug];simp
  have g3:(r++[Sl.sh x,s2,.ow acc]).set (r.length+1) (.sh y)=r++[.sh x,.sh y,.ow acc]:=by rw[List.set_append_right _ _ Ug];simp
  simp only[List.append_assoc,List.cons_append,List.nil_append];rw[Q1Y,q9,zQ,dZ,WL hs,fM,aA,q9,zQ,g2,WL nQ,g3];rfl
theorem Q0J{A:Type}{it:M (List D)}{test:M Bool}{elt:M D}{k:Nat}{r:aU}{out:D}(m1 m2:A->D)(t:A->Bool)(f:A->D)(as:List A)(vj:it r=.ok (as.map fun a=>.tup [m1 a,m2 a]) r)(hL:as.length<=16777216)(sN:D.lst ((as.filter t).map f)=out)
  (ht:∀a∈as,∀acc,test (r++[.sh (m1 a),.sh (m2 a),.ow acc])=.ok (t a) (r++[.sh (m1 a),.sh (m2 a),.ow acc]))
  (he:∀a∈as,t a=true->∀acc,elt (r++[.sh (m1 a),.sh (m2 a),.ow acc])=.ok (f a) (r++[.sh (m1 a),.sh (m2 a),.ow acc])) (hk:autoParam (r.length=k) AuP.a._autoParam) :
  aY 2 it (cq [k,k+1]) test elt r=.ok out r:=by
 rw[<-sN];subst hk;refine J8 (fun a=>.tup [m1 a,m2 a]) (fun a=>[.sh (m1 a),.sh (m2 a)]) t f as rfl vj hL (fun a _=>⟨rfl,by intro x hx;simp at hx;rcases hx with rfl|rfl<;>rfl⟩) (fun a ha ts acc h1 h2=>Q0o h1 h2) (fun a ha acc=>?_) fun a ha q acc=>?_;have:=ht a ha acc;simpa using this;have:=he a ha q acc;simpa using this
theorem Lx{A:Type}{it:M (List D)}{elt:M D}{k:Nat}{r:aU}{out:D}(m1 m2:A->D)(f:A->D)(as:List A)(vj:it r=.ok (as.map fun a=>.tup [m1 a,m2 a]) r)(hL:as.length<=16777216)(sN:D.lst (as.map f)=out)
  (he:∀a∈as,∀acc,elt (r++[.sh (m1 a),.sh (m2 a),.ow acc])=.ok (f a) (r++[.sh (m1 a),.sh (m2 a),.ow acc])) (hk:autoParam (r.length=k) AuP.a._autoParam) :
  aY 2 it (cq [k,k+1]) (ret true) elt r=.ok out r:=
 Q0J m1 m2 (fun _=>true) f as vj hL (by rw[List.filter_eq_self.mpr (fun _ _=>rfl)];exact sN) (fun _ _ _=>rfl) (fun a ha _ acc=>he a ha acc) hk
theorem xi{A:Type}{it:M (List D)}{test:M Bool}{elt:M D}{k:Nat}{r:aU}{out:D}(mk:A->D)(t:A->Bool)(f:A->D)(as:List A)(vj:it r=.ok (as.map mk) r)(hL:as.length<=16777216)(sN:D.lst ((as.filter t).map f)=out)
  (ht:∀a∈as,∀acc,test (r++[.sh (mk a),.ow acc])=.ok (t a) (r++[.sh (mk a),.ow acc]))
  (he:∀a∈as,t a=true->∀acc,elt (r++[.sh (mk a),.ow acc])=.ok (f a) (r++[.sh (mk a),.ow acc])) (hk:autoParam (r.length=k) AuP.a._autoParam) :
  aY 1 it (aP k) test elt r=.ok out r:=by
 rw[<-sN];subst hk;refine J8 mk (fun a=>[.sh (mk a)]) t f as rfl vj hL (fun a _=>⟨rfl,by intro x hx;simp at hx;rw[hx];rfl⟩) (fun a ha ts acc h1 h2=>?_) (fun a ha acc=>?_) fun a ha q acc=>?_
 match ts,h1,h2 with|[s],_,h2=>have hs:=h2 s Rn;simp only[List.append_assoc,List.cons_append,List.nil_append];rw[vg,dZ,WL hs,fM]
 have:=ht a ha acc;simpa using this;have:=he a ha q acc;simpa using this
@[simp] theorem Fj(i:Nat)(cs:Ut)(f:Str)(fv:M D)(r:aU):bO i cs f fv r=(fv r).then fun v r=>(fJ i (j5 cs f v) r).then fun _=>ret .nx:=by unfold bO;rw[aL];congr;funext v r;exact lq _ _
@[simp] theorem vB(c:Str)(f:Fn)(as:List Arg)(r:aU):dr c f as r=(bL as r).then fun vs=>Ba c f vs:=aL _ _ _
@[simp] theorem Ee(c m:Str)(f:Fn)(fo:M D)(as:List Arg)(r:aU):df c m f fo as r=(fo r).then fun o r=>if iJ c m o=true then(bL as r).then fun vs=>nU f (.val o::vs) else .no:=by unfold df;rw[aL];congr;funext o r;split;exact aL _ _ _;rfl
@[simp] theorem Ed(fl:List (M D))(r:aU):kP fl r=(mL fl r).then fun xs=>opt (jP xs):=aL _ _ _
@[simp] theorem Q0R(fl:List (M D))(r:aU):Ec fl r=(mL fl r).then fun xs=>opt (Fb xs):=aL _ _ _
@[simp] theorem iF(ds:OK):jP [.lst ds]=some (iG ds):=Pm
theorem mB{A:Type}(mk:A->D)(as:List A):iG (as.map mk)=(List.range as.length).zipWith (fun i a=>D.tup [.int (i:Nat),mk a]) as:=by unfold iG;rw[xN,List.zipWith_map_right]
@[simp] theorem uC(al:Bool)(ds:OK):mq al (.lst ds)=(i5 ds).map fun bs=>.bl (if al then bs.all id else bs.any id):=Pm
theorem kX{A:Type}(f:A->Bool):∀as:List A,i5 (as.map fun a=>D.bl (f a))=some (as.map f)|[]=>rfl|a::as=>by simp[i5,kX f as]
theorem xb{A:Type}(f:A->Bool)(as:List A):mq true (.lst (as.map fun a=>D.bl (f a)))=some (.bl (as.all f)):=by rw[uC,kX];simp[Function.comp_def]
theorem BV{A:Type}(f:A->Bool)(as:List A):mq false (.lst (as.map fun a=>D.bl (f a)))=some (.bl (as.any f)):=by rw[uC,kX];simp[Function.comp_def]
theorem Ef(c:Str)(f:Fn)(vals:OK)(d:D)(r:aU)(h:f (.ins c [] []::vals)=.ok .bB [d]):Ba c f (vals.map AV.val) r=.ok d r:=by
 have e1:∀(vs:OK)(r:aU),ql (vs.map AV.val) r=some vs:=fun vs r=>by induction vs with|nil=>rfl|cons v vs ih=>simp[ih]
 have e2:∀vs:OK,fU (vs.map AV.val)=[]:=fun vs=>by induction vs with|nil=>rfl|cons v vs ih=>simp[ih]
 have g:(r++[Sl.ow (.ins c [] [])])[r.length]?=some (.ow (.ins c [] [])):=O3;have p:putAll [r.length] [d] (r++[Sl.ow (.ins c [] [])])=r++[.ow d]:=by rw[Q1b,yd,tN,g,tM,fM]
 unfold Ba;rw[sX,Ll,g];simp only[x3,Option.bind_some,e1,Option.map_some,bW,dz,aA,Hg,e2];rw[WL O3,h,oN,p];simp
def Tb(s c:ZX):D:=.ins "Table" ["sides","cells"] [T s,Z c]
theorem dY(s c:ZX):aC ["Table"] "sides" (Tb s c)=some (T s):=by simp[aC,Tb]
theorem dm(s c:ZX):aC ["Table"] "cells" (Tb s c)=some (Z c):=by
 have:(("cells" : Str) == "sides")=false:=by decide +kernel
 simp[aC,Tb,List.lookup,this]
theorem Q1v(x:D):j5 ["Table"] "sides" x (.ins "Table" [] [])=some (.ins "Table" ["sides"] [x]):=by simp[j5,iS]
theorem Q1W(x y:D):j5 ["Table"] "cells" y (.ins "Table" ["sides"] [x])=some (.ins "Table" ["sides","cells"] [x,y]):=by
 have:¬(("sides" : Str)="cells"):=by decide +kernel
 simp[j5,iS,this]
theorem ji(s c:ZX):iJ "Table" "cell" (Tb s c)=true:=by
 have h1:(("cell" : Str) == "sides")=false:=by decide +kernel
 have h2:(("cell" : Str) == "cells")=false:=by decide +kernel
 simp[iJ,Tb];exact⟨by simpa using h1,by simpa using h2⟩
theorem zJ(s c:ZX):bo [("Table",true)] (Tb s c)=some (.bl true):=by simp[bo,Tb,List.lookup]
noncomputable def Io(r:aU):Option Sl->Res D|some (.ow d)=>.ok d r|_=>.no
def xA(l n:Nat):Res Unit->Res D|.ok _ r'=>Io (r'.take l) r'[l+n]?|.exc x r'=>.exc x (r'.take l)|.no=>.no
theorem DN(n:Nat)(f:Nat->M Unit)(r:aU):inner n f r=xA r.length n (f (r.length+n) (r++List.replicate n .no++[.ow (.lst [])])):=by
 unfold inner xA;cases f (r.length+n) (r++List.replicate n .no++[.ow (.lst [])]) with
 |ok u r'=>dsimp only;unfold Io;cases r'[r.length+n]? with|none=>rfl|some s=>cases s<;>rfl
 |_=>rfl
theorem AX(l n:Nat)(u:Unit)(r':aU):xA l n (.ok u r')=Io (r'.take l) r'[l+n]?:=Pm
theorem Ip(r:aU)(d:D):Io r (some (.ow d))=.ok d r:=Pm
theorem iZ(x:D)(xs:OK)(h:xs.length<1000):gW x (.lst xs)=some (.lst (xs++[x])):=gY x xs Ug
theorem iK:∀ns:ZX,eT (ns.map .int)=some ns|[]=>rfl|n::ns=>by rw[Pj,eT,iK ns];rfl
def Q2h(i:Nat)(r:aU):D->Res D
|.lst xs=>match xs.getLast? with
  |some d=>.ok d (cE i (.lst xs.dropLast) r)|none=>.no
 |_=>.no
@[simp] theorem Q0P(i:Nat)(fe:M D)(r:aU):Ff i fe r=if isLst (own r[i]?)=true then(fe r).then fun x r=>(fJ i (xm x) r).then fun _=>ret .nx else .no:=by unfold Ff;split;rw[aL];congr;funext k r;exact lq _ _;rfl
theorem GY(xs ys:OK)(h:xs.length+ys.length<=ur):xm (.lst ys) (.lst xs)=some (.lst (xs++ys)):=WL h
def K5(r:aU):Res D->Res D|.ok (.lst ds) _=>if noLs ds then .ok (.lst ds) r else .no|_=>.no
@[simp] theorem Ei(f:M D)(r:aU):pL f r=K5 r (f (r.map jF)):=by unfold pL;cases f (r.map jF) with|ok d r=>cases d<;>rfl|exc e r=>rfl|no=>rfl
theorem Q23(r r':aU)(ds:OK)(h:noLs ds=true):K5 r (.ok (.lst ds) r')=.ok (.lst ds) r:=WL h
@[simp] theorem FJ(d:D):jF (.ow d)=.sh d:=rfl
@[simp] theorem FK(d:D):jF (.sh d)=.sh d:=rfl
theorem wG(h:c r=.ok false r'):gT c b (n+1) r=.ok .nx r':=by unfold gT;rw[aL,h];rfl
theorem Q1j(h:c r=.ok true r1)(h2:b r1=.ok .nx r2):gT c b (n+1) r=gT c b n r2:=by rw[gT,aL,h];show (Tz b _) r1=_;rw[aL,h2];rfl
variable{α β:Type}
def Om:Fl->M Fl->M Fl|.nx,g=>g|k,_=>ret k
theorem Q1u(h:f r=.ok k r1)(h2:Om k g r1=R):ak f g r=R:=by rw[oB,h];cases k<;>exact h2
theorem Jk(h:g r=R):Om .nx g r=R:=h
theorem Jl:Om (.rt d) g r=.ok (.rt d) r:=rfl
theorem UN:mC d r=.ok d r:=rfl
theorem R5:aH r=.ok .nx r:=rfl
theorem Bp{a:α}:ret a r=.ok a r:=rfl
theorem Ka(h:¬i=j):b7 (.int i) (.int j)=some (.bl false):=by rw[lH,Uy h]
theorem Q2K(h:j<i):Dx (.int i) (.int j)=some (.bl true):=by rw[sH,NU h]
theorem Kj(h:¬j<i):Dx (.int i) (.int j)=some (.bl false):=by rw[sH,Uy h]
theorem Rj(h:c r=.ok t r1)(h2:(bif t then a else b) r1=R):bX c a b r=R:=by rw[Q24,h];cases t<;>exact h2
theorem MQ(h:c r=.ok t r1)(h2:(bif t then a else b) r1=R):vz c a b r=R:=by rw[MJ,h];cases t<;>exact h2
theorem J7{a b:M α}{R:Res α}(ht:t=true)(h:a r=R):(bif t then a else b) r=R:=by subst ht;exact h
theorem J6{a b:M α}{R:Res α}(ht:t=false)(h:b r=R):(bif t then a else b) r=R:=by subst ht;exact h
theorem Oo{i:Nat}{f:M D}{r r1 r2:aU}{d:D}(h:f r=.ok d r1)(hf:free r1[i]?=true)(h2:r1.set i (.sh d)=r2):bc i f r=.ok .nx r2:=by rw[Jj,h,aA,WL hf,h2]
theorem NK{i:Nat}{f:M D}{r r1 r2:aU}{d:D}(h:f r=.ok d r1)(hf:free r1[i]?=true)(h2:r1.set i (.ow d)=r2):gu i f r=.ok .nx r2:=by rw[Jh,h,aA,WL hf,h2]
theorem N8(h:f r=.ok d r1):aM f r=.ok (.rt d) r1:=by rw[Q2D,h];rfl
theorem OM(h:r[i]?=some (.sh d)):ag i r=.ok d r:=by rw[HN,h];rfl
theorem RJ(h:a r=.ok x r1)(hg:g x=some z):m1 g a r=.ok z r1:=by rw[KI,h,aA,hg];rfl
theorem RM(h:a r=.ok x r1)(h2:b r1=.ok y r2)(hg:g x y=some z):m2 g a b r=.ok z r2:=by rw[RK,h,aA,h2,aA,hg];rfl
theorem RT(h:mL as r=.ok xs r1)(hg:g xs=some z):mF g as r=.ok z r1:=by rw[RS,h,aA,hg];rfl
theorem A9:mL [] r=.ok [] r:=rfl
theorem RU(h:f r=.ok x r1)(h2:mL fs r1=.ok xs r2):mL (f::fs) r=.ok (x::xs) r2:=by rw[HG,h,aA,h2];rfl
theorem OI(h:mL fs r=.ok xs r1)(hl:(decide (xs.length<=16777216))=true):fX fs r=.ok (.tup xs) r1:=by rw[HM,h,aA,Jz _ (Hn hl)];rfl
theorem MF(h:mL fs r=.ok xs r1)(hl:(decide (xs.length<=16777216))=true):dQ fs r=.ok (.lst xs) r1:=by rw[HH,h,aA,Q2H _ (Hn hl)];rfl
theorem SV(h:a r=.ok (.bl b) r1):tB a r=.ok b r1:=by rw[Q22,h];rfl
theorem MS(h:a r=.ok b r1):f6 a r=.ok (!b) r1:=by rw[Jv,h];rfl
theorem Lh(h:a r=.ok x r1)(h2:(bif x then b else ret false) r1=.ok t r2):qF a b r=.ok t r2:=by rw[Q14,h];cases x<;>exact h2
theorem Q0E(h:a r=.ok x r1)(h2:(bif x then ret true else b) r1=.ok t r2):tZ a b r=.ok t r2:=by rw[OE,h];cases x<;>exact h2
theorem Q1n(h:a r=.ok (.bl x) r1)(h2:(bif x then b else ret (.bl false)) r1=R):iO a b r=R:=by rw[Ea,h];cases x<;>exact h2
theorem NJ(h:a r=.ok (.bl x) r1)(h2:(bif x then ret (.bl true) else b) r1=R):Bb a b r=R:=by rw[HI,h];cases x<;>exact h2
theorem SK(e:f r=.ok d r1)(e1:lT lo r1=.ok l r2)(e2:lT hi r2=.ok h r3)(hg:g d l h=some z):Gn g f lo hi r=.ok z r3:=by rw[MM,e,aA,e1,aA,e2,aA,hg];rfl
theorem Sq(h:f r=.ok (.int i) r1):lT (some f) r=.ok (some i) r1:=by rw[xK,h];rfl
theorem GH(h:bL as r=.ok vs r1)(ha:ql vs r1=some ds)(hn:decide (fU vs).Nodup=true)(hf:f ds=.ok d cy)(hp:putAll (fU vs) cy r1=r2):ax f as r=.ok d r2:=by rw[Eb,h,aA,sX,ha,bW,dz,aA,WL (Hn hn),hf,oN,hp]
theorem uF:bL [] r=.ok [] r:=rfl
theorem uG(h:f r=.ok d r1)(h2:bL as r1=.ok vs r2):bL (.val f::as) r=.ok (.val d::vs) r2:=by show Tz _ _ r=_;rw[aL,h,aA,aL,h2];rfl
theorem xc(h:(own r[j]?).isSome=true)(h2:bL as r=.ok vs r2):bL (.io j::as) r=.ok (.io j::vs) r2:=by show (if _ then _ else _)=_;rw[WL h,aL,h2];rfl
theorem Mu(h0:(own r[j]?).isSome=true)(h:f r=.ok i r1)(h1:own r1[j]?=some d)(h2:aq d i=some z):dB j f r=.ok z r1:=by rw[HF,WL h0,h,aA,Hm,h1,bW,dz,aA,h2];rfl
theorem Kb(hl:decide (ds.length=fl.length)=true)(h:b (cw n fl ds)=.ok (.rt d) r)(hi:bR fl r=some cy):defn n fl b ds=.ok d cy:=by rw[bG _ _ _ _ (Hn hl),h];show (match bR fl r with|some cy=>FR.ok d cy|none=>FR.no)=_;rw[hi]
theorem Qn(hl:decide (ds.length=fl.length)=true)(h:b (cw n fl ds)=.ok .nx r)(hi:bR fl r=some cy):defn n fl b ds=.ok .bB cy:=by rw[bG _ _ _ _ (Hn hl),h];show (match bR fl r with|some cy=>FR.ok .bB cy|none=>FR.no)=_;rw[hi]
theorem HS(ho:fo r=.ok o r1)(hi:iJ c m o=true)(h:bL as r1=.ok vs r2)(ha:ql vs r2=some ds)(hn:decide (fU vs).Nodup=true)(hf:f (o::ds)=.ok d cy)(hp:putAll (fU vs) cy r2=r3):df c m f fo as r=.ok d r3:=by rw[Ee,ho,aA,WL hi,h,aA,sX,Q1s,ha,Option.map_some,bW,dz,aA,Q1G,WL (Hn hn),hf,oN,hp]
theorem LQ(h:it r=.ok ds r1)(h2:loop g b ds r1=R):fZ it g b r=R:=by rw[Jg,h];exact h2
theorem Oa(h:mL fl r=.ok xs r1)(h2:vZ xs=some ds):eY fl r=.ok ds r1:=by rw[Eh,h,aA,h2];rfl
theorem Q2F(h:f r=.ok d r1)(h2:c5 d=some ds):fC f r=.ok ds r1:=by rw[HL,h,aA,h2];rfl
theorem OX(h:mL fl r=.ok xs r1)(h2:qj xs=some ds):kE fl r=.ok ds r1:=by rw[Q1D,h,aA,h2];rfl
theorem GP(h:mL fl r=.ok xs r1)(h2:jP xs=some ds):kP fl r=.ok ds r1:=by rw[Ed,h,aA,h2];rfl
theorem N9(h:f r=.ok d r1)(h2:(c5 d).map List.reverse=some ds):HJ f r=.ok ds r1:=by rw[HK,h,aA,h2];rfl
theorem Lk(h0:isLst (own r[i]?)=true)(h:f r=.ok x r1)(h1:own r1[i]?=some d)(h2:gW x d=some d')(h3:cE i d' r1=r2):l6 i f r=.ok .nx r2:=by rw[Jf,WL h0,h,aA,kq,h1,bW,dz,aA,h2,bW,dz,aA,h3];rfl
theorem Oq(hv:fv r=.ok v r1)(h0:isLst (own r1[i]?)=true)(hk:fk r1=.ok k r3)(h1:own r3[i]?=some d)(h2:setAt k v d=some d')(h3:cE i d' r3=r2):iw i fk fv r=.ok .nx r2:=by rw[Bw,hv,aA,WL h0,hk,aA,kq,h1,bW,dz,aA,h2,bW,dz,aA,h3];rfl
theorem Q0K(hv:fv r=.ok v r1)(h1:own r1[i]?=some d)(h2:j5 cs f v d=some d')(h3:cE i d' r1=r2):bO i cs f fv r=.ok .nx r2:=by rw[Fj,hv,aA,kq,h1,bW,dz,aA,h2,bW,dz,aA,h3];rfl
theorem Qr(h:HE i r=.ok () r1)(h2:f r1=R):Bv i f r=R:=by rw[Oe,h];exact h2
theorem SF(h:anyOf r[i]?=some d):sY i r=.ok d r:=by rw[ML,h];rfl
theorem Hu(h:f r=.ok d r1)(h2:DX d=some ds):vA f r=.ok ds r1:=by show Tz _ _ r=_;rw[aL,h,aA,h2];rfl
theorem IJ(hv:fv r=.ok v r1)(h0:(own r1[i]?).isSome=true)(hk:fk r1=.ok k r3)(h1:own r3[i]?=some d)(h2:putD k v d=some d')(h3:cE i d' r3=r2):Ai i fk fv r=.ok .nx r2:=by show Tz _ _ r=_;rw[aL,hv,aA,WL h0,aL,hk,aA,lq,kq,h1,bW,dz,aA,h2,bW,dz,aA,h3];rfl
theorem Qh(h:a r=.ok x r1)(h2:b r1=.ok y r2)(hg:g x y=some (.bl k))(h3:(bif k then m1 (g2 y) c else ret (.bl false)) r2=R):zP g g2 a b c r=R:=by rw[MI,h,aA,h2,aA,hg];cases k;exact h3;rw[<-h3];exact(KI ..).symm
theorem HR(h:bL as r=.ok vs r1)(hv:ds.map AV.val=vs)(hf:f (.ins c [] []::ds)=.ok .bB [d]):dr c f as r=.ok d r1:=by subst hv;rw[vB,h,aA];exact Ef c f ds d r1 hf
theorem Q1g(h:ds.map AV.val=vs):(d::ds).map AV.val=.val d::vs:=by rw[Pj,h]
theorem JB:([]:OK).map AV.val=[]:=rfl
theorem G4(e:o=some s)(h:free (some s)=true):free o=true:=by rw[e];exact h
end VP
end
section
set_option maxRecDepth 100000
set_option linter.all false
namespace LW
open PySem VP
def names:Ut:=(["given","even","turn","cut","drop","wide","spread","shape","shift","one","both","where","fold","run","pick","join","minus","half","none","add","less","times","least","most","below","alike","line","number","numbers","place","sides","many"]:Ut)
def nm(i:Nat):Str:=names.getD i ""
abbrev cI(i:Int):M D:=mC (.int i)
abbrev cS(i:Nat):M D:=mC (.str (nm i))
abbrev cT:M D:=mC (.bl true)
abbrev cF:M D:=mC (.bl false)
def qI:Ut:=[(nm 27),(nm 28),(nm 26)]
def mX:List (Str×D):=[((nm 9),.tup [.str (nm 16),.str (nm 17),.str (nm 18)]),((nm 10),.tup [.str (nm 19),.str (nm 20),.str (nm 21),.str (nm 22),.str (nm 23),.str (nm 24),.str (nm 25)]),((nm 12),.tup [.str (nm 19),.str (nm 21),.str (nm 22),.str (nm 23)])]
def Ay:Ut:=[]
def mY:List (Str×D):=[((nm 0),.tup [.str (nm 27)]),((nm 1),.tup [.str (nm 28),.str (nm 27)]),((nm 2),.tup [.str (nm 26),.str (nm 28)]),((nm 3),.tup [.str (nm 26),.str (nm 27),.str (nm 27),.str (nm 27),.str (nm 27)]),((nm 4),.tup [.str (nm 26),.str (nm 27),.str (nm 27)]),((nm 5),.tup [.str (nm 26),.str (nm 27)]),((nm 6),.tup [.str (nm 26),.str (nm 28)]),((nm 7),.tup [.str (nm 26),.str (nm 28)]),((nm 8),.tup [.str (nm 26),.str (nm 27),.str (nm 27),.str (nm 27)]),((nm 9),.tup [.str (nm 9),.str (nm 26)]),((nm 10),.tup [.str (nm 10),.str (nm 26),.str (nm 26)]),((nm 11),.tup [.str (nm 26),.str (nm 26),.str (nm 26)]),((nm 12),.tup [.str (nm 12),.str (nm 26),.str (nm 27)]),((nm 13),.tup [.str (nm 12),.str (nm 26),.str (nm 27)]),((nm 14),.tup [.str (nm 26),.str (nm 27),.str (nm 26)]),((nm 15),.tup [.str (nm 26),.str (nm 26),.str (nm 27)])]
def iI:Ut:=["Where"]
def br:Ut:=["Table"]
def dR:Ut:=["Both","Fold","One","Through"]
def G1:Ut:=["Work"]
def dN:Ut:=["One","Within"]
def oh:Ut:=["Weaver"]
def eO:Ut:=["Both","Where"]
def cG:Ut:=["Plan"]
def bZ:Ut:=["Fill","Fold","Load","Pick","Read","Through"]
def dO:Ut:=["Plan"]
def oi:Ut:=["Weaver"]
def ki:Ut:=["Even","Within"]
def oj:Ut:=["Joined","Within"]
def jd:Ut:=["Weaver"]
def dk:Ut:=["Both","Where"]
def qZ:Ut:=["Plan","Work"]
def G2:Ut:=["Work"]
def je:Ut:=["Fold","Pick","Through"]
def aO:Ut:=["Fill","Fold","Load","Pick","Table","Through","Weaver"]
def om:Ut:=["Fold","Joined","Within"]
def lL:Ut:=["Read"]
def lM:Ut:=["Read"]
def lN:Ut:=["Load"]
def dA:Ut:=["Fill","Fold","Through"]
noncomputable def fV:TX:=[("Both",true),("Even",false),("Joined",false),("One",false),("Read",false),("Where",false),("Within",false)]
noncomputable def iL:TX:=[("Both",false),("Even",true),("Joined",false),("One",false),("Read",false),("Where",false),("Within",false)]
noncomputable def lR:TX:=[("Fill",true),("Fold",false),("Load",false),("Pick",false),("Through",false)]
noncomputable def pD:TX:=[("Fill",false),("Fold",true),("Load",false),("Pick",false),("Through",false)]
noncomputable def jk:TX:=[("Both",false),("Even",false),("Joined",true),("One",false),("Read",false),("Where",false),("Within",false)]
noncomputable def gM:TX:=[("Fill",false),("Fold",false),("Load",true),("Pick",false),("Through",false)]
noncomputable def kj:TX:=[("Both",false),("Even",false),("Joined",false),("One",true),("Read",false),("Where",false),("Within",false)]
noncomputable def jW:TX:=[("Fill",false),("Fold",false),("Load",false),("Pick",true),("Through",false)]
noncomputable def cA:TX:=[("Both",false),("Even",false),("Joined",false),("One",false),("Read",true),("Where",false),("Within",false)]
noncomputable def iM:TX:=[("Table",true)]
noncomputable def gJ:TX:=[("Both",false),("Even",false),("Joined",false),("One",false),("Read",false),("Where",true),("Within",false)]
noncomputable def cz:TX:=[("Both",false),("Even",false),("Joined",false),("One",true),("Read",false),("Where",false),("Within",true)]
def kO:=ak (bc 1 (m2 cD (ag 1) (ag 2))) aH
def B2:=ak (bc 1 (cI 1)) (ak (fZ (fC (ag 0)) (aP 2) kO) (ak (aM (ag 1)) aH))
def kI:Fn:=defn 3 [false] B2
def yK:=ak (aM (zP xD ltI (cI 0) (ag 0) (cI 1000003))) aH
def oW:Fn:=defn 1 [false] yK
def eL:=zP xD xD (cI 0) (ag 1) (cI 64)
def Cz:=ak (bX (tZ (tB (m2 Dx (m1 bK (ag 0)) (cI 4))) (f6 (tB (m1 (mq true) (aY 1 (fC (ag 0)) (aP 1) (VP.ret true) eL))))) (ak (aM cF) aH) aH) (ak (aM (m2 xD (ax kI [.val (ag 0)]) (cI 4096))) aH)
def u6:Fn:=defn 1 [false] Cz
def gg:=ax oW [.val (ag 3)]
def Lo:=ak (bO 0 aO "sides" (m1 gb (ag 1))) (ak (bO 0 br "cells" (m1 hX (ag 2))) (ak (bX (f6 (tB (ax u6 [.val (m1 (aC aO "sides") (sY 0))]))) (ak a7 aH) aH) (ak (bX (tB (m2 nW (m1 bK (m1 (aC br "cells") (sY 0))) (ax kI [.val (m1 (aC aO "sides") (sY 0))]))) (ak a7 aH) aH) (ak (bX (f6 (tB (m1 (mq true) (aY 1 (fC (m1 (aC br "cells") (sY 0))) (aP 3) (VP.ret true) gg)))) (ak a7 aH) aH) aH))))
def lK:Fn:=defn 3 [true,false,false] Lo
def Q0i:=ak (bc 1 (m2 cD (ag 1) (ag 2))) aH
def JW:=ak (bc 1 (cI 1)) (ak (fZ (fC (ag 0)) (aP 2) Q0i) (ak (aM (ag 1)) aH))
def uU:Fn:=defn 3 [false] JW
def Cd:=ak (aM (iO (m1 (lQ "int") (ag 0)) (MK (f6 (tB (m1 (lQ "bool") (ag 0))))))) aH
def uX:Fn:=defn 1 [false] Cd
def gO:=ak (bX (f6 (tB (ax uX [.val (ag 2)]))) (ak (aM cF) aH) aH) aH
def Ca:=ak (bX (tZ (f6 (tB (m1 (lQ "tuple") (ag 0)))) (tB (m2 nW (m1 bK (ag 0)) (m1 bK (ag 1))))) (ak (aM cF) aH) aH) (ak (fZ (fC (ag 0)) (aP 2) gO) (ak (aM (m2 b7 (ag 0) (ag 1))) aH))
def uV:Fn:=defn 3 [false,false] Ca
def B8:=ak (bX (tZ (f6 (tB (m1 (bo iM) (ag 0)))) (f6 (tB (ax uV [.val (m1 (aC aO "sides") (ag 0)),.val (ag 1)])))) (ak (aM cF) aH) aH) (ak (aM (iO (m1 (lQ "list") (m1 (aC br "cells") (ag 0))) (ax uV [.val (m1 gb (m1 (aC br "cells") (ag 0))),.val (m1 gb (ag 2))]))) aH)
def oX:Fn:=defn 3 [false,false,false] B8
def B9:=ak (bc 4 (m2 dG (m2 eP (ag 0) (cI 7)) (ag 1))) (ak (bc 5 (m2 dG (m2 eP (ag 0) (cI 11)) (ag 1))) (ak (bc 6 (m2 dG (ag 0) (cI 7))) (ak (bX (tB (m2 b7 (ag 6) (cI 0))) (ak (aM (fX [(cS 9),(m2 aq (dQ [(cS 16),(cS 17),(cS 18)]) (m2 dG (m2 eP (ag 0) (cI 13)) (cI 3))),(ag 4)])) aH) aH) (ak (bX (tZ (tB (m2 b7 (ag 6) (cI 1))) (tB (m2 b7 (ag 6) (cI 2)))) (ak (bc 7 (m2 aq (dQ [(cS 19),(cS 20),(cS 21),(cS 22),(cS 23),(cS 24),(cS 25)]) (m2 dG (m2 eP (ag 0) (cI 13)) (cI 7)))) (ak (aM (fX [(cS 10),(ag 7),(m2 dh (ag 1) (cI 1)),(ag 5)])) aH)) aH) (ak (bX (tB (m2 b7 (ag 6) (cI 3))) (ak (aM (fX [(cS 8),(ag 4),(ag 3),(m2 dh (m2 dG (m2 eP (ag 0) (cI 13)) (cI 7)) (cI 3)),(m2 dG (m2 eP (ag 0) (cI 91)) (cI 1000003))])) aH) aH) (ak (bX (tB (m2 b7 (ag 6) (cI 4))) (ak (aM (fX [(cS 3),(m2 dh (ag 1) (cI 1)),(ag 3),(m2 dh (ag 2) (cI 1)),(m1 lU (cI 1)),(ag 2)])) aH) aH) (ak (bX (tB (m2 b7 (ag 6) (cI 5))) (ak (aM (fX [(cS 13),(m2 aq (dQ [(cS 19),(cS 21),(cS 22),(cS 23)]) (m2 dG (m2 eP (ag 0) (cI 13)) (cI 4))),(ag 5),(ag 3)])) aH) aH) (ak (aM (fX [(cS 11),(ag 5),(m2 dh (ag 1) (cI 1)),(ag 4)])) aH))))))))
def y7:Fn:=defn 8 [false,false,false,false] B9
def Cb:=ak (bc 2 (dB 0 (cI 1))) (ak (iw 0 (cI 1) (m2 cx (ag 2) (cI 1))) (ak (bX (tB (m2 ltI (ag 2) (m1 bK (dB 0 (cI 0))))) (ak (aM (m2 dG (m2 aq (dB 0 (cI 0)) (ag 2)) (ag 1))) aH) aH) (ak (aM (cI 0)) aH)))
def oY:Fn:=defn 3 [true,false] Cb
def Cc:=ak (bX (tZ (f6 (tB (m1 (lQ "tuple") (ag 0)))) (tB (m2 nW (m1 bK (ag 0)) (cI 2)))) (ak (aM cF) aH) aH) (ak (aM (iO (m1 (bo iM) (m2 aq (ag 0) (cI 0))) (iO (ax uX [.val (m2 aq (ag 0) (cI 1))]) (m2 QC (m2 aq (ag 0) (cI 1)) (cI 0))))) aH)
def uW:Fn:=defn 1 [false] Cc
def kY:=m2 (inD false) (ag 2) (m1 (Fy mX) (ag 1))
def Q20:=tB (m1 (ua false mX qI) (ag 1))
def JU:=ak (aM (m1 (mq true) (aY 2 (kE [(m1 (Fy mY) (m2 aq (ag 0) (cI 0))),(Gn uR (ag 0) (some (cI 1)) none)]) (cq [1,2]) Q20 kY))) aH
def Dg:Fn:=defn 1 [false] JU
def Cm:=ak (bX (tB (m2 b7 (m2 aq (ag 0) (cI 0)) (cS 1))) (ak a7 aH) aH) (ak (aM (Bb (m2 nW (m2 aq (ag 0) (cI 0)) (cS 8)) (ax oW [.val (m2 aq (ag 0) (cI 4))]))) aH)
def ze:Fn:=defn 1 [false] Cm
def qr:=ag 2
def qt:=tB (m2 b7 (ag 1) (cS 26))
def JX:=ak (aM (aY 2 (kE [(m1 (Fy mY) (m2 aq (ag 0) (cI 0))),(Gn uR (ag 0) (some (cI 1)) none)]) (cq [1,2]) qt qr)) aH
def o6:Fn:=defn 1 [false] JX
def cW:=zP xD ltI (cI 0) (ag 3) (ag 1)
def Ct:=ak (bX (tB (m2 b7 (m2 aq (ag 0) (cI 0)) (cS 0))) (ak (aM (zP xD ltI (cI 0) (m2 aq (ag 0) (cI 1)) (ag 2))) aH) aH) (ak (aM (m1 (mq true) (aY 1 (fC (ax o6 [.val (ag 0)])) (aP 3) (VP.ret true) cW))) aH)
def zj:Fn:=defn 3 [false,false,false] Ct
def JV:=ak (aM (zP xD ltI (cI 0) (ag 1) (m1 bK (ag 0)))) aH
def qR:Fn:=defn 2 [false,false] JV
def jL:=cI 1
def J3:=ak (aM (m2 cx (aY 1 (eY [(m2 dh (ag 1) (m1 bK (ag 0)))]) (aP 2) (VP.ret true) jL) (m1 hX (ag 0)))) aH
def zw:Fn:=defn 2 [false,false] J3
def dq:=ak (bX (qF (tB (m2 nW (ag 4) (ag 5))) (qF (tB (m2 nW (ag 4) (cI 1))) (tB (m2 nW (ag 5) (cI 1))))) (ak (aM (mC .bB)) aH) aH) (ak (l6 3 (vz (tB (m2 b7 (ag 4) (cI 1))) (ag 5) (ag 4))) aH)
def yM:=ak (bc 2 (mF maxD [(m1 bK (ag 0)),(m1 bK (ag 1))])) (ak (gu 3 (dQ [])) (ak (fZ (kE [(ax zw [.val (ag 0),.val (ag 2)]),(ax zw [.val (ag 1),.val (ag 2)])]) (cq [4,5]) dq) (ak (aM (m1 gb (sY 3))) aH)))
def pd:Fn:=defn 6 [false,false] yM
def B4:=ak (aM (iO (ax qR [.val (ag 0),.val (ag 1)]) (zP xD ltI (cI 0) (ag 2) (m2 aq (ag 0) (ag 1))))) aH
def uS:Fn:=defn 3 [false,false,false] B4
def JZ:=ak (aM (m2 cx (m2 cx (Gn uR (ag 0) none (some (ag 1))) (fX [(ag 2)])) (Gn uR (ag 0) (some (m2 cx (ag 1) (cI 1))) none))) aH
def qV:Fn:=defn 3 [false,false,false] JZ
def B3:=ak (bX (tZ (f6 (tB (ax qR [.val (ag 0),.val (ag 1)]))) (tZ (tB (m2 b7 (ag 3) (cI 0))) (tB (m2 ltI (ag 4) (cI 0))))) (ak (aM (mC .bB)) aH) aH) (ak (bX (qF (tB (m2 Dx (ag 4) (cI 0))) (f6 (qF (tB (ax uS [.val (ag 0),.val (ag 1),.val (ag 2)])) (tB (ax uS [.val (ag 0),.val (ag 1),.val (m2 cx (ag 2) (m2 cD (ag 3) (m2 dh (ag 4) (cI 1))))]))))) (ak (aM (mC .bB)) aH) aH) (ak (aM (ax qV [.val (ag 0),.val (ag 1),.val (ag 4)])) aH))
def yZ:Fn:=defn 5 [false,false,false,false,false] B3
def CD:=ak (bc 2 (m2 aq (ag 0) (cI 0))) (ak (bX (tB (m2 b7 (ag 2) (cS 2))) (ak a7 aH) aH) (ak (bX (tB (m2 b7 (ag 2) (cS 3))) (ak (aM (ax yZ [.val (ag 1),.val (m2 aq (ag 0) (cI 2)),.val (m2 aq (ag 0) (cI 3)),.val (m2 aq (ag 0) (cI 4)),.val (m2 aq (ag 0) (cI 5))])) aH) aH) (ak (bX (tB (m2 b7 (ag 2) (cS 4))) (ak a7 aH) aH) (ak (bX (tB (m2 b7 (ag 2) (cS 5))) (ak a7 aH) aH) (ak (bX (tB (m2 b7 (ag 2) (cS 6))) (ak a7 aH) aH) (ak a7 aH))))))
def zp:Fn:=defn 3 [false,false] CD
def CG:=ak (bc 3 (ax pd [.val (ag 0),.val (ag 1)])) (ak (aM (vz (tB (m2 isND (ag 3) (mC .bB))) (mC .bB) (ax pd [.val (ag 3),.val (ag 2)]))) aH)
def zt:Fn:=defn 4 [false,false,false] CG
def lB:=ak (bc 3 (m2 aq (ag 0) (cI 0))) (ak (bX (tB (m2 b7 (ag 3) (cS 0))) (ak (aM (m2 aq (ag 2) (m2 aq (ag 0) (cI 1)))) aH) aH) (ak (bX (tB (m2 b7 (ag 3) (cS 1))) (ak a7 aH) aH) (ak (bX (tB (m2 b7 (ag 3) (cS 9))) (ak (aM (dB 1 (m2 aq (ag 0) (cI 2)))) aH) aH) (ak (bX (tB (m2 b7 (ag 3) (cS 10))) (ak (aM (ax pd [.val (dB 1 (m2 aq (ag 0) (cI 2))),.val (dB 1 (m2 aq (ag 0) (cI 3)))])) aH) aH) (ak (bX (tB (m2 b7 (ag 3) (cS 11))) (ak (aM (ax zt [.val (dB 1 (m2 aq (ag 0) (cI 1))),.val (dB 1 (m2 aq (ag 0) (cI 2))),.val (dB 1 (m2 aq (ag 0) (cI 3)))])) aH) aH) (ak (bX (tB (m2 b7 (ag 3) (cS 12))) (ak a7 aH) aH) (ak (bX (tB (m2 b7 (ag 3) (cS 13))) (ak (aM (vz (tB (ax qR [.val (dB 1 (m2 aq (ag 0) (cI 2))),.val (m2 aq (ag 0) (cI 3))])) (dB 1 (m2 aq (ag 0) (cI 2))) (mC .bB))) aH) aH) (ak (bX (tB (m2 b7 (ag 3) (cS 14))) (ak a7 aH) aH) (ak (bX (tB (m2 b7 (ag 3) (cS 15))) (ak a7 aH) aH) (ak (bX (tB (m2 b7 (ag 3) (cS 8))) (ak (aM (vz (tB (ax qR [.val (dB 1 (m2 aq (ag 0) (cI 1))),.val (m2 aq (ag 0) (cI 2))])) (dB 1 (m2 aq (ag 0) (cI 1))) (mC .bB))) aH) aH) (ak (aM (ax zp [.val (ag 0),.val (dB 1 (m2 aq (ag 0) (cI 1)))])) aH)))))))))))
def kJ:Fn:=defn 4 [false,true,false] lB
def CA:=ak (bX (f6 (tB (ax zj [.val (ag 1),.val (m1 bK (sY 2)),.val (m1 bK (ag 3))]))) (ak a7 aH) aH) (ak (bX (f6 (tB (ax ze [.val (ag 1)]))) (ak a7 aH) aH) (ak (bc 4 (vz (tB (ax Dg [.val (ag 1)])) (ax kJ [.val (ag 1),.io 2,.val (ag 3)]) (mC .bB))) (ak (bX (tZ (tB (m2 isND (ag 4) (mC .bB))) (f6 (tB (ax u6 [.val (ag 4)])))) (ak a7 aH) aH) (ak (aM (ag 4)) aH))))
def zo:Fn:=defn 5 [false,false,true,false] CA
def ir:=ak (l6 2 (ax zo [.val (ag 3),.val (ag 4),.io 2,.val (ag 1)])) aH
def CB:=ak (bX (tB (m2 b7 (m1 bK (ag 0)) (cI 0))) (ak a7 aH) aH) (ak (bX (tB (m2 Dx (m1 bK (ag 0)) (cI 40))) (ak a7 aH) aH) (ak (gu 2 (dQ [])) (ak (fZ (kP [(ag 0)]) (cq [3,4]) ir) (ak (Bv 2 (aM (ag 2))) aH))))
def u7:Fn:=defn 5 [false,false] CB
def cN:=ak (l6 1 (ag 2)) (ak (bc 2 (m2 cD (ag 2) (ag 3))) aH)
def yO:=ak (gu 1 (dQ [])) (ak (bc 2 (cI 1)) (ak (fZ (HJ (ag 0)) (aP 3) cN) (ak (aM (m1 Br (sY 1))) aH)))
def iH:Fn:=defn 4 [false] yO
def kF:=m2 cD (ag 2) (ag 3)
def Cq:=ak (aM (m1 Bz (aY 2 (kE [(ax iH [.val (ag 0)]),(ag 1)]) (cq [2,3]) (VP.ret true) kF))) aH
def zh:Fn:=defn 2 [false,false] Cq
def Ln:=ak (aM (m2 aq (m1 (aC br "cells") (ag 0)) (ax zh [.val (m1 (aC aO "sides") (ag 0)),.val (ag 1)]))) aH
def xn:Fn:=defn 2 [false,false] Ln
def Co:=ak (aM (vz (tB (ag 0)) (cI 1) (cI 0))) aH
def qU:Fn:=defn 1 [false] Co
def B1:=ak (bX (tB (m2 b7 (ag 0) (cS 19))) (ak (aM (m2 dG (m2 cx (ag 1) (ag 2)) (cI 1000003))) aH) aH) (ak (bX (tB (m2 b7 (ag 0) (cS 20))) (ak (aM (m2 dG (m2 dh (ag 1) (ag 2)) (cI 1000003))) aH) aH) (ak (bX (tB (m2 b7 (ag 0) (cS 21))) (ak (aM (m2 dG (m2 cD (ag 1) (ag 2)) (cI 1000003))) aH) aH) (ak (bX (tB (m2 b7 (ag 0) (cS 22))) (ak (aM (mF minD [(ag 1),(ag 2)])) aH) aH) (ak (bX (tB (m2 b7 (ag 0) (cS 23))) (ak (aM (mF maxD [(ag 1),(ag 2)])) aH) aH) (ak (bX (tB (m2 b7 (ag 0) (cS 24))) (ak (aM (ax qU [.val (m2 ltI (ag 1) (ag 2))])) aH) aH) (ak (aM (ax qU [.val (m2 b7 (ag 1) (ag 2))])) aH))))))
def lJ:Fn:=defn 3 [false,false,false] B1
def Cn:=ak (bX (tB (m2 b7 (ag 0) (cS 16))) (ak (aM (m2 dG (m2 dh (cI 0) (ag 1)) (cI 1000003))) aH) aH) (ak (bX (tB (m2 b7 (ag 0) (cS 17))) (ak (aM (m2 eP (ag 1) (cI 2))) aH) aH) (ak (aM (ax qU [.val (m2 b7 (ag 1) (cI 0))])) aH))
def uY:Fn:=defn 2 [false,false] Cn
def uL:=ak (bc 5 (m2 dh (m2 aq (ag 4) (ag 1)) (ag 2))) (ak (aM (vz (tB (zP xD ltI (cI 0) (ag 5) (m2 aq (m1 (aC aO "sides") (ag 0)) (ag 1)))) (df "Table" "cell" xn (ag 0) [.val (ax qV [.val (ag 4),.val (ag 1),.val (ag 5)])]) (ag 3))) aH)
def qW:Fn:=defn 6 [false,false,false,false,false] uL
def fG:=vz (tB (m2 b7 (ag 3) (cI 1))) (cI 0) (ag 4)
def CF:=ak (bc 2 (Gn uR (ag 1) (some (m2 dh (m1 bK (ag 1)) (m1 bK (m1 (aC aO "sides") (ag 0))))) none)) (ak (aM (df "Table" "cell" xn (ag 0) [.val (m1 gb (aY 2 (kE [(m1 (aC aO "sides") (ag 0)),(ag 2)]) (cq [3,4]) (VP.ret true) fG))])) aH)
def pe:Fn:=defn 3 [false,false] CF
def CH:=ak (bc 3 (m2 aq (ag 0) (cI 0))) (ak (bX (tB (m2 b7 (ag 3) (cS 2))) (ak a7 aH) aH) (ak (bX (tB (m2 b7 (ag 3) (cS 3))) (ak (aM (df "Table" "cell" xn (ag 1) [.val (ax qV [.val (ag 2),.val (m2 aq (ag 0) (cI 2)),.val (m2 cx (m2 aq (ag 0) (cI 3)) (m2 cD (m2 aq (ag 0) (cI 4)) (m2 aq (ag 2) (m2 aq (ag 0) (cI 2)))))])])) aH) aH) (ak (bX (tB (m2 b7 (ag 3) (cS 4))) (ak a7 aH) aH) (ak (bX (tB (m2 b7 (ag 3) (cS 5))) (ak a7 aH) aH) (ak a7 aH)))))
def zu:Fn:=defn 4 [false,false,false] CH
def CK:=ak (aM (ax pe [.val (vz (tB (m2 nW (ax pe [.val (ag 0),.val (ag 3)]) (cI 0))) (ag 1) (ag 2)),.val (ag 3)])) aH
def zv:Fn:=defn 4 [false,false,false,false] CK
def oK:=ak (bc 4 (m2 aq (ag 0) (cI 0))) (ak (bX (tB (m2 b7 (ag 4) (cS 1))) (ak a7 aH) aH) (ak (bX (tB (m2 b7 (ag 4) (cS 9))) (ak (aM (ax uY [.val (m2 aq (ag 0) (cI 1)),.val (df "Table" "cell" xn (dB 2 (m2 aq (ag 0) (cI 2))) [.val (ag 3)])])) aH) aH) (ak (bX (tB (m2 b7 (ag 4) (cS 10))) (ak (aM (ax lJ [.val (m2 aq (ag 0) (cI 1)),.val (ax pe [.val (dB 2 (m2 aq (ag 0) (cI 2))),.val (ag 3)]),.val (ax pe [.val (dB 2 (m2 aq (ag 0) (cI 3))),.val (ag 3)])])) aH) aH) (ak (bX (tB (m2 b7 (ag 4) (cS 11))) (ak (aM (ax zv [.val (dB 2 (m2 aq (ag 0) (cI 1))),.val (dB 2 (m2 aq (ag 0) (cI 2))),.val (dB 2 (m2 aq (ag 0) (cI 3))),.val (ag 3)])) aH) aH) (ak (bX (tB (m2 b7 (ag 4) (cS 12))) (ak a7 aH) aH) (ak (bX (tB (m2 b7 (ag 4) (cS 14))) (ak a7 aH) aH) (ak (bX (tB (m2 b7 (ag 4) (cS 15))) (ak a7 aH) aH) (ak (bX (tB (m2 b7 (ag 4) (cS 8))) (ak (aM (ax qW [.val (dB 2 (m2 aq (ag 0) (cI 1))),.val (m2 aq (ag 0) (cI 2)),.val (m2 aq (ag 0) (cI 3)),.val (m2 aq (ag 0) (cI 4)),.val (ag 3)])) aH) aH) (ak (bX (tB (m2 b7 (ag 4) (cS 7))) (ak a7 aH) aH) (ak (aM (ax zu [.val (ag 0),.val (dB 2 (m2 aq (ag 0) (cI 1))),.val (ag 3)])) aH))))))))))
def nj:Fn:=defn 5 [false,false,true,false] oK
def dP:=ak (bc 5 (mF maxD [(ag 4),(cI 1)])) (ak (l6 2 (m2 eP (ag 3) (ag 5))) (ak (bc 3 (m2 dG (ag 3) (ag 5))) aH))
def yJ:=ak (gu 2 (dQ [])) (ak (bc 3 (ag 1)) (ak (fZ (fC (ax iH [.val (ag 0)])) (aP 4) dP) (ak (aM (m1 gb (sY 2))) aH)))
def qS:Fn:=defn 6 [false,false] yJ
def gh:=ax qS [.val (ag 0),.val (ag 1)]
def B5:=ak (aM (aY 1 (eY [(ax kI [.val (ag 0)])]) (aP 1) (VP.ret true) gh)) aH
def oV:Fn:=defn 1 [false] B5
def eW:=ak (bc 7 (m2 b7 (m2 aq (ax qS [.val (m1 (aC aO "sides") (ag 1)),.val (ag 5)]) (ag 2)) (cI 0))) (ak (l6 4 (vz (tB (ag 7)) (ag 6) (ax lJ [.val (ag 0),.val (dB 4 (m2 dh (ag 5) (ag 3))),.val (ag 6)]))) aH)
def Cy:=ak (bc 3 (m2 aq (ax iH [.val (m1 (aC aO "sides") (ag 1))]) (ag 2))) (ak (gu 4 (dQ [])) (ak (fZ (kP [(m1 (aC br "cells") (ag 1))]) (cq [5,6]) eW) (ak (Bv 4 (aM (ag 4))) aH)))
def zl:Fn:=defn 8 [false,false,false] Cy
def gj:=ax nj [.val (ag 0),.val (ag 1),.io 2,.val (ag 4)]
def uM:=ak (bX (tB (m2 b7 (m2 aq (ag 0) (cI 0)) (cS 0))) (ak (aM (dr "Table" lK [.val (ag 1),.val (m1 (aC br "cells") (m2 aq (ag 3) (m2 aq (ag 0) (cI 1))))])) aH) aH) (ak (bX (tB (m2 b7 (m2 aq (ag 0) (cI 0)) (cS 13))) (ak (aM (dr "Table" lK [.val (ag 1),.val (ax zl [.val (m2 aq (ag 0) (cI 1)),.val (dB 2 (m2 aq (ag 0) (cI 2))),.val (m2 aq (ag 0) (cI 3))])])) aH) aH) (ak (aM (dr "Table" lK [.val (ag 1),.val (aY 1 (fC (ax oV [.val (ag 1)])) (aP 4) (VP.ret true) gj)])) aH))
def qX:Fn:=defn 4 [false,false,true,false] uM
def eM:M D:=cF
def eX:=ak (iw 1 (ag 3) cT) aH
def de:=ak (bX (tB (dB 1 (ag 2))) (ak (fZ (fC (ax o6 [.val (m2 aq (ag 0) (ag 2))])) (aP 3) eX) aH) aH) aH
def CI:=ak (gu 1 (aY 1 (fC (ag 0)) (aP 4) (VP.ret true) eM)) (ak (iw 1 (m2 dh (m1 bK (ag 0)) (cI 1)) cT) (ak (fZ (Ec [(m2 dh (m1 bK (ag 0)) (cI 1)),(m1 lU (cI 1)),(m1 lU (cI 1))]) (aP 2) de) (ak (Bv 1 (aM (ag 1))) aH)))
def qY:Fn:=defn 4 [false] CI
def eK:=m1 (aC aO "sides") (ag 7)
def dc:=ak (l6 4 (vz (tB (m2 aq (ag 3) (ag 5))) (ax qX [.val (ag 6),.val (m2 aq (ag 2) (ag 5)),.io 4,.val (ag 1)]) (mC .bB))) aH
def Cu:=ak (bc 2 (ax u7 [.val (ag 0),.val (aY 1 (fC (ag 1)) (aP 7) (VP.ret true) eK)])) (ak (bc 3 (ax qY [.val (ag 0)])) (ak (gu 4 (dQ [])) (ak (fZ (kP [(ag 0)]) (cq [5,6]) dc) (ak (aM (dB 4 (m1 lU (cI 1)))) aH))))
def uZ:Fn:=defn 7 [false,false] Cu
def Qe:=ak (bO 0 dO "loops" (m1 hX (ag 1))) (ak (bO 0 qZ "row_of" (m1 qQ (ag 2))) (ak (bO 0 cG "lengths" (m1 hX (ag 3))) aH))
def LJ:Fn:=defn 4 [true,false,false,false] Qe
def yN:=ak (aM (iO (m2 (inD false) (m2 aq (m2 aq (ag 0) (ag 2)) (cI 0)) (fX [(cS 6),(cS 10),(cS 11)])) (m2 nW (m2 aq (ag 1) (ag 2)) (m2 aq (ag 1) (ag 3))))) aH
def zq:Fn:=defn 4 [false,false,false,false] yN
def i6:=m2 (inD false) (m2 aq (m2 aq (ag 0) (ag 5)) (cI 0)) (fX [(cS 7),(cS 14)])
def i7:=ax zq [.val (ag 0),.val (ag 1),.val (ag 5),.val (ag 2)]
def B6:=ak (bc 4 (m2 aq (m2 aq (ag 0) (ag 2)) (cI 0))) (ak (bX (tZ (tB (m2 b7 (ag 2) (m2 dh (m1 bK (ag 0)) (cI 1)))) (tB (m2 (inD false) (ag 4) (fX [(cS 0),(cS 12),(cS 13),(cS 14)])))) (ak (aM cT) aH) aH) (ak (bX (tB (m1 (mq false) (aY 1 (fC (ag 3)) (aP 5) (VP.ret true) i6))) (ak (aM cT) aH) aH) (ak (bX (tB (m2 b7 (ag 4) (cS 1))) (ak a7 aH) aH) (ak (aM (Bb (m2 Dx (m1 bK (ag 3)) (cI 1)) (m1 (mq false) (aY 1 (fC (ag 3)) (aP 5) (VP.ret true) i7)))) aH))))
def y4:Fn:=defn 5 [false,false,false,false] B6
def eJ:=ag 4
def eN:=tB (m2 b7 (ag 6) (ag 2))
def c9:=ak (bX (tB (m2 aq (ag 1) (ag 4))) (ak (Ff 3 (aY 1 (fC (ax o6 [.val (ag 5)])) (aP 6) eN eJ)) aH) aH) aH
def Cj:=ak (gu 3 (dQ [])) (ak (fZ (kP [(ag 0)]) (cq [4,5]) c9) (ak (Bv 3 (aM (ag 3))) aH))
def zc:Fn:=defn 6 [false,false,false] Cj
def dS:=ak (l6 3 (iO (m2 aq (ag 2) (ag 4)) (ax y4 [.val (ag 0),.val (ag 1),.val (ag 4),.val (ax zc [.val (ag 0),.val (ag 2),.val (ag 4)])]))) aH
def B7:=ak (bc 2 (ax qY [.val (ag 0)])) (ak (gu 3 (dQ [])) (ak (fZ (kP [(ag 0)]) (cq [4,5]) dS) (ak (Bv 3 (aM (ag 3))) aH)))
def uT:Fn:=defn 6 [false,false] B7
def gi:=cI 0
def dU:=ak (bc 4 (m2 lG (ag 1) (m1 (aC bZ "line") (ag 3)))) (ak (iw 2 (ag 4) (mF maxD [(dB 2 (ag 4)),(ax kI [.val (m1 (aC aO "sides") (ag 3))])])) aH)
def Cf:=ak (gu 2 (aY 1 (eY [(m2 cx (m1 nB (ag 1)) (cI 1))]) (aP 5) (VP.ret true) gi)) (ak (fZ (fC (ag 0)) (aP 3) dU) (ak (Bv 2 (aM (ag 2))) aH))
def y9:Fn:=defn 5 [false,false] Cf
def Qc:=ak (bO 0 bZ "line" (ag 1)) (ak (bO 0 aO "sides" (ag 2)) aH)
def G0:Fn:=defn 3 [true,false,false] Qc
def Qa:=ak (Af (ax G0 [.io 0,.val (ag 1),.val (ag 2)])) (ak (bO 0 dA "tree" (ag 3)) aH)
def LG:Fn:=defn 4 [true,false,false,false] Qa
def Qb:=ak (Af (ax G0 [.io 0,.val (ag 1),.val (ag 2)])) (ak (bO 0 lN "table" (ag 3)) aH)
def LH:Fn:=defn 4 [true,false,false,false] Qb
def Qg:=ak (Af (ax G0 [.io 0,.val (ag 1),.val (ag 2)])) (ak (bO 0 je "side" (ag 3)) (ak (bO 0 dR "deed" (ag 4)) (ak (bO 0 dA "tree" (ag 5)) aH)))
def LM:Fn:=defn 6 [true,false,false,false,false,false] Qg
def JR:=ak (bO 0 jd "program" (ag 1)) (ak (bO 0 aO "sides" (ag 2)) (ak (bO 0 oh "kept" (ag 3)) (ak (bO 0 oi "many" (ag 4)) aH)))
def C8:Fn:=defn 5 [true,false,false,false,false] JR
def P9:=ak (bO 0 dR "deed" (ag 1)) (ak (bO 0 eO "left" (ag 2)) (ak (bO 0 dk "right" (ag 3)) aH))
def LF:Fn:=defn 4 [true,false,false,false] P9
def Qd:=ak (bO 0 dR "deed" (ag 1)) (ak (bO 0 dN "inner" (ag 2)) aH)
def LI:Fn:=defn 3 [true,false,false] Qd
def Qf:=ak (bO 0 bZ "line" (ag 1)) (ak (bO 0 lL "start" (ag 2)) (ak (bO 0 lM "steps" (ag 3)) aH))
def LK:Fn:=defn 4 [true,false,false,false] Qf
def jD:=cI 0
def cM:=ak (bc 3 (m2 cx (ag 3) (m2 cD (m2 aq (ag 5) (cI 0)) (ag 6)))) (ak (bX (tB (m2 nW (m2 aq (ag 5) (cI 1)) (m1 lU (cI 1)))) (ak (iw 4 (m2 aq (ag 5) (cI 1)) (m2 cx (dB 4 (m2 aq (ag 5) (cI 1))) (m2 cD (m2 aq (ag 5) (cI 2)) (ag 6)))) aH) aH) aH)
def yL:=ak (bc 3 (cI 0)) (ak (gu 4 (aY 1 (eY [(ag 2)]) (aP 7) (VP.ret true) jD)) (ak (fZ (kE [(ag 0),(ag 1)]) (cq [5,6]) cM) (ak (aM (fX [(ag 3),(m1 gb (sY 4))])) aH)))
def u5:Fn:=defn 7 [false,false,false] yL
def BX:=ak (bc 4 (ax u5 [.val (ag 2),.val (ax iH [.val (ag 3)]),.val (m1 (aC oi "many") (ag 0))])) (ak (aM (dr "Read" LK [.val (ag 1),.val (m2 aq (ag 4) (cI 0)),.val (m2 aq (ag 4) (cI 1))])) aH)
def yV:Fn:=defn 5 [false,false,false,false] BX
def JT:=ak (bO 0 oj "part" (ag 1)) (ak (bO 0 om "size" (ag 2)) (ak (bO 0 dN "inner" (ag 3)) (ak (bO 0 ki "number" (ag 4)) aH)))
def Df:Fn:=defn 5 [true,false,false,false,false] JT
def JY:=ak (aM (fX [(ag 0),(m1 lU (cI 1)),(cI 0)])) aH
def Di:Fn:=defn 1 [false] JY
def Cp:=ak (bc 3 (m2 cx (ag 1) (m2 cD (ag 2) (m2 aq (ag 0) (cI 0))))) (ak (bX (tB (m2 b7 (m2 cD (ag 2) (m2 aq (ag 0) (cI 2))) (cI 0))) (ak (aM (ax Di [.val (ag 3)])) aH) aH) (ak (aM (fX [(ag 3),(m2 aq (ag 0) (cI 1)),(m2 cD (ag 2) (m2 aq (ag 0) (cI 2)))])) aH))
def zg:Fn:=defn 4 [false,false,false] Cp
def CJ:=ak (gu 4 (m1 hX (ag 0))) (ak (iw 4 (ag 1) (ax zg [.val (m2 aq (ag 0) (ag 1)),.val (ag 2),.val (ag 3)])) (ak (Bv 4 (aM (ag 4))) aH))
def u9:Fn:=defn 5 [false,false,false,false] CJ
def nN:=vz (tB (m2 b7 (ag 3) (cI 1))) (ax Di [.val (cI 0)]) (ag 4)
def J2:=ak (bc 2 (Gn uR (ag 0) (some (m2 dh (m1 bK (ag 0)) (m1 bK (ag 1)))) none)) (ak (aM (aY 2 (kE [(ag 1),(ag 2)]) (cq [3,4]) (VP.ret true) nN)) aH)
def Dj:Fn:=defn 3 [false,false] J2
def JS:=ak (bO 0 iI "asked" (ag 1)) (ak (bO 0 eO "left" (ag 2)) (ak (bO 0 dk "right" (ag 3)) aH))
def De:Fn:=defn 4 [true,false,false,false] JS
def uI(w:Nat->Fn):=ak (bX (tB (m2 aq (m1 (aC oh "kept") (ag 0)) (ag 1))) (ak (aM (df "Weaver" "row_read" yV (ag 0) [.val (ag 1),.val (ag 2),.val (m2 aq (m1 (aC aO "sides") (ag 0)) (ag 1))])) aH) aH) (ak (aM (df "Weaver" "tree_made" (w 1) (ag 0) [.val (ag 1),.val (ag 2)])) aH)
def nh(w:Nat->Fn):=ak (bc 3 (m2 aq (m1 (aC jd "program") (ag 0)) (ag 1))) (ak (bc 4 (m2 aq (ag 3) (cI 0))) (ak (bX (tB (m2 b7 (ag 4) (cS 1))) (ak a7 aH) aH) (ak (bX (tB (m2 b7 (ag 4) (cS 9))) (ak (aM (dr "One" LI [.val (m2 aq (ag 3) (cI 1)),.val (df "Weaver" "tree_named" (w 0) (ag 0) [.val (m2 aq (ag 3) (cI 2)),.val (ag 2)])])) aH) aH) (ak (bX (tB (m2 b7 (ag 4) (cS 10))) (ak (aM (dr "Both" LF [.val (m2 aq (ag 3) (cI 1)),.val (df "Weaver" "tree_spread" (w 3) (ag 0) [.val (m2 aq (ag 3) (cI 2)),.val (ag 2)]),.val (df "Weaver" "tree_spread" (w 3) (ag 0) [.val (m2 aq (ag 3) (cI 3)),.val (ag 2)])])) aH) aH) (ak (bX (tB (m2 b7 (ag 4) (cS 11))) (ak (aM (dr "Where" De [.val (df "Weaver" "tree_spread" (w 3) (ag 0) [.val (m2 aq (ag 3) (cI 1)),.val (ag 2)]),.val (df "Weaver" "tree_spread" (w 3) (ag 0) [.val (m2 aq (ag 3) (cI 2)),.val (ag 2)]),.val (df "Weaver" "tree_spread" (w 3) (ag 0) [.val (m2 aq (ag 3) (cI 3)),.val (ag 2)])])) aH) aH) (ak (bX (tB (m2 b7 (ag 4) (cS 8))) (ak (aM (df "Weaver" "tree_shifted" (w 4) (ag 0) [.val (m2 aq (ag 3) (cI 1)),.val (m2 aq (ag 3) (cI 2)),.val (m2 aq (ag 3) (cI 3)),.val (m2 aq (ag 3) (cI 4)),.val (ag 2)])) aH) aH) (ak (bX (tB (m2 b7 (ag 4) (cS 15))) (ak a7 aH) aH) (ak (bX (tB (m2 b7 (ag 4) (cS 7))) (ak a7 aH) aH) (ak (aM (df "Weaver" "tree_viewed" (w 2) (ag 0) [.val (ag 3),.val (ag 2)])) aH)))))))))
def yI(w:Nat->Fn):=ak (bc 3 (m2 aq (ag 1) (cI 0))) (ak (bX (tB (m2 b7 (ag 3) (cS 2))) (ak a7 aH) aH) (ak (bX (tB (m2 b7 (ag 3) (cS 3))) (ak (aM (df "Weaver" "tree_named" (w 0) (ag 0) [.val (m2 aq (ag 1) (cI 1)),.val (ax u9 [.val (ag 2),.val (m2 aq (ag 1) (cI 2)),.val (m2 aq (ag 1) (cI 3)),.val (m2 aq (ag 1) (cI 4))])])) aH) aH) (ak (bX (tB (m2 b7 (ag 3) (cS 4))) (ak a7 aH) aH) (ak (bX (tB (m2 b7 (ag 3) (cS 5))) (ak a7 aH) aH) (ak a7 aH)))))
def yH(w:Nat->Fn):=ak (aM (df "Weaver" "tree_named" (w 0) (ag 0) [.val (ag 1),.val (ax Dj [.val (ag 2),.val (m2 aq (m1 (aC aO "sides") (ag 0)) (ag 1))])])) aH
def yG(w:Nat->Fn):=ak (bc 6 (ax u9 [.val (ag 5),.val (ag 2),.val (m1 lU (ag 3)),.val (cI 1)])) (ak (aM (dr "Within" Df [.val (m2 aq (ag 6) (ag 2)),.val (m2 aq (m2 aq (m1 (aC aO "sides") (ag 0)) (ag 1)) (ag 2)),.val (df "Weaver" "tree_named" (w 0) (ag 0) [.val (ag 1),.val (ag 6)]),.val (ag 4)])) aH)
def iB:Nat->Nat->Fn|0=>fun _ _=>.no|n+1=>fun i=>match i with|0=>defn 3 [false,false,false] (uI (iB n))|1=>defn 5 [false,false,false] (nh (iB n))|2=>defn 4 [false,false,false] (yI (iB n))|3=>defn 3 [false,false,false] (yH (iB n))|4=>defn 7 [false,false,false,false,false,false] (yG (iB n))|_=>fun _=>.no
def Dd:Fn:=iB 180 0
def C9:Fn:=iB 180 1
def lD:=fX [(cI 0),(ag 1),(cI 1)]
def J1:=ak (aM (aY 1 (eY [(ag 0)]) (aP 1) (VP.ret true) lD)) aH
def zr:Fn:=defn 1 [false] J1
def uK:=ak (bc 4 (m2 aq (ag 0) (ag 3))) (ak (bc 5 (m2 aq (ag 1) (ag 3))) (ak (bc 6 (m2 aq (ag 4) (cI 0))) (ak (bX (tB (m2 b7 (ag 6) (cS 0))) (ak (aM (dr "Load" LH [.val (ag 3),.val (ag 5),.val (m2 aq (ag 4) (cI 1))])) aH) aH) (ak (bX (tB (m2 b7 (ag 6) (cS 14))) (ak a7 aH) aH) (ak (bX (tB (m2 b7 (ag 6) (cS 12))) a7 aH) (ak (bc 9 (dr "Weaver" C8 [.val (ag 0),.val (ag 1),.val (ag 2),.val (m1 bK (ag 5))])) (ak (bX (tB (m2 b7 (ag 6) (cS 13))) (ak (aM (dr "Through" LM [.val (ag 3),.val (ag 5),.val (m2 aq (ag 4) (cI 3)),.val (m2 aq (ag 4) (cI 1)),.val (df "Weaver" "tree_named" Dd (ag 9) [.val (m2 aq (ag 4) (cI 2)),.val (ax zr [.val (m1 bK (ag 5))])])])) aH) aH) (ak (aM (dr "Fill" LG [.val (ag 3),.val (ag 5),.val (df "Weaver" "tree_made" C9 (ag 9) [.val (ag 3),.val (ax zr [.val (m1 bK (ag 5))])])])) aH))))))))
def oZ:Fn:=defn 10 [false,false,false,false] uK
def jB(w:Nat->Fn):=ak (bX (tB (m1 (bo cA) (ag 0))) (ak (aM (dQ [(m1 (aC bZ "line") (ag 0))])) aH) aH) (ak (bX (tB (m1 (bo cz) (ag 0))) (ak (aM (ax (w 0) [.val (m1 (aC dN "inner") (ag 0))])) aH) aH) (ak (bX (tB (m1 (bo fV) (ag 0))) (ak (aM (m2 cx (ax (w 0) [.val (m1 (aC eO "left") (ag 0))]) (ax (w 0) [.val (m1 (aC dk "right") (ag 0))]))) aH) aH) (ak (bX (tB (m1 (bo gJ) (ag 0))) (ak (aM (m2 cx (m2 cx (ax (w 0) [.val (m1 (aC iI "asked") (ag 0))]) (ax (w 0) [.val (m1 (aC eO "left") (ag 0))])) (ax (w 0) [.val (m1 (aC dk "right") (ag 0))]))) aH) aH) (ak (bX (tB (m1 (bo jk) (ag 0))) (ak a7 aH) aH) (ak (aM (dQ [])) aH)))))
def wU:Nat->Nat->Fn|0=>fun _ _=>.no|n+1=>fun i=>match i with|0=>defn 1 [false] (jB (wU n))|_=>fun _=>.no
def Dh:Fn:=wU 180 0
def Cg:=ak (bX (tB (m1 (bo gM) (ag 0))) (ak (aM (dQ [])) aH) aH) (ak (bX (tB (m1 (bo jW) (ag 0))) (ak a7 aH) aH) (ak (aM (ax Dh [.val (m1 (aC dA "tree") (ag 0))])) aH))
def qT:Fn:=defn 1 [false] Cg
def d3:=ak (Ai 1 (ag 4) (ag 2)) aH
def d6:=ak (fZ (fC (ax qT [.val (ag 3)])) (aP 4) d3) aH
def Ce:=ak (gu 1 (mC (.fP [] []))) (ak (fZ (kP [(ag 0)]) (cq [2,3]) d6) (ak (Bv 1 (aM (ag 1))) aH))
def y8:Fn:=defn 5 [false] Ce
def cL:=tB (m2 (inD false) (ag 1) (ag 0))
def cK:=ak (bc 1 (m2 cx (ag 1) (cI 1))) aH
def Ci:=ak (bc 1 (cI 0)) (ak (tU cL cK) (ak (aM (ag 1)) aH))
def za:Fn:=defn 2 [false] Ci
def gE:=m2 lG (ag 2) (ag 6)
def gF:=tB (m2 QC (m2 lG (ag 1) (ag 6)) (ag 3))
def gG:=ak (bc 5 (pL (aY 1 (vA (ag 2)) (aP 6) gF gE))) (ak (Ai 2 (m1 (aC bZ "line") (ag 4)) (ax za [.val (ag 5)])) aH)
def Cw:=ak (bc 1 (ax y8 [.val (ag 0)])) (ak (gu 2 (mC (.fP [] []))) (ak (fZ (kP [(ag 0)]) (cq [3,4]) gG) (ak (Bv 2 (aM (ag 2))) aH)))
def zk:Fn:=defn 6 [false] Cw
def i8:=ax oZ [.val (ag 0),.val (ag 2),.val (ag 3),.val (ag 6)]
def jc:=tB (m2 aq (ag 3) (ag 6))
def Cv:=ak (bc 2 (ax u7 [.val (ag 0),.val (ag 1)])) (ak (bc 3 (ax uT [.val (ag 0),.val (ag 2)])) (ak (bc 4 (aY 1 (eY [(m1 bK (ag 0))]) (aP 6) jc i8)) (ak (bc 5 (ax zk [.val (ag 4)])) (ak (aM (dr "Plan" LJ [.val (ag 4),.val (ag 5),.val (ax y9 [.val (ag 4),.val (ag 5)])])) aH))))
def u0:Fn:=defn 6 [false,false] Cv
def Ck:=ak (bX (tB (m2 b7 (m2 aq (ag 0) (cI 1)) (m1 lU (cI 1)))) (ak (aM (m2 aq (ag 0) (cI 0))) aH) aH) (ak (aM (m2 cx (m2 aq (ag 0) (cI 0)) (m2 cD (m2 aq (ag 0) (cI 2)) (m2 aq (ag 1) (m2 aq (ag 0) (cI 1)))))) aH)
def zd:Fn:=defn 2 [false,false] Ck
def jC:=m2 cD (ag 3) (ag 4)
def Cr:=ak (aM (m2 cx (ag 0) (m1 Bz (aY 2 (kE [(ag 1),(ag 2)]) (cq [3,4]) (VP.ret true) jC)))) aH
def zi:Fn:=defn 3 [false,false,false] Cr
def fS(w:Ga):WM:=(bh (fN (tB (m1 (bo cA) (ag 1))) (bh (jJ (Ar (m1 (aC bZ "line") (ag 1)) (ax zi [.val (m1 (aC lL "start") (ag 1)),.val (m1 (aC lM "steps") (ag 1)),.val (ag 2)])))
 fq)
 fq)
 (bh (fN (tB (m1 (bo iL) (ag 1))) (fun _ _=>none)
 fq)
 (bh (fN (tB (m1 (bo kj) (ag 1))) (bh nE
 (bh (jJ (ma uY 2 (bt [(wP (m1 (aC dR "deed") (ag 1))),(bT w 2 (bt [(wP (m1 (aC dN "inner") (ag 1))),(wP (ag 2))]))])))
 fq))
 fq)
 (bh (fN (tB (m1 (bo fV) (ag 1))) (bh nE
 (bh (jJ (ma lJ 3 (bt [(wP (m1 (aC dR "deed") (ag 1))),(bT w 2 (bt [(wP (m1 (aC eO "left") (ag 1))),(wP (ag 2))])),(bT w 2 (bt [(wP (m1 (aC dk "right") (ag 1))),(wP (ag 2))]))])))
 fq))
 fq)
 (bh (fN (tB (m1 (bo gJ) (ag 1))) (bh nE
 (bh (gX 3 (bT w 2 (bt [(wP (m1 (aC iI "asked") (ag 1))),(wP (ag 2))])))
 (bh (jJ (bT w 2 (bt [(wP (vz (tB (m2 nW (ag 3) (cI 0))) (m1 (aC eO "left") (ag 1)) (m1 (aC dk "right") (ag 1)))),(wP (ag 2))])))
 fq)))
 fq)
 (bh (fN (tB (m1 (bo jk) (ag 1))) (fun _ _=>none)
 fq)
 (bh (gX 4 (wP (zP xD ltI (cI 0) (ax zd [.val (m1 (aC oj "part") (ag 1)),.val (ag 2)]) (m1 (aC om "size") (ag 1)))))
 (bh (jJ (Gs (tB (ag 4)) (bT w 2 (bt [(wP (m1 (aC dN "inner") (ag 1))),(wP (ag 2))])) (wP (m1 (aC ki "number") (ag 1)))))
 fq))))))))
def c6:Nat->Ga|0=>fun _ _ _=>none|n+1=>dE 5 (fS (c6 n))
def jQ:Ga:=c6 180
def BY:WM:=(bh (wF 2 (m1 (aC bZ "line") (ag 1)))
 (bh (nG (ax oV [.val (m1 (aC aO "sides") (ag 1))]) 3 4
 (bh (mf (ag 3) (bT jQ 2 (bt [(wP (m1 (aC dA "tree") (ag 1))),(wP (ag 4))])))
 fq))
 fq))
def yW:Ga:=dE 5 BY
def BZ:WM:=(bh (wF 3 (m1 (aC bZ "line") (ag 1)))
 (bh (nG (m1 (aC br "cells") (m2 aq (ag 2) (m1 (aC lN "table") (ag 1)))) 4 5
 (bh (mf (ag 4) (wP (ag 5)))
 fq))
 fq))
def yX:Ga:=dE 6 BZ
def B0:WM:=(bh (wF 2 (m1 (aC bZ "line") (ag 1)))
 (bh (gX 3 (wP (m2 aq (ax iH [.val (m1 (aC aO "sides") (ag 1))]) (m1 (aC je "side") (ag 1)))))
 (bh (nG (ax oV [.val (m1 (aC aO "sides") (ag 1))]) 4 5
 (bh (gX 6 (bT jQ 2 (bt [(wP (m1 (aC dA "tree") (ag 1))),(wP (ag 5))])))
 (bh (mf (ag 4) (Gs (tB (m2 b7 (m2 aq (ag 5) (m1 (aC je "side") (ag 1))) (cI 0))) (wP (ag 6)) (ma lJ 3 (bt [(wP (m1 (aC dR "deed") (ag 1))),(yw (m2 dh (ag 4) (ag 3))),(wP (ag 6))]))))
 fq)))
 fq)))
def yY:Ga:=dE 7 B0
def uJ:WM:=(bh (fN (tB (m1 (bo gM) (ag 1))) (bh (n4 (bT yX 2 (bt [(wP (ag 1)),(wP (ag 2))])))
 fq)
 (bh (fN (tB (m1 (bo lR) (ag 1))) (bh (n4 (bT yW 1 (bt [(wP (ag 1))])))
 fq)
 (bh (fN (tB (m1 (bo pD) (ag 1))) (fun _ _=>none)
 (bh (fN (tB (m1 (bo jW) (ag 1))) (fun _ _=>none)
 (bh (n4 (bT yY 1 (bt [(wP (ag 1))])))
 fq))
 fq))
 fq))
 fq))
 fq)
def lI:Ga:=dE 3 uJ
def J0:WM:=(bh (wD (m1 (aC dO "loops") (ag 0)) 3
 (bh (n4 (bT lI 2 (bt [(wP (ag 3)),(wP (ag 1))])))
 fq))
 (bh (gX 4 (wP (m2 aq (m1 (aC dO "loops") (ag 0)) (m1 lU (cI 1)))))
 (bh (gX 5 (FO (m1 (aC bZ "line") (ag 4)) (ax kI [.val (m1 (aC aO "sides") (ag 4))])))
 (bh (jJ (JH (bt [(wP (dr "Table" lK [.val (m1 (aC aO "sides") (ag 4)),.val (ag 5)])),UI])))
 fq))))
def zm:Fn:=C6 qh 4 J0
def fW:=ak (bc 9 (m2 cx (ax oY [.io 1,.val (m2 IH (cI 10) (cI 9))]) (m2 cD (m2 cD (ag 3) (m2 cx (ag 8) (cI 1))) (cI 48271)))) (ak (l6 7 (ax y7 [.val (ag 9),.val (m2 cx (ag 8) (cI 1)),.val (m2 aq (ag 5) (ag 6)),.val (ag 6)])) aH)
def lC:=m2 dG (m2 cx (ag 3) (m2 cD (m2 cD (cI 7919) (ag 15)) (ag 15))) (cI 1000003)
def yF:=ak (gu 1 (dQ [(ag 0),(cI 0)])) (ak (bc 2 (ax oY [.io 1,.val (cI 4)])) (ak (bc 3 (ax oY [.io 1,.val (cI 1000003)])) (ak (bc 4 (m2 cx (cI 12) (ax oY [.io 1,.val (cI 29)]))) (ak (bc 5 (fX [(m2 cx (cI 2) (m2 dG (ag 3) (cI 3)))])) (ak (bX (tB (m2 Dx (ag 2) (cI 1))) (ak (bc 4 (m2 cx (cI 2) (m2 dG (ag 4) (cI 3)))) (ak (bc 5 (m2 aq (dQ [(fX [(m2 cx (cI 40) (m2 dG (ag 3) (cI 25)))]),(fX [(m2 cx (cI 2) (m2 dG (ag 3) (cI 3))),(cI 16)])]) (m2 dh (ag 2) (cI 2)))) aH)) aH) (ak (bc 6 (m2 dh (m1 bK (ag 5)) (cI 1))) (ak (gu 7 (dQ [(fX [(cS 0),(cI 0)])])) (ak (fZ (eY [(m2 dh (ag 4) (cI 1))]) (aP 8) fW) (ak (bc 10 (aY 1 (eY [(ax uU [.val (ag 5)])]) (aP 15) (VP.ret true) lC)) (ak (bc 11 (dr "Table" lK [.val (ag 5),.val (ag 10)])) (ak (bc 12 (ax u0 [.val (m1 hX (sY 7)),.val (dQ [(ag 5)])])) (ak (bc 13 (ax zm [.val (ag 12),.val (dQ [(ag 11)])])) (ak (bc 14 (ax uZ [.val (m1 hX (sY 7)),.val (dQ [(ag 11)])])) (ak (bX (tZ (f6 (tB (ax uW [.val (ag 13)]))) (tZ (f6 (tB (ax oX [.val (m2 aq (ag 13) (cI 0)),.val (ag 5),.val (m1 (aC br "cells") (ag 14))]))) (f6 (tB (ax oX [.val (ag 11),.val (ag 5),.val (ag 10)]))))) (ak (aM cF) aH) aH) (ak (aM (iO (m2 xD (m1 bK (m1 (aC cG "lengths") (ag 12))) (m1 bK (m1 (aC dO "loops") (ag 12)))) (m2 b7 (m1 (aC cG "lengths") (ag 12)) (m2 mulL (dQ [(m1 bK (ag 10))]) (m1 bK (m1 (aC cG "lengths") (ag 12))))))) aH)))))))))))))))
def C7:Fn:=defn 15 [false] yF
noncomputable def cell(ns:ZX)(k:Nat):Int:=ns.getD k 0
def Row(ns:ZX)(p:Nat):D:=.lst [Z ns,.int p]
theorem l8(ns:ZX)(p:Nat)(m:Int)(h:0<m):oY [Row ns p,.int m]=.ok (.int (cell ns p % m)) [Row ns (p+1)]:=by rw[oY,bG _ _ _ _ rfl];unfold Cb cell Row;have i0:∀(j:Int),ux [Z ns,.int j] 0=some (Z ns):=fun _=>rfl;have i1:∀(j:Int),ux [Z ns,.int j] 1=some (.int j):=fun _=>rfl;have st:∀(i j:Int),setAt (.int 1) (.int j) (.lst [Z ns,.int i])=some (.lst [Z ns,.int j]):=fun _ _=>rfl;by_cases hp:p<ns.length;have e:=Ho ns p Ug Ug;simp[i0,i1,st,hp,e,fY _ _ h];have XN:¬(p:Int)<ns.length:=Ug;have g:ns[p]?=none:=Nd Ug;simp[i0,i1,st,hp,g]
theorem pO:names.all tX=true/\names.Nodup:=⟨by decide +kernel,by decide +kernel⟩
theorem pP{i:Nat}(h:i<names.length):nm i=names[i]:=by simp[nm,h]
theorem LC(i j:Nat)(hi:i<names.length)(hj:j<names.length):b7 (.str (nm i)) (.str (nm j))=some (.bl (decide (i=j))):=by
 have f:∀k,k<names.length->tX (nm k)=true:=fun k h=>by rw[pP h];exact List.all_eq_true.mp pO.1 _ (Bt h)
 have e:(nm i == nm j)=decide (i=j):=by rw[pP hi,pP hj];by_cases h:i=j;subst h;simp;have:names[i]≠names[j]:=fun z=>h ((Be pO.2).mp z);simp[h,this]
 simp[b7,VP.plain,f i hi,f j hj,J9,e]
theorem Uo:32<=names.length:=by decide
theorem BN(i j:Nat)(hi:i<32)(hj:j<32):b7 (.str (nm i)) (.str (nm j))=some (.bl (decide (i=j))):=LC i j (XZ hi Uo) (XZ hj Uo)
theorem bw{α:Type}{x y:α}(h:x=y:=by
  repeat' first
    |with_reducible assumption
    | (with_reducible show (_:Res D)=_
       first
         | ((with_reducible apply OM);exact rfl)
         |with_reducible first|exact UN|apply RJ|apply RM|apply GH|exact Bp|apply MQ|apply RT|apply OI|apply MF|apply Q1n|apply NJ|apply SK|apply Mu|apply TY|apply Qh|apply HR|apply HS
         | ((with_reducible apply SF);exact rfl))
    | (with_reducible show (_:Ui)=_
       with_reducible first|exact BN _ _ (by decide) (by decide)|exact fR _ _|exact tY _ _|exact lH _ _|exact ou _ _|exact xJ _ _|exact pG _ _|exact sH _ _|exact HX _|exact mM _|exact sV _|exact ub _|exact An _|exact HD _|exact zO _)
    | (with_reducible show (_:Res Fl)=_
       first
         |with_reducible first|apply Q1u|apply Jk|apply Oo|apply NK|apply Rj|apply N8|exact R5|exact Jl|apply TM|exact Bp|apply LQ|apply Lk|apply U9|apply Oq|apply Q0K|apply Qr|apply IJ
        )
    | (with_reducible show (_:Res (List AV))=_
       with_reducible first|exact uF|apply uG|apply xc|exact Bp)
    | (with_reducible show (_:Res Bool)=_
       first
         |with_reducible first|apply SV|apply MS|apply Lh|apply Q0E|exact Bp
        )
    | (with_reducible show (_:Res (List D))=_
       with_reducible first|exact A9|apply RU|apply Q2F|apply Oa|apply OX|apply GP|apply N9|apply Hu|exact Bp)
    | ((with_reducible apply J7);refine NU ?_;with_reducible assumption)|((with_reducible apply J6);refine Uy ?_;with_reducible assumption)|((with_reducible apply J7);exact rfl)|((with_reducible apply J6);exact rfl)
    |with_reducible first|apply Sq|exact JB|apply Q1g|exact Oh _|exact Oi _|exact Bp
    | (conv=>{lhs;dsimp only[List.set,putAll,cE,fU,List.getElem?_cons_zero,List.getElem?_cons_succ,ql,own,Option.map_some]};done)
    |exact rfl|(refine G4 rfl ?_;with_reducible assumption)):x=y:=h
theorem rn{n:Nat}{fl:X4}{b:M Fl}{ds cy:OK}{r r0:aU}{d:D}(hl:autoParam (decide (ds.length=fl.length)=true) AuP.d._autoParam)(h0:cw n fl ds=r0:=by conv=>{lhs;simp only[hZ,jw,l4,Ae,Bool.false_eq_true,↓reduceIte]})(h:b r0=.ok (.rt d) r:=by exact bw)(hi:autoParam (bR fl r=some cy) AuP.d._autoParam):defn n fl b ds=.ok d cy:=Kb hl (h0 ▸ h) hi
theorem ZW{n:Nat}{fl:X4}{b:M Fl}{ds cy:OK}{r r0:aU}(hl:autoParam (decide (ds.length=fl.length)=true) AuP.d._autoParam)(h0:cw n fl ds=r0:=by conv=>{lhs;simp only[hZ,jw,l4,Ae,Bool.false_eq_true,↓reduceIte]})(h:b r0=.ok .nx r:=by exact bw)(hi:autoParam (bR fl r=some cy) AuP.d._autoParam):defn n fl b ds=.ok .bB cy:=Qn hl (h0 ▸ h) hi
theorem Q1I(i j:Nat)(hi:i<32)(hj:j<32):(nm i == nm j)=decide (i=j):=by have h1:=XZ hi Uo;have h2:=XZ hj Uo;rw[pP h1,pP h2];by_cases h:i=j;subst h;simp;have:names[i]≠names[j]:=fun z=>h ((Be pO.2).mp z);simp[h,this]
theorem Q0H(i j:Nat)(hi:i<32)(hj:j<32):nW (.str (nm i)) (.str (nm j))=some (.bl (!decide (i=j))):=by
 have e:=BN i j hi hj;unfold b7 at e;unfold nW;split at e;rename_i hp;rw[WL hp];have e':eqB (D.str (nm i)) (.str (nm j))=decide (i=j):=by simpa using e
 rw[e'];cases e
theorem Q0p(i:Int):eP (.int i) (.int 2)=some (.int (i / 2)):=fH _ _ Ug Ug
theorem RW(i:Int):dG (.int i) (.int 1000003)=some (.int (i % 1000003)):=fY _ _ Ug
def Rt(a:Int):Prop:=0<=a/\a<1000003
theorem LB(i j:Nat)(hi:i<32)(hj:j<32):eqB (.str (nm i)) (.str (nm j))=decide (i=j):=by rw[J9];exact Q1I i j hi hj
theorem Ag(n k:Nat)(d:Nat)(h:k<=n):v7 n d (some (k:Int))=k:=by unfold v7;dsimp only;rw[if_neg Ug];lia
@[simp] theorem v8(n d:Nat):v7 n d none=d:=Pm
def fB(ss:ZE):D:=.lst (ss.map T)
theorem Rq(ss:ZE)(i:Nat)(s:ZX)(h:ss[i]?=some s):ux (ss.map T) (i:Int)=some (T s):=by refine ip _ _ _ Ug ?_;simp[h]
theorem Q1t(ss:ZE):bK (fB ss)=some (.int ss.length):=by simp[fB]
theorem jl(ss:ZE)(i:Nat)(s:ZX)(h:ss[i]?=some s):aq (fB ss) (.int i)=some (T s):=Rq ss i s h
inductive PL where
 |given (j:Int)|cut (a:Nat) (k b st m:Int)|shift (a:Nat) (k n x:Int)|one (d a:Nat)|both (d a b:Nat)|cO (a b c:Nat)|run (d a:Nat) (k:Int)
abbrev ZO:=List PL
instance:Inhabited PL:=⟨.given 0⟩
noncomputable def PL.k:PL->Nat|.given _=>0|.cut _ _ _ _ _=>3|.shift _ _ _ _=>8|.one _ _=>9|.both _ _ _=>10|.cO _ _ _=>11|.run _ _ _=>13
noncomputable def PL.ps:PL->List D|.given j=>[.int j]|.cut a k b st m=>[.int a,.int k,.int b,.int st,.int m]|.shift a k n x=>[.int a,.int k,.int n,.int x]|.one d a=>[.str (nm d),.int a]|.both d a b=>[.str (nm d),.int a,.int b]|.cO a b c=>[.int a,.int b,.int c]|.run d a k=>[.str (nm d),.int a,.int k]
noncomputable def PL.d(l:PL):D:=.tup (.str (nm l.k)::l.ps)
noncomputable def PL.ns:PL->List Nat|.given _=>[]|.cut a _ _ _ _=>[a]|.shift a _ _ _=>[a]|.one _ a=>[a]|.both _ a b=>[a,b]|.cO a b c=>[a,b,c]|.run _ a _=>[a]
theorem PL.Uk(l:PL):l.k<16:=by cases l<;>simp[PL.k]
theorem PL.jR(l:PL):l.ns.length<=3:=by cases l<;>simp[PL.ns]
theorem PL.kind(l:PL):aq l.d (.int 0)=some (.str (nm l.k)):=by unfold PL.d;simp
theorem PL.named(l:PL):o6 [l.d]=.ok (.lst (l.ns.map fun a=>D.int (a:Nat))) []:=by cases l<;>kernel_rfl!
def Pg(ls:ZO):D:=.lst (ls.map PL.d)
theorem KC(ls:ZO)(i:Nat)(l:PL)(h:ls[i]?=some l):aq (Pg ls) (.int (i:Int))=some l.d:=by unfold Pg;rw[fI];exact ip _ _ _ Ug (by simp[h])
theorem oq(ls:ZO):bK (Pg ls)=some (.int ls.length):=by simp[Pg]
theorem Oj(ls:ZO):c5 (Pg ls)=some (ls.map PL.d):=rfl
theorem eU{S Tm A:Type}{g:D->M Unit}{body:M Fl}(mk:A->D)(R:S->Tm->aU)(ok:Tm->Prop):∀(as:List A)(P:Nat->S->Prop)(s:S)(t:Tm),ok t->P 0 s ->
  (∀(i:Nat)(a:A),as[i]?=some a->∀s t,ok t->P i s->∃s' t',P (i+1) s'/\ok t'/\cont (bS g body (mk a) (R s t))=some (R s' t')) ->
  ∃s' t',P as.length s'/\ok t'/\loop g body (as.map mk) (R s t)=.ok .nx (R s' t'):=by
 intro as;induction as with|nil=>intro P s t ht hs _;exact⟨s,t,hs,ht,rfl⟩|cons a as ih=>intro P s t ht hs h;obtain⟨s1,t1,p1,o1,e1⟩:=h 0 a rfl s t ht hs;obtain⟨s2,t2,p2,o2,e2⟩:=ih (fun k=>P (k+1)) s1 t1 o1 p1 fun i a' ha=>h (i+1) a' (by simpa using ha);exact⟨s2,t2,by simpa using p2,o2,by rw[List.map_cons,bE e1];exact e2⟩
def Wf(ls:ZO):Prop:=∀(i:Nat)(l:PL),ls[i]?=some l->∀r∈l.ns,r<i
inductive oH(ls:ZO):Nat->Prop where
 |last:oH ls (ls.length-1)|step {i r:Nat} {l:PL}:oH ls i->ls[i]?=some l->r∈l.ns->oH ls r
theorem oH.lt{ls:ZO}(wf:Wf ls)(h0:ls≠[]){i:Nat}(h:oH ls i):i<ls.length:=by induction h with|last=>have:=List.length_pos_iff.mpr h0;lia|step h e hr ih=>have:=wf _ _ e _ hr;lia
noncomputable def iy(w:X4):D:=.lst (w.map .bl)
noncomputable def gz(ks:Rx):D:=.lst (ks.map fun k=>.int (k:Nat))
theorem vD:∀(ns:Rx)(w:X4)(i:Nat),(ns.foldl (fun w r=>w.set r true) w).length=w.length/\((ns.foldl (fun w r=>w.set r true) w)[i]?=some true<->i<w.length/\(w[i]?=some true\/i∈ns))
|[],w,i=>by refine⟨rfl,⟨fun h=>⟨(List.getElem?_eq_some_iff.mp h).1,.inl h⟩,fun ⟨h1,h⟩=>?_⟩⟩;rcases h with h|h;exact h;simp at h
|r::ns,w,i=>by obtain⟨h1,h2⟩:=vD ns (w.set r true) i;simp only[List.foldl_cons];refine⟨by rw[h1];simp,?_⟩;rw[h2];simp only[List.length_set,List.mem_cons];constructor;rintro⟨a,b⟩;refine⟨a,?_⟩;rcases b with b|b;by_cases e:r=i;exact .inr (.inl e.symm);rw[RH e] at b;exact .inl b;exact .inr (.inr b);rintro⟨a,b⟩;refine⟨a,?_⟩;by_cases e:r=i;subst e;exact .inl (by rw[Vb a]);rw[RH e];rcases b with b|b|b;exact .inl b;exact absurd b.symm e;exact .inr b
theorem CM(w:X4)(r:Nat)(b:Bool)(h:r<w.length):setAt (.int (r:Int)) (.bl b) (iy w)=some (iy (w.set r b)):=by unfold iy;rw[rK _ _ _ Ug (by simp;lia),ZJ,List.map_set]
theorem kb(w:X4)(i:Nat)(b:Bool)(h:w[i]?=some b):aq (iy w) (.int (i:Int))=some (.bl b):=by unfold iy;rw[fI];exact ip _ _ _ Ug (by simp[h])
theorem rA(P:D)(s:Sl):∀(ns:Rx)(w:X4),(∀r∈ns,r<w.length)->∀t,free (some t)=true->∃t',free (some t')=true/\loop (aP 3) eX (ns.map fun k=>D.int (k:Nat)) [.sh P,.ow (iy w),s,t]=.ok .nx [.sh P,.ow (iy (ns.foldl (fun w r=>w.set r true) w)),s,t']|[],w,_,t,ht=>⟨t,ht,rfl⟩|r::ns,w,h,t,ht=>by have hr:=h r Rn;obtain⟨t',h1,h2⟩:=rA P s ns (w.set r true) (fun x hx=>by simpa using h x (X1 _ hx)) (.sh (.int r)) rfl;refine⟨t',h1,?_⟩;have il:isLst (some (iy w))=true:=rfl;rw[Pj,bE (r':=[.sh P,.ow (iy (w.set r true)),s,.sh (.int r)]) (by simp[bS,eX,ht,il,CM w r true hr]),h2];rfl
theorem rT(ls:ZO)(wf:Wf ls)(h0:ls≠[])(hl:ls.length<=100):∃w,qY [Pg ls]=.ok (iy w) []/\w.length=ls.length/\∀i,w[i]?=some true<->oH ls i:=by
 rw[qY,bG _ _ _ _ rfl];have hn:=List.length_pos_iff.mpr h0;have c:aY 1 (fC (ag 0)) (aP 4) (VP.ret true) eM [.sh (Pg ls),.no,.no,.no]=.ok (iy (List.replicate ls.length false)) [.sh (Pg ls),.no,.no,.no]:=by refine jN PL.d (fun _=>D.bl false) ls (by simp[Oj]) Ug (by simp[iy,List.map_const']) fun l hl acc=>?_;simp[eM]
 have ln:=oq ls;have st:=CM (List.replicate ls.length false) (ls.length-1) true (by simp;lia);rw[show (((ls.length-1:Nat)):Int)=(ls.length:Int)-1 by lia] at st;have il:∀w,isLst (some (iy w))=true:=fun _=>rfl;have dn:Fb [.int ((ls.length:Int)-1),.int (-1),.int (-1)]=some ((List.range ls.length).map fun(k:Nat)=>.int ((ls.length:Int)-1-k)):=by
  have d:Fb [.int ((ls.length:Int)-1),.int (-1),.int (-1)]=if (-1:Int)=-1/\(-(2 ^ 62)<=(ls.length:Int)-1/\(ls.length:Int)-1<2 ^ 62)/\-(2 ^ 62)<=(-1:Int)/\(-1:Int)<2 ^ 62 then some ((List.range ((ls.length:Int)-1 - -1).toNat).map fun(k:Nat)=>.int ((ls.length:Int)-1-k)) else none:=rfl
  rw[d,WL ⟨rfl,⟨Ug,Ug⟩,by decide,by decide⟩];rw[show ((ls.length:Int)-1 - -1).toNat=ls.length by lia]
 obtain⟨w,t,⟨hw,h1,h2,h3⟩,ht,L⟩:=eU (g:=aP 2) (body:=de) (fun(k:Nat)=>D.int ((ls.length:Int)-1-k)) (fun(w:X4)(t:Sl×Sl)=>[.sh (Pg ls),.ow (iy w),t.1,t.2]) pf (List.range ls.length)
  (fun j w=>w.length=ls.length/\(∀i,w[i]?=some true->oH ls i)/\w[ls.length-1]?=some true/\∀i,ls.length-j<=i->w[i]?=some true->∀l,ls[i]?=some l->∀r∈l.ns,w[r]?=some true)
  ((List.replicate ls.length false).set (ls.length-1) true) (.no,.no) ⟨rfl,rfl⟩ ⟨O3,fun i h=>by
   by_cases e:ls.length-1=i;subst e;exact .last;rw[RH e,wd] at h;split at h<;>simp at h,by rw[List.getElem?_set_self (by simp;lia)],fun i hi h l hl=>by
   have:=(List.getElem?_eq_some_iff.mp hl).1;lia⟩ (by
  intro j k hk w t ht hP;obtain⟨rfl,hj⟩:=fg hk;obtain⟨t2,t3⟩:=t;obtain⟨f2,f3⟩:=ht;obtain⟨hw,p1,p2,p3⟩:=hP;dsimp only at f2 f3;have Gg:ls.length-1-k<ls.length:=Ug;have ei:((ls.length:Int)-1-k)=((ls.length-1-k:Nat):Int):=Ug;rw[ei];obtain⟨l,hl⟩:∃l,ls[ls.length-1-k]?=some l:=⟨_,Uz Gg⟩;have ix:=KC ls _ l hl;generalize hi:ls.length-1-k=i at *;obtain⟨b,hb⟩:∃b,w[i]?=some b:=⟨_,Uz Ug⟩;have bi:=kb w i b hb;cases b with
  |false=>refine⟨w,(.sh (.int i),t3),⟨hw,p1,p2,fun m hm h x hx=>?_⟩,⟨rfl,f3⟩,?_⟩;by_cases e:m=i;subst e;rw[hb] at h;cases h;exact p3 m Ug h x hx;simp[bS,de,f2,bi]|true=>
   have nb:=fun r hr=>wf i l hl r hr;obtain⟨t',Zi,L⟩:=rA (Pg ls) (.sh (.int i)) l.ns w (fun r hr=>by have:=nb r hr;lia) t3 f3;have mg:=vD l.ns w;refine⟨l.ns.foldl (fun w r=>w.set r true) w,(.sh (.int i),t'),⟨by rw[(mg 0).1];exact hw,fun m h=>?_,?_,fun m hm h x hx r hr=>?_⟩,⟨rfl,Zi⟩,?_⟩;rcases ((mg m).2.mp h).2 with q|q;exact p1 m q;exact .step (p1 i hb) hl q;exact(mg _).2.mpr ⟨Ug,.inl p2⟩;rcases ((mg m).2.mp h).2 with q|q;by_cases e:m=i;subst e;rw[hl] at hx;cases hx;exact(mg r).2.mpr ⟨by have:=nb r hr;lia,.inr hr⟩;have:=p3 m Ug q x hx r hr;exact(mg r).2.mpr ⟨(List.getElem?_eq_some_iff.mp this).1,.inl this⟩;have:=nb m q;by_cases e:m=i
   lia
   lia
   simp[bS,de,f2,bi,ix,PL.named,L])
 obtain⟨t2,t3⟩:=t;simp only[List.length_range] at h3;refine⟨w,?_,hw,fun i=>⟨h1 i,fun h=>?_⟩⟩;simp[CI,c,il,ln,st,dn,L];induction h with|last=>exact h2|step h e hr ih=>exact h3 _ Ug ih _ e _ hr
theorem Zr(k:Nat)(hk:k<32)(js:Rx)(hj:∀j∈js,j<32):((js.map fun j=>D.str (nm j)).any fun y=>eqB y (.str (nm k)))=decide (k∈js)/\(js.map fun j=>D.str (nm j)).all jS=true:=by induction js with|nil=>simp|cons j js ih=>obtain⟨h1,h2⟩:=ih fun x hx=>hj x (X1 _ hx);refine⟨?_,?_⟩;rw[Pj,E1,h1,LB _ _ (hj j Rn) hk];by_cases e:j=k;simp[e];have e':¬k=j:=fun z=>e z.symm;simp[e,e'];rw[Pj,BI,h2];rfl
theorem Mq(k:Nat)(hk:k<32)(js:Rx)(hj:∀j∈js,j<32):inD false (.str (nm k)) (.tup (js.map fun j=>D.str (nm j)))=some (.bl (decide (k∈js))):=by obtain⟨h1,h2⟩:=Zr k hk js hj;unfold inD;rw[Fp];dsimp only;rw[h2,h1];rfl
noncomputable def cP(ls:ZO)(i:Nat):PL:=ls.getD i default
def kd(ls:ZO)(i:Nat):Nat:=(cP ls i).k
noncomputable def sd(ss:ZE)(i:Nat):ZX:=ss.getD i []
def dw(ls:ZO)(i:Nat):Rx:=(cP ls i).ns
theorem zM(ls:ZO)(i:Nat):kd ls i<32:=by have:=(cP ls i).Uk;unfold kd;lia
theorem vq(ls:ZO)(i:Nat)(h:i<ls.length):aq (Pg ls) (.int (i:Int))=some (cP ls i).d:=KC ls i _ (by simp[cP,h])
theorem KD(ss:ZE)(i:Nat)(h:i<ss.length):aq (fB ss) (.int (i:Int))=some (T (sd ss i)):=jl ss i _ (by simp[sd,h])
def dH(ls:ZO)(w:X4)(p:Nat):Rx:=(List.range ls.length).flatMap fun i=>if w.getD i false then((dw ls i).filter (fun r=>decide (r=p))).map fun _=>i else []
theorem Bl(ls:ZO)(l:PL)(P W:D)(p i:Nat)(acc:D)(t:Sl):aY 1 (fC (ax o6 [.val (ag 5)])) (aP 6) eN eJ [.sh P,.sh W,.sh (.int p),.ow acc,.sh (.int i),.sh l.d]=.ok (gz ((l.ns.filter fun r=>decide (r=p)).map fun _=>i)) [.sh P,.sh W,.sh (.int p),.ow acc,.sh (.int i),.sh l.d]:=by
 have n:=l.named;have fw:=l.jR;generalize l.ns=ns at n fw ⊢;generalize l.d=ld at n ⊢;refine xi (fun(a:Nat)=>D.int (a:Nat)) (fun r=>decide (r=p)) (fun _=>D.int i) ns bw Ug (by rw[gz,IQ];rfl) (fun a _ acc=>?_) fun a _ _ acc=>?_;have e:b7 (.int (a:Int)) (.int (p:Int))=some (.bl (decide (a=p))):=by rw[lH];congr 3;exact propext Int.ofNat_inj
 dsimp only[List.cons_append,List.nil_append];unfold eN;exact bw;dsimp only[List.cons_append,List.nil_append];unfold eJ;exact bw
theorem og(ls:ZO):iG (ls.map PL.d)=(List.range ls.length).map fun(i:Nat)=>D.tup [.int i,(cP ls i).d]:=by
 rw[mB];refine Nj O3 fun i h1 h2=>?_;have h:i<ls.length:=by simpa using h2
 simp[h,cP]
theorem Q2A(ls:ZO)(w:X4)(p:Nat)(hw:w.length=ls.length)(hl:ls.length<=100):zc [Pg ls,iy w,.int p]=.ok (gz (dH ls w p)) []:=by
 rw[zc,bG _ _ _ _ rfl];have en:jP [Pg ls]=some ((List.range ls.length).map fun(i:Nat)=>D.tup [.int i,(cP ls i).d]):=by unfold Pg;rw[iF,og]
 let f:=fun(i:Nat)=>if w.getD i false then((dw ls i).filter (fun r=>decide (r=p))).map fun _=>i else []
 obtain⟨_,t,_,L⟩:=pJ (g:=cq [4,5]) (body:=c9) (fun(i:Nat)=>D.tup [.int i,(cP ls i).d]) (fun(s:Rx)(t:Sl×Sl)=>[.sh (Pg ls),.sh (iy w),.sh (.int p),.ow (gz s),t.1,t.2]) pf
  (fun k s=>s.length<=3*k) (fun s i=>s++f i) (List.range ls.length) [] (.no,.no) ⟨rfl,rfl⟩ O3 (by
  intro j i hi s t ht hP;obtain⟨t4,t5⟩:=t;obtain⟨f4,f5⟩:=ht;dsimp only at f4 f5;obtain⟨rfl,hi⟩:=fg hi;obtain⟨b,hb⟩:∃b,w[i]?=some b:=⟨_,Uz Ug⟩;have hg:w.getD i false=b:=by simp[hb]
  have bi:=kb w i b hb;have il:isLst (some (gz s))=true:=rfl;have fw:=(cP ls i).jR;cases b with
  |false=>
   have e:f i=[]:=by simp[f,hb]
   refine⟨by rw[e];simp;lia,(.sh (.int i),.sh (cP ls i).d),⟨rfl,rfl⟩,?_⟩;rw[e];generalize (cP ls i).d=ld;simp[bS,c9,f4,f5,bi]
  |true=>
   have e:f i=(((cP ls i).ns.filter (fun r=>decide (r=p))).map fun _=>i):=by simp[f,hb,dw]
   have pc:=Bl ls (cP ls i) (Pg ls) (iy w) p i (gz s) .no;rw[<-e] at pc;have le:(f i).length<=3:=by rw[e,xN];exact RC (WJ _ _) fw
   have ex:xm (gz (f i)) (gz s)=some (gz (s++f i)):=by unfold gz;rw[GY _ _ (by simp[ur];lia),Mn]
   refine⟨by simp;lia,(.sh (.int i),.sh (cP ls i).d),⟨rfl,rfl⟩,?_⟩;generalize (cP ls i).d=ld at *;generalize f i=fi at *;simp[bS,c9,f4,f5,bi,pc,il,ex])
 have e:(List.range ls.length).foldl (fun s i=>s++f i) []=dH ls w p:=by
  have g:∀(xs:Rx)(a:Rx),xs.foldl (fun s i=>s++f i) a=a++xs.flatMap f:=by intro xs;induction xs with|nil=>intro a;simp|cons x xs ih=>intro a;simp[ih]
  rw[g];rfl
 rw[e] at L;have l0:D.lst []=gz []:=rfl;simp[Cj,l0,en,L]
noncomputable def K4:Rx:=[0,12,13,14]
noncomputable def S3:Rx:=[6,10,11]
noncomputable def H2:Rx:=[7,14]
def KW(ls:ZO)(ss:ZE)(i p:Nat):Bool:=decide (kd ls i∈S3)&&!decide (sd ss i=sd ss p)
def kN(ls:ZO)(ss:ZE)(p:Nat)(ms:Rx):Bool:=decide (p=ls.length-1)||decide (kd ls p∈K4)||ms.any (fun i=>decide (kd ls i∈H2))||(decide (1<ms.length)||ms.any fun i=>KW ls ss i p)
theorem yl(ls:ZO)(ss:ZE)(i p:Nat)(hi:i<ls.length)(hp:p<ls.length)(hs:ss.length=ls.length):zq [Pg ls,fB ss,.int i,.int p]=.ok (.bl (KW ls ss i p)) []:=by rw[zq,bG _ _ _ _ rfl];have ix:=vq ls i hi;have kk:=PL.kind (cP ls i);have kl:=zM ls i;have ik:inD false (.str (nm (kd ls i))) (.tup [.str (nm 6),.str (nm 10),.str (nm 11)])=some (.bl (decide (kd ls i∈S3))):=Mq (kd ls i) kl S3 (by simp[S3]);have s1:=KD ss i Ug;have s2:=KD ss p Ug;have e:(cP ls i).k=kd ls i:=rfl;rw[e] at kk;generalize (cP ls i).d=ld at *;unfold KW;by_cases h:kd ls i∈S3;rw[NU h] at ik;simp[yN,ix,kk,ik,s1,s2,h];rw[Uy h] at ik;simp[yN,ix,kk,ik,h]
theorem xB(ls:ZO)(ss:ZE)(p:Nat)(ms:Rx)(hp:p<ls.length)(hs:ss.length=ls.length)(hm:∀i∈ms,i<ls.length)(hl:ms.length<=1000):y4 [Pg ls,fB ss,.int p,gz ms]=.ok (.bl (kN ls ss p ms)) []:=by
 have ix:=vq ls p hp;have kk:=PL.kind (cP ls p);have kl:=zM ls p;have e:(cP ls p).k=kd ls p:=rfl;rw[e] at kk;have i4:inD false (.str (nm (kd ls p))) (.tup [.str (nm 0),.str (nm 12),.str (nm 13),.str (nm 14)])=some (.bl (decide (kd ls p∈K4))):=Mq (kd ls p) kl K4 (by simp[K4]);have ln:=oq ls;have c1:aY 1 (fC (ag 3)) (aP 5) (VP.ret true) i6 [.sh (Pg ls),.sh (fB ss),.sh (.int p),.sh (gz ms),.sh (.str (nm (kd ls p)))]=.ok (.lst (ms.map fun i=>D.bl (decide (kd ls i∈H2)))) [.sh (Pg ls),.sh (fB ss),.sh (.int p),.sh (gz ms),.sh (.str (nm (kd ls p)))]:=by refine jN (fun(i:Nat)=>D.int i) (fun i=>D.bl (decide (kd ls i∈H2))) ms rfl Ug rfl fun i hi acc=>?_;have ixi:=vq ls i (hm i hi);have Zv:=PL.kind (cP ls i);have ei:(cP ls i).k=kd ls i:=rfl;rw[ei] at Zv;have ik:inD false (.str (nm (kd ls i))) (.tup [.str (nm 7),.str (nm 14)])=some (.bl (decide (kd ls i∈H2))):=Mq (kd ls i) (zM ls i) H2 (by simp[H2]);generalize (cP ls i).d=ld at *;dsimp only[List.cons_append,List.nil_append];unfold i6;exact bw
 have c2:aY 1 (fC (ag 3)) (aP 5) (VP.ret true) i7 [.sh (Pg ls),.sh (fB ss),.sh (.int p),.sh (gz ms),.sh (.str (nm (kd ls p)))]=.ok (.lst (ms.map fun i=>D.bl (KW ls ss i p))) [.sh (Pg ls),.sh (fB ss),.sh (.int p),.sh (gz ms),.sh (.str (nm (kd ls p)))]:=by refine jN (fun(i:Nat)=>D.int i) (fun i=>D.bl (KW ls ss i p)) ms rfl Ug rfl fun i hi acc=>?_;have:=yl ls ss i p (hm i hi) hp hs;dsimp only[List.cons_append,List.nil_append];unfold i7;exact bw
 have a1:=BV (fun i=>decide (kd ls i∈H2)) ms;have a2:=BV (fun i=>KW ls ss i p) ms;have e1:=BN (kd ls p) 1 kl Ug;rw[Uy (by unfold kd;cases cP ls p<;>simp[PL.k])] at e1;have lm:bK (gz ms)=some (.int ms.length):=by simp[gz]
 generalize (cP ls p).d=ld at *;generalize D.lst (ms.map fun i=>D.bl (decide (kd ls i∈H2)))=L1 at *;generalize D.lst (ms.map fun i=>D.bl (KW ls ss i p))=L2 at *;generalize gz ms=N at *;generalize Pg ls=Pl at *;generalize fB ss=Sl at *;have g1:Dx (.int (ms.length:Int)) (.int 1)=some (.bl (decide (1<ms.length))):=by rw[sH];congr 3;exact propext Ug
 have g2:b7 (.int (p:Int)) (.int ((ls.length:Int)-1))=some (.bl (decide (p=ls.length-1))):=by rw[lH];congr 3;exact propext Ug
 unfold kN y4 B6;generalize decide (p=ls.length-1)=b1 at *;generalize decide (kd ls p∈K4)=b2 at *;generalize decide (1<ms.length)=b4 at *;generalize ms.any (fun i=>decide (kd ls i∈H2))=b5 at *;generalize ms.any (fun i=>KW ls ss i p)=b6 at *;cases b1;cases b2;cases b5;cases b4;cases b6<;>exact rn;exact rn;exact rn;exact rn;exact rn
def pF(ls:ZO)(ss:ZE)(w:X4):X4:=(List.range ls.length).map fun p=>w.getD p false&&kN ls ss p (dH ls w p)
theorem lj(ls:ZO)(w:X4)(p i:Nat):i∈dH ls w p<->i<ls.length/\w.getD i false=true/\p∈dw ls i:=by
 unfold dH;rw[List.mem_flatMap];constructor;rintro⟨j,hj,h⟩;rw[List.mem_range] at hj;by_cases q:w.getD j false=true;rw[WL q] at h;obtain⟨r,hr,e⟩:=List.mem_map.mp h;subst e;rw[List.mem_filter] at hr;have:r=p:=by simpa using hr.2
 subst this;exact⟨hj,q,hr.1⟩;rw[S8 q] at h;simp at h;rintro⟨h1,h2,h3⟩;refine⟨i,List.mem_range.mpr h1,?_⟩;rw[WL h2];exact List.mem_map.mpr ⟨p,List.mem_filter.mpr ⟨h3,O3⟩,rfl⟩
theorem xQ(ls:ZO)(w:X4)(p:Nat):(dH ls w p).length<=3*ls.length:=by
 unfold dH;generalize ls.length=n;induction n with
 |zero=>simp|succ n ih=>
  rw[List.range_succ,List.flatMap_append,IL];have:([n].flatMap fun i=>if w.getD i false then((dw ls i).filter (fun r=>decide (r=p))).map fun _=>i else []).length<=3:=by rw[List.flatMap_cons,List.flatMap_nil,Il];split;rw[xN];exact RC (WJ _ _) (cP ls n).jR;simp
  lia
theorem qy(ls:ZO)(ss:ZE)(wf:Wf ls)(h0:ls≠[])(hl:ls.length<=100)(hs:ss.length=ls.length):∃w,qY [Pg ls]=.ok (iy w) []/\w.length=ls.length/\(∀i,w[i]?=some true<->oH ls i)/\uT [Pg ls,fB ss]=.ok (iy (pF ls ss w)) []:=by
 obtain⟨w,h1,h2,h3⟩:=rT ls wf h0 hl;refine⟨w,h1,h2,h3,?_⟩;rw[uT,bG _ _ _ _ rfl];have en:jP [Pg ls]=some ((List.range ls.length).map fun(i:Nat)=>D.tup [.int i,(cP ls i).d]):=by unfold Pg;rw[iF,og]
 let f:=fun p=>w.getD p false&&kN ls ss p (dH ls w p);obtain⟨_,t,_,L⟩:=pJ (g:=cq [4,5]) (body:=dS) (fun(i:Nat)=>D.tup [.int i,(cP ls i).d]) (fun(s:X4)(t:Sl×Sl)=>[.sh (Pg ls),.sh (fB ss),.sh (iy w),.ow (iy s),t.1,t.2]) pf
  (fun k s=>s.length=k) (fun s i=>s++[f i]) (List.range ls.length) [] (.no,.no) ⟨rfl,rfl⟩ rfl (by
  intro j i hi s t ht hP;obtain⟨t4,t5⟩:=t;obtain⟨f4,f5⟩:=ht;dsimp only at f4 f5;obtain⟨rfl,hi⟩:=fg hi;obtain⟨b,hb⟩:∃b,w[i]?=some b:=⟨_,Uz Ug⟩;have hg:w.getD i false=b:=by simp[hb]
  have bi:=kb w i b hb;have il:isLst (some (iy s))=true:=rfl;have nl:=xQ ls w i;have na:=Q2A ls w i h2 hl;have ik:=xB ls ss i (dH ls w i) hi hs (fun m hm=>((lj ls w i m).mp hm).1) Ug;have ap:gW (.bl (f i)) (iy s)=some (iy (s++[f i])):=by unfold iy;rw[gY _ _ (by simp;lia),Mn];rfl
  refine⟨by simp[hP],(.sh (.int i),.sh (cP ls i).d),⟨rfl,rfl⟩,?_⟩;generalize (cP ls i).d=ld at *;cases b with
  |false=>
   have e:f i=false:=by simp only[f,hg,Bool.false_and]
   rw[e] at ap ⊢;simp[bS,dS,f4,f5,bi,il,ap]
  |true=>
   have e:f i=kN ls ss i (dH ls w i):=by simp only[f,hg,Bool.true_and]
   rw[e] at ap ⊢;simp[bS,dS,f4,f5,bi,na,ik,il,ap])
 have e:(List.range ls.length).foldl (fun s i=>s++[f i]) []=pF ls ss w:=by
  have g:∀(xs:Rx)(a:X4),xs.foldl (fun s i=>s++[f i]) a=a++xs.map f:=by intro xs;induction xs with|nil=>intro a;simp|cons x xs ih=>intro a;simp[ih]
  rw[g];rfl
 rw[e] at L;have l0:D.lst []=iy []:=rfl;obtain⟨t4,t5⟩:=t;unfold B7;simp only[hZ,jw,l4,Ae,if_neg (show ¬(false=true) by decide)];rw[oB,show bc 2 _ _=.ok .nx [.sh (Pg ls),.sh (fB ss),.sh (iy w),.no,.no,.no] by simp[h1],yi];rw[oB,show gu 3 _ _=.ok .nx [.sh (Pg ls),.sh (fB ss),.sh (iy w),.ow (iy []),.no,.no] by simp[l0],yi];rw[oB,show fZ _ _ _ _=.ok .nx [.sh (Pg ls),.sh (fB ss),.sh (iy w),.ow (iy (pF ls ss w)),t4,t5] by simp[en,L,-List.map_map],yi];simp
noncomputable def sz(x:Nat):Int:=((x+2:Nat):Int)
def ay:Option Nat->Nat->List Int|none,x=>[sz x]|some y,x=>[sz y,sz x]
noncomputable def lst:Option Nat->Int|none=>0|some _=>1
noncomputable def cnt:Option Nat->Nat->Nat|none,x=>x+2|some y,x=>(y+2)*(x+2)
def Ok:Option Nat->Nat->Prop|none,x=>x<=62|some y,x=>y<=2/\x=14
noncomputable def ix:Option Nat->Int->Int->List Int|none,_,j=>[j]|some _,h,j=>[h,j]
def el:Option Nat->Nat->List Int|none,_=>[1]|some _,x=>[sz x,1]
def wy:Option Nat->Int->Int->D|none,c,e=>.lst [.tup [.int c,.int 0,.int e]]|some _,c,e=>.lst [.tup [.int 0,.int 0,.int 1],.tup [.int c,.int 1,.int e]]
def eE:Option Nat->Nat->Int->List Int|none,_,e=>[e]|some _,x,e=>[sz x,e]
def pl(x:Nat)(h j:Int):Int:=h*sz x+j
structure In(b:Option Nat)(x:Nat)(h j:Int):Prop where
 j0:0<=j
 j1:j<sz x
 h0:0<=h
 h1:h*sz x+sz x<=cnt b x
 hn:b=none->h=0
theorem gx(x:Nat):2<=sz x:=by unfold sz;lia
theorem i9{b:Option Nat}{x:Nat}(o:Ok b x):cnt b x<=64/\sz x<=64/\2<=cnt b x:=by cases b with|none=>have:x<=62:=o;simp only[cnt,sz];lia|some y=>obtain⟨h1,rfl⟩:=o;simp only[cnt,sz];lia
theorem In.at{b:Option Nat}{x:Nat}{h j:Int}(i:In b x h j):0<=pl x h j/\pl x h j<cnt b x:=by have:=Int.mul_nonneg i.h0 (show 0<=sz x by have:=gx x;lia);have:=i.j0;have:=i.j1;have:=i.h1;unfold pl;lia
theorem in_of{b:Option Nat}{x:Nat}{p:Nat}(hp:p<cnt b x):In b x ((p:Int) / sz x) ((p:Int) % sz x)/\pl x ((p:Int) / sz x) ((p:Int) % sz x)=p:=by
 have s2:=gx x;have m0:=Int.emod_nonneg (p:Int) (show sz x≠0 by lia);have m1:=xE (p:Int) (show 0<sz x by lia);have e:=Int.mul_ediv_add_emod (p:Int) (sz x);have d0:=Int.ediv_nonneg (show (0:Int)<=p by lia) (show 0<=sz x by lia);have e2:(p:Int) / sz x*sz x+(p:Int) % sz x=p:=by rw[Int.mul_comm];exact e
 refine⟨⟨m0,m1,d0,?_,?_⟩,e2⟩;cases b with
 |none=>have:(p:Int) / sz x=0:=Int.ediv_eq_zero_of_lt Ug (by simp only[cnt] at hp;unfold sz;lia);rw[this];simp[cnt,sz]|some y=>
  have XN:(p:Int)<sz y*sz x:=by simp only[cnt] at hp;unfold sz;exact_mod_cast hp
  have:(p:Int) / sz x<sz y:=Int.ediv_lt_of_lt_mul Ug XN;have:=Int.mul_le_mul_of_nonneg_right (show (p:Int) / sz x+1<=sz y by lia) (show 0<=sz x by lia);rw[Int.add_mul] at this;have e3:((cnt (some y) x:Nat):Int)=sz y*sz x:=by simp[cnt,sz]
  rw[e3];lia
 rintro rfl;exact Int.ediv_eq_zero_of_lt Ug (by simp only[cnt] at hp;unfold sz;lia)
theorem HV(j:Int):cD (.int 1) (.int j)=some (.int j):=by rw[cQ _ _ Ug Ug,Int.one_mul]
theorem zS(j:Int):cD (.int j) (.int 1)=some (.int j):=by rw[jn _ _ Ug Ug,Int.mul_one]
theorem Wa(j:Int):cD (.int 0) (.int j)=some (.int 0):=by rw[cQ _ _ Ug Ug,Int.zero_mul]
theorem Ej{b:Option Nat}{x:Nat}(o:Ok b x)(i:Int):cD (.int i) (.int (sz x))=some (.int (i*sz x))/\cD (.int (sz x)) (.int i)=some (.int (sz x*i)):=by have:=(i9 o).2.1;have:=gx x;exact⟨jn _ _ Ug Ug,cQ _ _ Ug Ug⟩
theorem HW{e:Int}(he:e=1\/e=-1)(i:Int):cD (.int i) (.int e)=some (.int (i*e))/\cD (.int e) (.int i)=some (.int (e*i)):=⟨jn _ _ Ug Ug,cQ _ _ Ug Ug⟩
theorem CT(y x:Nat):((cnt (some y) x:Nat):Int)=sz y*sz x:=by simp[cnt,sz]
theorem cnt_none(x:Nat):((cnt none x:Nat):Int)=sz x:=rfl
theorem iE{b:Option Nat}{x:Nat}(o:Ok b x):kI [T (ay b x)]=.ok (.int (cnt b x)) []:=by have mz:=Ej o;rw[kI,bG _ _ _ _ rfl];cases b<;>simp[B2,kO,ay,T,mN,bS,CT,cnt_none,HV,mz]
theorem xC{b:Option Nat}{x:Nat}(o:Ok b x):uU [T (ay b x)]=.ok (.int (cnt b x)) []:=iE o
theorem oE{g:D->M Unit}{body:M Fl}{d:D}{r r1 r2:aU}(hg:g d r=.ok () r1)(hb:body r1=.ok .nx r2):cont (bS g body d r)=some r2:=by rw[bS,hg,aA,hb];rfl
theorem gS{b:Option Nat}{x:Nat}(o:Ok b x):iH [T (ay b x)]=.ok (T (el b x)) []:=by
 have mz:=(Ej o 1).2;have m1:=HV (sz x);have st:∀(A:Sl)(t:Sl)(xs:OK)(i v p:Int),xs.length<100->free (some t)=true->cD (.int i) (.int v)=some (.int p)->cont (bS (aP 3) cN (.int v) [A,.ow (.lst xs),.sh (.int i),t])=some [A,.ow (.lst (xs++[.int i])),.sh (.int p),.sh (.int v)]:=fun A t xs i v p hx ht hm=>by have ap:=iZ (.int i) xs Ug;refine oE (r1:=[A,.ow (.lst xs),.sh (.int i),.sh (.int v)]) (by simp[ht]) ?_;unfold cN;exact bw
 cases b with
 |none=>
  have L:loop (aP 3) cN [.int (sz x)] [.sh (T [sz x]),.ow (.lst []),.sh (.int 1),.no]=.ok .nx [.sh (T [sz x]),.ow (.lst [.int 1]),.sh (.int (sz x)),.sh (.int (sz x))]:=by exact(bE (st _ .no [] 1 (sz x) _ O3 rfl m1)).trans rfl
  have e:(c5 (T [sz x])).map List.reverse=some [.int (sz x)]:=rfl;have rv:Br (.lst [.int 1])=some (T (el none x)):=rfl;show iH [T [sz x]]=_;generalize T [sz x]=S at *;unfold iH yO;exact rn
 |some y=>
  have m2:=(Ej o (sz y)).2;have L:loop (aP 3) cN [.int (sz x),.int (sz y)] [.sh (T [sz y,sz x]),.ow (.lst []),.sh (.int 1),.no]=.ok .nx [.sh (T [sz y,sz x]),.ow (.lst [.int 1,.int (sz x)]),.sh (.int (sz x*sz y)),.sh (.int (sz y))]:=by exact(bE (st _ .no [] 1 (sz x) _ O3 rfl m1)).trans ((bE (st _ (.sh (.int (sz x))) [.int 1] (sz x) (sz y) _ O3 rfl m2)).trans rfl)
  have e:(c5 (T [sz y,sz x])).map List.reverse=some [.int (sz x),.int (sz y)]:=rfl;have rv:Br (.lst [.int 1,.int (sz x)])=some (T (el (some y) x)):=rfl;show iH [T [sz y,sz x]]=_;generalize T [sz y,sz x]=S at *;unfold iH yO;exact rn
theorem yT{it:M (List D)}{k:Nat}{r:aU}(xs ys:ZX)(hk:r.length=k)(hl:(xs.zip ys).length<=100)(hit:it r=.ok ((xs.zip ys).map fun p=>.tup [.int p.1,.int p.2]) r)(hm:∀p∈xs.zip ys,cD (.int p.1) (.int p.2)=some (.int (p.1*p.2))):aY 2 it (cq [k,k+1]) (ret true) (m2 cD (ag k) (ag (k+1))) r=.ok (Z ((xs.zip ys).map fun p=>p.1*p.2)) r:=by subst hk;refine Lx (fun p:Int×Int=>D.int p.1) (fun p=>D.int p.2) (fun p=>D.int (p.1*p.2)) (xs.zip ys) hit Ug (by simp[Z]) fun p hp acc=>?_;have:=hm p hp;simp[this]
theorem KY(xs:ZX):Bz (Z xs)=some (.int xs.sum):=by unfold Bz Z;rw[Fm];dsimp only;rw[iK];rfl
theorem EV(b:Option Nat)(x:Nat)(o:Ok b x)(h j:Int)(hn:b=none->h=0):zh [T (ay b x),T (ix b h j)]=.ok (.int (pl x h j)) []:=by
 have mz:=Ej o;have st:=gS o;have c:=yT (it:=kE [(ax iH [.val (ag 0)]),(ag 1)]) (r:=[.sh (T (ay b x)),.sh (T (ix b h j))]) (el b x) (ix b h j) rfl (by cases b<;>simp[el,ix]) (by
  have zz:qj [T (el b x),T (ix b h j)]=some (((el b x).zip (ix b h j)).map fun p=>.tup [.int p.1,.int p.2]):=by cases b<;>rfl
  generalize T (ay b x)=S at *;generalize T (ix b h j)=I at *;generalize T (el b x)=SD at *;exact bw) (by cases b<;>simp[el,ix,HV,mz])
 have sm:=KY (((el b x).zip (ix b h j)).map fun p=>p.1*p.2);have e:(((el b x).zip (ix b h j)).map fun p=>p.1*p.2).sum=pl x h j:=by cases b with|none=>simp[el,ix,pl,hn]|some y=>simp[el,ix,pl,Int.mul_comm]
 rw[e] at sm;generalize Z (((el b x).zip (ix b h j)).map fun p=>p.1*p.2)=ZZ at *;generalize T (ay b x)=S at *;generalize T (ix b h j)=I at *;have c:aY 2 (kE [(ax iH [.val (ag 0)]),(ag 1)]) (cq [2,3]) (ret true) kF [.sh S,.sh I]=.ok ZZ [.sh S,.sh I]:=c;unfold zh Cq;exact rn
theorem vn(b:Option Nat)(x:Nat)(o:Ok b x)(p:Nat)(hp:p<cnt b x):qS [T (ay b x),.int p]=.ok (T (ix b ((p:Int) / sz x) ((p:Int) % sz x))) []:=by
 have st:=gS o;have s2:=gx x;have s64:=(i9 o).2.1;have mx:maxD [.int (sz x),.int 1]=some (.int (sz x)):=by rw[ot,show max (sz x) 1=sz x by lia]
 have m1:maxD [.int 1,.int 1]=some (.int 1):=rfl;have d1:∀i:Int,eP (.int i) (.int 1)=some (.int i):=fun i=>by rw[fH _ _ Ug Ug,Int.ediv_one]
 have d2:∀i:Int,eP (.int i) (.int (sz x))=some (.int (i / sz x)):=fun i=>fH _ _ Ug Ug;have r1:∀i:Int,dG (.int i) (.int 1)=some (.int 0):=fun i=>by rw[fY _ _ Ug,Int.emod_one]
 have r2:∀i:Int,dG (.int i) (.int (sz x))=some (.int (i % sz x)):=fun i=>fY _ _ Ug;have tn:∀(A B t4 t5:Sl)(xs:OK)(i v q m:Int) ,xs.length<100->free (some t4)=true->free (some t5)=true->maxD [.int v,.int 1]=some (.int v)->eP (.int i) (.int v)=some (.int q)->dG (.int i) (.int v)=some (.int m)->cont (bS (aP 4) dP (.int v) [A,B,.ow (.lst xs),.sh (.int i),t4,t5])=some [A,B,.ow (.lst (xs++[.int q])),.sh (.int m),.sh (.int v),.sh (.int v)]:=fun A B t4 t5 xs i v q m hx h4 h5 h1 h2 h3=>by have ap:=iZ (.int q) xs Ug;refine oE (r1:=[A,B,.ow (.lst xs),.sh (.int i),.sh (.int v),t5]) (by simp[h4]) ?_;unfold dP;exact bw
 cases b with
 |none=>
  have e:(p:Int) % sz x=p:=Int.emod_eq_of_lt Ug (by have:=cnt_none x;lia);have sq:c5 (T (el none x))=some [.int 1]:=rfl;have L:∀S,loop (aP 4) dP [.int 1] [.sh S,.sh (.int p),.ow (.lst []),.sh (.int p),.no,.no]=.ok .nx [.sh S,.sh (.int p),.ow (.lst [.int p]),.sh (.int 0),.sh (.int 1),.sh (.int 1)]:=fun S=>by exact(bE (tn _ _ .no .no [] p 1 _ _ O3 rfl rfl m1 (d1 p) (r1 p))).trans rfl
  have L:=L (T (ay none x));have t1:gb (.lst [.int (p:Int)])=some (T [(p:Int)]):=rfl;have ei:ix none ((p:Int) / sz x) ((p:Int) % sz x)=[(p:Int)]:=by rw[e];rfl
  rw[ei];generalize T (ay none x)=S at *;generalize T (el none x)=SD at *;generalize T [(p:Int)]=TP at *;unfold qS yJ;exact rn
 |some y=>
  have sq:c5 (T (el (some y) x))=some [.int (sz x),.int 1]:=rfl;have L:∀S,loop (aP 4) dP [.int (sz x),.int 1] [.sh S,.sh (.int p),.ow (.lst []),.sh (.int p),.no,.no]=.ok .nx [.sh S,.sh (.int p),.ow (.lst [.int ((p:Int) / sz x),.int ((p:Int) % sz x)]),.sh (.int 0),.sh (.int 1),.sh (.int 1)]:=fun S=>by exact(bE (tn _ _ .no .no [] p (sz x) _ _ O3 rfl rfl mx (d2 p) (r2 p))).trans ((bE (tn _ _ (.sh (.int (sz x))) (.sh (.int (sz x))) [.int ((p:Int) / sz x)] _ 1 _ _ O3 rfl rfl m1 (d1 _) (r1 _))).trans rfl)
  have L:=L (T (ay (some y) x));have t1:gb (.lst [.int ((p:Int) / sz x),.int ((p:Int) % sz x)])=some (T [(p:Int) / sz x,(p:Int) % sz x]):=rfl;have ei:ix (some y) ((p:Int) / sz x) ((p:Int) % sz x)=[(p:Int) / sz x,(p:Int) % sz x]:=rfl;rw[ei];generalize T (ay (some y) x)=S at *;generalize T (el (some y) x)=SD at *;generalize T [(p:Int) / sz x,(p:Int) % sz x]=TP at *;unfold qS yJ;exact rn
theorem lg{b:Option Nat}{x:Nat}(o:Ok b x):oV [T (ay b x)]=.ok (.lst ((List.range (cnt b x)).map fun(p:Nat)=>T (ix b ((p:Int) / sz x) ((p:Int) % sz x)))) []:=by
 have O4:=i9 o;have ce:=iE o;have er:vZ [.int ((cnt b x:Nat):Int)]=some ((List.range (cnt b x)).map fun(k:Nat)=>.int k):=v3 _ _ Ug Ug Ug;have c:aY 1 (eY [(ax kI [.val (ag 0)])]) (aP 1) (VP.ret true) gh [.sh (T (ay b x))]=.ok (.lst ((List.range (cnt b x)).map fun(p:Nat)=>T (ix b ((p:Int) / sz x) ((p:Int) % sz x)))) [.sh (T (ay b x))]:=by refine jN (fun(p:Nat)=>D.int p) (fun p=>T (ix b ((p:Int) / sz x) ((p:Int) % sz x))) (List.range (cnt b x)) bw (by simp;lia) rfl fun p hp acc=>?_;have:=vn b x o p (List.mem_range.mp hp);dsimp only[List.cons_append,List.nil_append];unfold gh;exact bw
 unfold oV B5;exact rn
theorem nD(b:Option Nat)(h j v:Int):qV [T (ix b h j),.int (lst b),.int v]=.ok (T (ix b h v)) []:=by cases b<;>kernel_rfl!
theorem Q1f(b:Option Nat)(x:Nat):zr [.int ((ay b x).length:Int)]=.ok (wy b 0 1) []:=by cases b<;>kernel_rfl!
theorem Iq(b:Option Nat)(c e bg st:Int)(hs:st=1\/st=-1)(he:e=1\/e=-1):zg [.tup [.int c,.int (lst b),.int e],.int bg,.int st]=.ok (.tup [.int (bg+st*c),.int (lst b),.int (st*e)]) []:=by
 have m1:=(HW hs c).2;have m2:=(HW hs e).2;have ne:¬st*e=0:=by rcases hs with rfl|rfl<;>rcases he with rfl|rfl<;>decide
 rw[zg,bG _ _ _ _ rfl];simp[Cp,m1,m2,ne]
theorem vH(b:Option Nat)(c e bg st:Int)(hs:st=1\/st=-1)(he:e=1\/e=-1):u9 [wy b c e,.int (lst b),.int bg,.int st]=.ok (wy b (bg+st*c) (st*e)) []:=by
 have pm:=Iq b c e bg st hs he;have i1:aq (wy b c e) (.int (lst b))=some (.tup [.int c,.int (lst b),.int e]):=by cases b<;>rfl
 have lo:hX (wy b c e)=some (wy b c e):=by cases b<;>rfl
 have sa:setAt (.int (lst b)) (.tup [.int (bg+st*c),.int (lst b),.int (st*e)]) (wy b c e)=some (wy b (bg+st*c) (st*e)):=by cases b<;>rfl
 have il:isLst (some (wy b c e))=true:=by cases b<;>rfl
 have fz:∀A B C E:Sl,∀w:D,HE 4 [A,B,C,E,.ow w]=.ok () [A,B,C,E,.sh w]:=fun _ _ _ _ _=>rfl;rw[u9,bG _ _ _ _ rfl];generalize wy b (bg+st*c) (st*e)=W2 at *;generalize wy b c e=W at *;simp[CJ,pm,i1,lo,sa,il,fz]
theorem Q1P(b:Option Nat)(c e:Int):aq (wy b c e) (.int (lst b))=some (.tup [.int c,.int (lst b),.int e]):=by cases b<;>rfl
theorem yz(b:Option Nat)(x:Nat)(c e:Int):Dj [wy b c e,T (ay b x)]=.ok (wy b c e) []:=by cases b<;>kernel_rfl!
theorem yh{b:Option Nat}{x:Nat}(o:Ok b x)(c e:Int)(he:e=1\/e=-1):u5 [wy b c e,T (el b x),.int ((ay b x).length:Int)]=.ok (.tup [.int c,T (eE b x e)]) []:=by
 have c0:aY 1 (eY [(ag 2)]) (aP 7) (VP.ret true) jD [.sh (wy b c e),.sh (T (el b x)),.sh (.int ((ay b x).length:Int)),.sh (.int 0),.no,.no,.no]=.ok (.lst ((ay b x).map fun _=>D.int 0)) [.sh (wy b c e),.sh (T (el b x)),.sh (.int ((ay b x).length:Int)),.sh (.int 0),.no,.no,.no]:=by cases b<;>kernel_rfl!
 have tn:∀(A B C t5 t6:Sl)(xs:OK)(s at_ f v k z p q:Int),free (some t5)=true->free (some t6)=true->0<=at_->cD (.int f) (.int v)=some (.int p)->cD (.int k) (.int v)=some (.int q)->aq (.lst xs) (.int at_)=some (.int z)->∀ys,setAt (.int at_) (.int (z+q)) (.lst xs)=some (.lst ys)->cont (bS (cq [5,6]) cM (.tup [.tup [.int f,.int at_,.int k],.int v]) [A,B,C,.sh (.int s),.ow (.lst xs),t5,t6])=some [A,B,C,.sh (.int (s+p)),.ow (.lst ys),.sh (.tup [.int f,.int at_,.int k]),.sh (.int v)]:=fun A B C t5 t6 xs s at_ f v k z p q h5 h6 h0 m1 m2 hz ys hs=>by
  have ne:nW (.int at_) (.int (-1))=some (.bl true):=by rw[ou,Uy Ug];rfl
  have i0:aq (.tup [.int f,.int at_,.int k]) (.int 0)=some (.int f):=rfl;have i1:aq (.tup [.int f,.int at_,.int k]) (.int 1)=some (.int at_):=rfl;have i2:aq (.tup [.int f,.int at_,.int k]) (.int 2)=some (.int k):=rfl;generalize D.tup [.int f,.int at_,.int k]=P at *;refine oE (r1:=[A,B,C,.sh (.int s),.ow (.lst xs),.sh P,.sh (.int v)]) (by simp[h5,h6]) ?_;unfold cM;exact bw
 cases b with
 |none=>
  have L:∀A B C,loop (cq [5,6]) cM [.tup [.tup [.int c,.int 0,.int e],.int 1]] [A,B,C,.sh (.int 0),.ow (.lst [.int 0]),.no,.no]=.ok .nx [A,B,C,.sh (.int c),.ow (.lst [.int e]),.sh (.tup [.int c,.int 0,.int e]),.sh (.int 1)]:=fun A B C=>by rw[bE (tn A B C .no .no [.int 0] 0 0 c 1 e 0 c e rfl rfl Ug (zS c) (zS e) rfl [.int e] (by rw[Int.zero_add];rfl)),Int.zero_add];rfl
  have zz:qj [wy none c e,T (el none x)]=some [.tup [.tup [.int c,.int 0,.int e],.int 1]]:=rfl;have L:=L (.sh (wy none c e)) (.sh (T (el none x))) (.sh (.int ((ay none x).length:Int)));have c0:_=Res.ok (D.lst [.int 0]) _:=c0;have tp:gb (.lst [.int e])=some (T (eE none x e)):=rfl;generalize wy none c e=W at *;generalize T (el none x)=SD at *;generalize T (eE none x e)=SE at *;generalize ((ay none x).length:Int)=LL at *;unfold u5 yL;exact rn
 |some y=>
  have L:∀A B C,loop (cq [5,6]) cM [.tup [.tup [.int 0,.int 0,.int 1],.int (sz x)],.tup [.tup [.int c,.int 1,.int e],.int 1]] [A,B,C,.sh (.int 0),.ow (.lst [.int 0,.int 0]),.no,.no]=.ok .nx [A,B,C,.sh (.int c),.ow (.lst [.int (sz x),.int e]),.sh (.tup [.int c,.int 1,.int e]),.sh (.int 1)]:=fun A B C=>by rw[bE (tn A B C .no .no [.int 0,.int 0] 0 0 0 (sz x) 1 0 0 (sz x) rfl rfl Ug (Wa _) (HV _) rfl [.int (sz x),.int 0] (by rw[Int.zero_add];rfl)),Int.add_zero,bE (tn A B C (.sh (.tup [.int 0,.int 0,.int 1])) (.sh (.int (sz x))) [.int (sz x),.int 0] 0 1 c 1 e 0 c e rfl rfl Ug (zS c) (zS e) rfl [.int (sz x),.int e] (by rw[Int.zero_add];rfl)),Int.zero_add];rfl
  have zz:qj [wy (some y) c e,T (el (some y) x)]=some [.tup [.tup [.int 0,.int 0,.int 1],.int (sz x)],.tup [.tup [.int c,.int 1,.int e],.int 1]]:=rfl;have L:=L (.sh (wy (some y) c e)) (.sh (T (el (some y) x))) (.sh (.int ((ay (some y) x).length:Int)));have c0:_=Res.ok (D.lst [.int 0,.int 0]) _:=c0;have tp:gb (.lst [.int (sz x),.int e])=some (T (eE (some y) x e)):=rfl;generalize wy (some y) c e=W at *;generalize T (el (some y) x)=SD at *;generalize T (eE (some y) x e)=SE at *;generalize ((ay (some y) x).length:Int)=LL at *;unfold u5 yL;exact rn
theorem Q1M(b:Option Nat)(c e h j:Int)(he:e=1\/e=-1):zd [.tup [.int c,.int (lst b),.int e],T (ix b h j)]=.ok (.int (c+e*j)) []:=by have m1:=(HW he j).2;rw[zd,bG _ _ _ _ rfl];cases b<;>simp[Ck,lst,ix,T,m1]
theorem IY{b:Option Nat}{x:Nat}(o:Ok b x)(c e h j:Int)(he:e=1\/e=-1)(hn:b=none->h=0):zi [.int c,T (eE b x e),T (ix b h j)]=.ok (.int (pl x h (c+e*j))) []:=by
 have mz:=Ej o;have m1:=(HW he j).2;have cc:=yT (it:=kE [(ag 1),(ag 2)]) (r:=[.sh (.int c),.sh (T (eE b x e)),.sh (T (ix b h j))]) (eE b x e) (ix b h j) rfl (by cases b<;>simp[eE,ix]) (by
  have zz:qj [T (eE b x e),T (ix b h j)]=some (((eE b x e).zip (ix b h j)).map fun p=>.tup [.int p.1,.int p.2]):=by cases b<;>rfl
  generalize T (ix b h j)=I at *;generalize T (eE b x e)=SD at *;exact bw) (by cases b<;>simp[eE,ix,m1,mz])
 have sm:=KY (((eE b x e).zip (ix b h j)).map fun p=>p.1*p.2);have ee:c+(((eE b x e).zip (ix b h j)).map fun p=>p.1*p.2).sum=pl x h (c+e*j):=by cases b with|none=>simp[eE,ix,pl,hn]|some y=>simp[eE,ix,pl];rw[Int.mul_comm h];lia
 have ad:=fR c (((eE b x e).zip (ix b h j)).map fun p=>p.1*p.2).sum;rw[ee] at ad;generalize (((eE b x e).zip (ix b h j)).map fun p=>p.1*p.2).sum=ss at *;generalize Z (((eE b x e).zip (ix b h j)).map fun p=>p.1*p.2)=ZZ at *;generalize T (eE b x e)=S at *;generalize T (ix b h j)=I at *;have cc:aY 2 (kE [(ag 1),(ag 2)]) (cq [3,4]) (ret true) jC [.sh (.int c),.sh S,.sh I]=.ok ZZ [.sh (.int c),.sh S,.sh I]:=cc;unfold zi Cr;exact rn
theorem Q11(b:Option Nat)(x:Nat):pd [T (ay b x),T (ay b x)]=.ok (T (ay b x)) []:=by
 have ne:∀z,¬sz z=1:=fun z=>by have:=gx z;lia
 have wo:zw [T (ay b x),.int ((ay b x).length:Int)]=.ok (Z (ay b x)) []:=by cases b<;>kernel_rfl!
 have mx:maxD [.int ((ay b x).length:Int),.int ((ay b x).length:Int)]=some (.int ((ay b x).length:Int)):=by rw[ot,Int.max_self]
 have tn:∀(A B C t4 t5:Sl)(xs:OK)(z:Nat),xs.length<100->free (some t4)=true->free (some t5)=true->cont (bS (cq [4,5]) dq (.tup [.int (sz z),.int (sz z)]) [A,B,C,.ow (.lst xs),t4,t5])=some [A,B,C,.ow (.lst (xs++[.int (sz z)])),.sh (.int (sz z)),.sh (.int (sz z))]:=fun A B C t4 t5 xs z hx h4 h5=>by
  have n1:nW (.int (sz z)) (.int (sz z))=some (.bl false):=by rw[ou,NU rfl];rfl
  have n2:=Ka (ne z);have ap:=iZ (.int (sz z)) xs Ug;refine oE (r1:=[A,B,C,.ow (.lst xs),.sh (.int (sz z)),.sh (.int (sz z))]) (by simp[h4,h5]) ?_;unfold dq;exact bw
 have ln:=mM (ay b x);cases b with
 |none=>
  have L:∀A B C,loop (cq [4,5]) dq [.tup [.int (sz x),.int (sz x)]] [A,B,C,.ow (.lst []),.no,.no]=.ok .nx [A,B,C,.ow (.lst [.int (sz x)]),.sh (.int (sz x)),.sh (.int (sz x))]:=fun A B C=>by exact(bE (tn A B C .no .no [] x O3 rfl rfl)).trans rfl
  have zz:qj [Z (ay none x),Z (ay none x)]=some [.tup [.int (sz x),.int (sz x)]]:=rfl;have L:=L (.sh (T (ay none x))) (.sh (T (ay none x))) (.sh (.int ((ay none x).length:Int)));have tp:gb (.lst [.int (sz x)])=some (T (ay none x)):=rfl;generalize T (ay none x)=S at *;generalize Z (ay none x)=SZ at *;generalize ((ay none x).length:Int)=n at *;unfold pd yM;exact rn
 |some y=>
  have L:∀A B C,loop (cq [4,5]) dq [.tup [.int (sz y),.int (sz y)],.tup [.int (sz x),.int (sz x)]] [A,B,C,.ow (.lst []),.no,.no]=.ok .nx [A,B,C,.ow (.lst [.int (sz y),.int (sz x)]),.sh (.int (sz x)),.sh (.int (sz x))]:=fun A B C=>by exact(bE (tn A B C .no .no [] y O3 rfl rfl)).trans ((bE (tn A B C (.sh (.int (sz y))) (.sh (.int (sz y))) [.int (sz y)] x O3 rfl rfl)).trans rfl)
  have zz:qj [Z (ay (some y) x),Z (ay (some y) x)]=some [.tup [.int (sz y),.int (sz y)],.tup [.int (sz x),.int (sz x)]]:=rfl;have L:=L (.sh (T (ay (some y) x))) (.sh (T (ay (some y) x))) (.sh (.int ((ay (some y) x).length:Int)));have tp:gb (.lst [.int (sz y),.int (sz x)])=some (T (ay (some y) x)):=rfl;generalize T (ay (some y) x)=S at *;generalize Z (ay (some y) x)=SZ at *;generalize ((ay (some y) x).length:Int)=n at *;unfold pd yM;exact rn
theorem xt(b:Option Nat)(x:Nat):qR [T (ay b x),.int (lst b)]=.ok (.bl true) []:=by cases b<;>kernel_rfl!
theorem Ah(b:Option Nat)(x:Nat):aq (T (ay b x)) (.int (lst b))=some (.int (sz x)):=by cases b<;>rfl
theorem zH(b:Option Nat)(h j:Int):aq (T (ix b h j)) (.int (lst b))=some (.int j):=by cases b<;>rfl
theorem zC(b:Option Nat)(x:Nat)(p:Int)(h0:0<=p)(h1:p<sz x):uS [T (ay b x),.int (lst b),.int p]=.ok (.bl true) []:=by have hs:=xt b x;have sl:=Ah b x;rw[uS,bG _ _ _ _ rfl];generalize T (ay b x)=S at *;simp[B4,hs,sl,h0,h1]
theorem Ly(b:Option Nat)(x:Nat):yZ [T (ay b x),.int (lst b),.int (sz x-1),.int (-1),.int (sz x)]=.ok (T (ay b x)) []:=by
 have s2:=gx x;have hs:=xt b x;have h1:=zC b x (sz x-1) Ug Ug;have h2:=zC b x 0 Ug Ug;have rp:qV [T (ay b x),.int (lst b),.int (sz x)]=.ok (T (ay b x)) []:=by cases b<;>kernel_rfl!
 have mm:cD (.int (-1)) (.int (sz x-1))=some (.int (-(sz x-1))):=by rw[cQ _ _ Ug Ug];congr 2;lia
 have e0:sz x-1+-(sz x-1)=0:=Ug;rw[yZ,bG _ _ _ _ rfl];generalize T (ay b x)=S at *;simp[B3,hs,h1,h2,rp,mm,e0,show ¬sz x<0 by lia,show 0<sz x by lia]
theorem CQ{b:Option Nat}{x:Nat}(o:Ok b x):u6 [T (ay b x)]=.ok (.bl true) []:=by
 have ce:=iE o;have O4:=i9 o;have hl:¬(4:Int)<((ay b x).length:Int):=by cases b<;>simp[ay]
 have c:aY 1 (fC (ag 0)) (aP 1) (VP.ret true) eL [.sh (T (ay b x))]=.ok (.lst ((ay b x).map fun _=>D.bl true)) [.sh (T (ay b x))]:=by
  refine jN D.int (fun _=>D.bl true) (ay b x) bw (by cases b<;>simp[ay]) rfl fun z hz acc=>?_;have Ud:0<=z/\z<=64:=by
   cases b with
   |none=>simp only[ay,List.mem_cons,List.not_mem_nil,or_false] at hz;subst hz;have:=gx x;lia|some y=>
    simp only[ay,List.mem_cons,List.not_mem_nil,or_false] at hz;have:=gx x;have:=gx y;have:y<=2:=o.1;rcases hz with rfl|rfl;unfold sz at *;lia
    lia
  simp[eL,Ud.1,Ud.2]
 have al:=xb (fun _:Int=>true) (ay b x);rw[u6,bG _ _ _ _ rfl];have ln:=mM (ay b x);generalize T (ay b x)=S at *;simp[Cz,ln,hl,c,al,ce,show (cnt b x:Int)<=4096 by lia]
theorem table_at{b:Option Nat}{x:Nat}(o:Ok b x)(cs:ZX)(hc:cs.length=cnt b x)(hr:∀c∈cs,Rt c):lK [.ins "Table" [] [],T (ay b x),Z cs]=.ok .bB [Tb (ay b x) cs]:=by
 have ca:=CQ o;have ce:=iE o;have O4:=i9 o;have c:∀A B C:Sl,aY 1 (fC (m1 (aC br "cells") (sY 0))) (aP 3) (VP.ret true) gg [.io (Tb (ay b x) cs),B,C]=.ok (.lst (cs.map fun _=>D.bl true)) [.io (Tb (ay b x) cs),B,C]:=fun A B C=>by
  refine jN D.int (fun _=>D.bl true) cs (by have:=dm (ay b x) cs;simp[br,this]) Ug rfl fun z hz acc=>?_;have:=hr z hz;have rt:oW [.int z]=.ok (.bl true) []:=by rw[oW,bG _ _ _ _ rfl];simp[yK,this.1,this.2]
  simp[gg,rt]
 have al:mq true (.lst (cs.map fun _=>D.bl true))=some (.bl true):=by rw[xb (fun _:Int=>true) cs];simp
 have f1:aC br "cells" (Tb (ay b x) cs)=some (Z cs):=dm (ay b x) cs;have f2:aC aO "sides" (Tb (ay b x) cs)=some (T (ay b x)):=dY (ay b x) cs;have s1:j5 aO "sides" (T (ay b x)) (.ins "Table" [] [])=_:=Q1v (T (ay b x));have s2:j5 br "cells" (Z cs) (.ins "Table" ["sides"] [T (ay b x)])=some (Tb (ay b x) cs):=Q1W (T (ay b x)) (Z cs);have ln:bK (Z cs)=some (.int (cnt b x)):=by rw[sV,hc]
 have nz:nW (.int (cnt b x)) (.int (cnt b x))=some (.bl false):=O3;have c':=fun A B=>c .no A B;unfold lK Lo;generalize D.lst (cs.map fun _=>D.bl true)=L at *;generalize Tb (ay b x) cs=TT at *;have c1:=c' (.sh (T (ay b x))) (.sh (Z cs));have tz:=An (ay b x);have lz:=zO cs;generalize T (ay b x)=S at *;generalize Z cs=C at *;exact ZW
noncomputable def xY(i:Nat)(n:Int):Int:=if i=16 then(0-n) % 1000003 else if i=17 then n / 2 else if n=0 then 1 else 0
noncomputable def ni(i:Nat)(a b:Int):Int:=if i=19 then(a+b) % 1000003 else if i=20 then(a-b) % 1000003 else if i=21 then a*b % 1000003 else if i=22 then min a b else if i=23 then max a b else if i=24 then(if a<b then 1 else 0) else if a=b then 1 else 0
theorem mR(b:Bool):qU [.bl b]=.ok (.int (if b=true then 1 else 0)) []:=by rw[qU,bG _ _ _ _ rfl];simp[Co];cases b<;>simp
theorem gD(i:Nat)(hi:i∈[19,20,21,22,23,24,25])(a b:Int)(ha:Rt a):lJ [.str (nm i),.int a,.int b]=.ok (.int (ni i a b)) []:=by have mu:=cQ a b (by have:=ha.1;lia) (by have:=ha.2;lia);have m1:=RW (a+b);have m2:=RW (a-b);have m3:=RW (a*b);have mn:=HU a b;have mx:=ot a b;have o1:=mR (decide (a<b));have o2:=mR (decide (a=b));simp only[decide_eq_true_eq] at o1 o2;unfold lJ B1;simp only[List.mem_cons,List.not_mem_nil,or_false] at hi;rcases hi with rfl|rfl|rfl|rfl|rfl|rfl|rfl;show _=FR.ok (.int ((a+b) % 1000003)) [];exact rn;show _=FR.ok (.int ((a-b) % 1000003)) [];exact rn;show _=FR.ok (.int (a*b % 1000003)) [];exact rn;show _=FR.ok (.int (min a b)) [];exact rn;show _=FR.ok (.int (max a b)) [];exact rn;show _=FR.ok (.int (if a<b then 1 else 0)) [];exact rn;show _=FR.ok (.int (if a=b then 1 else 0)) [];exact rn
theorem uN(i:Nat){a b:Int}(ha:Rt a)(hb:Rt b):Rt (ni i a b):=by
 obtain⟨h1,h2⟩:=ha;obtain⟨h3,h4⟩:=hb;unfold ni Rt;repeat' split
 all_goals first|lia|exact⟨Int.emod_nonneg _ (by decide),xE _ (by decide)⟩
theorem nC(i:Nat)(hi:i∈[16,17,18])(n:Int):uY [.str (nm i),.int n]=.ok (.int (xY i n)) []:=by rw[uY,bG _ _ _ _ rfl];unfold Cn xY;simp at hi;rcases hi with h|h|h<;>subst h<;>simp[BN,RW,Q0p,mR]
theorem Ih(i:Nat){n:Int}(h:Rt n):Rt (xY i n):=by
 obtain⟨h1,h2⟩:=h;unfold xY Rt;repeat' split
 all_goals first|lia|exact⟨Int.emod_nonneg _ (by decide),xE _ (by decide)⟩
def cl(x:Nat)(c:ZX)(h j:Int):Int:=c.getD (pl x h j).toNat 0
def tab(b:Option Nat)(x:Nat)(f:Int->Int->Int):ZX:=(List.range (cnt b x)).map fun(p:Nat)=>f ((p:Int) / sz x) ((p:Int) % sz x)
theorem Al(b:Option Nat)(x:Nat)(f:Int->Int->Int):(tab b x f).length=cnt b x:=by simp[tab]
theorem EU{x:Nat}{h j:Int}(j0:0<=j)(j1:j<sz x):pl x h j / sz x=h/\pl x h j % sz x=j:=by have s2:=gx x;unfold pl;rw[Int.add_comm,Int.add_mul_ediv_right _ _ Ug,Int.ediv_eq_zero_of_lt j0 j1,Int.add_mul_emod_self_right,Int.emod_eq_of_lt j0 j1];exact⟨Ug,rfl⟩
theorem OH{b:Option Nat}{x:Nat}(f:Int->Int->Int){h j:Int}(i:In b x h j):cl x (tab b x f) h j=f h j:=by obtain⟨p0,p1⟩:=i.at;obtain⟨d1,d2⟩:=EU (h:=h) i.j0 i.j1;have hp:(pl x h j).toNat<cnt b x:=Ug;have e:(((pl x h j).toNat:Nat):Int)=pl x h j:=Ug;unfold cl tab;simp only[OR,List.getElem?_map,List.getElem?_range hp,Option.map_some,Option.getD_some,e,d1,d2]
def runN(d:Nat)(f:Int->Int):Nat->Int|0=>f 0|j+1=>ni d (runN d f j) (f (j+1:Nat))
def gB(x:Nat)(V:Nat->ZX):PL->Int->Int->Int|.given _,h,j=>0|.one d a,h,j=>xY d (cl x (V a) h j)|.both d a c,h,j=>ni d (cl x (V a) h j) (cl x (V c) h j)|.cO a c e,h,j=>if cl x (V a) h j≠0 then cl x (V c) h j else cl x (V e) h j|.shift a _ n y,h,j=>if 0<=j-n/\j-n<sz x then cl x (V a) h (j-n) else y|.cut a _ _ _ _,h,j=>cl x (V a) h (sz x-1-j)|.run d a _,h,j=>runN d (cl x (V a) h) j.toNat
def iN(b:Option Nat)(x:Nat)(G:ZX)(V:Nat->ZX):PL->List Int|.given _=>G|l=>tab b x (gB x V l)
def qH(b:Option Nat)(x:Nat):PL->Prop|.given j=>j=0|.one d _=>d∈[16,17,18]|.both d _ _=>d∈[19,20,21,22,23,24,25]|.cO _ _ _=>True|.shift _ k _ y=>k=lst b/\Rt y|.cut _ k g st m=>k=lst b/\g=sz x-1/\st=-1/\m=sz x|.run d _ k=>k=lst b/\d∈[19,21,22,23]
def Cs(b:Option Nat)(x:Nat)(c:ZX):Prop:=c.length=cnt b x/\∀v∈c,Rt v
theorem Cs.get{b:Option Nat}{x:Nat}{c:ZX}(h:Cs b x c)(i:Nat):Rt (c.getD i 0):=by rw[OR];cases e:c[i]? with|none=>exact⟨by decide,by decide⟩|some v=>exact h.2 v (TQ e)
theorem Cs.at{b:Option Nat}{x:Nat}{c:ZX}(h:Cs b x c)(g j:Int):Rt (cl x c g j):=h.get _
theorem CV{b:Option Nat}{x:Nat}{f:Int->Int->Int}(h:∀g j,In b x g j->Rt (f g j)):Cs b x (tab b x f):=⟨Al ..,fun v hv=>by obtain⟨p,hp,rfl⟩:=List.mem_map.mp hv;exact h _ _ (in_of (List.mem_range.mp hp)).1⟩
theorem tS(d:Nat){f:Int->Int}(h:∀j,Rt (f j)):∀j,Rt (runN d f j)|0=>h 0|j+1=>uN d (tS d h j) (h _)
theorem D4{b:Option Nat}{x:Nat}{V:Nat->ZX}{l:PL}(hf:qH b x l)(h:∀a∈l.ns,Cs b x (V a))(g j:Int):Rt (gB x V l g j):=by cases l with|given=>exact⟨(by decide:(0:Int)<=0),(by decide:(0:Int)<1000003)⟩|one d a=>exact Ih _ ((h a (by simp[PL.ns])).at ..)|both d a c=>exact uN _ ((h a (by simp[PL.ns])).at ..) ((h c (by simp[PL.ns])).at ..)|cO a c e=>show Rt (if _ then _ else _);split;exact(h c (by simp[PL.ns])).at ..;exact(h e (by simp[PL.ns])).at ..|shift a k n y=>show Rt (if _ then _ else _);split;exact(h a (by simp[PL.ns])).at ..;exact hf.2|cut a=>exact(h a (by simp[PL.ns])).at ..|run d a=>exact tS _ (fun j=>(h a (by simp[PL.ns])).at ..) _
theorem vy{b:Option Nat}{x:Nat}{G:ZX}{V:Nat->ZX}{l:PL}(hG:Cs b x G)(hf:qH b x l)(h:∀a∈l.ns,Cs b x (V a)):Cs b x (iN b x G V l):=by have t:Cs b x (tab b x (gB x V l)):=CV fun g j _=>D4 hf h g j;cases l with|given=>exact hG|_=>exact t
theorem vx{b:Option Nat}{x:Nat}{G:ZX}{V W:Nat->ZX}{l:PL}(h:∀a∈l.ns,V a=W a):iN b x G V l=iN b x G W l:=by
 have t:gB x V l=gB x W l:=by funext g j;cases l<;>simp only[PL.ns,List.mem_cons,List.not_mem_nil,or_false,forall_eq_or_imp,forall_eq] at h<;>simp only[gB,h]
 cases l with|given=>rfl|_=>exact congrArg (tab b x) t
theorem CS(b:Option Nat)(x:Nat)(G:ZX)(hG:Cs b x G)(ls:ZO)(wf:Wf ls)(hf:∀l∈ls,qH b x l):∃V:Nat->ZX,∀i<ls.length,V i=iN b x G V (cP ls i)/\Cs b x (V i):=by
 have go:∀n,n<=ls.length->∃V:Nat->ZX,∀i<n,V i=iN b x G V (cP ls i)/\Cs b x (V i):=by
  intro n;induction n with
  |zero=>exact fun _=>⟨fun _=>[],fun i hi=>absurd hi Ug⟩|succ n ih=>
   intro hn;obtain⟨V,hV⟩:=ih Ug;have hl:ls[n]?=some (cP ls n):=by simp[cP,show n<ls.length by lia]
   have nl:=wf n _ hl;have e:∀i,i<=n->iN b x G (fun i=>if i=n then iN b x G V (cP ls n) else V i) (cP ls i)=iN b x G V (cP ls i):=fun i hi=>by
    refine vx fun a ha=>S8 ?_;have:=wf i (cP ls i) (by simp[cP,show i<ls.length by lia]) a ha
    lia
   refine⟨fun i=>if i=n then iN b x G V (cP ls n) else V i,fun i hi=>?_⟩;rw[e i Ug];by_cases c:i=n;subst c;dsimp only;rw[WL rfl];exact⟨rfl,vy hG (hf _ (TQ hl)) fun a ha=>(hV a (nl a ha)).2⟩;dsimp only;rw[S8 c];exact hV i Ug
 exact go _ (Gm _)
theorem Am{b:Option Nat}{x:Nat}(o:Ok b x){c:ZX}(hc:c.length=cnt b x){h j:Int}(i:In b x h j):xn [Tb (ay b x) c,T (ix b h j)]=.ok (.int (cl x c h j)) []:=by
 have pa:=EV b x o h j i.hn;obtain⟨p0,p1⟩:=i.at;have it:aq (Z c) (.int (pl x h j))=some (.int (cl x c h j)):=by unfold Z cl;rw[fI];refine ip _ _ _ p0 ?_;have:(pl x h j).toNat<c.length:=Ug;simp[this]
 have f1:aC br "cells" (Tb (ay b x) c)=some (Z c):=dm (ay b x) c;have f2:aC aO "sides" (Tb (ay b x) c)=some (T (ay b x)):=dY (ay b x) c;generalize Tb (ay b x) c=TT at *;generalize T (ix b h j)=I at *;unfold xn Ln;exact rn
theorem v9{b:Option Nat}{x:Nat}(o:Ok b x){c:ZX}(hc:c.length=cnt b x){h j:Int}(i:In b x h j):pe [Tb (ay b x) c,T (ix b h j)]=.ok (.int (cl x c h j)) []:=by
 have tc:=Am o hc i;have ic:=ji (ay b x) c;have f2:aC aO "sides" (Tb (ay b x) c)=some (T (ay b x)):=dY (ay b x) c;have c1:uR (T (ix b h j)) (some (((ix b h j).length:Int)-((ay b x).length:Int))) none=some (T (ix b h j)):=by cases b<;>rfl
 have l1:=mM (ix b h j);have l2:=mM (ay b x);have tt:=ub (ix b h j);have c2:∀R,aY 2 (kE [(m1 (aC aO "sides") (ag 0)),(ag 2)]) (cq [3,4]) (VP.ret true) fG [.sh (Tb (ay b x) c),R,.sh (T (ix b h j))]=.ok (Z (ix b h j)) [.sh (Tb (ay b x) c),R,.sh (T (ix b h j))]:=fun R=>by
  have ne:∀z,¬sz z=1:=fun z=>by have:=gx z;lia
  generalize Tb (ay b x) c=TT at *;cases b<;>simp[f2,T,Z,ix,ay,qj,pK,DN,AX,Ip,fG,iZ,ne]
 have c3:=c2 (.sh (T (ix b h j)));clear c2;generalize Tb (ay b x) c=TT at *;generalize T (ix b h j)=I at *;generalize T (ay b x)=S at *;generalize Z (ix b h j)=J at *;unfold pe CF;exact rn
structure Md(b:Option Nat)(x:Nat)(V:Nat->ZX)(M:OK)(l:PL):Prop where
 get:∀a∈l.ns,M[a]?=some (Tb (ay b x) (V a))
 cs:∀a∈l.ns,Cs b x (V a)
theorem sU{M:OK}{a:Nat}{d:D}(h:M[a]?=some d):aq (.lst M) (.int (a:Int))=some d:=by rw[fI];exact ip _ _ _ Ug (by simpa using h)
theorem Q15{b:Option Nat}{x:Nat}(o:Ok b x){V:Nat->ZX}{M:OK}{l:PL}(m:Md b x V M l)(hf:qH b x l)(h0:l.k≠0)(wM:l.k≠13){h j:Int}(i:In b x h j)(S:D):nj [l.d,S,.lst M,T (ix b h j)]=.ok (.int (gB x V l h j)) [.lst M]:=by
 cases l with
 |given=>exact absurd rfl h0|run=>exact absurd rfl wM|one d a=>have g:=sU (m.get a (by simp[PL.ns]));have t:=Am o (m.cs a (by simp[PL.ns])).1 i;have ic:=ji (ay b x) (V a);have od:=nC d hf (cl x (V a) h j);show _=FR.ok (.int (xY d (cl x (V a) h j))) _;generalize Tb (ay b x) (V a)=TT at *;generalize T (ix b h j)=I at *;generalize cl x (V a) h j=v at *;unfold nj oK PL.d;exact rn|both d a c=>have g1:=sU (m.get a (by simp[PL.ns]));have g2:=sU (m.get c (by simp[PL.ns]));have t1:=v9 o (m.cs a (by simp[PL.ns])).1 i;have t2:=v9 o (m.cs c (by simp[PL.ns])).1 i;have od:=gD d hf (cl x (V a) h j) (cl x (V c) h j) ((m.cs a (by simp[PL.ns])).at ..);show _=FR.ok (.int (ni d (cl x (V a) h j) (cl x (V c) h j))) _;generalize Tb (ay b x) (V a)=TA at *;generalize Tb (ay b x) (V c)=TC at *;generalize T (ix b h j)=I at *;generalize cl x (V a) h j=v at *;generalize cl x (V c) h j=w at *;unfold nj oK PL.d;exact rn|cO a c e=>
  have g1:=sU (m.get a (by simp[PL.ns]));have g2:=sU (m.get c (by simp[PL.ns]));have g3:=sU (m.get e (by simp[PL.ns]));have t1:=v9 o (m.cs a (by simp[PL.ns])).1 i;have t2:=v9 o (m.cs c (by simp[PL.ns])).1 i;have t3:=v9 o (m.cs e (by simp[PL.ns])).1 i;show _=FR.ok (.int (if cl x (V a) h j≠0 then cl x (V c) h j else cl x (V e) h j)) _;generalize Tb (ay b x) (V a)=TA at *;generalize Tb (ay b x) (V c)=TC at *;generalize Tb (ay b x) (V e)=TE at *;generalize T (ix b h j)=I at *;generalize cl x (V a) h j=u at *;generalize cl x (V c) h j=v at *;generalize cl x (V e) h j=w at *;have wc:zv [TA,TC,TE,I]=.ok (.int (if u≠0 then v else w)) []:=by have nu:nW (.int u) (.int 0)=some (.bl (!decide (u=0))):=ou u 0;unfold zv CK;by_cases q:u=0;rw[S8 (by simp[q])];rw[NU q] at nu;exact rn;rw[WL q];rw[Uy q] at nu;exact rn
  unfold nj oK PL.d;exact rn
 |shift a k n y=>
  obtain⟨rfl,_⟩:=hf;have g1:=sU (m.get a (by simp[PL.ns]));have ic:=ji (ay b x) (V a);have f2:aC aO "sides" (Tb (ay b x) (V a))=some (T (ay b x)):=dY (ay b x) (V a);have il:=zH b h j;have sl:=Ah b x;have rp:=nD b h j (j-n);show _=FR.ok (.int (if 0<=j-n/\j-n<sz x then cl x (V a) h (j-n) else y)) _;have sc:qW [Tb (ay b x) (V a),.int (lst b),.int n,.int y,T (ix b h j)]=.ok (.int (if 0<=j-n/\j-n<sz x then cl x (V a) h (j-n) else y)) []:=by by_cases q1:0<=j-n;by_cases q2:j-n<sz x;rw[WL ⟨q1,q2⟩];have t1:=Am o (m.cs a (by simp[PL.ns])).1 (show In b x h (j-n) from⟨q1,q2,i.h0,i.h1,i.hn⟩);have l1:=pG 0 (j-n);have l2:=xJ (j-n) (sz x);rw[NU q1] at l1;rw[NU q2] at l2;generalize Tb (ay b x) (V a)=TA at *;generalize T (ix b h j)=I at *;generalize T (ix b h (j-n))=J at *;generalize T (ay b x)=S' at *;unfold qW uL;exact rn;rw[S8 (fun z=>q2 z.2)];have l1:=pG 0 (j-n);have l2:=xJ (j-n) (sz x);rw[NU q1] at l1;rw[Uy q2] at l2;generalize Tb (ay b x) (V a)=TA at *;generalize T (ix b h j)=I at *;generalize T (ay b x)=S' at *;unfold qW uL;exact rn;rw[S8 (fun z=>q1 z.1)];have l1:=pG 0 (j-n);rw[Uy q1] at l1;generalize Tb (ay b x) (V a)=TA at *;generalize T (ix b h j)=I at *;generalize T (ay b x)=S' at *;unfold qW uL;exact rn
  generalize Tb (ay b x) (V a)=TA at *;generalize T (ix b h j)=I at *;generalize lst b=k at *;generalize (if 0<=j-n/\j-n<sz x then cl x (V a) h (j-n) else y)=v at *;unfold nj oK PL.d;exact rn
 |cut a k g st mm=>
  obtain⟨rfl,rfl,rfl,rfl⟩:=hf;have g1:=sU (m.get a (by simp[PL.ns]));have ic:=ji (ay b x) (V a);have il:=zH b h j;have rp:=nD b h j (sz x-1-j);have t1:=Am o (m.cs a (by simp[PL.ns])).1 (show In b x h (sz x-1-j) from⟨by have:=i.j1;lia,by have:=i.j0;lia,i.h0,i.h1,i.hn⟩);have mm:cD (.int (-1)) (.int j)=some (.int (-j)):=by rw[cQ _ _ Ug Ug];congr 2;lia
  have ad:cx (.int (sz x-1)) (.int (-j))=some (.int (sz x-1-j)):=fR _ _;show _=FR.ok (.int (cl x (V a) h (sz x-1-j))) _;generalize Tb (ay b x) (V a)=TA at *;generalize T (ix b h j)=I at *;generalize T (ix b h (sz x-1-j))=J at *;generalize cl x (V a) h (sz x-1-j)=v at *;generalize sz x-1-j=w at *;generalize lst b=k at *;have vc:zu [PL.d (.cut a k (sz x-1) (-1) (sz x)),TA,I]=.ok (.int v) []:=by unfold zu CH PL.d;exact rn
  unfold PL.d at vc;unfold nj oK PL.d;exact rn
theorem Lz(c:ZX):jP [Z c]=some ((List.range c.length).map fun(i:Nat)=>D.tup [.int i,.int (c.getD i 0)]):=by
 unfold Z;rw[iF,mB];refine congrArg some (Nj O3 fun i h1 h2=>?_);have h:i<c.length:=by simpa using h2
 simp[h]
def gr(b:Option Nat)(x d:Nat)(c:ZX):ZX:=tab b x fun h j=>runN d (cl x c h) j.toNat
theorem xf{b:Option Nat}{x:Nat}(f:Int->Int->Int){p:Nat}(hp:p<cnt b x):(tab b x f).getD p 0=f ((p:Int) / sz x) ((p:Int) % sz x):=by simp[tab,hp]
theorem JQ{b:Option Nat}{x:Nat}(c:ZX){p:Nat}(hp:p<cnt b x):cl x c ((p:Int) / sz x) ((p:Int) % sz x)=c.getD p 0:=by unfold cl;rw[(in_of hp).2];simp
theorem v5{b:Option Nat}{x d:Nat}{c:ZX}{p:Nat}(hp:p<cnt b x):(gr b x d c).getD p 0=if (p:Int) % sz x=0 then c.getD p 0 else ni d ((gr b x d c).getD (p-1) 0) (c.getD p 0):=by
 have s2:=gx x;obtain⟨⟨j0,j1,h0,h1,hn⟩,e⟩:=in_of hp;have ec:=JQ c hp;unfold gr;rw[xf _ hp];by_cases q:(p:Int) % sz x=0;rw[WL q,<-ec,q];rfl;rw[S8 q];have VJ:p-1<cnt b x:=Ug;rw[xf _ VJ];have e1:((p-1:Nat):Int)=pl x ((p:Int) / sz x) ((p:Int) % sz x-1):=by unfold pl at e ⊢;have:(1:Int)<=p:=by {have:p≠0:=fun z=>q (by subst z;simp);lia};lia
 obtain⟨d1,d2⟩:=EU (x:=x) (h:=(p:Int) / sz x) (j:=(p:Int) % sz x-1) Ug Ug;rw[e1,d1,d2,<-ec];generalize (p:Int) / sz x=h at *;generalize (p:Int) % sz x=j at *;obtain⟨k,rfl⟩:∃k:Nat,j=k+1:=⟨(j-1).toNat,Ug⟩;rw[show ((k:Int)+1).toNat=k+1 by lia,show ((k:Int)+1-1).toNat=k by lia];rfl
theorem Fc{b:Option Nat}{x d:Nat}{c:ZX}(h:Cs b x c):Cs b x (gr b x d c):=CV fun g j _=>tS _ (fun j=>h.at ..) _
theorem take_snoc(R:ZX)(p:Nat)(hp:p<R.length):R.take (p+1)=R.take p++[R.getD p 0]:=by rw[List.take_add_one];simp[hp]
theorem U2(xs:ZX)(v:Int)(h:xs.length<=100):gW (.int v) (Z xs)=some (Z (xs++[v])):=Lj xs v Ug
theorem XW(xs:ZX)(i:Nat)(h:i<xs.length):aq (Z xs) (.int (i:Int))=some (.int (xs.getD i 0)):=by unfold Z;rw[fI];exact ip _ _ _ Ug (by simp[h])
theorem SI(b:Option Nat)(x:Nat):aq (T (el b x)) (.int (lst b))=some (.int 1):=by cases b<;>rfl
theorem Q1V{b:Option Nat}{x:Nat}(o:Ok b x){c:ZX}(hc:Cs b x c){d:Nat}(hd:d∈[19,20,21,22,23,24,25]):zl [.str (nm d),Tb (ay b x) c,.int (lst b)]=.ok (Z (gr b x d c)) []:=by
 have st:=gS o;have ss:=SI b x;have f1:aC br "cells" (Tb (ay b x) c)=some (Z c):=dm (ay b x) c;have f2:aC aO "sides" (Tb (ay b x) c)=some (T (ay b x)):=dY (ay b x) c;have O4:=i9 o;have rl:(gr b x d c).length=cnt b x:=Al ..;have en:=Lz c;rw[hc.1] at en;obtain⟨s,t,hs,ht,L⟩:=eU (g:=cq [5,6]) (body:=eW) (fun(i:Nat)=>D.tup [.int i,.int (c.getD i 0)]) (fun(s:ZX)(t:Sl×Sl×Sl)=>[.sh (.str (nm d)),.sh (Tb (ay b x) c),.sh (.int (lst b)),.sh (.int 1),.ow (Z s),t.1,t.2.1,t.2.2]) (fun t=>free (some t.1)=true/\free (some t.2.1)=true/\free (some t.2.2)=true) (List.range (cnt b x))
  (fun k s=>s=(gr b x d c).take k) [] (.no,.no,.no) ⟨rfl,rfl,rfl⟩ O3 (by
  intro p i hi s t ht hP;obtain⟨t5,t6,t7⟩:=t;obtain⟨h5,h6,h7⟩:=ht;dsimp only at h5 h6 h7;obtain⟨rfl,hp⟩:=fg hi;subst hP;have ia:=vn b x o i hp;have il:=zH b ((i:Int) / sz x) ((i:Int) % sz x);have e:=v5 (d:=d) (c:=c) hp;refine⟨(gr b x d c).take (i+1),(.sh (.int i),.sh (.int (c.getD i 0)),.sh (.bl (decide ((i:Int) % sz x=0)))),rfl,⟨rfl,rfl,rfl⟩,?_⟩;have ap:=U2 ((gr b x d c).take i) ((gr b x d c).getD i 0) (by simp;lia);rw[<-take_snoc _ _ Ug] at ap;have it:i≠0->aq (Z ((gr b x d c).take i)) (.int ((i:Int)-1))=some (.int ((gr b x d c).getD (i-1) 0)):=fun h0=>by have:=XW ((gr b x d c).take i) (i-1) (by simp;lia);rw[show ((i-1:Nat):Int)=(i:Int)-1 by lia] at this;rw[this];congr 2;simp[show i-1<i by lia]
  have bd:=fun h0:i≠0=>gD d hd ((gr b x d c).getD (i-1) 0) (c.getD i 0) ((Fc (d:=d) hc).get _);have i0:i=0->(i:Int) % sz x=0:=fun z=>by subst z;simp
  have eg:=lH ((i:Int) % sz x) 0;have XU:∀w,isLst (some (Z w))=true:=fun _=>rfl;generalize c.getD i 0=v at *;generalize (gr b x d c).getD i 0=w at *;generalize (gr b x d c).getD (i-1) 0=u at *;generalize (gr b x d c).take i=Q at *;generalize (gr b x d c).take (i+1)=Q' at *;generalize Tb (ay b x) c=TT at *;generalize T (ix b ((i:Int) / sz x) ((i:Int) % sz x))=I at *;generalize T (ay b x)=S at *;by_cases q:(i:Int) % sz x=0;rw[WL q] at e;subst e;simp[bS,eW,h5,h6,h7,f2,ia,il,q,XU,ap];rw[S8 q] at e;have h0:i≠0:=fun z=>q (i0 z);have Zu:=it h0;have Xa:=bd h0;rw[<-e] at Xa;simp[bS,eW,h5,h6,h7,f2,ia,il,q,XU,Zu,Xa,ap])
 rw[EZ] at hs;rw[hs,OG Ug] at L;obtain⟨t5,t6,t7⟩:=t;rw[show Z ([]:ZX)=D.lst [] from rfl] at L;dsimp only at L;generalize Tb (ay b x) c=TT at *;generalize Z (gr b x d c)=RR at *;generalize Z c=CC at *;generalize T (ay b x)=S at *;generalize T (el b x)=S2 at *;have fz:HE 4 [.sh (.str (nm d)),.sh TT,.sh (.int (lst b)),.sh (.int 1),.ow RR,t5,t6,t7]=.ok () [.sh (.str (nm d)),.sh TT,.sh (.int (lst b)),.sh (.int 1),.sh RR,t5,t6,t7]:=rfl;unfold zl Cy;exact rn
theorem Q2P{v:Int}(h:Rt v):oW [.int v]=.ok (.bl true) []:=by rw[oW,bG _ _ _ _ rfl];simp[yK,h.1,h.2]
theorem Q1i{b:Option Nat}{x:Nat}{l:PL}(hf:qH b x l):Dg [l.d]=.ok (.bl true) []:=by
 cases l with
 |one d a=>
  have hf:d=16\/d=17\/d=18:=by simpa[qH] using hf
  rcases hf with rfl|rfl|rfl<;>kernel_rfl!
 |both d a c=>
  have hf:d=19\/d=20\/d=21\/d=22\/d=23\/d=24\/d=25:=by simpa[qH] using hf
  rcases hf with rfl|rfl|rfl|rfl|rfl|rfl|rfl<;>kernel_rfl!
 |run d a k=>
  have hf:d=19\/d=21\/d=22\/d=23:=by simpa[qH] using hf.2
  rcases hf with rfl|rfl|rfl|rfl<;>kernel_rfl!
 |_=>kernel_rfl!
theorem GK{b:Option Nat}{x:Nat}{l:PL}(hf:qH b x l):ze [l.d]=.ok (.bl true) []:=by cases l with|shift a k n y=>have:=Q2P hf.2;unfold ze Cm PL.d;have n8:nW (.str (nm 8)) (.str (nm 8))=some (.bl false):=Q0H 8 8 (by decide) (by decide);exact rn|_=>kernel_rfl!
theorem FA{b:Option Nat}{x:Nat}{l:PL}(hf:qH b x l){n:Nat}(hn:∀a∈l.ns,a<n):zj [l.d,.int n,.int 1]=.ok (.bl true) []:=by
 have kk:=PL.kind l;have nb:=l.named;have fw:=l.jR;by_cases h0:l.k=0;cases l with|given j=>cases (show j=0 from hf);kernel_rfl!|_=>cases h0
 have e0:=BN l.k 0 (by have:=l.Uk;lia) Ug;rw[Uy h0] at e0;have c:aY 1 (fC (ax o6 [.val (ag 0)])) (aP 3) (VP.ret true) cW [.sh l.d,.sh (.int n),.sh (.int 1)]=.ok (.lst (l.ns.map fun _=>D.bl true)) [.sh l.d,.sh (.int n),.sh (.int 1)]:=by generalize l.d=ld at *;refine jN (fun(a:Nat)=>D.int a) (fun _=>D.bl true) l.ns bw Ug rfl fun a ha acc=>?_;have:=hn a ha;simp[cW,this]
 have al:mq true (.lst (l.ns.map fun _=>D.bl true))=some (.bl true):=by rw[xb (fun _:Nat=>true) l.ns];simp
 generalize D.lst (l.ns.map fun _=>D.bl true)=L at *;generalize l.d=ld at *;unfold zj Ct;exact rn
theorem Jx{b:Option Nat}{x:Nat}{l:PL}(hf:qH b x l){n:Nat}(hn:∀a∈l.ns,a<n):kJ [l.d,fB (List.replicate n (ay b x)),.lst [T (ay b x)]]=.ok (T (ay b x)) [fB (List.replicate n (ay b x))]:=by
 have it:∀a∈l.ns,aq (fB (List.replicate n (ay b x))) (.int (a:Int))=some (T (ay b x)):=fun a ha=>jl _ _ _ (by simp[hn a ha]);have mt:=Q11 b x;have hs:=xt b x;generalize fB (List.replicate n (ay b x))=A at *;have tm:zt [T (ay b x),T (ay b x),T (ay b x)]=.ok (T (ay b x)) []:=by have nn:isND (T (ay b x)) .bB=some (.bl false):=rfl;generalize T (ay b x)=S at *;unfold zt CG;exact rn
 cases l with
 |given j=>cases (show j=0 from hf);have i0:aq (.lst [T (ay b x)]) (.int 0)=some (T (ay b x)):=rfl;generalize T (ay b x)=S at *;unfold kJ lB PL.d;exact rn|one d a=>have i1:=it a (by simp[PL.ns]);generalize T (ay b x)=S at *;unfold kJ lB PL.d;exact rn|both d a c=>have i1:=it a (by simp[PL.ns]);have i2:=it c (by simp[PL.ns]);generalize T (ay b x)=S at *;unfold kJ lB PL.d;exact rn|cO a c e=>have i1:=it a (by simp[PL.ns]);have i2:=it c (by simp[PL.ns]);have i3:=it e (by simp[PL.ns]);generalize T (ay b x)=S at *;unfold kJ lB PL.d;exact rn|shift a k m y=>obtain⟨rfl,_⟩:=hf;have i1:=it a (by simp[PL.ns]);generalize T (ay b x)=S at *;generalize lst b=k at *;unfold kJ lB PL.d;exact rn|run d a k=>obtain⟨rfl,_⟩:=hf;have i1:=it a (by simp[PL.ns]);generalize T (ay b x)=S at *;generalize lst b=k at *;unfold kJ lB PL.d;exact rn|cut a k g st m=>
  obtain⟨rfl,rfl,rfl,rfl⟩:=hf;have i1:=it a (by simp[PL.ns]);have ct:=Ly b x;generalize T (ay b x)=S at *;generalize lst b=k at *;have sv:zp [PL.d (.cut a k (sz x-1) (-1) (sz x)),S]=.ok S []:=by unfold zp CD PL.d;exact rn
  unfold PL.d at sv;unfold kJ lB PL.d;exact rn
theorem A5{b:Option Nat}{x:Nat}(o:Ok b x){l:PL}(hf:qH b x l){n:Nat}(hn:∀a∈l.ns,a<n)(m:Nat):zo [.int m,l.d,fB (List.replicate n (ay b x)),.lst [T (ay b x)]]=.ok (T (ay b x)) [fB (List.replicate n (ay b x))]:=by
 have h1:=Q1i hf;have h2:=GK hf;have h3:=FA hf hn;have h4:=Jx hf hn;have h5:=CQ o;have ln:bK (fB (List.replicate n (ay b x)))=some (.int n):=by rw[Q1t];simp
 have nn:isND (T (ay b x)) .bB=some (.bl false):=rfl;have l1:bK (.lst [T (ay b x)])=some (.int 1):=rfl;generalize fB (List.replicate n (ay b x))=A at *;generalize D.lst [T (ay b x)]=G at *;generalize T (ay b x)=S at *;generalize l.d=ld at *;unfold zo CA;exact rn
theorem wj{b:Option Nat}{x:Nat}(o:Ok b x){ls:ZO}(wf:Wf ls)(hf:∀l∈ls,qH b x l)(h0:ls≠[])(G7:ls.length<=40):u7 [Pg ls,.lst [T (ay b x)]]=.ok (fB (List.replicate ls.length (ay b x))) []:=by
 have hn:=List.length_pos_iff.mpr h0;have en:jP [Pg ls]=some ((List.range ls.length).map fun(i:Nat)=>D.tup [.int i,(cP ls i).d]):=by unfold Pg;rw[iF,og]
 obtain⟨s,t,hs,ht,L⟩:=eU (g:=cq [3,4]) (body:=ir) (fun(i:Nat)=>D.tup [.int i,(cP ls i).d]) (fun(s:ZE)(t:Sl×Sl)=>[.sh (Pg ls),.sh (.lst [T (ay b x)]),.ow (fB s),t.1,t.2]) pf (List.range ls.length)
  (fun k s=>s=List.replicate k (ay b x)) [] (.no,.no) ⟨rfl,rfl⟩ rfl (by
  intro p i hi s t ht hP;obtain⟨t5,t6⟩:=t;obtain⟨h5,h6⟩:=ht;dsimp only at h5 h6;obtain⟨rfl,hp⟩:=fg hi;subst hP;have hl:ls[i]?=some (cP ls i):=by simp[cP,hp]
  have lo:=A5 o (hf _ (TQ hl)) (wf i _ hl) i;have ap:gW (T (ay b x)) (fB (List.replicate i (ay b x)))=some (fB (List.replicate (i+1) (ay b x))):=by unfold fB;rw[gY _ _ (by simp;lia),List.replicate_succ',Mn];rfl
  have il:isLst (some (fB (List.replicate i (ay b x))))=true:=rfl;refine⟨List.replicate (i+1) (ay b x),(.sh (.int i),.sh (cP ls i).d),rfl,⟨rfl,rfl⟩,?_⟩;generalize (cP ls i).d=ld at *;generalize fB (List.replicate i (ay b x))=A at *;generalize fB (List.replicate (i+1) (ay b x))=A' at *;generalize T (ay b x)=S at *;simp[bS,ir,h5,h6,lo,il,ap])
 rw[EZ] at hs;subst hs;obtain⟨t5,t6⟩:=t;rw[show fB []=D.lst [] from rfl] at L;have ln:=oq ls;have e0:=Ka (i:=(ls.length:Int)) (j:=0) Ug;have e1:=Kj (i:=(ls.length:Int)) (j:=40) Ug;generalize fB (List.replicate ls.length (ay b x))=A at *;generalize Pg ls=P at *;generalize D.lst [T (ay b x)]=G at *;dsimp only at L;have fz:HE 2 [.sh P,.sh G,.ow A,t5,t6]=.ok () [.sh P,.sh G,.sh A,t5,t6]:=rfl;unfold u7 CB;exact rn
theorem d7{d:Nat}(h:d∈[19,21,22,23]):d∈[19,20,21,22,23,24,25]:=by simp only[List.mem_cons,List.not_mem_nil,or_false] at h ⊢;lia
theorem pM{b:Option Nat}{x:Nat}(o:Ok b x){c:ZX}(h:Cs b x c):lK [.ins "Table" [] [],T (ay b x),Z c]=.ok .bB [Tb (ay b x) c]:=table_at o c h.1 h.2
theorem yq{b:Option Nat}{x:Nat}(o:Ok b x){G:ZX}(hG:Cs b x G){V:Nat->ZX}{M:OK}{l:PL}(m:Md b x V M l)(hf:qH b x l):qX [l.d,T (ay b x),.lst M,.lst [Tb (ay b x) G]]=.ok (Tb (ay b x) (iN b x G V l)) [.lst M]:=by
 have mt:=pM o (vy (V:=V) hG hf m.cs);have kk:=PL.kind l;have e0:=BN l.k 0 (by have:=l.Uk;lia) Ug;have Xm:=BN l.k 13 (by have:=l.Uk;lia) Ug;by_cases h0:l.k=0;cases l with|given j=>cases (show j=0 from hf);have f1:aC br "cells" (Tb (ay b x) G)=some (Z G):=dm (ay b x) G;have i0:aq (.lst [Tb (ay b x) G]) (.int 0)=some (Tb (ay b x) G):=rfl;have i1:aq (PL.d (.given 0)) (.int 1)=some (.int 0):=rfl;show _=FR.ok (Tb (ay b x) G) _;have mt:lK [.ins "Table" [] [],T (ay b x),Z G]=.ok .bB [Tb (ay b x) G]:=mt;rw[show PL.k (.given 0)=0 from rfl] at kk e0;generalize PL.d (.given 0)=ld at *;generalize D.lst [Tb (ay b x) G]=L at *;generalize Tb (ay b x) G=TT at *;generalize T (ay b x)=S at *;generalize Z G=ZG at *;unfold qX uM;exact rn|_=>cases h0
 rw[Uy h0] at e0;by_cases wM:l.k=13;cases l with|run d a k=>obtain⟨rfl,hd⟩:=hf;have g:=sU (m.get a (by simp[PL.ns]));have rc:=Q1V o (m.cs a (by simp[PL.ns])) (d7 hd);have i1:aq (PL.d (.run d a (lst b))) (.int 1)=some (.str (nm d)):=rfl;have i2:aq (PL.d (.run d a (lst b))) (.int 2)=some (.int a):=rfl;have i3:aq (PL.d (.run d a (lst b))) (.int 3)=some (.int (lst b)):=rfl;show _=FR.ok (Tb (ay b x) (gr b x d (V a))) _;have mt:lK [.ins "Table" [] [],T (ay b x),Z (gr b x d (V a))]=.ok .bB [Tb (ay b x) (gr b x d (V a))]:=mt;rw[show PL.k (.run d a (lst b))=13 from rfl] at kk e0 Xm;generalize PL.d (.run d a (lst b))=ld at *;generalize lst b=k at *;generalize D.lst [Tb (ay b x) G]=L at *;generalize Tb (ay b x) (V a)=TA at *;generalize Tb (ay b x) (gr b x d (V a))=TT at *;generalize T (ay b x)=S at *;generalize Z (gr b x d (V a))=ZG at *;unfold qX uM;exact rn|_=>cases wM
 rw[Uy wM] at Xm;have ia:=lg o;have O4:=i9 o;have eC:iN b x G V l=tab b x (gB x V l):=by cases l with|given=>exact absurd rfl h0|_=>rfl
 rw[eC] at mt ⊢;have c:aY 1 (fC (ax oV [.val (ag 1)])) (aP 4) (VP.ret true) gj [.sh l.d,.sh (T (ay b x)),.io (.lst M),.sh (.lst [Tb (ay b x) G])]=.ok (Z (tab b x (gB x V l))) [.sh l.d,.sh (T (ay b x)),.io (.lst M),.sh (.lst [Tb (ay b x) G])]:=by have sq:∀L:OK,c5 (.lst L)=some L:=fun _=>rfl;refine jN (fun(p:Nat)=>T (ix b ((p:Int) / sz x) ((p:Int) % sz x))) (fun p=>D.int (gB x V l ((p:Int) / sz x) ((p:Int) % sz x))) (List.range (cnt b x)) (by simp[ia]) (by simp;lia) (by simp[Z,tab]) fun p hp acc=>?_;have:=Q15 o m hf h0 wM (in_of (List.mem_range.mp hp)).1 (T (ay b x));generalize l.d=ld at *;simp[gj,this]
 generalize l.d=ld at *;generalize D.lst [Tb (ay b x) G]=L at *;generalize Tb (ay b x) (tab b x (gB x V l))=TT at *;generalize T (ay b x)=S at *;generalize Z (tab b x (gB x V l))=ZG at *;unfold qX uM;exact rn
theorem Qs(d:D)(A B C E F H:Sl):dB 4 (m1 lU (cI 1)) [A,B,C,E,.ow d,F,H]=(match aq d (.int (-1)) with|some z=>.ok z [A,B,C,E,.ow d,F,H]|none=>.no):=by simp;cases aq d (.int (-1))<;>rfl
theorem plain_at{b:Option Nat}{x:Nat}(o:Ok b x){G:ZX}(hG:Cs b x G){ls:ZO}(wf:Wf ls)(hf:∀l∈ls,qH b x l)(h0:ls≠[])(G7:ls.length<=40){V:Nat->ZX}(hV:∀i<ls.length,V i=iN b x G V (cP ls i)/\Cs b x (V i)):uZ [Pg ls,.lst [Tb (ay b x) G]]=.ok (Tb (ay b x) (V (ls.length-1))) []:=by
 have hn:=List.length_pos_iff.mpr h0;obtain⟨w,hw,wl,wr⟩:=rT ls wf h0 Ug;have sa:=wj o wf hf h0 G7;have en:jP [Pg ls]=some ((List.range ls.length).map fun(i:Nat)=>D.tup [.int i,(cP ls i).d]):=by unfold Pg;rw[iF,og]
 have c0:aY 1 (fC (ag 1)) (aP 7) (VP.ret true) eK [.sh (Pg ls),.sh (.lst [Tb (ay b x) G]),.no,.no,.no,.no,.no]=.ok (.lst [T (ay b x)]) [.sh (Pg ls),.sh (.lst [Tb (ay b x) G]),.no,.no,.no,.no,.no]:=by have f2:aC aO "sides" (Tb (ay b x) G)=some (T (ay b x)):=dY (ay b x) G;refine jN (fun _:Nat=>Tb (ay b x) G) (fun _=>T (ay b x)) [0] rfl O3 rfl fun a _ acc=>?_;generalize Tb (ay b x) G=TT at *;simp[eK,f2]
 let f:=fun i:Nat=>if w.getD i false then Tb (ay b x) (V i) else D.bB
 obtain⟨s,t,hs,ht,L⟩:=eU (g:=cq [5,6]) (body:=dc) (fun(i:Nat)=>D.tup [.int i,(cP ls i).d]) (fun(s:OK)(t:Sl×Sl)=>[.sh (Pg ls),.sh (.lst [Tb (ay b x) G]),.sh (fB (List.replicate ls.length (ay b x))),.sh (iy w),.ow (.lst s),t.1,t.2]) pf (List.range ls.length)
  (fun k s=>s=(List.range k).map f) [] (.no,.no) ⟨rfl,rfl⟩ rfl (by
  intro p i hi s t ht hP;obtain⟨t5,t6⟩:=t;obtain⟨h5,h6⟩:=ht;dsimp only at h5 h6;obtain⟨rfl,hp⟩:=fg hi;subst hP;have hl:ls[i]?=some (cP ls i):=by simp[cP,hp]
  have ap:gW (f i) (.lst ((List.range i).map f))=some (.lst ((List.range (i+1)).map f)):=by rw[gY _ _ (by simp;lia),List.range_succ,Mn];rfl
  have il:isLst (some (D.lst ((List.range i).map f)))=true:=rfl;have si:aq (fB (List.replicate ls.length (ay b x))) (.int (i:Int))=some (T (ay b x)):=jl _ _ _ (by simp[hp]);obtain⟨q,hq⟩:∃q,w[i]?=some q:=⟨_,Uz Ug⟩;have bi:=kb w i q hq;refine⟨(List.range (i+1)).map f,(.sh (.int i),.sh (cP ls i).d),rfl,⟨rfl,rfl⟩,?_⟩;cases q with
  |false=>
   have ef:f i=.bB:=by simp[f,hq]
   rw[ef] at ap;generalize (cP ls i).d=ld at *;generalize (List.range i).map f=A at *;generalize (List.range (i+1)).map f=A' at *;simp[bS,dc,h5,h6,bi,il,ap]
  |true=>
   have ef:f i=Tb (ay b x) (V i):=by simp[f,hq]
   have rc:=(wr i).mp hq;have nl:=wf i _ hl;have md:Md b x V ((List.range i).map f) (cP ls i):=⟨fun a ha=>by have ra:w[a]?=some true:=(wr a).mpr (.step rc hl ha);simp[nl a ha,f,ra],fun a ha=>(hV a (by have:=nl a ha;lia)).2⟩;have tm:=yq o hG md (hf _ (TQ hl));rw[<-(hV i hp).1,<-ef] at tm;generalize (cP ls i).d=ld at *;generalize (List.range i).map f=A at *;generalize (List.range (i+1)).map f=A' at *;generalize f i=fi at *;generalize fB (List.replicate ls.length (ay b x))=SS at *;generalize T (ay b x)=S at *;simp[bS,dc,h5,h6,bi,il,ap,tm,si])
 rw[EZ] at hs;have la:aq (.lst s) (.int (-1))=some (Tb (ay b x) (V (ls.length-1))):=by
  have wl1:=(wr (ls.length-1)).mpr .last;have e:A0 s.length (-1)=some (ls.length-1):=by
   have:s.length=ls.length:=by rw[hs];simp
   rw[this];unfold A0;rw[S8 Ug,WL Ug];congr 1;lia
  rw[fI];unfold ux;rw[e];subst hs;simp[show ls.length-1<ls.length by lia,f,wl1]
 obtain⟨t5,t6⟩:=t;dsimp only at L;have fx:=Qs (.lst s) (.sh (Pg ls)) (.sh (.lst [Tb (ay b x) G])) (.sh (fB (List.replicate ls.length (ay b x)))) (.sh (iy w)) t5 t6;rw[la] at fx;dsimp only at fx;clear la hs;generalize fB (List.replicate ls.length (ay b x))=A at *;generalize D.lst [Tb (ay b x) G]=TG at *;generalize Tb (ay b x) (V (ls.length-1))=TV at *;generalize D.lst [T (ay b x)]=TS at *;generalize D.lst s=SS at *;generalize iy w=W at *;generalize Pg ls=P at *;unfold uZ Cu;exact rn
inductive Tr where
 |read (a:Nat) (c e:Int)|one (d:Nat) (t:Tr)|both (d:Nat) (l r:Tr)|cO (a l r:Tr)|within (c e:Int) (t:Tr) (y:Int)
noncomputable def Tr.rs:Tr->List Nat|.read n _ _=>[n]|.one _ t=>t.rs|.both _ l r=>l.rs++r.rs|.cO a l r=>a.rs++l.rs++r.rs|.within _ _ t _=>t.rs
noncomputable def Tr.dep:Tr->Nat|.read _ _ _=>1|.one _ t=>t.dep+1|.both _ l r=>max l.dep r.dep+1|.cO a l r=>max a.dep (max l.dep r.dep)+1|.within _ _ t _=>t.dep+1
theorem cb{BB:TX}{td I o:D}{w:Wk}{f g:WM}(h:bo BB td=some (.bl false)):bh (fN (tB (m1 (bo BB) (ag 1))) f fq) g o ⟨[.no,.sh td,.sh I,.no,.no],none,w⟩=g o ⟨[.no,.sh td,.sh I,.no,.no],none,w⟩:=by simp[bh,fN,wP,fq,h]
theorem vL{BB:TX}{td I o d:D}{w:Wk}{S:WS}{f g:WM}(h:bo BB td=some (.bl true))(hf:f o ⟨[.no,.sh td,.sh I,.no,.no],none,w⟩=some (.rt d,S)):bh (fN (tB (m1 (bo BB) (ag 1))) f fq) g o ⟨[.no,.sh td,.sh I,.no,.no],none,w⟩=some (.rt d,S):=by simp[bh,fN,wP,h,hf]
theorem vI{body:WM}{td I o d:D}{w w':Wk}(s t:Sl)(h:body o ⟨[.no,.sh td,.sh I,.no,.no],none,w⟩=some (.rt d,⟨[.no,.sh td,.sh I,s,t],none,w'⟩)):dE 5 body [td,I] o w=some (d,w'):=by have e:fO 5 [td,I]=[.no,.sh td,.sh I,.no,.no]:=rfl;unfold dE;rw[e,h];rfl
section
variable(b:Option Nat)(x:Nat)
def Tr.d:Tr->D|.read n c e=>.ins "Read" ["line","start","steps"] [.int n,.int c,T (eE b x e)]|.one d t=>.ins "One" ["deed","inner"] [.str (nm d),t.d]|.both d l r=>.ins "Both" ["deed","left","right"] [.str (nm d),l.d,r.d]|.cO a l r=>.ins "Where" ["asked","left","right"] [a.d,l.d,r.d]|.within c e t y=>.ins "Within" ["part","size","inner","number"] [.tup [.int c,.int (lst b),.int e],.int (sz x),t.d,.int y]
def Ev(o:D)(rows:ZE)(t:Tr)(h j v:Int):Prop:=∀n,t.dep<=n->∀dn,∃kH,dn<=kH/\c6 n [t.d b x,T (ix b h j)] o ⟨rows,dn⟩=some (.int v,⟨rows,kH⟩)
variable{b x}{o:D}{rows:ZE}{h j:Int}
theorem GW(ok:Ok b x){a k:Nat}{row:ZX}(hr:∀dn,rowAt o ⟨rows,dn⟩ (.int a)=some (k,row))(hl:row.length=cnt b x){c e:Int}(he:e=1\/e=-1)(i:In b x h (c+e*j)):Ev b x o rows (.read a c e) h j (cl x row h (c+e*j)):=by
 intro n hn dn;obtain⟨n,rfl⟩:∃m,n=m+1:=⟨n-1,by simp[Tr.dep] at hn;lia⟩;have ra:=IY ok c e h j he i.hn;obtain⟨p0,p1⟩:=i.at;have r1:bo cA ((Tr.read a c e).d b x)=some (.bl true):=Pq;have f1:aC bZ "line" ((Tr.read a c e).d b x)=some (.int a):=Pq;have f2:aC lL "start" ((Tr.read a c e).d b x)=some (.int c):=Pq;have f3:aC lM "steps" ((Tr.read a c e).d b x)=some (T (eE b x e)):=Pq;have g:row[(pl x h (c+e*j)).toNat]?=some (cl x row h (c+e*j)):=by have:(pl x h (c+e*j)).toNat<row.length:=Ug;simp[cl,this]
 obtain⟨p,hp⟩:∃p:Nat,pl x h (c+e*j)=p:=⟨(pl x h (c+e*j)).toNat,Ug⟩;rw[hp] at ra g;rw[ZJ] at g;refine⟨dn,Int.le_refl _,?_⟩;generalize cl x row h (c+e*j)=v at *;generalize (Tr.read a c e).d b x=td at *;generalize T (ix b h j)=I at *;generalize T (eE b x e)=S at *;have hr:=hr dn;show dE 5 (fS (c6 n)) _ _ _=_;refine vI .no .no ?_;unfold fS;refine vL r1 ?_;simp[bh,fq,fN,wP,jJ,Ar,wB,f1,f2,f3,ra,hr,g]
theorem Q1Q{d:Nat}(hd:d∈[16,17,18]){t:Tr}{v:Int}(ht:Ev b x o rows t h j v):Ev b x o rows (.one d t) h j (xY d v):=by intro n hn dn;obtain⟨n,rfl⟩:∃m,n=m+1:=⟨n-1,by simp[Tr.dep] at hn;lia⟩;have od:=nC d hd v;have r1:bo cA ((Tr.one d t).d b x)=some (.bl false):=Pq;have r2:bo iL ((Tr.one d t).d b x)=some (.bl false):=Pq;have r3:bo kj ((Tr.one d t).d b x)=some (.bl true):=Pq;have f1:aC dR "deed" ((Tr.one d t).d b x)=some (.str (nm d)):=Pq;have f2:aC dN "inner" ((Tr.one d t).d b x)=some (t.d b x):=Pq;obtain⟨kH,h1,h2⟩:=ht n (by simp only[Tr.dep] at hn;lia) (dn+1);refine⟨kH,Ug,?_⟩;generalize (Tr.one d t).d b x=td at *;generalize t.d b x=t' at *;generalize T (ix b h j)=I at *;show dE 5 (fS (c6 n)) _ _ _=_;generalize c6 n=W at *;refine vI .no .no ?_;unfold fS;rw[cb r1,cb r2];refine vL r3 ?_;simp[bh,fq,fN,wP,jJ,wB,nE,ma,bt,bT,wR,wO,Ja,f1,f2,h2,od]
theorem GV{d:Nat}(hd:d∈[19,20,21,22,23,24,25]){t u:Tr}{v w:Int}(ht:Ev b x o rows t h j v)(hu:Ev b x o rows u h j w)(rv:Rt v):Ev b x o rows (.both d t u) h j (ni d v w):=by intro n hn dn;obtain⟨n,rfl⟩:∃m,n=m+1:=⟨n-1,by simp[Tr.dep] at hn;lia⟩;have od:=gD d hd v w rv;have r1:bo cA ((Tr.both d t u).d b x)=some (.bl false):=Pq;have r2:bo iL ((Tr.both d t u).d b x)=some (.bl false):=Pq;have r3:bo kj ((Tr.both d t u).d b x)=some (.bl false):=Pq;have r4:bo fV ((Tr.both d t u).d b x)=some (.bl true):=Pq;have f1:aC dR "deed" ((Tr.both d t u).d b x)=some (.str (nm d)):=Pq;have f2:aC eO "left" ((Tr.both d t u).d b x)=some (t.d b x):=Pq;have f3:aC dk "right" ((Tr.both d t u).d b x)=some (u.d b x):=Pq;simp only[Tr.dep] at hn;obtain⟨BL,h1,h2⟩:=ht n Ug (dn+1);obtain⟨uv,h3,h4⟩:=hu n Ug BL;refine⟨uv,Ug,?_⟩;generalize (Tr.both d t u).d b x=td at *;generalize t.d b x=t' at *;generalize u.d b x=u' at *;generalize T (ix b h j)=I at *;show dE 5 (fS (c6 n)) _ _ _=_;generalize c6 n=W at *;refine vI .no .no ?_;unfold fS;rw[cb r1,cb r2,cb r3];refine vL r4 ?_;simp[bh,fq,fN,wP,jJ,wB,nE,ma,bt,bT,wR,wO,Ja,f1,f2,f3,h2,h4,od]
theorem GX{t u s:Tr}{v w z:Int}(ht:Ev b x o rows t h j v)(hu:Ev b x o rows u h j w)(hs:Ev b x o rows s h j z):Ev b x o rows (.cO t u s) h j (if v≠0 then w else z):=by intro n hn dn;obtain⟨n,rfl⟩:∃m,n=m+1:=⟨n-1,by simp[Tr.dep] at hn;lia⟩;have r1:bo cA ((Tr.cO t u s).d b x)=some (.bl false):=Pq;have r2:bo iL ((Tr.cO t u s).d b x)=some (.bl false):=Pq;have r3:bo kj ((Tr.cO t u s).d b x)=some (.bl false):=Pq;have r4:bo fV ((Tr.cO t u s).d b x)=some (.bl false):=Pq;have r5:bo gJ ((Tr.cO t u s).d b x)=some (.bl true):=Pq;have f1:aC iI "asked" ((Tr.cO t u s).d b x)=some (t.d b x):=Pq;have f2:aC eO "left" ((Tr.cO t u s).d b x)=some (u.d b x):=Pq;have f3:aC dk "right" ((Tr.cO t u s).d b x)=some (s.d b x):=Pq;simp only[Tr.dep] at hn;obtain⟨BL,h1,h2⟩:=ht n Ug (dn+1);by_cases q:v=0;obtain⟨uv,h3,h4⟩:=hs n Ug BL;refine⟨uv,Ug,?_⟩;rw[S8 (by simp[q])];generalize (Tr.cO t u s).d b x=td at *;generalize t.d b x=t' at *;generalize u.d b x=u' at *;generalize s.d b x=s' at *;generalize T (ix b h j)=I at *;show dE 5 (fS (c6 n)) _ _ _=_;generalize c6 n=W at *;subst q;refine vI (.sh (.int 0)) .no ?_;unfold fS;rw[cb r1,cb r2,cb r3,cb r4];refine vL r5 ?_;simp[bh,fq,fN,wP,jJ,wB,nE,gX,bt,bT,wR,f1,f2,f3,h2,h4];obtain⟨uv,h3,h4⟩:=hu n Ug BL;refine⟨uv,Ug,?_⟩;rw[WL q];generalize (Tr.cO t u s).d b x=td at *;generalize t.d b x=t' at *;generalize u.d b x=u' at *;generalize s.d b x=s' at *;generalize T (ix b h j)=I at *;show dE 5 (fS (c6 n)) _ _ _=_;generalize c6 n=W at *;refine vI (.sh (.int v)) .no ?_;unfold fS;rw[cb r1,cb r2,cb r3,cb r4];refine vL r5 ?_;simp[bh,fq,fN,wP,jJ,wB,nE,gX,bt,bT,wR,f1,f2,f3,h2,h4,q]
theorem AL{c e y:Int}(he:e=1\/e=-1){t:Tr}{v:Int}(ht:0<=c+e*j->c+e*j<sz x->Ev b x o rows t h j v):Ev b x o rows (.within c e t y) h j (if 0<=c+e*j/\c+e*j<sz x then v else y):=by intro n hn dn;obtain⟨n,rfl⟩:∃m,n=m+1:=⟨n-1,by simp[Tr.dep] at hn;lia⟩;have nb:=Q1M b c e h j he;have r1:bo cA ((Tr.within c e t y).d b x)=some (.bl false):=Pq;have r2:bo iL ((Tr.within c e t y).d b x)=some (.bl false):=Pq;have r3:bo kj ((Tr.within c e t y).d b x)=some (.bl false):=Pq;have r4:bo fV ((Tr.within c e t y).d b x)=some (.bl false):=Pq;have r5:bo gJ ((Tr.within c e t y).d b x)=some (.bl false):=Pq;have r6:bo jk ((Tr.within c e t y).d b x)=some (.bl false):=Pq;have f1:aC oj "part" ((Tr.within c e t y).d b x)=some (.tup [.int c,.int (lst b),.int e]):=Pq;have f2:aC om "size" ((Tr.within c e t y).d b x)=some (.int (sz x)):=Pq;have f3:aC dN "inner" ((Tr.within c e t y).d b x)=some (t.d b x):=Pq;have f4:aC ki "number" ((Tr.within c e t y).d b x)=some (.int y):=Pq;simp only[Tr.dep] at hn;by_cases q:0<=c+e*j/\c+e*j<sz x;obtain⟨BL,h1,h2⟩:=ht q.1 q.2 n Ug dn;refine⟨BL,h1,?_⟩;rw[WL q];obtain⟨q1,q2⟩:=q;generalize (Tr.within c e t y).d b x=td at *;generalize t.d b x=t' at *;generalize D.tup [.int c,.int (lst b),.int e]=P at *;generalize T (ix b h j)=I at *;generalize c+e*j=z at *;show dE 5 (fS (c6 n)) _ _ _=_;generalize c6 n=W at *;refine vI .no (.sh (.bl true)) ?_;unfold fS;rw[cb r1,cb r2,cb r3,cb r4,cb r5,cb r6];simp[bh,fq,fN,Gs,wP,jJ,wB,gX,bt,bT,wR,f1,f2,f3,nb,q1,q2,h2];refine⟨dn,Int.le_refl _,?_⟩;rw[S8 q];generalize (Tr.within c e t y).d b x=td at *;generalize t.d b x=t' at *;generalize D.tup [.int c,.int (lst b),.int e]=P at *;generalize T (ix b h j)=I at *;clear ht;generalize c+e*j=z at *;show dE 5 (fS (c6 n)) _ _ _=_;generalize c6 n=W at *;by_cases q1:0<=z;have q2:¬z<sz x:=fun k=>q ⟨q1,k⟩;refine vI .no (.sh (.bl false)) ?_;unfold fS;rw[cb r1,cb r2,cb r3,cb r4,cb r5,cb r6];simp[bh,fq,fN,Gs,wP,jJ,wB,gX,bt,bT,wR,f1,f2,f3,f4,nb,q1,q2];refine vI .no (.sh (.bl false)) ?_;unfold fS;rw[cb r1,cb r2,cb r3,cb r4,cb r5,cb r6];simp[bh,fq,fN,Gs,wP,jJ,wB,gX,bt,bT,wR,f1,f2,f3,f4,nb,q1]
end
theorem Mo(x y z:D):LK [.ins "Read" [] [],x,y,z]=.ok .bB [.ins "Read" ["line","start","steps"] [x,y,z]]:=Pq
theorem Ri(x y:D):LI [.ins "One" [] [],x,y]=.ok .bB [.ins "One" ["deed","inner"] [x,y]]:=Pq
theorem Mj(x y z:D):LF [.ins "Both" [] [],x,y,z]=.ok .bB [.ins "Both" ["deed","left","right"] [x,y,z]]:=Pq
theorem Mp(x y z:D):De [.ins "Where" [] [],x,y,z]=.ok .bB [.ins "Where" ["asked","left","right"] [x,y,z]]:=Pq
theorem Q18(x y z u:D):Df [.ins "Within" [] [],x,y,z,u]=.ok .bB [.ins "Within" ["part","size","inner","number"] [x,y,z,u]]:=Pq
inductive Aw(ls:ZO)(kp:X4):Nat->Nat->Prop where
 |self {a:Nat} (h:kp[a]?=some true):Aw ls kp a a|step {a b r:Nat} (h:kp[a]?=some false) (hb:b∈dw ls a) (hr:Aw ls kp b r):Aw ls kp a r
theorem Aw.kept{ls:ZO}{kp:X4}{a r:Nat}(h:kp[a]?=some true):Aw ls kp a r<->r=a:=by
 constructor;intro z;cases z with|self _=>rfl|step h2=>rw[h] at h2;cases h2
 rintro rfl;exact .self h
def Gx(ls:ZO)(kp:X4)(a r:Nat):Prop:=∃b∈dw ls a,Aw ls kp b r
structure Kp(ls:ZO)(kp:X4):Prop where
 len:kp.length=ls.length
 k4:∀i,oH ls i->kd ls i∈[0,12,13,14]->kp[i]?=some true
 last:kp[ls.length-1]?=some true
 want:∀i,kp[i]?=some true->oH ls i
 one:∀u i j,kp[u]?=some false->oH ls i->oH ls j->u∈dw ls i->u∈dw ls j->i=j
 two:∀u i,kp[u]?=some false->oH ls i->(dw ls i).count u<=1
structure Gd(b:Option Nat)(x:Nat)(G:ZX)(ls:ZO)(V:Nat->ZX):Prop where
 ok:Ok b x
 Dw:Cs b x G
 wf:Wf ls
 fit:∀l∈ls,qH b x l
 ne:ls≠[]
 jR:ls.length<=40
 cs:∀i<ls.length,V i=iN b x G V (cP ls i)/\Cs b x (V i)
theorem ko{ls:ZO}{i:Nat}(h:i<ls.length):ls[i]?=some (cP ls i):=by simp[cP,h]
section
variable(ls:ZO)(kp:X4)(b:Option Nat)(x:Nat)(V:Nat->ZX)
def Wv:D:=.ins "Weaver" ["program","sides","kept","many"] [Pg ls,fB (List.replicate ls.length (ay b x)),iy kp,.int ((ay b x).length:Int)]
theorem WZ:aC jd "program" (Wv ls kp b x)=some (Pg ls):=Pq
theorem OV:aC aO "sides" (Wv ls kp b x)=some (fB (List.replicate ls.length (ay b x))):=Pq
theorem WX:aC oh "kept" (Wv ls kp b x)=some (iy kp):=Pq
theorem WY:aC oi "many" (Wv ls kp b x)=some (.int ((ay b x).length:Int)):=Pq
theorem WR:iJ "Weaver" "row_read" (Wv ls kp b x)=true:=Pq
theorem Tg:iJ "Weaver" "tree_made" (Wv ls kp b x)=true:=Pq
theorem OU:iJ "Weaver" "tree_named" (Wv ls kp b x)=true:=Pq
theorem WT:iJ "Weaver" "tree_spread" (Wv ls kp b x)=true:=Pq
theorem WU:iJ "Weaver" "tree_shifted" (Wv ls kp b x)=true:=Pq
theorem WV:iJ "Weaver" "tree_viewed" (Wv ls kp b x)=true:=Pq
theorem WW:C8 [.ins "Weaver" [] [],Pg ls,fB (List.replicate ls.length (ay b x)),iy kp,.int ((ay b x).length:Int)]=.ok .bB [Wv ls kp b x]:=Pq
theorem row_read(ok:Ok b x)(a:Nat)(c e:Int)(he:e=1\/e=-1):yV [Wv ls kp b x,.int a,wy b c e,T (ay b x)]=.ok ((Tr.read a c e).d b x) []:=by have e1:=gS ok;have e2:=yh ok c e he;have e3:=WY ls kp b x;have e4:=Mo (.int a) (.int c) (T (eE b x e));have p1:aq (.tup [.int c,T (eE b x e)]) (.int 0)=some (.int c):=rfl;have p2:aq (.tup [.int c,T (eE b x e)]) (.int 1)=some (T (eE b x e)):=rfl;unfold Tr.d yV BX;generalize Wv ls kp b x=W at *;generalize D.tup [.int c,T (eE b x e)]=P at *;generalize T (eE b x e)=S at *;generalize T (ay b x)=S2 at *;generalize T (el b x)=S3 at *;exact rn
def nK(o:D)(rows:ZE)(rs:Rx):Prop:=∀r∈rs,∃k:Nat,∀dn,rowAt o ⟨rows,dn⟩ (.int r)=some (k,V r)
structure Bq(a:Nat)(q us:Rx):Prop where
 nd:us.Nodup
 un:∀u∈us,u<a/\kp[u]?=some false/\oH ls u/\(u∈q\/∃y∈us,u∈dw ls y)
structure Nm(a:Nat)(c e:Int)(t:Tr)(us:Rx):Prop where
 dep:t.dep<=a+1
 IW:∀r,r∈t.rs<->Aw ls kp a r
 ev:∀o rows,nK V o rows t.rs->∀h j,In b x h j->0<=c+e*j->c+e*j<sz x->Ev b x o rows t h j (cl x (V a) h (c+e*j))
 bq:Bq ls kp (a+1) [a] us
 jR:t.rs.length<=2*us.length+1
structure Mk(a:Nat)(c e:Int)(t:Tr)(us:Rx):Prop where
 dep:t.dep<=a+1
 Ad:∀r,r∈t.rs<->Gx ls kp a r
 ev:∀o rows,nK V o rows t.rs->∀h j,In b x h j->0<=c+e*j->c+e*j<sz x->Ev b x o rows t h j (gB x V (cP ls a) h (c+e*j))
 bq:Bq ls kp a (dw ls a) us
 jR:t.rs.length<=2*us.length+3
def n6(n a:Nat):Prop:=∀c e,(e=1\/e=-1)->∃t us,iB n 0 [Wv ls kp b x,.int a,wy b c e]=.ok (t.d b x) []/\Nm ls kp b x V a c e t us
end
section
variable{ls:ZO}{kp:X4}{b:Option Nat}{x:Nat}{G:ZX}{V:Nat->ZX}(g:Gd b x G ls V)(K:Kp ls kp)
theorem Bq.up{a c:Nat}{us:Rx}(h:Bq ls kp (c+1) [c] us)(hc:c<a):Bq ls kp a [c] us:=⟨h.nd,fun u hu=>by have:=h.un u hu;exact⟨Ug,this.2⟩⟩
include g K
theorem pQ{i c:Nat}(h:i<ls.length)(hb:c∈dw ls i):c<i:=g.wf i _ (ko h) c hb
theorem Bq.app{a:Nat}(hr:oH ls a){q1 q2 us1 us2:Rx}(h1:Bq ls kp a q1 us1)(h2:Bq ls kp a q2 us2)(s1:∀u∈q1,u∈dw ls a)(s2:∀u∈q2,u∈dw ls a)(hq:∀u∈q1,u∈q2->kp[u]?≠some false):Bq ls kp a (q1++q2) (us1++us2):=by
 have lt:∀y,oH ls y->y<ls.length:=fun y h=>h.lt g.wf g.ne;have dj:∀m u,ls.length<=u+m->u∈us1->u∈us2->False:=by
  intro m;induction m with
  |zero=>intro u hu k1 _;have:=lt u (h1.un u k1).2.2.1;lia|succ m ih=>
   intro u hu k1 k2;obtain⟨a1,f1,r1,c1⟩:=h1.un u k1;obtain⟨a2,f2,r2,c2⟩:=h2.un u k2;rcases c1 with c1|⟨y1,Ph,n1⟩;rcases c2 with c2|⟨y2,Uc,n2⟩;exact hq u c1 c2 f1;obtain⟨b2,_,R2,_⟩:=h2.un y2 Uc;have:=K.one u a y2 f1 hr R2 (s1 u c1) n2
   lia
   obtain⟨b1,_,R1,_⟩:=h1.un y1 Ph;rcases c2 with c2|⟨y2,Uc,n2⟩;have:=K.one u a y1 f1 hr R1 (s2 u c2) n1
   lia
   obtain⟨b2,_,R2,_⟩:=h2.un y2 Uc;have e:=K.one u y1 y2 f1 R1 R2 n1 n2;subst e;have:=pQ g K (lt y1 R1) n1;exact ih y1 Ug Ph Uc
 refine⟨List.nodup_append.mpr ⟨h1.nd,h2.nd,fun u k1 w k2 z=>by subst z;exact dj ls.length u Ug k1 k2⟩,fun u hu=>?_⟩;rcases List.mem_append.mp hu with hu|hu;obtain⟨a1,f1,r1,c1⟩:=h1.un u hu;refine⟨a1,f1,r1,?_⟩;rcases c1 with c1|⟨y1,Ph,n1⟩;exact .inl (List.mem_append_left _ c1);exact .inr ⟨y1,List.mem_append_left _ Ph,n1⟩;obtain⟨a1,f1,r1,c1⟩:=h2.un u hu;refine⟨a1,f1,r1,?_⟩;rcases c1 with c1|⟨y1,Ph,n1⟩;exact .inl (R8 _ c1);exact .inr ⟨y1,R8 _ Ph,n1⟩
theorem iV{n a:Nat}(ha:a<ls.length)(N:n6 ls kp b x V n a)(c e:Int)(he:e=1\/e=-1):∃t us,iB (n+1) 3 [Wv ls kp b x,.int a,wy b c e]=.ok (t.d b x) []/\Nm ls kp b x V a c e t us:=by obtain⟨t,us,e1,h⟩:=N c e he;refine⟨t,us,?_,h⟩;have ws:=yz b x c e;have f1:=OV ls kp b x;have f2:=OU ls kp b x;have si:aq (fB (List.replicate ls.length (ay b x))) (.int (a:Int))=some (T (ay b x)):=jl _ _ _ (by simp[ha]);show defn 3 [false,false,false] (yH (iB n)) _=_;generalize t.d b x=td at *;generalize Wv ls kp b x=W at *;generalize fB (List.replicate ls.length (ay b x))=SS at *;generalize T (ay b x)=S at *;generalize wy b c e=w at *;generalize iB n=wf at *;unfold yH;exact rn
end
section
variable{ls:ZO}{kp:X4}{b:Option Nat}{x:Nat}{G:ZX}{V:Nat->ZX}(g:Gd b x G ls V)(K:Kp ls kp)
theorem nK.l{o:D}{rows:ZE}{r1 r2:Rx}(h:nK V o rows (r1++r2)):nK V o rows r1:=fun r hr=>h r (List.mem_append_left _ hr)
theorem nK.r{o:D}{rows:ZE}{r1 r2:Rx}(h:nK V o rows (r1++r2)):nK V o rows r2:=fun r hr=>h r (R8 _ hr)
include g K
theorem zR{n a:Nat}(ha:a<ls.length)(hr:oH ls a)(h0:kd ls a≠0)(wM:kd ls a≠13)(N:∀c∈dw ls a,∀n',n<=n'->n6 ls kp b x V n' c)(c e:Int)(he:e=1\/e=-1):∃t us,iB (n+3) 1 [Wv ls kp b x,.int a,wy b c e]=.ok (t.d b x) []/\Mk ls kp b x V a c e t us:=by
 have hi:=vq ls a ha;have wp:=WZ ls kp b x;have w3:=OU ls kp b x;have w4:=WT ls kp b x;have w5:=WU ls kp b x;have w7:=WV ls kp b x;have nl:=fun c hc=>pQ g K (i:=a) (c:=c) ha hc;have two:=fun u hu=>K.two u a hu hr;have fit:=g.fit _ (TQ (ko ha));have Ad:∀r,Gx ls kp a r<->∃b∈dw ls a,Aw ls kp b r:=fun r=>Iff.rfl;have vE:∀c∈dw ls a,∀u∈[c],u∈dw ls a:=fun c hc u hu=>by rw[List.mem_singleton.mp hu];exact hc
 have app:=fun {q1 q2 us1 us2}=>Bq.app g K (a:=a) hr (q1:=q1) (q2:=q2) (us1:=us1) (us2:=us2);show ∃t us,defn 5 [false,false,false] (nh (iB (n+2))) _=_/\_;obtain⟨l,hl⟩:∃l,cP ls a=l:=⟨_,rfl⟩;have U7:dw ls a=l.ns:=by unfold dw;rw[hl]
 have ek:kd ls a=l.k:=by unfold kd;rw[hl]
 have mk:∀{t us},t.dep<=a+1->(∀r,r∈t.rs<->Gx ls kp a r)->(∀o rows,nK V o rows t.rs->∀h j,In b x h j->0<=c+e*j->c+e*j<sz x->Ev b x o rows t h j (gB x V l h (c+e*j)))->Bq ls kp a l.ns us->t.rs.length<=2*us.length+3->Mk ls kp b x V a c e t us:=fun h1 h2 h3 h4 h5=>⟨h1,h2,by rw[hl];exact h3,by rw[U7];exact h4,h5⟩;rw[U7] at N nl two vE app;rw[ek] at h0 wM;rw[hl] at hi fit;simp only[U7] at Ad;cases l with
  |given=>exact absurd rfl h0|run=>exact absurd rfl wM|one d a1=>
   have m1:a1∈PL.ns (.one d a1):=by simp[PL.ns]
   have l1:=nl a1 m1;obtain⟨t,us,e1,n1⟩:=N a1 m1 (n+2) Ug c e he;refine⟨.one d t,us,?_,mk (by simp only[Tr.dep];have:=n1.dep;lia) (fun r=>?_) (fun o rows H h j i j0 j1=>Q1Q fit (n1.ev o rows H h j i j0 j1)) (n1.bq.up l1) (by have:=n1.jR;simp only[Tr.rs];lia)⟩;have ii:=Ri (.str (nm d)) (t.d b x);have hi:aq (Pg ls) (.int (a:Int))=some (.tup [.str (nm 9),.str (nm d),.int a1]):=hi;unfold Tr.d;generalize t.d b x=td at *;generalize Wv ls kp b x=W at *;generalize Pg ls=P at *;generalize wy b c e=w at *;generalize iB (n+2)=wf at *;unfold nh;exact rn;rw[Ad];simp only[Tr.rs,n1.IW,PL.ns,List.mem_singleton,exists_eq_left]
  |both d a1 a2=>
   have m1:a1∈PL.ns (.both d a1 a2):=by simp[PL.ns]
   have m2:a2∈PL.ns (.both d a1 a2):=by simp[PL.ns]
   have l1:=nl a1 m1;have l2:=nl a2 m2;obtain⟨t,us,e1,n1⟩:=iV g K (n:=n+1) (a:=a1) Ug (N a1 m1 (n+1) Ug) c e he;obtain⟨u,vs,e2,n2⟩:=iV g K (n:=n+1) (a:=a2) Ug (N a2 m2 (n+1) Ug) c e he;have bq:=app (n1.bq.up l1) (n2.bq.up l2) (vE a1 m1) (vE a2 m2) (fun z z1 z2 zf=>by have:=two z zf;cases List.mem_singleton.mp z1;cases List.mem_singleton.mp z2;simp[PL.ns] at this);refine⟨.both d t u,us++vs,?_,mk (by simp only[Tr.dep];have:=n1.dep;have:=n2.dep;lia) (fun r=>?_) (fun o rows H h j i j0 j1=>GV fit (n1.ev o rows H.l h j i j0 j1) (n2.ev o rows H.r h j i j0 j1) ((g.cs a1 Ug).2.at ..)) bq (by have:=n1.jR;have:=n2.jR;simp only[Tr.rs,List.length_append];lia)⟩;have ii:=Mj (.str (nm d)) (t.d b x) (u.d b x);have hi:aq (Pg ls) (.int (a:Int))=some (.tup [.str (nm 10),.str (nm d),.int a1,.int a2]):=hi;unfold Tr.d;generalize t.d b x=td at *;generalize u.d b x=ud at *;generalize Wv ls kp b x=W at *;generalize Pg ls=P at *;generalize wy b c e=w at *;generalize iB (n+2)=wf at *;unfold nh;exact rn;rw[Ad];simp only[Tr.rs,List.mem_append,n1.IW,n2.IW,PL.ns,List.mem_cons,List.not_mem_nil,or_false,exists_eq_or_imp,exists_eq_left]
  |cO a1 a2 a3=>
   have m1:a1∈PL.ns (.cO a1 a2 a3):=by simp[PL.ns]
   have m2:a2∈PL.ns (.cO a1 a2 a3):=by simp[PL.ns]
   have m3:a3∈PL.ns (.cO a1 a2 a3):=by simp[PL.ns]
   have l1:=nl a1 m1;have l2:=nl a2 m2;have l3:=nl a3 m3;obtain⟨t,us,e1,n1⟩:=iV g K (n:=n+1) (a:=a1) Ug (N a1 m1 (n+1) Ug) c e he;obtain⟨u,vs,e2,n2⟩:=iV g K (n:=n+1) (a:=a2) Ug (N a2 m2 (n+1) Ug) c e he;obtain⟨s,ws,e3,n3⟩:=iV g K (n:=n+1) (a:=a3) Ug (N a3 m3 (n+1) Ug) c e he;have b1:=app (n1.bq.up l1) (n2.bq.up l2) (vE a1 m1) (vE a2 m2) (fun z z1 z2 zf=>by have:=two z zf;cases List.mem_singleton.mp z1;cases List.mem_singleton.mp z2;simp[PL.ns,List.count_cons] at this);have bq:=app b1 (n3.bq.up l3) (fun z hz=>(List.mem_append.mp hz).elim (vE a1 m1 z) (vE a2 m2 z)) (vE a3 m3) (fun z z1 z2 zf=>by have:=two z zf;cases List.mem_singleton.mp z2;rcases List.mem_append.mp z1 with z1|z1<;>cases List.mem_singleton.mp z1<;>simp only[PL.ns,List.count_cons,beq_self_eq_true,if_true] at this<;>lia);refine⟨.cO t u s,us++vs++ws,?_,mk (by simp only[Tr.dep];have:=n1.dep;have:=n2.dep;have:=n3.dep;lia) (fun r=>?_) (fun o rows H h j i j0 j1=>GX (n1.ev o rows H.l.l h j i j0 j1) (n2.ev o rows H.l.r h j i j0 j1) (n3.ev o rows H.r h j i j0 j1)) bq (by have:=n1.jR;have:=n2.jR;have:=n3.jR;simp only[Tr.rs,List.length_append];lia)⟩;have ii:=Mp (t.d b x) (u.d b x) (s.d b x);have hi:aq (Pg ls) (.int (a:Int))=some (.tup [.str (nm 11),.int a1,.int a2,.int a3]):=hi;unfold Tr.d;generalize t.d b x=td at *;generalize u.d b x=ud at *;generalize s.d b x=sd at *;generalize Wv ls kp b x=W at *;generalize Pg ls=P at *;generalize wy b c e=w at *;generalize iB (n+2)=wf at *;unfold nh;exact rn;rw[Ad];simp only[Tr.rs,List.mem_append,n1.IW,n2.IW,n3.IW,PL.ns,List.mem_cons,List.not_mem_nil,or_false,exists_eq_or_imp,exists_eq_left,or_assoc]
  |shift a1 k m y=>
   obtain⟨rfl,hy⟩:=fit;have m1:a1∈PL.ns (.shift a1 (lst b) m y):=by simp[PL.ns]
   have l1:=nl a1 m1;obtain⟨t,us,e1,n1⟩:=N a1 m1 (n+1) Ug (-m+1*c) (1*e) Ug;have eq:∀j,-m+1*c+1*e*j=c+e*j-m:=fun j=>by rw[Int.one_mul,Int.one_mul];lia
   refine⟨.within (-m+1*c) (1*e) t y,us,?_,mk (by simp only[Tr.dep];have:=n1.dep;lia) (fun r=>?_) (fun o rows H h j i j0 j1=>?_) (n1.bq.up l1) (by have:=n1.jR;simp only[Tr.rs];lia)⟩;have mv:=vH b c e (-m) 1 (.inl rfl) he;have la:=Q1P b (-m+1*c) (1*e);have sl:=Ah b x;have ws:=OV ls kp b x;have si:aq (fB (List.replicate ls.length (ay b x))) (.int (a1:Int))=some (T (ay b x)):=jl _ _ _ (by simp[show a1<ls.length by lia]);have ii:=Q18 (.tup [.int (-m+1*c),.int (lst b),.int (1*e)]) (.int (sz x)) (t.d b x) (.int y);have ts:iB (n+2) 4 [Wv ls kp b x,.int a1,.int (lst b),.int m,.int y,wy b c e]=.ok ((Tr.within (-m+1*c) (1*e) t y).d b x) []:=by show defn 7 [false,false,false,false,false,false] (yG (iB (n+1))) _=_;unfold Tr.d;generalize t.d b x=td at *;generalize Wv ls kp b x=W at *;generalize wy b c e=w at *;generalize wy b (-m+1*c) (1*e)=w' at *;generalize lst b=k at *;generalize D.tup [.int (-m+1*c),.int k,.int (1*e)]=P at *;generalize fB (List.replicate ls.length (ay b x))=SS at *;generalize T (ay b x)=S at *;generalize iB (n+1)=wf at *;unfold yG;exact rn
   have hi:aq (Pg ls) (.int (a:Int))=some (.tup [.str (nm 8),.int a1,.int (lst b),.int m,.int y]):=hi;generalize (Tr.within (-m+1*c) (1*e) t y).d b x=td at *;generalize Wv ls kp b x=W at *;generalize Pg ls=P at *;generalize wy b c e=w at *;generalize lst b=k at *;generalize iB (n+2)=wf at *;unfold nh;exact rn;rw[Ad];simp only[Tr.rs,n1.IW,PL.ns,List.mem_singleton,exists_eq_left];have:=AL (b:=b) (x:=x) (o:=o) (rows:=rows) (h:=h) (j:=j) (c:=-m+1*c) (e:=1*e) (y:=y) Ug (fun q0 q1=>n1.ev o rows H h j i q0 q1);rw[eq] at this;exact this
  |cut a1 k bg st mm=>
   obtain⟨rfl,rfl,rfl,rfl⟩:=fit;have m1:a1∈PL.ns (.cut a1 (lst b) (sz x-1) (-1) (sz x)):=by simp[PL.ns]
   have l1:=nl a1 m1;obtain⟨t,us,e1,n1⟩:=N a1 m1 (n+1) Ug (sz x-1+-1*c) (-1*e) Ug;have eq:∀j,sz x-1+-1*c+-1*e*j=sz x-1-(c+e*j):=fun j=>by rw[Int.mul_assoc];lia
   refine⟨t,us,?_,mk (by have:=n1.dep;lia) (fun r=>?_) (fun o rows H h j i j0 j1=>?_) (n1.bq.up l1) (by have:=n1.jR;lia)⟩;have mv:=vH b c e (sz x-1) (-1) (.inr rfl) he;have tv:iB (n+2) 2 [Wv ls kp b x,.tup [.str (nm 3),.int a1,.int (lst b),.int (sz x-1),.int (-1),.int (sz x)],wy b c e]=.ok (t.d b x) []:=by show defn 4 [false,false,false] (yI (iB (n+1))) _=_;generalize t.d b x=td at *;generalize Wv ls kp b x=W at *;generalize wy b c e=w at *;generalize wy b (sz x-1+-1*c) (-1*e)=w' at *;generalize lst b=k at *;generalize iB (n+1)=wf at *;unfold yI;exact rn
   have hi:aq (Pg ls) (.int (a:Int))=some (.tup [.str (nm 3),.int a1,.int (lst b),.int (sz x-1),.int (-1),.int (sz x)]):=hi;generalize t.d b x=td at *;generalize Wv ls kp b x=W at *;generalize Pg ls=P at *;generalize wy b c e=w at *;generalize lst b=k at *;generalize iB (n+2)=wf at *;unfold nh;exact rn;rw[Ad];simp only[n1.IW,PL.ns,List.mem_singleton,exists_eq_left];have:=n1.ev o rows H h j i (by rw[eq];lia) (by rw[eq];lia);rw[eq] at this;exact this
theorem Q1o:∀a,a<ls.length->oH ls a->∀n,4*a+4<=n->n6 ls kp b x V n a:=by
 intro a;induction a using Nat.strongRecOn with
 |_ a ih=>
  intro ha hr n hn c e he;obtain⟨n,rfl⟩:∃n',n=n'+1:=⟨n-1,Ug⟩;obtain⟨q,hb⟩:∃q,kp[a]?=some q:=⟨_,Uz (by rw[K.len];exact ha)⟩;have ib:=kb kp a q hb;have si:aq (fB (List.replicate ls.length (ay b x))) (.int (a:Int))=some (T (ay b x)):=jl _ _ _ (by simp[ha]);have f1:=OV ls kp b x;have f3:=WX ls kp b x;have f4:=WR ls kp b x;have f5:=Tg ls kp b x;show ∃t us,defn 3 [false,false,false] (uI (iB n)) _=_/\_;cases q with
  |true=>have e1:=row_read ls kp b x g.ok a c e he;refine⟨.read a c e,[],?_,by simp[Tr.dep],fun r=>by simp[Tr.rs,Aw.kept hb],fun o rows H h j i j0 j1=>?_,⟨O3,O3⟩,by simp[Tr.rs]⟩;generalize (Tr.read a c e).d b x=td at *;generalize Wv ls kp b x=W at *;generalize wy b c e=w at *;generalize fB (List.replicate ls.length (ay b x))=SS at *;generalize T (ay b x)=S at *;generalize iB n=wf at *;unfold uI;exact rn;obtain⟨k,hk⟩:=H a (by simp[Tr.rs]);exact GW g.ok hk (g.cs a ha).2.1 he ⟨j0,j1,i.h0,i.h1,i.hn⟩|false=>
   obtain⟨n,rfl⟩:∃n',n=n'+3:=⟨n-3,Ug⟩;have h0:kd ls a≠0:=fun z=>by have:=K.k4 a hr (by rw[z];simp);rw[hb] at this;cases this
   have wM:kd ls a≠13:=fun z=>by have:=K.k4 a hr (by rw[z];simp);rw[hb] at this;cases this
   obtain⟨t,us,e1,m⟩:=zR g K ha hr h0 wM (n:=n) (fun a' Xy n' wQ=>by have iA:=pQ g K ha Xy;exact ih a' iA Ug (.step hr (ko ha) Xy) n' Ug) c e he;refine⟨t,a::us,?_,m.dep,fun r=>?_,fun o rows H h j i j0 j1=>?_,⟨List.nodup_cons.mpr ⟨fun z=>by have:=(m.bq.un a z).1;lia,m.bq.nd⟩,fun u hu=>?_⟩,by have:=m.jR;simp;lia⟩;generalize t.d b x=td at *;generalize Wv ls kp b x=W at *;generalize wy b c e=w at *;generalize iB (n+3)=wf at *;unfold uI;exact rn;rw[m.Ad];exact⟨fun ⟨b,h1,h2⟩=>.step hb h1 h2,fun z=>by cases z with|self h=>rw[hb] at h;cases h|step _ h1 h2=>exact⟨_,h1,h2⟩⟩;have:=m.ev o rows H h j i j0 j1;have ec:V a=tab b x (gB x V (cP ls a)):=by rw[(g.cs a ha).1];unfold kd at h0;generalize cP ls a=l at *;cases l with|given=>exact absurd rfl h0|_=>rfl
   rw[ec,OH _ ⟨j0,j1,i.h0,i.h1,i.hn⟩];exact this;rcases List.mem_cons.mp hu with rfl|hu;exact⟨Ug,hb,hr,.inl O3⟩;obtain⟨u1,u2,u3,u4⟩:=m.bq.un u hu;refine⟨Ug,u2,u3,.inr ?_⟩;rcases u4 with u4|⟨y,hy,u4⟩;exact⟨a,Rn,u4⟩;exact⟨y,X1 _ hy,u4⟩
end
theorem Lg(xs ys:Rx)(h:xs.length+ys.length<=16777216):cx (gz xs) (gz ys)=some (gz (xs++ys)):=by unfold gz;show (if _ then _ else _)=_;rw[WL (by simpa[ur] using h),Mn]
theorem Q1y(b:Option Nat)(x:Nat):∀(t:Tr)(n:Nat),t.dep<=n->t.rs.length<=16777216->wU n 0 [t.d b x]=.ok (gz t.rs) []:=by intro t;induction t with|read a c e=>intro n hn _;obtain⟨n,rfl⟩:∃m,n=m+1:=⟨n-1,by simp[Tr.dep] at hn;lia⟩;have r1:bo cA ((Tr.read a c e).d b x)=some (.bl true):=Pq;have f1:aC bZ "line" ((Tr.read a c e).d b x)=some (.int a):=Pq;show defn 1 [false] (jB (wU n)) _=FR.ok (.lst [.int a]) [];generalize (Tr.read a c e).d b x=td at *;generalize wU n=w at *;unfold jB;exact rn|one d t ih=>intro n hn hl;obtain⟨n,rfl⟩:∃m,n=m+1:=⟨n-1,by simp[Tr.dep] at hn;lia⟩;have e1:=ih n (by simp only[Tr.dep] at hn;lia) hl;have r1:bo cA ((Tr.one d t).d b x)=some (.bl false):=Pq;have r2:bo cz ((Tr.one d t).d b x)=some (.bl true):=Pq;have f1:aC dN "inner" ((Tr.one d t).d b x)=some (t.d b x):=Pq;show defn 1 [false] (jB (wU n)) _=FR.ok (gz t.rs) [];generalize (Tr.one d t).d b x=td at *;generalize t.d b x=t' at *;generalize wU n=w at *;unfold jB;exact rn|within c e t y ih=>intro n hn hl;obtain⟨n,rfl⟩:∃m,n=m+1:=⟨n-1,by simp[Tr.dep] at hn;lia⟩;have e1:=ih n (by simp only[Tr.dep] at hn;lia) hl;have r1:bo cA ((Tr.within c e t y).d b x)=some (.bl false):=Pq;have r2:bo cz ((Tr.within c e t y).d b x)=some (.bl true):=Pq;have f1:aC dN "inner" ((Tr.within c e t y).d b x)=some (t.d b x):=Pq;show defn 1 [false] (jB (wU n)) _=FR.ok (gz t.rs) [];generalize (Tr.within c e t y).d b x=td at *;generalize t.d b x=t' at *;generalize wU n=w at *;unfold jB;exact rn|both d t u VZ V0=>intro n hn hl;obtain⟨n,rfl⟩:∃m,n=m+1:=⟨n-1,by simp[Tr.dep] at hn;lia⟩;simp only[Tr.dep] at hn;simp only[Tr.rs,List.length_append] at hl;have e1:=VZ n Ug Ug;have e2:=V0 n Ug Ug;have ad:=Lg t.rs u.rs hl;have r1:bo cA ((Tr.both d t u).d b x)=some (.bl false):=Pq;have r2:bo cz ((Tr.both d t u).d b x)=some (.bl false):=Pq;have r3:bo fV ((Tr.both d t u).d b x)=some (.bl true):=Pq;have f1:aC eO "left" ((Tr.both d t u).d b x)=some (t.d b x):=Pq;have f2:aC dk "right" ((Tr.both d t u).d b x)=some (u.d b x):=Pq;show defn 1 [false] (jB (wU n)) _=FR.ok (gz (t.rs++u.rs)) [];generalize (Tr.both d t u).d b x=td at *;generalize t.d b x=t' at *;generalize u.d b x=u' at *;generalize gz (t.rs++u.rs)=N at *;generalize gz t.rs=N1 at *;generalize gz u.rs=N2 at *;generalize wU n=w at *;unfold jB;exact rn|cO t u s VZ V0 Zq=>intro n hn hl;obtain⟨n,rfl⟩:∃m,n=m+1:=⟨n-1,by simp[Tr.dep] at hn;lia⟩;simp only[Tr.dep] at hn;simp only[Tr.rs,List.length_append] at hl;have e1:=VZ n Ug Ug;have e2:=V0 n Ug Ug;have e3:=Zq n Ug Ug;have ad:=Lg t.rs u.rs Ug;have ad2:=Lg (t.rs++u.rs) s.rs (by simp only[List.length_append];lia);have r1:bo cA ((Tr.cO t u s).d b x)=some (.bl false):=Pq;have r2:bo cz ((Tr.cO t u s).d b x)=some (.bl false):=Pq;have r3:bo fV ((Tr.cO t u s).d b x)=some (.bl false):=Pq;have r4:bo gJ ((Tr.cO t u s).d b x)=some (.bl true):=Pq;have f0:aC iI "asked" ((Tr.cO t u s).d b x)=some (t.d b x):=Pq;have f1:aC eO "left" ((Tr.cO t u s).d b x)=some (u.d b x):=Pq;have f2:aC dk "right" ((Tr.cO t u s).d b x)=some (s.d b x):=Pq;show defn 1 [false] (jB (wU n)) _=FR.ok (gz (t.rs++u.rs++s.rs)) [];generalize (Tr.cO t u s).d b x=td at *;generalize t.d b x=t' at *;generalize u.d b x=u' at *;generalize s.d b x=s' at *;generalize gz (t.rs++u.rs++s.rs)=N at *;generalize gz (t.rs++u.rs)=N0 at *;generalize gz t.rs=N1 at *;generalize gz u.rs=N2 at *;generalize gz s.rs=N3 at *;generalize wU n=w at *;unfold jB;exact rn
theorem sZ(ls:ZO)(w:X4)(p i:Nat)(hi:i<ls.length)(hw:w.getD i false=true):(dw ls i).count p<=(dH ls w p).length:=by
 unfold dH;have sub:List.Sublist (((dw ls i).filter (fun r=>decide (r=p))).map fun _=>i) ((List.range ls.length).flatMap fun i=>if w.getD i false then((dw ls i).filter (fun r=>decide (r=p))).map fun _=>i else []):=by have h:i∈List.range ls.length:=List.mem_range.mpr hi;obtain⟨l1,l2,e⟩:=List.append_of_mem h;rw[e,List.flatMap_append,List.flatMap_cons,WL hw];exact(List.sublist_append_left _ _).trans (List.sublist_append_right _ _)
 have:=sub.length_le;rw[xN] at this;refine RC (Nat.le_of_eq ?_) this;rw[List.count_eq_length_filter];congr 1
theorem Hr{b:Option Nat}{x:Nat}{ls:ZO}(wf:Wf ls)(h0:ls≠[])(G7:ls.length<=40):∃kp,uT [Pg ls,fB (List.replicate ls.length (ay b x))]=.ok (iy kp) []/\Kp ls kp:=by
 obtain⟨w,_,wl,hw,e⟩:=qy ls (List.replicate ls.length (ay b x)) wf h0 Ug O3;have hn:=List.length_pos_iff.mpr h0;have gw:∀i,w.getD i false=true<->oH ls i:=fun i=>by rw[<-hw i,OR];cases h:w[i]? with|none=>simp|some b=>simp
 generalize List.replicate ls.length (ay b x)=ss at *;have gk:∀i,(pF ls ss w)[i]?=some true<->i<ls.length/\oH ls i/\kN ls ss i (dH ls w i)=true:=fun i=>by unfold pF;by_cases hi:i<ls.length;rw[CW,GN hi];simp only[Option.map_some,Option.some.injEq,Bool.and_eq_true,gw];exact⟨fun h=>⟨hi,h⟩,fun h=>h.2⟩;rw[Nd (by simp;lia)];exact⟨fun h=>(by cases h),fun h=>absurd h.1 hi⟩
 have jR:∀u i,(pF ls ss w)[u]?=some false->oH ls i->u∈dw ls i->(dH ls w u).length<=1:=fun u i hu hi hm=>by
  have il:=hi.lt wf h0;have ru:oH ls u:=.step hi (ko il) hm;have nk:¬kN ls ss u (dH ls w u)=true:=fun z=>by have:=(gk u).mpr ⟨ru.lt wf h0,ru,z⟩;rw[hu] at this;cases this
  simp only[kN,Bool.or_eq_true,decide_eq_true_eq,not_or] at nk
  lia
 refine⟨_,e,by simp[pF],fun i hr h=>(gk i).mpr ⟨hr.lt wf h0,hr,?_⟩,(gk _).mpr ⟨Ug,.last,?_⟩,fun i h=>((gk i).mp h).2.1,fun u i j hu hi hj ui uj=>?_,fun u i hu hi=>?_⟩;have:kd ls i∈K4:=h;simp[kN,this];simp[kN];have f:=jR u i hu hi ui;have mi:=(lj ls w u i).mpr ⟨hi.lt wf h0,(gw i).mpr hi,ui⟩;have mj:=(lj ls w u j).mpr ⟨hj.lt wf h0,(gw j).mpr hj,uj⟩;generalize dH ls w u=L at *
 match L,f with|[],_=>cases mi|[a],_=>rw[List.mem_singleton.mp mi,List.mem_singleton.mp mj]
 by_cases ui:u∈dw ls i;exact RC (sZ ls w u i (hi.lt wf h0) ((gw i).mpr hi)) (jR u i hu hi ui);rw[List.count_eq_zero.mpr ui];lia
theorem FQ{i j:Nat}{f:WM}{o:D}{mk:Nat->D}(N:Nat)(P:Nat->WS->Prop)(step:∀p<N,∀S,P p S->∃S',P (p+1) S'/\f o {S with r:=(S.r.set i (.sh (.int p))).set j (.sh (mk p))}=some (.nx,S')){S:WS}(h0:P 0 S):∃S',P N S'/\qi i j f 0 ((List.range N).map mk) o S=some (.nx,S'):=by
 have go:∀m p,p+m=N->∀S,P p S->∃S',P N S'/\qi i j f p ((List.range' p m).map mk) o S=some (.nx,S'):=by intro m;induction m with|zero=>intro p hp S h;obtain rfl:p=N:=Ug;exact⟨S,h,rfl⟩|succ m ih=>intro p hp S h;obtain⟨S1,h1,e1⟩:=step p Ug S h;obtain⟨S2,h2,e2⟩:=ih (p+1) Ug S1 h1;refine⟨S2,h2,?_⟩;rw[List.range'_succ,Pj];show (f o _).bind _=_;rw[e1];exact e2
 have:=go N 0 Ug S h0;rwa [<-List.range_eq_range'] at this
noncomputable def rS(c row:ZX)(n:Nat):ZX:=c.take n++row.drop n
theorem yf{c row:ZX}(h:row.length=c.length)(n:Nat):(rS c row n).length=c.length:=by simp[rS];lia
theorem yg{c row:ZX}(h:row.length=c.length){n:Nat}(hn:n<c.length):(rS c row n).set n (c.getD n 0)=rS c row (n+1):=by
 unfold rS;rw[List.set_append_right _ _ (by simp;lia)];have e:n-(c.take n).length=0:=by simp;lia
 rw[e,SU (show n<row.length by lia),List.set_cons_zero,take_snoc c n hn,List.append_assoc];rfl
theorem N6{c row:ZX}{n i:Nat}(hn:n<=c.length)(hi:i<n):(rS c row n)[i]?=some (c.getD i 0):=by unfold rS;rw[Sg (by simp;lia)];simp[hi,show i<c.length by lia]
def Hd(V:Nat->ZX)(o:D)(rows:ZE)(rs:Rx)(k:Nat):Prop:=∀r∈rs,∃k':Nat,k'≠k/\lG o (.int (r:Int))=some (.int k')/\rows[k']?=some (V r)
theorem Hd.hold{V:Nat->ZX}{o:D}{rows:ZE}{rs:Rx}{k:Nat}(h:Hd V o rows rs k)(row:ZX):nK V o (rows.set k row) rs:=fun r hr=>by obtain⟨k',h1,h2,h3⟩:=h r hr;refine⟨k',fun dn=>?_⟩;unfold rowAt;rw[h2];show ((rows.set k row)[k']?).map _=_;rw[RH (fun z=>h1 z.symm),h3];rfl
theorem oA{o:D}{rows:ZE}{a k:Nat}{row:ZX}(hk:lG o (.int (a:Int))=some (.int k))(hr:rows[k]?=some row)(dn:Int):rowAt o ⟨rows,dn⟩ (.int a)=some (k,row):=by unfold rowAt;rw[hk];show (rows[k]?).map _=_;rw[hr];rfl
section
variable{b:Option Nat}{x:Nat}(ok:Ok b x){V:Nat->ZX}{o:D}{rows:ZE}{rs:Rx}{a k:Nat}{row:ZX}(hk:lG o (.int (a:Int))=some (.int k))(hr:rows[k]?=some row)(hl:row.length=cnt b x)(hd:Hd V o rows rs k)(hv:(V a).length=cnt b x)
include hr hl in
theorem N5(c:ZX):rows.set k (rS c row 0)=rows:=by refine Hw fun i=>?_;by_cases q:k=i;subst q;rw[Vb (List.getElem?_eq_some_iff.mp hr).1,hr];simp[rS];rw[RH q]
include hl hv in
theorem ye:rS (V a) row (cnt b x)=V a:=by unfold rS;rw[OG Ug,List.drop_eq_nil_of_le Ug,Il]
include hr in
theorem tV(A:ZX):(rows.set k A)[k]?=some A:=by rw[Vb (List.getElem?_eq_some_iff.mp hr).1]
include hk hr hl hv
theorem Hz(ok:Ok b x)(X:D)(TT:D)(fl:aC bZ "line" X=some (.int a))(ft:aC lN "table" X=some (.int 0))(fc:aC br "cells" TT=some (Z (V a)))(dn:Int):yX [X,.lst [TT]] o ⟨rows,dn⟩=some (.bB,⟨rows.set k (V a),dn⟩):=by
 have i0:aq (.lst [TT]) (.int 0)=some TT:=rfl;have ro:=oA hk hr dn;have en:Z (V a)=.lst ((List.range (cnt b x)).map fun p=>D.int ((V a).getD p 0)):=by
  unfold Z;congr 1;refine Nj (by simp[hv]) fun i h1 h2=>?_;have:i<(V a).length:=by simpa using h1
  simp[this]
 obtain⟨S,⟨s4,s5,eS⟩,L⟩:=FQ (i:=4) (j:=5) (f:=bh (mf (ag 4) (wP (ag 5))) fq) (o:=o) (mk:=fun p=>D.int ((V a).getD p 0)) (cnt b x) (fun p S=>∃s4 s5,S=⟨[.no,.sh X,.sh (.lst [TT]),.no,s4,s5],some k,⟨rows.set k (rS (V a) row p),dn⟩⟩) (fun p hp S hS=>by obtain⟨s4,s5,rfl⟩:=hS;refine⟨_,⟨.sh (.int p),.sh (.int ((V a).getD p 0)),rfl⟩,?_⟩;have sg:=tV hr (rS (V a) row p);have sl:=yf (row:=row) (c:=V a) Ug p;have ss:=yg (row:=row) (c:=V a) Ug (n:=p) Ug;generalize (V a).getD p 0=v at *;generalize rS (V a) row (p+1)=r1 at *;generalize rS (V a) row p=r0 at *;generalize D.lst [TT]=TL at *;simp[bh,mf,fq,wP,hand,sg,show p<r0.length by lia,ss]) (S:=⟨[.no,.sh X,.sh (.lst [TT]),.no,.no,.no],some k,⟨rows,dn⟩⟩) ⟨.no,.no,by rw[N5 hr hl]⟩;rw[ye hl hv] at eS;subst eS;generalize (List.range (cnt b x)).map (fun p=>D.int ((V a).getD p 0))=ds at *;rw[en] at fc;generalize D.lst [TT]=TL at *;simp[yX,dE,fO,BZ,bh,wF,nG,wP,fq,fl,ft,fc,i0,ro] at L ⊢;simp[L]
include hd
theorem G3(ok:Ok b x)(X:D)(t:Tr)(fl:aC bZ "line" X=some (.int a))(fs:aC aO "sides" X=some (T (ay b x)))(ft:aC dA "tree" X=some (t.d b x))(ht:t.dep<=180)(ev:∀l5,nK V o l5 rs->∀p<cnt b x,Ev b x o l5 t ((p:Int) / sz x) ((p:Int) % sz x) ((V a).getD p 0)) (dn:Int):∃kH,dn<=kH/\yW [X] o ⟨rows,dn⟩=some (.bB,⟨rows.set k (V a),kH⟩):=by have ro:=oA hk hr dn;have ia:=lg ok;obtain⟨S,⟨s3,s4,kH,Ko,eS⟩,L⟩:=FQ (i:=3) (j:=4) (f:=bh (mf (ag 3) (bT jQ 2 (bt [(wP (m1 (aC dA "tree") (ag 1))),(wP (ag 4))]))) fq) (o:=o) (mk:=fun p=>T (ix b ((p:Int) / sz x) ((p:Int) % sz x))) (cnt b x) (fun p S=>∃s3 s4 kH,dn<=kH/\S=⟨[.no,.sh X,.no,s3,s4],some k,⟨rows.set k (rS (V a) row p),kH⟩⟩) (fun p hp S hS=>by obtain⟨s3,s4,BL,Ko,rfl⟩:=hS;obtain⟨uv,h1,h2⟩:=ev _ (hd.hold (rS (V a) row p)) p hp 180 ht BL;have h2:jQ [t.d b x,T (ix b ((p:Int) / sz x) ((p:Int) % sz x))] o ⟨rows.set k (rS (V a) row p),BL⟩=some (.int ((V a).getD p 0),⟨rows.set k (rS (V a) row p),uv⟩):=h2;refine⟨_,⟨.sh (.int p),.sh (T (ix b ((p:Int) / sz x) ((p:Int) % sz x))),uv,Ug,rfl⟩,?_⟩;have sg:=tV hr (rS (V a) row p);have sl:=yf (row:=row) (c:=V a) Ug p;have ss:=yg (row:=row) (c:=V a) Ug (n:=p) Ug;generalize (V a).getD p 0=v at *;generalize rS (V a) row (p+1)=r1 at *;generalize rS (V a) row p=r0 at *;generalize t.d b x=td at *;generalize T (ix b ((p:Int) / sz x) ((p:Int) % sz x))=I at *;generalize jQ=F at *;simp[bh,mf,fq,wP,bT,bt,wB,wR,hand,ft,h2,sg,show p<r0.length by lia,ss]) (S:=⟨[.no,.sh X,.no,.no,.no],some k,⟨rows,dn⟩⟩) ⟨.no,.no,dn,Int.le_refl _,by rw[N5 hr hl]⟩;rw[ye hl hv] at eS;subst eS;refine⟨kH,Ko,?_⟩;generalize (List.range (cnt b x)).map (fun p:Nat=>T (ix b ((p:Int) / sz x) ((p:Int) % sz x)))=ds at *;generalize T (ay b x)=TS at *;unfold yW BY;generalize bh (mf (ag 3) (bT jQ 2 (bt [(wP (m1 (aC dA "tree") (ag 1))),(wP (ag 4))]))) fq=F at *;simp[dE,fO,bh,wF,nG,wP,fq,fl,fs,ia,ro,L]
theorem yr(ok:Ok b x)(X:D)(t:Tr){d a1:Nat}(YR:d∈[19,20,21,22,23,24,25])(c1:Cs b x (V a1))(eV:V a=gr b x d (V a1))(fl:aC bZ "line" X=some (.int a))(fs:aC aO "sides" X=some (T (ay b x)))(fi:aC je "side" X=some (.int (lst b)))(fd:aC dR "deed" X=some (.str (nm d)))(ft:aC dA "tree" X=some (t.d b x))(ht:t.dep<=180)(ev:∀l5,nK V o l5 rs->∀p<cnt b x,Ev b x o l5 t ((p:Int) / sz x) ((p:Int) % sz x) ((V a1).getD p 0)) (dn:Int):∃kH,dn<=kH/\yY [X] o ⟨rows,dn⟩=some (.bB,⟨rows.set k (V a),kH⟩):=by
 have ro:=oA hk hr dn;have ia:=lg ok;have st:=gS ok;have sS:=SI b x;obtain⟨S,⟨s4,s5,s6,kH,Ko,eS⟩,L⟩:=FQ (i:=4) (j:=5) (f:=bh (gX 6 (bT jQ 2 (bt [(wP (m1 (aC dA "tree") (ag 1))),(wP (ag 5))]))) (bh (mf (ag 4) (Gs (tB (m2 b7 (m2 aq (ag 5) (m1 (aC je "side") (ag 1))) (cI 0))) (wP (ag 6)) (ma lJ 3 (bt [(wP (m1 (aC dR "deed") (ag 1))),(yw (m2 dh (ag 4) (ag 3))),(wP (ag 6))])))) fq)) (o:=o) (mk:=fun p=>T (ix b ((p:Int) / sz x) ((p:Int) % sz x))) (cnt b x) (fun p S=>∃s4 s5 s6 kH,dn<=kH/\S=⟨[.no,.sh X,.no,.sh (.int 1),s4,s5,s6],some k,⟨rows.set k (rS (V a) row p),kH⟩⟩) (fun p hp S hS=>by
  obtain⟨s4,s5,s6,BL,Ko,rfl⟩:=hS;obtain⟨uv,h1,h2⟩:=ev _ (hd.hold (rS (V a) row p)) p hp 180 ht BL;have h2:jQ [t.d b x,T (ix b ((p:Int) / sz x) ((p:Int) % sz x))] o ⟨rows.set k (rS (V a) row p),BL⟩=some (.int ((V a1).getD p 0),⟨rows.set k (rS (V a) row p),uv⟩):=h2;refine⟨_,⟨.sh (.int p),.sh (T (ix b ((p:Int) / sz x) ((p:Int) % sz x))),.sh (.int ((V a1).getD p 0)),uv,Ug,rfl⟩,?_⟩;have sg:=tV hr (rS (V a) row p);have sl:=yf (row:=row) (c:=V a) Ug p;have ss:=yg (row:=row) (c:=V a) Ug (n:=p) Ug;have il:=zH b ((p:Int) / sz x) ((p:Int) % sz x);have rg:p≠0->(rS (V a) row p)[p-1]?=some ((V a).getD (p-1) 0):=fun z=>N6 Ug Ug;have SG:=v5 (d:=d) (c:=V a1) hp;rw[<-eV] at SG;have bd:=fun u:Int=>gD d YR u ((V a1).getD p 0);have va:Rt ((V a).getD (p-1) 0):=by rw[eV];exact(Fc c1).get _
  have bd:=bd _ va;have p0:p=0->(p:Int) % sz x=0:=fun z=>by subst z;simp
  generalize (V a).getD p 0=v at *;generalize (V a).getD (p-1) 0=u at *;generalize (V a1).getD p 0=w at *;generalize rS (V a) row (p+1)=r1 at *;generalize rS (V a) row p=r0 at *;generalize t.d b x=td at *;generalize T (ix b ((p:Int) / sz x) ((p:Int) % sz x))=I at *;generalize jQ=F at *;generalize lst b=kk at *;by_cases q:(p:Int) % sz x=0;rw[WL q] at SG;subst SG;simp[bh,mf,fq,wP,bT,bt,wB,wR,gX,Gs,hand,ft,h2,sg,show p<r0.length by lia,ss,il,fi,q];rw[S8 q] at SG;have rg:=rg fun z=>q (p0 z);have em:(p:Int)-1=((p-1:Nat):Int):=by have:p≠0:=fun z=>q (p0 z);lia
  have wg:yw (m2 dh (ag 4) (ag 3)) o ⟨[.no,.sh X,.no,.sh (.int 1),.sh (.int p),.sh I,.sh (.int w)],some k,⟨rows.set k r0,uv⟩⟩=some (.int u,⟨rows.set k r0,uv⟩):=by
   have e1:wP (m2 dh (ag 4) (ag 3)) o ⟨[.no,.sh X,.no,.sh (.int 1),.sh (.int p),.sh I,.sh (.int w)],some k,⟨rows.set k r0,uv⟩⟩=some (.int ((p-1:Nat):Int),⟨rows.set k r0,uv⟩):=by rw[<-em];rfl
   unfold yw wB;rw[e1];have e2:hand (some k) ⟨rows.set k r0,uv⟩=some (k,r0):=by unfold hand;show ((rows.set k r0)[k]?).map _=_;rw[sg];rfl
   show (match D.int (Int.ofNat (p-1)),hand (some k) ⟨rows.set k r0,uv⟩ with|.int (.ofNat k),some (_,r)=>r[k]?.map fun v=>(D.int v,Wk.mk (rows.set _ r0) uv)|_,_=>none)=_;rw[e2];show (r0[p-1]?).map _=_;rw[rg];rfl
  rw[SG] at ss;simp[bh,mf,fq,wP,bT,bt,wB,wR,gX,Gs,ma,wO,Ja,hand,ft,h2,sg,show p<r0.length by lia,ss,il,fi,fd,q,wg,bd]) (S:=⟨[.no,.sh X,.no,.sh (.int 1),.no,.no,.no],some k,⟨rows,dn⟩⟩) ⟨.no,.no,.no,dn,Int.le_refl _,by rw[N5 hr hl]⟩
 rw[ye hl hv] at eS;subst eS;refine⟨kH,Ko,?_⟩;generalize (List.range (cnt b x)).map (fun p:Nat=>T (ix b ((p:Int) / sz x) ((p:Int) % sz x)))=ds at *;generalize T (ay b x)=TS at *;generalize T (el b x)=TD at *;unfold yY B0;generalize bh (gX 6 (bT jQ 2 (bt [(wP (m1 (aC dA "tree") (ag 1))),(wP (ag 5))]))) (bh (mf (ag 4) (Gs (tB (m2 b7 (m2 aq (ag 5) (m1 (aC je "side") (ag 1))) (cI 0))) (wP (ag 6)) (ma lJ 3 (bt [(wP (m1 (aC dR "deed") (ag 1))),(yw (m2 dh (ag 4) (ag 3))),(wP (ag 6))])))) fq)=F at *;simp[dE,fO,bh,wF,gX,nG,wP,fq,fl,fs,fi,ia,ro,st,sS,L]
end
def vf(t:Sl×Sl×Sl):Prop:=free (some t.1)=true/\free (some t.2.1)=true/\free (some t.2.2)=true
theorem Jc(n:Nat)(h:n<=1000):vZ [.int (n:Int)]=some ((List.range n).map fun(k:Nat)=>.int k):=v3 _ _ Ug Ug Ug
theorem zy:∀(is:ZX)(a:Int),a<=is.foldl (fun a b=>if a<b then b else a) a/\∀x∈is,x<=is.foldl (fun a b=>if a<b then b else a) a|[],a=>⟨O3,fun x hx=>by simp at hx⟩|i::is,a=>by obtain⟨h1,h2⟩:=zy is (if a<i then i else a);simp only[List.foldl_cons];generalize is.foldl (fun a b=>if a<b then b else a) (if a<i then i else a)=z at *;refine⟨by split at h1<;>lia,fun x hx=>?_⟩;rcases List.mem_cons.mp hx with rfl|hx;split at h1<;>lia;exact h2 x hx
noncomputable def Dc(m:V8):D:=.fP (m.map fun p=>.inl (p.1:Int)) (m.map fun p=>.int (p.2:Int))
noncomputable def gU:V8->Nat->Option Nat|[],_=>none|p::m,k=>if p.1=k then some p.2 else gU m k
noncomputable def uu(k v:Nat):V8->List (Nat×Nat)|[]=>[(k,v)]|p::m=>if p.1=k then(p.1,v)::m else p::uu k v m
theorem sO(a b:Nat):((.inl (a:Int):Sum Int Str)=.inl (b:Int))<->a=b:=⟨fun h=>by cases h;rfl,fun h=>by rw[h]⟩
theorem k5:∀(m:V8)(k v:Nat),gU m k=some v->lG (Dc m) (.int (k:Int))=some (.int (v:Int))|[],_,_,h=>by cases h|p::m,k,v,h=>by have ih:=k5 m k v;unfold gU at h;show (if _ then _ else Qm _ _ _)=_;by_cases c:p.1=k;rw[WL c] at h;cases h;rw[WL ((sO _ _).mpr c)];rw[S8 c] at h;rw[S8 fun z=>c ((sO _ _).mp z)];exact ih h
theorem CY(k v:Nat):∀m:V8,xj (.inl (k:Int)) (.int (v:Int)) (m.map fun p=>.inl (p.1:Int)) (m.map fun p=>D.int (p.2:Int))=((uu k v m).map fun p=>.inl (p.1:Int),(uu k v m).map fun p=>D.int (p.2:Int))|[]=>rfl|p::m=>by have ih:=CY k v m;rw[Pj,Pj,xj,ih,uu];by_cases c:p.1=k;rw[WL ((sO _ _).mpr c),WL c];rfl;rw[S8 fun z=>c ((sO _ _).mp z),S8 c];rfl
theorem E5(m:V8)(k v:Nat)(h:m.length<1000):putD (.int (k:Int)) (.int (v:Int)) (Dc m)=some (Dc (uu k v m)):=by show (if _ then _ else _)=_;rw[WL (by simpa using h),CY];rfl
theorem ka(k v:Nat):∀(m:V8)(j:Nat),gU (uu k v m) j=if k=j then some v else gU m j|[],j=>by simp[uu,gU]|p::m,j=>by have ih:=ka k v m j;unfold uu;by_cases c:p.1=k;rw[WL c,gU,gU];dsimp only;rw[c];split<;>rfl;rw[S8 c,gU,ih,gU];by_cases c2:p.1=j;rw[WL c2,S8 Ug,WL c2];rw[S8 c2,S8 c2]
theorem n9(k v:Nat):∀m:V8,gU m k=none->uu k v m=m++[(k,v)]|[],_=>rfl|p::m,h=>by unfold gU at h;unfold uu;by_cases c:p.1=k;rw[WL c] at h;cases h;rw[S8 c] at h;rw[S8 c,n9 k v m h];rfl
theorem sf:∀(m:V8)(k v:Nat),gU m k=some v->(k,v)∈m|[],_,_,h=>by cases h|p::m,k,v,h=>by unfold gU at h;by_cases c:p.1=k;rw[WL c] at h;cases h;subst c;exact Rn;rw[S8 c] at h;exact X1 _ (sf m k v h)
theorem mP{α:Type}[DecidableEq α]:∀(l l':List α),l.Nodup->(∀x∈l,x∈l')->l.length<=l'.length|[],_,_,_=>O3|x::l,l',hn,h=>by have hx:=h x Rn;have wQ:=List.nodup_cons.mp hn;have ih:=mP l (l'.erase x) wQ.2 fun y hy=>(List.mem_erase_of_ne (fun z:y=x=>wQ.1 (by rw[<-z];exact hy))).mpr (h y (X1 _ hy));have e:=List.length_erase_of_mem hx;have:=List.length_pos_of_mem hx;simp only[List.length_cons];lia
theorem Zs(rows:Rx)(k:Nat):inD false (.int (k:Int)) (gz rows)=some (.bl (decide (k∈rows))):=by
 have sq:c5 (gz rows)=some (rows.map fun k=>D.int (k:Nat)):=rfl;unfold inD;rw[sq];dsimp only;have fl:(rows.map fun k=>D.int (k:Nat)).all jS=true:=by simp[jS]
 rw[fl,Bool.and_true,WL (show jS (D.int (k:Int))=true from rfl)];have:((rows.map fun k=>D.int (k:Nat)).any fun y=>eqB y (.int (k:Int)))=decide (k∈rows):=by simp only[List.any_map,Function.comp_def,eqB];rw[Bool.eq_iff_iff];simp only[List.any_eq_true,beq_iff_eq,decide_eq_true_eq];exact⟨fun ⟨x,h,e⟩=>(show x=k by lia) ▸ h,fun h=>⟨k,h,rfl⟩⟩
 simp[this]
theorem Q1l{wc:M Bool}{wb:M Fl}{rows:Rx}(hl:rows.length<=100)(Fr:Nat->aU)(hc:∀k,wc (Fr k)=.ok (decide (k∈rows)) (Fr k))(hb:∀k,wb (Fr k)=.ok .nx (Fr (k+1))) : ∃r:Nat,tU wc wb (Fr 0)=.ok .nx (Fr r)/\r∉rows/\∀j<r,j∈rows:=by
 have key:∀(n k:Nat),n+k=101->(∀j<k,j∈rows)->∃r:Nat,gT wc wb (n+9899) (Fr k)=.ok .nx (Fr r)/\r∉rows/\∀j<r,j∈rows:=by
  intro n;induction n with
  |zero=>intro k hk hj;have:=mP (List.range k) rows List.nodup_range fun x hx=>hj x (List.mem_range.mp hx);simp at this;lia|succ n ih=>
   intro k hk hj;have ik:=hc k;by_cases c:k∈rows;rw[NU c] at ik;obtain⟨r,e,h1,h2⟩:=ih (k+1) Ug fun j QW=>by by_cases z:j=k;rw[z];exact c;exact hj j Ug
   exact⟨r,by rw[show n+1+9899=(n+9899)+1 by lia,Q1j ik (hb k)];exact e,h1,h2⟩;rw[Uy c] at ik;exact⟨k,by rw[show n+1+9899=(n+9899)+1 by lia];exact wG ik,c,hj⟩
 obtain⟨r,e,h⟩:=key 101 0 rfl fun j hj=>Ug;exact⟨r,e,h⟩
theorem A7(rows:Rx)(hl:rows.length<=100):∃r:Nat,za [gz rows]=.ok (.int r) []/\r∉rows/\∀j<r,j∈rows:=by
 obtain⟨r,e,h⟩:=Q1l (wc:=cL) (wb:=cK) hl (fun k=>[.sh (gz rows),.sh (.int (k:Nat))]) (fun k=>by have ik:=Zs rows k;unfold cL;exact bw) fun k=>by rw[show (((k+1:Nat)):Int)=(k:Int)+1 by lia];unfold cK;exact bw
 have e:tU cL cK [.sh (gz rows),.sh (.int 0)]=.ok .nx [.sh (gz rows),.sh (.int r)]:=e;refine⟨r,?_,h⟩;unfold za Ci;exact rn
theorem IF{A B:Type}[Inhabited B]{P:A->B->Prop}{as:List A}(h:∀a∈as,∃b,P a b):∃f:A->B,∀a∈as,P a (f a):=by
 classical
 refine⟨fun a=>if h':∃b,P a b then h'.choose else default,fun a ha=>?_⟩;have h':=h a ha;dsimp only;rw[dif_pos h'];exact h'.choose_spec
theorem uE(k v:Nat):∀(m:V8)(w:Nat),gU m k=some w->(uu k v m).map (·.1)=m.map (·.1)|[],_,h=>by cases h|p::m,w,h=>by unfold gU at h;unfold uu;by_cases c:p.1=k;rw[WL c];rfl;rw[S8 c] at h;rw[S8 c,Pj,Pj,uE k v m w h]
theorem yC:∀(m:V8)(k:Nat),gU m k=none->k∉m.map (·.1)|[],_,_=>O3|p::m,k,h=>by unfold gU at h;by_cases c:p.1=k;rw[WL c] at h;cases h;rw[S8 c] at h;have:=yC m k h;simp only[List.map_cons,List.mem_cons,not_or];exact⟨fun z=>c z.symm,this⟩
def Kd(m:V8):Prop:=(m.map (·.1)).Nodup/\∀k∈m.map (·.1),k<40
theorem Kd.jR{m:V8}(h:Kd m):m.length<=40:=by have:=mP (m.map (·.1)) (List.range 40) h.1 fun x hx=>List.mem_range.mpr (h.2 x hx);simpa using this
theorem Kd.put{m:V8}(h:Kd m){k:Nat}(v:Nat)(hk:k<40):Kd (uu k v m):=by cases e:gU m k with|some w=>unfold Kd;rw[uE k v m w e];exact h|none=>rw[n9 k v m e];have hn:=yC m k e;unfold Kd;rw[Mn];refine⟨List.nodup_append.mpr ⟨h.1,O3,fun a ha b hb z=>?_⟩,fun x hx=>?_⟩;simp at hb;rw[<-z] at hb;subst hb;exact hn ha;rcases List.mem_append.mp hx with hx|hx;exact h.2 x hx;simp at hx;lia
theorem Kd.nil:Kd []:=⟨O3,O3⟩
structure OZ(s:ZX)(as:Rx)(X:Nat->D)(rd:Nat->Rx):Prop where
 some:as≠[]
 ord:as.Pairwise (· < ·)
 jR:as.length<=40
 small:∀a∈as,a<40
 line:∀a∈as,aC bZ "line" (X a)=Option.some (.int (a:Int))
 side:∀a∈as,aC aO "sides" (X a)=Option.some (T s)
 read:∀a∈as,qT [X a]=.ok (gz (rd a)) []
 own:∀a∈as,∀r∈rd a,r∈as/\r<a
 all:∀i,i+1<as.length->∃a∈as,as.getD i 0∈rd a
section
variable{s:ZX}{as:Rx}{X:Nat->D}{rd:Nat->Rx}(L:OZ s as X rd)
def kB(as:Rx)(X:Nat->D):D:=.lst (as.map X)
theorem kW{as:Rx}{i:Nat}(h:i<as.length):as.getD i 0∈as:=by rw[OR,Uz h];exact Bt h
theorem CZ(as:Rx)(X:Nat->D):jP [kB as X]=some ((List.range as.length).map fun(i:Nat)=>D.tup [.int i,X (as.getD i 0)]):=by
 show some (iG (as.map X))=_;rw[mB];congr 1;refine Nj O3 fun i h1 h2=>?_;have hi:i<as.length:=by simpa using h2
 simp[hi]
include L
theorem tE{i j:Nat}(hi:i<as.length)(hj:j<as.length):as.getD i 0<as.getD j 0<->i<j:=by
 have e:∀k (h:k<as.length),as.getD k 0=as[k]:=fun k h=>by simp[h]
 rw[e i hi,e j hj];have p:=List.pairwise_iff_getElem.mp L.ord;constructor;intro h;rcases Nat.lt_trichotomy i j with z|z|z;exact z;subst z;lia;have:=p j i hj hi z;lia;intro z;exact p i j hi hj z
theorem at_of{a:Nat}(h:a∈as):∃i,i<as.length/\as.getD i 0=a:=by obtain⟨i,hi,e⟩:=List.mem_iff_getElem.mp h;exact⟨i,hi,by simp[hi,e]⟩
theorem BW{i j:Nat}(hi:i<as.length)(hj:j<as.length)(e:as.getD i 0=as.getD j 0):i=j:=by rcases Nat.lt_trichotomy i j with z|z|z;have:=(tE L hi hj).mpr z;lia;exact z;have:=(tE L hj hi).mpr z;lia
def uy(as:Rx)(rd:Nat->Rx)(i:Nat)(m:V8):Prop:=(Kd m/\∀r v,gU m r=some v->v<i/\r∈rd (as.getD v 0))/\∀j<i,∀k∈rd (as.getD j 0),∃j',j<=j'/\gU m k=some j'
theorem Q1k{g1 g2:D->M Unit}{lp1 lp2:M Fl}(rs:Nat->Rx)(Ze:∀a∈as,∀r,r∈rs a<->r∈rd a)(Fo:V8->Sl×Sl×Sl->aU)(Fi:Nat->V8->Sl->aU)
  (YZ:∀(k r:Nat) m t,k<as.length->free (some t)=true->putD (.int (r:Int)) (.int (k:Int)) (Dc m)=some (Dc (uu r k m))->bS g1 lp1 (.int (r:Int)) (Fi k m t)=.ok .nx (Fi k (uu r k m) (.sh (.int r))))
  (sN:∀(k:Nat) m m' t s,k<as.length->vf t->loop g1 lp1 ((rs (as.getD k 0)).map fun(r:Nat)=>D.int (r:Int)) (Fi k m t.2.2)=.ok .nx (Fi k m' s)->bS g2 lp2 (.tup [.int (k:Int),X (as.getD k 0)]) (Fo m t)=.ok .nx (Fo m' (.sh (.int k),.sh (X (as.getD k 0)),s))) :
  ∃m t,vf t/\loop g2 lp2 ((List.range as.length).map fun(i:Nat)=>D.tup [.int i,X (as.getD i 0)]) (Fo [] (.no,.no,.no))=.ok .nx (Fo m t)/\uy as rd as.length m:=by
 obtain⟨m,t,hP,ht,Lp⟩:=eU (g:=g2) (body:=lp2) (fun(i:Nat)=>D.tup [.int i,X (as.getD i 0)]) Fo vf (List.range as.length) (uy as rd) [] (.no,.no,.no) ⟨rfl,rfl,rfl⟩ ⟨⟨Kd.nil,fun r v h=>by cases h⟩,fun j hj=>Ug⟩ (by
  intro i k hk m t ht hP;obtain⟨rfl,hk⟩:=fg hk;have ha:=kW hk;have ow:=L.own _ ha;have hm:=Ze _ ha;obtain⟨⟨hK,hV⟩,hP⟩:=hP;obtain⟨m',s,⟨YG,YJ,Zb,Zc⟩,hs,Li⟩:=eU (g:=g1) (body:=lp1) (fun(r:Nat)=>D.int r) (Fi k) Qq (rs (as.getD k 0)) (fun c m'=>Kd m'/\(∀r v,gU m' r=some v->v<k+1/\r∈rd (as.getD v 0))/\(∀j v,gU m j=some v->∃v',v<=v'/\gU m' j=some v')/\∀j<c,gU m' ((rs (as.getD k 0)).getD j 0)=some k) m t.2.2 ht.2.2 ⟨hK,fun r v h=>by have:=hV r v h;exact⟨Ug,this.2⟩,fun j v h=>⟨v,Gm _,h⟩,fun j hj=>Ug⟩ (by
   intro c r hr m' t ht O9;obtain⟨q1,q4,q2,q3⟩:=O9;have XO:=(hm r).mp (TQ hr);have VL:=L.small r (ow r XO).1;refine⟨uu r k m',.sh (.int r),⟨q1.put k VL,fun r' v h=>?_,fun j v hj=>?_,fun j hj=>?_⟩,rfl,?_⟩;rw[ka] at h;split at h;rename_i e;cases h;rw[<-e];exact⟨Ug,XO⟩;exact q4 r' v h;obtain⟨v',h1,h2⟩:=q2 j v hj;rw[ka];by_cases c:r=j;rw[WL c];exact⟨k,by have:=hV j v hj;lia,rfl⟩;rw[S8 c];exact⟨v',h1,h2⟩;rw[ka];by_cases z:j=c;have:(rs (as.getD k 0)).getD j 0=r:=by rw[z,OR,hr];rfl
   rw[this,WL rfl];split;rfl;exact q3 j Ug;rw[YZ k r m' t hk ht (E5 m' r k (by have:=q1.jR;lia))];rfl)
  refine⟨m',(.sh (.int k),.sh (X (as.getD k 0)),s),⟨⟨YG,YJ⟩,fun j hj r hr=>?_⟩,⟨rfl,rfl,hs⟩,?_⟩;by_cases z:j=k;rw[z] at hr;obtain⟨c,hc,e⟩:=List.mem_iff_getElem.mp ((hm r).mpr hr);have:=Zc c hc;rw[OR,Uz hc,Option.getD_some,e] at this;exact⟨k,Ug,this⟩;obtain⟨j',h1,h2⟩:=hP j Ug r hr;obtain⟨v',h3,h4⟩:=Zb r j' h2;exact⟨v',Ug,h4⟩;rw[sN k m m' t s hk ht Li];rfl)
 rw[EZ] at hP;exact⟨m,t,ht,Lp,hP⟩
theorem Hx:∃m,y8 [kB as X]=.ok (Dc m) []/\uy as rd as.length m:=by
 have en:=CZ as X;obtain⟨m,t,ht,Lp,hP⟩:=Q1k L (g1:=aP 4) (g2:=cq [2,3]) (lp1:=d3) (lp2:=d6) rd (fun _ _ _=>Iff.rfl) (fun m t=>[.sh (kB as X),.ow (Dc m),t.1,t.2.1,t.2.2]) (fun k m t=>[.sh (kB as X),.ow (Dc m),.sh (.int k),.sh (X (as.getD k 0)),t]) (fun k r m t hk ht pt=>by
   have hf:free (some t)=true:=ht;generalize X (as.getD k 0)=xa at *;generalize kB as X=xs at *;have e:aP 4 (.int (r:Int)) [.sh xs,.ow (Dc m),.sh (.int k),.sh xa,t]=.ok () [.sh xs,.ow (Dc m),.sh (.int k),.sh xa,.sh (.int r)]:=by simp[hf]
   rw[bS,e,aA];unfold d3;exact bw) fun k m m' t s hk ht Li=>by
  obtain⟨t2,t3,t4⟩:=t;obtain⟨f2,f3,f4⟩:=ht;dsimp only at f2 f3 f4 Li ⊢;have rb:=L.read _ (kW hk);have hSq:c5 (gz (rd (as.getD k 0)))=some ((rd (as.getD k 0)).map fun(r:Nat)=>D.int (r:Int)):=rfl;generalize (rd (as.getD k 0)).map (fun(r:Nat)=>D.int (r:Int))=rs at *;generalize gz (rd (as.getD k 0))=rn_ at *;generalize X (as.getD k 0)=xa at *;generalize kB as X=xs at *;have e:cq [2,3] (.tup [.int (k:Int),xa]) [.sh xs,.ow (Dc m),t2,t3,t4]=.ok () [.sh xs,.ow (Dc m),.sh (.int k),.sh xa,t4]:=by simp[f2,f3]
  rw[bS,e,aA];unfold d6;exact bw
 obtain⟨t2,t3,t4⟩:=t;refine⟨m,?_,hP⟩;have hD:Dc []=.fP [] []:=rfl;rw[hD] at Lp;dsimp only at Lp;generalize kB as X=xs at *;unfold y8 Ce;exact rn
omit L in
theorem uy.uniq{m:V8}(h:uy as rd as.length m){x v:Nat}(e:gU m x=some v)(j:Nat):(∃q,j<=q/\q<as.length/\x∈rd (as.getD q 0))<->j<=v:=by constructor;rintro⟨q,h1,h2,h3⟩;obtain⟨j',h4,h5⟩:=h.2 q h2 x h3;rw[e] at h5;cases h5;lia;intro hj;have:=h.1.2 x v e;exact⟨v,hj,this.1,this.2⟩
end
section
variable{s:ZX}{as:Rx}{X:Nat->D}{rd:Nat->Rx}(L:OZ s as X rd)
theorem noLs_N:∀ks:Rx,noLs (ks.map fun k=>D.int (k:Nat))=true|[]=>rfl|k::ks=>by rw[Pj,noLs,noLs_N ks];rfl
theorem Q1J(m:V8):DX (Dc m)=some ((m.map (·.1)).map fun(k:Nat)=>D.int (k:Int)):=by show some ((m.map fun p=>(.inl (p.1:Int):Sum Int Str)).map DW)=_;rw[IQ,IQ];rfl
def JM(as:Rx)(rd:Nat->Rx)(p j:Nat):Prop:=∃q,j<=q/\q<as.length/\as.getD p 0∈rd (as.getD q 0)
def uA(as:Rx)(rd:Nat->Rx)(i:Nat)(R:V8):Prop:=R.map (·.1)=as.take i/\(∀p∈R,p.2<=100)/\∀j<i,∃v,gU R (as.getD j 0)=some v/\(∀p<j,JM as rd p j->gU R (as.getD p 0)≠some v)/\∀u<v,∃p<j,JM as rd p j/\gU R (as.getD p 0)=some u
theorem l7{as:Rx}{i k:Nat}(hi:i<=as.length)(h:k∈as.take i):∃j,j<i/\as.getD j 0=k:=by obtain⟨j,hj,e⟩:=List.mem_iff_getElem.mp h;simp only[List.length_take] at hj;have h2:j<as.length:=Ug;exact⟨j,Ug,by rw[<-e];simp[h2]⟩
theorem zx:∀(is:ZX)(a B:Int),a<=B->(∀x∈is,x<=B)->is.foldl (fun a b=>if a<b then b else a) a<=B|[],a,B,h,_=>h|i::is,a,B,h,h2=>by rw[we];refine zx is _ B ?_ fun x hx=>h2 x (X1 _ hx);split;exact h2 i Rn;exact h
theorem MN(R:V8)(h:R≠[])(QE:∀p∈R,p.2<=100):∃mx:Nat,nB (Dc R)=some (.int (mx:Int))/\mx<=100/\∀p∈R,p.2<=mx:=by
 cases R with
 |nil=>exact absurd rfl h|cons p R=>
  have e:eT ((p::R).map fun p=>D.int (p.2:Int))=some ((p.2:Int)::R.map fun p=>(p.2:Int)):=by have:=iK ((p::R).map fun p=>(p.2:Int));rw[IQ] at this;exact this
  obtain⟨h1,h2⟩:=zy (R.map fun p=>(p.2:Int)) (p.2:Int);have h3:=zx (R.map fun p=>(p.2:Int)) (p.2:Int) 100 (by have:=QE p Rn;lia) fun x hx=>by obtain⟨q,hq,rfl⟩:=List.mem_map.mp hx;have:=QE q (X1 _ hq);lia
  have ev:nB (Dc (p::R))=some (.int ((R.map fun p=>(p.2:Int)).foldl (fun a b=>if a<b then b else a) (p.2:Int))):=by show (match eT ((p::R).map fun p=>D.int (p.2:Int)) with|some (i::is)=>some (D.int (is.foldl (fun a b=>if a<b then b else a) i))|_=>none)=_;rw[e]
  generalize (R.map fun p=>(p.2:Int)).foldl (fun a b=>if a<b then b else a) (p.2:Int)=z at *;refine⟨z.toNat,by rw[ev,show ((z.toNat:Nat):Int)=z by lia],Ug,fun q hq=>?_⟩;rcases List.mem_cons.mp hq with rfl|hq
  lia
  have:=h2 (q.2:Int) (IB (f:=fun p=>(p.2:Int)) hq);lia
theorem fold_at:∀(is:ZX)(a:Int),is.foldl (fun a b=>if a<b then b else a) a∈a::is|[],a=>O3|i::is,a=>by rw[we];have:=fold_at is (if a<i then i else a);rcases List.mem_cons.mp this with h|h;rw[h];split<;>simp;exact X1 _ (X1 _ h)
theorem MO(R:V8)(mx:Nat)(h:nB (Dc R)=some (.int (mx:Int))):∃p∈R,p.2=mx:=by
 cases R with
 |nil=>cases h|cons p R=>
  have e:eT ((p::R).map fun p=>D.int (p.2:Int))=some ((p.2:Int)::R.map fun p=>(p.2:Int)):=by have:=iK ((p::R).map fun p=>(p.2:Int));rw[IQ] at this;exact this
  have ev:nB (Dc (p::R))=some (.int ((R.map fun p=>(p.2:Int)).foldl (fun a b=>if a<b then b else a) (p.2:Int))):=by show (match eT ((p::R).map fun p=>D.int (p.2:Int)) with|some (i::is)=>some (D.int (is.foldl (fun a b=>if a<b then b else a) i))|_=>none)=_;rw[e]
  rw[ev] at h;have h:=D.int.inj (X6 h);have m:=fold_at (R.map fun p=>(p.2:Int)) (p.2:Int);rw[h] at m;rcases List.mem_cons.mp m with m|m;exact⟨p,Rn,Ug⟩;obtain⟨q,hq,e⟩:=List.mem_map.mp m;exact⟨q,X1 _ hq,Ug⟩
include L
theorem Jd:∃R,zk [kB as X]=.ok (Dc R) []/\uA as rd as.length R:=by
 obtain⟨m,em,hL⟩:=Hx L;have hm:=hL.2;have en:=CZ as X;have Ru:∀i,i+1<as.length->∃v,gU m (as.getD i 0)=some v:=fun i hi=>by obtain⟨a,ha,hr⟩:=L.all i hi;obtain⟨q,hq,e⟩:=at_of L ha;rw[<-e] at hr;obtain⟨v,_,h⟩:=hm q hq _ hr;exact⟨v,h⟩
 obtain⟨R,t,hP,ht,Lp⟩:=eU (g:=cq [3,4]) (body:=gG) (fun(i:Nat)=>D.tup [.int i,X (as.getD i 0)]) (fun(R:V8)(t:Sl×Sl×Sl)=>[.sh (kB as X),.sh (Dc m),.ow (Dc R),t.1,t.2.1,t.2.2]) vf (List.range as.length) (uA as rd) [] (.no,.no,.no) ⟨rfl,rfl,rfl⟩ ⟨O3,O3,fun j hj=>Ug⟩ (by
  intro i k hk R t ht hP;obtain⟨rfl,hk⟩:=fg hk;obtain⟨t3,t4,t5⟩:=t;obtain⟨f3,f4,f5⟩:=ht;dsimp only at f3 f4 f5;obtain⟨p1,p2,p3⟩:=hP;have ha:=kW hk;have li:=L.line _ ha;let lv:=fun j:Nat=>(gU m j).getD 0;let rv:=fun j:Nat=>(gU R j).getD 0;have VB:∀j∈as.take k,gU m j=some (lv j):=fun j hj=>by obtain⟨q,hq,e⟩:=l7 Ug hj;obtain⟨v,h⟩:=Ru q Ug;rw[e] at h;show _=some ((gU m j).getD 0);rw[h];rfl
  have VM:∀j∈as.take k,gU R j=some (rv j):=fun j hj=>by obtain⟨q,hq,e⟩:=l7 Ug hj;obtain⟨v,h,_⟩:=p3 q hq;rw[e] at h;show _=some ((gU R j).getD 0);rw[h];rfl
  obtain⟨nd,VC⟩:∃nd:Rx,nd=((as.take k).filter fun j=>decide (k<=lv j)).map rv:=⟨_,rfl⟩;have ks:=Q1J R;rw[p1] at ks;obtain⟨xa,Zl⟩:∃xa,xa=X (as.getD k 0):=⟨_,rfl⟩;obtain⟨xs,VQ⟩:∃xs,xs=kB as X:=⟨_,rfl⟩;rw[<-Zl] at li ⊢;rw[<-VQ];have c:aY 1 (vA (ag 2)) (aP 6) gF gE [.sh xs,.sh (Dc m),.sh (Dc R),.sh (.int k),.sh xa,jF t5]=.ok (.lst (nd.map fun j=>D.int (j:Nat))) [.sh xs,.sh (Dc m),.sh (Dc R),.sh (.int k),.sh xa,jF t5]:=by
   refine xi (fun(j:Nat)=>D.int (j:Int)) (fun j=>decide (k<=lv j)) (fun j=>D.int (rv j:Nat)) (as.take k) bw (by have:=L.jR;simp;lia) (by rw[VC,IQ];rfl) (fun j hj acc=>?_) fun j hj _ acc=>?_;have g1:=k5 m j (lv j) (VB j hj);have ge:QC (.int (lv j:Int)) (.int (k:Int))=some (.bl (decide (k<=lv j))):=by rw[LY,decide_eq_decide.mpr (show (k:Int)<=lv j<->k<=lv j by lia)]
   generalize lv j=v at *;unfold gF;exact bw;have g1:=k5 R j (rv j) (VM j hj);generalize rv j=v at *;unfold gE;exact bw
  have vw:pL (aY 1 (vA (ag 2)) (aP 6) gF gE) [.sh xs,.sh (Dc m),.ow (Dc R),.sh (.int k),.sh xa,t5]=.ok (gz nd) [.sh xs,.sh (Dc m),.ow (Dc R),.sh (.int k),.sh xa,t5]:=by rw[Ei];simp only[List.map_cons,List.map_nil,FJ,FK];rw[c,Q23 _ _ _ (noLs_N nd)];rfl
  have ZI:nd.length<=100:=by
   rw[VC,xN];have:=WJ (fun j=>decide (k<=lv j)) (as.take k);have h3:=L.jR;have h4:=List.length_take_le k as;have h5:=xh (i:=k) (l:=as)
   lia
  obtain⟨r,lo,hr,T9⟩:=A7 nd ZI;have ZU:=mP (List.range r) nd List.nodup_range fun x hx=>T9 x (List.mem_range.mp hx);rw[EZ] at ZU;have RZ:∀u,u∈nd<->∃p<k,JM as rd p k/\gU R (as.getD p 0)=some u:=fun u=>by
   rw[VC,List.mem_map];have tm:∀p,p<k->as.getD p 0∈as.take k:=fun p hp=>by rw[OR,Uz Ug];exact List.mem_take_iff_getElem.mpr ⟨p,Ug,rfl⟩
   constructor;rintro⟨x,hx,e⟩;obtain⟨h1,h2⟩:=List.mem_filter.mp hx;obtain⟨p,hp,rfl⟩:=l7 Ug h1;exact⟨p,hp,(hL.uniq (VB _ h1) k).mpr (Hn h2),by rw[VM _ h1,e]⟩;rintro⟨p,hp,h1,h2⟩;have h3:=tm p hp;refine⟨as.getD p 0,List.mem_filter.mpr ⟨h3,NU ((hL.uniq (VB _ h3) k).mp h1)⟩,?_⟩;rw[VM _ h3] at h2;exact X6 h2
  have Rl:R.length<=40:=by have:=congrArg List.length p1;simp only[List.length_map,List.length_take] at this;have:=L.jR;lia
  have pt:=E5 R (as.getD k 0) r Ug;have Pf:gU R (as.getD k 0)=none:=by
   cases e:gU R (as.getD k 0) with
   |none=>rfl|some v=>
    have Q1:=IB (f:=(·.1)) (sf R _ v e);rw[p1] at Q1;obtain⟨j,hj,e2⟩:=l7 Ug Q1;have:=BW L (i:=j) (j:=k) Ug hk e2
    lia
  have tk:as.take k++[as.getD k 0]=as.take (k+1):=by
   have:as.getD k 0=as[k]:=by simp[hk]
   rw[this];simp
  have old:∀p,p<k->gU (uu (as.getD k 0) r R) (as.getD p 0)=gU R (as.getD p 0):=fun p hp=>by rw[ka,S8 fun z=>by have:=BW L hk Ug z;lia]
  refine⟨uu (as.getD k 0) r R,(.sh (.int k),.sh xa,.sh (gz nd)),⟨?_,fun p hp=>?_,fun j hj=>?_⟩,⟨rfl,rfl,rfl⟩,?_⟩;rw[n9 _ _ _ Pf,Mn,p1];exact tk;rw[n9 _ _ _ Pf] at hp;rcases List.mem_append.mp hp with hp|hp;exact p2 p hp;rw[List.mem_singleton.mp hp];show r<=100;lia;by_cases z:j=k;subst z;refine⟨r,by rw[ka,WL rfl],fun p hp h1 h2=>hr ((RZ r).mpr ⟨p,hp,h1,by rw[<-old p hp];exact h2⟩),fun u hu=>?_⟩;obtain⟨p,hp,h1,h2⟩:=(RZ u).mp (T9 u hu);exact⟨p,hp,h1,by rw[old p hp];exact h2⟩;obtain⟨v,h1,h2,h3⟩:=p3 j Ug;refine⟨v,by rw[old j Ug];exact h1,fun p hp=>by rw[old p Ug];exact h2 p hp,fun u hu=>?_⟩;obtain⟨p,hp,h4,h5⟩:=h3 u hu;exact⟨p,hp,h4,by rw[old p Ug];exact h5⟩;have e:cq [3,4] (.tup [.int (k:Int),xa]) [.sh xs,.sh (Dc m),.ow (Dc R),t3,t4,t5]=.ok () [.sh xs,.sh (Dc m),.ow (Dc R),.sh (.int k),.sh xa,t5]:=by simp[f3,f4]
  dsimp only;clear c;rw[bS,e,aA,show gG _=.ok .nx _ by unfold gG;exact bw];rfl)
 obtain⟨t3,t4,t5⟩:=t;simp only[List.length_range] at hP;refine⟨R,?_,hP⟩;have hD:Dc []=.fP [] []:=rfl;rw[hD] at Lp;dsimp only at Lp;generalize kB as X=xs at *;unfold zk Cw;exact rn
end
section
variable{b:Option Nat}{x:Nat}{as:Rx}{X:Nat->D}{rd:Nat->Rx}(L:OZ (ay b x) as X rd)
def lp(as:Rx)(R:V8)(p:Nat):Nat:=(gU R (as.getD p 0)).getD 0
include L
theorem tR{R:V8}(hR:uA as rd as.length R){j:Nat}(hj:j<as.length):gU R (as.getD j 0)=some (lp as R j)/\lp as R j<=j/\(∀p<j,JM as rd p j->lp as R p≠lp as R j)/\∀u<lp as R j,∃p<j,lp as R p=u:=by
 have ex:∀j<as.length,gU R (as.getD j 0)=some (lp as R j):=fun j hj=>by obtain⟨v,h,_⟩:=hR.2.2 j hj;unfold lp;rw[h];rfl
 obtain⟨v,h1,h2,h3⟩:=hR.2.2 j hj;have e:lp as R j=v:=by unfold lp;rw[h1];rfl
 have AN:∀u<v,∃p<j,lp as R p=u:=fun u hu=>by obtain⟨p,hp,_,h⟩:=h3 u hu;exact⟨p,hp,by unfold lp;rw[h];rfl⟩
 have le:=mP (List.range v) ((List.range j).map (lp as R)) List.nodup_range fun u hu=>by obtain⟨p,hp,h⟩:=AN u (List.mem_range.mp hu);exact List.mem_map.mpr ⟨p,List.mem_range.mpr hp,h⟩
 simp only[List.length_range,List.length_map] at le;rw[e];exact⟨h1,le,fun p hp hl z=>h2 p hp hl (by rw[ex p Ug,z]),AN⟩
theorem Q1z(ok:Ok b x){R:V8}(hR:uA as rd as.length R):∃m,y9 [kB as X,Dc R]=.ok (Z (List.replicate m (cnt b x:Int))) []/\(∀j<as.length,lp as R j<m)/\m<=as.length:=by
 have ra:=fun {j} (hj:j<as.length)=>tR L hR hj;obtain⟨p1,p2,p3⟩:=hR;have R0:R≠[]:=fun z=>by rw[z] at p1;have:=congrArg List.length p1;have:=List.length_pos_iff.mpr L.some;simp at *;lia
 obtain⟨mx,em,hmx,hle⟩:=MN R R0 p2;have iA:∀j<as.length,lp as R j<=mx:=fun j hj=>hle _ (sf R _ _ (ra hj).1);obtain⟨jm,Vz,Yw⟩:∃j<as.length,lp as R j=mx:=by
  obtain⟨p,hp,e⟩:=MO R mx em;have hm:=IB (f:=(·.1)) hp;rw[p1,List.take_length] at hm;obtain⟨j,hj,e2⟩:=at_of L hm;refine⟨j,hj,?_⟩;have nd:(R.map (·.1)).Nodup:=by rw[p1,List.take_length];exact L.ord.imp (fun h=>Wi h)
  have al:∀R:V8,(R.map (·.1)).Nodup->∀p∈R,gU R p.1=some p.2:=by intro R;induction R with|nil=>intro _ p hp;cases hp|cons q R ih=>intro nd p hp;simp only[List.map_cons,List.nodup_cons] at nd;unfold gU;rcases List.mem_cons.mp hp with rfl|hp;rw[WL rfl];rw[S8 fun z:q.1=p.1=>nd.1 (by rw[z];exact IB (f:=(·.1)) hp)];exact ih nd.2 p hp
  unfold lp;rw[e2,al R nd p hp,<-e];rfl
 have all:∀u,u<=mx->∃p<as.length,lp as R p=u:=fun u hu=>by by_cases z:u=mx;exact⟨jm,Vz,by rw[Yw,z]⟩;obtain⟨p,hp,e⟩:=(ra Vz).2.2.2 u Ug;exact⟨p,Ug,e⟩
 have ad:cx (.int (mx:Int)) (.int 1)=some (.int ((mx+1:Nat):Int)):=rfl;have er:=Jc (mx+1) Ug;have c:aY 1 (eY [(m2 cx (m1 nB (ag 1)) (cI 1))]) (aP 5) (VP.ret true) gi [.sh (kB as X),.sh (Dc R),.no,.no,.no]=.ok (Z (List.replicate (mx+1) 0)) [.sh (kB as X),.sh (Dc R),.no,.no,.no]:=by refine jN (fun(k:Nat)=>D.int k) (fun _=>D.int 0) (List.range (mx+1)) bw (by simp;lia) (by simp[Z,List.map_const']) fun k hk acc=>?_;unfold gi;exact bw
 have ci:=iE ok;obtain⟨ys,t,hP,ht,Lp⟩:=eU (g:=aP 3) (body:=dU) X (fun(ys:ZX)(t:Sl×Sl)=>[.sh (kB as X),.sh (Dc R),.ow (Z ys),t.1,t.2]) pf as (fun i ys=>ys.length=mx+1/\(∀y∈ys,0<=y/\y<=(cnt b x:Int))/\∀j<i,ys.getD (lp as R j) 0=cnt b x) (List.replicate (mx+1) 0) (.no,.no) ⟨rfl,rfl⟩ ⟨O3,fun y hy=>by rw[List.eq_of_mem_replicate hy];lia,fun j hj=>absurd hj Ug⟩ (by
  intro i a ha ys t ht hP;obtain⟨t3,t4⟩:=t;obtain⟨f3,f4⟩:=ht;dsimp only at f3 f4;obtain⟨q1,q2,q3⟩:=hP;have hi:=(List.getElem?_eq_some_iff.mp ha).1;have ea:as.getD i 0=a:=by rw[OR,ha];rfl
  have li:=L.line a (TQ ha);have si:=L.side a (TQ ha);have gv:=(ra hi).1;rw[ea] at gv;have gv:=k5 R a _ gv;have hvl:=iA i hi;generalize hv:lp as R i=v at *;have ix:aq (Z ys) (.int (v:Int))=some (.int (ys.getD v 0)):=XW ys v Ug;have yb:0<=ys.getD v 0/\ys.getD v 0<=(cnt b x:Int):=by rw[OR,Uz (show v<ys.length by lia)];exact q2 _ (Bt _)
  have ZH:=ot (ys.getD v 0) (cnt b x:Int);rw[show max (ys.getD v 0) (cnt b x:Int)=cnt b x by lia] at ZH;have st:=Jm ys v (cnt b x:Int) Ug Ug;rw[ZJ] at st;have il:isLst (some (Z ys))=true:=rfl;refine⟨ys.set v (cnt b x:Int),(.sh (X a),.sh (.int v)),⟨by simp[q1],fun y hy=>?_,fun j hj=>?_⟩,⟨rfl,rfl⟩,?_⟩;rcases List.mem_or_eq_of_mem_set hy with h|h;exact q2 y h
  lia
  by_cases z:lp as R j=v;rw[z,OR,Vb Ug];rfl;rw[OR,RH (fun k=>z k.symm),<-OR];exact q3 j (by have:j≠i:=fun w=>z (by rw[w];exact hv);lia);have e:aP 3 (X a) [.sh (kB as X),.sh (Dc R),.ow (Z ys),t3,t4]=.ok () [.sh (kB as X),.sh (Dc R),.ow (Z ys),.sh (X a),t4]:=by simp[f3]
  dsimp only;generalize X a=xa at *;generalize kB as X=xs at *;generalize ys.getD v 0=y0 at *;rw[bS,e,aA,show dU _=.ok .nx _ by unfold dU;exact bw];rfl)
 obtain⟨t3,t4⟩:=t;obtain⟨q1,_,q3⟩:=hP;have ey:ys=List.replicate (mx+1) (cnt b x:Int):=by refine List.eq_replicate_iff.mpr ⟨q1,fun y hy=>?_⟩;obtain⟨u,hu,e⟩:=List.mem_iff_getElem.mp hy;obtain⟨p,hp,e2⟩:=all u Ug;have:=q3 p hp;rw[e2,OR,Uz hu,e] at this;exact this
 subst ey;refine⟨mx+1,?_,fun j hj=>by have:=iA j hj;lia,by have:=(ra Vz).2.1;lia⟩;have sq:c5 (kB as X)=some (as.map X):=rfl;dsimp only at Lp;generalize kB as X=xs at *;generalize as.map X=ds at *;unfold y9 Cf;exact rn
end
theorem Mm(x y z:D):LH [.ins "Load" [] [],x,y,z]=.ok .bB [.ins "Load" ["line","sides","table"] [x,y,z]]:=Pq
theorem Ml(x y z:D):LG [.ins "Fill" [] [],x,y,z]=.ok .bB [.ins "Fill" ["line","sides","tree"] [x,y,z]]:=Pq
theorem AW(x y a b z:D):LM [.ins "Through" [] [],x,y,a,b,z]=.ok .bB [.ins "Through" ["line","sides","side","deed","tree"] [x,y,a,b,z]]:=Pq
structure rW(ls:ZO)(kp:X4)(b:Option Nat)(x:Nat)(G:ZX)(V:Nat->ZX)(a:Nat)(X:D)(rs:Rx):Prop where
 line:aC bZ "line" X=some (.int a)
 side:aC aO "sides" X=some (T (ay b x))
 read:qT [X]=.ok (gz rs) []
 Ad:∀r,r∈rs<->Gx ls kp a r
 run:∀(o:D)(rows:ZE)(k:Nat)(row:ZX),lG o (.int (a:Int))=some (.int k)->rows[k]?=some row->row.length=cnt b x->Hd V o rows rs k->∀dn,∃kH,dn<=kH/\lI [X,.lst [Tb (ay b x) G]] o ⟨rows,dn⟩=some (.bB,⟨rows.set k (V a),kH⟩)
theorem rB(b:Option Nat)(x:Nat)(X:D)(t:Tr)(h1:bo gM X=some (.bl false))(h2:bo jW X=some (.bl false))(h3:aC dA "tree" X=some (t.d b x))(hd:t.dep<=41)(hl:t.rs.length<=1000):qT [X]=.ok (gz t.rs) []:=by have e:Dh [t.d b x]=.ok (gz t.rs) []:=Q1y b x t 180 Ug Ug;generalize t.d b x=td at *;unfold qT Cg;exact rn
theorem Bq.len{ls:ZO}{kp:X4}{a:Nat}{q us:Rx}(h:Bq ls kp a q us):us.length<=a:=by have:=mP us (List.range a) h.nd fun u hu=>List.mem_range.mpr (h.un u hu).1;simpa using this
section
variable{ls:ZO}{kp:X4}{b:Option Nat}{x:Nat}{G:ZX}{V:Nat->ZX}(g:Gd b x G ls V)(K:Kp ls kp)
include g K
theorem xI(a:Nat)(ha:kp[a]?=some true):∃X rs,oZ [Pg ls,fB (List.replicate ls.length (ay b x)),iy kp,.int a]=.ok X []/\rW ls kp b x G V a X rs:=by
 have hr:=K.want a ha;have Gg:=hr.lt g.wf g.ne;have G7:=g.jR;obtain⟨ec,cs⟩:=g.cs a Gg;have hi:=vq ls a Gg;have si:aq (fB (List.replicate ls.length (ay b x))) (.int (a:Int))=some (T (ay b x)):=jl _ _ _ (by simp[Gg]);have sw:=Q1f b x;have ln:=mM (ay b x);have wi:=WW ls kp b x;have w2:=Tg ls kp b x;have w3:=OU ls kp b x;have fit:=g.fit _ (TQ (ko Gg));have Uq:∀c∈dw ls a,∀n,160<=n->n6 ls kp b x V n c:=fun c hc n hn=>by have:=pQ g K Gg hc;exact Q1o g K c Ug (.step hr (ko Gg) hc) n Ug
 by_cases h0:kd ls a=0;have Ad:∀r,¬Gx ls kp a r:=fun r ⟨c,hc,_⟩=>by unfold kd at h0;unfold dw at hc;generalize cP ls a=l at *;cases l with|given=>cases hc|_=>cases h0
 unfold kd at h0;generalize cP ls a=l at *;cases l with|given j=>cases (show j=0 from fit);have hi:aq (Pg ls) (.int (a:Int))=some (.tup [.str (nm 0),.int 0]):=hi;have i1:=Mm (.int a) (T (ay b x)) (.int 0);refine⟨.ins "Load" ["line","sides","table"] [.int a,T (ay b x),.int 0],[],?_,Pq,Pq,Pq,fun r=>⟨fun z=>(by cases z),fun z=>absurd z (Ad r)⟩,fun o rows k row hk Q5 hl hd dn=>⟨dn,Int.le_refl _,?_⟩⟩;generalize T (ay b x)=S at *;generalize Pg ls=P at *;unfold oZ uK;exact rn;have ec:V a=G:=ec;have ld:=Hz hk Q5 hl cs.1 g.ok (.ins "Load" ["line","sides","table"] [.int a,T (ay b x),.int 0]) (Tb (ay b x) G) Pq Pq (by rw[ec];exact dm (ay b x) G) dn;have r1:bo gM (.ins "Load" ["line","sides","table"] [.int a,T (ay b x),.int 0])=some (.bl true):=Pq;generalize D.ins "Load" ["line","sides","table"] [.int a,T (ay b x),.int 0]=X at *;generalize D.lst [Tb (ay b x) G]=TL at *;simp[lI,dE,fO,uJ,bh,fN,wP,n4,bT,bt,wB,wR,fq,r1,ld]|_=>cases h0
 by_cases wM:kd ls a=13;unfold kd at wM;obtain⟨l,hl⟩:∃l,cP ls a=l:=⟨_,rfl⟩;have rb:∀r,Gx ls kp a r<->∃c∈l.ns,Aw ls kp c r:=fun r=>by unfold Gx dw;rw[hl]
 unfold dw at Uq;have nl:∀c∈l.ns,c<a:=fun c hc=>pQ g K Gg (by unfold dw;rw[hl];exact hc);rw[hl] at hi fit Uq ec wM;cases l with
  |run d a1 k=>
   obtain⟨rfl,YQ⟩:=fit;have m1:a1∈PL.ns (.run d a1 (lst b)):=by simp[PL.ns]
   have l1:=nl a1 m1;obtain⟨t,us,e1,n1⟩:=Uq a1 m1 180 Ug 0 1 (.inl rfl);have hi:aq (Pg ls) (.int (a:Int))=some (.tup [.str (nm 13),.str (nm d),.int a1,.int (lst b)]):=hi;have i1:=AW (.int a) (T (ay b x)) (.int (lst b)) (.str (nm d)) (t.d b x);have td:=n1.dep;have ul:=n1.bq.len;have tf:=n1.jR;refine⟨.ins "Through" ["line","sides","side","deed","tree"] [.int a,T (ay b x),.int (lst b),.str (nm d),t.d b x],t.rs,?_,Pq,Pq,rB b x _ t Pq Pq Pq Ug Ug,fun r=>?_,fun o rows k row hk Q5 hl hd dn=>?_⟩;have e1:Dd [Wv ls kp b x,.int a1,wy b 0 1]=.ok (t.d b x) []:=e1;generalize Wv ls kp b x=W at *;generalize wy b 0 1=w at *;generalize t.d b x=td at *;generalize fB (List.replicate ls.length (ay b x))=SS at *;generalize T (ay b x)=S at *;generalize lst b=kk at *;generalize Pg ls=P at *;unfold oZ uK;exact rn;rw[n1.IW,rb];simp only[PL.ns,List.mem_singleton,exists_eq_left];obtain⟨kH,h1,h2⟩:=yr hk Q5 hl hd cs.1 g.ok (.ins "Through" ["line","sides","side","deed","tree"] [.int a,T (ay b x),.int (lst b),.str (nm d),t.d b x]) t (d7 YQ) (g.cs a1 Ug).2 ec Pq Pq Pq Pq Pq Ug (fun l5 H p hp=>by have i:=(in_of hp).1;have:=n1.ev o l5 H _ _ i (by have:=i.j0;lia) (by have:=i.j1;lia);rw[Int.one_mul,Int.zero_add,JQ _ hp] at this;exact this) dn;refine⟨kH,h1,?_⟩;have r1:bo gM (.ins "Through" ["line","sides","side","deed","tree"] [.int a,T (ay b x),.int (lst b),.str (nm d),t.d b x])=some (.bl false):=Pq;have r2:bo lR (.ins "Through" ["line","sides","side","deed","tree"] [.int a,T (ay b x),.int (lst b),.str (nm d),t.d b x])=some (.bl false):=Pq;have r3:bo pD (.ins "Through" ["line","sides","side","deed","tree"] [.int a,T (ay b x),.int (lst b),.str (nm d),t.d b x])=some (.bl false):=Pq;have r4:bo jW (.ins "Through" ["line","sides","side","deed","tree"] [.int a,T (ay b x),.int (lst b),.str (nm d),t.d b x])=some (.bl false):=Pq;generalize D.ins "Through" ["line","sides","side","deed","tree"] [.int a,T (ay b x),.int (lst b),.str (nm d),t.d b x]=X at *;generalize D.lst [Tb (ay b x) G]=TL at *;simp[lI,dE,fO,uJ,bh,fN,wP,n4,bT,bt,wB,wR,fq,r1,r2,r3,r4,h2]
  |_=>cases wM
 obtain⟨t,us,e1,n1⟩:=zR g K (n:=177) Gg hr h0 wM (fun c hc n' wQ=>Uq c hc n' Ug) 0 1 (.inl rfl);have td:=n1.dep;have ul:=n1.bq.len;have tf:=n1.jR;have kk:=PL.kind (cP ls a);have kl:=zM ls a;have X2:kd ls a≠12/\kd ls a≠14:=by unfold kd;cases cP ls a<;>simp[PL.k]
 have eC:V a=tab b x (gB x V (cP ls a)):=by rw[ec];unfold kd at h0;generalize cP ls a=l at *;cases l with|given=>exact absurd rfl h0|_=>rfl
 have q0:=BN (kd ls a) 0 kl (by decide);have ZQ:=BN (kd ls a) 13 kl (by decide);have ZP:=BN (kd ls a) 12 kl (by decide);have ZR:=BN (kd ls a) 14 kl (by decide);rw[Uy h0] at q0;rw[Uy wM] at ZQ;rw[Uy X2.1] at ZP;rw[Uy X2.2] at ZR;have i1:=Ml (.int a) (T (ay b x)) (t.d b x);refine⟨.ins "Fill" ["line","sides","tree"] [.int a,T (ay b x),t.d b x],t.rs,?_,Pq,Pq,rB b x _ t Pq Pq Pq Ug Ug,n1.Ad,fun o rows k row hk Q5 hl hd dn=>?_⟩;have e1:C9 [Wv ls kp b x,.int a,wy b 0 1]=.ok (t.d b x) []:=e1;have kk:aq (cP ls a).d (.int 0)=some (.str (nm (kd ls a))):=kk;generalize (cP ls a).d=ld at *;generalize nm (kd ls a)=kn at *;generalize Wv ls kp b x=W at *;generalize wy b 0 1=w at *;generalize t.d b x=td at *;generalize fB (List.replicate ls.length (ay b x))=SS at *;generalize T (ay b x)=S at *;generalize Pg ls=P at *;unfold oZ uK;exact rn;obtain⟨kH,h1,h2⟩:=G3 hk Q5 hl hd cs.1 g.ok (.ins "Fill" ["line","sides","tree"] [.int a,T (ay b x),t.d b x]) t Pq Pq Pq Ug (fun l5 H p hp=>by have i:=(in_of hp).1;have:=n1.ev o l5 H _ _ i (by have:=i.j0;lia) (by have:=i.j1;lia);rw[Int.one_mul,Int.zero_add] at this;rw[eC,xf _ hp];exact this) dn;refine⟨kH,h1,?_⟩;have r1:bo gM (.ins "Fill" ["line","sides","tree"] [.int a,T (ay b x),t.d b x])=some (.bl false):=Pq;have r2:bo lR (.ins "Fill" ["line","sides","tree"] [.int a,T (ay b x),t.d b x])=some (.bl true):=Pq;generalize D.ins "Fill" ["line","sides","tree"] [.int a,T (ay b x),t.d b x]=X at *;generalize D.lst [Tb (ay b x) G]=TL at *;simp[lI,dE,fO,uJ,bh,fN,wP,n4,bT,bt,wB,wR,fq,r1,r2,h2]
end
section
variable{ls:ZO}{kp:X4}{b:Option Nat}{x:Nat}{G:ZX}{V:Nat->ZX}(g:Gd b x G ls V)(K:Kp ls kp)
include g K
theorem Aw.low{c r:Nat}(h:Aw ls kp c r):c<ls.length->kp[r]?=some true/\r<=c:=by induction h with|self h=>exact fun _=>⟨h,Ug⟩|step h hb _ ih=>intro ha;have:=pQ g K ha hb;have:=ih Ug;exact⟨this.1,Ug⟩
theorem BU{y:Nat}(h:oH ls y):∀r,Gx ls kp y r->∃a,kp[a]?=some true/\Gx ls kp a r:=by
 induction h with
 |last=>exact fun r hr=>⟨_,K.last,hr⟩|@step i y l hi e hy ih=>
  intro r hr;have hil:=hi.lt g.wf g.ne;have Zo:y<ls.length:=by have:=g.wf i l e y hy;lia
  have VT:y∈dw ls i:=by unfold dw;rw[show cP ls i=l by simp[cP,e]];exact hy
  obtain⟨b,hb⟩:∃b,kp[y]?=some b:=⟨_,Uz (by rw[K.len];exact Zo)⟩;cases b with|true=>exact⟨y,hb,hr⟩|false=>obtain⟨c,hc,Vp⟩:=hr;exact ih r ⟨y,VT,.step hb hc Vp⟩
theorem Q0W(S:D):∃(as:Rx)(X:Nat->D)(rd:Nat->Rx),aY 1 (eY [(m1 bK (ag 0))]) (aP 6) jc i8 [.sh (Pg ls),.sh S,.sh (fB (List.replicate ls.length (ay b x))),.sh (iy kp),.no,.no]=.ok (kB as X) [.sh (Pg ls),.sh S,.sh (fB (List.replicate ls.length (ay b x))),.sh (iy kp),.no,.no]/\OZ (ay b x) as X rd/\(∀a∈as,rW ls kp b x G V a (X a) (rd a))/\as.getD (as.length-1) 0=ls.length-1:=by
 have hn:=List.length_pos_iff.mpr g.ne;have G7:=g.jR;obtain⟨as,has⟩:∃as,as=(List.range ls.length).filter fun a=>kp.getD a false:=⟨_,rfl⟩;have hm:∀a,a∈as<->kp[a]?=some true:=fun a=>by rw[has,List.mem_filter,List.mem_range,OR];cases h:kp[a]? with|none=>simp|some b=>have:=(List.getElem?_eq_some_iff.mp h).1;have:=K.len;simp;lia
 obtain⟨Y,hY⟩:=IF (as:=as) (P:=fun(a:Nat)(y:D×List Nat)=>oZ [Pg ls,fB (List.replicate ls.length (ay b x)),iy kp,.int a]=.ok y.1 []/\rW ls kp b x G V a y.1 y.2) fun a ha=>by obtain⟨X,rs,h⟩:=xI g K a ((hm a).mp ha);exact⟨(X,rs),h⟩
 have lt:∀a∈as,a<ls.length:=fun a ha=>(K.want a ((hm a).mp ha)).lt g.wf g.ne;have ord:as.Pairwise (· < ·):=by rw[has];exact List.Pairwise.filter _ List.pairwise_lt_range
 have jR:as.length<=40:=by rw[has];have:=WJ (fun a=>kp.getD a false) (List.range ls.length);simp only[List.length_range] at this;lia
 have D0:ls.length-1∈as:=(hm _).mpr K.last;have RD:∀i,i+1<as.length->as.getD i 0<ls.length-1:=fun i hi=>by have p:=List.pairwise_iff_getElem.mp ord i (i+1) Ug hi Ug;have:=lt _ (Bt hi);simp[show i<as.length by lia];lia
 have Lp:OZ (ay b x) as (fun a=>(Y a).1) (fun a=>(Y a).2):=by
  refine⟨fun z=>(by rw[z] at D0;cases D0),ord,jR,fun a ha=>(by have:=lt a ha;lia),fun a ha=>(hY a ha).2.line,fun a ha=>(hY a ha).2.side,fun a ha=>(hY a ha).2.read,fun a ha r hr=>?_,fun i hi=>?_⟩;obtain⟨c,hc,Vp⟩:=((hY a ha).2.Ad r).mp hr;have h1:=pQ g K (lt a ha) hc;have h2:=Aw.low g K Vp (by have:=lt a ha;lia);exact⟨(hm r).mpr h2.1,Ug⟩;have hx:=kW (as:=as) (i:=i) Ug;have Gj:=RD i hi;have hk:=(hm _).mp hx;have hR:=K.want _ hk;generalize as.getD i 0=x at *;cases hR with
  |last=>lia|@step j _ l hj e hy=>
   have VT:x∈dw ls j:=by unfold dw;rw[show cP ls j=l by simp[cP,e]];exact hy
   obtain⟨a,h1,h2⟩:=BU g K hj x ⟨x,VT,.self hk⟩;have ha:=(hm a).mpr h1;exact⟨a,ha,((hY a ha).2.Ad x).mpr h2⟩
 refine⟨as,fun a=>(Y a).1,fun a=>(Y a).2,?_,Lp,fun a ha=>(hY a ha).2,?_⟩;have ln:=oq ls;have er:=Jc ls.length Ug;refine xi (fun(k:Nat)=>D.int k) (fun a=>kp.getD a false) (fun a=>(Y a).1) (List.range ls.length) bw (by simp;lia) (by rw[<-has];rfl) (fun a ha acc=>?_) fun a ha hk acc=>?_;have hb:kp[a]?=some (kp.getD a false):=by have:=List.mem_range.mp ha;have:=K.len;simp[show a<kp.length by lia]
 have bi:=kb kp a _ hb;generalize kp.getD a false=b at *;unfold jc;exact bw;have hx:=(hY a (by rw[has];exact List.mem_filter.mpr ⟨ha,hk⟩)).1;generalize (Y a).1=xa at *;unfold i8;exact bw;obtain⟨i,hi,e⟩:=at_of Lp D0;by_cases z:i+1<as.length;have:=RD i z;lia;rw[show as.length-1=i by lia];exact e
end
def wZ(as:Rx)(X:Nat->D)(R:V8)(ys:ZX):D:=.ins "Plan" ["loops","row_of","lengths"] [kB as X,Dc R,Z ys]
theorem Q1C(as:Rx)(X:Nat->D)(R:V8)(ys:ZX):LJ [.ins "Plan" [] [],kB as X,Dc R,Z ys]=.ok .bB [wZ as X R ys]:=Pq
structure BR(b:Option Nat)(x:Nat)(G:ZX)(ls:ZO)(V:Nat->ZX)(kp:X4)(as:Rx)(X:Nat->D)(rd:Nat->Rx)(R:V8)(m:Nat):Prop where
 V6:OZ (ay b x) as X rd
 V5:∀a∈as,rW ls kp b x G V a (X a) (rd a)
 last:as.getD (as.length-1) 0=ls.length-1
 rows:uA as rd as.length R
 lt:∀j<as.length,lp as R j<m
 le:m<=as.length
theorem IG{b:Option Nat}{x:Nat}{G:ZX}{ls:ZO}{V:Nat->ZX}(g:Gd b x G ls V):∃kp as X rd R m,u0 [Pg ls,.lst [T (ay b x)]]=.ok (wZ as X R (List.replicate m (cnt b x:Int))) []/\BR b x G ls V kp as X rd R m:=by have e1:=wj g.ok g.wf g.fit g.ne g.jR;obtain⟨kp,e2,K⟩:=Hr (b:=b) (x:=x) g.wf g.ne g.jR;obtain⟨as,X,rd,e3,L,lo,zE⟩:=Q0W g K (.lst [T (ay b x)]);obtain⟨R,e4,hR⟩:=Jd L;obtain⟨m,e5,h1,h2⟩:=Q1z L g.ok hR;have e6:=Q1C as X R (List.replicate m (cnt b x:Int));refine⟨kp,as,X,rd,R,m,?_,L,lo,zE,hR,h1,h2⟩;generalize wZ as X R (List.replicate m (cnt b x:Int))=pl at *;generalize kB as X=xs at *;generalize D.lst [T (ay b x)]=S at *;generalize fB (List.replicate ls.length (ay b x))=SS at *;unfold u0 Cv;exact rn
theorem FT{A:Type}{i:Nat}{f:WM}{o:D}{mk:A->D}(P:Nat->WS->Prop):∀(as:List A)(n:Nat)(S:WS),P n S->(∀p a,as[p]?=some a->∀S,P (n+p) S->∃S',P (n+p+1) S'/\f o {S with r:=S.r.set i (.sh (mk a))}=some (.nx,S'))->∃S',P (n+as.length) S'/\m6 i f (as.map mk) o S=some (.nx,S')
|[],n,S,h,_=>⟨S,h,rfl⟩|a::as,n,S,h,st=>by
 obtain⟨S1,h1,e1⟩:=st 0 a rfl S h;obtain⟨S2,h2,e2⟩:=FT P as (n+1) S1 h1 fun p a' ha S hS=>by have:=st (p+1) a' ha S (by rw[show n+(p+1)=n+1+p by lia];exact hS);rwa [show n+(p+1)+1=n+1+p+1 by lia] at this
 refine⟨S2,by rw[NN,show n+(as.length+1)=n+1+as.length by lia];exact h2,?_⟩;rw[Pj];show (f o _).bind _=_;rw[e1];exact e2
theorem GZ{ι:D->Option (D×Wk)}{n:Nat}{body:WM}{p t o d:D}{W:Wk}{S:WS}(h:ι p=some (o,W))(h2:body o ⟨[.sh p,.sh t]++List.replicate n .no,none,W⟩=some (.rt d,S)):C6 ι n body [p,t]=.ok d []:=by unfold C6;dsimp only;rw[h];dsimp only;rw[h2]
section
variable{b:Option Nat}{x:Nat}{G:ZX}{ls:ZO}{V:Nat->ZX}(g:Gd b x G ls V){kp:X4}{as:Rx}{X:Nat->D}{rd:Nat->Rx}{R:V8}{m:Nat}(p:BR b x G ls V kp as X rd R m)
include g p
theorem Q0S{i:Nat}(hi:i<as.length){rows:ZE}(hl:rows.length=m)(hw:∀r∈rows,r.length=cnt b x)(hn:∀j<i,JM as rd j i->rows[lp as R j]?=some (V (as.getD j 0)))(dn:Int):∃kH,dn<=kH/\lI [X (as.getD i 0),.lst [Tb (ay b x) G]] (Dc R) ⟨rows,dn⟩=some (.bB,⟨rows.set (lp as R i) (V (as.getD i 0)),kH⟩):=by have L:=p.V6;have ra:=fun {j} (hj:j<as.length)=>tR L p.rows hj;have ha:=kW hi;have lo:=p.V5 _ ha;have hm:=p.lt i hi;have hr:rows[lp as R i]?=some rows[lp as R i]:=Uz Ug;refine lo.run (Dc R) rows (lp as R i) _ (k5 R _ _ (ra hi).1) hr (hw _ (Bt _)) (fun r XS=>?_) dn;obtain⟨h1,h2⟩:=L.own _ ha r XS;obtain⟨j,hj,e⟩:=at_of L h1;have QX:j<i:=(tE L hj hi).mp (by rw[e];exact h2);have lv:JM as rd j i:=⟨i,Gm _,hi,by rw[e];exact XS⟩;have rj:=(ra hj).1;rw[e] at rj;refine⟨lp as R j,(ra hi).2.2.1 j QX lv,k5 R _ _ rj,?_⟩;rw[hn j QX lv,e]
theorem Q0V:∃dn:Int,0<=dn/\zm [wZ as X R (List.replicate m (cnt b x:Int)),.lst [Tb (ay b x) G]]=.ok (.tup [Tb (ay b x) (V (ls.length-1)),.int dn]) []:=by
 have L:=p.V6;have O4:=i9 g.ok;have ZD:m<=40:=by have:=p.le;have:=L.jR;lia
 have a0:=List.length_pos_iff.mpr L.some;have Zt:qh (wZ as X R (List.replicate m (cnt b x:Int)))=some (Dc R,⟨List.replicate m (List.replicate (cnt b x) 0),0⟩):=by have iz:=iK (List.replicate m (cnt b x:Int));unfold wZ Z Dc qh;dsimp only;rw[WL ⟨rfl,rfl⟩,iz,Option.bind_some,WL ⟨by simp;lia,fun y hy=>by rw[List.eq_of_mem_replicate hy];lia⟩];simp
 obtain⟨S,⟨s3,rows,dn,eS,d0,hl,hw,hn⟩,Lp⟩:=FT (i:=3) (f:=bh (n4 (bT lI 2 (bt [(wP (ag 3)),(wP (ag 1))]))) fq) (o:=Dc R) (mk:=X) (fun i S=>∃s3 rows dn,S=⟨[.sh (wZ as X R (List.replicate m (cnt b x:Int))),.sh (.lst [Tb (ay b x) G]),.no,s3,.no,.no],none,⟨rows,dn⟩⟩/\0<=dn/\rows.length=m/\(∀r∈rows,r.length=cnt b x)/\∀j<i,(JM as rd j i\/j+1=as.length)->rows[lp as R j]?=some (V (as.getD j 0))) as 0 ⟨[.sh (wZ as X R (List.replicate m (cnt b x:Int))),.sh (.lst [Tb (ay b x) G]),.no,.no,.no,.no],none,⟨List.replicate m (List.replicate (cnt b x) 0),0⟩⟩ ⟨.no,_,_,rfl,Int.le_refl _,O3,fun r hr=>by rw[List.eq_of_mem_replicate hr];simp,fun j hj=>absurd hj Ug⟩ (fun i a ha S hS=>by
  rw[OS] at hS ⊢;obtain⟨s3,rows,dn,rfl,d0,hl,hw,hn⟩:=hS;have hi:=(List.getElem?_eq_some_iff.mp ha).1;have ea:as.getD i 0=a:=by rw[OR,ha];rfl
  obtain⟨kH,h1,h2⟩:=Q0S g p hi hl hw (fun j hj hv=>hn j hj (.inl hv)) dn;have hk:=p.lt i hi;have ri:=tR L p.rows hi;have cV:(V (as.getD i 0)).length=cnt b x:=by
   have:=kW hi;have h:=(p.V5 _ this);exact(g.cs _ (by
    have hle:as.getD i 0<=as.getD (as.length-1) 0:=by by_cases z:i=as.length-1;rw[z];lia;have:=(tE L hi (by lia:as.length-1<as.length)).mpr Ug;lia
    rw[p.last] at hle;have:=List.length_pos_iff.mpr g.ne
    lia)).2.1
  refine⟨_,⟨.sh (X a),rows.set (lp as R i) (V (as.getD i 0)),kH,rfl,Ug,by simp[hl],fun r hr=>?_,fun j hj hv=>?_⟩,?_⟩;rcases List.mem_or_eq_of_mem_set hr with h|h;exact hw r h;rw[h];exact cV;by_cases z:j=i;subst z;rw[Vb Ug];have lv:JM as rd j i:=by
   rcases hv with ⟨q,q1,q2,q3⟩|hv
   exact⟨q,Ug,q2,q3⟩
   lia
  rw[RH (fun w=>ri.2.2.1 j Ug lv w.symm)];exact hn j Ug (.inl lv);rw[ea] at h2 ⊢;generalize wZ as X R (List.replicate m (cnt b x:Int))=PQ at *;generalize D.lst [Tb (ay b x) G]=TL at *;generalize X a=xa at *;simp[bh,n4,bT,bt,wB,wR,wP,fq,h2])
 rw[OS] at hn;subst eS;refine⟨dn,d0,?_⟩;have zE:=hn (as.length-1) Ug (.inr Ug);rw[p.last] at zE;have rl:=tR L p.rows (show as.length-1<as.length by lia);rw[p.last] at rl;have ZY:rowAt (Dc R) ⟨rows,dn⟩ (.int ((ls.length-1:Nat):Int))=some (lp as R (as.length-1),V (ls.length-1)):=oA (k5 R _ _ rl.1) zE dn;have lo:=p.V5 _ (kW (show as.length-1<as.length by lia));rw[p.last] at lo;have cV:=(g.cs (ls.length-1) (by have:=List.length_pos_iff.mpr g.ne;lia)).2;have it:aq (kB as X) (.int (-1))=some (X (ls.length-1)):=by
  unfold kB;have e:A0 (as.map X).length (-1)=some (as.length-1):=by unfold A0;rw[S8 Ug,WL (by simp;lia)];congr 1;simp;lia
  rw[fI];unfold ux;rw[e];have h2:=p.last;rw[OR,Uz (show as.length-1<as.length by lia)] at h2;have h2:as[as.length-1]=ls.length-1:=h2;simp[Uz (show as.length-1<as.length by lia),h2]
 have ce:=iE g.ok;have mt:=pM g.ok cV;have fl:=lo.line;have fs:=lo.side;have cu:cutD ((V (ls.length-1)).map .int) none (some (cnt b x:Int))=(V (ls.length-1)).map .int:=by unfold cutD;simp only[v8,List.length_map,List.drop_zero,Nat.sub_zero];rw[Ag _ _ _ (by rw[cV.1];exact Gm _),OG (by simp[cV.1])]
 have fp:aC dO "loops" (wZ as X R (List.replicate m (cnt b x:Int)))=some (kB as X):=Pq;refine GZ Zt (S:=⟨[.sh (wZ as X R (List.replicate m (cnt b x:Int))),.sh (.lst [Tb (ay b x) G]),.no,s3,.sh (X (ls.length-1)),.sh (Z (V (ls.length-1)))],none,⟨rows,dn⟩⟩) ?_;have sq:kB as X=.lst (as.map X):=rfl;have ez:D.lst ((V (ls.length-1)).map .int)=Z (V (ls.length-1)):=rfl;unfold J0;generalize bh (n4 (bT lI 2 (bt [(wP (ag 3)),(wP (ag 1))]))) fq=F at *;generalize wZ as X R (List.replicate m (cnt b x:Int))=PQ at *;generalize D.lst [Tb (ay b x) G]=TL at *;generalize List.replicate m (List.replicate (cnt b x) (0:Int))=rows0 at *;have UB:wD (m1 (aC dO "loops") (ag 0)) 3 F (Dc R) ⟨[.sh PQ,.sh TL,.no,.no,.no,.no],none,⟨rows0,0⟩⟩=some (.nx,⟨[.sh PQ,.sh TL,.no,s3,.no,.no],none,⟨rows,dn⟩⟩):=by rw[sq] at fp;generalize as.map X=ds at *;simp[wD,wP,fp,Lp]
 have qC:gX 4 (wP (m2 aq (m1 (aC dO "loops") (ag 0)) (m1 lU (cI 1)))) (Dc R) ⟨[.sh PQ,.sh TL,.no,s3,.no,.no],none,⟨rows,dn⟩⟩=some (.nx,⟨[.sh PQ,.sh TL,.no,s3,.sh (X (ls.length-1)),.no],none,⟨rows,dn⟩⟩):=by generalize kB as X=xs at *;simp[gX,wP,fp,it]
 have UC:gX 5 (FO (m1 (aC bZ "line") (ag 4)) (ax kI [.val (m1 (aC aO "sides") (ag 4))])) (Dc R) ⟨[.sh PQ,.sh TL,.no,s3,.sh (X (ls.length-1)),.no],none,⟨rows,dn⟩⟩=some (.nx,⟨[.sh PQ,.sh TL,.no,s3,.sh (X (ls.length-1)),.sh (Z (V (ls.length-1)))],none,⟨rows,dn⟩⟩):=by generalize X (ls.length-1)=xa at *;generalize T (ay b x)=TS at *;generalize ((ls.length-1:Nat):Int)=li at *;simp[gX,FO,wB,wP,fl,fs,ce,ZY,cu,ez]
 have Ou:jJ (JH (bt [(wP (dr "Table" lK [.val (m1 (aC aO "sides") (ag 4)),.val (ag 5)])),UI])) (Dc R) ⟨[.sh PQ,.sh TL,.no,s3,.sh (X (ls.length-1)),.sh (Z (V (ls.length-1)))],none,⟨rows,dn⟩⟩=some (.rt (.tup [Tb (ay b x) (V (ls.length-1)),.int dn]),⟨[.sh PQ,.sh TL,.no,s3,.sh (X (ls.length-1)),.sh (Z (V (ls.length-1)))],none,⟨rows,dn⟩⟩):=by
  have mk:dr "Table" lK [.val (m1 (aC aO "sides") (ag 4)),.val (ag 5)] [.sh PQ,.sh TL,.no,s3,.sh (X (ls.length-1)),.sh (Z (V (ls.length-1)))]=.ok (Tb (ay b x) (V (ls.length-1))) [.sh PQ,.sh TL,.no,s3,.sh (X (ls.length-1)),.sh (Z (V (ls.length-1)))]:=by generalize X (ls.length-1)=xa at *;generalize T (ay b x)=TS at *;generalize Tb (ay b x) (V (ls.length-1))=TV at *;generalize Z (V (ls.length-1))=ZV at *;exact bw
  simp[jJ,JH,bt,wB,wR,wO,wP,UI,mk,-vB]
 simp[bh,UB,qC,UC,Ou]
end
theorem wH(i:Int):uX [.int i]=.ok (.bl true) []:=by rw[uX,bG _ _ _ _ rfl];simp[Cd]
theorem Q1R(xs:ZX)(y:D)(x:D):∀s,free (some s)=true->∃a,loop (aP 2) gO (xs.map .int) [.sh x,.sh y,s]=.ok .nx [.sh x,.sh y,a]:=by induction xs with|nil=>intro s _;exact⟨_,rfl⟩|cons i xs ih=>intro s hs;obtain⟨a,ha⟩:=ih (.sh (.int i)) rfl;refine⟨a,?_⟩;rw[<-ha];simp[hs,gO,wH]
theorem pR(xs:ZX):uV [T xs,T xs]=.ok (.bl true) []:=by rw[uV,bG _ _ _ _ rfl];obtain⟨a,ha⟩:=Q1R xs (T xs) (T xs) .no rfl;simp[Ca,ha]
theorem nv(s c:ZX):oX [Tb s c,T s,Z c]=.ok (.bl true) []:=by rw[oX,bG _ _ _ _ rfl];have f1:aC aO "sides" (Tb s c)=some (T s):=dY s c;have f2:aC br "cells" (Tb s c)=some (Z c):=dm s c;have n1:=pR s;have n2:=pR c;have iz:lQ "list" (Z c)=some (.bl true):=Pq;have ii:bo iM (Tb s c)=some (.bl true):=zJ s c;have t1:=ub c;generalize Tb s c=TT at *;generalize T s=S at *;generalize T c=C at *;generalize Z c=ZC at *;simp[B8,ii,f1,f2,n1,n2,iz,t1]
theorem Jy(s c:ZX){dn:Int}(h:0<=dn):uW [.tup [Tb s c,.int dn]]=.ok (.bl true) []:=by have ii:bo iM (Tb s c)=some (.bl true):=zJ s c;have i0:aq (.tup [Tb s c,.int dn]) (.int 0)=some (Tb s c):=rfl;have i1:aq (.tup [Tb s c,.int dn]) (.int 1)=some (.int dn):=rfl;have it:lQ "tuple" (.tup [Tb s c,.int dn])=some (.bl true):=Pq;have ln:bK (.tup [Tb s c,.int dn])=some (.int 2):=rfl;have w:=wH dn;generalize D.tup [Tb s c,.int dn]=TT at *;generalize Tb s c=TS at *;rw[uW,bG _ _ _ _ rfl];simp[Cc,it,ln,i0,i1,ii,w,h]
theorem Sn(m:Int)(h0:0<=m)(h4:m<4):∃d,d∈[19,21,22,23]/\aq (.lst [.str (nm 19),.str (nm 21),.str (nm 22),.str (nm 23)]) (.int m)=some (.str (nm d)):=by have:m=0\/m=1\/m=2\/m=3:=Ug;rcases this with rfl|rfl|rfl|rfl;exact⟨19,by decide,rfl⟩;exact⟨21,by decide,rfl⟩;exact⟨22,by decide,rfl⟩;exact⟨23,by decide,rfl⟩
theorem Sm(m:Int)(h0:0<=m)(h3:m<3):∃d,d∈[16,17,18]/\aq (.lst [.str (nm 16),.str (nm 17),.str (nm 18)]) (.int m)=some (.str (nm d)):=by have:m=0\/m=1\/m=2:=Ug;rcases this with rfl|rfl|rfl;exact⟨16,by decide,rfl⟩;exact⟨17,by decide,rfl⟩;exact⟨18,by decide,rfl⟩
theorem KP(m:Int)(h0:0<=m)(h7:m<7):∃d,d∈[19,20,21,22,23,24,25]/\aq (.lst [.str (nm 19),.str (nm 20),.str (nm 21),.str (nm 22),.str (nm 23),.str (nm 24),.str (nm 25)]) (.int m)=some (.str (nm d)):=by have:m=0\/m=1\/m=2\/m=3\/m=4\/m=5\/m=6:=Ug;rcases this with rfl|rfl|rfl|rfl|rfl|rfl|rfl;exact⟨19,by decide,rfl⟩;exact⟨20,by decide,rfl⟩;exact⟨21,by decide,rfl⟩;exact⟨22,by decide,rfl⟩;exact⟨23,by decide,rfl⟩;exact⟨24,by decide,rfl⟩;exact⟨25,by decide,rfl⟩
theorem xG(b:Option Nat)(x:Nat)(c:Int){n:Nat}(hn:0<n)(G7:n<=40):∃l:PL,y7 [.int c,.int n,.int (sz x),.int (lst b)]=.ok l.d []/\qH b x l/\∀r∈l.ns,r<n:=by
 have md:∀(i m:Int),0<m->dG (.int i) (.int m)=some (.int (i % m))/\0<=i % m/\i % m<m:=fun i m h=>⟨fY _ _ h,Int.emod_nonneg _ Ug,xE _ h⟩;have f7:eP (.int c) (.int 7)=some (.int (c / 7)):=fH _ _ Ug Ug;have f11:eP (.int c) (.int 11)=some (.int (c / 11)):=fH _ _ Ug Ug;have f13:eP (.int c) (.int 13)=some (.int (c / 13)):=fH _ _ Ug Ug;have f91:eP (.int c) (.int 91)=some (.int (c / 91)):=fH _ _ Ug Ug;obtain⟨g1,a0,a1⟩:=md (c / 7) n Ug;obtain⟨g2,b0,b1⟩:=md (c / 11) n Ug;obtain⟨g3,w0,w1⟩:=md c 7 Ug;obtain⟨a,ea⟩:∃a:Nat,c / 7 % n=a:=⟨(c / 7 % n).toNat,Ug⟩;obtain⟨a',Xp⟩:∃a:Nat,c / 11 % n=a:=⟨(c / 11 % n).toNat,Ug⟩;rw[ea] at g1;rw[Xp] at g2;have an:a<n:=Ug;have Yr:a'<n:=Ug;have s1:dh (.int (n:Int)) (.int 1)=some (.int ((n-1:Nat):Int)):=by rw[tY];congr 2;lia
 have nn:n-1<n:=Ug;clear ea Xp a0 a1 b0 b1;unfold y7 B9;have Ls:c % 7=0\/c % 7=1\/c % 7=2\/c % 7=3\/c % 7=4\/c % 7=5\/c % 7=6:=Ug;rcases Ls with q|q|q|q|q|q|q;obtain⟨g4,h0,h1⟩:=md (c / 13) 3 Ug;obtain⟨d,hd,pk⟩:=Sm _ h0 h1;rw[q] at g3;refine⟨.one d a,?_,hd,fun r hr=>by cases List.mem_singleton.mp hr;exact an⟩;show _=FR.ok (.tup [.str (nm 9),.str (nm d),.int a]) [];exact rn;obtain⟨g4,h0,h1⟩:=md (c / 13) 7 Ug;obtain⟨d,hd,pk⟩:=KP _ h0 h1;rw[q] at g3;refine⟨.both d (n-1) a',?_,hd,fun r hr=>by simp only[PL.ns,List.mem_cons,List.not_mem_nil,or_false] at hr;lia⟩;show _=FR.ok (.tup [.str (nm 10),.str (nm d),.int (n-1:Nat),.int a']) [];exact rn;obtain⟨g4,h0,h1⟩:=md (c / 13) 7 Ug;obtain⟨d,hd,pk⟩:=KP _ h0 h1;rw[q] at g3;refine⟨.both d (n-1) a',?_,hd,fun r hr=>by simp only[PL.ns,List.mem_cons,List.not_mem_nil,or_false] at hr;lia⟩;show _=FR.ok (.tup [.str (nm 10),.str (nm d),.int (n-1:Nat),.int a']) [];exact rn;obtain⟨g4,h0,h1⟩:=md (c / 13) 7 Ug;obtain⟨g5,h2,h3⟩:=md (c / 91) 1000003 Ug;rw[q] at g3;refine⟨.shift a (lst b) (c / 13 % 7-3) (c / 91 % 1000003),?_,⟨rfl,h2,h3⟩,fun r hr=>by cases List.mem_singleton.mp hr;exact an⟩;show _=FR.ok (.tup [.str (nm 8),.int a,.int (lst b),.int (c / 13 % 7-3),.int (c / 91 % 1000003)]) [];exact rn;rw[q] at g3;refine⟨.cut (n-1) (lst b) (sz x-1) (-1) (sz x),?_,⟨rfl,rfl,rfl,rfl⟩,fun r hr=>by cases List.mem_singleton.mp hr;exact nn⟩;show _=FR.ok (.tup [.str (nm 3),.int (n-1:Nat),.int (lst b),.int (sz x-1),.int (-1),.int (sz x)]) [];exact rn;obtain⟨g4,h0,h1⟩:=md (c / 13) 4 Ug;obtain⟨d,hd,pk⟩:=Sn _ h0 h1;rw[q] at g3;refine⟨.run d a' (lst b),?_,⟨rfl,hd⟩,fun r hr=>by cases List.mem_singleton.mp hr;exact Yr⟩;show _=FR.ok (.tup [.str (nm 13),.str (nm d),.int a',.int (lst b)]) [];exact rn;rw[q] at g3;refine⟨.cO a' (n-1) a,?_,trivial,fun r hr=>by simp only[PL.ns,List.mem_cons,List.not_mem_nil,or_false] at hr;lia⟩;show _=FR.ok (.tup [.str (nm 11),.int a',.int (n-1:Nat),.int a]) [];exact rn
theorem JJ{ls:ZO}(wf:Wf ls){l:PL}(h:∀r∈l.ns,r<ls.length):Wf (ls++[l]):=fun i l' hl r hr=>by by_cases c:i<ls.length;rw[Sg c] at hl;exact wf i l' hl r hr;rw[sW Ug] at hl;by_cases z:i=ls.length;subst z;rw[Nat.sub_self] at hl;cases hl;exact h r hr;rw[Nd (by simp;lia)] at hl;cases hl
theorem x8{b:Option Nat}{x:Nat}(ns:ZX)(q:Nat)(w:D){sd m:Int}(s0:0<=sd)(s1:sd<1000003){n:Nat}(hn:n<=39):∃(ls:ZO)(q':Nat)(t8 t9:Sl),free (some t8)=true/\free (some t9)=true/\Wf ls/\(∀l∈ls,qH b x l)/\ls.length=n+1/\loop (aP 8) fW ((List.range n).map fun(k:Nat)=>D.int k) [.sh (Z ns),.ow (Row ns q),.sh w,.sh (.int sd),.sh (.int m),.sh (T (ay b x)),.sh (.int (lst b)),.ow (Pg [.given 0]),.no,.no,.no,.no,.no,.no,.no]=.ok .nx [.sh (Z ns),.ow (Row ns q'),.sh w,.sh (.int sd),.sh (.int m),.sh (T (ay b x)),.sh (.int (lst b)),.ow (Pg ls),t8,t9,.no,.no,.no,.no,.no]:=by
 have wf0:Wf [.given 0]:=fun i l hl r hr=>by cases i with|zero=>cases hl;cases hr|succ i=>cases hl
 obtain⟨⟨q',ls⟩,t,⟨h1,h2,h3⟩,ht,L⟩:=eU (g:=aP 8) (body:=fW) (fun(k:Nat)=>D.int k) (fun(s:Nat×List PL)(t:Sl×Sl)=>[.sh (Z ns),.ow (Row ns s.1),.sh w,.sh (.int sd),.sh (.int m),.sh (T (ay b x)),.sh (.int (lst b)),.ow (Pg s.2),t.1,t.2,.no,.no,.no,.no,.no]) pf (List.range n)
  (fun i s=>s.2.length=i+1/\Wf s.2/\∀l∈s.2,qH b x l) (q,[.given 0]) (.no,.no) ⟨rfl,rfl⟩ ⟨rfl,wf0,fun l hl=>by rw[List.mem_singleton.mp hl];rfl⟩ (by
  intro i k hk s t ht hP;obtain⟨rfl,hk⟩:=fg hk;obtain⟨q,ls⟩:=s;obtain⟨t8,t9⟩:=t;obtain⟨f8,f9⟩:=ht;obtain⟨p1,p2,p3⟩:=hP;dsimp only at f8 f9 p1 p2 p3;have pw:IH (.int 10) (.int 9)=some (.int 1000000000):=Pq;have tk:=l8 ns q 1000000000 Ug;have ad1:cx (.int (k:Int)) (.int 1)=some (.int ((k+1:Nat):Int)):=rfl;have mu1:cD (.int sd) (.int ((k+1:Nat):Int))=some (.int (sd*((k+1:Nat):Int))):=cQ _ _ Ug Ug;have mu2:cD (.int (sd*((k+1:Nat):Int))) (.int 48271)=some (.int (sd*((k+1:Nat):Int)*48271)):=jn _ _ Ug Ug;obtain⟨l,e,hf,hl⟩:=xG b x (cell ns q % 1000000000+sd*((k+1:Nat):Int)*48271) (n:=k+1) Ug Ug;have sl:=Ah b x;have ap:gW l.d (Pg ls)=some (Pg (ls++[l])):=by unfold Pg;rw[gY _ _ (by simp;lia),Mn];rfl
  refine⟨(q+1,ls++[l]),(.sh (.int k),.sh (.int (cell ns q % 1000000000+sd*((k+1:Nat):Int)*48271))),⟨by simp[p1],JJ p2 (by rw[p1];exact hl),fun l' h=>?_⟩,⟨rfl,rfl⟩,?_⟩;rcases List.mem_append.mp h with h|h;exact p3 l' h;rw[List.mem_singleton.mp h];exact hf;have il:isLst (some (Pg ls))=true:=rfl;have g8:aP 8 (.int (k:Int)) [.sh (Z ns),.ow (Row ns q),.sh w,.sh (.int sd),.sh (.int m),.sh (T (ay b x)),.sh (.int (lst b)),.ow (Pg ls),t8,t9,.no,.no,.no,.no,.no]=.ok () [.sh (Z ns),.ow (Row ns q),.sh w,.sh (.int sd),.sh (.int m),.sh (T (ay b x)),.sh (.int (lst b)),.ow (Pg ls),.sh (.int k),t9,.no,.no,.no,.no,.no]:=by simp[f8]
  have hf9:free (some t9)=true:=f9;dsimp only;generalize ((k+1:Nat):Int)=k1 at *;generalize cell ns q % 1000000000=cc at *;generalize sd*k1*48271=ss at *;generalize sd*k1=sk at *;generalize Pg (ls++[l])=P' at *;generalize l.d=ld at *;generalize T (ay b x)=S at *;generalize Row ns (q+1)=R' at *;generalize Row ns q=R at *;generalize Z ns=ZN at *;generalize lst b=kk at *;rw[bS,g8,aA,show fW _=.ok .nx _ by unfold fW;exact bw];rfl)
 obtain⟨t8,t9⟩:=t;rw[EZ] at h1;exact⟨ls,q',t8,t9,ht.1,ht.2,h2,h3,h1,L⟩
def Dw(b:Option Nat)(x:Nat)(sd:Int):ZX:=(List.range (cnt b x)).map fun(p:Nat)=>(sd+7919*(p:Int)*p) % 1000003
theorem LZ(b:Option Nat)(x:Nat)(sd:Int):Cs b x (Dw b x sd):=⟨by simp[Dw],fun v hv=>by obtain⟨p,_,rfl⟩:=List.mem_map.mp hv;exact⟨Int.emod_nonneg _ Ug,xE _ Ug⟩⟩
def rN:=ak (bc 10 (aY 1 (eY [(ax uU [.val (ag 5)])]) (aP 15) (VP.ret true) lC)) (ak (bc 11 (dr "Table" lK [.val (ag 5),.val (ag 10)])) (ak (bc 12 (ax u0 [.val (m1 hX (sY 7)),.val (dQ [(ag 5)])])) (ak (bc 13 (ax zm [.val (ag 12),.val (dQ [(ag 11)])])) (ak (bc 14 (ax uZ [.val (m1 hX (sY 7)),.val (dQ [(ag 11)])])) (ak (bX (tZ (f6 (tB (ax uW [.val (ag 13)]))) (tZ (f6 (tB (ax oX [.val (m2 aq (ag 13) (cI 0)),.val (ag 5),.val (m1 (aC br "cells") (ag 14))]))) (f6 (tB (ax oX [.val (ag 11),.val (ag 5),.val (ag 10)]))))) (ak (aM cF) aH) aH) (ak (aM (iO (m2 xD (m1 bK (m1 (aC cG "lengths") (ag 12))) (m1 bK (m1 (aC dO "loops") (ag 12)))) (m2 b7 (m1 (aC cG "lengths") (ag 12)) (m2 mulL (dQ [(m1 bK (ag 10))]) (m1 bK (m1 (aC cG "lengths") (ag 12))))))) aH))))))
theorem tail_at{b:Option Nat}{x:Nat}(o:Ok b x){ls:ZO}(wf:Wf ls)(hf:∀l∈ls,qH b x l)(h0:ls≠[])(G7:ls.length<=40)(A B C E F t8 t9:Sl){sd:Int}(s0:0<=sd)(s1:sd<1000003):∃r,rN [A,B,C,.sh (.int sd),E,.sh (T (ay b x)),F,.ow (Pg ls),t8,t9,.no,.no,.no,.no,.no]=.ok (.rt (.bl true)) (A::r):=by
 have hG:=LZ b x sd;obtain⟨V,hV⟩:=CS b x (Dw b x sd) hG ls wf hf;have g:Gd b x (Dw b x sd) ls V:=⟨o,hG,wf,hf,h0,G7,hV⟩;have O4:=i9 o;have lc:=xC o;have er:=Jc (cnt b x) Ug;have c:aY 1 (eY [(ax uU [.val (ag 5)])]) (aP 15) (VP.ret true) lC [A,B,C,.sh (.int sd),E,.sh (T (ay b x)),F,.ow (Pg ls),t8,t9,.no,.no,.no,.no,.no]=.ok (Z (Dw b x sd)) [A,B,C,.sh (.int sd),E,.sh (T (ay b x)),F,.ow (Pg ls),t8,t9,.no,.no,.no,.no,.no]:=by refine jN (fun(p:Nat)=>D.int p) (fun p=>D.int ((sd+7919*(p:Int)*p) % 1000003)) (List.range (cnt b x)) ?_ (by simp;lia) (by simp[Z,Dw]) fun p hp acc=>?_;generalize T (ay b x)=S at *;generalize Pg ls=P at *;exact bw;have:=List.mem_range.mp hp;have m1:cD (.int 7919) (.int (p:Int))=some (.int (7919*(p:Int))):=cQ _ _ Ug Ug;have m2:cD (.int (7919*(p:Int))) (.int (p:Int))=some (.int (7919*(p:Int)*p)):=cQ _ _ Ug Ug;have ad:=fR sd (7919*(p:Int)*p);have mr:=RW (sd+7919*(p:Int)*p);generalize (sd+7919*(p:Int)*p) % 1000003=z at *;generalize sd+7919*(p:Int)*p=z1 at *;generalize 7919*(p:Int)*p=z2 at *;generalize 7919*(p:Int)=z3 at *;generalize T (ay b x)=S at *;generalize Pg ls=P at *;unfold lC;exact bw
 obtain⟨kp,as,X,rd,R,m,e1,p⟩:=IG g;obtain⟨dn,d0,e2⟩:=Q0V g p;have e3:=plain_at o hG wf hf h0 G7 hV;have mt:=pM o hG;have tl:=Jy (ay b x) (V (ls.length-1)) d0;have it1:=nv (ay b x) (V (ls.length-1));have it2:=nv (ay b x) (Dw b x sd);have f1:aC br "cells" (Tb (ay b x) (V (ls.length-1)))=some (Z (V (ls.length-1))):=dm _ _;have i0:aq (.tup [Tb (ay b x) (V (ls.length-1)),.int dn]) (.int 0)=some (Tb (ay b x) (V (ls.length-1))):=rfl;have fl:aC cG "lengths" (wZ as X R (List.replicate m (cnt b x:Int)))=some (Z (List.replicate m (cnt b x:Int))):=Pq;have fo:aC dO "loops" (wZ as X R (List.replicate m (cnt b x:Int)))=some (kB as X):=Pq;have l1:bK (Z (List.replicate m (cnt b x:Int)))=some (.int m):=by rw[sV,List.length_replicate]
 have l2:bK (kB as X)=some (.int as.length):=by unfold kB;simp
 have le:xD (.int (m:Int)) (.int (as.length:Int))=some (.bl true):=by rw[pG,NU (by have:=p.le;lia)]
 have l3:bK (Z (Dw b x sd))=some (.int (cnt b x)):=by rw[sV,hG.1]
 have ZD:m<=40:=by have:=p.le;have:=p.V6.jR;lia
 have mu:mulL (.lst [.int (cnt b x:Int)]) (.int (m:Int))=some (Z (List.replicate m (cnt b x:Int))):=by show (if _ then _ else _)=_;rw[WL (by simp[ur];lia),ZJ];simp[Z,List.map_replicate]
 have eq:b7 (Z (List.replicate m (cnt b x:Int))) (Z (List.replicate m (cnt b x:Int)))=some (.bl true):=O3;have lo:hX (Pg ls)=some (Pg ls):=rfl;have an:anyOf (some (Sl.ow (Pg ls)))=some (Pg ls):=rfl;generalize wZ as X R (List.replicate m (cnt b x:Int))=PQ at *;generalize Z (List.replicate m (cnt b x:Int))=ZM at *;generalize kB as X=xs at *;generalize Tb (ay b x) (Dw b x sd)=TG at *;generalize D.tup [Tb (ay b x) (V (ls.length-1)),.int dn]=TP at *;generalize Tb (ay b x) (V (ls.length-1))=TV at *;generalize Z (V (ls.length-1))=ZV at *;generalize Z (Dw b x sd)=ZG at *;generalize T (ay b x)=S at *;generalize Pg ls=P at *;refine⟨[B,C,.sh (.int sd),E,.sh S,F,.ow P,t8,t9,.sh ZG,.sh TG,.sh PQ,.sh TP,.sh TV],?_⟩;unfold rN;exact bw
theorem Mz(ns:ZX):C7 [Z ns]=.ok (.bl true) []:=by
 have t0:=l8 ns 0 4 Ug;have t1:=l8 ns 1 1000003 Ug;have t2:=l8 ns 2 29 Ug;have b0:0<=cell ns 0 % 4/\cell ns 0 % 4<4:=⟨Int.emod_nonneg _ Ug,xE _ Ug⟩;have b1:0<=cell ns 1 % 1000003/\cell ns 1 % 1000003<1000003:=⟨Int.emod_nonneg _ Ug,xE _ Ug⟩;have b2:0<=cell ns 2 % 29/\cell ns 2 % 29<29:=⟨Int.emod_nonneg _ Ug,xE _ Ug⟩;generalize cell ns 0 % 4=w at *;generalize cell ns 1 % 1000003=sd at *;generalize cell ns 2 % 29=mn at *;have r3:dG (.int sd) (.int 3)=some (.int (sd % 3)):=fY _ _ Ug;have r25:dG (.int sd) (.int 25)=some (.int (sd % 25)):=fY _ _ Ug;have rm:dG (.int (12+mn)) (.int 3)=some (.int ((12+mn) % 3)):=fY _ _ Ug;have s3:∃y:Nat,2+sd % 3=sz y/\y<=2:=⟨(sd % 3).toNat,by unfold sz;lia,Ug⟩;have Z1:∃y:Nat,40+sd % 25=sz y/\y<=62:=⟨(38+sd % 25).toNat,by unfold sz;lia,Ug⟩;obtain⟨y3,e3,h3⟩:=s3;obtain⟨OW,Yv,YB⟩:=Z1;have key:∃(b:Option Nat)(x n:Nat),Ok b x/\n<=39/\∀G,(ak (bc 5 (fX [(m2 cx (cI 2) (m2 dG (ag 3) (cI 3)))]))
  (ak (bX (tB (m2 Dx (ag 2) (cI 1))) (ak (bc 4 (m2 cx (cI 2) (m2 dG (ag 4) (cI 3))))
  (ak (bc 5 (m2 aq (dQ [(fX [(m2 cx (cI 40) (m2 dG (ag 3) (cI 25)))]),(fX [(m2 cx (cI 2) (m2 dG (ag 3) (cI 3))),(cI 16)])]) (m2 dh (ag 2) (cI 2))))
  aH)) aH)
  (ak (bc 6 (m2 dh (m1 bK (ag 5)) (cI 1))) G))) [.sh (Z ns),.ow (Row ns 3),.sh (.int w),.sh (.int sd),.sh (.int (12+mn)),.no,.no,.no,.no,.no,.no,.no,.no,.no,.no]=G [.sh (Z ns),.ow (Row ns 3),.sh (.int w),.sh (.int sd),.sh (.int ((n+1:Nat):Int)),.sh (T (ay b x)),.sh (.int (lst b)),.no,.no,.no,.no,.no,.no,.no,.no]:=by
  have a3:cx (.int 2) (.int (sd % 3))=some (.int (sz y3)):=by rw[fR,e3]
  have a25:cx (.int 40) (.int (sd % 25))=some (.int (sz OW)):=by rw[fR,Yv]
  have X3:∀i:Int,bK (.tup [.int i])=some (.int 1):=fun _=>rfl;have ln2:∀i j:Int,bK (.tup [.int i,.int j])=some (.int 2):=fun _ _=>rfl;have su1:dh (.int 1) (.int 1)=some (.int 0):=rfl;have su2:dh (.int 2) (.int 1)=some (.int 1):=rfl;generalize Row ns 3=RR at *;by_cases q:w<=1;have gt:=Kj (i:=w) (j:=1) Ug;refine⟨none,y3,(11+mn).toNat,RC h3 Ug,Ug,fun G=>?_⟩;rw[show (((11+mn).toNat+1:Nat):Int)=12+mn by lia];show _=G [.sh (Z ns),.ow RR,.sh (.int w),.sh (.int sd),.sh (.int (12+mn)),.sh (.tup [.int (sz y3)]),.sh (.int 0),.no,.no,.no,.no,.no,.no,.no,.no];have l1:=X3 (sz y3);exact bw;have gt:=Q2K (i:=w) (j:=1) Ug;have am:cx (.int 2) (.int ((12+mn) % 3))=some (.int (((1+(12+mn) % 3).toNat+1:Nat):Int)):=by rw[fR];congr 2;lia
  by_cases q2:w=2;subst q2;have i0:aq (.lst [.tup [.int (sz OW)],.tup [.int (sz y3),.int 16]]) (.int 0)=some (.tup [.int (sz OW)]):=rfl;have sw:dh (.int 2) (.int 2)=some (.int 0):=rfl;refine⟨none,OW,(1+(12+mn) % 3).toNat,YB,Ug,fun G=>?_⟩;generalize (((1+(12+mn) % 3).toNat+1:Nat):Int)=M at *;show _=G [.sh (Z ns),.ow RR,.sh (.int 2),.sh (.int sd),.sh (.int M),.sh (.tup [.int (sz OW)]),.sh (.int 0),.no,.no,.no,.no,.no,.no,.no,.no];have l1:=X3 (sz OW);exact bw;obtain rfl:w=3:=Ug;have i0:aq (.lst [.tup [.int (sz OW)],.tup [.int (sz y3),.int 16]]) (.int 1)=some (.tup [.int (sz y3),.int 16]):=rfl;have sw:dh (.int 3) (.int 2)=some (.int 1):=rfl;refine⟨some y3,14,(1+(12+mn) % 3).toNat,⟨h3,rfl⟩,Ug,fun G=>?_⟩;generalize (((1+(12+mn) % 3).toNat+1:Nat):Int)=M at *;show _=G [.sh (Z ns),.ow RR,.sh (.int 3),.sh (.int sd),.sh (.int M),.sh (.tup [.int (sz y3),.int 16]),.sh (.int 1),.no,.no,.no,.no,.no,.no,.no,.no];have l1:=ln2 (sz y3) 16;exact bw
 obtain⟨b,x,n,ok,hn,key⟩:=key;obtain⟨ls,q',t8,t9,f8,f9,wf,hf,hl,L⟩:=x8 (b:=b) (x:=x) ns 3 (.int w) (sd:=sd) (m:=((n+1:Nat):Int)) b1.1 b1.2 hn;obtain⟨r,tl⟩:=tail_at ok wf hf (fun z=>by rw[z] at hl;cases hl) Ug (.sh (Z ns)) (.ow (Row ns q')) (.sh (.int w)) (.sh (.int ((n+1:Nat):Int))) (.sh (.int (lst b))) t8 t9 b1.1 b1.2;have k2:=key (ak (gu 7 (dQ [(fX [(cS 0),(cI 0)])])) (ak (fZ (eY [(m2 dh (ag 4) (cI 1))]) (aP 8) fW) rN));have su:dh (.int ((n+1:Nat):Int)) (.int 1)=some (.int n):=by rw[tY];congr 2;lia
 have er:=Jc n Ug;have k3:(ak (gu 7 (dQ [(fX [(cS 0),(cI 0)])])) (ak (fZ (eY [(m2 dh (ag 4) (cI 1))]) (aP 8) fW) rN)) [.sh (Z ns),.ow (Row ns 3),.sh (.int w),.sh (.int sd),.sh (.int ((n+1:Nat):Int)),.sh (T (ay b x)),.sh (.int (lst b)),.no,.no,.no,.no,.no,.no,.no,.no]=.ok (.rt (.bl true)) (.sh (Z ns)::r):=by have L:loop (aP 8) fW ((List.range n).map fun(k:Nat)=>D.int k) [.sh (Z ns),.ow (Row ns 3),.sh (.int w),.sh (.int sd),.sh (.int ((n+1:Nat):Int)),.sh (T (ay b x)),.sh (.int (lst b)),.ow (.lst [.tup [.str (nm 0),.int 0]]),.no,.no,.no,.no,.no,.no,.no]=_:=L;generalize ((n+1:Nat):Int)=N1 at *;generalize T (ay b x)=S at *;generalize Row ns 3=RR at *;generalize Row ns q'=RQ at *;generalize Pg ls=P at *;generalize (List.range n).map (fun(k:Nat)=>D.int k)=ks at *;generalize Z ns=ZN at *;generalize rN=TA at *;exact bw
 rw[<-k2] at k3;have io:∀(s:Sl)(r:aU),bR [false] (s::r)=some []:=fun _ _=>rfl;have r0:D.lst [Z ns,.int 0]=Row ns 0:=rfl;have fin:yF (cw 15 [false] [Z ns])=.ok (.rt (.bl true)) (.sh (Z ns)::r):=by
  simp only[hZ,jw,l4,Ae,Bool.false_eq_true,↓reduceIte];have am:=fR 12 mn;unfold yF;unfold rN at k3;have o1:dQ [(ag 0),(cI 0)] [.sh (Z ns),.no,.no,.no,.no,.no,.no,.no,.no,.no,.no,.no,.no,.no,.no]=.ok (Row ns 0) [.sh (Z ns),.no,.no,.no,.no,.no,.no,.no,.no,.no,.no,.no,.no,.no,.no]:=by rw[<-r0];exact bw
  generalize Row ns 0=R0 at *;generalize Row ns 1=R1 at *;generalize Row ns 2=R2 at *;generalize Row ns 3=R3 at *;generalize Z ns=ZN at *;exact bw
 unfold C7;exact Kb rfl fin (io _ r)
end LW
end
section
set_option Elab.async false
set_option maxRecDepth 100000
set_option maxHeartbeats 4000000
set_option linter.all false
namespace LW
open PySem PySem.Spec PyProof.Rows L2 VP VS
seal lx nL PV PB qp PF BQ yA PR Av uz wY FY
def top(i:Nat):Stmt:=PySem.Challenge.pw_loomarrays_k30_whole_long_and_wide.main.body.getD i (.Pass ⟨0,0,0,0⟩)
def L:Lf where
 b:=["all","any","bool","dict","enumerate","int","isinstance","len","list","max","min","range","reversed","sum","tuple","zip"]
 n:=[("LONGEST_SIDE",.int 64),("MOST_CELLS",.int 4096),("MOST_LINES",.int 40),("MOST_SIDES",.int 4),("REST",.int 1000003)]
 t:=[("DEEDS",mX,qI),("FORMS",mY,Ay)]
 d:=([("cells_in",top 26,["sides"]),
  ("is_rest",top 3,["number"]),
  ("sides_can_be",top 25,["sides"]),
  ("_law_cells",top 117,["_law_sides"]),
  ("_law_whole",top 115,["_law_found"]),
  ("_law_numbers",top 116,["_law_found","_law_due"]),
  ("_law_is_table",top 118,["_law_found","_law_sides","_law_cells_here"]),
  ("_law_line",top 120,["_law_cell","_law_at","_law_size","_law_last"]),
  ("_law_taken",top 114,["_law_row","_law_many"]),
  ("_law_told",top 119,["_law_found"]),
  ("deed_is_known",top 66,["line"]),
  ("number_is_cell",top 78,["line"]),
  ("named_by",top 65,["line"]),
  ("places_are_there",top 77,["line","lines_ahead","tables"]),
  ("has_side",top 81,["sides","side"]),
  ("with_ones_ahead",top 32,["sides","many"]),
  ("sides_met",top 31,["one","other"]),
  ("has_place",top 82,["sides","side","place"]),
  ("replaced",top 35,["row","side","number"]),
  ("cut_sides",top 84,["sides","side","begin","step","many"]),
  ("sides_viewed",top 80,["line","sides"]),
  ("three_met",top 86,["one","other","third"]),
  ("sides_told",top 79,["line","ahead","given"]),
  ("sides_looked_over",top 76,["at","line","ahead","given"])]:List w6) ++
  ([("sides_of",top 75,["program","given"]),
  ("strides_of",top 27,["sides"]),
  ("place_at",top 28,["sides","at"]),
  ("one_if",top 8,["holds"]),
  ("both_deed",top 5,["deed","one","other"]),
  ("one_deed",top 4,["deed","number"]),
  ("shift_cell",top 101,["source","side","by","number","at"]),
  ("spread_cell",top 96,["source","at"]),
  ("view_cell",top 95,["line","source","at"]),
  ("where_cell",top 97,["asked","left","right","at"]),
  ("cell_made",top 94,["line","sides","made","at"]),
  ("index_of",top 29,["sides","place"]),
  ("indexes_of",top 30,["sides"]),
  ("run_cells",top 93,["deed","source","side"]),
  ("table_made",top 92,["line","sides","made","tables"]),
  ("wanted_lines",top 68,["program"]),
  ("plain_answer",top 91,["program","tables"]),
  ("spreads",top 72,["program","sides","number","at"]),
  ("is_kept",top 71,["program","sides","at","naming"]),
  ("naming_lines",top 70,["program","wanted","at"]),
  ("kept_lines",top 69,["program","sides"]),
  ("lengths_of",top 112,["loops","row_of"]),
  ("reading_by",top 57,["way","strides","many"]),
  ("part_standing",top 50,["number"])]:List w6) ++
  ([("part_moved",top 53,["part","begin","step"]),
  ("way_moved",top 52,["way","side","begin","step"]),
  ("way_spread",top 56,["way","own"]),
  ("straight_way",top 48,["many"]),
  ("loop_of",top 105,["program","sides","kept","at"]),
  ("lines_read_in",top 107,["tree"]),
  ("lines_read_by",top 108,["loop"]),
  ("last_readings",top 109,["loops"]),
  ("lowest_beside",top 111,["rows"]),
  ("rows_of",top 110,["loops"]),
  ("plan_of",top 104,["program","given"]),
  ("number_by",top 49,["part","at"]),
  ("place_read",top 58,["start","steps","at"]),
  ("run_plan",top 60,["plan","tables"]),
  ("law",top 121,["_law_script"])]:List w6)
 m:=([("Table","__init__","Table.__init__",false,inClass (top 37) 0,["self","sides","cells"]),
  ("Table","cell","Table.cell",false,inClass (top 37) 1,["self","at"]),
  ("Plan","__init__","Plan.__init__",false,inClass (top 103) 0,["self","loops","row_of","lengths"]),
  ("Loop","__init__","Loop.__init__",true,inClass (top 15) 0,["self","line","sides"]),
  ("Fill","__init__","Fill.__init__",false,inClass (top 17) 0,["self","line","sides","tree"]),
  ("Load","__init__","Load.__init__",false,inClass (top 16) 0,["self","line","sides","table"]),
  ("Through","__init__","Through.__init__",false,inClass (top 19) 0,["self","line","sides","side","deed","tree"]),
  ("Weaver","__init__","Weaver.__init__",false,inClass (top 106) 0,["self","program","sides","kept","many"]),
  ("Both","__init__","Both.__init__",false,inClass (top 43) 0,["self","deed","left","right"]),
  ("One","__init__","One.__init__",false,inClass (top 42) 0,["self","deed","inner"]),
  ("Read","__init__","Read.__init__",false,inClass (top 41) 0,["self","line","start","steps"]),
  ("Weaver","row_read","Weaver.row_read",false,inClass (top 106) 2,["self","at","way","sides"]),
  ("Within","__init__","Within.__init__",false,inClass (top 45) 0,["self","part","size","inner","number"]),
  ("Where","__init__","Where.__init__",false,inClass (top 44) 0,["self","asked","left","right"]),
  ("Weaver","tree_named","Weaver.tree_named",false,inClass (top 106) 1,["self","at","way"]),
  ("Weaver","tree_made","Weaver.tree_made",false,inClass (top 106) 3,["self","at","way"]),
  ("Weaver","tree_viewed","Weaver.tree_viewed",false,inClass (top 106) 4,["self","line","way"]),
  ("Weaver","tree_spread","Weaver.tree_spread",false,inClass (top 106) 5,["self","at","way"]),
  ("Weaver","tree_shifted","Weaver.tree_shifted",false,inClass (top 106) 6,["self","at","side","by","number","way"]),
  ("Work","__init__","Work.__init__",false,inClass (top 61) 0,["self","plan"]),
  ("Work","row_with","Work.row_with",false,inClass (top 61) 1,["self","line"]),
  ("Work","number_of","Work.number_of",false,inClass (top 61) 8,["self","tree","at"]),
  ("Work","do_fill","Work.do_fill",false,inClass (top 61) 4,["self","loop"]),
  ("Work","do_load","Work.do_load",false,inClass (top 61) 3,["self","loop","tables"])]:List Ax) ++
  ([("Work","do_through","Work.do_through",false,inClass (top 61) 6,["self","loop"]),
  ("Work","do_loop","Work.do_loop",false,inClass (top 61) 2,["self","loop","tables"])]:List Ax)
 k:=["Table","Plan","Loop","Fill","Load","Through","Weaver","Both","One","Read","Within","Where","Work","Fold","Pick","Even","Joined"]
 f:=([("asked",iI),
  ("cells",br),
  ("deed",dR),
  ("done",G1),
  ("inner",dN),
  ("kept",oh),
  ("left",eO),
  ("lengths",cG),
  ("line",bZ),
  ("loops",dO),
  ("many",oi),
  ("number",ki),
  ("part",oj),
  ("program",jd),
  ("right",dk),
  ("row_of",qZ),
  ("rows",G2),
  ("side",je),
  ("sides",aO),
  ("size",om),
  ("start",lL),
  ("steps",lM),
  ("table",lN),
  ("tree",dA)]:List (Str×List Str))
 a:=["Both","Even","Joined","One","Read","Where","Within","Fill","Fold","Load","Pick","Through","Table"]
 i:=[("Both",fV),("Even",iL),("Fill",lR),("Fold",pD),("Joined",jk),("Load",gM),("One",kj),("Pick",jW),("Read",cA),("Table",iM),("Where",gJ)]
 j:=[("One","Within",cz)]
section
variable{P:Program}{w:World}{K:Frag}{mg:MG}{base:Heap}{a:Gu}(T:Txt L w K mg a)
theorem pS:Cl P base T "cells_in" 1 [false] kI:=fc ["many","side"] B2 (T.d 0 rfl) fun S hr=>(ae (eG 1 S.nd aj) (ae (uf (dJ (aa 0)) (mZ 2 S.nd) (ae (eG 1 S.nd (aI cX fE (aa 1) (aa 2))) ai)) (ae (au (aa 1)) ai)))
theorem Et:Cl P base T "is_rest" 1 [false] oW:=fc [] yK (T.d 1 rfl) fun S hr=>(ae (au (gR gC kQ ph qv aj (aa 0) (ff (T.n 4 rfl) rfl))) ai)
theorem EB:Cl P base T "sides_can_be" 2 [false] u6:=fc [] Cz (T.d 2 rfl) fun S hr=>(ae (aJ (qp.pb (jX (fL vN Dr (d8 (T.b 7) (PV.rd (aa 0))) (ff (T.n 3 rfl) rfl) (b9 _)) (jq (dI (aX (dC (ke rfl) (mG true) rfl (T.b 0) VS.boot_all (PV.rd (PF.pv (vU 1 ["sides","side","?acc1"] (dJ (aa 0)) (fun nd=>(mZ 1 nd)) cf (gR gC gC ph ph aj (aa 1) (ff (T.n 0 rfl) rfl))))))))))) (ae (au j3) ai) ai) (ae (au (ej gC ph (bM (pS T) hr (ah (aa 0) ao)) (ff (T.n 1 rfl) rfl) (b9 _))) ai))
theorem vM:m9 P base T "Table" "__init__" false 3 [true,false,false] lK:=fm [] Lo (T.m 0 rfl) fun S hr=>(ae (bz 0 (T.f 18) (yc (T.b 14) (PV.rd (aa 1)))) (ae (bz 0 (T.f 1) (PF.pv (jt rfl (T.b 8) GC (PV.rd (aa 2))))) (ae (aJ (dI (aX (bM (EB T) hr (ah (aG (T.f 18) (gQ 0)) ao)))) (ae aQ ai) ai) (ae (aJ (Ir hr (d8 (T.b 7) (PV.rd (aG (T.f 1) (gQ 0)))) (bM (pS T) hr (ah (aG (T.f 18) (gQ 0)) ao))) (ae aQ ai) ai) (ae (aJ (dI (aX (dC (ke rfl) (mG true) rfl (T.b 0) VS.boot_all (PV.rd (PF.pv (vU 1 ["self","sides","cells","number","?acc3"] (dJ (aG (T.f 1) (gQ 0))) (fun nd=>(mZ 3 nd)) cf (bM (Et T) hr (ah (aa 3) ao)))))))) (ae aQ ai) ai) ai)))))
theorem M6:Cl P base T "_law_cells" 1 [false] uU:=fc ["_law_found","_law_size"] JW (T.d 3 rfl) fun S hr=>(ae (eG 1 S.nd aj) (ae (uf (dJ (aa 0)) (mZ 2 S.nd) (ae (eG 1 S.nd (aI cX fE (aa 1) (aa 2))) ai)) (ae (au (aa 1)) ai)))
theorem Ey:Cl P base T "_law_whole" 1 [false] uX:=fc [] Cd (T.d 4 rfl) fun S hr=>(ae (au (jZ (qa "int" O3 rfl (T.b 6) rfl (T.b 5) (by decide +kernel) (PV.rd (aa 0))) (jv (Q1K (qa "bool" O3 rfl (T.b 6) rfl (T.b 2) (by decide +kernel) (PV.rd (aa 0))))))) ai)
theorem Ew:Cl P base T "_law_numbers" 2 [false,false] uV:=fc ["_law_number"] Ca (T.d 5 rfl) fun S hr=>(ae (aJ (qp.pb (jX (dI (aX (qa "tuple" O3 rfl (T.b 6) rfl (T.b 14) (by decide +kernel) (PV.rd (aa 0))))) (jq (Ir hr (d8 (T.b 7) (PV.rd (aa 0))) (d8 (T.b 7) (PV.rd (aa 1))))))) (ae (au j3) ai) ai) (ae (uf (dJ (aa 0)) (mZ 2 S.nd) (ae (aJ (dI (aX (bM (Ey T) hr (ah (aa 2) ao)))) (ae (au j3) ai) ai) ai)) (ae (au (ej (mS hr.units) rf (aa 0) (aa 1) (b9 _))) ai)))
theorem Eu:Cl P base T "_law_is_table" 3 [false,false,false] oX:=fc [] B8 (T.d 6 rfl) fun S hr=>(ae (aJ (qp.pb (jX (dI (aX (cg (T.i 9) rfl (T.b 6) rfl (PV.rd (aa 0))))) (jq (dI (aX (bM (Ew T) hr (ah (aG (T.f 18) (PV.rd (aa 0))) (ah (aa 1) ao)))))))) (ae (au j3) ai) ai) (ae (au (jZ (qa "list" O3 rfl (T.b 6) rfl (T.b 8) (by decide +kernel) (PV.rd (aG (T.f 1) (PV.rd (aa 0))))) (jv (bM (Ew T) hr (ah (yc (T.b 14) (PV.rd (aG (T.f 1) (PV.rd (aa 0))))) (ah (yc (T.b 14) (PV.rd (aa 2))) ao)))))) ai))
theorem M7:Cl P base T "_law_line" 1 [false,false,false,false] y7:=fc ["_law_a","_law_b","_law_way","_law_deed"] B9 (T.d 7 rfl) fun S hr=>(ae (eG 4 S.nd (aI cH eR (aI gH jf (aa 0) aj) (aa 1))) (ae (eG 5 S.nd (aI cH eR (aI gH jf (aa 0) aj) (aa 1))) (ae (eG 6 S.nd (aI cH eR (aa 0) aj)) (ae (aJ (dg hr (aa 6) aj) (ae (au (cZ (ar az (ar (aw (PF.pv (cv (ar az (ar az (ar az aK))))) (aI cH eR (aI gH jf (aa 0) aj) aj)) (ar (aa 4) aK))))) ai) ai) (ae (aJ (qp.pb (jX (dg hr (aa 6) aj) (jq (dg hr (aa 6) aj)))) (ae (eG 7 S.nd (aw (PF.pv (cv (ar az (ar az (ar az (ar az (ar az (ar az (ar az aK))))))))) (aI cH eR (aI gH jf (aa 0) aj) aj))) (ae (au (cZ (ar az (ar (aa 7) (ar (aI cB eA (aa 1) aj) (ar (aa 5) aK)))))) ai)) ai) (ae (aJ (dg hr (aa 6) aj) (ae (au (cZ (ar az (ar (aa 4) (ar (aa 3) (ar (aI cB eA (aI cH eR (aI gH jf (aa 0) aj) aj) aj) (ar (aI cH eR (aI gH jf (aa 0) aj) aj) aK))))))) ai) ai) (ae (aJ (dg hr (aa 6) aj) (ae (au (cZ (ar az (ar (aI cB eA (aa 1) aj) (ar (aa 3) (ar (aI cB eA (aa 2) aj) (ar (lZ jx gI aj) (ar (aa 2) aK)))))))) ai) ai) (ae (aJ (dg hr (aa 6) aj) (ae (au (cZ (ar az (ar (aw (PF.pv (cv (ar az (ar az (ar az (ar az aK)))))) (aI cH eR (aI gH jf (aa 0) aj) aj)) (ar (aa 5) (ar (aa 3) aK)))))) ai) ai) (ae (au (cZ (ar az (ar (aa 5) (ar (aI cB eA (aa 1) aj) (ar (aa 4) aK)))))) ai)))))))))
theorem tx:Cl P base T "_law_taken" 1 [true,false] oY:=fc ["_law_at"] Cb (T.d 8 rfl) fun S hr=>(ae (eG 2 S.nd (bF 0 aj)) (ae (iW 0 aj (aI bp bJ (aa 2) aj)) (ae (aJ (fL kQ qv (aa 2) (d8 (T.b 7) (PV.rd (bF 0 aj))) (b9 _)) (ae (au (aI cH eR (aw (bF 0 aj) (aa 2)) (aa 1))) ai) ai) (ae (au aj) ai))))
theorem M8:Cl P base T "_law_told" 2 [false] uW:=fc [] Cc (T.d 9 rfl) fun S hr=>(ae (aJ (qp.pb (jX (dI (aX (qa "tuple" O3 rfl (T.b 6) rfl (T.b 14) (by decide +kernel) (PV.rd (aa 0))))) (jq (Ir hr (d8 (T.b 7) (PV.rd (aa 0))) aj)))) (ae (au j3) ai) ai) (ae (au (jZ (cg (T.i 9) rfl (T.b 6) rfl (PV.rd (aw (aa 0) aj))) (jZ (bM (Ey T) hr (ah (aw (aa 0) aj) ao)) (jv (ej KL Qy (aw (aa 0) aj) aj (b9 _)))))) ai))
theorem M3:Cl P base T "deed_is_known" 1 [false] Dg:=fc [] JU (T.d 10 rfl) fun S hr=>(ae (au (dC (ke rfl) (mG true) rfl (T.b 0) VS.boot_all (PV.rd (PF.pv (vU 2 ["line","part","value","?acc1"] (j8 rfl (T.b 15) (ar (tP (T.t 1 rfl) rfl (aw (aa 0) aj)) (ar (rG (aa 0) (ky aj) kx) aK))) (fun nd=>(et rfl (lu 1 nd (lu 2 nd cJ)))) (lY (EL (T.t 0 rfl) rfl (aa 1) (by with_unfolding_all rfl))) (ej iP (Ds false) (aa 2) (tP (T.t 0 rfl) rfl (aa 1)) (by with_unfolding_all rfl))))))) ai)
theorem Ni:Cl P base T "number_is_cell" 2 [false] ze:=fc [] Cm (T.d 11 rfl) fun S hr=>(ae (aJ (dg hr (aw (aa 0) aj) az) (ae aQ ai) ai) (ae (au (KR (ej (xZ hr.units) Du (aw (aa 0) aj) az (b9 _)) (jv (bM (Et T) hr (ah (aw (aa 0) aj) ao))))) ai))
theorem xS:Cl P base T "named_by" 1 [false] o6:=fc [] JX (T.d 12 rfl) fun S hr=>(ae (au (PF.pv (vU 2 ["line","part","value","?acc1"] (j8 rfl (T.b 15) (ar (tP (T.t 1 rfl) rfl (aw (aa 0) aj)) (ar (rG (aa 0) (ky aj) kx) aK))) (fun nd=>(et rfl (lu 1 nd (lu 2 nd cJ)))) (lY (dg hr (aa 1) az)) (aa 2)))) ai)
theorem Nn:Cl P base T "places_are_there" 2 [false,false,false] zj:=fc [] Ct (T.d 13 rfl) fun S hr=>(ae (aJ (dg hr (aw (aa 0) aj) az) (ae (au (gR gC kQ ph qv aj (aw (aa 0) aj) (aa 2))) ai) ai) (ae (au (dC (ke rfl) (mG true) rfl (T.b 0) VS.boot_all (PV.rd (PF.pv (vU 1 ["line","lines_ahead","tables","named","?acc3"] (dJ (bM (xS T) hr (ah (aa 0) ao))) (fun nd=>(mZ 3 nd)) cf (gR gC kQ ph qv aj (aa 3) (aa 1))))))) ai))
theorem tw:Cl P base T "has_side" 1 [false,false] qR:=fc [] JV (T.d 14 rfl) fun S hr=>(ae (au (gR gC kQ ph qv aj (aa 1) (d8 (T.b 7) (PV.rd (aa 0))))) ai)
theorem EG:Cl P base T "with_ones_ahead" 1 [false,false] zw:=fc [] J3 (T.d 15 rfl) fun S hr=>(ae (au (aI bp bJ (PF.pv (vU 1 ["sides","many","missing","?acc2"] (eD rfl (T.b 11) (ar (aI cB eA (aa 1) (d8 (T.b 7) (PV.rd (aa 0)))) aK)) (fun nd=>(mZ 2 nd)) cf aj)) (PF.pv (jt rfl (T.b 8) GC (PV.rd (aa 0)))))) ai)
theorem xW:Cl P base T "sides_met" 2 [false,false] pd:=fc ["many","met","left","right"] yM (T.d 16 rfl) fun S hr=>(ae (eG 2 S.nd (j4 (kf rfl) zA rfl (T.b 9) boot_max (ar (d8 (T.b 7) (PV.rd (aa 0))) (ar (d8 (T.b 7) (PV.rd (aa 1))) aK)))) (ae (BG 3 S.nd (cv aK)) (ae (uf (j8 rfl (T.b 15) (ar (bM (EG T) hr (ah (aa 0) (ah (aa 2) ao))) (ar (bM (EG T) hr (ah (aa 1) (ah (aa 2) ao))) aK))) (et rfl (lu 4 S.nd (lu 5 S.nd cJ))) (ae (aJ (qp.pb (tG (Ir hr (aa 4) (aa 5)) (tG (Ir hr (aa 4) aj) (tH (Ir hr (aa 5) aj))))) (ae (au iu) ai) ai) (ae (K3 3 (iT (dg hr (aa 4) aj) (aa 5) (aa 4))) ai))) (ae (au (yc (T.b 14) (gQ 3))) ai))))
theorem Er:Cl P base T "has_place" 2 [false,false,false] uS:=fc [] B4 (T.d 17 rfl) fun S hr=>(ae (au (jZ (bM (tw T) hr (ah (aa 0) (ah (aa 1) ao))) (jv (gR gC kQ ph qv aj (aa 2) (aw (aa 0) (aa 1)))))) ai)
theorem xV:Cl P base T "replaced" 1 [false,false,false] qV:=fc [] JZ (T.d 18 rfl) fun S hr=>(ae (au (aI bp bJ (aI bp bJ (rG (aa 0) kx (ky (aa 1))) (cZ (ar (aa 2) aK))) (rG (aa 0) (ky (aI bp bJ (aa 1) aj)) kx))) ai)
theorem M1:Cl P base T "cut_sides" 3 [false,false,false,false,false] yZ:=fc [] B3 (T.d 19 rfl) fun S hr=>(ae (aJ (qp.pb (jX (dI (aX (bM (tw T) hr (ah (aa 0) (ah (aa 1) ao))))) (jX (dg hr (aa 3) aj) (jq (fL kQ qv (aa 4) aj (b9 _)))))) (ae (au iu) ai) ai) (ae (aJ (qp.pb (tG (fL vN Dr (aa 4) aj (b9 _)) (tH (dI (qp.pb (tG (aX (bM (Er T) hr (ah (aa 0) (ah (aa 1) (ah (aa 2) ao))))) (tH (aX (bM (Er T) hr (ah (aa 0) (ah (aa 1) (ah (aI bp bJ (aa 2) (aI cX fE (aa 3) (aI cB eA (aa 4) aj))) ao)))))))))))) (ae (au iu) ai) ai) (ae (au (bM (xV T) hr (ah (aa 0) (ah (aa 1) (ah (aa 4) ao))))) ai)))
theorem Nz:Cl P base T "sides_viewed" 4 [false,false] zp:=fc ["kind"] CD (T.d 20 rfl) fun S hr=>(ae (eG 2 S.nd (aw (aa 0) aj)) (ae (aJ (dg hr (aa 2) az) (ae aQ ai) ai) (ae (aJ (dg hr (aa 2) az) (ae (au (bM (M1 T) hr (ah (aa 1) (ah (aw (aa 0) aj) (ah (aw (aa 0) aj) (ah (aw (aa 0) aj) (ah (aw (aa 0) aj) ao))))))) ai) ai) (ae (aJ (dg hr (aa 2) az) (ae aQ ai) ai) (ae (aJ (dg hr (aa 2) az) (ae aQ ai) ai) (ae (aJ (dg hr (aa 2) az) (ae aQ ai) ai) (ae aQ ai)))))))
theorem NC:Cl P base T "three_met" 3 [false,false,false] zt:=fc ["met"] CG (T.d 21 rfl) fun S hr=>(ae (eG 3 S.nd (bM (xW T) hr (ah (aa 0) (ah (aa 1) ao)))) (ae (au (iT (fL EJ Kg (aa 3) iu (b9 _)) iu (bM (xW T) hr (ah (aa 3) (ah (aa 2) ao))))) ai))
theorem Ny:Cl P base T "sides_told" 5 [false,true,false] kJ:=fc ["kind"] lB (T.d 22 rfl) fun S hr=>(ae (eG 3 S.nd (aw (aa 0) aj)) (ae (aJ (dg hr (aa 3) az) (ae (au (aw (aa 2) (aw (aa 0) aj))) ai) ai) (ae (aJ (dg hr (aa 3) az) (ae aQ ai) ai) (ae (aJ (dg hr (aa 3) az) (ae (au (bF 1 (aw (aa 0) aj))) ai) ai) (ae (aJ (dg hr (aa 3) az) (ae (au (bM (xW T) hr (ah (bF 1 (aw (aa 0) aj)) (ah (bF 1 (aw (aa 0) aj)) ao)))) ai) ai) (ae (aJ (dg hr (aa 3) az) (ae (au (bM (NC T) hr (ah (bF 1 (aw (aa 0) aj)) (ah (bF 1 (aw (aa 0) aj)) (ah (bF 1 (aw (aa 0) aj)) ao))))) ai) ai) (ae (aJ (dg hr (aa 3) az) (ae aQ ai) ai) (ae (aJ (dg hr (aa 3) az) (ae (au (iT (aX (bM (tw T) hr (ah (bF 1 (aw (aa 0) aj)) (ah (aw (aa 0) aj) ao)))) (bF 1 (aw (aa 0) aj)) iu)) ai) ai) (ae (aJ (dg hr (aa 3) az) (ae aQ ai) ai) (ae (aJ (dg hr (aa 3) az) (ae aQ ai) ai) (ae (aJ (dg hr (aa 3) az) (ae (au (iT (aX (bM (tw T) hr (ah (bF 1 (aw (aa 0) aj)) (ah (aw (aa 0) aj) ao)))) (bF 1 (aw (aa 0) aj)) iu)) ai) ai) (ae (au (bM (Nz T) hr (ah (aa 0) (ah (bF 1 (aw (aa 0) aj)) ao)))) ai))))))))))))
theorem Q17:Cl P base T "sides_looked_over" 6 [false,false,true,false] zo:=fc ["sides"] CA (T.d 23 rfl) fun S hr=>(ae (aJ (dI (aX (bM (Nn T) hr (ah (aa 1) (ah (d8 (T.b 7) (gQ 2)) (ah (d8 (T.b 7) (PV.rd (aa 3))) ao)))))) (ae aQ ai) ai) (ae (aJ (dI (aX (bM (Ni T) hr (ah (aa 1) ao)))) (ae aQ ai) ai) (ae (eG 4 S.nd (iT (aX (bM (M3 T) hr (ah (aa 1) ao))) (bM (Ny T) hr (ah (aa 1) (gP 2 (ah (aa 3) ao)))) iu)) (ae (aJ (qp.pb (jX (fL EJ Kg (aa 4) iu (b9 _)) (jq (dI (aX (bM (EB T) hr (ah (aa 4) ao))))))) (ae aQ ai) ai) (ae (au (aa 4)) ai)))))
theorem EC:Cl P base T "sides_of" 7 [false,false] u7:=fc ["ahead","at","line"] CB (T.d 24 rfl) fun S hr=>(ae (aJ (dg hr (d8 (T.b 7) (PV.rd (aa 0))) aj) (ae aQ ai) ai) (ae (aJ (fL vN Dr (d8 (T.b 7) (PV.rd (aa 0))) (ff (T.n 2 rfl) rfl) (b9 _)) (ae aQ ai) ai) (ae (BG 2 S.nd (cv aK)) (ae (uf (jz rfl (T.b 4) (ar (aa 0) aK)) (et rfl (lu 3 S.nd (lu 4 S.nd cJ))) (ae (K3 2 (bM (Q17 T) hr (ah (aa 3) (ah (aa 4) (gP 2 (ah (aa 1) ao)))))) ai)) (ae (l9 (i:=2) (au (aa 2))) ai)))))
theorem pU:Cl P base T "strides_of" 1 [false] iH:=fc ["backwards","stride","side"] yO (T.d 25 rfl) fun S hr=>(ae (BG 1 S.nd (cv aK)) (ae (eG 2 S.nd aj) (ae (uf (ON rfl (T.b 12) (aa 0)) (mZ 3 S.nd) (ae (K3 1 (aa 2)) (ae (eG 2 S.nd (aI cX fE (aa 2) (aa 3))) ai))) (ae (au (IS rfl (T.b 12) rfl (T.b 14) (gQ 1))) ai))))
theorem Nk:Cl P base T "place_at" 2 [false,false] zh:=fc [] Cq (T.d 26 rfl) fun S hr=>(ae (au (dC (uO rfl) Kh rfl (T.b 13) boot_sum (PV.rd (PF.pv (vU 2 ["sides","at","stride","number","?acc2"] (j8 rfl (T.b 15) (ar (bM (pU T) hr (ah (aa 0) ao)) (ar (aa 1) aK))) (fun nd=>(et rfl (lu 2 nd (lu 3 nd cJ)))) cf (aI cX fE (aa 2) (aa 3))))))) ai)
theorem zT:m9 P base T "Table" "cell" false 3 [false,false] xn:=fm [] Ln (T.m 1 rfl) fun S hr=>(ae (au (aw (aG (T.f 1) (PV.rd (aa 0))) (bM (Nk T) hr (ah (aG (T.f 18) (PV.rd (aa 0))) (ah (aa 1) ao))))) ai)
theorem xU:Cl P base T "one_if" 1 [false] qU:=fc [] Co (T.d 27 rfl) fun S hr=>(ae (au (iT (aX (aa 0)) aj aj)) ai)
theorem tu:Cl P base T "both_deed" 2 [false,false,false] lJ:=fc [] B1 (T.d 28 rfl) fun S hr=>(ae (aJ (dg hr (aa 0) az) (ae (au (aI cH eR (aI bp bJ (aa 1) (aa 2)) (ff (T.n 4 rfl) rfl))) ai) ai) (ae (aJ (dg hr (aa 0) az) (ae (au (aI cH eR (aI cB eA (aa 1) (aa 2)) (ff (T.n 4 rfl) rfl))) ai) ai) (ae (aJ (dg hr (aa 0) az) (ae (au (aI cH eR (aI cX fE (aa 1) (aa 2)) (ff (T.n 4 rfl) rfl))) ai) ai) (ae (aJ (dg hr (aa 0) az) (ae (au (j4 (AI rfl) QA rfl (T.b 10) boot_min (ar (aa 1) (ar (aa 2) aK)))) ai) ai) (ae (aJ (dg hr (aa 0) az) (ae (au (j4 (kf rfl) zA rfl (T.b 9) boot_max (ar (aa 1) (ar (aa 2) aK)))) ai) ai) (ae (aJ (dg hr (aa 0) az) (ae (au (bM (xU T) hr (ah (ej kQ qv (aa 1) (aa 2) (b9 _)) ao))) ai) ai) (ae (au (bM (xU T) hr (ah (ej (mS hr.units) rf (aa 1) (aa 2) (b9 _)) ao))) ai)))))))
theorem Ez:Cl P base T "one_deed" 2 [false,false] uY:=fc [] Cn (T.d 29 rfl) fun S hr=>(ae (aJ (dg hr (aa 0) az) (ae (au (aI cH eR (aI cB eA aj (aa 1)) (ff (T.n 4 rfl) rfl))) ai) ai) (ae (aJ (dg hr (aa 0) az) (ae (au (aI gH jf (aa 1) aj)) ai) ai) (ae (au (bM (xU T) hr (ah (ej (mS hr.units) rf (aa 1) aj (b9 _)) ao))) ai)))
theorem Nw:Cl P base T "shift_cell" 4 [false,false,false,false,false] qW:=fc ["place"] uL (T.d 30 rfl) fun S hr=>(ae (eG 5 S.nd (aI cB eA (aw (aa 4) (aa 1)) (aa 2))) (ae (au (iT (EK gC kQ ph qv aj (aa 5) (aw (aG (T.f 18) (PV.rd (aa 0))) (aa 1))) (tK (zT T) hr (aa 0) (ah (bM (xV T) hr (ah (aa 4) (ah (aa 1) (ah (aa 5) ao)))) ao)) (aa 3))) ai))
theorem tD:Cl P base T "spread_cell" 4 [false,false] pe:=fc ["last"] CF (T.d 31 rfl) fun S hr=>(ae (eG 2 S.nd (rG (aa 1) (ky (aI cB eA (d8 (T.b 7) (PV.rd (aa 1))) (d8 (T.b 7) (PV.rd (aG (T.f 18) (PV.rd (aa 0))))))) kx)) (ae (au (tK (zT T) hr (aa 0) (ah (yc (T.b 14) (PV.rd (PF.pv (vU 2 ["source","at","last","side","number","?acc3"] (j8 rfl (T.b 15) (ar (aG (T.f 18) (PV.rd (aa 0))) (ar (aa 2) aK))) (fun nd=>(et rfl (lu 3 nd (lu 4 nd cJ)))) cf (iT (dg hr (aa 3) aj) aj (aa 4)))))) ao))) ai))
theorem Q1B:Cl P base T "view_cell" 4 [false,false,false] zu:=fc ["kind"] CH (T.d 32 rfl) fun S hr=>(ae (eG 3 S.nd (aw (aa 0) aj)) (ae (aJ (dg hr (aa 3) az) (ae aQ ai) ai) (ae (aJ (dg hr (aa 3) az) (ae (au (tK (zT T) hr (aa 1) (ah (bM (xV T) hr (ah (aa 2) (ah (aw (aa 0) aj) (ah (aI bp bJ (aw (aa 0) aj) (aI cX fE (aw (aa 0) aj) (aw (aa 2) (aw (aa 0) aj)))) ao)))) ao))) ai) ai) (ae (aJ (dg hr (aa 3) az) (ae aQ ai) ai) (ae (aJ (dg hr (aa 3) az) (ae aQ ai) ai) (ae aQ ai))))))
theorem NG:Cl P base T "where_cell" 5 [false,false,false,false] zv:=fc [] CK (T.d 33 rfl) fun S hr=>(ae (au (bM (tD T) hr (ah (iT (Ir hr (bM (tD T) hr (ah (aa 0) (ah (aa 3) ao))) aj) (aa 1) (aa 2)) (ah (aa 3) ao)))) ai)
theorem M0:Cl P base T "cell_made" 6 [false,false,true,false] nj:=fc ["kind"] oK (T.d 34 rfl) fun S hr=>(ae (eG 4 S.nd (aw (aa 0) aj)) (ae (aJ (dg hr (aa 4) az) (ae aQ ai) ai) (ae (aJ (dg hr (aa 4) az) (ae (au (bM (Ez T) hr (ah (aw (aa 0) aj) (ah (tK (zT T) hr (bF 2 (aw (aa 0) aj)) (ah (aa 3) ao)) ao)))) ai) ai) (ae (aJ (dg hr (aa 4) az) (ae (au (bM (tu T) hr (ah (aw (aa 0) aj) (ah (bM (tD T) hr (ah (bF 2 (aw (aa 0) aj)) (ah (aa 3) ao))) (ah (bM (tD T) hr (ah (bF 2 (aw (aa 0) aj)) (ah (aa 3) ao))) ao))))) ai) ai) (ae (aJ (dg hr (aa 4) az) (ae (au (bM (NG T) hr (ah (bF 2 (aw (aa 0) aj)) (ah (bF 2 (aw (aa 0) aj)) (ah (bF 2 (aw (aa 0) aj)) (ah (aa 3) ao)))))) ai) ai) (ae (aJ (dg hr (aa 4) az) (ae aQ ai) ai) (ae (aJ (dg hr (aa 4) az) (ae aQ ai) ai) (ae (aJ (dg hr (aa 4) az) (ae aQ ai) ai) (ae (aJ (dg hr (aa 4) az) (ae (au (bM (Nw T) hr (ah (bF 2 (aw (aa 0) aj)) (ah (aw (aa 0) aj) (ah (aw (aa 0) aj) (ah (aw (aa 0) aj) (ah (aa 3) ao))))))) ai) ai) (ae (aJ (dg hr (aa 4) az) (ae aQ ai) ai) (ae (au (bM (Q1B T) hr (ah (aa 0) (ah (bF 2 (aw (aa 0) aj)) (ah (aa 3) ao))))) ai)))))))))))
theorem Es:Cl P base T "index_of" 2 [false,false] qS:=fc ["at","rest","stride","step"] yJ (T.d 35 rfl) fun S hr=>(ae (BG 2 S.nd (cv aK)) (ae (eG 3 S.nd (aa 1)) (ae (uf (dJ (bM (pU T) hr (ah (aa 0) ao))) (mZ 4 S.nd) (ae (eG 5 S.nd (j4 (kf rfl) zA rfl (T.b 9) boot_max (ar (aa 4) (ar aj aK)))) (ae (K3 2 (aI gH jf (aa 3) (aa 5))) (ae (eG 3 S.nd (aI cH eR (aa 3) (aa 5))) ai)))) (ae (au (yc (T.b 14) (gQ 2))) ai))))
theorem xR:Cl P base T "indexes_of" 3 [false] oV:=fc [] B5 (T.d 36 rfl) fun S hr=>(ae (au (PF.pv (vU 1 ["sides","place","?acc1"] (eD rfl (T.b 11) (ar (bM (pS T) hr (ah (aa 0) ao)) aK)) (fun nd=>(mZ 1 nd)) cf (bM (Es T) hr (ah (aa 0) (ah (aa 1) ao)))))) ai)
theorem Nu:Cl P base T "run_cells" 3 [false,false,false] zl:=fc ["stride","cells","place","number","begins"] Cy (T.d 37 rfl) fun S hr=>(ae (eG 3 S.nd (aw (bM (pU T) hr (ah (aG (T.f 18) (PV.rd (aa 1))) ao)) (aa 2))) (ae (BG 4 S.nd (cv aK)) (ae (uf (jz rfl (T.b 4) (ar (aG (T.f 1) (PV.rd (aa 1))) aK)) (et rfl (lu 5 S.nd (lu 6 S.nd cJ))) (ae (eG 7 S.nd (ej (mS hr.units) rf (aw (bM (Es T) hr (ah (aG (T.f 18) (PV.rd (aa 1))) (ah (aa 5) ao))) (aa 2)) aj (b9 _))) (ae (K3 4 (iT (aX (aa 7)) (aa 6) (bM (tu T) hr (ah (aa 0) (ah (bF 4 (aI cB eA (aa 5) (aa 3))) (ah (aa 6) ao)))))) ai))) (ae (l9 (i:=4) (au (aa 4))) ai))))
theorem Q0q:Cl P base T "table_made" 7 [false,false,true,false] qX:=fc [] uM (T.d 38 rfl) fun S hr=>(ae (aJ (dg hr (aw (aa 0) aj) az) (ae (au (PF.pv (x6 (vM T) hr (ah (aa 1) (ah (aG (T.f 1) (PV.rd (aw (aa 3) (aw (aa 0) aj)))) ao))))) ai) ai) (ae (aJ (dg hr (aw (aa 0) aj) az) (ae (au (PF.pv (x6 (vM T) hr (ah (aa 1) (ah (bM (Nu T) hr (ah (aw (aa 0) aj) (ah (bF 2 (aw (aa 0) aj)) (ah (aw (aa 0) aj) ao)))) ao))))) ai) ai) (ae (au (PF.pv (x6 (vM T) hr (ah (aa 1) (ah (PF.pv (vU 1 ["line","sides","made","tables","at","?acc4"] (dJ (bM (xR T) hr (ah (aa 1) ao))) (fun nd=>(mZ 4 nd)) cf (bM (M0 T) hr (ah (aa 0) (ah (aa 1) (gP 2 (ah (aa 4) ao))))))) ao))))) ai)))
theorem EE:Cl P base T "wanted_lines" 2 [false] qY:=fc ["wanted","at","named"] CI (T.d 39 rfl) fun S hr=>(ae (uh 1 1 S.nd rfl (Or.inl rfl) rfl (N':=["program","wanted","at","named","line","?acc4"]) ⟨rfl,by kernel_rfl⟩ rfl (dJ (aa 0)) hJ (k8 (by kernel_rfl)) (fun C s H ex=>(mZ 4 (Po ["program","wanted","at","named","line","?acc4"]))) (fun C s H ex _=>cf) (fun C s H ex _=>j3)) (ae (iW 1 (aI cB eA (d8 (T.b 7) (PV.rd (aa 0))) aj) j3) (ae (uf (JD rfl (T.b 11) (ar (aI cB eA (d8 (T.b 7) (PV.rd (aa 0))) aj) (ar (lZ jx gI aj) (ar (lZ jx gI aj) aK)))) (mZ 2 S.nd) (ae (aJ (aX (bF 1 (aa 2))) (ae (uf (dJ (bM (xS T) hr (ah (aw (aa 0) (aa 2)) ao))) (mZ 3 S.nd) (ae (iW 1 (aa 3) j3) ai)) ai) ai) ai)) (ae (l9 (i:=1) (au (aa 1))) ai))))
theorem Np:Cl P base T "plain_answer" 8 [false,false] uZ:=fc ["sides","wanted","made","at","line"] Cu (T.d 40 rfl) fun S hr=>(ae (eG 2 S.nd (bM (EC T) hr (ah (aa 0) (ah (PF.pv (vU 1 ["program","tables","sides","wanted","made","at","line","table","?acc7"] (dJ (aa 1)) (fun nd=>(mZ 7 nd)) cf (aG (T.f 18) (PV.rd (aa 7))))) ao)))) (ae (eG 3 S.nd (bM (EE T) hr (ah (aa 0) ao))) (ae (BG 4 S.nd (cv aK)) (ae (uf (jz rfl (T.b 4) (ar (aa 0) aK)) (et rfl (lu 5 S.nd (lu 6 S.nd cJ))) (ae (K3 4 (iT (aX (aw (aa 3) (aa 5))) (bM (Q0q T) hr (ah (aa 6) (ah (aw (aa 2) (aa 5)) (gP 4 (ah (aa 1) ao))))) iu)) ai)) (ae (au (bF 4 (lZ jx gI aj))) ai)))))
theorem Sa:m9 P base T "Plan" "__init__" false 1 [true,false,false,false] LJ:=fm [] Qe (T.m 2 rfl) fun S hr=>(ae (bz 0 (T.f 9) (PF.pv (jt rfl (T.b 8) GC (PV.rd (aa 1))))) (ae (bz 0 (T.f 15) (z9 rfl (T.b 3) VS.boot_dict (aa 2))) (ae (bz 0 (T.f 7) (PF.pv (jt rfl (T.b 8) GC (PV.rd (aa 3))))) ai)))
theorem NA:Cl P base T "spreads" 1 [false,false,false,false] zq:=fc [] yN (T.d 41 rfl) fun S hr=>(ae (au (jZ (ej iP (Ds false) (aw (aw (aa 0) (aa 2)) aj) (cZ (ar az (ar az (ar az aK)))) (by with_unfolding_all rfl)) (jv (ej (xZ hr.units) Du (aw (aa 1) (aa 2)) (aw (aa 1) (aa 3)) (b9 _))))) ai)
theorem M4:Cl P base T "is_kept" 2 [false,false,false,false] y4:=fc ["kind"] B6 (T.d 42 rfl) fun S hr=>(ae (eG 4 S.nd (aw (aw (aa 0) (aa 2)) aj)) (ae (aJ (qp.pb (jX (dg hr (aa 2) (aI cB eA (d8 (T.b 7) (PV.rd (aa 0))) aj)) (jq (fL iP (Ds false) (aa 4) (cZ (ar az (ar az (ar az (ar az aK))))) (by with_unfolding_all rfl))))) (ae (au j3) ai) ai) (ae (aJ (aX (dC (qP rfl) (mG false) rfl (T.b 1) VS.boot_any (PV.rd (PF.pv (vU 1 ["program","sides","at","naming","kind","number","?acc5"] (dJ (aa 3)) (fun nd=>(mZ 5 nd)) cf (ej iP (Ds false) (aw (aw (aa 0) (aa 5)) aj) (cZ (ar az (ar az aK))) (by with_unfolding_all rfl))))))) (ae (au j3) ai) ai) (ae (aJ (dg hr (aa 4) az) (ae aQ ai) ai) (ae (au (KR (ej vN Dr (d8 (T.b 7) (PV.rd (aa 3))) aj (b9 _)) (jv (dC (qP rfl) (mG false) rfl (T.b 1) VS.boot_any (PV.rd (PF.pv (vU 1 ["program","sides","at","naming","kind","number","?acc5"] (dJ (aa 3)) (fun nd=>(mZ 5 nd)) cf (bM (NA T) hr (ah (aa 0) (ah (aa 1) (ah (aa 5) (ah (aa 2) ao)))))))))))) ai)))))
theorem Ng:Cl P base T "naming_lines" 2 [false,false,false] zc:=fc ["naming","number","line"] Cj (T.d 43 rfl) fun S hr=>(ae (BG 3 S.nd (cv aK)) (ae (uf (jz rfl (T.b 4) (ar (aa 0) aK)) (et rfl (lu 4 S.nd (lu 5 S.nd cJ))) (ae (aJ (aX (aw (aa 1) (aa 4))) (ae (OP 3 (vU 1 ["program","wanted","at","naming","number","line","named","?acc6"] (dJ (bM (xS T) hr (ah (aa 5) ao))) (fun nd=>(mZ 6 nd)) (lY (dg hr (aa 6) (aa 2))) (aa 4)) (hpe:=fun ho ha=>KN PySem.F.plainAttrs_list PySem.F.slot_list_extend PySem.F.type_list_extend Q1q ho ha)) ai) ai) ai)) (ae (l9 (i:=3) (au (aa 3))) ai)))
theorem M5:Cl P base T "kept_lines" 3 [false,false] uT:=fc ["wanted","kept","at","line"] B7 (T.d 44 rfl) fun S hr=>(ae (eG 2 S.nd (bM (EE T) hr (ah (aa 0) ao))) (ae (BG 3 S.nd (cv aK)) (ae (uf (jz rfl (T.b 4) (ar (aa 0) aK)) (et rfl (lu 4 S.nd (lu 5 S.nd cJ))) (ae (K3 3 (jZ (aw (aa 2) (aa 4)) (jv (bM (M4 T) hr (ah (aa 0) (ah (aa 1) (ah (aa 4) (ah (bM (Ng T) hr (ah (aa 0) (ah (aa 2) (ah (aa 4) ao)))) ao)))))))) ai)) (ae (l9 (i:=3) (au (aa 3))) ai))))
theorem Na:Cl P base T "lengths_of" 2 [false,false] y9:=fc ["lengths","loop","row"] Cf (T.d 45 rfl) fun S hr=>(ae (uh 1 2 S.nd rfl (Or.inl rfl) rfl (N':=["loops","row_of","lengths","loop","?4","row","?acc5"]) ⟨rfl,by kernel_rfl⟩ rfl (eD rfl (T.b 11) (ar (aI bp bJ (IP rfl rfl (T.b 9) boot_max (aa 1)) aj) aK)) hJ (k8 (by kernel_rfl)) (fun C s H ex=>(mZ 5 (Po ["loops","row_of","lengths","loop","?4","row","?acc5"]))) (fun C s H ex _=>cf) (fun C s H ex _=>aj)) (ae (uf (dJ (aa 0)) (mZ 3 S.nd) (ae (eG 4 S.nd (tO (aa 1) (aG (T.f 8) (PV.rd (aa 3))))) (ae (iW 2 (aa 4) (j4 (kf rfl) zA rfl (T.b 9) boot_max (ar (bF 2 (aa 4)) (ar (bM (pS T) hr (ah (aG (T.f 18) (PV.rd (aa 3))) ao)) aK)))) ai))) (ae (l9 (i:=2) (au (aa 2))) ai)))
theorem Ep:m9 P base T "Loop" "__init__" true 1 [true,false,false] G0:=fm [] Qc (T.m 3 rfl) fun S hr=>(ae (bz 0 (T.f 8) (aa 1)) (ae (bz 0 (T.f 18) (aa 2)) ai))
theorem R7:m9 P base T "Fill" "__init__" false 2 [true,false,false,false] LG:=fm [] Qa (T.m 4 rfl) fun S hr=>(ae (ug (Wh (Ep T) hr (gP 0 (ah (aa 1) (ah (aa 2) ao))))) (ae (bz 0 (T.f 23) (aa 3)) ai))
theorem Q0x:m9 P base T "Load" "__init__" false 2 [true,false,false,false] LH:=fm [] Qb (T.m 5 rfl) fun S hr=>(ae (ug (Wh (Ep T) hr (gP 0 (ah (aa 1) (ah (aa 2) ao))))) (ae (bz 0 (T.f 22) (aa 3)) ai))
theorem Sd:m9 P base T "Through" "__init__" false 2 [true,false,false,false,false,false] LM:=fm [] Qg (T.m 6 rfl) fun S hr=>(ae (ug (Wh (Ep T) hr (gP 0 (ah (aa 1) (ah (aa 2) ao))))) (ae (bz 0 (T.f 17) (aa 3)) (ae (bz 0 (T.f 2) (aa 4)) (ae (bz 0 (T.f 23) (aa 5)) ai))))
theorem MU:m9 P base T "Weaver" "__init__" false 1 [true,false,false,false,false] C8:=fm [] JR (T.m 7 rfl) fun S hr=>(ae (bz 0 (T.f 13) (aa 1)) (ae (bz 0 (T.f 18) (aa 2)) (ae (bz 0 (T.f 5) (aa 3)) (ae (bz 0 (T.f 10) (aa 4)) ai))))
theorem R6:m9 P base T "Both" "__init__" false 1 [true,false,false,false] LF:=fm [] P9 (T.m 8 rfl) fun S hr=>(ae (bz 0 (T.f 2) (aa 1)) (ae (bz 0 (T.f 6) (aa 2)) (ae (bz 0 (T.f 14) (aa 3)) ai)))
theorem R9:m9 P base T "One" "__init__" false 1 [true,false,false] LI:=fm [] Qd (T.m 9 rfl) fun S hr=>(ae (bz 0 (T.f 2) (aa 1)) (ae (bz 0 (T.f 4) (aa 2)) ai))
theorem Sb:m9 P base T "Read" "__init__" false 1 [true,false,false,false] LK:=fm [] Qf (T.m 10 rfl) fun S hr=>(ae (bz 0 (T.f 8) (aa 1)) (ae (bz 0 (T.f 20) (aa 2)) (ae (bz 0 (T.f 21) (aa 3)) ai)))
theorem Nr:Cl P base T "reading_by" 1 [false,false,false] u5:=fc ["start","steps","part","stride"] yL (T.d 46 rfl) fun S hr=>(ae (eG 3 S.nd aj) (ae (uh 1 4 S.nd rfl (Or.inl rfl) rfl (N':=["way","strides","many","start","steps","part","stride","index","?acc7"]) ⟨rfl,by kernel_rfl⟩ rfl (eD rfl (T.b 11) (ar (aa 2) aK)) hJ (k8 (by kernel_rfl)) (fun C s H ex=>(mZ 7 (Po ["way","strides","many","start","steps","part","stride","index","?acc7"]))) (fun C s H ex _=>cf) (fun C s H ex _=>aj)) (ae (uf (j8 rfl (T.b 15) (ar (aa 0) (ar (aa 1) aK))) (et rfl (lu 5 S.nd (lu 6 S.nd cJ))) (ae (eG 3 S.nd (aI bp bJ (aa 3) (aI cX fE (aw (aa 5) aj) (aa 6)))) (ae (aJ (Ir hr (aw (aa 5) aj) (lZ jx gI aj)) (ae (iW 4 (aw (aa 5) aj) (aI bp bJ (bF 4 (aw (aa 5) aj)) (aI cX fE (aw (aa 5) aj) (aa 6)))) ai) ai) ai))) (ae (au (cZ (ar (aa 3) (ar (yc (T.b 14) (gQ 4)) aK)))) ai))))
theorem MV:m9 P base T "Weaver" "row_read" false 3 [false,false,false,false] yV:=fm ["reading"] BX (T.m 11 rfl) fun S hr=>(ae (eG 4 S.nd (bM (Nr T) hr (ah (aa 2) (ah (bM (pU T) hr (ah (aa 3) ao)) (ah (aG (T.f 10) (PV.rd (aa 0))) ao))))) (ae (au (PF.pv (x6 (Sb T) hr (ah (aa 1) (ah (aw (aa 4) aj) (ah (aw (aa 4) aj) ao)))))) ai))
theorem MZ:m9 P base T "Within" "__init__" false 1 [true,false,false,false,false] Df:=fm [] JT (T.m 12 rfl) fun S hr=>(ae (bz 0 (T.f 12) (aa 1)) (ae (bz 0 (T.f 19) (aa 2)) (ae (bz 0 (T.f 4) (aa 3)) (ae (bz 0 (T.f 11) (aa 4)) ai))))
theorem EA:Cl P base T "part_standing" 1 [false] Di:=fc [] JY (T.d 47 rfl) fun S hr=>(ae (au (cZ (ar (aa 0) (ar (lZ jx gI aj) (ar aj aK))))) ai)
theorem Q1r:Cl P base T "part_moved" 2 [false,false,false] zg:=fc ["first"] Cp (T.d 48 rfl) fun S hr=>(ae (eG 3 S.nd (aI bp bJ (aa 1) (aI cX fE (aa 2) (aw (aa 0) aj)))) (ae (aJ (dg hr (aI cX fE (aa 2) (aw (aa 0) aj)) aj) (ae (au (bM (EA T) hr (ah (aa 3) ao))) ai) ai) (ae (au (cZ (ar (aa 3) (ar (aw (aa 0) aj) (ar (aI cX fE (aa 2) (aw (aa 0) aj)) aK))))) ai)))
theorem EF:Cl P base T "way_moved" 3 [false,false,false,false] u9:=fc ["moved"] CJ (T.d 49 rfl) fun S hr=>(ae (BG 4 S.nd (jt rfl (T.b 8) GC (PV.rd (aa 0)))) (ae (iW 4 (aa 1) (bM (Q1r T) hr (ah (aw (aa 0) (aa 1)) (ah (aa 2) (ah (aa 3) ao))))) (ae (l9 (i:=4) (au (aa 4))) ai)))
theorem NF:Cl P base T "way_spread" 2 [false,false] Dj:=fc ["last"] J2 (T.d 50 rfl) fun S hr=>(ae (eG 2 S.nd (rG (aa 0) (ky (aI cB eA (d8 (T.b 7) (PV.rd (aa 0))) (d8 (T.b 7) (PV.rd (aa 1))))) kx)) (ae (au (PF.pv (vU 2 ["way","own","last","side","part","?acc3"] (j8 rfl (T.b 15) (ar (aa 1) (ar (aa 2) aK))) (fun nd=>(et rfl (lu 3 nd (lu 4 nd cJ)))) cf (iT (dg hr (aa 3) aj) (bM (EA T) hr (ah aj ao)) (aa 4))))) ai))
theorem MY:m9 P base T "Where" "__init__" false 1 [true,false,false,false] De:=fm [] JS (T.m 13 rfl) fun S hr=>(ae (bz 0 (T.f 0) (aa 1)) (ae (bz 0 (T.f 6) (aa 2)) (ae (bz 0 (T.f 14) (aa 3)) ai)))
def OY(P:Program)(base:Heap){w:World}{K:Frag}{mg:MG}{a:Gu}(T:Txt L w K mg a)(n:Nat):Prop:=
 m9 P base T "Weaver" "tree_named" false (3+n) [false,false,false] (iB n 0) /\
 m9 P base T "Weaver" "tree_made" false (3+n) [false,false,false] (iB n 1) /\
 m9 P base T "Weaver" "tree_viewed" false (3+n) [false,false,false] (iB n 2) /\
 m9 P base T "Weaver" "tree_spread" false (3+n) [false,false,false] (iB n 3) /\
 m9 P base T "Weaver" "tree_shifted" false (3+n) [false,false,false,false,false,false] (iB n 4)
theorem Q10{n:Nat}(ih:OY P base T n):m9 P base T "Weaver" "tree_named" false (3+n+1) [false,false,false] (iB (n+1) 0):=by obtain⟨jV,pq,pA,jh,pz⟩:=ih;exact fm [] (uI (iB n)) (T.m 14 rfl) fun S hr=>(ae (aJ (aX (aw (aG (T.f 5) (PV.rd (aa 0))) (aa 1))) (ae (au (tK (MV T) hr (aa 0) (ah (aa 1) (ah (aa 2) (ah (aw (aG (T.f 18) (PV.rd (aa 0))) (aa 1)) ao))))) ai) ai) (ae (au (tK pq hr (aa 0) (ah (aa 1) (ah (aa 2) ao)))) ai))
theorem Ow{n:Nat}(ih:OY P base T n):m9 P base T "Weaver" "tree_made" false (3+n+1) [false,false,false] (iB (n+1) 1):=by obtain⟨jV,pq,pA,jh,pz⟩:=ih;exact fm ["line","kind"] (nh (iB n)) (T.m 15 rfl) fun S hr=>(ae (eG 3 S.nd (aw (aG (T.f 13) (PV.rd (aa 0))) (aa 1))) (ae (eG 4 S.nd (aw (aa 3) aj)) (ae (aJ (dg hr (aa 4) az) (ae aQ ai) ai) (ae (aJ (dg hr (aa 4) az) (ae (au (PF.pv (x6 (R9 T) hr (ah (aw (aa 3) aj) (ah (tK jV hr (aa 0) (ah (aw (aa 3) aj) (ah (aa 2) ao))) ao))))) ai) ai) (ae (aJ (dg hr (aa 4) az) (ae (au (PF.pv (x6 (R6 T) hr (ah (aw (aa 3) aj) (ah (tK jh hr (aa 0) (ah (aw (aa 3) aj) (ah (aa 2) ao))) (ah (tK jh hr (aa 0) (ah (aw (aa 3) aj) (ah (aa 2) ao))) ao)))))) ai) ai) (ae (aJ (dg hr (aa 4) az) (ae (au (PF.pv (x6 (MY T) hr (ah (tK jh hr (aa 0) (ah (aw (aa 3) aj) (ah (aa 2) ao))) (ah (tK jh hr (aa 0) (ah (aw (aa 3) aj) (ah (aa 2) ao))) (ah (tK jh hr (aa 0) (ah (aw (aa 3) aj) (ah (aa 2) ao))) ao)))))) ai) ai) (ae (aJ (dg hr (aa 4) az) (ae (au (tK pz hr (aa 0) (ah (aw (aa 3) aj) (ah (aw (aa 3) aj) (ah (aw (aa 3) aj) (ah (aw (aa 3) aj) (ah (aa 2) ao))))))) ai) ai) (ae (aJ (dg hr (aa 4) az) (ae aQ ai) ai) (ae (aJ (dg hr (aa 4) az) (ae aQ ai) ai) (ae (au (tK pA hr (aa 0) (ah (aa 3) (ah (aa 2) ao)))) ai))))))))))
theorem OA{n:Nat}(ih:OY P base T n):m9 P base T "Weaver" "tree_viewed" false (3+n+1) [false,false,false] (iB (n+1) 2):=by obtain⟨jV,pq,pA,jh,pz⟩:=ih;exact fm ["kind"] (yI (iB n)) (T.m 16 rfl) fun S hr=>(ae (eG 3 S.nd (aw (aa 1) aj)) (ae (aJ (dg hr (aa 3) az) (ae aQ ai) ai) (ae (aJ (dg hr (aa 3) az) (ae (au (tK jV hr (aa 0) (ah (aw (aa 1) aj) (ah (bM (EF T) hr (ah (aa 2) (ah (aw (aa 1) aj) (ah (aw (aa 1) aj) (ah (aw (aa 1) aj) ao))))) ao)))) ai) ai) (ae (aJ (dg hr (aa 3) az) (ae aQ ai) ai) (ae (aJ (dg hr (aa 3) az) (ae aQ ai) ai) (ae aQ ai))))))
theorem Oz{n:Nat}(ih:OY P base T n):m9 P base T "Weaver" "tree_spread" false (3+n+1) [false,false,false] (iB (n+1) 3):=by obtain⟨jV,pq,pA,jh,pz⟩:=ih;exact fm [] (yH (iB n)) (T.m 17 rfl) fun S hr=>(ae (au (tK jV hr (aa 0) (ah (aa 1) (ah (bM (NF T) hr (ah (aa 2) (ah (aw (aG (T.f 18) (PV.rd (aa 0))) (aa 1)) ao))) ao)))) ai)
theorem Oy{n:Nat}(ih:OY P base T n):m9 P base T "Weaver" "tree_shifted" false (3+n+1) [false,false,false,false,false,false] (iB (n+1) 4):=by obtain⟨jV,pq,pA,jh,pz⟩:=ih;exact fm ["moved"] (yG (iB n)) (T.m 18 rfl) fun S hr=>(ae (eG 6 S.nd (bM (EF T) hr (ah (aa 5) (ah (aa 2) (ah (lZ jx gI (aa 3)) (ah aj ao)))))) (ae (au (PF.pv (x6 (MZ T) hr (ah (aw (aa 6) (aa 2)) (ah (aw (aw (aG (T.f 18) (PV.rd (aa 0))) (aa 1)) (aa 2)) (ah (tK jV hr (aa 0) (ah (aa 1) (ah (aa 6) ao))) (ah (aa 4) ao))))))) ai))
theorem oJ:∀n,OY P base T n|0=>⟨⟨_,_,_,_,_,_,(T.m 14 rfl),q8 rfl⟩,⟨_,_,_,_,_,_,(T.m 15 rfl),q8 rfl⟩,⟨_,_,_,_,_,_,(T.m 16 rfl),q8 rfl⟩,⟨_,_,_,_,_,_,(T.m 17 rfl),q8 rfl⟩,⟨_,_,_,_,_,_,(T.m 18 rfl),q8 rfl⟩⟩|n+1=>⟨Q10 T (oJ n),Ow T (oJ n),OA T (oJ n),Oz T (oJ n),Oy T (oJ n)⟩
theorem MX:m9 P base T "Weaver" "tree_named" false 183 [false,false,false] Dd:=(oJ T 180).1
theorem Q1L:m9 P base T "Weaver" "tree_made" false 183 [false,false,false] C9:=(oJ T 180).2.1
theorem ED:Cl P base T "straight_way" 1 [false] zr:=fc [] J1 (T.d 51 rfl) fun S hr=>(ae (au (PF.pv (vU 1 ["many","at","?acc1"] (eD rfl (T.b 11) (ar (aa 0) aK)) (fun nd=>(mZ 1 nd)) cf (cZ (ar aj (ar (aa 1) (ar aj aK))))))) ai)
theorem Q0G:Cl P base T "loop_of" 184 [false,false,false,false] oZ:=fc ["line","own","kind","inner","tree","weaver"] uK (T.d 52 rfl) fun S hr=>(ae (eG 4 S.nd (aw (aa 0) (aa 3))) (ae (eG 5 S.nd (aw (aa 1) (aa 3))) (ae (eG 6 S.nd (aw (aa 4) aj)) (ae (aJ (dg hr (aa 6) az) (ae (au (PF.pv (x6 (Q0x T) hr (ah (aa 3) (ah (aa 5) (ah (aw (aa 4) aj) ao)))))) ai) ai) (ae (aJ (dg hr (aa 6) az) (ae aQ ai) ai) (ae (aJ (dg hr (aa 6) az) (JG) ai) (ae (eG 9 S.nd (PF.pv (x6 (MU T) hr (ah (aa 0) (ah (aa 1) (ah (aa 2) (ah (d8 (T.b 7) (PV.rd (aa 5))) ao))))))) (ae (aJ (dg hr (aa 6) az) (ae (au (PF.pv (x6 (Sd T) hr (ah (aa 3) (ah (aa 5) (ah (aw (aa 4) aj) (ah (aw (aa 4) aj) (ah (tK (MX T) hr (aa 9) (ah (aw (aa 4) aj) (ah (bM (ED T) hr (ah (d8 (T.b 7) (PV.rd (aa 5))) ao)) ao))) ao)))))))) ai) ai) (ae (au (PF.pv (x6 (R7 T) hr (ah (aa 3) (ah (aa 5) (ah (tK (Q1L T) hr (aa 9) (ah (aa 3) (ah (bM (ED T) hr (ah (d8 (T.b 7) (PV.rd (aa 5))) ao)) ao))) ao)))))) ai)))))))))
def W5(P:Program)(base:Heap){w:World}{K:Frag}{mg:MG}{a:Gu}(T:Txt L w K mg a)(n:Nat):Prop:=Cl P base T "lines_read_in" (0+n) [false] (wU n 0)
theorem OB{n:Nat}(ih:W5 P base T n):Cl P base T "lines_read_in" (0+n+1) [false] (wU (n+1) 0):=by have mI:=ih;exact fc [] (jB (wU n)) (T.d 53 rfl) fun S hr=>(ae (aJ (aX (cg (T.i 8) rfl (T.b 6) rfl (PV.rd (aa 0)))) (ae (au (PF.pv (cv (ar (aG (T.f 8) (PV.rd (aa 0))) aK)))) ai) ai) (ae (aJ (aX (IM (T.j 0) rfl (T.b 6) (PV.rd (aa 0)))) (ae (au (bM mI hr (ah (aG (T.f 4) (PV.rd (aa 0))) ao))) ai) ai) (ae (aJ (aX (cg (T.i 0) rfl (T.b 6) rfl (PV.rd (aa 0)))) (ae (au (aI bp bJ (bM mI hr (ah (aG (T.f 6) (PV.rd (aa 0))) ao)) (bM mI hr (ah (aG (T.f 14) (PV.rd (aa 0))) ao)))) ai) ai) (ae (aJ (aX (cg (T.i 10) rfl (T.b 6) rfl (PV.rd (aa 0)))) (ae (au (aI bp bJ (aI bp bJ (bM mI hr (ah (aG (T.f 0) (PV.rd (aa 0))) ao)) (bM mI hr (ah (aG (T.f 6) (PV.rd (aa 0))) ao))) (bM mI hr (ah (aG (T.f 14) (PV.rd (aa 0))) ao)))) ai) ai) (ae (aJ (aX (cg (T.i 4) rfl (T.b 6) rfl (PV.rd (aa 0)))) (ae aQ ai) ai) (ae (au (PF.pv (cv aK))) ai))))))
theorem JP:∀n,W5 P base T n|0=>⟨_,_,_,_,(T.d 53 rfl),q8 rfl⟩|n+1=>OB T (JP n)
theorem Nc:Cl P base T "lines_read_in" 180 [false] Dh:=(JP T 180)
theorem Q1O:Cl P base T "lines_read_by" 181 [false] qT:=fc [] Cg (T.d 54 rfl) fun S hr=>(ae (aJ (aX (cg (T.i 5) rfl (T.b 6) rfl (PV.rd (aa 0)))) (ae (au (PF.pv (cv aK))) ai) ai) (ae (aJ (aX (cg (T.i 7) rfl (T.b 6) rfl (PV.rd (aa 0)))) (ae aQ ai) ai) (ae (au (bM (Nc T) hr (ah (aG (T.f 23) (PV.rd (aa 0))) ao))) ai)))
theorem M9:Cl P base T "last_readings" 182 [false] y8:=fc ["last","at","loop","line"] Ce (T.d 55 rfl) fun S hr=>(ae (BG 1 S.nd zW) (ae (uf (jz rfl (T.b 4) (ar (aa 0) aK)) (et rfl (lu 2 S.nd (lu 3 S.nd cJ))) (ae (uf (dJ (bM (Q1O T) hr (ah (aa 3) ao))) (mZ 4 S.nd) (ae (Ap 1 (aa 4) (aa 2)) ai)) ai)) (ae (l9 (i:=1) (au (aa 1))) ai)))
theorem Nf:Cl P base T "lowest_beside" 1 [false] za:=fc ["row"] Ci (T.d 56 rfl) fun S hr=>(ae (eG 1 S.nd aj) (ae (FN PassesOwn.never (fL iP (Ds false) (aa 1) (aa 0) (by with_unfolding_all rfl)) (ae (eG 1 S.nd (aI bp bJ (aa 1) aj)) ai)) (ae (au (aa 1)) ai)))
theorem Nt:Cl P base T "rows_of" 183 [false] zk:=fc ["last","row_of","at","loop","needed"] Cw (T.d 57 rfl) fun S hr=>(ae (eG 1 S.nd (bM (M9 T) hr (ah (aa 0) ao))) (ae (BG 2 S.nd zW) (ae (uf (jz rfl (T.b 4) (ar (aa 0) aK)) (et rfl (lu 3 S.nd (lu 4 S.nd cJ))) (ae (JF 1 5 S.nd rfl (Or.inl rfl) rfl (N':=["loops","last","row_of","at","loop","needed","line","?acc6"]) ⟨rfl,by kernel_rfl⟩ rfl (Q1Z (aa 2)) hJ (k8 (by kernel_rfl)) (fun C s H ex=>(mZ 6 (Po ["loops","last","row_of","at","loop","needed","line","?acc6"]))) (fun C s H ex _=>(lY (fL KL Qy (tO (aa 1) (aa 6)) (aa 3) (b9 _)))) (fun C s H ex _=>(tO (aa 2) (aa 6)))) (ae (Ap 2 (aG (T.f 8) (PV.rd (aa 4))) (bM (Nf T) hr (ah (aa 5) ao))) ai))) (ae (l9 (i:=2) (au (aa 2))) ai))))
theorem Nq:Cl P base T "plan_of" 185 [false,false] u0:=fc ["sides","kept","loops","row_of"] Cv (T.d 58 rfl) fun S hr=>(ae (eG 2 S.nd (bM (EC T) hr (ah (aa 0) (ah (aa 1) ao)))) (ae (eG 3 S.nd (bM (M5 T) hr (ah (aa 0) (ah (aa 2) ao)))) (ae (Aq 1 4 S.nd rfl (Or.inl rfl) rfl (N':=["program","given","sides","kept","loops","row_of","at","?acc6"]) ⟨rfl,by kernel_rfl⟩ rfl (eD rfl (T.b 11) (ar (d8 (T.b 7) (PV.rd (aa 0))) aK)) hJ (k8 (by kernel_rfl)) (fun C s H ex=>(mZ 6 (Po ["program","given","sides","kept","loops","row_of","at","?acc6"]))) (fun C s H ex _=>(lY (aX (aw (aa 3) (aa 6))))) (fun C s H ex _=>(bM (Q0G T) hr (ah (aa 0) (ah (aa 2) (ah (aa 3) (ah (aa 6) ao))))))) (ae (eG 5 S.nd (bM (Nt T) hr (ah (aa 4) ao))) (ae (au (PF.pv (x6 (Sa T) hr (ah (aa 4) (ah (aa 5) (ah (bM (Na T) hr (ah (aa 4) (ah (aa 5) ao))) ao)))))) ai)))))
include T in
theorem EH:cj P w K mg base jG 1 (a.g 19) (a.e 19) ["self","plan"] (Wu K mg qh):=(T.m 19 rfl).fu.ok (N:=["self","plan"]) KU (fun _ _ _ _ h=>h.1) fun gV A outer s H vs Q E hr h=>⟨_,iR (pY (wv 0) (Sr (z9 rfl (T.b 3) VS.boot_dict (aG (T.f 15) (PV.rd (aa 1))))) rfl) (iR (pY (wv 0) (Q1x (N':=["self","plan","length","?acc2"]) (g:=MB 2) (te:=Ak K 2) 1 rfl ⟨rfl,by kernel_rfl⟩ rfl (zZ (Sr (aG (T.f 7) (PV.rd (aa 1))))) (fun _ _ _ _=>ku (i:=2) (show (["self","plan","length","?acc2"]:Ut).Nodup by decide +kernel) rfl (Or.inl rfl)) (fun _ _ _ _=>KO zV (EO (bC tJ cY)) (wv 2))) rfl) (iR (pY (wv 0) tJ rfl) tL)),Hf (EX:=kA) h (T.f 15) (T.f 16) (T.f 3) (by decide) (by decide) (by decide) (by decide) (by decide)⟩
include T in
theorem lW:∃qn st ps C fA fd,qo K mg "Work" "row_with" qn false st ps C fA fd/\cj P w K mg base jG 1 fA fd ps (SM K mg):=⟨_,_,_,_,_,_,(T.m 20 rfl),(T.m 20 rfl).fu.ok (N:=["self","line"]) KU (fun _ _ _ _ h=>h.1) fun gV A outer s H vs Q E hr h=>⟨_,II (ya (vS pE (wf (wv 0)) (vQ (wf (wv 0)) (wv 1) (by intro _ _;rfl)) (by intro _ _;rfl))),Ob h (T.f 16) (T.f 15) (by decide) (by decide)⟩⟩
theorem Nh:Cl P base T "number_by" 1 [false,false] zd:=fc [] Ck (T.d 59 rfl) fun S hr=>(ae (aJ (dg hr (aw (aa 0) aj) (lZ jx gI aj)) (ae (au (aw (aa 0) aj)) ai) ai) (ae (au (aI bp bJ (aw (aa 0) aj) (aI cX fE (aw (aa 0) aj) (aw (aa 1) (aw (aa 0) aj))))) ai))
theorem Nl:Cl P base T "place_read" 1 [false,false,false] zi:=fc [] Cr (T.d 60 rfl) fun S hr=>(ae (au (aI bp bJ (aa 0) (dC (uO rfl) Kh rfl (T.b 13) boot_sum (PV.rd (PF.pv (vU 2 ["start","steps","at","step","number","?acc3"] (j8 rfl (T.b 15) (ar (aa 1) (ar (aa 2) aK))) (fun nd=>(et rfl (lu 3 nd (lu 4 nd cJ)))) cf (aI cX fE (aa 3) (aa 4)))))))) ai)
include T in
theorem uD:∀n,∃qn st ps C fA fd,qo K mg "Work" "number_of" qn false st ps C fA fd/\cj P w K mg base jG (2+n) fA fd ps (Jq K mg 3 (c6 n))|0=>⟨_,_,_,_,_,_,(T.m 21 rfl),⟨fun _ _ _ _ h=>h.1,fun _ _ _ _ _ _ _ _ _ _ _ _ _ h=>by obtain⟨_,_,_,_,_,_,_,_,_,_,_,_,e,_⟩:=h;cases e⟩⟩|n+1=>have ih:=uD n;FP (k:=2+n) (rs:=5) ["self","tree","at","asked","inside"] (fS (c6 n)) (T.m 21 rfl) fun S hr=>(aV (kR (aX (cg (T.i 8) rfl (T.b 6) rfl (PV.rd (aa 1)))) (aV (m7 (OT (lW T) hr (aG (T.f 8) (PV.rd (aa 1))) (bM (Nl T) hr (ah (aG (T.f 20) (PV.rd (aa 1))) (ah (aG (T.f 21) (PV.rd (aa 1))) (ah (aa 2) ao)))))) bP) bP) (aV (kR (aX (cg (T.i 1) rfl (T.b 6) rfl (PV.rd (aa 1)))) uq bP) (aV (kR (aX (cg (T.i 6) rfl (T.b 6) rfl (PV.rd (aa 1)))) (aV (uk (T.f 3)) (aV (m7 (w_call (Ez T) hr (a9 (bu (aG (T.f 2) (PV.rd (aa 1)))) (a9 (gy ih hr (a9 (bu (aG (T.f 4) (PV.rd (aa 1)))) (a9 (bu (aa 2)) dM))) dM)))) bP)) bP) (aV (kR (aX (cg (T.i 0) rfl (T.b 6) rfl (PV.rd (aa 1)))) (aV (uk (T.f 3)) (aV (m7 (w_call (tu T) hr (a9 (bu (aG (T.f 2) (PV.rd (aa 1)))) (a9 (gy ih hr (a9 (bu (aG (T.f 6) (PV.rd (aa 1)))) (a9 (bu (aa 2)) dM))) (a9 (gy ih hr (a9 (bu (aG (T.f 14) (PV.rd (aa 1)))) (a9 (bu (aa 2)) dM))) dM))))) bP)) bP) (aV (kR (aX (cg (T.i 10) rfl (T.b 6) rfl (PV.rd (aa 1)))) (aV (uk (T.f 3)) (aV (m8 3 S.nd (gy ih hr (a9 (bu (aG (T.f 0) (PV.rd (aa 1)))) (a9 (bu (aa 2)) dM)))) (aV (m7 (gy ih hr (a9 (bu (iT (Ir hr (aa 3) aj) (aG (T.f 6) (PV.rd (aa 1))) (aG (T.f 14) (PV.rd (aa 1))))) (a9 (bu (aa 2)) dM)))) bP))) bP) (aV (kR (aX (cg (T.i 4) rfl (T.b 6) rfl (PV.rd (aa 1)))) uq bP) (aV (m8 4 S.nd (bu (gR gC kQ ph qv aj (bM (Nh T) hr (ah (aG (T.f 12) (PV.rd (aa 1))) (ah (aa 2) ao))) (aG (T.f 19) (PV.rd (aa 1)))))) (aV (m7 (Td (aX (aa 4)) (gy ih hr (a9 (bu (aG (T.f 4) (PV.rd (aa 1)))) (a9 (bu (aa 2)) dM))) (bu (aG (T.f 11) (PV.rd (aa 1)))))) bP))))))))
include T in
theorem zU:∃qn st ps C fA fd,qo K mg "Work" "number_of" qn false st ps C fA fd/\cj P w K mg base jG 182 fA fd ps (Jq K mg 3 jQ):=uD T 180
include T in
theorem Ib:∃qn st ps C fA fd,qo K mg "Work" "do_fill" qn false st ps C fA fd/\cj P w K mg base jG 183 fA fd ps (Jq K mg 2 yW):=FP (k:=182) (rs:=2) ["self","loop","row","place","at"] BY (T.m 22 rfl) fun S hr=>(aV (yy S.nd (lW T) hr (aG (T.f 8) (PV.rd (aa 1)))) (aV (um 3 4 S.nd (T.b 4) (bM (xR T) hr (ah (aG (T.f 18) (PV.rd (aa 1))) ao)) (aV (yx (gy (zU T) hr (a9 (bu (aG (T.f 23) (PV.rd (aa 1)))) (a9 (bu (aa 4)) dM))) (aa 3)) bP)) bP))
include T in
theorem Ic:∃qn st ps C fA fd,qo K mg "Work" "do_load" qn false st ps C fA fd/\cj P w K mg base jG 2 fA fd ps (Jq K mg 3 yX):=FP (k:=1) (rs:=3) ["self","loop","tables","row","place","number"] BZ (T.m 23 rfl) fun S hr=>(aV (yy S.nd (lW T) hr (aG (T.f 8) (PV.rd (aa 1)))) (aV (um 4 5 S.nd (T.b 4) (aG (T.f 1) (PV.rd (aw (aa 2) (aG (T.f 22) (PV.rd (aa 1)))))) (aV (yx (bu (aa 5)) (aa 4)) bP)) bP))
include T in
theorem Ig:∃qn st ps C fA fd,qo K mg "Work" "do_through" qn false st ps C fA fd/\cj P w K mg base jG 183 fA fd ps (Jq K mg 2 yY):=FP (k:=182) (rs:=2) ["self","loop","row","stride","place","at","number"] B0 (T.m 24 rfl) fun S hr=>(aV (yy S.nd (lW T) hr (aG (T.f 8) (PV.rd (aa 1)))) (aV (m8 3 S.nd (bu (aw (bM (pU T) hr (ah (aG (T.f 18) (PV.rd (aa 1))) ao)) (aG (T.f 17) (PV.rd (aa 1)))))) (aV (um 4 5 S.nd (T.b 4) (bM (xR T) hr (ah (aG (T.f 18) (PV.rd (aa 1))) ao)) (aV (m8 6 S.nd (gy (zU T) hr (a9 (bu (aG (T.f 23) (PV.rd (aa 1)))) (a9 (bu (aa 5)) dM)))) (aV (yx (Td (dg hr (aw (aa 5) (aG (T.f 17) (PV.rd (aa 1)))) aj) (bu (aa 6)) (w_call (tu T) hr (a9 (bu (aG (T.f 2) (PV.rd (aa 1)))) (a9 (w_get (aI cB eA (aa 4) (aa 3))) (a9 (bu (aa 6)) dM))))) (aa 4)) bP))) bP)))
include T in
theorem Ie:∃qn st ps C fA fd,qo K mg "Work" "do_loop" qn false st ps C fA fd/\cj P w K mg base jG 184 fA fd ps (Jq K mg 3 lI):=FP (k:=183) (rs:=3) ["self","loop","tables"] uJ (T.m 25 rfl) fun S hr=>(aV (kR (aX (cg (T.i 5) rfl (T.b 6) rfl (PV.rd (aa 1)))) (aV (uo (gy (Ic T) hr (a9 (bu (aa 1)) (a9 (bu (aa 2)) dM)))) bP) (aV (kR (aX (cg (T.i 2) rfl (T.b 6) rfl (PV.rd (aa 1)))) (aV (uo (gy (Ib T) hr (a9 (bu (aa 1)) dM))) bP) (aV (kR (aX (cg (T.i 3) rfl (T.b 6) rfl (PV.rd (aa 1)))) uq (aV (kR (aX (cg (T.i 7) rfl (T.b 6) rfl (PV.rd (aa 1)))) uq (aV (uo (gy (Ig T) hr (a9 (bu (aa 1)) dM))) bP)) bP)) bP)) bP)) bP)
theorem Q2J:Cl P base T "run_plan" 185 [false,false] zm:=⟨_,_,_,_,(T.d 61 rfl),(T.d 61 rfl).fu.ok (N:=["plan","tables","work","loop","last","cells"]) KU (fun _ _ _ _ h=>h.1) fun gV A outer s H vs Q E hr h=>⟨_,have S:c7 ["plan","tables","work","loop","last","cells"] ["plan","tables"] (aR (top 60)):=KU;iR (pZ S.nd rfl (Or.inl rfl) (Iy ((T.m 19 rfl).Um rfl) (EH T) (hr.mono (by decide)) rfl (T.m 19 rfl).gm (T.m 19 rfl).bi .nil rD (bC (wv 0) cY))) (aV (JK 3 S.nd (aG (T.f 9) (PV.rd (aa 0))) (aV (uo (gy (Ie T) hr (a9 (bu (aa 3)) (a9 (bu (aa 1)) dM)))) bP)) (aV (m8 4 S.nd (bu (aw (aG (T.f 9) (PV.rd (aa 0))) (lZ jx gI aj)))) (aV (m8 5 S.nd (Tc (lW T) hr (aG (T.f 8) (PV.rd (aa 4))) (bM (pS T) hr (ah (aG (T.f 18) (PV.rd (aa 4))) ao)))) (aV (m7 (Te (a9 (bu (PF.pv (x6 (vM T) hr (ah (aG (T.f 18) (PV.rd (aa 4))) (ah (aa 5) ao))))) (a9 (WQ (T.f 3)) dM)))) bP)))),Od (n:=3) rfl (T.m 19 rfl).gm h⟩⟩
include T in
theorem MT:cj P w K mg base jG 186 (a.f 62) (a.d 62) ["_law_script"] (oC K mg [false] C7):=fo ["_law_script","_law_row","_law_way","_law_seed","_law_many","_law_own","_law_last","_law_program","_law_k","_law_cell","_law_cells_here","_law_table","_law_plan","_law_found","_law_due"] yF (T.d 62 rfl) fun S hr=>(ae (BG 1 S.nd (cv (ar (aa 0) (ar aj aK)))) (ae (eG 2 S.nd (bM (tx T) hr (gP 1 (ah aj ao)))) (ae (eG 3 S.nd (bM (tx T) hr (gP 1 (ah aj ao)))) (ae (eG 4 S.nd (aI bp bJ aj (bM (tx T) hr (gP 1 (ah aj ao))))) (ae (eG 5 S.nd (cZ (ar (aI bp bJ aj (aI cH eR (aa 3) aj)) aK))) (ae (aJ (fL vN Dr (aa 2) aj (b9 _)) (ae (eG 4 S.nd (aI bp bJ aj (aI cH eR (aa 4) aj))) (ae (eG 5 S.nd (aw (PF.pv (cv (ar (cZ (ar (aI bp bJ aj (aI cH eR (aa 3) aj)) aK)) (ar (cZ (ar (aI bp bJ aj (aI cH eR (aa 3) aj)) (ar aj aK))) aK)))) (aI cB eA (aa 2) aj))) ai)) ai) (ae (eG 6 S.nd (aI cB eA (d8 (T.b 7) (PV.rd (aa 5))) aj)) (ae (BG 7 S.nd (cv (ar (cZ (ar az (ar aj aK))) aK))) (ae (uf (eD rfl (T.b 11) (ar (aI cB eA (aa 4) aj) aK)) (mZ 8 S.nd) (ae (eG 9 S.nd (aI bp bJ (bM (tx T) hr (gP 1 (ah (aI NI Q25 aj aj) ao))) (aI cX fE (aI cX fE (aa 3) (aI bp bJ (aa 8) aj)) aj))) (ae (K3 7 (bM (M7 T) hr (ah (aa 9) (ah (aI bp bJ (aa 8) aj) (ah (aw (aa 5) (aa 6)) (ah (aa 6) ao)))))) ai))) (ae (Aq 1 10 S.nd rfl (Or.inl rfl) rfl (N':=["_law_script","_law_row","_law_way","_law_seed","_law_many","_law_own","_law_last","_law_program","_law_k","_law_cell","_law_cells_here","_law_table","_law_plan","_law_found","_law_due","_law_p","?acc15"]) ⟨rfl,by kernel_rfl⟩ rfl (eD rfl (T.b 11) (ar (bM (M6 T) hr (ah (aa 5) ao)) aK)) hJ (k8 (by kernel_rfl)) (fun C s H ex=>(mZ 15 (Po ["_law_script","_law_row","_law_way","_law_seed","_law_many","_law_own","_law_last","_law_program","_law_k","_law_cell","_law_cells_here","_law_table","_law_plan","_law_found","_law_due","_law_p","?acc15"]))) (fun C s H ex _=>cf) (fun C s H ex _=>(aI cH eR (aI bp bJ (aa 3) (aI cX fE (aI cX fE aj (aa 15)) (aa 15))) aj))) (ae (eG 11 S.nd (PF.pv (x6 (vM T) hr (ah (aa 5) (ah (aa 10) ao))))) (ae (eG 12 S.nd (bM (Nq T) hr (ah (PF.pv (jt rfl (T.b 8) GC (gQ 7))) (ah (PF.pv (cv (ar (aa 5) aK))) ao)))) (ae (eG 13 S.nd (bM (Q2J T) hr (ah (aa 12) (ah (PF.pv (cv (ar (aa 11) aK))) ao)))) (ae (eG 14 S.nd (bM (Np T) hr (ah (PF.pv (jt rfl (T.b 8) GC (gQ 7))) (ah (PF.pv (cv (ar (aa 11) aK))) ao)))) (ae (aJ (qp.pb (jX (dI (aX (bM (M8 T) hr (ah (aa 13) ao)))) (jX (dI (aX (bM (Eu T) hr (ah (aw (aa 13) aj) (ah (aa 5) (ah (aG (T.f 1) (PV.rd (aa 14))) ao)))))) (jq (dI (aX (bM (Eu T) hr (ah (aa 11) (ah (aa 5) (ah (aa 10) ao)))))))))) (ae (au j3) ai) ai) (ae (au (jZ (ej gC ph (d8 (T.b 7) (PV.rd (aG (T.f 7) (PV.rd (aa 12))))) (d8 (T.b 7) (PV.rd (aG (T.f 9) (PV.rd (aa 12))))) (b9 _)) (jv (ej (mS hr.units) rf (aG (T.f 7) (PV.rd (aa 12))) (aI zV LV (PF.pv (cv (ar (d8 (T.b 7) (PV.rd (aa 10))) aK))) (d8 (T.b 7) (PV.rd (aG (T.f 7) (PV.rd (aa 12)))))) (b9 _))))) ai))))))))))))))))
end
end LW
end
section
set_option Elab.async false
set_option maxRecDepth 100000
set_option maxHeartbeats 4000000
namespace LW
open PySem PySem.Spec PyProof.Rows L2 VP VS
theorem bd:Ti L.d:=by repeat (first|exact True.intro|refine⟨by first|exact Xb|exact Xc|exact Xd|exact Xe|exact Xf|exact Xg|exact Xh,?_⟩)
theorem bm:Tj L.m:=by repeat (first|exact True.intro|refine⟨by first|exact Xb|exact Xc|exact Xd|exact Xe|exact Xf|exact Xg|exact Xh,?_⟩)
theorem MA{P:Program}{w:World}{K:Frag}{mg:MG}{base:Heap}{a:Gu}(T:Txt L w K mg a):cj P w K mg base jG 186 (a.f 62) (a.d 62) ["_law_script"] (Ww K):=(MT T).imp fun vs H Q E ⟨p,ns,e,hs,hl,q⟩=>by subst e;refine⟨rfl,H,[Z ns],aE.refl _,⟨.lst hs (aN.ints ns),trivial⟩,by simp[pB,dF],?_⟩;rw[Mz];exact fun F' H' v _ hv=>by cases hv;exact q H'
theorem all_mk{l:W.OpenLaw}{w:World}{K:Frag}{mg:MG}{fa:Addr}(YU:mg "law" = some (.ref fa))(E:∃a:Gu,Txt L w K mg a):PD l w K mg fa 186 "_law_script" := by obtain⟨a,T⟩:=E;have D:=T.d 62 rfl;have e:=YU.symm.trans D.mg;cases e;exact⟨_,D.Zw fun _ _ _ _ _ _ _ _=>.of_eq rfl,fun base=>MA T⟩
end LW
structure PySem.W.Fast:Prop where(tw1580319693354484852 tw8060303975694834343 tw1470735225852111428 tw5793013352263000783 tw6087999046478508905 tw2215951395168610682 tw13195794026618622256 tw8276273168692756010 tw16942064488241692527 tw9601092487595602025 tw11208315453024458304 tw2421970349688135549 tw2618083010548361014 tw13725120079083134804 tw1525467979171110476 tw16934309745869231049 tw11837329304240404743 tw1375833299495130282 tw15383682075693310318 tw4048591376733485695 tw4426467195526209025 tw17306967714693641223 tw6491501694564139426 tw7504507735018238557 tw7842500898770456111 tw9983955021175292144 tw12919506624808313075 tw16734677586845392741 tw1425348459421763282 tw6521917611861036972 tw7567960208738117855 tw9898213355175249272 tw6905476020549873124 tw1646204777328451254 tw9663812808319447182 tw14636717838897971985 tw1923334618835225924 tw18081948428779520634 tw8492352311196713791 tw6334960597805575610 tw4976463661826612988 tw282837348444129926 tw2801436865623222981 tw14989004650350759546 tw4034954119839922851 tw10293164741820824548 tw8371477721295908413 tw458406099984775015 tw860954014553026158 tw10362755305505709859 tw4261037990226902479 tw5628318804440121614 tw13286943659610076238 tw1760246061813084482 tw16719828146374420635 tw9499122945035810435 tw10080033136487930202 tw14283587756678730668 tw14380703900186455948 tw11856949358327295551 tw17195787982887949146 tw10892455235072576114 tw8059002683340998676 tw517672576561993489 tw11850171222484117608 tw2471684904516626369 tw915279036907552576 tw12557752580402885224 tw3397372876723511760 tw4251791193133993029 tw13113358693750440853 tw13373890790025123664 tw15494796752471165358 tw3017157623716998461 tw8536900199032939211 tw16873718717749485234 tw8969517719101373918 tw9292732804628123246 tw11969270941399388690 tw11300296002331787751 tw4324282426079387957 tw11078612707616264632 tw6365277427616911592 tw13290244019510009917 tw8959042929067298958 tw18182295263091456174 tw14594068829820167413 tw6726906499562594114 tw17655722146178093016 tw12548950988117339283 tw7934586795234739045 tw4074013358553937223 tw15916860539956903582 tw6010769670198078729 tw2306372759657989572 tw11121510539299093461 tw11473446277484463990 tw5362061037624991328 tw11526301427808533822 tw6060464288282625048 tw6387277379225539147 tw10007826113608215192 tw1758320342845908164 tw4681713990399058126 tw6906090709735219029 tw18310077175708453277 tw1607367689083324521 tw13679970511095605215 tw12937953351807354647 tw2440407370174411684 tw1293659940645238827 tw7024022766200100089 tw12220539260535408280 tw10307956260121154172 tw4047819623439960095 tw15446869276015166912 tw13935562090651888435 tw15350251600464440511 tw12176767970102675495 tw8926766248992220593 tw2172291170980725283 tw404901556291939633 tw461406866415554935 tw4022461171275376531 tw5177753182609333198 tw17043726003469737087 tw12286435695516777999 tw11118811446226512336 tw5035684629788179723 tw1557992330537344628 tw12510180287910993611 tw11912176304088166544 tw1597229847836015711 tw13870924927906840634 tw8342109645884722097 tw12699623368262583849 tw14054060401760900653 tw9018741114328228299 tw916599752123347499 tw11739444905697085911 tw4724757306222242289 tw13277387795037063918 tw7378426344330959242 tw11740143572377602694 tw6654732492087690190 tw1794590416674476062 tw18013401816315038656 tw2966532474230377359 tw8518373317751241792 tw2485327553554544583 tw1543173369043322814 tw1732048723949778881 tw9935980465891282768 tw5413901711945917440 tw2071154627320012636 tw14881473955950247922 tw5823491276034730217 tw13637836451259719395 tw2186530194649867890 tw14743742221817206866 tw5899899511214798276 tw7504927462953033199 tw3684312549932431973 tw11872568346417650911 tw4671174670133994472 tw13696042783787239825 tw6944397536945512964 tw17238346638934235693 tw3093722951242839286 tw1155908330833233084 tw288524215869700153 tw13915180598383733483 tw486264702885011030 tw1097874682345196033 tw5721388217547164636 tw14797526564321557630 tw12845972541533396377 tw2024504039641103006 tw4764921483787495522 tw780091035345740036 tw1970603216253475447 tw10134711372902739499 tw4809946863128264989 tw17978738178350048533 tw2803637810418684641 tw4670460600836293260 tw11141269555485754482 tw6031143648315204422 tw15994769428242209376 tw1198333179515801938 tw7806184057345725640 tw2999684212265981169 tw9807622131210685617 tw4551673113291437082 tw11386843548973842907 tw10765613870303143815 tw5988533287873910021 tw10703192226267522241 tw3737309058674748479 tw8624383118924602463 tw8706397905486389437 tw1483951653368505343 tw1787836078122217296 tw15807389125345263142 tw8378496943983680393 tw11420287518354923086 tw11823778203098281390 tw15687684948100626257 tw13373147368556648278 tw8464082392430943265 tw16927373192289292947 tw11837818685233646161 tw4764098671517322376 tw736752697979878533 tw11591961618108183900 tw16979128724533099497 tw9017523664583346907 tw7776246443294256117 tw5272816250077044984 tw1435362291394296130 tw11999376514149111717 tw7148788357274578986 tw4567090262953168732 tw10040104705780989955 tw9537758439921489277 tw1988940723592135806 tw2051044074028422213 tw17880568046192565255 tw12605956372369054926 tw9409068245970449514 tw18290142147049391016 tw18256465266660889501 tw17313014088578372597 tw1956738107477589281 tw16381465887236422020 tw1392341181595468065 tw12796817439279387765 tw9318947066016214460 tw11012033903932056481 tw2245045967374673320 tw2886391891539260587 tw3056026973518305843 tw10590750739744402561 tw6445807036296113856 tw16156554267563253076 tw8419611061428074782 tw14324238520965251808 tw279000631774562020 tw9927289929523058508 tw1696255707653170682 tw7840198831822687576 tw1778320190886314121 tw9527732500801730541 tw15691329249382027322 tw3710071063957707118 tw12802400168855506383 tw10310919515308935112 tw10810501654020240408 tw2215992124894564929 tw8617010170946517283 tw8021531824839810853 tw10440660395383607808 tw10930042015038729565 tw8014530423606363060 tw8803856079253620816 tw4052256036997698773 tw668439990212386357 tw13664838396344864446 tw14038784354137532661 tw6389865699905531737 tw6484369630670802501 tw13501652014394898168 tw6648914172988837918 tw14051821026819906175 tw7291564106583878068 tw11710145847537988365 tw1585612975045122031 tw1248023947432105651 tw9311687033229242012 tw14711711790155183574 tw1532767291311780323 tw7369792184385983679 tw514186423917113150 tw4369008732039195503 tw9443979833981054764 tw1945287961570897516 tw11141553761875265875 tw2732188063536730101 tw15440363440348048748 tw11629527766311522822 tw12162988197384034544 tw18289896666448236158 tw18229640306582764998 tw8699739366882681204 tw5468443950292532469 tw18244276834565605680 tw14493623711930297199 tw1324649144516731951 tw9204338507211203356 tw10734395329702318449 tw18394286169224689119 tw9677090773871526447 tw4606680048901518146 tw33359193965011587 tw7226165286546243218 tw8236582038276919848 tw3554274548117843226 tw4493952442103218970 tw1322380335993554345 tw12935712386494259597 tw8544412745564046917 tw14660815549861869610 tw6207691610826185878 tw3969629527667381776 tw3743554085813003156 tw10515645604275135263 tw7481258234716069840 tw16607321839441273974 tw10123356440061454812 tw15463501975696506586 tw5474734981197777426 tw4869117689232709454 tw7393504852555858014 tw7588715550502267600 tw3087790228004504266 tw9112767828620329107 tw12192193517756108982 tw357095362891255790 tw2870531824567804387 tw12471260214787956539 tw374851834110580262 tw17390274299093620976 tw8475904148290286783 tw18284214512039857855 tw9409799469265435124 tw5749387464964290194 tw17696962391170635192 tw15841561273770664883 tw10632556726061635007 tw16489100727566176174 tw11230643773991361627 tw7738809049145551825 tw13600639489243231438 tw6144402679876390830 tw7889402524092283101 tw8479006666651442970 tw9113728820773337443 tw5455091392792837551 tw7536921782765082223 tw16158817992717078722 tw985797612737069283 tw13103170504358334595 tw1040490247105898099 tw3040206892847310020 tw16118704344552718372 tw14572372508732704690 tw703969367005429073 tw2373631576764094126 tw16259408707579246134 tw2661470685694718221 tw3536109118650289884 tw5809306911013296828 tw6788760445831466677 tw14519086428457897271 tw16338932787960711559 tw7457074265560794472 tw5149774532252870806 tw10435089201370924053 tw18074252919685949964 tw18391595568547520575 tw5018066617665925903 tw1424297035083614952 tw631821646028419318 tw5359843834144437589 tw8577088128193757740 tw14389775360846995280 tw12659946732637517097 tw5365251144031580775 tw16799896451695703859 tw496677437152410173 tw1800079365648629740 tw6825891333375338130 tw3068089471551817900 tw13928515723959250787 tw188677955150922843 tw6462587834971416297 tw16127958214763585507 tw17861774653253928512 tw6647767651434314714 tw11880171619501572931 tw7637920064610320128 tw14600204672730068024 tw11732439482253072374 tw18036035765003975001 tw3129841172759223360 tw12780588502642529014 tw10776994763583635857 tw326973809887840098 tw17774487587927139387 tw13527210344935965007 tw3979796162022261133 tw8661594497900050984 tw10536713849024128879 tw2574682921863341360 tw17676065029721193031 tw14215391864149626854 tw11084480230320321779 tw3457376634731130301 tw10489358583283076789 tw10089949722067987171 tw10793676792573063651 tw397808585207568425 tw14320318549923494578 tw6121467191295693244 tw16481760088476870653 tw14669364815387588596 tw12301925688724743420 tw3605554359846140607 tw10537357445764173587 tw14082559801329150979 tw14368530952874408491 tw2232173013460926557 tw16794399476015583117 tw288988770123938466 tw1812710004395232381 tw7872558684746719141 tw15110399290030417150 tw8603459535443575492 tw4720608456804095724 tw10849601780867427646 tw2912773634177505650 tw6945025337206321109 tw14199926064335168334 tw8757835600926804521 tw1190912388072632131 tw16034307101205254963 tw899185911409941820 tw6222683266893227120 tw4445166929884687275 tw5205919947189452230 tw9533277832657471300 tw9250283687710651309 tw5150300522898680150 tw3831197382643331960 tw191359494397202702 tw1033039001419035248 tw4133596171414691463 tw626863331015532868 tw4604854510435379480 tw14602849304712397911 tw5712030393364221390 tw9440876687100242999 tw18018265422319950624 tw9912095904481946274 tw17870952709497998459 tw5762447769670363639 tw135208974930170587 tw16759156623089334972 tw14841614237153922249 tw6412072883771221297 tw6868130055873437924 tw8308104160910092831 tw2136966177202197266 tw8260571841945682738 tw13181478315805881917 tw17441250731208299923 tw9162175339485889399 tw4220184821184385866 tw3265734902195799354 tw11053942116668454786 tw1648729325952643579 tw10961815936713796767 tw1390513279787478453 tw13376764681996693031 tw6407442291509376289 tw18418473320661732641 tw15283469030736752011 tw3706919805997236615 tw559819623297723416 tw16594595429778927521 tw5516205123645816911 tw6250165332806913485 tw2140429298358261700 tw9831399368822765045 tw1957311832662180236 tw15256193322171291982 tw4641952397140216131 tw733568366516658103 tw13229067384388348559 tw8514092183471935373 tw11302922189399920625 tw11265160159724265154 tw603408009178117700 tw650247912004734926 tw14645229274547571456 tw15839990893439728655 tw2299081742135897833 tw16294476953889692620 tw5997533116993683773 tw11161202085402038774 tw12167109490982783466 tw18396827693024260144 tw14605490644143516030 tw737489872498117531 tw16748180622946403875 tw5697772784226824976 tw3836218054657756357 tw11664128900660895623 tw13497885635540371651 tw17320908105650497475 tw7071187440891128125 tw13655790964332471361 tw4628160180155583301 tw12469802055212619868 tw1220325440477699400 tw9207879765190835432 tw6267389848994132445 tw2258432032638860636 tw7045654369421156079 tw17311146040775521020 tw18389161683209536851 tw12487452467365862265 tw17954566355586315206 tw7386890072735009485 tw5435790045747961021 tw7582262454017831510 tw11649177225362584538 tw11821633420412664272 tw3366829546864860438 tw7159097831755205380 tw12757690358258444173 tw12275055115778974379 tw17046498776478311456 tw4042459379634716167 tw4138506268804537646 tw10665520386114840409 tw16392971423727576746 tw1563330324675673475 tw6378383309050094053 tw9162656885381393887 tw17198893027330056336 tw13789208100466433980 tw17367527550540395849 tw8591966650818716967 tw8014189930832052688 tw9249861605900257510 tw8244253914347679276 tw11811579295687355305 tw10914738457697358030 tw3155999735101971231 tw4764972601032664236 tw3960418215761204780 tw2976448741883410316 tw2067147945274518081 tw4855654284029255492 tw14842873614518025265 tw4996879116328315432 tw4300914066719052429 tw8813089868286709499 tw1033239723048060427 tw6024974119279018281 tw15537558125257104899 tw17408676008794418473 tw5189042501586725556 tw12000866531301934298 tw6662007937565951607 tw8159720753397012705 tw5267647362382636947 tw10942992255898305981 tw16780903376447001573 tw6413836945728626710 tw11514443162173527096 tw2831964388354000381 tw8009718383593065480 tw15123898775543116461 tw1480294944761098225 tw4358688417761285032 tw13144201299848834590 tw16015868910767730860 tw6296493196245594571 tw15223053085356222723 tw9494416847747587024 tw14655931642496431942 tw3298174337917590033 tw8868361947151361046 tw14246302720594567098 tw4950360617158477363 tw4364594859222775049 tw5325985088182690625 tw15852949356864589855 tw12264186668876194929 tw12618331428237836102 tw15386957780768253973 tw10767573036919400859 tw17818584055843165950 tw671146895916484296 tw17164430302244610058 tw3311641743416058117 tw9652395546433293672 tw13487872422738526161 tw7993838569085467814 tw4203836364139567952 tw2419728844567985077 tw4125502174792659801 tw17243649755000463603 tw1733058820684819868 tw5303098849974603032 tw12730742200723438793 tw6434242808424674999 tw11419362393189670817 tw12409538566397787713 tw5304371180189591010 tw6180066835578924017 tw6826362034402959054 tw15763592265260786874 tw2435424712504672545 tw9240686244238074037 tw12550644680768221038 tw16680511058101002208 tw14026141362043897250 tw11273867148211750723 tw2398332016882071904 tw991717102760801577 tw9976476696117502825 tw16082472693566115444 tw11694546224394848141 tw10734315639778253371 tw7052045456489277452 tw10782658436296359270 tw17464639461119500665 tw3023069634692494016 tw12493148545184497594 tw18027876520879688967 tw8872451786255358717 tw10828692496468403088 tw6053766248407540284 tw6348671098251767083 tw16433739997082664009 tw17590585827296029941 tw10591363347005896679 tw9029436834712596111 tw16378747666651943395 tw7027413989580895268 tw4615225426802291603 tw9751497177535809107 tw8670281213446062647 tw11477623986456833369 tw18356749645643207461 tw5652177061291731120 tw1907589478599465348 tw6701383861041628329 tw15929581726763584529 tw12661134356961159084 tw7903808510160582428 tw1216013307335053258 tw338731040881021337 tw11601957695977059666 tw3998892160673773952 tw2754765744316940088 tw7489871050191153749 tw6958437218324976824 tw16720540973168056709 tw15929820696913607410 tw16350403336013753298 tw5540095532287885505 tw10395577420212724877 tw3166406169003037499 tw17249693129325520010 tw4576570568854417771 tw9561984155759774462 tw996098143423184291 tw2682929588842791665 tw928189057703005565 tw13554768153163780434 tw16465892211747205662 tw9931787265398497847 tw10361301419800777353 tw12225762674418309360 tw12075283587398931440 tw13945909073789762665 tw4084156624476517827 tw14795204747298096888 tw13651875668546567776 tw14557899088350390473 tw131930769270035587 tw14628120613035457608 tw6643803514681875373 tw2097426714773419555 tw13579010559951827399 tw2452291292860267604 tw861420310121905303 tw14065816361884766714 tw2814964903759926443 tw12672945622145500848 tw375863925892332866 tw5178860033845535794 tw4538486558006554188 tw4205834152402756658 tw10094508065749235196 tw13425515947530100419 tw1682622228471457143 tw13505057533221844099 tw16553727998417377051 tw6601491304961391392 tw18375238535075669467 tw17599454069640496606 tw14851910389483919906 tw7218770892384610898 tw9325477549041706819 tw4790703903075949271 tw11340975132285875301 tw5990244394011429260 tw2678281668879753474 tw2392832121641996898 tw696073723527796434 tw16123207333481798408 tw2250323515538659219 tw4101892039806789780 tw8079841564624771460 tw6005725199201638524 tw478398670663619047 tw460959828083048086 tw10972351005259965550 tw13218744794136663979 tw10307314933230245181 tw16489771276501063462 tw14373446176854876125 tw12133979520335266849 tw17331250622476338447 tw6133116559941497558 tw2502559571137927491 tw13332682199481992773 tw1147959449408334779 tw784090647488401251 tw15075941563324054886 tw15404167963387788293 tw12360785701013160303 tw15916679725835613518 tw6922063212095113294 tw10841584863481779673 tw14707659231384381756 tw5987517645918570817 tw8041694616578709527 tw4246417345973462717 tw7434020365344432660 tw10194480457753530491 tw6085012495013143613 tw6105431001876549568 tw8326338244305383476 tw16076630168631831641 tw1748954776254666383 tw1016791643141197774 tw6944410205990599011 tw7305638401455371863 tw6867713013234324217 tw3913836081494486463 tw4551996974573204633 tw15175157943929356402 tw619144985904475253 tw13980615191908648005 tw5502850464758790511 tw1911038962188618014 tw13698143941917821807 tw6694946187042916823 tw6692731963598704947 tw7319972144483499096 tw15102705505531665898 tw13684724184588038849 tw10202383322696191829 tw12344963429183218321 tw3189197376497687443 tw1211367350266087973 tw10872468799139692087 tw16562901064847913420 tw16945212022498002301 tw11834262408768657581 tw15982616462631906334 tw15863068922025948720 tw4247490157517777561 tw11993611755667435912 tw1169963511291538133 tw7371674263350884150 tw10746322215113772973 tw1948767023955337535 tw12882064294566805638 tw8913757426711488294 tw3822421391175795682 tw4281042724338058451 tw11197497619211378918 tw7332661132153181388 tw8366993500087033875 tw6426750889712277241 tw5784644700034539754 tw10151834881218886160 tw10326237177868022478 tw14349447654198747776 tw9487860953218566199 tw4203893842929185664 tw17672461086393721057 tw612604332613737289 tw7485519483348149778 tw9872377587234729262 tw15661552417025187333 tw10748691493456098648 tw6545834926212502464 tw2249654053183177156 tw4011292436104558289 tw8762637891055323086 tw1407066742827416742 tw12848611421858485155 tw4738842026636734504 tw15695658713203078248 tw9733638271932635805 tw16222428178802421469 tw9747050317076225324 tw3224514387822584584 tw16721100358255256198 tw17494508478131881550 tw15252228618525777161 tw14442350830956371335 tw11111251260433499928 tw17727390050213642110 tw17490871350923061292 tw6914725168892528895 tw10862929598707698924 tw3340110852788310615 tw1102956351298214197 tw4404704523101556570 tw8046688763678070981 tw13458425409785203499 tw5441296852384232907 tw10947077766300400255 tw16076141789510027489 tw17675478111532617414 tw5852060776443671249 tw6656330721311846145 tw16809660334673567578 tw9326061461191940097 tw10118609525641152777 tw1975191035276624084 tw15695719951683190427 tw892641883823112015 tw7331379648048289962 tw14314616180188440016 tw15532222829005016632 tw15172825696563987431 tw6866028917973462921 tw2608928615092233693 tw10392917952148727652 tw8574960537270090453 tw17114621695177514460 tw5422506487375722367 tw2875608109961646032 tw10897397220766379684 tw16038152538025767644 tw10712075657677475312 tw4450609295416073637 tw5034742859604895495 tw11585148006997800629 tw1756856930392877056 tw11247538462366684235 tw1465291587977649668 tw5529105094151794422 tw7650684294236978059 tw15712883723819806944 tw9465500926613737871 tw8820761296787110232 tw8029295404906083732 tw1173268041424108603 tw15188144213337705577 tw16889445008026468880 tw13471871368449488525 tw14251110316194953554 tw17131903222143089082 tw2088403109910971193 tw4050047753730356584 tw11662239587717265646 tw16957169075938323856 tw9778701756178385163 tw5516610509361274936 tw15677272695612168857 tw12646314402240659155 tw11068896084633851408 tw12363472994581139801 tw11590219373505763348 tw3899041790150235770 tw6665237009003178453 tw13917075923552591775 tw1545152437373310176 tw7773935152024653924 tw9741429549274168200 tw8913164327170786147 tw13777587761120222842 tw6362615199619971104 tw5684234621133411672 tw9335400102331775693 tw18053333365750249914 tw3647130623490789596 tw6970572769294500054 tw7963006633963827711 tw16274892730275961793 tw11341287552801485966 tw4254052570120448860 tw4790292513339252182 tw15025785244265189154 tw5208110474777913622 tw10592547865478097892 tw10486151901330569563 tw12365746011040648560 tw192307810715843667 tw449253554574936123 tw17961588170266804798 tw2996104047801248887 tw12413524035628962844 tw2629349272866521690 tw15235895165712482997 tw71907778972763478 tw12842956558056292751 tw3405159629992426907 tw11053386100624138099 tw9135112207122620013 tw9256142978708717435 tw11436622137932479592 tw130169661958406586 tw2269744845134737844 tw14348404482048046021 tw11075420055211189034 tw16437655632546233402 tw1985517426438738677 tw7961669013947383470 tw18117756083113247923 tw11124096192287657737 tw2173235283628123444 tw14930639194143759931 tw8277710077645148670 tw1134289304459297010 tw15524404417403315976 tw17352429474377843064 tw14205712415286709603 tw14547583675025493790 tw4986914619819577908 tw7113827141212226736 tw10846654309847026457 tw5127328975608606513 tw7072787855638663882 tw12560843297830807630 tw1162321221801299217 tw9988545547487016405 tw6809620968116364829 tw44391661304077230 tw17927664840974960193 tw2884150493275150119 tw7859398072078853576 tw15607277981719331098 tw16979160817165051982 tw5784237112592774938 tw14579874883752909777 tw7318250549036861675 tw16731305152792213566 tw15434901544839699612 tw13908998714616661101 tw10118015168928187438 tw17189345883746139815 tw18021245943738118454 tw10168875054586951649 tw15352516841391200802 tw8328900554700271486 tw1330095785015380175 tw2687299182756469877 tw6229258037742574772 tw13881570530286595746 tw6796193907146366324 tw3414975185593155482 tw10316831246380650571 tw15129089244026055409 tw16623498418507009568 tw2278092520969490016 tw2505742866531873702 tw14557950464653259239 tw7910570095100323510 tw9357956239560230106 tw15396746428252778540 tw7199363963029891037 tw13608617534279688443 tw3767594555922657475 tw4545166444043223792 tw15587666910852818002 tw9449395612691121526 tw907703656975821601 tw6431006094741293014 tw4239538008486565872 tw11892472344547021180 tw4897215040031214694 tw16654667848698683160 tw12490020266916107765 tw16235388953700890384 tw7137512378875730031 tw9419215434854374634 tw10481911868312213076 tw12773321579401935173 tw890196478145765170 tw1392649534442253152 tw15090508882626343249 tw14411934269610106150 tw12173124931654594980 tw1009147558356767504 tw4271613876366967746 tw17697087957595272425 tw7742338387301944096 tw18063841434502826946:True)
open PySem PySem.W PyProof.Rows
set_option maxRecDepth 100000 in
set_option maxHeartbeats 0 in
theorem PySem.Challenge.cw_loomarrays_k30_whole_long_and_wide_holds : PySem.Challenge.rw_loomarrays_k30_whole_long_and_wide.Holds := by
 w_on;o_law;k_head;(case hw=>w_witness2)
 k_fill
 refine VS.walk63 (l:=PySem.Challenge.rw_loomarrays_k30_whole_long_and_wide) 186 rfl rfl (fun w h Y=>PySem.W.kIn_of Y) ?F
 intro w mg fa h KX G Q2
 refine' LW.all_mk Q2 (VS.Q2f KX G (by kernel_rfl) LW.bd LW.bm ?zhb ?zhn ?zht ?zhd ?zhc ?zhm ?zhf ?zha ?zhi ?zhj ?zsp ?ztk)
 case zsp=>k_is
 case ztk=>k_is
 case zhb=>repeat (first | exact True.intro | refine ⟨by k_is,?_⟩)
 case zhn=>repeat (first | exact True.intro | refine ⟨⟨_,by k_is,⟨_,rfl⟩⟩,?_⟩)
 case zhd=>repeat (first | exact True.intro | refine ⟨⟨_,by k_is,⟨⟨_,_,_,_,_,_,_,_,_,by k_is,by k_is⟩,by k_is⟩⟩,?_⟩)
 case zhm=>repeat (first | exact True.intro | refine ⟨⟨_,_,by k_is,by k_is,by k_is,⟨⟨_,_,_,_,_,_,_,_,_,by k_is,by k_is⟩,by k_is⟩,by k_is,by k_is,by first | (intro z;cases z;done) | exact fun _=>⟨by k_is,by k_is,by k_is⟩⟩,?_⟩)
 case zhc=>repeat (first | exact True.intro | refine ⟨⟨_,by k_is,⟨by k_is,by k_is,by k_is,by k_is⟩⟩,?_⟩)
 case zha=>repeat (first | exact True.intro | refine ⟨⟨_,by k_is,⟨by k_is,by k_is,by k_is,by k_is⟩⟩,?_⟩)
 case zhf=>repeat (first | exact True.intro | refine ⟨by repeat (first | exact True.intro | refine ⟨⟨_,by k_is,by k_is⟩,?_⟩),?_⟩)
 case zhi=>repeat (first | exact True.intro | refine ⟨⟨_,by k_is,by repeat (first | exact True.intro | refine ⟨⟨_,by k_is,by kit_is⟩,?_⟩)⟩,?_⟩)
 case zhj=>repeat (first | exact True.intro | refine ⟨⟨_,_,by k_is,by k_is,by repeat (first | exact True.intro | refine ⟨⟨_,by k_is,by kit_is⟩,?_⟩)⟩,?_⟩)
 case zht=>repeat (first | exact True.intro | refine ⟨⟨_,_,_,by k_is,by decide,by k_is,by k_keys,by repeat (first | exact True.intro | refine ⟨⟨_,by k_is,VS.Q2i (by k_is) (by decide) (by repeat (first | exact .nil | refine .cons ⟨_,rfl⟩ ?_))⟩,?_⟩),by repeat (first | exact True.intro | refine ⟨by k_is,?_⟩)⟩,?_⟩)
end
