import PyProof.Rows.All
import KE.KStateDown
import KE.RegKIsAll
import KE.KRevIter
import KE.KDictOf
import Wide.Line
import Open.Line
import OpenK.KLine
import PyProof.Rows.KernelRfl
import PySem.Challenge.RW_loomarrays_k21_whole_no_row_too_many
set_option Elab.async false
open PySem
set_option linter.defProp false
abbrev WL(x:PySem.Str):Prop:=(x == ("__debug__" : PySem.Str))=false
abbrev Le(x:PySem.Str):Prop:=(x == ("__classdict__" : PySem.Str))=false
abbrev RG:=PySem.Value->PySem.Shared->Prop
abbrev U5:=List (PySem.Addr×PySem.Obj)
def T2:=@Heap.get?_push_of_some
def TR:=@Heap.get?_push_size
def WN:=@decide_eq_true
def Nn:=@decide_eq_false
def Uq:=@List.mem_cons_of_mem
def Bl:=@List.mem_cons_self
def Ie:=@List.mem_of_getElem?
def Nc:=@List.getElem?_eq_getElem
def Jl:=@List.getD_eq_getElem?_getD
def Bc:=@Nat.lt_of_lt_of_le
def Lh:=@List.getElem?_append_left
def CR:=@List.mem_map_of_mem
def I0:=@List.getElem?_eq_none
def AR:=@Int.toNat_natCast
theorem OW{A:Sort _}{a:A}:a=a:=Eq.trans rfl rfl
set_option compiler.extract_closed false
noncomputable section
abbrev Wg:=List PySem.Expr
abbrev u3:=Option PySem.Addr
abbrev XU:=List PySem.Addr
abbrev X0:=Option PySem.Value
abbrev Ul:=List PySem.Value
abbrev Ph:=List PySem.Str
abbrev Nx:=List (PySem.Str×Bool)
abbrev Pq:=Option Int
abbrev Ur:=List Bool
abbrev Ue:=List Nat
abbrev T1:=List Int
abbrev Wo:=List (Nat×Nat)
abbrev SF:=List (Int×Int×Int)
abbrev Rp:=List (List Int)
theorem Qt{p:Prop}(h:p:=by lia):p:=h
theorem Ro{p:Prop}(h:p:=by simp):p:=h
theorem Z2{p:Prop}(h:p:=by kernel_rfl!):p:=h
theorem Pe{p:Prop}(h:p:=by omega):p:=h
theorem wg{p:Prop}(h:p:=by first|exact Or.inl rfl|exact Or.inr (Or.inl rfl)|exact Or.inr (Or.inr rfl)):p:=h
theorem Ig{p:Prop}(h:p:=by first|exact .inl rfl|exact .inr rfl|assumption):p:=h
theorem Sf{p:Prop}(h:p:=by first|exact Or.inl rfl|exact Or.inr rfl):p:=h
theorem rD{p:Prop}(h:p:=by first|decide|lia):p:=h
theorem Sa{p:Prop}(h:p:=by with_unfolding_all rfl):p:=h
theorem Ri{p:Prop}(h:p:=by intro _;rfl):p:=h
theorem Ny{p:Prop}(h:p:=by intro _ _;rfl):p:=h
theorem ON{p:Prop}(h:p:=by decide +kernel):p:=h
def ZM:=@wpAny_bind
def Pf:=@wpAny_pure
def ZS:=@Nat.le_refl
def OH:=@Option.some.inj
def Ta:=@Heap.lt_size
def U6:=@List.size_toArray
def Wr:=@if_pos
def P6:=@List.map_cons
def Uu:=@if_neg
def Jk:=@Bool.and_eq_true
def HU:=@List.getElem?_append_right
def Uh:=@Nat.ne_of_lt
def HB:=@List.getElem?_set_ne
def uG:=@List.length_map
def MH:=@List.getElem?_set_self
def Nj:=@PyProof.Rows.callWith_type1
def DV:=@Bool.false_ne_true
def Mz:=@Heap.get?_update_other
def Eb:=@wpAny_newObj_type
def LZ:=@List.length_range
def Gr:=@wpAny_field
def GI:=@mem_of_lookup
def Ry:=@Ne.symm
def ER:=@Nat.zero_le
def En:=@List.length_append
def Ox:=@List.mem_append_right
def LM:=@List.getElem?_map
def M3:=@List.length_cons
def wu:=@List.getElem?_take_of_lt
def xK:=@Heap.get?_update_self
def WH:=@Nat.le_trans
def Hg:=@of_decide_eq_true
def yp:=@wpAny_callSpecial?_slot
def D6:=@wpAny_call_entry
def Lb:=@wpAny_truthy_bool
def SS:=@builtinLookup_eq_fast
def Bt:=@wpAny_seqItems
def Qn:=@wpAny_Call_Name_kw
def Gw:=@Nat.pow_le_pow_right
def Sx:=@Nat.lt_irrefl
def qY:=@wpAny_pyIter_list
def So:=@F.plain_max_loop
def Qy:=@Option.map_some
def BN:=@List.map_append
def Iy:=@wpAny_of_eq
def A6:=@Heap.size_push
def G6:=@List.mem_of_mem_drop
def K5:=@Around.under_plainId
def EH:=@codeAny_builtin
def N3:=@List.replicate_succ
def Ji:=@sizeLine_eq
def Gq:=@List.getElem?_take_eq_none
def yr:=@wpAny_specialOf
def Ea:=@typeLookup_type
def WA:=@List.of_mem_zip
def Jh:=@Nat.le_succ
def Mw:=@Calls.spliced_nil
def Nu:=@List.mem_of_mem_take
def Fj:=@F.slot_tuple_iterator_next
def R3:=@wpAny_mono
def Jn:=@wpAny_holding
def EG:=@plainId_quiet
def RS:=@PyProof.Rows.slot_tuple_getitem
def CQ:=@List.length_take
def G4:=@List.getElem_mem
def G1:=@List.getElem?_replicate
def E1:=@List.map_map
def Jj:=@wpAny_setField_rec
def GJ:=@wpAny_pyIter_tuple
def Nr:=@Obj.data_mapFields
def Np:=@Calls.spliced_cons
def L4:=@wpAny_passesOwn
def MF:=@List.append_nil
def VW:=@List.any_cons
def Of:=@List.flatten_cons
def ya:=@isSubtype_type
def By:=@Nat.lt_succ_self
def A7:=@Nat.le_max_right
def WE:=@Nat.le_add_right
def Ap:=@List.map_reverse
def DW:=@List.getElem?_range
def FA:=@List.all_cons
def S6:=@wpAny_updateSeq
def An:=@wpAny_letGo
def RX:=@wpAny_typeOf
def vS:=@F.slot_zip_next
def Yn:=@List.length_filter_le
def Nf:=@PyProof.Rows.boot_list
def AN:=@wpAny_rule
def My:=@call_meets
def S0:=@wpAny_isInstance
def AU:=@List.getElem_inj
def FF:=@List.ext_getElem
def RW:=@wpAny_standAt
def SV:=@wpAny_attempt
def Ti:=@Paired.length
def Nv:=@Nat.le_max_left
def HW:=@List.foldl_cons
def Ru:=@Bool.or_eq_true
def Ay:=@codeAny_mono
def G2:=@Nat.lt_trans
def K3:=@wpAny_tryCatch
def SQ:=@wpAny_setField
def WG:=@Int.emod_lt_of_pos
def WJ:=@F.plain_reversed_new
def Z7:=@F.args_object_init_2
def Bv:=@List.drop_eq_getElem_cons
def HK:=@W.mg_of
def Sj:=@wpAny_assign_Name
def Ht:=@Nat.lt_succ_of_lt
def Wz:=@List.reverse_cons
def L3:=@List.ext_getElem?
def NF:=@F.args_tuple_mul_2
def EW:=@F.args_tuple_add_2
def NN:=@AutoSeq1.wpAny_loadPart'
def BC:=@List.filter_cons
def Hl:=@List.all_reverse
def A0:=@F.entry_tuple_mul
def S1:=@F.entry_tuple_add
def Bi:=@W.callWith_K
def Gi:=@Nat.zero_add
def Ov:=@Nat.ne_of_gt
def Lw:=@F.slot_tuple_mul
def BQ:=@F.slot_tuple_add
def WI:=@F.entry_max_loop
def HY:=@List.take_of_length_le
def Bg:=@wpAny_ite_false
def AO:=@exec_Assign_Name_used
def WS:=@Obj.isFreed_of_fields
def Nt:=@List.getElem?_reverse
def K7:=@Int.mul_nonneg
def UR:=@wpAny_updateSeq_pair
def VO:=@List.filterMap_cons
def MS:=@Heap.SameBut.update
def RD:=@Array.length_toList
def DP:=@wpAny_onRaise
set_option autoImplicit true
section
set_option Elab.async false
set_option linter.all false
set_option maxRecDepth 100000
namespace L2
open PySem PySem.Spec PyProof.Rows
abbrev Key:=Sum Int Str
def sE:Key->Value->Bool|.inl k,v=>Value.isInt k v|.inr x,v=>Value.isStrOf x v
def Q1j(w:World):Key->Int|.inl k=>hashInt k|.inr x=>hashStr w x
theorem bX:∀{k:Key}{v:Value},sE k v=true->(∃i t,k=Sum.inl i/\v=Value.int i t)\/(∃x t,k=Sum.inr x/\v=Value.str x t)|.inl i,v,h=>by obtain⟨t,e⟩:=Value.isInt_shape (k:=i) (v:=v) h;exact .inl ⟨i,t,rfl,e⟩|.inr x,v,h=>by obtain⟨t,e⟩:=Value.isStrOf_shape (x:=x) (v:=v) h;exact .inr ⟨x,t,rfl,e⟩
theorem Q1y(i:Int)(t:Tok):sE (.inl i) (.int i t)=true:=by simp[sE,Value.isInt]
theorem Q2b(x:Str)(t:Tok):sE (.inr x) (.str x t)=true:=by simp[sE,Value.isStrOf]
theorem Q2k(a b:Int):decide ((Sum.inl a:Key)=Sum.inl b)=(a == b):=by by_cases e:a=b;subst e;simp;have h:¬(Sum.inl a:Key)=Sum.inl b:=fun q=>e (Sum.inl.inj q);rw[Nn h];exact(beq_eq_false_iff_ne.mpr e).symm
theorem Mh(a b:Str):decide ((Sum.inr a:Key)=Sum.inr b)=decide (a=b):=by by_cases e:a=b;subst e;simp;have h:¬(Sum.inr a:Key)=Sum.inr b:=fun q=>e (Sum.inr.inj q);rw[Nn h,Nn e]
theorem Mf(a:Int)(b:Str):decide ((Sum.inl a:Key)=Sum.inr b)=false:=Nn (fun q=>nomatch q)
theorem Mg(a:Str)(b:Int):decide ((Sum.inr a:Key)=Sum.inl b)=false:=Nn (fun q=>nomatch q)
def fL(prog:Program)(w:World):PySem.KeyKind prog w Key where
 is:=sE
 hash:=Q1j w
 inj:=fun v a b ha hb=>by
  rcases bX ha with ⟨i,t,rfl,rfl⟩|⟨x,t,rfl,rfl⟩
  rcases bX hb with ⟨j,u,rfl,e⟩|⟨y,u,rfl,e⟩
  injection e with e1 _;rw[e1];exact nomatch e;rcases bX hb with ⟨j,u,rfl,e⟩|⟨y,u,rfl,e⟩
  exact nomatch e;injection e with e1 _;rw[e1]
 byValue:=fun k v h=>by rcases bX h with ⟨i,t,rfl,rfl⟩|⟨x,t,rfl,rfl⟩<;>rfl
 pyHash:=fun hv h=>by
  rcases bX hv with ⟨i,t,rfl,rfl⟩|⟨x,t,rfl,rfl⟩
  exact wpAny_pyHash_int h;exact wpAny_pyHash_str h
 eqBool:=fun hu hv h=>by
  rcases bX hu with ⟨i,t,rfl,rfl⟩|⟨x,t,rfl,rfl⟩
  rcases bX hv with ⟨j,u,rfl,rfl⟩|⟨y,u,rfl,rfl⟩
  rw[Q2k] at h;exact wpAny_eqBool_int h;rw[Mf] at h;exact SeqAt.EqAt.int_str i t y u _ _ _ _ h;rcases bX hv with ⟨j,u,rfl,rfl⟩|⟨y,u,rfl,rfl⟩
  rw[Mg] at h;exact SeqAt.EqAt.str_int x t j u _ _ _ _ h;rw[Mh] at h;exact wpAny_eqBool_str h
 «strs» := fun k x t v h=>by
  rcases bX h with ⟨i,u,rfl,e⟩|⟨y,u,rfl,e⟩
  exact nomatch e;injection e with e1 _;subst e1;cases v<;>rfl
theorem vR(prog:Program)(w:World)(i:Int)(t:Tok):(fL prog w).is (.inl i) (.int i t)=true:=Q1y i t
theorem Q1v(prog:Program)(w:World)(x:Str)(t:Tok):(fL prog w).is (.inr x) (.str x t)=true:=Q2b x t
inductive V where
 |bE|bl (b:Bool)|int (i:Int)|str (x:Str)|TQ (b:Array UInt8)|TZ (b:UInt64)|ref (a:Addr)|ty (n:String)
 deriving DecidableEq
abbrev OY:=List V
def RelV:V->Value->Prop|.bE,u=>u=Value.none|.bl b,u=>u=Value.bool b|.int i,u=>∃t,u=Value.int i t|.str x,u=>∃t,u=Value.str x t|.TQ b,u=>∃t,u=Value.bytes b t|.TZ b,u=>∃t,u=Value.float b t|.ref a,u=>u=Value.ref a|.ty n,u=>u=Value.type n
abbrev Vals:OY->Ul->Prop:=Paired RelV
theorem Vals.length(r:Vals xs us):xs.length=us.length:=Ti r
theorem Vals.get:∀{xs:OY}{us:Ul}{i:Nat}{x:V},Vals xs us->xs[i]?=some x->∃u,us[i]?=some u/\RelV x u|_,_,_,_,.nil,e=>by simp at e|_,_,0,_,.cons r _,e=>by simp at e;subst e;exact⟨_,rfl,r⟩|_,_,i+1,x,.cons _ t,e=>by obtain⟨u,h1,h2⟩:=Vals.get (i:=i) (x:=x) t (by simpa using e);exact⟨u,by simpa using h1,h2⟩
theorem Vals.set(r:RelV x u):∀{xs:OY}{us:Ul}(i:Nat),Vals xs us->Vals (xs.set i x) (us.set i u)|_,_,_,.nil=>.nil|_,_,0,.cons _ t=>.cons r t|_,_,i+1,.cons q t=>.cons q (Vals.set r i t)
theorem Vals.append:∀{xs ys:OY}{us ws:Ul},Vals xs us->Vals ys ws->Vals (xs++ys) (us++ws)|_,_,_,_,.nil,s=>s|_,_,_,_,.cons r t,s=>.cons r (Vals.append t s)
theorem Vals.take:∀{xs:OY}{us:Ul}(n:Nat),Vals xs us->Vals (xs.take n) (us.take n)|_,_,0,_=>.nil|_,_,_+1,.nil=>.nil|_,_,n+1,.cons r t=>.cons r (Vals.take n t)
theorem Vals.drop:∀{xs:OY}{us:Ul}(n:Nat),Vals xs us->Vals (xs.drop n) (us.drop n)|_,_,0,r=>r|_,_,_+1,.nil=>.nil|_,_,n+1,.cons _ t=>Vals.drop n t
def kE:Option V->X0->Prop|some v,some u=>RelV v u|none,none=>True|_,_=>False
def KV{κ:Type}:List (κ×V)->List (κ×Value)->Prop:=Paired fun(p:κ×V)(q:κ×Value)=>p.1=q.1/\RelV p.2 q.2
def kV:Key->V|.inl i=>.int i|.inr x=>.str x
inductive HO where
 |lst (xs:OY)|tup (xs:OY)|dK (aV:List (Key×V)) (ep:Nat)|dT (aV:List (List Key×V))|set (S:Int->Bool) (n:Nat)|ins (C dx:Addr) (fs:List (Str×V))|own (x:Addr)|xd (fs:List (Str×V))|met (f x:Addr)|Wl (lo hi:Int)|FO (o:Obj) (u:HO)|OC (ps:Array Value)|ext (φ:Heap->Prop)
abbrev Hp:=Addr->Option HO
def upd(H:Hp)(a:Addr)(o:HO):Hp:=fun b=>if b=a then some o else H b
theorem aO:upd H a o a=some o:=by unfold upd;rw[Wr rfl]
theorem aU(h:b≠a):upd H a o b=H b:=by unfold upd;rw[Uu h]
theorem bB{H:Hp}{a b:Addr}{o:HO}(h:H a=some o)(h':H b=none):a≠b:=by intro e;subst e;rw[h] at h';cases h'
def lI(h:Heap)(a:Addr)(items:Array Value):Prop:=∃o,h.get? a=some o/\o.cls=.type "tuple" /\ (∃n,o.data=.seq items n)/\o.dict=none
theorem lI.tup(x:lI h a items):IsTup h a items:=let ⟨o,ho,hc,hd,_⟩:=x;⟨o,ho,hc,hd⟩
theorem lI.lt(x:lI h a items):a<h.objs.size:=let ⟨_,ho,_⟩:=x;Ta ho
theorem lI.new(h:Heap)(items:Array Value):lI (h.push {cls:=.type "tuple",data:=.seq items}) h.objs.size items:=⟨_,TR _ rfl,rfl,⟨_,rfl⟩,rfl⟩
section
variable(P:Program)(w:World)
def dD(H:Hp)(h:Heap)(a:Addr):HO->Prop
|.lst xs=>xs.length<=sizeLine/\∃(aI:Ul)(n:Nat),Vals xs aI/\h.get? a=some {cls:=.type "list",data:=.seq aI.toArray n}|.tup xs=>xs.length<=sizeLine/\∃aI:Ul,Vals xs aI/\lI h a aI.toArray|.dK aV ep=>aV.length<=sizeLine/\(a == sysModules)=false/\∃vs,KV aV vs/\h.DictAt (fL P w) a vs ep|.dT aV=>aV.length<=sizeLine/\(a == sysModules)=false/\∃xs:List (List Key×Addr×Value),
 Paired (fun(p:List Key×V)(q:List Key×Addr×Value)=>p.1=q.1/\H q.2.1=some (.tup (p.1.map kV))/\RelV p.2 q.2.2) aV xs /\
 ∃o es ep,h.get? a=some o/\o.ExactDict/\o.data=.dict es ep/\es.toList=xs.map (entryOfKey (tupleKind (fL P w)))/\(xs.map (·.1)).Nodup
|.set S n=>h.SetOf (intKind P w) a S n|.ins C dx fs=>H dx=some (.own a)/\fs.length<=1000/\dx≠a/\h.get? a=some (W.instObj C dx)/\∃mA,h.Ns1 dx mA/\(∀f,kE (fs.lookup f) (mA f))/\PySem.Within mA (fs.map (·.1))|.own _=>∃o,h.get? a=some o|.xd fs=>∃mA,h.Ns1 a mA/\∀f,kE (fs.lookup f) (mA f)|.Wl lo hi=>∃t u v,h.get? a=some {cls:=.type "range",data:=.fields #[.int lo t,.int hi u,.int 1 v]}|.FO o u=>h.get? a=some o/\dD H h a u|.OC ps=>h.get? a=some {cls:=.none,data:=.fields ps}|.met f x=>h.get? a=some (W.methodObj (.ref f) (.ref x))|.ext φ=>φ h/\(∃o,h.get? a=some o)/\∀h1 h2:Heap,φ h1->(∀o,h1.get? a=some o->h2.get? a=some o)->φ h2
def og(H:Hp)(h:Heap):Prop:=∀a o,H a=some o->dD P w H h a o
end
section
variable{P:Program}{w:World}{H H':Hp}{h h':Heap}{a:Addr}{o:HO}
theorem dD.lt(x:dD P w H h a o):a<h.objs.size:=by cases o with|lst xs=>obtain⟨_,_,_,_,e⟩:=x;exact Ta e|tup xs=>obtain⟨_,_,_,p⟩:=x;exact p.lt|dK aV ep=>obtain⟨_,_,_,_,o,_,e,_⟩:=x;exact Ta e|dT aV=>obtain⟨_,_,_,_,o,_,_,e,_⟩:=x;exact Ta e|set S n=>obtain⟨o,_,_,_,e,_⟩:=x;exact Ta e|ins C dx fs=>obtain⟨_,_,_,e,_⟩:=x;exact Ta e|own y=>obtain⟨_,e⟩:=x;exact Ta e|xd fs=>obtain⟨_,⟨_,_,_,e,_⟩,_⟩:=x;exact Ta e|Wl lo hi=>obtain⟨_,_,_,e⟩:=x;exact Ta e|FO ob u=>obtain⟨e,_⟩:=x;exact Ta e|OC ps=>exact Ta (show h.get? a=some _ from x)|met f y=>exact Ta (show h.get? a=some _ from x)|ext φ=>obtain⟨_,⟨_,e⟩,_⟩:=x;exact Ta e
theorem Paired.RM{α β:Type}{F G:α->β->Prop}:∀{Ec:List α}{Ed:List β},Paired F Ec Ed->(∀a b,F a b->G a b)->Paired G Ec Ed|_,_,.nil,_=>.nil|_,_,.cons r t,f=>.cons (f _ _ r) (Paired.RM t f)
theorem dD.yj(x:dD P w H h a o)(k:∀b u,(b=a\/H b=some (.own a))->h.get? b=some u->h'.get? b=some u)(ho:∀b,H b=some (.own a)->H' b=some (.own a)) (ht:∀b xs,H b=some (.tup xs)->H' b=some (.tup xs)):dD P w H' h' a o:=by induction o with|lst xs=>obtain⟨z,aI,n,r,e⟩:=x;exact⟨z,aI,n,r,k _ _ (.inl rfl) e⟩|tup xs=>obtain⟨z,aI,r,ob,e,c⟩:=x;exact⟨z,aI,r,ob,k _ _ (.inl rfl) e,c⟩|dK aV ep=>obtain⟨z,y,vs,r,ob,es,e,c⟩:=x;exact⟨z,y,vs,r,ob,es,k _ _ (.inl rfl) e,c⟩|dT aV=>obtain⟨z,y,xs,r,ob,es,ep,e,c⟩:=x;exact⟨z,y,xs,Paired.RM r fun p q z=>⟨z.1,ht _ _ z.2.1,z.2.2⟩,ob,es,ep,k _ _ (.inl rfl) e,c⟩|set S n=>obtain⟨ob,es,ep,t,e,c⟩:=x;exact⟨ob,es,ep,t,k _ _ (.inl rfl) e,c⟩|ins C dx fs=>obtain⟨d,z,ne,e,mA,⟨od,es,ep,e2,c⟩,r⟩:=x;exact⟨ho _ d,z,ne,k _ _ (.inl rfl) e,mA,⟨od,es,ep,k _ _ (.inr d) e2,c⟩,r⟩|own y=>obtain⟨ob,e⟩:=x;exact⟨ob,k _ _ (.inl rfl) e⟩|xd fs=>obtain⟨mA,⟨od,es,ep,e,c⟩,r⟩:=x;exact⟨mA,⟨od,es,ep,k _ _ (.inl rfl) e,c⟩,r⟩|Wl lo hi=>obtain⟨t,u,v,e⟩:=x;exact⟨t,u,v,k _ _ (.inl rfl) e⟩|FO ob u ih=>obtain⟨e,q⟩:=x;exact⟨k _ _ (.inl rfl) e,ih q⟩|OC ps=>have e:h.get? a=some {cls:=.none,data:=.fields ps}:=x;show h'.get? a=some {cls:=.none,data:=.fields ps};exact k a _ (.inl rfl) e|met f y=>have e:h.get? a=some (W.methodObj (.ref f) (.ref y)):=x;show h'.get? a=some (W.methodObj (.ref f) (.ref y));exact k a _ (.inl rfl) e|ext φ=>obtain⟨p,⟨o,e⟩,st⟩:=x;exact⟨st _ _ p fun o q=>k _ _ (.inl rfl) q,⟨o,k _ _ (.inl rfl) e⟩,st⟩
theorem og.lt(x:og P w H h)(e:H a=some o):a<h.objs.size:=(x a o e).lt
theorem og.fresh(x:og P w H h)(e:h.objs.size<=a):H a=none:=by cases q:H a with|none=>rfl|some u=>exact absurd (Bc (x.lt q) e) (Sx _)
theorem og.kept(x:og P w H h)(k:∀b u,h.get? b=some u->h'.get? b=some u):og P w H h':=fun a o e=>(x a o e).yj (fun b u _ q=>k b u q) (fun _ q=>q) fun _ _ q=>q
theorem og.laid(x:og P w H h)(k:∀b u,h.get? b=some u->h'.get? b=some u)(hp:h.objs.size<=a)(new:dD P w (upd H a o) h' a o):og P w (upd H a o) h':=fun b u e=>by have hn:=x.fresh hp;by_cases hb:b=a;subst hb;rw[aO] at e;cases e;exact new;rw[aU hb] at e;exact(x b u e).yj (fun c v _ q=>k c v q) (fun c q=>by rw[aU (bB q hn)];exact q) fun c xs q=>by rw[aU (bB q hn)];exact q
end
def Rd(H:Hp)(a:Addr)(u:HO):Prop:=H a=some u\/∃o,H a=some (.FO o u)
theorem Rd.ok(r:Rd H a u)(x:og P w H h):dD P w H h a u:=by rcases r with r|⟨o,r⟩;exact x a u r;obtain⟨_,q⟩:=x a _ r;exact q
def TC:Option HO->Prop|some (.lst _)=>True|some (.dK _ _)=>True|some (.dT _)=>True|some (.set _ _)=>True|some (.ins _ _ _)=>True|some (.ext _)=>True|_=>False
section
variable{P:Program}{w:World}{H:Hp}{h h':Heap}{x e:Addr}{o':HO}
theorem og.write(ok:og P w H h)(mu:TC (H x))(he:e=x\/H e=some (.own x))(k:∀b u,b≠e->h.get? b=some u->h'.get? b=some u)(O6:∃u,h'.get? e=some u)(new:dD P w (upd H x o') h' x o'):og P w (upd H x o') h':=fun b u q=>by
 have R0:∀c y,H c=some (.own y)->c≠x:=fun c y r z=>by subst z;rw[r] at mu;exact mu
 have Wc:∀c xs,H c=some (.tup xs)->c≠x:=fun c xs r z=>by subst z;rw[r] at mu;exact mu
 by_cases hb:b=x;subst hb;rw[aO] at q;cases q;exact new;rw[aU hb] at q;by_cases LK:b=e;have q':H b=some (.own x):=by rcases he with z|z;exact absurd (LK.trans z) hb;rw[LK];exact z
 rw[q] at q';cases q';obtain⟨v,hv⟩:=O6;exact⟨v,by rw[LK];exact hv⟩;refine(ok b u q).yj (fun c v hc r=>k c v ?_ r) (fun c r=>by rw[aU (R0 c b r)];exact r) fun c xs r=>by rw[aU (Wc c xs r)];exact r
 rcases hc with rfl|hc;exact LK;rintro rfl;rcases he with z|z;exact R0 c b hc z;rw[hc] at z;cases z;exact hb rfl
end
structure Un(fs ex:XU)(H H':Hp)(h h':Heap):Prop where
 keep:∀b o,h.get? b=some o->H b=none->b∉fs->b∉ex->h'.get? b=some o
 slot:∀b o,h.get? b=some o->H b=none->b∈fs->b∉ex->∃sl,h'.get? b=some {o with slots:=sl}
 free:∀b o,h.get? b=some o->H b=none->b∉ex->H' b=none
 there:∀b o,h.get? b=some o->b∉ex->∃o',h'.get? b=some o'
 wC:∀b xs,H b=some (.tup xs)->H' b=some (.tup xs)
 tQ:∀b o u,H b=some (.FO o u)->H' b=some (.FO o u)
 wB:∀b ps,H b=some (.OC ps)->∃more,H' b=some (.OC (ps++more))
section
variable{fs YH ex ex':XU}{H H1 H2:Hp}{h h1 h2 h':Heap}{a x e:Addr}{o:HO}
theorem Un.any(u:Un fs ex H H1 h h1)(q:h.get? b=some ob)(n:H b=none)(hx:b∉ex):∃sl,h1.get? b=some {ob with slots:=sl}:=by by_cases hb:b∈fs;exact u.slot b ob q n hb hx;exact⟨ob.slots,u.keep b ob q n hb hx⟩
theorem Un.kept(k:∀b u,h.get? b=some u->h'.get? b=some u):Un fs ex H H h h':=⟨fun b ob q _ _ _=>k b ob q,fun b ob q _ _ _=>⟨ob.slots,k b ob q⟩,fun _ _ _ n _=>n,fun b ob q _=>⟨ob,k b ob q⟩,fun _ _ q=>q,fun _ _ _ q=>q,fun _ ps q=>⟨#[],by rw[q];simp⟩⟩
theorem Un.refl:Un fs ex H H h h:=Un.kept fun _ _ q=>q
theorem Un.laid(k:∀b u,h.get? b=some u->h'.get? b=some u)(hp:h.objs.size<=a)(hn:H a=none):Un fs ex H (upd H a o) h h' where
 keep:=fun b u q _ _ _=>k b u q
 slot:=fun b u q _ _ _=>⟨u.slots,k b u q⟩
 free:=fun b u q n _=>by rw[aU (Uh (Bc (Ta q) hp))];exact n
 there:=fun b u q _=>⟨u,k b u q⟩
 wC:=fun b xs q=>by rw[aU (bB q hn)];exact q
 tQ:=fun b u xs q=>by rw[aU (bB q hn)];exact q
 wB:=fun b ps q=>⟨#[],by rw[aU (bB q hn),q];simp⟩
theorem Un.write(mu:TC (H x))(he:e=x\/H e=some (.own x))(k:∀b u,b≠e->h.get? b=some u->h'.get? b=some u)(O6:∃u,h'.get? e=some u):Un fs ex H (upd H x o) h h':=by
 have hx:∀b,H b=none->b≠x:=fun b n z=>by subst z;rw[n] at mu;exact mu
 have hb:∀b,H b=none->b≠e:=fun b n z=>by subst z;rcases he with r|r;exact hx b n r;rw[n] at r;cases r
 have hm:∀b u,H b=some u->¬TC (some u)->b≠x:=fun b u q nm z=>by subst z;rw[q] at mu;exact nm mu
 refine⟨fun b u q n _ _=>k b u (hb b n) q,fun b u q n _ _=>⟨u.slots,k b u (hb b n) q⟩,fun b u q n _=>by rw[aU (hx b n)];exact n,fun b u q _=>?_,fun b xs q=>by rw[aU (hm b _ q fun z=>z)];exact q,fun b u xs q=>by rw[aU (hm b _ q fun z=>z)];exact q,fun b ps q=>⟨#[],by rw[aU (hm b _ q fun z=>z),q];simp⟩⟩;by_cases LK:b=e;subst LK;exact O6;exact⟨u,k b u LK q⟩
end
def FZ(h:Heap)(H:Hp):XU:=(List.range h.objs.size).filter fun a=>(H a).isSome
def tW(h:Heap)(H:Hp):Heap:=W.hideAll h (FZ h H)
theorem AI(h:Heap)(H:Hp):(tW h H).objs.size=h.objs.size:=W.hideAll_size _ _
theorem DB(e:h.get? b=some o)(n:H b=none):(tW h H).get? b=some o:=W.hideAll_get _ e fun hm=>by have q:(H b).isSome=true:=(List.mem_filter.mp hm).2;rw[n] at q;simp at q
theorem HC(e:(tW h H).get? b=some o):h.get? b=some o/\H b=none:=by have e':h.get? b=some o:=W.of_hideAll (FZ h H) e;refine⟨e',?_⟩;cases q:H b with|none=>rfl|some x=>have hm:b∈FZ h H:=List.mem_filter.mpr ⟨List.mem_range.mpr (Ta e'),by simp[q]⟩;have z:(tW h H).get? b=none:=W.hideAll_none (FZ h H) hm;rw[z] at e;cases e
def Q2U(g h:Heap)(L:Addr):U5:=(List.range h.objs.size).filterMap fun a=>if a=L\/(g.get? a).isSome=true then none else(h.get? a).map fun o=>(a,o)
def rest(g h:Heap)(L d:Addr):U5:=(Q2U g h L).filter fun p=>decide (p.1≠d)
structure Mod(K:W.Frag)(mg:Str->X0)(base:Heap):Prop where
 Mj:K.In base
 glob:base.Ns mainGlobals mg
 blt:∃mb,base.Ns builtinsNs mb/\∀x:Str,x≠"__name__" -> mb x=bootBuiltins x
 nolimit:base.NoLimit
structure Cx where
 prog:Program
 w:World
 K:W.Frag
 mg:Str->Option Value
 base:Heap
 A:Around
 N:List Str
 s₀:Shared
 H₀:Hp
 env:Env
 outer:List Env
 stack:List Env
 ex:List Addr
 fn:Str->Bool
 calm:Bool
 pn:U5
 xe:RG
def BE(l:List Env):XU:=l.filterMap (·.frame)
abbrev Cx.fs(X:Cx):XU:=BE X.outer
def yz(sc:Scope)(x:Str):Prop:=sc.names.lookup x=some .local\/sc.names.lookup x=some .cell\/sc.names.lookup x=some .free
def Loc(sc:Scope)(x:Str):Prop:=sc.names.lookup x=some .local\/sc.names.lookup x=some .cell
def Look(env:Env)(h:Heap)(m:Str->X0)(x:Str)(u:Value):Prop:=(env.kindOf x=some .local/\m x=some u)\/((env.kindOf x=some .cell\/env.kindOf x=some .free)/\∃c,env.cells.lookup x=some c/\h.IsCell c (some u))
structure Cx.Ok(X:Cx):Prop where
 mod:Mod X.K X.mg X.base
 kind:X.env.scope.kind=.function
 glob:X.env.globals=mainGlobals
 blt:X.env.builtins=builtinsNs
 above:X.s₀.heap.objs.size<=X.env.locals
 inj:∀x y c,X.env.cells.lookup x=some c->X.env.cells.lookup y=some c->x=y
 has:∀x,(X.env.kindOf x=some .cell\/X.env.kindOf x=some .free)->∃c,X.env.cells.lookup x=some c
 Qi:∀x c,X.fn x=true->X.env.cells.lookup x=some c->X.s₀.heap.objs.size<=c
 hd:X.calm=true->X.A.handled=none
 frames:X.A.frames=some X.stack
 Uv:X.stack=X.outer\/(X.stack=X.env::X.outer/\X.env.frame=some X.env.locals)
 TY:∀b∈X.ex,b≠X.env.locals/\∀x c,X.env.cells.lookup x=some c->c≠b
 bs:∀b o,X.base.get? b=some o->X.s₀.heap.get? b=some o/\X.H₀ b=none
 FN:X.base.objs.size<=X.s₀.heap.objs.size
 Eu:∀b o,X.base.get? b=some o->b∉X.ex
 C8:∀b∈X.ex,b∉X.fs
 nh:X.s₀.heap.FunFrames X.base X.outer
 JX:∀b∈X.fs,X.H₀ b=none
structure Inv(X:Cx)(Ug:U5)(σ:List (Option V))(H:Hp)(s:Shared):Prop where
 ok:X.Ok
 os:s.os=X.s₀.os
 bare:AllBare s.gens
 base:Un X.fs X.ex X.H₀ H X.s₀.heap s.heap
 loc:∃m,s.heap.Ns X.env.locals m/\∀(i:Nat)(x:Str)(v:V),X.N[i]?=some x->σ[i]?=some (some v)->yz X.env.scope x->∃u,RelV v u/\Look X.env s.heap m x u
 cell:∀x c,X.env.cells.lookup x=some c->∃v,s.heap.IsCell c v
 free:H X.env.locals=none
 jP:∀x c,X.env.cells.lookup x=some c->H c=none
 pin:∀p∈X.pn++Ug,s.heap.get? p.1=some p.2/\H p.1=none/\p.1≠X.env.locals/\p.1∉X.fs/\∀v,p.2.data≠.cell v
 cj:og X.prog X.w H s.heap
 len:σ.length=X.N.length
section
variable{X:Cx}{Ug:U5}{σ:List (Option V)}{H H':Hp}{s:Shared}{h':Heap}
theorem Cx.Ok.Wa(ok:X.Ok)(e:X.base.get? b=some o):b∉X.fs:=fun hb=>by have:=(ok.nh.mem hb).1;rw[e] at this;cases this
theorem Inv.bs(I:Inv X Ug σ H s):∀b o,X.base.get? b=some o->s.heap.get? b=some o/\H b=none:=fun b o e=>⟨I.base.keep b o (I.ok.bs b o e).1 (I.ok.bs b o e).2 (I.ok.Wa e) (I.ok.Eu b o e),I.base.free b o (I.ok.bs b o e).1 (I.ok.bs b o e).2 (I.ok.Eu b o e)⟩
theorem Inv.bk(I:Inv X Ug σ H s):∀b o,X.base.get? b=some o->s.heap.get? b=some o:=fun b o e=>(I.bs b o e).1
theorem Inv.mod(I:Inv X Ug σ H s):Mod X.K X.mg X.base:=I.ok.mod
theorem Inv.rk(I:Inv X Ug σ H s):X.K.In s.heap:=I.ok.mod.Mj.keeps I.bk
theorem Inv.nolimit(I:Inv X Ug σ H s):s.heap.NoLimit:=I.ok.mod.nolimit.keeps I.bk
theorem Inv.lt(I:Inv X Ug σ H s):X.env.locals<s.heap.objs.size:=let ⟨_,hn,_⟩:=I.loc;hn.lt
theorem Inv.sz(I:Inv X Ug σ H s):X.s₀.heap.objs.size<=s.heap.objs.size:=WH I.ok.above (Nat.le_of_lt I.lt)
theorem Inv.Wb(I:Inv X Ug σ H s){a:Addr}(h:s.heap.objs.size<=a):a∉X.fs:=fun hb=>by obtain⟨_,o,ho,_⟩:=I.ok.nh.mem hb;exact absurd (Bc (Ta ho) (WH I.sz h)) (Sx _)
theorem Inv.La(I:Inv X Ug σ H s):∀x c,X.env.cells.lookup x=some c->c≠X.env.locals:=fun x c e z=>by obtain⟨v,o,ho,hd⟩:=I.cell x c e;obtain⟨m,⟨o',es,ep,uN,QJ,_⟩,_⟩:=I.loc;rw[z,uN] at ho;cases ho;rw[QJ] at hd;cases hd
theorem Inv.nh(I:Inv X Ug σ H s):s.heap.FunFrames X.base X.outer:=by
 have all:∀(l:List Env),(∀b∈BE l,b∈X.fs)->X.s₀.heap.FunFrames X.base l->s.heap.FunFrames X.base l:=by intro l;induction l with|nil=>intro _ _;trivial|cons env r ih=>intro hs hl;obtain⟨hk,⟨L,o,hf,hn,ho,hd⟩,hr⟩:=hl;have hL:L∈X.fs:=hs L (by unfold BE;rw[VO,hf];exact Bl);obtain⟨sl,e⟩:=I.base.slot L o ho (I.ok.JX L hL) hL fun z=>I.ok.C8 L z hL;exact⟨hk,⟨L,_,hf,hn,e,hd⟩,ih (fun b hb=>hs b (by unfold BE;rw[VO,hf];exact Uq _ hb)) hr⟩
 exact all X.outer (fun _ hb=>hb) I.ok.nh
theorem Inv.stack(I:Inv X Ug σ H s):s.heap.FunFrames X.base X.stack:=by rcases I.ok.Uv with e|⟨e,hf⟩;rw[e];exact I.nh;rw[e];obtain⟨m,hn,_⟩:=I.loc;refine .cons (by rw[I.ok.kind];decide) hf hn ?_ I.nh;exact Heap.get?_none_of_le (WH I.ok.FN I.ok.above)
theorem Inv.ym(I:Inv X Ug σ H s):∀b∈BE X.stack,b∈X.env.locals::X.fs:=fun b hb=>by rcases I.ok.Uv with e|⟨e,hf⟩;rw[e] at hb;exact Uq _ hb;rw[e] at hb;unfold BE at hb;rw[VO,hf] at hb;exact hb
theorem Inv.Ae(I:Inv X Ug σ H s):∀b∈BE X.stack,H b=none:=fun b hb=>by rcases List.mem_cons.mp (I.ym b hb) with e|hb;rw[e];exact I.free;obtain⟨_,o,ho,_⟩:=I.ok.nh.mem hb;exact I.base.free b o ho (I.ok.JX b hb) fun z=>I.ok.C8 b z hb
theorem Inv.step{g':Array GenState}{t':Nat}{d':Drawn}{ch:XU}(I:Inv X Ug σ H s)
  (FQ:∀b∈ch,(b∈X.ex\/X.s₀.heap.objs.size<=b)/\b≠X.env.locals/\(∀x c,X.env.cells.lookup x=some c->c≠b)/\∀p∈X.pn++Ug,p.1≠b)
  (keep:∀b o,b≠X.env.locals->b∉X.fs->b∉ch->s.heap.get? b=some o->H b=none->h'.get? b=some o)
  (slot:∀b o,b≠X.env.locals->b∈X.fs->b∉ch->s.heap.get? b=some o->H b=none->∃sl,h'.get? b=some {o with slots:=sl}) (free:∀b o,b∉ch->s.heap.get? b=some o->H b=none->H' b=none)
  (there:∀b o,b∉ch->s.heap.get? b=some o->∃o',h'.get? b=some o')
  (wC:∀b xs,H b=some (.tup xs)->H' b=some (.tup xs)) (tQ:∀b o u,H b=some (.FO o u)->H' b=some (.FO o u)) (wB:∀b ps,H b=some (.OC ps)->∃more,H' b=some (.OC (ps++more)))
  (ns:∀m,s.heap.Ns X.env.locals m->h'.Ns X.env.locals m) (cj:og X.prog X.w H' h') (hg:AllBare g') :
  Inv X Ug σ H' {s with heap:=h',gens:=g',drawn:=d',toks:=t'}:=by
 have X2:∀b o,X.s₀.heap.get? b=some o->b≠X.env.locals:=fun b o e=>Uh (Bc (Ta e) I.ok.above);have Ui:∀b o,X.s₀.heap.get? b=some o->b∉X.ex->b∉ch:=fun b o e hx hb=>by rcases (FQ b hb).1 with z|z;exact hx z;exact absurd (Bc (Ta e) z) (Sx _)
 have cellK:∀x c,X.env.cells.lookup x=some c->∀v,s.heap.IsCell c v->h'.IsCell c v:=fun x c e v ⟨o,ho,hd⟩=>by have RU:c∉ch:=fun z=>(FQ c z).2.2.1 x c e rfl;by_cases hc:c∈X.fs;obtain⟨sl,q⟩:=slot c o (I.La x c e) hc RU ho (I.jP x c e);exact⟨_,q,hd⟩;exact⟨o,keep c o (I.La x c e) hc RU ho (I.jP x c e),hd⟩
 refine⟨I.ok,I.os,hg,⟨fun b o e n hb hx=>?_,fun b o e n hb hx=>?_,fun b o e n hx=>?_,fun b o e hx=>?_,fun b xs e=>wC b xs (I.base.wC b xs e),fun b o xs e=>tQ b o xs (I.base.tQ b o xs e),fun b ps e=>?_⟩,?_,fun x c e=>?_,?_,fun x c e=>?_,fun p hp=>?_,cj,I.len⟩;exact keep b o (X2 b o e) hb (Ui b o e hx) (I.base.keep b o e n hb hx) (I.base.free b o e n hx);obtain⟨sl,e1⟩:=I.base.slot b o e n hb hx;obtain⟨ZY,e2⟩:=slot b _ (X2 b o e) hb (Ui b o e hx) e1 (I.base.free b o e n hx);exact⟨ZY,e2⟩;obtain⟨o',e1⟩:=I.base.there b o e hx;exact free b o' (Ui b o e hx) e1 (I.base.free b o e n hx);obtain⟨o',e1⟩:=I.base.there b o e hx;exact there b o' (Ui b o e hx) e1;obtain⟨m1,e1⟩:=I.base.wB b ps e;obtain⟨m2,e2⟩:=wB b _ e1;exact⟨m1++m2,by rw[e2,Array.append_assoc]⟩;obtain⟨m,hn,hl⟩:=I.loc;refine⟨m,ns m hn,fun i x v e1 e2 e3=>?_⟩;obtain⟨u,r,l⟩:=hl i x v e1 e2 e3;refine⟨u,r,?_⟩;rcases l with l|⟨k,c,e,z⟩;exact .inl l;exact .inr ⟨k,c,e,cellK x c e _ z⟩;obtain⟨v,z⟩:=I.cell x c e;exact⟨v,cellK x c e v z⟩;obtain⟨m,⟨o,_,_,ho,_⟩,_⟩:=I.loc;exact free _ o (fun z=>(FQ _ z).2.1 rfl) ho I.free;obtain⟨v,o,ho,hd⟩:=I.cell x c e;exact free c o (fun z=>(FQ c z).2.2.1 x c e rfl) ho (I.jP x c e);obtain⟨e,n,ne,nf,d⟩:=I.pin p hp;have RU:p.1∉ch:=fun z=>(FQ p.1 z).2.2.2 p hp rfl;exact⟨keep p.1 p.2 ne nf RU e n,free p.1 p.2 RU e n,ne,nf,d⟩
theorem Inv.un(I:Inv X Ug σ H s)(u:Un X.fs [] H H' s.heap h')(cj:og X.prog X.w H' h'):Inv X Ug σ H' {s with heap:=h',toks:=t'}:=by obtain⟨m,⟨o,es,ep,ho,r⟩,_⟩:=id I.loc;obtain⟨sl,hL⟩:=u.any ho I.free Ro;exact I.step (g':=s.gens) (d':=s.drawn) (ch:=[]) (fun _ z=>nomatch z) (fun b o _ hb _ e n=>u.keep b o e n hb Ro) (fun b o _ hb _ e n=>u.slot b o e n hb Ro) (fun b o _ e n=>u.free b o e n Ro) (fun b o _ e=>u.there b o e Ro) u.wC u.tQ u.wB (fun m' hm=>by obtain⟨o',U2,p7,uN,r'⟩:=hm;rw[ho] at uN;cases uN;exact⟨_,U2,p7,hL,r'⟩) cj I.bare
theorem Inv.call(I:Inv X Ug σ H s)(u:Un (BE X.stack) ch H H' s.heap h')(cj:og X.prog X.w H' h')(hg:AllBare g')
  (FQ:∀b∈ch,(b∈X.ex\/X.s₀.heap.objs.size<=b)/\b≠X.env.locals/\(∀x c,X.env.cells.lookup x=some c->c≠b)/\∀p∈X.pn++Ug,p.1≠b) :
  Inv X Ug σ H' {s with heap:=h',gens:=g',drawn:=d',toks:=t'}:=by
 obtain⟨m,⟨o,es,ep,ho,r⟩,_⟩:=id I.loc;obtain⟨sl,hL⟩:=u.any ho I.free fun z=>(FQ _ z).2.1 rfl;exact I.step (ch:=ch) FQ (fun b o hL hb hc e n=>u.keep b o e n (fun z=>(List.mem_cons.mp (I.ym b z)).elim hL hb) hc) (fun b o _ _ hc e n=>u.any e n hc) (fun b o hc e n=>u.free b o e n hc) (fun b o hc e=>u.there b o e hc) u.wC u.tQ u.wB (fun m' hm=>by obtain⟨o',U2,p7,uN,r'⟩:=hm;rw[ho] at uN;cases uN;exact⟨_,U2,p7,hL,r'⟩) cj hg
theorem Inv.turned{t':Nat}{it:Addr}(I:Inv X Ug σ H s)(k:∀b o,b≠it->s.heap.get? b=some o->h'.get? b=some o)(hn:H it=none)(hL:it≠X.env.locals)(h1:it∈X.ex\/X.s₀.heap.objs.size<=it) (h2:∀x c,X.env.cells.lookup x=some c->c≠it) (h3:∀p∈X.pn++Ug,p.1≠it):Inv X Ug σ H {s with heap:=h',toks:=t'}:=by
 have X4:∀b u,H b=some u->b≠it:=fun b u e z=>by rw[z,hn] at e;cases e
 refine I.step (g':=s.gens) (d':=s.drawn) (ch:=[it]) (fun b hb=>?_) (fun b o _ _ hc e _=>k b o (fun z=>hc (by simp[z])) e) (fun b o _ _ hc e _=>⟨o.slots,k b o (fun z=>hc (by simp[z])) e⟩) (fun _ _ _ _ n=>n) (fun b o hc e=>⟨o,k b o (fun z=>hc (by simp[z])) e⟩) (fun _ _ e=>e) (fun _ _ _ e=>e) (fun b ps e=>⟨#[],by rw[e];simp⟩) (fun m hm=>?_) (fun b u e=>?_) I.bare;have e:b=it:=by simpa using hb
 subst e;exact⟨h1,hL,h2,h3⟩;obtain⟨o,es,ep,ho,r⟩:=hm;exact⟨o,es,ep,k _ o (Ry hL) ho,r⟩;refine(I.cj b u e).yj (fun c v hc q=>k c v ?_ q) (fun _ q=>q) fun _ _ q=>q;rcases hc with z|z;rw[z];exact X4 b u e;exact X4 c _ z
theorem Inv.tok(I:Inv X Ug σ H s)(t:Nat):Inv X Ug σ H {s with toks:=t}:=I.un (h':=s.heap) (t':=t) Un.refl I.cj
theorem Inv.kept(I:Inv X Ug σ H s)(k:∀b u,s.heap.get? b=some u->h'.get? b=some u):Inv X Ug σ H {s with heap:=h',toks:=t'}:=I.un (Un.kept k) (I.cj.kept k)
theorem Inv.laid{a:Addr}{o:HO}{t':Nat}(I:Inv X Ug σ H s)(k:∀b u,s.heap.get? b=some u->h'.get? b=some u)(hp:s.heap.objs.size<=a)(new:dD X.prog X.w (upd H a o) h' a o) : Inv X Ug σ (upd H a o) {s with heap:=h',toks:=t'}:=I.un (Un.laid k hp (I.cj.fresh hp)) (I.cj.laid k hp new)
theorem Inv.write(I:Inv X Ug σ H s)(mu:TC (H x))(he:e=x\/H e=some (.own x))(k:∀b u,b≠e->s.heap.get? b=some u->h'.get? b=some u)(O6:∃u,h'.get? e=some u)(new:dD X.prog X.w (upd H x o) h' x o):Inv X Ug σ (upd H x o) {s with heap:=h',toks:=t'}:=I.un (Un.write mu he k O6) (I.cj.write mu he k O6 new)
theorem Inv.zX(I:Inv X Ug σ H s)(h:∀p∈Sr,s.heap.get? p.1=some p.2/\H p.1=none/\p.1≠X.env.locals/\p.1∉X.fs/\∀v,p.2.data≠.cell v):Inv X Sr σ H s:=⟨I.ok,I.os,I.bare,I.base,I.loc,I.cell,I.free,I.jP,fun p hp=>(List.mem_append.mp hp).elim (fun z=>I.pin p (List.mem_append_left _ z)) (h p),I.cj,I.len⟩
theorem vU{N:Ph}(hN:N.Nodup){i j:Nat}{x:Str}(a:N[i]?=some x)(b:N[j]?=some x):i=j:=by obtain⟨h1,e1⟩:=List.getElem?_eq_some_iff.mp a;obtain⟨h2,e2⟩:=List.getElem?_eq_some_iff.mp b;exact(AU hN).mp (e1.trans e2.symm)
theorem kB(I:Inv X Ug σ H s)(hN:X.N.Nodup)(hi:X.N[i]?=some x)(hx:Loc X.env.scope x)(r:RelV v u)(h:∀s',Inv X Ug (σ.set i (some v)) H s'->(∃a,Heap.SameBut a s.heap s'.heap/\(a=X.env.locals\/X.env.cells.lookup x=some a))->Q () s') (hf:X.fn x=true\/X.env.scope.names.lookup x=some .local:=by exact Ig):wpAny M A (storeName X.env x u) Q E s:=by
 obtain⟨m,hn,hl⟩:=id I.loc;have Vl:(X.env.scope.kind == .class||(X.env.scope.kind == .module&&X.env.locals != X.env.globals))=false:=by rw[I.ok.kind];rfl
 have QN:i<σ.length:=by rw[I.len];exact(List.getElem?_eq_some_iff.mp hi).1
 have La:=I.La;have tracked:∀{a:Addr}{h':Heap},(∃o,s.heap.get? a=some o/\H a=none)->Heap.SameBut a s.heap h'->og X.prog X.w H h':=fun {a h'} ha hs b ob e=>by obtain⟨_,_,J3⟩:=ha;refine(I.cj b ob e).yj (fun c w' hc q=>(hs.2 c ?_).trans q) (fun _ q=>q) fun _ _ q=>q;rintro rfl;rcases hc with rfl|hc;rw[J3] at e;cases e;rw[J3] at hc;cases hc
 rcases hx with hk|hk;refine wpAny_storeName_local hk hn (fun h' DI hs=>?_) Vl;obtain⟨oL,_,_,T9,_⟩:=id hn;refine h _ ⟨I.ok,I.os,I.bare,⟨fun b o e n hb hx=>?_,fun b o e n hb hx=>?_,I.base.free,fun b o e hx=>?_,I.base.wC,I.base.tQ,I.base.wB⟩,⟨_,DI,fun j y v' e1 e2 e3=>?_⟩,fun y c e=>?_,I.free,I.jP,fun p hp=>?_,tracked ⟨oL,T9,I.free⟩ hs,by simpa using I.len⟩ ⟨_,hs,.inl rfl⟩;exact(hs.2 b (Uh (Bc (Ta e) I.ok.above))).trans (I.base.keep b o e n hb hx);obtain⟨sl,e1⟩:=I.base.slot b o e n hb hx;exact⟨sl,(hs.2 b (Uh (Bc (Ta e) I.ok.above))).trans e1⟩;obtain⟨o',e1⟩:=I.base.there b o e hx;exact⟨o',(hs.2 b (Uh (Bc (Ta e) I.ok.above))).trans e1⟩;by_cases hj:j=i;subst hj;rw[hi] at e1;cases e1;rw[MH QN] at e2;cases e2;exact⟨u,r,.inl ⟨hk,Ro⟩⟩;rw[HB (Ry hj)] at e2;obtain⟨u',r',q⟩:=hl j y v' e1 e2 e3;refine⟨u',r',?_⟩;rcases q with ⟨k,e⟩|⟨k,c,e,z⟩
 refine .inl ⟨k,?_⟩;have:y≠x:=fun e=>hj (vU hN e1 (e ▸ hi));simp[this,e];exact .inr ⟨k,c,e,z.sameBut hs (La y c e)⟩;obtain⟨w',z⟩:=I.cell y c e;exact⟨w',z.sameBut hs (La y c e)⟩;obtain⟨e,n,ne,nf,d⟩:=I.pin p hp;exact⟨(hs.2 p.1 ne).trans e,n,ne,nf,d⟩;have AG:X.fn x=true:=by rcases hf with z|z;exact z;rw[z] at hk;cases hk
 obtain⟨c,hc⟩:=I.ok.has x (.inl hk);obtain⟨w',z⟩:=I.cell x c hc;refine wpAny_storeName_cell I.ok.kind hk hc z (fun h' rj hs=>?_);obtain⟨oc,XD,Vw⟩:=id z;refine h {s with heap:=h'} ⟨I.ok,I.os,I.bare,⟨fun b o e n hb hx=>?_,fun b o e n hb hx=>?_,I.base.free,fun b o e hx=>?_,I.base.wC,I.base.tQ,I.base.wB⟩,⟨m,hn.sameBut hs (Ry (La x c hc)),fun j y v' e1 e2 e3=>?_⟩,fun y c' e=>?_,I.free,I.jP,fun p hp=>?_,tracked ⟨oc,XD,I.jP x c hc⟩ hs,by simpa using I.len⟩ ⟨c,hs,.inr hc⟩;exact(hs.2 b (Uh (Bc (Ta e) (I.ok.Qi x c AG hc)))).trans (I.base.keep b o e n hb hx);obtain⟨sl,e1⟩:=I.base.slot b o e n hb hx;exact⟨sl,(hs.2 b (Uh (Bc (Ta e) (I.ok.Qi x c AG hc)))).trans e1⟩;obtain⟨o',e1⟩:=I.base.there b o e hx;exact⟨o',(hs.2 b (Uh (Bc (Ta e) (I.ok.Qi x c AG hc)))).trans e1⟩;by_cases hj:j=i;subst hj;rw[hi] at e1;cases e1;rw[MH QN] at e2;cases e2;exact⟨u,r,.inr ⟨.inl hk,c,hc,rj⟩⟩;rw[HB (Ry hj)] at e2;obtain⟨u',r',q⟩:=hl j y v' e1 e2 e3;refine⟨u',r',?_⟩;rcases q with q|⟨k,c',e,z'⟩;exact .inl q;refine .inr ⟨k,c',e,z'.sameBut hs ?_⟩;rintro rfl;exact hj (vU hN e1 (I.ok.inj _ _ _ e hc ▸ hi));by_cases Xq:c'=c;subst Xq;exact⟨_,rj⟩;obtain⟨w2,z2⟩:=I.cell y c' e;exact⟨w2,z2.sameBut hs Xq⟩;obtain⟨e,n,ne,nf,d⟩:=I.pin p hp;refine⟨(hs.2 p.1 ?_).trans e,n,ne,nf,d⟩;intro q;rw[q,XD] at e;have q':oc=p.2:=OH e;exact d w' (by rw[<-q'];exact Vw)
theorem wz(I:Inv X Ug σ H s)(hN:X.N.Nodup)(hi:X.N[i]?=some x)(hx:Loc X.env.scope x)(r:RelV v u)(h:∀s',Inv X Ug (σ.set i (some v)) H s'->Q () s') (hf:X.fn x=true\/X.env.scope.names.lookup x=some .local:=by exact Ig):wpAny M A (storeName X.env x u) Q E s:=
 kB I hN hi hx r (fun s' I' _=>h s' I') hf
theorem Inv.CO(I:Inv X Ug σ H s)(ho:s'.os=s.os)(u:Un (BE X.stack) ch H H' s.heap s'.heap)(cj:og X.prog X.w H' s'.heap)(hg:AllBare s'.gens)(FQ:∀b∈ch,(b∈X.ex\/X.s₀.heap.objs.size<=b)/\b≠X.env.locals/\(∀x c,X.env.cells.lookup x=some c->c≠b)/\∀p∈X.pn++Ug,p.1≠b):Inv X Ug σ H' s':=by obtain⟨h',g',d',t',o'⟩:=s';have e:o'=s.os:=ho;subst e;exact I.call (g':=g') (t':=t') (d':=d') u cj hg FQ
end
abbrev XK:=Value->u3->Hp->Prop
abbrev St:=List (Option V)
abbrev VK:=V->Hp->Prop
abbrev TE:=St->Hp->VK->Prop
abbrev TT:=St->Hp->(Bool->Hp->Prop)->Prop
abbrev TA:=St->Hp->(List V->Hp->Prop)->Prop
structure Ends where
 nx:St->Hp->Prop
 rt:VK
 bk:St->Hp->Prop:=fun _ _=>False
 ct:St->Hp->Prop:=fun _ _=>False
abbrev TS:=Ends->St->Hp->Prop
def EP(X:Cx)(Ug:U5)(σ:St)(Q:VK)(u:Value)(s':Shared):Prop:=∃v H',Inv X Ug σ H' s'/\RelV v u/\Q v H'
def TP(X:Cx)(Ug:U5)(σ:St)(Q:Bool->Hp->Prop)(b:Bool)(s':Shared):Prop:=∃H',Inv X Ug σ H' s'/\Q b H'
def AP(X:Cx)(Ug:U5)(σ:St)(Q:OY->Hp->Prop)(us:Ul)(s':Shared):Prop:=∃vs H',Inv X Ug σ H' s'/\Vals vs us/\Q vs H'
def SP(X:Cx)(Ug:U5)(D:Ends)(f:Flow)(s':Shared):Prop:=match f with|.next=>∃bD H',Inv X Ug bD H' s'/\D.nx bD H'|.brk=>∃bD H',Inv X Ug bD H' s'/\D.bk bD H'|.cont=>∃bD H',Inv X Ug bD H' s'/\D.ct bD H'|.ret u=>∃v bD H',Inv X Ug bD H' s'/\RelV v u/\D.rt v H'
def PE(X:Cx)(e:Expr)(t:TE):Prop:=∀(Ug:U5)(s:Shared)(σ:St)(H:Hp)(Q:VK),Inv X Ug σ H s->t σ H Q->wpAny (model X.prog X.w) X.A (eval e X.env) (EP X Ug σ Q) X.xe s
def PT(X:Cx)(e:Expr)(t:TT):Prop:=∀(Ug:U5)(s:Shared)(σ:St)(H:Hp)(Q:Bool->Hp->Prop),Inv X Ug σ H s->t σ H Q->wpAny (model X.prog X.w) X.A (isTrue e X.env (eval e X.env)) (TP X Ug σ Q) X.xe s
def PW(X:Cx)(e:Expr)(t:TT):Prop:=∀(whole:Sem Value)(Ug:U5)(s:Shared)(σ:St)(H:Hp)(Q:Bool->Hp->Prop),Inv X Ug σ H s->t σ H Q->wpAny (model X.prog X.w) X.A (isTrue e X.env whole) (TP X Ug σ Q) X.xe s
theorem PW.pt(h:PW X e t):PT X e t:=h _
def PA(X:Cx)(es:Wg)(t:TA):Prop:=∀(pos:Pos)(Ug:U5)(s:Shared)(σ:St)(H:Hp)(Q:OY->Hp->Prop),Inv X Ug σ H s->t σ H Q->wpAny (model X.prog X.w) X.A (spliced (backTo pos (starEach es X.env))) (AP X Ug σ Q) X.xe s
def PS(X:Cx)(st:Stmt)(t:TS):Prop:=∀(Ug:U5)(s:Shared)(σ:St)(H:Hp)(D:Ends),Inv X Ug σ H s->t D σ H->wpAny (model X.prog X.w) X.A (exec st X.env) (SP X Ug D) X.xe s
def wM(X:Cx)(st:List Stmt)(t:TS):Prop:=∀(Ug:U5)(s:Shared)(σ:St)(H:Hp)(D:Ends),Inv X Ug σ H s->t D σ H->wpAny (model X.prog X.w) X.A (execs st X.env) (SP X Ug D) X.xe s
theorem bT{α:Type}{t:Sem α}{Q Q':α->Shared->Prop}(h:wpAny M A t Q E s)(hQ:∀a s,Q a s->Q' a s):wpAny M A t Q' E s:=R3 h hQ fun _ _ x=>x
section
variable{X:Cx}
theorem bin{a b:Expr}{ta tb:TE}(ha:PE X a ta)(hb:PE X b tb){Ug:U5}{s:Shared}{σ:St}{H:Hp}{R:V->V->Hp->Prop}(I:Inv X Ug σ H s)(h:ta σ H fun x H1=>tb σ H1 fun y H2=>R x y H2)
  {α:Type} {Q:α->Shared->Prop} {f:Value->Value->Sem α}
  (hf:∀v u s2 x y H2,Inv X Ug σ H2 s2->RelV x v->RelV y u->R x y H2->wpAny (model X.prog X.w) X.A (f v u) Q X.xe s2) :
  wpAny (model X.prog X.w) X.A (eval a X.env) (fun v bx=>wpAny (model X.prog X.w) X.A (eval b X.env) (fun u nW=>wpAny (model X.prog X.w) X.A (f v u) Q X.xe nW) X.xe bx) X.xe s:=by
 refine bT (ha Ug s σ H _ I h) fun v s1 ⟨x,H1,I1,r1,q1⟩=>?_;refine bT (hb Ug s1 σ H1 _ I1 q1) fun u s2 ⟨y,H2,I2,r2,q2⟩=>?_;exact hf v u s2 x y H2 I2 r1 r2 q2
def S7(i:Nat):TE:=fun σ H Q=>∃v,σ[i]?=some (some v)/\Q v H
def tC(v:V):TE:=fun _ H Q=>Q v H
theorem iw{i:Nat}{x:Str}{pos:Pos}(hN:X.N[i]?=some x)(hv:yz X.env.scope x)(hd:WL x:=by decide)(kO:Le x:=by decide):PE X (.Name x pos) (S7 i):=by
 intro Ug s σ H Q I h;obtain⟨v,e,h⟩:=h;obtain⟨m,hn,hl⟩:=I.loc;obtain⟨u,r,l⟩:=hl i x v hN e hv;have fin:EP X Ug σ Q u s:=⟨v,H,I,r,h⟩;rcases l with ⟨hk,hm⟩|⟨hk,c,hc,J2⟩
 exact wpAny_Name (wpAny_loadName_local I.ok.kind hk hn hm fin) hd;rcases hk with hk|hk;exact wpAny_Name (wpAny_loadName_cell I.ok.kind hk hc J2 fin) hd;exact wpAny_Name (wpAny_loadName_free I.ok.kind hk hc J2 fin kO) hd
theorem NL{i j pos}:PE X (.Constant (.int i) j pos) (tC (.int i)):=fun _ _ _ H _ I h=>wpAny_Constant_int ⟨.int i,H,I.tok _,⟨_,rfl⟩,h⟩
theorem Q0J{b j pos}:PE X (.Constant (.bool b) j pos) (tC (.bl b)):=fun _ _ _ H _ I h=>Constant_bool ⟨.bl b,H,I,rfl,h⟩
theorem Q2O{j pos}:PE X (.Constant .none j pos) (tC .bE):=fun _ _ _ H _ I h=>Constant_none ⟨.bE,H,I,rfl,h⟩
theorem NP{x j pos}:PE X (.Constant (.str x) j pos) (tC (.str x)):=fun _ _ _ H _ I h=>Calls.Constant_str ⟨.str x,H,I.tok _,⟨_,rfl⟩,h⟩
def Gl(X:Cx)(x:Str):Prop:=X.env.kindOf x=some .globalImplicit
theorem lZ{E:RG}{Ug:U5}{s:Shared}{σ:St}{H:Hp}{x:Str}{u:Value}{pos:Pos}{Q:RG}(I:Inv X Ug σ H s)(hg:Gl X x)(hm:X.mg x=some u)(h:Q u s)(hd:WL x:=by decide):wpAny (model X.prog X.w) X.A (eval (.Name x pos) X.env) Q E s:=
 Calls.Name_function_global I.ok.kind hg (Calls.loadGlobal_global (by rw[I.ok.glob];exact I.mod.glob.keeps I.bk) hm h) hd
theorem dA{E:RG}{Ug:U5}{s:Shared}{σ:St}{H:Hp}{x:Str}{u:Value}{pos:Pos}{Q:RG}(I:Inv X Ug σ H s)(hg:Gl X x)(hm:X.mg x=none)(hv:bootBuiltins x=some u)(h:Q u s)(hn:x≠"__name__" := by decide) (hd:WL x:=by decide):wpAny (model X.prog X.w) X.A (eval (.Name x pos) X.env) Q E s:=by obtain⟨mb,h1,h2⟩:=I.mod.blt;exact Calls.Name_function_global I.ok.kind hg (Calls.loadGlobal_builtin (by rw[I.ok.glob];exact I.mod.glob.keeps I.bk) hm (by rw[I.ok.blt];exact h1.keeps I.bk) ((h2 x hn).trans hv) h) hd
theorem ky(hg:Gl X x)(hm:X.mg x=some u)(r:RelV v u)(hd:WL x:=by decide):PE X (.Name x pos) (tC v):=fun _ _ _ H _ I h=>lZ I hg hm ⟨v,H,I,r,h⟩ hd
variable{a b:Expr}{ta tb:TE}{pos:Pos}
def PC(X:Cx)(op:CmpOp)(a b:Expr)(t:TE):Prop:=∀(Ug:U5)(s:Shared)(σ:St)(H:Hp)(Q:VK),Inv X Ug σ H s->t σ H Q->wpAny (model X.prog X.w) X.A (eval a X.env) (fun v bx=>wpAny (model X.prog X.w) X.A (eval b X.env) (fun u nW=>wpAny (model X.prog X.w) X.A (compareOp op v u) (EP X Ug σ Q) X.xe nW) X.xe bx) X.xe s
theorem Es(b:Expr)(h:op≠.In)(h2:op≠.NotIn):behindInMarks op b=false:=by
 have e1:(op == CmpOp.In)=false:=by cases op<;>first|rfl|exact absurd rfl h
 have e2:(op == CmpOp.NotIn)=false:=by cases op<;>first|rfl|exact absurd rfl h2
 cases b<;>simp[behindInMarks,e1,e2]
def Av(t:TE):TT:=fun σ H Q=>t σ H fun x H1=>∃c,x=.bl c/\Q c H1
theorem NZ{op:CmpOp}{t:TE}(h:PC X op a b t)(h1:behindInMarks op b=false:=by first|exact Es _ (by decide) (by decide)|rfl):PT X (.Compare a [op] [b] pos) (Av t):=by intro Ug s σ H Q I hw;refine wpAny_isTrue_Compare1 (bT (h Ug s σ H _ I hw) fun v s1 h1=>bT h1 fun u s2 h2=>bT h2 fun c s3 ⟨x,H1,I1,r1,q1⟩=>?_) h1;obtain⟨d,rfl,q⟩:=q1;cases r1;exact Lb ⟨H1,I1,q⟩
theorem N1{e:Expr}{t:TE}(h:PE X e t)(he:∀whole,isTrue e X.env whole=(do let v <-whole;standAt e.pos;holding [v] (truthy v)):=by exact Ri):PT X e (Av t):=by intro Ug s σ H Q I hw;refine isTrue_plain (bT (h Ug s σ H _ I hw) fun v s1 ⟨x,H1,I1,r1,q1⟩=>?_) (he _);obtain⟨d,rfl,q⟩:=q1;cases r1;exact Lb ⟨H1,I1,q⟩
variable{tA Uw:TT}{rest:Wg}
def Q2m(t u:TT):TT:=fun σ H Q=>t σ H fun c H1=>if c=true then u σ H1 Q else Q false H1
def Q2o(t u:TT):TT:=fun σ H Q=>t σ H fun c H1=>if c=true then Q true H1 else u σ H1 Q
def Q2n(t:TT):TT:=fun σ H Q=>t σ H fun c H1=>Q (!c) H1
theorem Q1G(ha:PT X a tA):PW X (.BoolOp .And [a] pos) tA:=by intro wh Ug s σ H Q I h;refine isTrue_and (bT (ha Ug s σ H Q I h) fun c s1 e=>?_);cases c with|true=>exact isTrue_and_nil e|false=>exact e
theorem N4(ha:PT X a tA):PW X (.BoolOp .Or [a] pos) tA:=by intro wh Ug s σ H Q I h;refine isTrue_or (bT (ha Ug s σ H Q I h) fun c s1 e=>?_);cases c with|false=>exact isTrue_or_nil e|true=>exact e
theorem Q1L(ha:PT X a tA)(hb:PW X (.BoolOp .And (b::rest) pos) Uw):PW X (.BoolOp .And (a::b::rest) pos) (Q2m tA Uw):=by intro wh Ug s σ H Q I h;refine isTrue_and (bT (ha Ug s σ H _ I h) fun c s1 ⟨H1,I1,q1⟩=>?_);cases c with|true=>exact hb wh Ug s1 σ H1 Q I1 q1|false=>exact⟨H1,I1,q1⟩
theorem Sw(ha:PT X a tA)(hb:PW X (.BoolOp .Or (b::rest) pos) Uw):PW X (.BoolOp .Or (a::b::rest) pos) (Q2o tA Uw):=by intro wh Ug s σ H Q I h;refine isTrue_or (bT (ha Ug s σ H _ I h) fun c s1 ⟨H1,I1,q1⟩=>?_);cases c with|true=>exact⟨H1,I1,q1⟩|false=>exact hb wh Ug s1 σ H1 Q I1 q1
theorem N0(ha:PT X a tA):PT X (.UnaryOp .Not a pos) (Q2n tA):=by intro Ug s σ H Q I h;exact isTrue_not (ha Ug s σ H (fun c H1=>Q (!c) H1) I h)
def Q24(ta tb:TE):TE:=fun σ H Q=>ta σ H fun x H1=>∃c,x=.bl c/\if c=true then tb σ H1 Q else Q (.bl false) H1
def WC(ta tb:TE):TE:=fun σ H Q=>ta σ H fun x H1=>∃c,x=.bl c/\if c=true then Q (.bl true) H1 else tb σ H1 Q
theorem NO{op}(h:PE X a t):PE X (.BoolOp op [a] pos) t:=fun Ug s σ H Q I hw=>BoolOp_one (h Ug s σ H Q I hw)
theorem NI(ha:PE X a ta)(hb:PE X (.BoolOp .And (b::rest) pos) tb):PE X (.BoolOp .And (a::b::rest) pos) (Q24 ta tb):=by intro Ug s σ H Q I h;refine BoolOp_and (bT (ha Ug s σ H _ I h) fun v s1 ⟨x,H1,I1,r1,q1⟩=>?_);obtain⟨c,rfl,q1⟩:=q1;cases r1;refine Lb ?_;cases c with|true=>exact hb Ug s1 σ H1 Q I1 q1|false=>exact⟨.bl false,H1,I1,rfl,q1⟩
theorem Sk(ha:PE X a ta)(hb:PE X (.BoolOp .Or (b::rest) pos) tb):PE X (.BoolOp .Or (a::b::rest) pos) (WC ta tb):=by intro Ug s σ H Q I h;refine BoolOp_or (bT (ha Ug s σ H _ I h) fun v s1 ⟨x,H1,I1,r1,q1⟩=>?_);obtain⟨c,rfl,q1⟩:=q1;cases r1;refine Lb ?_;cases c with|false=>exact hb Ug s1 σ H1 Q I1 q1|true=>exact⟨.bl true,H1,I1,rfl,q1⟩
def Z3(t:TT)(ta tb:TE):TE:=fun σ H Q=>t σ H fun c H1=>if c=true then ta σ H1 Q else tb σ H1 Q
theorem EL{c:Expr}(hc:PT X c tA)(ha:PE X a ta)(hb:PE X b tb):PE X (.IfExp c a b pos) (Z3 tA ta tb):=by intro Ug s σ H Q I h;refine wpAny_IfExp (bT (hc Ug s σ H _ I h) fun d s1 ⟨H1,I1,q1⟩=>?_);cases d with|true=>exact ha Ug s1 σ H1 Q I1 q1|false=>exact hb Ug s1 σ H1 Q I1 q1
end
def cX(K:W.Frag)(H:Hp)(a:Addr)(xs:OY):Prop:=Rd H a (.lst xs)\/∃(o:Obj)(aI:Array Value)(n:Nat),K.lookup a=some o/\o.cls=.type "list" /\ o.dict=none/\o.data=.seq aI n/\aI.size<=sizeLine/\Vals xs aI.toList
def dz(K:W.Frag)(H:Hp)(a:Addr)(xs:OY):Prop:=Rd H a (.tup xs)\/∃(o:Obj)(aI:Array Value)(n:Nat),K.lookup a=some o/\o.cls=.type "tuple" /\ o.data=.seq aI n/\aI.size<=sizeLine/\Vals xs aI.toList/\o.dict=none
def Q2f:Value->Option V|.none=>some .bE|.bool b=>some (.bl b)|.int i _=>some (.int i)|.str x _=>some (.str x)|.bytes b _=>some (.TQ b)|.float b _=>some (.TZ b)|.ref a=>some (.ref a)|.type n=>some (.ty n)|_=>none
theorem RelV.abs(r:RelV x u):Q2f u=some x:=by cases x with|bE=>cases r;rfl|bl _=>cases r;rfl|int _=>obtain⟨t,rfl⟩:=r;rfl|str _=>obtain⟨t,rfl⟩:=r;rfl|TQ _=>obtain⟨t,rfl⟩:=r;rfl|TZ _=>obtain⟨t,rfl⟩:=r;rfl|ref _=>cases r;rfl|ty _=>cases r;rfl
theorem RelV.inj(r:RelV x u)(q:RelV y u):x=y:=OH (r.abs.symm.trans q.abs)
theorem Vals.inj:∀{xs ys:OY}{us:Ul},Vals xs us->Vals ys us->xs=ys|_,_,_,.nil,.nil=>rfl|_,_,_,.cons r t,.cons r' t'=>by rw[r.inj r',Vals.inj t t']
section
variable{X:Cx}{Ug:U5}{σ:St}{H:Hp}{s:Shared}{a:Addr}{xs ys:OY}
theorem cX.of{K:W.Frag}(h:H a=some (.lst xs)):cX K H a xs:=.inl (.inl h)
theorem dz.of{K:W.Frag}(h:H a=some (.tup xs)):dz K H a xs:=.inl (.inl h)
theorem Inv.list(I:Inv X Ug σ H s)(h:cX X.K H a xs):∃aI:Ul,Vals xs aI/\PlainL s.heap a aI.toArray/\xs.length<=sizeLine:=by rcases h with h|⟨o,aI,n,hk,hc,hd,hs,hz,r⟩;obtain⟨z,aI,n,r,e⟩:=h.ok I.cj;exact⟨aI,r,⟨_,n,e,rfl,rfl,rfl⟩,z⟩;refine⟨aI.toList,r,⟨o,n,I.rk a o hk,hc,hd,by simpa using hs⟩,?_⟩;have e:=r.length;simp only[Array.length_toList] at e;omega
theorem Inv.OG(I:Inv X Ug σ H s)(h:dz X.K H a xs):∃aI:Ul,Vals xs aI/\lI s.heap a aI.toArray/\xs.length<=sizeLine:=by rcases h with h|⟨o,aI,n,hk,hc,hs,hz,r,dn⟩;obtain⟨z,aI,r,p⟩:=h.ok I.cj;exact⟨aI,r,p,z⟩;refine⟨aI.toList,r,⟨o,I.rk a o hk,hc,⟨n,by simpa using hs⟩,dn⟩,?_⟩;have e:=r.length;simp only[Array.length_toList] at e;omega
theorem Inv.tuple(I:Inv X Ug σ H s)(h:dz X.K H a xs):∃aI:Ul,Vals xs aI/\IsTup s.heap a aI.toArray/\xs.length<=sizeLine:=by obtain⟨aI,r,p,z⟩:=I.OG h;exact⟨aI,r,p.tup,z⟩
theorem Inv.qt(I:Inv X Ug σ H s)(h:cX X.K H a xs)(h':cX X.K H a ys):xs=ys:=by
 obtain⟨aI,r,⟨o,n,e,_,_,d⟩,_⟩:=I.list h;obtain⟨its',r',⟨o',n',e',_,_,d'⟩,_⟩:=I.list h';rw[e] at e';cases e';rw[d] at d';injection d' with d1 _;have:aI=its':=by simpa using congrArg Array.toList d1
 subst this;exact r.inj r'
theorem Inv.sY(I:Inv X Ug σ H s)(h:dz X.K H a xs)(h':dz X.K H a ys):xs=ys:=by
 obtain⟨aI,r,⟨o,e,_,n,d⟩,_⟩:=I.tuple h;obtain⟨its',r',⟨o',e',_,n',d'⟩,_⟩:=I.tuple h';rw[e] at e';cases e';rw[d] at d';injection d' with d1 _;have:aI=its':=by simpa using congrArg Array.toList d1
 subst this;exact r.inj r'
end
abbrev Cx.pq(X:Cx)(E:RG):Cx:={X with xe:=E}
abbrev Cx.Km(X:Cx):Cx:=X.pq fun _ _=>False
theorem Cx.Ok.pq{X:Cx}(ok:X.Ok)(E:RG):(X.pq E).Ok:=⟨ok.mod,ok.kind,ok.glob,ok.blt,ok.above,ok.inj,ok.has,ok.Qi,ok.hd,ok.frames,ok.Uv,ok.TY,ok.bs,ok.FN,ok.Eu,ok.C8,ok.nh,ok.JX⟩
theorem Cx.Ok.jk{X:Cx}{E:RG}(ok:(X.pq E).Ok):X.Ok:=⟨ok.mod,ok.kind,ok.glob,ok.blt,ok.above,ok.inj,ok.has,ok.Qi,ok.hd,ok.frames,ok.Uv,ok.TY,ok.bs,ok.FN,ok.Eu,ok.C8,ok.nh,ok.JX⟩
section
variable{X:Cx}{Ug:U5}{σ:St}{H:Hp}{s:Shared}{E:RG}
theorem Inv.pq(I:Inv X Ug σ H s)(E:RG):Inv (X.pq E) Ug σ H s:=⟨I.ok.pq E,I.os,I.bare,I.base,I.loc,I.cell,I.free,I.jP,I.pin,I.cj,I.len⟩
theorem Inv.jk(I:Inv (X.pq E) Ug σ H s):Inv X Ug σ H s:=⟨I.ok.jk,I.os,I.bare,I.base,I.loc,I.cell,I.free,I.jP,I.pin,I.cj,I.len⟩
theorem SP.jk(h:SP (X.pq E) Ug D f s'):SP X Ug D f s':=by cases f with|next=>obtain⟨bD,H',I,q⟩:=h;exact⟨bD,H',I.jk,q⟩|brk=>obtain⟨bD,H',I,q⟩:=h;exact⟨bD,H',I.jk,q⟩|cont=>obtain⟨bD,H',I,q⟩:=h;exact⟨bD,H',I.jk,q⟩|ret u=>obtain⟨v,bD,H',I,r,q⟩:=h;exact⟨v,bD,H',I.jk,r,q⟩
theorem wM.Km{st:List Stmt}{t:TS}(h:wM X.Km st t):wM X st t:=fun Ug s σ H D I hw=>R3 (h Ug s σ H D (I.pq _) hw) (fun _ _ q=>q.jk) fun _ _ z=>False.elim z
end
section
variable{X:Cx}{st:Stmt}{rest:List Stmt}{t u:TS}{e:Expr}{te:TE}{pos:Pos}
def S5:TS:=fun D σ H=>D.nx σ H
def Q2D(t u:TS):TS:=fun D σ H=>t {D with nx:=u D} σ H
theorem Ij:wM X [] S5:=fun _ _ σ H _ I h=>wpAny_execs_nil ⟨σ,H,I,h⟩
theorem Q2N(h1:PS X st t)(h2:wM X rest u):wM X (st::rest) (Q2D t u):=by intro Ug s σ H D I h;refine wpAny_execs_cons (bT (h1 Ug s σ H {D with nx:=u D} I h) fun f s1 q=>?_);cases f with|next=>obtain⟨bD,H',I',q⟩:=q;exact h2 Ug s1 bD H' D I' q|ret v=>exact q|brk=>exact q|cont=>exact q
theorem Inv.quiet{Ug:U5}{σ:St}{H:Hp}{s:Shared}(I:Inv X Ug σ H s):interactive X.env=false:=by simp[interactive,I.ok.kind]
def S4(te:TE):TS:=fun D σ H=>te σ H fun _ H1=>D.nx σ H1
theorem uu(he:PE X e te)(hs:swapsWith e none pos.line X.env=pure false:=by rfl):PS X (.Expr e pos) (S4 te):=by intro Ug s σ H D I h;exact wpAny_Expr_any (bT (he Ug s σ H _ I h) fun v s1 ⟨x,H1,I1,r1,q1⟩=>⟨σ,H1,I1,q1⟩) I.quiet hs
def Q1o(te:TE):TS:=fun D σ H=>te σ H D.rt
theorem NY(he:PE X e te):PS X (.Return (some e) pos) (Q1o te):=by intro Ug s σ H D I h;exact wpAny_Return_some (bT (he Ug s σ H _ I h) fun v s1 ⟨x,H1,I1,r1,q1⟩=>⟨x,σ,H1,I1,r1,q1⟩)
def Q2K(c:TT)(t u:TS):TS:=fun D σ H=>c σ H fun b H1=>if b=true then t D σ H1 else u D σ H1
theorem Su{c:Expr}{a b:List Stmt}{tc:TT}(hc:PT X c tc)(ha:wM X a t)(hb:wM X b u):PS X (.If c a b pos) (Q2K tc t u):=by intro Ug s σ H D I h;refine wpAny_If (bT (hc Ug s σ H _ I h) fun d s1 ⟨H1,I1,q1⟩=>?_);cases d with|true=>exact ha Ug s1 σ H1 D I1 q1|false=>exact hb Ug s1 σ H1 D I1 q1
end
abbrev TG:=V->St->Hp->(St->Hp->Prop)->Prop
abbrev JB:=List V->St->Hp->(St->Hp->Prop)->Prop
def PG(X:Cx)(target:Expr)(t:TG):Prop:=∀(Ug:U5)(s:Shared)(σ:St)(H:Hp)(v:V)(u:Value)(Q:St->Hp->Prop),Inv X Ug σ H s->RelV v u->t v σ H Q->wpAny (model X.prog X.w) X.A (assign target X.env u) (fun _ s'=>∃bD H',Inv X Ug bD H' s'/\Q bD H') X.xe s
def FL(X:Cx)(ts:Wg)(t:JB):Prop:=∀(Ug:U5)(s:Shared)(σ:St)(H:Hp)(vs:OY)(us:Ul)(Q:St->Hp->Prop),Inv X Ug σ H s->Vals vs us->t vs σ H Q->wpAny (model X.prog X.w) X.A (assignInOrder ((assignEach ts X.env).map (·.2)) us) (fun _ s'=>∃bD H',Inv X Ug bD H' s'/\Q bD H') X.xe s
abbrev KU:=V->V->V->Hp->(Hp->Prop)->Prop
def PZ(X:Cx)(t:KU):Prop:=∀(Ug:U5)(s:Shared)(σ:St)(H:Hp)(o i v:V)(ov iv u:Value)(Q:Hp->Prop),Inv X Ug σ H s->RelV o ov->RelV i iv->RelV v u->t o i v H Q->wpAny (model X.prog X.w) X.A (setItem ov iv u) (fun _ s'=>∃H',Inv X Ug σ H' s'/\Q H') X.xe s
section
variable{X:Cx}{pos:Pos}
def Me(i:Nat):TG:=fun v σ H Q=>Q (σ.set i (some v)) H
theorem zW(hN:X.N.Nodup)(hi:X.N[i]?=some x)(hx:Loc X.env.scope x)(hf:X.fn x=true\/X.env.scope.names.lookup x=some .local:=by exact Ig):PG X (.Name x pos) (Me i):=by intro Ug s σ H v u Q I r h;exact Sj (wz I hN hi hx r (fun s' I'=>⟨_,H,I',h⟩) hf)
def U7:JB:=fun vs σ H Q=>vs=[]/\Q σ H
def Qu(t:TG)(u:JB):JB:=fun vs σ H Q=>∃v r,vs=v::r/\t v σ H fun bD H'=>u r bD H' Q
theorem Q2Z:FL X [] U7:=by intro Ug s σ H vs us Q I r h;obtain⟨e,h⟩:=h;subst e;cases r;exact assignInOrder_nil ⟨σ,H,I,h⟩
theorem EO{e:Expr}{es:Wg}{t:TG}{u:JB}(h1:PG X e t)(h2:FL X es u)(hs:(assignEach (e::es) X.env).map (·.2)=assign e X.env::(assignEach es X.env).map (·.2):=by rfl):FL X (e::es) (Qu t u):=by intro Ug s σ H vs us Q I r h;obtain⟨v,vr,e1,h⟩:=h;subst e1;cases r with|cons r rr=>rw[hs];refine assignInOrder_cons (bT (h1 Ug s σ H _ _ _ I r h) fun _ s1 ⟨KL,H1,I1,q1⟩=>?_);exact h2 Ug s1 KL H1 _ _ Q I1 rr q1
def Q2l(K:W.Frag)(n:Nat)(t:JB):TG:=fun v σ H Q=>∃a xs,v=.ref a/\dz K H a xs/\xs.length=n/\t xs σ H Q
theorem NR{es:Wg}{k:Nat}{t:JB}{n:Nat}(hc:X.calm=true)(h:FL X es t)(hn:(assignEach es X.env).length=n:=by rfl) (jB:(assignEach es X.env).findIdx? (·.1)=none:=by rfl):PG X (.Tuple es k pos) (Q2l X.K n t):=by intro Ug s σ H v u Q I r hw;obtain⟨a,xs,e1,hq,hl,hw⟩:=hw;subst e1;cases r;obtain⟨aI,rv,ht,hz⟩:=I.tuple hq;refine assign_Tuple_tuple (I.ok.hd hc) ht (by simp[hn,<-hl,rv.length]) jB fun h' hx=>?_;have I1:Inv X Ug σ H {s with heap:=h'}:=I.kept (t':=s.toks) fun b o e=>hx b o (Uh (Ta e)) e;exact h Ug _ σ H xs _ Q I1 (by simpa using rv) hw
def U8(to ti:TE)(t:KU):TG:=fun v σ H Q=>to σ H fun o H1=>ti σ H1 fun i H2=>t o i v H2 fun H3=>Q σ H3
theorem NQ{o i:Expr}{to ti:TE}{t:KU}(ho:PE X o to)(hi:PE X i ti)(hs:PZ X t)(ha:∀v,assign (.Subscript o i pos) X.env v=(do
  let ov <-holding [v] (eval o X.env);let iv <-holding [v,ov] (eval i X.env)
  standAt pos
  holding [v,ov,iv] (setItem ov iv v)
  release [v,ov,iv] []):=by exact Ri):PG X (.Subscript o i pos) (U8 to ti t):=by
 intro Ug s σ H v u Q I r h;rw[ha];refine ZM (Jn (bT (ho Ug s σ H _ I h) fun ov s1 ⟨x,H1,I1,r1,q1⟩=>?_));refine ZM (Jn (bT (hi Ug s1 σ H1 _ I1 q1) fun iv s2 ⟨y,H2,I2,r2,q2⟩=>?_));refine ZM (RW (ZM (Jn (bT (hs Ug s2 σ H2 x y v ov iv u _ I2 r1 r2 r q2) fun _ s3 ⟨H3,I3,q3⟩=>?_))));exact wpAny_release ⟨σ,H3,I3,q3⟩
def SW(te:TE)(g:TG):TS:=fun D σ H=>te σ H fun x H1=>g x σ H1 D.nx
theorem NV{tg e:Expr}{te:TE}{g:TG}(he:PE X e te)(hg:PG X tg g)(hs:swapsWithSole [tg] e pos.line X.env=pure false:=by rfl)(hw:swappedStores [tg] e X.env=pure none:=by rfl)(h1:(assignEach [tg] X.env).map (·.2)=[assign tg X.env]:=by rfl):PS X (.Assign [tg] e pos) (SW te g):=by intro Ug s σ H D I h;refine wpAny_Assign_stores (bT (he Ug s σ H _ I h) fun v s1 ⟨x,H1,I1,r1,q1⟩=>?_) hs hw;rw[h1];exact bT (hg Ug s1 σ H1 x v _ I1 r1 q1) fun _ s2 q=>q
theorem EU{i:Nat}{x:Str}{e:Expr}{te:TE}{V6:Pos}(hN:X.N.Nodup)(hi:X.N[i]?=some x)(hx:Loc X.env.scope x)(he:PE X e te)(hs:swapsWith e (some (.Name x V6)) pos.line X.env=pure false:=by rfl)(hf:X.fn x=true\/X.env.scope.names.lookup x=some .local:=by exact Ig) : PS X (.Assign [.Name x V6] e pos) (SW te (Me i)):=by intro Ug s σ H D I h;refine wpAny_Assign_Name (bT (he Ug s σ H _ I h) fun v s1 ⟨y,H1,I1,r1,q1⟩=>?_) hs;exact wz I1 hN hi hx r1 (fun s2 I2=>⟨_,H1,I2,q1⟩) hf
end
section
variable{X:Cx}{pos:Pos}
def OB(c:TT)(tb:TS):TS:=fun D σ H=>∃W:Nat->St->Hp->Prop,(∃m,W m σ H)/\∀m σ H,W m σ H->c σ H fun b H1=>if b=true then ∃N:St->Hp->Prop,(∀bD H',N bD H'->∃m',m'<m/\W m' bD H')/\tb {D with nx:=N,ct:=N,bk:=D.nx} σ H1 else D.nx σ H1
theorem EV{c:Expr}{body:List Stmt}{tc:TT}{tb:TS}(hp:PassesOwn (model X.prog X.w) X.A X.env X.xe)(hc:PT X c tc)(hb:wM X body tb):PS X (.While c body [] pos) (OB tc tb):=by
 intro Ug s σ H D I h;obtain⟨W,⟨m0,w0⟩,turn⟩:=h;refine wpAny_While (codeAny_whileLoop (fun n s'=>∃bD H',Inv X Ug bD H' s'/\W n bD H') ?_ m0 ⟨σ,H,I,w0⟩);rintro n s1 ⟨KL,H1,I1,w1⟩;refine L4 hp (bT (hc Ug s1 KL H1 _ I1 (turn n KL H1 w1)) fun b s2 ⟨H2,I2,q2⟩=>?_);cases b with
 |true=>obtain⟨N,hN,q2⟩:=q2;rw[Wr rfl];refine L4 hp (bT (hb Ug s2 KL H2 _ I2 q2) fun f s3 q3=>?_);cases f with|next=>obtain⟨FI,H3,I3,n3⟩:=q3;obtain⟨m',hm,w3⟩:=hN FI H3 n3;exact⟨m',hm,FI,H3,I3,w3⟩|cont=>obtain⟨FI,H3,I3,n3⟩:=q3;obtain⟨m',hm,w3⟩:=hN FI H3 n3;exact⟨m',hm,FI,H3,I3,w3⟩|brk=>exact q3|ret v=>exact q3
 |false=>rw[Uu DV];exact wpAny_execs_nil ⟨KL,H2,I2,q2⟩
end
structure It where
 go:Nat->Hp->Prop
 Uz:Nat->Hp->V->Hp->Prop
 stop:Nat->Hp->Prop
def jy(X:Cx)(Ug:U5)(H:Hp)(b:Addr):Prop:=H b=none/\b≠X.env.locals/\b∉X.fs/\(b∈X.ex\/X.s₀.heap.objs.size<=b)/\(∀x c,X.env.cells.lookup x=some c->c≠b)/\∀p∈X.pn++Ug,p.1≠b
theorem Inv.qf{X:Cx}{Ug:U5}{σ:St}{H H':Hp}{s:Shared}{b:Addr}(I:Inv X Ug σ H s)(hb:s.heap.objs.size<=b)(hn:H' b=none):jy X Ug H' b:=by refine⟨hn,Ov (Bc I.lt hb),I.Wb hb,.inr (WH I.sz hb),fun x c e z=>?_,fun p hp z=>?_⟩;obtain⟨v,q⟩:=I.cell x c e;exact absurd (Bc q.lt (by rw[z];exact hb)) (Sx _);exact absurd (Bc (Ta (I.pin p hp).1) (by rw[z];exact hb)) (Sx _)
structure Turn(P:Program)(w:World)(K:W.Frag)(tg:Expr)(J:It)(fp:XU)(it:Addr)(tn:Nat->Heap->Prop):Prop where
 mem:it∈fp
 obj:∀i h,tn i h->∀b∈fp,∃o,h.get? b=some o/\∀v,o.data≠.cell v
 keep:∀i h h',tn i h->(∀b∈fp,∀o,h.get? b=some o->h'.get? b=some o)->tn i h'
 item:∀(X:Cx),X.prog=P->X.w=w->X.K=K->X.calm=true->∀(i:Nat)(Ug:U5)(s:Shared)(σ:St)(H:Hp)(E:RG),Inv X Ug σ H s->(∀b∈fp,jy X Ug H b)->tn i s.heap->J.go i H->wpAny (model P w) X.A (pyNext (.ref it)) (fun r s1=>∃u,r=some u/\wpAny (model P w) X.A (letOwnedTupleGo tg (.ref it) u) (fun _ s2=>∃x H',Inv X Ug σ H' s2/\RelV x u/\J.Uz i H x H'/\tn (i+1) s2.heap/\∀b∈fp,H' b=none) E s1) E s
 done:∀(X:Cx),X.prog=P->X.w=w->X.K=K->X.calm=true->∀(i:Nat)(Ug:U5)(s:Shared)(σ:St)(H:Hp)(E:RG),Inv X Ug σ H s->(∀b∈fp,jy X Ug H b)->tn i s.heap->J.stop i H->wpAny (model P w) X.A (pyNext (.ref it)) (fun r s1=>r=none/\Inv X Ug σ H s1) E s
 self:∀(A:Around)(i:Nat)(s:Shared)(Q:RG)(E:RG),tn i s.heap->Q (.ref it) s->wpAny (model P w) A (pyIter (.ref it)) Q E s
abbrev TI:=St->Hp->(It->Hp->Prop)->Prop
def W0(X:Cx)(Ug:U5)(σ:St)(tg:Expr)(R:It->Hp->Prop)(VT:Value)(s2:Shared):Prop:=∃(it:Addr)(fp:XU)(tn:Nat->Heap->Prop)(J:It)(H':Hp),VT=.ref it/\Inv X Ug σ H' s2/\Turn X.prog X.w X.K tg J fp it tn/\tn 0 s2.heap/\(∀b∈fp,jy X Ug H' b)/\R J H'
def PI(X:Cx)(tg Ut:Expr)(wi:TI):Prop:=∀(Ug:U5)(s:Shared)(σ:St)(H:Hp)(R:It->Hp->Prop),Inv X Ug σ H s->wi σ H R->wpAny (model X.prog X.w) X.A (eval Ut X.env) (fun v s1=>wpAny (model X.prog X.w) X.A (pyIter v) (W0 X Ug σ tg R) X.xe s1) X.xe s
theorem sv(ho:s.heap.get? it=some o)(hc:o.cls=.type n)(hd:o.data=.fields vs)
    (hn:["enumerate","zip","dict_itemiterator","dict_reverseitemiterator","odict_iterator","itertools.zip_longest","itertools.pairwise"].contains n=false) (hQ:Q () s):wpAny M A (letOwnedTupleGo tg (.ref it) u) Q E s:=by
  unfold letOwnedTupleGo
  cases tg<;>first
    |exact Pf hQ
    | (cases u<;>first
        |exact Pf hQ
        | (refine ZM (wpAny_load ho ?_)
           rw[hc,hd]
           show wpAny M A (if (["enumerate","zip","dict_itemiterator","dict_reverseitemiterator","odict_iterator","itertools.zip_longest","itertools.pairwise"].contains n&&vs[0]? == some (rawInt _))=true then _ else _) Q E s
           rw[Uu (by intro h;rw[hn,Bool.false_and] at h;cases h)]
           exact Pf hQ))
def UL(K:W.Frag)(a:Addr):It:=⟨fun i H=>∃xs x,cX K H a xs/\xs[i]?=some x,fun i H x H'=>H'=H/\∀xs,cX K H a xs->xs[i]?=some x,fun i H=>∃xs,cX K H a xs/\xs.length<=i⟩
def UM(K:W.Frag)(a:Addr):It:=⟨fun i H=>∃xs x,dz K H a xs/\xs[i]?=some x,fun i H x H'=>H'=H/\∀xs,dz K H a xs->xs[i]?=some x,fun i H=>∃xs,dz K H a xs/\xs.length<=i⟩
def Tw(lo:Int)(n:Nat):It:=⟨fun i _=>i<n,fun i H x H'=>H'=H/\x=.int (lo+i),fun i _=>n<=i⟩
theorem Q1m{P:Program}{w:World}{K:W.Frag}{tg:Expr}(a it:Addr):Turn P w K tg (UL K a) [it] it (fun i h=>h.IsListIter it a i) where
 mem:=Ro
 obj:=fun i h st b hb=>by
  have e:b=it:=by simpa using hb
  subst e;obtain⟨o,e,c,d⟩:=st;exact⟨o,e,fun v z=>by rw[d] at z;cases z⟩
 keep:=fun i h h' st k=>st.at fun o e=>k it Ro o e
 item:=by intro X hP hw hK hc i Ug s σ H E I hf st hg;subst hP hw hK;obtain⟨xs,x,hq,hx⟩:=hg;obtain⟨aI,rv,p,hz⟩:=I.list hq;obtain⟨u,hu,ru⟩:=rv.get hx;obtain⟨f0,f1,f2,f3,f4,f5⟩:=hf it Ro;refine wpAny_pyNext_list_item st p.isList (x:=u) (by simpa using hu) fun h' mD sb=>?_;have I1:Inv X Ug σ H {s with heap:=h'}:=I.turned (t':=s.toks) (fun b o hb e=>(sb.2 b hb).trans e) f0 f1 f3 f4 f5;obtain⟨o,e,c,d⟩:=id mD;exact⟨u,rfl,sv (s:={s with heap:=h'}) e c d (by decide) ⟨x,H,I1,ru,⟨rfl,fun ys hy=>by rw[I.qt hy hq];exact hx⟩,mD,fun b hb=>(hf b hb).1⟩⟩
 done:=by intro X hP hw hK hc i Ug s σ H E I hf st hg;subst hP hw hK;obtain⟨xs,hq,hx⟩:=hg;obtain⟨aI,rv,p,hz⟩:=I.list hq;obtain⟨f0,f1,f2,f3,f4,f5⟩:=hf it Ro;have hl:=rv.length;exact wpAny_pyNext_list_end (I.ok.hd hc) st p.isList (by simp;omega) fun h' eb=>⟨rfl,I.turned (t':=s.toks) (fun b o hb e=>eb b o hb e) f0 f1 f3 f4 f5⟩
 self:=fun _ _ _ _ _ st h=>wpAny_pyIter_listiter st h
theorem yu{P:Program}{w:World}{K:W.Frag}{tg:Expr}(a it:Addr):Turn P w K tg (UM K a) [it] it (fun i h=>h.IsTupleIter it a i) where
 mem:=Ro
 obj:=fun i h st b hb=>by
  have e:b=it:=by simpa using hb
  subst e;obtain⟨o,e,c,d⟩:=st;exact⟨o,e,fun v z=>by rw[d] at z;cases z⟩
 keep:=fun i h h' st k=>st.at fun o e=>k it Ro o e
 item:=by intro X hP hw hK hc i Ug s σ H E I hf st hg;subst hP hw hK;obtain⟨xs,x,hq,hx⟩:=hg;obtain⟨aI,rv,p,hz⟩:=I.tuple hq;obtain⟨u,hu,ru⟩:=rv.get hx;obtain⟨f0,f1,f2,f3,f4,f5⟩:=hf it Ro;refine wpAny_pyNext_tuple_item st (show s.heap.IsTuple a aI.toArray from p) (x:=u) (by simpa using hu) fun h' mD sb=>?_;have I1:Inv X Ug σ H {s with heap:=h'}:=I.turned (t':=s.toks) (fun b o hb e=>(sb.2 b hb).trans e) f0 f1 f3 f4 f5;obtain⟨o,e,c,d⟩:=id mD;exact⟨u,rfl,sv (s:={s with heap:=h'}) e c d (by decide) ⟨x,H,I1,ru,⟨rfl,fun ys hy=>by rw[I.sY hy hq];exact hx⟩,mD,fun b hb=>(hf b hb).1⟩⟩
 done:=by intro X hP hw hK hc i Ug s σ H E I hf st hg;subst hP hw hK;obtain⟨xs,hq,hx⟩:=hg;obtain⟨aI,rv,p,hz⟩:=I.tuple hq;obtain⟨f0,f1,f2,f3,f4,f5⟩:=hf it Ro;have hl:=rv.length;exact wpAny_pyNext_tuple_end (I.ok.hd hc) st (show s.heap.IsTuple a aI.toArray from p) (by simp;omega) fun h' eb=>⟨rfl,I.turned (t':=s.toks) (fun b o hb e=>eb b o hb e) f0 f1 f3 f4 f5⟩
 self:=fun _ _ _ _ _ st h=>wpAny_pyIter_tupleiter st h
theorem yt{P:Program}{w:World}{K:W.Frag}{tg:Expr}(it:Addr)(lo:Int)(n:Nat):Turn P w K tg (Tw lo n) [it] it (fun i h=>IsRangeIter h it (lo+(i:Nat)*1) ((n:Int)-(i:Nat)) 1) where
 mem:=Ro
 obj:=fun i h st b hb=>by
  have e:b=it:=by simpa using hb
  subst e;exact⟨_,st,fun v z=>by have z':Data.fields _=Data.cell v:=z;cases z'⟩
 keep:=fun i h h' st k=>k it Ro _ st
 item:=by intro X hP hw hK hc i Ug s σ H E I hf st hg;subst hP hw hK;obtain⟨f0,f1,f2,f3,f4,f5⟩:=hf it Ro;have W:=Walks.range (prog:=X.prog) (w:=X.w) (I.ok.hd hc) it lo 1 n;refine W.item i s _ _ hg st fun v h' tk hv mD kk=>?_;obtain⟨t,rfl⟩:=hv;have I1:Inv X Ug σ H {s with heap:=h',toks:=tk}:=I.turned (fun b o hb e=>kk b o (by simpa using hb) e) f0 f1 f3 f4 f5;refine⟨_,rfl,sv (s:={s with heap:=h',toks:=tk}) (n:="range_iterator") mD rfl rfl (by decide) ⟨.int (lo+i),H,I1,⟨t,?_⟩,⟨rfl,rfl⟩,mD,fun b hb=>(hf b hb).1⟩⟩;rw[Int.mul_one]
 done:=by intro X hP hw hK hc i Ug s σ H E I hf st hg;subst hP hw hK;obtain⟨f0,f1,f2,f3,f4,f5⟩:=hf it Ro;exact wpAny_pyNext_range_end (I.ok.hd hc) st (by have:n<=i:=hg;omega) fun h' eb=>⟨rfl,I.turned (t':=s.toks) (fun b o hb e=>eb b o hb e) f0 f1 f3 f4 f5⟩
 self:=fun _ _ _ _ _ st h=>wpAny_pyIter_rangeiter st h
section
variable{X:Cx}{tg:Expr}
theorem E6{Ug:U5}{σ:St}{H:Hp}{s:Shared}{R:It->Hp->Prop}{E:RG}{lo hi:Int}{t u v:Tok}{tk:Nat}(I:Inv X Ug σ H s)(h1:-(2 ^ 62)<=lo)(h2:lo<2 ^ 62)(h3:-(2 ^ 62)<=hi)(h4:hi<2 ^ 62)(q:R (Tw lo (hi-lo).toNat) H):wpAny (model X.prog X.w) X.A (pyIter (.ref s.heap.objs.size)) (W0 X Ug σ tg R) E {s with heap:=s.heap.push {cls:=.type "range",data:=.fields #[.int lo t,.int hi u,.int 1 v]},toks:=tk}:=by
 refine wpAny_pyIter_range (IsRange.new ..) (small_one h1 h2 h3 h4) ?_;have I1:Inv X Ug σ H {s with heap:=s.heap.push {cls:=.type "range",data:=.fields #[.int lo t,.int hi u,.int 1 v]},toks:=tk}:=I.kept fun b o e=>T2 _ e;refine⟨(s.heap.push {cls:=.type "range",data:=.fields #[.int lo t,.int hi u,.int 1 v]}).objs.size,[(s.heap.push {cls:=.type "range",data:=.fields #[.int lo t,.int hi u,.int 1 v]}).objs.size],_,_,H,rfl,I1.kept (t':=tk) fun b o e=>T2 _ e,yt _ lo (hi-lo).toNat,?_,fun b hb=>?_,q⟩;have e1:lo+((0:Nat):Int)*1=lo:=Ro;have e2:(((hi-lo).toNat:Nat):Int)-((0:Nat):Int)=Builtin.Range.rangeSize lo hi 1:=by rw[rangeSize_one];split<;>omega
 show IsRangeIter _ _ (lo+((0:Nat):Int)*1) ((((hi-lo).toNat:Nat):Int)-((0:Nat):Int)) 1;rw[e1,e2];exact TR _ rfl;have e:b=(s.heap.push {cls:=.type "range",data:=.fields #[.int lo t,.int hi u,.int 1 v]}).objs.size:=by simpa using hb
 subst e;exact I1.qf (ZS _) (I1.cj.fresh (ZS _))
def Q4(ta:TA):TI:=fun σ H R=>ta σ H fun vs H1=>∃j:Int,vs=[.int j]/\-(2 ^ 62)<=j/\j<2 ^ 62/\R (Tw 0 j.toNat) H1
theorem Bh{a:Expr}{ta:TA}{p pos:Pos}(hg:Gl X "range")(hm:X.mg "range" = none)(ha:PA X [a] ta)(hs:starEach [a] X.env=[(false,eval a X.env)]:=by rfl):PI X tg (.Call (.Name "range" p) [a] [] pos) (Q4 ta):=by intro Ug s σ H R I h;refine Call_ (dA I hg hm boot_range (Nj (bT (ha pos Ug s σ H _ I h) fun us s1 ⟨vs,H1,I1,r1,q1⟩=>?_) hs rfl));obtain⟨j,e,q1,q2,q⟩:=q1;subst e;cases r1 with|cons r rr=>cases rr;obtain⟨t,rfl⟩:=r;exact call_range_1 (E6 I1 Pe Pe q1 q2 (by simpa using q))
def Wy(wi:TI)(g:TG)(tb:TS):TS:=fun D σ H=>wi σ H fun J H1=>∃W:Nat->Nat->St->Hp->Prop,(∃m,W 0 m σ H1)/\∀i m σ H,W i m σ H->(J.stop i H/\D.nx σ H)\/(J.go i H/\∃N:St->Hp->Prop,(∀bD H',N bD H'->∃m',m'<m/\W (i+1) m' bD H')/\∀x H',J.Uz i H x H'->g x σ H' fun UE H2=>tb {D with nx:=N,ct:=N,bk:=D.nx} UE H2)
def qH(fp:XU)(h:Heap):U5:=fp.filterMap fun b=>(h.get? b).map fun o=>(b,o)
theorem jd(hb:b∈fp)(e:h.get? b=some o):(b,o)∈qH fp h:=List.mem_filterMap.mpr ⟨b,hb,by rw[e];rfl⟩
theorem Bd(hp:p∈qH fp h):p.1∈fp/\h.get? p.1=some p.2:=by obtain⟨b,hb,e⟩:=List.mem_filterMap.mp hp;cases q:h.get? b with|none=>rw[q] at e;cases e|some o=>rw[q] at e;have e':(b,o)=p:=OH e;subst e';exact⟨hb,q⟩
theorem Inv.pinned{Ug:U5}{σ:St}{H:Hp}{s:Shared}{fp:XU}(I:Inv X Ug σ H s)(hf:∀b∈fp,jy X Ug H b)(ho:∀b∈fp,∃o,s.heap.get? b=some o/\∀v,o.data≠.cell v):Inv X (Ug++qH fp s.heap) σ H s:=I.zX fun p hp=>(List.mem_append.mp hp).elim (fun z=>I.pin p (Ox _ z)) fun z=>by obtain⟨hb,e⟩:=Bd z;obtain⟨f0,f1,f2,_⟩:=hf p.1 hb;obtain⟨o,e',d⟩:=ho p.1 hb;rw[e] at e';cases e';exact⟨e,f0,f1,f2,d⟩
theorem Inv.mI{Ug pl:U5}{σ:St}{H:Hp}{s:Shared}(I:Inv X (Ug++pl) σ H s):Inv X Ug σ H s:=I.zX fun p hp=>I.pin p (Ox _ (List.mem_append_left _ hp))
theorem NX{Ut:Expr}{body:List Stmt}{wi:TI}{g:TG}{tb:TS}{pos:Pos}(hp:PassesOwn (model X.prog X.w) X.A X.env X.xe)(hc:X.calm=true)(hi:PI X tg Ut wi)(hg:PG X tg g)(hb:wM X body tb)(hs:∀x,foldedSetIterable Ut X.env x=pure x:=by exact Ri):PS X (.For tg Ut body [] pos) (Wy wi g tb):=by
 intro Ug s σ H D I h;refine wpAny_For (bT (hi Ug s σ H _ I h) fun v s1 h1=>bT h1 fun VT s2 h2=>?_) hs;obtain⟨it,fp,tn,J,H2,e,I2,T,yg,f2,W,⟨m0,w0⟩,turn⟩:=h2;subst e;have yi:∀{H':Hp},(∀b∈fp,H' b=none)->∀b∈fp,jy X Ug H' b:=fun hn b hb=>⟨hn b hb,(f2 b hb).2⟩;refine codeAny_forLoop_any (fun n s'=>∃i bD H',Inv X Ug bD H' s'/\tn i s'.heap/\(∀b∈fp,H' b=none)/\W i n bD H') ?_ m0 ⟨0,σ,H2,I2,yg,fun b hb=>(f2 b hb).1,w0⟩;rintro n s3 ⟨i,FI,H3,I3,Yg,Xe,w3⟩;rcases turn i n FI H3 w3 with ⟨stop,qn⟩|⟨go,N,hN,step⟩
 ·refine L4 hp (bT (T.done X rfl rfl rfl hc i Ug s3 FI H3 X.xe I3 (yi Xe) Yg stop) fun r s4 ⟨hr,I4⟩=>?_);subst hr;exact wpAny_execs_nil ⟨FI,H3,I4,qn⟩
 ·refine L4 hp (bT (T.item X rfl rfl rfl hc i Ug s3 FI H3 X.xe I3 (yi Xe) Yg go) fun r s4 ⟨u,hr,h4⟩=>?_);subst hr;refine L4 hp (bT h4 fun _ s5 ⟨x,H5,I5,r5,y5,Wt,YF⟩=>?_);have Yq:=I5.pinned (yi YF) (T.obj _ _ Wt);refine L4 hp (bT (hg _ s5 FI H5 x u _ Yq r5 (step x H5 y5)) fun _ s6 ⟨σ6,H6,I6,q6⟩=>?_);refine L4 hp (bT (hb _ s6 σ6 H6 _ I6 q6) fun f s7 q7=>?_);have again:∀{mS:St}{H7:Hp},Inv X (Ug++qH fp s5.heap) mS H7 s7->N mS H7->∃m,m<n/\∃i bD H',Inv X Ug bD H' s7/\tn i s7.heap/\(∀b∈fp,H' b=none)/\W i m bD H':=fun {mS H7} I7 n7=>by obtain⟨m',hm,w7⟩:=hN mS H7 n7;refine⟨m',hm,i+1,mS,H7,I7.mI,T.keep _ _ _ Wt fun b hb o e=>(I7.pin (b,o) (Ox _ (Ox _ (jd hb e)))).1,fun b hb=>?_,w7⟩;obtain⟨o,e,d⟩:=T.obj _ _ Wt b hb;exact(I7.pin (b,o) (Ox _ (Ox _ (jd hb e)))).2.1
  cases f with|next=>obtain⟨mS,H7,I7,n7⟩:=q7;exact again I7 n7|cont=>obtain⟨mS,H7,I7,n7⟩:=q7;exact again I7 n7|brk=>obtain⟨mS,H7,I7,q7⟩:=q7;exact⟨mS,H7,I7.mI,q7⟩|ret v=>obtain⟨x7,mS,H7,I7,r7,q7⟩:=q7;exact⟨x7,mS,H7,I7.mI,r7,q7⟩
end
abbrev R2:=V->V->Hp->VK->Prop
def gG(X:Cx)(f:Value->Value->Sem Value)(r:R2):Prop:=∀(Ug:U5)(s:Shared)(σ:St)(H:Hp)(x y:V)(v u:Value)(Q:VK),Inv X Ug σ H s->RelV x v->RelV y u->r x y H Q->wpAny (model X.prog X.w) X.A (f v u) (EP X Ug σ Q) X.xe s
def TL(X:Cx)(f:Value->Sem Value)(r:V->Hp->VK->Prop):Prop:=∀(Ug:U5)(s:Shared)(σ:St)(H:Hp)(x:V)(v:Value)(Q:VK),Inv X Ug σ H s->RelV x v->r x H Q->wpAny (model X.prog X.w) X.A (f v) (EP X Ug σ Q) X.xe s
def d6(X:Cx)(f:Value)(r:OY->Hp->VK->Prop):Prop:=∀(Ug:U5)(s:Shared)(σ:St)(H:Hp)(xs:OY)(us:Ul)(Q:VK),Inv X Ug σ H s->Vals xs us->r xs H Q->wpAny (model X.prog X.w) X.A (call f us) (EP X Ug σ Q) X.xe s
def Pp(r:R2)(ta tb:TE):TE:=fun σ H Q=>ta σ H fun x H1=>tb σ H1 fun y H2=>r x y H2 Q
def Z5(r:V->Hp->VK->Prop)(ta:TE):TE:=fun σ H Q=>ta σ H fun x H1=>r x H1 Q
def rI(C:Int->Int->Prop)(g:Int->Int->V):R2:=fun x y H Q=>∃i j,x=.int i/\y=.int j/\C i j/\Q (g i j) H
def wm(g:Int->Int->V):R2:=fun x y H Q=>∃i j,x=.int i/\y=.int j/\Q (g i j) H
def rU(g:Int->V):V->Hp->VK->Prop:=fun x H Q=>∃i,x=.int i/\Q (g i) H
section
variable{X:Cx}{a b c:Expr}{ta tb tc:TE}{pos:Pos}
theorem K8(ha:PE X a ta)(hb:PE X b tb){Ug:U5}{s:Shared}{σ:St}{H:Hp}{R:V->V->Hp->Prop}(I:Inv X Ug σ H s)
  (h:ta σ H fun x H1=>tb σ H1 fun y H2=>R x y H2) {Q:RG} {f:Value->Value->Sem Value}
  (hf:∀v u s2 x y H2,Inv X Ug σ H2 s2->RelV x v->RelV y u->R x y H2->wpAny (model X.prog X.w) X.A (f v u) Q X.xe s2) :
  wpAny (model X.prog X.w) X.A (eval a X.env) (fun v bx=>wpAny (model X.prog X.w) X.A (eval b X.env) (fun u nW=>wpAny (model X.prog X.w) X.A (f v u) Q X.xe nW) X.xe bx) X.xe s:=by
 refine bT (ha Ug s σ H _ I h) fun v s1 ⟨x,H1,I1,r1,q1⟩=>?_;refine bT (hb Ug s1 σ H1 _ I1 q1) fun u s2 ⟨y,H2,I2,r2,q2⟩=>?_;exact hf v u s2 x y H2 I2 r1 r2 q2
theorem Q2I(ho:gG X (binaryOp op) r)(ha:PE X a ta)(hb:PE X b tb):PE X (.BinOp a op b pos) (Pp r ta tb):=by intro Ug s σ H Q I h;exact wpAny_BinOp (K8 ha hb I h fun v u s2 x y H2 I2 rx ry q=>ho Ug s2 σ H2 x y v u Q I2 rx ry q)
theorem Sn{op:UnaryOp}{r:V->Hp->VK->Prop}(ho:TL X (unaryOp op) r)(ha:PE X a ta):PE X (.UnaryOp op a pos) (Z5 r ta):=by intro Ug s σ H Q I h;exact UnaryOp_ (bT (ha Ug s σ H _ I h) fun v s1 ⟨x,H1,I1,r1,q1⟩=>ho Ug s1 σ H1 x v Q I1 r1 q1)
theorem Uk{f:Value->Value->Sem Value}{C:Int->Int->Prop}{g:Int->Int->Int}
  (rule:∀(i j:Int)(t u:Tok)(s:Shared)(Q:RG)(E:RG),C i j->Q (.int (g i j) s.toks) {s with toks:=s.toks+1}->wpAny (model X.prog X.w) X.A (f (.int i t) (.int j u)) Q E s) :
  gG X f (rI C fun i j=>.int (g i j)):=by
 intro Ug s σ H x y v u Q I rx ry h;obtain⟨i,j,rfl,rfl,hc,q⟩:=h;obtain⟨t,rfl⟩:=rx;obtain⟨t',rfl⟩:=ry;exact rule i j t t' s _ _ hc ⟨.int (g i j),H,I.tok _,⟨_,rfl⟩,q⟩
theorem Se{f:Value->Value->Sem Value}{g:Int->Int->Int}
  (rule:∀(i j:Int)(t u:Tok)(s:Shared)(Q:RG)(E:RG),Q (.int (g i j) s.toks) {s with toks:=s.toks+1}->wpAny (model X.prog X.w) X.A (f (.int i t) (.int j u)) Q E s) :
  gG X f (wm fun i j=>.int (g i j)):=by
 intro Ug s σ H x y v u Q I rx ry h;obtain⟨i,j,rfl,rfl,q⟩:=h;obtain⟨t,rfl⟩:=rx;obtain⟨t',rfl⟩:=ry;exact rule i j t t' s _ _ ⟨.int (g i j),H,I.tok _,⟨_,rfl⟩,q⟩
theorem HD{f:Value->Value->Sem Value}{g:Int->Int->Bool}
  (rule:∀(i j:Int)(t u:Tok)(s:Shared)(Q:RG)(E:RG),Q (.bool (g i j)) s->wpAny (model X.prog X.w) X.A (f (.int i t) (.int j u)) Q E s) :
  gG X f (wm fun i j=>.bl (g i j)):=by
 intro Ug s σ H x y v u Q I rx ry h;obtain⟨i,j,rfl,rfl,q⟩:=h;obtain⟨t,rfl⟩:=rx;obtain⟨t',rfl⟩:=ry;exact rule i j t t' s _ _ ⟨.bl (g i j),H,I,rfl,q⟩
def KN(i j:Int):Prop:=0<j/\j<1073741824
def Px(i j:Int):Prop:=0<=j/\j<=1000000/\i.natAbs<2 ^ 64
def wR(i j:Int):Prop:=(-(2 ^ 64)<i/\i<2 ^ 64)\/(-(2 ^ 64)<j/\j<2 ^ 64)
theorem wR.ok(h:wR i j):IntMulOk i j:=by
 rcases h with ⟨h1,h2⟩|⟨h1,h2⟩
 exact .of_left (intBits_le_64 h1 h2);exact .of_right (intBits_le_64 h1 h2)
theorem NC:gG X (binaryOp .Add) (wm fun i j=>.int (i+j)):=Se fun _ _ _ _ _ _ _ q=>add_int q
theorem cZ:gG X (binaryOp .Sub) (wm fun i j=>.int (i-j)):=Se fun _ _ _ _ _ _ _ q=>sub_int q
theorem iu:gG X (binaryOp .Mult) (rI wR fun i j=>.int (i*j)):=Uk fun _ _ _ _ _ _ _ hc q=>mul_int q hc.ok
theorem zT:gG X (binaryOp .FloorDiv) (rI KN fun i j=>.int (i / j)):=Uk fun i j _ _ _ _ _ hc q=>by have h1:(0:Int)<j:=hc.1;have h2:j<1073741824:=hc.2;exact floordiv_int Pe (by rw[Int.fdiv_eq_ediv_of_nonneg i Pe];exact q) (.inl (PyProof.noPylong_small Pe))
theorem lu:gG X (binaryOp .Mod) (rI (fun _ j=>0<j) fun i j=>.int (i % j)):=Uk fun i j _ _ _ _ _ hc q=>by have h1:(0:Int)<j:=hc;exact mod_int' Pe (by rw[Int.fmod_eq_emod_of_nonneg i Pe];exact q)
theorem ND:gG X (binaryOp .Pow) (rI Px fun i j=>.int (i ^ j.toNat)):=Uk fun _ _ _ _ _ _ _ hc q=>pow_int_small hc.1 hc.2.1 hc.2.2 q
theorem Q2F{f:Value->Sem Value}{g:Int->Int}
  (rule:∀(i:Int)(t:Tok)(s:Shared)(Q:RG)(E:RG),Q (.int (g i) s.toks) {s with toks:=s.toks+1}->wpAny (model X.prog X.w) X.A (f (.int i t)) Q E s) :
  TL X f (rU fun i=>.int (g i)):=by
 intro Ug s σ H x v Q I rx h;obtain⟨i,rfl,q⟩:=h;obtain⟨t,rfl⟩:=rx;exact rule i t s _ _ ⟨.int (g i),H,I.tok _,⟨_,rfl⟩,q⟩
theorem nZ:TL X (unaryOp .USub) (rU fun i=>.int (-i)):=Q2F fun _ _ _ _ _ q=>neg_int q
end
section
variable{X:Cx}{a b c:Expr}{ta tb tc:TE}{pos:Pos}
theorem Q2W{Ug:U5}{σ:St}{H:Hp}{s:Shared}{Q:VK}{k k':Bool}(I:Inv X Ug σ H s)(q:Q (.bl k) H)(e:k=k'):EP X Ug σ Q (.bool k') s:=by subst e;exact⟨.bl k,H,I,rfl,q⟩
theorem kS:gG X (compareOp .Lt) (wm fun i j=>.bl (decide (i<j))):=HD fun _ _ _ _ _ _ _ q=>lt_int q
theorem gR:gG X (compareOp .LtE) (wm fun i j=>.bl (decide (i<=j))):=HD fun _ _ _ _ _ _ _ q=>le_int q
theorem oK:gG X (compareOp .Gt) (wm fun i j=>.bl (decide (j<i))):=HD fun _ _ _ _ _ _ _ q=>gt_int q
theorem Kn:gG X (compareOp .GtE) (wm fun i j=>.bl (decide (j<=i))):=HD fun _ _ _ _ _ _ _ q=>ge_int q
theorem qE:gG X (compareOp .Is) (fun x y H Q=>y=.bE/\Q (.bl (decide (x=.bE))) H):=by intro Ug s σ H x y v u Q I rx ry h;obtain⟨rfl,q⟩:=h;cases ry;refine is_none_gen (Q2W I q ?_);cases x<;>first| (cases rx;rfl)| (obtain⟨t,rfl⟩:=rx;rfl)
theorem gG.or(h:gG X f r)(h':gG X f r'):gG X f (fun x y H Q=>r x y H Q\/r' x y H Q):=by intro Ug s σ H x y v u Q I rx ry q;rcases q with q|q;exact h Ug s σ H x y v u Q I rx ry q;exact h' Ug s σ H x y v u Q I rx ry q
theorem bH(b:Expr)(h:op≠.In:=by decide)(h2:op≠.NotIn:=by decide):behindInMarks op b=false:=by
 have e1:(op == CmpOp.In)=false:=by cases op<;>first|rfl|exact absurd rfl h
 have e2:(op == CmpOp.NotIn)=false:=by cases op<;>first|rfl|exact absurd rfl h2
 cases b<;>simp[behindInMarks,e1,e2]
theorem HM(ho:gG X (compareOp op) r)(ha:PE X a ta)(hb:PE X b tb)(hm:behindInMarks op b=false):PE X (.Compare a [op] [b] pos) (Pp r ta tb):=by intro Ug s σ H Q I h;exact wpAny_Compare1 (K8 ha hb I h fun v u s2 x y H2 I2 rx ry q=>ho Ug s2 σ H2 x y v u Q I2 rx ry q) hm
def KC(t:TE):TT:=fun σ H Q=>t σ H fun x H'=>∃k,x=.bl k/\Q k H'
theorem zZ{op:CmpOp}{r:R2}(ho:gG X (compareOp op) r)(ha:PE X a ta)(hb:PE X b tb)(hm:behindInMarks op b=false):PT X (.Compare a [op] [b] pos) (KC (Pp r ta tb)):=by intro Ug s σ H Q I h;refine wpAny_isTrue_Compare1 (bT (ha Ug s σ H _ I h) fun v s1 ⟨x,H1,I1,r1,q1⟩=>bT (hb Ug s1 σ H1 _ I1 q1) fun u s2 ⟨y,H2,I2,r2,q2⟩=>bT (ho Ug s2 σ H2 x y v u _ I2 r1 r2 q2) fun c s3 ⟨z,H3,I3,r3,k,e,q3⟩=>?_) hm;subst e;cases r3;exact Lb ⟨H3,I3,q3⟩
def yn(r r':R2)(ta tb tc:TE):TE:=fun σ H Q=>ta σ H fun x H1=>tb σ H1 fun y H2=>r x y H2 fun z H3=>∃k,z=.bl k/\(if k=true then tc σ H3 fun w' H4=>r' y w' H4 Q else Q (.bl false) H3)
theorem EJ{op Be:CmpOp}{r r':R2}(ho:gG X (compareOp op) r)(uN:gG X (compareOp Be) r')(ha:PE X a ta)(hb:PE X b tb)(hc:PE X c tc)(hm:lastMarks [op,Be] [b,c]=false:=by exact Sa):PE X (.Compare a [op,Be] [b,c] pos) (yn r r' ta tb tc):=by intro Ug s σ H Q I h;refine Compare_chain (bT (ha Ug s σ H _ I h) fun v s1 ⟨x,H1,I1,r1,q1⟩=>chain_link (bT (hb Ug s1 σ H1 _ I1 q1) fun u s2 ⟨y,H2,I2,r2,q2⟩=>bT (ho Ug s2 σ H2 x y v u _ I2 r1 r2 q2) fun d s3 ⟨z,H3,I3,r3,k,e,q3⟩=>?_)) hm;subst e;cases r3;refine Lb ?_;cases k with|false=>exact ite_ff ⟨.bl false,H3,I3,rfl,q3⟩|true=>exact ite_tt (chain_last (bT (hc Ug s3 σ H3 _ I3 q3) fun w' s4 ⟨z',H4,I4,r4,q4⟩=>uN Ug s4 σ H4 y z' u w' Q I4 r2 r4 q4))
theorem EY{op Be:CmpOp}{r r':R2}(ho:gG X (compareOp op) r)(uN:gG X (compareOp Be) r')(ha:PE X a ta)(hb:PE X b tb)(hc:PE X c tc)(hm:lastMarks [op,Be] [b,c]=false:=by exact Sa):PT X (.Compare a [op,Be] [b,c] pos) (KC (yn r r' ta tb tc)):=by intro Ug s σ H Q I h;refine isTrue_chain (bT (ha Ug s σ H _ I h) fun v s1 ⟨x,H1,I1,r1,q1⟩=>test_link (bT (hb Ug s1 σ H1 _ I1 q1) fun u s2 ⟨y,H2,I2,r2,q2⟩=>bT (ho Ug s2 σ H2 x y v u _ I2 r1 r2 q2) fun d s3 ⟨z,H3,I3,r3,k,e,q3⟩=>?_)) hm;subst e;cases r3;refine Lb ?_;cases k with|false=>obtain⟨k',e',q'⟩:=q3;cases e';exact ite_ff ⟨H3,I3,q'⟩|true=>refine ite_tt (test_last (bT (hc Ug s3 σ H3 _ I3 q3) fun w' s4 ⟨z',H4,I4,r4,q4⟩=>bT (uN Ug s4 σ H4 y z' u w' _ I4 r2 r4 q4) fun d' s5 ⟨z2,H5,I5,r5,k2,e2,q5⟩=>?_));subst e2;cases r5;exact Lb ⟨H5,I5,q5⟩
theorem qr:(sizeLine:Nat)<2 ^ 63:=by rw[Ji];decide
theorem vals1(r:Vals [x] us):∃u,us=[u]/\RelV x u:=by cases r with|cons r1 r2=>cases r2;exact⟨_,rfl,r1⟩
theorem vals2(r:Vals [x,y] us):∃u w',us=[u,w']/\RelV x u/\RelV y w':=by cases r with|cons r1 r2=>cases r2 with|cons r3 r4=>cases r4;exact⟨_,_,rfl,r1,r3⟩
theorem iA(hc:X.calm=true):d6 X (.builtin "max") (fun xs H Q=>∃i j,xs=[.int i,.int j]/\Q (.int (if j > i then j else i)) H):=by intro Ug s σ H xs us Q I r h;obtain⟨i,j,rfl,q⟩:=h;obtain⟨u,w',rfl,⟨t,rfl⟩,⟨t',rfl⟩⟩:=vals2 r;refine max_two_ints (I.ok.hd hc) fun h' tk k=>⟨_,H,I.kept k,?_,q⟩;by_cases hj:j > i;rw[Wr hj,Wr hj];exact⟨_,rfl⟩;rw[Uu hj,Uu hj];exact⟨_,rfl⟩
theorem m6:d6 X (.type "int") (fun xs H Q=>(∃i,xs=[.int i]/\Q (.int i) H)\/∃k,xs=[.bl k]/\Q (.int (if k then 1 else 0)) H):=by
 intro Ug s σ H xs us Q I r h;rcases h with ⟨i,rfl,q⟩|⟨k,rfl,q⟩
 obtain⟨u,rfl,t,rfl⟩:=vals1 r;exact call_int_int ⟨.int i,H,I,⟨_,rfl⟩,q⟩;obtain⟨u,rfl,r1⟩:=vals1 r;cases r1;exact call_int_bool ⟨.int (if k then 1 else 0),H,I.tok _,⟨_,rfl⟩,q⟩
end
structure wX(h:Heap)(x dx C:Addr)(mA:Str->X0):Prop where
 obj:h.get? x=some (W.instObj C dx)
 ns:h.Ns1 dx mA
 ne:dx≠x
theorem Q0H{h:Heap}{dx:Addr}{mA:Str->X0}(n:h.Ns1 dx mA):∃od,h.get? dx=some od/\∀name,W.lookIn name od=some (mA name):=by
 obtain⟨o,es,ep,ho,hd,hk,_,hm⟩:=n;refine⟨o,ho,fun name=>?_⟩;have e:=hm name;unfold nsFind findBy at e;rw[<-Array.find?_toList] at e;unfold W.lookIn;rw[hd];dsimp only;split;rename_i y q;rw[q] at e;exact congrArg some e;rename_i q;rw[q] at e;have a:es.toList.any (·.refKey)=false:=by rw[List.any_eq_false];intro y hy;obtain⟨z,t,DE⟩:=hk y (Array.mem_toList_iff.mp hy);simp[DictEntry.refKey,DE]
 have a':¬es.toList.any (·.refKey)=true:=by rw[a];exact DV
 rw[Uu a'];exact congrArg some e
theorem wX.look(I:wX h x dx C mA):∃od,W.InstAt h x (W.instObj C dx) C (some od)/\∀name,W.lookIn name od=some (mA name):=
 let ⟨od,ho,hl⟩:=Q0H I.ns
 ⟨od,⟨I.obj,rfl,rfl,ho⟩,hl⟩
section
variable{prog:Program}{w:World}{A:Around}{E:RG}{s:Shared}{K:W.Frag}{x dx C f:Addr}{mA:Str->X0}{name:Str}{v:Value}
theorem get_map(X:K.In s.heap)(I:wX s.heap x dx C mA)(hg:W.plainGet K C name=true)(hh:W.hasDictIn K C=true)
  (ha:W.findIn K (.ref C) name=some none) (hv:mA name=some v) (FV:W.handedIn v=true) (h:Q v {s with toks:=s.toks+1}) :
  wpAny (model prog w) A (getAttr (.ref x) name expr) Q E s:=by
 obtain⟨od,J,hl⟩:=I.look;exact W.get_value X J (W.plainGet_of hg).1 (W.findObj_own hh ha rfl (by rw[hl,hv])) FV h
theorem Dv(X:K.In s.heap)(I:wX s.heap x dx C mA)(hg:W.plainGet K C name=true)
  (hf:W.findIn K (.ref C) name=some (some (.ref f))) (ht:W.isFn K (.ref f)=true) (hv:mA name=none) (h:Q (.ref f,[.ref x]) s) :
  wpAny (model prog w) A (getMethod (.ref x) name pl) Q E s:=by
 obtain⟨od,J,hl⟩:=I.look;exact W.method_fn X J (W.plainGet_of hg).1 (W.plainGet_of hg).2 hf (beq_iff_eq.mp ht) (by show (W.lookIn name od).map (·.isSome)=some false;rw[hl,hv];rfl) h
theorem IS(X:K.In s.heap)(I:wX s.heap x dx C mA)
  (hs:W.findIn K (.ref C) "__setattr__" = some (some (.builtin "object.__setattr__"))) (hp:W.plainOver K C=true) (ht:W.takerIn K C name=some none) (hh:W.hasDictIn K C=true)
  (hw:PySem.Within mA ns) (hsz:ns.length<=sizeLine)
  (h:∀h',wX h' x dx C (fun y=>if y=name then some v else mA y)->Heap.SameBut dx s.heap h'->Q () {s with heap:=h',toks:=s.toks+2}) :
  wpAny (model prog w) A (setAttr (.ref x) name v) Q E s:=by
 obtain⟨od,J,hl⟩:=I.look;refine W.set_plain X J hs (W.osa_open (s:={s with toks:=s.toks+1}) (r:=none) X J hp ht fun b=>?_);obtain⟨cd,hc,QJ⟩:=W.any_some hh;have hx:s.heap.get? x=some ⟨.ref C,some dx,.plain,#[]⟩:=I.obj;refine ZM (Pf (ZM (ZM (wpAny_loadPart hx (ZM (W.Looks.here (s:={s with toks:=s.toks+1}) (W.looks_clsIn X hc) ?_))))));rw[QJ];refine Pf (a:=some dx) (ZM (Pf (ZM ?_)));refine wpAny_nsSet1 (s:={s with toks:=s.toks+1}) I.ns fun h' QU iM=>?_;obtain⟨oD,esD,epD,Zj,Y1,YY⟩:=QU.count (PySem.Within.cons name v hw);refine ZM (wpAny_lookBehind Zj (by rw[Y1];exact pastItsLine_dict (WH YY (by rw[M3];omega))) ?_);exact Pf (h _ ⟨(iM.2 _ (Ry I.ne)).trans I.obj,QU,I.ne⟩ iM)
theorem Q0w(X:K.In s.heap)(hm:W.makesIn K C=true)
  (hi:W.findIn K (.ref C) "__init__" = some (some (.ref f))) (hf:W.typeIn K (.ref f)=some (.type "function"))
  (h:codeAny (model prog w) (A.under (.builtin "type.__call__" ⟨.ref C::vs,kw⟩)) (.call (.ref f) ⟨.ref (s.heap.objs.size+1)::vs,kw⟩) (W.InitBack (s.heap.objs.size+1) R) {s with heap:=(s.heap.push W.emptyDict).push (W.instObj C s.heap.objs.size)}) :
  codeAny (model prog w) A (.call (.ref C) ⟨vs,kw⟩) R s:=by
 obtain⟨hh,g,d,t,os⟩:=s;exact W.make_core (W.makes_of X hm) (W.looks_findIn X hi) (fun self=>W.bind_fn X self hf) (.inl rfl) h
end
def gb(f:Str)(v:V):List (Str×V)->List (Str×V)|[]=>[(f,v)]| (g,x)::r=>if g=f then(g,v)::r else(g,x)::gb f v r
theorem ij(f g:Str)(v:V):∀fs:List (Str×V),(gb f v fs).lookup g=if g=f then some v else fs.lookup g|[]=>by show List.lookup g [(f,v)]=_;by_cases h:g=f;have hb:(g == f)=true:=beq_iff_eq.mpr h;simp only[List.lookup,hb,if_pos h];have hb:(g == f)=false:=beq_eq_false_iff_ne.mpr h;simp only[List.lookup,hb,if_neg h]| (k,x)::r=>by have ih:=ij f g v r;rw[show gb f v ((k,x)::r)=(if k=f then(k,v)::r else(k,x)::gb f v r) from rfl];by_cases hk:k=f;rw[Wr hk];by_cases h:g=k;have hb:(g == k)=true:=beq_iff_eq.mpr h;simp only[List.lookup,hb,if_pos (h.trans hk)];have hb:(g == k)=false:=beq_eq_false_iff_ne.mpr h;simp only[List.lookup,hb,if_neg (fun e:g=f=>h (e.trans hk.symm))];rw[Uu hk];by_cases h:g=k;have hb:(g == k)=true:=beq_iff_eq.mpr h;simp only[List.lookup,hb,if_neg (fun e:g=f=>hk (h.symm.trans e))];have hb:(g == k)=false:=beq_eq_false_iff_ne.mpr h;simp only[List.lookup,hb];exact ih
theorem ny(f:Str)(v:V):∀fs:List (Str×V),f∈(gb f v fs).map (·.1)/\∀g,g∈fs.map (·.1)->g∈(gb f v fs).map (·.1)|[]=>⟨by simp[gb],fun g h=>by simp at h⟩| (k,x)::r=>by obtain⟨i1,i2⟩:=ny f v r;rw[show gb f v ((k,x)::r)=(if k=f then(k,v)::r else(k,x)::gb f v r) from rfl];by_cases hk:k=f;rw[Wr hk];subst hk;exact⟨Ro,fun g h=>by simpa using h⟩;rw[Uu hk];refine⟨?_,fun g h=>?_⟩;rw[P6];exact Uq _ i1;rw[P6] at h ⊢;rcases List.mem_cons.mp h with e|e;exact List.mem_cons.mpr (.inl e);exact Uq _ (i2 g e)
theorem oF(f:Str)(v:V):∀fs:List (Str×V),(gb f v fs).length<=fs.length+1|[]=>by simp[gb]| (k,x)::r=>by have ih:=oF f v r;rw[show gb f v ((k,x)::r)=(if k=f then(k,v)::r else(k,x)::gb f v r) from rfl];by_cases hk:k=f;rw[Wr hk,M3,M3];omega;rw[Uu hk,M3,M3];omega
theorem kE.some_of(r:kE (some v) o):∃u,o=some u/\RelV v u:=by cases o with|none=>exact(show False from r).elim|some u=>exact⟨u,rfl,r⟩
theorem kE.none_of(r:kE none o):o=none:=by cases o with|none=>rfl|some u=>exact(show False from r).elim
theorem AF(r:RelV v u):W.handedIn u=true:=by cases v with|bE=>cases (show u=Value.none from r);rfl|bl b=>cases (show u=Value.bool b from r);rfl|int i=>obtain⟨t,e⟩:=(show ∃t,u=Value.int i t from r);cases e;rfl|str x=>obtain⟨t,e⟩:=(show ∃t,u=Value.str x t from r);cases e;rfl|TQ b=>obtain⟨t,e⟩:=(show ∃t,u=Value.bytes b t from r);cases e;rfl|TZ b=>obtain⟨t,e⟩:=(show ∃t,u=Value.float b t from r);cases e;rfl|ref a=>cases (show u=Value.ref a from r);rfl|ty n=>cases (show u=Value.type n from r);rfl
section
variable{P:Program}{w:World}{H H':Hp}{h h':Heap}{a C dx:Addr}{fs YH:List (Str×V)}
theorem tZ(cj:og P w H h)(e:H a=some (.ins C dx fs)):∃mA,wX h a dx C mA/\(∀f,kE (fs.lookup f) (mA f))/\PySem.Within mA (fs.map (·.1))/\fs.length<=1000/\H dx=some (.own a):=by obtain⟨d,z,ne,ob,mA,n,r,q⟩:=(show dD P w H h a (.ins C dx fs) from cj a _ e);exact⟨mA,⟨ob,n,ne⟩,r,q,z,d⟩
end
structure Ak(K:W.Frag)(C:Addr):Prop where
 pg:W.plainGet K C Str.empty=true
 hd:W.hasDictIn K C=true
 po:W.plainOver K C=true
 sa:W.findIn K (.ref C) "__setattr__" = some (some (.builtin "object.__setattr__"))
theorem Ak.get{K:W.Frag}{C:Addr}(c:Ak K C)(f:Str):W.plainGet K C f=true:=c.pg
def iO(K:W.Frag)(C:Addr)(f:Str):Prop:=W.findIn K (.ref C) f=some none
theorem iO.S8{K:W.Frag}{C:Addr}{f:Str}(n:iO K C f):W.takerIn K C f=some none:=by unfold W.takerIn;rw[show W.findIn K (.ref C) f=some none from n];rfl
structure Meth(K:W.Frag)(C:Addr)(m:Str)(f:Addr):Prop where
 at_:W.findIn K (.ref C) m=some (some (.ref f))
 fn:W.isFn K (.ref f)=true
 kp:W.keepIn K (.ref f)=true
section
variable{X:Cx}{Ug:U5}{σ:St}{H:Hp}{s:Shared}{a C dx:Addr}{fs:List (Str×V)}{f:Str}{v:V}{A:Around}{E:RG}
theorem xo(I:Inv X Ug σ H s)(e:H a=some (.ins C dx fs))(c:Ak X.K C)(n:iO X.K C f)(l:fs.lookup f=some v)(h:∀u s',Inv X Ug σ H s'->RelV v u->Q u s'):wpAny (model X.prog X.w) A (getAttr (.ref a) f b) Q E s:=by obtain⟨mA,O,r,_,_,_⟩:=tZ I.cj e;obtain⟨u,hu,ru⟩:=kE.some_of (v:=v) (o:=mA f) (by rw[<-l];exact r f);exact get_map I.rk O (c.get f) c.hd n hu (AF ru) (h u _ (I.tok _) ru)
theorem xp(I:Inv X Ug σ H s)(e:H a=some (.ins C dx fs))(c:Ak X.K C)(k:Meth X.K C m g)(l:fs.lookup m=none)(h:Q (.ref g,[.ref a]) s):wpAny (model X.prog X.w) A (getMethod (.ref a) m pl) Q E s:=by obtain⟨mA,O,r,_,_,_⟩:=tZ I.cj e;have hn:mA m=none:=kE.none_of (by rw[<-l];exact r m);exact Dv I.rk O (c.get m) k.at_ k.fn hn h
theorem yd(I:Inv X Ug σ H s)(e:H a=some (.ins C dx fs))(c:Ak X.K C)(n:iO X.K C f)(hl:fs.length<1000)(ry:RelV y u)(h:∀s',Inv X Ug σ (upd H a (.ins C dx (gb f y fs))) s'->Q () s'):wpAny (model X.prog X.w) A (setAttr (.ref a) f u) Q E s:=by
 obtain⟨mA,O,r,wi,_,ho⟩:=tZ I.cj e;have hz:(fs.map (·.1)).length<=sizeLine:=by rw[uG,Ji];omega
 refine IS I.rk O c.sa c.po n.S8 c.hd wi hz fun h' O' sb=>h _ ?_;have hd:∃o,h'.get? dx=some o:=let ⟨o,_,_,e',_⟩:=O'.ns;⟨o,e'⟩;refine I.write (x:=a) (e:=dx) (by rw[e];exact True.intro) (.inr ho) (fun b q hb z=>(sb.2 b hb).trans z) hd ?_;refine⟨by rw[aU O.ne];exact ho,?_,O.ne,O'.obj,_,O'.ns,fun g=>?_,fun g hg=>?_⟩;have:=oF f y fs;omega;show kE ((gb f y fs).lookup g) (if g=f then some u else mA g);rw[ij];by_cases q:g=f;rw[Wr q,Wr q];exact ry;rw[Uu q,Uu q];exact r g;by_cases q:g=f;rw[q];exact(ny f y fs).1;refine(ny f y fs).2 g (wi g fun z=>hg ?_);show (if g=f then some u else mA g)=none;rw[Uu q];exact z
theorem Inv.made(I:Inv X Ug σ H s):Inv X Ug σ (upd (upd H s.heap.objs.size (.own (s.heap.objs.size+1))) (s.heap.objs.size+1) (.ins C s.heap.objs.size [])) {s with heap:=(s.heap.push W.emptyDict).push (W.instObj C s.heap.objs.size)}:=by
 have e1:(s.heap.push W.emptyDict).get? s.heap.objs.size=some W.emptyDict:=TR s.heap rfl;have e2:((s.heap.push W.emptyDict).push (W.instObj C s.heap.objs.size)).get? (s.heap.objs.size+1)=some (W.instObj C s.heap.objs.size):=by have:=TR (s.heap.push W.emptyDict) (o:=W.instObj C s.heap.objs.size) rfl;rwa [A6] at this
 have e3:(s.heap.push W.emptyDict).Ns s.heap.objs.size (fun _=>none):=⟨W.emptyDict,#[],_,e1,rfl,(fun e he=>absurd he Ro),fun _=>rfl⟩;have I1:=I.laid (a:=s.heap.objs.size) (o:=.own (s.heap.objs.size+1)) (h':=s.heap.push W.emptyDict) (t':=s.toks) (fun b u q=>T2 _ q) (ZS _) ⟨_,e1⟩;refine I1.laid (a:=s.heap.objs.size+1) (o:=.ins C s.heap.objs.size []) (t':=s.toks) (fun b u q=>T2 _ q) (Nat.le_of_eq (A6 _ _)) ?_;have ne:s.heap.objs.size≠s.heap.objs.size+1:=Uh (By _);refine⟨by rw[aU ne,aO],ER _,ne,e2,fun _=>none,(Heap.Ns1.of_empty e3).at fun o q=>T2 _ q,fun _=>True.intro,fun y hy=>absurd rfl hy⟩
theorem Gp(hb:attributeBase e f env (eval e env)=eval e env)(h:wpAny (model prog w) A (eval e env) (fun o bx=>wpAny (model prog w) A (getAttr o f true) Q E bx) E s):wpAny (model prog w) A (eval (.Attribute e f pos) env) Q E s:=
 Attribute_any_ h (by rw[arm_eval_Attribute,hb])
end
def Wx(K:W.Frag)(ta:TE)(f:Str):TE:=fun σ H Q=>ta σ H fun x H1=>∃a C dx fs v,x=.ref a/\H1 a=some (.ins C dx fs)/\Ak K C/\iO K C f/\fs.lookup f=some v/\Q v H1
def Wn(K:W.Frag)(ta tv:TE)(f:Str):TS:=fun D σ H=>tv σ H fun y H1=>ta σ H1 fun x H2=>∃a C dx fs,x=.ref a/\H2 a=some (.ins C dx fs)/\Ak K C/\iO K C f/\fs.length<1000/\D.nx σ (upd H2 a (.ins C dx (gb f y fs)))
section
variable{X:Cx}{o e value:Expr}{f:Str}{pos V6 pj:Pos}{ta tv:TE}
theorem NK(he:PE X e ta)(hb:attributeBase e f X.env (eval e X.env)=eval e X.env):PE X (.Attribute e f pos) (Wx X.K ta f):=by intro Ug s σ H Q I h;refine Gp hb (bT (he Ug s σ H _ I h) fun u s1 ⟨x,H1,I1,rx,a,C,dx,fs,v,ex,ea,c,n,l,q⟩=>?_);subst ex;obtain rfl:u=Value.ref a:=rx;exact xo I1 ea c n l fun u' s2 I2 ru=>⟨v,H1,I2,ru,q⟩
theorem NW(ha:PE X o ta)(hv:PE X value tv)(hs:swapsWith value (some (.Attribute o f V6)) pos.line X.env=pure false):PS X (.Assign [.Attribute o f V6] value pos) (Wn X.K ta tv f):=by intro Ug s σ H D I h;refine plainObj_wpAny_Assign_Attribute (bT (hv Ug s σ H _ I h) fun u s1 ⟨y,H1,I1,ry,q⟩=>bT (ha Ug s1 σ H1 _ I1 q) fun ov s2 ⟨x,H2,I2,rx,a,C,dx,fs,ex,ea,c,n,l,q2⟩=>?_) hs;subst ex;obtain rfl:ov=Value.ref a:=rx;exact yd I2 ea c n l ry fun s3 I3=>⟨σ,_,I3,q2⟩
end
structure cH(k:Nat)(A:Around):Prop where
 hd:A.handled=none
 dp:A.depth+3*k+5<recursionLimit
 un:A.units+16*k+200<cLine
theorem cH.mono(r:cH k A)(h:j<=k):cH j A:=⟨r.hd,by have:=r.dp;omega,by have:=r.un;omega⟩
theorem cH.deeper(r:cH (k+1) A)(env:Env):cH k (A.deeper env):=⟨r.hd,by have:=r.dp;show A.depth+1+3*k+5<_;omega,by have:=r.un;show A.units+3+16*k+200<_;omega⟩
theorem cH.in1(r:cH (k+1) A):cH k A.in1:=⟨r.hd,by have:=r.dp;show A.depth+3*k+5<_;omega,by have:=r.un;show A.units+1+16*k+200<_;omega⟩
theorem xJ{A:Around}{C:Addr}{us:Ul}{kw:List (Str×Value)}:(A.under (.builtin "type.__call__" ⟨.ref C::us,kw⟩)).depth=A.depth+1:=by first|rfl|simp[Around.under,Code.weight,Code.isCreation,Code.isGuard,Code.isCaller,Code.frames,Code.isFrame,guardIds]
theorem Q11{A:Around}{C:Addr}{us:Ul}{kw:List (Str×Value)}:(A.under (.builtin "type.__call__" ⟨.ref C::us,kw⟩)).units=A.units+1:=by first|rfl|simp[Around.under,Code.cUnits,Code.frames,Code.isFrame]
theorem cH.make(r:cH (k+1) A)(C:Addr)(us:Ul)(kw:List (Str×Value)):cH k (A.under (.builtin "type.__call__" ⟨.ref C::us,kw⟩)):=⟨r.hd,by have:=r.dp;rw[xJ];omega,by have:=r.un;rw[Q11];omega⟩
theorem cH.depth(r:cH k A):A.depth<recursionLimit:=by have:=r.dp;omega
theorem cH.units(r:cH k A):A.units+64<cLine:=by have:=r.un;omega
def WB:TA:=fun _ H Q=>Q [] H
def Q2S(ta:TE)(tr:TA):TA:=fun σ H Q=>ta σ H fun x H1=>tr σ H1 fun xs H2=>Q (x::xs) H2
section
variable{X:Cx}{e:Expr}{es:Wg}{te:TE}{t:TA}{pos:Pos}
theorem fZ:PA X [] WB:=fun _ _ _ _ H Q I h=>Mw ⟨[],H,I,.nil,h⟩
theorem cB(ha:PE X e te)(hr:PA X es t)(hs:starEach (e::es) X.env=(false,eval e X.env)::starEach es X.env:=by rfl):PA X (e::es) (Q2S te t):=by intro pos Ug s σ H Q I h;rw[hs];show wpAny _ _ (spliced ((false,eval e X.env)::backTo pos (starEach es X.env))) _ _ s;refine Np (bT (ha Ug s σ H _ I h) fun u s1 ⟨x,H1,I1,r1,q1⟩=>?_);exact bT (hr pos Ug s1 σ H1 _ I1 q1) fun us s2 ⟨xs,H2,I2,r2,q2⟩=>⟨x::xs,H2,I2,.cons r1 r2,q2⟩
def Q12(t:TA):TE:=fun σ H Q=>t σ H fun xs H1=>xs.length<=sizeLine/\∀p,H1 p=none->Q (.ref p) (upd H1 p (.tup xs))
def Q1Q(t:TA):TE:=fun σ H Q=>t σ H fun xs H1=>xs.length<=sizeLine/\∀p,H1 p=none->Q (.ref p) (upd H1 p (.lst xs))
theorem EN{x1}(h:PA X es t):PE X (.Tuple es x1 pos) (Q12 t):=by intro Ug s σ H Q I hq;refine wpAny_Tuple_spliced (bT (h pos Ug s σ H _ I hq) fun us s1 ⟨xs,H1,I1,r,z,q⟩=>⟨by rw[<-r.length];exact z,?_⟩);have hf:H1 s1.heap.objs.size=none:=I1.cj.fresh (ZS _);refine⟨.ref s1.heap.objs.size,upd H1 s1.heap.objs.size (.tup xs),I1.laid (t':=s1.toks) (fun b u e=>T2 _ e) (ZS _) ?_,rfl,q _ hf⟩;exact⟨z,us,r,⟨_,TR _ rfl,rfl,⟨_,rfl⟩,rfl⟩⟩
theorem NM(h:PA X es t):PE X (.List es pos) (Q1Q t):=by intro Ug s σ H Q I hq;refine wpAny_List_spliced (bT (h pos Ug s σ H _ I hq) fun us s1 ⟨xs,H1,I1,r,z,q⟩=>⟨by rw[<-r.length];exact z,?_⟩);have hf:H1 s1.heap.objs.size=none:=I1.cj.fresh (ZS _);refine⟨.ref s1.heap.objs.size,upd H1 s1.heap.objs.size (.lst xs),I1.laid (t':=s1.toks) (fun b u e=>T2 _ e) (ZS _) ?_,rfl,q _ hf⟩;exact⟨z,us,0,r,TR _ rfl⟩
end
abbrev Sp:=List V->Hp->VK->XK->Prop
abbrev uP:=List Env->Hp->Shared->XK->Value->Shared->Prop
structure qX(P:Program)(w:World)(K:W.Frag)(mg:Str->X0)(base:Heap)(A:Around)(outer:List Env)(s:Shared)(H:Hp):Prop where
 frames:A.frames=some outer
 mod:Mod K mg base
 bs:∀b o,base.get? b=some o->s.heap.get? b=some o/\H b=none
 FN:base.objs.size<=s.heap.objs.size
 nh:s.heap.FunFrames base outer
 JX:∀b∈BE outer,H b=none
 cj:og P w H s.heap
 bare:AllBare s.gens
def CE(outer:List Env)(P:Program)(w:World)(H:Hp)(s:Shared)(Q:VK)(u:Value)(s':Shared):Prop:=∃v H',s'.os=s.os/\AllBare s'.gens/\Un (BE outer) [] H H' s.heap s'.heap/\og P w H' s'.heap/\RelV v u/\Q v H'
def Q0F(CX:uP)(outer:List Env)(P:Program)(w:World)(H:Hp)(s:Shared)(Q:VK)(E:XK)(r:Result)(s':Shared):Prop:=match r with|.ok (.ret u)=>CE outer P w H s Q u s'|.ok _=>False|.error e=>CX outer H s E e s'
structure dC(P:Program)(w:World)(K:W.Frag)(mg:Str->X0)(base:Heap)(CX:uP)(k:Nat)(f:Addr)(fd:FuncData)(ps:Ph)(sp:Sp):Prop where
 len:∀vs H Q E,sp vs H Q E->vs.length=ps.length
 run:∀(A:Around)(outer:List Env)(s:Shared)(H:Hp)(args:Args)(us:Ul)(vs:OY)(Q:VK)(E:XK),cH k A->qX P w K mg base A outer s H->BindsTo s fd args (ps.zip us)->Vals vs us->sp vs H Q E->codeAny (model P w) A (.call (.ref f) args) (Q0F CX outer P w H s Q E) s
theorem dC.imp{P:Program}{w:World}{K:W.Frag}{mg:Str->X0}{base:Heap}{CX:uP}{k:Nat}{f:Addr}{fd:FuncData}{ps:Ph}{sp SR:Sp}(F:dC P w K mg base CX k f fd ps sp)(h:∀vs H Q E,SR vs H Q E->sp vs H Q E):dC P w K mg base CX k f fd ps SR:=
 ⟨fun vs H Q E q=>F.len vs H Q E (h _ _ _ _ q),fun A outer s H args us vs Q E hr he hb hv hs=>F.run A outer s H args us vs Q E hr he hb hv (h _ _ _ _ hs)⟩
theorem qX.make{P:Program}{w:World}{K:W.Frag}{mg:Str->X0}{base:Heap}{A:Around}{outer:List Env}{s:Shared}{H:Hp}(e:qX P w K mg base A outer s H)(C:Addr)(us:Ul)(kw:List (Str×Value)) : qX P w K mg base (A.under (.builtin "type.__call__" ⟨.ref C::us,kw⟩)) outer s H:=⟨by first|exact e.frames|(simpa[Around.under,Code.envs,Code.isFrame,pushEnvs] using e.frames),e.mod,e.bs,e.FN,e.nh,e.JX,e.cj,e.bare⟩
theorem qX.in1{P:Program}{w:World}{K:W.Frag}{mg:Str->X0}{base:Heap}{A:Around}{outer:List Env}{s:Shared}{H:Hp}(e:qX P w K mg base A outer s H) : qX P w K mg base A.in1 outer s H:=⟨e.frames,e.mod,e.bs,e.FN,e.nh,e.JX,e.cj,e.bare⟩
section
variable{X:Cx}{Ug:U5}{σ:St}{H:Hp}{s s':Shared}
theorem Inv.Qm(I:Inv X Ug σ H s):qX X.prog X.w X.K X.mg X.base X.A X.stack s H:=⟨I.ok.frames,I.ok.mod,I.bs,WH I.ok.FN I.sz,I.stack,I.Ae,I.cj,I.bare⟩
theorem Inv.after(I:Inv X Ug σ H s)(h:CE X.stack X.prog X.w H s Q u s'):EP X Ug σ Q u s':=by obtain⟨v,H',os,bare,un,cj,r,q⟩:=h;obtain⟨hh,g,d,t,Wd⟩:=s';obtain rfl:Wd=s.os:=os;exact⟨v,H',I.call (h':=hh) (g':=g) (d':=d) (t':=t) (ch:=[]) un cj bare (fun b z=>absurd z Ro),r,q⟩
end
def Binds(K:W.Frag)(fd:FuncData)(ps:Ph)(ds:Ul):Prop:=∀(s:Shared)(us:Ul),K.In s.heap->(us++ds).length=ps.length->BindsTo s fd ⟨us,[]⟩ (ps.zip (us++ds))
theorem Binds.all{K:W.Frag}{fd:FuncData}{ps:Ph}(h:∀us:Ul,us.length=ps.length->bindArgs fd ⟨us,[]⟩=pure (ps.zip us)):Binds K fd ps []:=fun s us _ hl=>by rw[MF] at hl ⊢;exact .of_eq (h us hl)
section
variable{X:Cx}{CX:uP}{k:Nat}{f C:Addr}{fd:FuncData}{ps:Ph}{sp:Sp}{dvs:OY}{ds:Ul}{E:XK}{x m:Str}{p pos V7:Pos}{e o:Expr}{es:Wg}{ta:TE}{t:TA}
structure Mk(K:W.Frag)(C f:Addr):Prop where
 makes:W.makesIn K C=true
 init:W.findIn K (.ref C) "__init__" = some (some (.ref f))
 fn:W.isFn K (.ref f)=true
 kp:W.keepIn K (.ref C)=true
end
structure d7(N P:Ph)(sc:Scope):Prop where
 kind:sc.kind=.function
 co:sc.isCoroutine=false
 gen:sc.isGenerator=false
 nd:N.Nodup
 pre:N.take P.length=P
 par:∀x∈P,sc.names.lookup x=some .local\/sc.names.lookup x=some .cell
 MK:∀y∈sc.names,y.2≠.free
theorem rO{kindOf:Str->Option NameKind}{x:Str}:∀{binds:List (Str×Value)}{m:Str->X0},(∀v,(x,v)∉binds)->bindL kindOf binds m x=m x
|[],_,_=>rfl| (n,v)::r,m,h=>by
 unfold bindL;rw[rO fun w hw=>h w (Uq _ hw)];split;have:x≠n:=by rintro rfl;exact h v Bl
 simp[this];rfl
theorem rM{kindOf:Str->Option NameKind}{x:Str}:∀{binds:List (Str×Value)}{m:Str->X0},(∀v,(x,v)∉binds)->bindC kindOf binds m x=m x
|[],_,_=>rfl| (n,v)::r,m,h=>by
 unfold bindC;rw[rM fun w hw=>h w (Uq _ hw)];split;rfl;have:x≠n:=by rintro rfl;exact h v Bl
 simp[this]
theorem rN{kindOf:Str->Option NameKind}{x:Str}{v:Value}:∀{P:Ph}{vs:Ul}{i:Nat}{m:Str->X0},P.Nodup->P[i]?=some x->vs[i]?=some v->kindOf x=some .local->bindL kindOf (P.zip vs) m x=some v
|[],_,_,_,_,h,_,_=>by simp at h|_::_,[],_,_,_,_,h,_=>by simp at h|p::P,w::vs,0,m,nd,h1,h2,hk=>by simp at h1 h2;subst h1;subst h2;show bindL kindOf ((p,w)::P.zip vs) m p=_;unfold bindL;rw[rO fun v hv=>(List.nodup_cons.mp nd).1 (WA hv).1,Wr hk];simp|p::P,w::vs,i+1,m,nd,h1,h2,hk=>by show bindL kindOf ((p,w)::P.zip vs) m x=_;unfold bindL;exact rN (i:=i) (List.nodup_cons.mp nd).2 (by simpa using h1) (by simpa using h2) hk
theorem rL{kindOf:Str->Option NameKind}{x:Str}{v:Value}:∀{P:Ph}{vs:Ul}{i:Nat}{m:Str->X0},P.Nodup->P[i]?=some x->vs[i]?=some v->kindOf x≠some .local->bindC kindOf (P.zip vs) m x=some v
|[],_,_,_,_,h,_,_=>by simp at h|_::_,[],_,_,_,_,h,_=>by simp at h|p::P,w::vs,0,m,nd,h1,h2,hk=>by simp at h1 h2;subst h1;subst h2;show bindC kindOf ((p,w)::P.zip vs) m p=_;unfold bindC;rw[rM fun v hv=>(List.nodup_cons.mp nd).1 (WA hv).1,Uu hk];simp|p::P,w::vs,i+1,m,nd,h1,h2,hk=>by show bindC kindOf ((p,w)::P.zip vs) m x=_;unfold bindC;exact rL (i:=i) (List.nodup_cons.mp nd).2 (by simpa using h1) (by simpa using h2) hk
def start(N:Ph)(vs:OY):St:=vs.map some++List.replicate (N.length-vs.length) none
def q9(CX:uP)(P:Program)(w:World)(K:W.Frag)(mg:Str->X0)(base:Heap)(N:Ph)(TN:Str)(scope:Scope)(f:Addr)(cd:Value)(A:Around)(outer:List Env)(s:Shared)(H:Hp)(E:XK):Cx where
 prog:=P
 w:=w
 K:=K
 mg:=mg
 base:=base
 A:=A.deeper (envOfC TN scope s.heap.objs.size f cd)
 N:=N
 s₀:=s
 H₀:=H
 env:=envOfC TN scope s.heap.objs.size f cd
 outer:=outer
 stack:=envOfC TN scope s.heap.objs.size f cd::outer
 ex:=[]
 calm:=true
 fn:=fun _=>true
 pn:=[]
 xe:=fun e s'=>wpAny (model P w) (A.deeper (envOfC TN scope s.heap.objs.size f cd)) (leaving (envOfC TN scope s.heap.objs.size f cd) e) (fun _ BG=>CX outer H s E e BG) (fun e' BG=>CX outer H s E e' BG) s'
theorem u7{sc:Scope}{n:Nat}{x:Str}(h:sc.names.lookup x=some .cell):∃c,(cellsFrom n sc.names []).lookup x=some c:=by have q:=W.cellsFrom_some sc.names n [] (.inl h);exact Option.isSome_iff_exists.mp q
theorem AM{CX:uP}{P:Program}{w:World}{K:W.Frag}{mg:Str->X0}{base:Heap}{N ps:Ph}{TN:Str}{scope:Scope}{f:Addr}{cd:Value}{A:Around}{outer:List Env}{s s1:Shared}{H:Hp}{E:XK}{us:Ul}{vs:OY}
  (S:d7 N ps scope) (hd:A.handled=none) (e0:qX P w K mg base A outer s H) (hl:vs.length=ps.length) (r:Vals vs us)
  (x:InCallC s s.heap.objs.size (bindL (envOfC TN scope s.heap.objs.size f cd).kindOf (ps.zip us) fun _=>none) (cellsFrom (s.heap.objs.size+1) scope.names []) (bindC (envOfC TN scope s.heap.objs.size f cd).kindOf (ps.zip us) fun _=>none) s1) :
  Inv (q9 CX P w K mg base N TN scope f cd A outer s H E) [] (start N vs) H s1:=by
 have jA:ps.length<=N.length:=by have:=congrArg List.length S.pre;rw[CQ] at this;omega
 obtain⟨h1,tk,rfl,hk⟩:=x.done;have noA:∀b:Addr,b∉(q9 CX P w K mg base N TN scope f cd A outer s H E).ex:=fun b z=>absurd (show b∈([]:XU) from z) Ro;refine⟨⟨e0.mod,S.kind,rfl,rfl,ZS _,fun y z c h1 h2=>?_,fun y hy=>?_,fun y c _ h=>?_,fun _=>hd,Around.frames_deeper e0.frames,.inr ⟨rfl,rfl⟩,fun b z=>absurd z (noA b),e0.bs,e0.FN,fun b _ _=>noA b,fun b z=>absurd z (noA b),e0.nh,e0.JX⟩,rfl,e0.bare,Un.kept hk,⟨_,x.toInCall.ns,fun i y v h1 h2 h3=>?_⟩,fun y c h=>⟨_,x.cell y c h⟩,e0.cj.fresh (ZS _),fun y c h=>?_,fun p hp=>absurd (show p∈([]:U5) from hp) Ro,e0.cj.kept hk,?_⟩;exact name_of_addr x.apart (GI h1) (GI h2);have hy:scope.names.lookup y=some .cell\/scope.names.lookup y=some .free:=hy;rcases hy with hy|hy;exact u7 hy;exact absurd rfl (S.MK _ (GI hy));exact Nat.le_of_lt (x.above y c (GI h));have hi:i<vs.length:=by unfold start at h2;by_cases hi:i<vs.length;exact hi;rw[HU (by simpa using hi)] at h2;rw[G1] at h2;split at h2<;>cases h2
 have ha:vs[i]?=some v:=by unfold start at h2;rw[Lh (by simpa using hi),LM] at h2;cases e:vs[i]? with|none=>rw[e] at h2;cases h2|some a=>rw[e] at h2;cases h2;rfl
 obtain⟨u,hu,rv⟩:=r.get ha;have hp:ps[i]?=some y:=by rw[<-S.pre,wu Pe];exact h1
 have X1:ps.Nodup:=by rw[<-S.pre];exact S.nd.sublist (List.take_sublist _ _)
 refine⟨u,rv,?_⟩;rcases S.par y (Ie hp) with k|k;exact .inl ⟨k,rN X1 hp hu k⟩;obtain⟨c,e⟩:=u7 (n:=s.heap.objs.size+1) k;refine .inr ⟨.inl k,c,e,?_⟩;have q:=x.cell y c e;rw[rL X1 hp hu (by show scope.names.lookup y≠_;rw[k];decide)] at q;exact q;exact e0.cj.fresh (Nat.le_of_lt (x.above y c (GI h)));unfold start;show _=N.length;rw[En,uG,List.length_replicate];omega
theorem Qq{CX:uP}{P:Program}{w:World}{K:W.Frag}{mg:Str->X0}{base:Heap}{k:Nat}{f:Addr}{name TN:Str}{params:Arguments}{body:List Stmt}{scope:Scope}{dV kV doc pm iR ct oc:Value}{an od:u3}
  {HI:Array (Option Value)} {N ps:Ph} {sp:Sp} (lk:K.lookup f=some ⟨oc,od,.func (W.fnOf name TN params body scope dV kV doc pm an iR ct),HI⟩) (kO:W.codeIn K iR TN=true) (S:d7 N ps scope)
  (len:∀vs H Q E,sp vs H Q E->vs.length=ps.length)
  (jQ:∀(A:Around)(outer:List Env)(s:Shared)(H:Hp)(vs:OY)(Q:VK)(E:XK),cH k (A.deeper (envOfC TN scope s.heap.objs.size f iR))->sp vs H Q E->∃t,wM (q9 CX P w K mg base N TN scope f iR A outer s H E) body t/\t {nx:=fun _ H'=>Q .bE H',rt:=Q} (start N vs) H) :
  dC P w K mg base CX (k+1) f (W.fnOf name TN params body scope dV kV doc pm an iR ct) ps sp:=by
 refine⟨len,fun A outer s H args us vs Q E hr e0 hb r FU=>?_⟩;have hl:=len _ _ _ _ FU;have KX:K.In s.heap:=e0.mod.Mj.keeps fun b o e=>(e0.bs b o e).1;have lim:s.heap.NoLimit:=e0.mod.nolimit.keeps fun b o e=>(e0.bs b o e).1;have QP:∀y∈ps.zip us,scope.names.lookup y.1=some .local\/(scope.names.lookup y.1=some .cell/\((cellsFrom (s.heap.objs.size+1) scope.names []).lookup y.1).isSome=true):=fun ⟨n,v⟩ hy=>by
  rcases S.par n (WA hy).1 with q|q
  ·exact .inl q
  ·exact .inr ⟨q,W.cellsFrom_some _ _ _ (.inl q)⟩
 refine codeAny_call_function hr.depth (KX _ _ lk) rfl S.co S.gen rfl (W.codeRec_of KX kO) (hb _ _ _ _ ?_);refine wpAny_newFunctionEnv_cells S.kind QP fun env he s1 x=>?_;subst he;refine⟨lim.keeps x.toInCall.keep,codeAny_func ?_⟩;obtain⟨t,ht,hq⟩:=jQ A outer s H vs Q E (hr.deeper _) FU;have I:Inv (q9 CX P w K mg base N TN scope f iR A outer s H E) [] (start N vs) H s1:=AM S hr.hd e0 hl r x;refine R3 (ht [] s1 (start N vs) H _ I hq) (fun fl s' hs=>?_) fun e s' hs=>hs;have fin:∀{bD:St}{H':Hp}{v:V}{u:Value},Inv (q9 CX P w K mg base N TN scope f iR A outer s H E) [] bD H' s'->RelV v u->Q v H'->CE outer P w H s Q u s':=fun {bD H' v u} J rv q=>⟨v,H',J.os,J.bare,J.base,J.cj,rv,q⟩;cases fl with|ret u=>obtain⟨v,bD,H',J,rv,q⟩:=hs;exact fin J rv q|next=>obtain⟨bD,H',J,q⟩:=hs;exact fin (v:=V.bE) (u:=Value.none) J rfl q|brk=>obtain⟨_,_,_,q⟩:=hs;exact False.elim q|cont=>obtain⟨_,_,_,q⟩:=hs;exact False.elim q
section
variable{X:Cx}{x:Str}{p pos:Pos}{e:Expr}{es:Wg}{t:TA}{id T:String}{r:OY->Hp->VK->Prop}
def Po(r:OY->Hp->VK->Prop)(t:TA):TE:=fun σ H Q=>t σ H fun vs H1=>r vs H1 Q
theorem jU(hc:d6 X (.builtin id) r)(hg:Gl X x)(hm:X.mg x=none)(hv:bootBuiltins x=some (.builtin id))(ha:PA X (e::es) t)(hn:x≠"__name__" := by decide)(jz:WL x:=by decide)(he:starEach (e::es) X.env=(false,eval e X.env)::starEach es X.env:=by rfl) (jA:(backTo pos (starEach es X.env)).any (·.1)=false:=by rfl):PE X (.Call (.Name x p) (e::es) [] pos) (Po r t):=by intro Ug s σ H Q I h;refine Qn (dA I hg hm hv ?_ hn jz);exact PyProof.Rows.callWith_builtin1 (bT (ha pos Ug s σ H _ I h) fun us s1 ⟨vs,H1,I1,r1,q1⟩=>hc Ug s1 σ H1 vs us Q I1 r1 q1) he jA
theorem kx(hc:d6 X (.type T) r)(hg:Gl X x)(hm:X.mg x=none)(hv:bootBuiltins x=some (.type T))(ha:PA X (e::es) t)(hn:x≠"__name__" := by decide)(jz:WL x:=by decide)(he:starEach (e::es) X.env=(false,eval e X.env)::starEach es X.env:=by rfl) (jA:(backTo pos (starEach es X.env)).any (·.1)=false:=by rfl):PE X (.Call (.Name x p) (e::es) [] pos) (Po r t):=by intro Ug s σ H Q I h;refine Qn (dA I hg hm hv ?_ hn jz);exact Nj (bT (ha pos Ug s σ H _ I h) fun us s1 ⟨vs,H1,I1,r1,q1⟩=>hc Ug s1 σ H1 vs us Q I1 r1 q1) he jA
end
end L2
namespace HT
open PySem PyProof.Rows
section
variable{prog:Program}{w:World}{A:Around}{E:RG}{s:Shared}
theorem Gv(ht:IsTup s.heap t vs.toArray)(hb:IsTup s.heap b ws.toArray)(hv:vs≠[])
  (h1:ws=[]->Q (.ref t) s) (h2:ws≠[]->Q (.ref s.heap.objs.size) {s with heap:=s.heap.push {cls:=.type "tuple",data:=.seq (vs++ws).toArray}})
  (hsz:vs.length+ws.length<=sizeLine):wpAny (model prog w) A (binaryOp .Add (.ref t) (.ref b)) Q E s:=by
 obtain⟨⟨cls,dd,data,sl⟩,ho,hc,n,hd⟩:=id ht;obtain⟨⟨UZ,TU,data2,Pn⟩,LN,zy,n2,hd2⟩:=id hb;simp only at hc hd zy hd2;subst hc hd zy hd2;have e:vs.toArray++ws.toArray=(vs++ws).toArray:=Ro;by_cases hw:ws=[];exact concat_meets ⟨_,ho,rfl⟩ ⟨_,LN,rfl⟩ noFill_tuple_add seq_tuple_add BQ S1 (EW _ _) (tuple_addW1 t b vs.toArray ws.toArray n n2 dd TU sl Pn (by simpa using hv) (by simp[hw])) ⟨ho,LN,h1 hw⟩;refine concat_meets ⟨_,ho,rfl⟩ ⟨_,LN,rfl⟩ noFill_tuple_add seq_tuple_add BQ S1 (EW _ _) (tuple_addW2 t b vs.toArray ws.toArray n n2 dd TU sl Pn (by simpa using hv) (by simpa using hw) (by rw[U6,U6];exact hsz)) ⟨ho,LN,?_⟩;rw[e];exact h2 hw
def cV(n d:Nat):Pq->Nat|none=>d|some v=>if v<0 then(v+(n:Int)).toNat else min v.toNat n
theorem jY(n d:Nat):cV n d none=d:=rfl
theorem my(n d k:Nat):cV n d (some (k:Int))=min k n:=by show (if (k:Int)<0 then((k:Int)+(n:Int)).toNat else min (k:Int).toNat n)=min k n;rw[Uu Pe,AR]
theorem Q1k(n d:Nat)(hd:d<=n)(o:Pq):cV n d o<=n:=by cases o with|none=>exact hd|some v=>show (if v<0 then(v+(n:Int)).toNat else min v.toNat n)<=n;by_cases hv:v<0;rw[Wr hv];omega;rw[Uu hv];exact Nat.min_le_right _ _
theorem yN(v:Int)(n d:Nat):(if v<0 then max (v+(n:Int)) 0 else min v (n:Int))=((cV n d (some v):Nat):Int):=by show (if v<0 then max (v+(n:Int)) 0 else min v (n:Int))=(((if v<0 then(v+(n:Int)).toNat else min v.toNat n):Nat):Int);by_cases hv:v<0;simp only[if_pos hv];omega;simp only[if_neg hv];omega
theorem w5(lo hi:Pq)(n:Nat):Builtin.Slice.sliceAdjust lo hi 1 (n:Int)=(((cV n 0 lo:Nat):Int),((cV n n hi:Nat):Int)):=by
 have h1:¬((1:Int)<0):=Pe;unfold Builtin.Slice.sliceAdjust;simp only[h1,if_false];refine Prod.ext ?_ ?_;cases lo with|none=>rfl|some v=>exact yN v n 0
 cases hi with|none=>rfl|some v=>exact yN v n n
theorem x5(i j:Nat):Builtin.Slice.slicePlaces (i:Int) (j:Int) 1=j-i:=by unfold Builtin.Slice.slicePlaces;have h1:(1:Int) > 0:=Pe;simp only[h1,if_true,Int.ediv_one];split<;>omega
theorem qN(p:IsPart v o)(h:Q o s):wpAny (model prog w) A (Builtin.Slice.slicePartIndex v) Q E s:=by cases p with|none=>exact slicePart_none h|int i t=>exact slicePart_int h
theorem iL{sl:Addr}{vl vu:Value}{lo hi:Pq}{n:Nat}{Q:Int×Int×Nat->Shared->Prop}(hs:s.heap.IsSliceOf sl vl vu .none)(pl:IsPart vl lo)(pu:IsPart vu hi)(h:Q (((cV n 0 lo:Nat):Int),1,cV n n hi-cV n 0 lo) s):wpAny (model prog w) A (Builtin.Slice.sliceApplied (.ref sl) (pure (n:Int))) Q E s:=by obtain⟨os,GQ,LL,qk⟩:=id hs;unfold Builtin.Slice.sliceApplied Builtin.Slice.sliceFields;refine ZM (ZM (Gr GQ qk (x:=vl) rfl (ZM (Gr GQ qk (x:=vu) rfl (ZM (Gr GQ qk (x:=.none) rfl (Pf ?_)))))));refine ZM (slicePart_none ?_);show wpAny _ _ (if ((1:Int) == 0)=true then _ else _) _ _ s;rw[Uu (by decide)];refine ZM (qN pl (ZM (qN pu (ZM (Pf ?_)))));show wpAny _ _ (match Builtin.Slice.sliceAdjust lo hi 1 (n:Int) with|(lo,hi)=>pure (lo,(1:Int),Builtin.Slice.slicePlaces lo hi 1)) _ _ s;rw[w5 lo hi n];show wpAny _ _ (pure (((cV n 0 lo:Nat):Int),(1:Int),Builtin.Slice.slicePlaces ((cV n 0 lo:Nat):Int) ((cV n n hi:Nat):Int) 1)) _ _ s;rw[x5];exact Pf h
theorem Q0v(xs:Array Value)(i k:Nat):((List.range k).filterMap fun(m:Nat)=>xs[((i:Int)+(m:Int)*1).toNat]?).toArray=((xs.toList.drop i).take k).toArray:=by
 have e:(fun(m:Nat)=>xs[((i:Int)+(m:Int)*1).toNat]?)=fun m=>xs[i+m]?:=by funext m;have:((i:Int)+(m:Int)*1).toNat=i+m:=Pe;rw[this]
 rw[e];have:=pick_run xs i k;rw[List.filterMap_map] at this;have e2:((fun x=>xs[x]?)∘fun x=>i+x)=fun m=>xs[i+m]?:=rfl;rw[e2] at this;rw[this]
theorem lV{t sl:Addr}{items:Array Value}{vl vu:Value}{lo hi:Pq}{Q:RG}(ht:IsTup s.heap t items)(hs:s.heap.IsSliceOf sl vl vu .none)(pl:IsPart vl lo)(pu:IsPart vu hi)
  (hw:¬(cV items.size 0 lo=0/\cV items.size items.size hi=items.size))
  (h:Q (.ref s.heap.objs.size) {s with heap:=s.heap.push {cls:=.type "tuple",data:=.seq ((items.toList.drop (cV items.size 0 lo)).take (cV items.size items.size hi-cV items.size 0 lo)).toArray}})
  (hsz:items.size<=sizeLine):wpAny (model prog w) A (getItem (.ref t) (.ref sl)) Q E s:=by
 have zB:sizeOk (.seq ((items.toList.drop (cV items.size 0 lo)).take (cV items.size items.size hi-cV items.size 0 lo)).toArray):=by show ((items.toList.drop (cV items.size 0 lo)).take (cV items.size items.size hi-cV items.size 0 lo)).toArray.size<=sizeLine;rw[U6,CQ,List.length_drop,RD];omega
 have hj:cV items.size items.size hi<=items.size:=Q1k _ _ (ZS _) hi;obtain⟨os,GQ,LL,qk⟩:=id hs;have Vh:s.TypeIs (.ref sl) "slice" := ⟨os,GQ,LL⟩;unfold getItem;try with_reducible refine Jn ?_
 first|refine ZM (Pf ?_)|skip
 refine ZM (wpAny_sequenceKey ht.typeIs (by decide) ?_);refine ZM (yp (name:=Str.ofString "__getitem__") ht.typeIs RS (D6 RS ht.typeIs entry_tuple_getitem ?_ (args_tuple_getitem _ _)));show wpAny _ _ (Builtin.Tuple.tupleItemsOf (.ref t) >>= _) _ _ s;refine ZM (tupleItemsOf_ ht ?_);refine ZM (RX Vh ?_);rw[Wr (by decide)];refine ZM (iL hs pl pu ?_);have Ka:¬((((cV items.size 0 lo:Nat):Int) == 0&&(1:Int) == 1&&(cV items.size items.size hi-cV items.size 0 lo) == items.size)=true):=by intro q;rw[Jk,Jk] at q;have q1:((cV items.size 0 lo:Nat):Int)=0:=eq_of_beq q.1.1;have q2:cV items.size items.size hi-cV items.size 0 lo=items.size:=eq_of_beq q.2;exact hw ⟨Pe,Pe⟩
 show wpAny _ _ (if (((cV items.size 0 lo:Nat):Int) == 0&&(1:Int) == 1&&(cV items.size items.size hi-cV items.size 0 lo) == items.size)=true then _ else _) _ _ s;rw[Uu Ka,Q0v];first|exact ZM (m:=Builtin.Tuple.tupleExact _) (Eb (Pf ⟨_,rfl,Pf h⟩) zB)|exact ZM (m:=Builtin.Tuple.tupleExact _) (Eb (ZM (Pf (Pf ⟨_,rfl,Pf h⟩))) zB)|exact ZM (ZM (m:=Builtin.Tuple.tupleExact _) (Eb (Pf (Pf ⟨_,rfl,Pf h⟩)) zB))|exact ZM (ZM (m:=Builtin.Tuple.tupleExact _) (Eb (Pf ⟨_,rfl,Pf h⟩) zB))
end
end HT
namespace L2
open PySem PySem.Spec PyProof.Rows
abbrev TO:=St->Hp->(Option Int->Hp->Prop)->Prop
def PO(X:Cx)(e:Option Expr)(t:TO):Prop:=∀(Ug:U5)(s:Shared)(σ:St)(H:Hp)(Q:Pq->Hp->Prop),Inv X Ug σ H s->t σ H Q->wpAny (model X.prog X.w) X.A (evalPart e X.env) (fun u s'=>∃o H',Inv X Ug σ H' s'/\IsPart u o/\Q o H') X.xe s
def Jc:TO:=fun _ H Q=>Q none H
def Q1s(t:TE):TO:=fun σ H Q=>t σ H fun x H1=>∃i,x=.int i/\Q (some i) H1
theorem intsAre_of:∀{us:Ul},Vals (ns.map V.int) us->IntsAre us ns:=by induction ns with|nil=>intro us r;rw[List.map_nil] at r;cases r;exact .nil|cons n ns ih=>intro us r;rw[P6] at r;cases r with|cons r1 r2=>obtain⟨t,e⟩:=r1;subst e;exact .cons n t (ih r2)
section
variable{X:Cx}{e:Expr}{te:TE}{lo hi:Option Expr}{tl th:TO}{pos p2:Pos}
theorem Q0R:PO X none Jc:=by intro Ug s σ H Q I h;rw[evalPart_none];exact Pf ⟨none,H,I,.none,h⟩
theorem Ih(h:PE X e te):PO X (some e) (Q1s te):=by intro Ug s σ H Q I hw;rw[evalPart_some];refine bT (h Ug s σ H _ I hw) fun u s1 ⟨x,H1,I1,r1,q1⟩=>?_;obtain⟨i,rfl,q⟩:=q1;obtain⟨t,rfl⟩:=r1;exact⟨some i,H1,I1,.int i t,q⟩
def uS(X:Cx)(r:V->Pq->Pq->Hp->VK->Prop):Prop:=∀(Ug:U5)(s:Shared)(σ:St)(H:Hp)(x:V)(v vl vu:Value)(lo hi:Pq)(sl:Addr)(Q:VK),Inv X Ug σ H s->RelV x v->s.heap.IsSliceOf sl vl vu .none->IsPart vl lo->IsPart vu hi->r x lo hi H Q->∃T id,typeLookup (.type T) "__getitem__" = pure (some (.builtin id))/\s.TypeIs v T/\wpAny (model X.prog X.w) X.A (getItem v (.ref sl)) (EP X Ug σ Q) X.xe s
theorem uS.or(h:uS X r)(h':uS X r'):uS X (fun x lo hi H Q=>r x lo hi H Q\/r' x lo hi H Q):=by intro Ug s σ H x v vl vu lo hi sl Q I rx hs pl pu q;rcases q with q|q;exact h Ug s σ H x v vl vu lo hi sl Q I rx hs pl pu q;exact h' Ug s σ H x v vl vu lo hi sl Q I rx hs pl pu q
def Z4(r:V->Pq->Pq->Hp->VK->Prop)(te:TE)(tl th:TO):TE:=fun σ H Q=>te σ H fun x H1=>tl σ H1 fun l H2=>th σ H2 fun u H3=>r x l u H3 Q
theorem EM(hr:uS X r)(he:PE X e te)(hl:PO X lo tl)(hu:PO X hi th):PE X (.Subscript e (.Slice lo hi none p2) pos) (Z4 r te tl th):=by intro Ug s σ H Q I h;refine Subscript_ (bT (he Ug s σ H _ I h) fun v s1 ⟨x,H1,I1,r1,q1⟩=>?_);refine wpAny_Slice (bT (hl Ug s1 σ H1 _ I1 q1) fun vl s2 ⟨l,H2,I2,pl,q2⟩=>bT (hu Ug s2 σ H2 _ I2 q2) fun vu s3 ⟨u,H3,I3,pu,q3⟩=>?_);rw[evalPart_none];refine Pf ?_;have I4:Inv X Ug σ H3 {s3 with heap:=s3.heap.push {cls:=.type "slice",data:=.fields #[vl,vu,.none]}}:=I3.kept (t':=s3.toks) fun b ob q=>T2 _ q;obtain⟨T,id,hT,ht,hg⟩:=hr Ug {s3 with heap:=s3.heap.push {cls:=.type "slice",data:=.fields #[vl,vu,.none]}} σ H3 x v vl vu l u s3.heap.objs.size Q I4 r1 (Heap.IsSliceOf.new ..) pl pu q3;show wpAny (model X.prog X.w) X.A (subscriptTail e (.Slice lo hi none p2) v (.ref s3.heap.objs.size)) (EP X Ug σ Q) X.xe {s3 with heap:=s3.heap.push {cls:=.type "slice",data:=.fields #[vl,vu,.none]}};exact tail_any (ops:=[.ref s3.heap.objs.size,v]) ht hT hg (by with_unfolding_all rfl)
def lR(xs:OY)(lo hi:Pq):OY:=(xs.drop (HT.cV xs.length 0 lo)).take (HT.cV xs.length xs.length hi-HT.cV xs.length 0 lo)
theorem jL(xs:OY)(lo hi:Pq):(lR xs lo hi).length<=xs.length:=by unfold lR;rw[CQ,List.length_drop];omega
def Wj(K:W.Frag):V->Pq->Pq->Hp->VK->Prop:=fun x lo hi H Q=>∃a xs,x=.ref a/\dz K H a xs/\¬(HT.cV xs.length 0 lo=0/\HT.cV xs.length xs.length hi=xs.length)/\∀p,H p=none->Q (.ref p) (upd H p (.tup (lR xs lo hi)))
theorem Oq:uS X (Wj X.K):=by
 intro Ug s σ H x v vl vu lo hi sl Q I rx hs pl pu h;obtain⟨a,xs,rfl,hx,hw,q⟩:=h;cases rx;obtain⟨aI,r,ht,hz⟩:=I.tuple hx;have ZW:aI.toArray.size=xs.length:=by rw[U6];exact r.length.symm
 refine⟨"tuple",_,PyProof.Rows.slot_tuple_getitem.lookup,ht.typeIs,?_⟩;refine HT.lV ht hs pl pu (by rw[ZW];exact hw) ?_ (by rw[ZW];exact hz);rw[ZW];refine⟨.ref s.heap.objs.size,_,I.laid (t':=s.toks) (o:=.tup (lR xs lo hi)) (fun b ob q=>T2 _ q) (ZS _) ?_,rfl,q _ (I.cj.fresh (ZS _))⟩;exact⟨WH (jL xs lo hi) hz,_,(r.drop (HT.cV xs.length 0 lo)).take (HT.cV xs.length xs.length hi-HT.cV xs.length 0 lo),lI.new _ _⟩
def Q1B(K:W.Frag):R2:=fun x y H Q=>∃a b xs ys,x=.ref a/\y=.ref b/\dz K H a xs/\dz K H b ys/\xs≠[]/\xs.length+ys.length<=sizeLine/\(ys=[]->Q (.ref a) H)/\(ys≠[]->∀p,H p=none->Q (.ref p) (upd H p (.tup (xs++ys))))
theorem Vals.mn(r:Vals xs us):us=[]<->xs=[]:=by cases r with|nil=>simp|cons _ _=>simp
theorem HG:gG X (binaryOp .Add) (Q1B X.K):=by intro Ug s σ H x y v u Q I rx ry h;obtain⟨a,b,xs,ys,rfl,rfl,ha,hb,hx,hz,q1,q2⟩:=h;cases rx;cases ry;obtain⟨aI,r1,p1,_⟩:=I.tuple ha;obtain⟨jC,r2,p2,_⟩:=I.tuple hb;refine HT.Gv p1 p2 (fun z=>hx (r1.mn.mp z)) (fun z=>⟨.ref a,H,I,rfl,q1 (r2.mn.mp z)⟩) (fun z=>?_) (by rw[<-r1.length,<-r2.length];exact hz);refine⟨.ref s.heap.objs.size,_,I.laid (t':=s.toks) (o:=.tup (xs++ys)) (fun b ob q=>T2 _ q) (ZS _) ?_,rfl,q2 (fun w=>z (r2.mn.mpr w)) _ (I.cj.fresh (ZS _))⟩;exact⟨by rw[En];exact hz,_,r1.append r2,lI.new _ _⟩
end
def Ma(n:Nat)(i:Int):Option Nat:=if 0<=i then(if i<n then some i.toNat else none) else if -(n:Int)<=i then some (i+n).toNat else none
def BW{α:Type}(xs:List α)(i:Int):Option α:=(Ma xs.length i).bind fun j=>xs[j]?
theorem zG(h:Ma n i=some j):seqIndex? i n=some j/\j<n/\-(n:Int)<=i/\i<n:=by unfold Ma at h;by_cases h0:0<=i;rw[Wr h0] at h;by_cases h1:i<n;rw[Wr h1] at h;have e:i.toNat=j:=OH h;exact⟨by rw[seqIndex_of h0 h1,e],Pe,Pe,h1⟩;rw[Uu h1] at h;cases h;rw[Uu h0] at h;by_cases h1:-(n:Int)<=i;rw[Wr h1] at h;have e:(i+n).toNat=j:=OH h;exact⟨by rw[seqIndex_neg Pe h1,e],Pe,h1,Pe⟩;rw[Uu h1] at h;cases h
theorem tF{α:Type}{xs:List α}{v:α}(h:BW xs i=some v):∃j,seqIndex? i xs.length=some j/\xs[j]?=some v/\j<xs.length/\-(xs.length:Int)<=i/\i<xs.length:=by unfold BW at h;cases e:Ma xs.length i with|none=>rw[e] at h;cases h|some j=>rw[e] at h;obtain⟨h1,h2,h3,h4⟩:=zG e;exact⟨j,h1,h,h2,h3,h4⟩
def tq(b:Expr):Prop:=∀o i,subscripted b false o i=operate [o,i] (getItem o i)
def Ge(X:Cx)(r:R2):Prop:=∀(value slice:Expr)(Ug:U5)(s:Shared)(σ:St)(H:Hp)(x y:V)(v u:Value)(Q:VK),Inv X Ug σ H s->RelV x v->RelV y u->r x y H Q->subscripted slice false v u=operate [v,u] (getItem v u)->wpAny (model X.prog X.w) X.A (subscriptTail value slice v u) (EP X Ug σ Q) X.xe s
def UO(X:Cx)(id:String)(r:V->OY->Hp->VK->Prop):Prop:=∀(Ug:U5)(s:Shared)(σ:St)(H:Hp)(x:V)(xs:OY)(v:Value)(us:Ul)(Q:VK),Inv X Ug σ H s->RelV x v->Vals xs us->r x xs H Q->wpAny (model X.prog X.w) X.A (call (.builtin id) (v::us)) (EP X Ug σ Q) X.xe s
section
variable{X:Cx}{a b:Expr}{ta tb:TE}{pos:Pos}
theorem Ge.or(h:Ge X r)(h':Ge X r'):Ge X (fun x y H Q=>r x y H Q\/r' x y H Q):=by intro value slice Ug s σ H x y v u Q I rx ry q hs;rcases q with q|q;exact h value slice Ug s σ H x y v u Q I rx ry q hs;exact h' value slice Ug s σ H x y v u Q I rx ry q hs
theorem Kq(hr:Ge X r)(ha:PE X a ta)(hb:PE X b tb)(hs:tq b):PE X (.Subscript a b pos) (Pp r ta tb):=by intro Ug s σ H Q I h;exact Subscript_ (K8 ha hb I h fun v u s2 x y H2 I2 rx ry q=>hr a b Ug s2 σ H2 x y v u Q I2 rx ry q (hs _ _))
def Sz(K:W.Frag):R2:=fun x y H Q=>∃p xs i v,x=.ref p/\y=.int i/\cX K H p xs/\BW xs i=some v/\Q v H
def SD(K:W.Frag):R2:=fun x y H Q=>∃p xs i v,x=.ref p/\y=.int i/\dz K H p xs/\BW xs i=some v/\Q v H
def SA:R2:=fun x y H Q=>∃z i c,x=.str z/\y=.int i/\z.length<=sizeLine/\BW z.cps.toList i=some c/\Q (.str ⟨#[c]⟩) H
theorem G7:Ge X (Sz X.K):=by
 intro value slice Ug s σ H x y v u Q I rx ry h hs;obtain⟨p,xs,i,z,rfl,rfl,hq,he,q⟩:=h;cases rx;obtain⟨t,rfl⟩:=ry;obtain⟨aI,r,pl,hz⟩:=I.list hq;obtain⟨j,h1,h2,h3,h4,h5⟩:=tF he;obtain⟨w,ew,SJ⟩:=r.get h2;have hl:=r.length;have hn:=qr;have fin:EP X Ug σ Q w s:=⟨z,H,I,SJ,q⟩;by_cases h0:0<=i;have hj:i.toNat=j:=by rw[seqIndex_of h0 h5] at h1;exact OH h1
 exact item_listR pl.isList h0 Pe (by rw[hj];simpa using ew) fin hs;have hj:(i+(aI.toArray.size:Int)).toNat=j:=by rw[seqIndex_neg Pe h4] at h1;rw[U6,<-hl];exact OH h1
 exact subscriptTail_builtinR (x:=w) pl.isList.typeIs slot_list_getitem.lookup (wpAny_getItem_list_neg (Q:=fun r s'=>r=w/\EP X Ug σ Q r s') pl.isList Pe (by rw[U6]<;>omega) Pe (by rw[hj];simpa using ew) ⟨rfl,fin⟩) hs
theorem Mc:Ge X (SD X.K):=by intro value slice Ug s σ H x y v u Q I rx ry h hs;obtain⟨p,xs,i,z,rfl,rfl,hq,he,q⟩:=h;cases rx;obtain⟨t,rfl⟩:=ry;obtain⟨aI,r,pl,hz⟩:=I.tuple hq;obtain⟨j,h1,h2,h3,h4,h5⟩:=tF he;obtain⟨w,ew,SJ⟩:=r.get h2;have hl:=r.length;have hn:=qr;have fin:EP X Ug σ Q w s:=⟨z,H,I,SJ,q⟩;exact subscriptTail_builtinR (x:=w) pl.typeIs slot_tuple_getitem.lookup (getItem_tuple (j:=j) (Q:=fun r s'=>r=w/\EP X Ug σ Q r s') pl Pe Pe (by rw[U6,<-hl];exact h1) (by simpa using ew) ⟨rfl,fin⟩) hs
theorem Mb:Ge X SA:=by
 intro value slice Ug s σ H x y v u Q I rx ry h hs;obtain⟨z,i,c,rfl,rfl,hz,he,q⟩:=h;obtain⟨t,rfl⟩:=rx;obtain⟨t',rfl⟩:=ry;obtain⟨j,h1,h2,h3,h4,h5⟩:=tF he;have hl:z.cps.toList.length=z.length:=by simp[Str.length]
 rw[hl] at h1 h4 h5;have hn:=qr;exact tail_any (typeIs_str s z t) slot_str_getitem.lookup (getItem_str (c:=c) (by have e1:decide (i < -(2 ^ 63:Int))=false:=Nn Pe;have e2:decide (i>=2 ^ 63)=false:=Nn Pe;rw[e1,e2,Bool.or_false]) (by rw[h1];simpa using h2) ⟨.str ⟨#[c]⟩,H,I.tok _,⟨_,rfl⟩,q⟩) hs
def Yb(K:W.Frag):R2:=fun x y H Q=>Sz K x y H Q\/SD K x y H Q\/SA x y H Q
theorem DY:Ge X (Yb X.K):=G7.or (Mc.or Mb)
theorem xM(aI:Ul)(n j:Nat)(u:Value):Obj.mapSeq (·.setIfInBounds j u) {cls:=.type "list",data:=.seq aI.toArray n}={cls:=.type "list",data:=.seq (aI.set j u).toArray n}:=by simp[Obj.mapSeq]
theorem Inv.lst{Ug:U5}{σ:St}{H:Hp}{s:Shared}{p:Addr}{xs:OY}(I:Inv X Ug σ H s)(h:H p=some (.lst xs)) : ∃(aI:Ul)(n:Nat),Vals xs aI/\s.heap.get? p=some {cls:=.type "list",data:=.seq aI.toArray n}/\xs.length<=sizeLine:=by obtain⟨z,aI,n,r,e⟩:=I.cj p _ h;exact⟨aI,n,r,e,z⟩
theorem Inv.Mq{Ug:U5}{σ:St}{H:Hp}{s:Shared}{p:Addr}{xs ys:OY}{aI its':Ul}{n n':Nat}{f:Obj->Obj}(I:Inv X Ug σ H s)(h:H p=some (.lst xs))
  (ho:s.heap.get? p=some {cls:=.type "list",data:=.seq aI.toArray n}) (hf:f {cls:=.type "list",data:=.seq aI.toArray n}={cls:=.type "list",data:=.seq its'.toArray n'}) (r:Vals ys its') (hz:ys.length<=sizeLine) (t:Nat) :
  Inv X Ug σ (upd H p (.lst ys)) {s with heap:=s.heap.update p f,toks:=t}:=by
 have e:(s.heap.update p f).get? p=some {cls:=.type "list",data:=.seq its'.toArray n'}:=by rw[xK f ho (by rw[hf]<;>rfl),hf]
 refine I.write (x:=p) (e:=p) (by rw[h];trivial) (.inl rfl) (fun b u hb q=>(Mz _ _ (Ry hb)).trans q) ⟨_,e⟩ ?_;exact⟨hz,its',n',r,e⟩
def Q2r:V->V->V->Hp->(Hp->Prop)->Prop:=fun o i v H Q=>∃p xs k j,o=.ref p/\i=.int k/\H p=some (.lst xs)/\Ma xs.length k=some j/\Q (upd H p (.lst (xs.set j v)))
theorem set_list:PZ X Q2r:=by
 intro Ug s σ H o i v ov iv u Q I ro ri rv h;obtain⟨p,xs,k,j,rfl,rfl,hp,hj,q⟩:=h;cases ro;obtain⟨t,rfl⟩:=ri;obtain⟨aI,n,r,ho,hz⟩:=I.lst hp;obtain⟨h1,h2,h3,h4⟩:=zG hj;have hl:=r.length;have hn:=qr;have I':Inv X Ug σ (upd H p (.lst (xs.set j v))) {s with heap:=s.heap.update p (Obj.mapSeq (·.setIfInBounds j u))}:=I.Mq hp ho (xM aI n j u) (r.set rv j) (by rw[List.length_set];exact hz) s.toks;by_cases h0:0<=k;have hk:k.toNat=j:=by rw[seqIndex_of h0 h4] at h1;exact OH h1
 exact W.ki_setAt ho h0 Pe (by rw[U6,<-hl];exact h4) (by rw[hk];exact⟨_,I',q⟩);have hk:(k+(aI.toArray.size:Int)).toNat=j:=by rw[seqIndex_neg Pe h3] at h1;rw[U6,<-hl];exact OH h1
 exact W.ki_setBack ho Pe (by rw[U6,<-hl];exact h3) Pe (by rw[hk];exact⟨_,I',q⟩)
theorem uF(lo hi:Pq)(n:Nat):(sliceBounds lo hi none n).1=((HT.cV n 0 lo:Nat):Int)/\(sliceBounds lo hi none n).2.1=((HT.cV n n hi:Nat):Int)/\(sliceBounds lo hi none n).2.2=1:=by
 refine⟨?_,?_,rfl⟩;cases lo with|none=>simp[sliceBounds,HT.cV]|some i=>simp only[sliceBounds,HT.cV,Option.getD_none,show (1:Int) > 0 by decide,if_true];by_cases h:i<0;simp only[h,if_true]<;>omega;simp only[h,if_false]<;>omega
 cases hi with|none=>simp[sliceBounds,HT.cV]|some i=>simp only[sliceBounds,HT.cV,Option.getD_none,show (1:Int) > 0 by decide,if_true];by_cases h:i<0;simp only[h,if_true]<;>omega;simp only[h,if_false]<;>omega
theorem rC(aI:Ul)(lo hi:Pq):slicePick aI.toArray lo hi none=((aI.drop (HT.cV aI.length 0 lo)).take (HT.cV aI.length aI.length hi-HT.cV aI.length 0 lo)).toArray:=by obtain⟨h1,h2,h3⟩:=uF lo hi aI.toArray.size;unfold slicePick;rw[h1,h2,h3];simp only[sliceRange_one,pick_run,List.size_toArray]<;>rfl
def N6(K:W.Frag):V->Pq->Pq->Hp->VK->Prop:=fun x lo hi H Q=>∃a xs,x=.ref a/\cX K H a xs/\∀p,H p=none->Q (.ref p) (upd H p (.lst (lR xs lo hi)))
theorem Q0g:uS X (N6 X.K):=by intro Ug s σ H x v vl vu lo hi sl Q I rx hs pl pu h;obtain⟨a,xs,rfl,hx,q⟩:=h;cases rx;obtain⟨aI,r,ht,hz⟩:=I.list hx;have ZW:=r.length;refine⟨"list",_,slot_list_getitem.lookup,ht.isList.typeIs,?_⟩;refine wpAny_getItem_list_slice ht.isList hs pl pu .none Ro ?_ (by rw[U6]<;>omega);rw[rC,<-ZW];refine⟨.ref s.heap.objs.size,_,I.laid (t':=s.toks) (o:=.lst (lR xs lo hi)) (fun b ob q=>T2 _ q) (ZS _) ?_,rfl,q _ (I.cj.fresh (ZS _))⟩;exact⟨WH (jL xs lo hi) hz,_,0,(r.drop (HT.cV xs.length 0 lo)).take (HT.cV xs.length xs.length hi-HT.cV xs.length 0 lo),TR _ rfl⟩
def kL:V->Bool|.bE=>true|.bl _=>true|.int _=>true|.str _=>true|_=>false
def GB:V->V->Bool|.bE,.bE=>true|.bl a,.bl b=>a == b|.bl a,.int b=>(if a then 1 else 0) == b|.int a,.bl b=>a == (if b then 1 else 0)|.int a,.int b=>a == b|.str a,.str b=>a == b|_,_=>false
theorem Lf(ry:RelV y u)(rx:RelV x v)(fy:kL y=true)(fx:kL x=true):SeqAt.EqAt A s u v (GB y x):=by
 cases y with
 |bE=>cases ry;cases x with|bE=>cases rx;exact SeqAt.EqAt.same _|bl b=>cases rx;exact SeqAt.EqAt.none_bool b|int b=>obtain⟨t,rfl⟩:=rx;exact SeqAt.EqAt.none_int b t|str b=>obtain⟨t,rfl⟩:=rx;exact SeqAt.EqAt.none_str b t|_=>exact absurd (show false=true from fx) DV
 |bl a=>cases ry;cases x with|bE=>cases rx;exact SeqAt.EqAt.bool_none a|bl b=>cases rx;exact SeqAt.EqAt.bool_bool a b|int b=>obtain⟨t,rfl⟩:=rx;exact SeqAt.EqAt.bool_int a b t|str b=>obtain⟨t,rfl⟩:=rx;exact SeqAt.EqAt.bool_str a b t|_=>exact absurd (show false=true from fx) DV
 |int a=>obtain⟨t',rfl⟩:=ry;cases x with|bE=>cases rx;exact SeqAt.EqAt.int_none a t'|bl b=>cases rx;exact SeqAt.EqAt.int_bool a t' b|int b=>obtain⟨t,rfl⟩:=rx;exact SeqAt.EqAt.int_int a t' b t|str b=>obtain⟨t,rfl⟩:=rx;exact SeqAt.EqAt.int_str a t' b t|_=>exact absurd (show false=true from fx) DV
 |str a=>obtain⟨t',rfl⟩:=ry;cases x with|bE=>cases rx;exact SeqAt.EqAt.str_none a t'|bl b=>cases rx;exact SeqAt.EqAt.str_bool a t' b|int b=>obtain⟨t,rfl⟩:=rx;exact SeqAt.EqAt.str_int a t' b t|str b=>obtain⟨t,rfl⟩:=rx;exact SeqAt.EqAt.str_str a t' b t|_=>exact absurd (show false=true from fx) DV
 |_=>exact absurd (show false=true from fy) DV
def Gz(x:V)(u:Value):Bool:=match u with|.none=>GB .bE x|.bool b=>GB (.bl b) x|.int i _=>GB (.int i) x|.str z _=>GB (.str z) x|_=>false
theorem C7(r:RelV y u)(f:kL y=true):Gz x u=GB y x:=by cases y with|bE=>cases r;rfl|bl b=>cases r;rfl|int i=>obtain⟨t,rfl⟩:=r;rfl|str z=>obtain⟨t,rfl⟩:=r;rfl|_=>exact absurd (show false=true from f) DV
theorem tD:∀{xs:OY}{us:Ul},Vals xs us->xs.all kL=true->us.any (Gz x)=xs.any fun y=>GB y x|_,_,.nil,_=>rfl|y::xs,u::us,.cons r t,f=>by rw[FA,Jk] at f;rw[VW,VW,C7 r f.1,tD t f.2]
theorem qx(rx:RelV x v)(fx:kL x=true):∀{xs:OY}{us:Ul},Vals xs us->xs.all kL=true->∀u∈us,SeqAt.EqAt A s u v (Gz x u)|_,_,.nil,_=>fun u hu=>by cases hu|y::xs,u::us,.cons r t,f=>fun u' hu=>by rw[FA,Jk] at f;rcases List.mem_cons.mp hu with rfl|hu;rw[C7 r f.1];exact Lf r rx f.1 fx;exact qx rx fx t f.2 u' hu
def Ud(x:V)(xs:OY):Bool:=xs.any fun y=>GB y x
def Ya(K:W.Frag)(neg:Bool):R2:=fun x y H Q=>∃p xs,y=.ref p/\(cX K H p xs\/dz K H p xs)/\kL x=true/\xs.all kL=true/\Q (.bl (if neg then !Ud x xs else Ud x xs)) H
theorem fq:gG X (compareOp .In) (Ya X.K false):=by intro Ug s σ H x y v u Q I rx ry h;obtain⟨p,xs,rfl,hq,fx,fs,q⟩:=h;cases ry;rcases hq with hq|hq;obtain⟨aI,r,pl,hz⟩:=I.list hq;refine SeqAt.in_listAt (Gz x) pl.isList (fun w hw=>qx rx fx r fs w (by simpa using hw)) ⟨.bl _,H,I,rfl,?_⟩;rw[show aI.toArray.any (Gz x)=aI.any (Gz x) by simp,tD r fs];exact q;obtain⟨aI,r,pl,hz⟩:=I.tuple hq;refine SeqAt.in_tupleAt (Gz x) pl (fun w hw=>qx rx fx r fs w (by simpa using hw)) ⟨.bl _,H,I,rfl,?_⟩;rw[show aI.toArray.any (Gz x)=aI.any (Gz x) by simp,tD r fs];exact q
theorem tG:d6 X (.builtin "len") (fun xs H Q=>∃p ys,xs=[.ref p]/\(cX X.K H p ys\/dz X.K H p ys)/\Q (.int ys.length) H):=by intro Ug s σ H xs us Q I r h;obtain⟨p,ys,rfl,hq,q⟩:=h;obtain⟨u,rfl,rx⟩:=vals1 r;cases rx;have hn:=qr;rcases hq with hq|hq;obtain⟨aI,r',pl,hz⟩:=I.list hq;have ZW:=r'.length;exact Calls.call_len_list pl.isList (by simp only[List.size_toArray]<;>omega) ⟨.int ys.length,H,I.tok _,⟨s.toks+1,by rw[U6,ZW]⟩,q⟩;obtain⟨aI,r',pl,hz⟩:=I.tuple hq;have ZW:=r'.length;exact len_tuple pl (by simp only[List.size_toArray]<;>omega) ⟨.int ys.length,H,I.tok _,⟨s.toks+1,by rw[U6,ZW]⟩,q⟩
theorem tH:d6 X (.type "list") (fun xs H Q=>∃p ys,xs=[.ref p]/\(cX X.K H p ys\/dz X.K H p ys)/\∀l,H l=none->Q (.ref l) (upd H l (.lst ys))):=by intro Ug s σ H xs us Q I r h;obtain⟨p,ys,rfl,hq,q⟩:=h;obtain⟨u,rfl,rx⟩:=vals1 r;cases rx;have fin:∀(aI:Ul),Vals ys aI->ys.length<=sizeLine->∀(h':Heap)(c':Nat),(∀b o',s.heap.get? b=some o'->h'.get? b=some o')->h'.get? s.heap.objs.size=some {cls:=.type "list",dict:=none,data:=.seq aI.toArray c',slots:=#[]}->EP X Ug σ Q (.ref s.heap.objs.size) {s with heap:=h'}:=fun aI r' hz h' c' kp e=>⟨.ref s.heap.objs.size,_,I.laid (t':=s.toks) kp (ZS _) (show dD X.prog X.w _ h' _ (.lst ys) from⟨hz,aI,c',r',e⟩),rfl,q _ (I.cj.fresh (ZS _))⟩;rcases hq with hq|hq;obtain⟨aI,r',pl,hz⟩:=I.list hq;have ZW:=r'.length;obtain⟨o,ho,hc,n,hd⟩:=pl.isList;exact call_list_seq p (.inl rfl) ho hc hd (fun h' c' kp e=>fin aI r' hz h' c' kp e) (by simp only[List.size_toArray]<;>omega);obtain⟨aI,r',pl,hz⟩:=I.tuple hq;have ZW:=r'.length;obtain⟨o,ho,hc,n,hd⟩:=pl;exact call_list_seq p (.inr rfl) ho hc hd (fun h' c' kp e=>fin aI r' hz h' c' kp e) (by simp only[List.size_toArray]<;>omega)
theorem Q1C:d6 X (.type "tuple") (fun xs H Q=>∃p ys,xs=[.ref p]/\((cX X.K H p ys/\∀l,H l=none->Q (.ref l) (upd H l (.tup ys)))\/(dz X.K H p ys/\Q (.ref p) H))):=by
 intro Ug s σ H xs us Q I r h;obtain⟨p,ys,rfl,h⟩:=h;obtain⟨u,rfl,rx⟩:=vals1 r;cases rx;rcases h with ⟨hq,q⟩|⟨hq,q⟩
 obtain⟨aI,r',pl,hz⟩:=I.list hq;have ZW:=r'.length;refine call_tuple_list pl.isList (fun h' kp=>?_) (by simp only[List.size_toArray]<;>omega);have I1:Inv X Ug σ H {s with heap:=h'}:=I.kept (t':=s.toks) kp;have I2:Inv X Ug σ (upd H h'.objs.size (.tup ys)) {s with heap:=h'.push {cls:=.type "tuple",data:=.seq aI.toArray}}:=I1.laid (t':=s.toks) (fun b o e=>T2 _ e) (ZS _) (show dD X.prog X.w _ _ _ (.tup ys) from⟨hz,aI,r',lI.new _ _⟩);exact⟨.ref h'.objs.size,_,I2,rfl,q _ (I1.cj.fresh (ZS _))⟩;obtain⟨aI,r',pl,hz⟩:=I.tuple hq;exact call_tuple_same pl ⟨.ref p,H,I,rfl,q⟩
def WM(K:W.Frag)(T:String)(x:V)(H:Hp):Prop:=match x with|.str _=>T="str"|.int _=>T="int"|.ref p=>(T="list" /\ ∃xs,cX K H p xs)\/(T="tuple" /\ ∃o,K.lookup p=some o/\o.cls=.type "tuple" /\ o.dict=none)\/(T="dict" /\ ((∃aV ep,H p=some (.dK aV ep))\/∃aV,H p=some (.dT aV)))\/(T="set" /\ ∃S n,H p=some (.set S n))|_=>False
theorem Fz{Ug:U5}{σ:St}{H:Hp}{s:Shared}{T:String}{x:V}{v:Value}(I:Inv X Ug σ H s)(r:RelV x v)(ty:WM X.K T x H) : s.TypeIs v T/\∀a,v=.ref a->∃ob,s.heap.get? a=some ob/\ob.dict=none:=by
 cases x with
 |str z=>obtain⟨t,rfl⟩:=r;cases (show T="str" from ty);exact⟨typeIs_str s z t,fun _ e=>nomatch e⟩|int i=>obtain⟨t,rfl⟩:=r;cases (show T="int" from ty);exact⟨typeIs_int s i t,fun _ e=>nomatch e⟩|ref p=>
  cases r;rcases ty with ⟨rfl,xs,hq⟩|⟨rfl,o,hk,hc,hd⟩|⟨rfl,hk⟩|⟨rfl,S,n,hk⟩
  obtain⟨aI,_,pl,_⟩:=I.list hq;refine⟨pl.isList.typeIs,fun a e=>?_⟩;cases e;obtain⟨o,n,e,c,hd,_⟩:=pl;exact⟨o,e,hd⟩;refine⟨⟨o,I.rk p o hk,hc⟩,fun a e=>?_⟩;cases e;exact⟨o,I.rk _ o hk,hd⟩;have z:∃o,s.heap.get? p=some o/\o.ExactDict:=by
   rcases hk with ⟨aV,ep0,hk⟩|⟨aV,hk⟩
   obtain⟨_,_,_,_,o,_,e,ex,_⟩:=I.cj p _ hk;exact⟨o,e,ex⟩;obtain⟨_,_,_,_,o,_,_,e,ex,_⟩:=I.cj p _ hk;exact⟨o,e,ex⟩
  obtain⟨o,e,ex⟩:=z;refine⟨⟨o,e,ex.1⟩,fun a e2=>?_⟩;cases e2;exact⟨o,e,ex.2.1⟩;obtain⟨o,_,_,_,e,ex,_⟩:=I.cj p _ hk;refine⟨⟨o,e,ex.1⟩,fun a e2=>?_⟩;cases e2;exact⟨o,e,ex.2.1⟩
 |_=>exact False.elim ty
def Ww(K:W.Frag)(T:String)(r:V->OY->Hp->VK->Prop)(to:TE):TE:=fun σ H Q=>to σ H fun x H1=>WM K T x H1/\r x [] H1 Q
def Ux(K:W.Frag)(T:String)(r:V->OY->Hp->VK->Prop)(to:TE)(t:TA):TE:=fun σ H Q=>to σ H fun x H1=>WM K T x H1/\t σ H1 fun xs H2=>r x xs H2 Q
variable{o e:Expr}{es:Wg}{to:TE}{t:TA}{name:Str}{V7 iX:Pos}{T id:String}{r:V->OY->Hp->VK->Prop}
theorem NJ(pa:PlainAttrs T)(slot:Slot T name id)(VG:typeOf (.builtin id)=pure (.type "method_descriptor"))(hm:UO X id r)(ho:PE X o to)(Dz:attributeBase o name X.env (eval o X.env)=eval o X.env:=by rfl) (vI:(V7.endLine == iX.line)=true:=by rfl):PE X (.Call (.Attribute o name V7) [] [] iX) (Ww X.K T r to):=by intro Ug s σ H Q I h;refine wpAny_Call_method0_late Dz vI (bT (ho Ug s σ H _ I h) fun v s1 ⟨x,H1,I1,r1,ty,q1⟩=>?_);obtain⟨h1,h2⟩:=Fz I1 r1 ty;exact⟨T,id,pa,slot,VG,h1,h2,Calls.callWith_builtin rfl (PySem.evalArgs_none (hm Ug s1 σ H1 x [] v [] Q I1 r1 .nil q1))⟩
theorem Ko(pa:PlainAttrs T)(slot:Slot T name id)(VG:typeOf (.builtin id)=pure (.type "method_descriptor"))(hm:UO X id r)(ho:PE X o to)(ha:PA X (e::es) t)
  (Dz:attributeBase o name X.env (eval o X.env)=eval o X.env:=by rfl)
  (Vo:((backTo iX (starEach (e::es) X.env)).all (fun x=>!x.1)&&(backToKw iX (keywordEach [] X.env)).all (fun x=>x.1.isSome) && decide ((e::es).length+([]:List Keyword).length+(if ([]:List Keyword).isEmpty then 0 else 1)<30))=true:=by rfl)
  (vI:(V7.endLine == iX.line)=true:=by rfl) (hs:starEach (e::es) X.env=(false,eval e X.env)::starEach es X.env:=by rfl) (LR:(backTo iX (starEach es X.env)).any (·.1)=false:=by rfl) :
  PE X (.Call (.Attribute o name V7) (e::es) [] iX) (Ux X.K T r to t):=by
 intro Ug s σ H Q I h;refine wpAny_Call_method_late Dz Vo vI rfl (bT (ho Ug s σ H _ I h) fun v s1 ⟨x,H1,I1,r1,ty,q1⟩=>?_);obtain⟨h1,h2⟩:=Fz I1 r1 ty;refine⟨T,id,pa,slot,VG,h1,h2,?_⟩;have hA:=ha iX Ug s1 σ H1 _ I1 q1;rw[hs] at hA ⊢;refine Calls.callWith_builtin (by show (false||(backTo iX (starEach es X.env)).any (·.1))=false;rw[LR]<;>rfl) (Calls.evalArgs_plain ?_);exact bT hA fun us s2 ⟨vs,H2,I2,r2,q2⟩=>hm Ug s2 σ H2 x vs v us Q I2 r1 r2 q2
end
def WZ(X:Cx)(id:String)(r:V->OY->Hp->VK->Prop):Prop:=∀(Ug:U5)(s:Shared)(σ:St)(H:Hp)(x:V)(xs:OY)(v:Value)(us:Ul)(Q:VK),Inv X Ug σ H s->RelV x v->Vals xs us->r x xs H Q->wpAny (model X.prog X.w) X.A (call (.builtin id) (v::us)) (EP X Ug σ Q) X.xe s
theorem Vals.one:∀{x:V}{us:Ul},Vals [x] us->∃u,us=[u]/\RelV x u|_,_,.cons r .nil=>⟨_,rfl,r⟩
theorem Vals.zero:∀{us:Ul},Vals [] us->us=[]|_,.nil=>rfl
theorem Vals.reverse(h:Vals xs us):Vals xs.reverse us.reverse:=by induction h with|nil=>exact .nil|cons r t ih=>rw[Wz,Wz];exact Vals.append ih (.cons r .nil)
theorem Vals.rep(h:Vals xs us):∀k:Nat,Vals (List.replicate k xs).flatten (List.replicate k us).flatten|0=>.nil|k+1=>by rw[N3,N3,Of,Of];exact Vals.append h (Vals.rep h k)
theorem foldl_rep(aI:Ul):∀(k:Nat)(acc:Ul),List.foldl (fun x1 x2=>x1++x2) acc.toArray (List.replicate k aI.toArray)=(acc++(List.replicate k aI).flatten).toArray
|0,acc=>Ro|k+1,acc=>by
 have e:acc.toArray++aI.toArray=(acc++aI).toArray:=Ro;have e2:(acc++aI)++(List.replicate k aI).flatten=acc++(List.replicate (k+1) aI).flatten:=by rw[N3,Of,List.append_assoc]
 rw[<-e2,<-foldl_rep aI k (acc++aI),<-e,N3,HW]
section
variable{X:Cx}{Ug:U5}{σ:St}{H:Hp}{s:Shared}{l b:Addr}{xs ys zs:OY}
theorem Inv.Rw{aI its':Ul}{n:Nat}{f:Array Value->Array Value}{t':Nat}(I:Inv X Ug σ H s)(hH:H l=some (.lst xs))
  (e:s.heap.get? l=some {cls:=.type "list",data:=.seq aI.toArray n}) (hf:f aI.toArray=its'.toArray) (hv:Vals ys its') (hz:ys.length<=sizeLine) :
  Inv X Ug σ (upd H l (.lst ys)) {s with heap:=s.heap.update l (Obj.mapSeq f),toks:=t'}:=by
 have q:=PySem.IsL.update e f;rw[hf] at q;refine I.write (x:=l) (e:=l) (by rw[hH];exact trivial) (.inl rfl) (fun b' u hb hu=>(Mz s.heap (Obj.mapSeq f) (Ry hb)).trans hu) ⟨_,q⟩ ?_;exact⟨hz,its',_,hv,q⟩
theorem Inv.Mp(I:Inv X Ug σ H s)(hv:Vals ys aI)(hz:ys.length<=sizeLine) : Inv X Ug σ (upd H s.heap.objs.size (.lst ys)) {s with heap:=s.heap.push {cls:=.type "list",data:=.seq aI.toArray},toks:=t'}:=
 I.laid (fun _ _ q=>T2 _ q) (ZS _) ⟨hz,aI,0,hv,TR _ rfl⟩
theorem Inv.fresh(I:Inv X Ug σ H s):H s.heap.objs.size=none:=I.cj.fresh (ZS _)
theorem Inv.Hh(I:Inv X Ug σ H s)(hH:H l=some (.lst xs)):xs.length<=sizeLine/\∃(aI:Ul)(n:Nat),Vals xs aI/\xs.length=aI.length/\s.heap.get? l=some {cls:=.type "list",data:=.seq aI.toArray n}:=by obtain⟨z,aI,n,r,e⟩:=I.cj l _ hH;exact⟨z,aI,n,r,r.length,e⟩
theorem vV(h:n<=sizeLine):Builtin.List.listTooLong n=false:=by unfold Builtin.List.listTooLong;exact Nn Pe
end
section
variable{X:Cx}
def uz:V->OY->Hp->VK->Prop:=fun x vs H Q=>∃l xs y,x=.ref l/\vs=[y]/\H l=some (.lst xs)/\xs.length<sizeLine/\Q .bE (upd H l (.lst (xs++[y])))
theorem sH:WZ X "list.append" uz:=by intro Ug s σ H x vs v us Q I rx rv h;obtain⟨l,xs,y,rfl,rfl,hH,hz,q⟩:=h;cases rx;obtain⟨u,rfl,ru⟩:=rv.one;obtain⟨z,aI,n,r,hl,e⟩:=I.Hh hH;refine My F.slot_list_append ⟨_,e,rfl⟩ F.entry_list_append (F.args_list_append_2 _ _) (PySem.list_append l aI.toArray n u (by rw[U6];omega)) ⟨e,?_⟩;refine⟨.bE,_,I.Rw (its':=aI++[u]) hH e Ro (r.append (.cons ru .nil)) ?_,rfl,q⟩;rw[En,List.length_singleton];omega
def z9:V->OY->Hp->VK->Prop:=fun x vs H Q=>∃l b xs zs,x=.ref l/\vs=[.ref b]/\H l=some (.lst xs)/\H b=some (.lst zs)/\xs.length+zs.length<=sizeLine/\Q .bE (upd H l (.lst (xs++zs)))
theorem Q1n:WZ X "list.extend" z9:=by
 intro Ug s σ H x vs v us Q I rx rv h;obtain⟨l,b,xs,zs,rfl,rfl,hH,hB,hz,q⟩:=h;cases rx;obtain⟨u,rfl,ru⟩:=rv.one;cases ru;obtain⟨z,aI,n,r,hl,e⟩:=I.Hh hH;obtain⟨z2,jC,n2,r2,J9,e2⟩:=I.Hh hB;have hsz:aI.toArray.size+jC.toArray.size<=sizeLine:=by rw[U6,U6];omega
 have DF:¬(!aI.toArray.isEmpty&&Builtin.List.listTooLong (aI.toArray.size+jC.toArray.size))=true:=by rw[vV hsz,Bool.and_false];exact DV
 refine My F.slot_list_extend ⟨_,e,rfl⟩ F.entry_list_extend (F.args_list_extend_2 _ _) (AutoSeq1.list_extend_list_list_0 l aI.toArray n b jC.toArray n2 DF (by rw[U6];omega) Pe) ⟨e,e2,?_⟩;refine⟨.bE,_,I.Rw (its':=aI++jC) hH e Ro (r.append r2) ?_,rfl,q⟩;rw[En];omega
def N5:R2:=fun x y H Q=>∃l k xs,x=.ref l/\y=.int k/\H l=some (.lst xs)/\-(2 ^ 63)<=k/\k<2 ^ 63/\xs.length*k.toNat<=sizeLine/\∀p,H p=none->Q (.ref p) (upd H p (.lst (List.replicate k.toNat xs).flatten))
theorem len_rep{α:Type}(xs:List α)(k:Nat):(List.replicate k xs).flatten.length=k*xs.length:=by induction k with|zero=>simp|succ k ih=>rw[N3,Of,En,ih,Nat.succ_mul,Nat.add_comm]
theorem Q2M:gG X (binaryOp .Mult) N5:=by
 intro Ug s σ H x y v u Q I rx ry h;obtain⟨l,k,xs,rfl,rfl,hH,h1,h2,hz,q⟩:=h;cases rx;obtain⟨t,rfl⟩:=ry;obtain⟨z,aI,n,r,hl,e⟩:=I.Hh hH;have ZW:aI.toArray.size*k.toNat<=sizeLine:=by rw[U6,<-hl];exact hz
 have Vk:¬aI.toArray.size*k.toNat > (2 ^ 63-1) / 8:=by
  have:(sizeLine:Nat)<=(2 ^ 63-1) / 8:=by decide
  omega
 have Vp:¬(!Builtin.List.listFitsIndex k)=true:=by rw[fitsIndex_both h1 h2];exact DV
 have DF:¬Builtin.List.listTooLong (aI.toArray.size*k.toNat)=true:=by rw[vV ZW];exact DV
 have Vv:List.foldl (fun x1 x2=>x1++x2) #[] (List.replicate (if aI.toArray.isEmpty=true then 0 else k.toNat) aI.toArray)=(List.replicate k.toNat aI).flatten.toArray:=by
  have f0:∀m:Nat,List.foldl (fun x1 x2=>x1++x2) #[] (List.replicate m aI.toArray)=(List.replicate m aI).flatten.toArray:=fun m=>by have:=foldl_rep aI m [];rw[List.nil_append] at this;exact this
  rw[f0];cases aI with|nil=>simp|cons a r'=>rw[Uu Ro]
 refine wpAny_binaryOp_repeat_ref (T:="list") (U:="int") (by decide) ⟨_,e,rfl⟩ (fun s'=>typeIs_int s' k t) noFill_list_mul F.fills_int_mul F.slot_int_rmul repeat_list F.slot_int_index.lookup (My F.slot_int_rmul (typeIs_int s k t) F.entry_int_rmul (F.args_int_rmul_2 _ _) (int___rmul___int_list k t l aI.toArray n) ⟨e,rfl,⟨_,e,rfl⟩,My F.slot_list_mul ⟨_,e,rfl⟩ F.entry_list_mul (F.args_list_mul_2 _ _) (AutoListH.list___mul___list_int_3 l aI.toArray n k t Vp Vk DF) ⟨e,?_⟩⟩);rw[Vv];exact⟨.ref _,_,I.Mp (t':=s.toks) (r.rep k.toNat) (by rw[len_rep,Nat.mul_comm];exact hz),rfl,q _ I.fresh⟩
end
end L2
namespace WW
open PySem PySem.W PySem.Calls PyProof.Rows
theorem oW:∀(ns:T1)(vs:Ul),WellAll P h vs (ns.map WData.int)->IntsAre vs ns:=by intro ns;induction ns with|nil=>intro vs w;rw[List.map_nil] at w;cases w;exact .nil|cons n ns ih=>intro vs w;rw[P6] at w;cases w with|cons a b=>cases a;exact .cons _ _ (ih _ b)
theorem Br{l:OpenLaw}{n:Nat}(hn:l.most=some n){P:Params}{h:Heap}{args:List WData}{vals:Ul}
  (GR:l.row.toRowW.claim.pre args=true) (VI:WellAll P h vals args) :
  ∃a vs ns,vals=[Value.ref a]/\args=[WData.list (ns.map WData.int)]/\h.get? a=some {cls:=.type "list",data:=.seq vs.toArray}/\IntsAre vs ns/\ns.length<=n:=by
 have Zp:WShape.hasAll [] args [.list .int]=true:=(pre_splitW GR).1;have hc:l.pre.holds [] {args:=args}=true:=(pre_splitW GR).2;obtain⟨d,r,rfl,h1,h2⟩:=hasAllW_cons Zp;obtain rfl:=hasAllW_nil h2;obtain⟨xs,rfl,h3⟩:=hasW_list h1;obtain⟨ns,rfl⟩:=items_int h3;have ZW:ns.length<=n:=by
  unfold OpenLaw.pre at hc;have h4:(WTm.not (.lt (.lit (.int (n:Int))) (.len (.arg 0)))).holds [] {args:=[.list (ns.map .int)]}=true:=by have h4:=(holds_andW hc).1;rw[hn] at h4;exact h4
  have h5:=condW_of h4 (w_not (w_lt w_lit (w_len_list (w_arg rfl))));rw[uG] at h5;refine Nat.le_of_not_lt fun q=>?_;have q':(n:Int)<((ns.length:Nat):Int):=Pe;first| (rw[WN q'] at h5;exact absurd h5 (by decide))| (simp at h5;omega)
 cases VI with|cons w1 w2=>cases w2;cases w1 with|list ho Vi=>exact⟨_,_,ns,rfl,rfl,ho,oW ns _ Vi,ZW⟩
theorem Bk(l:OpenLaw)(args:List WData):l.row.toRowW.claim.post args (.bool true) args=true:=postW_of (r:=l.row.toRowW) (X:=(true == true))
 (show WShape.has [] (.bool true) .bool=true by first|rfl|decide|simp[WShape.has,WShape.arms,WShape.armsAll])
 (show (WTm.eq .res (.lit (.bool true))).value [] {args:=args,res:=some (.bool true),after:=args}=some (.bool (true == true)) from w_eq_bool (w_res rfl) w_lit) rfl
theorem uX{l:OpenLaw}{n:Nat}{q:Program}{loose:Ph}{XP:(Str->X0)->Heap->Prop}{YP:World->Heap->Prop}{d:DefRec}
  (hn:l.most=some n) (QK:d.params.defaults=[])
  (call:∀(w:World)(s₀ bx:Shared)(mg mb:Str->X0)(fa:Addr)(o:Obj)(pm cd doc:Value)(a:Addr)(vs:Ul)(ns:T1),
   Ground q loose [] XP w s₀ mg mb bx.heap->YP w bx.heap ->
   bx.heap.get? fa=some o->o.data=.func (docDef d.name d.params d.body d.scope pm cd doc)->bx.heap.CodeRec cd d.name->mg d.name=some (.ref fa) ->
   bx.heap.get? a=some {cls:=.type "list",data:=.seq vs.toArray}->IntsAre vs ns->ns.length<=n->bx.gens=#[] ->
   codeAny (model l.prog w) callerA (.call (.ref fa) ⟨[.ref a],[]⟩) (fun r s'=>r=.ok (.ret (.bool true))/\OldK bx.heap s'.heap/\s'.os=bx.os/\AllBare s'.gens) bx) :
  WalkO q loose XP YP l.row.toRowW d [] (fun f vs=>PySem.call f vs):=by
 intro w s₀ bx mg mb G Y fa o pm cd doc dV kV ho hd kO hD QT hg args vals as GR Zf QX VI hlo;obtain rfl:dV=.none:=Dflts.none hD QK;obtain rfl:kV=.none:=Dflts.noKw hD;obtain⟨a,vs,ns,rfl,rfl,LO,hints,ZW⟩:=Br hn GR VI;refine enter_call (Ay (call w s₀ bx mg mb fa o pm cd doc a vs ns G Y ho (fd_plain hd) kO QT LO hints ZW hg) fun r s' hq=>?_);obtain⟨rfl,h2,h3,h4⟩:=hq;exact⟨.inl ⟨.bool true,.bool true,[],rfl,fun _=>rfl,.bool true,Bk l _,fun _=>⟨List.Pairwise.nil,fun _ hm=>(nomatch hm)⟩⟩,h2,h3,h4⟩
end WW
namespace L2
open PySem PySem.Spec PyProof.Rows
theorem gF:∀{vs:Ul}{ns:T1},IntsAre vs ns->Vals (ns.map V.int) vs|_,_,.nil=>.nil|_,_,.cons n t h=>.cons ⟨t,rfl⟩ (gF h)
def KS(H:Hp):Prop:=∀b,H b=none\/∃o xs,H b=some (.FO o (.lst xs))
theorem Q15{P:Program}{w:World}{K:W.Frag}{mg mb:Str->X0}{CX:uP}{k:Nat}{fa a:Addr}{fd:FuncData}{x:Str}{sp:Sp}{bx:Shared}{vs:Ul}{ns:T1}
  (KX:K.In bx.heap) (Pc:bx.heap.Ns mainGlobals mg) (hb:bx.heap.Ns builtinsNs mb) (YW:∀x:Str,x≠"__name__" -> mb x=bootBuiltins x) (Vs:bx.heap.NoLimit) (hg:bx.gens=#[])
  (ha:bx.heap.get? a=some {cls:=.type "list",data:=.seq vs.toArray}) (hi:IntsAre vs ns) (hl:ns.length<=sizeLine) (hr:cH k callerA)
  (F:∀base:Heap,K.In base->base.Ns mainGlobals mg->dC P w K mg base CX k fa fd [x] sp) (QH:∀(s:Shared)(u:Value),BindsTo s fd ⟨[u],[]⟩ [(x,u)])
  (FU:∀H:Hp,KS H->cX K H a (ns.map V.int)->sp [.ref a] H (fun v _=>v=.bl true) fun _ _ _=>False)
  (Va:∀H e s',CX [] H bx (fun _ _ _=>False) e s'->False) :
  codeAny (model P w) callerA (.call (.ref fa) ⟨[.ref a],[]⟩) (fun r s'=>r=.ok (.ret (.bool true))/\OldK bx.heap s'.heap/\s'.os=bx.os/\AllBare s'.gens) bx:=by
 have rv:=gF hi;have V1:=hi.length;have core:∀H:Hp,KS H->cX K H a (ns.map V.int)->og P w H bx.heap->(∀b,H b≠none->b=a)->(H a≠none->K.lookup a=none)->codeAny (model P w) callerA (.call (.ref fa) ⟨[.ref a],[]⟩) (fun r s'=>r=.ok (.ret (.bool true))/\OldK bx.heap s'.heap/\s'.os=bx.os/\AllBare s'.gens) bx:=by
  intro H hO hS cj hA hK;have yL:∀{b:Addr}{o:Obj},bx.heap.get? b=some o->H b=none->(tW bx.heap H).get? b=some o:=fun e n=>DB e n;have noA:∀{b:Addr}{o:Obj}{es:Array DictEntry}{ep:Nat},bx.heap.get? b=some o->o.data=.dict es ep->H b=none:=fun {b o es ep} e d=>by cases q:H b with|none=>rfl|some u=>have e':b=a:=hA b (by rw[q];simp);subst e';rw[ha] at e;cases e;have d':Data.seq vs.toArray _=Data.dict es ep:=d;cases d'
  have Uj:∀{b:Addr}{m:Str->X0},bx.heap.Ns b m->(tW bx.heap H).Ns b m:=fun {b m} ⟨o,es,ep,e,d,r⟩=>⟨o,es,ep,yL e (noA e d),d,r⟩;have Xk:K.In (tW bx.heap H):=fun b o e=>yL (KX b o e) (by cases q:H b with|none=>rfl|some u=>have e':b=a:=hA b (by rw[q];simp);subst e';rw[hK (by rw[q];simp)] at e;cases e);have hM:Mod K mg (tW bx.heap H):=⟨Xk,Uj Pc,⟨mb,Uj hb,YW⟩,let ⟨mc,h1,h2⟩:=Vs;⟨mc,Uj h1,h2⟩⟩;have e0:qX P w K mg (tW bx.heap H) callerA [] bx H:=⟨rfl,hM,fun b o e=>HC e,Nat.le_of_eq (AI _ _),trivial,fun b hb=>absurd (show b∈([]:XU) from hb) Ro,cj,.of_eq hg⟩;refine Ay ((F _ Xk (Uj Pc)).run callerA [] bx H ⟨[.ref a],[]⟩ [.ref a] [.ref a] _ _ hr e0 (QH bx (.ref a)) (.cons rfl .nil) (FU H hO hS)) fun r s' h=>?_;cases r with
   |error e=>exact(Va H e s' h).elim|ok fl=>
    cases fl with
    |next=>exact False.elim h|brk=>exact False.elim h|cont=>exact False.elim h|ret u=>
     obtain⟨v,H',os,bare,un,Vy,r',q⟩:=h;have q':v=.bl true:=q;subst q';obtain rfl:u=Value.bool true:=r';refine⟨rfl,OldK.of_keep fun b o e=>?_,os,bare⟩;cases q:H b with
     |none=>exact un.keep b o e q (by intro z;exact absurd (show b∈([]:XU) from z) Ro) Ro|some u=>
      rcases hO b with z|⟨ob,xs,z⟩
      ·rw[q] at z;cases z
      ·have z2:=un.tQ b ob _ z;obtain⟨e1,_⟩:=cj b _ z;obtain⟨e2,_⟩:=Vy b _ z2;rw[e] at e1;cases e1;exact e2
 cases hk:K.lookup a with
 |some o=>have e:=KX a o hk;rw[ha] at e;cases e;refine core (fun _=>none) (fun _=>.inl rfl) (.inr ⟨_,vs.toArray,_,hk,rfl,rfl,rfl,by rw[U6,V1];exact hl,by simpa using rv⟩) (fun b u z=>by have z':(none:Option HO)=some u:=z;cases z') (fun b z=>absurd rfl z) fun z=>absurd rfl z|none=>
  refine core (fun b=>if b=a then some (.FO {cls:=.type "list",data:=.seq vs.toArray} (.lst (ns.map V.int))) else none) (fun b=>?_) (.inl (.inr ⟨{cls:=.type "list",data:=.seq vs.toArray},Wr rfl⟩)) (fun b u z=>?_) (fun b z=>?_) fun _=>hk
  ·by_cases hb:b=a
   ·exact .inr ⟨_,_,Wr hb⟩
   ·exact .inl (Uu hb)
  ·by_cases hb:b=a
   ·have z':=(Wr hb).symm.trans z;cases z';subst hb;exact⟨ha,by rw[uG];exact hl,vs,_,rv,ha⟩
   ·have z':=(Uu hb).symm.trans z;cases z'
  ·by_cases hb:b=a
   ·exact hb
   ·exact absurd (Uu hb) z
theorem Ju{l:W.OpenLaw}{n k:Nat}{q:Program}{loose:Ph}{XP:(Str->X0)->Heap->Prop}{YP:World->Heap->Prop}{d:DefRec}{K:Params->W.Frag}{CX:World->uP}{sp:World->Sp}{x:Str}
  (hn:l.most=some n) (QU:n<=sizeLine) (QK:d.params.defaults=[]) (hr:cH k callerA)
  (hY:∀(w:World)(h:Heap),YP w h->(K w.params).In h)
  (F:∀(w:World)(mg:Str->X0)(fa:Addr)(h:Heap),(K w.params).In h->h.Ns mainGlobals mg->mg d.name=some (.ref fa)->∃fd:FuncData,(∀(s:Shared)(u:Value),BindsTo s fd ⟨[u],[]⟩ [(x,u)])/\∀base:Heap,(K w.params).In base->base.Ns mainGlobals mg->dC l.prog w (K w.params) mg base (CX w) k fa fd [x] (sp w))
  (FU:∀(w:World)(H:Hp)(a:Addr)(ns:T1),ns.length<=n->KS H->cX (K w.params) H a (ns.map V.int)->sp w [.ref a] H (fun v _=>v=.bl true) fun _ _ _=>False)
  (Va:∀(w:World)(H:Hp)(s:Shared)(e:Value)(s':Shared),CX w [] H s (fun _ _ _=>False) e s'->False) :
  W.WalkO q loose XP YP l.row.toRowW d [] (fun f vs=>PySem.call f vs):=by
 refine WW.uX hn QK fun w s₀ bx mg mb fa o pm cd doc a vs ns G Y ho hd kO QT LO hints ZW hg=>?_;have KX:=hY w _ Y;obtain⟨fd,hb,hF⟩:=F w mg fa _ KX G.T.g QT;exact Q15 KX G.T.g G.T.b G.T.builtins G.T.nolimit hg LO hints (WH ZW QU) hr hF hb (fun H hO hS=>FU w H a ns ZW hO hS) fun H e s'=>Va w H bx e s'
def inClass(s:Stmt)(j:Nat):Stmt:=match s with|.ClassDef _ _ _ body _ _ _ _ _ _ _=>body.getD j (.Pass ⟨0,0,0,0⟩)|_=>.Pass ⟨0,0,0,0⟩
def dg(s:Stmt):Arguments:=match s with|.FunctionDef _ a _ _ _ _ _ _ _ _=>a|_=>{posonlyargs:=[],args:=[],vararg:=none,kwonlyargs:=[],kw_defaults:=[],kwarg:=none,defaults:=[]}
def bU(s:Stmt):List Stmt:=match s with|.FunctionDef _ _ b _ _ _ _ _ _ _=>b|_=>[]
def aT(s:Stmt):Scope:=match s with|.FunctionDef _ _ _ _ _ _ sc _ _ _=>sc|_=>{kind:=.function,names:=[],isGenerator:=false,isCoroutine:=false}
abbrev pO:uP:=fun _ _ _ _ _ _=>False
structure Gb(K:W.Frag)(x TN:Str)(st:Stmt)(f:Addr)(fd:FuncData):Prop where
 ex:∃(oc:Value)(od:u3)(kV doc pm:Value)(an:u3)(iR ct:Value)(HI:Array (Option Value)),fd=W.fnOf x TN (dg st) (bU st) (aT st) .none kV doc pm an iR ct/\K.lookup f=some ⟨oc,od,.func fd,HI⟩/\W.codeIn K iR TN=true
 kp:W.keepIn K (.ref f)=true
section
variable{P:Program}{w:World}{K:W.Frag}{mg:Str->X0}{base:Heap}
theorem Gb.ok{x TN:Str}{st:Stmt}{f:Addr}{fd:FuncData}{N ps:Ph}{k:Nat}{sp:Sp}(F:Gb K x TN st f fd)(S:d7 N ps (aT st))(len:∀vs H Q E,sp vs H Q E->vs.length=ps.length)(jQ:∀(iR:Value)(A:Around)(outer:List Env)(s:Shared)(H:Hp)(vs:OY)(Q:VK)(E:XK),cH k (A.deeper (envOfC TN (aT st) s.heap.objs.size f iR))->sp vs H Q E->∃t,wM (q9 pO P w K mg base N TN (aT st) f iR A outer s H E).Km (bU st) t/\t {nx:=fun _ H'=>Q .bE H',rt:=Q} (start N vs) H):dC P w K mg base pO (k+1) f fd ps sp:=by obtain⟨oc,od,kV,doc,pm,an,iR,ct,HI,rfl,lk,kO⟩:=F.ex;refine Qq lk kO S len fun A outer s H vs Q E hr FU=>?_;obtain⟨t,h,q⟩:=jQ iR A outer s H vs Q E hr FU;exact⟨t,h.Km,q⟩
theorem Gb.binds{x TN:Str}{st:Stmt}{f:Addr}{fd:FuncData}{ps:Ph}(F:Gb K x TN st f fd)(h:∀(kV doc pm:Value)(an:u3)(iR ct:Value)(us:Ul),us.length=ps.length->bindArgs (W.fnOf x TN (dg st) (bU st) (aT st) .none kV doc pm an iR ct) ⟨us,[]⟩=pure (ps.zip us)):Binds K fd ps []:=by obtain⟨oc,od,kV,doc,pm,an,iR,ct,HI,rfl,lk,kO⟩:=F.ex;exact .all (h kV doc pm an iR ct)
theorem Dm{x TN:Str}{st:Stmt}{f:Addr}{oc:Value}{od an:u3}{HI:Array (Option Value)}{kV doc pm iR ct:Value}(l:K.lookup f=some ⟨oc,od,.func (W.fnOf x TN (dg st) (bU st) (aT st) .none kV doc pm an iR ct),HI⟩)(c:W.codeIn K iR TN=true) (k:W.keepIn K (.ref f)=true):Gb K x TN st f (W.fnOf x TN (dg st) (bU st) (aT st) .none kV doc pm an iR ct):=⟨⟨oc,od,kV,doc,pm,an,iR,ct,HI,rfl,l,c⟩,k⟩
end
section
variable{X:Cx}
theorem pv(i:Nat){x:Str}{pos:Pos}(hN:X.N[i]?=some x:=by rfl)(hv:yz X.env.scope x:=by exact wg)(hd:WL x:=by decide)(kO:Le x:=by decide):PE X (.Name x pos) (S7 i):=iw hN hv hd kO
end
theorem xC{A B:Prop}(h:B):if false=true then A else B:=by rw[Uu DV];exact h
theorem xD{A B:Prop}(h:A):if true=true then A else B:=by rw[Wr rfl];exact h
def aN(H H':Hp):Prop:=∀b o,H b=some o->H' b=some o
theorem aN.refl(H:Hp):aN H H:=fun _ _ h=>h
theorem aN.trans(a:aN H H1)(b:aN H1 H2):aN H H2:=fun c o h=>b c o (a c o h)
theorem aN.free(e:aN H H')(h:H' l=Option.none):H l=Option.none:=by cases q:H l with|none=>rfl|some o=>rw[e l o q] at h;cases h
theorem aN.seq{K:W.Frag}{H H':Hp}{a:Addr}{xs:OY}(e:aN H H')(h:cX K H a xs):cX K H' a xs:=by
 rcases h with (h|⟨o,h⟩)|h
 exact .inl (.inl (e _ _ h));exact .inl (.inr ⟨o,e _ _ h⟩);exact .inr h
end L2
end
section
set_option Elab.async false
set_option linter.all false
set_option maxRecDepth 100000
namespace L2
open PySem PySem.Spec PyProof.Rows
section
variable{κ:Type}[DecidableEq κ]
def kH(aV:List (κ×V))(k:κ):Option V:=(aV.find? fun kv=>decide (kv.1=k)).map (·.2)
def putK(aV:List (κ×V))(k:κ)(v:V):List (κ×V):=if (aV.any fun kv=>decide (kv.1=k))=true then aV.map (fun kv=>if kv.1=k then(kv.1,v) else kv) else aV++[(k,v)]
theorem wH{p:κ×V}{r:List (κ×V)}{k:κ}(e:p.1=k):kH (p::r) k=some p.2:=by simp[kH,List.find?_cons,e]
theorem qT{p:κ×V}{r:List (κ×V)}{k:κ}(e:¬p.1=k):kH (p::r) k=kH r k:=by simp[kH,List.find?_cons,e]
theorem vO(aV:List (κ×V))(k:κ)(v:V):(putK aV k v).length<=aV.length+1:=by unfold putK;split;rw[uG];omega;rw[En,M3,List.length_nil];omega
theorem kE.isSome_eq{o:Option V}{u:X0}(r:kE o u):o.isSome=u.isSome:=by
 cases o with
 |none=>cases u with|none=>rfl|some _=>exact(show False from r).elim
 |some _=>cases u with|none=>exact(show False from r).elim|some _=>rfl
theorem kE.getD{o:Option V}{u:X0}{d:V}{d':Value}(r:kE o u)(rd:RelV d d'):RelV (o.getD d) (u.getD d'):=by
 cases o with
 |none=>cases u with|none=>exact rd|some _=>exact(show False from r).elim
 |some _=>cases u with|none=>exact(show False from r).elim|some _=>exact r
theorem KV.val{aV:List (κ×V)}{vs:List (κ×Value)}(r:KV aV vs)(k:κ):kE (kH aV k) (valueAt vs k):=by
 unfold KV at r;induction r with
 |nil=>exact True.intro|@cons p q ps qs h t ih=>
  obtain⟨h1,h2⟩:=h;by_cases e:p.1=k;have e':q.1=k:=h1.symm.trans e;have b:valueAt (q::qs) k=some q.2:=by simp[valueAt,List.find?_cons,e']
  rw[wH e,b];exact h2;have e':¬q.1=k:=fun z=>e (h1.trans z);have b:valueAt (q::qs) k=valueAt qs k:=by simp[valueAt,List.find?_cons,e']
  rw[qT e,b];exact ih
theorem KV.any{aV:List (κ×V)}{vs:List (κ×Value)}(r:KV aV vs)(k:κ):(aV.any fun kv=>decide (kv.1=k))=vs.any fun kv=>decide (kv.1=k):=by unfold KV at r;induction r with|nil=>rfl|cons h t ih=>rw[VW,VW,ih,h.1]
theorem KV.Wk{aV:List (κ×V)}{vs:List (κ×Value)}(r:KV aV vs)(k:κ){y:V}{u:Value}(ry:RelV y u) : KV (aV.map fun kv=>if kv.1=k then(kv.1,y) else kv) (vs.map fun kv=>if kv.1=k then(kv.1,u) else kv):=by unfold KV at r ⊢;induction r with|nil=>exact .nil|@cons p q ps qs h t ih=>rw[P6,P6];refine .cons ?_ ih;obtain⟨h1,h2⟩:=h;by_cases e:p.1=k;rw[Wr e,Wr (h1.symm.trans e)];exact⟨h1,ry⟩;rw[Uu e,Uu (fun z=>e (h1.trans z))];exact⟨h1,h2⟩
theorem KV.put{aV:List (κ×V)}{vs:List (κ×Value)}(r:KV aV vs)(k:κ){y:V}{u:Value}(ry:RelV y u):KV (putK aV k y) (stored vs k u):=by unfold putK stored;rw[r.any k];by_cases e:(vs.any fun kv=>decide (kv.1=k))=true;rw[Wr e,Wr e];exact r.Wk k ry;rw[Uu e,Uu e];exact Paired.snoc r ⟨rfl,ry⟩
theorem KV.keys{aV:List (κ×V)}{vs:List (κ×Value)}(r:KV aV vs):aV.map (·.1)=vs.map (·.1):=by unfold KV at r;induction r with|nil=>rfl|cons h t ih=>rw[P6,P6,ih,h.1]
theorem KV.length{aV:List (κ×V)}{vs:List (κ×Value)}(r:KV aV vs):aV.length=vs.length:=Ti r
end
theorem zH{P:Program}{w:World}{k:Key}{u:Value}(r:RelV (kV k) u):(fL P w).is k u=true:=by cases k with|inl i=>obtain⟨t,e⟩:=(show ∃t,u=Value.int i t from r);subst e;exact vR P w i t|inr x=>obtain⟨t,e⟩:=(show ∃t,u=Value.str x t from r);subst e;exact Q1v P w x t
section
variable{X:Cx}{Ug:U5}{σ:St}{H:Hp}{s:Shared}
theorem Inv.big(I:Inv X Ug σ H s):sysModules<s.heap.objs.size:=by have h:mainGlobals<s.heap.objs.size:=(I.mod.glob.keeps I.bk).lt;exact G2 (by decide) h
end
def KR(i:Expr):Prop:=∀ov iv,subscripted i false ov iv=operate [ov,iv] (getItem ov iv)
theorem Q0G{prog:Program}{w:World}{A:Around}{E:RG}{s:Shared}{env:Env}{value slice:Expr}{pos:Pos}{T id:String}{Q:RG}
  (hl:typeLookup (.type T) "__getitem__" = pure (some (.builtin id))) (hs:KR slice)
  (h:wpAny (model prog w) A (eval value env) (fun o bx=>wpAny (model prog w) A (eval slice env) (fun i nW=>nW.TypeIs o T/\wpAny (model prog w) A (getItem o i) Q E nW) E bx) E s) :
  wpAny (model prog w) A (eval (.Subscript value slice pos) env) Q E s:=by
 refine Subscript_ (R3 h (fun o bx h₁=>R3 h₁ (fun i nW lX=>?_) fun _ _ x=>x) fun _ _ x=>x);obtain⟨hT,lX⟩:=lX;unfold subscriptTail;refine ZM ?_;rw[getitemInPython_of_ne hT.not_modules];refine ZM (yr hT hl ?_);have fin:wpAny (model prog w) A (subscripted slice false o i) (fun r SU=>wpAny (model prog w) A (letTemporaryGo value o r >>= fun _=>pure r) Q E SU) E nW:=by rw[hs o i];exact wpAny_operating (R3 lX (fun r SU oV=>ZM (wpAny_letTemporaryGo (Pf oV))) fun _ _ x=>x)
 first|exact Pf (ZM fin)|exact ZM (Pf (ZM fin))|exact ZM fin
end L2
end
section
namespace VP
theorem gl{P:Prop}(h:∀Q:Prop,Q=P->Q):P:=h P rfl
inductive D where
 |bE|bl (b:Bool)|int (i:Int)|str (x:Str)|tup (xs:List D)|lst (xs:List D)|hW (ks:List (Sum Int Str)) (vs:List D)|ins (c:Str) (ns:Ph) (vs:List D)|JU (c:Str) (ns:Ph) (vs:List D)
 deriving Inhabited
abbrev Rg:=Option D
abbrev XW:=List D
inductive Sl where
 |no|sh (d:D)|ow (d:D)|io (d:D)
 deriving Inhabited
abbrev aS:=List Sl
structure Xn where
 cls:Str
 ns:List Str
 vs:List D
inductive Res(α:Type) where
 |ok (a:α) (r:aS)|exc (x:Xn) (r:aS)|no
abbrev M(α:Type):=aS->Res α
inductive Fl where
 |nx|bk|ct|rt (d:D)
noncomputable def ret{α:Type}(a:α):M α:=fun r=>.ok a r
noncomputable def Pd{α β:Type}(f:M α)(g:α->M β):M β:=fun r=>match f r with|.ok a r'=>g a r'|.exc x r'=>.exc x r'|.no=>.no
noncomputable def stuck{α:Type}:M α:=fun _=>.no
def opt{α:Type}:Option α->M α|some a=>ret a|none=>stuck
noncomputable def af(i:Nat):M D:=fun r=>match r[i]? with|some (.sh d)=>.ok d r|_=>.no
noncomputable def xI(i:Nat):M D:=fun r=>match r[i]? with|some (.sh d)=>.ok d r|some (.ow d)=>.ok d r|some (.io d)=>.ok d r|_=>.no
noncomputable def free:Option Sl->Bool|some (.io _)=>false|some _=>true|none=>false
def oZ(i:Nat)(d:D):M Unit:=fun r=>if free r[i]? then .ok () (r.set i (.sh d)) else .no
def El(i:Nat)(d:D):M Unit:=fun r=>if free r[i]? then .ok () (r.set i (.ow d)) else .no
noncomputable def own:Option Sl->Option D|some (.ow d)=>some d|some (.io d)=>some d|_=>none
noncomputable def cL(i:Nat)(d:D)(r:aS):aS:=match r[i]? with|some (.ow _)=>r.set i (.ow d)|some (.io _)=>r.set i (.io d)|_=>r
noncomputable def Pj(i:Nat):M Unit:=fun r=>match r[i]? with|some (.ow d)=>.ok () (r.set i (.sh d))|some (.sh d)=>.ok () r|_=>.no
def fR(i:Nat)(g:D->Rg):M Unit:=fun r=>match own r[i]? with
 |some d=>match g d with
   |some d'=>.ok () (cL i d' r)|none=>.no
  |none=>.no
def mC(d:D):M D:=ret d
def m1(g:D->Rg)(a:M D):M D:=Pd a fun x=>opt (g x)
def m2(g:D->D->Rg)(a b:M D):M D:=Pd a fun x=>Pd b fun y=>opt (g x y)
def mL:List (M D)->M (List D)|[]=>ret []|f::fs=>Pd f fun x=>Pd (mL fs) fun xs=>ret (x::xs)
def mF(g:XW->Rg)(as:List (M D)):M D:=Pd (mL as) fun xs=>opt (g xs)
def tB(a:M D):M Bool:=Pd a fun x=>match x with|.bl b=>ret b|_=>stuck
def mG(a:M Bool):M Bool:=Pd a fun b=>ret (!b)
def lD(a b:M Bool):M Bool:=Pd a fun x=>if x then b else ret false
def rE(a b:M Bool):M Bool:=Pd a fun x=>if x then ret true else b
def zM(c:M Bool)(a b:M D):M D:=Pd c fun x=>if x then a else b
def ao(f g:M Fl):M Fl:=Pd f fun k=>match k with|.nx=>g|.bk=>ret .bk|.ct=>ret .ct|.rt d=>ret (.rt d)
def aC:M Fl:=ret .nx
def FY(f:M Unit):M Fl:=Pd f fun _=>ret .nx
def sR(f:M D):M Fl:=Pd f fun _=>ret .nx
def aF(f:M D):M Fl:=Pd f fun d=>ret (.rt d)
def bP(c:M Bool)(a b:M Fl):M Fl:=Pd c fun x=>if x then a else b
def aP(i:Nat)(f:M D):M Fl:=Pd f fun d=>FY (oZ i d)
def fT(i:Nat)(f:M D):M Fl:=Pd f fun d=>FY (El i d)
def wO(i:Nat)(f:M Fl):M Fl:=Pd (Pj i) fun _=>f
def aD(i:Nat):D->M Unit:=fun d=>oZ i d
def rf:Ue->XW->M Unit|[],[]=>ret ()|i::is,d::ds=>Pd (oZ i d) fun _=>rf is ds|_,_=>stuck
def cz(is:Ue):D->M Unit:=fun d=>match d with|.tup ds=>rf is ds|_=>stuck
def loop(g:D->M Unit)(body:M Fl):XW->M Fl|[]=>ret .nx|d::ds=>Pd (g d) fun _=>Pd body fun k=>match k with|.nx=>loop g body ds|.ct=>loop g body ds|.bk=>ret .nx|.rt e=>ret (.rt e)
def fE(it:M (List D))(g:D->M Unit)(body:M Fl):M Fl:=Pd it fun ds=>loop g body ds
noncomputable def gj(x:D):D->Option D|.lst xs=>if xs.length<16777216 then some (.lst (xs++[x])) else none|_=>none
def turns(k:Nat)(g:D->M Unit)(test:M Bool)(elt:M D):XW->M Unit
|[]=>ret ()|d::ds=>Pd (g d) fun _=>Pd test fun b=>if b
 then Pd elt fun x=>Pd (fR k (gj x)) fun _=>turns k g test elt ds
 else turns k g test elt ds
noncomputable def inner(n:Nat)(f:Nat->M Unit):M D:=fun r=>match f (r.length+n) (r++List.replicate n .no++[.ow (.lst [])]) with
 |.ok _ r'=>match r'[r.length+n]? with
   |some (.ow d)=>.ok d (r'.take r.length)|_=>.no
  |.exc x r'=>.exc x (r'.take r.length)|.no=>.no
def aQ(n:Nat)(it:M (List D))(g:D->M Unit)(test:M Bool)(elt:M D):M D:=Pd it fun ds=>inner n fun k=>turns k g test elt ds
def gW(c:M Bool)(body:M Fl):Nat->M Fl
|0=>stuck|n+1=>Pd c fun b=>if b
 then Pd body fun k=>match k with|.nx=>gW c body n|.ct=>gW c body n|.bk=>ret .nx|.rt e=>ret (.rt e)
 else ret .nx
inductive FR where
 |ok (d:D) (cK:XW)|exc (x:Xn) (cK:XW)|no
abbrev Fn:=List D->FR
noncomputable def dc(n:Nat):Ur->XW->aS|b::bs,d::ds=>(if b then .io d else .sh d)::dc (n-1) bs ds|_,_=>List.replicate n .no
noncomputable def cu:Ur->aS->Option (List D)|[],_=>some []|true::bs,.io d::r=>(cu bs r).map (d::·)|false::bs,_::r=>cu bs r|_,_=>none
def defn(n:Nat)(fl:Ur)(body:M Fl):Fn:=fun ds=>
 if ds.length=fl.length then
  match body (dc n fl ds) with
  |.ok (.rt d) r=>match cu fl r with|some cK=>.ok d cK|none=>.no
  |.ok .nx r=>match cu fl r with|some cK=>.ok .bE cK|none=>.no
  |.ok .bk _=>.no|.ok .ct _=>.no|.exc x r=>match cu fl r with|some cK=>.exc x cK|none=>.no
  |.no=>.no
 else .no
inductive Arg where
 |val (f:M D)|io (j:Nat)
inductive AV where
 |val (d:D)|io (j:Nat)
def bS:List Arg->M (List AV)|[]=>ret []|.val f::as=>Pd f fun d=>Pd (bS as) fun vs=>ret (.val d::vs)|.io j::as=>fun r=>if (own r[j]?).isSome then Pd (bS as) (fun vs=>ret (.io j::vs)) r else .no
def qU:List AV->aS->Option (List D)|[],_=>some []|.val d::as,r=>(qU as r).map (d::·)|.io j::as,r=>match own r[j]? with|some d=>(qU as r).map (d::·)|none=>none
noncomputable def fQ:List AV->List Nat|[]=>[]|.val _::as=>fQ as|.io j::as=>j::fQ as
def putAll:Ue->XW->aS->aS|j::js,d::ds,r=>putAll js ds (cL j d r)|_,_,r=>r
noncomputable def Arg.isIo:Arg->Bool|.val _=>false|.io _=>true
def oY(f:Fn)(vs:List AV):M D:=fun r=>
 match qU vs r with
 |some ds=>if (fQ vs).Nodup then match f ds with
   |.ok d cK=>.ok d (putAll (fQ vs) cK r)|.exc x cK=>.exc x (putAll (fQ vs) cK r)|.no=>.no
  else .no
 |none=>.no
def az(f:Fn)(as:List Arg):M D:=Pd (bS as) fun vs=>oY f vs
def oG(a b:M D):M D:=Pd a fun x=>match x with|.bl true=>b|.bl false=>ret (.bl false)|_=>stuck
def A2(a b:M D):M D:=Pd a fun x=>match x with|.bl true=>ret (.bl true)|.bl false=>b|_=>stuck
noncomputable def Bu(ds:XW):Rg:=if ds.length<=16777216 then some (.tup ds) else none
noncomputable def AX(ds:XW):Rg:=if ds.length<=16777216 then some (.lst ds) else none
def bh(fl:List (M D)):M D:=Pd (mL fl) fun xs=>opt (Bu xs)
def dB(fl:List (M D)):M D:=Pd (mL fl) fun xs=>opt (AX xs)
noncomputable def jn:Nat:=16777216
noncomputable def US:D->D->Option D|.int i,.int j=>some (.int (i+j))|_,_=>none
noncomputable def gU:D->D->Option D|.int i,.int j=>some (.int (i-j))|_,_=>none
noncomputable def nG:D->D->Option D|.int i,.int j=>if (-(2 ^ 64)<i/\i<2 ^ 64)\/(-(2 ^ 64)<j/\j<2 ^ 64) then some (.int (i*j)) else none|_,_=>none
noncomputable def zr:D->D->Option D|.int i,.int j=>if 0<j/\j<1073741824 then some (.int (i / j)) else none|_,_=>none
noncomputable def pe:D->D->Option D|.int i,.int j=>if 0<j then some (.int (i % j)) else none|_,_=>none
noncomputable def ug:D->Option D|.int i=>some (.int (-i))|_=>none
noncomputable def ltI:D->D->Option D|.int i,.int j=>some (.bl (decide (i<j)))|_,_=>none
noncomputable def qV:D->D->Option D|.int i,.int j=>some (.bl (decide (i<=j)))|_,_=>none
noncomputable def Dw:D->D->Option D|.int i,.int j=>some (.bl (decide (j<i)))|_,_=>none
noncomputable def OZ:D->D->Option D|.int i,.int j=>some (.bl (decide (j<=i)))|_,_=>none
noncomputable def JT:D->D->Option Bool|.bE,.bE=>some true|.bE,.int _=>some false|.int _,.bE=>some false|.bE,.bl _=>some false|.bl _,.bE=>some false|.bE,.str _=>some false|.str _,.bE=>some false|.int i,.int j=>some (decide (i=j))|.bl i,.bl j=>some (decide (i=j))|.str i,.str j=>some (decide (i=j))|.int _,.str _=>some false|.str _,.int _=>some false|.bl _,.str _=>some false|.str _,.bl _=>some false|_,_=>none
noncomputable def isNon:D->Bool|.bE=>true|_=>false
def isND(x y:D):Rg:=if isNon y then some (.bl (isNon x)) else none
def P5:D->D->Option D|.tup xs,.tup ys=>if xs.length+ys.length<=jn then some (.tup (xs++ys)) else none|_,_=>none
def P4:D->D->Option D|.lst xs,.lst ys=>if xs.length+ys.length<=jn then some (.lst (xs++ys)) else none|_,_=>none
noncomputable def orE(g g':D->D->Rg)(x y:D):Rg:=match g x y with|some d=>some d|none=>g' x y
noncomputable def G5(n:Nat)(i:Int):Option Nat:=if 0<=i then(if i<n then some i.toNat else none) else if -(n:Int)<=i then some (i+n).toNat else none
def zF(xs:XW)(i:Int):Rg:=(G5 xs.length i).bind fun j=>xs[j]?
def au:D->D->Option D|.tup xs,.int i=>zF xs i|.lst xs,.int i=>zF xs i|_,_=>none
mutual
noncomputable def eqB:D->D->Bool|.bE,.bE=>true|.bl a,.bl b=>a == b|.bl a,.int j=>(if a then 1 else 0) == j|.int i,.bl b=>i == (if b then 1 else 0)|.int i,.int j=>i == j|.str x,.str y=>x == y|.lst xs,.lst ys=>p8 xs ys|.tup xs,.tup ys=>p8 xs ys|_,_=>false
noncomputable def p8:XW->XW->Bool|[],[]=>true|x::xs,y::ys=>eqB x y&&p8 xs ys|[],_::_=>false|_::_,[]=>false
end
theorem C5(i j:Int):eqB (.int i) (.int j)=(i == j):=OW
theorem JS(x y:Str):eqB (.str x) (.str y)=(x == y):=OW
theorem yP(xs ys:XW):eqB (.lst xs) (.lst ys)=p8 xs ys:=OW
theorem yQ(xs ys:XW):eqB (.tup xs) (.tup ys)=p8 xs ys:=OW
noncomputable def mE(x:Str):Bool:=x.cps.toList.all (·<0x110000)
mutual
noncomputable def plain:Nat->D->Bool|_,.bE=>true|_,.bl _=>true|_,.int _=>true|_,.str x=>mE x|n+1,.tup xs=>fC n xs|n+1,.lst xs=>fC n xs|_,_=>false
noncomputable def fC:Nat->XW->Bool|_,[]=>true|n,x::xs=>plain n x&&fC n xs
end
def cn(x y:D):Rg:=if plain 60 x&&plain 60 y then some (.bl (eqB x y)) else none
def gD(x y:D):Rg:=if plain 60 x&&plain 60 y then some (.bl (!eqB x y)) else none
noncomputable def cq:D->Option (List D)|.tup ds=>some ds|.lst ds=>some ds|_=>none
def cJ(f:M D):M (List D):=Pd f fun d=>opt (cq d)
noncomputable def rA:XW->Option (List D)|[.int j]=>if -(2 ^ 62)<=j/\j<2 ^ 62 then some ((List.range j.toNat).map fun(i:Nat)=>.int i) else none|_=>none
noncomputable def Q39:XW->Option (List D)|[.int i,.int j]=>if (-(2 ^ 62)<=i/\i<2 ^ 62)/\-(2 ^ 62)<=j/\j<2 ^ 62 then some ((List.range (j-i).toNat).map fun(k:Nat)=>.int (i+k)) else none|_=>none
def cQ(fl:List (M D)):M (List D):=Pd (mL fl) fun xs=>opt (rA xs)
noncomputable def bz:D->Option D|.tup ds=>some (.int ds.length)|.lst ds=>some (.int ds.length)|_=>none
noncomputable def jw:D->Option D|.tup ds=>some (.tup ds)|.lst ds=>some (.tup ds)|_=>none
noncomputable def iI:D->Option D|.tup ds=>some (.lst ds)|.lst ds=>some (.lst ds)|_=>none
noncomputable def maxD:XW->Option D|[.int i,.int j]=>some (.int (if j > i then j else i))|_=>none
noncomputable def intD:XW->Option D|[.int i]=>some (.int i)|[.bl b]=>some (.int (if b then 1 else 0))|_=>none
def oa:XW->Option (List D)
|[a,b]=>match cq a,cq b with
  |some xs,some ys=>some (List.zipWith (fun x y=>D.tup [x,y]) xs ys)|_,_=>none
 |_=>none
def rp(fl:List (M D)):M (List D):=Pd (mL fl) fun xs=>opt (oa xs)
noncomputable def dm:XW->Option (List Int)|[]=>some []|.int i::r=>(dm r).map (i::·)|_=>none
def Q0O(d:D):Rg:=match cq d with|some ds=>(dm ds).map fun ns=>.int ns.sum|none=>none
noncomputable def isLst:Rg->Bool|some (.lst _)=>true|_=>false
def lC(i:Nat)(fe:M D):M Fl:=fun r=>if isLst (own r[i]?) then Pd fe (fun x=>FY (fR i (gj x))) r else .no
def setAt(k v:D):D->Option D
|.lst xs=>match k with
  |.int i=>(G5 xs.length i).map fun j=>.lst (xs.set j v)|_=>none
 |_=>none
def gT(i:Nat)(fk fv:M D):M Fl:=Pd fv fun v=>fun r=>if isLst (own r[i]?) then Pd fk (fun k=>FY (fR i (setAt k v))) r else .no
noncomputable def wt(n d:Nat):Pq->Nat|none=>d|some v=>if v<0 then(v+n).toNat else min v.toNat n
def cutD(xs:XW)(lo hi:Pq):XW:=(xs.drop (wt xs.length 0 lo)).take (wt xs.length xs.length hi-wt xs.length 0 lo)
def l7:Option (M D)->M (Option Int)|none=>ret none|some f=>Pd f fun d=>match d with|.int i=>ret (some i)|_=>stuck
def o6(g:D->Pq->Pq->Rg)(f:M D)(lo hi:Option (M D)):M D:=Pd f fun d=>Pd (l7 lo) fun l=>Pd (l7 hi) fun h=>opt (g d l h)
def DX(j:Nat)(i:D):M D:=fun r=>match own r[j]? with|some d=>opt (au d i) r|none=>.no
def cf(j:Nat)(fb:M D):M D:=fun r=>if (own r[j]?).isSome then Pd fb (DX j) r else .no
def a8:D->D->Option D|.int i,.int j=>some (.int (i+j))|.tup xs,.tup ys=>if xs.length+ys.length<=jn then some (.tup (xs++ys)) else none|.lst xs,.lst ys=>if xs.length+ys.length<=jn then some (.lst (xs++ys)) else none|_,_=>none
def eG(d:D)(lo hi:Pq):Rg:=match d with|.tup xs=>some (.tup (cutD xs lo hi))|.lst xs=>some (.lst (cutD xs lo hi))|_=>none
def AY(g g2:D->D->Rg)(a b c:M D):M D:=Pd a fun x=>Pd b fun y=>Pd (opt (g x y)) fun d=>match d with|.bl true=>Pd c fun z=>opt (g2 y z)|.bl false=>ret (.bl false)|_=>stuck
noncomputable def Fs(t:List (Str×D)):D->Option D|.str k=>t.lookup k|_=>none
def Ho(f:M D):M (List D):=Pd f fun d=>opt ((cq d).map List.reverse)
def rz(d:D):Rg:=(cq d).map fun xs=>.tup xs.reverse
def E9(d:D):Rg:=(cq d).map fun xs=>.lst xs.reverse
noncomputable def iQ:XW->Option (List Bool)|[]=>some []|.bl b::r=>(iQ r).map (b::·)|_=>none
def oR(al:Bool):D->Option D|.lst ds=>(iQ ds).map fun bs=>.bl (if al then bs.all id else bs.any id)|_=>none
noncomputable def uH(neg:Bool)(t:List (Str×D))(ab:Ph):D->Option D
|.str k=>match t.lookup k with
  |some _=>some (.bl (!neg))|none=>if ab.contains k then some (.bl neg) else none
 |_=>none
noncomputable def jN:D->Bool|.bE=>true|.bl _=>true|.int _=>true|.str _=>true|_=>false
def inD(neg:Bool)(x y:D):Rg:=match cq y with|some ds=>if jN x&&ds.all jN then some (.bl (if neg then !(ds.any fun y=>eqB y x) else ds.any fun y=>eqB y x)) else none|none=>none
noncomputable def aY(cs:Ph)(f:Str):D->Option D|.ins c ns vs=>if cs.contains c then(ns.zip vs).lookup f else none|_=>none
noncomputable def jV(f:Str)(v:D):Ph->XW->List Str×List D|n::ns,x::vs=>if n=f then(n::ns,v::vs) else(n::(jV f v ns vs).1,x::(jV f v ns vs).2)|_,_=>([f],[v])
def Fg(cs:Ph)(f:Str)(v:D):D->Option D|.ins c ns vs=>if cs.contains c&&decide (ns.length<1000) then some (.ins c (jV f v ns vs).1 (jV f v ns vs).2) else none|_=>none
def bA(i:Nat)(cs:Ph)(f:Str)(fv:M D):M Fl:=Pd fv fun v=>FY (fR i (Fg cs f v))
def A1(c:Str)(f:Fn)(vs:List AV):M D:=fun r=>match oY f (.io r.length::vs) (r++[.ow (.ins c [] [])]) with
 |.ok .bE r'=>match r'[r.length]? with
   |some (.ow d)=>.ok d (r'.take r.length)|_=>.no
  |.exc x r'=>.exc x (r'.take r.length)|_=>.no
def dY(c:Str)(f:Fn)(as:List Arg):M D:=Pd (bS as) fun vs=>A1 c f vs
noncomputable def jv(c m:Str):D->Bool|.ins c' ns _=>c' == c&&!ns.contains m|_=>false
def cx(c m:Str)(f:Fn)(fo:M D)(as:List Arg):M D:=Pd fo fun o=>if jv c m o then Pd (bS as) fun vs=>oY f (.val o::vs) else stuck
noncomputable def a9(subs:Nx)(x:D):Rg:=match x with|.ins c _ _=>(subs.lookup c).map .bl|_=>none
def nR:M Fl:=stuck
noncomputable def kI(ds:XW):XW:=List.zipWith (fun(i:Nat) d=>D.tup [.int i,d]) (List.range ds.length) ds
def lS:XW->Option (List D)|[.lst ds]=>some (kI ds)|_=>none
def kR(fl:List (M D)):M (List D):=Pd (mL fl) fun xs=>opt (lS xs)
noncomputable def Fb:XW->Option (List D)|[.int i,.int j,.int k]=>if k=-1/\(-(2 ^ 62)<=i/\i<2 ^ 62)/\-(2 ^ 62)<=j/\j<2 ^ 62 then some ((List.range (i-j).toNat).map fun(k:Nat)=>.int (i-k)) else none|_=>none
def Eg(fl:List (M D)):M (List D):=Pd (mL fl) fun xs=>opt (Fb xs)
end VP
end
section
namespace VP
def A9:D->D->Option D|.int i,.int j=>nG (.int i) (.int j)|.tup xs,.int k=>if -(jn:Int)<=k/\k<=jn/\xs.length*k.toNat<=jn then some (.tup (List.replicate k.toNat xs).flatten) else none|_,_=>none
end VP
end
section
namespace VP
noncomputable def sortI(xs:T1):T1:=xs.mergeSort fun a b=>decide (a<=b)
theorem sortI_perm(xs:T1):(sortI xs).Perm xs:=List.mergeSort_perm ..
theorem Q18(xs:T1):(sortI xs).Pairwise (·<=·):=by have:=List.pairwise_mergeSort (le:=fun(a b:Int)=>decide (a<=b)) (fun a b c h1 h2=>by simp at *;lia) (fun a b=>by simp;lia) xs;exact this.imp fun h=>by simpa using h
theorem mz(p:ys.Perm xs)(o:ys.Pairwise (·<=·)):ys=sortI xs:=List.Perm.eq_of_pairwise (fun x y _ _ h1 h2=>Int.le_antisymm h1 h2) o (Q18 xs) (p.trans (sortI_perm xs).symm)
def wx(d:D):Rg:=match cq d with
|some ds=>match dm ds with
  |some ns=>if ns.length<64 then some (.lst ((sortI ns).map .int)) else none|none=>none
 |none=>none
noncomputable def AW:XW->Option D|[.int j]=>if -1000<=j/\j<=1000 then some (.lst ((List.range j.toNat).map fun(k:Nat)=>.int k)) else none|_=>none
def Q31:D->D->Option D|.str x,.int i=>if x.length<=jn/\0<=i then(x.cps.toList[i.toNat]?).map fun c=>.str ⟨#[c]⟩ else none|_,_=>none
noncomputable def Ii:D->D->Option D|.int i,.int j=>if 0<=j/\j<=1000/\i.natAbs<2 ^ 64 then some (.int (i ^ j.toNat)) else none|_,_=>none
def nT(c:M Bool)(body:M Fl):M Fl:=gW c body 10000
def Q0Y(i:Nat):M D:=fun r=>match own r[i]? with
 |some (.lst xs)=>match xs.getLast? with
   |some d=>.ok d (cL i (.lst xs.dropLast) r)|none=>.no
  |_=>.no
def xl(x:D):D->Option D
|.lst xs=>match x with
  |.lst ys=>if xs.length+ys.length<=jn then some (.lst (xs++ys)) else none|_=>none
 |_=>none
def Fc(i:Nat)(fe:M D):M Fl:=fun r=>if isLst (own r[i]?) then Pd fe (fun x=>FY (fR i (xl x))) r else .no
def nE(x y:D):Rg:=match x with
|.tup ds=>match dm ds with
  |some []=>some y|some (i::is)=>some (.int (is.foldl (fun a b=>if a<b then b else a) i))|none=>none
 |_=>none
noncomputable def BU(f:Fn)(d:D):M D:=fun r=>match f [d] with|.ok v [_]=>.ok v r|.exc x [_]=>.exc x r|_=>.no
def nC(f:Fn)(a:M D):M D:=Pd a (BU f)
noncomputable def bM:Sl->Sl|.ow d=>.sh d|.io d=>.sh d|s=>s
mutual
noncomputable def DU:D->Bool|.bE=>true|.bl _=>true|.int _=>true|.str _=>true|.tup ds=>noLs ds|_=>false
noncomputable def noLs:XW->Bool|[]=>true|d::ds=>DU d&&noLs ds
end
def ip(f:M D):M D:=fun r=>match f (r.map bM) with|.ok (.lst ds) _=>if noLs ds then .ok (.lst ds) r else .no|_=>.no
def nD(f:M D):M D:=fun r=>match f (r.map bM) with|.ok d _=>if DU d then .ok d r else .no|_=>.no
noncomputable def xh:List (Sum Int Str)->XW->Sum Int Str->Option D|k'::ks,v::vs,k=>if k'=k then some v else xh ks vs k|_,_,_=>none
noncomputable def xi(k:Sum Int Str)(v:D):List (Sum Int Str)->XW->List (Sum Int Str)×List D|k'::ks,x::vs=>if k'=k then(k'::ks,v::vs) else(k'::(xi k v ks vs).1,x::(xi k v ks vs).2)|_,_=>([k],[v])
def tK:D->D->Option D|.hW ks vs,.int k=>xh ks vs (.inl k)|_,_=>none
def AB(neg:Bool):D->D->Option D|.int k,.hW ks vs=>some (.bl (if neg then !(xh ks vs (.inl k)).isSome else(xh ks vs (.inl k)).isSome))|_,_=>none
def putD(k v:D):D->Option D
|.hW ks vs=>match k with
  |.int i=>if ks.length<1000 then some (.hW (xi (.inl i) v ks vs).1 (xi (.inl i) v ks vs).2) else none|_=>none
 |_=>none
def sT(i:Nat)(fk fv:M D):M Fl:=Pd fv fun v=>fun r=>if (own r[i]?).isSome then Pd fk (fun k=>FY (fR i (putD k v))) r else .no
noncomputable def D0:Sum Int Str->D|.inl i=>.int i|.inr s=>.str s
def D3:D->Option (List D)|.hW ks _=>some (ks.map D0)|_=>none
def vP(f:M D):M (List D):=Pd f fun d=>opt (D3 d)
def oH:D->Option D
|.hW _ vs=>match dm vs with
  |some (i::is)=>some (.int (is.foldl (fun a b=>if a<b then b else a) i))|_=>none
 |_=>none
noncomputable def CV:D->Option D|.hW ks vs=>some (.hW ks vs)|_=>none
noncomputable def asc:Nat->T1->Option Nat|m,[]=>some m|m,n::ns=>if 0<=n/\n<=m/\n<14 then asc (if n=m then m+1 else m) ns else none
def wy:D->Option D
|.lst ds=>match dm ds with
  |some ns=>(asc 0 ns).map fun m=>.lst ((List.range m).map fun(k:Nat)=>.int k)|none=>none
 |_=>none
end VP
end
section
set_option linter.all false
set_option maxRecDepth 100000
abbrev Oa(X:L2.Cx)(e:PySem.Expr)(l:List PySem.Expr):Prop:=PySem.starEach (e::l) X.env=(false,PySem.eval e X.env)::PySem.starEach l X.env
abbrev Si(X:L2.Cx)(x:PySem.Str):Prop:=X.fn x=true\/X.env.scope.names.lookup x=some .local
abbrev Lg(X:L2.Cx)(p:PySem.Pos)(l:List PySem.Expr):Prop:=(PySem.backTo p (PySem.starEach l X.env)).any (·.1)=false
namespace VS
open PySem PySem.Spec PyProof.Rows L2 VP
abbrev Frag:=W.Frag
abbrev St:=L2.St
abbrev MG:=Str->Option Value
def Yt(a C:Addr)(dx:u3):Heap->Prop:=fun h=>∃vs sl,h.get? a=some ⟨.ref C,dx,.fields vs,sl⟩/\vs[2]?=some .none
mutual
inductive Den(K:Frag)(mg:MG)(F:Hp):V->D->Prop where
 |bE:Den K mg F .bE .bE|bl (b:Bool):Den K mg F (.bl b) (.bl b)|int (i:Int):Den K mg F (.int i) (.int i)|str (x:Str):Den K mg F (.str x) (.str x)|tup {a:Addr} {vs:OY} {ds:XW} (h:dz K F a vs) (r:aM K mg F vs ds):Den K mg F (.ref a) (.tup ds)|lst {a:Addr} {vs:OY} {ds:XW} (h:cX K F a vs) (r:aM K mg F vs ds):Den K mg F (.ref a) (.lst ds)|hW {a:Addr} {aV:List (Key×V)} {ep:Nat} {ds:XW} (h:F a=some (.dK aV ep)) (r:aM K mg F (aV.map (·.2)) ds):Den K mg F (.ref a) (.hW (aV.map (·.1)) ds)|ins {a C dx:Addr} {c:Str} {fs:List (Str×V)} {ds:XW} (h:F a=some (.ins C dx fs)) (hc:mg c=some (.ref C)) (r:aM K mg F (fs.map (·.2)) ds):Den K mg F (.ref a) (.ins c (fs.map (·.1)) ds)|JU {a C:Addr} {dx:u3} {c:Str} {fs:List (Str×V)} {ds:XW} (h:F a=some (.ext (Yt a C dx))) (hc:mg c=some (.ref C)) (hf:(dx=none/\fs=[])\/∃b,dx=some b/\F b=some (.xd fs)) (r:aM K mg F (fs.map (·.2)) ds):Den K mg F (.ref a) (.JU c (fs.map (·.1)) ds)
inductive aM(K:Frag)(mg:MG)(F:Hp):OY->XW->Prop where
 |nil:aM K mg F [] []|cons {v:V} {d:D} {vs:OY} {ds:XW} (h:Den K mg F v d) (t:aM K mg F vs ds):aM K mg F (v::vs) (d::ds)
end
section
variable{K:Frag}{mg:MG}{F:Hp}{v:V}{ds:XW}
theorem Den.n(h:Den K mg F v .bE):v=.bE:=by cases h;rfl
theorem Den.b{b:Bool}(h:Den K mg F v (.bl b)):v=.bl b:=by cases h;rfl
theorem Den.i{i:Int}(h:Den K mg F v (.int i)):v=.int i:=by cases h;rfl
theorem Den.s{x:Str}(h:Den K mg F v (.str x)):v=.str x:=by cases h;rfl
theorem Den.t(h:Den K mg F v (.tup ds)):∃a vs,v=.ref a/\dz K F a vs/\aM K mg F vs ds:=by cases h with|tup h r=>exact⟨_,_,rfl,h,r⟩
theorem Den.l(h:Den K mg F v (.lst ds)):∃a vs,v=.ref a/\cX K F a vs/\aM K mg F vs ds:=by cases h with|lst h r=>exact⟨_,_,rfl,h,r⟩
theorem aM.n{vs:OY}(h:aM K mg F vs []):vs=[]:=by cases h;rfl
theorem aM.c{vs:OY}{d:D}(h:aM K mg F vs (d::ds)):∃v ws,vs=v::ws/\Den K mg F v d/\aM K mg F ws ds:=by cases h with|cons h r=>exact⟨_,_,rfl,h,r⟩
end
theorem dz.same{K:Frag}{F F':Hp}{a:Addr}{xs:OY}(h:dz K F a xs)(e:aN F F'):dz K F' a xs:=by
 rcases h with (h|⟨o,h⟩)|h
 exact .inl (.inl (e _ _ h));exact .inl (.inr ⟨o,e _ _ h⟩);exact .inr h
theorem cX.same{K:Frag}{F F':Hp}{a:Addr}{xs:OY}(h:cX K F a xs)(e:aN F F'):cX K F' a xs:=e.seq h
section
variable{K:Frag}{mg:MG}{F F' H H':Hp}
theorem Den.same(e:aN F F'){v:V}{d:D}(h:Den K mg F v d):Den K mg F' v d:=Den.rec (motive_1:=fun v d _=>Den K mg F' v d) (motive_2:=fun vs ds _=>aM K mg F' vs ds) .bE .bl .int .str (fun h _ r=>.tup (dz.same h e) r) (fun h _ r=>.lst (cX.same h e) r) (fun h _ r=>.hW (e _ _ h) r) (fun h hc _ r=>.ins (e _ _ h) hc r) (fun h hc hf _ r=>.JU (e _ _ h) hc (hf.imp id (Exists.imp fun _=>And.imp id (e _ _))) r) .nil (fun _ _ h t=>.cons h t) h
theorem aM.ind{P:OY->XW->Prop}(n:P [] [])(c:∀{v d vs ds},Den K mg F v d->aM K mg F vs ds->P vs ds->P (v::vs) (d::ds)){vs:OY}{ds:XW}(h:aM K mg F vs ds):P vs ds:=aM.rec (motive_1:=fun _ _ _=>True) (motive_2:=fun vs ds _=>P vs ds) ⟨⟩ (fun _=>⟨⟩) (fun _=>⟨⟩) (fun _=>⟨⟩) (fun _ _ _=>⟨⟩) (fun _ _ _=>⟨⟩) (fun _ _ _=>⟨⟩) (fun _ _ _ _=>⟨⟩) (fun _ _ _ _ _=>⟨⟩) n (fun h t _=>c h t) h
theorem aM.same(e:aN F F'){vs:OY}{ds:XW}(h:aM K mg F vs ds):aM K mg F' vs ds:=h.ind .nil fun h _=>.cons (h.same e)
theorem aM.length{vs:OY}{ds:XW}(h:aM K mg F vs ds):vs.length=ds.length:=h.ind (P:=fun vs ds=>vs.length=ds.length) rfl fun _ _=>congrArg Nat.succ
theorem aM.append{vs ws:OY}{ds es:XW}(h:aM K mg F vs ds)(s:aM K mg F ws es):aM K mg F (vs++ws) (ds++es):=h.ind (P:=fun vs ds=>aM K mg F (vs++ws) (ds++es)) s fun h _=>.cons h
theorem aM.get:∀{vs:OY}{ds:XW}{i:Nat}{d:D},aM K mg F vs ds->ds[i]?=some d->∃v,vs[i]?=some v/\Den K mg F v d|_,_,_,_,.nil,e=>by simp at e|_,_,0,_,.cons h _,e=>by simp at e;subst e;exact⟨_,rfl,h⟩|_,_,i+1,_,.cons _ t,e=>by obtain⟨v,h1,h2⟩:=aM.get (i:=i) t (by simpa using e);exact⟨v,by simpa using h1,h2⟩
theorem aM.set:∀{vs:OY}{ds:XW}{v:V}{d:D}(i:Nat),aM K mg F vs ds->Den K mg F v d->aM K mg F (vs.set i v) (ds.set i d)|_,_,_,_,_,.nil,_=>.nil|_,_,_,_,0,.cons _ t,h=>.cons h t|_,_,_,_,i+1,.cons q t,h=>.cons q (aM.set i t h)
theorem aM.take:∀{vs:OY}{ds:XW}(n:Nat),aM K mg F vs ds->aM K mg F (vs.take n) (ds.take n)|_,_,0,_=>by simpa using aM.nil|_,_,_+1,.nil=>.nil|_,_,n+1,.cons h t=>.cons h (aM.take n t)
theorem aM.drop:∀{vs:OY}{ds:XW}(n:Nat),aM K mg F vs ds->aM K mg F (vs.drop n) (ds.drop n)|_,_,0,h=>by simpa using h|_,_,_+1,.nil=>.nil|_,_,n+1,.cons _ t=>aM.drop n t
theorem aM.reverse(h:aM K mg F vs ds):aM K mg F vs.reverse ds.reverse:=by induction vs generalizing ds with|nil=>cases h;exact .nil|cons v vs ih=>cases h with|cons h t=>simp only[List.reverse_cons];exact(ih t).append (.cons h .nil)
theorem aM.ints(ns:T1):aM K mg F (ns.map V.int) (ns.map D.int):=by induction ns with|nil=>exact .nil|cons n r ih=>exact .cons (.int n) ih
theorem aM.map{α:Type}{f:α->V}{g:α->D}(h:∀a,Den K mg F (f a) (g a))(l:List α):aM K mg F (l.map f) (l.map g):=by induction l with|nil=>exact .nil|cons a l ih=>exact .cons (h a) ih
def eT(K:Frag)(mg:MG)(F H:Hp)(l:Addr):D->Prop|.lst ds=>∃vs,H l=some (.lst vs)/\aM K mg F vs ds|.hW ks ds=>∃aV ep,H l=some (.dK aV ep)/\aV.map (·.1)=ks/\aM K mg F (aV.map (·.2)) ds|.ins c ns ds=>∃C dx fs,H l=some (.ins C dx fs)/\mg c=some (.ref C)/\fs.map (·.1)=ns/\aM K mg F (fs.map (·.2)) ds|_=>False
theorem eT.same(h:eT K mg F H l d)(e:aN F F')(eh:∀o,H l=some o->H' l=some o):eT K mg F' H' l d:=by cases d with|lst ds=>obtain⟨vs,h1,h2⟩:=h;exact⟨vs,eh _ h1,h2.same e⟩|hW ks ds=>obtain⟨aV,ep,h1,h2,h3⟩:=h;exact⟨aV,ep,eh _ h1,h2,h3.same e⟩|ins c ns ds=>obtain⟨C,dx,fs,h1,h2,h3,h4⟩:=h;exact⟨C,dx,fs,eh _ h1,h2,h3,h4.same e⟩|_=>exact h.elim
theorem eT.has(h:eT K mg F H l d):∃o,H l=some o:=by cases d with|lst ds=>obtain⟨vs,h1,h2⟩:=h;exact⟨_,h1⟩|hW ks ds=>obtain⟨aV,ep,h1,h2,h3⟩:=h;exact⟨_,h1⟩|ins c ns ds=>obtain⟨C,dx,fs,h1,h2,h3,h4⟩:=h;exact⟨_,h1⟩|_=>exact h.elim
theorem eT.den(h:eT K mg F H l d)(ho:H l=some o)(e:aN F F')(hl:F' l=some o):Den K mg F' (.ref l) d:=by cases d with|lst ds=>obtain⟨vs,h1,h2⟩:=h;rw[ho] at h1;cases h1;exact .lst (cX.of hl) (h2.same e)|hW ks ds=>obtain⟨aV,ep,h1,rfl,h3⟩:=h;rw[ho] at h1;cases h1;exact .hW hl (h3.same e)|ins c ns ds=>obtain⟨C,dx,fs,h1,h2,rfl,h4⟩:=h;rw[ho] at h1;cases h1;exact .ins hl h2 (h4.same e)|_=>exact h.elim
end
structure Fx where
 H₀:Hp
 PD:Hp
 io:List (Nat×Addr)
def uS(K:Frag)(mg:MG)(G:Fx)(F H:Hp)(i:Nat)(v:Option V):Sl->Prop|.no=>True|.sh d=>∃u,v=some u/\Den K mg F u d|.ow d=>∃l,v=some (.ref l)/\F l=none/\G.H₀ l=none/\eT K mg F H l d|.io d=>∃l,v=some (.ref l)/\(i,l)∈G.io/\F l=none/\eT K mg F H l d
def cw:Sl->Bool|.ow _=>true|.io _=>true|_=>false
structure Good(K:Frag)(mg:MG)(G:Fx)(F H:Hp)(σ:St)(ρ:aS):Prop where
 sF:aN G.PD F
 sub:aN F H
 old:∀a o,G.H₀ a=some o->(∀i,(i,a)∉G.io)->H a=some o
 new:∀a o,F a=some o->G.PD a=some o\/G.H₀ a=none
 len:σ.length=ρ.length
 slot:∀(i:Nat)(s:Sl),ρ[i]?=some s->uS K mg G F H i (σ[i]?.join) s
 apart:∀(i j:Nat)(l:Addr)(s t:Sl),ρ[i]?=some s->ρ[j]?=some t->cw s=true->cw t=true->σ[i]?=some (some (V.ref l))->σ[j]?=some (some (V.ref l))->i=j
 oE:∀i a,(i,a)∈G.io->(∃o,H a=some o)/\F a=none/\∃o,G.H₀ a=some o
 oX:∀i a b,(i,a)∈G.io->(i,b)∈G.io->a=b
section
variable{K:Frag}{mg:MG}{G:Fx}{F F' H H':Hp}{σ:St}{ρ:aS}
theorem uS.own(h:uS K mg G F H i v s)(o:cw s=true):∃l d,v=some (.ref l)/\F l=none/\eT K mg F H l d/\(s=.ow d\/s=.io d):=by cases s with|no=>cases o|sh d=>cases o|ow d=>obtain⟨l,h1,h2,h3,h4⟩:=h;exact⟨l,d,h1,h2,h4,.inl rfl⟩|io d=>obtain⟨l,h1,h2,h3,h4⟩:=h;exact⟨l,d,h1,h3,h4,.inr rfl⟩
theorem uS.same(h:uS K mg G F H i v s)(e:aN F F')(hn:∀l,v=some (.ref l)->cw s=true->F l=none->(∃o,H l=some o)->F' l=none)(eh:∀l o,v=some (.ref l)->cw s=true->H l=some o->H' l=some o):uS K mg G F' H' i v s:=by cases s with|no=>trivial|sh d=>obtain⟨u,h1,h2⟩:=h;exact⟨u,h1,h2.same e⟩|ow d=>obtain⟨l,h1,h2,h3,h4⟩:=h;exact⟨l,h1,hn l h1 rfl h2 h4.has,h3,h4.same e fun o=>eh l o h1 rfl⟩|io d=>obtain⟨l,h1,h2,h3,h4⟩:=h;exact⟨l,h1,h2,hn l h1 rfl h3 h4.has,h4.same e fun o=>eh l o h1 rfl⟩
theorem Good.ext(g:Good K mg G F H σ ρ)(eF:aN F F')(eH:aN H H')(sub:aN F' H')(new:∀a o,F' a=some o->F a=some o\/H a=none):Good K mg G F' H' σ ρ where
 sF:=g.sF.trans eF
 sub:=sub
 old:=fun a o e n=>eH _ _ (g.old a o e n)
 new:=fun a o e=>by rcases new a o e with h|h;exact g.new a o h;refine .inr ?_;cases q:G.H₀ a with|none=>rfl|some u=>by_cases z:∃i,(i,a)∈G.io;obtain⟨i,z⟩:=z;obtain⟨⟨w,hw⟩,_⟩:=g.oE i a z;rw[h] at hw;cases hw;have:=g.old a u q (fun i w=>z ⟨i,w⟩);rw[h] at this;cases this
 len:=g.len
 slot:=fun i s h=>(g.slot i s h).same eF (fun l _ _ hf ⟨o,ho⟩=>by cases q:F' l with|none=>rfl|some u=>rcases new l u q with z|z;rw[hf] at z;cases z;rw[ho] at z;cases z) fun l o _ _ e=>eH _ _ e
 apart:=g.apart
 oE:=fun i a h=>by obtain⟨⟨o,h1⟩,h2,h3⟩:=g.oE i a h;refine⟨⟨o,eH _ _ h1⟩,?_,h3⟩;cases q:F' a with|none=>rfl|some u=>rcases new a u q with z|z;rw[h2] at z;cases z;rw[h1] at z;cases z
 oX:=g.oX
theorem bg(h:A p=none):aN A (upd A p o):=fun b q e=>by rw[aU (bB e h)];exact e
theorem Good.laid(g:Good K mg G F H σ ρ)(hp:H p=none):Good K mg G (upd F p o) (upd H p o) σ ρ:=by have fp:F p=none:=g.sub.free hp;refine g.ext (bg fp) (bg hp) (fun b q e=>?_) fun a u e=>?_;by_cases hb:b=p;subst hb;rw[aO] at e ⊢;exact e;rw[aU hb] at e ⊢;exact g.sub _ _ e;by_cases hb:a=p;subst hb;exact .inr hp;rw[aU hb] at e;exact .inl e
theorem Good.made(g:Good K mg G F H σ ρ)(hp:H p=none):Good K mg G F (upd H p o) σ ρ:=g.ext (aN.refl _) (bg hp) (g.sub.trans (bg hp)) fun a u e=>.inl e
theorem Good.Bb(g:Good K mg G F H σ ρ)(hp:H p=none):G.H₀ p=none:=by cases q:G.H₀ p with|none=>rfl|some u=>by_cases z:∃i,(i,p)∈G.io;obtain⟨i,z⟩:=z;obtain⟨⟨w,hw⟩,_⟩:=g.oE i p z;rw[hp] at hw;cases hw;have:=g.old p u q (fun i w=>z ⟨i,w⟩);rw[hp] at this;cases this
structure Loose(K:Frag)(mg:MG)(G:Fx)(F H:Hp)(σ:St)(ρ:aS)(l:Addr)(d:D):Prop where
 nF:F l=none
 n0:G.H₀ l=none
 ob:eT K mg F H l d
 ns:∀(i:Nat)(s:Sl),ρ[i]?=some s->cw s=true->σ[i]?≠some (some (V.ref l))
theorem Good.loose(g:Good K mg G F H σ ρ)(hp:H p=none)(ho:eT K mg F (upd H p o) p d):Loose K mg G F (upd H p o) σ ρ p d where
 nF:=g.sub.free hp
 n0:=g.Bb hp
 ob:=ho
 ns:=fun i s h o e=>by obtain⟨l,d,h1,h2,h3,h4⟩:=(g.slot i s h).own o;rw[e] at h1;cases h1;obtain⟨u,hu⟩:=h3.has;rw[hp] at hu;cases hu
theorem Loose.fast(x:Loose K mg G F H σ ρ l d)(g:Good K mg G F H σ ρ):∃F',aN F F'/\Good K mg G F' H σ ρ/\Den K mg F' (.ref l) d:=by
 obtain⟨o,ho⟩:=x.ob.has;refine⟨upd F l o,bg x.nF,?_,x.ob.den ho (bg x.nF) aO⟩;exact {
  sF:=g.sF.trans (bg x.nF)
  sub:=fun b q e=>by by_cases hb:b=l;subst hb;rw[aO] at e;cases e;exact ho;rw[aU hb] at e;exact g.sub _ _ e
  old:=g.old
  new:=fun a u e=>by by_cases hb:a=l;subst hb;exact .inr x.n0;rw[aU hb] at e;exact g.new a u e
  len:=g.len
  slot:=fun i s h=>(g.slot i s h).same (bg x.nF) (fun m hv ow hf _=>by
   have:m≠l:=fun z=>by subst z;refine x.ns i s h ow ?_;cases q:σ[i]? with|none=>rw[q] at hv;cases hv|some w=>rw[q] at hv;exact congrArg some hv
   rw[aU this];exact hf) fun _ _ _ _ e=>e
  apart:=g.apart
  oE:=fun i a h=>by
   obtain⟨h1,h2,u,h3⟩:=g.oE i a h;refine⟨h1,?_,u,h3⟩;have:a≠l:=fun z=>by subst z;rw[x.n0] at h3;cases h3
   rw[aU this];exact h2
  oX:=g.oX}
theorem join_some{σ:St}{i:Nat}{v:V}(h:σ[i]?.join=some v):σ[i]?=some (some v):=by cases q:σ[i]? with|none=>rw[q] at h;cases h|some w=>rw[q] at h;exact congrArg some h
theorem Good.store(g:Good K mg G F H σ ρ)(hf:free ρ[i]?=true)(hs:uS K mg G F H i (some v) s')(Xm:cw s'=true->∀(j:Nat)(s:Sl),ρ[j]?=some s->cw s=true->j≠i->σ[j]?≠some (some v)):Good K mg G F H (σ.set i (some v)) (ρ.set i s') where
 sF:=g.sF
 sub:=g.sub
 old:=g.old
 new:=g.new
 len:=by simp[g.len]
 slot:=fun j s h=>by
  by_cases hj:j=i;subst hj;have hi:j<ρ.length:=by cases q:ρ[j]? with|none=>rw[q] at hf;cases hf|some w=>exact(List.getElem?_eq_some_iff.mp q).1
  rw[MH hi] at h;cases h;rw[MH (by rw[g.len];exact hi)];exact hs;rw[HB (Ry hj)] at h ⊢;exact g.slot j s h
 apart:=fun j k l s t h1 h2 o1 o2 e1 e2=>by
  by_cases hj:j=i;by_cases hk:k=i;rw[hj,hk];subst hj;rw[HB (Ry hk)] at h2 e2;have hi:j<ρ.length:=by cases q:ρ[j]? with|none=>rw[q] at hf;cases hf|some w=>exact(List.getElem?_eq_some_iff.mp q).1
  rw[MH hi] at h1;cases h1;rw[MH (by rw[g.len];exact hi)] at e1;cases e1;exact absurd e2 (Xm o1 k t h2 o2 hk);rw[HB (Ry hj)] at h1 e1;by_cases hk:k=i;subst hk;have hi:k<ρ.length:=by cases q:ρ[k]? with|none=>rw[q] at hf;cases hf|some w=>exact(List.getElem?_eq_some_iff.mp q).1
  rw[MH hi] at h2;cases h2;rw[MH (by rw[g.len];exact hi)] at e2;cases e2;exact absurd e1 (Xm o2 j s h1 o1 hj);rw[HB (Ry hk)] at h2 e2;exact g.apart j k l s t h1 h2 o1 o2 e1 e2
 oE:=g.oE
 oX:=g.oX
theorem Good.write(g:Good K mg G F H σ ρ)(hr:ρ[i]?=some s)(ho:cw s=true)(hl:σ[i]?=some (some (V.ref l)))(hs:(∃e,s=.ow e/\s'=.ow d)\/(∃e,s=.io e/\s'=.io d)) (hd:eT K mg F (upd H l o) l d):Good K mg G F (upd H l o) σ (ρ.set i s'):=by
 have nF:F l=none:=by obtain⟨m,e,h1,h2,h3,_⟩:=(g.slot i s hr).own ho;rw[hl] at h1;cases h1;exact h2
 have hi:i<ρ.length:=(List.getElem?_eq_some_iff.mp hr).1;have ow':cw s'=true:=by rcases hs with ⟨e,_,rfl⟩|⟨e,_,rfl⟩<;>rfl
 exact {
  sF:=g.sF
  sub:=fun b q e=>by have:b≠l:=bB e nF;rw[aU this];exact g.sub _ _ e
  old:=fun a q e n=>by
   have:a≠l:=fun z=>by
    subst z;have k:=g.slot i s hr;rcases hs with ⟨e',rfl,_⟩|⟨e',rfl,_⟩
    obtain⟨m,h1,h2,h3,_⟩:=k;rw[hl] at h1;cases h1;rw[e] at h3;cases h3;obtain⟨m,h1,h2,h3,_⟩:=k;rw[hl] at h1;cases h1;exact n i h2
   rw[aU this];exact g.old a q e n
  new:=g.new
  len:=by simp[g.len]
  slot:=fun j t h=>by
   by_cases hj:j=i;subst hj;rw[MH hi] at h;cases h;have k:=g.slot j s hr;rcases hs with ⟨e',rfl,rfl⟩|⟨e',rfl,rfl⟩
   obtain⟨m,h1,h2,h3,_⟩:=k;rw[hl] at h1;cases h1;rw[hl];exact⟨l,rfl,h2,h3,hd⟩;obtain⟨m,h1,h2,h3,_⟩:=k;rw[hl] at h1;cases h1;rw[hl];exact⟨l,rfl,h2,h3,hd⟩;rw[HB (Ry hj)] at h;refine(g.slot j t h).same (aN.refl _) (fun _ _ _ z _=>z) fun m q hv ow e=>?_;have:m≠l:=fun z=>by subst z;exact hj (g.apart j i m t s h hr ow ho (join_some hv) hl)
   rw[aU this];exact e
  apart:=fun j k m t u h1 h2 o1 o2 e1 e2=>by
   have f:∀{j:Nat}{t:Sl},(ρ.set i s')[j]?=some t->cw t=true->∃t',ρ[j]?=some t'/\cw t'=true:=fun {j t} h o=>by by_cases hj:j=i;subst hj;exact⟨s,hr,ho⟩;rw[HB (Ry hj)] at h;exact⟨t,h,o⟩
   obtain⟨t',a1,a2⟩:=f h1 o1;obtain⟨u',b1,b2⟩:=f h2 o2;exact g.apart j k m t' u' a1 b1 a2 b2 e1 e2
  oE:=fun j a h=>by obtain⟨⟨q,h1⟩,h2,h3⟩:=g.oE j a h;refine⟨?_,h2,h3⟩;by_cases ha:a=l;subst ha;exact⟨o,aO⟩;exact⟨q,by rw[aU ha];exact h1⟩
  oX:=g.oX}
theorem Good.fz{i:Nat}{d:D}(g:Good K mg G F H σ ρ)(hr:ρ[i]?=some (.ow d)):∃F',aN F F'/\Good K mg G F' H σ (ρ.set i (.sh d)):=by
 obtain⟨l,h1,h2,h3,h4⟩:=g.slot i _ hr;have hl:=join_some h1;have hi:i<ρ.length:=(List.getElem?_eq_some_iff.mp hr).1;obtain⟨o,ho⟩:=h4.has;refine⟨upd F l o,bg h2,?_⟩;exact {
  sF:=g.sF.trans (bg h2)
  sub:=fun b q e=>by by_cases hb:b=l;subst hb;rw[aO] at e;cases e;exact ho;rw[aU hb] at e;exact g.sub _ _ e
  old:=g.old
  new:=fun a u e=>by by_cases hb:a=l;subst hb;exact .inr h3;rw[aU hb] at e;exact g.new a u e
  len:=by simp[g.len]
  slot:=fun j s h=>by
   by_cases hj:j=i;subst hj;rw[MH hi] at h;cases h;exact⟨_,h1,h4.den ho (bg h2) aO⟩;rw[HB (Ry hj)] at h;refine(g.slot j s h).same (bg h2) (fun m hv ow hf _=>?_) fun _ _ _ _ e=>e;have:m≠l:=fun z=>by subst z;exact hj (g.apart j i m s _ h hr ow rfl (join_some hv) hl)
   rw[aU this];exact hf
  apart:=fun j k m t u h1 h2 o1 o2 e1 e2=>by
   have f:∀{j:Nat}{t:Sl},(ρ.set i (.sh d))[j]?=some t->cw t=true->ρ[j]?=some t:=fun {j t} h o=>by by_cases hj:j=i;subst hj;rw[MH hi] at h;cases h;cases o;rw[HB (Ry hj)] at h;exact h
   exact g.apart j k m t u (f h1 o1) (f h2 o2) o1 o2 e1 e2
  oE:=fun j a h=>by
   obtain⟨q1,q2,u,q3⟩:=g.oE j a h;refine⟨q1,?_,u,q3⟩;have:a≠l:=fun z=>by subst z;rw[h3] at q3;cases q3
   rw[aU this];exact q2
  oX:=g.oX}
end
def XR(K:Frag)(mg:MG)(F H:Hp)(c:Value)(dx:u3)(x:Xn):Prop:=∃C,c=.ref C/\mg x.cls=some (.ref C)/\∃fs:List (Str×V),((dx=none/\fs=[])\/∃a,dx=some a/\F a=some (.xd fs))/\fs.map (·.1)=x.ns/\aM K mg F (fs.map (·.2)) x.vs
abbrev XE:=St->XK
structure Lc where
 K:Frag
 mg:MG
 EX:XE
def Out{α:Type}:Res α->(α->aS->Prop)->(Xn->aS->Prop)->Prop|.ok a r,P,_=>P a r|.exc x r,_,E=>E x r|.no,_,_=>False
theorem Out.Pd{α β:Type}{f:M α}{g:α->M β}{P:β->aS->Prop}(h:Out (Pd f g r) P E):Out (f r) (fun a r'=>Out (g a r') P E) E:=by unfold VP.Pd at h;cases q:f r with|ok a r'=>rw[q] at h;exact h|exc x r'=>rw[q] at h;exact h|no=>rw[q] at h;exact h
theorem Out.mono{α:Type}{r:Res α}{P P':α->aS->Prop}(h:Out r P E)(hP:∀a r,P a r->P' a r)(hE:∀x r,E x r->E' x r):Out r P' E':=by cases r with|ok a r=>exact hP _ _ h|exc x r=>exact hE _ _ h|no=>exact h
theorem Out.opt{α:Type}{o:Option α}{P:α->aS->Prop}(h:Out (opt o r) P E):∃a,o=some a/\P a r:=by cases o with|none=>exact h.elim|some a=>exact⟨a,rfl,h⟩
theorem Out.ite{α:Type}{f g:M α}{P:α->aS->Prop}(h:Out ((if b then f else g) r) P E):(b=true/\Out (f r) P E)\/(b=false/\Out (g r) P E):=by cases b with|true=>exact .inl ⟨rfl,h⟩|false=>exact .inr ⟨rfl,h⟩
abbrev Rl(α β:Type):=Fx->Hp->Hp->St->aS->β->α->Prop
section
variable(L:Lc)
abbrev Lc.Good(G:Fx)(F H:Hp)(σ:St)(ρ:aS):Prop:=VS.Good L.K L.mg G F H σ ρ
def RV:Rl D V:=fun _ F _ _ _ v d=>Den L.K L.mg F v d
def RR:Rl D V:=fun _ F H _ _ v d=>Den L.K L.mg F v d\/∃l,v=.ref l/\eT L.K L.mg F H l d
def RF:Rl D V:=fun G F H σ ρ v d=>∃l,v=.ref l/\Loose L.K L.mg G F H σ ρ l d
def RB:Rl Bool Bool:=fun _ _ _ _ _ b a=>b=a
def RL:Rl (List D) (List V):=fun _ F _ _ _ vs ds=>aM L.K L.mg F vs ds
def dj(G:Fx)(F:Hp)(σ:St):Xn->aS->Prop:=fun x bQ=>∀F' H' c dx,aN F F'->L.Good G F' H' σ bQ->XR L.K L.mg F' H' c dx x->L.EX σ c dx H'
def eU{α β:Type}(R:Rl α β)(G:Fx)(F:Hp)(σ:St)(Q:β->Hp->Prop):α->aS->Prop:=fun a bQ=>∀F' H' b,aN F F'->L.Good G F' H' σ bQ->R G F' H' σ bQ b a->Q b H'
def lift{α β:Type}(R:Rl α β)(f:M α):St->Hp->(β->Hp->Prop)->Prop:=fun σ H Q=>∃G F ρ,L.Good G F H σ ρ/\Out (f ρ) (eU L R G F σ Q) (dj L G F σ)
end
section
variable{L:Lc}{α β γ:Type}{G:Fx}{F F1 H:Hp}{σ:St}{ρ:aS}
theorem a7{Ra:Rl α β}{f:M α}{g:α->M γ}{P:γ->aS->Prop}{W:β->Hp->Prop}(g0:L.Good G F H σ ρ)(o:Out (Pd f g ρ) P E)(hE:∀x r,E x r->dj L G F σ x r)(k:∀F1 H1 bw a b,aN F F1->L.Good G F1 H1 σ bw->Ra G F1 H1 σ bw b a->Out (g a bw) P E->W b H1):lift L Ra f σ H W:=
 ⟨G,F,ρ,g0,o.Pd.mono (fun a bw q F1 H1 b e g1 r=>k F1 H1 bw a b e g1 r q) hE⟩
theorem lf{Ra:Rl α β}{f:M α}{Q:β->Hp->Prop}{C:Prop}(h:lift L Ra f σ H Q)(k:∀G F ρ,L.Good G F H σ ρ->Out (f ρ) (eU L Ra G F σ Q) (dj L G F σ)->C):C:=by obtain⟨G,F,ρ,g0,o⟩:=h;exact k G F ρ g0 o
theorem dt{δ:Type}{Ra:Rl α β}{Rb:Rl γ δ}{f:M α}{g:α->M γ}{Q:δ->Hp->Prop}{W:β->Hp->Prop}(h:lift L Rb (Pd f g) σ H Q)(k:∀G F F1 H1 bw a b,aN F F1->L.Good G F1 H1 σ bw->Ra G F1 H1 σ bw b a->Out (g a bw) (eU L Rb G F σ Q) (dj L G F σ)->W b H1):lift L Ra f σ H W:=
 lf h fun G F ρ g0 o=>a7 g0 o (fun x r q=>q) (k G F)
theorem dj.same(e:aN F F1)(h:dj L G F σ x r):dj L G F1 σ x r:=fun F' H' c dx s g q=>h F' H' c dx (e.trans s) g q
theorem eU.same{R:Rl α β}{Q:β->Hp->Prop}(e:aN F F1){a:α}(h:eU L R G F σ Q a r):eU L R G F1 σ Q a r:=fun F' H' b s g q=>h F' H' b (e.trans s) g q
end
abbrev lc(X:Cx)(EX:XE):Lc:=⟨X.K,X.mg,EX⟩
def PV(X:Cx)(EX:XE)(e:Expr)(f:M D):Prop:=PE X e (lift (lc X EX) (RV (lc X EX)) f)
def PR(X:Cx)(EX:XE)(e:Expr)(f:M D):Prop:=PE X e (lift (lc X EX) (RR (lc X EX)) f)
def PF(X:Cx)(EX:XE)(e:Expr)(f:M D):Prop:=PE X e (lift (lc X EX) (RF (lc X EX)) f)
def PB(X:Cx)(EX:XE)(e:Expr)(f:M Bool):Prop:=PT X e (lift (lc X EX) RB f)
def Am(X:Cx)(EX:XE)(es:Wg)(f:M (List D)):Prop:=PA X es (lift (lc X EX) (RL (lc X EX)) f)
theorem _root_.L2.PE.le(h:PE X e t)(k:∀σ H Q,t' σ H Q->t σ H Q):PE X e t':=fun Ug s σ H Q I q=>h Ug s σ H Q I (k _ _ _ q)
theorem _root_.L2.PT.le(h:PT X e t)(k:∀σ H Q,t' σ H Q->t σ H Q):PT X e t':=fun Ug s σ H Q I q=>h Ug s σ H Q I (k _ _ _ q)
theorem _root_.L2.PA.le(h:PA X es t)(k:∀σ H Q,t' σ H Q->t σ H Q):PA X es t':=fun pos Ug s σ H Q I q=>h pos Ug s σ H Q I (k _ _ _ q)
theorem _root_.L2.PS.le(h:PS X e t)(k:∀D σ H,t' D σ H->t D σ H):PS X e t':=fun Ug s σ H D I q=>h Ug s σ H D I (k _ _ _ q)
theorem _root_.L2.wM.le(h:wM X e t)(k:∀D σ H,t' D σ H->t D σ H):wM X e t':=fun Ug s σ H D I q=>h Ug s σ H D I (k _ _ _ q)
section
variable{X:Cx}{EX:XE}{e a b c:Expr}{f fa fb fc:M D}{pos:Pos}
theorem PV.rd(h:PV X EX e f):PR X EX e f:=h.le fun σ H Q ⟨G,F,ρ,g,o⟩=>⟨G,F,ρ,g,o.mono (fun a r q F' H' b s g' d=>q F' H' b s g' (.inl d)) fun x r q=>q⟩
theorem PF.pv(h:PF X EX e f):PV X EX e f:=h.le fun σ H Q ⟨G,F,ρ,g,o⟩=>⟨G,F,ρ,g,o.mono (fun a r q F' H' b s g' zz=>by obtain⟨l,e,d⟩:=zz;subst e;obtain⟨F2,s2,g2,d2⟩:=d.fast g';exact q F2 H' _ (s.trans s2) g2 d2) fun x r q=>q⟩
theorem aa(i:Nat){x:Str}(hN:X.N[i]?=some x:=by rfl)(hv:yz X.env.scope x:=by exact wg)(hd:WL x:=by decide)(kO:Le x:=by decide):PV X EX (.Name x pos) (af i):=
 (iw hN hv hd kO).le fun σ H Q zz=>by obtain⟨G,F,ρ,g,o⟩:=zz;unfold af at o;cases q:ρ[i]? with|none=>rw[q] at o;exact o.elim|some s=>rw[q] at o;cases s with|sh d=>obtain⟨u,h1,h2⟩:=g.slot i _ q;exact⟨u,join_some h1,o F H u (aN.refl _) g h2⟩|_=>exact o.elim
theorem iy(i:Nat){x:Str}(hN:X.N[i]?=some x:=by rfl)(hv:yz X.env.scope x:=by exact wg)(hd:WL x:=by decide)(kO:Le x:=by decide):PR X EX (.Name x pos) (xI i):=
 (iw hN hv hd kO).le fun σ H Q zz=>by obtain⟨G,F,ρ,g,o⟩:=zz;unfold xI at o;cases q:ρ[i]? with|none=>rw[q] at o;exact o.elim|some s=>rw[q] at o;have k:=g.slot i _ q;cases s with|no=>exact o.elim|sh d=>obtain⟨u,h1,h2⟩:=k;exact⟨u,join_some h1,o F H u (aN.refl _) g (.inl h2)⟩|ow d=>obtain⟨l,h1,h2,h3,h4⟩:=k;exact⟨_,join_some h1,o F H _ (aN.refl _) g (.inr ⟨l,rfl,h4⟩)⟩|io d=>obtain⟨l,h1,h2,h3,h4⟩:=k;exact⟨_,join_some h1,o F H _ (aN.refl _) g (.inr ⟨l,rfl,h4⟩)⟩
theorem wk(h:PE X e t)(k:∀σ H Q,Q v H->t σ H Q)(hd:∀F,Den X.K X.mg F v d):PV X EX e (mC d):=h.le fun σ H Q ⟨G,F,ρ,g,o⟩=>k σ H Q (o F H v (aN.refl _) g (hd F))
theorem ak{j}:PV X EX (.Constant (.int i) j pos) (mC (.int i)):=wk NL (fun _ _ _ q=>q) fun _=>.int i
theorem oM{j}:PV X EX (.Constant (.bool i) j pos) (mC (.bl i)):=wk Q0J (fun _ _ _ q=>q) fun _=>.bl i
theorem cg{j}:PV X EX (.Constant .none j pos) (mC .bE):=wk Q2O (fun _ _ _ q=>q) fun _=>.bE
theorem aB{j}:PV X EX (.Constant (.str i) j pos) (mC (.str i)):=wk NP (fun _ _ _ q=>q) fun _=>.str i
abbrev Gg(L:Lc)(G:Fx)(F:Hp)(σ:St)(ρ:aS)(d:D)(Q:VK):Prop:=∀F' H' v,aN F F'->L.Good G F' H' σ ρ->Den L.K L.mg F' v d->Q v H'
def kW(L:Lc)(r:R2)(g:D->D->Rg):Prop:=∀G F H σ ρ x y dx dy d Q,L.Good G F H σ ρ->Den L.K L.mg F x dx->Den L.K L.mg F y dy->g dx dy=some d->Gg L G F σ ρ d Q->r x y H Q
def W2(L:Lc)(r:V->Hp->VK->Prop)(g:D->Rg):Prop:=∀G F H σ ρ x dx d Q,L.Good G F H σ ρ->RR L G F H σ ρ x dx->g dx=some d->Gg L G F σ ρ d Q->r x H Q
def Tu(L:Lc)(r:OY->Hp->VK->Prop)(g:XW->Rg):Prop:=∀G F H σ ρ xs TX d Q,L.Good G F H σ ρ->aM L.K L.mg F xs TX->g TX=some d->Gg L G F σ ρ d Q->r xs H Q
theorem gR(hg:kW (lc X EX) r g)(ha:∀σ H Q,lift (lc X EX) (RV (lc X EX)) fa σ H Q->ta σ H Q)(hb:∀σ H Q,lift (lc X EX) (RV (lc X EX)) fb σ H Q->tb σ H Q)(σ:St) (H:Hp) (Q:VK) (h:lift (lc X EX) (RV (lc X EX)) (m2 g fa fb) σ H Q):Pp r ta tb σ H Q:=by obtain⟨G,F,ρ,g0,o⟩:=h;refine ha _ _ _ (a7 g0 o (fun x r q=>q) fun F1 H1 bw d1 x s1 g1 r1 o1=>?_);refine hb _ _ _ (a7 g1 o1 (fun x r q=>q.same s1) fun F2 H2 oQ d2 y s2 g2 r2 o2=>?_);obtain⟨d,e,q⟩:=o2.opt;exact hg G F2 H2 σ oQ x y d1 d2 d Q g2 (r1.same s2) r2 e (eU.same (s1.trans s2) q)
theorem aH(ho:gG X (binaryOp op) r)(hg:kW (lc X EX) r g)(ha:PV X EX a fa)(hb:PV X EX b fb):PV X EX (.BinOp a op b pos) (m2 g fa fb):=(Q2I ho ha hb).le (gR hg (fun _ _ _ q=>q) fun _ _ _ q=>q)
theorem gc(ho:gG X (compareOp op) r)(hg:kW (lc X EX) r g)(ha:PV X EX a fa)(hb:PV X EX b fb)(hm:behindInMarks op b=false):PV X EX (.Compare a [op] [b] pos) (m2 g fa fb):=(HM ho ha hb hm).le (gR hg (fun _ _ _ q=>q) fun _ _ _ q=>q)
theorem sP(ho:TL X (unaryOp op) r)(hg:W2 (lc X EX) r g)(ha:PV X EX a fa):PV X EX (.UnaryOp op a pos) (m1 g fa):=(Sn ho ha).le fun σ H Q bF=>dt bF fun G F F1 H1 bw d1 x s1 g1 r1 o1=>by obtain⟨d,e,q⟩:=o1.opt;exact hg G F1 H1 σ bw x d1 d Q g1 (.inl r1) e (eU.same s1 q)
theorem bj(h:PV X EX a fa)(he:∀whole,isTrue a X.env whole=(do let v <-whole;standAt a.pos;holding [v] (truthy v)):=by exact Ri):PB X EX a (tB fa):=(N1 h he).le fun σ H Q bF=>dt bF fun G F F1 H1 bw d1 x s1 g1 r1 o1=>by cases d1 with|bl k=>obtain rfl:=Den.b r1;exact⟨k,rfl,o1 F1 H1 k s1 g1 rfl⟩|_=>exact o1.elim
theorem bW{op:CmpOp}{r:R2}{g:D->D->Rg}(ho:gG X (compareOp op) r)(hg:kW (lc X EX) r g)(ha:PV X EX a fa)(hb:PV X EX b fb)(hm:behindInMarks op b=false):PB X EX (.Compare a [op] [b] pos) (tB (m2 g fa fb)):=(zZ ho ha hb hm).le fun σ H Q bF=>lf bF fun G F ρ g0 o=>by refine gR hg (fun _ _ _ q=>q) (fun _ _ _ q=>q) σ H _ (a7 g0 o (fun x r q=>q) fun F1 H1 bw d1 x s1 g1 r1 o1=>?_);cases d1 with|bl k=>obtain rfl:=Den.b r1;exact⟨k,rfl,o1 F1 H1 k s1 g1 rfl⟩|_=>exact o1.elim
variable{f1 f2:M Bool}{rest:Wg}
def mQ(X:Cx)(EX:XE)(e:Expr)(f:M Bool):Prop:=PW X e (lift (lc X EX) RB f)
theorem _root_.L2.PW.le(h:PW X e t)(k:∀σ H Q,t' σ H Q->t σ H Q):PW X e t':=fun w Ug s σ H Q I q=>h w Ug s σ H Q I (k _ _ _ q)
theorem mQ.pb(h:mQ X EX e f1):PB X EX e f1:=PW.pt h
theorem jf(h:PB X EX a f1):PB X EX (.UnaryOp .Not a pos) (mG f1):=(N0 h).le fun σ H Q bF=>dt bF fun G F F1 H1 bw d1 x s1 g1 r1 o1=>by cases r1;exact o1 F1 H1 _ s1 g1 rfl
theorem ku(h:PB X EX a f1):mQ X EX (.BoolOp .And [a] pos) f1:=Q1G h
theorem fB(h:PB X EX a f1):mQ X EX (.BoolOp .Or [a] pos) f1:=N4 h
theorem jT(h1:PB X EX a f1)(h2:mQ X EX (.BoolOp .And (b::rest) pos) f2):mQ X EX (.BoolOp .And (a::b::rest) pos) (lD f1 f2):=L2.PW.le (Q1L h1 h2) fun σ H Q bF=>dt bF fun G F F1 H1 bw d1 x s1 g1 r1 o1=>by
 cases r1;rcases o1.ite with ⟨e,o2⟩|⟨e,o2⟩
 subst e;exact xD ⟨G,F1,bw,g1,o2.mono (fun _ _=>eU.same s1) fun _ _=>dj.same s1⟩;subst e;exact xC (o2 F1 H1 false s1 g1 rfl)
theorem gS(h1:PB X EX a f1)(h2:mQ X EX (.BoolOp .Or (b::rest) pos) f2):mQ X EX (.BoolOp .Or (a::b::rest) pos) (rE f1 f2):=L2.PW.le (Sw h1 h2) fun σ H Q bF=>dt bF fun G F F1 H1 bw d1 x s1 g1 r1 o1=>by
 cases r1;rcases o1.ite with ⟨e,o2⟩|⟨e,o2⟩
 subst e;exact xD (o2 F1 H1 true s1 g1 rfl);subst e;exact xC ⟨G,F1,bw,g1,o2.mono (fun _ _=>eU.same s1) fun _ _=>dj.same s1⟩
theorem kT(hc:PB X EX c f1)(ha:PV X EX a fa)(hb:PV X EX b fb):PV X EX (.IfExp c a b pos) (zM f1 fa fb):=(EL hc ha hb).le fun σ H Q bF=>dt bF fun G F F1 H1 bw d1 x s1 g1 r1 o1=>by
 cases r1;rcases o1.ite with ⟨e,o2⟩|⟨e,o2⟩
 subst e;exact xD ⟨G,F1,bw,g1,o2.mono (fun _ _=>eU.same s1) fun _ _=>dj.same s1⟩;subst e;exact xC ⟨G,F1,bw,g1,o2.mono (fun _ _=>eU.same s1) fun _ _=>dj.same s1⟩
theorem nO{op}(h:PV X EX a fa):PV X EX (.BoolOp op [a] pos) fa:=NO h
theorem ux(ha:PV X EX a fa)(hb:PV X EX (.BoolOp .And (b::rest) pos) fb):PV X EX (.BoolOp .And (a::b::rest) pos) (oG fa fb):=(NI ha hb).le fun σ H Q bF=>dt bF fun G F F1 H1 bw d1 x s1 g1 r1 o1=>by
 cases d1 with
 |bl k=>obtain rfl:=Den.b r1;refine⟨k,rfl,?_⟩;cases k with|true=>exact xD ⟨G,F1,bw,g1,Out.mono o1 (fun _ _=>eU.same s1) fun _ _=>dj.same s1⟩|false=>exact xC (o1 F1 H1 _ s1 g1 (.bl _))
 |_=>exact o1.elim
theorem Kt(ha:PV X EX a fa)(hb:PV X EX (.BoolOp .Or (b::rest) pos) fb):PV X EX (.BoolOp .Or (a::b::rest) pos) (A2 fa fb):=(Sk ha hb).le fun σ H Q bF=>dt bF fun G F F1 H1 bw d1 x s1 g1 r1 o1=>by
 cases d1 with
 |bl k=>obtain rfl:=Den.b r1;refine⟨k,rfl,?_⟩;cases k with|true=>exact xD (o1 F1 H1 _ s1 g1 (.bl _))|false=>exact xC ⟨G,F1,bw,g1,Out.mono o1 (fun _ _=>eU.same s1) fun _ _=>dj.same s1⟩
 |_=>exact o1.elim
variable{es:Wg}{fs:M (List D)}
theorem ax:Am X EX [] (mL []):=fZ.le fun σ H Q bF=>lf bF fun G F ρ g0 o=>o F H [] (aN.refl _) g0 .nil
theorem aj(ha:PV X EX a fa)(hr:Am X EX es (mL fl))(hs:Oa X a es:=by rfl):Am X EX (a::es) (mL (fa::fl)):=(cB ha hr hs).le fun σ H Q bF=>dt bF fun G F F1 H1 bw d1 x s1 g1 r1 o1=>a7 g1 o1 (fun x r q=>q.same s1) fun F2 H2 oQ d2 y s2 g2 r2 o2=>o2 F2 H2 _ (s1.trans s2) g2 (.cons (r1.same s2) r2)
theorem Q1R(h:Bu ds=some d):ds.length<=sizeLine/\d=.tup ds:=by unfold Bu at h;split at h;cases h;exact⟨by rw[Ji];assumption,rfl⟩;cases h
theorem Q13(h:AX ds=some d):ds.length<=sizeLine/\d=.lst ds:=by unfold AX at h;split at h;cases h;exact⟨by rw[Ji];assumption,rfl⟩;cases h
theorem aL{fl:List (M D)}{x1}(h:Am X EX es (mL fl)):PV X EX (.Tuple es x1 pos) (bh fl):=(EN h).le fun σ H Q bF=>lf bF fun G F ρ g0 o=>a7 g0 o (fun x r q=>q) fun F1 H1 bw d1 xs s1 g1 r1 o1=>by obtain⟨d,e,q⟩:=o1.opt;obtain⟨hl,rfl⟩:=Q1R e;refine⟨by rw[aM.length r1];exact hl,fun p hp=>?_⟩;have sF:=bg (o:=.tup xs) (g1.sub.free hp);exact q _ _ _ (s1.trans sF) (g1.laid hp) (.tup (dz.of aO) (aM.same sF r1))
theorem bI(h:Am X EX es (mL fl)):PF X EX (.List es pos) (dB fl):=(NM h).le fun σ H Q bF=>dt bF fun G F F1 H1 bw d1 xs s1 g1 r1 o1=>by obtain⟨d,e,q⟩:=o1.opt;obtain⟨hl,rfl⟩:=Q13 e;refine⟨by rw[aM.length r1];exact hl,fun p hp=>?_⟩;exact q _ _ _ s1 (g1.made hp) ⟨p,rfl,g1.loose hp ⟨xs,aO,r1⟩⟩
variable{x:Str}{p:Pos}{id T:String}{r:OY->Hp->VK->Prop}{g:XW->Rg}
theorem jW(hc:d6 X (.builtin id) r)(hg:Tu (lc X EX) r g)(sy:Gl X x)(hm:X.mg x=none)(hv:bootBuiltins x=some (.builtin id))(ha:Am X EX (e::es) (mL fl))(hn:x≠"__name__" := by decide)(jz:WL x:=by decide)(he:Oa X e es:=by rfl) (jA:Lg X pos es:=by rfl):PV X EX (.Call (.Name x p) (e::es) [] pos) (mF g fl):=
 (jU hc sy hm hv ha hn jz he jA).le fun σ H Q bF=>dt bF fun G F F1 H1 bw d1 xs s1 g1 r1 o1=>by obtain⟨d,e,q⟩:=o1.opt;exact hg G F1 H1 σ bw xs d1 d Q g1 r1 e (eU.same s1 q)
end
section
variable(L:Lc)
def cW(G:Fx)(F:Hp):Xn->aS->Prop:=fun x bQ=>∀F' H' bD c dx,aN F F'->L.Good G F' H' bD bQ->XR L.K L.mg F' H' c dx x->L.EX bD c dx H'
def gH(G:Fx)(F:Hp)(E:Ends):Fl->aS->Prop:=fun k bQ=>match k with|.nx=>∀F' H' bD,aN F F'->L.Good G F' H' bD bQ->E.nx bD H'|.bk=>∀F' H' bD,aN F F'->L.Good G F' H' bD bQ->E.bk bD H'|.ct=>∀F' H' bD,aN F F'->L.Good G F' H' bD bQ->E.ct bD H'|.rt d=>∀F' H' bD v,aN F F'->L.Good G F' H' bD bQ->Den L.K L.mg F' v d->E.rt v H'
def zI(f:M Fl):TS:=fun E σ H=>∃G F ρ,L.Good G F H σ ρ/\Out (f ρ) (gH L G F E) (cW L G F)
def Q28(js:Ue)(g:D->M Unit):TG:=fun v σ H Q=>∃G F ρ d,L.Good G F H σ ρ/\Den L.K L.mg F v d/\Out (g d ρ) (fun _ bQ=>∀F' H' bD,aN F F'->L.Good G F' H' bD bQ->(∀j,j∉js->bD[j]?=σ[j]?)->Q bD H') (fun _ _=>False)
def FK(G:Fx)(F:Hp)(J:It)(ds:XW):Prop:=∀σ i F' H' ρ,aN F F'->L.Good G F' H' σ ρ->(i<ds.length->J.go i H')/\(i=ds.length->J.stop i H')/\∀x FJ,J.Uz i H' x FJ->∃UH,aN F' UH/\L.Good G UH FJ σ ρ/\∀d,ds[i]?=some d->Den L.K L.mg UH x d
def RI:Rl (List D) It:=fun G F _ _ _ J ds=>FK L G F J ds
end
section
variable{L:Lc}
theorem xF{f:M Fl}{E:Ends}{σ:St}{H:Hp}{C:Prop}(h:zI L f E σ H)(k:∀G F ρ,L.Good G F H σ ρ->Out (f ρ) (gH L G F E) (cW L G F)->C):C:=by obtain⟨G,F,ρ,g0,o⟩:=h;exact k G F ρ g0 o
end
def oh(X:Cx)(EX:XE)(st:Stmt)(f:M Fl):Prop:=PS X st (zI (lc X EX) f)
def mU(X:Cx)(EX:XE)(st:List Stmt)(f:M Fl):Prop:=wM X st (zI (lc X EX) f)
def yy(X:Cx)(EX:XE)(tg:Expr)(js:Ue)(g:D->M Unit):Prop:=PG X tg (Q28 (lc X EX) js g)
def uK(X:Cx)(EX:XE)(tg Ut:Expr)(f:M (List D)):Prop:=PI X tg Ut (lift (lc X EX) (RI (lc X EX)) f)
theorem _root_.L2.PG.le(h:PG X tg t)(k:∀v σ H Q,t' v σ H Q->t v σ H Q):PG X tg t':=fun Ug s σ H v u Q I r q=>h Ug s σ H v u Q I r (k _ _ _ _ q)
theorem _root_.L2.PI.le(h:PI X tg it t)(k:∀σ H Q,t' σ H Q->t σ H Q):PI X tg it t':=fun Ug s σ H R I q=>h Ug s σ H R I (k _ _ _ q)
section
variable{X:Cx}{EX:XE}{st:Stmt}{rest:List Stmt}{e a b c tg:Expr}{fe fa fb:M D}{f g:M Fl}{pos:Pos}
theorem cW.x{L:Lc}{G:Fx}{F:Hp}{σ:St}{x:Xn}{r:aS}(h:cW L G F x r):dj L G F σ x r:=fun F' H' c dx s g q=>h F' H' σ c dx s g q
theorem cW.same{L:Lc}{G:Fx}{F F1:Hp}(e:aN F F1){x:Xn}{r:aS}(h:cW L G F x r):cW L G F1 x r:=fun F' H' bD c dx s g q=>h F' H' bD c dx (e.trans s) g q
theorem gH.same(e:aN F F1)(h:gH L G F E k r):gH L G F1 E k r:=by cases k with|nx=>exact fun F' H' bD s g=>h F' H' bD (e.trans s) g|bk=>exact fun F' H' bD s g=>h F' H' bD (e.trans s) g|ct=>exact fun F' H' bD s g=>h F' H' bD (e.trans s) g|rt d=>exact fun F' H' bD v s g=>h F' H' bD v (e.trans s) g
theorem ah:mU X EX [] aC:=Ij.le fun E σ H bF=>xF bF fun G F ρ g0 o=>o F H σ (aN.refl _) g0
theorem ae(h1:oh X EX st f)(h2:mU X EX rest g):mU X EX (st::rest) (ao f g):=(Q2N h1 h2).le fun E σ H bF=>xF bF fun G F ρ g0 o=>⟨G,F,ρ,g0,o.Pd.mono (fun k r q=>by cases k with|nx=>exact fun F' H' bD s g'=>⟨G,F',r,g',Out.mono q (fun _ _=>gH.same s) fun _ _=>cW.same s⟩|bk=>exact q|ct=>exact q|rt d=>exact q) fun _ _ q=>q⟩
theorem jx{i:Nat}(h:oh X EX st f):oh X EX st (wO i f):=h.le fun E σ H bF=>xF bF fun G F ρ g0 o=>by unfold wO VP.Pd Pj at o;cases q:ρ[i]? with|none=>simp only[q] at o;exact o.elim|some s=>simp only[q] at o;cases s with|no=>exact o.elim|io d=>exact o.elim|sh d=>exact⟨G,F,ρ,g0,o⟩|ow d=>obtain⟨F',s,g1⟩:=Good.fz g0 q;exact⟨G,F',_,g1,Out.mono o (fun _ _=>gH.same s) fun _ _=>cW.same s⟩
theorem mM(he:PV X EX e fe)(hs:swapsWith e none pos.line X.env=pure false:=by rfl):oh X EX (.Expr e pos) (sR fe):=(uu he hs).le fun E σ H bF=>xF bF fun G F ρ g0 o=>a7 g0 o (fun x r q=>q.x) fun F1 H1 bw d1 x s1 g1 r1 o1=>o1 F1 H1 σ s1 g1
theorem aw(he:PV X EX e fe):oh X EX (.Return (some e) pos) (aF fe):=(NY he).le fun E σ H bF=>xF bF fun G F ρ g0 o=>a7 g0 o (fun x r q=>q.x) fun F1 H1 bw d1 x s1 g1 r1 o1=>o1 F1 H1 σ x s1 g1 r1
theorem aE(hc:PB X EX c f1)(ha:mU X EX sa f)(hb:mU X EX sb g):oh X EX (.If c sa sb pos) (bP f1 f g):=(Su hc ha hb).le fun E σ H bF=>xF bF fun G F ρ g0 o=>a7 g0 o (fun x r q=>q.x) fun F1 H1 bw d1 x s1 g1 r1 o1=>by
 cases r1;rcases o1.ite with ⟨e,o2⟩|⟨e,o2⟩
 subst e;exact xD ⟨G,F1,bw,g1,o2.mono (fun _ _=>gH.same s1) fun _ _=>cW.same s1⟩;subst e;exact xC ⟨G,F1,bw,g1,o2.mono (fun _ _=>gH.same s1) fun _ _=>cW.same s1⟩
theorem jZ{L:Lc}{G:Fx}{F H:Hp}{σ:St}{ρ:aS}{i:Nat}{d:D}{v:V}{P:Unit->aS->Prop}{E:Xn->aS->Prop}(g0:L.Good G F H σ ρ)(r:Den L.K L.mg F v d)(o:Out (oZ i d ρ) P E) : ∃bQ,L.Good G F H (σ.set i (some v)) bQ/\P () bQ:=by unfold oZ at o;by_cases hf:free ρ[i]?=true;rw[Wr hf] at o;exact⟨_,Good.store (s':=.sh d) g0 hf ⟨v,rfl,r⟩ (fun z=>by cases z),o⟩;rw[Uu hf] at o;exact o.elim
theorem qF{L:Lc}{G:Fx}{F H:Hp}{σ:St}{ρ:aS}{i:Nat}{d:D}{l:Addr}{P:Unit->aS->Prop}{E:Xn->aS->Prop}(g0:L.Good G F H σ ρ)(r:Loose L.K L.mg G F H σ ρ l d)(o:Out (El i d ρ) P E) : ∃bQ,L.Good G F H (σ.set i (some (.ref l))) bQ/\P () bQ:=by unfold El at o;by_cases hf:free ρ[i]?=true;rw[Wr hf] at o;exact⟨_,Good.store (s':=.ow d) g0 hf ⟨l,rfl,r.nF,r.n0,r.ob⟩ (fun _ j s hj ho _=>r.ns j s hj ho),o⟩;rw[Uu hf] at o;exact o.elim
theorem OQ(i:Nat){x:Str}{V6:Pos}(hN:X.N.Nodup)(hi:X.N[i]?=some x)(hx:Loc X.env.scope x)(he:PV X EX e fe)(hs:swapsWith e (some (.Name x V6)) pos.line X.env=pure false:=by rfl)(hf:Si X x:=by exact Ig):oh X EX (.Assign [.Name x V6] e pos) (aP i fe):=
 (EU hN hi hx he hs hf).le fun E σ H bF=>xF bF fun G F ρ g0 o=>a7 g0 o (fun x r q=>q.x) fun F1 H1 bw d1 v s1 g1 r1 o1=>by obtain⟨oQ,g2,q⟩:=jZ g1 r1 o1.Pd;exact q F1 H1 _ s1 g2
theorem OP(i:Nat){x:Str}{V6:Pos}(hN:X.N.Nodup)(hi:X.N[i]?=some x)(hx:Loc X.env.scope x)(he:PF X EX e fe)(hs:swapsWith e (some (.Name x V6)) pos.line X.env=pure false:=by rfl)(hf:Si X x:=by exact Ig):oh X EX (.Assign [.Name x V6] e pos) (fT i fe):=
 (EU hN hi hx he hs hf).le fun E σ H bF=>xF bF fun G F ρ g0 o=>a7 g0 o (fun x r q=>q.x) fun F1 H1 bw d1 v s1 g1 r1 o1=>by obtain⟨l,rfl,r1⟩:=r1;obtain⟨oQ,g2,q⟩:=qF g1 r1 o1.Pd;exact q F1 H1 _ s1 g2
theorem Jp(i:Nat)(hN:X.N.Nodup)(hi:X.N[i]?=some x)(hx:Loc X.env.scope x)(hf:Si X x:=by exact Ig):yy X EX (.Name x pos) [i] (aD i):=(zW hN hi hx hf).le fun v σ H Q zz=>by obtain⟨G,F,ρ,d,g0,r,o⟩:=zz;obtain⟨bQ,g1,q⟩:=jZ g0 r o;exact q F H _ (aN.refl _) g1 fun j hj=>HB (fun e=>hj (by simp[e]))
def Mo(L:Lc)(is:Ue):JB:=fun vs σ H Q=>∃G F ρ ds,L.Good G F H σ ρ/\aM L.K L.mg F vs ds/\Out (rf is ds ρ) (fun _ bQ=>∀F' H' bD,aN F F'->L.Good G F' H' bD bQ->(∀j,j∉is->bD[j]?=σ[j]?)->Q bD H') (fun _ _=>False)
def wY(X:Cx)(EX:XE)(ts:Wg)(is:Ue):Prop:=FL X ts (Mo (lc X EX) is)
theorem _root_.L2.FL.le(h:FL X ts t)(k:∀v σ H Q,t' v σ H Q->t v σ H Q):FL X ts t':=fun Ug s σ H v u Q I r q=>h Ug s σ H v u Q I r (k _ _ _ _ q)
theorem dw:wY X EX [] []:=L2.FL.le Q2Z fun vs σ H Q zz=>by obtain⟨G,F,ρ,ds,g0,r,o⟩:=zz;cases r with|nil=>exact⟨rfl,o F H σ (aN.refl _) g0 fun _ _=>rfl⟩|cons h t=>exact o.elim
theorem FE(i:Nat){is:Ue}{x:Str}{es:Wg}(hN:X.N.Nodup)(hi:X.N[i]?=some x)(hx:Loc X.env.scope x)(h2:wY X EX es is)(hf:Si X x:=by exact Ig) (hs:(assignEach (.Name x pos::es) X.env).map (·.2)=assign (.Name x pos) X.env::(assignEach es X.env).map (·.2):=by rfl):wY X EX (.Name x pos::es) (i::is):=
 L2.FL.le (EO (zW hN hi hx hf) h2 hs) fun vs σ H Q zz=>by obtain⟨G,F,ρ,ds,g0,r,o⟩:=zz;cases r with|nil=>exact o.elim|cons h t=>refine⟨_,_,rfl,?_⟩;obtain⟨bQ,g1,q⟩:=jZ g0 h o.Pd;exact⟨G,F,bQ,_,g1,t,Out.mono q (fun _ r z F' H' bD s g hj=>z F' H' bD s g fun j hn=>by rw[hj j fun m=>hn (Uq _ m),HB (fun e=>hn (by simp[e]))]) fun _ _ z=>z⟩
theorem fF{es:Wg}{k:Nat}{is:Ue}(hc:X.calm=true)(h:wY X EX es is)(hn:(assignEach es X.env).length=is.length:=by rfl) (jB:(assignEach es X.env).findIdx? (·.1)=none:=by rfl):yy X EX (.Tuple es k pos) is (cz is):=
 (NR (n:=is.length) hc h hn jB).le fun v σ H Q zz=>by
  obtain⟨G,F,ρ,d,g0,r,o⟩:=zz;have len:∀{is:Ue}{ds:XW}{ρ:aS}{P:Unit->aS->Prop}{E:Xn->aS->Prop},Out (rf is ds ρ) P E->(∀x r,¬E x r)->ds.length=is.length:=by
   intro is;induction is with
   |nil=>intro ds ρ P E o _;cases ds with|nil=>rfl|cons=>exact o.elim
   |cons i is ih=>intro ds ρ P E o hE;cases ds with|nil=>exact o.elim|cons d ds=>have o':=o.Pd;unfold oZ at o';split at o';simp[ih o' hE];exact o'.elim
  cases d with|tup ds=>obtain⟨_,_,rfl,h1,h2⟩:=Den.t r;exact⟨_,_,rfl,dz.same h1 g0.sub,by rw[aM.length h2];exact len o fun _ _ z=>z,G,F,ρ,ds,g0,h2,o⟩|_=>exact o.elim
theorem dH:∀d r x r',aD i d r≠.exc x r':=fun d r x r' h=>by unfold aD oZ at h;split at h<;>cases h
theorem Dn:∀{is:Ue}{ds:XW}{r:aS}{x:Xn}{r':aS},rf is ds r≠.exc x r'|[],[],_,_,_,h=>by cases h|[],_::_,_,_,_,h=>by cases h|_::_,[],_,_,_,h=>by cases h|i::is,d::ds,r,x,r',h=>by simp only[rf,VP.Pd,oZ] at h;split at h;rename_i a r2 q;exact Dn h;rename_i x2 r2 q;split at q<;>cases q;cases h
theorem Dp:∀d r x r',cz is d r≠.exc x r':=fun d r x r' h=>by unfold cz at h;cases d with|tup ds=>exact Dn h|_=>cases h
theorem OO(hp:PassesOwn (model X.prog X.w) X.A X.env X.xe)(hc:X.calm=true)(hi:uK X EX tg Ut it)(hg:yy X EX tg js gf)(hb:mU X EX body f)(tV:∀d r x r',gf d r≠.exc x r') (hs:∀x,foldedSetIterable Ut X.env x=pure x:=by exact Ri):oh X EX (.For tg Ut body [] pos) (fE it gf f):=
 (NX hp hc hi hg hb hs).le fun E σ H bF=>xF bF fun G F ρ g0 o=>a7 g0 o (fun x r q=>q.x) fun F1 H1 bw ds J s1 g1 r1 o1=>by
  refine⟨fun i m σ H=>m=ds.length-i/\i<=ds.length/\∃F' bQ,aN F1 F'/\(lc X EX).Good G F' H σ bQ/\Out (loop gf f (ds.drop i) bQ) (gH (lc X EX) G F E) (cW (lc X EX) G F),⟨ds.length,Ro,ER _,F1,bw,aN.refl _,g1,by simpa using o1⟩,?_⟩;rintro i m UE H2 ⟨rfl,hi,F2,oQ,s2,g2,o2⟩;obtain⟨t1,t2,t3⟩:=r1 UE i F2 H2 oQ s2 g2;by_cases oB:i<ds.length;refine .inr ⟨t1 oB,fun bD H'=>∃F' bQ,aN F1 F'/\(lc X EX).Good G F' H' bD bQ/\Out (loop gf f (ds.drop (i+1)) bQ) (gH (lc X EX) G F E) (cW (lc X EX) G F),fun bD H' q=>⟨ds.length-(i+1),Pe,rfl,oB,q⟩,fun x H3 y=>?_⟩;obtain⟨F3,s3,g3,r3⟩:=t3 x H3 y;have e:ds.drop i=ds[i]::ds.drop (i+1):=Bv oB;rw[e] at o2;have o3:Out (gf ds[i] oQ) (fun _ bQ=>Out (Pd f (fun k=>match k with|.nx=>loop gf f (ds.drop (i+1))|.ct=>loop gf f (ds.drop (i+1))|.bk=>ret .nx|.rt e=>ret (.rt e)) bQ) (gH (lc X EX) G F E) (cW (lc X EX) G F)) (cW (lc X EX) G F):=Out.Pd o2;refine⟨G,F3,oQ,ds[i],g3,r3 _ (by simp[oB]),?_⟩;cases q:gf ds[i] oQ with|no=>rw[q] at o3;exact o3.elim|exc x r=>exact absurd q (tV _ _ _ _)|ok u Ym=>rw[q] at o3;intro F4 H4 Jw s4 g4 _;refine⟨G,F4,Ym,g4,(Out.Pd o3).mono (fun k r z=>?_) fun _ _ z=>z.same ((s1.trans s2).trans (s3.trans s4))⟩;cases k with|nx=>exact fun F' H' bD s g'=>⟨F',r,s2.trans (s3.trans (s4.trans s)),g',z⟩|ct=>exact fun F' H' bD s g'=>⟨F',r,s2.trans (s3.trans (s4.trans s)),g',z⟩|bk=>exact fun F' H' bD s g'=>z F' H' bD ((s1.trans s2).trans (s3.trans (s4.trans s))) g'|rt d=>exact fun F' H' bD v s g'=>z F' H' bD v ((s1.trans s2).trans (s3.trans (s4.trans s))) g'
  have e:i=ds.length:=Pe;subst e;refine .inl ⟨t2 rfl,?_⟩;rw[List.drop_length] at o2;exact o2 F2 H2 UE (s1.trans s2) g2
end
section
variable(K:Frag)(mg:MG)
def jE(F H:Hp):Ur->OY->XW->Prop|[],[],[]=>True|false::bs,v::vs,d::ds=>Den K mg F v d/\jE F H bs vs ds|true::bs,v::vs,d::ds=>(∃l,v=.ref l/\F l=none/\eT K mg F H l d)/\jE F H bs vs ds|_,_,_=>False
def wU(F H:Hp):XU->XW->Prop|[],[]=>True|l::ls,d::ds=>(F l=none/\eT K mg F H l d)/\wU F H ls ds|_,_=>False
end
def dO:Nat->Ur->OY->List (Nat×Addr)|i,true::bs,.ref l::vs=>(i,l)::dO (i+1) bs vs|i,_::bs,_::vs=>dO (i+1) bs vs|_,_,_=>[]
def qo(fl:Ur)(vs:OY):XU:=(dO 0 fl vs).map (·.2)
structure After(K:Frag)(mg:MG)(F H F' H':Hp)(ls:XU)(cK:XW):Prop where
 sF:aN F F'
 sub:aN F' H'
 old:∀a o,H a=some o->a∉ls->H' a=some o
 new:∀a o,F' a=some o->F a=some o\/H a=none
 cK:wU K mg F' H' ls cK
def ph(K:Frag)(mg:MG)(fl:Ur)(f:Fn):Sp:=fun vs H Q E=>vs.length=fl.length/\∃F ds,aN F H/\jE K mg F H fl vs ds/\(qo fl vs).Nodup/\match f ds with|.ok d cK=>∀F' H' v,After K mg F H F' H' (qo fl vs) cK->Den K mg F' v d->Q v H'|.exc x cK=>∀F' H' c dx,After K mg F H F' H' (qo fl vs) cK->XR K mg F' H' c dx x->E c dx H'|.no=>False
section
variable{K:Frag}{mg:MG}{F H:Hp}
theorem t6:∀{i0:Nat}{fl:Ur}{vs:OY}{i:Nat}{a:Addr},(i,a)∈dO i0 fl vs->i0<=i/\vs[i-i0]?=some (.ref a)/\fl[i-i0]?=some true:=by
 intro i0 fl;induction fl generalizing i0 with
 |nil=>intro vs i a h;cases vs<;>simp[dO] at h|cons b bs ih=>
  intro vs i a h;cases vs with
  |nil=>cases b<;>simp[dO] at h|cons v vs=>
   have step:(i,a)∈dO (i0+1) bs vs->i0<=i/\(v::vs)[i-i0]?=some (.ref a)/\(b::bs)[i-i0]?=some true:=fun h=>by obtain⟨h1,h2,h3⟩:=ih h;have e:i-i0=(i-(i0+1))+1:=Qt;rw[e];exact⟨Qt,by simpa using h2,by simpa using h3⟩
   cases b with
   |false=>cases v<;>exact step (by simpa[dO] using h)|true=>
    cases v with
    |ref l=>rcases List.mem_cons.mp (show (i,a)∈(i0,l)::dO (i0+1) bs vs from h) with e|h;cases e;simp;exact step h
    |_=>exact step (by simpa[dO] using h)
theorem qp:∀{i0:Nat}{fl:Ur}{vs:OY}{k:Nat}{a:Addr},fl[k]?=some true->vs[k]?=some (.ref a)->(i0+k,a)∈dO i0 fl vs:=by intro i0 fl;induction fl generalizing i0 with|nil=>intro vs k a h;simp at h|cons b bs ih=>intro vs k a h1 h2;cases vs with|nil=>simp at h2|cons v vs=>cases k with|zero=>simp at h1 h2;subst h1 h2;simp[dO]|succ k=>have q:=ih (i0:=i0+1) (vs:=vs) (k:=k) (a:=a) (by simpa using h1) (by simpa using h2);have e:i0+(k+1)=i0+1+k:=Qt;rw[e];cases b with|false=>cases v<;>simpa[dO] using q|true=>cases v<;>simp[dO,q]
theorem jE.get:∀{fl:Ur}{vs:OY}{ds:XW},jE K mg F H fl vs ds->∀(k:Nat)(b:Bool)(v:V)(d:D),fl[k]?=some b->vs[k]?=some v->ds[k]?=some d->(b=false->Den K mg F v d)/\(b=true->∃l,v=.ref l/\F l=none/\eT K mg F H l d):=by
 intro fl;induction fl with
 |nil=>intro vs ds h k b v d h1;simp at h1|cons b bs ih=>
  intro vs ds h k b' v d h1 h2 h3;cases vs with
  |nil=>simp at h2|cons w vs=>cases ds with
   |nil=>simp at h3|cons e ds=>
    cases k with
    |zero=>simp at h1 h2 h3;subst h1 h2 h3;cases b with|false=>exact⟨fun _=>h.1,fun z=>(by cases z)⟩|true=>exact⟨fun z=>(by cases z),fun _=>h.1⟩
    |succ k=>
     have h':jE K mg F H bs vs ds:=by cases b<;>exact h.2
     exact ih h' k b' v d (by simpa using h1) (by simpa using h2) (by simpa using h3)
theorem jE.len:∀{fl:Ur}{vs:OY}{ds:XW},jE K mg F H fl vs ds->vs.length=fl.length/\ds.length=fl.length:=by
 intro fl;induction fl with
 |nil=>intro vs ds h;cases vs<;>cases ds<;>first|exact⟨rfl,rfl⟩|exact(show False from h).elim
 |cons b bs ih=>
  intro vs ds h;cases vs with
  |nil=>cases b<;>cases ds<;>exact(show False from h).elim|cons w vs=>cases ds with
   |nil=>cases b<;>exact(show False from h).elim|cons e ds=>
    have h':jE K mg F H bs vs ds:=by cases b<;>exact h.2
    obtain⟨h1,h2⟩:=ih h';exact⟨by simp[h1],by simp[h2]⟩
theorem qP:∀{n:Nat}{fl:Ur}{ds:XW},fl.length=ds.length->∀(i:Nat)(s:Sl),(dc n fl ds)[i]?=some s->(i<fl.length/\∃b d,fl[i]?=some b/\ds[i]?=some d/\s=(if b then .io d else .sh d))\/(fl.length<=i/\s=.no):=by
 intro n fl;induction fl generalizing n with
 |nil=>intro ds hl i s h;cases ds with|nil=>refine .inr ⟨ER _,?_⟩;simp only[dc] at h;rw[G1] at h;split at h;exact(OH h).symm;cases h|cons=>simp at hl
 |cons b bs ih=>
  intro ds hl i s h;cases ds with
  |nil=>simp at hl|cons d ds=>
   simp only[dc] at h;cases i with
   |zero=>simp at h;exact .inl ⟨Ro,b,d,rfl,rfl,h.symm⟩|succ i=>
    rcases ih (by simpa using hl) i s (by simpa using h) with ⟨h1,b',d',h2,h3,h4⟩|⟨h1,h2⟩
    exact .inl ⟨by simp;lia,b',d',by simpa using h2,by simpa using h3,h4⟩;exact .inr ⟨by simp;lia,h2⟩
theorem yh:∀{n:Nat}{fl:Ur}{ds:XW},fl.length=ds.length->fl.length<=n->(dc n fl ds).length=n:=by
 intro n fl;induction fl generalizing n with
 |nil=>intro ds hl hn;cases ds with|nil=>simp[dc]|cons=>simp at hl
 |cons b bs ih=>intro ds hl hn;cases ds with|nil=>simp at hl|cons d ds=>simp only[dc,List.length_cons];rw[ih (by simpa using hl) (by simp at hn;lia)];simp at hn;lia
theorem sX{N:Ph}{vs:OY}{i:Nat}{v:V}(h:vs[i]?=some v):(start N vs)[i]?=some (some v):=by have hi:i<vs.length:=(List.getElem?_eq_some_iff.mp h).1;unfold L2.start;rw[Lh (by simpa using hi),LM,h];rfl
theorem xq(hs:aN F H)(ha:jE K mg F H fl vs ds)(hd:(qo fl vs).Nodup)(hn:fl.length<=N.length) : Good K mg ⟨H,F,dO 0 fl vs⟩ F H (start N vs) (dc N.length fl ds):=by
 obtain⟨l1,l2⟩:=ha.len;have at_:∀{i:Nat}{a:Addr},(i,a)∈dO 0 fl vs->∃d,F a=none/\eT K mg F H a d:=fun {i a} h=>by
  obtain⟨_,h2,h3⟩:=t6 h;rw[Nat.sub_zero] at h2 h3;have hi:i<ds.length:=by rw[l2,<-l1];exact(List.getElem?_eq_some_iff.mp h2).1
  obtain⟨l,e,q1,q2⟩:=(ha.get i true _ ds[i] h3 h2 (by simp[hi])).2 rfl;cases e;exact⟨_,q1,q2⟩
 have Sg:∀{i:Nat}{s:Sl}{l:Addr},(dc N.length fl ds)[i]?=some s->cw s=true->(start N vs)[i]?=some (some (V.ref l))->(i,l)∈dO 0 fl vs:=fun {i s l} h o e=>by
  rcases qP l2.symm i s h with ⟨h1,b,d,h2,h3,rfl⟩|⟨_,rfl⟩
  cases b with|false=>cases o|true=>have hv:i<vs.length:=Qt;rw[sX (v:=vs[i]) (by simp[hv])] at e;have e':vs[i]=V.ref l:=OH (OH e);have:=qp (i0:=0) (vs:=vs) (k:=i) (a:=l) h2 (by rw[<-e'];simp[hv]);rwa [Gi] at this
  cases o
 exact {
  sF:=aN.refl _
  sub:=hs
  old:=fun a o e _=>e
  new:=fun a o e=>.inl e
  len:=by
   rw[yh l2.symm hn];unfold L2.start;rw[En,uG,List.length_replicate]
   lia
  slot:=fun i s h=>by
   rcases qP l2.symm i s h with ⟨h1,b,d,h2,h3,rfl⟩|⟨_,rfl⟩
   have hv:i<vs.length:=Qt;have q:=ha.get i b vs[i] d h2 (by simp[hv]) h3;rw[sX (v:=vs[i]) (by simp[hv])];cases b with|false=>exact⟨_,rfl,q.1 rfl⟩|true=>obtain⟨l,e,q1,q2⟩:=q.2 rfl;refine⟨l,by rw[e];rfl,?_,q1,q2⟩;have:=qp (i0:=0) (vs:=vs) (k:=i) (a:=l) h2 (by rw[<-e];simp[hv]);rwa [Gi] at this
   trivial
  apart:=fun i j l s t h1 h2 o1 o2 e1 e2=>by
   have m1:=Sg h1 o1 e1;have m2:=Sg h2 o2 e2;obtain⟨a,ha,ea⟩:=List.mem_iff_getElem.mp m1;obtain⟨b,hb,eb⟩:=List.mem_iff_getElem.mp m2;have QG:a=b:=by refine(AU hd (i:=a) (j:=b) (h₀:=by simpa[qo] using ha) (h₁:=by simpa[qo] using hb)).mp ?_;simp[qo,ea,eb]
   subst QG;rw[ea] at eb;cases eb;rfl
  oE:=fun i a h=>by obtain⟨d,q1,q2⟩:=at_ h;exact⟨q2.has,q1,q2.has⟩
  oX:=fun i a b h1 h2=>by obtain⟨_,q1,_⟩:=t6 h1;obtain⟨_,q2,_⟩:=t6 h2;rw[q1] at q2;cases q2;rfl}
theorem DS(g:Good K mg G F H σ ρ)(hG:G.io=dO 0 fl vs)(hv:vs.length=fl.length)(h:cu fl ρ=some cK)(hr:∀(k:Nat),fl[k]?=some true->∃a,vs[k]?=some (V.ref a)):wU K mg F H (qo fl vs) cK:=by
 have gen:∀(Lx:Ur)(k:Nat)(wJ:OY)(r:aS)(cK:XW),Lx=fl.drop k->wJ=vs.drop k->r=ρ.drop k->cu Lx r=some cK->wU K mg F H ((dO k Lx wJ).map (·.2)) cK:=by
  intro Lx;induction Lx with
  |nil=>
   intro k wJ r cK h1 h2 h3 h4;have:wJ=[]:=by
    rw[h2];apply List.drop_eq_nil_of_le;rw[hv];have:=congrArg List.length h1;simp at this
    lia
   subst this;simp[cu] at h4;subst h4;trivial
  |cons b bs ih=>
   intro k wJ r cK h1 h2 h3 h4;have hk:k<fl.length:=by
    have:=congrArg List.length h1;simp at this
    lia
   have hb:fl[k]?=some b:=by have:=congrArg List.head? h1;simpa using this.symm
   have O3:bs=fl.drop (k+1):=by have:=congrArg List.tail h1;simpa using this
   have XI:k<vs.length:=Qt;have LU:wJ=vs[k]::vs.drop (k+1):=by rw[h2];exact Bv XI
   subst LU;cases r with
   |nil=>cases b<;>simp[cu] at h4|cons s r=>
    have hrk:k<ρ.length:=by
     have:=congrArg List.length h3;simp at this
     lia
    have LS:ρ[k]?=some s:=by have:=congrArg List.head? h3;simpa using this.symm
    have Kb:r=ρ.drop (k+1):=by have:=congrArg List.tail h3;simpa using this
    cases b with
    |false=>have q:=ih (k+1) (vs.drop (k+1)) r cK O3 rfl Kb (by simpa[cu] using h4);cases e:vs[k]<;>simpa[dO,e] using q|true=>
     obtain⟨a,ha⟩:=hr k hb;have e:vs[k]=.ref a:=by
      have:vs[k]?=some vs[k]:=by simp[XI]
      rw[this] at ha;exact OH ha
     rw[e];cases s with
     |io d=>
      simp only[cu] at h4;cases q:cu bs r with
      |none=>rw[q] at h4;cases h4|some Rh=>
       rw[q] at h4;have h5:d::Rh=cK:=OH h4;subst h5;obtain⟨l,z1,z2,z3,z4⟩:=g.slot k _ LS;have m:(k,a)∈G.io:=by rw[hG];have:=qp (i0:=0) (vs:=vs) (k:=k) (a:=a) hb ha;rwa [Gi] at this
       have:l=a:=g.oX k l a z2 m;subst this;exact⟨⟨z3,z4⟩,ih (k+1) (vs.drop (k+1)) r Rh O3 rfl Kb q⟩
     |_=>simp[cu] at h4
 exact gen fl 0 vs ρ cK Ro Ro Ro h
end
section
variable{P:Program}{w:World}{K:Frag}{mg:MG}{base:Heap}
theorem Q1U(hp:N.take ps.length=ps)(hl:fl.length=ps.length)(h:ph K mg fl (defn N.length fl body) vs H Q E) : zI ⟨K,mg,fun _=>E⟩ body {nx:=fun _ H'=>Q .bE H',rt:=Q} (start N vs) H:=by
 obtain⟨hv,F,ds,hs,ha,hd,h⟩:=h;have Zk:fl.length<=N.length:=by
  have:=congrArg List.length hp;rw[CQ] at this
  lia
 have g0:=xq (N:=N) hs ha hd Zk;have Za:∀(k:Nat),fl[k]?=some true->∃a,vs[k]?=some (V.ref a):=fun k q=>by have hk:k<fl.length:=(List.getElem?_eq_some_iff.mp q).1;obtain⟨l1,l2⟩:=ha.len;have Xx:k<vs.length:=Qt;have Zd:k<ds.length:=Qt;obtain⟨l,e,_⟩:=(ha.get k true vs[k] ds[k] q (by simp[Xx]) (by simp[Zd])).2 rfl;exact⟨l,by rw[<-e];simp[Xx]⟩
 refine⟨_,F,_,g0,?_⟩;unfold defn at h;rw[Wr ha.len.2] at h;have UT:∀{F' H':Hp}{bD:St}{bQ:aS}{cK:XW},aN F F'->Good K mg ⟨H,F,dO 0 fl vs⟩ F' H' bD bQ->cu fl bQ=some cK->After K mg F H F' H' (qo fl vs) cK:=fun {F' H' bD bQ cK} s g q=>⟨s,g.sub,fun a o e n=>g.old a o e fun i z=>n (List.mem_map.mpr ⟨_,z,rfl⟩),g.new,DS g rfl hv q Za⟩;generalize body (dc N.length fl ds)=R at h;cases R with
  |no=>exact h|exc z bQ=>cases q:cu fl bQ with|none=>simp only[q] at h|some cK=>simp only[q] at h;exact fun F' H' bD c dx s g r=>h F' H' c dx (UT s g q) r
  |ok Lx bQ=>
   cases Lx with
   |bk=>exact h.elim|ct=>exact h.elim|nx=>cases q:cu fl bQ with|none=>simp only[q] at h|some cK=>simp only[q] at h;exact fun F' H' bD s g=>h F' H' .bE (UT s g q) .bE
   |rt d=>cases q:cu fl bQ with|none=>simp only[q] at h|some cK=>simp only[q] at h;exact fun F' H' bD v s g r=>h F' H' v (UT s g q) r
theorem Dk{x TN:Str}{st:Stmt}{f:Addr}{fd:FuncData}{N ps:Ph}{k:Nat}{fl:Ur}{body:M Fl}(Fu:Gb K x TN st f fd)(S:d7 N ps (aT st))(hl:fl.length=ps.length)
  (jQ:∀(iR:Value)(A:Around)(outer:List Env)(s:Shared)(H:Hp)(E:XK),cH k (A.deeper (envOfC TN (aT st) s.heap.objs.size f iR))->mU (q9 pO P w K mg base N TN (aT st) f iR A outer s H E).Km (fun _=>E) (bU st) body) :
  dC P w K mg base pO (k+1) f fd ps (ph K mg fl (defn N.length fl body)):=by
 refine Fu.ok S (fun vs H Q E h=>by rw[h.1,hl]) fun iR A outer s H vs Q E hr h=>?_;exact⟨_,jQ iR A outer s H E hr,Q1U S.pre hl h⟩
end
def E8(d:D):Sl->Sl|.ow _=>.ow d|.io _=>.io d|s=>s
theorem qK(j:Nat)(d:D)(r:aS)(i:Nat):(cL j d r)[i]?=if i=j then(r[i]?).map (E8 d) else r[i]?:=by unfold cL;cases q:r[j]? with|none=>dsimp only;split;rename_i e;subst e;rw[q];rfl;rfl|some s=>have hj:j<r.length:=(List.getElem?_eq_some_iff.mp q).1;cases s with|no=>dsimp only;split;rename_i e;subst e;rw[q];rfl;rfl|sh e=>dsimp only;split;rename_i e;subst e;rw[q];rfl;rfl|ow e=>dsimp only;split;rename_i e;subst e;rw[MH hj,q];rfl;rename_i e;rw[HB (Ry e)]|io e=>dsimp only;split;rename_i e;subst e;rw[MH hj,q];rfl;rename_i e;rw[HB (Ry e)]
theorem Q1c(j:Nat)(d:D)(r:aS):(cL j d r).length=r.length:=by unfold cL;split<;>simp
theorem qJ:∀(js:Ue)(ds:XW)(r:aS),(putAll js ds r).length=r.length|[],_,_=>rfl|_::_,[],_=>rfl|j::js,d::ds,r=>by show (putAll js ds (cL j d r)).length=_;rw[qJ,Q1c]
theorem ji:∀{js:Ue}{ds:XW}{r:aS}{i:Nat},i∉js->(putAll js ds r)[i]?=r[i]?|[],_,_,_,_=>rfl|_::_,[],_,_,_=>rfl|j::js,d::ds,r,i,h=>by show (putAll js ds (cL j d r))[i]?=_;rw[ji (fun z=>h (Uq _ z)),qK,Uu (fun e=>h (by rw[e];exact Bl))]
theorem sN:∀{js:Ue}{ds:XW}{r:aS}{k i:Nat}{d:D},js.Nodup->js[k]?=some i->ds[k]?=some d->(putAll js ds r)[i]?=(r[i]?).map (E8 d)
|[],_,_,_,_,_,_,h,_=>by simp at h|_::_,[],_,_,_,_,_,_,h=>by simp at h|j::js,e::ds,r,0,i,d,nd,h1,h2=>by simp at h1 h2;subst h1 h2;show (putAll js ds (cL j e r))[j]?=_;rw[ji (List.nodup_cons.mp nd).1,qK,Wr rfl]|j::js,e::ds,r,k+1,i,d,nd,h1,h2=>by
 have Xi:js[k]?=some i:=by simpa using h1
 have ne:i≠j:=fun z=>(List.nodup_cons.mp nd).1 (by rw[<-z];exact Ie Xi);show (putAll js ds (cL j e r))[i]?=_;rw[sN (List.nodup_cons.mp nd).2 Xi (by simpa using h2),qK,Uu ne]
section
variable{K:Frag}{mg:MG}
theorem wU.get:∀{F H:Hp}{ls:XU}{ds:XW},wU K mg F H ls ds->ls.length=ds.length/\∀(k:Nat)(l:Addr)(d:D),ls[k]?=some l->ds[k]?=some d->F l=none/\eT K mg F H l d|_,_,[],[],_=>⟨rfl,fun k l d h=>by simp at h⟩|_,_,[],_::_,h=>(show False from h).elim|_,_,_::_,[],h=>(show False from h).elim|F,H,l::ls,d::ds,h=>by obtain⟨h1,h2⟩:=wU.get (F:=F) (H:=H) (ls:=ls) (ds:=ds) h.2;refine⟨by simp[h1],fun k l' d' e1 e2=>?_⟩;cases k with|zero=>simp at e1 e2;subst e1 e2;exact h.1|succ k=>exact h2 k l' d' (by simpa using e1) (by simpa using e2)
theorem Good.called(g:Good K mg G F H σ ρ)(hj:js.Nodup)(hl:js.length=ls.length)(hs:∀(k j:Nat)(l:Addr),js[k]?=some j->ls[k]?=some l->(∃s,ρ[j]?=some s/\cw s=true)/\σ[j]?=some (some (V.ref l))) (a:After K mg F H F' H' ls cK):Good K mg G F' H' σ (putAll js cK ρ):=by
 obtain⟨hi,ig⟩:=a.cK.get;have L9:∀{l:Addr},l∈ls->∃(k j:Nat)(s:Sl),js[k]?=some j/\ls[k]?=some l/\ρ[j]?=some s/\cw s=true/\σ[j]?=some (some (V.ref l)):=fun {l} h=>by
  obtain⟨k,hk,e⟩:=List.mem_iff_getElem.mp h;have e':ls[k]?=some l:=by rw[<-e];simp[hk]
  have zA:k<js.length:=Qt;obtain⟨⟨s,q1,q2⟩,q3⟩:=hs k js[k] l (by simp[zA]) e';exact⟨k,js[k],s,by simp[zA],e',q1,q2,q3⟩
 have X5:∀a' o,F' a'=some o->F a'=some o\/H a'=none:=a.new;have vM:∀{l:Addr},F l=none->(∃o,H l=some o)->F' l=none:=fun {l} h ⟨o,ho⟩=>by cases q:F' l with|none=>rfl|some u=>rcases a.new l u q with z|z;rw[h] at z;cases z;rw[ho] at z;cases z
 exact {
  sF:=g.sF.trans a.sF
  sub:=a.sub
  old:=fun b o e n=>by refine a.old b o (g.old b o e n) fun hb=>?_;obtain⟨k,j,s,q1,q2,q3,q4,q5⟩:=L9 hb;have t:=g.slot j s q3;cases s with|no=>cases q4|sh d=>cases q4|ow d=>obtain⟨l,z1,z2,z3,z4⟩:=t;rw[q5] at z1;cases z1;rw[e] at z3;cases z3|io d=>obtain⟨l,z1,z2,z3,z4⟩:=t;rw[q5] at z1;cases z1;exact n j z2
  new:=fun b o e=>by rcases a.new b o e with z|z;exact g.new b o z;exact .inr (g.Bb z)
  len:=by rw[qJ];exact g.len
  slot:=fun i s h=>by
   by_cases O8:i∈js;obtain⟨k,hk,e⟩:=List.mem_iff_getElem.mp O8;have e':js[k]?=some i:=by rw[<-e];simp[hk]
   have Xw:k<ls.length:=Qt;have Xv:k<cK.length:=Qt;rw[sN hj e' (d:=cK[k]) (by simp[Xv])] at h;obtain⟨⟨s0,q1,q2⟩,q3⟩:=hs k i ls[k] e' (by simp[Xw]);rw[q1] at h;have h':E8 cK[k] s0=s:=OH h;subst h';obtain⟨y1,y2⟩:=ig k ls[k] cK[k] (by simp[Xw]) (by simp[Xv]);have t:=g.slot i s0 q1;cases s0 with|no=>cases q2|sh d=>cases q2|ow d=>obtain⟨l,z1,z2,z3,z4⟩:=t;rw[q3] at z1;cases z1;rw[q3];exact⟨ls[k],rfl,y1,z3,y2⟩|io d=>obtain⟨l,z1,z2,z3,z4⟩:=t;rw[q3] at z1;cases z1;rw[q3];exact⟨ls[k],rfl,z2,y1,y2⟩
   rw[ji O8] at h;refine(g.slot i s h).same a.sF (fun l _ _ f t=>vM f t) fun l o hv ow e=>a.old l o e fun hb=>?_;obtain⟨k,j,s',q1,q2,q3,q4,q5⟩:=L9 hb;have:i=j:=g.apart i j l s s' h q3 ow q4 (join_some hv) q5;subst this;exact O8 (Ie q1)
  apart:=fun i j l s t h1 h2 o1 o2 e1 e2=>by
   have f:∀{i:Nat}{s:Sl},(putAll js cK ρ)[i]?=some s->cw s=true->∃s',ρ[i]?=some s'/\cw s'=true:=fun {i s} h o=>by
    by_cases O8:i∈js;obtain⟨k,hk,e⟩:=List.mem_iff_getElem.mp O8;have e':js[k]?=some i:=by rw[<-e];simp[hk]
    obtain⟨q1,_⟩:=hs k i (ls[k]' Qt) e' (by simp[show k<ls.length by lia]);exact q1;rw[ji O8] at h;exact⟨s,h,o⟩
   obtain⟨s',a1,a2⟩:=f h1 o1;obtain⟨t',b1,b2⟩:=f h2 o2;exact g.apart i j l s' t' a1 b1 a2 b2 e1 e2
  oE:=fun i b h=>by
   obtain⟨⟨o,q1⟩,q2,q3⟩:=g.oE i b h;refine⟨?_,vM q2 ⟨o,q1⟩,q3⟩;by_cases hb:b∈ls;obtain⟨k,j,s,z1,z2,_⟩:=L9 hb;have hk:k<cK.length:=by
    have:=(List.getElem?_eq_some_iff.mp z2).1
    lia
   exact(ig k b cK[k] z2 (by simp[hk])).2.has;exact⟨o,a.old b o q1 hb⟩
  oX:=g.oX}
end
def Jx(L:Lc)(F:Hp)(σ:St):V->AV->Prop|v,.val d=>Den L.K L.mg F v d|v,.io j=>σ[j]?=some (some v)
inductive mT(L:Lc)(F:Hp)(σ:St):OY->List AV->Prop where
 |nil:mT L F σ [] []|cons {v:V} {a:AV} {vs:OY} {as:List AV} (h:Jx L F σ v a) (t:mT L F σ vs as):mT L F σ (v::vs) (a::as)
def RA(L:Lc):Rl (List AV) (List V):=fun _ F _ σ _ vs as=>mT L F σ vs as
theorem Jx.same(e:aN F F')(h:Jx L F σ v a):Jx L F' σ v a:=by cases a with|val d=>exact Den.same e h|io j=>exact h
def yw(X:Cx)(EX:XE)(es:Wg)(as:List VP.Arg):Prop:=PA X es (lift (lc X EX) (RA (lc X EX)) (bS as))
section
variable{X:Cx}{EX:XE}{e a:Expr}{es:Wg}{as:List VP.Arg}{fa:M D}{pos:Pos}
theorem aq:yw X EX [] []:=fZ.le fun σ H Q bF=>lf bF fun G F ρ g0 o=>o F H [] (aN.refl _) g0 .nil
theorem ag(ha:PV X EX a fa)(hr:yw X EX es as)(hs:Oa X a es:=by rfl):yw X EX (a::es) (.val fa::as):=(cB ha hr hs).le fun σ H Q bF=>dt bF fun G F F1 H1 bw d1 x s1 g1 r1 o1=>a7 g1 o1 (fun x r q=>q.same s1) fun F2 H2 oQ d2 y s2 g2 r2 o2=>o2 F2 H2 _ (s1.trans s2) g2 (.cons (Jx.same s2 (a:=.val d1) r1) r2)
theorem aX(j:Nat){x:Str}(hr:yw X EX es as)(hN:X.N[j]?=some x:=by rfl)(hv:yz X.env.scope x:=by exact wg)(hd:WL x:=by decide)(kO:Le x:=by decide) (hs:starEach (.Name x pos::es) X.env=(false,eval (.Name x pos) X.env)::starEach es X.env:=by rfl):yw X EX (.Name x pos::es) (.io j::as):=
 (cB (iw hN hv hd kO) hr hs).le fun σ H Q bF=>lf bF fun G F ρ g0 o=>by
  have o':Out ((if (own ρ[j]?).isSome then Pd (bS as) (fun vs=>ret (.io j::vs)) ρ else .no)) (eU (lc X EX) (RA (lc X EX)) G F σ Q) (dj (lc X EX) G F σ):=o;cases q:ρ[j]? with
  |none=>rw[q] at o';exact o'.elim|some s=>
   rw[q] at o';have hv:∃v,σ[j]?=some (some v):=by have t:=g0.slot j s q;cases s with|no=>exact o'.elim|sh d=>exact o'.elim|ow d=>obtain⟨l,z,_⟩:=t;exact⟨_,join_some z⟩|io d=>obtain⟨l,z,_⟩:=t;exact⟨_,join_some z⟩
   obtain⟨v,hv⟩:=hv;have o2:Out (Pd (bS as) (fun vs=>ret (.io j::vs)) ρ) (eU (lc X EX) (RA (lc X EX)) G F σ Q) (dj (lc X EX) G F σ):=by cases s with|no=>exact o'.elim|sh d=>exact o'.elim|ow d=>exact o'|io d=>exact o'
   refine⟨v,hv,a7 g0 o2 (fun x r q=>q) fun F1 H1 bw d1 x s1 g1 r1 o1=>o1 F1 H1 _ s1 g1 (.cons (show Jx (lc X EX) F1 σ v (.io j) from hv) r1)⟩
theorem K6{L:Lc}{G:Fx}{F H:Hp}{σ:St}{ρ:aS}(g:L.Good G F H σ ρ):∀{vs:OY}{as:List AV}{ds:XW}{fl:Ur},mT L F σ vs as->qU as ρ=some ds->as.map (fun a=>match a with|.val _=>false|.io _=>true)=fl->jE L.K L.mg F H fl vs ds/\∀i0:Nat,(fQ as).length=((dO i0 fl vs).map (·.2)).length/\∀(k j:Nat)(l:Addr),(fQ as)[k]?=some j->((dO i0 fl vs).map (·.2))[k]?=some l->(∃s,ρ[j]?=some s/\cw s=true)/\σ[j]?=some (some (V.ref l)):=by
 intro vs as;induction as generalizing vs with
 |nil=>intro ds fl h1 h2 h3;cases h1;simp[qU] at h2;subst h2 h3;exact⟨trivial,fun i0=>⟨by simp[fQ,dO],fun k j l e=>by simp[fQ] at e⟩⟩|cons a as ih=>
  intro ds fl h1 h2 h3;cases h1 with
  |cons hv ht=>
   rename_i v vs;subst h3;cases a with
   |val d=>
    simp only[qU] at h2;cases q:qU as ρ with
    |none=>rw[q] at h2;cases h2|some BD=>
     rw[q] at h2;have U9:d::BD=ds:=OH h2;subst U9;obtain⟨k1,k2⟩:=ih ht q rfl;refine⟨⟨hv,k1⟩,fun i0=>?_⟩;have e:dO i0 (List.map (fun a=>match a with|.val _=>false|.io _=>true) (.val d::as)) (v::vs)=dO (i0+1) (List.map (fun a=>match a with|.val _=>false|.io _=>true) as) vs:=by cases v<;>rfl
     rw[e];exact k2 (i0+1)
   |io j=>
    simp only[qU] at h2;cases q0:own ρ[j]? with
    |none=>rw[q0] at h2;cases h2|some d=>
     rw[q0] at h2;simp only at h2;cases q:qU as ρ with
     |none=>rw[q] at h2;cases h2|some BD=>
      rw[q] at h2;have U9:d::BD=ds:=OH h2;subst U9;obtain⟨k1,k2⟩:=ih ht q rfl;have FV:σ[j]?=some (some v):=hv;have hl:∃l s,v=.ref l/\ρ[j]?=some s/\cw s=true/\F l=none/\eT L.K L.mg F H l d:=by cases q1:ρ[j]? with|none=>rw[q1] at q0;cases q0|some s=>rw[q1] at q0;have t:=g.slot j s q1;cases s with|no=>cases q0|sh e=>cases q0|ow e=>have Wh:e=d:=OH q0;subst Wh;obtain⟨l,z1,z2,z3,z4⟩:=t;rw[FV] at z1;have WV:v=V.ref l:=OH z1;exact⟨l,_,WV,rfl,rfl,z2,z4⟩|io e=>have Wh:e=d:=OH q0;subst Wh;obtain⟨l,z1,z2,z3,z4⟩:=t;rw[FV] at z1;have WV:v=V.ref l:=OH z1;exact⟨l,_,WV,rfl,rfl,z3,z4⟩
      obtain⟨l,s,rfl,q1,q2,q3,q4⟩:=hl;refine⟨⟨⟨l,rfl,q3,q4⟩,k1⟩,fun i0=>?_⟩;obtain⟨m1,m2⟩:=k2 (i0+1);refine⟨by simpa[fQ,dO] using m1,fun k j' l' e1 e2=>?_⟩;cases k with|zero=>simp[fQ,dO] at e1 e2;subst e1 e2;exact⟨⟨s,q1,q2⟩,FV⟩|succ k=>exact m2 k j' l' (by simpa[fQ] using e1) (by simpa[dO] using e2)
variable{CX:uP}{k:Nat}{fA:Addr}{fd:FuncData}{ps:Ph}{E:XK}{x:Str}{p:Pos}{fl:Ur}{fs:Fn}
theorem Q1p{L:Lc}{G:Fx}{F H:Hp}{σ:St}{ρ:aS}(g:L.Good G F H σ ρ){js:Ue}{ls:XU}(hj:js.Nodup)(hl:js.length=ls.length)(hs:∀(k j:Nat)(l:Addr),js[k]?=some j->ls[k]?=some l->(∃s,ρ[j]?=some s/\cw s=true)/\σ[j]?=some (some (V.ref l))):ls.Nodup:=by
 rw[List.nodup_iff_pairwise_ne,List.pairwise_iff_getElem];intro i j hi QO hij e;have O9:i<js.length:=Qt;have Zb:j<js.length:=Qt;obtain⟨⟨s,a1,a2⟩,a3⟩:=hs i js[i] ls[i] (by simp[O9]) (by simp[hi]);obtain⟨⟨t,b1,b2⟩,b3⟩:=hs j js[j] ls[j] (by simp[Zb]) (by simp[QO]);rw[e] at a3;have:=g.apart js[i] js[j] ls[j] s t a1 b1 a2 b2 a3 b3;have:i=j:=(AU hj).mp this
 lia
theorem tE{L:Lc}{G:Fx}{F H:Hp}{σ:St}{ρ:aS}{vs:OY}{as:List AV}{Q:VK}{P:D->aS->Prop}{Ex:Xn->aS->Prop}(g:L.Good G F H σ ρ)(r:mT L F σ vs as)
  (vG:as.map (fun a=>match a with|.val _=>false|.io _=>true)=fl) (o:Out (oY fs as ρ) P Ex) (hE:∀x r,Ex x r->dj L G F σ x r)
  (hP:∀F' H' bQ d v,aN F F'->L.Good G F' H' σ bQ->Den L.K L.mg F' v d->P d bQ->Q v H'):ph L.K L.mg fl fs vs H Q (L.EX σ):=by
 unfold oY at o;cases q:qU as ρ with
 |none=>rw[q] at o;exact o.elim|some ds=>
  rw[q] at o;dsimp only at o;by_cases nd:(fQ as).Nodup;rw[Wr nd] at o;obtain⟨k1,k2⟩:=K6 g r q vG;obtain⟨k3,k4⟩:=k2 0;refine⟨by rw[k1.len.1],F,ds,g.sub,k1,Q1p g nd k3 k4,?_⟩;cases q2:fs ds with|no=>rw[q2] at o;exact o.elim|ok d cK=>rw[q2] at o;exact fun F' H' v a rd=>hP F' H' _ d v a.sF (Good.called g nd k3 k4 a) rd o|exc xx cK=>rw[q2] at o;exact fun F' H' c dx a rx=>hE _ _ o F' H' c dx a.sF (Good.called g nd k3 k4 a) rx
  rw[Uu nd] at o;exact o.elim
def fM(CX:uP)(X:Cx)(EX:XE):Prop:=∀(Ug:U5)(σ:St)(H:Hp)(s:Shared)(e:Value)(s':Shared),Inv X Ug σ H s->CX X.stack H s (EX σ) e s'->X.xe e s'
theorem pI{Ug:U5}{σ:St}{H:Hp}{s:Shared}{Q:VK}{us:Ul}{vs:OY}{sp:Sp}(F:dC X.prog X.w X.K X.mg X.base CX k fA fd ps sp)(hr:cH k X.A)(hb:Binds X.K fd ps [])(hx:fM CX X EX)(I:Inv X Ug σ H s) (r:Vals vs us) (h:sp vs H Q (EX σ)):wpAny (model X.prog X.w) X.A (call (.ref fA) us) (EP X Ug σ Q) X.xe s:=by
 have hl:us.length=ps.length:=by rw[<-r.length];exact F.len _ _ _ _ h
 have J1:=hb s us I.rk (by simpa using hl);rw[MF] at J1;refine wpAny_call (Ay (F.run X.A X.stack s H ⟨us,[]⟩ us vs Q (EX σ) hr I.Qm J1 r h) fun r s' hq=>?_);cases r with|error e=>exact hx Ug σ H s e s' I hq|ok fl=>cases fl with|ret u=>exact I.after hq|next=>exact False.elim hq|brk=>exact False.elim hq|cont=>exact False.elim hq
theorem dX:∀{as:List VP.Arg}{ρ bQ:aS}{vs:List AV},bS as ρ=.ok vs bQ->vs.map (fun a=>match a with|.val _=>false|.io _=>true)=as.map VP.Arg.isIo
|[],ρ,bQ,vs,h=>by cases h;rfl|.val f::as,ρ,bQ,vs,h=>by
 simp only[bS,VP.Pd] at h;cases q:f ρ with
 |ok d r=>simp only[q] at h;cases q2:bS as r with|ok ws r2=>simp only[q2,VP.ret] at h;cases h;simp[VP.Arg.isIo,dX q2]|exc x r2=>simp only[q2] at h;cases h|no=>simp only[q2] at h;cases h
 |exc x r2=>simp only[q] at h;cases h|no=>simp only[q] at h;cases h
|.io j::as,ρ,bQ,vs,h=>by
 simp only[bS,VP.Pd] at h;split at h;cases q2:bS as ρ with|ok ws r2=>simp only[q2,VP.ret] at h;cases h;simp[VP.Arg.isIo,dX q2]|exc x r2=>simp only[q2] at h;cases h|no=>simp only[q2] at h;cases h
 cases h
theorem Io(F:dC X.prog X.w X.K X.mg X.base CX k fA fd ps (ph X.K X.mg fl fs))(hr:cH k X.A)(hg:Gl X x)(hm:X.mg x=some (.ref fA))(hk:W.keepIn X.K (.ref fA)=true)(hb:Binds X.K fd ps [])(hx:fM CX X EX)
  (ha:yw X EX (e::es) as) (vG:as.map VP.Arg.isIo=fl:=by rfl) (jz:WL x:=by decide) (he:Oa X e es:=by rfl) (jA:Lg X pos es:=by rfl) :
  PV X EX (.Call (.Name x p) (e::es) [] pos) (az fs as):=by
 intro Ug s σ H Q I h;obtain⟨G,F0,ρ,g0,o⟩:=h;refine Qn (lZ I hg hm ?_ jz);refine Bi (h₀:=X.base) I.ok.mod.Mj hk (bT (ha pos Ug s σ H (fun vs H1=>ph X.K X.mg fl fs vs H1 Q (EX σ)) I ⟨G,F0,ρ,g0,?_⟩) fun us s1 ⟨vs,H1,I1,r,q⟩=>⟨I1.rk,?_⟩) he jA;unfold az VP.Pd at o;cases q:bS as ρ with|no=>rw[q] at o;exact o.elim|exc xx bw=>rw[q] at o;exact o|ok av bw=>rw[q] at o;intro F1 H1 vs s1 g1 r1;exact tE (L:=lc X EX) g1 r1 (by rw[dX q];exact vG) o (fun x r q=>q.same s1) fun F' H' bQ d v s' g' rd P=>P F' H' v (s1.trans s') g' rd
 exact pI F hr hb hx I1 r q
theorem qG:fM pO X EX:=fun _ _ _ _ _ _ _ h=>h.elim
end
theorem wV:jn=sizeLine:=sizeLine_eq.symm
section
variable{X:Cx}{EX:XE}{L:Lc}
theorem Dr{C:Int->Int->Prop}{gv:Int->Int->V}{gd:Int->Int->D}{g:D->D->Rg}(hd:∀F i j,Den L.K L.mg F (gv i j) (gd i j))(hg:∀x y d,g x y=some d->∃i j,x=.int i/\y=.int j/\C i j/\d=gd i j):kW L (rI C gv) g:=fun G F H σ ρ x y dx dy d Q g0 rx ry e k=>by obtain⟨i,j,rfl,rfl,hc,rfl⟩:=hg dx dy d e;obtain rfl:=Den.i rx;obtain rfl:=Den.i ry;exact⟨i,j,rfl,rfl,hc,k F H _ (aN.refl _) g0 (hd F i j)⟩
def X9(f:Int->Int->Rg):D->D->Option D|.int i,.int j=>f i j|_,_=>none
theorem je(h:X9 f x y=some d):∃i j,x=.int i/\y=.int j/\f i j=some d:=by
 cases x with
 |int i=>cases y with|int j=>exact⟨i,j,rfl,rfl,h⟩|_=>cases h
 |_=>cases h
theorem xX{C:Int->Int->Prop}[∀i j,Decidable (C i j)]{g:Int->Int->D}{x y d:D}(h:X9 (fun i j=>if C i j then some (g i j) else none) x y=some d):∃i j,x=.int i/\y=.int j/\C i j/\d=g i j:=by obtain⟨i,j,e1,e2,e⟩:=je h;by_cases c:C i j;rw[Wr c] at e;exact⟨i,j,e1,e2,c,(OH e).symm⟩;rw[Uu c] at e;cases e
theorem ni{gv:Int->Int->V}{gd:Int->Int->D}{g:D->D->Rg}(hd:∀F i j,Den L.K L.mg F (gv i j) (gd i j))(hg:∀x y d,g x y=some d->∃i j,x=.int i/\y=.int j/\d=gd i j):kW L (wm gv) g:=fun G F H σ ρ x y dx dy d Q g0 rx ry e k=>by obtain⟨i,j,rfl,rfl,rfl⟩:=hg dx dy d e;obtain rfl:=Den.i rx;obtain rfl:=Den.i ry;exact⟨i,j,rfl,rfl,k F H _ (aN.refl _) g0 (hd F i j)⟩
theorem Qw:kW L (wm fun i j=>.int (i+j)) US:=ni (gd:=fun i j=>.int (i+j)) (fun F i j=>.int _) fun x y d h=>let ⟨i,j,e1,e2,e⟩:=je (f:=fun i j=>some (.int (i+j))) h;⟨i,j,e1,e2,(OH e).symm⟩
theorem eX:kW L (wm fun i j=>.int (i-j)) gU:=ni (gd:=fun i j=>.int (i-j)) (fun F i j=>.int _) fun x y d h=>let ⟨i,j,e1,e2,e⟩:=je (f:=fun i j=>some (.int (i-j))) h;⟨i,j,e1,e2,(OH e).symm⟩
theorem kN:kW L (rI wR fun i j=>.int (i*j)) nG:=Dr (C:=wR) (gd:=fun i j=>.int (i*j)) (fun F i j=>.int _) fun x y d h=>xX (C:=fun i j=>(-(2 ^ 64)<i/\i<2 ^ 64)\/(-(2 ^ 64)<j/\j<2 ^ 64)) (g:=fun i j=>.int (i*j)) h
theorem Dq:kW L (rI KN fun i j=>.int (i / j)) zr:=Dr (C:=KN) (gd:=fun i j=>.int (i / j)) (fun F i j=>.int _) fun x y d h=>xX (C:=fun _ j=>0<j/\j<1073741824) (g:=fun i j=>.int (i / j)) h
theorem qi:kW L (rI (fun _ j=>0<j) fun i j=>.int (i % j)) pe:=Dr (C:=fun _ j=>0<j) (gd:=fun i j=>.int (i % j)) (fun F i j=>.int _) fun x y d h=>xX (C:=fun _ j=>0<j) (g:=fun i j=>.int (i % j)) h
theorem rh:kW L (wm fun i j=>.bl (decide (i<j))) ltI:=ni (gd:=fun i j=>.bl (decide (i<j))) (fun F i j=>.bl _) fun x y d h=>let ⟨i,j,e1,e2,e⟩:=je (f:=fun i j=>some (.bl (decide (i<j)))) h;⟨i,j,e1,e2,(OH e).symm⟩
theorem rg:kW L (wm fun i j=>.bl (decide (i<=j))) qV:=ni (gd:=fun i j=>.bl (decide (i<=j))) (fun F i j=>.bl _) fun x y d h=>let ⟨i,j,e1,e2,e⟩:=je (f:=fun i j=>some (.bl (decide (i<=j)))) h;⟨i,j,e1,e2,(OH e).symm⟩
theorem vC:kW L (wm fun i j=>.bl (decide (j<i))) Dw:=ni (gd:=fun i j=>.bl (decide (j<i))) (fun F i j=>.bl _) fun x y d h=>let ⟨i,j,e1,e2,e⟩:=je (f:=fun i j=>some (.bl (decide (j<i)))) h;⟨i,j,e1,e2,(OH e).symm⟩
theorem Qx:kW L (wm fun i j=>.bl (decide (j<=i))) OZ:=ni (gd:=fun i j=>.bl (decide (j<=i))) (fun F i j=>.bl _) fun x y d h=>let ⟨i,j,e1,e2,e⟩:=je (f:=fun i j=>some (.bl (decide (j<=i)))) h;⟨i,j,e1,e2,(OH e).symm⟩
theorem isNon_den{K:Frag}{mg:MG}{F:Hp}{x:V}{dx:D}(rx:Den K mg F x dx):isNon dx=decide (x=.bE):=by cases rx<;>simp[isNon]
theorem vD:kW L (fun x y H Q=>y=.bE/\Q (.bl (decide (x=.bE))) H) isND:=fun G F H σ ρ x y dx dy d Q g0 rx ry e k=>by unfold isND at e;split at e;rename_i hn;cases e;rw[isNon_den ry] at hn;refine⟨Hg hn,?_⟩;rw[<-isNon_den rx];exact k F H _ (aN.refl _) g0 (.bl _);cases e
theorem kC:W2 L (rU fun i=>.int (-i)) ug:=fun G F H σ ρ x dx d Q g0 rx e k=>by cases dx<;>simp[ug] at e;subst e;rcases rx with rx|⟨l,_,z⟩;obtain rfl:=Den.i rx;exact⟨_,rfl,k F H _ (aN.refl _) g0 (.int _)⟩;exact z.elim
def z7(K:Frag):R2:=fun x y H Q=>∃a b xs ys,x=.ref a/\y=.ref b/\dz K H a xs/\dz K H b ys/\xs.length+ys.length<=sizeLine/\(ys=[]->Q (.ref a) H)/\(xs=[]->Q (.ref b) H)/\(∀p,H p=none->Q (.ref p) (upd H p (.tup (xs++ys))))
theorem Gu{prog:Program}{w:World}{A:Around}{E:RG}{s:Shared}{t b:Addr}{ws:Ul}{Q:RG}(ht:IsTup s.heap t (#[]:Array Value))(hb:IsTup s.heap b ws.toArray)(h1:Q (.ref b) s):wpAny (model prog w) A (binaryOp .Add (.ref t) (.ref b)) Q E s:=by obtain⟨⟨cls,dd,data,sl⟩,ho,hc,n,hd⟩:=id ht;obtain⟨⟨UZ,TU,data2,Pn⟩,LN,zy,n2,hd2⟩:=id hb;simp only at hc hd zy hd2;subst hc hd zy hd2;exact concat_meets ⟨_,ho,rfl⟩ ⟨_,LN,rfl⟩ noFill_tuple_add seq_tuple_add BQ S1 (EW _ _) (tuple_addW0 t b #[] ws.toArray n n2 dd TU sl Pn rfl) ⟨ho,LN,h1⟩
theorem HE:gG X (binaryOp .Add) (z7 X.K):=by intro Ug s σ H x y v u Q I rx ry h;obtain⟨a,b,xs,ys,rfl,rfl,ha,hb,hz,q1,q2,q3⟩:=h;by_cases hx:xs=[];cases rx;cases ry;obtain⟨aI,r1,p1,_⟩:=I.tuple ha;obtain⟨jC,r2,p2,_⟩:=I.tuple hb;have:aI=[]:=r1.mn.mpr hx;subst this;exact Gu p1 p2 ⟨.ref b,H,I,rfl,q2 hx⟩;exact HG Ug s σ H _ _ v u Q I rx ry ⟨a,b,xs,ys,rfl,rfl,ha,hb,hx,hz,q1,fun _=>q3⟩
theorem LC:kW L (z7 L.K) P5:=fun G F H σ ρ x y dx dy d Q g0 rx ry e k=>by
 cases dx with
 |tup xs=>cases dy with|tup ys=>simp only[P5] at e;split at e;rename_i hl;cases e;obtain⟨a,vs,rfl,h1,r1⟩:=Den.t rx;obtain⟨b,ws,rfl,h2,r2⟩:=Den.t ry;refine⟨a,b,vs,ws,rfl,rfl,dz.same h1 g0.sub,dz.same h2 g0.sub,?_,fun z=>?_,fun z=>?_,fun p hp=>?_⟩;rw[r1.length,r2.length,<-wV];exact hl;subst z;cases r2;rw[MF] at k;exact k F H _ (aN.refl _) g0 (.tup h1 r1);subst z;cases r1;exact k F H _ (aN.refl _) g0 (.tup h2 r2);have sF:=bg (o:=.tup (vs++ws)) (g0.sub.free hp);exact k _ _ _ sF (g0.laid hp) (.tup (dz.of aO) (aM.append (aM.same sF r1) (aM.same sF r2)));cases e|_=>cases e
 |_=>cases e
theorem aM.BW{K:Frag}{mg:MG}{F:Hp}{vs:OY}{ds:XW}{i:Int}{d:D}(h:aM K mg F vs ds)(e:zF ds i=some d):∃v,BW vs i=some v/\Den K mg F v d:=by unfold zF at e;unfold L2.BW;rw[h.length];show ∃v,(G5 ds.length i).bind _=_/\_;cases q:G5 ds.length i with|none=>rw[q] at e;cases e|some j=>rw[q] at e;exact h.get e
theorem LD:kW L (Yb L.K) au:=fun G F H σ ρ x y dx dy d Q g0 rx ry e k=>by
 cases dx with
 |tup _=>cases dy with|int _=>obtain rfl:=Den.i ry;obtain⟨_,_,rfl,h1,r1⟩:=Den.t rx;obtain⟨v,e1,e2⟩:=aM.BW r1 e;exact .inr (.inl ⟨_,_,_,v,rfl,rfl,dz.same h1 g0.sub,e1,k F H v (aN.refl _) g0 e2⟩)|_=>cases e
 |lst _=>cases dy with|int _=>obtain rfl:=Den.i ry;obtain⟨_,_,rfl,h1,r1⟩:=Den.l rx;obtain⟨v,e1,e2⟩:=aM.BW r1 e;exact .inl ⟨_,_,_,v,rfl,rfl,cX.same h1 g0.sub,e1,k F H v (aN.refl _) g0 e2⟩|_=>cases e
 |_=>cases e
variable{a b e c:Expr}{fa fb:M D}{pos:Pos}
theorem ay(ha:PV X EX a fa)(hb:PV X EX b fb)(hs:tq b:=by exact Ny):PV X EX (.Subscript a b pos) (m2 au fa fb):=(Kq DY ha hb hs).le (gR LD (fun _ _ _ q=>q) fun _ _ _ q=>q)
theorem mq{L:Lc}{G:Fx}{F H:Hp}{σ:St}{ρ:aS}{j:Nat}(g:L.Good G F H σ ρ)(h:(own ρ[j]?).isSome=true):∃l d,σ[j]?=some (some (V.ref l))/\own ρ[j]?=some d/\eT L.K L.mg F H l d:=by cases q:ρ[j]? with|none=>rw[q] at h;cases h|some t=>rw[q] at h;have sl:=g.slot j t q;cases t with|no=>cases h|sh d=>cases h|ow d=>obtain⟨l,z1,z2,z3,z4⟩:=sl;exact⟨l,d,join_some z1,rfl,z4⟩|io d=>obtain⟨l,z1,z2,z3,z4⟩:=sl;exact⟨l,d,join_some z1,rfl,z4⟩
theorem bf(j:Nat){x:Str}{p:Pos}(hb:PV X EX b fb)(hs:tq b:=by exact Ny)(hN:X.N[j]?=some x:=by rfl)(hv:yz X.env.scope x:=by exact wg)(hd:WL x:=by decide)(kO:Le x:=by decide):PV X EX (.Subscript (.Name x p) b pos) (cf j fb):=by
 refine(Kq DY (iw hN hv hd kO) hb hs).le fun σ H Q bF=>lf bF fun G F ρ g0 o=>?_;unfold cf at o;by_cases ho:(own ρ[j]?).isSome=true;rw[Wr ho] at o;obtain⟨l,d0,FV,_,_⟩:=mq g0 ho;refine⟨_,FV,a7 g0 o (fun x r q=>q) fun F1 H1 bw d1 y s1 g1 r1 o1=>?_⟩;unfold DX at o1;by_cases QV:(own bw[j]?).isSome=true;obtain⟨l',d,T8,QJ,ob⟩:=mq g1 QV;rw[FV] at T8;cases T8;rw[QJ] at o1;obtain⟨d2,e2,q2⟩:=Out.opt o1;cases d with
  |lst ds=>obtain⟨vs,h1,h2⟩:=ob;cases d1 with|int i=>obtain rfl:=Den.i r1;obtain⟨w,e1,e3⟩:=aM.BW h2 e2;exact .inl ⟨_,_,_,w,rfl,rfl,cX.of h1,e1,q2 F1 H1 w s1 g1 e3⟩|_=>exact absurd e2 (by simp[au])
  |hW ks ds=>cases d1<;>exact absurd e2 (by simp[au])|ins c ns ds=>cases d1<;>exact absurd e2 (by simp[au])|_=>exact ob.elim
 cases q:own bw[j]? with|none=>rw[q] at o1;exact o1.elim|some d=>rw[q] at QV;exact absurd rfl QV
 rw[Uu ho] at o;exact o.elim
end
def jK(cells:List (Str×Addr)):List (Str×NameKind)->List (Str×Addr)->List (Str×Addr)
|[],acc=>acc| (x,k)::r,acc=>if k == .free then
  (match cells.lookup x with|some c=>jK cells r ((x,c)::acc)|none=>jK cells r acc)
 else jK cells r acc
theorem lP:∀{names:List (Str×NameKind)}{acc:List (Str×Addr)}{p:Str×Addr},p∈jK cells names acc->p∈acc\/cells.lookup p.1=some p.2
|[],_,_,h=>.inl h| (x,k)::r,acc,p,h=>by
 unfold jK at h;split at h;cases q:cells.lookup x with|none=>rw[q] at h;exact lP h|some c=>rw[q] at h;rcases lP h with h|h;rcases List.mem_cons.mp h with h|h;subst h;exact .inr q;exact .inl h;exact .inr h
 exact lP h
theorem j8:∀{names:List (Str×NameKind)}{acc:List (Str×Addr)}{p:Str×Addr},p∈acc->p∈jK cells names acc
|[],_,_,h=>h| (x,k)::r,acc,p,h=>by
 unfold jK;split;cases q:cells.lookup x with|none=>exact j8 h|some c=>exact j8 (Uq _ h)
 exact j8 h
theorem lO(hc:cells.lookup x=some c):∀{names:List (Str×NameKind)}{acc:List (Str×Addr)},(x,NameKind.free)∈names->(x,c)∈jK cells names acc
| (y,k)::r,acc,h=>by
 unfold jK;rcases List.mem_cons.mp h with h|h;cases h;simp only[beq_self_eq_true,if_true,hc];exact j8 Bl;split;cases q:cells.lookup y with|none=>exact lO hc h|some c'=>exact lO hc h
 exact lO hc h
theorem gN{α:Type}{a:α}:∀{l:List (Str×α)},(x,a)∈l->∃b,l.lookup x=some b
| (y,b)::r,h=>by
 by_cases e:(x == y)=true;exact⟨b,by simp[List.lookup_cons,e]⟩;have e':(x == y)=false:=by simpa using e
 rcases List.mem_cons.mp h with h|h;cases h;simp at e';obtain⟨c,hc⟩:=gN h;exact⟨c,by simp[List.lookup_cons,e',hc]⟩
theorem dW(h:(jK cells names []).lookup x=some c):cells.lookup x=some c:=by rcases lP (GI h) with h|h;cases h;exact h
theorem AA(hc:cells.lookup x=some c)(h:(x,NameKind.free)∈names):(jK cells names []).lookup x=some c:=by obtain⟨b,hb⟩:=gN (lO (acc:=[]) hc h);have:=dW hb;rw[hc] at this;cases this;exact hb
theorem oT(h:∀p∈scope.names,p.2=.free->∃c,env.cells.lookup p.1=some c):closureFor scope env=pure (jK env.cells scope.names []):=by
 have gen:∀(names:List (Str×NameKind))(acc:List (Str×Addr)),(∀p∈names,p.2=.free->∃c,env.cells.lookup p.1=some c)->(forIn names acc fun(x:Str×NameKind) r=>(if x.2 == .free then(do let c <-cellOf env x.1;pure (ForInStep.yield ((x.1,c)::r))) else pure (ForInStep.yield r):Sem _))=pure (jK env.cells names acc):=by
  intro names;induction names with
  |nil=>intro acc _;rfl|cons p r ih=>
   intro acc hp;obtain⟨x,k⟩:=p;rw[List.forIn_cons];unfold jK;by_cases hk:k=.free;subst hk;obtain⟨c,hc⟩:=hp (x,.free) Bl rfl;have e:cellOf env x=pure c:=by unfold cellOf;rw[show env.cells.lookup x=some c from hc]
   simp only[beq_self_eq_true,if_true,e,hc];exact ih _ fun q hq=>hp q (Uq _ hq);have hb:(k == NameKind.free)=false:=by simpa using hk
   simp only[hb,Bool.false_eq_true,if_false];exact ih _ fun q hq=>hp q (Uq _ hq)
 have:=gen scope.names [] h;unfold closureFor;simpa using this
theorem eS:(relabel scope env).names.lookup x=(scope.names.lookup x).map fun k=>if (k == .free&&env.scope.kind == .function&&env.kindOf x == some .cell) then .cell else k:=by
 unfold relabel;generalize scope.names=l;induction l with
 |nil=>rfl|cons p r ih=>
  obtain⟨n,k⟩:=p;simp only[List.map_cons];by_cases hx:(x == n)=true;have e:x=n:=by simpa using hx
  subst e;simp only[List.lookup_cons,beq_self_eq_true,Option.map_some];split<;>simp[List.lookup_cons];have e':(x == n)=false:=by simpa using hx
  have e2:List.lookup x ((n,k)::r)=List.lookup x r:=by simp[List.lookup_cons,e']
  rw[e2,<-ih];split<;>simp[List.lookup_cons,e']
def iW(outer inner:List (Str×NameKind))(N N':Ph):Bool:=
 inner.all (fun p=>p.2 != .cell&&(p.2 != .free||outer.lookup p.1 == some .cell||outer.lookup p.1 == some .free)&&(p.2 != .local||inner.lookup p.1 == some .local)) &&
 decide (N.length<=N'.length)&&(List.range N.length).all (fun i=>match N'[i]? with|some x=>inner.lookup x != some .local&&(inner.lookup x == none||N[i]? == some x)|none=>true)&&(match N'[N'.length-1]? with|some x=>inner.lookup x == none|none=>false)&&decide (N.length+1<=N'.length)
def bJ(X:Cx)(scope:Scope)(C:Addr)(N':Ph)(s:Shared)(H:Hp)(ex:XU):Cx:={X with env:=compEnvC scope (jK X.env.cells scope.names []) C X.env,N:=N',s₀:=s,H₀:=H,outer:=X.stack,ex:=ex,fn:=fun _=>false,pn:=[],xe:=fun _ _=>False}
structure bR(X:Cx)(scope:Scope)(N':Ph):Prop where
 kind:scope.kind=.function
 OX:iW X.env.scope.names scope.names X.N N'=true
section
variable{X:Cx}{scope:Scope}{N':Ph}
theorem bR.free(c:bR X scope N')(hp:p∈scope.names)(hf:p.2=.free):X.env.kindOf p.1=some .cell\/X.env.kindOf p.1=some .free:=by have h:=c.OX;unfold iW at h;simp only[Bool.and_eq_true,List.all_eq_true] at h;have q:=(h.1.1.1.1 p hp).1.2;rw[hf] at q;simp at q;exact q
theorem bR.xQ(c:bR X scope N')(hp:p∈scope.names):p.2≠.cell:=by have h:=c.OX;unfold iW at h;simp only[Bool.and_eq_true,List.all_eq_true] at h;have q:=(h.1.1.1.1 p hp).1.1;simpa using q
theorem bR.names(c:bR X scope N')(hp:p∈scope.names)(hl:p.2=.local):scope.names.lookup p.1=some .local:=by have h:=c.OX;unfold iW at h;simp only[Bool.and_eq_true,List.all_eq_true] at h;have q:=(h.1.1.1.1 p hp).2;rw[hl] at q;simpa using q
theorem bR.len(c:bR X scope N'):X.N.length+1<=N'.length:=by have h:=c.OX;unfold iW at h;simp only[Bool.and_eq_true] at h;exact Hg h.2
theorem bR.acc(c:bR X scope N')(hx:N'[N'.length-1]?=some x):scope.names.lookup x=none:=by have h:=c.OX;unfold iW at h;simp only[Bool.and_eq_true] at h;have q:=h.1.2;rw[hx] at q;simpa using q
theorem bR.at(c:bR X scope N')(hi:i<X.N.length)(hx:N'[i]?=some x):scope.names.lookup x≠some .local/\(scope.names.lookup x=none\/X.N[i]?=some x):=by have h:=c.OX;unfold iW at h;simp only[Bool.and_eq_true,List.all_eq_true] at h;have q:=h.1.1.2 i (List.mem_range.mpr hi);rw[hx] at q;simp only[Bool.and_eq_true,Bool.or_eq_true] at q;refine⟨by simpa using q.1,?_⟩;rcases q.2 with z|z;exact .inl (by simpa using z);exact .inr (by simpa using z)
theorem bR.UY(c:bR X scope N')(ok:X.Ok):closureFor scope X.env=pure (jK X.env.cells scope.names []):=oT fun p hp hf=>ok.has p.1 (c.free hp hf)
theorem bR.look(c:bR X scope N')(ok:X.Ok)(hx:scope.names.lookup x=some .free) : ((relabel scope X.env).names.lookup x=some .cell\/(relabel scope X.env).names.lookup x=some .free)/\(X.env.kindOf x=some .cell\/X.env.kindOf x=some .free)/\∃a,X.env.cells.lookup x=some a/\(jK X.env.cells scope.names []).lookup x=some a:=by have hm:=GI hx;have hk:=c.free hm rfl;obtain⟨a,ha⟩:=ok.has x hk;refine⟨?_,hk,a,ha,AA ha hm⟩;rw[eS,hx];simp only[Option.map_some];split;exact .inl rfl;exact .inr rfl
theorem xg{Ug:U5}{σ:St}{H:Hp}{s:Shared}{fp:XU}{h₁:Heap}{D C:Addr}{tk:Nat}(c:bR X scope N')(I:Inv X Ug σ H s)(hf:∀b∈fp,jy X Ug H b)(AH:∀b∈fp,b<s.heap.objs.size)
  (hD:D=s.heap.objs.size) (hC:C=s.heap.objs.size+1) (old:∀b o,s.heap.get? b=some o->h₁.get? b=some o) (Pc:h₁.Ns C fun _=>none) (hl:h₁.get? D=some {cls:=.type "list",data:=.seq #[] 0}) :
  Inv (bJ X scope C N' s H fp) [] (σ++List.replicate (N'.length-1-σ.length) none++[some (V.ref D)]) (upd H D (.lst [])) {s with heap:=h₁,toks:=tk}:=by
 have Vc:H D=none:=I.cj.fresh (by rw[hD];exact ZS _);have YL:H C=none:=I.cj.fresh (by rw[hC];exact Jh _);have Vb:C≠D:=by rw[hC,hD];exact Ov (By _)
 have Vz:og X.prog X.w (upd H D (.lst [])) h₁:=I.cj.laid old (by rw[hD];exact ZS _) ⟨ER _,[],0,.nil,hl⟩;have K9:∀x a,X.env.cells.lookup x=some a->a<s.heap.objs.size:=fun x a e=>by obtain⟨v,q⟩:=I.cell x a e;exact q.lt
 have ZH:σ.length=X.N.length:=I.len;refine⟨⟨I.ok.mod,?_,I.ok.glob,I.ok.blt,?_,?_,?_,?_,I.ok.hd,I.ok.frames,.inl rfl,?_,I.bs,WH I.ok.FN I.sz,?_,?_,I.stack,I.Ae⟩,rfl,I.bare,Un.laid old (by rw[hD];exact ZS _) Vc,⟨_,Pc,?_⟩,?_,?_,?_,?_,Vz,?_⟩;show (relabel scope X.env).kind=_;exact c.kind;show s.heap.objs.size<=C;rw[hC];exact Jh _;intro x y a h1 h2;exact I.ok.inj x y a (dW h1) (dW h2);intro x hx;have DL:(relabel scope X.env).names.lookup x=some .cell\/(relabel scope X.env).names.lookup x=some .free:=hx;rw[eS] at DL;cases q:scope.names.lookup x with
 |none=>rw[q] at DL;rcases DL with z|z<;>cases z
 |some k=>
  rw[q] at DL;have hk:k=.free:=by have nc:=c.xQ (GI q);simp only[Option.map_some] at DL;split at DL;rename_i hh;simp at hh;exact hh.1.1;rcases DL with z|z;exact absurd (OH z) nc;exact OH z
  subst hk;refine VP.gl fun QQ eQ=>?_;obtain⟨_,_,a,_,z⟩:=c.look I.ok q;subst eQ;exact⟨a,z⟩
 intro x a hx _;exact absurd (show false=true from hx) DV;intro b hb;refine⟨?_,fun x a e=>?_⟩;show b≠C;rw[hC];exact Uh (Ht (AH b hb));exact(hf b hb).2.2.2.2.1 x a (dW e);intro b o e hb;rcases (hf b hb).2.2.2.1 with z|z;exact I.ok.Eu b o e z;exact absurd (Bc (Ta e) (WH I.ok.FN z)) (Sx _);intro b hb YV;rcases List.mem_cons.mp (I.ym b YV) with z|z;exact(hf b hb).2.1 z;exact(hf b hb).2.2.1 z;intro i x v h1 h2 h3;by_cases hi:i<σ.length;rw[Lh (by simp;lia),Lh hi] at h2;obtain⟨n1,n2⟩:=c.at Qt h1;have FP:(relabel scope X.env).names.lookup x=some .local\/(relabel scope X.env).names.lookup x=some .cell\/(relabel scope X.env).names.lookup x=some .free:=h3;rw[eS] at FP;cases q:scope.names.lookup x with
 |none=>rw[q] at FP;rcases FP with z|z|z<;>cases z
 |some k=>
  have hk:k=.free:=by rw[q] at FP n1;have nc:=c.xQ (GI q);simp only[Option.map_some] at FP;split at FP;rename_i hh;simp at hh;exact hh.1.1;rcases FP with z|z|z;exact absurd z n1;exact absurd (OH z) nc;exact OH z
  subst hk;have hN:X.N[i]?=some x:=by rcases n2 with z|z;rw[q] at z;cases z;exact z
  refine VP.gl fun QQ eQ=>?_;obtain⟨k1,k2,a,k3,k4⟩:=c.look I.ok q;subst eQ;obtain⟨m,hm,T8⟩:=I.loc;have Z8:yz X.env.scope x:=k2.elim (fun z=>.inr (.inl z)) fun z=>.inr (.inr z);obtain⟨u,ru,lk⟩:=T8 i x v hN h2 Z8;refine⟨u,ru,.inr ⟨k1,a,k4,?_⟩⟩;rcases lk with ⟨z,_⟩|⟨_,a',z1,z2⟩
  rcases k2 with k2|k2<;>(rw[k2] at z;cases z);rw[k3] at z1;cases z1;obtain⟨ob,y1,y2⟩:=z2;exact⟨ob,old _ _ y1,y2⟩
 by_cases O9:i<N'.length-1;rw[Lh (by simp;lia),HU Qt,G1] at h2;split at h2<;>cases h2;have hi3:i<N'.length:=(List.getElem?_eq_some_iff.mp h1).1;have e:i=N'.length-1:=Qt;rw[e] at h1;have z:=c.acc h1;have FP:(relabel scope X.env).names.lookup x=some .local\/(relabel scope X.env).names.lookup x=some .cell\/(relabel scope X.env).names.lookup x=some .free:=h3;rw[eS,z] at FP;rcases FP with y|y|y<;>cases y;intro x a e;obtain⟨v,ob,y1,y2⟩:=I.cell x a (dW e);exact⟨v,ob,old _ _ y1,y2⟩;show upd H D (.lst []) C=none;rw[aU Vb];exact YL;intro x a e;have e':=dW e;have:a≠D:=by rw[hD];exact Uh (K9 x a e')
 rw[aU this];exact I.jP x a e';intro p hp;exact absurd (show p∈([]:U5) from hp) Ro;show (σ++_++_).length=N'.length;have:=c.len;simp
 lia
def BJ(X:Cx)(EX:XE)(ifs:Wg)(f:M Bool):Prop:=∀(Ug:U5)(s:Shared)(σ:St)(H:Hp)(Q:Bool->Hp->Prop),Inv X Ug σ H s->lift (lc X EX) RB f σ H Q->wpAny (model X.prog X.w) X.A (forIn ifs true fun c r=>if r=true then do let ok <-isTrue c X.env (eval c X.env);pure (ForInStep.yield ok) else pure (ForInStep.yield r)) (TP X Ug σ Q) X.xe s
theorem bO:BJ X EX [] (ret true):=fun Ug s σ H Q I ⟨G,F,ρ,g,o⟩=>wpAny_tests_nil ⟨H,I,o F H true (aN.refl _) g rfl⟩
theorem jh(h:PB X EX c f):BJ X EX [c] f:=fun Ug s σ H Q I q=>wpAny_tests_one (h Ug s σ H Q I q)
theorem Good.take{K:Frag}{mg:MG}{G:Fx}{F H:Hp}{σ:St}{ρ:aS}(g:Good K mg G F H σ ρ)(n:Nat):Good K mg G F H (σ.take n) (ρ.take n) where
 sF:=g.sF
 sub:=g.sub
 old:=g.old
 new:=g.new
 len:=by simp[g.len]
 slot:=fun i s h=>by by_cases hi:i<n;rw[wu hi] at h ⊢;exact g.slot i s h;rw[Gq Qt] at h;cases h
 apart:=fun i j l s t h1 h2 o1 o2 e1 e2=>by by_cases hi:i<n;by_cases hj:j<n;rw[wu hi] at h1 e1;rw[wu hj] at h2 e2;exact g.apart i j l s t h1 h2 o1 o2 e1 e2;rw[Gq Qt] at h2;cases h2;rw[Gq Qt] at h1;cases h1
 oE:=g.oE
 oX:=g.oX
theorem Good.more{K:Frag}{mg:MG}{G:Fx}{F H:Hp}{σ:St}{ρ:aS}{D:Addr}(g:Good K mg G F H σ ρ)(n:Nat)(hD:H D=none):Good K mg G F (upd H D (.lst [])) (σ++List.replicate n none++[some (V.ref D)]) (ρ++List.replicate n .no++[.ow (.lst [])]):=by
 have g1:Good K mg G F (upd H D (.lst [])) σ ρ:=g.made hD;have at_:∀{i:Nat}{s:Sl},(ρ++List.replicate n .no++[.ow (.lst [])])[i]?=some s->(i<ρ.length/\ρ[i]?=some s/\(σ++List.replicate n none++[some (V.ref D)])[i]?=σ[i]?)\/(s=.no)\/(i=ρ.length+n/\s=.ow (.lst [])/\(σ++List.replicate n none++[some (V.ref D)])[i]?=some (some (V.ref D))):=fun {i s} h=>by
  by_cases hi:i<ρ.length;rw[Lh (by simp;lia),Lh hi] at h;exact .inl ⟨hi,h,by rw[Lh (by simp[g.len];lia),Lh (by rw[g.len];exact hi)]⟩;by_cases O9:i<ρ.length+n;rw[Lh (by simp;lia),HU Qt,G1] at h;split at h;exact .inr (.inl (OH h).symm);cases h;rw[HU (by simp;lia)] at h;have e:i=ρ.length+n:=by
   have:=(List.getElem?_eq_some_iff.mp h).1;simp at this
   lia
  subst e;simp at h;refine .inr (.inr ⟨rfl,h.symm,?_⟩);rw[HU (by simp[g.len])];simp[g.len]
 have noD:∀{i:Nat}{s:Sl},ρ[i]?=some s->cw s=true->σ[i]?≠some (some (V.ref D)):=fun {i s} h o e=>by refine VP.gl fun QQ eQ=>?_;obtain⟨l,d,h1,h2,h3,h4⟩:=(g.slot i s h).own o;subst eQ;rw[e] at h1;cases h1;obtain⟨u,hu⟩:=h3.has;rw[hD] at hu;cases hu
 exact {
  sF:=g1.sF
  sub:=g1.sub
  old:=g1.old
  new:=g1.new
  len:=by simp[g.len]
  slot:=fun i s h=>by
   rcases at_ h with ⟨h1,h2,h3⟩|rfl|⟨h1,rfl,h3⟩
   rw[h3];exact g1.slot i s h2;trivial;rw[h3];exact⟨D,rfl,g.sub.free hD,g.Bb hD,[],aO,.nil⟩
  apart:=fun i j l s t h1 h2 o1 o2 e1 e2=>by
   rcases at_ h1 with ⟨a1,a2,a3⟩|rfl|⟨a1,rfl,a3⟩
   rcases at_ h2 with ⟨b1,b2,b3⟩|rfl|⟨b1,rfl,b3⟩
   rw[a3] at e1;rw[b3] at e2;exact g.apart i j l s t a2 b2 o1 o2 e1 e2;cases o2;rw[a3] at e1;rw[b3] at e2;cases e2;exact absurd e1 (noD a2 o1);cases o1;rcases at_ h2 with ⟨b1,b2,b3⟩|rfl|⟨b1,rfl,b3⟩
   rw[a3] at e1;rw[b3] at e2;cases e1;exact absurd e2 (noD b2 o2);cases o2;rw[a1,b1]
  oE:=g1.oE
  oX:=g1.oX}
theorem wF{L:Lc}{G:Fx}{F H:Hp}{σ:St}{ρ:aS}{k:Nat}{x:D}{v:V}{P:Unit->aS->Prop}{E:Xn->aS->Prop}(g:L.Good G F H σ ρ)(r:Den L.K L.mg F v x)(o:Out (fR k (gj x) ρ) P E) : ∃l vs bQ,σ[k]?=some (some (V.ref l))/\H l=some (.lst vs)/\vs.length<sizeLine/\L.Good G F (upd H l (.lst (vs++[v]))) σ bQ/\P () bQ:=by
 unfold fR at o;cases q:own ρ[k]? with
 |none=>rw[q] at o;exact o.elim|some d=>
  rw[q] at o;dsimp only at o;cases q2:gj x d with
  |none=>rw[q2] at o;exact o.elim|some d'=>
   rw[q2] at o;have o':P () (cL k d' ρ):=o;cases d with
   |lst ds=>
    simp only[gj] at q2;split at q2;rename_i hl;cases q2;cases q3:ρ[k]? with
    |none=>rw[q3] at q;cases q|some s=>
     rw[q3] at q;have sl:=g.slot k s q3;have fin:∀l s',σ[k]?=some (some (V.ref l))->cw s=true->eT L.K L.mg F H l (.lst ds)->((∃e,s=.ow e/\s'=.ow (.lst (ds++[x])))\/(∃e,s=.io e/\s'=.io (.lst (ds++[x]))))->cL k (.lst (ds++[x])) ρ=ρ.set k s'->∃l vs bQ,σ[k]?=some (some (V.ref l))/\H l=some (.lst vs)/\vs.length<sizeLine/\L.Good G F (upd H l (.lst (vs++[v]))) σ bQ/\P () bQ:=fun l s' z1 z2 z3 z4 z5=>by obtain⟨vs,y1,y2⟩:=z3;refine⟨l,vs,_,z1,y1,by rw[y2.length,Ji];exact hl,Good.write g q3 z2 z1 z4 ⟨_,aO,y2.append (.cons r .nil)⟩,?_⟩;rw[<-z5];exact o'
     cases s with|no=>cases q|sh e=>cases q|ow e=>cases q;refine VP.gl fun QQ eQ=>?_;obtain⟨l,z1,z2,z3,z4⟩:=sl;subst eQ;exact fin l _ (join_some z1) rfl z4 (.inl ⟨_,rfl,rfl⟩) (by unfold cL;rw[q3])|io e=>cases q;refine VP.gl fun QQ eQ=>?_;obtain⟨l,z1,z2,z3,z4⟩:=sl;subst eQ;exact fin l _ (join_some z1) rfl z4 (.inr ⟨_,rfl,rfl⟩) (by unfold cL;rw[q3])
    cases q2
   |_=>cases q2
variable{X:Cx}{EX:XE}{elt tg Ut:Expr}{ifs:Wg}{pos:Pos}{it:M (List D)}{gf:D->M Unit}{ft:M Bool}{fe:M D}{js:Ue}{scope:Scope}{N':Ph}
theorem j9(n:Nat){use:Option (Value->Sem Unit)}{QQ:RG}{Ug:U5}{s:Shared}{σ:St}{H F:Hp}{G:Fx}{ρ:aS}{P:D->aS->Prop}{Ex:Xn->aS->Prop}
  (hc:X.calm=true) (c:bR X scope N') (hn:X.N.length+n+1=N'.length) (hi:uK X EX tg Ut it) (tV:∀d r x r',gf d r≠.exc x r') (uM:∀j∈js,X.N.length<=j/\j<X.N.length+n)
  (hg:∀C s H ex,yy (bJ X scope C N' s H ex) EX tg js gf) (ht:∀C s H ex EX,BJ (bJ X scope C N' s H ex) EX ifs ft)
  {xw:Addr->Shared->Hp->XU->Value->Shared->Prop} (he:∀C s H ex,PV ((bJ X scope C N' s H ex).pq (xw C s H ex)) (fun _=>EX σ) elt fe)
  (hw:∀(l C:Addr)(s2:Shared)(H2:Hp)(fp:XU)(v:Value)(s':Shared),Inv X Ug σ H2 s2->(∀b∈fp,jy X Ug H2 b)->C=s2.heap.objs.size+1->xw C s2 H2 fp v s'->notedBy (model X.prog X.w) X.A (bJ X scope C N' s2 H2 fp).env (fun x BG=>compPost (model X.prog X.w) X.A X.xe use QQ (.ref l) C (.error x) BG) v s')
  (hs:∀x,foldedSetIterable Ut X.env x=pure x) (I:Inv X Ug σ H s) (g0:(lc X EX).Good G F H σ ρ) (o:Out (aQ n it gf ft fe ρ) P Ex) (hE:∀x r,Ex x r->dj (lc X EX) G F σ x r)
  (DA:∀(F4 H4:Hp)(s5:Shared)(rG:aS)(d:D)(l C:Addr)(mm:Str->X0),aN F F4->(lc X EX).Good G F4 H4 σ rG->Loose X.K X.mg G F4 H4 σ rG l d->P d rG->Inv X Ug σ H4 s5->s5.heap.Ns C mm->jy X Ug H4 C->compPost (model X.prog X.w) X.A X.xe use QQ (.ref l) C (.ok .next) s5) :
  wpAny (model X.prog X.w) X.A (comprehension (.ListComp elt [⟨tg,Ut,ifs,0⟩] scope pos) scope X.env (firstIterPos [⟨tg,Ut,ifs,0⟩] pos) (newList []) (firstAsync [⟨tg,Ut,ifs,0⟩]) (firstIter [⟨tg,Ut,ifs,0⟩] X.env) use) QQ X.xe s:=by
 refine wpAny_comprehension_free (use:=use) rfl hs (c.UY I.ok) c.kind (fun y hy hl=>c.names hy hl) ?_;refine bT (hi Ug s σ H (fun J H1=>∃F1 bw ds,aN F F1/\(lc X EX).Good G F1 H1 σ bw/\FK (lc X EX) G F1 J ds/\Out (inner n (fun k=>turns k gf ft fe ds) bw) P Ex) I (a7 g0 o hE fun F1 H1 bw ds J s1 g1 r1 o1=>⟨F1,bw,ds,s1,g1,r1,o1⟩)) fun xv s1 h1=>bT h1 fun VT s2 h2=>?_;refine VP.gl fun QQ eQ=>?_;obtain⟨XT,fp,tn,J,H2,e,I2,T,yg,f2,F1,bw,ds,e1,g1,r1,o1⟩:=h2;subst eQ;subst e;refine Eb (wpAny_newFunctionEnv (fun y hy=>c.xQ hy) (by intro y hy;simp at hy) (fun h₁ xy tY=>?_) c.kind);dsimp only at xy tY ⊢;generalize Ve:s2.heap.push {cls:=.type "list",dict:=none,data:=.seq ([]:Ul).toArray}=HP at xy tY ⊢;have hC:HP.objs.size=s2.heap.objs.size+1:=by rw[<-Ve,A6]
 have Vb:s2.heap.objs.size≠HP.objs.size:=by rw[hC];exact Uh (By _)
 have old:∀b o,s2.heap.get? b=some o->h₁.get? b=some o:=fun b o e=>tY.extBut b o (by have:=Ta e;rw[hC];exact Uh (Ht this)) (T2 _ (Ve ▸ T2 _ e));have hl:h₁.get? s2.heap.objs.size=some {cls:=.type "list",data:=.seq #[] 0}:=tY.extBut _ _ Vb (T2 _ (Ve ▸ TR _ rfl));have AH:∀b∈fp,b<s2.heap.objs.size:=fun b hb=>by obtain⟨ob,e,_⟩:=T.obj 0 _ yg b hb;exact Ta e
 have Pc:h₁.Ns HP.objs.size fun _=>none:=by simpa using xy
 have Vc:H2 s2.heap.objs.size=none:=I2.cj.fresh (ZS _);have XZ:σ.length=X.N.length:=I.len;have Rr:bw.length=σ.length:=g1.len.symm;have DI:N'.length-1-σ.length=n:=Qt;have I3:=xg (tk:=s2.toks+([]:List (Str×Value)).length) c I2 f2 AH rfl hC old Pc hl;rw[DI] at I3;have g2:=Good.more g1 n Vc;rw[show inner n (fun k=>turns k gf ft fe ds) bw=_ from rfl] at o1;unfold inner at o1;rw[Rr] at o1;let XX:=bJ X scope HP.objs.size N' s2 H2 fp;have zJ:∀s3:Shared,s3={s2 with heap:=h₁,toks:=s2.toks+([]:List (Str×Value)).length}->codeAny (model X.prog X.w) X.A (.compLoop (.ListComp elt [⟨tg,Ut,ifs,0⟩] scope pos) 0 (.ref XT) (.ref s2.heap.objs.size) XX.env) (compPost (model X.prog X.w) X.A X.xe use QQ (.ref s2.heap.objs.size) HP.objs.size) s3:=by
  rintro s3 rfl;have Vd:∀{α:Type}{t:Sem α}{Q':α->Shared->Prop}{E':RG}{s':Shared},wpAny (model X.prog X.w) X.A t Q' (fun _ _=>False) s'->wpAny (model X.prog X.w) X.A t Q' E' s':=fun h=>R3 h (fun _ _ q=>q) fun _ _ z=>z.elim;refine codeAny_loop rfl (fun m s'=>∃i bD H' F' bQ,m=ds.length-i/\i<=ds.length/\Inv XX [] bD H' s'/\tn i s'.heap/\(∀b∈fp,H' b=none)/\aN F1 F'/\Good X.K X.mg G F' H' bD bQ/\(∀j,j<σ.length->bD[j]?=σ[j]?)/\bD[σ.length+n]?=some (some (V.ref s2.heap.objs.size)) /\
   Out (turns (σ.length+n) gf ft fe (ds.drop i) bQ) (fun _ r=>∃d,r[σ.length+n]?=some (.ow d)/\P d (r.take σ.length)) (fun x r=>Ex x (r.take σ.length))) (fun m s4 hI=>?_) ds.length
   ⟨0,_,_,F1,_,Ro,ER _,I3,T.keep _ _ _ yg (fun b _ ob e=>old b ob e),fun b hb=>?_,aN.refl _,g2,fun j hj=>?_,?_,?_⟩
  show wpAny _ X.A ((compTurn (.ListComp elt [⟨tg,Ut,ifs,0⟩] scope pos) 0 (.ref XT) (.ref s2.heap.objs.size) XX.env).onRaise (fun x=>do noteFrame x XX.env;theTreesLotGoes x)) _ _ s4;refine wpAny_noted ?_;rw[compTurn_list];refine VP.gl fun QQ eQ=>?_;obtain⟨i,Jw,H4,F4,KJ,rfl,hi4,I4,Yh,Xf,e4,g4,GU,T5,o4⟩:=hI;subst eQ;have yi:∀{H':Hp},(∀b∈fp,H' b=none)->∀b∈fp,jy XX [] H' b:=fun {H'} hz b hb=>⟨hz b hb,(I3.ok.TY b hb).1,I3.ok.C8 b hb,.inl hb,fun x a e=>(I3.ok.TY b hb).2 x a e,fun p hp=>absurd (show p∈([]:U5) from hp) Ro⟩;obtain⟨t1,t2,t3⟩:=r1 Jw i F4 H4 KJ e4 g4;have YU:∀{α:Type}{t:Sem α}{Q':α->Shared->Prop}{s':Shared},wpAny (model X.prog X.w) X.A t Q' (xw HP.objs.size s2 H2 fp) s'->wpAny (model X.prog X.w) X.A t Q' (notedBy (model X.prog X.w) X.A XX.env (fun x BG=>compPost (model X.prog X.w) X.A X.xe use QQ (.ref s2.heap.objs.size) HP.objs.size (.error x) BG)) s':=fun h=>R3 h (fun _ _ q=>q) fun v BG z=>hw _ _ _ _ _ _ _ I2 f2 hC z;have JL:∀{F' H':Hp}{mS:St}{r:aS},Good X.K X.mg G F' H' mS r->(∀j,j∉js->mS[j]?=Jw[j]?)->Good X.K X.mg G F' H' σ (r.take σ.length):=fun {F' H' mS r} g hj=>by
   have U4:mS.take σ.length=σ:=by refine L3 fun j=>?_;by_cases QO:j<σ.length;rw[wu QO,hj j fun m=>by have:=(uM j m).1;lia];exact GU j QO;rw[Gq Qt,I0 Qt]
   have:=Good.take g σ.length;rw[U4] at this;exact this
  by_cases oB:i<ds.length;have ed:ds.drop i=ds[i]::ds.drop (i+1):=Bv oB;rw[ed] at o4;refine ZM (RW (ZM (bT (T.item XX rfl rfl rfl hc i [] s4 Jw H4 _ I4 (yi Xf) Yh (t1 oB)) fun r s5 zz=>?_)));obtain⟨u,hr,h5⟩:=zz;subst hr;refine ZM (bT h5 fun _ s6 zz=>?_);obtain⟨x,H6,I6,r6,y6,Wu,YG⟩:=zz;obtain⟨F6,e6,g6,q6⟩:=t3 x H6 y6;have Yr:=I6.pinned (yi YG) (T.obj _ _ Wu);have again:∀{s7:Shared}{mS:St}{H7 F7:Hp}{Pt:aS},Inv XX ([]++qH fp s6.heap) mS H7 s7->aN F6 F7->Good X.K X.mg G F7 H7 mS Pt->(∀j,j∉js->mS[j]?=Jw[j]?) ->
    Out (turns (σ.length+n) gf ft fe (ds.drop (i+1)) Pt) (fun _ r=>∃d,r[σ.length+n]?=some (.ow d)/\P d (r.take σ.length)) (fun x r=>Ex x (r.take σ.length)) ->
    ∃m,m<ds.length-i/\∃i bD H' F' bQ,m=ds.length-i/\i<=ds.length/\Inv XX [] bD H' s7/\tn i s7.heap/\(∀b∈fp,H' b=none)/\aN F1 F'/\Good X.K X.mg G F' H' bD bQ/\(∀j,j<σ.length->bD[j]?=σ[j]?)/\bD[σ.length+n]?=some (some (V.ref s2.heap.objs.size))/\Out (turns (σ.length+n) gf ft fe (ds.drop i) bQ) (fun _ r=>∃d,r[σ.length+n]?=some (.ow d)/\P d (r.take σ.length)) (fun x r=>Ex x (r.take σ.length)):=fun {s7 mS H7 F7 Pt} I7 e7 g7 J8 o7=>by
   refine⟨ds.length-(i+1),Qt,i+1,mS,H7,F7,Pt,rfl,oB,I7.mI,T.keep _ _ _ Wu fun b hb ob e=>(I7.pin (b,ob) (Ox _ (Ox _ (jd hb e)))).1,fun b hb=>?_,e4.trans (e6.trans e7),g7,fun j hj=>?_,?_,o7⟩;obtain⟨ob,e,d⟩:=T.obj _ _ Wu b hb;exact(I7.pin (b,ob) (Ox _ (Ox _ (jd hb e)))).2.1;rw[J8 j fun m=>by have:=(uM j m).1;lia];exact GU j hj;rw[J8 _ fun m=>by have:=(uM _ m).2;lia];exact T5
  refine ZM (Vd (bT (hg HP.objs.size s2 H2 fp _ s6 Jw H6 x u (fun bD H'=>∃F' bQ,aN F6 F'/\Good X.K X.mg G F' H' bD bQ/\(∀j,j∉js->bD[j]?=Jw[j]?) /\
   Out (Pd ft (fun b=>if b then Pd fe fun x=>Pd (fR (σ.length+n) (gj x)) fun _=>turns (σ.length+n) gf ft fe (ds.drop (i+1)) else turns (σ.length+n) gf ft fe (ds.drop (i+1))) bQ) (fun _ r=>∃d,r[σ.length+n]?=some (.ow d)/\P d (r.take σ.length)) (fun x r=>Ex x (r.take σ.length))) Yr r6
   ⟨G,F6,KJ,ds[i],g6,q6 _ (by simp[oB]),(show Out (gf ds[i] KJ) _ _ by have o5:=Out.Pd o4;cases q:gf ds[i] KJ with|no=>rw[q] at o5;exact o5.elim|exc x r=>exact absurd q (tV _ _ _ _)|ok u r=>rw[q] at o5;exact fun F' H' bD s g hj=>⟨F',r,s,g,hj,o5⟩)⟩) fun _ s7 ⟨mS,H7,I7,F7,Pt,e7,g7,J8,o7⟩=>?_))
  refine ZM (Vd (bT (ht HP.objs.size s2 H2 fp (fun _=>EX σ) _ s7 mS H7 (fun b H'=>∃F' bQ,aN F7 F'/\Good X.K X.mg G F' H' mS bQ /\
   Out ((if b then Pd fe fun x=>Pd (fR (σ.length+n) (gj x)) fun _=>turns (σ.length+n) gf ft fe (ds.drop (i+1)) else turns (σ.length+n) gf ft fe (ds.drop (i+1))) bQ) (fun _ r=>∃d,r[σ.length+n]?=some (.ow d)/\P d (r.take σ.length)) (fun x r=>Ex x (r.take σ.length))) I7
   ⟨G,F7,Pt,g7,(Out.Pd o7).mono (fun a r z F' H' b s g e=>by cases e;exact⟨F',r,s,g,z⟩) fun x r z F' H' c dx s g xr=>hE x _ z F' H' c dx (e1.trans (e4.trans (e6.trans (e7.trans s)))) (JL g J8) xr⟩) fun ok s8 zz=>?_))
  obtain⟨H8,I8,F8,ρ8,e8,g8,o8⟩:=zz;cases ok with
  |false=>exact Pf ⟨rfl,again I8 (e7.trans e8) g8 J8 o8⟩|true=>
   refine ZM (ZM (YU (bT (he HP.objs.size s2 H2 fp _ s8 mS H8 (fun v H'=>∃F' bQ d,aN F8 F'/\Good X.K X.mg G F' H' mS bQ/\Den X.K X.mg F' v d /\
    Out (Pd (fR (σ.length+n) (gj d)) (fun _=>turns (σ.length+n) gf ft fe (ds.drop (i+1))) bQ) (fun _ r=>∃d,r[σ.length+n]?=some (.ow d)/\P d (r.take σ.length)) (fun x r=>Ex x (r.take σ.length))) (I8.pq _)
    ⟨G,F8,ρ8,g8,(Out.Pd o8).mono (fun a r z F' H' b s g e=>⟨F',r,a,s,g,e,z⟩) fun x r z F' H' c dx s g xr=>hE x _ z F' H' c dx (e1.trans (e4.trans (e6.trans (e7.trans (e8.trans s))))) (JL g J8) xr⟩) fun xv s9 zz=>?_)))
   obtain⟨y,H9,Ys,r9,F9,ρ9,d9,e9,g9,Yx,o9⟩:=zz;have I9:=Ys.jk;refine VP.gl fun QQ eQ=>?_;obtain⟨l,vs,aab,XQ,YN,ZW,T3,ZO⟩:=wF (L:=lc X EX) g9 Yx (Out.Pd o9);subst eQ;rw[J8 _ fun m=>by have:=(uM _ m).2;lia,T5] at XQ;cases XQ;refine ZM (Vd (bT (sH (X:=XX) _ s9 mS H9 (.ref s2.heap.objs.size) [y] (.ref s2.heap.objs.size) [xv] (fun _ H'=>H'=upd H9 s2.heap.objs.size (.lst (vs++[y]))) I9 rfl (.cons r9 .nil) ⟨_,vs,y,rfl,rfl,YN,ZW,rfl⟩) fun _ FX zz=>?_));obtain⟨_,H10,Yp,_,Yz⟩:=zz;subst Yz;exact Pf (Pf ⟨rfl,again Yp ((e7.trans e8).trans e9) T3 J8 ZO⟩)
  have e:i=ds.length:=Qt;subst e;refine ZM (RW (ZM (bT (T.done XX rfl rfl rfl hc _ [] s4 Jw H4 _ I4 (yi Xf) Yh (t2 rfl)) fun r s5 ⟨hr,I5⟩=>?_)));subst hr;refine Pf ?_;obtain⟨mm,GP,_⟩:=id I5.loc;rw[List.drop_length] at o4;obtain⟨d,hd,post⟩:∃d,KJ[σ.length+n]?=some (.ow d)/\P d (KJ.take σ.length):=o4;have IX:Inv X Ug σ H4 s5:=I2.CO (s':=s5) I5.os I5.base I5.cj I5.bare fun b hb=>⟨(f2 b hb).2.2.2.1,(f2 b hb).2.1,(f2 b hb).2.2.2.2.1,(f2 b hb).2.2.2.2.2⟩;have FC:jy X Ug H4 HP.objs.size:=I2.qf (by rw[hC];exact Jh _) I5.free;have U4:Jw.take σ.length=σ:=by refine L3 fun j=>?_;by_cases hj:j<σ.length;rw[wu hj];exact GU j hj;rw[Gq Qt,I0 Qt]
  refine VP.gl fun QQ eQ=>?_;obtain⟨l,z1,z2,z3,z4⟩:=g4.slot _ _ hd;subst eQ;rw[T5] at z1;cases z1;refine DA F4 H4 s5 _ d _ _ mm (e1.trans e4) (by have:=Good.take g4 σ.length;rw[U4] at this;exact this) ⟨z2,z3,z4,fun j t hj ho AJ=>?_⟩ post IX GP FC;have Vq:j<σ.length:=by
   have:=(List.getElem?_eq_some_iff.mp hj).1;simp at this
   lia
  rw[wu Vq] at hj;have:=g4.apart j (σ.length+n) s2.heap.objs.size t _ hj hd ho rfl (by rw[GU j Vq];exact AJ) T5
  lia
  rw[aU (Uh (AH b hb))];exact(f2 b hb).1;rw[Lh (by simp;lia),Lh hj];rw[HU Ro];simp;simp only[List.drop_zero];cases q:turns (σ.length+n) gf ft fe ds (bw++List.replicate n .no++[.ow (.lst [])]) with|no=>simp only[q] at o1;exact o1.elim|exc x r=>simp only[q] at o1;exact o1|ok u r=>simp only[q] at o1;show ∃d,r[σ.length+n]?=some (.ow d)/\_;cases q2:r[σ.length+n]? with|none=>simp only[q2] at o1;exact o1.elim|some t=>simp only[q2] at o1;cases t with|ow d=>exact⟨d,rfl,o1⟩|no=>exact o1.elim|sh d=>exact o1.elim|io d=>exact o1.elim
 exact codeAny_compStart_list (zJ _ rfl) (T.self _ _ _ _ _ (T.keep _ _ _ yg fun b _ ob e=>old b ob e) (zJ _ rfl))
theorem Q0i(n:Nat)(hc:X.calm=true)(c:bR X scope N')(hn:X.N.length+n+1=N'.length)(hi:uK X EX tg Ut it)(tV:∀d r x r',gf d r≠.exc x r')(uM:∀j∈js,X.N.length<=j/\j<X.N.length+n)
  (hg:∀C s H ex,yy (bJ X scope C N' s H ex) EX tg js gf) (ht:∀C s H ex EX,BJ (bJ X scope C N' s H ex) EX ifs ft) (he:∀C s H ex EX,PV (bJ X scope C N' s H ex) EX elt fe)
  (hs:∀x,foldedSetIterable Ut X.env x=pure x:=by exact Ri):PF X EX (.ListComp elt [⟨tg,Ut,ifs,0⟩] scope pos) (aQ n it gf ft fe):=by
 intro Ug s σ H Q I h;refine VP.gl fun QQ eQ=>?_;obtain⟨G,F,ρ,g0,o⟩:=h;subst eQ;rw[eval_ListComp];refine j9 (use:=none) n hc c hn hi tV uM hg ht (xw:=fun _ _ _ _ _ _=>False) (fun C s H ex=>he C s H ex _) (fun _ _ _ _ _ _ _ _ _ _ z=>z.elim) hs I g0 o (fun x r q=>q) fun F4 H4 s5 rG d l C mm e4 g4 lo post IX GP FC=>?_;refine⟨mm,GP,fun h' FT=>⟨.ref l,H4,?_,rfl,post F4 H4 _ e4 g4 ⟨l,rfl,lo⟩⟩⟩;exact IX.turned (t':=s5.toks) (fun b ob hb e=>FT.extBut b ob hb e) FC.1 FC.2.1 FC.2.2.2.1 FC.2.2.2.2.1 FC.2.2.2.2.2
theorem pZ(n i:Nat){y:Str}{py mB:Pos}{f:D->M Fl}(hc:X.calm=true)(c:bR X scope N')(hn:X.N.length+n+1=N'.length)(hi:uK X EX tg Ut it)(tV:∀d r x r',gf d r≠.exc x r')(uM:∀j∈js,X.N.length<=j/\j<X.N.length+n)
  (hg:∀C s H ex,yy (bJ X scope C N' s H ex) EX tg js gf) (ht:∀C s H ex EX,BJ (bJ X scope C N' s H ex) EX ifs ft) (he:∀C s H ex EX,PV (bJ X scope C N' s H ex) EX elt fe)
  (hN:X.N.Nodup) (hy:X.N[i]?=some y) (hx:Loc X.env.scope y) (GS:swapsWith (.ListComp elt [⟨tg,Ut,ifs,0⟩] scope pos) (some (.Name y py)) mB.line X.env=pure true)
  (hf:∀{G:Fx}{F4 H4 F:Hp}{σ:St}{rG:aS}{l:Addr}{d:D}{E:Ends},(lc X EX).Good G F4 H4 σ rG->Loose X.K X.mg G F4 H4 σ rG l d->aN F F4->Out (f d rG) (gH (lc X EX) G F E) (cW (lc X EX) G F)->E.nx (σ.set i (some (.ref l))) H4)
  (hs:∀x,foldedSetIterable Ut X.env x=pure x) (AG:Si X y):oh X EX (.Assign [.Name y py] (.ListComp elt [⟨tg,Ut,ifs,0⟩] scope pos) mB) (Pd (aQ n it gf ft fe) f):=by
 intro Ug s σ H E I h;refine VP.gl fun QQ eQ=>?_;obtain⟨G,F,ρ,g0,o⟩:=h;subst eQ;rw[AO _ _ _ _ GS];refine ZM (RW (ZM ?_));show wpAny _ X.A (do let _ <-comprehension (.ListComp elt [⟨tg,Ut,ifs,0⟩] scope pos) scope X.env _ (newList []) false (firstIter [⟨tg,Ut,ifs,0⟩] X.env) (some (assign (.Name y py) X.env))) _ _ s;refine ZM (R3 (j9 (use:=some (assign (.Name y py) X.env)) (QQ:=fun _ s'=>SP X Ug E .next s') n hc c hn hi tV uM hg ht (xw:=fun _ _ _ _ _ _=>False) (fun C s H ex=>he C s H ex _) (fun _ _ _ _ _ _ _ _ _ _ z=>z.elim) hs I g0 (Out.Pd o) (fun x r q=>q.x) fun F4 H4 s5 rG d l C mm e4 g4 lo post IX GP FC=>?_) (fun _ s' hq=>Pf (Pf hq)) fun _ _ e=>e);show wpAny _ X.A (assign (.Name y py) X.env (.ref l)) _ _ s5;refine Sj (kB IX hN hy hx (v:=.ref l) rfl (fun s6 I6 zz=>?_) AG);obtain⟨a,sb,ha⟩:=zz;have QE:C≠a:=by rcases ha with rfl|ha;exact FC.2.1;exact fun z=>FC.2.2.2.2.1 _ _ ha z.symm
 refine⟨mm,GP.sameBut sb QE,fun h' FT=>⟨σ.set i (some (.ref l)),H4,?_,hf g4 lo e4 post⟩⟩;exact I6.turned (t':=s6.toks) (fun b ob hb e=>FT.extBut b ob hb e) FC.1 FC.2.1 FC.2.2.2.1 FC.2.2.2.2.1 FC.2.2.2.2.2
theorem Ai(n i:Nat){y:Str}{py mB:Pos}(hN:X.N.Nodup)(hy:X.N[i]?=some y)(hx:Loc X.env.scope y)(hc:X.calm=true)(c:bR X scope N')(hn:X.N.length+n+1=N'.length)(hi:uK X EX tg Ut it)(tV:∀d r x r',gf d r≠.exc x r')(uM:∀j∈js,X.N.length<=j/\j<X.N.length+n)
  (hg:∀C s H ex,yy (bJ X scope C N' s H ex) EX tg js gf) (ht:∀C s H ex EX,BJ (bJ X scope C N' s H ex) EX ifs ft) (he:∀C s H ex EX,PV (bJ X scope C N' s H ex) EX elt fe)
  (GS:swapsWith (.ListComp elt [⟨tg,Ut,ifs,0⟩] scope pos) (some (.Name y py)) mB.line X.env=pure true:=by rfl) (hs:∀x,foldedSetIterable Ut X.env x=pure x:=by exact Ri)
  (AG:Si X y:=by exact Ig):oh X EX (.Assign [.Name y py] (.ListComp elt [⟨tg,Ut,ifs,0⟩] scope pos) mB) (aP i (aQ n it gf ft fe)):=
 pZ n i (f:=fun d=>FY (oZ i d)) hc c hn hi tV uM hg ht he hN hy hx GS (fun {G F4 H4 F σ rG l d E} g4 lo e4 o=>by obtain⟨F5,e5,g5,dn⟩:=lo.fast g4;obtain⟨oQ,g2,q⟩:=jZ (L:=lc X EX) g5 dn (Out.Pd o);exact q F5 H4 _ (e4.trans e5) g2) hs AG
theorem pM(n i:Nat){y:Str}{py mB:Pos}(hN:X.N.Nodup)(hy:X.N[i]?=some y)(hx:Loc X.env.scope y)(hc:X.calm=true)(c:bR X scope N')(hn:X.N.length+n+1=N'.length)(hi:uK X EX tg Ut it)(tV:∀d r x r',gf d r≠.exc x r')(uM:∀j∈js,X.N.length<=j/\j<X.N.length+n)
  (hg:∀C s H ex,yy (bJ X scope C N' s H ex) EX tg js gf) (ht:∀C s H ex EX,BJ (bJ X scope C N' s H ex) EX ifs ft) (he:∀C s H ex EX,PV (bJ X scope C N' s H ex) EX elt fe)
  (GS:swapsWith (.ListComp elt [⟨tg,Ut,ifs,0⟩] scope pos) (some (.Name y py)) mB.line X.env=pure true:=by rfl) (hs:∀x,foldedSetIterable Ut X.env x=pure x:=by exact Ri)
  (AG:Si X y:=by exact Ig):oh X EX (.Assign [.Name y py] (.ListComp elt [⟨tg,Ut,ifs,0⟩] scope pos) mB) (fT i (aQ n it gf ft fe)):=
 pZ n i (f:=fun d=>FY (El i d)) hc c hn hi tV uM hg ht he hN hy hx GS (fun {G F4 H4 F σ rG l d E} g4 lo e4 o=>by obtain⟨oQ,g2,q⟩:=qF (L:=lc X EX) g4 lo (Out.Pd o);exact q F4 H4 _ e4 g2) hs AG
end
section
variable{X:Cx}{EX:XE}{L:Lc}{tg e a b:Expr}{fa fb fe:M D}{G:Fx}{F:Hp}
theorem Q2A(h:dz L.K F p vs)(r:aM L.K L.mg F vs ds):FK L G F (UM L.K p) ds:=fun σ i F' H' ρ s g=>by have sq:dz L.K H' p vs:=dz.same (dz.same h s) g.sub;have hl:=r.length;refine⟨fun hi=>⟨vs,vs[i]' Qt,sq,by simp[show i<vs.length by lia]⟩,fun hi=>⟨vs,sq,Qt⟩,fun x FJ ⟨e,y⟩=>?_⟩;subst e;refine⟨F',aN.refl _,g,fun d hd=>?_⟩;obtain⟨v,h1,h2⟩:=(r.same s).get hd;rw[y vs sq] at h1;cases h1;exact h2
theorem GY(h:cX L.K F p vs)(r:aM L.K L.mg F vs ds):FK L G F (UL L.K p) ds:=fun σ i F' H' ρ s g=>by have sq:cX L.K H' p vs:=cX.same (cX.same h s) g.sub;have hl:=r.length;refine⟨fun hi=>⟨vs,vs[i]' Qt,sq,by simp[show i<vs.length by lia]⟩,fun hi=>⟨vs,sq,Qt⟩,fun x FJ ⟨e,y⟩=>?_⟩;subst e;refine⟨F',aN.refl _,g,fun d hd=>?_⟩;obtain⟨v,h1,h2⟩:=(r.same s).get hd;rw[y vs sq] at h1;cases h1;exact h2
theorem Q1b(lo:Int)(n:Nat):FK L G F (Tw lo n) ((List.range n).map fun(k:Nat)=>.int (lo+k)):=fun σ i F' H' ρ s g=>by
 refine⟨fun hi=>(by simpa using hi:i<n),fun hi=>(Nat.le_of_eq (by simpa using hi.symm):n<=i),fun x FJ ⟨e,y⟩=>?_⟩;subst e y;refine⟨F',aN.refl _,g,fun d hd=>?_⟩;rw[LM] at hd;cases q:(List.range n)[i]? with
 |none=>rw[q] at hd;cases hd|some k=>
  rw[q] at hd;have:k=i:=by have:=List.getElem?_eq_some_iff.mp q;obtain⟨h1,h2⟩:=this;simp at h2;exact h2.symm
  subst this;cases hd;exact .int _
def VQ(K:Frag)(tl:TE):TI:=fun σ H R=>tl σ H fun x H1=>∃p,x=.ref p/\(((∃xs,cX K H1 p xs)/\R (UL K p) H1)\/((∃xs,dz K H1 p xs)/\R (UM K p) H1))
theorem NT(hl:PE X l tl):PI X tg l (VQ X.K tl):=by
 intro Ug s σ H R I h;refine bT (hl Ug s σ H _ I h) fun v s1 zz=>?_;obtain⟨x,H1,I1,r1,q1⟩:=zz;obtain⟨p,e,q1⟩:=q1;subst e;cases r1;rcases q1 with ⟨⟨xs,hq⟩,q⟩|⟨⟨xs,hq⟩,q⟩
 obtain⟨aI,rv,pl,hz⟩:=I1.list hq;refine qY pl.isList ?_;refine⟨s1.heap.objs.size,[s1.heap.objs.size],_,_,H1,rfl,I1.kept (t':=s1.toks) fun b o e=>T2 _ e,Q1m p _,⟨_,TR _ rfl,rfl,rfl⟩,fun b hb=>?_,q⟩;have e:b=s1.heap.objs.size:=by simpa using hb
 subst e;exact I1.qf (ZS _) (I1.cj.fresh (ZS _));obtain⟨aI,rv,pl,hz⟩:=I1.tuple hq;refine GJ (show s1.heap.IsTuple p aI.toArray from pl) ?_;refine⟨s1.heap.objs.size,[s1.heap.objs.size],_,_,H1,rfl,I1.kept (t':=s1.toks) fun b o e=>T2 _ e,yu p _,⟨_,TR _ rfl,rfl,rfl⟩,fun b hb=>?_,q⟩;have e:b=s1.heap.objs.size:=by simpa using hb
 subst e;exact I1.qf (ZS _) (I1.cj.fresh (ZS _))
theorem cG(h:PV X EX e fe):uK X EX tg e (cJ fe):=(NT h).le fun σ H Q bF=>dt bF fun G F F1 H1 bw d1 x s1 g1 r1 o1=>by obtain⟨ds,e,q⟩:=o1.opt;cases r1 with|tup h1 r1=>cases e;exact⟨_,rfl,.inr ⟨⟨_,dz.same h1 g1.sub⟩,q F1 H1 _ s1 g1 (Q2A h1 r1)⟩⟩|lst h1 r1=>cases e;exact⟨_,rfl,.inl ⟨⟨_,cX.same h1 g1.sub⟩,q F1 H1 _ s1 g1 (GY h1 r1)⟩⟩|_=>cases e
theorem b7{fl:List (M D)}{p pos:Pos}(hg:Gl X "range")(hm:X.mg "range" = none)(ha:Am X EX [a] (mL fl))(hs:starEach [a] X.env=[(false,eval a X.env)]:=by rfl):uK X EX tg (.Call (.Name "range" p) [a] [] pos) (cQ fl):=(Bh hg hm ha hs).le fun σ H Q bF=>dt bF fun G F F1 H1 bw d1 xs s1 g1 r1 o1=>by
 obtain⟨ds,e,q⟩:=o1.opt;unfold rA at e;split at e;rename_i j;cases r1 with|cons h r1=>obtain rfl:=aM.n r1;obtain rfl:=Den.i h;split at e;rename_i hb;cases e;refine⟨j,rfl,hb.1,hb.2,q F1 H1 _ s1 g1 ?_⟩;have:=Q1b (L:=lc X EX) (G:=G) (F:=F1) 0 j.toNat;simp only[Int.zero_add] at this;exact this;cases e
 cases e
end
section
variable{X:Cx}{EX:XE}{L:Lc}{e a b:Expr}{fa fb fe:M D}{pos p:Pos}{x:Str}{id T:String}
def Jy(L:Lc)(r:OY->Hp->VK->Prop)(g:D->Rg):Prop:=∀G F H σ ρ x dx d Q,L.Good G F H σ ρ->RR L G F H σ ρ x dx->g dx=some d->Gg L G F σ ρ d Q->r [x] H Q
theorem lz(ha:PR X EX a fa)(hs:Oa X a []:=by rfl):PA X [a] (fun σ H Q=>lift (lc X EX) (RR (lc X EX)) fa σ H fun v H'=>Q [v] H'):=(cB ha fZ hs).le fun σ H Q h=>h
theorem fD(hc:d6 X (.builtin id) r)(hg:Jy (lc X EX) r g)(sy:Gl X x)(hm:X.mg x=none)(hv:bootBuiltins x=some (.builtin id))(ha:PR X EX a fa)(hn:x≠"__name__" := by decide)(jz:WL x:=by decide)(hs:Oa X a []:=by rfl):PV X EX (.Call (.Name x p) [a] [] pos) (m1 g fa):=
 (jU hc sy hm hv (lz ha hs) hn jz hs rfl).le fun σ H Q bF=>dt bF fun G F F1 H1 bw d1 x s1 g1 r1 o1=>by obtain⟨d,e,q⟩:=o1.opt;exact hg G F1 H1 σ bw x d1 d Q g1 r1 e (eU.same s1 q)
theorem Bm(hc:d6 X (.type T) r)(hg:Jy (lc X EX) r g)(sy:Gl X x)(hm:X.mg x=none)(hv:bootBuiltins x=some (.type T))(ha:PR X EX a fa)(hn:x≠"__name__" := by decide)(jz:WL x:=by decide)(hs:Oa X a []:=by rfl):PV X EX (.Call (.Name x p) [a] [] pos) (m1 g fa):=
 (kx hc sy hm hv (lz ha hs) hn jz hs rfl).le fun σ H Q bF=>dt bF fun G F F1 H1 bw d1 x s1 g1 r1 o1=>by obtain⟨d,e,q⟩:=o1.opt;exact hg G F1 H1 σ bw x d1 d Q g1 r1 e (eU.same s1 q)
theorem qL(hc:d6 X (.type T) r)(hg:Tu (lc X EX) r g)(sy:Gl X x)(hm:X.mg x=none)(hv:bootBuiltins x=some (.type T))(ha:Am X EX (e::es) (mL fl))(hn:x≠"__name__" := by decide)(jz:WL x:=by decide)(he:Oa X e es:=by rfl) (jA:Lg X pos es:=by rfl):PV X EX (.Call (.Name x p) (e::es) [] pos) (mF g fl):=
 (kx hc sy hm hv ha hn jz he jA).le fun σ H Q bF=>dt bF fun G F F1 H1 bw d1 xs s1 g1 r1 o1=>by obtain⟨d,e,q⟩:=o1.opt;exact hg G F1 H1 σ bw xs d1 d Q g1 r1 e (eU.same s1 q)
theorem RR.seq(h:RR L G F H σ ρ v d)(g:L.Good G F H σ ρ)(e:cq d=some ds) : ∃p vs,v=.ref p/\aM L.K L.mg F vs ds/\((d=.lst ds/\cX L.K H p vs)\/(d=.tup ds/\dz L.K H p vs/\dz L.K F p vs)):=by
 rcases h with h|⟨l,rfl,h⟩;cases h with|tup h1 r1=>cases e;exact⟨_,_,rfl,r1,.inr ⟨rfl,dz.same h1 g.sub,h1⟩⟩|lst h1 r1=>cases e;exact⟨_,_,rfl,r1,.inl ⟨rfl,cX.same h1 g.sub⟩⟩|_=>cases e
 cases d with|lst xs=>cases e;obtain⟨vs,h1,h2⟩:=h;exact⟨l,vs,rfl,h2,.inl ⟨rfl,cX.of h1⟩⟩|hW ks xs=>cases e|ins c ns xs=>cases e|_=>exact h.elim
theorem Q1E:Jy L (fun xs H Q=>∃p ys,xs=[.ref p]/\(cX L.K H p ys\/dz L.K H p ys)/\Q (.int ys.length) H) bz:=fun G F H σ ρ x dx d Q g0 rx e k=>by
 have hs:∃ds,cq dx=some ds/\d=.int ds.length:=by cases dx<;>cases e<;>exact⟨_,rfl,rfl⟩
 obtain⟨ds,h1,rfl⟩:=hs;obtain⟨p,vs,rfl,r,q⟩:=RR.seq rx g0 h1;refine⟨p,vs,rfl,q.elim (fun z=>.inl z.2) (fun z=>.inr z.2.1),?_⟩;rw[r.length];exact k F H _ (aN.refl _) g0 (.int _)
theorem Q1e:Jy L (fun xs H Q=>∃p ys,xs=[.ref p]/\((cX L.K H p ys/\∀l,H l=none->Q (.ref l) (upd H l (.tup ys)))\/(dz L.K H p ys/\Q (.ref p) H))) jw:=fun G F H σ ρ x dx d Q g0 rx e k=>by
 have hs:∃ds,cq dx=some ds/\d=.tup ds:=by cases dx<;>cases e<;>exact⟨_,rfl,rfl⟩
 obtain⟨ds,h1,rfl⟩:=hs;obtain⟨p,vs,rfl,r,q⟩:=RR.seq rx g0 h1;refine⟨p,vs,rfl,?_⟩;rcases q with ⟨rfl,q⟩|⟨rfl,q,q2⟩
 refine .inl ⟨q,fun l hl=>?_⟩;have sF:=bg (o:=.tup vs) (g0.sub.free hl);exact k _ _ _ sF (g0.laid hl) (.tup (dz.of aO) (r.same sF));exact .inr ⟨q,k F H _ (aN.refl _) g0 (.tup q2 r)⟩
theorem jg(sy:Gl X x)(hm:X.mg x=none)(hv:bootBuiltins x=some (.type "list"))(ha:PR X EX a fa)(hn:x≠"__name__" := by decide)(jz:WL x:=by decide)(hs:Oa X a []:=by rfl):PF X EX (.Call (.Name x p) [a] [] pos) (m1 iI fa):=
 (kx tH sy hm hv (lz ha hs) hn jz hs rfl).le fun σ H Q bF=>dt bF fun G F F1 H1 bw d1 x s1 g1 r1 o1=>by
  obtain⟨d,e,q⟩:=o1.opt;have hs:∃ds,cq d1=some ds/\d=.lst ds:=by cases d1<;>cases e<;>exact⟨_,rfl,rfl⟩
  obtain⟨ds,h1,rfl⟩:=hs;obtain⟨p,vs,rfl,r,z⟩:=RR.seq r1 g1 h1;refine⟨p,vs,rfl,z.elim (fun z=>.inl z.2) (fun z=>.inr z.2.1),fun l hl=>?_⟩;exact q _ _ _ s1 (g1.made hl) ⟨l,rfl,g1.loose hl ⟨vs,aO,r⟩⟩
theorem vE:Tu L (fun xs H Q=>∃i j,xs=[.int i,.int j]/\Q (.int (if j > i then j else i)) H) maxD:=fun G F H σ ρ xs TX d Q g0 rx e k=>by
 unfold maxD at e;split at e;rename_i i j;cases rx with|cons h1 rx=>cases rx with|cons h2 rx=>obtain rfl:=aM.n rx;obtain rfl:=Den.i h1;obtain rfl:=Den.i h2;cases e;exact⟨i,j,rfl,k F H _ (aN.refl _) g0 (.int _)⟩
 cases e
theorem xn:Tu L (fun xs H Q=>(∃i,xs=[.int i]/\Q (.int i) H)\/∃k,xs=[.bl k]/\Q (.int (if k then 1 else 0)) H) intD:=fun G F H σ ρ xs TX d Q g0 rx e k=>by
 unfold VP.intD at e;split at e;rename_i i;cases rx with|cons h1 rx=>obtain rfl:=aM.n rx;obtain rfl:=Den.i h1;cases e;exact .inl ⟨i,rfl,k F H _ (aN.refl _) g0 (.int _)⟩
 rename_i i;cases rx with|cons h1 rx=>obtain rfl:=aM.n rx;obtain rfl:=Den.b h1;cases e;exact .inr ⟨i,rfl,k F H _ (aN.refl _) g0 (.int _)⟩
 cases e
end
mutual
def toPy:D->PyData|.bE=>.none|.bl b=>.bool b|.int i=>.int i|.str x=>.str x|.tup xs=>.tuple (toPys xs)|.lst xs=>.list (toPys xs)|.hW _ _=>.none|.ins _ _ _=>.none|.JU _ _ _=>.none
def toPys:XW->List PyData|[]=>[]|x::xs=>toPy x::toPys xs
end
mutual
theorem tN:∀(n m:Nat)(x y:D),plain n x=true->plain m y=true->PyData.eqv (toPy x) (toPy y)=eqB x y
|n,m,.tup xs,.tup ys,h1,h2=>by cases n with|zero=>cases h1|succ n=>cases m with|zero=>cases h2|succ m=>exact p9 n m xs ys h1 h2
|n,m,.lst xs,.lst ys,h1,h2=>by cases n with|zero=>cases h1|succ n=>cases m with|zero=>cases h2|succ m=>exact p9 n m xs ys h1 h2
|n,m,.bE,y,h1,h2=>by cases y<;>first|rfl|(cases m<;>cases h2)
|n,m,.bl _,y,h1,h2=>by cases y<;>first|rfl|(cases m<;>cases h2)
|n,m,.int _,y,h1,h2=>by cases y<;>first|rfl|(cases m<;>cases h2)
|n,m,.str _,y,h1,h2=>by cases y<;>first|rfl|(cases m<;>cases h2)
|n,m,.hW _ _,y,h1,h2=>by cases n<;>cases h1|n,m,.ins _ _ _,y,h1,h2=>by cases n<;>cases h1|n,m,.JU _ _ _,y,h1,h2=>by cases n<;>cases h1|n,m,.tup xs,.bE,h1,h2=>rfl|n,m,.tup xs,.bl _,h1,h2=>rfl|n,m,.tup xs,.int _,h1,h2=>rfl|n,m,.tup xs,.str _,h1,h2=>rfl|n,m,.tup xs,.lst _,h1,h2=>rfl|n,m,.tup xs,.hW _ _,h1,h2=>by cases m<;>cases h2|n,m,.tup xs,.ins _ _ _,h1,h2=>by cases m<;>cases h2|n,m,.tup xs,.JU _ _ _,h1,h2=>by cases m<;>cases h2|n,m,.lst xs,.bE,h1,h2=>rfl|n,m,.lst xs,.bl _,h1,h2=>rfl|n,m,.lst xs,.int _,h1,h2=>rfl|n,m,.lst xs,.str _,h1,h2=>rfl|n,m,.lst xs,.tup _,h1,h2=>rfl|n,m,.lst xs,.hW _ _,h1,h2=>by cases m<;>cases h2|n,m,.lst xs,.ins _ _ _,h1,h2=>by cases m<;>cases h2|n,m,.lst xs,.JU _ _ _,h1,h2=>by cases m<;>cases h2
theorem p9:∀(n m:Nat)(xs ys:XW),fC n xs=true->fC m ys=true->PyData.eqvAll (toPys xs) (toPys ys)=p8 xs ys|n,m,[],[],_,_=>rfl|n,m,[],_::_,_,_=>rfl|n,m,_::_,[],_,_=>rfl|n,m,x::xs,y::ys,h1,h2=>by simp only[fC,Bool.and_eq_true] at h1 h2;show (PyData.eqv (toPy x) (toPy y)&&PyData.eqvAll (toPys xs) (toPys ys))=(eqB x y&&p8 xs ys);rw[tN n m x y h1.1 h2.1,p9 n m xs ys h1.2 h2.2]
end
mutual
theorem sM:∀(n:Nat)(x:D),plain n x=true->(toPy x).canLay0=true/\(toPy x).depth<=n
|n,.bE,_=>⟨rfl,ER _⟩|n,.bl _,_=>⟨rfl,ER _⟩|n,.int _,_=>⟨rfl,ER _⟩|n,.str x,h=>⟨by cases n<;>exact(Array.all_toList.symm).trans h,ER _⟩|n,.tup xs,h=>by cases n with|zero=>cases h|succ n=>obtain⟨h1,h2⟩:=lA n xs h;exact⟨h1,Nat.succ_le_succ h2⟩
|n,.lst xs,h=>by cases n with|zero=>cases h|succ n=>obtain⟨h1,h2⟩:=lA n xs h;exact⟨h1,Nat.succ_le_succ h2⟩
|n,.hW _ _,h=>by cases n<;>cases h|n,.ins _ _ _,h=>by cases n<;>cases h|n,.JU _ _ _,h=>by cases n<;>cases h
theorem lA:∀(n:Nat)(xs:XW),fC n xs=true->PyData.canLayAll0 (toPys xs)=true/\PyData.depthAll (toPys xs)<=n
|n,[],_=>⟨rfl,ER _⟩|n,x::xs,h=>by
 simp only[fC,Bool.and_eq_true] at h;obtain⟨h1,h2⟩:=sM n x h.1;obtain⟨h3,h4⟩:=lA n xs h.2;refine⟨?_,?_⟩;show ((toPy x).canLay0&&PyData.canLayAll0 (toPys xs))=true;rw[h1,h3];rfl;show max (toPy x).depth (PyData.depthAll (toPys xs))<=n
 lia
end
section
variable{X:Cx}{EX:XE}{L:Lc}{Ug:U5}{σ:St}{H F:Hp}{s:Shared}
theorem Den.reads(I:Inv X Ug σ H s)(sub:aN F H){v:V}{d:D}{n:Nat}{u:Value}(h:Den X.K X.mg F v d):plain n d=true->RelV v u->∃as,Reads s.heap u (toPy d) as:=Den.rec (motive_1:=fun v d _=>∀n u,plain n d=true->RelV v u->∃as,Reads s.heap u (toPy d) as) (motive_2:=fun vs ds _=>∀n us,fC n ds=true->Vals vs us->∃as,ReadsAll s.heap us (toPys ds) as)
 (fun _ _ _ r=>by cases r;exact⟨_,.none⟩) (fun b _ _ _ r=>by cases r;exact⟨_,.bool b⟩) (fun i _ _ _ r=>by obtain⟨t,rfl⟩:=r;exact⟨_,.int i t⟩) (fun x _ _ _ r=>by obtain⟨t,rfl⟩:=r;exact⟨_,.str x t⟩)
 (fun h _ ih n _ hp r=>by cases r;cases n with|zero=>cases hp|succ n=>obtain⟨aI,rv,⟨o,ho,hc,m,hd⟩,_⟩:=I.tuple (dz.same h sub);obtain⟨as,ha⟩:=ih n _ hp rv;exact⟨_,.tuple ho hc hd (by simpa using ha)⟩)
 (fun h _ ih n _ hp r=>by cases r;cases n with|zero=>cases hp|succ n=>obtain⟨aI,rv,pl,_⟩:=I.list (cX.same h sub);obtain⟨o,ho,hc,m,hd⟩:=pl.isList;obtain⟨as,ha⟩:=ih n _ hp rv;exact⟨_,.list ho hc hd (by simpa using ha)⟩)
 (fun _ _ _ n _ hp _=>by cases n<;>cases hp) (fun _ _ _ _ n _ hp _=>by cases n<;>cases hp) (fun _ _ _ _ _ n _ hp _=>by cases n<;>cases hp) (fun _ _ _ r=>by cases r;exact⟨_,.nil⟩)
 (fun _ _ h t n _ hp r=>by cases r with|cons r1 r2=>simp only[fC,Bool.and_eq_true] at hp;obtain⟨as,ha⟩:=h n _ hp.1 r1;obtain⟨bs,hb⟩:=t n _ hp.2 r2;exact⟨_,.cons ha hb⟩) h n u
def IA(K:Frag)(mg:MG)(neg:Bool):R2:=fun x y H Q=>∃F dx dy,aN F H/\Den K mg F x dx/\Den K mg F y dy/\plain 60 dx=true/\plain 60 dy=true/\Q (.bl (if neg then !eqB dx dy else eqB dx dy)) H
theorem kA(h:plain 60 d=true):SeqAt.shaped (toPy d)=true:=by obtain⟨h1,h2⟩:=sM 60 d h;unfold SeqAt.shaped;rw[h1,WN Qt];rfl
theorem qD(hu:X.A.units+64<cLine):gG X (compareOp .Eq) (IA X.K X.mg false):=by intro Ug s σ H x y v u Q I rx ry h;obtain⟨F,dx,dy,sub,h1,h2,p1,p2,q⟩:=h;obtain⟨as,ra⟩:=Den.reads I sub h1 p1 rx;obtain⟨bs,rb⟩:=Den.reads I sub h2 p2 ry;exact SeqAt.compareEq_shaped ra rb (kA p1) (kA p2) hu (by rw[tN 60 60 dx dy p1 p2];exact⟨.bl _,H,I,rfl,q⟩)
theorem xY(hu:X.A.units+64<cLine):gG X (compareOp .NotEq) (IA X.K X.mg true):=by intro Ug s σ H x y v u Q I rx ry h;obtain⟨F,dx,dy,sub,h1,h2,p1,p2,q⟩:=h;obtain⟨as,ra⟩:=Den.reads I sub h1 p1 rx;obtain⟨bs,rb⟩:=Den.reads I sub h2 p2 ry;exact SeqAt.compareNe_shaped ra rb (kA p1) (kA p2) hu (by rw[tN 60 60 dx dy p1 p2];exact⟨.bl _,H,I,rfl,q⟩)
theorem vB:kW L (IA L.K L.mg false) cn:=fun G F H σ ρ x y dx dy d Q g0 rx ry e k=>by unfold cn at e;split at e;rename_i hp;cases e;rw[Jk] at hp;exact⟨F,dx,dy,g0.sub,rx,ry,hp.1,hp.2,k F H _ (aN.refl _) g0 (.bl _)⟩;cases e
theorem Dt:kW L (IA L.K L.mg true) gD:=fun G F H σ ρ x y dx dy d Q g0 rx ry e k=>by unfold gD at e;split at e;rename_i hp;cases e;rw[Jk] at hp;exact⟨F,dx,dy,g0.sub,rx,ry,hp.1,hp.2,k F H _ (aN.refl _) g0 (.bl _)⟩;cases e
end
section
variable{prog:Program}{w:World}{A:Around}{E:RG}{s:Shared}
theorem mj{items}(hit:s.heap.IsTupleIter it t i)
  (ht:s.heap.IsTuple t items) (hx:items[i]?=some x)
  (hQ:∀h',h'.IsTupleIter it t (i+1)->Heap.SameBut it s.heap h'->Q x {s with heap:=h'}) :
  wpAny (model prog w) A (Builtin.SmallTypes.nextOf (.ref it)) Q E s:=by
 obtain⟨o,ho,hc,hd⟩:=id hit;refine VP.gl fun QQ eQ=>?_;obtain⟨ol,LQ,_,nl,O5⟩:=ht;subst eQ;unfold Builtin.SmallTypes.nextOf;refine ZM (yp (name:=Str.ofString "__next__") hit.typeIs Fj (D6 Fj hit.typeIs PySem.F.entry_tuple_iterator_next ?_ (PySem.F.args_tuple_iterator_next_1 _)));show wpAny _ _ (field (.ref it) 0 >>= _) _ _ s;refine ZM (Gr ho hd (x:=.ref t) rfl ?_);show wpAny _ _ (if (Value.ref t == Value.none)=true then _ else _) _ _ s;rw[Uu (show ¬((Value.ref t == Value.none)=true) from DV)];show wpAny _ _ (field (.ref it) 1 >>= _) _ _ s;refine ZM (Gr ho hd (x:=.int i 0) rfl ?_);show wpAny _ _ (seqItems? (.ref t) >>= _) _ _ s;refine ZM (Bt LQ O5 ?_);simp only[AR,hx];refine ZM (SQ ho hd Ro (Pf ⟨x,rfl,Pf (hQ _ ?_ (MS ..))⟩));exact⟨_,xK _ ho (WS (Nr hd _)),(Obj.cls_mapFields ..).trans hc,by rw[Nr hd];simp[rawInt]⟩
theorem nK{items}(hh:A.handled=none)
  (hit:s.heap.IsTupleIter it t i) (ht:s.heap.IsTuple t items) (hx:items[i]?=none)
  (hE:∀h' e,Heap.ExtBut it s.heap h'->(∃o,h'.get? e=some o/\o.cls=.type "StopIteration")->E (.ref e) {s with heap:=h'}) :
  wpAny (model prog w) A (Builtin.SmallTypes.nextOf (.ref it)) Q E s:=by
 obtain⟨o,ho,hc,hd⟩:=id hit;refine VP.gl fun QQ eQ=>?_;obtain⟨ol,LQ,_,nl,O5⟩:=ht;subst eQ;unfold Builtin.SmallTypes.nextOf;refine ZM (yp (name:=Str.ofString "__next__") hit.typeIs Fj (D6 Fj hit.typeIs PySem.F.entry_tuple_iterator_next ?_ (PySem.F.args_tuple_iterator_next_1 _)));show wpAny _ _ (field (.ref it) 0 >>= _) _ _ s;refine ZM (Gr ho hd (x:=.ref t) rfl ?_);show wpAny _ _ (if (Value.ref t == Value.none)=true then _ else _) _ _ s;rw[Uu (show ¬((Value.ref t == Value.none)=true) from DV)];show wpAny _ _ (field (.ref it) 1 >>= _) _ _ s;refine ZM (Gr ho hd (x:=.int i 0) rfl ?_);show wpAny _ _ (seqItems? (.ref t) >>= _) _ _ s;refine ZM (Bt LQ O5 ?_);simp only[AR,hx];refine ZM (AN (ZM (SQ ho hd Ro ?_)));show wpAny _ _ (newExc (.type "StopIteration") [] >>= _) _ _ _;refine ZM ?_;simp only[newExc,newTuple];refine ZM (Eb ?_ (by size_fits));refine ZM (m:=firstArgMember _ _) (Iy (a:=Value.none) (by first|rfl|(simp only[firstArgMember];rfl)) ?_);refine Eb ?_ (by size_fits);simp only[raiseNew];refine ZM (wpAny_handled ?_);first|rw[show A.in1.handled=none from hh]|rw[hh]
 refine ZM (Pf (wpAny_throw ?_));exact hE _ _ (((MS ..).extBut.push _).push _) ⟨_,TR _ rfl,rfl⟩
end
def jF(t:Bool)(it a:Addr)(i:Nat)(h:Heap):Prop:=if t then h.IsTupleIter it a i else h.IsListIter it a i
def pQ(t:Bool)(h:Heap)(a:Addr)(items:Array Value):Prop:=if t then h.IsTuple a items else h.IsList a items
theorem jF.at(x:jF t it a i h)(e:∀o,h.get? it=some o->h'.get? it=some o):jF t it a i h':=by cases t;exact Heap.IsListIter.at (h:=h) (h':=h') x e;exact Heap.IsTupleIter.at (h:=h) (h':=h') x e
theorem jF.obj(x:jF t it a i h):∃o,h.get? it=some o/\∀v,o.data≠.cell v:=by cases t;obtain⟨o,e,c,d⟩:=(show h.IsListIter it a i from x);exact⟨o,e,fun v z=>by rw[d] at z;cases z⟩;obtain⟨o,e,c,d⟩:=(show h.IsTupleIter it a i from x);exact⟨o,e,fun v z=>by rw[d] at z;cases z⟩
theorem ke(hh:A.handled=none)(t:Bool)(it l:Addr)(AJ:l≠it)(items:Array Value) : Draws prog w A it [it,l] items.size (fun i v=>items[i]?=some v) (fun i h=>jF t it l i h/\pQ t h l items):=by
 cases t with
 |false=>exact Draws.list hh it l AJ items|true=>exact {
  live:=fun _ _ st=>let ⟨o,ho,_⟩:=st.1;⟨o,ho⟩
  frame:=fun _ _ _ st hk=>⟨Heap.IsTupleIter.at st.1 fun o e=>hk it Ro o e,by obtain⟨o,e,r⟩:=(show Heap.IsTuple _ l items from st.2);exact⟨o,hk l Ro o e,r⟩⟩
  item:=fun i s Q E hi st hQ=>by refine mj (show s.heap.IsTupleIter it l i from st.1) (show s.heap.IsTuple l items from st.2) (x:=items[i]) (by simp[hi]) fun h' GN FT=>?_;refine hQ _ h' s.toks (by simp[hi]) ⟨GN,?_⟩ FT;obtain⟨o,e,r⟩:=(show Heap.IsTuple _ l items from st.2);exact⟨o,FT.extBut l o AJ e,r⟩
  done:=fun s Q E st hE=>nK hh (show s.heap.IsTupleIter it l _ from st.1) (show s.heap.IsTuple l items from st.2) Ro hE}
section
variable{prog:Program}{w:World}{A:Around}{E:RG}{s:Shared}{z TI TO i1 i2:Addr}{JV JW:XU}{n1 n2 k:Nat}{P1 P2:Nat->Value->Prop}{OV P0:Nat->Heap->Prop}{a b:Value}
structure tx(z TI TO i1 i2:Addr)(JV JW:XU):Prop where
 TIz:TI≠z
 TOz:TO≠z
 i1z:i1≠z
 i2z:i2≠z
 TITO:TI≠TO
 TIi1:TI≠i1
 TIi2:TI≠i2
 TOi1:TO≠i1
 TOi2:TO≠i2
 i12:i1≠i2
 z1:z∉JV
 z2:z∉JW
 o1:TO∉JV
 o2:TO∉JW
 Yl:i1∉JW
 Z9:i2∉JV
theorem BB{Q:RG}(D1:Draws prog w A i1 JV n1 P1 OV)(D2:Draws prog w A i2 JW n2 P2 P0)(D:tx z TI TO i1 i2 JV JW)
  (hz:IsZip s.heap z TI TO .none) (xt:IsPair s.heap TI (.ref i1) (.ref i2)) (zx:IsPair s.heap TO a b) (h1:OV k s.heap) (h2:P0 k s.heap) (k1:k<n1) (k2:k<n2)
  (hQ:∀x y h' tk,P1 k x->P2 k y->IsZip h' z TI TO (rawInt s.heap.objs.size)->IsPair h' TO x y->OV (k+1) h'->P0 (k+1) h'->IsPair h' s.heap.objs.size x y->(∀c o,c≠z->c≠TO->c≠i1->c≠i2->s.heap.get? c=some o->h'.get? c=some o)->Q (.ref s.heap.objs.size) {s with heap:=h',toks:=tk}) :
  wpAny (model prog w) A (Builtin.«zip.__next__» ⟨[.ref z],[]⟩) (fun fin s'=>∃v,fin=.done (.ret v)/\Q v s') E s:=by
 show wpAny _ _ (field (.ref z) 2 >>= _) _ _ _;refine ZM (Gr hz rfl (x:=.bool false) rfl ?_);show wpAny _ _ (field (.ref z) 3 >>= _) _ _ _;refine ZM (Gr hz rfl (x:=.ref TI) rfl ?_);refine ZM (Bt xt rfl ?_);show wpAny _ _ (Builtin.SmallTypes.ownedTupleIsFree (.ref z) >>= _) _ _ _;refine ZM ?_;unfold Builtin.SmallTypes.ownedTupleIsFree;refine ZM (Gr hz rfl (x:=.none) rfl (Pf ?_));simp only[if_true];refine ZM (AN ?_);refine ZM (Gr hz rfl (x:=.ref TO) rfl ?_);refine ZM (Jj hz Ro fun h₁ oC jR=>?_);replace oC:IsZip h₁ z TI TO .ellipsis:=oC;refine ZM ?_;simp only[List.zipIdx_cons,List.zipIdx_nil,List.forIn_cons,List.forIn_nil];refine ZM (ZM (DP ?_));show wpAny _ _ (Builtin.SmallTypes.nextOf (.ref i1) >>= _) _ _ _;refine ZM (D1.item k _ _ _ k1 (D1.frame k _ h₁ h1 fun b hb o e=>jR.extBut b o (fun q=>D.z1 (q ▸ hb)) e) fun x lX Tc px JY fP=>Pf ?_);replace fP:Heap.SameBut i1 h₁ lX:=fP;have qj:IsPair lX TO a b:=fP.extBut _ _ D.TOi1 (jR.extBut _ _ D.TOz zx);refine ZM (Bt qj rfl ?_);refine ZM (UR qj fun oV tT gh=>?_);replace tT:IsPair oV TO x b:=tT;replace gh:Heap.SameBut TO lX oV:=gh;refine ZM (An (Pf ?_));refine ZM (ZM (DP ?_));show wpAny _ _ (Builtin.SmallTypes.nextOf (.ref i2) >>= _) _ _ _;refine ZM (D2.item k _ _ _ k2 (D2.frame k _ oV h2 fun b hb o e=>gh.extBut b o (fun q=>D.o2 (q ▸ hb)) (fP.extBut b o (fun q=>D.Yl (q ▸ hb)) (jR.extBut b o (fun q=>D.z2 (q ▸ hb)) e))) fun y xA Yi py QC ju=>Pf ?_);replace ju:Heap.SameBut i2 oV xA:=ju;have Dy:IsPair xA TO x b:=ju.extBut _ _ D.TOi2 tT;refine ZM (Bt Dy rfl ?_);refine ZM (UR Dy fun lg tU kP=>?_);replace tU:IsPair lg TO x y:=tU;replace kP:Heap.SameBut TO xA lg:=kP;refine ZM (An (Pf (Pf ?_)));refine ZM (Bt tU rfl ?_);refine ZM (wpAny_newTuple ?_);have hsz:lg.objs.size=s.heap.objs.size:=by rw[kP.1,ju.1,gh.1,fP.1,jR.1]
 have Kh:IsZip lg z TI TO .ellipsis:=kP.extBut _ _ D.TOz.symm (ju.extBut _ _ D.i2z.symm (gh.extBut _ _ D.TOz.symm (fP.extBut _ _ D.i1z.symm oC)));have QR:∀c o,c≠z->c≠TO->c≠i1->c≠i2->s.heap.get? c=some o->lg.get? c=some o:=fun c o c1 c2 c3 c4 e=>kP.extBut _ _ c2 (ju.extBut _ _ c4 (gh.extBut _ _ c2 (fP.extBut _ _ c3 (jR.extBut _ _ c1 e))));have Q0:z<lg.objs.size:=Ta Kh;show wpAny _ _ (Builtin.SmallTypes.ownedTupleHandOut (.ref z) (.ref lg.objs.size) >>= _) _ _ _;refine ZM ?_;unfold Builtin.SmallTypes.ownedTupleHandOut;have Q1:IsZip (lg.push {cls:=.type "tuple",data:=.seq #[x,y]}) z TI TO .ellipsis:=T2 _ Kh;refine ZM (Jj Q1 Ro fun VN DN Kc=>?_);replace DN:IsZip VN z TI TO (rawInt lg.objs.size):=DN;refine Jj DN Ro fun AK zC Ke=>?_;replace zC:IsZip AK z TI TO (rawInt lg.objs.size):=zC;have up:∀c o,c≠z->lg.get? c=some o->AK.get? c=some o:=fun c o c1 e=>Ke.extBut _ _ c1 (Kc.extBut _ _ c1 (T2 _ e));have J0:IsPair AK lg.objs.size x y:=Ke.extBut _ _ (Ov Q0) (Kc.extBut _ _ (Ov Q0) (TR _ rfl));rw[hsz] at zC J0;refine Pf ⟨_,rfl,?_⟩;show Q (.ref lg.objs.size) _;rw[hsz];refine hQ x y AK _ px py zC (up _ _ D.TOz tU) (D1.frame _ lX AK JY fun b hb o e=>up b o (fun q=>D.z1 (q ▸ hb)) (kP.extBut b o (fun q=>D.o1 (q ▸ hb)) (ju.extBut b o (fun q=>D.Z9 (q ▸ hb)) (gh.extBut b o (fun q=>D.o1 (q ▸ hb)) e)))) (D2.frame _ xA AK QC fun b hb o e=>up b o (fun q=>D.z2 (q ▸ hb)) (kP.extBut b o (fun q=>D.o2 (q ▸ hb)) e)) J0 fun c o c1 c2 c3 c4 e=>up c o c1 (QR c o c1 c2 c3 c4 e)
theorem FH{Q:Fin->Shared->Prop}{m:Nat}(hh:A.handled=none)(D1:Draws prog w A i1 JV n1 P1 OV)(D2:Draws prog w A i2 JW n2 P2 P0)(D:tx z TI TO i1 i2 JV JW)
  (hz:IsZip s.heap z TI TO .none) (xt:IsPair s.heap TI (.ref i1) (.ref i2)) (zx:IsPair s.heap TO a b) (h1:OV k s.heap) (h2:P0 k s.heap) (DA:k=n1\/(k<n1/\k=n2))
  (hE:∀h' e tk,(∀c o,c≠z->c≠TO->c≠i1->c≠i2->s.heap.get? c=some o->h'.get? c=some o)->(∃o,h'.get? e=some o/\o.cls=.type "StopIteration")->E (.ref e) {s with heap:=h',toks:=tk}) :
  wpAny (model prog w) A (Builtin.«zip.__next__» ⟨[.ref z],[]⟩) Q E s:=by
 show wpAny _ _ (field (.ref z) 2 >>= _) _ _ _;refine ZM (Gr hz rfl (x:=.bool false) rfl ?_);show wpAny _ _ (field (.ref z) 3 >>= _) _ _ _;refine ZM (Gr hz rfl (x:=.ref TI) rfl ?_);refine ZM (Bt xt rfl ?_);show wpAny _ _ (Builtin.SmallTypes.ownedTupleIsFree (.ref z) >>= _) _ _ _;refine ZM ?_;unfold Builtin.SmallTypes.ownedTupleIsFree;refine ZM (Gr hz rfl (x:=.none) rfl (Pf ?_));simp only[if_true];refine ZM (AN ?_);refine ZM (Gr hz rfl (x:=.ref TO) rfl ?_);refine ZM (Jj hz Ro fun h₁ oC jR=>?_);replace oC:IsZip h₁ z TI TO .ellipsis:=oC;refine ZM ?_;simp only[List.zipIdx_cons,List.zipIdx_nil,List.forIn_cons,List.forIn_nil];refine ZM (ZM (DP ?_));show wpAny _ _ (Builtin.SmallTypes.nextOf (.ref i1) >>= _) _ _ _;have Yf:OV k h₁:=D1.frame k _ h₁ h1 fun b hb o e=>jR.extBut b o (fun q=>D.z1 (q ▸ hb)) e;rcases DA with rfl|⟨k1,rfl⟩;refine ZM (D1.done _ _ _ Yf fun lX e fP he=>?_);obtain⟨oe,LP,QI⟩:=he;have Kf:IsZip lX z TI TO .ellipsis:=fP _ _ D.i1z.symm oC;have Vn:e≠z:=fun x=>by subst x;rw[Kf] at LP;cases LP;simp at QI
 refine Jj Kf Ro fun oV _ gh=>hE oV e _ (fun c o c1 _ c3 _ x=>gh.extBut _ _ c1 (fP _ _ c3 (jR.extBut _ _ c1 x))) ⟨oe,gh.extBut _ _ Vn LP,QI⟩;refine ZM (D1.item k _ _ _ k1 Yf fun x lX Tc px JY fP=>Pf ?_);replace fP:Heap.SameBut i1 h₁ lX:=fP;have qj:IsPair lX TO a b:=fP.extBut _ _ D.TOi1 (jR.extBut _ _ D.TOz zx);refine ZM (Bt qj rfl ?_);refine ZM (UR qj fun oV tT gh=>?_);replace gh:Heap.SameBut TO lX oV:=gh;refine ZM (An (Pf ?_));refine ZM (ZM (DP ?_));show wpAny _ _ (Builtin.SmallTypes.nextOf (.ref i2) >>= _) _ _ _;refine ZM (D2.done _ _ _ (D2.frame k _ oV h2 fun b hb o e=>gh.extBut b o (fun q=>D.o2 (q ▸ hb)) (fP.extBut b o (fun q=>D.Yl (q ▸ hb)) (jR.extBut b o (fun q=>D.z2 (q ▸ hb)) e))) fun xA e ju he=>?_);replace ju:Heap.ExtBut i2 oV xA:=ju;obtain⟨oe,LP,QI⟩:=he;have Kg:IsZip xA z TI TO .ellipsis:=ju _ _ D.i2z.symm (gh.extBut _ _ D.TOz.symm (fP.extBut _ _ D.i1z.symm oC));have Vn:e≠z:=fun x=>by subst x;rw[Kg] at LP;cases LP;simp at QI
 refine Jj Kg Ro fun lg _ kP=>hE lg e _ (fun c o c1 c2 c3 c4 x=>kP.extBut _ _ c1 (ju _ _ c4 (gh.extBut _ _ c2 (fP.extBut _ _ c3 (jR.extBut _ _ c1 x))))) ⟨oe,kP.extBut _ _ Vn LP,QI⟩
end
abbrev DT(t:Bool)(l:Addr):Obj:={cls:=.type (if t then "tuple_iterator" else "list_iterator"),data:=.fields #[.ref l,.int 0 0]}
abbrev UA(h:Heap)(t1:Bool)(l1:Addr):Heap:=h.push (DT t1 l1)
abbrev UB(h:Heap)(t1 t2:Bool)(l1 l2:Addr):Heap:=(UA h t1 l1).push (DT t2 l2)
abbrev UC(h:Heap)(t1 t2:Bool)(l1 l2:Addr):Heap:=(UB h t1 t2 l1 l2).push {cls:=.type "tuple",data:=.seq #[.ref h.objs.size,.ref (UA h t1 l1).objs.size]}
abbrev UD(h:Heap)(t1 t2:Bool)(l1 l2:Addr):Heap:=(UC h t1 t2 l1 l2).push {cls:=.type "tuple",data:=.seq #[.none,.none]}
abbrev Pr(h:Heap)(t1 t2:Bool)(l1 l2:Addr):Heap:=(UD h t1 t2 l1 l2).push {cls:=.type "zip",data:=.fields #[.none,.bool false,.bool false,.ref (UB h t1 t2 l1 l2).objs.size,.ref (UC h t1 t2 l1 l2).objs.size]}
theorem IsTuple.push{h:Heap}{a:Addr}{items:Array Value}(x:h.IsTuple a items)(o:Obj):(h.push o).IsTuple a items:=let ⟨ob,e,r⟩:=x;⟨ob,T2 _ e,r⟩
set_option maxHeartbeats 4000000 in
theorem A5(t1 t2:Bool)(l1 l2:Addr)(xs ys:Array Value) : Meets (Builtin.«zip.__new__» ⟨[.type "zip",.ref l1,.ref l2],[]⟩) (fun _ R s=>pQ t1 s.heap l1 xs/\pQ t2 s.heap l2 ys/\R (.ok (.ret (.ref (UD s.heap t1 t2 l1 l2).objs.size))) {s with heap:=Pr s.heap t1 t2 l1 l2}):=
 .of_wp fun prog w A R s h=>by
  refine VP.gl fun QQ eQ=>?_;obtain⟨hp,g,d,tk,os⟩:=s;obtain⟨GO,J9,h⟩:=h;subst eQ;have DK:=sub_zip;cases t1 with
   |false=>
    have QF:Heap.IsList (Shared.heap ⟨hp,g,d,tk,os⟩) l1 xs:=GO;cases t2 with
    |false=>
     have LJ:Heap.IsList (Shared.heap ⟨hp.push {cls:=.type "list_iterator",data:=.fields #[.ref l1,.int 0 0]},g,d,tk,os⟩) l2 ys:=Heap.IsList.push J9 _
     wp_walk using qY QF,qY LJ
     exact⟨_,rfl,h⟩
    |true=>
     have LJ:Heap.IsTuple (Shared.heap ⟨hp.push {cls:=.type "list_iterator",data:=.fields #[.ref l1,.int 0 0]},g,d,tk,os⟩) l2 ys:=IsTuple.push J9 _
     wp_walk using qY QF,GJ LJ
     exact⟨_,rfl,h⟩
   |true=>
    have QF:Heap.IsTuple (Shared.heap ⟨hp,g,d,tk,os⟩) l1 xs:=GO;cases t2 with
    |false=>
     have LJ:Heap.IsList (Shared.heap ⟨hp.push {cls:=.type "tuple_iterator",data:=.fields #[.ref l1,.int 0 0]},g,d,tk,os⟩) l2 ys:=Heap.IsList.push J9 _
     wp_walk using GJ QF,qY LJ
     exact⟨_,rfl,h⟩
    |true=>
     have LJ:Heap.IsTuple (Shared.heap ⟨hp.push {cls:=.type "tuple_iterator",data:=.fields #[.ref l1,.int 0 0]},g,d,tk,os⟩) l2 ys:=IsTuple.push J9 _
     wp_walk using GJ QF,GJ LJ
     exact⟨_,rfl,h⟩
theorem sU(e:h.get? it=some (DT t l)):jF t it l 0 h:=by cases t;exact⟨_,e,rfl,rfl⟩;exact⟨_,e,rfl,rfl⟩
theorem CS{prog:Program}{w:World}{A:Around}{E:RG}{s:Shared}{t1 t2:Bool}{l1 l2:Addr}{xs ys:Array Value}{Q:RG}(GO:pQ t1 s.heap l1 xs)(J9:pQ t2 s.heap l2 ys)
  (h:∀h',IsZip h' (s.heap.objs.size+4) (s.heap.objs.size+2) (s.heap.objs.size+3) .none->IsPair h' (s.heap.objs.size+2) (.ref s.heap.objs.size) (.ref (s.heap.objs.size+1)) ->
   IsPair h' (s.heap.objs.size+3) .none .none->jF t1 s.heap.objs.size l1 0 h'->jF t2 (s.heap.objs.size+1) l2 0 h' ->
   (∀c o,s.heap.get? c=some o->h'.get? c=some o)->Q (.ref (s.heap.objs.size+4)) {s with heap:=h'}) :
  wpAny (model prog w) A (call (.type "zip") [.ref l1,.ref l2]) Q E s:=by
 refine callType_new PySem.F.called_zip (by decide) (PySem.F.typeCall_zip_2 _ _) (PySem.F.newCall_zip_2 _ _) (fun obj=>PySem.F.args_object_init_3 obj _ _) PySem.F.entry_zip_new (A5 t1 t2 l1 l2 xs ys) ⟨GO,J9,?_⟩;have z1:(UA s.heap t1 l1).objs.size=s.heap.objs.size+1:=A6 ..;have z2:(UB s.heap t1 t2 l1 l2).objs.size=s.heap.objs.size+2:=by rw[A6,z1]
 have z3:(UC s.heap t1 t2 l1 l2).objs.size=s.heap.objs.size+3:=by rw[A6,z2]
 have z4:(UD s.heap t1 t2 l1 l2).objs.size=s.heap.objs.size+4:=by rw[A6,z3]
 have g5:(Pr s.heap t1 t2 l1 l2).get? (UD s.heap t1 t2 l1 l2).objs.size=some _:=TR _ rfl;have g4:(Pr s.heap t1 t2 l1 l2).get? (UC s.heap t1 t2 l1 l2).objs.size=some _:=T2 _ (TR _ rfl);have g3:(Pr s.heap t1 t2 l1 l2).get? (UB s.heap t1 t2 l1 l2).objs.size=some _:=T2 _ (T2 _ (TR _ rfl));have g2:(Pr s.heap t1 t2 l1 l2).get? (UA s.heap t1 l1).objs.size=some _:=T2 _ (T2 _ (T2 _ (TR _ rfl)));have g1:(Pr s.heap t1 t2 l1 l2).get? s.heap.objs.size=some _:=T2 _ (T2 _ (T2 _ (T2 _ (TR _ rfl))));show _/\_;rw[z2,z3,z4] at g5;rw[z1,z2] at g3;rw[z3] at g4;rw[z1] at g2;rw[z4];exact⟨⟨_,g5,rfl⟩,h _ g5 g3 g4 (sU g1) (sU g2) fun c o x=>T2 _ (T2 _ (T2 _ (T2 _ (T2 _ x))))⟩
def lH(K:Frag)(H:Hp)(t:Bool)(p:Addr)(xs:OY):Prop:=if t then dz K H p xs else cX K H p xs
theorem Inv.pf{X:Cx}{Ug:U5}{σ:St}{H:Hp}{s:Shared}{t:Bool}{p:Addr}{xs:OY}(I:Inv X Ug σ H s)(h:lH X.K H t p xs):∃aI:Ul,Vals xs aI/\pQ t s.heap p aI.toArray:=by cases t;obtain⟨aI,rv,pl,_⟩:=I.list (show cX X.K H p xs from h);exact⟨aI,rv,pl.isList⟩;obtain⟨aI,rv,pl,_⟩:=I.tuple (show dz X.K H p xs from h);exact⟨aI,rv,pl⟩
theorem Inv.qM{X:Cx}{Ug:U5}{σ:St}{H:Hp}{s:Shared}{t:Bool}{p:Addr}{xs ys:OY}(I:Inv X Ug σ H s)(h:lH X.K H t p xs)(h':lH X.K H t p ys):xs=ys:=by cases t;exact I.qt h h';exact I.sY h h'
def UN(K:Frag)(t1 t2:Bool)(p1 p2:Addr):It:=⟨fun i H=>∃xs ys x y,lH K H t1 p1 xs/\lH K H t2 p2 ys/\xs[i]?=some x/\ys[i]?=some y,
 fun i H v H'=>∃q x y,H q=none/\v=.ref q/\H'=upd H q (.tup [x,y])/\(∀xs,lH K H t1 p1 xs->xs[i]?=some x)/\(∀ys,lH K H t2 p2 ys->ys[i]?=some y),
 fun i H=>∃xs ys,lH K H t1 p1 xs/\lH K H t2 p2 ys/\i<=xs.length/\i<=ys.length/\(xs.length<=i\/ys.length<=i)⟩
theorem Inv.pair{X:Cx}{Ug:U5}{σ:St}{H:Hp}{s:Shared}{fp:XU}{h':Heap}{tk:Nat}{x y:V}{u v:Value}(I:Inv X Ug σ H s)(hf:∀b∈fp,jy X Ug H b)
  (hk:∀c o,c∉fp->s.heap.get? c=some o->h'.get? c=some o) (hp:IsPair h' s.heap.objs.size u v) (rx:RelV x u) (ry:RelV y v) :
  Inv X Ug σ (upd H s.heap.objs.size (.tup [x,y])) {s with heap:=h',toks:=tk}:=by
 have hn:H s.heap.objs.size=none:=I.cj.fresh (ZS _);have FZ:∀{b:Addr}{o:HO},H b=some o->b∉fp:=fun {b o} e hb=>by rw[(hf b hb).1] at e;cases e
 refine I.CO (s':={s with heap:=h',toks:=tk}) (ch:=fp) rfl ⟨fun b o e n hb hx=>hk b o hx e,fun b o e n hb hx=>⟨o.slots,by rw[hk b o hx e]⟩,fun b o e n hx=>?_,fun b o e hx=>⟨o,hk b o hx e⟩,fun b xs e=>?_,fun b o u e=>?_,fun b o e=>?_⟩ (fun b o e=>?_) I.bare fun b hb=>⟨(hf b hb).2.2.2.1,(hf b hb).2.1,(hf b hb).2.2.2.2.1,(hf b hb).2.2.2.2.2⟩;rw[aU (Uh (Ta e))];exact n;rw[aU (bB e hn)];exact e;rw[aU (bB e hn)];exact e;exact⟨#[],by rw[aU (bB e hn),e];simp⟩;by_cases hb:b=s.heap.objs.size;subst hb;rw[aO] at e;cases e;exact⟨by show 2<=sizeLine;decide,[u,v],.cons rx (.cons ry .nil),⟨_,hp,rfl,⟨_,rfl⟩,rfl⟩⟩;rw[aU hb] at e;refine(I.cj b o e).yj (fun c w' hc q=>hk c w' ?_ q) (fun c q=>by rw[aU (bB q hn)];exact q) fun c xs q=>by rw[aU (bB q hn)];exact q
 rcases hc with rfl|hc;exact FZ e;exact FZ hc
theorem Inv.uJ{X:Cx}{Ug:U5}{σ:St}{H:Hp}{s:Shared}{fp:XU}{h':Heap}{tk:Nat}(I:Inv X Ug σ H s)(hf:∀b∈fp,jy X Ug H b)(hk:∀c o,c∉fp->s.heap.get? c=some o->h'.get? c=some o):Inv X Ug σ H {s with heap:=h',toks:=tk}:=by
 have FZ:∀{b:Addr}{o:HO},H b=some o->b∉fp:=fun {b o} e hb=>by rw[(hf b hb).1] at e;cases e
 refine I.CO (s':={s with heap:=h',toks:=tk}) (ch:=fp) rfl ⟨fun b o e n hb hx=>hk b o hx e,fun b o e n hb hx=>⟨o.slots,by rw[hk b o hx e]⟩,fun b o e n hx=>n,fun b o e hx=>⟨o,hk b o hx e⟩,fun b xs e=>e,fun b o u e=>e,fun b o e=>⟨#[],by rw[e];simp⟩⟩ (fun b o e=>?_) I.bare fun b hb=>⟨(hf b hb).2.2.2.1,(hf b hb).2.1,(hf b hb).2.2.2.2.1,(hf b hb).2.2.2.2.2⟩;refine(I.cj b o e).yj (fun c w' hc q=>hk c w' ?_ q) (fun c q=>q) fun c xs q=>q;rcases hc with rfl|hc;exact FZ e;exact FZ hc
theorem Fy{P:Program}{w:World}{K:Frag}{es:Wg}{k:Nat}{pj:Pos}(t1 t2:Bool){p1 p2 z TI TO i1 i2:Addr}(D:tx z TI TO i1 i2 [i1,p1] [i2,p2])(n1:p1≠i1)(n2:p2≠i2) : Turn P w K (.Tuple es k pj) (UN K t1 t2 p1 p2) [z,TI,TO,i1,i2] z (fun i h=>IsZip h z TI TO .none/\IsPair h TI (.ref i1) (.ref i2)/\(∃a b,IsPair h TO a b)/\jF t1 i1 p1 i h/\jF t2 i2 p2 i h) where
 mem:=Ro
 obj:=fun i h st b hb=>by
  refine VP.gl fun QQ eQ=>?_;obtain⟨hz,xt,⟨a,c,zx⟩,h1,h2⟩:=st;subst eQ;simp only[List.mem_cons,List.not_mem_nil,or_false] at hb;rcases hb with rfl|rfl|rfl|rfl|rfl
  ·exact⟨_,hz,fun v q=>by cases q⟩
  ·exact⟨_,xt,fun v q=>by cases q⟩
  ·exact⟨_,zx,fun v q=>by cases q⟩
  ·exact h1.obj
  ·exact h2.obj
 keep:=fun i h h' st kk=>by refine VP.gl fun QQ eQ=>?_;obtain⟨hz,xt,⟨a,c,zx⟩,h1,h2⟩:=st;subst eQ;exact⟨kk z Ro _ hz,kk TI Ro _ xt,⟨a,c,kk TO Ro _ zx⟩,h1.at fun o e=>kk i1 Ro o e,h2.at fun o e=>kk i2 Ro o e⟩
 item:=by
  intro X hP hw hK hc i Ug s σ H E I hf st hg;subst hP hw hK;refine VP.gl fun QQ eQ=>?_;obtain⟨hz,xt,⟨a,c,zx⟩,h1,h2⟩:=st;subst eQ;refine VP.gl fun QQ eQ=>?_;obtain⟨xs,ys,x,y,q1,q2,e1,e2⟩:=hg;subst eQ;obtain⟨vK,Um,s1⟩:=Inv.pf I q1;obtain⟨jC,Uo,s2⟩:=Inv.pf I q2;obtain⟨u,hu,ru⟩:=Um.get e1;obtain⟨v,hv,rv⟩:=Uo.get e2;have hh:X.A.handled=none:=I.ok.hd hc;have hT:s.TypeIs (.ref z) "zip" := ⟨_,hz,rfl⟩;unfold pyNext;have V5:i<vK.toArray.size:=by have:=(List.getElem?_eq_some_iff.mp hu).1;simpa using this
  have ZL:i<jC.toArray.size:=by have:=(List.getElem?_eq_some_iff.mp hv).1;simpa using this
  refine ZM (SV (yp (name:=Str.ofString "__next__") hT vS (D6 vS hT PySem.F.entry_zip_next (BB (ke (by exact hh) t1 i1 p1 n1 vK.toArray) (ke (by exact hh) t2 i2 p2 n2 jC.toArray) D hz xt zx ⟨h1,s1⟩ ⟨h2,s2⟩ V5 ZL fun x' y' h' tk px py z1 o1 w1 w2 pr kp=>Pf ?_) (PySem.F.args_zip_next_1 _))));have ex:x'=u:=by
   have:vK.toArray[i]?=some u:=by simpa using hu
   rw[this] at px;exact(OH px).symm
  have ey:y'=v:=by
   have:jC.toArray[i]?=some v:=by simpa using hv
   rw[this] at py;exact(OH py).symm
  subst ex ey;refine⟨_,rfl,wpAny_letOwnedTupleGo_zip z1 fun LI z2 sb=>?_⟩;replace sb:Heap.SameBut z h' LI:=sb;have Ja:z≠s.heap.objs.size:=Uh (Ta hz);have VX:∀c o,c∉[z,TI,TO,i1,i2]->s.heap.get? c=some o->LI.get? c=some o:=fun c o rj e=>by simp only[List.mem_cons,List.not_mem_nil,or_false,not_or] at rj;exact sb.extBut c o rj.1 (kp c o rj.1 rj.2.2.1 rj.2.2.2.1 rj.2.2.2.2 e)
  have IX:=Inv.pair (tk:=tk) (h':=LI) (x:=x) (y:=y) I hf VX (sb.extBut _ _ (Ry Ja) pr) ru rv;refine⟨.ref s.heap.objs.size,_,IX,rfl,⟨_,x,y,I.cj.fresh (ZS _),rfl,rfl,fun xs' DL=>by rw[Inv.qM I DL q1];exact e1,fun ys' Zw=>by rw[Inv.qM I Zw q2];exact e2⟩,⟨z2,sb.extBut _ _ D.TIz (kp _ _ D.TIz D.TITO D.TIi1 D.TIi2 xt),⟨_,_,sb.extBut _ _ D.TOz o1⟩,w1.1.at fun o e=>sb.extBut _ o D.i1z e,w2.1.at fun o e=>sb.extBut _ o D.i2z e⟩,fun b hb=>?_⟩;have O3:b≠s.heap.objs.size:=by
   obtain⟨ob,e,_⟩:∃o,s.heap.get? b=some o/\∀v,o.data≠.cell v:=by
    simp only[List.mem_cons,List.not_mem_nil,or_false] at hb;rcases hb with rfl|rfl|rfl|rfl|rfl
    ·exact⟨_,hz,fun v q=>by cases q⟩
    ·exact⟨_,xt,fun v q=>by cases q⟩
    ·exact⟨_,zx,fun v q=>by cases q⟩
    ·exact h1.obj
    ·exact h2.obj
   exact Uh (Ta e)
  rw[aU O3];exact(hf b hb).1
 done:=by
  intro X hP hw hK hc i Ug s σ H E I hf st hg;subst hP hw hK;refine VP.gl fun QQ eQ=>?_;obtain⟨hz,xt,⟨a,c,zx⟩,h1,h2⟩:=st;subst eQ;refine VP.gl fun QQ eQ=>?_;obtain⟨xs,ys,q1,q2,b1,b2,DA⟩:=hg;subst eQ;obtain⟨vK,Um,s1⟩:=Inv.pf I q1;obtain⟨jC,Uo,s2⟩:=Inv.pf I q2;have l1:=Um.length;have l2:=Uo.length;have hh:X.A.handled=none:=I.ok.hd hc;have hT:s.TypeIs (.ref z) "zip" := ⟨_,hz,rfl⟩;have he:i=vK.toArray.size\/(i<vK.toArray.size/\i=jC.toArray.size):=by simp;lia
  unfold pyNext;refine ZM (SV (yp (name:=Str.ofString "__next__") hT vS (D6 vS hT PySem.F.entry_zip_next (FH (m:=0) (by exact hh) (ke (by exact hh) t1 i1 p1 n1 vK.toArray) (ke (by exact hh) t2 i2 p2 n2 jC.toArray) D hz xt zx ⟨h1,s1⟩ ⟨h2,s2⟩ he fun h' e tk hk he=>?_) (PySem.F.args_zip_next_1 _))));obtain⟨o,ho,rj⟩:=he;refine ZM (S0 (T:="StopIteration") (b:=true) ⟨o,ho,rj⟩ isSubtype_stop ?_);refine Pf ⟨rfl,Inv.uJ (h':=h') I hf fun c o vF e=>?_⟩;simp only[List.mem_cons,List.not_mem_nil,or_false,not_or] at vF;exact hk c o vF.1 vF.2.2.1 vF.2.2.2.1 vF.2.2.2.2 e
 self:=fun _ _ _ _ _ st h=>wpAny_pyIter_zip st.1 h
section
variable{X:Cx}{EX:XE}{L:Lc}{e a b:Expr}{fa fb fe:M D}{pos p:Pos}{x:Str}
def VR(K:Frag)(t:TA):TI:=fun σ H R=>t σ H fun vs H1=>∃t1 t2 p1 p2,vs=[.ref p1,.ref p2]/\(∃xs,lH K H1 t1 p1 xs)/\(∃ys,lH K H1 t2 p2 ys)/\R (UN K t1 t2 p1 p2) H1
theorem NU{es:Wg}{k:Nat}{pj:Pos}{t:TA}(hg:Gl X "zip")(hm:X.mg "zip" = none)(ha:PA X [a,b] t)(hs:starEach [a,b] X.env=[(false,eval a X.env),(false,eval b X.env)]:=by rfl)(iM:starEach [b] X.env=[(false,eval b X.env)]:=by rfl) : PI X (.Tuple es k pj) (.Call (.Name "zip" p) [a,b] [] pos) (VR X.K t):=by
 intro Ug s σ H R I h;refine Call_ (dA I hg hm boot_zip (Nj (bT (ha pos Ug s σ H _ I h) fun us s1 zz=>?_) (by rw[hs,iM]) (by rw[iM];rfl)));obtain⟨vs,H1,I1,r1,q1⟩:=zz;obtain⟨t1,t2,p1,p2,e,⟨xs,h1⟩,⟨ys,h2⟩,q⟩:=q1;subst e;cases r1 with
 |cons r rr=>
  cases rr with
  |cons r' rr=>
   cases rr;cases r;cases r';obtain⟨vK,Um,Yc⟩:=Inv.pf I1 h1;obtain⟨jC,Uo,Yd⟩:=Inv.pf I1 h2;have lt:∀{t:Bool}{q:Addr}{aI:Array Value},pQ t s1.heap q aI->q<s1.heap.objs.size:=fun {t q aI} z=>by cases t;obtain⟨o,e,_⟩:=(show Heap.IsList _ _ _ from z);exact Ta e;obtain⟨o,e,_⟩:=(show Heap.IsTuple _ _ _ from z);exact Ta e
   have l1:=lt Yc;have l2:=lt Yd;refine CS Yc Yd fun h' hz xt zx Y7 O9 hk=>?_;refine wpAny_pyIter_zip hz ?_;have IX:Inv X Ug σ H1 {s1 with heap:=h'}:=I1.kept (t':=s1.toks) hk;have ne:∀{q:Addr}(j:Nat),q<s1.heap.objs.size->q≠s1.heap.objs.size+j:=fun {q} j hq=>Uh (Bc hq (WE _ _));have D:tx (s1.heap.objs.size+4) (s1.heap.objs.size+2) (s1.heap.objs.size+3) s1.heap.objs.size (s1.heap.objs.size+1) [s1.heap.objs.size,p1] [s1.heap.objs.size+1,p2]:=by have a1:=ne 4 l1;have a2:=ne 3 l1;have a3:=ne 1 l1;have b1:=ne 4 l2;have b2:=ne 3 l2;have b3:=ne 0 l2;refine⟨Ro,Ro,Ro,Ro,Ro,Ro,Ro,Ro,Ro,Ro,?_,?_,?_,?_,?_,?_⟩;simp[Ne.symm a1];simp[Ne.symm b1];simp[Ne.symm a2];simp[Ne.symm b2];simp;exact Ry b3;simp[Ne.symm a3]
   refine⟨_,[s1.heap.objs.size+4,s1.heap.objs.size+2,s1.heap.objs.size+3,s1.heap.objs.size,s1.heap.objs.size+1],_,_,H1,rfl,IX,Fy t1 t2 D (ne 0 l1) (ne 1 l2),⟨hz,xt,⟨_,_,zx⟩,Y7,O9⟩,fun c hc=>?_,q⟩;have hle:s1.heap.objs.size<=c:=by simp only[List.mem_cons,List.not_mem_nil,or_false] at hc;rcases hc with rfl|rfl|rfl|rfl|rfl;exact WE _ _;exact WE _ _;exact WE _ _;exact ZS _;exact WE _ _
   exact I1.qf hle (I1.cj.fresh hle)
theorem lH.same{K:Frag}{F F':Hp}{t:Bool}{q:Addr}{xs:OY}(h:lH K F t q xs)(e:aN F F'):lH K F' t q xs:=by cases t;exact cX.same h e;exact dz.same h e
theorem Den.seq{K:Frag}{mg:MG}{F:Hp}{v:V}{d:D}{ds:XW}(h:Den K mg F v d)(e:cq d=some ds):∃t q vs,v=.ref q/\lH K F t q vs/\aM K mg F vs ds:=by cases h with|tup h r=>cases e;exact⟨true,_,_,rfl,h,r⟩|lst h r=>cases e;exact⟨false,_,_,rfl,h,r⟩|_=>cases e
theorem G3{G:Fx}{F:Hp}{t1 t2:Bool}{p1 p2:Addr}{vs ws:OY}{ds es:XW}(Y9:∀(σ:St)(F' H':Hp)(ρ:aS),aN F F'->L.Good G F' H' σ ρ->True)(h1:lH L.K F t1 p1 vs)(r1:aM L.K L.mg F vs ds)(h2:lH L.K F t2 p2 ws)(r2:aM L.K L.mg F ws es) : FK L G F (UN L.K t1 t2 p1 p2) (List.zipWith (fun x y=>D.tup [x,y]) ds es):=fun σ i F' H' ρ s g=>by have q1:lH L.K H' t1 p1 vs:=(h1.same s).same g.sub;have q2:lH L.K H' t2 p2 ws:=(h2.same s).same g.sub;have l1:=r1.length;have l2:=r2.length;refine⟨fun hi=>?_,fun hi=>?_,fun x FJ y=>?_⟩;simp at hi;exact⟨vs,ws,vs[i]' Qt,ws[i]' Qt,q1,q2,by simp[show i<vs.length by lia],by simp[show i<ws.length by lia]⟩;simp at hi;exact⟨vs,ws,q1,q2,Qt,Qt,Qt⟩;obtain⟨q,u,v,hq,rfl,rfl,y1,y2⟩:=y;have sF:=bg (o:=.tup [u,v]) (g.sub.free hq);refine⟨_,sF,g.laid hq,fun d hd=>?_⟩;rw[List.getElem?_zipWith] at hd;cases e1:ds[i]? with|none=>rw[e1] at hd;cases hd|some d1=>cases e2:es[i]? with|none=>rw[e1,e2] at hd;cases hd|some d2=>rw[e1,e2] at hd;cases hd;obtain⟨u',a1,a2⟩:=(r1.same s).get e1;obtain⟨v',b1,b2⟩:=(r2.same s).get e2;rw[y1 vs q1] at a1;rw[y2 ws q2] at b1;cases a1;cases b1;exact .tup (dz.of aO) (.cons (a2.same sF) (.cons (b2.same sF) .nil))
theorem n6{es:Wg}{k:Nat}{pj:Pos}{fl:List (M D)}(hg:Gl X "zip")(hm:X.mg "zip" = none)(ha:Am X EX [a,b] (mL fl))(hs:starEach [a,b] X.env=[(false,eval a X.env),(false,eval b X.env)]:=by rfl)(iM:starEach [b] X.env=[(false,eval b X.env)]:=by rfl) : uK X EX (.Tuple es k pj) (.Call (.Name "zip" p) [a,b] [] pos) (rp fl):=
 (NU hg hm ha hs iM).le fun σ H Q bF=>dt bF fun G F F1 H1 bw d1 xs s1 g1 r1 o1=>by
  obtain⟨ds,e,q⟩:=o1.opt;unfold oa at e;split at e;rename_i c d;cases r1 with|cons h1 r1=>cases r1 with|cons h2 r1=>obtain rfl:=aM.n r1;cases e1:cq c with|none=>rw[e1] at e;cases e|some cs=>cases e2:cq d with|none=>rw[e1,e2] at e;cases e|some es=>rw[e1,e2] at e;cases e;obtain⟨t1,q1,vs,rfl,z1,y1⟩:=Den.seq h1 e1;obtain⟨t2,q2,ws,rfl,z2,y2⟩:=Den.seq h2 e2;exact⟨t1,t2,q1,q2,rfl,⟨_,z1.same g1.sub⟩,⟨_,z2.same g1.sub⟩,q F1 H1 _ s1 g1 (G3 (fun _ _ _ _ _ _=>trivial) z1 y1 z2 y2)⟩
  cases e
theorem ints_of{K:Frag}{mg:MG}{F:Hp}:∀{vs:OY}{ds:XW}{ns:T1},aM K mg F vs ds->dm ds=some ns->vs=ns.map V.int
|_,_,_,.nil,e=>by cases e;rfl|_,_,_,.cons (ds:=ds) h t,e=>by
 cases h with
 |int i=>simp only[dm] at e;cases q:dm ds with|none=>rw[q] at e;cases e|some ns=>rw[q] at e;cases e;rw[ints_of t q];rfl
 |_=>cases e
theorem RR.pf{G:Fx}{F H:Hp}{σ:St}{ρ:aS}{v:V}{d:D}{ds:XW}(h:RR L G F H σ ρ v d)(g:L.Good G F H σ ρ)(e:cq d=some ds):∃t q vs,v=.ref q/\aM L.K L.mg F vs ds/\lH L.K H t q vs:=by
 obtain⟨q,vs,rfl,r,z⟩:=RR.seq h g e;rcases z with ⟨_,z⟩|⟨_,z,_⟩
 exact⟨false,q,vs,rfl,r,z⟩;exact⟨true,q,vs,rfl,r,z⟩
theorem isLst_slot{G:Fx}{F H:Hp}{σ:St}{ρ:aS}{j:Nat}(g:L.Good G F H σ ρ)(h:isLst (own ρ[j]?)=true):∃l vs,σ[j]?=some (some (V.ref l))/\H l=some (.lst vs):=by
 have hs:(own ρ[j]?).isSome=true:=by cases q:own ρ[j]? with|none=>rw[q] at h;cases h|some d=>rfl
 obtain⟨l,d,h1,h2,h3⟩:=mq g hs;rw[h2] at h;cases d with|lst ds=>obtain⟨vs,z,_⟩:=h3;exact⟨l,vs,h1,z⟩|_=>cases h
theorem OM(i:Nat){V7 iX:Pos}(he:PV X EX e fe)(hN:X.N[i]?=some x:=by rfl)(hv:yz X.env.scope x:=by exact wg)(hd:WL x:=by decide)
  (kO:Le x:=by decide)
  (hpe:∀{to:TE}{t:TA},PE X (.Name x p) to->PA X [e] t->PE X (.Call (.Attribute (.Name x p) "append" V7) [e] [] iX) (Ux X.K "list" uz to t))
  (jB:Oa X e []:=by rfl):oh X EX (.Expr (.Call (.Attribute (.Name x p) "append" V7) [e] [] iX) pos) (lC i fe):=
 (uu (hpe (iw hN hv hd kO) (cB he fZ jB))).le fun E σ H bF=>xF bF fun G F ρ g0 o=>by unfold lC at o;by_cases hl:isLst (own ρ[i]?)=true;rw[Wr hl] at o;obtain⟨l,vs,z1,z2⟩:=isLst_slot (L:=lc X EX) g0 hl;refine⟨_,z1,.inl ⟨rfl,_,cX.of z2⟩,a7 g0 o (fun x r q=>q.x) fun F1 H1 bw d1 v s1 g1 r1 o1=>?_⟩;obtain⟨l',wJ,bQ,y1,y2,y3,g2,q⟩:=wF (L:=lc X EX) g1 r1 (Out.Pd o1);rw[z1] at y1;cases y1;exact⟨l,wJ,v,rfl,rfl,y2,y3,q F1 _ σ s1 g2⟩;rw[Uu hl] at o;exact o.elim
def z8(K:Frag):R2:=fun x y H Q=>∃l b xs zs,x=.ref l/\y=.ref b/\cX K H l xs/\cX K H b zs/\xs.length+zs.length<=sizeLine/\∀p,H p=none->Q (.ref p) (upd H p (.lst (xs++zs)))
theorem HF:gG X (binaryOp .Add) (z8 X.K):=by intro Ug s σ H x y v u Q I rx ry h;obtain⟨l,b,xs,zs,rfl,rfl,hH,hB,hz,q⟩:=h;cases rx;cases ry;obtain⟨aI,r,⟨⟨c1,d1,dt1,Z0⟩,n,e,hc,hd,T7⟩,_⟩:=I.list hH;obtain⟨jC,r2,⟨⟨c2,d2,dt2,Pn⟩,n2,e2,zy,hd2,QM⟩,_⟩:=I.list hB;simp only at hc hd T7 zy hd2 QM;subst hc T7 zy QM;refine concat_meets ⟨_,e,rfl⟩ ⟨_,e2,rfl⟩ noFill_list_add seq_list_add PySem.F.slot_list_add PySem.F.entry_list_add (PySem.F.args_list_add_2 _ _) (list_addW l b aI.toArray jC.toArray n n2 d1 d2 Z0 Pn (by rw[U6,U6,<-r.length,<-r2.length];exact hz)) ⟨e,e2,?_⟩;have ea:aI.toArray++jC.toArray=(aI++jC).toArray:=Ro;rw[ea];exact⟨.ref _,_,I.Mp (t':=s.toks) (r.append r2) (by rw[En];lia),rfl,q _ I.fresh⟩
theorem LB:kW L (z8 L.K) P4:=fun G F H σ ρ x y dx dy d Q g0 rx ry e k=>by
 cases dx with
 |lst xs=>cases dy with|lst ys=>simp only[P4] at e;split at e;rename_i hl;cases e;obtain⟨_,_,rfl,h1,r1⟩:=Den.l rx;obtain⟨_,_,rfl,h2,r2⟩:=Den.l ry;refine⟨_,_,_,_,rfl,rfl,cX.same h1 g0.sub,cX.same h2 g0.sub,by rw[r1.length,r2.length,<-wV];exact hl,fun p hp=>?_⟩;have sF:∀o,aN F (upd F p o):=fun o=>bg (o:=o) (g0.sub.free hp);exact k _ _ _ (sF _) (g0.laid hp) (.lst (cX.of aO) (aM.append (aM.same (sF _) r1) (aM.same (sF _) r2)));cases e|_=>cases e
 |_=>cases e
theorem aJ:gG X (binaryOp .Add) (fun x y H Q=>(wm fun i j=>.int (i+j)) x y H Q\/(z7 X.K x y H Q\/z8 X.K x y H Q)):=gG.or NC (gG.or HE HF)
theorem aR:kW L (fun x y H Q=>(wm fun i j=>.int (i+j)) x y H Q\/(z7 L.K x y H Q\/z8 L.K x y H Q)) a8:=fun G F H σ ρ x y dx dy d Q g0 rx ry e k=>by
 cases dx with
 |int _=>cases dy with|int _=>exact .inl (Qw G F H σ ρ x y _ _ d Q g0 rx ry e k)|_=>cases e
 |tup _=>cases dy with|tup _=>exact .inr (.inl (LC G F H σ ρ x y _ _ d Q g0 rx ry e k))|_=>cases e
 |lst _=>cases dy with|lst _=>exact .inr (.inr (LB G F H σ ρ x y _ _ d Q g0 rx ry e k))|_=>cases e
 |_=>cases e
def RO:Rl (Option Int) (Option Int):=fun _ _ _ _ _ b a=>b=a
def yx(X:Cx)(EX:XE)(e:Option Expr)(f:Option (M D)):Prop:=PO X e (lift (lc X EX) RO (l7 f))
theorem JA{X:Cx}{e:Option Expr}{t t':TO}(h:PO X e t)(k:∀σ H Q,t' σ H Q->t σ H Q):PO X e t':=fun Ug s σ H Q I q=>h Ug s σ H Q I (k _ _ _ q)
theorem bK:yx X EX none none:=JA Q0R fun σ H Q bF=>lf bF fun G F ρ g0 o=>o F H none (aN.refl _) g0 rfl
theorem bL(h:PV X EX e fe):yx X EX (some e) (some fe):=JA (Ih h) fun σ H Q bF=>dt bF fun G F F1 H1 bw d1 x s1 g1 r1 o1=>by cases d1 with|int i=>obtain rfl:=Den.i r1;exact⟨i,rfl,o1 F1 H1 _ s1 g1 rfl⟩|_=>exact o1.elim
theorem Fd(n d:Nat)(o:Pq):HT.cV n d o=wt n d o:=by cases o with|none=>rfl|some v=>unfold HT.cV wt;first|rfl|(split<;>first|rfl|lia)
theorem tJ{K:Frag}{mg:MG}{F:Hp}{vs:OY}{ds:XW}(h:aM K mg F vs ds)(lo hi:Pq):aM K mg F (lR vs lo hi) (VP.cutD ds lo hi):=by unfold lR VP.cutD;rw[h.length,Fd,Fd];exact(h.drop _).take _
end
theorem gK{js:Ue}{m n:Nat}(h:js.all (fun j=>decide (m<=j)&&decide (j<m+n))=true):∀j∈js,m<=j/\j<m+n:=fun j hj=>by have:=List.all_eq_true.mp h j hj;rw[Jk] at this;exact⟨Hg this.1,Hg this.2⟩
structure pP(K:Frag)(mg:MG)(x:Str)(st:Stmt)(ps:Ph)(f:Addr)(fd:FuncData):Prop where
 fu:Gb K x x st f fd
 bi:Binds K fd ps []
 mg:mg x=some (.ref f)
section
variable{X:Cx}{EX:XE}{L:Lc}{e a b c:Expr}{fa fb fc fe:M D}{pos:Pos}{x:Str}
def jm:D->Value->Prop|.bE,v=>v=.none|.bl k,v=>v=.bool k|.int i,v=>∃t,v=.int i t|.str s,v=>∃t,v=.str s t|_,_=>False
theorem jm.den(h:jm d v):∃u:V,RelV u v/\∀(K:Frag)(mg:MG)(F:Hp),Den K mg F u d:=by cases d with|bE=>cases h;exact⟨.bE,rfl,fun _ _ _=>.bE⟩|bl k=>cases h;exact⟨.bl k,rfl,fun _ _ _=>.bl k⟩|int i=>obtain⟨t,rfl⟩:=h;exact⟨.int i,⟨t,rfl⟩,fun _ _ _=>.int i⟩|str s=>obtain⟨t,rfl⟩:=h;exact⟨.str s,⟨t,rfl⟩,fun _ _ _=>.str s⟩|_=>exact h.elim
def WX(mg:MG)(x:Str)(d:D):Prop:=∃v,mg x=some v/\jm d v
theorem jX(hm:WX X.mg x d)(hg:Gl X x)(hd:WL x:=by decide):PV X EX (.Name x pos) (mC d):=by obtain⟨v,h1,h2⟩:=hm;obtain⟨u,r,den⟩:=h2.den;exact wk (ky hg h1 r hd) (fun _ _ _ q=>q) fun F=>den _ _ F
theorem u9(hg:kW (lc X EX) r g)(O7:kW (lc X EX) r' g')(ha:∀σ H Q,lift (lc X EX) (RV (lc X EX)) fa σ H Q->ta σ H Q)(hb:∀σ H Q,lift (lc X EX) (RV (lc X EX)) fb σ H Q->tb σ H Q)(hc:∀σ H Q,lift (lc X EX) (RV (lc X EX)) fc σ H Q->tc σ H Q) (σ:St) (H:Hp) (Q:VK) (h:lift (lc X EX) (RV (lc X EX)) (AY g g' fa fb fc) σ H Q):yn r r' ta tb tc σ H Q:=by
 obtain⟨G,F,ρ,g0,o⟩:=h;refine ha _ _ _ (a7 g0 o (fun x r q=>q) fun F1 H1 bw d1 x s1 g1 r1 o1=>?_);refine hb _ _ _ (a7 g1 o1 (fun x r q=>q.same s1) fun F2 H2 oQ d2 y s2 g2 r2 o2=>?_);obtain⟨d,e,q⟩:=o2.Pd.opt;refine hg G F2 H2 σ oQ x y d1 d2 d _ g2 (r1.same s2) r2 e fun F3 H3 v s3 g3 r3=>?_;cases d with
  |bl k=>obtain rfl:=Den.b r3;refine⟨k,rfl,?_⟩;cases k with|true=>refine xD (hc _ _ _ (a7 g3 q (fun x r q=>q.same (s1.trans (s2.trans s3))) fun F4 H4 KJ d4 z s4 g4 r4 o4=>?_));obtain⟨d5,e5,q5⟩:=o4.opt;exact O7 G F4 H4 σ KJ y z d2 d4 d5 Q g4 (r2.same (s3.trans s4)) r4 e5 (eU.same (s1.trans (s2.trans (s3.trans s4))) q5)|false=>exact xC (q F3 H3 _ (s1.trans (s2.trans s3)) g3 (.bl _))
  |_=>exact q.elim
theorem iK(ho:gG X (compareOp op) r)(uN:gG X (compareOp Be) r')(hg:kW (lc X EX) r g)(O7:kW (lc X EX) r' g')(ha:PV X EX a fa)(hb:PV X EX b fb)(hc:PV X EX c fc)(hm:lastMarks [op,Be] [b,c]=false:=by exact Sa):PV X EX (.Compare a [op,Be] [b,c] pos) (AY g g' fa fb fc):=
 (EJ ho uN ha hb hc hm).le (u9 hg O7 (fun _ _ _ q=>q) (fun _ _ _ q=>q) fun _ _ _ q=>q)
theorem Q1X(ho:gG X (compareOp op) r)(uN:gG X (compareOp Be) r')(hg:kW (lc X EX) r g)(O7:kW (lc X EX) r' g')(ha:PV X EX a fa)(hb:PV X EX b fb)(hc:PV X EX c fc)(hm:lastMarks [op,Be] [b,c]=false:=by exact Sa):PB X EX (.Compare a [op,Be] [b,c] pos) (tB (AY g g' fa fb fc)):=
 (EY ho uN ha hb hc hm).le fun σ H Q bF=>lf bF fun G F ρ g0 o=>by refine u9 hg O7 (fun _ _ _ q=>q) (fun _ _ _ q=>q) (fun _ _ _ q=>q) σ H _ (a7 g0 o (fun x r q=>q) fun F1 H1 bw d1 x s1 g1 r1 o1=>?_);cases d1 with|bl k=>obtain rfl:=Den.b r1;exact⟨k,rfl,o1 F1 H1 k s1 g1 rfl⟩|_=>exact o1.elim
theorem kG{prog:Program}{w:World}{A:Around}{E:RG}{s:Shared}{t sl:Addr}{items:Array Value}{vl vu:Value}{lo hi:Pq}{Q:RG}(ht:IsTup s.heap t items)(hs:s.heap.IsSliceOf sl vl vu .none)(pl:IsPart vl lo)(pu:IsPart vu hi)(hw:HT.cV items.size 0 lo=0/\HT.cV items.size items.size hi=items.size) (h:Q (.ref t) s):wpAny (model prog w) A (getItem (.ref t) (.ref sl)) Q E s:=by
 obtain⟨os,GQ,LL,qk⟩:=id hs;have Vh:s.TypeIs (.ref sl) "slice" := ⟨os,GQ,LL⟩;unfold getItem;try with_reducible refine Jn ?_
 first|refine ZM (Pf ?_)|skip
 refine ZM (wpAny_sequenceKey ht.typeIs (by decide) ?_);refine ZM (yp (name:=Str.ofString "__getitem__") ht.typeIs RS (D6 RS ht.typeIs entry_tuple_getitem ?_ (args_tuple_getitem _ _)));show wpAny _ _ (Builtin.Tuple.tupleItemsOf (.ref t) >>= _) _ _ s;refine ZM (PyProof.Rows.tupleItemsOf_ ht ?_);refine ZM (RX Vh ?_);rw[Wr (by decide)];refine ZM (HT.iL hs pl pu ?_);have VL:(((HT.cV items.size 0 lo:Nat):Int) == 0&&(1:Int) == 1&&(HT.cV items.size items.size hi-HT.cV items.size 0 lo) == items.size)=true:=by rw[hw.1,hw.2];simp
 show wpAny _ _ (if (((HT.cV items.size 0 lo:Nat):Int) == 0&&(1:Int) == 1&&(HT.cV items.size items.size hi-HT.cV items.size 0 lo) == items.size)=true then _ else _) _ _ s;rw[Wr VL];refine ZM ?_;unfold Builtin.Tuple.tupleIsExact;refine ZM (RX ht.typeIs (Pf ?_));rw[Wr (by decide)];refine ZM (AN (Pf ⟨_,rfl,Pf h⟩))
def Wi(K:Frag):V->Pq->Pq->Hp->VK->Prop:=fun x lo hi H Q=>∃q xs,x=.ref q/\dz K H q xs/\(lR xs lo hi=xs->Q (.ref q) H)/\∀p,H p=none->Q (.ref p) (upd H p (.tup (lR xs lo hi)))
theorem IT:L2.uS X (Wi X.K):=by
 intro Ug s σ H x v vl vu lo hi sl Q I rx hs pl pu h;obtain⟨q,xs,rfl,hx,h1,h2⟩:=h;by_cases hw:HT.cV xs.length 0 lo=0/\HT.cV xs.length xs.length hi=xs.length;cases rx;obtain⟨aI,r,ht,hz⟩:=I.tuple hx;have ZW:aI.toArray.size=xs.length:=by rw[U6];exact r.length.symm
 refine⟨"tuple",_,PyProof.Rows.slot_tuple_getitem.lookup,ht.typeIs,kG ht hs pl pu (by rw[ZW];exact hw) ⟨.ref q,H,I,rfl,h1 ?_⟩⟩;unfold lR;rw[hw.1,hw.2];simp;exact Oq Ug s σ H _ v vl vu lo hi sl Q I rx hs pl pu ⟨q,xs,rfl,hx,hw,h2⟩
theorem Q0T(items:Array Value)(lo hi:Pq):slicePick items lo hi none=((items.toList.drop (HT.cV items.size 0 lo)).take (HT.cV items.size items.size hi-HT.cV items.size 0 lo)).toArray:=by
 have e:sliceBounds lo hi none items.size=(((HT.cV items.size 0 lo:Nat):Int),((HT.cV items.size items.size hi:Nat):Int),1):=by
  simp only[sliceBounds,Option.getD_none];simp only[show (1:Int) > 0 by decide,if_true];cases lo with
  |none=>cases hi with|none=>rfl|some j=>simp only[HT.cV];congr 1;congr 1;split<;>lia
  |some i=>cases hi with|none=>simp only[HT.cV];congr 1;split<;>lia|some j=>simp only[HT.cV];congr 1;(split<;>lia);congr 1;split<;>lia
 unfold slicePick;rw[e];simp only[sliceRange_one,pick_run]
def N6(K:Frag):V->Pq->Pq->Hp->VK->Prop:=fun x lo hi H Q=>∃q xs,x=.ref q/\cX K H q xs/\∀p,H p=none->Q (.ref p) (upd H p (.lst (lR xs lo hi)))
theorem Oo:L2.uS X (N6 X.K):=by
 intro Ug s σ H x v vl vu lo hi sl Q I rx hs pl pu h;obtain⟨q,xs,rfl,hx,h1⟩:=h;cases rx;obtain⟨aI,r,ht,hz⟩:=I.list hx;have ZW:aI.toArray.size=xs.length:=by rw[U6];exact r.length.symm
 refine⟨"list",_,slot_list_getitem.lookup,ht.isList.typeIs,wpAny_getItem_list_slice ht.isList hs pl pu .none (by decide) ?_ (by rw[ZW];exact hz)⟩;rw[Q0T,ZW];exact⟨.ref _,_,I.Mp (t':=s.toks) ((r.drop (HT.cV xs.length 0 lo)).take (HT.cV xs.length xs.length hi-HT.cV xs.length 0 lo)) (WH (jL xs lo hi) hz),rfl,h1 _ I.fresh⟩
theorem dG{lo hi:Option Expr}{fl fh:Option (M D)}{p2:Pos}(he:PV X EX e fe)(hl:yx X EX lo fl)(hh:yx X EX hi fh):PV X EX (.Subscript e (.Slice lo hi none p2) pos) (o6 eG fe fl fh):=(EM (IT.or Oo) he hl hh).le fun σ H Q bF=>lf bF fun G F ρ g0 o=>a7 g0 o (fun x r q=>q) fun F1 H1 bw d1 x s1 g1 r1 o1=>a7 g1 o1 (fun x r q=>q.same s1) fun F2 H2 oQ l l' s2 g2 r2 o2=>a7 g2 o2 (fun x r q=>q.same (s1.trans s2)) fun F3 H3 Ym h h' s3 g3 r3 o3=>by cases r2;cases r3;obtain⟨d,e1,q⟩:=o3.opt;have Pm:=r1.same (s2.trans s3);cases d1 with|tup ds=>cases e1;obtain⟨_,_,rfl,hq,rq⟩:=Den.t Pm;refine .inl ⟨_,_,rfl,dz.same hq g3.sub,fun e2=>?_,fun p hp=>?_⟩;have:=tJ rq l h;rw[e2] at this;exact q F3 H3 _ (s1.trans (s2.trans s3)) g3 (.tup hq this);rename_i vs;have sF:=bg (o:=.tup (lR vs l h)) (g3.sub.free hp);exact q _ _ _ (s1.trans (s2.trans (s3.trans sF))) (g3.laid hp) (.tup (dz.of aO) ((tJ rq l h).same sF))|lst ds=>cases e1;obtain⟨_,_,rfl,hq,rq⟩:=Den.l Pm;refine .inr ⟨_,_,rfl,cX.same hq g3.sub,fun p hp=>?_⟩;rename_i vs;have sF:=bg (o:=.lst (lR vs l h)) (g3.sub.free hp);exact q _ _ _ (s1.trans (s2.trans (s3.trans sF))) (g3.laid hp) (.lst (cX.of aO) ((tJ rq l h).same sF))|_=>cases e1
end
namespace RV
theorem Bs:Slot "reversed" "__init__" "object.__init__":=.of (owner:="object") (n:="__init__") (by rw[Ea,SS];kernel_rfl) (by decide +kernel) (by decide +kernel) (by decide +kernel) (by first|exact .inl (by decide +kernel)|exact .inr (by decide +kernel)) (by rw[ya];kernel_rfl)
theorem called:TypeCalled "reversed" "reversed.__new__" "object.__init__":=⟨by decide +kernel,PySem.F.create_reversed,⟨_,_,PySem.F.mro_reversed⟩,PySem.F.made_reversed,WJ,PySem.F.sub_reversed_self,Bs⟩
theorem slot_next:Slot "reversed" "__next__" "reversed.__next__":=.of (owner:="reversed") (n:="__next__") (by rw[Ea,SS];kernel_rfl) (by decide +kernel) (by decide +kernel) (by decide +kernel) (by first|exact .inl (by decide +kernel)|exact .inr (by decide +kernel)) (by rw[ya];kernel_rfl)
theorem entry_next:entryFor table "reversed.__next__" = some Builtin.«reversed.__next__» := entryFor_of_tree (by kernel_rfl)
theorem nN:Manifest.owners.lookup (String.ofList ['d','e','s','r','e','v','e','r'].reverse)=some Manifest.sig_reversed:=by kernel_rfl
theorem args_next(a:Value):argsOk "reversed.__next__" ⟨[a],[]⟩:=by unfold argsOk;rw[signature?_of (id:="reversed.__next__") (n:=['_','_','t','x','e','n','_','_']) (o:=['d','e','s','r','e','v','e','r']) (by kernel_rfl) nN];kernel_rfl
theorem sW:Slot "reversed" "__iter__" "reversed.__iter__":=.of (owner:="reversed") (n:="__iter__") (by rw[Ea,SS];kernel_rfl) (by decide +kernel) (by decide +kernel) (by decide +kernel) (by first|exact .inl (by decide +kernel)|exact .inr (by decide +kernel)) (by rw[ya];kernel_rfl)
theorem As(a:Value):argsOk "reversed.__iter__" ⟨[a],[]⟩:=by unfold argsOk;rw[signature?_of (id:="reversed.__iter__") (n:=['_','_','r','e','t','i','_','_']) (o:=['d','e','s','r','e','v','e','r']) (by kernel_rfl) nN];kernel_rfl
theorem k7:entryFor table "reversed.__iter__" = some Builtin.«dict_keyiterator.__iter__»:=entryFor_alias (id':="dict_keyiterator.__iter__") (by kernel_rfl) (by first|rfl|decide +kernel|(unfold String.splitOn;simp +decide [String.splitOnAux])) (by decide +kernel) (by kernel_rfl)
theorem uh:typeLookup (.type "tuple") "__reversed__" = pure none:=by rw[Ea,SS];kernel_rfl
theorem rF:isSubtype (.type "tuple") (.type "dict")=pure false:=by rw[ya];kernel_rfl
section
variable{prog:Program}{w:World}{A:Around}{E:RG}{s:Shared}
def obj(t:Addr)(i:Int):Obj:={cls:=.type "reversed",data:=.fields #[.ref t,rawInt i]}
def Is(h:Heap)(a t:Addr)(i:Int):Prop:=∃o,h.get? a=some o/\o.cls=.type "reversed" /\ o.data=.fields #[.ref t,rawInt i]
theorem pX(ht:IsTup s.heap t items)(hz:items.size<=sizeLine)
  (h:∀tk,Q₁ (.ref s.heap.objs.size) {s with heap:=s.heap.push (obj t ((items.size:Int)-1)),toks:=tk}) :
  codeAny (model prog w) A (.call (.builtin "reversed.__new__") ⟨[.type "reversed",.ref t],[]⟩) (wants Q₁ E) s:=by
 refine codeAny_of_tree ?_;refine ZM (m:=checkBuiltinCall "reversed.__new__" ⟨[.type "reversed",.ref t],[]⟩) (Iy (PySem.F.newCall_reversed_1 _) (Pf ⟨EG WJ _,EH PySem.F.entry_reversed_new ?_⟩));rw[K5 WJ _];unfold Builtin.«reversed.__new__»;refine ZM (Iy (newClass_reversed _) ?_);refine ZM (Iy (a:=()) (by first|rfl|kernel_rfl) ?_);refine ZM (Iy (a:=()) (by first|rfl|kernel_rfl) ?_);try dsimp only
 refine ZM (yr ht.typeIs uh ?_);try dsimp only
 refine ZM (ZM (m:=isInstance (.ref t) (.type "dict")) (S0 (b:=false) ht.typeIs rF ?_));refine ZM (m:=specialOf (.ref t) "__getitem__") (yr ht.typeIs PyProof.Rows.slot_tuple_getitem.lookup ?_);refine Pf ?_;refine ZM (m:=call (Value.builtin "len") [Value.ref t]) (len_tuple ht (by rw[Ji] at hz;lia) ?_);refine ZM (m:=asInt? (.int items.size _)) (Pf ?_);refine ZM (m:=newObj (.type "reversed") (.fields #[.ref t,rawInt ((items.size:Int)-1)])) (Eb (Pf (h _)))
theorem make(ht:IsTup s.heap t items)(hz:items.size<=sizeLine)(h:∀tk,Q (.ref s.heap.objs.size) {s with heap:=s.heap.push (obj t ((items.size:Int)-1)),toks:=tk}):wpAny (model prog w) A (call (.type "reversed") [.ref t]) Q E s:=by refine callType_codes (Q₁:=fun o bx=>bx.TypeIs o "reversed" /\ Q o bx) called (PySem.F.typeCall_reversed_1 _) PySem.F.entry_object_init (pX ht hz fun tk=>⟨⟨_,TR _ rfl,rfl⟩,h tk⟩) fun o bx h₁=>?_;exact⟨h₁.1,Z7 o _,object_init_meets called.init.lookup called.made (by decide) prog w A.in1 _ bx ⟨h₁.1,rfl,h₁.2⟩⟩
theorem Is.typeIs(x:Is s.heap a t i):s.TypeIs (.ref a) "reversed" := let ⟨o,ho,hc,_⟩:=x;⟨o,ho,hc⟩
theorem Is.at(x:Is h a t i)(e:∀o,h.get? a=some o->h'.get? a=some o):Is h' a t i:=let ⟨o,ho,r⟩:=x;⟨o,e _ ho,r⟩
theorem next_item{it t:Addr}{i:Nat}{items:Array Value}{x:Value}{Q:X0->Shared->Prop}(hit:Is s.heap it t (i:Int))(ht:IsTup s.heap t items)(hx:items[i]?=some x)(hz:items.size<=sizeLine)(hQ:∀h' tk,Is h' it t ((i:Int)-1)->Heap.SameBut it s.heap h'->Q (some x) {s with heap:=h',toks:=tk}):wpAny (model prog w) A (pyNext (.ref it)) Q E s:=by
 obtain⟨o,ho,hc,hd⟩:=id hit;unfold pyNext;refine ZM (SV (yp (name:=Str.ofString "__next__") hit.typeIs slot_next (D6 slot_next hit.typeIs entry_next ?_ (args_next _))));unfold Builtin.«reversed.__next__»;refine ZM (Iy (a:=(Value.ref it,[])) rfl ?_);refine ZM (Gr ho hd (x:=.ref t) rfl ?_);refine ZM (Gr ho hd (x:=rawInt (i:Int)) rfl ?_);show wpAny _ _ (if (i:Int)<0 then _ else _) _ _ s;rw[Uu Qt];refine ZM (m:=specialOf (.ref t) "__getitem__") (yr ht.typeIs PyProof.Rows.slot_tuple_getitem.lookup ?_);have hi:i<items.size:=(Array.getElem?_eq_some_iff.mp hx).1;have Zy:(items.size:Int)<=16777216:=by rw[Ji] at hz;lia
 refine ZM (m:=mkInt (i:Int)) (wpAny_mkInt ?_);refine ZM (m:=(getItem (Value.ref t) _).attempt) (SV (getItem_tuple (items:=items) (j:=i) ht Qt Qt ?_ hx ?_));unfold seqIndex?;simp;lia;refine ZM (m:=field (Value.ref it) 1) (Gr ho hd (x:=rawInt (i:Int)) rfl ?_);refine ZM (m:=setField (Value.ref it) 1 (rawInt ((i:Int)-1))) (SQ ho hd Ro ?_);refine Pf ⟨x,rfl,Pf (hQ _ _ ?_ (MS ..))⟩;exact⟨_,xK _ ho (WS (Nr hd _)),(Obj.cls_mapFields ..).trans hc,by rw[Nr hd];simp⟩
theorem next_end(hh:A.handled=none)(hit:Is s.heap it t (-1))(hQ:∀h',Heap.ExtBut it s.heap h'->Q none {s with heap:=h'}):wpAny (model prog w) A (pyNext (.ref it)) Q E s:=by
 obtain⟨o,ho,hc,hd⟩:=id hit;unfold pyNext;refine ZM (SV (yp (name:=Str.ofString "__next__") hit.typeIs slot_next (D6 slot_next hit.typeIs entry_next ?_ (args_next _))));unfold Builtin.«reversed.__next__»;refine ZM (Iy (a:=(Value.ref it,[])) rfl ?_);refine ZM (Gr ho hd (x:=.ref t) rfl ?_);refine ZM (Gr ho hd (x:=rawInt (-1)) rfl ?_);show wpAny _ _ (if (-1:Int)<0 then _ else _) _ _ s;rw[Wr (by decide)];refine ZM (AN ?_);refine ZM (ZM (m:=setField (Value.ref it) 1 (rawInt (-1))) (SQ ho hd Ro ?_));have QV:=xK (Obj.mapFields fun vs=>vs.set! 1 (rawInt (-1))) ho (WS (Nr hd _));have T6:(Obj.mapFields (fun vs=>vs.set! 1 (rawInt (-1))) o).data=.fields #[.ref t,rawInt (-1)]:=by rw[Nr hd];simp
 refine SQ QV T6 Ro ?_;refine ZM (m:=Builtin.SmallTypes.stopIteration) ?_;refine ZM (m:=newExc (.type "StopIteration") []) ?_;simp only[newExc,newTuple];refine ZM (Eb ?_ (by size_fits));refine ZM (m:=firstArgMember _ _) (Iy (a:=Value.none) (by first|rfl|(simp only[firstArgMember];rfl)) ?_);refine Eb ?_ (by size_fits);simp only[raiseNew];refine ZM (wpAny_handled ?_);first|rw[show A.in1.handled=none from hh]|rw[hh]
 refine ZM (Pf (wpAny_throw ?_));refine ZM (S0 (T:="StopIteration") (b:=true) ⟨_,TR _ rfl,rfl⟩ isSubtype_stop ?_);refine Pf (hQ _ fun b ob hb e=>?_);refine T2 _ (T2 _ ?_);exact(Mz _ _ (Ry hb)).trans ((Mz _ _ (Ry hb)).trans e)
theorem nv(hit:Is s.heap it t i)(h:Q (.ref it) s):wpAny (model prog w) A (pyIter (.ref it)) Q E s:=by refine wpAny_pyIter_slot hit.typeIs sW (D6 sW hit.typeIs k7 ?_ (As _));exact Pf ⟨_,rfl,"reversed",_,hit.typeIs,slot_next.lookup,h⟩
end
end RV
def Tx(K:Frag)(t:Bool)(q:Addr)(n:Nat):It:=⟨fun i H=>∃xs x,lH K H t q xs/\xs.length=n/\i<n/\xs[n-1-i]?=some x,fun i H x H'=>H'=H/\∀xs,lH K H t q xs->xs[n-1-i]?=some x,fun i H=>i=n⟩
def oi(t:Bool)(it q:Addr)(i:Int)(h:Heap):Prop:=if t then RV.Is h it q i else h.IsRevIter it q i
theorem oi.at(x:oi t it q i h)(e:∀o,h.get? it=some o->h'.get? it=some o):oi t it q i h':=by cases t;exact Heap.IsRevIter.at x e;exact RV.Is.at x e
theorem oi.obj(x:oi t it q i h):∃o n vs,h.get? it=some o/\o.cls=.type n/\o.data=.fields vs/\["enumerate","zip","dict_itemiterator","dict_reverseitemiterator","odict_iterator","itertools.zip_longest","itertools.pairwise"].contains n=false:=by cases t;obtain⟨o,h1,h2,h3⟩:=x;exact⟨o,_,_,h1,h2,h3,by decide⟩;obtain⟨o,h1,h2,h3⟩:=x;exact⟨o,_,_,h1,h2,h3,by decide⟩
theorem wD{P:Program}{w:World}{K:Frag}{tg:Expr}(t:Bool)(q it:Addr)(n:Nat):Turn P w K tg (Tx K t q n) [it] it (fun i h=>i<=n/\oi t it q ((n:Int)-1-i) h) where
 mem:=Ro
 obj:=fun i h st b hb=>by
  have e:b=it:=by simpa using hb
  subst e;obtain⟨o,_,_,e,_,d,_⟩:=st.2.obj;exact⟨o,e,fun v z=>by rw[d] at z;cases z⟩
 keep:=fun i h h' st k=>⟨st.1,st.2.at fun o e=>k it Ro o e⟩
 item:=by
  intro X hP hw hK hc i Ug s σ H E I hf st hg;subst hP hw hK;obtain⟨xs,x,hq,hl,hi,hx⟩:=hg;obtain⟨f0,f1,f2,f3,f4,f5⟩:=hf it Ro;have e1:(n:Int)-1-(i:Int)=((n-1-i:Nat):Int):=Qt;have e2:((n-1-i:Nat):Int)-1=(n:Int)-1-((i+1:Nat):Int):=Qt;have yg:=st.2;rw[e1] at yg;have fin:∀u h' tk,RelV x u->oi t it q (((n-1-i:Nat):Int)-1) h'->Heap.SameBut it s.heap h'->wpAny (model X.prog X.w) X.A (letOwnedTupleGo tg (.ref it) u) (fun _ s2=>∃x H',Inv X Ug σ H' s2/\RelV x u/\(Tx X.K t q n).Uz i H x H'/\(i+1<=n/\oi t it q ((n:Int)-1-((i+1:Nat):Int)) s2.heap)/\∀b∈[it],H' b=none) E {s with heap:=h',toks:=tk}:=fun u h' tk ru mD sb=>by have I1:Inv X Ug σ H {s with heap:=h',toks:=tk}:=I.turned (t':=tk) (fun b o hb e=>(sb.2 b hb).trans e) f0 f1 f3 f4 f5;rw[e2] at mD;obtain⟨o,nm,vs,e,c,d,nc⟩:=mD.obj;exact sv (s:={s with heap:=h',toks:=tk}) e c d nc ⟨x,H,I1,ru,⟨rfl,fun ys hy=>by rw[Inv.qM I hy hq];exact hx⟩,⟨hi,mD⟩,fun b hb=>(hf b hb).1⟩
  cases t with|false=>obtain⟨aI,rv,pl,hz⟩:=I.list (show cX X.K H q xs from hq);obtain⟨u,hu,ru⟩:=rv.get hx;exact wpAny_pyNext_rev_item yg pl.isList (x:=u) (by simpa using hu) fun h' mD sb=>⟨u,rfl,fin u h' s.toks ru mD sb⟩|true=>obtain⟨aI,rv,tp,hz⟩:=I.tuple (show dz X.K H q xs from hq);obtain⟨u,hu,ru⟩:=rv.get hx;exact RV.next_item yg tp (x:=u) (by simpa using hu) (by rw[U6,<-rv.length];exact hz) fun h' tk mD sb=>⟨u,rfl,fin u h' tk ru mD sb⟩
 done:=by intro X hP hw hK hc i Ug s σ H E I hf st hg;subst hP hw hK;obtain⟨f0,f1,f2,f3,f4,f5⟩:=hf it Ro;have O7:i=n:=hg;have e1:(n:Int)-1-(i:Int)=-1:=Qt;have yg:=st.2;rw[e1] at yg;cases t with|false=>exact wpAny_pyNext_rev_end (I.ok.hd hc) yg fun h' eb=>⟨rfl,I.turned (t':=s.toks) (fun b o hb e=>eb b o hb e) f0 f1 f3 f4 f5⟩|true=>exact RV.next_end (I.ok.hd hc) yg fun h' eb=>⟨rfl,I.turned (t':=s.toks) (fun b o hb e=>eb b o hb e) f0 f1 f3 f4 f5⟩
 self:=fun _ i _ _ _ st h=>by cases t with|false=>exact wpAny_pyIter_revIter st.2 h|true=>exact RV.nv st.2 h
section
variable{X:Cx}{EX:XE}{L:Lc}{e a b tg:Expr}{fa fb fe:M D}{pos p:Pos}{x:Str}
def Q2g(K:Frag)(t:TA):TI:=fun σ H R=>t σ H fun vs H1=>∃b q xs,vs=[.ref q]/\lH K H1 b q xs/\R (Tx K b q xs.length) H1
theorem NS{t:TA}(hg:Gl X "reversed")(hm:X.mg "reversed" = none)(ha:PA X [a] t)(hs:starEach [a] X.env=[(false,eval a X.env)]:=by rfl):PI X tg (.Call (.Name "reversed" p) [a] [] pos) (Q2g X.K t):=by
 intro Ug s σ H R I h;refine Call_ (dA I hg hm boot_reversed (Nj (bT (ha pos Ug s σ H _ I h) fun us s1 zz=>?_) (by rw[hs];rfl) (by rfl)));obtain⟨vs,H1,I1,r1,q1⟩:=zz;obtain⟨t,q,xs,e,sq,hR⟩:=q1;subst e;obtain⟨u,rfl,ru⟩:=vals1 r1;cases ru;have fp:∀b∈[s1.heap.objs.size],jy X Ug H1 b:=fun b hb=>by
  have e:b=s1.heap.objs.size:=by simpa using hb
  subst e;exact I1.qf (ZS _) (I1.cj.fresh (ZS _))
 cases t with
 |false=>
  obtain⟨aI,rv,pl,hz⟩:=I1.list (show cX X.K H1 q xs from sq);have hl:aI.toArray.size=xs.length:=by rw[U6];exact rv.length.symm
  refine call_reversed_list pl.isList ?_;rw[hl];have ri:Heap.IsRevIter (s1.heap.push (revObj q ((xs.length:Int)-1))) s1.heap.objs.size q ((xs.length:Int)-1):=⟨_,TR _ rfl,rfl,rfl⟩;refine wpAny_pyIter_revIter (s:={s1 with heap:=_}) ri ?_;exact⟨_,[s1.heap.objs.size],_,_,H1,rfl,I1.kept (t':=s1.toks) fun b o e=>T2 _ e,wD false q _ xs.length,⟨ER _,by show Heap.IsRevIter _ _ _ _;simpa using ri⟩,fp,hR⟩
 |true=>
  obtain⟨aI,rv,tp,hz⟩:=I1.tuple (show dz X.K H1 q xs from sq);have hl:aI.toArray.size=xs.length:=by rw[U6];exact rv.length.symm
  refine RV.make tp (by rw[hl];exact hz) fun tk=>?_;rw[hl];have ri:RV.Is (s1.heap.push (RV.obj q ((xs.length:Int)-1))) s1.heap.objs.size q ((xs.length:Int)-1):=⟨_,TR _ rfl,rfl,rfl⟩;refine RV.nv (s:={s1 with heap:=_,toks:=tk}) ri ?_;exact⟨_,[s1.heap.objs.size],_,_,H1,rfl,I1.kept (t':=tk) fun b o e=>T2 _ e,wD true q _ xs.length,⟨ER _,by show RV.Is _ _ _ _;simpa using ri⟩,fp,hR⟩
theorem GZ(h:lH L.K F t q vs)(r:aM L.K L.mg F vs ds):FK L G F (Tx L.K t q vs.length) ds.reverse:=fun σ i F' H' ρ s g=>by
 have sq:lH L.K H' t q vs:=(h.same s).same g.sub;have hl:=r.length;refine⟨fun hi=>?_,fun hi=>?_,fun x FJ ⟨e,y⟩=>?_⟩;simp at hi;exact⟨vs,vs[vs.length-1-i]' Pe,sq,rfl,Pe,by simp[show vs.length-1-i<vs.length by omega]⟩;simp at hi;show i=vs.length;omega;subst e;refine⟨F',aN.refl _,g,fun d hd=>?_⟩;have hi:i<ds.length:=by simpa using (List.getElem?_eq_some_iff.mp hd).1
 rw[Nt hi,<-hl] at hd;obtain⟨v,h1,h2⟩:=(r.same s).get hd;rw[y vs sq] at h1;cases h1;exact h2
theorem OK(hg:Gl X "reversed")(hm:X.mg "reversed" = none)(ha:PV X EX a fa)(hs:starEach [a] X.env=[(false,eval a X.env)]:=by rfl):uK X EX tg (.Call (.Name "reversed" p) [a] [] pos) (Ho fa):=(NS hg hm (cB ha fZ hs) hs).le fun σ H Q bF=>dt bF fun G F F1 H1 bw d1 y s1 g1 r1 o1=>by obtain⟨ds,e,q⟩:=o1.opt;cases e1:cq d1 with|none=>rw[e1] at e;cases e|some es=>rw[e1] at e;cases e;obtain⟨t,q1,vs,rfl,z,r⟩:=Den.seq r1 e1;exact⟨t,q1,vs,rfl,z.same g1.sub,q F1 H1 _ s1 g1 (GZ z r)⟩
end
namespace GA
def JC(T:String):Prop:=T="list_reverseiterator" \/ T="reversed"
section
variable{prog:Program}{w:World}{A:Around}{E:RG}{s:Shared}{I:Addr}{fp wr:XU}{n:Nat}{P:Nat->Value->Prop}{St:Nat->Heap->Prop}{T:String}
def Hint(prog:Program)(w:World)(A:Around)(I:Addr)(St:Nat->Heap->Prop):Prop:=∀(s:Shared)(Q:Bool->Shared->Prop)(E:RG),St 0 s.heap->(∀b tk,s.toks<=tk->Q b {s with toks:=tk})->wpAny (model prog w) A (Builtin.List.listLengthHint (.ref I)) Q E s
theorem extend(h2:JC T)(W:WalksS prog w A.in1 I fp wr (fun a b=>b=a) n P (fun i s=>St i s.heap))(hT:∀(i:Nat)(s:Shared),St i s.heap->s.TypeIs (.ref I) T)(hh:Hint prog w A.in1 I St)(S:Addr)(res:Value)(c₀:Nat)(jB:St 0 s.heap)(zw:S∉fp)(hI:I∈fp)
  (hS:s.heap.get? S=some {cls:=.type "list",data:=.seq #[] c₀}) (hn:n<=sizeLine)
  (hR:∀s' Ao c',Moved (S::wr) (fun a b=>b=a) s s'->s'.heap.get? S=some {cls:=.type "list",dict:=none,data:=.seq Ao c',slots:=#[]}->ItemsOf P Ao n->R (.ok (.ret res)) s') :
  wpAny (model prog w) A.in1 (Builtin.List.listExtendWith (.ref S) (.ref I) res) (fun fin s'=>match fin with|.done f=>R (.ok f) s'|.again c'=>c'.quiet=true/\codeAny (model prog w) A c' R s') (fun e s'=>R (.error e) s') s:=by
 have YR:S≠I:=fun e=>zw (e ▸ hI);have h1:Builtin.List.listSameRef (.ref S) (.ref I)=false:=by simp[Builtin.List.listSameRef,YR]
 unfold Builtin.List.listExtendWith;refine ZM (RX (hT 0 _ jB) ?_);rw[Uu (by rw[h1];rcases h2 with rfl|rfl<;>decide)];refine ZM (W.self 0 _ _ _ jB (ZM (Jn (hh s _ _ jB fun b tk Ua=>?_))));have yg:=W.frame 0 s s.heap tk jB Ua fun b _ o e=>e;cases b with|false=>rw[Uu (by rcases h2 with rfl|rfl<;>decide)];refine Pf ⟨EG PySem.F.plain_extend_loop _,codeAny_extend_loopS W hn _ zw _ n 0 _ _ _ rfl (ER _) yg hS (ItemsOf.nil P) fun s' Ao c' hm GK gX=>hR s' Ao c' ?_ GK gX⟩;have mv:Moved (S::wr) (fun a b=>b=a) s {s with toks:=tk}:=⟨fun b o hb e=>e,rfl,rfl,rfl,Ua⟩;exact Moved.trans W.gtrans mv hm|true=>rw[Wr (by rcases h2 with rfl|rfl<;>decide)];refine ZM (AN (ZM (m:=updateSeq S (·.push .none) >>= fun _=>updateSeq S (·.pop)) (ZM (S6 hS rfl ?_))));have q1:=xK (Obj.mapSeq (·.push Value.none)) hS rfl;refine S6 (hz:=by seq_fits) q1 rfl ?_;have q2:=xK (Obj.mapSeq (·.pop)) q1 rfl;have HJ:∀b o,b≠S->s.heap.get? b=some o->((s.heap.update S (Obj.mapSeq (·.push Value.none))).update S (Obj.mapSeq (·.pop))).get? b=some o:=fun b o hb e=>(Mz _ _ (Ry hb)).trans ((Mz _ _ (Ry hb)).trans e);refine Pf ⟨EG PySem.F.plain_extend_loop _,codeAny_extend_loopS W hn _ zw _ n 0 _ _ _ rfl (ER _) (W.frame 0 s _ tk jB Ua fun b hb o e=>HJ b o (fun z=>zw (z ▸ hb)) e) q2 (ItemsOf.nil P) fun s' Ao c' hm GK gX=>hR s' Ao c' ?_ GK gX⟩;have mv:Moved (S::wr) (fun a b=>b=a) s {s with heap:=(s.heap.update S (Obj.mapSeq (·.push Value.none))).update S (Obj.mapSeq (·.pop)),toks:=tk}:=⟨fun b o hb e=>HJ b o (fun z=>hb (by rw[z];exact Bl)) e,rfl,rfl,rfl,Ua⟩;exact Moved.trans W.gtrans mv hm
theorem gathered(h2:JC T)(W:WalksS prog w A.in1 I fp wr (fun a b=>b=a) n P (fun i s=>St i s.heap))(hT:∀(i:Nat)(s:Shared),St i s.heap->s.TypeIs (.ref I) T)(hh:Hint prog w A.in1 I St)(jB:St 0 s.heap)(AH:∀b∈fp,b<s.heap.objs.size)(hI:I∈fp)(hn:n<=sizeLine)(hQ:∀s' acc,Moved wr (fun a b=>b=a) s s'->ItemsOf P acc n->Q acc.toList s'):wpAny (model prog w) A (collect (.ref I)) Q E s:=by have zw:s.heap.objs.size∉fp:=fun hm=>Sx _ (AH _ hm);refine ZM (m:=runValue (.builtin "proto.collect" ⟨[.ref I],[]⟩)) (wpAny_runValue (EH PySem.F.entry_proto_collect ?_));rw[K5 PySem.F.plain_proto_collect _];refine ZM (m:=newList []) (Eb (Pf ⟨EG PySem.F.plain_list_iadd _,EH PySem.F.entry_list_iadd ?_⟩));rw[K5 PySem.F.plain_list_iadd _];have X:=extend (R:=fun r s'=>r=.ok (.ret (.ref s.heap.objs.size))/\∃acc c,Moved (s.heap.objs.size::wr) (fun a b=>b=a) {s with heap:=s.heap.push {cls:=.type "list",data:=.seq ([]:Ul).toArray}} s'/\s'.heap.get? s.heap.objs.size=some {cls:=.type "list",dict:=none,data:=.seq acc c,slots:=#[]}/\ItemsOf P acc n) (s:={s with heap:=s.heap.push {cls:=.type "list",data:=.seq ([]:Ul).toArray}}) h2 W hT hh s.heap.objs.size (.ref s.heap.objs.size) 0 (W.frame 0 s _ s.toks jB (ZS _) fun b _ o e=>T2 _ e) zw hI (TR _ rfl) hn fun s' acc c hm hS gX=>⟨rfl,acc,c,hm,hS,gX⟩;have fin:∀s',(∃acc c,Moved (s.heap.objs.size::wr) (fun a b=>b=a) {s with heap:=s.heap.push {cls:=.type "list",data:=.seq ([]:Ul).toArray}} s'/\s'.heap.get? s.heap.objs.size=some {cls:=.type "list",dict:=none,data:=.seq acc c,slots:=#[]}/\ItemsOf P acc n)->wpAny (model prog w) A (do let o <-load s.heap.objs.size;match o.data with|.seq xs _=>pure xs.toList|_=>unsupported "internal:collect") Q E s':=fun s' ⟨acc,c,hm,hS,gX⟩=>ZM (wpAny_load hS (Pf (hQ s' acc (Moved.drop_new (o:={cls:=.type "list",data:=.seq ([]:Ul).toArray}) (tk:=s.toks) hm (ZS _)) gX)));refine R3 X (fun f s' h=>?_) fun e s' h=>absurd h.1 Ro;cases f with|done f=>obtain⟨e,h⟩:=h;cases e;exact fin s' h|again c'=>exact⟨h.1,Ay h.2 fun r BG ⟨e,h⟩=>by subst e;exact fin BG h⟩
theorem xf(h2:JC T)(W:WalksS prog w A.in1.in1 I fp wr (fun a b=>b=a) n P (fun i s=>St i s.heap))(hT:∀(i:Nat)(s:Shared),St i s.heap->s.TypeIs (.ref I) T)(hh:Hint prog w A.in1.in1 I St)(jB:St 0 s.heap)(AH:∀b∈fp,b<s.heap.objs.size)(hI:I∈fp)(hn:n<=sizeLine)
  (h:∀s' acc,Moved wr (fun a b=>b=a) s s'->ItemsOf P acc n->Q₁ (.ref s'.heap.objs.size) {s' with heap:=s'.heap.push {cls:=.type "tuple",data:=.seq acc}}) :
  codeAny (model prog w) A (.call (.builtin "tuple.__new__") ⟨[.type "tuple",.ref I],[]⟩) (wants Q₁ E) s:=by
 refine codeAny_of_tree (ZM (m:=checkBuiltinCall "tuple.__new__" ⟨[.type "tuple",.ref I],[]⟩) (Iy (PySem.F.newCall_tuple_1 _) (Pf ⟨EG PySem.F.plain_tuple_new _,EH PySem.F.entry_tuple_new ?_⟩)));rw[K5 PySem.F.plain_tuple_new _];have k1:=sub_tuple_self;have k2:=init_tuple_lookup;have k3:=madeHere_tuple;have k4:=hT 0 s jB;rcases h2 with rfl|rfl;have z2:JC "list_reverseiterator" := .inl rfl
 wp_walk using RX k4,gathered z2 W hT hh jB AH hI hn
 intro s' acc hm gX;refine ZM (m:=Builtin.Tuple.tupleExact acc.toList.toArray) (Eb (Pf ?_) (by show acc.toList.toArray.size<=sizeLine;simp only[Array.toArray_toList];rw[gX.1];exact hn));rw[show acc.toList.toArray=acc by simp];exact h s' acc hm gX;have z2:JC "reversed" := .inr rfl
 wp_walk using RX k4,gathered z2 W hT hh jB AH hI hn
 intro s' acc hm gX;refine ZM (m:=Builtin.Tuple.tupleExact acc.toList.toArray) (Eb (Pf ?_) (by show acc.toList.toArray.size<=sizeLine;simp only[Array.toArray_toList];rw[gX.1];exact hn));rw[show acc.toList.toArray=acc by simp];exact h s' acc hm gX
theorem pV(h2:JC T)(W:WalksS prog w A.in1.in1.in1 I fp wr (fun a b=>b=a) n P (fun i s=>St i s.heap))(hT:∀(i:Nat)(s:Shared),St i s.heap->s.TypeIs (.ref I) T)(hh:Hint prog w A.in1.in1.in1 I St)(jB:St 0 s.heap)(AH:∀b∈fp,b<s.heap.objs.size)(hI:I∈fp)(hn:n<=sizeLine)(hQ:∀s' acc,Moved wr (fun a b=>b=a) s s'->ItemsOf P acc n->Q (.ref s'.heap.objs.size) {s' with heap:=s'.heap.push {cls:=.type "tuple",data:=.seq acc}}):wpAny (model prog w) A (call (.type "tuple") [.ref I]) Q E s:=by refine callType_codes (Q₁:=fun obj bx=>bx.TypeIs obj "tuple" /\ Q obj bx) PySem.F.called_tuple (PySem.F.typeCall_tuple_1 _) PySem.F.entry_object_init (xf h2 W hT hh jB AH hI hn fun s' acc hm gX=>⟨⟨_,TR _ rfl,rfl⟩,hQ s' acc hm gX⟩) fun obj bx h₁=>?_;exact⟨h₁.1,Z7 obj _,object_init_meets PySem.F.called_tuple.init.lookup PySem.F.called_tuple.made (by decide) prog w A.in1 _ bx ⟨h₁.1,rfl,h₁.2⟩⟩
end
theorem HA:typeLookup (.type "list_reverseiterator") "__len__" = pure none:=by rw[Ea,SS];kernel_rfl
theorem Q0y:typeLookup (.type "list_reverseiterator") "__length_hint__" = pure (some (.builtin "list_reverseiterator.__length_hint__")):=by rw[Ea,SS];kernel_rfl
theorem Q0k:typeLookup (.type "reversed") "__len__" = pure none:=by rw[Ea,SS];kernel_rfl
theorem DC:typeLookup (.type "reversed") "__length_hint__" = pure (some (.builtin "reversed.__length_hint__")):=by rw[Ea,SS];kernel_rfl
theorem sV:Slot "reversed" "__length_hint__" "reversed.__length_hint__":=.of (owner:="reversed") (n:="__length_hint__") DC (by decide +kernel) (by decide +kernel) (by decide +kernel) (by first|exact .inl (by decide +kernel)|exact .inr (by decide +kernel)) (by rw[ya];kernel_rfl)
theorem xj:entryFor table "reversed.__length_hint__" = some Builtin.«reversed.__length_hint__» := entryFor_of_tree (by kernel_rfl)
theorem Ar(a:Value):argsOk "reversed.__length_hint__" ⟨[a],[]⟩:=by unfold argsOk;rw[signature?_of (id:="reversed.__length_hint__") (n:=['_','_','t','n','i','h','_','h','t','g','n','e','l','_','_']) (o:=['d','e','s','r','e','v','e','r']) (by kernel_rfl) RV.nN];kernel_rfl
section
variable{prog:Program}{w:World}{A:Around}
def UP(it q:Addr)(items:Array Value):Nat->Heap->Prop:=fun i h=>i<=items.size/\h.IsRevIter it q ((items.size:Int)-1-(i:Int))/\h.IsList q items
def TK(it q:Addr)(items:Array Value):Nat->Heap->Prop:=fun i h=>i<=items.size/\RV.Is h it q ((items.size:Int)-1-(i:Int))/\IsTup h q items
theorem J6:Hint prog w A it (UP it q items):=fun s Q E st h=>by
 have hT:s.TypeIs (.ref it) "list_reverseiterator" := st.2.1.typeIs;unfold Builtin.List.listLengthHint;refine ZM (yr hT HA ?_);refine ZM (m:=specialOf (.ref it) "__length_hint__") (yr hT Q0y ?_);generalize J5:("list_reverseiterator.__length_hint__" : String)=Q6
 wp_delta
 rw[show splitId Q6=some ("list_reverseiterator","__length_hint__") from by subst J5;decide +kernel];subst J5;refine ZM (S0 (b:=true) hT (by rw[ya];kernel_rfl) (Pf (h _ s.toks (ZS _))))
theorem J7(hz:items.size<=sizeLine):Hint prog w A it (TK it q items):=fun s Q E st h=>by
 have hT:s.TypeIs (.ref it) "reversed" := st.2.1.typeIs;unfold Builtin.List.listLengthHint;refine ZM (yr hT Q0k ?_);refine ZM (m:=specialOf (.ref it) "__length_hint__") (yr hT DC ?_);generalize J5:("reversed.__length_hint__" : String)=Q6
 wp_delta
 rw[show splitId Q6=some ("reversed","__length_hint__") from by subst J5;decide +kernel];subst J5;refine ZM (S0 (b:=true) hT (by rw[ya];kernel_rfl) ?_);obtain⟨_,⟨o,ho,hc,hd⟩,ht⟩:=id st;have Zy:(items.size:Int)<=16777216:=by rw[Ji] at hz;lia
 rw[Uu (show ¬((!true)=true) by decide)];dsimp only[];rw[Uu (by decide)];refine ZM (AN (ZM (Iy (sV.bind _) ?_)));refine ZM (m:=(call (.builtin "reversed.__length_hint__") [.ref it]).attempt) (SV (D6 sV hT xj ?_ (Ar _)));unfold Builtin.«reversed.__length_hint__»;refine ZM (Iy (a:=Value.ref it) (by first|rfl|kernel_rfl) ?_);refine ZM (Gr ho hd (x:=.ref q) rfl ?_);rw[Uu (by intro z;cases z)];dsimp only[];refine ZM (m:=call (Value.builtin "len") [Value.ref q]) (len_tuple ht Qt ?_);refine ZM (m:=asInt? (.int items.size _)) (Pf ?_);refine ZM (m:=field (.ref it) 1) (Gr (s:={s with toks:=s.toks+1+1}) ho hd (x:=rawInt ((items.size:Int)-1-((0:Nat):Int))) rfl ?_);have e0:(items.size:Int)-1-((0:Nat):Int)+1=items.size:=Qt;show wpAny _ _ (if (items.size:Int)<(items.size:Int)-1-((0:Nat):Int)+1 then _ else retInt ((items.size:Int)-1-((0:Nat):Int)+1)) _ _ _;rw[Uu Qt,e0];have f1:Builtin.List.listFitsIndex (items.size:Int)=true:=by
  unfold Builtin.List.listFitsIndex;simp only[Bool.and_eq_true,decide_eq_true_eq]
  lia
 have f2:Builtin.List.listTooLong ((items.size:Int).toNat)=false:=by unfold Builtin.List.listTooLong;rw[AR];simp only[decide_eq_false_iff_not,gt_iff_lt,Nat.not_lt];exact hz
 have f3:¬(items.size:Int)<0:=Qt;generalize (items.size:Int)=k at f1 f2 f3 ⊢;refine ZM (m:=mkInt k) (wpAny_mkInt (Pf ⟨_,rfl,?_⟩));dsimp only[];refine ZM (Iy (a:=some k) rfl ?_);dsimp only[];rw[Uu (by rw[f1];decide),Uu f3,Uu (by rw[f2];decide)];exact Pf (h _ _ (by show s.toks<=s.toks+1+1+1;lia))
theorem KH(hh:A.handled=none)(it q:Addr)(AJ:q≠it)(items:Array Value)(hz:items.size<=sizeLine):Walks prog w A it [it,q] [it] items.size (fun i v=>items[items.size-1-i]?=some v) (TK it q items) where
 sub:=fun b hb=>by simp at hb;simp[hb]
 frame:=fun _ _ _ x hk=>⟨x.1,x.2.1.at fun o e=>hk it Ro o e,by obtain⟨o,e,r⟩:=x.2.2;exact⟨o,hk q Ro o e,r⟩⟩
 item:=fun i s Q E hi x hQ=>by have e:(items.size:Int)-1-(i:Int)=((items.size-1-i:Nat):Int):=Qt;have e2:((items.size-1-i:Nat):Int)-1=(items.size:Int)-1-((i+1:Nat):Int):=Qt;have hit:=x.2.1;rw[e] at hit;have hx:items[items.size-1-i]?=some (items[items.size-1-i]' Qt):=Array.getElem?_eq_getElem Qt;refine RV.next_item hit x.2.2 hx hz fun h' tk GN sb=>?_;rw[e2] at GN;refine hQ _ h' tk hx ⟨hi,GN,?_⟩ fun b o hb eo=>(sb.2 b fun z=>hb (by simp[z])).trans eo;obtain⟨o,eo,r⟩:=x.2.2;exact⟨o,(sb.2 q AJ).trans eo,r⟩
 done:=fun s Q E x hQ=>by have e:(items.size:Int)-1-(items.size:Int)=-1:=Qt;have hit:=x.2.1;rw[e] at hit;exact RV.next_end hh hit fun h' he=>hQ h' s.toks fun b o hb eo=>he b o (fun z=>hb (by simp[z])) eo
 self:=fun _ _ _ _ x hQ=>RV.nv x.2.1 hQ
end
end GA
section
variable{X:Cx}{EX:XE}{L:Lc}{e a b tg:Expr}{fa fb fe:M D}{pos p V6 p':Pos}
theorem sC{items acc:Array Value}(h:ItemsOf (fun i v=>items[items.size-1-i]?=some v) acc items.size):acc=items.toList.reverse.toArray:=by
 obtain⟨h1,h2⟩:=h;apply Array.ext';refine L3 fun i=>?_;by_cases hi:i<acc.size;have e:=h2 i acc[i] (Array.getElem?_eq_getElem hi);have l:acc.toList[i]?=some acc[i]:=by simp[hi]
 rw[l];simp only[List.toList_toArray];rw[Nt (by simp;lia),<-e];simp;have O9:¬i<items.size:=Qt;rw[I0 (by simp;lia),I0 (by simp;lia)]
theorem Q1H{Ug:U5}{σ:St}{H:Hp}{s s':Shared}{it:Addr}(I:Inv X Ug σ H s)(hf:jy X Ug H it)(m:Moved [it] (fun a b=>b=a) s s'):Inv X Ug σ H s':=by
 obtain⟨hp,g,d,tk,os⟩:=s';obtain⟨m1,m2,m3,m4,m5⟩:=m;simp only at m1 m2 m3 m4 m5;subst m2 m3 m4;have Y3:∀b∈[it],jy X Ug H b:=fun b hb=>by
  have e:b=it:=by simpa using hb
  subst e;exact hf
 exact Inv.uJ (h':=hp) (tk:=tk) (fp:=[it]) I Y3 m1
def Ku(K:Frag):OY->Hp->VK->Prop:=fun xs H Q=>∃t q ys,xs=[.ref q]/\lH K H t q ys/\∀p,H p=none->Q (.ref p) (upd H p (.tup ys.reverse))
theorem HR{t:TA}(hg:Gl X "reversed")(hm:X.mg "reversed" = none)(vH:Gl X "tuple")(xu:X.mg "tuple" = none)(hc:X.calm=true)(ha:PA X [a] t)(hs:starEach [a] X.env=[(false,eval a X.env)]:=by rfl)(iM:starEach [.Call (.Name "reversed" p) [a] [] pos] X.env=[(false,eval (.Call (.Name "reversed" p) [a] [] pos) X.env)]:=by rfl):PE X (.Call (.Name "tuple" p') [.Call (.Name "reversed" p) [a] [] pos] [] V6) (Po (Ku X.K) t):=by
 intro Ug s σ H Q I h;refine Qn (dA I vH xu boot_tuple (Nj ?_ iM rfl));rw[iM];refine Np (Call_ (dA I hg hm boot_reversed (Nj (bT (ha pos Ug s σ H _ I h) fun us s1 zz=>?_) hs rfl)));obtain⟨vs,H1,I1,r1,q1⟩:=zz;obtain⟨t,q,xs,e,sq,hR⟩:=q1;subst e;obtain⟨u,rfl,ru⟩:=vals1 r1;cases ru;have fp:jy X Ug H1 s1.heap.objs.size:=I1.qf (ZS _) (I1.cj.fresh (ZS _));have fin:∀(o:Obj)(tk:Nat)(aI:Ul)(s':Shared)(acc:Array Value),Vals xs aI->xs.length<=sizeLine->Moved [s1.heap.objs.size] (fun a b=>b=a) {s1 with heap:=s1.heap.push o,toks:=tk} s'->ItemsOf (fun i v=>aI.toArray[aI.toArray.size-1-i]?=some v) acc aI.toArray.size->EP X Ug σ Q (.ref s'.heap.objs.size) {s' with heap:=s'.heap.push {cls:=.type "tuple",data:=.seq acc}}:=fun o tk aI s' acc rv hz m hi=>by have I2:Inv X Ug σ H1 {s1 with heap:=s1.heap.push o,toks:=tk}:=I1.kept (t':=tk) fun b o e=>T2 _ e;have I3:=Q1H I2 fp m;rw[sC hi];refine⟨.ref s'.heap.objs.size,_,I3.laid (t':=s'.toks) (o:=.tup xs.reverse) (fun b ob q=>T2 _ q) (ZS _) ?_,rfl,hR _ (I3.cj.fresh (ZS _))⟩;exact⟨by rw[List.length_reverse];exact hz,_,Vals.reverse rv,lI.new _ _⟩
 cases t with
 |false=>
  obtain⟨aI,rv,pl,hz⟩:=I1.list (show cX X.K H1 q xs from sq);have hsz:aI.toArray.size<=sizeLine:=by rw[U6,<-rv.length];exact hz
  refine call_reversed_list pl.isList (Mw ?_);have lt:q<s1.heap.objs.size:=by obtain⟨o,e,_⟩:=pl.isList;exact Ta e
  have ri:Heap.IsRevIter (s1.heap.push (revObj q ((aI.toArray.size:Int)-1))) s1.heap.objs.size q ((aI.toArray.size:Int)-1-((0:Nat):Int)):=⟨_,TR _ rfl,rfl,by simp[revObj]⟩;have W:=(Walks.listRev (prog:=X.prog) (w:=X.w) (A:=X.A.in1.in1.in1) (I1.ok.hd hc) s1.heap.objs.size q (Uh lt) aI.toArray).toS;refine GA.pV (T:="list_reverseiterator") (St:=GA.UP s1.heap.objs.size q aI.toArray) (s:={s1 with heap:=s1.heap.push (revObj q ((aI.toArray.size:Int)-1))}) (.inl rfl) W (fun i s st=>st.2.1.typeIs) GA.J6 ⟨ER _,ri,?_⟩ (fun b hb=>?_) Ro hsz fun s' acc m hi=>fin _ s1.toks aI s' acc rv hz m hi;exact pl.isList.at fun o e=>T2 _ e;simp only[List.mem_cons,List.not_mem_nil,or_false] at hb;rcases hb with rfl|rfl;exact Ta (TR _ rfl);exact G2 lt (Ta (TR _ rfl))
 |true=>
  obtain⟨aI,rv,tp,hz⟩:=I1.tuple (show dz X.K H1 q xs from sq);have hsz:aI.toArray.size<=sizeLine:=by rw[U6,<-rv.length];exact hz
  refine RV.make tp hsz fun tk=>Mw ?_;have lt:q<s1.heap.objs.size:=by obtain⟨o,e,_⟩:=tp;exact Ta e
  have ri:RV.Is (s1.heap.push (RV.obj q ((aI.toArray.size:Int)-1))) s1.heap.objs.size q ((aI.toArray.size:Int)-1-((0:Nat):Int)):=⟨_,TR _ rfl,rfl,by simp[RV.obj]⟩;have W:=(GA.KH (prog:=X.prog) (w:=X.w) (A:=X.A.in1.in1.in1) (I1.ok.hd hc) s1.heap.objs.size q (Uh lt) aI.toArray hsz).toS;refine GA.pV (T:="reversed") (St:=GA.TK s1.heap.objs.size q aI.toArray) (s:={s1 with heap:=s1.heap.push (RV.obj q ((aI.toArray.size:Int)-1)),toks:=tk}) (.inr rfl) W (fun i s st=>st.2.1.typeIs) (GA.J7 hsz) ⟨ER _,ri,?_⟩ (fun b hb=>?_) Ro hsz fun s' acc m hi=>fin _ tk aI s' acc rv hz m hi;obtain⟨o,e,r⟩:=tp;exact⟨o,T2 _ e,r⟩;simp only[List.mem_cons,List.not_mem_nil,or_false] at hb;rcases hb with rfl|rfl;exact Ta (TR _ rfl);exact G2 lt (Ta (TR _ rfl))
theorem LF:Jy L (Ku L.K) rz:=fun G F H σ ρ x dx d Q g0 rx e k=>by unfold rz at e;cases e1:cq dx with|none=>rw[e1] at e;cases e|some ds=>rw[e1] at e;cases e;obtain⟨t,q,vs,rfl,r,z⟩:=RR.pf rx g0 e1;refine⟨t,q,vs,rfl,z,fun p hp=>?_⟩;have sF:=bg (o:=.tup vs.reverse) (g0.sub.free hp);exact k _ _ _ sF (g0.laid hp) (.tup (dz.of aO) ((aM.reverse r).same sF))
theorem z6(hg:Gl X "reversed")(hm:X.mg "reversed" = none)(vH:Gl X "tuple")(xu:X.mg "tuple" = none)(ha:PR X EX a fa)(hc:X.calm=true:=by rfl)(hs:starEach [a] X.env=[(false,eval a X.env)]:=by rfl)(iM:starEach [.Call (.Name "reversed" p) [a] [] pos] X.env=[(false,eval (.Call (.Name "reversed" p) [a] [] pos) X.env)]:=by rfl):PV X EX (.Call (.Name "tuple" p') [.Call (.Name "reversed" p) [a] [] pos] [] V6) (m1 rz fa):=
 (HR hg hm vH xu hc (lz ha hs) hs iM).le fun σ H Q bF=>dt bF fun G F F1 H1 bw d1 x s1 g1 r1 o1=>by obtain⟨d,e,q⟩:=o1.opt;exact LF G F1 H1 σ bw x d1 d Q g1 r1 e (eU.same s1 q)
end
namespace GA
section
variable{prog:Program}{w:World}{A:Around}{E:RG}{s:Shared}{I:Addr}{fp wr:XU}{n:Nat}{P:Nat->Value->Prop}{St:Nat->Heap->Prop}{T:String}
theorem AE(h2:JC T)(W:WalksS prog w A.in1 I fp wr (fun a b=>b=a) n P (fun i s=>St i s.heap))(hT:∀(i:Nat)(s:Shared),St i s.heap->s.TypeIs (.ref I) T)(hh:Hint prog w A.in1 I St)(S:Addr)(jB:St 0 s.heap)(zw:S∉fp)(hI:I∈fp)
  (hS:s.heap.get? S=some {cls:=.type "list",data:=.seq #[]}) (hn:n<=sizeLine)
  (hR:∀s' acc c,Moved (S::wr) (fun a b=>b=a) s s'->s'.heap.get? S=some {cls:=.type "list",dict:=none,data:=.seq acc c,slots:=#[]}->ItemsOf P acc n->R (.ok (.ret .none)) s') :
  wpAny (model prog w) A.in1 (Builtin.«list.__init__» ⟨[.ref S,.ref I],[]⟩) (fun fin s'=>match fin with|.done f=>R (.ok f) s'|.again c'=>c'.quiet=true/\codeAny (model prog w) A c' R s') (fun e s'=>R (.error e) s') s:=by
 have q2:=xK (Obj.mapSeq (fun _=>(#[]:Array Value))) hS rfl;have HJ:∀b o,b≠S->s.heap.get? b=some o->(s.heap.update S (Obj.mapSeq (fun _=>(#[]:Array Value)))).get? b=some o:=fun b o hb e=>by rw[Mz _ _ (Ry hb)];exact e
 refine ZM (m:=Builtin.List.listItems (.ref S)) ?_;unfold Builtin.List.listItems;refine ZM (Bt hS rfl (Pf ?_));refine ZM (m:=updateSeq S (fun _=>#[])) (S6 hS rfl (ZM (An ?_)));refine extend (s:={s with heap:=s.heap.update S (Obj.mapSeq (fun _=>(#[]:Array Value)))}) h2 W hT hh S .none _ (W.frame 0 s _ s.toks jB (ZS _) fun b hb o e=>HJ b o (fun z=>zw (z ▸ hb)) e) zw hI q2 hn fun s' acc c hm GK gX=>hR s' acc c ?_ GK gX;have mv:Moved (S::wr) (fun a b=>b=a) s {s with heap:=s.heap.update S (Obj.mapSeq (fun _=>(#[]:Array Value)))}:=⟨fun b o hb e=>HJ b o (fun z=>hb (by rw[z];exact Bl)) e,rfl,rfl,rfl,ZS _⟩;exact Moved.trans W.gtrans mv hm
theorem rS(h2:JC T)(W:WalksS prog w A.in1.in1 I fp wr (fun a b=>b=a) n P (fun i s=>St i s.heap))(hT:∀(i:Nat)(s:Shared),St i s.heap->s.TypeIs (.ref I) T)(hh:Hint prog w A.in1.in1 I St)(jB:St 0 s.heap)(AH:∀b∈fp,b<s.heap.objs.size)(hI:I∈fp)(hn:n<=sizeLine)
  (hQ:∀s' acc c,Moved (s.heap.objs.size::wr) (fun a b=>b=a) {s with heap:=s.heap.push {cls:=.type "list",data:=.seq #[]}} s'->s'.heap.get? s.heap.objs.size=some {cls:=.type "list",dict:=none,data:=.seq acc c,slots:=#[]}->ItemsOf P acc n->Q (.ref s.heap.objs.size) s') :
  wpAny (model prog w) A (call (.type "list") [.ref I]) Q E s:=by
 have zw:s.heap.objs.size∉fp:=fun hm=>Sx _ (AH _ hm);have hS:(s.heap.push {cls:=.type "list",data:=.seq #[]}).get? s.heap.objs.size=some {cls:=.type "list",data:=.seq #[]}:=TR _ rfl;refine callType_codes (Q₁:=fun obj bx=>obj=.ref s.heap.objs.size/\bx={s with heap:=s.heap.push {cls:=.type "list",data:=.seq #[]}}) PySem.F.called_list (PySem.F.typeCall_list_1 _) PySem.F.entry_list_init (code_list_new _ ⟨rfl,rfl⟩) fun obj bx z=>?_;obtain⟨rfl,rfl⟩:=z;refine⟨⟨_,hS,rfl⟩,PySem.F.args_list_init_2 _ _,?_⟩;exact AE (s:={s with heap:=s.heap.push {cls:=.type "list",data:=.seq #[]}}) h2 W hT hh _ (W.frame 0 s _ s.toks jB (ZS _) fun b _ o e=>T2 _ e) zw hI hS hn fun s' acc c hm GK gX=>⟨rfl,hQ s' acc c hm GK gX⟩
end
end GA
section
variable{X:Cx}{EX:XE}{L:Lc}{a:Expr}{fa:M D}{p pos p' V6:Pos}
def SE(K:Frag):OY->Hp->VK->Prop:=fun xs H Q=>∃t q ys,xs=[.ref q]/\lH K H t q ys/\∀p,H p=none->Q (.ref p) (upd H p (.lst ys.reverse))
theorem HQ(hg:Gl X "reversed")(hm:X.mg "reversed" = none)(vH:Gl X "list")(xu:X.mg "list" = none)(hc:X.calm=true)(ha:PA X [a] t)(hs:starEach [a] X.env=[(false,eval a X.env)]:=by rfl)(iM:starEach [.Call (.Name "reversed" p) [a] [] pos] X.env=[(false,eval (.Call (.Name "reversed" p) [a] [] pos) X.env)]:=by rfl):PE X (.Call (.Name "list" p') [.Call (.Name "reversed" p) [a] [] pos] [] V6) (Po (SE X.K) t):=by
 intro Ug s σ H Q I h;refine Qn (dA I vH xu Nf (Nj ?_ iM rfl));rw[iM];refine Np (Call_ (dA I hg hm boot_reversed (Nj (bT (ha pos Ug s σ H _ I h) fun us s1 zz=>?_) hs rfl)));obtain⟨vs,H1,I1,r1,q1⟩:=zz;obtain⟨t,q,xs,e,sq,hR⟩:=q1;subst e;obtain⟨u,rfl,ru⟩:=vals1 r1;cases ru;have fp:jy X Ug H1 s1.heap.objs.size:=I1.qf (ZS _) (I1.cj.fresh (ZS _));have fin:∀(o:Obj)(tk:Nat)(aI:Ul)(s':Shared)(acc:Array Value)(c:Nat),Vals xs aI->xs.length<=sizeLine ->
   Moved ((s1.heap.push o).objs.size::[s1.heap.objs.size]) (fun a b=>b=a) {s1 with heap:=(s1.heap.push o).push {cls:=.type "list",data:=.seq #[]},toks:=tk} s'->s'.heap.get? (s1.heap.push o).objs.size=some {cls:=.type "list",dict:=none,data:=.seq acc c,slots:=#[]} ->
   ItemsOf (fun i v=>aI.toArray[aI.toArray.size-1-i]?=some v) acc aI.toArray.size->EP X Ug σ Q (.ref (s1.heap.push o).objs.size) s':=fun o tk aI s' acc c rv hz m hl hi=>by
  obtain⟨hp,g,d,WK,os⟩:=s';obtain⟨m1,m2,m3,m4,m5⟩:=m;simp only at m1 m2 m3 m4 m5 hl;subst m2 m3 m4;have hsz:(s1.heap.push o).objs.size=s1.heap.objs.size+1:=by simp[Heap.push]
  rw[sC hi] at hl;refine⟨.ref (s1.heap.push o).objs.size,_,I1.laid (t':=WK) (o:=.lst xs.reverse) (fun b ob q=>?_) (by rw[hsz];exact Jh _) ⟨by rw[List.length_reverse];exact hz,_,c,Vals.reverse rv,hl⟩,rfl,hR _ (I1.cj.fresh (by rw[hsz];exact Jh _))⟩;have lt:=Ta q;have n1:b≠(s1.heap.push o).objs.size:=Uh (Bc lt (by rw[hsz];exact Jh _));have n2:b≠s1.heap.objs.size:=Uh lt;exact m1 b ob (by simp only[List.mem_cons,List.not_mem_nil,or_false,not_or];exact⟨n1,n2⟩) (T2 _ (T2 _ q))
 cases t with
 |false=>
  obtain⟨aI,rv,pl,hz⟩:=I1.list (show cX X.K H1 q xs from sq);have hsz:aI.toArray.size<=sizeLine:=by rw[U6,<-rv.length];exact hz
  refine call_reversed_list pl.isList (Mw ?_);have lt:q<s1.heap.objs.size:=by obtain⟨o,e,_⟩:=pl.isList;exact Ta e
  have ri:Heap.IsRevIter (s1.heap.push (revObj q ((aI.toArray.size:Int)-1))) s1.heap.objs.size q ((aI.toArray.size:Int)-1-((0:Nat):Int)):=⟨_,TR _ rfl,rfl,by simp[revObj]⟩;have W:=(Walks.listRev (prog:=X.prog) (w:=X.w) (A:=X.A.in1.in1) (I1.ok.hd hc) s1.heap.objs.size q (Uh lt) aI.toArray).toS;refine GA.rS (T:="list_reverseiterator") (St:=GA.UP s1.heap.objs.size q aI.toArray) (s:={s1 with heap:=s1.heap.push (revObj q ((aI.toArray.size:Int)-1))}) (.inl rfl) W (fun i s st=>st.2.1.typeIs) GA.J6 ⟨ER _,ri,?_⟩ (fun b hb=>?_) Ro hsz fun s' acc c m hl hi=>fin _ s1.toks aI s' acc c rv hz m hl hi;exact pl.isList.at fun o e=>T2 _ e;simp only[List.mem_cons,List.not_mem_nil,or_false] at hb;rcases hb with rfl|rfl;exact Ta (TR _ rfl);exact G2 lt (Ta (TR _ rfl))
 |true=>
  obtain⟨aI,rv,tp,hz⟩:=I1.tuple (show dz X.K H1 q xs from sq);have hsz:aI.toArray.size<=sizeLine:=by rw[U6,<-rv.length];exact hz
  refine RV.make tp hsz fun tk=>Mw ?_;have lt:q<s1.heap.objs.size:=by obtain⟨o,e,_⟩:=tp;exact Ta e
  have ri:RV.Is (s1.heap.push (RV.obj q ((aI.toArray.size:Int)-1))) s1.heap.objs.size q ((aI.toArray.size:Int)-1-((0:Nat):Int)):=⟨_,TR _ rfl,rfl,by simp[RV.obj]⟩;have W:=(GA.KH (prog:=X.prog) (w:=X.w) (A:=X.A.in1.in1) (I1.ok.hd hc) s1.heap.objs.size q (Uh lt) aI.toArray hsz).toS;refine GA.rS (T:="reversed") (St:=GA.TK s1.heap.objs.size q aI.toArray) (s:={s1 with heap:=s1.heap.push (RV.obj q ((aI.toArray.size:Int)-1)),toks:=tk}) (.inr rfl) W (fun i s st=>st.2.1.typeIs) (GA.J7 hsz) ⟨ER _,ri,?_⟩ (fun b hb=>?_) Ro hsz fun s' acc c m hl hi=>fin _ tk aI s' acc c rv hz m hl hi;obtain⟨o,e,r⟩:=tp;exact⟨o,T2 _ e,r⟩;simp only[List.mem_cons,List.not_mem_nil,or_false] at hb;rcases hb with rfl|rfl;exact Ta (TR _ rfl);exact G2 lt (Ta (TR _ rfl))
theorem HX(hg:Gl X "reversed")(hm:X.mg "reversed" = none)(vH:Gl X "list")(xu:X.mg "list" = none)(ha:PR X EX a fa)(hc:X.calm=true:=by rfl)(hs:starEach [a] X.env=[(false,eval a X.env)]:=by rfl)(iM:starEach [.Call (.Name "reversed" p) [a] [] pos] X.env=[(false,eval (.Call (.Name "reversed" p) [a] [] pos) X.env)]:=by rfl):PF X EX (.Call (.Name "list" p') [.Call (.Name "reversed" p) [a] [] pos] [] V6) (m1 E9 fa):=
 (HQ hg hm vH xu hc (lz ha hs) hs iM).le fun σ H Q bF=>dt bF fun G F F1 H1 bw d1 x s1 g1 r1 o1=>by obtain⟨d,e,q⟩:=o1.opt;unfold E9 at e;cases e1:cq d1 with|none=>rw[e1] at e;cases e|some ds=>rw[e1] at e;cases e;obtain⟨t,b,vs,rfl,r,z⟩:=RR.pf r1 g1 e1;refine⟨t,b,vs,rfl,z,fun p hp=>?_⟩;have ob:eT (lc X EX).K (lc X EX).mg F1 (upd H1 p (.lst vs.reverse)) p (.lst ds.reverse):=⟨_,aO,aM.reverse r⟩;exact q F1 _ _ s1 (g1.made hp) ⟨p,rfl,g1.loose hp ob⟩
def Iz(K:Frag)(al:Bool):OY->Hp->VK->Prop:=fun xs H Q=>∃(q:Addr)(bs:Ur),xs=[.ref q]/\cX K H q (bs.map V.bl)/\Q (.bl (if al then bs.all id else bs.any id)) H
theorem rP:∀{bs:Ur}{us:Ul},Vals (bs.map V.bl) us->us=bs.map Value.bool|[],_,h=>by cases h;rfl|b::bs,_,h=>by cases h with|cons h1 h2=>rw[rP h2,P6];cases (show _=Value.bool b from h1);rfl
theorem range_all(bs:Ur):(List.range bs.length).all (fun i=>bs.getD i false)=bs.all id/\(List.range bs.length).any (fun i=>bs.getD i false)=bs.any id:=by
 have e:(List.range bs.length).map (fun i=>bs.getD i false)=bs:=by apply FF;simp;intro i h1 h2;simp[h2]
 refine⟨?_,?_⟩;rw[show bs.all id=((List.range bs.length).map fun i=>bs.getD i false).all id by rw[e],List.all_map];rfl;rw[show bs.any id=((List.range bs.length).map fun i=>bs.getD i false).any id by rw[e],List.any_map];rfl
theorem rQ(hc:X.calm=true)(al:Bool):d6 X (.builtin (if al then "all" else "any")) (Iz X.K al):=by
 intro Ug s σ H xs us Q I r h;obtain⟨q,bs,rfl,hq,k⟩:=h;obtain⟨u,rfl,ru⟩:=vals1 r;cases ru;obtain⟨aI,rv,pl,hz⟩:=I.list hq;have e:=rP rv;subst e;have lt:q<s.heap.objs.size:=by obtain⟨o,e,_⟩:=pl.isList;exact Ta e
 have hh:X.A.in1.handled=none:=I.ok.hd hc;have W:=Walks.list (prog:=X.prog) (w:=X.w) (A:=X.A.in1) hh s.heap.objs.size q (Uh lt) (bs.map Value.bool).toArray;have st:(fun i (h:Heap)=>h.IsListIter s.heap.objs.size q i/\h.IsList q (bs.map Value.bool).toArray) 0 (s.heap.push {cls:=.type "list_iterator",data:=.fields #[.ref q,.int 0 0]}):=⟨⟨_,TR _ rfl,rfl,rfl⟩,pl.isList.push _⟩;have tr:TruthOf X.prog X.w X.A.in1 (fun i v=>(bs.map Value.bool).toArray[i]?=some v) (fun i=>bs.getD i false):=fun i v s Q E hP hQ=>by
  have O0:bs[i]?.map Value.bool=some v:=by simpa using hP
  cases e:bs[i]? with
  |none=>rw[e] at O0;cases O0|some b=>
   rw[e] at O0;cases O0;have:bs.getD i false=b:=by simp[e]
   dsimp only at hQ;rw[this] at hQ;exact Lb hQ
 have kp:∀(h':Heap),(∀b o,b∉[s.heap.objs.size]->(s.heap.push {cls:=.type "list_iterator",data:=.fields #[.ref q,.int 0 0]}).get? b=some o->h'.get? b=some o)->∀b o,s.heap.get? b=some o->h'.get? b=some o:=fun h' hk b o e=>by have lt:=Ta e;have n1:b≠s.heap.objs.size:=Uh lt;exact hk b o (by simp[n1]) (T2 _ e)
 have hsz:(bs.map Value.bool).toArray.size=bs.length:=Ro;cases al with|true=>refine call_all_walk (qY pl.isList ⟨_,_,_,_,_,_,_,rfl,W,st,tr,fun h' tk hk=>?_⟩);rw[hsz,(range_all bs).1];exact⟨.bl _,H,I.kept (kp h' hk),rfl,k⟩|false=>refine call_any_walk (qY pl.isList ⟨_,_,_,_,_,_,_,rfl,W,st,tr,fun h' tk hk=>?_⟩);rw[hsz,(range_all bs).2];exact⟨.bl _,H,I.kept (kp h' hk),rfl,k⟩
theorem CN{K:Frag}{mg:MG}{F:Hp}:∀{vs:OY}{ds:XW}{bs:Ur},aM K mg F vs ds->iQ ds=some bs->vs=bs.map V.bl
|_,_,_,.nil,e=>by cases e;rfl|_,_,_,.cons (d:=d) h t,e=>by
 cases d with
 |bl b=>obtain rfl:=Den.b h;simp only[iQ] at e;cases q:iQ _ with|none=>rw[q] at e;cases e|some bs=>rw[q] at e;cases e;rw[CN t q];rfl
 |_=>cases e
theorem qh(al:Bool):Jy L (Iz L.K al) (oR al):=fun G F H σ ρ x dx d Q g0 rx e k=>by
 cases dx with
 |lst ds=>
  simp only[oR] at e;cases e2:iQ ds with
  |none=>rw[e2] at e;cases e|some bs=>
   rw[e2] at e;cases e;obtain⟨q,vs,rfl,r,z⟩:=RR.seq rx g0 rfl;rcases z with ⟨_,z⟩|⟨z,_⟩
   rw[CN r e2] at z;exact⟨q,bs,rfl,z,k F H _ (aN.refl _) g0 (.bl _)⟩;cases z
 |_=>cases e
theorem mZ(hc:X.calm=true):d6 X (.builtin "all") (Iz X.K true):=rQ hc true
theorem rR(hc:X.calm=true):d6 X (.builtin "any") (Iz X.K false):=rQ hc false
theorem boot_all:bootBuiltins "all" = some (.builtin "all"):=by kernel_rfl
theorem boot_any:bootBuiltins "any" = some (.builtin "any"):=by kernel_rfl
theorem yc(g:L.Good G F H σ ρ)(r:Den L.K L.mg F v x)(o:Out (fR k (setAt kd x) ρ) P E) : ∃l vs i j bQ,kd=.int i/\σ[k]?=some (some (V.ref l))/\H l=some (.lst vs)/\Ma vs.length i=some j/\L.Good G F (upd H l (.lst (vs.set j v))) σ bQ/\P () bQ:=by
 unfold fR at o;cases q:own ρ[k]? with
 |none=>rw[q] at o;exact o.elim|some d=>
  rw[q] at o;dsimp only at o;cases q2:setAt kd x d with
  |none=>rw[q2] at o;exact o.elim|some d'=>
   rw[q2] at o;have o':P () (cL k d' ρ):=o;cases d with
   |lst ds=>
    cases kd with
    |int i=>
     simp only[setAt] at q2;cases q4:G5 ds.length i with
     |none=>rw[q4] at q2;cases q2|some j=>
      rw[q4] at q2;cases q2;cases q3:ρ[k]? with
      |none=>rw[q3] at q;cases q|some s=>
       rw[q3] at q;have sl:=g.slot k s q3;have fin:∀l s',σ[k]?=some (some (V.ref l))->cw s=true->eT L.K L.mg F H l (.lst ds)->((∃e,s=.ow e/\s'=.ow (.lst (ds.set j x)))\/(∃e,s=.io e/\s'=.io (.lst (ds.set j x))))->cL k (.lst (ds.set j x)) ρ=ρ.set k s'->∃l vs i' j bQ,D.int i=.int i'/\σ[k]?=some (some (V.ref l))/\H l=some (.lst vs)/\Ma vs.length i'=some j/\L.Good G F (upd H l (.lst (vs.set j v))) σ bQ/\P () bQ:=fun l s' z1 z2 z3 z4 z5=>by obtain⟨vs,y1,y2⟩:=z3;refine⟨l,vs,i,j,_,rfl,z1,y1,by rw[y2.length];exact q4,Good.write g q3 z2 z1 z4 ⟨_,aO,y2.set j r⟩,?_⟩;rw[<-z5];exact o'
       cases s with|no=>cases q|sh e=>cases q|ow e=>cases q;obtain⟨l,z1,z2,z3,z4⟩:=sl;exact fin l _ (join_some z1) rfl z4 (.inl ⟨_,rfl,rfl⟩) (by unfold cL;rw[q3])|io e=>cases q;obtain⟨l,z1,z2,z3,z4⟩:=sl;exact fin l _ (join_some z1) rfl z4 (.inr ⟨_,rfl,rfl⟩) (by unfold cL;rw[q3])
    |_=>cases q2
   |_=>cases q2
variable{b value:Expr}{fk fv:M D}{x:Str}
theorem gV(i:Nat){p1 p2 p3:Pos}(hk:PV X EX b fk)(hv:PV X EX value fv)(hN:X.N[i]?=some x:=by rfl)(LU:yz X.env.scope x:=by exact wg)(hd:WL x:=by decide)
  (kO:Le x:=by decide) (hs:swapsWithSole [.Subscript (.Name x p1) b p2] value p3.line X.env=pure false:=by rfl) (hw:swappedStores [.Subscript (.Name x p1) b p2] value X.env=pure none:=by rfl)
  (h1:(assignEach [.Subscript (.Name x p1) b p2] X.env).map (·.2)=[assign (.Subscript (.Name x p1) b p2) X.env]:=by rfl)
  (ha:∀v,assign (.Subscript (.Name x p1) b p2) X.env v=(do
   let ov <-holding [v] (eval (.Name x p1) X.env);let iv <-holding [v,ov] (eval b X.env)
   standAt p2
   holding [v,ov,iv] (setItem ov iv v)
   release [v,ov,iv] []):=by exact Ri):oh X EX (.Assign [.Subscript (.Name x p1) b p2] value p3) (gT i fk fv):=
 (NV hv (NQ (iw hN LU hd kO) hk set_list ha) hs hw h1).le fun E σ H bF=>xF bF fun G F ρ g0 o=>a7 g0 o (fun x r q=>q.x) fun F1 H1 bw d1 v s1 g1 r1 o1=>by by_cases hl:isLst (own bw[i]?)=true;rw[Wr hl] at o1;obtain⟨l,vs,z1,z2⟩:=isLst_slot (L:=lc X EX) g1 hl;refine⟨_,z1,a7 g1 o1 (fun x r q=>(q.same s1).x) fun F2 H2 oQ d2 y s2 g2 r2 o2=>?_⟩;obtain⟨l',wJ,k,j,bQ,y0,y1,y2,y3,g3,q⟩:=yc (L:=lc X EX) g2 (r1.same s2) (Out.Pd o2);rw[z1] at y1;cases y1;subst y0;obtain rfl:=Den.i r2;exact⟨l,wJ,k,j,rfl,rfl,y2,y3,q F2 _ σ (s1.trans s2) g3⟩;rw[Uu hl] at o1;exact o1.elim
end
section
variable{X:Cx}{EX:XE}{L:Lc}{e a b c:Expr}{fa fb fc fe:M D}{pos:Pos}{x:Str}
theorem jm.Ql:∀{ds:XW}{us:Ul},Paired jm ds us->∃vs:OY,Vals vs us/\∀(K:Frag)(mg:MG)(F:Hp),aM K mg F vs ds|_,_,.nil=>⟨[],.nil,fun _ _ _=>.nil⟩|_,_,.cons h t=>by obtain⟨v,r,d⟩:=h.den;obtain⟨vs,rs,es⟩:=jm.Ql t;exact⟨v::vs,.cons r rs,fun K mg F=>.cons (d K mg F) (es K mg F)⟩
def tw(K:Frag)(d:D)(v:Value):Prop:=jm d v\/∃(ds:XW)(q:Addr)(aI:Array Value)(n:Nat),d=.tup ds/\v=.ref q/\K.lookup q=some ⟨.type "tuple",none,.seq aI n,#[]⟩/\aI.size<=sizeLine/\Paired jm ds aI.toList
theorem tw.den{K:Frag}{d:D}{v:Value}(h:tw K d v):∃u:V,RelV u v/\∀(mg:MG)(F:Hp),Den K mg F u d:=by rcases h with h|⟨ds,q,aI,n,rfl,rfl,hl,hz,hp⟩;obtain⟨u,r,d⟩:=h.den;exact⟨u,r,fun mg F=>d K mg F⟩;obtain⟨vs,rs,es⟩:=jm.Ql hp;exact⟨.ref q,rfl,fun mg F=>.tup (.inr ⟨_,aI,n,hl,rfl,rfl,hz,rs,rfl⟩) (es K mg F)⟩
theorem Q06{K:Frag}{ds:XW}{q:Addr}{aI:Array Value}{n:Nat}(hl:K.lookup q=some ⟨.type "tuple",none,.seq aI n,#[]⟩)(hz:aI.size<=sizeLine)(hp:Paired jm ds aI.toList):tw K (.tup ds) (.ref q):=.inr ⟨ds,q,aI,n,rfl,rfl,hl,hz,hp⟩
structure Gf(w:World)(K:Frag)(mg:MG)(x:Str)(t:List (Str×D))(ab:Ph):Prop where
 ex:∃(q:Addr)(es:Array DictEntry)(n:Nat),mg x=some (.ref q)/\(q == sysModules)=false/\K.lookup q=some ⟨.type "dict",none,.dict es n,#[]⟩/\W.KeysLit w.params es.toList/\(∀k d,t.lookup k=some d->∃v,W.nsIn K q k=some (some v)/\tw K d v)/\∀k∈ab,W.nsIn K q k=some none
theorem Ft{K:Frag}{q:Addr}{t:List (Str×D)}(h:∀p∈t,∃v,W.nsIn K q p.1=some (some v)/\tw K p.2 v):∀k d,t.lookup k=some d->∃v,W.nsIn K q k=some (some v)/\tw K d v:=fun k d e=>h (k,d) (GI e)
theorem uy{t:List (Str×D)}{ab:Ph}{p:Pos}(T:Gf X.w X.K X.mg x t ab)(hg:Gl X x)(hb:PV X EX b fb)(jz:WL x:=by decide)
  (hs:∀(q:Addr)(k:Str)(tk:Tok),subscripted b false (.ref q) (.str k tk)=operate [.ref q,.str k tk] (getItem (.ref q) (.str k tk)):=by intro _ _ _;with_unfolding_all rfl) :
  PV X EX (.Subscript (.Name x p) b pos) (m1 (Fs t) fb):=by
 intro Ug s σ H Q I h;obtain⟨G,F,ρ,g0,o⟩:=h;obtain⟨q,es,n,hm,_,hl,hk,hv,_⟩:=T.ex;refine Subscript_ (lZ I hg hm ?_ jz);refine bT (hb Ug s σ H _ I (a7 g0 o (fun x r q=>q) fun F1 H1 bw d1 y s1 g1 r1 o1=>(⟨F1,bw,d1,s1,g1,r1,o1⟩:∃F1 bw d1,aN F F1/\(lc X EX).Good G F1 H1 σ bw/\Den X.K X.mg F1 y d1/\Out (opt (Fs t d1) bw) (eU (lc X EX) (RV (lc X EX)) G F σ Q) (dj (lc X EX) G F σ)))) fun u s2 zz=>?_;obtain⟨y,H2,I2,r2,F1,bw,d1,s1,g1,den,o1⟩:=zz;obtain⟨d,e1,q1⟩:=o1.opt;cases d1 with|str k=>obtain rfl:=Den.s den;obtain⟨tk,rfl⟩:=r2;obtain⟨v,hn,fl⟩:=hv k d e1;obtain⟨u2,ru,U1⟩:=fl.den;have Pb:=W.mapOf_K (prog:=X.prog) (w:=X.w) I2.rk hl hk;refine PyProof.Rows.tail_any Pb.typeIs slot_dict_getitem.lookup (wpAny_getItem_of (strKind_is X.prog X.w k tk) Pb (W.find_K hl hn) ?_) (hs q k tk);exact⟨u2,H2,I2.tok _,ru,q1 F1 H2 u2 s1 g1 (U1 _ F1)⟩|_=>cases e1
def E3(w:World)(K:Frag)(neg:Bool):R2:=fun x y H Q=>∃(k:Str)(q:Addr)(es:Array DictEntry)(n:Nat)(r:X0),x=.str k/\y=.ref q/\(q == sysModules)=false/\K.lookup q=some ⟨.type "dict",none,.dict es n,#[]⟩/\W.KeysLit w.params es.toList/\W.nsIn K q k=some r/\Q (.bl (if neg then !r.isSome else r.isSome)) H
theorem EE:gG X (compareOp .In) (E3 X.w X.K false):=by intro Ug s σ H x y v u Q I rx ry h;obtain⟨k,q,es,n,r,rfl,rfl,lo,hl,hk,hn,hq⟩:=h;obtain⟨tk,rfl⟩:=rx;cases ry;have Pb:=W.mapOf_K (prog:=X.prog) (w:=X.w) I.rk hl hk;refine wpAny_in_of (strKind_is X.prog X.w k tk) lo Pb ?_;rw[W.find_K hl hn];exact⟨.bl _,H,I.tok _,rfl,hq⟩
theorem DQ(lo:(q == sysModules)=false)(hl:X.K.lookup q=some ⟨.type "dict",none,.dict es n,#[]⟩)(hk:W.KeysLit X.w.params es.toList)
  (hv:∀k d,t.lookup k=some d->∃v,W.nsIn X.K q k=some (some v)/\tw X.K d v) (QG:∀k∈ab,W.nsIn X.K q k=some none) (σ:St) (H:Hp) (Q:VK)
  (h:lift (lc X EX) (RV (lc X EX)) (m1 (uH neg t ab) fa) σ H Q):Pp (E3 X.w X.K neg) (lift (lc X EX) (RV (lc X EX)) fa) (tC (.ref q)) σ H Q:=by
 obtain⟨G,F,ρ,g0,o⟩:=h;refine a7 g0 o (fun x r q=>q) fun F1 H1 bw d1 x s1 g1 r1 o1=>?_;obtain⟨d,e1,q1⟩:=o1.opt;cases d1 with
  |str k=>obtain rfl:=Den.s r1;simp only[uH] at e1;cases e2:t.lookup k with|some d2=>rw[e2] at e1;cases e1;obtain⟨v,hn,_⟩:=hv k d2 e2;exact⟨k,q,es,n,some v,rfl,rfl,lo,hl,hk,hn,by cases neg<;>exact q1 F1 H1 _ s1 g1 (.bl _)⟩|none=>rw[e2] at e1;dsimp only at e1;split at e1;rename_i hm;cases e1;exact⟨k,q,es,n,none,rfl,rfl,lo,hl,hk,QG k (by simpa using hm),by cases neg<;>exact q1 F1 H1 _ s1 g1 (.bl _)⟩;cases e1
  |_=>cases e1
theorem KA{e:Expr}{f:M D}{t:TE}{tt:TT}(hp:PT X e tt)(k:∀σ H Q,t σ H (fun v H1=>∃b,v=.bl b/\Q b H1)->tt σ H Q)(hl:∀σ H Q,lift (lc X EX) (RV (lc X EX)) f σ H Q->t σ H Q):PB X EX e (tB f):=hp.le fun σ H Q bF=>lf bF fun G F ρ g0 o=>k σ H Q (hl σ H _ (a7 g0 o (fun x r q=>q) fun F1 H1 bw d1 x s1 g1 r1 o1=>by cases d1 with|bl k=>obtain rfl:=Den.b r1;exact⟨k,rfl,o1 F1 H1 k s1 g1 rfl⟩|_=>exact o1.elim))
theorem Q1K(T:Gf X.w X.K X.mg x t ab)(hg:Gl X x)(ha:PV X EX a fa)(hm:behindInMarks .In (.Name x p)=false)(jz:WL x:=by decide):PB X EX (.Compare a [.In] [.Name x p] pos) (tB (m1 (uH false t ab) fa)):=by obtain⟨q,es,n,h1,lo,hl,hk,hv,QG⟩:=T.ex;exact KA (zZ EE ha (ky (v:=.ref q) hg h1 rfl jz) hm) (fun _ _ _ h=>h) (DQ lo hl hk hv QG)
theorem vy{K:Frag}{mg:MG}{F:Hp}{v:V}{d:D}(r:Den K mg F v d)(f:jN d=true):kL v=true:=by cases r<;>first|rfl|cases f
theorem GC{K:Frag}{mg:MG}{F:Hp}{v w:V}{d e:D}(r:Den K mg F v d)(q:Den K mg F w e)(f:jN d=true)(f2:jN e=true):GB v w=eqB d e:=by cases r<;>first|(cases f;done)|(cases q<;>first|(cases f2;done)|rfl)
theorem zD{K:Frag}{mg:MG}{F:Hp}{v:V}{d:D}(r:Den K mg F v d)(f:jN d=true):∀{vs:OY}{ds:XW},aM K mg F vs ds->ds.all jN=true->vs.all kL=true/\Ud v vs=ds.any fun y=>eqB y d|_,_,.nil,_=>⟨rfl,rfl⟩|_,_,.cons h t,fs=>by rw[FA,Jk] at fs;obtain⟨i1,i2⟩:=zD r f t fs.2;refine⟨?_,?_⟩;rw[FA,vy h fs.1,i1];rfl;unfold Ud at i2 ⊢;rw[VW,VW,i2,GC h r fs.1 f]
theorem xm(neg:Bool):kW L (Ya L.K neg) (inD neg):=fun G F H σ ρ x y dx dy d Q g0 rx ry e k=>by unfold inD at e;cases e1:cq dy with|none=>rw[e1] at e;cases e|some ds=>rw[e1] at e;dsimp only at e;split at e;rename_i hf;rw[Jk] at hf;cases e;obtain⟨t,q,vs,rfl,hq,r⟩:=Den.seq ry e1;obtain⟨i1,i2⟩:=zD rx hf.1 r hf.2;refine⟨q,vs,rfl,?_,vy rx hf.1,i1,?_⟩;have:=lH.same hq g0.sub;cases t;exact .inl this;exact .inr this;rw[i2];exact k F H _ (aN.refl _) g0 (.bl _);cases e
end
section
variable{K:Frag}{mg:MG}{G:Fx}{F H:Hp}{σ:St}{ρ:aS}
theorem Good.snoc(g:Good K mg G F H σ ρ)(x:Loose K mg G F H σ ρ l d):Good K mg G F H (σ++[some (V.ref l)]) (ρ++[.ow d]):=by
 have low:∀{i:Nat}{s:Sl},(ρ++[Sl.ow d])[i]?=some s->(i<ρ.length/\ρ[i]?=some s/\(σ++[some (V.ref l)])[i]?=σ[i]?)\/(i=ρ.length/\s=.ow d/\(σ++[some (V.ref l)])[i]?=some (some (V.ref l))):=fun {i s} h=>by
  by_cases hi:i<ρ.length;rw[Lh hi] at h;exact .inl ⟨hi,h,Lh (by rw[g.len];exact hi)⟩;rw[HU Qt] at h;have:i=ρ.length:=by
   by_cases z:i-ρ.length=0
   lia
   rw[I0 (by simp;lia)] at h;cases h
  subst this;simp at h;refine .inr ⟨rfl,h.symm,?_⟩;rw[HU (by rw[g.len];exact ZS _),g.len];simp
 exact {
  sF:=g.sF
  sub:=g.sub
  old:=g.old
  new:=g.new
  len:=by simp[g.len]
  slot:=fun i s h=>by
   rcases low h with ⟨_,h1,h2⟩|⟨_,rfl,h2⟩
   rw[h2];exact g.slot i s h1;rw[h2];exact⟨l,rfl,x.nF,x.n0,x.ob⟩
  apart:=fun i j m s t h1 h2 o1 o2 e1 e2=>by
   rcases low h1 with ⟨_,a1,a2⟩|⟨a0,rfl,a2⟩
   rw[a2] at e1;rcases low h2 with ⟨_,b1,b2⟩|⟨b0,rfl,b2⟩
   rw[b2] at e2;exact g.apart i j m s t a1 b1 o1 o2 e1 e2;rw[b2] at e2;cases e2;exact absurd e1 (x.ns i s a1 o1);rw[a2] at e1;cases e1;rcases low h2 with ⟨_,b1,b2⟩|⟨b0,rfl,b2⟩
   rw[b2] at e2;exact absurd e2 (x.ns j t b1 o2)
   lia
  oE:=g.oE
  oX:=g.oX}
theorem Good.OI(g:Good K mg G F H (σ++[some (V.ref l)]) bQ)(hd:bQ[σ.length]?=some (.ow d)):Good K mg G F H σ (bQ.take σ.length)/\Loose K mg G F H σ (bQ.take σ.length) l d:=by
 have g2:=g.take σ.length;rw[List.take_left] at g2;have at_:(σ++[some (V.ref l)])[σ.length]?=some (some (V.ref l)):=Ro;obtain⟨m,h1,h2,h3,h4⟩:=g.slot _ _ hd;rw[at_] at h1;cases h1;refine⟨g2,h2,h3,h4,fun i s h o e=>?_⟩;have hi:i<σ.length:=by
  have:=(List.getElem?_eq_some_iff.mp h).1;simp at this
  lia
 rw[wu hi] at h;have:=g.apart i σ.length l s _ h hd o rfl (by rw[Lh hi];exact e) at_
 lia
theorem mT.more:∀{vs:OY}{as:List AV},mT L F σ vs as->mT L F (σ++t) vs as|_,_,.nil=>.nil|_,_,.cons (a:=a) h r=>by refine .cons ?_ (mT.more r);cases a with|val d=>exact h|io j=>have hj:j<σ.length:=(List.getElem?_eq_some_iff.mp (show σ[j]?=_ from h)).1;show (σ++t)[j]?=_;rw[Lh hj];exact h
end
section
variable{X:Cx}{EX:XE}{L:Lc}{e a b o value:Expr}{es:Wg}{fa fe fo:M D}{as:List VP.Arg}{pos p V7:Pos}{x c m:Str}
variable{CX:uP}{k:Nat}{fA C:Addr}{fd:FuncData}{ps:Ph}{fl:Ur}{fs:Fn}{cs:Ph}{f:Str}
def KO(K:Frag)(mg:MG)(cs:Ph)(f:Str):Prop:=∀c∈cs,∃C,mg c=some (.ref C)/\Ak K C/\iO K C f
theorem lj{K:Frag}{mg:MG}{F:Hp}{f:Str}{d:D}:∀{fs:List (Str×V)}{ds:XW},aM K mg F (fs.map (·.2)) ds->((fs.map (·.1)).zip ds).lookup f=some d->∃v,fs.lookup f=some v/\Den K mg F v d|[],_,.nil,h=>by cases h| (n,v)::fs,_,.cons h t,q=>by simp only[List.map_cons,List.zip_cons_cons,List.lookup_cons] at q ⊢;split at q;cases q;exact⟨v,rfl,h⟩;exact lj t q
theorem aW(T:KO X.K X.mg cs f)(ha:PR X EX e fe)(hb:attributeBase e f X.env (eval e X.env)=eval e X.env:=by rfl):PV X EX (.Attribute e f pos) (m1 (aY cs f) fe):=(NK ha hb).le fun σ H Q bF=>dt bF fun G F F1 H1 bw d1 y s1 g1 r1 o1=>by
 obtain⟨d,e1,q⟩:=o1.opt;cases d1 with
 |ins c ns vs=>
  simp only[aY] at e1;split at e1;rename_i hc;obtain⟨C,hm,hC,hn⟩:=T c (by simpa using hc);rcases r1 with r1|⟨l,rfl,C',dx,fs,h1,h2,rfl,h4⟩;cases r1 with|ins h rj r=>obtain⟨v,lv,dv⟩:=lj r e1;rw[show (lc X EX).mg c=some (.ref C) from hm] at rj;cases rj;exact⟨_,C,_,_,v,rfl,g1.sub _ _ h,hC,hn,lv,q F1 H1 v s1 g1 dv⟩
  obtain⟨v,lv,dv⟩:=lj h4 e1;rw[show (lc X EX).mg c=some (.ref C) from hm] at h2;cases h2;exact⟨_,C,_,_,v,rfl,h1,hC,hn,lv,q F1 H1 v s1 g1 dv⟩;cases e1
 |_=>cases e1
theorem wj{K:Frag}{mg:MG}{F:Hp}{f:Str}{v:V}{d:D}(h:Den K mg F v d):∀{fs:List (Str×V)}{ds:XW},aM K mg F (fs.map (·.2)) ds->(gb f v fs).map (·.1)=(jV f d (fs.map (·.1)) ds).1/\aM K mg F ((gb f v fs).map (·.2)) (jV f d (fs.map (·.1)) ds).2|[],_,.nil=>⟨rfl,.cons h .nil⟩| (n,w)::fs,_,.cons q t=>by obtain⟨i1,i2⟩:=wj (f:=f) h t;simp only[gb,List.map_cons,jV];split;exact⟨rfl,.cons h t⟩;exact⟨by simp[i1],.cons q i2⟩
theorem aZ(i:Nat){V6 p':Pos}(T:KO X.K X.mg cs f)(hv:PV X EX value fe)(hN:X.N[i]?=some x:=by rfl)(LU:yz X.env.scope x:=by exact wg)(hd:WL x:=by decide)(kO:Le x:=by decide) (hs:swapsWith value (some (.Attribute (.Name x p') f V6)) pos.line X.env=pure false:=by rfl):oh X EX (.Assign [.Attribute (.Name x p') f V6] value pos) (bA i cs f fe):=
 (NW (iw hN LU hd kO) hv hs).le fun E σ H bF=>xF bF fun G F ρ g0 o=>a7 g0 o (fun x r q=>q.x) fun F1 H1 bw d1 v s1 g1 r1 o1=>by
  have o2:=o1.Pd;unfold fR at o2;cases q:bw[i]? with
  |none=>rw[q] at o2;exact o2.elim|some sl=>
   rw[q] at o2;have go:∀(d:D)(l:Addr),own (some sl)=some d->σ[i]?=some (some (V.ref l))->eT X.K X.mg F1 H1 l d->cw sl=true->∃Yj,σ[i]?=some (some Yj)/\∃a C dx fs,Yj=V.ref a/\H1 a=some (HO.ins C dx fs)/\Ak X.K C/\iO X.K C f/\fs.length<1000/\E.nx σ (upd H1 a (HO.ins C dx (gb f v fs))):=fun d l e1 e2 ob ow=>by
    rw[e1] at o2;dsimp only at o2;cases e3:Fg cs f d1 d with
    |none=>rw[e3] at o2;exact o2.elim|some d'=>
     rw[e3] at o2;cases d with
     |ins c ns vs=>
      simp only[Fg] at e3;split at e3;rename_i hc;rw[Jk] at hc;cases e3;obtain⟨C,dx,fs,h1,h2,rfl,h4⟩:=ob;obtain⟨C',hm,hC,hn⟩:=T c (by simpa using hc.1);rw[hm] at h2;cases h2;obtain⟨p1,p2⟩:=wj (f:=f) r1 h4;refine⟨_,e2,l,C,dx,fs,rfl,h1,hC,hn,by simpa using Hg hc.2,?_⟩;have X6:eT X.K X.mg F1 (upd H1 l (HO.ins C dx (gb f v fs))) l (.ins c (jV f d1 (fs.map (·.1)) vs).1 (jV f d1 (fs.map (·.1)) vs).2):=⟨C,dx,_,aO,hm,p1,p2⟩;have g2:(lc X EX).Good G F1 (upd H1 l (HO.ins C dx (gb f v fs))) σ (cL i (.ins c (jV f d1 (fs.map (·.1)) vs).1 (jV f d1 (fs.map (·.1)) vs).2) bw):=by unfold cL;rw[q];cases sl with|ow z=>exact Good.write g1 q rfl e2 (.inl ⟨z,rfl,rfl⟩) X6|io z=>exact Good.write g1 q rfl e2 (.inr ⟨z,rfl,rfl⟩) X6|_=>cases ow
      exact o2 F1 _ σ s1 g2;cases e3
     |_=>cases e3
   have k:=g1.slot i sl q;cases sl with|no=>exact o2.elim|sh d=>exact o2.elim|ow d=>obtain⟨l,z1,z2,z3,z4⟩:=k;exact go d l rfl (join_some z1) z4 rfl|io d=>obtain⟨l,z1,z2,z3,z4⟩:=k;exact go d l rfl (join_some z1) z4 rfl
theorem yC{K:Frag}{mg:MG}{EX Yo:XE}{F:Hp}{σ:St}:∀{vs:OY}{as:List AV},mT ⟨K,mg,EX⟩ F σ vs as->mT ⟨K,mg,Yo⟩ F σ vs as|_,_,.nil=>.nil|_,_,.cons (a:=a) h r=>.cons (by cases a<;>exact h) (yC r)
theorem lookup_none:∀{fs:List (Str×V)},(fs.map (·.1)).contains m=false->fs.lookup m=none|[],_=>rfl| (n,v)::fs,h=>by simp only[List.map_cons,List.contains_cons,Bool.or_eq_false_iff] at h;rw[List.lookup_cons,h.1];exact lookup_none h.2
theorem Iv{pl:Sem Bool}(O4:X.mg c=some (.ref C))(cl:Ak X.K C)(hm:Meth X.K C m fA)(F:dC X.prog X.w X.K X.mg X.base CX k fA fd ps (ph X.K X.mg (false::fl) fs))(hr:cH k X.A)(hb:Binds X.K fd ps [])(hx:fM CX X EX)
  (ho:PV X EX o fo) (ha:yw X EX (e::es) as) (vG:as.map VP.Arg.isIo=fl:=by rfl)
  (jB:Oa X e es:=by rfl) (jA:Lg X pos es:=by rfl)
  (ht:eval (.Call (.Attribute o m V7) (e::es) [] pos) X.env=(do
   let ov <-eval o X.env
   standAt V7.atName
   let (f,first) <-holding [ov] (getMethod ov m pl)
   callWith pos f first (backTo pos (starEach (e::es) X.env)) (backToKw pos (keywordEach [] X.env))):=by rfl) :
  PV X EX (.Call (.Attribute o m V7) (e::es) [] pos) (cx c m fs fo as):=by
 intro Ug s σ H Q I h;obtain⟨G,F0,ρ,g0,oo⟩:=h;refine W.methodCall_KW (pl:=pl) (bT (ho Ug s σ H _ I (a7 g0 oo (fun x r q=>q) fun F1 H1 bw d1 x s1 g1 r1 o1=>(⟨F1,bw,d1,s1,g1,r1,o1⟩:∃F1 bw d1,aN F0 F1/\(lc X EX).Good G F1 H1 σ bw/\Den X.K X.mg F1 x d1/\Out ((if jv c m d1 then Pd (bS as) fun vs=>oY fs (.val d1::vs) else stuck) bw) (eU (lc X EX) (RV (lc X EX)) G F0 σ Q) (dj (lc X EX) G F0 σ)))) fun u s1 zz=>?_) ht;obtain⟨y,H1,I1,ry,F1,bw,d1,se,g1,r1,o1⟩:=zz;rcases o1.ite with ⟨hi,o2⟩|⟨_,o2⟩
 cases d1 with
 |ins c' ns vs=>
  simp only[jv,Bool.and_eq_true,Bool.not_eq_true'] at hi;have rj:c'=c:=by simpa using hi.1
  subst rj;cases r1 with
  |ins h zy r=>
   rw[O4] at zy;cases zy;rename_i a dx YI;obtain rfl:u=Value.ref a:=ry;refine xp I1 (g1.sub _ _ h) cl hm (lookup_none hi.2) ?_;refine Bi (first:=[.ref a]) (h₀:=X.base) I.ok.mod.Mj hm.kp (bT (ha pos Ug s1 σ H1 (fun ws H2=>ph X.K X.mg (false::fl) fs (.ref a::ws) H2 Q (EX σ)) I1 ⟨G,F1,bw,g1,?_⟩) fun us s2 ⟨ws,H2,I2,r2,q2⟩=>⟨I2.rk,?_⟩) jB jA;unfold VP.Pd at o2;cases q:bS as bw with|no=>rw[q] at o2;exact o2.elim|exc xx oQ=>rw[q] at o2;exact dj.same se o2|ok av oQ=>rw[q] at o2;intro F2 H2 ws s2 g2 r2;have Pm:Den X.K X.mg F2 (.ref a) (.ins c' (YI.map (·.1)) vs):=Den.same s2 (.ins h O4 r);exact tE (L:=lc X EX) g2 (.cons (show Jx (lc X EX) F2 σ (.ref a) (.val _) from Pm) r2) (by rw[P6,dX q,vG]) o2 (fun x r q=>q.same (se.trans s2)) fun F' H' bQ d v s' g' rd P=>P F' H' v (se.trans (s2.trans s')) g' rd
   exact pI (us:=.ref a::us) (vs:=.ref a::ws) F hr hb hx I2 (.cons rfl r2) q2
 |_=>cases hi
 exact o2.elim
theorem Bo{Ug:U5}{σ:St}{H:Hp}{s:Shared}{Q:VK}{us:Ul}{vs:OY}{sp:Sp}(M:Mk X.K C fA)(F:dC X.prog X.w X.K X.mg X.base CX k fA fd ps sp)(hr:cH (k+1) X.A)(hb:Binds X.K fd ps [])
  (hx:fM CX X EX) (I:Inv X Ug σ H s) (r:Vals vs us)
  (h:∀x dx,H x=none->H dx=none->dx≠x->sp (.ref x::vs) (upd (upd H dx (.own x)) x (.ins C dx [])) (fun v H2=>v=.bE/\Q (.ref x) H2) (EX σ)) :
  wpAny (model X.prog X.w) X.A (call (.ref C) us) (EP X Ug σ Q) X.xe s:=by
 have hq:=h (s.heap.objs.size+1) s.heap.objs.size (I.cj.fresh (Jh _)) (I.cj.fresh (ZS _)) (Uh (By _));have I2:=Inv.made (C:=C) I;have r2:Vals (V.ref (s.heap.objs.size+1)::vs) (Value.ref (s.heap.objs.size+1)::us):=.cons rfl r;have hl:(Value.ref (s.heap.objs.size+1)::us).length=ps.length:=by rw[<-F.len _ _ _ _ hq];exact r2.length.symm
 have J1:=hb _ (Value.ref (s.heap.objs.size+1)::us) I2.rk (by simpa using hl);rw[MF] at J1;refine wpAny_call (Q0w (f:=fA) I.rk M.makes M.init (beq_iff_eq.mp M.fn) (Ay (F.run _ X.stack _ _ ⟨Value.ref (s.heap.objs.size+1)::us,[]⟩ (Value.ref (s.heap.objs.size+1)::us) _ _ (EX σ) (hr.make C us []) (I2.Qm.make C us []) J1 r2 hq) fun r s' QW=>?_));cases r with|error e=>exact hx Ug σ _ _ e s' I2 QW|ok fl=>cases fl with|ret u=>obtain⟨v,H',I3,rv,ev,q3⟩:=I2.after QW;subst ev;exact⟨rv,⟨V.ref (s.heap.objs.size+1),H',I3,rfl,q3⟩⟩|next=>exact False.elim QW|brk=>exact False.elim QW|cont=>exact False.elim QW
theorem Q27(M:Mk X.K C fA)(F:dC X.prog X.w X.K X.mg X.base CX k fA fd ps (ph X.K X.mg (true::fl) fs))(hr:cH (k+1) X.A)(hg:Gl X c)(hm:X.mg c=some (.ref C))(hb:Binds X.K fd ps [])(hx:fM CX X EX)
  (ha:yw X EX (e::es) as) (vG:as.map VP.Arg.isIo=fl:=by rfl) (jz:WL c:=by decide) (he:Oa X e es:=by rfl) (jA:Lg X pos es:=by rfl) :
  PF X EX (.Call (.Name c p) (e::es) [] pos) (dY c fs as):=by
 intro Ug s σ H Q I h;obtain⟨G,F0,ρ,g0,o⟩:=h;refine Qn (lZ I hg hm ?_ jz);refine Bi (h₀:=X.base) I.ok.mod.Mj M.kp (bT (ha pos Ug s σ H (fun vs H1=>∀x dx,H1 x=none->H1 dx=none->dx≠x->ph X.K X.mg (true::fl) fs (.ref x::vs) (upd (upd H1 dx (.own x)) x (.ins C dx [])) (fun v H2=>v=.bE/\Q (.ref x) H2) (EX σ)) I ⟨G,F0,ρ,g0,?_⟩) fun us s1 ⟨vs,H1,I1,r,q⟩=>⟨I1.rk,Bo M F hr hb hx I1 r q⟩) he jA;unfold dY VP.Pd at o;cases q:bS as ρ with
 |no=>rw[q] at o;exact o.elim|exc xx bw=>rw[q] at o;exact o|ok av bw=>
  rw[q] at o;intro F1 H1 vs s1 g1 r1 x dx Zu Xs AJ;have XM:upd H1 dx (.own x) x=none:=by rw[aU (Ry AJ)];exact Zu
  have g2:(lc X EX).Good G F1 (upd (upd H1 dx (.own x)) x (.ins C dx [])) σ bw:=(g1.made Xs).made XM;have lo:Loose X.K X.mg G F1 (upd (upd H1 dx (.own x)) x (.ins C dx [])) σ bw x (.ins c [] []):=Good.loose (g1.made Xs) XM ⟨C,dx,[],aO,hm,rfl,.nil⟩;have g3:=Good.snoc g2 lo;have len:σ.length=bw.length:=g1.len;have Yv:Jx (⟨X.K,X.mg,fun _=>EX σ⟩:Lc) F1 (σ++[some (V.ref x)]) (.ref x) (.io bw.length):=by show (σ++[some (V.ref x)])[bw.length]?=_;rw[<-len];simp
  have o':Out (A1 c fs av bw) (eU (lc X EX) (RF (lc X EX)) G F0 σ Q) (dj (lc X EX) G F0 σ):=o;have bk:Out (oY fs (.io bw.length::av) (bw++[.ow (.ins c [] [])])) (fun d r'=>d=.bE/\∃d',r'[bw.length]?=some (.ow d')/\eU (lc X EX) (RF (lc X EX)) G F0 σ Q d' (r'.take bw.length)) (fun x r'=>dj (lc X EX) G F0 σ x (r'.take bw.length)):=by
   unfold A1 at o';cases e1:oY fs (.io bw.length::av) (bw++[.ow (.ins c [] [])]) with
   |no=>rw[e1] at o';exact o'|exc y r'=>rw[e1] at o';exact o'|ok d r'=>
    rw[e1] at o';cases d with
    |bE=>dsimp only at o';cases e2:r'[bw.length]? with|none=>rw[e2] at o';exact o'.elim|some sl=>rw[e2] at o';cases sl with|ow d'=>exact⟨rfl,d',e2,o'⟩|_=>exact o'.elim
    |_=>exact o'.elim
  refine tE (L:=⟨X.K,X.mg,fun _=>EX σ⟩) (G:=G) (F:=F1) (σ:=σ++[some (V.ref x)]) g3 (.cons Yv (mT.more (L:=⟨X.K,X.mg,fun _=>EX σ⟩) (by exact yC r1))) (by rw[P6,dX q,vG]) bk (fun y r' z F' H' cc dd s' g' xr=>?_) fun F' H' bQ d v s' g' rd P=>?_;have gt:=g'.take σ.length;rw[List.take_left,len] at gt;exact z F' H' cc dd (s1.trans s') gt xr;obtain⟨rfl,d',e2,P⟩:=P;obtain rfl:=Den.n rd;rw[<-len] at e2 P;obtain⟨gt,ZJ⟩:=Good.OI g' e2;exact⟨rfl,P F' H' _ (s1.trans s') gt ⟨x,rfl,ZJ⟩⟩
end
def UJ(K:Frag)(p:Addr):It:=⟨fun i H=>∃xs x,cX K H p xs/\xs[i]?=some x,
 fun i H v H'=>∃q x,H q=none/\v=.ref q/\H'=upd H q (.tup [.int i,x])/\∀xs,cX K H p xs->xs[i]?=some x,
 fun i H=>∃xs,cX K H p xs/\i=xs.length⟩
theorem Bw{P:Program}{w:World}{K:Frag}{es:Wg}{k:Nat}{pj:Pos}{p e it:Addr}(n1:p≠it)(n2:e≠it)(n3:e≠p) : Turn P w K (.Tuple es k pj) (UJ K p) [e,it] e (fun i h=>(∃old,IsEnum h e it i old)/\h.IsListIter it p i) where
 mem:=Ro
 obj:=fun i h st b hb=>by
  obtain⟨⟨old,he⟩,o,hi,hc,hd⟩:=st;simp only[List.mem_cons,List.not_mem_nil,or_false] at hb;rcases hb with rfl|rfl
  ·exact⟨_,he,fun v q=>by cases q⟩
  ·exact⟨_,hi,fun v q=>by rw[hd] at q;cases q⟩
 keep:=fun i h h' st kk=>by obtain⟨⟨old,he⟩,hi⟩:=st;exact⟨⟨old,kk e Ro _ he⟩,hi.at fun o q=>kk it Ro o q⟩
 item:=by
  intro X hP hw hK hc i Ug s σ H E I hf st hg;subst hP hw hK;obtain⟨⟨old,he⟩,hi⟩:=st;obtain⟨xs,x,q1,e1⟩:=hg;obtain⟨aI,rv,pl,_⟩:=I.list q1;obtain⟨u,hu,ru⟩:=rv.get e1;have hh:X.A.handled=none:=I.ok.hd hc;have V5:i<aI.toArray.size:=by have:=(List.getElem?_eq_some_iff.mp hu).1;simpa using this
  refine wpAny_pyNext_enum_itemD (Draws.list (by exact hh) it p n1 aI.toArray) he ⟨hi,pl.isList⟩ V5 n2 (by simp[n2,n3]) fun x' h' tk px ho mD pr hsz kp=>?_;have ex:x'=u:=by
   have:aI.toArray[i]?=some u:=by simpa using hu
   rw[this] at px;exact(OH px).symm
  subst ex;refine⟨_,rfl,wpAny_letOwnedTupleGo_enum ho fun LI z2 sb=>?_⟩;replace sb:Heap.SameBut e h' LI:=sb;have Ja:e≠s.heap.objs.size:=Uh (Ta he);have VX:∀c o,c∉[e,it]->s.heap.get? c=some o->LI.get? c=some o:=fun c o rj q=>by simp only[List.mem_cons,List.not_mem_nil,or_false,not_or] at rj;exact sb.extBut c o rj.1 (kp c o rj.1 rj.2 q)
  have IX:=Inv.pair (tk:=tk+1) (h':=LI) (x:=.int i) (y:=x) I hf VX (sb.extBut _ _ (Ry Ja) pr) ⟨_,rfl⟩ ru;refine⟨.ref s.heap.objs.size,_,IX,rfl,⟨_,x,I.cj.fresh (ZS _),rfl,rfl,fun xs' DL=>by rw[I.qt DL q1];exact e1⟩,⟨⟨_,by simpa using z2⟩,mD.1.at fun o q=>sb.extBut _ o (Ry n2) q⟩,fun b hb=>?_⟩;have O3:b≠s.heap.objs.size:=by
   simp only[List.mem_cons,List.not_mem_nil,or_false] at hb;rcases hb with rfl|rfl
   ·exact Ja
   ·obtain⟨o,q,_⟩:=hi;exact Uh (Ta q)
  rw[aU O3];exact(hf b hb).1
 done:=by
  intro X hP hw hK hc i Ug s σ H E I hf st hg;subst hP hw hK;obtain⟨⟨old,he⟩,hi⟩:=st;obtain⟨xs,q1,DA⟩:=hg;obtain⟨aI,rv,pl,_⟩:=I.list q1;have l1:=rv.length;have hh:X.A.handled=none:=I.ok.hd hc;have ee:i=aI.toArray.size:=by simp;lia
  rw[ee] at he hi;refine wpAny_pyNext_enum_endD (Draws.list (by exact hh) it p n1 aI.toArray) he ⟨hi,pl.isList⟩ fun h' hk=>⟨rfl,Inv.uJ (h':=h') I hf fun c o vF q=>?_⟩;simp only[List.mem_cons,List.not_mem_nil,or_false,not_or] at vF;exact hk c o vF.2 q
 self:=fun _ _ _ _ _ st h=>by obtain⟨⟨old,he⟩,_⟩:=st;exact wpAny_pyIter_enum he h
theorem xO(l:Addr)(xs:Array Value)(n:Nat)(sl:Array (Option Value)):Meets (Builtin.«enumerate.__new__» ⟨[.type "enumerate",.ref l],[]⟩) (fun _ R s=>s.heap.get? l=some {cls:=.type "list",dict:=none,data:=.seq xs n,slots:=sl}/\R (.ok (.ret (.ref (s.heap.push {cls:=.type "list_iterator",data:=.fields #[.ref l,.int 0 0]}).objs.size))) {s with heap:=(s.heap.push {cls:=.type "list_iterator",data:=.fields #[.ref l,.int 0 0]}).push {cls:=.type "enumerate",data:=.fields #[.none,.bool false,.ref s.heap.objs.size,rawInt 0,.none,.none]}}):=
 .of_wp fun prog w A R s z=>by
  obtain⟨hp,g,d,tk,os⟩:=s;obtain⟨q1,q2⟩:=z;have z1:=sub_enumerate;have z2:Heap.IsList (Shared.heap ⟨hp,g,d,tk,os⟩) l xs:=⟨_,q1,rfl,n,rfl⟩
  wp_walk using NN q1
  refine wpAny_stack_any fun st=>Pf ?_;split;rename_i c _ _ _ _ _;cases (c == Value.type "enumerate")<;>(wp_walk using NN q1,qY z2;exact⟨_,rfl,q2⟩)
  wp_walk using NN q1,qY z2
  exact⟨_,rfl,q2⟩
section
variable{X:Cx}{EX:XE}{L:Lc}{e a b:Expr}{fa fb fe:M D}{pos p:Pos}{x:Str}
theorem boot_enumerate:bootBuiltins "enumerate" = some (.type "enumerate"):=by kernel_rfl
def Q3(K:Frag)(t:TA):TI:=fun σ H R=>t σ H fun vs H1=>∃q,vs=[.ref q]/\(∃xs,cX K H1 q xs)/\R (UJ K q) H1
theorem H0{es:Wg}{k:Nat}{pj:Pos}{t:TA}(hg:Gl X "enumerate")(hm:X.mg "enumerate" = none)(ha:PA X [a] t)(hs:starEach [a] X.env=[(false,eval a X.env)]:=by rfl) : PI X (.Tuple es k pj) (.Call (.Name "enumerate" p) [a] [] pos) (Q3 X.K t):=by
 intro Ug s σ H R I h;refine Call_ (dA I hg hm boot_enumerate (Nj (bT (ha pos Ug s σ H _ I h) fun us s1 zz=>?_) hs rfl));obtain⟨vs,H1,I1,r1,q1⟩:=zz;obtain⟨q,e,⟨xs,h1⟩,hR⟩:=q1;subst e;obtain⟨u,rfl,ru⟩:=vals1 r1;cases ru;obtain⟨aI,rv,pl,_⟩:=I1.list h1;obtain⟨⟨c0,d0,dt0,ZZ⟩,n,hq,Xp,Xr,QL⟩:=pl;simp only at Xp Xr QL;subst Xp Xr QL;have lt:q<s1.heap.objs.size:=Ta hq;refine callType_new PySem.F.called_enumerate (by decide) (PySem.F.typeCall_enumerate_1 _) (PySem.F.newCall_enumerate_1 _) (fun obj=>Z7 obj _) PySem.F.entry_enumerate_new (xO q aI.toArray n ZZ) ⟨hq,⟨_,TR _ rfl,rfl⟩,?_⟩;have sz:(s1.heap.push {cls:=.type "list_iterator",data:=.fields #[.ref q,.int 0 0]}).objs.size=s1.heap.objs.size+1:=A6 ..;have he:IsEnum ((s1.heap.push {cls:=.type "list_iterator",data:=.fields #[.ref q,.int 0 0]}).push {cls:=.type "enumerate",data:=.fields #[.none,.bool false,.ref s1.heap.objs.size,rawInt 0,.none,.none]}) (s1.heap.objs.size+1) s1.heap.objs.size 0 .none:=by rw[<-sz];exact TR _ rfl
 rw[sz];refine wpAny_pyIter_enum he ?_;have IX:Inv X Ug σ H1 {s1 with heap:=(s1.heap.push {cls:=.type "list_iterator",data:=.fields #[.ref q,.int 0 0]}).push {cls:=.type "enumerate",data:=.fields #[.none,.bool false,.ref s1.heap.objs.size,rawInt 0,.none,.none]}}:=I1.kept (t':=s1.toks) fun b o e=>T2 _ (T2 _ e);refine⟨_,[s1.heap.objs.size+1,s1.heap.objs.size],_,_,H1,rfl,IX,Bw (Uh lt) Ro (Ov (Ht lt)),⟨⟨_,he⟩,⟨_,T2 _ (TR _ rfl),rfl,rfl⟩⟩,fun c hc=>?_,hR⟩;have hle:s1.heap.objs.size<=c:=by simp only[List.mem_cons,List.not_mem_nil,or_false] at hc;rcases hc with rfl|rfl;exact WE _ _;exact ZS _
 exact I1.qf hle (I1.cj.fresh hle)
theorem Q0o(h1:cX L.K F q vs)(r1:aM L.K L.mg F vs ds) : FK L G F (UJ L.K q) (kI ds):=fun σ i F' H' ρ s g=>by
 have q1:cX L.K H' q vs:=cX.same (cX.same h1 s) g.sub;have l1:=r1.length;have le:(kI ds).length=ds.length:=by simp[kI]
 refine⟨fun hi=>?_,fun hi=>?_,fun x FJ y=>?_⟩;exact⟨vs,vs[i]' Qt,q1,by simp[show i<vs.length by lia]⟩;exact⟨vs,q1,Qt⟩;obtain⟨b,u,hq,rfl,rfl,y1⟩:=y;have sF:=bg (o:=.tup [.int i,u]) (g.sub.free hq);refine⟨_,sF,g.laid hq,fun d hd=>?_⟩;unfold kI at hd;rw[List.getElem?_zipWith] at hd;cases e1:ds[i]? with|none=>rw[e1] at hd;cases e2:(List.range ds.length)[i]?<;>rw[e2] at hd<;>cases hd|some d1=>have hi:i<ds.length:=(List.getElem?_eq_some_iff.mp e1).1;rw[e1,DW hi] at hd;cases hd;obtain⟨u',a1,a2⟩:=(r1.same s).get e1;rw[y1 vs q1] at a1;cases a1;exact .tup (dz.of aO) (.cons (.int i) (.cons (a2.same sF) .nil))
theorem jl{es:Wg}{k:Nat}{pj:Pos}{fl:List (M D)}(hg:Gl X "enumerate")(hm:X.mg "enumerate" = none)(ha:Am X EX [a] (mL fl))(hs:starEach [a] X.env=[(false,eval a X.env)]:=by rfl) : uK X EX (.Tuple es k pj) (.Call (.Name "enumerate" p) [a] [] pos) (kR fl):=
 (H0 hg hm ha hs).le fun σ H Q bF=>dt bF fun G F F1 H1 bw d1 xs s1 g1 r1 o1=>by
  obtain⟨ds,e,q⟩:=o1.opt;unfold lS at e;split at e;cases r1 with|cons h1 r1=>obtain rfl:=aM.n r1;cases e;obtain⟨_,_,rfl,h,r⟩:=Den.l h1;exact⟨_,rfl,⟨_,cX.same h g1.sub⟩,q F1 H1 _ s1 g1 (Q0o h r)⟩
  cases e
end
section
variable{X:Cx}{EX:XE}{L:Lc}{e a b:Expr}{fa fb fe:M D}{pos p:Pos}{x c:Str}
theorem j7{st:Stmt}:oh X EX st nR:=fun Ug s σ H E I ⟨G,F,ρ,g0,o⟩=>o.elim
structure Al(K:Frag)(D:Addr):Prop where
 pg:W.plainGet K D "__class__" = true
 hd:W.hasDictIn K D=true
 fi:W.findIn K (.ref D) "__class__" = some (some (.builtin "object.__class__"))
 mr:W.mroIn K D (.type "object")=some true
structure PH(K:Frag)(mg:MG)(c:Str)(subs:Nx):Prop where
 sp:W.specialIn K (.builtin "object.__class__") "__get__" = some (some (.builtin "getset_descriptor.__get__"))
 tk:W.takesIn K (.builtin "object.__class__")=some true
 ex:∃C,mg c=some (.ref C)/\∀p∈subs,∃D,mg p.1=some (.ref D)/\Al K D/\W.kitOne K (.ref D) (.ref C)=some p.2
def Sy(K:Frag)(C:Addr):OY->Hp->VK->Prop:=fun xs H Q=>∃q D dx fs b,xs=[.ref q,.ref C]/\H q=some (.ins D dx fs)/\Al K D/\W.kitOne K (.ref D) (.ref C)=some b/\Q (.bl b) H
theorem Aw(sp:W.specialIn X.K (.builtin "object.__class__") "__get__" = some (some (.builtin "getset_descriptor.__get__")))(tk:W.takesIn X.K (.builtin "object.__class__")=some true):d6 X (.builtin "isinstance") (Sy X.K C):=by intro Ug s σ H xs us Q I r h;obtain⟨q,D,dx,fs,b,rfl,hq,f,hb,k⟩:=h;obtain⟨u,v,rfl,ru,rv⟩:=vals2 r;cases ru;cases rv;obtain⟨h1,h2,h3,h4,mA,h5,h6⟩:=(show dD X.prog X.w H s.heap q (.ins D dx fs) from I.cj q _ hq);obtain⟨od,Vx⟩:=(show ∃o,s.heap.get? dx=some o from I.cj dx _ h1);exact W.kia_one (W.kitx_own f.pg f.hd f.fi sp tk f.mr) I.rk ⟨h4,rfl,rfl,Vx⟩ hb (fun z=>nomatch z) fun tk=>⟨.bl b,H,I.tok tk,rfl,k⟩
theorem cM{subs:Nx}{pT:Pos}(T:PH X.K X.mg c subs)(hg:Gl X "isinstance")(hm:X.mg "isinstance" = none)(vH:Gl X c)(ha:PR X EX a fa)(Y2:WL c:=by decide)
  (hs:starEach [a,.Name c pT] X.env=(false,eval a X.env)::starEach [.Name c pT] X.env:=by rfl) (iM:starEach [.Name c pT] X.env=(false,eval (.Name c pT) X.env)::starEach [] X.env:=by rfl) (jA:(backTo pos (starEach [.Name c pT] X.env)).any (·.1)=false:=by rfl) :
  PV X EX (.Call (.Name "isinstance" p) [a,.Name c pT] [] pos) (m1 (a9 subs) fa):=by
 obtain⟨C,hC,DK⟩:=T.ex;exact(jU (Aw (C:=C) T.sp T.tk) hg hm boot_isinstance (cB ha (cB (ky (v:=.ref C) vH hC rfl Y2) fZ iM) hs) (by decide) (by decide) hs jA).le fun σ H Q bF=>dt bF fun G F F1 H1 bw d1 x s1 g1 r1 o1=>by
  obtain⟨d,e,q⟩:=o1.opt;cases d1 with
  |ins c' ns vs=>
   simp only[a9] at e;cases e1:subs.lookup c' with
   |none=>rw[e1] at e;cases e|some b=>
    rw[e1] at e;cases e;obtain⟨D,hD,f,hb⟩:=DK (c',b) (GI e1);rcases r1 with r1|⟨l,rfl,D',dx,fs,z1,z2,z3,z4⟩;cases r1 with|ins h hc r=>rw[show (lc X EX).mg c'=some (.ref D) from hD] at hc;cases hc;exact⟨_,D,_,_,b,rfl,g1.sub _ _ h,f,hb,q F1 H1 _ s1 g1 (.bl _)⟩
    rw[show (lc X EX).mg c'=some (.ref D) from hD] at z2;cases z2;exact⟨_,D,_,_,b,rfl,z1,f,hb,q F1 H1 _ s1 g1 (.bl _)⟩
  |_=>cases e
end
def UI(lo:Int)(n:Nat):It:=⟨fun i _=>i<n,fun i H x H'=>H'=H/\x=.int (lo-i),fun i _=>n<=i⟩
theorem Q2G{P:Program}{w:World}{K:Frag}{tg:Expr}(it:Addr)(lo:Int)(n:Nat):Turn P w K tg (UI lo n) [it] it (fun i h=>IsRangeIter h it (lo+(i:Nat)*(-1)) ((n:Int)-(i:Nat)) (-1)) where
 mem:=Ro
 obj:=fun i h st b hb=>by
  have e:b=it:=by simpa using hb
  subst e;exact⟨_,st,fun v z=>by have z':Data.fields _=Data.cell v:=z;cases z'⟩
 keep:=fun i h h' st k=>k it Ro _ st
 item:=by intro X hP hw hK hc i Ug s σ H E I hf st hg;subst hP hw hK;obtain⟨f0,f1,f2,f3,f4,f5⟩:=hf it Ro;refine(Walks.range (prog:=X.prog) (w:=X.w) (I.ok.hd hc) it lo (-1) n).item i s _ _ hg st fun v h' tk hv mD kk=>?_;obtain⟨t,rfl⟩:=hv;have I1:Inv X Ug σ H {s with heap:=h',toks:=tk}:=I.turned (fun b o hb e=>kk b o (by simpa using hb) e) f0 f1 f3 f4 f5;refine⟨_,rfl,sv (s:={s with heap:=h',toks:=tk}) (n:="range_iterator") mD rfl rfl (by decide) ⟨.int (lo-i),H,I1,⟨t,?_⟩,⟨rfl,rfl⟩,mD,fun b hb=>(hf b hb).1⟩⟩;rw[show lo+(i:Int)*-1=lo-i by lia]
 done:=by intro X hP hw hK hc i Ug s σ H E I hf st hg;subst hP hw hK;obtain⟨f0,f1,f2,f3,f4,f5⟩:=hf it Ro;exact wpAny_pyNext_range_end (I.ok.hd hc) st (by have:n<=i:=hg;lia) fun h' eb=>⟨rfl,I.turned (t':=s.toks) (fun b o hb e=>eb b o hb e) f0 f1 f3 f4 f5⟩
 self:=fun _ _ _ _ _ st h=>wpAny_pyIter_rangeiter st h
section
variable{X:Cx}{EX:XE}{L:Lc}{tg a b c:Expr}{p pos:Pos}
def Q2(ta:TA):TI:=fun σ H R=>ta σ H fun vs H1=>∃i j:Int,vs=[.int i,.int j,.int (-1)]/\(-(2 ^ 62)<=i/\i<2 ^ 62/\-(2 ^ 62)<=j/\j<2 ^ 62)/\R (UI i (i-j).toNat) H1
theorem HZ(hg:Gl X "range")(hm:X.mg "range" = none)(ha:PA X [a,b,c] ta)(hs:starEach [a,b,c] X.env=[(false,eval a X.env),(false,eval b X.env),(false,eval c X.env)]:=by rfl)(iM:starEach [b,c] X.env=[(false,eval b X.env),(false,eval c X.env)]:=by rfl) : PI X tg (.Call (.Name "range" p) [a,b,c] [] pos) (Q2 ta):=by
 intro Ug s σ H R I h;refine Call_ (dA I hg hm boot_range (Nj (bT (ha pos Ug s σ H _ I h) fun us s1 zz=>?_) (by rw[hs,iM]) (by rw[iM];rfl)));obtain⟨vs,H1,I1,r1,q1⟩:=zz;obtain⟨i,j,e,⟨q1,q2,q3,q4⟩,q⟩:=q1;subst e;cases r1 with
 |cons r rr=>cases rr with
  |cons r' rr=>cases rr with
   |cons ZT rr=>
    cases rr;obtain⟨t,rfl⟩:=r;obtain⟨u,rfl⟩:=r';obtain⟨v,rfl⟩:=ZT;refine call_range_3 (by decide) ?_ (.inl (PyProof.noPylong_small (by decide)));have I2:Inv X Ug σ H1 {s1 with heap:=s1.heap.push {cls:=.type "range",data:=.fields #[.int i t,.int j u,.int (-1) v]},toks:=s1.toks}:=I1.kept fun b o e=>T2 _ e;refine wpAny_pyIter_range (IsRange.new ..) (W.small_down q1 q2 q3 q4) ?_;refine⟨(s1.heap.push {cls:=.type "range",data:=.fields #[.int i t,.int j u,.int (-1) v]}).objs.size,[(s1.heap.push {cls:=.type "range",data:=.fields #[.int i t,.int j u,.int (-1) v]}).objs.size],_,_,H1,rfl,I2.kept (t':=s1.toks) fun b o e=>T2 _ e,Q2G _ i (i-j).toNat,?_,fun b hb=>?_,q⟩;show IsRangeIter _ _ (i+((0:Nat):Int)*(-1)) ((((i-j).toNat:Nat):Int)-((0:Nat):Int)) (-1);rw[show i+((0:Nat):Int)*(-1)=i by simp,show (((i-j).toNat:Nat):Int)-((0:Nat):Int)=Builtin.Range.rangeSize i j (-1) by rw[W.rangeSize_downNat];simp];exact TR _ rfl;have e:b=(s1.heap.push {cls:=.type "range",data:=.fields #[.int i t,.int j u,.int (-1) v]}).objs.size:=by simpa using hb
    subst e;exact I2.qf (ZS _) (I2.cj.fresh (ZS _))
theorem noL(lo:Int)(n:Nat):FK L G F (UI lo n) ((List.range n).map fun(k:Nat)=>.int (lo-k)):=fun σ i F' H' ρ s g=>by
 refine⟨fun hi=>?_,fun hi=>?_,fun x FJ y=>?_⟩;exact(by simpa using hi:i<n);exact Nat.le_of_eq (by simpa using hi.symm:n=i);obtain⟨rfl,rfl⟩:=y;refine⟨F',aN.refl _,g,fun d hd=>?_⟩;rw[LM] at hd;cases e:(List.range n)[i]? with
 |none=>rw[e] at hd;cases hd|some k=>
  rw[e] at hd;cases hd;have hi:i<n:=by have:=(List.getElem?_eq_some_iff.mp e).1;simpa using this
  rw[DW hi] at e;cases e;exact .int _
theorem Jq(hg:Gl X "range")(hm:X.mg "range" = none)(ha:Am X EX [a,b,c] (mL fl))(hs:starEach [a,b,c] X.env=[(false,eval a X.env),(false,eval b X.env),(false,eval c X.env)]:=by rfl)(iM:starEach [b,c] X.env=[(false,eval b X.env),(false,eval c X.env)]:=by rfl) : uK X EX tg (.Call (.Name "range" p) [a,b,c] [] pos) (Eg fl):=
 (HZ hg hm ha hs iM).le fun σ H Q bF=>dt bF fun G F F1 H1 bw d1 xs s1 g1 r1 o1=>by
  obtain⟨ds,e,q⟩:=o1.opt;unfold Fb at e;split at e;rename_i i j k;cases r1 with|cons h r1=>cases r1 with|cons h2 r1=>cases r1 with|cons h3 r1=>obtain rfl:=aM.n r1;obtain rfl:=Den.i h;obtain rfl:=Den.i h2;obtain rfl:=Den.i h3;split at e;rename_i hb;cases e;obtain⟨b1,b2,b3⟩:=hb;subst b1;exact⟨i,j,rfl,⟨b2.1,b2.2,b3.1,b3.2⟩,q F1 H1 _ s1 g1 (noL i (i-j).toNat)⟩;cases e
  cases e
end
open PySem.AutoSeq1 (wpAny_loadPart')
theorem noFill_tuple_mul:fillsNumberSlot (.type "tuple") "mul" = pure false:=PySem.fillsNumberSlot_seq (id:="tuple.__mul__") (r:=some (.builtin "tuple.__rmul__")) PySem.F.slot_tuple_mul.lookup (by decide +kernel) PySem.F.slot_tuple_rmul.lookup (by decide +kernel)
theorem uB:seqRepeat? (.type "tuple")=pure (some (.builtin "tuple.__mul__")):=by unfold seqRepeat?;rw[PySem.seqSlot_of (T:="tuple") (name:="__mul__") (id:="tuple.__mul__") PySem.F.slot_tuple_mul.lookup (by decide +kernel),PySem.seqSlot_of (T:="tuple") (name:="__rmul__") (id:="tuple.__rmul__") PySem.F.slot_tuple_rmul.lookup (by decide +kernel)];rfl
theorem qm(a:Int)(t:Tok)(l:Addr)(items:Array Value)(n:Nat)(dd:u3)(sl:Array (Option Value)) : Meets (Builtin.«int.__rmul__» ⟨[.int a t,.ref l],[]⟩) (fun _ R s=>s.heap.get? l=some {cls:=.type "tuple",dict:=dd,data:=.seq items n,slots:=sl}/\R (.ok (.ret Value.notImplemented)) s):=
 .of_wp fun prog w A R s h=>by obtain⟨hp,g,d,tk,os⟩:=s;obtain⟨hl,h⟩:=h;wp_walk;exact⟨_,rfl,h⟩
theorem Q14(l:Addr)(items:Array Value)(n:Nat)(dd:u3)(sl:Array (Option Value))(x:Int)(u:Tok)(h1:¬(decide (x < -(2 ^ 63))||decide (x>=2 ^ 63))=true)(h2:(items.isEmpty||x == 1)=true) : Meets (Builtin.«tuple.__mul__» ⟨[.ref l,.int x u],[]⟩) (fun _ R s=>s.heap.get? l=some {cls:=.type "tuple",dict:=dd,data:=.seq items n,slots:=sl}/\R (.ok (.ret (Value.ref l))) {s with heap:=s.heap,toks:=s.toks}):=
 .of_wp fun prog w A R s h=>by obtain⟨hp,g,d,tk,os⟩:=s;obtain⟨hl,h⟩:=h;wp_walk using wpAny_loadPart' hl;refine Bg (Nn h1) ?_;wp_walk using wpAny_loadPart' hl;exact⟨_,rfl,h⟩
theorem yq(l:Addr)(items:Array Value)(n:Nat)(dd:u3)(sl:Array (Option Value))(x:Int)(u:Tok)(h1:¬(decide (x < -(2 ^ 63))||decide (x>=2 ^ 63))=true)(h2:¬(items.isEmpty||x == 1)=true)(h3:(decide (x<=0)||items.isEmpty)=true) : Meets (Builtin.«tuple.__mul__» ⟨[.ref l,.int x u],[]⟩) (fun _ R s=>s.heap.get? l=some {cls:=.type "tuple",dict:=dd,data:=.seq items n,slots:=sl}/\R (.ok (.ret (Value.ref s.heap.objs.size))) {s with heap:=s.heap.push {cls:=Value.type "tuple",data:=Data.seq #[]},toks:=s.toks}):=
 .of_wp fun prog w A R s h=>by obtain⟨hp,g,d,tk,os⟩:=s;obtain⟨hl,h⟩:=h;wp_walk using wpAny_loadPart' hl;refine Bg (Nn h1) ?_;wp_walk using wpAny_loadPart' hl;exact⟨_,rfl,h⟩
theorem Q1O(l:Addr)(items:Array Value)(n:Nat)(dd:u3)(sl:Array (Option Value))(x:Int)(u:Tok)(h1:¬(decide (x < -(2 ^ 63))||decide (x>=2 ^ 63))=true)(h2:¬(items.isEmpty||x == 1)=true)(h3:¬(decide (x<=0)||items.isEmpty)=true)
  (h4:¬((items.size:Int)*x > (2 ^ 63-1) / 8)) (h5:¬Builtin.Tuple.tupleTooMany ((items.size:Int)*x)=true) (hsz:(List.foldl (fun x1 x2=>x1++x2) #[] (List.replicate x.toNat items)).size<=sizeLine) :
  Meets (Builtin.«tuple.__mul__» ⟨[.ref l,.int x u],[]⟩) (fun _ R s=>s.heap.get? l=some {cls:=.type "tuple",dict:=dd,data:=.seq items n,slots:=sl}/\R (.ok (.ret (Value.ref s.heap.objs.size))) {s with heap:=s.heap.push {cls:=Value.type "tuple",data:=Data.seq (List.foldl (fun x1 x2=>x1++x2) #[] (List.replicate x.toNat items))},toks:=s.toks}):=
 .of_wp fun prog w A R s h=>by obtain⟨hp,g,d,tk,os⟩:=s;obtain⟨hl,h⟩:=h;wp_walk using wpAny_loadPart' hl;refine Bg (Nn h1) ?_;wp_walk using wpAny_loadPart' hl;refine Bg (Nn h4) ?_;wp_walk using wpAny_loadPart' hl;exact⟨_,rfl,h⟩
section
variable{X:Cx}{EX:XE}{L:Lc}{a b:Expr}{fa fb:M D}{pos:Pos}
def E4(K:Frag):R2:=fun x y H Q=>∃l k xs,x=.ref l/\y=.int k/\dz K H l xs/\-(2 ^ 63)<=k/\k<2 ^ 63/\xs.length*k.toNat<=sizeLine/\((List.replicate k.toNat xs).flatten=xs->Q (.ref l) H)/\∀p,H p=none->Q (.ref p) (upd H p (.tup (List.replicate k.toNat xs).flatten))
theorem HH:gG X (binaryOp .Mult) (E4 X.K):=by
 intro Ug s σ H x y v u Q I rx ry h;obtain⟨l,k,xs,rfl,rfl,hH,h1,h2,hz,q1,q⟩:=h;cases rx;obtain⟨t,rfl⟩:=ry;obtain⟨aI,r,pt,_⟩:=I.tuple hH;obtain⟨⟨cls,dd,data,sl⟩,e,hc,n,hd⟩:=id pt;simp only at hc hd;subst hc hd;have hl:=r.length;have hr:¬(decide (k < -(2 ^ 63))||decide (k>=2 ^ 63))=true:=by simp only[Bool.or_eq_true,decide_eq_true_eq,not_or];lia
 have hf:∀m:Nat,List.foldl (fun x1 x2=>x1++x2) #[] (List.replicate m aI.toArray)=(List.replicate m aI).flatten.toArray:=fun m=>by have:=foldl_rep aI m [];rw[List.nil_append] at this;exact this
 refine wpAny_binaryOp_repeat_ref (T:="tuple") (U:="int") (by decide) ⟨_,e,rfl⟩ (fun s'=>typeIs_int s' k t) noFill_tuple_mul PySem.F.fills_int_mul PySem.F.slot_int_rmul uB PySem.F.slot_int_index.lookup (My PySem.F.slot_int_rmul (typeIs_int s k t) PySem.F.entry_int_rmul (PySem.F.args_int_rmul_2 _ _) (qm k t l aI.toArray n dd sl) ⟨e,rfl,⟨_,e,rfl⟩,?_⟩);by_cases c1:(aI.toArray.isEmpty||k == 1)=true;refine My Lw ⟨_,e,rfl⟩ A0 (NF _ _) (Q14 l aI.toArray n dd sl k t hr c1) ⟨e,.ref l,H,I,rfl,q1 ?_⟩;rw[Ru] at c1;rcases c1 with c1|c1;have:aI=[]:=by simpa using c1
 have:xs=[]:=r.mn.mp this;subst this;exact List.eq_nil_of_length_eq_zero (by rw[len_rep];simp);have:k=1:=by simpa using c1
 subst this;simp;by_cases c2:(decide (k<=0)||aI.toArray.isEmpty)=true;refine My Lw ⟨_,e,rfl⟩ A0 (NF _ _) (yq l aI.toArray n dd sl k t hr c1 c2) ⟨e,?_⟩;have hk:k.toNat=0:=by rw[Ru] at c1 c2;rcases c2 with c2|c2;have:=Hg c2;lia;exact absurd (.inl c2) c1
 rw[hk] at q hz;exact⟨.ref s.heap.objs.size,_,I.laid (t':=s.toks) (o:=.tup []) (fun b ob q=>T2 _ q) (ZS _) ⟨ER _,[],.nil,lI.new _ _⟩,rfl,q _ (I.cj.fresh (ZS _))⟩;have hk:0<k:=by
  rw[Ru,not_or] at c2;have:=of_decide_eq_false (Bool.eq_false_iff.mpr c2.1)
  lia
 have hm:((aI.toArray.size:Nat):Int)*k=((xs.length*k.toNat:Nat):Int):=by rw[U6,<-hl,Int.natCast_mul,Int.toNat_of_nonneg Qt]
 have hb:(sizeLine:Nat)<=16777216:=by decide
 refine My Lw ⟨_,e,rfl⟩ A0 (NF _ _) (Q1O l aI.toArray n dd sl k t hr c1 c2 (by rw[hm];lia) (by rw[hm];unfold Builtin.Tuple.tupleTooMany;simp only[decide_eq_true_eq];lia) (by rw[hf,U6,len_rep,<-hl,Nat.mul_comm];exact hz)) ⟨e,?_⟩;rw[hf];exact⟨.ref s.heap.objs.size,_,I.laid (t':=s.toks) (o:=.tup (List.replicate k.toNat xs).flatten) (fun b ob q=>T2 _ q) (ZS _) ⟨by rw[len_rep,Nat.mul_comm];exact hz,_,r.rep k.toNat,lI.new _ _⟩,rfl,q _ (I.cj.fresh (ZS _))⟩
theorem aM.rep{K:Frag}{mg:MG}{F:Hp}{vs:OY}{ds:XW}(h:aM K mg F vs ds):∀n:Nat,aM K mg F (List.replicate n vs).flatten (List.replicate n ds).flatten|0=>.nil|n+1=>by rw[N3,N3,Of,Of];exact aM.append h (aM.rep h n)
theorem zU:gG X (binaryOp .Mult) (fun x y H Q=>(rI wR fun i j=>.int (i*j)) x y H Q\/(E4 X.K x y H Q\/N5 x y H Q)):=gG.or iu (gG.or HH Q2M)
theorem Ds:kW L (fun x y H Q=>(rI wR fun i j=>.int (i*j)) x y H Q\/(E4 L.K x y H Q\/N5 x y H Q)) A9:=fun G F H σ ρ x y dx dy d Q g0 rx ry e k=>by
 cases dx with
 |int _=>cases dy with|int _=>exact .inl (kN G F H σ ρ x y _ _ d Q g0 rx ry e k)|_=>cases e
 |tup ds=>cases dy with|int i=>simp only[A9] at e;split at e;rename_i hc;cases e;obtain rfl:=Den.i ry;obtain⟨_,_,rfl,h1,r1⟩:=Den.t rx;rename_i p vs;have hz:=hc.2.2;rw[<-r1.length,wV] at hz;have hb:(jn:Int)=16777216:=rfl;have h12:=hc.1;have h22:=hc.2.1;refine .inr (.inl ⟨p,i,vs,rfl,rfl,dz.same h1 g0.sub,Qt,Qt,hz,fun z=>?_,fun q hq=>?_⟩);have:=aM.rep r1 i.toNat;rw[z] at this;exact k F H _ (aN.refl _) g0 (.tup h1 this);have sF:=bg (o:=.tup (List.replicate i.toNat vs).flatten) (g0.sub.free hq);exact k _ _ _ sF (g0.laid hq) (.tup (dz.of aO) (aM.rep (aM.same sF r1) _));cases e|_=>cases e
 |_=>cases e
end
structure DM(K:Frag)(x qn:Str)(st:Stmt)(f:Addr):Prop where
 l:∃(oc:Value)(od:u3)(kV doc pm:Value)(an:u3)(cd ct:Value)(sl:Array (Option Value)),K.lookup f=some ⟨oc,od,.func (W.fnOf x qn (dg st) (bU st) (aT st) .none kV doc pm an cd ct),sl⟩/\W.codeIn K cd qn=true
 k:W.keepIn K (.ref f)=true
structure DH(K:Frag)(x:Str)(st:Stmt)(f:Addr):Prop where
 a:W.nsIn K mainGlobals x=some (some (.ref f))
 m:DM K x x st f
abbrev BI(x qn:Str)(st:Stmt)(ps:Ph):Prop:=∀(kV doc pm:Value)(an:u3)(cd ct:Value)(us:Ul),us.length=ps.length->bindArgs (W.fnOf x qn (dg st) (bU st) (aT st) .none kV doc pm an cd ct) ⟨us,[]⟩=pure (ps.zip us)
section
variable{K:Frag}{mg:MG}{h:Heap}{x qn:Str}{st:Stmt}{f:Addr}{ps:Ph}
theorem DM.is(d:DM K x qn st f)(b:BI x qn st ps):∃fd,Gb K x qn st f fd/\Binds K fd ps []:=by obtain⟨⟨oc,od,kV,doc,pm,an,cd,ct,sl,l,c⟩,k⟩:=d;exact⟨_,Dm l c k,(Dm l c k).binds b⟩
theorem DH.is(d:DH K x st f)(X:K.In h)(G:h.Ns mainGlobals mg)(b:BI x x st ps):∃fd,pP K mg x st ps f fd:=by obtain⟨fd,F,B⟩:=d.m.is b;exact⟨fd,F,B,HK X G d.a⟩
end
theorem v0{P:Ul->Prop}(h:P []):∀us:Ul,us.length=0->P us:=fun us e=>List.length_eq_zero_iff.mp e ▸ h
theorem vc{n:Nat}{P:Ul->Prop}(h:∀a,∀us:Ul,us.length=n->P (a::us)):∀us:Ul,us.length=n+1->P us:=fun us e=>by cases us with|nil=>cases e|cons a us=>exact h a us (Nat.succ.inj e)
theorem W5{x qn:Str}{st:Stmt}{p0:Str}(h:∀(kV doc pm:Value)(an:u3)(cd ct:Value)(a0:Value),bindArgs (W.fnOf x qn (dg st) (bU st) (aT st) .none kV doc pm an cd ct) ⟨[a0],[]⟩=pure ([p0].zip [a0]):=by intros;rfl):BI x qn st [p0]:=fun kV doc pm an cd ct=>vc fun _=>v0 (h _ _ _ _ _ _ _)
theorem W6{x qn:Str}{st:Stmt}{p0 p1:Str}(h:∀(kV doc pm:Value)(an:u3)(cd ct:Value)(a0 a1:Value),bindArgs (W.fnOf x qn (dg st) (bU st) (aT st) .none kV doc pm an cd ct) ⟨[a0,a1],[]⟩=pure ([p0,p1].zip [a0,a1]):=by intros;rfl):BI x qn st [p0,p1]:=fun kV doc pm an cd ct=>vc fun _=>vc fun _=>v0 (h _ _ _ _ _ _ _ _)
theorem W7{x qn:Str}{st:Stmt}{p0 p1 p2:Str}(h:∀(kV doc pm:Value)(an:u3)(cd ct:Value)(a0 a1 a2:Value),bindArgs (W.fnOf x qn (dg st) (bU st) (aT st) .none kV doc pm an cd ct) ⟨[a0,a1,a2],[]⟩=pure ([p0,p1,p2].zip [a0,a1,a2]):=by intros;rfl):BI x qn st [p0,p1,p2]:=fun kV doc pm an cd ct=>vc fun _=>vc fun _=>vc fun _=>v0 (h _ _ _ _ _ _ _ _ _)
theorem W8{x qn:Str}{st:Stmt}{p0 p1 p2 p3:Str}(h:∀(kV doc pm:Value)(an:u3)(cd ct:Value)(a0 a1 a2 a3:Value),bindArgs (W.fnOf x qn (dg st) (bU st) (aT st) .none kV doc pm an cd ct) ⟨[a0,a1,a2,a3],[]⟩=pure ([p0,p1,p2,p3].zip [a0,a1,a2,a3]):=by intros;rfl):BI x qn st [p0,p1,p2,p3]:=fun kV doc pm an cd ct=>vc fun _=>vc fun _=>vc fun _=>vc fun _=>v0 (h _ _ _ _ _ _ _ _ _ _)
theorem W9{x qn:Str}{st:Stmt}{p0 p1 p2 p3 p4:Str}(h:∀(kV doc pm:Value)(an:u3)(cd ct:Value)(a0 a1 a2 a3 a4:Value),bindArgs (W.fnOf x qn (dg st) (bU st) (aT st) .none kV doc pm an cd ct) ⟨[a0,a1,a2,a3,a4],[]⟩=pure ([p0,p1,p2,p3,p4].zip [a0,a1,a2,a3,a4]):=by intros;rfl):BI x qn st [p0,p1,p2,p3,p4]:=fun kV doc pm an cd ct=>vc fun _=>vc fun _=>vc fun _=>vc fun _=>vc fun _=>v0 (h _ _ _ _ _ _ _ _ _ _ _)
theorem Xa{x qn:Str}{st:Stmt}{p0 p1 p2 p3 p4 p5:Str}(h:∀(kV doc pm:Value)(an:u3)(cd ct:Value)(a0 a1 a2 a3 a4 a5:Value),bindArgs (W.fnOf x qn (dg st) (bU st) (aT st) .none kV doc pm an cd ct) ⟨[a0,a1,a2,a3,a4,a5],[]⟩=pure ([p0,p1,p2,p3,p4,p5].zip [a0,a1,a2,a3,a4,a5]):=by intros;rfl):BI x qn st [p0,p1,p2,p3,p4,p5]:=fun kV doc pm an cd ct=>vc fun _=>vc fun _=>vc fun _=>vc fun _=>vc fun _=>vc fun _=>v0 (h _ _ _ _ _ _ _ _ _ _ _ _)
theorem Xb{x qn:Str}{st:Stmt}{p0 p1 p2 p3 p4 p5 p6:Str}(h:∀(kV doc pm:Value)(an:u3)(cd ct:Value)(a0 a1 a2 a3 a4 a5 a6:Value),bindArgs (W.fnOf x qn (dg st) (bU st) (aT st) .none kV doc pm an cd ct) ⟨[a0,a1,a2,a3,a4,a5,a6],[]⟩=pure ([p0,p1,p2,p3,p4,p5,p6].zip [a0,a1,a2,a3,a4,a5,a6]):=by intros;rfl):BI x qn st [p0,p1,p2,p3,p4,p5,p6]:=fun kV doc pm an cd ct=>vc fun _=>vc fun _=>vc fun _=>vc fun _=>vc fun _=>vc fun _=>vc fun _=>v0 (h _ _ _ _ _ _ _ _ _ _ _ _ _)
theorem Wq{N P:Ph}{sc:Scope}(h1:sc.kind=.function:=by rfl)(h2:sc.isCoroutine=false:=by rfl)(h3:sc.isGenerator=false:=by rfl)(h4:N.Nodup:=by exact ON)(h5:N.take P.length=P:=by rfl)(h6:∀x∈P,sc.names.lookup x=some .local\/sc.names.lookup x=some .cell:=by exact ON) (h7:∀y∈sc.names,y.2≠.free:=by exact ON):d7 N P sc:=⟨h1,h2,h3,h4,h5,h6,h7⟩
theorem FW(l:Ph)(h:l.Nodup:=by exact ON):List.Nodup l:=h
section
variable{prog:Program}{w:World}{A:Around}{E:RG}{s:Shared}
theorem vb(hl:s.heap.IsTuple l vs.toArray)
  (h:Q vs {s with heap:=(s.heap.push (seqObj "list" #[] 0)).update s.heap.objs.size (Obj.mapSeq (·++vs.toArray))}) (hsz:vs.length<=sizeLine) :
  wpAny (model prog w) A (collect (.ref l)) Q E s:=by
 obtain⟨o,ho,hc,n,hd⟩:=id hl;unfold collect;refine ZM (wpAny_runValue (EH entry_proto_collect' ?_));show wpAny _ _ (do again (.builtin "list.__iadd__" ⟨[<-newList [],.ref l],[]⟩)) _ _ s;refine ZM (wpAny_newList (Pf ⟨Code.quiet_builtin _ (by decide +kernel),EH entry_list_iadd' ?_⟩));show wpAny _ _ (Builtin.List.listExtendWith (.ref s.heap.objs.size) (.ref l) (.ref s.heap.objs.size)) _ _ {s with heap:=s.heap.push (seqObj "list" #[] 0)};unfold Builtin.List.listExtendWith;have uN:(s.heap.push (seqObj "list" #[] 0)).get? l=some o:=T2 _ ho;refine ZM (RX (T:="tuple") ⟨o,uN,hc⟩ ?_);have ht:(Value.type "tuple" == Value.type "tuple")=true:=by rfl
 rw[Wr (by rw[ht];simp)];refine ZM (listItems_at uN hd ?_);refine ZM (listItems_at (xs:=#[]) (n:=0) (TR _ rfl) rfl ?_);rw[Uu Ro];refine ZM (listUpdate_at (xs:=#[]) (n:=0) (TR _ rfl) rfl ?_ (ER _) (by show (#[]++vs.toArray).size<=sizeLine+1;simp only[Array.size_append,List.size_toArray,List.length_nil];lia));refine Pf ?_;show wpAny (model prog w) A (do
  let o <-load s.heap.objs.size
  match o.data with|.seq xs _=>pure xs.toList|_=>unsupported "internal:collect") Q E {s with heap:=(s.heap.push (seqObj "list" #[] 0)).update s.heap.objs.size (Obj.mapSeq (·++vs.toArray))}
 refine ZM (wpAny_load (get?_update_seq (TR _ rfl) _) ?_);show wpAny _ _ (pure ((#[]:Array Value)++vs.toArray).toList) Q E _;rw[show ((#[]:Array Value)++vs.toArray).toList=vs by simp];exact Pf h
theorem Q0l(hl:s.heap.IsTuple l vs.toArray)(hI:IntsAre vs ns)(QD:vs.length<64)
  (h:∀(out:Array Value)(BF:T1),IntsAre out.toList BF->BF.Perm ns->BF.Pairwise (·<=·)->Q (.ref (s.heap.objs.size+1)) {s with heap:=sortedAll s.heap vs out}) :
  wpAny (model prog w) A (call (.builtin "sorted") [.ref l]) Q E s:=by
 refine Calls.call_function_entry kind_sorted plain_sorted entry_sorted (args_sorted1 _) ?_;unfold Builtin.«sorted»;refine ZM (m:=checkCount "sorted" 1 1 _) (Pf ?_);refine ZM (vb hl ?_ (by rw[Ji];lia));refine ZM (wpAny_newList ?_);have hsz:((s.heap.push (seqObj "list" #[] 0)).update s.heap.objs.size (Obj.mapSeq (·++vs.toArray))).objs.size=s.heap.objs.size+1:=by rw[Heap.size_update,size_push']
 have T9:(((s.heap.push (seqObj "list" #[] 0)).update s.heap.objs.size (Obj.mapSeq (·++vs.toArray))).push (seqObj "list" vs.toArray 0)).get? (s.heap.objs.size+1)=some (seqObj "list" vs.toArray 0):=by rw[<-hsz];exact TR _ rfl
 show wpAny _ _ _ _ _ {s with heap:=((s.heap.push (seqObj "list" #[] 0)).update s.heap.objs.size (Obj.mapSeq (·++vs.toArray))).push (seqObj "list" vs.toArray 0)};rw[hsz];refine ZM (Jn (D6 slot_list_sort ⟨_,T9,rfl⟩ entry_list_sort (list_sort_tree T9 hI QD fun out BF a1 a2 a3=>⟨_,rfl,?_⟩) (args_list_sort _)));exact Pf ⟨_,rfl,h out BF a1 a2 a3⟩
end
section
variable{X:Cx}{EX:XE}{L:Lc}{a:Expr}{fa:M D}{p pos p' V6:Pos}
theorem gF:∀{us:Ul}{ns:T1},IntsAre us ns->Vals (ns.map V.int) us|_,_,.nil=>.nil|_,_,.cons n t h=>.cons ⟨t,rfl⟩ (gF h)
theorem sZ:∀(n:Nat)(lo:Nat)(us:Ul),us.length=n->(∀(j:Nat)(v:Value),us[j]?=some v->∃t,v=.int ((lo+j:Nat):Int) t)->Vals ((List.range' lo n).map fun(k:Nat)=>V.int k) us|0,_,[],_,_=>.nil|n+1,lo,u::us,hl,h=>by rw[List.range'_succ,P6];refine .cons ?_ (sZ n (lo+1) us (by simpa using hl) fun j v e=>?_);obtain⟨t,e⟩:=h 0 u rfl;exact⟨t,by simpa using e⟩;obtain⟨t,e⟩:=h (j+1) v (by simpa using e);exact⟨t,by rw[e,show lo+1+j=lo+(j+1) by lia]⟩
def Kv(K:Frag):OY->Hp->VK->Prop:=fun xs H Q=>∃(t:Bool)(q:Addr)(ns:T1),xs=[.ref q]/\lH K H t q (ns.map V.int)/\ns.length<64/\∀p,H p=none->Q (.ref p) (upd H p (.lst ((sortI ns).map V.int)))
theorem Q32:d6 X (.builtin "sorted") (Kv X.K):=by
 intro Ug s σ H xs us Q I r h;obtain⟨t,q,ns,rfl,hq,QD,k⟩:=h;obtain⟨u,rfl,ru⟩:=vals1 r;cases ru;obtain⟨aI,rv,sq⟩:=Inv.pf I hq;have hi:IntsAre aI ns:=intsAre_of rv;have hl:aI.length<64:=by rw[<-rv.length,uG];exact QD
 have fin:∀(out:Array Value)(BF:T1),IntsAre out.toList BF->BF.Perm ns->BF.Pairwise (·<=·)->EP X Ug σ Q (.ref (s.heap.objs.size+1)) {s with heap:=sortedAll s.heap aI out}:=fun out BF a1 a2 a3=>by
  have e:=mz a2 a3;subst e;obtain⟨c,hc⟩:=sortedAll_at s.heap aI out;have z:((sortI ns).map V.int).length<=sizeLine:=by rw[uG,a2.length_eq,Ji];lia
  exact⟨.ref (s.heap.objs.size+1),_,I.laid (t':=s.toks) (o:=.lst ((sortI ns).map V.int)) (fun b o e=>sortedAll_old e) (Jh _) ⟨z,out.toList,c,gF a1,hc⟩,rfl,k _ (I.cj.fresh (Jh _))⟩
 cases t;exact sorted_ints (show s.heap.IsList q aI.toArray from sq) hi hl fin;exact Q0l (show s.heap.IsTuple q aI.toArray from sq) hi hl fin
theorem LG:Jy L (Kv L.K) wx:=fun G F H σ ρ x dx d Q g0 rx e k=>by unfold wx at e;cases e1:cq dx with|none=>rw[e1] at e;cases e|some ds=>rw[e1] at e;dsimp only at e;cases e2:dm ds with|none=>rw[e2] at e;cases e|some ns=>rw[e2] at e;dsimp only at e;split at e;rename_i QD;cases e;obtain⟨t,q,vs,rfl,r,z⟩:=RR.pf rx g0 e1;have ev:=ints_of r e2;subst ev;refine⟨t,q,ns,rfl,z,QD,fun l hl=>?_⟩;have sF:=bg (o:=.lst ((sortI ns).map V.int)) (g0.sub.free hl);exact k _ _ _ sF (g0.laid hl) (.lst (cX.of aO) (aM.ints _));cases e
theorem HN(hg:Gl X "range")(hm:X.mg "range" = none)(vH:Gl X "list")(xu:X.mg "list" = none)(hc:X.calm=true)(ha:PA X [a] t)(hs:starEach [a] X.env=[(false,eval a X.env)]:=by rfl)
  (iM:starEach [.Call (.Name "range" p) [a] [] pos] X.env=[(false,eval (.Call (.Name "range" p) [a] [] pos) X.env)]:=by rfl):PE X (.Call (.Name "list" p') [.Call (.Name "range" p) [a] [] pos] [] V6)
  (Po (fun xs H Q=>∃j:Int,xs=[.int j]/\-1000<=j/\j<=1000/\∀l,H l=none->Q (.ref l) (upd H l (.lst ((List.range j.toNat).map fun(k:Nat)=>V.int k)))) t):=by
 intro Ug s σ H Q I h;refine Qn (dA I vH xu Nf (Nj ?_ iM rfl));rw[iM];refine Np (Call_ (dA I hg hm boot_range (Nj (bT (ha pos Ug s σ H _ I h) fun us s1 zz=>?_) hs rfl)));obtain⟨vs,H1,I1,r1,q1⟩:=zz;obtain⟨j,e,b1,b2,hR⟩:=q1;subst e;cases r1 with
 |cons r rr=>
  cases rr;obtain⟨t,rfl⟩:=r;refine call_range_1 (Mw ?_);refine call_list_range (n:=j.toNat) (I1.ok.hd hc) (IsRange.new ..) (small_one Qt Qt Qt Qt) (by rw[rangeSize_one];split<;>lia) Qt fun h' tk acc c hk ho hi=>?_;have hsz:(s1.heap.push {cls:=.type "range",data:=.fields #[.int 0 s1.toks,.int j t,.int 1 (s1.toks+1)]}).objs.size=s1.heap.objs.size+1:=by simp[Heap.push]
  have hv:Vals ((List.range j.toNat).map fun(k:Nat)=>V.int k) acc.toList:=by rw[List.range_eq_range'];refine sZ _ _ _ (by simpa using hi.1) fun i v e=>?_;obtain⟨t,e⟩:=hi.2 i v (by simpa using e);exact⟨t,by rw[e];simp⟩
  refine⟨.ref _,_,I1.laid (t':=tk) (o:=.lst ((List.range j.toNat).map fun(k:Nat)=>V.int k)) (fun b o e=>hk b o (T2 _ e)) (by rw[size_push'];exact Jh _) ⟨by rw[uG,LZ,Ji];lia,acc.toList,c,hv,ho⟩,rfl,hR _ (I1.cj.fresh (by rw[size_push'];exact Jh _))⟩
theorem zV(hg:Gl X "range")(hm:X.mg "range" = none)(vH:Gl X "list")(xu:X.mg "list" = none)(ha:Am X EX [a] (mL fl))(hc:X.calm=true:=by rfl)(hs:starEach [a] X.env=[(false,eval a X.env)]:=by rfl)(iM:starEach [.Call (.Name "range" p) [a] [] pos] X.env=[(false,eval (.Call (.Name "range" p) [a] [] pos) X.env)]:=by rfl):PF X EX (.Call (.Name "list" p') [.Call (.Name "range" p) [a] [] pos] [] V6) (mF AW fl):=
 (HN hg hm vH xu hc ha hs iM).le fun σ H Q bF=>dt bF fun G F F1 H1 bw d1 xs s1 g1 r1 o1=>by
  obtain⟨d,e,q⟩:=o1.opt;unfold AW at e;split at e;rename_i j;cases r1 with|cons h r1=>obtain rfl:=aM.n r1;obtain rfl:=Den.i h;split at e;rename_i hb;cases e;refine⟨j,rfl,hb.1,hb.2,fun l hl=>?_⟩;exact q _ _ _ s1 (g1.made hl) ⟨l,rfl,g1.loose hl ⟨_,aO,aM.map (fun(k:Nat)=>Den.int k) _⟩⟩;cases e
  cases e
end
section
variable{X:Cx}{EX:XE}{L:Lc}{o e a b:Expr}{fo fa fb fe:M D}{pos V7 iX p:Pos}{name:Str}{id:String}
theorem Qz:kW L (rI Px fun i j=>.int (i ^ j.toNat)) Ii:=fun G F H σ ρ x y dx dy d Q g0 rx ry e k=>by
 cases dx with
 |int i=>cases dy with|int j=>simp only[Ii] at e;split at e;rename_i hb;cases e;obtain rfl:=Den.i rx;obtain rfl:=Den.i ry;exact⟨i,j,rfl,rfl,⟨hb.1,Qt,hb.2.2⟩,k F H _ (aN.refl _) g0 (.int _)⟩;cases e|_=>cases e
 |_=>cases e
end
def UQ(h:Heap)(e:Addr)(c:Value)(dx:u3):Prop:=∃vs sl,h.get? e=some ⟨c,dx,.fields vs,sl⟩/\vs[2]?=some .none/\vs[1]?=some .none
def Yu(h0:Heap)(H:Hp)(h:Heap)(e:Addr)(c:Value)(dx:u3)(v:Value):Prop:=∃vs sl T ot ts,h.get? e=some ⟨c,dx,.fields vs,sl⟩/\vs[2]?=some .none/\vs[1]?=some (.ref T)/\T≠e/\h0.get? T=none/\H T=none/\h.get? T=some ot/\ot.data=.fields ts/\ts[3]?=some v
structure Xo(h0:Heap)(H:Hp)(h:Heap)(e:Addr)(c:Value)(dx:u3):Prop where
 lo:h0.get? e=none
 nt:H e=none
 st:UQ h e c dx\/∃v,Yu h0 H h e c dx v
section
variable{X:Cx}{σ:St}{H:Hp}{s:Shared}{e:Addr}{c:Value}{dx:u3}
def Kp(fs:XU)(h h':Heap):Prop:=∀b o,b∉fs->(∀vs,o.data≠.fields vs)->h.get? b=some o->h'.get? b=some o
end
def Q1w(P:Program)(w:World):uP:=fun outer H s E v s'=>∃e c dx H',v=.ref e/\s'.os=s.os/\AllBare s'.gens/\Un (BE outer) [] H H' s.heap s'.heap/\og P w H' s'.heap/\Xo s.heap H' s'.heap e c dx/\E c dx H'
section
variable{P:Program}{w:World}{K:Frag}{mg:MG}{base:Heap}
theorem dC.no{k:Nat}{f:Addr}{fd:FuncData}{ps:Ph}{sp SR:Sp}(F:dC P w K mg base (Q1w P w) k f fd ps sp)(h:∀vs H Q E,SR vs H Q E->sp vs H Q fun _ _ _=>False):dC P w K mg base pO k f fd ps SR:=⟨fun vs H Q E q=>F.len _ _ _ _ (h vs H Q E q),fun A outer s H args us vs Q E hr e0 hb r FU=>Ay (F.run A outer s H args us vs Q (fun _ _ _=>False) hr e0 hb r (h _ _ _ _ FU)) fun r s' hq=>by cases r with|error e=>obtain⟨_,_,_,_,_,_,_,_,_,_,z⟩:=hq;exact z.elim|ok fl=>cases fl<;>exact hq⟩
end
section
variable{X:Cx}{EX:XE}{L:Lc}{e a b c:Expr}{fe fa fb:M D}{f:M Fl}{pos:Pos}{x:Str}{p:Pos}
theorem Q1P(g:L.Good G F H σ ρ)(h:own ρ[k]?=some (.lst ds)) : ∃l vs,σ[k]?=some (some (V.ref l))/\H l=some (.lst vs)/\aM L.K L.mg F vs ds/\∀wJ BD,aM L.K L.mg F wJ BD->L.Good G F (upd H l (.lst wJ)) σ (cL k (.lst BD) ρ):=by cases q3:ρ[k]? with|none=>rw[q3] at h;cases h|some s=>rw[q3] at h;have sl:=g.slot k s q3;cases s with|no=>cases h|sh e=>cases h|ow e=>cases h;obtain⟨l,z1,z2,z3,vs,z4,z5⟩:=sl;refine⟨l,vs,join_some z1,z4,z5,fun wJ BD r=>?_⟩;rw[show cL k (.lst BD) ρ=ρ.set k (.ow (.lst BD)) by unfold cL;rw[q3]];exact Good.write g q3 rfl (join_some z1) (.inl ⟨_,rfl,rfl⟩) ⟨_,aO,r⟩|io e=>cases h;obtain⟨l,z1,z2,z3,vs,z4,z5⟩:=sl;refine⟨l,vs,join_some z1,z4,z5,fun wJ BD r=>?_⟩;rw[show cL k (.lst BD) ρ=ρ.set k (.io (.lst BD)) by unfold cL;rw[q3]];exact Good.write g q3 rfl (join_some z1) (.inr ⟨_,rfl,rfl⟩) ⟨_,aO,r⟩
theorem wK(hp:PassesOwn (model X.prog X.w) X.A X.env X.xe)(hc:PB X EX c ft)(hb:mU X EX body f):oh X EX (.While c body [] pos) (nT ft f):=(EV hp hc hb).le fun E σ H bF=>xF bF fun G F ρ g0 o=>by refine⟨fun m σ H=>∃F' bQ,aN F F'/\(lc X EX).Good G F' H σ bQ/\Out (gW ft f m bQ) (gH (lc X EX) G F E) (cW (lc X EX) G F),⟨10000,F,ρ,aN.refl _,g0,o⟩,?_⟩;rintro m KL H1 ⟨F1,bw,s1,g1,o1⟩;cases m with|zero=>exact o1.elim|succ m=>refine a7 g1 o1 (fun x r q=>(q.same s1).x) fun F2 H2 oQ d b s2 g2 r2 o2=>?_;cases r2;cases d with|false=>rw[Uu (by decide)] at o2 ⊢;exact o2 F2 H2 KL (s1.trans s2) g2|true=>rw[Wr rfl] at o2 ⊢;refine⟨fun bD H'=>∃F' bQ,aN F F'/\(lc X EX).Good G F' H' bD bQ/\Out (gW ft f m bQ) (gH (lc X EX) G F E) (cW (lc X EX) G F),fun bD H' q=>⟨m,By m,q⟩,?_⟩;refine⟨G,F2,oQ,g2,(Out.Pd o2).mono (fun k r z=>?_) fun _ _ z=>z.same (s1.trans s2)⟩;cases k with|nx=>exact fun F' H' bD s g'=>⟨F',r,(s1.trans s2).trans s,g',z⟩|ct=>exact fun F' H' bD s g'=>⟨F',r,(s1.trans s2).trans s,g',z⟩|bk=>exact fun F' H' bD s g'=>z F' H' bD ((s1.trans s2).trans s) g'|rt d=>exact fun F' H' bD v s g'=>z F' H' bD v ((s1.trans s2).trans s) g'
theorem Q0X(i:Nat){V7 iX:Pos}(he:PF X EX e fe)(hN:X.N[i]?=some x:=by rfl)(hv:yz X.env.scope x:=by exact wg)(hd:WL x:=by decide)
  (kO:Le x:=by decide)
  (hpe:∀{to:TE}{t:TA},PE X (.Name x p) to->PA X [e] t->PE X (.Call (.Attribute (.Name x p) "extend" V7) [e] [] iX) (Ux X.K "list" z9 to t))
  (jB:Oa X e []:=by rfl):oh X EX (.Expr (.Call (.Attribute (.Name x p) "extend" V7) [e] [] iX) pos) (Fc i fe):=
 (uu (hpe (iw hN hv hd kO) (cB he fZ jB))).le fun E σ H bF=>xF bF fun G F ρ g0 o=>by
  unfold Fc at o;by_cases hl:isLst (own ρ[i]?)=true;rw[Wr hl] at o;obtain⟨l,vs,z1,z2⟩:=isLst_slot (L:=lc X EX) g0 hl;refine⟨_,z1,.inl ⟨rfl,_,cX.of z2⟩,a7 g0 o (fun x r q=>q.x) fun F1 H1 bw d1 v s1 g1 r1 o1=>?_⟩;have o2:=Out.Pd o1;unfold fR at o2;cases q:own bw[i]? with
  |none=>rw[q] at o2;exact o2.elim|some d0=>
   rw[q] at o2;cases d0 with
   |lst ds=>cases d1 with|lst es=>simp only[xl] at o2;split at o2;rename_i d' q2;split at q2;rename_i hz;cases q2;obtain⟨l',wJ,h1,h2,h3,h4⟩:=Q1P (L:=lc X EX) g1 q;rw[z1] at h1;cases h1;obtain⟨bb,rfl,lo⟩:=r1;obtain⟨ws,hb,rb⟩:=lo.ob;refine⟨l,bb,wJ,ws,rfl,rfl,h2,hb,?_,o2 F1 _ σ s1 (h4 _ _ (h3.append rb))⟩;rw[h3.length,rb.length,Ji];exact hz;cases q2;exact o2.elim|_=>simp only[xl] at o2;exact o2.elim
   |_=>simp only[xl] at o2;exact o2.elim
  rw[Uu hl] at o;exact o.elim
end
section
variable{X:Cx}{EX:XE}{L:Lc}{e a b c:Expr}{fe fa fb:M D}{f:M Fl}{pos:Pos}{x:Str}{p:Pos}
theorem Good.gone{K:Frag}{mg:MG}{G:Fx}{F H F' H':Hp}{σ:St}{ρ:aS}{l:Addr}{d:D}{cK:XW}(g:Good K mg G F H σ ρ)(lo:Loose K mg G F H σ ρ l d)(a:After K mg F H F' H' [l] cK):Good K mg G F' H' σ ρ:=by
 have vM:∀{m:Addr},F m=none->(∃o,H m=some o)->F' m=none:=fun {m} h ⟨o,ho⟩=>by cases q:F' m with|none=>rfl|some u=>rcases a.new m u q with z|z;rw[h] at z;cases z;rw[ho] at z;cases z
 have nl:∀{b:Addr}{o:HO},G.H₀ b=some o->b∉[l]:=fun {b o} e hb=>by
  have:b=l:=by simpa using hb
  subst this;rw[lo.n0] at e;cases e
 exact {
  sF:=g.sF.trans a.sF
  sub:=a.sub
  old:=fun b o e n=>a.old b o (g.old b o e n) (nl e)
  new:=fun b o e=>by rcases a.new b o e with z|z;exact g.new b o z;exact .inr (g.Bb z)
  len:=g.len
  slot:=fun i s h=>(g.slot i s h).same a.sF (fun m _ _ f t=>vM f t) fun m o hv ow e=>a.old m o e fun hb=>by
   have:m=l:=by simpa using hb
   subst this;exact lo.ns i s h ow (join_some hv)
  apart:=g.apart
  oE:=fun i b h=>by obtain⟨⟨o,q1⟩,q2,u,q3⟩:=g.oE i b h;exact⟨⟨o,a.old b o q1 (nl q3)⟩,vM q2 ⟨o,q1⟩,u,q3⟩
  oX:=g.oX}
variable{CX:uP}{k:Nat}{fA:Addr}{fd:FuncData}{ps:Ph}{fs:Fn}
theorem E2(F:dC X.prog X.w X.K X.mg X.base CX k fA fd ps (ph X.K X.mg [true] fs))(hr:cH k X.A)(hg:Gl X x)(hm:X.mg x=some (.ref fA))(hk:W.keepIn X.K (.ref fA)=true)(hb:Binds X.K fd ps [])(hx:fM CX X EX)
  (ha:PF X EX a fa) (jz:WL x:=by decide) (he:Oa X a []:=by rfl) (jA:(backTo pos (starEach [] X.env)).any (·.1)=false:=by rfl) :
  PV X EX (.Call (.Name x p) [a] [] pos) (nC fs fa):=by
 intro Ug s σ H Q I h;obtain⟨G,F0,ρ,g0,o⟩:=h;refine Qn (lZ I hg hm ?_ jz);refine Bi (h₀:=X.base) I.ok.mod.Mj hk (bT (cB ha fZ he pos Ug s σ H (fun vs H1=>ph X.K X.mg [true] fs vs H1 Q (EX σ)) I ?_) fun us s1 ⟨vs,H1,I1,r,q⟩=>⟨I1.rk,?_⟩) he jA;refine a7 g0 o (fun x r q=>q) fun F1 H1 bw d1 v s1 g1 r1 o1=>?_;obtain⟨l,rfl,lo⟩:=r1;refine⟨rfl,F1,[d1],g1.sub,⟨⟨l,rfl,lo.nF,lo.ob⟩,trivial⟩,by simp[qo,dO],?_⟩;unfold BU at o1;cases q2:fs [d1] with
  |no=>rw[q2] at o1;exact o1.elim|ok d cK=>
   rw[q2] at o1
   match cK,o1 with|[io],o1=>exact fun F' H' v a rd=>o1 F' H' v (s1.trans a.sF) (Good.gone g1 lo a) rd|[],o1=>exact o1.elim|_::_::_,o1=>exact o1.elim
  |exc xx cK=>
   rw[q2] at o1
   match cK,o1 with|[io],o1=>exact fun F' H' c dx a rx=>o1 F' H' c dx (s1.trans a.sF) (Good.gone g1 lo a) rx|[],o1=>exact o1.elim|_::_::_,o1=>exact o1.elim
 exact pI F hr hb hx I1 r q
end
section
variable{pg:Program}{wd:World}{A:Around}{R:Result->Shared->Prop}{It:Addr}{fp wr:XU}{n:Nat}{P:Nat->Value->Prop}{Z:Nat->Heap->Prop}{dv:Value}
theorem Au(a d:Value):argsOk "max" ⟨[a],[("default",d)]⟩:=by unfold argsOk;kernel_rfl
theorem kq:(toString "max" ++ toString ".loop" : String)="max.loop" := by decide
theorem A4(W:Walks pg wd A.in1 It fp wr n P Z)(bt:Nat->Nat->Bool)(cm:CmpOf pg wd A.in1 .Gt P bt)(S:Addr)(nS:S∉fp) :
  ∀(m i:Nat)(t:Shared)(best:Value)(cap:Nat),n-(i+1)=m->i+1<=n->Z (i+1) t.heap->P (argBest bt i) best ->
  t.heap.get? S=some {cls:=.type "list",dict:=none,data:=.seq #[best,best] cap,slots:=#[]} ->
  (∀v g tk,P (argBest bt (n-1)) v->(∀b o,b∉wr->b≠S->t.heap.get? b=some o->g.get? b=some o)->R (.ok (.ret v)) {t with heap:=g,toks:=tk}) ->
  codeAny (model pg wd) A (.builtin "max.loop" ⟨[.ref It,.none,.ref S],[("default",dv)]⟩) R t:=by
 have nw:S∉wr:=fun q=>nS (W.sub _ q);intro m;induction m with|zero=>intro i t best cap e1 e2 hz hb hS fin;have en:i+1=n:=Qt;refine EH WI ?_;rw[K5 So _];refine ZM (m:=seqItems? (.ref S)) (Bt hS rfl ?_);refine ZM (m:=tryCatch (pyNext (.ref It)) _) (K3 (W.done t _ _ (en ▸ hz) fun g tk kp=>?_));have JZ:=kp S _ nw hS;refine ZM (m:=updateSeq S (fun _=>#[])) (S6 JZ rfl (ZM (An (Pf ?_))));exact fin best _ tk (by rw[<-en];exact hb) fun b o q1 q2 z=>(Mz _ _ (Ry q2)).trans (kp b o q1 z)|succ m ih=>intro i t best cap e1 e2 hz hb hS fin;have lt:i+1<n:=Qt;refine EH WI ?_;rw[K5 So _];refine ZM (m:=seqItems? (.ref S)) (Bt hS rfl ?_);refine ZM (m:=tryCatch (pyNext (.ref It)) _) (K3 (W.item (i+1) t _ _ lt hz fun v g tk hv Ub kp=>?_));have JZ:=kp S _ nw hS;refine ZM (m:=tryCatch (holding [v,v] (richCompare .Gt v best >>= _)) _) (K3 (Jn (ZM (cm (i+1) (argBest bt i) v best _ _ _ hv hb ?_))));refine ZM (Jn (Lb (ZM (An (Pf ?_)))));cases q:bt (i+1) (argBest bt i) with|true=>simp only[if_true];refine ZM (S6 JZ rfl (ZM (An ?_)));rw[kq];refine Pf ⟨EG So _,ih (i+1) _ v _ Qt lt (W.frame _ _ _ Ub fun b mb o z=>(Mz _ _ (fun w:S=b=>nS (by rw[w];exact mb))).trans z) (by simp only[argBest,q,if_true];exact hv) (xK _ JZ rfl) fun v2 g2 Tb y1 y2=>?_⟩;exact fin v2 g2 Tb y1 fun b o q1 q2 z=>y2 b o q1 q2 ((Mz _ _ (Ry q2)).trans (kp b o q1 z))|false=>simp only[Bool.false_eq_true,if_false];refine ZM (An ?_);rw[kq];exact Pf ⟨EG So _,ih (i+1) _ best cap Qt lt Ub (by simp only[argBest,q,Bool.false_eq_true,if_false];exact hb) JZ fun v2 g2 Tb y1 y2=>fin v2 g2 Tb y1 fun b o q1 q2 z=>y2 b o q1 q2 (kp b o q1 z)⟩
theorem xN(W:Walks pg wd A.in1 It fp wr n P Z)(bt:Nat->Nat->Bool)(cm:CmpOf pg wd A.in1 .Gt P bt)(S:Addr)(nS:S∉fp)(hz:Z 0 t.heap)
  (hS:t.heap.get? S=some {cls:=.type "list",dict:=none,data:=.seq #[] cap,slots:=#[]})
  (fin:∀v g tk,(n=0/\v=dv\/0<n/\P (argBest bt (n-1)) v)->(∀b o,b∉wr->b≠S->t.heap.get? b=some o->g.get? b=some o)->R (.ok (.ret v)) {t with heap:=g,toks:=tk}) :
  codeAny (model pg wd) A (.builtin "max.loop" ⟨[.ref It,.none,.ref S],[("default",dv)]⟩) R t:=by
 have nw:S∉wr:=fun q=>nS (W.sub _ q);refine EH WI ?_;rw[K5 So _];refine ZM (m:=seqItems? (.ref S)) (Bt hS rfl ?_);by_cases hn:0<n;refine ZM (m:=tryCatch (pyNext (.ref It)) _) (K3 (W.item 0 t _ _ hn hz fun v g tk hv Ub kp=>?_));have JZ:=kp S _ nw hS;refine ZM (m:=updateSeq S (fun _=>#[v,v])) (S6 JZ rfl ?_);rw[kq];refine Pf ⟨EG So _,A4 W bt cm S nS _ 0 _ v _ rfl hn (W.frame _ _ _ Ub fun b mb o z=>(Mz _ _ (fun w:S=b=>nS (by rw[w];exact mb))).trans z) hv (xK _ JZ rfl) fun v2 g2 Tb y1 y2=>?_⟩;exact fin v2 g2 Tb (.inr ⟨hn,y1⟩) fun b o q1 q2 z=>y2 b o q1 q2 ((Mz _ _ (Ry q2)).trans (kp b o q1 z));have n0:n=0:=Qt;refine ZM (m:=tryCatch (pyNext (.ref It)) _) (K3 (W.done t _ _ (n0 ▸ hz) fun g tk kp=>?_));exact ZM (AN (Pf (fin dv g tk (.inl ⟨n0,rfl⟩) fun b o q1 _ z=>kp b o q1 z)))
end
def mx(a b:Int):Int:=if a<b then b else a
theorem yM(ns:T1):∀k,k<ns.length->argBest (fun i j=>decide (ns.getD i 0 > ns.getD j 0)) k<=k/\ns.getD (argBest (fun i j=>decide (ns.getD i 0 > ns.getD j 0)) k) 0=((ns.drop 1).take k).foldl mx (ns.getD 0 0)
|0,_=>⟨ZS _,by simp[argBest]⟩|k+1,h=>by
 obtain⟨i1,i2⟩:=yM ns k Qt;have e:((ns.drop 1).take (k+1)).foldl mx (ns.getD 0 0)=mx (((ns.drop 1).take k).foldl mx (ns.getD 0 0)) (ns.getD (k+1) 0):=by
  rw[List.take_succ,List.foldl_append];have:(ns.drop 1)[k]?=some (ns.getD (k+1) 0):=by rw[List.getElem?_drop,show 1+k=k+1 by lia];simp[h]
  rw[this];rfl
 rw[e,<-i2];have st:argBest (fun i j=>decide (ns.getD i 0 > ns.getD j 0)) (k+1)=if decide (ns.getD (k+1) 0 > ns.getD (argBest (fun i j=>decide (ns.getD i 0 > ns.getD j 0)) k) 0)=true then k+1 else argBest (fun i j=>decide (ns.getD i 0 > ns.getD j 0)) k:=rfl
 rw[st];generalize argBest (fun i j=>decide (ns.getD i 0 > ns.getD j 0)) k=m at *;by_cases q:ns.getD (k+1) 0 > ns.getD m 0;rw[WN q,Wr rfl];exact⟨ZS _,by unfold mx;rw[Wr q]⟩;rw[Nn q,Uu (by decide)];exact⟨Qt,by unfold mx;rw[Uu q]⟩
theorem u0(i:Int)(is:T1):(i::is).getD (argBest (fun a b=>decide ((i::is).getD a 0 > (i::is).getD b 0)) ((i::is).length-1)) 0=is.foldl mx i:=by rw[(yM (i::is) ((i::is).length-1) Ro).2];simp
section
variable{pg:Program}{wd:World}{A:Around}{E:RG}{s:Shared}
theorem Jf{id:String}{b:Builtin}{args:Ul}{kw:List (Str×Value)}{Q:RG}(k0:builtinKind id=none)(p0:plainId id=true)(e0:entryFor table id=some b)(a0:argsOk id ⟨args,kw⟩)
  (go:wpAny (model pg wd) A.in1 (b ⟨args,kw⟩) (fun fin s'=>match fin with|.done f=>(match (Except.ok f:Result) with|.ok (.ret v)=>Q v s'|.ok _=>False|.error e=>E e s')|.again c'=>c'.quiet=true/\codeAny (model pg wd) A c' (fun r s'=>match r with|.ok (.ret v)=>Q v s'|.ok _=>False|.error e=>E e s') s') E s) :
  wpAny (model pg wd) A (call (.builtin id) args kw) Q E s:=by
 refine wpAny_call (codeAny_call_builtin p0 e0 ?_);simp only[checkBuiltinCall,k0];cases q:Manifest.signature? id with
 |none=>exact Pf go|some sig=>
  have h2:Bind.checkArgs id sig ⟨args,kw⟩=pure ():=by simpa only[argsOk,q] using a0
  simp only[h2];exact Pf go
theorem Az(hh:A.handled=none)(hl:s.heap.IsTuple q aI.toArray)(hi:IntsAre aI ns)
  (h:∀v h' tk,(ns=[]/\v=dv\/∃i is t,ns=i::is/\v=.int (is.foldl mx i) t)->(∀b o,s.heap.get? b=some o->h'.get? b=some o)->Q v {s with heap:=h',toks:=tk}) :
  wpAny (model pg wd) A (call (.builtin "max") [.ref q] [("default",dv)]) Q E s:=by
 refine Jf PySem.F.kind_max PySem.F.plain_max PySem.F.entry_max (Au _ _) ?_;refine ZM (m:=Builtin.Builtins.bindParams "max" ["key","default"] 0 ⟨[],[("default",dv)]⟩) (Iy (show _=pure [none,some dv] from rfl) ?_);refine ZM (Pf (ZM (GJ hl ?_)));have lt:q<s.heap.objs.size:=by obtain⟨o,e,_⟩:=hl;exact Ta e
 have vals:∀i v,aI.toArray[i]?=some v->∃t,v=Value.int (ns.getD i 0) t:=fun i v e=>by
  have e':aI[i]?=some v:=by simpa using e
  clear e h hl;induction hi generalizing i with|nil=>simp at e'|cons n t hr ih=>cases i with|zero=>simp at e';exact⟨t,by simp[<-e']⟩|succ i=>exact ih i (by simpa using e')
 have W:=Walks.tuple (prog:=pg) (w:=wd) (A:=A.in1) hh s.heap.objs.size q (Uh lt) aI.toArray;refine ZM (Eb ?_);have hsz:(s.heap.push {cls:=.type "tuple_iterator",data:=.fields #[.ref q,.int 0 0]}).objs.size=s.heap.objs.size+1:=A6 ..;rw[kq];refine Pf ⟨EG So _,xN W _ (CmpOf.ints_gt (fun i=>ns.getD i 0) vals) _ ?_ (cap:=0) ?_ ?_ fun v g tk hv kp=>?_⟩;intro hm;rw[hsz] at hm;simp at hm;rw[<-hm] at lt;exact Sx _ (Nat.lt_of_succ_lt lt);exact⟨⟨_,T2 _ (TR _ rfl),rfl,rfl⟩,(hl.push _).push _⟩;exact TR _ rfl;have Rq:aI.length=ns.length:=by clear h hl vals W hv kp;induction hi with|nil=>rfl|cons n t hr ih=>simp[ih]
 refine h v g tk ?_ fun b o e=>kp b o ?_ ?_ (T2 _ (T2 _ e));rcases hv with ⟨h0,rfl⟩|⟨h0,hv⟩
 refine .inl ⟨?_,rfl⟩;have:aI.length=0:=by simpa using h0
 exact List.length_eq_zero_iff.mp Qt;obtain⟨t,e⟩:=vals _ _ hv;cases ns with
 |nil=>simp at h0;rw[Rq] at h0;simp at h0|cons i is=>
  refine .inr ⟨i,is,t,rfl,?_⟩;rw[e,<-u0 i is];have:aI.toArray.size-1=(i::is).length-1:=by rw[<-Rq];simp
  rw[this]
 have:=Ta e;intro hm;have z:b=s.heap.objs.size:=by simpa using hm
 rw[z] at this;exact Sx _ this;have:=Ta e;intro z;rw[z,hsz] at this;exact Sx _ (Nat.lt_of_succ_lt this)
end
section
variable{X:Cx}{EX:XE}{L:Lc}{a b:Expr}{fa fb:M D}{p pos kp:Pos}
theorem Iu(hc:X.calm=true)(sy:Gl X "max")(hm:X.mg "max" = none)(hv:bootBuiltins "max" = some (.builtin "max"))(ha:PV X EX a fa)(hb:PV X EX b fb)
  (hs:Oa X a []:=by rfl)
  (he:backTo pos (starEach [a] X.env)=(false,eval a X.env)::backTo pos (starEach [] X.env):=by rfl) (hp:(backTo pos (starEach [a] X.env)).any (·.1)=false:=by rfl)
  (Vr:(backToKw pos (keywordEach [⟨some "default",b,kp⟩] X.env)).all (·.1.isSome)=true:=by rfl) (Pa:(backToKw pos (keywordEach [⟨some "default",b,kp⟩] X.env)).any (·.1.isNone)=false:=by rfl)
  (Zc:(backToKw pos (keywordEach [⟨some "default",b,kp⟩] X.env)).filterMap (·.1)=[("default" : Str)]:=by rfl) :
  PV X EX (.Call (.Name "max" p) [a] [⟨some "default",b,kp⟩] pos) (m2 nE fa fb):=by
 intro Ug s σ H Q I ⟨G,F,ρ,g0,o⟩;refine Qn (dA I sy hm hv ?_ (by decide) (by decide));refine callWith_kw (bT (cB ha fZ hs pos Ug s σ H (fun xs H1=>∃x,xs=[x]/\lift (lc X EX) (RV (lc X EX)) fb σ H1 fun y H2=>(∃q ns,x=.ref q/\dz X.K H2 q (ns.map V.int)/\Q (match ns with|[]=>y|i::is=>.int (is.foldl mx i)) H2)) I ?_) fun us s1 ⟨vs,H1,I1,r1,q1⟩=>?_) he hp Vr Pa;refine a7 g0 o (fun x r q=>q) fun F1 H1 bw d1 x s1 g1 r1 o1=>⟨x,rfl,a7 g1 o1 (fun x r q=>q.same s1) fun F2 H2 oQ d2 y s2 g2 r2 o2=>?_⟩;obtain⟨d,e,q⟩:=o2.opt;cases d1 with
  |tup ds=>simp only[nE] at e;cases e2:dm ds with|none=>rw[e2] at e;cases e|some ns=>rw[e2] at e;have Pm:=r1.same s2;obtain⟨_,_,rfl,h1,z1⟩:=Den.t Pm;have ev:=ints_of z1 e2;subst ev;refine⟨_,ns,rfl,dz.same h1 g2.sub,?_⟩;cases ns with|nil=>cases e;exact q F2 H2 y (s1.trans s2) g2 r2|cons i is=>cases e;exact q F2 H2 _ (s1.trans s2) g2 (.int _)
  |_=>simp only[nE,reduceCtorEq] at e
 obtain⟨x,rfl,lf⟩:=q1;obtain⟨u,rfl,ru⟩:=vals1 r1;refine kws_cons (bT (hb Ug s1 σ H1 _ I1 lf) fun dv s2 ⟨y,H2,I2,ry,q,ns,hx,hq,k⟩=>kws_nil ?_);subst hx;cases ru;rw[Zc];obtain⟨aI,rv,pl,_⟩:=I2.tuple hq;refine Az (I2.ok.hd hc) pl (L2.intsAre_of rv) fun v h' tk FV XY=>?_;rcases FV with ⟨rfl,rfl⟩|⟨i,is,t,rfl,rfl⟩
 exact⟨y,H2,I2.kept XY,ry,k⟩;exact⟨.int (is.foldl mx i),H2,I2.kept XY,⟨t,rfl⟩,k⟩
end
open Classical in
noncomputable def ir(F H:Hp)(σ:St)(ρ:aS):Hp:=fun a=>if ∃(i:Nat)(s:Sl),ρ[i]?=some s/\cw s=true/\σ[i]?=some (some (V.ref a)) then H a else F a
section
variable{K:Frag}{mg:MG}{G:Fx}{F F4 H H4:Hp}{σ:St}{ρ rG:aS}
theorem tf{i:Nat}{s:Sl}{a:Addr}(h:ρ[i]?=some s)(o:cw s=true)(e:σ[i]?=some (some (V.ref a))):ir F H σ ρ a=H a:=Wr ⟨i,s,h,o,e⟩
theorem j4(g:Good K mg G F H σ ρ)(a:Addr):(∃l d,a=l/\eT K mg F H l d/\F l=none/\ir F H σ ρ a=H a)\/ir F H σ ρ a=F a:=by by_cases z:∃(i:Nat)(s:Sl),ρ[i]?=some s/\cw s=true/\σ[i]?=some (some (V.ref a));refine .inl ?_;obtain⟨i,s,h1,h2,h3⟩:=id z;obtain⟨l,d,e,n,ob,_⟩:=(g.slot i s h1).own h2;rw[h3] at e;cases e;exact⟨a,d,rfl,ob,n,Wr z⟩;exact .inr (Uu z)
theorem lF(g:Good K mg G F H σ ρ):aN F (ir F H σ ρ):=fun a o e=>by
 rcases j4 g a with ⟨l,d,rfl,ob,n,q⟩|q
 rw[n] at e;cases e;rw[q];exact e
theorem Good.view(g:Good K mg G F H σ ρ):Good K mg ⟨H,ir F H σ ρ,[]⟩ (ir F H σ ρ) H σ (ρ.map bM) where
 sF:=aN.refl _
 sub:=fun a o e=>by
  rcases j4 g a with ⟨l,d,rfl,ob,n,q⟩|q
  rw[q] at e;exact e;rw[q] at e;exact g.sub _ _ e
 old:=fun a o e _=>e
 new:=fun a o e=>.inl e
 len:=by rw[uG];exact g.len
 slot:=fun i s h=>by rw[LM] at h;cases q:ρ[i]? with|none=>rw[q] at h;cases h|some t=>rw[q] at h;have e:bM t=s:=OH h;subst e;have sl:=g.slot i t q;cases t with|no=>trivial|sh d=>obtain⟨u,h1,h2⟩:=sl;exact⟨u,h1,h2.same (lF g)⟩|ow d=>obtain⟨l,h1,h2,h3,h4⟩:=sl;obtain⟨o,ho⟩:=h4.has;exact⟨_,h1,h4.den ho (lF g) (by rw[tf q rfl (join_some h1)];exact ho)⟩|io d=>obtain⟨l,h1,h2,h3,h4⟩:=sl;obtain⟨o,ho⟩:=h4.has;exact⟨_,h1,h4.den ho (lF g) (by rw[tf q rfl (join_some h1)];exact ho)⟩
 apart:=fun i j l s t h1 h2 o1=>by rw[LM] at h1;cases q:ρ[i]? with|none=>rw[q] at h1;cases h1|some t=>rw[q] at h1;have e:bM t=s:=OH h1;subst e;cases t<;>cases o1
 oE:=fun i a h=>by cases h
 oX:=fun i a b h=>by cases h
open Classical in
noncomputable def hJ(F F4 H:Hp):Hp:=fun a=>if (H a).isSome then F a else F4 a
theorem iz(h:H a=some o):hJ F F4 H a=F a:=Wr (by rw[h];rfl)
theorem mY(h:H a=none):hJ F F4 H a=F4 a:=Uu (by rw[h];simp)
theorem pS(g:Good K mg G F H σ ρ)(gv:Good K mg ⟨H,ir F H σ ρ,[]⟩ F4 H4 σ rG)(h:F4 a=some o)(n1:∀xs,o≠.lst xs)(n2:∀xs ep,o≠.dK xs ep)(n3:∀C d fs,o≠.ins C d fs):hJ F F4 H a=some o:=by
 cases q:H a with
 |none=>rw[mY q];exact h|some u=>
  rw[iz q];rcases gv.new a o h with z|z;have z':ir F H σ ρ a=some o:=z;rcases j4 g a with ⟨l,d,rfl,ob,n,e⟩|e
  rw[e] at z';cases d with|lst ds=>obtain⟨vs,h1,_⟩:=ob;rw[h1] at z';cases z';exact absurd rfl (n1 _)|hW ks ds=>obtain⟨vs,ep,h1,_⟩:=ob;rw[h1] at z';cases z';exact absurd rfl (n2 _ _)|ins c ns ds=>obtain⟨C,dx,fs,h1,_⟩:=ob;rw[h1] at z';cases z';exact absurd rfl (n3 _ _ _)|_=>exact ob.elim
  rw[<-e];exact z';have z':H a=none:=z;rw[q] at z';cases z'
theorem dz.back(g:Good K mg G F H σ ρ)(gv:Good K mg ⟨H,ir F H σ ρ,[]⟩ F4 H4 σ rG)(h:dz K F4 a xs):dz K (hJ F F4 H) a xs:=by
 rcases h with (h|⟨o,h⟩)|h
 exact .inl (.inl (pS g gv h (fun _ z=>nomatch z) (fun _ _ z=>nomatch z) fun _ _ _ z=>nomatch z));exact .inl (.inr ⟨o,pS g gv h (fun _ z=>nomatch z) (fun _ _ z=>nomatch z) fun _ _ _ z=>nomatch z⟩);exact .inr h
theorem yB{a b:Bool}(h:(a&&b)=true):a=true/\b=true:=(Jk _ _).mp h
theorem Den.back(g:Good K mg G F H σ ρ)(gv:Good K mg ⟨H,ir F H σ ρ,[]⟩ F4 H4 σ rG){v:V}{d:D}(h:Den K mg F4 v d):DU d=true->Den K mg (hJ F F4 H) v d:=Den.rec (motive_1:=fun v d _=>DU d=true->Den K mg (hJ F F4 H) v d) (motive_2:=fun vs ds _=>noLs ds=true->aM K mg (hJ F F4 H) vs ds) (fun _=>.bE) (fun b _=>.bl b) (fun i _=>.int i) (fun x _=>.str x) (fun h _ r n=>.tup (dz.back g gv h) (r n)) (fun _ _ _ n=>nomatch n) (fun _ _ _ n=>nomatch n) (fun _ _ _ _ n=>nomatch n) (fun _ _ _ _ _ n=>nomatch n) (fun _=>.nil) (fun _ _ h t n=>.cons (h (yB n).1) (t (yB n).2)) h
theorem aM.back(g:Good K mg G F H σ ρ)(gv:Good K mg ⟨H,ir F H σ ρ,[]⟩ F4 H4 σ rG){vs:OY}{ds:XW}(h:aM K mg F4 vs ds):noLs ds=true->aM K mg (hJ F F4 H) vs ds:=h.ind (P:=fun vs ds=>noLs ds=true->aM K mg (hJ F F4 H) vs ds) (fun _=>.nil) fun h _ t n=>.cons (h.back g gv (yB n).1) (t (yB n).2)
theorem Good.n5(g:Good K mg G F H σ ρ)(gv:Good K mg ⟨H,ir F H σ ρ,[]⟩ F4 H4 σ rG):aN F (hJ F F4 H)/\Good K mg G (hJ F F4 H) H4 σ ρ:=by
 have kept:∀a o,H a=some o->H4 a=some o:=fun a o e=>gv.old a o e fun i z=>by cases z
 have sF:aN F (hJ F F4 H):=fun a o e=>by rw[iz (g.sub _ _ e)];exact e
 have nF:∀{l:Addr},F l=none->(∃o,H l=some o)->hJ F F4 H l=none:=fun {l} h ⟨o,ho⟩=>by rw[iz ho];exact h
 refine⟨sF,?_⟩;exact {
  sF:=g.sF.trans sF
  sub:=fun a o e=>by cases q:H a with|none=>rw[mY q] at e;exact gv.sub _ _ e|some u=>rw[iz q] at e;exact kept _ _ (g.sub _ _ e)
  old:=fun a o e n=>kept _ _ (g.old a o e n)
  new:=fun a o e=>by cases q:H a with|none=>exact .inr (g.Bb q)|some u=>rw[iz q] at e;exact g.new a o e
  len:=g.len
  slot:=fun i s h=>(g.slot i s h).same sF (fun l _ _ f t=>nF f t) fun l o _ _ e=>kept _ _ e
  apart:=g.apart
  oE:=fun i a h=>by obtain⟨⟨o,h1⟩,h2,h3⟩:=g.oE i a h;exact⟨⟨o,kept _ _ h1⟩,nF h2 ⟨o,h1⟩,h3⟩
  oX:=g.oX}
theorem Loose.n5(g:Good K mg G F H σ ρ)(gv:Good K mg ⟨H,ir F H σ ρ,[]⟩ F4 H4 σ rG)(lo:Loose K mg ⟨H,ir F H σ ρ,[]⟩ F4 H4 σ rG l (.lst ds))(n:noLs ds=true):Loose K mg G (hJ F F4 H) H4 σ ρ l (.lst ds):=by have h0:H l=none:=lo.n0;obtain⟨vs,h1,h2⟩:=lo.ob;refine⟨by rw[mY h0];exact lo.nF,g.Bb h0,⟨vs,h1,aM.back g gv h2 n⟩,fun i s h ow e=>?_⟩;obtain⟨m,d,e1,e2,e3,_⟩:=(g.slot i s h).own ow;rw[e] at e1;cases e1;obtain⟨u,hu⟩:=e3.has;rw[h0] at hu;cases hu
end
section
variable{X:Cx}{EX:XE}{e elt tg Ut:Expr}{ifs:Wg}{pos:Pos}{it:M (List D)}{gf:D->M Unit}{ft:M Bool}{fe f:M D}{js:Ue}{scope:Scope}{N':Ph}
theorem wI(o:Out (ip f ρ) P E):Out (f (ρ.map bM)) (fun d _=>∃ds,d=.lst ds/\noLs ds=true/\P d ρ) (fun _ _=>False):=by unfold ip at o;cases q:f (ρ.map bM) with|no=>rw[q] at o;exact o.elim|exc x r=>rw[q] at o;exact o.elim|ok d r=>rw[q] at o;cases d with|lst ds=>dsimp only at o;split at o;rename_i hn;exact⟨ds,rfl,hn,o⟩;exact o.elim|_=>exact o.elim
theorem Ah(n i:Nat){y:Str}{py mB:Pos}(hN:X.N.Nodup)(hy:X.N[i]?=some y)(hx:Loc X.env.scope y)(hc:X.calm=true)(c:bR X scope N')(hn:X.N.length+n+1=N'.length)(hi:uK X EX tg Ut it)(tV:∀d r x r',gf d r≠.exc x r')(uM:∀j∈js,X.N.length<=j/\j<X.N.length+n)
  (hg:∀C s H ex,yy (bJ X scope C N' s H ex) EX tg js gf) (ht:∀C s H ex EX,BJ (bJ X scope C N' s H ex) EX ifs ft) (he:∀C s H ex EX,PV (bJ X scope C N' s H ex) EX elt fe)
  (GS:swapsWith (.ListComp elt [⟨tg,Ut,ifs,0⟩] scope pos) (some (.Name y py)) mB.line X.env=pure true:=by rfl) (hs:∀x,foldedSetIterable Ut X.env x=pure x:=by exact Ri)
  (AG:Si X y:=by exact Ig):oh X EX (.Assign [.Name y py] (.ListComp elt [⟨tg,Ut,ifs,0⟩] scope pos) mB) (fT i (ip (aQ n it gf ft fe))):=by
 intro Ug s σ H E I h;obtain⟨G,F,ρ,g0,o⟩:=h;rw[AO _ _ _ _ GS];refine ZM (RW (ZM ?_));show wpAny _ X.A (do let _ <-comprehension (.ListComp elt [⟨tg,Ut,ifs,0⟩] scope pos) scope X.env _ (newList []) false (firstIter [⟨tg,Ut,ifs,0⟩] X.env) (some (assign (.Name y py) X.env))) _ _ s;refine ZM (R3 (j9 (use:=some (assign (.Name y py) X.env)) (QQ:=fun _ s'=>SP X Ug E .next s') n hc c hn hi tV uM hg ht (xw:=fun _ _ _ _ _ _=>False) (fun C s H ex=>he C s H ex _) (fun _ _ _ _ _ _ _ _ _ _ z=>z.elim) hs I (Good.view g0) (wI (Out.Pd o)) (fun x r q=>q.elim) fun F4 H4 s5 rG d l C mm e4 g4 lo post IX GP FC=>?_) (fun _ s' hq=>Pf (Pf hq)) fun _ _ e=>e);show wpAny _ X.A (assign (.Name y py) X.env (.ref l)) _ _ s5;refine Sj (kB IX hN hy hx (v:=.ref l) rfl (fun s6 I6 zz=>?_) AG);obtain⟨a,sb,ha⟩:=zz;have QE:C≠a:=by rcases ha with rfl|ha;exact FC.2.1;exact fun z=>FC.2.2.2.2.1 _ _ ha z.symm
 obtain⟨ds,rfl,Ka,post⟩:=post;obtain⟨u1,u2⟩:=Good.n5 g0 g4;have V4:=Loose.n5 g0 g4 lo Ka;obtain⟨oQ,g2,q⟩:=qF (L:=lc X EX) u2 V4 (Out.Pd post);refine⟨mm,GP.sameBut sb QE,fun h' FT=>⟨σ.set i (some (.ref l)),H4,?_,q _ _ _ u1 g2⟩⟩;exact I6.turned (t':=s6.toks) (fun b ob hb e=>FT.extBut b ob hb e) FC.1 FC.2.1 FC.2.2.2.1 FC.2.2.2.2.1 FC.2.2.2.2.2
end
section
variable{X:Cx}{EX:XE}{e a test value:Expr}{ft:M Bool}{fe:M D}{f g:M Fl}{st:Stmt}{body rest:List Stmt}{pos p:Pos}{x fn:Str}
theorem ij{v:V}:∀{fs:List (Str×V)},(gb fn v fs).lookup fn=some v|[]=>by simp[gb]| (n,w)::fs=>by simp only[gb];split;rename_i h;simp[h];rename_i h;rw[List.lookup_cons,show (fn == n)=false from beq_false_of_ne (Ry h)];exact ij
end
section
variable{P:Program}{w:World}{K:Frag}{mg:MG}{base:Heap}
theorem uE{f g:M Fl}(h:∀r bQ,g r≠.ok .nx bQ):∀r bQ,ao f g r≠.ok .nx bQ:=fun r bQ e=>by unfold ao VP.Pd at e;cases q:f r with|no=>rw[q] at e;cases e|exc x r'=>rw[q] at e;cases e|ok k r'=>rw[q] at e;cases k with|nx=>exact h _ _ e|bk=>cases e|ct=>cases e|rt d=>cases e
end
section
variable{K:Frag}{mg:MG}{F:Hp}
theorem tL:∀{aV:List (Key×V)}{ds:XW}{k:Key}{d:D},aM K mg F (aV.map (·.2)) ds->xh (aV.map (·.1)) ds k=some d->∃v,kH aV k=some v/\Den K mg F v d|[],_,_,_,_,e=>by cases e|p::aV,d'::ds,k,d,.cons h t,e=>by rw[P6,xh] at e;by_cases c:p.1=k;rw[Wr c] at e;cases e;exact⟨p.2,wH c,h⟩;rw[Uu c] at e;obtain⟨v,h1,h2⟩:=tL t e;exact⟨v,(qT c).trans h1,h2⟩
theorem CY:∀{aV:List (Key×V)}{ds:XW}{k:Key},aM K mg F (aV.map (·.2)) ds->xh (aV.map (·.1)) ds k=none->kH aV k=none|[],_,_,_,_=>rfl|p::aV,d'::ds,k,.cons h t,e=>by rw[P6,xh] at e;by_cases c:p.1=k;rw[Wr c] at e;cases e;rw[Uu c] at e;exact(qT c).trans (CY t e)
theorem CZ{aV:List (Key×V)}{ds:XW}{k:Key}(h:aM K mg F (aV.map (·.2)) ds):(kH aV k).isSome=(xh (aV.map (·.1)) ds k).isSome:=by cases e:xh (aV.map (·.1)) ds k with|none=>rw[CY h e];rfl|some d=>obtain⟨v,h1,_⟩:=tL h e;rw[h1];rfl
theorem E0{aV:List (Key×V)}{p:Key×V}{k:Key}{v:V}(hn:¬k∈aV.map (·.1))(e:p.1=k):putK (p::aV) k v=(p.1,v)::aV:=by unfold putK;rw[Wr (by simp[e])];simp only[List.map_cons,if_pos e];congr 1;refine(List.map_congr_left fun q hq=>?_).trans (List.map_id aV);exact Uu fun(z:q.1=k)=>hn (by rw[<-z];exact CR hq)
theorem EZ{aV:List (Key×V)}{p:Key×V}{k:Key}{v:V}(e:¬p.1=k):putK (p::aV) k v=p::putK aV k v:=by unfold putK;simp only[List.any_cons,Nn e,Bool.false_or];split;simp[e];rfl
theorem yO(hx:Den K mg F v x):∀{aV:List (Key×V)}{ds:XW},(aV.map (·.1)).Nodup->aM K mg F (aV.map (·.2)) ds->(putK aV k v).map (·.1)=(xi k x (aV.map (·.1)) ds).1/\aM K mg F ((putK aV k v).map (·.2)) (xi k x (aV.map (·.1)) ds).2|[],_,_,.nil=>⟨rfl,.cons hx .nil⟩|p::aV,d::ds,hn,.cons h t=>by have DI:=List.nodup_cons.mp hn;rw[P6,xi];by_cases c:p.1=k;rw[Wr c,E0 (c ▸ DI.1) c];exact⟨rfl,.cons hx t⟩;rw[Uu c,EZ c];obtain⟨h1,h2⟩:=yO hx DI.2 t;exact⟨by rw[P6,h1],.cons h h2⟩
end
section
variable{X:Cx}{Ug:U5}{σ:St}{H:Hp}{s:Shared}{a:Addr}{aV:List (Key×V)}{ep:Nat}{k:Key}{v:V}{u r:Value}{A:Around}{E:RG}
theorem jM(I:Inv X Ug σ H s)(e:H a=some (.dK aV ep)):aV.length<=sizeLine/\(a == sysModules)=false/\∃vs,KV aV vs/\s.heap.DictAt (fL X.prog X.w) a vs ep:=show dD X.prog X.w H s.heap a (.dK aV ep) from I.cj a _ e
theorem CW(I:Inv X Ug σ H s)(e:H a=some (.dK aV ep)):(aV.map (·.1)).Nodup:=by obtain⟨_,_,vs,r,d⟩:=jM I e;have:=d.nodup;rwa [<-KV.keys r] at this
theorem Gx(I:Inv X Ug σ H s)(e:H a=some (.dK aV ep)):s.TypeIs (.ref a) "dict" /\ (∀b,Value.ref a=.ref b->∃ob,s.heap.get? b=some ob/\ob.dict=none):=by obtain⟨_,_,vs,_,d⟩:=jM I e;refine⟨d.dictOf.typeIs,fun b q=>?_⟩;cases q;obtain⟨ob,_,h1,h2,_⟩:=d;exact⟨ob,h1,h2.2.1⟩
end
section
variable{X:Cx}{EX:XE}{e a b c:Expr}{fa fb fc:M D}{pos:Pos}{ta tb tc:TE}
theorem EK(ha:PE X a ta)(hb:PE X b tb)(hs:KR b):PE X (.Subscript a b pos) (fun σ H Q=>ta σ H fun x H1=>tb σ H1 fun y H2=>∃p aV ep k v,x=.ref p/\H2 p=some (.dK aV ep)/\y=kV k/\kH aV k=some v/\Q v H2):=by intro Ug s σ H Q I h;refine Q0G PySem.F.slot_dict_getitem.lookup hs (bT (ha Ug s σ H _ I h) fun u s1 ⟨x,H1,I1,rx,q1⟩=>bT (hb Ug s1 σ H1 _ I1 q1) fun iv s2 zz=>?_);obtain⟨y,H2,I2,ry,p,aV,ep,k,v,ex,eh,ey,l,q2⟩:=zz;subst ex ey;obtain rfl:u=Value.ref p:=rx;refine⟨(Gx I2 eh).1,?_⟩;obtain⟨z,hd,vs,rel,dd⟩:=jM I2 eh;obtain⟨w',hw,SJ⟩:=kE.some_of (v:=v) (o:=valueAt vs k) (by rw[<-l];exact rel.val k);exact wpAny_getItem_of (zH ry) dd.dictOf.mapOf hw ⟨v,H2,I2.tok _,SJ,q2⟩
theorem jj(ha:PV X EX a fa)(hb:PV X EX b fb)(hs:KR b:=by exact Ny):PV X EX (.Subscript a b pos) (m2 tK fa fb):=L2.PE.le (EK ha hb hs) fun σ H Q bF=>dt bF fun G F F1 H1 bw d1 x s1 g1 r1 o1=>a7 g1 o1 (fun x r q=>q.same s1) fun F2 H2 oQ d2 y s2 g2 r2 o2=>by
 obtain⟨d,e,q⟩:=o2.opt;cases r1 with
 |hW h r=>cases r2 with|int k=>obtain⟨v,h1,h2⟩:=tL (r.same s2) e;exact⟨_,_,_,.inl k,v,rfl,g2.sub _ _ (s2 _ _ h),rfl,h1,q F2 H2 v (s1.trans s2) g2 h2⟩|_=>cases e
 |_=>cases e
theorem HL{neg:Bool}(ha:PE X a ta)(hb:PE X b tb):PC X (if neg then .NotIn else .In) a b (fun σ H Q=>ta σ H fun y H1=>tb σ H1 fun x H2=>∃p aV ep k,x=.ref p/\H2 p=some (.dK aV ep)/\y=kV k/\Q (.bl (if neg then !(kH aV k).isSome else(kH aV k).isSome)) H2):=by intro Ug s σ H Q I h;refine bT (ha Ug s σ H _ I h) fun iv s1 ⟨y,H1,I1,ry,q1⟩=>bT (hb Ug s1 σ H1 _ I1 q1) fun u s2 zz=>?_;obtain⟨x,H2,I2,rx,p,aV,ep,k,ex,eh,ey,q2⟩:=zz;subst ex ey;obtain rfl:u=Value.ref p:=rx;obtain⟨z,hd,vs,rel,dd⟩:=jM I2 eh;cases neg with|false=>refine wpAny_in_of (zH ry) hd dd.dictOf.mapOf ?_;rw[<-(rel.val k).isSome_eq];exact⟨.bl (kH aV k).isSome,H2,I2.tok _,rfl,q2⟩|true=>refine wpAny_notIn_of (zH ry) hd dd.dictOf.mapOf ?_;rw[<-(rel.val k).isSome_eq];exact⟨.bl (!(kH aV k).isSome),H2,I2.tok _,rfl,q2⟩
theorem Rc(σ:St)(H:Hp)(Q:VK)(h:lift (lc X EX) (RV (lc X EX)) (m2 (AB neg) fa fb) σ H Q):lift (lc X EX) (RV (lc X EX)) fa σ H fun y H1=>lift (lc X EX) (RV (lc X EX)) fb σ H1 fun x H2=>∃p aV ep k,x=.ref p/\H2 p=some (.dK aV ep)/\y=kV k/\Q (.bl (if neg then !(kH aV k).isSome else(kH aV k).isSome)) H2:=by
 obtain⟨G,F,ρ,g0,o⟩:=h;refine a7 g0 o (fun x r q=>q) fun F1 H1 bw d1 x s1 g1 r1 o1=>a7 g1 o1 (fun x r q=>q.same s1) fun F2 H2 oQ d2 y s2 g2 r2 o2=>?_;obtain⟨d,e,q⟩:=o2.opt;cases r1 with
  |int k=>cases r2 with|hW h r=>cases e;refine⟨_,_,_,.inl k,rfl,g2.sub _ _ h,rfl,q F2 H2 _ (s1.trans s2) g2 ?_⟩;rw[CZ r];exact .bl _|_=>cases e
  |_=>cases e
theorem Q2H(ha:PV X EX a fa)(hb:PV X EX b fb)(hm:behindInMarks .NotIn b=false:=by rfl):PB X EX (.Compare a [.NotIn] [b] pos) (tB (m2 (AB true) fa fb)):=KA (NZ (HL (neg:=true) ha hb) hm) (fun _ _ _ h=>h) Rc
theorem uq:PF X EX (.Dict [] [] pos) (mC (.hW [] [])):=fun Ug s σ H Q I zz=>by obtain⟨G,F,ρ,g,o⟩:=zz;have hp:=I.cj.fresh (ZS s.heap.objs.size);have dd:(s.heap.push {cls:=.type "dict",data:=.dict #[]}).DictAt (fL X.prog X.w) s.heap.objs.size [] 0:=⟨_,_,TR _ rfl,⟨rfl,rfl,rfl⟩,rfl,fun _ h=>(by simp at h),.nil,Ro⟩;have ob:dD X.prog X.w H (s.heap.push {cls:=.type "dict",data:=.dict #[]}) s.heap.objs.size (.dK [] 0):=⟨ER _,beq_eq_false_iff_ne.mpr (Ry (Uh I.big)),[],.nil,dd⟩;exact wpAny_Dict_empty ⟨.ref s.heap.objs.size,_,I.laid (a:=s.heap.objs.size) (o:=.dK [] 0) (t':=s.toks) (fun _ _ q=>T2 _ q) (ZS _) ob,rfl,o F _ _ (aN.refl _) (g.made hp) ⟨_,rfl,g.loose hp ⟨[],0,aO,rfl,.nil⟩⟩⟩
end
def UK(a:Addr)(aV:List (Key×V))(ep:Nat):It:=⟨fun i H=>H a=some (.dK aV ep)/\i<aV.length,fun i H x H'=>H'=H/\∃p,aV[i]?=some p/\x=kV p.1,fun i H=>H a=some (.dK aV ep)/\i=aV.length⟩
theorem Rk(h:(fL P w).is k u=true):RelV (kV k) u:=by
 rcases bX (k:=k) (v:=u) h with ⟨i,t,rfl,rfl⟩|⟨x,t,rfl,rfl⟩
 exact⟨t,rfl⟩;exact⟨t,rfl⟩
theorem Bx{P:Program}{w:World}{K:Frag}{tg:Expr}(a it:Addr)(aV:List (Key×V))(ep:Nat):Turn P w K tg (UK a aV ep) [it] it (fun i h=>h.IsKeyIter it a i aV.length ep) where
 mem:=Ro
 obj:=fun i h st b hb=>by
  have e:b=it:=by simpa using hb
  subst e;obtain⟨o,e,c,d⟩:=st;exact⟨o,e,fun v z=>by rw[d] at z;cases z⟩
 keep:=fun i h h' st k=>st.at fun o e=>k it Ro o e
 item:=by
  intro X hP hw hK hc i Ug s σ H E I hf st hg;subst hP hw hK;obtain⟨eh,hi⟩:=hg;obtain⟨z,hd,vs,rel,dd⟩:=jM I eh;have hl:aV.length=vs.length:=Ti rel;obtain⟨f0,f1,f2,f3,f4,f5⟩:=hf it Ro;obtain⟨⟨k,x⟩,hx⟩:∃p,vs[i]?=some p:=⟨_,Nc Qt⟩;have hk:aV[i]?=some aV[i]:=Nc hi;have Ze:aV[i].1=k:=by have h1:=congrArg (fun l=>l[i]?) (KV.keys rel);simp only[List.getElem?_map,hk,hx,Option.map_some] at h1;exact OH h1
  rw[hl] at st;refine wpAny_pyNext_dict_item st dd hx fun key h' DE mD sb=>?_;have I1:Inv X Ug σ H {s with heap:=h'}:=I.turned (t':=s.toks) (fun b o hb e=>(sb.2 b hb).trans e) f0 f1 f3 f4 f5;obtain⟨o,e,c,d⟩:=id mD;rw[<-hl] at mD;exact⟨key,rfl,sv (s:={s with heap:=h'}) e c d (by decide) ⟨kV k,H,I1,Rk DE,⟨rfl,_,hk,by rw[Ze]⟩,mD,fun b hb=>(hf b hb).1⟩⟩
 done:=by intro X hP hw hK hc i Ug s σ H E I hf st hg;subst hP hw hK;obtain⟨eh,hi⟩:=hg;obtain⟨z,hd,vs,rel,dd⟩:=jM I eh;have hl:aV.length=vs.length:=Ti rel;obtain⟨f0,f1,f2,f3,f4,f5⟩:=hf it Ro;rw[hl] at st hi;exact wpAny_pyNext_dict_end (I.ok.hd hc) st dd (by simp[hi]) fun h' eb=>⟨rfl,I.turned (t':=s.toks) (fun b o hb e=>eb b o hb e) f0 f1 f3 f4 f5⟩
 self:=fun _ _ _ _ _ st h=>wpAny_pyIter_keyiter st h
section
variable{X:Cx}{EX:XE}{L:Lc}{e a b c tg:Expr}{fa fb fe:M D}{pos:Pos}
theorem Ia{l:Expr}{tl:TE}(hl:PE X l tl):PI X tg l (fun σ H R=>tl σ H fun x H1=>∃a aV ep,x=.ref a/\H1 a=some (.dK aV ep)/\R (UK a aV ep) H1):=by
 intro Ug s σ H R I h;refine bT (hl Ug s σ H _ I h) fun v s1 zz=>?_;obtain⟨x,H1,I1,r1,a,aV,ep,e,eh,q⟩:=zz;subst e;cases r1;obtain⟨z,hd,vs,rel,dd⟩:=jM I1 eh;have hl:aV.length=vs.length:=Ti rel;refine wpAny_pyIter_dict hd dd ?_;refine⟨s1.heap.objs.size,[s1.heap.objs.size],_,_,H1,rfl,I1.kept (t':=s1.toks) fun b o e=>T2 _ e,Bx a _ aV ep,⟨_,TR _ rfl,rfl,by rw[hl];rfl⟩,fun b hb=>?_,q⟩;have e:b=s1.heap.objs.size:=by simpa using hb
 subst e;exact I1.qf (ZS _) (I1.cj.fresh (ZS _))
theorem Ha{K:Frag}{mg:MG}{F:Hp}(k:Key):Den K mg F (kV k) (D0 k):=by cases k with|inl i=>exact .int i|inr x=>exact .str x
theorem Q1q{G:Fx}{F:Hp}{a:Addr}{aV:List (Key×V)}{ep:Nat}(h:F a=some (.dK aV ep)):FK L G F (UK a aV ep) ((aV.map (·.1)).map D0):=fun σ i F' H' ρ s g=>by have h':=g.sub _ _ (s _ _ h);refine⟨fun hi=>⟨h',by simpa using hi⟩,fun hi=>⟨h',by simpa using hi⟩,fun x FJ zz=>?_⟩;obtain⟨e,p,hp,hx⟩:=zz;subst e;refine⟨F',aN.refl _,g,fun d hd=>?_⟩;rw[LM,LM,hp] at hd;have:D0 p.1=d:=OH hd;subst this;rw[hx];exact Ha p.1
theorem Jr(h:PV X EX e fe):uK X EX tg e (vP fe):=L2.PI.le (Ia h) fun σ H Q bF=>dt bF fun G F F1 H1 bw d1 y s1 g1 r1 o1=>by obtain⟨ds,e,q⟩:=o1.opt;cases r1 with|hW h r=>cases e;exact⟨_,_,_,rfl,g1.sub _ _ h,q F1 H1 _ s1 g1 (Q1q h)⟩|_=>cases e
end
section
variable{X:Cx}{EX:XE}{L:Lc}{e a b c value:Expr}{fa fb fe fk fv:M D}{pos:Pos}{x:Str}{to ti tv:TE}
theorem ET(ho:PE X o to)(hi:PE X i ti)(hv:PE X value tv)(hs:swapsWith value (some (.Subscript o i V6)) pos.line X.env=pure false) : PS X (.Assign [.Subscript o i V6] value pos) (fun D σ H=>tv σ H fun v H1=>to σ H1 fun x H2=>ti σ H2 fun y H3=>∃a aV ep k,x=.ref a/\H3 a=some (.dK aV ep)/\y=kV k/\aV.length<sizeLine/\((aV.map (·.1)).Nodup->∀p7,D.nx σ (upd H3 a (.dK (putK aV k v) p7)))):=by
 intro Ug s σ H D I h;refine wpAny_Assign_Subscript (bT (hv Ug s σ H _ I h) fun r s1 ⟨v,H1,I1,rv,q1⟩=>bT (ho Ug s1 σ H1 _ I1 q1) fun u s2 ⟨x,H2,I2,rx,q2⟩=>bT (hi Ug s2 σ H2 _ I2 q2) fun iv s3 zz=>?_) hs;obtain⟨y,H3,I3,ry,a,aV,ep,k,ex,eh,ey,hl,q3⟩:=zz;subst ex ey;obtain rfl:u=Value.ref a:=rx;obtain⟨z,hd,vs,rel,dd⟩:=jM I3 eh;have hz:vs.length<=sizeLine:=by rw[<-rel.length];exact z
 have hl:(putK aV k v).length<=sizeLine:=by have:=vO aV k v;lia
 refine wpAny_setItem_pairs (hsz:=hz) (zH ry) dd.dictOf fun h' U0 hs=>?_;obtain⟨p7,da⟩:=U0.dictAt;have he:∃q,h'.get? a=some q:=let ⟨q,_,hq,_⟩:=da;⟨q,hq⟩;refine⟨σ,_,I3.write (x:=a) (e:=a) (by rw[eh];exact True.intro) (.inl rfl) (fun b q hb z=>(hs.2 b hb).trans z) he (o:=.dK (putK aV k v) p7) ⟨hl,hd,_,rel.put k rv,da⟩,q3 (CW I3 eh) p7⟩
theorem Q09{G:Fx}{F H:Hp}{σ:St}{ρ:aS}{k:Nat}{kd x:D}{v:V}{P:Unit->aS->Prop}{E:Xn->aS->Prop}(g:L.Good G F H σ ρ)(r:Den L.K L.mg F v x)(o:Out (fR k (putD kd x) ρ) P E) : ∃l aV ep i bQ,kd=.int i/\σ[k]?=some (some (V.ref l))/\H l=some (.dK aV ep)/\aV.length<sizeLine/\((aV.map (·.1)).Nodup->∀p7,L.Good G F (upd H l (.dK (putK aV (.inl i) v) p7)) σ bQ)/\P () bQ:=by
 unfold fR at o;cases q:own ρ[k]? with
 |none=>rw[q] at o;exact o.elim|some d=>
  rw[q] at o;dsimp only at o;cases q2:putD kd x d with
  |none=>rw[q2] at o;exact o.elim|some d'=>
   rw[q2] at o;have o':P () (cL k d' ρ):=o;cases d with
   |hW ks vs=>
    cases kd with
    |int i=>
     simp only[putD] at q2;split at q2;rename_i oB;cases q2;cases q3:ρ[k]? with
     |none=>rw[q3] at q;cases q|some s=>
      rw[q3] at q;have sl:=g.slot k s q3;have fin:∀l s',σ[k]?=some (some (V.ref l))->cw s=true->eT L.K L.mg F H l (.hW ks vs)->((∃e,s=.ow e/\s'=.ow (.hW (xi (.inl i) x ks vs).1 (xi (.inl i) x ks vs).2))\/(∃e,s=.io e/\s'=.io (.hW (xi (.inl i) x ks vs).1 (xi (.inl i) x ks vs).2)))->cL k (.hW (xi (.inl i) x ks vs).1 (xi (.inl i) x ks vs).2) ρ=ρ.set k s'->∃l aV ep i' bQ,D.int i=.int i'/\σ[k]?=some (some (V.ref l))/\H l=some (.dK aV ep)/\aV.length<sizeLine/\((aV.map (·.1)).Nodup->∀p7,L.Good G F (upd H l (.dK (putK aV (.inl i') v) p7)) σ bQ)/\P () bQ:=fun l s' z1 z2 z3 z4 z5=>by
       obtain⟨aV,ep,y1,y2,y3⟩:=z3;refine⟨l,aV,ep,i,ρ.set k s',rfl,z1,y1,?_,fun hn p7=>?_,by rw[<-z5];exact o'⟩;have:aV.length=ks.length:=by rw[<-y2];simp
       exact G2 Qt (show 1000<sizeLine by decide);subst y2;obtain⟨h1,h2⟩:=yO r (k:=.inl i) hn y3;exact Good.write g q3 z2 z1 z4 ⟨_,p7,aO,h1,h2⟩
      cases s with|no=>cases q|sh e=>cases q|ow e=>cases q;obtain⟨l,z1,z2,z3,z4⟩:=sl;exact fin l _ (join_some z1) rfl z4 (.inl ⟨_,rfl,rfl⟩) (by unfold cL;rw[q3])|io e=>cases q;obtain⟨l,z1,z2,z3,z4⟩:=sl;exact fin l _ (join_some z1) rfl z4 (.inr ⟨_,rfl,rfl⟩) (by unfold cL;rw[q3])
     cases q2
    |_=>cases q2
   |_=>cases q2
theorem pN(i:Nat){p1 p2:Pos}(hk:PV X EX b fk)(hv:PV X EX value fv)(hN:X.N[i]?=some x:=by rfl)(LU:yz X.env.scope x:=by exact wg)(hd:WL x:=by decide)(kO:Le x:=by decide) (hs:swapsWith value (some (.Subscript (.Name x p1) b p2)) pos.line X.env=pure false:=by rfl):oh X EX (.Assign [.Subscript (.Name x p1) b p2] value pos) (sT i fk fv):=
 L2.PS.le (ET (iw hN LU hd kO) hk hv hs) fun E σ H bF=>xF bF fun G F ρ g0 o=>a7 g0 o (fun x r q=>q.x) fun F1 H1 bw d1 v s1 g1 r1 o1=>by by_cases hl:(own bw[i]?).isSome=true;rw[Wr hl] at o1;obtain⟨l,d0,z1,_,_⟩:=mq (L:=lc X EX) g1 hl;refine⟨_,z1,a7 g1 o1 (fun x r q=>(q.same s1).x) fun F2 H2 oQ d2 y s2 g2 r2 o2=>?_⟩;obtain⟨l',aV,ep,k,bQ,y0,y1,y2,y3,g3,q⟩:=Q09 (L:=lc X EX) g2 (r1.same s2) (Out.Pd o2);rw[z1] at y1;cases y1;subst y0;obtain rfl:=Den.i r2;exact⟨l,aV,ep,.inl k,rfl,y2,rfl,y3,fun hn p7=>q F2 _ σ (s1.trans s2) (g3 hn p7)⟩;rw[Uu hl] at o1;exact o1.elim
theorem xc:d6 X (.type "dict") (fun xs H Q=>∃a aV ep,xs=[V.ref a]/\H a=some (.dK aV ep)/\∀p p7,H p=none->Q (.ref p) (upd H p (.dK aV p7))):=by intro Ug s σ H xs us Q I rs h;obtain⟨a,aV,ep,rfl,e,q⟩:=h;obtain⟨u,rfl,ru⟩:=vals1 rs;cases ru;obtain⟨z,hd,vs,rel,dd⟩:=jM I e;refine kt_call_dict hd dd.dictOf (by rw[<-rel.length];exact z) fun h' U0 hs=>?_;obtain⟨p7,da⟩:=U0.dictAt;refine⟨.ref s.heap.objs.size,_,I.laid (a:=s.heap.objs.size) (o:=.dK aV p7) (t':=s.toks) (fun b q hq=>?_) (ZS _) ⟨z,beq_eq_false_iff_ne.mpr (Ry (Uh I.big)),vs,rel,da⟩,rfl,q _ p7 (I.cj.fresh (ZS _))⟩;exact(hs.2 b (Uh (Ta hq))).trans (T2 _ hq)
theorem HV{x:Str}{p:Pos}(sy:Gl X x)(hm:X.mg x=none)(hv:bootBuiltins x=some (.type "dict"))(ha:PV X EX a fa)(hn:x≠"__name__" := by decide)(jz:WL x:=by decide)(hs:Oa X a []:=by rfl):PF X EX (.Call (.Name x p) [a] [] pos) (m1 CV fa):=
 L2.PE.le (kx xc sy hm hv (lz (PV.rd ha) hs) hn jz hs rfl) fun σ H Q bF=>dt bF fun G F F1 H1 bw d1 x s1 g1 r1 o1=>by
  obtain⟨d,e,q⟩:=o1.opt;have z:∃l aV ep ds,x=.ref l/\d1=.hW (aV.map (·.1)) ds/\H1 l=some (.dK aV ep)/\aM X.K X.mg F1 (aV.map (·.2)) ds:=by
   rcases r1 with r1|⟨l,rfl,ob⟩;cases r1 with|hW h r=>exact⟨_,_,_,_,rfl,rfl,g1.sub _ _ h,r⟩|_=>cases e
   cases d1 with|hW ks ds=>obtain⟨aV,ep,h1,rfl,h3⟩:=ob;exact⟨l,aV,ep,ds,rfl,rfl,h1,h3⟩|_=>cases e
  obtain⟨l,aV,ep,ds,rfl,rfl,h1,h2⟩:=z;cases e;exact⟨l,aV,ep,rfl,h1,fun p p7 hl=>q _ _ _ s1 (g1.made hl) ⟨p,rfl,g1.loose hl ⟨aV,p7,aO,rfl,h2⟩⟩⟩
theorem Ip{x:Str}{p:Pos}(sy:Gl X x)(hm:X.mg x=none)(hv:bootBuiltins x=some (.type "dict"))(ha:PV X EX a fa)(hn:x≠"__name__" := by decide)(jz:WL x:=by decide)(hs:Oa X a []:=by rfl):PV X EX (.Call (.Name x p) [a] [] pos) (m1 CV fa):=PF.pv (HV sy hm hv ha hn jz hs)
theorem boot_dict:bootBuiltins "dict" = some (.type "dict"):=by kernel_rfl
end
section
variable{X:Cx}{EX:XE}{L:Lc}{e a b c:Expr}{fa fb:M D}{pos:Pos}
abbrev TM(v a:Addr):HO:=.ext fun h=>h.IsValuesView v a
theorem A8:UO X "dict.values" (fun x xs H Q=>∃a aV ep,x=.ref a/\xs=[]/\H a=some (.dK aV ep)/\∀v,H v=none->Q (.ref v) (upd H v (TM v a))):=by intro Ug s σ H x xs v us Q I rx rs h;obtain⟨a,aV,ep,rfl,rfl,e,q⟩:=h;cases rx;have Zt:=rs.zero;subst Zt;obtain⟨z,hd,vs,rel,dd⟩:=jM I e;refine call_meetsIn PySem.F.slot_dict_values dd.dictOf.typeIs PySem.F.entry_dict_values (PySem.F.args_dict_values_1 _) (meets_dict_values (fL X.prog X.w) a hd) ⟨⟨_,dd.dictOf⟩,?_⟩;have vw:(s.heap.push {cls:=.type "dict_values",data:=.fields #[.ref a]}).IsValuesView s.heap.objs.size a:=⟨_,TR _ rfl,rfl,rfl⟩;exact⟨.ref s.heap.objs.size,_,I.laid (a:=s.heap.objs.size) (o:=TM s.heap.objs.size a) (t':=s.toks) (fun _ _ q=>T2 _ q) (ZS _) ⟨vw,⟨_,TR _ rfl⟩,fun h1 h2 ⟨o,ho,r⟩ k=>⟨o,k _ ho,r⟩⟩,rfl,q _ (I.cj.fresh (ZS _))⟩
theorem sJ{α β:Type}{F:α->β->Prop}:∀{Ec:List α}{Ed:List β}{j:Nat}{p:α}{q:β},Paired F Ec Ed->Ec[j]?=some p->Ed[j]?=some q->F p q|_,_,0,_,_,.cons h _,e1,e2=>by simp at e1 e2;subst e1 e2;exact h|_,_,j+1,_,_,.cons _ t,e1,e2=>sJ (j:=j) t (by simpa using e1) (by simpa using e2)|_,_,j,_,_,.nil,e1,_=>by simp at e1
theorem Q29(hc:X.calm=true):d6 X (.builtin "max") (fun xs H Q=>∃v a aV ep i is,xs=[V.ref v]/\H v=some (TM v a)/\H a=some (.dK aV ep)/\aV.map (·.2)=(i::is).map V.int/\Q (.int (is.foldl mx i)) H):=by
 intro Ug s σ H xs us Q I rs h;obtain⟨v,a,aV,ep,i,is,rfl,ev,ea,hk,q⟩:=h;obtain⟨u,rfl,ru⟩:=vals1 rs;cases ru;obtain⟨vw,_,_⟩:=(show dD X.prog X.w H s.heap v (TM v a) from I.cj v _ ev);obtain⟨z,hd,vs,rel,dd⟩:=jM I ea;have hl:aV.length=vs.length:=Ti rel;have J9:aV.length=is.length+1:=by have:=congrArg List.length hk;simpa using this
 have lt:a<s.heap.objs.size:=dd.lt_size;have vals:∀j w,(∃k,vs[j]?=some (k,w))->∃t,w=Value.int ((i::is).getD j 0) t:=fun j w ⟨k,hj⟩=>by
  have Vq:=(List.getElem?_eq_some_iff.mp hj).1;obtain⟨p,hp⟩:∃p,aV[j]?=some p:=⟨_,Nc Qt⟩;have hr:=sJ rel hp hj;have e2:=congrArg (fun l=>l[j]?) hk;simp only[List.getElem?_map,hp,Option.map_some] at e2;have e3:p.2=V.int ((i::is).getD j 0):=by
   have Xu:j<(i::is).length:=by simp;lia
   rw[Nc Xu] at e2;have:=OH e2;rw[this];simp[Jl,Nc Xu]
  have Kb:=hr.2;rw[e3] at Kb;exact Kb
 refine call_max_walk (wpAny_pyIter_values vw dd ?_);refine⟨s.heap.objs.size,_,_,_,_,_,_,rfl,Walks.dictValues (A:=X.A.in1) (knd:=fL X.prog X.w) (I.ok.hd hc) s.heap.objs.size a (Uh lt) vs ep,⟨⟨_,TR _ rfl,rfl,rfl⟩,dd.push _⟩,fun b hb=>?_,Qt,CmpOf.ints_gt (fun j=>(i::is).getD j 0) vals,fun w h' tk hw kp=>?_⟩;rw[A6];simp at hb;rcases hb with rfl|rfl;exact By _;exact Ht lt;obtain⟨t,e⟩:=vals _ _ hw;refine⟨.int (is.foldl mx i),H,I.kept fun b o e=>kp b o (fun hm=>?_) (T2 _ e),⟨t,?_⟩,q⟩;have:=Ta e;have zb:b=s.heap.objs.size:=by simpa using hm
 rw[zb] at this;exact Sx _ this;rw[e,<-u0 i is,show vs.length-1=(i::is).length-1 by simp;lia]
theorem Ir{p ap cp:Pos}(hc:X.calm=true)(sy:Gl X "max")(hm:X.mg "max" = none)(hv:bootBuiltins "max" = some (.builtin "max"))(ha:PV X EX a fa)
  (hb:attributeBase a "values" X.env (eval a X.env)=eval a X.env:=by rfl) (vI:(ap.endLine == cp.line)=true:=by rfl)
  (hs:starEach [.Call (.Attribute a "values" ap) [] [] cp] X.env=(false,eval (.Call (.Attribute a "values" ap) [] [] cp) X.env)::starEach [] X.env:=by rfl) :
  PV X EX (.Call (.Name "max" p) [.Call (.Attribute a "values" ap) [] [] cp] [] pos) (m1 oH fa):=
 L2.PE.le (jU (Q29 hc) sy hm hv (cB (NJ PySem.F.plainAttrs_dict PySem.F.slot_dict_values PySem.F.type_dict_values A8 ha hb vI) fZ hs) (by decide) (by decide) hs rfl) fun σ H Q bF=>dt bF fun G F F1 H1 bw d1 x s1 g1 r1 o1=>by obtain⟨d,e,q⟩:=o1.opt;cases r1 with|@hW p0 aV ep ds h r=>simp only[oH] at e;split at e;rename_i i is hi;cases e;have ev:=ints_of r hi;have h1:=g1.sub _ _ h;refine⟨.inr (.inr (.inl ⟨rfl,.inl ⟨_,_,h1⟩⟩)),p0,aV,ep,rfl,rfl,h1,fun v hv=>⟨v,p0,aV,ep,i,is,rfl,aO,?_,ev,q F1 _ _ s1 (g1.made hv) (.int _)⟩⟩;rw[aU (bB h1 hv)];exact h1;cases e|_=>cases e
end
section
variable{X:Cx}{EX:XE}{L:Lc}{e a b:Expr}{fa fb fe:M D}{pos p:Pos}{c1 c2:Str}
structure PJ(K:Frag)(mg:MG)(c1 c2:Str)(subs:Nx):Prop where
 sp:W.specialIn K (.builtin "object.__class__") "__get__" = some (some (.builtin "getset_descriptor.__get__"))
 tk:W.takesIn K (.builtin "object.__class__")=some true
 ex:∃C1 C2,mg c1=some (.ref C1)/\mg c2=some (.ref C2)/\∀p∈subs,∃D,mg p.1=some (.ref D)/\Al K D/\W.kitAny K (.ref D) [.ref C1,.ref C2]=some p.2
theorem Ax(sp:W.specialIn X.K (.builtin "object.__class__") "__get__" = some (some (.builtin "getset_descriptor.__get__")))(tk:W.takesIn X.K (.builtin "object.__class__")=some true) : d6 X (.builtin "isinstance") (fun xs H Q=>∃q t D dx fs b,xs=[.ref q,.ref t]/\H q=some (.ins D dx fs)/\H t=some (.tup [.ref C1,.ref C2])/\Al X.K D/\W.kitAny X.K (.ref D) [.ref C1,.ref C2]=some b/\Q (.bl b) H):=by
 intro Ug s σ H xs us Q I r h;obtain⟨q,t,D,dx,fs,b,rfl,hq,ht,f,hb,k⟩:=h;obtain⟨u,v,rfl,ru,rv⟩:=vals2 r;cases ru;cases rv;obtain⟨h1,h2,h3,h4,mA,h5,h6⟩:=(show dD X.prog X.w H s.heap q (.ins D dx fs) from I.cj q _ hq);obtain⟨od,Vx⟩:=(show ∃o,s.heap.get? dx=some o from I.cj dx _ h1);obtain⟨_,aI,rv,⟨o,ho,hc,⟨n,T7⟩,hdd⟩⟩:=(show dD X.prog X.w H s.heap t (.tup [.ref C1,.ref C2]) from I.cj t _ ht);obtain⟨u1,u2,rfl,r1,r2⟩:=vals2 rv;cases r1;cases r2;have eo:o=⟨.type "tuple",o.dict,.seq [Value.ref C1,.ref C2].toArray n,o.slots⟩:=by rw[<-hc,<-T7]
 rw[eo] at ho;exact W.kia_tup (W.kitx_own f.pg f.hd f.fi sp tk f.mr) I.rk ⟨h4,rfl,rfl,Vx⟩ ho hb (fun z=>nomatch z) fun tk=>⟨.bl b,H,I.tok tk,rfl,k⟩
theorem Iq{subs:Nx}{p1 p2 p3:Pos}{x1}(T:PJ X.K X.mg c1 c2 subs)(hg:Gl X "isinstance")(hm:X.mg "isinstance" = none)(ha:PR X EX a fa)(Y5:Gl X c1:=by rfl)(Y6:Gl X c2:=by rfl)(T6:WL c1:=by decide)(hd2:WL c2:=by decide)
  (hs:starEach [a,.Tuple [.Name c1 p1,.Name c2 p2] x1 p3] X.env=(false,eval a X.env)::starEach [.Tuple [.Name c1 p1,.Name c2 p2] x1 p3] X.env:=by rfl)
  (iM:starEach [.Tuple [.Name c1 p1,.Name c2 p2] x1 p3] X.env=(false,eval (.Tuple [.Name c1 p1,.Name c2 p2] x1 p3) X.env)::starEach [] X.env:=by rfl)
  (VE:starEach [.Name c1 p1,.Name c2 p2] X.env=(false,eval (.Name c1 p1) X.env)::starEach [.Name c2 p2] X.env:=by rfl) (Zo:starEach [.Name c2 p2] X.env=(false,eval (.Name c2 p2) X.env)::starEach [] X.env:=by rfl)
  (jA:(backTo pos (starEach [.Tuple [.Name c1 p1,.Name c2 p2] x1 p3] X.env)).any (·.1)=false:=by rfl) :
  PV X EX (.Call (.Name "isinstance" p) [a,.Tuple [.Name c1 p1,.Name c2 p2] x1 p3] [] pos) (m1 (a9 subs) fa):=by
 obtain⟨C1,C2,YJ,YK,DK⟩:=T.ex;exact L2.PE.le (jU (Ax (C1:=C1) (C2:=C2) T.sp T.tk) hg hm boot_isinstance (cB ha (cB (EN (cB (ky (v:=.ref C1) Y5 YJ rfl T6) (cB (ky (v:=.ref C2) Y6 YK rfl hd2) fZ Zo) VE)) fZ iM) hs) (by decide) (by decide) hs jA) fun σ H Q bF=>dt bF fun G F F1 H1 bw d1 x s1 g1 r1 o1=>by
  obtain⟨d,e,q⟩:=o1.opt;refine⟨show (2:Nat)<=sizeLine by decide,fun t ht=>?_⟩;cases d1 with
  |ins c' ns vs=>
   simp only[a9] at e;cases e1:subs.lookup c' with
   |none=>rw[e1] at e;cases e|some b=>
    rw[e1] at e;cases e;obtain⟨D,hD,f,hb⟩:=DK (c',b) (GI e1);rcases r1 with r1|⟨l,rfl,D',dx,fs,z1,z2,z3,z4⟩;cases r1 with|ins h hc r=>rw[show (lc X EX).mg c'=some (.ref D) from hD] at hc;cases hc;have h1:=g1.sub _ _ h;exact⟨_,t,D,_,_,b,rfl,by rw[aU (bB h1 ht)];exact h1,aO,f,hb,q F1 _ _ s1 (g1.made ht) (.bl _)⟩
    rw[show (lc X EX).mg c'=some (.ref D) from hD] at z2;cases z2;exact⟨_,t,D,_,_,b,rfl,by rw[aU (bB z1 ht)];exact z1,aO,f,hb,q F1 _ _ s1 (g1.made ht) (.bl _)⟩
  |_=>cases e
end
structure Pu(K:Frag)(mg:MG)(c m:Str)(C f:Addr):Prop where
 mg:mg c=some (.ref C)
 sp:W.specialIn K (.ref C) "__getattribute__" = some (some (.builtin "type.__getattribute__"))
 rd:W.readsIn K C (.type "type")=true
 fi:W.findCls K (.ref C) (.type "type") m=some (.val (.ref f))
 kp:W.keepIn K (.ref f)=true
section
variable{X:Cx}{EX:XE}{e:Expr}{es:Wg}{as:List VP.Arg}{pos p V7:Pos}{CX:uP}{k:Nat}{C fA:Addr}{fd:FuncData}{ps:Ph}{c m:Str}{fl:Ur}{fs:Fn}
theorem Im{pl:Sem Bool}(B:Pu X.K X.mg c m C fA)(F:dC X.prog X.w X.K X.mg X.base CX k fA fd ps (ph X.K X.mg fl fs))(hr:cH k X.A)(hb:Binds X.K fd ps [])(hx:fM CX X EX)(ha:yw X EX (e::es) as)(hg:Gl X c:=by rfl)(vG:as.map VP.Arg.isIo=fl:=by rfl)
  (jz:WL c:=by decide) (jB:Oa X e es:=by rfl) (jA:Lg X pos es:=by rfl)
  (ht:eval (.Call (.Attribute (.Name c p) m V7) (e::es) [] pos) X.env=(do
   let ov <-eval (.Name c p) X.env
   standAt V7.atName
   let (f,first) <-holding [ov] (getMethod ov m pl)
   callWith pos f first (backTo pos (starEach (e::es) X.env)) (backToKw pos (keywordEach [] X.env))):=by rfl) :
  PV X EX (.Call (.Attribute (.Name c p) m V7) (e::es) [] pos) (az fs as):=by
 intro Ug s σ H Q I h;obtain⟨G,F0,ρ,g0,o⟩:=h;refine W.methodCall_KW (pl:=pl) (bT (ky (v:=.ref C) hg B.mg rfl jz Ug s σ H (fun x H1=>x=.ref C/\H1=H) I ⟨rfl,rfl⟩) fun u s1 zz=>?_) ht;obtain⟨y,H1,I1,ry,hy,hH⟩:=zz;subst hy hH;obtain rfl:u=Value.ref C:=ry;refine W.method_cls I1.rk B.sp (W.cls_value I1.rk B.rd B.fi rfl ?_);have I2:Inv X Ug σ H1 {s1 with toks:=s1.toks+1}:=I1.tok _;refine Bi (first:=[]) (h₀:=X.base) I.ok.mod.Mj B.kp (bT (ha pos Ug _ σ H1 (fun vs H1=>ph X.K X.mg fl fs vs H1 Q (EX σ)) I2 ⟨G,F0,ρ,g0,?_⟩) fun us s2 ⟨vs,H2,I3,r,q⟩=>⟨I3.rk,?_⟩) jB jA;unfold az VP.Pd at o;cases q:bS as ρ with|no=>rw[q] at o;exact o.elim|exc xx bw=>rw[q] at o;exact o|ok av bw=>rw[q] at o;intro F1 H1 vs s1 g1 r1;exact tE (L:=lc X EX) g1 r1 (by rw[dX q];exact vG) o (fun x r q=>q.same s1) fun F' H' bQ d v s' g' rd P=>P F' H' v (s1.trans s') g' rd
 exact pI F hr hb hx I3 r q
end
section
variable{X:Cx}{EX:XE}{e elt tg Ut:Expr}{ifs:Wg}{pos:Pos}{it:M (List D)}{gf:D->M Unit}{ft:M Bool}{fe f:M D}{js:Ue}{scope:Scope}{N':Ph}
theorem Aj(n i:Nat){y:Str}{py mB:Pos}(hN:X.N.Nodup)(hy:X.N[i]?=some y)(hx:Loc X.env.scope y)(hc:X.calm=true)(c:bR X scope N')(hn:X.N.length+n+1=N'.length)(hi:uK X EX tg Ut it)(tV:∀d r x r',gf d r≠.exc x r')(uM:∀j∈js,X.N.length<=j/\j<X.N.length+n)
  (hg:∀C s H ex,yy (bJ X scope C N' s H ex) EX tg js gf) (ht:∀C s H ex EX,BJ (bJ X scope C N' s H ex) EX ifs ft) (he:∀C s H ex EX,PV (bJ X scope C N' s H ex) EX elt fe)
  (GS:swapsWith (.ListComp elt [⟨tg,Ut,ifs,0⟩] scope pos) (some (.Name y py)) mB.line X.env=pure true:=by rfl) (hs:∀x,foldedSetIterable Ut X.env x=pure x:=by exact Ri)
  (AG:Si X y:=by exact Ig):oh X EX (.Assign [.Name y py] (.ListComp elt [⟨tg,Ut,ifs,0⟩] scope pos) mB) (aP i (ip (aQ n it gf ft fe))):=by
 intro Ug s σ H E I h;obtain⟨G,F,ρ,g0,o⟩:=h;rw[AO _ _ _ _ GS];refine ZM (RW (ZM ?_));show wpAny _ X.A (do let _ <-comprehension (.ListComp elt [⟨tg,Ut,ifs,0⟩] scope pos) scope X.env _ (newList []) false (firstIter [⟨tg,Ut,ifs,0⟩] X.env) (some (assign (.Name y py) X.env))) _ _ s;refine ZM (R3 (j9 (use:=some (assign (.Name y py) X.env)) (QQ:=fun _ s'=>SP X Ug E .next s') n hc c hn hi tV uM hg ht (xw:=fun _ _ _ _ _ _=>False) (fun C s H ex=>he C s H ex _) (fun _ _ _ _ _ _ _ _ _ _ z=>z.elim) hs I (Good.view g0) (wI (Out.Pd o)) (fun x r q=>q.elim) fun F4 H4 s5 rG d l C mm e4 g4 lo post IX GP FC=>?_) (fun _ s' hq=>Pf (Pf hq)) fun _ _ e=>e);show wpAny _ X.A (assign (.Name y py) X.env (.ref l)) _ _ s5;refine Sj (kB IX hN hy hx (v:=.ref l) rfl (fun s6 I6 zz=>?_) AG);obtain⟨a,sb,ha⟩:=zz;have QE:C≠a:=by rcases ha with rfl|ha;exact FC.2.1;exact fun z=>FC.2.2.2.2.1 _ _ ha z.symm
 obtain⟨ds,rfl,Ka,post⟩:=post;obtain⟨u1,u2⟩:=Good.n5 g0 g4;have V4:=Loose.n5 g0 g4 lo Ka;obtain⟨F5,s5,g5,d5⟩:=V4.fast u2;obtain⟨oQ,g2,q⟩:=jZ (L:=lc X EX) g5 d5 (Out.Pd post);refine⟨mm,GP.sameBut sb QE,fun h' FT=>⟨σ.set i (some (.ref l)),H4,?_,q _ _ _ (u1.trans s5) g2⟩⟩;exact I6.turned (t':=s6.toks) (fun b ob hb e=>FT.extBut b ob hb e) FC.1 FC.2.1 FC.2.2.2.1 FC.2.2.2.2.1 FC.2.2.2.2.2
end
end VS
end
section
set_option linter.all false
namespace VS
open PySem PySem.Spec PyProof.Rows L2 VP
theorem qe{P:Program}{w:World}{K:Frag}{mg:MG}{base:Heap}{CX:uP}{k:Nat}{f:Addr}{fd:FuncData}{ps:Ph}{fl:Ur}(h:fl.length=ps.length):dC P w K mg base CX k f fd ps (ph K mg fl fun _=>.no):=⟨fun _ _ _ _ q=>q.1.trans h,fun _ _ _ _ _ _ _ _ _ _ _ _ _ ⟨_,_,_,_,_,_,q⟩=>q.elim⟩
structure Ga where
 f:Nat->Addr
 d:Nat->FuncData
 g:Nat->Addr
 e:Nat->FuncData
 c:Nat->Addr
abbrev wZ:=Str×Stmt×List Str
abbrev BL:=Str×Str×Str×Bool×Stmt×List Str
structure KW where
 b:List Str
 n:List (Str×D)
 t:List (Str×List (Str×D)×List Str)
 d:List wZ
 m:List BL
 k:List Str
 f:List (Str×List Str)
 a:List Str
 i:List (Str×List (Str×Bool))
 j:List (Str×Str×List (Str×Bool))
structure Jz(K:Frag)(mg:MG)(c x qn:Str)(bs:Bool)(st:Stmt)(ps:Ph)(C f:Addr)(fd:FuncData):Prop where
 fu:Gb K x qn st f fd
 bi:Binds K fd ps []
 gm:mg c=some (.ref C)
 cls:Ak K C
 me:Meth K C x f
 V8:x="__init__" -> Mk K C f
 ba:bs=true->Pu K mg c x C f
structure Txt(L:KW)(w:World)(K:Frag)(mg:MG)(a:Ga):Prop where
 b:∀(i:Nat) {x} (_:L.b[i]?=some x:=by rfl),mg x=none
 n:∀(i:Nat) {x d} (_:L.n[i]?=some (x,d):=by rfl),WX mg x d
 t:∀(i:Nat) {x t ab} (_:L.t[i]?=some (x,t,ab):=by rfl),Gf w K mg x t ab
 d:∀(i:Nat) {x st ps} (_:L.d[i]?=some (x,st,ps):=by rfl),pP K mg x st ps (a.f i) (a.d i)
 m:∀(i:Nat) {c x qn bs st ps} (_:L.m[i]?=some (c,x,qn,bs,st,ps):=by rfl),Jz K mg c x qn bs st ps (a.c i) (a.g i) (a.e i)
 f:∀(i:Nat) {f cs} (_:L.f[i]?=some (f,cs):=by rfl),KO K mg cs f
 i:∀(i:Nat) {c su} (_:L.i[i]?=some (c,su):=by rfl),PH K mg c su
 j:∀(i:Nat) {c1 c2 su} (_:L.j[i]?=some (c1,c2,su):=by rfl),PJ K mg c1 c2 su
def PU(K:Frag)(q:Addr):Ph->Prop|[]=>True|x::l=>W.nsIn K q x=some none/\PU K q l
def TF(K:Frag):List (Str×D)->Prop|[]=>True| (x,d)::l=>(∃v,W.nsIn K mainGlobals x=some (some v)/\jm d v)/\TF K l
def TH(K:Frag)(q:Addr):List (Str×D)->Prop|[]=>True| (x,d)::l=>(∃v,W.nsIn K q x=some (some v)/\tw K d v)/\TH K q l
def PX(w:World)(K:Frag):List (Str×List (Str×D)×List Str)->Prop|[]=>True| (x,t,ab)::l=>(∃(q:Addr)(es:Array DictEntry)(n:Nat),W.nsIn K mainGlobals x=some (some (.ref q))/\(q == sysModules)=false/\K.lookup q=some ⟨.type "dict",none,.dict es n,#[]⟩/\W.KeysLit w.params es.toList/\TH K q t/\PU K q ab)/\PX w K l
def Py(K:Frag):List wZ->Prop|[]=>True| (x,st,_)::l=>(∃f,DH K x st f)/\Py K l
structure Q0m(K:Frag)(c x qn:Str)(bs:Bool)(st:Stmt)(C f:Addr):Prop where
 n:W.nsIn K mainGlobals c=some (some (.ref C))
 i:W.findIn K (.ref C) x=some (some (.ref f))
 fn:W.isFn K (.ref f)=true
 m:DM K x qn st f
 V8:W.makesIn K C=true
 kc:W.keepIn K (.ref C)=true
 ba:bs=true->W.specialIn K (.ref C) "__getattribute__" = some (some (.builtin "type.__getattribute__"))/\W.readsIn K C (.type "type")=true/\W.findCls K (.ref C) (.type "type") x=some (.val (.ref f))
def PN(K:Frag):List BL->Prop|[]=>True| (c,x,qn,bs,st,_)::l=>(∃C f,Q0m K c x qn bs st C f)/\PN K l
def Pw(K:Frag):Ph->Prop|[]=>True|c::l=>(∃C,W.nsIn K mainGlobals c=some (some (.ref C))/\Ak K C)/\Pw K l
def Tp(K:Frag):Ph->Prop|[]=>True|c::l=>(∃C,W.nsIn K mainGlobals c=some (some (.ref C))/\Al K C)/\Tp K l
def PQ(K:Frag)(f:Str):Ph->Prop|[]=>True|c::l=>(∃C,W.nsIn K mainGlobals c=some (some (.ref C))/\W.findIn K (.ref C) f=some none)/\PQ K f l
def Tt(K:Frag):List (Str×List Str)->Prop|[]=>True| (f,cs)::l=>PQ K f cs/\Tt K l
def PK(K:Frag)(C:Addr):Nx->Prop|[]=>True| (c,b)::l=>(∃D,W.nsIn K mainGlobals c=some (some (.ref D))/\W.kitOne K (.ref D) (.ref C)=some b)/\PK K C l
def Tv(K:Frag):List (Str×List (Str×Bool))->Prop|[]=>True| (c,su)::l=>(∃C,W.nsIn K mainGlobals c=some (some (.ref C))/\PK K C su)/\Tv K l
def PM(K:Frag)(C C':Addr):Nx->Prop|[]=>True| (c,b)::l=>(∃D,W.nsIn K mainGlobals c=some (some (.ref D))/\W.kitAny K (.ref D) [.ref C,.ref C']=some b)/\PM K C C' l
def Tz(K:Frag):List (Str×Str×List (Str×Bool))->Prop|[]=>True| (c,c',su)::l=>(∃C C',W.nsIn K mainGlobals c=some (some (.ref C))/\W.nsIn K mainGlobals c'=some (some (.ref C'))/\PM K C C' su)/\Tz K l
def Tq:List wZ->Prop|[]=>True| (x,st,ps)::l=>BI x x st ps/\Tq l
def Ts:List BL->Prop|[]=>True| (_,x,qn,_,st,ps)::l=>BI x qn st ps/\Ts l
def KW.oU(L:KW):Bool:=L.f.all (fun p=>p.2.all fun c=>L.k.elem c)&&L.m.all (fun r=>L.k.elem r.1)&&L.i.all (fun p=>p.2.all fun q=>L.a.elem q.1)&&L.j.all (fun p=>p.2.2.all fun q=>L.a.elem q.1)
section
variable{K:Frag}{mg:MG}{h:Heap}{w:World}
theorem PU.at:∀{l:Ph},PU K q l->∀{x},x∈l->W.nsIn K q x=some none|_::_,⟨h,t⟩,_,m=>by cases m with|head=>exact h|tail _ m=>exact t.at m
theorem TF.at:∀{l:List (Str×D)},TF K l->∀{x d},(x,d)∈l->∃v,W.nsIn K mainGlobals x=some (some v)/\jm d v|_::_,⟨h,t⟩,_,_,m=>by cases m with|head=>exact h|tail _ m=>exact t.at m
theorem TH.at:∀{l:List (Str×D)},TH K q l->∀p∈l,∃v,W.nsIn K q p.1=some (some v)/\tw K p.2 v|_::_,⟨h,t⟩,_,m=>by cases m with|head=>exact h|tail _ m=>exact t.at _ m
theorem PX.at(X:K.In h)(G:h.Ns mainGlobals mg):∀{l:List (Str×List (Str×D)×List Str)},PX w K l->∀{x t ab},(x,t,ab)∈l->Gf w K mg x t ab|_::_,⟨⟨q,es,n,h1,h2,h3,h4,h5,h6⟩,t⟩,_,_,_,m=>by cases m with|head=>exact⟨⟨q,es,n,HK X G h1,h2,h3,h4,Ft h5.at,fun k hk=>h6.at hk⟩⟩|tail _ m=>exact PX.at X G t m
theorem Pw.at:∀{l:Ph},Pw K l->∀{c C},c∈l->W.nsIn K mainGlobals c=some (some (.ref C))->Ak K C|_::_,⟨⟨D,h,k⟩,t⟩,_,_,m,e=>by cases m with|head=>rw[h] at e;cases e;exact k|tail _ m=>exact t.at m e
theorem Tp.at:∀{l:Ph},Tp K l->∀{c C},c∈l->W.nsIn K mainGlobals c=some (some (.ref C))->Al K C|_::_,⟨⟨D,h,k⟩,t⟩,_,_,m,e=>by cases m with|head=>rw[h] at e;cases e;exact k|tail _ m=>exact t.at m e
theorem PQ.at:∀{l:Ph},PQ K f l->∀{c},c∈l->∃C,W.nsIn K mainGlobals c=some (some (.ref C))/\iO K C f|_::_,⟨h,t⟩,_,m=>by cases m with|head=>exact h|tail _ m=>exact t.at m
theorem Tt.at:∀{l:List (Str×List Str)},Tt K l->∀{f cs},(f,cs)∈l->PQ K f cs|_::_,⟨h,t⟩,_,_,m=>by cases m with|head=>exact h|tail _ m=>exact t.at m
theorem PK.at:∀{l:Nx},PK K C l->∀p∈l,∃D,W.nsIn K mainGlobals p.1=some (some (.ref D))/\W.kitOne K (.ref D) (.ref C)=some p.2|_::_,⟨h,t⟩,_,m=>by cases m with|head=>exact h|tail _ m=>exact t.at _ m
theorem Tv.at:∀{l:List (Str×List (Str×Bool))},Tv K l->∀{c su},(c,su)∈l->∃C,W.nsIn K mainGlobals c=some (some (.ref C))/\PK K C su|_::_,⟨h,t⟩,_,_,m=>by cases m with|head=>exact h|tail _ m=>exact t.at m
theorem PM.at:∀{l:Nx},PM K C C' l->∀p∈l,∃D,W.nsIn K mainGlobals p.1=some (some (.ref D))/\W.kitAny K (.ref D) [.ref C,.ref C']=some p.2|_::_,⟨h,t⟩,_,m=>by cases m with|head=>exact h|tail _ m=>exact t.at _ m
theorem Tz.at:∀{l:List (Str×Str×List (Str×Bool))},Tz K l->∀{c c' su},(c,c',su)∈l->∃C C',W.nsIn K mainGlobals c=some (some (.ref C))/\W.nsIn K mainGlobals c'=some (some (.ref C'))/\PM K C C' su|_::_,⟨h,t⟩,_,_,_,m=>by cases m with|head=>exact h|tail _ m=>exact t.at m
theorem Py.is(X:K.In h)(G:h.Ns mainGlobals mg):∀{l:List wZ},Py K l->Tq l->∃ps:List (Addr×FuncData),∀(i:Nat) {x st qs},l[i]?=some (x,st,qs)->pP K mg x st qs (ps.getD i default).1 (ps.getD i default).2|[],_,_=>⟨[],fun i _ _ _ e=>by simp at e⟩|_::_,⟨⟨f,d⟩,t⟩,⟨b,bs⟩=>by obtain⟨ps,hp⟩:=Py.is X G t bs;obtain⟨fd,D⟩:=d.is X G b;refine⟨(f,fd)::ps,fun i _ _ _ e=>?_⟩;cases i with|zero=>simp only[List.getElem?_cons_zero,Option.some.injEq,Prod.mk.injEq] at e;obtain⟨rfl,rfl,rfl⟩:=e;exact D|succ i=>exact hp i (by simpa using e)
theorem PN.is(X:K.In h)(G:h.Ns mainGlobals mg)(C:Pw K ks):∀{l:List BL},PN K l->Ts l->(∀r∈l,r.1∈ks)->∃ps:List (Addr×Addr×FuncData),∀(i:Nat) {c x qn bs st qs},l[i]?=some (c,x,qn,bs,st,qs)->Jz K mg c x qn bs st qs (ps.getD i default).1 (ps.getD i default).2.1 (ps.getD i default).2.2|[],_,_,_=>⟨[],fun i _ _ _ _ _ _ e=>by simp at e⟩|_::_,⟨⟨c,f,d⟩,t⟩,⟨b,bs⟩,hk=>by obtain⟨ps,hp⟩:=PN.is X G C t bs fun r hr=>hk r (Uq _ hr);obtain⟨fd,F,B⟩:=d.m.is b;refine⟨(c,f,fd)::ps,fun i _ _ _ _ _ _ e=>?_⟩;cases i with|zero=>simp only[List.getElem?_cons_zero,Option.some.injEq,Prod.mk.injEq] at e;obtain⟨rfl,rfl,rfl,rfl,rfl,rfl⟩:=e;have m:=HK X G d.n;refine⟨F,B,m,C.at (hk _ Bl) d.n,⟨d.i,d.fn,d.m.k⟩,fun e=>⟨d.V8,?_,d.fn,d.kc⟩,fun e=>⟨m,(d.ba e).1,(d.ba e).2.1,(d.ba e).2.2,d.m.k⟩⟩;rw[<-e];exact d.i|succ i=>exact hp i (by simpa using e)
theorem Q0b(X:K.In h)(G:h.Ns mainGlobals mg)(oU:L.oU=true)(bd:Tq L.d)(bm:Ts L.m)(hb:PU K mainGlobals L.b)(hn:TF K L.n)(ht:PX w K L.t)(hd:Py K L.d)(hc:Pw K L.k)(hm:PN K L.m)(hf:Tt K L.f)(ha:Tp K L.a)(hi:Tv K L.i)(hj:Tz K L.j)(sp:W.specialIn K (.builtin "object.__class__") "__get__" = some (some (.builtin "getset_descriptor.__get__"))) (tk:W.takesIn K (.builtin "object.__class__")=some true):∃a:Ga,Txt L w K mg a:=by simp only[KW.oU,Bool.and_eq_true,List.all_eq_true,List.elem_eq_contains,List.contains_iff_mem] at oU;obtain⟨⟨⟨f1,f2⟩,f3⟩,f4⟩:=oU;obtain⟨ps,hp⟩:=hd.is X G bd;obtain⟨qs,hq⟩:=hm.is X G hc bm f2;refine⟨⟨fun i=>(ps.getD i default).1,fun i=>(ps.getD i default).2,fun i=>(qs.getD i default).2.1,fun i=>(qs.getD i default).2.2,fun i=>(qs.getD i default).1⟩,fun i x e=>W.mg_none_of X G (hb.at (Ie e)),fun i x d e=>?_,fun i x t ab e=>ht.at X G (Ie e),hp,hq,fun i f cs e c LL=>?_,fun i c su e=>?_,fun i c c' su e=>?_⟩;obtain⟨v,e1,e2⟩:=hn.at (Ie e);exact⟨v,HK X G e1,e2⟩;have m:=Ie e;obtain⟨C,e1,e2⟩:=(hf.at m).at LL;exact⟨C,HK X G e1,hc.at (f1 _ m c LL) e1,e2⟩;have m:=Ie e;obtain⟨C,e1,e2⟩:=hi.at m;refine⟨sp,tk,C,HK X G e1,fun p hp=>?_⟩;obtain⟨D,e3,e4⟩:=e2.at p hp;exact⟨D,HK X G e3,ha.at (f3 _ m p hp) e3,e4⟩;have m:=Ie e;obtain⟨C,C',e1,Yy,e2⟩:=hj.at m;refine⟨sp,tk,C,C',HK X G e1,HK X G Yy,fun p hp=>?_⟩;obtain⟨D,e3,e4⟩:=e2.at p hp;exact⟨D,HK X G e3,ha.at (f4 _ m p hp) e3,e4⟩
theorem pP.V0{x p:Str}{st:Stmt}{f:Addr}{fd:FuncData}(d:pP K mg x st [p] f fd)(c:∀(kV doc pm:Value)(an:u3)(cd ct:Value)(s:Shared)(v:Value),BindsTo s (W.fnOf x x (dg st) (bU st) (aT st) .none kV doc pm an cd ct) ⟨[v],[]⟩ [(p,v)]) (s:Shared) (v:Value):BindsTo s fd ⟨[v],[]⟩ [(p,v)]:=by obtain⟨oc,od,kV,doc,pm,an,iR,ct,HI,rfl,lk,kO⟩:=d.fu.ex;exact c _ _ _ _ _ _ s v
end
abbrev Cl(P:Program)(base:Heap){L:KW}{w:World}{K:Frag}{mg:MG}{a:Ga}(T:Txt L w K mg a)(x:Str)(k:Nat)(fl:Ur)(f:Fn):Prop:=∃st ps fA fd,pP K mg x st ps fA fd/\dC P w K mg base pO k fA fd ps (ph K mg fl f)
abbrev lG(P:Program)(base:Heap){L:KW}{w:World}{K:Frag}{mg:MG}{a:Ga}(T:Txt L w K mg a)(c x:Str)(bs:Bool)(k:Nat)(fl:Ur)(f:Fn):Prop:=∃qn st ps C fA fd,Jz K mg c x qn bs st ps C fA fd/\dC P w K mg base pO k fA fd ps (ph K mg fl f)
section
variable{P:Program}{w:World}{K:Frag}{mg:MG}{base:Heap}
theorem fo{x:Str}{st:Stmt}{f:Addr}{fd:FuncData}{ps:Ph}{k:Nat}{fl:Ur}(N:Ph)(body:M Fl)(D:pP K mg x st ps f fd)
 (jQ:∀{iR:Value}{A:Around}{outer:List Env}{s:Shared}{H:Hp}{E:XK},d7 N ps (aT st)->cH k (A.deeper (envOfC x (aT st) s.heap.objs.size f iR))->mU (q9 pO P w K mg base N x (aT st) f iR A outer s H E).Km (fun _=>E) (bU st) body) (S:d7 N ps (aT st):=by exact Wq) (hl:fl.length=ps.length:=by rfl) :
 dC P w K mg base pO (k+1) f fd ps (ph K mg fl (defn N.length fl body)):=Dk D.fu S hl fun _ _ _ _ _ _ hr=>jQ S hr
theorem fc{g:Fn}{x:Str}{st:Stmt}{f:Addr}{fd:FuncData}{ps:Ph}{k:Nat}{fl:Ur}(loc:Ph)(body:M Fl)(D:pP K mg x st ps f fd)
 (jQ:∀{iR:Value}{A:Around}{outer:List Env}{s:Shared}{H:Hp}{E:XK},d7 (ps++loc) ps (aT st)->cH k (A.deeper (envOfC x (aT st) s.heap.objs.size f iR))->mU (q9 pO P w K mg base (ps++loc) x (aT st) f iR A outer s H E).Km (fun _=>E) (bU st) body) (S:d7 (ps++loc) ps (aT st):=by exact Wq) (hl:fl.length=ps.length:=by rfl) (hg:defn (ps++loc).length fl body=g:=by exact rfl) :
 ∃st ps fA fd,pP K mg x st ps fA fd/\dC P w K mg base pO (k+1) fA fd ps (ph K mg fl g):=⟨st,ps,f,fd,D,hg ▸ Dk D.fu S hl fun _ _ _ _ _ _ hr=>jQ S hr⟩
theorem fm{g:Fn}{c x qn:Str}{bs:Bool}{st:Stmt}{C f:Addr}{fd:FuncData}{ps:Ph}{k:Nat}{fl:Ur}(loc:Ph)(body:M Fl)(D:Jz K mg c x qn bs st ps C f fd)
 (jQ:∀{iR:Value}{A:Around}{outer:List Env}{s:Shared}{H:Hp}{E:XK},d7 (ps++loc) ps (aT st)->cH k (A.deeper (envOfC qn (aT st) s.heap.objs.size f iR))->mU (q9 pO P w K mg base (ps++loc) qn (aT st) f iR A outer s H E).Km (fun _=>E) (bU st) body) (S:d7 (ps++loc) ps (aT st):=by exact Wq) (hl:fl.length=ps.length:=by rfl) (hg:defn (ps++loc).length fl body=g:=by exact rfl) :
 ∃qn st ps C fA fd,Jz K mg c x qn bs st ps C fA fd/\dC P w K mg base pO (k+1) fA fd ps (ph K mg fl g):=⟨qn,st,ps,C,f,fd,D,hg ▸ Dk D.fu S hl fun _ _ _ _ _ _ hr=>jQ S hr⟩
end
section
variable{X:Cx}{EX:XE}{e a b o tg Ut elt value:Expr}{es ifs:Wg}{as:List VP.Arg}{fa fb fe fo:M D}{f:M Fl}{body:List Stmt}{pos p V7:Pos}{k n i:Nat}{C fA:Addr}{fd:FuncData}{ps:Ph}{c x m qn:Str}{bs:Bool}{st:Stmt}{fl:Ur}{fs:Fn}
theorem x6(W:∃qn st ps C fA fd,Jz X.K X.mg c "__init__" qn bs st ps C fA fd/\dC X.prog X.w X.K X.mg X.base pO k fA fd ps (ph X.K X.mg (true::fl) fs))(hr:cH n X.A)(ha:yw X EX (e::es) as)(hk:k+1<=n:=by exact rD)(hg:Gl X c:=by rfl)(vG:as.map VP.Arg.isIo=fl:=by rfl)(jz:WL c:=by decide)(he:Oa X e es:=by rfl) (jA:Lg X pos es:=by rfl):PF X EX (.Call (.Name c p) (e::es) [] pos) (dY c fs as):=
 let ⟨_,_,_,_,_,_,M,F⟩:=W;Q27 (M.V8 rfl) F (hr.mono hk) hg M.gm M.bi qG ha vG jz he jA
theorem pH{pl:Sem Bool}(W:∃qn st ps C fA fd,Jz X.K X.mg c m qn bs st ps C fA fd/\dC X.prog X.w X.K X.mg X.base pO k fA fd ps (ph X.K X.mg (false::fl) fs))(hr:cH n X.A)(ho:PV X EX o fo)(ha:yw X EX (e::es) as)(hk:k<=n:=by exact rD)(vG:as.map VP.Arg.isIo=fl:=by rfl)
  (jB:Oa X e es:=by rfl) (jA:Lg X pos es:=by rfl)
  (ht:eval (.Call (.Attribute o m V7) (e::es) [] pos) X.env=(do
   let ov <-eval o X.env
   standAt V7.atName
   let (f,first) <-holding [ov] (getMethod ov m pl)
   callWith pos f first (backTo pos (starEach (e::es) X.env)) (backToKw pos (keywordEach [] X.env))):=by rfl):PV X EX (.Call (.Attribute o m V7) (e::es) [] pos) (cx c m fs fo as):=
 let ⟨_,_,_,_,_,_,M,F⟩:=W;Iv M.gm M.cls M.me F (hr.mono hk) M.bi qG ho ha vG jB jA ht
theorem Sh{pl:Sem Bool}(W:∃qn st ps C fA fd,Jz X.K X.mg c m qn true st ps C fA fd/\dC X.prog X.w X.K X.mg X.base pO k fA fd ps (ph X.K X.mg fl fs))(hr:cH n X.A)(ha:yw X EX (e::es) as)(hk:k<=n:=by exact rD)(hg:Gl X c:=by rfl)(vG:as.map VP.Arg.isIo=fl:=by rfl)
 (jz:WL c:=by decide) (jB:Oa X e es:=by rfl) (jA:Lg X pos es:=by rfl)
 (ht:eval (.Call (.Attribute (.Name c p) m V7) (e::es) [] pos) X.env=(do
  let ov <-eval (.Name c p) X.env
  standAt V7.atName
  let (f,first) <-holding [ov] (getMethod ov m pl)
  callWith pos f first (backTo pos (starEach (e::es) X.env)) (backToKw pos (keywordEach [] X.env))):=by rfl) :
 PV X EX (.Call (.Attribute (.Name c p) m V7) (e::es) [] pos) (az fs as):=let ⟨_,_,_,_,_,_,M,F⟩:=W;Im (M.ba rfl) F (hr.mono hk) M.bi qG ha hg vG jz jB jA ht
theorem bp(W:∃st ps fA fd,pP X.K X.mg x st ps fA fd/\dC X.prog X.w X.K X.mg X.base pO k fA fd ps (ph X.K X.mg fl fs))(hr:cH n X.A)(ha:yw X EX (e::es) as)(hk:k<=n:=by exact rD)(hg:Gl X x:=by rfl)(vG:as.map VP.Arg.isIo=fl:=by rfl)(jz:WL x:=by decide)(he:Oa X e es:=by rfl) (jA:Lg X pos es:=by rfl):PV X EX (.Call (.Name x p) (e::es) [] pos) (az fs as):=
 let ⟨_,_,_,_,D,F⟩:=W;Io F (hr.mono hk) hg D.mg D.fu.kp D.bi qG ha vG jz he jA
theorem ZR(W:∃st ps fA fd,pP X.K X.mg x st ps fA fd/\dC X.prog X.w X.K X.mg X.base pO k fA fd ps (ph X.K X.mg [true] fs))(hr:cH n X.A)(ha:PF X EX a fa)(hk:k<=n:=by exact rD)(hg:Gl X x:=by rfl)(jz:WL x:=by decide)(he:Oa X a []:=by rfl)(jA:(backTo pos (starEach [] X.env)).any (·.1)=false:=by rfl):PV X EX (.Call (.Name x p) [a] [] pos) (nC fs fa):=let ⟨_,_,_,_,D,F⟩:=W;E2 F (hr.mono hk) hg D.mg D.fu.kp D.bi qG ha jz he jA
theorem bZ(hm:X.mg "len" = none)(ha:PR X EX a fa)(hg:Gl X "len" := by rfl)(hs:Oa X a []:=by rfl):PV X EX (.Call (.Name "len" p) [a] [] pos) (m1 bz fa):=fD tG Q1E hg hm PySem.boot_len ha (by decide) (by decide) hs
theorem we(hm:X.mg "tuple" = none)(ha:PR X EX a fa)(hg:Gl X "tuple" := by rfl)(hs:Oa X a []:=by rfl):PV X EX (.Call (.Name "tuple" p) [a] [] pos) (m1 jw fa):=Bm Q1C Q1e hg hm boot_tuple ha (by decide) (by decide) hs
theorem dR(hr:cH n X.A)(ha:PV X EX a fa)(hb:PV X EX b fb):PB X EX (.Compare a [.Eq] [b] pos) (tB (m2 cn fa fb)):=bW (qD hr.units) vB ha hb (bH _)
theorem wN(hr:cH n X.A)(ha:PV X EX a fa)(hb:PV X EX b fb):PB X EX (.Compare a [.NotEq] [b] pos) (tB (m2 gD fa fb)):=bW (xY hr.units) Dt ha hb (bH _)
theorem b8(i:Nat){x:Str}{V6:Pos}(hN:X.N.Nodup)(he:PV X EX e fe)(hi:X.N[i]?=some x:=by rfl)(hx:Loc X.env.scope x:=by exact Sf)(hs:swapsWith e (some (.Name x V6)) pos.line X.env=pure false:=by rfl)(hf:Si X x:=by exact Ig):oh X EX (.Assign [.Name x V6] e pos) (aP i fe):=OQ i hN hi hx he hs hf
theorem BH(i:Nat){x:Str}{V6:Pos}(hN:X.N.Nodup)(he:PF X EX e fe)(hi:X.N[i]?=some x:=by rfl)(hx:Loc X.env.scope x:=by exact Sf)(hs:swapsWith e (some (.Name x V6)) pos.line X.env=pure false:=by rfl)(hf:Si X x:=by exact Ig):oh X EX (.Assign [.Name x V6] e pos) (fT i fe):=OP i hN hi hx he hs hf
theorem jD(i:Nat)(hN:X.N.Nodup)(hi:X.N[i]?=some x:=by rfl)(hx:Loc X.env.scope x:=by exact Sf)(hf:Si X x:=by exact Ig):yy X EX (.Name x pos) [i] (aD i):=Jp i hN hi hx hf
theorem oP(i:Nat)(hN:X.N.Nodup)(h2:wY X EX es is)(hi:X.N[i]?=some x:=by rfl)(hx:Loc X.env.scope x:=by exact Sf)(hf:Si X x:=by exact Ig) (hs:(assignEach (.Name x pos::es) X.env).map (·.2)=assign (.Name x pos) X.env::(assignEach es X.env).map (·.2):=by rfl):wY X EX (.Name x pos::es) (i::is):=FE i hN hi hx h2 hf hs
theorem Jo(i:Nat){V7 iX:Pos}(he:PV X EX e fe)(hN:X.N[i]?=some x:=by rfl)(hv:yz X.env.scope x:=by exact wg)(hd:WL x:=by decide)
 (kO:Le x:=by decide)
 (hpe:∀{to:TE}{t:TA},PE X (.Name x p) to->PA X [e] t->PE X (.Call (.Attribute (.Name x p) "append" V7) [e] [] iX) (Ux X.K "list" uz to t):=by exact fun ho ha=>Ko PySem.F.plainAttrs_list PySem.F.slot_list_append PySem.F.type_list_append sH ho ha)
 (jB:Oa X e []:=by rfl):oh X EX (.Expr (.Call (.Attribute (.Name x p) "append" V7) [e] [] iX) pos) (lC i fe):=OM i he hN hv hd kO hpe jB
theorem qW(hi:uK X EX tg Ut it)(hg:yy X EX tg js gf)(hb:mU X EX body f)(tV:∀d r x r',gf d r≠.exc x r':=by first|exact dH|exact Dp)(hp:PassesOwn (model X.prog X.w) X.A X.env X.xe:=by exact PassesOwn.never)(hc:X.calm=true:=by rfl)(hs:∀x,foldedSetIterable Ut X.env x=pure x:=by exact Ri):oh X EX (.For tg Ut body [] pos) (fE it gf f):=OO hp hc hi hg hb tV hs
variable{it:M (List D)}{gf:D->M Unit}{ft:M Bool}{js:Ue}{scope:Scope}
theorem vZ(n:Nat)(N':Ph)(hi:uK X EX tg Ut it)(hg:N'.Nodup->∀{C s H ex},yy (bJ X scope C N' s H ex) EX tg js gf)(ht:∀{C s H ex EX},BJ (bJ X scope C N' s H ex) EX ifs ft)(he:∀{C s H ex EX},PV (bJ X scope C N' s H ex) EX elt fe)
 (nd:N'.Nodup:=by exact ON) (tV:∀d r x r',gf d r≠.exc x r':=by first|exact dH|exact Dp) (uM:∀j∈js,X.N.length<=j/\j<X.N.length+n:=by exact gK (by kernel_rfl)) (hc:X.calm=true:=by rfl) (c:bR X scope N':=by exact⟨rfl,by kernel_rfl⟩) (hn:X.N.length+n+1=N'.length:=by rfl)
 (hs:∀x,foldedSetIterable Ut X.env x=pure x:=by exact Ri):PF X EX (.ListComp elt [⟨tg,Ut,ifs,0⟩] scope pos) (aQ n it gf ft fe):=Q0i n hc c hn hi tV uM (fun _ _ _ _=>hg nd) (fun _ _ _ _ _=>ht) (fun _ _ _ _ _=>he) hs
end
def Ws(K:Frag):Sp:=fun vs H Q _=>∃(a:Addr)(ns:T1),vs=[.ref a]/\cX K H a (ns.map V.int)/\ns.length<=63/\∀H',Q (.bl true) H'
abbrev Pz(l:W.OpenLaw)(w:World)(K:Frag)(mg:MG)(fa:Addr)(k:Nat)(p:Str):Prop:=∃fd:FuncData,(∀(s:Shared)(v:Value),BindsTo s fd ⟨[v],[]⟩ [(p,v)])/\∀base:Heap,dC l.prog w K mg base pO k fa fd [p] (Ws K)
theorem walk63{l:W.OpenLaw}{q:Program}{loose:Ph}{XP:(Str->X0)->Heap->Prop}{YP:World->Heap->Prop}{d:DefRec}{K:Params->W.Frag}(k:Nat)(hn:l.most=some 63)(QK:d.params.defaults=[])
  (hY:∀(w:World)(h:Heap),YP w h->(K w.params).In h)
  (F:∀(w:World)(mg:Str->X0)(fa:Addr)(h:Heap),(K w.params).In h->h.Ns mainGlobals mg->mg d.name=some (.ref fa)->Pz l w (K w.params) mg fa k "_law_script") (hr:cH k callerA:=by exact⟨rfl,by decide,by decide⟩) :
  W.WalkO q loose XP YP l.row.toRowW d [] (fun f vs=>PySem.call f vs):=
 L2.Ju (n:=63) (k:=k) (x:="_law_script") (CX:=fun _=>pO) (sp:=fun w=>Ws (K w.params)) hn (by decide) QK hr hY (fun w mg fa h a b c=>let ⟨fd,u,v⟩:=F w mg fa h a b c;⟨fd,u,fun base _ _=>v base⟩) (fun _ _ a ns hl _ hS=>⟨a,ns,rfl,hS,hl,fun _=>rfl⟩) fun _ _ _ _ _ z=>z
end VS
end
section
set_option linter.all false
set_option maxRecDepth 100000
namespace VZ
open PySem PySem.Spec PyProof.Rows
def tb(ld:Bool)(m:Nat):SetTable:=⟨if m<5 then 7 else 31,Array.range m,#[],0,ld,if m<5 then 0 else 1,true⟩
def t5(ld:Bool):SetTable:=⟨7,Array.range 5,#[],0,ld,0,true⟩
theorem Q2p:∀n<15,∀i<n+1,SetTable.below (Array.range n) i=i:=by decide +kernel
theorem yo:∀ld,∀m<14,(tb ld m).freeSlot (hashInt m)=some (m,false)/\((tb ld m).put m)=(if m=4 then t5 ld else tb ld (m+1),m)/\(tb ld (m+1)).tooFull=false/\(tb ld (m+1)).fits (m+1)=true/\hashInt m=m:=by decide +kernel
theorem S9:∀ld,(t5 ld).tooFull=true/\(t5 ld).fits 5=true/\(t5 ld).relaid #[0,1,2,3,4] 20=some (tb ld 5,#[0,1,2,3,4]):=by decide +kernel
end VZ
namespace VZ
open PySem PySem.Spec PyProof.Rows
abbrev IJ(es:Array (Int×Value))(ep:Nat)(t:SetTable):Obj:={cls:=.type "set",dict:=none,data:=.set es ep t}
def ar(tk:Nat->Tok)(m:Nat):Array (Int×Value):=((List.range m).map fun(k:Nat)=>((k:Int),Value.int k (tk k))).toArray
def SX(ld:Bool)(m:Nat)(a:Addr)(h:Heap):Prop:=m<=14/\∃tk ep,h.get? a=some (IJ (ar tk m) ep (tb ld m))
theorem ec:(ar tk m).size=m:=by simp[ar]
theorem w6{e:Int×Value}:e∈(ar tk m).toList<->∃k<m,e=((k:Int),.int (k:Int) (tk k)):=by simp[ar,eq_comm]
theorem Gm(tk:Nat->Tok)(m:Nat)(t:Tok):(ar tk m).push ((m:Int),.int (m:Int) t)=ar (fun k=>if k=m then t else tk k) (m+1):=by unfold ar;rw[List.range_succ,BN,List.push_toArray,List.map_congr_left (g:=fun(k:Nat)=>((k:Int),Value.int k (if k=m then t else tk k))) fun k hk=>by rw[Uu (Uh (List.mem_range.mp hk))]];simp
theorem pL(ld:Bool)(h:m<=14):(tb ld m).fits (ar tk m).size=true:=by rw[ec];cases m with|zero=>rfl|succ m=>exact(yo ld m Qt).2.2.2.1
section
variable{prog:Program}{w:World}{A:Around}{E:RG}{s:Shared}{a:Addr}{m n:Nat}{t:Tok}{ld:Bool}
theorem SX.keep(x:SX ld m a h)(k:∀o,h.get? a=some o->h'.get? a=some o):SX ld m a h':=by obtain⟨z,tk,ep,ho⟩:=x;exact⟨z,tk,ep,k _ ho⟩
theorem KZ{Q:Bool->Shared->Prop}(hS:SX ld m a s.heap)(hn:n<=m)(hm:n<14)(h:∀h' b,Heap.SameBut a s.heap h'->SX ld (if n=m then m+1 else m) a h'->Q b {s with heap:=h'}):wpAny (model prog w) A (setAddHashed a (.int n t) (hashInt n)) Q E s:=by
 obtain⟨i9,tk,ep,ho⟩:=id hS;have hf:=pL (tk:=tk) ld i9;have Xt:ElemsOf (intKind prog w) (ar tk m).toList:=fun e he=>by obtain⟨k,hk,rfl⟩:=w6.mp he;exact⟨⟨k,intKind_is _ _ _ _,(yo ld k Qt).2.2.2.2.symm⟩,rfl⟩
 have hb:(ar tk m).size<scanBound:=by rw[ec];unfold scanBound;lia
 have DE:(intKind prog w).is n (.int n t)=true:=intKind_is _ _ _ _;unfold setAddHashed setAddHashedIn;refine Jn (ZM (wpAny_setState_of ho rfl hf ?_));dsimp only;rw[byScan_of (knd:=intKind prog w) rfl hb Xt];simp only[↓reduceIte];unfold setAddByScan;refine ZM (ZM (AN (ZM (wpAny_setScan_of (knd:=intKind prog w) DE ho rfl hf Xt ?_))));cases hr:List.findIdx? (fun e=>(intKind prog w).is n e.2) (ar tk m).toList with
 |some j=>
  obtain⟨hj,XF,_⟩:=List.findIdx?_eq_some_iff_getElem.mp hr;obtain⟨k,hk,e⟩:=w6.mp (G4 hj);rw[e] at XF;have:(k:Int)=n:=beq_iff_eq.mp (show ((k:Int) == n)=true from XF);refine Pf (Pf ?_);have e:s={s with heap:=s.heap}:=by cases s;rfl
  rw[e];exact h s.heap _ (Heap.SameBut.refl a s.heap) (by rw[Uu Qt];exact hS)
 |none=>
  have Zi:n=m:=by by_cases z:n=m;exact z;have:=List.findIdx?_eq_none_iff.mp hr _ (w6.mpr ⟨n,Qt,rfl⟩);rw[show (intKind prog w).is (n:Int) (Value.int n (tk n))=true from intKind_is _ _ _ _] at this;cases this
  subst Zi;obtain⟨q1,q2,q3,q4,q5⟩:=yo ld n hm;rw[Wr rfl] at h;have ly:layNew (tb ld n) (ar tk n) (hashInt n) (.int n t)=(ar (fun k=>if k=n then t else tk k) (n+1),if n=4 then t5 ld else tb ld (n+1),false,false):=by
   have fit:(if n=4 then t5 ld else tb ld (n+1)).fits (n+1)=true:=by split;rename_i z;subst z;exact(S9 ld).2.1;exact q4
   unfold layNew;rw[q1];dsimp only;rw[q2];have ins:SetTable.insertAt (ar tk n) n (hashInt n,.int n t)=ar (fun k=>if k=n then t else tk k) (n+1):=by rw[<-Gm,q5];have e:=ec (tk:=tk) (m:=n);rw[<-Array.toList_inj,SetTable.toList_insertAt,Array.toList_push,HY (by simp[e]),List.drop_eq_nil_of_le (by simp[e])]
   rw[ins,SetTable.orStandIn,ec,Wr fit,fit];rfl
  generalize tb ld n=T0 at ly ⊢;dsimp only;generalize layNew T0 (ar tk n) (hashInt n) (.int n t)=Ly at ly ⊢;subst ly;dsimp only;refine ZM ?_;show wpAny _ _ (pure ()) _ _ _;refine Pf ?_;have pl:(if n=4 then t5 ld else tb ld (n+1)).plain=true:=by split<;>rfl
  rw[Wr pl,hashByValue_scannable 8 (x:=.int n t) rfl];refine ZM (Pf ?_);simp only[show plainKind (Value.int n t)=true from rfl,↓reduceIte];have sz:(ar (fun k=>if k=n then t else tk k) (n+1)).size<=sizeLine:=by rw[ec,Ji];lia
  refine ZM (wpAny_storeSet_of ho rfl ?_ sz);have o1:=xK (Obj.putSet (ar (fun k=>if k=n then t else tk k) (n+1)) (if n=4 then t5 ld else tb ld (n+1))) ho rfl;have s1:=MS s.heap a (Obj.putSet (ar (fun k=>if k=n then t else tk k) (n+1)) (if n=4 then t5 ld else tb ld (n+1)));by_cases z:n=4;subst z;rw[Wr rfl] at o1 s1 ⊢;obtain⟨r1,r2,r3⟩:=S9 ld;rw[Wr (by rw[r1];rfl)];have ry:relayAll (t5 ld) (ar (fun k=>if k=4 then t else tk k) (4+1)) (SetTable.grown (ar (fun k=>if k=4 then t else tk k) (4+1)).size)=(ar (fun k=>if k=4 then t else tk k) 5,tb ld 5,false):=by unfold relayAll;rw[show SetTable.grown (ar (fun k=>if k=4 then t else tk k) (4+1)).size=20 by rw[ec];rfl,show (ar (fun k=>if k=4 then t else tk k) (4+1)).map (·.1)=#[0,1,2,3,4] by simp[ar,List.range_succ],r3];simp[ar,List.range_succ,coversAll,List.isPerm,show (tb ld 5).fits 5=true from by cases ld<;>rfl]
  generalize relayAll (t5 ld) (ar (fun k=>if k=4 then t else tk k) (4+1)) (SetTable.grown (ar (fun k=>if k=4 then t else tk k) (4+1)).size)=Rl at ry ⊢;subst ry;dsimp only;refine ZM ?_;show wpAny _ _ (pure ()) _ _ _;refine Pf (ZM (wpAny_storeSet_of o1 rfl ?_ sz));exact Pf (Pf (h _ _ (s1.trans (MS _ a _)) ⟨Qt,_,_,xK _ o1 rfl⟩));rw[Uu z] at o1 s1 ⊢;rw[q3,Uu Ro];exact Pf (Pf (h _ _ s1 ⟨Qt,_,_,o1⟩))
end
end VZ
namespace VZ
open PySem PySem.Spec PyProof.Rows
section
variable{prog:Program}{w:World}{A:Around}{R:Result->Shared->Prop}{I:Addr}{fp wr:XU}{G:Array GenState->Array GenState->Prop}{P:Nat->Value->Prop}{St:Nat->Shared->Prop}
theorem Q1r{ns:T1}(W:WalksS prog w A.in1 I fp wr G ns.length P St)(S:Addr)(zw:S∉fp)(ld:Bool)(VH:∀i v,P i v->∃t,v=.int (ns.getD i 0) t) : ∀(k i:Nat)(s:Shared)(m:Nat),ns.length-i=k->i<=ns.length->St i s->SX ld m S s.heap->VP.asc m (ns.drop i)=some M ->
  (∀s',Moved (S::wr) G s s'->SX ld M S s'.heap->R (.ok (.ret .none)) s') ->
  codeAny (model prog w) A (.builtin "set.update.loop" ⟨[.ref S,.ref I],[]⟩) R s:=by
 have Xl:S∉wr:=fun h=>zw (W.sub _ h);have sub:∀b∈wr,b∈S::wr:=fun b=>Uq _;intro k;induction k with|zero=>intro i s m hk hi st hS hp hR;obtain rfl:i=ns.length:=Qt;rw[List.drop_length] at hp;cases hp;refine EH F.entry_set_update_loop ?_;rw[K5 F.plain_set_update_loop _];refine ZM (m:=pyNext (.ref I)) (W.done s _ _ st fun s' hm=>?_);exact Pf (hR s' (hm.mono sub) (hS.keep fun o=>hm.heap S o Xl))|succ k ih=>intro i s m hk hi st hS hp hR;have lt:i<ns.length:=Qt;rw[Bv lt,VP.asc] at hp;split at hp;rename_i hc;refine EH F.entry_set_update_loop ?_;rw[K5 F.plain_set_update_loop _];refine ZM (m:=pyNext (.ref I)) (W.item i s _ _ lt st fun v s' hP mD hm=>?_);obtain⟨t,rfl⟩:=VH i v hP;obtain⟨n,hn⟩:∃n:Nat,ns[i]=n:=⟨ns[i].toNat,Qt⟩;rw[hn] at hc hp;rw[show ns.getD i 0=n by simp[lt,hn]];refine ZM (m:=holding [Value.int n t] (setAdd S (.int n t))) (Jn ?_);unfold setAdd;refine Jn (ZM ((intKind prog w).pyHash (k:=n) (intKind_is _ _ _ _) ?_));refine KZ (s:={s' with toks:=s'.toks+1}) (hS.keep fun o=>hm.heap S o Xl) (n:=n) Qt Qt fun h' b sb S'=>?_;refine Pf ⟨EG F.plain_set_update_loop _,ih (i+1) _ _ Qt lt (W.frame _ s' _ _ mD (Jh _) fun b hb o e=>?_) S' (by rw[<-hp];congr 1;split<;>split<;>lia) fun BG Pb S2=>?_⟩;rw[sb.2 b fun z=>zw (z ▸ hb)];exact e;refine hR BG (Moved.trans W.gtrans ((hm.mono sub).then_heap (Jh _) fun b o hb e=>?_) Pb) S2;rw[sb.2 b fun z=>hb (z ▸ Bl)];exact e;cases hp
end
abbrev uO(w:World):Bool:=w.params.followText "set-order"
abbrev sO(w:World):Obj:={cls:=.type "set",dict:=none,data:=.set #[] 0 (.fresh 0 0 !uO w)}
section
variable{prog:Program}{w:World}{A:Around}{E:RG}{s:Shared}
theorem pX(a:Value){Q:RG}(h:Q (.ref s.heap.objs.size) {s with heap:=s.heap.push (sO w)}) : codeAny (model prog w) A (.call (.builtin "set.__new__") ⟨[.type "set",a],[]⟩) (wants Q E) s:=by
 refine codeAny_of_tree ?_;show wpAny _ A.in1 (checkBuiltinCall "set.__new__" ⟨[.type "set",a],[]⟩ >>= fun _=>again (.builtin "set.__new__" ⟨[.type "set",a],[]⟩)) _ _ s;refine ZM (Iy (PySem.F.newCall_set_1 a) (Pf ⟨EG PySem.F.plain_set_new _,EH PySem.F.entry_set_new ?_⟩));rw[K5 PySem.F.plain_set_new _];unfold Builtin.«set.__new__» Builtin.Frozenset.newClass;have hs:=sub_set_self;obtain⟨hp,g,d,tk,os⟩:=s;dsimp only
 wp_walk
 refine wpAny_askSetting (Pf ?_);dsimp only;simp only[newObj];exact ZM (wpAny_alloc (Pf (Pf h)))
set_option maxHeartbeats 3200000 in
theorem Q1Z{l:Addr}{items:Array Value}{ns:T1}{Q:RG}(hh:A.handled=none)(hl:s.heap.IsList l items)(hi:IntsAre items.toList ns)(hb:VP.asc 0 ns=some M)
  (h:∀(h':Heap)(tk:Nat),SX (!uO w) M s.heap.objs.size h'->(∀b o,s.heap.get? b=some o->h'.get? b=some o)->Q (.ref s.heap.objs.size) {s with heap:=h',toks:=tk}) :
  wpAny (model prog w) A (call (.type "set") [.ref l]) Q E s:=by
 obtain⟨c,tl,Zg⟩:=PySem.F.called_set.mro;have XB:=PySem.F.called_set.made;have DK:=PySem.F.called_set.sub;refine wpAny_call (codeAny_of_tree ?_);show wpAny _ _ (callAny (.type "set") _) _ _ _;refine Pf ⟨Code.quiet_builtin _ (by decide +kernel),EH PySem.F.entry_type_call ?_⟩;rw[Around.under_plain (weight_type_call_type "set" [.ref l] []) rfl];have h1:=PySem.F.called_set.notType;have h2:=PySem.F.called_set.canCreate;have hct:=PySem.F.typeCall_set_1 (.ref l);repeat (any_goals (first|assumption|wp_step))
 refine Ay (pX (.ref l) (E:=E) (Q:=fun v bx=>v=.ref s.heap.objs.size/\bx={s with heap:=s.heap.push (sO w)}) ⟨rfl,rfl⟩) fun r bx hr=>?_;cases r with
  |error e=>exact hr|ok fl=>
   cases fl with
   |ret obj=>
    obtain⟨rfl,rfl⟩:=hr;have hS:(s.heap.push (sO w)).get? s.heap.objs.size=some (sO w):=TR _ rfl;have hT:Shared.TypeIs {s with heap:=s.heap.push (sO w)} (.ref s.heap.objs.size) "set" := ⟨_,hS,rfl⟩;have hli:=PySem.F.called_set.init.lookup;have hbi:=PySem.F.called_set.init.bind (.ref s.heap.objs.size);repeat (any_goals (first|assumption|wp_step))
    refine Ay (codeAny_call_builtin (R:=wants (fun r nW=>r=.none/\∃h' tk,nW={s with heap:=h',toks:=tk}/\SX (!uO w) M s.heap.objs.size h'/\∀b o,s.heap.get? b=some o->h'.get? b=some o) E) PySem.F.called_set.init.plain PySem.F.entry_set_init (check_set_init_1 hT ?_)) fun Wm nW DJ=>?_
    ·obtain⟨⟨ZP,X8,X7,We⟩,LQ,O4,nl,O5⟩:=hl;simp only at O4 O5;subst O4;subst O5;have VA:=T2 (sO w) LQ;have Zr:=PySem.F.sub_list_set;have Zq:=PySem.F.sub_list_frozenset;have AJ:(Value.type "list" == Value.type "dict")=false:=by decide
     have GO:(s.heap.push (sO w)).IsList l items:=⟨_,VA,rfl,nl,rfl⟩;unfold Builtin.«set.__init__» noKeywords Builtin.Frozenset.updateFrom;generalize YQ:pyIter=PI
     wp_walk
     subst YQ;refine qY GO (ZM (wpAny_runValue ?_));have lt:l<s.heap.objs.size:=Ta LQ;have nI:l≠(s.heap.push (sO w)).objs.size:=by rw[A6];exact Uh (Ht lt)
     have nS:s.heap.objs.size∉[(s.heap.push (sO w)).objs.size,l]:=by rw[A6];simp only[List.mem_cons,List.not_mem_nil,or_false,not_or];exact⟨Uh (By _),Ov lt⟩
     have hz:items.size=ns.length:=by have:=IntsAre.length hi;simpa using this
     refine Q1r (ns:=ns) (hz ▸ (Walks.list (by simp[hh]) _ l nI items).toS) _ nS (!uO w) (fun i v hv=>IntsAre.int_at hi i v (by rw[Array.getElem?_toList];exact hv)) (ns.length-0) 0 _ 0
      rfl (ER _) ⟨⟨_,TR _ rfl,rfl,rfl⟩,GO.push _⟩ ?_ hb fun s' hm GK=>?_
     ·exact⟨Qt,fun _=>0,0,T2 _ hS⟩
     ·obtain⟨h',g',d',WK,Wd⟩:=s';have eg:g'=s.gens:=hm.gens;have ed:d'=s.drawn:=hm.drawn;have eo:Wd=s.os:=hm.os;subst eg;subst ed;subst eo;refine Pf (Pf ⟨rfl,h',WK,rfl,GK,fun b o e=>?_⟩);have J1:=Ta e;exact hm.heap b o (by rw[A6];simp only[List.mem_cons,List.not_mem_nil,or_false,not_or];exact⟨Uh J1,Uh (Ht J1)⟩) (T2 _ (T2 _ e))
    ·cases Wm with
    |error e=>exact DJ|ok Qo=>
     cases Qo with
     |ret r=>
      obtain⟨rfl,h',tk,rfl,a1,a3⟩:=DJ;repeat (any_goals (first|assumption|wp_step))
      exact h _ _ a1 a3
     |_=>exact DJ.elim
   |_=>exact hr.elim
end
end VZ
namespace VZ
open PySem PySem.Spec PyProof.Rows
theorem Bj{α:Type}(f:Nat->Nat):∀(n k:Nat)(l:List α)(out:Array α),n=l.length->(pickOrder.go f n k l out).toList.Perm (out.toList++l):=by intro n;induction n with|zero=>intro k l out h;obtain rfl:=List.length_eq_zero_iff.mp h.symm;unfold pickOrder.go;simp|succ n ih=>intro k l out h;have lt:f k % l.length<l.length:=Nat.mod_lt _ Qt;unfold pickOrder.go;rw[Nc lt];dsimp only;refine(ih _ _ _ (by rw[List.length_eraseIdx_of_lt lt];lia)).trans ?_;rw[Array.toList_push,List.append_assoc,List.eraseIdx_eq_take_drop_succ,List.singleton_append];refine List.Perm.append_left _ (List.perm_middle.symm.trans (List.Perm.of_eq ?_));rw[<-Bv lt,List.take_append_drop]
theorem k7:entryFor table "set.__iter__" = some Builtin.«frozenset.__iter__»:=entryFor_alias (id':="frozenset.__iter__") (by kernel_rfl) (by first|rfl|decide +kernel|(unfold String.splitOn;simp +decide [String.splitOnAux])) (by decide +kernel) (by kernel_rfl)
theorem slot_next:Slot "set_iterator" "__next__" "set_iterator.__next__":=.of (owner:="set_iterator") (n:="__next__") (by rw[Ea,SS];kernel_rfl) (by decide +kernel) (by decide +kernel) (by decide +kernel) (by first|exact .inl (by decide +kernel)|exact .inr (by decide +kernel)) (by rw[ya];kernel_rfl)
theorem entry_next:entryFor table "set_iterator.__next__" = some Builtin.«set_iterator.__next__» := entryFor_of_tree (by kernel_rfl)
theorem vY:Manifest.owners.lookup (String.ofList "rotareti_tes".toList.reverse)=some Manifest.sig_set_iterator:=by kernel_rfl
theorem args_next(a:Value):argsOk "set_iterator.__next__" ⟨[a],[]⟩:=by unfold argsOk;rw[signature?_of (id:="set_iterator.__next__") (n:=['_','_','t','x','e','n','_','_']) (o:="rotareti_tes".toList) (by kernel_rfl) vY];kernel_rfl
theorem Ad:Slot "set_iterator" "__iter__" "set_iterator.__iter__":=.of (owner:="set_iterator") (n:="__iter__") (by rw[Ea,SS];kernel_rfl) (by decide +kernel) (by decide +kernel) (by decide +kernel) (by first|exact .inl (by decide +kernel)|exact .inr (by decide +kernel)) (by rw[ya];kernel_rfl)
theorem Gn(a:Value):argsOk "set_iterator.__iter__" ⟨[a],[]⟩:=by unfold argsOk;rw[signature?_of (id:="set_iterator.__iter__") (n:=['_','_','r','e','t','i','_','_']) (o:="rotareti_tes".toList) (by kernel_rfl) vY];kernel_rfl
theorem C4:entryFor table "set_iterator.__iter__" = some Builtin.«dict_keyiterator.__iter__»:=entryFor_alias (id':="dict_keyiterator.__iter__") (by kernel_rfl) (by first|rfl|decide +kernel|(unfold String.splitOn;simp +decide [String.splitOnAux])) (by decide +kernel) (by kernel_rfl)
def od(w:World)(S:Addr)(ep:Nat)(es:Array (Int×Value)):Array (Int×Value):=if uO w then pickOrder (w.params.setOrder S ep) es else es
theorem zR(w:World)(S:Addr)(ep:Nat)(es:Array (Int×Value)):(od w S ep es).toList.Perm es.toList:=by unfold od;split;have:=Bj (w.params.setOrder S ep) es.size 0 es.toList #[] Ro;simpa[pickOrder] using this;exact .rfl
theorem ui:(od w S ep (ar tk m)).size=m:=by rw[<-RD,(zR ..).length_eq,RD,ec]
abbrev GV(w:World)(i:Nat)(S:Addr)(n ep:Nat):Obj:={cls:=.type "set_iterator",data:=.fields #[rawInt ((if uO w then 0 else i:Nat):Int),rawInt i,.ref S,rawInt n,rawInt ep]}
def At(w:World)(S:Addr)(tk:Nat->Tok)(m ep:Nat)(it:Addr)(i:Nat)(h:Heap):Prop:=h.get? it=some (GV w i S m ep)/\h.get? S=some (IJ (ar tk m) ep (tb (!uO w) m))
section
variable{prog:Program}{w:World}{A:Around}{E:RG}{s:Shared}
theorem yv{Q:Bool->Shared->Prop}(h:Q (uO w) s):wpAny (model prog w) A setsByText Q E s:=by unfold setsByText;exact ZM (wpAny_askSetting (Pf h))
theorem Hz{Q:Option (Value×Nat)->Shared->Prop}(i9:m<=14)(hi:i<=m)(ho:s.heap.get? S=some (IJ (ar tk m) ep (tb (!uO w) m)))(hQ:Q (((od w S ep (ar tk m))[i]?).map fun e=>(e.2,if uO w then 0 else i+1)) s):wpAny (model prog w) A (setNext S (if uO w then 0 else i) i ep) Q E s:=by have hf:=pL (tk:=tk) (!uO w) i9;unfold setNext;refine ZM (wpAny_setState_of ho rfl hf ?_);dsimp only;refine ZM (yv ?_);unfold od at hQ;cases q:uO w with|true=>rw[q] at hQ;rw[Wr rfl,Uu Ro];refine ZM (m:=setWalk S) ?_;unfold setWalk;refine ZM (wpAny_setState_of ho rfl hf ?_);dsimp only;refine ZM (yv ?_);rw[q,Wr rfl];exact ZM (wpAny_askSetting (Pf (Pf hQ)))|false=>rw[q] at hQ;rw[Uu (by decide)];show wpAny _ _ (if (!true&&decide ((ar tk m).size > 1))=true then _ else _) _ _ _;rw[Uu Ro];refine ZM ?_;show wpAny _ _ (if (!true&&!(ar tk m).isEmpty)=true then _ else _) _ _ _;rw[Uu Ro];refine Pf (Pf ?_);rw[Uu (by decide)];show Q (match (ar tk m)[SetTable.below (Array.range m) i]?,(Array.range m)[SetTable.below (Array.range m) i]? with|some (_,x),some j=>some (x,j+1)|_,_=>none) s;rw[Q2p m Qt i Qt];rw[Uu (by decide),Uu (by decide)] at hQ;by_cases z:i<m;rw[Array.getElem?_eq_getElem (by rw[ec];exact z)] at hQ ⊢;simpa[z] using hQ;rw[Array.getElem?_eq_none (by rw[ec];lia)] at hQ ⊢;exact hQ
theorem step(hh:A.handled=none)(i9:m<=14)(hi:i<=m)(hS:S≠it)(a:At w S tk m ep it i s.heap){Q:X0->Shared->Prop}(hQ:∀x h',((od w S ep (ar tk m)).toList.map (·.2))[i]?=some x->At w S tk m ep it (i+1) h'->Heap.SameBut it s.heap h'->Q (some x) {s with heap:=h'}) (h0:i=m->∀h',Heap.ExtBut it s.heap h'->Q none {s with heap:=h'}):wpAny (model prog w) A (pyNext (.ref it)) Q E s:=by obtain⟨ho,Vg⟩:=a;have sz:=ui (w:=w) (S:=S) (ep:=ep) (tk:=tk) (m:=m);unfold pyNext;refine ZM (SV (yp (name:=Str.ofString "__next__") ⟨_,ho,rfl⟩ slot_next (D6 slot_next ⟨_,ho,rfl⟩ entry_next ?_ (args_next _))));unfold Builtin.«set_iterator.__next__»;refine ZM (Iy (a:=(Value.ref it,[])) rfl ?_);refine ZM (wpAny_fieldsOf ho rfl ?_);dsimp only[rawInt];refine ZM ?_;unfold setEntries;refine ZM (wpAny_setState_of Vg rfl (pL _ i9) (Pf ?_));rw[Uu (by rw[ec];simp)];simp only[AR];refine ZM (Hz i9 hi Vg ?_);rw[LM,Array.getElem?_toList] at hQ;cases he:(od w S ep (ar tk m))[i]? with|some e=>rw[Qy];refine ZM (Jj ho Ro fun h1 o1 s1=>ZM (Jj o1 Ro fun h2 o2 s2=>Pf ⟨_,rfl,Pf (hQ _ h2 (by rw[he];rfl) ⟨?_,(s1.trans s2).extBut _ _ hS Vg⟩ (s1.trans s2))⟩));exact o2|none=>rw[Option.map_none];refine ZM (Jj ho Ro fun h1 o1 sb=>ZM ?_);have z:=Array.getElem?_eq_none_iff.mp he;simp only[newExc,newTuple];refine ZM (Eb ?_ (by size_fits));refine ZM (m:=firstArgMember _ _) (Iy (a:=Value.none) (by first|rfl|(simp only[firstArgMember];rfl)) ?_);refine Eb ?_ (by size_fits);simp only[raiseNew];refine ZM (wpAny_handled ?_);rw[show A.in1.handled=none from hh];refine ZM (Pf (wpAny_throw ?_));refine ZM (S0 (T:="StopIteration") (b:=true) ⟨_,TR _ rfl,rfl⟩ isSubtype_stop ?_);exact Pf (h0 Qt _ ((sb.extBut.push _).push _))
theorem walks(hh:A.handled=none)(i9:m<=14)(hS:S≠it):WalksS prog w A it [it,S] [it] (fun a b=>b=a) m (fun i v=>((od w S ep (ar tk m)).toList.map (·.2))[i]?=some v) (fun i s=>i<=m/\At w S tk m ep it i s.heap) where
 sub:=fun b hb=>by simp at hb;simp[hb]
 grefl:=fun _=>rfl
 gtrans:=fun _ _ _ h1 h2=>h2.trans h1
 frame:=fun i s h' tk st _ k=>⟨st.1,k _ Ro _ st.2.1,k _ Ro _ st.2.2⟩
 item:=fun i s Q E hi st hQ=>step hh i9 st.1 hS st.2 (fun x h' e mD sb=>hQ _ _ e ⟨hi,mD⟩ ⟨fun b o hb e=>sb.extBut _ _ (by simpa using hb) e,rfl,rfl,rfl,ZS _⟩) fun z=>Qt
 done:=fun s Q E st hQ=>step hh i9 st.1 hS st.2 (fun x _ e=>by have:=(List.getElem?_eq_some_iff.mp e).1;rw[uG,RD,ui] at this;lia) fun _ h' sb=>hQ _ ⟨fun b o hb e=>sb _ _ (by simpa using hb) e,rfl,rfl,rfl,ZS _⟩
 self:=fun i s Q E st hQ=>wpAny_pyIter_slot ⟨_,st.2.1,rfl⟩ Ad (D6 Ad ⟨_,st.2.1,rfl⟩ C4 (Pf ⟨_,rfl,"set_iterator",_,⟨_,st.2.1,rfl⟩,slot_next.lookup,hQ⟩) (Gn _))
end
end VZ
namespace VZ
open PySem PySem.Spec PyProof.Rows
section
variable{prog:Program}{w:World}{A:Around}{E:RG}{s:Shared}
theorem DD(hS:s.TypeIs (.ref S) "set"){Q:Bool->Shared->Prop}(h:Q false s):wpAny (model prog w) A (Builtin.List.listLengthHint (.ref S)) Q E s:=by
 unfold Builtin.List.listLengthHint;refine ZM (yr hS PySem.F.slot_set_len.lookup ?_);generalize J5:("set.__len__" : String)=Q6
 wp_delta
 rw[show splitId Q6=some ("set","__len__") from by subst J5;decide +kernel];subst J5;refine ZM (S0 (b:=true) hS sub_set_self ?_);rw[Uu (by decide)];show wpAny _ _ (if _ then _ else _) _ _ _;rw[Wr (by decide +kernel)];exact ZM (RX hS (Pf h))
theorem va(hh:A.handled=none)(hS:SX (!uO w) m S s.heap){Q:Ul->Shared->Prop}(hQ:∀s' vs ns,IntsAre vs ns->ns.Perm ((List.range m).map fun(k:Nat)=>(k:Int))->(∀b o,s.heap.get? b=some o->s'.heap.get? b=some o)->s'.gens=s.gens->s'.os=s.os->s.heap.objs.size<s'.heap.objs.size->Q vs s'):wpAny (model prog w) A (collect (.ref S)) Q E s:=by
 obtain⟨i9,tk,ep,ho⟩:=hS;have hz:m<=sizeLine:=by rw[Ji];lia
 have hf:=pL (tk:=tk) (!uO w) i9;refine ZM (m:=runValue (.builtin "proto.collect" ⟨[.ref S],[]⟩)) (wpAny_runValue (EH PySem.F.entry_proto_collect ?_));rw[K5 PySem.F.plain_proto_collect _];refine ZM (m:=newList []) (Eb (Pf ⟨EG PySem.F.plain_list_iadd _,EH PySem.F.entry_list_iadd ?_⟩));rw[K5 PySem.F.plain_list_iadd _];have nL:s.heap.objs.size≠S:=Ov (Ta ho);show wpAny _ _ (Builtin.List.listExtendWith (.ref s.heap.objs.size) (.ref S) (.ref s.heap.objs.size)) _ _ _;unfold Builtin.List.listExtendWith;have oS:(s.heap.push {cls:=.type "list",data:=.seq ([]:Ul).toArray}).get? S=some (IJ (ar tk m) ep (tb (!uO w) m)):=T2 _ ho;refine ZM (RX (T:="set") ⟨_,oS,rfl⟩ ?_);rw[Uu (by rw[show Builtin.List.listSameRef (.ref s.heap.objs.size) (.ref S)=false by simp[Builtin.List.listSameRef,nL]];decide)];refine ZM (wpAny_pyIter_slot ⟨_,oS,rfl⟩ PySem.F.slot_set_iter (D6 PySem.F.slot_set_iter ⟨_,oS,rfl⟩ k7 ?_ (PySem.F.args_set_iter_1 _)));unfold Builtin.«frozenset.__iter__»;refine ZM (Iy (a:=S) rfl ?_);refine ZM ?_;unfold Builtin.Frozenset.sizeOf setEntries;refine ZM (ZM (wpAny_setState_of oS rfl hf (Pf (Pf ?_))));refine ZM ?_;unfold setDrawn;refine ZM (wpAny_setState_of oS rfl hf ?_);dsimp only;refine ZM (yv (Pf ?_));show wpAny _ _ (if (!uO w&&(!true&&decide ((ar tk m).size > 1)))=true then _ else _) _ _ _;rw[Uu Ro];refine ZM (Pf (ZM (wpAny_setEpoch_of oS rfl hf ?_)));rw[ec];refine ZM (m:=newFields _ _) (Eb (Pf ⟨_,rfl,"set_iterator",_,⟨_,TR _ rfl,rfl⟩,slot_next.lookup,?_⟩));dsimp only;obtain⟨h1,e1⟩:∃h1,h1=(s.heap.push {cls:=.type "list",data:=.seq ([]:Ul).toArray}).push {cls:=.type "set_iterator",data:=.fields #[rawInt 0,rawInt 0,.ref S,rawInt m,rawInt ep]}:=⟨_,rfl⟩;have k1:∀b o,(s.heap.push {cls:=.type "list",data:=.seq ([]:Ul).toArray}).get? b=some o->h1.get? b=some o:=fun b o e=>by rw[e1];exact T2 _ e
 have oI:h1.get? (s.heap.push {cls:=.type "list",data:=.seq ([]:Ul).toArray}).objs.size=some (GV w 0 S m ep):=by rw[e1,show GV w 0 S m ep={cls:=.type "set_iterator",data:=.fields #[rawInt 0,rawInt 0,.ref S,rawInt m,rawInt ep]} by unfold GV;rw[ite_self];rfl];exact TR _ rfl
 have sz:s.heap.objs.size<(s.heap.push {cls:=.type "list",data:=.seq ([]:Ul).toArray}).objs.size:=by rw[size_push'];exact By _
 have oL:h1.get? s.heap.objs.size=some {cls:=.type "list",data:=.seq #[]}:=k1 _ _ (TR _ rfl);rw[<-e1];generalize (s.heap.push {cls:=.type "list",data:=.seq ([]:Ul).toArray}).objs.size=it at *;replace oS:=k1 _ _ oS;refine ZM (Jn (DD ⟨_,oS,rfl⟩ ?_));rw[Wr (by decide)];refine ZM (AN (ZM (m:=updateSeq s.heap.objs.size (·.push .none) >>= fun _=>updateSeq s.heap.objs.size (·.pop)) (ZM (S6 oL rfl ?_))));have q1:=xK (Obj.mapSeq (·.push Value.none)) oL rfl;refine S6 (hz:=by seq_fits) q1 rfl ?_;have q2:=xK (Obj.mapSeq (·.pop)) q1 rfl;have sI:S≠it:=fun z=>by have:=Ta ho;lia
 have HJ:∀b o,b≠s.heap.objs.size->h1.get? b=some o->((h1.update s.heap.objs.size (Obj.mapSeq (·.push Value.none))).update s.heap.objs.size (Obj.mapSeq (·.pop))).get? b=some o:=fun b o hb e=>(Mz _ _ (Ry hb)).trans ((Mz _ _ (Ry hb)).trans e);have W:=walks (prog:=prog) (w:=w) (A:=A.in1) (it:=it) (ep:=ep) (tk:=tk) (m:=m) hh i9 sI;refine Pf ⟨EG PySem.F.plain_extend_loop _,codeAny_extend_loopS W hz s.heap.objs.size (by simp;exact⟨Uh sz,nL⟩) _ m 0 _ _ _ rfl (ER _) ⟨ER _,HJ _ _ (Ov sz) oI,HJ _ _ nL.symm oS⟩ q2 (ItemsOf.nil _) fun s' acc c hm hL gX=>?_⟩;refine ZM (wpAny_load hL (Pf ?_));have el:acc.toList=(od w S ep (ar tk m)).toList.map (·.2):=by refine FF (by rw[RD,gX.1,uG,RD,ui]) fun j h1 h2=>?_;have:((od w S ep (ar tk m)).toList.map (·.2))[j]?=some acc[j]:=gX.2 j _ (Array.getElem?_eq_getElem (by simpa using h1));rw[Nc h2] at this;simpa using (OH this).symm
 have hI:IntsAre ((ar tk m).toList.map (·.2)) ((List.range m).map fun(k:Nat)=>(k:Int)):=by unfold ar;rw[List.toList_toArray,E1];generalize List.range m=l;induction l with|nil=>exact .nil|cons k l ih=>exact .cons _ _ ih
 have pm:=(zR w S ep (ar tk m)).map (·.2);rw[el];refine hQ s' _ _ (intsAre_map _ fun v hv=>hI.all v (pm.mem_iff.mp hv)) (by rw[<-hI.nums];exact pm.map _) (fun b o e=>hm.heap b o ?_ (HJ b o (Uh (Ta e)) (k1 _ _ (T2 _ e)))) hm.gens hm.os (Ta hL);have:=Ta e;simp;exact⟨Uh this,Uh (G2 this sz)⟩
theorem ye{Q:RG}(hh:A.handled=none)(hS:SX (!uO w) m S s.heap)
  (h:∀s' q c out ns,s'.heap.get? q=some (seqObj "list" out c)->IntsAre out.toList ns->ns.Perm ((List.range m).map fun(k:Nat)=>(k:Int))->ns.Pairwise (·<=·)->(∀b o,s.heap.get? b=some o->s'.heap.get? b=some o)->s.heap.objs.size<=q->s'.gens=s.gens->s'.os=s.os->Q (.ref q) s') :
  wpAny (model prog w) A (call (.builtin "sorted") [.ref S]) Q E s:=by
 refine Calls.call_function_entry kind_sorted plain_sorted entry_sorted (args_sorted1 _) ?_;unfold Builtin.«sorted»;refine ZM (m:=checkCount "sorted" 1 1 _) (Pf ?_);refine ZM (va (A:=A.in1) hh hS fun s1 vs ns hI hp hk hg GQ sz=>?_);have hl:vs.length<64:=by rw[IntsAre.length hI,hp.length_eq];have:=hS.1;simp;lia
 refine ZM (wpAny_newList (hsz:=by rw[Ji];lia) ?_);have oL:(s1.heap.push (seqObj "list" vs.toArray 0)).get? s1.heap.objs.size=some (seqObj "list" vs.toArray 0):=TR _ rfl;refine ZM (Jn (D6 slot_list_sort ⟨_,oL,rfl⟩ entry_list_sort (list_sort_tree oL hI hl fun out BF a1 a2 a3=>⟨_,rfl,?_⟩) (args_list_sort _)));obtain⟨c,hc⟩:=sortedHeap_at (out:=out) oL;refine Pf ⟨_,rfl,h _ _ c out BF hc a1 (a2.trans hp) a3 (fun b o e=>?_) (Nat.le_of_lt sz) hg GQ⟩;have lt:=Ta (hk _ _ e);rw[sortedHeap_old (Uh lt) (by rw[size_push'];exact Ht lt)];exact T2 _ (hk _ _ e)
end
end VZ
end
section
set_option linter.all false
set_option maxRecDepth 100000
namespace VS
open PySem PySem.Spec PyProof.Rows L2 VP
def E5(K:Frag):OY->Hp->VK->Prop:=fun xs H Q=>∃(q:Addr)(ns:T1)(m:Nat),xs=[.ref q]/\cX K H q (ns.map V.int)/\asc 0 ns=some m/\∀p,H p=none->Q (.ref p) (upd H p (.lst ((List.range m).map fun(k:Nat)=>V.int k)))
section
variable{X:Cx}{EX:XE}{a:Expr}{fa:M D}{p pos p' V6:Pos}
theorem HS(hg:Gl X "set")(hm:X.mg "set" = none)(vH:Gl X "sorted")(xu:X.mg "sorted" = none)(hc:X.calm=true)(ha:PA X [a] t)(hs:starEach [a] X.env=[(false,eval a X.env)]:=by rfl)(iM:starEach [.Call (.Name "set" p) [a] [] pos] X.env=[(false,eval (.Call (.Name "set" p) [a] [] pos) X.env)]:=by rfl):PE X (.Call (.Name "sorted" p') [.Call (.Name "set" p) [a] [] pos] [] V6) (Po (E5 X.K) t):=by
 intro Ug s σ H Q I h;refine Qn (dA I vH xu boot_sorted (PyProof.Rows.callWith_builtin1 ?_ iM rfl));rw[iM];refine Np (Call_ (dA I hg hm boot_set (Nj (bT (ha pos Ug s σ H _ I h) fun us s1 zz=>?_) hs rfl)));obtain⟨vs,H1,I1,r1,q1⟩:=zz;obtain⟨q,ns,m,rfl,hq,ha,k⟩:=q1;obtain⟨u,rfl,ru⟩:=vals1 r1;cases ru;obtain⟨aI,rv,sq⟩:=Inv.pf I1 (t:=false) hq;refine VZ.Q1Z (items:=aI.toArray) (I1.ok.hd hc) sq (intsAre_of rv) ha fun h' tk hS hk=>?_;refine Mw (VZ.ye (I1.ok.hd hc) hS fun s3 q3 c out n3 o3 i3 p3 w3 k3 z3 g3 ZQ=>?_);obtain⟨h3,gg,dd,tt,oo⟩:=s3;cases g3;cases ZQ;have e3:=(mz p3 w3).trans (mz .rfl (List.pairwise_map.mpr (List.pairwise_lt_range.imp fun h=>Qt))).symm;have vi:=gF i3;rw[e3,E1] at vi;have z:((List.range m).map fun(k:Nat)=>V.int k).length<=sizeLine:=by rw[uG,LZ,Ji];have:=hS.1;lia
 have z1:s1.heap.objs.size<=q3:=WH (Nat.le_of_lt (let ⟨_,_,_,e⟩:=hS;Ta e)) z3;have J:=I1.laid (t':=tt) (o:=.lst ((List.range m).map fun(k:Nat)=>V.int k)) (h':=h3) (fun b o e=>k3 b o (hk b o e)) z1 ⟨z,out.toList,c,vi,o3⟩;exact⟨.ref q3,_,⟨J.ok,J.os,J.bare,J.base,J.loc,J.cell,J.free,J.jP,J.pin,J.cj,J.len⟩,rfl,k _ (I1.cj.fresh z1)⟩
theorem LH{L:Lc}:Jy L (E5 L.K) wy:=fun G F H σ ρ x dx d Q g0 rx e k=>by
 unfold wy at e;split at e;rename_i ds;cases e2:dm ds with
 |none=>rw[e2] at e;cases e|some ns=>
  rw[e2] at e;obtain⟨m,hm,rfl⟩:=Option.map_eq_some_iff.mp e;have fin:∀q vs,cX L.K H q vs->aM L.K L.mg F vs ds->E5 L.K [.ref q] H Q:=fun q vs hq r=>by obtain rfl:=ints_of r e2;exact⟨q,ns,m,rfl,hq,hm,fun l hl=>k _ _ _ (bg (g0.sub.free hl)) (g0.laid hl) (.lst (cX.of aO) (aM.map (fun(k:Nat)=>Den.int k) _))⟩
  rcases rx with dd|⟨l,rfl,vs,hl,r⟩;obtain⟨q,vs,rfl,hq,r⟩:=Den.l dd;exact fin q vs (cX.same hq g0.sub) r;exact fin l vs (cX.of hl) r
 cases e
theorem Iw(hg:Gl X "set")(hm:X.mg "set" = none)(vH:Gl X "sorted")(xu:X.mg "sorted" = none)(ha:PR X EX a fa)(hc:X.calm=true:=by rfl)(hs:starEach [a] X.env=[(false,eval a X.env)]:=by rfl)(iM:starEach [.Call (.Name "set" p) [a] [] pos] X.env=[(false,eval (.Call (.Name "set" p) [a] [] pos) X.env)]:=by rfl):PV X EX (.Call (.Name "sorted" p') [.Call (.Name "set" p) [a] [] pos] [] V6) (m1 wy fa):=
 (HS hg hm vH xu hc (lz ha hs) hs iM).le fun σ H Q bF=>dt bF fun G F F1 H1 bw d1 x s1 g1 r1 o1=>by obtain⟨d,e,q⟩:=o1.opt;exact LH G F1 H1 σ bw x d1 d Q g1 r1 e (eU.same s1 q)
theorem EI{e:Expr}{f:M D}(h:PB X EX e (tB f)):PB X EX e (tB (nD f)):=L2.PT.le h fun σ H Q bF=>lf bF fun G F ρ g0 o=>
 ⟨_,_,_,Good.view g0,(show Out (tB f (ρ.map bM)) (fun b _=>eU (lc X EX) RB G F σ Q b ρ) (fun _ _=>False) by
  unfold tB VP.Pd nD at o;unfold tB VP.Pd;cases q:f (ρ.map bM) with
  |no=>rw[q] at o;exact o.elim|exc x r=>rw[q] at o;exact o.elim|ok d r=>
   rw[q] at o;dsimp only at o ⊢;split at o;rename_i z;split at z;cases z;cases d with|bl b=>exact o|_=>exact o.elim
   cases z;rename_i z;split at z<;>cases z;exact o.elim).mono (fun b r q F4 H4 b' s4 g4 z=>by
  obtain⟨u1,u2⟩:=Good.n5 g0 g4;exact q _ _ _ u1 u2 z) fun _ _ z=>z.elim⟩
end
end VS
end
section
namespace VP
section
variable{α β:Type}
noncomputable def Res.then{α β:Type}:Res α->(α->M β)->Res β|.ok a r,g=>g a r|.exc x r,_=>.exc x r|.no,_=>.no
noncomputable def Res.seq:Res Fl->M Fl->Res Fl|.ok .nx r,g=>g r|.ok k r,_=>.ok k r|.exc x r,_=>.exc x r|.no,_=>.no
noncomputable def Res.turn:Res Fl->M Fl->Res Fl|.ok .nx r,g=>g r|.ok .ct r,g=>g r|.ok .bk r,_=>.ok .nx r|.ok (.rt d) r,_=>.ok (.rt d) r|.exc x r,_=>.exc x r|.no,_=>.no
@[simp] theorem aA(a:α)(r:aS)(g:α->M β):(Res.ok a r).then g=g a r:=OW
@[simp] theorem Q0c(c:Prop)[Decidable c](a b:Res α)(g:α->M β):(if c then a else b).then g=if c then a.then g else b.then g:=by split<;>rfl
@[simp] theorem uE(r:aS)(g:M Fl):(Res.ok .nx r).seq g=g r:=OW
@[simp] theorem Q0e(d:D)(r:aS)(g:M Fl):(Res.ok (.rt d) r).seq g=.ok (.rt d) r:=OW
@[simp] theorem Q2v(c:Prop)[Decidable c](a b:Res Fl)(g:M Fl):(if c then a else b).seq g=if c then a.seq g else b.seq g:=by split<;>rfl
@[simp] theorem Q0h(r:aS)(g:M Fl):(Res.ok .nx r).turn g=g r:=OW
@[simp] theorem Q0C(d:D)(r:aS)(g:M Fl):(Res.ok (.rt d) r).turn g=.ok (.rt d) r:=OW
@[simp] theorem dS(a:α)(r:aS):ret a r=.ok a r:=OW
@[simp] theorem cy(a:α):opt (some a)=ret a:=OW
theorem aK(f:M α)(g:α->M β)(r:aS):Pd f g r=(f r).then g:=by unfold Pd;cases f r<;>rfl
@[simp] theorem Q30(d:D)(r:aS):mC d r=.ok d r:=OW
@[simp] theorem Kl(g:D->Rg)(a:M D)(r:aS):m1 g a r=(a r).then fun x=>opt (g x):=aK _ _ _
@[simp] theorem Q2i(g:D->D->Rg)(a b:M D)(r:aS):m2 g a b r=(a r).then fun x r=>(b r).then fun y=>opt (g x y):=by unfold m2;rw[aK];congr;funext x r;exact aK _ _ _
@[simp] theorem Q3B(r:aS):mL [] r=.ok [] r:=OW
@[simp] theorem Q2Q(f:M D)(fs:List (M D))(r:aS):mL (f::fs) r=(f r).then fun x r=>(mL fs r).then fun xs=>ret (x::xs):=by
 conv=>lhs;unfold mL
 rw[aK];congr;funext x r;exact aK _ _ _
@[simp] theorem RH(g:XW->Rg)(as:List (M D))(r:aS):mF g as r=(mL as r).then fun xs=>opt (g xs):=aK _ _ _
@[simp] theorem Hs(as:List (M D))(r:aS):bh as r=(mL as r).then fun xs=>opt (Bu xs):=aK _ _ _
@[simp] theorem Hm(as:List (M D))(r:aS):dB as r=(mL as r).then fun xs=>opt (AX xs):=aK _ _ _
def boolOf:D->M Bool|.bl b=>ret b|_=>stuck
@[simp] theorem Q0L(b:Bool):boolOf (.bl b)=ret b:=OW
@[simp] theorem SY(a:M D)(r:aS):tB a r=(a r).then boolOf:=by unfold tB;rw[aK];cases a r with|ok d r'=>cases d<;>rfl|_=>rfl
@[simp] theorem Jd(a:M Bool)(r:aS):mG a r=(a r).then fun b=>ret (!b):=aK _ _ _
@[simp] theorem Jb(a b:M Bool)(r:aS):lD a b r=(a r).then fun x r=>if x=true then b r else .ok false r:=by unfold lD;rw[aK];congr;funext x r;cases x<;>rfl
@[simp] theorem OA(a b:M Bool)(r:aS):rE a b r=(a r).then fun x r=>if x=true then .ok true r else b r:=by unfold rE;rw[aK];congr;funext x r;cases x<;>rfl
@[simp] theorem Mt(c:M Bool)(a b:M D)(r:aS):zM c a b r=(c r).then fun x r=>if x=true then a r else b r:=by unfold zM;rw[aK];congr;funext x r;cases x<;>rfl
@[simp] theorem Ee(a b:M D)(r:aS):oG a b r=((a r).then boolOf).then fun x r=>if x=true then b r else .ok (.bl false) r:=by
 unfold oG;rw[aK];cases a r with
 |ok d r'=>
  cases d<;>try rfl
  rename_i b;cases b<;>rfl
 |_=>rfl
@[simp] theorem Hn(a b:M D)(r:aS):A2 a b r=((a r).then boolOf).then fun x r=>if x=true then .ok (.bl true) r else b r:=by
 unfold A2;rw[aK];cases a r with
 |ok d r'=>
  cases d<;>try rfl
  rename_i b;cases b<;>rfl
 |_=>rfl
@[simp] theorem Q2s(r:aS):aC r=.ok .nx r:=OW
@[simp] theorem pJ(f g:M Fl)(r:aS):ao f g r=(f r).seq g:=by unfold ao Pd;cases f r with|ok k r'=>cases k<;>rfl|_=>rfl
@[simp] theorem nQ(f:M Unit)(r:aS):FY f r=(f r).then fun _=>ret .nx:=aK _ _ _
@[simp] theorem IL(f:M D)(r:aS):aF f r=(f r).then fun d=>ret (.rt d):=aK _ _ _
@[simp] theorem Oe(c:M Bool)(a b:M Fl)(r:aS):bP c a b r=(c r).then fun x r=>if x=true then a r else b r:=by unfold bP;rw[aK];congr;funext x r;cases x<;>rfl
@[simp] theorem IM(i:Nat)(f:M D)(r:aS):aP i f r=(f r).then fun d r=>if free r[i]?=true then .ok .nx (r.set i (.sh d)) else .no:=by unfold aP;rw[aK];congr;funext d r;rw[nQ];unfold oZ;split<;>rfl
@[simp] theorem IK(i:Nat)(f:M D)(r:aS):fT i f r=(f r).then fun d r=>if free r[i]?=true then .ok .nx (r.set i (.ow d)) else .no:=by unfold fT;rw[aK];congr;funext d r;rw[nQ];unfold El;split<;>rfl
@[simp] theorem Od(i:Nat)(f:M Fl)(r:aS):wO i f r=(Pj i r).then fun _=>f:=aK _ _ _
noncomputable def SN:Option Sl->Option D|some (.sh d)=>some d|_=>none
noncomputable def anyOf:Option Sl->Option D|some (.sh d)=>some d|some (.ow d)=>some d|some (.io d)=>some d|_=>none
@[simp] theorem Q3A(d:D):SN (some (.sh d))=some d:=OW
@[simp] theorem Q0f(d:D):anyOf (some (.ow d))=some d:=OW
@[simp] theorem Q2t:free (some .no)=true:=OW
@[simp] theorem Q04(d:D):free (some (.sh d))=true:=OW
@[simp] theorem xZ(d:D):own (some (.ow d))=some d:=OW
@[simp] theorem Q33(d:D):own (some (.io d))=some d:=OW
@[simp] theorem Q2J(i:Nat)(r:aS):af i r=opt (SN r[i]?) r:=by unfold af;cases h:r[i]? with|none=>rfl|some s=>cases s<;>rfl
@[simp] theorem Mu(i:Nat)(r:aS):xI i r=opt (anyOf r[i]?) r:=by unfold xI;cases h:r[i]? with|none=>rfl|some s=>cases s<;>rfl
noncomputable def Xg(i:Nat)(r:aS):Option Sl->Res Unit|some (.ow d)=>.ok () (r.set i (.sh d))|some (.sh _)=>.ok () r|_=>.no
@[simp] theorem Q3I(i:Nat)(r:aS):Pj i r=Xg i r r[i]?:=by unfold Pj;cases h:r[i]? with|none=>rfl|some s=>cases s<;>rfl
@[simp] theorem Q0d(i:Nat)(r:aS)(d:D):Xg i r (some (.ow d))=.ok () (r.set i (.sh d)):=OW
noncomputable def N2(i:Nat)(r:aS):Option Sl->D->aS|some (.ow _),d=>r.set i (.ow d)|some (.io _),d=>r.set i (.io d)|_,_=>r
@[simp] theorem uw(i:Nat)(d:D)(r:aS):cL i d r=N2 i r r[i]? d:=by unfold cL;cases h:r[i]? with|none=>rfl|some s=>cases s<;>rfl
@[simp] theorem uv(i:Nat)(r:aS)(e d:D):N2 i r (some (.ow e)) d=r.set i (.ow d):=OW
@[simp] theorem Q2z(i:Nat)(r:aS)(e d:D):N2 i r (some (.io e)) d=r.set i (.io d):=OW
@[simp] theorem ma(i:Nat)(g:D->Rg)(r:aS):fR i g r=(opt (own r[i]?) r).then fun d r=>(opt (g d) r).then fun d' r=>.ok () (cL i d' r):=by unfold fR;cases own r[i]? with|none=>rfl|some d=>simp only[cy,dS,aA];cases g d<;>rfl
@[simp] theorem IH(i:Nat)(fe:M D)(r:aS):lC i fe r=if isLst (own r[i]?)=true then(fe r).then fun x r=>(fR i (gj x) r).then fun _=>ret .nx else .no:=by unfold lC;split;rw[aK];congr;funext x r;exact nQ _ _;rfl
@[simp] theorem isLst_lst(ds:XW):isLst (some (.lst ds))=true:=OW
@[simp] theorem Bq(i:Nat)(fk fv:M D)(r:aS):gT i fk fv r=(fv r).then fun v r=>if isLst (own r[i]?)=true then(fk r).then fun k r=>(fR i (setAt k v) r).then fun _=>ret .nx else .no:=by unfold gT;rw[aK];congr;funext v r;split;rw[aK];congr;funext k r;exact nQ _ _;rfl
@[simp] theorem qg(i:Nat)(d:D)(r:aS):aD i d r=if free r[i]?=true then .ok () (r.set i (.sh d)) else .no:=OW
@[simp] theorem zN(i:Nat)(d:D)(r:aS):oZ i d r=if free r[i]?=true then .ok () (r.set i (.sh d)) else .no:=OW
@[simp] theorem Q0M(r:aS):rf [] [] r=.ok () r:=OW
@[simp] theorem sr(i:Nat)(is:Ue)(d:D)(ds:XW)(r:aS):rf (i::is) (d::ds) r=(oZ i d r).then fun _=>rf is ds:=aK _ _ _
@[simp] theorem Q0t(is:Ue)(ds:XW):cz is (.tup ds)=rf is ds:=OW
@[simp] theorem II(it:M (List D))(g:D->M Unit)(body:M Fl)(r:aS):fE it g body r=(it r).then fun ds=>loop g body ds:=aK _ _ _
@[simp] theorem nz(g:D->M Unit)(body:M Fl)(d:D)(ds:XW)(r:aS):loop g body (d::ds) r=(g d r).then fun _ r=>(body r).turn (loop g body ds):=by
 conv=>lhs;unfold loop
 rw[aK];congr;funext u r;rw[aK];cases body r with|ok k r'=>cases k<;>rfl|_=>rfl
@[simp] theorem Q2w(k:Nat)(g:D->M Unit)(test:M Bool)(elt:M D)(r:aS):turns k g test elt [] r=.ok () r:=OW
@[simp] theorem lE(k:Nat)(g:D->M Unit)(test:M Bool)(elt:M D)(d:D)(ds:XW)(r:aS):turns k g test elt (d::ds) r=(g d r).then fun _ r=>(test r).then fun b r=>if b=true then(elt r).then fun x r=>(fR k (gj x) r).then fun _=>turns k g test elt ds else turns k g test elt ds r:=by
 conv=>lhs;unfold turns
 rw[aK];congr;funext u r;rw[aK];congr;funext b r;cases b with|true=>simp only[if_true];rw[aK];congr;funext x r;exact aK _ _ _|false=>rfl
theorem qw(n:Nat)(it:M (List D))(g:D->M Unit)(test:M Bool)(elt:M D)(r:aS):aQ n it g test elt r=(it r).then fun ds=>inner n fun k=>turns k g test elt ds:=aK _ _ _
def fin(fl:Ur):Res Fl->FR
|.ok (.rt d) r=>match cu fl r with
  |some cK=>.ok d cK|none=>.no
 |.ok .nx r=>match cu fl r with|some cK=>.ok .bE cK|none=>.no
 |.exc x r=>match cu fl r with|some cK=>.exc x cK|none=>.no
 |_=>.no
theorem fG(n:Nat)(fl:Ur)(body:M Fl)(ds:XW)(h:ds.length=fl.length):defn n fl body ds=fin fl (body (dc n fl ds)):=by unfold defn;rw[Wr h];cases body (dc n fl ds) with|ok k r=>cases k<;>rfl|_=>rfl
def JM(js:Ue)(r:aS):FR->Res D|.ok d cK=>.ok d (putAll js cK r)|.exc x cK=>.exc x (putAll js cK r)|.no=>.no
@[simp] theorem pU(js:Ue)(r:aS)(d:D)(cK:XW):JM js r (.ok d cK)=.ok d (putAll js cK r):=OW
@[simp] theorem Q1l(ds:XW)(r:aS):putAll [] ds r=r:=OW
@[simp] theorem Q0Q(j:Nat)(js:Ue)(d:D)(ds:XW)(r:aS):putAll (j::js) (d::ds) r=putAll js ds (cL j d r):=OW
@[simp] theorem Q0Z(r:aS):bS [] r=.ok [] r:=OW
@[simp] theorem Q2y(f:M D)(as:List Arg)(r:aS):bS (.val f::as) r=(f r).then fun d r=>(bS as r).then fun vs=>ret (.val d::vs):=by
 conv=>lhs;unfold bS
 rw[aK];congr;funext x r;exact aK _ _ _
@[simp] theorem Q3C(r:aS):qU [] r=some []:=OW
@[simp] theorem Q1N(d:D)(as:List AV)(r:aS):qU (.val d::as) r=(qU as r).map (d::·):=OW
@[simp] theorem Q1J(j:Nat)(as:List AV)(r:aS):qU (.io j::as) r=(own r[j]?).bind fun d=>(qU as r).map (d::·):=by
 conv=>lhs;unfold qU
 cases own r[j]?<;>rfl
@[simp] theorem Q36:fQ []=[]:=OW
@[simp] theorem DR(d:D)(as:List AV):fQ (.val d::as)=fQ as:=OW
@[simp] theorem GW(j:Nat)(as:List AV):fQ (.io j::as)=j::fQ as:=OW
@[simp] theorem Ef(f:Fn)(as:List Arg)(r:aS):az f as r=(bS as r).then fun vs=>oY f vs:=aK _ _ _
@[simp] theorem ua(f:Fn)(vs:List AV)(r:aS):oY f vs r=(opt (qU vs r) r).then fun ds r=>if (fQ vs).Nodup then JM (fQ vs) r (f ds) else .no:=by unfold oY;cases qU vs r with|none=>rfl|some ds=>simp only[cy,dS,aA];split;cases f ds<;>rfl;rfl
@[simp] theorem oO(n:Nat)(b:Bool)(bs:Ur)(d:D)(ds:XW):dc (n+1) (b::bs) (d::ds)=(if b=true then .io d else .sh d)::dc n bs ds:=by cases b<;>rfl
@[simp] theorem qQ(n:Nat):dc n [] []=List.replicate n .no:=OW
@[simp] theorem Q1F(i j:Int):a8 (.int i) (.int j)=some (.int (i+j)):=OW
@[simp] theorem Af(i j:Int):gU (.int i) (.int j)=some (.int (i-j)):=OW
@[simp] theorem Hy(i:Int):ug (.int i)=some (.int (-i)):=OW
@[simp] theorem nB(i j:Int):ltI (.int i) (.int j)=some (.bl (decide (i<j))):=OW
@[simp] theorem gM(i j:Int):qV (.int i) (.int j)=some (.bl (decide (i<=j))):=OW
@[simp] theorem Dx(i j:Int):Dw (.int i) (.int j)=some (.bl (decide (j<i))):=OW
@[simp] theorem Du(i j:Int):OZ (.int i) (.int j)=some (.bl (decide (j<=i))):=OW
theorem iJ(i j:Int)(h:0<j):pe (.int i) (.int j)=some (.int (i % j)):=Wr h
theorem sk(i j:Int)(h:0<j)(h2:j<1073741824):zr (.int i) (.int j)=some (.int (i / j)):=Wr ⟨h,h2⟩
theorem nH(i j:Int)(h:-(2 ^ 64)<i)(h2:i<2 ^ 64):nG (.int i) (.int j)=some (.int (i*j)):=Wr (.inl ⟨h,h2⟩)
theorem gP(i j:Int)(h:-(2 ^ 64)<j)(h2:j<2 ^ 64):nG (.int i) (.int j)=some (.int (i*j)):=Wr (.inr ⟨h,h2⟩)
@[simp] theorem iZ(i j:Int):cn (.int i) (.int j)=some (.bl (decide (i=j))):=by simp[cn,plain,C5];rfl
@[simp] theorem du(i j:Int):gD (.int i) (.int j)=some (.bl (!decide (i=j))):=by simp[gD,plain,C5];rfl
@[simp] theorem Q2q(ds:XW):bz (.tup ds)=some (.int ds.length):=OW
@[simp] theorem Q0N(ds:XW):bz (.lst ds)=some (.int ds.length):=OW
@[simp] theorem ub(i j:Int):maxD [.int i,.int j]=some (.int (max i j)):=by simp only[maxD,Option.some.injEq,D.int.injEq];split<;>lia
@[simp] theorem Fe(ds:XW):cq (.tup ds)=some ds:=OW
@[simp] theorem Q37(ds:XW):cq (.lst ds)=some ds:=OW
@[simp] theorem Hr(f:M D)(r:aS):cJ f r=(f r).then fun d=>opt (cq d):=aK _ _ _
@[simp] theorem Em(fl:List (M D))(r:aS):cQ fl r=(mL fl r).then fun xs=>opt (rA xs):=aK _ _ _
@[simp] theorem Hu(fl:List (M D))(r:aS):rp fl r=(mL fl r).then fun xs=>opt (oa xs):=aK _ _ _
noncomputable def Rf(n:Nat):XW:=(List.range n).map fun(i:Nat)=>D.int i
theorem IC(j:Int)(h:-(2 ^ 62)<=j)(h2:j<2 ^ 62):rA [.int j]=some (Rf j.toNat):=Wr ⟨h,h2⟩
theorem Jg(ds:XW)(h:ds.length<=16777216):Bu ds=some (.tup ds):=Wr h
theorem Hf(ds:XW)(h:ds.length<=16777216):AX ds=some (.lst ds):=Wr h
@[simp] theorem Q0u:AX []=some (.lst []):=OW
theorem iP(x:D)(xs:XW)(h:xs.length<16777216):gj x (.lst xs)=some (.lst (xs++[x])):=by show (if _ then _ else _)=_;rw[Wr h]
theorem BO(xs ys:XW)(h:xs.length+ys.length<=jn):a8 (.tup xs) (.tup ys)=some (.tup (xs++ys)):=Wr h
theorem lJ(xs ys:XW)(h:xs.length+ys.length<=jn):a8 (.lst xs) (.lst ys)=some (.lst (xs++ys)):=Wr h
theorem lh(xs:XW)(i:Int)(d:D)(h0:0<=i)(h:xs[i.toNat]?=some d):zF xs i=some d:=by have hl:=(List.getElem?_eq_some_iff.mp h).1;unfold zF G5;rw[Wr h0,Wr Qt];exact h
@[simp] theorem Q0P(xs:XW)(i:Int):au (.tup xs) (.int i)=zF xs i:=OW
@[simp] theorem kj(xs:XW)(i:Int):au (.lst xs) (.int i)=zF xs i:=OW
def intOf:D->M (Option Int)|.int i=>ret (some i)|_=>stuck
@[simp] theorem xH(f:M D)(r:aS):l7 (some f) r=(f r).then intOf:=by show Pd f _ r=_;rw[aK];cases f r with|ok d r'=>cases d<;>rfl|_=>rfl
@[simp] theorem Mv(g:D->Pq->Pq->Rg)(f:M D)(lo hi:Option (M D))(r:aS):o6 g f lo hi r=(f r).then fun d r=>(l7 lo r).then fun l r=>(l7 hi r).then fun h=>opt (g d l h):=by unfold o6;rw[aK];congr;funext d r;rw[aK];congr;funext l r;exact aK _ _ _
@[simp] theorem Ms(g g2:D->D->Rg)(a b c:M D)(r:aS):AY g g2 a b c r=(a r).then fun x r=>(b r).then fun y r=>((opt (g x y) r).then boolOf).then fun k r=>if k=true then(c r).then fun z=>opt (g2 y z) else .ok (.bl false) r:=by
 unfold AY;rw[aK];congr;funext x r;rw[aK];congr;funext y r;rw[aK];cases g x y with
 |none=>rfl|some d=>
  cases d<;>try rfl
  rename_i k;cases k;rfl;exact aK _ _ _
@[simp] theorem Hq(f:M D)(r:aS):Ho f r=(f r).then fun d=>opt ((cq d).map List.reverse):=aK _ _ _
@[simp] theorem vd(xs:XW)(lo hi:Pq):eG (.lst xs) lo hi=some (.lst (cutD xs lo hi)):=OW
theorem dU{r:aS}{xs:aS}{s s':Sl}:(r++s::xs).set r.length s'=r++s'::xs:=by rw[List.set_append_right _ _ (ZS _)];simp
theorem dk{r:aS}{xs:aS}{s:Sl}:(r++s::xs)[r.length]?=some s:=by rw[HU (ZS _)];simp
theorem wG{r:aS}{s:Sl}{acc:XW}{x:D}(h:acc.length<16777216):fR (r.length+1) (gj x) (r++[s,.ow (.lst acc)])=.ok () (r++[s,.ow (.lst (acc++[x]))]):=by have e:r++[s,Sl.ow (.lst acc)]=(r++[s])++Sl.ow (.lst acc)::[]:=Ro;have e2:r.length+1=(r++[s]).length:=Ro;rw[e,e2,ma,dk];simp only[xZ,cy,dS,aA,iP x acc h,uw,dk,uv,dU];simp
theorem Qj(t:D->Bool)(f:D->D)(qk:it r=.ok ds r)(hk:k=r.length)(hL:ds.length<=16777216)
  (ht:∀d∈ds,∀acc,test (r++[.sh d,.ow acc])=.ok (t d) (r++[.sh d,.ow acc]))
  (he:∀d∈ds,t d=true->∀acc,elt (r++[.sh d,.ow acc])=.ok (f d) (r++[.sh d,.ow acc])) :
  aQ 1 it (aD k) test elt r=.ok (.lst ((ds.filter t).map f)) r:=by
 subst hk;have key:∀(es:XW)(acc:XW)(s:Sl),free (some s)=true->(∀d∈es,d∈ds)->acc.length+es.length<=16777216->∃s',turns (r.length+1) (aD r.length) test elt es (r++[s,.ow (.lst acc)])=.ok () (r++[s',.ow (.lst (acc++(es.filter t).map f))]):=by
  intro es;induction es with
  |nil=>intro acc s _ _ _;exact⟨s,Ro⟩|cons d es ih=>
   intro acc s hs hm hl;have hd:=hm d Bl;have QS:∀x∈es,x∈ds:=fun x hx=>hm x (Uq _ hx);have e1:aD r.length d (r++[s,.ow (.lst acc)])=.ok () (r++[.sh d,.ow (.lst acc)]):=by rw[qg,dk,Wr hs,dU]
   rw[lE,e1,aA,ht d hd,aA];cases q:t d with|false=>obtain⟨s',z⟩:=ih acc (.sh d) rfl QS (by simp at hl;lia);refine⟨s',?_⟩;rw[Uu Ro,z,BC,q,Uu Ro]|true=>obtain⟨s',z⟩:=ih (acc++[f d]) (.sh d) rfl QS (by simp at hl ⊢;lia);refine⟨s',?_⟩;rw[Wr rfl,he d hd q,aA,wG (by simp at hl;lia),aA,z,BC,q,Wr rfl];simp
 obtain⟨s',z⟩:=key ds [] .no rfl (fun _ h=>h) (by simpa using hL);rw[qw,qk,aA];unfold inner;have e:r++List.replicate 1 Sl.no++[Sl.ow (.lst [])]=r++[.no,.ow (.lst [])]:=Ro;dsimp only;rw[e,z];have e2:(r++[s',Sl.ow (.lst ([]++(ds.filter t).map f))])[r.length+1]?=some (.ow (.lst ([]++(ds.filter t).map f))):=by rw[HU Qt];simp
 simp only[e2];simp
theorem Q16(f:D->D)(qk:it r=.ok ds r)(hk:k=r.length)(hL:ds.length<=16777216)
  (he:∀d∈ds,∀acc,elt (r++[.sh d,.ow acc])=.ok (f d) (r++[.sh d,.ow acc])) :
  aQ 1 it (aD k) (ret true) elt r=.ok (.lst (ds.map f)) r:=by
 have:=Qj (test:=ret true) (fun _=>true) f qk hk hL (fun _ _ _=>rfl) (fun d h _=>he d h);rw[this,List.filter_eq_self.mpr (fun _ _=>rfl)]
end
@[simp] theorem bnd(r:aS):cu [] r=some []:=by cases r<;>rfl
@[simp] theorem Q2u(bs:Ur)(s:Sl)(r:aS):cu (false::bs) (s::r)=cu bs r:=OW
@[simp] theorem Q38(bs:Ur)(d:D)(r:aS):cu (true::bs) (.io d::r)=(cu bs r).map (d::·):=OW
noncomputable def Lv(d:D):Option (List D)->FR|some cK=>.ok d cK|none=>.no
@[simp] theorem Q34(d:D)(l:XW):Lv d (some l)=.ok d l:=OW
@[simp] theorem Q03(fl:Ur)(d:D)(r:aS):fin fl (.ok (.rt d) r)=Lv d (cu fl r):=by unfold fin Lv;first|(dsimp only;done)|(dsimp only;cases cu fl r<;>rfl)
@[simp] theorem wq(n:Nat):List.replicate (n+1) Sl.no=.no::List.replicate n .no:=OW
@[simp] theorem Kw:List.replicate 0 Sl.no=[]:=OW
noncomputable def T(xs:T1):D:=.tup (xs.map .int)
noncomputable def Z(xs:T1):D:=.lst (xs.map .int)
@[simp] theorem Mn(xs:T1):bz (T xs)=some (.int xs.length):=by simp[T]
@[simp] theorem D7(xs:T1):bz (Z xs)=some (.int xs.length):=by simp[Z]
@[simp] theorem uD(xs:T1):cq (T xs)=some (xs.map .int):=OW
@[simp] theorem Og(xs:T1):cq (Z xs)=some (xs.map .int):=OW
@[simp] theorem Hi(xs:T1):iI (T xs)=some (Z xs):=OW
@[simp] theorem Hj(xs:T1):iI (Z xs)=some (Z xs):=OW
@[simp] theorem Q1M(xs:T1):jw (T xs)=some (T xs):=OW
@[simp] theorem Q1d(xs:T1):jw (Z xs)=some (T xs):=OW
@[simp] theorem Q0j(xs:T1)(i:Int):au (Z xs) (.int i)=zF (xs.map .int) i:=OW
theorem gx(xs:T1)(i:Int)(h0:0<=i)(h:i<xs.length):zF (xs.map D.int) i=some (.int (xs.getD i.toNat 0)):=by refine lh _ _ _ h0 ?_;have h2:i.toNat<xs.length:=Qt;simp[h2]
theorem eY(xs ys:T1)(h:xs.length+ys.length<=jn):a8 (T xs) (T ys)=some (T (xs++ys)):=by unfold T;rw[BO]<;>simp[h]
theorem KY(xs ys:T1)(h:xs.length+ys.length<=jn):a8 (Z xs) (Z ys)=some (Z (xs++ys)):=by unfold Z;rw[lJ]<;>simp[h]
theorem BS(xs:T1)(x:Int)(h:xs.length<16777216):gj (.int x) (Z xs)=some (Z (xs++[x])):=by unfold Z;rw[iP];simp;simpa using h
theorem OE:D.tup []=T []:=OW
theorem Rx:D.lst []=Z []:=OW
theorem fS(n:Nat)(xs:T1):fC n (xs.map .int)=true:=by induction xs with|nil=>cases n<;>rfl|cons x xs ih=>simp[fC,ih];cases n<;>simp[plain]
theorem kf(xs ys:T1):p8 (xs.map .int) (ys.map .int)=decide (xs=ys):=by induction xs generalizing ys with|nil=>cases ys<;>simp[p8]|cons x xs ih=>cases ys with|nil=>simp[p8]|cons y ys=>simp[p8,ih,C5];rfl
@[simp] theorem C6(xs ys:T1):cn (T xs) (T ys)=some (.bl (decide (xs=ys))):=by unfold cn T;simp[plain,fS,yP,yQ,kf]
@[simp] theorem Er(xs ys:T1):gD (T xs) (T ys)=some (.bl (!decide (xs=ys))):=by unfold gD T;simp[plain,fS,yP,yQ,kf]
@[simp] theorem Q19(xs ys:T1):cn (Z xs) (Z ys)=some (.bl (decide (xs=ys))):=by unfold cn Z;simp[plain,fS,yP,yQ,kf]
theorem Q2P(a b:D)(xs ys:T1)(ha:cq a=some (xs.map .int))(hb:cq b=some (ys.map .int)):oa [a,b]=some ((xs.zip ys).map fun p=>.tup [.int p.1,.int p.2]):=by simp only[oa,ha,hb];congr 1;clear ha hb;induction xs generalizing ys with|nil=>simp|cons x xs ih=>cases ys with|nil=>simp|cons y ys=>simp[ih]
@[simp] theorem N9(xs:T1):rz (Z xs)=some (T xs.reverse):=by simp[rz,T]
theorem mw(j:Int)(n:Nat)(h:j.toNat=n)(h2:-(2 ^ 62)<=j)(h3:j<2 ^ 62):rA [.int j]=some ((List.range n).map fun(k:Nat)=>.int k):=by subst h;exact IC j h2 h3
noncomputable def bq(g:D->M Unit)(body:M Fl)(d:D)(r:aS):Res Fl:=(g d r).then fun _=>body
noncomputable def cont:Res Fl->Option aS|.ok .nx r=>some r|.ok .ct r=>some r|_=>none
@[simp] theorem Q05(r:aS):cont (.ok .nx r)=some r:=OW
theorem ko(h:cont (bq g body d r)=some r'):loop g body (d::ds) r=loop g body ds r':=by rw[nz];unfold bq at h;cases q:g d r with|no=>rw[q] at h;cases h|exc x r=>rw[q] at h;cases h|ok u r1=>rw[q,aA] at h;rw[aA];cases q2:body r1 with|no=>rw[q2] at h;cases h|exc x r=>rw[q2] at h;cases h|ok k r2=>rw[q2] at h;cases k with|nx=>cases h;rfl|ct=>cases h;rfl|bk=>cases h|rt v=>cases h
theorem D8(h:bq g body d r=.ok (.rt v) r'):loop g body (d::ds) r=.ok (.rt v) r':=by rw[nz];unfold bq at h;cases q:g d r with|no=>rw[q] at h;cases h|exc x r=>rw[q] at h;cases h|ok u r1=>rw[q,aA] at h;rw[aA,h];rfl
noncomputable def jO{S E A:Type}(step:S->A->E ⊕ S):List A->S->E ⊕ S|[],s=>.inr s|a::as,s=>match step s a with|.inl e=>.inl e|.inr s'=>jO step as s'
theorem lp{S Tm A:Type}(mk:A->D)(R:S->Tm->aS)(ok:Tm->Prop)(step:S->A->D ⊕ S):∀(as:List A)(P:Nat->S->Prop)(s:S)(t:Tm),ok t->P 0 s ->
  (∀(i:Nat)(a:A),as[i]?=some a->∀s t,ok t->P i s->match step s a with|.inr s'=>P (i+1) s'/\∃t',ok t'/\cont (bq g body (mk a) (R s t))=some (R s' t')|.inl v=>∃s' t',bq g body (mk a) (R s t)=.ok (.rt v) (R s' t')) ->
  match jO step as s with|.inr s'=>P as.length s'/\∃t',ok t'/\loop g body (as.map mk) (R s t)=.ok .nx (R s' t')|.inl v=>∃s' t',loop g body (as.map mk) (R s t)=.ok (.rt v) (R s' t'):=by
 intro as;induction as with|nil=>intro P s t ht hs _;exact⟨hs,t,ht,rfl⟩|cons a as ih=>intro P s t ht hs h;have h1:=h 0 a rfl s t ht hs;simp only[jO,List.map_cons];cases q:step s a with|inl v=>rw[q] at h1;obtain⟨s',t',e⟩:=h1;exact⟨s',t',D8 e⟩|inr s1=>rw[q] at h1;obtain⟨p1,t1,o1,e1⟩:=h1;have h2:=ih (fun k=>P (k+1)) s1 t1 o1 p1 fun i a' ha=>h (i+1) a' (by simpa using ha);have e:(a::as).length=as.length+1:=Ro;dsimp only;rw[e];cases q2:jO step as s1 with|inl v=>rw[q2] at h2;obtain⟨s',t',z⟩:=h2;exact⟨s',t',by rw[ko e1];exact z⟩|inr s2=>rw[q2] at h2;obtain⟨p2,t2,o2,z⟩:=h2;exact⟨p2,t2,o2,by rw[ko e1];exact z⟩
theorem ja{S Tm A:Type}(mk:A->D)(R:S->Tm->aS)(ok:Tm->Prop)(P:Nat->S->Prop)(step:S->A->S)(as:List A)(s:S)(t:Tm)(ht:ok t)(hs:P 0 s)
  (h:∀(i:Nat)(a:A),as[i]?=some a->∀s t,ok t->P i s->P (i+1) (step s a)/\∃t',ok t'/\cont (bq g body (mk a) (R s t))=some (R (step s a) t')) :
  P as.length (as.foldl step s)/\∃t',ok t'/\loop g body (as.map mk) (R s t)=.ok .nx (R (as.foldl step s) t'):=by
 have:=lp (g:=g) (body:=body) mk R ok (fun s a=>.inr (step s a)) as P s t ht hs h;have e:∀(as:List A)(s:S),jO (E:=D) (fun s a=>.inr (step s a)) as s=.inr (as.foldl step s):=by intro as;induction as with|nil=>intro s;rfl|cons a as ih=>intro s;exact ih _
 rw[e] at this;exact this
theorem cR(h:(List.range n)[i]?=some k):k=i/\i<n:=by have h1:=(List.getElem?_eq_some_iff.mp h).1;simp at h1;rw[DW h1] at h;exact⟨(OH h).symm,h1⟩
def vz(s:Sl):Prop:=free (some s)=true
def kM(s:Sl×Sl):Prop:=free (some s.1)=true/\free (some s.2)=true
def vA(s:Sl×Sl×Sl):Prop:=free (some s.1)=true/\free (some s.2.1)=true/\free (some s.2.2)=true
@[simp] theorem Q1a(j:Nat)(i:D)(r:aS):DX j i r=(opt (own r[j]?) r).then fun d=>opt (au d i):=by unfold DX;cases own r[j]?<;>rfl
@[simp] theorem Hk(j:Nat)(fb:M D)(r:aS):cf j fb r=if (own r[j]?).isSome=true then(fb r).then (DX j) else .no:=by unfold cf;split;exact aK _ _ _;rfl
theorem Q1I(n:Nat)(i:Int)(h0:0<=i)(h:i<n):G5 n i=some i.toNat:=by unfold G5;rw[Wr h0,Wr h]
theorem nU(xs:XW)(i:Int)(v:D)(h0:0<=i)(h:i<xs.length):setAt (.int i) v (.lst xs)=some (.lst (xs.set i.toNat v)):=by show (G5 xs.length i).map _=_;rw[Q1I _ _ h0 h];rfl
theorem Ac(xs:T1)(i v:Int)(h0:0<=i)(h:i<xs.length):setAt (.int i) (.int v) (Z xs)=some (Z (xs.set i.toNat v)):=by unfold Z;rw[nU _ _ _ h0 (by simpa using h)];simp
noncomputable def outs{S A B:Type}(step:S->A->S)(f:S->A->B):S->List A->List B|_,[]=>[]|s,a::as=>f s a::outs step f (step s a) as
theorem JQ{S A:Type}(mk:A->D)(R:S->aS)(P:Nat->S->Prop)(step:S->A->S)(f:S->A->D)(as:List A)(s:S)
  (ZW:∀s,(R s).length=k) (qk:it r0=.ok (as.map mk) (R s)) (hL:as.length<=16777216) (hP:P 0 s)
  (he:∀(i:Nat)(a:A),as[i]?=some a->∀s acc,P i s->P (i+1) (step s a)/\elt (R s++[.sh (mk a),.ow acc])=.ok (f s a) (R (step s a)++[.sh (mk a),.ow acc])) :
  aQ 1 it (aD k) (ret true) elt r0=.ok (.lst (outs step f s as)) (R (as.foldl step s))/\P as.length (as.foldl step s):=by
 have key:∀(es:List A)(n:Nat)(acc:XW)(x:Sl)(s:S),free (some x)=true->(∀(i:Nat)(a:A),es[i]?=some a->as[n+i]?=some a)->acc.length+es.length<=16777216->P n s->(∃x',turns (k+1) (aD k) (ret true) elt (es.map mk) (R s++[x,.ow (.lst acc)])=.ok () (R (es.foldl step s)++[x',.ow (.lst (acc++outs step f s es))]))/\P (n+es.length) (es.foldl step s):=by
  intro es;induction es with
  |nil=>intro n acc x s _ _ _ hp;exact⟨⟨x,by simp[outs]⟩,hp⟩|cons a es ih=>
   intro n acc x s hx hm hl hp;obtain⟨p1,e1⟩:=he n a (hm 0 a rfl) s (.lst acc) hp;obtain⟨⟨x',e2⟩,p2⟩:=ih (n+1) (acc++[f s a]) (.sh (mk a)) (step s a) rfl (fun i b hb=>by rw[Nat.add_assoc,Nat.add_comm 1 i];exact hm (i+1) b hb) (by simp at hl ⊢;lia) p1;refine⟨⟨x',?_⟩,?_⟩;have g1:aD k (mk a) (R s++[x,.ow (.lst acc)])=.ok () (R s++[.sh (mk a),.ow (.lst acc)]):=by have:=dk (r:=R s) (xs:=[.ow (.lst acc)]) (s:=x);have:=dU (r:=R s) (xs:=[.ow (.lst acc)]) (s:=x) (s':=.sh (mk a));rw[ZW s] at *;rw[qg];simp_all
   have u1:fR (k+1) (gj (f s a)) (R (step s a)++[.sh (mk a),.ow (.lst acc)])=.ok () (R (step s a)++[.sh (mk a),.ow (.lst (acc++[f s a]))]):=by have:=wG (r:=R (step s a)) (s:=.sh (mk a)) (acc:=acc) (x:=f s a) (by simp at hl;lia);rw[ZW] at this;exact this
   rw[P6,lE,g1,aA,dS,aA,Wr rfl,e1,aA,u1,aA,e2];simp[outs];have e:n+(a::es).length=n+1+es.length:=by simp;lia
   rw[e];exact p2
 obtain⟨⟨x',z⟩,p⟩:=key as 0 [] .no s rfl (fun i a h=>by rw[Gi];exact h) (by simpa using hL) hP;refine⟨?_,by rw[Gi] at p;exact p⟩;rw[qw,qk,aA];unfold inner;have e:R s++List.replicate 1 Sl.no++[Sl.ow (.lst [])]=R s++[.no,.ow (.lst [])]:=Ro;dsimp only;rw[e,ZW,z];have e2:(R (as.foldl step s)++[x',Sl.ow (.lst ([]++outs step f s as))])[k+1]?=some (.ow (.lst ([]++outs step f s as))):=by rw[HU (by rw[ZW];lia),ZW];simp
 simp only[e2];have e3:List.take k (R (as.foldl step s)++[x',Sl.ow (.lst ([]++outs step f s as))])=R (as.foldl step s):=by rw[<-ZW (as.foldl step s)];simp
 rw[e3];simp
theorem vX{S A B:Type}(f:A->B)(s:S):∀as:List A,outs (fun(s:S)(_:A)=>s) (fun _ a=>f a) s as=as.map f|[]=>rfl|a::as=>by simp[outs,vX f s as]
theorem gJ{A:Type}{it:M (List D)}{elt:M D}{k:Nat}{r:aS}{out:D}(mk:A->D)(f:A->D)(as:List A)(qk:it r=.ok (as.map mk) r)(hL:as.length<=16777216)(tX:D.lst (as.map f)=out)(he:∀a∈as,∀acc,elt (r++[.sh (mk a),.ow acc])=.ok (f a) (r++[.sh (mk a),.ow acc])) (hk:r.length=k:=by rfl):aQ 1 it (aD k) (ret true) elt r=.ok out r:=by have:=(JQ (elt:=elt) mk (fun(_:Unit)=>r) (fun _ _=>True) (fun s _=>s) (fun _ a=>f a) as () (fun _=>hk) qk hL trivial fun i a ha s acc _=>⟨trivial,he a (Ie ha) acc⟩).1;rw[vX,tX] at this;exact this
@[simp] theorem Q23(xs ys:T1):gD (Z xs) (Z ys)=some (.bl (!decide (xs=ys))):=by unfold gD Z;simp[plain,fS,yP,yQ,kf]
@[simp] theorem Q35(a:D)(xs:XW):zF (a::xs) 0=some a:=lh _ _ _ Qt rfl
@[simp] theorem Q00(a b c:D):Bu [a,b,c]=some (.tup [a,b,c]):=OW
theorem JP{A:Type}(mk:A->D)(sl:A->List Sl)(t:A->Bool)(f:A->D)(as:List A)(hk:r.length=k)(qk:it r=.ok (as.map mk) r)(hL:as.length<=16777216)
  (QZ:∀a∈as,(sl a).length=n/\∀x∈sl a,free (some x)=true)
  (hg:∀a∈as,∀(ts:List Sl) acc,ts.length=n->(∀x∈ts,free (some x)=true)->g (mk a) (r++ts++[.ow acc])=.ok () (r++sl a++[.ow acc]))
  (ht:∀a∈as,∀acc,test (r++sl a++[.ow acc])=.ok (t a) (r++sl a++[.ow acc]))
  (he:∀a∈as,t a=true->∀acc,elt (r++sl a++[.ow acc])=.ok (f a) (r++sl a++[.ow acc])) :
  aQ n it g test elt r=.ok (.lst ((as.filter t).map f)) r:=by
 subst hk;have Te:∀(ts:List Sl)(acc:XW)(x:D),ts.length=n->acc.length<16777216->fR (r.length+n) (gj x) (r++ts++[.ow (.lst acc)])=.ok () (r++ts++[.ow (.lst (acc++[x]))]):=by
  intro ts acc x h1 h2;have e2:r.length+n=(r++ts).length:=by simp[h1]
  rw[e2,ma];have:=dk (r:=r++ts) (xs:=[]) (s:=.ow (.lst acc));rw[this];have:=dU (r:=r++ts) (xs:=[]) (s:=.ow (.lst acc)) (s':=.ow (.lst (acc++[x])));simp only[xZ,cy,dS,aA,iP x acc h2,uw,dk,uv,this]
 have key:∀(es:List A)(acc:XW)(ts:List Sl),ts.length=n->(∀x∈ts,free (some x)=true)->(∀d∈es,d∈as)->acc.length+es.length<=16777216->∃KD,KD.length=n/\turns (r.length+n) g test elt (es.map mk) (r++ts++[.ow (.lst acc)])=.ok () (r++KD++[.ow (.lst (acc++(es.filter t).map f))]):=by intro es;induction es with|nil=>intro acc ts h1 _ _ _;exact⟨ts,h1,Ro⟩|cons a es ih=>intro acc ts h1 h2 hm hl;have ha:=hm a Bl;have QS:∀x∈es,x∈as:=fun x hx=>hm x (Uq _ hx);rw[P6,lE,hg a ha ts _ h1 h2,aA,ht a ha,aA];cases q:t a with|false=>obtain⟨KD,z1,z2⟩:=ih acc (sl a) (QZ a ha).1 (QZ a ha).2 QS (by simp at hl;lia);refine⟨KD,z1,?_⟩;rw[Uu Ro,z2,BC,q,Uu Ro]|true=>obtain⟨KD,z1,z2⟩:=ih (acc++[f a]) (sl a) (QZ a ha).1 (QZ a ha).2 QS (by simp at hl ⊢;lia);refine⟨KD,z1,?_⟩;rw[Wr rfl,he a ha q,aA,Te _ _ _ (QZ a ha).1 (by simp at hl;lia),aA,z2,BC,q,Wr rfl];simp
 obtain⟨KD,z1,z2⟩:=key as [] (List.replicate n .no) Ro (fun x hx=>by rw[List.eq_of_mem_replicate hx];rfl) (fun _ h=>h) (by simpa using hL);rw[qw,qk,aA];unfold inner;dsimp only;rw[z2];have e2:(r++KD++[Sl.ow (.lst ([]++(as.filter t).map f))])[r.length+n]?=some (.ow (.lst ([]++(as.filter t).map f))):=by rw[HU (by simp;lia)];simp[z1]
 simp only[e2];simp
theorem Qv{r:aS}{ts:List Sl}{acc x y:D}(h1:ts.length=2)(h2:∀x∈ts,free (some x)=true):cz [r.length,r.length+1] (.tup [x,y]) (r++ts++[.ow acc])=.ok () (r++[.sh x,.sh y]++[.ow acc]):=by
 match ts,h1,h2 with
 |[s,s2],_,h2=>
  have hs:=h2 s Bl;have iM:=h2 s2 (Uq _ Bl);have g2:(r++[Sl.sh x,s2,.ow acc])[r.length+1]?=some s2:=by rw[HU Qt];simp
  have g3:(r++[Sl.sh x,s2,.ow acc]).set (r.length+1) (.sh y)=r++[.sh x,.sh y,.ow acc]:=by rw[List.set_append_right _ _ Qt];simp
  simp only[List.append_assoc,List.cons_append,List.nil_append];rw[Q0t,sr,zN,dk,Wr hs,dU,aA,sr,zN,g2,Wr iM,g3];rfl
theorem Ld{A:Type}{it:M (List D)}{test:M Bool}{elt:M D}{k:Nat}{r:aS}{out:D}(m1 m2:A->D)(t:A->Bool)(f:A->D)(as:List A)(qk:it r=.ok (as.map fun a=>.tup [m1 a,m2 a]) r)(hL:as.length<=16777216)(tX:D.lst ((as.filter t).map f)=out)
  (ht:∀a∈as,∀acc,test (r++[.sh (m1 a),.sh (m2 a),.ow acc])=.ok (t a) (r++[.sh (m1 a),.sh (m2 a),.ow acc]))
  (he:∀a∈as,t a=true->∀acc,elt (r++[.sh (m1 a),.sh (m2 a),.ow acc])=.ok (f a) (r++[.sh (m1 a),.sh (m2 a),.ow acc])) (hk:r.length=k:=by rfl) :
  aQ 2 it (cz [k,k+1]) test elt r=.ok out r:=by
 rw[<-tX];subst hk;refine JP (fun a=>.tup [m1 a,m2 a]) (fun a=>[.sh (m1 a),.sh (m2 a)]) t f as rfl qk hL (fun a _=>⟨rfl,by intro x hx;simp at hx;rcases hx with rfl|rfl<;>rfl⟩) (fun a ha ts acc h1 h2=>Qv h1 h2) (fun a ha acc=>?_) fun a ha q acc=>?_;have:=ht a ha acc;simpa using this;have:=he a ha q acc;simpa using this
theorem Q01{A:Type}{it:M (List D)}{elt:M D}{k:Nat}{r:aS}{out:D}(m1 m2:A->D)(f:A->D)(as:List A)(qk:it r=.ok (as.map fun a=>.tup [m1 a,m2 a]) r)(hL:as.length<=16777216)(tX:D.lst (as.map f)=out)
  (he:∀a∈as,∀acc,elt (r++[.sh (m1 a),.sh (m2 a),.ow acc])=.ok (f a) (r++[.sh (m1 a),.sh (m2 a),.ow acc])) (hk:r.length=k:=by rfl) :
  aQ 2 it (cz [k,k+1]) (ret true) elt r=.ok out r:=
 Ld m1 m2 (fun _=>true) f as qk hL (by rw[List.filter_eq_self.mpr (fun _ _=>rfl)];exact tX) (fun _ _ _=>rfl) (fun a ha _ acc=>he a ha acc) hk
theorem pY{A:Type}{it:M (List D)}{test:M Bool}{elt:M D}{k:Nat}{r:aS}{out:D}(mk:A->D)(t:A->Bool)(f:A->D)(as:List A)(qk:it r=.ok (as.map mk) r)(hL:as.length<=16777216)(tX:D.lst ((as.filter t).map f)=out)
  (ht:∀a∈as,∀acc,test (r++[.sh (mk a),.ow acc])=.ok (t a) (r++[.sh (mk a),.ow acc]))
  (he:∀a∈as,t a=true->∀acc,elt (r++[.sh (mk a),.ow acc])=.ok (f a) (r++[.sh (mk a),.ow acc])) (hk:r.length=k:=by rfl) :
  aQ 1 it (aD k) test elt r=.ok out r:=by
 rw[<-tX];subst hk;refine JP mk (fun a=>[.sh (mk a)]) t f as rfl qk hL (fun a _=>⟨rfl,by intro x hx;simp at hx;rw[hx];rfl⟩) (fun a ha ts acc h1 h2=>?_) (fun a ha acc=>?_) fun a ha q acc=>?_
 match ts,h1,h2 with|[s],_,h2=>have hs:=h2 s Bl;simp only[List.append_assoc,List.cons_append,List.nil_append];rw[qg,dk,Wr hs,dU]
 have:=ht a ha acc;simpa using this;have:=he a ha q acc;simpa using this
@[simp] theorem Ei(c:Str)(f:Fn)(as:List Arg)(r:aS):dY c f as r=(bS as r).then fun vs=>A1 c f vs:=aK _ _ _
@[simp] theorem Ej(c m:Str)(f:Fn)(fo:M D)(as:List Arg)(r:aS):cx c m f fo as r=(fo r).then fun o r=>if jv c m o=true then(bS as r).then fun vs=>oY f (.val o::vs) else .no:=by unfold cx;rw[aK];congr;funext o r;split;exact aK _ _ _;rfl
@[simp] theorem Eh(fl:List (M D))(r:aS):kR fl r=(mL fl r).then fun xs=>opt (lS xs):=aK _ _ _
@[simp] theorem Q02(fl:List (M D))(r:aS):Eg fl r=(mL fl r).then fun xs=>opt (Fb xs):=aK _ _ _
@[simp] theorem rW(ds:XW):lS [.lst ds]=some (kI ds):=OW
theorem rX{A:Type}(mk:A->D)(as:List A):kI (as.map mk)=(List.range as.length).zipWith (fun i a=>D.tup [.int (i:Nat),mk a]) as:=by unfold kI;rw[uG,List.zipWith_map_right]
@[simp] theorem uT(al:Bool)(ds:XW):oR al (.lst ds)=(iQ ds).map fun bs=>.bl (if al then bs.all id else bs.any id):=OW
theorem kX{A:Type}(f:A->Bool):∀as:List A,iQ (as.map fun a=>D.bl (f a))=some (as.map f)|[]=>rfl|a::as=>by simp[iQ,kX f as]
theorem BP{A:Type}(f:A->Bool)(as:List A):oR true (.lst (as.map fun a=>D.bl (f a)))=some (.bl (as.all f)):=by rw[uT,kX];simp[Function.comp_def]
theorem BR{A:Type}(f:A->Bool)(as:List A):oR false (.lst (as.map fun a=>D.bl (f a)))=some (.bl (as.any f)):=by rw[uT,kX];simp[Function.comp_def]
theorem Ek(c:Str)(f:Fn)(vals:XW)(d:D)(r:aS)(h:f (.ins c [] []::vals)=.ok .bE [d]):A1 c f (vals.map AV.val) r=.ok d r:=by
 have e1:∀(vs:XW)(r:aS),qU (vs.map AV.val) r=some vs:=fun vs r=>by induction vs with|nil=>rfl|cons v vs ih=>simp[ih]
 have e2:∀vs:XW,fQ (vs.map AV.val)=[]:=fun vs=>by induction vs with|nil=>rfl|cons v vs ih=>simp[ih]
 have g:(r++[Sl.ow (.ins c [] [])])[r.length]?=some (.ow (.ins c [] [])):=Ro;have p:putAll [r.length] [d] (r++[Sl.ow (.ins c [] [])])=r++[.ow d]:=by rw[Q0Q,Q1l,uw,g,uv,dU]
 unfold A1;rw[ua,Q1J,g];simp only[xZ,Option.bind_some,e1,Option.map_some,cy,dS,aA,GW,e2];rw[Wr Ro,h,pU,p];simp
theorem iF:∀ns:T1,dm (ns.map .int)=some ns|[]=>rfl|n::ns=>by rw[P6,dm,iF ns];rfl
theorem IW(xs:T1)(h:xs.length<64):wx (T xs)=some (Z (sortI xs)):=by have e:cq (T xs)=some (xs.map .int):=rfl;unfold wx;rw[e];dsimp only;rw[iF];dsimp only;rw[if_pos h];rfl
noncomputable def j3(n:Nat):T1:=(List.range n).map fun(k:Nat)=>(k:Int)
theorem zL(n:Nat)(h:n<=1000):AW [.int n]=some (Z (j3 n)):=by simp only[AW];rw[Wr Qt];simp[Z,j3,Function.comp_def]
theorem nV(h:sortI xs=j3 n)(hx:x∈xs):∃k:Nat,x=k/\k<n:=by have:=(sortI_perm xs).mem_iff.mpr hx;rw[h] at this;obtain⟨k,hk,rfl⟩:=List.mem_map.mp this;exact⟨k,rfl,by simpa using hk⟩
def Q0a(i:Nat)(r:aS):D->Res D
|.lst xs=>match xs.getLast? with
  |some d=>.ok d (cL i (.lst xs.dropLast) r)|none=>.no
 |_=>.no
@[simp] theorem Q08(i:Nat)(fe:M D)(r:aS):Fc i fe r=if isLst (own r[i]?)=true then(fe r).then fun x r=>(fR i (xl x) r).then fun _=>ret .nx else .no:=by unfold Fc;split;rw[aK];congr;funext k r;exact nQ _ _;rfl
theorem GD(xs ys:XW)(h:xs.length+ys.length<=jn):xl (.lst ys) (.lst xs)=some (.lst (xs++ys)):=Wr h
@[simp] theorem AZ(f:Fn)(a:M D)(r:aS):nC f a r=(a r).then (BU f):=aK _ _ _
theorem Gk(f:Fn)(d v:D)(w:D)(r:aS)(h:f [d]=.ok v [w]):BU f d r=.ok v r:=by unfold BU;rw[h]
def KG(r:aS):Res D->Res D|.ok (.lst ds) _=>if noLs ds then .ok (.lst ds) r else .no|_=>.no
@[simp] theorem mf(f:M D)(r:aS):ip f r=KG r (f (r.map bM)):=by unfold ip;cases f (r.map bM) with|ok d r=>cases d<;>rfl|exc e r=>rfl|no=>rfl
theorem mJ(r r':aS)(ds:XW)(h:noLs ds=true):KG r (.ok (.lst ds) r')=.ok (.lst ds) r:=Wr h
def OL(r:aS):Res D->Res D|.ok d _=>if DU d then .ok d r else .no|_=>.no
@[simp] theorem A3(f:M D)(r:aS):nD f r=OL r (f (r.map bM)):=by unfold nD;cases f (r.map bM) with|ok d r=>rfl|exc e r=>rfl|no=>rfl
@[simp] theorem j5(d:D):bM (.ow d)=.sh d:=rfl
@[simp] theorem Q22(d:D):bM (.io d)=.sh d:=rfl
@[simp] theorem j6(d:D):bM (.sh d)=.sh d:=rfl
@[simp] theorem mK:bM .no=.no:=rfl
theorem wL(h:c r=.ok false r'):gW c b (n+1) r=.ok .nx r':=by unfold gW;rw[aK,h];rfl
theorem BA(h:c r=.ok true r1)(h2:b r1=.ok .nx r2):gW c b (n+1) r=gW c b n r2:=by rw[gW,aK,h];show (Pd b _) r1=_;rw[aK,h2];rfl
theorem Eo(xs:T1)(d:D):nE (T xs) d=match xs with|[]=>some d|i::is=>some (.int (is.foldl (fun a b=>if a<b then b else a) i)):=by
 have e:dm (xs.map .int)=some xs:=by induction xs with|nil=>rfl|cons x xs ih=>simp[dm,ih]
 show (match dm (xs.map .int) with|some []=>some d|some (i::is)=>some (.int (is.foldl (fun a b=>if a<b then b else a) i))|none=>none)=_;rw[e];cases xs<;>rfl
variable{α β:Type}
def Oj:Fl->M Fl->M Fl|.nx,g=>g|k,_=>ret k
theorem Q17(h:f r=.ok k r1)(h2:Oj k g r1=R):ao f g r=R:=by rw[pJ,h];cases k<;>exact h2
theorem IP(h:g r=R):Oj .nx g r=R:=h
theorem IQ:Oj (.rt d) g r=.ok (.rt d) r:=rfl
theorem UG:mC d r=.ok d r:=rfl
theorem R1:aC r=.ok .nx r:=rfl
theorem Bn{a:α}:ret a r=.ok a r:=rfl
theorem Q7(h:c r=.ok t r1)(h2:(bif t then a else b) r1=R):bP c a b r=R:=by rw[Oe,h];cases t<;>exact h2
theorem Q0p(h:c r=.ok t r1)(h2:(bif t then a else b) r1=R):zM c a b r=R:=by rw[Mt,h];cases t<;>exact h2
theorem JO{a b:M α}{R:Res α}(ht:t=true)(h:a r=R):(bif t then a else b) r=R:=by subst ht;exact h
theorem JN{a b:M α}{R:Res α}(ht:t=false)(h:b r=R):(bif t then a else b) r=R:=by subst ht;exact h
theorem Ol{i:Nat}{f:M D}{r r1 r2:aS}{d:D}(h:f r=.ok d r1)(hf:free r1[i]?=true)(h2:r1.set i (.sh d)=r2):aP i f r=.ok .nx r2:=by rw[IM,h,aA,Wr hf,h2]
theorem NH{i:Nat}{f:M D}{r r1 r2:aS}{d:D}(h:f r=.ok d r1)(hf:free r1[i]?=true)(h2:r1.set i (.ow d)=r2):fT i f r=.ok .nx r2:=by rw[IK,h,aA,Wr hf,h2]
theorem N8(h:f r=.ok d r1):aF f r=.ok (.rt d) r1:=by rw[IL,h];rfl
theorem OJ(h:r[i]?=some (.sh d)):af i r=.ok d r:=by rw[Q2J,h];rfl
theorem RC(h:a r=.ok x r1)(hg:g x=some z):m1 g a r=.ok z r1:=by rw[Kl,h,aA,hg];rfl
theorem RE(h:a r=.ok x r1)(h2:b r1=.ok y r2)(hg:g x y=some z):m2 g a b r=.ok z r2:=by rw[Q2i,h,aA,h2,aA,hg];rfl
theorem RJ(h:mL as r=.ok xs r1)(hg:g xs=some z):mF g as r=.ok z r1:=by rw[RH,h,aA,hg];rfl
theorem Q2R:mL [] r=.ok [] r:=rfl
theorem RK(h:f r=.ok x r1)(h2:mL fs r1=.ok xs r2):mL (f::fs) r=.ok (x::xs) r2:=by rw[Q2Q,h,aA,h2];rfl
theorem OF(h:mL fs r=.ok xs r1)(hl:(decide (xs.length<=16777216))=true):bh fs r=.ok (.tup xs) r1:=by rw[Hs,h,aA,Jg _ (Hg hl)];rfl
theorem Mr(h:mL fs r=.ok xs r1)(hl:(decide (xs.length<=16777216))=true):dB fs r=.ok (.lst xs) r1:=by rw[Hm,h,aA,Hf _ (Hg hl)];rfl
theorem Q20(h:a r=.ok (.bl b) r1):tB a r=.ok b r1:=by rw[SY,h];rfl
theorem ML(h:a r=.ok b r1):mG a r=.ok (!b) r1:=by rw[Jd,h];rfl
theorem K1(h:a r=.ok x r1)(h2:(bif x then b else ret false) r1=.ok t r2):lD a b r=.ok t r2:=by rw[Jb,h];cases x<;>exact h2
theorem Q0S(h:a r=.ok x r1)(h2:(bif x then ret true else b) r1=.ok t r2):rE a b r=.ok t r2:=by rw[OA,h];cases x<;>exact h2
theorem Gj(h:a r=.ok (.bl x) r1)(h2:(bif x then b else ret (.bl false)) r1=R):oG a b r=R:=by rw[Ee,h];cases x<;>exact h2
theorem NG(h:a r=.ok (.bl x) r1)(h2:(bif x then ret (.bl true) else b) r1=R):A2 a b r=R:=by rw[Hn,h];cases x<;>exact h2
theorem Q2C(e:f r=.ok d r1)(e1:l7 lo r1=.ok l r2)(e2:l7 hi r2=.ok h r3)(hg:g d l h=some z):o6 g f lo hi r=.ok z r3:=by rw[Mv,e,aA,e1,aA,e2,aA,hg];rfl
theorem Sv(h:f r=.ok (.int i) r1):l7 (some f) r=.ok (some i) r1:=by rw[xH,h];rfl
theorem Q0s(h:bS as r=.ok vs r1)(ha:qU vs r1=some ds)(hn:decide (fQ vs).Nodup=true)(hf:f ds=.ok d cK)(hp:putAll (fQ vs) cK r1=r2):az f as r=.ok d r2:=by rw[Ef,h,aA,ua,ha,cy,dS,aA,Wr (Hg hn),hf,pU,hp]
theorem uV:bS [] r=.ok [] r:=rfl
theorem uW(h:f r=.ok d r1)(h2:bS as r1=.ok vs r2):bS (.val f::as) r=.ok (.val d::vs) r2:=by show Pd _ _ r=_;rw[aK,h,aA,aK,h2];rfl
theorem w8(h:(own r[j]?).isSome=true)(h2:bS as r=.ok vs r2):bS (.io j::as) r=.ok (.io j::vs) r2:=by show (if _ then _ else _)=_;rw[Wr h,aK,h2];rfl
theorem Md(h0:(own r[j]?).isSome=true)(h:f r=.ok i r1)(h1:own r1[j]?=some d)(h2:au d i=some z):cf j f r=.ok z r1:=by rw[Hk,Wr h0,h,aA,Q1a,h1,cy,dS,aA,h2];rfl
theorem Qp(hl:decide (ds.length=fl.length)=true)(h:b (dc n fl ds)=.ok (.rt d) r)(hi:cu fl r=some cK):defn n fl b ds=.ok d cK:=by rw[fG _ _ _ _ (Hg hl),h];show (match cu fl r with|some cK=>FR.ok d cK|none=>FR.no)=_;rw[hi]
theorem Hw(ho:fo r=.ok o r1)(hi:jv c m o=true)(h:bS as r1=.ok vs r2)(ha:qU vs r2=some ds)(hn:decide (fQ vs).Nodup=true)(hf:f (o::ds)=.ok d cK)(hp:putAll (fQ vs) cK r2=r3):cx c m f fo as r=.ok d r3:=by rw[Ej,ho,aA,Wr hi,h,aA,ua,Q1N,ha,Qy,cy,dS,aA,DR,Wr (Hg hn),hf,pU,hp]
theorem Lz(h:it r=.ok ds r1)(h2:loop g b ds r1=R):fE it g b r=R:=by rw[II,h];exact h2
theorem Ob(h:mL fl r=.ok xs r1)(h2:rA xs=some ds):cQ fl r=.ok ds r1:=by rw[Em,h,aA,h2];rfl
theorem Oi(h:f r=.ok d r1)(h2:cq d=some ds):cJ f r=.ok ds r1:=by rw[Hr,h,aA,h2];rfl
theorem OT(h:mL fl r=.ok xs r1)(h2:oa xs=some ds):rp fl r=.ok ds r1:=by rw[Hu,h,aA,h2];rfl
theorem Gy(h:mL fl r=.ok xs r1)(h2:lS xs=some ds):kR fl r=.ok ds r1:=by rw[Eh,h,aA,h2];rfl
theorem Q0I(h:f r=.ok d r1)(h2:(cq d).map List.reverse=some ds):Ho f r=.ok ds r1:=by rw[Hq,h,aA,h2];rfl
theorem Q2B(h0:isLst (own r[i]?)=true)(h:f r=.ok x r1)(h1:own r1[i]?=some d)(h2:gj x d=some d')(h3:cL i d' r1=r2):lC i f r=.ok .nx r2:=by rw[IH,Wr h0,h,aA,ma,h1,cy,dS,aA,h2,cy,dS,aA,h3];rfl
theorem Om(hv:fv r=.ok v r1)(h0:isLst (own r1[i]?)=true)(hk:fk r1=.ok k r3)(h1:own r3[i]?=some d)(h2:setAt k v d=some d')(h3:cL i d' r3=r2):gT i fk fv r=.ok .nx r2:=by rw[Bq,hv,aA,Wr h0,hk,aA,ma,h1,cy,dS,aA,h2,cy,dS,aA,h3];rfl
theorem Qs(h:Pj i r=.ok () r1)(h2:f r1=R):wO i f r=R:=by rw[Od,h];exact h2
theorem SH(h:anyOf r[i]?=some d):xI i r=.ok d r:=by rw[Mu,h];rfl
theorem Hc(h:f r=.ok d r1)(h2:D3 d=some ds):vP f r=.ok ds r1:=by show Pd _ _ r=_;rw[aK,h,aA,h2];rfl
theorem Ik(hv:fv r=.ok v r1)(h0:(own r1[i]?).isSome=true)(hk:fk r1=.ok k r3)(h1:own r3[i]?=some d)(h2:putD k v d=some d')(h3:cL i d' r3=r2):sT i fk fv r=.ok .nx r2:=by show Pd _ _ r=_;rw[aK,hv,aA,Wr h0,aK,hk,aA,nQ,ma,h1,cy,dS,aA,h2,cy,dS,aA,h3];rfl
theorem Qh(h:a r=.ok x r1)(h2:b r1=.ok y r2)(hg:g x y=some (.bl k))(h3:(bif k then m1 (g2 y) c else ret (.bl false)) r2=R):AY g g2 a b c r=R:=by rw[Ms,h,aA,h2,aA,hg];cases k;exact h3;rw[<-h3];exact(Kl ..).symm
theorem Hv(h:bS as r=.ok vs r1)(hv:ds.map AV.val=vs)(hf:f (.ins c [] []::ds)=.ok .bE [d]):dY c f as r=.ok d r1:=by subst hv;rw[Ei,h,aA];exact Ek c f ds d r1 hf
theorem FD(h:ds.map AV.val=vs):(d::ds).map AV.val=.val d::vs:=by rw[P6,h]
theorem Q1W:([]:XW).map AV.val=[]:=rfl
theorem GH(e:o=some s)(h:free (some s)=true):free o=true:=by rw[e];exact h
end VP
end
section
set_option maxRecDepth 100000
set_option linter.all false
namespace LW
open PySem VP
def names:Ph:=(["given","even","turn","cut","drop","wide","spread","shape","shift","one","both","where","fold","run","pick","join","minus","half","none","add","less","times","least","most","below","alike","line","number","numbers","place","sides","many"]:Ph)
def nm(i:Nat):Str:=names.getD i ""
abbrev cI(i:Int):M D:=mC (.int i)
abbrev cS(i:Nat):M D:=mC (.str (nm i))
abbrev cT:M D:=mC (.bl true)
abbrev cF:M D:=mC (.bl false)
def rJ:Ph:=[(nm 27),(nm 28),(nm 26)]
def nX:List (Str×D):=[((nm 9),.tup [.str (nm 16),.str (nm 17),.str (nm 18)]),((nm 10),.tup [.str (nm 19),.str (nm 20),.str (nm 21),.str (nm 22),.str (nm 23),.str (nm 24),.str (nm 25)]),((nm 12),.tup [.str (nm 19),.str (nm 21),.str (nm 22),.str (nm 23)])]
def Q1t:Ph:=[]
def nY:List (Str×D):=[((nm 0),.tup [.str (nm 27)]),((nm 1),.tup [.str (nm 28),.str (nm 27)]),((nm 2),.tup [.str (nm 26),.str (nm 28)]),((nm 3),.tup [.str (nm 26),.str (nm 27),.str (nm 27),.str (nm 27),.str (nm 27)]),((nm 4),.tup [.str (nm 26),.str (nm 27),.str (nm 27)]),((nm 5),.tup [.str (nm 26),.str (nm 27)]),((nm 6),.tup [.str (nm 26),.str (nm 28)]),((nm 7),.tup [.str (nm 26),.str (nm 28)]),((nm 8),.tup [.str (nm 26),.str (nm 27),.str (nm 27),.str (nm 27)]),((nm 9),.tup [.str (nm 9),.str (nm 26)]),((nm 10),.tup [.str (nm 10),.str (nm 26),.str (nm 26)]),((nm 11),.tup [.str (nm 26),.str (nm 26),.str (nm 26)]),((nm 12),.tup [.str (nm 12),.str (nm 26),.str (nm 27)]),((nm 13),.tup [.str (nm 12),.str (nm 26),.str (nm 27)]),((nm 14),.tup [.str (nm 26),.str (nm 27),.str (nm 26)]),((nm 15),.tup [.str (nm 26),.str (nm 26),.str (nm 27)])]
def iD:Ph:=["Joined"]
def iE:Ph:=["Where"]
def gB:Ph:=["Joined"]
def lU:Ph:=["Both","Fold","One","Through"]
def eJ:Ph:=["One","Within"]
def pC:Ph:=["Weaver"]
def fH:Ph:=["Both","Where"]
def i6:Ph:=["Plan"]
def cA:Ph:=["Fill","Fold","Load","Pick","Read","Through"]
def fO:Ph:=["Plan"]
def pE:Ph:=["Weaver"]
def ng:Ph:=["Even","Within"]
def tO:Ph:=["Joined","Within"]
def kg:Ph:=["Pick"]
def i7:Ph:=["Weaver"]
def dE:Ph:=["Both","Where"]
def gC:Ph:=["Plan"]
def pF:Ph:=["Fold","Pick","Through"]
def cC:Ph:=["Fill","Fold","Load","Pick","Through","Weaver"]
def pG:Ph:=["Fold","Joined","Within"]
def kh:Ph:=["Pick"]
def jt:Ph:=["Pick"]
def vq:Ph:=["Read"]
def vt:Ph:=["Read"]
def vx:Ph:=["Load"]
def fI:Ph:=["Fill","Fold","Through"]
noncomputable def cD:Nx:=[("Both",true),("Even",false),("Joined",false),("One",false),("Read",false),("Where",false),("Within",false)]
noncomputable def b9:Nx:=[("Both",false),("Even",false),("Joined",true),("One",false),("Read",false),("Where",false),("Within",false)]
noncomputable def iG:Nx:=[("Fill",false),("Fold",false),("Load",true),("Pick",false),("Through",false)]
noncomputable def gu:Nx:=[("Both",false),("Even",false),("Joined",false),("One",true),("Read",false),("Where",false),("Within",false)]
noncomputable def iH:Nx:=[("Fill",false),("Fold",false),("Load",false),("Pick",true),("Through",false)]
noncomputable def eL:Nx:=[("Both",false),("Even",false),("Joined",false),("One",false),("Read",true),("Where",false),("Within",false)]
noncomputable def bY:Nx:=[("Both",false),("Even",false),("Joined",false),("One",false),("Read",false),("Where",true),("Within",false)]
noncomputable def dq:Nx:=[("Both",false),("Even",false),("Joined",false),("One",false),("Read",false),("Where",false),("Within",true)]
noncomputable def cb:Nx:=[("Both",false),("Even",false),("Joined",false),("One",true),("Read",false),("Where",false),("Within",true)]
def jb:=ao (aP 1 (m2 nG (af 1) (af 2))) aC
def B9:=ao (aP 1 (cI 1)) (ao (fE (cJ (af 0)) (aD 2) jb) (ao (aF (af 1)) aC))
def vj:Fn:=defn 3 [false] B9
def Ca:=ao (aF (m2 a8 (m2 a8 (o6 eG (af 0) none (some (af 1))) (bh [(af 2)])) (o6 eG (af 0) (some (m2 a8 (af 1) (cI 1))) none))) aC
def kK:Fn:=defn 3 [false,false,false] Ca
def jc:=ao (bP (lD (tB (m2 gD (m2 au (af 3) (af 6)) (m2 au (af 4) (af 6)))) (lD (tB (m2 gD (m2 au (af 3) (af 6)) (cI 1))) (tB (m2 gD (m2 au (af 4) (af 6)) (cI 1))))) (ao (aF (mC .bE)) aC) aC) (ao (aP 5 (m2 a8 (af 5) (bh [(m2 au (dB [(m2 au (af 3) (af 6)),(m2 au (af 4) (af 6))]) (mF intD [(m2 cn (m2 au (af 3) (af 6)) (cI 1))]))]))) aC)
def yG:=ao (aP 2 (mF maxD [(m1 bz (af 0)),(m1 bz (af 1))])) (ao (aP 3 (m2 a8 (m2 A9 (bh [(cI 1)]) (m2 gU (af 2) (m1 bz (af 0)))) (af 0))) (ao (aP 4 (m2 a8 (m2 A9 (bh [(cI 1)]) (m2 gU (af 2) (m1 bz (af 1)))) (af 1))) (ao (aP 5 (bh [])) (ao (fE (cQ [(af 2)]) (aD 6) jc) (ao (aF (af 5)) aC)))))
def iC:Fn:=defn 7 [false,false] yG
def Cf:=ao (aP 2 (cf 0 (cI 1))) (ao (gT 0 (cI 1) (m2 a8 (af 2) (cI 1))) (ao (bP (tB (m2 ltI (af 2) (m1 bz (cf 0 (cI 0))))) (ao (aF (m2 pe (m2 au (cf 0 (cI 0)) (af 2)) (af 1))) aC) aC) (ao (aF (cI 0)) aC)))
def bC:Fn:=defn 3 [true,false] Cf
def jG:=m2 a8 (cI 1) (az bC [.io 0,.val (cI 3)])
def lK:=ao (aP 5 (cf 2 (af 1))) (ao (aP 6 (az bC [.io 0,.val (m1 bz (xI 2))])) (ao (bP (tB (m2 cn (af 3) (cI 9))) (ao (aF (bh [(bh [(cS 9),(m2 au (dB [(cS 16),(cS 17),(cS 18)]) (az bC [.io 0,.val (cI 3)])),(af 1)]),(af 5)])) aC) aC) (ao (bP (tB (m2 cn (af 3) (cI 10))) (ao (aP 7 (m2 au (dB [(cS 19),(cS 20),(cS 21),(cS 22),(cS 23),(cS 24),(cS 25)]) (az bC [.io 0,.val (cI 7)]))) (ao (bP (tB (m2 isND (az iC [.val (af 5),.val (cf 2 (af 6))]) (mC .bE))) (ao (aP 6 (af 1)) aC) aC) (ao (aF (bh [(bh [(cS 10),(af 7),(af 1),(af 6)]),(az iC [.val (af 5),.val (cf 2 (af 6))])])) aC))) aC) (ao (bP (tB (m2 cn (af 3) (cI 11))) (ao (aP 8 (az bC [.io 0,.val (m1 bz (xI 2))])) (ao (aP 9 (az iC [.val (af 5),.val (cf 2 (af 6))])) (ao (bP (rE (tB (m2 isND (af 9) (mC .bE))) (tB (m2 isND (az iC [.val (af 9),.val (cf 2 (af 8))]) (mC .bE)))) (ao (aF (bh [(bh [(cS 11),(af 1),(af 1),(af 1)]),(af 5)])) aC) aC) (ao (aF (bh [(bh [(cS 11),(af 6),(af 1),(af 8)]),(az iC [.val (af 9),.val (cf 2 (af 8))])])) aC)))) aC) (ao (bP (tB (m2 cn (af 3) (cI 12))) (ao (aP 9 (m1 jw (aQ 1 (cQ [(az bC [.io 0,.val (cI 3)])]) (aD 11) (VP.ret true) jG))) (ao (aF (bh [(bh [(cS 1),(af 9),(az bC [.io 0,.val (cI 1000003)])]),(af 9)])) aC)) aC) (ao (bP (tB (m2 cn (af 5) (bh []))) (ao (aF (bh [(bh [(cS 9),(cS 16),(af 1)]),(af 5)])) aC) aC) (ao (aP 10 (az bC [.io 0,.val (m1 bz (af 5))])) (ao (bP (tB (m2 cn (af 3) (cI 13))) (ao (bP (rE (tB (m2 ltI (az bC [.io 0,.val (cI 5)]) (cI 4))) (tB (m2 gD (m1 bz (cf 2 (af 6))) (cI 1)))) (ao (aP 6 (af 4)) aC) aC) (ao (aF (bh [(bh [(cS 14),(af 1),(af 10),(af 6)]),(az kK [.val (af 5),.val (af 10),.val (m2 au (cf 2 (af 6)) (cI 0))])])) aC)) aC) (ao (bP (rE (tB (m2 gD (m1 bz (cf 2 (af 6))) (m1 bz (af 5)))) (tB (m2 gD (az kK [.val (af 5),.val (af 10),.val (cI 0)]) (az kK [.val (cf 2 (af 6)),.val (af 10),.val (cI 0)])))) (ao (aP 6 (af 1)) aC) aC) (ao (aF (bh [(bh [(cS 15),(af 1),(af 6),(af 10)]),(az kK [.val (af 5),.val (af 10),.val (m2 a8 (m2 au (af 5) (af 10)) (m2 au (cf 2 (af 6)) (af 10)))])])) aC))))))))))
def eW:Fn:=defn 11 [true,false,true,false,false] lK
def Ce:=ao (aP 4 (az bC [.io 0,.val (m1 bz (af 2))])) (ao (aP 5 (m2 au (af 2) (af 4))) (ao (aP 6 (dB [(cS 19),(cS 21),(cS 22),(cS 23)])) (ao (bP (tB (m2 cn (af 3) (cI 4))) (ao (aP 7 (m2 gU (az bC [.io 0,.val (cI 9)]) (cI 4))) (ao (aF (bh [(bh [(cS 8),(af 1),(af 4),(af 7),(az bC [.io 0,.val (cI 1000003)])]),(af 2)])) aC)) aC) (ao (bP (tB (m2 cn (af 3) (cI 5))) (ao (aP 8 (m2 au (af 6) (m2 pe (az bC [.io 0,.val (cI 4)]) (m2 au (dB [(cI 2),(cI 4)]) (mF intD [(m2 Dw (af 5) (cI 0))]))))) (ao (aF (bh [(bh [(cS 12),(af 8),(af 1),(af 4)]),(m2 a8 (o6 eG (af 2) none (some (af 4))) (o6 eG (af 2) (some (m2 a8 (af 4) (cI 1))) none))])) aC)) aC) (ao (bP (tB (m2 cn (af 3) (cI 6))) (ao (aF (bh [(bh [(cS 13),(m2 au (af 6) (az bC [.io 0,.val (cI 4)])),(af 1),(af 4)]),(af 2)])) aC) aC) (ao (bP (tB (m2 cn (af 5) (cI 0))) (ao (aF (bh [(bh [(cS 9),(cS 18),(af 1)]),(af 2)])) aC) aC) (ao (aP 9 (az bC [.io 0,.val (af 5)])) (ao (bP (tB (m2 cn (af 3) (cI 7))) (ao (aF (bh [(bh [(cS 4),(af 1),(af 4),(af 9)]),(m2 a8 (o6 eG (af 2) none (some (af 4))) (o6 eG (af 2) (some (m2 a8 (af 4) (cI 1))) none))])) aC) aC) (ao (aP 10 (m2 a8 (cI 1) (az bC [.io 0,.val (cI 3)]))) (ao (aP 11 (m2 zr (m2 gU (m2 gU (af 5) (cI 1)) (af 9)) (af 10))) (ao (bP (tB (m2 cn (az bC [.io 0,.val (cI 2)]) (cI 1))) (ao (aP 11 (m2 zr (af 9) (af 10))) (ao (aP 10 (m2 gU (cI 0) (af 10))) aC)) aC) (ao (aP 12 (m2 gU (m2 a8 (af 11) (cI 1)) (az bC [.io 0,.val (m2 a8 (af 11) (cI 2))]))) (ao (aF (bh [(bh [(cS 3),(af 1),(af 4),(af 9),(af 10),(af 12)]),(az kK [.val (af 2),.val (af 4),.val (af 12)])])) aC)))))))))))))
def vn:Fn:=defn 13 [true,false,false,false] Ce
def jH:=m2 pe (m2 a8 (af 10) (af 5)) (af 4)
def jI:=m2 au (af 2) (af 10)
def jJ:=m2 au (dB [(af 10),(az bC [.io 0,.val (cI 4)])]) (mF intD [(m2 cn (af 10) (cI 1))])
def om:=ao (aP 4 (m1 bz (af 2))) (ao (bP (tB (m2 cn (af 3) (cI 0))) (ao (aP 5 (az bC [.io 0,.val (mF maxD [(cI 1),(af 4)])])) (ao (aP 6 (aQ 1 (cQ [(af 4)]) (aD 10) (VP.ret true) jH)) (ao (bP (tB (m2 cn (az bC [.io 0,.val (cI 2)]) (cI 1))) (ao (aP 6 (m1 E9 (af 6))) aC) aC) (ao (aF (bh [(bh [(cS 2),(af 1),(m1 jw (af 6))]),(m1 jw (aQ 1 (cJ (af 6)) (aD 10) (VP.ret true) jI))])) aC)))) aC) (ao (bP (tB (m2 cn (af 3) (cI 1))) (ao (aP 7 (az bC [.io 0,.val (m2 a8 (af 4) (cI 1))])) (ao (aF (bh [(bh [(cS 5),(af 1),(af 7)]),(m2 a8 (m2 a8 (o6 eG (af 2) none (some (af 7))) (bh [(cI 1)])) (o6 eG (af 2) (some (af 7)) none))])) aC)) aC) (ao (bP (tB (m2 cn (af 3) (cI 2))) (ao (aP 8 (m1 jw (aQ 1 (cJ (af 2)) (aD 10) (VP.ret true) jJ))) (ao (bP (tB (m2 cn (az bC [.io 0,.val (cI 2)]) (cI 1))) (ao (aP 8 (m2 a8 (bh [(az bC [.io 0,.val (cI 4)])]) (af 8))) aC) aC) (ao (aF (bh [(bh [(cS 6),(af 1),(af 8)]),(af 8)])) aC))) aC) (ao (aP 9 (az vj [.val (af 2)])) (ao (aP 8 (m2 au (dB [(m1 rz (af 2)),(bh [(af 9)]),(bh [(cI 1),(af 9)]),(bh [(af 9),(cI 1)])]) (az bC [.io 0,.val (cI 4)]))) (ao (aF (bh [(bh [(cS 7),(af 1),(af 8)]),(af 8)])) aC))))))
def hZ:Fn:=defn 10 [true,false,false,false] om
def gI:=m2 au (dB [(cI 2),(cI 3),(cI 1),(cI 2),(cI 3),(cI 1),(cI 2),(cI 0)]) (az bC [.io 0,.val (cI 8)])
def eN:=ao (aP 3 (az bC [.io 0,.val (cI 4)])) (ao (lC 1 (m1 jw (aQ 1 (cQ [(af 3)]) (aD 12) (VP.ret true) gI))) aC)
def ef:=bh [(cS 0),(m2 pe (m2 a8 (af 12) (af 5)) (af 4))]
def ek:=m2 au (af 1) (m2 au (af 12) (cI 1))
def eO:=ao (aP 9 (m2 gU (m2 gU (m1 bz (xI 6)) (cI 1)) (az bC [.io 0,.val (m1 bz (xI 6))]))) (ao (aP 10 (az bC [.io 0,.val (cI 16)])) (ao (bP (tB (m2 ltI (af 10) (cI 4))) (ao (aP 11 (az hZ [.io 0,.val (af 9),.val (cf 7 (af 9)),.val (af 10)])) aC) (ao (bP (lD (tB (m2 ltI (af 10) (cI 9))) (tB (m2 gD (cf 7 (af 9)) (bh [])))) (ao (aP 11 (az vn [.io 0,.val (af 9),.val (cf 7 (af 9)),.val (af 10)])) aC) (ao (bP (tB (m2 cn (af 10) (cI 15))) (ao (aP 11 (bh [(bh [(cS 0),(m2 pe (af 9) (af 4))]),(cf 1 (m2 pe (af 9) (af 4)))])) aC) (ao (aP 11 (az eW [.io 0,.val (af 9),.io 7,.val (af 10),.val (af 8)])) aC)) aC)) aC)) (ao (bP (rE (tB (m2 Dw (az vj [.val (m2 au (af 11) (cI 1))]) (cI 27))) (rE (tB (m2 Dw (m1 bz (m2 au (af 11) (cI 1))) (cI 4))) (tB (m2 Dw (m2 nE (m2 au (af 11) (cI 1)) (cI 0)) (cI 24))))) (ao (aP 11 (bh [(bh [(cS 9),(cS 16),(af 9)]),(cf 7 (af 9))])) aC) aC) (ao (lC 6 (m2 au (af 11) (cI 0))) (ao (lC 7 (m2 au (af 11) (cI 1))) aC)))))
def Cc:=ao (fT 1 (dB [])) (ao (fE (cQ [(m2 a8 (cI 1) (az bC [.io 0,.val (cI 2)]))]) (aD 2) eN) (ao (lC 1 (bh [(m2 au (dB [(cI 2),(cI 3),(cI 1),(cI 4)]) (az bC [.io 0,.val (cI 4)]))])) (ao (aP 4 (m1 bz (xI 1))) (ao (aP 5 (az bC [.io 0,.val (af 4)])) (ao (fT 6 (aQ 1 (cQ [(af 4)]) (aD 12) (VP.ret true) ef)) (ao (fT 7 (ip (aQ 1 (cJ (af 6)) (aD 12) (VP.ret true) ek))) (ao (aP 8 (m2 pe (m2 gU (m2 gU (af 4) (cI 1)) (af 5)) (af 4))) (ao (fE (cQ [(m2 a8 (cI 1) (az bC [.io 0,.val (cI 10)]))]) (aD 2) eO) (ao (wO 1 (wO 7 (wO 6 (aF (bh [(af 6),(af 7),(af 4),(af 1)]))))) aC)))))))))
def vm:Fn:=defn 12 [true] Cc
def bG:=ao (bP (tB (m2 cn (af 2) (m1 bz (af 1)))) (ao (aF (af 1)) aC) aC) (ao (aP 3 (m2 au (af 1) (af 2))) (ao (bP (rE (tB (m1 (a9 gu) (af 3))) (tB (m1 (a9 dq) (af 3)))) (ao (aP 1 (m2 a8 (af 1) (dB [(m1 (aY eJ "inner") (af 3))]))) aC) aC) (ao (bP (rE (tB (m1 (a9 cD) (af 3))) (tB (m1 (a9 bY) (af 3)))) (ao (aP 1 (m2 a8 (af 1) (dB [(m1 (aY fH "left") (af 3)),(m1 (aY dE "right") (af 3))]))) aC) aC) (ao (bP (tB (m1 (a9 bY) (af 3))) (ao (aP 1 (m2 a8 (af 1) (dB [(m1 (aY iE "asked") (af 3))]))) aC) aC) (ao (bP (tB (m1 (a9 b9) (af 3))) (ao (aP 1 (m2 a8 (af 1) (dB [(m1 (aY iD "ahead") (af 3)),(m1 (aY gB "behind") (af 3))]))) aC) aC) aC)))))
def Cb:=ao (aP 1 (dB [(af 0)])) (ao (fE (cQ [(m2 Ii (cI 10) (cI 6))]) (aD 2) bG) (ao (aF (af 1)) aC))
def vk:Fn:=defn 4 [false] Cb
def eZ:=m1 (aY cA "line") (af 1)
def ff:=tB (m1 (a9 eL) (af 1))
def Cd:=ao (bP (tB (m1 (a9 iG) (af 0))) (ao (aF (dB [])) aC) aC) (ao (bP (tB (m1 (a9 iH) (af 0))) (ao (aF (dB [(m1 (aY kh "source") (af 0)),(m1 (aY kg "places") (af 0))])) aC) aC) (ao (aF (aQ 1 (cJ (az vk [.val (m1 (aY fI "tree") (af 0))])) (aD 1) ff eZ)) aC))
def ou:Fn:=defn 1 [false] Cd
def Qg:=ao (bA 0 fO "loops" (m1 iI (af 1))) (ao (bA 0 gC "row_of" (m1 CV (af 2))) (ao (bA 0 i6 "lengths" (m1 iI (af 3))) aC))
def Lu:Fn:=defn 4 [true,false,false,false] Qg
def yJ:=ao (aF (oG (m2 (inD false) (m2 au (m2 au (af 0) (af 2)) (cI 0)) (bh [(cS 6),(cS 10),(cS 11)])) (m2 gD (m2 au (af 1) (af 2)) (m2 au (af 1) (af 3))))) aC
def zh:Fn:=defn 4 [false,false,false,false] yJ
def iS:=m2 (inD false) (m2 au (m2 au (af 0) (af 5)) (cI 0)) (bh [(cS 7),(cS 14)])
def iT:=az zh [.val (af 0),.val (af 1),.val (af 5),.val (af 2)]
def B5:=ao (aP 4 (m2 au (m2 au (af 0) (af 2)) (cI 0))) (ao (bP (rE (tB (m2 cn (af 2) (m2 gU (m1 bz (af 0)) (cI 1)))) (tB (m2 (inD false) (af 4) (bh [(cS 0),(cS 12),(cS 13),(cS 14)])))) (ao (aF cT) aC) aC) (ao (bP (tB (m1 (oR false) (aQ 1 (cJ (af 3)) (aD 5) (VP.ret true) iS))) (ao (aF cT) aC) aC) (ao (bP (tB (m2 cn (af 4) (cS 1))) (ao (aF cF) aC) aC) (ao (aF (A2 (m2 Dw (m1 bz (af 3)) (cI 1)) (m1 (oR false) (aQ 1 (cJ (af 3)) (aD 5) (VP.ret true) iT)))) aC))))
def yW:Fn:=defn 5 [false,false,false,false] B5
def qZ:=af 2
def q8:=tB (m2 cn (af 1) (cS 26))
def JK:=ao (aF (aQ 2 (rp [(m1 (Fs nY) (m2 au (af 0) (cI 0))),(o6 eG (af 0) (some (cI 1)) none)]) (cz [1,2]) q8 qZ)) aC
def ox:Fn:=defn 1 [false] JK
def eA:=af 4
def eE:=tB (m2 cn (af 6) (af 2))
def dh:=ao (bP (tB (m2 au (af 1) (af 4))) (ao (Fc 3 (aQ 1 (cJ (az ox [.val (af 5)])) (aD 6) eE eA)) aC) aC) aC
def Cm:=ao (fT 3 (dB [])) (ao (fE (kR [(af 0)]) (cz [4,5]) dh) (ao (wO 3 (aF (af 3))) aC))
def y7:Fn:=defn 6 [false,false,false] Cm
def eD:M D:=cF
def eR:=ao (gT 1 (af 3) cT) aC
def di:=ao (bP (tB (cf 1 (af 2))) (ao (fE (cJ (az ox [.val (m2 au (af 0) (af 2))])) (aD 3) eR) aC) aC) aC
def CD:=ao (fT 1 (aQ 1 (cJ (af 0)) (aD 4) (VP.ret true) eD)) (ao (gT 1 (m2 gU (m1 bz (af 0)) (cI 1)) cT) (ao (fE (Eg [(m2 gU (m1 bz (af 0)) (cI 1)),(m1 ug (cI 1)),(m1 ug (cI 1))]) (aD 2) di) (ao (wO 1 (aF (af 1))) aC)))
def vo:Fn:=defn 4 [false] CD
def dI:=ao (lC 3 (oG (m2 au (af 2) (af 4)) (az yW [.val (af 0),.val (af 1),.val (af 4),.val (az y7 [.val (af 0),.val (af 2),.val (af 4)])]))) aC
def B8:=ao (aP 2 (az vo [.val (af 0)])) (ao (fT 3 (dB [])) (ao (fE (kR [(af 0)]) (cz [4,5]) dI) (ao (wO 3 (aF (af 3))) aC)))
def vh:Fn:=defn 6 [false,false] B8
def dF:=ao (aP 1 (m2 nG (af 1) (af 2))) aC
def BZ:=ao (aP 1 (cI 1)) (ao (fE (cJ (af 0)) (aD 2) dF) (ao (aF (af 1)) aC))
def qa:Fn:=defn 3 [false] BZ
def fU:=cI 0
def dJ:=ao (aP 4 (m2 tK (af 1) (m1 (aY cA "line") (af 3)))) (ao (gT 2 (af 4) (mF maxD [(cf 2 (af 4)),(az qa [.val (m1 (aY cC "sides") (af 3))])])) aC)
def Ci:=ao (fT 2 (aQ 1 (cQ [(m2 a8 (m1 oH (af 1)) (cI 1))]) (aD 5) (VP.ret true) fU)) (ao (fE (cJ (af 0)) (aD 3) dJ) (ao (wO 2 (aF (af 2))) aC))
def yZ:Fn:=defn 5 [false,false] Ci
def Qd:=ao (bA 0 cA "line" (af 1)) (ao (bA 0 cC "sides" (af 2)) aC)
def AD:Fn:=defn 3 [true,false,false] Qd
def P9:=ao (sR (az AD [.io 0,.val (af 1),.val (af 2)])) (ao (bA 0 fI "tree" (af 3)) aC)
def Ll:Fn:=defn 4 [true,false,false,false] P9
def Qa:=ao (sR (az AD [.io 0,.val (af 1),.val (af 2)])) (ao (bA 0 pF "side" (af 3)) (ao (bA 0 pG "size" (af 4)) (ao (bA 0 lU "deed" (af 5)) (ao (bA 0 fI "tree" (af 6)) aC))))
def Lm:Fn:=defn 7 [true,false,false,false,false,false,false] Qa
def Qc:=ao (sR (az AD [.io 0,.val (af 1),.val (af 2)])) (ao (bA 0 vx "table" (af 3)) aC)
def Lo:Fn:=defn 4 [true,false,false,false] Qc
def Qf:=ao (sR (az AD [.io 0,.val (af 1),.val (af 2)])) (ao (bA 0 pF "side" (af 3)) (ao (bA 0 kh "source" (af 4)) (ao (bA 0 kg "places" (af 5)) (ao (bA 0 jt "source_sides" (af 6)) aC))))
def Ls:Fn:=defn 7 [true,false,false,false,false,false,false] Qf
def JF:=ao (sR (az AD [.io 0,.val (af 1),.val (af 2)])) (ao (bA 0 pF "side" (af 3)) (ao (bA 0 lU "deed" (af 4)) (ao (bA 0 fI "tree" (af 5)) aC)))
def De:Fn:=defn 6 [true,false,false,false,false,false] JF
def JG:=ao (bA 0 i7 "program" (af 1)) (ao (bA 0 cC "sides" (af 2)) (ao (bA 0 pC "kept" (af 3)) (ao (bA 0 pE "many" (af 4)) aC)))
def yR:Fn:=defn 5 [true,false,false,false,false] JG
def P7:=ao (bA 0 lU "deed" (af 1)) (ao (bA 0 fH "left" (af 2)) (ao (bA 0 dE "right" (af 3)) aC))
def Lj:Fn:=defn 4 [true,false,false,false] P7
def P8:=ao (bA 0 ng "number" (af 1)) aC
def Lk:Fn:=defn 2 [true,false] P8
def Qe:=ao (bA 0 lU "deed" (af 1)) (ao (bA 0 eJ "inner" (af 2)) aC)
def Lr:Fn:=defn 3 [true,false,false] Qe
def JE:=ao (bA 0 cA "line" (af 1)) (ao (bA 0 vq "start" (af 2)) (ao (bA 0 vt "steps" (af 3)) aC))
def Dd:Fn:=defn 4 [true,false,false,false] JE
def fV:=cI 0
def cv:=ao (aP 3 (m2 a8 (af 3) (m2 nG (m2 au (af 5) (cI 0)) (af 6)))) (ao (bP (tB (m2 gD (m2 au (af 5) (cI 1)) (m1 ug (cI 1)))) (ao (gT 4 (m2 au (af 5) (cI 1)) (m2 a8 (cf 4 (m2 au (af 5) (cI 1))) (m2 nG (m2 au (af 5) (cI 2)) (af 6)))) aC) aC) aC)
def Cr:=ao (aP 3 (cI 0)) (ao (fT 4 (aQ 1 (cQ [(af 2)]) (aD 7) (VP.ret true) fV)) (ao (fE (rp [(af 0),(af 1)]) (cz [5,6]) cv) (ao (aF (bh [(af 3),(m1 jw (xI 4))])) aC)))
def zc:Fn:=defn 7 [false,false,false] Cr
def dM:=ao (lC 1 (af 2)) (ao (aP 2 (m2 nG (af 2) (af 3))) aC)
def CA:=ao (fT 1 (dB [])) (ao (aP 2 (cI 1)) (ao (fE (Ho (af 0)) (aD 3) dM) (ao (aF (m1 rz (xI 1))) aC)))
def zi:Fn:=defn 4 [false] CA
def BY:=ao (aP 4 (az zc [.val (af 2),.val (az zi [.val (af 3)]),.val (m1 (aY pE "many") (af 0))])) (ao (aF (dY "Read" Dd [.val (af 1),.val (m2 au (af 4) (cI 0)),.val (m2 au (af 4) (cI 1))])) aC)
def vf:Fn:=defn 5 [false,false,false,false] BY
def Qb:=ao (bA 0 tO "part" (af 1)) (ao (bA 0 pG "size" (af 2)) (ao (bA 0 iD "ahead" (af 3)) (ao (bA 0 gB "behind" (af 4)) aC)))
def Ln:Fn:=defn 5 [true,false,false,false,false] Qb
def Cn:=ao (aF (bh [(af 0),(m1 ug (cI 1)),(cI 0)])) aC
def r8:Fn:=defn 1 [false] Cn
def yH:=ao (aP 3 (m2 a8 (af 1) (m2 nG (af 2) (m2 au (af 0) (cI 0))))) (ao (bP (tB (m2 cn (m2 nG (af 2) (m2 au (af 0) (cI 2))) (cI 0))) (ao (aF (az r8 [.val (af 3)])) aC) aC) (ao (aF (bh [(af 3),(m2 au (af 0) (cI 1)),(m2 nG (af 2) (m2 au (af 0) (cI 2)))])) aC))
def rZ:Fn:=defn 4 [false,false,false] yH
def CG:=ao (fT 4 (m1 iI (af 0))) (ao (gT 4 (af 1) (az rZ [.val (m2 au (af 0) (af 1)),.val (af 2),.val (af 3)])) (ao (wO 4 (aF (af 4))) aC))
def sj:Fn:=defn 5 [false,false,false,false] CG
def JI:=ao (bA 0 tO "part" (af 1)) (ao (bA 0 pG "size" (af 2)) (ao (bA 0 eJ "inner" (af 3)) (ao (bA 0 ng "number" (af 4)) aC)))
def Dh:Fn:=defn 5 [true,false,false,false,false] JI
def fW:=zM (tB (m2 cn (af 3) (cI 1))) (az r8 [.val (cI 0)]) (af 4)
def CH:=ao (aP 2 (o6 eG (af 0) (some (m2 gU (m1 bz (af 0)) (m1 bz (af 1)))) none)) (ao (aF (aQ 2 (rp [(af 1),(af 2)]) (cz [3,4]) (VP.ret true) fW)) aC)
def zm:Fn:=defn 3 [false,false] CH
def CF:=ao (aF (m2 a8 (m2 a8 (o6 eG (af 0) none (some (af 1))) (dB [(az r8 [.val (af 2)])])) (o6 eG (af 0) (some (af 1)) none))) aC
def zl:Fn:=defn 3 [false,false,false] CF
def dN:=ao (gT 2 (af 3) (af 4)) aC
def CI:=ao (fT 2 (m1 iI (af 0))) (ao (fE (rp [(af 1),(af 0)]) (cz [3,4]) dN) (ao (wO 2 (aF (af 2))) aC))
def zo:Fn:=defn 5 [false,false] CI
def CJ:=ao (aF (m2 a8 (o6 eG (af 0) none (some (af 1))) (o6 eG (af 0) (some (m2 a8 (af 1) (cI 1))) none))) aC
def zq:Fn:=defn 2 [false,false] CJ
def JH:=ao (bA 0 iE "asked" (af 1)) (ao (bA 0 fH "left" (af 2)) (ao (bA 0 dE "right" (af 3)) aC))
def Dg:Fn:=defn 4 [true,false,false,false] JH
def uY(w:Nat->Fn):=ao (bP (tB (m2 au (m1 (aY pC "kept") (af 0)) (af 1))) (ao (aF (cx "Weaver" "row_read" vf (af 0) [.val (af 1),.val (af 2),.val (m2 au (m1 (aY cC "sides") (af 0)) (af 1))])) aC) aC) (ao (aF (cx "Weaver" "tree_made" (w 1) (af 0) [.val (af 1),.val (af 2)])) aC)
def jo(w:Nat->Fn):=ao (aP 3 (m2 au (m1 (aY i7 "program") (af 0)) (af 1))) (ao (aP 4 (m2 au (af 3) (cI 0))) (ao (bP (tB (m2 cn (af 4) (cS 1))) (ao (aF (dY "Even" Lk [.val (m2 au (af 3) (cI 2))])) aC) aC) (ao (bP (tB (m2 cn (af 4) (cS 9))) (ao (aF (dY "One" Lr [.val (m2 au (af 3) (cI 1)),.val (cx "Weaver" "tree_named" (w 0) (af 0) [.val (m2 au (af 3) (cI 2)),.val (af 2)])])) aC) aC) (ao (bP (tB (m2 cn (af 4) (cS 10))) (ao (aF (dY "Both" Lj [.val (m2 au (af 3) (cI 1)),.val (cx "Weaver" "tree_spread" (w 3) (af 0) [.val (m2 au (af 3) (cI 2)),.val (af 2)]),.val (cx "Weaver" "tree_spread" (w 3) (af 0) [.val (m2 au (af 3) (cI 3)),.val (af 2)])])) aC) aC) (ao (bP (tB (m2 cn (af 4) (cS 11))) (ao (aF (dY "Where" Dg [.val (cx "Weaver" "tree_spread" (w 3) (af 0) [.val (m2 au (af 3) (cI 1)),.val (af 2)]),.val (cx "Weaver" "tree_spread" (w 3) (af 0) [.val (m2 au (af 3) (cI 2)),.val (af 2)]),.val (cx "Weaver" "tree_spread" (w 3) (af 0) [.val (m2 au (af 3) (cI 3)),.val (af 2)])])) aC) aC) (ao (bP (tB (m2 cn (af 4) (cS 8))) (ao (aF (cx "Weaver" "tree_shifted" (w 4) (af 0) [.val (m2 au (af 3) (cI 1)),.val (m2 au (af 3) (cI 2)),.val (m2 au (af 3) (cI 3)),.val (m2 au (af 3) (cI 4)),.val (af 2)])) aC) aC) (ao (bP (tB (m2 cn (af 4) (cS 15))) (ao (aF (cx "Weaver" "tree_joined" (w 5) (af 0) [.val (m2 au (af 3) (cI 1)),.val (m2 au (af 3) (cI 2)),.val (m2 au (af 3) (cI 3)),.val (af 2)])) aC) aC) (ao (bP (tB (m2 cn (af 4) (cS 7))) (ao (aF (cx "Weaver" "row_read" vf (af 0) [.val (m2 au (af 3) (cI 1)),.val (af 2),.val (m2 au (m1 (aY cC "sides") (af 0)) (af 1))])) aC) aC) (ao (aF (cx "Weaver" "tree_viewed" (w 2) (af 0) [.val (af 3),.val (af 2)])) aC)))))))))
def jq(w:Nat->Fn):=ao (aP 3 (m2 au (af 1) (cI 0))) (ao (bP (tB (m2 cn (af 3) (cS 2))) (ao (aF (cx "Weaver" "tree_named" (w 0) (af 0) [.val (m2 au (af 1) (cI 1)),.val (az zo [.val (af 2),.val (m2 au (af 1) (cI 2))])])) aC) aC) (ao (bP (tB (m2 cn (af 3) (cS 3))) (ao (aF (cx "Weaver" "tree_named" (w 0) (af 0) [.val (m2 au (af 1) (cI 1)),.val (az sj [.val (af 2),.val (m2 au (af 1) (cI 2)),.val (m2 au (af 1) (cI 3)),.val (m2 au (af 1) (cI 4))])])) aC) aC) (ao (bP (tB (m2 cn (af 3) (cS 4))) (ao (aF (cx "Weaver" "tree_named" (w 0) (af 0) [.val (m2 au (af 1) (cI 1)),.val (az zl [.val (af 2),.val (m2 au (af 1) (cI 2)),.val (m2 au (af 1) (cI 3))])])) aC) aC) (ao (bP (tB (m2 cn (af 3) (cS 5))) (ao (aF (cx "Weaver" "tree_named" (w 0) (af 0) [.val (m2 au (af 1) (cI 1)),.val (az zq [.val (af 2),.val (m2 au (af 1) (cI 2))])])) aC) aC) (ao (aF (cx "Weaver" "tree_spread" (w 3) (af 0) [.val (m2 au (af 1) (cI 1)),.val (af 2)])) aC)))))
def yF(w:Nat->Fn):=ao (aF (cx "Weaver" "tree_named" (w 0) (af 0) [.val (af 1),.val (az zm [.val (af 2),.val (m2 au (m1 (aY cC "sides") (af 0)) (af 1))])])) aC
def yE(w:Nat->Fn):=ao (aP 6 (az sj [.val (af 5),.val (af 2),.val (m1 ug (af 3)),.val (cI 1)])) (ao (aF (dY "Within" Dh [.val (m2 au (af 6) (af 2)),.val (m2 au (m2 au (m1 (aY cC "sides") (af 0)) (af 1)) (af 2)),.val (cx "Weaver" "tree_named" (w 0) (af 0) [.val (af 1),.val (af 6)]),.val (af 4)])) aC)
def yD(w:Nat->Fn):=ao (aP 5 (m2 au (m2 au (m1 (aY cC "sides") (af 0)) (af 1)) (af 3))) (ao (aP 6 (az sj [.val (af 4),.val (af 3),.val (m1 ug (af 5)),.val (cI 1)])) (ao (aF (dY "Joined" Ln [.val (m2 au (af 4) (af 3)),.val (af 5),.val (cx "Weaver" "tree_named" (w 0) (af 0) [.val (af 1),.val (af 4)]),.val (cx "Weaver" "tree_named" (w 0) (af 0) [.val (af 2),.val (af 6)])])) aC))
def dZ:Nat->Nat->Fn|0=>fun _ _=>.no|n+1=>fun i=>match i with|0=>defn 3 [false,false,false] (uY (dZ n))|1=>defn 5 [false,false,false] (jo (dZ n))|2=>defn 4 [false,false,false] (jq (dZ n))|3=>defn 3 [false,false,false] (yF (dZ n))|4=>defn 7 [false,false,false,false,false,false] (yE (dZ n))|5=>defn 7 [false,false,false,false,false] (yD (dZ n))|_=>fun _=>.no
def yS:Fn:=dZ 64 0
def Df:Fn:=dZ 64 1
def df:=bh [(cI 0),(af 1),(cI 1)]
def Cz:=ao (aF (aQ 1 (cQ [(af 0)]) (aD 1) (VP.ret true) df)) aC
def qc:Fn:=defn 1 [false] Cz
def pR:=ao (aP 4 (m2 au (af 0) (af 3))) (ao (aP 5 (m2 au (af 1) (af 3))) (ao (aP 6 (m2 au (af 4) (cI 0))) (ao (bP (tB (m2 cn (af 6) (cS 0))) (ao (aF (dY "Load" Lo [.val (af 3),.val (af 5),.val (m2 au (af 4) (cI 1))])) aC) aC) (ao (bP (tB (m2 cn (af 6) (cS 14))) (ao (aF (dY "Pick" Ls [.val (af 3),.val (af 5),.val (m2 au (af 4) (cI 2)),.val (m2 au (af 4) (cI 1)),.val (m2 au (af 4) (cI 3)),.val (m2 au (af 1) (m2 au (af 4) (cI 1)))])) aC) aC) (ao (bP (tB (m2 cn (af 6) (cS 12))) (ao (aP 7 (m2 au (af 1) (m2 au (af 4) (cI 2)))) (ao (aP 8 (cx "Weaver" "tree_named" yS (dY "Weaver" yR [.val (af 0),.val (af 1),.val (af 2),.val (m1 bz (af 7))]) [.val (m2 au (af 4) (cI 2)),.val (az qc [.val (m1 bz (af 7))])])) (ao (aF (dY "Fold" Lm [.val (af 3),.val (af 5),.val (m2 au (af 4) (cI 3)),.val (m2 au (af 7) (m2 au (af 4) (cI 3))),.val (m2 au (af 4) (cI 1)),.val (af 8)])) aC))) aC) (ao (aP 9 (dY "Weaver" yR [.val (af 0),.val (af 1),.val (af 2),.val (m1 bz (af 5))])) (ao (bP (tB (m2 cn (af 6) (cS 13))) (ao (aF (dY "Through" De [.val (af 3),.val (af 5),.val (m2 au (af 4) (cI 3)),.val (m2 au (af 4) (cI 1)),.val (cx "Weaver" "tree_named" yS (af 9) [.val (m2 au (af 4) (cI 2)),.val (az qc [.val (m1 bz (af 5))])])])) aC) aC) (ao (aF (dY "Fill" Ll [.val (af 3),.val (af 5),.val (cx "Weaver" "tree_made" Df (af 9) [.val (af 3),.val (az qc [.val (m1 bz (af 5))])])])) aC))))))))
def lT:Fn:=defn 10 [false,false,false,false] pR
def jr(w:Nat->Fn):=ao (bP (tB (m1 (a9 eL) (af 0))) (ao (aF (dB [(m1 (aY cA "line") (af 0))])) aC) aC) (ao (bP (tB (m1 (a9 cb) (af 0))) (ao (aF (az (w 0) [.val (m1 (aY eJ "inner") (af 0))])) aC) aC) (ao (bP (tB (m1 (a9 cD) (af 0))) (ao (aF (m2 a8 (az (w 0) [.val (m1 (aY fH "left") (af 0))]) (az (w 0) [.val (m1 (aY dE "right") (af 0))]))) aC) aC) (ao (bP (tB (m1 (a9 bY) (af 0))) (ao (aF (m2 a8 (m2 a8 (az (w 0) [.val (m1 (aY iE "asked") (af 0))]) (az (w 0) [.val (m1 (aY fH "left") (af 0))])) (az (w 0) [.val (m1 (aY dE "right") (af 0))]))) aC) aC) (ao (bP (tB (m1 (a9 b9) (af 0))) (ao (aF (m2 a8 (az (w 0) [.val (m1 (aY iD "ahead") (af 0))]) (az (w 0) [.val (m1 (aY gB "behind") (af 0))]))) aC) aC) (ao (aF (dB [])) aC)))))
def wQ:Nat->Nat->Fn|0=>fun _ _=>.no|n+1=>fun i=>match i with|0=>defn 1 [false] (jr (wQ n))|_=>fun _=>.no
def Dj:Fn:=wQ 64 0
def Cj:=ao (bP (tB (m1 (a9 iG) (af 0))) (ao (aF (dB [])) aC) aC) (ao (bP (tB (m1 (a9 iH) (af 0))) (ao (aF (dB [(m1 (aY kh "source") (af 0)),(m1 (aY kg "places") (af 0))])) aC) aC) (ao (aF (az Dj [.val (m1 (aY fI "tree") (af 0))])) aC))
def qb:Fn:=defn 1 [false] Cj
def dP:=ao (sT 1 (af 4) (af 2)) aC
def dQ:=ao (fE (cJ (az qb [.val (af 3)])) (aD 4) dP) aC
def Cg:=ao (fT 1 (mC (.hW [] []))) (ao (fE (kR [(af 0)]) (cz [2,3]) dQ) (ao (wO 1 (aF (af 1))) aC))
def yY:Fn:=defn 5 [false] Cg
def cO:=tB (m2 (inD false) (af 1) (af 0))
def cN:=ao (aP 1 (m2 a8 (af 1) (cI 1))) aC
def Ck:=ao (aP 1 (cI 0)) (ao (nT cO cN) (ao (aF (af 1)) aC))
def y4:Fn:=defn 2 [false] Ck
def gn:=m2 tK (af 2) (af 6)
def gp:=tB (m2 OZ (m2 tK (af 1) (af 6)) (af 3))
def gy:=ao (aP 5 (ip (aQ 1 (vP (af 2)) (aD 6) gp gn))) (ao (sT 2 (m1 (aY cA "line") (af 4)) (az y4 [.val (af 5)])) aC)
def Ct:=ao (aP 1 (az yY [.val (af 0)])) (ao (fT 2 (mC (.hW [] []))) (ao (fE (kR [(af 0)]) (cz [3,4]) gy) (ao (wO 2 (aF (af 2))) aC)))
def zd:Fn:=defn 6 [false] Ct
def kY:=m2 (inD false) (af 2) (m1 (Fs nX) (af 1))
def kZ:=tB (m1 (uH false nX rJ) (af 1))
def JJ:=ao (aF (m1 (oR true) (aQ 2 (rp [(m1 (Fs nY) (m2 au (af 0) (cI 0))),(o6 eG (af 0) (some (cI 1)) none)]) (cz [1,2]) kZ kY))) aC
def Di:Fn:=defn 1 [false] JJ
def B6:=ao (aF (AY qV ltI (cI 0) (af 0) (cI 1000003))) aC
def vg:Fn:=defn 1 [false] B6
def uZ:=ao (bP (tB (m2 cn (m2 au (af 0) (cI 0)) (cS 1))) (ao (aF (az vg [.val (m2 au (af 0) (cI 2))])) aC) aC) (ao (aF (A2 (m2 gD (m2 au (af 0) (cI 0)) (cS 8)) (az vg [.val (m2 au (af 0) (cI 4))]))) aC)
def oy:Fn:=defn 1 [false] uZ
def cY:=AY qV ltI (cI 0) (af 3) (af 1)
def yI:=ao (bP (tB (m2 cn (m2 au (af 0) (cI 0)) (cS 0))) (ao (aF (AY qV ltI (cI 0) (m2 au (af 0) (cI 1)) (af 2))) aC) aC) (ao (aF (m1 (oR true) (aQ 1 (cJ (az ox [.val (af 0)])) (aD 3) (VP.ret true) cY))) aC)
def sf:Fn:=defn 3 [false,false,false] yI
def eB:=AY qV qV (cI 0) (af 1) (cI 64)
def Cu:=ao (bP (rE (tB (m2 Dw (m1 bz (af 0)) (cI 4))) (mG (tB (m1 (oR true) (aQ 1 (cJ (af 0)) (aD 1) (VP.ret true) eB))))) (ao (aF cF) aC) aC) (ao (aF (m2 qV (az qa [.val (af 0)]) (cI 4096))) aC)
def ze:Fn:=defn 1 [false] Cu
def B4:=ao (aF (AY qV ltI (cI 0) (af 1) (m1 bz (af 0)))) aC
def kJ:Fn:=defn 2 [false,false] B4
def CL:=ao (aF (m2 a8 (o6 eG (af 0) none (some (af 1))) (o6 eG (af 0) (some (m2 a8 (af 1) (cI 1))) none))) aC
def qd:Fn:=defn 2 [false,false] CL
def B2:=ao (bP (mG (tB (az kJ [.val (af 1),.val (af 2)]))) (ao (aF (mC .bE)) aC) aC) (ao (bP (lD (tB (m2 cn (m2 au (af 1) (af 2)) (cI 0))) (tB (m2 (inD false) (af 0) (bh [(cS 22),(cS 23)])))) (ao (aF (mC .bE)) aC) aC) (ao (aF (az qd [.val (af 1),.val (af 2)])) aC))
def yV:Fn:=defn 3 [false,false,false] B2
def Cs:=ao (aF (m2 a8 (m2 a8 (o6 eG (af 0) none (some (af 1))) (bh [(af 2)])) (o6 eG (af 0) (some (m2 a8 (af 1) (cI 1))) none))) aC
def sg:Fn:=defn 3 [false,false,false] Cs
def B7:=ao (bP (rE (mG (tB (az kJ [.val (af 0),.val (af 2)]))) (tB (m2 gD (m1 bz (af 0)) (m1 bz (af 1))))) (ao (aF (mC .bE)) aC) aC) (ao (bP (tB (m2 gD (az qd [.val (af 0),.val (af 2)]) (az qd [.val (af 1),.val (af 2)]))) (ao (aF (mC .bE)) aC) aC) (ao (aF (az sg [.val (af 0),.val (af 2),.val (m2 a8 (m2 au (af 0) (af 2)) (m2 au (af 1) (af 2)))])) aC))
def yX:Fn:=defn 3 [false,false,false] B7
def Co:=ao (bP (rE (mG (tB (az kJ [.val (af 0),.val (af 1)]))) (tB (m2 gD (m1 bz (af 2)) (cI 1)))) (ao (aF (mC .bE)) aC) aC) (ao (aF (az sg [.val (af 0),.val (af 1),.val (m2 au (af 2) (cI 0))])) aC)
def y8:Fn:=defn 3 [false,false,false] Co
def fN:=cI 1
def CK:=ao (aF (m2 a8 (aQ 1 (cQ [(m2 gU (af 1) (m1 bz (af 0)))]) (aD 2) (VP.ret true) fN) (m1 iI (af 0)))) aC
def vp:Fn:=defn 2 [false,false] CK
def eP:=ao (bP (lD (tB (m2 gD (af 4) (af 5))) (lD (tB (m2 gD (af 4) (cI 1))) (tB (m2 gD (af 5) (cI 1))))) (ao (aF (mC .bE)) aC) aC) (ao (lC 3 (zM (tB (m2 cn (af 4) (cI 1))) (af 5) (af 4))) aC)
def Cw:=ao (aP 2 (mF maxD [(m1 bz (af 0)),(m1 bz (af 1))])) (ao (fT 3 (dB [])) (ao (fE (rp [(az vp [.val (af 0),.val (af 2)]),(az vp [.val (af 1),.val (af 2)])]) (cz [4,5]) eP) (ao (aF (m1 jw (xI 3))) aC)))
def oz:Fn:=defn 6 [false,false] Cw
def B3:=ao (aF (oG (az kJ [.val (af 0),.val (af 1)]) (AY qV ltI (cI 0) (af 2) (m2 au (af 0) (af 1))))) aC
def rY:Fn:=defn 3 [false,false,false] B3
def B0:=ao (bP (rE (mG (tB (az kJ [.val (af 0),.val (af 1)]))) (rE (tB (m2 cn (af 3) (cI 0))) (tB (m2 ltI (af 4) (cI 0))))) (ao (aF (mC .bE)) aC) aC) (ao (bP (lD (tB (m2 Dw (af 4) (cI 0))) (mG (lD (tB (az rY [.val (af 0),.val (af 1),.val (af 2)])) (tB (az rY [.val (af 0),.val (af 1),.val (m2 a8 (af 2) (m2 nG (af 3) (m2 gU (af 4) (cI 1))))]))))) (ao (aF (mC .bE)) aC) aC) (ao (aF (az sg [.val (af 0),.val (af 1),.val (af 4)])) aC))
def yT:Fn:=defn 5 [false,false,false,false,false] B0
def B1:=ao (aF (zM (tB (az rY [.val (af 0),.val (af 1),.val (af 2)])) (az qd [.val (af 0),.val (af 1)]) (mC .bE))) aC
def yU:Fn:=defn 3 [false,false,false] B1
def Cq:=ao (aF (m2 a8 (m2 a8 (o6 eG (af 0) none (some (af 1))) (bh [(af 2)])) (o6 eG (af 0) (some (af 1)) none))) aC
def za:Fn:=defn 3 [false,false,false] Cq
def eC:=m2 au (af 0) (af 2)
def CC:=ao (bP (tB (m2 gD (m1 wx (af 1)) (mF AW [(m1 bz (af 0))]))) (ao (aF (mC .bE)) aC) aC) (ao (aF (m1 jw (aQ 1 (cJ (af 1)) (aD 2) (VP.ret true) eC))) aC)
def zk:Fn:=defn 2 [false,false] CC
def oq:=ao (aP 2 (m2 au (af 0) (cI 0))) (ao (bP (tB (m2 cn (af 2) (cS 2))) (ao (aF (az zk [.val (af 1),.val (m2 au (af 0) (cI 2))])) aC) aC) (ao (bP (tB (m2 cn (af 2) (cS 3))) (ao (aF (az yT [.val (af 1),.val (m2 au (af 0) (cI 2)),.val (m2 au (af 0) (cI 3)),.val (m2 au (af 0) (cI 4)),.val (m2 au (af 0) (cI 5))])) aC) aC) (ao (bP (tB (m2 cn (af 2) (cS 4))) (ao (aF (az yU [.val (af 1),.val (m2 au (af 0) (cI 2)),.val (m2 au (af 0) (cI 3))])) aC) aC) (ao (bP (tB (m2 cn (af 2) (cS 5))) (ao (aF (zM (tB (AY qV qV (cI 0) (m2 au (af 0) (cI 2)) (m1 bz (af 1)))) (az za [.val (af 1),.val (m2 au (af 0) (cI 2)),.val (cI 1)]) (mC .bE))) aC) aC) (ao (bP (tB (m2 cn (af 2) (cS 6))) (ao (aF (zM (tB (m2 cn (az oz [.val (af 1),.val (m2 au (af 0) (cI 2))]) (m2 au (af 0) (cI 2)))) (m2 au (af 0) (cI 2)) (mC .bE))) aC) aC) (ao (aF (zM (tB (m2 cn (az qa [.val (af 1)]) (az qa [.val (m2 au (af 0) (cI 2))]))) (m2 au (af 0) (cI 2)) (mC .bE))) aC))))))
def ie:Fn:=defn 3 [false,false] oq
def CB:=ao (aP 3 (az oz [.val (af 0),.val (af 1)])) (ao (aF (zM (tB (m2 isND (af 3) (mC .bE))) (mC .bE) (az oz [.val (af 3),.val (af 2)]))) aC)
def zj:Fn:=defn 4 [false,false,false] CB
def eV:=ao (aP 3 (m2 au (af 0) (cI 0))) (ao (bP (tB (m2 cn (af 3) (cS 0))) (ao (aF (m2 au (af 2) (m2 au (af 0) (cI 1)))) aC) aC) (ao (bP (tB (m2 cn (af 3) (cS 1))) (ao (aF (m2 au (af 0) (cI 1))) aC) aC) (ao (bP (tB (m2 cn (af 3) (cS 9))) (ao (aF (cf 1 (m2 au (af 0) (cI 2)))) aC) aC) (ao (bP (tB (m2 cn (af 3) (cS 10))) (ao (aF (az oz [.val (cf 1 (m2 au (af 0) (cI 2))),.val (cf 1 (m2 au (af 0) (cI 3)))])) aC) aC) (ao (bP (tB (m2 cn (af 3) (cS 11))) (ao (aF (az zj [.val (cf 1 (m2 au (af 0) (cI 1))),.val (cf 1 (m2 au (af 0) (cI 2))),.val (cf 1 (m2 au (af 0) (cI 3)))])) aC) aC) (ao (bP (tB (m2 cn (af 3) (cS 12))) (ao (aF (az yV [.val (m2 au (af 0) (cI 1)),.val (cf 1 (m2 au (af 0) (cI 2))),.val (m2 au (af 0) (cI 3))])) aC) aC) (ao (bP (tB (m2 cn (af 3) (cS 13))) (ao (aF (zM (tB (az kJ [.val (cf 1 (m2 au (af 0) (cI 2))),.val (m2 au (af 0) (cI 3))])) (cf 1 (m2 au (af 0) (cI 2))) (mC .bE))) aC) aC) (ao (bP (tB (m2 cn (af 3) (cS 14))) (ao (aF (az y8 [.val (cf 1 (m2 au (af 0) (cI 1))),.val (m2 au (af 0) (cI 2)),.val (cf 1 (m2 au (af 0) (cI 3)))])) aC) aC) (ao (bP (tB (m2 cn (af 3) (cS 15))) (ao (aF (az yX [.val (cf 1 (m2 au (af 0) (cI 1))),.val (cf 1 (m2 au (af 0) (cI 2))),.val (m2 au (af 0) (cI 3))])) aC) aC) (ao (bP (tB (m2 cn (af 3) (cS 8))) (ao (aF (zM (tB (az kJ [.val (cf 1 (m2 au (af 0) (cI 1))),.val (m2 au (af 0) (cI 2))])) (cf 1 (m2 au (af 0) (cI 1))) (mC .bE))) aC) aC) (ao (aF (az ie [.val (af 0),.val (cf 1 (m2 au (af 0) (cI 1)))])) aC)))))))))))
def eI:Fn:=defn 4 [false,true,false] eV
def Cv:=ao (bP (mG (tB (az sf [.val (af 1),.val (m1 bz (xI 2)),.val (m1 bz (af 3))]))) (ao nR aC) aC) (ao (bP (mG (tB (az oy [.val (af 1)]))) (ao nR aC) aC) (ao (aP 4 (zM (tB (az Di [.val (af 1)])) (az eI [.val (af 1),.io 2,.val (af 3)]) (mC .bE))) (ao (bP (rE (tB (m2 isND (af 4) (mC .bE))) (mG (tB (az ze [.val (af 4)])))) (ao nR aC) aC) (ao (aF (af 4)) aC))))
def zf:Fn:=defn 5 [false,false,true,false] Cv
def fK:=ao (lC 2 (az zf [.val (af 3),.val (af 4),.io 2,.val (af 1)])) aC
def Cy:=ao (bP (tB (m2 cn (m1 bz (af 0)) (cI 0))) (ao nR aC) aC) (ao (bP (tB (m2 Dw (m1 bz (af 0)) (cI 40))) (ao nR aC) aC) (ao (fT 2 (dB [])) (ao (fE (kR [(af 0)]) (cz [3,4]) fK) (ao (wO 2 (aF (af 2))) aC))))
def zg:Fn:=defn 5 [false,false] Cy
def iU:=az lT [.val (af 0),.val (af 2),.val (af 3),.val (af 6)]
def iY:=tB (m2 au (af 3) (af 6))
def Cp:=ao (aP 2 (az zg [.val (af 0),.val (af 1)])) (ao (aP 3 (az vh [.val (af 0),.val (af 2)])) (ao (aP 4 (aQ 1 (cQ [(m1 bz (af 0))]) (aD 6) iY iU)) (ao (aP 5 (az zd [.val (af 4)])) (ao (aF (dY "Plan" Lu [.val (af 4),.val (af 5),.val (az yZ [.val (af 4),.val (af 5)])])) aC))))
def y9:Fn:=defn 6 [false,false] Cp
def qu:=ao (sT 3 (af 6) (af 4)) aC
def qv:=ao (fE (cJ (az ou [.val (af 5)])) (aD 6) qu) aC
def lM:=af 12
def lQ:=tB (m2 OZ (m2 tK (af 3) (af 12)) (af 4))
def lN:=m2 tK (m1 (aY gC "row_of") (af 2)) (af 12)
def mO:=tB (m2 (inD false) (af 10) (af 9))
def mN:=ao (aP 10 (m2 a8 (af 10) (cI 1))) aC
def l6:=ao (fT 8 (ip (aQ 1 (cJ (af 8)) (aD 12) lQ lM))) (ao (aP 9 (ip (aQ 1 (cJ (af 8)) (aD 12) (VP.ret true) lN))) (ao (aP 10 (cI 0)) (ao (nT mO mN) (ao (bP (rE (tB (m2 gD (m2 tK (m1 (aY gC "row_of") (af 2)) (m1 (aY cA "line") (af 5))) (af 10))) (tB (nD (m2 (AB true) (m1 (aY cA "line") (af 5)) (af 3))))) (ao (aF cF) aC) aC) (ao (lC 8 (m1 (aY cA "line") (af 5))) (ao (aP 7 (mF maxD [(af 7),(m1 bz (xI 8))])) aC))))))
def pW:=m2 tK (m1 (aY gC "row_of") (af 2)) (m1 (aY cA "line") (af 12))
def BX:=ao (aP 1 (nC vm (dB [(af 0),(cI 0)]))) (ao (aP 2 (az y9 [.val (m1 iI (m2 au (af 1) (cI 0))),.val (m1 iI (m2 au (af 1) (cI 3)))])) (ao (fT 3 (mC (.hW [] []))) (ao (fE (kR [(m1 (aY fO "loops") (af 2))]) (cz [4,5]) qv) (ao (sT 3 (m2 gU (m1 bz (m2 au (af 1) (cI 0))) (cI 1)) (m1 bz (m1 (aY fO "loops") (af 2)))) (ao (aP 7 (cI 0)) (ao (fT 8 (dB [])) (ao (fE (kR [(m1 (aY fO "loops") (af 2))]) (cz [4,5]) l6) (ao (aP 11 (m1 wy (aQ 1 (cJ (m1 (aY fO "loops") (af 2))) (aD 12) (VP.ret true) pW))) (ao (aF (oG (m2 cn (af 11) (mF AW [(af 7)])) (m2 cn (m1 bz (m1 (aY i6 "lengths") (af 2))) (af 7)))) aC)))))))))
def C9:Fn:=defn 12 [false] BX
def cell(ns:T1)(k:Nat):Int:=ns.getD k 0
def Row(ns:T1)(p:Nat):D:=.lst [Z ns,.int p]
theorem qS(ns:T1)(p:Nat)(m:Int)(h:0<m):bC [Row ns p,.int m]=.ok (.int (cell ns p % m)) [Row ns (p+1)]:=by rw[bC,fG _ _ _ _ rfl];unfold Cf cell Row;have i0:∀(j:Int),zF [Z ns,.int j] 0=some (Z ns):=fun _=>rfl;have i1:∀(j:Int),zF [Z ns,.int j] 1=some (.int j):=fun _=>rfl;have st:∀(i j:Int),setAt (.int 1) (.int j) (.lst [Z ns,.int i])=some (.lst [Z ns,.int j]):=fun _ _=>rfl;by_cases hp:p<ns.length;have e:=gx ns p Qt Qt;simp[i0,i1,st,hp,e,iJ _ _ h];have hp':¬(p:Int)<ns.length:=Qt;have g:ns[p]?=none:=I0 Qt;simp[i0,i1,st,hp,g]
theorem mh:names.all mE=true/\names.Nodup:=⟨by decide +kernel,by decide +kernel⟩
theorem nM{i:Nat}(h:i<names.length):nm i=names[i]:=by simp[nm,h]
theorem Q0E(i j:Nat)(hi:i<names.length)(hj:j<names.length):cn (.str (nm i)) (.str (nm j))=some (.bl (decide (i=j))):=by
 have f:∀k,k<names.length->mE (nm k)=true:=fun k h=>by rw[nM h];exact List.all_eq_true.mp mh.1 _ (G4 h)
 have e:(nm i == nm j)=decide (i=j):=by rw[nM hi,nM hj];by_cases h:i=j;subst h;simp;have:names[i]≠names[j]:=fun z=>h ((AU mh.2).mp z);simp[h,this]
 simp[cn,VP.plain,f i hi,f j hj,JS,e]
theorem RT:32<=names.length:=by decide
theorem JT(i j:Nat)(hi:i<32)(hj:j<32):cn (.str (nm i)) (.str (nm j))=some (.bl (decide (i=j))):=Q0E i j (Bc hi RT) (Bc hj RT)
theorem aG{α:Type}{x y:α}(h:x=y:=by
  repeat' first
    |with_reducible assumption
    | (with_reducible show (_:Res D)=_
       first
         | ((with_reducible apply OJ);exact rfl)
         |with_reducible first|exact UG|apply RC|apply RE|apply Q0s|exact Bn|apply Q0p|apply RJ|apply OF|apply Mr|apply Gj|apply NG|apply Q2C|apply Md|apply T4|apply Qh|apply Hv|apply Hw
         | ((with_reducible apply SH);exact rfl))
    | (with_reducible show (_:Rg)=_
       with_reducible first|exact JT _ _ (by decide) (by decide)|exact Q1F _ _|exact Af _ _|exact iZ _ _|exact du _ _|exact nB _ _|exact gM _ _|exact Dx _ _|exact Hy _|exact Mn _|exact D7 _|exact Q1d _|exact Q1M _|exact Hi _|exact Hj _)
    | (with_reducible show (_:Res Fl)=_
       first
         |with_reducible first|apply Q17|apply IP|apply Ol|apply NH|apply Q7|apply N8|exact R1|exact IQ|apply TV|exact Bn|apply Lz|apply Q2B|apply U3|apply Om|apply Us|apply Qs|apply Ik
        )
    | (with_reducible show (_:Res (List AV))=_
       with_reducible first|exact uV|apply uW|apply w8|exact Bn)
    | (with_reducible show (_:Res Bool)=_
       first
         |with_reducible first|apply Q20|apply ML|apply K1|apply Q0S|exact Bn
        )
    | (with_reducible show (_:Res (List D))=_
       with_reducible first|exact Q2R|apply RK|apply Oi|apply Ob|apply OT|apply Gy|apply Q0I|apply Hc|exact Bn)
    | ((with_reducible apply JO);refine WN ?_;with_reducible assumption)|((with_reducible apply JN);refine Nn ?_;with_reducible assumption)|((with_reducible apply JO);exact rfl)|((with_reducible apply JN);exact rfl)
    |with_reducible first|apply Sv|exact Q1W|apply FD|exact uD _|exact Og _|exact Bn
    | (conv=>{lhs;dsimp only[List.set,putAll,cL,fQ,List.getElem?_cons_zero,List.getElem?_cons_succ,qU,own,Option.map_some]};done)
    |exact rfl|(refine GH rfl ?_;with_reducible assumption)):x=y:=h
theorem rn{n:Nat}{fl:Ur}{b:M Fl}{ds cK:XW}{r r0:aS}{d:D}(hl:decide (ds.length=fl.length)=true:=by exact rfl)(h0:dc n fl ds=r0:=by conv=>{lhs;simp only[oO,qQ,wq,Kw,Bool.false_eq_true,↓reduceIte]})(h:b r0=.ok (.rt d) r:=by exact aG)(hi:cu fl r=some cK:=by exact rfl):defn n fl b ds=.ok d cK:=Qp hl (h0 ▸ h) hi
theorem Q2e(i j:Nat)(hi:i<32)(hj:j<32):(nm i == nm j)=decide (i=j):=by have h1:=Bc hi RT;have h2:=Bc hj RT;rw[nM h1,nM h2];by_cases h:i=j;subst h;simp;have:names[i]≠names[j]:=fun z=>h ((AU mh.2).mp z);simp[h,this]
theorem X3(i j:Nat)(hi:i<32)(hj:j<32):gD (.str (nm i)) (.str (nm j))=some (.bl (!decide (i=j))):=by
 have e:=JT i j hi hj;unfold cn at e;unfold gD;split at e;rename_i hp;rw[Wr hp];have e':eqB (D.str (nm i)) (.str (nm j))=decide (i=j):=by simpa using e
 rw[e'];cases e
theorem zE(k:Bool):intD [.bl k]=some (.int (if k=true then 1 else 0)):=rfl
def Rt(a:Int):Prop:=0<=a/\a<1000003
def bc:T1->Int|[]=>1|x::r=>x*bc r
structure Sd(xs:T1):Prop where
 len:xs.length<=4
 bd:∀x∈xs,0<=x/\x<=64
theorem zY:∀(xs:T1),(∀x∈xs,0<=x/\x<=64)->0<=bc xs/\bc xs<=64 ^ xs.length|[],_=>by simp[bc]|x::r,h=>by have hx:=h x Bl;have hr:=zY r fun y hy=>h y (Uq _ hy);simp only[bc,List.length_cons];refine⟨K7 hx.1 hr.1,?_⟩;have:x*bc r<=64*64 ^ r.length:=Int.mul_le_mul hx.2 hr.2 hr.1 Qt;rw[Int.pow_succ];lia
theorem v8:∀{n:Nat},n<=4->(64:Int) ^ n<=16777216|0,_=>by decide|1,_=>by decide|2,_=>by decide|3,_=>by decide|4,_=>by decide
theorem Sd.drop{xs:T1}(h:Sd xs)(k:Nat):Sd (xs.drop k):=⟨by have:=h.len;simp;lia,fun y hy=>h.bd y (G6 hy)⟩
theorem lB:∀(xs:T1)(a:Int),xs.foldl (fun p x=>p*x) a=a*bc xs|[],a=>by simp[bc]|x::r,a=>by simp only[List.foldl_cons,bc];rw[lB r];rw[Int.mul_assoc]
def back(xs:T1)(k:Nat):Int:=if k<xs.length then xs.getD (xs.length-1-k) 1 else 1
def qC(x y:Int):Bool:=decide (x=1\/y=1\/x=y)
def pk(x y:Int):Int:=if x=1 then y else x
def Kz(acc:T1)(p:Int×Int):D ⊕ List Int:=if qC p.1 p.2 then .inr (acc++[pk p.1 p.2]) else .inl .bE
theorem so(ps:List (Int×Int)):∀acc,jO Kz ps acc=if ps.all (fun p=>qC p.1 p.2) then .inr (acc++ps.map fun p=>pk p.1 p.2) else .inl .bE:=by induction ps with|nil=>intro acc;simp[jO]|cons p ps ih=>intro acc;simp only[jO,Kz,List.all_cons];by_cases q:qC p.1 p.2=true;simp only[q,if_true,ih,Bool.true_and];simp;simp[q]
def Bf:Option (List Int)->D|some xs=>T xs|none=>.bE
def pairs(one other:T1):List (Int×Int):=(List.range (max one.length other.length)).map fun k=>(back one k,back other k)
def meet(one other:T1):Option (List Int):=if (pairs one other).all (fun p=>qC p.1 p.2) then some ((pairs one other).map fun p=>pk p.1 p.2).reverse else none
def ahead(xs:T1)(n:Nat):T1:=List.replicate (n-xs.length) 1++xs
theorem kD(one other:T1):(ahead one (max one.length other.length)).zip (ahead other (max one.length other.length))=(pairs one other).reverse:=by
 have len:∀(xs:T1)(n:Nat),xs.length<=n->(ahead xs n).length=n:=fun xs n h=>by simp[ahead];omega
 have get:∀(xs:T1)(n i:Nat),xs.length<=n->i<n->(ahead xs n)[i]?=some (back xs (n-1-i)):=fun xs n i h hi=>by unfold ahead back;by_cases c:i<n-xs.length;rw[Lh (by simpa using c),Uu Pe];simp[c];rw[HU (by simp;omega),Wr Pe];have e:xs.length-1-(n-1-i)=i-(n-xs.length):=Pe;have hl:i-(n-xs.length)<xs.length:=Pe;simp[e,hl]
 refine L3 fun i=>?_;by_cases hi:i<max one.length other.length;rw[show (List.zip (ahead one (max one.length other.length)) (ahead other (max one.length other.length)))[i]?=some (back one (max one.length other.length-1-i),back other (max one.length other.length-1-i)) from List.getElem?_zip_eq_some.mpr ⟨get one _ _ Pe hi,get other _ _ Pe hi⟩];rw[Nt (by simp[pairs];omega)];simp only[pairs,List.length_map,List.length_range,List.getElem?_map];rw[DW Pe];rfl;rw[I0 (by rw[List.length_zip,len _ _ Pe,len _ _ Pe];omega),I0 (by simp[pairs];omega)]
theorem mV(xs:T1)(n:Nat)(h:xs.length<=n):(ahead xs n).length=n:=by simp[ahead];lia
theorem qq(one other:T1)(h1:one.length<=4)(h2:other.length<=4):iC [T one,T other]=.ok (Bf (meet one other)) []:=by
 obtain⟨n,hn⟩:∃n,max one.length other.length=n:=⟨_,rfl⟩;have o1:one.length<=n:=hn ▸ Nv ..;have o2:other.length<=n:=hn ▸ A7 ..;have n4:n<=4:=hn ▸ Nat.max_le.mpr ⟨h1,h2⟩;have mx:maxD [.int (one.length:Int),.int (other.length:Int)]=some (.int (n:Int)):=by rw[ub,show max (one.length:Int) other.length=n by lia]
 have er:rA [.int (n:Int)]=some ((List.range n).map fun(k:Nat)=>.int k):=mw _ _ Qt Qt Qt;have mu:∀(xs:T1),xs.length<=n->A9 (.tup [.int 1]) (.int ((n:Int)-xs.length))=some (T (List.replicate (n-xs.length) 1)):=fun xs hx=>by
  have e:((n:Int)-xs.length).toNat=n-xs.length:=Qt;have d:A9 (.tup [.int 1]) (.int ((n:Int)-xs.length))=if -(jn:Int)<=(n:Int)-xs.length/\(n:Int)-xs.length<=jn/\[D.int 1].length*((n:Int)-xs.length).toNat<=jn then some (.tup (List.replicate ((n:Int)-xs.length).toNat [D.int 1]).flatten) else none:=rfl
  rw[d,Wr (by simp[jn];lia),e];simp[T,List.map_replicate]
 have ad:∀(xs:T1),xs.length<=n->a8 (T (List.replicate (n-xs.length) 1)) (T xs)=some (T (ahead xs n)):=fun xs hx=>by rw[eY _ _ (by simp[jn];lia)];rfl
 have l1:=mV one n Qt;have l2:=mV other n Qt;have zp:=kD one other;rw[hn] at zp;have L:=lp (g:=aD 6) (body:=jc) (fun(k:Nat)=>D.int k) (fun(s:T1)(t:Sl)=>[.sh (T one),.sh (T other),.sh (.int (n:Int)),.sh (T (ahead one n)),.sh (T (ahead other n)),.sh (T s),t]) vz (fun acc k=>Kz acc ((ahead one n).getD k 0,(ahead other n).getD k 0)) (List.range n) (fun k s=>s.length=k) [] .no rfl rfl ?_;have e:jO (fun acc k=>Kz acc ((ahead one n).getD k 0,(ahead other n).getD k 0)) (List.range n) []=jO Kz (pairs one other).reverse []:=by
  have em:(pairs one other).reverse=(List.range n).map fun k=>((ahead one n).getD k 0,(ahead other n).getD k 0):=by
   rw[<-zp];refine FF (by simp[l1,l2]) fun k a b=>?_;have hk:k<n:=by simpa using b
   simp[l1,l2,hk]
  rw[em];generalize (List.range n)=ks;generalize ([]:T1)=acc;induction ks generalizing acc with|nil=>rfl|cons k ks ih=>simp only[jO,List.map_cons];split<;>simp_all
 rw[e,so,Hl] at L;unfold meet;have m1':=mu one o1;have m2':=mu other o2;have a1':=ad one o1;have a2':=ad other o2;by_cases q:(pairs one other).all (fun p=>qC p.1 p.2)=true;rw[Wr q] at L;obtain⟨_,t,_,L⟩:=L;simp only[List.nil_append] at L;rw[Wr q];rw[show T []=D.tup [] from rfl,Ap] at L;unfold iC yG Bf;exact rn;rw[Uu q] at L;obtain⟨s',t,L⟩:=L;rw[Uu q];rw[show T []=D.tup [] from rfl] at L;unfold iC yG Bf;exact rn;intro i k hk acc t ht hP;obtain⟨rfl,hk⟩:=cR hk;have hf:free (some t)=true:=ht;have e1:∀x:Int,a8 (T acc) (.tup [.int x])=some (T (acc++[x])):=fun x=>eY acc [x] (by simp[jn];lia);have i1:=gx (ahead one n) k Qt Qt;have i2:=gx (ahead other n) k Qt Qt;simp only[AR] at i1 i2;generalize (ahead one n).getD k 0=x at *;generalize (ahead other n).getD k 0=y at *;have g6:aD 6 (.int (k:Int)) [.sh (T one),.sh (T other),.sh (.int (n:Int)),.sh (T (ahead one n)),.sh (T (ahead other n)),.sh (T acc),t]=.ok () [.sh (T one),.sh (T other),.sh (.int (n:Int)),.sh (T (ahead one n)),.sh (T (ahead other n)),.sh (T acc),.sh (.int k)]:=by simp[hf]
 have x1:bq (aD 6) jc (.int k) [.sh (T one),.sh (T other),.sh (.int (n:Int)),.sh (T (ahead one n)),.sh (T (ahead other n)),.sh (T acc),t]=if qC x y then .ok .nx [.sh (T one),.sh (T other),.sh (.int (n:Int)),.sh (T (ahead one n)),.sh (T (ahead other n)),.sh (T (acc++[pk x y])),.sh (.int k)] else .ok (.rt .bE) [.sh (T one),.sh (T other),.sh (.int (n:Int)),.sh (T (ahead one n)),.sh (T (ahead other n)),.sh (T acc),.sh (.int k)]:=by
  have n1:=du x y;have n2:=du x 1;have n3:=du y 1;have n4:=iZ x 1;have e2:qC x y=(decide (x=1)||decide (y=1)||decide (x=y)):=by simp[qC,Bool.or_assoc]
  have e3:pk x y=if decide (x=1)=true then y else x:=by simp[pk]
  rw[e2,e3,bq,g6,aA];have j1:au (T (ahead one n)) (.int (k:Int))=some (.int x):=i1;have j2:au (T (ahead other n)) (.int (k:Int))=some (.int y):=i2;clear er mu ad zp i1 i2;generalize T (ahead one n)=A at *;generalize T (ahead other n)=B at *;generalize T one=O1 at *;generalize T other=O2 at *;clear mx;generalize decide (x=1)=b1 at *;generalize decide (y=1)=b2 at *;generalize decide (x=y)=b3 at *;have YA:=e1 x;have YB:=e1 y;unfold jc;cases b1;cases b2;cases b3;exact aG;exact aG;cases b3<;>exact aG;cases b2<;>cases b3<;>exact aG
 unfold Kz;dsimp only;rw[x1];by_cases q:qC x y=true;rw[Wr q,Wr q];exact⟨by simp[hP],.sh (.int k),rfl,rfl⟩;rw[Uu q,Uu q];exact⟨acc,.sh (.int k),rfl⟩
def Sm(xs:T1):Prop:=∀x∈xs,-100000<=x/\x<=100000
theorem Q0K(i j:Nat)(hi:i<32)(hj:j<32):eqB (.str (nm i)) (.str (nm j))=decide (i=j):=by rw[JS];exact Q2e i j hi hj
theorem my(n k:Nat)(d:Nat)(h:k<=n):wt n d (some (k:Int))=k:=by unfold wt;dsimp only;rw[if_neg Qt];lia
@[simp] theorem jY(n d:Nat):wt n d none=d:=OW
def wo(s:T1)(k:Nat):T1:=s.take k++s.drop (k+1)
def pin(s:T1)(k:Nat)(x:Int):T1:=s.take k++x::s.drop k
def rep(s:T1)(k:Nat)(x:Int):T1:=s.take k++x::s.drop (k+1)
theorem wa:∀(a b:T1),bc (a++b)=bc a*bc b|[],b=>by simp[bc]|x::a,b=>by simp only[List.cons_append,bc,wa a b];rw[Int.mul_assoc]
def ck(ss:Rp):D:=.lst (ss.map T)
theorem Q0V(ss:Rp)(i:Nat)(s:T1)(h:ss[i]?=some s):zF (ss.map T) (i:Int)=some (T s):=by refine lh _ _ _ Qt ?_;simp[h]
theorem fJ(ss:Rp):bz (ck ss)=some (.int ss.length):=by simp[ck]
theorem GX(ss:Rp)(i:Nat)(s:T1)(h:ss[i]?=some s):au (ck ss) (.int i)=some (T s):=Q0V ss i s h
theorem gO{s t m:T1}(h:meet s t=some m):m.length=max s.length t.length:=by unfold meet at h;split at h;cases h;simp[pairs];cases h
theorem Ic(n:Nat)(s:T1):VP.plain (n+1) (T s)=true:=by unfold T;rw[VP.plain];exact fS n s
theorem GF(k:Nat)(h:k<32):mE (nm k)=true:=by have h':=Bc h RT;rw[nM h'];exact List.all_eq_true.mp mh.1 _ (G4 h')
inductive PL where
 |given (j:Int)|gq (s:T1) (x:Int)|turn (a:Nat) (o:T1)|cut (a:Nat) (k b st m:Int)|drop (a:Nat) (k p:Int)|wide (a:Nat) (k:Int)|spread (a:Nat) (t:T1)|shape (a:Nat) (t:T1)|shift (a:Nat) (k n x:Int)|one (d a:Nat)|both (d a b:Nat)|cU (a b c:Nat)|fold (d a:Nat) (k:Int)|run (d a:Nat) (k:Int)|pick (a:Nat) (k:Int) (b:Nat)|join (a b:Nat) (k:Int)
abbrev SK:=List PL
instance:Inhabited PL:=⟨.given 0⟩
def PL.k:PL->Nat|.given _=>0|.gq _ _=>1|.turn _ _=>2|.cut _ _ _ _ _=>3|.drop _ _ _=>4|.wide _ _=>5|.spread _ _=>6|.shape _ _=>7|.shift _ _ _ _=>8|.one _ _=>9|.both _ _ _=>10|.cU _ _ _=>11|.fold _ _ _=>12|.run _ _ _=>13|.pick _ _ _=>14|.join _ _ _=>15
def PL.ps:PL->List D|.given j=>[.int j]|.gq s x=>[T s,.int x]|.turn a o=>[.int a,T o]|.cut a k b st m=>[.int a,.int k,.int b,.int st,.int m]|.drop a k p=>[.int a,.int k,.int p]|.wide a k=>[.int a,.int k]|.spread a t=>[.int a,T t]|.shape a t=>[.int a,T t]|.shift a k n x=>[.int a,.int k,.int n,.int x]|.one d a=>[.str (nm d),.int a]|.both d a b=>[.str (nm d),.int a,.int b]|.cU a b c=>[.int a,.int b,.int c]|.fold d a k=>[.str (nm d),.int a,.int k]|.run d a k=>[.str (nm d),.int a,.int k]|.pick a k b=>[.int a,.int k,.int b]|.join a b k=>[.int a,.int b,.int k]
def PL.d(l:PL):D:=.tup (.str (nm l.k)::l.ps)
def PL.ns:PL->List Nat|.given _=>[]|.gq _ _=>[]|.turn a _=>[a]|.cut a _ _ _ _=>[a]|.drop a _ _=>[a]|.wide a _=>[a]|.spread a _=>[a]|.shape a _=>[a]|.shift a _ _ _=>[a]|.one _ a=>[a]|.both _ a b=>[a,b]|.cU a b c=>[a,b,c]|.fold _ a _=>[a]|.run _ a _=>[a]|.pick a _ b=>[a,b]|.join a b _=>[a,b]
def PL.oU:PL->Prop|.one d _=>d<32|.both d _ _=>d<32|.fold d _ _=>d<32|.run d _ _=>d<32|_=>True
theorem PL.Rj(l:PL):l.k<16:=by cases l<;>simp[PL.k]
theorem PL.ki(l:PL):l.ns.length<=3:=by cases l<;>simp[PL.ns]
theorem PL.kind(l:PL):au l.d (.int 0)=some (.str (nm l.k)):=by unfold PL.d;simp
theorem PL.named(l:PL):ox [l.d]=.ok (.lst (l.ns.map fun a=>D.int (a:Nat))) []:=by cases l<;>kernel_rfl!
def PL.ok(l:PL):Prop:=l.oU
theorem PL.plain(l:PL)(h:l.oU)(n:Nat):VP.plain (n+2) l.d=true:=by have f:∀k,k<32->mE (nm k)=true:=GF;have p:∀s:T1,VP.plain (n+1) (T s)=true:=Ic n;cases l<;>simp[PL.d,PL.k,PL.ps,PL.oU,VP.plain,fC,p,f] at h ⊢<;>exact f _ h
def Pg(ls:SK):D:=.lst (ls.map PL.d)
theorem Ki(ls:SK)(i:Nat)(l:PL)(h:ls[i]?=some l):au (Pg ls) (.int (i:Int))=some l.d:=by unfold Pg;rw[kj];exact lh _ _ _ Qt (by simp[h])
theorem km(ls:SK):bz (Pg ls)=some (.int ls.length):=by simp[Pg]
theorem Ff(ls:SK):cq (Pg ls)=some (ls.map PL.d):=rfl
theorem cP{S Tm A:Type}{g:D->M Unit}{body:M Fl}(mk:A->D)(R:S->Tm->aS)(ok:Tm->Prop):∀(as:List A)(P:Nat->S->Prop)(s:S)(t:Tm),ok t->P 0 s ->
  (∀(i:Nat)(a:A),as[i]?=some a->∀s t,ok t->P i s->∃s' t',P (i+1) s'/\ok t'/\cont (bq g body (mk a) (R s t))=some (R s' t')) ->
  ∃s' t',P as.length s'/\ok t'/\loop g body (as.map mk) (R s t)=.ok .nx (R s' t'):=by
 intro as;induction as with|nil=>intro P s t ht hs _;exact⟨s,t,hs,ht,rfl⟩|cons a as ih=>intro P s t ht hs h;obtain⟨s1,t1,p1,o1,e1⟩:=h 0 a rfl s t ht hs;obtain⟨s2,t2,p2,o2,e2⟩:=ih (fun k=>P (k+1)) s1 t1 o1 p1 fun i a' ha=>h (i+1) a' (by simpa using ha);exact⟨s2,t2,by simpa using p2,o2,by rw[List.map_cons,ko e1];exact e2⟩
def Wf(ls:SK):Prop:=∀(i:Nat)(l:PL),ls[i]?=some l->∀r∈l.ns,r<i
inductive uQ(ls:SK):Nat->Prop where
 |last:uQ ls (ls.length-1)|step {i r:Nat} {l:PL}:uQ ls i->ls[i]?=some l->r∈l.ns->uQ ls r
theorem uQ.lt{ls:SK}(wf:Wf ls)(h0:ls≠[]){i:Nat}(h:uQ ls i):i<ls.length:=by induction h with|last=>have:=List.length_pos_iff.mpr h0;lia|step h e hr ih=>have:=wf _ _ e _ hr;lia
def iN(w:Ur):D:=.lst (w.map .bl)
def bN(ks:Ue):D:=.lst (ks.map fun k=>.int (k:Nat))
theorem vQ:∀(ns:Ue)(w:Ur)(i:Nat),(ns.foldl (fun w r=>w.set r true) w).length=w.length/\((ns.foldl (fun w r=>w.set r true) w)[i]?=some true<->i<w.length/\(w[i]?=some true\/i∈ns))
|[],w,i=>by refine⟨rfl,⟨fun h=>⟨(List.getElem?_eq_some_iff.mp h).1,.inl h⟩,fun ⟨h1,h⟩=>?_⟩⟩;rcases h with h|h;exact h;simp at h
|r::ns,w,i=>by obtain⟨h1,h2⟩:=vQ ns (w.set r true) i;simp only[List.foldl_cons];refine⟨by rw[h1];simp,?_⟩;rw[h2];simp only[List.length_set,List.mem_cons];constructor;rintro⟨a,b⟩;refine⟨a,?_⟩;rcases b with b|b;by_cases e:r=i;exact .inr (.inl e.symm);rw[HB e] at b;exact .inl b;exact .inr (.inr b);rintro⟨a,b⟩;refine⟨a,?_⟩;by_cases e:r=i;subst e;exact .inl (by rw[MH a]);rw[HB e];rcases b with b|b|b;exact .inl b;exact absurd b.symm e;exact .inr b
theorem CM(w:Ur)(r:Nat)(b:Bool)(h:r<w.length):setAt (.int (r:Int)) (.bl b) (iN w)=some (iN (w.set r b)):=by unfold iN;rw[nU _ _ _ Qt (by simp;lia),AR,List.map_set]
theorem lL(w:Ur)(i:Nat)(b:Bool)(h:w[i]?=some b):au (iN w) (.int (i:Int))=some (.bl b):=by unfold iN;rw[kj];exact lh _ _ _ Qt (by simp[h])
theorem sG(P:D)(s:Sl):∀(ns:Ue)(w:Ur),(∀r∈ns,r<w.length)->∀t,free (some t)=true->∃t',free (some t')=true/\loop (aD 3) eR (ns.map fun k=>D.int (k:Nat)) [.sh P,.ow (iN w),s,t]=.ok .nx [.sh P,.ow (iN (ns.foldl (fun w r=>w.set r true) w)),s,t']|[],w,_,t,ht=>⟨t,ht,rfl⟩|r::ns,w,h,t,ht=>by have hr:=h r Bl;obtain⟨t',h1,h2⟩:=sG P s ns (w.set r true) (fun x hx=>by simpa using h x (Uq _ hx)) (.sh (.int r)) rfl;refine⟨t',h1,?_⟩;have il:isLst (some (iN w))=true:=rfl;rw[P6,ko (r':=[.sh P,.ow (iN (w.set r true)),s,.sh (.int r)]) (by simp[bq,eR,ht,il,CM w r true hr]),h2];rfl
theorem Bz(ls:SK)(wf:Wf ls)(h0:ls≠[])(hl:ls.length<=100):∃w,vo [Pg ls]=.ok (iN w) []/\w.length=ls.length/\∀i,w[i]?=some true<->uQ ls i:=by
 rw[vo,fG _ _ _ _ rfl];have hn:=List.length_pos_iff.mpr h0;have c:aQ 1 (cJ (af 0)) (aD 4) (VP.ret true) eD [.sh (Pg ls),.no,.no,.no]=.ok (iN (List.replicate ls.length false)) [.sh (Pg ls),.no,.no,.no]:=by refine gJ PL.d (fun _=>D.bl false) ls (by simp[Ff]) Qt (by simp[iN,List.map_const']) fun l hl acc=>?_;simp[eD]
 have ln:=km ls;have st:=CM (List.replicate ls.length false) (ls.length-1) true (by simp;lia);rw[show (((ls.length-1:Nat)):Int)=(ls.length:Int)-1 by lia] at st;have il:∀w,isLst (some (iN w))=true:=fun _=>rfl;have dn:Fb [.int ((ls.length:Int)-1),.int (-1),.int (-1)]=some ((List.range ls.length).map fun(k:Nat)=>.int ((ls.length:Int)-1-k)):=by
  have d:Fb [.int ((ls.length:Int)-1),.int (-1),.int (-1)]=if (-1:Int)=-1/\(-(2 ^ 62)<=(ls.length:Int)-1/\(ls.length:Int)-1<2 ^ 62)/\-(2 ^ 62)<=(-1:Int)/\(-1:Int)<2 ^ 62 then some ((List.range ((ls.length:Int)-1 - -1).toNat).map fun(k:Nat)=>.int ((ls.length:Int)-1-k)) else none:=rfl
  rw[d,Wr ⟨rfl,⟨Qt,Qt⟩,by decide,by decide⟩];rw[show ((ls.length:Int)-1 - -1).toNat=ls.length by lia]
 obtain⟨w,t,⟨hw,h1,h2,h3⟩,ht,L⟩:=cP (g:=aD 2) (body:=di) (fun(k:Nat)=>D.int ((ls.length:Int)-1-k)) (fun(w:Ur)(t:Sl×Sl)=>[.sh (Pg ls),.ow (iN w),t.1,t.2]) kM (List.range ls.length)
  (fun j w=>w.length=ls.length/\(∀i,w[i]?=some true->uQ ls i)/\w[ls.length-1]?=some true/\∀i,ls.length-j<=i->w[i]?=some true->∀l,ls[i]?=some l->∀r∈l.ns,w[r]?=some true)
  ((List.replicate ls.length false).set (ls.length-1) true) (.no,.no) ⟨rfl,rfl⟩ ⟨Ro,fun i h=>by
   by_cases e:ls.length-1=i;subst e;exact .last;rw[HB e,G1] at h;split at h<;>simp at h,by rw[List.getElem?_set_self (by simp;lia)],fun i hi h l hl=>by
   have:=(List.getElem?_eq_some_iff.mp hl).1;lia⟩ (by
  intro j k hk w t ht hP;obtain⟨rfl,hj⟩:=cR hk;obtain⟨t2,t3⟩:=t;obtain⟨f2,f3⟩:=ht;obtain⟨hw,p1,p2,p3⟩:=hP;dsimp only at f2 f3;have oA:ls.length-1-k<ls.length:=Qt;have ei:((ls.length:Int)-1-k)=((ls.length-1-k:Nat):Int):=Qt;rw[ei];obtain⟨l,hl⟩:∃l,ls[ls.length-1-k]?=some l:=⟨_,Nc oA⟩;have ix:=Ki ls _ l hl;generalize hi:ls.length-1-k=i at *;obtain⟨b,hb⟩:∃b,w[i]?=some b:=⟨_,Nc Qt⟩;have bi:=lL w i b hb;cases b with
  |false=>refine⟨w,(.sh (.int i),t3),⟨hw,p1,p2,fun m hm h x hx=>?_⟩,⟨rfl,f3⟩,?_⟩;by_cases e:m=i;subst e;rw[hb] at h;cases h;exact p3 m Qt h x hx;simp[bq,di,f2,bi]|true=>
   have nb:=fun r hr=>wf i l hl r hr;obtain⟨t',VF,L⟩:=sG (Pg ls) (.sh (.int i)) l.ns w (fun r hr=>by have:=nb r hr;lia) t3 f3;have mg:=vQ l.ns w;refine⟨l.ns.foldl (fun w r=>w.set r true) w,(.sh (.int i),t'),⟨by rw[(mg 0).1];exact hw,fun m h=>?_,?_,fun m hm h x hx r hr=>?_⟩,⟨rfl,VF⟩,?_⟩;rcases ((mg m).2.mp h).2 with q|q;exact p1 m q;exact .step (p1 i hb) hl q;exact(mg _).2.mpr ⟨Qt,.inl p2⟩;rcases ((mg m).2.mp h).2 with q|q;by_cases e:m=i;subst e;rw[hl] at hx;cases hx;exact(mg r).2.mpr ⟨by have:=nb r hr;lia,.inr hr⟩;have:=p3 m Qt q x hx r hr;exact(mg r).2.mpr ⟨(List.getElem?_eq_some_iff.mp this).1,.inl this⟩;have:=nb m q;by_cases e:m=i
   lia
   lia
   simp[bq,di,f2,bi,ix,PL.named,L])
 obtain⟨t2,t3⟩:=t;simp only[List.length_range] at h3;refine⟨w,?_,hw,fun i=>⟨h1 i,fun h=>?_⟩⟩;simp[CD,c,il,ln,st,dn,L];induction h with|last=>exact h2|step h e hr ih=>exact h3 _ Qt ih _ e _ hr
theorem ZC(k:Nat)(hk:k<32)(js:Ue)(hj:∀j∈js,j<32):((js.map fun j=>D.str (nm j)).any fun y=>eqB y (.str (nm k)))=decide (k∈js)/\(js.map fun j=>D.str (nm j)).all jN=true:=by induction js with|nil=>simp|cons j js ih=>obtain⟨h1,h2⟩:=ih fun x hx=>hj x (Uq _ hx);refine⟨?_,?_⟩;rw[P6,VW,h1,Q0K _ _ (hj j Bl) hk];by_cases e:j=k;simp[e];have e':¬k=j:=fun z=>e z.symm;simp[e,e'];rw[P6,FA,h2];rfl
theorem L8(k:Nat)(hk:k<32)(js:Ue)(hj:∀j∈js,j<32):inD false (.str (nm k)) (.tup (js.map fun j=>D.str (nm j)))=some (.bl (decide (k∈js))):=by obtain⟨h1,h2⟩:=ZC k hk js hj;unfold inD;rw[Fe];dsimp only;rw[h2,h1];rfl
def fX(ls:SK)(i:Nat):PL:=ls.getD i default
def kd(ls:SK)(i:Nat):Nat:=(fX ls i).k
def sd(ss:Rp)(i:Nat):T1:=ss.getD i []
def gQ(ls:SK)(i:Nat):Ue:=(fX ls i).ns
theorem DZ(ls:SK)(i:Nat):kd ls i<32:=by have:=(fX ls i).Rj;unfold kd;lia
theorem vL(ls:SK)(i:Nat)(h:i<ls.length):au (Pg ls) (.int (i:Int))=some (fX ls i).d:=Ki ls i _ (by simp[fX,h])
theorem cE(ss:Rp)(i:Nat)(h:i<ss.length):au (ck ss) (.int (i:Int))=some (T (sd ss i)):=GX ss i _ (by simp[sd,h])
def fY(ls:SK)(w:Ur)(p:Nat):Ue:=(List.range ls.length).flatMap fun i=>if w.getD i false then((gQ ls i).filter (fun r=>decide (r=p))).map fun _=>i else []
theorem Q2T(ls:SK)(l:PL)(P W:D)(p i:Nat)(acc:D)(t:Sl):aQ 1 (cJ (az ox [.val (af 5)])) (aD 6) eE eA [.sh P,.sh W,.sh (.int p),.ow acc,.sh (.int i),.sh l.d]=.ok (bN ((l.ns.filter fun r=>decide (r=p)).map fun _=>i)) [.sh P,.sh W,.sh (.int p),.ow acc,.sh (.int i),.sh l.d]:=by
 have n:=l.named;have fw:=l.ki;generalize l.ns=ns at n fw ⊢;generalize l.d=ld at n ⊢;refine pY (fun(a:Nat)=>D.int (a:Nat)) (fun r=>decide (r=p)) (fun _=>D.int i) ns aG Qt (by rw[bN,E1];rfl) (fun a _ acc=>?_) fun a _ _ acc=>?_;have e:cn (.int (a:Int)) (.int (p:Int))=some (.bl (decide (a=p))):=by rw[iZ];congr 3;exact propext Int.ofNat_inj
 dsimp only[List.cons_append,List.nil_append];unfold eE;exact aG;dsimp only[List.cons_append,List.nil_append];unfold eA;exact aG
theorem tM(ls:SK):kI (ls.map PL.d)=(List.range ls.length).map fun(i:Nat)=>D.tup [.int i,(fX ls i).d]:=by
 rw[rX];refine FF Ro fun i h1 h2=>?_;have h:i<ls.length:=by simpa using h2
 simp[h,fX]
theorem Ba(ls:SK)(w:Ur)(p:Nat)(hw:w.length=ls.length)(hl:ls.length<=100):y7 [Pg ls,iN w,.int p]=.ok (bN (fY ls w p)) []:=by
 rw[y7,fG _ _ _ _ rfl];have en:lS [Pg ls]=some ((List.range ls.length).map fun(i:Nat)=>D.tup [.int i,(fX ls i).d]):=by unfold Pg;rw[rW,tM]
 let f:=fun(i:Nat)=>if w.getD i false then((gQ ls i).filter (fun r=>decide (r=p))).map fun _=>i else []
 obtain⟨_,t,_,L⟩:=ja (g:=cz [4,5]) (body:=dh) (fun(i:Nat)=>D.tup [.int i,(fX ls i).d]) (fun(s:Ue)(t:Sl×Sl)=>[.sh (Pg ls),.sh (iN w),.sh (.int p),.ow (bN s),t.1,t.2]) kM
  (fun k s=>s.length<=3*k) (fun s i=>s++f i) (List.range ls.length) [] (.no,.no) ⟨rfl,rfl⟩ Ro (by
  intro j i hi s t ht hP;obtain⟨t4,t5⟩:=t;obtain⟨f4,f5⟩:=ht;dsimp only at f4 f5;obtain⟨rfl,hi⟩:=cR hi;obtain⟨b,hb⟩:∃b,w[i]?=some b:=⟨_,Nc Qt⟩;have hg:w.getD i false=b:=by simp[hb]
  have bi:=lL w i b hb;have il:isLst (some (bN s))=true:=rfl;have fw:=(fX ls i).ki;cases b with
  |false=>
   have e:f i=[]:=by simp[f,hb]
   refine⟨by rw[e];simp;lia,(.sh (.int i),.sh (fX ls i).d),⟨rfl,rfl⟩,?_⟩;rw[e];generalize (fX ls i).d=ld;simp[bq,dh,f4,f5,bi]
  |true=>
   have e:f i=(((fX ls i).ns.filter (fun r=>decide (r=p))).map fun _=>i):=by simp[f,hb,gQ]
   have pc:=Q2T ls (fX ls i) (Pg ls) (iN w) p i (bN s) .no;rw[<-e] at pc;have le:(f i).length<=3:=by rw[e,uG];exact WH (Yn _ _) fw
   have ex:xl (bN (f i)) (bN s)=some (bN (s++f i)):=by unfold bN;rw[GD _ _ (by simp[jn];lia),BN]
   refine⟨by simp;lia,(.sh (.int i),.sh (fX ls i).d),⟨rfl,rfl⟩,?_⟩;generalize (fX ls i).d=ld at *;generalize f i=fi at *;simp[bq,dh,f4,f5,bi,pc,il,ex])
 have e:(List.range ls.length).foldl (fun s i=>s++f i) []=fY ls w p:=by
  have g:∀(xs:Ue)(a:Ue),xs.foldl (fun s i=>s++f i) a=a++xs.flatMap f:=by intro xs;induction xs with|nil=>intro a;simp|cons x xs ih=>intro a;simp[ih]
  rw[g];rfl
 rw[e] at L;have l0:D.lst []=bN []:=rfl;simp[Cm,l0,en,L]
def K4:Ue:=[0,12,13,14]
def S3:Ue:=[6,10,11]
def H2:Ue:=[7,14]
def Ky(ls:SK)(ss:Rp)(i p:Nat):Bool:=decide (kd ls i∈S3)&&!decide (sd ss i=sd ss p)
def lY(ls:SK)(ss:Rp)(p:Nat)(ms:Ue):Bool:=decide (p=ls.length-1)||decide (kd ls p∈K4)||ms.any (fun i=>decide (kd ls i∈H2))||(!decide (kd ls p=1)&&(decide (1<ms.length)||ms.any fun i=>Ky ls ss i p))
theorem yf(ls:SK)(ss:Rp)(i p:Nat)(hi:i<ls.length)(hp:p<ls.length)(hs:ss.length=ls.length):zh [Pg ls,ck ss,.int i,.int p]=.ok (.bl (Ky ls ss i p)) []:=by rw[zh,fG _ _ _ _ rfl];have ix:=vL ls i hi;have kk:=PL.kind (fX ls i);have kl:=DZ ls i;have ik:inD false (.str (nm (kd ls i))) (.tup [.str (nm 6),.str (nm 10),.str (nm 11)])=some (.bl (decide (kd ls i∈S3))):=L8 (kd ls i) kl S3 (by simp[S3]);have s1:=cE ss i Qt;have s2:=cE ss p Qt;have e:(fX ls i).k=kd ls i:=rfl;rw[e] at kk;generalize (fX ls i).d=ld at *;unfold Ky;by_cases h:kd ls i∈S3;rw[WN h] at ik;simp[yJ,ix,kk,ik,s1,s2,h];rw[Nn h] at ik;simp[yJ,ix,kk,ik,h]
theorem xB(ls:SK)(ss:Rp)(p:Nat)(ms:Ue)(hp:p<ls.length)(hs:ss.length=ls.length)(hm:∀i∈ms,i<ls.length)(hl:ms.length<=1000):yW [Pg ls,ck ss,.int p,bN ms]=.ok (.bl (lY ls ss p ms)) []:=by
 have ix:=vL ls p hp;have kk:=PL.kind (fX ls p);have kl:=DZ ls p;have e:(fX ls p).k=kd ls p:=rfl;rw[e] at kk;have i4:inD false (.str (nm (kd ls p))) (.tup [.str (nm 0),.str (nm 12),.str (nm 13),.str (nm 14)])=some (.bl (decide (kd ls p∈K4))):=L8 (kd ls p) kl K4 (by simp[K4]);have ln:=km ls;have c1:aQ 1 (cJ (af 3)) (aD 5) (VP.ret true) iS [.sh (Pg ls),.sh (ck ss),.sh (.int p),.sh (bN ms),.sh (.str (nm (kd ls p)))]=.ok (.lst (ms.map fun i=>D.bl (decide (kd ls i∈H2)))) [.sh (Pg ls),.sh (ck ss),.sh (.int p),.sh (bN ms),.sh (.str (nm (kd ls p)))]:=by refine gJ (fun(i:Nat)=>D.int i) (fun i=>D.bl (decide (kd ls i∈H2))) ms rfl Qt rfl fun i hi acc=>?_;have ixi:=vL ls i (hm i hi);have ZG:=PL.kind (fX ls i);have ei:(fX ls i).k=kd ls i:=rfl;rw[ei] at ZG;have ik:inD false (.str (nm (kd ls i))) (.tup [.str (nm 7),.str (nm 14)])=some (.bl (decide (kd ls i∈H2))):=L8 (kd ls i) (DZ ls i) H2 (by simp[H2]);generalize (fX ls i).d=ld at *;dsimp only[List.cons_append,List.nil_append];unfold iS;exact aG
 have c2:aQ 1 (cJ (af 3)) (aD 5) (VP.ret true) iT [.sh (Pg ls),.sh (ck ss),.sh (.int p),.sh (bN ms),.sh (.str (nm (kd ls p)))]=.ok (.lst (ms.map fun i=>D.bl (Ky ls ss i p))) [.sh (Pg ls),.sh (ck ss),.sh (.int p),.sh (bN ms),.sh (.str (nm (kd ls p)))]:=by refine gJ (fun(i:Nat)=>D.int i) (fun i=>D.bl (Ky ls ss i p)) ms rfl Qt rfl fun i hi acc=>?_;have:=yf ls ss i p (hm i hi) hp hs;dsimp only[List.cons_append,List.nil_append];unfold iT;exact aG
 have a1:=BR (fun i=>decide (kd ls i∈H2)) ms;have a2:=BR (fun i=>Ky ls ss i p) ms;have e1:=JT (kd ls p) 1 kl Qt;have lm:bz (bN ms)=some (.int ms.length):=by simp[bN]
 generalize (fX ls p).d=ld at *;generalize D.lst (ms.map fun i=>D.bl (decide (kd ls i∈H2)))=L1 at *;generalize D.lst (ms.map fun i=>D.bl (Ky ls ss i p))=L2 at *;generalize bN ms=N at *;generalize Pg ls=Pl at *;generalize ck ss=Sl at *;have g1:Dw (.int (ms.length:Int)) (.int 1)=some (.bl (decide (1<ms.length))):=by rw[Dx];congr 3;exact propext Qt
 have g2:cn (.int (p:Int)) (.int ((ls.length:Int)-1))=some (.bl (decide (p=ls.length-1))):=by rw[iZ];congr 3;exact propext Qt
 unfold lY yW B5;generalize decide (p=ls.length-1)=b1 at *;generalize decide (kd ls p∈K4)=b2 at *;generalize decide (kd ls p=1)=b3 at *;generalize decide (1<ms.length)=b4 at *;generalize ms.any (fun i=>decide (kd ls i∈H2))=b5 at *;generalize ms.any (fun i=>Ky ls ss i p)=b6 at *;cases b1;cases b2;cases b5;cases b3;cases b4;cases b6<;>exact rn;exact rn;exact rn;exact rn;exact rn;exact rn
def sD(ls:SK)(ss:Rp)(w:Ur):Ur:=(List.range ls.length).map fun p=>w.getD p false&&lY ls ss p (fY ls w p)
theorem qy(ls:SK)(w:Ur)(p i:Nat):i∈fY ls w p<->i<ls.length/\w.getD i false=true/\p∈gQ ls i:=by
 unfold fY;rw[List.mem_flatMap];constructor;rintro⟨j,hj,h⟩;rw[List.mem_range] at hj;by_cases q:w.getD j false=true;rw[Wr q] at h;obtain⟨r,hr,e⟩:=List.mem_map.mp h;subst e;rw[List.mem_filter] at hr;have:r=p:=by simpa using hr.2
 subst this;exact⟨hj,q,hr.1⟩;rw[Uu q] at h;simp at h;rintro⟨h1,h2,h3⟩;refine⟨i,List.mem_range.mpr h1,?_⟩;rw[Wr h2];exact List.mem_map.mpr ⟨p,List.mem_filter.mpr ⟨h3,Ro⟩,rfl⟩
theorem xP(ls:SK)(w:Ur)(p:Nat):(fY ls w p).length<=3*ls.length:=by
 unfold fY;generalize ls.length=n;induction n with
 |zero=>simp|succ n ih=>
  rw[List.range_succ,List.flatMap_append,En];have:([n].flatMap fun i=>if w.getD i false then((gQ ls i).filter (fun r=>decide (r=p))).map fun _=>i else []).length<=3:=by rw[List.flatMap_cons,List.flatMap_nil,MF];split;rw[uG];exact WH (Yn _ _) (fX ls n).ki;simp
  lia
theorem rm(ls:SK)(ss:Rp)(wf:Wf ls)(h0:ls≠[])(hl:ls.length<=100)(hs:ss.length=ls.length):∃w,vo [Pg ls]=.ok (iN w) []/\w.length=ls.length/\(∀i,w[i]?=some true<->uQ ls i)/\vh [Pg ls,ck ss]=.ok (iN (sD ls ss w)) []:=by
 obtain⟨w,h1,h2,h3⟩:=Bz ls wf h0 hl;refine⟨w,h1,h2,h3,?_⟩;rw[vh,fG _ _ _ _ rfl];have en:lS [Pg ls]=some ((List.range ls.length).map fun(i:Nat)=>D.tup [.int i,(fX ls i).d]):=by unfold Pg;rw[rW,tM]
 let f:=fun p=>w.getD p false&&lY ls ss p (fY ls w p);obtain⟨_,t,_,L⟩:=ja (g:=cz [4,5]) (body:=dI) (fun(i:Nat)=>D.tup [.int i,(fX ls i).d]) (fun(s:Ur)(t:Sl×Sl)=>[.sh (Pg ls),.sh (ck ss),.sh (iN w),.ow (iN s),t.1,t.2]) kM
  (fun k s=>s.length=k) (fun s i=>s++[f i]) (List.range ls.length) [] (.no,.no) ⟨rfl,rfl⟩ rfl (by
  intro j i hi s t ht hP;obtain⟨t4,t5⟩:=t;obtain⟨f4,f5⟩:=ht;dsimp only at f4 f5;obtain⟨rfl,hi⟩:=cR hi;obtain⟨b,hb⟩:∃b,w[i]?=some b:=⟨_,Nc Qt⟩;have hg:w.getD i false=b:=by simp[hb]
  have bi:=lL w i b hb;have il:isLst (some (iN s))=true:=rfl;have nl:=xP ls w i;have na:=Ba ls w i h2 hl;have ik:=xB ls ss i (fY ls w i) hi hs (fun m hm=>((qy ls w i m).mp hm).1) Qt;have ap:gj (.bl (f i)) (iN s)=some (iN (s++[f i])):=by unfold iN;rw[iP _ _ (by simp;lia),BN];rfl
  refine⟨by simp[hP],(.sh (.int i),.sh (fX ls i).d),⟨rfl,rfl⟩,?_⟩;generalize (fX ls i).d=ld at *;cases b with
  |false=>
   have e:f i=false:=by simp only[f,hg,Bool.false_and]
   rw[e] at ap ⊢;simp[bq,dI,f4,f5,bi,il,ap]
  |true=>
   have e:f i=lY ls ss i (fY ls w i):=by simp only[f,hg,Bool.true_and]
   rw[e] at ap ⊢;simp[bq,dI,f4,f5,bi,na,ik,il,ap])
 have e:(List.range ls.length).foldl (fun s i=>s++[f i]) []=sD ls ss w:=by
  have g:∀(xs:Ue)(a:Ur),xs.foldl (fun s i=>s++[f i]) a=a++xs.map f:=by intro xs;induction xs with|nil=>intro a;simp|cons x xs ih=>intro a;simp[ih]
  rw[g];rfl
 rw[e] at L;have l0:D.lst []=iN []:=rfl;obtain⟨t4,t5⟩:=t;unfold B8;simp only[oO,qQ,wq,Kw,if_neg (show ¬(false=true) by decide)];rw[pJ,show aP 2 _ _=.ok .nx [.sh (Pg ls),.sh (ck ss),.sh (iN w),.no,.no,.no] by simp[h1],uE];rw[pJ,show fT 3 _ _=.ok .nx [.sh (Pg ls),.sh (ck ss),.sh (iN w),.ow (iN []),.no,.no] by simp[l0],uE];rw[pJ,show fE _ _ _ _=.ok .nx [.sh (Pg ls),.sh (ck ss),.sh (iN w),.ow (iN (sD ls ss w)),t4,t5] by simp[en,L,-List.map_map],uE];simp
theorem meet_comm(one other:T1):meet one other=meet other one:=by
 have e:pairs other one=(pairs one other).map fun p=>(p.2,p.1):=by unfold pairs;rw[Nat.max_comm];simp
 unfold meet;rw[e];have h1:∀x y,qC y x=qC x y:=fun x y=>by unfold qC;grind
 have h2:∀x y,qC x y=true->pk y x=pk x y:=fun x y=>by unfold qC pk;grind
 simp only[List.all_map,List.map_map,Function.comp_def,h1];split;rename_i q;congr 2;refine List.map_congr_left fun p hp=>(h2 _ _ ?_).symm;exact List.all_eq_true.mp q p hp;rfl
theorem meet_self(S:T1):meet S S=some S:=by
 have z:=kD S S;rw[Nat.max_self] at z;have e:ahead S S.length=S:=by simp[ahead]
 rw[e] at z;have a:(pairs S S).all (fun p=>qC p.1 p.2)=true:=by
  rw[<-Hl,<-z];refine List.all_eq_true.mpr fun p hp=>?_;have:p.1=p.2:=by obtain⟨i,hi,rfl⟩:=List.mem_iff_getElem.mp hp;simp
  simp[qC,this]
 unfold meet;rw[Wr a,<-Ap,<-z];congr 1;refine FF Ro fun i h1 h2=>?_;simp[pk]
theorem zt:∀(a t:T1),a.length=t.length->(((a.zip t).all (fun p=>qC p.1 p.2)=true/\(a.zip t).map (fun p=>pk p.1 p.2)=t)<->∀i<t.length,a.getD i 0=1\/a.getD i 0=t.getD i 0)
|[],[],_=>Ro|x::a,y::t,h=>by
 have ih:=zt a t (by simpa using h);simp only[List.zip_cons_cons,List.all_cons,List.map_cons,Bool.and_eq_true,List.cons.injEq];constructor;rintro⟨⟨h1,h2⟩,h3,h4⟩ i hi;cases i with|zero=>simp only[List.getD_cons_zero];unfold pk at h3;split at h3;exact .inl ‹_›;exact .inr h3|succ i=>simp only[List.getD_cons_succ];exact ih.mp ⟨h2,h4⟩ i (by simpa using hi)
 intro k;have k0:=k 0 Ro;simp only[List.getD_cons_zero] at k0;have:=ih.mpr fun i hi=>by have:=k (i+1) (by simpa using hi);simpa only[List.getD_cons_succ] using this
 refine⟨⟨?_,this.1⟩,?_,this.2⟩;unfold qC;rcases k0 with h|h<;>simp[h];unfold pk;split;rfl;rcases k0 with h|h;contradiction;exact h
theorem Aq(s:T1)(n i:Nat)(h:s.length<=n)(hi:i<n):(ahead s n).getD i 0=if i<n-s.length then 1 else s.getD (i-(n-s.length)) 0:=by unfold ahead;by_cases c:i<n-s.length;rw[Wr c,Jl,Lh (by simpa using c)];simp[c];rw[Uu c,Jl,HU (by simp;lia),Jl];simp
theorem oJ(s t:T1)(h:s.length<=t.length)(k:∀k<s.length,s.getD k 0=1\/s.getD k 0=t.getD (t.length-s.length+k) 0):meet s t=some t:=by
 have z:=kD s t;have e:max s.length t.length=t.length:=Qt;rw[e] at z;have ht:ahead t t.length=t:=by simp[ahead]
 rw[ht] at z;have f:=zt (ahead s t.length) t (by rw[mV _ _ h]);rw[z,Hl,Ap] at f;obtain⟨q1,q2⟩:=f.mpr fun i hi=>by rw[Aq s _ _ h hi];split;exact .inl rfl;have:=k (i-(t.length-s.length)) Qt;rwa [show t.length-s.length+(i-(t.length-s.length))=i by lia] at this
 unfold meet;rw[Wr q1,q2]
def iq(n tn:Nat):T1:=(List.range n).map fun(k:Nat)=>((k:Int)+tn) % n
def uj(n:Nat)(o:T1):Bool:=(decide ((j3 n).Pairwise (·<=·))&&(j3 n).isPerm o)&&(decide (o.length=n)&&(List.range n).all fun(j:Nat)=>o.contains (j:Int))
theorem Fw:(List.range 5).all (fun n=>(List.range 4).all fun tn=>decide (max 1 n<=tn)||(uj n (iq n tn)&&uj n (iq n tn).reverse))=true:=by decide +kernel
theorem Ag(n tn:Nat)(hn:n<=4)(ht:tn<max 1 n)(b:Bool):sortI (if b then(iq n tn).reverse else iq n tn)=j3 n/\(if b then(iq n tn).reverse else iq n tn).length=n/\∀j:Nat,j<n->(j:Int)∈(if b then(iq n tn).reverse else iq n tn):=by
 have h:=List.all_eq_true.mp (List.all_eq_true.mp Fw n (by simp;lia)) tn (by simp;lia);have h2:decide (max 1 n<=tn)=false:=by simp;lia
 rw[h2,Bool.false_or,Jk] at h;have key:∀o:T1,uj n o=true->sortI o=j3 n/\o.length=n/\∀j:Nat,j<n->(j:Int)∈o:=fun o q=>by simp only[uj,Bool.and_eq_true,decide_eq_true_eq,List.all_eq_true] at q;exact⟨(mz (List.isPerm_iff.mp q.1.2) q.1.1).symm,q.2.1,fun j hj=>by simpa using q.2.2 j (by simpa using hj)⟩
 cases b;exact key _ h.1;exact key _ h.2
theorem ES(s:T1):bc s.reverse=bc s:=by induction s with|nil=>rfl|cons x s ih=>rw[Wz,wa,ih];simp only[bc];rw[Int.mul_one,Int.mul_comm]
def Told(n:Nat)(G S:Nat->T1):PL->T1->Prop|.given j,t=>∃k:Nat,j=k/\k<n/\t=G k|.gq s x,t=>t=s/\Rt x|.turn a o,t=>sortI o=j3 (S a).length/\o.length=(S a).length/\t=o.map fun x=>(S a).getD x.toNat 0|.cut a k b st m,t=>∃j:Nat,k=j/\j<(S a).length/\(st≠0/\-3<=st/\st<=3)/\0<=m/\(0<m->(0<=b/\b<(S a).getD j 0)/\0<=b+st*(m-1)/\b+st*(m-1)<(S a).getD j 0)/\t=rep (S a) j m|.drop a k p,t=>∃j:Nat,k=j/\j<(S a).length/\(0<=p/\p<(S a).getD j 0)/\t=wo (S a) j|.wide a k,t=>∃j:Nat,k=j/\j<=(S a).length/\t=pin (S a) j 1|.spread a u,t=>meet (S a) u=some u/\t=u|.shape a u,t=>bc (S a)=bc u/\t=u|.shift a k _ x,t=>∃j:Nat,k=j/\j<(S a).length/\Rt x/\t=S a|.one d a,t=>(16<=d/\d<=18)/\t=S a|.both d a b,t=>(19<=d/\d<=25)/\meet (S a) (S b)=some t|.cU a b c,t=>∃u,meet (S a) (S b)=some u/\meet u (S c)=some t|.fold d a k,t=>∃j:Nat,k=j/\j<(S a).length/\d∈[19,21,22,23]/\((S a).getD j 0=0->d≠22/\d≠23)/\t=wo (S a) j|.run d a k,t=>∃j:Nat,k=j/\j<(S a).length/\d∈[19,21,22,23]/\t=S a|.pick a k b,t=>∃(j:Nat)(y:Int),k=j/\j<(S a).length/\S b=[y]/\t=rep (S a) j y|.join a b k,t=>∃j:Nat,k=j/\j<(S a).length/\(S a).length=(S b).length/\wo (S a) j=wo (S b) j/\t=rep (S a) j ((S a).getD j 0+(S b).getD j 0)
theorem Told.mono{n:Nat}{G S S':Nat->T1}{l:PL}{t:T1}(h:Told n G S l t)(e:∀a∈l.ns,S' a=S a):Told n G S' l t:=by cases l<;>simp only[PL.ns,List.mem_cons,List.not_mem_nil,or_false,forall_eq_or_imp,forall_eq] at e<;>simp only[Told] at h ⊢<;>first|exact h|simpa only[e] using h
theorem Told.oU{n:Nat}{G S:Nat->T1}{l:PL}{t:T1}(h:Told n G S l t):l.oU:=by
 cases l<;>simp only[Told,PL.oU] at h ⊢
 lia
 lia
 obtain⟨_,_,_,h,_⟩:=h;simp at h;lia;obtain⟨_,_,_,h,_⟩:=h;simp at h;lia
def SI(s:T1):Prop:=s.length<=4/\(∀x∈s,0<=x/\x<=24)/\bc s<=27
def Pre(s:T1):Prop:=s.length<=9/\∀x∈s,0<=x/\x<=100
theorem SI.pre{s:T1}(h:SI s):Pre s:=⟨by have:=h.1;lia,fun x hx=>by have:=h.2.1 x hx;lia⟩
theorem SI.get{s:T1}(h:SI s)(k:Nat):0<=s.getD k 0/\s.getD k 0<=24:=by by_cases hk:k<s.length;have:=h.2.1 s[k] (G4 hk);simpa[hk] using this;rw[Jl,I0 Qt];simp
theorem SI.Ss{s:T1}(h:SI s):0<=bc s:=(zY s fun x hx=>by have:=h.2.1 x hx;lia).1
theorem rV(s:T1)(k:Nat)(hk:k<=s.length):eG (T s) none (some (k:Int))=some (T (s.take k)):=by have:eG (T s) none (some (k:Int))=some (.tup (cutD (s.map .int) none (some (k:Int)))):=rfl;rw[this,cutD,uG,my _ _ _ hk,jY];simp[T]
theorem rT(s:T1)(k:Nat)(hk:k<=s.length):eG (T s) (some (k:Int)) none=some (T (s.drop k)):=by have:eG (T s) (some (k:Int)) none=some (.tup (cutD (s.map .int) (some (k:Int)) none)):=rfl;rw[this,cutD,uG,my _ _ _ hk,jY,HY Ro];simp[T]
theorem CT(s:T1)(h:Pre s):vj [T s]=.ok (.int (bc s)) []:=by rw[vj,fG _ _ _ _ rfl];obtain⟨_,t,_,L⟩:=ja (g:=aD 2) (body:=jb) D.int (fun(p:Int)(t:Sl)=>[.sh (T s),.sh (.int p),t]) vz (fun _ _=>True) (fun p x=>p*x) s 1 .no rfl trivial (by intro i x hx p t ht _;have hm:=h.2 x (Ie hx);have hf:free (some t)=true:=ht;refine⟨trivial,.sh (.int x),rfl,?_⟩;simp[bq,jb,hf,gP p x Qt Qt]);rw[lB,Int.one_mul] at L;simp[B9,L]
inductive gY{A B:Type}(P:A->B->Prop):List A->List B->Prop where
 |nil:gY P [] []|cons {a:A} {b:B} {as:List A} {bs:List B} (h:P a b) (t:gY P as bs):gY P (a::as) (b::bs)
theorem gY.len{A B:Type}{P:A->B->Prop}:∀{as:List A}{bs:List B},gY P as bs->as.length=bs.length|_,_,.nil=>rfl|_,_,.cons _ t=>by simp[gY.len t]
theorem gY.right{A B:Type}{P:A->B->Prop}:∀{as:List A}{bs:List B},gY P as bs->∀b∈bs,∃a∈as,P a b|_,_,.cons (a:=a) h t,b,hb=>by rcases List.mem_cons.mp hb with rfl|hb;exact⟨a,Bl,h⟩;obtain⟨a',h1,h2⟩:=gY.right t b hb;exact⟨a',Uq _ h1,h2⟩
theorem m9{A:Type}{it:M (List D)}{elt:M D}{k:Nat}{r0:aS}(mk:A->D)(R:Nat->aS)(P:A->Int->Prop)(as:List A)(p:Nat)(ZW:∀q,(R q).length=k)(qk:it r0=.ok (as.map mk) (R p))(hL:as.length<=1000)
  (he:∀a∈as,∀q,∃q' b,P a b/\∀acc,elt (R q++[.sh (mk a),.ow acc])=.ok (.int b) (R q'++[.sh (mk a),.ow acc])) :
  ∃q' bs,aQ 1 it (aD k) (ret true) elt r0=.ok (Z bs) (R q')/\gY P as bs:=by
 have ch:∀(a:A)(q:Nat),∃z:Nat×Int,a∈as->P a z.2/\∀acc,elt (R q++[.sh (mk a),.ow acc])=.ok (.int z.2) (R z.1++[.sh (mk a),.ow acc]):=fun a q=>by by_cases h:a∈as;obtain⟨q',b,h1,h2⟩:=he a h q;exact⟨(q',b),fun _=>⟨h1,h2⟩⟩;exact⟨(0,0),fun z=>absurd z h⟩
 let F:=fun a q=>Classical.choose (ch a q);have hF:∀a q,a∈as->P a (F a q).2/\∀acc,elt (R q++[.sh (mk a),.ow acc])=.ok (.int (F a q).2) (R (F a q).1++[.sh (mk a),.ow acc]):=fun a q=>Classical.choose_spec (ch a q);have h:=(JQ (elt:=elt) mk R (fun _ _=>True) (fun q a=>(F a q).1) (fun q a=>.int (F a q).2) as p ZW qk Qt trivial (fun i a ha q acc _=>⟨trivial,(hF a q (Ie ha)).2 acc⟩)).1;have em:∀(as:List A)(s:Nat),outs (fun q a=>(F a q).1) (fun q a=>D.int (F a q).2) s as=(outs (fun q a=>(F a q).1) (fun q a=>(F a q).2) s as).map D.int:=by intro as;induction as with|nil=>intro s;rfl|cons a as ih=>intro s;simp[outs,ih]
 have ea:∀(bs:List A)(s:Nat),(∀a∈bs,a∈as)->gY P bs (outs (fun q a=>(F a q).1) (fun q a=>(F a q).2) s bs):=by intro bs;induction bs with|nil=>intro s _;exact .nil|cons a bs ih=>intro s hb;exact .cons (hF a s (hb a Bl)).1 (ih _ fun x hx=>hb x (Uq _ hx))
 rw[em] at h;exact⟨_,_,h,ea as p fun a h=>h⟩
theorem gY.QA{P:Int->Int->Prop}:∀{as bs:T1},gY P as bs->∀k<as.length,P (as.getD k 0) (bs.getD k 0)|_,_,.cons h _,0,_=>h|_,_,.cons _ t,k+1,hk=>by simpa only[List.getD_cons_succ] using gY.QA t k (by simpa using hk)
theorem drawn(ns:T1)(q n:Nat)(h:0<n):∃b:Nat,bC [Row ns q,.int n]=.ok (.int b) [Row ns (q+1)]/\b<n:=by have t:=qS ns q n Qt;have r1:0<=cell ns q % (n:Int):=Int.emod_nonneg _ Qt;have r2:cell ns q % (n:Int)<n:=WG _ Qt;refine⟨(cell ns q % (n:Int)).toNat,?_,Qt⟩;rwa [show ((cell ns q % (n:Int)).toNat:Int)=cell ns q % (n:Int) by lia]
theorem bV(ns:T1)(q:Nat)(n:Int)(h:0<n):∃b:Int,bC [Row ns q,.int n]=.ok (.int b) [Row ns (q+1)]/\0<=b/\b<n:=⟨_,qS ns q n h,Int.emod_nonneg _ Qt,WG _ h⟩
theorem rB(n:Nat)(h:n<=1000):rA [.int (n:Int)]=some ((List.range n).map fun(k:Nat)=>.int k):=mw _ _ Qt Qt Qt
theorem Tf(ns:T1)(q a:Nat)(s:T1)(hs:SI s):∃(o:T1)(q':Nat),hZ [Row ns q,.int a,T s,.int 0]=.ok (.tup [.tup [.str (nm 2),.int a,T o],T (o.map fun x=>s.getD x.toNat 0)]) [Row ns q']/\sortI o=j3 s.length/\o.length=s.length:=by
 have hl:=hs.1;obtain⟨N,hN⟩:∃N:Nat,N=max 1 s.length:=⟨_,rfl⟩;obtain⟨tn,tm,Zs⟩:=drawn ns q N Qt;have mx:maxD [.int 1,.int (s.length:Int)]=some (.int (N:Int)):=by rw[ub];congr 2;lia
 have er:=rB s.length Qt;have hc:aQ 1 (cQ [(af 4)]) (aD 10) (VP.ret true) jH [.io (Row ns (q+1)),.sh (.int a),.sh (T s),.sh (.int 0),.sh (.int s.length),.sh (.int tn),.no,.no,.no,.no]=.ok (Z (iq s.length tn)) [.io (Row ns (q+1)),.sh (.int a),.sh (T s),.sh (.int 0),.sh (.int s.length),.sh (.int tn),.no,.no,.no,.no]:=by refine gJ (fun(k:Nat)=>D.int k) (fun k=>D.int (((k:Int)+tn) % s.length)) (List.range s.length) aG (by simp;lia) (by simp[Z,iq,Function.comp_def]) fun k hk acc=>?_;have zA:=List.mem_range.mp hk;have md:=iJ ((k:Int)+tn) s.length Qt;unfold jH;exact aG
 have zy:∀o:T1,sortI o=j3 s.length->o.length=s.length->aQ 1 (cJ (af 6)) (aD 10) (VP.ret true) jI [.io (Row ns (q+2)),.sh (.int a),.sh (T s),.sh (.int 0),.sh (.int s.length),.sh (.int tn),.sh (Z o),.no,.no,.no]=.ok (Z (o.map fun x=>s.getD x.toNat 0)) [.io (Row ns (q+2)),.sh (.int a),.sh (T s),.sh (.int 0),.sh (.int s.length),.sh (.int tn),.sh (Z o),.no,.no,.no]:=fun o ho LQ=>by refine gJ D.int (fun x=>D.int (s.getD x.toNat 0)) o aG Qt (by simp[Z,Function.comp_def]) fun x hx acc=>?_;obtain⟨j,rfl,hj⟩:=nV ho hx;have ix:au (T s) (.int j)=some (.int (s.getD (j:Int).toNat 0)):=gx s j Qt Qt;unfold jI;exact aG
 obtain⟨b,t2,_,_⟩:=bV ns (q+1) 2 Qt;by_cases c:b=1;obtain⟨o1,o2,_⟩:=Ag s.length tn hl Qt true;simp only[if_true] at o1 o2;have h2:=zy _ o1 o2;have rv:E9 (Z (iq s.length tn))=some (Z (iq s.length tn).reverse):=by simp[Z,E9]
 generalize iq s.length tn=o at *;refine⟨o.reverse,q+2,?_,o1,o2⟩;unfold hZ om;exact rn;obtain⟨o1,o2,_⟩:=Ag s.length tn hl Qt false;simp only[Bool.false_eq_true,if_false] at o1 o2;have h2:=zy _ o1 o2;generalize iq s.length tn=o at *;refine⟨o,q+2,?_,o1,o2⟩;unfold hZ om;exact rn
theorem Tg(ns:T1)(q a:Nat)(s:T1)(hs:SI s):∃(k q':Nat),hZ [Row ns q,.int a,T s,.int 1]=.ok (.tup [.tup [.str (nm 5),.int a,.int k],T (pin s k 1)]) [Row ns q']/\k<=s.length:=by have hl:=hs.1;obtain⟨k,tm,hk⟩:=drawn ns q (s.length+1) Qt;rw[show ((s.length+1:Nat):Int)=(s.length:Int)+1 by lia] at tm;have c1:=rV s k Qt;have c2:=rT s k Qt;have a1:a8 (T (s.take k)) (.tup [.int 1])=_:=eY (s.take k) [1] (by simp[jn];lia);have a2:=eY (s.take k++[1]) (s.drop k) (by simp[jn];lia);rw[show s.take k++[1]++s.drop k=pin s k 1 by simp[pin]] at a2;exact⟨k,q+1,by unfold hZ om;exact rn,Qt⟩
theorem Th(ns:T1)(q a:Nat)(s:T1)(hs:SI s):∃(u:T1)(q':Nat),hZ [Row ns q,.int a,T s,.int 2]=.ok (.tup [.tup [.str (nm 6),.int a,T u],T u]) [Row ns q']/\meet s u=some u/\Pre u:=by
 have hl:=hs.1;have t4:=fun q=>qS ns q 4 Qt;obtain⟨q1,ys,hc,he⟩:=m9 (it:=cJ (af 2)) (elt:=jJ) (k:=10) (r0:=[.io (Row ns q),.sh (.int a),.sh (T s),.sh (.int 2),.sh (.int s.length),.no,.no,.no,.no,.no]) D.int (fun q=>[.io (Row ns q),.sh (.int a),.sh (T s),.sh (.int 2),.sh (.int s.length),.no,.no,.no,.no,.no]) (fun x y=>(0<=y/\y<=24)/\(x=1\/x=y)) s q (fun _=>rfl) aG Qt (fun x hx q'=>by
  obtain⟨y,tt,_,_⟩:=bV ns q' 4 Qt;have hb:=hs.2.1 x hx;have i0:au (.lst [.int x,.int y]) (.int (if x=1 then 1 else 0))=some (.int (if x=1 then y else x)):=by split<;>rfl
  have ii:intD [.bl (decide (x=1))]=some (.int (if x=1 then 1 else 0)):=by rw[zE];simp
  refine⟨q'+1,if x=1 then y else x,by split<;>lia,fun acc=>?_⟩;unfold jJ;exact aG)
 have hy:∀y∈ys,0<=y/\y<=24:=fun y hy=>by obtain⟨_,_,h⟩:=he.right y hy;exact h.1
 have yl:=he.len;have hg:=fun k (hk:k<s.length)=>(he.QA k hk).2;obtain⟨b,tt,_,_⟩:=bV ns q1 2 Qt;by_cases c:b=1;obtain⟨v,t5,v0,v4⟩:=bV ns (q1+1) 4 Qt;have ad:a8 (.tup [.int v]) (T ys)=some (T (v::ys)):=eY [v] ys (by simp[jn];lia);refine⟨v::ys,q1+2,by unfold hZ om;exact rn,oJ _ _ (by simp;lia) fun k hk=>?_,by simp;lia,fun x hx=>?_⟩;rw[show (v::ys).length-s.length+k=k+1 by simp;lia,List.getD_cons_succ];exact hg k hk;rcases List.mem_cons.mp hx with rfl|hx
 lia
 have:=hy x hx;lia;refine⟨ys,q1+1,by unfold hZ om;exact rn,oJ _ _ Qt fun k hk=>?_,Qt,fun x hx=>by have:=hy x hx;lia⟩;rw[show ys.length-s.length+k=k by lia];exact hg k hk
theorem Q25(ns:T1)(q a:Nat)(s:T1)(hs:SI s):∃(u:T1)(q':Nat),hZ [Row ns q,.int a,T s,.int 3]=.ok (.tup [.tup [.str (nm 7),.int a,T u],T u]) [Row ns q']/\bc s=bc u/\Pre u:=by
 have hl:=hs.1;have cl:=CT s hs.pre;have h0:=hs.Ss;have hpr:=hs.2.2;obtain⟨c,tt,_,_⟩:=bV ns q 4 Qt;have rv:rz (T s)=some (T s.reverse):=by simp[T,rz]
 obtain⟨t,ht,Zl,hq⟩:∃t,au (.lst [T s.reverse,.tup [.int (bc s)],.tup [.int 1,.int (bc s)],.tup [.int (bc s),.int 1]]) (.int c)=some (T t)/\bc s=bc t/\Pre t:=by have c4:c=0\/c=1\/c=2\/c=3:=Qt;rcases c4 with c|c|c|c<;>rw[c];exact⟨s.reverse,rfl,(ES s).symm,by simp;lia,fun x hx=>by have:=hs.2.1 x (by simpa using hx);lia⟩;exact⟨[bc s],rfl,by simp[bc],Ro,fun x hx=>by simp at hx;subst hx;lia⟩;exact⟨[1,bc s],rfl,by simp[bc],Ro,fun x hx=>by simp at hx;lia⟩;exact⟨[bc s,1],rfl,by simp[bc],Ro,fun x hx=>by simp at hx;lia⟩
 refine⟨t,q+1,?_,Zl,hq⟩;unfold hZ om;exact rn
theorem Js(n:Nat)(G S:Nat->T1)(ns:T1)(q a:Nat)(hs:SI (S a))(w:Int)(w0:0<=w)(w4:w<4):∃(l:PL)(t:T1)(q':Nat),hZ [Row ns q,.int a,T (S a),.int w]=.ok (.tup [l.d,T t]) [Row ns q']/\Told n G S l t/\l.ns=[a]/\Pre t:=by
 have ww:w=0\/w=1\/w=2\/w=3:=Qt;rcases ww with rfl|rfl|rfl|rfl;obtain⟨o,q',e,h1,h2⟩:=Tf ns q a _ hs;exact⟨.turn a o,_,q',e,⟨h1,h2,rfl⟩,rfl,by have:=hs.1;simp;lia,fun x hx=>by obtain⟨y,_,rfl⟩:=List.mem_map.mp hx;have:=hs.get y.toNat;lia⟩;obtain⟨k,q',e,h⟩:=Tg ns q a _ hs;refine⟨.wide a k,_,q',e,⟨k,rfl,h,rfl⟩,rfl,by have:=hs.1;simp[pin];lia,fun x hx=>?_⟩;simp only[pin] at hx;rcases List.mem_append.mp hx with hx|hx;have:=hs.2.1 x (Nu hx);lia;rcases List.mem_cons.mp hx with rfl|hx
 lia
 have:=hs.2.1 x (G6 hx);lia;obtain⟨u,q',e,h,h2⟩:=Th ns q a _ hs;exact⟨.spread a u,_,q',e,⟨h,rfl⟩,rfl,h2⟩;obtain⟨u,q',e,h,h2⟩:=Q25 ns q a _ hs;exact⟨.shape a u,_,q',e,⟨h,rfl⟩,rfl,h2⟩
theorem iB(s:T1)(k:Nat)(x:Int)(hk:k<s.length)(hl:s.length<=100):kK [T s,.int k,.int x]=.ok (T (rep s k x)) []:=by have a1:a8 (T (s.take k)) (.tup [.int x])=_:=eY (s.take k) [x] (by simp[jn];lia);have a2:=eY (s.take k++[x]) (s.drop (k+1)) (by simp[jn];lia);have c1:=rV s k Qt;have c2:=rT s (k+1) Qt;rw[show (((k+1:Nat)):Int)=(k:Int)+1 by lia] at c2;rw[show s.take k++[x]++s.drop (k+1)=rep s k x by simp[rep]] at a2;unfold kK Ca;exact rn
theorem uA{s:T1}{k:Nat}{x:Int}(h:Pre s)(hx:0<=x/\x<=100)(hk:k<s.length):Pre (rep s k x):=by refine⟨by have:=h.1;simp[rep];lia,fun y hy=>?_⟩;simp only[rep] at hy;rcases List.mem_append.mp hy with hy|hy;exact h.2 y (Nu hy);rcases List.mem_cons.mp hy with rfl|hy;exact hx;exact h.2 y (G6 hy)
theorem KI{s:T1}{k:Nat}(h:Pre s):Pre (wo s k):=by refine⟨by have:=h.1;simp[wo];omega,fun y hy=>?_⟩;simp only[wo] at hy;rcases List.mem_append.mp hy with hy|hy;exact h.2 y (Nu hy);exact h.2 y (G6 hy)
theorem Kr(m:Int)(h0:0<=m)(h4:m<4):∃d,(d∈[19,21,22,23]/\(m<2->d≠22/\d≠23))/\au (.lst [.str (nm 19),.str (nm 21),.str (nm 22),.str (nm 23)]) (.int m)=some (.str (nm d)):=by have:m=0\/m=1\/m=2\/m=3:=Qt;rcases this with rfl|rfl|rfl|rfl;exact⟨19,by decide,rfl⟩;exact⟨21,by decide,rfl⟩;exact⟨22,by decide,rfl⟩;exact⟨23,by decide,rfl⟩
theorem Fh(n:Nat)(G S:Nat->T1)(ns:T1)(q a:Nat)(hs:SI (S a))(AJ:S a≠[])(w:Int)(w0:4<=w)(w9:w<9):∃(l:PL)(t:T1)(q':Nat),vn [Row ns q,.int a,T (S a),.int w]=.ok (.tup [l.d,T t]) [Row ns q']/\Told n G S l t/\l.ns=[a]/\Pre t:=by
 unfold vn Ce;obtain⟨s,hS⟩:∃s,s=S a:=⟨_,rfl⟩;rw[<-hS] at hs AJ ⊢;have hl:=hs.1;have hp:=hs.pre;have hn:=List.length_pos_iff.mpr AJ;obtain⟨j,ts,hj⟩:=drawn ns q s.length hn;obtain⟨z,hz⟩:∃z,s.getD j 0=z:=⟨_,rfl⟩;have ix:au (T s) (.int j)=some (.int z):=by have:=gx s j Qt Qt;rw[AR,hz] at this;exact this
 have sb:=hs.get j;rw[hz] at sb;have c1:=rV s j Qt;have c2:=rT s (j+1) Qt;rw[show (((j+1:Nat)):Int)=(j:Int)+1 by lia] at c2;have a1:a8 (T (s.take j)) (T (s.drop (j+1)))=some (T (wo s j)):=eY (s.take j) (s.drop (j+1)) (by simp[jn];lia);by_cases c4:w=4;obtain⟨x,t9,_,_⟩:=bV ns (q+1) 9 Qt;obtain⟨y,tR,y0,y1⟩:=bV ns (q+2) 1000003 Qt;exact⟨.shift a j (x-4) y,s,q+3,rn,⟨j,rfl,by rw[<-hS];exact hj,⟨y0,y1⟩,hS⟩,rfl,hp⟩;by_cases c5:w=5;obtain⟨x,t4,x0,x4⟩:=bV ns (q+1) 4 Qt;have ii:intD [.bl (decide (0<z))]=some (.int (if 0<z then 1 else 0)):=by rw[zE];simp
 obtain⟨m,hm⟩:∃m:Int,m=if 0<z then 4 else 2:=⟨_,rfl⟩
 have i2:au (.lst [.int 2,.int 4]) (.int (if 0<z then 1 else 0))=some (.int m):=by rw[hm];split<;>rfl
 have m4:(m=4\/m=2)/\(z=0->m=2):=by rw[hm];split<;>lia
 have md:=iJ x m Qt;obtain⟨d,hd,id⟩:=Kr (x % m) (Int.emod_nonneg _ Qt) (by have:=WG x (show 0<m by lia);lia);have c5':¬w=4:=c4;refine⟨.fold d a j,wo s j,q+2,rn,⟨j,rfl,by rw[<-hS];exact hj,hd.1,fun h=>hd.2 ?_,by rw[hS]⟩,rfl,KI hp⟩;rw[<-hS,hz] at h;have:=WG x (show 0<m by lia)
 lia
 by_cases c6:w=6;obtain⟨x,t4,x0,x4⟩:=bV ns (q+1) 4 Qt;obtain⟨d,hd,id⟩:=Kr x x0 x4;exact⟨.run d a j,s,q+2,rn,⟨j,rfl,by rw[<-hS];exact hj,hd.1,hS⟩,rfl,hp⟩;by_cases z0:z=0;exact⟨.one 18 a,s,q+1,rn,⟨Qt,hS⟩,rfl,hp⟩;obtain⟨b,tz,b0,b1⟩:=bV ns (q+1) z Qt;by_cases c7:w=7;exact⟨.drop a j b,wo s j,q+2,rn,⟨j,rfl,by rw[<-hS];exact hj,⟨b0,by rw[<-hS,hz];exact b1⟩,by rw[hS]⟩,rfl,KI hp⟩;obtain⟨x,t3,x0,x3⟩:=bV ns (q+2) 3 Qt;obtain⟨v,t2,v0,v2⟩:=bV ns (q+3) 2 Qt;have f1:=sk (z-1-b) (1+x) Qt Qt;have f2:=sk b (1+x) Qt Qt;have k1:0<=(z-1-b) / (1+x):=Int.ediv_nonneg Qt Qt;have k2:(z-1-b) / (1+x)*(1+x)<=z-1-b:=Int.ediv_mul_le _ Qt;have k3:0<=b / (1+x):=Int.ediv_nonneg Qt Qt;have k4:b / (1+x)*(1+x)<=b:=Int.ediv_mul_le _ Qt;have k5:(z-1-b) / (1+x)<=z-1-b:=Int.ediv_le_self _ Qt;have k6:b / (1+x)<=b:=Int.ediv_le_self _ Qt;have key:∀(u m:Int),0<=m->0<=u->m<=u+1->0<m->(1+x)*(m-1)<=u*(1+x):=fun u m _ _ h3 h4=>by rw[Int.mul_comm];exact Int.mul_le_mul_of_nonneg_right Qt Qt
 have Rm:∀m:Int,0<m->0<=(1+x)*(m-1):=fun m h=>K7 Qt Qt;by_cases c:v=1;generalize b / (1+x)=u at *;obtain⟨m,tm,m0,m1⟩:=bV ns (q+4) (u+2) Qt;have ch:=iB s j (u+1-m) hj Qt;refine⟨.cut a j b (0-(1+x)) (u+1-m),rep s j (u+1-m),q+5,rn,⟨j,rfl,by rw[<-hS];exact hj,Qt,Qt,fun h=>?_,by rw[hS]⟩,rfl,uA hp Qt hj⟩;rw[<-hS,hz];have e:(0-(1+x))*(u+1-m-1)=-((1+x)*(u+1-m-1)):=by rw[Int.zero_sub,Int.neg_mul]
 have:=key u (u+1-m) Qt k3 Qt h;have:=Rm (u+1-m) h;rw[e];lia;generalize (z-1-b) / (1+x)=u at *;obtain⟨m,tm,m0,m1⟩:=bV ns (q+4) (u+2) Qt;have ch:=iB s j (u+1-m) hj Qt;refine⟨.cut a j b (1+x) (u+1-m),rep s j (u+1-m),q+5,rn,⟨j,rfl,by rw[<-hS];exact hj,Qt,Qt,fun h=>?_,by rw[hS]⟩,rfl,uA hp Qt hj⟩;rw[<-hS,hz];have:=key u (u+1-m) Qt k1 Qt h;have:=Rm (u+1-m) h
 lia
theorem yK(s:T1)(h:∀x∈s,0<=x/\x<=24)(k:Nat):0<=back s k/\back s k<=24:=by unfold back;split;rename_i hk;have h2:s.length-1-k<s.length:=Pe;have:=h s[s.length-1-k] (G4 h2);simpa[h2] using this;omega
theorem zP{s t m:T1}(h1:∀x∈s,0<=x/\x<=24)(h2:∀x∈t,0<=x/\x<=24)(h:meet s t=some m):∀x∈m,0<=x/\x<=24:=fun x hx=>by unfold meet at h;split at h;cases h;rw[List.mem_reverse] at hx;obtain⟨p,hp,rfl⟩:=List.mem_map.mp hx;unfold pairs at hp;obtain⟨k,_,rfl⟩:=List.mem_map.mp hp;have:=yK s h1 k;have:=yK t h2 k;unfold pk;dsimp only;split<;>lia;cases h
def BM(ss:Rp):Prop:=∀s∈ss,SI s
theorem BM.at{ss:Rp}(h:BM ss){i:Nat}(hi:i<ss.length):SI (sd ss i):=by
 have:sd ss i=ss[i]:=by simp[sd,hi]
 rw[this];exact h _ (G4 hi)
theorem Sq(m:Int)(h0:0<=m)(h3:m<3):∃d,(16<=d/\d<=18)/\au (.lst [.str (nm 16),.str (nm 17),.str (nm 18)]) (.int m)=some (.str (nm d)):=by have:m=0\/m=1\/m=2:=Qt;rcases this with rfl|rfl|rfl;exact⟨16,Qt,rfl⟩;exact⟨17,Qt,rfl⟩;exact⟨18,Qt,rfl⟩
theorem Q1D(m:Int)(h0:0<=m)(h7:m<7):∃d,(19<=d/\d<=25)/\au (.lst [.str (nm 19),.str (nm 20),.str (nm 21),.str (nm 22),.str (nm 23),.str (nm 24),.str (nm 25)]) (.int m)=some (.str (nm d)):=by have:m=0\/m=1\/m=2\/m=3\/m=4\/m=5\/m=6:=Qt;rcases this with rfl|rfl|rfl|rfl|rfl|rfl|rfl;exact⟨19,Qt,rfl⟩;exact⟨20,Qt,rfl⟩;exact⟨21,Qt,rfl⟩;exact⟨22,Qt,rfl⟩;exact⟨23,Qt,rfl⟩;exact⟨24,Qt,rfl⟩;exact⟨25,Qt,rfl⟩
theorem uc{s t m:T1}(hs:SI s)(ht:SI t)(e:meet s t=some m):iC [T s,T t]=.ok (T m) []/\(m.length<=4/\∀x∈m,0<=x/\x<=24):=by have:=qq s t hs.1 ht.1;rw[e] at this;exact⟨this,by have:=gO e;have:=hs.1;have:=ht.1;lia,zP hs.2.1 ht.2.1 e⟩
theorem zQ{s t:T1}(hs:SI s)(ht:SI t)(e:meet s t=none):iC [T s,T t]=.ok .bE []:=by have:=qq s t hs.1 ht.1;rwa [e] at this
theorem pre_of{m:T1}(h:m.length<=4/\∀x∈m,0<=x/\x<=24):Pre m:=⟨Qt,fun x hx=>by have:=h.2 x hx;lia⟩
theorem Ew(s:T1):isND (T s) .bE=some (.bl false):=rfl
theorem RZ:isND .bE .bE=some (.bl true):=rfl
theorem tS(s:T1)(j:Nat)(h:j<s.length):au (T s) (.int (j:Int))=some (.int (s.getD j 0)):=by have:=gx s j Qt Qt;rwa [AR] at this
theorem N7{s t:T1}{j:Nat}(h:s.length=t.length)(e:rep s j 0=rep t j 0):wo s j=wo t j:=by unfold rep at e;have h1:=List.append_inj e (by simp[h]);unfold wo;rw[h1.1,(List.cons.inj h1.2).2]
section
variable(N:Nat)(G:Nat->T1)(ns:T1)(q a ix_:Nat)(ss:Rp)(lW:BM ss)(ha:a<ss.length)(hi:ix_<ss.length)(h1:(sd ss ix_).length=1)
include lW ha hi h1
theorem Q1Y:∃(l:PL)(t:T1)(q':Nat),eW [Row ns q,.int a,ck ss,.int 9,.int ix_]=.ok (.tup [l.d,T t]) [Row ns q',ck ss]/\Told N G (sd ss) l t/\(∀r∈l.ns,r<ss.length)/\Pre t:=by unfold eW lK;have ia:=cE ss a ha;have ln:=fJ ss;obtain⟨b,tb,hb⟩:=drawn ns q ss.length Qt;obtain⟨x,t3,x0,x3⟩:=bV ns (q+1) 3 Qt;obtain⟨d,hd,id⟩:=Sq x x0 x3;exact⟨.one d a,sd ss a,q+2,rn,⟨hd,rfl⟩,fun r hr=>by simp[PL.ns] at hr;lia,(lW.at ha).pre⟩
theorem MA:∃(l:PL)(t:T1)(q':Nat),eW [Row ns q,.int a,ck ss,.int 10,.int ix_]=.ok (.tup [l.d,T t]) [Row ns q',ck ss]/\Told N G (sd ss) l t/\(∀r∈l.ns,r<ss.length)/\Pre t:=by unfold eW lK;have ia:=cE ss a ha;have ln:=fJ ss;obtain⟨b,tb,hb⟩:=drawn ns q ss.length Qt;have ib:=cE ss b hb;obtain⟨x,t7,x0,x7⟩:=bV ns (q+1) 7 Qt;obtain⟨d,hd,id⟩:=Q1D x x0 x7;have n0:=RZ;cases e:meet (sd ss a) (sd ss b) with|none=>have m1:=zQ (lW.at ha) (lW.at hb) e;obtain⟨m2,mp⟩:=uc (lW.at ha) (lW.at ha) (meet_self _);exact⟨.both d a a,sd ss a,q+2,rn,⟨hd,meet_self _⟩,fun r hr=>by simp[PL.ns] at hr;lia,pre_of mp⟩|some m=>obtain⟨m1,mp⟩:=uc (lW.at ha) (lW.at hb) e;have n1:=Ew m;exact⟨.both d a b,m,q+2,rn,⟨hd,e⟩,fun r hr=>by simp[PL.ns] at hr;lia,pre_of mp⟩
theorem MB:∃(l:PL)(t:T1)(q':Nat),eW [Row ns q,.int a,ck ss,.int 11,.int ix_]=.ok (.tup [l.d,T t]) [Row ns q',ck ss]/\Told N G (sd ss) l t/\(∀r∈l.ns,r<ss.length)/\Pre t:=by unfold eW lK;have ia:=cE ss a ha;have ln:=fJ ss;obtain⟨b,tb,hb⟩:=drawn ns q ss.length Qt;have ib:=cE ss b hb;obtain⟨c,tc,hc⟩:=drawn ns (q+1) ss.length Qt;have ic:=cE ss c hc;have n0:=RZ;cases e:meet (sd ss a) (sd ss b) with|none=>have m1:=zQ (lW.at ha) (lW.at hb) e;exact⟨.cU a a a,sd ss a,q+2,rn,⟨_,meet_self _,meet_self _⟩,fun r hr=>by simp[PL.ns] at hr;lia,(lW.at ha).pre⟩|some m=>obtain⟨m1,mp⟩:=uc (lW.at ha) (lW.at hb) e;have n1:=Ew m;have m2:=qq m (sd ss c) mp.1 (lW.at hc).1;cases e2:meet m (sd ss c) with|none=>rw[e2] at m2;have m3:iC [T m,T (sd ss c)]=.ok .bE []:=m2;exact⟨.cU a a a,sd ss a,q+2,rn,⟨_,meet_self _,meet_self _⟩,fun r hr=>by simp[PL.ns] at hr;lia,(lW.at ha).pre⟩|some n=>rw[e2] at m2;have m3:iC [T m,T (sd ss c)]=.ok (T n) []:=m2;have n2:=Ew n;have nl:=gO e2;have O4:=(lW.at hc).1;exact⟨.cU b a c,n,q+2,rn,⟨_,(meet_comm _ _).trans e,e2⟩,fun r hr=>by simp[PL.ns] at hr;lia,pre_of ⟨Qt,zP mp.2 (lW.at hc).2.1 e2⟩⟩
theorem MC:∃(l:PL)(t:T1)(q':Nat),eW [Row ns q,.int a,ck ss,.int 12,.int ix_]=.ok (.tup [l.d,T t]) [Row ns q',ck ss]/\Told N G (sd ss) l t/\(∀r∈l.ns,r<ss.length)/\Pre t:=by
 unfold eW lK;have ia:=cE ss a ha;have ln:=fJ ss;obtain⟨b,tb,hb⟩:=drawn ns q ss.length Qt;obtain⟨n,t3,hn⟩:=drawn ns (q+1) 3 Qt;have t3:bC [Row ns (q+1),.int 3]=.ok (.int n) [Row ns (q+1+1)]:=t3;have er:=rB n Qt;obtain⟨q1,ys,hc,he⟩:=m9 (it:=cQ [(az bC [.io 0,.val (mC (.int 3))])]) (elt:=jG) (k:=11) (r0:=[.io (Row ns (q+1)),.sh (.int a),.io (ck ss),.sh (.int 12),.sh (.int ix_),.sh (T (sd ss a)),.sh (.int b),.no,.no,.no,.no]) (fun(k:Nat)=>D.int k) (fun q=>[.io (Row ns q),.sh (.int a),.io (ck ss),.sh (.int 12),.sh (.int ix_),.sh (T (sd ss a)),.sh (.int b),.no,.no,.no,.no]) (fun _ y=>0<=y/\y<=24) (List.range n) (q+1+1) (fun _=>rfl) aG (by simp;lia) (fun k _ q'=>by obtain⟨y,tt,_,_⟩:=bV ns q' 3 Qt;exact⟨q'+1,1+y,Qt,fun acc=>by unfold jG;exact aG⟩);have hy:∀y∈ys,0<=y/\y<=24:=fun y hy=>by obtain⟨_,_,h⟩:=he.right y hy;exact h
 have yl:=he.len;simp only[List.length_range] at yl;obtain⟨y,tR,y0,y1⟩:=bV ns q1 1000003 Qt;exact⟨.gq ys y,ys,q1+1,rn,⟨rfl,y0,y1⟩,fun r hr=>by simp[PL.ns] at hr,pre_of ⟨Qt,hy⟩⟩
theorem RQ(w:Int)(c9:¬w=9)(UU:¬w=10)(UW:¬w=11)(UX:¬w=12)(c0:sd ss a=[]):∃(l:PL)(t:T1)(q':Nat),eW [Row ns q,.int a,ck ss,.int w,.int ix_]=.ok (.tup [l.d,T t]) [Row ns q',ck ss]/\Told N G (sd ss) l t/\(∀r∈l.ns,r<ss.length)/\Pre t:=by unfold eW lK;have ia:=cE ss a ha;rw[c0] at ia;have ln:=fJ ss;obtain⟨b,tb,hb⟩:=drawn ns q ss.length Qt;have e0:cn (T []) (.tup [])=some (.bl true):=rfl;exact⟨.one 16 a,[],q+1,rn,⟨Qt,c0.symm⟩,fun r hr=>by simp[PL.ns] at hr;lia,Ro,Ro⟩
theorem MD(c0:sd ss a≠[]):∃(l:PL)(t:T1)(q':Nat),eW [Row ns q,.int a,ck ss,.int 13,.int ix_]=.ok (.tup [l.d,T t]) [Row ns q',ck ss]/\Told N G (sd ss) l t/\(∀r∈l.ns,r<ss.length)/\Pre t:=by
 unfold eW lK;have ia:=cE ss a ha;have ln:=fJ ss;obtain⟨b,tb,hb⟩:=drawn ns q ss.length Qt;have ib:=cE ss b hb;have ii:=cE ss ix_ hi;have hs:=lW.at ha;have e0:cn (T (sd ss a)) (.tup [])=some (.bl false):=by rw[OE,C6];simp[c0]
 obtain⟨j,tj,hj⟩:=drawn ns (q+1) (sd ss a).length (List.length_pos_iff.mpr c0);obtain⟨x,t5,_,_⟩:=bV ns (q+2) 5 Qt;have fin:∀e:Nat,e<ss.length->(sd ss e).length=1->∃y,sd ss e=[y]/\au (T (sd ss e)) (.int 0)=some (.int y)/\kK [T (sd ss a),.int j,.int y]=.ok (T (rep (sd ss a) j y)) []/\Pre (rep (sd ss a) j y):=fun e he GO=>by have g:=(lW.at he).get 0;have:=hs.1;obtain⟨y,hy⟩:∃y,sd ss e=[y]:=List.length_eq_one_iff.mp GO;rw[hy] at g ⊢;exact⟨y,rfl,rfl,iB _ _ _ hj Qt,uA hs.pre (by simp at g;lia) hj⟩
 obtain⟨y,hy,f1,f2,f3⟩:=fin ix_ hi h1;by_cases k5:x<4;exact⟨.pick a j ix_,_,q+3,rn,⟨j,y,rfl,hj,hy,rfl⟩,fun r hr=>by simp[PL.ns] at hr;lia,f3⟩;have ne:gD (.int ((sd ss b).length:Int)) (.int 1)=some (.bl (!decide ((sd ss b).length=1))):=by rw[du,decide_eq_decide.mpr (show ((sd ss b).length:Int)=1<->(sd ss b).length=1 by lia)]
 by_cases kb:(sd ss b).length=1;obtain⟨y,hy,g1,g2,g3⟩:=fin b hb kb;rw[WN kb] at ne;have ne:gD (.int ((sd ss b).length:Int)) (.int 1)=some (.bl false):=ne;exact⟨.pick a j b,_,q+3,rn,⟨j,y,rfl,hj,hy,rfl⟩,fun r hr=>by simp[PL.ns] at hr;lia,g3⟩;rw[Nn kb] at ne;have ne:gD (.int ((sd ss b).length:Int)) (.int 1)=some (.bl true):=ne;exact⟨.pick a j ix_,_,q+3,rn,⟨j,y,rfl,hj,hy,rfl⟩,fun r hr=>by simp[PL.ns] at hr;lia,f3⟩
theorem ME(c0:sd ss a≠[]):∃(l:PL)(t:T1)(q':Nat),eW [Row ns q,.int a,ck ss,.int 14,.int ix_]=.ok (.tup [l.d,T t]) [Row ns q',ck ss]/\Told N G (sd ss) l t/\(∀r∈l.ns,r<ss.length)/\Pre t:=by
 unfold eW lK;have ia:=cE ss a ha;have ln:=fJ ss;obtain⟨b,tb,hb⟩:=drawn ns q ss.length Qt;have ib:=cE ss b hb;have hs:=lW.at ha;have hl:=hs.1;have e0:cn (T (sd ss a)) (.tup [])=some (.bl false):=by rw[OE,C6];simp[c0]
 obtain⟨j,tj,hj⟩:=drawn ns (q+1) (sd ss a).length (List.length_pos_iff.mpr c0);have i1:=tS (sd ss a) j hj;have fin:∀e:Nat,e<ss.length->kK [T (sd ss a),.int j,.int ((sd ss a).getD j 0+(sd ss e).getD j 0)]=.ok (T (rep (sd ss a) j ((sd ss a).getD j 0+(sd ss e).getD j 0))) []/\Pre (rep (sd ss a) j ((sd ss a).getD j 0+(sd ss e).getD j 0)):=fun e he=>by have g:=(lW.at he).get j;have g2:=hs.get j;exact⟨iB _ _ _ hj Qt,uA hs.pre Qt hj⟩
 have ch0:=iB (sd ss a) j 0 hj Qt;obtain⟨f2,f3⟩:=fin a ha;have ne:gD (.int ((sd ss b).length:Int)) (.int ((sd ss a).length:Int))=some (.bl (!decide ((sd ss b).length=(sd ss a).length))):=by rw[du,decide_eq_decide.mpr (show ((sd ss b).length:Int)=(sd ss a).length<->(sd ss b).length=(sd ss a).length by lia)]
 by_cases kl:(sd ss b).length=(sd ss a).length;have ch1:=iB (sd ss b) j 0 Qt (by have:=(lW.at hb).1;lia);rw[WN kl] at ne;have ne:gD (.int ((sd ss b).length:Int)) (.int ((sd ss a).length:Int))=some (.bl false):=ne;have nr:gD (T (rep (sd ss a) j 0)) (T (rep (sd ss b) j 0))=some (.bl (!decide (rep (sd ss a) j 0=rep (sd ss b) j 0))):=Er _ _;by_cases kr:rep (sd ss a) j 0=rep (sd ss b) j 0;have i2:=tS (sd ss b) j Qt;obtain⟨g2,g3⟩:=fin b hb;rw[WN kr] at nr;have nr:gD (T (rep (sd ss a) j 0)) (T (rep (sd ss b) j 0))=some (.bl false):=nr;exact⟨.join a b j,_,q+2,rn,⟨j,rfl,hj,kl.symm,N7 kl.symm kr,rfl⟩,fun r hr=>by simp[PL.ns] at hr;lia,g3⟩;rw[Nn kr] at nr;have nr:gD (T (rep (sd ss a) j 0)) (T (rep (sd ss b) j 0))=some (.bl true):=nr;exact⟨.join a a j,_,q+2,rn,⟨j,rfl,hj,rfl,rfl,rfl⟩,fun r hr=>by simp[PL.ns] at hr;lia,f3⟩;rw[Nn kl] at ne;have ne:gD (.int ((sd ss b).length:Int)) (.int ((sd ss a).length:Int))=some (.bl true):=ne;exact⟨.join a a j,_,q+2,rn,⟨j,rfl,hj,rfl,rfl,rfl⟩,fun r hr=>by simp[PL.ns] at hr;lia,f3⟩
theorem Hx(w:Int)(w4:4<=w)(w15:w<15)(hw:w<9->sd ss a=[]) : ∃(l:PL)(t:T1)(q':Nat),eW [Row ns q,.int a,ck ss,.int w,.int ix_]=.ok (.tup [l.d,T t]) [Row ns q',ck ss]/\Told N G (sd ss) l t/\(∀r∈l.ns,r<ss.length)/\Pre t:=by
 by_cases c9:w=9;subst c9;exact Q1Y N G ns q a ix_ ss lW ha hi h1;by_cases UU:w=10;subst UU;exact MA N G ns q a ix_ ss lW ha hi h1;by_cases UW:w=11;subst UW;exact MB N G ns q a ix_ ss lW ha hi h1;by_cases UX:w=12;subst UX;exact MC N G ns q a ix_ ss lW ha hi h1;by_cases c0:sd ss a=[];exact RQ N G ns q a ix_ ss lW ha hi h1 w c9 UU UW UX c0;have:w=13\/w=14:=by
  have:¬w<9:=fun z=>c0 (hw z)
  lia
 rcases this with rfl|rfl;exact MD N G ns q a ix_ ss lW ha hi h1 c0;exact ME N G ns q a ix_ ss lW ha hi h1 c0
end
def MI:T1->Int|[]=>0|i::is=>is.foldl (fun a b=>if a<b then b else a) i
theorem tP:∀(is:T1)(a:Int),a<=is.foldl (fun a b=>if a<b then b else a) a/\∀x∈is,x<=is.foldl (fun a b=>if a<b then b else a) a|[],a=>⟨Ro,fun x hx=>by simp at hx⟩|i::is,a=>by obtain⟨h1,h2⟩:=tP is (if a<i then i else a);simp only[List.foldl_cons];generalize is.foldl (fun a b=>if a<b then b else a) (if a<i then i else a)=z at *;refine⟨by split at h1<;>lia,fun x hx=>?_⟩;rcases List.mem_cons.mp hx with rfl|hx;split at h1<;>lia;exact h2 x hx
theorem MJ{t:T1}(h:MI t<=24):∀x∈t,x<=24:=fun x hx=>by
 cases t with
 |nil=>simp at hx|cons i is=>
  obtain⟨h1,h2⟩:=tP is i;have e:MI (i::is)=is.foldl (fun a b=>if a<b then b else a) i:=rfl;rcases List.mem_cons.mp hx with rfl|hx
  lia
  have:=h2 x hx;lia
theorem Q1S(t:T1):nE (T t) (.int 0)=some (.int (MI t)):=by rw[Eo];cases t<;>rfl
def Fp(ns:T1)(gs:Rp)(c tn ix_:Int)(ls:SK)(ss:Rp)(q:Nat)(s2 s3 s9 FX Bp:Sl):aS:=[.io (Row ns q),.ow (ck gs),s2,s3,.sh (.int c),.sh (.int tn),.ow (Pg ls),.ow (ck ss),.sh (.int ix_),s9,FX,Bp]
structure Gd(gs:Rp)(ls:SK)(ss:Rp)(ix_:Nat):Prop where
 len:ss.length=ls.length
 wf:Wf ls
 told:∀i l,ls[i]?=some l->Told gs.length (sd gs) (sd ss) l (sd ss i)
 si:BM ss
 ix:ix_<ss.length
 one:(sd ss ix_).length=1
 ne:ls≠[]
theorem pK{ss:Rp}{t:T1}{i:Nat}(h:i<ss.length):sd (ss++[t]) i=sd ss i:=by unfold sd;rw[Jl,Lh h,Jl]
theorem Gd.more{gs:Rp}{ls:SK}{ss:Rp}{ix_:Nat}(g:Gd gs ls ss ix_){l:PL}{t:T1}(hl:∀r∈l.ns,r<ss.length)(hf:Told gs.length (sd gs) (sd ss) l t)(ht:SI t):Gd gs (ls++[l]) (ss++[t]) ix_:=by
 have hx:∀i x,(ls++[l])[i]?=some x->ls[i]?=some x\/(i=ss.length/\x=l):=fun i x hx=>by
  by_cases h:i<ls.length;rw[Lh h] at hx;exact .inl hx;rw[HU Qt] at hx;have:=(List.getElem?_eq_some_iff.mp hx).1;have e:i-ls.length=0:=by simp at this;lia
  rw[e] at hx;exact .inr ⟨by have:=g.len;lia,by simpa using hx.symm⟩
 refine⟨by simp[g.len],fun i x h r hr=>?_,fun i x h=>?_,fun x h=>?_,by simp;have:=g.ix;lia,by rw[pK g.ix];exact g.one,Ro⟩;rcases hx i x h with h|⟨rfl,rfl⟩;exact g.wf i x h r hr;exact hl r hr;rcases hx i x h with h|⟨rfl,rfl⟩;have hi:=(List.getElem?_eq_some_iff.mp h).1;have ZW:=g.len;rw[pK Qt];exact(g.told i x h).mono fun r hr=>pK (by have:=g.wf i x h r hr;lia);rw[show sd (ss++[t]) ss.length=t by simp[sd]];exact hf.mono fun r hr=>pK (hl r hr);rcases List.mem_append.mp h with h|h;exact g.si x h;have:x=t:=by simpa using h
 subst this;exact ht
theorem Dl(ns:T1)(gs:Rp)(J4:BM gs)(tn:Int)(ix_:Nat)(ls:SK)(ss:Rp)(g:Gd gs ls ss ix_)(q:Nat)(s2 s3 Bp:Sl)(Xj:free (some Bp)=true)(a:Nat)(ha:a<ss.length)(w:Int)(w0:0<=w)(Yk:w<16)(hg:0<gs.length)(G:M Fl)
  (hG:G=(bP (tB (m2 ltI (af 10) (mC (.int 4)))) (ao (aP 11 (az hZ [.io 0,.val (af 9),.val (cf 7 (af 9)),.val (af 10)]))
  aC) (ao (bP (lD (tB (m2 ltI (af 10) (mC (.int 9)))) (tB (m2 gD (cf 7 (af 9)) (bh [])))) (ao (aP 11 (az vn [.io 0,.val (af 9),.val (cf 7 (af 9)),.val (af 10)]))
  aC) (ao (bP (tB (m2 cn (af 10) (mC (.int 15)))) (ao (aP 11 (bh [(bh [(mC (.str (nm 0))),(m2 pe (af 9) (af 4))]),(cf 1 (m2 pe (af 9) (af 4)))]))
  aC) (ao (aP 11 (az eW [.io 0,.val (af 9),.io 7,.val (af 10),.val (af 8)]))
  aC))
  aC))
  aC))):∃(l:PL)(t:T1)(q':Nat),G (Fp ns gs gs.length tn ix_ ls ss q s2 s3 (.sh (.int a)) (.sh (.int w)) Bp)=.ok .nx (Fp ns gs gs.length tn ix_ ls ss q' s2 s3 (.sh (.int a)) (.sh (.int w)) (.sh (.tup [l.d,T t])))/\Told gs.length (sd gs) (sd ss) l t/\(∀r∈l.ns,r<ss.length)/\Pre t:=by
 subst hG;unfold Fp;have ia:=cE ss a ha;have hs:=g.si.at ha;by_cases c1:w<4;obtain⟨l,t,q',e,h1,h2,h3⟩:=Js gs.length (sd gs) (sd ss) ns q a hs w w0 c1;refine⟨l,t,q',?_,h1,fun r hr=>by rw[h2] at hr;simp at hr;lia,h3⟩;generalize l.d=ld at *;exact aG;by_cases c2:w<9/\sd ss a≠[];obtain⟨l,t,q',e,h1,h2,h3⟩:=Fh gs.length (sd gs) (sd ss) ns q a hs c2.2 w Qt c2.1;refine⟨l,t,q',?_,h1,fun r hr=>by rw[h2] at hr;simp at hr;lia,h3⟩;generalize l.d=ld at *;obtain⟨c21,Yw⟩:=c2;have ne:gD (T (sd ss a)) (.tup [])=some (.bl true):=by rw[OE,Er,Nn Yw];rfl
 exact aG;by_cases c3:w=15;have md:=iJ a gs.length Qt;obtain⟨b,hb⟩:∃b,b=a % gs.length:=⟨_,rfl⟩;have Vj:b<gs.length:=by rw[hb];exact Nat.mod_lt _ hg
 have eb:((a:Int) % (gs.length:Int))=(b:Int):=by rw[hb];simp
 rw[eb] at md;have ib:=cE gs b Vj;refine⟨.given b,sd gs b,q,?_,⟨b,rfl,Vj,rfl⟩,fun r hr=>by simp[PL.ns] at hr,(J4.at Vj).pre⟩;have c4:¬w<9:=Qt;simp only[PL.d,PL.k,PL.ps];exact aG;obtain⟨l,t,q',e,h1,h2,h3⟩:=Hx gs.length (sd gs) ns q a ix_ ss g.si ha g.ix g.one w Qt Qt (fun z=>by cases e:sd ss a with|nil=>rfl|cons x r=>exact absurd ⟨z,by rw[e];simp⟩ c2);refine⟨l,t,q',?_,h1,h2,h3⟩;generalize l.d=ld at *;by_cases c4:w<9;have c5:sd ss a=[]:=by cases e:sd ss a with|nil=>rfl|cons x r=>exact absurd ⟨c4,by rw[e];simp⟩ c2
 have ne:gD (T (sd ss a)) (.tup [])=some (.bl false):=by rw[c5];rfl
 exact aG;exact aG
theorem LA(x y:D):au (.tup [x,y]) (.int 0)=some x:=rfl
theorem IU(x y:D):au (.tup [x,y]) (.int 1)=some y:=rfl
theorem Td(ns:T1)(gs:Rp)(J4:BM gs)(hg:0<gs.length)(tn:Int)(ix_:Nat)(ls:SK)(ss:Rp)(g:Gd gs ls ss ix_)(hl:ls.length<=40)(q:Nat)(s2 s3 s9 FX Bp:Sl)(h9:free (some s9)=true)(h10:free (some FX)=true)(Xj:free (some Bp)=true) : ∃(l:PL)(t:T1)(q':Nat)(Up IF IG:Sl),eO (Fp ns gs gs.length tn ix_ ls ss q s2 s3 s9 FX Bp)=.ok .nx (Fp ns gs gs.length tn ix_ (ls++[l]) (ss++[t]) q' s2 s3 Up IF IG)/\Gd gs (ls++[l]) (ss++[t]) ix_/\free (some Up)=true/\free (some IF)=true/\free (some IG)=true:=by
 have ln:=km ls;have hn:=List.length_pos_iff.mpr g.ne;have ZW:=g.len;obtain⟨b,tl,hb⟩:=drawn ns q ls.length hn;obtain⟨a,hae,ha⟩:∃a:Nat,gU (.int ((ls.length:Int)-1)) (.int b)=some (.int (a:Int))/\a<ss.length:=⟨ls.length-1-b,by rw[Af];congr 2;lia,Qt⟩;obtain⟨w,t16,w0,Yk⟩:=bV ns (q+1) 16 Qt;obtain⟨l,t,q',e,h1,h2,h3⟩:=Dl ns gs J4 tn ix_ ls ss g (q+2) s2 s3 Bp Xj a ha w w0 Yk hg _ rfl;have cl:=CT t h3;have mx:=Q1S t;have ia:=cE ss a ha;have W3:∀l:PL,gj l.d (Pg ls)=some (Pg (ls++[l])):=fun l=>by unfold Pg;rw[iP _ _ (by simp;lia),BN];rfl
 have W4:∀t,gj (T t) (ck ss)=some (ck (ss++[t])):=fun t=>by unfold ck;rw[iP _ _ (by simp;lia),BN];rfl
 unfold Fp at e ⊢;unfold eO;by_cases c:bc t<=27/\t.length<=4/\MI t<=24;refine⟨l,t,q',.sh (.int a),.sh (.int w),.sh (.tup [l.d,T t]),?_,g.more h2 h1 ⟨c.2.1,fun x hx=>⟨(h3.2 x hx).1,MJ c.2.2 x hx⟩,c.1⟩,rfl,rfl,rfl⟩;have k1:¬27<bc t:=Qt;have k2:¬(4:Int)<t.length:=Qt;have k3:¬24<MI t:=Qt;have a1:=W3 l;have a2:=W4 t;generalize l.d=ld at *;have p1:=LA ld (T t);have p2:=IU ld (T t);exact aG;refine⟨.one 16 a,sd ss a,q',.sh (.int a),.sh (.int w),.sh (.tup [.tup [.str (nm 9),.str (nm 16),.int a],T (sd ss a)]),?_,g.more (fun r hr=>by simp[PL.ns] at hr;lia) ⟨Qt,rfl⟩ (g.si.at ha),rfl,rfl,rfl⟩;have a1:=W3 (.one 16 a);have a2:=W4 (sd ss a);have p2:=IU l.d (T t);have p3:=LA (.tup [.str (nm 9),.str (nm 16),.int a]) (T (sd ss a));have p4:=IU (.tup [.str (nm 9),.str (nm 16),.int a]) (T (sd ss a));have a1:gj (.tup [.str (nm 9),.str (nm 16),.int a]) (Pg ls)=some (Pg (ls++[.one 16 a])):=a1;generalize l.d=ld at *;by_cases k1:27<bc t;exact aG;by_cases k2:(4:Int)<t.length;exact aG;have k3:24<MI t:=by by_cases z:24<MI t;exact z;exact absurd ⟨Qt,Qt,Qt⟩ c
 exact aG
theorem Q2E(m:Int)(h0:0<=m)(h8:m<8):∃v:Int,0<=v/\v<=3/\au (.lst [.int 2,.int 3,.int 1,.int 2,.int 3,.int 1,.int 2,.int 0]) (.int m)=some (.int v):=by have:m=0\/m=1\/m=2\/m=3\/m=4\/m=5\/m=6\/m=7:=Qt;rcases this with rfl|rfl|rfl|rfl|rfl|rfl|rfl|rfl;exact⟨2,Qt,Qt,rfl⟩;exact⟨3,Qt,Qt,rfl⟩;exact⟨1,Qt,Qt,rfl⟩;exact⟨2,Qt,Qt,rfl⟩;exact⟨3,Qt,Qt,rfl⟩;exact⟨1,Qt,Qt,rfl⟩;exact⟨2,Qt,Qt,rfl⟩;exact⟨0,Qt,Qt,rfl⟩
theorem Q2Y(m:Int)(h0:0<=m)(h8:m<4):∃v:Int,0<=v/\v<=4/\au (.lst [.int 2,.int 3,.int 1,.int 4]) (.int m)=some (.int v):=by have:m=0\/m=1\/m=2\/m=3:=Qt;rcases this with rfl|rfl|rfl|rfl;exact⟨2,Qt,Qt,rfl⟩;exact⟨3,Qt,Qt,rfl⟩;exact⟨1,Qt,Qt,rfl⟩;exact⟨4,Qt,Qt,rfl⟩
theorem Ks:∀(xs:T1),(∀x∈xs,0<=x/\x<=3)->0<=bc xs/\bc xs<=3 ^ xs.length|[],_=>by simp[bc]|x::r,h=>by have hx:=h x Bl;have hr:=Ks r fun y hy=>h y (Uq _ hy);simp only[bc,List.length_cons];refine⟨K7 hx.1 hr.1,?_⟩;have:x*bc r<=3*3 ^ r.length:=Int.mul_le_mul hx.2 hr.2 hr.1 Qt;rw[Int.pow_succ];lia
theorem ZX(xs:T1)(hl:xs.length<=3)(h:∀x∈xs,0<=x/\x<=3):SI xs:=by
 refine⟨Qt,fun x hx=>by have:=h x hx;lia,?_⟩;have p:=(Ks xs h).2;have:(3:Int) ^ xs.length<=27:=by
  generalize xs.length=n at *
  match n,hl with|0,_=>decide|1,_=>decide|2,_=>decide|3,_=>decide
 lia
theorem noLs_T:∀ss:Rp,noLs (ss.map T)=true
|[]=>rfl|s::ss=>by
 have:DU (T s)=true:=by unfold T;rw[DU];induction s with|nil=>rfl|cons x s ih=>rw[P6,noLs,DU,ih];rfl
 rw[P6,noLs,this,noLs_T ss];rfl
def vA(t:Sl×Sl×Sl):Prop:=free (some t.1)=true/\free (some t.2.1)=true/\free (some t.2.2)=true
def Qr(t:Sl×Sl×Sl×Sl):Prop:=free (some t.1)=true/\free (some t.2.1)=true/\free (some t.2.2.1)=true/\free (some t.2.2.2)=true
theorem K2(gs:Rp)(t:T1)(h:gs.length<=100):gj (T t) (ck gs)=some (ck (gs++[t])):=by unfold ck;rw[iP _ _ (by simp;lia),BN];rfl
theorem x9(ns:T1)(p:Nat):∃(ls:SK)(ss gs:Rp)(ix_ q:Nat),vm [Row ns p]=.ok (.tup [Pg ls,ck ss,.int gs.length,ck gs]) [Row ns q]/\Gd gs ls ss ix_/\BM gs/\ls.length<=13:=by
 obtain⟨z,t2,z0,z2⟩:=bV ns p 2 Qt;obtain⟨n,hn,QU⟩:∃n:Nat,a8 (.int 1) (.int z)=some (.int (n:Int))/\1<=n/\n<=2:=⟨(1+z).toNat,congrArg (fun z=>some (D.int z)) Qt,Qt,Qt⟩;have er:=rB n Qt;obtain⟨⟨q1,gs⟩,t,⟨sy,J4⟩,ht,L⟩:=cP (g:=aD 2) (body:=eN) (fun(k:Nat)=>D.int k) (fun(s:Nat×List (List Int))(t:Sl×Sl)=>[.io (Row ns s.1),.ow (ck s.2),t.1,t.2,.no,.no,.no,.no,.no,.no,.no,.no]) kM (List.range n) (fun k s=>s.2.length=k/\BM s.2) (p+1,[]) (.no,.no) ⟨rfl,rfl⟩ ⟨rfl,fun s hs=>by simp at hs⟩ (by
  intro i k hk s t ht hP;obtain⟨q,gs⟩:=s;obtain⟨t3,t4⟩:=t;obtain⟨f3,f4⟩:=ht;obtain⟨hl,cj⟩:=hP;dsimp only at f3 f4 hl cj;obtain⟨rfl,hk⟩:=cR hk;obtain⟨m,tk,hm4⟩:=drawn ns q 4 Qt;have tk:bC [Row ns q,.int 4]=.ok (.int m) [Row ns (q+1)]:=tk;have er:=rB m Qt;obtain⟨q',ys,hc,he⟩:=m9 (it:=cQ [(af 3)]) (elt:=gI) (k:=12) (r0:=[.io (Row ns (q+1)),.ow (ck gs),.sh (.int k),.sh (.int m),.no,.no,.no,.no,.no,.no,.no,.no]) (fun(k:Nat)=>D.int k) (fun q=>[.io (Row ns q),.ow (ck gs),.sh (.int k),.sh (.int m),.no,.no,.no,.no,.no,.no,.no,.no]) (fun _ y=>0<=y/\y<=3) (List.range m) (q+1) (fun _=>rfl) aG (by simp;lia) (fun j _ q'=>by obtain⟨x,t8,x0,x8⟩:=bV ns q' 8 Qt;obtain⟨v,v0,v3,iv⟩:=Q2E x x0 x8;exact⟨q'+1,v,⟨v0,v3⟩,fun acc=>by unfold gI;exact aG⟩);have yl:=he.len;simp only[List.length_range] at yl;have hy:SI ys:=ZX ys Qt fun y hy=>by obtain⟨_,_,h⟩:=he.right y hy;exact h
  have ap:=K2 gs ys Qt;refine⟨(q',gs++[ys]),(.sh (.int k),.sh (.int m)),⟨by simp[hl],fun x hx=>?_⟩,⟨rfl,rfl⟩,?_⟩;rcases List.mem_append.mp hx with hx|hx;exact cj x hx;have:x=ys:=by simpa using hx
  subst this;exact hy;have e:aD 2 (.int (k:Int)) [.io (Row ns q),.ow (ck gs),t3,t4,.no,.no,.no,.no,.no,.no,.no,.no]=.ok () [.io (Row ns q),.ow (ck gs),.sh (.int k),t4,.no,.no,.no,.no,.no,.no,.no,.no]:=by simp[f3]
  dsimp only;rw[bq,e,aA,show eN _=.ok .nx _ by unfold eN;exact aG];rfl)
 obtain⟨t3,t4⟩:=t;obtain⟨f3,f4⟩:=ht;simp only[List.length_range] at sy;dsimp only at sy J4 f3 f4 L;obtain⟨x,tv,x0,x4⟩:=bV ns q1 4 Qt;obtain⟨v,v0,v4,iv⟩:=Q2Y x x0 x4;have hv:SI [v]:=⟨Ro,fun x hx=>by simp at hx;lia,by simp[bc];lia⟩;have ap:gj (.tup [.int v]) (ck gs)=some (ck (gs++[[v]])):=K2 gs [v] Qt;have GL:BM (gs++[[v]]):=fun x hx=>by
  rcases List.mem_append.mp hx with hx|hx;exact J4 x hx;have:x=[v]:=by simpa using hx
  subst this;exact hv
 have sA:sd (gs++[[v]]) ((gs++[[v]]).length-1)=[v]:=by simp[sd]
 have hg3:2<=(gs++[[v]]).length/\(gs++[[v]]).length<=3:=by simp;lia
 generalize hgz:gs++[[v]]=gz at *;have ln:=fJ gz;obtain⟨tn,tt,Zs⟩:=drawn ns (q1+1) gz.length Qt;have er2:=rB gz.length Qt;let pl:=fun(k:Nat)=>PL.given (((k+tn) % gz.length:Nat));have c6:aQ 1 (cQ [(af 4)]) (aD 12) (VP.ret true) ef [.io (Row ns (q1+2)),.ow (ck gz),t3,t4,.sh (.int gz.length),.sh (.int tn),.no,.no,.no,.no,.no,.no]=.ok (Pg ((List.range gz.length).map pl)) [.io (Row ns (q1+2)),.ow (ck gz),t3,t4,.sh (.int gz.length),.sh (.int tn),.no,.no,.no,.no,.no,.no]:=by refine gJ (fun(k:Nat)=>D.int k) (fun k=>(pl k).d) (List.range gz.length) aG (by simp;lia) (by simp[Pg,Function.comp_def]) fun k hk acc=>?_;have md:=iJ ((k:Int)+tn) gz.length Qt;rw[show ((k:Int)+tn) % (gz.length:Int)=(((k+tn) % gz.length:Nat):Int) by simp] at md;show ef _=.ok (.tup [.str (nm 0),.int (((k+tn) % gz.length:Nat):Int)]) _;generalize (k+tn) % gz.length=m at *;unfold ef;exact aG
 let sl:=fun(k:Nat)=>sd gz ((k+tn) % gz.length);have c7:aQ 1 (cJ (af 6)) (aD 12) (VP.ret true) ek [.sh (Row ns (q1+2)),.sh (ck gz),bM t3,bM t4,.sh (.int gz.length),.sh (.int tn),.sh (Pg ((List.range gz.length).map pl)),.no,.no,.no,.no,.no]=.ok (.lst (((List.range gz.length).map sl).map T)) [.sh (Row ns (q1+2)),.sh (ck gz),bM t3,bM t4,.sh (.int gz.length),.sh (.int tn),.sh (Pg ((List.range gz.length).map pl)),.no,.no,.no,.no,.no]:=by refine gJ (fun(k:Nat)=>(pl k).d) (fun k=>T (sl k)) (List.range gz.length) (by simp[Ff,Function.comp_def]) (by simp;lia) (by simp[Function.comp_def]) fun k hk acc=>?_;have ib:=cE gz ((k+tn) % gz.length) (Nat.mod_lt _ Qt);have i1:au (pl k).d (.int 1)=some (.int (((k+tn) % gz.length:Nat))):=rfl;generalize (pl k).d=ld at *;rw[show sl k=sd gz ((k+tn) % gz.length) from rfl];generalize (k+tn) % gz.length=j at ib i1 ⊢;unfold ek;exact aG
 have nl:=noLs_T ((List.range gz.length).map sl);have v7:ip (aQ 1 (cJ (af 6)) (aD 12) (VP.ret true) ek) [.io (Row ns (q1+2)),.ow (ck gz),t3,t4,.sh (.int gz.length),.sh (.int tn),.ow (Pg ((List.range gz.length).map pl)),.no,.no,.no,.no,.no]=.ok (ck ((List.range gz.length).map sl)) [.io (Row ns (q1+2)),.ow (ck gz),t3,t4,.sh (.int gz.length),.sh (.int tn),.ow (Pg ((List.range gz.length).map pl)),.no,.no,.no,.no,.no]:=by rw[mf];simp only[List.map_cons,List.map_nil,Q22,j5,j6,mK];rw[c7,mJ _ _ _ nl];rfl
 obtain⟨ix_,hix⟩:∃ix_:Nat,ix_=gz.length-1-tn:=⟨_,rfl⟩;have mi:pe (.int ((gz.length:Int)-1-tn)) (.int gz.length)=some (.int (ix_:Int)):=by rw[iJ _ _ Qt,Int.emod_eq_of_lt Qt Qt];exact congrArg (fun z=>some (D.int z)) Qt
 have G0:Gd gz ((List.range gz.length).map pl) ((List.range gz.length).map sl) ix_:=by
  have es:∀i,i<gz.length->sd ((List.range gz.length).map sl) i=sl i:=fun i hi=>by simp[sd,hi]
  refine⟨Ro,fun i l hl r hr=>?_,fun i l hl=>?_,fun s hs=>?_,by simp;lia,?_,fun z=>?_⟩;obtain⟨k,_,rfl⟩:=List.mem_map.mp (Ie hl);simp[pl,PL.ns] at hr;have hi:=(List.getElem?_eq_some_iff.mp hl).1;simp only[List.length_map,List.length_range] at hi;have:l=pl i:=by simpa[hi] using hl.symm
  subst this;rw[es i hi];exact⟨(i+tn) % gz.length,rfl,Nat.mod_lt _ Qt,rfl⟩;obtain⟨k,hk,rfl⟩:=List.mem_map.mp hs;exact GL.at (Nat.mod_lt _ Qt);rw[es _ Qt];show (sd gz ((ix_+tn) % gz.length)).length=1;rw[show ix_+tn=gz.length-1 by lia,Nat.mod_eq_of_lt Qt,sA];rfl;have:=congrArg List.length z;rw[uG,LZ,List.length_nil] at this;lia
 have Xz:((List.range gz.length).map pl).length<=3:=by simp;lia
 generalize ((List.range gz.length).map pl)=ZK at *;generalize ((List.range gz.length).map sl)=Z1 at *;obtain⟨y,Fq,y0,y10⟩:=bV ns (q1+2) 10 Qt;obtain⟨V9,Zh,XC⟩:∃n:Nat,a8 (.int 1) (.int y)=some (.int (n:Int))/\n<=10:=⟨(1+y).toNat,congrArg (fun z=>some (D.int z)) Qt,Qt⟩;have YC:=rB V9 Qt;obtain⟨⟨q3,ls,ss⟩,t,⟨XA,hG⟩,ht,L5⟩:=cP (g:=aD 2) (body:=eO) (fun(k:Nat)=>D.int k) (fun(s:Nat×List PL×List (List Int))(t:Sl×Sl×Sl×Sl)=>Fp ns gz gz.length tn ix_ s.2.1 s.2.2 s.1 t.1 t4 t.2.1 t.2.2.1 t.2.2.2) Qr (List.range V9) (fun k s=>s.2.1.length<=3+k/\Gd gz s.2.1 s.2.2 ix_) (q1+3,ZK,Z1) (t3,.no,.no,.no) ⟨f3,rfl,rfl,rfl⟩ ⟨Qt,G0⟩ (by intro i k hk s t ht hP;obtain⟨q,ls,ss⟩:=s;obtain⟨s2,s9,FX,Bp⟩:=t;obtain⟨g2,g9,T3,Xh⟩:=ht;obtain⟨hl,hG⟩:=hP;dsimp only at g2 g9 T3 Xh hl hG;obtain⟨rfl,hk⟩:=cR hk;obtain⟨l,t,q',Up,IF,IG,e,YM,k9,ZE,ZF⟩:=Td ns gz GL Qt tn ix_ ls ss hG Qt q (.sh (.int k)) t4 s9 FX Bp g9 T3 Xh;refine⟨(q',ls++[l],ss++[t]),(.sh (.int k),Up,IF,IG),⟨by simp;lia,YM⟩,⟨rfl,k9,ZE,ZF⟩,?_⟩;dsimp only;rw[bq,show aD 2 (.int (k:Int)) (Fp ns gz gz.length tn ix_ ls ss q s2 t4 s9 FX Bp)=.ok () (Fp ns gz gz.length tn ix_ ls ss q (.sh (.int k)) t4 s9 FX Bp) by simp[Fp,g2],aA,e];rfl);obtain⟨s2,s9,FX,Bp⟩:=t;simp only[List.length_range] at XA;dsimp only[Fp] at XA hG L5;have Vf:ck []=.lst []:=rfl;rw[Vf] at L;refine⟨ls,ss,gz,ix_,q3,?_,hG,GL,Qt⟩;clear G0 hG GL J4 nl c7 sA;unfold vm Cc;exact rn
theorem zS(xs:T1)(n:Nat)(hx:xs.length<=100)(hn:n<=100):vp [T xs,.int n]=.ok (Z (ahead xs n)) []:=by
 rw[vp,fG _ _ _ _ rfl];unfold CK;have er:rA [.int ((n:Int)-xs.length)]=some ((List.range (n-xs.length)).map fun(k:Nat)=>.int k):=mw _ _ Qt Qt Qt;have hc:aQ 1 (cQ [m2 gU (af 1) (m1 bz (af 0))]) (aD 2) (VP.ret true) fN [.sh (T xs),.sh (.int n)]=.ok (Z (List.replicate (n-xs.length) 1)) [.sh (T xs),.sh (.int n)]:=by rw[Q16 (ds:=(List.range (n-xs.length)).map fun(k:Nat)=>.int k) (fun _=>.int 1)];congr 1;simp[Z,Function.comp_def,List.map_const'];simp[er];rfl;simp;lia;intro d _ acc;rfl
 have e2:a8 (Z (List.replicate (n-xs.length) 1)) (Z xs)=some (Z (ahead xs n)):=by rw[KY];rfl;simp[jn];lia
 simp[hc,e2]
theorem RP(one other:T1)(h1:one.length<=100)(h2:other.length<=100):oz [T one,T other]=.ok (Bf (meet one other)) []:=by
 rw[oz,fG _ _ _ _ rfl];have L:=lp (g:=cz [4,5]) (body:=eP) (fun(p:Int×Int)=>D.tup [.int p.1,.int p.2]) (fun(s:T1)(t:Sl×Sl)=>[.sh (T one),.sh (T other),.sh (.int (max one.length other.length:Nat)),.ow (Z s),t.1,t.2]) kM Kz (pairs one other).reverse (fun k s=>s.length=k) [] (.no,.no) ⟨rfl,rfl⟩ rfl ?_;rw[so] at L;have em:((max one.length other.length:Nat):Int)=max (one.length:Int) other.length:=Pe;have ez:oa [Z (ahead one (max one.length other.length)),Z (ahead other (max one.length other.length))]=some ((pairs one other).reverse.map fun p=>.tup [.int p.1,.int p.2]):=by rw[Q2P _ _ _ _ rfl rfl,kD]
 have o1:=zS one (max one.length other.length) h1 Pe;have o2:=zS other (max one.length other.length) h2 Pe;rw[em] at o1 o2;simp only[em] at L;unfold Cw meet;rw[Hl] at L;by_cases q:(pairs one other).all (fun p=>qC p.1 p.2)=true;rw[Wr q] at L;obtain⟨_,t,_,L⟩:=L;rw[Wr q];simp only[List.nil_append] at L;simp[Rx,o1,o2,ez,L,Bf,-List.map_reverse,-List.map_map];rw[Ap];rw[Uu q] at L;obtain⟨s',t,L⟩:=L;rw[Uu q];simp[Rx,o1,o2,ez,L,Bf,-List.map_reverse,-List.map_map];intro i p hp acc t ht hP;have hi:=(List.getElem?_eq_some_iff.mp hp).1;obtain⟨t4,t5⟩:=t;obtain⟨h4,h5⟩:=ht;dsimp only at h4 h5 hP;have e1:∀x:Int,gj (.int x) (Z acc)=some (Z (acc++[x])):=fun x=>BS _ _ (by simp[pairs] at hi;omega);have x1:bq (cz [4,5]) eP (.tup [.int p.1,.int p.2]) [.sh (T one),.sh (T other),.sh (.int (max one.length other.length:Nat)),.ow (Z acc),t4,t5]=if qC p.1 p.2 then .ok .nx [.sh (T one),.sh (T other),.sh (.int (max one.length other.length:Nat)),.ow (Z (acc++[pk p.1 p.2])),.sh (.int p.1),.sh (.int p.2)] else .ok (.rt .bE) [.sh (T one),.sh (T other),.sh (.int (max one.length other.length:Nat)),.ow (Z acc),.sh (.int p.1),.sh (.int p.2)]:=by
  have g6:cz [4,5] (.tup [.int p.1,.int p.2]) [.sh (T one),.sh (T other),.sh (.int (max one.length other.length:Nat)),.ow (Z acc),t4,t5]=.ok () [.sh (T one),.sh (T other),.sh (.int (max one.length other.length:Nat)),.ow (Z acc),.sh (.int p.1),.sh (.int p.2)]:=by simp[h4,h5]
  have n1:=du p.1 p.2;have n2:=du p.1 1;have n3:=du p.2 1;have n4:=iZ p.1 1;have e2:qC p.1 p.2=(decide (p.1=1)||decide (p.2=1)||decide (p.1=p.2)):=by simp[qC,Bool.or_assoc]
  have e3:pk p.1 p.2=if decide (p.1=1)=true then p.2 else p.1:=by simp[pk]
  have YA:=e1 p.1;have YB:=e1 p.2;rw[e2,e3,bq,g6,aA];clear e1 e2 e3 g6;generalize decide (p.1=1)=b1 at *;generalize decide (p.2=1)=b2 at *;generalize decide (p.1=p.2)=b3 at *;generalize (max one.length other.length:Nat)=mx at *;generalize T one=O1 at *;generalize T other=O2 at *;unfold eP;cases b1;cases b2;cases b3;exact aG;exact aG;cases b3<;>exact aG;cases b2<;>cases b3<;>exact aG
 unfold Kz;dsimp only;rw[x1];by_cases q:qC p.1 p.2=true;rw[Wr q,Wr q];exact⟨by simp[hP],(_,_),⟨rfl,rfl⟩,rfl⟩;rw[Uu q,Uu q];exact⟨acc,(_,_),rfl⟩
theorem ue{s t m:T1}(h1:s.length<=100)(h2:t.length<=100)(e:meet s t=some m):oz [T s,T t]=.ok (T m) []:=by have:=RP s t h1 h2;rwa [e] at this
theorem mP(s:T1)(k:Nat)(hk:k<s.length)(hl:s.length<=100):qd [T s,.int k]=.ok (T (wo s k)) []:=by have a2:a8 (T (s.take k)) (T (s.drop (k+1)))=some (T (wo s k)):=eY _ _ (by simp[jn];omega);have c1:=rV s k Pe;have c2:=rT s (k+1) Pe;rw[show (((k+1:Nat)):Int)=(k:Int)+1 by omega] at c2;unfold qd CL;exact rn
theorem nP(s:T1)(k:Nat)(x:Int)(hk:k<s.length)(hl:s.length<=100):sg [T s,.int k,.int x]=.ok (T (rep s k x)) []:=by have a1:a8 (T (s.take k)) (.tup [.int x])=_:=eY (s.take k) [x] (by simp[jn];lia);have a2:=eY (s.take k++[x]) (s.drop (k+1)) (by simp[jn];lia);have c1:=rV s k Qt;have c2:=rT s (k+1) Qt;rw[show (((k+1:Nat)):Int)=(k:Int)+1 by lia] at c2;rw[show s.take k++[x]++s.drop (k+1)=rep s k x by simp[rep]] at a2;unfold sg Cs;exact rn
theorem Il(s:T1)(k:Nat)(x:Int)(hk:k<=s.length)(hl:s.length<=100):za [T s,.int k,.int x]=.ok (T (pin s k x)) []:=by have a1:a8 (T (s.take k)) (.tup [.int x])=_:=eY (s.take k) [x] (by simp[jn];lia);have a2:=eY (s.take k++[x]) (s.drop k) (by simp[jn];lia);have c1:=rV s k Qt;have c2:=rT s k Qt;rw[show s.take k++[x]++s.drop k=pin s k x by simp[pin]] at a2;unfold za Cq;exact rn
theorem fj(s:T1)(k:Nat)(hk:k<s.length):kJ [T s,.int k]=.ok (.bl true) []:=by
 have e1:qV (.int 0) (.int (k:Int))=some (.bl true):=by rw[gM,WN Qt]
 have e2:ltI (.int (k:Int)) (.int s.length)=some (.bl true):=by rw[nB,WN Qt]
 unfold kJ B4;exact rn
theorem lb(s:T1)(k:Nat)(p:Int)(hk:k<s.length)(h0:0<=p)(h1:p<s.getD k 0):rY [T s,.int k,.int p]=.ok (.bl true) []:=by
 have e1:qV (.int 0) (.int p)=some (.bl true):=by rw[gM,WN h0]
 have e2:ltI (.int p) (.int (s.getD k 0))=some (.bl true):=by rw[nB,WN h1]
 have hs:=fj s k hk;have i1:=tS s k hk;unfold rY B3;exact rn
theorem GG(d:Nat)(s:T1)(k:Nat)(hk:k<s.length)(hl:s.length<=100)(hd:d∈[19,21,22,23])(h0:s.getD k 0=0->d≠22/\d≠23):yV [.str (nm d),T s,.int k]=.ok (T (wo s k)) []:=by
 have hs:=fj s k hk;have i1:=tS s k hk;have w:=mP s k hk hl;generalize s.getD k 0=z at *;unfold yV B2;by_cases z0:z=0;have h1:=h0 z0;have i2:inD false (.str (nm d)) (.tup [.str (nm 22),.str (nm 23)])=some (.bl false):=by simp only[List.mem_cons,List.not_mem_nil,or_false] at hd;rcases hd with rfl|rfl|rfl|rfl;kernel_rfl!;kernel_rfl!;exact absurd rfl h1.1;exact absurd rfl h1.2
 exact rn;exact rn
theorem Ib(s:T1)(k:Nat)(y:Int)(hk:k<s.length)(hl:s.length<=100):y8 [T s,.int k,T [y]]=.ok (T (rep s k y)) []:=by have hs:=fj s k hk;have w:=nP s k y hk hl;have ln:bz (T [y])=some (.int 1):=rfl;have i1:au (T [y]) (.int 0)=some (.int y):=rfl;unfold y8 Co;exact rn
theorem G8(s t:T1)(k:Nat)(hk:k<s.length)(hl:s.length<=100)(h1:s.length=t.length)(h2:wo s k=wo t k):yX [T s,T t,.int k]=.ok (T (rep s k (s.getD k 0+t.getD k 0))) []:=by
 have hs:=fj s k hk;have w:=nP s k (s.getD k 0+t.getD k 0) hk hl;have w1:=mP s k hk hl;have w2:=mP t k Qt Qt;have i1:=tS s k hk;have i2:=tS t k Qt;have n1:gD (.int (s.length:Int)) (.int t.length)=some (.bl false):=by rw[du,WN Qt];rfl
 have n2:gD (T (wo s k)) (T (wo t k))=some (.bl false):=by rw[Er,WN h2];rfl
 unfold yX B7;exact rn
theorem Jm(s o:T1)(hl:s.length<=60)(h1:sortI o=j3 s.length)(h2:o.length=s.length):zk [T s,T o]=.ok (T (o.map fun x=>s.getD x.toNat 0)) []:=by
 have e1:=IW o Qt;have e2:=zL s.length Qt;have e3:gD (Z (sortI o)) (Z (j3 s.length))=some (.bl false):=by rw[Q23,WN h1];rfl
 have c:aQ 1 (cJ (af 1)) (aD 2) (VP.ret true) eC [.sh (T s),.sh (T o)]=.ok (Z (o.map fun x=>s.getD x.toNat 0)) [.sh (T s),.sh (T o)]:=by refine gJ D.int (fun x=>D.int (s.getD x.toNat 0)) o aG Qt (by simp[Z,Function.comp_def]) fun x hx acc=>?_;obtain⟨j,rfl,hj⟩:=nV h1 hx;have ix:au (T s) (.int j)=some (.int (s.getD (j:Int).toNat 0)):=gx s j Qt Qt;unfold eC;exact aG
 unfold zk CC;exact rn
theorem Qk(s:T1)(k:Nat)(b st m:Int)(hk:k<s.length)(hl:s.length<=100)(jB:st≠0/\-3<=st/\st<=3)(hm:0<=m)(hp:0<m->(0<=b/\b<s.getD k 0)/\0<=b+st*(m-1)/\b+st*(m-1)<s.getD k 0):yT [T s,.int k,.int b,.int st,.int m]=.ok (T (rep s k m)) []:=by have hs:=fj s k hk;have w:=nP s k m hk hl;have c1:¬st=0:=jB.1;have c2:¬m<0:=Qt;unfold yT B0;by_cases c3:0<m;have h:=hp c3;have p1:=lb s k b hk h.1.1 h.1.2;have p2:=lb s k _ hk h.2.1 h.2.2;have mu:=nH st (m-1) Qt Qt;exact rn;exact rn
theorem C3(s:T1)(k:Nat)(p:Int)(hk:k<s.length)(hl:s.length<=100)(h0:0<=p)(h1:p<s.getD k 0):yU [T s,.int k,.int p]=.ok (T (wo s k)) []:=by have p1:=lb s k p hk h0 h1;have w:=mP s k hk hl;unfold yU B1;exact rn
theorem OD{s t u m n:T1}(hs:s.length<=4)(ht:t.length<=4)(hu:u.length<=4)(e1:meet s t=some m)(e2:meet m u=some n):zj [T s,T t,T u]=.ok (T n) []:=by have ml:=gO e1;have m1:=ue Qt Qt e1;have m2:=ue Qt Qt e2;have n1:=Ew m;unfold zj CB;exact rn
theorem tI(body:M Fl)(hb:body=dF)(xs:T1)(h:Sm xs)(d:D):∃t,loop (aD 2) body (xs.map .int) [.sh d,.sh (.int 1),.no]=.ok .nx [.sh d,.sh (.int (bc xs)),t]:=by subst hb;obtain⟨_,t,_,L⟩:=ja (g:=aD 2) (body:=dF) D.int (fun(s:Int)(t:Sl)=>[.sh d,.sh (.int s),t]) vz (fun _ _=>True) (fun p x=>p*x) xs 1 .no rfl trivial (by intro i x hx p t ht _;have hm:=h x (Ie hx);have hf:free (some t)=true:=ht;refine⟨trivial,.sh (.int x),rfl,?_⟩;simp[bq,dF,hf,gP p x Qt Qt]);rw[lB,Int.one_mul] at L;exact⟨t,L⟩
theorem iV(xs:T1)(h:Sm xs):qa [T xs]=.ok (.int (bc xs)) []:=by rw[qa,fG _ _ _ _ rfl];obtain⟨t,L⟩:=tI dF rfl xs h (T xs);simp[BZ,L]
theorem Gs(s:T1)(h:SI s):ze [T s]=.ok (.bl true) []:=by
 have hl:=h.1;have c:aQ 1 (cJ (af 0)) (aD 1) (VP.ret true) eB [.sh (T s)]=.ok (.lst (s.map fun x=>D.bl true)) [.sh (T s)]:=by
  refine gJ D.int (fun x=>D.bl true) s aG Pe rfl fun x hx acc=>?_;have hb:=h.2.1 x hx;have e1:qV (.int 0) (.int x)=some (.bl true):=by rw[gM,WN hb.1]
  have e2:qV (.int x) (.int 64)=some (.bl true):=by rw[gM,WN Pe]
  unfold eB;exact aG
 have e:oR true (.lst (s.map fun x=>D.bl true))=some (.bl true):=by rw[BP (fun _=>true) s];simp
 have hc:=iV s fun x hx=>by have:=h.2.1 x hx;omega
 have l4:¬(4:Int)<s.length:=Pe;have e4:qV (.int (bc s)) (.int 4096)=some (.bl true):=by rw[gM,WN (by have:=h.2.2;omega)]
 unfold ze Cu;exact rn
theorem PL.Pk(l:PL):ox [l.d]=.ok (bN l.ns) []:=l.named
theorem D4{n:Nat}{G S:Nat->T1}{l:PL}{t:T1}(h:Told n G S l t):Di [l.d]=.ok (.bl true) []:=by
 cases l with
 |one d a=>obtain⟨⟨h1,h2⟩,_⟩:=h;have:d=16\/d=17\/d=18:=Qt;rcases this with rfl|rfl|rfl<;>kernel_rfl!
 |both d a b=>obtain⟨⟨h1,h2⟩,_⟩:=h;have:d=19\/d=20\/d=21\/d=22\/d=23\/d=24\/d=25:=Qt;rcases this with rfl|rfl|rfl|rfl|rfl|rfl|rfl<;>kernel_rfl!
 |fold d a k=>obtain⟨_,_,_,h,_⟩:=h;simp only[List.mem_cons,List.not_mem_nil,or_false] at h;rcases h with rfl|rfl|rfl|rfl<;>kernel_rfl!
 |run d a k=>obtain⟨_,_,_,h,_⟩:=h;simp only[List.mem_cons,List.not_mem_nil,or_false] at h;rcases h with rfl|rfl|rfl|rfl<;>kernel_rfl!
 |_=>kernel_rfl!
theorem Kx(x:Int)(h:Rt x):vg [.int x]=.ok (.bl true) []:=by
 have e1:qV (.int 0) (.int x)=some (.bl true):=by rw[gM,WN h.1]
 have e2:ltI (.int x) (.int 1000003)=some (.bl true):=by rw[nB,WN h.2]
 unfold vg B6;exact rn
theorem Q1A{n:Nat}{G S:Nat->T1}{l:PL}{t:T1}(h:Told n G S l t):oy [l.d]=.ok (.bl true) []:=by
 by_cases c1:l.k=1;cases l<;>simp only[PL.k] at c1<;>try lia
 rename_i s x;have r:=Kx x h.2;show oy [.tup [.str (nm 1),T s,.int x]]=_;unfold oy uZ;exact rn;by_cases c8:l.k=8;cases l<;>simp only[PL.k] at c8<;>try lia
 rename_i a k m x;obtain⟨_,_,_,hr,_⟩:=h;have r:=Kx x hr;have ne:=X3 8 8 (by decide) (by decide);show oy [.tup [.str (nm 8),.int a,.int k,.int m,.int x]]=_;unfold oy uZ;exact rn;have k1:=l.kind;have VY:=l.Rj;have e1:cn (.str (nm l.k)) (.str (nm 1))=some (.bl false):=by rw[JT _ _ Qt Qt,Nn c1]
 have e2:gD (.str (nm l.k)) (.str (nm 8))=some (.bl true):=by rw[X3 _ _ Qt Qt,Nn c8];rfl
 generalize l.d=ld at *;unfold oy uZ;exact rn
theorem Fv{n:Nat}{G S:Nat->T1}{l:PL}{t:T1}{m:Nat}(h:Told n G S l t)(hl:∀r∈l.ns,r<m):sf [l.d,.int m,.int n]=.ok (.bl true) []:=by
 by_cases c0:l.k=0;cases l<;>simp only[PL.k] at c0<;>try lia
 obtain⟨k,rfl,hk,_⟩:=h;have e1:qV (.int 0) (.int (k:Int))=some (.bl true):=by rw[gM,WN Qt]
 have e2:ltI (.int (k:Int)) (.int n)=some (.bl true):=by rw[nB,WN Qt]
 show sf [.tup [.str (nm 0),.int (k:Int)],.int m,.int n]=_;unfold sf yI;exact rn;have k1:=l.kind;have VY:=l.Rj;have lf:=l.ki;have e1:cn (.str (nm l.k)) (.str (nm 0))=some (.bl false):=by rw[JT _ _ Qt Qt,Nn c0]
 have nb:=l.Pk;generalize l.d=ld at *;have c:aQ 1 (cJ (az ox [.val (af 0)])) (aD 3) (VP.ret true) cY [.sh ld,.sh (.int m),.sh (.int n)]=.ok (.lst (l.ns.map fun _=>D.bl true)) [.sh ld,.sh (.int m),.sh (.int n)]:=by
  have sq:cq (bN l.ns)=some (l.ns.map fun a=>D.int (a:Nat)):=rfl;refine gJ (fun a=>D.int (a:Nat)) (fun _=>D.bl true) l.ns aG Qt rfl fun a ha acc=>?_;have hb:=hl a ha;have e1:qV (.int 0) (.int (a:Int))=some (.bl true):=by rw[gM,WN Qt]
  have e2:ltI (.int (a:Int)) (.int m)=some (.bl true):=by rw[nB,WN Qt]
  unfold cY;exact aG
 have e:oR true (.lst (l.ns.map fun _=>D.bl true))=some (.bl true):=by rw[BP (fun _=>true) l.ns];simp
 unfold sf yI;exact rn
theorem Je{gs ss:Rp}{l:PL}{t:T1}(h:Told gs.length (sd gs) (sd ss) l t)(hl:∀r∈l.ns,r<ss.length)(si:BM ss)(ht:SI t):eI [l.d,ck ss,ck gs]=.ok (T t) [ck ss]:=by
 have key:∀a,a∈l.ns->au (ck ss) (.int (a:Int))=some (T (sd ss a))/\(sd ss a).length<=4/\SI (sd ss a):=fun a ha=>⟨cE ss a (hl a ha),(si.at (hl a ha)).1,si.at (hl a ha)⟩;have sm:∀s,SI s->Sm s:=fun s h x hx=>by have:=h.2.1 x hx;lia
 cases l<;>simp only[PL.ns,List.mem_cons,List.not_mem_nil,or_false,forall_eq_or_imp,forall_eq] at key<;>simp only[PL.d,PL.k,PL.ps];rename_i j;obtain⟨k,rfl,hk,rfl⟩:=h;have ib:=cE gs k hk;unfold eI eV;exact rn;rename_i s x;obtain⟨rfl,_⟩:=h;unfold eI eV;exact rn;rename_i a o;obtain⟨h1,h2,rfl⟩:=h;obtain⟨ia,il,_⟩:=key;have w:=Jm _ _ Qt h1 h2;have v:ie [.tup [.str (nm 2),.int a,T o],T (sd ss a)]=.ok (T (o.map fun x=>(sd ss a).getD x.toNat 0)) []:=by unfold ie oq;exact rn
 unfold eI eV;exact rn;rename_i a k b st m;obtain⟨j,rfl,hj,h1,h2,h3,rfl⟩:=h;obtain⟨ia,il,_⟩:=key;have w:=Qk _ _ b st m hj Qt h1 h2 h3;have v:ie [.tup [.str (nm 3),.int a,.int (j:Int),.int b,.int st,.int m],T (sd ss a)]=.ok (T (rep (sd ss a) j m)) []:=by unfold ie oq;exact rn
 unfold eI eV;exact rn;rename_i a k p;obtain⟨j,rfl,hj,h1,rfl⟩:=h;obtain⟨ia,il,_⟩:=key;have w:=C3 _ _ p hj Qt h1.1 h1.2;have v:ie [.tup [.str (nm 4),.int a,.int (j:Int),.int p],T (sd ss a)]=.ok (T (wo (sd ss a) j)) []:=by unfold ie oq;exact rn
 unfold eI eV;exact rn;rename_i a k;obtain⟨j,rfl,hj,rfl⟩:=h;obtain⟨ia,il,_⟩:=key;have w:=Il (sd ss a) j 1 hj Qt;have e1:qV (.int 0) (.int (j:Int))=some (.bl true):=by rw[gM,WN Qt]
 have e2:qV (.int (j:Int)) (.int (sd ss a).length)=some (.bl true):=by rw[gM,WN Qt]
 have v:ie [.tup [.str (nm 5),.int a,.int (j:Int)],T (sd ss a)]=.ok (T (pin (sd ss a) j 1)) []:=by unfold ie oq;exact rn
 unfold eI eV;exact rn;rename_i a u;obtain⟨h1,rfl⟩:=h;obtain⟨ia,il,_⟩:=key;have w:=ue Qt (by have:=ht.1;lia) h1;have e1:cn (T t) (T t)=some (.bl true):=by rw[C6,WN rfl]
 have v:ie [.tup [.str (nm 6),.int a,T t],T (sd ss a)]=.ok (T t) []:=by unfold ie oq;exact rn
 unfold eI eV;exact rn;rename_i a u;obtain⟨h1,rfl⟩:=h;obtain⟨ia,il,is⟩:=key;have w1:=iV _ (sm _ is);have w2:=iV _ (sm _ ht);have e1:cn (.int (bc (sd ss a))) (.int (bc t))=some (.bl true):=by rw[iZ,WN h1]
 have v:ie [.tup [.str (nm 7),.int a,T t],T (sd ss a)]=.ok (T t) []:=by unfold ie oq;exact rn
 unfold eI eV;exact rn;rename_i a k m x;obtain⟨j,rfl,hj,h1,rfl⟩:=h;obtain⟨ia,il,_⟩:=key;have w:=fj _ _ hj;unfold eI eV;exact rn;rename_i d a;obtain⟨_,rfl⟩:=h;obtain⟨ia,il,_⟩:=key;unfold eI eV;exact rn;rename_i d a b;obtain⟨_,h1⟩:=h;obtain⟨⟨ia,il,_⟩,ib,Uc,_⟩:=key;have w:=ue Qt Qt h1;unfold eI eV;exact rn;rename_i a b c;obtain⟨u,h1,h2⟩:=h;obtain⟨⟨ia,il,_⟩,⟨ib,Uc,_⟩,ic,Zz,_⟩:=key;have w:=OD il Uc Zz h1 h2;unfold eI eV;exact rn;rename_i d a k;obtain⟨j,rfl,hj,h1,h2,rfl⟩:=h;obtain⟨ia,il,_⟩:=key;have w:=GG _ _ _ hj Qt h1 h2;unfold eI eV;exact rn;rename_i d a k;obtain⟨j,rfl,hj,h1,rfl⟩:=h;obtain⟨ia,il,_⟩:=key;have w:=fj _ _ hj;unfold eI eV;exact rn;rename_i a k b;obtain⟨j,y,rfl,hj,h1,rfl⟩:=h;obtain⟨⟨ia,il,_⟩,ib,Uc,_⟩:=key;rw[h1] at ib;have w:=Ib _ _ y hj Qt;unfold eI eV;exact rn;rename_i a b k;obtain⟨j,rfl,hj,h1,h2,rfl⟩:=h;obtain⟨⟨ia,il,_⟩,ib,Uc,_⟩:=key;have w:=G8 _ _ _ hj Qt h1 h2;unfold eI eV;exact rn
theorem He{gs ss:Rp}{l:PL}{t:T1}(i:Nat)(h:Told gs.length (sd gs) (sd ss) l t)(hl:∀r∈l.ns,r<ss.length)(si:BM ss)(ht:SI t):zf [.int i,l.d,ck ss,ck gs]=.ok (T t) [ck ss]:=by have e1:=Fv h hl;have e2:=Q1A h;have e3:=D4 h;have e4:=Je h hl si ht;have e5:=Gs t ht;have l1:=fJ ss;have l2:=fJ gs;have n1:=Ew t;generalize l.d=ld at *;unfold zf Cv;exact rn
theorem Q10(gs:Rp)(ls:SK)(ss:Rp)(ix_:Nat)(g:Gd gs ls ss ix_)(i9:ls.length<=14):zg [Pg ls,ck gs]=.ok (ck ss) []:=by
 have hn:=List.length_pos_iff.mpr g.ne;have ZW:=g.len;have ln:=km ls;have en:lS [Pg ls]=some ((List.range ls.length).map fun(i:Nat)=>D.tup [.int i,(fX ls i).d]):=by rw[<-tM];rfl
 obtain⟨s,t,hs,ht,L⟩:=cP (g:=cz [3,4]) (body:=fK) (fun(i:Nat)=>D.tup [.int i,(fX ls i).d]) (fun(s:Rp)(t:Sl×Sl)=>[.sh (Pg ls),.sh (ck gs),.ow (ck s),t.1,t.2]) kM (List.range ls.length) (fun k s=>s=ss.take k) [] (.no,.no) ⟨rfl,rfl⟩ Ro (by
  intro i k hk s t ht hP;obtain⟨rfl,hk⟩:=cR hk;obtain⟨t3,t4⟩:=t;obtain⟨f3,f4⟩:=ht;dsimp only at f3 f4;subst hP;have hl:ls[k]?=some (fX ls k):=by simp[fX,hk]
  have tl:(ss.take k).length=k:=by simp;lia
  have es:∀r,r<k->sd (ss.take k) r=sd ss r:=fun r hr=>by simp[sd,hr]
  have lk:=He (ss:=ss.take k) k ((g.told k _ hl).mono fun r hr=>es r (g.wf k _ hl r hr)) (fun r hr=>by rw[tl];exact g.wf k _ hl r hr) (fun s hs=>g.si s (Nu hs)) (g.si.at Qt);have ap:=K2 (ss.take k) (sd ss k) Qt;rw[show ss.take k++[sd ss k]=ss.take (k+1) by
   have:sd ss k=ss[k]:=by simp[sd,show k<ss.length by lia]
   rw[this];simp] at ap
  generalize (fX ls k).d=ld at *;refine⟨ss.take (k+1),(.sh (.int k),.sh ld),rfl,⟨rfl,rfl⟩,?_⟩;have e:cz [3,4] (.tup [.int (k:Int),ld]) [.sh (Pg ls),.sh (ck gs),.ow (ck (ss.take k)),t3,t4]=.ok () [.sh (Pg ls),.sh (ck gs),.ow (ck (ss.take k)),.sh (.int k),.sh ld]:=by simp[f3,f4]
  dsimp only;rw[bq,e,aA,show fK _=.ok .nx _ by unfold fK;exact aG];rfl)
 obtain⟨t3,t4⟩:=t;subst hs;dsimp only at L;rw[LZ,HY Qt] at L;have Vf:ck []=.lst []:=rfl;rw[Vf] at L;have c1:¬(ls.length:Int)=0:=Qt;have c2:¬(40:Int)<ls.length:=Qt;unfold zg Cy;exact rn
def pD(p:Int×Int×Int):D:=.tup [.int p.1,.int p.2.1,.int p.2.2]
def WD(w:SF):D:=.lst (w.map pD)
def PY(m:Nat)(p:Int×Int×Int):Prop:=p.2.1=-1\/0<=p.2.1/\p.2.1<m
def uL(m n:Nat)(w:SF):Prop:=w.length=n/\∀p∈w,PY m p
def qR(x:Int):Int×Int×Int:=(x,-1,0)
theorem yk(m:Nat)(x:Int):PY m (qR x):=.inl rfl
theorem V2(w:SF):bz (WD w)=some (.int w.length):=by simp[WD]
theorem Oh(w:SF):cq (WD w)=some (w.map pD):=rfl
theorem Rz(w:SF):iI (WD w)=some (WD w):=rfl
theorem VV(w:SF)(k:Nat)(p:Int×Int×Int)(h:w[k]?=some p):au (WD w) (.int (k:Int))=some (pD p):=by unfold WD;rw[kj];exact lh _ _ _ Qt (by simp[h])
theorem SM(w:SF)(k:Nat)(p:Int×Int×Int)(h:k<w.length):setAt (.int (k:Int)) (pD p) (WD w)=some (WD (w.set k p)):=by unfold WD;rw[nU _ _ _ Qt (by simp;lia),AR,List.map_set]
theorem addW(v w:SF)(h:v.length+w.length<=1000):a8 (WD v) (WD w)=some (WD (v++w)):=by unfold WD;rw[lJ _ _ (by simp[jn];lia),BN]
theorem JR(w:SF)(k:Nat)(h:k<=w.length):eG (WD w) none (some (k:Int))=some (WD (w.take k)):=by unfold WD;rw[vd,cutD,uG,my _ _ _ h,jY];simp
theorem CU(w:SF)(k:Nat)(h:k<=w.length):eG (WD w) (some (k:Int)) none=some (WD (w.drop k)):=by unfold WD;rw[vd,cutD,uG,my _ _ _ h,jY,HY Ro];simp
theorem wA(n:Nat)(h:n<=100):∃w,qc [.int n]=.ok (WD w) []/\uL n n w:=by
 have er:=rB n Qt;have c:aQ 1 (cQ [(af 0)]) (aD 1) (VP.ret true) df [.sh (.int n)]=.ok (WD ((List.range n).map fun(k:Nat)=>((0:Int),(k:Int),(1:Int)))) [.sh (.int n)]:=by refine gJ (fun(k:Nat)=>D.int k) (fun k=>pD (0,(k:Int),1)) (List.range n) aG (by simp;lia) (by simp[WD,Function.comp_def]) fun k hk acc=>?_;show df _=.ok (.tup [.int 0,.int (k:Int),.int 1]) _;unfold df;exact aG
 refine⟨(List.range n).map fun(k:Nat)=>((0:Int),(k:Int),(1:Int)),?_,Ro,fun p hp=>?_⟩;generalize (List.range n).map (fun(k:Nat)=>((0:Int),(k:Int),(1:Int)))=w at c;unfold qc Cz;exact rn;obtain⟨k,hk,rfl⟩:=List.mem_map.mp hp;have:=List.mem_range.mp hk;exact .inr ⟨Ro,by simp;lia⟩
theorem qO(x:Int):r8 [.int x]=.ok (pD (qR x)) []:=by show _=FR.ok (.tup [.int x,.int (-1),.int 0]) _;unfold r8 Cn;exact rn
theorem Q1i(m:Nat)(p:Int×Int×Int)(b st:Int)(h:-(2 ^ 64)<st)(h2:st<2 ^ 64)(hp:PY m p):∃p',rZ [pD p,.int b,.int st]=.ok (pD p') []/\PY m p':=by obtain⟨x,y,z⟩:=p;have m1:=nH st x h h2;have m2:=nH st z h h2;have s1:=qO (b+st*x);show ∃p',rZ [.tup [.int x,.int y,.int z],.int b,.int st]=_/\_;by_cases c:st*z=0;exact⟨qR (b+st*x),by unfold rZ yH;exact rn,yk _ _⟩;refine⟨(b+st*x,y,st*z),?_,hp⟩;show _=FR.ok (.tup [.int (b+st*x),.int y,.int (st*z)]) _;unfold rZ yH;exact rn
theorem moved(m n:Nat)(w:SF)(k:Nat)(b st:Int)(h:-(2 ^ 64)<st)(h2:st<2 ^ 64)(hk:k<n)(hw:uL m n w):∃w',sj [WD w,.int k,.int b,.int st]=.ok (WD w') []/\uL m n w':=by obtain⟨hl,hp⟩:=hw;obtain⟨p,XG⟩:∃p,w[k]?=some p:=⟨_,Nc Qt⟩;obtain⟨p',e,ok⟩:=Q1i m p b st h h2 (hp p (Ie XG));have i1:=VV w k p XG;have l1:=Rz w;have s1:=SM w k p' Qt;have il:isLst (some (WD w))=true:=rfl;refine⟨w.set k p',by unfold sj CG;exact rn,by simp[hl],fun x hx=>?_⟩;rcases List.mem_or_eq_of_mem_set hx with hx|rfl;exact hp x hx;exact ok
theorem turned(m n:Nat)(w:SF)(o:T1)(hw:uL m n w)(ho:∀x∈o,∃j:Nat,x=j/\j<n):∃w',zo [WD w,T o]=.ok (WD w') []/\uL m n w':=by
 have l1:=Rz w;have ez:oa [T o,WD w]=some ((o.zip w).map fun q=>.tup [.int q.1,pD q.2]):=by
  have h:∀(o:T1)(w:SF),List.zipWith (fun x y=>D.tup [x,y]) (o.map D.int) (w.map pD)=(o.zip w).map fun q=>.tup [.int q.1,pD q.2]:=by intro o;induction o with|nil=>intro w;rfl|cons x o ih=>intro w;cases w with|nil=>rfl|cons p w=>simp[ih]
  simp only[oa,uD,Oh,h]
 obtain⟨w',t,hP,ht,L⟩:=cP (g:=cz [3,4]) (body:=dN) (fun(q:Int×Int×Int×Int)=>D.tup [.int q.1,pD q.2]) (fun(v:SF)(t:Sl×Sl)=>[.sh (WD w),.sh (T o),.ow (WD v),t.1,t.2]) kM (o.zip w) (fun _ v=>uL m n v) w (.no,.no) ⟨rfl,rfl⟩ hw (by
  intro i q hq v t ht hP;obtain⟨t3,t4⟩:=t;obtain⟨f3,f4⟩:=ht;dsimp only at f3 f4;have hm:=Ie hq;obtain⟨x,p⟩:=q;obtain⟨j,rfl,hj⟩:=ho x (WA hm).1;have s1:=SM v j p (by rw[hP.1];exact hj);have il:isLst (some (WD v))=true:=rfl;refine⟨v.set j p,(.sh (.int j),.sh (pD p)),⟨by simp[hP.1],fun y hy=>?_⟩,⟨rfl,rfl⟩,?_⟩;rcases List.mem_or_eq_of_mem_set hy with hy|rfl;exact hP.2 y hy;exact hw.2 _ (WA hm).2;have e:cz [3,4] (.tup [.int (j:Int),pD p]) [.sh (WD w),.sh (T o),.ow (WD v),t3,t4]=.ok () [.sh (WD w),.sh (T o),.ow (WD v),.sh (.int j),.sh (pD p)]:=by simp[f3,f4]
  dsimp only;rw[bq,e,aA,show dN _=.ok .nx _ by unfold dN;exact aG];rfl)
 exact⟨w',by unfold zo CI;exact rn,hP⟩
theorem dropped(m n:Nat)(w:SF)(k:Nat)(x:Int)(hk:k<=n)(hn:n<=100)(hw:uL m n w):∃w',zl [WD w,.int k,.int x]=.ok (WD w') []/\uL m (n+1) w':=by obtain⟨hl,hp⟩:=hw;have c1:=JR w k Qt;have c2:=CU w k Qt;have s1:=qO x;have a1:a8 (WD (w.take k)) (.lst [pD (qR x)])=some (WD (w.take k++[qR x])):=addW (w.take k) [qR x] (by simp;lia);have a2:=addW (w.take k++[qR x]) (w.drop k) (by simp;lia);refine⟨_,by unfold zl CF;exact rn,by simp;lia,fun p h=>?_⟩;rcases List.mem_append.mp h with h|h;rcases List.mem_append.mp h with h|h;exact hp p (Nu h);rw[List.mem_singleton.mp h];exact yk _ _;exact hp p (G6 h)
theorem Jv(m n:Nat)(w:SF)(k:Nat)(hk:k<n)(hn:n<=100)(hw:uL m n w):∃w',zq [WD w,.int k]=.ok (WD w') []/\uL m (n-1) w':=by obtain⟨hl,hp⟩:=hw;have c1:=JR w k Qt;have c2:=CU w (k+1) Qt;rw[show (((k+1:Nat)):Int)=(k:Int)+1 by lia] at c2;have a2:=addW (w.take k) (w.drop (k+1)) (by simp;lia);refine⟨_,by unfold zq CJ;exact rn,by simp;lia,fun p h=>?_⟩;rcases List.mem_append.mp h with h|h;exact hp p (Nu h);exact hp p (G6 h)
theorem IY(m n:Nat)(w:SF)(s:T1)(hk:s.length<=n)(hn:n<=100)(hw:uL m n w):∃w',zm [WD w,T s]=.ok (WD w') []/\uL m s.length w':=by
 obtain⟨hl,hp⟩:=hw;have c1:=CU w (w.length-s.length) Pe;rw[show (((w.length-s.length:Nat)):Int)=(w.length:Int)-s.length by omega] at c1;have l1:=V2 w;have dl:(w.drop (w.length-s.length)).length=s.length:=by simp;omega
 have dp:∀p∈w.drop (w.length-s.length),PY m p:=fun p h=>hp p (G6 h);generalize w.drop (w.length-s.length)=v at *;have ez:oa [T s,WD v]=some ((s.zip v).map fun q=>.tup [.int q.1,pD q.2]):=by
  have h:∀(o:T1)(w:SF),List.zipWith (fun x y=>D.tup [x,y]) (o.map D.int) (w.map pD)=(o.zip w).map fun q=>.tup [.int q.1,pD q.2]:=by intro o;induction o with|nil=>intro w;rfl|cons x o ih=>intro w;cases w with|nil=>rfl|cons p w=>simp[ih]
  simp only[oa,uD,Oh,h]
 have s1:=qO 0;have c:aQ 2 (rp [(af 1),(af 2)]) (cz [3,4]) (VP.ret true) fW [.sh (WD w),.sh (T s),.sh (WD v)]=.ok (WD ((s.zip v).map fun q=>if q.1=1 then qR 0 else q.2)) [.sh (WD w),.sh (T s),.sh (WD v)]:=by refine Q01 (fun q:Int×Int×Int×Int=>D.int q.1) (fun q=>pD q.2) (fun q=>pD (if q.1=1 then qR 0 else q.2)) (s.zip v) aG (by simp;omega) (by simp[WD,Function.comp_def]) fun q hq acc=>?_;obtain⟨x,p⟩:=q;dsimp only;unfold fW;by_cases h:x=1;rw[Wr h];exact aG;rw[Uu h];exact aG
 refine⟨(s.zip v).map fun q=>if q.1=1 then qR 0 else q.2,?_,by simp;omega,fun p h=>?_⟩;generalize ((s.zip v).map fun q=>if q.1=1 then qR 0 else q.2)=u at c;unfold zm CH;exact rn;obtain⟨q,hq,rfl⟩:=List.mem_map.mp h;split;exact yk _ _;exact dp _ (WA hq).2
theorem Fm(s:T1)(h:SI s):∃xs,zi [T s]=.ok (T xs) []/\∀y∈xs,0<=y/\y<=16777216:=by
 have hl:=h.1;obtain⟨⟨xs,st⟩,t,⟨h1,h2,h3⟩,ht,L⟩:=cP (g:=aD 3) (body:=dM) D.int (fun(s':List Int×Int)(t:Sl)=>[.sh (T s),.ow (Z s'.1),.sh (.int s'.2),t]) vz s.reverse (fun k s'=>s'.1.length=k/\(0<=s'.2/\s'.2<=64 ^ k)/\∀y∈s'.1,0<=y/\y<=16777216) ([],1) .no rfl ⟨rfl,Ro,fun y hy=>by cases hy⟩ (by
  intro i y hy s' t ht hP;obtain⟨xs,st⟩:=s';obtain⟨p1,p2,p3⟩:=hP;dsimp only at p1 p2 p3;have hm:=h.2.1 y (List.mem_reverse.mp (Ie hy));have hi:=(List.getElem?_eq_some_iff.mp hy).1;simp at hi;have hf:free (some t)=true:=ht;have p4:=v8 (n:=i) Qt;have ap:=BS xs st Qt;have mu:=gP st y Qt Qt;refine⟨(xs++[st],st*y),.sh (.int y),⟨by simp[p1],⟨K7 p2.1 hm.1,?_⟩,fun z hz=>?_⟩,rfl,?_⟩;show st*y<=64 ^ (i+1);rw[Int.pow_succ];exact Int.mul_le_mul p2.2 Qt hm.1 Qt;rcases List.mem_append.mp hz with hz|hz;exact p3 z hz;rw[List.mem_singleton.mp hz];lia;have e:aD 3 (.int y) [.sh (T s),.ow (Z xs),.sh (.int st),t]=.ok () [.sh (T s),.ow (Z xs),.sh (.int st),.sh (.int y)]:=by simp[hf]
  dsimp only;rw[bq,e,aA,show dM _=.ok .nx _ by unfold dM;exact aG];rfl)
 dsimp only at L h3;have e1:(cq (T s)).map List.reverse=some (s.reverse.map D.int):=Ro;have e2:rz (Z xs)=some (T xs.reverse):=N9 xs;have z0:Z []=.lst []:=rfl;rw[z0] at L;exact⟨xs.reverse,by unfold zi CA;exact rn,fun y hy=>h3 y (List.mem_reverse.mp hy)⟩
theorem E7(m n:Nat)(w:SF)(xs:T1)(hw:uL m n w)(hm:m<=100)(hx:∀y∈xs,0<=y/\y<=16777216):∃(a:Int)(ys:T1),zc [WD w,T xs,.int m]=.ok (.tup [.int a,T ys]) []:=by
 have er:=rB m Qt;have c:aQ 1 (cQ [(af 2)]) (aD 7) (VP.ret true) fV [.sh (WD w),.sh (T xs),.sh (.int m),.sh (.int 0),.no,.no,.no]=.ok (Z (List.replicate m 0)) [.sh (WD w),.sh (T xs),.sh (.int m),.sh (.int 0),.no,.no,.no]:=by refine gJ (fun(k:Nat)=>D.int k) (fun _=>D.int 0) (List.range m) aG (by simp;lia) (by simp[Z,List.map_const']) fun k hk acc=>?_;unfold fV;exact aG
 have ez:oa [WD w,T xs]=some ((w.zip xs).map fun q=>.tup [pD q.1,.int q.2]):=by
  have h:∀(w:SF)(o:T1),List.zipWith (fun x y=>D.tup [x,y]) (w.map pD) (o.map D.int)=(w.zip o).map fun q=>.tup [pD q.1,.int q.2]:=by intro w;induction w with|nil=>intro o;rfl|cons x o ih=>intro w;cases w with|nil=>rfl|cons p w=>simp[ih]
  simp only[oa,uD,Oh,h]
 obtain⟨⟨a,ys⟩,t,hP,ht,L⟩:=cP (g:=cz [5,6]) (body:=cv) (fun(q:(Int×Int×Int)×Int)=>D.tup [pD q.1,.int q.2]) (fun(s:Int×List Int)(t:Sl×Sl)=>[.sh (WD w),.sh (T xs),.sh (.int m),.sh (.int s.1),.ow (Z s.2),t.1,t.2]) kM (w.zip xs) (fun _ s=>s.2.length=m) (0,List.replicate m 0) (.no,.no) ⟨rfl,rfl⟩ Ro (by
  intro i q hq s t ht hP;obtain⟨t3,t4⟩:=t;obtain⟨f3,f4⟩:=ht;obtain⟨a,ys⟩:=s;dsimp only at f3 f4 hP;have DG:=Ie hq;obtain⟨⟨x,y,z⟩,v⟩:=q;have hv:=hx v (WA DG).2;have hp:=hw.2 _ (WA DG).1;have m1:=gP x v Qt Qt;have m2:=gP z v Qt Qt;have e:cz [5,6] (.tup [pD (x,y,z),.int v]) [.sh (WD w),.sh (T xs),.sh (.int m),.sh (.int a),.ow (Z ys),t3,t4]=.ok () [.sh (WD w),.sh (T xs),.sh (.int m),.sh (.int a),.ow (Z ys),.sh (.tup [.int x,.int y,.int z]),.sh (.int v)]:=by simp[f3,f4,pD]
  have il:isLst (some (Z ys))=true:=rfl;by_cases h:y=-1;have ne:gD (.int y) (.int (-1))=some (.bl false):=by rw[du,WN h];rfl
  refine⟨(a+x*v,ys),(.sh (.tup [.int x,.int y,.int z]),.sh (.int v)),hP,⟨rfl,rfl⟩,?_⟩;dsimp only;rw[bq,e,aA,show cv _=.ok .nx _ by unfold cv;exact aG];rfl;have ne:gD (.int y) (.int (-1))=some (.bl true):=by rw[du,Nn h];rfl
  have hy:0<=y/\y<m:=by rcases hp with hp|hp;exact absurd hp h;exact hp
  have ix:au (Z ys) (.int y)=some (.int (ys.getD y.toNat 0)):=gx ys y hy.1 Qt;have st:=Ac ys y (ys.getD y.toNat 0+z*v) hy.1 Qt;refine⟨(a+x*v,ys.set y.toNat (ys.getD y.toNat 0+z*v)),(.sh (.tup [.int x,.int y,.int z]),.sh (.int v)),by simp[hP],⟨rfl,rfl⟩,?_⟩;dsimp only;rw[bq,e,aA,show cv _=.ok .nx _ by unfold cv;exact aG];rfl)
 exact⟨a,ys,by unfold zc Cr;exact rn⟩
inductive Tr where
 |gq (x:Int)|read (at_:Nat) (a:Int) (ys:T1)|one (d:Nat) (t:Tr)|both (d:Nat) (l r:Tr)|cU (a l r:Tr)|within (p:Int×Int×Int) (z:Int) (t:Tr) (x:Int)|joined (p:Int×Int×Int) (z:Int) (l r:Tr)
def Tr.d:Tr->D|.gq x=>.ins "Even" ["number"] [.int x]|.read n a ys=>.ins "Read" ["line","start","steps"] [.int n,.int a,T ys]|.one d t=>.ins "One" ["deed","inner"] [.str (nm d),t.d]|.both d l r=>.ins "Both" ["deed","left","right"] [.str (nm d),l.d,r.d]|.cU a l r=>.ins "Where" ["asked","left","right"] [a.d,l.d,r.d]|.within p z t x=>.ins "Within" ["part","size","inner","number"] [pD p,.int z,t.d,.int x]|.joined p z l r=>.ins "Joined" ["part","size","ahead","behind"] [pD p,.int z,l.d,r.d]
def Tr.rs:Tr->List Nat|.gq _=>[]|.read n _ _=>[n]|.one _ t=>t.rs|.both _ l r=>l.rs++r.rs|.cU a l r=>a.rs++l.rs++r.rs|.within _ _ t _=>t.rs|.joined _ _ l r=>l.rs++r.rs
def Tr.dep:Tr->Nat|.gq _=>1|.read _ _ _=>1|.one _ t=>t.dep+1|.both _ l r=>max l.dep r.dep+1|.cU a l r=>max a.dep (max l.dep r.dep)+1|.within _ _ t _=>t.dep+1|.joined _ _ l r=>max l.dep r.dep+1
theorem LX(x:D):Lk [.ins "Even" [] [],x]=.ok .bE [.ins "Even" ["number"] [x]]:=Z2
theorem L6(x y z:D):Dd [.ins "Read" [] [],x,y,z]=.ok .bE [.ins "Read" ["line","start","steps"] [x,y,z]]:=Z2
theorem Q5(x y:D):Lr [.ins "One" [] [],x,y]=.ok .bE [.ins "One" ["deed","inner"] [x,y]]:=Z2
theorem LV(x y z:D):Lj [.ins "Both" [] [],x,y,z]=.ok .bE [.ins "Both" ["deed","left","right"] [x,y,z]]:=Z2
theorem L7(x y z:D):Dg [.ins "Where" [] [],x,y,z]=.ok .bE [.ins "Where" ["asked","left","right"] [x,y,z]]:=Z2
theorem Q2j(x y z u:D):Dh [.ins "Within" [] [],x,y,z,u]=.ok .bE [.ins "Within" ["part","size","inner","number"] [x,y,z,u]]:=Z2
theorem DO(x y z u:D):Ln [.ins "Joined" [] [],x,y,z,u]=.ok .bE [.ins "Joined" ["part","size","ahead","behind"] [x,y,z,u]]:=Z2
def Wv(ls:SK)(ss:Rp)(kp:Ur)(m:Nat):D:=.ins "Weaver" ["program","sides","kept","many"] [Pg ls,ck ss,iN kp,.int m]
section
variable(ls:SK)(ss:Rp)(kp:Ur)(m:Nat)
theorem WU:aY i7 "program" (Wv ls ss kp m)=some (Pg ls):=Z2
theorem OS:aY cC "sides" (Wv ls ss kp m)=some (ck ss):=Z2
theorem Q2c:aY pC "kept" (Wv ls ss kp m)=some (iN kp):=Z2
theorem WT:aY pE "many" (Wv ls ss kp m)=some (.int m):=Z2
theorem Tj:jv "Weaver" "row_read" (Wv ls ss kp m)=true:=Z2
theorem Tn:jv "Weaver" "tree_made" (Wv ls ss kp m)=true:=Z2
theorem FG:jv "Weaver" "tree_named" (Wv ls ss kp m)=true:=Z2
theorem To:jv "Weaver" "tree_spread" (Wv ls ss kp m)=true:=Z2
theorem WO:jv "Weaver" "tree_shifted" (Wv ls ss kp m)=true:=Z2
theorem WQ:jv "Weaver" "tree_joined" (Wv ls ss kp m)=true:=Z2
theorem WR:jv "Weaver" "tree_viewed" (Wv ls ss kp m)=true:=Z2
theorem OR:yR [.ins "Weaver" [] [],Pg ls,ck ss,iN kp,.int m]=.ok .bE [Wv ls ss kp m]:=Z2
theorem row_read(at_ n:Nat)(w:SF)(s:T1)(hs:SI s)(hw:uL m n w)(hm:m<=100):∃a ys,vf [Wv ls ss kp m,.int at_,WD w,T s]=.ok (Tr.read at_ a ys).d []:=by obtain⟨xs,e1,hx⟩:=Fm s hs;obtain⟨a,ys,e2⟩:=E7 m n w xs hw hm hx;have e3:=WT ls ss kp m;have e4:=L6 (.int at_) (.int a) (T ys);have p1:=LA (.int a) (T ys);have p2:=IU (.int a) (T ys);refine⟨a,ys,?_⟩;unfold Tr.d vf BY;generalize Wv ls ss kp m=W at *;exact rn
inductive tu(ls:SK)(kp:Ur):Nat->Nat->Prop where
 |self {a:Nat} (h:kp[a]?=some true):tu ls kp a a|step {a b r:Nat} (h:kp[a]?=some false) (hb:b∈gQ ls a) (hr:tu ls kp b r):tu ls kp a r
theorem tu.kept{ls:SK}{kp:Ur}{a r:Nat}(h:kp[a]?=some true):tu ls kp a r<->r=a:=by
 constructor;intro z;cases z with|self _=>rfl|step h2=>rw[h] at h2;cases h2
 rintro rfl;exact .self h
def BK(ls:SK)(kp:Ur)(a r:Nat):Prop:=∃b∈gQ ls a,tu ls kp b r
structure Kp(ls:SK)(kp:Ur):Prop where
 len:kp.length=ls.length
 k4:∀i,uQ ls i->kd ls i∈[0,12,13,14]->kp[i]?=some true
 k2:∀i,uQ ls i->kd ls i∈[7,14]->∀a∈gQ ls i,kp[a]?=some true
 last:kp[ls.length-1]?=some true
 want:∀i,kp[i]?=some true->uQ ls i
def pz(n at_:Nat):Prop:=∀(m:Nat)(w:SF),uL m (sd ss at_).length w->m<=100->∃t:Tr,dZ n 0 [Wv ls ss kp m,.int at_,WD w]=.ok t.d []/\t.dep<=at_+1/\∀r,r∈t.rs<->tu ls kp at_ r
end
section
variable{gs:Rp}{ls:SK}{ss:Rp}{ix_:Nat}(g:Gd gs ls ss ix_){kp:Ur}(K:Kp ls kp)
theorem l5{i:Nat}(h:i<ls.length):ls[i]?=some (fX ls i):=by simp[fX,h]
include g
theorem uI{i:Nat}(h:i<ls.length):Told gs.length (sd gs) (sd ss) (fX ls i) (sd ss i):=g.told i _ (l5 h)
theorem oN{i:Nat}(h:i<ls.length):SI (sd ss i):=g.si.at (by have:=g.len;lia)
theorem qz{i b:Nat}(h:i<ls.length)(hb:b∈gQ ls i):b<i:=g.wf i _ (l5 h) b hb
theorem gE{n a k:Nat}(ha:a<ls.length)(N:pz ls ss kp n a)(m:Nat)(w:SF)(hw:uL m k w)(hk:(sd ss a).length<=k)(Vr:k<=100)(hm:m<=100):∃t:Tr,dZ (n+1) 3 [Wv ls ss kp m,.int a,WD w]=.ok t.d []/\t.dep<=a+1/\∀r,r∈t.rs<->tu ls kp a r:=by obtain⟨w',e,vJ⟩:=IY m k w (sd ss a) hk Vr hw;obtain⟨t,et,h1,h2⟩:=N m w' vJ hm;refine⟨t,?_,h1,h2⟩;have f1:=OS ls ss kp m;have f2:=FG ls ss kp m;have ia:=cE ss a (by have:=g.len;lia);show defn 3 [false,false,false] (yF (dZ n)) _=_;generalize Wv ls ss kp m=W at *;generalize t.d=td at *;generalize dZ n=wf at *;unfold yF;exact rn
def KQ(ls:SK)(ss:Rp)(kp:Ur)(n at_:Nat):Prop:=∀(m:Nat)(w:SF),uL m (sd ss at_).length w->m<=100->∃t:Tr,dZ n 1 [Wv ls ss kp m,.int at_,WD w]=.ok t.d []/\t.dep<=at_+1/\∀r,r∈t.rs<->BK ls kp at_ r
theorem Jt{n at_ a:Nat}(l:PL)(hl:fX ls at_=l)(oA:at_<ls.length)(hk:l.k=2\/l.k=3\/l.k=4\/l.k=5\/l.k=6)(ha:l.ns=[a])(N:∀n',n<=n'->pz ls ss kp n' a)(m:Nat)(w:SF)(hw:uL m (sd ss at_).length w)(hm:m<=100):∃t:Tr,dZ (n+2) 2 [Wv ls ss kp m,l.d,WD w]=.ok t.d []/\t.dep<=a+1/\∀r,r∈t.rs<->tu ls kp a r:=by
 have hT:=uI g oA;rw[hl] at hT;have hA:a<ls.length:=by have:=qz g oA (b:=a) (by unfold gQ;rw[hl,ha];simp);lia
 have sl:=(oN g oA).1;have sa:=(oN g hA).1;have f2:=FG ls ss kp m;have f4:=To ls ss kp m;cases l with|turn a' o=>simp only[PL.ns,List.cons.injEq,and_true] at ha;subst ha;obtain⟨h1,h2,h3⟩:=hT;rw[h3] at hw;simp only[List.length_map,h2] at hw;obtain⟨w',e,vJ⟩:=turned m _ w o hw fun x hx=>nV h1 hx;obtain⟨t,et,t1,t2⟩:=N (n+1) Qt m w' vJ hm;refine⟨t,?_,t1,t2⟩;show defn 4 [false,false,false] (jq (dZ (n+1))) [_,.tup [.str (nm 2),.int a',T o],_]=_;generalize Wv ls ss kp m=W at *;generalize t.d=td at *;generalize dZ (n+1)=wf at *;unfold jq;exact rn|cut a' k b st mm=>simp only[PL.ns,List.cons.injEq,and_true] at ha;subst ha;obtain⟨j,rfl,hj,h1,_,_,h3⟩:=hT;rw[h3] at hw;rw[show (rep (sd ss a') j mm).length=(sd ss a').length by simp[rep];lia] at hw;obtain⟨w',e,vJ⟩:=moved m _ w j b st Qt Qt hj hw;obtain⟨t,et,t1,t2⟩:=N (n+1) Qt m w' vJ hm;refine⟨t,?_,t1,t2⟩;show defn 4 [false,false,false] (jq (dZ (n+1))) [_,.tup [.str (nm 3),.int a',.int j,.int b,.int st,.int mm],_]=_;generalize Wv ls ss kp m=W at *;generalize t.d=td at *;generalize dZ (n+1)=wf at *;unfold jq;exact rn|drop a' k p=>simp only[PL.ns,List.cons.injEq,and_true] at ha;subst ha;obtain⟨j,rfl,hj,_,h3⟩:=hT;rw[h3] at hw;obtain⟨w',e,vJ⟩:=dropped m _ w j p (by simp[wo];lia) (by simp[wo];lia) hw;rw[show (wo (sd ss a') j).length+1=(sd ss a').length by simp[wo];lia] at vJ;obtain⟨t,et,t1,t2⟩:=N (n+1) Qt m w' vJ hm;refine⟨t,?_,t1,t2⟩;show defn 4 [false,false,false] (jq (dZ (n+1))) [_,.tup [.str (nm 4),.int a',.int j,.int p],_]=_;generalize Wv ls ss kp m=W at *;generalize t.d=td at *;generalize dZ (n+1)=wf at *;unfold jq;exact rn|wide a' k=>simp only[PL.ns,List.cons.injEq,and_true] at ha;subst ha;obtain⟨j,rfl,hj,h3⟩:=hT;rw[h3] at hw;obtain⟨w',e,vJ⟩:=Jv m _ w j (by simp[pin];lia) (by simp[pin];lia) hw;rw[show (pin (sd ss a') j 1).length-1=(sd ss a').length by simp[pin];lia] at vJ;obtain⟨t,et,t1,t2⟩:=N (n+1) Qt m w' vJ hm;refine⟨t,?_,t1,t2⟩;show defn 4 [false,false,false] (jq (dZ (n+1))) [_,.tup [.str (nm 5),.int a',.int j],_]=_;generalize Wv ls ss kp m=W at *;generalize t.d=td at *;generalize dZ (n+1)=wf at *;unfold jq;exact rn|spread a' u=>simp only[PL.ns,List.cons.injEq,and_true] at ha;subst ha;obtain⟨h1,h3⟩:=hT;have ml:=gO h1;rw[h3] at hw;obtain⟨t,et,t1,t2⟩:=gE g hA (N n Qt) m w hw Qt (by rw[<-h3];lia) hm;refine⟨t,?_,t1,t2⟩;show defn 4 [false,false,false] (jq (dZ (n+1))) [_,.tup [.str (nm 6),.int a',T u],_]=_;generalize Wv ls ss kp m=W at *;generalize t.d=td at *;generalize dZ (n+1)=wf at *;unfold jq;exact rn|_=>simp[PL.k] at hk
theorem zO{n at_:Nat}(oA:at_<ls.length)(hk:kd ls at_∉[0,12,13,14])(h7:kd ls at_=7->∀a∈gQ ls at_,kp[a]?=some true)(N:∀a∈gQ ls at_,∀n',n<=n'->pz ls ss kp n' a):KQ ls ss kp (n+3) at_:=by
 intro m w hw hm;have hT:=uI g oA;have oB:=fun b hb=>qz g oA (b:=b) hb;have hi:=vL ls at_ oA;have hs:=cE ss at_ (by have:=g.len;lia);have sl:=(oN g oA).1;have sL:=oN g oA;have f0:=WU ls ss kp m;have f1:=OS ls ss kp m;have f2:=FG ls ss kp m;have f4:=To ls ss kp m;have f5:=WO ls ss kp m;have f6:=WQ ls ss kp m;have f7:=WR ls ss kp m;have f8:=Tj ls ss kp m;unfold kd at hk h7;unfold gQ at N oB h7;unfold BK gQ;obtain⟨l,hl⟩:∃l,fX ls at_=l:=⟨_,rfl⟩;rw[hl] at hk N hT hi oB h7 ⊢;have vw:∀a,(l.k=2\/l.k=3\/l.k=4\/l.k=5\/l.k=6)->l.ns=[a]->∃t:Tr,defn 5 [false,false,false] (jo (dZ (n+2))) [Wv ls ss kp m,.int at_,WD w]=.ok t.d []/\t.dep<=at_+1/\∀r,r∈t.rs<->∃b∈l.ns,tu ls kp b r:=fun a h2 h3=>by
  have ha:=oB a (by rw[h3];simp);obtain⟨t,et,t1,t2⟩:=Jt g l hl oA h2 h3 (N a (by rw[h3];simp)) m w hw hm;refine⟨t,?_,Qt,fun r=>by rw[t2,h3];simp⟩;have k1:=l.kind;have VY:=l.Rj;have ne:∀j,j<32->l.k≠j->cn (.str (nm l.k)) (.str (nm j))=some (.bl false):=fun j hj h=>by rw[JT _ _ Qt hj,Nn h]
  have n1:=ne 1 Qt Qt;have n9:=ne 9 Qt Qt;have V9:=ne 10 Qt Qt;have n11:=ne 11 Qt Qt;have n8:=ne 8 Qt Qt;have n15:=ne 15 Qt Qt;have n7:=ne 7 Qt Qt;generalize Wv ls ss kp m=W at *;generalize l.d=ld at *;generalize t.d=td at *;generalize dZ (n+2)=wf at *;unfold jo;exact rn
 have rd:∀a,a∈l.ns->a<ls.length:=fun a ha=>by have:=oB a ha;lia
 have sa:∀a,a∈l.ns->au (ck ss) (.int (a:Int))=some (T (sd ss a)):=fun a ha=>cE ss a (by have:=rd a ha;have:=g.len;lia);show ∃t:Tr,defn 5 [false,false,false] (jo (dZ (n+2))) _=_/\_/\_;have zA:l.k≠0/\l.k≠12/\l.k≠13/\l.k≠14:=by simpa using hk
 cases l with
 |given j=>exact absurd rfl zA.1|fold d a k=>exact absurd rfl zA.2.1|run d a k=>exact absurd rfl zA.2.2.1|pick a k b=>exact absurd rfl zA.2.2.2|gq s x=>refine⟨.gq x,?_,by simp[Tr.dep],fun r=>by simp[Tr.rs,PL.ns]⟩;have e1:=LX (.int x);have hi:au (Pg ls) (.int (at_:Int))=some (.tup [.str (nm 1),T s,.int x]):=hi;unfold Tr.d;generalize Wv ls ss kp m=W at *;generalize dZ (n+2)=wf at *;unfold jo;exact rn|turn a o=>exact vw _ (by simp[PL.k]) rfl|cut a k b st mm=>exact vw _ (by simp[PL.k]) rfl|drop a k p=>exact vw _ (by simp[PL.k]) rfl|wide a k=>exact vw _ (by simp[PL.k]) rfl|spread a u=>exact vw _ (by simp[PL.k]) rfl|shape a u=>have ka:=h7 rfl a (by simp[PL.ns]);obtain⟨x,ys,e⟩:=row_read ls ss kp m a _ w (sd ss at_) sL hw hm;refine⟨.read a x ys,?_,by simp[Tr.dep],fun r=>by simp[Tr.rs,PL.ns,tu.kept ka]⟩;have hi:au (Pg ls) (.int (at_:Int))=some (.tup [.str (nm 7),.int a,T u]):=hi;generalize (Tr.read a x ys).d=td at *;generalize Wv ls ss kp m=W at *;generalize dZ (n+2)=wf at *;unfold jo;exact rn|shift a k by_ x=>
  have ha:=oB a (by simp[PL.ns]);have ia:=sa a (by simp[PL.ns]);obtain⟨j,rfl,hj,_,h3⟩:=hT;rw[h3] at hw;obtain⟨w',e,vJ⟩:=moved m _ w j (-by_) 1 Qt Qt hj hw;obtain⟨t,et,t1,t2⟩:=N a (by simp[PL.ns]) (n+1) Qt m w' vJ hm;obtain⟨p,hp⟩:∃p,w'[j]?=some p:=⟨_,Nc (by rw[vJ.1];exact hj)⟩;have i1:=VV w' j p hp;have i2:=tS (sd ss a) j hj;have e1:=Q2j (pD p) (.int ((sd ss a).getD j 0)) t.d (.int x);have sh:dZ (n+2) 4 [Wv ls ss kp m,.int a,.int j,.int by_,.int x,WD w]=.ok (Tr.within p ((sd ss a).getD j 0) t x).d []:=by show defn 7 [false,false,false,false,false,false] (yE (dZ (n+1))) _=.ok (.ins "Within" ["part","size","inner","number"] [pD p,.int ((sd ss a).getD j 0),t.d,.int x]) _;generalize Wv ls ss kp m=W at *;generalize t.d=td at *;generalize pD p=pd at *;generalize dZ (n+1)=wf at *;unfold yE;exact rn
  refine⟨.within p ((sd ss a).getD j 0) t x,?_,by simp only[Tr.dep];lia,fun r=>by simp[Tr.rs,PL.ns,t2]⟩;have hi:au (Pg ls) (.int (at_:Int))=some (.tup [.str (nm 8),.int a,.int j,.int by_,.int x]):=hi;generalize (Tr.within p ((sd ss a).getD j 0) t x).d=td at *;generalize Wv ls ss kp m=W at *;generalize dZ (n+2)=wf at *;unfold jo;exact rn
 |one d a=>have ha:=oB a (by simp[PL.ns]);obtain⟨_,h3⟩:=hT;rw[h3] at hw;obtain⟨t,et,t1,t2⟩:=N a (by simp[PL.ns]) (n+2) Qt m w hw hm;refine⟨.one d t,?_,by simp only[Tr.dep];lia,fun r=>by simp[Tr.rs,PL.ns,t2]⟩;have e1:=Q5 (.str (nm d)) t.d;have hi:au (Pg ls) (.int (at_:Int))=some (.tup [.str (nm 9),.str (nm d),.int a]):=hi;unfold Tr.d;generalize Wv ls ss kp m=W at *;generalize t.d=td at *;generalize dZ (n+2)=wf at *;unfold jo;exact rn|both d a b=>have ha:=oB a (by simp[PL.ns]);have hb:=oB b (by simp[PL.ns]);obtain⟨_,h3⟩:=hT;have ml:=gO h3;obtain⟨t,et,t1,t2⟩:=gE g Qt (N a (by simp[PL.ns]) (n+1) Qt) m w hw Qt Qt hm;obtain⟨u,eu,u1,u2⟩:=gE g Qt (N b (by simp[PL.ns]) (n+1) Qt) m w hw Qt Qt hm;refine⟨.both d t u,?_,by simp only[Tr.dep];lia,fun r=>by simp[Tr.rs,PL.ns,t2,u2]⟩;have e1:=LV (.str (nm d)) t.d u.d;have hi:au (Pg ls) (.int (at_:Int))=some (.tup [.str (nm 10),.str (nm d),.int a,.int b]):=hi;unfold Tr.d;generalize Wv ls ss kp m=W at *;generalize t.d=td at *;generalize u.d=ud at *;generalize dZ (n+1+1)=wf at *;unfold jo;exact rn|cU a b c=>have ha:=oB a (by simp[PL.ns]);have hb:=oB b (by simp[PL.ns]);have hc:=oB c (by simp[PL.ns]);obtain⟨v,h2,h3⟩:=hT;have ml:=gO h3;have ml2:=gO h2;obtain⟨t,et,t1,t2⟩:=gE g Qt (N a (by simp[PL.ns]) (n+1) Qt) m w hw Qt Qt hm;obtain⟨u,eu,u1,u2⟩:=gE g Qt (N b (by simp[PL.ns]) (n+1) Qt) m w hw Qt Qt hm;obtain⟨x,ex,x1,x2⟩:=gE g Qt (N c (by simp[PL.ns]) (n+1) Qt) m w hw Qt Qt hm;refine⟨.cU t u x,?_,by simp only[Tr.dep];lia,fun r=>by simp[Tr.rs,PL.ns,t2,u2,x2]⟩;have e1:=L7 t.d u.d x.d;have hi:au (Pg ls) (.int (at_:Int))=some (.tup [.str (nm 11),.int a,.int b,.int c]):=hi;unfold Tr.d;generalize Wv ls ss kp m=W at *;generalize t.d=td at *;generalize u.d=ud at *;generalize x.d=xd at *;generalize dZ (n+1+1)=wf at *;unfold jo;exact rn|join a b k=>
  have ha:=oB a (by simp[PL.ns]);have hb:=oB b (by simp[PL.ns]);have ia:=sa a (by simp[PL.ns]);obtain⟨j,rfl,hj,h2,_,h3⟩:=hT;rw[h3,show (rep (sd ss a) j ((sd ss a).getD j 0+(sd ss b).getD j 0)).length=(sd ss a).length by simp[rep];lia] at hw;obtain⟨w',e,vJ⟩:=moved m _ w j (-(sd ss a).getD j 0) 1 Qt Qt hj hw;obtain⟨t,et,t1,t2⟩:=N a (by simp[PL.ns]) (n+1) Qt m w hw hm;rw[h2] at vJ;obtain⟨u,eu,u1,u2⟩:=N b (by simp[PL.ns]) (n+1) Qt m w' vJ hm;obtain⟨p,hp⟩:∃p,w[j]?=some p:=⟨_,Nc (by rw[hw.1];exact hj)⟩;have i1:=VV w j p hp;have i2:=tS (sd ss a) j hj;generalize (sd ss a).getD j 0=z at *;have e1:=DO (pD p) (.int z) t.d u.d;have sh:dZ (n+2) 5 [Wv ls ss kp m,.int a,.int b,.int j,WD w]=.ok (Tr.joined p z t u).d []:=by show defn 7 [false,false,false,false,false] (yD (dZ (n+1))) _=.ok (.ins "Joined" ["part","size","ahead","behind"] [pD p,.int z,t.d,u.d]) _;generalize Wv ls ss kp m=W at *;generalize t.d=td at *;generalize u.d=ud at *;generalize pD p=pd at *;generalize dZ (n+1)=wf at *;unfold yD;exact rn
  refine⟨.joined p z t u,?_,by simp only[Tr.dep];lia,fun r=>by simp[Tr.rs,PL.ns,t2,u2]⟩;have hi:au (Pg ls) (.int (at_:Int))=some (.tup [.str (nm 15),.int a,.int b,.int j]):=hi;generalize (Tr.joined p z t u).d=td at *;generalize Wv ls ss kp m=W at *;generalize dZ (n+2)=wf at *;unfold jo;exact rn
include K
theorem vT:∀(at_:Nat),at_<ls.length->uQ ls at_->∀n,4*at_+4<=n->pz ls ss kp n at_:=by intro at_;induction at_ using Nat.strongRecOn with|_ at_ ih=>intro oA hr n hn m w hw hm;obtain⟨n,rfl⟩:∃n',n=n'+1:=⟨n-1,Qt⟩;obtain⟨b,hb⟩:∃b,kp[at_]?=some b:=⟨_,Nc (by rw[K.len];exact oA)⟩;have ib:=lL kp at_ b hb;have hs:=cE ss at_ (by have:=g.len;lia);have f1:=OS ls ss kp m;have f3:=Q2c ls ss kp m;have f4:=Tj ls ss kp m;have f5:=Tn ls ss kp m;show ∃t:Tr,defn 3 [false,false,false] (uY (dZ n)) _=_/\_/\_;cases b with|true=>obtain⟨x,ys,e⟩:=row_read ls ss kp m at_ _ w (sd ss at_) (oN g oA) hw hm;refine⟨.read at_ x ys,?_,by simp[Tr.dep],fun r=>by simp[Tr.rs,tu.kept hb]⟩;generalize (Tr.read at_ x ys).d=td at *;generalize Wv ls ss kp m=W at *;generalize dZ n=wf at *;unfold uY;exact rn|false=>obtain⟨n,rfl⟩:∃n',n=n'+3:=⟨n-3,Qt⟩;obtain⟨t,e,t1,t2⟩:=zO g oA (fun h=>by have:=K.k4 at_ hr h;rw[hb] at this;cases this) (fun h=>K.k2 at_ hr (by rw[h];simp)) (n:=n) (fun a ha n' DI=>by have oB:=qz g oA ha;exact ih a oB Qt (.step hr (l5 oA) ha) n' Qt) m w hw hm;refine⟨t,?_,t1,fun r=>?_⟩;generalize t.d=td at *;generalize Wv ls ss kp m=W at *;generalize dZ (n+3)=wf at *;unfold uY;exact rn;rw[t2];exact⟨fun ⟨b,h1,h2⟩=>.step hb h1 h2,fun z=>by cases z with|self h=>rw[hb] at h;cases h|step _ h1 h2=>exact⟨_,h1,h2⟩⟩
end
theorem Tr.ki:∀t:Tr,t.rs.length<=3 ^ t.dep|.gq _=>by simp[Tr.rs]|.read _ _ _=>by simp[Tr.rs,Tr.dep]|.one _ t=>by have:=t.ki;simp only[Tr.rs,Tr.dep,Nat.pow_succ];lia|.within _ _ t _=>by have:=t.ki;simp only[Tr.rs,Tr.dep,Nat.pow_succ];lia|.both _ l r=>by have h1:=l.ki;have h2:=r.ki;have k1:=Gw (n:=3) Qt (Nv l.dep r.dep);have k2:=Gw (n:=3) Qt (A7 l.dep r.dep);simp only[Tr.rs,Tr.dep,Nat.pow_succ,List.length_append];lia|.joined _ _ l r=>by have h1:=l.ki;have h2:=r.ki;have k1:=Gw (n:=3) Qt (Nv l.dep r.dep);have k2:=Gw (n:=3) Qt (A7 l.dep r.dep);simp only[Tr.rs,Tr.dep,Nat.pow_succ,List.length_append];lia|.cU a l r=>by have h0:=a.ki;have h1:=l.ki;have h2:=r.ki;have k0:=Gw (n:=3) Qt (Nv a.dep (max l.dep r.dep));have k1:=Gw (n:=3) Qt (WH (Nv l.dep r.dep) (A7 a.dep (max l.dep r.dep)));have k2:=Gw (n:=3) Qt (WH (A7 l.dep r.dep) (A7 a.dep (max l.dep r.dep)));simp only[Tr.rs,Tr.dep,Nat.pow_succ,List.length_append];lia
theorem Gh(xs ys:Ue)(h:xs.length+ys.length<=16777216):a8 (bN xs) (bN ys)=some (bN (xs++ys)):=by unfold bN;rw[lJ _ _ (by simpa[jn] using h),BN]
theorem qI{n:Nat}(h:n<=14):3 ^ n<=4782969:=Gw (n:=3) Qt h
theorem IB:∀(t:Tr)(n:Nat),t.dep<=n->t.dep<=14->wQ n 0 [t.d]=.ok (bN t.rs) []:=by intro t;induction t with|gq x=>intro n hn _;obtain⟨n,rfl⟩:∃k,n=k+1:=⟨n-1,by simp only[Tr.dep] at hn;lia⟩;kernel_rfl!|read a x ys=>intro n hn _;obtain⟨n,rfl⟩:∃k,n=k+1:=⟨n-1,by simp only[Tr.dep] at hn;lia⟩;kernel_rfl!|one d t ih=>intro n hn i9;simp only[Tr.dep] at hn i9;obtain⟨n,rfl⟩:∃k,n=k+1:=⟨n-1,Qt⟩;have e:=ih n Qt Qt;have i1:a9 eL (Tr.one d t).d=some (.bl false):=Z2;have i2:a9 cb (Tr.one d t).d=some (.bl true):=Z2;have f1:aY eJ "inner" (Tr.one d t).d=some t.d:=Z2;show defn 1 [false] (jr (wQ n)) _=.ok (bN t.rs) _;generalize (Tr.one d t).d=x at *;generalize t.d=td at *;generalize wQ n=wf at *;unfold jr;exact rn|within p z t y ih=>intro n hn i9;simp only[Tr.dep] at hn i9;obtain⟨n,rfl⟩:∃k,n=k+1:=⟨n-1,Qt⟩;have e:=ih n Qt Qt;have i1:a9 eL (Tr.within p z t y).d=some (.bl false):=Z2;have i2:a9 cb (Tr.within p z t y).d=some (.bl true):=Z2;have f1:aY eJ "inner" (Tr.within p z t y).d=some t.d:=Z2;show defn 1 [false] (jr (wQ n)) _=.ok (bN t.rs) _;generalize (Tr.within p z t y).d=x at *;generalize t.d=td at *;generalize wQ n=wf at *;unfold jr;exact rn|both d l r Q8 Q9=>intro n hn i9;simp only[Tr.dep] at hn i9;obtain⟨n,rfl⟩:∃k,n=k+1:=⟨n-1,Qt⟩;have e1:=Q8 n Qt Qt;have e2:=Q9 n Qt Qt;have i1:a9 eL (Tr.both d l r).d=some (.bl false):=Z2;have i2:a9 cb (Tr.both d l r).d=some (.bl false):=Z2;have i3:a9 cD (Tr.both d l r).d=some (.bl true):=Z2;have f1:aY fH "left" (Tr.both d l r).d=some l.d:=Z2;have f2:aY dE "right" (Tr.both d l r).d=some r.d:=Z2;have k1:=l.ki;have k2:=r.ki;have p1:=qI (n:=l.dep) Qt;have p2:=qI (n:=r.dep) Qt;have ad:=Gh l.rs r.rs Qt;show defn 1 [false] (jr (wQ n)) _=.ok (bN (l.rs++r.rs)) _;generalize (Tr.both d l r).d=x at *;generalize l.d=ld at *;generalize r.d=rd at *;generalize wQ n=wf at *;unfold jr;exact rn|cU a l r ZA Q8 Q9=>intro n hn i9;simp only[Tr.dep] at hn i9;obtain⟨n,rfl⟩:∃k,n=k+1:=⟨n-1,Qt⟩;have e0:=ZA n Qt Qt;have e1:=Q8 n Qt Qt;have e2:=Q9 n Qt Qt;have i1:a9 eL (Tr.cU a l r).d=some (.bl false):=Z2;have i2:a9 cb (Tr.cU a l r).d=some (.bl false):=Z2;have i3:a9 cD (Tr.cU a l r).d=some (.bl false):=Z2;have i4:a9 bY (Tr.cU a l r).d=some (.bl true):=Z2;have f0:aY iE "asked" (Tr.cU a l r).d=some a.d:=Z2;have f1:aY fH "left" (Tr.cU a l r).d=some l.d:=Z2;have f2:aY dE "right" (Tr.cU a l r).d=some r.d:=Z2;have k0:=a.ki;have k1:=l.ki;have k2:=r.ki;have p0:=qI (n:=a.dep) Qt;have p1:=qI (n:=l.dep) Qt;have p2:=qI (n:=r.dep) Qt;have ad:=Gh a.rs l.rs Qt;have ad2:=Gh (a.rs++l.rs) r.rs (by simp;lia);show defn 1 [false] (jr (wQ n)) _=.ok (bN (a.rs++l.rs++r.rs)) _;generalize (Tr.cU a l r).d=x at *;generalize a.d=ad at *;generalize l.d=ld at *;generalize r.d=rd at *;generalize wQ n=wf at *;unfold jr;exact rn|joined p z l r Q8 Q9=>intro n hn i9;simp only[Tr.dep] at hn i9;obtain⟨n,rfl⟩:∃k,n=k+1:=⟨n-1,Qt⟩;have e1:=Q8 n Qt Qt;have e2:=Q9 n Qt Qt;have i1:a9 eL (Tr.joined p z l r).d=some (.bl false):=Z2;have i2:a9 cb (Tr.joined p z l r).d=some (.bl false):=Z2;have i3:a9 cD (Tr.joined p z l r).d=some (.bl false):=Z2;have i4:a9 bY (Tr.joined p z l r).d=some (.bl false):=Z2;have i5:a9 b9 (Tr.joined p z l r).d=some (.bl true):=Z2;have f1:aY iD "ahead" (Tr.joined p z l r).d=some l.d:=Z2;have f2:aY gB "behind" (Tr.joined p z l r).d=some r.d:=Z2;have k1:=l.ki;have k2:=r.ki;have p1:=qI (n:=l.dep) Qt;have p2:=qI (n:=r.dep) Qt;have ad:=Gh l.rs r.rs Qt;show defn 1 [false] (jr (wQ n)) _=.ok (bN (l.rs++r.rs)) _;generalize (Tr.joined p z l r).d=x at *;generalize l.d=ld at *;generalize r.d=rd at *;generalize wQ n=wf at *;unfold jr;exact rn
def Tr.kids:Tr->List Tr|.gq _=>[]|.read _ _ _=>[]|.one _ t=>[t]|.both _ l r=>[l,r]|.cU a l r=>[l,r,a]|.within _ _ t _=>[t]|.joined _ _ l r=>[l,r]
def kF(ts:List Tr):D:=.lst (ts.map Tr.d)
theorem rK(xs ys:List Tr)(h:xs.length+ys.length<=16777216):a8 (kF xs) (kF ys)=some (kF (xs++ys)):=by unfold kF;rw[lJ _ _ (by simpa[jn] using h),BN]
theorem VU(ts:List Tr)(k:Nat)(t:Tr)(h:ts[k]?=some t):au (kF ts) (.int (k:Int))=some t.d:=by unfold kF;rw[kj];exact lh _ _ _ Qt (by simp[h])
theorem Kk(ts:List Tr):bz (kF ts)=some (.int ts.length):=by simp[kF]
theorem Q0D(x:D)(ts:List Tr)(k:Nat)(t:Tr)(h:ts[k]?=some t)(hl:ts.length<=10000000)(s:Sl)(hs:free (some s)=true):bG [.sh x,.sh (kF ts),.sh (.int k),s]=.ok .nx [.sh x,.sh (kF (ts++t.kids)),.sh (.int k),.sh t.d]:=by have hk:=(List.getElem?_eq_some_iff.mp h).1;have ix:=VU ts k t h;have ln:=Kk ts;have c:¬(k:Int)=ts.length:=Qt;cases t with|gq x=>have i1:a9 gu (Tr.gq x).d=some (.bl false):=Z2;have i2:a9 dq (Tr.gq x).d=some (.bl false):=Z2;have i3:a9 cD (Tr.gq x).d=some (.bl false):=Z2;have i4:a9 bY (Tr.gq x).d=some (.bl false):=Z2;have i5:a9 b9 (Tr.gq x).d=some (.bl false):=Z2;rw[show (Tr.gq x).kids=[] from rfl,MF];generalize (Tr.gq x).d=td at *;unfold bG;exact aG|read a x ys=>have i1:a9 gu (Tr.read a x ys).d=some (.bl false):=Z2;have i2:a9 dq (Tr.read a x ys).d=some (.bl false):=Z2;have i3:a9 cD (Tr.read a x ys).d=some (.bl false):=Z2;have i4:a9 bY (Tr.read a x ys).d=some (.bl false):=Z2;have i5:a9 b9 (Tr.read a x ys).d=some (.bl false):=Z2;rw[show (Tr.read a x ys).kids=[] from rfl,MF];generalize (Tr.read a x ys).d=td at *;unfold bG;exact aG|one d t=>have i1:a9 gu (Tr.one d t).d=some (.bl true):=Z2;have i2:a9 cD (Tr.one d t).d=some (.bl false):=Z2;have i3:a9 bY (Tr.one d t).d=some (.bl false):=Z2;have i4:a9 b9 (Tr.one d t).d=some (.bl false):=Z2;have YE:aY eJ "inner" (Tr.one d t).d=some t.d:=Z2;have a1:a8 (kF ts) (.lst [t.d])=some (kF (ts++[t])):=rK ts [t] (by simp;lia);rw[show ts++[t]=ts++(Tr.one d t).kids from rfl] at a1;generalize ts++(Tr.one d t).kids=Uy at *;generalize (Tr.one d t).d=td at *;generalize t.d=td at *;unfold bG;exact aG|within p z t y=>have i1:a9 gu (Tr.within p z t y).d=some (.bl false):=Z2;have i2:a9 dq (Tr.within p z t y).d=some (.bl true):=Z2;have i3:a9 cD (Tr.within p z t y).d=some (.bl false):=Z2;have i4:a9 bY (Tr.within p z t y).d=some (.bl false):=Z2;have i5:a9 b9 (Tr.within p z t y).d=some (.bl false):=Z2;have YE:aY eJ "inner" (Tr.within p z t y).d=some t.d:=Z2;have a1:a8 (kF ts) (.lst [t.d])=some (kF (ts++[t])):=rK ts [t] (by simp;lia);rw[show ts++[t]=ts++(Tr.within p z t y).kids from rfl] at a1;generalize ts++(Tr.within p z t y).kids=Uy at *;generalize (Tr.within p z t y).d=td at *;generalize t.d=td at *;unfold bG;exact aG|both d l r=>have i1:a9 gu (Tr.both d l r).d=some (.bl false):=Z2;have i2:a9 dq (Tr.both d l r).d=some (.bl false):=Z2;have i3:a9 cD (Tr.both d l r).d=some (.bl true):=Z2;have i4:a9 bY (Tr.both d l r).d=some (.bl false):=Z2;have i5:a9 b9 (Tr.both d l r).d=some (.bl false):=Z2;have Xc:aY fH "left" (Tr.both d l r).d=some l.d:=Z2;have Xd:aY dE "right" (Tr.both d l r).d=some r.d:=Z2;have a1:a8 (kF ts) (.lst [l.d,r.d])=some (kF (ts++[l,r])):=rK ts [l,r] (by simp;lia);rw[show ts++[l,r]=ts++(Tr.both d l r).kids from rfl] at a1;generalize ts++(Tr.both d l r).kids=Uy at *;generalize (Tr.both d l r).d=td at *;generalize l.d=ld at *;generalize r.d=rd at *;unfold bG;exact aG|cU a l r=>have i1:a9 gu (Tr.cU a l r).d=some (.bl false):=Z2;have i2:a9 dq (Tr.cU a l r).d=some (.bl false):=Z2;have i3:a9 cD (Tr.cU a l r).d=some (.bl false):=Z2;have i4:a9 bY (Tr.cU a l r).d=some (.bl true):=Z2;have i5:a9 b9 (Tr.cU a l r).d=some (.bl false):=Z2;have Xc:aY fH "left" (Tr.cU a l r).d=some l.d:=Z2;have Xd:aY dE "right" (Tr.cU a l r).d=some r.d:=Z2;have f_a:aY iE "asked" (Tr.cU a l r).d=some a.d:=Z2;have a1:a8 (kF ts) (.lst [l.d,r.d])=some (kF (ts++[l,r])):=rK ts [l,r] (by simp;lia);have a2:a8 (kF (ts++[l,r])) (.lst [a.d])=some (kF (ts++[l,r]++[a])):=rK (ts++[l,r]) [a] (by simp;lia);rw[show ts++[l,r]++[a]=ts++(Tr.cU a l r).kids by simp[Tr.kids]] at a2;generalize ts++(Tr.cU a l r).kids=Uy at *;generalize (Tr.cU a l r).d=td at *;generalize l.d=ld at *;generalize r.d=rd at *;generalize a.d=ad at *;unfold bG;exact aG|joined p z l r=>have i1:a9 gu (Tr.joined p z l r).d=some (.bl false):=Z2;have i2:a9 dq (Tr.joined p z l r).d=some (.bl false):=Z2;have i3:a9 cD (Tr.joined p z l r).d=some (.bl false):=Z2;have i4:a9 bY (Tr.joined p z l r).d=some (.bl false):=Z2;have i5:a9 b9 (Tr.joined p z l r).d=some (.bl true):=Z2;have Xc:aY iD "ahead" (Tr.joined p z l r).d=some l.d:=Z2;have Xd:aY gB "behind" (Tr.joined p z l r).d=some r.d:=Z2;have a1:a8 (kF ts) (.lst [l.d,r.d])=some (kF (ts++[l,r])):=rK ts [l,r] (by simp;lia);rw[show ts++[l,r]=ts++(Tr.joined p z l r).kids from rfl] at a1;generalize ts++(Tr.joined p z l r).kids=Uy at *;generalize (Tr.joined p z l r).d=td at *;generalize l.d=ld at *;generalize r.d=rd at *;unfold bG;exact aG
theorem AS{S Tm A:Type}{g:D->M Unit}{body:M Fl}(mk:A->D)(R:S->Tm->aS)(ok:Tm->Prop)(Q:D->aS->Prop):∀(as:List A)(P:Nat->S->Prop)(s:S)(t:Tm),ok t->P 0 s ->
  (∀(i:Nat)(a:A),as[i]?=some a->∀s t,ok t->P i s->(∃s' t',P (i+1) s'/\ok t'/\bq g body (mk a) (R s t)=.ok .nx (R s' t'))\/∃d r,Q d r/\bq g body (mk a) (R s t)=.ok (.rt d) r) ->
  (∃s' t',P as.length s'/\ok t'/\loop g body (as.map mk) (R s t)=.ok .nx (R s' t'))\/∃d r,Q d r/\loop g body (as.map mk) (R s t)=.ok (.rt d) r:=by
 intro as;induction as with
 |nil=>intro P s t ht hs _;exact .inl ⟨s,t,hs,ht,rfl⟩|cons a as ih=>
  intro P s t ht hs h;have tl:∀r,loop g body (mk a::as.map mk) r=(bq g body (mk a) r).turn (loop g body (as.map mk)):=fun r=>by rw[nz,bq];cases g (mk a) r<;>rfl
  rcases h 0 a rfl s t ht hs with ⟨s1,t1,p1,o1,e1⟩|⟨d,r,q,e⟩
  rw[P6,tl,e1,Q0h];exact ih (fun k=>P (k+1)) s1 t1 o1 p1 fun i a' ha=>h (i+1) a' (by simpa using ha);exact .inr ⟨d,r,q,by rw[P6,tl,e,Q0C]⟩
theorem L0(x y z:D):Lo [.ins "Load" [] [],x,y,z]=.ok .bE [.ins "Load" ["line","sides","table"] [x,y,z]]:=Z2
theorem LY(x y z:D):Ll [.ins "Fill" [] [],x,y,z]=.ok .bE [.ins "Fill" ["line","sides","tree"] [x,y,z]]:=Z2
theorem Q0r(x y a b c z:D):Lm [.ins "Fold" [] [],x,y,a,b,c,z]=.ok .bE [.ins "Fold" ["line","sides","side","size","deed","tree"] [x,y,a,b,c,z]]:=Z2
theorem AL(x y a b z:D):De [.ins "Through" [] [],x,y,a,b,z]=.ok .bE [.ins "Through" ["line","sides","side","deed","tree"] [x,y,a,b,z]]:=Z2
theorem Q2L(x y a b c z:D):Ls [.ins "Pick" [] [],x,y,a,b,c,z]=.ok .bE [.ins "Pick" ["line","sides","side","source","places","source_sides"] [x,y,a,b,c,z]]:=Z2
def Tr.isR:Tr->Bool|.read _ _ _=>true|_=>false
def Tr.at_:Tr->Nat|.read n _ _=>n|_=>0
theorem Tr.ZD(t:Tr):a9 eL t.d=some (.bl t.isR):=by cases t<;>kernel_rfl!
theorem Tr.line(t:Tr)(h:t.isR=true):aY cA "line" t.d=some (.int t.at_):=by cases t with|read n a ys=>kernel_rfl!|_=>cases h
def Tr.sz:Tr->Nat|.gq _=>1|.read _ _ _=>1|.one _ t=>t.sz+1|.both _ l r=>l.sz+r.sz+1|.cU a l r=>a.sz+l.sz+r.sz+1|.within _ _ t _=>t.sz+1|.joined _ _ l r=>l.sz+r.sz+1
theorem Tr.kU:∀t:Tr,2*t.sz+1<=3 ^ t.dep|.gq _=>by simp[Tr.sz,Tr.dep]|.read _ _ _=>by simp[Tr.sz,Tr.dep]|.one _ t=>by have:=t.kU;simp only[Tr.sz,Tr.dep,Nat.pow_succ];lia|.within _ _ t _=>by have:=t.kU;simp only[Tr.sz,Tr.dep,Nat.pow_succ];lia|.both _ l r=>by have h1:=l.kU;have h2:=r.kU;have k1:=Gw (n:=3) Qt (Nv l.dep r.dep);have k2:=Gw (n:=3) Qt (A7 l.dep r.dep);simp only[Tr.sz,Tr.dep,Nat.pow_succ];lia|.joined _ _ l r=>by have h1:=l.kU;have h2:=r.kU;have k1:=Gw (n:=3) Qt (Nv l.dep r.dep);have k2:=Gw (n:=3) Qt (A7 l.dep r.dep);simp only[Tr.sz,Tr.dep,Nat.pow_succ];lia|.cU a l r=>by have h0:=a.kU;have h1:=l.kU;have h2:=r.kU;have k0:=Gw (n:=3) Qt (Nv a.dep (max l.dep r.dep));have k1:=Gw (n:=3) Qt (WH (Nv l.dep r.dep) (A7 a.dep (max l.dep r.dep)));have k2:=Gw (n:=3) Qt (WH (A7 l.dep r.dep) (A7 a.dep (max l.dep r.dep)));simp only[Tr.sz,Tr.dep,Nat.pow_succ];lia
theorem Tr.Mi(t:Tr):(t.kids.map Tr.sz).sum+1=t.sz:=by cases t<;>simp[Tr.kids,Tr.sz]<;>lia
theorem Tr.Oc(t:Tr)(r:Nat):r∈t.rs<->(t.isR=true/\t.at_=r)\/∃s∈t.kids,r∈s.rs:=by cases t<;>simp[Tr.kids,Tr.rs,Tr.isR,Tr.at_,eq_comm,or_assoc,or_comm,or_left_comm]
theorem Et(t:Tr)(hd:t.dep<=13):∃ts:List Tr,vk [t.d]=.ok (kF ts) []/\ts.length<=16777216/\∀r,r∈t.rs<->∃s∈ts,s.isR=true/\s.at_=r:=by
 have hz:=t.kU;have hp:3 ^ t.dep<=3 ^ 13:=Gw (n:=3) Qt hd;have er:rA [.int 1000000]=some ((List.range 1000000).map fun(k:Nat)=>.int k):=mw _ _ rfl Qt Qt;have pw:Ii (.int 10) (.int 6)=some (.int 1000000):=rfl;have l0:D.lst [t.d]=kF [t]:=rfl;rcases AS (g:=aD 2) (body:=bG) (fun(k:Nat)=>D.int k) (fun(ts:List Tr)(s:Sl×Sl)=>[.sh t.d,.sh (kF ts),s.1,s.2]) kM (fun d q=>(∃ts:List Tr,d=kF ts/\ts.length<=16777216/\∀r,r∈t.rs<->∃s∈ts,s.isR=true/\s.at_=r)/\∃s q',q=s::q') (List.range 1000000) (fun k ts=>k<=ts.length/\ts.length<=3*k+1/\k+((ts.drop k).map Tr.sz).sum=t.sz/\∀r,r∈t.rs<->(∃s∈ts.take k,s.isR=true/\s.at_=r)\/∃s∈ts.drop k,r∈s.rs) [t] (.no,.no) ⟨rfl,rfl⟩ ⟨Ro,Ro,Ro,fun r=>Ro⟩ (by
  intro i k hk ts s hs hP;obtain⟨rfl,hk⟩:=cR hk;obtain⟨s2,s3⟩:=s;obtain⟨g2,g3⟩:=hs;obtain⟨p1,p2,p3,p4⟩:=hP;dsimp only at g2 g3;have e:aD 2 (.int (k:Int)) [.sh t.d,.sh (kF ts),s2,s3]=.ok () [.sh t.d,.sh (kF ts),.sh (.int k),s3]:=by simp[g2]
  by_cases p5:k<ts.length;obtain⟨u,hu⟩:∃u,ts[k]?=some u:=⟨_,Nc p5⟩;have nt:=Q0D t.d ts k u hu Qt s3 g3;have kl:u.kids.length<=3/\(ts++u.kids).length=ts.length+u.kids.length:=⟨by cases u<;>simp[Tr.kids],Ro⟩;have d1:ts.drop k=u::ts.drop (k+1):=by rw[Bv p5,(List.getElem?_eq_some_iff.mp hu).2]
  have d2:(ts++u.kids).drop (k+1)=ts.drop (k+1)++u.kids:=List.drop_append_of_le_length Qt;have d3:(ts++u.kids).take (k+1)=ts.take k++[u]:=by rw[List.take_append_of_le_length Qt,List.take_add_one,hu];rfl
  have kz:=u.Mi;refine .inl ⟨ts++u.kids,(.sh (.int k),.sh u.d),⟨Qt,Qt,?_,fun r=>?_⟩,⟨rfl,rfl⟩,by rw[bq,e,aA];exact nt⟩;rw[d1,P6,List.sum_cons] at p3;rw[d2,BN,List.sum_append_nat];lia;rw[p4 r,d1,d2,d3];simp only[List.mem_cons,List.mem_append,List.not_mem_nil,or_false,or_and_right,exists_or,exists_eq_left,u.Oc r];simp only[or_assoc,or_comm,or_left_comm];refine .inr ⟨kF ts,[.sh t.d,.sh (kF ts),.sh (.int k),s3],⟨⟨ts,rfl,Qt,fun r=>?_⟩,_,_,rfl⟩,?_⟩;rw[p4 r,HY Qt,List.drop_eq_nil_of_le Qt];simp;rw[bq,e,aA];have ln:=Kk ts;have c:(k:Int)=ts.length:=Qt;generalize t.d=td at *;generalize kF ts=Z6 at *;unfold bG;exact aG) with ⟨ts,s,⟨_,_,hm,_⟩,_,L⟩|⟨d,r,⟨⟨ts,rfl,hQ⟩,s,q,rfl⟩,L⟩
 rw[LZ] at hm;lia;refine⟨ts,?_,hQ⟩;rw[<-l0] at L;dsimp only at L;generalize t.d=td at *;generalize kF ts=Z6 at *;generalize (List.range 1000000).map (fun(k:Nat)=>D.int k)=ds at *;unfold vk Cb;exact rn
theorem AQ(x:D)(t:Tr)(h1:a9 iG x=some (.bl false))(h2:a9 iH x=some (.bl false))(h3:aY fI "tree" x=some t.d)(hd:t.dep<=13):∃rs,ou [x]=.ok (bN rs) []/\∀r,r∈rs<->r∈t.rs:=by
 obtain⟨ts,e,hl,hr⟩:=Et t hd;have sq:cq (kF ts)=some (ts.map Tr.d):=rfl;have c:aQ 1 (cJ (az vk [.val (m1 (aY fI "tree") (af 0))])) (aD 1) ff eZ [.sh x]=.ok (bN ((ts.filter Tr.isR).map Tr.at_)) [.sh x]:=by refine pY Tr.d Tr.isR (fun t=>D.int (t.at_:Nat)) ts ?_ hl (by simp[bN,Function.comp_def]) (fun s _ acc=>?_) fun s _ hs acc=>?_;generalize t.d=td at *;exact aG;have i:=s.ZD;generalize s.d=sd at *;generalize s.isR=b at *;unfold ff;exact aG;have i:=s.line hs;generalize s.d=sd at *;unfold eZ;exact aG
 refine⟨(ts.filter Tr.isR).map Tr.at_,?_,fun r=>?_⟩;generalize (ts.filter Tr.isR).map Tr.at_=rs at c;unfold ou Cd;exact rn;rw[hr r];simp[and_assoc]
theorem Q2a(x:D)(t:Tr)(h1:a9 iG x=some (.bl false))(h2:a9 iH x=some (.bl false))(h3:aY fI "tree" x=some t.d)(hd:t.dep<=14):qb [x]=.ok (bN t.rs) []:=by have e:Dj [t.d]=.ok (bN t.rs) []:=IB t 64 Qt hd;generalize t.d=td at *;unfold qb Cj;exact rn
structure wW(ls:SK)(ss:Rp)(kp:Ur)(a:Nat)(x:D):Prop where
 line:aY cA "line" x=some (.int a)
 SO:aY cC "sides" x=some (T (sd ss a))
 own:∃rs,qb [x]=.ok (bN rs) []/\∀r,r∈rs<->BK ls kp a r
 V0:∃rs,ou [x]=.ok (bN rs) []/\∀r,r∈rs<->BK ls kp a r
theorem nA{ls:SK}{ss:Rp}{kp:Ur}{a:Nat}{x:D}(t:Tr)(h0:aY cA "line" x=some (.int a))(hs:aY cC "sides" x=some (T (sd ss a)))(h1:a9 iG x=some (.bl false))(h2:a9 iH x=some (.bl false))(h3:aY fI "tree" x=some t.d)(hd:t.dep<=13)(hr:∀r,r∈t.rs<->BK ls kp a r):wW ls ss kp a x:=by obtain⟨rs,e,h⟩:=AQ x t h1 h2 h3 hd;exact⟨h0,hs,⟨_,Q2a x t h1 h2 h3 Qt,hr⟩,⟨rs,e,fun r=>(h r).trans (hr r)⟩⟩
section
variable{gs:Rp}{ls:SK}{ss:Rp}{ix_:Nat}(g:Gd gs ls ss ix_){kp:Ur}(K:Kp ls kp)(i9:ls.length<=13)
include g K i9
theorem xG(a:Nat)(ha:kp[a]?=some true):∃x,lT [Pg ls,ck ss,iN kp,.int a]=.ok x []/\wW ls ss kp a x:=by
 have hr:=K.want a ha;have oA:=hr.lt g.wf g.ne;have hT:=uI g oA;have hi:=vL ls a oA;have hs:=cE ss a (by have:=g.len;lia);have sl:=(oN g oA).1;have Kj:∀b∈gQ ls a,b<ls.length/\uQ ls b/\au (ck ss) (.int (b:Int))=some (T (sd ss b)):=fun b hb=>by have:=qz g oA hb;exact⟨Qt,.step hr (l5 oA) hb,cE ss b (by have:=g.len;lia)⟩
 have Pk:∀b∈gQ ls a,∃(w:SF)(t:Tr),qc [.int ((sd ss b).length:Nat)]=.ok (WD w) []/\yS [Wv ls ss kp (sd ss b).length,.int b,WD w]=.ok t.d []/\t.dep<=13/\∀r,r∈t.rs<->tu ls kp b r:=fun b hb=>by obtain⟨h1,h2,_⟩:=Kj b hb;have h4:=(oN g h1).1;obtain⟨w,e1,hw⟩:=wA (sd ss b).length Qt;obtain⟨t,e,d1,d2⟩:=vT g K b h1 h2 64 Qt (sd ss b).length w hw Qt;exact⟨w,t,e1,e,Qt,d2⟩
 by_cases hk:kd ls a∈[0,12,13,14];unfold kd at hk;unfold gQ at Kj Pk;obtain⟨l,hl⟩:∃l,fX ls a=l:=⟨_,rfl⟩;have SG:∀r,BK ls kp a r<->∃b∈l.ns,tu ls kp b r:=fun r=>by unfold BK gQ;rw[hl]
 have Pa:=K.k2 a hr;unfold kd gQ at Pa;rw[hl] at hk hT hi Kj Pk Pa;cases l with
 |given j=>have hi:au (Pg ls) (.int (a:Int))=some (.tup [.str (nm 0),.int j]):=hi;have i1:=L0 (.int a) (T (sd ss a)) (.int j);refine⟨.ins "Load" ["line","sides","table"] [.int a,T (sd ss a),.int j],?_,Z2,Z2,⟨[],Z2,fun r=>by rw[SG];simp[PL.ns]⟩,[],Z2,fun r=>by rw[SG];simp[PL.ns]⟩;unfold lT pR;exact rn|fold d b k=>obtain⟨j,rfl,hj,_⟩:=hT;obtain⟨h1,h2,h3⟩:=Kj b (by simp[PL.ns]);obtain⟨w,t,e1,e2,d1,d2⟩:=Pk b (by simp[PL.ns]);have hi:au (Pg ls) (.int (a:Int))=some (.tup [.str (nm 12),.str (nm d),.int b,.int j]):=hi;have i2:=tS (sd ss b) j hj;generalize (sd ss b).getD j 0=z at *;have i1:=Q0r (.int a) (T (sd ss a)) (.int j) (.int z) (.str (nm d)) t.d;have wi:=OR ls ss kp (sd ss b).length;have w3:=FG ls ss kp (sd ss b).length;refine⟨_,?_,nA t (x:=.ins "Fold" ["line","sides","side","size","deed","tree"] [.int a,T (sd ss a),.int j,.int z,.str (nm d),t.d]) Z2 Z2 Z2 Z2 Z2 d1 fun r=>by rw[SG,d2];simp[PL.ns]⟩;generalize Wv ls ss kp (sd ss b).length=W at *;generalize t.d=td at *;unfold lT pR;exact rn|run d b k=>obtain⟨j,rfl,hj,_,hS⟩:=hT;obtain⟨h1,h2,h3⟩:=Kj b (by simp[PL.ns]);obtain⟨w,t,e1,e2,d1,d2⟩:=Pk b (by simp[PL.ns]);rw[<-hS] at e1 e2;have hi:au (Pg ls) (.int (a:Int))=some (.tup [.str (nm 13),.str (nm d),.int b,.int j]):=hi;have i1:=AL (.int a) (T (sd ss a)) (.int j) (.str (nm d)) t.d;have wi:=OR ls ss kp (sd ss a).length;have w3:=FG ls ss kp (sd ss a).length;refine⟨_,?_,nA t (x:=.ins "Through" ["line","sides","side","deed","tree"] [.int a,T (sd ss a),.int j,.str (nm d),t.d]) Z2 Z2 Z2 Z2 Z2 d1 fun r=>by rw[SG,d2];simp[PL.ns]⟩;generalize Wv ls ss kp (sd ss a).length=W at *;generalize t.d=td at *;unfold lT pR;exact rn|pick b k c=>
  have kb:=Pa (by simp[PL.k]) b (by simp[PL.ns]);have kc:=Pa (by simp[PL.k]) c (by simp[PL.ns]);obtain⟨h1,h2,h3⟩:=Kj b (by simp[PL.ns]);have hi:au (Pg ls) (.int (a:Int))=some (.tup [.str (nm 14),.int b,.int k,.int c]):=hi;have i1:=Q2L (.int a) (T (sd ss a)) (.int k) (.int b) (.int c) (T (sd ss b));have rr:∀r,BK ls kp a r<->r∈[b,c]:=fun r=>by rw[SG];simp[PL.ns,tu.kept kb,tu.kept kc]
  refine⟨.ins "Pick" ["line","sides","side","source","places","source_sides"] [.int a,T (sd ss a),.int k,.int b,.int c,T (sd ss b)],?_,Z2,Z2,⟨[b,c],Z2,fun r=>(rr r).symm⟩,[b,c],Z2,fun r=>(rr r).symm⟩;unfold lT pR;exact rn
 |_=>simp[PL.k] at hk
 have w0:=OR ls ss kp (sd ss a).length;obtain⟨w,e1,hw⟩:=wA (sd ss a).length Qt;obtain⟨t,e2,d1,d2⟩:=zO g oA hk (fun h=>K.k2 a hr (by rw[h];simp)) (n:=61) (fun b hb n' DI=>vT g K b (Kj b hb).1 (Kj b hb).2.1 n' (by have:=qz g oA hb;lia)) (sd ss a).length w hw Qt;have e2:Df [Wv ls ss kp (sd ss a).length,.int a,WD w]=.ok t.d []:=e2;have i1:=LY (.int a) (T (sd ss a)) t.d;have w2:=Tn ls ss kp (sd ss a).length;refine⟨_,?_,nA t (x:=.ins "Fill" ["line","sides","tree"] [.int a,T (sd ss a),t.d]) Z2 Z2 Z2 Z2 Z2 Qt d2⟩;have k1:=(fX ls a).kind;have VY:=(fX ls a).Rj;have zA:kd ls a≠0/\kd ls a≠12/\kd ls a≠13/\kd ls a≠14:=by simpa using hk
 unfold kd at zA;have ne:∀j,j<32->(fX ls a).k≠j->cn (.str (nm (fX ls a).k)) (.str (nm j))=some (.bl false):=fun j hj h=>by rw[JT _ _ Qt hj,Nn h]
 have n0:=ne 0 Qt zA.1;have n12:=ne 12 Qt zA.2.1;have n13:=ne 13 Qt zA.2.2.1;have n14:=ne 14 Qt zA.2.2.2;generalize Wv ls ss kp (sd ss a).length=W at *;generalize t.d=td at *;generalize (fX ls a).d=ld at *;generalize nm (fX ls a).k=kn at *;unfold lT pR;exact rn
end
def Dc(m:Wo):D:=.hW (m.map fun p=>.inl (p.1:Int)) (m.map fun p=>.int (p.2:Int))
def d8:Wo->Nat->Option Nat|[],_=>none|p::m,k=>if p.1=k then some p.2 else d8 m k
def mW(k v:Nat):Wo->List (Nat×Nat)|[]=>[(k,v)]|p::m=>if p.1=k then(p.1,v)::m else p::mW k v m
theorem ql(a b:Nat):((.inl (a:Int):Sum Int Str)=.inl (b:Int))<->a=b:=⟨fun h=>by cases h;rfl,fun h=>by rw[h]⟩
theorem i8:∀(m:Wo)(k v:Nat),d8 m k=some v->tK (Dc m) (.int (k:Int))=some (.int (v:Int))|[],_,_,h=>by cases h|p::m,k,v,h=>by have ih:=i8 m k v;unfold d8 at h;show (if _ then _ else xh _ _ _)=_;by_cases c:p.1=k;rw[Wr c] at h;cases h;rw[Wr ((ql _ _).mpr c)];rw[Uu c] at h;rw[Uu fun z=>c ((ql _ _).mp z)];exact ih h
theorem ve:∀(m:Wo)(k:Nat),d8 m k=none->xh (m.map fun p=>.inl (p.1:Int)) (m.map fun p=>D.int (p.2:Int)) (.inl (k:Int))=none|[],_,_=>rfl|p::m,k,h=>by unfold d8 at h;show (if _ then _ else xh _ _ _)=_;by_cases c:p.1=k;rw[Wr c] at h;cases h;rw[Uu c] at h;rw[Uu fun z=>c ((ql _ _).mp z)];exact ve m k h
theorem IV(m:Wo)(k:Nat):(xh (m.map fun p=>.inl (p.1:Int)) (m.map fun p=>D.int (p.2:Int)) (.inl (k:Int))).isSome=(d8 m k).isSome:=by cases h:d8 m k with|none=>rw[ve m k h];rfl|some v=>rw[show xh _ _ _=_ from i8 m k v h];rfl
theorem Q1u(m:Wo)(k:Nat):AB true (.int (k:Int)) (Dc m)=some (.bl (!(d8 m k).isSome)):=by rw[<-IV];rfl
theorem C0(k v:Nat):∀m:Wo,xi (.inl (k:Int)) (.int (v:Int)) (m.map fun p=>.inl (p.1:Int)) (m.map fun p=>D.int (p.2:Int))=((mW k v m).map fun p=>.inl (p.1:Int),(mW k v m).map fun p=>D.int (p.2:Int))|[]=>rfl|p::m=>by have ih:=C0 k v m;rw[P6,P6,xi,ih,mW];by_cases c:p.1=k;rw[Wr ((ql _ _).mpr c),Wr c];rfl;rw[Uu fun z=>c ((ql _ _).mp z),Uu c];rfl
theorem yb(m:Wo)(k v:Nat)(h:m.length<1000):putD (.int (k:Int)) (.int (v:Int)) (Dc m)=some (Dc (mW k v m)):=by show (if _ then _ else _)=_;rw[Wr (by simpa using h),C0];rfl
theorem gZ(k v:Nat):∀(m:Wo)(j:Nat),d8 (mW k v m) j=if k=j then some v else d8 m j|[],j=>by simp[mW,d8]|p::m,j=>by have ih:=gZ k v m j;unfold mW;by_cases c:p.1=k;rw[Wr c,d8,d8];dsimp only;rw[c];split<;>rfl;rw[Uu c,d8,ih,d8];by_cases c2:p.1=j;rw[Wr c2,Uu Qt,Wr c2];rw[Uu c2,Uu c2]
theorem pB(k v:Nat):∀m:Wo,d8 m k=none->mW k v m=m++[(k,v)]|[],_=>rfl|p::m,h=>by unfold d8 at h;unfold mW;by_cases c:p.1=k;rw[Wr c] at h;cases h;rw[Uu c] at h;rw[Uu c,pB k v m h];rfl
theorem pA:∀(m:Wo)(k v:Nat),d8 m k=some v->(k,v)∈m|[],_,_,h=>by cases h|p::m,k,v,h=>by unfold d8 at h;by_cases c:p.1=k;rw[Wr c] at h;cases h;subst c;exact Bl;rw[Uu c] at h;exact Uq _ (pA m k v h)
theorem nJ{α:Type}[DecidableEq α]:∀(l l':List α),l.Nodup->(∀x∈l,x∈l')->l.length<=l'.length|[],_,_,_=>Ro|x::l,l',hn,h=>by have hx:=h x Bl;have DI:=List.nodup_cons.mp hn;have ih:=nJ l (l'.erase x) DI.2 fun y hy=>(List.mem_erase_of_ne (fun z:y=x=>DI.1 (by rw[<-z];exact hy))).mpr (h y (Uq _ hy));have e:=List.length_erase_of_mem hx;have:=List.length_pos_of_mem hx;simp only[List.length_cons];lia
theorem XS(rows:Ue)(k:Nat):inD false (.int (k:Int)) (bN rows)=some (.bl (decide (k∈rows))):=by
 have sq:cq (bN rows)=some (rows.map fun k=>D.int (k:Nat)):=rfl;unfold inD;rw[sq];dsimp only;have fl:(rows.map fun k=>D.int (k:Nat)).all jN=true:=by simp[jN]
 rw[fl,Bool.and_true,Wr (show jN (D.int (k:Int))=true from rfl)];have:((rows.map fun k=>D.int (k:Nat)).any fun y=>eqB y (.int (k:Int)))=decide (k∈rows):=by simp only[List.any_map,Function.comp_def,eqB];rw[Bool.eq_iff_iff];simp only[List.any_eq_true,beq_iff_eq,decide_eq_true_eq];exact⟨fun ⟨x,h,e⟩=>(show x=k by lia) ▸ h,fun h=>⟨k,h,rfl⟩⟩
 simp[this]
theorem zK{wc:M Bool}{wb:M Fl}{rows:Ue}(hl:rows.length<=100)(Fr:Nat->aS)(hc:∀k,wc (Fr k)=.ok (decide (k∈rows)) (Fr k))(hb:∀k,wb (Fr k)=.ok .nx (Fr (k+1))) : ∃r:Nat,nT wc wb (Fr 0)=.ok .nx (Fr r)/\r∉rows/\∀j<r,j∈rows:=by
 have key:∀(n k:Nat),n+k=101->(∀j<k,j∈rows)->∃r:Nat,gW wc wb (n+9899) (Fr k)=.ok .nx (Fr r)/\r∉rows/\∀j<r,j∈rows:=by
  intro n;induction n with
  |zero=>intro k hk hj;have:=nJ (List.range k) rows List.nodup_range fun x hx=>hj x (List.mem_range.mp hx);simp at this;lia|succ n ih=>
   intro k hk hj;have ik:=hc k;by_cases c:k∈rows;rw[WN c] at ik;obtain⟨r,e,h1,h2⟩:=ih (k+1) Qt fun j QO=>by by_cases z:j=k;rw[z];exact c;exact hj j Qt
   exact⟨r,by rw[show n+1+9899=(n+9899)+1 by lia,BA ik (hb k)];exact e,h1,h2⟩;rw[Nn c] at ik;exact⟨k,by rw[show n+1+9899=(n+9899)+1 by lia];exact wL ik,c,hj⟩
 obtain⟨r,e,h⟩:=key 101 0 rfl fun j hj=>Qt;exact⟨r,e,h⟩
theorem Q21(rows:Ue)(hl:rows.length<=100):∃r:Nat,y4 [bN rows]=.ok (.int r) []/\r∉rows/\∀j<r,j∈rows:=by
 obtain⟨r,e,h⟩:=zK (wc:=cO) (wb:=cN) hl (fun k=>[.sh (bN rows),.sh (.int (k:Nat))]) (fun k=>by have ik:=XS rows k;unfold cO;exact aG) fun k=>by rw[show (((k+1:Nat)):Int)=(k:Int)+1 by lia];unfold cN;exact aG
 have e:nT cO cN [.sh (bN rows),.sh (.int 0)]=.ok .nx [.sh (bN rows),.sh (.int r)]:=e;refine⟨r,?_,h⟩;unfold y4 Ck;exact rn
theorem ur{A B:Type}[Inhabited B]{P:A->B->Prop}{as:List A}(h:∀a∈as,∃b,P a b):∃f:A->B,∀a∈as,P a (f a):=by
 classical
 refine⟨fun a=>if h':∃b,P a b then h'.choose else default,fun a ha=>?_⟩;have h':=h a ha;dsimp only;rw[dif_pos h'];exact h'.choose_spec
theorem uU(k v:Nat):∀(m:Wo)(w:Nat),d8 m k=some w->(mW k v m).map (·.1)=m.map (·.1)|[],_,h=>by cases h|p::m,w,h=>by unfold d8 at h;unfold mW;by_cases c:p.1=k;rw[Wr c];rfl;rw[Uu c] at h;rw[Uu c,P6,P6,uU k v m w h]
theorem yA:∀(m:Wo)(k:Nat),d8 m k=none->k∉m.map (·.1)|[],_,_=>Ro|p::m,k,h=>by unfold d8 at h;by_cases c:p.1=k;rw[Wr c] at h;cases h;rw[Uu c] at h;have:=yA m k h;simp only[List.map_cons,List.mem_cons,not_or];exact⟨fun z=>c z.symm,this⟩
def Kd(m:Wo):Prop:=(m.map (·.1)).Nodup/\∀k∈m.map (·.1),k<14
theorem Kd.ki{m:Wo}(h:Kd m):m.length<=14:=by have:=nJ (m.map (·.1)) (List.range 14) h.1 fun x hx=>List.mem_range.mpr (h.2 x hx);simpa using this
theorem Kd.put{m:Wo}(h:Kd m){k:Nat}(v:Nat)(hk:k<14):Kd (mW k v m):=by cases e:d8 m k with|some w=>unfold Kd;rw[uU k v m w e];exact h|none=>rw[pB k v m e];have hn:=yA m k e;unfold Kd;rw[BN];refine⟨List.nodup_append.mpr ⟨h.1,Ro,fun a ha b hb z=>?_⟩,fun x hx=>?_⟩;simp at hb;rw[<-z] at hb;subst hb;exact hn ha;rcases List.mem_append.mp hx with hx|hx;exact h.2 x hx;simp at hx;lia
theorem Kd.nil:Kd []:=⟨Ro,Ro⟩
structure OU(n:Nat)(as:Ue)(X:Nat->D)(rd:Nat->Ue)(ss:Rp):Prop where
 some:as≠[]
 ord:as.Pairwise (· < ·)
 ki:as.length<=14
 small:∀a∈as,a<14
 line:∀a∈as,aY cA "line" (X a)=Option.some (.int (a:Int))
 side:∀a∈as,aY cC "sides" (X a)=Option.some (T (sd ss a))/\SI (sd ss a)
 read:∀a∈as,qb [X a]=.ok (bN (rd a)) []
 own:∀a∈as,∀r∈rd a,r∈as/\r<a
 all:∀i,i+1<as.length->∃a∈as,as.getD i 0∈rd a
section
variable{n:Nat}{as:Ue}{X:Nat->D}{rd:Nat->Ue}{ss:Rp}(L:OU n as X rd ss)
def mR(as:Ue)(X:Nat->D):D:=.lst (as.map X)
theorem mX{as:Ue}{i:Nat}(h:i<as.length):as.getD i 0∈as:=by rw[Jl,Nc h];exact G4 h
theorem xk(as:Ue)(X:Nat->D):lS [mR as X]=some ((List.range as.length).map fun(i:Nat)=>D.tup [.int i,X (as.getD i 0)]):=by
 show some (kI (as.map X))=_;rw[rX];congr 1;refine FF Ro fun i h1 h2=>?_;have hi:i<as.length:=by simpa using h2
 simp[hi]
include L
theorem EF{i j:Nat}(hi:i<as.length)(hj:j<as.length):as.getD i 0<as.getD j 0<->i<j:=by
 have e:∀k (h:k<as.length),as.getD k 0=as[k]:=fun k h=>by simp[h]
 rw[e i hi,e j hj];have p:=List.pairwise_iff_getElem.mp L.ord;constructor;intro h;rcases Nat.lt_trichotomy i j with z|z|z;exact z;subst z;lia;have:=p j i hj hi z;lia;intro z;exact p i j hi hj z
theorem at_of{a:Nat}(h:a∈as):∃i,i<as.length/\as.getD i 0=a:=by obtain⟨i,hi,e⟩:=List.mem_iff_getElem.mp h;exact⟨i,hi,by simp[hi,e]⟩
theorem xb{i j:Nat}(hi:i<as.length)(hj:j<as.length)(e:as.getD i 0=as.getD j 0):i=j:=by rcases Nat.lt_trichotomy i j with z|z|z;have:=(EF L hi hj).mpr z;lia;exact z;have:=(EF L hj hi).mpr z;lia
def rH(as:Ue)(rd:Nat->Ue)(i:Nat)(m:Wo):Prop:=(Kd m/\∀r v,d8 m r=some v->v<i/\r∈rd (as.getD v 0))/\∀j<i,∀k∈rd (as.getD j 0),∃j',j<=j'/\d8 m k=some j'
theorem vN{g1 g2:D->M Unit}{lp1 lp2:M Fl}(rs:Nat->Ue)(QY:∀a∈as,∀r,r∈rs a<->r∈rd a)(Fo:Wo->Sl×Sl×Sl->aS)(Fi:Nat->Wo->Sl->aS)
  (Y8:∀(k r:Nat) m t,k<as.length->free (some t)=true->putD (.int (r:Int)) (.int (k:Int)) (Dc m)=some (Dc (mW r k m))->bq g1 lp1 (.int (r:Int)) (Fi k m t)=.ok .nx (Fi k (mW r k m) (.sh (.int r))))
  (tX:∀(k:Nat) m m' t s,k<as.length->vA t->loop g1 lp1 ((rs (as.getD k 0)).map fun(r:Nat)=>D.int (r:Int)) (Fi k m t.2.2)=.ok .nx (Fi k m' s)->bq g2 lp2 (.tup [.int (k:Int),X (as.getD k 0)]) (Fo m t)=.ok .nx (Fo m' (.sh (.int k),.sh (X (as.getD k 0)),s))) :
  ∃m t,vA t/\loop g2 lp2 ((List.range as.length).map fun(i:Nat)=>D.tup [.int i,X (as.getD i 0)]) (Fo [] (.no,.no,.no))=.ok .nx (Fo m t)/\rH as rd as.length m:=by
 obtain⟨m,t,hP,ht,Lp⟩:=cP (g:=g2) (body:=lp2) (fun(i:Nat)=>D.tup [.int i,X (as.getD i 0)]) Fo vA (List.range as.length) (rH as rd) [] (.no,.no,.no) ⟨rfl,rfl,rfl⟩ ⟨⟨Kd.nil,fun r v h=>by cases h⟩,fun j hj=>Qt⟩ (by
  intro i k hk m t ht hP;obtain⟨rfl,hk⟩:=cR hk;have ha:=mX hk;have ow:=L.own _ ha;have hm:=QY _ ha;obtain⟨⟨hK,hV⟩,hP⟩:=hP;obtain⟨m',s,⟨YO,YT,Zm,Zn⟩,hs,Li⟩:=cP (g:=g1) (body:=lp1) (fun(r:Nat)=>D.int r) (Fi k) vz (rs (as.getD k 0)) (fun c m'=>Kd m'/\(∀r v,d8 m' r=some v->v<k+1/\r∈rd (as.getD v 0))/\(∀j v,d8 m j=some v->∃v',v<=v'/\d8 m' j=some v')/\∀j<c,d8 m' ((rs (as.getD k 0)).getD j 0)=some k) m t.2.2 ht.2.2 ⟨hK,fun r v h=>by have:=hV r v h;exact⟨Qt,this.2⟩,fun j v h=>⟨v,ZS _,h⟩,fun j hj=>Qt⟩ (by
   intro c r hr m' t ht O0;obtain⟨q1,q4,q2,q3⟩:=O0;have XH:=(hm r).mp (Ie hr);have VB:=L.small r (ow r XH).1;refine⟨mW r k m',.sh (.int r),⟨q1.put k VB,fun r' v h=>?_,fun j v hj=>?_,fun j hj=>?_⟩,rfl,?_⟩;rw[gZ] at h;split at h;rename_i e;cases h;rw[<-e];exact⟨Qt,XH⟩;exact q4 r' v h;obtain⟨v',h1,h2⟩:=q2 j v hj;rw[gZ];by_cases c:r=j;rw[Wr c];exact⟨k,by have:=hV j v hj;lia,rfl⟩;rw[Uu c];exact⟨v',h1,h2⟩;rw[gZ];by_cases z:j=c;have:(rs (as.getD k 0)).getD j 0=r:=by rw[z,Jl,hr];rfl
   rw[this,Wr rfl];split;rfl;exact q3 j Qt;rw[Y8 k r m' t hk ht (yb m' r k (by have:=q1.ki;lia))];rfl)
  refine⟨m',(.sh (.int k),.sh (X (as.getD k 0)),s),⟨⟨YO,YT⟩,fun j hj r hr=>?_⟩,⟨rfl,rfl,hs⟩,?_⟩;by_cases z:j=k;rw[z] at hr;obtain⟨c,hc,e⟩:=List.mem_iff_getElem.mp ((hm r).mpr hr);have:=Zn c hc;rw[Jl,Nc hc,Option.getD_some,e] at this;exact⟨k,Qt,this⟩;obtain⟨j',h1,h2⟩:=hP j Qt r hr;obtain⟨v',h3,h4⟩:=Zm r j' h2;exact⟨v',Qt,h4⟩;rw[tX k m m' t s hk ht Li];rfl)
 rw[LZ] at hP;exact⟨m,t,ht,Lp,hP⟩
theorem Hd:∃m,yY [mR as X]=.ok (Dc m) []/\rH as rd as.length m:=by
 have en:=xk as X;obtain⟨m,t,ht,Lp,hP⟩:=vN L (g1:=aD 4) (g2:=cz [2,3]) (lp1:=dP) (lp2:=dQ) rd (fun _ _ _=>Iff.rfl) (fun m t=>[.sh (mR as X),.ow (Dc m),t.1,t.2.1,t.2.2]) (fun k m t=>[.sh (mR as X),.ow (Dc m),.sh (.int k),.sh (X (as.getD k 0)),t]) (fun k r m t hk ht pt=>by
   have hf:free (some t)=true:=ht;generalize X (as.getD k 0)=xa at *;generalize mR as X=xs at *;have e:aD 4 (.int (r:Int)) [.sh xs,.ow (Dc m),.sh (.int k),.sh xa,t]=.ok () [.sh xs,.ow (Dc m),.sh (.int k),.sh xa,.sh (.int r)]:=by simp[hf]
   rw[bq,e,aA];unfold dP;exact aG) fun k m m' t s hk ht Li=>by
  obtain⟨t2,t3,t4⟩:=t;obtain⟨f2,f3,f4⟩:=ht;dsimp only at f2 f3 f4 Li ⊢;have rb:=L.read _ (mX hk);have YS:cq (bN (rd (as.getD k 0)))=some ((rd (as.getD k 0)).map fun(r:Nat)=>D.int (r:Int)):=rfl;generalize (rd (as.getD k 0)).map (fun(r:Nat)=>D.int (r:Int))=rs at *;generalize bN (rd (as.getD k 0))=ZV at *;generalize X (as.getD k 0)=xa at *;generalize mR as X=xs at *;have e:cz [2,3] (.tup [.int (k:Int),xa]) [.sh xs,.ow (Dc m),t2,t3,t4]=.ok () [.sh xs,.ow (Dc m),.sh (.int k),.sh xa,t4]:=by simp[f2,f3]
  rw[bq,e,aA];unfold dQ;exact aG
 obtain⟨t2,t3,t4⟩:=t;refine⟨m,?_,hP⟩;have hD:Dc []=.hW [] []:=rfl;rw[hD] at Lp;dsimp only at Lp;generalize mR as X=xs at *;unfold yY Cg;exact rn
omit L in
theorem rH.uniq{m:Wo}(h:rH as rd as.length m){x v:Nat}(e:d8 m x=some v)(j:Nat):(∃q,j<=q/\q<as.length/\x∈rd (as.getD q 0))<->j<=v:=by constructor;rintro⟨q,h1,h2,h3⟩;obtain⟨j',h4,h5⟩:=h.2 q h2 x h3;rw[e] at h5;cases h5;lia;intro hj;have:=h.1.2 x v e;exact⟨v,hj,this.1,this.2⟩
end
section
variable{n:Nat}{as:Ue}{X:Nat->D}{rd:Nat->Ue}{ss:Rp}(L:OU n as X rd ss)
theorem noLs_N:∀ks:Ue,noLs (ks.map fun k=>D.int (k:Nat))=true|[]=>rfl|k::ks=>by rw[P6,noLs,noLs_N ks];rfl
theorem Hb(m:Wo):D3 (Dc m)=some ((m.map (·.1)).map fun(k:Nat)=>D.int (k:Int)):=by show some ((m.map fun p=>(.inl (p.1:Int):Sum Int Str)).map D0)=_;rw[E1,E1];rfl
def TB(as:Ue)(rd:Nat->Ue)(p j:Nat):Prop:=∃q,j<=q/\q<as.length/\as.getD p 0∈rd (as.getD q 0)
def uR(as:Ue)(rd:Nat->Ue)(i:Nat)(R:Wo):Prop:=R.map (·.1)=as.take i/\(∀p∈R,p.2<=100)/\∀j<i,∃v,d8 R (as.getD j 0)=some v/\(∀p<j,TB as rd p j->d8 R (as.getD p 0)≠some v)/\∀u<v,∃p<j,TB as rd p j/\d8 R (as.getD p 0)=some u
theorem mH{as:Ue}{i k:Nat}(hi:i<=as.length)(h:k∈as.take i):∃j,j<i/\as.getD j 0=k:=by obtain⟨j,hj,e⟩:=List.mem_iff_getElem.mp h;simp only[List.length_take] at hj;have h2:j<as.length:=Qt;exact⟨j,Qt,by rw[<-e];simp[h2]⟩
theorem zv:∀(is:T1)(a B:Int),a<=B->(∀x∈is,x<=B)->is.foldl (fun a b=>if a<b then b else a) a<=B|[],a,B,h,_=>h|i::is,a,B,h,h2=>by rw[HW];refine zv is _ B ?_ fun x hx=>h2 x (Uq _ hx);split;exact h2 i Bl;exact h
theorem Mx(R:Wo)(h:R≠[])(QB:∀p∈R,p.2<=100):∃mx:Nat,oH (Dc R)=some (.int (mx:Int))/\mx<=100/\∀p∈R,p.2<=mx:=by
 cases R with
 |nil=>exact absurd rfl h|cons p R=>
  have e:dm ((p::R).map fun p=>D.int (p.2:Int))=some ((p.2:Int)::R.map fun p=>(p.2:Int)):=by have:=iF ((p::R).map fun p=>(p.2:Int));rw[E1] at this;exact this
  obtain⟨h1,h2⟩:=tP (R.map fun p=>(p.2:Int)) (p.2:Int);have h3:=zv (R.map fun p=>(p.2:Int)) (p.2:Int) 100 (by have:=QB p Bl;lia) fun x hx=>by obtain⟨q,hq,rfl⟩:=List.mem_map.mp hx;have:=QB q (Uq _ hq);lia
  have ev:oH (Dc (p::R))=some (.int ((R.map fun p=>(p.2:Int)).foldl (fun a b=>if a<b then b else a) (p.2:Int))):=by show (match dm ((p::R).map fun p=>D.int (p.2:Int)) with|some (i::is)=>some (D.int (is.foldl (fun a b=>if a<b then b else a) i))|_=>none)=_;rw[e]
  generalize (R.map fun p=>(p.2:Int)).foldl (fun a b=>if a<b then b else a) (p.2:Int)=z at *;refine⟨z.toNat,by rw[ev,show ((z.toNat:Nat):Int)=z by lia],Qt,fun q hq=>?_⟩;rcases List.mem_cons.mp hq with rfl|hq
  lia
  have:=h2 (q.2:Int) (CR (f:=fun p=>(p.2:Int)) hq);lia
theorem fold_at:∀(is:T1)(a:Int),is.foldl (fun a b=>if a<b then b else a) a∈a::is|[],a=>Ro|i::is,a=>by rw[HW];have:=fold_at is (if a<i then i else a);rcases List.mem_cons.mp this with h|h;rw[h];split<;>simp;exact Uq _ (Uq _ h)
theorem Q1z(R:Wo)(mx:Nat)(h:oH (Dc R)=some (.int (mx:Int))):∃p∈R,p.2=mx:=by
 cases R with
 |nil=>cases h|cons p R=>
  have e:dm ((p::R).map fun p=>D.int (p.2:Int))=some ((p.2:Int)::R.map fun p=>(p.2:Int)):=by have:=iF ((p::R).map fun p=>(p.2:Int));rw[E1] at this;exact this
  have ev:oH (Dc (p::R))=some (.int ((R.map fun p=>(p.2:Int)).foldl (fun a b=>if a<b then b else a) (p.2:Int))):=by show (match dm ((p::R).map fun p=>D.int (p.2:Int)) with|some (i::is)=>some (D.int (is.foldl (fun a b=>if a<b then b else a) i))|_=>none)=_;rw[e]
  rw[ev] at h;have h:=D.int.inj (OH h);have m:=fold_at (R.map fun p=>(p.2:Int)) (p.2:Int);rw[h] at m;rcases List.mem_cons.mp m with m|m;exact⟨p,Bl,Qt⟩;obtain⟨q,hq,e⟩:=List.mem_map.mp m;exact⟨q,Uq _ hq,Qt⟩
include L
theorem ID:∃R,zd [mR as X]=.ok (Dc R) []/\uR as rd as.length R:=by
 obtain⟨m,em,hL⟩:=Hd L;have hm:=hL.2;have en:=xk as X;have Rn:∀i,i+1<as.length->∃v,d8 m (as.getD i 0)=some v:=fun i hi=>by obtain⟨a,ha,hr⟩:=L.all i hi;obtain⟨q,hq,e⟩:=at_of L ha;rw[<-e] at hr;obtain⟨v,_,h⟩:=hm q hq _ hr;exact⟨v,h⟩
 obtain⟨R,t,hP,ht,Lp⟩:=cP (g:=cz [3,4]) (body:=gy) (fun(i:Nat)=>D.tup [.int i,X (as.getD i 0)]) (fun(R:Wo)(t:Sl×Sl×Sl)=>[.sh (mR as X),.sh (Dc m),.ow (Dc R),t.1,t.2.1,t.2.2]) vA (List.range as.length) (uR as rd) [] (.no,.no,.no) ⟨rfl,rfl,rfl⟩ ⟨Ro,Ro,fun j hj=>Qt⟩ (by
  intro i k hk R t ht hP;obtain⟨rfl,hk⟩:=cR hk;obtain⟨t3,t4,t5⟩:=t;obtain⟨f3,f4,f5⟩:=ht;dsimp only at f3 f4 f5;obtain⟨p1,p2,p3⟩:=hP;have ha:=mX hk;have li:=L.line _ ha;let lv:=fun j:Nat=>(d8 m j).getD 0;let rv:=fun j:Nat=>(d8 R j).getD 0;have Vt:∀j∈as.take k,d8 m j=some (lv j):=fun j hj=>by obtain⟨q,hq,e⟩:=mH Qt hj;obtain⟨v,h⟩:=Rn q Qt;rw[e] at h;show _=some ((d8 m j).getD 0);rw[h];rfl
  have VC:∀j∈as.take k,d8 R j=some (rv j):=fun j hj=>by obtain⟨q,hq,e⟩:=mH Qt hj;obtain⟨v,h,_⟩:=p3 q hq;rw[e] at h;show _=some ((d8 R j).getD 0);rw[h];rfl
  obtain⟨nd,Vu⟩:∃nd:Ue,nd=((as.take k).filter fun j=>decide (k<=lv j)).map rv:=⟨_,rfl⟩;have ks:=Hb R;rw[p1] at ks;obtain⟨xa,VJ⟩:∃xa,xa=X (as.getD k 0):=⟨_,rfl⟩;obtain⟨xs,Zv⟩:∃xs,xs=mR as X:=⟨_,rfl⟩;rw[<-VJ] at li ⊢;rw[<-Zv];have c:aQ 1 (vP (af 2)) (aD 6) gp gn [.sh xs,.sh (Dc m),.sh (Dc R),.sh (.int k),.sh xa,bM t5]=.ok (.lst (nd.map fun j=>D.int (j:Nat))) [.sh xs,.sh (Dc m),.sh (Dc R),.sh (.int k),.sh xa,bM t5]:=by
   refine pY (fun(j:Nat)=>D.int (j:Int)) (fun j=>decide (k<=lv j)) (fun j=>D.int (rv j:Nat)) (as.take k) aG (by have:=L.ki;simp;lia) (by rw[Vu,E1];rfl) (fun j hj acc=>?_) fun j hj _ acc=>?_;have g1:=i8 m j (lv j) (Vt j hj);have ge:OZ (.int (lv j:Int)) (.int (k:Int))=some (.bl (decide (k<=lv j))):=by rw[Du,decide_eq_decide.mpr (show (k:Int)<=lv j<->k<=lv j by lia)]
   generalize lv j=v at *;unfold gp;exact aG;have g1:=i8 R j (rv j) (VC j hj);generalize rv j=v at *;unfold gn;exact aG
  have vw:ip (aQ 1 (vP (af 2)) (aD 6) gp gn) [.sh xs,.sh (Dc m),.ow (Dc R),.sh (.int k),.sh xa,t5]=.ok (bN nd) [.sh xs,.sh (Dc m),.ow (Dc R),.sh (.int k),.sh xa,t5]:=by rw[mf];simp only[List.map_cons,List.map_nil,j5,j6];rw[c,mJ _ _ _ (noLs_N nd)];rfl
  have ZN:nd.length<=100:=by
   rw[Vu,uG];have:=Yn (fun j=>decide (k<=lv j)) (as.take k);have h3:=L.ki;have h4:=List.length_take_le k as;have h5:=CQ (i:=k) (l:=as)
   lia
  obtain⟨r,lo,hr,LS⟩:=Q21 nd ZN;have ZU:=nJ (List.range r) nd List.nodup_range fun x hx=>LS x (List.mem_range.mp hx);rw[LZ] at ZU;have RY:∀u,u∈nd<->∃p<k,TB as rd p k/\d8 R (as.getD p 0)=some u:=fun u=>by
   rw[Vu,List.mem_map];have tm:∀p,p<k->as.getD p 0∈as.take k:=fun p hp=>by rw[Jl,Nc Qt];exact List.mem_take_iff_getElem.mpr ⟨p,Qt,rfl⟩
   constructor;rintro⟨x,hx,e⟩;obtain⟨h1,h2⟩:=List.mem_filter.mp hx;obtain⟨p,hp,rfl⟩:=mH Qt h1;exact⟨p,hp,(hL.uniq (Vt _ h1) k).mpr (Hg h2),by rw[VC _ h1,e]⟩;rintro⟨p,hp,h1,h2⟩;have h3:=tm p hp;refine⟨as.getD p 0,List.mem_filter.mpr ⟨h3,WN ((hL.uniq (Vt _ h3) k).mp h1)⟩,?_⟩;rw[VC _ h3] at h2;exact OH h2
  have Rl:R.length<=14:=by have:=congrArg List.length p1;simp only[List.length_map,List.length_take] at this;have:=L.ki;lia
  have pt:=yb R (as.getD k 0) r Qt;have Ka:d8 R (as.getD k 0)=none:=by
   cases e:d8 R (as.getD k 0) with
   |none=>rfl|some v=>
    have DG:=CR (f:=(·.1)) (pA R _ v e);rw[p1] at DG;obtain⟨j,hj,e2⟩:=mH Qt DG;have:=xb L (i:=j) (j:=k) Qt hk e2
    lia
  have tk:as.take k++[as.getD k 0]=as.take (k+1):=by
   have:as.getD k 0=as[k]:=by simp[hk]
   rw[this];simp
  have old:∀p,p<k->d8 (mW (as.getD k 0) r R) (as.getD p 0)=d8 R (as.getD p 0):=fun p hp=>by rw[gZ,Uu fun z=>by have:=xb L hk Qt z;lia]
  refine⟨mW (as.getD k 0) r R,(.sh (.int k),.sh xa,.sh (bN nd)),⟨?_,fun p hp=>?_,fun j hj=>?_⟩,⟨rfl,rfl,rfl⟩,?_⟩;rw[pB _ _ _ Ka,BN,p1];exact tk;rw[pB _ _ _ Ka] at hp;rcases List.mem_append.mp hp with hp|hp;exact p2 p hp;rw[List.mem_singleton.mp hp];show r<=100;lia;by_cases z:j=k;subst z;refine⟨r,by rw[gZ,Wr rfl],fun p hp h1 h2=>hr ((RY r).mpr ⟨p,hp,h1,by rw[<-old p hp];exact h2⟩),fun u hu=>?_⟩;obtain⟨p,hp,h1,h2⟩:=(RY u).mp (LS u hu);exact⟨p,hp,h1,by rw[old p hp];exact h2⟩;obtain⟨v,h1,h2,h3⟩:=p3 j Qt;refine⟨v,by rw[old j Qt];exact h1,fun p hp=>by rw[old p Qt];exact h2 p hp,fun u hu=>?_⟩;obtain⟨p,hp,h4,h5⟩:=h3 u hu;exact⟨p,hp,h4,by rw[old p Qt];exact h5⟩;have e:cz [3,4] (.tup [.int (k:Int),xa]) [.sh xs,.sh (Dc m),.ow (Dc R),t3,t4,t5]=.ok () [.sh xs,.sh (Dc m),.ow (Dc R),.sh (.int k),.sh xa,t5]:=by simp[f3,f4]
  dsimp only;clear c;rw[bq,e,aA,show gy _=.ok .nx _ by unfold gy;exact aG];rfl)
 obtain⟨t3,t4,t5⟩:=t;simp only[List.length_range] at hP;refine⟨R,?_,hP⟩;have hD:Dc []=.hW [] []:=rfl;rw[hD] at Lp;dsimp only at Lp;generalize mR as X=xs at *;unfold zd Ct;exact rn
theorem xE(R:Wo)(hR:uR as rd as.length R):∃ys,yZ [mR as X,Dc R]=.ok (Z ys) []/\(∀p∈R,p.2<ys.length)/\∃p∈R,p.2+1=ys.length:=by
 obtain⟨p1,p2,p3⟩:=hR;obtain⟨mx,em,hmx,hle⟩:=Mx R (fun z=>by rw[z] at p1;have:=congrArg List.length p1;have:=List.length_pos_iff.mpr L.some;simp at *;lia) p2;have ad:a8 (.int (mx:Int)) (.int 1)=some (.int ((mx+1:Nat):Int)):=rfl;have er:=rB (mx+1) Qt;have c:aQ 1 (cQ [(m2 a8 (m1 oH (af 1)) (mC (.int 1)))]) (aD 5) (VP.ret true) fU [.sh (mR as X),.sh (Dc R),.no,.no,.no]=.ok (Z (List.replicate (mx+1) 0)) [.sh (mR as X),.sh (Dc R),.no,.no,.no]:=by refine gJ (fun(k:Nat)=>D.int k) (fun _=>D.int 0) (List.range (mx+1)) aG (by simp;lia) (by simp[Z,List.map_const']) fun k hk acc=>?_;unfold fU;exact aG
 obtain⟨ys,t,hP,ht,Lp⟩:=cP (g:=aD 3) (body:=dJ) X (fun(ys:T1)(t:Sl×Sl)=>[.sh (mR as X),.sh (Dc R),.ow (Z ys),t.1,t.2]) kM as (fun _ ys=>ys.length=mx+1) (List.replicate (mx+1) 0) (.no,.no) ⟨rfl,rfl⟩ Ro (by
  intro i a ha ys t ht hP;obtain⟨t3,t4⟩:=t;obtain⟨f3,f4⟩:=ht;dsimp only at f3 f4;have ha:=Ie ha;have li:=L.line a ha;obtain⟨si,sS⟩:=L.side a ha;obtain⟨j,hj,ej⟩:=at_of L ha;obtain⟨v,hv,_⟩:=p3 j hj;rw[ej] at hv;have gv:=i8 R a v hv;have XJ:=hle _ (pA R a v hv);have ci:=iV (sd ss a) fun x hx=>by have:=sS.2.1 x hx;lia
  have ix:au (Z ys) (.int (v:Int))=some (.int (ys.getD v 0)):=by have:=gx ys v Qt (by dsimp only at XJ;lia);rwa [AR] at this
  have mxx:=ub (ys.getD v 0) (bc (sd ss a));generalize max (ys.getD v 0) (bc (sd ss a))=z at *;have st:=Ac ys v z Qt (by dsimp only at XJ;lia);rw[AR] at st;have il:isLst (some (Z ys))=true:=rfl;refine⟨ys.set v z,(.sh (X a),.sh (.int v)),by simp[hP],⟨rfl,rfl⟩,?_⟩;have e:aD 3 (X a) [.sh (mR as X),.sh (Dc R),.ow (Z ys),t3,t4]=.ok () [.sh (mR as X),.sh (Dc R),.ow (Z ys),.sh (X a),t4]:=by simp[f3]
  dsimp only;generalize X a=xa at *;generalize mR as X=xs at *;generalize ys.getD v 0=y0 at *;rw[bq,e,aA,show dJ _=.ok .nx _ by unfold dJ;exact aG];rfl)
 obtain⟨t3,t4⟩:=t;obtain⟨p,hp,e⟩:=Q1z R mx em;refine⟨ys,?_,fun q hq=>by have:=hle q hq;lia,p,hp,Qt⟩;have sq:cq (mR as X)=some (as.map X):=rfl;dsimp only at Lp;generalize mR as X=xs at *;generalize as.map X=ds at *;unfold yZ Ci;exact rn
end
theorem G9(gs:Rp)(ls:SK)(ss:Rp)(ix_:Nat)(g:Gd gs ls ss ix_)(i9:ls.length<=13):∃kp,vh [Pg ls,ck ss]=.ok (iN kp) []/\Kp ls kp:=by
 obtain⟨w,_,wl,hw,e⟩:=rm ls ss g.wf g.ne Qt g.len;have hn:=List.length_pos_iff.mpr g.ne;have gw:∀i,w.getD i false=true<->uQ ls i:=fun i=>by rw[<-hw i,Jl];cases h:w[i]? with|none=>simp|some b=>simp
 have gk:∀i,(sD ls ss w)[i]?=some true<->i<ls.length/\uQ ls i/\lY ls ss i (fY ls w i)=true:=fun i=>by unfold sD;by_cases hi:i<ls.length;rw[LM,DW hi];simp only[Option.map_some,Option.some.injEq,Bool.and_eq_true,gw];exact⟨fun h=>⟨hi,h⟩,fun h=>h.2⟩;rw[I0 (by simp;lia)];exact⟨fun h=>(by cases h),fun h=>absurd h.1 hi⟩
 refine⟨_,e,by simp[sD],fun i hr h=>(gk i).mpr ⟨hr.lt g.wf g.ne,hr,?_⟩,fun i hr h a ha=>(gk a).mpr ?_,(gk _).mpr ⟨Qt,.last,?_⟩,fun i h=>((gk i).mp h).2.1⟩;have:kd ls i∈K4:=h;simp[lY,this];have hi:=hr.lt g.wf g.ne;have ra:uQ ls a:=.step hr (l5 hi) ha;refine⟨ra.lt g.wf g.ne,ra,?_⟩;have hm:=(qy ls w a i).mpr ⟨hi,(gw i).mpr hr,ha⟩;have h2:kd ls i∈H2:=h;have:(fY ls w a).any (fun i=>decide (kd ls i∈H2))=true:=List.any_eq_true.mpr ⟨i,hm,by simp[h2]⟩;simp[lY,this];simp[lY]
section
variable{gs:Rp}{ls:SK}{ss:Rp}{ix_:Nat}(g:Gd gs ls ss ix_){kp:Ur}(K:Kp ls kp)(i9:ls.length<=13)
include g K
theorem tu.low{b r:Nat}(h:tu ls kp b r):b<ls.length->kp[r]?=some true/\r<=b:=by induction h with|self h=>exact fun _=>⟨h,Qt⟩|step h hb _ ih=>intro ha;have:=qz g ha hb;have:=ih Qt;exact⟨this.1,Qt⟩
theorem Q2X{y:Nat}(h:uQ ls y):∀r,BK ls kp y r->∃a,kp[a]?=some true/\BK ls kp a r:=by
 induction h with
 |last=>exact fun r hr=>⟨_,K.last,hr⟩|@step i y l hi e hy ih=>
  intro r hr;have hil:=hi.lt g.wf g.ne;have Zx:y<ls.length:=by have:=g.wf i l e y hy;lia
  have VM:y∈gQ ls i:=by unfold gQ;rw[show fX ls i=l by simp[fX,e]];exact hy
  obtain⟨b,hb⟩:∃b,kp[y]?=some b:=⟨_,Nc (by rw[K.len];exact Zx)⟩;cases b with|true=>exact⟨y,hb,hr⟩|false=>obtain⟨c,hc,YZ⟩:=hr;exact ih r ⟨y,VM,.step hb hc YZ⟩
include i9
theorem D9:∃(as:Ue)(X:Nat->D)(rd:Nat->Ue),aQ 1 (cQ [(m1 bz (af 0))]) (aD 6) iY iU [.sh (Pg ls),.sh (ck gs),.sh (ck ss),.sh (iN kp),.no,.no]=.ok (mR as X) [.sh (Pg ls),.sh (ck gs),.sh (ck ss),.sh (iN kp),.no,.no]/\OU ls.length as X rd ss/\(∀a∈as,∃rs,ou [X a]=.ok (bN rs) []/\∀r,r∈rs<->r∈rd a)/\as.getD (as.length-1) 0=ls.length-1:=by
 have hn:=List.length_pos_iff.mpr g.ne;obtain⟨as,has⟩:∃as,as=(List.range ls.length).filter fun a=>kp.getD a false:=⟨_,rfl⟩;have hm:∀a,a∈as<->kp[a]?=some true:=fun a=>by rw[has,List.mem_filter,List.mem_range,Jl];cases h:kp[a]? with|none=>simp|some b=>have:=(List.getElem?_eq_some_iff.mp h).1;have:=K.len;simp;lia
 obtain⟨X,hX⟩:=ur (as:=as) (P:=fun(a:Nat) x=>lT [Pg ls,ck ss,iN kp,.int a]=.ok x []/\wW ls ss kp a x) fun a ha=>xG g K i9 a ((hm a).mp ha);obtain⟨rd,QX⟩:=ur (as:=as) (P:=fun(a:Nat)(rs:Ue)=>qb [X a]=.ok (bN rs) []/\∀r,r∈rs<->BK ls kp a r) fun a ha=>(hX a ha).2.own;have lt:∀a∈as,a<ls.length:=fun a ha=>(K.want a ((hm a).mp ha)).lt g.wf g.ne;have ord:as.Pairwise (· < ·):=by rw[has];exact List.Pairwise.filter _ List.pairwise_lt_range
 have ki:as.length<=14:=by rw[has];have:=Yn (fun a=>kp.getD a false) (List.range ls.length);simp only[List.length_range] at this;lia
 have D5:ls.length-1∈as:=(hm _).mpr K.last;have Rv:∀i,i+1<as.length->as.getD i 0<ls.length-1:=fun i hi=>by have p:=List.pairwise_iff_getElem.mp ord i (i+1) Qt hi Qt;have:=lt _ (G4 hi);simp[show i<as.length by lia];lia
 have Lp:OU ls.length as X rd ss:=by
  refine⟨fun z=>(by rw[z] at D5;cases D5),ord,ki,fun a ha=>(by have:=lt a ha;lia),fun a ha=>(hX a ha).2.line,fun a ha=>⟨(hX a ha).2.SO,oN g (lt a ha)⟩,fun a ha=>(QX a ha).1,fun a ha r hr=>?_,fun i hi=>?_⟩;obtain⟨b,hb,YX⟩:=((QX a ha).2 r).mp hr;have h1:=qz g (lt a ha) hb;have h2:=tu.low g K YX (by have:=lt a ha;lia);exact⟨(hm r).mpr h2.1,Qt⟩;have hx:=mX (as:=as) (i:=i) Qt;have AJ:=Rv i hi;have hk:=(hm _).mp hx;have hR:=K.want _ hk;generalize as.getD i 0=x at *;cases hR with
  |last=>lia|@step j _ l hj e hy=>
   have VM:x∈gQ ls j:=by unfold gQ;rw[show fX ls j=l by simp[fX,e]];exact hy
   obtain⟨a,h1,h2⟩:=Q2X g K hj x ⟨x,VM,.self hk⟩;have ha:=(hm a).mpr h1;exact⟨a,ha,((QX a ha).2 x).mpr h2⟩
 refine⟨as,X,rd,?_,Lp,fun a ha=>?_,?_⟩;have ln:=km ls;have er:=rB ls.length Qt;refine pY (fun(k:Nat)=>D.int k) (fun a=>kp.getD a false) X (List.range ls.length) aG (by simp;lia) (by rw[<-has];rfl) (fun a ha acc=>?_) fun a ha hk acc=>?_;have hb:kp[a]?=some (kp.getD a false):=by have:=List.mem_range.mp ha;have:=K.len;simp[show a<kp.length by lia]
 have bi:=lL kp a _ hb;generalize kp.getD a false=b at *;unfold iY;exact aG;have hx:=(hX a (by rw[has];exact List.mem_filter.mpr ⟨ha,hk⟩)).1;generalize X a=xa at *;unfold iU;exact aG;obtain⟨rs,e,h⟩:=(hX a ha).2.V0;exact⟨rs,e,fun r=>(h r).trans ((QX a ha).2 r).symm⟩;obtain⟨i,hi,e⟩:=at_of Lp D5;by_cases z:i+1<as.length;have:=Rv i z;lia;rw[show as.length-1=i by lia];exact e
end
def TJ(as:Ue)(X:Nat->D)(R:Wo)(ys:T1):D:=.ins "Plan" ["loops","row_of","lengths"] [mR as X,Dc R,Z ys]
theorem Q1h(as:Ue)(X:Nat->D)(R:Wo)(ys:T1):Lu [.ins "Plan" [] [],mR as X,Dc R,Z ys]=.ok .bE [TJ as X R ys]:=Z2
theorem Q0A{gs:Rp}{ls:SK}{ss:Rp}{ix_:Nat}(g:Gd gs ls ss ix_)(i9:ls.length<=13):∃(as:Ue)(X:Nat->D)(rd:Nat->Ue)(R:Wo)(ys:T1),y9 [Pg ls,ck gs]=.ok (TJ as X R ys) []/\OU ls.length as X rd ss/\(∀a∈as,∃rs,ou [X a]=.ok (bN rs) []/\∀r,r∈rs<->r∈rd a)/\as.getD (as.length-1) 0=ls.length-1/\uR as rd as.length R/\(∀p∈R,p.2<ys.length)/\∃p∈R,p.2+1=ys.length:=by have e1:=Q10 gs ls ss ix_ g Qt;obtain⟨kp,e2,K⟩:=G9 gs ls ss ix_ g i9;obtain⟨as,X,rd,e3,L,hl,sA⟩:=D9 g K i9;obtain⟨R,e4,hR⟩:=ID L;obtain⟨ys,e5,hy⟩:=xE L R hR;have e6:=Q1h as X R ys;refine⟨as,X,rd,R,ys,?_,L,hl,sA,hR,hy⟩;generalize TJ as X R ys=pl at *;generalize mR as X=xs at *;unfold y9 Cp;exact rn
theorem CP{f:Fn}{a:M D}{r r1:aS}{d v w:D}(h:a r=.ok d r1)(hf:f [d]=.ok v [w]):nC f a r=.ok v r1:=by rw[AZ,h,aA];exact Gk f d v w r1 hf
def kQ(un:Nat->Nat)(j:Nat):Ue:=(List.range j).filter fun p=>decide (j<=un p)
def gi(un:Nat->Nat):Nat->Nat|0=>0|j+1=>max (gi un j) ((kQ un j).length+1)
theorem Ep(un:Nat->Nat):∀n j,j<n->(kQ un j).length+1<=gi un n|0,_,h=>Qt|n+1,j,h=>by rw[gi];by_cases e:j=n;subst e;lia;have:=Ep un n j Qt;lia
theorem uf(un:Nat->Nat):∀n,0<n->∃j<n,gi un n=(kQ un j).length+1
|0,h=>Qt|n+1,_=>by
 rw[gi];by_cases e:gi un n<=(kQ un n).length+1;exact⟨n,Qt,Qt⟩;have h0:0<n:=by cases n with|zero=>rw[gi] at e;lia|succ n=>lia
 obtain⟨j,hj,h⟩:=uf un n h0;exact⟨j,Qt,Qt⟩
theorem gA{un:Nat->Nat}{j p:Nat}:p∈kQ un j<->p<j/\j<=un p:=by simp[kQ]
section
variable{n:Nat}{un Ab:Nat->Nat}(H1:∀j<n,∀p<j,j<=un p->Ab p≠Ab j)(H2:∀j<n,∀u<Ab j,∃p<j,j<=un p/\Ab p=u)
include H2 in
theorem uC{j:Nat}(hj:j<n):Ab j<gi un n:=by
 have:=nJ (List.range (Ab j)) ((kQ un j).map Ab) List.nodup_range fun u hu=>by obtain⟨p,h1,h2,h3⟩:=H2 j hj u (List.mem_range.mp hu);exact List.mem_map.mpr ⟨p,gA.mpr ⟨h1,h2⟩,h3⟩
 have:=Ep un n j hj;simp at *;lia
include H1 H2 in
theorem Aa{u:Nat}(hu:u<gi un n):∃p<n,Ab p=u:=by
 have h0:0<n:=by cases n with|zero=>rw[gi] at hu;lia|succ n=>lia
 obtain⟨j,hj,e⟩:=uf un n h0;have nd:((kQ un j++[j]).map Ab).Nodup:=by refine List.pairwise_map.mpr (List.pairwise_append.mpr ⟨?_,Ro,fun p hp q hq=>?_⟩);refine List.Pairwise.imp_of_mem (fun {p q} hp hq h=>?_) (List.Pairwise.filter _ List.pairwise_lt_range);have:=gA.mp hp;have:=gA.mp hq;exact H1 q Qt p h Qt;rw[List.mem_singleton.mp hq];have:=gA.mp hp;exact H1 j hj p this.1 this.2
 have all:∀x∈(kQ un j++[j]).map Ab,∃p<n,Ab p=x:=fun x hx=>by obtain⟨p,hp,rfl⟩:=List.mem_map.mp hx;refine⟨p,?_,rfl⟩;rcases List.mem_append.mp hp with hp|hp;have:=gA.mp hp;lia;rw[List.mem_singleton.mp hp];exact hj
 by_cases c:u∈(kQ un j++[j]).map Ab;exact all u c;have:=nJ (u::(kQ un j++[j]).map Ab) (List.range (gi un n)) (List.nodup_cons.mpr ⟨c,nd⟩) fun x hx=>by rcases List.mem_cons.mp hx with rfl|hx;exact List.mem_range.mpr hu;obtain⟨p,hp,rfl⟩:=all x hx;exact List.mem_range.mpr (uC H2 hp)
 simp at this;lia
end
theorem BV:∀(xs:Ue)(m:Nat),(∀x∈xs,x<14)->(∀(j x:Nat),xs[j]?=some x->∀u<x,u<m\/∃p<j,xs[p]?=some u)->∃M,asc m (xs.map fun(k:Nat)=>(k:Int))=some M/\∀u,u<M<->u<m\/u∈xs
|[],m,_,_=>⟨m,rfl,fun u=>Ro⟩|x::xs,m,i9,h=>by
 have hx:x<=m:=Nat.le_of_not_lt fun z=>by rcases h 0 x rfl m z with z|⟨p,z,_⟩<;>lia
 have lt:∀u,u<(if x=m then m+1 else m)<->u<m\/u=x:=fun u=>by split<;>lia
 obtain⟨M,e,hM⟩:=BV xs (if x=m then m+1 else m) (fun y hy=>i9 y (Uq _ hy)) fun j y hy u hu=>by rw[lt];rcases h (j+1) y (by simpa using hy) u hu with z|⟨p,z,e⟩;exact .inl (.inl z);cases p with|zero=>exact .inl (.inr (by simpa[eq_comm] using e))|succ p=>exact .inr ⟨p,Qt,by simpa using e⟩
 refine⟨M,?_,fun u=>by rw[hM,lt,List.mem_cons,or_assoc]⟩;have:=i9 x Bl;rw[P6,asc,Wr Qt,<-e];congr 1;split<;>split<;>lia
theorem IZ(n:Nat)(f:Nat->Nat)(m:Nat)(i9:∀j<n,f j<14)(h2:∀j<n,∀u<f j,∃p<j,f p=u)(h:∀u,u∈(List.range n).map f<->u<m):wy (bN ((List.range n).map f))=some (Z (j3 m)):=by
 obtain⟨M,e,hM⟩:=BV ((List.range n).map f) 0 (fun x hx=>by obtain⟨j,hj,rfl⟩:=List.mem_map.mp hx;exact i9 j (List.mem_range.mp hj)) fun j x hx u hu=>by rw[LM] at hx;obtain⟨k,hk,rfl⟩:=Option.map_eq_some_iff.mp hx;obtain⟨rfl,hk⟩:=cR hk;obtain⟨p,hp,e⟩:=h2 k hk u hu;exact .inr ⟨p,hp,by rw[LM,DW Qt];exact congrArg some e⟩
 have eM:M=m:=by
  have a:=(hM M).trans (or_iff_right Qt) |>.trans (h M);have b:=(hM m).trans (or_iff_right Qt) |>.trans (h m)
  lia
 generalize (List.range n).map f=xs at *;have e1:dm (xs.map fun(k:Nat)=>D.int (k:Int))=some (xs.map fun(k:Nat)=>(k:Int)):=by have:=iF (xs.map fun(k:Nat)=>(k:Int));rwa [E1] at this
 show (match dm (xs.map fun(k:Nat)=>D.int (k:Int)) with|some ns=>(asc 0 ns).map fun m=>D.lst ((List.range m).map fun(k:Nat)=>.int k)|none=>none)=_;rw[e1];dsimp only;rw[e,eM,Qy];unfold Z j3;rw[E1];rfl
section
variable{n:Nat}{as:Ue}{X:Nat->D}{rd:Nat->Ue}{ss:Rp}(L:OU n as X rd ss)
def de(as:Ue)(U:Wo)(p:Nat):Nat:=(d8 U (as.getD p 0)).getD 0
def sQ(as:Ue)(R:Wo)(p:Nat):Nat:=(d8 R (as.getD p 0)).getD 0
include L
theorem IE{U R:Wo}{la:Nat}(hU:rH as rd as.length U)(hR:uR as rd as.length R)(Xy:as.getD (as.length-1) 0=la) :
  (∀p<as.length,d8 (mW la as.length U) (as.getD p 0)=some (de as (mW la as.length U) p)/\d8 R (as.getD p 0)=some (sQ as R p)) /\
  (∀j<as.length,∀p<j,j<=de as (mW la as.length U) p->sQ as R p≠sQ as R j)/\∀j<as.length,∀u<sQ as R j,∃p<j,j<=de as (mW la as.length U) p/\sQ as R p=u:=by
 obtain⟨p1,p2,p3⟩:=hR;have has:=List.length_pos_iff.mpr L.some;have hr:∀p<as.length,d8 R (as.getD p 0)=some (sQ as R p):=fun p hp=>by obtain⟨v,hv,_⟩:=p3 p hp;unfold sQ;rw[hv];rfl
 have hl:∀p,p+1<as.length->∃v,d8 U (as.getD p 0)=some v/\d8 (mW la as.length U) (as.getD p 0)=some v:=fun p hp=>by
  obtain⟨a,ha,hr⟩:=L.all p hp;obtain⟨q,hq,e⟩:=at_of L ha;rw[<-e] at hr;obtain⟨v,_,h⟩:=hU.2 q hq _ hr;refine⟨v,h,?_⟩;rw[gZ,Uu fun z=>?_,h];have:=xb L (i:=as.length-1) (j:=p) Qt Qt (by rw[Xy];exact z)
  lia
 have hu:∀p<as.length,d8 (mW la as.length U) (as.getD p 0)=some (de as (mW la as.length U) p):=fun p hp=>by unfold de;by_cases c:p+1<as.length;obtain⟨v,_,h⟩:=hl p c;rw[h];rfl;rw[show p=as.length-1 by lia,Xy,gZ,Wr rfl];rfl
 have li:∀p j,p<j->j<as.length->(TB as rd p j<->j<=de as (mW la as.length U) p):=fun p j hp hj=>by obtain⟨v,h1,h2⟩:=hl p Qt;have:=hu p Qt;rw[h2] at this;rw[<-OH this];exact hU.uniq h1 j
 refine⟨fun p hp=>⟨hu p hp,hr p hp⟩,fun j hj p hp h e=>?_,fun j hj u h=>?_⟩;obtain⟨v,h1,h2,_⟩:=p3 j hj;refine h2 p hp ((li p j hp hj).mpr h) ?_;rw[hr p Qt,e,<-hr j hj,h1];obtain⟨v,h1,_,h3⟩:=p3 j hj;have:=hr j hj;rw[h1] at this;obtain⟨p,hp,h4,h5⟩:=h3 u (by rw[OH this];exact h);refine⟨p,hp,(li p j hp hj).mp h4,?_⟩;rw[hr p Qt] at h5;exact OH h5
end
theorem K0{R:Wo}:(R.map (·.1)).Nodup->∀p∈R,d8 R p.1=some p.2:=by induction R with|nil=>intro _ p h;cases h|cons q R ih=>intro hn p hp;have hn:=List.nodup_cons.mp hn;rw[d8];rcases List.mem_cons.mp hp with rfl|hp;rw[Wr rfl];rw[Uu fun z=>hn.1 (by show q.1∈_;rw[z];exact CR (f:=(·.1)) hp)];exact ih hn.2 p hp
theorem Q0q(un:Nat->Nat)(i:Nat):(kQ un i++[i]).filter (fun p=>decide (i+1<=un p))=kQ un (i+1):=by unfold kQ;rw[List.range_succ,List.filter_append,List.filter_append,List.filter_filter];congr 1;refine List.filter_congr fun p _=>?_;by_cases h:i+1<=un p;simp[h,show i<=un p by lia];simp[h]
theorem Ml(ns:T1):C9 [Z ns]=.ok (.bl true) []:=by
 obtain⟨ls,ss,gs,ix_,q,e1,g,J4,i9⟩:=x9 ns 0;have hn:=List.length_pos_iff.mpr g.ne;obtain⟨as,X,rd,R,ys,e2,L,hl,sA,hR,XN,XO⟩:=Q0A g i9;have has:=List.length_pos_iff.mpr L.some;obtain⟨pl,jA⟩:∃pl,pl=TJ as X R ys:=⟨_,rfl⟩;have fr:aY gC "row_of" pl=some (Dc R):=by rw[jA];kernel_rfl!
 have fl:aY fO "loops" pl=some (mR as X):=by rw[jA];kernel_rfl!
 have fg:aY i6 "lengths" pl=some (Z ys):=by rw[jA];kernel_rfl!
 rw[<-jA] at e2;obtain⟨dr,Vm⟩:∃dr,dr=D.tup [Pg ls,ck ss,.int gs.length,ck gs]:=⟨_,rfl⟩;have d0:au dr (.int 0)=some (Pg ls):=by rw[Vm];rfl
 have d3:au dr (.int 3)=some (ck gs):=by rw[Vm];rfl
 rw[<-Vm] at e1;have l0:iI (Pg ls)=some (Pg ls):=rfl;have l3:iI (ck gs)=some (ck gs):=rfl;have mcl:nC vm (dB [(af 0),(mC (.int 0))]) [.sh (Z ns),.no,.no,.no,.no,.no,.no,.no,.no,.no,.no,.no]=.ok dr [.sh (Z ns),.no,.no,.no,.no,.no,.no,.no,.no,.no,.no,.no]:=CP (d:=.lst [Z ns,.int 0]) aG e1;obtain⟨rs,QY⟩:=ur (as:=as) (P:=fun(a:Nat)(rs:Ue)=>ou [X a]=.ok (bN rs) []/\∀r,r∈rs<->r∈rd a) hl;have en:=xk as X;obtain⟨U,t,ht,Lp,hU⟩:=vN L (g1:=aD 6) (g2:=cz [4,5]) (lp1:=qu) (lp2:=qv) rs (fun a ha=>(QY a ha).2) (fun m t=>[.sh (Z ns),.sh dr,.sh pl,.ow (Dc m),t.1,t.2.1,t.2.2,.no,.no,.no,.no,.no]) (fun k m t=>[.sh (Z ns),.sh dr,.sh pl,.ow (Dc m),.sh (.int k),.sh (X (as.getD k 0)),t,.no,.no,.no,.no,.no]) (fun k r m t hk ht pt=>by
   have hf:free (some t)=true:=ht;generalize X (as.getD k 0)=xa at *;have e:aD 6 (.int (r:Int)) [.sh (Z ns),.sh dr,.sh pl,.ow (Dc m),.sh (.int k),.sh xa,t,.no,.no,.no,.no,.no]=.ok () [.sh (Z ns),.sh dr,.sh pl,.ow (Dc m),.sh (.int k),.sh xa,.sh (.int r),.no,.no,.no,.no,.no]:=by simp[hf]
   rw[bq,e,aA];unfold qu;exact aG) fun k m m' t s hk ht Li=>by
  obtain⟨t2,t3,t4⟩:=t;obtain⟨f2,f3,f4⟩:=ht;dsimp only at f2 f3 f4 Li ⊢;have rb:=(QY _ (mX hk)).1;have YS:cq (bN (rs (as.getD k 0)))=some ((rs (as.getD k 0)).map fun(r:Nat)=>D.int (r:Int)):=rfl;generalize (rs (as.getD k 0)).map (fun(r:Nat)=>D.int (r:Int))=rl at *;generalize bN (rs (as.getD k 0))=ZV at *;generalize X (as.getD k 0)=xa at *;have e:cz [4,5] (.tup [.int (k:Int),xa]) [.sh (Z ns),.sh dr,.sh pl,.ow (Dc m),t2,t3,t4,.no,.no,.no,.no,.no]=.ok () [.sh (Z ns),.sh dr,.sh pl,.ow (Dc m),.sh (.int k),.sh xa,t4,.no,.no,.no,.no,.no]:=by simp[f2,f3]
  rw[bq,e,aA];unfold qv;exact aG
 obtain⟨u4,u5,u6⟩:=t;obtain⟨f4,f5,f6⟩:=ht;dsimp only at Lp;have ln:=km ls;have su:gU (.int (ls.length:Int)) (.int 1)=some (.int ((ls.length-1:Nat):Int)):=congrArg (fun z=>some (D.int z)) Qt;have lx:bz (mR as X)=some (.int (as.length:Int)):=by show some (D.int ((as.map X).length:Int))=_;rw[uG]
 obtain⟨B,H1,H2⟩:=IE L hU hR sA;generalize ls.length-1=la at *;have pt:=yb U la as.length (by have:=hU.1.1.ki;lia);generalize mW la as.length U=V at *;have turn:∀(i:Nat),i<as.length->∀(nd:Ue)(t:Sl×Sl×Sl×Sl),(free (some t.1)=true/\free (some t.2.1)=true/\free (some t.2.2.1)=true/\free (some t.2.2.2)=true)->(nd.length<=i/\(∀p∈nd,p<as.length)/\nd.filter (fun p=>decide (i<=de as V p))=kQ (de as V) i)->∃t':Sl×Sl×Sl×Sl,(free (some t'.1)=true/\free (some t'.2.1)=true/\free (some t'.2.2.1)=true/\free (some t'.2.2.2)=true)/\bq (cz [4,5]) l6 (.tup [.int (i:Int),X (as.getD i 0)]) [.sh (Z ns),.sh dr,.sh pl,.ow (Dc V),t.1,t.2.1,u6,.sh (.int (gi (de as V) i:Nat)),.ow (bN (nd.map fun p=>as.getD p 0)),t.2.2.1,t.2.2.2,.no]=.ok .nx [.sh (Z ns),.sh dr,.sh pl,.ow (Dc V),t'.1,t'.2.1,u6,.sh (.int (gi (de as V) (i+1):Nat)),.ow (bN ((kQ (de as V) i++[i]).map fun p=>as.getD p 0)),t'.2.2.1,t'.2.2.2,.no]:=by
  intro i hi nd t ht hP;obtain⟨t4,t5,t9,Fq⟩:=t;obtain⟨f4,f5,f9,YD⟩:=ht;obtain⟨T6,hd2,Y0⟩:=hP;dsimp only at f4 f5 f9 YD ⊢;have li:=L.line _ (mX hi);obtain⟨bu,br⟩:=B i hi;have ZI:∀p∈kQ (de as V) i,p<as.length:=fun p hp=>by have:=gA.mp hp;lia
  have ki:=L.ki;have V3:(kQ (de as V) i).length<=i:=by have:=Yn (fun p=>decide (i<=de as V p)) (List.range i);rw[LZ] at this;exact this
  obtain⟨l8,h8⟩:∃l8,l8=(kQ (de as V) i).map fun p=>as.getD p 0:=⟨_,rfl⟩;obtain⟨l9,h9⟩:∃l9,l9=(kQ (de as V) i).map (sQ as R):=⟨_,rfl⟩;obtain⟨xa,VJ⟩:∃xa,xa=X (as.getD i 0):=⟨_,rfl⟩;rw[<-VJ] at li ⊢;have Ye:∀xs:Ue,cq (bN xs)=some (xs.map fun(r:Nat)=>D.int (r:Int)):=fun _=>rfl;have c1:aQ 1 (cJ (af 8)) (aD 12) lQ lM [.sh (Z ns),.sh dr,.sh pl,.sh (Dc V),.sh (.int i),.sh xa,bM u6,.sh (.int (gi (de as V) i:Nat)),.sh (bN (nd.map fun p=>as.getD p 0)),bM t9,bM Fq,.no]=.ok (.lst (l8.map fun(r:Nat)=>D.int (r:Int))) [.sh (Z ns),.sh dr,.sh pl,.sh (Dc V),.sh (.int i),.sh xa,bM u6,.sh (.int (gi (de as V) i:Nat)),.sh (bN (nd.map fun p=>as.getD p 0)),bM t9,bM Fq,.no]:=by
   have sq:cq (bN (nd.map fun p=>as.getD p 0))=some (nd.map fun p=>D.int (as.getD p 0:Nat)):=by rw[Ye,E1];rfl
   refine pY (fun(p:Nat)=>D.int (as.getD p 0:Nat)) (fun p=>decide (i<=de as V p)) (fun p=>D.int (as.getD p 0:Nat)) nd aG Qt (by rw[Y0,h8,E1];rfl) (fun p hp acc=>?_) fun p hp _ acc=>?_;have g1:=i8 V _ _ (B p (hd2 p hp)).1;have ge:OZ (.int (de as V p:Int)) (.int (i:Int))=some (.bl (decide (i<=de as V p))):=by rw[Du,decide_eq_decide.mpr (show (i:Int)<=de as V p<->i<=de as V p by lia)]
   clear sq;generalize de as V p=v at *;generalize bN (nd.map fun p=>as.getD p 0)=w at *;generalize as.getD p 0=x at *;unfold lQ;exact aG;clear sq;generalize bN (nd.map fun p=>as.getD p 0)=w at *;generalize as.getD p 0=x at *;unfold lM;exact aG
  have v1:ip (aQ 1 (cJ (af 8)) (aD 12) lQ lM) [.sh (Z ns),.sh dr,.sh pl,.ow (Dc V),.sh (.int i),.sh xa,u6,.sh (.int (gi (de as V) i:Nat)),.ow (bN (nd.map fun p=>as.getD p 0)),t9,Fq,.no]=.ok (bN l8) [.sh (Z ns),.sh dr,.sh pl,.ow (Dc V),.sh (.int i),.sh xa,u6,.sh (.int (gi (de as V) i:Nat)),.ow (bN (nd.map fun p=>as.getD p 0)),t9,Fq,.no]:=by rw[mf];simp only[List.map_cons,List.map_nil,j5,j6,mK];rw[c1,mJ _ _ _ (noLs_N l8)];rfl
  have c2:aQ 1 (cJ (af 8)) (aD 12) (VP.ret true) lN [.sh (Z ns),.sh dr,.sh pl,.sh (Dc V),.sh (.int i),.sh xa,bM u6,.sh (.int (gi (de as V) i:Nat)),.sh (bN l8),bM t9,bM Fq,.no]=.ok (.lst (l9.map fun(r:Nat)=>D.int (r:Int))) [.sh (Z ns),.sh dr,.sh pl,.sh (Dc V),.sh (.int i),.sh xa,bM u6,.sh (.int (gi (de as V) i:Nat)),.sh (bN l8),bM t9,bM Fq,.no]:=by
   have sq:cq (bN l8)=some ((kQ (de as V) i).map fun p=>D.int (as.getD p 0:Nat)):=by rw[Ye,h8,E1];rfl
   refine gJ (fun(p:Nat)=>D.int (as.getD p 0:Nat)) (fun p=>D.int (sQ as R p:Nat)) (kQ (de as V) i) aG Qt (by rw[h9,E1];rfl) fun p hp acc=>?_;have g1:=i8 R _ _ (B p (ZI p hp)).2;generalize sQ as R p=v at *;generalize bN l8=w at *;generalize as.getD p 0=x at *;unfold lN;exact aG
  have v2:ip (aQ 1 (cJ (af 8)) (aD 12) (VP.ret true) lN) [.sh (Z ns),.sh dr,.sh pl,.ow (Dc V),.sh (.int i),.sh xa,u6,.sh (.int (gi (de as V) i:Nat)),.ow (bN l8),t9,Fq,.no]=.ok (bN l9) [.sh (Z ns),.sh dr,.sh pl,.ow (Dc V),.sh (.int i),.sh xa,u6,.sh (.int (gi (de as V) i:Nat)),.ow (bN l8),t9,Fq,.no]:=by rw[mf];simp only[List.map_cons,List.map_nil,j5,j6,mK];rw[c2,mJ _ _ _ (noLs_N l9)];rfl
  obtain⟨r,ew,LS,Kb⟩:=zK (wc:=mO) (wb:=mN) (rows:=l9) (by rw[h9,uG];lia) (fun k=>[.sh (Z ns),.sh dr,.sh pl,.ow (Dc V),.sh (.int i),.sh xa,u6,.sh (.int (gi (de as V) i:Nat)),.ow (bN l8),.sh (bN l9),.sh (.int (k:Nat)),.no]) (fun k=>by
    have ik:=XS l9 k;generalize bN l9=w at *;unfold mO;exact aG) fun k=>by
   rw[show (((k+1:Nat)):Int)=(k:Int)+1 by lia];unfold mN;exact aG
  have er:r=sQ as R i:=by rcases Nat.lt_trichotomy r (sQ as R i) with z|z|z;obtain⟨p,hp,h1,h2⟩:=H2 i hi r z;exact absurd (by rw[h9];exact List.mem_map.mpr ⟨p,gA.mpr ⟨hp,h1⟩,h2⟩) LS;exact z;have:=Kb _ z;rw[h9] at this;obtain⟨p,hp,e⟩:=List.mem_map.mp this;have:=gA.mp hp;exact absurd e (H1 i hi p this.1 this.2)
  have ew:nT mO mN [.sh (Z ns),.sh dr,.sh pl,.ow (Dc V),.sh (.int i),.sh xa,u6,.sh (.int (gi (de as V) i:Nat)),.ow (bN l8),.sh (bN l9),.sh (.int 0),.no]=.ok .nx [.sh (Z ns),.sh dr,.sh pl,.ow (Dc V),.sh (.int i),.sh xa,u6,.sh (.int (gi (de as V) i:Nat)),.ow (bN l8),.sh (bN l9),.sh (.int r),.no]:=ew;rw[<-er] at br;have gr:=i8 R _ _ br;have n1:=Q1u V (as.getD i 0);rw[bu] at n1;have n1:AB true (.int (as.getD i 0:Nat)) (Dc V)=some (.bl false):=n1;have vv:nD (m2 (AB true) (m1 (aY cA "line") (af 5)) (af 3)) [.sh (Z ns),.sh dr,.sh pl,.ow (Dc V),.sh (.int i),.sh xa,u6,.sh (.int (gi (de as V) i:Nat)),.ow (bN l8),.sh (bN l9),.sh (.int r),.no]=.ok (.bl false) [.sh (Z ns),.sh dr,.sh pl,.ow (Dc V),.sh (.int i),.sh xa,u6,.sh (.int (gi (de as V) i:Nat)),.ow (bN l8),.sh (bN l9),.sh (.int r),.no]:=by rw[A3];simp only[List.map_cons,List.map_nil,j5,j6,mK];rw[show m2 _ _ _ _=.ok (.bl false) _ from aG];rfl
  have ne1:gD (.int (r:Int)) (.int (r:Int))=some (.bl false):=by rw[du,WN rfl];rfl
  have ap:gj (.int (as.getD i 0:Nat)) (bN l8)=some (bN ((kQ (de as V) i++[i]).map fun p=>as.getD p 0)):=by rw[BN,<-h8];show (if (l8.map _).length<16777216 then some (D.lst (l8.map _++[_])) else none)=_;rw[Wr (by rw[uG,h8,uG];lia)];unfold bN;rw[BN];rfl
  have ll:bz (bN ((kQ (de as V) i++[i]).map fun p=>as.getD p 0))=some (.int ((kQ (de as V) i).length+1:Nat)):=by show some (D.int ((List.map _ _).length:Int))=_;simp
  have mm:maxD [.int (gi (de as V) i:Nat),.int ((kQ (de as V) i).length+1:Nat)]=some (.int (gi (de as V) (i+1):Nat)):=by rw[gi];show some (D.int (if _ then _ else _))=_;congr 2;split<;>lia
  have il:∀xs,isLst (some (bN xs))=true:=fun _=>rfl;have il8:=il l8;refine⟨(.sh (.int i),.sh xa,.sh (bN l9),.sh (.int r)),⟨rfl,rfl,rfl,rfl⟩,?_⟩;have e:cz [4,5] (.tup [.int (i:Int),xa]) [.sh (Z ns),.sh dr,.sh pl,.ow (Dc V),t4,t5,u6,.sh (.int (gi (de as V) i:Nat)),.ow (bN (nd.map fun p=>as.getD p 0)),t9,Fq,.no]=.ok () [.sh (Z ns),.sh dr,.sh pl,.ow (Dc V),.sh (.int i),.sh xa,u6,.sh (.int (gi (de as V) i:Nat)),.ow (bN (nd.map fun p=>as.getD p 0)),t9,Fq,.no]:=by simp[f4,f5]
  rw[bq,e,aA];dsimp only;clear c1 c2 H1 H2 B LS Kb;generalize bN ((kQ (de as V) i++[i]).map fun p=>as.getD p 0)=n8 at *;generalize ((kQ (de as V) i).length+1:Nat)=k8 at *;generalize (gi (de as V) (i+1):Nat)=m8 at *;generalize (gi (de as V) i:Nat)=m7 at *;generalize bN (nd.map fun p=>as.getD p 0)=n7 at *;generalize bN l9=w9 at *;generalize as.getD i 0=ai at *;unfold l6;exact aG
 obtain⟨nd,t,hP,ht,Lq⟩:=cP (g:=cz [4,5]) (body:=l6) (fun(i:Nat)=>D.tup [.int i,X (as.getD i 0)]) (fun(s:Nat×List Nat)(t:Sl×Sl×Sl×Sl)=>[.sh (Z ns),.sh dr,.sh pl,.ow (Dc V),t.1,t.2.1,u6,.sh (.int (gi (de as V) s.1:Nat)),.ow (bN (s.2.map fun p=>as.getD p 0)),t.2.2.1,t.2.2.2,.no]) (fun t=>free (some t.1)=true/\free (some t.2.1)=true/\free (some t.2.2.1)=true/\free (some t.2.2.2)=true) (List.range as.length)
  (fun i s=>s.1=i/\s.2.length<=i/\(∀p∈s.2,p<as.length)/\s.2.filter (fun p=>decide (i<=de as V p))=kQ (de as V) i) (0,[]) (u4,u5,.no,.no) ⟨f4,f5,rfl,rfl⟩ ⟨rfl,Ro,Ro,rfl⟩ (by
  intro i k hk s t ht hP;obtain⟨rfl,hk⟩:=cR hk;obtain⟨s1,s2⟩:=s;obtain⟨rfl,hP⟩:=hP;obtain⟨t',VF,e⟩:=turn s1 hk s2 t ht hP;have V3:(kQ (de as V) s1).length<=s1:=by have:=Yn (fun p=>decide (s1<=de as V p)) (List.range s1);rw[LZ] at this;exact this
  refine⟨(s1+1,kQ (de as V) s1++[s1]),t',⟨rfl,by simp;lia,fun p hp=>?_,Q0q _ _⟩,VF,by dsimp only;rw[e];rfl⟩;rcases List.mem_append.mp hp with hp|hp;have:=gA.mp hp;lia;rw[List.mem_singleton.mp hp];exact hk)
 obtain⟨s1,s2⟩:=nd;obtain⟨v4,v5,v9,v10⟩:=t;obtain⟨VD,iM,VE⟩:=hP;rw[LZ] at VD;dsimp only at VD iM VE Lq;subst VD;have all:∀u,u∈(List.range as.length).map (sQ as R)<->u<gi (de as V) as.length:=fun u=>by constructor;intro h;obtain⟨p,hp,rfl⟩:=List.mem_map.mp h;exact uC H2 (List.mem_range.mp hp);intro h;obtain⟨p,hp,e⟩:=Aa H1 H2 h;exact List.mem_map.mpr ⟨p,List.mem_range.mpr hp,e⟩
 have ki:=L.ki;have m14:gi (de as V) as.length<=14:=by
  obtain⟨j,hj,e⟩:=uf (de as V) as.length has;have:=Yn (fun p=>decide (j<=de as V p)) (List.range j);rw[LZ] at this;have:(kQ (de as V) j).length<=j:=this
  lia
 have st:=IZ as.length (sQ as R) (gi (de as V) as.length) (fun j hj=>by have:=uC H2 hj;lia) (fun j hj u hu=>by obtain⟨p,h1,_,h3⟩:=H2 j hj u hu;exact⟨p,h1,h3⟩) all;have lr:=zL (gi (de as V) as.length) Qt;have yl:ys.length=gi (de as V) as.length:=by
  obtain⟨j0,_,e0⟩:=uf (de as V) as.length has;obtain⟨p,hp,e⟩:=Aa H1 H2 (u:=gi (de as V) as.length-1) Qt;have h1:=XN _ (pA R _ _ (B p hp).2);obtain⟨q,hq,h2⟩:=XO;have kk:=hR.1;rw[List.take_length] at kk;have hm:q.1∈as:=by rw[<-kk];exact CR hq
  obtain⟨j,hj,ej⟩:=at_of L hm;have h3:=K0 (by rw[kk];exact L.ord.imp fun h=>Uh h) q hq;have h4:=(B j hj).2;rw[ej,h3] at h4;have h5:=OH h4;have h6:=uC H2 hj;dsimp only at h1
  lia
 have ly:bz (Z ys)=some (.int (gi (de as V) as.length:Nat)):=by rw[<-yl];exact D7 ys
 have RN:as.map (fun a=>D.int ((d8 R a).getD 0:Nat))=((List.range as.length).map (sQ as R)).map fun(k:Nat)=>D.int (k:Int):=by refine FF Ro fun j h1 h2=>?_;simp at h1;simp[sQ,h1]
 have sx:cq (mR as X)=some (as.map X):=rfl;have c3:aQ 1 (cJ (m1 (aY fO "loops") (af 2))) (aD 12) (VP.ret true) pW [.sh (Z ns),.sh dr,.sh pl,.ow (Dc V),v4,v5,u6,.sh (.int (gi (de as V) as.length:Nat)),.ow (bN (s2.map fun p=>as.getD p 0)),v9,v10,.no]=.ok (bN ((List.range as.length).map (sQ as R))) [.sh (Z ns),.sh dr,.sh pl,.ow (Dc V),v4,v5,u6,.sh (.int (gi (de as V) as.length:Nat)),.ow (bN (s2.map fun p=>as.getD p 0)),v9,v10,.no]:=by refine gJ X (fun a=>D.int ((d8 R a).getD 0:Nat)) as aG Qt (by rw[RN];rfl) fun a ha acc=>?_;obtain⟨j,hj,rfl⟩:=at_of L ha;have li:=L.line _ ha;have g1:=i8 R _ _ (B j hj).2;have ev:(d8 R (as.getD j 0)).getD 0=sQ as R j:=rfl;rw[ev];generalize sQ as R j=v at *;generalize X (as.getD j 0)=xa at *;generalize as.getD j 0=x at *;generalize bN (s2.map fun p=>as.getD p 0)=w at *;unfold pW;exact aG
 have hD:Dc []=.hW [] []:=rfl;rw[hD] at Lp;have l8:bN (([]:Ue).map fun p=>as.getD p 0)=.lst []:=rfl;have m0:((gi (de as V) 0:Nat):Int)=0:=rfl;rw[l8,m0] at Lq;have eq1:=Q19 (j3 (gi (de as V) as.length)) (j3 (gi (de as V) as.length));rw[WN rfl] at eq1;have eq2:cn (.int (gi (de as V) as.length:Nat)) (.int (gi (de as V) as.length:Nat))=some (.bl true):=by rw[iZ,WN rfl]
 clear turn H1 H2 B all XN XO RN QY;generalize bN ((List.range as.length).map (sQ as R))=Ab at *;generalize bN (s2.map fun p=>as.getD p 0)=w at *;generalize Z (j3 (gi (de as V) as.length))=zu at *;generalize (gi (de as V) as.length:Nat)=mm at *;generalize mR as X=xs at *;generalize (List.range as.length).map (fun(i:Nat)=>D.tup [.int i,X (as.getD i 0)])=ds at *;generalize as.length=al at *;unfold C9 BX;exact rn
end LW
end
section
set_option Elab.async false
set_option maxRecDepth 100000
set_option maxHeartbeats 4000000
set_option linter.all false
namespace LW
open PySem PySem.Spec PyProof.Rows L2 VP VS
seal mU oh PV PB mQ PF Am yw PR yy uK wY BJ
def top(i:Nat):Stmt:=PySem.Challenge.pw_loomarrays_k21_whole_no_row_too_many.main.body.getD i (.Pass ⟨0,0,0,0⟩)
def L:KW where
 b:=["all","any","dict","enumerate","int","isinstance","len","list","max","range","reversed","set","sorted","tuple","zip"]
 n:=[("LONGEST_SIDE",.int 64),("MOST_CELLS",.int 4096),("MOST_LINES",.int 40),("MOST_SIDES",.int 4),("REST",.int 1000003)]
 t:=[("DEEDS",nX,rJ),("FORMS",nY,Q1t)]
 d:=([("_law_cells",top 85,["_law_sides"]),
  ("_law_changed",top 87,["_law_sides","_law_side","_law_size"]),
  ("_law_met",top 86,["_law_one","_law_other"]),
  ("_law_taken",top 84,["_law_row","_law_many"]),
  ("_law_more",top 90,["_law_row","_law_a","_law_sides","_law_way","_law_index"]),
  ("_law_sided",top 89,["_law_row","_law_a","_law_own","_law_way"]),
  ("_law_view",top 88,["_law_row","_law_a","_law_own","_law_way"]),
  ("_law_program",top 91,["_law_row"]),
  ("_law_nodes",top 93,["_law_node"]),
  ("_law_rows_read",top 94,["_law_loop"]),
  ("spreads",top 10,["program","sides","number","at"]),
  ("is_kept",top 9,["program","sides","at","naming"]),
  ("named_by",top 3,["line"]),
  ("naming_lines",top 8,["program","wanted","at"]),
  ("wanted_lines",top 6,["program"]),
  ("kept_lines",top 7,["program","sides"]),
  ("cells_in",top 22,["sides"]),
  ("lengths_of",top 82,["loops","row_of"]),
  ("reading_by",top 71,["way","strides","many"]),
  ("strides_of",top 23,["sides"]),
  ("part_standing",top 64,["number"]),
  ("part_moved",top 67,["part","begin","step"]),
  ("way_moved",top 66,["way","side","begin","step"]),
  ("way_spread",top 70,["way","own"])]:List wZ) ++
  ([("way_dropped",top 68,["way","side","place"]),
  ("way_turned",top 65,["way","order"]),
  ("way_widened",top 69,["way","side"]),
  ("straight_way",top 63,["many"]),
  ("loop_of",top 75,["program","sides","kept","at"]),
  ("lines_read_in",top 77,["tree"]),
  ("lines_read_by",top 78,["loop"]),
  ("last_readings",top 79,["loops"]),
  ("lowest_beside",top 81,["rows"]),
  ("rows_of",top 80,["loops"]),
  ("deed_is_known",top 4,["line"]),
  ("is_rest",top 13,["number"]),
  ("number_is_cell",top 34,["line"]),
  ("places_are_there",top 33,["line","lines_ahead","tables"]),
  ("sides_can_be",top 21,["sides"]),
  ("has_side",top 37,["sides","side"]),
  ("without",top 26,["row","side"]),
  ("folded_sides",top 43,["deed","sides","side"]),
  ("replaced",top 28,["row","side","number"]),
  ("joined_sides",top 45,["one","other","side"]),
  ("picked_sides",top 44,["sides","side","places"]),
  ("with_ones_ahead",top 25,["sides","many"]),
  ("sides_met",top 24,["one","other"]),
  ("has_place",top 38,["sides","side","place"])]:List wZ) ++
  ([("cut_sides",top 40,["sides","side","begin","step","many"]),
  ("dropped_sides",top 41,["sides","side","place"]),
  ("put_in",top 27,["row","side","number"]),
  ("turned_sides",top 39,["sides","order"]),
  ("sides_viewed",top 36,["line","sides"]),
  ("three_met",top 42,["one","other","third"]),
  ("sides_told",top 35,["line","ahead","given"]),
  ("sides_looked_over",top 32,["at","line","ahead","given"]),
  ("sides_of",top 31,["program","given"]),
  ("plan_of",top 74,["program","given"]),
  ("law",top 95,["_law_script"])]:List wZ)
 m:=([("Plan","__init__","Plan.__init__",false,inClass (top 73) 0,["self","loops","row_of","lengths"]),
  ("Loop","__init__","Loop.__init__",true,inClass (top 47) 0,["self","line","sides"]),
  ("Fill","__init__","Fill.__init__",false,inClass (top 49) 0,["self","line","sides","tree"]),
  ("Fold","__init__","Fold.__init__",false,inClass (top 50) 0,["self","line","sides","side","size","deed","tree"]),
  ("Load","__init__","Load.__init__",false,inClass (top 48) 0,["self","line","sides","table"]),
  ("Pick","__init__","Pick.__init__",false,inClass (top 52) 0,["self","line","sides","side","source","places","source_sides"]),
  ("Through","__init__","Through.__init__",false,inClass (top 51) 0,["self","line","sides","side","deed","tree"]),
  ("Weaver","__init__","Weaver.__init__",false,inClass (top 76) 0,["self","program","sides","kept","many"]),
  ("Both","__init__","Both.__init__",false,inClass (top 58) 0,["self","deed","left","right"]),
  ("Even","__init__","Even.__init__",false,inClass (top 55) 0,["self","number"]),
  ("One","__init__","One.__init__",false,inClass (top 57) 0,["self","deed","inner"]),
  ("Read","__init__","Read.__init__",false,inClass (top 56) 0,["self","line","start","steps"]),
  ("Weaver","row_read","Weaver.row_read",false,inClass (top 76) 2,["self","at","way","sides"]),
  ("Joined","__init__","Joined.__init__",false,inClass (top 61) 0,["self","part","size","ahead","behind"]),
  ("Within","__init__","Within.__init__",false,inClass (top 60) 0,["self","part","size","inner","number"]),
  ("Where","__init__","Where.__init__",false,inClass (top 59) 0,["self","asked","left","right"]),
  ("Weaver","tree_named","Weaver.tree_named",false,inClass (top 76) 1,["self","at","way"]),
  ("Weaver","tree_made","Weaver.tree_made",false,inClass (top 76) 3,["self","at","way"]),
  ("Weaver","tree_viewed","Weaver.tree_viewed",false,inClass (top 76) 4,["self","line","way"]),
  ("Weaver","tree_spread","Weaver.tree_spread",false,inClass (top 76) 5,["self","at","way"]),
  ("Weaver","tree_shifted","Weaver.tree_shifted",false,inClass (top 76) 6,["self","at","side","by","number","way"]),
  ("Weaver","tree_joined","Weaver.tree_joined",false,inClass (top 76) 7,["self","ahead","behind","side","way"])]:List BL)
 k:=["Plan","Loop","Fill","Fold","Load","Pick","Through","Weaver","Both","Even","One","Read","Joined","Within","Where"]
 f:=([("ahead",iD),
  ("asked",iE),
  ("behind",gB),
  ("deed",lU),
  ("inner",eJ),
  ("kept",pC),
  ("left",fH),
  ("lengths",i6),
  ("line",cA),
  ("loops",fO),
  ("many",pE),
  ("number",ng),
  ("part",tO),
  ("places",kg),
  ("program",i7),
  ("right",dE),
  ("row_of",gC),
  ("side",pF),
  ("sides",cC),
  ("size",pG),
  ("source",kh),
  ("source_sides",jt),
  ("start",vq),
  ("steps",vt)]:List (Str×List Str)) ++
  ([("table",vx),
  ("tree",fI)]:List (Str×List Str))
 a:=["Both","Even","Joined","One","Read","Where","Within","Fill","Fold","Load","Pick","Through"]
 i:=[("Both",cD),("Joined",b9),("Load",iG),("One",gu),("Pick",iH),("Read",eL),("Where",bY),("Within",dq)]
 j:=[("One","Within",cb)]
section
variable{P:Program}{w:World}{K:Frag}{mg:MG}{base:Heap}{a:Ga}(T:Txt L w K mg a)
theorem EC:Cl P base T "_law_cells" 1 [false] vj:=fc ["_law_found","_law_size"] B9 (T.d 0 rfl) fun S hr=>(ae (b8 1 S.nd ak) (ae (qW (cG (aa 0)) (jD 2 S.nd) (ae (b8 1 S.nd (aH iu kN (aa 1) (aa 2))) ah)) (ae (aw (aa 1)) ah)))
theorem qA:Cl P base T "_law_changed" 1 [false,false,false] kK:=fc [] Ca (T.d 1 rfl) fun S hr=>(ae (aw (aH aJ aR (aH aJ aR (dG (aa 0) bK (bL (aa 1))) (aL (aj (aa 2) ax))) (dG (aa 0) (bL (aH aJ aR (aa 1) ak)) bK))) ah)
theorem qB:Cl P base T "_law_met" 1 [false,false] iC:=fc ["_law_many","_law_left","_law_right","_law_found","_law_k"] yG (T.d 2 rfl) fun S hr=>(ae (b8 2 S.nd (jW (iA rfl) vE rfl (T.b 8) boot_max (aj (bZ (T.b 6) (PV.rd (aa 0))) (aj (bZ (T.b 6) (PV.rd (aa 1))) ax)))) (ae (b8 3 S.nd (aH aJ aR (aH zU Ds (aL (aj ak ax)) (aH cZ eX (aa 2) (bZ (T.b 6) (PV.rd (aa 0))))) (aa 0))) (ae (b8 4 S.nd (aH aJ aR (aH zU Ds (aL (aj ak ax)) (aH cZ eX (aa 2) (bZ (T.b 6) (PV.rd (aa 1))))) (aa 1))) (ae (b8 5 S.nd (aL ax)) (ae (qW (b7 rfl (T.b 9) (aj (aa 2) ax)) (jD 6 S.nd) (ae (aE (mQ.pb (jT (wN hr (ay (aa 3) (aa 6)) (ay (aa 4) (aa 6))) (jT (wN hr (ay (aa 3) (aa 6)) ak) (ku (wN hr (ay (aa 4) (aa 6)) ak))))) (ae (aw cg) ah) ah) (ae (b8 5 S.nd (aH aJ aR (aa 5) (aL (aj (ay (PF.pv (bI (aj (ay (aa 3) (aa 6)) (aj (ay (aa 4) (aa 6)) ax)))) (qL m6 xn rfl (T.b 4) boot_int (aj (gc (qD hr.units) vB (ay (aa 3) (aa 6)) ak (bH _)) ax))) ax)))) ah))) (ae (aw (aa 5)) ah))))))
theorem bo:Cl P base T "_law_taken" 1 [true,false] bC:=fc ["_law_at"] Cf (T.d 3 rfl) fun S hr=>(ae (b8 2 S.nd (bf 0 ak)) (ae (gV 0 ak (aH aJ aR (aa 2) ak)) (ae (aE (bW kS rh (aa 2) (bZ (T.b 6) (PV.rd (bf 0 ak))) (bH _)) (ae (aw (aH lu qi (ay (bf 0 ak) (aa 2)) (aa 1))) ah) ah) (ae (aw ak) ah))))
theorem MZ:Cl P base T "_law_more" 2 [true,false,true,false,false] eW:=fc ["_law_own","_law_b","_law_deed","_law_c","_law_found","_law_side"] lK (T.d 4 rfl) fun S hr=>(ae (b8 5 S.nd (bf 2 (aa 1))) (ae (b8 6 S.nd (bp (bo T) hr (aX 0 (ag (bZ (T.b 6) (iy 2)) aq)))) (ae (aE (dR hr (aa 3) ak) (ae (aw (aL (aj (aL (aj aB (aj (ay (PF.pv (bI (aj aB (aj aB (aj aB ax))))) (bp (bo T) hr (aX 0 (ag ak aq)))) (aj (aa 1) ax)))) (aj (aa 5) ax)))) ah) ah) (ae (aE (dR hr (aa 3) ak) (ae (b8 7 S.nd (ay (PF.pv (bI (aj aB (aj aB (aj aB (aj aB (aj aB (aj aB (aj aB ax))))))))) (bp (bo T) hr (aX 0 (ag ak aq))))) (ae (aE (bW qE vD (bp (qB T) hr (ag (aa 5) (ag (bf 2 (aa 6)) aq))) cg (bH _)) (ae (b8 6 S.nd (aa 1)) ah) ah) (ae (aw (aL (aj (aL (aj aB (aj (aa 7) (aj (aa 1) (aj (aa 6) ax))))) (aj (bp (qB T) hr (ag (aa 5) (ag (bf 2 (aa 6)) aq))) ax)))) ah))) ah) (ae (aE (dR hr (aa 3) ak) (ae (b8 8 S.nd (bp (bo T) hr (aX 0 (ag (bZ (T.b 6) (iy 2)) aq)))) (ae (b8 9 S.nd (bp (qB T) hr (ag (aa 5) (ag (bf 2 (aa 6)) aq)))) (ae (aE (mQ.pb (gS (bW qE vD (aa 9) cg (bH _)) (fB (bW qE vD (bp (qB T) hr (ag (aa 9) (ag (bf 2 (aa 8)) aq))) cg (bH _))))) (ae (aw (aL (aj (aL (aj aB (aj (aa 1) (aj (aa 1) (aj (aa 1) ax))))) (aj (aa 5) ax)))) ah) ah) (ae (aw (aL (aj (aL (aj aB (aj (aa 6) (aj (aa 1) (aj (aa 8) ax))))) (aj (bp (qB T) hr (ag (aa 9) (ag (bf 2 (aa 8)) aq))) ax)))) ah)))) ah) (ae (aE (dR hr (aa 3) ak) (ae (b8 9 S.nd (we (T.b 13) (PV.rd (PF.pv (vZ 1 ["_law_row","_law_a","_law_sides","_law_way","_law_index","_law_own","_law_b","_law_deed","_law_c","_law_found","_law_side","_law_k","?acc11"] (b7 rfl (T.b 9) (aj (bp (bo T) hr (aX 0 (ag ak aq))) ax)) (fun nd=>(jD 11 nd)) bO (aH aJ aR ak (bp (bo T) hr (aX 0 (ag ak aq))))))))) (ae (aw (aL (aj (aL (aj aB (aj (aa 9) (aj (bp (bo T) hr (aX 0 (ag ak aq))) ax)))) (aj (aa 9) ax)))) ah)) ah) (ae (aE (dR hr (aa 5) (aL ax)) (ae (aw (aL (aj (aL (aj aB (aj aB (aj (aa 1) ax)))) (aj (aa 5) ax)))) ah) ah) (ae (b8 10 S.nd (bp (bo T) hr (aX 0 (ag (bZ (T.b 6) (PV.rd (aa 5))) aq)))) (ae (aE (dR hr (aa 3) ak) (ae (aE (mQ.pb (gS (bW kS rh (bp (bo T) hr (aX 0 (ag ak aq))) ak (bH _)) (fB (wN hr (bZ (T.b 6) (PV.rd (bf 2 (aa 6)))) ak)))) (ae (b8 6 S.nd (aa 4)) ah) ah) (ae (aw (aL (aj (aL (aj aB (aj (aa 1) (aj (aa 10) (aj (aa 6) ax))))) (aj (bp (qA T) hr (ag (aa 5) (ag (aa 10) (ag (ay (bf 2 (aa 6)) ak) aq)))) ax)))) ah)) ah) (ae (aE (mQ.pb (gS (wN hr (bZ (T.b 6) (PV.rd (bf 2 (aa 6)))) (bZ (T.b 6) (PV.rd (aa 5)))) (fB (wN hr (bp (qA T) hr (ag (aa 5) (ag (aa 10) (ag ak aq)))) (bp (qA T) hr (ag (bf 2 (aa 6)) (ag (aa 10) (ag ak aq)))))))) (ae (b8 6 S.nd (aa 1)) ah) ah) (ae (aw (aL (aj (aL (aj aB (aj (aa 1) (aj (aa 6) (aj (aa 10) ax))))) (aj (bp (qA T) hr (ag (aa 5) (ag (aa 10) (ag (aH aJ aR (ay (aa 5) (aa 10)) (ay (bf 2 (aa 6)) (aa 10))) aq)))) ax)))) ah)))))))))))
theorem M4:Cl P base T "_law_sided" 2 [true,false,false,false] vn:=fc ["_law_side","_law_size","_law_folds","_law_by","_law_deed","_law_begin","_law_step","_law_room","_law_many"] Ce (T.d 5 rfl) fun S hr=>(ae (b8 4 S.nd (bp (bo T) hr (aX 0 (ag (bZ (T.b 6) (PV.rd (aa 2))) aq)))) (ae (b8 5 S.nd (ay (aa 2) (aa 4))) (ae (b8 6 S.nd (PF.pv (bI (aj aB (aj aB (aj aB (aj aB ax))))))) (ae (aE (dR hr (aa 3) ak) (ae (b8 7 S.nd (aH cZ eX (bp (bo T) hr (aX 0 (ag ak aq))) ak)) (ae (aw (aL (aj (aL (aj aB (aj (aa 1) (aj (aa 4) (aj (aa 7) (aj (bp (bo T) hr (aX 0 (ag ak aq))) ax)))))) (aj (aa 2) ax)))) ah)) ah) (ae (aE (dR hr (aa 3) ak) (ae (b8 8 S.nd (ay (aa 6) (aH lu qi (bp (bo T) hr (aX 0 (ag ak aq))) (ay (PF.pv (bI (aj ak (aj ak ax)))) (qL m6 xn rfl (T.b 4) boot_int (aj (gc oK vC (aa 5) ak (bH _)) ax)))))) (ae (aw (aL (aj (aL (aj aB (aj (aa 8) (aj (aa 1) (aj (aa 4) ax))))) (aj (aH aJ aR (dG (aa 2) bK (bL (aa 4))) (dG (aa 2) (bL (aH aJ aR (aa 4) ak)) bK)) ax)))) ah)) ah) (ae (aE (dR hr (aa 3) ak) (ae (aw (aL (aj (aL (aj aB (aj (ay (aa 6) (bp (bo T) hr (aX 0 (ag ak aq)))) (aj (aa 1) (aj (aa 4) ax))))) (aj (aa 2) ax)))) ah) ah) (ae (aE (dR hr (aa 5) ak) (ae (aw (aL (aj (aL (aj aB (aj aB (aj (aa 1) ax)))) (aj (aa 2) ax)))) ah) ah) (ae (b8 9 S.nd (bp (bo T) hr (aX 0 (ag (aa 5) aq)))) (ae (aE (dR hr (aa 3) ak) (ae (aw (aL (aj (aL (aj aB (aj (aa 1) (aj (aa 4) (aj (aa 9) ax))))) (aj (aH aJ aR (dG (aa 2) bK (bL (aa 4))) (dG (aa 2) (bL (aH aJ aR (aa 4) ak)) bK)) ax)))) ah) ah) (ae (b8 10 S.nd (aH aJ aR ak (bp (bo T) hr (aX 0 (ag ak aq))))) (ae (b8 11 S.nd (aH zT Dq (aH cZ eX (aH cZ eX (aa 5) ak) (aa 9)) (aa 10))) (ae (aE (dR hr (bp (bo T) hr (aX 0 (ag ak aq))) ak) (ae (b8 11 S.nd (aH zT Dq (aa 9) (aa 10))) (ae (b8 10 S.nd (aH cZ eX ak (aa 10))) ah)) ah) (ae (b8 12 S.nd (aH cZ eX (aH aJ aR (aa 11) ak) (bp (bo T) hr (aX 0 (ag (aH aJ aR (aa 11) ak) aq))))) (ae (aw (aL (aj (aL (aj aB (aj (aa 1) (aj (aa 4) (aj (aa 9) (aj (aa 10) (aj (aa 12) ax))))))) (aj (bp (qA T) hr (ag (aa 2) (ag (aa 4) (ag (aa 12) aq)))) ax)))) ah))))))))))))))
theorem M5:Cl P base T "_law_view" 2 [true,false,false,false] hZ:=fc ["_law_many","_law_turn","_law_order","_law_at","_law_sides","_law_cells_here"] om (T.d 6 rfl) fun S hr=>(ae (b8 4 S.nd (bZ (T.b 6) (PV.rd (aa 2)))) (ae (aE (dR hr (aa 3) ak) (ae (b8 5 S.nd (bp (bo T) hr (aX 0 (ag (jW (iA rfl) vE rfl (T.b 8) boot_max (aj ak (aj (aa 4) ax))) aq)))) (ae (Ai 1 6 S.nd rfl (Or.inl rfl) rfl (N':=["_law_row","_law_a","_law_own","_law_way","_law_many","_law_turn","_law_order","_law_at","_law_sides","_law_cells_here","_law_k","?acc10"]) ⟨rfl,by kernel_rfl⟩ rfl (b7 rfl (T.b 9) (aj (aa 4) ax)) dH (gK (by kernel_rfl)) (fun C s H ex=>(jD 10 (FW ["_law_row","_law_a","_law_own","_law_way","_law_many","_law_turn","_law_order","_law_at","_law_sides","_law_cells_here","_law_k","?acc10"]))) (fun C s H ex _=>bO) (fun C s H ex _=>(aH lu qi (aH aJ aR (aa 10) (aa 5)) (aa 4)))) (ae (aE (dR hr (bp (bo T) hr (aX 0 (ag ak aq))) ak) (ae (b8 6 S.nd (PF.pv (HX rfl (T.b 10) rfl (T.b 7) (PV.rd (aa 6))))) ah) ah) (ae (aw (aL (aj (aL (aj aB (aj (aa 1) (aj (we (T.b 13) (PV.rd (aa 6))) ax)))) (aj (we (T.b 13) (PV.rd (PF.pv (vZ 1 ["_law_row","_law_a","_law_own","_law_way","_law_many","_law_turn","_law_order","_law_at","_law_sides","_law_cells_here","_law_k","?acc10"] (cG (aa 6)) (fun nd=>(jD 10 nd)) bO (ay (aa 2) (aa 10)))))) ax)))) ah)))) ah) (ae (aE (dR hr (aa 3) ak) (ae (b8 7 S.nd (bp (bo T) hr (aX 0 (ag (aH aJ aR (aa 4) ak) aq)))) (ae (aw (aL (aj (aL (aj aB (aj (aa 1) (aj (aa 7) ax)))) (aj (aH aJ aR (aH aJ aR (dG (aa 2) bK (bL (aa 7))) (aL (aj ak ax))) (dG (aa 2) (bL (aa 7)) bK)) ax)))) ah)) ah) (ae (aE (dR hr (aa 3) ak) (ae (b8 8 S.nd (we (T.b 13) (PV.rd (PF.pv (vZ 1 ["_law_row","_law_a","_law_own","_law_way","_law_many","_law_turn","_law_order","_law_at","_law_sides","_law_cells_here","_law_size","?acc10"] (cG (aa 2)) (fun nd=>(jD 10 nd)) bO (ay (PF.pv (bI (aj (aa 10) (aj (bp (bo T) hr (aX 0 (ag ak aq))) ax)))) (qL m6 xn rfl (T.b 4) boot_int (aj (gc (qD hr.units) vB (aa 10) ak (bH _)) ax)))))))) (ae (aE (dR hr (bp (bo T) hr (aX 0 (ag ak aq))) ak) (ae (b8 8 S.nd (aH aJ aR (aL (aj (bp (bo T) hr (aX 0 (ag ak aq))) ax)) (aa 8))) ah) ah) (ae (aw (aL (aj (aL (aj aB (aj (aa 1) (aj (aa 8) ax)))) (aj (aa 8) ax)))) ah))) ah) (ae (b8 9 S.nd (bp (EC T) hr (ag (aa 2) aq))) (ae (b8 8 S.nd (ay (PF.pv (bI (aj (z6 rfl (T.b 10) rfl (T.b 13) (PV.rd (aa 2))) (aj (aL (aj (aa 9) ax)) (aj (aL (aj ak (aj (aa 9) ax))) (aj (aL (aj (aa 9) (aj ak ax))) ax)))))) (bp (bo T) hr (aX 0 (ag ak aq))))) (ae (aw (aL (aj (aL (aj aB (aj (aa 1) (aj (aa 8) ax)))) (aj (aa 8) ax)))) ah)))))))
theorem M1:Cl P base T "_law_program" 3 [true] vm:=fc ["_law_given","_law_k","_law_many","_law_count","_law_turn","_law_program_here","_law_sides","_law_index","_law_a","_law_way","_law_found"] Cc (T.d 7 rfl) fun S hr=>(ae (BH 1 S.nd (bI ax)) (ae (qW (b7 rfl (T.b 9) (aj (aH aJ aR ak (bp (bo T) hr (aX 0 (ag ak aq)))) ax)) (jD 2 S.nd) (ae (b8 3 S.nd (bp (bo T) hr (aX 0 (ag ak aq)))) (ae (Jo 1 (we (T.b 13) (PV.rd (PF.pv (vZ 1 ["_law_row","_law_given","_law_k","_law_many","_law_count","_law_turn","_law_program_here","_law_sides","_law_index","_law_a","_law_way","_law_found","_law_j","?acc12"] (b7 rfl (T.b 9) (aj (aa 3) ax)) (fun nd=>(jD 12 nd)) bO (ay (PF.pv (bI (aj ak (aj ak (aj ak (aj ak (aj ak (aj ak (aj ak (aj ak ax)))))))))) (bp (bo T) hr (aX 0 (ag ak aq))))))))) ah))) (ae (Jo 1 (aL (aj (ay (PF.pv (bI (aj ak (aj ak (aj ak (aj ak ax)))))) (bp (bo T) hr (aX 0 (ag ak aq)))) ax))) (ae (b8 4 S.nd (bZ (T.b 6) (iy 1))) (ae (b8 5 S.nd (bp (bo T) hr (aX 0 (ag (aa 4) aq)))) (ae (pM 1 6 S.nd rfl (Or.inl rfl) rfl (N':=["_law_row","_law_given","?2","_law_many","_law_count","_law_turn","_law_program_here","_law_sides","_law_index","_law_a","_law_way","_law_found","_law_k","?acc12"]) ⟨rfl,by kernel_rfl⟩ rfl (b7 rfl (T.b 9) (aj (aa 4) ax)) dH (gK (by kernel_rfl)) (fun C s H ex=>(jD 12 (FW ["_law_row","_law_given","?2","_law_many","_law_count","_law_turn","_law_program_here","_law_sides","_law_index","_law_a","_law_way","_law_found","_law_k","?acc12"]))) (fun C s H ex _=>bO) (fun C s H ex _=>(aL (aj aB (aj (aH lu qi (aH aJ aR (aa 12) (aa 5)) (aa 4)) ax))))) (ae (Ah 1 7 S.nd rfl (Or.inl rfl) rfl (N':=["_law_row","_law_given","_law_k","_law_many","_law_count","_law_turn","_law_program_here","_law_sides","_law_index","_law_a","_law_way","_law_found","_law_line","?acc12"]) ⟨rfl,by kernel_rfl⟩ rfl (cG (aa 6)) dH (gK (by kernel_rfl)) (fun C s H ex=>(jD 12 (FW ["_law_row","_law_given","_law_k","_law_many","_law_count","_law_turn","_law_program_here","_law_sides","_law_index","_law_a","_law_way","_law_found","_law_line","?acc12"]))) (fun C s H ex _=>bO) (fun C s H ex _=>(ay (aa 1) (ay (aa 12) ak)))) (ae (b8 8 S.nd (aH lu qi (aH cZ eX (aH cZ eX (aa 4) ak) (aa 5)) (aa 4))) (ae (qW (b7 rfl (T.b 9) (aj (aH aJ aR ak (bp (bo T) hr (aX 0 (ag ak aq)))) ax)) (jD 2 S.nd) (ae (b8 9 S.nd (aH cZ eX (aH cZ eX (bZ (T.b 6) (iy 6)) ak) (bp (bo T) hr (aX 0 (ag (bZ (T.b 6) (iy 6)) aq))))) (ae (b8 10 S.nd (bp (bo T) hr (aX 0 (ag ak aq)))) (ae (aE (bW kS rh (aa 10) ak (bH _)) (ae (b8 11 S.nd (bp (M5 T) hr (aX 0 (ag (aa 9) (ag (bf 7 (aa 9)) (ag (aa 10) aq)))))) ah) (ae (aE (mQ.pb (jT (bW kS rh (aa 10) ak (bH _)) (ku (wN hr (bf 7 (aa 9)) (aL ax))))) (ae (b8 11 S.nd (bp (M4 T) hr (aX 0 (ag (aa 9) (ag (bf 7 (aa 9)) (ag (aa 10) aq)))))) ah) (ae (aE (dR hr (aa 10) ak) (ae (b8 11 S.nd (aL (aj (aL (aj aB (aj (aH lu qi (aa 9) (aa 4)) ax))) (aj (bf 1 (aH lu qi (aa 9) (aa 4))) ax)))) ah) (ae (b8 11 S.nd (bp (MZ T) hr (aX 0 (ag (aa 9) (aX 7 (ag (aa 10) (ag (aa 8) aq))))))) ah)) ah)) ah)) (ae (aE (mQ.pb (gS (bW oK vC (bp (EC T) hr (ag (ay (aa 11) ak) aq)) ak (bH _)) (gS (bW oK vC (bZ (T.b 6) (PV.rd (ay (aa 11) ak))) ak (bH _)) (fB (bW oK vC (Iu rfl rfl (T.b 8) boot_max (ay (aa 11) ak) ak) ak (bH _)))))) (ae (b8 11 S.nd (aL (aj (aL (aj aB (aj aB (aj (aa 9) ax)))) (aj (bf 7 (aa 9)) ax)))) ah) ah) (ae (Jo 6 (ay (aa 11) ak)) (ae (Jo 7 (ay (aa 11) ak)) ah))))))) (ae (jx (i:=1) (jx (i:=7) (jx (i:=6) (aw (aL (aj (aa 6) (aj (aa 7) (aj (aa 4) (aj (aa 1) ax))))))))) ah))))))))))
theorem M0:Cl P base T "_law_nodes" 1 [false] vk:=fc ["_law_found","_law_k","_law_one"] Cb (T.d 8 rfl) fun S hr=>(ae (b8 1 S.nd (PF.pv (bI (aj (aa 0) ax)))) (ae (qW (b7 rfl (T.b 9) (aj (aH ND Qz ak ak) ax)) (jD 2 S.nd) (ae (aE (dR hr (aa 2) (bZ (T.b 6) (PV.rd (aa 1)))) (ae (aw (aa 1)) ah) ah) (ae (b8 3 S.nd (ay (aa 1) (aa 2))) (ae (aE (mQ.pb (gS (bj (cM (T.i 3) rfl (T.b 5) rfl (PV.rd (aa 3)))) (fB (bj (cM (T.i 7) rfl (T.b 5) rfl (PV.rd (aa 3))))))) (ae (b8 1 S.nd (aH aJ aR (aa 1) (PF.pv (bI (aj (aW (T.f 4) (PV.rd (aa 3))) ax))))) ah) ah) (ae (aE (mQ.pb (gS (bj (cM (T.i 0) rfl (T.b 5) rfl (PV.rd (aa 3)))) (fB (bj (cM (T.i 6) rfl (T.b 5) rfl (PV.rd (aa 3))))))) (ae (b8 1 S.nd (aH aJ aR (aa 1) (PF.pv (bI (aj (aW (T.f 6) (PV.rd (aa 3))) (aj (aW (T.f 15) (PV.rd (aa 3))) ax)))))) ah) ah) (ae (aE (bj (cM (T.i 6) rfl (T.b 5) rfl (PV.rd (aa 3)))) (ae (b8 1 S.nd (aH aJ aR (aa 1) (PF.pv (bI (aj (aW (T.f 1) (PV.rd (aa 3))) ax))))) ah) ah) (ae (aE (bj (cM (T.i 1) rfl (T.b 5) rfl (PV.rd (aa 3)))) (ae (b8 1 S.nd (aH aJ aR (aa 1) (PF.pv (bI (aj (aW (T.f 0) (PV.rd (aa 3))) (aj (aW (T.f 2) (PV.rd (aa 3))) ax)))))) ah) ah) ah))))))) (ae (aw (aa 1)) ah)))
theorem Q0z:Cl P base T "_law_rows_read" 2 [false] ou:=fc [] Cd (T.d 9 rfl) fun S hr=>(ae (aE (bj (cM (T.i 2) rfl (T.b 5) rfl (PV.rd (aa 0)))) (ae (aw (PF.pv (bI ax))) ah) ah) (ae (aE (bj (cM (T.i 4) rfl (T.b 5) rfl (PV.rd (aa 0)))) (ae (aw (PF.pv (bI (aj (aW (T.f 20) (PV.rd (aa 0))) (aj (aW (T.f 13) (PV.rd (aa 0))) ax))))) ah) ah) (ae (aw (PF.pv (vZ 1 ["_law_loop","_law_node","?acc1"] (cG (bp (M0 T) hr (ag (aW (T.f 25) (PV.rd (aa 0))) aq))) (fun nd=>(jD 1 nd)) (jh (bj (cM (T.i 5) rfl (T.b 5) rfl (PV.rd (aa 1))))) (aW (T.f 8) (PV.rd (aa 1)))))) ah)))
theorem Sb:lG P base T "Plan" "__init__" false 1 [true,false,false,false] Lu:=fm [] Qg (T.m 0 rfl) fun S hr=>(ae (aZ 0 (T.f 9) (PF.pv (jg rfl (T.b 7) Nf (PV.rd (aa 1))))) (ae (aZ 0 (T.f 16) (Ip rfl (T.b 2) VS.boot_dict (aa 2))) (ae (aZ 0 (T.f 7) (PF.pv (jg rfl (T.b 7) Nf (PV.rd (aa 3))))) ah)))
theorem Q2d:Cl P base T "spreads" 1 [false,false,false,false] zh:=fc [] yJ (T.d 10 rfl) fun S hr=>(ae (aw (ux (gc fq (xm false) (ay (ay (aa 0) (aa 2)) ak) (aL (aj aB (aj aB (aj aB ax)))) (by with_unfolding_all rfl)) (nO (gc (xY hr.units) Dt (ay (aa 1) (aa 2)) (ay (aa 1) (aa 3)) (bH _))))) ah)
theorem MW:Cl P base T "is_kept" 2 [false,false,false,false] yW:=fc ["kind"] B5 (T.d 11 rfl) fun S hr=>(ae (b8 4 S.nd (ay (ay (aa 0) (aa 2)) ak)) (ae (aE (mQ.pb (gS (dR hr (aa 2) (aH cZ eX (bZ (T.b 6) (PV.rd (aa 0))) ak)) (fB (bW fq (xm false) (aa 4) (aL (aj aB (aj aB (aj aB (aj aB ax))))) (by with_unfolding_all rfl))))) (ae (aw oM) ah) ah) (ae (aE (bj (fD (rR rfl) (qh false) rfl (T.b 1) VS.boot_any (PV.rd (PF.pv (vZ 1 ["program","sides","at","naming","kind","number","?acc5"] (cG (aa 3)) (fun nd=>(jD 5 nd)) bO (gc fq (xm false) (ay (ay (aa 0) (aa 5)) ak) (aL (aj aB (aj aB ax))) (by with_unfolding_all rfl))))))) (ae (aw oM) ah) ah) (ae (aE (dR hr (aa 4) aB) (ae (aw oM) ah) ah) (ae (aw (Kt (gc oK vC (bZ (T.b 6) (PV.rd (aa 3))) ak (bH _)) (nO (fD (rR rfl) (qh false) rfl (T.b 1) VS.boot_any (PV.rd (PF.pv (vZ 1 ["program","sides","at","naming","kind","number","?acc5"] (cG (aa 3)) (fun nd=>(jD 5 nd)) bO (bp (Q2d T) hr (ag (aa 0) (ag (aa 1) (ag (aa 5) (ag (aa 2) aq)))))))))))) ah)))))
theorem xS:Cl P base T "named_by" 1 [false] ox:=fc [] JK (T.d 12 rfl) fun S hr=>(ae (aw (PF.pv (vZ 2 ["line","part","value","?acc1"] (n6 rfl (T.b 14) (aj (uy (T.t 1 rfl) rfl (ay (aa 0) ak)) (aj (dG (aa 0) (bL ak) bK) ax))) (fun nd=>(fF rfl (oP 1 nd (oP 2 nd dw)))) (jh (dR hr (aa 1) aB)) (aa 2)))) ah)
theorem Q0B:Cl P base T "naming_lines" 2 [false,false,false] y7:=fc ["naming","number","line"] Cm (T.d 13 rfl) fun S hr=>(ae (BH 3 S.nd (bI ax)) (ae (qW (jl rfl (T.b 3) (aj (aa 0) ax)) (fF rfl (oP 4 S.nd (oP 5 S.nd dw))) (ae (aE (bj (ay (aa 1) (aa 4))) (ae (Q0X 3 (vZ 1 ["program","wanted","at","naming","number","line","named","?acc6"] (cG (bp (xS T) hr (ag (aa 5) aq))) (fun nd=>(jD 6 nd)) (jh (dR hr (aa 6) (aa 2))) (aa 4)) (hpe:=fun ho ha=>Ko PySem.F.plainAttrs_list PySem.F.slot_list_extend PySem.F.type_list_extend Q1n ho ha)) ah) ah) ah)) (ae (jx (i:=3) (aw (aa 3))) ah)))
theorem Q2x:Cl P base T "wanted_lines" 2 [false] vo:=fc ["wanted","at","named"] CD (T.d 14 rfl) fun S hr=>(ae (pM 1 1 S.nd rfl (Or.inl rfl) rfl (N':=["program","wanted","at","named","line","?acc4"]) ⟨rfl,by kernel_rfl⟩ rfl (cG (aa 0)) dH (gK (by kernel_rfl)) (fun C s H ex=>(jD 4 (FW ["program","wanted","at","named","line","?acc4"]))) (fun C s H ex _=>bO) (fun C s H ex _=>oM)) (ae (gV 1 (aH cZ eX (bZ (T.b 6) (PV.rd (aa 0))) ak) oM) (ae (qW (Jq rfl (T.b 9) (aj (aH cZ eX (bZ (T.b 6) (PV.rd (aa 0))) ak) (aj (sP nZ kC ak) (aj (sP nZ kC ak) ax)))) (jD 2 S.nd) (ae (aE (bj (bf 1 (aa 2))) (ae (qW (cG (bp (xS T) hr (ag (ay (aa 0) (aa 2)) aq))) (jD 3 S.nd) (ae (gV 1 (aa 3) oM) ah)) ah) ah) ah)) (ae (jx (i:=1) (aw (aa 1))) ah))))
theorem MY:Cl P base T "kept_lines" 3 [false,false] vh:=fc ["wanted","kept","at","line"] B8 (T.d 15 rfl) fun S hr=>(ae (b8 2 S.nd (bp (Q2x T) hr (ag (aa 0) aq))) (ae (BH 3 S.nd (bI ax)) (ae (qW (jl rfl (T.b 3) (aj (aa 0) ax)) (fF rfl (oP 4 S.nd (oP 5 S.nd dw))) (ae (Jo 3 (ux (ay (aa 2) (aa 4)) (nO (bp (MW T) hr (ag (aa 0) (ag (aa 1) (ag (aa 4) (ag (bp (Q0B T) hr (ag (aa 0) (ag (aa 2) (ag (aa 4) aq)))) aq)))))))) ah)) (ae (jx (i:=3) (aw (aa 3))) ah))))
theorem uk:Cl P base T "cells_in" 1 [false] qa:=fc ["many","side"] BZ (T.d 16 rfl) fun S hr=>(ae (b8 1 S.nd ak) (ae (qW (cG (aa 0)) (jD 2 S.nd) (ae (b8 1 S.nd (aH iu kN (aa 1) (aa 2))) ah)) (ae (aw (aa 1)) ah)))
theorem M7:Cl P base T "lengths_of" 2 [false,false] yZ:=fc ["lengths","loop","row"] Ci (T.d 17 rfl) fun S hr=>(ae (pM 1 2 S.nd rfl (Or.inl rfl) rfl (N':=["loops","row_of","lengths","loop","?4","row","?acc5"]) ⟨rfl,by kernel_rfl⟩ rfl (b7 rfl (T.b 9) (aj (aH aJ aR (Ir rfl rfl (T.b 8) boot_max (aa 1)) ak) ax)) dH (gK (by kernel_rfl)) (fun C s H ex=>(jD 5 (FW ["loops","row_of","lengths","loop","?4","row","?acc5"]))) (fun C s H ex _=>bO) (fun C s H ex _=>ak)) (ae (qW (cG (aa 0)) (jD 3 S.nd) (ae (b8 4 S.nd (jj (aa 1) (aW (T.f 8) (PV.rd (aa 3))))) (ae (gV 2 (aa 4) (jW (iA rfl) vE rfl (T.b 8) boot_max (aj (bf 2 (aa 4)) (aj (bp (uk T) hr (ag (aW (T.f 18) (PV.rd (aa 3))) aq)) ax)))) ah))) (ae (jx (i:=2) (aw (aa 2))) ah)))
theorem vW:lG P base T "Loop" "__init__" true 1 [true,false,false] AD:=fm [] Qd (T.m 1 rfl) fun S hr=>(ae (aZ 0 (T.f 8) (aa 1)) (ae (aZ 0 (T.f 18) (aa 2)) ah))
theorem R5:lG P base T "Fill" "__init__" false 2 [true,false,false,false] Ll:=fm [] P9 (T.m 2 rfl) fun S hr=>(ae (mM (Sh (vW T) hr (aX 0 (ag (aa 1) (ag (aa 2) aq))))) (ae (aZ 0 (T.f 25) (aa 3)) ah))
theorem R6:lG P base T "Fold" "__init__" false 2 [true,false,false,false,false,false,false] Lm:=fm [] Qa (T.m 3 rfl) fun S hr=>(ae (mM (Sh (vW T) hr (aX 0 (ag (aa 1) (ag (aa 2) aq))))) (ae (aZ 0 (T.f 17) (aa 3)) (ae (aZ 0 (T.f 19) (aa 4)) (ae (aZ 0 (T.f 3) (aa 5)) (ae (aZ 0 (T.f 25) (aa 6)) ah)))))
theorem R8:lG P base T "Load" "__init__" false 2 [true,false,false,false] Lo:=fm [] Qc (T.m 4 rfl) fun S hr=>(ae (mM (Sh (vW T) hr (aX 0 (ag (aa 1) (ag (aa 2) aq))))) (ae (aZ 0 (T.f 24) (aa 3)) ah))
theorem Q0U:lG P base T "Pick" "__init__" false 2 [true,false,false,false,false,false,false] Ls:=fm [] Qf (T.m 5 rfl) fun S hr=>(ae (mM (Sh (vW T) hr (aX 0 (ag (aa 1) (ag (aa 2) aq))))) (ae (aZ 0 (T.f 17) (aa 3)) (ae (aZ 0 (T.f 20) (aa 4)) (ae (aZ 0 (T.f 13) (aa 5)) (ae (aZ 0 (T.f 21) (aa 6)) ah)))))
theorem MO:lG P base T "Through" "__init__" false 2 [true,false,false,false,false,false] De:=fm [] JF (T.m 6 rfl) fun S hr=>(ae (mM (Sh (vW T) hr (aX 0 (ag (aa 1) (ag (aa 2) aq))))) (ae (aZ 0 (T.f 17) (aa 3)) (ae (aZ 0 (T.f 3) (aa 4)) (ae (aZ 0 (T.f 25) (aa 5)) ah))))
theorem Ey:lG P base T "Weaver" "__init__" false 1 [true,false,false,false,false] yR:=fm [] JG (T.m 7 rfl) fun S hr=>(ae (aZ 0 (T.f 14) (aa 1)) (ae (aZ 0 (T.f 18) (aa 2)) (ae (aZ 0 (T.f 5) (aa 3)) (ae (aZ 0 (T.f 10) (aa 4)) ah))))
theorem Q1V:lG P base T "Both" "__init__" false 1 [true,false,false,false] Lj:=fm [] P7 (T.m 8 rfl) fun S hr=>(ae (aZ 0 (T.f 3) (aa 1)) (ae (aZ 0 (T.f 6) (aa 2)) (ae (aZ 0 (T.f 15) (aa 3)) ah)))
theorem R4:lG P base T "Even" "__init__" false 1 [true,false] Lk:=fm [] P8 (T.m 9 rfl) fun S hr=>(ae (aZ 0 (T.f 11) (aa 1)) ah)
theorem R9:lG P base T "One" "__init__" false 1 [true,false,false] Lr:=fm [] Qe (T.m 10 rfl) fun S hr=>(ae (aZ 0 (T.f 3) (aa 1)) (ae (aZ 0 (T.f 4) (aa 2)) ah))
theorem MN:lG P base T "Read" "__init__" false 1 [true,false,false,false] Dd:=fm [] JE (T.m 11 rfl) fun S hr=>(ae (aZ 0 (T.f 8) (aa 1)) (ae (aZ 0 (T.f 22) (aa 2)) (ae (aZ 0 (T.f 23) (aa 3)) ah)))
theorem Nk:Cl P base T "reading_by" 1 [false,false,false] zc:=fc ["start","steps","part","stride"] Cr (T.d 18 rfl) fun S hr=>(ae (b8 3 S.nd ak) (ae (pM 1 4 S.nd rfl (Or.inl rfl) rfl (N':=["way","strides","many","start","steps","part","stride","index","?acc7"]) ⟨rfl,by kernel_rfl⟩ rfl (b7 rfl (T.b 9) (aj (aa 2) ax)) dH (gK (by kernel_rfl)) (fun C s H ex=>(jD 7 (FW ["way","strides","many","start","steps","part","stride","index","?acc7"]))) (fun C s H ex _=>bO) (fun C s H ex _=>ak)) (ae (qW (n6 rfl (T.b 14) (aj (aa 0) (aj (aa 1) ax))) (fF rfl (oP 5 S.nd (oP 6 S.nd dw))) (ae (b8 3 S.nd (aH aJ aR (aa 3) (aH iu kN (ay (aa 5) ak) (aa 6)))) (ae (aE (wN hr (ay (aa 5) ak) (sP nZ kC ak)) (ae (gV 4 (ay (aa 5) ak) (aH aJ aR (bf 4 (ay (aa 5) ak)) (aH iu kN (ay (aa 5) ak) (aa 6)))) ah) ah) ah))) (ae (aw (aL (aj (aa 3) (aj (we (T.b 13) (iy 4)) ax)))) ah))))
theorem Q1T:Cl P base T "strides_of" 1 [false] zi:=fc ["backwards","stride","side"] CA (T.d 19 rfl) fun S hr=>(ae (BH 1 S.nd (bI ax)) (ae (b8 2 S.nd ak) (ae (qW (OK rfl (T.b 10) (aa 0)) (jD 3 S.nd) (ae (Jo 1 (aa 2)) (ae (b8 2 S.nd (aH iu kN (aa 2) (aa 3))) ah))) (ae (aw (z6 rfl (T.b 10) rfl (T.b 13) (iy 1))) ah))))
theorem Ez:lG P base T "Weaver" "row_read" false 3 [false,false,false,false] vf:=fm ["reading"] BY (T.m 12 rfl) fun S hr=>(ae (b8 4 S.nd (bp (Nk T) hr (ag (aa 2) (ag (bp (Q1T T) hr (ag (aa 3) aq)) (ag (aW (T.f 10) (PV.rd (aa 0))) aq))))) (ae (aw (PF.pv (x6 (MN T) hr (ag (aa 1) (ag (ay (aa 4) ak) (ag (ay (aa 4) ak) aq)))))) ah))
theorem R7:lG P base T "Joined" "__init__" false 1 [true,false,false,false,false] Ln:=fm [] Qb (T.m 13 rfl) fun S hr=>(ae (aZ 0 (T.f 12) (aa 1)) (ae (aZ 0 (T.f 19) (aa 2)) (ae (aZ 0 (T.f 0) (aa 3)) (ae (aZ 0 (T.f 2) (aa 4)) ah))))
theorem xT:Cl P base T "part_standing" 1 [false] r8:=fc [] Cn (T.d 20 rfl) fun S hr=>(ae (aw (aL (aj (aa 0) (aj (sP nZ kC ak) (aj ak ax))))) ah)
theorem Q1x:Cl P base T "part_moved" 2 [false,false,false] rZ:=fc ["first"] yH (T.d 21 rfl) fun S hr=>(ae (b8 3 S.nd (aH aJ aR (aa 1) (aH iu kN (aa 2) (ay (aa 0) ak)))) (ae (aE (dR hr (aH iu kN (aa 2) (ay (aa 0) ak)) ak) (ae (aw (bp (xT T) hr (ag (aa 3) aq))) ah) ah) (ae (aw (aL (aj (aa 3) (aj (ay (aa 0) ak) (aj (aH iu kN (aa 2) (ay (aa 0) ak)) ax))))) ah)))
theorem xW:Cl P base T "way_moved" 3 [false,false,false,false] sj:=fc ["moved"] CG (T.d 22 rfl) fun S hr=>(ae (BH 4 S.nd (jg rfl (T.b 7) Nf (PV.rd (aa 0)))) (ae (gV 4 (aa 1) (bp (Q1x T) hr (ag (ay (aa 0) (aa 1)) (ag (aa 2) (ag (aa 3) aq))))) (ae (jx (i:=4) (aw (aa 4))) ah)))
theorem MR:lG P base T "Within" "__init__" false 1 [true,false,false,false,false] Dh:=fm [] JI (T.m 14 rfl) fun S hr=>(ae (aZ 0 (T.f 12) (aa 1)) (ae (aZ 0 (T.f 19) (aa 2)) (ae (aZ 0 (T.f 4) (aa 3)) (ae (aZ 0 (T.f 11) (aa 4)) ah))))
theorem Nz:Cl P base T "way_spread" 2 [false,false] zm:=fc ["last"] CH (T.d 23 rfl) fun S hr=>(ae (b8 2 S.nd (dG (aa 0) (bL (aH cZ eX (bZ (T.b 6) (PV.rd (aa 0))) (bZ (T.b 6) (PV.rd (aa 1))))) bK)) (ae (aw (PF.pv (vZ 2 ["way","own","last","side","part","?acc3"] (n6 rfl (T.b 14) (aj (aa 1) (aj (aa 2) ax))) (fun nd=>(fF rfl (oP 3 nd (oP 4 nd dw)))) bO (kT (dR hr (aa 3) ak) (bp (xT T) hr (ag ak aq)) (aa 4))))) ah))
theorem Q0W:Cl P base T "way_dropped" 2 [false,false,false] zl:=fc [] CF (T.d 24 rfl) fun S hr=>(ae (aw (aH aJ aR (aH aJ aR (dG (aa 0) bK (bL (aa 1))) (PF.pv (bI (aj (bp (xT T) hr (ag (aa 2) aq)) ax)))) (dG (aa 0) (bL (aa 1)) bK))) ah)
theorem NA:Cl P base T "way_turned" 1 [false,false] zo:=fc ["turned","side","part"] CI (T.d 25 rfl) fun S hr=>(ae (BH 2 S.nd (jg rfl (T.b 7) Nf (PV.rd (aa 0)))) (ae (qW (n6 rfl (T.b 14) (aj (aa 1) (aj (aa 0) ax))) (fF rfl (oP 3 S.nd (oP 4 S.nd dw))) (ae (gV 2 (aa 3) (aa 4)) ah)) (ae (jx (i:=2) (aw (aa 2))) ah)))
theorem NB:Cl P base T "way_widened" 1 [false,false] zq:=fc [] CJ (T.d 26 rfl) fun S hr=>(ae (aw (aH aJ aR (dG (aa 0) bK (bL (aa 1))) (dG (aa 0) (bL (aH aJ aR (aa 1) ak)) bK))) ah)
theorem MQ:lG P base T "Where" "__init__" false 1 [true,false,false,false] Dg:=fm [] JH (T.m 15 rfl) fun S hr=>(ae (aZ 0 (T.f 1) (aa 1)) (ae (aZ 0 (T.f 6) (aa 2)) (ae (aZ 0 (T.f 15) (aa 3)) ah)))
def KP(P:Program)(base:Heap){w:World}{K:Frag}{mg:MG}{a:Ga}(T:Txt L w K mg a)(n:Nat):Prop:=
 lG P base T "Weaver" "tree_named" false (3+n) [false,false,false] (dZ n 0) /\
 lG P base T "Weaver" "tree_made" false (3+n) [false,false,false] (dZ n 1) /\
 lG P base T "Weaver" "tree_viewed" false (3+n) [false,false,false] (dZ n 2) /\
 lG P base T "Weaver" "tree_spread" false (3+n) [false,false,false] (dZ n 3) /\
 lG P base T "Weaver" "tree_shifted" false (3+n) [false,false,false,false,false,false] (dZ n 4) /\
 lG P base T "Weaver" "tree_joined" false (3+n) [false,false,false,false,false] (dZ n 5)
theorem Q2V{n:Nat}(ih:KP P base T n):lG P base T "Weaver" "tree_named" false (3+n+1) [false,false,false] (dZ (n+1) 0):=by obtain⟨eK,nk,nu,gL,nq,nj⟩:=ih;exact fm [] (uY (dZ n)) (T.m 16 rfl) fun S hr=>(ae (aE (bj (ay (aW (T.f 5) (PV.rd (aa 0))) (aa 1))) (ae (aw (pH (Ez T) hr (aa 0) (ag (aa 1) (ag (aa 2) (ag (ay (aW (T.f 18) (PV.rd (aa 0))) (aa 1)) aq))))) ah) ah) (ae (aw (pH nk hr (aa 0) (ag (aa 1) (ag (aa 2) aq)))) ah))
theorem Ou{n:Nat}(ih:KP P base T n):lG P base T "Weaver" "tree_made" false (3+n+1) [false,false,false] (dZ (n+1) 1):=by obtain⟨eK,nk,nu,gL,nq,nj⟩:=ih;exact fm ["line","kind"] (jo (dZ n)) (T.m 17 rfl) fun S hr=>(ae (b8 3 S.nd (ay (aW (T.f 14) (PV.rd (aa 0))) (aa 1))) (ae (b8 4 S.nd (ay (aa 3) ak)) (ae (aE (dR hr (aa 4) aB) (ae (aw (PF.pv (x6 (R4 T) hr (ag (ay (aa 3) ak) aq)))) ah) ah) (ae (aE (dR hr (aa 4) aB) (ae (aw (PF.pv (x6 (R9 T) hr (ag (ay (aa 3) ak) (ag (pH eK hr (aa 0) (ag (ay (aa 3) ak) (ag (aa 2) aq))) aq))))) ah) ah) (ae (aE (dR hr (aa 4) aB) (ae (aw (PF.pv (x6 (Q1V T) hr (ag (ay (aa 3) ak) (ag (pH gL hr (aa 0) (ag (ay (aa 3) ak) (ag (aa 2) aq))) (ag (pH gL hr (aa 0) (ag (ay (aa 3) ak) (ag (aa 2) aq))) aq)))))) ah) ah) (ae (aE (dR hr (aa 4) aB) (ae (aw (PF.pv (x6 (MQ T) hr (ag (pH gL hr (aa 0) (ag (ay (aa 3) ak) (ag (aa 2) aq))) (ag (pH gL hr (aa 0) (ag (ay (aa 3) ak) (ag (aa 2) aq))) (ag (pH gL hr (aa 0) (ag (ay (aa 3) ak) (ag (aa 2) aq))) aq)))))) ah) ah) (ae (aE (dR hr (aa 4) aB) (ae (aw (pH nq hr (aa 0) (ag (ay (aa 3) ak) (ag (ay (aa 3) ak) (ag (ay (aa 3) ak) (ag (ay (aa 3) ak) (ag (aa 2) aq))))))) ah) ah) (ae (aE (dR hr (aa 4) aB) (ae (aw (pH nj hr (aa 0) (ag (ay (aa 3) ak) (ag (ay (aa 3) ak) (ag (ay (aa 3) ak) (ag (aa 2) aq)))))) ah) ah) (ae (aE (dR hr (aa 4) aB) (ae (aw (pH (Ez T) hr (aa 0) (ag (ay (aa 3) ak) (ag (aa 2) (ag (ay (aW (T.f 18) (PV.rd (aa 0))) (aa 1)) aq))))) ah) ah) (ae (aw (pH nu hr (aa 0) (ag (aa 3) (ag (aa 2) aq)))) ah))))))))))
theorem Oy{n:Nat}(ih:KP P base T n):lG P base T "Weaver" "tree_viewed" false (3+n+1) [false,false,false] (dZ (n+1) 2):=by obtain⟨eK,nk,nu,gL,nq,nj⟩:=ih;exact fm ["kind"] (jq (dZ n)) (T.m 18 rfl) fun S hr=>(ae (b8 3 S.nd (ay (aa 1) ak)) (ae (aE (dR hr (aa 3) aB) (ae (aw (pH eK hr (aa 0) (ag (ay (aa 1) ak) (ag (bp (NA T) hr (ag (aa 2) (ag (ay (aa 1) ak) aq))) aq)))) ah) ah) (ae (aE (dR hr (aa 3) aB) (ae (aw (pH eK hr (aa 0) (ag (ay (aa 1) ak) (ag (bp (xW T) hr (ag (aa 2) (ag (ay (aa 1) ak) (ag (ay (aa 1) ak) (ag (ay (aa 1) ak) aq))))) aq)))) ah) ah) (ae (aE (dR hr (aa 3) aB) (ae (aw (pH eK hr (aa 0) (ag (ay (aa 1) ak) (ag (bp (Q0W T) hr (ag (aa 2) (ag (ay (aa 1) ak) (ag (ay (aa 1) ak) aq)))) aq)))) ah) ah) (ae (aE (dR hr (aa 3) aB) (ae (aw (pH eK hr (aa 0) (ag (ay (aa 1) ak) (ag (bp (NB T) hr (ag (aa 2) (ag (ay (aa 1) ak) aq))) aq)))) ah) ah) (ae (aw (pH gL hr (aa 0) (ag (ay (aa 1) ak) (ag (aa 2) aq)))) ah))))))
theorem Q0x{n:Nat}(ih:KP P base T n):lG P base T "Weaver" "tree_spread" false (3+n+1) [false,false,false] (dZ (n+1) 3):=by obtain⟨eK,nk,nu,gL,nq,nj⟩:=ih;exact fm [] (yF (dZ n)) (T.m 19 rfl) fun S hr=>(ae (aw (pH eK hr (aa 0) (ag (aa 1) (ag (bp (Nz T) hr (ag (aa 2) (ag (ay (aW (T.f 18) (PV.rd (aa 0))) (aa 1)) aq))) aq)))) ah)
theorem Ow{n:Nat}(ih:KP P base T n):lG P base T "Weaver" "tree_shifted" false (3+n+1) [false,false,false,false,false,false] (dZ (n+1) 4):=by obtain⟨eK,nk,nu,gL,nq,nj⟩:=ih;exact fm ["moved"] (yE (dZ n)) (T.m 20 rfl) fun S hr=>(ae (b8 6 S.nd (bp (xW T) hr (ag (aa 5) (ag (aa 2) (ag (sP nZ kC (aa 3)) (ag ak aq)))))) (ae (aw (PF.pv (x6 (MR T) hr (ag (ay (aa 6) (aa 2)) (ag (ay (ay (aW (T.f 18) (PV.rd (aa 0))) (aa 1)) (aa 2)) (ag (pH eK hr (aa 0) (ag (aa 1) (ag (aa 6) aq))) (ag (aa 4) aq))))))) ah))
theorem Ot{n:Nat}(ih:KP P base T n):lG P base T "Weaver" "tree_joined" false (3+n+1) [false,false,false,false,false] (dZ (n+1) 5):=by obtain⟨eK,nk,nu,gL,nq,nj⟩:=ih;exact fm ["size","moved"] (yD (dZ n)) (T.m 21 rfl) fun S hr=>(ae (b8 5 S.nd (ay (ay (aW (T.f 18) (PV.rd (aa 0))) (aa 1)) (aa 3))) (ae (b8 6 S.nd (bp (xW T) hr (ag (aa 4) (ag (aa 3) (ag (sP nZ kC (aa 5)) (ag ak aq)))))) (ae (aw (PF.pv (x6 (R7 T) hr (ag (ay (aa 4) (aa 3)) (ag (aa 5) (ag (pH eK hr (aa 0) (ag (aa 1) (ag (aa 4) aq))) (ag (pH eK hr (aa 0) (ag (aa 2) (ag (aa 6) aq))) aq))))))) ah)))
theorem oj:∀n,KP P base T n|0=>⟨⟨_,_,_,_,_,_,(T.m 16 rfl),qe rfl⟩,⟨_,_,_,_,_,_,(T.m 17 rfl),qe rfl⟩,⟨_,_,_,_,_,_,(T.m 18 rfl),qe rfl⟩,⟨_,_,_,_,_,_,(T.m 19 rfl),qe rfl⟩,⟨_,_,_,_,_,_,(T.m 20 rfl),qe rfl⟩,⟨_,_,_,_,_,_,(T.m 21 rfl),qe rfl⟩⟩|n+1=>⟨Q2V T (oj n),Ou T (oj n),Oy T (oj n),Q0x T (oj n),Ow T (oj n),Ot T (oj n)⟩
theorem EA:lG P base T "Weaver" "tree_named" false 67 [false,false,false] yS:=(oj T 64).1
theorem MP:lG P base T "Weaver" "tree_made" false 67 [false,false,false] Df:=(oj T 64).2.1
theorem xV:Cl P base T "straight_way" 1 [false] qc:=fc [] Cz (T.d 27 rfl) fun S hr=>(ae (aw (PF.pv (vZ 1 ["many","at","?acc1"] (b7 rfl (T.b 9) (aj (aa 0) ax)) (fun nd=>(jD 1 nd)) bO (aL (aj ak (aj (aa 1) (aj ak ax))))))) ah)
theorem Na:Cl P base T "loop_of" 68 [false,false,false,false] lT:=fc ["line","own","kind","inner","tree","weaver"] pR (T.d 28 rfl) fun S hr=>(ae (b8 4 S.nd (ay (aa 0) (aa 3))) (ae (b8 5 S.nd (ay (aa 1) (aa 3))) (ae (b8 6 S.nd (ay (aa 4) ak)) (ae (aE (dR hr (aa 6) aB) (ae (aw (PF.pv (x6 (R8 T) hr (ag (aa 3) (ag (aa 5) (ag (ay (aa 4) ak) aq)))))) ah) ah) (ae (aE (dR hr (aa 6) aB) (ae (aw (PF.pv (x6 (Q0U T) hr (ag (aa 3) (ag (aa 5) (ag (ay (aa 4) ak) (ag (ay (aa 4) ak) (ag (ay (aa 4) ak) (ag (ay (aa 1) (ay (aa 4) ak)) aq))))))))) ah) ah) (ae (aE (dR hr (aa 6) aB) (ae (b8 7 S.nd (ay (aa 1) (ay (aa 4) ak))) (ae (b8 8 S.nd (pH (EA T) hr (PF.pv (x6 (Ey T) hr (ag (aa 0) (ag (aa 1) (ag (aa 2) (ag (bZ (T.b 6) (PV.rd (aa 7))) aq)))))) (ag (ay (aa 4) ak) (ag (bp (xV T) hr (ag (bZ (T.b 6) (PV.rd (aa 7))) aq)) aq)))) (ae (aw (PF.pv (x6 (R6 T) hr (ag (aa 3) (ag (aa 5) (ag (ay (aa 4) ak) (ag (ay (aa 7) (ay (aa 4) ak)) (ag (ay (aa 4) ak) (ag (aa 8) aq))))))))) ah))) ah) (ae (b8 9 S.nd (PF.pv (x6 (Ey T) hr (ag (aa 0) (ag (aa 1) (ag (aa 2) (ag (bZ (T.b 6) (PV.rd (aa 5))) aq))))))) (ae (aE (dR hr (aa 6) aB) (ae (aw (PF.pv (x6 (MO T) hr (ag (aa 3) (ag (aa 5) (ag (ay (aa 4) ak) (ag (ay (aa 4) ak) (ag (pH (EA T) hr (aa 9) (ag (ay (aa 4) ak) (ag (bp (xV T) hr (ag (bZ (T.b 6) (PV.rd (aa 5))) aq)) aq))) aq)))))))) ah) ah) (ae (aw (PF.pv (x6 (R5 T) hr (ag (aa 3) (ag (aa 5) (ag (pH (MP T) hr (aa 9) (ag (aa 3) (ag (bp (xV T) hr (ag (bZ (T.b 6) (PV.rd (aa 5))) aq)) aq))) aq)))))) ah)))))))))
def WY(P:Program)(base:Heap){w:World}{K:Frag}{mg:MG}{a:Ga}(T:Txt L w K mg a)(n:Nat):Prop:=Cl P base T "lines_read_in" (0+n) [false] (wQ n 0)
theorem Oz{n:Nat}(ih:WY P base T n):Cl P base T "lines_read_in" (0+n+1) [false] (wQ (n+1) 0):=by have jS:=ih;exact fc [] (jr (wQ n)) (T.d 29 rfl) fun S hr=>(ae (aE (bj (cM (T.i 5) rfl (T.b 5) rfl (PV.rd (aa 0)))) (ae (aw (PF.pv (bI (aj (aW (T.f 8) (PV.rd (aa 0))) ax)))) ah) ah) (ae (aE (bj (Iq (T.j 0) rfl (T.b 5) (PV.rd (aa 0)))) (ae (aw (bp jS hr (ag (aW (T.f 4) (PV.rd (aa 0))) aq))) ah) ah) (ae (aE (bj (cM (T.i 0) rfl (T.b 5) rfl (PV.rd (aa 0)))) (ae (aw (aH aJ aR (bp jS hr (ag (aW (T.f 6) (PV.rd (aa 0))) aq)) (bp jS hr (ag (aW (T.f 15) (PV.rd (aa 0))) aq)))) ah) ah) (ae (aE (bj (cM (T.i 6) rfl (T.b 5) rfl (PV.rd (aa 0)))) (ae (aw (aH aJ aR (aH aJ aR (bp jS hr (ag (aW (T.f 1) (PV.rd (aa 0))) aq)) (bp jS hr (ag (aW (T.f 6) (PV.rd (aa 0))) aq))) (bp jS hr (ag (aW (T.f 15) (PV.rd (aa 0))) aq)))) ah) ah) (ae (aE (bj (cM (T.i 1) rfl (T.b 5) rfl (PV.rd (aa 0)))) (ae (aw (aH aJ aR (bp jS hr (ag (aW (T.f 0) (PV.rd (aa 0))) aq)) (bp jS hr (ag (aW (T.f 2) (PV.rd (aa 0))) aq)))) ah) ah) (ae (aw (PF.pv (bI ax))) ah))))))
theorem JD:∀n,WY P base T n|0=>⟨_,_,_,_,(T.d 29 rfl),qe rfl⟩|n+1=>Oz T (JD n)
theorem M9:Cl P base T "lines_read_in" 64 [false] Dj:=(JD T 64)
theorem M8:Cl P base T "lines_read_by" 65 [false] qb:=fc [] Cj (T.d 30 rfl) fun S hr=>(ae (aE (bj (cM (T.i 2) rfl (T.b 5) rfl (PV.rd (aa 0)))) (ae (aw (PF.pv (bI ax))) ah) ah) (ae (aE (bj (cM (T.i 4) rfl (T.b 5) rfl (PV.rd (aa 0)))) (ae (aw (PF.pv (bI (aj (aW (T.f 20) (PV.rd (aa 0))) (aj (aW (T.f 13) (PV.rd (aa 0))) ax))))) ah) ah) (ae (aw (bp (M9 T) hr (ag (aW (T.f 25) (PV.rd (aa 0))) aq))) ah)))
theorem M6:Cl P base T "last_readings" 66 [false] yY:=fc ["last","at","loop","line"] Cg (T.d 31 rfl) fun S hr=>(ae (BH 1 S.nd uq) (ae (qW (jl rfl (T.b 3) (aj (aa 0) ax)) (fF rfl (oP 2 S.nd (oP 3 S.nd dw))) (ae (qW (cG (bp (M8 T) hr (ag (aa 3) aq))) (jD 4 S.nd) (ae (pN 1 (aa 4) (aa 2)) ah)) ah)) (ae (jx (i:=1) (aw (aa 1))) ah)))
theorem Nb:Cl P base T "lowest_beside" 1 [false] y4:=fc ["row"] Ck (T.d 32 rfl) fun S hr=>(ae (b8 1 S.nd ak) (ae (wK PassesOwn.never (bW fq (xm false) (aa 1) (aa 0) (by with_unfolding_all rfl)) (ae (b8 1 S.nd (aH aJ aR (aa 1) ak)) ah)) (ae (aw (aa 1)) ah)))
theorem Nl:Cl P base T "rows_of" 67 [false] zd:=fc ["last","row_of","at","loop","needed"] Ct (T.d 33 rfl) fun S hr=>(ae (b8 1 S.nd (bp (M6 T) hr (ag (aa 0) aq))) (ae (BH 2 S.nd uq) (ae (qW (jl rfl (T.b 3) (aj (aa 0) ax)) (fF rfl (oP 3 S.nd (oP 4 S.nd dw))) (ae (Aj 1 5 S.nd rfl (Or.inl rfl) rfl (N':=["loops","last","row_of","at","loop","needed","line","?acc6"]) ⟨rfl,by kernel_rfl⟩ rfl (Jr (aa 2)) dH (gK (by kernel_rfl)) (fun C s H ex=>(jD 6 (FW ["loops","last","row_of","at","loop","needed","line","?acc6"]))) (fun C s H ex _=>(jh (bW Kn Qx (jj (aa 1) (aa 6)) (aa 3) (bH _)))) (fun C s H ex _=>(jj (aa 2) (aa 6)))) (ae (pN 2 (aW (T.f 8) (PV.rd (aa 4))) (bp (Nb T) hr (ag (aa 5) aq))) ah))) (ae (jx (i:=2) (aw (aa 2))) ah))))
theorem MT:Cl P base T "deed_is_known" 1 [false] Di:=fc [] JJ (T.d 34 rfl) fun S hr=>(ae (aw (fD (mZ rfl) (qh true) rfl (T.b 0) VS.boot_all (PV.rd (PF.pv (vZ 2 ["line","part","value","?acc1"] (n6 rfl (T.b 14) (aj (uy (T.t 1 rfl) rfl (ay (aa 0) ak)) (aj (dG (aa 0) (bL ak) bK) ax))) (fun nd=>(fF rfl (oP 1 nd (oP 2 nd dw)))) (jh (Q1K (T.t 0 rfl) rfl (aa 1) (by with_unfolding_all rfl))) (gc fq (xm false) (aa 2) (uy (T.t 0 rfl) rfl (aa 1)) (by with_unfolding_all rfl))))))) ah)
theorem EB:Cl P base T "is_rest" 1 [false] vg:=fc [] B6 (T.d 35 rfl) fun S hr=>(ae (aw (iK gR kS rg rh ak (aa 0) (jX (T.n 4 rfl) rfl))) ah)
theorem Nd:Cl P base T "number_is_cell" 2 [false] oy:=fc [] uZ (T.d 36 rfl) fun S hr=>(ae (aE (dR hr (ay (aa 0) ak) aB) (ae (aw (bp (EB T) hr (ag (ay (aa 0) ak) aq))) ah) ah) (ae (aw (Kt (gc (xY hr.units) Dt (ay (aa 0) ak) aB (bH _)) (nO (bp (EB T) hr (ag (ay (aa 0) ak) aq))))) ah))
theorem Nh:Cl P base T "places_are_there" 2 [false,false,false] sf:=fc [] yI (T.d 37 rfl) fun S hr=>(ae (aE (dR hr (ay (aa 0) ak) aB) (ae (aw (iK gR kS rg rh ak (ay (aa 0) ak) (aa 2))) ah) ah) (ae (aw (fD (mZ rfl) (qh true) rfl (T.b 0) VS.boot_all (PV.rd (PF.pv (vZ 1 ["line","lines_ahead","tables","named","?acc3"] (cG (bp (xS T) hr (ag (aa 0) aq))) (fun nd=>(jD 3 nd)) bO (iK gR kS rg rh ak (aa 3) (aa 1))))))) ah))
theorem Nm:Cl P base T "sides_can_be" 2 [false] ze:=fc [] Cu (T.d 38 rfl) fun S hr=>(ae (aE (mQ.pb (gS (bW oK vC (bZ (T.b 6) (PV.rd (aa 0))) (jX (T.n 3 rfl) rfl) (bH _)) (fB (jf (bj (fD (mZ rfl) (qh true) rfl (T.b 0) VS.boot_all (PV.rd (PF.pv (vZ 1 ["sides","side","?acc1"] (cG (aa 0)) (fun nd=>(jD 1 nd)) bO (iK gR gR rg rg ak (aa 1) (jX (T.n 0 rfl) rfl))))))))))) (ae (aw oM) ah) ah) (ae (aw (gc gR rg (bp (uk T) hr (ag (aa 0) aq)) (jX (T.n 1 rfl) rfl) (bH _))) ah))
theorem lq:Cl P base T "has_side" 1 [false,false] kJ:=fc [] B4 (T.d 39 rfl) fun S hr=>(ae (aw (iK gR kS rg rh ak (aa 1) (bZ (T.b 6) (PV.rd (aa 0))))) ah)
theorem uo:Cl P base T "without" 1 [false,false] qd:=fc [] CL (T.d 40 rfl) fun S hr=>(ae (aw (aH aJ aR (dG (aa 0) bK (bL (aa 1))) (dG (aa 0) (bL (aH aJ aR (aa 1) ak)) bK))) ah)
theorem MV:Cl P base T "folded_sides" 2 [false,false,false] yV:=fc [] B2 (T.d 41 rfl) fun S hr=>(ae (aE (jf (bj (bp (lq T) hr (ag (aa 1) (ag (aa 2) aq))))) (ae (aw cg) ah) ah) (ae (aE (mQ.pb (jT (dR hr (ay (aa 1) (aa 2)) ak) (ku (bW fq (xm false) (aa 0) (aL (aj aB (aj aB ax))) (by with_unfolding_all rfl))))) (ae (aw cg) ah) ah) (ae (aw (bp (uo T) hr (ag (aa 1) (ag (aa 2) aq)))) ah)))
theorem xU:Cl P base T "replaced" 1 [false,false,false] sg:=fc [] Cs (T.d 42 rfl) fun S hr=>(ae (aw (aH aJ aR (aH aJ aR (dG (aa 0) bK (bL (aa 1))) (aL (aj (aa 2) ax))) (dG (aa 0) (bL (aH aJ aR (aa 1) ak)) bK))) ah)
theorem MX:Cl P base T "joined_sides" 2 [false,false,false] yX:=fc [] B7 (T.d 43 rfl) fun S hr=>(ae (aE (mQ.pb (gS (jf (bj (bp (lq T) hr (ag (aa 0) (ag (aa 2) aq))))) (fB (wN hr (bZ (T.b 6) (PV.rd (aa 0))) (bZ (T.b 6) (PV.rd (aa 1))))))) (ae (aw cg) ah) ah) (ae (aE (wN hr (bp (uo T) hr (ag (aa 0) (ag (aa 2) aq))) (bp (uo T) hr (ag (aa 1) (ag (aa 2) aq)))) (ae (aw cg) ah) ah) (ae (aw (bp (xU T) hr (ag (aa 0) (ag (aa 2) (ag (aH aJ aR (ay (aa 0) (aa 2)) (ay (aa 1) (aa 2))) aq))))) ah)))
theorem Ng:Cl P base T "picked_sides" 2 [false,false,false] y8:=fc [] Co (T.d 44 rfl) fun S hr=>(ae (aE (mQ.pb (gS (jf (bj (bp (lq T) hr (ag (aa 0) (ag (aa 1) aq))))) (fB (wN hr (bZ (T.b 6) (PV.rd (aa 2))) ak)))) (ae (aw cg) ah) ah) (ae (aw (bp (xU T) hr (ag (aa 0) (ag (aa 1) (ag (ay (aa 2) ak) aq))))) ah))
theorem ED:Cl P base T "with_ones_ahead" 1 [false,false] vp:=fc [] CK (T.d 45 rfl) fun S hr=>(ae (aw (aH aJ aR (PF.pv (vZ 1 ["sides","many","missing","?acc2"] (b7 rfl (T.b 9) (aj (aH cZ eX (aa 1) (bZ (T.b 6) (PV.rd (aa 0)))) ax)) (fun nd=>(jD 2 nd)) bO ak)) (PF.pv (jg rfl (T.b 7) Nf (PV.rd (aa 0)))))) ah)
theorem um:Cl P base T "sides_met" 2 [false,false] oz:=fc ["many","met","left","right"] Cw (T.d 46 rfl) fun S hr=>(ae (b8 2 S.nd (jW (iA rfl) vE rfl (T.b 8) boot_max (aj (bZ (T.b 6) (PV.rd (aa 0))) (aj (bZ (T.b 6) (PV.rd (aa 1))) ax)))) (ae (BH 3 S.nd (bI ax)) (ae (qW (n6 rfl (T.b 14) (aj (bp (ED T) hr (ag (aa 0) (ag (aa 2) aq))) (aj (bp (ED T) hr (ag (aa 1) (ag (aa 2) aq))) ax))) (fF rfl (oP 4 S.nd (oP 5 S.nd dw))) (ae (aE (mQ.pb (jT (wN hr (aa 4) (aa 5)) (jT (wN hr (aa 4) ak) (ku (wN hr (aa 5) ak))))) (ae (aw cg) ah) ah) (ae (Jo 3 (kT (dR hr (aa 4) ak) (aa 5) (aa 4))) ah))) (ae (aw (we (T.b 13) (iy 3))) ah))))
theorem xR:Cl P base T "has_place" 2 [false,false,false] rY:=fc [] B3 (T.d 47 rfl) fun S hr=>(ae (aw (ux (bp (lq T) hr (ag (aa 0) (ag (aa 1) aq))) (nO (iK gR kS rg rh ak (aa 2) (ay (aa 0) (aa 1)))))) ah)
theorem Q2h:Cl P base T "cut_sides" 3 [false,false,false,false,false] yT:=fc [] B0 (T.d 48 rfl) fun S hr=>(ae (aE (mQ.pb (gS (jf (bj (bp (lq T) hr (ag (aa 0) (ag (aa 1) aq))))) (gS (dR hr (aa 3) ak) (fB (bW kS rh (aa 4) ak (bH _)))))) (ae (aw cg) ah) ah) (ae (aE (mQ.pb (jT (bW oK vC (aa 4) ak (bH _)) (ku (jf (mQ.pb (jT (bj (bp (xR T) hr (ag (aa 0) (ag (aa 1) (ag (aa 2) aq))))) (ku (bj (bp (xR T) hr (ag (aa 0) (ag (aa 1) (ag (aH aJ aR (aa 2) (aH iu kN (aa 3) (aH cZ eX (aa 4) ak))) aq)))))))))))) (ae (aw cg) ah) ah) (ae (aw (bp (xU T) hr (ag (aa 0) (ag (aa 1) (ag (aa 4) aq))))) ah)))
theorem MU:Cl P base T "dropped_sides" 3 [false,false,false] yU:=fc [] B1 (T.d 49 rfl) fun S hr=>(ae (aw (kT (bj (bp (xR T) hr (ag (aa 0) (ag (aa 1) (ag (aa 2) aq))))) (bp (uo T) hr (ag (aa 0) (ag (aa 1) aq))) cg)) ah)
theorem Q0n:Cl P base T "put_in" 1 [false,false,false] za:=fc [] Cq (T.d 50 rfl) fun S hr=>(ae (aw (aH aJ aR (aH aJ aR (dG (aa 0) bK (bL (aa 1))) (aL (aj (aa 2) ax))) (dG (aa 0) (bL (aa 1)) bK))) ah)
theorem Nw:Cl P base T "turned_sides" 1 [false,false] zk:=fc [] CC (T.d 51 rfl) fun S hr=>(ae (aE (wN hr (fD Q32 LG rfl (T.b 12) PyProof.Rows.boot_sorted (PV.rd (aa 1))) (PF.pv (zV rfl (T.b 9) rfl (T.b 7) (aj (bZ (T.b 6) (PV.rd (aa 0))) ax)))) (ae (aw cg) ah) ah) (ae (aw (we (T.b 13) (PV.rd (PF.pv (vZ 1 ["sides","order","side","?acc2"] (cG (aa 1)) (fun nd=>(jD 2 nd)) bO (ay (aa 0) (aa 2))))))) ah))
theorem Q1f:Cl P base T "sides_viewed" 4 [false,false] ie:=fc ["kind"] oq (T.d 52 rfl) fun S hr=>(ae (b8 2 S.nd (ay (aa 0) ak)) (ae (aE (dR hr (aa 2) aB) (ae (aw (bp (Nw T) hr (ag (aa 1) (ag (ay (aa 0) ak) aq)))) ah) ah) (ae (aE (dR hr (aa 2) aB) (ae (aw (bp (Q2h T) hr (ag (aa 1) (ag (ay (aa 0) ak) (ag (ay (aa 0) ak) (ag (ay (aa 0) ak) (ag (ay (aa 0) ak) aq))))))) ah) ah) (ae (aE (dR hr (aa 2) aB) (ae (aw (bp (MU T) hr (ag (aa 1) (ag (ay (aa 0) ak) (ag (ay (aa 0) ak) aq))))) ah) ah) (ae (aE (dR hr (aa 2) aB) (ae (aw (kT (Q1X gR gR rg rg ak (ay (aa 0) ak) (bZ (T.b 6) (PV.rd (aa 1)))) (bp (Q0n T) hr (ag (aa 1) (ag (ay (aa 0) ak) (ag ak aq)))) cg)) ah) ah) (ae (aE (dR hr (aa 2) aB) (ae (aw (kT (dR hr (bp (um T) hr (ag (aa 1) (ag (ay (aa 0) ak) aq))) (ay (aa 0) ak)) (ay (aa 0) ak) cg)) ah) ah) (ae (aw (kT (dR hr (bp (uk T) hr (ag (aa 1) aq)) (bp (uk T) hr (ag (ay (aa 0) ak) aq))) (ay (aa 0) ak) cg)) ah)))))))
theorem Q26:Cl P base T "three_met" 3 [false,false,false] zj:=fc ["met"] CB (T.d 53 rfl) fun S hr=>(ae (b8 3 S.nd (bp (um T) hr (ag (aa 0) (ag (aa 1) aq)))) (ae (aw (kT (bW qE vD (aa 3) cg (bH _)) cg (bp (um T) hr (ag (aa 3) (ag (aa 2) aq))))) ah))
theorem Nq:Cl P base T "sides_told" 5 [false,true,false] eI:=fc ["kind"] eV (T.d 54 rfl) fun S hr=>(ae (b8 3 S.nd (ay (aa 0) ak)) (ae (aE (dR hr (aa 3) aB) (ae (aw (ay (aa 2) (ay (aa 0) ak))) ah) ah) (ae (aE (dR hr (aa 3) aB) (ae (aw (ay (aa 0) ak)) ah) ah) (ae (aE (dR hr (aa 3) aB) (ae (aw (bf 1 (ay (aa 0) ak))) ah) ah) (ae (aE (dR hr (aa 3) aB) (ae (aw (bp (um T) hr (ag (bf 1 (ay (aa 0) ak)) (ag (bf 1 (ay (aa 0) ak)) aq)))) ah) ah) (ae (aE (dR hr (aa 3) aB) (ae (aw (bp (Q26 T) hr (ag (bf 1 (ay (aa 0) ak)) (ag (bf 1 (ay (aa 0) ak)) (ag (bf 1 (ay (aa 0) ak)) aq))))) ah) ah) (ae (aE (dR hr (aa 3) aB) (ae (aw (bp (MV T) hr (ag (ay (aa 0) ak) (ag (bf 1 (ay (aa 0) ak)) (ag (ay (aa 0) ak) aq))))) ah) ah) (ae (aE (dR hr (aa 3) aB) (ae (aw (kT (bj (bp (lq T) hr (ag (bf 1 (ay (aa 0) ak)) (ag (ay (aa 0) ak) aq)))) (bf 1 (ay (aa 0) ak)) cg)) ah) ah) (ae (aE (dR hr (aa 3) aB) (ae (aw (bp (Ng T) hr (ag (bf 1 (ay (aa 0) ak)) (ag (ay (aa 0) ak) (ag (bf 1 (ay (aa 0) ak)) aq))))) ah) ah) (ae (aE (dR hr (aa 3) aB) (ae (aw (bp (MX T) hr (ag (bf 1 (ay (aa 0) ak)) (ag (bf 1 (ay (aa 0) ak)) (ag (ay (aa 0) ak) aq))))) ah) ah) (ae (aE (dR hr (aa 3) aB) (ae (aw (kT (bj (bp (lq T) hr (ag (bf 1 (ay (aa 0) ak)) (ag (ay (aa 0) ak) aq)))) (bf 1 (ay (aa 0) ak)) cg)) ah) ah) (ae (aw (bp (Q1f T) hr (ag (aa 0) (ag (bf 1 (ay (aa 0) ak)) aq)))) ah))))))))))))
theorem Q07:Cl P base T "sides_looked_over" 6 [false,false,true,false] zf:=fc ["sides"] Cv (T.d 55 rfl) fun S hr=>(ae (aE (jf (bj (bp (Nh T) hr (ag (aa 1) (ag (bZ (T.b 6) (iy 2)) (ag (bZ (T.b 6) (PV.rd (aa 3))) aq)))))) (ae j7 ah) ah) (ae (aE (jf (bj (bp (Nd T) hr (ag (aa 1) aq)))) (ae j7 ah) ah) (ae (b8 4 S.nd (kT (bj (bp (MT T) hr (ag (aa 1) aq))) (bp (Nq T) hr (ag (aa 1) (aX 2 (ag (aa 3) aq)))) cg)) (ae (aE (mQ.pb (gS (bW qE vD (aa 4) cg (bH _)) (fB (jf (bj (bp (Nm T) hr (ag (aa 4) aq))))))) (ae j7 ah) ah) (ae (aw (aa 4)) ah)))))
theorem Q1g:Cl P base T "sides_of" 7 [false,false] zg:=fc ["ahead","at","line"] Cy (T.d 56 rfl) fun S hr=>(ae (aE (dR hr (bZ (T.b 6) (PV.rd (aa 0))) ak) (ae j7 ah) ah) (ae (aE (bW oK vC (bZ (T.b 6) (PV.rd (aa 0))) (jX (T.n 2 rfl) rfl) (bH _)) (ae j7 ah) ah) (ae (BH 2 S.nd (bI ax)) (ae (qW (jl rfl (T.b 3) (aj (aa 0) ax)) (fF rfl (oP 3 S.nd (oP 4 S.nd dw))) (ae (Jo 2 (bp (Q07 T) hr (ag (aa 3) (ag (aa 4) (aX 2 (ag (aa 1) aq)))))) ah)) (ae (jx (i:=2) (aw (aa 2))) ah)))))
theorem Ni:Cl P base T "plan_of" 69 [false,false] y9:=fc ["sides","kept","loops","row_of"] Cp (T.d 57 rfl) fun S hr=>(ae (b8 2 S.nd (bp (Q1g T) hr (ag (aa 0) (ag (aa 1) aq)))) (ae (b8 3 S.nd (bp (MY T) hr (ag (aa 0) (ag (aa 2) aq)))) (ae (Ai 1 4 S.nd rfl (Or.inl rfl) rfl (N':=["program","given","sides","kept","loops","row_of","at","?acc6"]) ⟨rfl,by kernel_rfl⟩ rfl (b7 rfl (T.b 9) (aj (bZ (T.b 6) (PV.rd (aa 0))) ax)) dH (gK (by kernel_rfl)) (fun C s H ex=>(jD 6 (FW ["program","given","sides","kept","loops","row_of","at","?acc6"]))) (fun C s H ex _=>(jh (bj (ay (aa 3) (aa 6))))) (fun C s H ex _=>(bp (Na T) hr (ag (aa 0) (ag (aa 2) (ag (aa 3) (ag (aa 6) aq))))))) (ae (b8 5 S.nd (bp (Nl T) hr (ag (aa 4) aq))) (ae (aw (PF.pv (x6 (Sb T) hr (ag (aa 4) (ag (aa 5) (ag (bp (M7 T) hr (ag (aa 4) (ag (aa 5) aq))) aq)))))) ah)))))
include T in
theorem MM:dC P w K mg base pO 70 (a.f 58) (a.d 58) ["_law_script"] (ph K mg [false] C9):=fo ["_law_script","_law_drawn_here","_law_plan","_law_until","_law_number","_law_loop","_law_line","_law_most","_law_needed","_law_taken_here","_law_row","_law_rows"] BX (T.d 58 rfl) fun S hr=>(ae (b8 1 S.nd (ZR (M1 T) hr (bI (aj (aa 0) (aj ak ax))))) (ae (b8 2 S.nd (bp (Ni T) hr (ag (PF.pv (jg rfl (T.b 7) Nf (PV.rd (ay (aa 1) ak)))) (ag (PF.pv (jg rfl (T.b 7) Nf (PV.rd (ay (aa 1) ak)))) aq)))) (ae (BH 3 S.nd uq) (ae (qW (jl rfl (T.b 3) (aj (aW (T.f 9) (PV.rd (aa 2))) ax)) (fF rfl (oP 4 S.nd (oP 5 S.nd dw))) (ae (qW (cG (bp (Q0z T) hr (ag (aa 5) aq))) (jD 6 S.nd) (ae (pN 3 (aa 6) (aa 4)) ah)) ah)) (ae (pN 3 (aH cZ eX (bZ (T.b 6) (PV.rd (ay (aa 1) ak))) ak) (bZ (T.b 6) (PV.rd (aW (T.f 9) (PV.rd (aa 2)))))) (ae (b8 7 S.nd ak) (ae (BH 8 S.nd (bI ax)) (ae (qW (jl rfl (T.b 3) (aj (aW (T.f 9) (PV.rd (aa 2))) ax)) (fF rfl (oP 4 S.nd (oP 5 S.nd dw))) (ae (Ah 1 8 S.nd rfl (Or.inl rfl) rfl (N':=["_law_script","_law_drawn_here","_law_plan","_law_until","_law_number","_law_loop","?6","_law_most","_law_needed","_law_taken_here","_law_row","_law_rows","_law_line","?acc12"]) ⟨rfl,by kernel_rfl⟩ rfl (cG (aa 8)) dH (gK (by kernel_rfl)) (fun C s H ex=>(jD 12 (FW ["_law_script","_law_drawn_here","_law_plan","_law_until","_law_number","_law_loop","?6","_law_most","_law_needed","_law_taken_here","_law_row","_law_rows","_law_line","?acc12"]))) (fun C s H ex _=>(jh (bW Kn Qx (jj (aa 3) (aa 12)) (aa 4) (bH _)))) (fun C s H ex _=>(aa 12))) (ae (Aj 1 9 S.nd rfl (Or.inl rfl) rfl (N':=["_law_script","_law_drawn_here","_law_plan","_law_until","_law_number","_law_loop","?6","_law_most","_law_needed","_law_taken_here","_law_row","_law_rows","_law_line","?acc12"]) ⟨rfl,by kernel_rfl⟩ rfl (cG (aa 8)) dH (gK (by kernel_rfl)) (fun C s H ex=>(jD 12 (FW ["_law_script","_law_drawn_here","_law_plan","_law_until","_law_number","_law_loop","?6","_law_most","_law_needed","_law_taken_here","_law_row","_law_rows","_law_line","?acc12"]))) (fun C s H ex _=>bO) (fun C s H ex _=>(jj (aW (T.f 16) (PV.rd (aa 2))) (aa 12)))) (ae (b8 10 S.nd ak) (ae (wK PassesOwn.never (bW fq (xm false) (aa 10) (aa 9) (by with_unfolding_all rfl)) (ae (b8 10 S.nd (aH aJ aR (aa 10) ak)) ah)) (ae (aE (mQ.pb (gS (wN hr (jj (aW (T.f 16) (PV.rd (aa 2))) (aW (T.f 8) (PV.rd (aa 5)))) (aa 10)) (fB (EI (Q2H (aW (T.f 8) (PV.rd (aa 5))) (aa 3)))))) (ae (aw oM) ah) ah) (ae (Jo 8 (aW (T.f 8) (PV.rd (aa 5)))) (ae (b8 7 S.nd (jW (iA rfl) vE rfl (T.b 8) boot_max (aj (aa 7) (aj (bZ (T.b 6) (iy 8)) ax)))) ah)))))))) (ae (b8 11 S.nd (Iw rfl (T.b 11) rfl (T.b 12) (PV.rd (PF.pv (vZ 1 ["_law_script","_law_drawn_here","_law_plan","_law_until","_law_number","?5","_law_line","_law_most","_law_needed","_law_taken_here","_law_row","_law_rows","_law_loop","?acc12"] (cG (aW (T.f 9) (PV.rd (aa 2)))) (fun nd=>(jD 12 nd)) bO (jj (aW (T.f 16) (PV.rd (aa 2))) (aW (T.f 8) (PV.rd (aa 12))))))))) (ae (aw (ux (gc (qD hr.units) vB (aa 11) (PF.pv (zV rfl (T.b 9) rfl (T.b 7) (aj (aa 7) ax))) (bH _)) (nO (gc (qD hr.units) vB (bZ (T.b 6) (PV.rd (aW (T.f 7) (PV.rd (aa 2))))) (aa 7) (bH _))))) ah))))))))))
end
end LW
end
section
set_option Elab.async false
set_option maxRecDepth 100000
set_option maxHeartbeats 4000000
namespace LW
open PySem PySem.Spec PyProof.Rows L2 VP VS
theorem bd:Tq L.d:=by repeat (first|exact True.intro|refine⟨by first|exact W5|exact W6|exact W7|exact W8|exact W9|exact Xa|exact Xb,?_⟩)
theorem bm:Ts L.m:=by repeat (first|exact True.intro|refine⟨by first|exact W5|exact W6|exact W7|exact W8|exact W9|exact Xa|exact Xb,?_⟩)
theorem Mm{P:Program}{w:World}{K:Frag}{mg:MG}{base:Heap}{a:Ga}(T:Txt L w K mg a):dC P w K mg base pO 70 (a.f 58) (a.d 58) ["_law_script"] (Ws K):=(MM T).imp fun vs H Q E ⟨p,ns,e,hs,hl,q⟩=>by subst e;refine⟨rfl,H,[Z ns],aN.refl _,⟨.lst hs (aM.ints ns),trivial⟩,by simp[qo,dO],?_⟩;rw[Ml];exact fun F' H' v _ hv=>by cases hv;exact q H'
theorem all_mk{l:W.OpenLaw}{w:World}{K:Frag}{mg:MG}{fa:Addr}(Y4:mg "law" = some (.ref fa))(E:∃a:Ga,Txt L w K mg a):Pz l w K mg fa 70 "_law_script" := by obtain⟨a,T⟩:=E;have D:=T.d 58 rfl;have e:=Y4.symm.trans D.mg;cases e;exact⟨_,D.V0 fun _ _ _ _ _ _ _ _=>.of_eq rfl,fun base=>Mm T⟩
end LW
structure PySem.W.Fast:Prop where(tw4515836520673205705 tw12401078179328111908 tw15271901787463521234 tw15479271383449955760 tw8451261716852793375 tw8442630535893427825 tw7885839402873022086 tw10207164752637520077 tw17773929948308409605 tw6504789050884982998 tw11439889716111455494 tw16784057092263145532 tw6669180169037595394 tw1183987428942762947 tw7284617648977785366 tw13029491002786243263 tw5910825047487926098 tw1309019800483363294 tw5774926227178587386 tw14961418701188723618 tw6052321364686768935 tw3330516950393821287 tw14962597665492252803 tw5055047928626273462 tw3803423153206826402 tw12997833187446334023 tw17952261324235966020 tw17755140524159239809 tw1581152115508619205 tw5489454930040186064 tw457492526879229888 tw12757012132013284154 tw15605268699151691715 tw8652079982661516951 tw2616880075685039575 tw1985949345318995946 tw3502066016110391178 tw5015806836627474661 tw907644207178697630 tw9822071087083275875 tw12751794644492200186 tw4351736575982530713 tw5037762003150958611 tw7362473687543724297 tw3463881021347435049 tw6581181672568461636 tw13648236826428242980 tw3074486218217673810 tw11275165314531647086 tw4449865931188593949 tw12897602231920562249 tw7573852410767327237 tw8652436790384428131 tw16572023057949174378 tw13500609737123708352 tw18197918425287879733 tw5698783640624866525 tw17456712822887724168 tw4511317144351787855 tw13695579491429640923 tw6981096872311192536 tw6916217016667138811 tw12432828795946550248 tw864351641692524031 tw3449984751719723377 tw7211076335289312480 tw12761693806088761187 tw5979522324550210233 tw17577129741458647841 tw14604864068036352877 tw1285799429646282247 tw14871045846516522701 tw7754599370195863913 tw988833823909417458 tw10486566431249097990 tw14456173378626925242 tw15785883973200736251 tw18222511600656881418 tw7536392475373601738 tw4792304128204664189 tw20875602378371506 tw7184633691256969863 tw1452019796086455353 tw16709410269526374945 tw14816268271292171990 tw17612468593147903466 tw497099458966292439 tw12460270483854683717 tw850018028016827989 tw150003320370235062 tw5776594861030455470 tw16005617773958421709 tw12187785905643792375 tw8572078252057608703 tw12630640599228934615 tw1161742965295996865 tw9880576071979611337 tw873793591663673123 tw9632117640169881523 tw6644327903205684574 tw4910648414822148921 tw2808930195988919231 tw10941772357916872761 tw6682827156797686657 tw18263372013832381604 tw4694206299982473016 tw2044256647184777553 tw14218536087243775312 tw7780152953683101393 tw2008535305652678899 tw231669511762709756 tw15937450879509725652 tw5531482014179848389 tw7362110856141034246 tw6012367399419383427 tw9914468800339964621 tw13210058399771931019 tw18380547059290221300 tw14785842370999083059 tw4435459552108697982 tw1382564812656739621 tw3509602532345944416 tw8171285653934318944 tw8016095919661401978 tw7146813970063093471 tw3580853145471459476 tw11420100536032606591 tw9345521743768307573 tw16882477443766799951 tw14185600871325580168 tw9319965576812646576 tw1552869108251860062 tw608694600011039114 tw13594268452289125736 tw7849367507824380783 tw2438637194824935688 tw10774675412494120666 tw17307813027503803798 tw1940069816867790544 tw10016100322339884167 tw13023940270009974342 tw8482716374349343813 tw12102177556804765546 tw14230590031970739208 tw15965813452870263194 tw15076533961350669511 tw2125917975920197675 tw3336753292869364499 tw14946149264966000217 tw7485105086881474509 tw4286106947357772229 tw12795309660370062905 tw9107179911994503167 tw5365142206841660277 tw3838410308187426667 tw18387286966607674750 tw6005969546931642558 tw7297617784029524306 tw12361325858912727694 tw5342207287312165343 tw13197378699062799737 tw7167468974231800791 tw16720383822087024682 tw947370233675680137 tw1722735811526778535 tw17848703017777012307 tw11892910684430105683 tw15858558229837372673 tw9459972959347718964 tw8906173270977743284 tw11922227236559718596 tw8331803256363327537 tw1067658742253297348 tw12215793237331295765 tw12903064007681270017 tw13843169258939356720 tw4349373551239613348 tw2807480834185699117 tw11782019460828586628 tw2875240569637090575 tw6685297219043548253 tw7227504906227623121 tw13739544179509464673 tw6093070451223764479 tw2190381684418911590 tw1618055626063140484 tw2142516558076969208 tw6325331890491879301 tw15914917822920580081 tw173946538909603701 tw1686008039440776890 tw18315209713616616922 tw6328244873270860563 tw6666280557935848326 tw13723505027711644833 tw17455942947354980014 tw10309273926803470099 tw16699115350753598761 tw3546395038337643036 tw10858012525916260508 tw6637519668002881353 tw16377334017187175627 tw1857888102539656344 tw15508937251802374621 tw5262331070318613574 tw11785915356521137816 tw1931368107611802291 tw18240339958832171610 tw249183832190044656 tw6564831133168517391 tw732626430412185312 tw9571191744855260019 tw11278987225905003191 tw5018086514997042165 tw9750867143412346909 tw5925301924010618464 tw10127046249541553298 tw12108339875867495500 tw15717291044208528698 tw209827896928971666 tw18334337398884156928 tw12619933956356172847 tw17156099084113400574 tw11459259435970619467 tw12071741577570365365 tw14601001923962165098 tw3620908516344960055 tw10820920811455735197 tw4349262606012218953 tw15349310702212043006 tw9794789208314429975 tw13702097994159495621 tw10900145385225675041 tw6101320027499409978 tw2231495457454328814 tw12591776215354518263 tw7160325552134471844 tw5449942150000191225 tw2509868591344655356 tw13093962748531246428 tw849634737752460311 tw2844018997807752997 tw10554850898317028806 tw15996577493319201627 tw3129069776176889422 tw11363746117930645203 tw7983775570146304048 tw3407465261744255144 tw18131353370107997214 tw3394977043092229189 tw17197626780814101255 tw8511638171246010997 tw11152688450663066292 tw15105241492495350564 tw4343346711419627550 tw11434960797072795089 tw10728937049480763180 tw3931991761796365444 tw10308863255500631987 tw3299380983548951461 tw13416358552393969136 tw11405191991640452630 tw4696201367566504983 tw2666851843497001813 tw14967635760930156343 tw338627581399741048 tw18135941122411789704 tw12973453398264997349 tw14615893537634208704 tw8895144561795397840 tw5467458888507887705 tw7619413893099883672 tw14963769261116352163 tw1658441346715388973 tw6675671573172565468 tw10151814304295969757 tw7989308827291937542 tw7318349067027939341 tw9452391284649790245 tw8140883409115785409 tw8541307623116878800 tw17744007276667798116 tw10720289466281882540 tw8120796830488205283 tw5197812638763186562 tw5334090356768425210 tw13559306818227298021 tw2638501512610185759 tw11518102568947588370 tw11724231578642176810 tw18125622354499666537 tw14717703045338618344 tw6624440789679881447 tw5679988348864007269 tw5231423415920838649 tw15844512204300017202 tw11528449292218248771 tw6094828957398802136 tw16478448062162737333 tw2148419747404026079 tw4778802237046015781 tw11838779040313790024 tw14253917494149342994 tw16215916044554188879 tw16237801377301718351 tw15417662961440099441 tw11999940763725888237 tw12374214022382818889 tw6583392471202748981 tw15712432637571346983 tw17491082323073543014 tw13107937471833184298 tw2938491610939315350 tw556887450517628285 tw14713482185459975015 tw12196343834480562972 tw11989927466225809911 tw4926043156097820441 tw18272222940763633374 tw1004632862141078688 tw17234742401069661193 tw14842963200327118336 tw10052695385514194591 tw4591158460281929701 tw13054972861815570116 tw14155082550119114041 tw14256714874407967630 tw17941962149576967028 tw13742286267690388634 tw830938235595995918 tw15819086248784931287 tw12783879036051285165 tw18214894422900206712 tw17592396482984071238 tw317403350032878446 tw9826803550235158046 tw1956565336093838232 tw12546497135152639677 tw16637391232319731895 tw8963135853853733896 tw7222810093957797940 tw9640744500278690749 tw14903391907559829700 tw17461260540584166584 tw11209004315293945885 tw1096182171271155194 tw10403273147008469276 tw5432684376192490065 tw14993882598465793697 tw9234291053325656164 tw12382521478380813827 tw5588849154898003330 tw11893219174081278428 tw298580859465438052 tw12966282947377310551 tw13176131897214517424 tw4630289649761166200 tw9700668973352633036 tw2502724291426355563 tw7399225547869616312 tw5769664071078283282 tw6428967697073219302 tw2389060605802627803 tw336243941737700121 tw8110393683612558293 tw1741198103015137338 tw9992654148424944858 tw17079068375272634680 tw3702302040679658424 tw9425370574671869733 tw3862071832711715632 tw5817417215627882539 tw14676496113519759848 tw18327580431371688356 tw18098961643879930136 tw13591188773779614738 tw12778896163440344262 tw15691610597970185914 tw16163197460461733680 tw3473731769227202160 tw16707967713687724670 tw15324566292338707074 tw12514499963506484555 tw6568876145189043733 tw2163293390818121358 tw16615521333450163481 tw12460742923071884329 tw3937147389561484201 tw3116529731572430119 tw2428317067800939623 tw14496522580614567335 tw16659983945829030665 tw18244452887697475676 tw7291414276259024991 tw2530154589639689585 tw6306309855820497641 tw14408038913264266171 tw15633533377986210171 tw13066730518429576223 tw4338869673996938543 tw12775628070531063812 tw5928572357266168521 tw5281341813778737061 tw16381501267624390032 tw16557498858123752153 tw629141798928667125 tw5999095405512381919 tw4472659523864699376 tw2630880221135252758 tw4280216199018189903 tw14829677384500187547 tw18260942176346910263 tw3870801748418702949 tw13511060762642823738 tw10575394592829780399 tw2677085328647820075 tw11565507283979581909 tw2730412383200043260 tw13323537119305688447 tw16747398736343508983 tw10105754274684935092 tw16021680145500139187 tw2780432010943971112 tw17137577452426717732 tw5296134989860406459 tw13664797470328280525 tw4463828608071480027 tw14290503180662765270 tw12087043107558157846 tw4518652764671507877 tw4536530582440607753 tw2081701806401096066 tw2277653262501958550 tw1407156220589461057 tw6658213203643684882 tw16339222070397231315 tw8843232767001544478 tw16612094611896558362 tw9920271559506295710 tw16987301176560412795 tw12078516232435975318 tw14774374697183994177 tw354054046525618 tw8962697509579692030 tw5863965685557709380 tw9034653758641385836 tw13698438767214806182 tw4320371336217932358 tw3920718421170236336 tw18289431360623288133 tw5129056220165370412 tw8827118165952678086 tw8963544650248369762 tw12344043875843720994 tw11448495557493676479 tw3147559485057472604 tw943229037456395916 tw8745743003031454660 tw12319482060685909069 tw14639534974527561444 tw10481522150698016347 tw10907717617520853110 tw18019938775500103444 tw14010296459795611241 tw1403203260490878926 tw10889369803324542145 tw7368453645633435783 tw670874758688654864 tw7419102486642681395 tw4399217835713053675 tw17142592319574944793 tw386093363583820005 tw12272859002696777173 tw3545899413363086046 tw10378582120103064359 tw13557734242549167794 tw13801085961838090657 tw4472768563430456812 tw13609274964700848645 tw7961592998121096057 tw3178039731502937241 tw10225137388648720539 tw9172309533861801541 tw17872116901914292903 tw7360276732806542867 tw15721811518432837682 tw4820853285547975913 tw9864543859406490038 tw3231296184536685675 tw5169069565358437283 tw3287440817266779948 tw208514772843780455 tw3197402162725373888 tw12437082953413339589 tw476088061740064795 tw9189706098283725854 tw1491832415437946333 tw3177032400039206572 tw4948021180744321565 tw7759650272895337648 tw194730558416630908 tw1370241682373382131 tw15877194257210644141 tw850143712990196535 tw5136557136739106238 tw16932167567057124567 tw640184484197109902 tw5334272016120157951 tw6843436617345632100 tw17413447154888396857 tw9372272937974902566 tw8869307936825294852 tw9261314522571471261 tw4959144785853937084 tw7603667780970277765 tw5830390529259841737 tw15093605335793383730 tw18408199478094438994 tw12415963766121010389 tw5725271191528725874 tw708902824043734980 tw1758253049517721872 tw8454960273948891587 tw14426990483166043022 tw7731503742956709077 tw15098878033956378975 tw5001706792626415791 tw10021881444369838834 tw12106518205225083327 tw18341821083874111644 tw7743028118300746205 tw6756682503715145859 tw11770799954746436685 tw2861650893485307518 tw9052622700858039210 tw1548430414584777805 tw13848380014167739517 tw8433979920120359052:True)
open PySem PySem.W PyProof.Rows
set_option maxRecDepth 100000 in
set_option maxHeartbeats 0 in
theorem PySem.Challenge.cw_loomarrays_k21_whole_no_row_too_many_holds : PySem.Challenge.rw_loomarrays_k21_whole_no_row_too_many.Holds := by
 w_on;o_law;k_head;(case hw=>w_witness2)
 k_fill
 refine VS.walk63 (l:=PySem.Challenge.rw_loomarrays_k21_whole_no_row_too_many) 70 rfl rfl (fun w h Y=>PySem.W.kIn_of Y) ?F
 intro w mg fa h KX G QT
 refine' LW.all_mk QT (VS.Q0b KX G (by kernel_rfl) LW.bd LW.bm ?zhb ?zhn ?zht ?zhd ?zhc ?zhm ?zhf ?zha ?zhi ?zhj ?zsp ?ztk)
 case zsp=>k_is
 case ztk=>k_is
 case zhb=>repeat (first | exact True.intro | refine ⟨by k_is,?_⟩)
 case zhn=>repeat (first | exact True.intro | refine ⟨⟨_,by k_is,⟨_,rfl⟩⟩,?_⟩)
 case zhd=>repeat (first | exact True.intro | refine ⟨⟨_,by k_is,⟨⟨_,_,_,_,_,_,_,_,_,by k_is,by k_is⟩,by k_is⟩⟩,?_⟩)
 case zhm=>repeat (first | exact True.intro | refine ⟨⟨_,_,by k_is,by k_is,by k_is,⟨⟨_,_,_,_,_,_,_,_,_,by k_is,by k_is⟩,by k_is⟩,by k_is,by k_is,by first | (intro z;cases z;done) | exact fun _=>⟨by k_is,by k_is,by k_is⟩⟩,?_⟩)
 case zhc=>repeat (first | exact True.intro | refine ⟨⟨_,by k_is,⟨by k_is,by k_is,by k_is,by k_is⟩⟩,?_⟩)
 case zha=>repeat (first | exact True.intro | refine ⟨⟨_,by k_is,⟨by k_is,by k_is,by k_is,by k_is⟩⟩,?_⟩)
 case zhf=>repeat (first | exact True.intro | refine ⟨by repeat (first | exact True.intro | refine ⟨⟨_,by k_is,by k_is⟩,?_⟩),?_⟩)
 case zhi=>repeat (first | exact True.intro | refine ⟨⟨_,by k_is,by repeat (first | exact True.intro | refine ⟨⟨_,by k_is,by kit_is⟩,?_⟩)⟩,?_⟩)
 case zhj=>repeat (first | exact True.intro | refine ⟨⟨_,_,by k_is,by k_is,by repeat (first | exact True.intro | refine ⟨⟨_,by k_is,by kit_is⟩,?_⟩)⟩,?_⟩)
 case zht=>repeat (first | exact True.intro | refine ⟨⟨_,_,_,by k_is,by decide,by k_is,by k_keys,by repeat (first | exact True.intro | refine ⟨⟨_,by k_is,VS.Q06 (by k_is) (by decide) (by repeat (first | exact .nil | refine .cons ⟨_,rfl⟩ ?_))⟩,?_⟩),by repeat (first | exact True.intro | refine ⟨by k_is,?_⟩)⟩,?_⟩)
end
