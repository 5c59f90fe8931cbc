import PyProof.Rows.All
import KE.KStateDown
import KE.RegKIsAll
import KE.KRevIter
import KE.KDictOf
import Wide.Line
import Open.Line
import OpenK.KLine
import PyProof.Rows.KernelRfl
import KE.KTupSum
import PySem.Challenge.RW_loomarrays_k18_trees_reckon_their_lines
set_option Elab.async false
open PySem
set_option linter.defProp false
abbrev Wk(x:PySem.Str):Prop:=(x == ("__debug__" : PySem.Str))=false
abbrev GU(x:PySem.Str):Prop:=(x == ("__classdict__" : PySem.Str))=false
abbrev Wg:=PySem.Value->PySem.Shared->Prop
def WK:=@Heap.get?_push_of_some
def YO:=@Heap.get?_push_size
def Ud:=@decide_eq_true
def T1:=@decide_eq_false
def WW:=@List.mem_cons_of_mem
def Uq:=@List.mem_cons_self
def Rb:=@List.mem_of_getElem?
def Rg:=@List.getElem?_eq_getElem
def zT:=@List.getD_eq_getElem?_getD
def EU:=@Nat.lt_of_lt_of_le
def B5:=@List.getElem?_append_left
def FC:=@List.mem_map_of_mem
def zt:=@List.mem_append
def F4:=@List.getElem?_eq_none
def N9:=@Int.toNat_natCast
theorem QW{A:Sort _}{a:A}:a=a:=Eq.trans rfl rfl
set_option compiler.extract_closed false
noncomputable section
abbrev WM:=List PySem.Expr
abbrev QB:=Option PySem.Addr
abbrev WC:=List PySem.Addr
abbrev R7:=Option PySem.Value
abbrev Zk:=List PySem.Value
abbrev WZ:=List PySem.Str
abbrev Uk:=List (PySem.Str×Bool)
abbrev WX:=Option Int
abbrev Wz:=List Bool
abbrev SK:=List Nat
abbrev WR:=List Int
abbrev S2:=List (Nat×Nat)
abbrev G9:=List (Int×Int×Int)
abbrev XW:=List (List Int)
theorem Zl{p:Prop}(h:p:=by lia):p:=h
theorem ZA{p:Prop}(h:p:=by simp):p:=h
theorem YN{p:Prop}(h:p:=by kernel_rfl!):p:=h
theorem Wa{p:Prop}(h:p:=by omega):p:=h
theorem FA{p:Prop}(h:p:=by first|exact Or.inl rfl|exact Or.inr (Or.inl rfl)|exact Or.inr (Or.inr rfl)):p:=h
theorem zX{p:Prop}(h:p:=by first|exact .inl rfl|exact .inr rfl|assumption):p:=h
theorem XT{p:Prop}(h:p:=by first|exact Or.inl rfl|exact Or.inr rfl):p:=h
theorem DJ{p:Prop}(h:p:=by first|decide|lia):p:=h
theorem Y5{p:Prop}(h:p:=by with_unfolding_all rfl):p:=h
theorem Sf{p:Prop}(h:p:=by intro _;rfl):p:=h
theorem QL{p:Prop}(h:p:=by intro _ _;rfl):p:=h
theorem Ec{p:Prop}(h:p:=by decide +kernel):p:=h
def Zy:=@wpAny_bind
def XS:=@wpAny_pure
def Ru:=@Nat.le_refl
def RY:=@Option.some.inj
def tC:=@Heap.lt_size
def Vy:=@List.size_toArray
def Ue:=@if_pos
def WA:=@List.map_cons
def Zj:=@if_neg
def ML:=@Bool.and_eq_true
def OG:=@List.getElem?_append_right
def QA:=@Nat.ne_of_lt
def wD:=@List.getElem?_set_ne
def Wj:=@List.length_map
def NW:=@List.not_mem_nil
def U4:=@List.getElem?_set_self
def Nl:=@PyProof.Rows.callWith_type1
def Gn:=@Bool.false_ne_true
def Su:=@Heap.get?_update_other
def v8:=@wpAny_newObj_type
def Us:=@List.length_range
def Rf:=@wpAny_field
def NM:=@mem_of_lookup
def RU:=@Ne.symm
def Hq:=@Nat.zero_le
def U0:=@List.length_append
def OQ:=@List.mem_append_right
def mS:=@List.getElem?_map
def U2:=@List.getElem?_take_of_lt
def Pm:=@Heap.get?_update_self
def YQ:=@Nat.le_trans
def z7:=@of_decide_eq_true
def Pc:=@wpAny_callSpecial?_slot
def UL:=@wpAny_call_entry
def Gs:=@wpAny_truthy_bool
def VD:=@builtinLookup_eq_fast
def OA:=@wpAny_seqItems
def VN:=@wpAny_Call_Name_kw
def Za:=@Nat.pow_le_pow_right
def T2:=@Nat.lt_irrefl
def NV:=@wpAny_pyIter_list
def Fb:=@F.plain_max_loop
def R4:=@List.map_append
def Qx:=@List.lookup_cons
def p8:=@wpAny_of_eq
def Gh:=@Heap.size_push
def F2:=@List.mem_of_mem_drop
def Sb:=@Around.under_plainId
def GD:=@codeAny_builtin
def Co:=@List.replicate_succ
def UN:=@sizeLine_eq
def Om:=@wpAny_specialOf
def PE:=@typeLookup_type
def A7:=@List.of_mem_zip
def vU:=@Nat.le_succ
def C0:=@Calls.spliced_nil
def OO:=@List.mem_of_mem_take
def U8:=@F.slot_tuple_iterator_next
def UA:=@wpAny_mono
def Vs:=@wpAny_holding
def CT:=@plainId_quiet
def QD:=@PyProof.Rows.slot_tuple_getitem
def MN:=@List.length_take
def DF:=@List.getElem_mem
def uo:=@List.getElem?_replicate
def P9:=@List.map_map
def uJ:=@wpAny_setField_rec
def mW:=@wpAny_pyIter_tuple
def CY:=@Obj.data_mapFields
def Ux:=@Calls.spliced_cons
def Xq:=@List.append_nil
def Zc:=@List.any_cons
def Ow:=@List.flatten_cons
def P6:=@isSubtype_type
def GC:=@Nat.lt_succ_self
def Py:=@Nat.le_max_right
def O5:=@List.map_reverse
def PG:=@List.getElem?_range
def Pw:=@List.all_cons
def DS:=@wpAny_updateSeq
def Se:=@wpAny_letGo
def Pk:=@wpAny_typeOf
def Pr:=@F.slot_zip_next
def FL:=@List.length_filter_le
def FK:=@wpAny_rule
def Pf:=@call_meets
def Ph:=@wpAny_isInstance
def vz:=@List.getElem_inj
def zN:=@List.ext_getElem
def Oq:=@wpAny_standAt
def ZI:=@wpAny_attempt
def za:=@Nat.le_max_left
def qc:=@Bool.or_eq_true
def qd:=@wpAny_tryCatch
def Dr:=@wpAny_setField
def y5:=@Int.emod_lt_of_pos
def GI:=@F.plain_reversed_new
def F6:=@F.args_object_init_2
def Vt:=@List.drop_eq_getElem_cons
def ku:=@W.mg_of
def zZ:=@wpAny_assign_Name
def y7:=@Nat.lt_succ_of_lt
def PZ:=@List.reverse_cons
def Nz:=@F.args_tuple_mul_2
def zh:=@F.args_tuple_add_2
def Nv:=@AutoSeq1.wpAny_loadPart'
def E7:=@List.filter_cons
def vX:=@List.all_reverse
def MB:=@F.entry_tuple_mul
def vQ:=@F.entry_tuple_add
def SU:=@W.callWith_K
def OZ:=@Nat.ne_of_gt
def Qh:=@F.slot_tuple_mul
def Pp:=@F.slot_tuple_add
def Sv:=@F.entry_max_loop
def MI:=@List.take_of_length_le
def G2:=@Calls.callWith_builtin
def Po:=@wpAny_ite_false
def N4:=@Obj.isFreed_of_fields
def ZG:=@List.getElem?_reverse
def FH:=@Int.mul_nonneg
def RP:=@wpAny_updateSeq_pair
def DU:=@Heap.SameBut.update
def y9:=@wpAny_onRaise
set_option autoImplicit true
section
set_option Elab.async false
set_option linter.all false
set_option maxRecDepth 100000
namespace L2
open PySem PySem.Spec PyProof.Rows
abbrev Key:=Sum Int Str
noncomputable def yj:Key->Value->Bool|.inl k,v=>Value.isInt k v|.inr x,v=>Value.isStrOf x v
noncomputable def YE(w:World):Key->Int|.inl k=>hashInt k|.inr x=>hashStr w x
theorem bc:∀{k:Key}{v:Value},yj k v=true->(∃i t,k=Sum.inl i/\v=Value.int i t)\/(∃x t,k=Sum.inr x/\v=Value.str x t)|.inl i,v,h=>by obtain⟨t,e⟩:=Value.isInt_shape (k:=i) (v:=v) h;exact .inl ⟨i,t,rfl,e⟩|.inr x,v,h=>by obtain⟨t,e⟩:=Value.isStrOf_shape (x:=x) (v:=v) h;exact .inr ⟨x,t,rfl,e⟩
theorem zu(i:Int)(t:Tok):yj (.inl i) (.int i t)=true:=by simp[yj,Value.isInt]
theorem NR(a b:Int):decide ((Sum.inl a:Key)=Sum.inl b)=(a == b):=by by_cases e:a=b;subst e;simp;have h:¬(Sum.inl a:Key)=Sum.inl b:=λq=>e<|Sum.inl.inj q;rw[T1 h];exact(beq_eq_false_iff_ne.mpr e).symm
theorem NU(a b:Str):decide ((Sum.inr a:Key)=Sum.inr b)=decide (a=b):=by by_cases e:a=b;subst e;simp;have h:¬(Sum.inr a:Key)=Sum.inr b:=λq=>e<|Sum.inr.inj q;rw[T1 h,T1 e]
theorem NS(a:Int)(b:Str):decide ((Sum.inl a:Key)=Sum.inr b)=false:=T1 (λq=>nomatch q)
theorem NT(a:Str)(b:Int):decide ((Sum.inr a:Key)=Sum.inl b)=false:=T1 (λq=>nomatch q)
def hU(prog:Program)(w:World):PySem.KeyKind prog w Key where
 is:=yj
 hash:=YE w
 inj:=λv a b ha hb=>by
  rcases bc ha with ⟨i,t,rfl,rfl⟩|⟨x,t,rfl,rfl⟩
  rcases bc hb with ⟨j,u,rfl,e⟩|⟨y,u,rfl,e⟩
  injection e with e1 _;rw[e1];exact nomatch e;rcases bc hb with ⟨j,u,rfl,e⟩|⟨y,u,rfl,e⟩
  exact nomatch e;injection e with e1 _;rw[e1]
 byValue:=λk v h=>by rcases bc h with ⟨i,t,rfl,rfl⟩|⟨x,t,rfl,rfl⟩<;>rfl
 pyHash:=λhv h=>by
  rcases bc hv with ⟨i,t,rfl,rfl⟩|⟨x,t,rfl,rfl⟩
  exact wpAny_pyHash_int h;exact wpAny_pyHash_str h
 eqBool:=λhu hv h=>by
  rcases bc hu with ⟨i,t,rfl,rfl⟩|⟨x,t,rfl,rfl⟩
  rcases bc hv with ⟨j,u,rfl,rfl⟩|⟨y,u,rfl,rfl⟩
  rw[NR] at h;exact wpAny_eqBool_int h;rw[NS] at h;exact SeqAt.EqAt.int_str i t y u _ _ _ _ h;rcases bc hv with ⟨j,u,rfl,rfl⟩|⟨y,u,rfl,rfl⟩
  rw[NT] at h;exact SeqAt.EqAt.str_int x t j u _ _ _ _ h;rw[NU] at h;exact wpAny_eqBool_str h
 «strs» := λk x t v h=>by
  rcases bc h with ⟨i,u,rfl,e⟩|⟨y,u,rfl,e⟩
  exact nomatch e;injection e with e1 _;subst e1;cases v<;>rfl
theorem gc(prog:Program)(w:World)(i:Int)(t:Tok):(hU prog w).is (.inl i) (.int i t)=true:=zu i t
inductive V where
 |aK|bl (b:Bool)|int (i:Int)|str (x:Str)|byt (b:Array UInt8)|Ki (b:UInt64)|ref (a:Addr)|ty (n:String)
 deriving DecidableEq
def RelV:V->Value->Prop|.aK,u=>u=Value.none|.bl b,u=>u=Value.bool b|.int i,u=>∃t,u=Value.int i t|.str x,u=>∃t,u=Value.str x t|.byt b,u=>∃t,u=Value.bytes b t|.Ki b,u=>∃t,u=Value.float b t|.ref a,u=>u=Value.ref a|.ty n,u=>u=Value.type n
abbrev Vals:List V->Zk->Prop:=Paired RelV
inductive HO where
 |lst (xs:List V)|tup (xs:List V)|dK (kvs:List (Key×V)) (ep:Nat)|dT (kvs:List (List Key×V))|set (S:Int->Bool) (n:Nat)|ins (C dx:Addr) (fs:List (Str×V))|own (x:Addr)|xd (fs:List (Str×V))|met (f x:Addr)|rng (lo hi:Int)|frz (o:Obj) (u:HO)|tbl (ps:Array Value)|ext (φ:Heap->Prop)
abbrev Hp:=Addr->Option HO
def Mv(h:Heap)(a:Addr)(items:Array Value):Prop:=∃o,h.get? a=some o/\o.cls=.type "tuple" /\ (∃n,o.data=.seq items n)/\o.dict=none
theorem Mv.tup(x:Mv h a items):IsTup h a items:=let ⟨o,ho,hc,hd,_⟩:=x;⟨o,ho,hc,hd⟩
noncomputable def W6(h:Heap)(H:Hp):WC:=(List.range h.objs.size).filter λa=>(H a).isSome
def Cg(h:Heap)(H:Hp):Heap:=W.hideAll h (W6 h H)
theorem zm(h:Heap)(H:Hp):(Cg h H).objs.size=h.objs.size:=W.hideAll_size _ _
theorem Ci(e:h.get? b=some o)(n:H b=none):(Cg h H).get? b=some o:=W.hideAll_get _ e λhm=>by have q:(H b).isSome=true:=(List.mem_filter.mp hm).2;rw[n] at q;simp at q
theorem Gg(e:(Cg h H).get? b=some o):h.get? b=some o/\H b=none:=by have e':h.get? b=some o:=W.of_hideAll (W6 h H) e;refine⟨e',?_⟩;cases q:H b with|none=>rfl|some x=>have hm:b∈W6 h H:=List.mem_filter.mpr ⟨List.mem_range.mpr<|tC e',by simp[q]⟩;have z:(Cg h H).get? b=none:=W.hideAll_none (W6 h H) hm;rw[z] at e;cases e
structure Mod(K:W.Frag)(mg:Str->R7)(base:Heap):Prop where
 KH:K.In base
 glob:base.Ns mainGlobals mg
 blt:∃mb,base.Ns builtinsNs mb/\∀x:Str,x≠"__name__" -> mb x=bootBuiltins x
 nolimit:base.NoLimit
noncomputable def oz(l:List Env):WC:=l.filterMap (·.frame)
def mz(sc:Scope)(x:Str):Prop:=sc.names.lookup x=some .local\/sc.names.lookup x=some .cell\/sc.names.lookup x=some .free
def Loc(sc:Scope)(x:Str):Prop:=sc.names.lookup x=some .local\/sc.names.lookup x=some .cell
def Look(env:Env)(h:Heap)(m:Str->R7)(x:Str)(u:Value):Prop:=(env.kindOf x=some .local/\m x=some u)\/((env.kindOf x=some .cell\/env.kindOf x=some .free)/\∃c,env.cells.lookup x=some c/\h.IsCell c (some u))
section
variable{X:Cx}{pins:List (Addr×Obj)}{σ:List (Option V)}{H H':Hp}{s:Shared}{h':Heap}
theorem uD{N:WZ}(hN:N.Nodup){i j:Nat}{x:Str}(a:N[i]?=some x)(b:N[j]?=some x):i=j:=by obtain⟨h1,e1⟩:=List.getElem?_eq_some_iff.mp a;obtain⟨h2,e2⟩:=List.getElem?_eq_some_iff.mp b;exact(vz hN).mp (e1.trans e2.symm)
end
theorem vi{α:Type}{t:Sem α}{Q Q':α->Shared->Prop}(h:wpAny M A t Q E s)(hQ:∀a s,Q a s->Q' a s):wpAny M A t Q' E s:=UA h hQ λ_ _ x=>x
theorem ya(ho:s.heap.get? it=some o)(hc:o.cls=.type n)(hd:o.data=.fields vs)
    (hn:["enumerate","zip","dict_itemiterator","dict_reverseitemiterator","odict_iterator","itertools.zip_longest","itertools.pairwise"].contains n=false) (hQ:Q () s):wpAny M A (letOwnedTupleGo tg (.ref it) u) Q E s:=by
  unfold letOwnedTupleGo
  cases tg<;>first
    |exact XS hQ
    | (cases u<;>first
        |exact XS hQ
        | (refine Zy (wpAny_load ho ?_)
           rw[hc,hd]
           show wpAny M A (if (["enumerate","zip","dict_itemiterator","dict_reverseitemiterator","odict_iterator","itertools.zip_longest","itertools.pairwise"].contains n&&vs[0]? == some (rawInt _))=true then _ else _) Q E s
           rw[Zj (by intro h;rw[hn,Bool.false_and] at h;cases h)]
           exact XS hQ))
section
variable{X:Cx}{a b c:Expr}{ta tb tc:TE}{pos:Pos}
theorem we(b:Expr)(h:op≠.In:=by decide)(h2:op≠.NotIn:=by decide):behindInMarks op b=false:=by
 have e1:(op == CmpOp.In)=false:=by cases op<;>first|rfl|exact absurd rfl h
 have e2:(op == CmpOp.NotIn)=false:=by cases op<;>first|rfl|exact absurd rfl h2
 cases b<;>simp[behindInMarks,e1,e2]
theorem rQ:(sizeLine:Nat)<2 ^ 63:=by rw[UN];decide
end
structure yV(h:Heap)(x dx C:Addr)(mA:Str->R7):Prop where
 obj:h.get? x=some (W.instObj C dx)
 ns:h.Ns1 dx mA
 ne:dx≠x
theorem zy{h:Heap}{dx:Addr}{mA:Str->R7}(n:h.Ns1 dx mA):∃od,h.get? dx=some od/\∀name,W.lookIn name od=some (mA name):=by
 obtain⟨o,es,ep,ho,hd,hk,_,hm⟩:=n;refine⟨o,ho,λname=>?_⟩;have e:=hm name;unfold nsFind findBy at e;rw[<-Array.find?_toList] at e;unfold W.lookIn;rw[hd];dsimp only;split;rename_i y q;rw[q] at e;exact congrArg some e;rename_i q;rw[q] at e;have a:es.toList.any (·.refKey)=false:=by rw[List.any_eq_false];intro y hy;obtain⟨z,t,Nm⟩:=hk y<|Array.mem_toList_iff.mp hy;simp[DictEntry.refKey,Nm]
 have a':¬es.toList.any (·.refKey)=true:=by rw[a];exact Gn
 rw[Zj a'];exact congrArg some e
theorem yV.look(I:yV h x dx C mA):∃od,W.InstAt h x (W.instObj C dx) C (some od)/\∀name,W.lookIn name od=some (mA name):=
 let ⟨od,ho,hl⟩:=zy I.ns
 ⟨od,⟨I.obj,rfl,rfl,ho⟩,hl⟩
section
variable{prog:Program}{w:World}{A:Around}{E:Wg}{s:Shared}{K:W.Frag}{x dx C f:Addr}{mA:Str->R7}{name:Str}{v:Value}
theorem get_map(X:K.In s.heap)(I:yV s.heap x dx C mA)(hg:W.plainGet K C name=true)(hh:W.hasDictIn K C=true)
  (ha:W.findIn K (.ref C) name=some none) (hv:mA name=some v) (ye:W.handedIn v=true) (h:Q v {s with toks:=s.toks+1}) :
  wpAny (model prog w) A (getAttr (.ref x) name expr) Q E s:=by
 obtain⟨od,J,hl⟩:=I.look;exact W.get_value X J (W.plainGet_of hg).1 (W.findObj_own hh ha rfl (by rw[hl,hv])) ye h
theorem Cb(X:K.In s.heap)(I:yV s.heap x dx C mA)(hg:W.plainGet K C name=true)
  (hf:W.findIn K (.ref C) name=some (some<|.ref f)) (ht:W.isFn K (.ref f)=true) (hv:mA name=none) (h:Q (.ref f,[.ref x]) s) :
  wpAny (model prog w) A (getMethod (.ref x) name pl) Q E s:=by
 obtain⟨od,J,hl⟩:=I.look;exact W.method_fn X J (W.plainGet_of hg).1 (W.plainGet_of hg).2 hf (beq_iff_eq.mp ht) (by show (W.lookIn name od).map (·.isSome)=some false;rw[hl,hv];rfl) h
theorem G1(X:K.In s.heap)(I:yV s.heap x dx C mA)
  (hs:W.findIn K (.ref C) "__setattr__" = some (some<|.builtin "object.__setattr__")) (hp:W.plainOver K C=true) (ht:W.takerIn K C name=some none) (hh:W.hasDictIn K C=true)
  (hw:PySem.Within mA ns) (hsz:ns.length<=sizeLine)
  (h:∀h',yV h' x dx C (λy=>if y=name then some v else mA y)->Heap.SameBut dx s.heap h'->Q () {s with heap:=h',toks:=s.toks+2}) :
  wpAny (model prog w) A (setAttr (.ref x) name v) Q E s:=by
 obtain⟨od,J,hl⟩:=I.look;refine W.set_plain X J hs<|W.osa_open (s:={s with toks:=s.toks+1}) (r:=none) X J hp ht λb=>?_;obtain⟨cd,hc,Ai⟩:=W.any_some hh;have hx:s.heap.get? x=some ⟨.ref C,some dx,.plain,#[]⟩:=I.obj;refine Zy<|XS<|Zy<|Zy<|wpAny_loadPart hx<|Zy<|W.Looks.here (s:={s with toks:=s.toks+1}) (W.looks_clsIn X hc) ?_;rw[Ai];refine XS (a:=some dx)<|Zy<|XS<|Zy ?_;refine wpAny_nsSet1 (s:={s with toks:=s.toks+1}) I.ns λh' Yq oG=>?_;obtain⟨oD,esD,epD,hoD,hdD,hcD⟩:=Yq.count<|PySem.Within.cons name v hw;refine Zy<|wpAny_lookBehind hoD (by rw[hdD];exact pastItsLine_dict<|YQ hcD (by rw[List.length_cons];omega)) ?_;exact XS (h _ ⟨(oG.2 _<|RU I.ne).trans I.obj,Yq,I.ne⟩ oG)
theorem CZ(X:K.In s.heap)(hm:W.makesIn K C=true)
  (hi:W.findIn K (.ref C) "__init__" = some (some<|.ref f)) (hf:W.typeIn K (.ref f)=some (.type "function"))
  (h:codeAny (model prog w) (A.under<|.builtin "type.__call__" ⟨.ref C::vs,kw⟩) (.call (.ref f) ⟨.ref (s.heap.objs.size+1)::vs,kw⟩) (W.InitBack (s.heap.objs.size+1) R) {s with heap:=(s.heap.push W.emptyDict).push (W.instObj C s.heap.objs.size)}) :
  codeAny (model prog w) A (.call (.ref C) ⟨vs,kw⟩) R s:=by
 obtain⟨hh,g,d,t,os⟩:=s;exact W.make_core (W.makes_of X hm) (W.looks_findIn X hi) (λself=>W.bind_fn X self hf) (.inl rfl) h
end
structure Mq(K:W.Frag)(C:Addr):Prop where
 pg:W.plainGet K C Str.empty=true
 hd:W.hasDictIn K C=true
 po:W.plainOver K C=true
 sa:W.findIn K (.ref C) "__setattr__" = some (some<|.builtin "object.__setattr__")
theorem Mq.get{K:W.Frag}{C:Addr}(c:Mq K C)(f:Str):W.plainGet K C f=true:=c.pg
def rl(K:W.Frag)(C:Addr)(f:Str):Prop:=W.findIn K (.ref C) f=some none
theorem rl.Vx{K:W.Frag}{C:Addr}{f:Str}(n:rl K C f):W.takerIn K C f=some none:=by unfold W.takerIn;rw[show W.findIn K (.ref C) f=some none from n];rfl
structure Meth(K:W.Frag)(C:Addr)(m:Str)(f:Addr):Prop where
 at_:W.findIn K (.ref C) m=some (some<|.ref f)
 fn:W.isFn K (.ref f)=true
 kp:W.keepIn K (.ref f)=true
section
variable{X:Cx}{pins:List (Addr×Obj)}{σ:St}{H:Hp}{s:Shared}{a C dx:Addr}{fs:List (Str×V)}{f:Str}{v:V}{A:Around}{E:Wg}
theorem EO(hb:attributeBase e f env (eval e env)=eval e env)(h:wpAny (model prog w) A (eval e env) (λo aV=>wpAny (model prog w) A (getAttr o f true) Q E aV) E s):wpAny (model prog w) A (eval (.Attribute e f pos) env) Q E s:=
 Attribute_any_ h (by rw[arm_eval_Attribute,hb])
end
structure bZ(k:Nat)(A:Around):Prop where
 hd:A.handled=none
 dp:A.depth+3*k+5<recursionLimit
 un:A.units+16*k+200<cLine
theorem bZ.mono(r:bZ k A)(h:j<=k):bZ j A:=⟨r.hd,by have:=r.dp;omega,by have:=r.un;omega⟩
theorem bZ.deeper(r:bZ (k+1) A)(env:Env):bZ k (A.deeper env):=⟨r.hd,by have:=r.dp;show A.depth+1+3*k+5<_;omega,by have:=r.un;show A.units+3+16*k+200<_;omega⟩
theorem vY{A:Around}{C:Addr}{us:Zk}{kw:List (Str×Value)}:(A.under<|.builtin "type.__call__" ⟨.ref C::us,kw⟩).depth=A.depth+1:=by first|rfl|simp[Around.under,Code.weight,Code.isCreation,Code.isGuard,Code.isCaller,Code.frames,Code.isFrame,guardIds]
theorem vZ{A:Around}{C:Addr}{us:Zk}{kw:List (Str×Value)}:(A.under<|.builtin "type.__call__" ⟨.ref C::us,kw⟩).units=A.units+1:=by first|rfl|simp[Around.under,Code.cUnits,Code.frames,Code.isFrame]
theorem bZ.make(r:bZ (k+1) A)(C:Addr)(us:Zk)(kw:List (Str×Value)):bZ k (A.under<|.builtin "type.__call__" ⟨.ref C::us,kw⟩):=⟨r.hd,by have:=r.dp;rw[vY];omega,by have:=r.un;rw[vZ];omega⟩
theorem bZ.depth(r:bZ k A):A.depth<recursionLimit:=by have:=r.dp;omega
theorem bZ.units(r:bZ k A):A.units+64<cLine:=by have:=r.un;omega
def Binds(K:W.Frag)(fd:FuncData)(ps:WZ)(ds:Zk):Prop:=∀(s:Shared)(us:Zk),K.In s.heap->(us++ds).length=ps.length->BindsTo s fd ⟨us,[]⟩ (ps.zip<|us++ds)
theorem Binds.all{K:W.Frag}{fd:FuncData}{ps:WZ}(h:∀us:Zk,us.length=ps.length->bindArgs fd ⟨us,[]⟩=pure (ps.zip us)):Binds K fd ps []:=λs us _ hl=>by rw[Xq] at hl ⊢;exact .of_eq (h us hl)
section
variable{X:Cx}{CX:CXT}{k:Nat}{f C:Addr}{fd:FuncData}{ps:WZ}{sp:Sp}{dvs:List V}{ds:Zk}{E:XK}{x m:Str}{p pos WB:Pos}{e o:Expr}{es:WM}{ta:TE}{t:TA}
structure Mk(K:W.Frag)(C f:Addr):Prop where
 makes:W.makesIn K C=true
 init:W.findIn K (.ref C) "__init__" = some (some<|.ref f)
 fn:W.isFn K (.ref f)=true
 kp:W.keepIn K (.ref C)=true
end
structure bp(N P:WZ)(sc:Scope):Prop where
 kind:sc.kind=.function
 co:sc.isCoroutine=false
 gen:sc.isGenerator=false
 nd:N.Nodup
 pre:N.take P.length=P
 par:∀x∈P,sc.names.lookup x=some .local\/sc.names.lookup x=some .cell
 Oi:∀y∈sc.names,y.2≠.free
theorem qo{kindOf:Str->Option NameKind}{x:Str}:∀{binds:List (Str×Value)}{m:Str->R7},(∀v,(x,v)∉binds)->bindL kindOf binds m x=m x
|[],_,_=>rfl| (n,v)::r,m,h=>by
 unfold bindL;rw[qo λw hw=>h w<|WW _ hw];split;have:x≠n:=by rintro rfl;exact h v Uq
 simp[this];rfl
theorem ql{kindOf:Str->Option NameKind}{x:Str}:∀{binds:List (Str×Value)}{m:Str->R7},(∀v,(x,v)∉binds)->bindC kindOf binds m x=m x
|[],_,_=>rfl| (n,v)::r,m,h=>by
 unfold bindC;rw[ql λw hw=>h w<|WW _ hw];split;rfl;have:x≠n:=by rintro rfl;exact h v Uq
 simp[this]
theorem qm{kindOf:Str->Option NameKind}{x:Str}{v:Value}:∀{P:WZ}{vs:Zk}{i:Nat}{m:Str->R7},P.Nodup->P[i]?=some x->vs[i]?=some v->kindOf x=some .local->bindL kindOf (P.zip vs) m x=some v
|[],_,_,_,_,h,_,_=>by simp at h|_::_,[],_,_,_,_,h,_=>by simp at h|p::P,w::vs,0,m,nd,h1,h2,hk=>by simp at h1 h2;subst h1;subst h2;show bindL kindOf ((p,w)::P.zip vs) m p=_;unfold bindL;rw[qo λv hv=>(List.nodup_cons.mp nd).1 (A7 hv).1,Ue hk];simp|p::P,w::vs,i+1,m,nd,h1,h2,hk=>by show bindL kindOf ((p,w)::P.zip vs) m x=_;unfold bindL;exact qm (i:=i) (List.nodup_cons.mp nd).2 (by simpa using h1) (by simpa using h2) hk
theorem qk{kindOf:Str->Option NameKind}{x:Str}{v:Value}:∀{P:WZ}{vs:Zk}{i:Nat}{m:Str->R7},P.Nodup->P[i]?=some x->vs[i]?=some v->kindOf x≠some .local->bindC kindOf (P.zip vs) m x=some v
|[],_,_,_,_,h,_,_=>by simp at h|_::_,[],_,_,_,_,h,_=>by simp at h|p::P,w::vs,0,m,nd,h1,h2,hk=>by simp at h1 h2;subst h1;subst h2;show bindC kindOf ((p,w)::P.zip vs) m p=_;unfold bindC;rw[ql λv hv=>(List.nodup_cons.mp nd).1 (A7 hv).1,Zj hk];simp|p::P,w::vs,i+1,m,nd,h1,h2,hk=>by show bindC kindOf ((p,w)::P.zip vs) m x=_;unfold bindC;exact qk (i:=i) (List.nodup_cons.mp nd).2 (by simpa using h1) (by simpa using h2) hk
theorem tp{sc:Scope}{n:Nat}{x:Str}(h:sc.names.lookup x=some .cell):∃c,(cellsFrom n sc.names []).lookup x=some c:=by have q:=W.cellsFrom_some sc.names n []<|.inl h;exact Option.isSome_iff_exists.mp q
end L2
namespace HT
open PySem PyProof.Rows
section
variable{prog:Program}{w:World}{A:Around}{E:Wg}{s:Shared}
theorem EW(ht:IsTup s.heap t vs.toArray)(hb:IsTup s.heap b ws.toArray)(hv:vs≠[])
  (h1:ws=[]->Q (.ref t) s) (h2:ws≠[]->Q (.ref s.heap.objs.size) {s with heap:=s.heap.push {cls:=.type "tuple",data:=.seq (vs++ws).toArray}})
  (hsz:vs.length+ws.length<=sizeLine):wpAny (model prog w) A (binaryOp .Add (.ref t)<|.ref b) Q E s:=by
 obtain⟨⟨cls,dd,data,sl⟩,ho,hc,n,hd⟩:=id ht;obtain⟨⟨XG,J9,data2,Ro⟩,Ew,zl,n2,hd2⟩:=id hb;simp only at hc hd zl hd2;subst hc hd zl hd2;have e:vs.toArray++ws.toArray=(vs++ws).toArray:=ZA;by_cases hw:ws=[];exact concat_meets ⟨_,ho,rfl⟩ ⟨_,Ew,rfl⟩ noFill_tuple_add seq_tuple_add Pp vQ (zh _ _) (tuple_addW1 t b vs.toArray ws.toArray n n2 dd J9 sl Ro (by simpa using hv) (by simp[hw])) ⟨ho,Ew,h1 hw⟩;refine concat_meets ⟨_,ho,rfl⟩ ⟨_,Ew,rfl⟩ noFill_tuple_add seq_tuple_add Pp vQ (zh _ _) (tuple_addW2 t b vs.toArray ws.toArray n n2 dd J9 sl Ro (by simpa using hv) (by simpa using hw) (by rw[Vy,Vy];exact hsz)) ⟨ho,Ew,?_⟩;rw[e];exact h2 hw
def eB(n d:Nat):WX->Nat|none=>d|some v=>if v<0 then(v+(n:Int)).toNat else min v.toNat n
theorem Qa(n d:Nat)(hd:d<=n)(o:WX):eB n d o<=n:=by cases o with|none=>exact hd|some v=>show (if v<0 then(v+(n:Int)).toNat else min v.toNat n)<=n;by_cases hv:v<0;rw[Ue hv];omega;rw[Zj hv];exact Nat.min_le_right _ _
theorem xy(v:Int)(n d:Nat):(if v<0 then max (v+(n:Int)) 0 else min v (n:Int))=((eB n d (some v):Nat):Int):=by show (if v<0 then max (v+(n:Int)) 0 else min v (n:Int))=(((if v<0 then(v+(n:Int)).toNat else min v.toNat n):Nat):Int);by_cases hv:v<0;simp only[if_pos hv];omega;simp only[if_neg hv];omega
theorem vp(lo hi:WX)(n:Nat):Builtin.Slice.sliceAdjust lo hi 1 (n:Int)=(((eB n 0 lo:Nat):Int),((eB n n hi:Nat):Int)):=by
 have h1:¬((1:Int)<0):=Wa;unfold Builtin.Slice.sliceAdjust;simp only[h1,if_false];refine Prod.ext ?_ ?_;cases lo with|none=>rfl|some v=>exact xy v n 0
 cases hi with|none=>rfl|some v=>exact xy v n n
theorem wC(i j:Nat):Builtin.Slice.slicePlaces (i:Int) (j:Int) 1=j-i:=by unfold Builtin.Slice.slicePlaces;have h1:(1:Int) > 0:=Wa;simp only[h1,if_true,Int.ediv_one];split<;>omega
theorem pz(p:IsPart v o)(h:Q o s):wpAny (model prog w) A (Builtin.Slice.slicePartIndex v) Q E s:=by cases p with|none=>exact slicePart_none h|int i t=>exact slicePart_int h
theorem gK{sl:Addr}{vl vu:Value}{lo hi:WX}{n:Nat}{Q:Int×Int×Nat->Shared->Prop}(hs:s.heap.IsSliceOf sl vl vu .none)(pl:IsPart vl lo)(pu:IsPart vu hi)(h:Q (((eB n 0 lo:Nat):Int),1,eB n n hi-eB n 0 lo) s):wpAny (model prog w) A (Builtin.Slice.sliceApplied (.ref sl)<|pure (n:Int)) Q E s:=by obtain⟨os,Nr,Nh,oE⟩:=id hs;unfold Builtin.Slice.sliceApplied Builtin.Slice.sliceFields;refine Zy<|Zy<|Rf Nr oE (x:=vl) rfl<|Zy<|Rf Nr oE (x:=vu) rfl<|Zy<|Rf Nr oE (x:=.none) rfl<|XS ?_;refine Zy<|slicePart_none ?_;show wpAny _ _ (if ((1:Int) == 0)=true then _ else _) _ _ s;rw[Zj (by decide)];refine Zy<|pz pl<|Zy<|pz pu<|Zy<|XS ?_;show wpAny _ _ (match Builtin.Slice.sliceAdjust lo hi 1 (n:Int) with|(lo,hi)=>pure (lo,(1:Int),Builtin.Slice.slicePlaces lo hi 1)) _ _ s;rw[vp lo hi n];show wpAny _ _ (pure (((eB n 0 lo:Nat):Int),(1:Int),Builtin.Slice.slicePlaces ((eB n 0 lo:Nat):Int) ((eB n n hi:Nat):Int) 1)) _ _ s;rw[wC];exact XS h
theorem Dm(xs:Array Value)(i k:Nat):((List.range k).filterMap λ(m:Nat)=>xs[((i:Int)+(m:Int)*1).toNat]?).toArray=((xs.toList.drop i).take k).toArray:=by
 have e:(λ(m:Nat)=>xs[((i:Int)+(m:Int)*1).toNat]?)=λm=>xs[i+m]?:=by funext m;have:((i:Int)+(m:Int)*1).toNat=i+m:=Wa;rw[this]
 rw[e];have:=pick_run xs i k;rw[List.filterMap_map] at this;have e2:((λx=>xs[x]?)∘λx=>i+x)=λm=>xs[i+m]?:=rfl;rw[e2] at this;rw[this]
theorem Q28{t sl:Addr}{items:Array Value}{vl vu:Value}{lo hi:WX}{Q:Wg}(ht:IsTup s.heap t items)(hs:s.heap.IsSliceOf sl vl vu .none)(pl:IsPart vl lo)(pu:IsPart vu hi)
  (hw:¬(eB items.size 0 lo=0/\eB items.size items.size hi=items.size))
  (h:Q (.ref s.heap.objs.size) {s with heap:=s.heap.push {cls:=.type "tuple",data:=.seq ((items.toList.drop<|eB items.size 0 lo).take<|eB items.size items.size hi-eB items.size 0 lo).toArray}})
  (hsz:items.size<=sizeLine):wpAny (model prog w) A (getItem (.ref t)<|.ref sl) Q E s:=by
 have yd:sizeOk (.seq ((items.toList.drop<|eB items.size 0 lo).take<|eB items.size items.size hi-eB items.size 0 lo).toArray):=by show ((items.toList.drop<|eB items.size 0 lo).take<|eB items.size items.size hi-eB items.size 0 lo).toArray.size<=sizeLine;rw[Vy,MN,List.length_drop,Array.length_toList];omega
 have hj:eB items.size items.size hi<=items.size:=Qa _ _ (Ru _) hi;obtain⟨os,Nr,Nh,oE⟩:=id hs;have X3:s.TypeIs (.ref sl) "slice" := ⟨os,Nr,Nh⟩;unfold getItem;try with_reducible refine Vs ?_
 first|refine Zy (XS ?_)|skip
 refine Zy<|wpAny_sequenceKey ht.typeIs (by decide) ?_;refine Zy<|Pc (name:=Str.ofString "__getitem__") ht.typeIs QD<|UL QD ht.typeIs entry_tuple_getitem ?_<|args_tuple_getitem _ _;show wpAny _ _ (Builtin.Tuple.tupleItemsOf (.ref t) >>= _) _ _ s;refine Zy<|tupleItemsOf_ ht ?_;refine Zy<|Pk X3 ?_;rw[Ue (by decide)];refine Zy<|gK hs pl pu ?_;have Q7:¬((((eB items.size 0 lo:Nat):Int) == 0&&(1:Int) == 1&&(eB items.size items.size hi-eB items.size 0 lo) == items.size)=true):=by intro q;rw[ML,ML] at q;have q1:((eB items.size 0 lo:Nat):Int)=0:=eq_of_beq q.1.1;have q2:eB items.size items.size hi-eB items.size 0 lo=items.size:=eq_of_beq q.2;exact hw ⟨Wa,Wa⟩
 show wpAny _ _ (if (((eB items.size 0 lo:Nat):Int) == 0&&(1:Int) == 1&&(eB items.size items.size hi-eB items.size 0 lo) == items.size)=true then _ else _) _ _ s;rw[Zj Q7,Dm];first|exact Zy (m:=Builtin.Tuple.tupleExact _) (v8 (XS ⟨_,rfl,XS h⟩) yd)|exact Zy (m:=Builtin.Tuple.tupleExact _) (v8 (Zy<|XS<|XS ⟨_,rfl,XS h⟩) yd)|exact Zy (Zy (m:=Builtin.Tuple.tupleExact _)<|v8 (XS<|XS ⟨_,rfl,XS h⟩) yd)|exact Zy (Zy (m:=Builtin.Tuple.tupleExact _)<|v8 (XS ⟨_,rfl,XS h⟩) yd)
end
end HT
namespace L2
open PySem PySem.Spec PyProof.Rows
noncomputable def Rd(n:Nat)(i:Int):Option Nat:=if 0<=i then(if i<n then some i.toNat else none) else if -(n:Int)<=i then some (i+n).toNat else none
theorem rN(h:Rd n i=some j):seqIndex? i n=some j/\j<n/\-(n:Int)<=i/\i<n:=by unfold Rd at h;by_cases h0:0<=i;rw[Ue h0] at h;by_cases h1:i<n;rw[Ue h1] at h;have e:i.toNat=j:=RY h;exact⟨by rw[seqIndex_of h0 h1,e],Wa,Wa,h1⟩;rw[Zj h1] at h;cases h;rw[Zj h0] at h;by_cases h1:-(n:Int)<=i;rw[Ue h1] at h;have e:(i+n).toNat=j:=RY h;exact⟨by rw[seqIndex_neg Wa h1,e],Wa,h1,Wa⟩;rw[Zj h1] at h;cases h
def m8(b:Expr):Prop:=∀o i,subscripted b false o i=operate [o,i] (getItem o i)
section
variable{X:Cx}{a b:Expr}{ta tb:TE}{pos:Pos}
theorem sA(lo hi:WX)(n:Nat):(sliceBounds lo hi none n).1=((HT.eB n 0 lo:Nat):Int)/\(sliceBounds lo hi none n).2.1=((HT.eB n n hi:Nat):Int)/\(sliceBounds lo hi none n).2.2=1:=by
 refine⟨?_,?_,rfl⟩;cases lo with|none=>simp[sliceBounds,HT.eB]|some i=>simp only[sliceBounds,HT.eB,Option.getD_none,show (1:Int) > 0 by decide,if_true];by_cases h:i<0;simp only[h,if_true]<;>omega;simp only[h,if_false]<;>omega
 cases hi with|none=>simp[sliceBounds,HT.eB]|some i=>simp only[sliceBounds,HT.eB,Option.getD_none,show (1:Int) > 0 by decide,if_true];by_cases h:i<0;simp only[h,if_true]<;>omega;simp only[h,if_false]<;>omega
theorem Q21(aS:Zk)(lo hi:WX):slicePick aS.toArray lo hi none=((aS.drop<|HT.eB aS.length 0 lo).take<|HT.eB aS.length aS.length hi-HT.eB aS.length 0 lo).toArray:=by obtain⟨h1,h2,h3⟩:=sA lo hi aS.toArray.size;unfold slicePick;rw[h1,h2,h3];simp only[sliceRange_one,pick_run,List.size_toArray]<;>rfl
noncomputable def mK:V->Bool|.aK=>true|.bl _=>true|.int _=>true|.str _=>true|_=>false
noncomputable def E6:V->V->Bool|.aK,.aK=>true|.bl a,.bl b=>a == b|.bl a,.int b=>(if a then 1 else 0) == b|.int a,.bl b=>a == (if b then 1 else 0)|.int a,.int b=>a == b|.str a,.str b=>a == b|_,_=>false
theorem MU(ry:RelV y u)(rx:RelV x v)(fy:mK y=true)(fx:mK x=true):SeqAt.EqAt A s u v (E6 y x):=by
 cases y with
 |aK=>cases ry;cases x with|aK=>cases rx;exact SeqAt.EqAt.same _|bl b=>cases rx;exact SeqAt.EqAt.none_bool b|int b=>obtain⟨t,rfl⟩:=rx;exact SeqAt.EqAt.none_int b t|str b=>obtain⟨t,rfl⟩:=rx;exact SeqAt.EqAt.none_str b t|_=>exact absurd (show false=true from fx) Gn
 |bl a=>cases ry;cases x with|aK=>cases rx;exact SeqAt.EqAt.bool_none a|bl b=>cases rx;exact SeqAt.EqAt.bool_bool a b|int b=>obtain⟨t,rfl⟩:=rx;exact SeqAt.EqAt.bool_int a b t|str b=>obtain⟨t,rfl⟩:=rx;exact SeqAt.EqAt.bool_str a b t|_=>exact absurd (show false=true from fx) Gn
 |int a=>obtain⟨t',rfl⟩:=ry;cases x with|aK=>cases rx;exact SeqAt.EqAt.int_none a t'|bl b=>cases rx;exact SeqAt.EqAt.int_bool a t' b|int b=>obtain⟨t,rfl⟩:=rx;exact SeqAt.EqAt.int_int a t' b t|str b=>obtain⟨t,rfl⟩:=rx;exact SeqAt.EqAt.int_str a t' b t|_=>exact absurd (show false=true from fx) Gn
 |str a=>obtain⟨t',rfl⟩:=ry;cases x with|aK=>cases rx;exact SeqAt.EqAt.str_none a t'|bl b=>cases rx;exact SeqAt.EqAt.str_bool a t' b|int b=>obtain⟨t,rfl⟩:=rx;exact SeqAt.EqAt.str_int a t' b t|str b=>obtain⟨t,rfl⟩:=rx;exact SeqAt.EqAt.str_str a t' b t|_=>exact absurd (show false=true from fx) Gn
 |_=>exact absurd (show false=true from fy) Gn
def Eo(x:V)(u:Value):Bool:=match u with|.none=>E6 .aK x|.bool b=>E6 (.bl b) x|.int i _=>E6 (.int i) x|.str z _=>E6 (.str z) x|_=>false
theorem Bn(r:RelV y u)(f:mK y=true):Eo x u=E6 y x:=by cases y with|aK=>cases r;rfl|bl b=>cases r;rfl|int i=>obtain⟨t,rfl⟩:=r;rfl|str z=>obtain⟨t,rfl⟩:=r;rfl|_=>exact absurd (show false=true from f) Gn
theorem xk:∀{xs:List V}{us:Zk},Vals xs us->xs.all mK=true->us.any (Eo x)=xs.any λy=>E6 y x|_,_,.nil,_=>rfl|y::xs,u::us,.cons r t,f=>by rw[Pw,ML] at f;rw[Zc,Zc,Bn r f.1,xk t f.2]
theorem uA(rx:RelV x v)(fx:mK x=true):∀{xs:List V}{us:Zk},Vals xs us->xs.all mK=true->∀u∈us,SeqAt.EqAt A s u v (Eo x u)|_,_,.nil,_=>λu hu=>by cases hu|y::xs,u::us,.cons r t,f=>λu' hu=>by rw[Pw,ML] at f;rcases List.mem_cons.mp hu with rfl|hu;rw[Bn r f.1];exact MU r rx f.1 fx;exact uA rx fx t f.2 u' hu
variable{o e:Expr}{es:WM}{to:TE}{t:TA}{name:Str}{WB dj:Pos}{T id:String}{r:V->List V->Hp->VK->Prop}
end
theorem tIx{α:Type}(l:List α):l.eraseIdx (l.length-1)=l.dropLast:=by
 induction l with
 |nil=>rfl|cons a r ih=>
  cases r with
  |nil=>rfl|cons b r=>
   have e:(a::b::r).length-1=((b::r).length-1)+1:=by have h1:(a::b::r).length=r.length+2:=rfl;have h2:(b::r).length=r.length+1:=rfl;omega
   rw[e,List.eraseIdx_cons_succ,ih];all_goals rfl
theorem foldl_rep(aS:Zk):∀(k:Nat)(acc:Zk),List.foldl (λx1 x2=>x1++x2) acc.toArray (List.replicate k aS.toArray)=(acc++(List.replicate k aS).flatten).toArray
|0,acc=>ZA|k+1,acc=>by
 have e:acc.toArray++aS.toArray=(acc++aS).toArray:=ZA;have e2:(acc++aS)++(List.replicate k aS).flatten=acc++(List.replicate (k+1) aS).flatten:=by rw[Co,Ow,List.append_assoc]
 rw[<-e2,<-foldl_rep aS k (acc++aS),<-e,Co,List.foldl_cons]
section
variable{X:Cx}{pins:List (Addr×Obj)}{σ:St}{H:Hp}{s:Shared}{l b:Addr}{xs ys zs:List V}
theorem uF(h:n<=sizeLine):Builtin.List.listTooLong n=false:=by unfold Builtin.List.listTooLong;exact T1 Wa
end
section
variable{X:Cx}
theorem len_rep{α:Type}(xs:List α)(k:Nat):(List.replicate k xs).flatten.length=k*xs.length:=by induction k with|zero=>simp|succ k ih=>rw[Co,Ow,U0,ih,Nat.succ_mul,Nat.add_comm]
end
end L2
namespace ZK
open PySem PySem.W PySem.Calls PyProof.Rows
theorem Q1c:∀(ns:WR)(vs:Zk),WellAll P h vs (ns.map WData.int)->IntsAre vs ns:=by intro ns;induction ns with|nil=>intro vs w;rw[List.map_nil] at w;cases w;exact .nil|cons n ns ih=>intro vs w;rw[WA] at w;cases w with|cons a b=>cases a;exact .cons _ _ (ih _ b)
theorem zY{l:OpenLaw}{n:Nat}(hn:l.most=some n){P:Params}{h:Heap}{args:List WData}{vals:Zk}
  (Fs:l.row.toRowW.claim.pre args=true) (Yv:WellAll P h vals args) :
  ∃a vs ns,vals=[Value.ref a]/\args=[WData.list<|ns.map WData.int]/\h.get? a=some {cls:=.type "list",data:=.seq vs.toArray}/\IntsAre vs ns/\ns.length<=n:=by
 have hsh:WShape.hasAll [] args [.list .int]=true:=(pre_splitW Fs).1;have hc:l.pre.holds [] {args:=args}=true:=(pre_splitW Fs).2;obtain⟨d,r,rfl,h1,h2⟩:=hasAllW_cons hsh;obtain rfl:=hasAllW_nil h2;obtain⟨xs,rfl,h3⟩:=hasW_list h1;obtain⟨ns,rfl⟩:=items_int h3;have SR:ns.length<=n:=by
  unfold OpenLaw.pre at hc;have h4:(WTm.not<|.lt (.lit<|.int (n:Int))<|.len<|.arg 0).holds [] {args:=[.list<|ns.map .int]}=true:=by have h4:=(holds_andW hc).1;rw[hn] at h4;exact h4
  have h5:=condW_of h4<|w_not<|w_lt w_lit<|w_len_list<|w_arg rfl;rw[Wj] at h5;refine Nat.le_of_not_lt λq=>?_;have q':(n:Int)<((ns.length:Nat):Int):=Wa;first| (rw[Ud q'] at h5;exact absurd h5 (by decide))| (simp at h5;omega)
 cases Yv with|cons w1 w2=>cases w2;cases w1 with|list ho X5=>exact⟨_,_,ns,rfl,rfl,ho,Q1c ns _ X5,SR⟩
theorem zP(l:OpenLaw)(args:List WData):l.row.toRowW.claim.post args (.bool true) args=true:=postW_of (r:=l.row.toRowW) (X:=(true == true))
 (show WShape.has [] (.bool true) .bool=true by first|rfl|decide|simp[WShape.has,WShape.arms,WShape.armsAll])
 (show (WTm.eq .res<|.lit<|.bool true).value [] {args:=args,res:=some<|.bool true,after:=args}=some (.bool<|true == true) from w_eq_bool (w_res rfl) w_lit) rfl
theorem sY{l:OpenLaw}{n:Nat}{q:Program}{loose:WZ}{XP:(Str->R7)->Heap->Prop}{YP:World->Heap->Prop}{d:DefRec}
  (hn:l.most=some n) (Yd:d.params.defaults=[])
  (call:∀(w:World)(G7 aV:Shared)(mg mb:Str->R7)(fa:Addr)(o:Obj)(pm cd doc:Value)(a:Addr)(vs:Zk)(ns:WR),
   Ground q loose [] XP w G7 mg mb aV.heap->YP w aV.heap ->
   aV.heap.get? fa=some o->o.data=.func (docDef d.name d.params d.body d.scope pm cd doc)->aV.heap.CodeRec cd d.name->mg d.name=some (.ref fa) ->
   aV.heap.get? a=some {cls:=.type "list",data:=.seq vs.toArray}->IntsAre vs ns->ns.length<=n->aV.gens=#[] ->
   codeAny (model l.prog w) callerA (.call (.ref fa) ⟨[.ref a],[]⟩) (λr s'=>r=.ok (.ret<|.bool true)/\OldK aV.heap s'.heap/\s'.os=aV.os/\AllBare s'.gens) aV) :
  WalkO q loose XP YP l.row.toRowW d [] (λf vs=>PySem.call f vs):=by
 intro w G7 aV mg mb G Y fa o pm cd doc dV kV ho hd gG hD TF hg args vals as Fs abZ Wq Yv Ku;obtain rfl:dV=.none:=Dflts.none hD Yd;obtain rfl:kV=.none:=Dflts.noKw hD;obtain⟨a,vs,ns,rfl,rfl,Np,hints,SR⟩:=zY hn Fs Yv;refine enter_call<|codeAny_mono (call w G7 aV mg mb fa o pm cd doc a vs ns G Y ho (fd_plain hd) gG TF Np hints SR hg) λr s' hq=>?_;obtain⟨rfl,h2,h3,h4⟩:=hq;exact⟨.inl ⟨.bool true,.bool true,[],rfl,λ_=>rfl,.bool true,zP l _,λ_=>⟨List.Pairwise.nil,λ_ hm=>(nomatch hm)⟩⟩,h2,h3,h4⟩
end ZK
namespace L2
open PySem PySem.Spec PyProof.Rows
def inClass(s:Stmt)(j:Nat):Stmt:=match s with|.ClassDef _ _ _ body _ _ _ _ _ _ _=>body.getD j (.Pass ⟨0,0,0,0⟩)|_=>.Pass ⟨0,0,0,0⟩
def bW(s:Stmt):Arguments:=match s with|.FunctionDef _ a _ _ _ _ _ _ _ _=>a|_=>{posonlyargs:=[],args:=[],vararg:=none,kwonlyargs:=[],kw_defaults:=[],kwarg:=none,defaults:=[]}
def bh(s:Stmt):List Stmt:=match s with|.FunctionDef _ _ b _ _ _ _ _ _ _=>b|_=>[]
def au(s:Stmt):Scope:=match s with|.FunctionDef _ _ _ _ _ _ sc _ _ _=>sc|_=>{kind:=.function,names:=[],isGenerator:=false,isCoroutine:=false}
structure HH(K:W.Frag)(x Vw:Str)(st:Stmt)(f:Addr)(fd:FuncData):Prop where
 ex:∃(oc:Value)(od:QB)(kV doc pm:Value)(an:QB)(lB ct:Value)(PC:Array (Option Value)),fd=W.fnOf x Vw (bW st) (bh st) (au st) .none kV doc pm an lB ct/\K.lookup f=some ⟨oc,od,.func fd,PC⟩/\W.codeIn K lB Vw=true
 kp:W.keepIn K (.ref f)=true
section
variable{P:Program}{w:World}{K:W.Frag}{mg:Str->R7}{base:Heap}
theorem HH.binds{x Vw:Str}{st:Stmt}{f:Addr}{fd:FuncData}{ps:WZ}(F:HH K x Vw st f fd)(h:∀(kV doc pm:Value)(an:QB)(lB ct:Value)(us:Zk),us.length=ps.length->bindArgs (W.fnOf x Vw (bW st) (bh st) (au st) .none kV doc pm an lB ct) ⟨us,[]⟩=pure (ps.zip us)):Binds K fd ps []:=by obtain⟨oc,od,kV,doc,pm,an,lB,ct,PC,rfl,lk,gG⟩:=F.ex;exact .all (h kV doc pm an lB ct)
theorem B8{x Vw:Str}{st:Stmt}{f:Addr}{oc:Value}{od an:QB}{PC:Array (Option Value)}{kV doc pm lB ct:Value}(l:K.lookup f=some ⟨oc,od,.func<|W.fnOf x Vw (bW st) (bh st) (au st) .none kV doc pm an lB ct,PC⟩)(c:W.codeIn K lB Vw=true) (k:W.keepIn K (.ref f)=true):HH K x Vw st f (W.fnOf x Vw (bW st) (bh st) (au st) .none kV doc pm an lB ct):=⟨⟨oc,od,kV,doc,pm,an,lB,ct,PC,rfl,l,c⟩,k⟩
end
end L2
end
section
set_option Elab.async false
set_option linter.all false
set_option maxRecDepth 100000
namespace L2
open PySem PySem.Spec PyProof.Rows
def RM(i:Expr):Prop:=∀ov iv,subscripted i false ov iv=operate [ov,iv] (getItem ov iv)
theorem G6{prog:Program}{w:World}{A:Around}{E:Wg}{s:Shared}{env:Env}{value slice:Expr}{pos:Pos}{T id:String}{Q:Wg}
  (hl:typeLookup (.type T) "__getitem__" = pure (some<|.builtin id)) (hs:RM slice)
  (h:wpAny (model prog w) A (eval value env) (λo aV=>wpAny (model prog w) A (eval slice env) (λi G8=>G8.TypeIs o T/\wpAny (model prog w) A (getItem o i) Q E G8) E aV) E s) :
  wpAny (model prog w) A (eval (.Subscript value slice pos) env) Q E s:=by
 refine Subscript_<|UA h (λo aV bL=>UA bL (λi G8 kz=>?_) λ_ _ x=>x) λ_ _ x=>x;obtain⟨hT,kz⟩:=kz;unfold subscriptTail;refine Zy ?_;rw[getitemInPython_of_ne hT.not_modules];refine Zy<|Om hT hl ?_;have fin:wpAny (model prog w) A (subscripted slice false o i) (λr Vl=>wpAny (model prog w) A (letTemporaryGo value o r >>= λ_=>pure r) Q E Vl) E G8:=by rw[hs o i];exact wpAny_operating (UA kz (λr Vl mV=>Zy<|wpAny_letTemporaryGo<|XS mV) λ_ _ x=>x)
 first|exact XS (Zy fin)|exact Zy (XS<|Zy fin)|exact Zy fin
end L2
end
section
namespace VP
theorem gl{P:Prop}(h:∀Q:Prop,Q=P->Q):P:=h P rfl
inductive D where
 |aK|bl (b:Bool)|int (i:Int)|str (x:Str)|tup (xs:List D)|lst (xs:List D)|fZ (ks:List (Sum Int Str)) (vs:List D)|ins (c:Str) (ns:WZ) (vs:List D)|XO (c:Str) (ns:WZ) (vs:List D)
 deriving Inhabited
abbrev Y2:=Option D
abbrev Zm:=List D
inductive Sl where
 |no|sh (d:D)|ow (d:D)|io (d:D)
 deriving Inhabited
abbrev ax:=List Sl
structure Xn where
 cls:Str
 ns:List Str
 vs:List D
inductive Res(α:Type) where
 |ok (a:α) (r:ax)|exc (x:Xn) (r:ax)|no
abbrev M(α:Type):=ax->Res α
inductive Fl where
 |nx|bk|ct|rt (d:D)
noncomputable def ret{α:Type}(a:α):M α:=λr=>.ok a r
noncomputable def Q1{α β:Type}(f:M α)(g:α->M β):M β:=λr=>match f r with|.ok a r'=>g a r'|.exc x r'=>.exc x r'|.no=>.no
noncomputable def stuck{α:Type}:M α:=λ_=>.no
def opt{α:Type}:Option α->M α|some a=>ret a|none=>stuck
noncomputable def aa(i:Nat):M D:=λr=>match r[i]? with|some (.sh d)=>.ok d r|_=>.no
noncomputable def Ey(i:Nat):M D:=λr=>match r[i]? with|some (.sh d)=>.ok d r|some (.ow d)=>.ok d r|some (.io d)=>.ok d r|_=>.no
noncomputable def free:Option Sl->Bool|some (.io _)=>false|some _=>true|none=>false
def lO(i:Nat)(d:D):M Unit:=λr=>if free r[i]? then .ok () (r.set i<|.sh d) else .no
def zG(i:Nat)(d:D):M Unit:=λr=>if free r[i]? then .ok () (r.set i<|.ow d) else .no
noncomputable def own:Option Sl->Option D|some (.ow d)=>some d|some (.io d)=>some d|_=>none
noncomputable def cN(i:Nat)(d:D)(r:ax):ax:=match r[i]? with|some (.ow _)=>r.set i (.ow d)|some (.io _)=>r.set i (.io d)|_=>r
noncomputable def KQ(i:Nat):M Unit:=λr=>match r[i]? with|some (.ow d)=>.ok () (r.set i<|.sh d)|some (.sh d)=>.ok () r|_=>.no
def hO(i:Nat)(g:D->Y2):M Unit:=λr=>match own r[i]? with
 |some d=>match g d with
   |some d'=>.ok () (cN i d' r)|none=>.no
  |none=>.no
def mC(d:D):M D:=ret d
def m1(g:D->Y2)(a:M D):M D:=Q1 a λx=>opt (g x)
def m2(g:D->D->Y2)(a b:M D):M D:=Q1 a λx=>Q1 b λy=>opt (g x y)
def mL:List (M D)->M (List D)|[]=>ret []|f::fs=>Q1 f λx=>Q1 (mL fs) λxs=>ret (x::xs)
def mF(g:Zm->Y2)(as:List (M D)):M D:=Q1 (mL as) λxs=>opt (g xs)
def tB(a:M D):M Bool:=Q1 a λx=>match x with|.bl b=>ret b|_=>stuck
def z8(a:M Bool):M Bool:=Q1 a λb=>ret (!b)
def mZ(a b:M Bool):M Bool:=Q1 a λx=>if x then b else ret false
def Hf(a b:M Bool):M Bool:=Q1 a λx=>if x then ret true else b
def Rh(c:M Bool)(a b:M D):M D:=Q1 c λx=>if x then a else b
def ai(f g:M Fl):M Fl:=Q1 f λk=>match k with|.nx=>g|.bk=>ret .bk|.ct=>ret .ct|.rt d=>ret (.rt d)
def aX:M Fl:=ret .nx
def zW(f:M Unit):M Fl:=Q1 f λ_=>ret .nx
def qS(f:M D):M Fl:=Q1 f λ_=>ret .nx
def bV(f:M D):M Fl:=Q1 f λd=>ret (.rt d)
def iD(c:M Bool)(a b:M Fl):M Fl:=Q1 c λx=>if x then a else b
def aM(i:Nat)(f:M D):M Fl:=Q1 f λd=>zW (lO i d)
def fq(i:Nat)(f:M D):M Fl:=Q1 f λd=>zW (zG i d)
def wK(i:Nat)(f:M Fl):M Fl:=Q1 (KQ i) λ_=>f
def aj(i:Nat):D->M Unit:=λd=>lO i d
def p7:SK->Zm->M Unit|[],[]=>ret ()|i::is,d::ds=>Q1 (lO i d) λ_=>p7 is ds|_,_=>stuck
def dy(is:SK):D->M Unit:=λd=>match d with|.tup ds=>p7 is ds|_=>stuck
def loop(g:D->M Unit)(body:M Fl):Zm->M Fl|[]=>ret .nx|d::ds=>Q1 (g d) λ_=>Q1 body λk=>match k with|.nx=>loop g body ds|.ct=>loop g body ds|.bk=>ret .nx|.rt e=>ret (.rt e)
def ip(it:M (List D))(g:D->M Unit)(body:M Fl):M Fl:=Q1 it λds=>loop g body ds
noncomputable def dJ(x:D):D->Option D|.lst xs=>if xs.length<16777216 then some (.lst<|xs++[x]) else none|_=>none
def turns(k:Nat)(g:D->M Unit)(test:M Bool)(elt:M D):Zm->M Unit
|[]=>ret ()|d::ds=>Q1 (g d) λ_=>Q1 test λb=>if b
 then Q1 elt λx=>Q1 (hO k<|dJ x) λ_=>turns k g test elt ds
 else turns k g test elt ds
noncomputable def inner(n:Nat)(f:Nat->M Unit):M D:=λr=>match f (r.length+n) (r++List.replicate n .no++[.ow<|.lst []]) with
 |.ok _ r'=>match r'[r.length+n]? with
   |some (.ow d)=>.ok d (r'.take r.length)|_=>.no
  |.exc x r'=>.exc x (r'.take r.length)|.no=>.no
def az(n:Nat)(it:M (List D))(g:D->M Unit)(test:M Bool)(elt:M D):M D:=Q1 it λds=>inner n λk=>turns k g test elt ds
def fT(c:M Bool)(body:M Fl):Nat->M Fl
|0=>stuck|n+1=>Q1 c λb=>if b
 then Q1 body λk=>match k with|.nx=>fT c body n|.ct=>fT c body n|.bk=>ret .nx|.rt e=>ret (.rt e)
 else ret .nx
inductive FR where
 |ok (d:D) (ios:Zm)|exc (x:Xn) (ios:Zm)|no
abbrev Fn:=List D->FR
noncomputable def bG(n:Nat):Wz->Zm->ax|b::bs,d::ds=>(if b then .io d else .sh d)::bG (n-1) bs ds|_,_=>List.replicate n .no
noncomputable def bD:Wz->ax->Option (List D)|[],_=>some []|true::bs,.io d::r=>(bD bs r).map (d::·)|false::bs,_::r=>bD bs r|_,_=>none
def defn(n:Nat)(fl:Wz)(body:M Fl):Fn:=λds=>
 if ds.length=fl.length then
  match body (bG n fl ds) with
  |.ok (.rt d) r=>match bD fl r with|some ios=>.ok d ios|none=>.no
  |.ok .nx r=>match bD fl r with|some ios=>.ok .aK ios|none=>.no
  |.ok .bk _=>.no|.ok .ct _=>.no|.exc x r=>match bD fl r with|some ios=>.exc x ios|none=>.no
  |.no=>.no
 else .no
inductive Arg where
 |val (f:M D)|io (j:Nat)
inductive AV where
 |val (d:D)|io (j:Nat)
def bj:List Arg->M (List AV)|[]=>ret []|.val f::as=>Q1 f λd=>Q1 (bj as) λvs=>ret (.val d::vs)|.io j::as=>λr=>if (own r[j]?).isSome then Q1 (bj as) (λvs=>ret (.io j::vs)) r else .no
def gL:List AV->ax->Option (List D)|[],_=>some []|.val d::as,r=>(gL as r).map (d::·)|.io j::as,r=>match own r[j]? with|some d=>(gL as r).map (d::·)|none=>none
noncomputable def bP:List AV->List Nat|[]=>[]|.val _::as=>bP as|.io j::as=>j::bP as
def putAll:SK->Zm->ax->ax|j::js,d::ds,r=>putAll js ds (cN j d r)|_,_,r=>r
noncomputable def Arg.isIo:Arg->Bool|.val _=>false|.io _=>true
def oU(f:Fn)(vs:List AV):M D:=λr=>
 match gL vs r with
 |some ds=>if (bP vs).Nodup then match f ds with
   |.ok d ios=>.ok d (putAll (bP vs) ios r)|.exc x ios=>.exc x (putAll (bP vs) ios r)|.no=>.no
  else .no
 |none=>.no
def aw(f:Fn)(as:List Arg):M D:=Q1 (bj as) λvs=>oU f vs
def qI(a b:M D):M D:=Q1 a λx=>match x with|.bl true=>b|.bl false=>ret (.bl false)|_=>stuck
def CU(a b:M D):M D:=Q1 a λx=>match x with|.bl true=>ret (.bl true)|.bl false=>b|_=>stuck
noncomputable def DV(ds:Zm):Y2:=if ds.length<=16777216 then some (.tup ds) else none
noncomputable def zD(ds:Zm):Y2:=if ds.length<=16777216 then some (.lst ds) else none
def bU(fl:List (M D)):M D:=Q1 (mL fl) λxs=>opt (DV xs)
def d6(fl:List (M D)):M D:=Q1 (mL fl) λxs=>opt (zD xs)
noncomputable def fU:Nat:=16777216
noncomputable def aa4:D->D->Option D|.int i,.int j=>some (.int<|i+j)|_,_=>none
noncomputable def ja:D->D->Option D|.int i,.int j=>some (.int<|i-j)|_,_=>none
noncomputable def uB:D->D->Option D|.int i,.int j=>if (-(2 ^ 64)<i/\i<2 ^ 64)\/(-(2 ^ 64)<j/\j<2 ^ 64) then some (.int<|i*j) else none|_,_=>none
noncomputable def qy:D->D->Option D|.int i,.int j=>if 0<j/\j<1073741824 then some (.int<|i / j) else none|_,_=>none
noncomputable def hV:D->D->Option D|.int i,.int j=>if 0<j then some (.int<|i % j) else none|_,_=>none
noncomputable def C4:D->Option D|.int i=>some (.int<|-i)|_=>none
noncomputable def ltI:D->D->Option D|.int i,.int j=>some (.bl<|decide<|i<j)|_,_=>none
noncomputable def vg:D->D->Option D|.int i,.int j=>some (.bl<|decide<|i<=j)|_,_=>none
noncomputable def Nc:D->D->Option D|.int i,.int j=>some (.bl<|decide<|j<i)|_,_=>none
noncomputable def S5:D->D->Option D|.int i,.int j=>some (.bl<|decide<|j<=i)|_,_=>none
noncomputable def Bm:D->D->Option Bool|.aK,.aK=>some true|.aK,.int _=>some false|.int _,.aK=>some false|.aK,.bl _=>some false|.bl _,.aK=>some false|.aK,.str _=>some false|.str _,.aK=>some false|.int i,.int j=>some (decide<|i=j)|.bl i,.bl j=>some (decide<|i=j)|.str i,.str j=>some (decide<|i=j)|.int _,.str _=>some false|.str _,.int _=>some false|.bl _,.str _=>some false|.str _,.bl _=>some false|_,_=>none
noncomputable def isNon:D->Bool|.aK=>true|_=>false
def isND(x y:D):Y2:=if isNon y then some (.bl<|isNon x) else none
def aa6:D->D->Option D|.tup xs,.tup ys=>if xs.length+ys.length<=fU then some (.tup<|xs++ys) else none|_,_=>none
def aa5:D->D->Option D|.lst xs,.lst ys=>if xs.length+ys.length<=fU then some (.lst<|xs++ys) else none|_,_=>none
noncomputable def orE(g g':D->D->Y2)(x y:D):Y2:=match g x y with|some d=>some d|none=>g' x y
noncomputable def yh(n:Nat)(i:Int):Option Nat:=if 0<=i then(if i<n then some i.toNat else none) else if -(n:Int)<=i then some (i+n).toNat else none
def vR(xs:Zm)(i:Int):Y2:=(yh xs.length i).bind λj=>xs[j]?
def ah:D->D->Option D|.tup xs,.int i=>vR xs i|.lst xs,.int i=>vR xs i|_,_=>none
mutual
noncomputable def eqB:D->D->Bool|.aK,.aK=>true|.bl a,.bl b=>a == b|.bl a,.int j=>(if a then 1 else 0) == j|.int i,.bl b=>i == (if b then 1 else 0)|.int i,.int j=>i == j|.str x,.str y=>x == y|.lst xs,.lst ys=>nY xs ys|.tup xs,.tup ys=>nY xs ys|_,_=>false
noncomputable def nY:Zm->Zm->Bool|[],[]=>true|x::xs,y::ys=>eqB x y&&nY xs ys|[],_::_=>false|_::_,[]=>false
end
theorem xF(i j:Int):eqB (.int i) (.int j)=(i == j):=QW
theorem Ka(x y:Str):eqB (.str x) (.str y)=(x == y):=QW
theorem xG(xs ys:Zm):eqB (.lst xs) (.lst ys)=nY xs ys:=QW
theorem Bj(xs ys:Zm):eqB (.tup xs) (.tup ys)=nY xs ys:=QW
noncomputable def kT(x:Str):Bool:=x.cps.toList.all (·<0x110000)
mutual
noncomputable def plain:Nat->D->Bool|_,.aK=>true|_,.bl _=>true|_,.int _=>true|_,.str x=>kT x|n+1,.tup xs=>eT n xs|n+1,.lst xs=>eT n xs|_,_=>false
noncomputable def eT:Nat->Zm->Bool|_,[]=>true|n,x::xs=>plain n x&&eT n xs
end
def fI(x y:D):Y2:=if plain 60 x&&plain 60 y then some (.bl<|eqB x y) else none
def gI(x y:D):Y2:=if plain 60 x&&plain 60 y then some (.bl<|!eqB x y) else none
noncomputable def bR:D->Option (List D)|.tup ds=>some ds|.lst ds=>some ds|_=>none
def cj(f:M D):M (List D):=Q1 f λd=>opt (bR d)
noncomputable def qa:Zm->Option (List D)|[.int j]=>if -(2 ^ 62)<=j/\j<2 ^ 62 then some ((List.range j.toNat).map λ(i:Nat)=>.int i) else none|_=>none
noncomputable def acS:Zm->Option (List D)|[.int i,.int j]=>if (-(2 ^ 62)<=i/\i<2 ^ 62)/\-(2 ^ 62)<=j/\j<2 ^ 62 then some ((List.range (j-i).toNat).map λ(k:Nat)=>.int<|i+k) else none|_=>none
def bF(fl:List (M D)):M (List D):=Q1 (mL fl) λxs=>opt (qa xs)
noncomputable def cu:D->Option D|.tup ds=>some (.int ds.length)|.lst ds=>some (.int ds.length)|_=>none
noncomputable def jb:D->Option D|.tup ds=>some (.tup ds)|.lst ds=>some (.tup ds)|_=>none
noncomputable def dG:D->Option D|.tup ds=>some (.lst ds)|.lst ds=>some (.lst ds)|_=>none
noncomputable def maxD:Zm->Option D|[.int i,.int j]=>some (.int<|if j > i then j else i)|_=>none
noncomputable def intD:Zm->Option D|[.int i]=>some (.int i)|[.bl b]=>some (.int<|if b then 1 else 0)|_=>none
def pP:Zm->Option (List D)
|[a,b]=>match bR a,bR b with
  |some xs,some ys=>some (List.zipWith (λx y=>D.tup [x,y]) xs ys)|_,_=>none
 |_=>none
def uy(fl:List (M D)):M (List D):=Q1 (mL fl) λxs=>opt (pP xs)
noncomputable def bJ:Zm->Option (List Int)|[]=>some []|.int i::r=>(bJ r).map (i::·)|_=>none
def DL(d:D):Y2:=match bR d with|some ds=>(bJ ds).map λns=>.int ns.sum|none=>none
noncomputable def isLst:Y2->Bool|some (.lst _)=>true|_=>false
def jT(i:Nat)(fe:M D):M Fl:=λr=>if isLst (own r[i]?) then Q1 fe (λx=>zW<|hO i<|dJ x) r else .no
def setAt(k v:D):D->Option D
|.lst xs=>match k with
  |.int i=>(yh xs.length i).map λj=>.lst (xs.set j v)|_=>none
 |_=>none
def i8(i:Nat)(fk fv:M D):M Fl:=Q1 fv λv=>λr=>if isLst (own r[i]?) then Q1 fk (λk=>zW<|hO i<|setAt k v) r else .no
noncomputable def jy(n d:Nat):WX->Nat|none=>d|some v=>if v<0 then(v+n).toNat else min v.toNat n
def cutD(xs:Zm)(lo hi:WX):Zm:=(xs.drop<|jy xs.length 0 lo).take (jy xs.length xs.length hi-jy xs.length 0 lo)
def kH:Option (M D)->M (Option Int)|none=>ret none|some f=>Q1 f λd=>match d with|.int i=>ret (some i)|_=>stuck
def cq(d:D)(lo hi:WX):Y2:=match d with|.tup xs=>some (.tup<|cutD xs lo hi)|_=>none
def vh(g:D->WX->WX->Y2)(f:M D)(lo hi:Option (M D)):M D:=Q1 f λd=>Q1 (kH lo) λl=>Q1 (kH hi) λh=>opt (g d l h)
def Cw(j:Nat)(i:D):M D:=λr=>match own r[j]? with|some d=>opt (ah d i) r|none=>.no
def hJ(j:Nat)(fb:M D):M D:=λr=>if (own r[j]?).isSome then Q1 fb (Cw j) r else .no
def aU:D->D->Option D|.int i,.int j=>some (.int<|i+j)|.tup xs,.tup ys=>if xs.length+ys.length<=fU then some (.tup<|xs++ys) else none|.lst xs,.lst ys=>if xs.length+ys.length<=fU then some (.lst<|xs++ys) else none|_,_=>none
def fH(d:D)(lo hi:WX):Y2:=match d with|.tup xs=>some (.tup<|cutD xs lo hi)|.lst xs=>some (.lst<|cutD xs lo hi)|_=>none
def FT(g g2:D->D->Y2)(a b c:M D):M D:=Q1 a λx=>Q1 b λy=>Q1 (opt<|g x y) λd=>match d with|.bl true=>Q1 c λz=>opt (g2 y z)|.bl false=>ret (.bl false)|_=>stuck
noncomputable def Hh(t:List (Str×D)):D->Option D|.str k=>t.lookup k|_=>none
def CW(f:M D):M (List D):=Q1 f λd=>opt ((bR d).map List.reverse)
def uS(d:D):Y2:=(bR d).map λxs=>.tup xs.reverse
def GL(d:D):Y2:=(bR d).map λxs=>.lst xs.reverse
noncomputable def iN:Zm->Option (List Bool)|[]=>some []|.bl b::r=>(iN r).map (b::·)|_=>none
def pX(al:Bool):D->Option D|.lst ds=>(iN ds).map λbs=>.bl (if al then bs.all id else bs.any id)|_=>none
noncomputable def sF(neg:Bool)(t:List (Str×D))(ab:WZ):D->Option D
|.str k=>match t.lookup k with
  |some _=>some (.bl<|!neg)|none=>if ab.contains k then some (.bl neg) else none
 |_=>none
noncomputable def fK:D->Bool|.aK=>true|.bl _=>true|.int _=>true|.str _=>true|_=>false
def inD(neg:Bool)(x y:D):Y2:=match bR y with|some ds=>if fK x&&ds.all fK then some (.bl<|if neg then !(ds.any λy=>eqB y x) else ds.any λy=>eqB y x) else none|none=>none
noncomputable def aJ(cs:WZ)(f:Str):D->Option D|.ins c ns vs=>if cs.contains c then(ns.zip vs).lookup f else none|_=>none
noncomputable def iC(f:Str)(v:D):WZ->Zm->List Str×List D|n::ns,x::vs=>if n=f then(n::ns,v::vs) else(n::(iC f v ns vs).1,x::(iC f v ns vs).2)|_,_=>([f],[v])
def yO(cs:WZ)(f:Str)(v:D):D->Option D|.ins c ns vs=>if cs.contains c&&decide (ns.length<1000) then some (.ins c (iC f v ns vs).1 (iC f v ns vs).2) else none|_=>none
def dS(i:Nat)(cs:WZ)(f:Str)(fv:M D):M Fl:=Q1 fv λv=>zW (hO i<|yO cs f v)
def zF(c:Str)(f:Fn)(vs:List AV):M D:=λr=>match oU f (.io r.length::vs) (r++[.ow<|.ins c [] []]) with
 |.ok .aK r'=>match r'[r.length]? with
   |some (.ow d)=>.ok d (r'.take r.length)|_=>.no
  |.exc x r'=>.exc x (r'.take r.length)|_=>.no
def qL(c:Str)(f:Fn)(as:List Arg):M D:=Q1 (bj as) λvs=>zF c f vs
noncomputable def iB(c m:Str):D->Bool|.ins c' ns _=>c' == c&&!ns.contains m|_=>false
def qM(c m:Str)(f:Fn)(fo:M D)(as:List Arg):M D:=Q1 fo λo=>if iB c m o then Q1 (bj as) λvs=>oU f (.val o::vs) else stuck
noncomputable def aL(subs:Uk)(x:D):Y2:=match x with|.ins c _ _=>(subs.lookup c).map .bl|_=>none
def DC:M Fl:=stuck
noncomputable def jA(ds:Zm):Zm:=List.zipWith (λ(i:Nat) d=>D.tup [.int i,d]) (List.range ds.length) ds
def ke:Zm->Option (List D)|[.lst ds]=>some (jA ds)|_=>none
def qK(fl:List (M D)):M (List D):=Q1 (mL fl) λxs=>opt (ke xs)
noncomputable def DA:Zm->Option (List D)|[.int i,.int j,.int k]=>if k=-1/\(-(2 ^ 62)<=i/\i<2 ^ 62)/\-(2 ^ 62)<=j/\j<2 ^ 62 then some ((List.range (i-j).toNat).map λ(k:Nat)=>.int<|i-k) else none|_=>none
def CO(fl:List (M D)):M (List D):=Q1 (mL fl) λxs=>opt (DA xs)
end VP
end
section
namespace VP
def v9:D->D->Option D|.int i,.int j=>uB (.int i) (.int j)|.tup xs,.int k=>if -(fU:Int)<=k/\k<=fU/\xs.length*k.toNat<=fU then some (.tup (List.replicate k.toNat xs).flatten) else none|_,_=>none
def mulL:D->D->Option D|.lst xs,.int k=>if -(fU:Int)<=k/\k<=fU/\xs.length*k.toNat<=fU then some (.lst (List.replicate k.toNat xs).flatten) else none|_,_=>none
def QZ(neg:Bool)(x y:D):Y2:=if neg then gI x y else fI x y
def tw(g:D->D->Y2)(j:Nat)(d:D):M D:=λr=>match own r[j]? with|some x=>opt (g x d) r|none=>.no
def qJ(g:D->D->Y2)(j:Nat)(fb:M D):M D:=λr=>if (own r[j]?).isSome then Q1 fb (tw g j) r else .no
end VP
end
section
namespace VP
noncomputable def sortI(xs:WR):WR:=xs.mergeSort λa b=>decide (a<=b)
theorem sortI_perm(xs:WR):(sortI xs).Perm xs:=List.mergeSort_perm ..
theorem z6(xs:WR):(sortI xs).Pairwise (·<=·):=by have:=List.pairwise_mergeSort (le:=λ(a b:Int)=>decide<|a<=b) (λa b c h1 h2=>by simp at *;lia) (λa b=>by simp;lia) xs;exact this.imp λh=>by simpa using h
theorem uW(p:ys.Perm xs)(o:ys.Pairwise (·<=·)):ys=sortI xs:=List.Perm.eq_of_pairwise (λx y _ _ h1 h2=>Int.le_antisymm h1 h2) o (z6 xs) (p.trans (sortI_perm xs).symm)
def qW(d:D):Y2:=match bR d with
|some ds=>match bJ ds with
  |some ns=>if ns.length<64 then some (.lst<|(sortI ns).map .int) else none|none=>none
 |none=>none
noncomputable def CL:Zm->Option D|[.int j]=>if -1000<=j/\j<=1000 then some (.lst<|(List.range j.toNat).map λ(k:Nat)=>.int k) else none|_=>none
def pq(c:M Bool)(body:M Fl):M Fl:=fT c body 10000
def CV(i:Nat):M D:=λr=>match own r[i]? with
 |some (.lst xs)=>match xs.getLast? with
   |some d=>.ok d (cN i (.lst xs.dropLast) r)|none=>.no
  |_=>.no
def Bp(x:D):D->Option D
|.lst xs=>match x with
  |.lst ys=>if xs.length+ys.length<=fU then some (.lst<|xs++ys) else none|_=>none
 |_=>none
def DB(i:Nat)(fe:M D):M Fl:=λr=>if isLst (own r[i]?) then Q1 fe (λx=>zW<|hO i<|Bp x) r else .no
def Cq(neg:Bool)(j:Nat)(x:D):M D:=λr=>match own r[j]? with|some y=>opt (inD neg x y) r|none=>.no
def FU(neg:Bool)(fa:M D)(j:Nat):M D:=Q1 fa (Cq neg j)
def lP(x y:D):Y2:=match x with
|.tup ds=>match bJ ds with
  |some []=>some y|some (i::is)=>some (.int<|is.foldl (λa b=>if a<b then b else a) i)|none=>none
 |_=>none
noncomputable def eW:Sl->Sl|.ow d=>.sh d|.io d=>.sh d|s=>s
mutual
noncomputable def y6:D->Bool|.aK=>true|.bl _=>true|.int _=>true|.str _=>true|.tup ds=>noLs ds|_=>false
noncomputable def noLs:Zm->Bool|[]=>true|d::ds=>y6 d&&noLs ds
end
def i7(f:M D):M D:=λr=>match f (r.map eW) with|.ok (.lst ds) _=>if noLs ds then .ok (.lst ds) r else .no|_=>.no
def Q2g(i:Nat)(cs:WZ)(f:Str)(fv:M D):M Fl:=Q1 fv λv=>match v with|.lst ds=>if ds.length<=16777216 then zW (hO i<|yO cs f<|.lst ds) else stuck|_=>stuck
def okN(fn:Str):D->Bool|.ins _ [n1,n2] [v1,.lst ds]=>decide (n1≠fn)&&(decide (n2=fn)&&(y6 v1&&noLs ds))|_=>false
def zr(ds:Zm)(y:D):Y2:=match bJ ds with
|some ns=>match y with
  |.int k=>if k∈ns then some (.int (ns.idxOf k:Nat)) else none|_=>none
 |none=>none
def uv(fo fe:M D):M D:=Q1 fo λx=>match x with|.lst ds=>Q1 fe λy=>opt (zr ds y)|_=>stuck
noncomputable def xB:List (Sum Int Str)->Zm->Sum Int Str->Option D|k'::ks,v::vs,k=>if k'=k then some v else xB ks vs k|_,_,_=>none
noncomputable def zf(k:Sum Int Str)(v:D):List (Sum Int Str)->Zm->List (Sum Int Str)×List D|k'::ks,x::vs=>if k'=k then(k'::ks,v::vs) else(k'::(zf k v ks vs).1,x::(zf k v ks vs).2)|_,_=>([k],[v])
def ze:D->D->Option D|.fZ ks vs,.int k=>xB ks vs (.inl k)|_,_=>none
def E2(neg:Bool):D->D->Option D|.int k,.fZ ks vs=>some (.bl<|if neg then !(xB ks vs<|.inl k).isSome else(xB ks vs<|.inl k).isSome)|_,_=>none
def putD(k v:D):D->Option D
|.fZ ks vs=>match k with
  |.int i=>if ks.length<1000 then some (.fZ (zf (.inl i) v ks vs).1 (zf (.inl i) v ks vs).2) else none|_=>none
 |_=>none
def yL(i:Nat)(fk fv:M D):M Fl:=Q1 fv λv=>λr=>if (own r[i]?).isSome then Q1 fk (λk=>zW<|hO i<|putD k v) r else .no
noncomputable def CD:Sum Int Str->D|.inl i=>.int i|.inr s=>.str s
def CE:D->Option (List D)|.fZ ks _=>some (ks.map CD)|_=>none
def uw(f:M D):M (List D):=Q1 f λd=>opt (CE d)
def qO:D->Option D
|.fZ _ vs=>match bJ vs with
  |some (i::is)=>some (.int<|is.foldl (λa b=>if a<b then b else a) i)|_=>none
 |_=>none
noncomputable def Bc:D->Option D|.fZ ks vs=>some (.fZ ks vs)|_=>none
noncomputable def hide:Sl->Sl|.ow _=>.no|.io _=>.no|s=>s
noncomputable def AB(f:Fn)(d:D)(ds:Zm):M D:=λr=>match f (d::ds) with|.ok v [_]=>.ok v r|.exc x [_]=>.exc x r|_=>.no
def kG(f:Fn)(a:M D)(fl:List (M D)):M D:=Q1 a λd r=>match mL fl (r.map hide) with|.ok ds _=>AB f d ds r|_=>.no
end VP
end
section
set_option linter.all false
set_option maxRecDepth 100000
namespace VS
open PySem PySem.Spec PyProof.Rows L2 VP
abbrev Frag:=W.Frag
abbrev MG:=Str->Option Value
section
variable{X:Cx}{EX:XE}{st:Stmt}{rest:List Stmt}{e a b c tg:Expr}{fe fa fb:M D}{f g:M Fl}{pos:Pos}
theorem ji:∀d r x r',aj i d r≠.exc x r':=λd r x r' h=>by unfold aj lO at h;split at h<;>cases h
theorem B9:∀{is:SK}{ds:Zm}{r:ax}{x:Xn}{r':ax},p7 is ds r≠.exc x r'|[],[],_,_,_,h=>by cases h|[],_::_,_,_,_,h=>by cases h|_::_,[],_,_,_,h=>by cases h|i::is,d::ds,r,x,r',h=>by simp only[p7,VP.Q1,lO] at h;split at h;rename_i a r2 q;exact B9 h;rename_i x2 r2 q;split at q<;>cases q;cases h
theorem vG:∀d r x r',dy is d r≠.exc x r':=λd r x r' h=>by unfold dy at h;cases d with|tup ds=>exact B9 h|_=>cases h
end
def jv(cells:List (Str×Addr)):List (Str×NameKind)->List (Str×Addr)->List (Str×Addr)
|[],acc=>acc| (x,k)::r,acc=>if k == .free then
  (match cells.lookup x with|some c=>jv cells r ((x,c)::acc)|none=>jv cells r acc)
 else jv cells r acc
theorem j8:∀{names:List (Str×NameKind)}{acc:List (Str×Addr)}{p:Str×Addr},p∈jv cells names acc->p∈acc\/cells.lookup p.1=some p.2
|[],_,_,h=>.inl h| (x,k)::r,acc,p,h=>by
 unfold jv at h;split at h;cases q:cells.lookup x with|none=>rw[q] at h;exact j8 h|some c=>rw[q] at h;rcases j8 h with h|h;rcases List.mem_cons.mp h with h|h;subst h;exact .inr q;exact .inl h;exact .inr h
 exact j8 h
theorem jf:∀{names:List (Str×NameKind)}{acc:List (Str×Addr)}{p:Str×Addr},p∈acc->p∈jv cells names acc
|[],_,_,h=>h| (x,k)::r,acc,p,h=>by
 unfold jv;split;cases q:cells.lookup x with|none=>exact jf h|some c=>exact jf (WW _ h)
 exact jf h
theorem j7(hc:cells.lookup x=some c):∀{names:List (Str×NameKind)}{acc:List (Str×Addr)},(x,NameKind.free)∈names->(x,c)∈jv cells names acc
| (y,k)::r,acc,h=>by
 unfold jv;rcases List.mem_cons.mp h with h|h;cases h;simp only[beq_self_eq_true,if_true,hc];exact jf Uq;split;cases q:cells.lookup y with|none=>exact j7 hc h|some c'=>exact j7 hc h
 exact j7 hc h
theorem fQ{α:Type}{a:α}:∀{l:List (Str×α)},(x,a)∈l->∃b,l.lookup x=some b
| (y,b)::r,h=>by
 by_cases e:(x == y)=true;exact⟨b,by simp[List.lookup_cons,e]⟩;have e':(x == y)=false:=by simpa using e
 rcases List.mem_cons.mp h with h|h;cases h;simp at e';obtain⟨c,hc⟩:=fQ h;exact⟨c,by simp[List.lookup_cons,e',hc]⟩
theorem fX(h:(jv cells names []).lookup x=some c):cells.lookup x=some c:=by rcases j8 (NM h) with h|h;cases h;exact h
theorem Q20(hc:cells.lookup x=some c)(h:(x,NameKind.free)∈names):(jv cells names []).lookup x=some c:=by obtain⟨b,hb⟩:=fQ<|j7 (acc:=[]) hc h;have:=fX hb;rw[hc] at this;cases this;exact hb
theorem Q0y(h:∀p∈scope.names,p.2=.free->∃c,env.cells.lookup p.1=some c):closureFor scope env=pure (jv env.cells scope.names []):=by
 have gen:∀(names:List (Str×NameKind))(acc:List (Str×Addr)),(∀p∈names,p.2=.free->∃c,env.cells.lookup p.1=some c)->(forIn names acc λ(x:Str×NameKind) r=>(if x.2 == .free then(do let c <-cellOf env x.1;pure<|ForInStep.yield ((x.1,c)::r)) else pure (ForInStep.yield r):Sem _))=pure (jv env.cells names acc):=by
  intro names;induction names with
  |nil=>intro acc _;rfl|cons p r ih=>
   intro acc hp;obtain⟨x,k⟩:=p;rw[List.forIn_cons];unfold jv;by_cases hk:k=.free;subst hk;obtain⟨c,hc⟩:=hp (x,.free) Uq rfl;have e:cellOf env x=pure c:=by unfold cellOf;rw[show env.cells.lookup x=some c from hc]
   simp only[beq_self_eq_true,if_true,e,hc];exact ih _ λq hq=>hp q<|WW _ hq;have hb:(k == NameKind.free)=false:=by simpa using hk
   simp only[hb,Bool.false_eq_true,if_false];exact ih _ λq hq=>hp q (WW _ hq)
 have:=gen scope.names [] h;unfold closureFor;simpa using this
theorem dH:(relabel scope env).names.lookup x=(scope.names.lookup x).map λk=>if (k == .free&&env.scope.kind == .function&&env.kindOf x == some .cell) then .cell else k:=by
 unfold relabel;generalize scope.names=l;induction l with
 |nil=>rfl|cons p r ih=>
  obtain⟨n,k⟩:=p;simp only[List.map_cons];by_cases hx:(x == n)=true;have e:x=n:=by simpa using hx
  subst e;simp only[List.lookup_cons,beq_self_eq_true,Option.map_some];split<;>simp[List.lookup_cons];have e':(x == n)=false:=by simpa using hx
  have e2:List.lookup x ((n,k)::r)=List.lookup x r:=by simp[List.lookup_cons,e']
  rw[e2,<-ih];split<;>simp[List.lookup_cons,e']
def gQ(outer inner:List (Str×NameKind))(N N':WZ):Bool:=
 inner.all (λp=>p.2 != .cell&&(p.2 != .free||outer.lookup p.1 == some .cell||outer.lookup p.1 == some .free)&&(p.2 != .local||inner.lookup p.1 == some .local)) &&
 decide (N.length<=N'.length)&&(List.range N.length).all (λi=>match N'[i]? with|some x=>inner.lookup x != some .local&&(inner.lookup x == none||N[i]? == some x)|none=>true)&&(match N'[N'.length-1]? with|some x=>inner.lookup x == none|none=>false)&&decide (N.length+1<=N'.length)
section
variable{prog:Program}{w:World}{A:Around}{E:Wg}{s:Shared}
theorem kK{items}(hit:s.heap.IsTupleIter it t i)
  (ht:s.heap.IsTuple t items) (hx:items[i]?=some x)
  (hQ:∀h',h'.IsTupleIter it t (i+1)->Heap.SameBut it s.heap h'->Q x {s with heap:=h'}) :
  wpAny (model prog w) A (Builtin.SmallTypes.nextOf<|.ref it) Q E s:=by
 obtain⟨o,ho,hc,hd⟩:=id hit;refine VP.gl λQQ eQ=>?_;obtain⟨ol,Wo,_,nl,Ye⟩:=ht;subst eQ;unfold Builtin.SmallTypes.nextOf;refine Zy<|Pc (name:=Str.ofString "__next__") hit.typeIs U8<|UL U8 hit.typeIs PySem.F.entry_tuple_iterator_next ?_<|PySem.F.args_tuple_iterator_next_1 _;show wpAny _ _ (field (.ref it) 0 >>= _) _ _ s;refine Zy<|Rf ho hd (x:=.ref t) rfl ?_;show wpAny _ _ (if (Value.ref t == Value.none)=true then _ else _) _ _ s;rw[Zj<|show ¬((Value.ref t == Value.none)=true) from Gn];show wpAny _ _ (field (.ref it) 1 >>= _) _ _ s;refine Zy<|Rf ho hd (x:=.int i 0) rfl ?_;show wpAny _ _ (seqItems? (.ref t) >>= _) _ _ s;refine Zy<|OA Wo Ye ?_;simp only[N9,hx];refine Zy<|Dr ho hd ZA<|XS ⟨x,rfl,XS<|hQ _ ?_<|DU ..⟩;exact⟨_,Pm _ ho<|N4<|CY hd _,(Obj.cls_mapFields ..).trans hc,by rw[CY hd];simp[rawInt]⟩
theorem lQ{items}(hh:A.handled=none)
  (hit:s.heap.IsTupleIter it t i) (ht:s.heap.IsTuple t items) (hx:items[i]?=none)
  (hE:∀h' e,Heap.ExtBut it s.heap h'->(∃o,h'.get? e=some o/\o.cls=.type "StopIteration")->E (.ref e) {s with heap:=h'}) :
  wpAny (model prog w) A (Builtin.SmallTypes.nextOf<|.ref it) Q E s:=by
 obtain⟨o,ho,hc,hd⟩:=id hit;refine VP.gl λQQ eQ=>?_;obtain⟨ol,Wo,_,nl,Ye⟩:=ht;subst eQ;unfold Builtin.SmallTypes.nextOf;refine Zy<|Pc (name:=Str.ofString "__next__") hit.typeIs U8<|UL U8 hit.typeIs PySem.F.entry_tuple_iterator_next ?_<|PySem.F.args_tuple_iterator_next_1 _;show wpAny _ _ (field (.ref it) 0 >>= _) _ _ s;refine Zy<|Rf ho hd (x:=.ref t) rfl ?_;show wpAny _ _ (if (Value.ref t == Value.none)=true then _ else _) _ _ s;rw[Zj<|show ¬((Value.ref t == Value.none)=true) from Gn];show wpAny _ _ (field (.ref it) 1 >>= _) _ _ s;refine Zy<|Rf ho hd (x:=.int i 0) rfl ?_;show wpAny _ _ (seqItems? (.ref t) >>= _) _ _ s;refine Zy<|OA Wo Ye ?_;simp only[N9,hx];refine Zy<|FK<|Zy<|Dr ho hd ZA ?_;show wpAny _ _ (newExc (.type "StopIteration") [] >>= _) _ _ _;refine Zy ?_;simp only[newExc,newTuple];refine Zy<|v8 ?_ (by size_fits);refine Zy (m:=firstArgMember _ _)<|p8 (a:=Value.none) (by first|rfl|(simp only[firstArgMember];rfl)) ?_;refine v8 ?_ (by size_fits);simp only[raiseNew];refine Zy<|wpAny_handled ?_;first|rw[show A.in1.handled=none from hh]|rw[hh]
 refine Zy<|XS<|wpAny_throw ?_;exact hE _ _ (((DU ..).extBut.push _).push _) ⟨_,YO _ rfl,rfl⟩
end
def cU(t:Bool)(it a:Addr)(i:Nat)(h:Heap):Prop:=if t then h.IsTupleIter it a i else h.IsListIter it a i
def iI(t:Bool)(h:Heap)(a:Addr)(items:Array Value):Prop:=if t then h.IsTuple a items else h.IsList a items
theorem cU.at(x:cU t it a i h)(e:∀o,h.get? it=some o->h'.get? it=some o):cU t it a i h':=by cases t;exact Heap.IsListIter.at (h:=h) (h':=h') x e;exact Heap.IsTupleIter.at (h:=h) (h':=h') x e
theorem cU.obj(x:cU t it a i h):∃o,h.get? it=some o/\∀v,o.data≠.cell v:=by cases t;obtain⟨o,e,c,d⟩:=(show h.IsListIter it a i from x);exact⟨o,e,λv z=>by rw[d] at z;cases z⟩;obtain⟨o,e,c,d⟩:=(show h.IsTupleIter it a i from x);exact⟨o,e,λv z=>by rw[d] at z;cases z⟩
theorem jg(hh:A.handled=none)(t:Bool)(it l:Addr)(Kv:l≠it)(items:Array Value) : Draws prog w A it [it,l] items.size (λi v=>items[i]?=some v) (λi h=>cU t it l i h/\iI t h l items):=by
 cases t with
 |false=>exact Draws.list hh it l Kv items|true=>exact {
  live:=λ_ _ st=>let ⟨o,ho,_⟩:=st.1;⟨o,ho⟩
  frame:=λ_ _ _ st hk=>⟨Heap.IsTupleIter.at st.1 λo e=>hk it ZA o e,by obtain⟨o,e,r⟩:=(show Heap.IsTuple _ l items from st.2);exact⟨o,hk l ZA o e,r⟩⟩
  item:=λi s Q E hi st hQ=>by refine kK (show s.heap.IsTupleIter it l i from st.1) (show s.heap.IsTuple l items from st.2) (x:=items[i]) (by simp[hi]) λh' Fm hs'=>?_;refine hQ _ h' s.toks (by simp[hi]) ⟨Fm,?_⟩ hs';obtain⟨o,e,r⟩:=(show Heap.IsTuple _ l items from st.2);exact⟨o,hs'.extBut l o Kv e,r⟩
  done:=λs Q E st hE=>lQ hh (show s.heap.IsTupleIter it l _ from st.1) (show s.heap.IsTuple l items from st.2) ZA hE}
section
variable{prog:Program}{w:World}{A:Around}{E:Wg}{s:Shared}{z TI TO i1 i2:Addr}{Ag Kj:WC}{n1 n2 k:Nat}{P1 P2:Nat->Value->Prop}{QU RR:Nat->Heap->Prop}{a b:Value}
structure rp(z TI TO i1 i2:Addr)(Ag Kj:WC):Prop where
 TIz:TI≠z
 TOz:TO≠z
 i1z:i1≠z
 i2z:i2≠z
 TITO:TI≠TO
 TIi1:TI≠i1
 TIi2:TI≠i2
 TOi1:TO≠i1
 TOi2:TO≠i2
 i12:i1≠i2
 z1:z∉Ag
 z2:z∉Kj
 o1:TO∉Ag
 o2:TO∉Kj
 x12:i1∉Kj
 x21:i2∉Ag
theorem Ad{Q:Wg}(D1:Draws prog w A i1 Ag n1 P1 QU)(D2:Draws prog w A i2 Kj n2 P2 RR)(D:rp z TI TO i1 i2 Ag Kj)
  (hz:IsZip s.heap z TI TO .none) (yb:IsPair s.heap TI (.ref i1) (.ref i2)) (zk:IsPair s.heap TO a b) (h1:QU k s.heap) (h2:RR k s.heap) (k1:k<n1) (k2:k<n2)
  (hQ:∀x y h' tk,P1 k x->P2 k y->IsZip h' z TI TO (rawInt s.heap.objs.size)->IsPair h' TO x y->QU (k+1) h'->RR (k+1) h'->IsPair h' s.heap.objs.size x y->(∀c o,c≠z->c≠TO->c≠i1->c≠i2->s.heap.get? c=some o->h'.get? c=some o)->Q (.ref s.heap.objs.size) {s with heap:=h',toks:=tk}) :
  wpAny (model prog w) A (Builtin.«zip.__next__» ⟨[.ref z],[]⟩) (λfin s'=>∃v,fin=.done (.ret v)/\Q v s') E s:=by
 show wpAny _ _ (field (.ref z) 2 >>= _) _ _ _;refine Zy<|Rf hz rfl (x:=.bool false) rfl ?_;show wpAny _ _ (field (.ref z) 3 >>= _) _ _ _;refine Zy<|Rf hz rfl (x:=.ref TI) rfl ?_;refine Zy<|OA yb rfl ?_;show wpAny _ _ (Builtin.SmallTypes.ownedTupleIsFree (.ref z) >>= _) _ _ _;refine Zy ?_;unfold Builtin.SmallTypes.ownedTupleIsFree;refine Zy<|Rf hz rfl (x:=.none) rfl<|XS ?_;simp only[if_true];refine Zy<|FK ?_;refine Zy<|Rf hz rfl (x:=.ref TO) rfl ?_;refine Zy<|uJ hz ZA λbL mN dR=>?_;replace mN:IsZip bL z TI TO .ellipsis:=mN;refine Zy ?_;simp only[List.zipIdx_cons,List.zipIdx_nil,List.forIn_cons,List.forIn_nil];refine Zy<|Zy<|y9 ?_;show wpAny _ _ (Builtin.SmallTypes.nextOf (.ref i1) >>= _) _ _ _;refine Zy<|D1.item k _ _ _ k1 (D1.frame k _ bL h1 λb hb o e=>dR.extBut b o (λq=>D.z1<|q ▸ hb) e) λx kz VA px Kk eH=>XS ?_;replace eH:Heap.SameBut i1 bL kz:=eH;have oC:IsPair kz TO a b:=eH.extBut _ _ D.TOi1<|dR.extBut _ _ D.TOz zk;refine Zy<|OA oC rfl ?_;refine Zy<|RP oC λmV rG eV=>?_;replace rG:IsPair mV TO x b:=rG;replace eV:Heap.SameBut TO kz mV:=eV;refine Zy<|Se<|XS ?_;refine Zy<|Zy<|y9 ?_;show wpAny _ _ (Builtin.SmallTypes.nextOf (.ref i2) >>= _) _ _ _;refine Zy<|D2.item k _ _ _ k2 (D2.frame k _ mV h2 λb hb o e=>eV.extBut b o (λq=>D.o2<|q ▸ hb)<|eH.extBut b o (λq=>D.x12<|q ▸ hb)<|dR.extBut b o (λq=>D.z2<|q ▸ hb) e) λy vN aaT py S8 iA=>XS ?_;replace iA:Heap.SameBut i2 mV vN:=iA;have Ce:IsPair vN TO x b:=iA.extBut _ _ D.TOi2 rG;refine Zy<|OA Ce rfl ?_;refine Zy<|RP Ce λjO rH jB=>?_;replace rH:IsPair jO TO x y:=rH;replace jB:Heap.SameBut TO vN jO:=jB;refine Zy<|Se<|XS<|XS ?_;refine Zy<|OA rH rfl ?_;refine Zy<|wpAny_newTuple ?_;have hsz:jO.objs.size=s.heap.objs.size:=by rw[jB.1,iA.1,eV.1,eH.1,dR.1]
 have KC:IsZip jO z TI TO .ellipsis:=jB.extBut _ _ D.TOz.symm<|iA.extBut _ _ D.i2z.symm<|eV.extBut _ _ D.TOz.symm<|eH.extBut _ _ D.i1z.symm mN;have Tx:∀c o,c≠z->c≠TO->c≠i1->c≠i2->s.heap.get? c=some o->jO.get? c=some o:=λc o c1 c2 c3 c4 e=>jB.extBut _ _ c2<|iA.extBut _ _ c4<|eV.extBut _ _ c2<|eH.extBut _ _ c3<|dR.extBut _ _ c1 e;have TL:z<jO.objs.size:=tC KC;show wpAny _ _ (Builtin.SmallTypes.ownedTupleHandOut (.ref z) (.ref jO.objs.size) >>= _) _ _ _;refine Zy ?_;unfold Builtin.SmallTypes.ownedTupleHandOut;have TM:IsZip (jO.push {cls:=.type "tuple",data:=.seq #[x,y]}) z TI TO .ellipsis:=WK _ KC;refine Zy<|uJ TM ZA λYA Cn Kx=>?_;replace Cn:IsZip YA z TI TO (rawInt jO.objs.size):=Cn;refine uJ Cn ZA λzo yf Ky=>?_;replace yf:IsZip zo z TI TO (rawInt jO.objs.size):=yf;have up:∀c o,c≠z->jO.get? c=some o->zo.get? c=some o:=λc o c1 e=>Ky.extBut _ _ c1<|Kx.extBut _ _ c1<|WK _ e;have Kn:IsPair zo jO.objs.size x y:=Ky.extBut _ _ (OZ TL)<|Kx.extBut _ _ (OZ TL)<|YO _ rfl;rw[hsz] at yf Kn;refine XS ⟨_,rfl,?_⟩;show Q (.ref jO.objs.size) _;rw[hsz];refine hQ x y zo _ px py yf (up _ _ D.TOz rH) (D1.frame _ kz zo Kk λb hb o e=>up b o (λq=>D.z1<|q ▸ hb)<|jB.extBut b o (λq=>D.o1<|q ▸ hb)<|iA.extBut b o (λq=>D.x21<|q ▸ hb)<|eV.extBut b o (λq=>D.o1<|q ▸ hb) e) (D2.frame _ vN zo S8 λb hb o e=>up b o (λq=>D.z2<|q ▸ hb)<|jB.extBut b o (λq=>D.o2<|q ▸ hb) e) Kn λc o c1 c2 c3 c4 e=>up c o c1 (Tx c o c1 c2 c3 c4 e)
theorem Ej{Q:Fin->Shared->Prop}{m:Nat}(hh:A.handled=none)(D1:Draws prog w A i1 Ag n1 P1 QU)(D2:Draws prog w A i2 Kj n2 P2 RR)(D:rp z TI TO i1 i2 Ag Kj)
  (hz:IsZip s.heap z TI TO .none) (yb:IsPair s.heap TI (.ref i1) (.ref i2)) (zk:IsPair s.heap TO a b) (h1:QU k s.heap) (h2:RR k s.heap) (Ni:k=n1\/(k<n1/\k=n2))
  (hE:∀h' e tk,(∀c o,c≠z->c≠TO->c≠i1->c≠i2->s.heap.get? c=some o->h'.get? c=some o)->(∃o,h'.get? e=some o/\o.cls=.type "StopIteration")->E (.ref e) {s with heap:=h',toks:=tk}) :
  wpAny (model prog w) A (Builtin.«zip.__next__» ⟨[.ref z],[]⟩) Q E s:=by
 show wpAny _ _ (field (.ref z) 2 >>= _) _ _ _;refine Zy<|Rf hz rfl (x:=.bool false) rfl ?_;show wpAny _ _ (field (.ref z) 3 >>= _) _ _ _;refine Zy<|Rf hz rfl (x:=.ref TI) rfl ?_;refine Zy<|OA yb rfl ?_;show wpAny _ _ (Builtin.SmallTypes.ownedTupleIsFree (.ref z) >>= _) _ _ _;refine Zy ?_;unfold Builtin.SmallTypes.ownedTupleIsFree;refine Zy<|Rf hz rfl (x:=.none) rfl<|XS ?_;simp only[if_true];refine Zy<|FK ?_;refine Zy<|Rf hz rfl (x:=.ref TO) rfl ?_;refine Zy<|uJ hz ZA λbL mN dR=>?_;replace mN:IsZip bL z TI TO .ellipsis:=mN;refine Zy ?_;simp only[List.zipIdx_cons,List.zipIdx_nil,List.forIn_cons,List.forIn_nil];refine Zy<|Zy<|y9 ?_;show wpAny _ _ (Builtin.SmallTypes.nextOf (.ref i1) >>= _) _ _ _;have W0:QU k bL:=D1.frame k _ bL h1 λb hb o e=>dR.extBut b o (λq=>D.z1<|q ▸ hb) e;rcases Ni with rfl|⟨k1,rfl⟩;refine Zy<|D1.done _ _ _ W0 λkz e eH he=>?_;obtain⟨oe,Nq,Te⟩:=he;have Kz:IsZip kz z TI TO .ellipsis:=eH _ _ D.i1z.symm mN;have Yg:e≠z:=λx=>by subst x;rw[Kz] at Nq;cases Nq;simp at Te
 refine uJ Kz ZA λmV _ eV=>hE mV e _ (λc o c1 _ c3 _ x=>eV.extBut _ _ c1<|eH _ _ c3<|dR.extBut _ _ c1 x) ⟨oe,eV.extBut _ _ Yg Nq,Te⟩;refine Zy<|D1.item k _ _ _ k1 W0 λx kz VA px Kk eH=>XS ?_;replace eH:Heap.SameBut i1 bL kz:=eH;have oC:IsPair kz TO a b:=eH.extBut _ _ D.TOi1<|dR.extBut _ _ D.TOz zk;refine Zy<|OA oC rfl ?_;refine Zy<|RP oC λmV rG eV=>?_;replace eV:Heap.SameBut TO kz mV:=eV;refine Zy<|Se<|XS ?_;refine Zy<|Zy<|y9 ?_;show wpAny _ _ (Builtin.SmallTypes.nextOf (.ref i2) >>= _) _ _ _;refine Zy<|D2.done _ _ _ (D2.frame k _ mV h2 λb hb o e=>eV.extBut b o (λq=>D.o2<|q ▸ hb)<|eH.extBut b o (λq=>D.x12<|q ▸ hb)<|dR.extBut b o (λq=>D.z2<|q ▸ hb) e) λvN e iA he=>?_;replace iA:Heap.ExtBut i2 mV vN:=iA;obtain⟨oe,Nq,Te⟩:=he;have KA:IsZip vN z TI TO .ellipsis:=iA _ _ D.i2z.symm<|eV.extBut _ _ D.TOz.symm<|eH.extBut _ _ D.i1z.symm mN;have Yg:e≠z:=λx=>by subst x;rw[KA] at Nq;cases Nq;simp at Te
 refine uJ KA ZA λjO _ jB=>hE jO e _ (λc o c1 c2 c3 c4 x=>jB.extBut _ _ c1<|iA _ _ c4<|eV.extBut _ _ c2<|eH.extBut _ _ c3<|dR.extBut _ _ c1 x) ⟨oe,jB.extBut _ _ Yg Nq,Te⟩
end
abbrev Cu(t:Bool)(l:Addr):Obj:={cls:=.type<|if t then "tuple_iterator" else "list_iterator",data:=.fields #[.ref l,.int 0 0]}
abbrev W7(h:Heap)(t1:Bool)(l1:Addr):Heap:=h.push (Cu t1 l1)
abbrev W8(h:Heap)(t1 t2:Bool)(l1 l2:Addr):Heap:=(W7 h t1 l1).push (Cu t2 l2)
abbrev W9(h:Heap)(t1 t2:Bool)(l1 l2:Addr):Heap:=(W8 h t1 t2 l1 l2).push {cls:=.type "tuple",data:=.seq #[.ref h.objs.size,.ref (W7 h t1 l1).objs.size]}
abbrev Xa(h:Heap)(t1 t2:Bool)(l1 l2:Addr):Heap:=(W9 h t1 t2 l1 l2).push {cls:=.type "tuple",data:=.seq #[.none,.none]}
abbrev Rv(h:Heap)(t1 t2:Bool)(l1 l2:Addr):Heap:=(Xa h t1 t2 l1 l2).push {cls:=.type "zip",data:=.fields #[.none,.bool false,.bool false,.ref (W8 h t1 t2 l1 l2).objs.size,.ref (W9 h t1 t2 l1 l2).objs.size]}
theorem IsTuple.push{h:Heap}{a:Addr}{items:Array Value}(x:h.IsTuple a items)(o:Obj):(h.push o).IsTuple a items:=let ⟨ob,e,r⟩:=x;⟨ob,WK _ e,r⟩
set_option maxHeartbeats 4000000 in
theorem zI(t1 t2:Bool)(l1 l2:Addr)(xs ys:Array Value) : Meets (Builtin.«zip.__new__» ⟨[.type "zip",.ref l1,.ref l2],[]⟩) (λ_ R s=>iI t1 s.heap l1 xs/\iI t2 s.heap l2 ys/\R (.ok<|.ret<|.ref (Xa s.heap t1 t2 l1 l2).objs.size) {s with heap:=Rv s.heap t1 t2 l1 l2}):=
 .of_wp λprog w A R s h=>by
  refine VP.gl λQQ eQ=>?_;obtain⟨hp,g,d,tk,os⟩:=s;obtain⟨Q5,Nn,h⟩:=h;subst eQ;have Ft:=sub_zip;cases t1 with
   |false=>
    have S9:Heap.IsList (Shared.heap ⟨hp,g,d,tk,os⟩) l1 xs:=Q5;cases t2 with
    |false=>
     have Nf:Heap.IsList (Shared.heap ⟨hp.push {cls:=.type "list_iterator",data:=.fields #[.ref l1,.int 0 0]},g,d,tk,os⟩) l2 ys:=Heap.IsList.push Nn _
     wp_walk using NV S9,NV Nf
     exact⟨_,rfl,h⟩
    |true=>
     have Nf:Heap.IsTuple (Shared.heap ⟨hp.push {cls:=.type "list_iterator",data:=.fields #[.ref l1,.int 0 0]},g,d,tk,os⟩) l2 ys:=IsTuple.push Nn _
     wp_walk using NV S9,mW Nf
     exact⟨_,rfl,h⟩
   |true=>
    have S9:Heap.IsTuple (Shared.heap ⟨hp,g,d,tk,os⟩) l1 xs:=Q5;cases t2 with
    |false=>
     have Nf:Heap.IsList (Shared.heap ⟨hp.push {cls:=.type "tuple_iterator",data:=.fields #[.ref l1,.int 0 0]},g,d,tk,os⟩) l2 ys:=Heap.IsList.push Nn _
     wp_walk using mW S9,NV Nf
     exact⟨_,rfl,h⟩
    |true=>
     have Nf:Heap.IsTuple (Shared.heap ⟨hp.push {cls:=.type "tuple_iterator",data:=.fields #[.ref l1,.int 0 0]},g,d,tk,os⟩) l2 ys:=IsTuple.push Nn _
     wp_walk using mW S9,mW Nf
     exact⟨_,rfl,h⟩
theorem qT(e:h.get? it=some (Cu t l)):cU t it l 0 h:=by cases t;exact⟨_,e,rfl,rfl⟩;exact⟨_,e,rfl,rfl⟩
theorem A2{prog:Program}{w:World}{A:Around}{E:Wg}{s:Shared}{t1 t2:Bool}{l1 l2:Addr}{xs ys:Array Value}{Q:Wg}(Q5:iI t1 s.heap l1 xs)(Nn:iI t2 s.heap l2 ys)
  (h:∀h',IsZip h' (s.heap.objs.size+4) (s.heap.objs.size+2) (s.heap.objs.size+3) .none->IsPair h' (s.heap.objs.size+2) (.ref s.heap.objs.size) (.ref<|s.heap.objs.size+1) ->
   IsPair h' (s.heap.objs.size+3) .none .none->cU t1 s.heap.objs.size l1 0 h'->cU t2 (s.heap.objs.size+1) l2 0 h' ->
   (∀c o,s.heap.get? c=some o->h'.get? c=some o)->Q (.ref<|s.heap.objs.size+4) {s with heap:=h'}) :
  wpAny (model prog w) A (call (.type "zip") [.ref l1,.ref l2]) Q E s:=by
 refine callType_new PySem.F.called_zip (by decide) (PySem.F.typeCall_zip_2 _ _) (PySem.F.newCall_zip_2 _ _) (λobj=>PySem.F.args_object_init_3 obj _ _) PySem.F.entry_zip_new (zI t1 t2 l1 l2 xs ys) ⟨Q5,Nn,?_⟩;have z1:(W7 s.heap t1 l1).objs.size=s.heap.objs.size+1:=Gh ..;have z2:(W8 s.heap t1 t2 l1 l2).objs.size=s.heap.objs.size+2:=by rw[Gh,z1]
 have z3:(W9 s.heap t1 t2 l1 l2).objs.size=s.heap.objs.size+3:=by rw[Gh,z2]
 have z4:(Xa s.heap t1 t2 l1 l2).objs.size=s.heap.objs.size+4:=by rw[Gh,z3]
 have g5:(Rv s.heap t1 t2 l1 l2).get? (Xa s.heap t1 t2 l1 l2).objs.size=some _:=YO _ rfl;have g4:(Rv s.heap t1 t2 l1 l2).get? (W9 s.heap t1 t2 l1 l2).objs.size=some _:=WK _<|YO _ rfl;have g3:(Rv s.heap t1 t2 l1 l2).get? (W8 s.heap t1 t2 l1 l2).objs.size=some _:=WK _<|WK _<|YO _ rfl;have g2:(Rv s.heap t1 t2 l1 l2).get? (W7 s.heap t1 l1).objs.size=some _:=WK _<|WK _<|WK _<|YO _ rfl;have g1:(Rv s.heap t1 t2 l1 l2).get? s.heap.objs.size=some _:=WK _<|WK _<|WK _<|WK _<|YO _ rfl;show _/\_;rw[z2,z3,z4] at g5;rw[z1,z2] at g3;rw[z3] at g4;rw[z1] at g2;rw[z4];exact⟨⟨_,g5,rfl⟩,h _ g5 g3 g4 (qT g1) (qT g2) λc o x=>WK _<|WK _<|WK _<|WK _<|WK _ x⟩
theorem oF{js:SK}{m n:Nat}(h:js.all (λj=>decide (m<=j)&&decide (j<m+n))=true):∀j∈js,m<=j/\j<m+n:=λj hj=>by have:=List.all_eq_true.mp h j hj;rw[ML] at this;exact⟨z7 this.1,z7 this.2⟩
structure rh(K:Frag)(mg:MG)(x:Str)(st:Stmt)(ps:WZ)(f:Addr)(fd:FuncData):Prop where
 fu:HH K x x st f fd
 bi:Binds K fd ps []
 mg:mg x=some (.ref f)
section
variable{X:Cx}{EX:XE}{L:Lc}{e a b c:Expr}{fa fb fc fe:M D}{pos:Pos}{x:Str}
def cR:D->Value->Prop|.aK,v=>v=.none|.bl k,v=>v=.bool k|.int i,v=>∃t,v=.int i t|.str s,v=>∃t,v=.str s t|_,_=>False
def ZM(mg:MG)(x:Str)(d:D):Prop:=∃v,mg x=some v/\cR d v
end
namespace RV
theorem Q29:Slot "reversed" "__init__" "object.__init__":=.of (owner:="object") (n:="__init__") (by rw[PE,VD];kernel_rfl) (by decide +kernel) (by decide +kernel) (by decide +kernel) (by first|exact .inl (by decide +kernel)|exact .inr (by decide +kernel)) (by rw[P6];kernel_rfl)
theorem called:TypeCalled "reversed" "reversed.__new__" "object.__init__":=⟨by decide +kernel,PySem.F.create_reversed,⟨_,_,PySem.F.mro_reversed⟩,PySem.F.made_reversed,GI,PySem.F.sub_reversed_self,Q29⟩
theorem slot_next:Slot "reversed" "__next__" "reversed.__next__":=.of (owner:="reversed") (n:="__next__") (by rw[PE,VD];kernel_rfl) (by decide +kernel) (by decide +kernel) (by decide +kernel) (by first|exact .inl (by decide +kernel)|exact .inr (by decide +kernel)) (by rw[P6];kernel_rfl)
theorem entry_next:entryFor table "reversed.__next__" = some Builtin.«reversed.__next__» := entryFor_of_tree (by kernel_rfl)
theorem lV:Manifest.owners.lookup (String.ofList ['d','e','s','r','e','v','e','r'].reverse)=some Manifest.sig_reversed:=by kernel_rfl
theorem args_next(a:Value):argsOk "reversed.__next__" ⟨[a],[]⟩:=by unfold argsOk;rw[signature?_of (id:="reversed.__next__") (n:=['_','_','t','x','e','n','_','_']) (o:=['d','e','s','r','e','v','e','r']) (by kernel_rfl) lV];kernel_rfl
theorem qV:Slot "reversed" "__iter__" "reversed.__iter__":=.of (owner:="reversed") (n:="__iter__") (by rw[PE,VD];kernel_rfl) (by decide +kernel) (by decide +kernel) (by decide +kernel) (by first|exact .inl (by decide +kernel)|exact .inr (by decide +kernel)) (by rw[P6];kernel_rfl)
theorem Q24(a:Value):argsOk "reversed.__iter__" ⟨[a],[]⟩:=by unfold argsOk;rw[signature?_of (id:="reversed.__iter__") (n:=['_','_','r','e','t','i','_','_']) (o:=['d','e','s','r','e','v','e','r']) (by kernel_rfl) lV];kernel_rfl
theorem vD:entryFor table "reversed.__iter__" = some Builtin.«dict_keyiterator.__iter__»:=entryFor_alias (id':="dict_keyiterator.__iter__") (by kernel_rfl) (by first|rfl|decide +kernel|(unfold String.splitOn;simp +decide [String.splitOnAux])) (by decide +kernel) (by kernel_rfl)
theorem rX:typeLookup (.type "tuple") "__reversed__" = pure none:=by rw[PE,VD];kernel_rfl
theorem Q22:isSubtype (.type "tuple") (.type "dict")=pure false:=by rw[P6];kernel_rfl
section
variable{prog:Program}{w:World}{A:Around}{E:Wg}{s:Shared}
def obj(t:Addr)(i:Int):Obj:={cls:=.type "reversed",data:=.fields #[.ref t,rawInt i]}
def Is(h:Heap)(a t:Addr)(i:Int):Prop:=∃o,h.get? a=some o/\o.cls=.type "reversed" /\ o.data=.fields #[.ref t,rawInt i]
theorem A3(ht:IsTup s.heap t items)(hz:items.size<=sizeLine)
  (h:∀tk,Q₁ (.ref s.heap.objs.size) {s with heap:=s.heap.push<|obj t<|(items.size:Int)-1,toks:=tk}) :
  codeAny (model prog w) A (.call (.builtin "reversed.__new__") ⟨[.type "reversed",.ref t],[]⟩) (wants Q₁ E) s:=by
 refine codeAny_of_tree ?_;refine Zy (m:=checkBuiltinCall "reversed.__new__" ⟨[.type "reversed",.ref t],[]⟩)<|p8 (PySem.F.newCall_reversed_1 _)<|XS ⟨CT GI _,GD PySem.F.entry_reversed_new ?_⟩;rw[Sb GI _];unfold Builtin.«reversed.__new__»;refine Zy<|p8 (newClass_reversed _) ?_;refine Zy<|p8 (a:=()) (by first|rfl|kernel_rfl) ?_;refine Zy<|p8 (a:=()) (by first|rfl|kernel_rfl) ?_;try dsimp only
 refine Zy<|Om ht.typeIs rX ?_;try dsimp only
 refine Zy<|Zy (m:=isInstance (.ref t)<|.type "dict")<|Ph (b:=false) ht.typeIs Q22 ?_;refine Zy (m:=specialOf (.ref t) "__getitem__")<|Om ht.typeIs PyProof.Rows.slot_tuple_getitem.lookup ?_;refine XS ?_;refine Zy (m:=call (Value.builtin "len") [Value.ref t])<|len_tuple ht (by rw[UN] at hz;lia) ?_;refine Zy (m:=asInt?<|.int items.size _)<|XS ?_;refine Zy (m:=newObj (.type "reversed")<|.fields #[.ref t,rawInt<|(items.size:Int)-1]) (v8<|XS<|h _)
theorem make(ht:IsTup s.heap t items)(hz:items.size<=sizeLine)(h:∀tk,Q (.ref s.heap.objs.size) {s with heap:=s.heap.push<|obj t<|(items.size:Int)-1,toks:=tk}):wpAny (model prog w) A (call (.type "reversed") [.ref t]) Q E s:=by refine callType_codes (Q₁:=λo aV=>aV.TypeIs o "reversed" /\ Q o aV) called (PySem.F.typeCall_reversed_1 _) PySem.F.entry_object_init (A3 ht hz λtk=>⟨⟨_,YO _ rfl,rfl⟩,h tk⟩) λo aV bL=>?_;exact⟨bL.1,F6 o _,object_init_meets called.init.lookup called.made (by decide) prog w A.in1 _ aV ⟨bL.1,rfl,bL.2⟩⟩
theorem Is.typeIs(x:Is s.heap a t i):s.TypeIs (.ref a) "reversed" := let ⟨o,ho,hc,_⟩:=x;⟨o,ho,hc⟩
theorem Is.at(x:Is h a t i)(e:∀o,h.get? a=some o->h'.get? a=some o):Is h' a t i:=let ⟨o,ho,r⟩:=x;⟨o,e _ ho,r⟩
theorem next_item{it t:Addr}{i:Nat}{items:Array Value}{x:Value}{Q:R7->Shared->Prop}(hit:Is s.heap it t (i:Int))(ht:IsTup s.heap t items)(hx:items[i]?=some x)(hz:items.size<=sizeLine)(hQ:∀h' tk,Is h' it t ((i:Int)-1)->Heap.SameBut it s.heap h'->Q (some x) {s with heap:=h',toks:=tk}):wpAny (model prog w) A (pyNext<|.ref it) Q E s:=by
 obtain⟨o,ho,hc,hd⟩:=id hit;unfold pyNext;refine Zy<|ZI<|Pc (name:=Str.ofString "__next__") hit.typeIs slot_next<|UL slot_next hit.typeIs entry_next ?_<|args_next _;unfold Builtin.«reversed.__next__»;refine Zy<|p8 (a:=(Value.ref it,[])) rfl ?_;refine Zy<|Rf ho hd (x:=.ref t) rfl ?_;refine Zy<|Rf ho hd (x:=rawInt (i:Int)) rfl ?_;show wpAny _ _ (if (i:Int)<0 then _ else _) _ _ s;rw[Zj Zl];refine Zy (m:=specialOf (.ref t) "__getitem__")<|Om ht.typeIs PyProof.Rows.slot_tuple_getitem.lookup ?_;have hi:i<items.size:=(Array.getElem?_eq_some_iff.mp hx).1;have hz':(items.size:Int)<=16777216:=by rw[UN] at hz;lia
 refine Zy (m:=mkInt (i:Int))<|wpAny_mkInt ?_;refine Zy (m:=(getItem (Value.ref t) _).attempt)<|ZI<|getItem_tuple (items:=items) (j:=i) ht Zl Zl ?_ hx ?_;unfold seqIndex?;simp;lia;refine Zy (m:=field (Value.ref it) 1)<|Rf ho hd (x:=rawInt (i:Int)) rfl ?_;refine Zy (m:=setField (Value.ref it) 1<|rawInt<|(i:Int)-1)<|Dr ho hd ZA ?_;refine XS ⟨x,rfl,XS<|hQ _ _ ?_<|DU ..⟩;exact⟨_,Pm _ ho<|N4<|CY hd _,(Obj.cls_mapFields ..).trans hc,by rw[CY hd];simp⟩
theorem next_end(hh:A.handled=none)(hit:Is s.heap it t (-1))(hQ:∀h',Heap.ExtBut it s.heap h'->Q none {s with heap:=h'}):wpAny (model prog w) A (pyNext<|.ref it) Q E s:=by
 obtain⟨o,ho,hc,hd⟩:=id hit;unfold pyNext;refine Zy<|ZI<|Pc (name:=Str.ofString "__next__") hit.typeIs slot_next<|UL slot_next hit.typeIs entry_next ?_<|args_next _;unfold Builtin.«reversed.__next__»;refine Zy<|p8 (a:=(Value.ref it,[])) rfl ?_;refine Zy<|Rf ho hd (x:=.ref t) rfl ?_;refine Zy<|Rf ho hd (x:=rawInt<|-1) rfl ?_;show wpAny _ _ (if (-1:Int)<0 then _ else _) _ _ s;rw[Ue (by decide)];refine Zy<|FK ?_;refine Zy<|Zy (m:=setField (Value.ref it) 1<|rawInt<|-1)<|Dr ho hd ZA ?_;have ho1:=Pm (Obj.mapFields λvs=>vs.set! 1 (rawInt<|-1)) ho<|N4<|CY hd _;have Yc:(Obj.mapFields (λvs=>vs.set! 1 (rawInt<|-1)) o).data=.fields #[.ref t,rawInt<|-1]:=by rw[CY hd];simp
 refine Dr ho1 Yc ZA ?_;refine Zy (m:=Builtin.SmallTypes.stopIteration) ?_;refine Zy (m:=newExc (.type "StopIteration") []) ?_;simp only[newExc,newTuple];refine Zy<|v8 ?_ (by size_fits);refine Zy (m:=firstArgMember _ _)<|p8 (a:=Value.none) (by first|rfl|(simp only[firstArgMember];rfl)) ?_;refine v8 ?_ (by size_fits);simp only[raiseNew];refine Zy<|wpAny_handled ?_;first|rw[show A.in1.handled=none from hh]|rw[hh]
 refine Zy<|XS<|wpAny_throw ?_;refine Zy<|Ph (T:="StopIteration") (b:=true) ⟨_,YO _ rfl,rfl⟩ isSubtype_stop ?_;refine XS<|hQ _ λb ob hb e=>?_;refine WK _<|WK _ ?_;exact(Su _ _<|RU hb).trans ((Su _ _<|RU hb).trans e)
theorem lK(hit:Is s.heap it t i)(h:Q (.ref it) s):wpAny (model prog w) A (pyIter<|.ref it) Q E s:=by refine wpAny_pyIter_slot hit.typeIs qV<|UL qV hit.typeIs vD ?_<|Q24 _;exact XS ⟨_,rfl,"reversed",_,hit.typeIs,slot_next.lookup,h⟩
end
end RV
def mw(t:Bool)(it q:Addr)(i:Int)(h:Heap):Prop:=if t then RV.Is h it q i else h.IsRevIter it q i
theorem mw.at(x:mw t it q i h)(e:∀o,h.get? it=some o->h'.get? it=some o):mw t it q i h':=by cases t;exact Heap.IsRevIter.at x e;exact RV.Is.at x e
theorem mw.obj(x:mw t it q i h):∃o n vs,h.get? it=some o/\o.cls=.type n/\o.data=.fields vs/\["enumerate","zip","dict_itemiterator","dict_reverseitemiterator","odict_iterator","itertools.zip_longest","itertools.pairwise"].contains n=false:=by cases t;obtain⟨o,h1,h2,h3⟩:=x;exact⟨o,_,_,h1,h2,h3,by decide⟩;obtain⟨o,h1,h2,h3⟩:=x;exact⟨o,_,_,h1,h2,h3,by decide⟩
namespace GA
def EK(T:String):Prop:=T="list_reverseiterator" \/ T="reversed"
section
variable{prog:Program}{w:World}{A:Around}{E:Wg}{s:Shared}{I:Addr}{fp wr:WC}{n:Nat}{P:Nat->Value->Prop}{St:Nat->Heap->Prop}{T:String}
def Hint(prog:Program)(w:World)(A:Around)(I:Addr)(St:Nat->Heap->Prop):Prop:=∀(s:Shared)(Q:Bool->Shared->Prop)(E:Wg),St 0 s.heap->(∀b tk,s.toks<=tk->Q b {s with toks:=tk})->wpAny (model prog w) A (Builtin.List.listLengthHint<|.ref I) Q E s
theorem extend(h2:EK T)(W:WalksS prog w A.in1 I fp wr (λa b=>b=a) n P (λi s=>St i s.heap))(hT:∀(i:Nat)(s:Shared),St i s.heap->s.TypeIs (.ref I) T)(hh:Hint prog w A.in1 I St)(S:Addr)(res:Value)(c₀:Nat)(iG:St 0 s.heap)(Cd:S∉fp)(hI:I∈fp)
  (hS:s.heap.get? S=some {cls:=.type "list",data:=.seq #[] c₀}) (hn:n<=sizeLine)
  (hR:∀s' yY c',Moved (S::wr) (λa b=>b=a) s s'->s'.heap.get? S=some {cls:=.type "list",dict:=none,data:=.seq yY c',slots:=#[]}->ItemsOf P yY n->R (.ok<|.ret res) s') :
  wpAny (model prog w) A.in1 (Builtin.List.listExtendWith (.ref S) (.ref I) res) (λfin s'=>match fin with|.done f=>R (.ok f) s'|.again c'=>c'.quiet=true/\codeAny (model prog w) A c' R s') (λe s'=>R (.error e) s') s:=by
 have hSI:S≠I:=λe=>Cd<|e ▸ hI;have h1:Builtin.List.listSameRef (.ref S) (.ref I)=false:=by simp[Builtin.List.listSameRef,hSI]
 unfold Builtin.List.listExtendWith;refine Zy<|Pk (hT 0 _ iG) ?_;rw[Zj (by rw[h1];rcases h2 with rfl|rfl<;>decide)];refine Zy<|W.self 0 _ _ _ iG<|Zy<|Vs<|hh s _ _ iG λb tk Ws=>?_;have pB:=W.frame 0 s s.heap tk iG Ws λb _ o e=>e;cases b with|false=>rw[Zj (by rcases h2 with rfl|rfl<;>decide)];refine XS ⟨CT PySem.F.plain_extend_loop _,codeAny_extend_loopS W hn _ Cd _ n 0 _ _ _ rfl (Hq _) pB hS (ItemsOf.nil P) λs' yY c' hm Ng gU=>hR s' yY c' ?_ Ng gU⟩;have mv:Moved (S::wr) (λa b=>b=a) s {s with toks:=tk}:=⟨λb o hb e=>e,rfl,rfl,rfl,Ws⟩;exact Moved.trans W.gtrans mv hm|true=>rw[Ue (by rcases h2 with rfl|rfl<;>decide)];refine Zy<|FK<|Zy (m:=updateSeq S (·.push .none) >>= λ_=>updateSeq S (·.pop))<|Zy<|DS hS rfl ?_;have q1:=Pm (Obj.mapSeq (·.push Value.none)) hS rfl;refine DS (hz:=by seq_fits) q1 rfl ?_;have q2:=Pm (Obj.mapSeq (·.pop)) q1 rfl;have An:∀b o,b≠S->s.heap.get? b=some o->((s.heap.update S<|Obj.mapSeq (·.push Value.none)).update S<|Obj.mapSeq (·.pop)).get? b=some o:=λb o hb e=>(Su _ _<|RU hb).trans<|(Su _ _<|RU hb).trans e;refine XS ⟨CT PySem.F.plain_extend_loop _,codeAny_extend_loopS W hn _ Cd _ n 0 _ _ _ rfl (Hq _) (W.frame 0 s _ tk iG Ws λb hb o e=>An b o (λz=>Cd<|z ▸ hb) e) q2 (ItemsOf.nil P) λs' yY c' hm Ng gU=>hR s' yY c' ?_ Ng gU⟩;have mv:Moved (S::wr) (λa b=>b=a) s {s with heap:=(s.heap.update S<|Obj.mapSeq (·.push Value.none)).update S<|Obj.mapSeq (·.pop),toks:=tk}:=⟨λb o hb e=>An b o (λz=>hb (by rw[z];exact Uq)) e,rfl,rfl,rfl,Ws⟩;exact Moved.trans W.gtrans mv hm
theorem gathered(h2:EK T)(W:WalksS prog w A.in1 I fp wr (λa b=>b=a) n P (λi s=>St i s.heap))(hT:∀(i:Nat)(s:Shared),St i s.heap->s.TypeIs (.ref I) T)(hh:Hint prog w A.in1 I St)(iG:St 0 s.heap)(vf:∀b∈fp,b<s.heap.objs.size)(hI:I∈fp)(hn:n<=sizeLine)(hQ:∀s' acc,Moved wr (λa b=>b=a) s s'->ItemsOf P acc n->Q acc.toList s'):wpAny (model prog w) A (collect<|.ref I) Q E s:=by have Cd:s.heap.objs.size∉fp:=λhm=>T2 _<|vf _ hm;refine Zy (m:=runValue<|.builtin "proto.collect" ⟨[.ref I],[]⟩)<|wpAny_runValue<|GD PySem.F.entry_proto_collect ?_;rw[Sb PySem.F.plain_proto_collect _];refine Zy (m:=newList [])<|v8<|XS ⟨CT PySem.F.plain_list_iadd _,GD PySem.F.entry_list_iadd ?_⟩;rw[Sb PySem.F.plain_list_iadd _];have X:=extend (R:=λr s'=>r=.ok (.ret<|.ref s.heap.objs.size)/\∃acc c,Moved (s.heap.objs.size::wr) (λa b=>b=a) {s with heap:=s.heap.push {cls:=.type "list",data:=.seq ([]:Zk).toArray}} s'/\s'.heap.get? s.heap.objs.size=some {cls:=.type "list",dict:=none,data:=.seq acc c,slots:=#[]}/\ItemsOf P acc n) (s:={s with heap:=s.heap.push {cls:=.type "list",data:=.seq ([]:Zk).toArray}}) h2 W hT hh s.heap.objs.size (.ref s.heap.objs.size) 0 (W.frame 0 s _ s.toks iG (Ru _) λb _ o e=>WK _ e) Cd hI (YO _ rfl) hn λs' acc c hm hS gU=>⟨rfl,acc,c,hm,hS,gU⟩;have fin:∀s',(∃acc c,Moved (s.heap.objs.size::wr) (λa b=>b=a) {s with heap:=s.heap.push {cls:=.type "list",data:=.seq ([]:Zk).toArray}} s'/\s'.heap.get? s.heap.objs.size=some {cls:=.type "list",dict:=none,data:=.seq acc c,slots:=#[]}/\ItemsOf P acc n)->wpAny (model prog w) A (do let o <-load s.heap.objs.size;match o.data with|.seq xs _=>pure xs.toList|_=>unsupported "internal:collect") Q E s':=λs' ⟨acc,c,hm,hS,gU⟩=>Zy<|wpAny_load hS<|XS<|hQ s' acc (Moved.drop_new (o:={cls:=.type "list",data:=.seq ([]:Zk).toArray}) (tk:=s.toks) hm<|Ru _) gU;refine UA X (λf s' h=>?_) λe s' h=>absurd h.1 ZA;cases f with|done f=>obtain⟨e,h⟩:=h;cases e;exact fin s' h|again c'=>exact⟨h.1,codeAny_mono h.2 λr zU ⟨e,h⟩=>by subst e;exact fin zU h⟩
theorem Q1w(h2:EK T)(W:WalksS prog w A.in1.in1 I fp wr (λa b=>b=a) n P (λi s=>St i s.heap))(hT:∀(i:Nat)(s:Shared),St i s.heap->s.TypeIs (.ref I) T)(hh:Hint prog w A.in1.in1 I St)(iG:St 0 s.heap)(vf:∀b∈fp,b<s.heap.objs.size)(hI:I∈fp)(hn:n<=sizeLine)
  (h:∀s' acc,Moved wr (λa b=>b=a) s s'->ItemsOf P acc n->Q₁ (.ref s'.heap.objs.size) {s' with heap:=s'.heap.push {cls:=.type "tuple",data:=.seq acc}}) :
  codeAny (model prog w) A (.call (.builtin "tuple.__new__") ⟨[.type "tuple",.ref I],[]⟩) (wants Q₁ E) s:=by
 refine codeAny_of_tree<|Zy (m:=checkBuiltinCall "tuple.__new__" ⟨[.type "tuple",.ref I],[]⟩)<|p8 (PySem.F.newCall_tuple_1 _)<|XS ⟨CT PySem.F.plain_tuple_new _,GD PySem.F.entry_tuple_new ?_⟩;rw[Sb PySem.F.plain_tuple_new _];have k1:=sub_tuple_self;have k2:=init_tuple_lookup;have k3:=madeHere_tuple;have k4:=hT 0 s iG;rcases h2 with rfl|rfl;have z2:EK "list_reverseiterator" := .inl rfl
 wp_walk using Pk k4,gathered z2 W hT hh iG vf hI hn
 intro s' acc hm gU;refine Zy (m:=Builtin.Tuple.tupleExact acc.toList.toArray)<|v8 (XS ?_) (by show acc.toList.toArray.size<=sizeLine;simp only[Array.toArray_toList];rw[gU.1];exact hn);rw[show acc.toList.toArray=acc by simp];exact h s' acc hm gU;have z2:EK "reversed" := .inr rfl
 wp_walk using Pk k4,gathered z2 W hT hh iG vf hI hn
 intro s' acc hm gU;refine Zy (m:=Builtin.Tuple.tupleExact acc.toList.toArray)<|v8 (XS ?_) (by show acc.toList.toArray.size<=sizeLine;simp only[Array.toArray_toList];rw[gU.1];exact hn);rw[show acc.toList.toArray=acc by simp];exact h s' acc hm gU
theorem vx(h2:EK T)(W:WalksS prog w A.in1.in1.in1 I fp wr (λa b=>b=a) n P (λi s=>St i s.heap))(hT:∀(i:Nat)(s:Shared),St i s.heap->s.TypeIs (.ref I) T)(hh:Hint prog w A.in1.in1.in1 I St)(iG:St 0 s.heap)(vf:∀b∈fp,b<s.heap.objs.size)(hI:I∈fp)(hn:n<=sizeLine)(hQ:∀s' acc,Moved wr (λa b=>b=a) s s'->ItemsOf P acc n->Q (.ref s'.heap.objs.size) {s' with heap:=s'.heap.push {cls:=.type "tuple",data:=.seq acc}}):wpAny (model prog w) A (call (.type "tuple") [.ref I]) Q E s:=by refine callType_codes (Q₁:=λobj aV=>aV.TypeIs obj "tuple" /\ Q obj aV) PySem.F.called_tuple (PySem.F.typeCall_tuple_1 _) PySem.F.entry_object_init (Q1w h2 W hT hh iG vf hI hn λs' acc hm gU=>⟨⟨_,YO _ rfl,rfl⟩,hQ s' acc hm gU⟩) λobj aV bL=>?_;exact⟨bL.1,F6 obj _,object_init_meets PySem.F.called_tuple.init.lookup PySem.F.called_tuple.made (by decide) prog w A.in1 _ aV ⟨bL.1,rfl,bL.2⟩⟩
end
theorem Ga:typeLookup (.type "list_reverseiterator") "__len__" = pure none:=by rw[PE,VD];kernel_rfl
theorem Q0n:typeLookup (.type "list_reverseiterator") "__length_hint__" = pure (some<|.builtin "list_reverseiterator.__length_hint__"):=by rw[PE,VD];kernel_rfl
theorem Ge:typeLookup (.type "reversed") "__len__" = pure none:=by rw[PE,VD];kernel_rfl
theorem Cj:typeLookup (.type "reversed") "__length_hint__" = pure (some<|.builtin "reversed.__length_hint__"):=by rw[PE,VD];kernel_rfl
theorem qU:Slot "reversed" "__length_hint__" "reversed.__length_hint__":=.of (owner:="reversed") (n:="__length_hint__") Cj (by decide +kernel) (by decide +kernel) (by decide +kernel) (by first|exact .inl (by decide +kernel)|exact .inr (by decide +kernel)) (by rw[P6];kernel_rfl)
theorem vC:entryFor table "reversed.__length_hint__" = some Builtin.«reversed.__length_hint__» := entryFor_of_tree (by kernel_rfl)
theorem tnZ(a:Value):argsOk "reversed.__length_hint__" ⟨[a],[]⟩:=by unfold argsOk;rw[signature?_of (id:="reversed.__length_hint__") (n:=['_','_','t','n','i','h','_','h','t','g','n','e','l','_','_']) (o:=['d','e','s','r','e','v','e','r']) (by kernel_rfl) RV.lV];kernel_rfl
section
variable{prog:Program}{w:World}{A:Around}
def ZQ(it q:Addr)(items:Array Value):Nat->Heap->Prop:=λi h=>i<=items.size/\h.IsRevIter it q ((items.size:Int)-1-(i:Int))/\h.IsList q items
def Xk(it q:Addr)(items:Array Value):Nat->Heap->Prop:=λi h=>i<=items.size/\RV.Is h it q ((items.size:Int)-1-(i:Int))/\IsTup h q items
theorem Tq:Hint prog w A it (ZQ it q items):=λs Q E st h=>by
 have hT:s.TypeIs (.ref it) "list_reverseiterator" := st.2.1.typeIs;unfold Builtin.List.listLengthHint;refine Zy<|Om hT Ga ?_;refine Zy (m:=specialOf (.ref it) "__length_hint__")<|Om hT Q0n ?_;generalize Tp:("list_reverseiterator.__length_hint__" : String)=YB
 wp_delta
 rw[show splitId YB=some ("list_reverseiterator","__length_hint__") from by subst Tp;decide +kernel];subst Tp;refine Zy (Ph (b:=true) hT (by rw[P6];kernel_rfl)<|XS<|h _ s.toks<|Ru _)
theorem Tu(hz:items.size<=sizeLine):Hint prog w A it (Xk it q items):=λs Q E st h=>by
 have hT:s.TypeIs (.ref it) "reversed" := st.2.1.typeIs;unfold Builtin.List.listLengthHint;refine Zy<|Om hT Ge ?_;refine Zy (m:=specialOf (.ref it) "__length_hint__")<|Om hT Cj ?_;generalize Tp:("reversed.__length_hint__" : String)=YB
 wp_delta
 rw[show splitId YB=some ("reversed","__length_hint__") from by subst Tp;decide +kernel];subst Tp;refine Zy<|Ph (b:=true) hT (by rw[P6];kernel_rfl) ?_;obtain⟨_,⟨o,ho,hc,hd⟩,ht⟩:=id st;have hz':(items.size:Int)<=16777216:=by rw[UN] at hz;lia
 rw[Zj (show ¬((!true)=true) by decide)];dsimp only[];rw[Zj (by decide)];refine Zy<|FK<|Zy<|p8 (qU.bind _) ?_;refine Zy (m:=(call (.builtin "reversed.__length_hint__") [.ref it]).attempt)<|ZI<|UL qU hT vC ?_<|tnZ _;unfold Builtin.«reversed.__length_hint__»;refine Zy<|p8 (a:=Value.ref it) (by first|rfl|kernel_rfl) ?_;refine Zy<|Rf ho hd (x:=.ref q) rfl ?_;rw[Zj (by intro z;cases z)];dsimp only[];refine Zy (m:=call (Value.builtin "len") [Value.ref q])<|len_tuple ht Zl ?_;refine Zy (m:=asInt?<|.int items.size _)<|XS ?_;refine Zy (m:=field (.ref it) 1)<|Rf (s:={s with toks:=s.toks+1+1}) ho hd (x:=rawInt<|(items.size:Int)-1-((0:Nat):Int)) rfl ?_;have e0:(items.size:Int)-1-((0:Nat):Int)+1=items.size:=Zl;show wpAny _ _ (if (items.size:Int)<(items.size:Int)-1-((0:Nat):Int)+1 then _ else retInt ((items.size:Int)-1-((0:Nat):Int)+1)) _ _ _;rw[Zj Zl,e0];have f1:Builtin.List.listFitsIndex (items.size:Int)=true:=by
  unfold Builtin.List.listFitsIndex;simp only[Bool.and_eq_true,decide_eq_true_eq]
  lia
 have f2:Builtin.List.listTooLong ((items.size:Int).toNat)=false:=by unfold Builtin.List.listTooLong;rw[N9];simp only[decide_eq_false_iff_not,gt_iff_lt,Nat.not_lt];exact hz
 have f3:¬(items.size:Int)<0:=Zl;generalize (items.size:Int)=k at f1 f2 f3 ⊢;refine Zy (m:=mkInt k)<|wpAny_mkInt<|XS ⟨_,rfl,?_⟩;dsimp only[];refine Zy<|p8 (a:=some k) rfl ?_;dsimp only[];rw[Zj (by rw[f1];decide),Zj f3,Zj (by rw[f2];decide)];exact XS (h _ _ (by show s.toks<=s.toks+1+1+1;lia))
theorem Q18(hh:A.handled=none)(it q:Addr)(Kv:q≠it)(items:Array Value)(hz:items.size<=sizeLine):Walks prog w A it [it,q] [it] items.size (λi v=>items[items.size-1-i]?=some v) (Xk it q items) where
 sub:=λb hb=>by simp at hb;simp[hb]
 frame:=λ_ _ _ x hk=>⟨x.1,x.2.1.at λo e=>hk it ZA o e,by obtain⟨o,e,r⟩:=x.2.2;exact⟨o,hk q ZA o e,r⟩⟩
 item:=λi s Q E hi x hQ=>by have e:(items.size:Int)-1-(i:Int)=((items.size-1-i:Nat):Int):=Zl;have e2:((items.size-1-i:Nat):Int)-1=(items.size:Int)-1-((i+1:Nat):Int):=Zl;have hit:=x.2.1;rw[e] at hit;have hx:items[items.size-1-i]?=some (items[items.size-1-i]' Zl):=Array.getElem?_eq_getElem Zl;refine RV.next_item hit x.2.2 hx hz λh' tk Fm sb=>?_;rw[e2] at Fm;refine hQ _ h' tk hx ⟨hi,Fm,?_⟩ λb o hb eo=>(sb.2 b λz=>hb (by simp[z])).trans eo;obtain⟨o,eo,r⟩:=x.2.2;exact⟨o,(sb.2 q Kv).trans eo,r⟩
 done:=λs Q E x hQ=>by have e:(items.size:Int)-1-(items.size:Int)=-1:=Zl;have hit:=x.2.1;rw[e] at hit;exact RV.next_end hh hit λh' he=>hQ h' s.toks λb o hb eo=>he b o (λz=>hb (by simp[z])) eo
 self:=λ_ _ _ _ x hQ=>RV.lK x.2.1 hQ
end
end GA
section
variable{X:Cx}{EX:XE}{L:Lc}{e a b tg:Expr}{fa fb fe:M D}{pos p Bg p':Pos}
theorem qE{items acc:Array Value}(h:ItemsOf (λi v=>items[items.size-1-i]?=some v) acc items.size):acc=items.toList.reverse.toArray:=by
 obtain⟨h1,h2⟩:=h;apply Array.ext';refine List.ext_getElem? λi=>?_;by_cases hi:i<acc.size;have e:=h2 i acc[i]<|Array.getElem?_eq_getElem hi;have l:acc.toList[i]?=some acc[i]:=by simp[hi]
 rw[l];simp only[List.toList_toArray];rw[ZG (by simp;lia),<-e];simp;have Wn:¬i<items.size:=Zl;rw[F4 (by simp;lia),F4 (by simp;lia)]
end
namespace GA
section
variable{prog:Program}{w:World}{A:Around}{E:Wg}{s:Shared}{I:Addr}{fp wr:WC}{n:Nat}{P:Nat->Value->Prop}{St:Nat->Heap->Prop}{T:String}
theorem Q2D(h2:EK T)(W:WalksS prog w A.in1 I fp wr (λa b=>b=a) n P (λi s=>St i s.heap))(hT:∀(i:Nat)(s:Shared),St i s.heap->s.TypeIs (.ref I) T)(hh:Hint prog w A.in1 I St)(S:Addr)(iG:St 0 s.heap)(Cd:S∉fp)(hI:I∈fp)
  (hS:s.heap.get? S=some {cls:=.type "list",data:=.seq #[]}) (hn:n<=sizeLine)
  (hR:∀s' acc c,Moved (S::wr) (λa b=>b=a) s s'->s'.heap.get? S=some {cls:=.type "list",dict:=none,data:=.seq acc c,slots:=#[]}->ItemsOf P acc n->R (.ok<|.ret .none) s') :
  wpAny (model prog w) A.in1 (Builtin.«list.__init__» ⟨[.ref S,.ref I],[]⟩) (λfin s'=>match fin with|.done f=>R (.ok f) s'|.again c'=>c'.quiet=true/\codeAny (model prog w) A c' R s') (λe s'=>R (.error e) s') s:=by
 have q2:=Pm (Obj.mapSeq (λ_=>(#[]:Array Value))) hS rfl;have An:∀b o,b≠S->s.heap.get? b=some o->(s.heap.update S<|Obj.mapSeq (λ_=>(#[]:Array Value))).get? b=some o:=λb o hb e=>by rw[Su _ _<|RU hb];exact e
 refine Zy (m:=Builtin.List.listItems<|.ref S) ?_;unfold Builtin.List.listItems;refine Zy<|OA hS rfl<|XS ?_;refine Zy (m:=updateSeq S (λ_=>#[]))<|DS hS rfl<|Zy<|Se ?_;refine extend (s:={s with heap:=s.heap.update S (Obj.mapSeq (λ_=>(#[]:Array Value)))}) h2 W hT hh S .none _ (W.frame 0 s _ s.toks iG (Ru _) λb hb o e=>An b o (λz=>Cd<|z ▸ hb) e) Cd hI q2 hn λs' acc c hm Ng gU=>hR s' acc c ?_ Ng gU;have mv:Moved (S::wr) (λa b=>b=a) s {s with heap:=s.heap.update S (Obj.mapSeq (λ_=>(#[]:Array Value)))}:=⟨λb o hb e=>An b o (λz=>hb (by rw[z];exact Uq)) e,rfl,rfl,rfl,Ru _⟩;exact Moved.trans W.gtrans mv hm
theorem y8(h2:EK T)(W:WalksS prog w A.in1.in1 I fp wr (λa b=>b=a) n P (λi s=>St i s.heap))(hT:∀(i:Nat)(s:Shared),St i s.heap->s.TypeIs (.ref I) T)(hh:Hint prog w A.in1.in1 I St)(iG:St 0 s.heap)(vf:∀b∈fp,b<s.heap.objs.size)(hI:I∈fp)(hn:n<=sizeLine)
  (hQ:∀s' acc c,Moved (s.heap.objs.size::wr) (λa b=>b=a) {s with heap:=s.heap.push {cls:=.type "list",data:=.seq #[]}} s'->s'.heap.get? s.heap.objs.size=some {cls:=.type "list",dict:=none,data:=.seq acc c,slots:=#[]}->ItemsOf P acc n->Q (.ref s.heap.objs.size) s') :
  wpAny (model prog w) A (call (.type "list") [.ref I]) Q E s:=by
 have Cd:s.heap.objs.size∉fp:=λhm=>T2 _<|vf _ hm;have hS:(s.heap.push {cls:=.type "list",data:=.seq #[]}).get? s.heap.objs.size=some {cls:=.type "list",data:=.seq #[]}:=YO _ rfl;refine callType_codes (Q₁:=λobj aV=>obj=.ref s.heap.objs.size/\aV={s with heap:=s.heap.push {cls:=.type "list",data:=.seq #[]}}) PySem.F.called_list (PySem.F.typeCall_list_1 _) PySem.F.entry_list_init (code_list_new _ ⟨rfl,rfl⟩) λobj aV z=>?_;obtain⟨rfl,rfl⟩:=z;refine⟨⟨_,hS,rfl⟩,PySem.F.args_list_init_2 _ _,?_⟩;exact Q2D (s:={s with heap:=s.heap.push {cls:=.type "list",data:=.seq #[]}}) h2 W hT hh _ (W.frame 0 s _ s.toks iG (Ru _) λb _ o e=>WK _ e) Cd hI hS hn λs' acc c hm Ng gU=>⟨rfl,hQ s' acc c hm Ng gU⟩
end
end GA
section
variable{X:Cx}{EX:XE}{L:Lc}{a:Expr}{fa:M D}{p pos p' Bg:Pos}
theorem range_all(bs:Wz):(List.range bs.length).all (λi=>bs.getD i false)=bs.all id/\(List.range bs.length).any (λi=>bs.getD i false)=bs.any id:=by
 have e:(List.range bs.length).map (λi=>bs.getD i false)=bs:=by apply zN;simp;intro i h1 h2;simp[h2]
 refine⟨?_,?_⟩;rw[show bs.all id=((List.range bs.length).map λi=>bs.getD i false).all id by rw[e],List.all_map];rfl;rw[show bs.any id=((List.range bs.length).map λi=>bs.getD i false).any id by rw[e],List.any_map];rfl
theorem boot_all:bootBuiltins "all" = some (.builtin "all"):=by kernel_rfl
theorem boot_any:bootBuiltins "any" = some (.builtin "any"):=by kernel_rfl
variable{b value:Expr}{fk fv:M D}{x:Str}
end
section
variable{X:Cx}{EX:XE}{L:Lc}{e a b c:Expr}{fa fb fc fe:M D}{pos:Pos}{x:Str}
def pW(K:Frag)(d:D)(v:Value):Prop:=cR d v\/∃(ds:Zm)(q:Addr)(aS:Array Value)(n:Nat),d=.tup ds/\v=.ref q/\K.lookup q=some ⟨.type "tuple",none,.seq aS n,#[]⟩/\aS.size<=sizeLine/\Paired cR ds aS.toList
theorem Q0M{K:Frag}{ds:Zm}{q:Addr}{aS:Array Value}{n:Nat}(hl:K.lookup q=some ⟨.type "tuple",none,.seq aS n,#[]⟩)(hz:aS.size<=sizeLine)(hp:Paired cR ds aS.toList):pW K (.tup ds) (.ref q):=.inr ⟨ds,q,aS,n,rfl,rfl,hl,hz,hp⟩
structure EH(w:World)(K:Frag)(mg:MG)(x:Str)(t:List (Str×D))(ab:WZ):Prop where
 ex:∃(q:Addr)(es:Array DictEntry)(n:Nat),mg x=some (.ref q)/\(q == sysModules)=false/\K.lookup q=some ⟨.type "dict",none,.dict es n,#[]⟩/\W.KeysLit w.params es.toList/\(∀k d,t.lookup k=some d->∃v,W.nsIn K q k=some (some v)/\pW K d v)/\∀k∈ab,W.nsIn K q k=some none
theorem isL{K:Frag}{q:Addr}{t:List (Str×D)}(h:∀p∈t,∃v,W.nsIn K q p.1=some (some v)/\pW K p.2 v):∀k d,t.lookup k=some d->∃v,W.nsIn K q k=some (some v)/\pW K d v:=λk d e=>h (k,d) (NM e)
end
section
variable{X:Cx}{EX:XE}{L:Lc}{e a b o value:Expr}{es:WM}{fa fe fo:M D}{as:List VP.Arg}{pos p WB:Pos}{x c m:Str}
variable{CX:CXT}{k:Nat}{fA C:Addr}{fd:FuncData}{ps:WZ}{fl:Wz}{fs:Fn}{cs:WZ}{f:Str}
def Mr(K:Frag)(mg:MG)(cs:WZ)(f:Str):Prop:=∀c∈cs,∃C,mg c=some (.ref C)/\Mq K C/\rl K C f
end
theorem Q0q(l:Addr)(xs:Array Value)(n:Nat)(sl:Array (Option Value)):Meets (Builtin.«enumerate.__new__» ⟨[.type "enumerate",.ref l],[]⟩) (λ_ R s=>s.heap.get? l=some {cls:=.type "list",dict:=none,data:=.seq xs n,slots:=sl}/\R (.ok<|.ret<|.ref (s.heap.push {cls:=.type "list_iterator",data:=.fields #[.ref l,.int 0 0]}).objs.size) {s with heap:=(s.heap.push {cls:=.type "list_iterator",data:=.fields #[.ref l,.int 0 0]}).push {cls:=.type "enumerate",data:=.fields #[.none,.bool false,.ref s.heap.objs.size,rawInt 0,.none,.none]}}):=
 .of_wp λprog w A R s z=>by
  obtain⟨hp,g,d,tk,os⟩:=s;obtain⟨q1,q2⟩:=z;have z1:=sub_enumerate;have z2:Heap.IsList (Shared.heap ⟨hp,g,d,tk,os⟩) l xs:=⟨_,q1,rfl,n,rfl⟩
  wp_walk using Nv q1
  refine wpAny_stack_any λst=>XS ?_;split;rename_i c _ _ _ _ _;cases (c == Value.type "enumerate")<;>(wp_walk using Nv q1,NV z2;exact⟨_,rfl,q2⟩)
  wp_walk using Nv q1,NV z2
  exact⟨_,rfl,q2⟩
section
variable{X:Cx}{EX:XE}{L:Lc}{e a b:Expr}{fa fb fe:M D}{pos p:Pos}{x:Str}
theorem boot_enumerate:bootBuiltins "enumerate" = some (.type "enumerate"):=by kernel_rfl
end
section
variable{X:Cx}{EX:XE}{L:Lc}{e a b:Expr}{fa fb fe:M D}{pos p:Pos}{x c:Str}
structure EE(K:Frag)(D:Addr):Prop where
 pg:W.plainGet K D "__class__" = true
 hd:W.hasDictIn K D=true
 fi:W.findIn K (.ref D) "__class__" = some (some<|.builtin "object.__class__")
 mr:W.mroIn K D (.type "object")=some true
structure RE(K:Frag)(mg:MG)(c:Str)(subs:Uk):Prop where
 sp:W.specialIn K (.builtin "object.__class__") "__get__" = some (some<|.builtin "getset_descriptor.__get__")
 tk:W.takesIn K (.builtin "object.__class__")=some true
 ex:∃C,mg c=some (.ref C)/\∀p∈subs,∃D,mg p.1=some (.ref D)/\EE K D/\W.kitOne K (.ref D) (.ref C)=some p.2
end
open PySem.AutoSeq1 (wpAny_loadPart')
theorem noFill_tuple_mul:fillsNumberSlot (.type "tuple") "mul" = pure false:=PySem.fillsNumberSlot_seq (id:="tuple.__mul__") (r:=some<|.builtin "tuple.__rmul__") PySem.F.slot_tuple_mul.lookup (by decide +kernel) PySem.F.slot_tuple_rmul.lookup (by decide +kernel)
theorem sv:seqRepeat? (.type "tuple")=pure (some<|.builtin "tuple.__mul__"):=by unfold seqRepeat?;rw[PySem.seqSlot_of (T:="tuple") (name:="__mul__") (id:="tuple.__mul__") PySem.F.slot_tuple_mul.lookup (by decide +kernel),PySem.seqSlot_of (T:="tuple") (name:="__rmul__") (id:="tuple.__rmul__") PySem.F.slot_tuple_rmul.lookup (by decide +kernel)];rfl
theorem oK(a:Int)(t:Tok)(l:Addr)(items:Array Value)(n:Nat)(dd:QB)(sl:Array (Option Value)) : Meets (Builtin.«int.__rmul__» ⟨[.int a t,.ref l],[]⟩) (λ_ R s=>s.heap.get? l=some {cls:=.type "tuple",dict:=dd,data:=.seq items n,slots:=sl}/\R (.ok<|.ret Value.notImplemented) s):=
 .of_wp λprog w A R s h=>by obtain⟨hp,g,d,tk,os⟩:=s;obtain⟨hl,h⟩:=h;wp_walk;exact⟨_,rfl,h⟩
theorem wX(l:Addr)(items:Array Value)(n:Nat)(dd:QB)(sl:Array (Option Value))(x:Int)(u:Tok)(h1:¬(decide (x < -(2 ^ 63))||decide (x>=2 ^ 63))=true)(h2:(items.isEmpty||x == 1)=true) : Meets (Builtin.«tuple.__mul__» ⟨[.ref l,.int x u],[]⟩) (λ_ R s=>s.heap.get? l=some {cls:=.type "tuple",dict:=dd,data:=.seq items n,slots:=sl}/\R (.ok<|.ret<|Value.ref l) {s with heap:=s.heap,toks:=s.toks}):=
 .of_wp λprog w A R s h=>by obtain⟨hp,g,d,tk,os⟩:=s;obtain⟨hl,h⟩:=h;wp_walk using wpAny_loadPart' hl;refine Po (T1 h1) ?_;wp_walk using wpAny_loadPart' hl;exact⟨_,rfl,h⟩
theorem wY(l:Addr)(items:Array Value)(n:Nat)(dd:QB)(sl:Array (Option Value))(x:Int)(u:Tok)(h1:¬(decide (x < -(2 ^ 63))||decide (x>=2 ^ 63))=true)(h2:¬(items.isEmpty||x == 1)=true)(h3:(decide (x<=0)||items.isEmpty)=true) : Meets (Builtin.«tuple.__mul__» ⟨[.ref l,.int x u],[]⟩) (λ_ R s=>s.heap.get? l=some {cls:=.type "tuple",dict:=dd,data:=.seq items n,slots:=sl}/\R (.ok<|.ret<|Value.ref s.heap.objs.size) {s with heap:=s.heap.push {cls:=Value.type "tuple",data:=Data.seq #[]},toks:=s.toks}):=
 .of_wp λprog w A R s h=>by obtain⟨hp,g,d,tk,os⟩:=s;obtain⟨hl,h⟩:=h;wp_walk using wpAny_loadPart' hl;refine Po (T1 h1) ?_;wp_walk using wpAny_loadPart' hl;exact⟨_,rfl,h⟩
theorem wZ(l:Addr)(items:Array Value)(n:Nat)(dd:QB)(sl:Array (Option Value))(x:Int)(u:Tok)(h1:¬(decide (x < -(2 ^ 63))||decide (x>=2 ^ 63))=true)(h2:¬(items.isEmpty||x == 1)=true)(h3:¬(decide (x<=0)||items.isEmpty)=true)
  (h4:¬((items.size:Int)*x > (2 ^ 63-1) / 8)) (h5:¬Builtin.Tuple.tupleTooMany ((items.size:Int)*x)=true) (hsz:(List.foldl (λx1 x2=>x1++x2) #[]<|List.replicate x.toNat items).size<=sizeLine) :
  Meets (Builtin.«tuple.__mul__» ⟨[.ref l,.int x u],[]⟩) (λ_ R s=>s.heap.get? l=some {cls:=.type "tuple",dict:=dd,data:=.seq items n,slots:=sl}/\R (.ok<|.ret<|Value.ref s.heap.objs.size) {s with heap:=s.heap.push {cls:=Value.type "tuple",data:=Data.seq (List.foldl (λx1 x2=>x1++x2) #[]<|List.replicate x.toNat items)},toks:=s.toks}):=
 .of_wp λprog w A R s h=>by obtain⟨hp,g,d,tk,os⟩:=s;obtain⟨hl,h⟩:=h;wp_walk using wpAny_loadPart' hl;refine Po (T1 h1) ?_;wp_walk using wpAny_loadPart' hl;refine Po (T1 h4) ?_;wp_walk using wpAny_loadPart' hl;exact⟨_,rfl,h⟩
structure DM(K:Frag)(x qn:Str)(st:Stmt)(f:Addr):Prop where
 l:∃(oc:Value)(od:QB)(kV doc pm:Value)(an:QB)(cd ct:Value)(sl:Array (Option Value)),K.lookup f=some ⟨oc,od,.func<|W.fnOf x qn (bW st) (bh st) (au st) .none kV doc pm an cd ct,sl⟩/\W.codeIn K cd qn=true
 k:W.keepIn K (.ref f)=true
structure DH(K:Frag)(x:Str)(st:Stmt)(f:Addr):Prop where
 a:W.nsIn K mainGlobals x=some (some<|.ref f)
 m:DM K x x st f
abbrev Ao(x qn:Str)(st:Stmt)(ps:WZ):Prop:=∀(kV doc pm:Value)(an:QB)(cd ct:Value)(us:Zk),us.length=ps.length->bindArgs (W.fnOf x qn (bW st) (bh st) (au st) .none kV doc pm an cd ct) ⟨us,[]⟩=pure (ps.zip us)
section
variable{K:Frag}{mg:MG}{h:Heap}{x qn:Str}{st:Stmt}{f:Addr}{ps:WZ}
theorem DM.is(d:DM K x qn st f)(b:Ao x qn st ps):∃fd,HH K x qn st f fd/\Binds K fd ps []:=by obtain⟨⟨oc,od,kV,doc,pm,an,cd,ct,sl,l,c⟩,k⟩:=d;exact⟨_,B8 l c k,(B8 l c k).binds b⟩
theorem DH.is(d:DH K x st f)(X:K.In h)(G:h.Ns mainGlobals mg)(b:Ao x x st ps):∃fd,rh K mg x st ps f fd:=by obtain⟨fd,F,B⟩:=d.m.is b;exact⟨fd,F,B,ku X G d.a⟩
end
theorem v0{P:Zk->Prop}(h:P []):∀us:Zk,us.length=0->P us:=λus e=>List.length_eq_zero_iff.mp e ▸ h
theorem vc{n:Nat}{P:Zk->Prop}(h:∀a,∀us:Zk,us.length=n->P (a::us)):∀us:Zk,us.length=n+1->P us:=λus e=>by cases us with|nil=>cases e|cons a us=>exact h a us (Nat.succ.inj e)
theorem ZU{x qn:Str}{st:Stmt}{p0:Str}(h:∀(kV doc pm:Value)(an:QB)(cd ct:Value)(a0:Value),bindArgs (W.fnOf x qn (bW st) (bh st) (au st) .none kV doc pm an cd ct) ⟨[a0],[]⟩=pure ([p0].zip [a0]):=by intros;rfl):Ao x qn st [p0]:=λkV doc pm an cd ct=>vc λ_=>v0 (h _ _ _ _ _ _ _)
theorem ZV{x qn:Str}{st:Stmt}{p0 p1:Str}(h:∀(kV doc pm:Value)(an:QB)(cd ct:Value)(a0 a1:Value),bindArgs (W.fnOf x qn (bW st) (bh st) (au st) .none kV doc pm an cd ct) ⟨[a0,a1],[]⟩=pure ([p0,p1].zip [a0,a1]):=by intros;rfl):Ao x qn st [p0,p1]:=λkV doc pm an cd ct=>vc λ_=>vc λ_=>v0 (h _ _ _ _ _ _ _ _)
theorem ZW{x qn:Str}{st:Stmt}{p0 p1 p2:Str}(h:∀(kV doc pm:Value)(an:QB)(cd ct:Value)(a0 a1 a2:Value),bindArgs (W.fnOf x qn (bW st) (bh st) (au st) .none kV doc pm an cd ct) ⟨[a0,a1,a2],[]⟩=pure ([p0,p1,p2].zip [a0,a1,a2]):=by intros;rfl):Ao x qn st [p0,p1,p2]:=λkV doc pm an cd ct=>vc λ_=>vc λ_=>vc λ_=>v0 (h _ _ _ _ _ _ _ _ _)
theorem ZX{x qn:Str}{st:Stmt}{p0 p1 p2 p3:Str}(h:∀(kV doc pm:Value)(an:QB)(cd ct:Value)(a0 a1 a2 a3:Value),bindArgs (W.fnOf x qn (bW st) (bh st) (au st) .none kV doc pm an cd ct) ⟨[a0,a1,a2,a3],[]⟩=pure ([p0,p1,p2,p3].zip [a0,a1,a2,a3]):=by intros;rfl):Ao x qn st [p0,p1,p2,p3]:=λkV doc pm an cd ct=>vc λ_=>vc λ_=>vc λ_=>vc λ_=>v0 (h _ _ _ _ _ _ _ _ _ _)
theorem ZY{x qn:Str}{st:Stmt}{p0 p1 p2 p3 p4:Str}(h:∀(kV doc pm:Value)(an:QB)(cd ct:Value)(a0 a1 a2 a3 a4:Value),bindArgs (W.fnOf x qn (bW st) (bh st) (au st) .none kV doc pm an cd ct) ⟨[a0,a1,a2,a3,a4],[]⟩=pure ([p0,p1,p2,p3,p4].zip [a0,a1,a2,a3,a4]):=by intros;rfl):Ao x qn st [p0,p1,p2,p3,p4]:=λkV doc pm an cd ct=>vc λ_=>vc λ_=>vc λ_=>vc λ_=>vc λ_=>v0 (h _ _ _ _ _ _ _ _ _ _ _)
theorem ZZ{x qn:Str}{st:Stmt}{p0 p1 p2 p3 p4 p5:Str}(h:∀(kV doc pm:Value)(an:QB)(cd ct:Value)(a0 a1 a2 a3 a4 a5:Value),bindArgs (W.fnOf x qn (bW st) (bh st) (au st) .none kV doc pm an cd ct) ⟨[a0,a1,a2,a3,a4,a5],[]⟩=pure ([p0,p1,p2,p3,p4,p5].zip [a0,a1,a2,a3,a4,a5]):=by intros;rfl):Ao x qn st [p0,p1,p2,p3,p4,p5]:=λkV doc pm an cd ct=>vc λ_=>vc λ_=>vc λ_=>vc λ_=>vc λ_=>vc λ_=>v0 (h _ _ _ _ _ _ _ _ _ _ _ _)
theorem Z0{x qn:Str}{st:Stmt}{p0 p1 p2 p3 p4 p5 p6:Str}(h:∀(kV doc pm:Value)(an:QB)(cd ct:Value)(a0 a1 a2 a3 a4 a5 a6:Value),bindArgs (W.fnOf x qn (bW st) (bh st) (au st) .none kV doc pm an cd ct) ⟨[a0,a1,a2,a3,a4,a5,a6],[]⟩=pure ([p0,p1,p2,p3,p4,p5,p6].zip [a0,a1,a2,a3,a4,a5,a6]):=by intros;rfl):Ao x qn st [p0,p1,p2,p3,p4,p5,p6]:=λkV doc pm an cd ct=>vc λ_=>vc λ_=>vc λ_=>vc λ_=>vc λ_=>vc λ_=>vc λ_=>v0 (h _ _ _ _ _ _ _ _ _ _ _ _ _)
theorem DE{N P:WZ}{sc:Scope}(h1:sc.kind=.function:=by rfl)(h2:sc.isCoroutine=false:=by rfl)(h3:sc.isGenerator=false:=by rfl)(h4:N.Nodup:=by exact Ec)(h5:N.take P.length=P:=by rfl)(h6:∀x∈P,sc.names.lookup x=some .local\/sc.names.lookup x=some .cell:=by exact Ec) (h7:∀y∈sc.names,y.2≠.free:=by exact Ec):bp N P sc:=⟨h1,h2,h3,h4,h5,h6,h7⟩
theorem YU(l:WZ)(h:l.Nodup:=by exact Ec):List.Nodup l:=h
theorem Q1F(a:Int)(t:Tok)(l:Addr)(items:Array Value)(n:Nat)(sl:Array (Option Value)) : Meets (Builtin.«int.__rmul__» ⟨[.int a t,.ref l],[]⟩) (λ_ R s=>s.heap.get? l=some {cls:=.type "list",dict:=none,data:=.seq items n,slots:=sl}/\R (.ok<|.ret Value.notImplemented) s):=
 .of_wp λprog w A R s h=>by obtain⟨hp,g,d,tk,os⟩:=s;obtain⟨hl,h⟩:=h;wp_walk;exact⟨_,rfl,h⟩
theorem zw(l:Addr)(items:Array Value)(n:Nat)(sl:Array (Option Value))(x:Int)(u:Tok)(X9:¬(!Builtin.List.listFitsIndex x)=true)(hc1:¬items.size*x.toNat > (2 ^ 63-1) / 8)(zl:¬Builtin.List.listTooLong (items.size*x.toNat)=true) : Meets (Builtin.«list.__mul__» ⟨[.ref l,.int x u],[]⟩) (λ_ R s=>s.heap.get? l=some {cls:=.type "list",dict:=none,data:=.seq items n,slots:=sl}/\R (.ok<|.ret<|Value.ref s.heap.objs.size) {s with heap:=s.heap.push {cls:=Value.type "list",data:=Data.seq (List.foldl (λx1 x2=>x1++x2) #[]<|List.replicate (if items.isEmpty=true then 0 else x.toNat) items)},toks:=s.toks}):=
 .of_wp λprog w A R s h=>by
  obtain⟨hp,g,d,tk,os⟩:=s;obtain⟨hl,h⟩:=h;have hsz:=AutoListH.joined_fits zl
  wp_walk;refine Po (T1<|Nat.not_lt.mpr hsz) ?_;wp_walk;exact⟨_,rfl,h⟩
section
variable{prog:Program}{w:World}{A:Around}{E:Wg}{s:Shared}
theorem tD(hl:s.heap.IsTuple l vs.toArray)
  (h:Q vs {s with heap:=(s.heap.push<|seqObj "list" #[] 0).update s.heap.objs.size (Obj.mapSeq (·++vs.toArray))}) (hsz:vs.length<=sizeLine) :
  wpAny (model prog w) A (collect<|.ref l) Q E s:=by
 obtain⟨o,ho,hc,n,hd⟩:=id hl;unfold collect;refine Zy<|wpAny_runValue<|GD entry_proto_collect' ?_;show wpAny _ _ (do again (.builtin "list.__iadd__" ⟨[<-newList [],.ref l],[]⟩)) _ _ s;refine Zy<|wpAny_newList<|XS ⟨Code.quiet_builtin _ (by decide +kernel),GD entry_list_iadd' ?_⟩;show wpAny _ _ (Builtin.List.listExtendWith (.ref s.heap.objs.size) (.ref l)<|.ref s.heap.objs.size) _ _ {s with heap:=s.heap.push (seqObj "list" #[] 0)};unfold Builtin.List.listExtendWith;have Eu:(s.heap.push<|seqObj "list" #[] 0).get? l=some o:=WK _ ho;refine Zy<|Pk (T:="tuple") ⟨o,Eu,hc⟩ ?_;have ht:(Value.type "tuple" == Value.type "tuple")=true:=by rfl
 rw[Ue (by rw[ht];simp)];refine Zy<|listItems_at Eu hd ?_;refine Zy<|listItems_at (xs:=#[]) (n:=0) (YO _ rfl) rfl ?_;rw[Zj ZA];refine Zy<|listUpdate_at (xs:=#[]) (n:=0) (YO _ rfl) rfl ?_ (Hq _) (by show (#[]++vs.toArray).size<=sizeLine+1;simp only[Array.size_append,List.size_toArray,List.length_nil];lia);refine XS ?_;show wpAny (model prog w) A (do
  let o <-load s.heap.objs.size
  match o.data with|.seq xs _=>pure xs.toList|_=>unsupported "internal:collect") Q E {s with heap:=(s.heap.push<|seqObj "list" #[] 0).update s.heap.objs.size (Obj.mapSeq (·++vs.toArray))}
 refine Zy<|wpAny_load (get?_update_seq (YO _ rfl) _) ?_;show wpAny _ _ (pure ((#[]:Array Value)++vs.toArray).toList) Q E _;rw[show ((#[]:Array Value)++vs.toArray).toList=vs by simp];exact XS h
theorem sC(hl:s.heap.IsTuple l vs.toArray)(hI:IntsAre vs ns)(Wm:vs.length<64)
  (h:∀(out:Array Value)(Ez:WR),IntsAre out.toList Ez->Ez.Perm ns->Ez.Pairwise (·<=·)->Q (.ref<|s.heap.objs.size+1) {s with heap:=sortedAll s.heap vs out}) :
  wpAny (model prog w) A (call (.builtin "sorted") [.ref l]) Q E s:=by
 refine Calls.call_function_entry kind_sorted plain_sorted entry_sorted (args_sorted1 _) ?_;unfold Builtin.«sorted»;refine Zy (m:=checkCount "sorted" 1 1 _)<|XS ?_;refine Zy<|tD hl ?_ (by rw[UN];lia);refine Zy<|wpAny_newList ?_;have hsz:((s.heap.push<|seqObj "list" #[] 0).update s.heap.objs.size<|Obj.mapSeq (·++vs.toArray)).objs.size=s.heap.objs.size+1:=by rw[Heap.size_update,size_push']
 have hoL:(((s.heap.push<|seqObj "list" #[] 0).update s.heap.objs.size<|Obj.mapSeq (·++vs.toArray)).push<|seqObj "list" vs.toArray 0).get? (s.heap.objs.size+1)=some (seqObj "list" vs.toArray 0):=by rw[<-hsz];exact YO _ rfl
 show wpAny _ _ _ _ _ {s with heap:=((s.heap.push<|seqObj "list" #[] 0).update s.heap.objs.size<|Obj.mapSeq (·++vs.toArray)).push (seqObj "list" vs.toArray 0)};rw[hsz];refine Zy<|Vs<|UL slot_list_sort ⟨_,hoL,rfl⟩ entry_list_sort (list_sort_tree hoL hI Wm λout Ez a1 a2 a3=>⟨_,rfl,?_⟩)<|args_list_sort _;exact XS ⟨_,rfl,h out Ez a1 a2 a3⟩
end
section
variable{pg:Program}{wd:World}{A:Around}{R:Result->Shared->Prop}{It:Addr}{fp wr:WC}{n:Nat}{P:Nat->Value->Prop}{Z:Nat->Heap->Prop}{dv:Value}
theorem noL(a d:Value):argsOk "max" ⟨[a],[("default",d)]⟩:=by unfold argsOk;kernel_rfl
theorem jm:(toString "max" ++ toString ".loop" : String)="max.loop" := by decide
theorem zH(W:Walks pg wd A.in1 It fp wr n P Z)(bt:Nat->Nat->Bool)(cm:CmpOf pg wd A.in1 .Gt P bt)(S:Addr)(nS:S∉fp) :
  ∀(m i:Nat)(t:Shared)(best:Value)(cap:Nat),n-(i+1)=m->i+1<=n->Z (i+1) t.heap->P (argBest bt i) best ->
  t.heap.get? S=some {cls:=.type "list",dict:=none,data:=.seq #[best,best] cap,slots:=#[]} ->
  (∀v g tk,P (argBest bt<|n-1) v->(∀b o,b∉wr->b≠S->t.heap.get? b=some o->g.get? b=some o)->R (.ok<|.ret v) {t with heap:=g,toks:=tk}) ->
  codeAny (model pg wd) A (.builtin "max.loop" ⟨[.ref It,.none,.ref S],[("default",dv)]⟩) R t:=by
 have nw:S∉wr:=λq=>nS<|W.sub _ q;intro m;induction m with|zero=>intro i t best cap e1 e2 hz hb hS fin;have en:i+1=n:=Zl;refine GD Sv ?_;rw[Sb Fb _];refine Zy (m:=seqItems?<|.ref S)<|OA hS rfl ?_;refine Zy (m:=tryCatch (pyNext<|.ref It) _)<|qd<|W.done t _ _ (en ▸ hz) λg tk kp=>?_;have Km:=kp S _ nw hS;refine Zy (m:=updateSeq S (λ_=>#[]))<|DS Km rfl<|Zy<|Se<|XS ?_;exact fin best _ tk (by rw[<-en];exact hb) λb o q1 q2 z=>(Su _ _<|RU q2).trans (kp b o q1 z)|succ m ih=>intro i t best cap e1 e2 hz hb hS fin;have lt:i+1<n:=Zl;refine GD Sv ?_;rw[Sb Fb _];refine Zy (m:=seqItems?<|.ref S)<|OA hS rfl ?_;refine Zy (m:=tryCatch (pyNext<|.ref It) _)<|qd<|W.item (i+1) t _ _ lt hz λv g tk hv Wu kp=>?_;have Km:=kp S _ nw hS;refine Zy (m:=tryCatch (holding [v,v]<|richCompare .Gt v best >>= _) _)<|qd<|Vs<|Zy<|cm (i+1) (argBest bt i) v best _ _ _ hv hb ?_;refine Zy<|Vs<|Gs<|Zy<|Se<|XS ?_;cases q:bt (i+1) (argBest bt i) with|true=>simp only[if_true];refine Zy<|DS Km rfl<|Zy<|Se ?_;rw[jm];refine XS ⟨CT Fb _,ih (i+1) _ v _ Zl lt (W.frame _ _ _ Wu λb mb o z=>(Su _ _ (λw:S=b=>nS (by rw[w];exact mb))).trans z) (by simp only[argBest,q,if_true];exact hv) (Pm _ Km rfl) λv2 g2 Vz y1 y2=>?_⟩;exact fin v2 g2 Vz y1 λb o q1 q2 z=>y2 b o q1 q2 ((Su _ _<|RU q2).trans<|kp b o q1 z)|false=>simp only[Bool.false_eq_true,if_false];refine Zy<|Se ?_;rw[jm];exact XS ⟨CT Fb _,ih (i+1) _ best cap Zl lt Wu (by simp only[argBest,q,Bool.false_eq_true,if_false];exact hb) Km λv2 g2 Vz y1 y2=>fin v2 g2 Vz y1 λb o q1 q2 z=>y2 b o q1 q2<|kp b o q1 z⟩
theorem v5(W:Walks pg wd A.in1 It fp wr n P Z)(bt:Nat->Nat->Bool)(cm:CmpOf pg wd A.in1 .Gt P bt)(S:Addr)(nS:S∉fp)(hz:Z 0 t.heap)
  (hS:t.heap.get? S=some {cls:=.type "list",dict:=none,data:=.seq #[] cap,slots:=#[]})
  (fin:∀v g tk,(n=0/\v=dv\/0<n/\P (argBest bt<|n-1) v)->(∀b o,b∉wr->b≠S->t.heap.get? b=some o->g.get? b=some o)->R (.ok<|.ret v) {t with heap:=g,toks:=tk}) :
  codeAny (model pg wd) A (.builtin "max.loop" ⟨[.ref It,.none,.ref S],[("default",dv)]⟩) R t:=by
 have nw:S∉wr:=λq=>nS<|W.sub _ q;refine GD Sv ?_;rw[Sb Fb _];refine Zy (m:=seqItems?<|.ref S)<|OA hS rfl ?_;by_cases hn:0<n;refine Zy (m:=tryCatch (pyNext<|.ref It) _)<|qd<|W.item 0 t _ _ hn hz λv g tk hv Wu kp=>?_;have Km:=kp S _ nw hS;refine Zy (m:=updateSeq S (λ_=>#[v,v]))<|DS Km rfl ?_;rw[jm];refine XS ⟨CT Fb _,zH W bt cm S nS _ 0 _ v _ rfl hn (W.frame _ _ _ Wu λb mb o z=>(Su _ _ (λw:S=b=>nS (by rw[w];exact mb))).trans z) hv (Pm _ Km rfl) λv2 g2 Vz y1 y2=>?_⟩;exact fin v2 g2 Vz (.inr ⟨hn,y1⟩) λb o q1 q2 z=>y2 b o q1 q2<|(Su _ _<|RU q2).trans<|kp b o q1 z;have n0:n=0:=Zl;refine Zy (m:=tryCatch (pyNext<|.ref It) _)<|qd<|W.done t _ _ (n0 ▸ hz) λg tk kp=>?_;exact Zy (FK<|XS<|fin dv g tk (.inl ⟨n0,rfl⟩) λb o q1 _ z=>kp b o q1 z)
end
noncomputable def mx(a b:Int):Int:=if a<b then b else a
theorem xu(ns:WR):∀k,k<ns.length->argBest (λi j=>decide<|ns.getD i 0 > ns.getD j 0) k<=k/\ns.getD (argBest (λi j=>decide<|ns.getD i 0 > ns.getD j 0) k) 0=((ns.drop 1).take k).foldl mx (ns.getD 0 0)
|0,_=>⟨Ru _,by simp[argBest]⟩|k+1,h=>by
 obtain⟨i1,i2⟩:=xu ns k Zl;have e:((ns.drop 1).take<|k+1).foldl mx (ns.getD 0 0)=mx (((ns.drop 1).take k).foldl mx<|ns.getD 0 0) (ns.getD (k+1) 0):=by
  rw[List.take_succ,List.foldl_append];have:(ns.drop 1)[k]?=some (ns.getD (k+1) 0):=by rw[List.getElem?_drop,show 1+k=k+1 by lia];simp[h]
  rw[this];rfl
 rw[e,<-i2];have st:argBest (λi j=>decide<|ns.getD i 0 > ns.getD j 0) (k+1)=if decide (ns.getD (k+1) 0 > ns.getD (argBest (λi j=>decide<|ns.getD i 0 > ns.getD j 0) k) 0)=true then k+1 else argBest (λi j=>decide<|ns.getD i 0 > ns.getD j 0) k:=rfl
 rw[st];generalize argBest (λi j=>decide<|ns.getD i 0 > ns.getD j 0) k=m at *;by_cases q:ns.getD (k+1) 0 > ns.getD m 0;rw[Ud q,Ue rfl];exact⟨Ru _,by unfold mx;rw[Ue q]⟩;rw[T1 q,Zj (by decide)];exact⟨Zl,by unfold mx;rw[Zj q]⟩
theorem te(i:Int)(is:WR):(i::is).getD (argBest (λa b=>decide<|(i::is).getD a 0 > (i::is).getD b 0)<|(i::is).length-1) 0=is.foldl mx i:=by rw[(xu (i::is) ((i::is).length-1) ZA).2];simp
section
variable{pg:Program}{wd:World}{A:Around}{E:Wg}{s:Shared}
theorem Hl{id:String}{b:Builtin}{args:Zk}{kw:List (Str×Value)}{Q:Wg}(k0:builtinKind id=none)(p0:plainId id=true)(e0:entryFor table id=some b)(a0:argsOk id ⟨args,kw⟩)
  (go:wpAny (model pg wd) A.in1 (b ⟨args,kw⟩) (λfin s'=>match fin with|.done f=>(match (Except.ok f:Result) with|.ok (.ret v)=>Q v s'|.ok _=>False|.error e=>E e s')|.again c'=>c'.quiet=true/\codeAny (model pg wd) A c' (λr s'=>match r with|.ok (.ret v)=>Q v s'|.ok _=>False|.error e=>E e s') s') E s) :
  wpAny (model pg wd) A (call (.builtin id) args kw) Q E s:=by
 refine wpAny_call<|codeAny_call_builtin p0 e0 ?_;simp only[checkBuiltinCall,k0];cases q:Manifest.signature? id with
 |none=>exact XS go|some sig=>
  have h2:Bind.checkArgs id sig ⟨args,kw⟩=pure ():=by simpa only[argsOk,q] using a0
  simp only[h2];exact XS go
theorem Q2W(hh:A.handled=none)(hl:s.heap.IsTuple q aS.toArray)(hi:IntsAre aS ns)
  (h:∀v h' tk,(ns=[]/\v=dv\/∃i is t,ns=i::is/\v=.int (is.foldl mx i) t)->(∀b o,s.heap.get? b=some o->h'.get? b=some o)->Q v {s with heap:=h',toks:=tk}) :
  wpAny (model pg wd) A (call (.builtin "max") [.ref q] [("default",dv)]) Q E s:=by
 refine Hl PySem.F.kind_max PySem.F.plain_max PySem.F.entry_max (noL _ _) ?_;refine Zy (m:=Builtin.Builtins.bindParams "max" ["key","default"] 0 ⟨[],[("default",dv)]⟩)<|p8 (show _=pure [none,some dv] from rfl) ?_;refine Zy<|XS<|Zy<|mW hl ?_;have lt:q<s.heap.objs.size:=by obtain⟨o,e,_⟩:=hl;exact tC e
 have vals:∀i v,aS.toArray[i]?=some v->∃t,v=Value.int (ns.getD i 0) t:=λi v e=>by
  have e':aS[i]?=some v:=by simpa using e
  clear e h hl;induction hi generalizing i with|nil=>simp at e'|cons n t hr ih=>cases i with|zero=>simp at e';exact⟨t,by simp[<-e']⟩|succ i=>exact ih i (by simpa using e')
 have W:=Walks.tuple (prog:=pg) (w:=wd) (A:=A.in1) hh s.heap.objs.size q (QA lt) aS.toArray;refine Zy<|v8 ?_;have hsz:(s.heap.push {cls:=.type "tuple_iterator",data:=.fields #[.ref q,.int 0 0]}).objs.size=s.heap.objs.size+1:=Gh ..;rw[jm];refine XS ⟨CT Fb _,v5 W _ (CmpOf.ints_gt (λi=>ns.getD i 0) vals) _ ?_ (cap:=0) ?_ ?_ λv g tk hv kp=>?_⟩;intro hm;rw[hsz] at hm;simp at hm;rw[<-hm] at lt;exact T2 _<|Nat.lt_of_succ_lt lt;exact⟨⟨_,WK _<|YO _ rfl,rfl,rfl⟩,(hl.push _).push _⟩;exact YO _ rfl;have Ug:aS.length=ns.length:=by clear h hl vals W hv kp;induction hi with|nil=>rfl|cons n t hr ih=>simp[ih]
 refine h v g tk ?_ λb o e=>kp b o ?_ ?_<|WK _<|WK _ e;rcases hv with ⟨h0,rfl⟩|⟨h0,hv⟩
 refine .inl ⟨?_,rfl⟩;have:aS.length=0:=by simpa using h0
 exact List.length_eq_zero_iff.mp Zl;obtain⟨t,e⟩:=vals _ _ hv;cases ns with
 |nil=>simp at h0;rw[Ug] at h0;simp at h0|cons i is=>
  refine .inr ⟨i,is,t,rfl,?_⟩;rw[e,<-te i is];have:aS.toArray.size-1=(i::is).length-1:=by rw[<-Ug];simp
  rw[this]
 have:=tC e;intro hm;have z:b=s.heap.objs.size:=by simpa using hm
 rw[z] at this;exact T2 _ this;have:=tC e;intro z;rw[z,hsz] at this;exact T2 _ (Nat.lt_of_succ_lt this)
end
section
variable{X:Cx}{EX:XE}{o e:Expr}{es:WM}{to:TE}{t:TA}{name:Str}{WB dj:Pos}{T id:String}{r:V->List V->Hp->VK->Prop}{fo fe:M D}
theorem Fx{ds:Zm}{y d:D}(h:zr ds y=some d):∃ns k,ds=List.map D.int ns/\y=.int k/\k∈ns/\d=.int (ns.idxOf k:Nat):=by
 unfold zr at h;cases q:bJ ds with
 |none=>rw[q] at h;cases h|some ns=>
  rw[q] at h;cases y with
  |int k=>
   dsimp only at h;split at h;rename_i hk;cases h;refine⟨ns,k,?_,rfl,hk,rfl⟩;clear hk;induction ds generalizing ns with
   |nil=>cases q;rfl|cons d ds ih=>
    cases d with
    |int i=>simp only[bJ] at q;cases q2:bJ ds with|none=>rw[q2] at q;cases q|some ms=>rw[q2] at q;cases q;rw[WA,<-ih ms q2]
    |_=>cases q
   cases h
  |_=>cases h
end
section
variable{X:Cx}{EX:XE}{L:Lc}{e a b c value:Expr}{fa fb fe fk fv:M D}{pos:Pos}{x:Str}{to ti tv:TE}
theorem boot_dict:bootBuiltins "dict" = some (.type "dict"):=by kernel_rfl
end
section
variable{X:Cx}{EX:XE}{L:Lc}{e a b:Expr}{fa fb fe:M D}{pos p:Pos}{c1 c2:Str}
structure RG(K:Frag)(mg:MG)(c1 c2:Str)(subs:Uk):Prop where
 sp:W.specialIn K (.builtin "object.__class__") "__get__" = some (some<|.builtin "getset_descriptor.__get__")
 tk:W.takesIn K (.builtin "object.__class__")=some true
 ex:∃C1 C2,mg c1=some (.ref C1)/\mg c2=some (.ref C2)/\∀p∈subs,∃D,mg p.1=some (.ref D)/\EE K D/\W.kitAny K (.ref D) [.ref C1,.ref C2]=some p.2
end
structure Ry(K:Frag)(mg:MG)(c m:Str)(C f:Addr):Prop where
 mg:mg c=some (.ref C)
 sp:W.specialIn K (.ref C) "__getattribute__" = some (some<|.builtin "type.__getattribute__")
 rd:W.readsIn K C (.type "type")=true
 fi:W.findCls K (.ref C) (.type "type") m=some (.val<|.ref f)
 kp:W.keepIn K (.ref f)=true
structure El where
 f:Nat->Addr
 d:Nat->FuncData
 g:Nat->Addr
 e:Nat->FuncData
 c:Nat->Addr
abbrev vo:=Str×Stmt×List Str
abbrev Au:=Str×Str×Str×Bool×Stmt×List Str
structure EI where
 b:List Str
 n:List (Str×D)
 t:List (Str×List (Str×D)×List Str)
 d:List vo
 m:List Au
 k:List Str
 f:List (Str×List Str)
 a:List Str
 i:List (Str×List (Str×Bool))
 j:List (Str×Str×List (Str×Bool))
structure Ar(K:Frag)(mg:MG)(c x qn:Str)(bs:Bool)(st:Stmt)(ps:WZ)(C f:Addr)(fd:FuncData):Prop where
 fu:HH K x qn st f fd
 bi:Binds K fd ps []
 gm:mg c=some (.ref C)
 cls:Mq K C
 me:Meth K C x f
 YS:x="__init__" -> Mk K C f
 ba:bs=true->Ry K mg c x C f
structure Txt(L:EI)(w:World)(K:Frag)(mg:MG)(a:El):Prop where
 b:∀(i:Nat) {x} (_:L.b[i]?=some x:=by rfl),mg x=none
 n:∀(i:Nat) {x d} (_:L.n[i]?=some (x,d):=by rfl),ZM mg x d
 t:∀(i:Nat) {x t ab} (_:L.t[i]?=some (x,t,ab):=by rfl),EH w K mg x t ab
 d:∀(i:Nat) {x st ps} (_:L.d[i]?=some (x,st,ps):=by rfl),rh K mg x st ps (a.f i) (a.d i)
 m:∀(i:Nat) {c x qn bs st ps} (_:L.m[i]?=some (c,x,qn,bs,st,ps):=by rfl),Ar K mg c x qn bs st ps (a.c i) (a.g i) (a.e i)
 f:∀(i:Nat) {f cs} (_:L.f[i]?=some (f,cs):=by rfl),Mr K mg cs f
 i:∀(i:Nat) {c su} (_:L.i[i]?=some (c,su):=by rfl),RE K mg c su
 j:∀(i:Nat) {c1 c2 su} (_:L.j[i]?=some (c1,c2,su):=by rfl),RG K mg c1 c2 su
def RN(K:Frag)(q:Addr):WZ->Prop|[]=>True|x::l=>W.nsIn K q x=some none/\RN K q l
def V4(K:Frag):List (Str×D)->Prop|[]=>True| (x,d)::l=>(∃v,W.nsIn K mainGlobals x=some (some v)/\cR d v)/\V4 K l
def V5(K:Frag)(q:Addr):List (Str×D)->Prop|[]=>True| (x,d)::l=>(∃v,W.nsIn K q x=some (some v)/\pW K d v)/\V5 K q l
def RO(w:World)(K:Frag):List (Str×List (Str×D)×List Str)->Prop|[]=>True| (x,t,ab)::l=>(∃(q:Addr)(es:Array DictEntry)(n:Nat),W.nsIn K mainGlobals x=some (some<|.ref q)/\(q == sysModules)=false/\K.lookup q=some ⟨.type "dict",none,.dict es n,#[]⟩/\W.KeysLit w.params es.toList/\V5 K q t/\RN K q ab)/\RO w K l
def RC(K:Frag):List vo->Prop|[]=>True| (x,st,_)::l=>(∃f,DH K x st f)/\RC K l
structure MH(K:Frag)(c x qn:Str)(bs:Bool)(st:Stmt)(C f:Addr):Prop where
 n:W.nsIn K mainGlobals c=some (some<|.ref C)
 i:W.findIn K (.ref C) x=some (some<|.ref f)
 fn:W.isFn K (.ref f)=true
 m:DM K x qn st f
 YS:W.makesIn K C=true
 kc:W.keepIn K (.ref C)=true
 ba:bs=true->W.specialIn K (.ref C) "__getattribute__" = some (some<|.builtin "type.__getattribute__")/\W.readsIn K C (.type "type")=true/\W.findCls K (.ref C) (.type "type") x=some (.val<|.ref f)
def RJ(K:Frag):List Au->Prop|[]=>True| (c,x,qn,bs,st,_)::l=>(∃C f,MH K c x qn bs st C f)/\RJ K l
def Rz(K:Frag):WZ->Prop|[]=>True|c::l=>(∃C,W.nsIn K mainGlobals c=some (some<|.ref C)/\Mq K C)/\Rz K l
def VV(K:Frag):WZ->Prop|[]=>True|c::l=>(∃C,W.nsIn K mainGlobals c=some (some<|.ref C)/\EE K C)/\VV K l
def RK(K:Frag)(f:Str):WZ->Prop|[]=>True|c::l=>(∃C,W.nsIn K mainGlobals c=some (some<|.ref C)/\W.findIn K (.ref C) f=some none)/\RK K f l
def VZ(K:Frag):List (Str×List Str)->Prop|[]=>True| (f,cs)::l=>RK K f cs/\VZ K l
def RH(K:Frag)(C:Addr):Uk->Prop|[]=>True| (c,b)::l=>(∃D,W.nsIn K mainGlobals c=some (some<|.ref D)/\W.kitOne K (.ref D) (.ref C)=some b)/\RH K C l
def V0(K:Frag):List (Str×List (Str×Bool))->Prop|[]=>True| (c,su)::l=>(∃C,W.nsIn K mainGlobals c=some (some<|.ref C)/\RH K C su)/\V0 K l
def RI(K:Frag)(C C':Addr):Uk->Prop|[]=>True| (c,b)::l=>(∃D,W.nsIn K mainGlobals c=some (some<|.ref D)/\W.kitAny K (.ref D) [.ref C,.ref C']=some b)/\RI K C C' l
def V1(K:Frag):List (Str×Str×List (Str×Bool))->Prop|[]=>True| (c,c',su)::l=>(∃C C',W.nsIn K mainGlobals c=some (some<|.ref C)/\W.nsIn K mainGlobals c'=some (some<|.ref C')/\RI K C C' su)/\V1 K l
def VW:List vo->Prop|[]=>True| (x,st,ps)::l=>Ao x x st ps/\VW l
def VX:List Au->Prop|[]=>True| (_,x,qn,_,st,ps)::l=>Ao x qn st ps/\VX l
noncomputable def EI.mU(L:EI):Bool:=L.f.all (λp=>p.2.all λc=>L.k.elem c)&&L.m.all (λr=>L.k.elem r.1)&&L.i.all (λp=>p.2.all λq=>L.a.elem q.1)&&L.j.all (λp=>p.2.2.all λq=>L.a.elem q.1)
section
variable{K:Frag}{mg:MG}{h:Heap}{w:World}
theorem RN.at:∀{l:WZ},RN K q l->∀{x},x∈l->W.nsIn K q x=some none|_::_,⟨h,t⟩,_,m=>by cases m with|head=>exact h|tail _ m=>exact t.at m
theorem V4.at:∀{l:List (Str×D)},V4 K l->∀{x d},(x,d)∈l->∃v,W.nsIn K mainGlobals x=some (some v)/\cR d v|_::_,⟨h,t⟩,_,_,m=>by cases m with|head=>exact h|tail _ m=>exact t.at m
theorem V5.at:∀{l:List (Str×D)},V5 K q l->∀p∈l,∃v,W.nsIn K q p.1=some (some v)/\pW K p.2 v|_::_,⟨h,t⟩,_,m=>by cases m with|head=>exact h|tail _ m=>exact t.at _ m
theorem RO.at(X:K.In h)(G:h.Ns mainGlobals mg):∀{l:List (Str×List (Str×D)×List Str)},RO w K l->∀{x t ab},(x,t,ab)∈l->EH w K mg x t ab|_::_,⟨⟨q,es,n,h1,h2,h3,h4,h5,h6⟩,t⟩,_,_,_,m=>by cases m with|head=>exact⟨⟨q,es,n,ku X G h1,h2,h3,h4,isL h5.at,λk hk=>h6.at hk⟩⟩|tail _ m=>exact RO.at X G t m
theorem Rz.at:∀{l:WZ},Rz K l->∀{c C},c∈l->W.nsIn K mainGlobals c=some (some<|.ref C)->Mq K C|_::_,⟨⟨D,h,k⟩,t⟩,_,_,m,e=>by cases m with|head=>rw[h] at e;cases e;exact k|tail _ m=>exact t.at m e
theorem VV.at:∀{l:WZ},VV K l->∀{c C},c∈l->W.nsIn K mainGlobals c=some (some<|.ref C)->EE K C|_::_,⟨⟨D,h,k⟩,t⟩,_,_,m,e=>by cases m with|head=>rw[h] at e;cases e;exact k|tail _ m=>exact t.at m e
theorem RK.at:∀{l:WZ},RK K f l->∀{c},c∈l->∃C,W.nsIn K mainGlobals c=some (some<|.ref C)/\rl K C f|_::_,⟨h,t⟩,_,m=>by cases m with|head=>exact h|tail _ m=>exact t.at m
theorem VZ.at:∀{l:List (Str×List Str)},VZ K l->∀{f cs},(f,cs)∈l->RK K f cs|_::_,⟨h,t⟩,_,_,m=>by cases m with|head=>exact h|tail _ m=>exact t.at m
theorem RH.at:∀{l:Uk},RH K C l->∀p∈l,∃D,W.nsIn K mainGlobals p.1=some (some<|.ref D)/\W.kitOne K (.ref D) (.ref C)=some p.2|_::_,⟨h,t⟩,_,m=>by cases m with|head=>exact h|tail _ m=>exact t.at _ m
theorem V0.at:∀{l:List (Str×List (Str×Bool))},V0 K l->∀{c su},(c,su)∈l->∃C,W.nsIn K mainGlobals c=some (some<|.ref C)/\RH K C su|_::_,⟨h,t⟩,_,_,m=>by cases m with|head=>exact h|tail _ m=>exact t.at m
theorem RI.at:∀{l:Uk},RI K C C' l->∀p∈l,∃D,W.nsIn K mainGlobals p.1=some (some<|.ref D)/\W.kitAny K (.ref D) [.ref C,.ref C']=some p.2|_::_,⟨h,t⟩,_,m=>by cases m with|head=>exact h|tail _ m=>exact t.at _ m
theorem V1.at:∀{l:List (Str×Str×List (Str×Bool))},V1 K l->∀{c c' su},(c,c',su)∈l->∃C C',W.nsIn K mainGlobals c=some (some<|.ref C)/\W.nsIn K mainGlobals c'=some (some<|.ref C')/\RI K C C' su|_::_,⟨h,t⟩,_,_,_,m=>by cases m with|head=>exact h|tail _ m=>exact t.at m
theorem RC.is(X:K.In h)(G:h.Ns mainGlobals mg):∀{l:List vo},RC K l->VW l->∃ps:List (Addr×FuncData),∀(i:Nat) {x st qs},l[i]?=some (x,st,qs)->rh K mg x st qs (ps.getD i default).1 (ps.getD i default).2|[],_,_=>⟨[],λi _ _ _ e=>by simp at e⟩|_::_,⟨⟨f,d⟩,t⟩,⟨b,bs⟩=>by obtain⟨ps,hp⟩:=RC.is X G t bs;obtain⟨fd,D⟩:=d.is X G b;refine⟨(f,fd)::ps,λi _ _ _ e=>?_⟩;cases i with|zero=>simp only[List.getElem?_cons_zero,Option.some.injEq,Prod.mk.injEq] at e;obtain⟨rfl,rfl,rfl⟩:=e;exact D|succ i=>exact hp i (by simpa using e)
theorem RJ.is(X:K.In h)(G:h.Ns mainGlobals mg)(C:Rz K ks):∀{l:List Au},RJ K l->VX l->(∀r∈l,r.1∈ks)->∃ps:List (Addr×Addr×FuncData),∀(i:Nat) {c x qn bs st qs},l[i]?=some (c,x,qn,bs,st,qs)->Ar K mg c x qn bs st qs (ps.getD i default).1 (ps.getD i default).2.1 (ps.getD i default).2.2|[],_,_,_=>⟨[],λi _ _ _ _ _ _ e=>by simp at e⟩|_::_,⟨⟨c,f,d⟩,t⟩,⟨b,bs⟩,hk=>by obtain⟨ps,hp⟩:=RJ.is X G C t bs λr hr=>hk r<|WW _ hr;obtain⟨fd,F,B⟩:=d.m.is b;refine⟨(c,f,fd)::ps,λi _ _ _ _ _ _ e=>?_⟩;cases i with|zero=>simp only[List.getElem?_cons_zero,Option.some.injEq,Prod.mk.injEq] at e;obtain⟨rfl,rfl,rfl,rfl,rfl,rfl⟩:=e;have m:=ku X G d.n;refine⟨F,B,m,C.at (hk _ Uq) d.n,⟨d.i,d.fn,d.m.k⟩,λe=>⟨d.YS,?_,d.fn,d.kc⟩,λe=>⟨m,(d.ba e).1,(d.ba e).2.1,(d.ba e).2.2,d.m.k⟩⟩;rw[<-e];exact d.i|succ i=>exact hp i (by simpa using e)
theorem Q2j(X:K.In h)(G:h.Ns mainGlobals mg)(mU:L.mU=true)(bd:VW L.d)(bm:VX L.m)(hb:RN K mainGlobals L.b)(hn:V4 K L.n)(ht:RO w K L.t)(hd:RC K L.d)(hc:Rz K L.k)(hm:RJ K L.m)(hf:VZ K L.f)(ha:VV K L.a)(hi:V0 K L.i)(hj:V1 K L.j)(sp:W.specialIn K (.builtin "object.__class__") "__get__" = some (some<|.builtin "getset_descriptor.__get__")) (tk:W.takesIn K (.builtin "object.__class__")=some true):∃a:El,Txt L w K mg a:=by simp only[EI.mU,Bool.and_eq_true,List.all_eq_true,List.elem_eq_contains,List.contains_iff_mem] at mU;obtain⟨⟨⟨f1,f2⟩,f3⟩,f4⟩:=mU;obtain⟨ps,hp⟩:=hd.is X G bd;obtain⟨qs,hq⟩:=hm.is X G hc bm f2;refine⟨⟨λi=>(ps.getD i default).1,λi=>(ps.getD i default).2,λi=>(qs.getD i default).2.1,λi=>(qs.getD i default).2.2,λi=>(qs.getD i default).1⟩,λi x e=>W.mg_none_of X G (hb.at<|Rb e),λi x d e=>?_,λi x t ab e=>ht.at X G (Rb e),hp,hq,λi f cs e c Nh=>?_,λi c su e=>?_,λi c c' su e=>?_⟩;obtain⟨v,e1,e2⟩:=hn.at<|Rb e;exact⟨v,ku X G e1,e2⟩;have m:=Rb e;obtain⟨C,e1,e2⟩:=(hf.at m).at Nh;exact⟨C,ku X G e1,hc.at (f1 _ m c Nh) e1,e2⟩;have m:=Rb e;obtain⟨C,e1,e2⟩:=hi.at m;refine⟨sp,tk,C,ku X G e1,λp hp=>?_⟩;obtain⟨D,e3,e4⟩:=e2.at p hp;exact⟨D,ku X G e3,ha.at (f3 _ m p hp) e3,e4⟩;have m:=Rb e;obtain⟨C,C',e1,e1',e2⟩:=hj.at m;refine⟨sp,tk,C,C',ku X G e1,ku X G e1',λp hp=>?_⟩;obtain⟨D,e3,e4⟩:=e2.at p hp;exact⟨D,ku X G e3,ha.at (f4 _ m p hp) e3,e4⟩
theorem rh.YI{x p:Str}{st:Stmt}{f:Addr}{fd:FuncData}(d:rh K mg x st [p] f fd)(c:∀(kV doc pm:Value)(an:QB)(cd ct:Value)(s:Shared)(v:Value),BindsTo s (W.fnOf x x (bW st) (bh st) (au st) .none kV doc pm an cd ct) ⟨[v],[]⟩ [(p,v)]) (s:Shared) (v:Value):BindsTo s fd ⟨[v],[]⟩ [(p,v)]:=by obtain⟨oc,od,kV,doc,pm,an,lB,ct,PC,rfl,lk,gG⟩:=d.fu.ex;exact c _ _ _ _ _ _ s v
end
abbrev ay:=Str×List Bool×Fn
structure Tc where
 N:List Str
 sc:Scope
 ow:List Str
 dc:List Str
 fz:List (Nat×Nat)
 ds:List ay
 ms:List (Str×ay)
 ks:List ay
 L:EI
 tx:List (Str×D)
 st:Stmt
noncomputable def gd{α:Type}(b:Bool)(o:Option α):Option α:=cond b o none
section
variable{α β:Type}{o o':Option α}{k:α->Option β}{f:α->β}{r:β}{C:Prop}
theorem nn{a:α}(h:none=some a):C:=by cases h
theorem fb(h:false=true):C:=by cases h
theorem ob(h:o.bind k=some r)(q:∀a,o=some a->k a=some r->C):C:=by cases o with|none=>cases h|some a=>exact q a rfl h
theorem om(h:(o.bind λa=>some<|f a)=some r)(q:∀a,o=some a->f a=r->C):C:=by cases o with|none=>cases h|some a=>exact q a rfl (RY h)
theorem oc{a:α}(h:cond b o o'=some a)(q:b=true->o=some a->C)(q':o'=some a->C):C:=by cases b with|true=>exact q rfl h|false=>exact q' h
theorem og{a:α}(h:gd b o=some a)(q:b=true->o=some a->C):C:=oc h q nn
theorem oa(h:(a&&b)=true)(q:a=true->b=true->C):C:=by rw[ML] at h;exact q h.1 h.2
theorem ne(h:(!a)=true):a=false:=by cases a<;>first|rfl|cases h
theorem ct{x:Str}{l:WZ}(h:l.contains x=true):x∈l:=List.contains_iff_mem.mp h
theorem lk{a:α}{l:List (Str×α)}(h:l.lookup x=some a):(x,a)∈l:=NM h
end
noncomputable def Rc(x:Str):WZ->SK->Option Nat|y::l,i::is=>cond (y == x) (some i) (Rc x l is)|_,_=>none
noncomputable def nums:SK:=[0,1,2,3,4,5,6,7,8,9,10,11,12,13,14,15,16,17,18,19,20,21,22,23,24,25,26,27,28,29,30,31,32,33,34,35,36,37,38,39,40,41,42,43,44,45,46,47,48,49,50,51,52,53,54,55,56,57,58,59,60,61,62,63]
def Cy(x:Str)(l:WZ):Option Nat:=(Rc x l nums).bind λi=>gd (l[i]? == some x) (some i)
theorem nv(h:Cy x l=some i):l[i]?=some x:=ob h λj _ h=>og h λq h=>by cases h;exact eq_of_beq q
def T3:Option NameKind->Nat|some .local=>1|some .cell=>2|some .free=>3|_=>0
def QF(sc:Scope)(x:Str):Bool:=T3 (sc.names.lookup x) != 0
def CI(sc:Scope)(x:Str):Bool:=T3 (sc.names.lookup x) == 1||T3 (sc.names.lookup x) == 2
theorem CB(h:T3 k=n):n=0\/k=some .local/\n=1\/k=some .cell/\n=2\/k=some .free:=by unfold T3 at h;split at h<;>subst h;exact .inr<|.inl ⟨rfl,rfl⟩;exact .inr<|.inr<|.inl ⟨rfl,rfl⟩;exact .inr<|.inr<|.inr rfl;exact .inl rfl
theorem Hx(h:QF sc x=true):mz sc x:=by rcases CB (k:=sc.names.lookup x) rfl with e|e|e|e;unfold QF at h;rw[e] at h;cases h;exact .inl e.1;exact .inr<|.inl e.1;exact .inr (.inr e)
theorem yn(h:CI sc x=true):Loc sc x:=by rcases CB (k:=sc.names.lookup x) rfl with e|e|e|e;unfold CI at h;rw[e] at h;cases h;exact .inl e.1;exact .inr e.1;unfold CI at h;rw[e] at h;cases h
noncomputable def okN(x:Str):Bool:=!(x == ("__debug__" : Str))&&!(x == ("__classdict__" : Str))
def slot(c:Tc)(x:Str):Option Nat:=gd (QF c.sc x&&okN x) (Cy x c.N)
noncomputable def isGl(sc:Scope)(x:Str):Bool:=sc.names.lookup x == some .globalImplicit
def XY(c:Tc)(x:Str):Bool:=isGl c.sc x&&okN x
def ME(c:Tc)(x:Str):Bool:=isGl c.sc x&&c.L.b.contains x
noncomputable def Am:Expr->Option Str|.Name x _=>some x|_=>none
noncomputable def YF:Expr->Option Str|.Name x _=>some x|.Attribute _ f _=>some f|_=>none
theorem hW(h:Am e=some x):∃p,e=.Name x p:=by cases e with|Name=>cases h;exact⟨_,rfl⟩|_=>exact nn h
def isOw(c:Tc)(e:Expr):Bool:=(Am e).any c.ow.contains
def isDc(c:Tc)(e:Expr):Bool:=(YF e).any c.dc.contains
noncomputable def isS(x:Str):D->Bool|.str y=>y == x|_=>false
noncomputable def O3(g:Nat->Str):WZ->SK->List (Str×D)|x::l,i::is=>(x,.str<|g i)::O3 g l is|_,_=>[]
def cD(c:Tc):Const->Option D|.none=>some .aK|.bool b=>some (.bl b)|.int i=>some (.int i)|.str x=>(c.tx.lookup x).bind λd=>gd (isS x d) (some d)|_=>none
def unD:UnaryOp->Option (D->Y2)|.USub=>some C4|_=>none
def U1:Operator->Option (D->D->Y2)|.Add=>some aU|.Sub=>some ja|.Mult=>some uB|.Mod=>some hV|.FloorDiv=>some qy|_=>none
def Wc:CmpOp->Option (D->D->Y2)|.Lt=>some ltI|.LtE=>some vg|.Gt=>some Nc|.GtE=>some S5|.Eq=>some fI|.NotEq=>some gI|.Is=>some isND|.In=>some (inD false)|_=>none
abbrev my:=Expr->Option (M D)
abbrev EJ:=Expr->Option (M Bool)
noncomputable def tL(E:my):WM->Option (List<|M D)|[]=>some []|e::es=>(E e).bind λf=>(tL E es).bind λl=>some (f::l)
def tA(c:Tc)(E:my):Wz->WM->Option (List VP.Arg)|[],[]=>some []|false::fl,e::es=>(E e).bind λf=>(tA c E fl es).bind λl=>some (.val f::l)|true::fl,e::es=>(Am e).bind λx=>(slot c x).bind λj=>(tA c E fl es).bind λl=>some (.io j::l)|_,_=>none
noncomputable def tO(E:my):Option Expr->Option (Option<|M D)|none=>some none|some e=>(E e).bind λz=>some (some z)
def tR(c:Tc)(E:my)(e:Expr):Option (M D):=cond (isOw c e) ((Am e).bind λx=>(slot c x).bind λz=>some<|Ey z) (E e)
def vE(c:Tc)(E:my)(a b:Expr):Option (M D):=cond (isOw c a) ((Am a).bind λx=>(slot c x).bind λj=>(E b).bind λg=>some<|hJ j g) ((E a).bind λf=>(E b).bind λg=>cond (isDc c a) (some<|m2 ze f g)<|some<|m2 ah f g)
def tX(c:Tc)(E:my)(a b:Expr):Option (M D):=match b with|.Slice lo hi none _=>(E a).bind λf=>(tO E lo).bind λl=>(tO E hi).bind λh=>some (vh fH f l h)|.Slice _ _ _ _=>none|b=>vE c E a b
def tN(c:Tc)(E:my)(x:Str):WM->Option (M D)|[a]=>cond (x == "int") ((E a).bind λf=>some<|mF intD [f]) ((tR c E a).bind λf=>(cond (x == "len") (some cu)<|cond (x == "tuple") (some jb)<|cond (x == "list") (some dG)<|cond (x == "all") (some<|pX true)<|cond (x == "any") (some<|pX false)<|cond (x == "sum") (some DL)<|gd (x == "sorted")<|some qW).bind λg=>some<|m1 g f)|[a,b]=>cond (x == "isinstance") ((Am b).bind λk=>gd (XY c k)<|(tR c E a).bind λf=>(c.L.i.lookup k).bind λsu=>some<|m1 (aL su) f) (gd (x == "max")<|(E a).bind λf=>(E b).bind λg=>some<|mF maxD [f,g])|_=>none
def Qo(c:Tc)(E:my)(x:Str)(es:WM):Option (M D):=gd (XY c x) (match c.ds.lookup x with|some (fl,g)=>(tA c E fl es).bind λas=>some (aw g as)|none=>match c.ks.lookup x with|some (fl,g)=>(tA c E fl es).bind λas=>some (qL x g as)|none=>gd (c.L.b.contains x)<|tN c E x es)
def Q0b(c:Tc)(E:my)(x:Str):WM->Option (M D)|[]=>none|e::es=>Qo c E x (e::es)
def tM(c:Tc)(E:my)(o:Expr)(m:Str)(ap pos:Pos):WM->Option (M D)|[]=>none|e::es=>gd (ap.endLine == pos.line&&decide (es.length<20)) ((c.ms.lookup m).bind λq=>match q with| (k,fl,g)=>(E o).bind λfo=>(tA c E fl (e::es)).bind λas=>some<|qM k m g fo as)
def tK(E:my)(a:Expr):List CmpOp->WM->Option (M D)|[o],[b]=>(E a).bind λf=>(E b).bind λg=>(Wc o).bind λd=>some (m2 d f g)|[o,o'],[b,b']=>(E a).bind λf=>(E b).bind λg=>(E b').bind λh=>(Wc o).bind λd=>(Wc o').bind λd'=>some (FT d d' f g h)|_,_=>none
def Zr(B:EJ)(o:BoolOp):WM->Option (M Bool)|[]=>none|[a]=>B a|a::l=>(B a).bind λf=>(Zr B o l).bind λg=>match o with|.And=>some (mZ f g)|.Or=>some (Hf f g)
def Zs(E:my)(o:BoolOp):WM->Option (M D)|[]=>none|[a]=>E a|a::l=>(E a).bind λf=>(Zs E o l).bind λg=>match o with|.And=>some (qI f g)|.Or=>some (CU f g)
def tT(E:my):Nat->Expr->Option (M Bool)
|0,_=>none|n+1,e=>match e with
 |.UnaryOp o a _=>match o with
   |.Not=>(tT E n a).bind λz=>some (z8 z)|_=>none
  |.BoolOp o l _=>Zr (tT E n) o l|.Compare a os bs _=>(tK E a os bs).bind λz=>some (tB z)|.IfExp _ _ _ _=>none|e=>(E e).bind λz=>some (tB z)
def Zu(lb:Scope->Str->Bool)(c:Tc):WM->Option (List Nat)|[]=>some []|e::es=>(Am e).bind λx=>gd (lb c.sc x) ((Cy x c.N).bind λi=>(Zu lb c es).bind λl=>some (i::l))
def tG(lb:Scope->Str->Bool)(c:Tc):Expr->Option (List Nat×(D->M Unit))|.Name x _=>gd (lb c.sc x) ((Cy x c.N).bind λi=>some<|([i],aj i))|.Tuple es _ _=>(Zu lb c es).bind λl=>some ((l,dy l))|_=>none
noncomputable def isTup:Expr->Bool|.Tuple _ _ _=>true|_=>false
noncomputable def cv:Expr->Option (Expr×List Expr×Pos)|.Call g es [] p=>some (g,es,p)|_=>none
noncomputable def av:Expr->Option (Expr×Str×Pos)|.Attribute o m p=>some (o,m,p)|_=>none
noncomputable def o1:WM->Option Expr|[a]=>some a|_=>none
theorem J8(h:cv e=some (g,es,p)):e=.Call g es [] p:=by
 cases e with
 |Call _ _ ks=>cases ks with|nil=>cases h;rfl|_=>exact nn h
 |_=>exact nn h
theorem Q0a(h:av e=some (o,m,p)):e=.Attribute o m p:=by cases e with|Attribute=>cases h;rfl|_=>exact nn h
theorem KS(h:o1 es=some a):es=[a]:=by cases es with|nil=>exact nn h|cons _ l=>cases l with|nil=>cases h;rfl|_=>exact nn h
def tf(e:Expr):Option (Str×List Expr):=(cv e).bind λ(g,es,_)=>(Am g).bind λx=>some (x,es)
theorem th(h:tf e=some (x,es)):∃p pos,e=.Call (.Name x p) es [] pos:=ob h λ⟨g,Q0,p⟩ h1 h=>ob h λx h2 h=>by cases h;obtain⟨q,e⟩:=hW h2;exact⟨q,p,e ▸ J8 h1⟩
def W3(c:Tc)(E:my)(t:Bool)(e:Expr):Option (M<|List D):=match tf e with|some (x,[a])=>cond (x == "range") (gd (ME c x)<|(E a).bind λf=>some<|bF [f]) (cond (x == "reversed") (gd (ME c x)<|(E a).bind λz=>some<|CW z)<|cond (x == "enumerate") (gd (ME c x&&t)<|(E a).bind λf=>some<|qK [f])<|(E e).bind λz=>some<|cj z)|some (x,[a,b])=>cond (x == "zip") (gd (ME c x&&t)<|(E a).bind λf=>(E b).bind λg=>some<|uy [f,g]) ((E e).bind λz=>some<|cj z)|_=>(E e).bind λz=>some (cj z)
def Hi:Expr->List Str|.Name x _=>[x]|.Tuple es _ _=>es.filterMap Am|_=>[]
def gT:List Comprehension->List Str|[g]=>Hi g.target|_=>[]
def Zg(scope sc:Scope):Scope:={scope with names:=scope.names.map λ(n,k)=>if (k == NameKind.free&&sc.kind == .function&&sc.names.lookup n == some .cell) then(n,NameKind.cell) else(n,k)}
def kU(c:Tc)(scope:Scope)(ts:WZ):Tc:={c with N:=(c.N.map λx=>if ts.contains x then("?r" : Str) else x)++ts++[if c.N.contains "?a" then("?b" : Str) else "?a"],sc:=Zg scope c.sc}
noncomputable def YM(sc:Scope)(x:Str):Bool:=sc.names.lookup x == some .local
def okC(c:Tc)(scope:Scope)(ts:WZ)(js:SK):Bool:=(scope.kind == .function&&gQ c.sc.names scope.names c.N (kU c scope ts).N)&&(decide (kU c scope ts).N.Nodup&&js.all λj=>decide (c.N.length<=j)&&decide (j<c.N.length+ts.length))
def Cp(B:EJ):WM->Option (M Bool)|[]=>some (ret true)|[t]=>B t|_=>none
noncomputable def NY:WZ->Option Nat|[_]=>some 1|[_,_]=>some 2|[_,_,_]=>some 3|_=>none
theorem FN(h:NY l=some n):n=l.length:=by unfold NY at h;split at h<;>cases h<;>rfl
def Zv(c:Tc)(scope:Scope)(E E':my)(B:EJ)(elt:Expr):List Comprehension->Option (M D)
|[⟨tg,it,ifs,0⟩]=>(W3 c E (isTup tg) it).bind λi=>(tG YM (kU c scope<|Hi tg) tg).bind λq=>match q with
  | (js,gf)=>(Cp B ifs).bind λt=>(E' elt).bind λf=>(NY<|Hi tg).bind λn=>gd (okC c scope (Hi tg) js) (some<|az n i gf t f)
 |_=>none
def tE:Nat->Tc->my|0,_,_=>none|n+1,c,e=>match e with|.Name x _=>cond (XY c x) ((c.L.n.lookup x).bind λz=>some<|mC z) ((slot c x).bind λz=>some<|aa z)|.Constant k _ _=>(cD c k).bind λz=>some (mC z)|.BinOp a o b _=>(tE n c a).bind λf=>(tE n c b).bind λg=>(U1 o).bind λd=>some (m2 d f g)|.UnaryOp o a _=>(tE n c a).bind λf=>(unD o).bind λd=>some (m1 d f)|.BoolOp o l _=>Zs (tE n c) o l|.Compare a os bs _=>tK (tE n c) a os bs|.Subscript a b _=>tX c (tE n c) a b|.Tuple es _ _=>(tL (tE n c) es).bind λz=>some (bU z)|.List es _=>(tL (tE n c) es).bind λz=>some (d6 z)|.Attribute a f _=>(tE n c a).bind λg=>(c.L.f.lookup f).bind λcs=>some (m1 (aJ cs f) g)|.Call (.Name x _) es [] _=>Q0b c (tE n c) x es|.Call (.Attribute o m q) es [] p=>tM c (tE n c) o m q p es|.IfExp t a b _=>(tT (tE n c) n t).bind λg=>(tE n c a).bind λf=>(tE n c b).bind λh=>some (Rh g f h)|.ListComp e gs sc _=>Zv c sc (tE n c) (tE n<|kU c sc<|gT gs) (tT (tE n<|kU c sc<|gT gs) n) e gs|_=>none
noncomputable def isCmp:Expr->Bool|.Compare _ _ _ _=>true|.IfExp _ _ _ _=>true|.BoolOp _ _ _=>true|.UnaryOp _ _ _=>true|_=>false
noncomputable def isLC:Expr->Bool|.ListComp _ _ _ _=>true|_=>false
section
variable{X:Cx}{EX:XE}{c:Tc}{E:my}{B:EJ}
theorem isTup_ok(h:isTup g=true):∃es k p,g=.Tuple es k p:=by cases g with|Tuple=>exact⟨_,_,_,rfl⟩|_=>exact fb h
end
def Hg(S:Stmt->Option (M Fl)):List Stmt->Option (M Fl)|[]=>some aX|s::l=>(S s).bind λf=>(Hg S l).bind λg=>some (ai f g)
noncomputable def SH(sc:Scope)(x:Str)(p:Pos):Expr->Bool|.ListComp _ _ s q=>sc.names.lookup x == some .local&&p.line == q.line&&!(s.names.any λ(n,k)=>n == x&&(k == .local||k == .cell))|_=>true
def tF(c:Tc)(E:my)(e:Expr):Option (M D):=match e with|.List es _=>(tL E es).bind λz=>some (d6 z)|.Dict [] [] _=>some (mC<|.fZ [] [])|e=>(tf e).bind λ(x,es)=>(o1 es).bind λa=>gd (x == "list" && ME c x) ((tR c E a).bind λf=>some<|m1 dG f)
def Vn(c:Tc)(E:my)(e:Expr):Expr->Option (M Fl)|.Name x p=>gd (CI c.sc x&&SH c.sc x p e) ((Cy x c.N).bind λi=>cond (c.ow.contains x) (cond (isLC e) ((E e).bind λf=>some<|fq i f)<|(tF c E e).bind λf=>some<|fq i f)<|(E e).bind λf=>some<|aM i f)|.Attribute o f _=>gd (!isLC e) ((Am o).bind λx=>(slot c x).bind λi=>(c.L.f.lookup f).bind λcs=>(E e).bind λg=>some<|dS i cs f g)|.Subscript o b _=>gd (!isLC e) ((Am o).bind λx=>(slot c x).bind λi=>(E b).bind λk=>(E e).bind λg=>cond (isDc c o) (some<|yL i k g)<|some<|i8 i k g)|_=>none
def Vo(c:Tc)(E:my)(e:Expr):WM->Option (M Fl)|[t]=>Vn c E e t|_=>none
def NO(c:Tc)(E:my)(e:Expr):Option (M Fl):=(cv e).bind λ(g,es,p)=>(av g).bind λ(o,m,ap)=>(o1 es).bind λa=>gd (m == "append" && ap.endLine == p.line) ((Am o).bind λx=>(slot c x).bind λi=>(E a).bind λf=>some<|jT i f)
def S0(c:Tc)(l:Nat)(f:M Fl):Option (M Fl):=match c.fz.lookup l with|some i=>some (wK i f)|none=>some f
def tS(c:Tc)(E:my)(B:EJ):Nat->Stmt->Option (M Fl)
|0,_=>none|n+1,s=>match s with
 |.Return (some e) p=>(E e).bind λf=>S0 c p.line (bV f)|.If t a b _=>(B t).bind λf=>(Hg (tS c E B n) a).bind λg=>(Hg (tS c E B n) b).bind λh=>some (iD f g h)|.Assign ts e p=>(Vo c E e ts).bind (S0 c p.line)|.For g e b [] _=>(W3 c E (isTup g) e).bind λi=>(tG CI c g).bind λq=>match q with
   | (_,gf)=>(Hg (tS c E B n) b).bind λf=>some (ip i gf f)
  |.While t b [] _=>(B t).bind λf=>(Hg (tS c E B n) b).bind λg=>some (pq f g)|.Expr e p=>(NO c E e).bind (S0 c p.line)|.Raise _ _ _=>some DC|_=>none
def GS(c:Tc):EJ:=tT (tE 32 c) 32
def W4(c:Tc):Stmt->Option (M Fl):=tS c (tE 32 c) (GS c) 32
noncomputable def Ui:Nat->List Stmt->List (List Stmt)|0,_=>[]|n+1,l=>l.flatMap λs=>match s with|.For _ _ b _ _=>b::Ui n b|.While _ b _ _=>Ui n b|.If _ a b _=>Ui n a++Ui n b|_=>[]
abbrev vk(c:Tc)(j:Nat):=∀f,Hg (W4 c) ((Ui 9<|bh c.st).getD j [])=some f->M Fl
abbrev Xf(c:Tc)(f:M Fl):Prop:=Hg (W4 c) (bh c.st)=some f
abbrev aF(c:Tc):=∀f,Xf c f->M Fl
end VS
end
section
set_option linter.all false
set_option maxRecDepth 100000
namespace WL
open PySem PySem.Spec PyProof.Rows L2 VP
abbrev MG:=Str->Option Value
def nJ(K:W.Frag)(a:Addr)(d:D):Prop:=∃(t:Bool)(ds:Zm)(aS:Array Value)(n:Nat),d=(if t then .tup ds else .lst ds)/\K.lookup a=some ⟨.type<|if t then "tuple" else "list",none,.seq aS n,#[]⟩/\aS.size<=sizeLine/\Paired VS.cR ds aS.toList
open Classical in
noncomputable def EA(K:W.Frag)(a:Addr):Y2:=if h:∃d,nJ K a d then some h.choose else none
structure Gb where
 prog:Program
 w:World
 K:W.Frag
 mg:MG
 base:Heap
inductive En where
 |pin (o:Obj) (d:Y2)|ow (d:D) (i:Nat)|dU (a:Addr)|jM (o:Obj)|eL (o:Obj)
abbrev Tm:=Addr->Option En
def upd(H:Tm)(a:Addr)(e:En):Tm:=λb=>if b=a then some e else H b
theorem aA:upd H a e a=some e:=Ue rfl
theorem aI(h:b≠a):upd H a e b=H b:=Zj h
def En.fast:En->Prop|.ow _ _=>False|.dU _=>False|_=>True
def En.soft(S:Addr->Prop):En->Prop|.pin _ _=>False|.jM _=>False|.dU b=>S b|_=>True
def Le(H H':Tm):Prop:=∀a e,H a=some e->e.fast->H' a=some e
theorem Le.refl:Le H H:=λ_ _ e _=>e
theorem Le.trans(a:Le H H1)(b:Le H1 H2):Le H H2:=λ_ _ e f=>b _ _ (a _ _ e f) f
def jD(H H':Tm):Prop:=∀a o d,H a=some (.pin o<|some d)->H' a=some (.pin o<|some d)
theorem Le.p(l:Le H H'):jD H H':=λ_ _ _ h=>l _ _ h trivial
def Rel(H:Tm)(v:Value):D->Prop|.aK=>v=.none|.bl b=>v=.bool b|.int i=>∃t,v=.int i t|.str x=>∃t,v=.str x t|d=>∃a o,v=.ref a/\H a=some (.pin o<|some d)
theorem Rel.p(l:jD H H'){d:D}(r:Rel H v d):Rel H' v d:=by cases d<;>first|exact r|exact Exists.imp (λ_=>Exists.imp λ_=>And.imp id<|l _ _ _) r
theorem Rel.le(l:Le H H'){d:D}(r:Rel H v d):Rel H' v d:=r.p l.p
abbrev aC(H:Tm):Zk->Zm->Prop:=Paired (Rel H)
theorem aC.p(l:jD H H')(r:aC H us ds):aC H' us ds:=Paired.mono (λ_ _=>Rel.p l) r
theorem aC.le(l:Le H H')(r:aC H us ds):aC H' us ds:=r.p l.p
def yU(H:Tm)(h:Heap)(dx:Addr)(ns:WZ)(ds:Zm):Prop:=∃fs:List (Str×Value),fs.map (·.1)=ns/\aC H (fs.map (·.2)) ds/\ns.length<=1000/\∃mA,h.Ns1 dx mA/\(∀f,fs.lookup f=mA f)/\PySem.Within mA ns
def LstAt(f:Bool)(h:Heap)(a:Addr)(aS:Array Value):Prop:=if f then PlainL h a aS else ∃n,h.get? a=some {cls:=.type "list",data:=.seq aS n}
theorem LstAt.plain(x:LstAt f h a aS):PlainL h a aS:=by cases f;obtain⟨n,e⟩:=x;exact⟨_,n,e,rfl,rfl,rfl⟩;exact x
theorem LstAt.at(x:LstAt f h a aS)(k:∀o,h.get? a=some o->h'.get? a=some o):LstAt f h' a aS:=by cases f;obtain⟨n,e⟩:=x;exact⟨n,k _ e⟩;obtain⟨o,n,e,c⟩:=x;exact⟨o,n,k _ e,c⟩
def iJ(g:Gb)(H:Tm)(h:Heap)(f:Bool)(a:Addr):D->Prop|.tup ds=>f=true/\ds.length<=sizeLine/\∃us:Zk,aC H us ds/\Mv h a us.toArray|.lst ds=>ds.length<=sizeLine/\∃us:Zk,aC H us ds/\LstAt f h a us.toArray|.fZ ks ds=>ks.length<=sizeLine/\(a == sysModules)=false/\∃(vs:List (Key×Value))(ep:Nat),vs.map (·.1)=ks/\aC H (vs.map (·.2)) ds/\h.DictAt (hU g.prog g.w) a vs ep|.ins c ns ds=>∃C dx,g.mg c=some (.ref C)/\h.get? a=some (W.instObj C dx)/\(if f then ∃o,H dx=some (.pin o<|some .aK) else H dx=some (.dU a))/\dx≠a/\yU H h dx ns ds|.aK=>True|_=>False
def mR(g:Gb)(H:Tm)(h:Heap)(a:Addr):En->Prop|.pin o d=>h.get? a=some o/\∀e,d=some e->iJ g H h true a e|.ow d i=>iJ g H h false a d/\d≠.aK|.dU b=>∃o,h.get? a=some o|.jM o=>∃sl,h.get? a=some {o with slots:=sl}|.eL o=>h.get? a=some o
def nI(g:Gb)(H:Tm)(h:Heap):Prop:=∀a e,H a=some e->mR g H h a e
section
variable{g:Gb}{H H':Tm}{h h':Heap}{a:Addr}
theorem iJ.at{d:D}(x:iJ g H h f a d)(n:d≠.aK):∃o,h.get? a=some o:=by cases d with|tup ds=>obtain⟨_,_,_,_,o,e,_⟩:=x;exact⟨o,e⟩|lst ds=>obtain⟨_,_,_,p⟩:=x;obtain⟨o,_,e,_⟩:=p.plain;exact⟨o,e⟩|fZ ks ds=>obtain⟨_,_,_,_,_,_,o,_,e,_⟩:=x;exact⟨o,e⟩|ins c ns ds=>obtain⟨_,_,_,e,_⟩:=x;exact⟨_,e⟩|aK=>exact absurd rfl n|_=>exact x.elim
theorem mR.at{e:En}(x:mR g H h a e):∃o,h.get? a=some o:=by cases e with|pin o d=>exact⟨o,x.1⟩|ow d i=>exact x.1.at x.2|dU b=>exact x|jM o=>obtain⟨_,e⟩:=x;exact⟨_,e⟩|eL o=>exact⟨o,x⟩
theorem nI.lt(x:nI g H h)(e:H a=some q):a<h.objs.size:=let ⟨_,z⟩:=(x a q e).at;tC z
theorem nI.fresh(x:nI g H h)(e:h.objs.size<=a):H a=none:=by cases q:H a with|none=>rfl|some u=>exact absurd (EU (x.lt q) e) (T2 _)
theorem iJ.mv{d:D}(x:iJ g H h f a d)(l:jD H H')(ha:∀o,h.get? a=some o->h'.get? a=some o)(hd:f=false->∀b,H b=some (.dU a)->H' b=some (.dU a))(hk:∀b o,(f=false/\H b=some (.dU a))\/(f=true/\∃q,H b=some (.pin q<|some .aK))->h.get? b=some o->h'.get? b=some o):iJ g H' h' f a d:=by
 cases d with
 |tup ds=>obtain⟨y,z,us,r,o,e,c⟩:=x;exact⟨y,z,us,r.p l,o,ha _ e,c⟩|lst ds=>obtain⟨z,us,r,p⟩:=x;exact⟨z,us,r.p l,p.at ha⟩|fZ ks ds=>obtain⟨z,y,vs,ep,k,r,o,es,e,c⟩:=x;exact⟨z,y,vs,ep,k,r.p l,o,es,ha _ e,c⟩|ins c ns ds=>
  obtain⟨C,dx,m,e,q,ne,fs,k,r,z,mA,n,w⟩:=x;have q':(f=false/\H dx=some (.dU a))\/(f=true/\∃q,H dx=some (.pin q<|some .aK)):=by cases f;exact .inl ⟨rfl,q⟩;exact .inr ⟨rfl,q⟩
  refine⟨C,dx,m,ha _ e,?_,ne,fs,k,r.p l,z,mA,n.at λo=>hk dx o q',w⟩;cases f;exact hd rfl _ q;obtain⟨o,q⟩:=q;exact⟨o,l _ _ _ q⟩
 |aK=>trivial|_=>exact x.elim
theorem nI.gen(ok:nI g H h)(S:Addr->Prop)(soft:∀x e,S x->H x=some e->e.soft S)(same:∀b,¬S b->H' b=H b)(k:∀b o,¬S b->h.get? b=some o->h'.get? b=some o) (new:jD H H'->∀a e,S a->H' a=some e->mR g H' h' a e):nI g H' h':=λa e q=>by
 have np:∀b o d,H b=some (.pin o d)->¬S b:=λb o d z s=>soft b _ s z;have lp:jD H H':=λb o d z=>(same b<|np b o _ z).trans z;by_cases s:S a;exact new lp a e s q;rw[same a s] at q;have x:=ok a e q;have mv:∀{f:Bool}{d:D},iJ g H h f a d->iJ g H' h' f a d:=λy=>y.mv lp (λo=>k a o s) (λ_ b z=>(same b λsb=>s<|soft b _ sb z).trans z) λb o z=>k b o λsb=>by
  rcases z with ⟨_,z⟩|⟨_,_,z⟩
  exact s<|soft b _ sb z;exact np b _ _ z sb
 cases e with|pin o d=>exact⟨k _ _ s x.1,λe z=>mv<|x.2 e z⟩|ow d i=>exact⟨mv x.1,x.2⟩|dU b=>obtain⟨o,z⟩:=x;exact⟨o,k _ _ s z⟩|jM o=>obtain⟨sl,z⟩:=x;exact⟨sl,k _ _ s z⟩|eL o=>exact k _ _ s x
end
structure Cx where
 g:Gb
 A:Around
 N:List Str
 env:Env
 outer:List Env
 stack:List Env
 fn:Bool
 calm:Bool
 io:Nat->Addr->Prop
 H₀:Tm
 n₀:Nat
 os:OsState
abbrev Cx.M(X:Cx):Model:=model X.g.prog X.g.w
structure Cx.Ok(X:Cx):Prop where
 mod:Mod X.g.K X.g.mg X.g.base
 kind:X.env.scope.kind=.function
 glob:X.env.globals=mainGlobals
 blt:X.env.builtins=builtinsNs
 inj:∀x y c,X.env.cells.lookup x=some c->X.env.cells.lookup y=some c->x=y
 has:∀x,(X.env.kindOf x=some .cell\/X.env.kindOf x=some .free)->∃c,X.env.cells.lookup x=some c
 hd:X.calm=true->X.A.handled=none
 frames:X.A.frames=some X.stack
 Zp:if X.fn then X.stack=X.env::X.outer/\X.env.frame=some X.env.locals else X.stack=X.outer
 Z3:∃fe ol L,X.stack=fe::ol/\fe.frame=some L/\X.env.frame=some L
 bs:∀b o,X.g.base.get? b=some o->X.H₀ b=some (.pin o<|EA X.g.K b)
 MD:X.g.base.objs.size<=X.n₀
 h0:∀b e,X.H₀ b=some e->b<X.n₀
 fr:∀e∈X.outer,e.scope.kind≠.module/\∃L o,e.frame=some L/\X.g.base.get? L=none/\X.H₀ L=some (.jM o)/\∀vs,o.data≠.fields vs
 lo:X.n₀<=X.env.locals
abbrev Sg:=Str->Option Value
def yW(X:Cx)(H:Tm)(i:Nat)(v:R7):Sl->Prop|.no=>True|.sh d=>∃u,v=some u/\Rel H u d|.ow d=>∃l,v=some (.ref l)/\H l=some (.ow d i)|.io d=>∃l,v=some (.ref l)/\H l=some (.ow d i)/\X.io i l
def Tg(n:Nat)(H:Tm)(ρ:ax):Prop:=∀l d i,H l=some (.ow d i)->i<n->(ρ[i]?=some (.ow d)\/ρ[i]?=some (.io d))/\∀l' d',H l'=some (.ow d' i)->l'=l
structure Inv(X:Cx)(σ:Sg)(H:Tm)(ρ:ax)(s:Shared):Prop where
 ok:X.Ok
 os:s.os=X.os
 bare:AllBare s.gens
 le:Le X.H₀ H
 nw:∀a e,H a=some e->X.H₀ a=none->X.n₀<=a\/∃o,e=.eL o
 a8:nI X.g H s.heap
 loc:∃m,s.heap.Ns X.env.locals m/\∀x u,mz X.env.scope x->σ x=some u->Look X.env s.heap m x u
 slot:∀i sl,ρ[i]?=some sl->∃x,X.N[i]?=some x/\yW X H i (σ x) sl
 tg:Tg X.N.length H ρ
 fl:H X.env.locals=none
 cell:∀x c,X.env.cells.lookup x=some c->(∃v,s.heap.IsCell c v)/\(H c=none\/X.fn=false/\∃o d,H c=some (.pin o d))
 len:ρ.length=X.N.length
section
variable{X:Cx}{σ:Sg}{H H' H1:Tm}{ρ bw:ax}{s:Shared}{h':Heap}
theorem yW.mv{sl:Sl}(x:yW X H i v sl)(l:jD H H')(ho:∀l d,H l=some (.ow d i)->H' l=some (.ow d i)):yW X H' i v sl:=by cases sl with|no=>trivial|sh d=>obtain⟨u,a,b⟩:=x;exact⟨u,a,b.p l⟩|ow d=>obtain⟨p,a,b⟩:=x;exact⟨p,a,ho _ _ b⟩|io d=>obtain⟨p,a,b,c⟩:=x;exact⟨p,a,ho _ _ b,c⟩
theorem Inv.bk(I:Inv X σ H ρ s)(b:Addr)(o:Obj)(e:X.g.base.get? b=some o):s.heap.get? b=some o:=by have q:=I.ok.bs b o e;exact(I.a8 b _<|I.le _ _ q trivial).1
theorem Inv.mod(I:Inv X σ H ρ s):Mod X.g.K X.g.mg X.g.base:=I.ok.mod
theorem Inv.sN(I:Inv X σ H ρ s):X.g.K.In s.heap:=I.mod.KH.keeps I.bk
theorem Inv.lt(I:Inv X σ H ρ s):X.env.locals<s.heap.objs.size:=let ⟨_,hn,_⟩:=I.loc;hn.lt
theorem Inv.UB(I:Inv X σ H ρ s)(h:s.heap.objs.size<=b):X.H₀ b=none:=by cases q:X.H₀ b with|none=>rfl|some e=>exact absurd (EU (I.ok.h0 b e q)<|YQ (YQ I.ok.lo<|Nat.le_of_lt I.lt) h) (T2 _)
theorem Inv.sz(I:Inv X σ H ρ s):X.n₀<=s.heap.objs.size:=YQ I.ok.lo (Nat.le_of_lt I.lt)
theorem Inv.We(I:Inv X σ H ρ s)(e:X.env.cells.lookup x=some c):c≠X.env.locals:=λz=>by obtain⟨⟨v,o,ho,hd⟩,_⟩:=I.cell x c e;obtain⟨m,⟨o',es,ep,Eu,Ai,_⟩,_⟩:=I.loc;rw[z,Eu] at ho;cases ho;rw[Ai] at hd;cases hd
theorem FunFrames.of(a8:nI g H h):∀{l:List Env},(∀e∈l,e.scope.kind≠.module/\∃L o,e.frame=some L/\g.base.get? L=none/\H L=some (.jM o)/\∀vs,o.data≠.fields vs)->h.FunFrames g.base l|[],_=>trivial|e::l,k=>by obtain⟨a,L,o,b,c,d,n⟩:=k e Uq;obtain⟨sl,z⟩:=a8 L _ d;exact⟨a,⟨L,_,b,c,z,n⟩,FunFrames.of a8 λe he=>k e<|WW _ he⟩
theorem Inv.SY(I:Inv X σ H ρ s):s.heap.FunFrames X.g.base X.outer:=FunFrames.of I.a8 λe he=>by obtain⟨a,L,o,b,c,d,n⟩:=I.ok.fr e he;exact⟨a,L,o,b,c,I.le _ _ d trivial,n⟩
theorem Inv.stack(I:Inv X σ H ρ s):s.heap.FunFrames X.g.base X.stack:=by have:=I.ok.Zp;split at this;obtain⟨e,hf⟩:=this;rw[e];obtain⟨m,hn,_⟩:=I.loc;exact .cons (by rw[I.ok.kind];decide) hf hn (Heap.get?_none_of_le<|YQ I.ok.MD I.ok.lo) I.SY;rw[this];exact I.SY
theorem Inv.Ep(I:Inv X σ H ρ s)(hb:b∈oz X.stack):H b=none\/∃o,H b=some (.jM o):=by
 obtain⟨e,he,hf⟩:=List.mem_filterMap.mp hb;have out:e∈X.outer->∃o,H b=some (.jM o):=λh=>by obtain⟨_,L,o,h1,_,h2,_⟩:=I.ok.fr e h;rw[hf] at h1;cases h1;exact⟨o,I.le _ _ h2 trivial⟩
 have:=I.ok.Zp;split at this;rw[this.1] at he;rcases List.mem_cons.mp he with rfl|he;rw[this.2] at hf;cases hf;exact .inl I.fl;exact .inr<|out he;rw[this] at he;exact .inr (out he)
theorem Inv.Bi(I:Inv X σ H ρ s)(k:∀b o,(b=X.env.locals\/∃x,X.env.cells.lookup x=some b)->s.heap.get? b=some o->∃sl,h'.get? b=some {o with slots:=sl}) : (∃m,h'.Ns X.env.locals m/\∀x u,mz X.env.scope x->σ x=some u->Look X.env h' m x u)/\∀x c,X.env.cells.lookup x=some c->∃v,h'.IsCell c v:=by
 have ck:∀x c v,X.env.cells.lookup x=some c->s.heap.IsCell c v->h'.IsCell c v:=λx c v e ⟨o,ho,hd⟩=>by obtain⟨_,q⟩:=k c o (.inr ⟨x,e⟩) ho;exact⟨_,q,hd⟩
 obtain⟨m,⟨o,es,ep,ho,r⟩,hl⟩:=I.loc;obtain⟨_,q⟩:=k _ o (.inl rfl) ho;refine⟨⟨m,⟨_,es,ep,q,r⟩,λx u v e=>(hl x u v e).imp id λ⟨a,c,b,z⟩=>⟨a,c,b,ck x c _ b z⟩⟩,λx c e=>?_⟩;obtain⟨⟨v,z⟩,_⟩:=I.cell x c e;exact⟨v,ck x c v e z⟩
theorem Inv.gen{t':Nat}(I:Inv X σ H ρ s)(S:Addr->Prop)(hS:∀a,S a->s.heap.objs.size<=a\/∃e,H a=some e/\e.soft S/\∀o,X.H₀ a≠some (.eL o))(same:∀b,¬S b->H' b=H b)
  (k:∀b o,¬S b->s.heap.get? b=some o->h'.get? b=some o) (new:jD H H'->∀a e,S a->H' a=some e->mR X.g H' h' a e)
  (hl:bw.length=ρ.length) (tg:Tg X.N.length H' bw) (sl:jD H H'->∀i t,bw[i]?=some t->∃t',ρ[i]?=some t'/\∀v,yW X H i v t'->yW X H' i v t) (ni:∀a e o,S a->H' a=some e->H a=some (.eL o)->X.n₀<=a\/∃o,e=.eL o):Inv X σ H' bw {s with heap:=h',toks:=t'}:=by
 have old:∀a,S a->∀e,H a=some e->e.soft S/\∀o,X.H₀ a≠some (.eL o):=λa sa e q=>by rcases hS a sa with z|⟨e',z,r⟩;rw[I.a8.fresh z] at q;cases q;rw[q] at z;cases z;exact r
 have lp:jD H H':=λb o d z=>(same b λsb=>(old b sb _ z).1).trans z;have nL:¬S X.env.locals:=λz=>by rcases hS _ z with z|⟨e,z,_⟩;exact absurd (EU I.lt z)<|T2 _;rw[I.fl] at z;cases z
 have nC:∀x c,X.env.cells.lookup x=some c->¬S c:=λx c e z=>by obtain⟨⟨v,q⟩,r⟩:=I.cell x c e;rcases hS _ z with z|⟨e,z,y,_⟩;exact absurd (EU q.lt z)<|T2 _;rcases r with r|⟨_,_,_,r⟩;rw[r] at z;cases z;rw[r] at z;cases z;exact y
 obtain⟨e1,e2⟩:=I.Bi (h':=h') (λb o hb q=>⟨o.slots,k b o (λsb=>hb.elim (λz=>nL<|z ▸ sb) λ⟨x,e⟩=>nC x b e sb) q⟩);refine⟨I.ok,I.os,I.bare,λa e q f=>?_,λa e q n=>?_,I.a8.gen S (λa e sa q=>(old a sa e q).1) same k new,e1,λi t ht=>?_,tg,(same _ nL).trans I.fl,λx c e=>⟨e2 x c e,?_⟩,hl.trans I.len⟩;have q':=I.le a e q f;refine(same a λsa=>?_).trans q';obtain⟨h1,h3⟩:=old a sa e q';cases e with|eL o=>exact h3 _ q|ow d i=>exact f|dU b=>exact f|_=>exact h1
 by_cases sa:S a;rcases hS a sa with z|⟨e',z,_⟩;exact .inl<|YQ I.sz z;rcases I.nw a e' z n with y|⟨o,rfl⟩;exact .inl y;exact ni a e o sa q z;exact I.nw a e (by rw[<-same a sa];exact q) n;obtain⟨t',h1,h2⟩:=sl lp i t ht;obtain⟨x,hx,hs⟩:=I.slot i t' h1;exact⟨x,hx,h2 _ hs⟩;rw[same c<|nC x c e];exact(I.cell x c e).2
theorem Inv.kept{t':Nat}(I:Inv X σ H ρ s)(k:∀b o,s.heap.get? b=some o->h'.get? b=some o):Inv X σ H ρ {s with heap:=h',toks:=t'}:=I.gen (λ_=>False) (λ_ z=>z.elim) (λ_ _=>rfl) (λb o _=>k b o) (λ_ _ _ z=>z.elim) rfl I.tg (λ_ i t h=>⟨t,h,λ_ z=>z⟩) λ_ _ _ z=>z.elim
theorem Le.lay(h:H a=none):Le H (upd H a e):=λb q z _=>(aI λy=>by subst y;rw[h] at z;cases z).trans z
theorem Tg.lay(x:Tg n H ρ)(h:H a=none)(he:∀d i,e=.ow d i->n<=i):Tg n (upd H a e) ρ:=λl d i hl hi=>by
 have ne:∀{l d},upd H a e l=some (.ow d i)->l≠a:=λhl z=>by subst z;rw[aA] at hl;cases hl;exact absurd (he _ _ rfl) (Nat.not_le_of_lt hi)
 have:=x l d i ((aI<|ne hl).symm.trans hl) hi;exact⟨this.1,λl' d' h'=>this.2 l' d'<|(aI<|ne h').symm.trans h'⟩
theorem Inv.lay{t':Nat}(I:Inv X σ H ρ s)(k:∀b o,s.heap.get? b=some o->h'.get? b=some o)(ha:s.heap.objs.size<=a)(new:jD H (upd H a e)->mR X.g (upd H a e) h' a e)(he:∀d i,e=.ow d i->X.N.length<=i:=by intro _ _ z;cases z) : Inv X σ (upd H a e) ρ {s with heap:=h',toks:=t'}/\Le H (upd H a e):=by have hn:=I.a8.fresh ha;refine⟨I.gen (·=a) (λb z=>.inl<|z ▸ ha) (λb z=>aI z) (λb o _=>k b o) (λl b q z y=>?_) rfl (I.tg.lay hn he) (λl i t h=>⟨t,h,λL z=>z.mv l λp d q=>(aI λy=>by subst y;rw[hn] at q;cases q).trans q⟩) λb e o z _ q=>(by subst z;rw[hn] at q;cases q),Le.lay hn⟩;subst z;rw[aA] at y;cases y;exact new l
theorem Inv.chg{t':Nat}{d:D}{x:Addr}(I:Inv X σ H ρ s)(hl:H l=some (.ow d i))(hx:x=l\/H x=some (.dU l))(ho:∀b,b≠l->b≠x->H' b=H b)(k:∀b o,b≠x->s.heap.get? b=some o->h'.get? b=some o)
  (new:jD H H'->∀e,H' l=some e->mR X.g H' h' l e) (YX:x≠l->∀e,H' x=some e->mR X.g H' h' x e) (hr:bw.length=ρ.length) (tg:Tg X.N.length H' bw) (sl:jD H H'->∀j t,bw[j]?=some t->∃t',ρ[j]?=some t'/\∀v,yW X H j v t'->yW X H' j v t) :
  Inv X σ H' bw {s with heap:=h',toks:=t'}:=by
 have hs:∀{a e},H a=some e->(∀o,e≠.eL o)->∀o,X.H₀ a≠some (.eL o):=λq n o z=>by have:=I.le _ _ z trivial;rw[q] at this;cases this;exact n _ rfl
 refine I.gen (λb=>b=l\/b=x) (λb z=>.inr ?_) (λb z=>ho b (λy=>z<|.inl y) λy=>z<|.inr y) (λb o z=>k b o λy=>z<|.inr y) (λlp b e z q=>?_) hr tg sl λb e o z _ q=>?_;have h1:∃e,H l=some e/\En.soft (λb=>b=l\/b=x) e/\∀o,X.H₀ l≠some (.eL o):=⟨_,hl,trivial,hs hl (by intro _ z;cases z)⟩;rcases z with rfl|rfl;exact h1;rcases hx with rfl|z;exact h1;exact⟨_,z,.inl rfl,hs z (by intro _ z;cases z)⟩;by_cases y:b=l;subst y;exact new lp e q;rcases z with z|z;exact absurd z y;subst z;exact YX y e q;rcases z with rfl|rfl;rw[hl] at q;cases q;rcases hx with rfl|z;rw[hl] at q;cases q;rw[z] at q;cases q
theorem Inv.tok(I:Inv X σ H ρ s)(t:Nat):Inv X σ H ρ {s with toks:=t}:=I.kept λ_ _ e=>e
end
end WL
end
section
set_option linter.all false
set_option maxRecDepth 100000
abbrev Vj(X:WL.Cx)(e:PySem.Expr)(l:List PySem.Expr):Prop:=PySem.starEach (e::l) X.env=(false,PySem.eval e X.env)::PySem.starEach l X.env
abbrev QO(X:WL.Cx)(p:PySem.Pos)(l:List PySem.Expr):Prop:=(PySem.backTo p<|PySem.starEach l X.env).any (·.1)=false
namespace WL
open PySem PySem.Spec PyProof.Rows L2 VP
section
variable{X:Cx}{σ:Sg}{H H' H1:Tm}{ρ bw:ax}{s:Shared}{h h':Heap}{g:Gb}{d d':D}
theorem Rel.mk(x:iJ g H h f a d)(n:d≠.aK)(e:H' a=some (.pin o<|some d)):Rel H' (.ref a) d:=by cases d with|aK=>exact absurd rfl n|tup|lst|fZ|ins=>exact⟨_,_,rfl,e⟩|_=>exact x.elim
theorem Inv.fz(I:Inv X σ H ρ s)(hl:H l=some (.ow d i))(hr:ρ[i]?=some (.ow d)\/X.N.length<=i):∃H' o,Inv X σ H' (ρ.set i<|.sh d) s/\Le H H'/\H' l=some (.pin o<|some d)/\∀b d j,H b=some (.ow d j)->b≠l->H' b=some (.ow d j):=by
 obtain⟨ob,nn⟩:=I.a8 l _ hl;obtain⟨o,ho⟩:=ob.at nn;obtain⟨x,ox,hx,hox,fx⟩:∃x ox,(x=l\/H x=some (.dU l))/\s.heap.get? x=some ox/\∀H',jD H H'->(∃o,H' x=some (.pin o<|some .aK))\/x=l->iJ X.g H' s.heap true l d:=by cases d with|ins c ns ds=>obtain⟨C,dx,m,e,q,ne,fs,k,r,z,mA,n,w⟩:=ob;obtain⟨od,_,_,ho,_⟩:=id n;exact⟨dx,od,.inr q,ho,λH' lp hq=>⟨C,dx,m,e,hq.elim id λz=>absurd z ne,ne,fs,k,r.p lp,z,mA,n,w⟩⟩|tup ds=>cases ob.1|lst ds=>obtain⟨z,us,r,c⟩:=ob;exact⟨l,o,.inl rfl,ho,λH' lp _=>⟨z,us,r.p lp,c.plain⟩⟩|fZ ks ds=>obtain⟨z,y,vs,ep,k,r,c⟩:=ob;exact⟨l,o,.inl rfl,ho,λH' lp _=>⟨z,y,vs,ep,k,r.p lp,c⟩⟩|aK=>exact absurd rfl nn|_=>exact ob.elim
 have el:upd (upd H x<|.pin ox<|some .aK) l (.pin o<|some d) l=_:=aA;have ex:x≠l->upd (upd H x<|.pin ox<|some .aK) l (.pin o<|some d) x=_:=λz=>(aI z).trans aA;have eo:∀b,b≠l->b≠x->upd (upd H x<|.pin ox<|some .aK) l (.pin o<|some d) b=H b:=λb z y=>(aI z).trans<|aI y;have back:∀b d' j,H b=some (.ow d' j)->b≠l->upd (upd H x<|.pin ox<|some .aK) l (.pin o<|some d) b=some (.ow d' j):=λb d' j q h1=>(eo b h1 λz=>by subst z;rcases hx with z|z;exact h1 z;rw[q] at z;cases z).trans q;refine⟨upd (upd H x<|.pin ox<|some .aK) l (.pin o<|some d),o,?_,λa e q f=>?_,el,back⟩<;>generalize upd (upd H x<|.pin ox<|some .aK) l (.pin o<|some d)=H2 at el ex eo back;have nx:∀{b:Addr}{d:D}{j:Nat},H2 b=some (.ow d j)->b≠l/\b≠x/\H b=some (.ow d j):=λ{b d j} q=>by
  have h1:b≠l:=λz=>by subst z;rw[el] at q;cases q
  have h2:b≠x:=λz=>by subst z;rw[ex h1] at q;cases q
  exact⟨h1,h2,(eo b h1 h2) ▸ q⟩
 have uq:∀l' d' j,j<X.N.length->H l'=some (.ow d' j)->l'≠l->j≠i:=λl' d' j hj q n z=>by subst z;exact n ((I.tg l d j hl hj).2 _ _ q)
 refine I.chg (t':=s.toks) hl hx eo (λ_ _ _ z=>z) (λlp e q=>?_) (λz e q=>?_) ZA (λl' d' j q hj=>?_) λlp j t ht=>?_;rw[el] at q;cases q;have hq:(∃o,H2 x=some (.pin o<|some .aK))\/x=l:=(Classical.em<|x=l).elim .inr λz=>.inl ⟨_,ex z⟩;exact⟨ho,λe z=>by cases z;exact fx H2 lp hq⟩;rw[ex z] at q;cases q;exact⟨hox,λe z=>by cases z;trivial⟩;obtain⟨a,b,c⟩:=nx q;rw[wD<|RU<|uq _ _ _ hj c a];exact⟨(I.tg _ _ _ c hj).1,λl2 d2 q2=>(I.tg _ _ _ c hj).2 _ _ (nx q2).2.2⟩;have hj:j<X.N.length:=by rw[<-I.len];simpa using (List.getElem?_eq_some_iff.mp ht).1
 by_cases e:j=i;subst e;rcases hr with hr|hr;rw[U4 (List.getElem?_eq_some_iff.mp hr).1] at ht;cases ht;refine⟨_,hr,λv ⟨l',a,b⟩=>⟨.ref l,?_,Rel.mk ob nn el⟩⟩;rw[<-(I.tg l d j hl hj).2 _ _ b];exact a;exact absurd hj<|Nat.not_lt.mpr hr;rw[wD<|RU e] at ht;exact⟨t,ht,λv z=>z.mv lp λp d2 q=>back _ _ _ q λz=>by subst z;rw[hl] at q;cases q;exact e rfl⟩;have h1:a≠l:=λz=>by subst z;rw[hl] at q;cases q;exact f
 refine(eo a h1 λz=>?_).trans q;subst z;rcases hx with z|z;exact h1 z;rw[q] at z;cases z;exact f
def yJ(d:D):Sl->Sl|.ow _=>.ow d|.io _=>.io d|s=>s
theorem jo(hr:ρ[i]?=some t):cN i d ρ=ρ.set i (yJ d t):=by
 unfold cN;rw[hr];have:∀t,ρ[i]?=some t->ρ=ρ.set i t:=λt h=>by obtain⟨h1,h2⟩:=List.getElem?_eq_some_iff.mp h;rw[<-h2,List.set_getElem_self]
 cases t<;>first|rfl|exact this _ hr
theorem kO:(cN i d ρ).length=ρ.length:=by unfold cN;split<;>simp
theorem nB(h:j≠i):(cN i d ρ)[j]?=ρ[j]?:=by unfold cN;split<;>simp[List.getElem?_set_ne<|Ne.symm h]
theorem Inv.wr{t':Nat}{x:Addr}(I:Inv X σ H ρ s)(hl:H l=some (.ow d i))(hx:x=l\/H x=some (.dU l))(k:∀b o,b≠x->s.heap.get? b=some o->h'.get? b=some o)(hxx:∃o,h'.get? x=some o)(new:jD H (upd H l<|.ow d' i)->iJ X.g (upd H l<|.ow d' i) h' false l d') (nn:d'≠.aK):Inv X σ (upd H l<|.ow d' i) (cN i d' ρ) {s with heap:=h',toks:=t'}/\Le H (upd H l<|.ow d' i):=by
 have uq:∀{l' d' j},j<X.N.length->H l'=some (.ow d' j)->l'≠l->j≠i:=λ{l' d' j} hj q n z=>by subst z;exact n ((I.tg l d j hl hj).2 _ _ q)
 refine⟨I.chg hl hx (λb z _=>aI z) k (λlp e q=>?_) (λz e q=>?_) kO (λl' d2 j q hj=>?_) λlp j t ht=>?_,λa e q f=>(aI λz=>?_).trans q⟩;rw[aA] at q;cases q;exact⟨new lp,nn⟩;rw[aI z] at q;rcases hx with y|y;exact absurd y z;rw[y] at q;cases q;exact hxx;by_cases e:l'=l;subst e;rw[aA] at q;cases q;obtain⟨h1,h2⟩:=I.tg l' d i hl hj;refine⟨?_,λl2 d2 q2=>Classical.byContradiction λn=>n<|h2 l2 d2<|(aI n).symm.trans q2⟩;have hi:i<ρ.length:=by rw[I.len];exact hj
 rcases h1 with h1|h1<;>rw[jo h1,U4 hi];exact .inl rfl;exact .inr rfl;rw[aI e] at q;obtain⟨h1,h2⟩:=I.tg l' d2 j q hj;rw[nB<|uq hj q e];refine⟨h1,λl2 d3 q2=>?_⟩;by_cases e2:l2=l;subst e2;rw[aA] at q2;cases q2;exact absurd rfl<|uq hj q e;exact h2 l2 d3<|(aI e2).symm.trans q2;have hj:j<X.N.length:=by rw[<-I.len,<-kO];exact(List.getElem?_eq_some_iff.mp ht).1
 by_cases e:j=i;subst e;obtain⟨h1,h2⟩:=I.tg l d j hl hj;have hi:j<ρ.length:=by rw[I.len];exact hj
 rcases h1 with h1|h1<;>rw[jo h1,U4 hi] at ht<;>cases ht;exact⟨_,h1,λv ⟨l',a,b⟩=>⟨l,by rw[<-h2 _ _ b];exact a,aA⟩⟩;exact⟨_,h1,λv ⟨l',a,b,c⟩=>by have z:=h2 _ _ b;subst z;exact⟨_,a,aA,c⟩⟩;rw[nB e] at ht;exact⟨t,ht,λv z=>z.mv lp λp d2 q=>(aI λz=>by subst z;rw[hl] at q;cases q;exact e rfl).trans q⟩;subst z;rw[hl] at q;cases q;exact f
theorem Inv.YJ(I:Inv X σ H ρ s)(h:X.N[i]?=some x):i<ρ.length:=by rw[I.len];exact(List.getElem?_eq_some_iff.mp h).1
theorem Inv.give(I:Inv X σ H ρ s)(hf:free ρ[i]?=true):∃H' t,Inv X σ H' (ρ.set i t) s/\Le H H'/\(t=.no\/∃d,t=.sh d)/\∀b d j,H b=some (.ow d j)->j≠i->H' b=some (.ow d j):=by
 cases q:ρ[i]? with
 |none=>rw[q] at hf;cases hf|some t=>
  have e:ρ=ρ.set i t:=by obtain⟨h1,h2⟩:=List.getElem?_eq_some_iff.mp q;rw[<-h2,List.set_getElem_self]
  cases t with
  |no=>exact⟨H,.no,e ▸ I,Le.refl,.inl rfl,λ_ _ _ z _=>z⟩|sh d=>exact⟨H,.sh d,e ▸ I,Le.refl,.inr ⟨d,rfl⟩,λ_ _ _ z _=>z⟩|io d=>rw[q] at hf;cases hf|ow d=>
   obtain⟨x,hx,_⟩:=I.slot i _ q;by_cases h:∃l d',H l=some (.ow d' i);obtain⟨l,d',h⟩:=h;have hi:i<X.N.length:=(List.getElem?_eq_some_iff.mp hx).1;have h1:=(I.tg l d' i h hi).1;rw[q] at h1;have h2:d=d':=by rcases h1 with z|z<;>cases z;rfl
   subst h2;obtain⟨H',o,I',l',_,bk⟩:=I.fz h<|.inl q;exact⟨H',_,I',l',.inr ⟨d,rfl⟩,λb e j z n=>bk b e j z λy=>by subst y;rw[h] at z;cases z;exact n rfl⟩;refine⟨H,.no,?_,Le.refl,.inl rfl,λ_ _ _ z _=>z⟩;refine I.gen (t':=s.toks) (λ_=>False) (λ_ z=>z.elim) (λ_ _=>rfl) (λ_ _ _ z=>z) (λ_ _ _ z=>z.elim) ZA (λl d j hl hj=>?_) (λ_ j t ht=>?_) λ_ _ _ z=>z.elim;have:j≠i:=λz=>h ⟨l,d,z ▸ hl⟩;rw[wD<|RU this];exact I.tg l d j hl hj;by_cases z:j=i;subst z;rw[U4 (List.getElem?_eq_some_iff.mp q).1] at ht;cases ht;exact⟨_,q,λ_ _=>trivial⟩;rw[wD<|RU z] at ht;exact⟨t,ht,λ_ z=>z⟩
def Sg.put(σ:Sg)(x:Str)(u:Value):Sg:=λy=>if y=x then some u else σ y
theorem Q12{Q:Unit->Shared->Prop}{E:Wg}{M:Model}{A:Around}(I:Inv X σ H ρ s)(hx:Loc X.env.scope x)(hf:X.fn=true\/X.env.scope.names.lookup x=some .local)(h:∀a h' tk,Heap.SameBut a s.heap h'->H a=none->(∃m,h'.Ns X.env.locals m/\∀y v,mz X.env.scope y->σ.put x u y=some v->Look X.env h' m y v)->(∀y c,X.env.cells.lookup y=some c->∃v,h'.IsCell c v)->Q () {s with heap:=h',toks:=tk}):wpAny M A (storeName X.env x u) Q E s:=by
 obtain⟨m,hn,hl⟩:=I.loc;have Yb:(X.env.scope.kind == .class||(X.env.scope.kind == .module&&X.env.locals != X.env.globals))=false:=by rw[I.ok.kind];rfl
 have at_:∀{y v},σ.put x u y=some v->(y=x/\v=u)\/(y≠x/\σ y=some v):=λ{y v} q=>by unfold Sg.put at q;split at q;exact .inl ⟨‹_›,(RY q).symm⟩;exact .inr ⟨‹_›,q⟩
 rcases hx with hk|hk;refine wpAny_storeName_local hk hn (λh' Fo hs=>h _ h' _ hs I.fl ⟨_,Fo,λy v vs q=>?_⟩ λy c e=>?_) Yb;rcases at_ q with ⟨rfl,rfl⟩|⟨ne,q⟩
 exact .inl ⟨hk,ZA⟩;rcases hl y v vs q with ⟨k,e⟩|⟨k,c,e,z⟩
 exact .inl ⟨k,by simp[ne,e]⟩;exact .inr ⟨k,c,e,z.sameBut hs<|I.We e⟩;obtain⟨⟨v,z⟩,_⟩:=I.cell y c e;exact⟨v,z.sameBut hs<|I.We e⟩;have ve:X.fn=true:=hf.elim id λz=>by rw[z] at hk;cases hk
 obtain⟨c,hc⟩:=I.ok.has x<|.inl hk;obtain⟨⟨w',z⟩,r⟩:=I.cell x c hc;have hcn:H c=none:=r.elim id λr=>by rw[ve] at r;cases r.1
 refine wpAny_storeName_cell I.ok.kind hk hc z λh' sJ hs=>h c h' s.toks hs hcn ⟨m,hn.sameBut hs (RU<|I.We hc),λy v vs q=>?_⟩ λy c' e=>?_;rcases at_ q with ⟨rfl,rfl⟩|⟨ne,q⟩
 exact .inr ⟨.inl hk,c,hc,sJ⟩;rcases hl y v vs q with q|⟨k,c',e,z⟩;exact .inl q;exact .inr ⟨k,c',e,z.sameBut hs λe'=>ne<|I.ok.inj _ _ _ e<|e' ▸ hc⟩;by_cases e':c'=c;subst e';exact⟨_,sJ⟩;obtain⟨⟨v,z⟩,_⟩:=I.cell y c' e;exact⟨v,z.sameBut hs e'⟩
theorem Inv.store{Q:Unit->Shared->Prop}{E:Wg}{M:Model}{A:Around}{sl:Sl}(I:Inv X σ H ρ s)(hN:X.N.Nodup)(hi:X.N[i]?=some x)(hx:Loc X.env.scope x)(hf:X.fn=true\/X.env.scope.names.lookup x=some .local)(hr:free ρ[i]?=true)(hv:(∃d,sl=.sh d/\Rel H u d)\/∃d l j,sl=.ow d/\u=.ref l/\H l=some (.ow d j)/\X.N.length<=j) (h:∀s' H',Inv X (σ.put x u) H' (ρ.set i sl) s'->Le H H'->Q () s'):wpAny M A (storeName X.env x u) Q E s:=by
 have Ak:=I.YJ hi;obtain⟨H1,t,I1,l1,ht,bk⟩:=I.give hr;have it:(ρ.set i t)[i]?=some t:=U4 Ak;have hiN:i<X.N.length:=(List.getElem?_eq_some_iff.mp hi).1;have noT:∀l d,H1 l≠some (.ow d i):=λl d q=>by have:=(I1.tg l d i q hiN).1;rw[it] at this;rcases ht with rfl|⟨_,rfl⟩<;>rcases this with z|z<;>cases z
 obtain⟨H2,l2,e2,hs,nT,d2⟩:∃H2,Le H1 H2/\(∀b,H2 b=H1 b\/∃d j,H1 b=some (.ow d j)/\X.N.length<=j/\H2 b=some (.ow d i))/\yW X H2 i (some u) sl/\(∀l d,H2 l=some (.ow d i)->sl=.ow d/\u=.ref l)/\∀b c,H1 b=some (.dU c)->H2 b=some (.dU c):=by
  rcases hv with ⟨d,rfl,r⟩|⟨d,l,j,rfl,rfl,q,hj⟩
  exact⟨H1,Le.refl,λb=>.inl rfl,⟨u,rfl,r.le l1⟩,λl d q=>absurd q (noT l d),λ_ _ z=>z⟩;have q1:=bk l d j q<|OZ<|EU hiN hj;refine⟨upd H1 l (.ow d i),λa e z f=>(aI λy=>by subst y;rw[q1] at z;cases z;exact f).trans z,λb=>?_,⟨l,rfl,aA⟩,λl' d' z=>?_,λb c z=>(aI λy=>by subst y;rw[q1] at z;cases z).trans z⟩;by_cases y:b=l;subst y;exact .inr ⟨d,j,q1,hj,aA⟩;exact .inl<|aI y;by_cases y:l'=l;subst y;rw[aA] at z;cases z;exact⟨rfl,rfl⟩;rw[aI y] at z;exact absurd z (noT l' d')
 have un2:∀b,H1 b=none->H2 b=none:=λb z=>by rcases e2 b with y|⟨_,_,y,_⟩;rw[y];exact z;rw[z] at y;cases y
 refine Q12 I1 hx hf λa h' tk sb aN hm hc=>?_;have ok1:nI X.g H1 h':=I1.a8.gen (·=a) (λx e z q=>by subst z;rw[aN] at q;cases q) (λ_ _=>rfl) (λb o z q=>(sb.2 b z).trans q) λ_ b e z q=>by subst z;rw[aN] at q;cases q
 have ok2:nI X.g H2 h':=λb e q=>by
  have mv:∀{f:Bool}{d:D},iJ X.g H1 h' f b d->iJ X.g H2 h' f b d:=λy=>y.mv l2.p (λ_ z=>z) (λ_ c z=>d2 c b z) λ_ _ _ z=>z;rcases e2 b with y|⟨d,j,y,_,y2⟩;rw[y] at q;have x:=ok1 b e q;cases e with|pin o d=>exact⟨x.1,λe z=>mv<|x.2 e z⟩|ow d i=>exact⟨mv x.1,x.2⟩|_=>exact x
  rw[y2] at q;cases q;have x:=ok1 b _ y;exact⟨mv x.1,x.2⟩
 refine h _ H2 ⟨I1.ok,I1.os,I1.bare,I1.le.trans l2,λb e q n=>?_,ok2,hm,λj t2 Wr=>?_,λl d j q hj=>?_,un2 _ I1.fl,λy c e=>?_,by rw[List.length_set];exact I.len⟩<|l1.trans l2;rcases e2 b with y|⟨d,j,y,_⟩;exact I1.nw b e (y ▸ q) n;exact .inl<|(I1.nw b _ y n).elim id λ⟨_,z⟩=>nomatch z;by_cases z:j=i;subst z;rw[U4 Ak] at Wr;cases Wr;exact⟨x,hi,by unfold Sg.put;rw[Ue rfl];exact hs⟩;rw[wD<|RU z] at Wr;obtain⟨y,hy,hv⟩:=I1.slot j t2 (by rw[wD<|RU z];exact Wr);refine⟨y,hy,?_⟩;unfold Sg.put;rw[Zj<|show ¬y=x from λe=>z<|uD hN hy<|e ▸ hi];refine hv.mv l2.p λp d q=>?_;have hj:j<X.N.length:=(List.getElem?_eq_some_iff.mp hy).1;rcases e2 p with y|⟨d',j',y,Yk,_⟩;rw[y];exact q;rw[q] at y;cases y;exact absurd hj<|Nat.not_lt.mpr Yk;by_cases z:j=i;subst z;obtain⟨y,y2⟩:=nT l d q;rw[U4 Ak,y];refine⟨.inl rfl,λl' d' q'=>?_⟩;have:=(nT l' d' q').2;rw[y2] at this;cases this;rfl;have old:∀l d,H2 l=some (.ow d j)->H1 l=some (.ow d j):=λl d q=>by rcases e2 l with y|⟨_,_,_,_,y⟩;rw[<-y];exact q;rw[y] at q;cases q;exact absurd rfl z
 obtain⟨a1,a2⟩:=I1.tg l d j (old l d q) hj;rw[wD<|RU z] at a1 ⊢;exact⟨a1,λl' d' q'=>a2 l' d'<|old _ _ q'⟩;obtain⟨⟨v,r1⟩,r2⟩:=I1.cell y c e;refine⟨hc y c e,r2.imp (un2 c) λ⟨a,o,d,b⟩=>⟨a,o,d,l2 _ _ b trivial⟩⟩
end
end WL
end
section
set_option linter.all false
set_option maxRecDepth 100000
namespace WL
open PySem PySem.Spec PyProof.Rows L2 VP
def Out{α:Type}:Res α->(α->ax->Prop)->(Xn->ax->Prop)->Prop|.ok a r,P,_=>P a r|.exc x r,_,E=>E x r|.no,_,_=>False
theorem Out.Q1{α β:Type}{f:M α}{g:α->M β}{P:β->ax->Prop}(h:Out (Q1 f g r) P E):Out (f r) (λa r'=>Out (g a r') P E) E:=by unfold VP.Q1 at h;cases q:f r with|_=>rw[q] at h;exact h
theorem Out.mono{α:Type}{r:Res α}{P P':α->ax->Prop}(h:Out r P E)(hP:∀a r,P a r->P' a r)(hE:∀x r,E x r->E' x r):Out r P' E':=by cases r with|ok a r=>exact hP _ _ h|exc x r=>exact hE _ _ h|no=>exact h
theorem Out.opt{α:Type}{o:Option α}{P:α->ax->Prop}(h:Out (opt o r) P E):∃a,o=some a/\P a r:=by cases o with|none=>exact h.elim|some a=>exact⟨a,rfl,h⟩
abbrev Rl(α β:Type):=Tm->Shared->β->α->Prop
def HK(n:Nat)(H:Tm)(h:Heap)(e:Addr)(c:Value)(dx:QB)(v:R7):Prop:=∃vs sl,h.get? e=some ⟨c,dx,.fields vs,sl⟩/\vs[2]?=some .none/\H e=none/\n<=e/\match v with|none=>vs[1]?=some .none|some v=>∃T ot ts,vs[1]?=some (.ref T)/\T≠e/\n<=T/\H T=none/\h.get? T=some ot/\ot.data=.fields ts/\ts[3]?=some v
def RT(g:Gb)(n:Nat):Rl Xn Value:=λH s v x=>∃e C dx,v=.ref e/\g.mg x.cls=some (.ref C)/\((dx=none/\x.ns=[]/\x.vs=[])\/∃b o,dx=some b/\H b=some (.pin o<|some .aK)/\yU H s.heap b x.ns x.vs)/\∃w,HK n H s.heap e (.ref C) dx w
abbrev XR(X:Cx):Rl Xn Value:=RT X.g X.n₀
section
variable{α β γ:Type}
def OK(X:Cx)(σ:Sg)(H:Tm)(R:Rl α β)(Q:β->Shared->Prop):α->ax->Prop:=λa bw=>∀s' H' b,Inv X σ H' bw s'->Le H H'->R H' s' b a->Q b s'
def lh(X:Cx)(H:Tm)(R:Rl α β)(Q:β->Shared->Prop):α->ax->Prop:=λa bw=>∀s' eD H' b,Inv X eD H' bw s'->Le H H'->R H' s' b a->Q b s'
theorem OK.le{R:Rl α β}{a:α}(l:Le H H1)(q:OK X σ H R Q a r):OK X σ H1 R Q a r:=λs' H' b I l' z=>q s' H' b I (l.trans l') z
theorem lh.le{R:Rl α β}{a:α}(l:Le H H1)(q:lh X H R Q a r):lh X H1 R Q a r:=λs' eD H' b I l' z=>q s' eD H' b I (l.trans l') z
theorem lh.x{R:Rl α β}{a:α}(q:lh X H R Q a r):OK X σ H R Q a r:=λs' H' b I l' z=>q s' σ H' b I l' z
def WP(X:Cx)(R:Rl α β)(t:Sem β)(f:M α):Prop:=∀s σ H ρ Q E,Inv X σ H ρ s->Out (f ρ) (OK X σ H R Q) (OK X σ H (XR X) E)->wpAny X.M X.A t Q E s
def V8(X:Cx)(R:Rl α β)(t:Sem β)(f:M α):Prop:=∀s σ H ρ Q E,Inv X σ H ρ s->Out (f ρ) (lh X H R Q) (lh X H (XR X) E)->wpAny X.M X.A t Q E s
theorem WP.Q1{R:Rl α β}{f:M α}{t:Sem β}{k:α->M γ}{P:γ->ax->Prop}(h:WP X R t f)(I:Inv X σ H ρ s)(o:Out (Q1 f k ρ) P E')(hE:∀x r,E' x r->OK X σ H (XR X) E x r)(c:∀s' H' bw b a,Inv X σ H' bw s'->Le H H'->R H' s' b a->Out (k a bw) P E'->Q b s'):wpAny X.M X.A t Q E s:=
 h s σ H ρ Q E I (o.Q1.mono (λa r q s' H' b I' l r'=>c s' H' r b a I' l r' q) hE)
theorem WP.mono{R R':Rl α β}{f:M α}{t:Sem β}(h:WP X R t f)(k:∀s σ H ρ b a (Q:Prop),Inv X σ H ρ s->R H s b a->(∀H',Inv X σ H' ρ s->Le H H'->R' H' s b a->Q)->Q):WP X R' t f:=λs σ H ρ Q E I o=>h s σ H ρ Q E I (o.mono (λa r q s' H' b I' l r'=>k s' σ H' r b a _ I' r' λH2 I2 l2 r2=>q s' H2 b I2 (l.trans l2) r2) λ_ _ q=>q)
end
def RV:Rl D Value:=λH _ v d=>Rel H v d
def RW:Rl D Value:=λH _ v d=>Rel H v d\/∃l i,v=.ref l/\H l=some (.ow d i)
def RF(X:Cx):Rl D Value:=λH _ v d=>∃l,v=.ref l/\H l=some (.ow d X.N.length)
def RB:Rl Bool Bool:=λ_ _ b a=>b=a
def RL:Rl (List D) (List Value):=λH _ us ds=>aC H us ds
def RS:Rl Fl Flow:=λH _ f k=>match k with|.nx=>f=.next|.bk=>f=.brk|.ct=>f=.cont|.rt d=>∃v,f=.ret v/\Rel H v d
def PV(X:Cx)(e:Expr)(f:M D):Prop:=WP X RV (eval e X.env) f
def PR(X:Cx)(e:Expr)(f:M D):Prop:=WP X RW (eval e X.env) f
def PF(X:Cx)(e:Expr)(f:M D):Prop:=WP X (RF X) (eval e X.env) f
def PB(X:Cx)(e:Expr)(f:M Bool):Prop:=WP X RB (isTrue e X.env<|eval e X.env) f
def Ae(X:Cx)(e:Expr)(f:M Bool):Prop:=∀w,WP X RB (isTrue e X.env w) f
def vn(X:Cx)(es:WM)(f:M (List D)):Prop:=∀pos,WP X RL (spliced<|backTo pos<|starEach es X.env) f
def je(X:Cx)(st:Stmt)(f:M Fl):Prop:=V8 X RS (exec st X.env) f
def lj(X:Cx)(st:List Stmt)(f:M Fl):Prop:=V8 X RS (execs st X.env) f
section
variable{X:Cx}{e a b c:Expr}{f fa fb fc:M D}{f1 f2:M Bool}{pos:Pos}{σ:Sg}{H:Tm}{ρ:ax}{s:Shared}{Q:Wg}{E:Wg}
theorem Ae.pb(h:Ae X e f1):PB X e f1:=h _
theorem PV.rd(h:PV X e f):PR X e f:=h.mono λ_ _ _ _ _ _ _ I r k=>k _ I Le.refl (.inl r)
theorem PF.pv(h:PF X e f):PV X e f:=h.mono λs σ H ρ _ d _ I ⟨l,a,b⟩ k=>by obtain⟨H',o,I',l',q,_⟩:=I.fz b<|.inr<|Ru _;rw[List.set_eq_of_length_le (by rw[I.len];exact Ru _)] at I';have z:=I.a8 _ _ b;exact k H' I' l' (by rw[a];exact Rel.mk z.1 z.2 q)
theorem cg(I:Inv X σ H ρ s)(hv:mz X.env.scope x)(hu:σ x=some u)(h:Q u s)(hd:(x == ("__debug__" : Str))=false)(gG:(x == ("__classdict__" : Str))=false):wpAny X.M X.A (eval (.Name x pos) X.env) Q E s:=by
 obtain⟨m,hn,hl⟩:=I.loc;rcases hl x u hv hu with ⟨hk,hm⟩|⟨hk|hk,c,hc,Kq⟩
 exact wpAny_Name (wpAny_loadName_local I.ok.kind hk hn hm h) hd;exact wpAny_Name (wpAny_loadName_cell I.ok.kind hk hc Kq h) hd;exact wpAny_Name (wpAny_loadName_free I.ok.kind hk hc Kq h gG) hd
theorem Inv.at(I:Inv X σ H ρ s)(hN:X.N[i]?=some x)(hv:mz X.env.scope x)(hr:ρ[i]?=some sl):yW X H i (σ x) sl:=by obtain⟨y,hy,r⟩:=I.slot i sl hr;rw[hN] at hy;cases hy;exact r
theorem PY(i:Nat){x:Str}(hN:X.N[i]?=some x:=by rfl)(hv:mz X.env.scope x:=by exact FA)(hd:Wk x:=by decide)(gG:GU x:=by decide):PV X (.Name x pos) (aa i):=λs σ H ρ Q E I o=>by unfold aa at o;split at o;rename_i d q;obtain⟨u,lk,r⟩:=I.at hN hv q;exact cg I hv lk (o s H u I Le.refl r) hd gG;exact o.elim
theorem Dq(i:Nat){x:Str}(hN:X.N[i]?=some x:=by rfl)(hv:mz X.env.scope x:=by exact FA)(hd:Wk x:=by decide)(gG:GU x:=by decide):PR X (.Name x pos) (Ey i):=λs σ H ρ Q E I o=>by unfold Ey at o;split at o;rename_i d q;obtain⟨u,lk,r⟩:=I.at hN hv q;exact cg I hv lk (o s H u I Le.refl<|.inl r) hd gG;rename_i d q;obtain⟨l,lk,r⟩:=I.at hN hv q;exact cg I hv lk (o s H _ I Le.refl<|.inr ⟨l,_,rfl,r⟩) hd gG;rename_i d q;obtain⟨l,lk,r,_⟩:=I.at hN hv q;exact cg I hv lk (o s H _ I Le.refl<|.inr ⟨l,_,rfl,r⟩) hd gG;exact o.elim
theorem lX{j}:PV X (.Constant (.int i) j pos) (mC<|.int i):=λs σ H ρ Q E I o=>wpAny_Constant_int (o _ H _ (I.tok _) Le.refl ⟨_,rfl⟩)
theorem UW{j}:PV X (.Constant (.bool i) j pos) (mC<|.bl i):=λs σ H ρ Q E I o=>Constant_bool (o _ H _ I Le.refl rfl)
theorem PS{j}:PV X (.Constant .none j pos) (mC .aK):=λs σ H ρ Q E I o=>Constant_none (o _ H _ I Le.refl rfl)
theorem PW{j}:PV X (.Constant (.str i) j pos) (mC<|.str i):=λs σ H ρ Q E I o=>Calls.Constant_str (o _ H _ (I.tok _) Le.refl ⟨_,rfl⟩)
def Gl(X:Cx)(x:Str):Prop:=X.env.kindOf x=some .globalImplicit
theorem ec(I:Inv X σ H ρ s)(hg:Gl X x)(hm:X.g.mg x=some u)(h:Q u s)(hd:Wk x:=by decide):wpAny X.M X.A (eval (.Name x pos) X.env) Q E s:=Calls.Name_function_global I.ok.kind hg (Calls.loadGlobal_global (by rw[I.ok.glob];exact I.mod.glob.keeps I.bk) hm h) hd
theorem rP(I:Inv X σ H ρ s)(hg:Gl X x)(hm:X.g.mg x=none)(hv:bootBuiltins x=some u)(h:Q u s)(hn:x≠"__name__" := by decide)(hd:Wk x:=by decide):wpAny X.M X.A (eval (.Name x pos) X.env) Q E s:=by obtain⟨mb,h1,h2⟩:=I.mod.blt;exact Calls.Name_function_global I.ok.kind hg (Calls.loadGlobal_builtin (by rw[I.ok.glob];exact I.mod.glob.keeps I.bk) hm (by rw[I.ok.blt];exact h1.keeps I.bk) ((h2 x hn).trans hv) h) hd
theorem GB(hg:Gl X x)(hm:X.g.mg x=some u)(r:∀H,Rel H u d)(hd:Wk x:=by decide):PV X (.Name x pos) (mC d):=λs σ H ρ Q E I o=>ec I hg hm (o s H u I Le.refl<|r H) hd
abbrev ro(X:Cx)(σ:Sg)(H:Tm)(ρ:ax)(d:D)(Q:Wg):Prop:=∀s' H' w,Inv X σ H' ρ s'->Le H H'->Rel H' w d->Q w s'
def lg(X:Cx)(t:Value->Value->Sem Value)(g:D->D->Y2):Prop:=∀s σ H ρ v u a b d Q E,Inv X σ H ρ s->Rel H v a->Rel H u b->g a b=some d->ro X σ H ρ d Q->wpAny X.M X.A (t v u) Q E s
def ZR(X:Cx)(t:Value->Sem Value)(g:D->Y2):Prop:=∀s σ H ρ v a d Q E,Inv X σ H ρ s->RW H s v a->g a=some d->ro X σ H ρ d Q->wpAny X.M X.A (t v) Q E s
def Xh(X:Cx)(t:Zk->Sem Value)(g:Zm->Y2):Prop:=∀s σ H ρ us ds d Q E,Inv X σ H ρ s->aC H us ds->g ds=some d->ro X σ H ρ d Q->wpAny X.M X.A (t us) Q E s
theorem two{t:Value->Value->Sem Value}{g:D->D->Y2}(ho:lg X t g)(ha:PV X a fa)(hb:PV X b fb)(I:Inv X σ H ρ s)(o:Out (m2 g fa fb ρ) (OK X σ H RV Q) (OK X σ H (XR X) E)) : wpAny X.M X.A (eval a X.env) (λv s1=>wpAny X.M X.A (eval b X.env) (λu s2=>wpAny X.M X.A (t v u) Q E s2) E s1) E s:=
 ha.Q1 I o (λ_ _ q=>q) λs1 H1 aP v d1 I1 l1 r1 o1=>hb.Q1 I1 o1 (λ_ _ q=>q.le l1) λs2 H2 rg u d2 I2 l2 r2 o2=>by obtain⟨d,e,q⟩:=o2.opt;exact ho s2 σ H2 rg v u d1 d2 d Q E I2 (r1.le l2) r2 e (q.le<|l1.trans l2)
theorem pe{g:D->D->Y2}(ho:lg X (binaryOp op) g)(ha:PV X a fa)(hb:PV X b fb):PV X (.BinOp a op b pos) (m2 g fa fb):=λs σ H ρ Q E I o=>wpAny_BinOp (two ho ha hb I o)
theorem wH{g:D->D->Y2}(ho:lg X (compareOp op) g)(ha:PV X a fa)(hb:PV X b fb)(hm:behindInMarks op b=false):PV X (.Compare a [op] [b] pos) (m2 g fa fb):=λs σ H ρ Q E I o=>wpAny_Compare1 (two ho ha hb I o) hm
theorem Q0w{g:D->Y2}(ho:ZR X (unaryOp op) g)(ha:PV X a fa):PV X (.UnaryOp op a pos) (m1 g fa):=λs σ H ρ Q E I o=>UnaryOp_ (ha.Q1 I o (λ_ _ q=>q) λs1 H1 aP v d1 I1 l1 r1 o1=>by obtain⟨d,e,q⟩:=o1.opt;exact ho s1 σ H1 aP v d1 d Q E I1 (.inl r1) e<|q.le l1)
theorem Out.le{α β:Type}{R:Rl α β}{Q:β->Shared->Prop}{r:Res α}(o:Out r (OK X σ H R Q) (OK X σ H (XR X) E))(l:Le H H1):Out r (OK X σ H1 R Q) (OK X σ H1 (XR X) E):=o.mono (λ_ _ q=>q.le l) λ_ _ q=>q.le l
theorem Rr{Q:Bool->Shared->Prop}{H0:Tm}{d:D}(I:Inv X σ H ρ s)(l:Le H0 H)(r:Rel H v d)(o:Out (tB (ret d) ρ) (OK X σ H0 RB Q) E'):wpAny X.M X.A (truthy v) Q E s:=by cases d with|bl k=>cases r;exact Gs (o s H k I l rfl)|_=>exact o.elim
theorem Dl(h:PV X a fa)(he:∀whole,isTrue a X.env whole=(do let v <-whole;standAt a.pos;holding [v]<|truthy v):=by exact Sf):PB X a (tB fa):=λs σ H ρ Q E I o=>isTrue_plain (h.Q1 I o (λ_ _ q=>q) λs1 H1 aP v d1 I1 l1 r1 o1=>Rr I1 l1 r1 o1) (he _)
theorem wA{g:D->D->Y2}(ho:lg X (compareOp op) g)(ha:PV X a fa)(hb:PV X b fb)(hm:behindInMarks op b=false):PB X (.Compare a [op] [b] pos) (tB<|m2 g fa fb):=λs σ H ρ Q E I o=>wpAny_isTrue_Compare1 (two ho ha hb I<|Out.mono o.Q1 (λd r q s' H' v I' l r'=>Rr I' l r' q) λ_ _ q=>q) hm
theorem PJ(h:PB X a f1):PB X (.UnaryOp .Not a pos) (z8 f1):=λs σ H ρ Q E I o=>isTrue_not (h.Q1 I o (λ_ _ q=>q) λs1 H1 aP v d1 I1 l1 r1 o1=>by cases r1;exact o1 s1 H1 _ I1 l1 rfl)
variable{rest:WM}
theorem Q1G(h:PB X a f1):Ae X (.BoolOp .And [a] pos) f1:=λw s σ H ρ Q E I o=>isTrue_and (vi (h s σ H ρ Q E I o) λc s1 e=>by cases c with|true=>exact isTrue_and_nil e|false=>exact e)
theorem Dk(h:PB X a f1):Ae X (.BoolOp .Or [a] pos) f1:=λw s σ H ρ Q E I o=>isTrue_or (vi (h s σ H ρ Q E I o) λc s1 e=>by cases c with|false=>exact isTrue_or_nil e|true=>exact e)
theorem PH(h1:PB X a f1)(h2:Ae X (.BoolOp .And (b::rest) pos) f2):Ae X (.BoolOp .And (a::b::rest) pos) (mZ f1 f2):=λw s σ H ρ Q E I o=>isTrue_and (h1.Q1 I o (λ_ _ q=>q) λs1 H1 aP v d1 I1 l1 r1 o1=>by cases r1;cases v with|true=>exact h2 w s1 σ H1 aP Q E I1 (Out.le o1 l1)|false=>exact o1 s1 H1 false I1 l1 rfl)
theorem Dj(h1:PB X a f1)(h2:Ae X (.BoolOp .Or (b::rest) pos) f2):Ae X (.BoolOp .Or (a::b::rest) pos) (Hf f1 f2):=λw s σ H ρ Q E I o=>isTrue_or (h1.Q1 I o (λ_ _ q=>q) λs1 H1 aP v d1 I1 l1 r1 o1=>by cases r1;cases v with|false=>exact h2 w s1 σ H1 aP Q E I1 (Out.le o1 l1)|true=>exact o1 s1 H1 true I1 l1 rfl)
theorem UX(hc:PB X c f1)(ha:PV X a fa)(hb:PV X b fb):PV X (.IfExp c a b pos) (Rh f1 fa fb):=λs σ H ρ Q E I o=>wpAny_IfExp (hc.Q1 I o (λ_ _ q=>q) λs1 H1 aP v d1 I1 l1 r1 o1=>by cases r1;cases v with|true=>exact ha s1 σ H1 aP Q E I1 (Out.le o1 l1)|false=>exact hb s1 σ H1 aP Q E I1<|Out.le o1 l1)
theorem PT{op}(h:PV X a fa):PV X (.BoolOp op [a] pos) fa:=λs σ H ρ Q E I o=>BoolOp_one (h s σ H ρ Q E I o)
theorem Dt(ha:PV X a fa)(hb:PV X (.BoolOp .And (b::rest) pos) fb):PV X (.BoolOp .And (a::b::rest) pos) (qI fa fb):=λs σ H ρ Q E I o=>BoolOp_and (ha.Q1 I o (λ_ _ q=>q) λs1 H1 aP v d1 I1 l1 r1 o1=>by
 cases d1 with
 |bl k=>cases r1;refine Gs ?_;cases k with|true=>exact hb s1 σ H1 aP Q E I1 (Out.le o1 l1)|false=>exact o1 s1 H1 _ I1 l1 rfl
 |_=>exact o1.elim)
theorem UY(ha:PV X a fa)(hb:PV X (.BoolOp .Or (b::rest) pos) fb):PV X (.BoolOp .Or (a::b::rest) pos) (CU fa fb):=λs σ H ρ Q E I o=>BoolOp_or (ha.Q1 I o (λ_ _ q=>q) λs1 H1 aP v d1 I1 l1 r1 o1=>by
 cases d1 with
 |bl k=>cases r1;refine Gs ?_;cases k with|false=>exact hb s1 σ H1 aP Q E I1 (Out.le o1 l1)|true=>exact o1 s1 H1 _ I1 l1 rfl
 |_=>exact o1.elim)
end
end WL
end
section
set_option linter.all false
set_option maxRecDepth 100000
namespace WL
open PySem PySem.Spec PyProof.Rows L2 VP
section
variable{X:Cx}{e a b c:Expr}{f fa fb fc:M D}{pos:Pos}{σ:Sg}{H:Tm}{ρ:ax}{s:Shared}{us ws:Zk}{ds es:Zm}
theorem nK:fU=sizeLine:=sizeLine_eq.symm
theorem aC.get:∀{us:Zk}{ds:Zm}{i:Nat}{d:D},aC H us ds->ds[i]?=some d->∃u,us[i]?=some u/\Rel H u d|_,_,0,_,.cons r _,e=>by cases e;exact⟨_,rfl,r⟩|_,_,i+1,_,.cons _ t,e=>aC.get (i:=i) t e
theorem aC.take:∀{us:Zk}{ds:Zm}(n:Nat),aC H us ds->aC H (us.take n) (ds.take n)|_,_,0,_=>.nil|_,_,_+1,.nil=>.nil|_,_,n+1,.cons r t=>.cons r (aC.take n t)
theorem aC.drop:∀{us:Zk}{ds:Zm}(n:Nat),aC H us ds->aC H (us.drop n) (ds.drop n)|_,_,0,r=>r|_,_,_+1,.nil=>.nil|_,_,n+1,.cons _ t=>aC.drop n t
theorem aC.app:∀{us ws:Zk}{ds es:Zm},aC H us ds->aC H ws es->aC H (us++ws) (ds++es)|_,_,_,_,.nil,s=>s|_,_,_,_,.cons r t,s=>.cons r (aC.app t s)
theorem aC.set(r:Rel H u d):∀{us:Zk}{ds:Zm}(i:Nat),aC H us ds->aC H (us.set i u) (ds.set i d)|_,_,_,.nil=>.nil|_,_,0,.cons _ t=>.cons r t|_,_,i+1,.cons q t=>.cons q (aC.set r i t)
theorem Inv.obj{d:D}(I:Inv X σ H ρ s)(r:RW H s v d)(h:fK d=false):∃a f,v=.ref a/\iJ X.g H s.heap f a d:=by
 rcases r with r|⟨l,i,e,q⟩;cases d<;>first|(obtain⟨a,o,e,q⟩:=r;exact⟨a,_,e,(I.a8 a _ q).2 _ rfl⟩)|cases h
 exact⟨l,_,e,(I.a8 l _ q).1⟩
theorem Inv.lst(I:Inv X σ H ρ s)(r:RW H s v (.lst ds)):∃a us,v=.ref a/\aC H us ds/\PlainL s.heap a us.toArray/\ds.length<=sizeLine:=let ⟨a,_,e,z,us,r,p⟩:=I.obj r rfl;⟨a,us,e,r,p.plain,z⟩
theorem Inv.tup(I:Inv X σ H ρ s)(r:RW H s v (.tup ds)):∃a us,v=.ref a/\aC H us ds/\IsTup s.heap a us.toArray/\ds.length<=sizeLine:=let ⟨a,_,e,_,z,us,r,p⟩:=I.obj r rfl;⟨a,us,e,r,p.tup,z⟩
theorem Inv.zK(t':Nat)(I:Inv X σ H ρ s)(r:aC H us ds)(hz:ds.length<=sizeLine):∃H',Inv X σ H' ρ {s with heap:=s.heap.push {cls:=.type "tuple",data:=.seq us.toArray},toks:=t'}/\Le H H'/\Rel H' (.ref s.heap.objs.size) (.tup ds):=
 have ⟨h1,h2⟩:=I.lay (t':=t') (e:=.pin _<|some<|.tup ds) (λb o e=>WK _ e) (Ru _) λlp=>⟨YO _ rfl,λe z=>by cases z;exact⟨rfl,hz,us,r.p lp,_,YO _ rfl,rfl,⟨_,rfl⟩,rfl⟩⟩
 ⟨_,h1,h2,_,_,rfl,aA⟩
theorem Inv.YW(t':Nat)(I:Inv X σ H ρ s)(r:aC H us ds)(hz:ds.length<=sizeLine):∃H',Inv X σ H' ρ {s with heap:=s.heap.push {cls:=.type "list",data:=.seq us.toArray},toks:=t'}/\Le H H'/\RF X H' s (.ref s.heap.objs.size) (.lst ds):=
 have ⟨h1,h2⟩:=I.lay (t':=t') (e:=.ow (.lst ds) X.N.length) (λb o e=>WK _ e) (Ru _) (λlp=>⟨⟨hz,us,r.p lp,_,YO _ rfl⟩,λz=>nomatch z⟩) λd i z=>by cases z;exact Ru _
 ⟨_,h1,h2,_,rfl,aA⟩
theorem Inv.C5(t':Nat)(I:Inv X σ H ρ s)(r:aC H us ds)(hz:ds.length<=sizeLine):∃H',Inv X σ H' ρ {s with heap:=s.heap.push {cls:=.type "list",data:=.seq us.toArray},toks:=t'}/\Le H H'/\Rel H' (.ref s.heap.objs.size) (.lst ds):=
 have ⟨h1,h2⟩:=I.lay (t':=t') (e:=.pin _<|some<|.lst ds) (λb o e=>WK _ e) (Ru _) λlp=>⟨YO _ rfl,λe z=>by cases z;exact⟨hz,us,r.p lp,_,_,YO _ rfl,rfl,rfl,rfl⟩⟩
 ⟨_,h1,h2,_,_,rfl,aA⟩
def onI(f:Int->Int->Y2):D->D->Option D|.int i,.int j=>f i j|_,_=>none
theorem KV{t:Value->Value->Sem Value}{g:Int->Int->Y2}(rule:∀i j a b d s σ H ρ Q E,Inv X σ H ρ s->g i j=some d->ro X σ H ρ d Q->wpAny X.M X.A (t (.int i a)<|.int j b) Q E s):lg X t (onI g):=λs σ H ρ v u a b d Q E I r1 r2 e k=>by
 cases a with
 |int i=>cases b with|int j=>obtain⟨t1,rfl⟩:=r1;obtain⟨t2,rfl⟩:=r2;exact rule i j t1 t2 d s σ H ρ Q E I e k|_=>cases e
 |_=>cases e
theorem w_sub:lg X (binaryOp .Sub) ja:=KV (g:=λi j=>some<|.int<|i-j) λi j a b d s σ H ρ Q E I e k=>by cases e;exact sub_int (k _ H _ (I.tok _) Le.refl ⟨_,rfl⟩)
theorem w_mul:lg X (binaryOp .Mult) uB:=KV (g:=λi j=>if (-(2 ^ 64)<i/\i<2 ^ 64)\/(-(2 ^ 64)<j/\j<2 ^ 64) then some (.int<|i*j) else none) λi j a b d s σ H ρ Q E I e k=>by split at e;rename_i h;cases e;exact mul_int (k _ H _ (I.tok _) Le.refl ⟨_,rfl⟩)<|h.elim (λh=>.of_left<|intBits_le_64 h.1 h.2) λh=>.of_right<|intBits_le_64 h.1 h.2;cases e
theorem QJ:lg X (binaryOp .FloorDiv) qy:=KV (g:=λi j=>if 0<j/\j<1073741824 then some (.int<|i / j) else none) λi j a b d s σ H ρ Q E I e k=>by split at e;rename_i h;cases e;exact floordiv_int Zl (by rw[Int.fdiv_eq_ediv_of_nonneg i Zl];exact k _ H _ (I.tok _) Le.refl ⟨_,rfl⟩)<|.inl<|PyProof.noPylong_small Zl;cases e
theorem w_mod:lg X (binaryOp .Mod) hV:=KV (g:=λi j=>if 0<j then some (.int<|i % j) else none) λi j a b d s σ H ρ Q E I e k=>by split at e;cases e;exact mod_int' Zl (by rw[Int.fmod_eq_emod_of_nonneg i Zl];exact k _ H _ (I.tok _) Le.refl ⟨_,rfl⟩);cases e
theorem w_lt:lg X (compareOp .Lt) ltI:=KV (g:=λi j=>some<|.bl<|decide<|i<j) λi j a b d s σ H ρ Q E I e k=>by cases e;exact lt_int (k _ H _ I Le.refl rfl)
theorem ZD:lg X (compareOp .LtE) vg:=KV (g:=λi j=>some<|.bl<|decide<|i<=j) λi j a b d s σ H ρ Q E I e k=>by cases e;exact le_int (k _ H _ I Le.refl rfl)
theorem VI:lg X (compareOp .Gt) Nc:=KV (g:=λi j=>some<|.bl<|decide<|j<i) λi j a b d s σ H ρ Q E I e k=>by cases e;exact gt_int (k _ H _ I Le.refl rfl)
theorem ZC:lg X (compareOp .GtE) S5:=KV (g:=λi j=>some<|.bl<|decide<|j<=i) λi j a b d s σ H ρ Q E I e k=>by cases e;exact ge_int (k _ H _ I Le.refl rfl)
theorem VM:ZR X (unaryOp .USub) C4:=λs σ H ρ v a d Q E I r e k=>by
 cases a with
 |int i=>
  cases e;rcases r with ⟨t,rfl⟩|⟨l,j,_,q⟩
  exact neg_int<|k _ H _ (I.tok _) Le.refl ⟨_,rfl⟩;exact(I.a8 l _ q).1.elim
 |_=>cases e
theorem Rel.isNon{d:D}(r:Rel H v d):(v == Value.none)=isNon d:=by cases d<;>first|(cases r;rfl)|(obtain⟨t,rfl⟩:=r;rfl)|(obtain⟨_,_,rfl,_⟩:=r;rfl)
theorem VL:lg X (compareOp .Is) isND:=λs σ H ρ v u a b d Q E I r1 r2 e k=>by
 unfold isND at e;split at e;rename_i h;cases b with|aK=>cases r2;cases e;exact is_none_gen (k s H _ I Le.refl<|congrArg Value.bool r1.isNon)|_=>cases h
 cases e
theorem EV{prog:Program}{w:World}{A:Around}{E:Wg}{t b:Addr}{Q:Wg}(ht:IsTup s.heap t (#[]:Array Value))(hb:IsTup s.heap b ws.toArray)(h1:Q (.ref b) s):wpAny (model prog w) A (binaryOp .Add (.ref t)<|.ref b) Q E s:=by obtain⟨⟨cls,dd,data,sl⟩,ho,hc,n,hd⟩:=id ht;obtain⟨⟨XG,J9,data2,Ro⟩,Ew,zl,n2,hd2⟩:=id hb;simp only at hc hd zl hd2;subst hc hd zl hd2;exact concat_meets ⟨_,ho,rfl⟩ ⟨_,Ew,rfl⟩ noFill_tuple_add seq_tuple_add Pp vQ (zh _ _) (tuple_addW0 t b #[] ws.toArray n n2 dd J9 sl Ro rfl) ⟨ho,Ew,h1⟩
theorem w_add:lg X (binaryOp .Add) aU:=λs σ H ρ v u a b d Q E I r1 r2 e k=>by
 cases a with
 |int i=>cases b with|int j=>obtain⟨t1,rfl⟩:=r1;obtain⟨t2,rfl⟩:=r2;cases e;exact add_int (k _ H _ (I.tok _) Le.refl ⟨_,rfl⟩)|_=>cases e
 |tup xs=>
  cases b with
  |tup ys=>
   simp only[aU] at e;split at e;rename_i hl;rw[nK] at hl;cases e;have ⟨p,us,e1,q1,t1,_⟩:=I.tup<|.inl r1;have ⟨q,ws,e2,q2,t2,_⟩:=I.tup<|.inl r2;subst e1 e2;have hz:us.length+ws.length<=sizeLine:=by rw[q1.length,q2.length];exact hl
   by_cases h:us=[];subst h;cases q1;exact EV t1 t2<|k s H _ I Le.refl r2;refine HT.EW t1 t2 h (λz=>?_) (λ_=>?_) hz;subst z;cases q2;rw[Xq] at k;exact k s H _ I Le.refl r1;obtain⟨H',I',l',r'⟩:=I.zK s.toks (q1.app q2) (by rw[U0];exact hl);exact k _ H' _ I' l' r';cases e
  |_=>cases e
 |lst xs=>cases b with|lst ys=>simp only[aU] at e;split at e;rename_i hl;rw[nK] at hl;cases e;have ⟨p,us,e1,q1,⟨⟨c1,d1,dt1,sl1⟩,n,ho,hc,_,Q3⟩,_⟩:=I.lst<|.inl r1;have ⟨q,ws,e2,q2,⟨⟨c2,d2,dt2,Ro⟩,n2,Ew,zl,_,Ti⟩,_⟩:=I.lst<|.inl r2;simp only at hc Q3 zl Ti;subst e1 e2 hc Q3 zl Ti;refine concat_meets ⟨_,ho,rfl⟩ ⟨_,Ew,rfl⟩ noFill_list_add seq_list_add PySem.F.slot_list_add PySem.F.entry_list_add (PySem.F.args_list_add_2 _ _) (list_addW p q us.toArray ws.toArray n n2 d1 d2 sl1 Ro (by rw[Vy,Vy,q1.length,q2.length];exact hl)) ⟨ho,Ew,?_⟩;obtain⟨H',I',l',r'⟩:=I.C5 s.toks (q1.app q2) (by rw[U0];exact hl);rw[List.append_toArray];exact k _ H' _ I' l' r';cases e|_=>cases e
 |_=>cases e
theorem aC.ix{i:Int}(h:aC H us ds)(e:vR ds i=some d):∃j u,Rd us.length i=some j/\us[j]?=some u/\Rel H u d:=by unfold vR at e;rw[<-h.length] at e;have q:yh us.length i=Rd us.length i:=rfl;rw[q] at e;cases z:Rd us.length i with|none=>rw[z] at e;cases e|some j=>rw[z] at e;obtain⟨u,a,b⟩:=h.get e;exact⟨j,u,rfl,a,b⟩
theorem Ed{value slice:Expr}{d1 d2:D}{Q E}(I:Inv X σ H ρ s)(r1:RW H s v d1)(r2:Rel H u d2)(e:ah d1 d2=some d)(k:ro X σ H ρ d Q)(hs:subscripted slice false v u=operate [v,u] (getItem v u)):wpAny X.M X.A (subscriptTail value slice v u) Q E s:=by
 have hn:=rQ;cases d1 with
 |lst ds=>cases d2 with|int i=>obtain⟨t,rfl⟩:=r2;obtain⟨a,us,rfl,r,pl,hz⟩:=I.lst r1;obtain⟨j,w,hj,hw,Zh⟩:=r.ix e;obtain⟨h1,h2,h3,h4⟩:=rN hj;have hl:=r.length;have fin:=k s H w I Le.refl Zh;by_cases h0:0<=i;rw[seqIndex_of h0 h4] at h1;exact item_listR pl.isList h0 Zl (by rw[RY h1];simpa using hw) fin hs;rw[seqIndex_neg Zl h3] at h1;exact subscriptTail_builtinR (x:=w) pl.isList.typeIs slot_list_getitem.lookup (wpAny_getItem_list_neg (Q:=λr s'=>r=w/\Q r s') pl.isList Zl (by rw[Vy];lia) Zl (by rw[Vy,RY h1];simpa using hw) ⟨rfl,fin⟩) hs|_=>cases e
 |tup ds=>cases d2 with|int i=>obtain⟨t,rfl⟩:=r2;obtain⟨a,us,rfl,r,pl,hz⟩:=I.tup r1;obtain⟨j,w,hj,hw,Zh⟩:=r.ix e;obtain⟨h1,h2,h3,h4⟩:=rN hj;have hl:=r.length;exact subscriptTail_builtinR (x:=w) pl.typeIs slot_tuple_getitem.lookup (getItem_tuple (j:=j) (Q:=λr s'=>r=w/\Q r s') pl Zl Zl (by rw[Vy];exact h1) (by simpa using hw) ⟨rfl,k s H w I Le.refl Zh⟩) hs|_=>cases e
 |_=>cases e
theorem qP(ha:PV X a fa)(hb:PV X b fb)(hs:m8 b:=by exact QL):PV X (.Subscript a b pos) (m2 ah fa fb):=λs σ H ρ Q E I o=>Subscript_ (ha.Q1 I o (λ_ _ q=>q) λs1 H1 aP v d1 I1 l1 r1 o1=>hb.Q1 I1 o1 (λ_ _ q=>q.le l1) λs2 H2 rg u d2 I2 l2 r2 o2=>by obtain⟨d,e,q⟩:=o2.opt;exact Ed I2 (.inl<|r1.le l2) r2 e (q.le<|l1.trans l2)<|hs _ _)
theorem Inv.ownAt{d:D}(I:Inv X σ H ρ s)(hN:X.N[j]?=some x)(hv:mz X.env.scope x)(h:own ρ[j]?=some d):∃l,σ x=some (.ref l)/\H l=some (.ow d j):=by unfold own at h;split at h;rename_i d' q;cases h;obtain⟨l,a,b⟩:=I.at hN hv q;exact⟨l,a,b⟩;rename_i d' q;cases h;obtain⟨l,a,b,_⟩:=I.at hN hv q;exact⟨l,a,b⟩;cases h
theorem PQ(j:Nat){x:Str}{p:Pos}(hb:PV X b fb)(hs:m8 b:=by exact QL)(hN:X.N[j]?=some x:=by rfl)(hv:mz X.env.scope x:=by exact FA)(hd:Wk x:=by decide)(gG:GU x:=by decide):PV X (.Subscript (.Name x p) b pos) (hJ j fb):=λs σ H ρ Q E I o=>by unfold hJ at o;cases q:own ρ[j]? with|none=>rw[q] at o;exact o.elim|some d0=>rw[q] at o;obtain⟨l,hu,_⟩:=I.ownAt hN hv q;refine Subscript_<|cg I hv hu (hb.Q1 I o (λ_ _ q=>q) λs1 H1 aP u d1 I1 l1 r1 o1=>?_) hd gG;unfold Cw at o1;cases q1:own aP[j]? with|none=>rw[q1] at o1;exact o1.elim|some d=>rw[q1] at o1;obtain⟨d2,e,k⟩:=Out.opt o1;obtain⟨l',uk,h'⟩:=I1.ownAt hN hv q1;rw[hu] at uk;cases uk;exact Ed I1 (.inr ⟨_,_,rfl,h'⟩) r1 e (k.le l1) (hs _ _)
end
end WL
end
section
set_option linter.all false
set_option maxRecDepth 100000
namespace WL
open PySem PySem.Spec PyProof.Rows L2 VP
section
variable{X:Cx}{e a b c:Expr}{fe fa fb fc:M D}{pos:Pos}{σ:Sg}{H:Tm}{ρ:ax}{s:Shared}{us ws:Zk}{ds es:Zm}
def Q2U:Rl (Option Int) Value:=λ_ _ v o=>IsPart v o
def sO(X:Cx)(e:Option Expr)(f:Option (M D)):Prop:=WP X Q2U (evalPart e X.env) (kH f)
theorem Q15:sO X none none:=λs σ H ρ Q E I o=>by rw[evalPart_none];exact XS (o s H _ I Le.refl .none)
theorem Gu(h:PV X e fe):sO X (some e) (some fe):=λs σ H ρ Q E I o=>by rw[evalPart_some];refine h.Q1 I o (λ_ _ q=>q) λs1 H1 aP v d1 I1 l1 r1 o1=>?_;cases d1 with|int i=>obtain⟨t,rfl⟩:=r1;exact o1 s1 H1 _ I1 l1 (.int i t)|_=>exact o1.elim
theorem sy(n d:Nat)(o:WX):HT.eB n d o=jy n d o:=by cases o<;>rfl
theorem aC.cut(h:aC H us ds)(lo hi:WX):aC H ((us.drop<|HT.eB us.length 0 lo).take<|HT.eB us.length us.length hi-HT.eB us.length 0 lo) (VP.cutD ds lo hi):=by unfold VP.cutD;rw[sy,sy,h.length];exact(h.drop _).take _
theorem tP(ds:Zm)(lo hi:WX):(VP.cutD ds lo hi).length<=ds.length:=by unfold VP.cutD;rw[MN,List.length_drop];lia
theorem jw{prog:Program}{w:World}{A:Around}{E:Wg}{t sl:Addr}{items:Array Value}{vl vu:Value}{lo hi:WX}{Q:Wg}(ht:IsTup s.heap t items)(hs:s.heap.IsSliceOf sl vl vu .none)(pl:IsPart vl lo)(pu:IsPart vu hi)(hw:HT.eB items.size 0 lo=0/\HT.eB items.size items.size hi=items.size) (h:Q (.ref t) s):wpAny (model prog w) A (getItem (.ref t)<|.ref sl) Q E s:=by
 obtain⟨os,Nr,Nh,oE⟩:=id hs;have X3:s.TypeIs (.ref sl) "slice" := ⟨os,Nr,Nh⟩;unfold getItem;try with_reducible refine Vs ?_
 first|refine Zy (XS ?_)|skip
 refine Zy<|wpAny_sequenceKey ht.typeIs (by decide) ?_;refine Zy<|Pc (name:=Str.ofString "__getitem__") ht.typeIs QD<|UL QD ht.typeIs entry_tuple_getitem ?_<|args_tuple_getitem _ _;show wpAny _ _ (Builtin.Tuple.tupleItemsOf (.ref t) >>= _) _ _ s;refine Zy<|PyProof.Rows.tupleItemsOf_ ht ?_;refine Zy<|Pk X3 ?_;rw[Ue (by decide)];refine Zy<|HT.gK hs pl pu ?_;have Yw:(((HT.eB items.size 0 lo:Nat):Int) == 0&&(1:Int) == 1&&(HT.eB items.size items.size hi-HT.eB items.size 0 lo) == items.size)=true:=by rw[hw.1,hw.2];simp
 show wpAny _ _ (if (((HT.eB items.size 0 lo:Nat):Int) == 0&&(1:Int) == 1&&(HT.eB items.size items.size hi-HT.eB items.size 0 lo) == items.size)=true then _ else _) _ _ s;rw[Ue Yw];refine Zy ?_;unfold Builtin.Tuple.tupleIsExact;refine Zy<|Pk ht.typeIs<|XS ?_;rw[Ue (by decide)];refine Zy (FK<|XS ⟨_,rfl,XS h⟩)
theorem UZ{lo hi:Option Expr}{fl fh:Option (M D)}{p2:Pos}(he:PV X e fe)(hl:sO X lo fl)(hh:sO X hi fh):PV X (.Subscript e (.Slice lo hi none p2) pos) (vh fH fe fl fh):=λs σ H ρ Q E I o=>
 Subscript_ (he.Q1 I o (λ_ _ q=>q) λs1 H1 aP v d1 I1 l1 r1 o1=>wpAny_Slice (hl.Q1 I1 o1 (λ_ _ q=>q.le l1) λs2 H2 rg vl l I2 l2 p1 o2=>hh.Q1 I2 o2 (λ_ _ q=>q.le<|l1.trans l2) λs3 H3 Xb vu h I3 l3 Y3 o3=>by
  obtain⟨d,e1,q⟩:=o3.opt;rw[evalPart_none];refine XS ?_;have I4:Inv X σ H3 Xb {s3 with heap:=s3.heap.push {cls:=.type "slice",data:=.fields #[vl,vu,.none]}}:=I3.kept (t':=s3.toks) λb ob q=>WK _ q;have hs:=Heap.IsSliceOf.new s3.heap vl vu .none;have YH:=l1.trans<|l2.trans l3;have r4:=r1.le<|l2.trans l3;show wpAny X.M X.A (subscriptTail e (.Slice lo hi none p2) v<|.ref s3.heap.objs.size) Q E {s3 with heap:=s3.heap.push {cls:=.type "slice",data:=.fields #[vl,vu,.none]}};generalize s3.heap.push {cls:=.type "slice",data:=.fields #[vl,vu,.none]}=hp at I4 hs;cases d1 with
   |tup ds=>
    cases e1;have ⟨p,us,e1,r,ht,hz⟩:=I4.tup<|.inl r4;subst e1;have SR:=r.length;refine tail_any (ops:=[.ref s3.heap.objs.size,.ref p]) ht.typeIs PyProof.Rows.slot_tuple_getitem.lookup ?_ (by with_unfolding_all rfl);have rc:=r.cut l h;by_cases hw:HT.eB us.toArray.size 0 l=0/\HT.eB us.toArray.size us.toArray.size h=us.toArray.size;refine jw ht hs p1 Y3 hw<|q _ H3 _ I4 YH ?_;have:VP.cutD ds l h=ds:=by rw[Vy,SR,sy,sy] at hw;unfold VP.cutD;rw[hw.1,hw.2];simp
    rw[this];exact r4;refine HT.Q28 ht hs p1 Y3 hw ?_ (by rw[Vy,SR];exact hz);obtain⟨H',I',l',r'⟩:=I4.zK s3.toks rc<|YQ (tP ds l h) hz;rw[Vy];exact q _ H' _ I' (YH.trans l') r'
   |lst ds=>cases e1;have ⟨p,us,e1,r,ht,hz⟩:=I4.lst<|.inl r4;subst e1;have SR:=r.length;refine tail_any (ops:=[.ref s3.heap.objs.size,.ref p]) ht.isList.typeIs slot_list_getitem.lookup ?_ (by with_unfolding_all rfl);refine wpAny_getItem_list_slice ht.isList hs p1 Y3 .none (by decide) ?_ (by rw[Vy,SR];exact hz);obtain⟨H',I',l',r'⟩:=I4.C5 s3.toks (r.cut l h)<|YQ (tP ds l h) hz;rw[Q21];exact q _ H' _ I' (YH.trans l') r'|_=>cases e1))
theorem link{g g':D->D->Y2}{P:D->ax->Prop}{E':Xn->ax->Prop}{op KU:CmpOp}{Q:Wg}{E:Wg}{N:Wg}(ho:lg X (compareOp op) g)(Eu:lg X (compareOp KU) g')(ha:PV X a fa)(hb:PV X b fb)(hc:PV X c fc)(I:Inv X σ H ρ s)
  (o:Out (FT g g' fa fb fc ρ) P E') (hE:∀x r,E' x r->OK X σ H (XR X) E x r) (hQ:∀s' H' bw w d,Inv X σ H' bw s'->Le H H'->Rel H' w d->P d bw->Q w s') (hN:∀s' H' bw,Inv X σ H' bw s'->Le H H'->P (.bl false) bw->N (.bool false) s') :
  wpAny X.M X.A (eval a X.env) (λv s1=>wpAny X.M X.A (eval b X.env) (λu s2=>wpAny X.M X.A (compareOp op v u) (λz s3=>wpAny X.M X.A (truthy z) (λt s4=>if t=true then wpAny X.M X.A (eval c X.env) (λw s5=>wpAny X.M X.A (compareOp KU u w) Q E s5) E s4 else N z s4) E s3) E s2) E s1) E s:=
 ha.Q1 I o hE λs1 H1 aP v d1 I1 l1 r1 o1=>hb.Q1 I1 o1 (λx r q=>(hE x r q).le l1) λs2 H2 rg u d2 I2 l2 r2 o2=>by
  obtain⟨d,e,q⟩:=o2.Q1.opt;refine ho s2 σ H2 rg v u d1 d2 d _ E I2 (r1.le l2) r2 e λs3 H3 w I3 l3 r3=>?_;have l:=l1.trans<|l2.trans l3;cases d with
   |bl k=>cases r3;refine Gs ?_;cases k with|true=>refine hc.Q1 I3 q (λx r q=>(hE x r q).le l) λs4 H4 EC z d4 I4 l4 r4 o4=>?_;obtain⟨d5,e5,q5⟩:=o4.opt;exact Eu s4 σ H4 EC u z d2 d4 d5 Q E I4 (r2.le<|l3.trans l4) r4 e5 λs5 H5 w I5 l5 r5=>hQ s5 H5 EC w d5 I5 (l.trans<|l4.trans l5) r5 q5|false=>exact hN s3 H3 rg I3 l q
   |_=>exact q.elim
theorem Dv{g g':D->D->Y2}(ho:lg X (compareOp op) g)(Eu:lg X (compareOp KU) g')(ha:PV X a fa)(hb:PV X b fb)(hc:PV X c fc)(hm:lastMarks [op,KU] [b,c]=false:=by exact Y5):PV X (.Compare a [op,KU] [b,c] pos) (FT g g' fa fb fc):=λs σ H ρ Q E I o=>Compare_chain (vi (link (N:=Q) ho Eu ha hb hc I o (λ_ _ q=>q) (λs' H' bw w d I' l r q=>q s' H' w I' l r) λs' H' bw I' l q=>q s' H' _ I' l rfl) λv s1 h1=>chain_link (vi h1 λu s2 h2=>vi h2 λz s3 h3=>vi h3 λt s4 h4=>by cases t with|true=>exact chain_last h4|false=>exact h4)) hm
theorem Dh{g g':D->D->Y2}(ho:lg X (compareOp op) g)(Eu:lg X (compareOp KU) g')(ha:PV X a fa)(hb:PV X b fb)(hc:PV X c fc)(hm:lastMarks [op,KU] [b,c]=false:=by exact Y5):PB X (.Compare a [op,KU] [b,c] pos) (tB<|FT g g' fa fb fc):=λs σ H ρ Q E I o=>isTrue_chain (vi (link (Q:=λw s'=>wpAny X.M X.A (truthy w) Q E s') (N:=λ_ s=>Q false s) ho Eu ha hb hc I (Out.Q1 o) (λ_ _ q=>q) (λs' H' bw w d I' l r q=>Rr I' l r q) λs' H' bw I' l q=>q s' H' _ I' l rfl) λv s1 h1=>test_link (vi h1 λu s2 h2=>vi h2 λz s3 h3=>vi h3 λt s4 h4=>by cases t with|true=>exact test_last h4|false=>exact h4)) hm
mutual
def toPy:D->PyData|.bl b=>.bool b|.int i=>.int i|.str x=>.str x|.tup xs=>.tuple (toPys xs)|.lst xs=>.list (toPys xs)|_=>.none
def toPys:Zm->List PyData|[]=>[]|x::xs=>toPy x::toPys xs
end
theorem Q2F(n:Nat):∀(x y:D),plain n x=true->plain n y=true->PyData.eqv (toPy x) (toPy y)=eqB x y:=by
 induction n with
 |zero=>
  intro x y h1 h2;cases x with
  |aK|bl|int|str=>cases y<;>first|rfl|cases h2
  |_=>cases h1
 |succ n ih=>
  have TX:∀xs ys:Zm,eT n xs=true->eT n ys=true->PyData.eqvAll (toPys xs) (toPys ys)=nY xs ys:=by intro xs;induction xs with|nil=>intro ys _ _;cases ys<;>rfl|cons x xs Fy=>intro ys h1 h2;cases ys with|nil=>rfl|cons y ys=>simp only[eT,Bool.and_eq_true] at h1 h2;show (PyData.eqv (toPy x) (toPy y)&&PyData.eqvAll (toPys xs) (toPys ys))=(eqB x y&&nY xs ys);rw[ih x y h1.1 h2.1,Fy ys h1.2 h2.2]
  intro x y h1 h2;cases x with
  |tup xs=>cases y<;>first|exact TX _ _ h1 h2|rfl|cases h2
  |lst xs=>cases y<;>first|exact TX _ _ h1 h2|rfl|cases h2
  |fZ|ins|XO=>cases h1|_=>cases y<;>first|rfl|cases h2
theorem Inv.reads(I:Inv X σ H ρ s)(n:Nat):∀(d:D)(v:Value),plain n d=true->RW H s v d->(∃as,Reads s.heap v (toPy d) as)/\(toPy d).canLay0=true/\(toPy d).depth<=n:=by
 have flat:∀{d v m},fK d=true->plain m d=true->RW H s v d->(∃as,Reads s.heap v (toPy d) as)/\(toPy d).canLay0=true/\(toPy d).depth<=m:=λ{d v m} hf hp r=>by
  rcases r with r|⟨l,i,_,q⟩;cases d with|aK=>cases r;exact⟨⟨_,.none⟩,rfl,Hq _⟩|bl b=>cases r;exact⟨⟨_,.bool b⟩,rfl,Hq _⟩|int i=>obtain⟨t,rfl⟩:=r;exact⟨⟨_,.int i t⟩,rfl,Hq _⟩|str x=>obtain⟨t,rfl⟩:=r;exact⟨⟨_,.str x t⟩,by cases m<;>exact(Array.all_toList.symm).trans hp,Hq _⟩|_=>cases hf
  have:=I.a8 l _ q;cases d with|aK=>exact absurd rfl this.2|bl|int|str=>exact this.1.elim|_=>cases hf
 induction n with
 |zero=>intro d v hp r;cases d<;>first|exact flat rfl hp r|cases hp
 |succ n ih=>
  have TX:∀(ds:Zm)(us:Zk),eT n ds=true->aC H us ds->(∃as,ReadsAll s.heap us (toPys ds) as)/\PyData.canLayAll0 (toPys ds)=true/\PyData.depthAll (toPys ds)<=n:=by intro ds;induction ds with|nil=>intro us _ r;cases r;exact⟨⟨_,.nil⟩,rfl,Hq _⟩|cons d ds Fy=>intro us hp r;simp only[eT,Bool.and_eq_true] at hp;cases r with|cons r1 r2=>obtain⟨⟨as,ha⟩,h1,h2⟩:=ih d _ hp.1<|.inl r1;obtain⟨⟨bs,hb⟩,h3,h4⟩:=Fy _ hp.2 r2;exact⟨⟨_,.cons ha hb⟩,by show (_&&_)=true;rw[h1,h3];rfl,by show max _ _<=n;lia⟩
  intro d v hp r;cases d with|tup ds=>obtain⟨a,us,rfl,r,⟨o,ho,hc,m,hd⟩,_⟩:=I.tup r;obtain⟨⟨as,ha⟩,h1,h2⟩:=TX ds us hp r;exact⟨⟨_,.tuple ho hc hd (by simpa using ha)⟩,h1,Nat.succ_le_succ h2⟩|lst ds=>obtain⟨a,us,rfl,r,pl,_⟩:=I.lst r;obtain⟨o,ho,hc,m,hd⟩:=pl.isList;obtain⟨⟨as,ha⟩,h1,h2⟩:=TX ds us hp r;exact⟨⟨_,.list ho hc hd (by simpa using ha)⟩,h1,Nat.succ_le_succ h2⟩|fZ|ins|XO=>cases hp|_=>exact flat rfl hp r
theorem jq{d:D}(h1:(toPy d).canLay0=true)(h2:(toPy d).depth<=60):SeqAt.shaped (toPy d)=true:=by unfold SeqAt.shaped;rw[h1,Ud Zl];rfl
theorem Ml(neg:Bool){Q:Wg}{E:Wg}{d1 d2 d:D}(hu:X.A.units+64<cLine)(I:Inv X σ H ρ s)(r1:RW H s v d1)(r2:RW H s u d2)(e:QZ neg d1 d2=some d)(k:ro X σ H ρ d Q):wpAny X.M X.A (compareOp (if neg then .NotEq else .Eq) v u) Q E s:=by
 have h:plain 60 d1=true/\plain 60 d2=true/\d=.bl (if neg then !eqB d1 d2 else eqB d1 d2):=by
  have e':(if VP.plain 60 d1&&VP.plain 60 d2 then some (D.bl<|if neg then !eqB d1 d2 else eqB d1 d2) else none)=some d:=by cases neg<;>exact e
  split at e';rename_i h;rw[ML] at h;exact⟨h.1,h.2,(RY e').symm⟩;cases e'
 obtain⟨p1,p2,rfl⟩:=h;obtain⟨⟨as,ra⟩,a1,a2⟩:=I.reads 60 d1 v p1 r1;obtain⟨⟨bs,rb⟩,b1,b2⟩:=I.reads 60 d2 u p2 r2;have q:=Q2F 60 d1 d2 p1 p2;cases neg;exact SeqAt.compareEq_shaped ra rb (jq a1 a2) (jq b1 b2) hu (by rw[q];exact k s H _ I Le.refl rfl);exact SeqAt.compareNe_shaped ra rb (jq a1 a2) (jq b1 b2) hu (by rw[q];exact k s H _ I Le.refl rfl)
end
end WL
end
section
set_option linter.all false
set_option maxRecDepth 100000
namespace WL
open PySem PySem.Spec PyProof.Rows L2 VP
section
variable{X:Cx}{σ:Sg}{H:Tm}{ρ:ax}{s:Shared}{h':Heap}{Q:Unit->Shared->Prop}{E:Wg}{x:Xn}{e:Addr}
def Kp(X:Cx)(H:Tm)(h h':Heap):Prop:=∀b o,h.get? b=some o->(∀vs,o.data≠.fields vs)\/H b≠none->∃sl,h'.get? b=some {o with slots:=sl}/\(b∉oz X.stack->sl=o.slots)
theorem Kp.trans{h1 h2 h3:Heap}(a:Kp X H h1 h2)(b:Kp X H h2 h3):Kp X H h1 h3:=λc o e n=>by obtain⟨sl,e1,n1⟩:=a c o e n;obtain⟨Vf,e2,n2⟩:=b c _ e1 n;exact⟨Vf,e2,λz=>(n2 z).trans<|n1 z⟩
theorem Inv.mY{t':Nat}(I:Inv X σ H ρ s)(k:Kp X H s.heap h'):Inv X σ H ρ {s with heap:=h',toks:=t'}:=by
 have kk:∀b q o,H b=some q->(∀o,q≠.jM o)->s.heap.get? b=some o->h'.get? b=some o:=λb q o hb hq e=>by
  obtain⟨sl,e1,n⟩:=k b o e<|.inr (by rw[hb];exactλz=>nomatch z);have:=n λz=>by rcases I.Ep z with y|⟨_,y⟩;rw[y] at hb;cases hb;rw[y] at hb;cases hb;exact hq _ rfl
  rw[this] at e1;exact e1
 have a8:nI X.g H h':=λa q hq=>by
  have y:=I.a8 a q hq;have mv:∀{f:Bool}{d:D},(∀o,q≠.jM o)->iJ X.g H s.heap f a d->iJ X.g H h' f a d:=λhn y=>y.mv (λ_ _ _ z=>z) (kk a q · hq hn) (λ_ _ z=>z) λb o z=>by
   rcases z with ⟨_,z⟩|⟨_,_,z⟩
   exact kk b _ o z λ_ z=>nomatch z;exact kk b _ o z λ_ z=>nomatch z
  cases q with|pin o d=>exact⟨kk a _ o hq (λ_ z=>nomatch z) y.1,λe z=>mv (λ_ z=>nomatch z)<|y.2 e z⟩|ow d i=>exact⟨mv (λ_ z=>nomatch z) y.1,y.2⟩|dU b=>obtain⟨o,z⟩:=y;exact⟨o,kk a _ o hq (λ_ z=>nomatch z) z⟩|jM o=>obtain⟨sl,z⟩:=y;obtain⟨Vf,z',_⟩:=k a _ z<|.inr (by rw[hq];exactλz=>nomatch z);exact⟨Vf,z'⟩|eL o=>exact kk a _ o hq (λ_ z=>nomatch z) y
 obtain⟨e1,e2⟩:=I.Bi (h':=h') λb o hb q=>by
  have:∀vs,o.data≠.fields vs:=by rcases hb with rfl|⟨x,e⟩;obtain⟨m,⟨o',es,ep,ho,hd,_⟩,_⟩:=I.loc;rw[q] at ho;cases ho;rw[hd];exactλ_ z=>nomatch z;obtain⟨⟨v,o',ho,hd⟩,_⟩:=I.cell x b e;rw[q] at ho;cases ho;rw[hd];exactλ_ z=>nomatch z
  obtain⟨sl,e1,_⟩:=k b o q<|.inl this;exact⟨sl,e1⟩
 exact⟨I.ok,I.os,I.bare,I.le,I.nw,a8,e1,I.slot,I.tg,I.fl,λx c e=>⟨e2 x c e,(I.cell x c e).2⟩,I.len⟩
theorem Kp.upd{a:Addr}{o:Obj}{vs:Array Value}{f:Obj->Obj}{h:Heap}(ha:H a=none)(ho:h.get? a=some o)(hd:o.data=.fields vs):Kp X H h (h.update a f):=λb q e n=>by
 have:b≠a:=λz=>by subst z;rw[ho] at e;cases e;exact n.elim (λz=>z vs hd) λz=>z ha
 exact⟨q.slots,(Su _ _<|RU this).trans e,λ_=>rfl⟩
theorem DT{i v:Value}{c:Value}{dx:QB}{T:Addr}{ot:Obj}{ts vs:Array Value}{sl:Array (Option Value)}(I:Inv X σ H ρ s)
  (he:s.heap.get? e=some ⟨c,dx,.fields vs,sl⟩) (Er:T≠e) (Et:H T=none) (Fq:s.heap.get? T=some ot) (hd:ot.data=.fields ts) (h3:ts[3]?=some v)
  (hQ:∀h',Inv X σ H ρ {s with heap:=h'}->Kp X H s.heap h'->h'.get? e=some ⟨c,dx,.fields vs,sl⟩->(∃WO z9,h'.get? T=some WO/\WO.data=.fields z9/\z9[3]?=some i)->Q () {s with heap:=h'}):wpAny X.M X.A (setField (.ref T) 3 i) Q E s:=by
 have hsz:3<ts.size:=(Array.getElem?_eq_some_iff.mp h3).1;have kp:=Kp.upd (X:=X) (f:=Obj.mapFields (·.setIfInBounds 3 i)) Et Fq hd;refine Dr Fq hd hsz (hQ _ (I.mY (t':=s.toks) kp) kp ((Su _ _ Er).trans he) ⟨_,_,Pm _ Fq<|N4<|CY hd _,CY hd _,by simp[hsz]⟩)
theorem wg{c:Value}{dx:QB}{v:R7}(I:Inv X σ H ρ s)(x:HK X.n₀ H s.heap e c dx v)(hQ:∀h' w,Inv X σ H ρ {s with heap:=h'}->Kp X H s.heap h'->HK X.n₀ H h' e c dx (some w)->Q () {s with heap:=h'}):wpAny X.M X.A (noteFrame (.ref e) X.env) Q E s:=by
 obtain⟨fv,ol,L,hs,To,Tn⟩:=I.ok.Z3;have fo:PySem.frameOf X.env=PySem.frameOf fv:=by unfold PySem.frameOf;rw[Tn,To]
 have new:∀{s:Shared}{vs:Array Value}{sl:Array (Option Value)}{yc:Bool}{head:Value}{Q:Unit->Shared->Prop},Inv X σ H ρ s->s.heap.get? e=some ⟨c,dx,.fields vs,sl⟩->vs[2]?=some .none->1<vs.size->H e=none->X.n₀<=e ->
   (∀h',Inv X σ H ρ {s with heap:=h'}->Kp X H s.heap h'->HK X.n₀ H h' e c dx (some<|rawInt L)->Q () {s with heap:=h'}) ->
   wpAny X.M X.A (do let a <-frameOf X.env;let pl <-entryPlaceOf L yc;let b <-EntryCells.newEntry head a .none (rawInt L) .none pl;setField (.ref e) 1 b) Q E s:=by
  intro s vs sl yc head Q I he Nu hsz Et Ku hQ;have hl:s.heap.FunFrames X.g.base (fv::ol):=by rw[<-hs];exact I.stack
  have fe:oz X.stack=(fv::ol).filterMap (·.frame):=by rw[hs];rfl
  rw[fo];refine Zy<|wpAny_frameOf_fun (by rw[<-hs];exact I.ok.frames) hl To λbL dR=>?_;rw[<-fe] at dR;refine Zy<|wpAny_entryPlaceOf λpl iF=>?_;unfold EntryCells.newEntry newFields;refine Zy<|v8 ?_<|iF.sizeOk5 _ _ _ _ _;have Yf:e∉oz X.stack:=λhm=>by rw[fe] at hm;obtain⟨_,o,ho,hnf⟩:=hl.mem hm;rw[he] at ho;cases ho;exact hnf vs rfl
  have Kr:bL.get? e=some ⟨c,dx,.fields vs,sl⟩:=(dR.2.1 e Yf).trans he;have h3:([head,.ref L,.none,rawInt L,.none]++(if pl.isEmpty then List.replicate 6 Value.none else pl)).toArray[3]?=some (rawInt L):=ZA;generalize ([head,.ref L,.none,rawInt L,.none]++(if pl.isEmpty then List.replicate 6 Value.none else pl)).toArray=ts at h3;have Cf:=WK (h:=bL) {cls:=.type "traceback",dict:=none,data:=.fields ts} Kr;have k1:Kp X H s.heap (bL.push {cls:=.type "traceback",dict:=none,data:=.fields ts}):=λb o q n=>by by_cases hb:b∈oz X.stack;obtain⟨sl,z⟩:=dR.2.2 b o q;exact⟨sl,WK _ z,λy=>absurd hb y⟩;exact⟨o.slots,WK _ ((dR.2.1 b hb).trans q),λ_=>rfl⟩
  have kp:=k1.trans<|Kp.upd (f:=Obj.mapFields (·.setIfInBounds 1<|Value.ref bL.objs.size)) Et Cf rfl;have Er:bL.objs.size≠e:=OZ<|tC Kr;refine Dr Cf rfl hsz<|hQ _ (I.mY (t':=s.toks) kp) kp ⟨vs.setIfInBounds 1<|.ref bL.objs.size,sl,?_,by rw[Array.getElem?_setIfInBounds_ne (by decide)];exact Nu,Et,Ku,bL.objs.size,{cls:=.type "traceback",dict:=none,data:=.fields ts},ts,by simp[hsz],Er,?_,?_,?_,rfl,h3⟩;rw[Pm _ Cf<|N4<|CY rfl _];rfl;rw[dR.1];exact I.sz;rw[dR.1];exact I.a8.fresh<|Ru _;exact(Su _ _<|RU Er).trans (YO bL rfl)
 unfold noteFrame;simp only[Tn];obtain⟨vs,sl,he,Nu,Et,Ku,x⟩:=x;cases v with|none=>refine Zy<|Rf he rfl x ?_;rw[Zj (by decide)];exact new I he Nu (Array.getElem?_eq_some_iff.mp x).1 Et Ku λh'=>hQ h' _|some v=>obtain⟨T,ot,ts,h1,Er,X2,Ta,Fq,hd,h3⟩:=x;refine Zy<|Rf he rfl h1 ?_;rw[Ue (show (Value.ref T != Value.none)=true from by simp)];refine Zy<|Rf Fq hd h3 ?_;by_cases q:(v == rawInt L)=true;rw[Ue q];exact XS<|hQ s.heap _ I (λb o e _=>⟨o.slots,e,λ_=>rfl⟩) ⟨vs,sl,he,Nu,Et,Ku,T,ot,ts,h1,Er,X2,Ta,Fq,hd,h3⟩;rw[Zj q];refine Zy<|DT (i:=.none) I he Er Ta Fq hd h3 λh' I' kp Tj _=>?_;exact new I' Tj Nu (Array.getElem?_eq_some_iff.mp h1).1 Et Ku λh2 I2 k2 x2=>hQ h2 _ I2 (kp.trans k2) x2
theorem oy{c:Value}{dx:QB}{v:Value}(fr:QB)(I:Inv X σ H ρ s)(x:HK X.n₀ H s.heap e c dx (some v))(hQ:∀h',Inv X σ H ρ {s with heap:=h'}->Kp X H s.heap h'->HK X.n₀ H h' e c dx (some<|fr.elim .none λf=>rawInt f)->Q () {s with heap:=h'}):wpAny X.M X.A (setFlight (.ref e) fr) Q E s:=by obtain⟨vs,sl,he,Nu,Et,Ku,T,ot,ts,h1,Er,X2,Ta,Fq,hd,h3⟩:=x;unfold setFlight;refine Zy<|Rf he rfl h1 ?_;rw[Ue (show (Value.ref T != Value.none)=true from by simp)];exact DT I he Er Ta Fq hd h3 λh' I' kp Tj ⟨WO,z9,q1,q2,q3⟩=>hQ h' I' kp ⟨vs,sl,Tj,Nu,Et,Ku,T,WO,z9,h1,Er,X2,Ta,q1,q2,q3⟩
theorem yU.kp(kp:Kp X H s.heap h')(f:yU H s.heap b ns ds):yU H h' b ns ds:=by obtain⟨fs,k1,k2,k3,mA,⟨od,es,ep,n1,n2,n3⟩,k4⟩:=f;obtain⟨sl,q,_⟩:=kp b od n1<|.inl (by rw[n2];exactλ_ z=>nomatch z);exact⟨fs,k1,k2,k3,mA,⟨_,es,ep,q,n2,n3⟩,k4⟩
theorem passes(I:Inv X σ H ρ s)(x:XR X H s v xn)(k:∀s',Inv X σ H ρ s'->XR X H s' v xn->E v s'):notedBy X.M X.A X.env (cameBackBy X.M X.A X.env E) v s:=by
 obtain⟨e,C,dx,rfl,hm,hx,w,x⟩:=x;have back:∀{h':Heap} {w},Kp X H s.heap h'->HK X.n₀ H h' e (.ref C) dx w->XR X H {s with heap:=h'} (.ref e) xn:=λ{h' w} kp x=>by exact⟨e,C,dx,rfl,hm,hx.imp id λ⟨b,o,h1,h2,f⟩=>⟨b,o,h1,h2,f.kp kp⟩,w,x⟩
 refine wg I x λh' w' I' kp x'=>?_;obtain⟨vs,sl,he,_,_,_,T,ot,ts,h1,_⟩:=id x';refine Zy<|Rf he rfl h1 ?_;rw[Zj ZA];exact oy _ I' x' λh2 I2 k2 x2=>k _ I2 (back (kp.trans k2) x2)
end
end WL
end
section
set_option linter.all false
set_option maxRecDepth 100000
namespace WL
open PySem PySem.Spec PyProof.Rows L2 VP
section
variable{α β γ:Type}
theorem V8.Q1{R:Rl α β}{f:M α}{t:Sem β}{k:α->M γ}{P:γ->ax->Prop}(h:V8 X R t f)(I:Inv X σ H ρ s)(o:Out (Q1 f k ρ) P E')(hE:∀x r,E' x r->lh X H (XR X) E x r)(c:∀s' eD H' bw b a,Inv X eD H' bw s'->Le H H'->R H' s' b a->Out (k a bw) P E'->Q b s'):wpAny X.M X.A t Q E s:=
 h s σ H ρ Q E I (o.Q1.mono (λa r q s' eD H' b I' l r'=>c s' eD H' r b a I' l r' q) hE)
theorem Out.WI{R:Rl α β}{Q:β->Shared->Prop}{r:Res α}(o:Out r (lh X H R Q) (lh X H (XR X) E))(l:Le H H1):Out r (lh X H1 R Q) (lh X H1 (XR X) E):=o.mono (λ_ _ q=>q.le l) λ_ _ q=>q.le l
end
section
variable{X:Cx}{st:Stmt}{rest:List Stmt}{e a b c tg Up:Expr}{fe fa fb:M D}{f g:M Fl}{f1:M Bool}{pos:Pos}{σ:Sg}{H:Tm}{ρ:ax}{s:Shared}{Q:Flow->Shared->Prop}{E:Wg}
theorem aT:lj X [] aX:=λs σ H ρ Q E I o=>wpAny_execs_nil (o s σ H _ I Le.refl rfl)
theorem ae(h1:je X st f)(h2:lj X rest g):lj X (st::rest) (ai f g):=λs σ H ρ Q E I o=>wpAny_execs_cons (h1.Q1 I o (λ_ _ q=>q) λs1 Rx H1 aP b k I1 l1 r1 o1=>by cases k with|nx=>cases r1;exact h2 s1 Rx H1 aP Q E I1 (Out.WI o1 l1)|bk=>cases r1;exact o1 s1 Rx H1 _ I1 l1 rfl|ct=>cases r1;exact o1 s1 Rx H1 _ I1 l1 rfl|rt d=>obtain⟨v,rfl,r⟩:=r1;exact o1 s1 Rx H1 _ I1 l1 ⟨v,rfl,r⟩)
theorem D9{i:Nat}(h:je X st f):je X st (wK i f):=λs σ H ρ Q E I o=>by unfold wK VP.Q1 KQ at o;cases q:ρ[i]? with|none=>simp only[q] at o;exact o.elim|some t=>simp only[q] at o;cases t with|no=>exact o.elim|io d=>exact o.elim|sh d=>exact h s σ H ρ Q E I o|ow d=>obtain⟨x,_,l,_,hl⟩:=I.slot i _ q;obtain⟨H',_,I',l',_⟩:=I.fz hl<|.inl q;exact h s σ H' _ Q E I' (Out.WI o l')
theorem Inv.quiet(I:Inv X σ H ρ s):interactive X.env=false:=by simp[interactive,I.ok.kind]
theorem k7(he:PV X e fe)(hs:swapsWith e none pos.line X.env=pure false:=by rfl):je X (.Expr e pos) (qS fe):=λs σ H ρ Q E I o=>wpAny_Expr_any (he.Q1 I o (λ_ _ q=>q.x) λs1 H1 aP v d1 I1 l1 r1 o1=>o1 s1 σ H1 _ I1 l1 rfl) I.quiet hs
theorem pM(he:PV X e fe):je X (.Return (some e) pos) (bV fe):=λs σ H ρ Q E I o=>wpAny_Return_some (he.Q1 I o (λ_ _ q=>q.x) λs1 H1 aP v d1 I1 l1 r1 o1=>o1 s1 σ H1 _ I1 l1 ⟨v,rfl,r1⟩)
theorem jc{sa sb:List Stmt}(hc:PB X c f1)(ha:lj X sa f)(hb:lj X sb g):je X (.If c sa sb pos) (iD f1 f g):=λs σ H ρ Q E I o=>wpAny_If (hc.Q1 I o (λ_ _ q=>q.x) λs1 H1 aP v d1 I1 l1 r1 o1=>by cases r1;cases v with|true=>exact ha s1 σ H1 aP Q E I1 (Out.WI o1 l1)|false=>exact hb s1 σ H1 aP Q E I1<|Out.WI o1 l1)
def RQ(X:Cx)(σ:Sg)(H:Tm)(js:SK)(Q:Unit->Shared->Prop):Unit->ax->Prop:=λ_ bw=>∀s' eD H',Inv X eD H' bw s'->Le H H'->(∀x,(∀j∈js,X.N[j]?≠some x)->eD x=σ x)->Q () s'
theorem mf{Q:Unit->Shared->Prop}{d:D}{i:Nat}{x:Str}(own:Bool)(I:Inv X σ H ρ s)(hN:X.N.Nodup)(hi:X.N[i]?=some x)(hx:Loc X.env.scope x)(hf:X.fn=true\/X.env.scope.names.lookup x=some .local)(hr:if own then RF X H s v d else Rel H v d)(o:Out ((if own then zG i d else lO i d) ρ) (RQ X σ H [i] Q) E'):wpAny X.M X.A (storeName X.env x v) Q E s:=by
 have Tn:free ρ[i]?=true/\RQ X σ H [i] Q () (ρ.set i<|if own then .ow d else .sh d):=by
  have o':Out (if free ρ[i]? then .ok () (ρ.set i<|if own then .ow d else .sh d) else .no) (RQ X σ H [i] Q) E':=by cases own<;>exact o
  split at o';exact⟨‹_›,o'⟩;exact o'.elim
 refine I.store hN hi hx hf Tn.1 ?_ λs' H' I' l'=>Tn.2 s' _ H' I' l' λy z=>Zj λ(e:y=x)=>z i Uq (by rw[e];exact hi);cases own;exact .inl ⟨d,rfl,hr⟩;obtain⟨l,a,b⟩:=hr;exact .inr ⟨d,l,_,rfl,a,b,Ru _⟩
theorem Eb(i:Nat){x:Str}{Bg:Pos}(hN:X.N.Nodup)(hi:X.N[i]?=some x)(hx:Loc X.env.scope x)(he:PV X e fe)(hs:swapsWith e (some<|.Name x Bg) pos.line X.env=pure false:=by rfl)(hf:X.fn=true\/X.env.scope.names.lookup x=some .local:=by exact zX):je X (.Assign [.Name x Bg] e pos) (aM i fe):=λs σ H ρ Q E I o=>wpAny_Assign_Name (he.Q1 I o (λ_ _ q=>q.x) λs1 H1 aP v d1 I1 l1 r1 o1=>mf false I1 hN hi hx hf r1<|o1.Q1.mono (λ_ _ q s' eD H' I' l' _=>q s' eD H' _ I' (l1.trans l') rfl) λ_ _ q=>q) hs
theorem QH(i:Nat){x:Str}{Bg:Pos}(hN:X.N.Nodup)(hi:X.N[i]?=some x)(hx:Loc X.env.scope x)(he:PF X e fe)(hs:swapsWith e (some<|.Name x Bg) pos.line X.env=pure false:=by rfl)(hf:X.fn=true\/X.env.scope.names.lookup x=some .local:=by exact zX):je X (.Assign [.Name x Bg] e pos) (fq i fe):=λs σ H ρ Q E I o=>wpAny_Assign_Name (he.Q1 I o (λ_ _ q=>q.x) λs1 H1 aP v d1 I1 l1 r1 o1=>mf true I1 hN hi hx hf r1<|o1.Q1.mono (λ_ _ q s' eD H' I' l' _=>q s' eD H' _ I' (l1.trans l') rfl) λ_ _ q=>q) hs
def sP(X:Cx)(tg:Expr)(js:SK)(g:D->M Unit):Prop:=∀s σ H ρ v d Q E,Inv X σ H ρ s->Rel H v d->Out (g d ρ) (RQ X σ H js Q) (lh X H (XR X) E)->wpAny X.M X.A (assign tg X.env v) Q E s
def sQ(X:Cx)(ts:WM)(is:SK):Prop:=∀s σ H ρ vs ds Q E,Inv X σ H ρ s->aC H vs ds->Out (p7 is ds ρ) (RQ X σ H is Q) (lh X H (XR X) E)->wpAny X.M X.A (assignInOrder ((assignEach ts X.env).map (·.2)) vs) Q E s
theorem yT(i:Nat){x:Str}(hN:X.N.Nodup)(hi:X.N[i]?=some x)(hx:Loc X.env.scope x)(hf:X.fn=true\/X.env.scope.names.lookup x=some .local:=by exact zX):sP X (.Name x pos) [i] (aj i):=λs σ H ρ v d Q E I r o=>zZ (mf false I hN hi hx hf r o)
theorem kZ:sQ X [] []:=λs σ H ρ vs ds Q E I r o=>by cases r with|nil=>exact assignInOrder_nil (o s σ H I Le.refl λ_ _=>rfl)|cons h t=>exact o.elim
theorem u5(i:Nat){is:SK}{x:Str}{es:WM}(hN:X.N.Nodup)(hi:X.N[i]?=some x)(hx:Loc X.env.scope x)(h2:sQ X es is)(hf:X.fn=true\/X.env.scope.names.lookup x=some .local:=by exact zX) (hs:(assignEach (.Name x pos::es) X.env).map (·.2)=assign (.Name x pos) X.env::(assignEach es X.env).map (·.2):=by rfl):sQ X (.Name x pos::es) (i::is):=λs σ H ρ vs ds Q E I r o=>by cases r with|nil=>exact o.elim|cons h t=>rw[hs];exact assignInOrder_cons (zZ<|mf false I hN hi hx hf h<|o.Q1.mono (λ_ _ q s' eD H' I' l' g=>h2 s' eD H' _ _ _ Q E I' (aC.le l' t)<|q.mono (λ_ _ q s2 QP H2 I2 l2 g2=>q s2 QP H2 I2 (l'.trans l2) λx hx=>(g2 x λj hj=>hx j<|WW _ hj).trans<|g x λj hj=>hx j (by simp at hj;subst hj;exact Uq)) λ_ _ q=>q.le l') λ_ _ q=>q)
theorem uh:∀{is:SK}{ds:Zm}{ρ:ax}{P:Unit->ax->Prop}{E:Xn->ax->Prop},Out (p7 is ds ρ) P E->ds.length=is.length|[],[],_,_,_,_=>rfl|i::is,d::ds,ρ,P,E,o=>by have o':=o.Q1;unfold lO at o';split at o';exact congrArg Nat.succ<|uh (is:=is) o';exact o'.elim
theorem pK{es:WM}{k:Nat}{is:SK}(hc:X.calm=true)(h:sQ X es is)(hn:(assignEach es X.env).length=is.length:=by rfl)(iG:(assignEach es X.env).findIdx? (·.1)=none:=by rfl):sP X (.Tuple es k pos) is (dy is):=λs σ H ρ v d Q E I r o=>by cases d with|tup ds=>obtain⟨a,us,rfl,rv,ht,hz⟩:=I.tup<|.inl r;refine assign_Tuple_tuple (I.ok.hd hc) ht (by simp[hn,rv.length,uh o]) iG λh' hx=>?_;have I1:Inv X σ H ρ {s with heap:=h'}:=I.kept (t':=s.toks) λb o e=>hx b o (QA<|tC e) e;exact h _ σ H ρ _ ds Q E I1 rv o|_=>exact o.elim
def XE(X:Cx)(H:Tm)(E:Wg)(v:Value)(s':Shared):Prop:=∃eD H' bw x,Inv X eD H' bw s'/\Le H H'/\XR X H' s' v x/\lh X H (XR X) E x bw
theorem XE.passes(h:XE X H E v s):notedBy X.M X.A X.env (cameBackBy X.M X.A X.env E) v s:=by obtain⟨eD,H',bw,x,I,l,r,k⟩:=h;exact WL.passes I r λs' I' r'=>k s' eD H' v I' l r'
theorem lh.xe{x:Xn}{r:ax}(k:lh X H (XR X) E x r)(l:Le H H1):lh X H1 (XR X) (XE X H E) x r:=λs' eD H' v I' l' r'=>⟨eD,H',_,x,I',l.trans l',r',k⟩
theorem lh.xx{x:Xn}{r:ax}(k:lh X H (XR X) E x r)(l:Le H H1):OK X σ H1 (XR X) (XE X H E) x r:=(k.xe l).x
def V2(fp:WC)(H H':Tm):Prop:=∀a e,H a=some e->e.fast->(∃o d,e=.pin o d)\/a∈fp->H' a=some e
theorem Le.lf(l:Le H H'):V2 fp H H':=λa e q f _=>l a e q f
theorem V2.p(l:V2 fp H H'):jD H H':=λ_ _ _ q=>l _ _ q trivial (.inl ⟨_,_,rfl⟩)
def QT(fp:WC)(H H':Tm):Prop:=∀a e,a∉fp->H a=some e->e.fast->H' a=some e
structure rk(g:Gb)(tg:Expr)(it:Addr)(fp:WC)(ds:Zm)(St:Nat->Tm->Prop):Prop where
 le:∀i H H',St i H->V2 fp H H'->St i H'
 item:∀(X:Cx)(σ:Sg)(i:Nat)(H:Tm)(ρ:ax)(s:Shared)(d:D)(Q:Wg)(E:Wg),X.g=g->X.calm=true->Inv X σ H ρ s->(∀b∈fp,X.H₀ b=none)->St i H->ds[i]?=some d->(∀s' H' u,Inv X σ H' ρ s'->QT fp H H'->Rel H' u d->St (i+1) H'->Q u s')->wpAny X.M X.A (pyNext<|.ref it) (λr s1=>∃u,r=some u/\wpAny X.M X.A (letOwnedTupleGo tg (.ref it) u) (λ_ s2=>Q u s2) E s1) E s
 done:∀(X:Cx)(σ:Sg)(H:Tm)(ρ:ax)(s:Shared)(Q:Shared->Prop)(E:Wg),X.g=g->X.calm=true->Inv X σ H ρ s->(∀b∈fp,X.H₀ b=none)->St ds.length H->(∀s' H',Inv X σ H' ρ s'->QT fp H H'->Q s')->wpAny X.M X.A (pyNext<|.ref it) (λr s1=>r=none/\Q s1) E s
 self:∀(A:Around)(s:Shared)(i:Nat)(H:Tm)(Q:Wg)(E:Wg),nI g H s.heap->St i H->Q (.ref it) s->wpAny (model g.prog g.w) A (pyIter<|.ref it) Q E s
def pV(X:Cx)(tg Up:Expr)(f:M (List D)):Prop:=∀s σ H ρ Q E,Inv X σ H ρ s->Out (f ρ) (λds bw=>∀(s':Shared)(H':Tm)(it:Addr)(fp:WC)(St:Nat->Tm->Prop),Inv X σ H' bw s'->Le H H'->rk X.g tg it fp ds St->St 0 H'->(∀b∈fp,(∃o,H' b=some (.eL o))/\(∀e,H b=some e->¬e.fast)/\X.H₀ b=none)->Q (.ref it) s') (OK X σ H (XR X) E)->wpAny X.M X.A (eval Up X.env) (λv s1=>wpAny X.M X.A (pyIter v) Q E s1) E s
theorem QT.of(l:Le H H1)(x:QT fp H1 H2)(hn:∀b∈fp,∀e,H b=some e->¬e.fast):Le H H2:=λa e q f=>x a e (λz=>hn a z e q f) (l a e q f) f
theorem D8{it:M (List D)}{gf:D->M Unit}{body:List Stmt}(ve:X.fn=true)(hc:X.calm=true)(hi:pV X tg Up it)(hg:sP X tg js gf)(hb:lj X body f)(hs:∀x,foldedSetIterable Up X.env x=pure x:=by exact Sf):je X (.For tg Up body [] pos) (ip it gf f):=λs σ H ρ Q E I o=>by
 refine wpAny_For (hi s σ H ρ _ E I<|o.Q1.mono (λds aP o1 s1 H1 YC fp St I1 l1 T W0 vf=>?_) λ_ _ q=>q.x) hs;have h0:∀b∈fp,X.H₀ b=none:=λb hb=>(vf b hb).2.2;refine codeAny_forLoop_any (λn s'=>∃i eD H' bw,n=ds.length-i/\i<=ds.length/\Inv X eD H' bw s'/\Le H H'/\St i H'/\Out (loop gf f (ds.drop i) bw) (lh X H RS Q) (lh X H (XR X) E)) ?_ ds.length ⟨0,σ,H1,aP,rfl,Hq _,I1,l1,W0,o1⟩;rintro n s2 ⟨i,QP,H2,rg,rfl,Wn,I2,l2,pB,o2⟩;have px:∀{α:Type}{t:Sem α}{Q':α->Shared->Prop}{s':Shared},wpAny X.M X.A t Q' (XE X H E) s'->wpAny X.M X.A t Q' (notedBy X.M X.A X.env<|cameBackBy X.M X.A X.env E) s':=λh=>UA h (λ_ _ q=>q) λ_ _ z=>z.passes;by_cases dX:i<ds.length;rw[Vt dX] at o2;refine px<|vi (T.item X QP i H2 rg s2 ds[i] (λu s'=>∃H',Inv X QP H' rg s'/\Le H H'/\Rel H' u ds[i]/\St (i+1) H') _ rfl hc I2 h0 pB (by simp[dX]) λs' H' u I' x r st=>⟨H',I',x.of l2 λb hb=>(vf b hb).2.1,r,st⟩) λr s3 hr=>?_;obtain⟨u,hr,h3⟩:=hr;subst hr;refine px<|vi h3 λ_ s4 ⟨H4,I4,l4,r4,W2⟩=>px<|hg s4 QP H4 rg u _ _ _ I4 r4<|(Out.Q1 o2).mono (λ_ Ek o5 s5 σ5 H5 I5 l5 _=>?_) λ_ _ q=>q.xe l4;have l45:=l4.trans l5;refine px<|hb.Q1 I5 o5 (λ_ _ q=>q.xe l45) λs6 Mp H6 Rw fl k I6 l6 r6 o6=>?_;have WH:=l45.trans l6;have Vk:=T.le _ _ _ W2 (l5.trans l6).lf;cases k with|nx=>cases r6;exact⟨_,Zl,i+1,Mp,H6,Rw,rfl,dX,I6,WH,Vk,o6⟩|ct=>cases r6;exact⟨_,Zl,i+1,Mp,H6,Rw,rfl,dX,I6,WH,Vk,o6⟩|bk=>cases r6;exact o6 s6 Mp H6 _ I6 WH rfl|rt d=>obtain⟨v,rfl,r⟩:=r6;exact o6 s6 Mp H6 _ I6 WH ⟨v,rfl,r⟩
 have e:i=ds.length:=Zl;subst e;rw[List.drop_length] at o2;refine px<|vi (T.done X QP H2 rg s2 _ _ rfl hc I2 h0 pB λs' H' I' x=>o2 s' QP H' .next I' (x.of l2 λb hb=>(vf b hb).2.1) rfl) λr s3 hr=>?_;obtain⟨hr,h3⟩:=hr;subst hr;exact wpAny_execs_nil h3
end
end WL
end
section
set_option linter.all false
set_option maxRecDepth 100000
namespace WL
open PySem PySem.Spec PyProof.Rows L2 VP
section
variable{X:Cx}{e a b c tg Up:Expr}{es:WM}{fe fa fb:M D}{f g:M Fl}{ft:M Bool}{pos p:Pos}{x:Str}{σ:Sg}{H:Tm}{ρ:ax}{s:Shared}{ds:Zm}{us:Zk}{E:Wg}
theorem va{body:List Stmt}(ve:X.fn=true)(hc:PB X c ft)(hb:lj X body f):je X (.While c body [] pos) (pq ft f):=λs σ H ρ Q E I o=>by have px:∀{α:Type}{t:Sem α}{Q':α->Shared->Prop}{s':Shared},wpAny X.M X.A t Q' (XE X H E) s'->wpAny X.M X.A t Q' (notedBy X.M X.A X.env<|cameBackBy X.M X.A X.env E) s':=λh=>UA h (λ_ _ q=>q) λ_ _ z=>z.passes;refine wpAny_While<|codeAny_whileLoop (λn s'=>∃eD H' bw,Inv X eD H' bw s'/\Le H H'/\Out (fT ft f n bw) (lh X H RS Q) (lh X H (XR X) E)) ?_ 10000 ⟨σ,H,ρ,I,Le.refl,o⟩;rintro n s1 ⟨Rx,H1,aP,I1,l1,o1⟩;cases n with|zero=>exact o1.elim|succ n=>refine px<|hc.Q1 I1 o1 (λ_ _ q=>q.xx l1) λs2 H2 rg b d I2 l2 r2 o2=>?_;cases r2;have YG:=l1.trans l2;cases b with|false=>exact wpAny_execs_nil (o2 s2 Rx H2 .next I2 YG rfl)|true=>refine px<|hb.Q1 I2 o2 (λ_ _ q=>q.xe YG) λs3 Xc H3 Xb fl k I3 l3 r3 o3=>?_;have l:=YG.trans l3;cases k with|nx=>cases r3;exact⟨n,GC n,Xc,H3,Xb,I3,l,o3⟩|ct=>cases r3;exact⟨n,GC n,Xc,H3,Xb,I3,l,o3⟩|bk=>cases r3;exact o3 s3 Xc H3 _ I3 l rfl|rt d=>obtain⟨v,rfl,r⟩:=r3;exact o3 s3 Xc H3 _ I3 l ⟨v,rfl,r⟩
theorem Inv.lw{aS its':Zk}{n:Nat}{f:Array Value->Array Value}{ds':Zm}(I:Inv X σ H ρ s)(hl:H l=some (.ow (.lst ds) i))(e:s.heap.get? l=some {cls:=.type "list",data:=.seq aS.toArray n})(hf:f aS.toArray=its'.toArray)(hv:aC H its' ds')(hz:ds'.length<=sizeLine) : Inv X σ (upd H l<|.ow (.lst ds') i) (cN i (.lst ds') ρ) {s with heap:=s.heap.update l (Obj.mapSeq f)}:=by have q:=PySem.IsL.update e f;rw[hf] at q;exact(I.wr (t':=s.toks) (d':=.lst ds') hl (.inl rfl) (λb o hb z=>(Su s.heap (Obj.mapSeq f)<|RU hb).trans z) ⟨_,q⟩ (λlp=>⟨hz,its',hv.p lp,_,q⟩) λz=>nomatch z).1
theorem Le.ow(h:H l=some (.ow d i)):Le H (upd H l<|.ow d' j):=λa e q f=>(aI λz=>by subst z;rw[h] at q;cases q;exact f).trans q
theorem Inv.lo(I:Inv X σ H ρ s)(hl:H l=some (.ow (.lst ds) i)):∃us n,aC H us ds/\s.heap.get? l=some {cls:=.type "list",data:=.seq us.toArray n}/\ds.length<=sizeLine:=let ⟨⟨z,us,r,n,e⟩,_⟩:=I.a8 l _ hl;⟨us,n,r,e,z⟩
theorem jr{g:D->Y2}{P:Unit->ax->Prop}{E':Xn->ax->Prop}(o:Out (hO i g ρ) P E'):∃d d',own ρ[i]?=some d/\g d=some d'/\P () (cN i d' ρ):=by unfold hO at o;split at o;rename_i d q;split at o;exact⟨d,_,q,‹_›,o⟩;exact o.elim;exact o.elim
theorem isLst_own{i:Nat}(h:isLst (own ρ[i]?)=true):∃ds,own ρ[i]?=some (.lst ds):=by unfold isLst at h;split at h;exact⟨_,‹_›⟩;cases h
theorem uI{α:Type}{i:Nat}{R:Rl D Value}{fe:M D}{k:D->M α}{P:α->ax->Prop}{E':Xn->ax->Prop}{Q:Wg}{name:Str}{id:String}{WB dj:Pos}(slot:Slot "list" name id)(hty:typeOf (.builtin id)=pure (.type "method_descriptor"))(he:WP X R (eval e X.env) fe)(hN:X.N[i]?=some x)(hv:mz X.env.scope x)
  (hd:(x == ("__debug__" : Str))=false) (gG:(x == ("__classdict__" : Str))=false) (I:Inv X σ H ρ s) (ho:isLst (own ρ[i]?)=true) (o:Out (Q1 fe k ρ) P E') (hE:∀x r,E' x r->OK X σ H (XR X) E x r)
  (c:∀s1 H1 aP l v d,Inv X σ H1 aP s1->Le H H1->σ x=some (.ref l)->R H1 s1 v d->Out (k d aP) P E'->wpAny X.M X.A (call (.builtin id) [.ref l,v]) Q E s1)
  (iX:attributeBase (.Name x p) name X.env (eval (.Name x p) X.env)=eval (.Name x p) X.env)
  (vI:((backTo dj<|starEach [e] X.env).all (λx=>!x.1)&&(backToKw dj<|keywordEach [] X.env).all (λx=>x.1.isSome)&&decide ([e].length+([]:List Keyword).length+(if ([]:List Keyword).isEmpty then 0 else 1)<30))=true)
  (iY:(WB.endLine == dj.line)=true) (iG:starEach [e] X.env=[(false,eval e X.env)]):wpAny X.M X.A (eval (.Call (.Attribute (.Name x p) name WB) [e] [] dj) X.env) Q E s:=by
 obtain⟨ds,hq⟩:=isLst_own ho;obtain⟨l,hu,hl⟩:=I.ownAt hN hv hq;obtain⟨us,n,_,hg,_⟩:=I.lo hl;refine wpAny_Call_method_late iX vI iY rfl<|cg I hv hu ⟨"list",id,PySem.F.plainAttrs_list,slot,hty,⟨_,hg,rfl⟩,λa e=>by cases e;exact⟨_,hg,rfl⟩,?_⟩ hd gG;rw[iG];refine G2 rfl<|Calls.evalArgs_plain ?_;refine Ux (he.Q1 I o hE λs1 H1 aP v d I1 l1 r1 o1=>C0<|c s1 H1 aP l v d I1 l1 hu r1 o1)
theorem D6(i:Nat){WB dj:Pos}(he:PV X e fe)(hN:X.N[i]?=some x:=by rfl)(hv:mz X.env.scope x:=by exact FA)(hd:Wk x:=by decide)(gG:GU x:=by decide)
  (iX:attributeBase (.Name x p) "append" X.env (eval (.Name x p) X.env)=eval (.Name x p) X.env:=by rfl)
  (vI:((backTo dj<|starEach [e] X.env).all (λx=>!x.1)&&(backToKw dj<|keywordEach [] X.env).all (λx=>x.1.isSome)&&decide ([e].length+([]:List Keyword).length+(if ([]:List Keyword).isEmpty then 0 else 1)<30))=true:=by rfl)
  (iY:(WB.endLine == dj.line)=true:=by rfl) (iG:starEach [e] X.env=[(false,eval e X.env)]:=by rfl) (hs:swapsWith (.Call (.Attribute (.Name x p) "append" WB) [e] [] dj) none pos.line X.env=pure false:=by rfl) :
  je X (.Expr (.Call (.Attribute (.Name x p) "append" WB) [e] [] dj) pos) (jT i fe):=λs σ H ρ Q E I o=>by
 unfold jT at o;split at o;refine wpAny_Expr_any (uI PySem.F.slot_list_append PySem.F.type_list_append he hN hv hd gG I ‹_› o (λ_ _ q=>q.x) (λs1 H1 aP l v d I1 l1 hu r1 o1=>?_) iX vI iY iG) I.quiet hs;obtain⟨d0,d1,q0,q1,k⟩:=jr o1.Q1;obtain⟨l',uk,hl⟩:=I1.ownAt hN hv q0;rw[hu] at uk;cases uk;cases d0 with
 |lst xs=>
  simp only[dJ] at q1;split at q1;cases q1;obtain⟨us,n,r,hg,_⟩:=I1.lo hl;rename_i Yy _;have hz:us.length<sizeLine:=by rw[r.length,UN];exact Yy
  refine Pf F.slot_list_append ⟨_,hg,rfl⟩ F.entry_list_append (F.args_list_append_2 _ _) (PySem.list_append l us.toArray n v (by rw[Vy];lia)) ⟨hg,?_⟩;exact k _ _ _ _ (I1.lw (its':=us++[v]) hl hg ZA (r.app<|.cons r1 .nil) (by rw[U0,<-r.length];exact hz)) (l1.trans<|Le.ow hl) rfl;cases q1
 |_=>cases q1
 exact o.elim
theorem QG(i:Nat){WB dj:Pos}(he:PF X e fe)(hN:X.N[i]?=some x:=by rfl)(hv:mz X.env.scope x:=by exact FA)(hd:Wk x:=by decide)(gG:GU x:=by decide)
  (iX:attributeBase (.Name x p) "extend" X.env (eval (.Name x p) X.env)=eval (.Name x p) X.env:=by rfl)
  (vI:((backTo dj<|starEach [e] X.env).all (λx=>!x.1)&&(backToKw dj<|keywordEach [] X.env).all (λx=>x.1.isSome)&&decide ([e].length+([]:List Keyword).length+(if ([]:List Keyword).isEmpty then 0 else 1)<30))=true:=by rfl)
  (iY:(WB.endLine == dj.line)=true:=by rfl) (iG:starEach [e] X.env=[(false,eval e X.env)]:=by rfl) (hs:swapsWith (.Call (.Attribute (.Name x p) "extend" WB) [e] [] dj) none pos.line X.env=pure false:=by rfl) :
  je X (.Expr (.Call (.Attribute (.Name x p) "extend" WB) [e] [] dj) pos) (DB i fe):=λs σ H ρ Q E I o=>by
 unfold DB at o;split at o;refine wpAny_Expr_any (uI PySem.F.slot_list_extend PySem.F.type_list_extend he hN hv hd gG I ‹_› o (λ_ _ q=>q.x) (λs1 H1 aP l v d I1 l1 hu r1 o1=>?_) iX vI iY iG) I.quiet hs;obtain⟨d0,d1,q0,q1,k⟩:=jr o1.Q1;obtain⟨l',uk,hl⟩:=I1.ownAt hN hv q0;rw[hu] at uk;cases uk;obtain⟨b,rfl,hb⟩:=r1;cases d0 with
 |lst xs=>
  cases d with
  |lst ys=>
   simp only[Bp] at q1;split at q1;cases q1;obtain⟨us,n,r,hg,z⟩:=I1.lo hl;obtain⟨ws,n2,r2,Yi,z2⟩:=I1.lo hb;rename_i hz;rw[<-r.length,<-r2.length,nK] at hz;have hsz:us.toArray.size+ws.toArray.size<=sizeLine:=by rw[Vy,Vy];exact hz
   refine Pf F.slot_list_extend ⟨_,hg,rfl⟩ F.entry_list_extend (F.args_list_extend_2 _ _) (AutoSeq1.list_extend_list_list_0 l us.toArray n b ws.toArray n2 (by rw[uF hsz,Bool.and_false];exact Gn) (by rw[Vy];lia) Zl) ⟨hg,Yi,?_⟩;exact k _ _ _ _ (I1.lw (its':=us++ws) hl hg ZA (r.app r2) (by rw[U0,<-r.length,<-r2.length];exact hz)) (l1.trans<|Le.ow hl) rfl;cases q1
  |_=>cases q1
 |_=>cases q1
 exact o.elim
theorem PU(i:Nat){WB dj:Pos}(hN:X.N[i]?=some x:=by rfl)(hv:mz X.env.scope x:=by exact FA)(hd:Wk x:=by decide)(gG:GU x:=by decide)(iX:attributeBase (.Name x p) "pop" X.env (eval (.Name x p) X.env)=eval (.Name x p) X.env:=by rfl) (iY:(WB.endLine == dj.line)=true:=by rfl):PV X (.Call (.Attribute (.Name x p) "pop" WB) [] [] dj) (CV i):=λs σ H ρ Q E I o=>by
 unfold CV at o;split at o;rename_i xs q;split at o;rename_i d q2;obtain⟨l,hu,hl⟩:=I.ownAt hN hv q;obtain⟨us,n,r,hg,z⟩:=I.lo hl;rw[List.getLast?_eq_getElem?] at q2;obtain⟨u,Wt,ru⟩:=r.get q2;refine wpAny_Call_method0_late iX iY<|cg I hv hu ⟨"list",_,PySem.F.plainAttrs_list,PySem.F.slot_list_pop,PySem.F.type_list_pop,⟨_,hg,rfl⟩,λa e=>by cases e;exact⟨_,hg,rfl⟩,G2 rfl<|PySem.evalArgs_none ?_⟩ hd gG;have hy:us.toArray[us.toArray.size-1]?=some u:=by rw[Vy,r.length];simpa using Wt
 refine Pf F.slot_list_pop ⟨_,hg,rfl⟩ F.entry_list_pop (F.args_list_pop_1 _) (MeetsSeq.list_pop_last l us.toArray n u hy (by rw[Vy,r.length];exact z)) ⟨hg,?_⟩;have I2:=I.lw (its':=us.dropLast) hl hg (f:=λa=>a.eraseIdxIfInBounds<|us.toArray.size-1) (by rw[Vy,List.eraseIdxIfInBounds_toArray,tIx]) (ds':=xs.dropLast) (by rw[List.dropLast_eq_take,List.dropLast_eq_take,r.length];exact r.take _) (by rw[List.length_dropLast];lia);exact o _ _ _ I2 (Le.ow hl)<|ru.le<|Le.ow hl;exact o.elim;exact o.elim
theorem Q0W(i:Nat){p1 p2 p3:Pos}{fk fv:M D}{value:Expr}(hk:PV X b fk)(TK:PV X value fv)(hN:X.N[i]?=some x:=by rfl)(hv:mz X.env.scope x:=by exact FA)(hd:Wk x:=by decide)(gG:GU x:=by decide)
  (ha:∀v,assign (.Subscript (.Name x p1) b p2) X.env v=(do
   let ov <-holding [v] (eval (.Name x p1) X.env);let iv <-holding [v,ov] (eval b X.env)
   standAt p2
   holding [v,ov,iv] (setItem ov iv v)
   release [v,ov,iv] []):=by exact Sf) (hs:swapsWithSole [.Subscript (.Name x p1) b p2] value p3.line X.env=pure false:=by rfl) (hw:swappedStores [.Subscript (.Name x p1) b p2] value X.env=pure none:=by rfl)
  (h1:(assignEach [.Subscript (.Name x p1) b p2] X.env).map (·.2)=[assign (.Subscript (.Name x p1) b p2) X.env]:=by rfl):je X (.Assign [.Subscript (.Name x p1) b p2] value p3) (i8 i fk fv):=λs σ H ρ Q E I o=>
 wpAny_Assign_stores (TK.Q1 I o (λ_ _ q=>q.x) λs1 H1 aP v d1 I1 l1 r1 o1=>by
  rw[h1];show wpAny X.M X.A (assign (.Subscript (.Name x p1) b p2) X.env v) _ E s1;rw[ha];split at o1;rename_i hL;obtain⟨xs,hq⟩:=isLst_own hL;obtain⟨l,hu,hl⟩:=I1.ownAt hN hv hq;refine Zy<|Vs<|cg I1 hv hu (Zy<|Vs<|hk.Q1 I1 o1 (λ_ _ q=>(q.le l1).x) λs2 H2 rg iv k I2 l2 r2 o2=>?_) hd gG;refine Zy<|Oq<|Zy<|Vs ?_;obtain⟨d0,d2,q0,q1,kk⟩:=jr o2.Q1;obtain⟨l',uk,qC⟩:=I2.ownAt hN hv q0;rw[hu] at uk;cases uk;cases d0 with
  |lst xs=>
   cases k with
   |int k=>
    simp only[setAt] at q1;cases q2:yh xs.length k with
    |none=>rw[q2] at q1;cases q1|some j=>
     rw[q2] at q1;cases q1;obtain⟨t,rfl⟩:=r2;obtain⟨us,n,r,hg,z⟩:=I2.lo qC;have hj:Rd us.length k=some j:=by rw[r.length];exact q2
     obtain⟨h1,h2,h3,h4⟩:=rN hj;have hn:=rQ;have SR:=r.length;have fin:wpAny X.M X.A (release [v,.ref l,.int k t] []) (λ_=>Q .next) E {s2 with heap:=s2.heap.update l (Obj.mapSeq (·.setIfInBounds j v))}:=wpAny_release<|kk _ _ _ _ (I2.lw (its':=us.set j v) (f:=(·.setIfInBounds j v)) qC hg ZA (aC.set (r1.le l2) j r) (by rw[List.length_set];exact z)) (l1.trans<|l2.trans<|Le.ow qC) rfl;by_cases h0:0<=k;rw[seqIndex_of h0 h4] at h1;exact W.ki_setAt hg h0 Zl (by rw[Vy];exact h4) (by rw[RY h1];exact fin);rw[seqIndex_neg Zl h3] at h1;exact W.ki_setBack hg Zl (by rw[Vy];exact h3) Zl (by rw[Vy,RY h1];exact fin)
   |_=>cases q1
  |_=>cases q1
  exact o1.elim) hs hw
theorem bu:vn X [] (mL []):=λpos s σ H ρ Q E I o=>C0 (o s H [] I Le.refl .nil)
theorem aD{fl:List (M D)}(ha:PV X e fe)(hr:vn X es (mL fl))(hs:Vj X e es:=by rfl):vn X (e::es) (mL (fe::fl)):=λpos s σ H ρ Q E I o=>by rw[hs];refine Ux (rest:=backTo pos<|starEach es X.env) (ha.Q1 I o (λ_ _ q=>q) λs1 H1 aP v d I1 l1 r1 o1=>(hr pos).Q1 I1 o1 (λ_ _ q=>q.le l1) λs2 H2 rg us ds I2 l2 r2 o2=>o2 s2 H2 _ I2 (l1.trans l2)<|.cons (r1.le l2) r2)
theorem PX{x1}{fl:List (M D)}(h:vn X es (mL fl)):PV X (.Tuple es x1 pos) (bU fl):=λs σ H ρ Q E I o=>wpAny_Tuple_spliced ((h pos).Q1 I o (λ_ _ q=>q) λs1 H1 aP us ds I1 l1 r1 o1=>by obtain⟨d,e,q⟩:=o1.opt;unfold DV at e;split at e;cases e;rename_i hz;rw[<-UN] at hz;obtain⟨H',I',l',r'⟩:=I1.zK s1.toks r1 hz;exact⟨by rw[r1.length];exact hz,q _ H' _ I' (l1.trans l') r'⟩;cases e)
theorem se{fl:List (M D)}(h:vn X es (mL fl)):PF X (.List es pos) (d6 fl):=λs σ H ρ Q E I o=>wpAny_List_spliced ((h pos).Q1 I o (λ_ _ q=>q) λs1 H1 aP us ds I1 l1 r1 o1=>by obtain⟨d,e,q⟩:=o1.opt;unfold zD at e;split at e;cases e;rename_i hz;rw[<-UN] at hz;obtain⟨H',I',l',r'⟩:=I1.YW s1.toks r1 hz;exact⟨by rw[r1.length];exact hz,q _ H' _ I' (l1.trans l') r'⟩;cases e)
end
end WL
end
section
set_option linter.all false
set_option maxRecDepth 100000
namespace WL
open PySem PySem.Spec PyProof.Rows L2 VP
section
variable{X:Cx}{e a b c tg Up:Expr}{fe fa fb:M D}{pos p:Pos}{x:Str}{σ:Sg}{H:Tm}{ρ:ax}{s:Shared}{ds:Zm}{us:Zk}{E:Wg}
theorem Inv.turn{t':Nat}{h':Heap}{H':Tm}{fp:WC}(I:Inv X σ H ρ s)(hf:∀b∈fp,(∃o,H b=some (.eL o))/\X.H₀ b=none)(k:∀b o,b∉fp->s.heap.get? b=some o->h'.get? b=some o)(same:∀b,b∉fp->b<s.heap.objs.size->H' b=H b) (new:jD H H'->∀b e,b∈fp\/s.heap.objs.size<=b->H' b=some e->mR X.g H' h' b e/\(∀d i,e≠.ow d i)/\(b∈fp->∃o,e=.eL o)):Inv X σ H' ρ {s with heap:=h',toks:=t'}/\QT fp H H':=by
 have dX:∀{b e},H b=some e->b<s.heap.objs.size:=λq=>I.a8.lt q;have no:∀{b d i},H b=some (.ow d i)->b∉fp:=λ{b d i} q hb=>by obtain⟨⟨o,z⟩,_⟩:=hf b hb;rw[q] at z;cases z
 have sm:∀b,¬(b∈fp\/s.heap.objs.size<=b)->H' b=H b:=λb z=>same b (λy=>z<|.inl y)<|Nat.lt_of_not_le λy=>z<|.inr y;have ow':jD H H'->∀{b d i},H' b=some (.ow d i)->H b=some (.ow d i):=λlp {b d i} q=>by by_cases z:b∈fp\/s.heap.objs.size<=b;exact absurd rfl<|(new lp b _ z q).2.1 d i;rw[<-sm b z];exact q
 have lp:jD H H':=λb o d q=>(sm b λz=>z.elim (λz=>by obtain⟨⟨o,y⟩,_⟩:=hf b z;rw[q] at y;cases y) λz=>absurd (dX q)<|Nat.not_lt.mpr z).trans q;refine⟨I.gen (λb=>b∈fp\/s.heap.objs.size<=b) (λb z=>z.elim (λz=>.inr ?_) .inl) sm (λb o z=>k b o λy=>z<|.inl y) (λlp b e z q=>(new lp b e z q).1) rfl (λl d i q hi=>?_) (λlp i t ht=>⟨t,ht,λv z=>z.mv lp λl d q=>(sm l λz=>z.elim (no q) λz=>absurd (dX q)<|Nat.not_lt.mpr z).trans q⟩) (λb e o z q y=>?_),λb e nb q f=>(same b nb<|dX q).trans q⟩;obtain⟨⟨o,y⟩,h0⟩:=hf b z;exact⟨_,y,trivial,λo' w=>by rw[h0] at w;cases w⟩;obtain⟨h1,h2⟩:=I.tg l d i (ow' lp q) hi;exact⟨h1,λl' d' q'=>h2 l' d'<|ow' lp q'⟩;rcases z with z|z;exact .inr<|(new lp b e (.inl z) q).2.2 z;exact absurd (dX y) (Nat.not_lt.mpr z)
def pt(H:Tm)(a:Addr)(e:Option En):Tm:=λb=>if b=a then e else H b
theorem Inv.aB{t':Nat}{h':Heap}(I:Inv X σ H ρ s)(hi:H it=some (.eL o))(h0:X.H₀ it=none)(k:∀b o,b≠it->s.heap.get? b=some o->h'.get? b=some o)(n:Option Obj)(hn:∀o',n=some o'->h'.get? it=some o') : Inv X σ (pt H it<|n.map .eL) ρ {s with heap:=h',toks:=t'}/\QT [it] H (pt H it<|n.map .eL):=
 I.turn (λb hb=>by cases List.mem_singleton.mp hb;exact⟨⟨o,hi⟩,h0⟩) (λb o hb=>k b o λz=>hb (by simp[z])) (λb hb _=>Zj λz=>hb (by simp[z])) λlp b e hb q=>by
  by_cases z:b=it;subst z;unfold pt at q;rw[Ue rfl] at q;cases n with|none=>cases q|some o'=>cases q;exact⟨hn o' rfl,λ_ _ z=>(nomatch z),λ_=>⟨_,rfl⟩⟩
  unfold pt at q;rw[Zj z] at q;rcases hb with hb|hb;exact absurd (List.mem_singleton.mp hb) z;rw[I.a8.fresh hb] at q;cases q
def i9(t:Bool)(ds:Zm):D:=if t then .tup ds else .lst ds
def cU(t:Bool)(h:Heap)(it a:Addr)(i:Nat):Prop:=if t then h.IsTupleIter it a i else h.IsListIter it a i
def rK(t:Bool):String:=if t then "tuple_iterator" else "list_iterator"
theorem cU.of{o:Obj}{h:Heap}{t:Bool}{a:Addr}(e:h.get? it=some o)(hc:o.cls=.type (rK t))(hd:o.data=.fields #[.ref a,.int (i:Nat) 0]):cU t h it a i:=by cases t<;>exact⟨o,e,hc,hd⟩
theorem cU.to{h:Heap}{t:Bool}{a:Addr}(x:cU t h it a i):∃o,h.get? it=some o/\o.cls=.type (rK t)/\o.data=.fields #[.ref a,.int (i:Nat) 0]:=by cases t<;>exact x
def iI(t:Bool)(h:Heap)(a:Addr)(aS:Array Value):Prop:=if t then IsTup h a aS else h.IsList a aS
theorem Inv.seq(t:Bool)(I:Inv X σ H ρ s)(r:RW H s v (i9 t ds)):∃a us,v=.ref a/\aC H us ds/\iI t s.heap a us.toArray/\ds.length<=sizeLine:=by cases t;obtain⟨a,us,e,r,p,z⟩:=I.lst r;exact⟨a,us,e,r,p.isList,z⟩;exact I.tup r
theorem cW{d:D}(e:bR d=some ds):∃t,d=i9 t ds:=by cases d<;>first|(cases e;first|exact⟨true,rfl⟩|exact⟨false,rfl⟩)|cases e
def StS(t:Bool)(it q:Addr)(ds:Zm):Nat->Tm->Prop:=λi H=>(∃o,H it=some (.eL o)/\o.cls=.type (rK t)/\o.data=.fields #[.ref q,.int i 0])/\Rel H (.ref q) (i9 t ds)
theorem Q0t(g:Gb)(t:Bool)(q it:Addr):rk g tg it [it] ds (StS t it q ds) where
 le:=λi H H' ⟨⟨o,h1,h2⟩,r⟩ l=>⟨⟨o,l _ _ h1 trivial<|.inr Uq,h2⟩,r.p l.p⟩
 item:=λX σ i H ρ s d Q E hg hc I h0 ⟨⟨o,h1,h2,h3⟩,r⟩ hd k=>by
  subst hg;obtain⟨q',us,e,rs,sq,hz⟩:=I.seq t<|.inl r;cases e;obtain⟨u,hu,ru⟩:=rs.get hd;have st:=cU.of (I.a8 it _ h1) h2 h3;have fin:∀h',cU t h' it q (i+1)->Heap.SameBut it s.heap h'->wpAny X.M X.A (letOwnedTupleGo tg (.ref it) u) (λ_ s2=>Q u s2) E {s with heap:=h'}:=λh' pR sb=>by
   obtain⟨o',e',c',d'⟩:=pR.to;obtain⟨I',l'⟩:=I.aB (t':=s.toks) h1 (h0 it ZA) (λb o hb z=>(sb.2 b hb).trans z) (some o') λ_ z=>by cases z;exact e'
   refine ya e' c' d' (by cases t<;>decide) (k _ _ u I' l' ?_ ⟨⟨o',Ue rfl,c',d'⟩,?_⟩)
   ·exact ru.p λa o d z=>(Zj λy=>by subst y;rw[h1] at z;cases z).trans z
   ·exact r.p λa o d z=>(Zj λy=>by subst y;rw[h1] at z;cases z).trans z
  cases t
  ·exact wpAny_pyNext_list_item st sq (x:=u) (by simpa using hu) λh' pR sb=>⟨u,rfl,fin h' pR sb⟩
  ·exact wpAny_pyNext_tuple_item st sq (x:=u) (by simpa using hu) λh' pR sb=>⟨u,rfl,fin h' pR sb⟩
 done:=λX σ H ρ s Q E hg hc I h0 ⟨⟨o,h1,h2,h3⟩,r⟩ k=>by
  subst hg;obtain⟨q',us,e,rs,sq,hz⟩:=I.seq t<|.inl r;cases e;have st:=cU.of (I.a8 it _ h1) h2 h3;have fin:∀h',Heap.ExtBut it s.heap h'->Q {s with heap:=h'}:=λh' eb=>let ⟨I',l'⟩:=I.aB (t':=s.toks) h1 (h0 it ZA) (λb o hb z=>eb b o hb z) none λ_ z=>nomatch z;k _ _ I' l';cases t
  ·exact wpAny_pyNext_list_end (I.ok.hd hc) st sq (by simp[rs.length]) λh' eb=>⟨rfl,fin h' eb⟩
  ·exact wpAny_pyNext_tuple_end (I.ok.hd hc) st sq (by simp[rs.length]) λh' eb=>⟨rfl,fin h' eb⟩
 self:=λA s i H Q E a8 ⟨⟨o,h1,h2,h3⟩,r⟩ h=>by
  have st:=cU.of (a8 it _ h1) h2 h3;cases t
  ·exact wpAny_pyIter_listiter st h
  ·exact wpAny_pyIter_tupleiter st h
theorem Inv.UC(t':Nat)(I:Inv X σ H ρ s)(o:Obj)(hf:o.isFreed=false:=by rfl):Inv X σ (upd H s.heap.objs.size<|.eL o) ρ {s with heap:=s.heap.push o,toks:=t'}/\Le H (upd H s.heap.objs.size<|.eL o):=I.lay (λb ob e=>WK _ e) (Ru _) λ_=>YO _ hf
theorem Inv.Ag{H0:Tm}{b:Addr}(I:Inv X σ H ρ s)(l:Le H0 H)(h:s.heap.objs.size<=b):(∀e,H0 b=some e->¬e.fast)/\X.H₀ b=none:=⟨λe q f=>absurd (I.a8.lt<|l _ _ q f)<|Nat.not_lt.mpr h,I.UB h⟩
theorem pL(h:PV X e fe):pV X tg e (cj fe):=λs σ H ρ Q E I o=>h.Q1 I o (λ_ _ q=>q) λs1 H1 aP v d I1 l1 r1 o1=>by
 obtain⟨ds,e,k⟩:=o1.opt;obtain⟨t,rfl⟩:=cW e;obtain⟨q,us,rfl,rs,sq,hz⟩:=I1.seq t<|.inl r1;have fin:∀o:Obj,o.cls=.type (rK t)->o.data=.fields #[.ref q,.int (0:Nat) 0]->o.isFreed=false->Q (.ref s1.heap.objs.size) {s1 with heap:=s1.heap.push o}:=λo hc hd hf=>by obtain⟨I2,l2⟩:=I1.UC s1.toks o hf;refine k _ _ _ [s1.heap.objs.size] _ I2 (l1.trans l2) (Q0t X.g t q _) ⟨⟨o,aA,hc,hd⟩,r1.le l2⟩ λb hb=>?_;cases List.mem_singleton.mp hb;exact⟨⟨o,aA⟩,I1.Ag l1<|Ru _⟩
 cases t;exact NV sq<|fin _ rfl rfl rfl;exact mW sq (fin _ rfl rfl rfl)
theorem Cv(g:Gb)(it:Addr)(lo step:Int)(n:Nat):rk g tg it [it] ((List.range n).map λ(k:Nat)=>.int<|lo+k*step) (λi H=>i<=n/\∃o,H it=some (.eL o)/\∀h:Heap,h.get? it=some o->IsRangeIter h it (lo+(i:Nat)*step) ((n:Int)-(i:Nat)) step) where
 le:=λi H H' ⟨hi,o,h1,h2⟩ l=>⟨hi,o,l _ _ h1 trivial<|.inr Uq,h2⟩
 item:=λX σ i H ρ s d Q E hg hc I h0 ⟨hi,o,h1,h2⟩ hd k=>by
  subst hg;have Yj:i<n:=by have:=(List.getElem?_eq_some_iff.mp hd).1;simpa using this
  have Ai:d=.int (lo+i*step):=by simpa[Yj] using hd.symm
  subst Ai;refine(Walks.range (prog:=X.g.prog) (w:=X.g.w) (I.ok.hd hc) it lo step n).item i s _ _ Yj (h2 _<|I.a8 it _ h1) λv h' tk hv pR kk=>?_;obtain⟨t,rfl⟩:=hv;obtain⟨I',l'⟩:=I.aB (t':=tk) h1 (h0 it ZA) (λb o hb z=>kk b o (by simpa using hb) z) (some _) λ_ z=>by cases z;exact pR
  refine⟨_,rfl,ya (s:={s with heap:=h',toks:=tk}) (n:="range_iterator") pR rfl rfl (by decide)<|k _ _ _ I' l' ⟨t,rfl⟩ ⟨Yj,_,Ue rfl,λh e=>?_⟩⟩;exact e
 done:=λX σ H ρ s Q E hg hc I h0 ⟨hi,o,h1,h2⟩ k=>by subst hg;have:=h2 _<|I.a8 it _ h1;rw[Wj,Us] at this;exact wpAny_pyNext_range_end (I.ok.hd hc) this Zl λh' eb=>⟨rfl,let ⟨I',l'⟩:=I.aB (t':=s.toks) h1 (h0 it ZA) (λb o hb z=>eb b o hb z) none λ_ z=>nomatch z;k _ _ I' l'⟩
 self:=λA s i H Q E a8 ⟨hi,o,h1,h2⟩ h=>wpAny_pyIter_rangeiter (h2 _<|a8 it _ h1) h
theorem uQ{Q:Wg}{lo hi step:Int}{t u v:Tok}{tk n:Nat}{H0:Tm}(I:Inv X σ H ρ s)(l0:Le H0 H)(sm:Builtin.Range.small lo hi step=true)(hn:Builtin.Range.rangeSize lo hi step=(n:Int))
  (k:∀(s':Shared)(H':Tm)(it:Addr)(fp:WC)(St:Nat->Tm->Prop),Inv X σ H' ρ s'->Le H0 H'->rk X.g tg it fp ((List.range n).map λ(k:Nat)=>.int<|lo+k*step) St->St 0 H'->(∀b∈fp,(∃o,H' b=some (.eL o))/\(∀e,H0 b=some e->¬e.fast)/\X.H₀ b=none)->Q (.ref it) s') :
  wpAny X.M X.A (pyIter<|.ref s.heap.objs.size) Q E {s with heap:=s.heap.push {cls:=.type "range",data:=.fields #[.int lo t,.int hi u,.int step v]},toks:=tk}:=by
 refine wpAny_pyIter_range (IsRange.new ..) sm ?_;have I1:Inv X σ H ρ {s with heap:=s.heap.push {cls:=.type "range",data:=.fields #[.int lo t,.int hi u,.int step v]},toks:=tk}:=I.kept λb o e=>WK _ e;obtain⟨I2,l2⟩:=I1.UC tk {cls:=.type "range_iterator",data:=.fields #[rawInt lo,rawInt<|Builtin.Range.rangeSize lo hi step,rawInt step]};refine k _ _ _ [_] _ I2 (l0.trans l2) (Cv X.g _ lo step n) ⟨Hq _,_,aA,λh e=>?_⟩ λb hb=>by cases List.mem_singleton.mp hb;exact⟨⟨_,aA⟩,I1.Ag l0<|Ru _⟩
 rw[hn] at e;show h.get? _=some _;rw[e];simp
theorem aC.one(r:aC H us [d]):∃u,us=[u]/\Rel H u d:=by cases r with|cons r t=>cases t;exact⟨_,rfl,r⟩
theorem fE{fl:List (M D)}{p pos:Pos}(hg:Gl X "range")(hm:X.g.mg "range" = none)(ha:vn X [a] (mL fl))(hs:starEach [a] X.env=[(false,eval a X.env)]:=by rfl):pV X tg (.Call (.Name "range" p) [a] [] pos) (bF fl):=λs σ H ρ Q E I o=>Call_ (rP I hg hm boot_range<|Nl ((ha pos).Q1 I o (λ_ _ q=>q) λs1 H1 aP us d I1 l1 r1 o1=>by obtain⟨ds,e,k⟩:=o1.opt;unfold qa at e;split at e;rename_i j;obtain⟨u,rfl,t,rfl⟩:=r1.one;split at e;rename_i hb;cases e;refine call_range_1<|uQ (tg:=tg) I1 l1 (small_one Zl Zl hb.1 hb.2) (n:=j.toNat) (by rw[rangeSize_one];split<;>lia) ?_;simp only[Int.mul_one,Int.zero_add];exact k;cases e;cases e) hs rfl)
theorem Ht{fl:List (M D)}{p pos:Pos}(hg:Gl X "range")(hm:X.g.mg "range" = none)(ha:vn X [a,b,c] (mL fl))(hs:starEach [a,b,c] X.env=[(false,eval a X.env),(false,eval b X.env),(false,eval c X.env)]:=by rfl)(oG:starEach [b,c] X.env=[(false,eval b X.env),(false,eval c X.env)]:=by rfl):pV X tg (.Call (.Name "range" p) [a,b,c] [] pos) (CO fl):=λs σ H ρ Q E I o=>
 Call_ (rP I hg hm boot_range<|Nl ((ha pos).Q1 I o (λ_ _ q=>q) λs1 H1 aP us d I1 l1 r1 o1=>by
  obtain⟨ds,e,k⟩:=o1.opt;unfold DA at e;split at e
  ·rename_i i j w;cases r1 with|cons r1 r2=>
   cases r2 with|cons r2 r3=>
   obtain⟨u,rfl,t,rfl⟩:=aC.one r3;obtain⟨t1,rfl⟩:=r1;obtain⟨t2,rfl⟩:=r2;split at e
   ·rename_i hb;obtain⟨rfl,⟨h1,h2⟩,h3,h4⟩:=hb;cases e;refine call_range_3 (by decide) (uQ (tg:=tg) I1 l1 (W.small_down h1 h2 h3 h4) (n:=(i-j).toNat) (by rw[W.rangeSize_downNat]) ?_)<|.inl<|PyProof.noPylong_small (by decide);simp only[Int.mul_neg,Int.mul_one,<-Int.sub_eq_add_neg];exact k
   ·cases e
  ·cases e) (by rw[hs,oG]) (by rw[oG];rfl))
end
end WL
end
section
set_option linter.all false
set_option maxRecDepth 100000
namespace WL
open PySem PySem.Spec PyProof.Rows L2 VP
def ju(fl:Wz)(us:Zk):Nat->Addr->Prop:=λi a=>fl[i]?=some true/\us[i]?=some (.ref a)
structure Args(H:Tm)(fl:Wz)(us:Zk)(ds:Zm):Prop where
 l1:us.length=fl.length
 l2:ds.length=fl.length
 val:∀(i:Nat) u d,fl[i]?=some false->us[i]?=some u->ds[i]?=some d->Rel H u d
 vV:∀(i:Nat) u d,fl[i]?=some true->us[i]?=some u->ds[i]?=some d->∃l j,u=.ref l/\H l=some (.ow d j)
 uq:∀i j a,ju fl us i a->ju fl us j a->i=j
def raw(fs:WC)(h:Heap)(a:Addr):Option En:=(h.get? a).map λo=>if a∈fs then .jM o else .pin o none
open Classical in
noncomputable def lend(Ln:Nat->Addr->Prop)(fs ex:WC)(h:Heap)(H:Tm):Tm:=λa=>if a∈ex then none else match H a with|some (.pin o d)=>some (.pin o d)|some (.ow d _)=>if k:∃i,Ln i a then some (.ow d k.choose) else raw fs h a|some (.dU b)=>if ∃i,Ln i b then some (.dU b) else raw fs h a|_=>raw fs h a
structure Kf(kf:Addr->Option En->Option En):Prop where
 pin:∀a o d,kf a (some<|.pin o d)=some (.pin o d)
 dU:∀a b,kf a (some<|.dU b)=some (.dU b)
 out:∀a e e',kf a e=some e'->(e=some e'/\((∃o d,e'=.pin o d)\/∃b,e'=.dU b))\/∃d i j,e=some (.ow d i)/\e'=.ow d j
open Classical in
noncomputable def back(n:Nat)(Ln:Nat->Addr->Prop)(kf:Addr->Option En->Option En)(H Hc:Tm):Tm:=λa=>if a<n then(match H a with
  |some (.ow d j)=>if ∃i,Ln i a then kf a (Hc a) else some (.ow d j)|some (.dU b)=>if ∃i,Ln i b then kf a (Hc a) else some (.dU b)|e=>e)
 else kf a (Hc a)
section
variable{Ln:Nat->Addr->Prop}{fs ex:WC}{h h':Heap}{H Hc:Tm}{g:Gb}{n:Nat}{kf:Addr->Option En->Option En}
theorem cK{e:En}(q:lend Ln fs ex h H a=some e):a∉ex/\((∃o d,e=.pin o d/\H a=some (.pin o d))\/(∃d j i,e=.ow d i/\H a=some (.ow d j)/\Ln i a)\/(∃b i,e=.dU b/\H a=some (.dU b)/\Ln i b)\/(raw fs h a=some e/\e.fast)):=by
 have rf:raw fs h a=some e->e.fast:=λz=>by unfold raw at z;cases y:h.get? a with|none=>rw[y] at z;cases z|some o=>rw[y] at z;cases z;split<;>trivial
 unfold lend at q;split at q;cases q;refine⟨‹_›,?_⟩;split at q;cases q;exact .inl ⟨_,_,rfl,‹_›⟩;split at q;rename_i d j z k;cases q;exact .inr<|.inl ⟨_,_,_,rfl,‹_›,k.choose_spec⟩;exact .inr<|.inr<|.inr ⟨q,rf q⟩;split at q;rename_i b z k;cases q;obtain⟨i,k⟩:=k;exact .inr<|.inr<|.inl ⟨_,i,rfl,‹_›,k⟩;exact .inr<|.inr<|.inr ⟨q,rf q⟩;exact .inr (.inr<|.inr ⟨q,rf q⟩)
theorem fP(hx:a∉ex)(q:H a=some (.pin o d)):lend Ln fs ex h H a=some (.pin o d):=by unfold lend;rw[Zj hx,q]
theorem ym(hx:a∉ex)(q:H a=some (.ow d j))(k:Ln i a)(u:∀i' ,Ln i' a->i'=i):lend Ln fs ex h H a=some (.ow d i):=by have k':∃i,Ln i a:=⟨i,k⟩;unfold lend;rw[Zj hx];simp only[q,dif_pos k',u _ k'.choose_spec]
theorem kC(hx:a∉ex)(n1:∀o d,H a≠some (.pin o d))(n2:∀d j i,H a=some (.ow d j)->¬Ln i a)(n3:∀b i,H a=some (.dU b)->¬Ln i b):lend Ln fs ex h H a=raw fs h a:=by unfold lend;rw[Zj hx];split;exact absurd ‹_›<|n1 _ _;exact dif_neg λ⟨i,k⟩=>n2 _ _ i ‹_› k;exact Zj λ⟨i,k⟩=>n3 _ i ‹_› k;rfl
theorem wI(e:h.get? a=some o):raw fs h a=some (if a∈fs then .jM o else .pin o none):=by unfold raw;rw[e];rfl
theorem yk(ok:nI g H h)(hex:∀a∈ex,H a=none):nI g (lend Ln fs ex h H) h:=λa e q=>by
 have nx:∀{b e},H b=some e->b∉ex:=λz y=>by rw[hex _ y] at z;cases z
 have lp:jD H (lend Ln fs ex h H):=λb o d z=>fP (nx z) z;rcases (cK q).2 with ⟨o,d,rfl,z⟩|⟨d,j,i,rfl,z,k⟩|⟨b,i,rfl,z,k⟩|⟨z,_⟩
 have x:=ok a _ z;exact⟨x.1,λe y=>(x.2 e y).mv lp (λ_ z=>z) (λz=>nomatch z) λ_ _ _ z=>z⟩;have x:=ok a _ z;refine⟨x.1.mv lp (λ_ z=>z) (λ_ b y=>?_) λ_ _ _ z=>z,x.2⟩;unfold lend;rw[Zj<|nx y,y];exact Ue ⟨i,k⟩;exact ok a _ z;unfold raw at z;cases y:h.get? a with|none=>rw[y] at z;cases z|some o=>rw[y] at z;cases z;show mR g _ h a<|if a∈fs then .jM o else .pin o none;split;exact⟨o.slots,y⟩;exact⟨y,λ_ z=>nomatch z⟩
theorem xt(kk:Kf kf)(ok:nI g H h)(hex:∀a∈ex,H a=none)(hn:n=h.objs.size)(Rk:nI g Hc h')(le:Le (lend Ln fs ex h H) Hc)(hfs:∀b∈fs,H b=none\/∃o,H b=some (.jM o))(nw:∀a e,Hc a=some e->lend Ln fs ex h H a=none->n<=a\/∃o,e=.eL o) : nI g (back n Ln kf H Hc) h'/\Le H (back n Ln kf H Hc)/\(∀b o,h.get? b=some o->H b=none->b∉ex->∃sl,h'.get? b=some {o with slots:=sl}/\(b∉fs->sl=o.slots))/\jD Hc (back n Ln kf H Hc)/\∀a d i,Hc a=some (.ow d i)->back n Ln kf H Hc a=kf a (Hc a):=by
 have nx:∀{b e},H b=some e->b∉ex:=λz y=>by rw[hex _ y] at z;cases z
 have kp:∀{a o},a∉ex->h.get? a=some o->(∀o d,H a≠some (.pin o d))->(∀d j i,H a=some (.ow d j)->¬Ln i a)->(∀b i,H a=some (.dU b)->¬Ln i b)->∃sl,h'.get? a=some {o with slots:=sl}/\(a∉fs->sl=o.slots):=λ{a o} ha e n1 n2 n3=>by have q:lend Ln fs ex h H a=_:=(kC ha n1 n2 n3).trans<|wI e;by_cases hb:a∈fs;rw[Ue hb] at q;obtain⟨sl,z⟩:=Rk a _<|le a _ q trivial;exact⟨sl,z,λy=>absurd hb y⟩;rw[Zj hb] at q;exact⟨o.slots,(Rk a _<|le a _ q trivial).1,λ_=>rfl⟩
 have lt:∀{a e},H a=some e->a<n:=λq=>hn ▸ ok.lt q;have PK:∀{a o d},H a=some (.pin o d)->back n Ln kf H Hc a=some (.pin o d):=λq=>by unfold back;rw[Ue<|lt q,q]
 have An:∀{a e},H a=some e->(∀d j i,e=.ow d j->¬Ln i a)->(∀b i,e=.dU b->¬Ln i b)->back n Ln kf H Hc a=some e:=λ{a e} q n2 n3=>by unfold back;rw[Ue<|lt q,q];cases e with|ow d j=>exact Zj λ⟨i,k⟩=>n2 _ _ i rfl k|dU b=>exact Zj λ⟨i,k⟩=>n3 _ i rfl k|_=>rfl
 have zv:∀{a d j i},H a=some (.ow d j)->Ln i a->back n Ln kf H Hc a=kf a (Hc a):=λq k=>by unfold back;rw[Ue<|lt q,q];exact Ue ⟨_,k⟩
 have KL:∀{a b i},H a=some (.dU b)->Ln i b->back n Ln kf H Hc a=kf a (Hc a):=λq k=>by unfold back;rw[Ue<|lt q,q];exact Ue ⟨_,k⟩
 have new:∀{a},¬a<n->back n Ln kf H Hc a=kf a (Hc a):=λdX=>by unfold back;exact Zj dX
 have keep:∀{a e},Hc a=some e->(∀o,e≠.jM o)->(∀o,e≠.eL o)->(∀o,e≠.pin o none)->back n Ln kf H Hc a=kf a (Hc a)\/∃o d,e=.pin o d/\back n Ln kf H Hc a=some (.pin o d):=λ{a e} q f1 f2 f3=>by
  by_cases dX:a<n;cases z:lend Ln fs ex h H a with
  |none=>rcases nw a _ q z with y|⟨o,rfl⟩;exact absurd dX<|Nat.not_lt.mpr y;exact absurd rfl (f2 o)
  |some e'=>
   rcases (cK z).2 with ⟨o',d',rfl,y⟩|⟨d',j,i,rfl,y,k⟩|⟨b,i,rfl,y,k⟩|⟨y,f⟩
   have:=le a _ z trivial;rw[q] at this;cases this;exact .inr ⟨_,_,rfl,PK y⟩;exact .inl<|zv y k;exact .inl<|KL y k;have:=le a _ z f;rw[q] at this;cases this;unfold raw at y;cases w:h.get? a with|none=>rw[w] at y;cases y|some o=>rw[w] at y;have y':=RY y;split at y';exact absurd y'.symm<|f1 o;exact absurd y'.symm (f3 o)
  exact .inl (new dX)
 have lp:jD Hc (back n Ln kf H Hc):=λa o d q=>(keep q (λ_ z=>nomatch z) (λ_ z=>nomatch z) λ_ z=>by cases z).elim (λz=>by rw[z,q];exact kk.pin a o _) λ⟨_,_,y,z⟩=>by cases y;exact z
 have XM:∀{a b},Hc b=some (.dU a)->back n Ln kf H Hc b=some (.dU a):=λ{a b} q=>(keep q (λ_ z=>nomatch z) (λ_ z=>nomatch z) λ_ z=>nomatch z).elim (λz=>by rw[z,q];exact kk.dU b a) λ⟨_,_,y,_⟩=>nomatch y;have lpH:jD H (back n Ln kf H Hc):=λa o d q=>PK q;have WG:∀{a o e},H a=some e->h.get? a=some o->(∀o d,e≠.pin o d)->(∀d j i,e=.ow d j->¬Ln i a)->(∀b i,e=.dU b->¬Ln i b)->(∀o,e≠.jM o)->h'.get? a=some o:=λ{a o e} q w n1 n2 n3 n4=>by obtain⟨sl,z,y⟩:=kp (nx q) w (λo d z=>n1 o d (by rw[q] at z;cases z;rfl)) (λd j i z=>n2 d j i (by rw[q] at z;cases z;rfl)) λb i z=>n3 b i (by rw[q] at z;cases z;rfl);rw[y λhb=>(hfs a hb).elim (λz=>by rw[q] at z;cases z) λ⟨o,z⟩=>by rw[q] at z;cases z;exact n4 o rfl] at z;exact z
 have pk:∀{a o d},H a=some (.pin o d)->h'.get? a=some o:=λq=>(Rk _ _<|le _ _ (fP (nx q) q) trivial).1;have kE:∀{a e},kf a (Hc a)=some e->mR g (back n Ln kf H Hc) h' a e:=λ{a e} q=>by
  rcases kk.out a _ e q with ⟨w,⟨o,d,rfl⟩|⟨b,rfl⟩⟩|⟨d,i,j,w,rfl⟩
  have y:=Rk a _ w;exact⟨y.1,λe z=>(y.2 e z).mv lp (λ_ z=>z) (λz=>nomatch z) λ_ _ _ z=>z⟩;exact Rk a _ w;have y:=Rk a _ w;exact⟨y.1.mv lp (λ_ z=>z) (λ_ b z=>XM z) λ_ _ _ z=>z,y.2⟩
 refine⟨λa e q=>?_,λa e q f=>An q (by rintro d j i rfl;exact f.elim) (by rintro b i rfl;exact f.elim),λb o e z hx=>kp hx e (by rw[z];exactλ_ _ z=>nomatch z) (by rw[z];exactλ_ _ _ z=>nomatch z) (by rw[z];exactλ_ _ z=>nomatch z),lp,λa d i q=>(keep q (λ_ z=>nomatch z) (λ_ z=>nomatch z) λ_ z=>nomatch z).elim id λ⟨_,_,y,_⟩=>nomatch y⟩;by_cases dX:a<n;cases z:H a with
 |none=>unfold back at q;rw[Ue dX,z] at q;cases q|some e0=>
  have x:=ok a e0 z;cases e0 with
  |pin o d=>
   rw[PK z] at q;cases q;refine⟨pk z,λe y=>(x.2 e y).mv lpH (λo' w=>?_) (λz=>nomatch z) λb o' w y=>?_⟩;rw[x.1] at w;cases w;exact pk z;rcases w with ⟨w,_⟩|⟨_,_,w⟩
   cases w;rw[(ok b _ w).1] at y;cases y;exact pk w
  |ow d j=>
   by_cases k:∃i,Ln i a;obtain⟨i,k⟩:=k;rw[zv z k] at q;exact kE q;have k':∀i,¬Ln i a:=λi y=>k ⟨i,y⟩;rw[An z (λ_ _ i _=>k' i) (by rintro _ _ z;cases z)] at q;cases q;refine⟨x.1.mv lpH (λo w=>WG z w (λ_ _ z=>nomatch z) (λ_ _ i _=>k' i) (λ_ _ z=>nomatch z) λ_ z=>nomatch z) (λ_ b w=>An w (by rintro _ _ _ w;cases w) (by intro c i w;cases w;exact k' i)) λb o w y=>?_,x.2⟩;rcases w with ⟨_,w⟩|⟨w,_⟩
   exact WG w y (λ_ _ z=>nomatch z) (λ_ _ _ z=>nomatch z) (λc i z=>by cases z;exact k' i) λ_ z=>nomatch z;cases w
  |dU b=>by_cases k:∃i,Ln i b;obtain⟨i,k⟩:=k;rw[KL z k] at q;exact kE q;have k':∀i,¬Ln i b:=λi y=>k ⟨i,y⟩;rw[An z (by rintro _ _ _ z;cases z) (by intro c i w;cases w;exact k' i)] at q;cases q;obtain⟨o,w⟩:=x;exact⟨o,WG z w (λ_ _ z=>nomatch z) (λ_ _ _ z=>nomatch z) (λc i z=>by cases z;exact k' i) λ_ z=>nomatch z⟩|jM o=>rw[An z (by rintro _ _ _ z;cases z) (by rintro _ _ z;cases z)] at q;cases q;obtain⟨sl,w⟩:=x;obtain⟨Vf,w',_⟩:=kp (nx z) w (by rw[z];exactλ_ _ z=>nomatch z) (by rw[z];exactλ_ _ _ z=>nomatch z) (by rw[z];exactλ_ _ z=>nomatch z);exact⟨Vf,w'⟩|eL o=>rw[An z (by rintro _ _ _ z;cases z) (by rintro _ _ z;cases z)] at q;cases q;exact WG z x (λ_ _ z=>nomatch z) (λ_ _ _ z=>nomatch z) (λ_ _ z=>nomatch z) λ_ z=>nomatch z
 rw[new dX] at q;exact kE q
end
end WL
end
section
set_option linter.all false
set_option maxRecDepth 100000
namespace WL
open PySem PySem.Spec PyProof.Rows L2 VP
structure Ap(g:Gb)(A:Around)(outer:List Env)(s:Shared)(H:Tm):Prop where
 frames:A.frames=some outer
 mod:Mod g.K g.mg g.base
 bs:∀b o,g.base.get? b=some o->H b=some (.pin o<|EA g.K b)
 MD:g.base.objs.size<=s.heap.objs.size
 fr:∀e∈outer,e.scope.kind≠.module/\∃L o,e.frame=some L/\g.base.get? L=none/\s.heap.get? L=some o/\∀vs,o.data≠.fields vs
 Ep:∀b∈oz outer,H b=none\/∃o,H b=some (.jM o)
 a8:nI g H s.heap
 bare:AllBare s.gens
def qD:Wz->Zm->Nat->Option D|true::_,d::_,0=>some d|true::bs,_::ds,i+1=>qD bs ds i|false::bs,ds,i+1=>qD bs ds i|_,_,_=>none
structure After(g:Gb)(outer:List Env)(H:Tm)(s:Shared)(fl:Wz)(us:Zk)(ios:Zm)(H':Tm)(s':Shared):Prop where
 os:s'.os=s.os
 bare:AllBare s'.gens
 a8:nI g H' s'.heap
 le:Le H H'
 unt:∀b o,s.heap.get? b=some o->H b=none->∃sl,s'.heap.get? b=some {o with slots:=sl}/\(b∉oz outer->sl=o.slots)
 nn:∀a e,H' a=some e->H a≠none\/s.heap.objs.size<=a
 ow:∀a d j,H a=some (.ow d j)->(∀i,¬ju fl us i a)->H' a=some (.ow d j)
 owb:∀a d j,H' a=some (.ow d j)->∃d0,H a=some (.ow d0 j)
 zv:∀i a d j,ju fl us i a->H a=some (.ow d j)->∃d',qD fl ios i=some d'/\H' a=some (.ow d' j)
def Xg:FR->(D->Zm->Prop)->(Xn->Zm->Prop)->Prop|.ok d ios,P,_=>P d ios|.exc x ios,_,E=>E x ios|.no,_,_=>False
def pU(g:Gb)(k:Nat)(f:Addr)(fd:FuncData)(ps:WZ)(fl:Wz)(fn:Fn):Prop:=∀(A:Around)(outer:List Env)(s:Shared)(H:Tm)(us:Zk)(ds:Zm)(args:PySem.Args)(R:Result->Shared->Prop),bZ k A->Ap g A outer s H->BindsTo s fd args (ps.zip us)->Args H fl us ds->Xg (fn ds) (λd ios=>∀s' H' v,After g outer H s fl us ios H' s'->Rel H' v d->R (.ok<|.ret v) s') (λx ios=>∀s' H' v,After g outer H s fl us ios H' s'->RT g s.heap.objs.size H' s' v x->R (.error v) s')->codeAny (model g.prog g.w) A (.call (.ref f) args) R s
def E0(g:Gb)(N:WZ)(fl:Wz)(us:Zk)(Vw:Str)(scope:Scope)(f:Addr)(cd:Value)(A:Around)(outer:List Env)(s:Shared)(H:Tm):Cx where
 g:=g
 A:=A.deeper (envOfC Vw scope s.heap.objs.size f cd)
 N:=N
 env:=envOfC Vw scope s.heap.objs.size f cd
 outer:=outer
 stack:=envOfC Vw scope s.heap.objs.size f cd::outer
 fn:=true
 calm:=true
 io:=ju fl us
 H₀:=lend (ju fl us) (oz outer) [] s.heap H
 n₀:=s.heap.objs.size
 os:=s.os
section
variable{g:Gb}{N ps:WZ}{fl:Wz}{us:Zk}{ds:Zm}{Vw:Str}{scope:Scope}{f:Addr}{cd:Value}{A:Around}{outer:List Env}{s:Shared}{H:Tm}
theorem pE:∀{n:Nat}{fl:Wz}{ds:Zm},fl.length=ds.length->∀(i:Nat)(s:Sl),(bG n fl ds)[i]?=some s->(∃b d,fl[i]?=some b/\ds[i]?=some d/\s=(if b then .io d else .sh d))\/s=.no|n,[],[],_,i,s,h=>by simp only[bG] at h;exact .inr (List.eq_of_mem_replicate<|Rb h)|n,b::bs,d::ds,hl,0,s,h=>by simp[bG] at h;exact .inl ⟨b,d,rfl,rfl,h.symm⟩|n,b::bs,d::ds,hl,i+1,s,h=>pE (fl:=bs) (ds:=ds) (Nat.succ.inj hl) i s (by simpa[bG] using h)
theorem jU:∀{n:Nat}{fl:Wz}{ds:Zm},fl.length=ds.length->fl.length<=n->(bG n fl ds).length=n|n,[],[],_,_=>by simp[bG]|n,b::bs,d::ds,hl,hn=>by simp only[List.length_cons] at hn;simp only[bG,List.length_cons];rw[jU (Nat.succ.inj hl) Zl];lia
theorem qZ:∀{n:Nat}{fl:Wz}{ds:Zm}{i:Nat}{d:D},fl[i]?=some true->ds[i]?=some d->(bG n fl ds)[i]?=some (.io d)|n,b::bs,d::ds,0,e,h1,h2=>by simp at h1 h2;subst h1 h2;rfl|n,b::bs,d::ds,i+1,e,h1,h2=>by simpa[bG] using qZ (n:=n-1) (fl:=bs) (ds:=ds) (i:=i) (by simpa using h1) (by simpa using h2)
theorem pQ:∀{ps:WZ}{us:Zk}{i:Nat}{x:Str}{u:Value},ps.Nodup->ps[i]?=some x->us[i]?=some u->(ps.zip us).lookup x=some u|p::ps,v::us,0,x,u,_,h1,h2=>by simp at h1 h2;subst h1 h2;simp[List.lookup_cons]|p::ps,v::us,i+1,x,u,nd,h1,h2=>by have ne:x≠p:=λz=>(List.nodup_cons.mp nd).1<|z ▸ Rb h1;rw[List.zip_cons_cons,Qx,beq_eq_false_iff_ne.mpr ne];exact pQ (List.nodup_cons.mp nd).2 h1 h2
theorem qG:∀{ps:WZ}{us:Zk}{x:Str}{u:Value},(ps.zip us).lookup x=some u->∃i:Nat,ps[i]?=some x/\us[i]?=some u|p::ps,v::us,x,u,h=>by rw[List.zip_cons_cons,Qx] at h;split at h;rename_i z;cases h;exact⟨0,by simp[eq_of_beq z],rfl⟩;obtain⟨i,a,b⟩:=qG h;exact⟨i+1,a,b⟩
theorem Q0F{s1:Shared}(S:bp N ps scope)(hd:A.handled=none)(e0:Ap g A outer s H)(hp:fl.length=ps.length)(a:Args H fl us ds)
  (x:InCallC s s.heap.objs.size (bindL (envOfC Vw scope s.heap.objs.size f cd).kindOf (ps.zip us) λ_=>none) (cellsFrom (s.heap.objs.size+1) scope.names []) (bindC (envOfC Vw scope s.heap.objs.size f cd).kindOf (ps.zip us) λ_=>none) s1) :
  Inv (E0 g N fl us Vw scope f cd A outer s H) (λx=>(ps.zip us).lookup x) (lend (ju fl us) (oz outer) [] s.heap H) (bG N.length fl ds) s1:=by
 have iF:ps.length<=N.length:=by have:=congrArg List.length S.pre;rw[MN] at this;lia
 have YT:ps.Nodup:=by rw[<-S.pre];exact S.nd.sublist (List.take_sublist _ _)
 obtain⟨h1,tk,rfl,hk⟩:=x.done;have nl:∀a:Addr,a∉([]:WC):=λa z=>nomatch z;have ok:=yk (Ln:=ju fl us) (fs:=oz outer) (ex:=[]) e0.a8 λa z=>absurd z<|nl a;have fresh:∀{b},s.heap.objs.size<=b->lend (ju fl us) (oz outer) [] s.heap H b=none:=λh=>ok.fresh h;have pN:∀{i:Nat} {y},N[i]?=some y->i<ps.length->ps[i]?=some y:=λh1 h2=>by rw[<-S.pre,U2 h2];exact h1
 refine⟨⟨e0.mod,S.kind,rfl,rfl,λy z c h1 h2=>name_of_addr x.apart (NM h1) (NM h2),λy hy=>?_,λ_=>hd,Around.frames_deeper e0.frames,⟨rfl,rfl⟩,⟨_,_,_,rfl,rfl,rfl⟩,λb o e=>?_,e0.MD,λb e q=>ok.lt q,λe he=>?_,Ru _⟩,rfl,e0.bare,Le.refl,λb e q n=>(nomatch q.symm.trans n),λb e q=>?_,⟨_,x.toInCall.ns,λy u v q=>?_⟩,λi sl q=>?_,λl d i q hi=>?_,fresh (Ru _),λy c h=>⟨⟨_,x.cell y c h⟩,.inl<|fresh<|Nat.le_of_lt<|x.above y c<|NM h⟩,jU (by rw[a.l2]) (by rw[hp];exact iF)⟩;have hy:scope.names.lookup y=some .cell\/scope.names.lookup y=some .free:=hy;rcases hy with hy|hy;exact tp hy;exact absurd rfl<|S.Oi _<|NM hy;exact fP (nl _)<|e0.bs b o e;obtain⟨a1,L,o,a2,a3,a4,a5⟩:=e0.fr e he;have hm:L∈oz outer:=List.mem_filterMap.mpr ⟨e,he,a2⟩;refine⟨a1,L,o,a2,a3,?_,a5⟩;have n:=e0.Ep L hm;show lend (ju fl us) (oz outer) [] s.heap H L=_;rw[kC (nl _) (λo d z=>by rcases n with n|⟨_,n⟩<;>(rw[n] at z;cases z)) (λd j i z=>by rcases n with n|⟨_,n⟩<;>(rw[n] at z;cases z)) (λd j z=>by rcases n with n|⟨_,n⟩<;>(rw[n] at z;cases z))];unfold raw;rw[a4];exact congrArg some<|Ue hm;exact ok.gen (h':=h1) (λ_=>False) (λ_ _ z=>z.elim) (λ_ _=>rfl) (λb o _=>hk b o) (λ_ _ _ z=>z.elim) b e q;obtain⟨i,h1,h2⟩:=qG q;rcases S.par y (Rb h1) with k|k;exact .inl ⟨k,qm YT h1 h2 k⟩;obtain⟨c,e⟩:=tp (n:=s.heap.objs.size+1) k;refine .inr ⟨.inl k,c,e,?_⟩;have q:=x.cell y c e;rw[qk YT h1 h2 (by show scope.names.lookup y≠_;rw[k];decide)] at q;exact q;have hi:i<N.length:=by rw[<-jU (n:=N.length) (fl:=fl) (ds:=ds) a.l2.symm (by rw[hp];exact iF)];exact(List.getElem?_eq_some_iff.mp q).1
 have Z9:N[i]?=some N[i]:=Rg hi;refine⟨N[i],Z9,?_⟩;rcases pE a.l2.symm i sl q with ⟨b,d,h1,h2,rfl⟩|rfl
 have Ak:i<us.length:=by rw[a.l1];exact(List.getElem?_eq_some_iff.mp h1).1
 have hu:us[i]?=some us[i]:=by simp[Ak]
 have lk:=pQ YT (pN Z9 (by rw[<-hp,<-a.l1];exact Ak)) hu;cases b with|false=>exact⟨us[i],lk,(a.val i _ d h1 hu h2).p λb o d z=>fP (nl _) z⟩|true=>obtain⟨l,j,e,hl⟩:=a.vV i _ d h1 hu h2;rw[e] at lk hu;exact⟨l,lk,ym (nl _) hl ⟨h1,hu⟩ λi' k=>a.uq i' i l k ⟨h1,hu⟩,h1,hu⟩
 trivial;rcases (cK q).2 with ⟨o,d',z,_⟩|⟨d',j,i',z,y,k⟩|⟨b,i',z,_⟩|⟨_,z⟩
 cases z;cases z;have Ak:i<ds.length:=by rw[a.l2];exact(List.getElem?_eq_some_iff.mp k.1).1
 obtain⟨l',j',e',qC⟩:=a.vV i _ ds[i] k.1 k.2 (by simp[Ak]);cases e';rw[y] at qC;injection qC with qC;injection qC with h3 h4;refine⟨.inr (qZ k.1 (by rw[h3];simp[Ak])),λl2 d2 q2=>?_⟩;rcases (cK q2).2 with ⟨_,_,z,_⟩|⟨_,_,_,z,_,k2⟩|⟨_,_,z,_⟩|⟨_,z⟩
 cases z;cases z;have:=k.2;rw[k2.2] at this;cases this;rfl;cases z;exact z.elim;cases z;exact z.elim
theorem oL:∀{fl:Wz}{ρ:ax}{ios:Zm}{i:Nat},bD fl ρ=some ios->fl[i]?=some true->∃d,qD fl ios i=some d/\ρ[i]?=some (.io d)
|true::bs,.io d::r,ios,i,h,hi=>by simp only[bD] at h;cases q:bD bs r with|none=>rw[q] at h;cases h|some acv=>rw[q] at h;cases h;cases i with|zero=>exact⟨d,rfl,rfl⟩|succ i=>exact oL (i:=i) q hi
|false::bs,_::r,ios,i+1,h,hi=>oL (fl:=bs) (i:=i) h hi|[],_,_,i,_,hi=>by simp at hi
open Classical in
noncomputable def T6(Ln:Nat->Addr->Prop)(H:Tm)(a:Addr):Option En->Option En
|some (.pin o d)=>some (.pin o d)|some (.dU b)=>some (.dU b)|some (.ow d _)=>match H a with
  |some (.ow _ j)=>if ∃i,Ln i a then some (.ow d j) else none|_=>none
 |_=>none
theorem vT{Ln:Nat->Addr->Prop}{e:Option En}(h:T6 Ln H a e=some (.ow d j)):∃d0,H a=some (.ow d0 j):=by unfold T6 at h;split at h;cases h;cases h;split at h;split at h;cases h;exact⟨_,‹_›⟩;cases h;cases h;cases h
theorem Q1B{Ln:Nat->Addr->Prop}:Kf (T6 Ln H):=⟨λ_ _ _=>rfl,λ_ _=>rfl,λa e e' h=>by unfold T6 at h;split at h;cases h;exact .inl ⟨rfl,.inl ⟨_,_,rfl⟩⟩;cases h;exact .inl ⟨rfl,.inr ⟨_,rfl⟩⟩;split at h;split at h;cases h;exact .inr ⟨_,_,_,rfl,rfl⟩;cases h;cases h;cases h⟩
theorem nQ{s':Shared}{eD:Sg}{Hc:Tm}{bw:ax}{ios:Zm}(S:bp N ps scope)(hp:fl.length=ps.length)(e0:Ap g A outer s H)(J:Inv (E0 g N fl us Vw scope f cd A outer s H) eD Hc bw s')(hi:bD fl bw=some ios) : ∃H',After g outer H s fl us ios H' s'/\jD Hc H'/\∀b,s.heap.objs.size<=b->Hc b=none->H' b=none:=by
 have hln:∀i l d j,ju fl us i l->H l=some (.ow d j)->∃d',qD fl ios i=some d'/\Hc l=some (.ow d' i):=λi l d j k q=>by obtain⟨d',h1,h2⟩:=oL hi k.1;obtain⟨x,hx,r⟩:=J.slot i _ h2;obtain⟨l',_,h3,h4⟩:=r;have:=k.2;rw[h4.2] at this;cases this;exact⟨d',h1,h3⟩
 obtain⟨h1,h2,h3,h4,_⟩:=xt (n:=s.heap.objs.size) (Ln:=ju fl us) (ex:=[]) (fs:=oz outer) (Q1B (Ln:=ju fl us) (H:=H)) e0.a8 (λa z=>(nomatch z)) rfl J.a8 J.le e0.Ep J.nw;refine⟨_,⟨J.os,J.bare,h1,h2,λb o e z=>h3 b o e z (λy=>nomatch y),λa e q=>?_,λa d j q k=>?_,λa d j q=>?_,λi a d j k q=>?_⟩,h4,λb hb q=>?_⟩;by_cases dX:a<s.heap.objs.size;refine .inl λz=>?_;unfold back at q;rw[Ue dX,z] at q;cases q;exact .inr<|Nat.le_of_not_lt dX;unfold back;rw[Ue<|e0.a8.lt q,q];exact Zj λ⟨i,z⟩=>k i z;unfold back at q;split at q;split at q;rename_i d0 j0 z;split at q;exact vT q;cases q;exact⟨_,z⟩;split at q;exact vT q;cases q;rename_i n _;exact absurd q<|n d j;exact vT q;obtain⟨d',z,y⟩:=hln i a d j k q;refine⟨d',z,?_⟩;unfold back;rw[Ue<|e0.a8.lt q];simp only[q];rw[Ue ⟨i,k⟩,y];unfold T6;simp only[q];exact Ue ⟨i,k⟩;unfold back;rw[Zj<|Nat.not_lt.mpr hb,q];rfl
theorem SX{x:Str}{st:Stmt}{fd:FuncData}{k:Nat}{body:M Fl}(Fu:HH g.K x Vw st f fd)(S:bp N ps (au st))(hl:fl.length=ps.length)(Td:∀us lB A outer s H,bZ k (A.deeper<|envOfC Vw (au st) s.heap.objs.size f lB)->lj (E0 g N fl us Vw (au st) f lB A outer s H) (bh st) body):pU g (k+1) f fd ps fl (defn N.length fl body):=λA outer s H us ds args R hr e0 hb a h=>by
 obtain⟨oc,od,kV,doc,pm,an,lB,ct,PC,rfl,lk,gG⟩:=Fu.ex;have keep:∀b o,g.base.get? b=some o->s.heap.get? b=some o:=λb o e=>(e0.a8 b _<|e0.bs b o e).1;have KX:g.K.In s.heap:=e0.mod.KH.keeps keep;have lim:s.heap.NoLimit:=e0.mod.nolimit.keeps keep;have Tw:∀y∈ps.zip us,(au st).names.lookup y.1=some .local\/((au st).names.lookup y.1=some .cell/\((cellsFrom (s.heap.objs.size+1) (au st).names []).lookup y.1).isSome=true):=λ⟨n,v⟩ hy=>by rcases S.par n (A7 hy).1 with q|q;exact .inl q;exact .inr ⟨q,W.cellsFrom_some _ _ _<|.inl q⟩
 refine codeAny_call_function hr.depth (KX _ _ lk) rfl S.co S.gen rfl (W.codeRec_of KX gG)<|hb _ _ _ _ ?_;refine wpAny_newFunctionEnv_cells S.kind Tw λenv he s1 x=>?_;subst he;refine⟨lim.keeps x.toInCall.keep,codeAny_func ?_⟩;have I:=Q0F (cd:=lB) S hr.hd e0 hl a x;refine Td us lB A outer s H (hr.deeper _) s1 _ _ _ _ _ I ?_;unfold defn at h;rw[Ue a.l2] at h;generalize body (bG N.length fl ds)=B at h;cases B with
  |no=>exact h.elim|exc z bw=>cases q:bD fl bw with|none=>simp only[q] at h;exact h.elim|some ios=>simp only[q] at h;intro s' eD H' v J _ r;obtain⟨e,C,dx,rfl,hm,hx,w,x⟩:=r;show wpAny _ _ (leaving _ _) _ _ _;refine Zy<|wg J x λh1 w1 J1 k1 x1=>oy none J1 x1 λh2 J2 k2 x2=>?_;obtain⟨H2,af,lp,fr⟩:=nQ S hl e0 J2 q;obtain⟨vs,sl,e1,e2,e3,e4,T,ot,ts,t1,t2,t3,t4,t5⟩:=x2;refine h _ H2 _ af ⟨e,C,dx,rfl,hm,hx.imp id ?_,some _,vs,sl,e1,e2,fr e e4 e3,e4,T,ot,ts,t1,t2,t3,fr T t3 t4,t5⟩;rintro⟨b,o,y1,y2,f⟩;obtain⟨fs,z1,z2,z3⟩:=(f.kp k1).kp (s:={s' with heap:=h1}) k2;exact⟨b,o,y1,lp _ _ _ y2,fs,z1,z2.p lp,z3⟩
  |ok fl' bw=>
   cases fl' with
   |bk=>exact h.elim|ct=>exact h.elim|nx=>cases q:bD fl bw with|none=>simp only[q] at h;exact h.elim|some ios=>simp only[q] at h;intro s' eD H' v J _ r;cases r;obtain⟨H2,af,_⟩:=nQ S hl e0 J q;exact h s' H2 .none af rfl
   |rt d=>cases q:bD fl bw with|none=>simp only[q] at h;exact h.elim|some ios=>simp only[q] at h;intro s' eD H' v J _ r;obtain⟨u,rfl,r⟩:=r;obtain⟨H2,af,lp,_⟩:=nQ S hl e0 J q;exact h s' H2 u af (r.p lp)
end
end WL
end
section
set_option linter.all false
set_option maxRecDepth 100000
namespace WL
open PySem PySem.Spec PyProof.Rows L2 VP
def ly:AV->Bool|.val _=>false|.io _=>true
def HJ(X:Cx)(σ:Sg)(H:Tm)(u:Value):AV->Prop|.val d=>Rel H u d|.io j=>∃x l,X.N[j]?=some x/\mz X.env.scope x/\u=.ref l/\σ x=some (.ref l)
def RA(X:Cx)(σ:Sg):Rl (List AV) (List Value):=λH _=>Paired (HJ X σ H)
def vm(X:Cx)(es:WM)(as:List VP.Arg):Prop:=∀pos s σ H ρ Q E,Inv X σ H ρ s->Out (bj as ρ) (OK X σ H (RA X σ) Q) (OK X σ H (XR X) E)->wpAny X.M X.A (spliced<|backTo pos<|starEach es X.env) Q E s
section
variable{X:Cx}{σ:Sg}{H H':Tm}{ρ:ax}{s s':Shared}{vs:List AV}{us:Zk}{ds ios:Zm}
theorem HJ.le(l:Le H H'){v:AV}(r:HJ X σ H u v):HJ X σ H' u v:=by cases v with|val d=>exact Rel.le l r|io j=>exact r
theorem Paired.at{α β:Type}{R:α->β->Prop}:∀{xs:List α}{ys:List β}{i:Nat}{x:α}{y:β},Paired R xs ys->xs[i]?=some x->ys[i]?=some y->R x y|_,_,0,_,_,.cons r _,e1,e2=>by cases e1;cases e2;exact r|_,_,i+1,_,_,.cons _ t,e1,e2=>Paired.at (i:=i) t e1 e2
theorem jF:∀{vs:List AV}{ds:Zm}{i:Nat}{v:AV},gL vs ρ=some ds->vs[i]?=some v->∃d,ds[i]?=some d/\match v with
 |.val d'=>d=d'|.io j=>own ρ[j]?=some d
|.val d::vs,ds,i,v,h,hi=>by simp only[gL] at h;cases q:gL vs ρ with|none=>rw[q] at h;cases h|some es=>rw[q] at h;cases h;cases i with|zero=>cases hi;exact⟨d,rfl,rfl⟩|succ i=>exact jF (i:=i) q hi
|.io j::vs,ds,i,v,h,hi=>by simp only[gL] at h;cases q0:own ρ[j]? with|none=>rw[q0] at h;cases h|some d0=>rw[q0] at h;cases q:gL vs ρ with|none=>rw[q] at h;cases h|some es=>rw[q] at h;cases h;cases i with|zero=>cases hi;exact⟨d0,rfl,q0⟩|succ i=>exact jF (i:=i) q hi
|[],_,i,_,_,hi=>by simp at hi
theorem rA:∀{vs:List AV}{ds:Zm},gL vs ρ=some ds->ds.length=vs.length
|[],_,h=>by cases h;rfl|.val d::vs,ds,h=>by simp only[gL] at h;cases q:gL vs ρ with|none=>rw[q] at h;cases h|some es=>rw[q] at h;cases h;exact congrArg Nat.succ (rA q)
|.io j::vs,ds,h=>by
 simp only[gL] at h;split at h;cases q:gL vs ρ with|none=>rw[q] at h;cases h|some es=>rw[q] at h;cases h;exact congrArg Nat.succ (rA q)
 cases h
theorem eI:∀{vs:List AV}{i j:Nat},vs[i]?=some (.io j)->j∈bP vs|.val d::vs,i+1,j,h=>eI (vs:=vs) (i:=i) h|.io k::vs,0,j,h=>by cases h;exact Uq|.io k::vs,i+1,j,h=>WW _ (eI (vs:=vs) (i:=i) h)|.val d::vs,0,j,h=>by cases h
theorem nz:∀{vs:List AV}{j:Nat},j∈bP vs->∃i:Nat,vs[i]?=some (.io j)|.val d::vs,j,h=>let ⟨i,q⟩:=nz (vs:=vs) h;⟨i+1,q⟩|.io k::vs,j,h=>by rcases List.mem_cons.mp h with rfl|h;exact⟨0,rfl⟩;obtain⟨i,q⟩:=nz (vs:=vs) h;exact⟨i+1,q⟩
theorem rJ:∀{vs:List AV}{i i' j:Nat},(bP vs).Nodup->vs[i]?=some (.io j)->vs[i']?=some (.io j)->i=i'|.val d::vs,i+1,i'+1,j,n,h,h'=>congrArg Nat.succ (rJ (vs:=vs) n h h')|.val d::vs,0,_,j,n,h,_=>by cases h|.val d::vs,_,0,j,n,_,h=>by cases h|.io k::vs,0,0,j,n,h,h'=>rfl|.io k::vs,0,i'+1,j,n,h,h'=>by cases h;exact absurd (eI (vs:=vs) (i:=i') h') (List.nodup_cons.mp n).1|.io k::vs,i+1,0,j,n,h,h'=>by cases h';exact absurd (eI (vs:=vs) (i:=i) h) (List.nodup_cons.mp n).1|.io k::vs,i+1,i'+1,j,n,h,h'=>congrArg Nat.succ (rJ (vs:=vs) (List.nodup_cons.mp n).2 h h')
theorem kN:(cN j d ρ)[j]?=(ρ[j]?).map (yJ d):=by cases q:ρ[j]? with|none=>unfold cN;simp only[q];rfl|some t=>rw[jo q,U4 (List.getElem?_eq_some_iff.mp q).1];rfl
theorem d7:∀(js:SK)(ds:Zm)(r:ax),(putAll js ds r).length=r.length|[],_,_=>rfl|_::_,[],_=>rfl|j::js,d::ds,r=>(d7 js ds _).trans kO
theorem ie:∀{js:SK}{ds:Zm}{r:ax}{i:Nat},i∉js->(putAll js ds r)[i]?=r[i]?|[],_,_,_,_=>rfl|_::_,[],_,_,_=>rfl|j::js,d::ds,r,i,h=>(ie λz=>h<|WW _ z).trans (nB λe=>h<|e ▸ Uq)
theorem jn:∀{vs:List AV}{ios:Zm}{r:ax}{i j:Nat}{d:D},(bP vs).Nodup->vs[i]?=some (.io j)->qD (vs.map ly) ios i=some d->(putAll (bP vs) ios r)[j]?=(r[j]?).map (yJ d)|.val d::vs,ios,r,i+1,j,e,n,h,q=>jn (vs:=vs) (i:=i) n h q|.val d::vs,ios,r,0,j,e,n,h,q=>by cases h|.io k::vs,d::ios,r,0,j,e,n,h,q=>by cases h;cases q;exact(ie (List.nodup_cons.mp n).1).trans kN|.io k::vs,d::ios,r,i+1,j,e,n,h,q=>by have ne:j≠k:=λz=>(List.nodup_cons.mp n).1<|z ▸ eI (vs:=vs) (i:=i) h;exact(jn (vs:=vs) (i:=i) (List.nodup_cons.mp n).2 h q).trans (by rw[nB ne])|.io k::vs,[],r,i,j,e,n,h,q=>by cases i<;>cases q
theorem Inv.after{fl:Wz}{bw:ax}(I:Inv X σ H ρ s)(af:After X.g X.stack H s fl us ios H' s')(hl:bw.length=ρ.length)(Yz:∀(j:Nat) t,ρ[j]?=some t->(bw[j]?=some t/\∀a d,H a=some (.ow d j)->H' a=some (.ow d j))\/∃d',bw[j]?=some (yJ d' t)/\∀a d,H a=some (.ow d j)->H' a=some (.ow d' j)):Inv X σ H' bw s':=by
 have nn:∀{a},H a=none->a<s.heap.objs.size->H' a=none:=λ{a} h dX=>by cases q:H' a with|none=>rfl|some e=>exact(af.nn a e q).elim (λz=>absurd h z) λz=>absurd dX (Nat.not_lt.mpr z)
 obtain⟨e1,e2⟩:=I.Bi (h':=s'.heap) λb o hb q=>by have:H b=none\/∃o' d,H b=some (.pin o' d):=hb.elim (λz=>.inl<|z ▸ I.fl) λ⟨x,e⟩=>(I.cell x b e).2.imp id And.right;rcases this with z|⟨o',d,z⟩;obtain⟨sl,y,_⟩:=af.unt b o q z;exact⟨sl,y⟩;have y:=(af.a8 b _<|af.le _ _ z trivial).1;rw[(I.a8 b _ z).1] at q;cases q;exact⟨_,y⟩
 refine⟨I.ok,af.os.trans I.os,af.bare,I.le.trans af.le,λa e q n=>?_,af.a8,e1,λj t ht=>?_,λl d j q hj=>?_,nn I.fl I.lt,λx c e=>⟨e2 x c e,?_⟩,hl.trans I.len⟩;rcases af.nn a e q with z|z;cases y:H a with|none=>exact absurd y z|some e'=>rcases I.nw a e' y n with w|⟨o,rfl⟩;exact .inl w;have w:=af.le a _ y trivial;rw[q] at w;cases w;exact .inr ⟨o,rfl⟩
 exact .inl<|YQ I.sz z;have hj:j<ρ.length:=by rw[<-hl];exact(List.getElem?_eq_some_iff.mp ht).1
 have h0:ρ[j]?=some ρ[j]:=Rg hj;obtain⟨x,hx,r⟩:=I.slot j _ h0;refine⟨x,hx,?_⟩;rcases Yz j _ h0 with ⟨h1,h2⟩|⟨d',h1,h2⟩
 rw[h1] at ht;cases ht;exact r.mv af.le.p h2;rw[h1] at ht;cases ht;generalize ρ[j]=t0 at r;cases t0 with|no=>trivial|sh d=>obtain⟨u,a,b⟩:=r;exact⟨u,a,b.le af.le⟩|ow d=>obtain⟨l,a,b⟩:=r;exact⟨l,a,h2 _ _ b⟩|io d=>obtain⟨l,a,b,c⟩:=r;exact⟨l,a,h2 _ _ b,c⟩
 obtain⟨d0,y⟩:=af.owb l d j q;obtain⟨h1,h2⟩:=I.tg l d0 j y hj;refine⟨?_,λl' d' q'=>let ⟨d1,y'⟩:=af.owb l' d' j q';h2 l' d1 y'⟩;have h0:ρ[j]?=some (.ow d0)\/ρ[j]?=some (.io d0):=h1;rcases h0 with h0|h0;rcases Yz j _ h0 with ⟨a,b⟩|⟨d',a,b⟩
 have:=b l d0 y;rw[q] at this;cases this;exact .inl a;have:=b l d0 y;rw[q] at this;cases this;exact .inl a;rcases Yz j _ h0 with ⟨a,b⟩|⟨d',a,b⟩
 have:=b l d0 y;rw[q] at this;cases this;exact .inr a;have:=b l d0 y;rw[q] at this;cases this;exact .inr a;rcases (I.cell x c e).2 with z|⟨f,o,d,z⟩;obtain⟨⟨v,y⟩,_⟩:=I.cell x c e;exact .inl<|nn z y.lt;exact .inr ⟨f,o,d,af.le _ _ z trivial⟩
theorem Inv.E5(I:Inv X σ H ρ s):Ap X.g X.A X.stack s H:=by refine⟨I.ok.frames,I.ok.mod,λb o e=>?_,YQ I.ok.MD I.sz,λe he=>?_,λb hb=>I.Ep hb,I.a8,I.bare⟩;exact I.le _ _ (I.ok.bs b o e) trivial;have:=I.stack;generalize X.stack=l at this he;clear I;induction l with|nil=>cases he|cons c r ih=>obtain⟨h1,⟨L,o,h2,h3,h4,h5⟩,h6⟩:=this;rcases List.mem_cons.mp he with rfl|he;exact⟨h1,L,o,h2,h3,h4,h5⟩;exact ih h6 he
theorem jX(I:Inv X σ H ρ s)(ra:RA X σ H s us vs)(h:gL vs ρ=some ds)(nd:(bP vs).Nodup):Args H (vs.map ly) us ds/\(∀i a,ju (vs.map ly) us i a->∃j d,vs[i]?=some (.io j)/\own ρ[j]?=some d/\H a=some (.ow d j)):=by
 have at_:∀{i:Nat} {b},(vs.map ly)[i]?=some b->∃v,vs[i]?=some v/\ly v=b:=λ{i b} q=>by rw[mS] at q;cases z:vs[i]? with|none=>rw[z] at q;cases q|some v=>rw[z] at q;exact⟨v,rfl,RY q⟩
 have io:∀{i:Nat} {j u d},vs[i]?=some (.io j)->us[i]?=some u->ds[i]?=some d->∃l,u=.ref l/\own ρ[j]?=some d/\H l=some (.ow d j):=λ{i j u d} q hu hd=>by obtain⟨x,l,hx,hv,e,hs⟩:=Paired.at ra hu q;obtain⟨d',h1,h2⟩:=jF h q;rw[hd] at h1;cases h1;obtain⟨l',h3,h4⟩:=I.ownAt hx hv h2;rw[hs] at h3;cases h3;exact⟨l,e,h2,h4⟩
 have vV:∀i a,ju (vs.map ly) us i a->∃j d,vs[i]?=some (.io j)/\own ρ[j]?=some d/\H a=some (.ow d j):=λi a k=>by obtain⟨v,hv,e⟩:=at_ k.1;cases v with|val d=>cases e|io j=>obtain⟨d,hd,_⟩:=jF h hv;obtain⟨l,e,h2,h4⟩:=io hv k.2 hd;cases e;exact⟨j,d,hv,h2,h4⟩
 refine⟨⟨by rw[Wj,ra.length],by rw[Wj,rA h],λi u d q hu hd=>?_,λi u d q hu hd=>?_,λi i' a k k'=>?_⟩,vV⟩;obtain⟨v,hv,e⟩:=at_ q;cases v with|val d'=>obtain⟨d2,h1,h2⟩:=jF h hv;rw[hd] at h1;cases h1;cases h2;exact Paired.at (R:=HJ X σ H) ra hu hv|io j=>cases e
 obtain⟨v,hv,e⟩:=at_ q;cases v with|val d'=>cases e|io j=>obtain⟨l,e,_,h4⟩:=io hv hu hd;exact⟨l,j,e,h4⟩
 obtain⟨j,d,h1,_,h2⟩:=vV i a k;obtain⟨j',d',S7,_,Z8⟩:=vV i' a k';rw[h2] at Z8;cases Z8;exact rJ nd h1 S7
theorem nP(I:Inv X σ H ρ s)(ra:RA X σ H s us vs)(h:gL vs ρ=some ds)(nd:(bP vs).Nodup)(af:After X.g X.stack H s (vs.map ly) us ios H' s'):Inv X σ H' (putAll (bP vs) ios ρ) s':=by
 obtain⟨_,vV⟩:=jX I ra h nd;refine I.after af (d7 _ _ _) λj t ht=>?_;by_cases hj:j∈bP vs;obtain⟨i,hi⟩:=nz hj;obtain⟨d,hd,ho⟩:=jF h hi;have Tv:i<us.length:=by rw[ra.length];exact(List.getElem?_eq_some_iff.mp hi).1
 obtain⟨x,l,hx,hv,e,hs⟩:=Paired.at ra (Rg Tv) hi;obtain⟨l',h3,h4⟩:=I.ownAt hx hv ho;rw[hs] at h3;cases h3;obtain⟨d',h5,h6⟩:=af.zv i l d j ⟨by rw[mS,hi];rfl,by rw[<-e];exact Rg Tv⟩ h4;refine .inr ⟨d',by rw[jn nd hi h5,ht];rfl,λa d2 q=>?_⟩;rw[(I.tg l d j h4 (List.getElem?_eq_some_iff.mp hx).1).2 _ _ q];exact h6;refine .inl ⟨by rw[ie hj];exact ht,λa d q=>af.ow a d j q λi k=>?_⟩;obtain⟨j',d',h1,_,h2⟩:=vV i a k;rw[q] at h2;cases h2;exact hj (eI h1)
end
end WL
end
section
set_option linter.all false
set_option maxRecDepth 100000
namespace WL
open PySem PySem.Spec PyProof.Rows L2 VP
section
variable{X:Cx}{e a b o value:Expr}{es:WM}{fa fe fo:M D}{as:List VP.Arg}{pos p WB:Pos}{x c m:Str}{σ:Sg}{H:Tm}{ρ:ax}{s:Shared}{ds:Zm}{us:Zk}{Q:Wg}{E:Wg}
variable{k:Nat}{fA C:Addr}{fd:FuncData}{ps:WZ}{fl:Wz}{fs:Fn}{cs:WZ}{f:Str}
theorem hZ:vm X [] []:=λpos s σ H ρ Q E I o=>C0 (o s H [] I Le.refl .nil)
theorem RA.le(l:Le H H')(r:Paired (HJ X σ H) us vs):Paired (HJ X σ H') us vs:=Paired.mono (λ_ _=>HJ.le l) r
theorem cG(ha:PV X a fa)(hr:vm X es as)(hs:Vj X a es:=by rfl):vm X (a::es) (.val fa::as):=λpos s σ H ρ Q E I o=>by rw[hs];exact Ux (rest:=backTo pos<|starEach es X.env) (ha.Q1 I o (λ_ _ q=>q) λs1 H1 aP v d I1 l1 r1 o1=>hr pos s1 σ H1 aP _ E I1<|o1.Q1.mono (λvs r q s2 H2 us I2 l2 r2=>q s2 H2 _ I2 (l1.trans l2)<|.cons (Rel.le l2 r1) r2) λ_ _ q=>q.le l1)
theorem lW(j:Nat){x:Str}(hr:vm X es as)(hN:X.N[j]?=some x:=by rfl)(hv:mz X.env.scope x:=by exact FA)(hd:Wk x:=by decide)(gG:GU x:=by decide)(hs:starEach (.Name x pos::es) X.env=(false,eval (.Name x pos) X.env)::starEach es X.env:=by rfl):vm X (.Name x pos::es) (.io j::as):=λBg s σ H ρ Q E I o=>by
 rw[hs];simp only[bj] at o;split at o;rename_i h;cases q:own ρ[j]? with|none=>rw[q] at h;cases h|some d=>obtain⟨l,hu,_⟩:=I.ownAt hN hv q;exact Ux (rest:=backTo Bg<|starEach es X.env) (cg I hv hu (hr Bg s σ H ρ _ E I<|o.Q1.mono (λvs r q s2 H2 us I2 l2 r2=>q s2 H2 _ I2 l2<|.cons ⟨x,l,hN,hv,rfl,hu⟩ r2) λ_ _ q=>q) hd gG)
 exact o.elim
theorem cV:∀{as:List VP.Arg}{ρ bw:ax}{vs:List AV},bj as ρ=.ok vs bw->vs.map ly=as.map VP.Arg.isIo|[],_,_,_,h=>by cases h;rfl|.val f::as,ρ,bw,vs,h=>by simp only[bj,VP.Q1] at h;split at h;split at h;cases h;rename_i q;rw[WA,WA,cV q];rfl;cases h;cases h;cases h;cases h|.io j::as,ρ,bw,vs,h=>by simp only[bj,VP.Q1] at h;split at h;split at h;cases h;rename_i q;rw[WA,WA,cV q];rfl;cases h;cases h;cases h
theorem wJ{A:Around}{R:Result->Shared->Prop}{vs:List AV}{P:D->ax->Prop}{E':Xn->ax->Prop}(F:pU X.g k fA fd ps (vs.map ly) fs)(hr:bZ k A)(hA:A.frames=X.A.frames)(hb:Binds X.g.K fd ps [])(Cm:(vs.map ly).length=ps.length)(I:Inv X σ H ρ s)(ra:RA X σ H s us vs)(o:Out (oU fs vs ρ) P E')(hQ:∀s' H' bw v d,Inv X σ H' bw s'->Le H H'->Rel H' v d->P d bw->R (.ok<|.ret v) s') (hE:∀s' H' bw v x,Inv X σ H' bw s'->Le H H'->XR X H' s' v x->E' x bw->R (.error v) s'):codeAny X.M A (.call (.ref fA) ⟨us,[]⟩) R s:=by
 unfold oU at o;split at o;rename_i ds hd;split at o;rename_i nd;have Ko:=hb s us I.sN (by rw[Xq,<-Cm,Wj];exact ra.length);rw[Xq] at Ko;obtain⟨ar,_⟩:=jX I ra hd nd;have e0:=I.E5;refine F A X.stack s H us ds _ R hr ⟨hA.trans e0.frames,e0.mod,e0.bs,e0.MD,e0.fr,e0.Ep,e0.a8,e0.bare⟩ Ko ar ?_;split at o;rename_i d ios q;rw[q];exactλs' H' v af r=>hQ s' H' _ v d (nP I ra hd nd af) af.le r o;rename_i x ios q;rw[q];refineλs' H' v af r=>hE s' H' _ v x (nP I ra hd nd af) af.le ?_ o;obtain⟨e,C,dx,y1,y2,y3,w,vs,sl,z1,z2,z3,z4,z5⟩:=r;refine⟨e,C,dx,y1,y2,y3,w,vs,sl,z1,z2,z3,YQ I.sz z4,?_⟩;cases w with|none=>exact z5|some v=>obtain⟨T,ot,ts,t1,t2,t3,t4⟩:=z5;exact⟨T,ot,ts,t1,t2,YQ I.sz t3,t4⟩
 exact o.elim;exact o.elim;exact o.elim
theorem Gy(F:pU X.g k fA fd ps fl fs)(hr:bZ k X.A)(hg:Gl X x)(hm:X.g.mg x=some (.ref fA))(hk:W.keepIn X.g.K (.ref fA)=true)(hb:Binds X.g.K fd ps [])(Cm:fl.length=ps.length)
  (ha:vm X (e::es) as) (vJ:as.map VP.Arg.isIo=fl:=by rfl) (kv:Wk x:=by decide) (he:Vj X e es:=by rfl) (iF:QO X pos es:=by rfl) :
  PV X (.Call (.Name x p) (e::es) [] pos) (aw fs as):=λs σ H ρ Q E I o=>by
 refine VN<|ec I hg hm ?_ kv;refine SU (h₀:=X.g.base) I.ok.mod.KH hk (ha pos s σ H ρ _ E I ?_) he iF;unfold aw VP.Q1 at o;cases q:bj as ρ with|no=>rw[q] at o;exact o.elim|exc xx aP=>rw[q] at o;exact o|ok vs aP=>rw[q] at o;intro s1 H1 us I1 l1 r1;have hv:=(cV q).trans vJ;subst hv;exact⟨I1.sN,wpAny_call<|wJ F hr rfl hb Cm I1 r1 o (λs' H' bw v d I' l' r' k=>k s' H' v I' (l1.trans l') r') λs' H' bw v x I' l' r' k=>k s' H' v I' (l1.trans l') r'⟩
theorem Rel.handed{d:D}(r:Rel H u d):W.handedIn u=true:=by cases d<;>first|(cases r;rfl)|(obtain⟨t,rfl⟩:=r;rfl)|(obtain⟨_,_,rfl,_⟩:=r;rfl)
theorem oT{f:Str}{d:D}:∀{fs:List (Str×Value)}{ds:Zm},aC H (fs.map (·.2)) ds->((fs.map (·.1)).zip ds).lookup f=some d->∃v,fs.lookup f=some v/\Rel H v d|[],_,.nil,h=>by cases h| (n,v)::fs,_,.cons h t,q=>by simp only[List.map_cons,List.zip_cons_cons,List.lookup_cons] at q ⊢;split at q;cases q;exact⟨v,rfl,h⟩;exact oT t q
theorem PO(T:VS.Mr X.g.K X.g.mg cs f)(ha:PR X e fe)(hb:attributeBase e f X.env (eval e X.env)=eval e X.env:=by rfl):PV X (.Attribute e f pos) (m1 (aJ cs f) fe):=λs σ H ρ Q E I o=>EO hb (ha.Q1 I o (λ_ _ q=>q) λs1 H1 aP v d I1 l1 r1 o1=>by obtain⟨d,e1,q⟩:=o1.opt;rename_i d1;cases d1 with|ins c ns vs=>simp only[aJ] at e1;split at e1;rename_i hc;obtain⟨C,hm,hC,hn⟩:=T c (by simpa using hc);obtain⟨a,ff,rfl,C',dx,h1,h2,h3,h4,fs,rfl,r,_,mA,h5,h6,_⟩:=I1.obj r1 rfl;rw[hm] at h1;cases h1;obtain⟨u,lu,ru⟩:=oT r e1;exact get_map I1.sN ⟨h2,h5,h4⟩ (hC.get f) hC.hd hn ((h6 f).symm.trans lu) ru.handed<|q _ H1 u (I1.tok _) l1 ru;cases e1|_=>cases e1)
def oZ(f:Str)(v:Value):List (Str×Value)->List (Str×Value)|[]=>[(f,v)]| (g,x)::r=>if g=f then(g,v)::r else(g,x)::oZ f v r
theorem uO{f:Str}{v:Value}{d:D}(h:Rel H v d):∀{fs:List (Str×Value)}{ds:Zm},aC H (fs.map (·.2)) ds->(oZ f v fs).map (·.1)=(iC f d (fs.map (·.1)) ds).1/\aC H ((oZ f v fs).map (·.2)) (iC f d (fs.map (·.1)) ds).2/\(oZ f v fs).length<=fs.length+1/\(∀g,(oZ f v fs).lookup g=if g=f then some v else fs.lookup g)/\f∈(oZ f v fs).map (·.1)/\∀g,g∈fs.map (·.1)->g∈(oZ f v fs).map (·.1)
|[],_,.nil=>⟨rfl,.cons h .nil,Ru _,λg=>by rw[oZ,Qx];by_cases e:g=f;(subst e;simp);(rw[beq_eq_false_iff_ne.mpr e,Zj e]),by simp[oZ],λg h=>by simp at h⟩| (n,w)::fs,_,.cons q t=>by obtain⟨i1,i2,i3,i4,i5,i6⟩:=uO (f:=f) h t;simp only[oZ,List.map_cons,iC];split;rename_i e;subst e;exact⟨rfl,.cons h t,vU _,λg=>by rw[Qx,Qx];by_cases e:g=n;(subst e;simp);(rw[beq_eq_false_iff_ne.mpr e,Zj e]),ZA,λg z=>z⟩;rename_i e;refine⟨by simp[i1],.cons q i2,Nat.succ_le_succ i3,λg=>?_,WW _ i5,λg z=>(List.mem_cons.mp z).elim (λz=>z ▸ Uq) λz=>WW _<|i6 g z⟩;rw[Qx,Qx,i4 g];by_cases e2:g=n;subst e2;simp[e];simp[beq_eq_false_iff_ne.mpr e2]
theorem D7(i:Nat){Bg p':Pos}(T:VS.Mr X.g.K X.g.mg cs f)(TK:PV X value fe)(hN:X.N[i]?=some x:=by rfl)(hv:mz X.env.scope x:=by exact FA)(hd:Wk x:=by decide)(gG:GU x:=by decide)(hs:swapsWith value (some<|.Attribute (.Name x p') f Bg) pos.line X.env=pure false:=by rfl) : je X (.Assign [.Attribute (.Name x p') f Bg] value pos) (dS i cs f fe):=λs σ H ρ Q E I o=>
 plainObj_wpAny_Assign_Attribute (TK.Q1 I o (λ_ _ q=>q.x) λs1 H1 aP u d1 I1 l1 r1 o1=>by
  obtain⟨d,d',q0,q1,k⟩:=jr o1.Q1;obtain⟨l,hu,hl⟩:=I1.ownAt hN hv q0;refine cg I1 hv hu ?_ hd gG;cases d with
  |ins c ns vs=>
   simp only[yO] at q1;split at q1;rename_i hc;rw[ML] at hc;cases q1;obtain⟨C,hm,hC,hn⟩:=T c (by simpa using hc.1);obtain⟨⟨C',dx,h1,h2,h3,h4,fs,rfl,r,h8,mA,h5,h6,h7⟩,_⟩:=I1.a8 l _ hl;rw[hm] at h1;cases h1;have h9:fs.length<1000:=by simpa using z7 hc.2
   refine G1 I1.sN ⟨h2,h5,h4⟩ hC.sa hC.po hn.Vx hC.hd h7 (by rw[Wj,UN];lia) λh' O' sb=>?_;have lo:Le H1 _:=Le.ow (d':=.ins c (iC f d1 (fs.map (·.1)) vs).1 (iC f d1 (fs.map (·.1)) vs).2) (j:=i) hl;obtain⟨p1,p2,p3,p4,p5,p6⟩:=uO (f:=f) (r1.le lo)<|aC.le lo r;have Ai:∃o,h'.get? dx=some o:=let ⟨o,_,_,e',_⟩:=O'.ns;⟨o,e'⟩;have hq:∀g,(if g=f then some u else mA g)≠none->g∈(iC f d1 (fs.map (·.1)) vs).1:=λg hg=>by rw[<-p1];by_cases q:g=f;rw[q];exact p5;rw[Zj q] at hg;exact p6 g (h7 g hg)
   obtain⟨I2,l2⟩:=I1.wr (t':=s1.toks+2) (h':=h') (d':=.ins c (iC f d1 (fs.map (·.1)) vs).1 (iC f d1 (fs.map (·.1)) vs).2) hl (.inr h3) (λb q hb z=>(sb.2 b hb).trans z) Ai (λlp=>⟨C,dx,hm,O'.obj,(aI h4).trans h3,h4,oZ f u fs,p1,p2,by rw[<-p1,Wj];lia,_,O'.ns,λg=>by rw[p4 g,h6 g],hq⟩) λz=>nomatch z;exact k _ _ _ _ I2 (l1.trans l2) rfl;cases q1
  |_=>cases q1) hs
theorem lookup_none:∀{fs:List (Str×Value)},(fs.map (·.1)).contains m=false->fs.lookup m=none|[],_=>rfl| (n,v)::fs,h=>by simp only[List.map_cons,List.contains_cons,Bool.or_eq_false_iff] at h;rw[Qx,h.1];exact lookup_none h.2
theorem Q25{pl:Sem Bool}(vH:X.g.mg c=some (.ref C))(cl:Mq X.g.K C)(hm:Meth X.g.K C m fA)(F:pU X.g k fA fd ps (false::fl) fs)(hr:bZ k X.A)(hb:Binds X.g.K fd ps [])(Cm:(false::fl).length=ps.length)
  (ho:PV X o fo) (ha:vm X (e::es) as) (vJ:as.map VP.Arg.isIo=fl:=by rfl)
  (iG:Vj X e es:=by rfl) (iF:QO X pos es:=by rfl)
  (ht:eval (.Call (.Attribute o m WB) (e::es) [] pos) X.env=(do
   let ov <-eval o X.env
   standAt WB.atName
   let (f,first) <-holding [ov] (getMethod ov m pl)
   callWith pos f first (backTo pos<|starEach (e::es) X.env)<|backToKw pos<|keywordEach [] X.env):=by rfl) :
  PV X (.Call (.Attribute o m WB) (e::es) [] pos) (qM c m fs fo as):=λs σ H ρ Q E I oo=>by
 refine W.methodCall_KW (pl:=pl) (ho.Q1 I oo (λ_ _ q=>q) λs1 H1 aP u d1 I1 l1 r1 o1=>?_) ht;cases hi:iB c m d1 with
 |false=>rw[hi] at o1;exact o1.elim|true=>
  rw[hi] at o1;cases d1 with
  |ins c' ns vs=>
   simp only[iB,Bool.and_eq_true,Bool.not_eq_true'] at hi;have sJ:c'=c:=by simpa using hi.1
   subst sJ;obtain⟨a,ff,rfl,C',dx,h1,h2,h3,h4,fs',rfl,r,_,mA,h5,h6,_⟩:=I1.obj (.inl r1) rfl;rw[vH] at h1;cases h1;refine Cb I1.sN ⟨h2,h5,h4⟩ (cl.get m) hm.at_ hm.fn ((h6 m).symm.trans<|lookup_none hi.2) ?_;refine SU (first:=[.ref a]) (h₀:=X.g.base) I1.ok.mod.KH hm.kp (ha pos s1 σ H1 aP _ E I1 ?_) iG iF;have o2:Out (Q1 (bj as) (λvs'=>oU fs (.val _::vs')) aP) _ _:=o1;unfold VP.Q1 at o2;cases q:bj as aP with|no=>rw[q] at o2;exact o2.elim|exc xx rg=>rw[q] at o2;exact OK.le l1 o2|ok av rg=>rw[q] at o2;intro s2 H2 us I2 l2 r2;have hv:=(cV q).trans vJ;subst hv;exact⟨I2.sN,wpAny_call<|wJ (vs:=.val _::av) F hr rfl hb Cm I2 (.cons (Rel.le l2 r1) r2) o2 (λs' H' bw v d I' l' r' k=>k s' H' v I' (l1.trans<|l2.trans l') r') λs' H' bw v x I' l' r' k=>k s' H' v I' (l1.trans<|l2.trans l') r'⟩
  |_=>cases hi
end
end WL
end
section
set_option linter.all false
set_option maxRecDepth 100000
namespace WL
open PySem PySem.Spec PyProof.Rows L2 VP
section
variable{X:Cx}{e a b o value:Expr}{es:WM}{fa fe fo:M D}{as:List VP.Arg}{pos p WB:Pos}{x c m:Str}{σ:Sg}{H H':Tm}{ρ:ax}{s s':Shared}{ds ios:Zm}{us:Zk}{Q:Wg}{E:Wg}{vs:List AV}
variable{k:Nat}{fA C:Addr}{fd:FuncData}{ps:WZ}{fl:Wz}{fs:Fn}{cs:WZ}{f:Str}{t:Sl}
theorem nR:∀{vs:List AV}{ds:Zm},ρ.length∉bP vs->gL vs (ρ++[t])=some ds->gL vs ρ=some ds
|[],_,_,h=>h|.val d::vs,ds,n,h=>by simp only[gL] at h ⊢;cases q:gL vs (ρ++[t]) with|none=>rw[q] at h;cases h|some es=>rw[q] at h;rw[nR (vs:=vs) n q];exact h
|.io j::vs,ds,n,h=>by
 simp only[gL] at h ⊢;have nj:j≠ρ.length:=λz=>n<|z ▸ Uq;have e:(ρ++[t])[j]?=ρ[j]?\/(ρ++[t])[j]?=none:=by rcases Nat.lt_or_gt_of_ne nj with z|z;exact .inl<|B5 z;exact .inr (F4 (by simp;lia))
 rcases e with e|e;rw[e] at h;cases q:gL vs (ρ++[t]) with|none=>rw[q] at h;cases o:own ρ[j]?<;>rw[o] at h<;>cases h|some es=>rw[q] at h;rw[nR (vs:=vs) (λz=>n<|WW _ z) q];exact h
 rw[e] at h;cases h
theorem zQ{j:Nat}{d:D}(h:j≠ρ.length):cN j d (ρ++[t])=cN j d ρ++[t]:=by rcases Nat.lt_or_gt_of_ne h with z|z;have q:ρ[j]?=some ρ[j]:=Rg z;rw[jo q,jo<|(B5 z).trans q,List.set_append_left _ _ z];have q:ρ[j]?=none:=F4<|Nat.le_of_lt z;have q':(ρ++[t])[j]?=none:=F4 (by simp;lia);unfold cN;simp only[q,q']
theorem putAll_snoc:∀{js:SK}{ds:Zm}{ρ:ax},ρ.length∉js->putAll js ds (ρ++[t])=putAll js ds ρ++[t]|[],_,_,_=>rfl|_::_,[],_,_=>rfl|j::js,d::ds,ρ,h=>by show putAll js ds (cN j d<|ρ++[t])=putAll js ds (cN j d ρ)++[t];rw[zQ λz=>h<|z ▸ Uq];exact putAll_snoc (by rw[kO];exactλz=>h<|WW _ z)
theorem lq{x:Addr}{d0 d':D}(I:Inv X σ H ρ s)(ra:RA X σ H s us vs)(h:gL vs ρ=some ds)(nd:(bP vs).Nodup)(hx:H x=some (.ow d0 X.N.length))(af:After X.g X.stack H s (true::vs.map ly) (.ref x::us) (d'::ios) H' s'):Inv X σ H' (putAll (bP vs) ios ρ) s':=by
 obtain⟨_,vV⟩:=jX I ra h nd;refine I.after af (d7 _ _ _) λj t ht=>?_;have hjn:j<X.N.length:=by rw[<-I.len];exact(List.getElem?_eq_some_iff.mp ht).1
 by_cases hj:j∈bP vs;obtain⟨i,hi⟩:=nz hj;obtain⟨d,hd,ho⟩:=jF h hi;have Tv:i<us.length:=by rw[ra.length];exact(List.getElem?_eq_some_iff.mp hi).1
 obtain⟨y,l,hy,hv,e,hs⟩:=Paired.at ra (Rg Tv) hi;obtain⟨l',h3,h4⟩:=I.ownAt hy hv ho;rw[hs] at h3;cases h3;obtain⟨d',h5,h6⟩:=af.zv (i+1) l d j ⟨by rw[List.getElem?_cons_succ,mS,hi];rfl,by rw[<-e];exact Rg Tv⟩ h4;refine .inr ⟨d',by rw[jn nd hi h5,ht];rfl,λa d2 q=>?_⟩;rw[(I.tg l d j h4 hjn).2 _ _ q];exact h6;refine .inl ⟨by rw[ie hj];exact ht,λa d q=>af.ow a d j q λi k=>?_⟩;cases i with|zero=>have:=k.2;cases this;rw[hx] at q;cases q;exact absurd hjn (T2 _)|succ i=>obtain⟨j',d',h1,_,h2⟩:=vV i a k;rw[q] at h2;cases h2;exact hj (eI h1)
theorem Inv.YV(I:Inv X σ H ρ s)(hm:X.g.mg c=some (.ref C)):∃H',Inv X σ H' ρ {s with heap:=(s.heap.push W.emptyDict).push (W.instObj C s.heap.objs.size)}/\Le H H'/\H' (s.heap.objs.size+1)=some (.ow (.ins c [] []) X.N.length):=by
 obtain⟨I1,l1⟩:=I.lay (t':=s.toks) (h':=s.heap.push W.emptyDict) (a:=s.heap.objs.size) (e:=.dU<|s.heap.objs.size+1) (λb o e=>WK _ e) (Ru _) λlp=>⟨_,YO _ rfl⟩;have hs:(s.heap.push W.emptyDict).objs.size=s.heap.objs.size+1:=by simp[Heap.push]
 have n1:=Heap.Ns1.of_empty<|show (s.heap.push W.emptyDict).Ns s.heap.objs.size (λ_=>none) from⟨W.emptyDict,#[],_,YO s.heap rfl,rfl,(λe he=>absurd he ZA),λ_=>rfl⟩;have ne:s.heap.objs.size≠s.heap.objs.size+1:=QA<|GC _;obtain⟨I2,l2⟩:=I1.lay (t':=s.toks) (h':=(s.heap.push W.emptyDict).push<|W.instObj C s.heap.objs.size) (a:=s.heap.objs.size+1) (e:=.ow (.ins c [] []) X.N.length) (λb o e=>WK _ e) (Nat.le_of_eq hs) (λlp=>⟨⟨C,s.heap.objs.size,hm,by rw[<-hs];exact YO _ rfl,(aI ne).trans aA,ne,[],rfl,.nil,Hq _,_,n1.at λo e=>WK _ e,λf=>rfl,λf z=>absurd rfl z⟩,λz=>nomatch z⟩) λd i z=>by cases z;exact Ru _
 exact⟨_,I2,l1.trans l2,aA⟩
theorem RT.up{n n':Nat}{g:Gb}{x:Xn}(h:n<=n')(r:RT g n' H s v x):RT g n H s v x:=by obtain⟨e,C,dx,y1,y2,y3,w,vs,sl,z1,z2,z3,z4,z5⟩:=r;refine⟨e,C,dx,y1,y2,y3,w,vs,sl,z1,z2,z3,YQ h z4,?_⟩;cases w with|none=>exact z5|some v=>obtain⟨T,ot,ts,t1,t2,t3,t4⟩:=z5;exact⟨T,ot,ts,t1,t2,YQ h t3,t4⟩
theorem Args.cons{x:Addr}{d0:D}{j:Nat}(a:Args H fl us ds)(hx:H x=some (.ow d0 j))(ne:∀i,¬ju fl us i x):Args H (true::fl) (.ref x::us) (d0::ds):=by
 refine⟨congrArg Nat.succ a.l1,congrArg Nat.succ a.l2,λi u d h1 h2 h3=>?_,λi u d h1 h2 h3=>?_,λi i' b k k'=>?_⟩;cases i with|zero=>cases h1|succ i=>exact a.val i u d h1 h2 h3
 cases i with|zero=>cases h2;cases h3;exact⟨x,j,rfl,hx⟩|succ i=>exact a.vV i u d h1 h2 h3
 cases i with
 |zero=>cases i' with|zero=>rfl|succ i'=>have:=k.2;cases this;exact absurd k' (ne i')
 |succ i=>cases i' with|zero=>have:=k'.2;cases this;exact absurd k (ne i)|succ i'=>exact congrArg Nat.succ (a.uq i i' b k k')
theorem Gk(M:Mk X.g.K C fA)(F:pU X.g k fA fd ps (true::fl) fs)(hr:bZ (k+1) X.A)(hg:Gl X c)(hm:X.g.mg c=some (.ref C))(hb:Binds X.g.K fd ps [])(Cm:(true::fl).length=ps.length)
  (ha:vm X (e::es) as) (vJ:as.map VP.Arg.isIo=fl:=by rfl) (kv:Wk c:=by decide) (he:Vj X e es:=by rfl) (iF:QO X pos es:=by rfl) :
  PF X (.Call (.Name c p) (e::es) [] pos) (qL c fs as):=λs σ H ρ Q E I o=>by
 refine VN<|ec I hg hm ?_ kv;refine SU (h₀:=X.g.base) I.ok.mod.KH M.kp (ha pos s σ H ρ _ E I ?_) he iF;unfold qL VP.Q1 at o;cases q:bj as ρ with
 |no=>rw[q] at o;exact o.elim|exc xx aP=>rw[q] at o;exact o|ok vs aP=>
  rw[q] at o;intro s1 H1 us I1 l1 r1;refine⟨I1.sN,?_⟩;have hv:=(cV q).trans vJ;subst hv;obtain⟨H2,I2,l2,hx⟩:=I1.YV (c:=c) hm;have len:aP.length=X.N.length:=I1.len;have o':Out (zF c fs vs aP) (OK X σ H (RF X) Q) (OK X σ H (XR X) E):=o;have av0:gL (.io aP.length::vs) (aP++[.ow<|.ins c [] []])=(gL vs<|aP++[.ow<|.ins c [] []]).map (.ins c [] []::·):=by simp only[gL];rw[OG<|Ru _,Nat.sub_self];rfl
  unfold zF oU at o';simp only[av0] at o';cases q1:gL vs (aP++[.ow<|.ins c [] []]) with
  |none=>simp only[q1,Option.map_none] at o';exact o'.elim|some ds=>
   simp only[q1,Option.map_some] at o';by_cases nd:(bP (.io aP.length::vs)).Nodup;rw[Ue nd] at o';obtain⟨n1,n2⟩:=List.nodup_cons.mp<|show (aP.length::bP vs).Nodup from nd;have q2:=nR n1 q1;have pa:∀d' ios,putAll (bP (.io aP.length::vs)) (d'::ios) (aP++[.ow<|.ins c [] []])=putAll (bP vs) ios aP++[.ow d']:=λd' ios=>by show putAll (bP vs) ios (cN aP.length d'<|aP++[.ow<|.ins c [] []])=_;rw[jo (t:=.ow<|.ins c [] []) (by rw[OG<|Ru _,Nat.sub_self];rfl),List.set_append_right _ _<|Ru _,Nat.sub_self];exact putAll_snoc n1
   have r2:=RA.le l2 r1;obtain⟨ar,vV⟩:=jX I2 r2 q2 n2;have V9:=ar.cons hx λi k=>by obtain⟨j,d,h1,h2,h3⟩:=vV i _ k;rw[hx] at h3;cases h3;rw[F4<|Nat.le_of_eq len] at h2;cases h2
   have ln:∀{ios H3 s3},After X.g X.stack H2 {s1 with heap:=(s1.heap.push W.emptyDict).push (W.instObj C s1.heap.objs.size)} (true::vs.map ly) (.ref (s1.heap.objs.size+1)::us) ios H3 s3->∃d' r,ios=d'::r/\H3 (s1.heap.objs.size+1)=some (.ow d' X.N.length):=λ{ios H3 s3} af=>by obtain⟨d',h1,h2⟩:=af.zv 0 _ _ _ ⟨rfl,rfl⟩ hx;cases ios with|nil=>cases h1|cons d r=>cases h1;exact⟨_,_,rfl,h2⟩
   have e0:=I2.E5;have Ko:=hb _ (Value.ref (s1.heap.objs.size+1)::us) I2.sN (by rw[Xq,<-Cm];simpa using r1.length);rw[Xq] at Ko;have tl:∀{r:ax}{t:Sl},r.length=aP.length->(r++[t])[aP.length]?=some t/\(r++[t]).take aP.length=r:=λ{r t} h=>by rw[<-h];exact⟨ZA,ZA⟩
   refine wpAny_call<|CZ (f:=fA) I1.sN M.makes M.init (beq_iff_eq.mp M.fn)<|F _ X.stack _ H2 _ _ _ _ (hr.make C us []) ⟨e0.frames,e0.mod,e0.bs,e0.MD,e0.fr,e0.Ep,e0.a8,e0.bare⟩ Ko V9 ?_;cases q3:fs (.ins c [] []::ds) with|no=>rw[q3] at o';exact o'.elim|exc x ios=>rw[q3] at o';intro s3 H3 v af xr;obtain⟨d',r,rfl,h3⟩:=ln af;simp only[pa,(tl<|d7 _ _ _).2] at o';exact o' s3 H3 v (lq I2 r2 q2 n2 hx af) (l1.trans<|l2.trans af.le) (xr.up I2.sz)|ok d ios=>rw[q3] at o';intro s3 H3 v af rv;obtain⟨d',r,rfl,h3⟩:=ln af;cases d with|aK=>cases rv;simp only[pa,(tl<|d7 _ _ _).2,(tl<|d7 _ _ _).1] at o';exact⟨rfl,o' s3 H3 _ (lq I2 r2 q2 n2 hx af) (l1.trans<|l2.trans af.le) ⟨_,rfl,h3⟩⟩|_=>exact o'.elim
   rw[Zj nd] at o';exact o'.elim
theorem Gx{pl:Sem Bool}(B:VS.Ry X.g.K X.g.mg c m C fA)(F:pU X.g k fA fd ps fl fs)(hr:bZ k X.A)(hb:Binds X.g.K fd ps [])(Cm:fl.length=ps.length)(ha:vm X (e::es) as)(hg:Gl X c:=by rfl)(vJ:as.map VP.Arg.isIo=fl:=by rfl)
  (kv:Wk c:=by decide) (iG:Vj X e es:=by rfl) (iF:QO X pos es:=by rfl)
  (ht:eval (.Call (.Attribute (.Name c p) m WB) (e::es) [] pos) X.env=(do
   let ov <-eval (.Name c p) X.env
   standAt WB.atName
   let (f,first) <-holding [ov] (getMethod ov m pl)
   callWith pos f first (backTo pos<|starEach (e::es) X.env)<|backToKw pos<|keywordEach [] X.env):=by rfl) :
  PV X (.Call (.Attribute (.Name c p) m WB) (e::es) [] pos) (aw fs as):=λs σ H ρ Q E I o=>by
 refine W.methodCall_KW (pl:=pl) (ec I hg B.mg ?_ kv) ht;refine W.method_cls I.sN B.sp<|W.cls_value I.sN B.rd B.fi rfl ?_;have I2:=I.tok<|s.toks+1;refine SU (first:=[]) (h₀:=X.g.base) I.ok.mod.KH B.kp (ha pos _ σ H ρ _ E I2 ?_) iG iF;unfold aw VP.Q1 at o;cases q:bj as ρ with|no=>rw[q] at o;exact o.elim|exc xx aP=>rw[q] at o;exact o|ok vs aP=>rw[q] at o;intro s1 H1 us I1 l1 r1;have hv:=(cV q).trans vJ;subst hv;exact⟨I1.sN,wpAny_call<|wJ F hr rfl hb Cm I1 r1 o (λs' H' bw v d I' l' r' k=>k s' H' v I' (l1.trans l') r') λs' H' bw v x I' l' r' k=>k s' H' v I' (l1.trans l') r'⟩
theorem Ct{subs:Uk}{d1 d:D}(I:Inv X σ H ρ s)(r:RW H s v d1)(e:aL subs d1=some d):∃c b a C' dx od,v=.ref a/\(c,b)∈subs/\d=.bl b/\X.g.mg c=some (.ref C')/\s.heap.get? a=some (W.instObj C' dx)/\s.heap.get? dx=some od:=by
 cases d1 with
 |ins c' ns vs=>simp only[aL] at e;cases e1:subs.lookup c' with|none=>rw[e1] at e;cases e|some b=>rw[e1] at e;cases e;obtain⟨a,ff,rfl,C',dx,h1,h2,_,_,_,_,_,_,mA,h5,_⟩:=I.obj r rfl;obtain⟨od,_,_,Ys,_⟩:=h5;exact⟨c',b,a,C',dx,od,rfl,NM e1,rfl,h1,h2,Ys⟩
 |_=>cases e
end
end WL
end
section
set_option linter.all false
set_option maxRecDepth 100000
namespace WL
open PySem PySem.Spec PyProof.Rows L2 VP
def bf(t:Bool)(id:String):Value:=if t then .type id else .builtin id
section
variable{X:Cx}{e a b o:Expr}{es:WM}{fa fb fe fo:M D}{pos p WB dj:Pos}{x c m:Str}{σ:Sg}{H H':Tm}{ρ:ax}{s s':Shared}{ds:Zm}{us:Zk}{Q:Wg}{E:Wg}{id:String}{fl:List (M D)}
theorem bq(t:Bool)(I:Inv X σ H ρ s)(hg:Gl X x)(hm:X.g.mg x=none)(hv:bootBuiltins x=some (bf t id))(ha:wpAny X.M X.A (spliced<|backTo pos<|starEach (e::es) X.env) (λus s1=>wpAny X.M X.A (call (bf t id) us) Q E s1) E s)(hn:x≠"__name__") (kv:(x == ("__debug__" : Str))=false) (he:Vj X e es) (iF:QO X pos es):wpAny X.M X.A (eval (.Call (.Name x p) (e::es) [] pos) X.env) Q E s:=by refine VN<|rP I hg hm hv ?_ hn kv;cases t;exact PyProof.Rows.callWith_builtin1 ha he iF;exact Nl ha he iF
def ED(X:Cx)(f:Value)(R:Rl D Value)(g:D->Y2):Prop:=∀s σ H ρ v a d Q E,Inv X σ H ρ s->RW H s v a->g a=some d->OK X σ H R Q d ρ->wpAny X.M X.A (call f [v]) Q E s
theorem cf{R:Rl D Value}{g:D->Y2}(t:Bool)(h:ED X (bf t id) R g)(hg:Gl X x)(hm:X.g.mg x=none)(hv:bootBuiltins x=some (bf t id))(ha:PR X a fa)(hn:x≠"__name__" := by decide)(kv:Wk x:=by decide)(hs:Vj X a []:=by rfl):WP X R (eval (.Call (.Name x p) [a] [] pos) X.env) (m1 g fa):=λs σ H ρ Q E I o=>by refine bq t I hg hm hv ?_ hn kv hs rfl;rw[hs];refine Ux<|ha.Q1 I o (λ_ _ q=>q) λs1 H1 aP v d I1 l1 r1 o1=>C0 ?_;obtain⟨d',e1,q⟩:=o1.opt;exact h s1 σ H1 aP v d d' Q E I1 r1 e1 (q.le l1)
theorem pO{g:Zm->Y2}(t:Bool)(h:Xh X (λus=>call (bf t id) us) g)(hg:Gl X x)(hm:X.g.mg x=none)(hv:bootBuiltins x=some (bf t id))(ha:vn X (e::es) (mL fl))(hn:x≠"__name__" := by decide)(kv:Wk x:=by decide)(he:Vj X e es:=by rfl) (iF:QO X pos es:=by rfl):PV X (.Call (.Name x p) (e::es) [] pos) (mF g fl):=λs σ H ρ Q E I o=>by refine bq t I hg hm hv ?_ hn kv he iF;refine(ha pos).Q1 I o (λ_ _ q=>q) λs1 H1 aP us d I1 l1 r1 o1=>?_;obtain⟨d',e1,q⟩:=o1.opt;exact h s1 σ H1 aP us d d' Q E I1 r1 e1 (q.le l1)
theorem pw{g:Zm->D}{d d':D}(e:(bR d).map g=some d'):∃t ds,d=i9 t ds/\d'=g ds:=by cases q:bR d with|none=>rw[q] at e;cases e|some ds=>rw[q] at e;cases e;obtain⟨t,h⟩:=cW q;exact⟨t,ds,h,rfl⟩
theorem f_len:ED X (bf false "len") RV cu:=λs σ H ρ v a d Q E I r e k=>by obtain⟨t,ds,rfl,rfl⟩:=pw (g:=λds=>.int ds.length) (d:=a) (d':=d) (by cases a<;>first|exact e|cases e);obtain⟨q,us,rfl,rr,sq,hz⟩:=I.seq t r;have hn:=rQ;have hl:=rr.length;have k':∀tk t,Q (.int us.length tk) {s with toks:=t}:=λtk t=>k _ H (.int us.length tk) (I.tok t) Le.refl ⟨_,by rw[hl]⟩;cases t;exact Calls.call_len_list sq (by simp only[List.size_toArray]<;>lia) (by simpa using k' _ _);exact len_tuple sq (by simp only[List.size_toArray]<;>lia) (by simpa using k' _ _)
theorem f_tup:ED X (bf true "tuple") RV jb:=λs σ H ρ v a d Q E I r e k=>by obtain⟨t,ds,rfl,rfl⟩:=pw (g:=λds=>.tup ds) (d:=a) (d':=d) (by cases a<;>first|exact e|cases e);obtain⟨q,us,rfl,rr,sq,hz⟩:=I.seq t r;have hl:=rr.length;cases t;refine call_tuple_list sq (λh' kp=>?_) (by simp only[List.size_toArray]<;>lia);obtain⟨H',I',l',r'⟩:=(I.kept (t':=s.toks) kp).zK s.toks rr hz;exact k _ H' _ I' l' r';refine call_tuple_same sq<|k s H _ I Le.refl ?_;rcases r with r|⟨l,i,e1,hl⟩;exact r;cases (I.a8 l _ hl).1.1
theorem Kc:ED X (bf true "list") (RF X) dG:=λs σ H ρ v a d Q E I r e k=>by
 obtain⟨t,ds,rfl,rfl⟩:=pw (g:=λds=>.lst ds) (d:=a) (d':=d) (by cases a<;>first|exact e|cases e);obtain⟨q,us,rfl,rr,sq,hz⟩:=I.seq t r;have hl:=rr.length;obtain⟨ob,ho,hc,n,hd⟩:∃ob,s.heap.get? q=some ob/\ob.cls=.type (if t then "tuple" else "list")/\∃n,ob.data=.seq us.toArray n:=by cases t;exact sq;exact sq
 refine call_list_seq q (T:=if t then "tuple" else "list") (by cases t;exact .inl rfl;exact .inr rfl) ho hc hd (λh' c' kp e'=>?_) (by simp only[List.size_toArray]<;>lia);obtain⟨I',l'⟩:=I.lay (t':=s.toks) (h':=h') (a:=s.heap.objs.size) (e:=.ow (.lst ds) X.N.length) kp (Ru _) (λlp=>⟨⟨hz,us,rr.p lp,c',e'⟩,λz=>nomatch z⟩) λd i z=>by cases z;exact Ru _
 exact k _ _ _ I' l' ⟨_,rfl,aA⟩
theorem fM:∀{us:Zk}{ds:Zm}{ns:WR},aC H us ds->bJ ds=some ns->IntsAre us ns
|_,_,_,.nil,e=>by cases e;exact .nil|_,_,_,.cons (b:=d) (l₂:=ds) h t,e=>by
 cases d with
 |int i=>obtain⟨tk,rfl⟩:=h;simp only[bJ] at e;cases q:bJ ds with|none=>rw[q] at e;cases e|some ns=>rw[q] at e;cases e;exact .cons i tk (fM t q)
 |_=>cases e
theorem qR:∀{us:Zk}{ns:WR},IntsAre us ns->aC H us (ns.map .int)|_,_,.nil=>.nil|_,_,.cons n t h=>.cons ⟨t,rfl⟩ (qR h)
theorem Q2J(hc:X.calm=true):ED X (bf false "sum") RV DL:=λs σ H ρ v a d Q E I r e k=>by
 unfold DL at e;cases e1:bR a with
 |none=>rw[e1] at e;cases e|some ds=>
  simp only[e1] at e;cases e2:bJ ds with
  |none=>rw[e2] at e;cases e|some ns=>
   rw[e2] at e;cases e;obtain⟨t,rfl⟩:=cW e1;obtain⟨q,us,rfl,rr,sq,hz⟩:=I.seq t r;have hi:=fM rr e2;have hh:X.A.handled=none:=I.ok.hd hc;obtain⟨ys,ey⟩:=hi.allInts.items;have es:preSum (numAt ys) ys.size=ns.sum:=by rw[preSum_eq,MI ZA];have:=nums_intItems ys;rw[<-ey] at this;rw[<-this,show us.toArray.toList=us from rfl,hi.numsOf]
   cases t;have Vi:s.heap.IsList q us.toArray:=sq;rw[ey] at Vi;exact sum_intListG hh Vi λh' tk t' hk=>by rw[es];exact k _ H _ (I.kept hk) Le.refl ⟨_,rfl⟩
   have Vi:s.heap.IsTuple q us.toArray:=sq;rw[ey] at Vi;exact W.ktm_sumG hh Vi λh' tk t' hk=>by rw[es];exact k _ H _ (I.kept hk) Le.refl ⟨_,rfl⟩
theorem MZ:ED X (bf false "sorted") RV qW:=λs σ H ρ v a d Q E I r e k=>by
 unfold qW at e;cases e1:bR a with
 |none=>rw[e1] at e;cases e|some ds=>
  simp only[e1] at e;cases e2:bJ ds with
  |none=>rw[e2] at e;cases e|some ns=>
   simp only[e2] at e;split at e;rename_i Wm;cases e;obtain⟨t,rfl⟩:=cW e1;obtain⟨q,us,rfl,rr,sq,hz⟩:=I.seq t r;have hi:=fM rr e2;have fin:∀(out:Array Value)(Ez:WR),IntsAre out.toList Ez->Ez.Perm ns->Ez.Pairwise (·<=·)->Q (.ref<|s.heap.objs.size+1) {s with heap:=sortedAll s.heap us out}:=λout Ez a1 a2 a3=>by
    have e:=uW a2 a3;subst e;obtain⟨c,hc⟩:=sortedAll_at s.heap us out;have z:((sortI ns).map D.int).length<=sizeLine:=by rw[Wj,a2.length_eq,UN];lia
    obtain⟨I',l'⟩:=I.lay (t':=s.toks) (h':=sortedAll s.heap us out) (a:=s.heap.objs.size+1) (e:=.pin _<|some<|.lst<|(sortI ns).map .int) (λb o e=>sortedAll_old e) (vU _) λlp=>⟨hc,λe z'=>by cases z';exact⟨z,out.toList,(qR a1).p lp,_,c,hc,rfl,rfl,rfl⟩⟩;exact k _ _ _ I' l' ⟨_,_,rfl,aA⟩
   have hl:us.length<64:=by rw[<-hi.length] at Wm;exact Wm
   cases t;exact sorted_ints sq hi hl fin;exact VS.sC sq hi hl fin;cases e
theorem f_int:Xh X (λus=>call (bf true "int") us) intD:=λs σ H ρ us ds d Q E I r e k=>by unfold VP.intD at e;split at e;cases e;obtain⟨u,rfl,t,rfl⟩:=r.one;exact call_int_int<|k _ H _ I Le.refl ⟨_,rfl⟩;cases e;obtain⟨u,rfl,r1⟩:=r.one;cases r1;exact call_int_bool<|k _ H _ (I.tok _) Le.refl ⟨_,rfl⟩;cases e
theorem aC.two(r:aC H us [d,d']):∃u v,us=[u,v]/\Rel H u d/\Rel H v d':=by cases r with|cons r t=>cases t with|cons r' t=>cases t;exact⟨_,_,rfl,r,r'⟩
theorem SS(hc:X.calm=true):Xh X (λus=>call (bf false "max") us) maxD:=λs σ H ρ us ds d Q E I r e k=>by unfold maxD at e;split at e;rename_i i j;cases e;obtain⟨u,v,rfl,⟨t,rfl⟩,⟨t',rfl⟩⟩:=r.two;refine max_two_ints (I.ok.hd hc) λh' tk kp=>k _ H _ (I.kept kp) Le.refl ?_;by_cases hj:j > i;rw[Ue hj,Ue hj];exact⟨_,rfl⟩;rw[Zj hj,Zj hj];exact⟨_,rfl⟩;cases e
theorem Bq(hc:X.calm=true)(al:Bool):ED X (bf false<|if al then "all" else "any") RV (pX al):=λs σ H ρ v a d Q E I r e k=>by
 cases a with
 |lst ds=>
  simp only[pX] at e;cases e2:iN ds with
  |none=>rw[e2] at e;cases e|some bs=>
   rw[e2] at e;cases e;obtain⟨q,us,rfl,rr,pl,hz⟩:=I.lst r;have eu:us=bs.map Value.bool:=by
    clear hz pl r k;induction rr generalizing bs with
    |nil=>cases e2;rfl|cons h t ih=>
     rename_i d _ _;cases d with
     |bl b=>simp only[iN] at e2;cases q:iN _ with|none=>rw[q] at e2;cases e2|some bs=>rw[q] at e2;cases e2;rw[ih bs q];cases h;rfl
     |_=>cases e2
   subst eu;have lt:q<s.heap.objs.size:=by obtain⟨o,e,_⟩:=pl.isList;exact tC e
   have hh:X.A.in1.handled=none:=I.ok.hd hc;have W:=Walks.list (prog:=X.g.prog) (w:=X.g.w) (A:=X.A.in1) hh s.heap.objs.size q (QA lt) (bs.map Value.bool).toArray;have st:(λi (h:Heap)=>h.IsListIter s.heap.objs.size q i/\h.IsList q (bs.map Value.bool).toArray) 0 (s.heap.push {cls:=.type "list_iterator",data:=.fields #[.ref q,.int 0 0]}):=⟨⟨_,YO _ rfl,rfl,rfl⟩,pl.isList.push _⟩;have tr:TruthOf X.g.prog X.g.w X.A.in1 (λi v=>(bs.map Value.bool).toArray[i]?=some v) (λi=>bs.getD i false):=λi v s Q E hP hQ=>by
    have Q2:bs[i]?.map Value.bool=some v:=by simpa using hP
    cases e:bs[i]? with
    |none=>rw[e] at Q2;cases Q2|some b=>
     rw[e] at Q2;cases Q2;have:bs.getD i false=b:=by simp[e]
     dsimp only at hQ;rw[this] at hQ;exact Gs hQ
   have kp:∀(h':Heap),(∀b o,b∉[s.heap.objs.size]->(s.heap.push {cls:=.type "list_iterator",data:=.fields #[.ref q,.int 0 0]}).get? b=some o->h'.get? b=some o)->∀b o,s.heap.get? b=some o->h'.get? b=some o:=λh' hk b o e=>hk b o (by simp[Nat.ne_of_lt<|Heap.lt_size e])<|WK _ e;have hsz:(bs.map Value.bool).toArray.size=bs.length:=ZA;cases al with|true=>refine call_all_walk<|NV pl.isList ⟨_,_,_,_,_,_,_,rfl,W,st,tr,λh' tk hk=>?_⟩;rw[hsz,(VS.range_all bs).1];exact k _ H _ (I.kept<|kp h' hk) Le.refl rfl|false=>refine call_any_walk<|NV pl.isList ⟨_,_,_,_,_,_,_,rfl,W,st,tr,λh' tk hk=>?_⟩;rw[hsz,(VS.range_all bs).2];exact k _ H _ (I.kept<|kp h' hk) Le.refl rfl
 |_=>cases e
end
end WL
end
section
set_option linter.all false
set_option maxRecDepth 100000
namespace WL
open PySem PySem.Spec PyProof.Rows L2 VP
section
variable{X:Cx}{e a b o:Expr}{es:WM}{fa fb fe fo:M D}{pos p WB dj:Pos}{x c m:Str}{σ:Sg}{H H':Tm}{ρ:ax}{s s':Shared}{ds:Zm}{us:Zk}{Q:Wg}{E:Wg}{id:String}{fl:List (M D)}
def Wd(neg:Bool):CmpOp:=if neg then .NotEq else .Eq
theorem w_eq(neg:Bool)(hu:X.A.units+64<cLine):lg X (compareOp<|Wd neg) (QZ neg):=λs σ H ρ v u a b d Q E I r1 r2 e k=>Ml neg hu I (.inl r1) (.inl r2) e k
theorem MX(neg:Bool){P:D->ax->Prop}{E':Xn->ax->Prop}(hu:X.A.units+64<cLine)(j:Nat)(hb:PV X b fb)(hN:X.N[j]?=some x)(hv:mz X.env.scope x)(hd:(x == ("__debug__" : Str))=false)(gG:(x == ("__classdict__" : Str))=false)(I:Inv X σ H ρ s)(o:Out (qJ (QZ neg) j fb ρ) P E')(hE:∀x r,E' x r->OK X σ H (XR X) E x r) (hP:∀d aP s' H' w,Inv X σ H' aP s'->Le H H'->Rel H' w d->P d aP->Q w s'):wpAny X.M X.A (eval (.Name x p) X.env) (λu s1=>wpAny X.M X.A (eval b X.env) (λv s2=>wpAny X.M X.A (compareOp (Wd neg) u v) Q E s2) E s1) E s:=by
 unfold qJ at o;by_cases ho:(own ρ[j]?).isSome=true;rw[Ue ho] at o;obtain⟨d0,ho⟩:=Option.isSome_iff_exists.mp ho;obtain⟨l,uk,hl⟩:=I.ownAt hN hv ho;refine cg I hv uk (hb.Q1 I o hE λs1 H1 aP v d I1 l1 r1 o1=>?_) hd gG;unfold tw at o1;cases q:own aP[j]? with|none=>rw[q] at o1;exact o1.elim|some d2=>rw[q] at o1;obtain⟨l',Wt,qC⟩:=I1.ownAt hN hv q;rw[uk] at Wt;cases Wt;obtain⟨d,e,k⟩:=o1.opt;exact Ml neg hu I1 (.inr ⟨l,j,rfl,qC⟩) (.inl r1) e λs' H' w I' l' r'=>hP d aP s' H' w I' (l1.trans l') r' k
 rw[Zj ho] at o;exact o.elim
theorem PI(neg:Bool)(hu:X.A.units+64<cLine)(j:Nat){x:Str}{p:Pos}(hb:PV X b fb)(hm:behindInMarks (Wd neg) b=false)(hN:X.N[j]?=some x:=by rfl)(hv:mz X.env.scope x:=by exact FA)(hd:Wk x:=by decide)(gG:GU x:=by decide):PB X (.Compare (.Name x p) [Wd neg] [b] pos) (tB<|qJ (QZ neg) j fb):=λs σ H ρ Q E I o=>wpAny_isTrue_Compare1 (MX neg hu j hb hN hv hd gG I o.Q1 (λ_ _ q=>q) λd aP s' H' w I' l' r' k=>Rr I' l' r' k) hm
def toV:D->V|.bl b=>.bl b|.int i=>.int i|.str x=>.str x|_=>.aK
theorem toV_rel{d:D}(f:fK d=true)(r:Rel H u d):RelV (toV d) u:=by cases d<;>first|exact r|cases f
theorem toV_flat(d:D):mK (toV d)=true:=by cases d<;>rfl
theorem toV_eq{d e:D}(f:fK d=true)(g:fK e=true):E6 (toV d) (toV e)=eqB d e:=by cases d<;>first|(cases f;done)|(cases e<;>first|(cases g;done)|rfl)
theorem toV_all:∀{us:Zk}{ds:Zm},aC H us ds->ds.all fK=true->Vals (ds.map toV) us/\(ds.map toV).all mK=true|_,_,.nil,_=>⟨.nil,rfl⟩|_,_,.cons h t,f=>by rw[Pw,ML] at f;obtain⟨i1,i2⟩:=toV_all t f.2;exact⟨.cons (toV_rel f.1 h) i1,by rw[WA,Pw,toV_flat,i2];rfl⟩
theorem any_eq{d:D}(f:fK d=true):∀{ds:Zm},ds.all fK=true->((ds.map toV).any λy=>E6 y<|toV d)=ds.any λy=>eqB y d|[],_=>rfl|y::ds,g=>by rw[Pw,ML] at g;rw[WA,Zc,Zc,any_eq f g.2,toV_eq g.1 f]
theorem Mm(neg:Bool){d1 d2 d:D}(I:Inv X σ H ρ s)(r1:Rel H v d1)(r2:RW H s u d2)(e:inD neg d1 d2=some d)(k:ro X σ H ρ d Q):wpAny X.M X.A (compareOp (if neg then .NotIn else .In) v u) Q E s:=by
 unfold inD at e;cases e1:bR d2 with
 |none=>rw[e1] at e;cases e|some ds=>
  simp only[e1] at e;split at e;rename_i hf;rw[ML] at hf;cases e;obtain⟨t,rfl⟩:=cW e1;obtain⟨q,us,rfl,rr,sq,hz⟩:=I.seq t r2;obtain⟨i1,i2⟩:=toV_all rr hf.2;have rx:=toV_rel hf.1 r1;have mem:=λw (hw:w∈us.toArray)=>uA (A:=X.A.in1) (s:=s) rx (toV_flat d1) i1 i2 w (by simpa using hw);have ea:us.toArray.any (Eo<|toV d1)=ds.any λy=>eqB y d1:=by rw[show us.toArray.any (Eo<|toV d1)=us.any (Eo<|toV d1) by simp,xk i1 i2,any_eq hf.1 hf.2]
  cases neg<;>cases t;exact SeqAt.in_listAt (Eo<|toV d1) sq mem<|k s H _ I Le.refl (by rw[ea];rfl);exact SeqAt.in_tupleAt (Eo<|toV d1) sq mem<|k s H _ I Le.refl (by rw[ea];rfl);exact SeqAt.notIn_listAt (Eo<|toV d1) sq mem<|k s H _ I Le.refl (by rw[ea];rfl);exact SeqAt.notIn_tupleAt (Eo<|toV d1) sq mem<|k s H _ I Le.refl (by rw[ea];rfl);cases e
theorem VJ:lg X (compareOp .In) (inD false):=λs σ H ρ v u a b d Q E I r1 r2 e k=>Mm false I r1 (.inl r2) e k
theorem NJ(neg:Bool){P:D->ax->Prop}{E':Xn->ax->Prop}(j:Nat)(ha:PV X a fa)(hN:X.N[j]?=some x)(hv:mz X.env.scope x)(hd:(x == ("__debug__" : Str))=false)(gG:(x == ("__classdict__" : Str))=false)(I:Inv X σ H ρ s)(o:Out (FU neg fa j ρ) P E')(hE:∀x r,E' x r->OK X σ H (XR X) E x r) (hP:∀d aP s' H' w,Inv X σ H' aP s'->Le H H'->Rel H' w d->P d aP->Q w s'):wpAny X.M X.A (eval a X.env) (λu s1=>wpAny X.M X.A (eval (.Name x p) X.env) (λv s2=>wpAny X.M X.A (compareOp (if neg then .NotIn else .In) u v) Q E s2) E s1) E s:=
 ha.Q1 I o hE λs1 H1 aP v d I1 l1 r1 o1=>by unfold Cq at o1;cases q:own aP[j]? with|none=>rw[q] at o1;exact o1.elim|some d2=>rw[q] at o1;obtain⟨l,hu,hl⟩:=I1.ownAt hN hv q;obtain⟨d,e,k⟩:=Out.opt o1;exact cg I1 hv hu (Mm neg I1 r1 (.inr ⟨l,j,rfl,hl⟩) e λs' H' w I' l' r'=>hP d aP s' H' w I' (l1.trans l') r' k) hd gG
theorem Q1x(j:Nat)(ha:PV X a fa)(hm:behindInMarks .NotIn (.Name x p)=false)(hN:X.N[j]?=some x:=by rfl)(hv:mz X.env.scope x:=by exact FA)(hd:Wk x:=by decide)(gG:GU x:=by decide):PB X (.Compare a [.NotIn] [.Name x p] pos) (tB<|FU true fa j):=λs σ H ρ Q E I o=>wpAny_isTrue_Compare1 (NJ true j ha hN hv hd gG I o.Q1 (λ_ _ q=>q) λd aP s' H' w I' l' r' k=>Rr I' l' r' k) hm
theorem cR.rel{d:D}(h:VS.cR d v):Rel H v d:=by cases d<;>first|exact h|exact h.elim
theorem cR.uq{d e:D}(h:VS.cR d v)(g:VS.cR e v):d=e:=by
 cases d with
 |aK=>cases e<;>first|exact g.elim|rfl|(cases h;cases g;done)|(cases h;obtain⟨_,z⟩:=g;cases z)
 |bl k=>cases e<;>first|exact g.elim|(cases h;cases g;rfl)|(cases h;cases g;done)|(cases h;obtain⟨_,z⟩:=g;cases z)
 |int i=>obtain⟨t,h⟩:=h;subst h;cases e<;>first|exact g.elim|(cases g;done)|(obtain⟨_,z⟩:=g;injection z with z;rw[z])|(obtain⟨_,z⟩:=g;cases z)
 |str i=>obtain⟨t,h⟩:=h;subst h;cases e<;>first|exact g.elim|(cases g;done)|(obtain⟨_,z⟩:=g;injection z with z;rw[z])|(obtain⟨_,z⟩:=g;cases z)
 |_=>exact h.elim
theorem xZ:∀{ds es:Zm}{us:Zk},Paired VS.cR ds us->Paired VS.cR es us->ds=es|_,_,_,.nil,.nil=>rfl|_,_,_,.cons h t,.cons h' t'=>by rw[cR.uq h h',xZ t t']
theorem nJ.uq{K:W.Frag}{a:Addr}{d e:D}(h:nJ K a d)(h':nJ K a e):d=e:=by
 obtain⟨t,ds,aS,n,rfl,h1,_,h3⟩:=h;obtain⟨t',es,its',n',rfl,S7,_,h3'⟩:=h';rw[h1] at S7;have et:t=t':=by injection S7 with z;injection z with z;injection z with z;cases t<;>cases t'<;>first|rfl|exact absurd z (by decide)
 subst et;cases S7;rw[xZ h3 h3']
theorem DR{K:W.Frag}{a:Addr}{d:D}(h:nJ K a d):EA K a=some d:=by have hx:∃d,nJ K a d:=⟨_,h⟩;unfold EA;rw[dif_pos hx,hx.choose_spec.uq h]
theorem Q1o{K:W.Frag}{a:Addr}{d:D}(h:EA K a=some d):nJ K a d:=by unfold EA at h;split at h;rename_i hx;cases h;exact hx.choose_spec;cases h
theorem pW.rel{d:D}(h:VS.pW X.g.K d v)(I:Inv X σ H ρ s):Rel H v d:=by rcases h with h|⟨ds,q,aS,n,rfl,rfl,h1,h2,h3⟩;exact cR.rel h;have tk:=DR (K:=X.g.K) (a:=q) (d:=.tup ds) ⟨true,ds,aS,n,rfl,h1,h2,h3⟩;have:=I.le _ _ (I.ok.bs q _<|I.ok.mod.KH _ _ h1) trivial;rw[tk] at this;exact⟨_,_,rfl,this⟩
theorem Dw{d:D}(hm:VS.ZM X.g.mg x d)(hg:Gl X x)(hd:Wk x:=by decide):PV X (.Name x pos) (mC d):=let ⟨_,h1,h2⟩:=hm;GB hg h1 (λ_=>cR.rel h2) hd
theorem sk{t:List (Str×D)}{ab:WZ}{p:Pos}(T:VS.EH X.g.w X.g.K X.g.mg x t ab)(hg:Gl X x)(hb:PV X b fb)(kv:Wk x:=by decide)
  (hs:∀(q:Addr)(k:Str)(tk:Tok),subscripted b false (.ref q) (.str k tk)=operate [.ref q,.str k tk] (getItem (.ref q)<|.str k tk):=by intro _ _ _;with_unfolding_all rfl) :
  PV X (.Subscript (.Name x p) b pos) (m1 (Hh t) fb):=λs σ H ρ Q E I o=>by
 obtain⟨q,es,n,hm,_,hl,hk,hv,_⟩:=T.ex;refine Subscript_<|ec I hg hm (hb.Q1 I o (λ_ _ q=>q) λs1 H1 aP v d1 I1 l1 r1 o1=>?_) kv;obtain⟨d,e1,q1⟩:=o1.opt;cases d1 with|str k=>obtain⟨tk,rfl⟩:=r1;obtain⟨v,hn,fl⟩:=hv k d e1;have TB:=W.mapOf_K (prog:=X.g.prog) (w:=X.g.w) I1.sN hl hk;exact PyProof.Rows.tail_any TB.typeIs slot_dict_getitem.lookup (wpAny_getItem_of (strKind_is X.g.prog X.g.w k tk) TB (W.find_K hl hn)<|q1 _ H1 _ (I1.tok _) l1<|pW.rel fl I1) (hs q k tk)|_=>cases e1
theorem HC(neg:Bool){t:List (Str×D)}{ab:WZ}{q:Addr}{es:Array DictEntry}{n:Nat}(lo:(q == sysModules)=false)(hl:X.g.K.lookup q=some ⟨.type "dict",none,.dict es n,#[]⟩)(hk:W.KeysLit X.g.w.params es.toList)(hv:∀k d,t.lookup k=some d->∃v,W.nsIn X.g.K q k=some (some v)/\VS.pW X.g.K d v) (X4:∀k∈ab,W.nsIn X.g.K q k=some none) {d1 d:D} (I:Inv X σ H ρ s) (r1:Rel H v d1) (e1:sF neg t ab d1=some d) (k:ro X σ H ρ d Q):wpAny X.M X.A (compareOp (if neg then .NotIn else .In) v<|.ref q) Q E s:=by
 cases d1 with
 |str z=>
  obtain⟨tk,rfl⟩:=r1;simp only[sF] at e1;obtain⟨r,hn,rfl⟩:∃r:R7,W.nsIn X.g.K q z=some r/\d=.bl (if neg then !r.isSome else r.isSome):=by cases e2:t.lookup z with|some d2=>rw[e2] at e1;cases e1;obtain⟨v,hn,_⟩:=hv z d2 e2;exact⟨some v,hn,by cases neg<;>rfl⟩|none=>rw[e2] at e1;dsimp only at e1;split at e1;rename_i hm;cases e1;exact⟨none,X4 z (by simpa using hm),by cases neg<;>rfl⟩;cases e1
  have TB:=W.mapOf_K (prog:=X.g.prog) (w:=X.g.w) I.sN hl hk;cases neg;exact wpAny_in_of (strKind_is X.g.prog X.g.w z tk) lo TB (by rw[W.find_K hl hn];exact k _ H _ (I.tok _) Le.refl rfl);exact wpAny_notIn_of (strKind_is X.g.prog X.g.w z tk) lo TB (by rw[W.find_K hl hn];exact k _ H _ (I.tok _) Le.refl rfl)
 |_=>cases e1
theorem Di{t:List (Str×D)}{ab:WZ}(T:VS.EH X.g.w X.g.K X.g.mg x t ab)(hg:Gl X x)(ha:PV X a fa)(hm:behindInMarks .In (.Name x p)=false)(kv:Wk x:=by decide):PB X (.Compare a [.In] [.Name x p] pos) (tB<|m1 (sF false t ab) fa):=λs σ H ρ Q E I o=>by obtain⟨q,es,n,h1,lo,hl,hk,hv,X4⟩:=T.ex;refine wpAny_isTrue_Compare1 (ha.Q1 I o.Q1 (λ_ _ q=>q) λs1 H1 aP v d1 I1 l1 r1 o1=>?_) hm;obtain⟨d,e1,q1⟩:=o1.opt;exact ec I1 hg h1 (HC false lo hl hk hv X4 I1 r1 e1 λs' H' w I' l' r'=>Rr I' (l1.trans l') r' q1) kv
end
end WL
end
section
set_option linter.all false
set_option maxRecDepth 100000
namespace WL
open PySem PySem.Spec PyProof.Rows L2 VP
section
variable{X:Cx}{e a b o:Expr}{es:WM}{fa fb fe fo:M D}{pos p WB dj:Pos}{x c m:Str}{σ:Sg}{H H':Tm}{ρ:ax}{s s':Shared}{ds:Zm}{us:Zk}{Q:Wg}{E:Wg}{id:String}{fl:List (M D)}
theorem aC.rep(r:aC H us ds):∀n:Nat,aC H (List.replicate n us).flatten (List.replicate n ds).flatten|0=>.nil|n+1=>by rw[Co,Co,Ow,Ow];exact r.app (r.rep n)
theorem so(aS:Zk)(m:Nat):List.foldl (λx1 x2=>x1++x2) #[] (List.replicate m aS.toArray)=(List.replicate m aS).flatten.toArray:=by have:=foldl_rep aS m [];rw[List.nil_append] at this;exact this
theorem Q0V{k:Int}{d:D}(I:Inv X σ H ρ s)(r1:Rel H v (.tup ds))(r2:Rel H u (.int k))(e:v9 (.tup ds) (.int k)=some d)(q:ro X σ H ρ d Q):wpAny X.M X.A (binaryOp .Mult v u) Q E s:=by
 simp only[v9] at e;split at e;rename_i hc;cases e;obtain⟨t,rfl⟩:=r2;obtain⟨l,aS,rfl,r,pt,_⟩:=I.tup<|.inl r1;obtain⟨⟨cls,dd,data,sl⟩,e,vH,n,hd⟩:=id pt;simp only at vH hd;subst vH hd;have hl:=r.length;have hb:(fU:Int)=16777216:=rfl;have hz:=hc.2.2;rw[nK] at hz;have h12:=hc.1;have h22:=hc.2.1;have hr:¬(decide (k < -(2 ^ 63))||decide (k>=2 ^ 63))=true:=by simp only[Bool.or_eq_true,decide_eq_true_eq,not_or];lia
 refine wpAny_binaryOp_repeat_ref (T:="tuple") (U:="int") (by decide) ⟨_,e,rfl⟩ (λs'=>typeIs_int s' k t) VS.noFill_tuple_mul PySem.F.fills_int_mul PySem.F.slot_int_rmul VS.sv PySem.F.slot_int_index.lookup<|Pf PySem.F.slot_int_rmul (typeIs_int s k t) PySem.F.entry_int_rmul (PySem.F.args_int_rmul_2 _ _) (VS.oK k t l aS.toArray n dd sl) ⟨e,rfl,⟨_,e,rfl⟩,?_⟩;have new:∀Zz,aC H Zz (List.replicate k.toNat ds).flatten->Q (.ref s.heap.objs.size) {s with heap:=s.heap.push {cls:=.type "tuple",data:=.seq Zz.toArray},toks:=s.toks}:=λZz r'=>by obtain⟨H',I',l',rr⟩:=I.zK s.toks r' (by rw[len_rep,Nat.mul_comm];exact hz);exact q _ H' _ I' l' rr
 by_cases c1:(aS.toArray.isEmpty||k == 1)=true;refine Pf Qh ⟨_,e,rfl⟩ MB (Nz _ _) (VS.wX l aS.toArray n dd sl k t hr c1) ⟨e,q _ H _ I Le.refl ?_⟩;have:(List.replicate k.toNat ds).flatten=ds:=by
  rw[qc] at c1;rcases c1 with c1|c1;have z:aS=[]:=by simpa using c1
  subst z;cases r;exact List.eq_nil_of_length_eq_zero (by rw[len_rep];simp);have:k=1:=by simpa using c1
  subst this;simp
 rw[this];exact r1;by_cases c2:(decide (k<=0)||aS.toArray.isEmpty)=true;refine Pf Qh ⟨_,e,rfl⟩ MB (Nz _ _) (VS.wY l aS.toArray n dd sl k t hr c1 c2) ⟨e,?_⟩;have hk:k.toNat=0:=by rw[qc] at c1 c2;rcases c2 with c2|c2;have:=z7 c2;lia;exact absurd (.inl c2) c1
 exact new [] (by rw[hk];exact .nil);have hk:0<k:=by
  rw[qc,not_or] at c2;have:=of_decide_eq_false (Bool.eq_false_iff.mpr c2.1)
  lia
 have hm:((aS.toArray.size:Nat):Int)*k=((ds.length*k.toNat:Nat):Int):=by rw[Vy,hl,Int.natCast_mul,Int.toNat_of_nonneg Zl]
 have hb:(sizeLine:Nat)<=16777216:=by decide
 refine Pf Qh ⟨_,e,rfl⟩ MB (Nz _ _) (VS.wZ l aS.toArray n dd sl k t hr c1 c2 (by rw[hm];lia) (by rw[hm];unfold Builtin.Tuple.tupleTooMany;simp only[decide_eq_true_eq];lia) (by rw[so,Vy,len_rep,hl,Nat.mul_comm];exact hz)) ⟨e,?_⟩;rw[so];exact new _<|r.rep _;cases e
theorem Ee:lg X (binaryOp .Mult) v9:=λs σ H ρ v u a b d Q E I r1 r2 e k=>by
 cases a with
 |int i=>cases b with|int j=>exact w_mul s σ H ρ v u _ _ d Q E I r1 r2 e k|_=>cases e
 |tup ds=>cases b with|int j=>exact Q0V I r1 r2 e k|_=>cases e
 |_=>cases e
theorem F8{R:Rl D Value}{d1 d2 d:D}(new:∀t' us ds s σ H ρ,Inv X σ H ρ s->aC H us ds->ds.length<=sizeLine->∃H',Inv X σ H' ρ {s with heap:=s.heap.push {cls:=.type "list",data:=.seq us.toArray},toks:=t'}/\Le H H'/\∀s',R H' s' (.ref s.heap.objs.size)<|.lst ds)(I:Inv X σ H ρ s)(r1:Rel H v d1)(r2:Rel H u d2)(e:mulL d1 d2=some d)(q:OK X σ H R Q d ρ):wpAny X.M X.A (binaryOp .Mult v u) Q E s:=by
 cases d1<;>cases d2<;>try (simp only[mulL,reduceCtorEq] at e;done)
 rename_i ds k;simp only[mulL] at e;split at e
 ·rename_i hc;cases e;obtain⟨t,rfl⟩:=r2;obtain⟨l,aS,rfl,r,⟨⟨cls,dd,data,sl⟩,n,e,vH,hdd,hd⟩,_⟩:=I.lst<|.inl r1;simp only at vH hdd hd;subst vH hdd hd;have hl:=r.length;have hb:(fU:Int)=16777216:=rfl;have hz:=hc.2.2;rw[nK] at hz;have h12:=hc.1;have h22:=hc.2.1;have SR:aS.toArray.size*k.toNat<=sizeLine:=by rw[Vy,hl];exact hz
  have Ya:¬aS.toArray.size*k.toNat > (2 ^ 63-1) / 8:=by
   have:(sizeLine:Nat)<=(2 ^ 63-1) / 8:=by decide
   lia
  have Yh:¬(!Builtin.List.listFitsIndex k)=true:=by rw[fitsIndex_both Zl Zl];exact Gn
  have Tz:¬Builtin.List.listTooLong (aS.toArray.size*k.toNat)=true:=by rw[uF SR];exact Gn
  have Yr:List.foldl (λx1 x2=>x1++x2) #[] (List.replicate (if aS.toArray.isEmpty=true then 0 else k.toNat) aS.toArray)=(List.replicate k.toNat aS).flatten.toArray:=by rw[so];cases aS with|nil=>simp|cons a r'=>rw[Zj ZA]
  refine wpAny_binaryOp_repeat_ref (T:="list") (U:="int") (by decide) ⟨_,e,rfl⟩ (λs'=>typeIs_int s' k t) noFill_list_mul PySem.F.fills_int_mul PySem.F.slot_int_rmul repeat_list PySem.F.slot_int_index.lookup<|Pf PySem.F.slot_int_rmul (typeIs_int s k t) PySem.F.entry_int_rmul (PySem.F.args_int_rmul_2 _ _) (VS.Q1F k t l aS.toArray n sl) ⟨e,rfl,⟨_,e,rfl⟩,Pf PySem.F.slot_list_mul ⟨_,e,rfl⟩ PySem.F.entry_list_mul (PySem.F.args_list_mul_2 _ _) (VS.zw l aS.toArray n sl k t Yh Ya Tz) ⟨e,?_⟩⟩;rw[Yr];obtain⟨H',I',l',rr⟩:=new s.toks _ _ s σ H ρ I (r.rep k.toNat) (by rw[len_rep,Nat.mul_comm];exact hz);exact q _ H' _ I' l' (rr _)
 ·cases e
theorem QK:lg X (binaryOp .Mult) mulL:=λs σ H ρ v u a b d Q E I r1 r2 e k=>F8 (R:=RV) (λt' us ds s σ H ρ I r hz=>let ⟨H',I',l',rr⟩:=I.C5 t' r hz;⟨H',I',l',λ_=>rr⟩) I r1 r2 e k
theorem Q1J{subs:Uk}{pT:Pos}(T:VS.RE X.g.K X.g.mg c subs)(hg:Gl X "isinstance")(hm:X.g.mg "isinstance" = none)(Nk:Gl X c)(ha:PR X a fa)(hdT:Wk c:=by decide)
  (hs:starEach [a,.Name c pT] X.env=(false,eval a X.env)::starEach [.Name c pT] X.env:=by rfl) (oG:starEach [.Name c pT] X.env=(false,eval (.Name c pT) X.env)::starEach [] X.env:=by rfl) (iF:(backTo pos<|starEach [.Name c pT] X.env).any (·.1)=false:=by rfl) :
  PV X (.Call (.Name "isinstance" p) [a,.Name c pT] [] pos) (m1 (aL subs) fa):=λs σ H ρ Q E I o=>by
 obtain⟨C,hC,Ft⟩:=T.ex;refine bq (id:="isinstance") false I hg hm boot_isinstance ?_ (by decide) (by decide) hs iF;rw[hs,oG];refine Ux<|ha.Q1 I o (λ_ _ q=>q) λs1 H1 aP v d1 I1 l1 r1 o1=>Ux<|ec I1 Nk hC (C0 ?_) hdT;obtain⟨d,e,q⟩:=o1.opt;obtain⟨c',b,a',C',dx,od,rfl,hb,rfl,h1,h2,h3⟩:=Ct I1 r1 e;obtain⟨D,hD,f,hb⟩:=Ft _ hb;rw[h1] at hD;cases hD;exact W.kia_one (W.kitx_own f.pg f.hd f.fi T.sp T.tk f.mr) I1.sN ⟨h2,rfl,rfl,h3⟩ hb (λz=>nomatch z) λtk=>q _ H1 _ (I1.tok tk) l1 rfl
theorem GF{subs:Uk}{c1 c2:Str}{p1 p2 p3:Pos}{x1}(T:VS.RG X.g.K X.g.mg c1 c2 subs)(hg:Gl X "isinstance")(hm:X.g.mg "isinstance" = none)(ha:PR X a fa)(hg1:Gl X c1:=by rfl)(Yi:Gl X c2:=by rfl)(Yc:Wk c1:=by decide)(hd2:Wk c2:=by decide)
  (hs:starEach [a,.Tuple [.Name c1 p1,.Name c2 p2] x1 p3] X.env=(false,eval a X.env)::starEach [.Tuple [.Name c1 p1,.Name c2 p2] x1 p3] X.env:=by rfl)
  (oG:starEach [.Tuple [.Name c1 p1,.Name c2 p2] x1 p3] X.env=(false,eval (.Tuple [.Name c1 p1,.Name c2 p2] x1 p3) X.env)::starEach [] X.env:=by rfl)
  (hs3:starEach [.Name c1 p1,.Name c2 p2] X.env=(false,eval (.Name c1 p1) X.env)::starEach [.Name c2 p2] X.env:=by rfl) (hs4:starEach [.Name c2 p2] X.env=(false,eval (.Name c2 p2) X.env)::starEach [] X.env:=by rfl)
  (iF:(backTo pos<|starEach [.Tuple [.Name c1 p1,.Name c2 p2] x1 p3] X.env).any (·.1)=false:=by rfl) :
  PV X (.Call (.Name "isinstance" p) [a,.Tuple [.Name c1 p1,.Name c2 p2] x1 p3] [] pos) (m1 (aL subs) fa):=λs σ H ρ Q E I o=>by
 obtain⟨C1,C2,hC1,hC2,Ft⟩:=T.ex;refine bq (id:="isinstance") false I hg hm boot_isinstance ?_ (by decide) (by decide) hs iF;rw[hs,oG];refine Ux<|ha.Q1 I o (λ_ _ q=>q) λs1 H1 aP v d1 I1 l1 r1 o1=>Ux<|wpAny_Tuple_spliced (x1:=x1) ?_;rw[hs3,hs4];refine Ux<|ec I1 hg1 hC1 (Ux<|ec I1 Yi hC2 (C0 ?_) hd2) Yc;obtain⟨d,e,q⟩:=o1.opt;obtain⟨c',b,a',C',dx,od,rfl,hb,rfl,h1,h2,h3⟩:=Ct I1 r1 e;obtain⟨D,hD,f,hb⟩:=Ft _ hb;rw[h1] at hD;cases hD;refine⟨show (2:Nat)<=sizeLine by decide,C0 ?_⟩;have I2:=I1.kept (t':=s1.toks) (h':=s1.heap.push {cls:=.type "tuple",data:=.seq [Value.ref C1,.ref C2].toArray}) λb o e=>WK _ e;exact W.kia_tup (W.kitx_own f.pg f.hd f.fi T.sp T.tk f.mr) I2.sN ⟨WK _ h2,rfl,rfl,WK _ h3⟩ (YO _ rfl) hb (λz=>nomatch z) λtk=>q _ H1 _ (I2.tok tk) l1 rfl
end
end WL
end
section
set_option linter.all false
set_option maxRecDepth 100000
namespace WL
open PySem PySem.Spec PyProof.Rows L2 VP
section
variable{X:Cx}{e a b o:Expr}{es:WM}{fa fb fe fo:M D}{pos p p' Bg WB dj kp:Pos}{x c m:Str}{σ:Sg}{H H':Tm}{ρ:ax}{s s':Shared}{ds:Zm}{us:Zk}{Q:Wg}{E:Wg}{id:String}{fl:List (M D)}
abbrev Xi(aS:Zk):Nat->Value->Prop:=λi v=>aS.toArray[aS.toArray.size-1-i]?=some v
structure Xj(X:Cx)(it q:Addr)(aS:Zk)(T:String)(St:Nat->Heap->Prop):Prop where
 two:VS.GA.EK T
 walk:∀A:Around,A.handled=none->WalksS X.g.prog X.g.w A it [it,q] [it] (λa b=>b=a) aS.toArray.size (Xi aS) (λi s=>St i s.heap)
 ty:∀(i:Nat)(s:Shared),St i s.heap->s.TypeIs (.ref it) T
 hint:∀A:Around,VS.GA.Hint X.g.prog X.g.w A it St
theorem uT(t:Bool)(I:Inv X σ H ρ s)(r:RW H s v (i9 t ds))(k:∀o tk T St q aS,aC H aS ds->ds.length<=sizeLine->Xj X s.heap.objs.size q aS T St->St 0 (s.heap.push o)->q<s.heap.objs.size->Q (.ref s.heap.objs.size) {s with heap:=s.heap.push o,toks:=tk}):wpAny X.M X.A (call (.type "reversed") [v]) Q E s:=by
 obtain⟨q,aS,rfl,rr,sq,hz⟩:=I.seq t r;have hsz:aS.toArray.size<=sizeLine:=by rw[Vy,rr.length];exact hz
 cases t with
 |false=>
  have pl:s.heap.IsList q aS.toArray:=sq;have lt:q<s.heap.objs.size:=by obtain⟨o,e,_⟩:=pl;exact tC e
  exact call_reversed_list pl (k _ s.toks "list_reverseiterator" (VS.GA.ZQ s.heap.objs.size q aS.toArray) q aS rr hz ⟨.inl rfl,λA hh=>(Walks.listRev hh s.heap.objs.size q (QA lt) aS.toArray).toS,λi s st=>st.2.1.typeIs,λA=>VS.GA.Tq⟩ ⟨Hq _,⟨_,YO _ rfl,rfl,by simp[revObj]⟩,pl.at λo e=>WK _ e⟩ lt)
 |true=>
  have pt:IsTup s.heap q aS.toArray:=sq;have lt:q<s.heap.objs.size:=by obtain⟨o,e,_⟩:=pt;exact tC e
  exact VS.RV.make pt hsz λtk=>k _ tk "reversed" (VS.GA.Xk s.heap.objs.size q aS.toArray) q aS rr hz ⟨.inr rfl,λA hh=>(VS.GA.Q18 hh s.heap.objs.size q (QA lt) aS.toArray hsz).toS,λi s st=>st.2.1.typeIs,λA=>VS.GA.Tu hsz⟩ ⟨Hq _,⟨_,YO _ rfl,rfl,by simp[VS.RV.obj]⟩,let ⟨o,e,r⟩:=pt;⟨o,WK _ e,r⟩⟩ lt
theorem aC.reverse:∀{us:Zk}{ds:Zm},aC H us ds->aC H us.reverse ds.reverse|_,_,.nil=>.nil|_,_,.cons h t=>by rw[PZ,PZ];exact(aC.reverse t).app (.cons h .nil)
theorem yA(hg:Gl X "reversed")(hm:X.g.mg "reversed" = none)(Nk:Gl X "tuple")(TC:X.g.mg "tuple" = none)(ha:PR X a fa)(hc:X.calm=true:=by rfl)(hs:starEach [a] X.env=[(false,eval a X.env)]:=by rfl)(oG:starEach [.Call (.Name "reversed" p) [a] [] pos] X.env=[(false,eval (.Call (.Name "reversed" p) [a] [] pos) X.env)]:=by rfl):PV X (.Call (.Name "tuple" p') [.Call (.Name "reversed" p) [a] [] pos] [] Bg) (m1 uS fa):=λs σ H ρ Q E I o=>by
 refine bq (id:="tuple") true I Nk TC boot_tuple ?_ (by decide) (by decide) oG rfl;rw[oG];refine Ux<|bq (id:="reversed") true I hg hm boot_reversed ?_ (by decide) (by decide) hs rfl;rw[hs];refine Ux<|ha.Q1 I o (λ_ _ q=>q) λs1 H1 aP v d1 I1 l1 r1 o1=>C0 ?_;obtain⟨d,e,q⟩:=o1.opt;obtain⟨t,ds,rfl,rfl⟩:=pw e;refine uT t I1 r1 λo tk T St q' aS rr hz W st lt=>C0 ?_;have hsz:aS.toArray.size<=sizeLine:=by rw[Vy,rr.length];exact hz
 refine VS.GA.vx (T:=T) (St:=St) (s:={s1 with heap:=s1.heap.push o,toks:=tk}) W.two (W.walk _<|I1.ok.hd hc) W.ty (W.hint _) st (λb hb=>?_) ZA hsz λs' acc m hi=>?_;simp only[List.mem_cons,List.not_mem_nil,or_false] at hb;have hp:(s1.heap.push o).objs.size=s1.heap.objs.size+1:=by simp[Heap.push]
 show b<(s1.heap.push o).objs.size;rcases hb with rfl|rfl<;>rw[hp]<;>lia;obtain⟨hp,g,d,W5,os⟩:=s';obtain⟨m1,m2,m3,m4,m5⟩:=m;simp only at m1 m2 m3 m4 m5;subst m2 m3 m4;rw[VS.qE hi];have I2:=I1.kept (t':=W5) (h':=hp) λb ob e=>m1 b ob (by simp[Nat.ne_of_lt<|Heap.lt_size e])<|WK _ e;obtain⟨H',I',l',r'⟩:=I2.zK W5 (aC.reverse rr) (by rw[List.length_reverse];exact hz);exact q _ H' _ I' (l1.trans l') r'
theorem Gm(hg:Gl X "reversed")(hm:X.g.mg "reversed" = none)(Nk:Gl X "list")(TC:X.g.mg "list" = none)(ha:PR X a fa)(hc:X.calm=true:=by rfl)(hs:starEach [a] X.env=[(false,eval a X.env)]:=by rfl)(oG:starEach [.Call (.Name "reversed" p) [a] [] pos] X.env=[(false,eval (.Call (.Name "reversed" p) [a] [] pos) X.env)]:=by rfl):PF X (.Call (.Name "list" p') [.Call (.Name "reversed" p) [a] [] pos] [] Bg) (m1 GL fa):=λs σ H ρ Q E I o=>by
 refine bq (id:="list") true I Nk TC boot_list ?_ (by decide) (by decide) oG rfl;rw[oG];refine Ux<|bq (id:="reversed") true I hg hm boot_reversed ?_ (by decide) (by decide) hs rfl;rw[hs];refine Ux<|ha.Q1 I o (λ_ _ q=>q) λs1 H1 aP v d1 I1 l1 r1 o1=>C0 ?_;obtain⟨d,e,q⟩:=o1.opt;obtain⟨t,ds,rfl,rfl⟩:=pw e;refine uT t I1 r1 λo tk T St q' aS rr hz W st lt=>C0 ?_;have hsz:aS.toArray.size<=sizeLine:=by rw[Vy,rr.length];exact hz
 have hp:(s1.heap.push o).objs.size=s1.heap.objs.size+1:=by simp[Heap.push]
 refine VS.GA.y8 (T:=T) (St:=St) (s:={s1 with heap:=s1.heap.push o,toks:=tk}) W.two (W.walk _<|I1.ok.hd hc) W.ty (W.hint _) st (λb hb=>?_) ZA hsz λs' acc c m hl hi=>?_;simp only[List.mem_cons,List.not_mem_nil,or_false] at hb;show b<(s1.heap.push o).objs.size;rcases hb with rfl|rfl<;>rw[hp]<;>lia;obtain⟨h',g,d,W5,os⟩:=s';obtain⟨m1,m2,m3,m4,m5⟩:=m;simp only at m1 m2 m3 m4 m5 hl;subst m2 m3 m4;rw[VS.qE hi] at hl;obtain⟨I',l'⟩:=I1.lay (t':=W5) (h':=h') (a:=(s1.heap.push o).objs.size) (e:=.ow (.lst ds.reverse) X.N.length) (λb ob e=>m1 b ob (by have:=tC e;rw[hp];simp;lia)<|WK _<|WK _ e) (by rw[hp];exact vU _) (λlp=>⟨⟨by rw[List.length_reverse];exact hz,_,(aC.reverse rr).p lp,c,hl⟩,λz=>nomatch z⟩) λd i z=>by cases z;exact Ru _
 exact q _ _ _ I' (l1.trans l') ⟨_,rfl,aA⟩
theorem qQ:∀(n:Nat)(lo:Nat)(us:Zk),us.length=n->(∀(j:Nat)(v:Value),us[j]?=some v->∃t,v=.int ((lo+j:Nat):Int) t)->aC H us ((List.range' lo n).map λ(k:Nat)=>D.int k)|0,_,[],_,_=>.nil|n+1,lo,u::us,hl,h=>by rw[List.range'_succ,WA];refine .cons ?_<|qQ n (lo+1) us (by simpa using hl) λj v e=>?_;obtain⟨t,e⟩:=h 0 u rfl;exact⟨t,by simpa using e⟩;obtain⟨t,e⟩:=h (j+1) v (by simpa using e);exact⟨t,by rw[e,show lo+1+j=lo+(j+1) by lia]⟩
theorem Gj(hg:Gl X "range")(hm:X.g.mg "range" = none)(Nk:Gl X "list")(TC:X.g.mg "list" = none)(ha:vn X [a] (mL fl))(hc:X.calm=true:=by rfl)(hs:starEach [a] X.env=[(false,eval a X.env)]:=by rfl)(oG:starEach [.Call (.Name "range" p) [a] [] pos] X.env=[(false,eval (.Call (.Name "range" p) [a] [] pos) X.env)]:=by rfl):PF X (.Call (.Name "list" p') [.Call (.Name "range" p) [a] [] pos] [] Bg) (mF CL fl):=λs σ H ρ Q E I o=>by
 refine bq (id:="list") true I Nk TC boot_list ?_ (by decide) (by decide) oG rfl;rw[oG];refine Ux<|bq (id:="range") true I hg hm boot_range ?_ (by decide) (by decide) hs rfl;refine(ha pos).Q1 I o (λ_ _ q=>q) λs1 H1 aP us ds I1 l1 r1 o1=>?_;obtain⟨d,e,q⟩:=o1.opt;unfold CL at e;split at e;rename_i j;split at e;rename_i hb;cases e;obtain⟨u,rfl,t,rfl⟩:=r1.one;refine call_range_1<|C0 ?_;refine call_list_range (n:=j.toNat) (I1.ok.hd hc) (IsRange.new ..) (small_one Zl Zl Zl Zl) (by rw[rangeSize_one];split<;>lia) Zl λh' tk acc c hk ho hi=>?_;have hv:aC H1 acc.toList ((List.range j.toNat).map λ(k:Nat)=>D.int k):=by rw[List.range_eq_range'];refine qQ _ _ _ (by simpa using hi.1) λi v e=>?_;obtain⟨t,e⟩:=hi.2 i v (by simpa using e);exact⟨t,by rw[e];simp⟩
 obtain⟨I',l'⟩:=I1.lay (t':=tk) (h':=h') (e:=.ow (.lst<|(List.range j.toNat).map λ(k:Nat)=>D.int k) X.N.length) (λb ob e=>hk b ob<|WK _ e) (by rw[size_push'];exact vU _) (λlp=>⟨⟨by rw[Wj,Us,UN];lia,_,hv.p lp,c,ho⟩,λz=>nomatch z⟩) λd i z=>by cases z;exact Ru _
 exact q _ _ _ I' (l1.trans l') ⟨_,rfl,aA⟩;cases e;cases e
theorem dY:∀ns:WR,bJ (ns.map D.int)=some ns|[]=>rfl|n::ns=>by simp only[List.map_cons,bJ,dY ns];rfl
theorem Q1j(ho:PV X o fo)(he:PV X e fe)
  (iX:attributeBase o "index" X.env (eval o X.env)=eval o X.env:=by rfl)
  (vI:((backTo dj<|starEach [e] X.env).all (λx=>!x.1)&&(backToKw dj<|keywordEach [] X.env).all (λx=>x.1.isSome)&&decide ([e].length+([]:List Keyword).length+(if ([]:List Keyword).isEmpty then 0 else 1)<30))=true:=by rfl)
  (iY:(WB.endLine == dj.line)=true:=by rfl) (iG:starEach [e] X.env=[(false,eval e X.env)]:=by rfl):PV X (.Call (.Attribute o "index" WB) [e] [] dj) (uv fo fe):=λs σ H ρ Q E I oo=>by
 refine wpAny_Call_method_late iX vI iY rfl<|ho.Q1 I oo (λ_ _ q=>q) λs1 H1 aP v d1 I1 l1 r1 o1=>?_;cases d1 with
 |lst ds=>
  obtain⟨l,aS,rfl,rr,pl,hz⟩:=I1.lst<|.inl r1;obtain⟨ob,n,hg,hc,hd,Q3⟩:=id pl;refine⟨"list","list.index",PySem.F.plainAttrs_list,PySem.F.slot_list_index,PySem.F.type_list_index,⟨_,hg,hc⟩,λa e=>by cases e;exact⟨_,hg,hd⟩,?_⟩;rw[iG];refine G2 rfl<|Calls.evalArgs_plain<|Ux<|he.Q1 I1 o1 (λ_ _ q=>q.le l1) λs2 H2 rg u d2 I2 l2 r2 o2=>C0 ?_;obtain⟨d,e1,q⟩:=o2.opt;obtain⟨ns,k,rfl,rfl,hk,rfl⟩:=VS.Fx e1;obtain⟨t,rfl⟩:=r2;obtain⟨l',aS,z,r,⟨⟨c,dd,dt,sl⟩,n,hg,hc,hd,Q3⟩,hz⟩:=I2.lst<|.inl<|r1.le l2;cases z;simp only at hc Q3 hd;subst hc Q3 hd;have hi:IntsAre aS ns:=fM r<|dY ns;have SR:=hi.length;have hj:ns.idxOf k<ns.length:=List.idxOf_lt_length_iff.mpr hk;have hln:=rQ;refine Pf PySem.F.slot_list_index ⟨_,hg,rfl⟩ PySem.F.entry_list_index (PySem.F.args_list_index_2 _ _) (PySem.SeqAt.list_indexAt l aS.toArray n none sl (.int k t) (isInt k) (ns.idxOf k) (by simpa[SR] using hj) ?_ ?_ ?_) ⟨hg,λy hy=>(eq_isInt k t hi y (by simpa using hy)).at _ _,?_⟩;rw[Wj] at hz;have:sizeLine<2 ^ 63-1:=by decide
  lia
  show isInt k aS[ns.idxOf k]=true;rw[isInt_at k hi _ Zl hj];simpa using List.getElem_idxOf hj;intro j uj dX;show isInt k aS[j]=false;rw[isInt_at k hi j (by simpa using uj) Zl];exact ne_of_lt_idxOf dX _;exact q _ H2 _ (I2.kept (t':=s2.toks+1) λ_ _ e=>e) (l1.trans l2) ⟨_,rfl⟩
 |_=>exact o1.elim
theorem GH(hc:X.calm=true)(Es:Gl X "max")(hm:X.g.mg "max" = none)(hv:bootBuiltins "max" = some (.builtin "max"))(ha:PV X a fa)(hb:PV X b fb)
  (hs:Vj X a []:=by rfl)
  (he:backTo pos (starEach [a] X.env)=(false,eval a X.env)::backTo pos (starEach [] X.env):=by rfl) (hp:(backTo pos<|starEach [a] X.env).any (·.1)=false:=by rfl)
  (Yl:(backToKw pos<|keywordEach [⟨some "default",b,kp⟩] X.env).all (·.1.isSome)=true:=by rfl) (Q4:(backToKw pos<|keywordEach [⟨some "default",b,kp⟩] X.env).any (·.1.isNone)=false:=by rfl)
  (hk3:(backToKw pos<|keywordEach [⟨some "default",b,kp⟩] X.env).filterMap (·.1)=[("default" : Str)]:=by rfl) :
  PV X (.Call (.Name "max" p) [a] [⟨some "default",b,kp⟩] pos) (m2 lP fa fb):=λs σ H ρ Q E I o=>by
 refine VN<|rP I Es hm hv ?_ (by decide) (by decide);refine callWith_kw ?_ he hp Yl Q4;rw[hs];refine Ux<|ha.Q1 I o (λ_ _ q=>q) λs1 H1 aP v d1 I1 l1 r1 o1=>C0 ?_;refine kws_cons<|hb.Q1 I1 o1 (λ_ _ q=>q.le l1) λs2 H2 rg dv d2 I2 l2 r2 o2=>kws_nil ?_;rw[hk3];obtain⟨d,e,q⟩:=o2.opt;cases d1 with
 |tup ds=>
  simp only[lP] at e;cases e2:bJ ds with
  |none=>rw[e2] at e;cases e|some ns=>
   rw[e2] at e;obtain⟨l,aS,rfl,rr,pt,hz⟩:=I2.tup<|.inl<|r1.le l2;refine VS.Q2W (I2.ok.hd hc) pt (fM rr e2) λv h' tk ye kp'=>?_;rcases ye with ⟨rfl,rfl⟩|⟨i,is,t,rfl,rfl⟩
   cases e;exact q _ H2 _ (I2.kept kp') (l1.trans l2) r2;cases e;exact q _ H2 _ (I2.kept kp') (l1.trans l2) ⟨t,rfl⟩
 |_=>simp only[lP,reduceCtorEq] at e
end
end WL
end
section
set_option linter.all false
set_option maxRecDepth 100000
namespace WL
open PySem PySem.Spec PyProof.Rows L2 VP
def EF(n:Nat)(H:Tm):Nat->Addr->Prop:=λi a=>i<n/\∃d,H a=some (.ow d i)
def aE(X:Cx)(scope:Scope)(C:Addr)(N':WZ)(s:Shared)(H:Tm)(ex:WC):Cx:={X with env:=compEnvC scope (VS.jv X.env.cells scope.names []) C X.env,N:=N',outer:=X.stack,fn:=false,H₀:=lend (EF X.N.length H) (oz X.stack) ex s.heap H,n₀:=s.heap.objs.size}
structure bo(X:Cx)(scope:Scope)(N':WZ):Prop where
 kind:scope.kind=.function
 Wb:VS.gQ X.env.scope.names scope.names X.N N'=true
 nd:N'.Nodup
noncomputable def uU(N N':WZ)(σ:Sg)(D:Addr):Sg:=λx=>if N'.idxOf x<N.length then(N[N'.idxOf x]?).bind σ else if N'.idxOf x=N'.length-1 then some (.ref D) else none
section
variable{X:Cx}{scope:Scope}{N':WZ}{σ:Sg}{H H1:Tm}{ρ:ax}{s s2:Shared}{fp:WC}{bL:Heap}{D C:Addr}{tk n:Nat}
theorem oI{l:WZ}(nd:l.Nodup)(h:l[i]?=some x):l.idxOf x=i:=by obtain⟨h1,h2⟩:=List.getElem?_eq_some_iff.mp h;rw[<-h2];exact List.Nodup.idxOf_getElem nd i h1
theorem bo.v(c:bo X scope N'):∀{p},p∈scope.names->(p.2=.free->X.env.kindOf p.1=some .cell\/X.env.kindOf p.1=some .free)/\p.2≠.cell/\(p.2=.local->scope.names.lookup p.1=some .local):=λ{p} hp=>by have h:=c.Wb;unfold VS.gQ at h;simp only[Bool.and_eq_true,List.all_eq_true] at h;have q:=h.1.1.1.1 p hp;refine⟨λhf=>?_,by simpa using q.1.1,λhl=>?_⟩;have q:=q.1.2;rw[hf] at q;simp at q;exact q;have q:=q.2;rw[hl] at q;simpa using q
theorem bo.len(c:bo X scope N'):X.N.length+1<=N'.length:=by have h:=c.Wb;unfold VS.gQ at h;simp only[Bool.and_eq_true] at h;exact z7 h.2
theorem bo.acc(c:bo X scope N')(hx:N'[N'.length-1]?=some x):scope.names.lookup x=none:=by have h:=c.Wb;unfold VS.gQ at h;simp only[Bool.and_eq_true] at h;have q:=h.1.2;rw[hx] at q;simpa using q
theorem bo.at(c:bo X scope N')(hi:i<X.N.length)(hx:N'[i]?=some x):scope.names.lookup x≠some .local/\(scope.names.lookup x=none\/X.N[i]?=some x):=by have h:=c.Wb;unfold VS.gQ at h;simp only[Bool.and_eq_true,List.all_eq_true] at h;have q:=h.1.1.2 i<|List.mem_range.mpr hi;rw[hx] at q;simp only[Bool.and_eq_true,Bool.or_eq_true] at q;refine⟨by simpa using q.1,?_⟩;rcases q.2 with z|z;exact .inl (by simpa using z);exact .inr (by simpa using z)
theorem bo.look(c:bo X scope N')(ok:X.Ok)(hx:scope.names.lookup x=some .free) : ((relabel scope X.env).names.lookup x=some .cell\/(relabel scope X.env).names.lookup x=some .free)/\(X.env.kindOf x=some .cell\/X.env.kindOf x=some .free)/\∃a,X.env.cells.lookup x=some a/\(VS.jv X.env.cells scope.names []).lookup x=some a:=by have hm:=NM hx;have hk:=(c.v hm).1 rfl;obtain⟨a,ha⟩:=ok.has x hk;refine⟨?_,hk,a,ha,VS.Q20 ha hm⟩;rw[VS.dH,hx];simp only[Option.map_some];split;exact .inl rfl;exact .inr rfl
theorem bo.KI(c:bo X scope N')(hv:mz (relabel scope X.env) x)(nl:scope.names.lookup x≠some .local):scope.names.lookup x=some .free:=by
 have ye:(relabel scope X.env).names.lookup x=some .local\/(relabel scope X.env).names.lookup x=some .cell\/(relabel scope X.env).names.lookup x=some .free:=hv;rw[VS.dH] at ye;cases q:scope.names.lookup x with
 |none=>rw[q] at ye;rcases ye with z|z|z<;>cases z
 |some k=>rw[q] at ye nl;have nc:=(c.v<|NM q).2.1;simp only[Option.map_some] at ye;split at ye;rename_i hh;simp at hh;rw[hh.1.1];rcases ye with z|z|z;exact absurd z nl;exact absurd (RY z) nc;exact z
theorem Inv.MP(I:Inv X σ H ρ s)(e:X.env.cells.lookup x=some c):c∉oz X.stack:=λhb=>by
 obtain⟨en,he,hf⟩:=List.mem_filterMap.mp hb;have out:en∉X.outer:=λh=>by obtain⟨_,L,o,h1,_,h2,_⟩:=I.ok.fr en h;rw[hf] at h1;cases h1;have q:=I.le _ _ h2 trivial;rcases (I.cell x c e).2 with z|⟨_,_,_,z⟩<;>(rw[q] at z;cases z)
 have:=I.ok.Zp;split at this;rw[this.1] at he;rcases List.mem_cons.mp he with rfl|he;rw[this.2] at hf;cases hf;exact I.We e rfl;exact out he;rw[this] at he;exact out he
def cq(H:Tm)(fp:WC):Tm:=λa=>if a∈fp then none else H a
def eU(X:Cx)(N':WZ)(s:Shared)(H:Tm)(fp:WC)(D:Addr):Tm:=λa=>if a=D then some (.ow (.lst [])<|N'.length-1) else if a∈fp then H a else lend (EF X.N.length<|cq H fp) (oz X.stack) fp s.heap (cq H fp) a
theorem Bb(I:Inv X σ H ρ s)(hf:∀b∈fp,∃o,H b=some (.eL o)):nI X.g (cq H fp) s.heap:=I.a8.gen (·∈fp) (λx e z q=>by obtain⟨o,y⟩:=hf x z;rw[y] at q;cases q;trivial) (λb z=>Zj z) (λ_ _ _ z=>z) λ_ a e z q=>by unfold cq at q;rw[Ue z] at q;cases q
theorem vB(c:bo X scope N')(I:Inv X σ H ρ s)(hf:∀b∈fp,(∃o,H b=some (.eL o))/\X.H₀ b=none)
  (hD:D=s.heap.objs.size) (hC:C=s.heap.objs.size+1) (old:∀b o,s.heap.get? b=some o->bL.get? b=some o) (TG:bL.Ns C λ_=>none) (hl:bL.get? D=some {cls:=.type "list",data:=.seq #[] 0}) (hn:X.N.length+n+1=N'.length) :
  Inv (aE X scope C N' s (cq H fp) fp) (uU X.N N' σ D) (eU X N' s H fp D) (ρ++List.replicate n .no++[.ow<|.lst []]) {s with heap:=bL,toks:=tk}:=by
 have Y0:=Bb I λb hb=>(hf b hb).1;have hex:∀a∈fp,cq H fp a=none:=λa z=>Ue z;have UE:=yk (Ln:=EF X.N.length<|cq H fp) (fs:=oz X.stack) Y0 hex;have Ki:∀b∈fp,b<s.heap.objs.size:=λb hb=>by obtain⟨⟨o,z⟩,_⟩:=hf b hb;exact I.a8.lt z
 have nD:∀{a},a<s.heap.objs.size->a≠D:=λh z=>by rw[z,hD] at h;exact T2 _ h
 have Oh:∀{a e},H a=some e->(∀o,e≠.eL o)->a∉fp:=λq z y=>by obtain⟨⟨o,w⟩,_⟩:=hf _ y;rw[q] at w;cases w;exact z o rfl
 have mT:∀{a},a∉fp->cq H fp a=H a:=λz=>Zj z;have st:∀{a},a≠D->a∉fp->eU X N' s H fp D a=lend (EF X.N.length<|cq H fp) (oz X.stack) fp s.heap (cq H fp) a:=λh1 h2=>by unfold eU;rw[Zj h1,Zj h2]
 have Zn:eU X N' s H fp D D=some (.ow (.lst [])<|N'.length-1):=Ue rfl;have Zo:∀{a},a∈fp->eU X N' s H fp D a=H a:=λh=>by unfold eU;rw[Zj<|nD<|Ki _ h,Ue h]
 have UT:∀{a o d},H a=some (.pin o d)->eU X N' s H fp D a=some (.pin o d):=λq=>by have y:=Oh q λ_ z=>nomatch z;rw[st (nD<|I.a8.lt q) y];exact fP y ((mT y).trans q)
 have lp:jD H (eU X N' s H fp D):=λa o d q=>UT q;have owB:∀{a d i},H a=some (.ow d i)->i<X.N.length->eU X N' s H fp D a=some (.ow d i):=λq hi=>by have y:=Oh q λ_ z=>nomatch z;have q':=(mT y).trans q;rw[st (nD<|I.a8.lt q) y];exact ym y q' ⟨hi,_,q'⟩ λi' ⟨_,d',z⟩=>by rw[q'] at z;cases z;rfl
 have clt:∀{x a},X.env.cells.lookup x=some a->a<s.heap.objs.size:=λe=>by obtain⟨⟨v,q⟩,_⟩:=I.cell _ _ e;exact q.lt
 have KN:ρ.length=X.N.length:=I.len;have atB:∀{i:Nat} {x},N'[i]?=some x->i<X.N.length->uU X.N N' σ D x=(X.N[i]?).bind σ:=λh1 h2=>by unfold uU;rw[oI c.nd h1,Ue h2]
 have hLf:∀b o,s.heap.get? b=some o->b∈oz X.stack->lend (EF X.N.length<|cq H fp) (oz X.stack) fp s.heap (cq H fp) b=some (.jM o)/\b∉fp:=λb o e hb=>by
  have y:b∉fp:=λz=>by obtain⟨⟨o,w⟩,_⟩:=hf _ z;rcases I.Ep hb with q|⟨_,q⟩<;>(rw[w] at q;cases q)
  have q:=I.Ep hb;rw[<-mT y] at q;refine⟨?_,y⟩;rw[kC y (λo d z=>by rcases q with q|⟨_,q⟩<;>(rw[q] at z;cases z)) (λd j i z=>by rcases q with q|⟨_,q⟩<;>(rw[q] at z;cases z)) (λd j z=>by rcases q with q|⟨_,q⟩<;>(rw[q] at z;cases z)),wI e,Ue hb]
 refine⟨⟨I.ok.mod,c.kind,I.ok.glob,I.ok.blt,λx y a h1 h2=>I.ok.inj x y a (VS.fX h1) (VS.fX h2),λx hx=>?_,I.ok.hd,I.ok.frames,rfl,I.ok.Z3,λb o e=>?_,YQ I.ok.MD I.sz,λb e q=>UE.lt q,λe he=>?_,hC ▸ vU _⟩,I.os,I.bare,λa e q f=>?_,λa e q z=>?_,?_,⟨_,TG,λx u hv q=>?_⟩,λi sl q=>?_,λl d i q hi=>?_,?_,λx a e=>?_,?_⟩;have hv:mz (relabel scope X.env) x:=.inr hx;obtain⟨_,_,a,_,z⟩:=c.look I.ok (c.KI hv λz=>by have hx':(relabel scope X.env).names.lookup x=some .cell\/(relabel scope X.env).names.lookup x=some .free:=hx;rw[VS.dH,z] at hx';rcases hx' with y|y<;>cases y);exact⟨a,z⟩;have q:=I.le _ _ (I.ok.bs b o e) trivial;have y:=Oh q λ_ z=>nomatch z;exact fP y<|(mT y).trans q;obtain⟨h1,L,o,h2,h3,h4,h5⟩:=I.E5.fr e he;exact⟨h1,L,o,h2,h3,(hLf L o h4<|List.mem_filterMap.mpr ⟨e,he,h2⟩).1,h5⟩;have hx:=(cK q).1;exact(st (nD<|UE.lt q) hx).trans q;by_cases h1:a=D;exact .inl (by rw[h1,hD];exact Ru _);by_cases h2:a∈fp;obtain⟨⟨o,w⟩,_⟩:=hf a h2;rw[Zo h2,w] at q;cases q;exact .inr ⟨o,rfl⟩;rw[st h1 h2] at q;have z':lend (EF X.N.length<|cq H fp) (oz X.stack) fp s.heap (cq H fp) a=none:=z;rw[q] at z';cases z';refine UE.gen (λa=>a=D\/a∈fp) (λx e z q=>?_) (λb z=>st (λy=>z<|.inl y) λy=>z<|.inr y) (λb o _=>old b o) λ_ a e z q=>?_;rcases z with rfl|z;rw[UE.fresh (by rw[hD];exact Ru _)] at q;cases q;exact absurd z (cK q).1;rcases z with rfl|z;rw[Zn] at q;cases q;exact⟨⟨Hq _,[],.nil,0,hl⟩,λz=>nomatch z⟩;obtain⟨⟨o,w⟩,_⟩:=hf a z;rw[Zo z,w] at q;cases q;exact old _ _<|I.a8 a _ w;have hq:N'.idxOf x<N'.length:=by unfold uU at q;split at q;have:=c.len;lia;split at q;have:=c.len;lia;cases q
 have hx:N'[N'.idxOf x]?=some x:=by rw[Rg hq];exact congrArg some (List.getElem_idxOf hq)
 unfold uU at q;split at q;rename_i hi;obtain⟨n1,n2⟩:=c.at hi hx;have Ks:=c.KI hv n1;have hN:X.N[N'.idxOf x]?=some x:=n2.elim (λz=>by rw[Ks] at z;cases z) id;rw[hN] at q;obtain⟨k1,k2,a,k3,k4⟩:=c.look I.ok Ks;obtain⟨m,hm,qC⟩:=I.loc;refine .inr ⟨k1,a,k4,?_⟩;rcases qC x u (k2.elim (λz=>.inr<|.inl z) λz=>.inr<|.inr z) q with ⟨z,_⟩|⟨_,a',z1,z2⟩
 rcases k2 with k2|k2<;>(rw[k2] at z;cases z);rw[k3] at z1;cases z1;obtain⟨ob,y1,y2⟩:=z2;exact⟨ob,old _ _ y1,y2⟩;split at q;rename_i hi;rw[hi] at hx;have z:=c.acc hx;have ye:(relabel scope X.env).names.lookup x=some .local\/(relabel scope X.env).names.lookup x=some .cell\/(relabel scope X.env).names.lookup x=some .free:=hv;rw[VS.dH,z] at ye;rcases ye with y|y|y<;>cases y;cases q;have Ak:i<N'.length:=by have:=(List.getElem?_eq_some_iff.mp q).1;simp at this;lia
 have hx:N'[i]?=some N'[i]:=Rg Ak;refine⟨N'[i],hx,?_⟩;by_cases hi:i<X.N.length;rw[B5 (by simp;lia),B5 Zl] at q;obtain⟨y,hy,r⟩:=I.slot i sl q;rw[atB hx hi,hy];exact yW.mv (X:=X) r lp λl d z=>owB z hi;by_cases Wn:i<X.N.length+n;rw[B5 (by simp;lia),OG Zl,uo] at q;split at q;cases q;trivial;cases q;have e:i=N'.length-1:=Zl;rw[OG (by simp;lia)] at q;have e2:i-(ρ++List.replicate n Sl.no).length=0:=by simp;lia
 rw[e2] at q;cases q;refine⟨D,?_,by rw[e];exact Zn⟩;unfold uU;rw[oI c.nd hx,Zj hi,Ue e];have sp:∀{l d i},eU X N' s H fp D l=some (.ow d i)->(l=D/\d=.lst []/\i=N'.length-1)\/(i<X.N.length/\H l=some (.ow d i)):=λ{l d i} q=>by
  by_cases h1:l=D;subst h1;rw[Zn] at q;cases q;exact .inl ⟨rfl,rfl,rfl⟩;by_cases h2:l∈fp;obtain⟨⟨o,w⟩,_⟩:=hf l h2;rw[Zo h2,w] at q;cases q;rw[st h1 h2] at q;rcases (cK q).2 with ⟨_,_,z,_⟩|⟨d',j,i',z,y,Aj,d2,w⟩|⟨_,_,z,_⟩|⟨_,z⟩
  cases z;cases z;rw[y] at w;cases w;exact .inr ⟨Aj,(mT h2).symm.trans y⟩;cases z;exact z.elim
 have hN:=c.len;rcases sp q with ⟨rfl,rfl,rfl⟩|⟨Aj,q'⟩
 refine⟨.inl ?_,λl' d' q2=>?_⟩;rw[OG (by simp;lia)];have e2:N'.length-1-(ρ++List.replicate n Sl.no).length=0:=by simp;lia
 rw[e2];rfl;rcases sp q2 with ⟨z,_⟩|⟨z,_⟩
 exact z
 lia
 obtain⟨h1,h2⟩:=I.tg l d i q' Aj;refine⟨?_,λl' d' q2=>?_⟩;rw[B5 (by simp;lia),B5 Zl];exact h1;rcases sp q2 with ⟨_,_,z⟩|⟨_,z⟩
 lia
 exact h2 l' d' z;show eU X N' s H fp D C=none;have h1:C≠D:=by rw[hC,hD];exact OZ (GC _)
 have h2:C∉fp:=λz=>by have:=Ki _ z;rw[hC] at this;lia
 rw[st h1 h2];exact UE.fresh (by rw[hC];exact vU _);have e':=VS.fX e;obtain⟨⟨v,ob,y1,y2⟩,z⟩:=I.cell x a e';refine⟨⟨v,ob,old _ _ y1,y2⟩,.inr ⟨rfl,?_⟩⟩;rcases z with z|⟨_,o,d,z⟩;have h2:a∉fp:=λy=>by obtain⟨⟨o,w⟩,_⟩:=hf a y;rw[z] at w;cases w
 refine⟨ob,none,(st (nD<|clt e') h2).trans ?_⟩;have z':=(mT h2).trans z;rw[kC h2 (by rw[z'];exactλ_ _ z=>nomatch z) (by rw[z'];exactλ_ _ _ z=>nomatch z) (by rw[z'];exactλ_ _ z=>nomatch z),wI y1,Zj<|I.MP e'];exact⟨o,d,UT z⟩;show (ρ++_++_).length=N'.length;simp;lia
end
end WL
end
section
set_option linter.all false
set_option maxRecDepth 100000
namespace WL
open PySem PySem.Spec PyProof.Rows L2 VP
def Rj(n m:Nat)(_:Addr):Option En->Option En|some (.pin o d)=>some (.pin o d)|some (.dU b)=>some (.dU b)|some (.ow d i)=>if i<n then some (.ow d i) else if i=m then some (.ow d n) else none|_=>none
theorem Og:Kf (Rj n m):=⟨λ_ _ _=>rfl,λ_ _=>rfl,λa e e' h=>by unfold Rj at h;split at h;cases h;exact .inl ⟨rfl,.inl ⟨_,_,rfl⟩⟩;cases h;exact .inl ⟨rfl,.inr ⟨_,rfl⟩⟩;split at h;cases h;exact .inr ⟨_,_,_,rfl,rfl⟩;split at h;cases h;exact .inr ⟨_,_,_,rfl,rfl⟩;cases h;cases h⟩
theorem wc(h:Rj n m a e=some (.ow d i))(hi:i<n):e=some (.ow d i):=by unfold Rj at h;split at h;cases h;cases h;split at h;cases h;rfl;split at h;cases h;exact absurd hi<|T2 _;cases h;cases h
section
variable{X:Cx}{scope:Scope}{N':WZ}{σ eD:Sg}{H Hc:Tm}{ρ bw:ax}{s s':Shared}{fp:WC}{bL h':Heap}{D C:Addr}{tk n:Nat}
theorem tH(c:bo X scope N')(I:Inv X σ H ρ s)(hf:∀b∈fp,(∃o,H b=some (.eL o))/\X.H₀ b=none)(hn:X.N.length+n+1=N'.length)(J:Inv (aE X scope C N' s (cq H fp) fp) eD Hc bw s')
  (Ww:∀(i:Nat) x,N'[i]?=some x->i<X.N.length\/i=N'.length-1->eD x=uU X.N N' σ D x) :
  ∃H4,Inv X σ H4 (bw.take X.N.length) s'/\Le (cq H fp) H4/\jD Hc H4/\(∀b,s.heap.objs.size<=b->Hc b=none->H4 b=none)/\∀d,bw[X.N.length+n]?=some (.ow d)->H4 D=some (.ow d X.N.length):=by
 have Y0:=Bb I λb hb=>(hf b hb).1;have Oh:∀{a e},H a=some e->(∀o,e≠.eL o)->a∉fp:=λq z y=>by obtain⟨⟨o,w⟩,_⟩:=hf _ y;rw[q] at w;cases w;exact z o rfl
 have mT:∀{a},a∉fp->cq H fp a=H a:=λz=>Zj z;have XH:∀{a e},cq H fp a=some e->a∉fp/\H a=some e:=λ{a e} q=>by by_cases z:a∈fp;unfold cq at q;rw[Ue z] at q;cases q;exact⟨z,(mT z).symm.trans q⟩
 have YY:∀{a},H a=none->cq H fp a=none:=λ{a} z=>by unfold cq;split;rfl;exact z
 obtain⟨h1,h2,h3,h4,h5⟩:=xt (Ln:=EF X.N.length<|cq H fp) (fs:=oz X.stack) (Og (n:=X.N.length) (m:=N'.length-1)) Y0 (λa z=>Ue z) rfl J.a8 J.le (λb hb=>by rcases I.Ep hb with z|⟨o,z⟩;exact .inl<|YY z;exact .inr ⟨o,(mT<|Oh z λ_ y=>nomatch y).trans z⟩) J.nw;have hl0:bw.length=N'.length:=J.len;have hN':=c.len;have ow4:∀{l d i},back s.heap.objs.size (EF X.N.length<|cq H fp) (Rj X.N.length<|N'.length-1) (cq H fp) Hc l=some (.ow d i)->i<X.N.length->Hc l=some (.ow d i):=λ{l d i} q hi=>by unfold back at q;split at q;split at q;rename_i d0 j0 z;split at q;exact wc q hi;rename_i nk;cases q;exact absurd ⟨i,hi,_,z⟩ nk;split at q;exact wc q hi;cases q;rename_i n1 _;exact absurd q<|n1 d i;exact wc q hi
 have KR:∀{a},a<s.heap.objs.size->H a=none->back s.heap.objs.size (EF X.N.length<|cq H fp) (Rj X.N.length<|N'.length-1) (cq H fp) Hc a=none:=λdX z=>by unfold back;rw[Ue dX,YY z]
 have nl:X.env.locals∉fp:=λy=>by obtain⟨⟨o,w⟩,_⟩:=hf _ y;rw[I.fl] at w;cases w
 refine⟨_,?_,h2,h4,λb hb z=>?_,λd q=>?_⟩;obtain⟨e1,e2⟩:=I.Bi (h':=s'.heap) λb o hb q=>by
  have:(H b=none/\b∉fp)\/∃o' d,H b=some (.pin o' d):=by rcases hb with rfl|⟨x,e⟩;exact .inl ⟨I.fl,nl⟩;rcases (I.cell x b e).2 with z|⟨_,z⟩;exact .inl ⟨z,λy=>by obtain⟨⟨o,w⟩,_⟩:=hf _ y;rw[z] at w;cases w⟩;exact .inr z
  rcases this with ⟨z,y⟩|⟨o',d,z⟩
  obtain⟨sl,y,_⟩:=h3 b o q (YY z) y;exact⟨sl,y⟩;have y:=(h1 b _<|h2 b _ ((mT<|Oh z λ_ y=>nomatch y).trans z) trivial).1;rw[(I.a8 b _ z).1] at q;cases q;exact⟨_,y⟩
 refine⟨I.ok,J.os.trans rfl,J.bare,λa e q f=>h2 a e ((mT λy=>by rw[(hf a y).2] at q;cases q).trans<|I.le a e q f) f,λa e q z=>?_,h1,e1,λi sl q=>?_,λl d i q hi=>?_,KR I.lt I.fl,λx c e=>⟨e2 x c e,?_⟩,by rw[MN,hl0];lia⟩;by_cases dX:a<s.heap.objs.size;cases y:cq H fp a with|none=>unfold back at q;rw[Ue dX,y] at q;cases q|some e1=>rcases I.nw a e1 (XH y).2 z with w|⟨o,rfl⟩;exact .inl w;have w:=h2 a _ y trivial;rw[q] at w;cases w;exact .inr ⟨o,rfl⟩
 exact .inl<|YQ I.sz<|Nat.le_of_not_lt dX;have hi:i<X.N.length:=by have:=(List.getElem?_eq_some_iff.mp q).1;rw[MN] at this;lia
 rw[U2 hi] at q;obtain⟨y,hy,r⟩:=J.slot i sl q;have hN:X.N[i]?=some X.N[i]:=Rg hi;refine⟨X.N[i],hN,?_⟩;have e:eD y=σ X.N[i]:=by rw[Ww i y hy<|.inl hi];unfold uU;rw[oI c.nd hy,Ue hi,hN];rfl
 rw[e] at r;exact yW.mv (X:=X) r h4 λl d z=>by rw[h5 l d i z,z];exact Ue hi
 obtain⟨z1,z2⟩:=J.tg l d i (ow4 q hi) (by show i<N'.length;lia);exact⟨by rw[U2 hi];exact z1,λl' d' q'=>z2 l' d'<|ow4 q' hi⟩;rcases (I.cell x c e).2 with z|⟨f,o,d,z⟩;obtain⟨⟨v,y⟩,_⟩:=I.cell x c e;exact .inl<|KR y.lt z;exact .inr ⟨f,o,d,h2 _ _ ((mT<|Oh z λ_ y=>nomatch y).trans z) trivial⟩;unfold back;rw[Zj<|Nat.not_lt.mpr hb,z];rfl;obtain⟨y,hy,l,e,r⟩:=J.slot _ _ q;have hy:N'[X.N.length+n]?=some y:=hy;have em:X.N.length+n=N'.length-1:=Zl;rw[Ww _ y hy<|.inr em] at e;unfold uU at e;rw[oI c.nd hy,Zj Zl,Ue em] at e;cases e;rw[h5 _ _ _ r,r];show (if _ then _ else if _ then _ else _)=_;rw[Zj Zl,Ue em]
theorem Inv.but(I:Inv X σ H ρ s)(hC:H C=none)(h0:C≠X.env.locals)(h1:∀x,X.env.cells.lookup x≠some C)(k:∀b o,b≠C->s.heap.get? b=some o->h'.get? b=some o):Inv X σ H ρ {s with heap:=h'}:=by obtain⟨e1,e2⟩:=I.Bi (h':=h') λb o hb q=>⟨o.slots,k b o (λz=>by subst z;exact hb.elim h0 λ⟨x,e⟩=>h1 x e) q⟩;exact⟨I.ok,I.os,I.bare,I.le,I.nw,I.a8.gen (·=C) (λx e z q=>by subst z;rw[hC] at q;cases q) (λ_ _=>rfl) (λb o z=>k b o z) (λ_ a e z q=>by subst z;rw[hC] at q;cases q),e1,I.slot,I.tg,I.fl,λx c e=>⟨e2 x c e,(I.cell x c e).2⟩,I.len⟩
def xf(X:Cx)(ifs:WM)(f:M Bool):Prop:=WP X RB (forIn ifs true λc r=>if r=true then do let ok <-isTrue c X.env (eval c X.env);pure (ForInStep.yield ok) else pure<|ForInStep.yield r) f
theorem nA:xf X [] (ret true):=λs σ H ρ Q E I o=>wpAny_tests_nil (o s H true I Le.refl rfl)
theorem kM{e:Expr}{f:M Bool}(h:PB X e f):xf X [e] f:=λs σ H ρ Q E I o=>wpAny_tests_one (h s σ H ρ Q E I o)
theorem Inv.Y1{d:VP.D}{x:Str}(I:Inv X σ H ρ s)(hN:X.N[j]?=some x)(h:own ρ[j]?=some d):∃l,σ x=some (.ref l)/\H l=some (.ow d j):=by cases q:ρ[j]? with|none=>rw[q] at h;cases h|some t=>rw[q] at h;obtain⟨y,hy,r⟩:=I.slot j t q;rw[hN] at hy;cases hy;cases t with|ow e=>cases h;exact r|io e=>cases h;obtain⟨l,a,b,_⟩:=r;exact⟨l,a,b⟩|_=>cases h
end
end WL
end
section
set_option linter.all false
set_option maxRecDepth 100000
namespace WL
open PySem PySem.Spec PyProof.Rows L2 VP
section
variable{X:Cx}{elt tg Up:Expr}{ifs:WM}{pos:Pos}{it:M (List D)}{gf:D->M Unit}{ft:M Bool}{fe:M D}{js:SK}{scope:Scope}{N':WZ}{σ:Sg}{H:Tm}{ρ:ax}{s:Shared}{E:Wg}
theorem lC(n:Nat){use:Option (Value->Sem Unit)}{QQ:Wg}{P:D->ax->Prop}{Ex:Xn->ax->Prop}
  (hc:X.calm=true) (c:bo X scope N') (hn:X.N.length+n+1=N'.length) (hi:pV X tg Up it) (vK:∀d r x r',gf d r≠.exc x r') (uj:∀j∈js,X.N.length<=j/\j<X.N.length+n)
  (hg:∀C s H ex,sP (aE X scope C N' s H ex) tg js gf) (ht:∀C s H ex,xf (aE X scope C N' s H ex) ifs ft) (he:∀C s H ex,PV (aE X scope C N' s H ex) elt fe)
  (hs:∀x,foldedSetIterable Up X.env x=pure x) (I:Inv X σ H ρ s) (o:Out (az n it gf ft fe ρ) P Ex) (hE:∀x r,Ex x r->OK X σ H (XR X) E x r)
  (Ni:∀s5 H4 Ek d l C mm,Inv X σ H4 Ek s5->Le H H4->H4 l=some (.ow d X.N.length)->P d Ek->s5.heap.Ns C mm->H4 C=none->C≠X.env.locals->(∀x,X.env.cells.lookup x≠some C)->X.H₀ C=none->X.n₀<=C->compPost X.M X.A E use QQ (.ref l) C (.ok .next) s5) :
  wpAny X.M X.A (comprehension (.ListComp elt [⟨tg,Up,ifs,0⟩] scope pos) scope X.env (firstIterPos [⟨tg,Up,ifs,0⟩] pos) (newList []) (firstAsync [⟨tg,Up,ifs,0⟩]) (firstIter [⟨tg,Up,ifs,0⟩] X.env) use) QQ E s:=by
 refine wpAny_comprehension_free (use:=use) rfl hs (VS.Q0y λp hp hf=>I.ok.has p.1<|(c.v hp).1 hf) c.kind (λy hy hl=>(c.v hy).2.2 hl) ?_;refine hi s σ H ρ _ E I<|o.Q1.mono (λds aP o1 s2 H2 YC fp St I2 l2 T pB vf=>?_) λx r q=>hE x r q;have hf:∀b∈fp,(∃o,H2 b=some (.eL o))/\X.H₀ b=none:=λb hb=>⟨(vf b hb).1,(vf b hb).2.2⟩;refine v8<|wpAny_newFunctionEnv (λy hy=>(c.v hy).2.1) (by intro y hy;simp at hy) (λbL rI oH=>?_) c.kind;dsimp only at rI oH ⊢;generalize X0:s2.heap.push {cls:=.type "list",dict:=none,data:=.seq ([]:Zk).toArray}=HP at rI oH ⊢;have hC:HP.objs.size=s2.heap.objs.size+1:=by rw[<-X0,Gh]
 have XZ:s2.heap.objs.size≠HP.objs.size:=by rw[hC];exact QA (GC _)
 have old:∀b o,s2.heap.get? b=some o->bL.get? b=some o:=λb o e=>oH.extBut b o (by have:=tC e;rw[hC];exact QA<|y7 this)<|WK _<|X0 ▸ WK _ e;have hl:bL.get? s2.heap.objs.size=some {cls:=.type "list",data:=.seq #[] 0}:=oH.extBut _ _ XZ<|WK _<|X0 ▸ YO _ rfl;generalize hCC:HP.objs.size=C at rI oH hC XZ ⊢;generalize Fh:s2.heap.objs.size=DD at hC XZ hl ⊢;have TG:bL.Ns C λ_=>none:=by simpa using rI
 have nC0:C≠X.env.locals:=λz=>by have:=I2.lt;rw[<-z,hC,<-Fh] at this;lia
 have nC1:∀x,X.env.cells.lookup x≠some C:=λx z=>by obtain⟨⟨v,q⟩,_⟩:=I2.cell x C z;have:=q.lt;rw[hC,<-Fh] at this;lia
 have I3:=vB (n:=n) (tk:=s2.toks+([]:List (Str×Value)).length) c I2 hf Fh.symm (Fh ▸ hC) old TG hl hn;have l2':Le H (cq H2 fp):=λa e q f=>(Zj λz=>(vf a z).2.1 e q f).trans<|l2 a e q f;have KN:aP.length=X.N.length:=I2.len;unfold inner at o1;rw[KN] at o1;generalize Ah:aE X scope C N' s2 (cq H2 fp) fp=XX at I3;have eM:XX.M=X.M:=by rw[<-Ah];rfl
 have eA:XX.A=X.A:=by rw[<-Ah];rfl
 have hg':sP XX tg js gf:=Ah ▸ hg _ _ _ _;have TJ:xf XX ifs ft:=Ah ▸ ht _ _ _ _;have Tj:PV XX elt fe:=Ah ▸ he _ _ _ _;have eN:XX.N=N':=by rw[<-Ah];rfl
 have PD:∀{eD:Sg},(∀x,(∀j∈js,N'[j]?≠some x)->eD x=uU X.N N' σ DD x)->∀(i:Nat) x,N'[i]?=some x->i<X.N.length\/i=N'.length-1->eD x=uU X.N N' σ DD x:=λh i x hx hi=>h x λj hj z=>by
  have:=uD c.nd hx z;have:=uj j hj
  lia
 let EB:Wg:=λv s'=>∃eD Hc bw x,Inv XX eD Hc bw s'/\XR XX Hc s' v x/\(∀x,(∀j∈js,N'[j]?≠some x)->eD x=uU X.N N' σ DD x)/\OK X σ H (XR X) E x (bw.take X.N.length);have pass:∀v s',EB v s'->notedBy X.M X.A XX.env (λx zU=>compPost X.M X.A E use QQ (.ref DD) C (.error x) zU) v s':=λv s' hb=>by
  obtain⟨eD,Hc,bw,xn,J,⟨e,ZL,dx,rfl,hm,hx,w,x⟩,Ww,ok⟩:=hb;have nt:=wg (Q:=λ_ zU=>compPost X.M X.A E use QQ (.ref DD) C (.error<|.ref e) zU) (E:=λx zU=>compPost X.M X.A E use QQ (.ref DD) C (.error x) zU) J x λh' w' J' kp x'=>?_;rw[eM,eA] at nt;exact nt;obtain⟨mm,Al,_⟩:=J'.loc;subst Ah;refine⟨mm,Al,λFg sb XF vH=>?_⟩;obtain⟨H4,I4,l4,lp4,XU,_⟩:=tH (D:=DD) c I2 hf hn J'<|PD Ww;have hC4:H4 C=none:=XU C (by rw[Fh,hC];exact vU _) J'.fl;have I5:=I4.but (h':=Fg) hC4 nC0 nC1 λb o hb e=>(sb.2 b hb).trans e;obtain⟨vs,sl,z1,z2,z3,z4,Tt,ot,ts,t1,t2,t3,t4,t5,t6⟩:=x';have Yp:h'.Ns C mm:=Al;have dC:∀{b o} {vs:Array Value},h'.get? b=some o->o.data=.fields vs->b≠C:=λ{b o vs} e d z=>by obtain⟨o',es,ep,ho,hd,_⟩:=Yp;subst z;rw[e] at ho;cases ho;rw[d] at hd;cases hd
  have x5:HK X.n₀ H4 Fg e (.ref ZL) dx (some w'):=⟨vs,sl,(sb.2 e<|dC z1 rfl).trans z1,z2,XU e z4 z3,YQ I2.sz z4,Tt,ot,ts,t1,t2,YQ I2.sz t3,XU Tt t3 t4,(sb.2 Tt<|dC t5 t6.1).trans t5,t6⟩;unfold PySem.passOn;refine Zy<|Rf ((sb.2 e<|dC z1 rfl).trans z1) rfl t1 ?_;rw[Zj ZA];refine Zy<|oy XF.frame I5 x5 λh6 I6 kp6 x6=>wpAny_throw<|ok _ H4 _ I6 (l2'.trans l4) ⟨e,ZL,dx,rfl,hm,hx.imp id ?_,_,x6⟩;rintro⟨b,o,y1,y2,f⟩;have nb:b≠C:=λz=>by have fl:Hc C=none:=J'.fl;rw[z,fl] at y2;cases y2
  refine⟨b,o,y1,lp4 _ _ _ y2,yU.kp (s:={s' with heap:=Fg}) kp6 ?_⟩;obtain⟨fs,w1,w2,w3,mA,w4,w5⟩:=f.kp kp;exact⟨fs,w1,w2.p lp4,w3,mA,w4.at λo e=>(sb.2 b nb).trans e,w5⟩
 have px:∀{α:Type}{t:Sem α}{Q':α->Shared->Prop}{s':Shared},wpAny XX.M XX.A t Q' EB s'->wpAny X.M X.A t Q' (notedBy X.M X.A XX.env (λx zU=>compPost X.M X.A E use QQ (.ref DD) C (.error x) zU)) s':=λh=>by rw[eM,eA] at h;exact UA h (λ_ _ q=>q) pass
 have hNm:XX.N[X.N.length+n]?=some N'[X.N.length+n]:=by rw[eN];exact Rg Zl
 have eg:XX.g=X.g:=by rw[<-Ah];rfl
 have Z1:XX.calm=true:=by rw[<-Ah];exact hc
 have h0:∀b∈fp,XX.H₀ b=none:=λb hb=>by rw[<-Ah];exact Ue hb
 have yo:∀s3:Shared,s3={s2 with heap:=bL,toks:=s2.toks+([]:List (Str×Value)).length}->codeAny X.M X.A (.compLoop (.ListComp elt [⟨tg,Up,ifs,0⟩] scope pos) 0 (.ref YC) (.ref DD) XX.env) (compPost X.M X.A E use QQ (.ref DD) C) s3:=by
  rintro s3 rfl;refine codeAny_loop rfl (λm s'=>∃i eD H' bw,m=ds.length-i/\i<=ds.length/\Inv XX eD H' bw s'/\St i H'/\(∀x,(∀j∈js,N'[j]?≠some x)->eD x=uU X.N N' σ DD x) /\
   Out (turns (X.N.length+n) gf ft fe (ds.drop i) bw) (λ_ r=>∃d,r[X.N.length+n]?=some (.ow d)/\P d (r.take X.N.length)) (λx r=>Ex x<|r.take X.N.length)) (λm s4 hI=>?_) ds.length
   ⟨0,_,_,_,ZA,Hq _,I3,?_,λ_ _=>rfl,?_⟩
  show wpAny _ X.A ((compTurn (.ListComp elt [⟨tg,Up,ifs,0⟩] scope pos) 0 (.ref YC) (.ref DD) XX.env).onRaise (λx=>do noteFrame x XX.env;theTreesLotGoes x)) _ _ s4;refine wpAny_noted ?_;rw[compTurn_list];obtain⟨i,Xd,H4,EC,rfl,hi4,I4,W2,TN,o4⟩:=hI;by_cases dX:i<ds.length;rw[Vt dX] at o4;have again:∀{s7:Shared}{HE:Sg}{H7:Tm}{VU:ax},Inv XX HE H7 VU s7->St (i+1) H7->(∀x,(∀j∈js,N'[j]?≠some x)->HE x=uU X.N N' σ DD x) ->
    Out (turns (X.N.length+n) gf ft fe (ds.drop<|i+1) VU) (λ_ r=>∃d,r[X.N.length+n]?=some (.ow d)/\P d (r.take X.N.length)) (λx r=>Ex x<|r.take X.N.length) ->
    ∃m,m<ds.length-i/\∃i eD H' bw,m=ds.length-i/\i<=ds.length/\Inv XX eD H' bw s7/\St i H'/\(∀x,(∀j∈js,N'[j]?≠some x)->eD x=uU X.N N' σ DD x)/\Out (turns (X.N.length+n) gf ft fe (ds.drop i) bw) (λ_ r=>∃d,r[X.N.length+n]?=some (.ow d)/\P d (r.take X.N.length)) (λx r=>Ex x<|r.take X.N.length):=
   λ{s7 HE H7 VU} I7 st7 h7 o7=>⟨ds.length-(i+1),Zl,i+1,HE,H7,VU,rfl,dX,I7,st7,h7,o7⟩
  refine Zy<|Oq<|Zy<|px<|vi (T.item XX Xd i H4 EC s4 ds[i] (λu s'=>∃H',Inv XX Xd H' EC s'/\Rel H' u ds[i]/\St (i+1) H') EB eg Z1 I4 h0 W2 (by simp[dX]) λs' H' u I' x r st=>⟨H',I',r,st⟩) λr s5 hr=>?_;obtain⟨u,hr,h5⟩:=hr;subst hr;refine Zy<|px<|vi h5 λ_ s6 ⟨H6,I6,r6,Vk⟩=>Zy<|px<|hg' s6 Xd H6 EC u ds[i] _ _ I6 r6 ?_;have o5:=Out.Q1 o4;cases qg:gf ds[i] EC with
  |no=>rw[qg] at o5;exact o5.elim|exc x r=>exact absurd qg (vK _ _ _ _)|ok uu VU=>
   rw[qg] at o5;intro s7 HE H7 I7 l7 g7;have Fw:∀x,(∀j∈js,N'[j]?≠some x)->HE x=uU X.N N' σ DD x:=λx hx=>(g7 x λj hj=>by rw[eN];exact hx j hj).trans<|TN x hx;have ee:∀{H':Tm}(x:Xn)(r:ax),Ex x (r.take X.N.length)->OK XX HE H' (XR XX) EB x r:=λx r q s' H' b I' _ xr=>⟨HE,H',r,x,I',xr,Fw,hE _ _ q⟩;refine Zy<|px<|TJ.Q1 I7 o5 (λx r q=>ee x r q) λs8 H8 ρ8 b a I8 l8 r8 o8=>?_;cases r8;cases b with
    |false=>exact XS ⟨rfl,again I8 (T.le _ _ _ Vk (l7.trans l8).lf) Fw o8⟩|true=>
     refine Zy<|Zy<|px<|Tj.Q1 I8 o8 (λx r q=>ee x r q) λs9 H9 ρ9 v d9 I9 l9 r9 o9=>?_;obtain⟨d0,d1,q0,q1,k9⟩:=jr o9.Q1;obtain⟨l,hu,Yn⟩:=I9.Y1 hNm q0;have e9:HE N'[X.N.length+n]=some (.ref DD):=by have hx:N'[X.N.length+n]?=some N'[X.N.length+n]:=Rg Zl;rw[PD Fw _ _ hx<|.inr Zl];unfold uU;rw[oI c.nd hx,Zj Zl,Ue Zl]
     rw[e9] at hu;cases hu;cases d0 with
     |lst xs=>
      simp only[dJ] at q1;split at q1;rename_i Yy;cases q1;obtain⟨us,nn,r,Es,_⟩:=I9.lo Yn;have hz:us.length<sizeLine:=by rw[r.length,UN];exact Yy
      refine Zy<|Pf F.slot_list_append ⟨_,Es,rfl⟩ F.entry_list_append (F.args_list_append_2 _ _) (PySem.list_append DD us.toArray nn v (by rw[Vy];lia)) ⟨Es,?_⟩;exact XS<|XS ⟨rfl,again (I9.lw (its':=us++[v]) Yn Es ZA (r.app<|.cons r9 .nil) (by rw[U0,<-r.length];exact hz)) (T.le _ _ _ Vk (((l7.trans l8).trans l9).trans<|Le.ow Yn).lf) Fw k9⟩;cases q1
     |_=>cases q1
  have ei:i=ds.length:=Zl;subst ei;rw[List.drop_length] at o4;obtain⟨d,hd,post⟩:∃d,EC[X.N.length+n]?=some (.ow d)/\P d (EC.take X.N.length):=o4;refine Zy<|Oq<|Zy<|px<|vi (T.done XX Xd H4 EC s4 (λs'=>compPost X.M X.A E use QQ (.ref DD) C (.ok .next) s') EB eg Z1 I4 h0 W2 λs' H' I' x=>?_) λr s5 hr=>?_;subst Ah;obtain⟨H5,I5,l5,_,fr5,Kl⟩:=tH (D:=DD) c I2 hf hn I'<|PD TN;obtain⟨mm,Al,_⟩:=I'.loc;exact Ni s' H5 _ d DD C mm I5 (l2'.trans l5) (Kl d hd) post Al (fr5 C (by rw[Fh,hC];exact vU _) I'.fl) nC0 nC1 (I2.UB (by rw[Fh,hC];exact vU _))<|YQ I2.sz (by rw[Fh,hC];exact vU _);obtain⟨hr,h5⟩:=hr;subst hr;exact XS h5;refine T.le _ _ _ pB λa e q f hx=>?_;have lt:=I2.a8.lt q;have nD:a≠DD:=λz=>by rw[z,<-Fh] at lt;exact T2 _ lt
  unfold eU;rw[Zj nD];split;exact q;rename_i nf;rcases hx with ⟨o,d,rfl⟩|z
  exact fP nf<|(Zj nf).trans q;exact absurd z nf;simp only[List.drop_zero];cases q:turns (X.N.length+n) gf ft fe ds (aP++List.replicate n .no++[.ow<|.lst []]) with|no=>simp only[q] at o1;exact o1.elim|exc x r=>simp only[q] at o1;exact o1|ok u r=>simp only[q] at o1;show ∃d,r[X.N.length+n]?=some (.ow d)/\_;cases q2:r[X.N.length+n]? with|none=>simp only[q2] at o1;exact o1.elim|some t=>simp only[q2] at o1;cases t with|ow d=>exact⟨d,rfl,o1⟩|no=>exact o1.elim|sh d=>exact o1.elim|io d=>exact o1.elim
 have Yt:nI X.g H2 bL:=I2.a8.gen (λ_=>False) (λ_ _ z=>z.elim) (λ_ _=>rfl) (λb o _=>old b o) λ_ _ _ z=>z.elim;subst Ah;exact codeAny_compStart_list (yo _ rfl) (T.self X.A _ 0 H2 _ _ Yt pB<|yo _ rfl)
theorem Inv.mark{o:Obj}{C:Addr}(I:Inv X σ H ρ s)(hC:H C=none)(h0:C≠X.env.locals)(h1:∀x,X.env.cells.lookup x≠some C)(h2:X.n₀<=C)(e:s.heap.get? C=some o):Inv X σ (upd H C<|.eL o) ρ s/\Le H (upd H C<|.eL o):=by have l:Le H (upd H C<|.eL o):=Le.lay hC;refine⟨⟨I.ok,I.os,I.bare,I.le.trans l,λa e q n=>?_,I.a8.gen (·=C) (λx e z q=>by subst z;rw[hC] at q;cases q) (λb z=>aI z) (λ_ _ _ z=>z) (λ_ a q z y=>by subst z;rw[aA] at y;cases y;exact e),I.loc,λi sl q=>?_,I.tg.lay hC (λ_ _ z=>nomatch z),(aI<|RU h0).trans I.fl,λx c e=>?_,I.len⟩,l⟩;by_cases z:a=C;exact .inl<|z ▸ h2;rw[aI z] at q;exact I.nw a e q n;obtain⟨x,hx,r⟩:=I.slot i sl q;exact⟨x,hx,r.mv l.p λp d y=>(aI λz=>by subst z;rw[hC] at y;cases y).trans y⟩;have:c≠C:=λz=>h1 x<|z ▸ e;rw[aI this];exact I.cell x c e
theorem yw(n:Nat)(hc:X.calm=true)(c:bo X scope N')(hn:X.N.length+n+1=N'.length)(hi:pV X tg Up it)(vK:∀d r x r',gf d r≠.exc x r')(uj:∀j∈js,X.N.length<=j/\j<X.N.length+n)
  (hg:∀C s H ex,sP (aE X scope C N' s H ex) tg js gf) (ht:∀C s H ex,xf (aE X scope C N' s H ex) ifs ft) (he:∀C s H ex,PV (aE X scope C N' s H ex) elt fe)
  (hs:∀x,foldedSetIterable Up X.env x=pure x:=by exact Sf):PF X (.ListComp elt [⟨tg,Up,ifs,0⟩] scope pos) (az n it gf ft fe):=λs σ H ρ Q E I o=>by
 rw[eval_ListComp];exact lC (use:=none) n hc c hn hi vK uj hg ht he hs I o (λx r q=>q) λs5 H4 Ek d l C mm I4 l4 hD post Al hC h0 h1 _ _=>⟨mm,Al,λh' sb=>post _ H4 _ (I4.but hC h0 h1 λb o hb e=>(sb.2 b hb).trans e) l4 ⟨l,rfl,hD⟩⟩
theorem tI(own:Bool){i:Nat}{y:Str}{py:Pos}{Q:Flow->Shared->Prop}{d:D}{l C:Addr}{mm:Str->R7}{H4:Tm}(hN:X.N.Nodup)(hy:X.N[i]?=some y)(hx:Loc X.env.scope y)(hf:X.fn=true\/X.env.scope.names.lookup y=some .local)(I4:Inv X σ H4 ρ s)(l4:Le H H4)(hD:H4 l=some (.ow d X.N.length))
  (post:Out (zW (if own then zG i d else lO i d) ρ) (lh X H RS Q) (lh X H (XR X) E)) (Al:s.heap.Ns C mm) (hC:H4 C=none) (h0:C≠X.env.locals) (h1:∀x,X.env.cells.lookup x≠some C) (h2:X.H₀ C=none) (h3:X.n₀<=C) :
  wpAny X.M X.A (assign (.Name y py) X.env<|.ref l) (λ_ zU=>∃m,zU.heap.Ns C m/\∀h',Heap.SameBut C zU.heap h'->Q .next {zU with heap:=h'}) E s:=by
 obtain⟨oc,es,ep,hoc,hdc,hrc⟩:=Al;obtain⟨I5,l5⟩:=I4.mark hC h0 h1 h3 hoc;have Kl:upd H4 C (.eL oc) l=some (.ow d X.N.length):=(aI λz=>by subst z;rw[hC] at hD;cases hD).trans hD;have fin:∀{Mp:Sg}{H6:Tm}{Rw:ax}{s6:Shared},Inv X Mp H6 Rw s6->Le (upd H4 C<|.eL oc) H6->lh X H RS Q .nx Rw->∃m,s6.heap.Ns C m/\∀h',Heap.SameBut C s6.heap h'->Q .next {s6 with heap:=h'}:=λ{Mp H6 Rw s6} I6 l6 k=>by
  have q6:=l6 C _ aA trivial;have e6:s6.heap.get? C=some oc:=I6.a8 C _ q6;refine⟨mm,⟨oc,es,ep,e6,hdc,hrc⟩,λh' sb=>?_⟩;obtain⟨I7,l7⟩:=I6.aB (t':=s6.toks) q6 h2 (λ_ _ _ e=>e) none (λ_ z=>nomatch z);have hn7:pt H6 C none C=none:=Ue rfl;refine k _ Mp _ .next (I7.but hn7 h0 h1 λb o hb e=>(sb.2 b hb).trans e) (λa e q f=>?_) rfl;have q4:=l4 a e q f;have na:a≠C:=λz=>by subst z;rw[hC] at q4;cases q4
  exact(Zj na).trans (l6 a e ((aI na).trans q4) f)
 refine zZ ?_;cases own with|true=>exact mf true I5 hN hy hx hf ⟨l,rfl,Kl⟩ (post.Q1.mono (λ_ _ q s' eD H' I' l' _=>fin I' l' q) λ_ _ q=>q)|false=>obtain⟨H6,o6,I6,l6,h6,_⟩:=I5.fz Kl<|.inr<|Ru _;rw[List.set_eq_of_length_le (by rw[I5.len];exact Ru _)] at I6;exact mf false I6 hN hy hx hf (by cases d with|lst ds=>exact⟨l,o6,rfl,h6⟩|tup ds=>exact⟨l,o6,rfl,h6⟩|fZ ks ds=>exact⟨l,o6,rfl,h6⟩|ins c ns ds=>exact⟨l,o6,rfl,h6⟩|_=>exact absurd (I5.a8 l _ Kl).1 (by first|exactλz=>z.elim|exactλ_=>(I5.a8 l _ Kl).2 rfl)) (post.Q1.mono (λ_ _ q s' eD H' I' l' _=>fin I' (l6.trans l') q) λ_ _ q=>q)
theorem jJ(own:Bool)(n i:Nat){y:Str}{py kR:Pos}(hc:X.calm=true)(c:bo X scope N')(hn:X.N.length+n+1=N'.length)(hi:pV X tg Up it)(vK:∀d r x r',gf d r≠.exc x r')(uj:∀j∈js,X.N.length<=j/\j<X.N.length+n)
  (hg:∀C s H ex,sP (aE X scope C N' s H ex) tg js gf) (ht:∀C s H ex,xf (aE X scope C N' s H ex) ifs ft) (he:∀C s H ex,PV (aE X scope C N' s H ex) elt fe)
  (hN:X.N.Nodup) (hy:X.N[i]?=some y) (hx:Loc X.env.scope y) (Fv:swapsWith (.ListComp elt [⟨tg,Up,ifs,0⟩] scope pos) (some<|.Name y py) kR.line X.env=pure true)
  (hs:∀x,foldedSetIterable Up X.env x=pure x) (hf:X.fn=true\/X.env.scope.names.lookup y=some .local):je X (.Assign [.Name y py] (.ListComp elt [⟨tg,Up,ifs,0⟩] scope pos) kR) (Q1 (az n it gf ft fe) λd=>zW<|if own then zG i d else lO i d):=λs σ H ρ Q E I o=>by
 rw[exec_Assign_Name_used _ _ _ _ Fv];refine Zy<|Oq<|Zy ?_;show wpAny _ X.A (do let _ <-comprehension (.ListComp elt [⟨tg,Up,ifs,0⟩] scope pos) scope X.env _ (newList []) false (firstIter [⟨tg,Up,ifs,0⟩] X.env) (some<|assign (.Name y py) X.env)) _ _ s;refine Zy<|UA (lC (use:=some<|assign (.Name y py) X.env) (QQ:=λ_ s'=>Q .next s') n hc c hn hi vK uj hg ht he hs I o.Q1 (λx r q=>q.x) λs5 H4 Ek d l C mm I4 l4 hD post Al hC h0 h1 h2 h3=>?_) (λ_ s' hq=>XS<|XS hq) λ_ _ e=>e;exact tI own hN hy hx hf I4 l4 hD post Al hC h0 h1 h2 h3
end
end WL
end
section
set_option linter.all false
set_option maxRecDepth 100000
namespace WL
open PySem PySem.Spec PyProof.Rows L2 VP
section
variable{X:Cx}{σ:Sg}{H:Tm}{ρ:ax}{s:Shared}{g:Gb}{tg:Expr}{it:Addr}{fp:WC}{ds:Zm}{tn:Nat->Heap->Prop}{P:Tm->Prop}
def mY(fp:WC)(h':Heap)(H:Tm):Tm:=λb=>if b∈fp then(h'.get? b).map .eL else H b
def QV(fp:WC)(tn:Nat->Heap->Prop)(P:Tm->Prop):Nat->Tm->Prop:=λi H=>(∀b∈fp,∃o,H b=some (.eL o))/\(∃h,(∀b∈fp,∀o,H b=some (.eL o)->h.get? b=some o)/\tn i h)/\P H
def Val(H:Tm)(s:Shared)(h':Heap)(u:Value)(d:D):Prop:=Rel H u d\/∃d1 d2 u1 u2,d=.tup [d1,d2]/\u=.ref s.heap.objs.size/\IsPair h' s.heap.objs.size u1 u2/\Rel H u1 d1/\Rel H u2 d2
structure QS(fp:WC)(tn:Nat->Heap->Prop):Prop where
 keep:∀i h h',tn i h->(∀b∈fp,∀o,h.get? b=some o->h'.get? b=some o)->tn i h'
 obj:∀i h,tn i h->∀b∈fp,∃o,h.get? b=some o
theorem rL(L:QS fp tn)(hP:∀H H',P H->jD H H'->P H')
  (step:∀(X:Cx)(σ:Sg)(i:Nat)(H:Tm)(ρ:ax)(s:Shared)(d:D)(Q:Wg)(E:Wg),X.g=g->X.calm=true->Inv X σ H ρ s->tn i s.heap->P H->ds[i]?=some d->(∀h' tk u,tn (i+1) h'->(∀b o,b∉fp->s.heap.get? b=some o->h'.get? b=some o)->Val H s h' u d->Q u {s with heap:=h',toks:=tk})->wpAny X.M X.A (pyNext<|.ref it) (λr s1=>∃u,r=some u/\wpAny X.M X.A (letOwnedTupleGo tg (.ref it) u) (λ_ s2=>Q u s2) E s1) E s)
  (stop:∀(X:Cx)(σ:Sg)(H:Tm)(ρ:ax)(s:Shared)(Q:Shared->Prop)(E:Wg),X.g=g->X.calm=true->Inv X σ H ρ s->tn ds.length s.heap->P H->(∀h' tk,(∀b o,b∉fp->s.heap.get? b=some o->h'.get? b=some o)->Q {s with heap:=h',toks:=tk})->wpAny X.M X.A (pyNext<|.ref it) (λr s1=>r=none/\Q s1) E s)
  (self:∀(A:Around)(s:Shared)(i:Nat)(Q:Wg)(E:Wg),tn i s.heap->Q (.ref it) s->wpAny (model g.prog g.w) A (pyIter<|.ref it) Q E s):rk g tg it fp ds (QV fp tn P) where
 le:=λi H H' ⟨h1,⟨h,h2,h3⟩,h4⟩ l=>by have e:∀b∈fp,∀o,H b=some (.eL o)->H' b=some (.eL o):=λb hb o q=>l _ _ q trivial<|.inr hb;exact⟨λb hb=>let ⟨o,q⟩:=h1 b hb;⟨o,e b hb o q⟩,⟨h,λb hb o q=>(by obtain⟨o2,q2⟩:=h1 b hb;rw[e b hb o2 q2] at q;cases q;exact h2 b hb _ q2),h3⟩,hP _ _ h4 l.p⟩
 item:=λX σ i H ρ s d Q E hg hc I h0 ⟨h1,⟨h,h2,h3⟩,h4⟩ hd k=>by
  have t:tn i s.heap:=L.keep i h _ h3 λb hb o e=>by obtain⟨o',q⟩:=h1 b hb;rw[h2 b hb o' q] at e;cases e;exact I.a8 b _ q
  refine step X σ i H ρ s d Q E hg hc I t h4 hd λh' tk u t' kp val=>?_;have Ki:∀b∈fp,b<s.heap.objs.size:=λb hb=>let ⟨o,q⟩:=h1 b hb;I.a8.lt q;have rc:∀b∈fp,∃o,h'.get? b=some o:=L.obj _ _ t';have fin:∀H',(∀b,b∈fp->H' b=(h'.get? b).map .eL)->(∀b,b∉fp->b<s.heap.objs.size->H' b=H b)->(jD H H'->∀b e,s.heap.objs.size<=b->H' b=some e->mR X.g H' h' b e/\∀d i,e≠.ow d i)->Rel H' u d->Q u {s with heap:=h',toks:=tk}:=λH' e1 e2 e3 r=>by
   obtain⟨I',l'⟩:=I.turn (t':=tk) (h':=h') (H':=H') (fp:=fp) (λb hb=>⟨h1 b hb,h0 b hb⟩) kp e2 λlp b e hb q=>by
    by_cases z:b∈fp
    ·rw[e1 b z] at q;obtain⟨o,w⟩:=rc b z;rw[w] at q;cases q;exact⟨w,λ_ _ z=>(nomatch z),λ_=>⟨_,rfl⟩⟩
    ·rcases hb with hb|hb
     ·exact absurd hb z
     ·obtain⟨w1,w2⟩:=e3 lp b e hb q;exact⟨w1,w2,λy=>absurd y z⟩
   have lp:jD H H':=λa o d q=>(e2 a (λz=>by obtain⟨o',y⟩:=h1 a z;rw[q] at y;cases y)<|I.a8.lt q).trans q;refine k _ H' u I' l' r ⟨λb hb=>let ⟨o,w⟩:=rc b hb;⟨o,by rw[e1 b hb,w];rfl⟩,⟨h',λb hb o q=>?_,t'⟩,hP _ _ h4 lp⟩;obtain⟨o',w⟩:=rc b hb;rw[e1 b hb,w] at q;cases q;exact w
  rcases val with r|⟨d1,d2,u1,u2,rfl,rfl,pr,r1,r2⟩
  ·refine fin (mY fp h' H) (λb hb=>Ue hb) (λb hb _=>Zj hb) (λ_ b e hb q=>?_) (r.p λa o d q=>?_)
   ·unfold mY at q;rw[Zj λz=>absurd (Ki b z)<|Nat.not_lt.mpr hb,I.a8.fresh hb] at q;cases q
   ·exact(Zj λz=>by obtain⟨o',y⟩:=h1 a z;rw[q] at y;cases y).trans q
  ·have ns:s.heap.objs.size∉fp:=λz=>T2 _<|Ki _ z;refine fin (upd (mY fp h' H) s.heap.objs.size<|.pin {cls:=.type "tuple",data:=.seq #[u1,u2]}<|some<|.tup [d1,d2]) (λb hb=>(aI λ(z:b=s.heap.objs.size)=>ns (by rw[<-z];exact hb)).trans<|Ue hb) (λb hb dX=>(aI<|QA dX).trans<|Zj hb) (λlp b e hb q=>?_) ⟨_,_,rfl,aA⟩;by_cases z:b=s.heap.objs.size
   ·subst z;rw[aA] at q;cases q;exact⟨⟨pr,λe z=>by cases z;exact⟨rfl,by show 2<=sizeLine;decide,[u1,u2],.cons (r1.p lp)<|.cons (r2.p lp) .nil,_,pr,rfl,⟨_,rfl⟩,rfl⟩⟩,λ_ _ z=>nomatch z⟩
   ·rw[aI z] at q;unfold mY at q;rw[Zj λz=>absurd (Ki b z)<|Nat.not_lt.mpr hb,I.a8.fresh hb] at q;cases q
 done:=λX σ H ρ s Q E hg hc I h0 ⟨h1,⟨h,h2,h3⟩,h4⟩ k=>by
  have t:tn ds.length s.heap:=L.keep _ h _ h3 λb hb o e=>by obtain⟨o',q⟩:=h1 b hb;rw[h2 b hb o' q] at e;cases e;exact I.a8 b _ q
  refine stop X σ H ρ s Q E hg hc I t h4 λh' tk kp=>?_;obtain⟨I',l'⟩:=I.turn (t':=tk) (h':=h') (H':=cq H fp) (fp:=fp) (λb hb=>⟨h1 b hb,h0 b hb⟩) kp (λb hb _=>Zj hb) λlp b e hb q=>by
   by_cases z:b∈fp
   ·unfold cq at q;rw[Ue z] at q;cases q
   ·rcases hb with hb|hb
    ·exact absurd hb z
    ·unfold cq at q;rw[Zj z,I.a8.fresh hb] at q;cases q
  exact k _ _ I' l'
 self:=λA s i H Q E a8 ⟨h1,⟨h,h2,h3⟩,h4⟩ hq=>self A s i Q E (L.keep i h _ h3 λb hb o e=>by obtain⟨o',q⟩:=h1 b hb;rw[h2 b hb o' q] at e;cases e;exact a8 b _ q) hq
theorem rM{H0:Tm}{h':Heap}{tk:Nat}(L:QS fp tn)(hP:∀H H',P H->jD H H'->P H')(I:Inv X σ H ρ s)(l0:Le H0 H)(k:∀b o,s.heap.get? b=some o->h'.get? b=some o)(hf:∀b∈fp,s.heap.objs.size<=b)(t:tn 0 h')(p:P H) : ∃H',Inv X σ H' ρ {s with heap:=h',toks:=tk}/\Le H H'/\QV fp tn P 0 H'/\∀b∈fp,(∃o,H' b=some (.eL o))/\(∀e,H0 b=some e->¬e.fast)/\X.H₀ b=none:=by
 have rc:=L.obj _ _ t;have hn:∀b∈fp,H b=none:=λb hb=>I.a8.fresh<|hf b hb;have e1:∀b,b∈fp->mY fp h' H b=(h'.get? b).map .eL:=λb hb=>Ue hb;have e2:∀b,b∉fp->mY fp h' H b=H b:=λb hb=>Zj hb;have l:Le H (mY fp h' H):=λa e q f=>(e2 a λz=>by rw[hn a z] at q;cases q).trans q;refine⟨mY fp h' H,I.gen (·∈fp) (λb hb=>.inl<|hf b hb) e2 (λb o _=>k b o) (λlp b e hb q=>?_) rfl (λl' d i q hi=>?_) (λlp i t h=>⟨t,h,λv z=>z.mv lp λp d q=>(e2 p λz=>by rw[hn p z] at q;cases q).trans q⟩) (λb e o hb q z=>by rw[hn b hb] at z;cases z),l,⟨λb hb=>let ⟨o,w⟩:=rc b hb;⟨o,by rw[e1 b hb,w];rfl⟩,⟨h',λb hb o q=>?_,t⟩,hP _ _ p l.p⟩,λb hb=>⟨let ⟨o,w⟩:=rc b hb;⟨o,by rw[e1 b hb,w];rfl⟩,I.Ag l0<|hf b hb⟩⟩;obtain⟨o,w⟩:=rc b hb;rw[e1 b hb,w] at q;cases q;exact w;have ne:∀{l d},mY fp h' H l=some (.ow d i)->l∉fp:=λ{l d} q z=>by obtain⟨o,w⟩:=rc l z;rw[e1 l z,w] at q;cases q
 obtain⟨z1,z2⟩:=I.tg l' d i ((e2 l'<|ne q).symm.trans q) hi;exact⟨z1,λl2 d2 q2=>z2 l2 d2<|(e2 l2<|ne q2).symm.trans q2⟩;obtain⟨o',w⟩:=rc b hb;rw[e1 b hb,w] at q;cases q;exact w
end
section
variable{X:Cx}{a b e:Expr}{fa fe:M D}{tg:Expr}{p pos:Pos}{σ:Sg}{H:Tm}{ρ:ax}{s:Shared}{ds:Zm}{q it:Addr}{t:Bool}
def O6(t:Bool)(it q:Addr)(n:Nat):Nat->Heap->Prop:=λi h=>i<=n/\VS.mw t it q ((n:Int)-1-i) h
theorem Ub{n:Nat}:QS [it] (O6 t it q n):=⟨λi h h' st k=>⟨st.1,st.2.at λo e=>k it ZA o e⟩,λi h st b hb=>by cases List.mem_singleton.mp hb;obtain⟨o,_,_,e,_⟩:=st.2.obj;exact⟨o,e⟩⟩
theorem NL(g:Gb):rk g tg it [it] ds.reverse (QV [it] (O6 t it q ds.length) λH=>Rel H (.ref q)<|i9 t ds):=
 rL Ub (λH H' r l=>r.p l) (λX σ i H ρ s d Q E hg hc I st r hd k=>by
  subst hg;obtain⟨q',us,e,rs,sq,hz⟩:=I.seq t<|.inl r;cases e;have hi:i<ds.length:=by simpa using (List.getElem?_eq_some_iff.mp hd).1
  rw[ZG hi] at hd;obtain⟨u,hu,ru⟩:=rs.get hd;have e1:(ds.length:Int)-1-(i:Int)=((ds.length-1-i:Nat):Int):=Zl;have e2:((ds.length-1-i:Nat):Int)-1=(ds.length:Int)-1-((i+1:Nat):Int):=Zl;have pB:=st.2;rw[e1] at pB;have fin:∀h' tk,VS.mw t it q (((ds.length-1-i:Nat):Int)-1) h'->Heap.SameBut it s.heap h'->wpAny X.M X.A (letOwnedTupleGo tg (.ref it) u) (λ_ s2=>Q u s2) E {s with heap:=h',toks:=tk}:=λh' tk pR sb=>by rw[e2] at pR;obtain⟨o,nm,vs,e,c,d,nc⟩:=pR.obj;exact ya (s:={s with heap:=h',toks:=tk}) e c d nc (k h' tk u ⟨hi,pR⟩ (λb o hb e=>(sb.2 b λz=>hb (by simp[z])).trans e)<|.inl ru)
  cases t with|false=>exact wpAny_pyNext_rev_item pB sq (x:=u) (by simpa using hu) λh' pR sb=>⟨u,rfl,fin h' s.toks pR sb⟩|true=>exact VS.RV.next_item pB sq (x:=u) (by simpa using hu) (by rw[Vy,rs.length];exact hz) λh' tk pR sb=>⟨u,rfl,fin h' tk pR sb⟩)
 (λX σ H ρ s Q E hg hc I st r k=>by subst hg;have pB:=st.2;rw[List.length_reverse,show (ds.length:Int)-1-(ds.length:Int)=-1 by lia] at pB;have kp:∀h',Heap.ExtBut it s.heap h'->∀b o,b∉[it]->s.heap.get? b=some o->h'.get? b=some o:=λh' eb b o hb e=>eb b o (λz=>hb (by simp[z])) e;cases t with|false=>exact wpAny_pyNext_rev_end (I.ok.hd hc) pB λh' eb=>⟨rfl,k h' s.toks<|kp h' eb⟩|true=>exact VS.RV.next_end (I.ok.hd hc) pB λh' eb=>⟨rfl,k h' s.toks<|kp h' eb⟩)
 λA s i Q E st h=>by cases t with|false=>exact wpAny_pyIter_revIter st.2 h|true=>exact VS.RV.lK st.2 h
theorem QE(hg:Gl X "reversed")(hm:X.g.mg "reversed" = none)(ha:PV X a fa)(hs:starEach [a] X.env=[(false,eval a X.env)]:=by rfl):pV X tg (.Call (.Name "reversed" p) [a] [] pos) (CW fa):=λs σ H ρ Q E I o=>by
 refine bq (id:="reversed") true I hg hm boot_reversed ?_ (by decide) (by decide) hs rfl;rw[hs];refine Ux<|ha.Q1 I o (λ_ _ q=>q) λs1 H1 aP v d1 I1 l1 r1 o1=>C0 ?_;obtain⟨es,e,k⟩:=o1.opt;cases e1:bR d1 with
 |none=>rw[e1] at e;cases e|some ds=>
  rw[e1] at e;cases e;obtain⟨t,rfl⟩:=cW e1;obtain⟨q,us,rfl,rs,sq,hz⟩:=I1.seq t<|.inl r1;have hl:us.toArray.size=ds.length:=by rw[Vy,rs.length]
  have fin:∀h' tk,(∀b o,s1.heap.get? b=some o->h'.get? b=some o)->VS.mw t s1.heap.objs.size q ((ds.length:Int)-1) h'->Q (.ref s1.heap.objs.size) {s1 with heap:=h',toks:=tk}:=λh' tk kp ri=>by obtain⟨H2,I2,l2,pB,f2⟩:=rM (tk:=tk) (Ub (t:=t) (it:=s1.heap.objs.size) (q:=q) (n:=ds.length)) (P:=λH=>Rel H (.ref q)<|i9 t ds) (λH H' r l=>r.p l) I1 l1 kp (λb hb=>by cases List.mem_singleton.mp hb;exact Ru _) ⟨Hq _,by simpa using ri⟩ r1;exact k _ H2 _ _ _ I2 (l1.trans l2) (NL X.g) pB f2
  cases t with|false=>refine call_reversed_list sq ?_;rw[hl];have ri:Heap.IsRevIter (s1.heap.push<|revObj q<|(ds.length:Int)-1) s1.heap.objs.size q ((ds.length:Int)-1):=⟨_,YO _ rfl,rfl,rfl⟩;exact wpAny_pyIter_revIter (s:={s1 with heap:=_}) ri (fin _ s1.toks (λb o e=>WK _ e) ri)|true=>refine VS.RV.make sq (by rw[hl];exact hz) λtk=>?_;rw[hl];have ri:VS.RV.Is (s1.heap.push<|VS.RV.obj q<|(ds.length:Int)-1) s1.heap.objs.size q ((ds.length:Int)-1):=⟨_,YO _ rfl,rfl,rfl⟩;exact VS.RV.lK (s:={s1 with heap:=_,toks:=tk}) ri (fin _ tk (λb o e=>WK _ e) ri)
end
end WL
end
section
set_option linter.all false
set_option maxRecDepth 100000
namespace WL
open PySem PySem.Spec PyProof.Rows L2 VP
section
variable{X:Cx}{a b e:Expr}{fa fe:M D}{es:WM}{k:Nat}{Hk p pos:Pos}{σ:Sg}{H:Tm}{ρ:ax}{s:Shared}{QX QY ds:Zm}{q it:Addr}{t t1 t2:Bool}{z TI TO i1 i2 p1 p2:Addr}
theorem iI.v(x:iI t h q us):VS.iI t h q us:=by cases t<;>exact x
def y4(z TI TO i1 i2:Addr)(t1 t2:Bool)(p1 p2:Addr):Nat->Heap->Prop:=λi h=>IsZip h z TI TO .none/\IsPair h TI (.ref i1) (.ref i2)/\(∃a c,IsPair h TO a c)/\VS.cU t1 i1 p1 i h/\VS.cU t2 i2 p2 i h
theorem Uc:QS [z,TI,TO,i1,i2] (y4 z TI TO i1 i2 t1 t2 p1 p2):=⟨λi h h' ⟨hz,yb,⟨a,c,zk⟩,h1,h2⟩ kk=>⟨kk z ZA _ hz,kk TI ZA _ yb,⟨a,c,kk TO ZA _ zk⟩,h1.at λo e=>kk i1 ZA o e,h2.at λo e=>kk i2 ZA o e⟩,λi h ⟨hz,yb,⟨a,c,zk⟩,h1,h2⟩ b hb=>by simp only[List.mem_cons,List.not_mem_nil,or_false] at hb;rcases hb with rfl|rfl|rfl|rfl|rfl;exact⟨_,hz⟩;exact⟨_,yb⟩;exact⟨_,zk⟩;exact let ⟨o,e,_⟩:=h1.obj;⟨o,e⟩;exact let ⟨o,e,_⟩:=h2.obj;⟨o,e⟩⟩
theorem NN(g:Gb)(D:VS.rp z TI TO i1 i2 [i1,p1] [i2,p2])(n1:p1≠i1)(n2:p2≠i2):rk g (.Tuple es k Hk) z [z,TI,TO,i1,i2] (List.zipWith (λx y=>VP.D.tup [x,y]) QX QY) (QV [z,TI,TO,i1,i2] (y4 z TI TO i1 i2 t1 t2 p1 p2) λH=>Rel H (.ref p1) (i9 t1 QX)/\Rel H (.ref p2) (i9 t2 QY)):=
 rL Uc (λH H' r l=>⟨r.1.p l,r.2.p l⟩) (λX σ i H ρ s d Q E hg hc I st r hd kq=>by
  subst hg;obtain⟨hz,yb,⟨a,c,zk⟩,h1,h2⟩:=st;obtain⟨_,Mg,e,WT,Rp,_⟩:=I.seq t1<|.inl r.1;cases e;obtain⟨_,QC,e,WU,Rq,_⟩:=I.seq t2<|.inl r.2;cases e;rw[List.getElem?_zipWith] at hd;cases e1:QX[i]? with
  |none=>rw[e1] at hd;cases hd|some d1=>
   cases e2:QY[i]? with
   |none=>rw[e1,e2] at hd;cases hd|some d2=>
    rw[e1,e2] at hd;cases hd;obtain⟨u,hu,ru⟩:=WT.get e1;obtain⟨v,hv,rv⟩:=WU.get e2;have hh:X.A.handled=none:=I.ok.hd hc;have hT:s.TypeIs (.ref z) "zip" := ⟨_,hz,rfl⟩;unfold pyNext;have KO:i<Mg.toArray.size:=by have:=(List.getElem?_eq_some_iff.mp hu).1;simpa using this
    have N0:i<QC.toArray.size:=by have:=(List.getElem?_eq_some_iff.mp hv).1;simpa using this
    refine Zy<|ZI<|Pc (name:=Str.ofString "__next__") hT Pr<|UL Pr hT PySem.F.entry_zip_next (VS.Ad (VS.jg (by exact hh) t1 i1 p1 n1 Mg.toArray) (VS.jg (by exact hh) t2 i2 p2 n2 QC.toArray) D hz yb zk ⟨h1,Rp.v⟩ ⟨h2,Rq.v⟩ KO N0 λx' y' h' tk px py z1 o1 w1 w2 pr kp=>XS ?_)<|PySem.F.args_zip_next_1 _;have ex:x'=u:=by
     have:Mg.toArray[i]?=some u:=by simpa using hu
     rw[this] at px;exact(RY px).symm
    have ey:y'=v:=by
     have:QC.toArray[i]?=some v:=by simpa using hv
     rw[this] at py;exact(RY py).symm
    subst ex ey;refine⟨_,rfl,wpAny_letOwnedTupleGo_zip z1 λFg z2 sb=>?_⟩;replace sb:Heap.SameBut z h' Fg:=sb;have Qr:z≠s.heap.objs.size:=QA<|tC hz;refine kq Fg tk _ ⟨z2,sb.extBut _ _ D.TIz (kp _ _ D.TIz D.TITO D.TIi1 D.TIi2 yb),⟨_,_,sb.extBut _ _ D.TOz o1⟩,w1.1.at λo e=>sb.extBut _ o D.i1z e,w2.1.at λo e=>sb.extBut _ o D.i2z e⟩ (λc o sJ e=>?_)<|.inr ⟨d1,d2,_,_,rfl,rfl,sb.extBut _ _ (RU Qr) pr,ru,rv⟩;simp only[List.mem_cons,List.not_mem_nil,or_false,not_or] at sJ;exact sb.extBut c o sJ.1<|kp c o sJ.1 sJ.2.2.1 sJ.2.2.2.1 sJ.2.2.2.2 e)
 (λX σ H ρ s Q E hg hc I st r kq=>by
  subst hg;obtain⟨hz,yb,⟨a,c,zk⟩,h1,h2⟩:=st;obtain⟨_,Mg,e,WT,Rp,_⟩:=I.seq t1<|.inl r.1;cases e;obtain⟨_,QC,e,WU,Rq,_⟩:=I.seq t2<|.inl r.2;cases e;have l1:=WT.length;have l2:=WU.length;have hh:X.A.handled=none:=I.ok.hd hc;have hT:s.TypeIs (.ref z) "zip" := ⟨_,hz,rfl⟩;have he:(List.zipWith (λx y=>VP.D.tup [x,y]) QX QY).length=Mg.toArray.size\/((List.zipWith (λx y=>VP.D.tup [x,y]) QX QY).length<Mg.toArray.size/\(List.zipWith (λx y=>VP.D.tup [x,y]) QX QY).length=QC.toArray.size):=by simp;lia
  unfold pyNext;refine Zy<|ZI<|Pc (name:=Str.ofString "__next__") hT Pr<|UL Pr hT PySem.F.entry_zip_next (VS.Ej (m:=0) (by exact hh) (VS.jg (by exact hh) t1 i1 p1 n1 Mg.toArray) (VS.jg (by exact hh) t2 i2 p2 n2 QC.toArray) D hz yb zk ⟨h1,Rp.v⟩ ⟨h2,Rq.v⟩ he λh' e tk hk he=>?_)<|PySem.F.args_zip_next_1 _;obtain⟨o,ho,sJ⟩:=he;refine Zy<|Ph (T:="StopIteration") (b:=true) ⟨o,ho,sJ⟩ isSubtype_stop ?_;refine XS ⟨rfl,kq h' tk λc o ui e=>?_⟩;simp only[List.mem_cons,List.not_mem_nil,or_false,not_or] at ui;exact hk c o ui.1 ui.2.2.1 ui.2.2.2.1 ui.2.2.2.2 e)
 λA s i Q E ⟨hz,_⟩ h=>wpAny_pyIter_zip hz h
theorem w8{fl:List (M D)}(hg:Gl X "zip")(hm:X.g.mg "zip" = none)(ha:vn X [a,b] (mL fl))(hs:starEach [a,b] X.env=[(false,eval a X.env),(false,eval b X.env)]:=by rfl)(oG:starEach [b] X.env=[(false,eval b X.env)]:=by rfl) : pV X (.Tuple es k Hk) (.Call (.Name "zip" p) [a,b] [] pos) (uy fl):=λs σ H ρ Q E I o=>by
 refine bq (id:="zip") true I hg hm boot_zip ?_ (by decide) (by decide) (hs.trans<|congrArg (_::·) oG.symm)<|(congrArg (λl=>(backTo pos l).any (·.1)) oG).trans rfl;refine(ha pos).Q1 I o (λ_ _ q=>q) λs1 H1 aP us ds I1 l1 r1 o1=>?_;obtain⟨ds',e,kq⟩:=o1.opt;unfold pP at e;split at e;rename_i c d;cases e1:bR c with
  |none=>rw[e1] at e;cases e|some cs=>
   cases e2:bR d with
   |none=>rw[e1,e2] at e;cases e|some Q0=>
    rw[e1,e2] at e;cases e;obtain⟨u1,u2,rfl,ra,rb⟩:=r1.two;obtain⟨t1,rfl⟩:=cW e1;obtain⟨t2,rfl⟩:=cW e2;obtain⟨p1,Mg,rfl,WT,Rp,_⟩:=I1.seq t1<|.inl ra;obtain⟨p2,QC,rfl,WU,Rq,_⟩:=I1.seq t2<|.inl rb;have lt:∀{t:Bool}{q:Addr}{aS:Array Value},iI t s1.heap q aS->q<s1.heap.objs.size:=λ{t q aS} z=>by cases t;obtain⟨o,e,_⟩:=(show Heap.IsList _ _ _ from z);exact tC e;obtain⟨o,e,_⟩:=(show Heap.IsTuple _ _ _ from z);exact tC e
    have KO:=lt Rp;have N0:=lt Rq;refine VS.A2 Rp.v Rq.v λh' hz yb zk hi1 Wn hk=>wpAny_pyIter_zip hz ?_;have ne:∀{q:Addr}(j:Nat),q<s1.heap.objs.size->q≠s1.heap.objs.size+j:=λ{q} j hq=>QA<|EU hq<|Nat.le_add_right _ _;have D:VS.rp (s1.heap.objs.size+4) (s1.heap.objs.size+2) (s1.heap.objs.size+3) s1.heap.objs.size (s1.heap.objs.size+1) [s1.heap.objs.size,p1] [s1.heap.objs.size+1,p2]:=by have a1:=ne 4 KO;have a2:=ne 3 KO;have a3:=ne 1 KO;have b1:=ne 4 N0;have b2:=ne 3 N0;have b3:=ne 0 N0;refine⟨ZA,ZA,ZA,ZA,ZA,ZA,ZA,ZA,ZA,ZA,?_,?_,?_,?_,?_,?_⟩;simp[Ne.symm a1];simp[Ne.symm b1];simp[Ne.symm a2];simp[Ne.symm b2];simp;exact RU b3;simp[Ne.symm a3]
    obtain⟨H2,I2,l2,pB,f2⟩:=rM (tk:=s1.toks) (Uc (z:=s1.heap.objs.size+4) (TI:=s1.heap.objs.size+2) (TO:=s1.heap.objs.size+3) (i1:=s1.heap.objs.size) (i2:=s1.heap.objs.size+1) (t1:=t1) (t2:=t2) (p1:=p1) (p2:=p2)) (P:=λH=>Rel H (.ref p1) (i9 t1 cs)/\Rel H (.ref p2) (i9 t2 Q0)) (λH H' r l=>⟨r.1.p l,r.2.p l⟩) I1 l1 hk (λb hb=>by simp only[List.mem_cons,List.not_mem_nil,or_false] at hb;rcases hb with rfl|rfl|rfl|rfl|rfl<;>lia) ⟨hz,yb,⟨_,_,zk⟩,hi1,Wn⟩ ⟨ra,rb⟩;exact kq _ H2 _ _ _ I2 (l1.trans l2) (NN X.g D (ne 0 KO)<|ne 1 N0) pB f2
 cases e
def tq(e it p:Addr):Nat->Heap->Prop:=λi h=>(∃old,IsEnum h e it i old)/\h.IsListIter it p i
theorem T9{e it p:Addr}:QS [e,it] (tq e it p):=⟨λi h h' ⟨⟨old,he⟩,hi⟩ kk=>⟨⟨old,kk e ZA _ he⟩,hi.at λo q=>kk it ZA o q⟩,λi h ⟨⟨old,he⟩,o,hi,_⟩ b hb=>by simp only[List.mem_cons,List.not_mem_nil,or_false] at hb;rcases hb with rfl|rfl;exact⟨_,he⟩;exact⟨_,hi⟩⟩
theorem Q0P(g:Gb){e it p:Addr}(n1:p≠it)(n2:e≠it)(n3:e≠p):rk g (.Tuple es k Hk) e [e,it] (jA ds) (QV [e,it] (tq e it p) λH=>Rel H (.ref p)<|.lst ds):=
 rL T9 (λH H' r l=>r.p l) (λX σ i H ρ s d Q E hg hc I st r hd kq=>by
  subst hg;obtain⟨⟨old,he⟩,hi⟩:=st;obtain⟨_,us,ee,rs,pl,_⟩:=I.lst<|.inl r;cases ee;unfold jA at hd;rw[List.getElem?_zipWith] at hd;cases e1:ds[i]? with
  |none=>rw[e1] at hd;cases e2:(List.range ds.length)[i]?<;>rw[e2] at hd<;>cases hd|some d1=>
   rw[e1,PG (List.getElem?_eq_some_iff.mp e1).1] at hd;cases hd;obtain⟨u,hu,ru⟩:=rs.get e1;have hh:X.A.handled=none:=I.ok.hd hc;have KO:i<us.toArray.size:=by have:=(List.getElem?_eq_some_iff.mp hu).1;simpa using this
   refine wpAny_pyNext_enum_itemD (Draws.list (by exact hh) it p n1 us.toArray) he ⟨hi,pl.isList⟩ KO n2 (by simp[n2,n3]) λx' h' tk px ho pR pr hsz kp=>?_;have ex:x'=u:=by
    have:us.toArray[i]?=some u:=by simpa using hu
    rw[this] at px;exact(RY px).symm
   subst ex;refine⟨_,rfl,wpAny_letOwnedTupleGo_enum ho λFg z2 sb=>?_⟩;replace sb:Heap.SameBut e h' Fg:=sb;have Qr:e≠s.heap.objs.size:=QA<|tC he;refine kq Fg (tk+1) _ ⟨⟨_,by simpa using z2⟩,pR.1.at λo q=>sb.extBut _ o (RU n2) q⟩ (λc o sJ q=>?_)<|.inr ⟨.int i,d1,_,_,rfl,rfl,sb.extBut _ _ (RU Qr) pr,⟨_,rfl⟩,ru⟩;simp only[List.mem_cons,List.not_mem_nil,or_false,not_or] at sJ;exact sb.extBut c o sJ.1<|kp c o sJ.1 sJ.2 q)
 (λX σ H ρ s Q E hg hc I st r kq=>by
  subst hg;obtain⟨⟨old,he⟩,hi⟩:=st;obtain⟨_,us,ee,rs,pl,_⟩:=I.lst<|.inl r;cases ee;have hh:X.A.handled=none:=I.ok.hd hc;have ee:(jA ds).length=us.toArray.size:=by simp[jA,rs.length]
  rw[ee] at he hi;refine wpAny_pyNext_enum_endD (Draws.list (by exact hh) it p n1 us.toArray) he ⟨hi,pl.isList⟩ λh' hk=>⟨rfl,kq h' s.toks λc o ui q=>?_⟩;simp only[List.mem_cons,List.not_mem_nil,or_false,not_or] at ui;exact hk c o ui.2 q)
 λA s i Q E st h=>by obtain⟨⟨old,he⟩,_⟩:=st;exact wpAny_pyIter_enum he h
theorem sH{fl:List (M D)}(hg:Gl X "enumerate")(hm:X.g.mg "enumerate" = none)(ha:vn X [a] (mL fl))(hs:starEach [a] X.env=[(false,eval a X.env)]:=by rfl) : pV X (.Tuple es k Hk) (.Call (.Name "enumerate" p) [a] [] pos) (qK fl):=λs σ H ρ Q E I o=>by
 refine bq (id:="enumerate") true I hg hm VS.boot_enumerate ?_ (by decide) (by decide) hs rfl;refine(ha pos).Q1 I o (λ_ _ q=>q) λs1 H1 aP us ds I1 l1 r1 o1=>?_;obtain⟨ds',e,kq⟩:=o1.opt;unfold ke at e;split at e;rename_i xs;cases e;obtain⟨u,rfl,ra⟩:=r1.one;obtain⟨q,aS,rfl,rs,pl,_⟩:=I1.lst<|.inl ra;obtain⟨⟨c0,d0,dt0,sl0⟩,n,hq,X9,hd0,Th⟩:=pl;simp only at X9 hd0 Th;subst X9 hd0 Th;have lt:q<s1.heap.objs.size:=tC hq;refine callType_new PySem.F.called_enumerate (by decide) (PySem.F.typeCall_enumerate_1 _) (PySem.F.newCall_enumerate_1 _) (λobj=>F6 obj _) PySem.F.entry_enumerate_new (VS.Q0q q aS.toArray n sl0) ⟨hq,⟨_,YO _ rfl,rfl⟩,?_⟩;have sz:(s1.heap.push {cls:=.type "list_iterator",data:=.fields #[.ref q,.int 0 0]}).objs.size=s1.heap.objs.size+1:=Gh ..;have he:IsEnum ((s1.heap.push {cls:=.type "list_iterator",data:=.fields #[.ref q,.int 0 0]}).push {cls:=.type "enumerate",data:=.fields #[.none,.bool false,.ref s1.heap.objs.size,rawInt 0,.none,.none]}) (s1.heap.objs.size+1) s1.heap.objs.size 0 .none:=by rw[<-sz];exact YO _ rfl
 rw[sz];refine wpAny_pyIter_enum he ?_;obtain⟨H2,I2,l2,pB,f2⟩:=rM (tk:=s1.toks) (T9 (e:=s1.heap.objs.size+1) (it:=s1.heap.objs.size) (p:=q)) (P:=λH=>Rel H (.ref q)<|.lst xs) (λH H' r l=>r.p l) I1 l1 (λb o e=>WK _<|WK _ e) (λb hb=>by simp only[List.mem_cons,List.not_mem_nil,or_false] at hb;rcases hb with rfl|rfl<;>lia) ⟨⟨_,he⟩,⟨_,WK _<|YO _ rfl,rfl,rfl⟩⟩ ra;exact kq _ H2 _ _ _ I2 (l1.trans l2) (Q0P X.g (QA lt) ZA<|OZ<|y7 lt) pB f2;cases e
end
end WL
end
section
set_option linter.all false
set_option maxRecDepth 100000
namespace WL
open PySem PySem.Spec PyProof.Rows L2 VP
section
variable{H:Tm}{k:Key}{v:Value}{x d:D}
theorem Ab{p:Key×Value}{vs:List (Key×Value)}(e:p.1=k):valueAt (p::vs) k=some p.2:=by unfold valueAt;rw[List.find?_cons_of_pos (by simpa using e)];rfl
theorem Aa{p:Key×Value}{vs:List (Key×Value)}(e:¬p.1=k):valueAt (p::vs) k=valueAt vs k:=by unfold valueAt;rw[List.find?_cons_of_neg (by simpa using e)]
theorem rC:∀{vs:List (Key×Value)}{ds:Zm},aC H (vs.map (·.2)) ds->match xB (vs.map (·.1)) ds k with
 |some d=>∃v,valueAt vs k=some v/\Rel H v d|none=>valueAt vs k=none
|[],_,.nil=>rfl|p::vs,_,.cons h t=>by rw[WA,xB];by_cases c:p.1=k;rw[Ue c];exact⟨p.2,Ab c,h⟩;rw[Zj c,Aa c];exact rC t
theorem tU{vs:List (Key×Value)}{ds:Zm}(r:aC H (vs.map (·.2)) ds):(valueAt vs k).isSome=(xB (vs.map (·.1)) ds k).isSome:=by have:=rC (k:=k) r;cases e:xB (vs.map (·.1)) ds k with|none=>rw[e] at this;rw[this];rfl|some d=>rw[e] at this;obtain⟨v,h1,_⟩:=this;rw[h1];rfl
theorem wU{vs:List (Key×Value)}{p:Key×Value}(hn:¬k∈vs.map (·.1))(e:p.1=k):stored (p::vs) k v=(p.1,v)::vs:=by unfold stored;rw[Ue (by simp[e])];simp only[List.map_cons,if_pos e];congr 1;refine(List.map_congr_left λq hq=>?_).trans<|List.map_id vs;exact Zj λ(z:q.1=k)=>hn (by rw[<-z];exact FC hq)
theorem wR{vs:List (Key×Value)}{p:Key×Value}(e:¬p.1=k):stored (p::vs) k v=p::stored vs k v:=by unfold stored;simp only[List.any_cons,T1 e,Bool.false_or];split;simp[e];rfl
theorem xE(hx:Rel H v x):∀{vs:List (Key×Value)}{ds:Zm},(vs.map (·.1)).Nodup->aC H (vs.map (·.2)) ds->(stored vs k v).map (·.1)=(zf k x (vs.map (·.1)) ds).1/\aC H ((stored vs k v).map (·.2)) (zf k x (vs.map (·.1)) ds).2/\(stored vs k v).length<=vs.length+1|[],_,_,.nil=>⟨rfl,.cons hx .nil,Ru _⟩|p::vs,_,hn,.cons h t=>by have Fo:=List.nodup_cons.mp hn;rw[WA,zf];by_cases c:p.1=k;rw[Ue c,wU (c ▸ Fo.1) c];exact⟨rfl,.cons hx t,vU _⟩;rw[Zj c,wR c];obtain⟨h1,h2,h3⟩:=xE hx Fo.2 t;exact⟨by rw[WA,h1],.cons h h2,Nat.succ_le_succ h3⟩
end
section
variable{X:Cx}{e a b c value:Expr}{fa fb fe fk fv:M D}{pos p:Pos}{x:Str}{tg:Expr}{σ:Sg}{H:Tm}{ρ:ax}{s:Shared}{ks:List Key}{ds:Zm}{Q:Wg}{E:Wg}
theorem Inv.fZ(I:Inv X σ H ρ s)(r:RW H s v (.fZ ks ds)):∃a vs ep,v=.ref a/\ks.length<=sizeLine/\(a == sysModules)=false/\vs.map (·.1)=ks/\aC H (vs.map (·.2)) ds/\s.heap.DictAt (hU X.g.prog X.g.w) a vs ep:=let ⟨a,_,e,z,y,vs,ep,k,r,d⟩:=I.obj r rfl;⟨a,vs,ep,e,z,y,k,r,d⟩
theorem yz(ha:PV X a fa)(hb:PV X b fb)(hs:RM b:=by exact QL):PV X (.Subscript a b pos) (m2 ze fa fb):=λs σ H ρ Q E I o=>
 G6 PySem.F.slot_dict_getitem.lookup hs (ha.Q1 I o (λ_ _ q=>q) λs1 H1 aP u d1 I1 l1 r1 o1=>hb.Q1 I1 o1 (λ_ _ q=>q.le l1) λs2 H2 rg iv d2 I2 l2 r2 o2=>by
  obtain⟨d,e,q⟩:=o2.opt;cases d1 with
  |fZ ks ds=>cases d2 with|int k=>obtain⟨l,vs,ep,rfl,z,hd,rfl,rr,dd⟩:=I2.fZ<|.inl<|r1.le l2;have:=rC (k:=.inl k) rr;rw[show xB _ _ _=some d from e] at this;obtain⟨v,hv,rv⟩:=this;obtain⟨t,rfl⟩:=r2;exact⟨dd.dictOf.typeIs,wpAny_getItem_of (gc _ _ k t) dd.dictOf.mapOf hv<|q _ H2 v (I2.tok _) (l1.trans l2) rv⟩|_=>cases e
  |_=>cases e)
theorem VH(neg:Bool):lg X (compareOp<|if neg then .NotIn else .In) (E2 neg):=λs σ H ρ v u a b d Q E I r1 r2 e k=>by
 cases a with
 |int i=>
  cases b with
  |fZ ks ds=>cases e;obtain⟨t,rfl⟩:=r1;obtain⟨l,vs,ep,rfl,z,hd,rfl,rr,dd⟩:=I.fZ<|.inl r2;cases neg with|false=>exact wpAny_in_of (gc _ _ i t) hd dd.dictOf.mapOf (k _ H _ (I.tok _) Le.refl (by rw[tU rr];rfl))|true=>exact wpAny_notIn_of (gc _ _ i t) hd dd.dictOf.mapOf (k _ H _ (I.tok _) Le.refl (by rw[tU rr];rfl))
  |_=>cases e
 |_=>cases e
theorem PN(ha:PV X a fa)(hb:PV X b fb)(hm:behindInMarks .In b=false:=by rfl):PV X (.Compare a [.In] [b] pos) (m2 (E2 false) fa fb):=wH (VH false) ha hb hm
theorem Inv.big(I:Inv X σ H ρ s):sysModules<s.heap.objs.size:=by have h:mainGlobals<s.heap.objs.size:=(I.mod.glob.keeps I.bk).lt;exact Nat.lt_trans (by decide) h
theorem Gi:PF X (.Dict [] [] pos) (mC<|.fZ [] []):=λs σ H ρ Q E I o=>by
 have dd:(s.heap.push {cls:=.type "dict",data:=.dict #[]}).DictAt (hU X.g.prog X.g.w) s.heap.objs.size [] 0:=⟨_,_,YO _ rfl,⟨rfl,rfl,rfl⟩,rfl,λ_ h=>(by simp at h),.nil,ZA⟩;obtain⟨I',l'⟩:=I.lay (t':=s.toks) (h':=s.heap.push {cls:=.type "dict",data:=.dict #[]}) (a:=s.heap.objs.size) (e:=.ow (.fZ [] []) X.N.length) (λb o e=>WK _ e) (Ru _) (λlp=>⟨⟨Hq _,beq_eq_false_iff_ne.mpr<|RU<|QA I.big,[],0,rfl,.nil,dd⟩,λz=>nomatch z⟩) λd i z=>by cases z;exact Ru _
 exact wpAny_Dict_empty (o _ _ _ I' l' ⟨_,rfl,aA⟩)
theorem MY:ED X (bf true "dict") (RF X) Bc:=λs σ H ρ v a d Q E I r e k=>by
 cases a with
 |fZ ks ds=>
  cases e;obtain⟨l,vs,ep,rfl,z,hd,rfl,rr,dd⟩:=I.fZ r;refine kt_call_dict hd dd.dictOf (by simpa using z) λh' XJ hs=>?_;obtain⟨MT,da⟩:=XJ.dictAt;obtain⟨I',l'⟩:=I.lay (t':=s.toks) (h':=h') (a:=s.heap.objs.size) (e:=.ow (.fZ (vs.map (·.1)) ds) X.N.length) (λb o e=>(hs.2 b<|QA<|tC e).trans<|WK _ e) (Ru _) (λlp=>⟨⟨z,beq_eq_false_iff_ne.mpr<|RU<|QA I.big,vs,MT,rfl,rr.p lp,da⟩,λz=>nomatch z⟩) λd i z=>by cases z;exact Ru _
  exact k _ _ _ I' l' ⟨_,rfl,aA⟩
 |_=>cases e
theorem HA(i:Nat){p1 p2:Pos}(hk:PV X b fk)(TK:PV X value fv)(hN:X.N[i]?=some x:=by rfl)(hv:mz X.env.scope x:=by exact FA)(hd:Wk x:=by decide)(gG:GU x:=by decide) (hs:swapsWith value (some<|.Subscript (.Name x p1) b p2) pos.line X.env=pure false:=by rfl):je X (.Assign [.Subscript (.Name x p1) b p2] value pos) (yL i fk fv):=λs σ H ρ Q E I o=>
 wpAny_Assign_Subscript (TK.Q1 I o (λ_ _ q=>q.x) λs1 H1 aP v d1 I1 l1 r1 o1=>by
  split at o1;rename_i ho;obtain⟨d0,ho⟩:=Option.isSome_iff_exists.mp ho;obtain⟨l,hu,hl⟩:=I1.ownAt hN hv ho;refine cg I1 hv hu (hk.Q1 I1 o1 (λ_ _ q=>q.x.le l1) λs2 H2 rg iv d2 I2 l2 r2 o2=>?_) hd gG;obtain⟨d3,d4,q0,q1,kq⟩:=jr o2.Q1;obtain⟨l',uk,qC⟩:=I2.ownAt hN hv q0;rw[hu] at uk;cases uk;cases d3 with
  |fZ ks ds=>cases d2 with|int k=>simp only[putD] at q1;split at q1;rename_i dX;cases q1;obtain⟨t,rfl⟩:=r2;obtain⟨⟨z,Nt,vs,ep,rfl,rr,dd⟩,_⟩:=I2.a8 l _ qC;have N0:=Le.ow (d':=.fZ (zf (.inl k) d1 (vs.map (·.1)) ds).1 (zf (.inl k) d1 (vs.map (·.1)) ds).2) (j:=i) qC;refine wpAny_setItem_pairs (hsz:=by simpa using z) (gc _ _ k t) dd.dictOf λh' XJ sb=>?_;obtain⟨MT,da⟩:=XJ.dictAt;obtain⟨h1,h2,h3⟩:=xE (k:=.inl k) (r1.le l2) dd.nodup rr;have hq:∃o,h'.get? l=some o:=let ⟨o,_,e,_⟩:=da;⟨o,e⟩;obtain⟨I3,l3⟩:=I2.wr (t':=s2.toks+1) (h':=h') (d':=.fZ (zf (.inl k) d1 (vs.map (·.1)) ds).1 (zf (.inl k) d1 (vs.map (·.1)) ds).2) qC (.inl rfl) (λb q hb z=>(sb.2 b hb).trans z) hq (λlp=>⟨by rw[<-h1,Wj];have:(vs.map (·.1)).length<1000:=dX;rw[Wj] at this;exact YQ h3<|YQ this (by decide),Nt,_,MT,h1,h2.p lp,da⟩) λz=>nomatch z;exact kq _ _ _ _ I3 ((l1.trans l2).trans l3) rfl;cases q1|_=>simp only[putD,reduceCtorEq] at q1
  |_=>simp only[putD,reduceCtorEq] at q1
  exact o1.elim) hs
theorem Ua{it q:Addr}{n ep:Nat}:QS [it] (λi h=>h.IsKeyIter it q i n ep):=⟨λi h h' st k=>st.at λo e=>k it ZA o e,λi h st b hb=>by cases List.mem_singleton.mp hb;exact let ⟨o,e,_⟩:=st;⟨o,e⟩⟩
theorem FI{k:Key}{u:Value}(h:(hU P w).is k u=true):Rel H u (CD k):=by
 rcases bc (k:=k) (v:=u) h with ⟨i,t,rfl,rfl⟩|⟨x,t,rfl,rfl⟩
 exact⟨t,rfl⟩;exact⟨t,rfl⟩
theorem Q0E(g:Gb){it q:Addr}{ep:Nat}:rk g tg it [it] (ks.map CD) (QV [it] (λi h=>h.IsKeyIter it q i ks.length ep) λH=>∃o,H q=some (.pin o<|some<|.fZ ks ds)/\∃(es:Array DictEntry),o.data=.dict es ep):=
 rL Ua (λH H' ⟨o,r,es⟩ l=>⟨o,l _ _ _ r,es⟩) (λX σ i H ρ s d Q E hg hc I st r hd kq=>by
  subst hg;obtain⟨o,hq,es,Nj⟩:=r;obtain⟨ho,Kw⟩:=I.a8 q _ hq;obtain⟨z,Nt,vs,MT,rfl,rr,dd⟩:=Kw _ rfl;have hl:(vs.map (·.1)).length=vs.length:=ZA;have XN:MT=ep:=by obtain⟨o',Q0,e1,e2,e3,_⟩:=dd;rw[ho] at e1;cases e1;rw[Nj] at e3;injection e3 with _ e3;exact e3.symm
  subst XN;rw[mS] at hd;cases ek:(vs.map (·.1))[i]? with|none=>rw[ek] at hd;cases hd|some kk=>rw[ek] at hd;cases hd;rw[mS] at ek;cases ev:vs[i]? with|none=>rw[ev] at ek;cases ek|some p=>rw[ev] at ek;cases ek;rw[hl] at st;refine wpAny_pyNext_dict_item st dd (k:=p.1) (v:=p.2) ev λkey h' Nm pR sb=>?_;obtain⟨o,e,c,d⟩:=id pR;rw[<-hl] at pR;exact⟨key,rfl,ya (s:={s with heap:=h'}) e c d (by decide)<|kq h' s.toks key pR (λb o hb e=>(sb.2 b λz=>hb (by simp[z])).trans e)<|.inl<|FI Nm⟩)
 (λX σ H ρ s Q E hg hc I st r kq=>by
  subst hg;obtain⟨o,hq,es,Nj⟩:=r;obtain⟨ho,Kw⟩:=I.a8 q _ hq;obtain⟨z,Nt,vs,MT,rfl,rr,dd⟩:=Kw _ rfl;have XN:MT=ep:=by obtain⟨o',Q0,e1,e2,e3,_⟩:=dd;rw[ho] at e1;cases e1;rw[Nj] at e3;injection e3 with _ e3;exact e3.symm
  subst XN;have hl:((vs.map (·.1)).map CD).length=vs.length:=ZA;rw[hl,Wj] at st;exact wpAny_pyNext_dict_end (I.ok.hd hc) st dd ZA λh' eb=>⟨rfl,kq h' s.toks λb o hb e=>eb b o (λz=>hb (by simp[z])) e⟩)
 λA s i Q E st h=>wpAny_pyIter_keyiter st h
theorem Hu(h:PV X e fe):pV X tg e (uw fe):=λs σ H ρ Q E I o=>h.Q1 I o (λ_ _ q=>q) λs1 H1 aP v d I1 l1 r1 o1=>by obtain⟨ds',ee,kq⟩:=o1.opt;cases d with|fZ ks ds=>cases ee;obtain⟨q,oq,rfl,hq⟩:=r1;obtain⟨ho,Kw⟩:=I1.a8 q _ hq;obtain⟨z,Nt,vs,ep,rfl,rr,dd⟩:=Kw _ rfl;have hl:(vs.map (·.1)).length=vs.length:=ZA;obtain⟨o',Q0,e1,e2,e3,_⟩:=id dd;rw[ho] at e1;cases e1;refine wpAny_pyIter_dict Nt dd ?_;obtain⟨H2,I2,l2,pB,f2⟩:=rM (tk:=s1.toks) (h':=s1.heap.push {cls:=.type "dict_keyiterator",data:=.fields #[.ref q,.int 0 0,.int vs.length 0,.int ep 0]}) (Ua (it:=s1.heap.objs.size) (q:=q) (n:=(vs.map (·.1)).length) (ep:=ep)) (P:=λH=>∃o,H q=some (.pin o<|some<|.fZ (vs.map (·.1)) ds)/\∃(es:Array DictEntry),o.data=.dict es ep) (λH H' ⟨o,r,es⟩ l=>⟨o,l _ _ _ r,es⟩) I1 l1 (λb o e=>WK _ e) (λb hb=>by cases List.mem_singleton.mp hb;exact Ru _) ⟨_,YO _ rfl,rfl,by rw[hl];rfl⟩ ⟨oq,hq,Q0,e3⟩;exact kq _ H2 _ _ _ I2 (l1.trans l2) (Q0E X.g) pB f2|_=>cases ee
theorem yg:∀{ws:Zk}{ns:WR},IntsAre ws ns->∀(j:Nat) w,ws[j]?=some w->∃t,w=Value.int (ns.getD j 0) t|_,_,.nil,j,w,h=>by simp at h|_,_,.cons n t hr,0,w,h=>by simp at h;exact⟨t,by simp[<-h]⟩|_,_,.cons n t hr,j+1,w,h=>yg hr j w (by simpa using h)
theorem GG{ap cp:Pos}(hc:X.calm=true)(Es:Gl X "max")(hm:X.g.mg "max" = none)(hv:bootBuiltins "max" = some (.builtin "max"))(ha:PV X a fa)
  (hb:attributeBase a "values" X.env (eval a X.env)=eval a X.env:=by rfl) (iY:(ap.endLine == cp.line)=true:=by rfl)
  (hs:starEach [.Call (.Attribute a "values" ap) [] [] cp] X.env=(false,eval (.Call (.Attribute a "values" ap) [] [] cp) X.env)::starEach [] X.env:=by rfl) :
  PV X (.Call (.Name "max" p) [.Call (.Attribute a "values" ap) [] [] cp] [] pos) (m1 qO fa):=λs σ H ρ Q E I o=>by
 refine bq (id:="max") false I Es hm hv ?_ (by decide) (by decide) hs rfl;rw[hs];refine Ux<|wpAny_Call_method0_late hb iY<|ha.Q1 I o (λ_ _ q=>q) λs1 H1 aP v d1 I1 l1 r1 o1=>?_;obtain⟨d,e,q⟩:=o1.opt;cases d1 with
 |fZ ks ds=>
  simp only[qO] at e;split at e;rename_i i is hi;cases e;obtain⟨l,vs,ep,rfl,z,Nt,rfl,rr,dd⟩:=I1.fZ<|.inl r1;obtain⟨ob,es,h1,h2,_⟩:=id dd;refine⟨"dict","dict.values",PySem.F.plainAttrs_dict,PySem.F.slot_dict_values,PySem.F.type_dict_values,dd.dictOf.typeIs,λa e=>by cases e;exact⟨ob,h1,h2.2.1⟩,?_⟩;refine G2 rfl<|PySem.evalArgs_none ?_;refine call_meetsIn PySem.F.slot_dict_values dd.dictOf.typeIs PySem.F.entry_dict_values (PySem.F.args_dict_values_1 _) (meets_dict_values (hU X.g.prog X.g.w) l Nt) ⟨⟨_,dd.dictOf⟩,C0 ?_⟩;have I2:=I1.kept (t':=s1.toks) (h':=s1.heap.push {cls:=.type "dict_values",data:=.fields #[.ref l]}) λb o e=>WK _ e;have vw:(s1.heap.push {cls:=.type "dict_values",data:=.fields #[.ref l]}).IsValuesView s1.heap.objs.size l:=⟨_,YO _ rfl,rfl,rfl⟩;have J9:=dd.push {cls:=.type "dict_values",data:=.fields #[.ref l]};have lt:=J9.lt_size;have Nn:vs.length=is.length+1:=by have:=(fM rr hi).length;simpa using this
  have vals:∀j w,(∃k,vs[j]?=some (k,w))->∃t,w=Value.int ((i::is).getD j 0) t:=λj w ⟨k,hj⟩=>by
   have hw:(vs.map (·.2))[j]?=some w:=by rw[mS,hj];rfl
   exact yg (fM rr hi) j w hw
  refine call_max_walk<|wpAny_pyIter_values vw J9 ?_;refine⟨_,_,_,_,_,_,_,rfl,Walks.dictValues (A:=X.A.in1) (knd:=hU X.g.prog X.g.w) (I1.ok.hd hc) _ l (QA lt) vs ep,⟨⟨_,YO _ rfl,rfl,rfl⟩,J9.push _⟩,λb hb=>?_,Zl,CmpOf.ints_gt (λj=>(i::is).getD j 0) vals,λw h' tk hw kp=>?_⟩;rw[Gh];simp at hb;rcases hb with rfl|rfl;rw[Gh];exact GC _;exact y7 lt;obtain⟨t,e⟩:=vals _ _ hw;refine q _ H1 _ (I2.kept (t':=tk) λb o e=>kp b o (λhm=>?_)<|WK _ e) l1 ⟨t,?_⟩;have:=tC e;have zb:=List.mem_singleton.mp hm;rw[zb] at this;exact T2 _ this;rw[e,show is.foldl (λa b=>if a<b then b else a) i=is.foldl VS.mx i from rfl,<-VS.te i is,show vs.length-1=(i::is).length-1 by simp;lia];cases e
 |_=>cases e
end
end WL
end
section
set_option linter.all false
set_option maxRecDepth 100000
namespace WL
open PySem PySem.Spec PyProof.Rows L2 VP
def dI(w:Bool)(n:Nat)(h:Heap)(H:Tm):Tm:=λa=>match H a with|some (.ow d i)=>(h.get? a).map λo=>.pin o (if w&&decide (i<n) then some d else none)|some (.dU _)=>(h.get? a).map λo=>.pin o (if w then some .aK else none)|e=>e
def DY(w:Bool):Sl->Sl:=if w then eW else hide
def SV(w:Bool)(n:Nat):Option En->Option En|some (.pin o<|some d)=>if w&&!y6 d then none else some (.pin o<|some d)|some (.pin o none)=>some (.pin o none)|some (.ow (.lst ds) i)=>if w&&noLs ds&&decide (n<=i) then some (.ow (.lst ds) i) else none|_=>none
def aY(w:Bool)(n:Nat)(H H4:Tm):Tm:=λa=>match H a with|some e=>some e|none=>SV w n (H4 a)
section
variable{X:Cx}{σ eD:Sg}{H H4:Tm}{ρ Ek:ax}{s s5:Shared}{w:Bool}{n:Nat}
theorem Inv.DZ(w:Bool)(I:Inv X σ H ρ s):Inv X σ (dI w X.N.length s.heap H) (ρ.map<|DY w) s:=by
 have fast:∀{a e},H a=some e->e.fast->dI w X.N.length s.heap H a=some e:=λ{a e} q f=>by unfold dI;rw[q];cases e with|ow _ _=>exact f.elim|dU _=>exact f.elim|_=>rfl
 have owv:∀{a d i o},H a=some (.ow d i)->s.heap.get? a=some o->dI w X.N.length s.heap H a=some (.pin o<|if w&&decide (i<X.N.length) then some d else none):=λq z=>by unfold dI;rw[q];show Option.map _ _=_;rw[z];rfl
 have SP:∀{a b o},H a=some (.dU b)->s.heap.get? a=some o->dI w X.N.length s.heap H a=some (.pin o<|if w then some .aK else none):=λq z=>by unfold dI;rw[q];show Option.map _ _=_;rw[z];rfl
 have inv:∀{a e},dI w X.N.length s.heap H a=some e->(H a=some e/\e.fast)\/(∃d i o,H a=some (.ow d i)/\s.heap.get? a=some o/\e=.pin o (if w&&decide (i<X.N.length) then some d else none))\/(∃b o,H a=some (.dU b)/\s.heap.get? a=some o/\e=.pin o (if w then some .aK else none)):=λ{a e} q=>by cases z:H a with|none=>unfold dI at q;rw[z] at q;cases q|some e0=>obtain⟨o,ho⟩:=(I.a8 a _ z).at;cases e0 with|ow d i=>rw[owv z ho] at q;cases q;exact .inr (.inl ⟨d,i,o,rfl,ho,rfl⟩)|dU b=>rw[SP z ho] at q;cases q;exact .inr (.inr ⟨b,o,rfl,ho,rfl⟩)|_=>rw[fast z trivial] at q;cases q;exact .inl ⟨rfl,trivial⟩
 have lp:jD H (dI w X.N.length s.heap H):=λa o d q=>fast q trivial;refine⟨I.ok,I.os,I.bare,λa e q f=>fast (I.le a e q f) f,λa e q z=>?_,λa e q=>?_,I.loc,λi sl q=>?_,λl d i q hi=>?_,?_,λx c e=>⟨(I.cell x c e).1,?_⟩,by rw[Wj];exact I.len⟩;rcases inv q with ⟨y,_⟩|⟨d,i,o,y,_⟩|⟨b,o,y,_⟩
 exact I.nw a e y z;exact .inl<|(I.nw a _ y z).elim id λ⟨_,z⟩=>nomatch z;exact .inl<|(I.nw a _ y z).elim id λ⟨_,z⟩=>nomatch z;rcases inv q with ⟨y,f⟩|⟨d,i,o,y,ho,rfl⟩|⟨b,o,y,ho,rfl⟩
 have x:=I.a8 a e y;cases e with|pin o d=>exact⟨x.1,λe z=>(x.2 e z).mv lp (λ_ z=>z) (λz=>nomatch z) λ_ _ _ z=>z⟩|ow _ _=>exact f.elim|dU _=>exact f.elim|_=>exact x
 refine⟨ho,λe z=>?_⟩;split at z;rename_i hw;have hw:=((ML _ _).mp hw).1;cases z;obtain⟨ob,nn⟩:=I.a8 a _ y;cases d with|ins c ns ds=>obtain⟨C,dx,m,e,q,ne,fs,k,r,z,mA,n,w'⟩:=ob;obtain⟨od,_,_,Ys,_⟩:=id n;exact⟨C,dx,m,e,⟨od,by have z:=SP q Ys;rw[hw] at z ⊢;exact z⟩,ne,fs,k,r.p lp,z,mA,n,w'⟩|tup ds=>cases ob.1|lst ds=>obtain⟨z,us,r,c⟩:=ob;exact⟨z,us,r.p lp,c.plain⟩|fZ ks ds=>obtain⟨z,y,vs,ep,k,r,c⟩:=ob;exact⟨z,y,vs,ep,k,r.p lp,c⟩|aK=>exact absurd rfl nn|_=>exact ob.elim
 cases z;exact⟨ho,λe z=>by cases w<;>cases z;trivial⟩;rw[mS] at q;cases z:ρ[i]? with
 |none=>rw[z] at q;cases q|some t=>
  rw[z] at q;have e:DY w t=sl:=RY q;subst e;obtain⟨x,hx,r⟩:=I.slot i t z;have hi:i<X.N.length:=(List.getElem?_eq_some_iff.mp hx).1;refine⟨x,hx,?_⟩;have own:∀{d l},σ x=some (.ref l)->H l=some (.ow d i)->yW X (dI true X.N.length s.heap H) i (σ x) (.sh d):=λ{d l} e q=>by
   obtain⟨ob,nn⟩:=I.a8 l _ q;obtain⟨o,ho⟩:=ob.at nn;have q':dI true X.N.length s.heap H l=some (.pin o<|some d):=by unfold dI;rw[q];show Option.map _ _=_;rw[ho];simp[hi]
   refine⟨.ref l,e,?_⟩;cases d with|lst ds=>exact⟨l,o,rfl,q'⟩|tup ds=>exact⟨l,o,rfl,q'⟩|fZ ks ds=>exact⟨l,o,rfl,q'⟩|ins c ns ds=>exact⟨l,o,rfl,q'⟩|XO c ns ds=>exact⟨l,o,rfl,q'⟩|aK=>exact absurd rfl nn|_=>exact ob.elim
  cases w with
  |true=>cases t with|no=>trivial|sh d=>obtain⟨u,a,b⟩:=r;exact⟨u,a,b.p lp⟩|ow d=>obtain⟨l,a,b⟩:=r;exact own a b|io d=>obtain⟨l,a,b,_⟩:=r;exact own a b
  |false=>cases t with|no=>trivial|sh d=>obtain⟨u,a,b⟩:=r;exact⟨u,a,b.p lp⟩|ow d=>trivial|io d=>trivial
 rcases inv q with ⟨y,f⟩|⟨_,_,_,_,_,z⟩|⟨_,_,_,_,z⟩
 exact f.elim;cases z;cases z;unfold dI;rw[I.fl];rcases (I.cell x c e).2 with z|⟨f,o,d,z⟩;exact .inl (by unfold dI;rw[z]);exact .inr ⟨f,o,d,fast z trivial⟩
theorem bH(I:Inv X σ H ρ s)(J:Inv X eD H4 Ek s5)(l:Le (dI w X.N.length s.heap H) H4){a:Addr}{e:En}{o:Obj}(q:H a=some e)(ho:s.heap.get? a=some o)(hf:∀o,e≠.jM o):s5.heap.get? a=some o/\(e.fast->H4 a=some e)/\(∀d i,e=.ow d i->H4 a=some (.pin o<|if w&&decide (i<X.N.length) then some d else none))/\(∀b,e=.dU b->H4 a=some (.pin o<|if w then some .aK else none)):=by cases e with|pin o' d=>have q':=l a (.pin o' d) (by unfold dI;rw[q]) trivial;have:=(I.a8 a _ q).1;rw[ho] at this;cases this;exact⟨(J.a8 a _ q').1,λ_=>q',λ_ _ z=>(nomatch z),λ_ z=>nomatch z⟩|eL o'=>have q':=l a (.eL o') (by unfold dI;rw[q]) trivial;have:s.heap.get? a=some o':=I.a8 a _ q;rw[ho] at this;cases this;exact⟨J.a8 a _ q',λ_=>q',λ_ _ z=>(nomatch z),λ_ z=>nomatch z⟩|jM o'=>exact absurd rfl (hf o')|ow d i=>have q':=l a _ (show dI w X.N.length s.heap H a=some (.pin o<|if w&&decide (i<X.N.length) then some d else none) by unfold dI;rw[q];show Option.map _ _=_;rw[ho];rfl) trivial;exact⟨(J.a8 a _ q').1,λf=>f.elim,λ_ _ z=>by cases z;exact q',λ_ z=>nomatch z⟩|dU b=>have q':=l a _ (show dI w X.N.length s.heap H a=some (.pin o<|if w then some .aK else none) by unfold dI;rw[q];show Option.map _ _=_;rw[ho];rfl) trivial;exact⟨(J.a8 a _ q').1,λf=>f.elim,λ_ _ z=>(nomatch z),λ_ _=>q'⟩
theorem w6(I:Inv X σ H ρ s)(J:Inv X eD H4 Ek s5)(l:Le (dI w X.N.length s.heap H) H4){u:Value}{d:D}(r:Rel H4 u d)(hd:w=true->y6 d=true):Rel (aY w X.N.length H H4) u d:=by
 have key:∀{a o},d≠.aK->H4 a=some (.pin o<|some d)->aY w X.N.length H H4 a=some (.pin o<|some d):=λ{a o} nn q=>by
  unfold aY;cases z:H a with
  |none=>show SV w X.N.length (H4 a)=_;rw[q];show (if (w&&!y6 d)=true then none else some (En.pin o<|some d))=_;cases w with|false=>rfl|true=>rw[hd rfl];rfl
  |some e=>
   show some e=_;obtain⟨oa,ho⟩:=(I.a8 a _ z).at;cases e with
   |jM o'=>have q':=l a (.jM o') (by unfold dI;rw[z]) trivial;rw[q] at q';cases q'|pin o' d'=>rw[<-q];exact((bH I J l z ho λ_ y=>nomatch y).2.1 trivial).symm|eL o'=>rw[<-q];exact((bH I J l z ho λ_ y=>nomatch y).2.1 trivial).symm|ow d' i=>
    have q':=(bH I J l z ho λ_ y=>nomatch y).2.2.1 _ _ rfl;rw[q] at q';injection q' with q';injection q' with _ q';split at q';rename_i hw;rw[ML] at hw;cases q';have:=hd hw.1;obtain⟨ob,_⟩:=I.a8 a _ z;cases d with|tup ds=>cases ob.1|lst ds=>cases this|fZ ks ds=>cases this|ins c ns ds=>cases this|aK=>exact absurd rfl nn|_=>exact ob.elim
    cases q'
   |dU b=>have q':=(bH I J l z ho λ_ y=>nomatch y).2.2.2 _ rfl;rw[q] at q';cases w<;>cases q';exact absurd rfl nn
 cases d with|aK=>exact r|bl _=>exact r|int _=>exact r|str _=>exact r|_=>obtain⟨a,o,e,q⟩:=r;exact⟨a,o,e,key (λz=>nomatch z) q⟩
theorem gj(I:Inv X σ H ρ s)(J:Inv X eD H4 Ek s5)(l:Le (dI w X.N.length s.heap H) H4):∀{us:Zk}{ds:Zm},aC H4 us ds->(w=true->noLs ds=true)->aC (aY w X.N.length H H4) us ds|_,_,.nil,_=>.nil|_,_,.cons h t,hd=>.cons (w6 I J l h λz=>((ML _ _).mp<|hd z).1) (gj I J l t λz=>((ML _ _).mp<|hd z).2)
theorem Inv.u0(I:Inv X σ H ρ s)(J:Inv X σ H4 Ek s5)(l:Le (dI w X.N.length s.heap H) H4):Inv X σ (aY w X.N.length H H4) ρ s5/\Le H (aY w X.N.length H H4):=by
 have old:∀{a e},H a=some e->aY w X.N.length H H4 a=some e:=λq=>by unfold aY;rw[q]
 have new:∀{a e},H a=none->aY w X.N.length H H4 a=some e->SV w X.N.length (H4 a)=some e:=λz q=>by unfold aY at q;rw[z] at q;exact q
 have le:Le H (aY w X.N.length H H4):=λa e q _=>old q;have kp:∀{a e o},H a=some e->(∀o,e≠.jM o)->s.heap.get? a=some o->s5.heap.get? a=some o:=λq hf ho=>(bH I J l q ho hf).1;refine⟨⟨I.ok,J.os,J.bare,I.le.trans le,λa e q z=>?_,λa e q=>?_,J.loc,λi sl q=>?_,λl' d i q hi=>?_,?_,λx c e=>⟨(J.cell x c e).1,?_⟩,I.len⟩,le⟩;cases y:H a with|some e'=>rw[old y] at q;cases q;exact I.nw a _ y z|none=>have q':=new y q;cases z4:H4 a with|none=>rw[z4] at q';cases q'|some e4=>rcases J.nw a e4 z4 z with y|⟨o,rfl⟩;exact .inl y;rw[z4] at q';cases q'
 cases y:H a with
 |some e'=>
  rw[old y] at q;cases q;have x:=I.a8 a e y;have hk:∀{f:Bool}(b:Addr)(o:Obj),(f=false/\H b=some (.dU a))\/(f=true/\∃q,H b=some (.pin q<|some .aK))->s.heap.get? b=some o->s5.heap.get? b=some o:=λb o z ho=>by
   rcases z with ⟨_,z⟩|⟨_,_,z⟩
   exact kp z (λ_ y=>nomatch y) ho;exact kp z (λ_ y=>nomatch y) ho
  cases e with|pin o d=>exact⟨kp y (λ_ y=>nomatch y) x.1,λe z=>(x.2 e z).mv le.p (λo' ho=>kp y (λ_ y=>nomatch y) ho) (λz=>nomatch z) hk⟩|ow d i=>exact⟨x.1.mv le.p (λo' ho=>kp y (λ_ y=>nomatch y) ho) (λ_ b z=>old z) hk,x.2⟩|dU b=>obtain⟨o,ho⟩:=x;exact⟨o,kp y (λ_ y=>nomatch y) ho⟩|jM o=>have q':=l a (.jM o) (by unfold dI;rw[y]) trivial;exact J.a8 a _ q'|eL o=>exact kp y (λ_ y=>nomatch y) x
 |none=>
  have q':=new y q;unfold SV at q';split at q';rename_i o d z4;split at q';cases q';rename_i hn;cases q';have hd:w=true->y6 d=true:=λz=>by subst z;simpa using hn
  have x:=J.a8 a _ z4;refine⟨x.1,λe z=>?_⟩;cases z;have ob:=x.2 _ rfl;have WJ:∀{us:Zk}{es:Zm},aC H4 us es->(w=true->noLs es=true)->aC (aY w X.N.length H H4) us es:=gj I J l;cases d with
  |tup ds=>obtain⟨f,z,us,r,c⟩:=ob;exact⟨f,z,us,WJ r hd,c⟩|aK=>trivial|lst ds=>cases w with|true=>cases hd rfl|false=>obtain⟨z,us,r,c⟩:=ob;exact⟨z,us,WJ r (λz=>nomatch z),c⟩
  |fZ ks ds=>cases w with|true=>cases hd rfl|false=>obtain⟨z,y,vs,ep,k,r,c⟩:=ob;exact⟨z,y,vs,ep,k,WJ r (λz=>nomatch z),c⟩
  |ins c ns ds=>cases w with|true=>cases hd rfl|false=>obtain⟨C,dx,m,e,⟨od,q0⟩,ne,fs,k,r,z,mA,n,w'⟩:=ob;refine⟨C,dx,m,e,?_,ne,fs,k,WJ r (λz=>nomatch z),z,mA,n,w'⟩;refine⟨od,?_⟩;unfold aY;cases z0:H dx with|none=>rw[q0];rfl|some e0=>show some e0=_;obtain⟨oa,ho⟩:=(I.a8 dx _ z0).at;cases e0 with|jM o'=>have q':=l dx (.jM o') (by unfold dI;rw[z0]) trivial;rw[q0] at q';cases q'|pin o' d'=>rw[<-q0];exact((bH I J l z0 ho λ_ y=>nomatch y).2.1 trivial).symm|eL o'=>rw[<-q0];exact((bH I J l z0 ho λ_ y=>nomatch y).2.1 trivial).symm|ow d' i=>have q':=(bH I J l z0 ho λ_ y=>nomatch y).2.2.1 _ _ rfl;rw[q0] at q';cases q'|dU b=>have q':=(bH I J l z0 ho λ_ y=>nomatch y).2.2.2 _ rfl;rw[q0] at q';cases q'
  |_=>exact ob.elim
  cases q';rename_i o z4;exact⟨(J.a8 a _ z4).1,λ_ z=>nomatch z⟩;rename_i ds i z4;split at q';rename_i hn;cases q';rw[ML,ML] at hn;obtain⟨⟨z,us,r,c⟩,nn⟩:=J.a8 a _ z4;exact⟨⟨z,us,gj I J l r λ_=>hn.1.2,c⟩,nn⟩;cases q';cases q'
 obtain⟨x,hx,r⟩:=I.slot i sl q;exact⟨x,hx,r.mv le.p λp d y=>old y⟩;have ow:∀{l d},aY w X.N.length H H4 l=some (.ow d i)->H l=some (.ow d i):=λ{l d} q=>by cases y:H l with|some e=>rw[old y] at q;rw[q]|none=>have q':=new y q;unfold SV at q';split at q';split at q'<;>cases q';cases q';split at q';rename_i hn;cases q';rw[ML] at hn;exact absurd hi<|Nat.not_lt.mpr<|z7 hn.2;cases q';cases q'
 obtain⟨h1,h2⟩:=I.tg l' d i (ow q) hi;exact⟨h1,λl2 d2 q2=>h2 l2 d2<|ow q2⟩;show aY w X.N.length H H4 X.env.locals=none;unfold aY;rw[I.fl,J.fl];rfl;rcases (I.cell x c e).2 with z|⟨f,o,d,z⟩;rcases (J.cell x c e).2 with y|⟨f,o,d,y⟩;exact .inl (by unfold aY;rw[z,y];rfl);show aY w X.N.length H H4 c=none\/_;unfold aY;rw[z,y];cases d with|none=>exact .inr ⟨f,o,none,rfl⟩|some d=>show (if (w&&!y6 d)=true then none else some (En.pin o<|some d))=none\/(X.fn=false/\∃o' d',(if (w&&!y6 d)=true then none else some (En.pin o<|some d))=some (En.pin o' d'));split;exact .inl rfl;exact .inr ⟨f,o,_,rfl⟩
 exact .inr ⟨f,o,d,old z⟩
end
end WL
end
section
set_option linter.all false
set_option maxRecDepth 100000
namespace WL
open PySem PySem.Spec PyProof.Rows L2 VP
section
variable{X:Cx}{elt tg Up:Expr}{ifs:WM}{pos:Pos}{it:M (List D)}{gf:D->M Unit}{ft:M Bool}{fe f:M D}{js:SK}{scope:Scope}{N':WZ}{σ:Sg}{H:Tm}{ρ:ax}{s:Shared}{E:Wg}
theorem D5{P:D->ax->Prop}{E':Xn->ax->Prop}(o:Out (i7 f ρ) P E'):Out (f<|ρ.map<|DY true) (λd _=>∃ds,d=.lst ds/\noLs ds=true/\P d ρ) (λ_ _=>False):=by unfold i7 at o;show Out (f<|ρ.map eW) _ _;cases q:f (ρ.map eW) with|no=>rw[q] at o;exact o.elim|exc x r=>rw[q] at o;exact o.elim|ok d r=>rw[q] at o;cases d with|lst ds=>dsimp only at o;split at o;rename_i hn;exact⟨ds,rfl,hn,o⟩;exact o.elim|_=>exact o.elim
theorem mG(own:Bool)(n i:Nat){y:Str}{py kR:Pos}(hc:X.calm=true)(c:bo X scope N')(hn:X.N.length+n+1=N'.length)(hi:pV X tg Up it)(vK:∀d r x r',gf d r≠.exc x r')(uj:∀j∈js,X.N.length<=j/\j<X.N.length+n)
  (hg:∀C s H ex,sP (aE X scope C N' s H ex) tg js gf) (ht:∀C s H ex,xf (aE X scope C N' s H ex) ifs ft) (he:∀C s H ex,PV (aE X scope C N' s H ex) elt fe)
  (hN:X.N.Nodup) (hy:X.N[i]?=some y) (hx:Loc X.env.scope y) (Fv:swapsWith (.ListComp elt [⟨tg,Up,ifs,0⟩] scope pos) (some<|.Name y py) kR.line X.env=pure true)
  (hs:∀x,foldedSetIterable Up X.env x=pure x) (hf:X.fn=true\/X.env.scope.names.lookup y=some .local):je X (.Assign [.Name y py] (.ListComp elt [⟨tg,Up,ifs,0⟩] scope pos) kR) (Q1 (i7<|az n it gf ft fe) λd=>zW<|if own then zG i d else lO i d):=λs σ H ρ Q E I o=>by
 rw[exec_Assign_Name_used _ _ _ _ Fv];refine Zy<|Oq<|Zy ?_;show wpAny _ X.A (do let _ <-comprehension (.ListComp elt [⟨tg,Up,ifs,0⟩] scope pos) scope X.env _ (newList []) false (firstIter [⟨tg,Up,ifs,0⟩] X.env) (some<|assign (.Name y py) X.env)) _ _ s;refine Zy<|UA (lC (use:=some<|assign (.Name y py) X.env) (QQ:=λ_ s'=>Q .next s') n hc c hn hi vK uj hg ht he hs (I.DZ true) (D5 o.Q1) (λx r q=>q.elim) λs5 H4 Ek d l C mm I4 l4 hD post Al hC h0 h1 h2 h3=>?_) (λ_ s' hq=>XS<|XS hq) λ_ _ e=>e;obtain⟨ds,rfl,Q7,post⟩:=post;obtain⟨I5,l5⟩:=I.u0 I4 l4;have none_of:∀{a},(∀e,H4 a=some e->¬e.fast)->H a=none:=λ{a} h=>by cases z:H a with|none=>rfl|some e=>obtain⟨oa,ho⟩:=(I.a8 a _ z).at;cases e with|jM o'=>exact absurd trivial (h _<|l4 a (.jM o') (by unfold dI;rw[z]) trivial)|pin o' d'=>exact absurd trivial (h _<|(bH I I4 l4 z ho λ_ y=>nomatch y).2.1 trivial)|eL o'=>exact absurd trivial (h _<|(bH I I4 l4 z ho λ_ y=>nomatch y).2.1 trivial)|ow d' i=>exact absurd trivial (h _<|(bH I I4 l4 z ho λ_ y=>nomatch y).2.2.1 _ _ rfl)|dU b=>exact absurd trivial (h _<|(bH I I4 l4 z ho λ_ y=>nomatch y).2.2.2 _ rfl)
 have Kl:aY true X.N.length H H4 l=some (.ow (.lst ds) X.N.length):=by unfold aY;rw[none_of (λe q f=>by rw[hD] at q;cases q;exact f),hD];show (if _ then _ else _)=_;rw[Q7];simp
 have hC5:aY true X.N.length H H4 C=none:=by unfold aY;rw[none_of (λe q f=>by rw[hC] at q;cases q),hC];rfl
 exact tI own hN hy hx hf I5 l5 Kl post Al hC5 h0 h1 h2 h3
end
section
variable{X:Cx}{a:Expr}{es:WM}{fa:M D}{fl:List (M D)}{pos p:Pos}{x:Str}{k:Nat}{fA:Addr}{fd:FuncData}{ps:WZ}{fs:Fn}
theorem sZ:∀(ds:Zm)(ρ:ax),gL (ds.map AV.val) ρ=some ds|[],_=>rfl|d::ds,ρ=>by simp only[List.map_cons,gL,sZ ds ρ];rfl
theorem jk:∀(ds:Zm),bP (ds.map AV.val)=[]|[]=>rfl|d::ds=>jk ds
theorem lz:∀(ds:Zm),(ds.map AV.val).map ly=List.replicate ds.length false|[]=>rfl|d::ds=>by rw[WA,WA,lz ds];rfl
theorem rT:∀{fl:List (M D)}{r r':ax}{ds:Zm},mL fl r=.ok ds r'->ds.length=fl.length
|[],_,_,_,h=>by cases h;rfl|f::fl,r,r',ds,h=>by
 simp only[mL,VP.Q1] at h;cases q:f r with
 |ok a r1=>rw[q] at h;dsimp only at h;cases q':mL fl r1 with|ok as r2=>rw[q'] at h;cases h;simp[rT q']|exc _ _=>rw[q'] at h;cases h|no=>rw[q'] at h;cases h
 |exc _ _=>rw[q] at h;cases h|no=>rw[q] at h;cases h
theorem zR{bs:Wz}(F:pU X.g k fA fd ps bs fs)(X8:bs=true::List.replicate fl.length false)(hr:bZ k X.A)(hg:Gl X x)(hm:X.g.mg x=some (.ref fA))(hk:W.keepIn X.g.K (.ref fA)=true)(hb:Binds X.g.K fd ps [])(Cm:bs.length=ps.length)
  (ha:PF X a fa) (Nj:vn X es (mL fl)) (kv:Wk x:=by decide) (he:Vj X a es:=by rfl) (iF:QO X pos es:=by rfl) :
  PV X (.Call (.Name x p) (a::es) [] pos) (kG fs fa fl):=λs σ H ρ Q E I o=>by
 subst X8;refine VN<|ec I hg hm ?_ kv;refine SU (h₀:=X.g.base) I.ok.mod.KH hk ?_ he iF;rw[he];refine Ux (rest:=backTo pos<|starEach es X.env)<|ha.Q1 I o (λ_ _ q=>q) λs1 H1 aP v d I1 l1 r1 o1=>?_;obtain⟨l,rfl,hl⟩:=r1;refine Nj pos s1 σ _ _ _ E (I1.DZ false) ?_;show Out (mL fl<|aP.map hide) _ _;cases q1:mL fl (aP.map hide) with
 |no=>simp only[q1] at o1;exact o1.elim|exc xx rr=>simp only[q1] at o1;exact o1.elim|ok ds rr=>
  simp only[q1] at o1;intro s2 H2 us I2 l2 r2;obtain⟨I3,l3⟩:=I1.u0 I2 l2;have r3:=gj I1 I2 l2 r2 (λz=>nomatch z);have Ym:aY false X.N.length H1 H2 l=some (.ow d X.N.length):=by unfold aY;rw[hl]
  generalize aY false X.N.length H1 H2=H3 at I3 l3 r3 Ym;have ra:RA X σ H3 s2 us (ds.map .val):=by clear q1 o1 r2;induction r3 with|nil=>exact .nil|cons h t ih=>exact .cons h ih
  have av:=sZ ds aP;have nd:(bP<|ds.map AV.val).Nodup:=by rw[jk];exact .nil
  obtain⟨ar,vV⟩:=jX I3 ra av nd;have V9:=ar.cons Ym λi k=>by obtain⟨j,d',h1,_⟩:=vV i _ k;have:=eI h1;rw[jk] at this;cases this
  rw[lz,rT q1] at V9;have Ko:=hb s2 (Value.ref l::us) I3.sN (by rw[Xq,<-Cm];have:=r3.length;simp[this,rT q1]);rw[Xq] at Ko;have e0:=I3.E5;refine⟨I3.sN,wpAny_call<|F X.A X.stack s2 H3 _ _ _ _ hr e0 Ko V9 ?_⟩;have fin:∀{d' ios H' s'},After X.g X.stack H3 s2 (true::List.replicate fl.length false) (.ref l::us) (d'::ios) H' s'->Inv X σ H' aP s':=λ{d' ios H' s'} af=>by have:=lq (vs:=ds.map .val) (ios:=ios) I3 ra av nd Ym (by rw[lz,rT q1];exact af);rw[jk] at this;cases ios<;>exact this
  unfold AB at o1;cases q2:fs (d::ds) with
  |no=>rw[q2] at o1;exact o1.elim|ok d2 ios=>
   rw[q2] at o1
   match ios,o1 with|[io],o1=>exactλs' H' v af rv=>o1 s' H' v (fin af) ((l1.trans l3).trans af.le) rv|[],o1=>exact o1.elim|_::_::_,o1=>exact o1.elim
  |exc xx ios=>
   rw[q2] at o1
   match ios,o1 with|[io],o1=>exactλs' H' v af xr=>o1 s' H' v (fin af) ((l1.trans l3).trans af.le) (xr.up I3.sz)|[],o1=>exact o1.elim|_::_::_,o1=>exact o1.elim
end
end WL
end
section
set_option linter.all false
set_option maxRecDepth 100000
namespace WL
open PySem PySem.Spec PyProof.Rows L2 VP VS
def xc(g:Gb)(k:Nat)(f:Addr)(fd:FuncData)(ps:WZ)(fl:Wz)(fn:Fn):Prop:=fl.length=ps.length/\pU g k f fd ps fl fn
section
variable{X:Cx}{e a b o tg Up elt value:Expr}{es ifs:WM}{as:List VP.Arg}{fa fb fe fo:M D}{f:M Fl}{body:List Stmt}{pos p WB:Pos}{k n i:Nat}{C fA:Addr}{fd:FuncData}{ps:WZ}{c x m qn:Str}{bs:Bool}{st:Stmt}{fl:Wz}{fs:Fn}
theorem pmk(W:∃qn st ps C fA fd,Ar X.g.K X.g.mg c "__init__" qn bs st ps C fA fd/\xc X.g k fA fd ps (true::fl) fs)(hr:bZ n X.A)(ha:vm X (e::es) as)(hk:k+1<=n:=by exact DJ)(hg:Gl X c:=by rfl)(vJ:as.map VP.Arg.isIo=fl:=by rfl)(kv:Wk c:=by decide)(he:Vj X e es:=by rfl) (iF:QO X pos es:=by rfl):PF X (.Call (.Name c p) (e::es) [] pos) (qL c fs as):=
 let ⟨_,_,_,_,_,_,M,F⟩:=W;Gk (M.YS rfl) F.2 (hr.mono hk) hg M.gm M.bi F.1 ha vJ kv he iF
theorem pmt{pl:Sem Bool}(W:∃qn st ps C fA fd,Ar X.g.K X.g.mg c m qn bs st ps C fA fd/\xc X.g k fA fd ps (false::fl) fs)(hr:bZ n X.A)(ho:PV X o fo)(ha:vm X (e::es) as)(hk:k<=n:=by exact DJ)(vJ:as.map VP.Arg.isIo=fl:=by rfl)
  (iG:Vj X e es:=by rfl) (iF:QO X pos es:=by rfl)
  (ht:eval (.Call (.Attribute o m WB) (e::es) [] pos) X.env=(do
   let ov <-eval o X.env
   standAt WB.atName
   let (f,first) <-holding [ov] (getMethod ov m pl)
   callWith pos f first (backTo pos<|starEach (e::es) X.env)<|backToKw pos<|keywordEach [] X.env):=by rfl):PV X (.Call (.Attribute o m WB) (e::es) [] pos) (qM c m fs fo as):=
 let ⟨_,_,_,_,_,_,M,F⟩:=W;Q25 M.gm M.cls M.me F.2 (hr.mono hk) M.bi F.1 ho ha vJ iG iF ht
theorem UQ{pl:Sem Bool}(W:∃qn st ps C fA fd,Ar X.g.K X.g.mg c m qn true st ps C fA fd/\xc X.g k fA fd ps fl fs)(hr:bZ n X.A)(ha:vm X (e::es) as)(hk:k<=n:=by exact DJ)(hg:Gl X c:=by rfl)(vJ:as.map VP.Arg.isIo=fl:=by rfl)
 (kv:Wk c:=by decide) (iG:Vj X e es:=by rfl) (iF:QO X pos es:=by rfl)
 (ht:eval (.Call (.Attribute (.Name c p) m WB) (e::es) [] pos) X.env=(do
  let ov <-eval (.Name c p) X.env
  standAt WB.atName
  let (f,first) <-holding [ov] (getMethod ov m pl)
  callWith pos f first (backTo pos<|starEach (e::es) X.env)<|backToKw pos<|keywordEach [] X.env):=by rfl) :
 PV X (.Call (.Attribute (.Name c p) m WB) (e::es) [] pos) (aw fs as):=let ⟨_,_,_,_,_,_,M,F⟩:=W;Gx (M.ba rfl) F.2 (hr.mono hk) M.bi F.1 ha hg vJ kv iG iF ht
theorem HD(W:∃st ps fA fd,rh X.g.K X.g.mg x st ps fA fd/\xc X.g k fA fd ps fl fs)(hr:bZ n X.A)(ha:vm X (e::es) as)(hk:k<=n:=by exact DJ)(hg:Gl X x:=by rfl)(vJ:as.map VP.Arg.isIo=fl:=by rfl)(kv:Wk x:=by decide)(he:Vj X e es:=by rfl) (iF:QO X pos es:=by rfl):PV X (.Call (.Name x p) (e::es) [] pos) (aw fs as):=
 let ⟨_,_,_,_,D,F⟩:=W;Gy F.2 (hr.mono hk) hg D.mg D.fu.kp D.bi F.1 ha vJ kv he iF
theorem YR{α:Type}{a:α}{l:List α}{Q:α->Prop}(h:Q a)(t:∀p∈l,Q p):∀p∈a::l,Q p:=λp hp=>by rcases List.mem_cons.mp hp with e|e;subst e;exact h;exact t p e
theorem Q2h{env:Env}(h:env.scope.kind=.function):env.blockKind=.function:=by unfold Env.blockKind;rw[h];rfl
theorem Uv{env:Env}(hb:attributeBase o m env (eval o env)=eval o env)(hs:∀pos,(backTo pos<|starEach es env).any (·.1)=false)(hn:es.length<30)(hl:(ap.endLine == pos.line)=true):eval (.Call (.Attribute o m ap) es [] pos) env=(do
  let ov <-eval o env
  standAt ap.atName
  let (f,first) <-holding [ov] (getMethod ov m<|do return (<-importBound o env).getD true)
  callWith pos f first (backTo pos<|starEach es env)<|backToKw pos<|keywordEach [] env):=by
 have hf:methodCallForm (es.length+([]:List Keyword).length) (backTo pos<|starEach es env) (backToKw pos<|keywordEach [] env)=true:=by unfold methodCallForm;have h1:=hs pos;rw[List.any_eq_false] at h1;rw[ML,ML];exact⟨⟨List.all_eq_true.mpr λx hx=>by rw[Bool.not_eq_true'];exact Bool.eq_false_iff.mpr<|h1 x hx,rfl⟩,Ud hn⟩
 rw[arm_eval_Call,hb];refine congrArg (bind<|eval o env) (funext λov=>congrArg (bind _) (funext λ_=>?_));unfold methodCall calleeOf methodCallPos;rw[hf,hl];rfl
theorem Ea{st:Stmt}:je X st DC:=λ_ _ _ _ _ _ _ o=>o.elim
end
abbrev V6(G:Gb)(j:Nat)(r:ay):Prop:=∃st ps fA fd,rh G.K G.mg r.1 st ps fA fd/\xc G j fA fd ps r.2.1 r.2.2
abbrev ZP(G:Gb)(b:Bool)(c m:Str)(q:List Bool×Fn)(k:Nat):Prop:=∃bs qn st ps C fA fd,Ar G.K G.mg c m qn bs st ps C fA fd/\xc G k fA fd ps (b::q.1) q.2
structure rj(G:Gb)(k:Nat)(ds:List ay)(ms:List (Str×ay))(ks:List ay):Prop where
 ds:∀p∈ds,∃j,j<=k/\V6 G j p
 ms:∀p∈ms,∃j,j<=k/\ZP G false p.2.1 p.1 p.2.2 j
 ks:∀p∈ks,∃j,j+1<=k/\ZP G true p.1 "__init__" p.2 j
class HG (X:Cx) (c:outParam Tc):Prop where
 N:X.N=c.N
 sc:X.env.scope=c.sc
 cm:X.calm=true
 ok:∃r,bZ r X.A/\rj X.g r c.ds c.ms c.ks
 T:∃a,Txt c.L X.g.w X.g.K X.g.mg a
structure LCp(X:Cx)(elt tg Up:Expr)(ifs:WM)(scope:Scope)(n:Nat)(it:M (List D))(gf:D->M Unit)(ft:M Bool)(fe:M D)(N':WZ)(js:SK):Prop where
 c:bo X scope N'
 l:X.N.length+n+1=N'.length
 i:pV X tg Up it
 x:∀d r x r',gf d r≠.exc x r'
 j:∀j∈js,X.N.length<=j/\j<X.N.length+n
 g:∀C s H ex,sP (aE X scope C N' s H ex) tg js gf
 t:∀C s H ex,xf (aE X scope C N' s H ex) ifs ft
 e:∀C s H ex,PV (aE X scope C N' s H ex) elt fe
 s:∀x,foldedSetIterable Up X.env x=pure x
inductive LC(X:Cx)(elt:Expr)(scope:Scope):List Comprehension->M D->Prop|mk:LCp X elt tg Up ifs scope n it gf ft fe N' js->LC X elt scope [⟨tg,Up,ifs,0⟩] (az n it gf ft fe)
def DQ(X:Cx)(f:M D):Expr->Prop|.ListComp elt gs sc _=>LC X elt sc gs f|_=>True
structure He(X:Cx)(e:Expr)(f:M D):Prop where
 lc:DQ X f e
 st:∀es env,starEach (e::es) env=(false,eval e env)::starEach es env
 ix:m8 e
 nm:∀op,behindInMarks op e=false
 at':∀f env w,attributeBase e f env w=w
 sw:isLC e=false->∀t l env,swapsWith e t l env=pure false
 as:∀o p env v,assign (.Subscript o e p) env v=(do
  let ov <-holding [v] (eval o env);let iv <-holding [v,ov] (eval e env)
  standAt p
  holding [v,ov,iv] (setItem ov iv v)
  release [v,ov,iv] [])
 fs:∀env x,foldedSetIterable e env x=pure x
 it:isCmp e=false->∀env w,isTrue e env w=(do let v <-w;standAt e.pos;holding [v]<|truthy v)
instance abl{X:Cx}{c:Tc}{scope:Scope}{C:Addr}{N':WZ}{s:Shared}{H:Tm}{ex:WC}[T:HG X c]:HG (aE X scope C N' s H ex) {c with N:=N',sc:=Zg scope c.sc}:=⟨rfl,T.sc ▸ rfl,T.cm,T.ok,T.T⟩
abbrev m6(X:Cx)(E:my):Prop:=∀{e f},E e=some f->PV X e f/\He X e f
abbrev VY(X:Cx)(B:EJ):Prop:=∀{e f},B e=some f->PB X e f
theorem Rn{X:Cx}{c:Tc}[T:HG X c]:∃r,bZ r X.A:=let ⟨_,h,_⟩:=T.ok;⟨_,h⟩
section
variable{X:Cx}{c:Tc}[T:HG X c]{E:my}{B:EJ}
theorem iq(h:slot c x=some i){C:Prop}(k:X.N[i]?=some x->mz X.env.scope x->(x == ("__debug__" : Str))=false->(x == ("__classdict__" : Str))=false->C):C:=og h λq h=>oa q λq1 q2=>oa q2 λq2 q3=>k (T.N ▸ nv h) (T.sc ▸ Hx q1) (ne q2) (ne q3)
theorem isGl_ok(h:isGl c.sc x=true):Gl X x:=by unfold Gl Env.kindOf;rw[T.sc];exact eq_of_beq h
theorem lA(h:ME c x=true):Gl X x/\X.g.mg x=none:=oa h λh1 h2=>⟨isGl_ok h1,by obtain⟨a,t⟩:=T.T;obtain⟨i,hi⟩:=List.getElem?_of_mem<|ct h2;exact t.b i hi⟩
theorem Pz(h:U1 o=some g):lg X (binaryOp o) g:=by cases o with|Add=>cases h;exact w_add|Sub=>cases h;exact w_sub|Mult=>cases h;exact w_mul|Mod=>cases h;exact w_mod|FloorDiv=>cases h;exact QJ|_=>exact nn h
theorem vy(hr:∃k,bZ k X.A)(h:Wc o=some g):lg X (compareOp o) g:=by cases o with|Lt=>cases h;exact w_lt|LtE=>cases h;exact ZD|Gt=>cases h;exact VI|GtE=>cases h;exact ZC|Eq=>cases h;exact let ⟨_,hr⟩:=hr;w_eq false hr.units|NotEq=>cases h;exact let ⟨_,hr⟩:=hr;w_eq true hr.units|Is=>cases h;exact VL|In=>cases h;exact VJ|_=>exact nn h
theorem yR(k:m6 X E):∀{es fl},tL E es=some fl->vn X es (mL fl)|[],_,h=>by cases h;exact bu|e::es,_,h=>ob h λf hf h=>om h λl hl h=>by subst h;have q:=k hf;exact aD q.1 (yR k hl) (q.2.st es X.env)
theorem Mf(k:m6 X E){o:Option Expr}{z:Option (M D)}(h:tO E o=some z):sO X o z:=by cases o with|none=>cases h;exact Q15|some e=>exact om h λf hf h=>by subst h;exact Gu (k hf).1
theorem DP(k:m6 X E)(h:tR c E e=some f):PR X e f/\∀es env,starEach (e::es) env=(false,eval e env)::starEach es env:=oc h (λ_ h=>ob h λx hx h=>om h λj hj h=>iq (X:=X) hj λh1 h2 h3 h4=>by subst h;obtain⟨p,e⟩:=hW hx;subst e;exact⟨Dq j h1 h2 h3 h4,λ_ _=>rfl⟩) λh=>⟨PV.rd (k h).1,(k h).2.st⟩
theorem yQ(k:m6 X E):∀{fl es as},tA c E fl es=some as->vm X es as/\as.map VP.Arg.isIo=fl/\(∀pos,QO X pos es)/\∀e r,es=e::r->Vj X e r|[],[],_,h=>by cases h;exact⟨hZ,rfl,λ_=>rfl,λ_ _ z=>by cases z⟩|[],_::_,_,h=>nn h|false::_,[],_,h=>nn h|true::_,[],_,h=>nn h|false::fl,e::es,_,h=>ob h λf hf h=>om h λl hl h=>by subst h;have q:=k hf;have z:=yQ k hl;exact⟨cG q.1 z.1 (q.2.st es X.env),congrArg (false::·) z.2.1,λpos=>Eq.mpr (congrArg (λl=>(backTo pos l).any (·.1)=false)<|q.2.st es X.env) (z.2.2.1 pos),λ_ _ e=>by cases e;exact q.2.st _ _⟩|true::fl,e::es,_,h=>ob h λx hx h=>ob h λj hj h=>om h λl hl h=>iq (X:=X) hj λh1 h2 h3 h4=>by subst h;obtain⟨p,e⟩:=hW hx;subst e;have z:=yQ k hl;exact⟨lW j z.1 h1 h2 h3 h4 rfl,congrArg (true::·) z.2.1,z.2.2.1,λ_ _ e=>by cases e;rfl⟩
theorem Q27(k:m6 X E)(h:vE c E a b=some f):PV X (.Subscript a b pos) f:=oc h (λ_ h=>ob h λx hx h=>ob h λj hj h=>om h λg hg h=>iq (X:=X) hj λh1 h2 h3 h4=>by subst h;obtain⟨p,e⟩:=hW hx;subst e;exact PQ j (k hg).1 (k hg).2.ix h1 h2 h3 h4) λh=>ob h λfa ha h=>ob h λg hg h=>oc h (λ_ h=>by cases h;exact yz (k ha).1 (k hg).1 (k hg).2.ix) λh=>by cases h;exact qP (k ha).1 (k hg).1 (k hg).2.ix
theorem Q2r(k:m6 X E)(h:tX c E a b=some f):PV X (.Subscript a b pos) f:=by
 cases b with
 |Slice lo hi st p=>cases st with|none=>exact ob h λf hf h=>ob h λl hl h=>om h λg hg h=>by subst h;exact UZ (k hf).1 (Mf k hl) (Mf k hg)|some _=>exact nn h
 |_=>exact Q27 k h
theorem Vv(k:m6 X E)(hx:Gl X x)(hm:X.g.mg x=none):∀{es},tN c E x es=some f->PV X (.Call (.Name x p) es [] pos) f
|[],h=>nn h|[a],h=>oc h (λe h=>om h λf hf h=>by
 subst h;cases eq_of_beq e;exact pO true f_int hx hm boot_int (aD (k hf).1 bu<|(k hf).2.st _ _) (by decide) (by decide)<|(k hf).2.st _ _) λh=>ob h λf hf h=>om h λg hg h=>by
 subst h;have q:=DP (X:=X) (c:=c) k hf;have s:=q.2 [] X.env;exact oc hg (λe h=>by cases h;cases eq_of_beq e;exact cf false f_len hx hm PySem.boot_len q.1 (by decide) (by decide) s) λh=>oc h (λe h=>by cases h;cases eq_of_beq e;exact cf true f_tup hx hm boot_tuple q.1 (by decide) (by decide) s) λh=>oc h (λe h=>by cases h;cases eq_of_beq e;exact PF.pv<|cf true Kc hx hm boot_list q.1 (by decide) (by decide) s) λh=>
  oc h (λe h=>by cases h;cases eq_of_beq e;exact cf false (Bq T.cm true) hx hm VS.boot_all q.1 (by decide) (by decide) s) λh=>oc h (λe h=>by cases h;cases eq_of_beq e;exact cf false (Bq T.cm false) hx hm VS.boot_any q.1 (by decide) (by decide) s) λh=>
  oc h (λe h=>by cases h;cases eq_of_beq e;exact cf false (Q2J T.cm) hx hm boot_sum q.1 (by decide) (by decide) s) λh=>og h λe h=>by cases h;cases eq_of_beq e;exact cf false MZ hx hm PyProof.Rows.boot_sorted q.1 (by decide) (by decide) s
|[a,b],h=>oc h (λe h=>ob h λn hn h=>og h λq h=>ob h λf hf h=>om h λsu hs h=>by
 subst h;cases eq_of_beq e;obtain⟨p,e⟩:=hW hn;subst e;obtain⟨a,t⟩:=T.T;obtain⟨i,hi⟩:=List.getElem?_of_mem<|lk hs;have z:=DP (X:=X) (c:=c) k hf;exact oa q λq1 q2=>oa q2 λq2 _=>Q1J (t.i i hi) hx hm (isGl_ok q1) z.1 (ne q2)<|z.2 _ _) λh=>og h λe h=>ob h λf hf h=>om h λg hg h=>by
 subst h;cases eq_of_beq e;have s:=(k hg).2.st [] X.env;exact pO false (SS T.cm) hx hm boot_max (aD (k hf).1 (aD (k hg).1 bu s)<|(k hf).2.st _ _) (by decide) (by decide) ((k hf).2.st _ _) (Eq.mpr (congrArg (λl=>(backTo pos l).any (·.1)=false) s) rfl)
|_::_::_::_,h=>nn h
theorem Vr(k:m6 X E)(h:Qo c E x (e::es)=some f):PV X (.Call (.Name x p) (e::es) [] pos) f:=og h λq h=>oa q λq0 q1=>oa q1 λq1 _=>by have z:=λ{fl as} (ha:tA c E fl (e::es)=some as)=>yQ (X:=X) k ha;have y:=λ{fl as} (ha:tA c E fl (e::es)=some as)=>Eq.mp (congrArg (λl=>(backTo pos l).any (·.1)=false)<|(z ha).2.2.2 e es rfl)<|(z ha).2.2.1 pos;cases e1:c.ds.lookup x with|some d=>rw[e1] at h;exact om h λas ha h=>by subst h;obtain⟨r,hr,ok⟩:=T.ok;obtain⟨j,hj,hd⟩:=ok.ds _<|lk e1;exact HD hd hr (z ha).1 hj (isGl_ok q0) (z ha).2.1 (ne q1) ((z ha).2.2.2 e es rfl) (y ha)|none=>rw[e1] at h;cases e2:c.ks.lookup x with|some d=>rw[e2] at h;exact om h λas ha h=>by subst h;obtain⟨r,hr,ok⟩:=T.ok;obtain⟨j,hk,bs,hd⟩:=ok.ks _<|lk e2;exact PF.pv (pmk hd hr (z ha).1 hk (isGl_ok q0) (z ha).2.1 (ne q1) ((z ha).2.2.2 e es rfl)<|y ha)|none=>rw[e2] at h;exact og h λq2 h=>Vv k (isGl_ok q0) (lA (X:=X) (c:=c) (show (_&&_)=true by rw[q0,q2];rfl)).2 h
theorem Vu(k:m6 X E):∀{es},tM c E o m ap pos es=some f->PV X (.Call (.Attribute o m ap) es [] pos) f|[],h=>nn h|e::es,h=>og h λq h=>oa q λq1 q2=>ob h λ⟨r0,r2,r3⟩ hr h=>ob h λfo ho h=>om h λas ha h=>by subst h;have z:=yQ (X:=X) k ha;obtain⟨r,rm,ok⟩:=T.ok;obtain⟨j,hk,bs,hd⟩:=ok.ms _<|lk hr;have s:=z.2.2.2 e es rfl;have w:=Eq.mp (congrArg (λl=>(backTo pos l).any (·.1)=false) s)<|z.2.2.1 pos;have w2:=Uv (m:=m) (ap:=ap) (pos:=pos) ((k ho).2.at' m X.env<|eval o X.env) z.2.2.1 (Nat.succ_lt_succ<|Nat.lt_trans (z7 q2) (by decide)) q1;exact pmt hd rm (k ho).1 z.1 hk z.2.1 s w w2
theorem Me(hr:∃rm,bZ rm X.A)(k:m6 X E):∀{os bs},tK E a os bs=some f->PV X (.Compare a os bs pos) f/\PB X (.Compare a os bs pos) (tB f)|[o],[b],h=>ob h λf hf h=>ob h λg hg h=>om h λd hd h=>by subst h;have h1:=vy hr hd;exact⟨wH h1 (k hf).1 (k hg).1<|(k hg).2.nm o,wA h1 (k hf).1 (k hg).1<|(k hg).2.nm o⟩|[o,o'],[b,b'],h=>ob h λf hf h=>ob h λg hg h=>ob h λq hq h=>ob h λd hd h=>om h λd' Ai h=>by subst h;have h1:=vy hr hd;have h3:=vy hr Ai;have m:lastMarks [o,o'] [b,b']=false:=(k hq).2.nm o';exact⟨Dv h1 h3 (k hf).1 (k hg).1 (k hq).1 m,Dh h1 h3 (k hf).1 (k hg).1 (k hq).1 m⟩|[],_,h=>nn h|[_],[],h=>nn h|[_],_::_::_,h=>nn h|[_,_],[],h=>nn h|[_,_],[_],h=>nn h|[_,_],_::_::_::_,h=>nn h|_::_::_::_,_,h=>nn h
theorem wV(k:VY X B):∀{l f},Zr B o l=some f->Ae X (.BoolOp o l pos) f|[],_,h=>nn h|[a],_,h=>by cases o;exact Q1G<|k h;exact Dk (k h)|a::b::l,_,h=>ob h λf hf h=>ob h λg hg h=>by cases o;cases h;exact PH (k hf)<|wV k hg;cases h;exact Dj (k hf) (wV k hg)
theorem wW(k:m6 X E):∀{l f},Zs E o l=some f->PV X (.BoolOp o l pos) f|[],_,h=>nn h|[a],_,h=>PT (k h).1|a::b::l,_,h=>ob h λf hf h=>ob h λg hg h=>by cases o;cases h;exact Dt (k hf).1<|wW k hg;cases h;exact UY (k hf).1 (wW k hg)
theorem Qw(k:m6 X E)(hc:isCmp e=false)(h:((E e).bind λz=>some<|tB z)=some f):PB X e f:=om h λg hg h=>by subst h;exact Dl (k hg).1 λ_=>(k hg).2.it hc _ _
theorem pH(hr:∃rm,bZ rm X.A)(k:m6 X E):∀{n e f},tT E n e=some f->PB X e f
|0,_,_,h=>nn h|n+1,e,f,h=>by
 cases e with
 |UnaryOp o a p=>cases o with|Not=>exact om h λg hg h=>by subst h;exact PJ (pH hr k hg)|_=>exact nn h
 |BoolOp o l p=>exact Ae.pb (wV (pH hr k) h)|Compare a os bs p=>exact om h λg hg h=>by subst h;exact(Me hr k hg).2|IfExp _ _ _ _=>exact nn h|_=>exact Qw k rfl h
theorem pG(k:m6 X E)(h:((E e).bind λz=>some<|cj z)=some f):pV X g e f/\∀x,foldedSetIterable e X.env x=pure x:=om h λf hf h=>by subst h;exact⟨pL (k hf).1,(k hf).2.fs _⟩
theorem DO(k:m6 X E)(h:W3 c E (isTup g) e=some f):pV X g e f/\∀x,foldedSetIterable e X.env x=pure x:=by
 unfold W3 at h;cases q:tf e with
 |none=>rw[q] at h;exact pG k h|some r=>
  obtain⟨x,es⟩:=r;rw[q] at h;obtain⟨p,pos,e⟩:=th q;cases es with
  |nil=>exact pG k h|cons a es=>
   cases es with
   |nil=>
    exact oc h (λe' h=>og h λz h=>om h λf hf h=>by
     subst h e;cases eq_of_beq e';have z:=lA (X:=X) z;exact⟨fE z.1 z.2 (aD (k hf).1 bu<|(k hf).2.st _ _) ((k hf).2.st _ _),λ_=>rfl⟩) λh=>oc h (λe' h=>og h λz h=>om h λf hf h=>by
     subst h e;cases eq_of_beq e';have z:=lA (X:=X) z;exact⟨QE z.1 z.2 (k hf).1 ((k hf).2.st _ _),λ_=>rfl⟩) λh=>oc h (λe' h=>og h λz' h=>oa z' λz y=>om h λf hf h=>by
     subst h e;cases eq_of_beq e';obtain⟨_,_,_,rfl⟩:=isTup_ok y;have z:=lA (X:=X) z;exact⟨sH z.1 z.2 (aD (k hf).1 bu<|(k hf).2.st _ _) ((k hf).2.st _ _),λ_=>rfl⟩) (pG k)
   |cons b es=>cases es with|nil=>exact oc h (λe' h=>og h λz' h=>oa z' λz y=>ob h λf hf h=>om h λg hg h=>by subst h e;cases eq_of_beq e';obtain⟨_,_,_,rfl⟩:=isTup_ok y;have z:=lA (X:=X) z;have s2:=(k hg).2.st [] X.env;have s1:=(k hf).2.st [b] X.env;exact⟨w8 z.1 z.2 (aD (k hf).1 (aD (k hg).1 bu s2) s1) (s1.trans<|congrArg _ s2) s2,λ_=>rfl⟩) (pG k)|cons=>exact pG k h
theorem DN(nd:X.N.Nodup)(hl:∀x,lb c.sc x=true->Loc X.env.scope x/\(X.fn=true\/X.env.scope.names.lookup x=some .local)):∀{es l},Zu lb c es=some l->sQ X es l/\(assignEach es X.env).length=l.length/\(assignEach es X.env).findIdx? (·.1)=none|[],_,h=>by cases h;exact⟨kZ,rfl,rfl⟩|e::es,l,h=>ob h λx hx h=>og h λq h=>ob h λi hi h=>om h λl hq h=>by subst h;obtain⟨p,e⟩:=hW hx;subst e;have z:=DN nd hl hq;refine⟨u5 i nd (T.N ▸ nv hi) (hl x q).1 z.1 (hl x q).2 rfl,congrArg (·+1) z.2.1,?_⟩;show ((false,_)::assignEach es X.env).findIdx? _=_;rw[List.findIdx?_cons];exact congrArg (Option.map (·+1)) z.2.2
theorem Md(nd:X.N.Nodup)(hl:∀x,lb c.sc x=true->Loc X.env.scope x/\(X.fn=true\/X.env.scope.names.lookup x=some .local))(h:tG lb c g=some q):sP X g q.1 q.2/\∀d r x r',q.2 d r≠.exc x r':=by cases g with|Name x p=>exact og h λz h=>om h λi hi h=>by subst h;exact⟨yT i nd (T.N ▸ nv hi) (hl x z).1 (hl x z).2,ji⟩|Tuple es j p=>exact om h λl hq h=>by subst h;have z:=DN (X:=X) nd hl hq;exact⟨pK T.cm z.1 z.2.1 z.2.2,vG⟩|_=>exact nn h
theorem Zt{lb:Scope->Str->Bool}(h:tG lb c g=some q):∀d r x r',q.2 d r≠.exc x r':=by cases g with|Name x p=>exact og h λz h=>om h λi hi h=>by subst h;exact ji|Tuple es j p=>exact om h λl hq h=>by subst h;exact vG|_=>exact nn h
theorem Q1E(k:VY X B):∀{l f},Cp B l=some f->xf X l f|[],_,h=>by cases h;exact nA|[_],_,h=>kM (k h)|_::_::_,_,h=>nn h
theorem LC.pv(cm:X.calm=true)(h:LC X elt scope gs f):PV X (.ListComp elt gs scope pos) f:=by cases h with|mk h=>exact PF.pv (yw _ cm h.c h.l h.i h.x h.j h.g h.t h.e h.s)
theorem Qu{E':my}(k:m6 X E)(k':∀{C s H ex},m6 (aE X scope C (kU c scope<|gT gs).N s H ex) E')(kB:∀{C s H ex},VY (aE X scope C (kU c scope<|gT gs).N s H ex) B)(h:Zv c scope E E' B elt gs=some f):LC X elt scope gs f:=by
 unfold Zv at h;split at h;rename_i tg Up ifs;exact ob h λi hi h=>ob h λ⟨js,gf⟩ hq h=>ob h λt ht h=>ob h λf hf h=>ob h λn hn h=>og h λz h=>oa z λz1 z2=>oa z1 λz1 z3=>oa z2 λz2 z4=>by
  cases h;cases FN hn;have I:=DO (g:=tg) k hi;have Gf:=λC s H ex=>Md (X:=aE X scope C (kU c scope<|Hi tg).N s H ex) (c:=kU c scope<|Hi tg) (z7 z2) (λx hx=>by
   have w:(aE X scope C (kU c scope<|Hi tg).N s H ex).env.scope=Zg scope c.sc:=T.sc ▸ rfl;have y:(aE X scope C (kU c scope<|Hi tg).N s H ex).env.scope.names.lookup x=some .local:=by rw[w];exact eq_of_beq hx
   exact⟨.inl y,.inr y⟩) hq
  refine .mk (js:=js) (N':=(kU c scope<|Hi tg).N) ⟨⟨eq_of_beq z1,by rw[T.sc,T.N];exact z3,z7 z2⟩,?_,I.1,Zt hq,by rw[T.N];exact oF z4,λC s H ex=>(Gf C s H ex).1,λC s H ex=>Q1E kB ht,λC s H ex=>(k' hf).1,I.2⟩;rw[T.N];unfold kU;simp only[List.length_append,List.length_map,List.length_cons,List.length_nil]
 exact nn h
end
theorem He.of(h1:∀es env,starEach (e::es) env=(false,eval e env)::starEach es env:=by intros;rfl)(h2:m8 e:=by exactλ_ _=>rfl)(h3:∀op,behindInMarks op e=false:=by intros;rfl)(h4:∀f env w,attributeBase e f env w=w:=by intros;rfl)(h5:isLC e=false->∀t l env,swapsWith e t l env=pure false:=by first|exactλh=>Bool.noConfusion h|(intros;rfl))(h9:∀o p env v,assign (.Subscript o e p) env v=(do
  let ov <-holding [v] (eval o env);let iv <-holding [v,ov] (eval e env)
  standAt p
  holding [v,ov,iv] (setItem ov iv v)
  release [v,ov,iv] []):=by intros;rfl)(h6:∀env x,foldedSetIterable e env x=pure x:=by intros;rfl)
 (h7:isCmp e=false->∀env w,isTrue e env w=(do let v <-w;standAt e.pos;holding [v]<|truthy v):=by first|exactλh=>Bool.noConfusion h|(intros;rfl)) (h8:DQ X f e:=by exact trivial):He X e f:=⟨h8,h1,h2,h3,h4,h5,h9,h6,h7⟩
theorem kW:∀{n X c} [T:HG X c] {e f},tE n c e=some f->PV X e f/\He X e f
|0,_,_,_,_,_,h=>nn h|n+1,X,c,T,e,f,h=>by
 have k:m6 X (tE n c):=kW;cases e with
 |Name x p=>refine⟨oc h (λq h=>om h λd hd h=>?_) λh=>om h λi hi h=>iq (X:=X) hi λh1 h2 h3 h4=>by subst h;exact PY i h1 h2 h3 h4,.of⟩;subst h;obtain⟨a,t⟩:=T.T;obtain⟨i,hi⟩:=List.getElem?_of_mem<|lk hd;exact oa q λq1 q2=>oa q2 λq2 _=>Dw (t.n i hi) (isGl_ok q1) (ne q2)|Constant v j p=>
  refine om h λd hd h=>⟨?_,.of⟩;subst h;cases v with
   |none=>cases hd;exact PS|bool=>cases hd;exact UW|int=>cases hd;exact lX|str=>exact ob hd λy _ hd=>og hd λz hd=>by cases y with|str=>cases hd;cases eq_of_beq z;exact PW|_=>cases z
   |_=>exact nn hd
 |BinOp a o b p=>exact ob h λf hf h=>ob h λg hg h=>om h λd hd h=>by subst h;exact⟨pe (Pz hd) (k hf).1 (k hg).1,.of⟩|UnaryOp o a p=>refine ob h λf hf h=>om h λd hd h=>⟨?_,.of⟩;subst h;cases o with|USub=>cases hd;exact Q0w VM (k hf).1|_=>exact nn hd
 |BoolOp o l p=>exact⟨wW k h,.of⟩|Compare a os bs p=>exact⟨(Me (Rn (X:=X)) k h).1,.of⟩|Subscript a b p=>exact⟨Q2r k h,.of⟩|Tuple es j p=>exact om h λl hl h=>by subst h;exact⟨PX<|yR k hl,.of⟩|List es p=>exact om h λl hl h=>by subst h;exact⟨PF.pv<|se<|yR k hl,.of⟩|Attribute a f p=>exact ob h λg hg h=>om h λcs hc h=>by subst h;obtain⟨a,t⟩:=T.T;obtain⟨i,hi⟩:=List.getElem?_of_mem<|lk hc;exact⟨PO (t.f i hi) (PV.rd (k hg).1)<|(k hg).2.at' _ _ _,.of⟩|Call g es ks p=>
  cases ks with
  |nil=>
   cases g with
   |Name x q=>cases es with|nil=>exact nn h|cons=>exact⟨Vr k h,.of⟩
   |Attribute o m q=>exact⟨Vu k h,.of⟩|_=>exact nn h
  |_=>cases g<;>exact nn h
 |IfExp t a b p=>exact ob h λg hg h=>ob h λf hf h=>om h λq hq h=>by subst h;exact⟨UX (pH (Rn (X:=X)) k hg) (k hf).1 (k hq).1,.of⟩|ListComp e gs sc p=>have q:=Qu k kW (λ{C s H ex e f} h=>pH (X:=aE X sc C (kU c sc<|gT gs).N s H ex) (Rn (X:=X)) kW h) h;exact⟨LC.pv T.cm q,.of (h8:=q)⟩|_=>exact nn h
class Aq (X:Cx) (c:outParam Tc):Prop extends HG X c where
 nd:X.N.Nodup
 fn:X.fn=true
 bk:X.env.blockKind=.function
section
variable{X:Cx}{c:Tc}[T:Aq X c]{E:my}{B:EJ}
theorem mj{S:Stmt->Option (M Fl)}(k:∀{s f},S s=some f->je X s f):∀{l f},Hg S l=some f->lj X l f|[],_,h=>by cases h;exact aT|s::l,_,h=>ob h λf hf h=>om h λg hg h=>by subst h;exact ae (k hf) (mj k hg)
theorem Mc(h:SH c.sc x p (.ListComp elt gs sc pos)=true):swapsWith (.ListComp elt gs sc pos) (some<|.Name x p) l X.env=pure true:=by refine congrArg pure ?_;rw[T.bk,Env.kindOf,T.sc];exact h
theorem Qt(k:m6 X E)(h:((tf e).bind λ(x,es)=>(o1 es).bind λa=>gd (x == "list" && ME c x)<|(tR c E a).bind λf=>some<|m1 dG f)=some f):PF X e f/\∀t l env,swapsWith e t l env=pure false:=ob h λ⟨x,es⟩ h1 h=>ob h λa h2 h=>og h λz h=>oa z λz y=>om h λf hf h=>by subst h;obtain⟨q,p,e⟩:=th h1;cases KS h2;subst e;cases eq_of_beq z;have y:=lA (X:=X) y;have w:=DP (X:=X) k hf;exact⟨cf true Kc y.1 y.2 boot_list w.1 (by decide) (by decide) (w.2 _ _),λ_ _ _=>rfl⟩
theorem Q1U(k:m6 X E)(h:tF c E e=some f):PF X e f/\∀t l env,swapsWith e t l env=pure false:=by
 cases e with
 |List=>exact om h λf hf h=>by subst h;exact⟨se (yR k hf),λ_ _ _=>rfl⟩|Dict ks vs=>
  cases ks with
  |nil=>cases vs with|nil=>cases h;exact⟨Gi,λ_ _ _=>rfl⟩|_=>exact nn h
  |_=>exact nn h
 |_=>exact Qt k h
theorem Ha(k:m6 X E)(h:Vn c E e t=some f):je X (.Assign [t] e pos) f:=by
 cases t with
 |Name x p=>
  exact og h λq h=>oa q λq w=>ob h λi hi h=>by
   have hx:Loc X.env.scope x:=T.sc ▸ yn q;have hi:X.N[i]?=some x:=T.N ▸ nv hi;have lc:∀{f},E e=some f->isLC e=true->je X (.Assign [.Name x p] e pos) (fq i f)/\je X (.Assign [.Name x p] e pos) (aM i f):=λ{f} hf hl=>by
    cases e with
    |ListComp=>have z:LC _ _ _ _ _:=(k hf).2.lc;cases z with|mk z=>exact⟨jJ true _ i T.cm z.c z.l z.i z.x z.j z.g z.t z.e T.nd hi hx (Mc w) z.s<|.inl T.fn,jJ false _ i T.cm z.c z.l z.i z.x z.j z.g z.t z.e T.nd hi hx (Mc w) z.s<|.inl T.fn⟩
    |_=>exact fb hl
   exact oc h (λ_ h=>oc h (λz h=>om h λg hg h=>by subst h;exact(lc hg z).1) λh=>om h λg hg h=>by
    subst h;have z:=Q1U k hg;exact QH i T.nd hi hx z.1 (z.2 _ _ _)<|.inl T.fn) λh=>om h λg hg h=>by
    subst h;cases z:isLC e
    ·exact Eb i T.nd hi hx (k hg).1 ((k hg).2.sw z _ _ _) (.inl T.fn)
    ·exact(lc hg z).2
 |Attribute o f p=>exact og h λz h=>ob h λx hx h=>ob h λi hi h=>ob h λcs hc h=>om h λg hg h=>iq (X:=X) hi λh1 h2 h3 h4=>by subst h;obtain⟨q,e⟩:=hW hx;subst e;obtain⟨a,t⟩:=T.T;obtain⟨j,hj⟩:=List.getElem?_of_mem<|lk hc;exact D7 i (t.f j hj) (k hg).1 h1 h2 h3 h4 ((k hg).2.sw (ne z) _ _ _)|Subscript o b p=>
  exact og h λz h=>ob h λx hx h=>ob h λi hi h=>ob h λu hu h=>ob h λg hg h=>iq (X:=X) hi λh1 h2 h3 h4=>by
   obtain⟨q,e⟩:=hW hx;subst e;refine oc h (λ_ h=>?_) λh=>?_<;>cases h;rotate_left
   ·exact Q0W i (k hu).1 (k hg).1 h1 h2 h3 h4 ((k hu).2.as _ _ _) ((k hg).2.sw (ne z) (some<|.Subscript (.Name x q) b p) pos.line X.env) rfl rfl
   ·exact HA i (k hu).1 (k hg).1 h1 h2 h3 h4 ((k hg).2.sw (ne z) _ _ _)
 |_=>exact nn h
theorem Hb(k:m6 X E):∀{ts},Vo c E e ts=some f->je X (.Assign ts e pos) f|[],h=>nn h|[_],h=>Ha k h|_::_::_,h=>nn h
theorem Qs(k:m6 X E)(h:NO c E e=some f):je X (.Expr e pos) f:=ob h λ⟨g,es,p⟩ h1 h=>ob h λ⟨o,m,ap⟩ h2 h=>ob h λa h3 h=>og h λq h=>oa q λq1 q2=>ob h λx hx h=>ob h λi hi h=>om h λg hg h=>iq (X:=X) hi λz1 z2 z3 z4=>by subst h;obtain⟨p,e⟩:=hW hx;subst e;cases eq_of_beq q1;cases J8 h1;cases Q0a h2;cases KS h3;have s:=(k hg).2.st [] X.env;exact D6 i (k hg).1 z1 z2 z3 z4 rfl (by rw[s];rfl) q2 s rfl
theorem vF(h:je X s f)(e:S0 c l f=some g):je X s g:=by unfold S0 at e;cases q:c.fz.lookup l with|some i=>rw[q] at e;cases e;exact D9 h|none=>rw[q] at e;cases e;exact h
theorem q7(k:m6 X E)(kB:VY X B):∀{n s f},tS c E B n s=some f->je X s f
|0,_,_,h=>nn h|n+1,s,f,h=>by
 cases s with
 |Return v p=>cases v with|none=>exact nn h|some e=>exact ob h λg hg h=>vF (pM (k hg).1) h
 |If t a b p=>exact ob h λf hf h=>ob h λg hg h=>om h λq hq h=>by subst h;exact jc (kB hf) (mj (q7 k kB) hg) (mj (q7 k kB) hq)|Assign ts e p=>exact ob h λg hg h=>vF (Hb k hg) h|For g e b o p=>cases o with|nil=>exact ob h λi hi h=>ob h λ⟨_,_⟩ hq h=>om h λf hf h=>by subst h;have z:=DO (g:=g) k hi;have y:=Md (X:=X) T.nd (λx hx=>⟨T.sc ▸ yn hx,.inl T.fn⟩) hq;exact D8 T.fn T.cm z.1 y.1 (mj (q7 k kB) hf) z.2|_=>exact nn h
 |While t b o p=>cases o with|nil=>exact ob h λf hf h=>om h λg hg h=>by subst h;exact va T.fn (kB hf) (mj (q7 k kB) hg)|_=>exact nn h
 |Expr e p=>exact ob h λg hg h=>vF (Qs k hg) h|Raise=>cases h;exact Ea|_=>exact nn h
end
section
variable{X:Cx}{c:Tc}{e:Expr}
theorem xe[T:HG X c]{f:M D}(h:tE 32 c e=some f:=by kernel_rfl):PV X e f:=(kW h).1
theorem xb[T:HG X c]{f:M Bool}(h:GS c e=some f:=by kernel_rfl):PB X e f:=pH (Rn (X:=X)) kW h
theorem xs[T:Aq X c]{s:Stmt}{f:M Fl}(h:W4 c s=some f:=by kernel_rfl):je X s f:=q7 kW (pH (Rn (X:=X)) kW) h
theorem jC[T:Aq X c]{l:List Stmt}{f:M Fl}(h:Hg (W4 c) l=some f:=by kernel_rfl):lj X l f:=mj (q7 kW<|pH (Rn (X:=X)) kW) h
end
abbrev bT(P:Program)(base:Heap){L:EI}{w:World}{K:Frag}{mg:VS.MG}{a:El}(T:Txt L w K mg a)(j:Nat)(r:ay):Prop:=V6 ⟨P,w,K,mg,base⟩ j r
section
variable{P:Program}{w:World}{K:Frag}{mg:VS.MG}{base:Heap}{k:Nat}{ds ks:List ay}{ms:List (Str×ay)}{L:EI}{a:El}{x y qn:Str}{j:Nat}{fl:Wz}{f g:Fn}{bs:Bool}{st:Stmt}{ps:WZ}{A C:Addr}{fd:FuncData}{body:M Fl}
theorem dn:rj ⟨P,w,K,mg,base⟩ k [] [] []:=⟨λ_ h=>absurd h NW,λ_ h=>absurd h NW,λ_ h=>absurd h NW⟩
theorem dc{r:ay}(h:V6 ⟨P,w,K,mg,base⟩ j r)(t:rj ⟨P,w,K,mg,base⟩ k ds ms ks)(hk:j<=k:=by exact DJ):rj ⟨P,w,K,mg,base⟩ k (r::ds) ms ks:=⟨YR ⟨j,hk,h⟩ t.ds,t.ms,t.ks⟩
theorem dm(h:∃qn st ps C fA fd,Ar K mg y x qn bs st ps C fA fd/\xc ⟨P,w,K,mg,base⟩ j fA fd ps (false::fl) f)(t:rj ⟨P,w,K,mg,base⟩ k ds ms ks)(hk:j<=k:=by exact DJ):rj ⟨P,w,K,mg,base⟩ k ds ((x,y,fl,f)::ms) ks:=⟨t.ds,YR ⟨j,hk,_,h⟩ t.ms,t.ks⟩
theorem dk(h:∃qn st ps C fA fd,Ar K mg x "__init__" qn bs st ps C fA fd/\xc ⟨P,w,K,mg,base⟩ j fA fd ps (true::fl) f)(t:rj ⟨P,w,K,mg,base⟩ k ds ms ks)(hk:j+1<=k:=by exact DJ):rj ⟨P,w,K,mg,base⟩ k ds ms ((x,fl,f)::ks):=⟨t.ds,t.ms,YR ⟨j,hk,_,h⟩ t.ks⟩
noncomputable abbrev XI(G:Gb)(N:WZ)(fl:Wz)(us:Zk)(x:Str)(st:Stmt)(f:Addr)(lB:Value)(A:Around)(outer:List Env)(s:Shared)(H:Tm):Cx:=E0 G N fl us x (au st) f lB A outer s H
variable(c:Tc)(T:Txt c.L w K mg a)(hd:rj ⟨P,w,K,mg,base⟩ k c.ds c.ms c.ks)
include T hd in
theorem Q0R{f:Addr}{lB:Value}{A:Around}{outer:List Env}{s:Shared}{H:Tm}{us:Zk}(S:bp c.N ps (au st))(hr:bZ k (A.deeper<|envOfC x (au st) s.heap.objs.size f lB))(hc:c.sc=au st):Aq (XI ⟨P,w,K,mg,base⟩ c.N fl us x st f lB A outer s H) c:={N:=rfl,sc:=hc.symm,ok:=⟨_,hr,hd⟩,T:=⟨_,T⟩,cm:=rfl,nd:=S.nd,fn:=rfl,bk:=Q2h S.kind}
include T hd in
theorem nq(F:HH K y x st A fd)(hB:∀{us:Zk}{lB:Value}{B:Around}{outer:List Env}{s:Shared}{H:Tm},bp c.N ps (au st)->bZ k (B.deeper<|envOfC x (au st) s.heap.objs.size A lB)->Aq (XI ⟨P,w,K,mg,base⟩ c.N fl us x st A lB B outer s H) c->lj (XI ⟨P,w,K,mg,base⟩ c.N fl us x st A lB B outer s H)  (bh st) body)(hc:c.sc=au st:=by exact rfl)(S:bp c.N ps (au st):=by exact DE)(hl:fl.length=ps.length:=by rfl)(hg:defn c.N.length fl body=g:=by exact rfl) : xc ⟨P,w,K,mg,base⟩ (k+1) A fd ps fl g:=⟨hl,hg ▸ SX F S hl λ_ _ _ _ _ _ hr=>hB S hr<|Q0R c T hd S hr hc⟩
include T hd in
include T hd in
theorem dQ{r:ay}(D:rh K mg r.1 st ps A fd)(hb:Xf c body:=by kernel_rfl)(hs:c.st=st:=by exact rfl)(hc:c.sc=au st:=by exact rfl)(S:bp c.N ps (au st):=by exact DE)(hl:r.2.1.length=ps.length:=by rfl)(hg:defn c.N.length r.2.1 body=r.2.2:=by exact rfl):V6 ⟨P,w,K,mg,base⟩ (k+1) r:=⟨_,_,_,_,D,nq c T hd D.fu (λ_ _ _=>jC<|hs ▸ hb) hc S hl hg⟩
include T hd in
theorem vd(D:Ar K mg y x qn bs st ps C A fd)(hb:Xf c body:=by kernel_rfl)(hs:c.st=st:=by exact rfl)(hc:c.sc=au st:=by exact rfl)(S:bp c.N ps (au st):=by exact DE)(hl:fl.length=ps.length:=by rfl)(hg:defn c.N.length fl body=g:=by exact rfl):∃qn st ps C fA fd,Ar K mg y x qn bs st ps C fA fd/\xc ⟨P,w,K,mg,base⟩ (k+1) fA fd ps fl g:=⟨_,_,_,_,_,_,D,nq c T hd D.fu (λ_ _ _=>jC<|hs ▸ hb) hc S hl hg⟩
end
end WL
end
section
set_option linter.all false
set_option maxRecDepth 100000
namespace WL
open PySem PySem.Spec PyProof.Rows L2 VP VS
section
variable{P:Program}{w:World}{K:W.Frag}{mg mb:MG}{k:Nat}{fa a:Addr}{fd:FuncData}{x:Str}{fn:Fn}{aV:Shared}{vs:Zk}{ns:WR}
open Classical in
theorem CG(KX:K.In aV.heap)(TG:aV.heap.Ns mainGlobals mg)(hb:aV.heap.Ns builtinsNs mb)(hbb:∀x:Str,x≠"__name__" -> mb x=bootBuiltins x)(Yo:aV.heap.NoLimit)(hg:aV.gens=#[])
  (ha:aV.heap.get? a=some {cls:=.type "list",data:=.seq vs.toArray}) (hi:IntsAre vs ns) (hl:ns.length<=sizeLine) (hr:bZ k callerA)
  (F:∀base:Heap,pU ⟨P,w,K,mg,base⟩ k fa fd [x] [false] fn) (Tb:∀(s:Shared)(u:Value),BindsTo s fd ⟨[u],[]⟩ [(x,u)]) (ve:fn [.lst<|ns.map .int]=.ok (.bl true) []) :
  codeAny (model P w) callerA (.call (.ref fa) ⟨[.ref a],[]⟩) (λr s'=>r=.ok (.ret<|.bool true)/\OldK aV.heap s'.heap/\s'.os=aV.os/\AllBare s'.gens) aV:=by
 have Uh:=hi.length;have fl:Paired cR (ns.map D.int) vs:=by clear ha ve Uh hl;induction hi with|nil=>exact .nil|cons n t h ih=>exact .cons ⟨t,rfl⟩ ih
 have ⟨base,iX,hB,hA⟩:∃base:Heap,(∀b o,base.get? b=some o->aV.heap.get? b=some o/\(b=a->EA K a=some (.lst<|ns.map .int)))/\(∀b o,aV.heap.get? b=some o->b≠a\/K.lookup a≠none->base.get? b=some o)/\base.objs.size=aV.heap.objs.size:=by cases hk:K.lookup a with|some o=>have e:=KX a o hk;rw[ha] at e;cases e;exact⟨aV.heap,λb o e=>⟨e,λz=>DR ⟨false,_,vs.toArray,_,rfl,hk,by rw[Vy,Uh];exact hl,fl⟩⟩,λb o e _=>e,rfl⟩|none=>refine⟨Cg aV.heap (λb=>if b=a then some (.lst []) else none),λb o e=>?_,λb o e h=>Ci e<|Zj<|h.elim id λz=>absurd rfl z,zm _ _⟩;obtain⟨h1,h2⟩:=Gg e;refine⟨h1,λz=>?_⟩;rw[Ue z] at h2;cases h2
 have T4:∀b o,aV.heap.get? b=some o->(∀n,o.data≠.seq vs.toArray n)->base.get? b=some o:=λb o e n=>hB b o e (.inl λz=>by subst z;rw[ha] at e;cases e;exact n _ rfl);have YZ:∀{b:Addr}{m:Str->R7},aV.heap.Ns b m->base.Ns b m:=λ{b m} ⟨o,es,ep,e,d,r⟩=>⟨o,es,ep,T4 b o e (by rw[d];exactλ_ z=>nomatch z),d,r⟩;have hKb:K.In base:=λb o e=>hB b o (KX b o e) (by by_cases z:b=a;subst z;exact .inr (by rw[e];exactλz=>nomatch z);exact .inl z);have hM:Mod K mg base:=⟨hKb,YZ TG,⟨mb,YZ hb,hbb⟩,let ⟨mc,h1,h2⟩:=Yo;⟨mc,YZ h1,h2⟩⟩;let H:Tm:=λb=>(aV.heap.get? b).map λo=>.pin o<|if b=a then some (.lst<|ns.map .int) else EA K b;have hH:∀{b o},aV.heap.get? b=some o->H b=some (.pin o<|if b=a then some (.lst<|ns.map .int) else EA K b):=λe=>by show Option.map _ _=_;rw[e];rfl
 have flat:∀{ds:Zm}{us:Zk},Paired cR ds us->aC H us ds:=λh=>by induction h with|nil=>exact .nil|cons h t ih=>exact .cons (cR.rel h) ih
 have pl:PlainL aV.heap a vs.toArray:=⟨_,_,ha,rfl,rfl,rfl⟩;have a8:nI ⟨P,w,K,mg,base⟩ H aV.heap:=λb e q=>by
  cases z:aV.heap.get? b with
  |none=>have q':Option.map _ (aV.heap.get? b)=some e:=q;rw[z] at q';cases q'|some o=>
   rw[hH z] at q;cases q;refine⟨z,λd y=>?_⟩;split at y;rename_i eb;cases y;subst eb;exact⟨by rw[Wj];exact hl,vs,flat fl,pl⟩;obtain⟨t,ds,aS,n,rfl,h1,h2,h3⟩:=Q1o y;have e1:=KX b _ h1;have SR:ds.length<=sizeLine:=by rw[h3.length,Array.length_toList];exact h2
   cases t with|true=>exact⟨rfl,SR,aS.toList,flat h3,_,e1,rfl,⟨n,rfl⟩,rfl⟩|false=>exact⟨SR,aS.toList,flat h3,_,n,e1,rfl,rfl,rfl⟩
 have bsH:∀b o,base.get? b=some o->H b=some (.pin o<|EA K b):=λb o e=>by obtain⟨h1,h2⟩:=iX b o e;rw[hH h1];by_cases z:b=a;rw[Ue z];subst z;exact congrArg (λd=>some<|En.pin o d) (h2 rfl).symm;rw[Zj z]
 have e0:Ap ⟨P,w,K,mg,base⟩ callerA [] aV H:=⟨rfl,hM,bsH,Nat.le_of_eq hA,(λe he=>absurd (show e∈([]:List Env) from he) ZA),λb hb=>absurd (show b∈([]:WC) from hb) ZA,a8,.of_eq hg⟩;refine F base callerA [] aV H [.ref a] [.lst<|ns.map .int] ⟨[.ref a],[]⟩ _ hr e0 (Tb aV<|.ref a) ⟨rfl,rfl,λi u d h1 h2 h3=>?_,λi u d h1 _ _=>?_,λi j b k _=>?_⟩ ?_;cases i with|zero=>cases h2;cases h3;exact⟨a,_,rfl,by rw[hH ha,Ue rfl]⟩|succ i=>simp at h1
 cases i with|zero=>cases h1|succ i=>simp at h1
 have:=k.1;cases i with|zero=>cases this|succ i=>simp at this
 rw[ve];intro s' H' v af rv;cases rv;refine⟨rfl,OldK.of_keep λb o e=>?_,af.os,af.bare⟩;exact(af.a8 b _<|af.le b _ (hH e) trivial).1
end
abbrev RD(l:W.OpenLaw)(w:World)(K:Frag)(mg:MG)(fa:Addr)(k:Nat)(p:Str):Prop:=∃(fd:FuncData)(fn:Fn),(∀(s:Shared)(v:Value),BindsTo s fd ⟨[v],[]⟩ [(p,v)])/\(∀ns:WR,ns.length<=63->fn [.lst<|ns.map .int]=.ok (.bl true) [])/\∀base:Heap,pU ⟨l.prog,w,K,mg,base⟩ k fa fd [p] [false] fn
theorem walk63{l:W.OpenLaw}{q:Program}{loose:WZ}{XP:(Str->R7)->Heap->Prop}{YP:World->Heap->Prop}{d:DefRec}{K:Params->W.Frag}(k:Nat)(hn:l.most=some 63)(Yd:d.params.defaults=[])
  (hY:∀(w:World)(h:Heap),YP w h->(K w.params).In h)
  (F:∀(w:World)(mg:Str->R7)(fa:Addr)(h:Heap),(K w.params).In h->h.Ns mainGlobals mg->mg d.name=some (.ref fa)->RD l w (K w.params) mg fa k "_law_script") (hr:bZ k callerA:=by exact⟨rfl,by decide,by decide⟩) :
  W.WalkO q loose XP YP l.row.toRowW d [] (λf vs=>PySem.call f vs):=by
 refine ZK.sY hn Yd λw G7 aV mg mb fa o pm cd doc a vs ns G Y ho hd gG TF Np hints SR hg=>?_;have KX:=hY w _ Y;obtain⟨fd,fn,hb,ve,hF⟩:=F w mg fa _ KX G.T.g TF;exact CG KX G.T.g G.T.b G.T.builtins G.T.nolimit hg Np hints (YQ SR (by decide)) hr hF hb (ve ns SR)
abbrev jW(P:Program)(base:Heap){L:EI}{w:World}{K:Frag}{mg:MG}{a:El}(T:Txt L w K mg a)(c x:Str)(bs:Bool)(k:Nat)(fl:Wz)(f:Fn):Prop:=∃qn st ps C fA fd,Ar K mg c x qn bs st ps C fA fd/\xc ⟨P,w,K,mg,base⟩ k fA fd ps fl f
theorem mM{g:Gb}{k:Nat}{f:Addr}{fd:FuncData}{ps:WZ}{fl:Wz}(h:fl.length=ps.length):xc g k f fd ps fl (λ_=>.no):=⟨h,λ_ _ _ _ _ _ _ _ _ _ _ _ z=>z.elim⟩
section
variable{X:Cx}{e a b o tg Up elt value:Expr}{es ifs:WM}{as:List VP.Arg}{fa fb fe fo:M D}{f:M Fl}{body:List Stmt}{pos p WB:Pos}{k n i:Nat}{c x m qn:Str}{fs:Fn}{js:SK}
theorem Q0T{bs:Wz}{fl:List (M D)}(W:∃st ps fA fd,rh X.g.K X.g.mg x st ps fA fd/\xc X.g k fA fd ps bs fs)(hr:bZ n X.A)(ha:PF X a fa)(Nj:vn X es (mL fl))(X8:bs=true::List.replicate fl.length false:=by rfl)(hk:k<=n:=by exact DJ)(hg:Gl X x:=by rfl)(kv:Wk x:=by decide)(he:Vj X a es:=by rfl)(iF:QO X pos es:=by rfl):PV X (.Call (.Name x p) (a::es) [] pos) (kG fs fa fl):=let ⟨_,_,_,_,D,F⟩:=W;zR F.2 X8 (hr.mono hk) hg D.mg D.fu.kp D.bi F.1 ha Nj kv he iF
theorem Du{id:String}{g:D->Y2}(t:Bool)(h:ED X (bf t id) RV g)(hg:Gl X x)(hm:X.g.mg x=none)(hv:bootBuiltins x=some (bf t id))(ha:PR X a fa)(hn:x≠"__name__" := by decide)(kv:Wk x:=by decide)(hs:Vj X a []:=by rfl):PV X (.Call (.Name x p) [a] [] pos) (m1 g fa):=cf t h hg hm hv ha hn kv hs
theorem Y6(hm:X.g.mg "tuple" = none)(ha:PR X a fa)(hg:Gl X "tuple" := by rfl)(hs:Vj X a []:=by rfl):PV X (.Call (.Name "tuple" p) [a] [] pos) (m1 jb fa):=cf true f_tup hg hm boot_tuple ha (by decide) (by decide) hs
theorem Gz(hg:Gl X x)(hm:X.g.mg x=none)(hv:bootBuiltins x=some (.type "dict"))(ha:PV X a fa)(hn:x≠"__name__" := by decide)(kv:Wk x:=by decide)(hs:Vj X a []:=by rfl):PV X (.Call (.Name x p) [a] [] pos) (m1 Bc fa):=PF.pv (cf true MY hg hm hv ha.rd hn kv hs)
theorem pbn(hr:bZ n X.A)(ha:PV X a fa)(hb:PV X b fb):PB X (.Compare a [.NotEq] [b] pos) (tB<|m2 gI fa fb):=wA (w_eq true hr.units) ha hb (we _)
theorem QI(i:Nat){x:Str}{Bg:Pos}(hN:X.N.Nodup)(he:PV X e fe)(hi:X.N[i]?=some x:=by rfl)(hx:Loc X.env.scope x:=by exact XT)(hs:swapsWith e (some<|.Name x Bg) pos.line X.env=pure false:=by rfl)(hf:X.fn=true\/X.env.scope.names.lookup x=some .local:=by exact zX):je X (.Assign [.Name x Bg] e pos) (aM i fe):=Eb i hN hi hx he hs hf
theorem D0(i:Nat)(hN:X.N.Nodup)(hi:X.N[i]?=some x:=by rfl)(hx:Loc X.env.scope x:=by exact XT)(hf:X.fn=true\/X.env.scope.names.lookup x=some .local:=by exact zX):sP X (.Name x pos) [i] (aj i):=yT i hN hi hx hf
theorem Mi{is:SK}(i:Nat)(hN:X.N.Nodup)(h2:sQ X es is)(hi:X.N[i]?=some x:=by rfl)(hx:Loc X.env.scope x:=by exact XT)(hf:X.fn=true\/X.env.scope.names.lookup x=some .local:=by exact zX) (hs:(assignEach (.Name x pos::es) X.env).map (·.2)=assign (.Name x pos) X.env::(assignEach es X.env).map (·.2):=by rfl):sQ X (.Name x pos::es) (i::is):=u5 i hN hi hx h2 hf hs
variable{it:M (List D)}{gf:D->M Unit}{ft:M Bool}{scope:Scope}{N':WZ}
theorem Mh(hi:pV X tg Up it)(hg:sP X tg js gf)(hb:lj X body f)(ve:X.fn=true:=by rfl)(hc:X.calm=true:=by rfl)(hs:∀x,foldedSetIterable Up X.env x=pure x:=by exact Sf):je X (.For tg Up body [] pos) (ip it gf f):=D8 ve hc hi hg hb hs
theorem WQ(n:Nat)(N':WZ)(hi:pV X tg Up it)(hg:N'.Nodup->∀{C s H ex},sP (aE X scope C N' s H ex) tg js gf)(ht:∀{C s H ex},xf (aE X scope C N' s H ex) ifs ft)(he:∀{C s H ex},PV (aE X scope C N' s H ex) elt fe)
 (nd:N'.Nodup:=by exact Ec) (vK:∀d r x r',gf d r≠.exc x r':=by first|exact ji|exact vG) (uj:∀j∈js,X.N.length<=j/\j<X.N.length+n:=by exact oF (by kernel_rfl)) (hc:X.calm=true:=by rfl) (ck:scope.kind=.function:=by rfl) (c:gQ X.env.scope.names scope.names X.N N'=true:=by kernel_rfl) (hn:X.N.length+n+1=N'.length:=by rfl)
 (hs:∀x,foldedSetIterable Up X.env x=pure x:=by exact Sf):PF X (.ListComp elt [⟨tg,Up,ifs,0⟩] scope pos) (az n it gf ft fe):=yw n hc ⟨ck,c,nd⟩ hn hi vK uj (λ_ _ _ _=>hg nd) (λ_ _ _ _=>ht) (λ_ _ _ _=>he) hs
theorem Hy(n i:Nat){y:Str}{py kR:Pos}(hN:X.N.Nodup)(hy:X.N[i]?=some y)(hx:Loc X.env.scope y)(hc:X.calm=true)(c:bo X scope N')(hn:X.N.length+n+1=N'.length)(hi:pV X tg Up it)(vK:∀d r x r',gf d r≠.exc x r')(uj:∀j∈js,X.N.length<=j/\j<X.N.length+n)
 (hg:∀C s H ex,sP (aE X scope C N' s H ex) tg js gf) (ht:∀C s H ex,xf (aE X scope C N' s H ex) ifs ft) (he:∀C s H ex,PV (aE X scope C N' s H ex) elt fe)
 (Fv:swapsWith (.ListComp elt [⟨tg,Up,ifs,0⟩] scope pos) (some<|.Name y py) kR.line X.env=pure true:=by rfl) (hs:∀x,foldedSetIterable Up X.env x=pure x:=by exact Sf)
 (ve:X.fn=true\/X.env.scope.names.lookup y=some .local:=by exact zX):je X (.Assign [.Name y py] (.ListComp elt [⟨tg,Up,ifs,0⟩] scope pos) kR) (fq i<|az n it gf ft fe):=jJ true n i hc c hn hi vK uj hg ht he hN hy hx Fv hs ve
theorem HB(n i:Nat){y:Str}{py kR:Pos}(hN:X.N.Nodup)(hy:X.N[i]?=some y)(hx:Loc X.env.scope y)(hc:X.calm=true)(c:bo X scope N')(hn:X.N.length+n+1=N'.length)(hi:pV X tg Up it)(vK:∀d r x r',gf d r≠.exc x r')(uj:∀j∈js,X.N.length<=j/\j<X.N.length+n)
 (hg:∀C s H ex,sP (aE X scope C N' s H ex) tg js gf) (ht:∀C s H ex,xf (aE X scope C N' s H ex) ifs ft) (he:∀C s H ex,PV (aE X scope C N' s H ex) elt fe)
 (Fv:swapsWith (.ListComp elt [⟨tg,Up,ifs,0⟩] scope pos) (some<|.Name y py) kR.line X.env=pure true:=by rfl) (hs:∀x,foldedSetIterable Up X.env x=pure x:=by exact Sf)
 (ve:X.fn=true\/X.env.scope.names.lookup y=some .local:=by exact zX):je X (.Assign [.Name y py] (.ListComp elt [⟨tg,Up,ifs,0⟩] scope pos) kR) (aM i<|i7<|az n it gf ft fe):=mG false n i hc c hn hi vK uj hg ht he hN hy hx Fv hs ve
theorem Hz(n i:Nat){y:Str}{py kR:Pos}(hN:X.N.Nodup)(hy:X.N[i]?=some y)(hx:Loc X.env.scope y)(hc:X.calm=true)(c:bo X scope N')(hn:X.N.length+n+1=N'.length)(hi:pV X tg Up it)(vK:∀d r x r',gf d r≠.exc x r')(uj:∀j∈js,X.N.length<=j/\j<X.N.length+n)
 (hg:∀C s H ex,sP (aE X scope C N' s H ex) tg js gf) (ht:∀C s H ex,xf (aE X scope C N' s H ex) ifs ft) (he:∀C s H ex,PV (aE X scope C N' s H ex) elt fe)
 (Fv:swapsWith (.ListComp elt [⟨tg,Up,ifs,0⟩] scope pos) (some<|.Name y py) kR.line X.env=pure true:=by rfl) (hs:∀x,foldedSetIterable Up X.env x=pure x:=by exact Sf)
 (ve:X.fn=true\/X.env.scope.names.lookup y=some .local:=by exact zX):je X (.Assign [.Name y py] (.ListComp elt [⟨tg,Up,ifs,0⟩] scope pos) kR) (fq i<|i7<|az n it gf ft fe):=mG true n i hc c hn hi vK uj hg ht he hN hy hx Fv hs ve
end
end WL
end
section
namespace VP
section
variable{α β:Type}
noncomputable def Res.then{α β:Type}:Res α->(α->M β)->Res β|.ok a r,g=>g a r|.exc x r,_=>.exc x r|.no,_=>.no
noncomputable def Res.seq:Res Fl->M Fl->Res Fl|.ok .nx r,g=>g r|.ok k r,_=>.ok k r|.exc x r,_=>.exc x r|.no,_=>.no
noncomputable def Res.turn:Res Fl->M Fl->Res Fl|.ok .nx r,g=>g r|.ok .ct r,g=>g r|.ok .bk r,_=>.ok .nx r|.ok (.rt d) r,_=>.ok (.rt d) r|.exc x r,_=>.exc x r|.no,_=>.no
@[simp] theorem ag(a:α)(r:ax)(g:α->M β):(Res.ok a r).then g=g a r:=QW
@[simp] theorem Q0c(c:Prop)[Decidable c](a b:Res α)(g:α->M β):(if c then a else b).then g=if c then a.then g else b.then g:=by split<;>rfl
@[simp] theorem wN(r:ax)(g:M Fl):(Res.ok .nx r).seq g=g r:=QW
@[simp] theorem Q0L(d:D)(r:ax)(g:M Fl):(Res.ok (.rt d) r).seq g=.ok (.rt d) r:=QW
@[simp] theorem Q2d(c:Prop)[Decidable c](a b:Res Fl)(g:M Fl):(if c then a else b).seq g=if c then a.seq g else b.seq g:=by split<;>rfl
@[simp] theorem Ho(r:ax)(g:M Fl):(Res.ok .nx r).turn g=g r:=QW
@[simp] theorem Q0v(d:D)(r:ax)(g:M Fl):(Res.ok (.rt d) r).turn g=.ok (.rt d) r:=QW
@[simp] theorem cO(a:α)(r:ax):ret a r=.ok a r:=QW
@[simp] theorem br(a:α):opt (some a)=ret a:=QW
theorem aq(f:M α)(g:α->M β)(r:ax):Q1 f g r=(f r).then g:=by unfold Q1;cases f r<;>rfl
@[simp] theorem aaw(d:D)(r:ax):mC d r=.ok d r:=QW
@[simp] theorem KP(g:D->Y2)(a:M D)(r:ax):m1 g a r=(a r).then λx=>opt (g x):=aq _ _ _
@[simp] theorem Un(g:D->D->Y2)(a b:M D)(r:ax):m2 g a b r=(a r).then λx r=>(b r).then λy=>opt (g x y):=by unfold m2;rw[aq];congr;funext x r;exact aq _ _ _
@[simp] theorem Q11(r:ax):mL [] r=.ok [] r:=QW
@[simp] theorem FW(f:M D)(fs:List (M D))(r:ax):mL (f::fs) r=(f r).then λx r=>(mL fs r).then λxs=>ret (x::xs):=by
 conv=>lhs;unfold mL
 rw[aq];congr;funext x r;exact aq _ _ _
@[simp] theorem Ur(g:Zm->Y2)(as:List (M D))(r:ax):mF g as r=(mL as r).then λxs=>opt (g xs):=aq _ _ _
@[simp] theorem F1(as:List (M D))(r:ax):bU as r=(mL as r).then λxs=>opt (DV xs):=aq _ _ _
@[simp] theorem FX(as:List (M D))(r:ax):d6 as r=(mL as r).then λxs=>opt (zD xs):=aq _ _ _
def boolOf:D->M Bool|.bl b=>ret b|_=>stuck
@[simp] theorem Q0K(b:Bool):boolOf (.bl b)=ret b:=QW
@[simp] theorem Vp(a:M D)(r:ax):tB a r=(a r).then boolOf:=by unfold tB;rw[aq];cases a r with|ok d r'=>cases d<;>rfl|_=>rfl
@[simp] theorem Hd(a:M Bool)(r:ax):z8 a r=(a r).then λb=>ret (!b):=aq _ _ _
@[simp] theorem Q2Y(a b:M Bool)(r:ax):mZ a b r=(a r).then λx r=>if x=true then b r else .ok false r:=by unfold mZ;rw[aq];congr;funext x r;cases x<;>rfl
@[simp] theorem Qv(a b:M Bool)(r:ax):Hf a b r=(a r).then λx r=>if x=true then .ok true r else b r:=by unfold Hf;rw[aq];congr;funext x r;cases x<;>rfl
@[simp] theorem N2(c:M Bool)(a b:M D)(r:ax):Rh c a b r=(c r).then λx r=>if x=true then a r else b r:=by unfold Rh;rw[aq];congr;funext x r;cases x<;>rfl
@[simp] theorem CM(a b:M D)(r:ax):qI a b r=((a r).then boolOf).then λx r=>if x=true then b r else .ok (.bl false) r:=by
 unfold qI;rw[aq];cases a r with
 |ok d r'=>
  cases d<;>try rfl
  rename_i b;cases b<;>rfl
 |_=>rfl
@[simp] theorem FY(a b:M D)(r:ax):CU a b r=((a r).then boolOf).then λx r=>if x=true then .ok (.bl true) r else b r:=by
 unfold CU;rw[aq];cases a r with
 |ok d r'=>
  cases d<;>try rfl
  rename_i b;cases b<;>rfl
 |_=>rfl
@[simp] theorem Q0f(r:ax):aX r=.ok .nx r:=QW
@[simp] theorem nG(f g:M Fl)(r:ax):ai f g r=(f r).seq g:=by unfold ai Q1;cases f r with|ok k r'=>cases k<;>rfl|_=>rfl
@[simp] theorem lZ(f:M Unit)(r:ax):zW f r=(f r).then λ_=>ret .nx:=aq _ _ _
@[simp] theorem GW(f:M D)(r:ax):bV f r=(f r).then λd=>ret (.rt d):=aq _ _ _
@[simp] theorem Q1a(c:M Bool)(a b:M Fl)(r:ax):iD c a b r=(c r).then λx r=>if x=true then a r else b r:=by unfold iD;rw[aq];congr;funext x r;cases x<;>rfl
@[simp] theorem GX(i:Nat)(f:M D)(r:ax):aM i f r=(f r).then λd r=>if free r[i]?=true then .ok .nx (r.set i<|.sh d) else .no:=by unfold aM;rw[aq];congr;funext d r;rw[lZ];unfold lO;split<;>rfl
@[simp] theorem GV(i:Nat)(f:M D)(r:ax):fq i f r=(f r).then λd r=>if free r[i]?=true then .ok .nx (r.set i<|.ow d) else .no:=by unfold fq;rw[aq];congr;funext d r;rw[lZ];unfold zG;split<;>rfl
@[simp] theorem P8(i:Nat)(f:M Fl)(r:ax):wK i f r=(KQ i r).then λ_=>f:=aq _ _ _
noncomputable def Vd:Option Sl->Option D|some (.sh d)=>some d|_=>none
noncomputable def anyOf:Option Sl->Option D|some (.sh d)=>some d|some (.ow d)=>some d|some (.io d)=>some d|_=>none
@[simp] theorem Q2f(d:D):Vd (some<|.sh d)=some d:=QW
@[simp] theorem Q0u(d:D):anyOf (some<|.ow d)=some d:=QW
@[simp] theorem Q0k:free (some .no)=true:=QW
@[simp] theorem Q00(d:D):free (some<|.sh d)=true:=QW
@[simp] theorem wz(d:D):own (some<|.ow d)=some d:=QW
@[simp] theorem Q2m(d:D):own (some<|.io d)=some d:=QW
@[simp] theorem Q1H(i:Nat)(r:ax):aa i r=opt (Vd r[i]?) r:=by unfold aa;cases h:r[i]? with|none=>rfl|some s=>cases s<;>rfl
@[simp] theorem N3(i:Nat)(r:ax):Ey i r=opt (anyOf r[i]?) r:=by unfold Ey;cases h:r[i]? with|none=>rfl|some s=>cases s<;>rfl
noncomputable def Z4(i:Nat)(r:ax):Option Sl->Res Unit|some (.ow d)=>.ok () (r.set i<|.sh d)|some (.sh _)=>.ok () r|_=>.no
@[simp] theorem Q04(i:Nat)(r:ax):KQ i r=Z4 i r r[i]?:=by unfold KQ;cases h:r[i]? with|none=>rfl|some s=>cases s<;>rfl
@[simp] theorem Q2X(i:Nat)(r:ax)(d:D):Z4 i r (some<|.ow d)=.ok () (r.set i<|.sh d):=QW
noncomputable def PM(i:Nat)(r:ax):Option Sl->D->ax|some (.ow _),d=>r.set i (.ow d)|some (.io _),d=>r.set i (.io d)|_,_=>r
@[simp] theorem kN(i:Nat)(d:D)(r:ax):cN i d r=PM i r r[i]? d:=by unfold cN;cases h:r[i]? with|none=>rfl|some s=>cases s<;>rfl
@[simp] theorem sj(i:Nat)(r:ax)(e d:D):PM i r (some<|.ow e) d=r.set i (.ow d):=QW
@[simp] theorem Q2a(i:Nat)(r:ax)(e d:D):PM i r (some<|.io e) d=r.set i (.io d):=QW
@[simp] theorem kI(i:Nat)(g:D->Y2)(r:ax):hO i g r=(opt (own r[i]?) r).then λd r=>(opt (g d) r).then λd' r=>.ok () (cN i d' r):=by unfold hO;cases own r[i]? with|none=>rfl|some d=>simp only[br,cO,ag];cases g d<;>rfl
@[simp] theorem tB0(i:Nat)(fe:M D)(r:ax):jT i fe r=if isLst (own r[i]?)=true then(fe r).then λx r=>(hO i (dJ x) r).then λ_=>ret .nx else .no:=by unfold jT;split;rw[aq];congr;funext x r;exact lZ _ _;rfl
@[simp] theorem isLst_lst(ds:Zm):isLst (some<|.lst ds)=true:=QW
@[simp] theorem Q0Q(i:Nat)(fk fv:M D)(r:ax):i8 i fk fv r=(fv r).then λv r=>if isLst (own r[i]?)=true then(fk r).then λk r=>(hO i (setAt k v) r).then λ_=>ret .nx else .no:=by unfold i8;rw[aq];congr;funext v r;split;rw[aq];congr;funext k r;exact lZ _ _;rfl
@[simp] theorem oA(i:Nat)(d:D)(r:ax):aj i d r=if free r[i]?=true then .ok () (r.set i<|.sh d) else .no:=QW
@[simp] theorem yq(i:Nat)(d:D)(r:ax):lO i d r=if free r[i]?=true then .ok () (r.set i<|.sh d) else .no:=QW
@[simp] theorem Q2Z(r:ax):p7 [] [] r=.ok () r:=QW
@[simp] theorem qB(i:Nat)(is:SK)(d:D)(ds:Zm)(r:ax):p7 (i::is) (d::ds) r=(lO i d r).then λ_=>p7 is ds:=aq _ _ _
@[simp] theorem Ff(is:SK)(ds:Zm):dy is (.tup ds)=p7 is ds:=QW
@[simp] theorem Q01(it:M (List D))(g:D->M Unit)(body:M Fl)(r:ax):ip it g body r=(it r).then λds=>loop g body ds:=aq _ _ _
@[simp] theorem lM(g:D->M Unit)(body:M Fl)(d:D)(ds:Zm)(r:ax):loop g body (d::ds) r=(g d r).then λ_ r=>(body r).turn (loop g body ds):=by
 conv=>lhs;unfold loop
 rw[aq];congr;funext u r;rw[aq];cases body r with|ok k r'=>cases k<;>rfl|_=>rfl
@[simp] theorem Q0Z(k:Nat)(g:D->M Unit)(test:M Bool)(elt:M D)(r:ax):turns k g test elt [] r=.ok () r:=QW
@[simp] theorem jV(k:Nat)(g:D->M Unit)(test:M Bool)(elt:M D)(d:D)(ds:Zm)(r:ax):turns k g test elt (d::ds) r=(g d r).then λ_ r=>(test r).then λb r=>if b=true then(elt r).then λx r=>(hO k (dJ x) r).then λ_=>turns k g test elt ds else turns k g test elt ds r:=by
 conv=>lhs;unfold turns
 rw[aq];congr;funext u r;rw[aq];congr;funext b r;cases b with|true=>simp only[if_true];rw[aq];congr;funext x r;exact aq _ _ _|false=>rfl
theorem oV(n:Nat)(it:M (List D))(g:D->M Unit)(test:M Bool)(elt:M D)(r:ax):az n it g test elt r=(it r).then λds=>inner n λk=>turns k g test elt ds:=aq _ _ _
def fin(fl:Wz):Res Fl->FR
|.ok (.rt d) r=>match bD fl r with
  |some ios=>.ok d ios|none=>.no
 |.ok .nx r=>match bD fl r with|some ios=>.ok .aK ios|none=>.no
 |.exc x r=>match bD fl r with|some ios=>.exc x ios|none=>.no
 |_=>.no
theorem du(n:Nat)(fl:Wz)(body:M Fl)(ds:Zm)(h:ds.length=fl.length):defn n fl body ds=fin fl (body<|bG n fl ds):=by unfold defn;rw[Ue h];cases body (bG n fl ds) with|ok k r=>cases k<;>rfl|_=>rfl
def IZ(js:SK)(r:ax):FR->Res D|.ok d ios=>.ok d (putAll js ios r)|.exc x ios=>.exc x (putAll js ios r)|.no=>.no
@[simp] theorem nW(js:SK)(r:ax)(d:D)(ios:Zm):IZ js r (.ok d ios)=.ok d (putAll js ios r):=QW
@[simp] theorem wG(ds:Zm)(r:ax):putAll [] ds r=r:=QW
@[simp] theorem uN(j:Nat)(js:SK)(d:D)(ds:Zm)(r:ax):putAll (j::js) (d::ds) r=putAll js ds (cN j d r):=QW
@[simp] theorem Q0s(r:ax):bj [] r=.ok [] r:=QW
@[simp] theorem Q0A(f:M D)(as:List Arg)(r:ax):bj (.val f::as) r=(f r).then λd r=>(bj as r).then λvs=>ret (.val d::vs):=by
 conv=>lhs;unfold bj
 rw[aq];congr;funext x r;exact aq _ _ _
@[simp] theorem Q0O(r:ax):gL [] r=some []:=QW
@[simp] theorem EP(d:D)(as:List AV)(r:ax):gL (.val d::as) r=(gL as r).map (d::·):=QW
@[simp] theorem Q2H(j:Nat)(as:List AV)(r:ax):gL (.io j::as) r=(own r[j]?).bind λd=>(gL as r).map (d::·):=by
 conv=>lhs;unfold gL
 cases own r[j]?<;>rfl
@[simp] theorem Q06:bP []=[]:=QW
@[simp] theorem Cr(d:D)(as:List AV):bP (.val d::as)=bP as:=QW
@[simp] theorem Fz(j:Nat)(as:List AV):bP (.io j::as)=j::bP as:=QW
@[simp] theorem CN(f:Fn)(as:List Arg)(r:ax):aw f as r=(bj as r).then λvs=>oU f vs:=aq _ _ _
@[simp] theorem rS(f:Fn)(vs:List AV)(r:ax):oU f vs r=(opt (gL vs r) r).then λds r=>if (bP vs).Nodup then IZ (bP vs) r (f ds) else .no:=by unfold oU;cases gL vs r with|none=>rfl|some ds=>simp only[br,cO,ag];split;cases f ds<;>rfl;rfl
@[simp] theorem mP(n:Nat)(b:Bool)(bs:Wz)(d:D)(ds:Zm):bG (n+1) (b::bs) (d::ds)=(if b=true then .io d else .sh d)::bG n bs ds:=by cases b<;>rfl
@[simp] theorem pF(n:Nat):bG n [] []=List.replicate n .no:=QW
@[simp] theorem sR(i j:Int):aU (.int i) (.int j)=some (.int<|i+j):=QW
@[simp] theorem yP(i j:Int):ja (.int i) (.int j)=some (.int<|i-j):=QW
@[simp] theorem F9(i:Int):C4 (.int i)=some (.int<|-i):=QW
@[simp] theorem fS(i j:Int):ltI (.int i) (.int j)=some (.bl<|decide<|i<j):=QW
@[simp] theorem dz(i j:Int):vg (.int i) (.int j)=some (.bl<|decide<|i<=j):=QW
@[simp] theorem Cc(i j:Int):Nc (.int i) (.int j)=some (.bl<|decide<|j<i):=QW
@[simp] theorem Ca(i j:Int):S5 (.int i) (.int j)=some (.bl<|decide<|j<=i):=QW
theorem cb(i j:Int)(h:0<j):hV (.int i) (.int j)=some (.int<|i % j):=Ue h
theorem gF(i j:Int)(h:0<j)(h2:j<1073741824):qy (.int i) (.int j)=some (.int<|i / j):=Ue ⟨h,h2⟩
theorem gH(i j:Int)(h:-(2 ^ 64)<i)(h2:i<2 ^ 64):uB (.int i) (.int j)=some (.int<|i*j):=Ue (.inl ⟨h,h2⟩)
theorem bN(i j:Int)(h:-(2 ^ 64)<j)(h2:j<2 ^ 64):uB (.int i) (.int j)=some (.int<|i*j):=Ue (.inr ⟨h,h2⟩)
@[simp] theorem dw(i j:Int):fI (.int i) (.int j)=some (.bl<|decide<|i=j):=by simp[fI,plain,xF];rfl
@[simp] theorem bz(i j:Int):gI (.int i) (.int j)=some (.bl<|!decide (i=j)):=by simp[gI,plain,xF];rfl
@[simp] theorem Q0d(ds:Zm):cu (.tup ds)=some (.int ds.length):=QW
@[simp] theorem Q05(ds:Zm):cu (.lst ds)=some (.int ds.length):=QW
@[simp] theorem rU(i j:Int):maxD [.int i,.int j]=some (.int<|max i j):=by simp only[maxD,Option.some.injEq,D.int.injEq];split<;>lia
@[simp] theorem DG(ds:Zm):bR (.tup ds)=some ds:=QW
@[simp] theorem Q1Y(ds:Zm):bR (.lst ds)=some ds:=QW
@[simp] theorem F0(f:M D)(r:ax):cj f r=(f r).then λd=>opt (bR d):=aq _ _ _
@[simp] theorem Q1d(fl:List (M D))(r:ax):bF fl r=(mL fl r).then λxs=>opt (qa xs):=aq _ _ _
@[simp] theorem F3(fl:List (M D))(r:ax):uy fl r=(mL fl r).then λxs=>opt (pP xs):=aq _ _ _
noncomputable def TZ(n:Nat):Zm:=(List.range n).map λ(i:Nat)=>D.int i
theorem GN(j:Int)(h:-(2 ^ 62)<=j)(h2:j<2 ^ 62):qa [.int j]=some (TZ j.toNat):=Ue ⟨h,h2⟩
theorem Hm(ds:Zm)(h:ds.length<=16777216):DV ds=some (.tup ds):=Ue h
theorem FQ(ds:Zm)(h:ds.length<=16777216):zD ds=some (.lst ds):=Ue h
@[simp] theorem Q2e:zD []=some (.lst []):=QW
@[simp] theorem Q0N(a:D):zD [a]=some (.lst [a]):=QW
theorem eX(x:D)(xs:Zm)(h:xs.length<16777216):dJ x (.lst xs)=some (.lst<|xs++[x]):=by show (if _ then _ else _)=_;rw[Ue h]
theorem Aw(xs ys:Zm)(h:xs.length+ys.length<=fU):aU (.tup xs) (.tup ys)=some (.tup<|xs++ys):=Ue h
theorem nN(xs ys:Zm)(h:xs.length+ys.length<=fU):aU (.lst xs) (.lst ys)=some (.lst<|xs++ys):=Ue h
theorem jQ(xs:Zm)(i:Int)(d:D)(h0:0<=i)(h:xs[i.toNat]?=some d):vR xs i=some d:=by have hl:=(List.getElem?_eq_some_iff.mp h).1;unfold vR yh;rw[Ue h0,Ue Zl];exact h
@[simp] theorem Q09(xs:Zm)(i:Int):ah (.tup xs) (.int i)=vR xs i:=QW
@[simp] theorem lJ(xs:Zm)(i:Int):ah (.lst xs) (.int i)=vR xs i:=QW
def intOf:D->M (Option Int)|.int i=>ret (some i)|_=>stuck
@[simp] theorem Q2G(f:M D)(r:ax):kH (some f) r=(f r).then intOf:=by show Q1 f _ r=_;rw[aq];cases f r with|ok d r'=>cases d<;>rfl|_=>rfl
@[simp] theorem Q2R(g:D->WX->WX->Y2)(f:M D)(lo hi:Option (M D))(r:ax):vh g f lo hi r=(f r).then λd r=>(kH lo r).then λl r=>(kH hi r).then λh=>opt (g d l h):=by unfold vh;rw[aq];congr;funext d r;rw[aq];congr;funext l r;exact aq _ _ _
@[simp] theorem N1(g g2:D->D->Y2)(a b c:M D)(r:ax):FT g g2 a b c r=(a r).then λx r=>(b r).then λy r=>((opt (g x y) r).then boolOf).then λk r=>if k=true then(c r).then λz=>opt (g2 y z) else .ok (.bl false) r:=by
 unfold FT;rw[aq];congr;funext x r;rw[aq];congr;funext y r;rw[aq];cases g x y with
 |none=>rfl|some d=>
  cases d<;>try rfl
  rename_i k;cases k;rfl;exact aq _ _ _
@[simp] theorem FZ(f:M D)(r:ax):CW f r=(f r).then λd=>opt ((bR d).map List.reverse):=aq _ _ _
@[simp] theorem A6(xs:Zm)(lo hi:WX):fH (.tup xs) lo hi=some (.tup<|cutD xs lo hi):=QW
@[simp] theorem tJ(xs:Zm)(lo hi:WX):fH (.lst xs) lo hi=some (.lst<|cutD xs lo hi):=QW
theorem cP{r:ax}{xs:ax}{s s':Sl}:(r++s::xs).set r.length s'=r++s'::xs:=by rw[List.set_append_right _ _<|Ru _];simp
theorem b8{r:ax}{xs:ax}{s:Sl}:(r++s::xs)[r.length]?=some s:=by rw[OG<|Ru _];simp
theorem u4{r:ax}{s:Sl}{acc:Zm}{x:D}(h:acc.length<16777216):hO (r.length+1) (dJ x) (r++[s,.ow<|.lst acc])=.ok () (r++[s,.ow<|.lst<|acc++[x]]):=by have e:r++[s,Sl.ow<|.lst acc]=(r++[s])++Sl.ow (.lst acc)::[]:=ZA;have e2:r.length+1=(r++[s]).length:=ZA;rw[e,e2,kI,b8];simp only[wz,br,cO,ag,eX x acc h,kN,b8,sj,cP];simp
theorem SM(t:D->Bool)(f:D->D)(oE:it r=.ok ds r)(hk:k=r.length)(hL:ds.length<=16777216)
  (ht:∀d∈ds,∀acc,test (r++[.sh d,.ow acc])=.ok (t d) (r++[.sh d,.ow acc]))
  (he:∀d∈ds,t d=true->∀acc,elt (r++[.sh d,.ow acc])=.ok (f d) (r++[.sh d,.ow acc])) :
  az 1 it (aj k) test elt r=.ok (.lst<|(ds.filter t).map f) r:=by
 subst hk;have key:∀(es:Zm)(acc:Zm)(s:Sl),free (some s)=true->(∀d∈es,d∈ds)->acc.length+es.length<=16777216->∃s',turns (r.length+1) (aj r.length) test elt es (r++[s,.ow<|.lst acc])=.ok () (r++[s',.ow<|.lst<|acc++(es.filter t).map f]):=by
  intro es;induction es with
  |nil=>intro acc s _ _ _;exact⟨s,ZA⟩|cons d es ih=>
   intro acc s hs hm hl;have hd:=hm d Uq;have Q6:∀x∈es,x∈ds:=λx hx=>hm x<|WW _ hx;have e1:aj r.length d (r++[s,.ow<|.lst acc])=.ok () (r++[.sh d,.ow<|.lst acc]):=by rw[oA,b8,Ue hs,cP]
   rw[jV,e1,ag,ht d hd,ag];cases q:t d with|false=>obtain⟨s',z⟩:=ih acc (.sh d) rfl Q6 (by simp at hl;lia);refine⟨s',?_⟩;rw[Zj ZA,z,E7,q,Zj ZA]|true=>obtain⟨s',z⟩:=ih (acc++[f d]) (.sh d) rfl Q6 (by simp at hl ⊢;lia);refine⟨s',?_⟩;rw[Ue rfl,he d hd q,ag,u4 (by simp at hl;lia),ag,z,E7,q,Ue rfl];simp
 obtain⟨s',z⟩:=key ds [] .no rfl (λ_ h=>h) (by simpa using hL);rw[oV,oE,ag];unfold inner;have e:r++List.replicate 1 Sl.no++[Sl.ow<|.lst []]=r++[.no,.ow<|.lst []]:=ZA;dsimp only;rw[e,z];have e2:(r++[s',Sl.ow<|.lst<|[]++(ds.filter t).map f])[r.length+1]?=some (.ow<|.lst<|[]++(ds.filter t).map f):=by rw[OG Zl];simp
 simp only[e2];simp
theorem MQ(f:D->D)(oE:it r=.ok ds r)(hk:k=r.length)(hL:ds.length<=16777216)
  (he:∀d∈ds,∀acc,elt (r++[.sh d,.ow acc])=.ok (f d) (r++[.sh d,.ow acc])) :
  az 1 it (aj k) (ret true) elt r=.ok (.lst<|ds.map f) r:=by
 have:=SM (test:=ret true) (λ_=>true) f oE hk hL (λ_ _ _=>rfl) (λd h _=>he d h);rw[this,List.filter_eq_self.mpr (λ_ _=>rfl)]
end
@[simp] theorem Q2n(r:ax):bD [] r=some []:=by cases r<;>rfl
@[simp] theorem Q0e(bs:Wz)(s:Sl)(r:ax):bD (false::bs) (s::r)=bD bs r:=QW
@[simp] theorem Q2q(bs:Wz)(d:D)(r:ax):bD (true::bs) (.io d::r)=(bD bs r).map (d::·):=QW
noncomputable def Na(d:D):Option (List D)->FR|some ios=>.ok d ios|none=>.no
@[simp] theorem bnd(d:D)(l:Zm):Na d (some l)=.ok d l:=QW
@[simp] theorem Q0Y(fl:Wz)(d:D)(r:ax):fin fl (.ok (.rt d) r)=Na d (bD fl r):=by unfold fin Na;first|(dsimp only;done)|(dsimp only;cases bD fl r<;>rfl)
@[simp] theorem uR(n:Nat):List.replicate (n+1) Sl.no=.no::List.replicate n .no:=QW
@[simp] theorem L8:List.replicate 0 Sl.no=[]:=QW
noncomputable def T(xs:WR):D:=.tup (xs.map .int)
noncomputable def Z(xs:WR):D:=.lst (xs.map .int)
@[simp] theorem NX(xs:WR):cu (T xs)=some (.int xs.length):=by simp[T]
@[simp] theorem CH(xs:WR):cu (Z xs)=some (.int xs.length):=by simp[Z]
@[simp] theorem wM(xs:WR):bR (T xs)=some (xs.map .int):=QW
@[simp] theorem Qc(xs:WR):bR (Z xs)=some (xs.map .int):=QW
@[simp] theorem yp(xs:WR):dG (T xs)=some (Z xs):=QW
@[simp] theorem rR(xs:WR):dG (Z xs)=some (Z xs):=QW
@[simp] theorem Hn(xs:WR):jb (T xs)=some (T xs):=QW
@[simp] theorem sG(xs:WR):jb (Z xs)=some (T xs):=QW
@[simp] theorem Q2i(xs:WR)(i:Int):ah (Z xs) (.int i)=vR (xs.map .int) i:=QW
theorem bM(xs:WR)(i:Int)(h0:0<=i)(h:i<xs.length):vR (xs.map D.int) i=some (.int<|xs.getD i.toNat 0):=by refine jQ _ _ _ h0 ?_;have h2:i.toNat<xs.length:=Zl;simp[h2]
theorem b7(xs ys:WR)(h:xs.length+ys.length<=fU):aU (T xs) (T ys)=some (T<|xs++ys):=by unfold T;rw[Aw]<;>simp[h]
theorem Mw(xs ys:WR)(h:xs.length+ys.length<=fU):aU (Z xs) (Z ys)=some (Z<|xs++ys):=by unfold Z;rw[nN]<;>simp[h]
theorem vq(xs:WR)(x:Int)(h:xs.length<16777216):dJ (.int x) (Z xs)=some (Z<|xs++[x]):=by unfold Z;rw[eX];simp;simpa using h
theorem Qz:D.tup []=T []:=QW
theorem Uj:D.lst []=Z []:=QW
theorem gg(n:Nat)(xs:WR):eT n (xs.map .int)=true:=by induction xs with|nil=>cases n<;>rfl|cons x xs ih=>simp[eT,ih];cases n<;>simp[plain]
theorem lE(xs ys:WR):nY (xs.map .int) (ys.map .int)=decide (xs=ys):=by induction xs generalizing ys with|nil=>cases ys<;>simp[nY]|cons x xs ih=>cases ys with|nil=>simp[nY]|cons y ys=>simp[nY,ih,xF];rfl
@[simp] theorem Bl(xs ys:WR):fI (T xs) (T ys)=some (.bl<|decide<|xs=ys):=by unfold fI T;simp[plain,gg,xG,Bj,lE]
@[simp] theorem C3(xs ys:WR):gI (T xs) (T ys)=some (.bl<|!decide (xs=ys)):=by unfold gI T;simp[plain,gg,xG,Bj,lE]
theorem vP(xs:WR):bJ (xs.map .int)=some xs:=by induction xs with|nil=>rfl|cons x xs ih=>simp[bJ,ih]
@[simp] theorem Qq(xs:WR):DL (Z xs)=some (.int xs.sum):=by simp[DL,vP]
theorem q9(a b:D)(xs ys:WR)(ha:bR a=some (xs.map .int))(hb:bR b=some (ys.map .int)):pP [a,b]=some ((xs.zip ys).map λp=>.tup [.int p.1,.int p.2]):=by simp only[pP,ha,hb];congr 1;clear ha hb;induction xs generalizing ys with|nil=>simp|cons x xs ih=>cases ys with|nil=>simp|cons y ys=>simp[ih]
@[simp] theorem P4(xs:WR):uS (Z xs)=some (T xs.reverse):=by simp[uS,T]
theorem Q1O(f:Int->D)(xs:WR)(lo hi:WX):cutD (xs.map f) lo hi=((xs.drop<|jy xs.length 0 lo).take<|jy xs.length xs.length hi-jy xs.length 0 lo).map f:=by simp[cutD,List.map_take,List.map_drop]
@[simp] theorem MS(xs:WR)(lo hi:WX):fH (T xs) lo hi=some (T<|(xs.drop<|jy xs.length 0 lo).take<|jy xs.length xs.length hi-jy xs.length 0 lo):=by simp only[T,A6,Q1O]
theorem pn(j:Int)(n:Nat)(h:j.toNat=n)(h2:-(2 ^ 62)<=j)(h3:j<2 ^ 62):qa [.int j]=some ((List.range n).map λ(k:Nat)=>.int k):=by subst h;exact GN j h2 h3
noncomputable def aB(g:D->M Unit)(body:M Fl)(d:D)(r:ax):Res Fl:=(g d r).then λ_=>body
noncomputable def cont:Res Fl->Option ax|.ok .nx r=>some r|.ok .ct r=>some r|_=>none
@[simp] theorem Q02(r:ax):cont (.ok .nx r)=some r:=QW
theorem fB(h:cont (aB g body d r)=some r'):loop g body (d::ds) r=loop g body ds r':=by rw[lM];unfold aB at h;cases q:g d r with|no=>rw[q] at h;cases h|exc x r=>rw[q] at h;cases h|ok u r1=>rw[q,ag] at h;rw[ag];cases q2:body r1 with|no=>rw[q2] at h;cases h|exc x r=>rw[q2] at h;cases h|ok k r2=>rw[q2] at h;cases k with|nx=>cases h;rfl|ct=>cases h;rfl|bk=>cases h|rt v=>cases h
theorem CJ(h:aB g body d r=.ok (.rt v) r'):loop g body (d::ds) r=.ok (.rt v) r':=by rw[lM];unfold aB at h;cases q:g d r with|no=>rw[q] at h;cases h|exc x r=>rw[q] at h;cases h|ok u r1=>rw[q,ag] at h;rw[ag,h];rfl
noncomputable def iU{S E A:Type}(step:S->A->E ⊕ S):List A->S->E ⊕ S|[],s=>.inr s|a::as,s=>match step s a with|.inl e=>.inl e|.inr s'=>iU step as s'
theorem jR{S Tm A:Type}(mk:A->D)(R:S->Tm->ax)(ok:Tm->Prop)(step:S->A->D ⊕ S):∀(as:List A)(P:Nat->S->Prop)(s:S)(t:Tm),ok t->P 0 s ->
  (∀(i:Nat)(a:A),as[i]?=some a->∀s t,ok t->P i s->match step s a with|.inr s'=>P (i+1) s'/\∃t',ok t'/\cont (aB g body (mk a)<|R s t)=some (R s' t')|.inl v=>∃s' t',aB g body (mk a) (R s t)=.ok (.rt v) (R s' t')) ->
  match iU step as s with|.inr s'=>P as.length s'/\∃t',ok t'/\loop g body (as.map mk) (R s t)=.ok .nx (R s' t')|.inl v=>∃s' t',loop g body (as.map mk) (R s t)=.ok (.rt v) (R s' t'):=by
 intro as;induction as with|nil=>intro P s t ht hs _;exact⟨hs,t,ht,rfl⟩|cons a as ih=>intro P s t ht hs h;have h1:=h 0 a rfl s t ht hs;simp only[iU,List.map_cons];cases q:step s a with|inl v=>rw[q] at h1;obtain⟨s',t',e⟩:=h1;exact⟨s',t',CJ e⟩|inr s1=>rw[q] at h1;obtain⟨p1,t1,o1,e1⟩:=h1;have h2:=ih (λk=>P<|k+1) s1 t1 o1 p1 λi a' ha=>h (i+1) a' (by simpa using ha);have e:(a::as).length=as.length+1:=ZA;dsimp only;rw[e];cases q2:iU step as s1 with|inl v=>rw[q2] at h2;obtain⟨s',t',z⟩:=h2;exact⟨s',t',by rw[fB e1];exact z⟩|inr s2=>rw[q2] at h2;obtain⟨p2,t2,o2,z⟩:=h2;exact⟨p2,t2,o2,by rw[fB e1];exact z⟩
theorem gY{S Tm A:Type}(mk:A->D)(R:S->Tm->ax)(ok:Tm->Prop)(P:Nat->S->Prop)(step:S->A->S)(as:List A)(s:S)(t:Tm)(ht:ok t)(hs:P 0 s)
  (h:∀(i:Nat)(a:A),as[i]?=some a->∀s t,ok t->P i s->P (i+1) (step s a)/\∃t',ok t'/\cont (aB g body (mk a)<|R s t)=some (R (step s a) t')) :
  P as.length (as.foldl step s)/\∃t',ok t'/\loop g body (as.map mk) (R s t)=.ok .nx (R (as.foldl step s) t'):=by
 have:=jR (g:=g) (body:=body) mk R ok (λs a=>.inr<|step s a) as P s t ht hs h;have e:∀(as:List A)(s:S),iU (E:=D) (λs a=>.inr<|step s a) as s=.inr (as.foldl step s):=by intro as;induction as with|nil=>intro s;rfl|cons a as ih=>intro s;exact ih _
 rw[e] at this;exact this
theorem aW(h:(List.range n)[i]?=some k):k=i/\i<n:=by have h1:=(List.getElem?_eq_some_iff.mp h).1;simp at h1;rw[PG h1] at h;exact⟨(RY h).symm,h1⟩
def ko(s:Sl):Prop:=free (some s)=true
def iV(s:Sl×Sl):Prop:=free (some s.1)=true/\free (some s.2)=true
def B6(s:Sl×Sl×Sl):Prop:=free (some s.1)=true/\free (some s.2.1)=true/\free (some s.2.2)=true
@[simp] theorem FE(j:Nat)(i:D)(r:ax):Cw j i r=(opt (own r[j]?) r).then λd=>opt (ah d i):=by unfold Cw;cases own r[j]?<;>rfl
@[simp] theorem FV(j:Nat)(fb:M D)(r:ax):hJ j fb r=if (own r[j]?).isSome=true then(fb r).then (Cw j) else .no:=by unfold hJ;split;exact aq _ _ _;rfl
theorem FF(n:Nat)(i:Int)(h0:0<=i)(h:i<n):yh n i=some i.toNat:=by unfold yh;rw[Ue h0,Ue h]
theorem ma(xs:Zm)(i:Int)(v:D)(h0:0<=i)(h:i<xs.length):setAt (.int i) v (.lst xs)=some (.lst<|xs.set i.toNat v):=by show (yh xs.length i).map _=_;rw[FF _ _ h0 h];rfl
theorem yN(xs:WR)(i v:Int)(h0:0<=i)(h:i<xs.length):setAt (.int i) (.int v) (Z xs)=some (Z<|xs.set i.toNat v):=by unfold Z;rw[ma _ _ _ h0 (by simpa using h)];simp
noncomputable def outs{S A B:Type}(step:S->A->S)(f:S->A->B):S->List A->List B|_,[]=>[]|s,a::as=>f s a::outs step f (step s a) as
theorem J6{S A:Type}(mk:A->D)(R:S->ax)(P:Nat->S->Prop)(step:S->A->S)(f:S->A->D)(as:List A)(s:S)
  (SR:∀s,(R s).length=k) (oE:it r0=.ok (as.map mk) (R s)) (hL:as.length<=16777216) (hP:P 0 s)
  (he:∀(i:Nat)(a:A),as[i]?=some a->∀s acc,P i s->P (i+1) (step s a)/\elt (R s++[.sh<|mk a,.ow acc])=.ok (f s a) (R (step s a)++[.sh<|mk a,.ow acc])) :
  az 1 it (aj k) (ret true) elt r0=.ok (.lst<|outs step f s as) (R<|as.foldl step s)/\P as.length (as.foldl step s):=by
 have key:∀(es:List A)(n:Nat)(acc:Zm)(x:Sl)(s:S),free (some x)=true->(∀(i:Nat)(a:A),es[i]?=some a->as[n+i]?=some a)->acc.length+es.length<=16777216->P n s->(∃x',turns (k+1) (aj k) (ret true) elt (es.map mk) (R s++[x,.ow<|.lst acc])=.ok () (R (es.foldl step s)++[x',.ow<|.lst<|acc++outs step f s es]))/\P (n+es.length) (es.foldl step s):=by
  intro es;induction es with
  |nil=>intro n acc x s _ _ _ hp;exact⟨⟨x,by simp[outs]⟩,hp⟩|cons a es ih=>
   intro n acc x s hx hm hl hp;obtain⟨p1,e1⟩:=he n a (hm 0 a rfl) s (.lst acc) hp;obtain⟨⟨x',e2⟩,p2⟩:=ih (n+1) (acc++[f s a]) (.sh<|mk a) (step s a) rfl (λi b hb=>by rw[Nat.add_assoc,Nat.add_comm 1 i];exact hm (i+1) b hb) (by simp at hl ⊢;lia) p1;refine⟨⟨x',?_⟩,?_⟩;have g1:aj k (mk a) (R s++[x,.ow<|.lst acc])=.ok () (R s++[.sh<|mk a,.ow<|.lst acc]):=by have:=b8 (r:=R s) (xs:=[.ow<|.lst acc]) (s:=x);have:=cP (r:=R s) (xs:=[.ow<|.lst acc]) (s:=x) (s':=.sh<|mk a);rw[SR s] at *;rw[oA];simp_all
   have u1:hO (k+1) (dJ<|f s a) (R (step s a)++[.sh<|mk a,.ow<|.lst acc])=.ok () (R (step s a)++[.sh<|mk a,.ow<|.lst<|acc++[f s a]]):=by have:=u4 (r:=R<|step s a) (s:=.sh<|mk a) (acc:=acc) (x:=f s a) (by simp at hl;lia);rw[SR] at this;exact this
   rw[WA,jV,g1,ag,cO,ag,Ue rfl,e1,ag,u1,ag,e2];simp[outs];have e:n+(a::es).length=n+1+es.length:=by simp;lia
   rw[e];exact p2
 obtain⟨⟨x',z⟩,p⟩:=key as 0 [] .no s rfl (λi a h=>by rw[Nat.zero_add];exact h) (by simpa using hL) hP;refine⟨?_,by rw[Nat.zero_add] at p;exact p⟩;rw[oV,oE,ag];unfold inner;have e:R s++List.replicate 1 Sl.no++[Sl.ow<|.lst []]=R s++[.no,.ow<|.lst []]:=ZA;dsimp only;rw[e,SR,z];have e2:(R (as.foldl step s)++[x',Sl.ow<|.lst<|[]++outs step f s as])[k+1]?=some (.ow<|.lst<|[]++outs step f s as):=by rw[OG (by rw[SR];lia),SR];simp
 simp only[e2];have e3:List.take k (R (as.foldl step s)++[x',Sl.ow<|.lst<|[]++outs step f s as])=R (as.foldl step s):=by rw[<-SR (as.foldl step s)];simp
 rw[e3];simp
theorem uH{S A B:Type}(f:A->B)(s:S):∀as:List A,outs (λ(s:S)(_:A)=>s) (λ_ a=>f a) s as=as.map f|[]=>rfl|a::as=>by simp[outs,uH f s as]
theorem dN{A:Type}{it:M (List D)}{elt:M D}{k:Nat}{r:ax}{out:D}(mk:A->D)(f:A->D)(as:List A)(oE:it r=.ok (as.map mk) r)(hL:as.length<=16777216)(vM:D.lst (as.map f)=out)(he:∀a∈as,∀acc,elt (r++[.sh<|mk a,.ow acc])=.ok (f a) (r++[.sh<|mk a,.ow acc])) (hk:r.length=k:=by rfl):az 1 it (aj k) (ret true) elt r=.ok out r:=by have:=(J6 (elt:=elt) mk (λ(_:Unit)=>r) (λ_ _=>True) (λs _=>s) (λ_ a=>f a) as () (λ_=>hk) oE hL trivial λi a ha s acc _=>⟨trivial,he a (Rb ha) acc⟩).1;rw[uH,vM] at this;exact this
@[simp] theorem Q1T(xs ys:WR):gI (Z xs) (Z ys)=some (.bl<|!decide (xs=ys)):=by unfold gI Z;simp[plain,gg,xG,Bj,lE]
@[simp] theorem aap(a:D)(xs:Zm):vR (a::xs) 0=some a:=jQ _ _ _ Zl rfl
@[simp] theorem aaq(a b:D)(xs:Zm):vR (a::b::xs) 1=some b:=jQ _ _ _ Zl rfl
@[simp] theorem Q0X(a b c:D):DV [a,b,c]=some (.tup [a,b,c]):=QW
theorem J5{A:Type}(mk:A->D)(sl:A->List Sl)(t:A->Bool)(f:A->D)(as:List A)(hk:r.length=k)(oE:it r=.ok (as.map mk) r)(hL:as.length<=16777216)
  (TH:∀a∈as,(sl a).length=n/\∀x∈sl a,free (some x)=true)
  (hg:∀a∈as,∀(ts:List Sl) acc,ts.length=n->(∀x∈ts,free (some x)=true)->g (mk a) (r++ts++[.ow acc])=.ok () (r++sl a++[.ow acc]))
  (ht:∀a∈as,∀acc,test (r++sl a++[.ow acc])=.ok (t a) (r++sl a++[.ow acc]))
  (he:∀a∈as,t a=true->∀acc,elt (r++sl a++[.ow acc])=.ok (f a) (r++sl a++[.ow acc])) :
  az n it g test elt r=.ok (.lst<|(as.filter t).map f) r:=by
 subst hk;have VC:∀(ts:List Sl)(acc:Zm)(x:D),ts.length=n->acc.length<16777216->hO (r.length+n) (dJ x) (r++ts++[.ow<|.lst acc])=.ok () (r++ts++[.ow<|.lst<|acc++[x]]):=by
  intro ts acc x h1 h2;have e2:r.length+n=(r++ts).length:=by simp[h1]
  rw[e2,kI];have:=b8 (r:=r++ts) (xs:=[]) (s:=.ow<|.lst acc);rw[this];have:=cP (r:=r++ts) (xs:=[]) (s:=.ow<|.lst acc) (s':=.ow<|.lst<|acc++[x]);simp only[wz,br,cO,ag,eX x acc h2,kN,b8,sj,this]
 have key:∀(es:List A)(acc:Zm)(ts:List Sl),ts.length=n->(∀x∈ts,free (some x)=true)->(∀d∈es,d∈as)->acc.length+es.length<=16777216->∃z9,z9.length=n/\turns (r.length+n) g test elt (es.map mk) (r++ts++[.ow<|.lst acc])=.ok () (r++z9++[.ow<|.lst<|acc++(es.filter t).map f]):=by intro es;induction es with|nil=>intro acc ts h1 _ _ _;exact⟨ts,h1,ZA⟩|cons a es ih=>intro acc ts h1 h2 hm hl;have ha:=hm a Uq;have Q6:∀x∈es,x∈as:=λx hx=>hm x<|WW _ hx;rw[WA,jV,hg a ha ts _ h1 h2,ag,ht a ha,ag];cases q:t a with|false=>obtain⟨z9,z1,z2⟩:=ih acc (sl a) (TH a ha).1 (TH a ha).2 Q6 (by simp at hl;lia);refine⟨z9,z1,?_⟩;rw[Zj ZA,z2,E7,q,Zj ZA]|true=>obtain⟨z9,z1,z2⟩:=ih (acc++[f a]) (sl a) (TH a ha).1 (TH a ha).2 Q6 (by simp at hl ⊢;lia);refine⟨z9,z1,?_⟩;rw[Ue rfl,he a ha q,ag,VC _ _ _ (TH a ha).1 (by simp at hl;lia),ag,z2,E7,q,Ue rfl];simp
 obtain⟨z9,z1,z2⟩:=key as [] (List.replicate n .no) ZA (λx hx=>by rw[List.eq_of_mem_replicate hx];rfl) (λ_ h=>h) (by simpa using hL);rw[oV,oE,ag];unfold inner;dsimp only;rw[z2];have e2:(r++z9++[Sl.ow<|.lst<|[]++(as.filter t).map f])[r.length+n]?=some (.ow<|.lst<|[]++(as.filter t).map f):=by rw[OG (by simp;lia)];simp[z1]
 simp only[e2];simp
theorem S4{r:ax}{ts:List Sl}{acc x y:D}(h1:ts.length=2)(h2:∀x∈ts,free (some x)=true):dy [r.length,r.length+1] (.tup [x,y]) (r++ts++[.ow acc])=.ok () (r++[.sh x,.sh y]++[.ow acc]):=by
 match ts,h1,h2 with
 |[s,s2],_,h2=>
  have hs:=h2 s Uq;have oG:=h2 s2<|WW _ Uq;have g2:(r++[Sl.sh x,s2,.ow acc])[r.length+1]?=some s2:=by rw[OG Zl];simp
  have g3:(r++[Sl.sh x,s2,.ow acc]).set (r.length+1) (.sh y)=r++[.sh x,.sh y,.ow acc]:=by rw[List.set_append_right _ _ Zl];simp
  simp only[List.append_assoc,List.cons_append,List.nil_append];rw[Ff,qB,yq,b8,Ue hs,cP,ag,qB,yq,g2,Ue oG,g3];rfl
theorem MR{A:Type}{it:M (List D)}{test:M Bool}{elt:M D}{k:Nat}{r:ax}{out:D}(m1 m2:A->D)(t:A->Bool)(f:A->D)(as:List A)(oE:it r=.ok (as.map λa=>.tup [m1 a,m2 a]) r)(hL:as.length<=16777216)(vM:D.lst ((as.filter t).map f)=out)
  (ht:∀a∈as,∀acc,test (r++[.sh<|m1 a,.sh<|m2 a,.ow acc])=.ok (t a) (r++[.sh<|m1 a,.sh<|m2 a,.ow acc]))
  (he:∀a∈as,t a=true->∀acc,elt (r++[.sh<|m1 a,.sh<|m2 a,.ow acc])=.ok (f a) (r++[.sh<|m1 a,.sh<|m2 a,.ow acc])) (hk:r.length=k:=by rfl) :
  az 2 it (dy [k,k+1]) test elt r=.ok out r:=by
 rw[<-vM];subst hk;refine J5 (λa=>.tup [m1 a,m2 a]) (λa=>[.sh<|m1 a,.sh<|m2 a]) t f as rfl oE hL (λa _=>⟨rfl,by intro x hx;simp at hx;rcases hx with rfl|rfl<;>rfl⟩) (λa ha ts acc h1 h2=>S4 h1 h2) (λa ha acc=>?_) λa ha q acc=>?_;have:=ht a ha acc;simpa using this;have:=he a ha q acc;simpa using this
theorem A4{A:Type}{it:M (List D)}{elt:M D}{k:Nat}{r:ax}{out:D}(m1 m2:A->D)(f:A->D)(as:List A)(oE:it r=.ok (as.map λa=>.tup [m1 a,m2 a]) r)(hL:as.length<=16777216)(vM:D.lst (as.map f)=out)
  (he:∀a∈as,∀acc,elt (r++[.sh<|m1 a,.sh<|m2 a,.ow acc])=.ok (f a) (r++[.sh<|m1 a,.sh<|m2 a,.ow acc])) (hk:r.length=k:=by rfl) :
  az 2 it (dy [k,k+1]) (ret true) elt r=.ok out r:=
 MR m1 m2 (λ_=>true) f as oE hL (by rw[List.filter_eq_self.mpr (λ_ _=>rfl)];exact vM) (λ_ _ _=>rfl) (λa ha _ acc=>he a ha acc) hk
theorem vA{A:Type}{it:M (List D)}{test:M Bool}{elt:M D}{k:Nat}{r:ax}{out:D}(mk:A->D)(t:A->Bool)(f:A->D)(as:List A)(oE:it r=.ok (as.map mk) r)(hL:as.length<=16777216)(vM:D.lst ((as.filter t).map f)=out)
  (ht:∀a∈as,∀acc,test (r++[.sh<|mk a,.ow acc])=.ok (t a) (r++[.sh<|mk a,.ow acc]))
  (he:∀a∈as,t a=true->∀acc,elt (r++[.sh<|mk a,.ow acc])=.ok (f a) (r++[.sh<|mk a,.ow acc])) (hk:r.length=k:=by rfl) :
  az 1 it (aj k) test elt r=.ok out r:=by
 rw[<-vM];subst hk;refine J5 mk (λa=>[.sh<|mk a]) t f as rfl oE hL (λa _=>⟨rfl,by intro x hx;simp at hx;rw[hx];rfl⟩) (λa ha ts acc h1 h2=>?_) (λa ha acc=>?_) λa ha q acc=>?_
 match ts,h1,h2 with|[s],_,h2=>have hs:=h2 s Uq;simp only[List.append_assoc,List.cons_append,List.nil_append];rw[oA,b8,Ue hs,cP]
 have:=ht a ha acc;simpa using this;have:=he a ha q acc;simpa using this
@[simp] theorem CR(c:Str)(f:Fn)(as:List Arg)(r:ax):qL c f as r=(bj as r).then λvs=>zF c f vs:=aq _ _ _
@[simp] theorem CS(c m:Str)(f:Fn)(fo:M D)(as:List Arg)(r:ax):qM c m f fo as r=(fo r).then λo r=>if iB c m o=true then(bj as r).then λvs=>oU f (.val o::vs) else .no:=by unfold qM;rw[aq];congr;funext o r;split;exact aq _ _ _;rfl
@[simp] theorem CP(fl:List (M D))(r:ax):qK fl r=(mL fl r).then λxs=>opt (ke xs):=aq _ _ _
@[simp] theorem Q08(fl:List (M D))(r:ax):CO fl r=(mL fl r).then λxs=>opt (DA xs):=aq _ _ _
@[simp] theorem qq(ds:Zm):ke [.lst ds]=some (jA ds):=QW
theorem qr{A:Type}(mk:A->D)(as:List A):jA (as.map mk)=(List.range as.length).zipWith (λi a=>D.tup [.int (i:Nat),mk a]) as:=by unfold jA;rw[Wj,List.zipWith_map_right]
@[simp] theorem sT(al:Bool)(ds:Zm):pX al (.lst ds)=(iN ds).map λbs=>.bl (if al then bs.all id else bs.any id):=QW
theorem jG{A:Type}(f:A->Bool):∀as:List A,iN (as.map λa=>D.bl<|f a)=some (as.map f)|[]=>rfl|a::as=>by simp[iN,jG f as]
theorem Ax{A:Type}(f:A->Bool)(as:List A):pX true (.lst<|as.map λa=>D.bl<|f a)=some (.bl<|as.all f):=by rw[sT,jG];simp[Function.comp_def]
theorem Az{A:Type}(f:A->Bool)(as:List A):pX false (.lst<|as.map λa=>D.bl<|f a)=some (.bl<|as.any f):=by rw[sT,jG];simp[Function.comp_def]
theorem Q1V(c:Str)(f:Fn)(vals:Zm)(d:D)(r:ax)(h:f (.ins c [] []::vals)=.ok .aK [d]):zF c f (vals.map AV.val) r=.ok d r:=by
 have e1:∀(vs:Zm)(r:ax),gL (vs.map AV.val) r=some vs:=λvs r=>by induction vs with|nil=>rfl|cons v vs ih=>simp[ih]
 have e2:∀vs:Zm,bP (vs.map AV.val)=[]:=λvs=>by induction vs with|nil=>rfl|cons v vs ih=>simp[ih]
 have g:(r++[Sl.ow<|.ins c [] []])[r.length]?=some (.ow<|.ins c [] []):=ZA;have p:putAll [r.length] [d] (r++[Sl.ow<|.ins c [] []])=r++[.ow d]:=by rw[uN,wG,kN,g,sj,cP]
 unfold zF;rw[rS,Q2H,g];simp only[wz,Option.bind_some,e1,Option.map_some,br,cO,ag,Fz,e2];rw[Ue ZA,h,nW,p];simp
@[simp] theorem Q2b(g:D->D->Y2)(j:Nat)(d:D)(r:ax):tw g j d r=(opt (own r[j]?) r).then λx=>opt (g x d):=by unfold tw;cases own r[j]?<;>rfl
@[simp] theorem Q2p(g:D->D->Y2)(j:Nat)(fb:M D)(r:ax):qJ g j fb r=if (own r[j]?).isSome=true then(fb r).then (tw g j) else .no:=by unfold qJ;split;exact aq _ _ _;rfl
@[simp] theorem Q2o(x y:D):QZ true x y=gI x y:=QW
theorem dY:∀ns:WR,bJ (ns.map .int)=some ns|[]=>rfl|n::ns=>by rw[WA,bJ,dY ns];rfl
theorem G3(xs:WR)(h:xs.length<64):qW (T xs)=some (Z<|sortI xs):=by have e:bR (T xs)=some (xs.map .int):=rfl;unfold qW;rw[e];dsimp only;rw[dY];dsimp only;rw[if_pos h];rfl
noncomputable def kY(n:Nat):WR:=(List.range n).map λ(k:Nat)=>(k:Int)
theorem FP(n:Nat)(h:n<=1000):CL [.int n]=some (Z<|kY n):=by simp only[CL];rw[Ue Zl];simp[Z,kY,Function.comp_def]
theorem mh(h:sortI xs=kY n)(hx:x∈xs):∃k:Nat,x=k/\k<n:=by have:=(sortI_perm xs).mem_iff.mpr hx;rw[h] at this;obtain⟨k,hk,rfl⟩:=List.mem_map.mp this;exact⟨k,rfl,by simpa using hk⟩
def Gr(i:Nat)(r:ax):D->Res D
|.lst xs=>match xs.getLast? with
  |some d=>.ok d (cN i (.lst xs.dropLast) r)|none=>.no
 |_=>.no
@[simp] theorem Q2k(i:Nat)(r:ax):CV i r=(opt (own r[i]?) r).then λd r=>Gr i r d:=by unfold CV;cases own r[i]? with|none=>rfl|some d=>cases d<;>rfl
@[simp] theorem Dn(i:Nat)(r:ax)(xs:Zm)(d:D):Gr i r (.lst<|xs++[d])=.ok d (cN i (.lst xs) r):=by unfold Gr;simp
@[simp] theorem Q07(i:Nat)(fe:M D)(r:ax):DB i fe r=if isLst (own r[i]?)=true then(fe r).then λx r=>(hO i (Bp x) r).then λ_=>ret .nx else .no:=by unfold DB;split;rw[aq];congr;funext k r;exact lZ _ _;rfl
theorem E8(xs ys:Zm)(h:xs.length+ys.length<=fU):Bp (.lst ys) (.lst xs)=some (.lst<|xs++ys):=Ue h
@[simp] theorem Q2c(neg:Bool)(j:Nat)(x:D)(r:ax):Cq neg j x r=(opt (own r[j]?) r).then λy=>opt (inD neg x y):=by unfold Cq;cases own r[j]?<;>rfl
@[simp] theorem Q03(neg:Bool)(fa:M D)(j:Nat)(r:ax):FU neg fa j r=(fa r).then (Cq neg j):=aq _ _ _
def Mj(r:ax):Res D->Res D|.ok (.lst ds) _=>if noLs ds then .ok (.lst ds) r else .no|_=>.no
@[simp] theorem ux(f:M D)(r:ax):i7 f r=Mj r (f<|r.map eW):=by unfold i7;cases f (r.map eW) with|ok d r=>cases d<;>rfl|exc e r=>rfl|no=>rfl
theorem u6(r r':ax)(ds:Zm)(h:noLs ds=true):Mj r (.ok (.lst ds) r')=.ok (.lst ds) r:=Ue h
@[simp] theorem u7(d:D):eW (.ow d)=.sh d:=rfl
@[simp] theorem D3(d:D):eW (.io d)=.sh d:=rfl
@[simp] theorem u9(d:D):eW (.sh d)=.sh d:=rfl
@[simp] theorem D4:eW .no=.no:=rfl
theorem mQ(h:c r=.ok false r'):fT c b (n+1) r=.ok .nx r':=by unfold fT;rw[aq,h];rfl
theorem q8(h:c r=.ok true r1)(h2:b r1=.ok .nx r2):fT c b (n+1) r=fT c b n r2:=by rw[fT,aq,h];show (Q1 b _) r1=_;rw[aq,h2];rfl
theorem Q1Q(xs:WR)(d:D):lP (T xs) d=match xs with|[]=>some d|i::is=>some (.int<|is.foldl (λa b=>if a<b then b else a) i):=by
 have e:bJ (xs.map .int)=some xs:=by induction xs with|nil=>rfl|cons x xs ih=>simp[bJ,ih]
 show (match bJ (xs.map .int) with|some []=>some d|some (i::is)=>some (.int<|is.foldl (λa b=>if a<b then b else a) i)|none=>none)=_;rw[e];cases xs<;>rfl
def Q2l(i:Nat)(cs:WZ)(f:Str):D->M Fl|.lst ds=>if ds.length<=16777216 then zW (hO i<|yO cs f<|.lst ds) else stuck|_=>stuck
def TQ(fe:M D):D->M D|.lst ds=>Q1 fe λy=>opt (zr ds y)|_=>stuck
@[simp] theorem CQ(fo fe:M D)(r:ax):uv fo fe r=(fo r).then (TQ fe):=by unfold uv;rw[aq];congr
theorem NF(fe:M D)(xs:WR)(k:Int)(r r':ax)(he:fe r=.ok (.int k) r')(hk:k∈xs):TQ fe (Z xs) r=.ok (.int (xs.idxOf k:Nat)) r':=by show Q1 fe (λy=>opt<|zr (xs.map .int) y) r=_;rw[aq,he];unfold zr;rw[dY];simp[hk]
variable{α β:Type}
def Qe:Fl->M Fl->M Fl|.nx,g=>g|k,_=>ret k
theorem Q0I(h:f r=.ok k r1)(h2:Qe k g r1=R):ai f g r=R:=by rw[nG,h];cases k<;>exact h2
theorem GY(h:g r=R):Qe .nx g r=R:=h
theorem GZ:Qe (.rt d) g r=.ok (.rt d) r:=rfl
theorem Xe:mC d r=.ok d r:=rfl
theorem UD:aX r=.ok .nx r:=rfl
theorem zS{a:α}:ret a r=.ok a r:=rfl
theorem Kb(h:i=j):fI (.int i) (.int j)=some (.bl true):=by rw[dw,Ud h]
theorem Bo(h:¬i=j):fI (.int i) (.int j)=some (.bl false):=by rw[dw,T1 h]
theorem qH(h:i<j):ltI (.int i) (.int j)=some (.bl true):=by rw[fS,Ud h]
theorem ur(h:¬i<j):ltI (.int i) (.int j)=some (.bl false):=by rw[fS,T1 h]
theorem TR(h:c r=.ok t r1)(h2:(bif t then a else b) r1=R):iD c a b r=R:=by rw[Q1a,h];cases t<;>exact h2
theorem N7(h:c r=.ok t r1)(h2:(bif t then a else b) r1=R):Rh c a b r=R:=by rw[N2,h];cases t<;>exact h2
theorem Ja{a b:M α}{R:Res α}(ht:t=true)(h:a r=R):(bif t then a else b) r=R:=by subst ht;exact h
theorem I0{a b:M α}{R:Res α}(ht:t=false)(h:b r=R):(bif t then a else b) r=R:=by subst ht;exact h
theorem Qf{i:Nat}{f:M D}{r r1 r2:ax}{d:D}(h:f r=.ok d r1)(hf:free r1[i]?=true)(h2:r1.set i (.sh d)=r2):aM i f r=.ok .nx r2:=by rw[GX,h,ag,Ue hf,h2]
theorem Q1m{i:Nat}{f:M D}{r r1 r2:ax}{d:D}(h:f r=.ok d r1)(hf:free r1[i]?=true)(h2:r1.set i (.ow d)=r2):fq i f r=.ok .nx r2:=by rw[GV,h,ag,Ue hf,h2]
theorem P0(h:f r=.ok d r1):bV f r=.ok (.rt d) r1:=by rw[GW,h];rfl
theorem Q1W(h:r[i]?=some (.sh d)):aa i r=.ok d r:=by rw[Q1H,h];rfl
theorem Um(h:a r=.ok x r1)(hg:g x=some z):m1 g a r=.ok z r1:=by rw[KP,h,ag,hg];rfl
theorem Uo(h:a r=.ok x r1)(h2:b r1=.ok y r2)(hg:g x y=some z):m2 g a b r=.ok z r2:=by rw[Un,h,ag,h2,ag,hg];rfl
theorem Q0r(h:mL as r=.ok xs r1)(hg:g xs=some z):mF g as r=.ok z r1:=by rw[Ur,h,ag,hg];rfl
theorem zE:mL [] r=.ok [] r:=rfl
theorem Ut(h:f r=.ok x r1)(h2:mL fs r1=.ok xs r2):mL (f::fs) r=.ok (x::xs) r2:=by rw[FW,h,ag,h2];rfl
theorem Q0i(h:mL fs r=.ok xs r1)(hl:(decide<|xs.length<=16777216)=true):bU fs r=.ok (.tup xs) r1:=by rw[F1,h,ag,Hm _<|z7 hl];rfl
theorem NZ(h:mL fs r=.ok xs r1)(hl:(decide<|xs.length<=16777216)=true):d6 fs r=.ok (.lst xs) r1:=by rw[FX,h,ag,FQ _<|z7 hl];rfl
theorem Vq(h:a r=.ok (.bl b) r1):tB a r=.ok b r1:=by rw[Vp,h];rfl
theorem Ol(h:a r=.ok b r1):z8 a r=.ok (!b) r1:=by rw[Hd,h];rfl
theorem Mx(h:a r=.ok x r1)(h2:(bif x then b else ret false) r1=.ok t r2):mZ a b r=.ok t r2:=by rw[Q2Y,h];cases x<;>exact h2
theorem UP(h:a r=.ok x r1)(h2:(bif x then ret true else b) r1=.ok t r2):Hf a b r=.ok t r2:=by rw[Qv,h];cases x<;>exact h2
theorem EM(h:a r=.ok (.bl x) r1)(h2:(bif x then b else ret<|.bl false) r1=R):qI a b r=R:=by rw[CM,h];cases x<;>exact h2
theorem PA(h:a r=.ok (.bl x) r1)(h2:(bif x then ret (.bl true) else b) r1=R):CU a b r=R:=by rw[FY,h];cases x<;>exact h2
theorem Vg(e:f r=.ok d r1)(e1:kH lo r1=.ok l r2)(e2:kH hi r2=.ok h r3)(hg:g d l h=some z):vh g f lo hi r=.ok z r3:=by rw[Q2R,e,ag,e1,ag,e2,ag,hg];rfl
theorem UU(h:f r=.ok (.int i) r1):kH (some f) r=.ok (some i) r1:=by rw[Q2G,h];rfl
theorem ET(h:bj as r=.ok vs r1)(ha:gL vs r1=some ds)(hn:decide (bP vs).Nodup=true)(hf:f ds=.ok d ios)(hp:putAll (bP vs) ios r1=r2):aw f as r=.ok d r2:=by rw[CN,h,ag,rS,ha,br,cO,ag,Ue<|z7 hn,hf,nW,hp]
theorem neS:bj [] r=.ok [] r:=rfl
theorem sX(h:f r=.ok d r1)(h2:bj as r1=.ok vs r2):bj (.val f::as) r=.ok (.val d::vs) r2:=by show Q1 _ _ r=_;rw[aq,h,ag,aq,h2];rfl
theorem vt(h:(own r[j]?).isSome=true)(h2:bj as r=.ok vs r2):bj (.io j::as) r=.ok (.io j::vs) r2:=by show (if _ then _ else _)=_;rw[Ue h,aq,h2];rfl
theorem NP(h0:(own r[j]?).isSome=true)(h:f r=.ok i r1)(h1:own r1[j]?=some d)(h2:ah d i=some z):hJ j f r=.ok z r1:=by rw[FV,Ue h0,h,ag,FE,h1,br,cO,ag,h2];rfl
theorem SW(hl:decide (ds.length=fl.length)=true)(h:b (bG n fl ds)=.ok (.rt d) r)(hi:bD fl r=some ios):defn n fl b ds=.ok d ios:=by rw[du _ _ _ _<|z7 hl,h];show (match bD fl r with|some ios=>FR.ok d ios|none=>FR.no)=_;rw[hi]
theorem Q26(ho:fo r=.ok o r1)(hi:iB c m o=true)(h:bj as r1=.ok vs r2)(ha:gL vs r2=some ds)(hn:decide (bP vs).Nodup=true)(hf:f (o::ds)=.ok d ios)(hp:putAll (bP vs) ios r2=r3):qM c m f fo as r=.ok d r3:=by rw[CS,ho,ag,Ue hi,h,ag,rS,EP,ha,Option.map_some,br,cO,ag,Cr,Ue<|z7 hn,hf,nW,hp]
theorem Nb(h:it r=.ok ds r1)(h2:loop g b ds r1=R):ip it g b r=R:=by rw[Q01,h];exact h2
theorem Q1i(h:mL fl r=.ok xs r1)(h2:qa xs=some ds):bF fl r=.ok ds r1:=by rw[Q1d,h,ag,h2];rfl
theorem Qd(h:f r=.ok d r1)(h2:bR d=some ds):cj f r=.ok ds r1:=by rw[F0,h,ag,h2];rfl
theorem Q0J(h:mL fl r=.ok xs r1)(h2:pP xs=some ds):uy fl r=.ok ds r1:=by rw[F3,h,ag,h2];rfl
theorem E4(h:mL fl r=.ok xs r1)(h2:ke xs=some ds):qK fl r=.ok ds r1:=by rw[CP,h,ag,h2];rfl
theorem P5(h:f r=.ok d r1)(h2:(bR d).map List.reverse=some ds):CW f r=.ok ds r1:=by rw[FZ,h,ag,h2];rfl
theorem Mz(h0:isLst (own r[i]?)=true)(h:f r=.ok x r1)(h1:own r1[i]?=some d)(h2:dJ x d=some d')(h3:cN i d' r1=r2):jT i f r=.ok .nx r2:=by rw[tB0,Ue h0,h,ag,kI,h1,br,cO,ag,h2,br,cO,ag,h3];rfl
theorem Qg(hv:fv r=.ok v r1)(h0:isLst (own r1[i]?)=true)(hk:fk r1=.ok k r3)(h1:own r3[i]?=some d)(h2:setAt k v d=some d')(h3:cN i d' r3=r2):i8 i fk fv r=.ok .nx r2:=by rw[Q0Q,hv,ag,Ue h0,hk,ag,kI,h1,br,cO,ag,h2,br,cO,ag,h3];rfl
theorem S1(h:KQ i r=.ok () r1)(h2:f r1=R):wK i f r=R:=by rw[P8,h];exact h2
theorem U9(h:anyOf r[i]?=some d):Ey i r=.ok d r:=by rw[N3,h];rfl
theorem Q1t(h:f r=.ok d r1)(h2:CE d=some ds):uw f r=.ok ds r1:=by show Q1 _ _ r=_;rw[aq,h,ag,h2];rfl
theorem Gv(hv:fv r=.ok v r1)(h0:(own r1[i]?).isSome=true)(hk:fk r1=.ok k r3)(h1:own r3[i]?=some d)(h2:putD k v d=some d')(h3:cN i d' r3=r2):yL i fk fv r=.ok .nx r2:=by show Q1 _ _ r=_;rw[aq,hv,ag,Ue h0,aq,hk,ag,lZ,kI,h1,br,cO,ag,h2,br,cO,ag,h3];rfl
theorem R9(h:a r=.ok x r1)(h2:b r1=.ok y r2)(hg:g x y=some (.bl k))(h3:(bif k then m1 (g2 y) c else ret<|.bl false) r2=R):FT g g2 a b c r=R:=by rw[N1,h,ag,h2,ag,hg];cases k;exact h3;rw[<-h3];exact(KP ..).symm
theorem F5(h:bj as r=.ok vs r1)(hv:ds.map AV.val=vs)(hf:f (.ins c [] []::ds)=.ok .aK [d]):qL c f as r=.ok d r1:=by subst hv;rw[CR,h,ag];exact Q1V c f ds d r1 hf
theorem DX(h:ds.map AV.val=vs):(d::ds).map AV.val=.val d::vs:=by rw[WA,h]
theorem Hs:([]:Zm).map AV.val=[]:=rfl
theorem Fc(e:o=some s)(h:free (some s)=true):free o=true:=by rw[e];exact h
end VP
end
section
set_option maxRecDepth 100000
set_option linter.all false
namespace LW
open PySem VP
def names:WZ:=(["given","even","turn","cut","drop","wide","spread","shape","shift","one","both","where","fold","run","pick","join","minus","half","none","add","less","times","least","most","below","alike","line","number","numbers","place","sides","many"]:WZ)
def nm(i:Nat):Str:=names.getD i ""
abbrev cI(i:Int):M D:=mC (.int i)
abbrev cS(i:Nat):M D:=mC (.str<|nm i)
abbrev cT:M D:=mC (.bl true)
abbrev cF:M D:=mC (.bl false)
def qh:WZ:=[(nm 27),(nm 28),(nm 26)]
def mn:List (Str×D):=[((nm 9),.tup [.str<|nm 16,.str<|nm 17,.str<|nm 18]),((nm 10),.tup [.str<|nm 19,.str<|nm 20,.str<|nm 21,.str<|nm 22,.str<|nm 23,.str<|nm 24,.str<|nm 25]),((nm 12),.tup [.str<|nm 19,.str<|nm 21,.str<|nm 22,.str<|nm 23])]
def yX:WZ:=[]
def mq:List (Str×D):=[((nm 0),.tup [.str<|nm 27]),((nm 1),.tup [.str<|nm 28,.str<|nm 27]),((nm 2),.tup [.str<|nm 26,.str<|nm 28]),((nm 3),.tup [.str<|nm 26,.str<|nm 27,.str<|nm 27,.str<|nm 27,.str<|nm 27]),((nm 4),.tup [.str<|nm 26,.str<|nm 27,.str<|nm 27]),((nm 5),.tup [.str<|nm 26,.str<|nm 27]),((nm 6),.tup [.str<|nm 26,.str<|nm 28]),((nm 7),.tup [.str<|nm 26,.str<|nm 28]),((nm 8),.tup [.str<|nm 26,.str<|nm 27,.str<|nm 27,.str<|nm 27]),((nm 9),.tup [.str<|nm 9,.str<|nm 26]),((nm 10),.tup [.str<|nm 10,.str<|nm 26,.str<|nm 26]),((nm 11),.tup [.str<|nm 26,.str<|nm 26,.str<|nm 26]),((nm 12),.tup [.str<|nm 12,.str<|nm 26,.str<|nm 27]),((nm 13),.tup [.str<|nm 12,.str<|nm 26,.str<|nm 27]),((nm 14),.tup [.str<|nm 26,.str<|nm 27,.str<|nm 26]),((nm 15),.tup [.str<|nm 26,.str<|nm 26,.str<|nm 27])]
def kh:WZ:=["Joined"]
def ki:WZ:=["Where"]
def jh:WZ:=["Joined"]
def kj:WZ:=["Both","Fold","One","Through"]
def gB:WZ:=["One","Within"]
def xW:WZ:=["Weaver"]
def gR:WZ:=["Both","Where"]
def oi:WZ:=["Plan"]
def d8:WZ:=["Fill","Fold","Load","Pick","Read","Through"]
def km:WZ:=["Plan"]
def xX:WZ:=["Weaver"]
def qv:WZ:=["Even","Within"]
def rE:WZ:=["Joined","Within"]
def qw:WZ:=["Pick"]
def oj:WZ:=["Weaver"]
def fJ:WZ:=["Both","Where"]
def gC:WZ:=["Plan"]
def ng:WZ:=["Fold","Pick","Through"]
def gE:WZ:=["Fill","Fold","Load","Pick","Through","Weaver"]
def nh:WZ:=["Fold","Joined","Within"]
def qx:WZ:=["Pick"]
def iz:WZ:=["Pick"]
def uf:WZ:=["Read"]
def ou:WZ:=["Read"]
def ug:WZ:=["Load"]
def gS:WZ:=["Fill","Fold","Through"]
noncomputable def fN:Uk:=[("Both",true),("Even",false),("Joined",false),("One",false),("Read",false),("Where",false),("Within",false)]
noncomputable def fO:Uk:=[("Both",false),("Even",true),("Joined",false),("One",false),("Read",false),("Where",false),("Within",false)]
noncomputable def oM:Uk:=[("Fill",true),("Fold",false),("Load",false),("Pick",false),("Through",false)]
noncomputable def oN:Uk:=[("Fill",false),("Fold",true),("Load",false),("Pick",false),("Through",false)]
noncomputable def cJ:Uk:=[("Both",false),("Even",false),("Joined",true),("One",false),("Read",false),("Where",false),("Within",false)]
noncomputable def oO:Uk:=[("Fill",false),("Fold",false),("Load",true),("Pick",false),("Through",false)]
noncomputable def nu:Uk:=[("Both",false),("Even",false),("Joined",false),("One",true),("Read",false),("Where",false),("Within",false)]
noncomputable def oP:Uk:=[("Fill",false),("Fold",false),("Load",false),("Pick",true),("Through",false)]
noncomputable def bE:Uk:=[("Both",false),("Even",false),("Joined",false),("One",false),("Read",true),("Where",false),("Within",false)]
noncomputable def iZ:Uk:=[("Fill",false),("Fold",false),("Load",false),("Pick",false),("Through",true)]
noncomputable def jl:Uk:=[("Both",false),("Even",false),("Joined",false),("One",false),("Read",false),("Where",true),("Within",false)]
noncomputable def dZ:Uk:=[("Both",false),("Even",false),("Joined",false),("One",false),("Read",false),("Where",false),("Within",true)]
noncomputable def bg:Uk:=[("Both",false),("Even",false),("Joined",false),("One",true),("Read",false),("Where",false),("Within",true)]
def top(i:Nat):PySem.Stmt:=PySem.Challenge.pw_loomarrays_k18_trees_reckon_their_lines.main.body.getD i (.Pass ⟨0,0,0,0⟩)
def L:VS.EI where
 b:=["all","any","dict","enumerate","int","isinstance","len","list","max","range","reversed","sorted","sum","tuple","zip"]
 n:=[("LONGEST_SIDE",.int 64),("MOST_CELLS",.int 4096),("MOST_LINES",.int 40),("MOST_SIDES",.int 4),("REST",.int 1000003)]
 t:=[("DEEDS",mn,qh),("FORMS",mq,yX)]
 d:=([("_law_cells",top 85,["_law_sides"]),
  ("_law_taken",top 84,["_law_row","_law_many"]),
  ("_law_drawn",top 99,["_law_row","_law_sides","_law_index_here"]),
  ("_law_index",top 86,["_law_sides","_law_place"]),
  ("_law_along",top 104,["_law_part","_law_at"]),
  ("_law_both",top 89,["_law_deed","_law_one_here","_law_other"]),
  ("_law_one",top 88,["_law_deed","_law_number"]),
  ("_law_worth",top 105,["_law_node","_law_at","_law_book"]),
  ("_law_looked",top 106,["_law_loop","_law_program_here","_law_sides","_law_made","_law_book"]),
  ("_law_changed",top 93,["_law_sides","_law_side","_law_size"]),
  ("_law_folded",top 92,["_law_deed","_law_numbers"]),
  ("_law_look",top 90,["_law_sides","_law_cells_here","_law_at"]),
  ("_law_see",top 91,["_law_one_here","_law_at"]),
  ("_law_under",top 94,["_law_line","_law_own","_law_at"]),
  ("_law_cell",top 102,["_law_line","_law_own","_law_at"]),
  ("_law_reads",top 100,["_law_line"]),
  ("_law_wanted",top 101,["_law_program_here"]),
  ("_law_plain",top 103,["_law_program_here","_law_sides","_law_cells_here"]),
  ("_law_met",top 87,["_law_one_here","_law_other"]),
  ("_law_more",top 97,["_law_row","_law_a","_law_sides","_law_way","_law_index_here"]),
  ("_law_sided",top 96,["_law_row","_law_a","_law_own","_law_way"]),
  ("_law_view",top 95,["_law_row","_law_a","_law_own","_law_way"]),
  ("_law_program",top 98,["_law_row"]),
  ("spreads",top 10,["program","sides","number","at"])]:List VS.vo) ++
  ([("is_kept",top 9,["program","sides","at","naming"]),
  ("named_by",top 3,["line"]),
  ("naming_lines",top 8,["program","wanted","at"]),
  ("wanted_lines",top 6,["program"]),
  ("kept_lines",top 7,["program","sides"]),
  ("cells_in",top 22,["sides"]),
  ("lengths_of",top 82,["loops","row_of"]),
  ("reading_by",top 71,["way","strides","many"]),
  ("strides_of",top 23,["sides"]),
  ("part_standing",top 64,["number"]),
  ("part_moved",top 67,["part","begin","step"]),
  ("way_moved",top 66,["way","side","begin","step"]),
  ("way_spread",top 70,["way","own"]),
  ("way_dropped",top 68,["way","side","place"]),
  ("way_turned",top 65,["way","order"]),
  ("way_widened",top 69,["way","side"]),
  ("straight_way",top 63,["many"]),
  ("loop_of",top 75,["program","sides","kept","at"]),
  ("lines_read_in",top 77,["tree"]),
  ("lines_read_by",top 78,["loop"]),
  ("last_readings",top 79,["loops"]),
  ("lowest_beside",top 81,["rows"]),
  ("rows_of",top 80,["loops"]),
  ("deed_is_known",top 4,["line"])]:List VS.vo) ++
  ([("is_rest",top 13,["number"]),
  ("number_is_cell",top 34,["line"]),
  ("places_are_there",top 33,["line","lines_ahead","tables"]),
  ("sides_can_be",top 21,["sides"]),
  ("has_side",top 37,["sides","side"]),
  ("without",top 26,["row","side"]),
  ("folded_sides",top 43,["deed","sides","side"]),
  ("replaced",top 28,["row","side","number"]),
  ("joined_sides",top 45,["one","other","side"]),
  ("picked_sides",top 44,["sides","side","places"]),
  ("with_ones_ahead",top 25,["sides","many"]),
  ("sides_met",top 24,["one","other"]),
  ("has_place",top 38,["sides","side","place"]),
  ("cut_sides",top 40,["sides","side","begin","step","many"]),
  ("dropped_sides",top 41,["sides","side","place"]),
  ("put_in",top 27,["row","side","number"]),
  ("turned_sides",top 39,["sides","order"]),
  ("sides_viewed",top 36,["line","sides"]),
  ("three_met",top 42,["one","other","third"]),
  ("sides_told",top 35,["line","ahead","given"]),
  ("sides_looked_over",top 32,["at","line","ahead","given"]),
  ("sides_of",top 31,["program","given"]),
  ("plan_of",top 74,["program","given"]),
  ("law",top 107,["_law_script"])]:List VS.vo)
 m:=([("Plan","__init__","Plan.__init__",false,L2.inClass (top 73) 0,["self","loops","row_of","lengths"]),
  ("Loop","__init__","Loop.__init__",true,L2.inClass (top 47) 0,["self","line","sides"]),
  ("Fill","__init__","Fill.__init__",false,L2.inClass (top 49) 0,["self","line","sides","tree"]),
  ("Fold","__init__","Fold.__init__",false,L2.inClass (top 50) 0,["self","line","sides","side","size","deed","tree"]),
  ("Load","__init__","Load.__init__",false,L2.inClass (top 48) 0,["self","line","sides","table"]),
  ("Pick","__init__","Pick.__init__",false,L2.inClass (top 52) 0,["self","line","sides","side","source","places","source_sides"]),
  ("Through","__init__","Through.__init__",false,L2.inClass (top 51) 0,["self","line","sides","side","deed","tree"]),
  ("Weaver","__init__","Weaver.__init__",false,L2.inClass (top 76) 0,["self","program","sides","kept","many"]),
  ("Both","__init__","Both.__init__",false,L2.inClass (top 58) 0,["self","deed","left","right"]),
  ("Even","__init__","Even.__init__",false,L2.inClass (top 55) 0,["self","number"]),
  ("One","__init__","One.__init__",false,L2.inClass (top 57) 0,["self","deed","inner"]),
  ("Read","__init__","Read.__init__",false,L2.inClass (top 56) 0,["self","line","start","steps"]),
  ("Weaver","row_read","Weaver.row_read",false,L2.inClass (top 76) 2,["self","at","way","sides"]),
  ("Joined","__init__","Joined.__init__",false,L2.inClass (top 61) 0,["self","part","size","ahead","behind"]),
  ("Within","__init__","Within.__init__",false,L2.inClass (top 60) 0,["self","part","size","inner","number"]),
  ("Where","__init__","Where.__init__",false,L2.inClass (top 59) 0,["self","asked","left","right"]),
  ("Weaver","tree_named","Weaver.tree_named",false,L2.inClass (top 76) 1,["self","at","way"]),
  ("Weaver","tree_made","Weaver.tree_made",false,L2.inClass (top 76) 3,["self","at","way"]),
  ("Weaver","tree_viewed","Weaver.tree_viewed",false,L2.inClass (top 76) 4,["self","line","way"]),
  ("Weaver","tree_spread","Weaver.tree_spread",false,L2.inClass (top 76) 5,["self","at","way"]),
  ("Weaver","tree_shifted","Weaver.tree_shifted",false,L2.inClass (top 76) 6,["self","at","side","by","number","way"]),
  ("Weaver","tree_joined","Weaver.tree_joined",false,L2.inClass (top 76) 7,["self","ahead","behind","side","way"])]:List VS.Au)
 k:=["Plan","Loop","Fill","Fold","Load","Pick","Through","Weaver","Both","Even","One","Read","Joined","Within","Where"]
 f:=([("ahead",kh),
  ("asked",ki),
  ("behind",jh),
  ("deed",kj),
  ("inner",gB),
  ("kept",xW),
  ("left",gR),
  ("lengths",oi),
  ("line",d8),
  ("loops",km),
  ("many",xX),
  ("number",qv),
  ("part",rE),
  ("places",qw),
  ("program",oj),
  ("right",fJ),
  ("row_of",gC),
  ("side",ng),
  ("sides",gE),
  ("size",nh),
  ("source",qx),
  ("source_sides",iz),
  ("start",uf),
  ("steps",ou)]:List (Str×List Str)) ++
  ([("table",ug),
  ("tree",gS)]:List (Str×List Str))
 a:=["Both","Even","Joined","One","Read","Where","Within","Fill","Fold","Load","Pick","Through"]
 i:=[("Both",fN),("Even",fO),("Fill",oM),("Fold",oN),("Joined",cJ),("Load",oO),("One",nu),("Pick",oP),("Read",bE),("Through",iZ),("Where",jl),("Within",dZ)]
 j:=[("One","Within",bg)]
def tc(s:PySem.Stmt)(N:WZ)(ds:List VS.ay:=[])(ow:WZ:=[])(ms:List (Str×VS.ay):=[])(ks:List VS.ay:=[])(fz:S2:=[])(dc:WZ:=[]):VS.Tc:=⟨N,L2.au s,ow,dc,fz,ds,ms,ks,L,VS.O3 nm names VS.nums,s⟩
def AR:VS.Tc:=tc (top 85) ["_law_sides","_law_found","_law_size"]
@[reducible] def kD:M Fl:=by refine' (?k:VS.vk AR 0) _ rfl;exactλf _=>f
def Ic:M Fl:=by refine' (?k:VS.aF AR) _ rfl;exactλf _=>f
def mH:Fn:=defn 3 [false] Ic
def ph:VS.ay:=("_law_cells",[false],mH)
def JD:VS.Tc:=tc (top 84) ["_law_row","_law_many","_law_at"] [] ["_law_row"]
def Ip:M Fl:=by refine' (?k:VS.aF JD) _ rfl;exactλf _=>f
def bC:Fn:=defn 3 [true,false] Ip
def pj:VS.ay:=("_law_taken",[true,false],bC)
def xv:VS.Tc:=tc (top 99) ["_law_row","_law_sides","_law_index_here","_law_found","_law_k","_law_seed","_law_number","_law_cells_here","_law_p"] [pj,ph] ["_law_found","_law_cells_here"] [] [] [(621,7),(622,7),(623,3)]
@[reducible] def fj:M Fl:=by refine' (?k:VS.vk xv 1) _ rfl;exactλf _=>f
@[reducible] def j4:M D:=(m2 hV (m2 qy (aa 9)<|cI 7)<|cI 4)
@[reducible] def dA:M Fl:=by refine' (?k:VS.vk xv 0) _ rfl;exactλf _=>f
def Ig:M Fl:=by refine' (?k:VS.aF xv) _ rfl;exactλf _=>f
def tZ:Fn:=defn 9 [true,false,false] Ig
def Q1S:VS.ay:=("_law_drawn",[true,false,false],tZ)
def AU:VS.Tc:=tc (top 86) ["_law_sides","_law_place","_law_found","_law_k","_law_behind"] [ph]
@[reducible] def gZ:M Fl:=by refine' (?k:VS.vk AU 0) _ rfl;exactλf _=>f
def Ii:M Fl:=by refine' (?k:VS.aF AU) _ rfl;exactλf _=>f
def xK:Fn:=defn 5 [false,false] Ii
def Dy:VS.ay:=("_law_index",[false,false],xK)
def Ju:VS.Tc:=tc (top 104) ["_law_part","_law_at"]
def AH:M Fl:=by refine' (?k:VS.aF Ju) _ rfl;exactλf _=>f
def tY:Fn:=defn 2 [false,false] AH
def K9:VS.ay:=("_law_along",[false,false],tY)
def Jv:VS.Tc:=tc (top 89) ["_law_deed","_law_one_here","_law_other"]
def Ib:M Fl:=by refine' (?k:VS.aF Jv) _ rfl;exactλf _=>f
def BG:Fn:=defn 3 [false,false,false] Ib
def yC:VS.ay:=("_law_both",[false,false,false],BG)
def Jz:VS.Tc:=tc (top 88) ["_law_deed","_law_number"]
def Ik:M Fl:=by refine' (?k:VS.aF Jz) _ rfl;exactλf _=>f
def BJ:Fn:=defn 2 [false,false] Ik
def Dz:VS.ay:=("_law_one",[false,false],BJ)
def JE(w:Nat->Fn):VS.Tc:=tc (top 105) ["_law_node","_law_at","_law_book","_law_place","_law_row"] [K9,("_law_worth",[false,false,true],(w 0)),Dz,yC] ["_law_book"]
@[reducible] def j5:M D:=(m2 uB (aa 5)<|aa 6)
def eE(w:Nat->Fn):M Fl:=by refine' (?k:VS.aF (JE w)) _ rfl;exactλf _=>f
def pS:Nat->Nat->Fn|0=>λ_ _=>.no|n+1=>λi=>match i with|0=>defn 5 [false,false,true] (eE<|pS n)|_=>λ_=>.no
def Kg:Fn:=pS 64 0
def Lv:VS.ay:=("_law_worth",[false,false,true],Kg)
def AX:VS.Tc:=tc (top 106) ["_law_loop","_law_program_here","_law_sides","_law_made","_law_book","_law_line","_law_place"] [ph,Lv,Dy]
@[reducible] def eh:M Fl:=by refine' (?k:VS.vk AX 0) _ rfl;exactλf _=>f
def xo:M Fl:=by refine' (?k:VS.aF AX) _ rfl;exactλf _=>f
def nZ:Fn:=defn 7 [false,false,false,false,true] xo
def Lf:VS.ay:=("_law_looked",[false,false,false,false,true],nZ)
def Jx:VS.Tc:=tc (top 93) ["_law_sides","_law_side","_law_size"]
def Ie:M Fl:=by refine' (?k:VS.aF Jx) _ rfl;exactλf _=>f
def qt:Fn:=defn 3 [false,false,false] Ie
def uP:VS.ay:=("_law_changed",[false,false,false],qt)
def AS:VS.Tc:=tc (top 92) ["_law_deed","_law_numbers","_law_found","_law_k"] [yC]
@[reducible] def cy:M Fl:=by refine' (?k:VS.vk AS 0) _ rfl;exactλf _=>f
def Ih:M Fl:=by refine' (?k:VS.aF AS) _ rfl;exactλf _=>f
def BH:Fn:=defn 4 [false,false] Ih
def Lb:VS.ay:=("_law_folded",[false,false],BH)
def AW:VS.Tc:=tc (top 90) ["_law_sides","_law_cells_here","_law_at","_law_place","_law_k","_law_where"]
@[reducible] def eJ:M Fl:=by refine' (?k:VS.vk AW 0) _ rfl;exactλf _=>f
def Ij:M Fl:=by refine' (?k:VS.aF AW) _ rfl;exactλf _=>f
def BI:Fn:=defn 6 [false,false,false] Ij
def Ld:VS.ay:=("_law_look",[false,false,false],BI)
def JB:VS.Tc:=tc (top 91) ["_law_one_here","_law_at"] [Ld]
def Im:M Fl:=by refine' (?k:VS.aF JB) _ rfl;exactλf _=>f
def n5:Fn:=defn 2 [false,false] Im
def Lo:VS.ay:=("_law_see",[false,false],n5)
def Ss:VS.Tc:=tc (top 94) ["_law_line","_law_own","_law_at"] [uP]
def eZ:=m2 ah (aa 2) (uv (m1 dG<|m2 ah (aa 0)<|cI 2)<|aa 3)
def qi:=ai (iD (tB<|m2 fI (m2 ah (aa 0)<|cI 0)<|cS 2) (ai (bV<|m1 jb<|az 1 (bF [(m1 cu<|aa 1)]) (aj 3) (VP.ret true) eZ) aX) aX) (ai (iD (tB<|m2 fI (m2 ah (aa 0)<|cI 0)<|cS 5) (ai (bV<|m2 aU (vh fH (aa 2) none<|some<|m2 ah (aa 0)<|cI 2)<|vh fH (aa 2) (some<|m2 aU (m2 ah (aa 0)<|cI 2)<|cI 1) none) aX) aX)<|ai (iD (tB<|m2 fI (m2 ah (aa 0)<|cI 0)<|cS 6) (ai (bV<|vh fH (aa 2) (some<|m2 ja (m1 cu<|aa 2)<|m1 cu<|aa 1) none) aX) aX)<|ai (iD (tB<|m2 fI (m2 ah (aa 0)<|cI 0)<|cS 4) (ai (bV<|m2 aU (m2 aU (vh fH (aa 2) none<|some<|m2 ah (aa 0)<|cI 2)<|bU [(m2 ah (aa 0)<|cI 3)])<|vh fH (aa 2) (some<|m2 ah (aa 0)<|cI 2) none) aX) aX)<|ai (bV<|aw qt [.val<|aa 2,.val<|m2 ah (aa 0)<|cI 2,.val<|m2 aU (m2 ah (aa 0)<|cI 3)<|m2 uB (m2 ah (aa 2)<|m2 ah (aa 0)<|cI 2)<|m2 ah (aa 0)<|cI 4]) aX)
def iw:Fn:=defn 3 [false,false,false] qi
def Lr:VS.ay:=("_law_under",[false,false,false],iw)
def Jw:VS.Tc:=tc (top 102) ["_law_line","_law_own","_law_at","_law_kind","_law_side","_law_last","_law_where","_law_size"] [Dz,Lo,yC,uP,Lb,Lr]
@[reducible] def iO:M D:=(aw n5 [.val<|m2 ah (aa 1)<|cI 0,.val<|m2 aU (m2 aU (vh fH (aa 2) none<|some<|aa 4)<|bU [(aa 8)])<|vh fH (aa 2) (some<|aa 4) none])
def fF:M Fl:=by refine' (?k:VS.aF Jw) _ rfl;exactλf _=>f
def bB:Fn:=defn 8 [false,false,false] fF
def La:VS.ay:=("_law_cell",[false,false,false],bB)
def JA:VS.Tc:=tc (top 100) ["_law_line"]
def R5:M Fl:=by refine' (?k:VS.aF JA) _ rfl;exactλf _=>f
def mJ:Fn:=defn 1 [false] R5
def Lm:VS.ay:=("_law_reads",[false],mJ)
def Q2N:VS.Tc:=tc (top 101) ["_law_program_here","_law_due","_law_ahead","_law_place"] [] ["_law_due","_law_ahead"] [] [] [(646,1)]
def ew:=ai (iD (tB<|FU true (aa 3) 1) (ai (jT 1<|aa 3)<|ai (jT 2<|aa 3) aX) aX) aX
def cA:=tB (qJ (QZ true) 2<|d6 [])
def eC:=ai (ip (cj<|aw mJ [.val<|m2 ah (aa 0)<|CV 2]) (aj 3) ew) aX
def Iq:=ai (fq 1<|d6 [(m2 ja (m1 cu<|aa 0)<|cI 1)]) (ai (fq 2<|d6 [(m2 ja (m1 cu<|aa 0)<|cI 1)])<|ai (pq cA eC)<|ai (wK 1<|bV<|aa 1) aX)
def xN:Fn:=defn 4 [false] Iq
def Lu:VS.ay:=("_law_wanted",[false],xN)
def Sq:VS.Tc:=tc (top 103) ["_law_program_here","_law_sides","_law_cells_here","_law_wanted_here","_law_found","_law_k","_law_line","_law_own","_law_made"] [Lu,Lm,ph,La,Dy] ["_law_found"] [] [] [(696,4)]
def bK:=bU [(m2 ah (aa 1)<|aa 9),(hJ 4<|aa 9)]
def eY:=aw bB [.val<|aa 6,.val<|aa 7,.val<|aw xK [.val<|m2 ah (aa 1)<|aa 5,.val<|aa 9]]
def aH:=ai (aM 6<|m2 ah (aa 0)<|aa 5) (ai (aM 7<|az 1 (cj<|aw mJ [.val<|aa 6]) (aj 9) (VP.ret true) bK)<|ai (aM 8<|mC .aK)<|ai (iD (mZ (tB<|m2 (inD false) (aa 5)<|aa 3)<|tB<|m2 fI (m2 ah (aa 6)<|cI 0)<|cS 0) (ai (aM 8<|m1 dG<|m2 ah (aa 2)<|m2 ah (aa 6)<|cI 1) aX)<|ai (iD (mZ (tB<|m2 (inD false) (aa 5)<|aa 3)<|tB<|m2 fI (m2 ah (aa 6)<|cI 0)<|cS 1) (ai (aM 8<|m2 mulL (d6 [(m2 ah (aa 6)<|cI 2)])<|aw mH [.val<|m2 ah (aa 1)<|aa 5]) aX)<|ai (iD (mZ (tB<|m2 (inD false) (aa 5)<|aa 3)<|tB<|m2 fI (m2 ah (aa 6)<|cI 0)<|cS 7) (ai (aM 8<|m1 dG<|m2 ah (m2 ah (aa 7)<|cI 0)<|cI 1) aX)<|ai (iD (tB<|m2 (inD false) (aa 5)<|aa 3) (ai (aM 8<|az 1 (bF [(aw mH [.val<|m2 ah (aa 1)<|aa 5])]) (aj 9) (VP.ret true) eY)<|ai (iD (tB<|m2 (inD false) (mC .aK)<|aa 8) (ai (bV<|mC .aK) aX) aX) aX) aX) aX) aX) aX)<|ai (jT 4<|aa 8) aX)
def AJ:=ai (aM 3<|aw xN [.val<|aa 0]) (ai (fq 4<|d6 [])<|ai (ip (bF [(m1 cu<|aa 0)]) (aj 5) aH)<|ai (wK 4<|bV<|aa 4) aX)
def ua:Fn:=defn 9 [false,false,false] AJ
def Lj:VS.ay:=("_law_plain",[false,false,false],ua)
def So:VS.Tc:=tc (top 87) ["_law_one_here","_law_other","_law_many","_law_left","_law_right","_law_found","_law_k"]
def g0:=ai (iD (mZ (tB<|m2 gI (m2 ah (aa 3)<|aa 6)<|m2 ah (aa 4)<|aa 6)<|mZ (tB<|m2 gI (m2 ah (aa 3)<|aa 6)<|cI 1)<|tB<|m2 gI (m2 ah (aa 4)<|aa 6)<|cI 1) (ai (bV<|mC .aK) aX) aX) (ai (aM 5<|m2 aU (aa 5)<|bU [(m2 ah (d6 [(m2 ah (aa 3)<|aa 6),(m2 ah (aa 4)<|aa 6)])<|mF intD [(m2 fI (m2 ah (aa 3)<|aa 6)<|cI 1)])]) aX)
def AI:=ai (aM 2<|mF maxD [(m1 cu<|aa 0),(m1 cu<|aa 1)]) (ai (aM 3<|m2 aU (m2 v9 (bU [(cI 1)])<|m2 ja (aa 2)<|m1 cu<|aa 0)<|aa 0)<|ai (aM 4<|m2 aU (m2 v9 (bU [(cI 1)])<|m2 ja (aa 2)<|m1 cu<|aa 1)<|aa 1)<|ai (aM 5<|bU [])<|ai (ip (bF [(aa 2)]) (aj 6) g0)<|ai (bV<|aa 5) aX)
def mI:Fn:=defn 7 [false,false] AI
def Lg:VS.ay:=("_law_met",[false,false],mI)
def Jy:VS.Tc:=tc (top 97) ["_law_row","_law_a","_law_sides","_law_way","_law_index_here","_law_own","_law_b","_law_deed","_law_c","_law_found","_law_side"] [pj,Lg,uP] ["_law_sides"]
@[reducible] def mE:M D:=(m2 aU (cI 1)<|aw bC [.io 0,.val<|cI 3])
def mD:M Fl:=by refine' (?k:VS.aF Jy) _ rfl;exactλf _=>f
def dO:Fn:=defn 11 [true,false,true,false,false] mD
def Lh:VS.ay:=("_law_more",[true,false,true,false,false],dO)
def JC:VS.Tc:=tc (top 96) ["_law_row","_law_a","_law_own","_law_way","_law_side","_law_size","_law_folds","_law_by","_law_deed","_law_begin","_law_step","_law_room","_law_many"] [pj,uP]
def Io:M Fl:=by refine' (?k:VS.aF JC) _ rfl;exactλf _=>f
def ub:Fn:=defn 13 [true,false,false,false] Io
def Lq:VS.ay:=("_law_sided",[true,false,false,false],ub)
def Q0p:VS.Tc:=tc (top 95) ["_law_row","_law_a","_law_own","_law_way","_law_many","_law_turn","_law_order","_law_at","_law_sides","_law_cells_here"] [pj,ph]
def iP:=m2 hV (m2 aU (aa 10)<|aa 5) (aa 4)
def iQ:=m2 ah (aa 2) (aa 10)
def iR:=m2 ah (d6 [(aa 10),(aw bC [.io 0,.val<|cI 4])]) (mF intD [(m2 fI (aa 10)<|cI 1)])
def nU:=ai (aM 4<|m1 cu<|aa 2) (ai (iD (tB<|m2 fI (aa 3)<|cI 0) (ai (aM 5<|aw bC [.io 0,.val<|mF maxD [(cI 1),(aa 4)]])<|ai (aM 6<|az 1 (bF [(aa 4)]) (aj 10) (VP.ret true) iP)<|ai (iD (tB<|m2 fI (aw bC [.io 0,.val<|cI 2])<|cI 1) (ai (aM 6<|m1 GL<|aa 6) aX) aX)<|ai (bV<|bU [(bU [(cS 2),(aa 1),(m1 jb<|aa 6)]),(m1 jb<|az 1 (cj<|aa 6) (aj 10) (VP.ret true) iQ)]) aX) aX)<|ai (iD (tB<|m2 fI (aa 3)<|cI 1) (ai (aM 7<|aw bC [.io 0,.val<|m2 aU (aa 4)<|cI 1])<|ai (bV<|bU [(bU [(cS 5),(aa 1),(aa 7)]),(m2 aU (m2 aU (vh fH (aa 2) none<|some<|aa 7)<|bU [(cI 1)])<|vh fH (aa 2) (some<|aa 7) none)]) aX) aX)<|ai (iD (tB<|m2 fI (aa 3)<|cI 2) (ai (aM 8<|m1 jb<|az 1 (cj<|aa 2) (aj 10) (VP.ret true) iR)<|ai (iD (tB<|m2 fI (aw bC [.io 0,.val<|cI 2])<|cI 1) (ai (aM 8<|m2 aU (bU [(aw bC [.io 0,.val<|cI 4])])<|aa 8) aX) aX)<|ai (bV<|bU [(bU [(cS 6),(aa 1),(aa 8)]),(aa 8)]) aX) aX)<|ai (aM 9<|aw mH [.val<|aa 2])<|ai (aM 8<|m2 ah (d6 [(m1 uS<|aa 2),(bU [(aa 9)]),(bU [(cI 1),(aa 9)]),(bU [(aa 9),(cI 1)])])<|aw bC [.io 0,.val<|cI 4])<|ai (bV<|bU [(bU [(cS 7),(aa 1),(aa 8)]),(aa 8)]) aX)
def f9:Fn:=defn 10 [true,false,false,false] nU
def Ls:VS.ay:=("_law_view",[true,false,false,false],f9)
def Sr:VS.Tc:=tc (top 98) ["_law_row","_law_given","_law_k","_law_many","_law_count","_law_turn","_law_program_here","_law_sides","_law_index_here","_law_a","_law_way","_law_found"] [pj,Ls,Lq,Lh,ph] ["_law_given","_law_program_here","_law_sides"] [] [] [(610,6)]
def fG:=m2 ah (d6 [(cI 2),(cI 3),(cI 1),(cI 2),(cI 3),(cI 1),(cI 2),(cI 0)]) (aw bC [.io 0,.val<|cI 8])
def dB:=ai (aM 3<|aw bC [.io 0,.val<|cI 4]) (ai (jT 1<|m1 jb<|az 1 (bF [(aa 3)]) (aj 12) (VP.ret true) fG) aX)
def cY:=bU [(cS 0),(m2 hV (m2 aU (aa 12)<|aa 5)<|aa 4)]
def cZ:=m2 ah (aa 1) (m2 ah (aa 12)<|cI 1)
def dD:=ai (aM 9<|m2 ja (m2 ja (m1 cu<|Ey 6)<|cI 1)<|aw bC [.io 0,.val<|m1 cu<|Ey 6]) (ai (aM 10<|aw bC [.io 0,.val<|cI 16])<|ai (iD (tB<|m2 ltI (aa 10)<|cI 4) (ai (aM 11<|aw f9 [.io 0,.val<|aa 9,.val<|hJ 7<|aa 9,.val<|aa 10]) aX)<|ai (iD (mZ (tB<|m2 ltI (aa 10)<|cI 9)<|tB<|m2 gI (hJ 7<|aa 9)<|bU []) (ai (aM 11<|aw ub [.io 0,.val<|aa 9,.val<|hJ 7<|aa 9,.val<|aa 10]) aX)<|ai (iD (tB<|m2 fI (aa 10)<|cI 15) (ai (aM 11<|bU [(bU [(cS 0),(m2 hV (aa 9)<|aa 4)]),(hJ 1<|m2 hV (aa 9)<|aa 4)]) aX)<|ai (aM 11<|aw dO [.io 0,.val<|aa 9,.io 7,.val<|aa 10,.val<|aa 8]) aX) aX) aX)<|ai (iD (Hf (tB<|m2 Nc (aw mH [.val<|m2 ah (aa 11)<|cI 1])<|cI 27)<|Hf (tB<|m2 Nc (m1 cu<|m2 ah (aa 11)<|cI 1)<|cI 4)<|tB<|m2 Nc (m2 lP (m2 ah (aa 11)<|cI 1)<|cI 0)<|cI 24) (ai (aM 11<|bU [(bU [(cS 9),(cS 16),(aa 9)]),(hJ 7<|aa 9)]) aX) aX)<|ai (jT 6<|m2 ah (aa 11)<|cI 0)<|ai (jT 7<|m2 ah (aa 11)<|cI 1) aX)
def Il:=ai (fq 1<|d6 []) (ai (ip (bF [(m2 aU (cI 1)<|aw bC [.io 0,.val<|cI 2])]) (aj 2) dB)<|ai (jT 1<|bU [(m2 ah (d6 [(cI 2),(cI 3),(cI 1),(cI 4)])<|aw bC [.io 0,.val<|cI 4])])<|ai (aM 4<|m1 cu<|Ey 1)<|ai (aM 5<|aw bC [.io 0,.val<|aa 4])<|ai (fq 6<|az 1 (bF [(aa 4)]) (aj 12) (VP.ret true) cY)<|ai (fq 7<|i7<|az 1 (cj<|aa 6) (aj 12) (VP.ret true) cZ)<|ai (aM 8<|m2 hV (m2 ja (m2 ja (aa 4)<|cI 1)<|aa 5)<|aa 4)<|ai (ip (bF [(m2 aU (cI 1)<|aw bC [.io 0,.val<|cI 10])]) (aj 2) dD)<|ai (wK 1<|wK 7<|wK 6<|bV<|bU [(aa 6),(aa 7),(aa 4),(aa 1)]) aX)
def xM:Fn:=defn 12 [true] Il
def Ll:VS.ay:=("_law_program",[true],xM)
def XD:VS.Tc:=tc (L2.inClass (top 73) 0) ["self","loops","row_of","lengths"]
def Xv:=ai (dS 0 km "loops"<|m1 dG<|aa 1) (ai (dS 0 gC "row_of"<|m1 Bc<|aa 2)<|ai (dS 0 oi "lengths"<|m1 dG<|aa 3) aX)
def M9:Fn:=defn 4 [true,false,false,false] Xv
def Zf:VS.ay:=("Plan",[false,false,false],M9)
def JU:VS.Tc:=tc (top 10) ["program","sides","number","at"]
def AM:M Fl:=by refine' (?k:VS.aF JU) _ rfl;exactλf _=>f
def xT:Fn:=defn 4 [false,false,false,false] AM
def LS:VS.ay:=("spreads",[false,false,false,false],xT)
def Jr:VS.Tc:=tc (top 9) ["program","sides","at","naming","kind"] [LS]
@[reducible] def jZ:M D:=(m2 (inD false) (m2 ah (m2 ah (aa 0)<|aa 5)<|cI 0)<|bU [(cS 7),(cS 14)])
@[reducible] def j3:M D:=(aw xT [.val<|aa 0,.val<|aa 1,.val<|aa 5,.val<|aa 2])
def HX:M Fl:=by refine' (?k:VS.aF Jr) _ rfl;exactλf _=>f
def BD:Fn:=defn 5 [false,false,false,false] HX
def K5:VS.ay:=("is_kept",[false,false,false,false],BD)
def SA:VS.Tc:=tc (top 3) ["line"]
def pY:=aa 2
def pZ:=tB (m2 fI (aa 1)<|cS 26)
def R6:=ai (bV<|az 2 (uy [(m1 (Hh mq)<|m2 ah (aa 0)<|cI 0),(vh fH (aa 0) (some<|cI 1) none)]) (dy [1,2]) pZ pY) aX
def n6:Fn:=defn 1 [false] R6
def yD:VS.ay:=("named_by",[false],n6)
def SD:VS.Tc:=tc (top 8) ["program","wanted","at","naming","number","line"] [yD] ["naming"] [] [] [(28,3)]
def de:=aa 4
def dq:=tB (m2 fI (aa 6)<|aa 2)
def bX:=ai (iD (tB<|m2 ah (aa 1)<|aa 4) (ai (DB 3<|az 1 (cj<|aw n6 [.val<|aa 5]) (aj 6) dq de) aX) aX) aX
def Iy:=ai (fq 3<|d6 []) (ai (ip (qK [(aa 0)]) (dy [4,5]) bX)<|ai (wK 3<|bV<|aa 3) aX)
def BL:Fn:=defn 6 [false,false,false] Iy
def LD:VS.ay:=("naming_lines",[false,false,false],BL)
def SJ:VS.Tc:=tc (top 6) ["program","wanted","at","named"] [yD] ["wanted"] [] [] [(16,1)]
def dh:M D:=cF
def dF:=ai (i8 1 (aa 3) cT) aX
def bY:=ai (iD (tB<|hJ 1<|aa 2) (ai (ip (cj<|aw n6 [.val<|m2 ah (aa 0)<|aa 2]) (aj 3) dF) aX) aX) aX
def IQ:=ai (fq 1<|az 1 (cj<|aa 0) (aj 4) (VP.ret true) dh) (ai (i8 1 (m2 ja (m1 cu<|aa 0)<|cI 1) cT)<|ai (ip (CO [(m2 ja (m1 cu<|aa 0)<|cI 1),(m1 C4<|cI 1),(m1 C4<|cI 1)]) (aj 2) bY)<|ai (wK 1<|bV<|aa 1) aX)
def xV:Fn:=defn 4 [false] IQ
def LZ:VS.ay:=("wanted_lines",[false],xV)
def AQ:VS.Tc:=tc (top 7) ["program","sides","wanted","kept","at","line"] [LZ,K5,LD] ["kept"] [] [] [(22,3)]
@[reducible] def eP:M Fl:=by refine' (?k:VS.vk AQ 0) _ rfl;exactλf _=>f
def Ia:M Fl:=by refine' (?k:VS.aF AQ) _ rfl;exactλf _=>f
def xJ:Fn:=defn 6 [false,false] Ia
def K8:VS.ay:=("kept_lines",[false,false],xJ)
def AP:VS.Tc:=tc (top 22) ["sides","many","side"]
@[reducible] def ef:M Fl:=by refine' (?k:VS.vk AP 0) _ rfl;exactλf _=>f
def HQ:M Fl:=by refine' (?k:VS.aF AP) _ rfl;exactλf _=>f
def xI:Fn:=defn 3 [false] HQ
def yB:VS.ay:=("cells_in",[false],xI)
def Sw:VS.Tc:=tc (top 82) ["loops","row_of","lengths","loop","row"] [yB] ["lengths"] [] [] [(433,2)] ["last","row_of"]
def eO:=cI 0
def cC:=ai (aM 4<|m2 ze (aa 1)<|m1 (aJ d8 "line")<|aa 3) (ai (i8 2 (aa 4)<|mF maxD [(hJ 2<|aa 4),(aw xI [.val<|m1 (aJ gE "sides")<|aa 3])]) aX)
def Iu:=ai (fq 2<|az 1 (bF [(m2 aU (m1 qO<|aa 1)<|cI 1)]) (aj 5) (VP.ret true) eO) (ai (ip (cj<|aa 0) (aj 3) cC)<|ai (wK 2<|bV<|aa 2) aX)
def BK:Fn:=defn 5 [false,false] Iu
def Lx:VS.ay:=("lengths_of",[false,false],BK)
def Sy:VS.Tc:=tc (L2.inClass (top 47) 0) ["self","line","sides"]
def Xs:M Fl:=by refine' (?k:VS.aF Sy) _ rfl;exactλf _=>f
def zg:Fn:=defn 3 [true,false,false] Xs
def Xz:VS.Tc:=tc (L2.inClass (top 49) 0) ["self","line","sides","tree"]
def Xo:=ai (qS<|aw zg [.io 0,.val<|aa 1,.val<|aa 2]) (ai (dS 0 gS "tree"<|aa 3) aX)
def M3:Fn:=defn 4 [true,false,false,false] Xo
def Y9:VS.ay:=("Fill",[false,false,false],M3)
def XA:VS.Tc:=tc (L2.inClass (top 50) 0) ["self","line","sides","side","size","deed","tree"]
def Xp:=ai (qS<|aw zg [.io 0,.val<|aa 1,.val<|aa 2]) (ai (dS 0 ng "side"<|aa 3)<|ai (dS 0 nh "size"<|aa 4)<|ai (dS 0 kj "deed"<|aa 5)<|ai (dS 0 gS "tree"<|aa 6) aX)
def M4:Fn:=defn 7 [true,false,false,false,false,false,false] Xp
def Q19:VS.ay:=("Fold",[false,false,false,false,false,false],M4)
def XB:VS.Tc:=tc (L2.inClass (top 48) 0) ["self","line","sides","table"]
def Xr:=ai (qS<|aw zg [.io 0,.val<|aa 1,.val<|aa 2]) (ai (dS 0 ug "table"<|aa 3) aX)
def M6:Fn:=defn 4 [true,false,false,false] Xr
def Q1g:VS.ay:=("Load",[false,false,false],M6)
def XC:VS.Tc:=tc (L2.inClass (top 52) 0) ["self","line","sides","side","source","places","source_sides"]
def Xu:=ai (qS<|aw zg [.io 0,.val<|aa 1,.val<|aa 2]) (ai (dS 0 ng "side"<|aa 3)<|ai (dS 0 qx "source"<|aa 4)<|ai (dS 0 qw "places"<|aa 5)<|ai (dS 0 iz "source_sides"<|aa 6) aX)
def M8:Fn:=defn 7 [true,false,false,false,false,false,false] Xu
def Ze:VS.ay:=("Pick",[false,false,false,false,false,false],M8)
def Sj:VS.Tc:=tc (L2.inClass (top 51) 0) ["self","line","sides","side","deed","tree"]
def R0:=ai (qS<|aw zg [.io 0,.val<|aa 1,.val<|aa 2]) (ai (dS 0 ng "side"<|aa 3)<|ai (dS 0 kj "deed"<|aa 4)<|ai (dS 0 gS "tree"<|aa 5) aX)
def Bs:Fn:=defn 6 [true,false,false,false,false,false] R0
def Q0z:VS.ay:=("Through",[false,false,false,false,false],Bs)
def Jc:VS.Tc:=tc (L2.inClass (top 76) 0) ["self","program","sides","kept","many"]
def R1:M Fl:=by refine' (?k:VS.aF Jc) _ rfl;exactλf _=>f
def Bt:Fn:=defn 5 [true,false,false,false,false] R1
def U3:VS.ay:=("Weaver",[false,false,false,false],Bt)
def Sh:VS.Tc:=tc (L2.inClass (top 58) 0) ["self","deed","left","right"]
def Xl:M Fl:=by refine' (?k:VS.aF Sh) _ rfl;exactλf _=>f
def M0:Fn:=defn 4 [true,false,false,false] Xl
def Y7:VS.ay:=("Both",[false,false,false],M0)
def Si:VS.Tc:=tc (L2.inClass (top 55) 0) ["self","number"]
def Xm:M Fl:=by refine' (?k:VS.aF Si) _ rfl;exactλf _=>f
def M1:Fn:=defn 2 [true,false] Xm
def Y8:VS.ay:=("Even",[false],M1)
def SE:VS.Tc:=tc (L2.inClass (top 57) 0) ["self","deed","inner"]
def Xt:M Fl:=by refine' (?k:VS.aF SE) _ rfl;exactλf _=>f
def M7:Fn:=defn 3 [true,false,false] Xt
def Zd:VS.ay:=("One",[false,false],M7)
def Jb:VS.Tc:=tc (L2.inClass (top 56) 0) ["self","line","start","steps"]
def RZ:M Fl:=by refine' (?k:VS.aF Jb) _ rfl;exactλf _=>f
def Br:Fn:=defn 4 [true,false,false,false] RZ
def opD:VS.ay:=("Read",[false,false,false],Br)
def AY:VS.Tc:=tc (top 71) ["way","strides","many","start","steps","part","stride"] [] ["steps"]
@[reducible] def ir:M D:=(cI 0)
@[reducible] def bQ:M Fl:=by refine' (?k:VS.vk AY 0) _ rfl;exactλf _=>f
def ID:M Fl:=by refine' (?k:VS.aF AY) _ rfl;exactλf _=>f
def BO:Fn:=defn 7 [false,false,false] ID
def LL:VS.ay:=("reading_by",[false,false,false],BO)
def SG:VS.Tc:=tc (top 23) ["sides","backwards","stride","side"] [] ["backwards"]
def cE:=ai (jT 1<|aa 2) (ai (aM 2<|m2 uB (aa 2)<|aa 3) aX)
def IL:=ai (fq 1<|d6 []) (ai (aM 2<|cI 1)<|ai (ip (CW<|aa 0) (aj 3) cE)<|ai (bV<|m1 uS<|Ey 1) aX)
def BV:Fn:=defn 4 [false] IL
def LV:VS.ay:=("strides_of",[false],BV)
def Jd:VS.Tc:=tc (L2.inClass (top 76) 2) ["self","at","way","sides","reading"] [LL,LV] [] [] [opD]
def HN:M Fl:=by refine' (?k:VS.aF Jd) _ rfl;exactλf _=>f
def xH:Fn:=defn 5 [false,false,false,false] HN
def KZ:Str×VS.ay:=("row_read","Weaver",[false,false,false],xH)
def Sn:VS.Tc:=tc (L2.inClass (top 61) 0) ["self","part","size","ahead","behind"]
def Q1f:M Fl:=by refine' (?k:VS.aF Sn) _ rfl;exactλf _=>f
def M5:Fn:=defn 5 [true,false,false,false,false] Q1f
def Zb:VS.ay:=("Joined",[false,false,false,false],M5)
def JK:VS.Tc:=tc (top 64) ["number"]
def Iz:M Fl:=by refine' (?k:VS.aF JK) _ rfl;exactλf _=>f
def xQ:Fn:=defn 1 [false] Iz
def yE:VS.ay:=("part_standing",[false],xQ)
def JJ:VS.Tc:=tc (top 67) ["part","begin","step","first"] [yE]
def AK:M Fl:=by refine' (?k:VS.aF JJ) _ rfl;exactλf _=>f
def uc:Fn:=defn 4 [false,false,false] AK
def LG:VS.ay:=("part_moved",[false,false,false],uc)
def JY:VS.Tc:=tc (top 66) ["way","side","begin","step","moved"] [LG] ["moved"] [] [] [(283,4)]
def IT:M Fl:=by refine' (?k:VS.aF JY) _ rfl;exactλf _=>f
def BZ:Fn:=defn 5 [false,false,false,false] IT
def yH:VS.ay:=("way_moved",[false,false,false,false],BZ)
def Jl:VS.Tc:=tc (L2.inClass (top 60) 0) ["self","part","size","inner","number"]
def R3:M Fl:=by refine' (?k:VS.aF Jl) _ rfl;exactλf _=>f
def Bx:Fn:=defn 5 [true,false,false,false,false] R3
def U7:VS.ay:=("Within",[false,false,false,false],Bx)
def JZ:VS.Tc:=tc (top 70) ["way","own","last"] [yE]
@[reducible] def iu:M D:=(Rh (tB<|m2 fI (aa 3)<|cI 1) (aw xQ [.val<|cI 0])<|aa 4)
def IU:M Fl:=by refine' (?k:VS.aF JZ) _ rfl;exactλf _=>f
def B0:Fn:=defn 3 [false,false] IU
def L3:VS.ay:=("way_spread",[false,false],B0)
def JX:VS.Tc:=tc (top 68) ["way","side","place"] [yE]
def IS:M Fl:=by refine' (?k:VS.aF JX) _ rfl;exactλf _=>f
def BY:Fn:=defn 3 [false,false,false] IS
def L0:VS.ay:=("way_dropped",[false,false,false],BY)
def A1:VS.Tc:=tc (top 65) ["way","order","turned","side","part"] [] ["turned"] [] [] [(279,2)]
@[reducible] def eR:M Fl:=by refine' (?k:VS.vk A1 0) _ rfl;exactλf _=>f
def IV:M Fl:=by refine' (?k:VS.aF A1) _ rfl;exactλf _=>f
def B1:Fn:=defn 5 [false,false] IV
def L4:VS.ay:=("way_turned",[false,false],B1)
def J0:VS.Tc:=tc (top 69) ["way","side"]
def IW:M Fl:=by refine' (?k:VS.aF J0) _ rfl;exactλf _=>f
def B2:Fn:=defn 2 [false,false] IW
def L6:VS.ay:=("way_widened",[false,false],B2)
def Jk:VS.Tc:=tc (L2.inClass (top 59) 0) ["self","asked","left","right"]
def R2:M Fl:=by refine' (?k:VS.aF Jk) _ rfl;exactλf _=>f
def Bw:Fn:=defn 4 [true,false,false,false] R2
def U6:VS.ay:=("Where",[false,false,false],Bw)
def Jg(w:Nat->Fn):VS.Tc:=tc (L2.inClass (top 76) 1) ["self","at","way"] [] [] [KZ,("tree_made","Weaver",[false,false],(w 1))]
def xm(w:Nat->Fn):M Fl:=by refine' (?k:VS.aF (Jg w)) _ rfl;exactλf _=>f
def Jf(w:Nat->Fn):VS.Tc:=tc (L2.inClass (top 76) 3) ["self","at","way","line","kind"] [] [] [("tree_named","Weaver",[false,false],(w 0)),("tree_spread","Weaver",[false,false],(w 3)),("tree_shifted","Weaver",[false,false,false,false,false],(w 4)),("tree_joined","Weaver",[false,false,false,false],(w 5)),KZ,("tree_viewed","Weaver",[false,false],(w 2))] [Y8,Zd,Y7,U6]
def iK(w:Nat->Fn):M Fl:=by refine' (?k:VS.aF (Jf w)) _ rfl;exactλf _=>f
def Jj(w:Nat->Fn):VS.Tc:=tc (L2.inClass (top 76) 4) ["self","line","way","kind"] [L4,yH,L0,L6] [] [("tree_named","Weaver",[false,false],(w 0)),("tree_spread","Weaver",[false,false],(w 3))]
def iL(w:Nat->Fn):M Fl:=by refine' (?k:VS.aF (Jj w)) _ rfl;exactλf _=>f
def Ji(w:Nat->Fn):VS.Tc:=tc (L2.inClass (top 76) 5) ["self","at","way"] [L3] [] [("tree_named","Weaver",[false,false],(w 0))]
def AG(w:Nat->Fn):M Fl:=by refine' (?k:VS.aF (Ji w)) _ rfl;exactλf _=>f
def Jh(w:Nat->Fn):VS.Tc:=tc (L2.inClass (top 76) 6) ["self","at","side","by","number","way","moved"] [yH] [] [("tree_named","Weaver",[false,false],(w 0))] [U7]
def AF(w:Nat->Fn):M Fl:=by refine' (?k:VS.aF (Jh w)) _ rfl;exactλf _=>f
def Je(w:Nat->Fn):VS.Tc:=tc (L2.inClass (top 76) 7) ["self","ahead","behind","side","way","size","moved"] [yH] [] [("tree_named","Weaver",[false,false],(w 0))] [Zb]
def AE(w:Nat->Fn):M Fl:=by refine' (?k:VS.aF (Je w)) _ rfl;exactλf _=>f
def cX:Nat->Nat->Fn|0=>λ_ _=>.no|n+1=>λi=>match i with|0=>defn 3 [false,false,false] (xm<|cX n)|1=>defn 5 [false,false,false] (iK<|cX n)|2=>defn 4 [false,false,false] (iL<|cX n)|3=>defn 3 [false,false,false] (AG<|cX n)|4=>defn 7 [false,false,false,false,false,false] (AF<|cX n)|5=>defn 7 [false,false,false,false,false] (AE<|cX n)|_=>λ_=>.no
def Bv:Fn:=cX 64 0
def U5:Str×VS.ay:=("tree_named","Weaver",[false,false],Bv)
def Bu:Fn:=cX 64 1
def Q0m:Str×VS.ay:=("tree_made","Weaver",[false,false],Bu)
def JV:VS.Tc:=tc (top 63) ["many"]
@[reducible] def df:M D:=(bU [(cI 0),(aa 1),(cI 1)])
def IK:M Fl:=by refine' (?k:VS.aF JV) _ rfl;exactλf _=>f
def xU:Fn:=defn 1 [false] IK
def LU:VS.ay:=("straight_way",[false],xU)
def JG:VS.Tc:=tc (top 75) ["program","sides","kept","at","line","own","kind","inner","tree","weaver"] [LU] [] [U5,Q0m] [Q1g,Ze,U3,Q19,Q0z,Y9]
def qj:M Fl:=by refine' (?k:VS.aF JG) _ rfl;exactλf _=>f
def kg:Fn:=defn 10 [false,false,false,false] qj
def LA:VS.ay:=("loop_of",[false,false,false,false],kg)
def Sz(w:Nat->Fn):VS.Tc:=tc (top 77) ["tree"] [("lines_read_in",[false],(w 0))]
def iM(w:Nat->Fn):=ai (iD (tB<|m1 (aL bE)<|aa 0) (ai (bV<|d6 [(m1 (aJ d8 "line")<|aa 0)]) aX) aX) (ai (iD (tB<|m1 (aL bg)<|aa 0) (ai (bV<|aw (w 0) [.val<|m1 (aJ gB "inner")<|aa 0]) aX) aX)<|ai (iD (tB<|m1 (aL fN)<|aa 0) (ai (bV<|m2 aU (aw (w 0) [.val<|m1 (aJ gR "left")<|aa 0])<|aw (w 0) [.val<|m1 (aJ fJ "right")<|aa 0]) aX) aX)<|ai (iD (tB<|m1 (aL jl)<|aa 0) (ai (bV<|m2 aU (m2 aU (aw (w 0) [.val<|m1 (aJ ki "asked")<|aa 0])<|aw (w 0) [.val<|m1 (aJ gR "left")<|aa 0])<|aw (w 0) [.val<|m1 (aJ fJ "right")<|aa 0]) aX) aX)<|ai (iD (tB<|m1 (aL cJ)<|aa 0) (ai (bV<|m2 aU (aw (w 0) [.val<|m1 (aJ kh "ahead")<|aa 0])<|aw (w 0) [.val<|m1 (aJ jh "behind")<|aa 0]) aX) aX)<|ai (bV<|d6 []) aX)
def vj:Nat->Nat->Fn|0=>λ_ _=>.no|n+1=>λi=>match i with|0=>defn 1 [false] (iM<|vj n)|_=>λ_=>.no
def Kh:Fn:=vj 64 0
def Lz:VS.ay:=("lines_read_in",[false],Kh)
def JF:VS.Tc:=tc (top 78) ["loop"] [Lz]
def Iv:M Fl:=by refine' (?k:VS.aF JF) _ rfl;exactλf _=>f
def qu:Fn:=defn 1 [false] Iv
def Ly:VS.ay:=("lines_read_by",[false],qu)
def xw:VS.Tc:=tc (top 79) ["loops","last","at","loop","line"] [Ly] ["last"] [] [] [(415,1)] ["last","row_of"]
@[reducible] def cL:M Fl:=by refine' (?k:VS.vk xw 1) _ rfl;exactλf _=>f
@[reducible] def cM:M Fl:=by refine' (?k:VS.vk xw 0) _ rfl;exactλf _=>f
def Ir:M Fl:=by refine' (?k:VS.aF xw) _ rfl;exactλf _=>f
def xO:Fn:=defn 5 [false] Ir
def Lw:VS.ay:=("last_readings",[false],xO)
def JH:VS.Tc:=tc (top 81) ["rows","row"]
@[reducible] def bO:M Bool:=(tB<|m2 (inD false) (aa 1)<|aa 0)
@[reducible] def cQ:M Fl:=(ai (aM 1<|m2 aU (aa 1)<|cI 1) aX)
def Iw:M Fl:=by refine' (?k:VS.aF JH) _ rfl;exactλf _=>f
def xP:Fn:=defn 2 [false] Iw
def LB:VS.ay:=("lowest_beside",[false],xP)
def SF:VS.Tc:=tc (top 80) ["loops","last","row_of","at","loop","needed"] [Lw,LB] ["row_of"] [] [] [(422,2)] ["last","row_of"]
def e8:=m2 ze (aa 2) (aa 6)
def fg:=tB (m2 S5 (m2 ze (aa 1)<|aa 6)<|aa 3)
def fm:=ai (aM 5<|i7<|az 1 (uw<|aa 2) (aj 6) fg e8) (ai (yL 2 (m1 (aJ d8 "line")<|aa 4)<|aw xP [.val<|aa 5]) aX)
def IF:=ai (aM 1<|aw xO [.val<|aa 0]) (ai (fq 2<|mC<|.fZ [] [])<|ai (ip (qK [(aa 0)]) (dy [3,4]) fm)<|ai (wK 2<|bV<|aa 2) aX)
def BQ:Fn:=defn 6 [false] IF
def LM:VS.ay:=("rows_of",[false],BQ)
def Sk:VS.Tc:=tc (top 4) ["line"]
def jH:=m2 (inD false) (aa 2) (m1 (Hh mn)<|aa 1)
def jK:=tB (m1 (sF false mn qh)<|aa 1)
def Q1D:=ai (bV<|m1 (pX true)<|az 2 (uy [(m1 (Hh mq)<|m2 ah (aa 0)<|cI 0),(vh fH (aa 0) (some<|cI 1) none)]) (dy [1,2]) jK jH) aX
def Ke:Fn:=defn 1 [false] Q1D
def K1:VS.ay:=("deed_is_known",[false],Ke)
def Js:VS.Tc:=tc (top 13) ["number"]
def HY:M Fl:=by refine' (?k:VS.aF Js) _ rfl;exactλf _=>f
def BE:Fn:=defn 1 [false] HY
def K6:VS.ay:=("is_rest",[false],BE)
def JI:VS.Tc:=tc (top 34) ["line"] [K6]
def xp:M Fl:=by refine' (?k:VS.aF JI) _ rfl;exactλf _=>f
def oh:Fn:=defn 1 [false] xp
def LF:VS.ay:=("number_is_cell",[false],oh)
def JM:VS.Tc:=tc (top 33) ["line","lines_ahead","tables"] [yD]
@[reducible] def dM:M D:=(FT vg ltI (cI 0) (aa 3)<|aa 1)
def AL:M Fl:=by refine' (?k:VS.aF JM) _ rfl;exactλf _=>f
def ue:Fn:=defn 3 [false,false,false] AL
def LI:VS.ay:=("places_are_there",[false,false,false],ue)
def JQ:VS.Tc:=tc (top 21) ["sides"] [yB]
@[reducible] def fW:M D:=(FT vg vg (cI 0) (aa 1)<|cI 64)
def IG:M Fl:=by refine' (?k:VS.aF JQ) _ rfl;exactλf _=>f
def BR:Fn:=defn 1 [false] IG
def LN:VS.ay:=("sides_can_be",[false],BR)
def Jq:VS.Tc:=tc (top 37) ["sides","side"]
def HW:M Fl:=by refine' (?k:VS.aF Jq) _ rfl;exactλf _=>f
def BC:Fn:=defn 2 [false,false] HW
def pf:VS.ay:=("has_side",[false,false],BC)
def J4:VS.Tc:=tc (top 26) ["row","side"]
def IY:M Fl:=by refine' (?k:VS.aF J4) _ rfl;exactλf _=>f
def B4:Fn:=defn 2 [false,false] IY
def yI:VS.ay:=("without",[false,false],B4)
def Jo:VS.Tc:=tc (top 43) ["deed","sides","side"] [pf,yI]
def HU:M Fl:=by refine' (?k:VS.aF Jo) _ rfl;exactλf _=>f
def BA:Fn:=defn 3 [false,false,false] HU
def K3:VS.ay:=("folded_sides",[false,false,false],BA)
def JP:VS.Tc:=tc (top 28) ["row","side","number"]
def IE:M Fl:=by refine' (?k:VS.aF JP) _ rfl;exactλf _=>f
def BP:Fn:=defn 3 [false,false,false] IE
def yF:VS.ay:=("replaced",[false,false,false],BP)
def Jt:VS.Tc:=tc (top 45) ["one","other","side"] [pf,yI,yF]
def HZ:M Fl:=by refine' (?k:VS.aF Jt) _ rfl;exactλf _=>f
def BF:Fn:=defn 3 [false,false,false] HZ
def K7:VS.ay:=("joined_sides",[false,false,false],BF)
def JL:VS.Tc:=tc (top 44) ["sides","side","places"] [pf,yF]
def IA:M Fl:=by refine' (?k:VS.aF JL) _ rfl;exactλf _=>f
def BM:Fn:=defn 3 [false,false,false] IA
def LH:VS.ay:=("picked_sides",[false,false,false],BM)
def J3:VS.Tc:=tc (top 25) ["sides","many"]
@[reducible] def iS:M D:=(cI 1)
def IX:M Fl:=by refine' (?k:VS.aF J3) _ rfl;exactλf _=>f
def B3:Fn:=defn 2 [false,false] IX
def L7:VS.ay:=("with_ones_ahead",[false,false],B3)
def AZ:VS.Tc:=tc (top 24) ["one","other","many","met","left","right"] [L7] ["met"]
@[reducible] def fR:M Fl:=by refine' (?k:VS.vk AZ 0) _ rfl;exactλf _=>f
def II:M Fl:=by refine' (?k:VS.aF AZ) _ rfl;exactλf _=>f
def xS:Fn:=defn 6 [false,false] II
def yG:VS.ay:=("sides_met",[false,false],xS)
def Jp:VS.Tc:=tc (top 38) ["sides","side","place"] [pf]
def HV:M Fl:=by refine' (?k:VS.aF Jp) _ rfl;exactλf _=>f
def BB:Fn:=defn 3 [false,false,false] HV
def Dx:VS.ay:=("has_place",[false,false,false],BB)
def Jm:VS.Tc:=tc (top 40) ["sides","side","begin","step","many"] [pf,Dx,yF]
def HR:M Fl:=by refine' (?k:VS.aF Jm) _ rfl;exactλf _=>f
def By:Fn:=defn 5 [false,false,false,false,false] HR
def K0:VS.ay:=("cut_sides",[false,false,false,false,false],By)
def Jn:VS.Tc:=tc (top 41) ["sides","side","place"] [Dx,yI]
def HS:M Fl:=by refine' (?k:VS.aF Jn) _ rfl;exactλf _=>f
def Bz:Fn:=defn 3 [false,false,false] HS
def K2:VS.ay:=("dropped_sides",[false,false,false],Bz)
def JO:VS.Tc:=tc (top 27) ["row","side","number"]
def IC:M Fl:=by refine' (?k:VS.aF JO) _ rfl;exactλf _=>f
def BN:Fn:=defn 3 [false,false,false] IC
def LK:VS.ay:=("put_in",[false,false,false],BN)
def swB:VS.Tc:=tc (top 39) ["sides","order"]
def dg:=m2 ah (aa 0) (aa 2)
def IP:=ai (iD (tB<|m2 gI (m1 qW<|aa 1)<|mF CL [(m1 cu<|aa 0)]) (ai (bV<|mC .aK) aX) aX) (ai (bV<|m1 jb<|az 1 (cj<|aa 1) (aj 2) (VP.ret true) dg) aX)
def BX:Fn:=defn 2 [false,false] IP
def LY:VS.ay:=("turned_sides",[false,false],BX)
def JT:VS.Tc:=tc (top 36) ["line","sides","kind"] [LY,K0,K2,LK,yG,yB]
def nV:M Fl:=by refine' (?k:VS.aF JT) _ rfl;exactλf _=>f
def gA:Fn:=defn 3 [false,false] nV
def LR:VS.ay:=("sides_viewed",[false,false],gA)
def JW:VS.Tc:=tc (top 42) ["one","other","third","met"] [yG]
def IM:M Fl:=by refine' (?k:VS.aF JW) _ rfl;exactλf _=>f
def BW:Fn:=defn 4 [false,false,false] IM
def LX:VS.ay:=("three_met",[false,false,false],BW)
def JS:VS.Tc:=tc (top 35) ["line","ahead","given","kind"] [yG,LX,K3,pf,LH,K7,LR] ["ahead"]
def eF:M Fl:=by refine' (?k:VS.aF JS) _ rfl;exactλf _=>f
def dP:Fn:=defn 4 [false,true,false] eF
def LQ:VS.ay:=("sides_told",[false,true,false],dP)
def JR:VS.Tc:=tc (top 32) ["at","line","ahead","given","sides"] [LI,LF,K1,LQ,LN] ["ahead"]
def IH:M Fl:=by refine' (?k:VS.aF JR) _ rfl;exactλf _=>f
def BS:Fn:=defn 5 [false,false,true,false] IH
def LO:VS.ay:=("sides_looked_over",[false,false,true,false],BS)
def A0:VS.Tc:=tc (top 31) ["program","given","ahead","at","line"] [LO] ["ahead"] [] [] [(98,2)]
@[reducible] def gq:M Fl:=by refine' (?k:VS.vk A0 0) _ rfl;exactλf _=>f
def IJ:M Fl:=by refine' (?k:VS.aF A0) _ rfl;exactλf _=>f
def BU:Fn:=defn 5 [false,false] IJ
def LP:VS.ay:=("sides_of",[false,false],BU)
def JN:VS.Tc:=tc (top 74) ["program","given","sides","kept","loops","row_of"] [LP,K8,LA,LM,Lx] [] [] [Zf]
@[reducible] def j6:M D:=(aw kg [.val<|aa 0,.val<|aa 2,.val<|aa 3,.val<|aa 6])
@[reducible] def j9:M Bool:=(tB<|m2 ah (aa 3)<|aa 6)
def IB:M Fl:=by refine' (?k:VS.aF JN) _ rfl;exactλf _=>f
def xR:Fn:=defn 6 [false,false] IB
def LJ:VS.ay:=("plan_of",[false,false],xR)
def Q1I:VS.Tc:=tc (top 107) ["_law_script","_law_row","_law_seeds","_law_drawn_here","_law_program_here","_law_sides","_law_given","_law_cells_here","_law_made","_law_plan","_law_loop","_law_rows","_law_at","_law_book"] [pj,Ll,Lj,LJ,Lf] ["_law_row","_law_rows","_law_book"] [] [] [(753,11)]
def dE:=ai (jT 11<|m2 ah (d6 [(mC .aK),(m2 ah (aa 8)<|aa 12)])<|mF intD [(qI (m2 (E2 false) (aa 12)<|m1 (aJ gC "row_of")<|aa 9)<|m2 ltI (aa 12)<|m1 (aJ d8 "line")<|aa 10)]) aX
def kF:=ai (fq 11<|d6 []) (ai (ip (bF [(m1 cu<|aa 4)]) (aj 12) dE)<|ai (wK 11<|fq 13<|d6 [(aa 11),(cI 0),cT])<|ai (iD (Hf (z8<|tB<|aw nZ [.val<|aa 10,.val<|aa 4,.val<|aa 5,.val<|aa 8,.io 13])<|z8<|tB<|hJ 13<|cI 2) (ai (bV cF) aX) aX) aX)
def AD:=ai (fq 1<|d6 [(aa 0),(cI 0)]) (ai (aM 2<|d6 [(aw bC [.io 1,.val<|cI 1000003]),(aw bC [.io 1,.val<|cI 1000003]),(aw bC [.io 1,.val<|cI 1000003])])<|ai (aM 3<|aw xM [.io 1])<|ai (aM 4<|m2 ah (aa 3)<|cI 0)<|ai (aM 5<|m2 ah (aa 3)<|cI 1)<|ai (aM 6<|m2 ah (aa 3)<|cI 3)<|ai (aM 7<|kG tZ (d6 [(aa 2),(cI 0)]) [(aa 6),(m2 ah (aa 3)<|cI 2)])<|ai (aM 8<|aw ua [.val<|aa 4,.val<|aa 5,.val<|aa 7])<|ai (iD (tB<|m2 isND (aa 8)<|mC .aK) (ai (bV cT) aX) aX)<|ai (aM 9<|aw xR [.val<|m1 dG<|aa 4,.val<|m1 dG<|aa 6])<|ai (ip (cj<|m1 (aJ km "loops")<|aa 9) (aj 10) kF)<|ai (bV cT) aX)
def tW:Fn:=defn 14 [false] AD
def cell(ns:WR)(k:Nat):Int:=ns.getD k 0
def Row(ns:WR)(p:Nat):D:=.lst [Z ns,.int p]
theorem pJ(ns:WR)(p:Nat)(m:Int)(h:0<m):bC [Row ns p,.int m]=.ok (.int<|cell ns p % m) [Row ns<|p+1]:=by rw[bC,du _ _ _ _ rfl];unfold Ip cell Row;have i0:∀(j:Int),vR [Z ns,.int j] 0=some (Z ns):=λ_=>rfl;have i1:∀(j:Int),vR [Z ns,.int j] 1=some (.int j):=λ_=>rfl;have st:∀(i j:Int),setAt (.int 1) (.int j) (.lst [Z ns,.int i])=some (.lst [Z ns,.int j]):=λ_ _=>rfl;by_cases hp:p<ns.length;have e:=bM ns p Zl Zl;simp[i0,i1,st,hp,e,cb _ _ h];have hp':¬(p:Int)<ns.length:=Zl;have g:ns[p]?=none:=F4 Zl;simp[i0,i1,st,hp,g]
theorem kJ:names.all kT=true/\names.Nodup:=⟨by decide +kernel,by decide +kernel⟩
theorem lR{i:Nat}(h:i<names.length):nm i=names[i]:=by simp[nm,h]
theorem MW(i j:Nat)(hi:i<names.length)(hj:j<names.length):fI (.str<|nm i) (.str<|nm j)=some (.bl<|decide<|i=j):=by
 have f:∀k,k<names.length->kT (nm k)=true:=λk h=>by rw[lR h];exact List.all_eq_true.mp kJ.1 _ (DF h)
 have e:(nm i == nm j)=decide (i=j):=by rw[lR hi,lR hj];by_cases h:i=j;subst h;simp;have:names[i]≠names[j]:=λz=>h<|(vz kJ.2).mp z;simp[h,this]
 simp[fI,VP.plain,f i hi,f j hj,Ka,e]
theorem Uz:32<=names.length:=by decide
theorem Bm(i j:Nat)(hi:i<32)(hj:j<32):fI (.str<|nm i) (.str<|nm j)=some (.bl<|decide<|i=j):=MW i j (EU hi Uz) (EU hj Uz)
theorem ao{α:Type}{x y:α}(h:x=y:=by
  repeat' first
    |with_reducible assumption
    | (with_reducible show (_:Res D)=_
       first
         | ((with_reducible apply Q1W);exact rfl)
         |with_reducible first|exact Xe|apply Um|apply Uo|apply ET|exact zS|apply N7|apply Q0r|apply Q0i|apply NZ|apply EM|apply PA|apply Vg|apply NP|apply Wl|apply R9|apply F5|apply Q26
         | ((with_reducible apply U9);exact rfl))
    | (with_reducible show (_:Y2)=_
       with_reducible first|exact Bm _ _ (by decide) (by decide)|exact sR _ _|exact yP _ _|exact dw _ _|exact bz _ _|exact fS _ _|exact dz _ _|exact Cc _ _|exact F9 _|exact NX _|exact CH _|exact sG _|exact Hn _|exact yp _|exact rR _)
    | (with_reducible show (_:Res Fl)=_
       first
         |with_reducible first|apply Q0I|apply GY|apply Qf|apply Q1m|apply TR|apply P0|exact UD|exact GZ|apply Wh|exact zS|apply Nb|apply Mz|apply XQ|apply Qg|apply WY|apply S1|apply Gv
        )
    | (with_reducible show (_:Res (List AV))=_
       with_reducible first|exact neS|apply sX|apply vt|exact zS)
    | (with_reducible show (_:Res Bool)=_
       first
         |with_reducible first|apply Vq|apply Ol|apply Mx|apply UP|exact zS
        )
    | (with_reducible show (_:Res (List D))=_
       with_reducible first|exact zE|apply Ut|apply Qd|apply Q1i|apply Q0J|apply E4|apply P5|apply Q1t|exact zS)
    | ((with_reducible apply Ja);refine Ud ?_;with_reducible assumption)|((with_reducible apply I0);refine T1 ?_;with_reducible assumption)|((with_reducible apply Ja);exact rfl)|((with_reducible apply I0);exact rfl)
    |with_reducible first|apply UU|exact Hs|apply DX|exact wM _|exact Qc _|exact zS
    | (conv=>{lhs;dsimp only[List.set,putAll,cN,bP,List.getElem?_cons_zero,List.getElem?_cons_succ,gL,own,Option.map_some]};done)
    |exact rfl|(refine Fc rfl ?_;with_reducible assumption)):x=y:=h
theorem rn{n:Nat}{fl:Wz}{b:M Fl}{ds ios:Zm}{r r0:ax}{d:D}(hl:decide (ds.length=fl.length)=true:=by exact rfl)(h0:bG n fl ds=r0:=by conv=>{lhs;simp only[mP,pF,uR,L8,Bool.false_eq_true,↓reduceIte]})(h:b r0=.ok (.rt d) r:=by exact ao)(hi:bD fl r=some ios:=by exact rfl):defn n fl b ds=.ok d ios:=SW hl (h0 ▸ h) hi
theorem MC(i j:Nat)(hi:i<32)(hj:j<32):(nm i == nm j)=decide (i=j):=by have h1:=EU hi Uz;have h2:=EU hj Uz;rw[lR h1,lR h2];by_cases h:i=j;subst h;simp;have:names[i]≠names[j]:=λz=>h<|(vz kJ.2).mp z;simp[h,this]
theorem sW(i j:Nat)(hi:i<32)(hj:j<32):gI (.str<|nm i) (.str<|nm j)=some (.bl<|!decide (i=j)):=by
 have e:=Bm i j hi hj;unfold fI at e;unfold gI;split at e;rename_i hp;rw[Ue hp];have e':eqB (D.str<|nm i) (.str<|nm j)=decide (i=j):=by simpa using e
 rw[e'];cases e
theorem m2_(i:Int):hV (.int i) (.int 2)=some (.int<|i % 2):=cb _ _ Zl
theorem d2_(i:Int):qy (.int i) (.int 2)=some (.int<|i / 2):=gF _ _ Zl Zl
theorem Uu(i:Int):hV (.int i) (.int 1000003)=some (.int<|i % 1000003):=cb _ _ Zl
theorem jj(k:Bool):intD [.bl k]=some (.int<|if k=true then 1 else 0):=rfl
def Rt(a:Int):Prop:=0<=a/\a<1000003
def ak:WR->Int|[]=>1|x::r=>x*ak r
def sE:WR->List Int|[]=>[]|_::r=>ak r::sE r
def idx:WR->Int->List Int|[],_=>[]|_::r,p=>p / max (ak r) 1::idx r (p % max (ak r) 1)
def gW:WR->Int->List Int|[],_=>[]|x::r,p=>p / ak r % x::gW r p
def dot:WR->WR->Int|x::xs,y::ys=>x*y+dot xs ys|_,_=>0
structure Sd(xs:WR):Prop where
 len:xs.length<=4
 bd:∀x∈xs,0<=x/\x<=64
theorem sg:∀(xs:WR),(∀x∈xs,0<=x/\x<=64)->0<=ak xs/\ak xs<=64 ^ xs.length|[],_=>by simp[ak]|x::r,h=>by have hx:=h x Uq;have hr:=sg r λy hy=>h y<|WW _ hy;simp only[ak,List.length_cons];refine⟨FH hx.1 hr.1,?_⟩;have:x*ak r<=64*64 ^ r.length:=Int.mul_le_mul hx.2 hr.2 hr.1 Zl;rw[Int.pow_succ];lia
theorem Q1b:∀{n:Nat},n<=4->(64:Int) ^ n<=16777216|0,_=>by decide|1,_=>by decide|2,_=>by decide|3,_=>by decide|4,_=>by decide
theorem Sd.prod{xs:WR}(h:Sd xs):0<=ak xs/\ak xs<=16777216:=by
 have:=sg xs h.bd;have:=Q1b h.len
 lia
theorem Sd.tail{x:Int}{r:WR}(h:Sd (x::r)):Sd r:=⟨by have:=h.len;simp at this;lia,λy hy=>h.bd y<|WW _ hy⟩
theorem Sd.drop{xs:WR}(h:Sd xs)(k:Nat):Sd (xs.drop k):=⟨by have:=h.len;simp;lia,λy hy=>h.bd y<|F2 hy⟩
theorem jS:∀(xs:WR)(a:Int),xs.foldl (λp x=>p*x) a=a*ak xs|[],a=>by simp[ak]|x::r,a=>by simp only[List.foldl_cons,ak];rw[jS r];rw[Int.mul_assoc]
theorem A9(xs:WR)(k:Nat)(h:k<xs.length):fH (T xs) (some<|(k:Int)+1) none=some (T<|xs.drop<|k+1):=by
 have e:jy xs.length 0 (some<|(k:Int)+1)=k+1:=by unfold jy;simp only[];rw[Zj Zl];lia
 rw[MS,e];simp only[jy];rw[MI ZA]
def back(xs:WR)(k:Nat):Int:=if k<xs.length then xs.getD (xs.length-1-k) 1 else 1
def oX(x y:Int):Bool:=decide (x=1\/y=1\/x=y)
def pk(x y:Int):Int:=if x=1 then y else x
def Mb(acc:WR)(p:Int×Int):D ⊕ List Int:=if oX p.1 p.2 then .inr (acc++[pk p.1 p.2]) else .inl .aK
theorem qz(ps:List (Int×Int)):∀acc,iU Mb ps acc=if ps.all (λp=>oX p.1 p.2) then .inr (acc++ps.map λp=>pk p.1 p.2) else .inl .aK:=by induction ps with|nil=>intro acc;simp[iU]|cons p ps ih=>intro acc;simp only[iU,Mb,List.all_cons];by_cases q:oX p.1 p.2=true;simp only[q,if_true,ih,Bool.true_and];simp;simp[q]
def zL:Option (List Int)->D|some xs=>T xs|none=>.aK
def pairs(one other:WR):List (Int×Int):=(List.range<|max one.length other.length).map λk=>(back one k,back other k)
def meet(one other:WR):Option (List Int):=if (pairs one other).all (λp=>oX p.1 p.2) then some ((pairs one other).map λp=>pk p.1 p.2).reverse else none
def ahead(xs:WR)(n:Nat):WR:=List.replicate (n-xs.length) 1++xs
theorem jt(one other:WR):(ahead one<|max one.length other.length).zip (ahead other<|max one.length other.length)=(pairs one other).reverse:=by
 have len:∀(xs:WR)(n:Nat),xs.length<=n->(ahead xs n).length=n:=λxs n h=>by simp[ahead];omega
 have get:∀(xs:WR)(n i:Nat),xs.length<=n->i<n->(ahead xs n)[i]?=some (back xs<|n-1-i):=λxs n i h hi=>by unfold ahead back;by_cases c:i<n-xs.length;rw[B5 (by simpa using c),Zj Wa];simp[c];rw[OG (by simp;omega),Ue Wa];have e:xs.length-1-(n-1-i)=i-(n-xs.length):=Wa;have hl:i-(n-xs.length)<xs.length:=Wa;simp[e,hl]
 refine List.ext_getElem? λi=>?_;by_cases hi:i<max one.length other.length;rw[show (List.zip (ahead one<|max one.length other.length)<|ahead other<|max one.length other.length)[i]?=some (back one<|max one.length other.length-1-i,back other<|max one.length other.length-1-i) from List.getElem?_zip_eq_some.mpr ⟨get one _ _ Wa hi,get other _ _ Wa hi⟩];rw[ZG (by simp[pairs];omega)];simp only[pairs,List.length_map,List.length_range,List.getElem?_map];rw[PG Wa];rfl;rw[F4 (by rw[List.length_zip,len _ _ Wa,len _ _ Wa];omega),F4 (by simp[pairs];omega)]
theorem lr(xs:WR)(n:Nat)(h:xs.length<=n):(ahead xs n).length=n:=by simp[ahead];lia
theorem oS(one other:WR)(h1:one.length<=4)(h2:other.length<=4):mI [T one,T other]=.ok (zL<|meet one other) []:=by
 obtain⟨n,hn⟩:∃n,max one.length other.length=n:=⟨_,rfl⟩;have o1:one.length<=n:=hn ▸ za ..;have o2:other.length<=n:=hn ▸ Py ..;have n4:n<=4:=hn ▸ Nat.max_le.mpr ⟨h1,h2⟩;have mx:maxD [.int (one.length:Int),.int (other.length:Int)]=some (.int (n:Int)):=by rw[rU,show max (one.length:Int) other.length=n by lia]
 have er:qa [.int (n:Int)]=some ((List.range n).map λ(k:Nat)=>.int k):=pn _ _ Zl Zl Zl;have mu:∀(xs:WR),xs.length<=n->v9 (.tup [.int 1]) (.int<|(n:Int)-xs.length)=some (T<|List.replicate (n-xs.length) 1):=λxs hx=>by
  have e:((n:Int)-xs.length).toNat=n-xs.length:=Zl;have d:v9 (.tup [.int 1]) (.int<|(n:Int)-xs.length)=if -(fU:Int)<=(n:Int)-xs.length/\(n:Int)-xs.length<=fU/\[D.int 1].length*((n:Int)-xs.length).toNat<=fU then some (.tup (List.replicate ((n:Int)-xs.length).toNat [D.int 1]).flatten) else none:=rfl
  rw[d,Ue (by simp[fU];lia),e];simp[T,List.map_replicate]
 have ad:∀(xs:WR),xs.length<=n->aU (T<|List.replicate (n-xs.length) 1) (T xs)=some (T<|ahead xs n):=λxs hx=>by rw[b7 _ _ (by simp[fU];lia)];rfl
 have l1:=lr one n Zl;have l2:=lr other n Zl;have zp:=jt one other;rw[hn] at zp;have L:=jR (g:=aj 6) (body:=g0) (λ(k:Nat)=>D.int k) (λ(s:WR)(t:Sl)=>[.sh<|T one,.sh<|T other,.sh<|.int (n:Int),.sh<|T<|ahead one n,.sh<|T<|ahead other n,.sh<|T s,t]) ko (λacc k=>Mb acc ((ahead one n).getD k 0,(ahead other n).getD k 0)) (List.range n) (λk s=>s.length=k) [] .no rfl rfl ?_;have e:iU (λacc k=>Mb acc ((ahead one n).getD k 0,(ahead other n).getD k 0)) (List.range n) []=iU Mb (pairs one other).reverse []:=by
  have em:(pairs one other).reverse=(List.range n).map λk=>((ahead one n).getD k 0,(ahead other n).getD k 0):=by
   rw[<-zp];refine zN (by simp[l1,l2]) λk a b=>?_;have hk:k<n:=by simpa using b
   simp[l1,l2,hk]
  rw[em];generalize (List.range n)=ks;generalize ([]:WR)=acc;induction ks generalizing acc with|nil=>rfl|cons k ks ih=>simp only[iU,List.map_cons];split<;>simp_all
 rw[e,qz,vX] at L;unfold meet;have m1':=mu one o1;have m2':=mu other o2;have a1':=ad one o1;have a2':=ad other o2;by_cases q:(pairs one other).all (λp=>oX p.1 p.2)=true;rw[Ue q] at L;obtain⟨_,t,_,L⟩:=L;simp only[List.nil_append] at L;rw[Ue q];rw[show T []=D.tup [] from rfl,O5] at L;unfold mI AI zL;exact rn;rw[Zj q] at L;obtain⟨s',t,L⟩:=L;rw[Zj q];rw[show T []=D.tup [] from rfl] at L;unfold mI AI zL;exact rn;intro i k hk acc t ht hP;obtain⟨rfl,hk⟩:=aW hk;have hf:free (some t)=true:=ht;have e1:∀x:Int,aU (T acc) (.tup [.int x])=some (T<|acc++[x]):=λx=>b7 acc [x] (by simp[fU];lia);have i1:=bM (ahead one n) k Zl Zl;have i2:=bM (ahead other n) k Zl Zl;simp only[N9] at i1 i2;generalize (ahead one n).getD k 0=x at *;generalize (ahead other n).getD k 0=y at *;have g6:aj 6 (.int (k:Int)) [.sh<|T one,.sh<|T other,.sh<|.int (n:Int),.sh<|T<|ahead one n,.sh<|T<|ahead other n,.sh<|T acc,t]=.ok () [.sh<|T one,.sh<|T other,.sh<|.int (n:Int),.sh<|T<|ahead one n,.sh<|T<|ahead other n,.sh<|T acc,.sh<|.int k]:=by simp[hf]
 have x1:aB (aj 6) g0 (.int k) [.sh<|T one,.sh<|T other,.sh<|.int (n:Int),.sh<|T<|ahead one n,.sh<|T<|ahead other n,.sh<|T acc,t]=if oX x y then .ok .nx [.sh<|T one,.sh<|T other,.sh<|.int (n:Int),.sh<|T<|ahead one n,.sh<|T<|ahead other n,.sh<|T<|acc++[pk x y],.sh<|.int k] else .ok (.rt .aK) [.sh<|T one,.sh<|T other,.sh<|.int (n:Int),.sh<|T<|ahead one n,.sh<|T<|ahead other n,.sh<|T acc,.sh<|.int k]:=by
  have n1:=bz x y;have n2:=bz x 1;have n3:=bz y 1;have n4:=dw x 1;have e2:oX x y=(decide (x=1)||decide (y=1)||decide (x=y)):=by simp[oX,Bool.or_assoc]
  have e3:pk x y=if decide (x=1)=true then y else x:=by simp[pk]
  rw[e2,e3,aB,g6,ag];have j1:ah (T<|ahead one n) (.int (k:Int))=some (.int x):=i1;have j2:ah (T<|ahead other n) (.int (k:Int))=some (.int y):=i2;clear er mu ad zp i1 i2;generalize T (ahead one n)=A at *;generalize T (ahead other n)=B at *;generalize T one=O1 at *;generalize T other=O2 at *;clear mx;generalize decide (x=1)=b1 at *;generalize decide (y=1)=b2 at *;generalize decide (x=y)=b3 at *;have e1x:=e1 x;have e1y:=e1 y;unfold g0;cases b1;cases b2;cases b3;exact ao;exact ao;cases b3<;>exact ao;cases b2<;>cases b3<;>exact ao
 unfold Mb;dsimp only;rw[x1];by_cases q:oX x y=true;rw[Ue q,Ue q];exact⟨by simp[hP],.sh<|.int k,rfl,rfl⟩;rw[Zj q,Zj q];exact⟨acc,.sh<|.int k,rfl⟩
def Sm(xs:WR):Prop:=∀x∈xs,-100000<=x/\x<=100000
theorem MV(i j:Nat)(hi:i<32)(hj:j<32):eqB (.str<|nm i) (.str<|nm j)=decide (i=j):=by rw[Ka];exact MC i j hi hj
theorem nF(n k:Nat)(d:Nat)(h:k<=n):jy n d (some (k:Int))=k:=by unfold jy;dsimp only;rw[if_neg Zl];lia
@[simp] theorem kQ(n d:Nat):jy n d none=d:=QW
def wo(s:WR)(k:Nat):WR:=s.take k++s.drop (k+1)
def pin(s:WR)(k:Nat)(x:Int):WR:=s.take k++x::s.drop k
def rep(s:WR)(k:Nat)(x:Int):WR:=s.take k++x::s.drop (k+1)
theorem uL:∀(a b:WR),ak (a++b)=ak a*ak b|[],b=>by simp[ak]|x::a,b=>by simp only[List.cons_append,ak,uL a b];rw[Int.mul_assoc]
def aG(ss:XW):D:=.lst (ss.map T)
theorem Q1A(ss:XW)(i:Nat)(s:WR)(h:ss[i]?=some s):vR (ss.map T) (i:Int)=some (T s):=by refine jQ _ _ _ Zl ?_;simp[h]
theorem ed(ss:XW):cu (aG ss)=some (.int ss.length):=by simp[aG]
theorem FD(ss:XW)(i:Nat)(s:WR)(h:ss[i]?=some s):ah (aG ss) (.int i)=some (T s):=Q1A ss i s h
theorem b9{s t m:WR}(h:meet s t=some m):m.length=max s.length t.length:=by unfold meet at h;split at h;cases h;simp[pairs];cases h
theorem Gp(n:Nat)(s:WR):VP.plain (n+1) (T s)=true:=by unfold T;rw[VP.plain];exact gg n s
theorem E9(k:Nat)(h:k<32):kT (nm k)=true:=by have h':=EU h Uz;rw[lR h'];exact List.all_eq_true.mp kJ.1 _ (DF h')
inductive PL where
 |given (j:Int)|gy (s:WR) (x:Int)|turn (a:Nat) (o:WR)|cut (a:Nat) (k b st m:Int)|drop (a:Nat) (k p:Int)|wide (a:Nat) (k:Int)|spread (a:Nat) (t:WR)|shape (a:Nat) (t:WR)|shift (a:Nat) (k n x:Int)|one (d a:Nat)|both (d a b:Nat)|bx (a b c:Nat)|fold (d a:Nat) (k:Int)|run (d a:Nat) (k:Int)|pick (a:Nat) (k:Int) (b:Nat)|join (a b:Nat) (k:Int)
abbrev Ra:=List PL
instance:Inhabited PL:=⟨.given 0⟩
def PL.k:PL->Nat|.given _=>0|.gy _ _=>1|.turn _ _=>2|.cut _ _ _ _ _=>3|.drop _ _ _=>4|.wide _ _=>5|.spread _ _=>6|.shape _ _=>7|.shift _ _ _ _=>8|.one _ _=>9|.both _ _ _=>10|.bx _ _ _=>11|.fold _ _ _=>12|.run _ _ _=>13|.pick _ _ _=>14|.join _ _ _=>15
def PL.ps:PL->List D|.given j=>[.int j]|.gy s x=>[T s,.int x]|.turn a o=>[.int a,T o]|.cut a k b st m=>[.int a,.int k,.int b,.int st,.int m]|.drop a k p=>[.int a,.int k,.int p]|.wide a k=>[.int a,.int k]|.spread a t=>[.int a,T t]|.shape a t=>[.int a,T t]|.shift a k n x=>[.int a,.int k,.int n,.int x]|.one d a=>[.str<|nm d,.int a]|.both d a b=>[.str<|nm d,.int a,.int b]|.bx a b c=>[.int a,.int b,.int c]|.fold d a k=>[.str<|nm d,.int a,.int k]|.run d a k=>[.str<|nm d,.int a,.int k]|.pick a k b=>[.int a,.int k,.int b]|.join a b k=>[.int a,.int b,.int k]
def PL.d(l:PL):D:=.tup (.str (nm l.k)::l.ps)
def PL.ns:PL->List Nat|.given _=>[]|.gy _ _=>[]|.turn a _=>[a]|.cut a _ _ _ _=>[a]|.drop a _ _=>[a]|.wide a _=>[a]|.spread a _=>[a]|.shape a _=>[a]|.shift a _ _ _=>[a]|.one _ a=>[a]|.both _ a b=>[a,b]|.bx a b c=>[a,b,c]|.fold _ a _=>[a]|.run _ a _=>[a]|.pick a _ b=>[a,b]|.join a b _=>[a,b]
def PL.mU:PL->Prop|.one d _=>d<32|.both d _ _=>d<32|.fold d _ _=>d<32|.run d _ _=>d<32|_=>True
theorem PL.NQ(l:PL):l.k<16:=by cases l<;>simp[PL.k]
theorem PL.jL(l:PL):l.ns.length<=3:=by cases l<;>simp[PL.ns]
theorem PL.kind(l:PL):ah l.d (.int 0)=some (.str<|nm l.k):=by unfold PL.d;simp
theorem PL.named(l:PL):n6 [l.d]=.ok (.lst<|l.ns.map λa=>D.int (a:Nat)) []:=by cases l<;>kernel_rfl!
def PL.ok(l:PL):Prop:=l.mU
theorem PL.plain(l:PL)(h:l.mU)(n:Nat):VP.plain (n+2) l.d=true:=by have f:∀k,k<32->kT (nm k)=true:=E9;have p:∀s:WR,VP.plain (n+1) (T s)=true:=Gp n;cases l<;>simp[PL.d,PL.k,PL.ps,PL.mU,VP.plain,eT,p,f] at h ⊢<;>exact f _ h
def Pg(ls:Ra):D:=.lst (ls.map PL.d)
theorem Cz(ls:Ra)(i:Nat)(l:PL)(h:ls[i]?=some l):ah (Pg ls) (.int (i:Int))=some l.d:=by unfold Pg;rw[lJ];exact jQ _ _ _ Zl (by simp[h])
theorem gb(ls:Ra):cu (Pg ls)=some (.int ls.length):=by simp[Pg]
theorem DI(ls:Ra):bR (Pg ls)=some (ls.map PL.d):=rfl
theorem aO{S Tm A:Type}{g:D->M Unit}{body:M Fl}(mk:A->D)(R:S->Tm->ax)(ok:Tm->Prop):∀(as:List A)(P:Nat->S->Prop)(s:S)(t:Tm),ok t->P 0 s ->
  (∀(i:Nat)(a:A),as[i]?=some a->∀s t,ok t->P i s->∃s' t',P (i+1) s'/\ok t'/\cont (aB g body (mk a)<|R s t)=some (R s' t')) ->
  ∃s' t',P as.length s'/\ok t'/\loop g body (as.map mk) (R s t)=.ok .nx (R s' t'):=by
 intro as;induction as with|nil=>intro P s t ht hs _;exact⟨s,t,hs,ht,rfl⟩|cons a as ih=>intro P s t ht hs h;obtain⟨s1,t1,p1,o1,e1⟩:=h 0 a rfl s t ht hs;obtain⟨s2,t2,p2,o2,e2⟩:=ih (λk=>P<|k+1) s1 t1 o1 p1 λi a' ha=>h (i+1) a' (by simpa using ha);exact⟨s2,t2,by simpa using p2,o2,by rw[List.map_cons,fB e1];exact e2⟩
def Wf(ls:Ra):Prop:=∀(i:Nat)(l:PL),ls[i]?=some l->∀r∈l.ns,r<i
inductive gN(ls:Ra):Nat->Prop where
 |last:gN ls (ls.length-1)|step {i r:Nat} {l:PL}:gN ls i->ls[i]?=some l->r∈l.ns->gN ls r
theorem gN.lt{ls:Ra}(wf:Wf ls)(h0:ls≠[]){i:Nat}(h:gN ls i):i<ls.length:=by induction h with|last=>have:=List.length_pos_iff.mpr h0;lia|step h e hr ih=>have:=wf _ _ e _ hr;lia
def gM(w:Wz):D:=.lst (w.map .bl)
def a9(ks:SK):D:=.lst (ks.map λk=>.int (k:Nat))
theorem uz:∀(ns:SK)(w:Wz)(i:Nat),(ns.foldl (λw r=>w.set r true) w).length=w.length/\((ns.foldl (λw r=>w.set r true) w)[i]?=some true<->i<w.length/\(w[i]?=some true\/i∈ns))
|[],w,i=>by refine⟨rfl,⟨λh=>⟨(List.getElem?_eq_some_iff.mp h).1,.inl h⟩,λ⟨h1,h⟩=>?_⟩⟩;rcases h with h|h;exact h;simp at h
|r::ns,w,i=>by obtain⟨h1,h2⟩:=uz ns (w.set r true) i;simp only[List.foldl_cons];refine⟨by rw[h1];simp,?_⟩;rw[h2];simp only[List.length_set,List.mem_cons];constructor;rintro⟨a,b⟩;refine⟨a,?_⟩;rcases b with b|b;by_cases e:r=i;exact .inr<|.inl e.symm;rw[wD e] at b;exact .inl b;exact .inr<|.inr b;rintro⟨a,b⟩;refine⟨a,?_⟩;by_cases e:r=i;subst e;exact .inl (by rw[U4 a]);rw[wD e];rcases b with b|b|b;exact .inl b;exact absurd b.symm e;exact .inr b
theorem AN(w:Wz)(r:Nat)(b:Bool)(h:r<w.length):setAt (.int (r:Int)) (.bl b) (gM w)=some (gM<|w.set r b):=by unfold gM;rw[ma _ _ _ Zl (by simp;lia),N9,List.map_set]
theorem jY(w:Wz)(i:Nat)(b:Bool)(h:w[i]?=some b):ah (gM w) (.int (i:Int))=some (.bl b):=by unfold gM;rw[lJ];exact jQ _ _ _ Zl (by simp[h])
theorem qN(P:D)(s:Sl):∀(ns:SK)(w:Wz),(∀r∈ns,r<w.length)->∀t,free (some t)=true->∃t',free (some t')=true/\loop (aj 3) dF (ns.map λk=>D.int (k:Nat)) [.sh P,.ow<|gM w,s,t]=.ok .nx [.sh P,.ow<|gM<|ns.foldl (λw r=>w.set r true) w,s,t']|[],w,_,t,ht=>⟨t,ht,rfl⟩|r::ns,w,h,t,ht=>by have hr:=h r Uq;obtain⟨t',h1,h2⟩:=qN P s ns (w.set r true) (λx hx=>by simpa using h x<|WW _ hx) (.sh<|.int r) rfl;refine⟨t',h1,?_⟩;have il:isLst (some<|gM w)=true:=rfl;rw[WA,fB (r':=[.sh P,.ow<|gM<|w.set r true,s,.sh<|.int r]) (by simp[aB,dF,ht,il,AN w r true hr]),h2];rfl
theorem Ac(ls:Ra)(wf:Wf ls)(h0:ls≠[])(hl:ls.length<=100):∃w,xV [Pg ls]=.ok (gM w) []/\w.length=ls.length/\∀i,w[i]?=some true<->gN ls i:=by
 rw[xV,du _ _ _ _ rfl];have hn:=List.length_pos_iff.mpr h0;have c:az 1 (cj<|aa 0) (aj 4) (VP.ret true) dh [.sh<|Pg ls,.no,.no,.no]=.ok (gM<|List.replicate ls.length false) [.sh<|Pg ls,.no,.no,.no]:=by refine dN PL.d (λ_=>D.bl false) ls (by simp[DI]) Zl (by simp[gM,List.map_const']) λl hl acc=>?_;simp[dh]
 have ln:=gb ls;have st:=AN (List.replicate ls.length false) (ls.length-1) true (by simp;lia);rw[show (((ls.length-1:Nat)):Int)=(ls.length:Int)-1 by lia] at st;have il:∀w,isLst (some<|gM w)=true:=λ_=>rfl;have dn:DA [.int<|(ls.length:Int)-1,.int<|-1,.int<|-1]=some ((List.range ls.length).map λ(k:Nat)=>.int<|(ls.length:Int)-1-k):=by
  have d:DA [.int<|(ls.length:Int)-1,.int<|-1,.int<|-1]=if (-1:Int)=-1/\(-(2 ^ 62)<=(ls.length:Int)-1/\(ls.length:Int)-1<2 ^ 62)/\-(2 ^ 62)<=(-1:Int)/\(-1:Int)<2 ^ 62 then some ((List.range ((ls.length:Int)-1 - -1).toNat).map λ(k:Nat)=>.int<|(ls.length:Int)-1-k) else none:=rfl
  rw[d,Ue ⟨rfl,⟨Zl,Zl⟩,by decide,by decide⟩];rw[show ((ls.length:Int)-1 - -1).toNat=ls.length by lia]
 obtain⟨w,t,⟨hw,h1,h2,h3⟩,ht,L⟩:=aO (g:=aj 2) (body:=bY) (λ(k:Nat)=>D.int<|(ls.length:Int)-1-k) (λ(w:Wz)(t:Sl×Sl)=>[.sh<|Pg ls,.ow<|gM w,t.1,t.2]) iV (List.range ls.length)
  (λj w=>w.length=ls.length/\(∀i,w[i]?=some true->gN ls i)/\w[ls.length-1]?=some true/\∀i,ls.length-j<=i->w[i]?=some true->∀l,ls[i]?=some l->∀r∈l.ns,w[r]?=some true)
  ((List.replicate ls.length false).set (ls.length-1) true) (.no,.no) ⟨rfl,rfl⟩ ⟨ZA,λi h=>by
   by_cases e:ls.length-1=i;subst e;exact .last;rw[wD e,uo] at h;split at h<;>simp at h,by rw[List.getElem?_set_self (by simp;lia)],λi hi h l hl=>by
   have:=(List.getElem?_eq_some_iff.mp hl).1;lia⟩ (by
  intro j k hk w t ht hP;obtain⟨rfl,hj⟩:=aW hk;obtain⟨t2,t3⟩:=t;obtain⟨f2,f3⟩:=ht;obtain⟨hw,p1,p2,p3⟩:=hP;dsimp only at f2 f3;have iW:ls.length-1-k<ls.length:=Zl;have ei:((ls.length:Int)-1-k)=((ls.length-1-k:Nat):Int):=Zl;rw[ei];obtain⟨l,hl⟩:∃l,ls[ls.length-1-k]?=some l:=⟨_,Rg iW⟩;have ix:=Cz ls _ l hl;generalize hi:ls.length-1-k=i at *;obtain⟨b,hb⟩:∃b,w[i]?=some b:=⟨_,Rg Zl⟩;have bi:=jY w i b hb;cases b with
  |false=>refine⟨w,(.sh<|.int i,t3),⟨hw,p1,p2,λm hm h x hx=>?_⟩,⟨rfl,f3⟩,?_⟩;by_cases e:m=i;subst e;rw[hb] at h;cases h;exact p3 m Zl h x hx;simp[aB,bY,f2,bi]|true=>
   have nb:=λr hr=>wf i l hl r hr;obtain⟨t',TJ,L⟩:=qN (Pg ls) (.sh<|.int i) l.ns w (λr hr=>by have:=nb r hr;lia) t3 f3;have mg:=uz l.ns w;refine⟨l.ns.foldl (λw r=>w.set r true) w,(.sh<|.int i,t'),⟨by rw[(mg 0).1];exact hw,λm h=>?_,?_,λm hm h x hx r hr=>?_⟩,⟨rfl,TJ⟩,?_⟩;rcases ((mg m).2.mp h).2 with q|q;exact p1 m q;exact .step (p1 i hb) hl q;exact(mg _).2.mpr ⟨Zl,.inl p2⟩;rcases ((mg m).2.mp h).2 with q|q;by_cases e:m=i;subst e;rw[hl] at hx;cases hx;exact(mg r).2.mpr ⟨by have:=nb r hr;lia,.inr hr⟩;have:=p3 m Zl q x hx r hr;exact(mg r).2.mpr ⟨(List.getElem?_eq_some_iff.mp this).1,.inl this⟩;have:=nb m q;by_cases e:m=i
   lia
   lia
   simp[aB,bY,f2,bi,ix,PL.named,L])
 obtain⟨t2,t3⟩:=t;simp only[List.length_range] at h3;refine⟨w,?_,hw,λi=>⟨h1 i,λh=>?_⟩⟩;simp[IQ,c,il,ln,st,dn,L];induction h with|last=>exact h2|step h e hr ih=>exact h3 _ Zl ih _ e _ hr
theorem inK(k:Nat)(hk:k<32)(js:SK)(hj:∀j∈js,j<32):((js.map λj=>D.str<|nm j).any λy=>eqB y<|.str<|nm k)=decide (k∈js)/\(js.map λj=>D.str<|nm j).all fK=true:=by induction js with|nil=>simp|cons j js ih=>obtain⟨h1,h2⟩:=ih λx hx=>hj x<|WW _ hx;refine⟨?_,?_⟩;rw[WA,Zc,h1,MV _ _ (hj j Uq) hk];by_cases e:j=k;simp[e];have e':¬k=j:=λz=>e z.symm;simp[e,e'];rw[WA,Pw,h2];rfl
theorem NI(k:Nat)(hk:k<32)(js:SK)(hj:∀j∈js,j<32):inD false (.str<|nm k) (.tup<|js.map λj=>D.str<|nm j)=some (.bl<|decide<|k∈js):=by obtain⟨h1,h2⟩:=inK k hk js hj;unfold inD;rw[DG];dsimp only;rw[h2,h1];rfl
def aQ(ls:Ra)(i:Nat):PL:=ls.getD i default
def kd(ls:Ra)(i:Nat):Nat:=(aQ ls i).k
def sd(ss:XW)(i:Nat):WR:=ss.getD i []
def eK(ls:Ra)(i:Nat):SK:=(aQ ls i).ns
theorem CC(ls:Ra)(i:Nat):kd ls i<32:=by have:=(aQ ls i).NQ;unfold kd;lia
theorem oQ(ls:Ra)(i:Nat)(h:i<ls.length):ah (Pg ls) (.int (i:Int))=some (aQ ls i).d:=Cz ls i _ (by simp[aQ,h])
theorem a7(ss:XW)(i:Nat)(h:i<ss.length):ah (aG ss) (.int (i:Int))=some (T<|sd ss i):=FD ss i _ (by simp[sd,h])
def eS(ls:Ra)(w:Wz)(p:Nat):SK:=(List.range ls.length).flatMap λi=>if w.getD i false then((eK ls i).filter (λr=>decide<|r=p)).map λ_=>i else []
theorem zO(ls:Ra)(l:PL)(P W:D)(p i:Nat)(acc:D)(t:Sl):az 1 (cj<|aw n6 [.val<|aa 5]) (aj 6) dq de [.sh P,.sh W,.sh<|.int p,.ow acc,.sh<|.int i,.sh l.d]=.ok (a9<|(l.ns.filter λr=>decide<|r=p).map λ_=>i) [.sh P,.sh W,.sh<|.int p,.ow acc,.sh<|.int i,.sh l.d]:=by
 have n:=l.named;have fw:=l.jL;generalize l.ns=ns at n fw ⊢;generalize l.d=ld at n ⊢;refine vA (λ(a:Nat)=>D.int (a:Nat)) (λr=>decide<|r=p) (λ_=>D.int i) ns ao Zl (by rw[a9,P9];rfl) (λa _ acc=>?_) λa _ _ acc=>?_;have e:fI (.int (a:Int)) (.int (p:Int))=some (.bl<|decide<|a=p):=by rw[dw];congr 3;exact propext Int.ofNat_inj
 dsimp only[List.cons_append,List.nil_append];unfold dq;exact ao;dsimp only[List.cons_append,List.nil_append];unfold de;exact ao
theorem rD(ls:Ra):jA (ls.map PL.d)=(List.range ls.length).map λ(i:Nat)=>D.tup [.int i,(aQ ls i).d]:=by
 rw[qr];refine zN ZA λi h1 h2=>?_;have h:i<ls.length:=by simpa using h2
 simp[h,aQ]
theorem zJ(ls:Ra)(w:Wz)(p:Nat)(hw:w.length=ls.length)(hl:ls.length<=100):BL [Pg ls,gM w,.int p]=.ok (a9<|eS ls w p) []:=by
 rw[BL,du _ _ _ _ rfl];have en:ke [Pg ls]=some ((List.range ls.length).map λ(i:Nat)=>D.tup [.int i,(aQ ls i).d]):=by unfold Pg;rw[qq,rD]
 let f:=λ(i:Nat)=>if w.getD i false then((eK ls i).filter (λr=>decide<|r=p)).map λ_=>i else []
 obtain⟨_,t,_,L⟩:=gY (g:=dy [4,5]) (body:=bX) (λ(i:Nat)=>D.tup [.int i,(aQ ls i).d]) (λ(s:SK)(t:Sl×Sl)=>[.sh<|Pg ls,.sh<|gM w,.sh<|.int p,.ow<|a9 s,t.1,t.2]) iV
  (λk s=>s.length<=3*k) (λs i=>s++f i) (List.range ls.length) [] (.no,.no) ⟨rfl,rfl⟩ ZA (by
  intro j i hi s t ht hP;obtain⟨t4,t5⟩:=t;obtain⟨f4,f5⟩:=ht;dsimp only at f4 f5;obtain⟨rfl,hi⟩:=aW hi;obtain⟨b,hb⟩:∃b,w[i]?=some b:=⟨_,Rg Zl⟩;have hg:w.getD i false=b:=by simp[hb]
  have bi:=jY w i b hb;have il:isLst (some<|a9 s)=true:=rfl;have fw:=(aQ ls i).jL;cases b with
  |false=>
   have e:f i=[]:=by simp[f,hb]
   refine⟨by rw[e];simp;lia,(.sh<|.int i,.sh (aQ ls i).d),⟨rfl,rfl⟩,?_⟩;rw[e];generalize (aQ ls i).d=ld;simp[aB,bX,f4,f5,bi]
  |true=>
   have e:f i=(((aQ ls i).ns.filter (λr=>decide<|r=p)).map λ_=>i):=by simp[f,hb,eK]
   have pc:=zO ls (aQ ls i) (Pg ls) (gM w) p i (a9 s) .no;rw[<-e] at pc;have le:(f i).length<=3:=by rw[e,Wj];exact YQ (FL _ _) fw
   have ex:Bp (a9<|f i) (a9 s)=some (a9<|s++f i):=by unfold a9;rw[E8 _ _ (by simp[fU];lia),R4]
   refine⟨by simp;lia,(.sh<|.int i,.sh (aQ ls i).d),⟨rfl,rfl⟩,?_⟩;generalize (aQ ls i).d=ld at *;generalize f i=fi at *;simp[aB,bX,f4,f5,bi,pc,il,ex])
 have e:(List.range ls.length).foldl (λs i=>s++f i) []=eS ls w p:=by
  have g:∀(xs:SK)(a:SK),xs.foldl (λs i=>s++f i) a=a++xs.flatMap f:=by intro xs;induction xs with|nil=>intro a;simp|cons x xs ih=>intro a;simp[ih]
  rw[g];rfl
 rw[e] at L;have l0:D.lst []=a9 []:=rfl;simp[Iy,l0,en,L]
def K4:SK:=[0,12,13,14]
def S3:SK:=[6,10,11]
def H2:SK:=[7,14]
def Ma(ls:Ra)(ss:XW)(i p:Nat):Bool:=decide (kd ls i∈S3)&&!decide (sd ss i=sd ss p)
def kA(ls:Ra)(ss:XW)(p:Nat)(ms:SK):Bool:=decide (p=ls.length-1)||decide (kd ls p∈K4)||ms.any (λi=>decide<|kd ls i∈H2)||(!decide (kd ls p=1)&&(decide (1<ms.length)||ms.any λi=>Ma ls ss i p))
theorem wO(ls:Ra)(ss:XW)(i p:Nat)(hi:i<ls.length)(hp:p<ls.length)(hs:ss.length=ls.length):xT [Pg ls,aG ss,.int i,.int p]=.ok (.bl<|Ma ls ss i p) []:=by rw[xT,du _ _ _ _ rfl];have ix:=oQ ls i hi;have kk:=PL.kind<|aQ ls i;have kl:=CC ls i;have ik:inD false (.str<|nm<|kd ls i) (.tup [.str<|nm 6,.str<|nm 10,.str<|nm 11])=some (.bl<|decide<|kd ls i∈S3):=NI (kd ls i) kl S3 (by simp[S3]);have s1:=a7 ss i Zl;have s2:=a7 ss p Zl;have e:(aQ ls i).k=kd ls i:=rfl;rw[e] at kk;generalize (aQ ls i).d=ld at *;unfold Ma;by_cases h:kd ls i∈S3;rw[Ud h] at ik;simp[AM,ix,kk,ik,s1,s2,h];rw[T1 h] at ik;simp[AM,ix,kk,ik,h]
theorem Q2I(ls:Ra)(ss:XW)(p:Nat)(ms:SK)(hp:p<ls.length)(hs:ss.length=ls.length)(hm:∀i∈ms,i<ls.length)(hl:ms.length<=1000):BD [Pg ls,aG ss,.int p,a9 ms]=.ok (.bl<|kA ls ss p ms) []:=by
 have ix:=oQ ls p hp;have kk:=PL.kind<|aQ ls p;have kl:=CC ls p;have e:(aQ ls p).k=kd ls p:=rfl;rw[e] at kk;have i4:inD false (.str<|nm<|kd ls p) (.tup [.str<|nm 0,.str<|nm 12,.str<|nm 13,.str<|nm 14])=some (.bl<|decide<|kd ls p∈K4):=NI (kd ls p) kl K4 (by simp[K4]);have ln:=gb ls;have c1:az 1 (cj<|aa 3) (aj 5) (VP.ret true) jZ [.sh<|Pg ls,.sh<|aG ss,.sh<|.int p,.sh<|a9 ms,.sh<|.str<|nm<|kd ls p]=.ok (.lst<|ms.map λi=>D.bl<|decide<|kd ls i∈H2) [.sh<|Pg ls,.sh<|aG ss,.sh<|.int p,.sh<|a9 ms,.sh<|.str<|nm<|kd ls p]:=by refine dN (λ(i:Nat)=>D.int i) (λi=>D.bl<|decide<|kd ls i∈H2) ms rfl Zl rfl λi hi acc=>?_;have ixi:=oQ ls i<|hm i hi;have kki:=PL.kind<|aQ ls i;have ei:(aQ ls i).k=kd ls i:=rfl;rw[ei] at kki;have ik:inD false (.str<|nm<|kd ls i) (.tup [.str<|nm 7,.str<|nm 14])=some (.bl<|decide<|kd ls i∈H2):=NI (kd ls i) (CC ls i) H2 (by simp[H2]);generalize (aQ ls i).d=ld at *;dsimp only[List.cons_append,List.nil_append];unfold jZ;exact ao
 have c2:az 1 (cj<|aa 3) (aj 5) (VP.ret true) j3 [.sh<|Pg ls,.sh<|aG ss,.sh<|.int p,.sh<|a9 ms,.sh<|.str<|nm<|kd ls p]=.ok (.lst<|ms.map λi=>D.bl<|Ma ls ss i p) [.sh<|Pg ls,.sh<|aG ss,.sh<|.int p,.sh<|a9 ms,.sh<|.str<|nm<|kd ls p]:=by refine dN (λ(i:Nat)=>D.int i) (λi=>D.bl<|Ma ls ss i p) ms rfl Zl rfl λi hi acc=>?_;have:=wO ls ss i p (hm i hi) hp hs;dsimp only[List.cons_append,List.nil_append];unfold j3;exact ao
 have a1:=Az (λi=>decide<|kd ls i∈H2) ms;have a2:=Az (λi=>Ma ls ss i p) ms;have e1:=Bm (kd ls p) 1 kl Zl;have lm:cu (a9 ms)=some (.int ms.length):=by simp[a9]
 generalize (aQ ls p).d=ld at *;generalize D.lst (ms.map λi=>D.bl<|decide<|kd ls i∈H2)=L1 at *;generalize D.lst (ms.map λi=>D.bl<|Ma ls ss i p)=L2 at *;generalize a9 ms=N at *;generalize Pg ls=Pl at *;generalize aG ss=Sl at *;have g1:Nc (.int (ms.length:Int)) (.int 1)=some (.bl<|decide<|1<ms.length):=by rw[Cc];congr 3;exact propext Zl
 have g2:fI (.int (p:Int)) (.int<|(ls.length:Int)-1)=some (.bl<|decide<|p=ls.length-1):=by rw[dw];congr 3;exact propext Zl
 unfold kA BD HX;generalize decide (p=ls.length-1)=b1 at *;generalize decide (kd ls p∈K4)=b2 at *;generalize decide (kd ls p=1)=b3 at *;generalize decide (1<ms.length)=b4 at *;generalize ms.any (λi=>decide<|kd ls i∈H2)=b5 at *;generalize ms.any (λi=>Ma ls ss i p)=b6 at *;cases b1;cases b2;cases b5;cases b3;cases b4;cases b6<;>exact rn;exact rn;exact rn;exact rn;exact rn;exact rn
def qF(ls:Ra)(ss:XW)(w:Wz):Wz:=(List.range ls.length).map λp=>w.getD p false&&kA ls ss p (eS ls w p)
theorem oW(ls:Ra)(w:Wz)(p i:Nat):i∈eS ls w p<->i<ls.length/\w.getD i false=true/\p∈eK ls i:=by
 unfold eS;rw[List.mem_flatMap];constructor;rintro⟨j,hj,h⟩;rw[List.mem_range] at hj;by_cases q:w.getD j false=true;rw[Ue q] at h;obtain⟨r,hr,e⟩:=List.mem_map.mp h;subst e;rw[List.mem_filter] at hr;have:r=p:=by simpa using hr.2
 subst this;exact⟨hj,q,hr.1⟩;rw[Zj q] at h;simp at h;rintro⟨h1,h2,h3⟩;refine⟨i,List.mem_range.mpr h1,?_⟩;rw[Ue h2];exact List.mem_map.mpr ⟨p,List.mem_filter.mpr ⟨h3,ZA⟩,rfl⟩
theorem wa(ls:Ra)(w:Wz)(p:Nat):(eS ls w p).length<=3*ls.length:=by
 unfold eS;generalize ls.length=n;induction n with
 |zero=>simp|succ n ih=>
  rw[List.range_succ,List.flatMap_append,U0];have:([n].flatMap λi=>if w.getD i false then((eK ls i).filter (λr=>decide<|r=p)).map λ_=>i else []).length<=3:=by rw[List.flatMap_cons,List.flatMap_nil,Xq];split;rw[Wj];exact YQ (FL _ _) (aQ ls n).jL;simp
  lia
theorem p9(ls:Ra)(ss:XW)(wf:Wf ls)(h0:ls≠[])(hl:ls.length<=100)(hs:ss.length=ls.length):∃w,xV [Pg ls]=.ok (gM w) []/\w.length=ls.length/\(∀i,w[i]?=some true<->gN ls i)/\xJ [Pg ls,aG ss]=.ok (gM<|qF ls ss w) []:=by
 obtain⟨w,h1,h2,h3⟩:=Ac ls wf h0 hl;refine⟨w,h1,h2,h3,?_⟩;rw[xJ,du _ _ _ _ rfl];have en:ke [Pg ls]=some ((List.range ls.length).map λ(i:Nat)=>D.tup [.int i,(aQ ls i).d]):=by unfold Pg;rw[qq,rD]
 let f:=λp=>w.getD p false&&kA ls ss p (eS ls w p);obtain⟨_,t,_,L⟩:=gY (g:=dy [4,5]) (body:=eP) (λ(i:Nat)=>D.tup [.int i,(aQ ls i).d]) (λ(s:Wz)(t:Sl×Sl)=>[.sh<|Pg ls,.sh<|aG ss,.sh<|gM w,.ow<|gM s,t.1,t.2]) iV
  (λk s=>s.length=k) (λs i=>s++[f i]) (List.range ls.length) [] (.no,.no) ⟨rfl,rfl⟩ rfl (by
  intro j i hi s t ht hP;obtain⟨t4,t5⟩:=t;obtain⟨f4,f5⟩:=ht;dsimp only at f4 f5;obtain⟨rfl,hi⟩:=aW hi;obtain⟨b,hb⟩:∃b,w[i]?=some b:=⟨_,Rg Zl⟩;have hg:w.getD i false=b:=by simp[hb]
  have bi:=jY w i b hb;have il:isLst (some<|gM s)=true:=rfl;have nl:=wa ls w i;have na:=zJ ls w i h2 hl;have ik:=Q2I ls ss i (eS ls w i) hi hs (λm hm=>((oW ls w i m).mp hm).1) Zl;have ap:dJ (.bl<|f i) (gM s)=some (gM<|s++[f i]):=by unfold gM;rw[eX _ _ (by simp;lia),R4];rfl
  refine⟨by simp[hP],(.sh<|.int i,.sh (aQ ls i).d),⟨rfl,rfl⟩,?_⟩;generalize (aQ ls i).d=ld at *;cases b with
  |false=>
   have e:f i=false:=by simp only[f,hg,Bool.false_and]
   rw[e] at ap ⊢;simp[aB,eP,f4,f5,bi,il,ap]
  |true=>
   have e:f i=kA ls ss i (eS ls w i):=by simp only[f,hg,Bool.true_and]
   rw[e] at ap ⊢;simp[aB,eP,f4,f5,bi,na,ik,il,ap])
 have e:(List.range ls.length).foldl (λs i=>s++[f i]) []=qF ls ss w:=by
  have g:∀(xs:SK)(a:Wz),xs.foldl (λs i=>s++[f i]) a=a++xs.map f:=by intro xs;induction xs with|nil=>intro a;simp|cons x xs ih=>intro a;simp[ih]
  rw[g];rfl
 rw[e] at L;have l0:D.lst []=gM []:=rfl;obtain⟨t4,t5⟩:=t;unfold Ia;simp only[mP,pF,uR,L8,if_neg (show ¬(false=true) by decide)];rw[nG,show aM 2 _ _=.ok .nx [.sh<|Pg ls,.sh<|aG ss,.sh<|gM w,.no,.no,.no] by simp[h1],wN];rw[nG,show fq 3 _ _=.ok .nx [.sh<|Pg ls,.sh<|aG ss,.sh<|gM w,.ow<|gM [],.no,.no] by simp[l0],wN];rw[nG,show ip _ _ _ _=.ok .nx [.sh<|Pg ls,.sh<|aG ss,.sh<|gM w,.ow<|gM<|qF ls ss w,t4,t5] by simp[en,L,-List.map_map],wN];simp
theorem meet_comm(one other:WR):meet one other=meet other one:=by
 have e:pairs other one=(pairs one other).map λp=>(p.2,p.1):=by unfold pairs;rw[Nat.max_comm];simp
 unfold meet;rw[e];have h1:∀x y,oX y x=oX x y:=λx y=>by unfold oX;grind
 have h2:∀x y,oX x y=true->pk y x=pk x y:=λx y=>by unfold oX pk;grind
 simp only[List.all_map,List.map_map,Function.comp_def,h1];split;rename_i q;congr 2;refine List.map_congr_left λp hp=>(h2 _ _ ?_).symm;exact List.all_eq_true.mp q p hp;rfl
theorem meet_self(S:WR):meet S S=some S:=by
 have z:=jt S S;rw[Nat.max_self] at z;have e:ahead S S.length=S:=by simp[ahead]
 rw[e] at z;have a:(pairs S S).all (λp=>oX p.1 p.2)=true:=by
  rw[<-vX,<-z];refine List.all_eq_true.mpr λp hp=>?_;have:p.1=p.2:=by obtain⟨i,hi,rfl⟩:=List.mem_iff_getElem.mp hp;simp
  simp[oX,this]
 unfold meet;rw[Ue a,<-O5,<-z];congr 1;refine zN ZA λi h1 h2=>?_;simp[pk]
theorem xY:∀(a t:WR),a.length=t.length->(((a.zip t).all (λp=>oX p.1 p.2)=true/\(a.zip t).map (λp=>pk p.1 p.2)=t)<->∀i<t.length,a.getD i 0=1\/a.getD i 0=t.getD i 0)
|[],[],_=>ZA|x::a,y::t,h=>by
 have ih:=xY a t (by simpa using h);simp only[List.zip_cons_cons,List.all_cons,List.map_cons,Bool.and_eq_true,List.cons.injEq];constructor;rintro⟨⟨h1,h2⟩,h3,h4⟩ i hi;cases i with|zero=>simp only[List.getD_cons_zero];unfold pk at h3;split at h3;exact .inl ‹_›;exact .inr h3|succ i=>simp only[List.getD_cons_succ];exact ih.mp ⟨h2,h4⟩ i (by simpa using hi)
 intro k;have k0:=k 0 ZA;simp only[List.getD_cons_zero] at k0;have:=ih.mpr λi hi=>by have:=k (i+1) (by simpa using hi);simpa only[List.getD_cons_succ] using this
 refine⟨⟨?_,this.1⟩,?_,this.2⟩;unfold oX;rcases k0 with h|h<;>simp[h];unfold pk;split;rfl;rcases k0 with h|h;contradiction;exact h
theorem yZ(s:WR)(n i:Nat)(h:s.length<=n)(hi:i<n):(ahead s n).getD i 0=if i<n-s.length then 1 else s.getD (i-(n-s.length)) 0:=by unfold ahead;by_cases c:i<n-s.length;rw[Ue c,zT,B5 (by simpa using c)];simp[c];rw[Zj c,zT,OG (by simp;lia),zT];simp
theorem mO(s t:WR)(h:s.length<=t.length)(k:∀k<s.length,s.getD k 0=1\/s.getD k 0=t.getD (t.length-s.length+k) 0):meet s t=some t:=by
 have z:=jt s t;have e:max s.length t.length=t.length:=Zl;rw[e] at z;have ht:ahead t t.length=t:=by simp[ahead]
 rw[ht] at z;have f:=xY (ahead s t.length) t (by rw[lr _ _ h]);rw[z,vX,O5] at f;obtain⟨q1,q2⟩:=f.mpr λi hi=>by rw[yZ s _ _ h hi];split;exact .inl rfl;have:=k (i-(t.length-s.length)) Zl;rwa [show t.length-s.length+(i-(t.length-s.length))=i by lia] at this
 unfold meet;rw[Ue q1,q2]
def gi(n tn:Nat):WR:=(List.range n).map λ(k:Nat)=>((k:Int)+tn) % n
def rY(n:Nat)(o:WR):Bool:=(decide ((kY n).Pairwise (·<=·))&&(kY n).isPerm o)&&(decide (o.length=n)&&(List.range n).all λ(j:Nat)=>o.contains (j:Int))
theorem DW:(List.range 5).all (λn=>(List.range 4).all λtn=>decide (max 1 n<=tn)||(rY n (gi n tn)&&rY n (gi n tn).reverse))=true:=by decide +kernel
theorem yS(n tn:Nat)(hn:n<=4)(ht:tn<max 1 n)(b:Bool):sortI (if b then(gi n tn).reverse else gi n tn)=kY n/\(if b then(gi n tn).reverse else gi n tn).length=n/\∀j:Nat,j<n->(j:Int)∈(if b then(gi n tn).reverse else gi n tn):=by
 have h:=List.all_eq_true.mp (List.all_eq_true.mp DW n (by simp;lia)) tn (by simp;lia);have h2:decide (max 1 n<=tn)=false:=by simp;lia
 rw[h2,Bool.false_or,ML] at h;have key:∀o:WR,rY n o=true->sortI o=kY n/\o.length=n/\∀j:Nat,j<n->(j:Int)∈o:=λo q=>by simp only[rY,Bool.and_eq_true,decide_eq_true_eq,List.all_eq_true] at q;exact⟨(uW (List.isPerm_iff.mp q.1.2) q.1.1).symm,q.2.1,λj hj=>by simpa using q.2.2 j (by simpa using hj)⟩
 cases b;exact key _ h.1;exact key _ h.2
theorem Q23(s:WR):ak s.reverse=ak s:=by induction s with|nil=>rfl|cons x s ih=>rw[PZ,uL,ih];simp only[ak];rw[Int.mul_one,Int.mul_comm]
def Told(n:Nat)(G S:Nat->WR):PL->WR->Prop|.given j,t=>∃k:Nat,j=k/\k<n/\t=G k|.gy s x,t=>t=s/\Rt x|.turn a o,t=>sortI o=kY (S a).length/\o.length=(S a).length/\t=o.map λx=>(S a).getD x.toNat 0|.cut a k b st m,t=>∃j:Nat,k=j/\j<(S a).length/\(st≠0/\-3<=st/\st<=3)/\0<=m/\(0<m->(0<=b/\b<(S a).getD j 0)/\0<=b+st*(m-1)/\b+st*(m-1)<(S a).getD j 0)/\t=rep (S a) j m|.drop a k p,t=>∃j:Nat,k=j/\j<(S a).length/\(0<=p/\p<(S a).getD j 0)/\t=wo (S a) j|.wide a k,t=>∃j:Nat,k=j/\j<=(S a).length/\t=pin (S a) j 1|.spread a u,t=>meet (S a) u=some u/\t=u|.shape a u,t=>ak (S a)=ak u/\t=u|.shift a k _ x,t=>∃j:Nat,k=j/\j<(S a).length/\Rt x/\t=S a|.one d a,t=>(16<=d/\d<=18)/\t=S a|.both d a b,t=>(19<=d/\d<=25)/\meet (S a) (S b)=some t|.bx a b c,t=>∃u,meet (S a) (S b)=some u/\meet u (S c)=some t|.fold d a k,t=>∃j:Nat,k=j/\j<(S a).length/\d∈[19,21,22,23]/\((S a).getD j 0=0->d≠22/\d≠23)/\t=wo (S a) j|.run d a k,t=>∃j:Nat,k=j/\j<(S a).length/\d∈[19,21,22,23]/\t=S a|.pick a k b,t=>∃(j:Nat)(y:Int),k=j/\j<(S a).length/\S b=[y]/\t=rep (S a) j y|.join a b k,t=>∃j:Nat,k=j/\j<(S a).length/\(S a).length=(S b).length/\wo (S a) j=wo (S b) j/\t=rep (S a) j ((S a).getD j 0+(S b).getD j 0)
theorem Told.mono{n:Nat}{G S S':Nat->WR}{l:PL}{t:WR}(h:Told n G S l t)(e:∀a∈l.ns,S' a=S a):Told n G S' l t:=by cases l<;>simp only[PL.ns,List.mem_cons,List.not_mem_nil,or_false,forall_eq_or_imp,forall_eq] at e<;>simp only[Told] at h ⊢<;>first|exact h|simpa only[e] using h
theorem Told.mU{n:Nat}{G S:Nat->WR}{l:PL}{t:WR}(h:Told n G S l t):l.mU:=by
 cases l<;>simp only[Told,PL.mU] at h ⊢
 lia
 lia
 obtain⟨_,_,_,h,_⟩:=h;simp at h;lia;obtain⟨_,_,_,h,_⟩:=h;simp at h;lia
def SI(s:WR):Prop:=s.length<=4/\(∀x∈s,0<=x/\x<=24)/\ak s<=27
def Pre(s:WR):Prop:=s.length<=9/\∀x∈s,0<=x/\x<=100
theorem SI.pre{s:WR}(h:SI s):Pre s:=⟨by have:=h.1;lia,λx hx=>by have:=h.2.1 x hx;lia⟩
theorem SI.get{s:WR}(h:SI s)(k:Nat):0<=s.getD k 0/\s.getD k 0<=24:=by by_cases hk:k<s.length;have:=h.2.1 s[k]<|DF hk;simpa[hk] using this;rw[zT,F4 Zl];simp
theorem SI.uK{s:WR}(h:SI s):0<=ak s:=(sg s λx hx=>by have:=h.2.1 x hx;lia).1
theorem jz(s:WR)(k:Nat)(hk:k<=s.length):fH (T s) none (some (k:Int))=some (T<|s.take k):=by have:fH (T s) none (some (k:Int))=some (.tup<|cutD (s.map .int) none<|some (k:Int)):=rfl;rw[this,cutD,Wj,nF _ _ _ hk,kQ];simp[T]
theorem iT(s:WR)(k:Nat)(hk:k<=s.length):fH (T s) (some (k:Int)) none=some (T<|s.drop k):=by have:fH (T s) (some (k:Int)) none=some (.tup<|cutD (s.map .int) (some (k:Int)) none):=rfl;rw[this,cutD,Wj,nF _ _ _ hk,kQ,MI ZA];simp[T]
theorem jI(s:WR)(h:Pre s):mH [T s]=.ok (.int<|ak s) []:=by rw[mH,du _ _ _ _ rfl];obtain⟨_,t,_,L⟩:=gY (g:=aj 2) (body:=kD) D.int (λ(p:Int)(t:Sl)=>[.sh<|T s,.sh<|.int p,t]) ko (λ_ _=>True) (λp x=>p*x) s 1 .no rfl trivial (by intro i x hx p t ht _;have hm:=h.2 x<|Rb hx;have hf:free (some t)=true:=ht;refine⟨trivial,.sh<|.int x,rfl,?_⟩;simp[aB,kD,hf,bN p x Zl Zl]);rw[jS,Int.one_mul] at L;simp[Ic,L]
inductive fV{A B:Type}(P:A->B->Prop):List A->List B->Prop where
 |nil:fV P [] []|cons {a:A} {b:B} {as:List A} {bs:List B} (h:P a b) (t:fV P as bs):fV P (a::as) (b::bs)
theorem fV.len{A B:Type}{P:A->B->Prop}:∀{as:List A}{bs:List B},fV P as bs->as.length=bs.length|_,_,.nil=>rfl|_,_,.cons _ t=>by simp[fV.len t]
theorem fV.right{A B:Type}{P:A->B->Prop}:∀{as:List A}{bs:List B},fV P as bs->∀b∈bs,∃a∈as,P a b|_,_,.cons (a:=a) h t,b,hb=>by rcases List.mem_cons.mp hb with rfl|hb;exact⟨a,Uq,h⟩;obtain⟨a',h1,h2⟩:=fV.right t b hb;exact⟨a',WW _ h1,h2⟩
theorem lD{A:Type}{it:M (List D)}{elt:M D}{k:Nat}{r0:ax}(mk:A->D)(R:Nat->ax)(P:A->Int->Prop)(as:List A)(p:Nat)(SR:∀q,(R q).length=k)(oE:it r0=.ok (as.map mk) (R p))(hL:as.length<=1000)
  (he:∀a∈as,∀q,∃q' b,P a b/\∀acc,elt (R q++[.sh<|mk a,.ow acc])=.ok (.int b) (R q'++[.sh<|mk a,.ow acc])) :
  ∃q' bs,az 1 it (aj k) (ret true) elt r0=.ok (Z bs) (R q')/\fV P as bs:=by
 have ch:∀(a:A)(q:Nat),∃z:Nat×Int,a∈as->P a z.2/\∀acc,elt (R q++[.sh<|mk a,.ow acc])=.ok (.int z.2) (R z.1++[.sh<|mk a,.ow acc]):=λa q=>by by_cases h:a∈as;obtain⟨q',b,h1,h2⟩:=he a h q;exact⟨(q',b),λ_=>⟨h1,h2⟩⟩;exact⟨(0,0),λz=>absurd z h⟩
 let F:=λa q=>Classical.choose<|ch a q;have hF:∀a q,a∈as->P a (F a q).2/\∀acc,elt (R q++[.sh<|mk a,.ow acc])=.ok (.int (F a q).2) (R (F a q).1++[.sh<|mk a,.ow acc]):=λa q=>Classical.choose_spec<|ch a q;have h:=(J6 (elt:=elt) mk R (λ_ _=>True) (λq a=>(F a q).1) (λq a=>.int (F a q).2) as p SR oE Zl trivial (λi a ha q acc _=>⟨trivial,(hF a q<|Rb ha).2 acc⟩)).1;have em:∀(as:List A)(s:Nat),outs (λq a=>(F a q).1) (λq a=>D.int (F a q).2) s as=(outs (λq a=>(F a q).1) (λq a=>(F a q).2) s as).map D.int:=by intro as;induction as with|nil=>intro s;rfl|cons a as ih=>intro s;simp[outs,ih]
 have ea:∀(bs:List A)(s:Nat),(∀a∈bs,a∈as)->fV P bs (outs (λq a=>(F a q).1) (λq a=>(F a q).2) s bs):=by intro bs;induction bs with|nil=>intro s _;exact .nil|cons a bs ih=>intro s hb;exact .cons (hF a s<|hb a Uq).1 (ih _ λx hx=>hb x<|WW _ hx)
 rw[em] at h;exact⟨_,_,h,ea as p λa h=>h⟩
theorem fV.S6{P:Int->Int->Prop}:∀{as bs:WR},fV P as bs->∀k<as.length,P (as.getD k 0) (bs.getD k 0)|_,_,.cons h _,0,_=>h|_,_,.cons _ t,k+1,hk=>by simpa only[List.getD_cons_succ] using fV.S6 t k (by simpa using hk)
theorem drawn(ns:WR)(q n:Nat)(h:0<n):∃b:Nat,bC [Row ns q,.int n]=.ok (.int b) [Row ns<|q+1]/\b<n:=by have t:=pJ ns q n Zl;have r1:0<=cell ns q % (n:Int):=Int.emod_nonneg _ Zl;have r2:cell ns q % (n:Int)<n:=y5 _ Zl;refine⟨(cell ns q % (n:Int)).toNat,?_,Zl⟩;rwa [show ((cell ns q % (n:Int)).toNat:Int)=cell ns q % (n:Int) by lia]
theorem aR(ns:WR)(q:Nat)(n:Int)(h:0<n):∃b:Int,bC [Row ns q,.int n]=.ok (.int b) [Row ns<|q+1]/\0<=b/\b<n:=⟨_,pJ ns q n h,Int.emod_nonneg _ Zl,y5 _ h⟩
theorem gr(n:Nat)(h:n<=1000):qa [.int (n:Int)]=some ((List.range n).map λ(k:Nat)=>.int k):=pn _ _ Zl Zl Zl
theorem Q16(ns:WR)(q a:Nat)(s:WR)(hs:SI s):∃(o:WR)(q':Nat),f9 [Row ns q,.int a,T s,.int 0]=.ok (.tup [.tup [.str<|nm 2,.int a,T o],T<|o.map λx=>s.getD x.toNat 0]) [Row ns q']/\sortI o=kY s.length/\o.length=s.length:=by
 have hl:=hs.1;obtain⟨N,hN⟩:∃N:Nat,N=max 1 s.length:=⟨_,rfl⟩;obtain⟨tn,tm,htn⟩:=drawn ns q N Zl;have mx:maxD [.int 1,.int (s.length:Int)]=some (.int (N:Int)):=by rw[rU];congr 2;lia
 have er:=gr s.length Zl;have hc:az 1 (bF [(aa 4)]) (aj 10) (VP.ret true) iP [.io<|Row ns<|q+1,.sh<|.int a,.sh<|T s,.sh<|.int 0,.sh<|.int s.length,.sh<|.int tn,.no,.no,.no,.no]=.ok (Z<|gi s.length tn) [.io<|Row ns<|q+1,.sh<|.int a,.sh<|T s,.sh<|.int 0,.sh<|.int s.length,.sh<|.int tn,.no,.no,.no,.no]:=by refine dN (λ(k:Nat)=>D.int k) (λk=>D.int<|((k:Int)+tn) % s.length) (List.range s.length) ao (by simp;lia) (by simp[Z,gi,Function.comp_def]) λk hk acc=>?_;have vL:=List.mem_range.mp hk;have md:=cb ((k:Int)+tn) s.length Zl;unfold iP;exact ao
 have zl:∀o:WR,sortI o=kY s.length->o.length=s.length->az 1 (cj<|aa 6) (aj 10) (VP.ret true) iQ [.io<|Row ns<|q+2,.sh<|.int a,.sh<|T s,.sh<|.int 0,.sh<|.int s.length,.sh<|.int tn,.sh<|Z o,.no,.no,.no]=.ok (Z<|o.map λx=>s.getD x.toNat 0) [.io<|Row ns<|q+2,.sh<|.int a,.sh<|T s,.sh<|.int 0,.sh<|.int s.length,.sh<|.int tn,.sh<|Z o,.no,.no,.no]:=λo ho Wo=>by refine dN D.int (λx=>D.int<|s.getD x.toNat 0) o ao Zl (by simp[Z,Function.comp_def]) λx hx acc=>?_;obtain⟨j,rfl,hj⟩:=mh ho hx;have ix:ah (T s) (.int j)=some (.int<|s.getD (j:Int).toNat 0):=bM s j Zl Zl;unfold iQ;exact ao
 obtain⟨b,t2,_,_⟩:=aR ns (q+1) 2 Zl;by_cases c:b=1;obtain⟨o1,o2,_⟩:=yS s.length tn hl Zl true;simp only[if_true] at o1 o2;have h2:=zl _ o1 o2;have rv:GL (Z<|gi s.length tn)=some (Z (gi s.length tn).reverse):=by simp[Z,GL]
 generalize gi s.length tn=o at *;refine⟨o.reverse,q+2,?_,o1,o2⟩;unfold f9 nU;exact rn;obtain⟨o1,o2,_⟩:=yS s.length tn hl Zl false;simp only[Bool.false_eq_true,if_false] at o1 o2;have h2:=zl _ o1 o2;generalize gi s.length tn=o at *;refine⟨o,q+2,?_,o1,o2⟩;unfold f9 nU;exact rn
theorem VE(ns:WR)(q a:Nat)(s:WR)(hs:SI s):∃(k q':Nat),f9 [Row ns q,.int a,T s,.int 1]=.ok (.tup [.tup [.str<|nm 5,.int a,.int k],T<|pin s k 1]) [Row ns q']/\k<=s.length:=by have hl:=hs.1;obtain⟨k,tm,hk⟩:=drawn ns q (s.length+1) Zl;rw[show ((s.length+1:Nat):Int)=(s.length:Int)+1 by lia] at tm;have c1:=jz s k Zl;have c2:=iT s k Zl;have a1:aU (T<|s.take k) (.tup [.int 1])=_:=b7 (s.take k) [1] (by simp[fU];lia);have a2:=b7 (s.take k++[1]) (s.drop k) (by simp[fU];lia);rw[show s.take k++[1]++s.drop k=pin s k 1 by simp[pin]] at a2;exact⟨k,q+1,by unfold f9 nU;exact rn,Zl⟩
theorem VF(ns:WR)(q a:Nat)(s:WR)(hs:SI s):∃(u:WR)(q':Nat),f9 [Row ns q,.int a,T s,.int 2]=.ok (.tup [.tup [.str<|nm 6,.int a,T u],T u]) [Row ns q']/\meet s u=some u/\Pre u:=by
 have hl:=hs.1;have t4:=λq=>pJ ns q 4 Zl;obtain⟨q1,ys,hc,he⟩:=lD (it:=cj<|aa 2) (elt:=iR) (k:=10) (r0:=[.io<|Row ns q,.sh<|.int a,.sh<|T s,.sh<|.int 2,.sh<|.int s.length,.no,.no,.no,.no,.no]) D.int (λq=>[.io<|Row ns q,.sh<|.int a,.sh<|T s,.sh<|.int 2,.sh<|.int s.length,.no,.no,.no,.no,.no]) (λx y=>(0<=y/\y<=24)/\(x=1\/x=y)) s q (λ_=>rfl) ao Zl (λx hx q'=>by
  obtain⟨y,tt,_,_⟩:=aR ns q' 4 Zl;have hb:=hs.2.1 x hx;have i0:ah (.lst [.int x,.int y]) (.int<|if x=1 then 1 else 0)=some (.int<|if x=1 then y else x):=by split<;>rfl
  have ii:intD [.bl<|decide<|x=1]=some (.int<|if x=1 then 1 else 0):=by rw[jj];simp
  refine⟨q'+1,if x=1 then y else x,by split<;>lia,λacc=>?_⟩;unfold iR;exact ao)
 have hy:∀y∈ys,0<=y/\y<=24:=λy hy=>by obtain⟨_,_,h⟩:=he.right y hy;exact h.1
 have yl:=he.len;have hg:=λk (hk:k<s.length)=>(he.S6 k hk).2;obtain⟨b,tt,_,_⟩:=aR ns q1 2 Zl;by_cases c:b=1;obtain⟨v,t5,v0,v4⟩:=aR ns (q1+1) 4 Zl;have ad:aU (.tup [.int v]) (T ys)=some (T (v::ys)):=b7 [v] ys (by simp[fU];lia);refine⟨v::ys,q1+2,by unfold f9 nU;exact rn,mO _ _ (by simp;lia) λk hk=>?_,by simp;lia,λx hx=>?_⟩;rw[show (v::ys).length-s.length+k=k+1 by simp;lia,List.getD_cons_succ];exact hg k hk;rcases List.mem_cons.mp hx with rfl|hx
 lia
 have:=hy x hx;lia;refine⟨ys,q1+1,by unfold f9 nU;exact rn,mO _ _ Zl λk hk=>?_,Zl,λx hx=>by have:=hy x hx;lia⟩;rw[show ys.length-s.length+k=k by lia];exact hg k hk
theorem VG(ns:WR)(q a:Nat)(s:WR)(hs:SI s):∃(u:WR)(q':Nat),f9 [Row ns q,.int a,T s,.int 3]=.ok (.tup [.tup [.str<|nm 7,.int a,T u],T u]) [Row ns q']/\ak s=ak u/\Pre u:=by
 have hl:=hs.1;have cl:=jI s hs.pre;have h0:=hs.uK;have hpr:=hs.2.2;obtain⟨c,tt,_,_⟩:=aR ns q 4 Zl;have rv:uS (T s)=some (T s.reverse):=by simp[T,uS]
 obtain⟨t,ht,hpt,hq⟩:∃t,ah (.lst [T s.reverse,.tup [.int<|ak s],.tup [.int 1,.int<|ak s],.tup [.int<|ak s,.int 1]]) (.int c)=some (T t)/\ak s=ak t/\Pre t:=by have c4:c=0\/c=1\/c=2\/c=3:=Zl;rcases c4 with c|c|c|c<;>rw[c];exact⟨s.reverse,rfl,(Q23 s).symm,by simp;lia,λx hx=>by have:=hs.2.1 x (by simpa using hx);lia⟩;exact⟨[ak s],rfl,by simp[ak],ZA,λx hx=>by simp at hx;subst hx;lia⟩;exact⟨[1,ak s],rfl,by simp[ak],ZA,λx hx=>by simp at hx;lia⟩;exact⟨[ak s,1],rfl,by simp[ak],ZA,λx hx=>by simp at hx;lia⟩
 refine⟨t,q+1,?_,hpt,hq⟩;unfold f9 nU;exact rn
theorem Hv(n:Nat)(G S:Nat->WR)(ns:WR)(q a:Nat)(hs:SI (S a))(w:Int)(w0:0<=w)(w4:w<4):∃(l:PL)(t:WR)(q':Nat),f9 [Row ns q,.int a,T<|S a,.int w]=.ok (.tup [l.d,T t]) [Row ns q']/\Told n G S l t/\l.ns=[a]/\Pre t:=by
 have ww:w=0\/w=1\/w=2\/w=3:=Zl;rcases ww with rfl|rfl|rfl|rfl;obtain⟨o,q',e,h1,h2⟩:=Q16 ns q a _ hs;exact⟨.turn a o,_,q',e,⟨h1,h2,rfl⟩,rfl,by have:=hs.1;simp;lia,λx hx=>by obtain⟨y,_,rfl⟩:=List.mem_map.mp hx;have:=hs.get y.toNat;lia⟩;obtain⟨k,q',e,h⟩:=VE ns q a _ hs;refine⟨.wide a k,_,q',e,⟨k,rfl,h,rfl⟩,rfl,by have:=hs.1;simp[pin];lia,λx hx=>?_⟩;simp only[pin] at hx;rcases List.mem_append.mp hx with hx|hx;have:=hs.2.1 x<|OO hx;lia;rcases List.mem_cons.mp hx with rfl|hx
 lia
 have:=hs.2.1 x<|F2 hx;lia;obtain⟨u,q',e,h,h2⟩:=VF ns q a _ hs;exact⟨.spread a u,_,q',e,⟨h,rfl⟩,rfl,h2⟩;obtain⟨u,q',e,h,h2⟩:=VG ns q a _ hs;exact⟨.shape a u,_,q',e,⟨h,rfl⟩,rfl,h2⟩
theorem cx(s:WR)(k:Nat)(x:Int)(hk:k<s.length)(hl:s.length<=100):qt [T s,.int k,.int x]=.ok (T<|rep s k x) []:=by have a1:aU (T<|s.take k) (.tup [.int x])=_:=b7 (s.take k) [x] (by simp[fU];lia);have a2:=b7 (s.take k++[x]) (s.drop<|k+1) (by simp[fU];lia);have c1:=jz s k Zl;have c2:=iT s (k+1) Zl;rw[show (((k+1:Nat)):Int)=(k:Int)+1 by lia] at c2;rw[show s.take k++[x]++s.drop (k+1)=rep s k x by simp[rep]] at a2;unfold qt Ie;exact rn
theorem sr{s:WR}{k:Nat}{x:Int}(h:Pre s)(hx:0<=x/\x<=100)(hk:k<s.length):Pre (rep s k x):=by refine⟨by have:=h.1;simp[rep];lia,λy hy=>?_⟩;simp only[rep] at hy;rcases List.mem_append.mp hy with hy|hy;exact h.2 y<|OO hy;rcases List.mem_cons.mp hy with rfl|hy;exact hx;exact h.2 y (F2 hy)
theorem Mn{s:WR}{k:Nat}(h:Pre s):Pre (wo s k):=by refine⟨by have:=h.1;simp[wo];omega,λy hy=>?_⟩;simp only[wo] at hy;rcases List.mem_append.mp hy with hy|hy;exact h.2 y<|OO hy;exact h.2 y (F2 hy)
theorem KW(m:Int)(h0:0<=m)(h4:m<4):∃d,(d∈[19,21,22,23]/\(m<2->d≠22/\d≠23))/\ah (.lst [.str<|nm 19,.str<|nm 21,.str<|nm 22,.str<|nm 23]) (.int m)=some (.str<|nm d):=by have:m=0\/m=1\/m=2\/m=3:=Zl;rcases this with rfl|rfl|rfl|rfl;exact⟨19,by decide,rfl⟩;exact⟨21,by decide,rfl⟩;exact⟨22,by decide,rfl⟩;exact⟨23,by decide,rfl⟩
theorem Q0S(n:Nat)(G S:Nat->WR)(ns:WR)(q a:Nat)(hs:SI (S a))(Kv:S a≠[])(w:Int)(w0:4<=w)(w9:w<9):∃(l:PL)(t:WR)(q':Nat),ub [Row ns q,.int a,T<|S a,.int w]=.ok (.tup [l.d,T t]) [Row ns q']/\Told n G S l t/\l.ns=[a]/\Pre t:=by
 unfold ub Io;obtain⟨s,hS⟩:∃s,s=S a:=⟨_,rfl⟩;rw[<-hS] at hs Kv ⊢;have hl:=hs.1;have hp:=hs.pre;have hn:=List.length_pos_iff.mpr Kv;obtain⟨j,ts,hj⟩:=drawn ns q s.length hn;obtain⟨z,hz⟩:∃z,s.getD j 0=z:=⟨_,rfl⟩;have ix:ah (T s) (.int j)=some (.int z):=by have:=bM s j Zl Zl;rw[N9,hz] at this;exact this
 have sb:=hs.get j;rw[hz] at sb;have c1:=jz s j Zl;have c2:=iT s (j+1) Zl;rw[show (((j+1:Nat)):Int)=(j:Int)+1 by lia] at c2;have a1:aU (T<|s.take j) (T<|s.drop<|j+1)=some (T<|wo s j):=b7 (s.take j) (s.drop<|j+1) (by simp[fU];lia);by_cases c4:w=4;obtain⟨x,t9,_,_⟩:=aR ns (q+1) 9 Zl;obtain⟨y,tR,y0,y1⟩:=aR ns (q+2) 1000003 Zl;exact⟨.shift a j (x-4) y,s,q+3,rn,⟨j,rfl,by rw[<-hS];exact hj,⟨y0,y1⟩,hS⟩,rfl,hp⟩;by_cases c5:w=5;obtain⟨x,t4,x0,x4⟩:=aR ns (q+1) 4 Zl;have ii:intD [.bl<|decide<|0<z]=some (.int<|if 0<z then 1 else 0):=by rw[jj];simp
 obtain⟨m,hm⟩:∃m:Int,m=if 0<z then 4 else 2:=⟨_,rfl⟩
 have i2:ah (.lst [.int 2,.int 4]) (.int<|if 0<z then 1 else 0)=some (.int m):=by rw[hm];split<;>rfl
 have m4:(m=4\/m=2)/\(z=0->m=2):=by rw[hm];split<;>lia
 have md:=cb x m Zl;obtain⟨d,hd,id⟩:=KW (x % m) (Int.emod_nonneg _ Zl) (by have:=y5 x (show 0<m by lia);lia);have c5':¬w=4:=c4;refine⟨.fold d a j,wo s j,q+2,rn,⟨j,rfl,by rw[<-hS];exact hj,hd.1,λh=>hd.2 ?_,by rw[hS]⟩,rfl,Mn hp⟩;rw[<-hS,hz] at h;have:=y5 x (show 0<m by lia)
 lia
 by_cases c6:w=6;obtain⟨x,t4,x0,x4⟩:=aR ns (q+1) 4 Zl;obtain⟨d,hd,id⟩:=KW x x0 x4;exact⟨.run d a j,s,q+2,rn,⟨j,rfl,by rw[<-hS];exact hj,hd.1,hS⟩,rfl,hp⟩;by_cases z0:z=0;exact⟨.one 18 a,s,q+1,rn,⟨Zl,hS⟩,rfl,hp⟩;obtain⟨b,tz,b0,b1⟩:=aR ns (q+1) z Zl;by_cases c7:w=7;exact⟨.drop a j b,wo s j,q+2,rn,⟨j,rfl,by rw[<-hS];exact hj,⟨b0,by rw[<-hS,hz];exact b1⟩,by rw[hS]⟩,rfl,Mn hp⟩;obtain⟨x,t3,x0,x3⟩:=aR ns (q+2) 3 Zl;obtain⟨v,t2,v0,v2⟩:=aR ns (q+3) 2 Zl;have f1:=gF (z-1-b) (1+x) Zl Zl;have f2:=gF b (1+x) Zl Zl;have k1:0<=(z-1-b) / (1+x):=Int.ediv_nonneg Zl Zl;have k2:(z-1-b) / (1+x)*(1+x)<=z-1-b:=Int.ediv_mul_le _ Zl;have k3:0<=b / (1+x):=Int.ediv_nonneg Zl Zl;have k4:b / (1+x)*(1+x)<=b:=Int.ediv_mul_le _ Zl;have k5:(z-1-b) / (1+x)<=z-1-b:=Int.ediv_le_self _ Zl;have k6:b / (1+x)<=b:=Int.ediv_le_self _ Zl;have key:∀(u m:Int),0<=m->0<=u->m<=u+1->0<m->(1+x)*(m-1)<=u*(1+x):=λu m _ _ h3 h4=>by rw[Int.mul_comm];exact Int.mul_le_mul_of_nonneg_right Zl Zl
 have T5:∀m:Int,0<m->0<=(1+x)*(m-1):=λm h=>FH Zl Zl;by_cases c:v=1;generalize b / (1+x)=u at *;obtain⟨m,tm,m0,m1⟩:=aR ns (q+4) (u+2) Zl;have ch:=cx s j (u+1-m) hj Zl;refine⟨.cut a j b (0-(1+x))<|u+1-m,rep s j<|u+1-m,q+5,rn,⟨j,rfl,by rw[<-hS];exact hj,Zl,Zl,λh=>?_,by rw[hS]⟩,rfl,sr hp Zl hj⟩;rw[<-hS,hz];have e:(0-(1+x))*(u+1-m-1)=-((1+x)*(u+1-m-1)):=by rw[Int.zero_sub,Int.neg_mul]
 have:=key u (u+1-m) Zl k3 Zl h;have:=T5 (u+1-m) h;rw[e];lia;generalize (z-1-b) / (1+x)=u at *;obtain⟨m,tm,m0,m1⟩:=aR ns (q+4) (u+2) Zl;have ch:=cx s j (u+1-m) hj Zl;refine⟨.cut a j b (1+x)<|u+1-m,rep s j<|u+1-m,q+5,rn,⟨j,rfl,by rw[<-hS];exact hj,Zl,Zl,λh=>?_,by rw[hS]⟩,rfl,sr hp Zl hj⟩;rw[<-hS,hz];have:=key u (u+1-m) Zl k1 Zl h;have:=T5 (u+1-m) h
 lia
theorem xq(s:WR)(h:∀x∈s,0<=x/\x<=24)(k:Nat):0<=back s k/\back s k<=24:=by unfold back;split;rename_i hk;have h2:s.length-1-k<s.length:=Wa;have:=h s[s.length-1-k]<|DF h2;simpa[h2] using this;omega
theorem yt{s t m:WR}(h1:∀x∈s,0<=x/\x<=24)(h2:∀x∈t,0<=x/\x<=24)(h:meet s t=some m):∀x∈m,0<=x/\x<=24:=λx hx=>by unfold meet at h;split at h;cases h;rw[List.mem_reverse] at hx;obtain⟨p,hp,rfl⟩:=List.mem_map.mp hx;unfold pairs at hp;obtain⟨k,_,rfl⟩:=List.mem_map.mp hp;have:=xq s h1 k;have:=xq t h2 k;unfold pk;dsimp only;split<;>lia;cases h
def Af(ss:XW):Prop:=∀s∈ss,SI s
theorem Af.at{ss:XW}(h:Af ss){i:Nat}(hi:i<ss.length):SI (sd ss i):=by
 have:sd ss i=ss[i]:=by simp[sd,hi]
 rw[this];exact h _ (DF hi)
theorem US(m:Int)(h0:0<=m)(h3:m<3):∃d,(16<=d/\d<=18)/\ah (.lst [.str<|nm 16,.str<|nm 17,.str<|nm 18]) (.int m)=some (.str<|nm d):=by have:m=0\/m=1\/m=2:=Zl;rcases this with rfl|rfl|rfl;exact⟨16,Zl,rfl⟩;exact⟨17,Zl,rfl⟩;exact⟨18,Zl,rfl⟩
theorem UR(m:Int)(h0:0<=m)(h7:m<7):∃d,(19<=d/\d<=25)/\ah (.lst [.str<|nm 19,.str<|nm 20,.str<|nm 21,.str<|nm 22,.str<|nm 23,.str<|nm 24,.str<|nm 25]) (.int m)=some (.str<|nm d):=by have:m=0\/m=1\/m=2\/m=3\/m=4\/m=5\/m=6:=Zl;rcases this with rfl|rfl|rfl|rfl|rfl|rfl|rfl;exact⟨19,Zl,rfl⟩;exact⟨20,Zl,rfl⟩;exact⟨21,Zl,rfl⟩;exact⟨22,Zl,rfl⟩;exact⟨23,Zl,rfl⟩;exact⟨24,Zl,rfl⟩;exact⟨25,Zl,rfl⟩
theorem rV{s t m:WR}(hs:SI s)(ht:SI t)(e:meet s t=some m):mI [T s,T t]=.ok (T m) []/\(m.length<=4/\∀x∈m,0<=x/\x<=24):=by have:=oS s t hs.1 ht.1;rw[e] at this;exact⟨this,by have:=b9 e;have:=hs.1;have:=ht.1;lia,yt hs.2.1 ht.2.1 e⟩
theorem yu{s t:WR}(hs:SI s)(ht:SI t)(e:meet s t=none):mI [T s,T t]=.ok .aK []:=by have:=oS s t hs.1 ht.1;rwa [e] at this
theorem pre_of{m:WR}(h:m.length<=4/\∀x∈m,0<=x/\x<=24):Pre m:=⟨Zl,λx hx=>by have:=h.2 x hx;lia⟩
theorem C6(s:WR):isND (T s) .aK=some (.bl false):=rfl
theorem Oj:isND .aK .aK=some (.bl true):=rfl
theorem fL(s:WR)(j:Nat)(h:j<s.length):ah (T s) (.int (j:Int))=some (.int<|s.getD j 0):=by have:=bM s j Zl Zl;rwa [N9] at this
theorem Q2B{s t:WR}{j:Nat}(h:s.length=t.length)(e:rep s j 0=rep t j 0):wo s j=wo t j:=by unfold rep at e;have h1:=List.append_inj e (by simp[h]);unfold wo;rw[h1.1,(List.cons.inj h1.2).2]
section
variable(N:Nat)(G:Nat->WR)(ns:WR)(q a ix_:Nat)(ss:XW)(ky:Af ss)(ha:a<ss.length)(hi:ix_<ss.length)(h1:(sd ss ix_).length=1)
include ky ha hi h1
theorem Uy:∃(l:PL)(t:WR)(q':Nat),dO [Row ns q,.int a,aG ss,.int 9,.int ix_]=.ok (.tup [l.d,T t]) [Row ns q',aG ss]/\Told N G (sd ss) l t/\(∀r∈l.ns,r<ss.length)/\Pre t:=by unfold dO mD;have ia:=a7 ss a ha;have ln:=ed ss;obtain⟨b,tb,hb⟩:=drawn ns q ss.length Zl;obtain⟨x,t3,x0,x3⟩:=aR ns (q+1) 3 Zl;obtain⟨d,hd,id⟩:=US x x0 x3;exact⟨.one d a,sd ss a,q+2,rn,⟨hd,rfl⟩,λr hr=>by simp[PL.ns] at hr;lia,(ky.at ha).pre⟩
theorem N8:∃(l:PL)(t:WR)(q':Nat),dO [Row ns q,.int a,aG ss,.int 10,.int ix_]=.ok (.tup [l.d,T t]) [Row ns q',aG ss]/\Told N G (sd ss) l t/\(∀r∈l.ns,r<ss.length)/\Pre t:=by unfold dO mD;have ia:=a7 ss a ha;have ln:=ed ss;obtain⟨b,tb,hb⟩:=drawn ns q ss.length Zl;have ib:=a7 ss b hb;obtain⟨x,t7,x0,x7⟩:=aR ns (q+1) 7 Zl;obtain⟨d,hd,id⟩:=UR x x0 x7;have n0:=Oj;cases e:meet (sd ss a) (sd ss b) with|none=>have m1:=yu (ky.at ha) (ky.at hb) e;obtain⟨m2,mp⟩:=rV (ky.at ha) (ky.at ha)<|meet_self _;exact⟨.both d a a,sd ss a,q+2,rn,⟨hd,meet_self _⟩,λr hr=>by simp[PL.ns] at hr;lia,pre_of mp⟩|some m=>obtain⟨m1,mp⟩:=rV (ky.at ha) (ky.at hb) e;have n1:=C6 m;exact⟨.both d a b,m,q+2,rn,⟨hd,e⟩,λr hr=>by simp[PL.ns] at hr;lia,pre_of mp⟩
theorem Q0H:∃(l:PL)(t:WR)(q':Nat),dO [Row ns q,.int a,aG ss,.int 11,.int ix_]=.ok (.tup [l.d,T t]) [Row ns q',aG ss]/\Told N G (sd ss) l t/\(∀r∈l.ns,r<ss.length)/\Pre t:=by unfold dO mD;have ia:=a7 ss a ha;have ln:=ed ss;obtain⟨b,tb,hb⟩:=drawn ns q ss.length Zl;have ib:=a7 ss b hb;obtain⟨c,tc,hc⟩:=drawn ns (q+1) ss.length Zl;have ic:=a7 ss c hc;have n0:=Oj;cases e:meet (sd ss a) (sd ss b) with|none=>have m1:=yu (ky.at ha) (ky.at hb) e;exact⟨.bx a a a,sd ss a,q+2,rn,⟨_,meet_self _,meet_self _⟩,λr hr=>by simp[PL.ns] at hr;lia,(ky.at ha).pre⟩|some m=>obtain⟨m1,mp⟩:=rV (ky.at ha) (ky.at hb) e;have n1:=C6 m;have m2:=oS m (sd ss c) mp.1 (ky.at hc).1;cases e2:meet m (sd ss c) with|none=>rw[e2] at m2;have m3:mI [T m,T<|sd ss c]=.ok .aK []:=m2;exact⟨.bx a a a,sd ss a,q+2,rn,⟨_,meet_self _,meet_self _⟩,λr hr=>by simp[PL.ns] at hr;lia,(ky.at ha).pre⟩|some n=>rw[e2] at m2;have m3:mI [T m,T<|sd ss c]=.ok (T n) []:=m2;have n2:=C6 n;have nl:=b9 e2;have vH:=(ky.at hc).1;exact⟨.bx b a c,n,q+2,rn,⟨_,(meet_comm _ _).trans e,e2⟩,λr hr=>by simp[PL.ns] at hr;lia,pre_of ⟨Zl,yt mp.2 (ky.at hc).2.1 e2⟩⟩
theorem Oa:∃(l:PL)(t:WR)(q':Nat),dO [Row ns q,.int a,aG ss,.int 12,.int ix_]=.ok (.tup [l.d,T t]) [Row ns q',aG ss]/\Told N G (sd ss) l t/\(∀r∈l.ns,r<ss.length)/\Pre t:=by
 unfold dO mD;have ia:=a7 ss a ha;have ln:=ed ss;obtain⟨b,tb,hb⟩:=drawn ns q ss.length Zl;obtain⟨n,t3,hn⟩:=drawn ns (q+1) 3 Zl;have t3:bC [Row ns<|q+1,.int 3]=.ok (.int n) [Row ns<|q+1+1]:=t3;have er:=gr n Zl;obtain⟨q1,ys,hc,he⟩:=lD (it:=bF [(aw bC [.io 0,.val<|mC<|.int 3])]) (elt:=mE) (k:=11) (r0:=[.io<|Row ns<|q+1,.sh<|.int a,.io<|aG ss,.sh<|.int 12,.sh<|.int ix_,.sh<|T<|sd ss a,.sh<|.int b,.no,.no,.no,.no]) (λ(k:Nat)=>D.int k) (λq=>[.io<|Row ns q,.sh<|.int a,.io<|aG ss,.sh<|.int 12,.sh<|.int ix_,.sh<|T<|sd ss a,.sh<|.int b,.no,.no,.no,.no]) (λ_ y=>0<=y/\y<=24) (List.range n) (q+1+1) (λ_=>rfl) ao (by simp;lia) (λk _ q'=>by obtain⟨y,tt,_,_⟩:=aR ns q' 3 Zl;exact⟨q'+1,1+y,Zl,λacc=>by unfold mE;exact ao⟩);have hy:∀y∈ys,0<=y/\y<=24:=λy hy=>by obtain⟨_,_,h⟩:=he.right y hy;exact h
 have yl:=he.len;simp only[List.length_range] at yl;obtain⟨y,tR,y0,y1⟩:=aR ns q1 1000003 Zl;exact⟨.gy ys y,ys,q1+1,rn,⟨rfl,y0,y1⟩,λr hr=>by simp[PL.ns] at hr,pre_of ⟨Zl,hy⟩⟩
theorem Q1e(w:Int)(c9:¬w=9)(Xw:¬w=10)(Xx:¬w=11)(Xy:¬w=12)(c0:sd ss a=[]):∃(l:PL)(t:WR)(q':Nat),dO [Row ns q,.int a,aG ss,.int w,.int ix_]=.ok (.tup [l.d,T t]) [Row ns q',aG ss]/\Told N G (sd ss) l t/\(∀r∈l.ns,r<ss.length)/\Pre t:=by unfold dO mD;have ia:=a7 ss a ha;rw[c0] at ia;have ln:=ed ss;obtain⟨b,tb,hb⟩:=drawn ns q ss.length Zl;have e0:fI (T []) (.tup [])=some (.bl true):=rfl;exact⟨.one 16 a,[],q+1,rn,⟨Zl,c0.symm⟩,λr hr=>by simp[PL.ns] at hr;lia,ZA,ZA⟩
theorem Ob(c0:sd ss a≠[]):∃(l:PL)(t:WR)(q':Nat),dO [Row ns q,.int a,aG ss,.int 13,.int ix_]=.ok (.tup [l.d,T t]) [Row ns q',aG ss]/\Told N G (sd ss) l t/\(∀r∈l.ns,r<ss.length)/\Pre t:=by
 unfold dO mD;have ia:=a7 ss a ha;have ln:=ed ss;obtain⟨b,tb,hb⟩:=drawn ns q ss.length Zl;have ib:=a7 ss b hb;have ii:=a7 ss ix_ hi;have hs:=ky.at ha;have e0:fI (T<|sd ss a) (.tup [])=some (.bl false):=by rw[Qz,Bl];simp[c0]
 obtain⟨j,tj,hj⟩:=drawn ns (q+1) (sd ss a).length<|List.length_pos_iff.mpr c0;obtain⟨x,t5,_,_⟩:=aR ns (q+2) 5 Zl;have fin:∀e:Nat,e<ss.length->(sd ss e).length=1->∃y,sd ss e=[y]/\ah (T<|sd ss e) (.int 0)=some (.int y)/\qt [T<|sd ss a,.int j,.int y]=.ok (T<|rep (sd ss a) j y) []/\Pre (rep (sd ss a) j y):=λe he Q5=>by have g:=(ky.at he).get 0;have:=hs.1;obtain⟨y,hy⟩:∃y,sd ss e=[y]:=List.length_eq_one_iff.mp Q5;rw[hy] at g ⊢;exact⟨y,rfl,rfl,cx _ _ _ hj Zl,sr hs.pre (by simp at g;lia) hj⟩
 obtain⟨y,hy,f1,f2,f3⟩:=fin ix_ hi h1;by_cases k5:x<4;exact⟨.pick a j ix_,_,q+3,rn,⟨j,y,rfl,hj,hy,rfl⟩,λr hr=>by simp[PL.ns] at hr;lia,f3⟩;have ne:gI (.int ((sd ss b).length:Int)) (.int 1)=some (.bl<|!decide ((sd ss b).length=1)):=by rw[bz,decide_eq_decide.mpr (show ((sd ss b).length:Int)=1<->(sd ss b).length=1 by lia)]
 by_cases kb:(sd ss b).length=1;obtain⟨y,hy,g1,g2,g3⟩:=fin b hb kb;rw[Ud kb] at ne;have ne:gI (.int ((sd ss b).length:Int)) (.int 1)=some (.bl false):=ne;exact⟨.pick a j b,_,q+3,rn,⟨j,y,rfl,hj,hy,rfl⟩,λr hr=>by simp[PL.ns] at hr;lia,g3⟩;rw[T1 kb] at ne;have ne:gI (.int ((sd ss b).length:Int)) (.int 1)=some (.bl true):=ne;exact⟨.pick a j ix_,_,q+3,rn,⟨j,y,rfl,hj,hy,rfl⟩,λr hr=>by simp[PL.ns] at hr;lia,f3⟩
theorem Oc(c0:sd ss a≠[]):∃(l:PL)(t:WR)(q':Nat),dO [Row ns q,.int a,aG ss,.int 14,.int ix_]=.ok (.tup [l.d,T t]) [Row ns q',aG ss]/\Told N G (sd ss) l t/\(∀r∈l.ns,r<ss.length)/\Pre t:=by
 unfold dO mD;have ia:=a7 ss a ha;have ln:=ed ss;obtain⟨b,tb,hb⟩:=drawn ns q ss.length Zl;have ib:=a7 ss b hb;have hs:=ky.at ha;have hl:=hs.1;have e0:fI (T<|sd ss a) (.tup [])=some (.bl false):=by rw[Qz,Bl];simp[c0]
 obtain⟨j,tj,hj⟩:=drawn ns (q+1) (sd ss a).length<|List.length_pos_iff.mpr c0;have i1:=fL (sd ss a) j hj;have fin:∀e:Nat,e<ss.length->qt [T<|sd ss a,.int j,.int<|(sd ss a).getD j 0+(sd ss e).getD j 0]=.ok (T<|rep (sd ss a) j<|(sd ss a).getD j 0+(sd ss e).getD j 0) []/\Pre (rep (sd ss a) j<|(sd ss a).getD j 0+(sd ss e).getD j 0):=λe he=>by have g:=(ky.at he).get j;have g2:=hs.get j;exact⟨cx _ _ _ hj Zl,sr hs.pre Zl hj⟩
 have ch0:=cx (sd ss a) j 0 hj Zl;obtain⟨f2,f3⟩:=fin a ha;have ne:gI (.int ((sd ss b).length:Int)) (.int ((sd ss a).length:Int))=some (.bl<|!decide ((sd ss b).length=(sd ss a).length)):=by rw[bz,decide_eq_decide.mpr (show ((sd ss b).length:Int)=(sd ss a).length<->(sd ss b).length=(sd ss a).length by lia)]
 by_cases kl:(sd ss b).length=(sd ss a).length;have ch1:=cx (sd ss b) j 0 Zl (by have:=(ky.at hb).1;lia);rw[Ud kl] at ne;have ne:gI (.int ((sd ss b).length:Int)) (.int ((sd ss a).length:Int))=some (.bl false):=ne;have nr:gI (T<|rep (sd ss a) j 0) (T<|rep (sd ss b) j 0)=some (.bl<|!decide (rep (sd ss a) j 0=rep (sd ss b) j 0)):=C3 _ _;by_cases kr:rep (sd ss a) j 0=rep (sd ss b) j 0;have i2:=fL (sd ss b) j Zl;obtain⟨g2,g3⟩:=fin b hb;rw[Ud kr] at nr;have nr:gI (T<|rep (sd ss a) j 0) (T<|rep (sd ss b) j 0)=some (.bl false):=nr;exact⟨.join a b j,_,q+2,rn,⟨j,rfl,hj,kl.symm,Q2B kl.symm kr,rfl⟩,λr hr=>by simp[PL.ns] at hr;lia,g3⟩;rw[T1 kr] at nr;have nr:gI (T<|rep (sd ss a) j 0) (T<|rep (sd ss b) j 0)=some (.bl true):=nr;exact⟨.join a a j,_,q+2,rn,⟨j,rfl,hj,rfl,rfl,rfl⟩,λr hr=>by simp[PL.ns] at hr;lia,f3⟩;rw[T1 kl] at ne;have ne:gI (.int ((sd ss b).length:Int)) (.int ((sd ss a).length:Int))=some (.bl true):=ne;exact⟨.join a a j,_,q+2,rn,⟨j,rfl,hj,rfl,rfl,rfl⟩,λr hr=>by simp[PL.ns] at hr;lia,f3⟩
theorem F7(w:Int)(w4:4<=w)(w15:w<15)(hw:w<9->sd ss a=[]) : ∃(l:PL)(t:WR)(q':Nat),dO [Row ns q,.int a,aG ss,.int w,.int ix_]=.ok (.tup [l.d,T t]) [Row ns q',aG ss]/\Told N G (sd ss) l t/\(∀r∈l.ns,r<ss.length)/\Pre t:=by
 by_cases c9:w=9;subst c9;exact Uy N G ns q a ix_ ss ky ha hi h1;by_cases Xw:w=10;subst Xw;exact N8 N G ns q a ix_ ss ky ha hi h1;by_cases Xx:w=11;subst Xx;exact Q0H N G ns q a ix_ ss ky ha hi h1;by_cases Xy:w=12;subst Xy;exact Oa N G ns q a ix_ ss ky ha hi h1;by_cases c0:sd ss a=[];exact Q1e N G ns q a ix_ ss ky ha hi h1 w c9 Xw Xx Xy c0;have:w=13\/w=14:=by
  have:¬w<9:=λz=>c0 (hw z)
  lia
 rcases this with rfl|rfl;exact Ob N G ns q a ix_ ss ky ha hi h1 c0;exact Oc N G ns q a ix_ ss ky ha hi h1 c0
end
def Oe:WR->Int|[]=>0|i::is=>is.foldl (λa b=>if a<b then b else a) i
theorem rF:∀(is:WR)(a:Int),a<=is.foldl (λa b=>if a<b then b else a) a/\∀x∈is,x<=is.foldl (λa b=>if a<b then b else a) a|[],a=>⟨ZA,λx hx=>by simp at hx⟩|i::is,a=>by obtain⟨h1,h2⟩:=rF is<|if a<i then i else a;simp only[List.foldl_cons];generalize is.foldl (λa b=>if a<b then b else a) (if a<i then i else a)=z at *;refine⟨by split at h1<;>lia,λx hx=>?_⟩;rcases List.mem_cons.mp hx with rfl|hx;split at h1<;>lia;exact h2 x hx
theorem Of{t:WR}(h:Oe t<=24):∀x∈t,x<=24:=λx hx=>by
 cases t with
 |nil=>simp at hx|cons i is=>
  obtain⟨h1,h2⟩:=rF is i;have e:Oe (i::is)=is.foldl (λa b=>if a<b then b else a) i:=rfl;rcases List.mem_cons.mp hx with rfl|hx
  lia
  have:=h2 x hx;lia
theorem N5(t:WR):lP (T t) (.int 0)=some (.int<|Oe t):=by rw[Q1Q];cases t<;>rfl
def Fp(ns:WR)(gs:XW)(c tn ix_:Int)(ls:Ra)(ss:XW)(q:Nat)(s2 s3 s9 GP zV:Sl):ax:=[.io<|Row ns q,.ow<|aG gs,s2,s3,.sh<|.int c,.sh<|.int tn,.ow<|Pg ls,.ow<|aG ss,.sh<|.int ix_,s9,GP,zV]
structure Gd(gs:XW)(ls:Ra)(ss:XW)(ix_:Nat):Prop where
 len:ss.length=ls.length
 wf:Wf ls
 told:∀i l,ls[i]?=some l->Told gs.length (sd gs) (sd ss) l (sd ss i)
 si:Af ss
 ix:ix_<ss.length
 one:(sd ss ix_).length=1
 ne:ls≠[]
theorem nH{ss:XW}{t:WR}{i:Nat}(h:i<ss.length):sd (ss++[t]) i=sd ss i:=by unfold sd;rw[zT,B5 h,zT]
theorem Gd.more{gs:XW}{ls:Ra}{ss:XW}{ix_:Nat}(g:Gd gs ls ss ix_){l:PL}{t:WR}(hl:∀r∈l.ns,r<ss.length)(hf:Told gs.length (sd gs) (sd ss) l t)(ht:SI t):Gd gs (ls++[l]) (ss++[t]) ix_:=by
 have hx:∀i x,(ls++[l])[i]?=some x->ls[i]?=some x\/(i=ss.length/\x=l):=λi x hx=>by
  by_cases h:i<ls.length;rw[B5 h] at hx;exact .inl hx;rw[OG Zl] at hx;have:=(List.getElem?_eq_some_iff.mp hx).1;have e:i-ls.length=0:=by simp at this;lia
  rw[e] at hx;exact .inr ⟨by have:=g.len;lia,by simpa using hx.symm⟩
 refine⟨by simp[g.len],λi x h r hr=>?_,λi x h=>?_,λx h=>?_,by simp;have:=g.ix;lia,by rw[nH g.ix];exact g.one,ZA⟩;rcases hx i x h with h|⟨rfl,rfl⟩;exact g.wf i x h r hr;exact hl r hr;rcases hx i x h with h|⟨rfl,rfl⟩;have hi:=(List.getElem?_eq_some_iff.mp h).1;have SR:=g.len;rw[nH Zl];exact(g.told i x h).mono λr hr=>nH (by have:=g.wf i x h r hr;lia);rw[show sd (ss++[t]) ss.length=t by simp[sd]];exact hf.mono λr hr=>nH<|hl r hr;rcases List.mem_append.mp h with h|h;exact g.si x h;have:x=t:=by simpa using h
 subst this;exact ht
theorem Q0D(ns:WR)(gs:XW)(Fi:Af gs)(tn:Int)(ix_:Nat)(ls:Ra)(ss:XW)(g:Gd gs ls ss ix_)(q:Nat)(s2 s3 zV:Sl)(Z7:free (some zV)=true)(a:Nat)(ha:a<ss.length)(w:Int)(w0:0<=w)(w16:w<16)(hg:0<gs.length)(G:M Fl)
  (hG:G=(iD (tB<|m2 ltI (aa 10)<|mC<|.int 4) (ai (aM 11<|aw f9 [.io 0,.val<|aa 9,.val<|hJ 7<|aa 9,.val<|aa 10])
  aX) (ai (iD (mZ (tB<|m2 ltI (aa 10)<|mC<|.int 9)<|tB<|m2 gI (hJ 7<|aa 9)<|bU []) (ai (aM 11<|aw ub [.io 0,.val<|aa 9,.val<|hJ 7<|aa 9,.val<|aa 10])
  aX) (ai (iD (tB<|m2 fI (aa 10)<|mC<|.int 15) (ai (aM 11<|bU [(bU [(mC<|.str<|nm 0),(m2 hV (aa 9)<|aa 4)]),(hJ 1<|m2 hV (aa 9)<|aa 4)])
  aX) (ai (aM 11<|aw dO [.io 0,.val<|aa 9,.io 7,.val<|aa 10,.val<|aa 8])
  aX))
  aX))
  aX))):∃(l:PL)(t:WR)(q':Nat),G (Fp ns gs gs.length tn ix_ ls ss q s2 s3 (.sh<|.int a) (.sh<|.int w) zV)=.ok .nx (Fp ns gs gs.length tn ix_ ls ss q' s2 s3 (.sh<|.int a) (.sh<|.int w)<|.sh<|.tup [l.d,T t])/\Told gs.length (sd gs) (sd ss) l t/\(∀r∈l.ns,r<ss.length)/\Pre t:=by
 subst hG;unfold Fp;have ia:=a7 ss a ha;have hs:=g.si.at ha;by_cases c1:w<4;obtain⟨l,t,q',e,h1,h2,h3⟩:=Hv gs.length (sd gs) (sd ss) ns q a hs w w0 c1;refine⟨l,t,q',?_,h1,λr hr=>by rw[h2] at hr;simp at hr;lia,h3⟩;generalize l.d=ld at *;exact ao;by_cases c2:w<9/\sd ss a≠[];obtain⟨l,t,q',e,h1,h2,h3⟩:=Q0S gs.length (sd gs) (sd ss) ns q a hs c2.2 w Zl c2.1;refine⟨l,t,q',?_,h1,λr hr=>by rw[h2] at hr;simp at hr;lia,h3⟩;generalize l.d=ld at *;obtain⟨c21,c22⟩:=c2;have ne:gI (T<|sd ss a) (.tup [])=some (.bl true):=by rw[Qz,C3,T1 c22];rfl
 exact ao;by_cases c3:w=15;have md:=cb a gs.length Zl;obtain⟨b,hb⟩:∃b,b=a % gs.length:=⟨_,rfl⟩;have X7:b<gs.length:=by rw[hb];exact Nat.mod_lt _ hg
 have eb:((a:Int) % (gs.length:Int))=(b:Int):=by rw[hb];simp
 rw[eb] at md;have ib:=a7 gs b X7;refine⟨.given b,sd gs b,q,?_,⟨b,rfl,X7,rfl⟩,λr hr=>by simp[PL.ns] at hr,(Fi.at X7).pre⟩;have c4:¬w<9:=Zl;simp only[PL.d,PL.k,PL.ps];exact ao;obtain⟨l,t,q',e,h1,h2,h3⟩:=F7 gs.length (sd gs) ns q a ix_ ss g.si ha g.ix g.one w Zl Zl (λz=>by cases e:sd ss a with|nil=>rfl|cons x r=>exact absurd ⟨z,by rw[e];simp⟩ c2);refine⟨l,t,q',?_,h1,h2,h3⟩;generalize l.d=ld at *;by_cases c4:w<9;have c5:sd ss a=[]:=by cases e:sd ss a with|nil=>rfl|cons x r=>exact absurd ⟨c4,by rw[e];simp⟩ c2
 have ne:gI (T<|sd ss a) (.tup [])=some (.bl false):=by rw[c5];rfl
 exact ao;exact ao
theorem Fe(x y:D):ah (.tup [x,y]) (.int 0)=some x:=rfl
theorem DK(x y:D):ah (.tup [x,y]) (.int 1)=some y:=rfl
theorem VB(ns:WR)(gs:XW)(Fi:Af gs)(hg:0<gs.length)(tn:Int)(ix_:Nat)(ls:Ra)(ss:XW)(g:Gd gs ls ss ix_)(hl:ls.length<=40)(q:Nat)(s2 s3 s9 GP zV:Sl)(h9:free (some s9)=true)(h10:free (some GP)=true)(Z7:free (some zV)=true) : ∃(l:PL)(t:WR)(q':Nat)(WV GQ GR:Sl),dD (Fp ns gs gs.length tn ix_ ls ss q s2 s3 s9 GP zV)=.ok .nx (Fp ns gs gs.length tn ix_ (ls++[l]) (ss++[t]) q' s2 s3 WV GQ GR)/\Gd gs (ls++[l]) (ss++[t]) ix_/\free (some WV)=true/\free (some GQ)=true/\free (some GR)=true:=by
 have ln:=gb ls;have hn:=List.length_pos_iff.mpr g.ne;have SR:=g.len;obtain⟨b,tl,hb⟩:=drawn ns q ls.length hn;obtain⟨a,hae,ha⟩:∃a:Nat,ja (.int<|(ls.length:Int)-1) (.int b)=some (.int (a:Int))/\a<ss.length:=⟨ls.length-1-b,by rw[yP];congr 2;lia,Zl⟩;obtain⟨w,t16,w0,w16⟩:=aR ns (q+1) 16 Zl;obtain⟨l,t,q',e,h1,h2,h3⟩:=Q0D ns gs Fi tn ix_ ls ss g (q+2) s2 s3 zV Z7 a ha w w0 w16 hg _ rfl;have cl:=jI t h3;have mx:=N5 t;have ia:=a7 ss a ha;have ZS:∀l:PL,dJ l.d (Pg ls)=some (Pg<|ls++[l]):=λl=>by unfold Pg;rw[eX _ _ (by simp;lia),R4];rfl
 have ZT:∀t,dJ (T t) (aG ss)=some (aG<|ss++[t]):=λt=>by unfold aG;rw[eX _ _ (by simp;lia),R4];rfl
 unfold Fp at e ⊢;unfold dD;by_cases c:ak t<=27/\t.length<=4/\Oe t<=24;refine⟨l,t,q',.sh<|.int a,.sh<|.int w,.sh<|.tup [l.d,T t],?_,g.more h2 h1 ⟨c.2.1,λx hx=>⟨(h3.2 x hx).1,Of c.2.2 x hx⟩,c.1⟩,rfl,rfl,rfl⟩;have k1:¬27<ak t:=Zl;have k2:¬(4:Int)<t.length:=Zl;have k3:¬24<Oe t:=Zl;have a1:=ZS l;have a2:=ZT t;generalize l.d=ld at *;have p1:=Fe ld<|T t;have p2:=DK ld<|T t;exact ao;refine⟨.one 16 a,sd ss a,q',.sh<|.int a,.sh<|.int w,.sh<|.tup [.tup [.str<|nm 9,.str<|nm 16,.int a],T<|sd ss a],?_,g.more (λr hr=>by simp[PL.ns] at hr;lia) ⟨Zl,rfl⟩<|g.si.at ha,rfl,rfl,rfl⟩;have a1:=ZS<|.one 16 a;have a2:=ZT<|sd ss a;have p2:=DK l.d<|T t;have p3:=Fe (.tup [.str<|nm 9,.str<|nm 16,.int a])<|T<|sd ss a;have p4:=DK (.tup [.str<|nm 9,.str<|nm 16,.int a])<|T<|sd ss a;have a1:dJ (.tup [.str<|nm 9,.str<|nm 16,.int a]) (Pg ls)=some (Pg<|ls++[.one 16 a]):=a1;generalize l.d=ld at *;by_cases k1:27<ak t;exact ao;by_cases k2:(4:Int)<t.length;exact ao;have k3:24<Oe t:=by by_cases z:24<Oe t;exact z;exact absurd ⟨Zl,Zl,Zl⟩ c
 exact ao
theorem Zx(m:Int)(h0:0<=m)(h8:m<8):∃v:Int,0<=v/\v<=3/\ah (.lst [.int 2,.int 3,.int 1,.int 2,.int 3,.int 1,.int 2,.int 0]) (.int m)=some (.int v):=by have:m=0\/m=1\/m=2\/m=3\/m=4\/m=5\/m=6\/m=7:=Zl;rcases this with rfl|rfl|rfl|rfl|rfl|rfl|rfl|rfl;exact⟨2,Zl,Zl,rfl⟩;exact⟨3,Zl,Zl,rfl⟩;exact⟨1,Zl,Zl,rfl⟩;exact⟨2,Zl,Zl,rfl⟩;exact⟨3,Zl,Zl,rfl⟩;exact⟨1,Zl,Zl,rfl⟩;exact⟨2,Zl,Zl,rfl⟩;exact⟨0,Zl,Zl,rfl⟩
theorem Zw(m:Int)(h0:0<=m)(h8:m<4):∃v:Int,0<=v/\v<=4/\ah (.lst [.int 2,.int 3,.int 1,.int 4]) (.int m)=some (.int v):=by have:m=0\/m=1\/m=2\/m=3:=Zl;rcases this with rfl|rfl|rfl|rfl;exact⟨2,Zl,Zl,rfl⟩;exact⟨3,Zl,Zl,rfl⟩;exact⟨1,Zl,Zl,rfl⟩;exact⟨4,Zl,Zl,rfl⟩
theorem KY:∀(xs:WR),(∀x∈xs,0<=x/\x<=3)->0<=ak xs/\ak xs<=3 ^ xs.length|[],_=>by simp[ak]|x::r,h=>by have hx:=h x Uq;have hr:=KY r λy hy=>h y<|WW _ hy;simp only[ak,List.length_cons];refine⟨FH hx.1 hr.1,?_⟩;have:x*ak r<=3*3 ^ r.length:=Int.mul_le_mul hx.2 hr.2 hr.1 Zl;rw[Int.pow_succ];lia
theorem si3(xs:WR)(hl:xs.length<=3)(h:∀x∈xs,0<=x/\x<=3):SI xs:=by
 refine⟨Zl,λx hx=>by have:=h x hx;lia,?_⟩;have p:=(KY xs h).2;have:(3:Int) ^ xs.length<=27:=by
  generalize xs.length=n at *
  match n,hl with|0,_=>decide|1,_=>decide|2,_=>decide|3,_=>decide
 lia
theorem noLs_T:∀ss:XW,noLs (ss.map T)=true
|[]=>rfl|s::ss=>by
 have:y6 (T s)=true:=by unfold T;rw[y6];induction s with|nil=>rfl|cons x s ih=>rw[WA,noLs,y6,ih];rfl
 rw[WA,noLs,this,noLs_T ss];rfl
def B6(t:Sl×Sl×Sl):Prop:=free (some t.1)=true/\free (some t.2.1)=true/\free (some t.2.2)=true
def B7(t:Sl×Sl×Sl×Sl):Prop:=free (some t.1)=true/\free (some t.2.1)=true/\free (some t.2.2.1)=true/\free (some t.2.2.2)=true
theorem My(gs:XW)(t:WR)(h:gs.length<=100):dJ (T t) (aG gs)=some (aG<|gs++[t]):=by unfold aG;rw[eX _ _ (by simp;lia),R4];rfl
theorem wF(ns:WR)(p:Nat):∃(ls:Ra)(ss gs:XW)(ix_ q:Nat),xM [Row ns p]=.ok (.tup [Pg ls,aG ss,.int gs.length,aG gs]) [Row ns q]/\Gd gs ls ss ix_/\Af gs/\ls.length<=14/\gs.length<=3:=by
 obtain⟨z,t2,z0,z2⟩:=aR ns p 2 Zl;obtain⟨n,hn,Yq⟩:∃n:Nat,aU (.int 1) (.int z)=some (.int (n:Int))/\1<=n/\n<=2:=⟨(1+z).toNat,congrArg (λz=>some<|D.int z) Zl,Zl,Zl⟩;have er:=gr n Zl;obtain⟨⟨q1,gs⟩,t,⟨Es,Fi⟩,ht,L⟩:=aO (g:=aj 2) (body:=dB) (λ(k:Nat)=>D.int k) (λ(s:Nat×List (List Int))(t:Sl×Sl)=>[.io<|Row ns s.1,.ow<|aG s.2,t.1,t.2,.no,.no,.no,.no,.no,.no,.no,.no]) iV (List.range n) (λk s=>s.2.length=k/\Af s.2) (p+1,[]) (.no,.no) ⟨rfl,rfl⟩ ⟨rfl,λs hs=>by simp at hs⟩ (by
  intro i k hk s t ht hP;obtain⟨q,gs⟩:=s;obtain⟨t3,t4⟩:=t;obtain⟨f3,f4⟩:=ht;obtain⟨hl,a8⟩:=hP;dsimp only at f3 f4 hl a8;obtain⟨rfl,hk⟩:=aW hk;obtain⟨m,tk,hm4⟩:=drawn ns q 4 Zl;have tk:bC [Row ns q,.int 4]=.ok (.int m) [Row ns<|q+1]:=tk;have er:=gr m Zl;obtain⟨q',ys,hc,he⟩:=lD (it:=bF [(aa 3)]) (elt:=fG) (k:=12) (r0:=[.io<|Row ns<|q+1,.ow<|aG gs,.sh<|.int k,.sh<|.int m,.no,.no,.no,.no,.no,.no,.no,.no]) (λ(k:Nat)=>D.int k) (λq=>[.io<|Row ns q,.ow<|aG gs,.sh<|.int k,.sh<|.int m,.no,.no,.no,.no,.no,.no,.no,.no]) (λ_ y=>0<=y/\y<=3) (List.range m) (q+1) (λ_=>rfl) ao (by simp;lia) (λj _ q'=>by obtain⟨x,t8,x0,x8⟩:=aR ns q' 8 Zl;obtain⟨v,v0,v3,iv⟩:=Zx x x0 x8;exact⟨q'+1,v,⟨v0,v3⟩,λacc=>by unfold fG;exact ao⟩);have yl:=he.len;simp only[List.length_range] at yl;have hy:SI ys:=si3 ys Zl λy hy=>by obtain⟨_,_,h⟩:=he.right y hy;exact h
  have ap:=My gs ys Zl;refine⟨(q',gs++[ys]),(.sh<|.int k,.sh<|.int m),⟨by simp[hl],λx hx=>?_⟩,⟨rfl,rfl⟩,?_⟩;rcases List.mem_append.mp hx with hx|hx;exact a8 x hx;have:x=ys:=by simpa using hx
  subst this;exact hy;have e:aj 2 (.int (k:Int)) [.io<|Row ns q,.ow<|aG gs,t3,t4,.no,.no,.no,.no,.no,.no,.no,.no]=.ok () [.io<|Row ns q,.ow<|aG gs,.sh<|.int k,t4,.no,.no,.no,.no,.no,.no,.no,.no]:=by simp[f3]
  dsimp only;rw[aB,e,ag,show dB _=.ok .nx _ by unfold dB;exact ao];rfl)
 obtain⟨t3,t4⟩:=t;obtain⟨f3,f4⟩:=ht;simp only[List.length_range] at Es;dsimp only at Es Fi f3 f4 L;obtain⟨x,tv,x0,x4⟩:=aR ns q1 4 Zl;obtain⟨v,v0,v4,iv⟩:=Zw x x0 x4;have hv:SI [v]:=⟨ZA,λx hx=>by simp at hx;lia,by simp[ak];lia⟩;have ap:dJ (.tup [.int v]) (aG gs)=some (aG<|gs++[[v]]):=My gs [v] Zl;have Fj:Af (gs++[[v]]):=λx hx=>by
  rcases List.mem_append.mp hx with hx|hx;exact Fi x hx;have:x=[v]:=by simpa using hx
  subst this;exact hv
 have Kt:sd (gs++[[v]]) ((gs++[[v]]).length-1)=[v]:=by simp[sd]
 have hg3:2<=(gs++[[v]]).length/\(gs++[[v]]).length<=3:=by simp;lia
 generalize hgz:gs++[[v]]=gz at *;have ln:=ed gz;obtain⟨tn,tt,htn⟩:=drawn ns (q1+1) gz.length Zl;have er2:=gr gz.length Zl;let pl:=λ(k:Nat)=>PL.given<|((k+tn) % gz.length:Nat);have c6:az 1 (bF [(aa 4)]) (aj 12) (VP.ret true) cY [.io<|Row ns<|q1+2,.ow<|aG gz,t3,t4,.sh<|.int gz.length,.sh<|.int tn,.no,.no,.no,.no,.no,.no]=.ok (Pg<|(List.range gz.length).map pl) [.io<|Row ns<|q1+2,.ow<|aG gz,t3,t4,.sh<|.int gz.length,.sh<|.int tn,.no,.no,.no,.no,.no,.no]:=by refine dN (λ(k:Nat)=>D.int k) (λk=>(pl k).d) (List.range gz.length) ao (by simp;lia) (by simp[Pg,Function.comp_def]) λk hk acc=>?_;have md:=cb ((k:Int)+tn) gz.length Zl;rw[show ((k:Int)+tn) % (gz.length:Int)=(((k+tn) % gz.length:Nat):Int) by simp] at md;show cY _=.ok (.tup [.str<|nm 0,.int (((k+tn) % gz.length:Nat):Int)]) _;generalize (k+tn) % gz.length=m at *;unfold cY;exact ao
 let sl:=λ(k:Nat)=>sd gz<|(k+tn) % gz.length;have c7:az 1 (cj<|aa 6) (aj 12) (VP.ret true) cZ [.sh<|Row ns<|q1+2,.sh<|aG gz,eW t3,eW t4,.sh<|.int gz.length,.sh<|.int tn,.sh<|Pg<|(List.range gz.length).map pl,.no,.no,.no,.no,.no]=.ok (.lst<|((List.range gz.length).map sl).map T) [.sh<|Row ns<|q1+2,.sh<|aG gz,eW t3,eW t4,.sh<|.int gz.length,.sh<|.int tn,.sh<|Pg<|(List.range gz.length).map pl,.no,.no,.no,.no,.no]:=by refine dN (λ(k:Nat)=>(pl k).d) (λk=>T<|sl k) (List.range gz.length) (by simp[DI,Function.comp_def]) (by simp;lia) (by simp[Function.comp_def]) λk hk acc=>?_;have ib:=a7 gz ((k+tn) % gz.length)<|Nat.mod_lt _ Zl;have i1:ah (pl k).d (.int 1)=some (.int<|((k+tn) % gz.length:Nat)):=rfl;generalize (pl k).d=ld at *;rw[show sl k=sd gz ((k+tn) % gz.length) from rfl];generalize (k+tn) % gz.length=j at ib i1 ⊢;unfold cZ;exact ao
 have nl:=noLs_T<|(List.range gz.length).map sl;have v7:i7 (az 1 (cj<|aa 6) (aj 12) (VP.ret true) cZ) [.io<|Row ns<|q1+2,.ow<|aG gz,t3,t4,.sh<|.int gz.length,.sh<|.int tn,.ow<|Pg<|(List.range gz.length).map pl,.no,.no,.no,.no,.no]=.ok (aG<|(List.range gz.length).map sl) [.io<|Row ns<|q1+2,.ow<|aG gz,t3,t4,.sh<|.int gz.length,.sh<|.int tn,.ow<|Pg<|(List.range gz.length).map pl,.no,.no,.no,.no,.no]:=by rw[ux];simp only[List.map_cons,List.map_nil,D3,u7,u9,D4];rw[c7,u6 _ _ _ nl];rfl
 obtain⟨ix_,hix⟩:∃ix_:Nat,ix_=gz.length-1-tn:=⟨_,rfl⟩;have mi:hV (.int<|(gz.length:Int)-1-tn) (.int gz.length)=some (.int (ix_:Int)):=by rw[cb _ _ Zl,Int.emod_eq_of_lt Zl Zl];exact congrArg (λz=>some<|D.int z) Zl
 have G0:Gd gz ((List.range gz.length).map pl) ((List.range gz.length).map sl) ix_:=by
  have es:∀i,i<gz.length->sd ((List.range gz.length).map sl) i=sl i:=λi hi=>by simp[sd,hi]
  refine⟨ZA,λi l hl r hr=>?_,λi l hl=>?_,λs hs=>?_,by simp;lia,?_,λz=>?_⟩;obtain⟨k,_,rfl⟩:=List.mem_map.mp<|Rb hl;simp[pl,PL.ns] at hr;have hi:=(List.getElem?_eq_some_iff.mp hl).1;simp only[List.length_map,List.length_range] at hi;have:l=pl i:=by simpa[hi] using hl.symm
  subst this;rw[es i hi];exact⟨(i+tn) % gz.length,rfl,Nat.mod_lt _ Zl,rfl⟩;obtain⟨k,hk,rfl⟩:=List.mem_map.mp hs;exact Fj.at<|Nat.mod_lt _ Zl;rw[es _ Zl];show (sd gz<|(ix_+tn) % gz.length).length=1;rw[show ix_+tn=gz.length-1 by lia,Nat.mod_eq_of_lt Zl,Kt];rfl;have:=congrArg List.length z;rw[Wj,Us,List.length_nil] at this;lia
 have aae:((List.range gz.length).map pl).length<=3:=by simp;lia
 generalize ((List.range gz.length).map pl)=ls0 at *;generalize ((List.range gz.length).map sl)=ss0 at *;obtain⟨y,t10,y0,y10⟩:=aR ns (q1+2) 10 Zl;obtain⟨WN,ab1,aah⟩:∃n:Nat,aU (.int 1) (.int y)=some (.int (n:Int))/\n<=10:=⟨(1+y).toNat,congrArg (λz=>some<|D.int z) Zl,Zl⟩;have abh:=gr WN Zl;obtain⟨⟨q3,ls,ss⟩,t,⟨hll,hG⟩,ht,L5⟩:=aO (g:=aj 2) (body:=dD) (λ(k:Nat)=>D.int k) (λ(s:Nat×List PL×List (List Int))(t:Sl×Sl×Sl×Sl)=>Fp ns gz gz.length tn ix_ s.2.1 s.2.2 s.1 t.1 t4 t.2.1 t.2.2.1 t.2.2.2) B7 (List.range WN) (λk s=>s.2.1.length<=3+k/\Gd gz s.2.1 s.2.2 ix_) (q1+3,ls0,ss0) (t3,.no,.no,.no) ⟨f3,rfl,rfl,rfl⟩ ⟨Zl,G0⟩ (by intro i k hk s t ht hP;obtain⟨q,ls,ss⟩:=s;obtain⟨s2,s9,GP,zV⟩:=t;obtain⟨g2,g9,Z5,Z6⟩:=ht;obtain⟨hl,hG⟩:=hP;dsimp only at g2 g9 Z5 Z6 hl hG;obtain⟨rfl,hk⟩:=aW hk;obtain⟨l,t,q',WV,GQ,GR,e,hG',k9,k10,k11⟩:=VB ns gz Fj Zl tn ix_ ls ss hG Zl q (.sh<|.int k) t4 s9 GP zV g9 Z5 Z6;refine⟨(q',ls++[l],ss++[t]),(.sh<|.int k,WV,GQ,GR),⟨by simp;lia,hG'⟩,⟨rfl,k9,k10,k11⟩,?_⟩;dsimp only;rw[aB,show aj 2 (.int (k:Int)) (Fp ns gz gz.length tn ix_ ls ss q s2 t4 s9 GP zV)=.ok () (Fp ns gz gz.length tn ix_ ls ss q (.sh<|.int k) t4 s9 GP zV) by simp[Fp,g2],ag,e];rfl);obtain⟨s2,s9,GP,zV⟩:=t;simp only[List.length_range] at hll;dsimp only[Fp] at hll hG L5;have X1:aG []=.lst []:=rfl;rw[X1] at L;refine⟨ls,ss,gz,ix_,q3,?_,hG,Fj,Zl,hg3.2⟩;clear G0 hG Fj Fi nl c7 Kt;unfold xM Il;exact rn
theorem yv(xs:WR)(n:Nat)(hx:xs.length<=100)(hn:n<=100):B3 [T xs,.int n]=.ok (Z<|ahead xs n) []:=by
 rw[B3,du _ _ _ _ rfl];unfold IX;have er:qa [.int<|(n:Int)-xs.length]=some ((List.range<|n-xs.length).map λ(k:Nat)=>.int k):=pn _ _ Zl Zl Zl;have hc:az 1 (bF [m2 ja (aa 1)<|m1 cu<|aa 0]) (aj 2) (VP.ret true) iS [.sh<|T xs,.sh<|.int n]=.ok (Z<|List.replicate (n-xs.length) 1) [.sh<|T xs,.sh<|.int n]:=by rw[MQ (ds:=(List.range<|n-xs.length).map λ(k:Nat)=>.int k) (λ_=>.int 1)];congr 1;simp[Z,Function.comp_def,List.map_const'];simp[er];rfl;simp;lia;intro d _ acc;rfl
 have e2:aU (Z<|List.replicate (n-xs.length) 1) (Z xs)=some (Z<|ahead xs n):=by rw[Mw];rfl;simp[fU];lia
 simp[hc,e2]
theorem Uw(one other:WR)(h1:one.length<=100)(h2:other.length<=100):xS [T one,T other]=.ok (zL<|meet one other) []:=by
 rw[xS,du _ _ _ _ rfl];have L:=jR (g:=dy [4,5]) (body:=fR) (λ(p:Int×Int)=>D.tup [.int p.1,.int p.2]) (λ(s:WR)(t:Sl×Sl)=>[.sh<|T one,.sh<|T other,.sh<|.int (max one.length other.length:Nat),.ow<|Z s,t.1,t.2]) iV Mb (pairs one other).reverse (λk s=>s.length=k) [] (.no,.no) ⟨rfl,rfl⟩ rfl ?_;rw[qz] at L;have em:((max one.length other.length:Nat):Int)=max (one.length:Int) other.length:=Wa;have ez:pP [Z<|ahead one<|max one.length other.length,Z<|ahead other<|max one.length other.length]=some ((pairs one other).reverse.map λp=>.tup [.int p.1,.int p.2]):=by rw[q9 _ _ _ _ rfl rfl,jt]
 have o1:=yv one (max one.length other.length) h1 Wa;have o2:=yv other (max one.length other.length) h2 Wa;rw[em] at o1 o2;simp only[em] at L;unfold II meet;rw[vX] at L;by_cases q:(pairs one other).all (λp=>oX p.1 p.2)=true;rw[Ue q] at L;obtain⟨_,t,_,L⟩:=L;rw[Ue q];simp only[List.nil_append] at L;simp[Uj,o1,o2,ez,L,zL,-List.map_reverse,-List.map_map];rw[O5];rw[Zj q] at L;obtain⟨s',t,L⟩:=L;rw[Zj q];simp[Uj,o1,o2,ez,L,zL,-List.map_reverse,-List.map_map];intro i p hp acc t ht hP;have hi:=(List.getElem?_eq_some_iff.mp hp).1;obtain⟨t4,t5⟩:=t;obtain⟨h4,h5⟩:=ht;dsimp only at h4 h5 hP;have e1:∀x:Int,dJ (.int x) (Z acc)=some (Z<|acc++[x]):=λx=>vq _ _ (by simp[pairs] at hi;omega);have x1:aB (dy [4,5]) fR (.tup [.int p.1,.int p.2]) [.sh<|T one,.sh<|T other,.sh<|.int (max one.length other.length:Nat),.ow<|Z acc,t4,t5]=if oX p.1 p.2 then .ok .nx [.sh<|T one,.sh<|T other,.sh<|.int (max one.length other.length:Nat),.ow<|Z<|acc++[pk p.1 p.2],.sh<|.int p.1,.sh<|.int p.2] else .ok (.rt .aK) [.sh<|T one,.sh<|T other,.sh<|.int (max one.length other.length:Nat),.ow<|Z acc,.sh<|.int p.1,.sh<|.int p.2]:=by
  have g6:dy [4,5] (.tup [.int p.1,.int p.2]) [.sh<|T one,.sh<|T other,.sh<|.int (max one.length other.length:Nat),.ow<|Z acc,t4,t5]=.ok () [.sh<|T one,.sh<|T other,.sh<|.int (max one.length other.length:Nat),.ow<|Z acc,.sh<|.int p.1,.sh<|.int p.2]:=by simp[h4,h5]
  have n1:=bz p.1 p.2;have n2:=bz p.1 1;have n3:=bz p.2 1;have n4:=dw p.1 1;have e2:oX p.1 p.2=(decide (p.1=1)||decide (p.2=1)||decide (p.1=p.2)):=by simp[oX,Bool.or_assoc]
  have e3:pk p.1 p.2=if decide (p.1=1)=true then p.2 else p.1:=by simp[pk]
  have e1x:=e1 p.1;have e1y:=e1 p.2;rw[e2,e3,aB,g6,ag];clear e1 e2 e3 g6;generalize decide (p.1=1)=b1 at *;generalize decide (p.2=1)=b2 at *;generalize decide (p.1=p.2)=b3 at *;generalize (max one.length other.length:Nat)=mx at *;generalize T one=O1 at *;generalize T other=O2 at *;unfold fR;cases b1;cases b2;cases b3;exact ao;exact ao;cases b3<;>exact ao;cases b2<;>cases b3<;>exact ao
 unfold Mb;dsimp only;rw[x1];by_cases q:oX p.1 p.2=true;rw[Ue q,Ue q];exact⟨by simp[hP],(_,_),⟨rfl,rfl⟩,rfl⟩;rw[Zj q,Zj q];exact⟨acc,(_,_),rfl⟩
theorem rW{s t m:WR}(h1:s.length<=100)(h2:t.length<=100)(e:meet s t=some m):xS [T s,T t]=.ok (T m) []:=by have:=Uw s t h1 h2;rwa [e] at this
theorem k8(s:WR)(k:Nat)(hk:k<s.length)(hl:s.length<=100):B4 [T s,.int k]=.ok (T<|wo s k) []:=by have a2:aU (T<|s.take k) (T<|s.drop<|k+1)=some (T<|wo s k):=b7 _ _ (by simp[fU];omega);have c1:=jz s k Wa;have c2:=iT s (k+1) Wa;rw[show (((k+1:Nat)):Int)=(k:Int)+1 by omega] at c2;unfold B4 IY;exact rn
theorem lY(s:WR)(k:Nat)(x:Int)(hk:k<s.length)(hl:s.length<=100):BP [T s,.int k,.int x]=.ok (T<|rep s k x) []:=by have a1:aU (T<|s.take k) (.tup [.int x])=_:=b7 (s.take k) [x] (by simp[fU];lia);have a2:=b7 (s.take k++[x]) (s.drop<|k+1) (by simp[fU];lia);have c1:=jz s k Zl;have c2:=iT s (k+1) Zl;rw[show (((k+1:Nat)):Int)=(k:Int)+1 by lia] at c2;rw[show s.take k++[x]++s.drop (k+1)=rep s k x by simp[rep]] at a2;unfold BP IE;exact rn
theorem Gw(s:WR)(k:Nat)(x:Int)(hk:k<=s.length)(hl:s.length<=100):BN [T s,.int k,.int x]=.ok (T<|pin s k x) []:=by have a1:aU (T<|s.take k) (.tup [.int x])=_:=b7 (s.take k) [x] (by simp[fU];lia);have a2:=b7 (s.take k++[x]) (s.drop k) (by simp[fU];lia);have c1:=jz s k Zl;have c2:=iT s k Zl;rw[show s.take k++[x]++s.drop k=pin s k x by simp[pin]] at a2;unfold BN IC;exact rn
theorem dW(s:WR)(k:Nat)(hk:k<s.length):BC [T s,.int k]=.ok (.bl true) []:=by
 have e1:vg (.int 0) (.int (k:Int))=some (.bl true):=by rw[dz,Ud Zl]
 have e2:ltI (.int (k:Int)) (.int s.length)=some (.bl true):=by rw[fS,Ud Zl]
 unfold BC HW;exact rn
theorem jN(s:WR)(k:Nat)(p:Int)(hk:k<s.length)(h0:0<=p)(h1:p<s.getD k 0):BB [T s,.int k,.int p]=.ok (.bl true) []:=by
 have e1:vg (.int 0) (.int p)=some (.bl true):=by rw[dz,Ud h0]
 have e2:ltI (.int p) (.int<|s.getD k 0)=some (.bl true):=by rw[fS,Ud h1]
 have hs:=dW s k hk;have i1:=fL s k hk;unfold BB HV;exact rn
theorem Q1C(d:Nat)(s:WR)(k:Nat)(hk:k<s.length)(hl:s.length<=100)(hd:d∈[19,21,22,23])(h0:s.getD k 0=0->d≠22/\d≠23):BA [.str<|nm d,T s,.int k]=.ok (T<|wo s k) []:=by
 have hs:=dW s k hk;have i1:=fL s k hk;have w:=k8 s k hk hl;generalize s.getD k 0=z at *;unfold BA HU;by_cases z0:z=0;have h1:=h0 z0;have i2:inD false (.str<|nm d) (.tup [.str<|nm 22,.str<|nm 23])=some (.bl false):=by simp only[List.mem_cons,List.not_mem_nil,or_false] at hd;rcases hd with rfl|rfl|rfl|rfl;kernel_rfl!;kernel_rfl!;exact absurd rfl h1.1;exact absurd rfl h1.2
 exact rn;exact rn
theorem Q0o(s:WR)(k:Nat)(y:Int)(hk:k<s.length)(hl:s.length<=100):BM [T s,.int k,T [y]]=.ok (T<|rep s k y) []:=by have hs:=dW s k hk;have w:=lY s k y hk hl;have ln:cu (T [y])=some (.int 1):=rfl;have i1:ah (T [y]) (.int 0)=some (.int y):=rfl;unfold BM IA;exact rn
theorem FG(s t:WR)(k:Nat)(hk:k<s.length)(hl:s.length<=100)(h1:s.length=t.length)(h2:wo s k=wo t k):BF [T s,T t,.int k]=.ok (T<|rep s k<|s.getD k 0+t.getD k 0) []:=by
 have hs:=dW s k hk;have w:=lY s k (s.getD k 0+t.getD k 0) hk hl;have w1:=k8 s k hk hl;have w2:=k8 t k Zl Zl;have i1:=fL s k hk;have i2:=fL t k Zl;have n1:gI (.int (s.length:Int)) (.int t.length)=some (.bl false):=by rw[bz,Ud Zl];rfl
 have n2:gI (T<|wo s k) (T<|wo t k)=some (.bl false):=by rw[C3,Ud h2];rfl
 unfold BF HZ;exact rn
theorem Hr(s o:WR)(hl:s.length<=60)(h1:sortI o=kY s.length)(h2:o.length=s.length):BX [T s,T o]=.ok (T<|o.map λx=>s.getD x.toNat 0) []:=by
 have e1:=G3 o Zl;have e2:=FP s.length Zl;have e3:gI (Z<|sortI o) (Z<|kY s.length)=some (.bl false):=by rw[Q1T,Ud h1];rfl
 have c:az 1 (cj<|aa 1) (aj 2) (VP.ret true) dg [.sh<|T s,.sh<|T o]=.ok (Z<|o.map λx=>s.getD x.toNat 0) [.sh<|T s,.sh<|T o]:=by refine dN D.int (λx=>D.int<|s.getD x.toNat 0) o ao Zl (by simp[Z,Function.comp_def]) λx hx acc=>?_;obtain⟨j,rfl,hj⟩:=mh h1 hx;have ix:ah (T s) (.int j)=some (.int<|s.getD (j:Int).toNat 0):=bM s j Zl Zl;unfold dg;exact ao
 unfold BX IP;exact rn
theorem SO(s:WR)(k:Nat)(b st m:Int)(hk:k<s.length)(hl:s.length<=100)(iG:st≠0/\-3<=st/\st<=3)(hm:0<=m)(hp:0<m->(0<=b/\b<s.getD k 0)/\0<=b+st*(m-1)/\b+st*(m-1)<s.getD k 0):By [T s,.int k,.int b,.int st,.int m]=.ok (T<|rep s k m) []:=by have hs:=dW s k hk;have w:=lY s k m hk hl;have c1:¬st=0:=iG.1;have c2:¬m<0:=Zl;unfold By HR;by_cases c3:0<m;have h:=hp c3;have p1:=jN s k b hk h.1.1 h.1.2;have p2:=jN s k _ hk h.2.1 h.2.2;have mu:=gH st (m-1) Zl Zl;exact rn;exact rn
theorem Q2w(s:WR)(k:Nat)(p:Int)(hk:k<s.length)(hl:s.length<=100)(h0:0<=p)(h1:p<s.getD k 0):Bz [T s,.int k,.int p]=.ok (T<|wo s k) []:=by have p1:=jN s k p hk h0 h1;have w:=k8 s k hk hl;unfold Bz HS;exact rn
theorem Qy{s t u m n:WR}(hs:s.length<=4)(ht:t.length<=4)(hu:u.length<=4)(e1:meet s t=some m)(e2:meet m u=some n):BW [T s,T t,T u]=.ok (T n) []:=by have ml:=b9 e1;have m1:=rW Zl Zl e1;have m2:=rW Zl Zl e2;have n1:=C6 m;unfold BW IM;exact rn
theorem rB(body:M Fl)(hb:body=ef)(xs:WR)(h:Sm xs)(d:D):∃t,loop (aj 2) body (xs.map .int) [.sh d,.sh<|.int 1,.no]=.ok .nx [.sh d,.sh<|.int<|ak xs,t]:=by subst hb;obtain⟨_,t,_,L⟩:=gY (g:=aj 2) (body:=ef) D.int (λ(s:Int)(t:Sl)=>[.sh d,.sh<|.int s,t]) ko (λ_ _=>True) (λp x=>p*x) xs 1 .no rfl trivial (by intro i x hx p t ht _;have hm:=h x<|Rb hx;have hf:free (some t)=true:=ht;refine⟨trivial,.sh<|.int x,rfl,?_⟩;simp[aB,ef,hf,bN p x Zl Zl]);rw[jS,Int.one_mul] at L;exact⟨t,L⟩
theorem gP(xs:WR)(h:Sm xs):xI [T xs]=.ok (.int<|ak xs) []:=by rw[xI,du _ _ _ _ rfl];obtain⟨t,L⟩:=rB ef rfl xs h<|T xs;simp[HQ,L]
theorem Q0C(s:WR)(h:SI s):BR [T s]=.ok (.bl true) []:=by
 have hl:=h.1;have c:az 1 (cj<|aa 0) (aj 1) (VP.ret true) fW [.sh<|T s]=.ok (.lst<|s.map λx=>D.bl true) [.sh<|T s]:=by
  refine dN D.int (λx=>D.bl true) s ao Wa rfl λx hx acc=>?_;have hb:=h.2.1 x hx;have e1:vg (.int 0) (.int x)=some (.bl true):=by rw[dz,Ud hb.1]
  have e2:vg (.int x) (.int 64)=some (.bl true):=by rw[dz,Ud Wa]
  unfold fW;exact ao
 have e:pX true (.lst<|s.map λx=>D.bl true)=some (.bl true):=by rw[Ax (λ_=>true) s];simp
 have hc:=gP s λx hx=>by have:=h.2.1 x hx;omega
 have l4:¬(4:Int)<s.length:=Wa;have e4:vg (.int<|ak s) (.int 4096)=some (.bl true):=by rw[dz,Ud (by have:=h.2.2;omega)]
 unfold BR IG;exact rn
theorem PL.Ri(l:PL):n6 [l.d]=.ok (a9 l.ns) []:=l.named
theorem CF{n:Nat}{G S:Nat->WR}{l:PL}{t:WR}(h:Told n G S l t):Ke [l.d]=.ok (.bl true) []:=by
 cases l with
 |one d a=>obtain⟨⟨h1,h2⟩,_⟩:=h;have:d=16\/d=17\/d=18:=Zl;rcases this with rfl|rfl|rfl<;>kernel_rfl!
 |both d a b=>obtain⟨⟨h1,h2⟩,_⟩:=h;have:d=19\/d=20\/d=21\/d=22\/d=23\/d=24\/d=25:=Zl;rcases this with rfl|rfl|rfl|rfl|rfl|rfl|rfl<;>kernel_rfl!
 |fold d a k=>obtain⟨_,_,_,h,_⟩:=h;simp only[List.mem_cons,List.not_mem_nil,or_false] at h;rcases h with rfl|rfl|rfl|rfl<;>kernel_rfl!
 |run d a k=>obtain⟨_,_,_,h,_⟩:=h;simp only[List.mem_cons,List.not_mem_nil,or_false] at h;rcases h with rfl|rfl|rfl|rfl<;>kernel_rfl!
 |_=>kernel_rfl!
theorem L9(x:Int)(h:Rt x):BE [.int x]=.ok (.bl true) []:=by
 have e1:vg (.int 0) (.int x)=some (.bl true):=by rw[dz,Ud h.1]
 have e2:ltI (.int x) (.int 1000003)=some (.bl true):=by rw[fS,Ud h.2]
 unfold BE HY;exact rn
theorem EZ{n:Nat}{G S:Nat->WR}{l:PL}{t:WR}(h:Told n G S l t):oh [l.d]=.ok (.bl true) []:=by
 by_cases c1:l.k=1;cases l<;>simp only[PL.k] at c1<;>try lia
 rename_i s x;have r:=L9 x h.2;show oh [.tup [.str<|nm 1,T s,.int x]]=_;unfold oh xp;exact rn;by_cases c8:l.k=8;cases l<;>simp only[PL.k] at c8<;>try lia
 rename_i a k m x;obtain⟨_,_,_,hr,_⟩:=h;have r:=L9 x hr;have ne:=sW 8 8 (by decide) (by decide);show oh [.tup [.str<|nm 8,.int a,.int k,.int m,.int x]]=_;unfold oh xp;exact rn;have k1:=l.kind;have T7:=l.NQ;have e1:fI (.str<|nm l.k) (.str<|nm 1)=some (.bl false):=by rw[Bm _ _ Zl Zl,T1 c1]
 have e2:gI (.str<|nm l.k) (.str<|nm 8)=some (.bl true):=by rw[sW _ _ Zl Zl,T1 c8];rfl
 generalize l.d=ld at *;unfold oh xp;exact rn
theorem Q2V{n:Nat}{G S:Nat->WR}{l:PL}{t:WR}{m:Nat}(h:Told n G S l t)(hl:∀r∈l.ns,r<m):ue [l.d,.int m,.int n]=.ok (.bl true) []:=by
 by_cases c0:l.k=0;cases l<;>simp only[PL.k] at c0<;>try lia
 obtain⟨k,rfl,hk,_⟩:=h;have e1:vg (.int 0) (.int (k:Int))=some (.bl true):=by rw[dz,Ud Zl]
 have e2:ltI (.int (k:Int)) (.int n)=some (.bl true):=by rw[fS,Ud Zl]
 show ue [.tup [.str<|nm 0,.int (k:Int)],.int m,.int n]=_;unfold ue AL;exact rn;have k1:=l.kind;have T7:=l.NQ;have lf:=l.jL;have e1:fI (.str<|nm l.k) (.str<|nm 0)=some (.bl false):=by rw[Bm _ _ Zl Zl,T1 c0]
 have nb:=l.Ri;generalize l.d=ld at *;have c:az 1 (cj<|aw n6 [.val<|aa 0]) (aj 3) (VP.ret true) dM [.sh ld,.sh<|.int m,.sh<|.int n]=.ok (.lst<|l.ns.map λ_=>D.bl true) [.sh ld,.sh<|.int m,.sh<|.int n]:=by
  have sq:bR (a9 l.ns)=some (l.ns.map λa=>D.int (a:Nat)):=rfl;refine dN (λa=>D.int (a:Nat)) (λ_=>D.bl true) l.ns ao Zl rfl λa ha acc=>?_;have hb:=hl a ha;have e1:vg (.int 0) (.int (a:Int))=some (.bl true):=by rw[dz,Ud Zl]
  have e2:ltI (.int (a:Int)) (.int m)=some (.bl true):=by rw[fS,Ud Zl]
  unfold dM;exact ao
 have e:pX true (.lst<|l.ns.map λ_=>D.bl true)=some (.bl true):=by rw[Ax (λ_=>true) l.ns];simp
 unfold ue AL;exact rn
theorem Hj{gs ss:XW}{l:PL}{t:WR}(h:Told gs.length (sd gs) (sd ss) l t)(hl:∀r∈l.ns,r<ss.length)(si:Af ss)(ht:SI t):dP [l.d,aG ss,aG gs]=.ok (T t) [aG ss]:=by
 have key:∀a,a∈l.ns->ah (aG ss) (.int (a:Int))=some (T<|sd ss a)/\(sd ss a).length<=4/\SI (sd ss a):=λa ha=>⟨a7 ss a<|hl a ha,(si.at<|hl a ha).1,si.at<|hl a ha⟩;have sm:∀s,SI s->Sm s:=λs h x hx=>by have:=h.2.1 x hx;lia
 cases l<;>simp only[PL.ns,List.mem_cons,List.not_mem_nil,or_false,forall_eq_or_imp,forall_eq] at key<;>simp only[PL.d,PL.k,PL.ps];rename_i j;obtain⟨k,rfl,hk,rfl⟩:=h;have ib:=a7 gs k hk;unfold dP eF;exact rn;rename_i s x;obtain⟨rfl,_⟩:=h;unfold dP eF;exact rn;rename_i a o;obtain⟨h1,h2,rfl⟩:=h;obtain⟨ia,il,_⟩:=key;have w:=Hr _ _ Zl h1 h2;have v:gA [.tup [.str<|nm 2,.int a,T o],T<|sd ss a]=.ok (T<|o.map λx=>(sd ss a).getD x.toNat 0) []:=by unfold gA nV;exact rn
 unfold dP eF;exact rn;rename_i a k b st m;obtain⟨j,rfl,hj,h1,h2,h3,rfl⟩:=h;obtain⟨ia,il,_⟩:=key;have w:=SO _ _ b st m hj Zl h1 h2 h3;have v:gA [.tup [.str<|nm 3,.int a,.int (j:Int),.int b,.int st,.int m],T<|sd ss a]=.ok (T<|rep (sd ss a) j m) []:=by unfold gA nV;exact rn
 unfold dP eF;exact rn;rename_i a k p;obtain⟨j,rfl,hj,h1,rfl⟩:=h;obtain⟨ia,il,_⟩:=key;have w:=Q2w _ _ p hj Zl h1.1 h1.2;have v:gA [.tup [.str<|nm 4,.int a,.int (j:Int),.int p],T<|sd ss a]=.ok (T<|wo (sd ss a) j) []:=by unfold gA nV;exact rn
 unfold dP eF;exact rn;rename_i a k;obtain⟨j,rfl,hj,rfl⟩:=h;obtain⟨ia,il,_⟩:=key;have w:=Gw (sd ss a) j 1 hj Zl;have e1:vg (.int 0) (.int (j:Int))=some (.bl true):=by rw[dz,Ud Zl]
 have e2:vg (.int (j:Int)) (.int (sd ss a).length)=some (.bl true):=by rw[dz,Ud Zl]
 have v:gA [.tup [.str<|nm 5,.int a,.int (j:Int)],T<|sd ss a]=.ok (T<|pin (sd ss a) j 1) []:=by unfold gA nV;exact rn
 unfold dP eF;exact rn;rename_i a u;obtain⟨h1,rfl⟩:=h;obtain⟨ia,il,_⟩:=key;have w:=rW Zl (by have:=ht.1;lia) h1;have e1:fI (T t) (T t)=some (.bl true):=by rw[Bl,Ud rfl]
 have v:gA [.tup [.str<|nm 6,.int a,T t],T<|sd ss a]=.ok (T t) []:=by unfold gA nV;exact rn
 unfold dP eF;exact rn;rename_i a u;obtain⟨h1,rfl⟩:=h;obtain⟨ia,il,is⟩:=key;have w1:=gP _<|sm _ is;have w2:=gP _<|sm _ ht;have e1:fI (.int<|ak<|sd ss a) (.int<|ak t)=some (.bl true):=by rw[dw,Ud h1]
 have v:gA [.tup [.str<|nm 7,.int a,T t],T<|sd ss a]=.ok (T t) []:=by unfold gA nV;exact rn
 unfold dP eF;exact rn;rename_i a k m x;obtain⟨j,rfl,hj,h1,rfl⟩:=h;obtain⟨ia,il,_⟩:=key;have w:=dW _ _ hj;unfold dP eF;exact rn;rename_i d a;obtain⟨_,rfl⟩:=h;obtain⟨ia,il,_⟩:=key;unfold dP eF;exact rn;rename_i d a b;obtain⟨_,h1⟩:=h;obtain⟨⟨ia,il,_⟩,ib,Wx,_⟩:=key;have w:=rW Zl Zl h1;unfold dP eF;exact rn;rename_i a b c;obtain⟨u,h1,h2⟩:=h;obtain⟨⟨ia,il,_⟩,⟨ib,Wx,_⟩,ic,icl,_⟩:=key;have w:=Qy il Wx icl h1 h2;unfold dP eF;exact rn;rename_i d a k;obtain⟨j,rfl,hj,h1,h2,rfl⟩:=h;obtain⟨ia,il,_⟩:=key;have w:=Q1C _ _ _ hj Zl h1 h2;unfold dP eF;exact rn;rename_i d a k;obtain⟨j,rfl,hj,h1,rfl⟩:=h;obtain⟨ia,il,_⟩:=key;have w:=dW _ _ hj;unfold dP eF;exact rn;rename_i a k b;obtain⟨j,y,rfl,hj,h1,rfl⟩:=h;obtain⟨⟨ia,il,_⟩,ib,Wx,_⟩:=key;rw[h1] at ib;have w:=Q0o _ _ y hj Zl;unfold dP eF;exact rn;rename_i a b k;obtain⟨j,rfl,hj,h1,h2,rfl⟩:=h;obtain⟨⟨ia,il,_⟩,ib,Wx,_⟩:=key;have w:=FG _ _ _ hj Zl h1 h2;unfold dP eF;exact rn
theorem FO{gs ss:XW}{l:PL}{t:WR}(i:Nat)(h:Told gs.length (sd gs) (sd ss) l t)(hl:∀r∈l.ns,r<ss.length)(si:Af ss)(ht:SI t):BS [.int i,l.d,aG ss,aG gs]=.ok (T t) [aG ss]:=by have e1:=Q2V h hl;have e2:=EZ h;have e3:=CF h;have e4:=Hj h hl si ht;have e5:=Q0C t ht;have l1:=ed ss;have l2:=ed gs;have n1:=C6 t;generalize l.d=ld at *;unfold BS IH;exact rn
theorem uV(gs:XW)(ls:Ra)(ss:XW)(ix_:Nat)(g:Gd gs ls ss ix_)(iE:ls.length<=14):BU [Pg ls,aG gs]=.ok (aG ss) []:=by
 have hn:=List.length_pos_iff.mpr g.ne;have SR:=g.len;have ln:=gb ls;have en:ke [Pg ls]=some ((List.range ls.length).map λ(i:Nat)=>D.tup [.int i,(aQ ls i).d]):=by rw[<-rD];rfl
 obtain⟨s,t,hs,ht,L⟩:=aO (g:=dy [3,4]) (body:=gq) (λ(i:Nat)=>D.tup [.int i,(aQ ls i).d]) (λ(s:XW)(t:Sl×Sl)=>[.sh<|Pg ls,.sh<|aG gs,.ow<|aG s,t.1,t.2]) iV (List.range ls.length) (λk s=>s=ss.take k) [] (.no,.no) ⟨rfl,rfl⟩ ZA (by
  intro i k hk s t ht hP;obtain⟨rfl,hk⟩:=aW hk;obtain⟨t3,t4⟩:=t;obtain⟨f3,f4⟩:=ht;dsimp only at f3 f4;subst hP;have hl:ls[k]?=some (aQ ls k):=by simp[aQ,hk]
  have tl:(ss.take k).length=k:=by simp;lia
  have es:∀r,r<k->sd (ss.take k) r=sd ss r:=λr hr=>by simp[sd,hr]
  have lk:=FO (ss:=ss.take k) k ((g.told k _ hl).mono λr hr=>es r<|g.wf k _ hl r hr) (λr hr=>by rw[tl];exact g.wf k _ hl r hr) (λs hs=>g.si s<|OO hs)<|g.si.at Zl;have ap:=My (ss.take k) (sd ss k) Zl;rw[show ss.take k++[sd ss k]=ss.take (k+1) by
   have:sd ss k=ss[k]:=by simp[sd,show k<ss.length by lia]
   rw[this];simp] at ap
  generalize (aQ ls k).d=ld at *;refine⟨ss.take<|k+1,(.sh<|.int k,.sh ld),rfl,⟨rfl,rfl⟩,?_⟩;have e:dy [3,4] (.tup [.int (k:Int),ld]) [.sh<|Pg ls,.sh<|aG gs,.ow<|aG<|ss.take k,t3,t4]=.ok () [.sh<|Pg ls,.sh<|aG gs,.ow<|aG<|ss.take k,.sh<|.int k,.sh ld]:=by simp[f3,f4]
  dsimp only;rw[aB,e,ag,show gq _=.ok .nx _ by unfold gq;exact ao];rfl)
 obtain⟨t3,t4⟩:=t;subst hs;dsimp only at L;rw[Us,MI Zl] at L;have X1:aG []=.lst []:=rfl;rw[X1] at L;have c1:¬(ls.length:Int)=0:=Zl;have c2:¬(40:Int)<ls.length:=Zl;unfold BU IJ;exact rn
abbrev Wy:=List (Int×Int×Int)
def Ix(s x:WR):Prop:=x.length=s.length/\∀k,k<s.length->0<=x.getD k 0/\x.getD k 0<s.getD k 0
def jx(s x:WR):Int:=dot x (sE s)
theorem Ix.tail{y a:Int}{s x:WR}(h:Ix (y::s) (a::x)):Ix s x:=⟨by have:=h.1;simpa using this,λk hk=>by have:=h.2 (k+1) (by simp;lia);simpa using this⟩
theorem Ix.place:∀{s x:WR},(∀y∈s,0<=y)->Ix s x->0<=jx s x/\jx s x<ak s
|[],x,_,h=>by have:=List.eq_nil_of_length_eq_zero h.1;subst this;exact⟨Int.le_refl _,by decide⟩|y::s,[],_,h=>by have:=h.1;simp at this|y::s,a::x,hs,h=>by
 have h1:=h.tail.place λz hz=>hs z<|WW _ hz;have h0:=h.2 0 ZA;simp only[List.getD_cons_zero] at h0;show 0<=a*ak s+jx s x/\a*ak s+jx s x<y*ak s;have m1:=FH h0.1 (show 0<=ak s by lia);have m2:=Int.mul_le_mul_of_nonneg_right (show a+1<=y by lia) (show 0<=ak s by lia);rw[Int.add_mul] at m2
 lia
theorem SQ(p y P:Int)(hP:0<P)(hy:0<y):p % (y*P)=p / P % y*P+p % P:=by
 have e1:=Int.mul_ediv_add_emod p P;have e2:=Int.mul_ediv_add_emod (p / P) y;have a1:=Int.emod_nonneg p (show P≠0 by lia);have a2:=y5 p hP;have b1:=Int.emod_nonneg (p / P) (show y≠0 by lia);have b2:=y5 (p / P) hy;generalize p / P % y=u at *;generalize p % P=v at *;generalize p / P / y=k at *;have m1:=FH b1 (show 0<=P by lia);have m2:=Int.mul_le_mul_of_nonneg_right (show u+1<=y by lia) (show 0<=P by lia);rw[Int.add_mul] at m2;have e:p=u*P+v+y*P*k:=by rw[<-e1,<-e2,Int.mul_add,Int.mul_comm P u,<-Int.mul_assoc,Int.mul_comm P y];lia
 rw[e,Int.add_mul_emod_self_left,Int.emod_eq_of_lt Zl Zl]
theorem ny:∀(s:WR)(p:Int),(∀y∈s,0<=y)->0<ak s->Ix s (gW s p)/\jx s (gW s p)=p % ak s
|[],p,_,_=>⟨⟨rfl,λk hk=>absurd hk ZA⟩,by show 0=p % 1;lia⟩|y::s,p,hs,h=>by
 have hy:=hs y Uq;have hq:0<ak s/\0<y:=by
  have e:ak (y::s)=y*ak s:=rfl;have y0:y≠0:=λz=>by rw[e,z] at h;lia
  exact⟨Int.pos_of_mul_pos_right (e ▸ h) Zl,Zl⟩
 obtain⟨h1,h2⟩:=ny s p (λz hz=>hs z<|WW _ hz) hq.1;refine⟨⟨by simp[gW,h1.1],λk hk=>?_⟩,?_⟩;cases k with|zero=>exact⟨Int.emod_nonneg _ Zl,y5 _ hq.2⟩|succ k=>simpa[gW] using h1.2 k (by simpa using hk)
 show p / ak s % y*ak s+jx s (gW s p)=p % (y*ak s);rw[h2,SQ p y _ hq.1 hq.2]
def pD(p:Int×Int×Int):D:=.tup [.int p.1,.int p.2.1,.int p.2.2]
def WD(w:G9):D:=.lst (w.map pD)
def Em(m:Nat)(p:Int×Int×Int):Prop:=p.2.1=-1\/0<=p.2.1/\p.2.1<m
def sI(m n:Nat)(w:G9):Prop:=w.length=n/\∀p∈w,Em m p
def kS(x:Int):Int×Int×Int:=(x,-1,0)
theorem wQ(m:Nat)(x:Int):Em m (kS x):=.inl rfl
theorem YK(w:G9):cu (WD w)=some (.int w.length):=by simp[WD]
theorem Vb(w:G9):bR (WD w)=some (w.map pD):=rfl
theorem Ul(w:G9):dG (WD w)=some (WD w):=rfl
theorem YD(w:G9)(k:Nat)(p:Int×Int×Int)(h:w[k]?=some p):ah (WD w) (.int (k:Int))=some (pD p):=by unfold WD;rw[lJ];exact jQ _ _ _ Zl (by simp[h])
theorem Vc(w:G9)(k:Nat)(p:Int×Int×Int)(h:k<w.length):setAt (.int (k:Int)) (pD p) (WD w)=some (WD<|w.set k p):=by unfold WD;rw[ma _ _ _ Zl (by simp;lia),N9,List.map_set]
theorem addW(v w:G9)(h:v.length+w.length<=1000):aU (WD v) (WD w)=some (WD<|v++w):=by unfold WD;rw[nN _ _ (by simp[fU];lia),R4]
theorem J7(w:G9)(k:Nat)(h:k<=w.length):fH (WD w) none (some (k:Int))=some (WD<|w.take k):=by unfold WD;rw[tJ,cutD,Wj,nF _ _ _ h,kQ];simp
theorem A8(w:G9)(k:Nat)(h:k<=w.length):fH (WD w) (some (k:Int)) none=some (WD<|w.drop k):=by unfold WD;rw[tJ,cutD,Wj,nF _ _ _ h,kQ,MI ZA];simp
def gV(x:WR)(p:Int×Int×Int):Int:=if p.2.1=-1 then p.1 else p.1+p.2.2*x.getD p.2.1.toNat 0
def bI(w:Wy)(x:WR):WR:=w.map (gV x)
def cz(s x:WR):WR:=List.zipWith (λa b=>if a=1 then 0 else b) s (x.drop<|x.length-s.length)
theorem rO(w:Wy)(x:WR):(bI w x).length=w.length:=by simp[bI]
theorem yi(x:WR)(y:Int):gV x (kS y)=y:=rfl
theorem Mo:∀(o:WR)(w:Wy),List.zipWith (λx y=>D.tup [x,y]) (o.map D.int) (w.map pD)=(o.zip w).map λq=>.tup [.int q.1,pD q.2]|[],w=>rfl|x::o,[]=>rfl|x::o,p::w=>congrArg (_::·) (Mo o w)
theorem VT(o:WR)(w:Wy):pP [T o,WD w]=some ((o.zip w).map λq=>.tup [.int q.1,pD q.2]):=by simp only[pP,wM,Vb,Mo]
theorem uY(n:Nat)(h:n<=100):∃w,xU [.int n]=.ok (WD w) []/\sI n n w/\∀x:WR,x.length=n->bI w x=x:=by
 have er:=gr n Zl;have c:az 1 (bF [(aa 0)]) (aj 1) (VP.ret true) df [.sh<|.int n]=.ok (WD<|(List.range n).map λ(k:Nat)=>((0:Int),(k:Int),(1:Int))) [.sh<|.int n]:=by refine dN (λ(k:Nat)=>D.int k) (λk=>pD (0,(k:Int),1)) (List.range n) ao (by simp;lia) (by simp[WD,Function.comp_def]) λk hk acc=>?_;show df _=.ok (.tup [.int 0,.int (k:Int),.int 1]) _;unfold df;exact ao
 refine⟨(List.range n).map λ(k:Nat)=>((0:Int),(k:Int),(1:Int)),?_,⟨ZA,λp hp=>?_⟩,λx hx=>?_⟩;generalize (List.range n).map (λ(k:Nat)=>((0:Int),(k:Int),(1:Int)))=w at c;unfold xU IK;exact rn;obtain⟨k,hk,rfl⟩:=List.mem_map.mp hp;have:=List.mem_range.mp hk;exact .inr ⟨ZA,by simp;lia⟩;refine zN (by simp[bI,hx]) λk h1 h2=>?_;have:¬(k:Int)=-1:=Zl;simp[bI,gV,this,h2]
theorem pC(x:Int):xQ [.int x]=.ok (pD<|kS x) []:=by show _=FR.ok (.tup [.int x,.int<|-1,.int 0]) _;unfold xQ Iz;exact rn
theorem Od(m:Nat)(p:Int×Int×Int)(b st:Int)(h:-(2 ^ 64)<st)(h2:st<2 ^ 64)(hp:Em m p):∃p',uc [pD p,.int b,.int st]=.ok (pD p') []/\Em m p'/\∀x,gV x p'=b+st*gV x p:=by obtain⟨x,y,z⟩:=p;have m1:=gH st x h h2;have m2:=gH st z h h2;have s1:=pC<|b+st*x;show ∃p',uc [.tup [.int x,.int y,.int z],.int b,.int st]=_/\_;by_cases c:st*z=0;refine⟨kS<|b+st*x,by unfold uc AK;exact rn,wQ _ _,λv=>?_⟩;rw[yi];unfold gV;split;rfl;dsimp only;rw[Int.mul_add,<-Int.mul_assoc,c,Int.zero_mul,Int.add_zero];refine⟨(b+st*x,y,st*z),?_,hp,λv=>?_⟩;show _=FR.ok (.tup [.int<|b+st*x,.int y,.int<|st*z]) _;unfold uc AK;exact rn;unfold gV;dsimp only;split;rfl;rw[Int.mul_add,<-Int.mul_assoc,Int.add_assoc]
theorem nE(s:WR)(k:Nat)(x:Int)(h:k<s.length):rep s k x=s.set k x:=(List.set_eq_take_append_cons_drop ..).trans (Ue h) |>.symm
theorem moved(m n:Nat)(w:Wy)(k:Nat)(b st:Int)(h:-(2 ^ 64)<st)(h2:st<2 ^ 64)(hk:k<n)(hw:sI m n w):∃w',BZ [WD w,.int k,.int b,.int st]=.ok (WD w') []/\sI m n w'/\∀x,bI w' x=rep (bI w x) k (b+st*(bI w x).getD k 0):=by obtain⟨hl,hp⟩:=hw;obtain⟨p,Yu⟩:∃p,w[k]?=some p:=⟨_,Rg Zl⟩;obtain⟨p',e,ok,ev⟩:=Od m p b st h h2<|hp p<|Rb Yu;have i1:=YD w k p Yu;have l1:=Ul w;have s1:=Vc w k p' Zl;have il:isLst (some<|WD w)=true:=rfl;refine⟨w.set k p',by unfold BZ IT;exact rn,⟨by simp[hl],λx hx=>?_⟩,λx=>?_⟩;rcases List.mem_or_eq_of_mem_set hx with hx|rfl;exact hp x hx;exact ok;rw[nE _ _ _ (by rw[rO];lia)];simp[bI,Yu,ev]
def w7(o x:WR):WR:=(List.range o.length).map λ(k:Nat)=>x.getD (o.idxOf (k:Int)) 0
theorem turned(m n:Nat)(w:Wy)(o:WR)(hw:sI m n w)(ho:∀x∈o,∃j:Nat,x=j/\j<n)(hn:o.length=n)(hd:o.Nodup)(ha:∀j:Nat,j<n->(j:Int)∈o):∃w',B1 [WD w,T o]=.ok (WD w') []/\sI m n w'/\∀x,bI w' x=w7 o (bI w x):=by
 have l1:=Ul w;have ez:=VT o w;have hl:=hw.1;obtain⟨w',t,⟨hP,hQ⟩,ht,L⟩:=aO (g:=dy [3,4]) (body:=eR) (λ(q:Int×Int×Int×Int)=>D.tup [.int q.1,pD q.2]) (λ(v:Wy)(t:Sl×Sl)=>[.sh<|WD w,.sh<|T o,.ow<|WD v,t.1,t.2]) iV (o.zip w) (λi v=>sI m n v/\∀j<i,v[(o.getD j 0).toNat]?=w[j]?) w (.no,.no) ⟨rfl,rfl⟩ ⟨hw,λj hj=>absurd hj Zl⟩ (by
  intro i q hq v t ht hP;obtain⟨t3,t4⟩:=t;obtain⟨f3,f4⟩:=ht;obtain⟨hP,hQ⟩:=hP;dsimp only at f3 f4;have hm:=Rb hq;have hz:=List.getElem?_zip_eq_some.mp hq;obtain⟨x,p⟩:=q;obtain⟨j,rfl,hj⟩:=ho x (A7 hm).1;have s1:=Vc v j p (by rw[hP.1];exact hj);have il:isLst (some<|WD v)=true:=rfl;refine⟨v.set j p,(.sh<|.int j,.sh<|pD p),⟨⟨by simp[hP.1],λy hy=>?_⟩,λk hk=>?_⟩,⟨rfl,rfl⟩,?_⟩;rcases List.mem_or_eq_of_mem_set hy with hy|rfl;exact hP.2 y hy;exact hw.2 _ (A7 hm).2;have e1:o.getD i 0=(j:Int):=by rw[zT,hz.1];rfl
  have hi:=(List.getElem?_eq_some_iff.mp hz.1).1;by_cases z:k=i;subst z;rw[e1,hz.2,N9,U4 (by rw[hP.1];exact hj)];have vL:k<o.length:=Zl;obtain⟨j',e2,Yk⟩:=ho (o.getD k 0) (by rw[zT,Rg vL];exact DF vL);rw[wD,hQ k Zl];rw[e2,N9];intro e;rw[<-e,<-e1] at e2;simp only[zT,Rg vL,Rg hi,Option.getD_some] at e2;exact z<|(vz hd).mp e2;have e:dy [3,4] (.tup [.int (j:Int),pD p]) [.sh<|WD w,.sh<|T o,.ow<|WD v,t3,t4]=.ok () [.sh<|WD w,.sh<|T o,.ow<|WD v,.sh<|.int j,.sh<|pD p]:=by simp[f3,f4]
  dsimp only;rw[aB,e,ag,show eR _=.ok .nx _ by unfold eR;exact ao];rfl)
 refine⟨w',by unfold B1 IV;exact rn,hP,λx=>?_⟩;refine zN (by simp[bI,w7,hP.1,hn]) λk h1 h2=>?_;have hk:k<n:=by simpa[w7,hn] using h2
 have hi:=List.idxOf_lt_length_of_mem<|ha k hk;have e:=hQ (o.idxOf (k:Int)) (by simp;lia);have k1:k<w'.length:=by rw[hP.1];exact hk
 have k2:o.idxOf (k:Int)<w.length:=by rw[hl,<-hn];exact hi
 rw[zT,Rg hi,Option.getD_some,List.getElem_idxOf,N9,Rg k1,Rg k2] at e;simp[bI,w7,Option.some.inj e,k2]
theorem dropped(m n:Nat)(w:Wy)(k:Nat)(x:Int)(hk:k<=n)(hn:n<=100)(hw:sI m n w):∃w',BY [WD w,.int k,.int x]=.ok (WD w') []/\sI m (n+1) w'/\∀y,bI w' y=pin (bI w y) k x:=by obtain⟨hl,hp⟩:=hw;have c1:=J7 w k Zl;have c2:=A8 w k Zl;have s1:=pC x;have a1:aU (WD<|w.take k) (.lst [pD<|kS x])=some (WD<|w.take k++[kS x]):=addW (w.take k) [kS x] (by simp;lia);have a2:=addW (w.take k++[kS x]) (w.drop k) (by simp;lia);refine⟨_,by unfold BY IS;exact rn,⟨by simp;lia,λp h=>?_⟩,λy=>by simp[bI,pin,yi]⟩;rcases List.mem_append.mp h with h|h;rcases List.mem_append.mp h with h|h;exact hp p<|OO h;rw[List.mem_singleton.mp h];exact wQ _ _;exact hp p (F2 h)
theorem pcl(m n:Nat)(w:Wy)(k:Nat)(hk:k<n)(hn:n<=100)(hw:sI m n w):∃w',B2 [WD w,.int k]=.ok (WD w') []/\sI m (n-1) w'/\∀y,bI w' y=wo (bI w y) k:=by obtain⟨hl,hp⟩:=hw;have c1:=J7 w k Zl;have c2:=A8 w (k+1) Zl;rw[show (((k+1:Nat)):Int)=(k:Int)+1 by lia] at c2;have a2:=addW (w.take k) (w.drop<|k+1) (by simp;lia);refine⟨_,by unfold B2 IW;exact rn,⟨by simp;lia,λp h=>?_⟩,λy=>by simp[bI,wo]⟩;rcases List.mem_append.mp h with h|h;exact hp p<|OO h;exact hp p (F2 h)
theorem uX(x:WR):∀(s:WR)(v:Wy),bI ((s.zip v).map λq=>if q.1=1 then kS 0 else q.2) x=List.zipWith (λa b=>if a=1 then 0 else b) s (bI v x)
|[],v=>rfl|a::s,[]=>rfl|a::s,p::v=>by
 have h:gV x (if a=1 then kS 0 else p)=if a=1 then 0 else gV x p:=by split<;>rfl
 have q:=uX x s v;show _::_=_::_;exact h ▸ congrArg _ q
theorem G4(m n:Nat)(w:Wy)(s:WR)(hk:s.length<=n)(hn:n<=100)(hw:sI m n w):∃w',B0 [WD w,T s]=.ok (WD w') []/\sI m s.length w'/\∀x,bI w' x=cz s (bI w x):=by
 obtain⟨hl,hp⟩:=hw;have c1:=A8 w (w.length-s.length) Zl;rw[show (((w.length-s.length:Nat)):Int)=(w.length:Int)-s.length by lia] at c1;have l1:=YK w;have dl:(w.drop<|w.length-s.length).length=s.length:=by simp;lia
 have dp:∀p∈w.drop (w.length-s.length),Em m p:=λp h=>hp p<|F2 h;have dx:∀x,bI (w.drop<|w.length-s.length) x=(bI w x).drop ((bI w x).length-s.length):=λx=>by simp[bI]
 generalize w.drop (w.length-s.length)=v at *;have ez:=VT s v;have s1:=pC 0;have c:az 2 (uy [(aa 1),(aa 2)]) (dy [3,4]) (VP.ret true) iu [.sh<|WD w,.sh<|T s,.sh<|WD v]=.ok (WD<|(s.zip v).map λq=>if q.1=1 then kS 0 else q.2) [.sh<|WD w,.sh<|T s,.sh<|WD v]:=by refine A4 (λq:Int×Int×Int×Int=>D.int q.1) (λq=>pD q.2) (λq=>pD<|if q.1=1 then kS 0 else q.2) (s.zip v) ao (by simp;lia) (by simp[WD,Function.comp_def]) λq hq acc=>?_;obtain⟨x,p⟩:=q;dsimp only;unfold iu;by_cases h:x=1;rw[Ue h];exact ao;rw[Zj h];exact ao
 refine⟨(s.zip v).map λq=>if q.1=1 then kS 0 else q.2,?_,⟨by simp;lia,λp h=>?_⟩,λx=>?_⟩;generalize ((s.zip v).map λq=>if q.1=1 then kS 0 else q.2)=u at c;unfold B0 IU;exact rn;obtain⟨q,hq,rfl⟩:=List.mem_map.mp h;split;exact wQ _ _;exact dp _ (A7 hq).2;unfold cz;rw[<-dx,uX]
theorem uZ:∀s:WR,(sE s).length=s.length|[]=>rfl|_::s=>congrArg (·+1) (uZ s)
theorem strides(s:WR)(h:SI s):BV [T s]=.ok (T<|sE s) []:=by
 have hl:=h.1;have hd:Sd s:=⟨hl,λx hx=>by have:=h.2.1 x hx;lia⟩;obtain⟨⟨xs,st⟩,t,⟨h1,h2⟩,ht,L⟩:=aO (g:=aj 3) (body:=cE) D.int (λ(s':List Int×Int)(t:Sl)=>[.sh<|T s,.ow<|Z s'.1,.sh<|.int s'.2,t]) ko s.reverse (λk s'=>s'.1.reverse=sE (s.drop<|s.length-k)/\s'.2=ak (s.drop<|s.length-k)) ([],1) .no rfl (by simp[sE,ak]) (by
  intro i y hy s' t ht hP;obtain⟨xs,st⟩:=s';obtain⟨p1,p2⟩:=hP;dsimp only at p1 p2;have hm:=h.2.1 y<|List.mem_reverse.mp<|Rb hy;have hi:=(List.getElem?_eq_some_iff.mp hy).1;rw[List.length_reverse] at hi;have hf:free (some t)=true:=ht;have p3:=(hd.drop<|s.length-i).prod;have e:s.drop (s.length-(i+1))=y::s.drop (s.length-i):=by rw[ZG hi] at hy;have:=Vt (l:=s) (i:=s.length-(i+1)) Zl;rw[this,show s.length-(i+1)+1=s.length-i by lia];rw[Rg Zl] at hy;simp only[show s.length-(i+1)=s.length-1-i by lia,Option.some.inj hy]
  have xl:xs.length<=4:=by have:=congrArg List.length p1;rw[List.length_reverse] at this;rw[this,uZ];simp;lia
  have ap:=vq xs st Zl;have mu:=bN st y Zl Zl;refine⟨(xs++[st],st*y),.sh<|.int y,⟨?_,?_⟩,rfl,?_⟩;show (xs++[st]).reverse=_;rw[e,List.reverse_append,p1,p2];rfl;show st*y=_;rw[e,p2,Int.mul_comm];rfl;have e:aj 3 (.int y) [.sh<|T s,.ow<|Z xs,.sh<|.int st,t]=.ok () [.sh<|T s,.ow<|Z xs,.sh<|.int st,.sh<|.int y]:=by simp[hf]
  dsimp only;rw[aB,e,ag,show cE _=.ok .nx _ by unfold cE;exact ao];rfl)
 dsimp only at L h1;rw[List.length_reverse,Nat.sub_self,List.drop_zero] at h1;have e1:(bR<|T s).map List.reverse=some (s.reverse.map D.int):=ZA;have e2:uS (Z xs)=some (T<|sE s):=h1 ▸ P4 xs;have z0:Z []=.lst []:=rfl;rw[z0] at L;unfold BV IL;exact rn
theorem xC:∀(x ys:WR)(j:Nat)(v:Int),x.length=ys.length->j<ys.length->dot x (ys.set j<|ys.getD j 0+v)=dot x ys+x.getD j 0*v
|[],ys,j,v,h,hj=>by simp at h;lia|a::x,[],j,v,h,hj=>by simp at hj|a::x,y::ys,0,v,h,hj=>by show a*(y+v)+_=a*y+_+a*v;rw[Int.mul_add];lia|a::x,y::ys,j+1,v,h,hj=>by
 have:=xC x ys j v (by simpa using h) (by simpa using hj);simp only[List.set_cons_succ,List.getD_cons_succ,dot] at this ⊢
 lia
theorem tV:∀(x:WR)(n:Nat),dot x (List.replicate n 0)=0|[],n=>by cases n<;>rfl|a::x,0=>rfl|a::x,n+1=>by show a*0+dot x (List.replicate n 0)=0;rw[tV x n];lia
theorem GK(m n:Nat)(w:Wy)(xs:WR)(hw:sI m n w)(hm:m<=100)(hx:∀y∈xs,0<=y/\y<=16777216):∃(a:Int)(ys:WR),BO [WD w,T xs,.int m]=.ok (.tup [.int a,T ys]) []/\ys.length=m/\∀x:WR,x.length=m->a+dot x ys=dot (bI w x) xs:=by
 have er:=gr m Zl;have c:az 1 (bF [(aa 2)]) (aj 7) (VP.ret true) ir [.sh<|WD w,.sh<|T xs,.sh<|.int m,.sh<|.int 0,.no,.no,.no]=.ok (Z<|List.replicate m 0) [.sh<|WD w,.sh<|T xs,.sh<|.int m,.sh<|.int 0,.no,.no,.no]:=by refine dN (λ(k:Nat)=>D.int k) (λ_=>D.int 0) (List.range m) ao (by simp;lia) (by simp[Z,List.map_const']) λk hk acc=>?_;unfold ir;exact ao
 have ez:pP [WD w,T xs]=some ((w.zip xs).map λq=>.tup [pD q.1,.int q.2]):=by
  have h:∀(w:Wy)(o:WR),List.zipWith (λx y=>D.tup [x,y]) (w.map pD) (o.map D.int)=(w.zip o).map λq=>.tup [pD q.1,.int q.2]:=by intro w;induction w with|nil=>intro o;rfl|cons x o ih=>intro w;cases w with|nil=>rfl|cons p w=>simp[ih]
  simp only[pP,wM,Vb,h]
 obtain⟨⟨a,ys⟩,t,⟨hP,hQ⟩,ht,L⟩:=aO (g:=dy [5,6]) (body:=bQ) (λ(q:(Int×Int×Int)×Int)=>D.tup [pD q.1,.int q.2]) (λ(s:Int×List Int)(t:Sl×Sl)=>[.sh<|WD w,.sh<|T xs,.sh<|.int m,.sh<|.int s.1,.ow<|Z s.2,t.1,t.2]) iV (w.zip xs) (λi s=>s.2.length=m/\∀x:WR,x.length=m->s.1+dot x s.2+dot (bI (w.drop i) x) (xs.drop i)=dot (bI w x) xs) (0,List.replicate m 0) (.no,.no) ⟨rfl,rfl⟩ ⟨ZA,λx _=>by simp[tV]⟩ (by
  intro i q hq s t ht hP;obtain⟨t3,t4⟩:=t;obtain⟨f3,f4⟩:=ht;obtain⟨a,ys⟩:=s;obtain⟨hP,hQ⟩:=hP;dsimp only at f3 f4 hP hQ;have Ck:=Rb hq;have hz:=List.getElem?_zip_eq_some.mp hq;obtain⟨⟨x,y,z⟩,v⟩:=q;have hv:=hx v (A7 Ck).2;have hp:=hw.2 _ (A7 Ck).1;have m1:=bN x v Zl Zl;have m2:=bN z v Zl Zl;have d1:w.drop i=(x,y,z)::w.drop (i+1):=by rw[Vt (List.getElem?_eq_some_iff.mp hz.1).1,(List.getElem?_eq_some_iff.mp hz.1).2]
  have d2:xs.drop i=v::xs.drop (i+1):=by rw[Vt (List.getElem?_eq_some_iff.mp hz.2).1,(List.getElem?_eq_some_iff.mp hz.2).2]
  rw[d1,d2] at hQ;have e:dy [5,6] (.tup [pD (x,y,z),.int v]) [.sh<|WD w,.sh<|T xs,.sh<|.int m,.sh<|.int a,.ow<|Z ys,t3,t4]=.ok () [.sh<|WD w,.sh<|T xs,.sh<|.int m,.sh<|.int a,.ow<|Z ys,.sh<|.tup [.int x,.int y,.int z],.sh<|.int v]:=by simp[f3,f4,pD]
  by_cases c:y=-1;subst c;have ne:gI (.int<|-1) (.int<|-1)=some (.bl false):=bz _ _;refine⟨(a+x*v,ys),(.sh<|.tup [.int x,.int<|-1,.int z],.sh<|.int v),⟨hP,λu hu=>?_⟩,⟨rfl,rfl⟩,?_⟩;have:a+dot u ys+(x*v+dot (bI (w.drop<|i+1) u) (xs.drop<|i+1))=_:=hQ u hu;dsimp only
  lia
  dsimp only;rw[aB,e,ag,show bQ _=.ok .nx _ by unfold bQ;exact ao];rfl;obtain⟨j,rfl⟩:∃j:Nat,y=j:=⟨y.toNat,by rcases hp with h|h<;>lia⟩;have hj:j<ys.length:=by rw[hP];rcases hp with h|h<;>lia
  have g1:=bM ys j Zl Zl;have st:=yN ys (j:Int) (ys.getD j 0+z*v) Zl Zl;rw[N9] at g1 st;have il:isLst (some<|Z ys)=true:=rfl;have ne:gI (.int (j:Int)) (.int<|-1)=some (.bl true):=by rw[bz,T1 c];rfl
  have ix:ah (Z ys) (.int (j:Int))=some (.int<|ys.getD j 0):=g1;refine⟨(a+x*v,ys.set j<|ys.getD j 0+z*v),(.sh<|.tup [.int x,.int j,.int z],.sh<|.int v),⟨by simpa using hP,λu hu=>?_⟩,⟨rfl,rfl⟩,?_⟩;have q:a+dot u ys+((if (j:Int)=-1 then x else x+z*u.getD (j:Int).toNat 0)*v+dot (bI (w.drop<|i+1) u) (xs.drop<|i+1))=_:=hQ u hu;rw[Zj c,N9,Int.add_mul] at q;dsimp only;rw[xC u ys j _ Zl hj];have:z*u.getD j 0*v=u.getD j 0*(z*v):=by rw[Int.mul_comm z,Int.mul_assoc]
  lia
  dsimp only;rw[aB,e,ag,show bQ _=.ok .nx _ by unfold bQ;exact ao];rfl)
 dsimp only at L hP hQ;have tz:=sG ys;refine⟨a,ys,by unfold BO ID;exact rn,hP,λx hx=>?_⟩;have q:=hQ x hx;have:dot (bI (w.drop (w.zip xs).length) x) (xs.drop (w.zip xs).length)=0:=by by_cases h:w.length<=xs.length;rw[List.length_zip,Nat.min_eq_left h,List.drop_length];rfl;rw[List.length_zip,Nat.min_eq_right Zl,List.drop_length];cases bI (w.drop xs.length) x<;>rfl
 lia
theorem gD(s:WR)(k:Nat)(h:k<s.length):s.getD k 0=s[k]:=by simp[h]
theorem ij(s:WR)(k i:Nat)(x:Int)(h:k<s.length):(rep s k x).getD i 0=if i=k then x else s.getD i 0:=by rw[nE _ _ _ h];simp only[zT,List.getElem?_set];by_cases e:k=i;subst e;simp[h];simp[e,show ¬i=k fromλz=>e z.symm]
theorem cn(s:WR)(k:Nat)(x:Int)(h:k<s.length):(rep s k x).length=s.length:=by rw[nE _ _ _ h];simp
theorem kL(s:WR)(k:Nat)(x:Int):(pin s k x).length=s.length+1:=by unfold pin;rw[U0,List.length_cons,<-Nat.add_assoc,<-U0,List.take_append_drop]
theorem jd{s:WR}{k:Nat}(h:k<s.length):(wo s k).length+1=s.length:=by unfold wo;rw[U0,Nat.add_assoc,List.length_drop,MN,Nat.min_eq_left<|Nat.le_of_lt h,<-Nat.sub_sub,Nat.sub_add_cancel<|Nat.sub_pos_of_lt h,Nat.add_sub_cancel'<|Nat.le_of_lt h]
theorem vb(s:WR)(k i:Nat):(wo s k).getD i 0=if i<k then s.getD i 0 else s.getD (i+1) 0:=by
 unfold wo;by_cases hk:k<=s.length;by_cases h:i<k;simp[h,B5,Nat.lt_min,EU h hk];have e:k+1+(i-k)=i+1:=by rw[Nat.add_right_comm,Nat.add_sub_cancel'<|Nat.le_of_not_lt h]
 rw[Zj h,zT,OG (by rw[MN,Nat.min_eq_left hk];exact Nat.le_of_not_lt h)];simp[List.getElem?_drop,Nat.min_eq_left hk,e];have hk:=Nat.le_of_not_le hk;rw[MI hk,List.drop_of_length_le<|Nat.le_succ_of_le hk,Xq];split;rfl;rename_i h;have h:=YQ hk<|Nat.le_of_not_lt h;simp[F4 h,F4<|Nat.le_succ_of_le h]
theorem wB(s:WR)(k i:Nat)(x:Int)(hk:k<=s.length):(pin s k x).getD i 0=if i<k then s.getD i 0 else if i=k then x else s.getD (i-1) 0:=by unfold pin;by_cases h:i<k;simp[h,B5,Nat.lt_min,EU h hk];rw[Zj h,zT,OG (by rw[MN,Nat.min_eq_left hk];exact Nat.le_of_not_lt h)];by_cases e:i=k;subst e;simp[Nat.min_eq_left hk];obtain⟨j,rfl⟩:=Nat.le.dest<|Nat.lt_of_le_of_ne (Nat.le_of_not_lt h) λz=>e z.symm;rw[Zj e,MN,Nat.min_eq_left hk,Nat.succ_add,Nat.succ_sub<|Nat.le_add_right ..,Nat.add_sub_cancel_left];simp
theorem yx(x:WR)(j:Nat)(p:Int)(h:x.length<=100):aU (T<|x.take j) (.tup [.int p])=some (T<|x.take j++[p])/\aU (T<|x.take j++[p]) (T<|x.drop j)=some (T<|pin x j p):=by
 have h1:=List.length_take_le' j x;have h2:(x.drop j).length<=x.length:=by rw[List.length_drop];exact Nat.sub_le ..
 refine⟨b7 _ [p] (by show _+1<=16777216;lia),?_⟩;rw[b7 _ _ (by rw[U0];show _+1+_<=16777216;lia),List.append_assoc];rfl
theorem Ef(x:WR)(j:Nat)(h:x.length<=100):aU (T<|x.take j) (T<|x.drop<|j+1)=some (T<|wo x j):=by
 have h1:=List.length_take_le' j x;have h2:(x.drop<|j+1).length<=x.length:=by rw[List.length_drop];exact Nat.sub_le ..
 exact b7 _ _ (by show _+_<=16777216;lia)
theorem gp{s x:WR}{k:Nat}{y v:Int}(h:Ix (rep s k y) x)(hk:k<s.length)(h0:0<=v)(h1:v<s.getD k 0):Ix s (rep x k v):=by obtain⟨hl,hx⟩:=h;rw[cn _ _ _ hk] at hl hx;refine⟨by rw[cn _ _ _ Zl,hl],λi hi=>?_⟩;have:=hx i hi;rw[ij _ _ _ _ hk] at this;rw[ij _ _ _ _ Zl];split;rename_i e;subst e;exact⟨h0,h1⟩;rename_i e;rw[Zj e] at this;exact this
theorem vS{s x:WR}{k:Nat}{v:Int}(h:Ix (wo s k) x)(hk:k<s.length)(h0:0<=v)(h1:v<s.getD k 0):Ix s (pin x k v):=by obtain⟨hl,hx⟩:=h;have l2:x.length+1=s.length:=hl ▸ jd hk;have kx:k<=x.length:=Nat.le_of_lt_succ<|Nat.lt_of_lt_of_eq hk l2.symm;refine⟨(kL ..).trans l2,λi hi=>?_⟩;rw[wB _ _ _ _ kx];rw[<-l2] at hi;by_cases c:i<k;have:=hx i<|hl ▸ EU c kx;rw[vb,Ue c] at this;rw[Ue c];exact this;rw[Zj c];by_cases e:i=k;rw[Ue e];subst e;exact⟨h0,h1⟩;cases i with|zero=>exact absurd (Nat.le_zero.mp<|Nat.le_of_not_lt c).symm e|succ i=>have:=hx i<|hl ▸ Nat.lt_of_succ_lt_succ hi;rw[vb,Zj (λz:i<k=>c<|Nat.lt_of_le_of_ne z e)] at this;rw[Zj e];exact this
theorem KD{s x:WR}{k:Nat}{y:Int}(h:Ix (pin s k y) x)(hk:k<=s.length):Ix s (wo x k):=by obtain⟨hl,hx⟩:=h;rw[kL] at hl hx;refine⟨Nat.succ.inj ((jd<|hl ▸ Nat.lt_succ_of_le hk).trans hl),λi hi=>?_⟩;rw[vb];by_cases c:i<k;have:=hx i<|y7 hi;rw[wB _ _ _ _ hk,Ue c] at this;rw[Ue c];exact this;have:=hx (i+1)<|Nat.succ_lt_succ hi;rw[wB _ _ _ _ hk,Zj (λz:i+1<k=>c<|Nat.lt_of_succ_lt z),Zj (λz:i+1=k=>c<|z ▸ GC i)] at this;rw[Zj c];exact this
theorem CA{s x o:WR}(h:Ix (o.map λy=>s.getD y.toNat 0) x)(hl:o.length=s.length)(ha:∀j:Nat,j<s.length->(j:Int)∈o):Ix s (w7 o x):=by
 obtain⟨h1,h2⟩:=h;refine⟨by simp[w7,hl],λk hk=>?_⟩;have hi:=List.idxOf_lt_length_of_mem<|ha k hk;have q:=h2 (o.idxOf (k:Int)) (by simpa using hi);have e:(w7 o x).getD k 0=x.getD (o.idxOf (k:Int)) 0:=by simp[w7,hl,hk]
 have e2:(o.map λy=>s.getD y.toNat 0).getD (o.idxOf (k:Int)) 0=s.getD k 0:=by rw[gD _ _ (by simpa using hi),List.getElem_map,List.getElem_idxOf,N9]
 rw[e2] at q;rw[e];exact q
def Sp(s t:WR):Prop:=s.length<=t.length/\∀k,k<s.length->s.getD k 0=1\/s.getD k 0=t.getD (t.length-s.length+k) 0
theorem Qp{a M k:Nat}(h:a<=M):M-1-(M-a+k)=a-1-k:=by obtain⟨c,rfl⟩:=Nat.le.dest h;rw[Nat.add_sub_cancel_left,Nat.sub_sub,Nat.add_left_comm,Nat.add_comm c,Nat.add_sub_add_right,Nat.add_comm,Nat.sub_sub,Nat.add_comm]
theorem ER{s:WR}{k:Nat}(hk:k<s.length):back s (s.length-1-k)=s.getD k 0:=by unfold back;rw[Ue<|Nat.lt_of_le_of_lt (Nat.sub_le _ _)<|Nat.sub_one_lt_of_lt hk,Nat.sub_sub_self<|Nat.le_sub_one_of_lt hk];simp[hk]
theorem bA{s t m:WR}(h:meet s t=some m):Sp s m:=by
 have hl:=b9 h;have hM:s.length<=m.length:=hl ▸ za ..;unfold meet at h;split at h;rename_i ok;cases h;refine⟨hM,λk hk=>?_⟩;have lt:s.length-1-k<max s.length t.length:=EU (Nat.lt_of_le_of_lt (Nat.sub_le _ _)<|Nat.sub_one_lt_of_lt hk)<|za ..;have hp:(pairs s t)[s.length-1-k]?=some (back s<|s.length-1-k,back t<|s.length-1-k):=by rw[pairs,mS,PG lt];rfl
 have o:=List.all_eq_true.mp ok _<|Rb hp;have q:(((pairs s t).map λp=>pk p.1 p.2).reverse)[max s.length t.length-s.length+k]?=some (pk (back s<|s.length-1-k)<|back t<|s.length-1-k):=by rw[List.length_reverse] at hl hM;rw[ZG (by rw[hl];exact EU (Nat.add_lt_add_left hk _)<|Nat.le_of_eq<|Nat.sub_add_cancel<|hl ▸ hM),hl,Qp<|hl ▸ hM,mS,hp];rfl
 rw[hl,zT (l:=List.reverse _),q,<-ER hk];show _\/_=(if _ then _ else _);split;exact .inl ‹_›;exact .inr rfl;cases h
theorem Sp.trans{s t u:WR}(h:Sp s t)(k:Sp t u):Sp s u:=by refine⟨YQ h.1 k.1,λi hi=>?_⟩;rcases h.2 i hi with e|e;exact .inl e;rcases k.2 (t.length-s.length+i) (EU (Nat.add_lt_add_left hi _)<|Nat.le_of_eq<|Nat.sub_add_cancel h.1) with z|z;exact .inl<|e.trans z;refine .inr ?_;obtain⟨c,hc⟩:=Nat.le.dest h.1;obtain⟨d,hd⟩:=Nat.le.dest k.1;rw[e,z,<-Nat.add_assoc,<-hd,Nat.add_sub_cancel_left,<-hc,Nat.add_sub_cancel_left,Nat.add_assoc s.length,Nat.add_sub_cancel_left,Nat.add_comm c]
theorem sD(s x:WR)(hl:s.length<=x.length)(k:Nat)(hk:k<s.length):(cz s x).getD k 0=if s.getD k 0=1 then 0 else x.getD (x.length-s.length+k) 0:=by unfold cz;rw[gD _ _ (by simp;lia),List.getElem_zipWith,List.getElem_drop,gD s k hk,gD _ _ Zl]
theorem pA(s x:WR)(hl:s.length<=x.length):(cz s x).length=s.length:=by simp[cz];lia
theorem cB{s t x:WR}(h:Ix t x)(p:Sp s t):Ix s (cz s x):=by obtain⟨hl,hx⟩:=h;have p1:=p.1;refine⟨pA _ _ Zl,λk hk=>?_⟩;rw[sD _ _ Zl k hk];have:=hx (t.length-s.length+k) Zl;rw[hl];rcases p.2 k hk with e|e;rw[e,Ue rfl];decide;split;rename_i z;rw[z];decide;rw[e];exact this
theorem Ix.self{s x:WR}(h:Ix s x):cz s x=x:=by obtain⟨hl,hx⟩:=h;refine zN (by rw[pA _ _ Zl,hl]) λk h1 h2=>?_;rw[<-gD _ _ h1,<-gD _ _ h2,sD _ _ Zl k Zl,show x.length-s.length+k=k by lia];split;have:=hx k Zl;lia;rfl
inductive Tr where
 |gy (x:Int)|read (at_:Nat) (a:Int) (ys:WR)|one (d:Nat) (t:Tr)|both (d:Nat) (l r:Tr)|bx (a l r:Tr)|within (p:Int×Int×Int) (z:Int) (t:Tr) (x:Int)|joined (p:Int×Int×Int) (z:Int) (l r:Tr)
def Tr.d:Tr->D|.gy x=>.ins "Even" ["number"] [.int x]|.read n a ys=>.ins "Read" ["line","start","steps"] [.int n,.int a,T ys]|.one d t=>.ins "One" ["deed","inner"] [.str<|nm d,t.d]|.both d l r=>.ins "Both" ["deed","left","right"] [.str<|nm d,l.d,r.d]|.bx a l r=>.ins "Where" ["asked","left","right"] [a.d,l.d,r.d]|.within p z t x=>.ins "Within" ["part","size","inner","number"] [pD p,.int z,t.d,.int x]|.joined p z l r=>.ins "Joined" ["part","size","ahead","behind"] [pD p,.int z,l.d,r.d]
def Tr.rs:Tr->List Nat|.gy _=>[]|.read n _ _=>[n]|.one _ t=>t.rs|.both _ l r=>l.rs++r.rs|.bx a l r=>a.rs++l.rs++r.rs|.within _ _ t _=>t.rs|.joined _ _ l r=>l.rs++r.rs
def Tr.dep:Tr->Nat|.gy _=>1|.read _ _ _=>1|.one _ t=>t.dep+1|.both _ l r=>max l.dep r.dep+1|.bx a l r=>max a.dep (max l.dep r.dep)+1|.within _ _ t _=>t.dep+1|.joined _ _ l r=>max l.dep r.dep+1
def mX(d:Nat)(x:Int):Int:=if d=16 then(1000003-x) % 1000003 else if d=17 then(x-x % 2) / 2 else if x=0 then 1 else 0
def eG(d:Nat)(x y:Int):Int:=if d=19 then(x+y) % 1000003 else if d=20 then(x+1000003-y) % 1000003 else if d=21 then x*y % 1000003 else if d=24 then(if x<y then 1 else 0) else if d=25 then(if x=y then 1 else 0) else if decide (d=22)=decide (x<y) then x else y
def Tr.val(R:Nat->WR)(x:WR):Tr->Int|.gy y=>y|.read n a ys=>(R n).getD (a+dot x ys).toNat 0|.one d t=>mX d (t.val R x)|.both d l r=>eG d (l.val R x) (r.val R x)|.bx a l r=>if a.val R x=0 then r.val R x else l.val R x|.within p z t y=>if 0<=gV x p/\gV x p<z then t.val R x else y|.joined p z l r=>if gV x p<z then l.val R x else r.val R x
def Tr.ok(R:Nat->WR)(x:WR):Tr->Prop|.gy _=>True|.read n a ys=>ys.length=x.length/\0<=a+dot x ys/\a+dot x ys<(R n).length|.one d t=>(16<=d/\d<=18)/\Rt (t.val R x)/\t.ok R x|.both d l r=>(19<=d/\d<=25)/\(Rt (l.val R x)/\Rt (r.val R x))/\l.ok R x/\r.ok R x|.bx a l r=>a.ok R x/\(¬a.val R x=0->l.ok R x)/\(a.val R x=0->r.ok R x)|.within p z t _=>Em x.length p/\(0<=gV x p/\gV x p<z->t.ok R x)|.joined p z l r=>Em x.length p/\(gV x p<z->l.ok R x)/\(¬gV x p<z->r.ok R x)
theorem Nw(x:D):M1 [.ins "Even" [] [],x]=.ok .aK [.ins "Even" ["number"] [x]]:=YN
theorem NC(x y z:D):Br [.ins "Read" [] [],x,y,z]=.ok .aK [.ins "Read" ["line","start","steps"] [x,y,z]]:=YN
theorem TP(x y:D):M7 [.ins "One" [] [],x,y]=.ok .aK [.ins "One" ["deed","inner"] [x,y]]:=YN
theorem Q2E(x y z:D):M0 [.ins "Both" [] [],x,y,z]=.ok .aK [.ins "Both" ["deed","left","right"] [x,y,z]]:=YN
theorem ND(x y z:D):Bw [.ins "Where" [] [],x,y,z]=.ok .aK [.ins "Where" ["asked","left","right"] [x,y,z]]:=YN
theorem tTs(x y z u:D):Bx [.ins "Within" [] [],x,y,z,u]=.ok .aK [.ins "Within" ["part","size","inner","number"] [x,y,z,u]]:=YN
theorem Q1K(x y z u:D):M5 [.ins "Joined" [] [],x,y,z,u]=.ok .aK [.ins "Joined" ["part","size","ahead","behind"] [x,y,z,u]]:=YN
def Wv(ls:Ra)(ss:XW)(kp:Wz)(m:Nat):D:=.ins "Weaver" ["program","sides","kept","many"] [Pg ls,aG ss,gM kp,.int m]
section
variable(ls:Ra)(ss:XW)(kp:Wz)(m:Nat)
theorem ZJ:aJ oj "program" (Wv ls ss kp m)=some (Pg ls):=YN
theorem QN:aJ gE "sides" (Wv ls ss kp m)=some (aG ss):=YN
theorem ZH:aJ xW "kept" (Wv ls ss kp m)=some (gM kp):=YN
theorem Q1z:aJ xX "many" (Wv ls ss kp m)=some (.int m):=YN
theorem VO:iB "Weaver" "row_read" (Wv ls ss kp m)=true:=YN
theorem VQ:iB "Weaver" "tree_made" (Wv ls ss kp m)=true:=YN
theorem Ei:iB "Weaver" "tree_named" (Wv ls ss kp m)=true:=YN
theorem VR:iB "Weaver" "tree_spread" (Wv ls ss kp m)=true:=YN
theorem ZE:iB "Weaver" "tree_shifted" (Wv ls ss kp m)=true:=YN
theorem ZF:iB "Weaver" "tree_joined" (Wv ls ss kp m)=true:=YN
theorem Q2S:iB "Weaver" "tree_viewed" (Wv ls ss kp m)=true:=YN
theorem QM:Bt [.ins "Weaver" [] [],Pg ls,aG ss,gM kp,.int m]=.ok .aK [Wv ls ss kp m]:=YN
theorem G5{s:WR}(h:Sd s):∀y∈sE s,0<=y/\y<=16777216:=by induction s with|nil=>intro y hy;cases hy|cons a s ih=>intro y hy;rcases List.mem_cons.mp hy with rfl|hy;exact h.tail.prod;exact ih h.tail y hy
theorem SI.sd{s:WR}(h:SI s):Sd s:=⟨h.1,λx hx=>by have:=h.2.1 x hx;lia⟩
theorem row_read(at_ n:Nat)(w:Wy)(s:WR)(hs:SI s)(hw:sI m n w)(hm:m<=100):∃a ys,xH [Wv ls ss kp m,.int at_,WD w,T s]=.ok (Tr.read at_ a ys).d []/\ys.length=m/\∀x:WR,x.length=m->a+dot x ys=jx s (bI w x):=by have e1:=strides s hs;obtain⟨a,ys,e2,h1,h2⟩:=GK m n w (sE s) hw hm<|G5 hs.sd;have e3:=Q1z ls ss kp m;have e4:=NC (.int at_) (.int a)<|T ys;have p1:=Fe (.int a)<|T ys;have p2:=DK (.int a)<|T ys;refine⟨a,ys,?_,h1,h2⟩;unfold Tr.d xH HN;generalize Wv ls ss kp m=W at *;exact rn
inductive qf(ls:Ra)(kp:Wz):Nat->Nat->Prop where
 |self {a:Nat} (h:kp[a]?=some true):qf ls kp a a|step {a b r:Nat} (h:kp[a]?=some false) (hb:b∈eK ls a) (hr:qf ls kp b r):qf ls kp a r
theorem qf.kept{ls:Ra}{kp:Wz}{a r:Nat}(h:kp[a]?=some true):qf ls kp a r<->r=a:=by
 constructor;intro z;cases z with|self _=>rfl|step h2=>rw[h] at h2;cases h2
 rintro rfl;exact .self h
def As(ls:Ra)(kp:Wz)(a r:Nat):Prop:=∃b∈eK ls a,qf ls kp b r
structure Kp(ls:Ra)(kp:Wz):Prop where
 len:kp.length=ls.length
 k4:∀i,gN ls i->kd ls i∈[0,12,13,14]->kp[i]?=some true
 k2:∀i,gN ls i->kd ls i∈[7,14]->∀a∈eK ls i,kp[a]?=some true
 last:kp[ls.length-1]?=some true
 want:∀i,kp[i]?=some true->gN ls i
variable(cs:Nat->WR)
def cv(a:Nat)(x:WR):Int:=(cs a).getD (jx (sd ss a) x).toNat 0
def cw(a:Nat)(x:WR):Int:=cv ss cs a (cz (sd ss a) x)
def HF(own x:WR):PL->Int->Prop|.gy _ y,v=>v=y|.one d a,v=>v=mX d (cw ss cs a x)|.both d a b,v=>v=eG d (cw ss cs a x) (cw ss cs b x)|.bx a b c,v=>v=if cw ss cs a x=0 then cw ss cs c x else cw ss cs b x|.shift a k n y,v=>v=if 0<=x.getD k.toNat 0-n/\x.getD k.toNat 0-n<(sd ss a).getD k.toNat 0 then cw ss cs a (rep x k.toNat<|x.getD k.toNat 0-n) else y|.join a b k,v=>v=if x.getD k.toNat 0<(sd ss a).getD k.toNat 0 then cw ss cs a x else cw ss cs b (rep x k.toNat<|x.getD k.toNat 0-(sd ss a).getD k.toNat 0)|.shape a _,v=>v=(cs a).getD (jx own x).toNat 0|.turn a o,v=>v=cw ss cs a (w7 o x)|.cut a k b st _,v=>v=cw ss cs a (rep x k.toNat<|b+x.getD k.toNat 0*st)|.drop a k p,v=>v=cw ss cs a (pin x k.toNat p)|.wide a k,v=>v=cw ss cs a (wo x k.toNat)|.spread a _,v=>v=cw ss cs a x|_,_=>True
structure Cs:Prop where
 len:∀a,gN ls a->((cs a).length:Int)=ak (sd ss a)
 rt:∀a,gN ls a->∀v∈cs a,Rt v
 eq:∀a,gN ls a->∀x,Ix (sd ss a) x->HF ss cs (sd ss a) x (aQ ls a) (cv ss cs a x)
def Sem(m:Nat)(t:Tr)(a:Nat)(f:WR->WR):Prop:=∀x:WR,x.length=m->Ix (sd ss a) (f x)->t.ok cs x/\t.val cs x=cv ss cs a (f x)
def m7(n at_:Nat):Prop:=∀(m:Nat)(w:Wy),sI m (sd ss at_).length w->m<=100->∃t:Tr,cX n 0 [Wv ls ss kp m,.int at_,WD w]=.ok t.d []/\t.dep<=at_+1/\(∀r,r∈t.rs<->qf ls kp at_ r)/\Sem ss cs m t at_ (bI w)
end
theorem qX{o:WR}{n:Nat}(h:sortI o=kY n):(∀j:Nat,j<n->(j:Int)∈o)/\o.Nodup:=by have p:=sortI_perm o;rw[h] at p;refine⟨λj hj=>p.mem_iff.mp<|List.mem_map.mpr ⟨j,by simpa using hj,rfl⟩,p.nodup_iff.mp ?_⟩;unfold kY List.Nodup;rw[List.pairwise_map];exact List.nodup_range.imp λh z=>h Zl
theorem fY{ss:XW}{cs:Nat->WR}{a:Nat}{x:WR}(h:Ix (sd ss a) x):cw ss cs a x=cv ss cs a x:=by unfold cw;rw[h.self]
theorem kP(s:WR)(k:Nat)(h:k<s.length):rep s k (s.getD k 0)=s:=by rw[nE _ _ _ h,gD _ _ h];simp
theorem Eg{s t:WR}{j:Nat}(h:s.length=t.length)(hj:j<s.length)(e:wo s j=wo t j)(v:Int):rep s j v=rep t j v:=by unfold wo at e;have:=List.append_inj e (by simp[h]);unfold rep;rw[this.1,this.2]
theorem Ba(st b m y:Int)(hy:0<=y/\y<m){z:Int}(h:0<m->(0<=b/\b<z)/\0<=b+st*(m-1)/\b+st*(m-1)<z):0<=b+st*y/\b+st*y<z:=by
 have h:=h Zl;rcases Int.le_total 0 st with c|c;have:=FH c hy.1;have:=Int.mul_le_mul_of_nonneg_left (show y<=m-1 by lia) c
 lia
 have:=FH (show 0<=-st by lia) hy.1;have:=Int.mul_le_mul_of_nonneg_left (show y<=m-1 by lia) (show 0<=-st by lia);rw[Int.neg_mul,Int.neg_mul] at *
 lia
section
variable{gs:XW}{ls:Ra}{ss:XW}{ix_:Nat}(g:Gd gs ls ss ix_){kp:Wz}(K:Kp ls kp){cs:Nat->WR}(C:Cs ls ss cs)
theorem gX{i:Nat}(h:i<ls.length):ls[i]?=some (aQ ls i):=by simp[aQ,h]
include g
theorem kX{i:Nat}(h:i<ls.length):Told gs.length (sd gs) (sd ss) (aQ ls i) (sd ss i):=g.told i _ (gX h)
theorem gh{i:Nat}(h:i<ls.length):SI (sd ss i):=g.si.at (by have:=g.len;lia)
theorem gJ{i b:Nat}(h:i<ls.length)(hb:b∈eK ls i):b<i:=g.wf i _ (gX h) b hb
theorem fC{n a k:Nat}(ha:a<ls.length)(N:m7 ls ss kp cs n a)(m:Nat)(w:Wy)(hw:sI m k w)(hk:(sd ss a).length<=k)(Yl:k<=100)(hm:m<=100):∃t:Tr,cX (n+1) 3 [Wv ls ss kp m,.int a,WD w]=.ok t.d []/\t.dep<=a+1/\(∀r,r∈t.rs<->qf ls kp a r)/\Sem ss cs m t a λx=>cz (sd ss a) (bI w x):=by obtain⟨w',e,sM,wx⟩:=G4 m k w (sd ss a) hk Yl hw;obtain⟨t,et,h1,h2,h3⟩:=N m w' sM hm;refine⟨t,?_,h1,h2,λx hx hi=>by dsimp only at hi ⊢;rw[<-wx] at hi ⊢;exact h3 x hx hi⟩;have f1:=QN ls ss kp m;have f2:=Ei ls ss kp m;have ia:=a7 ss a (by have:=g.len;lia);show defn 3 [false,false,false] (AG<|cX n) _=_;generalize Wv ls ss kp m=W at *;generalize t.d=td at *;generalize cX n=wf at *;unfold AG;exact rn
def Mu(ls:Ra)(ss:XW)(kp:Wz)(cs:Nat->WR)(n at_:Nat):Prop:=∀(m:Nat)(w:Wy),sI m (sd ss at_).length w->m<=100->∃t:Tr,cX n 1 [Wv ls ss kp m,.int at_,WD w]=.ok t.d []/\t.dep<=at_+1/\(∀r,r∈t.rs<->As ls kp at_ r)/\Sem ss cs m t at_ (bI w)
theorem xA{a:Nat}(C:Cs ls ss cs)(ha:a<ls.length)(hr:gN ls a){x:WR}(h:Ix (sd ss a) x):0<=jx (sd ss a) x/\jx (sd ss a) x<(cs a).length/\Rt (cv ss cs a x):=by have p:=h.place λy hy=>((gh g ha).2.1 y hy).1;have l:=C.len a hr;have hl:(jx (sd ss a) x).toNat<(cs a).length:=Zl;exact⟨p.1,Zl,by unfold cv;rw[gD _ _ hl];exact C.rt a hr _<|DF hl⟩
theorem Hw{n at_ a:Nat}(l:PL)(hl:aQ ls at_=l)(iW:at_<ls.length)(hk:l.k=2\/l.k=3\/l.k=4\/l.k=5\/l.k=6)(ha:l.ns=[a])(N:∀n',n<=n'->m7 ls ss kp cs n' a)(m:Nat)(w:Wy)(hw:sI m (sd ss at_).length w)(hm:m<=100)(C:Cs ls ss cs)(hr:gN ls at_):∃t:Tr,cX (n+2) 2 [Wv ls ss kp m,l.d,WD w]=.ok t.d []/\t.dep<=a+1/\(∀r,r∈t.rs<->qf ls kp a r)/\Sem ss cs m t at_ (bI w):=by
 have E:=C.eq at_ hr;rw[hl] at E;have hT:=kX g iW;rw[hl] at hT;have hA:a<ls.length:=by have:=gJ g iW (b:=a) (by unfold eK;rw[hl,ha];simp);lia
 have sl:=(gh g iW).1;have sa:=(gh g hA).1;have f2:=Ei ls ss kp m;have f4:=VR ls ss kp m;cases l with
 |turn a' o=>
  simp only[PL.ns,List.cons.injEq,and_true] at ha;subst ha;obtain⟨h1,h2,h3⟩:=hT;rw[h3] at hw;simp only[List.length_map,h2] at hw;obtain⟨ha,hd⟩:=qX h1;obtain⟨w',e,sM,wx⟩:=turned m _ w o hw (λx hx=>mh h1 hx) h2 hd ha;obtain⟨t,et,t1,t2,t3⟩:=N (n+1) Zl m w' sM hm;refine⟨t,?_,t1,t2,λx hx hi=>?_⟩;rotate_left
  ·have iy:=CA (h3 ▸ hi) h2 ha;have E1:_=cw ss cs a' (w7 o<|bI w x):=E _ hi;rw[E1,fY iy,<-wx];rw[<-wx] at iy;exact t3 x hx iy
  show defn 4 [false,false,false] (iL<|cX<|n+1) [_,.tup [.str<|nm 2,.int a',T o],_]=_;generalize Wv ls ss kp m=W at *;generalize t.d=td at *;generalize cX (n+1)=wf at *;unfold iL;exact rn
 |cut a' k b st mm=>
  simp only[PL.ns,List.cons.injEq,and_true] at ha;subst ha;obtain⟨j,rfl,hj,h1,_,h2,h3⟩:=hT;rw[h3] at hw;rw[cn _ _ _ hj] at hw;obtain⟨w',e,sM,wx⟩:=moved m _ w j b st Zl Zl hj hw;obtain⟨t,et,t1,t2,t3⟩:=N (n+1) Zl m w' sM hm;refine⟨t,?_,t1,t2,λx hx hi=>?_⟩;rotate_left
  ·have E1:_=cw ss cs a' (rep (bI w x) j<|b+(bI w x).getD j 0*st):=E _ hi;rw[Int.mul_comm,<-wx] at E1;have Aj:=h3 ▸ hi;have q:=Aj.2 j (by rw[cn _ _ _ hj];exact hj);rw[ij _ _ _ _ hj,Ue rfl] at q;have r:=Ba st b mm ((bI w x).getD j 0) q h2;have iy:=gp Aj hj r.1 r.2;rw[<-wx] at iy;rw[E1,fY iy];exact t3 x hx iy
  show defn 4 [false,false,false] (iL<|cX<|n+1) [_,.tup [.str<|nm 3,.int a',.int j,.int b,.int st,.int mm],_]=_;generalize Wv ls ss kp m=W at *;generalize t.d=td at *;generalize cX (n+1)=wf at *;unfold iL;exact rn
 |drop a' k p=>
  simp only[PL.ns,List.cons.injEq,and_true] at ha;subst ha;obtain⟨j,rfl,hj,h2,h3⟩:=hT;rw[h3] at hw;obtain⟨w',e,sM,wx⟩:=dropped m _ w j p (Nat.le_of_lt_succ<|Nat.lt_of_lt_of_eq hj (jd hj).symm) (by rw[<-h3];lia) hw;rw[jd hj] at sM;obtain⟨t,et,t1,t2,t3⟩:=N (n+1) Zl m w' sM hm;refine⟨t,?_,t1,t2,λx hx hi=>?_⟩;rotate_left
  ·have E1:_=cw ss cs a' (pin (bI w x) j p):=E _ hi;have iy:=vS (h3 ▸ hi) hj h2.1 h2.2;rw[<-wx] at iy E1;rw[E1,fY iy];exact t3 x hx iy
  show defn 4 [false,false,false] (iL<|cX<|n+1) [_,.tup [.str<|nm 4,.int a',.int j,.int p],_]=_;generalize Wv ls ss kp m=W at *;generalize t.d=td at *;generalize cX (n+1)=wf at *;unfold iL;exact rn
 |wide a' k=>
  simp only[PL.ns,List.cons.injEq,and_true] at ha;subst ha;obtain⟨j,rfl,hj,h3⟩:=hT;rw[h3] at hw;obtain⟨w',e,sM,wx⟩:=pcl m _ w j (by rw[kL];exact Nat.lt_succ_of_le hj) (by rw[<-h3];lia) hw;rw[kL,Nat.add_sub_cancel] at sM;obtain⟨t,et,t1,t2,t3⟩:=N (n+1) Zl m w' sM hm;refine⟨t,?_,t1,t2,λx hx hi=>?_⟩;rotate_left
  ·have E1:_=cw ss cs a' (wo (bI w x) j):=E _ hi;have iy:=KD (h3 ▸ hi) hj;rw[<-wx] at iy E1;rw[E1,fY iy];exact t3 x hx iy
  show defn 4 [false,false,false] (iL<|cX<|n+1) [_,.tup [.str<|nm 5,.int a',.int j],_]=_;generalize Wv ls ss kp m=W at *;generalize t.d=td at *;generalize cX (n+1)=wf at *;unfold iL;exact rn
 |spread a' u=>
  simp only[PL.ns,List.cons.injEq,and_true] at ha;subst ha;obtain⟨h1,h3⟩:=hT;have ml:=b9 h1;rw[h3] at hw;obtain⟨t,et,t1,t2,t3⟩:=fC g hA (N n Zl) m w hw Zl (by rw[<-h3];lia) hm;refine⟨t,?_,t1,t2,λx hx hi=>?_⟩;rotate_left
  ·have E1:_=cw ss cs a' (bI w x):=E _ hi;rw[E1];exact t3 x hx (cB (h3 ▸ hi)<|bA h1)
  show defn 4 [false,false,false] (iL<|cX<|n+1) [_,.tup [.str<|nm 6,.int a',T u],_]=_;generalize Wv ls ss kp m=W at *;generalize t.d=td at *;generalize cX (n+1)=wf at *;unfold iL;exact rn
 |_=>simp[PL.k] at hk
theorem yr{n at_:Nat}(iW:at_<ls.length)(hk:kd ls at_∉[0,12,13,14])(h7:kd ls at_=7->∀a∈eK ls at_,kp[a]?=some true)(N:∀a∈eK ls at_,∀n',n<=n'->m7 ls ss kp cs n' a)(C:Cs ls ss cs)(hr:gN ls at_):Mu ls ss kp cs (n+3) at_:=by
 intro m w hw hm;have hT:=kX g iW;have dX:=λb hb=>gJ g iW (b:=b) hb;have hi:=oQ ls at_ iW;have hs:=a7 ss at_ (by have:=g.len;lia);have sl:=(gh g iW).1;have sL:=gh g iW;have f0:=ZJ ls ss kp m;have f1:=QN ls ss kp m;have f2:=Ei ls ss kp m;have f4:=VR ls ss kp m;have f5:=ZE ls ss kp m;have f6:=ZF ls ss kp m;have f7:=Q2S ls ss kp m;have f8:=VO ls ss kp m;have E:=C.eq at_ hr;have Q8:∀b∈eK ls at_,gN ls b:=λb hb=>.step hr (gX iW) hb;unfold kd at hk h7;unfold eK at N dX h7 Q8;unfold As eK;obtain⟨l,hl⟩:∃l,aQ ls at_=l:=⟨_,rfl⟩;rw[hl] at hk N hT hi dX h7 E Q8 ⊢;have vw:∀a,(l.k=2\/l.k=3\/l.k=4\/l.k=5\/l.k=6)->l.ns=[a]->∃t:Tr,defn 5 [false,false,false] (iK<|cX<|n+2) [Wv ls ss kp m,.int at_,WD w]=.ok t.d []/\t.dep<=at_+1/\(∀r,r∈t.rs<->∃b∈l.ns,qf ls kp b r)/\Sem ss cs m t at_ (bI w):=λa h2 h3=>by
  have ha:=dX a (by rw[h3];simp);obtain⟨t,et,t1,t2,t3⟩:=Hw g l hl iW h2 h3 (N a (by rw[h3];simp)) m w hw hm C hr;refine⟨t,?_,Zl,λr=>by rw[t2,h3];simp,t3⟩;have k1:=l.kind;have T7:=l.NQ;have ne:∀j,j<32->l.k≠j->fI (.str<|nm l.k) (.str<|nm j)=some (.bl false):=λj hj h=>by rw[Bm _ _ Zl hj,T1 h]
  have n1:=ne 1 Zl Zl;have n9:=ne 9 Zl Zl;have WN:=ne 10 Zl Zl;have n11:=ne 11 Zl Zl;have n8:=ne 8 Zl Zl;have n15:=ne 15 Zl Zl;have n7:=ne 7 Zl Zl;generalize Wv ls ss kp m=W at *;generalize l.d=ld at *;generalize t.d=td at *;generalize cX (n+2)=wf at *;unfold iK;exact rn
 have rd:∀a,a∈l.ns->a<ls.length:=λa ha=>by have:=dX a ha;lia
 have sa:∀a,a∈l.ns->ah (aG ss) (.int (a:Int))=some (T<|sd ss a):=λa ha=>a7 ss a (by have:=rd a ha;have:=g.len;lia);show ∃t:Tr,defn 5 [false,false,false] (iK<|cX<|n+2) _=_/\_/\_/\_;have vL:l.k≠0/\l.k≠12/\l.k≠13/\l.k≠14:=by simpa using hk
 cases l with
 |given j=>exact absurd rfl vL.1|fold d a k=>exact absurd rfl vL.2.1|run d a k=>exact absurd rfl vL.2.2.1|pick a k b=>exact absurd rfl vL.2.2.2|gy s x=>refine⟨.gy x,?_,by simp[Tr.dep],λr=>by simp[Tr.rs,PL.ns],λy hy hi=>⟨trivial,(E _ hi).symm⟩⟩;have e1:=Nw<|.int x;have hi:ah (Pg ls) (.int (at_:Int))=some (.tup [.str<|nm 1,T s,.int x]):=hi;unfold Tr.d;generalize Wv ls ss kp m=W at *;generalize cX (n+2)=wf at *;unfold iK;exact rn|turn a o=>exact vw _ (by simp[PL.k]) rfl|cut a k b st mm=>exact vw _ (by simp[PL.k]) rfl|drop a k p=>exact vw _ (by simp[PL.k]) rfl|wide a k=>exact vw _ (by simp[PL.k]) rfl|spread a u=>exact vw _ (by simp[PL.k]) rfl|shape a u=>
  have ka:=h7 rfl a (by simp[PL.ns]);obtain⟨x,ys,e,y1,y2⟩:=row_read ls ss kp m a _ w (sd ss at_) sL hw hm;obtain⟨h1,h3⟩:=hT;refine⟨.read a x ys,?_,by simp[Tr.dep],λr=>by simp[Tr.rs,PL.ns,qf.kept ka],λy hy hi=>?_⟩;rotate_left
  ·have p:=hi.place λy hy=>(sL.2.1 y hy).1;have l:=C.len a<|Q8 a (by simp[PL.ns]);have E1:_=(cs a).getD (jx (sd ss at_)<|bI w y).toNat 0:=E _ hi;rw[h1,<-h3] at l;have y3:=y2 y hy;exact⟨⟨y1.trans hy.symm,by rw[y3];exact p.1,by rw[y3];lia⟩,by rw[E1,<-y3];rfl⟩
  have hi:ah (Pg ls) (.int (at_:Int))=some (.tup [.str<|nm 7,.int a,T u]):=hi;generalize (Tr.read a x ys).d=td at *;generalize Wv ls ss kp m=W at *;generalize cX (n+2)=wf at *;unfold iK;exact rn
 |shift a k by_ x=>
  have ha:=dX a (by simp[PL.ns]);have ia:=sa a (by simp[PL.ns]);obtain⟨j,rfl,hj,_,h3⟩:=hT;rw[h3] at hw;obtain⟨w',e,sM,wx⟩:=moved m _ w j (-by_) 1 Zl Zl hj hw;obtain⟨t,et,t1,t2,t3⟩:=N a (by simp[PL.ns]) (n+1) Zl m w' sM hm;obtain⟨p,hp⟩:∃p,w'[j]?=some p:=⟨_,Rg (by rw[sM.1];exact hj)⟩;have i1:=YD w' j p hp;have i2:=fL (sd ss a) j hj;have e1:=tTs (pD p) (.int<|(sd ss a).getD j 0) t.d<|.int x;have sh:cX (n+2) 4 [Wv ls ss kp m,.int a,.int j,.int by_,.int x,WD w]=.ok (Tr.within p ((sd ss a).getD j 0) t x).d []:=by show defn 7 [false,false,false,false,false,false] (AF<|cX<|n+1) _=.ok (.ins "Within" ["part","size","inner","number"] [pD p,.int<|(sd ss a).getD j 0,t.d,.int x]) _;generalize Wv ls ss kp m=W at *;generalize t.d=td at *;generalize pD p=pd at *;generalize cX (n+1)=wf at *;unfold AF;exact rn
  refine⟨.within p ((sd ss a).getD j 0) t x,?_,by simp only[Tr.dep];lia,λr=>by simp[Tr.rs,PL.ns,t2],λy hy Aj=>?_⟩;rotate_left
  ·have E1:_=if 0<=(bI w y).getD j 0-by_/\(bI w y).getD j 0-by_<(sd ss a).getD j 0 then cw ss cs a (rep (bI w y) j<|(bI w y).getD j 0-by_) else x:=E _ Aj
   have q:=wx y;have e2:-by_+1*(bI w y).getD j 0=(bI w y).getD j 0-by_:=Zl;rw[e2] at q;have ep:gV y p=(bI w y).getD j 0-by_:=by
    have z:(bI w' y).getD j 0=gV y p:=by simp[bI,hp]
    rw[<-z,q,ij _ _ _ _ (by rw[rO,hw.1];exact hj),Ue rfl]
   rw[h3] at Aj;rw[<-kP _ _ hj] at Aj;have iy:=λc:0<=gV y p/\gV y p<(sd ss a).getD j 0=>t3 y hy<|q ▸ gp Aj hj (ep ▸ c.1) (ep ▸ c.2);have po:Em y.length p:=by rw[hy];exact sM.2 p (Rb hp)
   refine⟨⟨po,λc=>(iy c).1⟩,?_⟩;rw[E1,<-ep];show (if _ then _ else _)=_;split
   ·rename_i c;rw[(iy c).2,q,ep,fY<|gp Aj hj (ep ▸ c.1)<|ep ▸ c.2]
   ·rfl
  have hi:ah (Pg ls) (.int (at_:Int))=some (.tup [.str<|nm 8,.int a,.int j,.int by_,.int x]):=hi;generalize (Tr.within p ((sd ss a).getD j 0) t x).d=td at *;generalize Wv ls ss kp m=W at *;generalize cX (n+2)=wf at *;unfold iK;exact rn
 |one d a=>
  have ha:=dX a (by simp[PL.ns]);obtain⟨h1,h3⟩:=hT;rw[h3] at hw;obtain⟨t,et,t1,t2,t3⟩:=N a (by simp[PL.ns]) (n+2) Zl m w hw hm;refine⟨.one d t,?_,by simp only[Tr.dep];lia,λr=>by simp[Tr.rs,PL.ns,t2],λy hy hi=>?_⟩;rotate_left
  ·have E1:_=mX d (cw ss cs a<|bI w y):=E _ hi;have iy:=h3 ▸ hi;have q:=t3 y hy iy;rw[E1,fY iy,<-q.2];exact⟨⟨h1,by rw[q.2];exact(xA g C Zl (Q8 a (by simp[PL.ns])) iy).2.2,q.1⟩,rfl⟩
  have e1:=TP (.str<|nm d) t.d;have hi:ah (Pg ls) (.int (at_:Int))=some (.tup [.str<|nm 9,.str<|nm d,.int a]):=hi;unfold Tr.d;generalize Wv ls ss kp m=W at *;generalize t.d=td at *;generalize cX (n+2)=wf at *;unfold iK;exact rn
 |both d a b=>
  have ha:=dX a (by simp[PL.ns]);have hb:=dX b (by simp[PL.ns]);obtain⟨h1,h3⟩:=hT;have ml:=b9 h3;obtain⟨t,et,t1,t2,t3⟩:=fC g Zl (N a (by simp[PL.ns]) (n+1) Zl) m w hw Zl Zl hm;obtain⟨u,eu,u1,u2,u3⟩:=fC g Zl (N b (by simp[PL.ns]) (n+1) Zl) m w hw Zl Zl hm;refine⟨.both d t u,?_,by simp only[Tr.dep];lia,λr=>by simp[Tr.rs,PL.ns,t2,u2],λy hy hi=>?_⟩;rotate_left
  ·have E1:_=eG d (cw ss cs a<|bI w y) (cw ss cs b<|bI w y):=E _ hi;have ia:=cB hi<|bA h3;have ib:=cB hi<|bA<|meet_comm _ _ ▸ h3;have p:=t3 y hy ia;have q:=u3 y hy ib;rw[E1];show _/\_=eG d (cv ss cs a<|cz (sd ss a)<|bI w y) (cv ss cs b<|cz (sd ss b)<|bI w y);rw[<-p.2,<-q.2];exact⟨⟨h1,⟨by rw[p.2];exact(xA g C Zl (Q8 a (by simp[PL.ns])) ia).2.2,by rw[q.2];exact(xA g C Zl (Q8 b (by simp[PL.ns])) ib).2.2⟩,p.1,q.1⟩,rfl⟩
  have e1:=Q2E (.str<|nm d) t.d u.d;have hi:ah (Pg ls) (.int (at_:Int))=some (.tup [.str<|nm 10,.str<|nm d,.int a,.int b]):=hi;unfold Tr.d;generalize Wv ls ss kp m=W at *;generalize t.d=td at *;generalize u.d=ud at *;generalize cX (n+1+1)=wf at *;unfold iK;exact rn
 |bx a b c=>
  have ha:=dX a (by simp[PL.ns]);have hb:=dX b (by simp[PL.ns]);have hc:=dX c (by simp[PL.ns]);obtain⟨v,h2,h3⟩:=hT;have ml:=b9 h3;have ml2:=b9 h2;obtain⟨t,et,t1,t2,t3⟩:=fC g Zl (N a (by simp[PL.ns]) (n+1) Zl) m w hw Zl Zl hm;obtain⟨u,eu,u1,u2,u3⟩:=fC g Zl (N b (by simp[PL.ns]) (n+1) Zl) m w hw Zl Zl hm;obtain⟨x,ex,x1,x2,x3⟩:=fC g Zl (N c (by simp[PL.ns]) (n+1) Zl) m w hw Zl Zl hm;refine⟨.bx t u x,?_,by simp only[Tr.dep];lia,λr=>by simp[Tr.rs,PL.ns,t2,u2,x2],λy hy hi=>?_⟩;rotate_left
  ·have E1:_=if cw ss cs a (bI w y)=0 then cw ss cs c (bI w y) else cw ss cs b (bI w y):=E _ hi
   have p:=t3 y hy<|cB hi<|(bA h2).trans<|bA h3;have q:=u3 y hy<|cB hi<|(bA<|meet_comm _ _ ▸ h2).trans<|bA h3;have z:=x3 y hy<|cB hi<|bA<|meet_comm _ _ ▸ h3;rw[E1];show _/\_=if cv ss cs a (cz (sd ss a)<|bI w y)=0 then cv ss cs c (cz (sd ss c)<|bI w y) else cv ss cs b (cz (sd ss b)<|bI w y)
   rw[<-p.2,<-q.2,<-z.2];exact⟨⟨p.1,λ_=>q.1,λ_=>z.1⟩,rfl⟩
  have e1:=ND t.d u.d x.d;have hi:ah (Pg ls) (.int (at_:Int))=some (.tup [.str<|nm 11,.int a,.int b,.int c]):=hi;unfold Tr.d;generalize Wv ls ss kp m=W at *;generalize t.d=td at *;generalize u.d=ud at *;generalize x.d=xd at *;generalize cX (n+1+1)=wf at *;unfold iK;exact rn
 |join a b k=>
  have ha:=dX a (by simp[PL.ns]);have hb:=dX b (by simp[PL.ns]);have ia:=sa a (by simp[PL.ns]);obtain⟨j,rfl,hj,h2,h4,h3⟩:=hT;rw[h3,cn _ _ _ hj] at hw;obtain⟨w',e,sM,wx⟩:=moved m _ w j (-(sd ss a).getD j 0) 1 Zl Zl hj hw;obtain⟨t,et,t1,t2,t3⟩:=N a (by simp[PL.ns]) (n+1) Zl m w hw hm;rw[h2] at sM;obtain⟨u,eu,u1,u2,u3⟩:=N b (by simp[PL.ns]) (n+1) Zl m w' sM hm;obtain⟨p,hp⟩:∃p,w[j]?=some p:=⟨_,Rg (by rw[hw.1];exact hj)⟩;have sem:Sem ss cs m (.joined p ((sd ss a).getD j 0) t u) at_ (bI w):=λy hy hi=>by
   have E1:_=if (bI w y).getD j 0<(sd ss a).getD j 0 then cw ss cs a (bI w y) else cw ss cs b (rep (bI w y) j<|(bI w y).getD j 0-(sd ss a).getD j 0):=E _ hi
   have q:=wx y;have e2:-(sd ss a).getD j 0+1*(bI w y).getD j 0=(bI w y).getD j 0-(sd ss a).getD j 0:=Zl;rw[e2] at q;have ep:(bI w y).getD j 0=gV y p:=by simp[bI,hp]
   rw[h3] at hi;have b0:=hi.2 j (by rw[cn _ _ _ hj];exact hj);rw[ij _ _ _ _ hj,Ue rfl] at b0;have lx:j<(bI w y).length:=by rw[rO,hw.1];exact hj
   have i1:gV y p<(sd ss a).getD j 0->Ix (sd ss a) (bI w y):=λc=>by have:=gp hi hj b0.1<|ep ▸ c;rwa [kP _ _ lx] at this
   have i2:¬gV y p<(sd ss a).getD j 0->Ix (sd ss b) (rep (bI w y) j<|(bI w y).getD j 0-(sd ss a).getD j 0):=λc=>by rw[Eg h2 hj h4] at hi;exact gp hi Zl Zl Zl
   have po:Em y.length p:=by rw[hy];exact hw.2 p (Rb hp)
   refine⟨⟨po,λc=>(t3 y hy<|i1 c).1,λc=>(u3 y hy<|q ▸ i2 c).1⟩,?_⟩;rw[E1];show (if gV y p<_ then _ else _)=_;rw[<-ep];split
   ·rename_i c;rw[(t3 y hy<|i1<|ep ▸ c).2,fY<|i1<|ep ▸ c]
   ·rename_i c;rw[(u3 y hy<|q ▸ i2 (ep ▸ c)).2,q,fY<|i2<|ep ▸ c]
  have i1:=YD w j p hp;have i2:=fL (sd ss a) j hj;generalize (sd ss a).getD j 0=z at e et eu hs ia i1 i2 sem ⊢;have e1:=Q1K (pD p) (.int z) t.d u.d;have sh:cX (n+2) 5 [Wv ls ss kp m,.int a,.int b,.int j,WD w]=.ok (Tr.joined p z t u).d []:=by show defn 7 [false,false,false,false,false] (AE<|cX<|n+1) _=.ok (.ins "Joined" ["part","size","ahead","behind"] [pD p,.int z,t.d,u.d]) _;generalize Wv ls ss kp m=W at *;generalize t.d=td at *;generalize u.d=ud at *;generalize pD p=pd at *;generalize cX (n+1)=wf at *;unfold AE;exact rn
  refine⟨.joined p z t u,?_,by simp only[Tr.dep];lia,λr=>by simp[Tr.rs,PL.ns,t2,u2],sem⟩;have hi:ah (Pg ls) (.int (at_:Int))=some (.tup [.str<|nm 15,.int a,.int b,.int j]):=hi;generalize (Tr.joined p z t u).d=td at *;generalize Wv ls ss kp m=W at *;generalize cX (n+2)=wf at *;unfold iK;exact rn
include K C
theorem uC:∀(at_:Nat),at_<ls.length->gN ls at_->∀n,4*at_+4<=n->m7 ls ss kp cs n at_:=by
 intro at_;induction at_ using Nat.strongRecOn with
 |_ at_ ih=>
  intro iW hr n hn m w hw hm;obtain⟨n,rfl⟩:∃n',n=n'+1:=⟨n-1,Zl⟩;obtain⟨b,hb⟩:∃b,kp[at_]?=some b:=⟨_,Rg (by rw[K.len];exact iW)⟩;have ib:=jY kp at_ b hb;have hs:=a7 ss at_ (by have:=g.len;lia);have f1:=QN ls ss kp m;have f3:=ZH ls ss kp m;have f4:=VO ls ss kp m;have f5:=VQ ls ss kp m;show ∃t:Tr,defn 3 [false,false,false] (xm<|cX n) _=_/\_/\_/\_;cases b with
  |true=>
   obtain⟨x,ys,e,y1,y2⟩:=row_read ls ss kp m at_ _ w (sd ss at_) (gh g iW) hw hm;refine⟨.read at_ x ys,?_,by simp[Tr.dep],λr=>by simp[Tr.rs,qf.kept hb],λy hy hi=>?_⟩;rotate_left
   ·have p:=xA g C iW hr hi;have y3:=y2 y hy;exact⟨⟨y1.trans hy.symm,by rw[y3];exact p.1,by rw[y3];exact p.2.1⟩,by unfold cv;rw[<-y3];rfl⟩
   generalize (Tr.read at_ x ys).d=td at *;generalize Wv ls ss kp m=W at *;generalize cX n=wf at *;unfold xm;exact rn
  |false=>
   obtain⟨n,rfl⟩:∃n',n=n'+3:=⟨n-3,Zl⟩;obtain⟨t,e,t1,t2,t3⟩:=yr g iW (λh=>by have:=K.k4 at_ hr h;rw[hb] at this;cases this) (λh=>K.k2 at_ hr (by rw[h];simp)) (n:=n) (λa ha n' Fo=>by have dX:=gJ g iW ha;exact ih a dX Zl (.step hr (gX iW) ha) n' Zl) C hr m w hw hm;refine⟨t,?_,t1,λr=>?_,t3⟩
   ·generalize t.d=td at *;generalize Wv ls ss kp m=W at *;generalize cX (n+3)=wf at *;unfold xm;exact rn
   ·rw[t2];exact⟨λ⟨b,h1,h2⟩=>.step hb h1 h2,λz=>by cases z with|self h=>rw[hb] at h;cases h|step _ h1 h2=>exact⟨_,h1,h2⟩⟩
end
theorem um(d:Nat)(hd:16<=d/\d<=18)(x:Int):BJ [.str<|nm d,.int x]=.ok (.int<|mX d x) []:=by
 have h:d=16\/d=17\/d=18:=Zl;unfold BJ Ik;rcases h with rfl|rfl|rfl;have m:hV (.int<|1000003-x) (.int 1000003)=some (.int<|mX 16 x):=Uu _;exact rn;have m:=m2_ x;have m':qy (.int<|x-x % 2) (.int 2)=some (.int<|mX 17 x):=d2_ _;exact rn;have i:=jj<|decide<|x=0;have j:ah (.lst [.int 0,.int 1]) (.int<|if decide (x=0)=true then 1 else 0)=some (.int<|mX 18 x):=by show _=some (D.int<|if x=0 then 1 else 0);by_cases c:x=0<;>simp[c]<;>rfl
 exact rn
theorem lL(d:Nat)(hd:19<=d/\d<=25)(x y:Int)(hx:Rt x):BG [.str<|nm d,.int x,.int y]=.ok (.int<|eG d x y) []:=by
 have h:d=19\/d=20\/d=21\/d=22\/d=23\/d=24\/d=25:=Zl;have bb:∀p q:Bool,fI (.bl p) (.bl q)=some (.bl<|decide<|p=q):=λp q=>by cases p<;>cases q<;>rfl
 have mu:=gH x y (by have:=hx.1;lia) (by have:=hx.2;lia);unfold BG Ib;rcases h with rfl|rfl|rfl|rfl|rfl|rfl|rfl;have m:hV (.int<|x+y) (.int 1000003)=some (.int<|eG 19 x y):=Uu _;exact rn;have m:hV (.int<|x+1000003-y) (.int 1000003)=some (.int<|eG 20 x y):=Uu _;exact rn;have m:hV (.int<|x*y) (.int 1000003)=some (.int<|eG 21 x y):=Uu _;exact rn;have e:=bb true<|decide<|x<y;show _=FR.ok (.int<|if decide (22=22)=decide (x<y) then x else y) _;by_cases c:x<y;have l:=qH c;rw[Ud c] at e ⊢;exact rn;have l:=ur c;rw[T1 c] at e ⊢;exact rn;have e:=bb false<|decide<|x<y;show _=FR.ok (.int<|if decide (23=22)=decide (x<y) then x else y) _;by_cases c:x<y;have l:=qH c;rw[Ud c] at e ⊢;exact rn;have l:=ur c;rw[T1 c] at e ⊢;exact rn;have i:=jj<|decide<|x<y;have j:ah (.lst [.int 0,.int 1]) (.int<|if decide (x<y)=true then 1 else 0)=some (.int<|eG 24 x y):=by show _=some (D.int<|if x<y then 1 else 0);by_cases c:x<y<;>simp[c]<;>rfl
 exact rn;have i:=jj<|decide<|x=y;have j:ah (.lst [.int 0,.int 1]) (.int<|if decide (x=y)=true then 1 else 0)=some (.int<|eG 25 x y):=by show _=some (D.int<|if x=y then 1 else 0);by_cases c:x=y<;>simp[c]<;>rfl
 exact rn
theorem P7(d:Nat){x:Int}(h:Rt x):Rt (mX d x):=by unfold mX Rt at *;split<;>(try split)<;>(try split)<;>lia
theorem yK(d:Nat){x y:Int}(h:Rt x)(k:Rt y):Rt (eG d x y):=by unfold eG Rt at *;split<;>(try split)<;>(try split)<;>(try split)<;>(try split)<;>(try split)<;>lia
def Bk(rows:Zm)(c:Int):D:=.lst [.lst rows,.int c,.bl true]
def Sx(x:WR):Prop:=x.length<=100/\∀y∈x,0<=y/\y<=100
theorem sU(x:WR)(hx:Sx x)(p:Int×Int×Int)(hp:Em x.length p):tY [pD p,T x]=.ok (.int<|gV x p) []:=by
 obtain⟨a,b,c⟩:=p;show tY [.tup [.int a,.int b,.int c],T x]=.ok (.int<|if b=-1 then a else a+c*x.getD b.toNat 0) [];rcases hp with h|⟨h0,h1⟩;have h:b=-1:=h;subst h;have l:=qH (show (-1:Int)<0 by lia);unfold tY AH;exact rn;have l:=ur (show ¬b<0 by dsimp only at h0;lia);have hl:b.toNat<x.length:=by dsimp only at h0 h1;lia
 have i:ah (T x) (.int b)=some (.int<|x.getD b.toNat 0):=bM x b h0 (by dsimp only at h1;lia);have hv:=hx.2 (x.getD b.toNat 0) (by rw[gD _ _ hl];exact DF hl);have m:=bN c (x.getD b.toNat 0) Zl Zl;rw[Zj (show ¬b=-1 by dsimp only at h0;lia)];generalize x.getD b.toNat 0=v at *;unfold tY AH;exact rn
theorem xD:∀(xs ys:WR),((xs.zip ys).map λp=>p.1*p.2).sum=dot xs ys|[],_=>rfl|_::_,[]=>rfl|x::xs,y::ys=>by simp[dot,xD xs ys]
section
variable{R:Nat->WR}{x:WR}{rows:Zm}
theorem Eh(hx:Sx x):∀(t:Tr)(n:Nat),t.dep<=n->∀c,(∀r∈t.rs,rows[r]?=some (Z<|R r))->t.ok R x->∃c',pS n 0 [t.d,T x,Bk rows c]=.ok (.int<|t.val R x) [Bk rows c']:=by
 have b1:∀c,ah (Bk rows c) (.int 1)=some (.int c):=λ_=>rfl;have b2:∀c d:Int,setAt (.int 1) (.int d) (Bk rows c)=some (Bk rows d):=λ_ _=>rfl;have il:∀c,isLst (some<|Bk rows c)=true:=λ_=>rfl;intro t;induction t with
  |gy y=>intro n hn c hr ho;obtain⟨n,rfl⟩:∃n',n=n'+1:=⟨n-1,by simp only[Tr.dep] at hn;lia⟩;exact⟨c,YN⟩|read a s ys=>
   intro n hn c hr ho;obtain⟨n,rfl⟩:∃n',n=n'+1:=⟨n-1,by simp only[Tr.dep] at hn;lia⟩;obtain⟨h1,h2,h3⟩:=ho;refine⟨c,?_⟩;have e1:aL fO (Tr.read a s ys).d=some (.bl false):=YN;have e2:aL bE (Tr.read a s ys).d=some (.bl true):=YN;have f1:aJ uf "start" (Tr.read a s ys).d=some (.int s):=YN;have f2:aJ ou "steps" (Tr.read a s ys).d=some (T ys):=YN;have f3:aJ d8 "line" (Tr.read a s ys).d=some (.int a):=YN;have b0:ah (Bk rows c) (.int 0)=some (.lst rows):=rfl;have ra:ah (.lst rows) (.int (a:Int))=some (Z<|R a):=by have hl:=(List.getElem?_eq_some_iff.mp<|hr a (by simp[Tr.rs])).1;show (yh rows.length (a:Int)).bind _=_;rw[yh,Ue Zl,Ue Zl];exact hr a (by simp[Tr.rs])
   have cm:az 2 (uy [(aa 1),(m1 (aJ ou "steps")<|aa 0)]) (dy [5,6]) (VP.ret true) j5 [.sh (Tr.read a s ys).d,.sh<|T x,.io<|Bk rows c,.no,.no]=.ok (Z<|(x.zip ys).map λp=>p.1*p.2) [.sh (Tr.read a s ys).d,.sh<|T x,.io<|Bk rows c,.no,.no]:=by have ez:=q9 (T x) (T ys) x ys rfl rfl;refine A4 (λp:Int×Int=>D.int p.1) (λp=>D.int p.2) (λp=>D.int<|p.1*p.2) (x.zip ys) ao (by have:=hx.1;simp;lia) (by simp[Z,Function.comp_def]) λp hp acc=>?_;have hv:=hx.2 p.1 (A7 hp).1;have m:=gH p.1 p.2 Zl Zl;unfold j5;exact ao
   have sm:=Qq<|(x.zip ys).map λp=>p.1*p.2;rw[xD] at sm;have nn:isND (Z<|R a) .aK=some (.bl false):=rfl;have l1:=dz 0<|s+dot x ys;rw[Ud h2] at l1;have l2:=qH h3;have ne:gI (.int ys.length) (.int x.length)=some (.bl false):=by rw[bz,Ud Zl];rfl
   have iv:ah (Z<|R a) (.int<|s+dot x ys)=some (.int<|(Tr.read a s ys).val R x):=bM _ _ h2 h3;show defn 5 [false,false,true] (eE<|pS n) _=_;generalize (Tr.read a s ys).val R x=v at *;generalize (Tr.read a s ys).d=td at *;generalize Z ((x.zip ys).map λp=>p.1*p.2)=zz at *;generalize pS n=wf at *;generalize D.lst rows=rw_ at *;unfold eE;exact rn
  |one d t ih=>intro n hn c hr ho;obtain⟨n,rfl⟩:∃n',n=n'+1:=⟨n-1,by simp only[Tr.dep] at hn;lia⟩;obtain⟨h1,h2,h3⟩:=ho;obtain⟨c',e⟩:=ih n (by simp only[Tr.dep] at hn;lia) (c+1) hr h3;refine⟨c',?_⟩;have i1:aL fO (Tr.one d t).d=some (.bl false):=YN;have i2:aL bE (Tr.one d t).d=some (.bl false):=YN;have i3:aL dZ (Tr.one d t).d=some (.bl false):=YN;have i4:aL cJ (Tr.one d t).d=some (.bl false):=YN;have i5:aL nu (Tr.one d t).d=some (.bl true):=YN;have f1:aJ kj "deed" (Tr.one d t).d=some (.str<|nm d):=YN;have f2:aJ gB "inner" (Tr.one d t).d=some t.d:=YN;have l:=um d h1<|t.val R x;have c1:=b1 c;have c2:=b2 c<|c+1;have c3:=il c;show defn 5 [false,false,true] (eE<|pS n) _=.ok (.int<|mX d<|t.val R x) _;generalize mX d (t.val R x)=v at *;generalize (Tr.one d t).d=td at *;generalize t.d=ti at *;generalize pS n=wf at *;unfold eE;exact rn|both d l r TU TV=>intro n hn c hr ho;obtain⟨n,rfl⟩:∃n',n=n'+1:=⟨n-1,by simp only[Tr.dep] at hn;lia⟩;obtain⟨h1,h2,h3,h4⟩:=ho;simp only[Tr.rs,zt] at hr;obtain⟨c',e⟩:=TU n (by simp only[Tr.dep] at hn;lia) (c+1) (λr h=>hr r<|.inl h) h3;obtain⟨R8,e'⟩:=TV n (by simp only[Tr.dep] at hn;lia) c' (λr h=>hr r<|.inr h) h4;refine⟨R8,?_⟩;have i1:aL fO (Tr.both d l r).d=some (.bl false):=YN;have i2:aL bE (Tr.both d l r).d=some (.bl false):=YN;have i3:aL dZ (Tr.both d l r).d=some (.bl false):=YN;have i4:aL cJ (Tr.both d l r).d=some (.bl false):=YN;have i5:aL nu (Tr.both d l r).d=some (.bl false):=YN;have i6:aL fN (Tr.both d l r).d=some (.bl true):=YN;have f1:aJ kj "deed" (Tr.both d l r).d=some (.str<|nm d):=YN;have f2:aJ gR "left" (Tr.both d l r).d=some l.d:=YN;have f3:aJ fJ "right" (Tr.both d l r).d=some r.d:=YN;have lb:=lL d h1 (l.val R x) (r.val R x) h2.1;have c1:=b1 c;have c2:=b2 c<|c+1;have c3:=il c;show defn 5 [false,false,true] (eE<|pS n) _=.ok (.int<|eG d (l.val R x)<|r.val R x) _;generalize eG d (l.val R x) (r.val R x)=v at *;generalize (Tr.both d l r).d=td at *;generalize l.d=ti at *;generalize r.d=tj at *;generalize pS n=wf at *;unfold eE;exact rn|bx a l r iha TU TV=>intro n hn c hr ho;obtain⟨n,rfl⟩:∃n',n=n'+1:=⟨n-1,by simp only[Tr.dep] at hn;lia⟩;obtain⟨h1,h2,h3⟩:=ho;simp only[Tr.rs,zt] at hr;simp only[Tr.dep] at hn;obtain⟨c',e⟩:=iha n Zl (c+1) (λr h=>hr r<|.inl<|.inl h) h1;have i1:aL fO (Tr.bx a l r).d=some (.bl false):=YN;have i2:aL bE (Tr.bx a l r).d=some (.bl false):=YN;have i3:aL dZ (Tr.bx a l r).d=some (.bl false):=YN;have i4:aL cJ (Tr.bx a l r).d=some (.bl false):=YN;have i5:aL nu (Tr.bx a l r).d=some (.bl false):=YN;have i6:aL fN (Tr.bx a l r).d=some (.bl false):=YN;have f1:aJ ki "asked" (Tr.bx a l r).d=some a.d:=YN;have f2:aJ gR "left" (Tr.bx a l r).d=some l.d:=YN;have f3:aJ fJ "right" (Tr.bx a l r).d=some r.d:=YN;have c1:=b1 c;have c2:=b2 c<|c+1;have c3:=il c;have ne:=bz (a.val R x) 0;show ∃c',defn 5 [false,false,true] (eE<|pS n) _=.ok (.int<|if a.val R x=0 then r.val R x else l.val R x) [Bk rows c'];by_cases z:a.val R x=0;obtain⟨R8,e'⟩:=TV n Zl c' (λr h=>hr r<|.inr h)<|h3 z;refine⟨R8,?_⟩;rw[Ue z];rw[Ud z] at ne;generalize (Tr.bx a l r).d=td at *;generalize a.d=ta at *;generalize l.d=ti at *;generalize r.d=tj at *;generalize pS n=wf at *;unfold eE;exact rn;obtain⟨R8,e'⟩:=TU n Zl c' (λr h=>hr r<|.inl<|.inr h)<|h2 z;refine⟨R8,?_⟩;rw[Zj z];rw[T1 z] at ne;generalize (Tr.bx a l r).d=td at *;generalize a.d=ta at *;generalize l.d=ti at *;generalize r.d=tj at *;generalize pS n=wf at *;unfold eE;exact rn|within p z t y ih=>intro n hn c hr ho;obtain⟨n,rfl⟩:∃n',n=n'+1:=⟨n-1,by simp only[Tr.dep] at hn;lia⟩;obtain⟨h1,h2⟩:=ho;have i1:aL fO (Tr.within p z t y).d=some (.bl false):=YN;have i2:aL bE (Tr.within p z t y).d=some (.bl false):=YN;have i3:aL dZ (Tr.within p z t y).d=some (.bl true):=YN;have f1:aJ rE "part" (Tr.within p z t y).d=some (pD p):=YN;have f2:aJ nh "size" (Tr.within p z t y).d=some (.int z):=YN;have f3:aJ gB "inner" (Tr.within p z t y).d=some t.d:=YN;have f4:aJ qv "number" (Tr.within p z t y).d=some (.int y):=YN;have al:=sU x hx p h1;have l1:=dz 0<|gV x p;have l2:=fS (gV x p) z;show ∃c',defn 5 [false,false,true] (eE<|pS n) _=.ok (.int<|if 0<=gV x p/\gV x p<z then t.val R x else y) [Bk rows c'];by_cases q:0<=gV x p/\gV x p<z;obtain⟨c',e⟩:=ih n (by simp only[Tr.dep] at hn;lia) c hr<|h2 q;refine⟨c',?_⟩;rw[Ue q];rw[Ud q.1] at l1;rw[Ud q.2] at l2;generalize (Tr.within p z t y).d=td at *;generalize t.d=ti at *;generalize pS n=wf at *;generalize pD p=pd at *;generalize gV x p=v at *;unfold eE;exact rn;refine⟨c,?_⟩;rw[Zj q];by_cases q1:0<=gV x p;rw[Ud q1] at l1;rw[T1 λz=>q ⟨q1,z⟩] at l2;generalize (Tr.within p z t y).d=td at *;generalize t.d=ti at *;generalize pS n=wf at *;generalize pD p=pd at *;generalize gV x p=v at *;unfold eE;exact rn;rw[T1 q1] at l1;generalize (Tr.within p z t y).d=td at *;generalize t.d=ti at *;generalize pS n=wf at *;generalize pD p=pd at *;generalize gV x p=v at *;unfold eE;exact rn|joined p z l r TU TV=>intro n hn c hr ho;obtain⟨n,rfl⟩:∃n',n=n'+1:=⟨n-1,by simp only[Tr.dep] at hn;lia⟩;obtain⟨h1,h2,h3⟩:=ho;simp only[Tr.rs,zt] at hr;simp only[Tr.dep] at hn;have i1:aL fO (Tr.joined p z l r).d=some (.bl false):=YN;have i2:aL bE (Tr.joined p z l r).d=some (.bl false):=YN;have i3:aL dZ (Tr.joined p z l r).d=some (.bl false):=YN;have i4:aL cJ (Tr.joined p z l r).d=some (.bl true):=YN;have f1:aJ rE "part" (Tr.joined p z l r).d=some (pD p):=YN;have f2:aJ nh "size" (Tr.joined p z l r).d=some (.int z):=YN;have f3:aJ kh "ahead" (Tr.joined p z l r).d=some l.d:=YN;have f4:aJ jh "behind" (Tr.joined p z l r).d=some r.d:=YN;have al:=sU x hx p h1;show ∃c',defn 5 [false,false,true] (eE<|pS n) _=.ok (.int<|if gV x p<z then l.val R x else r.val R x) [Bk rows c'];by_cases q:gV x p<z;obtain⟨c',e⟩:=TU n Zl c (λr h=>hr r<|.inl h)<|h2 q;refine⟨c',?_⟩;rw[Ue q];have l2:=qH q;generalize (Tr.joined p z l r).d=td at *;generalize l.d=ti at *;generalize r.d=tj at *;generalize pS n=wf at *;generalize pD p=pd at *;generalize gV x p=v at *;unfold eE;exact rn;obtain⟨c',e⟩:=TV n Zl c (λr h=>hr r<|.inr h)<|h3 q;refine⟨c',?_⟩;rw[Zj q];have l2:=ur q;generalize (Tr.joined p z l r).d=td at *;generalize l.d=ti at *;generalize r.d=tj at *;generalize pS n=wf at *;generalize pD p=pd at *;generalize gV x p=v at *;unfold eE;exact rn
end
theorem PL.reads(l:PL):mJ [l.d]=.ok (.lst<|l.ns.map λa=>D.int (a:Nat)) []:=by cases l<;>kernel_rfl!
theorem uE:∀(n:Nat)(xs:SK),xs.Nodup->(∀x∈xs,x<n)->xs.length<=n
|0,xs,_,h=>by cases xs with|nil=>simp|cons x xs=>exact absurd (h x Uq) Zl
|n+1,xs,nd,h=>by
 have h1:=uE n (xs.erase n) (nd.erase n) (λx hx=>by
  have:=(List.Nodup.mem_erase_iff nd).mp hx;have:=h x this.2
  lia)
 have:=List.length_erase (a:=n) (l:=xs);split at this<;>lia
theorem EN(k:Nat)(ks:SK):((ks.map λk=>D.int (k:Nat)).any λy=>eqB y<|.int (k:Nat))=decide (k∈ks):=by induction ks with|nil=>simp|cons x ks ih=>rw[WA,Zc,ih,xF];by_cases h:x=k;simp[h];have:¬(x:Int)=(k:Int):=Zl;have h':¬k=x:=λz=>h z.symm;simp[this,h']
theorem zi(ks:SK):(ks.map λk=>D.int (k:Nat)).all fK=true:=by rw[List.all_eq_true];intro d hd;obtain⟨k,_,rfl⟩:=List.mem_map.mp hd;rfl
theorem vO(neg:Bool)(k:Nat)(ks:SK):inD neg (.int (k:Int)) (a9 ks)=some (.bl<|if neg then !decide (k∈ks) else decide (k∈ks)):=by unfold inD a9;rw[Q1Y];dsimp only;rw[zi,EN];rfl
def gO(s:List Nat×List Nat)(p:Nat):List Nat×List Nat:=if p∈s.1 then s else(s.1++[p],s.2++[p])
structure QR(ls:Ra)(aZ ahead:SK):Prop where
 nd:aZ.Nodup
 rc:∀x∈aZ,gN ls x
 la:ls.length-1∈aZ
 sub:∀x∈ahead,x∈aZ
 cl:∀i∈aZ,i∉ahead->∀l,ls[i]?=some l->∀r∈l.ns,r∈aZ
theorem QR.le{ls:Ra}{aZ ahead:SK}(h:QR ls aZ ahead)(wf:Wf ls)(h0:ls≠[]):aZ.length<=ls.length:=uE _ _ h.nd λx hx=>(h.rc x hx).lt wf h0
theorem C7(ks:SK)(k:Nat)(h:ks.length<=1000):dJ (.int (k:Int)) (a9 ks)=some (a9<|ks++[k]):=by unfold a9;rw[eX _ _ (by simp;lia),R4];rfl
theorem nO(P:D):∀(ns:SK)(aZ ahead:SK),aZ.length+ns.length<=1000->ahead.length+ns.length<=1000->∀t,free (some t)=true->∃t',free (some t')=true/\loop (aj 3) ew (ns.map λk=>D.int (k:Nat)) [.sh P,.ow<|a9 aZ,.ow<|a9 ahead,t]=.ok .nx [.sh P,.ow<|a9 (ns.foldl gO (aZ,ahead)).1,.ow<|a9 (ns.foldl gO (aZ,ahead)).2,t']
|[],aZ,ahead,_,_,t,ht=>⟨t,ht,rfl⟩|r::ns,aZ,ahead,h1,h2,t,ht=>by simp only[List.length_cons] at h1 h2;have ind:=vO true r aZ;have il:∀w,isLst (some<|a9 w)=true:=λ_=>rfl;have a1:=C7 aZ r Zl;have a2:=C7 ahead r Zl;by_cases q:r∈aZ;obtain⟨t',k1,k2⟩:=nO P ns aZ ahead Zl Zl (.sh<|.int r) rfl;refine⟨t',k1,?_⟩;rw[WA,fB (r':=[.sh P,.ow<|a9 aZ,.ow<|a9 ahead,.sh<|.int r]) (by simp[aB,ew,ht,ind,q]),k2];simp[gO,q];obtain⟨t',k1,k2⟩:=nO P ns (aZ++[r]) (ahead++[r]) (by simp;lia) (by simp;lia) (.sh<|.int r) rfl;refine⟨t',k1,?_⟩;rw[WA,fB (r':=[.sh P,.ow<|a9<|aZ++[r],.ow<|a9<|ahead++[r],.sh<|.int r]) (by simp[aB,ew,ht,ind,q,il,a1,a2]),k2];simp[gO,q]
theorem ll:∀(ns:SK)(aZ ahead:SK),aZ.Nodup->(∀x∈ahead,x∈aZ) ->
  (ns.foldl gO (aZ,ahead)).1.Nodup/\(∀x,x∈(ns.foldl gO (aZ,ahead)).1<->x∈aZ\/x∈ns)/\(∀x∈(ns.foldl gO (aZ,ahead)).2,x∈(ns.foldl gO (aZ,ahead)).1)/\(∀x∈ahead,x∈(ns.foldl gO (aZ,ahead)).2) /\
  (∀x∈(ns.foldl gO (aZ,ahead)).1,x∈aZ\/x∈(ns.foldl gO (aZ,ahead)).2)/\(ns.foldl gO (aZ,ahead)).1.length+ahead.length=(ns.foldl gO (aZ,ahead)).2.length+aZ.length
 |[],aZ,ahead,nd,sb=>⟨nd,ZA,sb,λx h=>h,λx h=>.inl h,by simp;lia⟩|r::ns,aZ,ahead,nd,sb=>by
  simp only[List.foldl_cons];by_cases q:r∈aZ;rw[show gO (aZ,ahead) r=(aZ,ahead) by simp[gO,q]];obtain⟨a,b,c,d,e,f⟩:=ll ns aZ ahead nd sb;refine⟨a,λx=>?_,c,d,e,f⟩;rw[b];simp only[List.mem_cons];constructor;rintro (h|h);exact .inl h;exact .inr<|.inr h;rintro (h|rfl|h);exact .inl h;exact .inl q;exact .inr h;rw[show gO (aZ,ahead) r=(aZ++[r],ahead++[r]) by simp[gO,q]];obtain⟨a,b,c,d,e,f⟩:=ll ns (aZ++[r]) (ahead++[r]) (by
   rw[List.nodup_append];exact⟨nd,ZA,λx hx y hy z=>by simp at hy;subst hy z;exact q hx⟩) (λx hx=>by
   rcases List.mem_append.mp hx with h|h;exact List.mem_append_left _<|sb x h;exact OQ _ h)
  refine⟨a,λx=>?_,c,λx hx=>d x (List.mem_append_left _ hx),λx hx=>?_,by simp at f;lia⟩;rw[b];simp only[zt,List.mem_cons,List.not_mem_nil,or_false];constructor;rintro ((h|h)|h);exact .inl h;exact .inr<|.inl h;exact .inr<|.inr h;rintro (h|h|h);exact .inl<|.inl h;exact .inl<|.inr h;exact .inr h;rcases e x hx with h|h;rcases List.mem_append.mp h with h|h;exact .inl h;exact .inr<|d x<|OQ _ h;exact .inr h
theorem ne_nil(ks:SK)(k:Nat):gI (a9<|ks++[k]) (.lst [])=some (.bl true):=by
 have p:VP.plain 60 (a9<|ks++[k])=true:=by unfold a9;rw[VP.plain];generalize ks++[k]=xs;induction xs with|nil=>rfl|cons x xs ih=>rw[WA,eT,ih];rfl
 have e:eqB (a9<|ks++[k]) (.lst [])=false:=by unfold a9;rw[xG];cases ks<;>rfl
 unfold gI;rw[p,e];rfl
theorem qp(ls:Ra)(wf:Wf ls)(h0:ls≠[])(hl:ls.length<=100):∀(m N:Nat)(aZ ahead:SK),QR ls aZ ahead->(ls.length-aZ.length)+ahead.length=m->m<=100->m<N->∀t,free (some t)=true->∃E3 t',fT cA eC N [.sh<|Pg ls,.ow<|a9 aZ,.ow<|a9 ahead,t]=.ok .nx [.sh<|Pg ls,.ow<|a9 E3,.ow<|a9 [],t']/\QR ls E3 []
|m,0,aZ,ahead,_,_,_,h,_,_=>absurd h Zl|m,N+1,aZ,ahead,J,hm,Nd,hN,t,ht=>by
 have dl:=J.le wf h0;rcases List.eq_nil_or_concat ahead with rfl|⟨a,i,rfl⟩;refine⟨aZ,t,mQ ?_,J⟩;have e:gI (a9 []) (.lst [])=some (.bl false):=rfl;simp[cA,e];rw[List.concat_eq_append] at *;have hi:=J.sub i ZA;have dX:=(J.rc i hi).lt wf h0;obtain⟨l,qC⟩:∃l,ls[i]?=some l:=⟨_,Rg dX⟩;have ix:=Cz ls i l qC;have fw:=l.jL;have Q6:ls.length-aZ.length+(a.length+1)=m:=by simpa using hm
 obtain⟨t',TJ,L⟩:=nO (Pg ls) l.ns aZ a Zl Zl t ht;obtain⟨p1,p2,p3,p4,p5,p6⟩:=ll l.ns aZ a J.nd (λx hx=>J.sub x<|List.mem_append_left _ hx);have J':QR ls (l.ns.foldl gO (aZ,a)).1 (l.ns.foldl gO (aZ,a)).2:=by refine⟨p1,λx hx=>?_,(p2 _).mpr (.inl J.la),p3,λx hx hna y hy r hr=>?_⟩;rcases (p2 x).mp hx with h|h;exact J.rc x h;exact .step (J.rc i hi) qC h;rcases p5 x hx with h|h;by_cases e:x=i;subst e;rw[qC] at hy;cases hy;exact(p2 r).mpr<|.inr hr;refine(p2 r).mpr<|.inl<|J.cl x h (λz=>?_) y hy r hr;rcases List.mem_append.mp z with z|z;exact hna<|p4 x z;exact e (by simpa using z);exact absurd h hna
 have dl':=J'.le wf h0;obtain⟨E3,t'',e,J''⟩:=qp ls wf h0 hl (m-1) N _ _ J' Zl Zl Zl t' TJ;refine⟨E3,t'',?_,J''⟩;rw[<-e];have po:∀r:ax,Gr 2 r (a9<|a++[i])=.ok (.int (i:Nat)) (cN 2 (a9 a) r):=λr=>by unfold a9;rw[R4];exact Dn _ _ _ _
 refine q8 (r1:=[.sh<|Pg ls,.ow<|a9 aZ,.ow<|a9<|a++[i],t]) (by simp[cA,ne_nil]) ?_;simp[eC,po,ix,PL.reads,L]
theorem Q1Z(ls:Ra)(wf:Wf ls)(h0:ls≠[])(hl:ls.length<=100):∃aZ,xN [Pg ls]=.ok (a9 aZ) []/\aZ.Nodup/\∀i,i∈aZ<->gN ls i:=by
 rw[xN,du _ _ _ _ rfl];have hn:=List.length_pos_iff.mpr h0;have ln:=gb ls;have e1:D.lst [.int<|(ls.length:Int)-1]=a9 [ls.length-1]:=by unfold a9;rw[WA,List.map_nil,show ((ls.length-1:Nat):Int)=(ls.length:Int)-1 by lia]
 have J:QR ls [ls.length-1] [ls.length-1]:=⟨ZA,λx hx=>by simp at hx;subst hx;exact .last,ZA,λx h=>h,λi h n=>absurd h n⟩;obtain⟨aZ,t,e,J'⟩:=qp ls wf h0 hl ls.length 10000 _ _ J (by simp;lia) hl Zl .no rfl;refine⟨aZ,?_,J'.nd,λi=>⟨J'.rc i,λh=>?_⟩⟩;have e':pq cA eC [.sh<|Pg ls,.ow<|a9 [ls.length-1],.ow<|a9 [ls.length-1],.no]=.ok .nx [.sh<|Pg ls,.ow<|a9 aZ,.ow<|a9 [],t]:=e;simp[Iq,ln,e1,e'];induction h with|last=>exact J'.la|step h e hr ih=>exact J'.cl _ ih ZA _ e _ hr
theorem Dp:∀{s:WR},(∀y∈s,0<=y)->0<ak s->∀y∈s,0<y
|[],_,_,y,hy=>by cases hy|a::s,h0,h,y,hy=>by
 have e:ak (a::s)=a*ak s:=rfl;have a0:=h0 a Uq;have an:a≠0:=λz=>by rw[e,z] at h;lia
 rcases List.mem_cons.mp hy with rfl|hy
 lia
 exact Dp (λz hz=>h0 z<|WW _ hz) (Int.pos_of_mul_pos_right (e ▸ h) Zl) y hy
theorem uM:∀{s:WR},(∀y∈s,0<y)->0<ak s|[],_=>by decide|a::s,h=>Int.mul_pos (h a Uq) (uM λz hz=>h z<|WW _ hz)
theorem Bf(s:WR)(k:Nat)(h:k<s.length):s.drop k=s.getD k 0::s.drop (k+1):=by rw[Vt h,gD _ _ h]
theorem oR(s:WR)(h:SI s)(h0:0<ak s)(p:Int):xK [T s,.int p]=.ok (T<|gW s p) []:=by
 have hl:=h.1;have ps:=Dp (λy hy=>(h.2.1 y hy).1) h0;have er:=gr s.length Zl;obtain⟨x,t,⟨h1,h2⟩,ht,L⟩:=aO (g:=aj 3) (body:=gZ) (λ(k:Nat)=>D.int k) (λ(x:WR)(t:Sl×Sl)=>[.sh<|T s,.sh<|.int p,.sh<|T x,t.1,t.2]) iV (List.range s.length) (λk x=>x.length=k/\x++gW (s.drop k) p=gW s p) [] (.no,.no) ⟨rfl,rfl⟩ ⟨rfl,rfl⟩ (by
  intro i k hk x t ht hP;obtain⟨rfl,hk⟩:=aW hk;obtain⟨t3,t4⟩:=t;obtain⟨f3,f4⟩:=ht;obtain⟨h1,h2⟩:=hP;dsimp only at f3 f4;rw[Bf s k hk] at h2;have c:=A9 s k hk;have ce:=jI (s.drop<|k+1) ⟨by simp;lia,λy hy=>by have:=h.2.1 y<|F2 hy;lia⟩;have hp:0<ak (s.drop<|k+1):=uM λy hy=>ps y<|F2 hy;have hq:=(h.sd.drop<|k+1).prod.2;have hv:0<s.getD k 0:=ps _ (by rw[gD _ _ hk];exact DF hk);have i1:=fL s k hk;have d1:=gF p _ hp Zl;have d2:=cb (p / ak (s.drop<|k+1)) _ hv;have a1:aU (T x) (.tup [.int<|p / ak (s.drop<|k+1) % s.getD k 0])=some (T<|x++[p / ak (s.drop<|k+1) % s.getD k 0]):=b7 _ [_] (by simp[fU];lia);refine⟨x++[p / ak (s.drop<|k+1) % s.getD k 0],(.sh<|.int k,.sh<|.int<|ak<|s.drop<|k+1),⟨by simp[h1],by rw[<-h2];simp[gW]⟩,⟨rfl,rfl⟩,?_⟩;have e:aj 3 (.int (k:Int)) [.sh<|T s,.sh<|.int p,.sh<|T x,t3,t4]=.ok () [.sh<|T s,.sh<|.int p,.sh<|T x,.sh<|.int k,t4]:=by simp[f3]
  dsimp only;generalize s.getD k 0=v at *;generalize s.drop (k+1)=s' at *;generalize T s=Ts at *;rw[aB,e,ag,show gZ _=.ok .nx _ by unfold gZ;exact ao];rfl)
 rw[Us,List.drop_length] at h2;have h2:x=gW s p:=by simpa[gW] using h2
 subst h2;dsimp only at L;have z0:T []=.tup []:=rfl;rw[z0] at L;unfold xK Ii;exact rn
theorem Qb(s c x:WR)(h:SI s)(hl:(c.length:Int)=ak s)(hn:s.length<=x.length)(hx:x.length<=100)(hi:Ix s (cz s x)):n5 [.tup [T s,Z c],T x]=.ok (.int<|c.getD (jx s<|cz s x).toNat 0) []:=by
 have h4:=h.1;have er:=gr s.length Zl;have pl:=hi.place λy hy=>(h.2.1 y hy).1;have sl:=pA s x hn;have look:BI [T s,Z c,T x]=.ok (.int<|c.getD (jx s<|cz s x).toNat 0) []:=by
  obtain⟨v,t,hP,ht,L⟩:=aO (g:=aj 4) (body:=eJ) (λ(k:Nat)=>D.int k) (λ(v:Int)(t:Sl×Sl)=>[.sh<|T s,.sh<|Z c,.sh<|T x,.sh<|.int v,t.1,t.2]) iV (List.range s.length) (λk v=>v*ak (s.drop k)+jx (s.drop k) ((cz s x).drop k)=jx s (cz s x)) 0 (.no,.no) ⟨rfl,rfl⟩ ZA (by
   intro i k hk v t ht hP;obtain⟨rfl,hk⟩:=aW hk;obtain⟨t4,t5⟩:=t;obtain⟨f4,f5⟩:=ht;dsimp only at f4 f5;rw[Bf s k hk,Bf (cz s x) k Zl,sD s x hn k hk] at hP;have i1:=fL s k hk;have i2:=fL x (x.length-s.length+k) Zl;rw[show ((x.length-s.length+k:Nat):Int)=(x.length:Int)-s.length+k by lia] at i2;have hs:=h.get k;have mu:=bN v (s.getD k 0) Zl Zl;have e:aj 4 (.int (k:Int)) [.sh<|T s,.sh<|Z c,.sh<|T x,.sh<|.int v,t4,t5]=.ok () [.sh<|T s,.sh<|Z c,.sh<|T x,.sh<|.int v,.sh<|.int k,t5]:=by simp[f4]
   have hP:v*(s.getD k 0*ak (s.drop<|k+1))+((if s.getD k 0=1 then 0 else x.getD (x.length-s.length+k) 0)*ak (s.drop<|k+1)+jx (s.drop<|k+1) ((cz s x).drop<|k+1))=_:=hP;rw[<-Int.mul_assoc,<-Int.add_assoc,<-Int.add_mul] at hP;have eq:=dw (s.getD k 0) 1;by_cases q:s.getD k 0=1;rw[Ue q] at hP;rw[Ud q] at eq;refine⟨_,(.sh<|.int k,.sh<|.int 0),hP,⟨rfl,rfl⟩,?_⟩;dsimp only;generalize s.getD k 0=u at *;generalize x.getD (x.length-s.length+k) 0=y at *;rw[aB,e,ag,show eJ _=.ok .nx _ by unfold eJ;exact ao];rfl;rw[Zj q] at hP;rw[T1 q] at eq;refine⟨_,(.sh<|.int k,.sh<|.int<|x.getD (x.length-s.length+k) 0),hP,⟨rfl,rfl⟩,?_⟩;dsimp only;generalize s.getD k 0=u at *;generalize x.getD (x.length-s.length+k) 0=y at *;rw[aB,e,ag,show eJ _=.ok .nx _ by unfold eJ;exact ao];rfl)
  dsimp only at L;have hv:v=jx s (cz s x):=by
   rw[Us,List.drop_length,List.drop_of_length_le Zl] at hP;have hP:v*1+0=_:=hP
   lia
  subst hv;have i:ah (Z c) (.int<|jx s<|cz s x)=some (.int<|c.getD (jx s<|cz s x).toNat 0):=bM c _ pl.1 Zl;generalize c.getD (jx s<|cz s x).toNat 0=y at *;generalize jx s (cz s x)=v at *;unfold BI Ij;exact rn
 have p1:=Fe (T s)<|Z c;have p2:=DK (T s)<|Z c;generalize D.tup [T s,Z c]=d at *;unfold n5 Im;exact rn
theorem qA(d:Nat)(hd:d∈[19,21,22,23])(xs:WR)(hx:∀x∈xs,Rt x)(hl:xs.length<=1000):∃v,BH [.str<|nm d,Z xs]=.ok (.int v) []/\Rt v:=by
 have Ai:d<32/\19<=d/\d<=25:=by simp at hd;lia
 have er:=gr xs.length hl;have e0:=Bm d 21 Ai.1 Zl;have i0:=jj<|decide<|d=21;have r0:Rt (if decide (d=21)=true then 1 else 0):=by unfold Rt;split<;>lia
 obtain⟨v,t,hP,ht,L⟩:=aO (g:=aj 3) (body:=cy) (λ(k:Nat)=>D.int k) (λ(v:Int)(t:Sl)=>[.sh<|.str<|nm d,.sh<|Z xs,.sh<|.int v,t]) ko (List.range xs.length) (λ_ v=>Rt v) (if decide (d=21)=true then 1 else 0) .no rfl r0 (by
  intro i k hk v t ht hP;obtain⟨rfl,hk⟩:=aW hk;have hf:free (some t)=true:=ht;have i1:ah (Z xs) (.int (k:Int))=some (.int<|xs.getD k 0):=by have:=bM xs k Zl Zl;rwa [N9] at this
  have rv:=hx (xs.getD k 0) (by rw[gD _ _ hk];exact DF hk);have e:aj 3 (.int (k:Int)) [.sh<|.str<|nm d,.sh<|Z xs,.sh<|.int v,t]=.ok () [.sh<|.str<|nm d,.sh<|Z xs,.sh<|.int v,.sh<|.int k]:=by simp[hf]
  have eq:=dw (k:Int) 0;by_cases q:(k:Int)=0;rw[Ud q] at eq;have i2:ah (Z xs) (.int 0)=some (.int<|xs.getD k 0):=q ▸ i1;refine⟨xs.getD k 0,.sh<|.int k,rv,rfl,?_⟩;generalize xs.getD k 0=u at *;generalize Z xs=zx at *;rw[aB,e,ag,show cy _=.ok .nx _ by unfold cy;exact ao];rfl;rw[T1 q] at eq;have lb:=lL d Ai.2 v (xs.getD k 0) hP;refine⟨eG d v<|xs.getD k 0,.sh<|.int k,yK d hP rv,rfl,?_⟩;generalize eG d v (xs.getD k 0)=u at *;generalize xs.getD k 0=y at *;generalize Z xs=zx at *;rw[aB,e,ag,show cy _=.ok .nx _ by unfold cy;exact ao];rfl)
 refine⟨v,?_,hP⟩;generalize (if decide (d=21)=true then(1:Int) else 0)=y at *;have ln:=CH xs;generalize Z xs=zx at *;unfold BH Ih;exact rn
section
variable{ss:XW}{cs:Nat->WR}
def Lk(ss:XW)(cs:Nat->WR)(a:Nat):Prop:=SI (sd ss a)/\((cs a).length:Int)=ak (sd ss a)/\∀v∈cs a,Rt v
def pr(ss:XW)(cs:Nat->WR)(a:Nat):D:=.tup [T<|sd ss a,Z<|cs a]
theorem wL{a:Nat}(h:Lk ss cs a){x:WR}(hn:(sd ss a).length<=x.length)(hx:x.length<=100)(hi:Ix (sd ss a) (cz (sd ss a) x)):n5 [pr ss cs a,T x]=.ok (.int<|cw ss cs a x) []/\Rt (cw ss cs a x):=by refine⟨Qb _ _ _ h.1 h.2.1 hn hx hi,?_⟩;have p:=hi.place λy hy=>(h.1.2.1 y hy).1;have l:=h.2.1;have hl:(jx (sd ss a)<|cz (sd ss a) x).toNat<(cs a).length:=Zl;unfold cw cv;rw[gD _ _ hl];exact h.2.2 _ (DF hl)
theorem qb{a:Nat}(h:Lk ss cs a){x:WR}(hi:Ix (sd ss a) x):n5 [pr ss cs a,T x]=.ok (.int<|cw ss cs a x) []/\Rt (cw ss cs a x):=wL h (by rw[hi.1];exact Ru _) (by have:=h.1.1;have:=hi.1;lia) (by rw[hi.self];exact hi)
theorem zj(a:Nat):ah (pr ss cs a) (.int 0)=some (T<|sd ss a):=rfl
theorem Vh(a:Nat):ah (pr ss cs a) (.int 1)=some (Z<|cs a):=rfl
theorem Ix.get{s x:WR}(h:Ix s x)(k:Nat)(hk:k<s.length):ah (T x) (.int (k:Int))=some (.int<|x.getD k 0):=fL x k (by rw[h.1];exact hk)
theorem tAp{s x:WR}(h:Ix s x)(j:Nat)(hj:j<s.length):Ix (wo s j) (wo x j):=by have l1:=jd hj;refine⟨Nat.succ.inj ((jd<|h.1 ▸ hj).trans<|h.1.trans l1.symm),λi hi=>?_⟩;rw[vb,vb];split;exact h.2 i<|EU hi<|l1 ▸ vU _;exact h.2 (i+1) (l1 ▸ Nat.succ_lt_succ hi)
def Got(ss:XW)(cs:Nat->WR)(t x:WR)(l:PL)(d:D):Prop:=d=.aK\/∃i,d=.int i/\Rt i/\HF ss cs t x l i
abbrev cH(ss:XW)(cs:Nat->WR)(t x:WR)(l:PL):Prop:=∃d,bB [l.d,.lst<|l.ns.map<|pr ss cs,T x]=.ok d []/\Got ss cs t x l d
variable{t x:WR}
theorem Q1p{n:Nat}{G:Nat->WR}(d a:Nat)(hT:Told n G (sd ss) (.one d a) t)(ha:Lk ss cs a)(hx:Ix t x):cH ss cs t x (.one d a):=by obtain⟨h1,rfl⟩:=hT;have s1:=qb ha hx;have o:=um d h1<|cw ss cs a x;refine⟨.int<|mX d<|cw ss cs a x,?_,.inr ⟨_,rfl,P7 d s1.2,rfl⟩⟩;have s1:=s1.1;show bB [.tup [.str<|nm 9,.str<|nm d,.int a],.lst [pr ss cs a],T x]=_;generalize pr ss cs a=pa at *;unfold bB fF;exact rn
theorem MF{n:Nat}{G:Nat->WR}(d a b:Nat)(hT:Told n G (sd ss) (.both d a b) t)(ha:Lk ss cs a)(hb:Lk ss cs b)(hx:Ix t x):cH ss cs t x (.both d a b):=by obtain⟨h1,h3⟩:=hT;have ml:=b9 h3;have l1:=ha.1.1;have l2:=hb.1.1;have hl:=hx.1;have s1:=wL ha (x:=x) Zl Zl<|cB hx<|bA h3;have s2:=wL hb (x:=x) Zl Zl<|cB hx<|bA<|meet_comm _ _ ▸ h3;have o:=lL d h1 (cw ss cs a x) (cw ss cs b x) s1.2;refine⟨.int<|eG d (cw ss cs a x)<|cw ss cs b x,?_,.inr ⟨_,rfl,yK d s1.2 s2.2,rfl⟩⟩;have s1:=s1.1;have s2:=s2.1;show bB [.tup [.str<|nm 10,.str<|nm d,.int a,.int b],.lst [pr ss cs a,pr ss cs b],T x]=_;generalize pr ss cs a=pa at *;generalize pr ss cs b=pb at *;unfold bB fF;exact rn
theorem Q1X{n:Nat}{G:Nat->WR}(a b c:Nat)(hT:Told n G (sd ss) (.bx a b c) t)(ha:Lk ss cs a)(hb:Lk ss cs b)(hc:Lk ss cs c)(hx:Ix t x):cH ss cs t x (.bx a b c):=by obtain⟨u,h2,h3⟩:=hT;have ml:=b9 h3;have ml2:=b9 h2;have l1:=ha.1.1;have l2:=hb.1.1;have l3:=hc.1.1;have hl:=hx.1;have s1:=wL ha (x:=x) Zl Zl<|cB hx<|(bA h2).trans<|bA h3;have s2:=wL hb (x:=x) Zl Zl<|cB hx<|(bA<|meet_comm _ _ ▸ h2).trans<|bA h3;have s3:=wL hc (x:=x) Zl Zl<|cB hx<|bA<|meet_comm _ _ ▸ h3;refine⟨.int<|if cw ss cs a x=0 then cw ss cs c x else cw ss cs b x,?_,.inr ⟨_,rfl,by split;exact s3.2;exact s2.2,rfl⟩⟩;have s1:=s1.1;have s2:=s2.1;have s3:=s3.1;show bB [.tup [.str<|nm 11,.int a,.int b,.int c],.lst [pr ss cs a,pr ss cs b,pr ss cs c],T x]=_;have e:=dw (cw ss cs a x) 0;generalize pr ss cs a=pa at *;generalize pr ss cs b=pb at *;generalize pr ss cs c=pc at *;by_cases q:cw ss cs a x=0;rw[Ud q] at e;have i:intD [.bl true]=some (.int 1):=rfl;rw[Ue q];unfold bB fF;exact rn;rw[T1 q] at e;have i:intD [.bl false]=some (.int 0):=rfl;rw[Zj q];unfold bB fF;exact rn
theorem ES{n:Nat}{G:Nat->WR}(a:Nat)(k b y:Int)(hT:Told n G (sd ss) (.shift a k b y) t)(ha:Lk ss cs a)(hx:Ix t x):cH ss cs t x (.shift a k b y):=by
 obtain⟨j,rfl,hj,hy,rfl⟩:=hT;have hl:=hx.1;have l1:=ha.1.1;have g1:=hx.get j hj;have ch:=cx x j (x.getD j 0-b) Zl Zl;have g2:ah (T<|rep x j<|x.getD j 0-b) (.int (j:Int))=some (.int<|x.getD j 0-b):=by rw[fL _ j (by rw[cn _ _ _ Zl];lia),ij _ _ _ _ Zl,Ue rfl]
 have g3:=fL (sd ss a) j hj;have p1:=zj (ss:=ss) (cs:=cs) a;have l1:=dz 0<|x.getD j 0-b;have l2:=fS (x.getD j 0-b)<|(sd ss a).getD j 0;show ∃d,bB [.tup [.str<|nm 8,.int a,.int j,.int b,.int y],.lst [pr ss cs a],T x]=_/\Got ss cs (sd ss a) x (.shift a (j:Int) b y) d;by_cases q:0<=x.getD j 0-b/\x.getD j 0-b<(sd ss a).getD j 0;have s1:=qb ha<|gp (by rw[kP _ _ hj];exact hx) hj q.1 q.2;refine⟨.int<|cw ss cs a<|rep x j<|x.getD j 0-b,?_,.inr ⟨_,rfl,s1.2,(Ue q).symm⟩⟩;have s1:=s1.1;rw[Ud q.1] at l1;rw[Ud q.2] at l2;generalize pr ss cs a=pa at *;generalize T (rep x j<|x.getD j 0-b)=x' at *;generalize T (sd ss a)=sa at *;unfold bB fF;exact rn;refine⟨.int y,?_,.inr ⟨_,rfl,hy,(Zj q).symm⟩⟩;generalize pr ss cs a=pa at *;generalize T (rep x j<|x.getD j 0-b)=x' at *;generalize T (sd ss a)=sa at *;by_cases q1:0<=x.getD j 0-b;rw[Ud q1] at l1;rw[T1 λz=>q ⟨q1,z⟩] at l2;unfold bB fF;exact rn;rw[T1 q1] at l1;unfold bB fF;exact rn
theorem MK{n:Nat}{G:Nat->WR}(a b:Nat)(k:Int)(hT:Told n G (sd ss) (.join a b k) t)(ha:Lk ss cs a)(hb:Lk ss cs b)(hx:Ix t x):cH ss cs t x (.join a b k):=by
 obtain⟨j,rfl,hj,h2,h4,rfl⟩:=hT;have hl:x.length=(sd ss a).length:=by rw[hx.1,cn _ _ _ hj]
 have l1:=ha.1.1;have g1:=fL x j Zl;have g3:=fL (sd ss a) j hj;have p1:=zj (ss:=ss) (cs:=cs) a;have b0:=hx.2 j (by rw[cn _ _ _ hj];exact hj);rw[ij _ _ _ _ hj,Ue rfl] at b0;show ∃d,bB [.tup [.str<|nm 15,.int a,.int b,.int j],.lst [pr ss cs a,pr ss cs b],T x]=_/\Got ss cs _ x (.join a b (j:Int)) d;by_cases q:x.getD j 0<(sd ss a).getD j 0;have i1:=gp hx hj b0.1 q;rw[kP _ _ Zl] at i1;have s1:=qb ha i1;refine⟨.int<|cw ss cs a x,?_,.inr ⟨_,rfl,s1.2,(Ue q).symm⟩⟩;have s1:=s1.1;have lt:=qH q;generalize pr ss cs a=pa at *;generalize pr ss cs b=pb at *;generalize T (sd ss a)=sa at *;unfold bB fF;exact rn;have i2:Ix (sd ss b) (rep x j<|x.getD j 0-(sd ss a).getD j 0):=gp (Eg h2 hj h4 _ ▸ hx) Zl Zl Zl;have s1:=qb hb i2;have ch:=cx x j (x.getD j 0-(sd ss a).getD j 0) Zl Zl;refine⟨.int<|cw ss cs b<|rep x j<|x.getD j 0-(sd ss a).getD j 0,?_,.inr ⟨_,rfl,s1.2,(Zj q).symm⟩⟩;have s1:=s1.1;have lt:=ur q;generalize pr ss cs a=pa at *;generalize pr ss cs b=pb at *;generalize T (rep x j<|x.getD j 0-(sd ss a).getD j 0)=x' at *;generalize T (sd ss a)=sa at *;unfold bB fF;exact rn
theorem Q0g{n:Nat}{G:Nat->WR}(a b:Nat)(k:Int)(hT:Told n G (sd ss) (.pick a k b) t)(ha:Lk ss cs a)(hb:Lk ss cs b)(hx:Ix t x):cH ss cs t x (.pick a k b):=by
 obtain⟨j,y,rfl,hj,h2,rfl⟩:=hT;have hl:x.length=(sd ss a).length:=by rw[hx.1,cn _ _ _ hj]
 have l1:=ha.1.1;have g1:=fL x j Zl;have g3:=fL (sd ss a) j hj;have p1:=zj (ss:=ss) (cs:=cs) a;have p2:=Vh (ss:=ss) (cs:=cs) b;have b0:=hx.2 j (by rw[cn _ _ _ hj];exact hj);rw[ij _ _ _ _ hj,Ue rfl] at b0;have lb:=hb.2.1;rw[h2] at lb;have lb:((cs b).length:Int)=y*1:=lb;have hq:(x.getD j 0).toNat<(cs b).length:=Zl;have g4:ah (Z<|cs b) (.int<|x.getD j 0)=some (.int<|(cs b).getD (x.getD j 0).toNat 0):=bM _ _ b0.1 Zl;have rw_:Rt ((cs b).getD (x.getD j 0).toNat 0):=by rw[gD _ _ hq];exact hb.2.2 _ (DF hq)
 show ∃d,bB [.tup [.str<|nm 14,.int a,.int j,.int b],.lst [pr ss cs a,pr ss cs b],T x]=_/\Got ss cs _ x (.pick a (j:Int) b) d;generalize (cs b).getD (x.getD j 0).toNat 0=w at *;have ge:=Ca w<|(sd ss a).getD j 0;by_cases q:(sd ss a).getD j 0<=w;rw[Ud q] at ge;refine⟨.aK,?_,.inl rfl⟩;generalize pr ss cs a=pa at *;generalize pr ss cs b=pb at *;generalize T (sd ss a)=sa at *;unfold bB fF;exact rn;rw[T1 q] at ge;have s1:=qb ha<|gp hx hj rw_.1 Zl;have ch:=cx x j w Zl Zl;refine⟨.int<|cw ss cs a<|rep x j w,?_,.inr ⟨_,rfl,s1.2,trivial⟩⟩;have s1:=s1.1;generalize pr ss cs a=pa at *;generalize pr ss cs b=pb at *;generalize T (rep x j w)=x' at *;generalize T (sd ss a)=sa at *;unfold bB fF;exact rn
end
section
variable{ss:XW}{cs:Nat->WR}{t x:WR}
theorem xi{a j:Nat}(ha:Lk ss cs a)(hj:j<(sd ss a).length){x:WR}(hx:Ix (wo (sd ss a) j) x)(m:Nat)(hm:(m:Int)<=(sd ss a).getD j 0)(l:D)(q3:Sl) : az 1 (bF [(aa 5)]) (aj 8) (VP.ret true) iO [.sh l,.sh<|.lst [pr ss cs a],.sh<|T x,q3,.sh<|.int j,.sh<|.int m,.no,.no]=.ok (Z<|(List.range m).map λ(k:Nat)=>cw ss cs a<|pin x j k) [.sh l,.sh<|.lst [pr ss cs a],.sh<|T x,q3,.sh<|.int j,.sh<|.int m,.no,.no]/\∀k:Nat,k<m->Rt (cw ss cs a<|pin x j k):=by have hl:=hx.1;have l1:=jd hj;have l2:=ha.1.1;have l3:=ha.1.get j;have er:=gr m Zl;have s:∀k:Nat,k<m->_:=λk hk=>qb ha<|vS hx hj (show 0<=(k:Int) by lia) Zl;refine⟨?_,λk hk=>(s k hk).2⟩;refine dN (λ(k:Nat)=>D.int k) (λk=>D.int<|cw ss cs a<|pin x j k) (List.range m) ao (by simp;lia) (by simp[Z,Function.comp_def]) λk hk acc=>?_;have s1:=(s k<|List.mem_range.mp hk).1;have c1:=jz x j Zl;have c2:=iT x j Zl;obtain⟨a1,a2⟩:=yx x j (k:Int) Zl;generalize pr ss cs a=pa at *;generalize T (pin x j k)=x' at *;generalize T (x.take j)=x1 at *;generalize T (x.take j++[(k:Int)])=x2 at *;generalize T (x.drop j)=x3 at *;show iO [.sh l,.sh<|.lst [pa],.sh<|T x,q3,.sh<|.int j,.sh<|.int m,.no,.no,.sh<|.int k,.ow acc]=_;unfold iO;exact ao
theorem Rt.map{m:Nat}{f:Nat->Int}(h:∀k:Nat,k<m->Rt (f k)):∀v∈(List.range m).map f,Rt v:=λv hv=>by obtain⟨k,hk,rfl⟩:=List.mem_map.mp hv;exact h k (List.mem_range.mp hk)
theorem MJ{n:Nat}{G:Nat->WR}(d a:Nat)(k:Int)(hT:Told n G (sd ss) (.fold d a k) t)(ha:Lk ss cs a)(hx:Ix t x):cH ss cs t x (.fold d a k):=by obtain⟨j,rfl,hj,hd,_,rfl⟩:=hT;have hs:=ha.1.get j;have g3:=fL (sd ss a) j hj;have p1:=zj (ss:=ss) (cs:=cs) a;obtain⟨m,hm⟩:∃m:Nat,(sd ss a).getD j 0=m:=⟨((sd ss a).getD j 0).toNat,Zl⟩;obtain⟨c1,c2⟩:=xi ha hj hx m Zl (.tup [.str<|nm 12,.str<|nm d,.int a,.int j])<|.sh<|.str<|nm 12;obtain⟨v,f1,f2⟩:=qA d hd _ (Rt.map c2) (by simp;lia);refine⟨.int v,?_,.inr ⟨v,rfl,f2,trivial⟩⟩;rw[hm] at g3;show bB [.tup [.str<|nm 12,.str<|nm d,.int a,.int j],.lst [pr ss cs a],T x]=_;generalize Z ((List.range m).map λ(k:Nat)=>cw ss cs a<|pin x j k)=z at *;generalize pr ss cs a=pa at *;generalize T (sd ss a)=sa at *;unfold bB fF;exact rn
theorem Q0U{n:Nat}{G:Nat->WR}(d a:Nat)(k:Int)(hT:Told n G (sd ss) (.run d a k) t)(ha:Lk ss cs a)(hx:Ix t x):cH ss cs t x (.run d a k):=by
 obtain⟨j,rfl,hj,hd,rfl⟩:=hT;have hs:=ha.1.get j;have h4:=ha.1.1;have hl:=hx.1;have g3:=fL (sd ss a) j hj;have g1:=hx.get j hj;have p1:=zj (ss:=ss) (cs:=cs) a;have b0:=hx.2 j hj;obtain⟨m,hm⟩:∃m:Nat,x.getD j 0+1=m:=⟨(x.getD j 0+1).toNat,Zl⟩;have e1:aU (.int<|x.getD j 0) (.int 1)=some (.int m):=by rw[sR,hm]
 obtain⟨c1,c2⟩:=xi ha hj (tAp hx j hj) m Zl (.tup [.str<|nm 13,.str<|nm d,.int a,.int j])<|.sh<|.str<|nm 13;obtain⟨v,f1,f2⟩:=qA d hd _ (Rt.map c2) (by simp;lia);refine⟨.int v,?_,.inr ⟨v,rfl,f2,trivial⟩⟩;have u1:=jz x j Zl;have u2:=iT x (j+1) Zl;rw[show (((j+1:Nat)):Int)=(j:Int)+1 by lia] at u2;have u3:=Ef x j Zl;show bB [.tup [.str<|nm 13,.str<|nm d,.int a,.int j],.lst [pr ss cs a],T x]=_;generalize Z ((List.range m).map λ(k:Nat)=>cw ss cs a<|pin (wo x j) j k)=z at *;generalize pr ss cs a=pa at *;generalize T (sd ss a)=sa at *;generalize T (wo x j)=x1 at *;generalize T (x.take j)=x2 at *;generalize T (x.drop<|j+1)=x3 at *;generalize x.getD j 0=xj at *;unfold bB fF;exact rn
theorem nX{a:Nat}{l:PL}(hk:l.k=2\/l.k=3\/l.k=4\/l.k=5\/l.k=6)(hn:l.ns=[a]){u:WR}(hu:iw [l.d,T<|sd ss a,T x]=.ok (T u) []){v:Int}(s1:n5 [pr ss cs a,T u]=.ok (.int v) [])(r:Rt v)(e:HF ss cs t x l v):cH ss cs t x l:=by
 refine⟨.int v,?_,.inr ⟨v,rfl,r,e⟩⟩;rw[hn];show bB [l.d,.lst [pr ss cs a],T x]=_;have k1:=l.kind;have T7:=l.NQ;have ne:∀j,j<32->l.k≠j->fI (.str<|nm l.k) (.str<|nm j)=some (.bl false):=λj hj h=>by rw[Bm _ _ Zl hj,T1 h]
 have n9:=ne 9 Zl Zl;have WN:=ne 10 Zl Zl;have n11:=ne 11 Zl Zl;have n8:=ne 8 Zl Zl;have n12:=ne 12 Zl Zl;have n13:=ne 13 Zl Zl;have n14:=ne 14 Zl Zl;have n15:=ne 15 Zl Zl;have p1:=zj (ss:=ss) (cs:=cs) a;generalize l.d=ld at *;generalize pr ss cs a=pa at *;generalize T (sd ss a)=sa at *;generalize T u=tu at *;unfold bB fF;exact rn
theorem qY(s x:WR)(h:s.length<=x.length):cz s (x.drop<|x.length-s.length)=cz s x:=by unfold cz;rw[show (x.drop<|x.length-s.length).length-s.length=0 by simp;lia,List.drop_zero]
theorem MM{n:Nat}{G:Nat->WR}(a:Nat)(o:WR)(hT:Told n G (sd ss) (.turn a o) t)(ha:Lk ss cs a)(hx:Ix t x):cH ss cs t x (.turn a o):=by
 obtain⟨h1,h2,rfl⟩:=hT;have h4:=ha.1.1;obtain⟨hm,hd⟩:=qX h1;have s1:=qb ha<|CA hx h2 hm;refine nX (by simp[PL.k]) rfl ?_ s1.1 s1.2 rfl;show iw [.tup [.str<|nm 2,.int a,T o],T<|sd ss a,T x]=.ok (T<|w7 o x) [];have er:=gr (sd ss a).length Zl;have hl:=hx.1;rw[Wj] at hl;have c:az 1 (bF [(m1 cu<|aa 1)]) (aj 3) (VP.ret true) eZ [.sh<|.tup [.str<|nm 2,.int a,T o],.sh<|T<|sd ss a,.sh<|T x]=.ok (Z<|w7 o x) [.sh<|.tup [.str<|nm 2,.int a,T o],.sh<|T<|sd ss a,.sh<|T x]:=by
  refine dN (λ(k:Nat)=>D.int k) (λk=>D.int<|x.getD (o.idxOf (k:Int)) 0) (List.range (sd ss a).length) ao (by simp;lia) (by simp[Z,w7,Function.comp_def,h2]) λk hk acc=>?_;have hk:=List.mem_range.mp hk;have hi:=List.idxOf_lt_length_of_mem<|hm k hk;have g:=fL x (o.idxOf (k:Int)) Zl;show eZ [.sh<|.tup [.str<|nm 2,.int a,T o],.sh<|T<|sd ss a,.sh<|T x,.sh<|.int k,.ow acc]=.ok _ [.sh<|.tup [.str<|nm 2,.int a,T o],.sh<|T<|sd ss a,.sh<|T x,.sh<|.int k,.ow acc];have ix:uv (m1 dG<|m2 ah (aa 0)<|cI 2) (aa 3) [.sh<|.tup [.str<|nm 2,.int a,T o],.sh<|T<|sd ss a,.sh<|T x,.sh<|.int k,.ow acc]=.ok (.int (o.idxOf (k:Int):Nat)) [.sh<|.tup [.str<|nm 2,.int a,T o],.sh<|T<|sd ss a,.sh<|T x,.sh<|.int k,.ow acc]:=by have lo:dG (T o)=some (Z o):=yp o;rw[CQ,show m1 dG (m2 ah (aa 0)<|cI 2) _=.ok (Z o) _ from ao,ag];exact NF (aa 3) o k _ _ ao (hm k hk)
  unfold eZ;exact ao
 have tz:=sG<|w7 o x;generalize w7 o x=u at *;unfold iw qi;exact rn
theorem Sa{n:Nat}{G:Nat->WR}(a:Nat)(k b st m:Int)(hT:Told n G (sd ss) (.cut a k b st m) t)(ha:Lk ss cs a)(hx:Ix t x):cH ss cs t x (.cut a k b st m):=by
 obtain⟨j,rfl,hj,h1,_,h2,rfl⟩:=hT;have hl:x.length=(sd ss a).length:=by rw[hx.1,cn _ _ _ hj]
 have h4:=ha.1.1;have b0:=hx.2 j (by rw[cn _ _ _ hj];exact hj);rw[ij _ _ _ _ hj,Ue rfl] at b0;have c:=Ba st b m (x.getD j 0) b0 h2;rw[Int.mul_comm] at c;have s1:=qb ha<|gp hx hj c.1 c.2;refine nX (by simp[PL.k]) rfl ?_ s1.1 s1.2 rfl;show iw [.tup [.str<|nm 3,.int a,.int j,.int b,.int st,.int m],T<|sd ss a,T x]=.ok (T<|rep x j<|b+x.getD j 0*st) [];have g:=fL x j Zl;have mu:=bN (x.getD j 0) st Zl Zl;have ch:=cx x j (b+x.getD j 0*st) Zl Zl;generalize T (rep x j<|b+x.getD j 0*st)=u at *;unfold iw qi;exact rn
theorem Q2O{n:Nat}{G:Nat->WR}(a:Nat)(k p:Int)(hT:Told n G (sd ss) (.drop a k p) t)(ha:Lk ss cs a)(hx:Ix t x):cH ss cs t x (.drop a k p):=by obtain⟨j,rfl,hj,h2,rfl⟩:=hT;have h4:=ha.1.1;have hl:=hx.1;have l1:=jd hj;have s1:=qb ha<|vS hx hj h2.1 h2.2;refine nX (by simp[PL.k]) rfl ?_ s1.1 s1.2 rfl;show iw [.tup [.str<|nm 4,.int a,.int j,.int p],T<|sd ss a,T x]=.ok (T<|pin x j p) [];have c1:=jz x j Zl;have c2:=iT x j Zl;obtain⟨a1,a2⟩:=yx x j p Zl;generalize T (pin x j p)=u at *;unfold iw qi;exact rn
theorem MO{n:Nat}{G:Nat->WR}(a:Nat)(k:Int)(hT:Told n G (sd ss) (.wide a k) t)(ha:Lk ss cs a)(hx:Ix t x):cH ss cs t x (.wide a k):=by obtain⟨j,rfl,hj,rfl⟩:=hT;have h4:=ha.1.1;have hl:=hx.1;have l1:=kL (sd ss a) j 1;have s1:=qb ha<|KD hx hj;refine nX (by simp[PL.k]) rfl ?_ s1.1 s1.2 rfl;show iw [.tup [.str<|nm 5,.int a,.int j],T<|sd ss a,T x]=.ok (T<|wo x j) [];have c1:=jz x j Zl;have c2:=iT x (j+1) Zl;rw[show (((j+1:Nat)):Int)=(j:Int)+1 by lia] at c2;have a2:=Ef x j Zl;generalize T (wo x j)=u at *;unfold iw qi;exact rn
theorem AO{n:Nat}{G:Nat->WR}(a:Nat)(u:WR)(hT:Told n G (sd ss) (.spread a u) t)(ha:Lk ss cs a)(hx:Ix t x)(h9:x.length<=100):cH ss cs t x (.spread a u):=by
 obtain⟨h1,rfl⟩:=hT;have hs:=bA h1;have hl:=hx.1;have hn:(sd ss a).length<=x.length:=by have:=hs.1;lia
 have dl:(x.drop<|x.length-(sd ss a).length).length=(sd ss a).length:=by simp;lia
 have s1:=wL ha (x:=x.drop<|x.length-(sd ss a).length) (by rw[dl];exact Ru _) Zl (by rw[qY _ _ hn];exact cB hx hs);refine nX (by simp[PL.k]) rfl ?_ s1.1 s1.2 (by show cv _ _ _ _=cv _ _ _ _;rw[qY _ _ hn]);show iw [.tup [.str<|nm 6,.int a,T t],T<|sd ss a,T x]=.ok (T<|x.drop<|x.length-(sd ss a).length) [];have c2:=iT x (x.length-(sd ss a).length) Zl;rw[show (((x.length-(sd ss a).length:Nat)):Int)=(x.length:Int)-(sd ss a).length by lia] at c2;generalize T (x.drop<|x.length-(sd ss a).length)=u' at *;unfold iw qi;exact rn
theorem EY{n:Nat}{G:Nat->WR}{l:PL}(hT:Told n G (sd ss) l t)(h:∀b∈l.ns,Lk ss cs b)(ht:SI t)(hx:Ix t x)(h0:l.k≠0/\l.k≠1/\l.k≠7):cH ss cs t x l:=by
 have h9:x.length<=100:=by have:=hx.1;have:=ht.1;lia
 cases l with|given=>exact absurd rfl h0.1|gy=>exact absurd rfl h0.2.1|shape=>exact absurd rfl h0.2.2|turn a o=>exact MM a o hT (h a (by simp[PL.ns])) hx|cut a k b st m=>exact Sa a k b st m hT (h a (by simp[PL.ns])) hx|drop a k p=>exact Q2O a k p hT (h a (by simp[PL.ns])) hx|wide a k=>exact MO a k hT (h a (by simp[PL.ns])) hx|spread a u=>exact AO a u hT (h a (by simp[PL.ns])) hx h9|shift a k b y=>exact ES a k b y hT (h a (by simp[PL.ns])) hx|one d a=>exact Q1p d a hT (h a (by simp[PL.ns])) hx|both d a b=>exact MF d a b hT (h a (by simp[PL.ns])) (h b (by simp[PL.ns])) hx|bx a b c=>exact Q1X a b c hT (h a (by simp[PL.ns])) (h b (by simp[PL.ns])) (h c (by simp[PL.ns])) hx|fold d a k=>exact MJ d a k hT (h a (by simp[PL.ns])) hx|run d a k=>exact Q0U d a k hT (h a (by simp[PL.ns])) hx|pick a k b=>exact Q0g a b k hT (h a (by simp[PL.ns])) (h b (by simp[PL.ns])) hx|join a b k=>exact MK a b k hT (h a (by simp[PL.ns])) (h b (by simp[PL.ns])) hx
end
theorem sf{A B:Type}[Inhabited B]{P:A->B->Prop}{as:List A}(h:∀a∈as,∃b,P a b):∃f:A->B,∀a∈as,P a (f a):=by
 classical
 exact⟨λa=>if ha:a∈as then(h a ha).choose else default,λa ha=>by dsimp only;rw[dif_pos ha];exact(h a ha).choose_spec⟩
def iH(cl:XW):D:=.lst (cl.map Z)
theorem RX(cl:XW)(c:WR)(h:cl.length<=100):dJ (Z c) (iH cl)=some (iH<|cl++[c]):=by show (if (cl.map Z).length<16777216 then _ else _)=_;rw[Ue (by simp;lia)];simp[iH]
theorem tnE(num n:Nat)(nm0:Int)(s8:Sl)(f8:free (some s8)=true)(r0 r1 r2 r3 r4 r5:Sl):∃(xs:WR)(v:Int)(t:Sl),loop (aj 8) fj ((List.range n).map λ(k:Nat)=>D.int k) [r0,r1,r2,r3,r4,r5,.sh<|.int nm0,.ow<|Z [],s8]=.ok .nx [r0,r1,r2,r3,r4,r5,.sh<|.int v,.ow<|Z xs,t]/\free (some t)=true/\xs.length=n/\(∀x∈xs,Rt x)\/1000<n:=by
 by_cases hn:1000<n;exact⟨[],0,.no,.inr hn⟩;obtain⟨⟨v,xs⟩,t,⟨h1,h2⟩,ht,L⟩:=aO (g:=aj 8) (body:=fj) (λ(k:Nat)=>D.int k) (λ(s:Int×List Int)(t:Sl)=>[r0,r1,r2,r3,r4,r5,.sh<|.int s.1,.ow<|Z s.2,t]) ko (List.range n) (λk s=>s.2.length=k/\∀x∈s.2,Rt x) (nm0,[]) s8 f8 ⟨rfl,λx hx=>by cases hx⟩ (by
  intro i k hk s t ht hP;obtain⟨rfl,hk⟩:=aW hk;obtain⟨v,xs⟩:=s;obtain⟨h1,h2⟩:=hP;dsimp only at h1 h2;have hf:free (some t)=true:=ht;have m:=bN v 48271 Zl Zl;have m2:=Uu<|v*48271;have ap:=vq xs (v*48271 % 1000003) Zl;have e:aj 8 (.int (k:Int)) [r0,r1,r2,r3,r4,r5,.sh<|.int v,.ow<|Z xs,t]=.ok () [r0,r1,r2,r3,r4,r5,.sh<|.int v,.ow<|Z xs,.sh<|.int k]:=by simp[hf]
  refine⟨(v*48271 % 1000003,xs++[v*48271 % 1000003]),.sh<|.int k,⟨by simp[h1],λx hx=>?_⟩,rfl,?_⟩;rcases List.mem_append.mp hx with hx|hx;exact h2 x hx;rw[List.mem_singleton.mp hx];exact⟨Int.emod_nonneg _ Zl,y5 _ Zl⟩;dsimp only;rw[aB,e,ag,show fj _=.ok .nx _ by unfold fj;exact ao];rfl)
 exact⟨xs,v,t,.inl ⟨L,ht,by simpa using h1,h2⟩⟩
theorem Be(ns:WR)(p:Nat)(gs:XW)(hg:Af gs)(h3:gs.length<=50):∃(cl:XW)(q:Nat),tZ [Row ns p,aG gs,.int gs.length]=.ok (iH cl) [Row ns q]/\cl.length=gs.length/\∀k,k<gs.length->((cl.getD k []).length:Int)=ak (sd gs k)/\∀v∈cl.getD k [],Rt v:=by
 have er:=gr gs.length Zl;obtain⟨⟨cl,q⟩,t,⟨h1,h2⟩,ht,L⟩:=aO (g:=aj 4) (body:=dA) (λ(k:Nat)=>D.int k) (λ(s:List (List Int)×Nat)(t:Sl×Sl×Sl×Sl×Sl)=>[.io<|Row ns s.2,.sh<|aG gs,.sh<|.int gs.length,.ow<|iH s.1,t.1,t.2.1,t.2.2.1,t.2.2.2.1,t.2.2.2.2]) (λt=>free (some t.1)=true/\free (some t.2.1)=true/\free (some t.2.2.1)=true/\free (some t.2.2.2.1)=true/\free (some t.2.2.2.2)=true) (List.range gs.length) (λk s=>s.1.length=k/\∀j,j<k->((s.1.getD j []).length:Int)=ak (sd gs j)/\∀v∈s.1.getD j [],Rt v) ([],p) (.no,.no,.no,.no,.no) ⟨rfl,rfl,rfl,rfl,rfl⟩ ⟨rfl,λj hj=>absurd hj Zl⟩ (by
  intro i k hk s t ht hP;obtain⟨rfl,hk⟩:=aW hk;obtain⟨cl,q⟩:=s;obtain⟨t4,t5,t6,t7,t8⟩:=t;obtain⟨f4,f5,f6,f7,f8⟩:=ht;obtain⟨h1,h2⟩:=hP;dsimp only at f4 f5 f6 f7 f8 h1 h2;obtain⟨yM,tk,b0,b1⟩:=aR ns q 1000003 Zl;have si:=hg.at hk;have ig:=a7 gs k hk;have ce:=jI (sd gs k) si.pre;have p0:=si.uK;have Y4:=si.2.2;obtain⟨n,hn⟩:∃n:Nat,ak (sd gs k)=n:=⟨(ak<|sd gs k).toNat,Zl⟩;rw[hn] at ce;have er2:=gr n Zl;obtain⟨xs,v,t,h|h⟩:=tnE 0 n (yM+1+k) t8 f8 (.io<|Row ns<|q+1) (.sh<|aG gs) (.sh<|.int gs.length) (.ow<|iH cl) (.sh<|.int k)<|.sh<|.int yM;rotate_left
  ·lia
  obtain⟨L,ft,xl,xr⟩:=h;have z0:Z []=.lst []:=rfl;rw[z0] at L;have m3:=cb yM 3 Zl;have e:aj 4 (.int (k:Int)) [.io<|Row ns q,.sh<|aG gs,.sh<|.int gs.length,.ow<|iH cl,t4,t5,t6,t7,t8]=.ok () [.io<|Row ns q,.sh<|aG gs,.sh<|.int gs.length,.ow<|iH cl,.sh<|.int k,t5,t6,t7,t8]:=by simp[f4]
  have il:isLst (some<|iH cl)=true:=rfl;have more:∀c:WR,(c.length:Int)=n->(∀v∈c,Rt v)->(cl++[c]).length=k+1/\∀j,j<k+1->(((cl++[c]).getD j []).length:Int)=ak (sd gs j)/\∀v∈(cl++[c]).getD j [],Rt v:=λc c1 c2=>by
   refine⟨by simp[h1],λj hj=>?_⟩;by_cases z:j=k
   ·subst z;rw[show (cl++[c]).getD j []=c by simp[<-h1],hn];exact⟨c1,c2⟩
   ·rw[show (cl++[c]).getD j []=cl.getD j [] by simp[B5 (show j<cl.length by lia)]];exact h2 j Zl
  by_cases c:yM % 3=0\/(k:Int)=gs.length-1
  ·have cc:az 1 (cj<|aa 7) (aj 9) (VP.ret true) j4 [.io<|Row ns<|q+1,.sh<|aG gs,.sh<|.int gs.length,.ow<|iH cl,.sh<|.int k,.sh<|.int yM,.sh<|.int v,.sh<|Z xs,t]=.ok (Z<|xs.map λx=>x / 7 % 4) [.io<|Row ns<|q+1,.sh<|aG gs,.sh<|.int gs.length,.ow<|iH cl,.sh<|.int k,.sh<|.int yM,.sh<|.int v,.sh<|Z xs,t]:=by
    have sz:bR (Z xs)=some (xs.map D.int):=rfl;refine dN (λ(k:Int)=>D.int k) (λx=>D.int<|x / 7 % 4) xs ao Zl (by simp[Z,Function.comp_def]) λx hx acc=>?_;have d1:=gF x 7 Zl Zl;have d2:=cb (x / 7) 4 Zl;unfold j4;exact ao
   have ap:=RX cl (xs.map λx=>x / 7 % 4) Zl;refine⟨(cl++[xs.map λx=>x / 7 % 4],q+1),(.sh<|.int k,.sh<|.int yM,.sh<|.int v,.sh<|Z<|xs.map λx=>x / 7 % 4,t),more _ (by simp[xl]) (λw hw=>by obtain⟨x,_,rfl⟩:=List.mem_map.mp hw;unfold Rt;lia),⟨rfl,rfl,rfl,rfl,ft⟩,?_⟩;dsimp only;rw[aB,e,ag];have tt:Hf (tB<|m2 fI (m2 hV (aa 5)<|cI 3)<|cI 0) (tB<|m2 fI (aa 4)<|m2 ja (aa 2)<|cI 1) [.io<|Row ns<|q+1,.sh<|aG gs,.sh<|.int gs.length,.ow<|iH cl,.sh<|.int k,.sh<|.int yM,.sh<|.int v,.ow<|Z xs,t]=.ok true [.io<|Row ns<|q+1,.sh<|aG gs,.sh<|.int gs.length,.ow<|iH cl,.sh<|.int k,.sh<|.int yM,.sh<|.int v,.ow<|Z xs,t]:=by
    by_cases c1:yM % 3=0
    ·have e1:=Kb c1;exact ao
    ·have e1:=Bo c1;have e2:=Kb<|c.resolve_left c1;exact ao
   generalize Z (xs.map λx=>x / 7 % 4)=zz at *;have fz:KQ 7 [.io<|Row ns<|q+1,.sh<|aG gs,.sh<|.int gs.length,.ow<|iH cl,.sh<|.int k,.sh<|.int yM,.sh<|.int v,.ow<|Z xs,t]=.ok () [.io<|Row ns<|q+1,.sh<|aG gs,.sh<|.int gs.length,.ow<|iH cl,.sh<|.int k,.sh<|.int yM,.sh<|.int v,.sh<|Z xs,t]:=rfl;rw[show dA _=.ok .nx _ by unfold dA;exact ao];rfl
  ·have c1:=Bo (λz:yM % 3=0=>c<|.inl z);have c2:=Bo (λz:(k:Int)=gs.length-1=>c<|.inr z);have ap:=RX cl xs Zl;refine⟨(cl++[xs],q+1),(.sh<|.int k,.sh<|.int yM,.sh<|.int v,.sh<|Z xs,t),more _ (by simp[xl]) xr,⟨rfl,rfl,rfl,rfl,ft⟩,?_⟩;dsimp only;rw[aB,e,ag];rw[show dA _=.ok .nx _ by unfold dA;exact ao];rfl)
 dsimp only at L h1 h2;rw[Us] at h1 h2;have z0:iH []=.lst []:=rfl;rw[z0] at L;exact⟨cl,q,by unfold tZ Ig;exact rn,h1,h2⟩
theorem yy:∀{s x y:WR},(∀z∈s,0<=z)->Ix s x->Ix s y->jx s x=jx s y->x=y
|[],x,y,_,hx,hy,_=>by rw[List.eq_nil_of_length_eq_zero hx.1,List.eq_nil_of_length_eq_zero hy.1]|_::_,[],_,_,hx,_,_=>by have:=hx.1;simp at this|_::_,_::_,[],_,_,hy,_=>by have:=hy.1;simp at this|z::s,a::x,b::y,hs,hx,hy,e=>by
 have h0:=λw hw=>hs w<|WW _ hw;have px:=hx.tail.place h0;have py:=hy.tail.place h0;have e:a*ak s+jx s x=b*ak s+jx s y:=e;have ab:a=b:=by
  rcases Int.lt_trichotomy a b with c|c|c;have:=Int.mul_le_mul_of_nonneg_right (show a+1<=b by lia) (show 0<=ak s by lia);rw[Int.add_mul] at this
  lia
  exact c;have:=Int.mul_le_mul_of_nonneg_right (show b+1<=a by lia) (show 0<=ak s by lia);rw[Int.add_mul] at this
  lia
 subst ab;rw[yy h0 hx.tail hy.tail Zl]
def fD:Option (List Int)->D|none=>.aK|some c=>Z c
def Fd(os:List (Option<|List Int)):D:=.lst (os.map fD)
def bS(os:List (Option<|List Int))(a:Nat):WR:=(os.getD a none).getD []
theorem AA(os:List (Option<|List Int))(o:Option (List Int))(h:os.length<=100):dJ (fD o) (Fd os)=some (Fd<|os++[o]):=by show (if (os.map fD).length<16777216 then _ else _)=_;rw[Ue (by simp;lia)];simp[Fd]
theorem Rc(os:List (Option<|List Int))(a:Nat)(h:a<os.length):ah (Fd os) (.int (a:Int))=some (fD<|os.getD a none):=by show (yh (os.map fD).length (a:Int)).bind _=_;rw[yh,Ue Zl,Ue (by simp;lia)];simp[h]
theorem A5{os:List (Option<|List Int)}{o:Option (List Int)}{a:Nat}(h:a<os.length):bS (os++[o]) a=bS os a:=by simp[bS,B5 h]
theorem HF.mono{ss:XW}{cs SN:Nat->WR}{t x:WR}{l:PL}{v:Int}(h:HF ss cs t x l v)(e:∀a∈l.ns,SN a=cs a):HF ss SN t x l v:=by
 have c:∀a∈l.ns,cw ss cs a=cw ss SN a:=λa ha=>by funext y;unfold cw cv;rw[e a ha]
 have c0:∀{a r},l.ns=a::r->cw ss cs a=cw ss SN a:=λz=>c _<|z ▸ Uq;have c1:∀{a b r},l.ns=a::b::r->cw ss cs b=cw ss SN b:=λz=>c _<|z ▸ WW _ Uq;cases l with|gy s y=>exact h|one d a=>exact Eq.trans (h:v=_) (by rw[c0 rfl])|both d a b=>exact Eq.trans (h:v=_) (by rw[c0 rfl,c1 rfl])|bx a b d=>exact Eq.trans (h:v=_) (by rw[c0 rfl,c1 rfl,c d (by simp[PL.ns])])|shift a k n y=>exact Eq.trans (h:v=_) (by rw[c0 rfl])|join a b k=>exact Eq.trans (h:v=_) (by rw[c0 rfl,c1 rfl])|shape a u=>exact Eq.trans (h:v=_) (by rw[e a (by simp[PL.ns])])|turn a o=>exact Eq.trans (h:v=_) (by rw[c0 rfl])|cut a k b st m=>exact Eq.trans (h:v=_) (by rw[c0 rfl])|drop a k p=>exact Eq.trans (h:v=_) (by rw[c0 rfl])|wide a k=>exact Eq.trans (h:v=_) (by rw[c0 rfl])|spread a u=>exact Eq.trans (h:v=_) (by rw[c0 rfl])|_=>exact trivial
structure Ms(ss:XW)(cs:Nat->WR)(l:PL)(t c:WR):Prop where
 len:(c.length:Int)=ak t
 rt:∀v∈c,Rt v
 eq:∀x,Ix t x->HF ss cs t x l (c.getD (jx t x).toNat 0)
theorem ints_of:∀{ds:Zm},(∀d∈ds,∃i,d=.int i)->∃c:WR,ds=c.map D.int|[],_=>⟨[],rfl⟩|d::ds,h=>by obtain⟨i,rfl⟩:=h d Uq;obtain⟨c,rfl⟩:=ints_of λe he=>h e<|WW _ he;exact⟨i::c,rfl⟩
theorem NK{ds:Zm}(h:∀d∈ds,d=.aK\/∃i,d=.int i):∃b,inD false .aK (.lst ds)=some (.bl b)/\(b=false->∃c:WR,ds=c.map D.int):=by
 refine⟨ds.any λy=>eqB y .aK,?_,λe=>ints_of λd hd=>?_⟩;have:ds.all fK=true:=List.all_eq_true.mpr λd hd=>by rcases h d hd with rfl|⟨i,rfl⟩<;>rfl
 show (if (fK D.aK&&ds.all fK)=true then _ else _)=_;rw[this];rfl;rcases h d hd with rfl|z;rw[List.any_eq_false] at e;exact absurd rfl<|e _ hd;exact z
section
variable{gs:XW}{ls:Ra}{ss:XW}{ix_:Nat}(g:Gd gs ls ss ix_)(iE:ls.length<=14){cl:XW}(vH:cl.length=gs.length)(hc:∀k,k<gs.length->((cl.getD k []).length:Int)=ak (sd gs k)/\∀v∈cl.getD k [],Rt v)
include g iE
def qe(ls:Ra)(ss:XW)(cl:XW)(aZ:SK)(os:List (Option<|List Int))(s5 s6 s7 s8:Sl):ax:=[.sh<|Pg ls,.sh<|aG ss,.sh<|iH cl,.sh<|a9 aZ,.ow<|Fd os,s5,s6,s7,s8]
theorem Q1N(aZ:SK)(os:List (Option<|List Int))(k:Nat)(hk:k<ls.length)(ho:os.length=k)(s5 s7 s8:Sl):az 1 (cj<|aw mJ [.val<|aa 6]) (aj 9) (VP.ret true) bK (qe ls ss cl aZ os s5 (.sh (aQ ls k).d) s7 s8)=.ok (.lst<|(aQ ls k).ns.map λa=>.tup [T<|sd ss a,fD<|os.getD a none]) (qe ls ss cl aZ os s5 (.sh (aQ ls k).d) s7 s8):=by have r:=(aQ ls k).reads;have sn:bR (.lst<|(aQ ls k).ns.map λa=>D.int (a:Nat))=some ((aQ ls k).ns.map λa=>D.int (a:Nat)):=rfl;refine dN (λ(a:Nat)=>D.int a) (λa=>.tup [T<|sd ss a,fD<|os.getD a none]) (aQ ls k).ns ?_ (by have:=(aQ ls k).jL;lia) rfl λa ha acc=>?_;unfold qe;generalize (aQ ls k).d=ld at *;exact ao;have hl:=gJ g hk ha;have i1:=a7 ss a (by have:=g.len;lia);have i2:=Rc os a Zl;show bK [.sh<|Pg ls,.sh<|aG ss,.sh<|iH cl,.sh<|a9 aZ,.ow<|Fd os,s5,.sh (aQ ls k).d,s7,s8,.sh<|.int a,.ow acc]=.ok _ [.sh<|Pg ls,.sh<|aG ss,.sh<|iH cl,.sh<|a9 aZ,.ow<|Fd os,s5,.sh (aQ ls k).d,s7,s8,.sh<|.int a,.ow acc];unfold bK;exact ao
theorem Q0G(aZ:SK)(os:List (Option<|List Int))(k:Nat)(hk:k<ls.length)(h:∀b∈(aQ ls k).ns,Lk ss (bS os) b)(h0:(aQ ls k).k≠0/\(aQ ls k).k≠1/\(aQ ls k).k≠7)(s8:Sl):∃ds:Zm,az 1 (bF [(aw mH [.val<|m2 ah (aa 1)<|aa 5])]) (aj 9) (VP.ret true) eY (qe ls ss cl aZ os (.sh<|.int k) (.sh (aQ ls k).d) (.sh<|.lst<|(aQ ls k).ns.map<|pr ss<|bS os) s8)=.ok (.lst ds) (qe ls ss cl aZ os (.sh<|.int k) (.sh (aQ ls k).d) (.sh<|.lst<|(aQ ls k).ns.map<|pr ss<|bS os) s8)/\(∀d∈ds,d=.aK\/∃i,d=.int i)/\∀c:WR,ds=c.map D.int->Ms ss (bS os) (aQ ls k) (sd ss k) c:=by
 have hT:=kX g hk;have si:=gh g hk;have ce:=jI (sd ss k) si.pre;have i1:=a7 ss k (by have:=g.len;lia);have p0:=si.uK;have Y4:=si.2.2;have s0:∀y∈sd ss k,0<=y:=λy hy=>(si.2.1 y hy).1;obtain⟨n,hn⟩:∃n:Nat,ak (sd ss k)=n:=⟨(ak<|sd ss k).toNat,Zl⟩;have er:=gr n Zl;have gx:∀p∈List.range n,∃d,bB [(aQ ls k).d,.lst<|(aQ ls k).ns.map<|pr ss<|bS os,T<|gW (sd ss k) (p:Nat)]=.ok d []/\Got ss (bS os) (sd ss k) (gW (sd ss k) (p:Nat)) (aQ ls k) d:=λp hp=>by have hp:=List.mem_range.mp hp;exact EY hT h si (ny _ (p:Int) s0 Zl).1 h0
 obtain⟨f,hf⟩:=sf gx;refine⟨(List.range n).map f,?_,λd hd=>?_,λc e=>?_⟩;refine dN (λ(p:Nat)=>D.int p) f (List.range n) ?_ (by simp;lia) rfl λp hp acc=>?_;rw[hn] at ce;unfold qe;exact ao;have c1:=(hf p hp).1;have c2:=oR (sd ss k) si (by have:=List.mem_range.mp hp;lia) (p:Int);show eY [.sh<|Pg ls,.sh<|aG ss,.sh<|iH cl,.sh<|a9 aZ,.ow<|Fd os,.sh<|.int k,.sh (aQ ls k).d,.sh<|.lst<|(aQ ls k).ns.map<|pr ss<|bS os,s8,.sh<|.int p,.ow acc]=.ok (f p) [.sh<|Pg ls,.sh<|aG ss,.sh<|iH cl,.sh<|a9 aZ,.ow<|Fd os,.sh<|.int k,.sh (aQ ls k).d,.sh<|.lst<|(aQ ls k).ns.map<|pr ss<|bS os,s8,.sh<|.int p,.ow acc];generalize (aQ ls k).d=ld at *;generalize D.lst ((aQ ls k).ns.map<|pr ss<|bS os)=ow at *;unfold eY;exact ao;obtain⟨p,hp,rfl⟩:=List.mem_map.mp hd;rcases (hf p hp).2 with z|⟨i,z,_⟩;exact .inl z;exact .inr ⟨i,z⟩;have hl:c.length=n:=by have:=congrArg List.length e;simpa using this.symm
 have at_:∀p:Nat,p<n->Rt (c.getD p 0)/\HF ss (bS os) (sd ss k) (gW (sd ss k) p) (aQ ls k) (c.getD p 0):=λp hp=>by
  have e1:f p=.int (c.getD p 0):=by have:=congrArg (λl=>l[p]?) e;simp[hp,show p<c.length by lia] at this;rw[this,gD _ _ Zl]
  rcases (hf p<|List.mem_range.mpr hp).2 with z|⟨i,z,r,q⟩;rw[e1] at z;cases z;rw[e1] at z;cases z;exact⟨r,q⟩
 refine⟨by rw[hl,hn],λv hv=>?_,λx hx=>?_⟩;obtain⟨p,hp,rfl⟩:=List.getElem_of_mem hv;rw[<-gD _ _ hp];exact(at_ p Zl).1;have pl:=hx.place s0;have q:=(at_ (jx (sd ss k) x).toNat Zl).2;rw[show (((jx (sd ss k) x).toNat:Nat):Int)=jx (sd ss k) x by lia] at q;have lx:=ny (sd ss k) (jx (sd ss k) x) s0 Zl;rw[yy s0 lx.1 hx (by rw[lx.2,Int.emod_eq_of_lt pl.1 pl.2])] at q;exact q
end
theorem zB{S Tm A:Type}{g:D->M Unit}{body:M Fl}(mk:A->D)(R:S->Tm->ax)(ok:Tm->Prop)(Q:D->ax->Prop):∀(as:List A)(P:Nat->S->Prop)(s:S)(t:Tm),ok t->P 0 s ->
  (∀(i:Nat)(a:A),as[i]?=some a->∀s t,ok t->P i s->(∃s' t',P (i+1) s'/\ok t'/\aB g body (mk a) (R s t)=.ok .nx (R s' t'))\/∃d r,Q d r/\aB g body (mk a) (R s t)=.ok (.rt d) r) ->
  (∃s' t',P as.length s'/\ok t'/\loop g body (as.map mk) (R s t)=.ok .nx (R s' t'))\/∃d r,Q d r/\loop g body (as.map mk) (R s t)=.ok (.rt d) r:=by
 intro as;induction as with
 |nil=>intro P s t ht hs _;exact .inl ⟨s,t,hs,ht,rfl⟩|cons a as ih=>
  intro P s t ht hs h;have tl:∀r,loop g body (mk a::as.map mk) r=(aB g body (mk a) r).turn (loop g body<|as.map mk):=λr=>by rw[lM,aB];cases g (mk a) r<;>rfl
  rcases h 0 a rfl s t ht hs with ⟨s1,t1,p1,o1,e1⟩|⟨d,r,q,e⟩
  rw[WA,tl,e1,Ho];exact ih (λk=>P<|k+1) s1 t1 o1 p1 λi a' ha=>h (i+1) a' (by simpa using ha);exact .inr ⟨d,r,q,by rw[WA,tl,e,Q0v]⟩
section
variable{gs:XW}{ls:Ra}{ss:XW}{ix_:Nat}(g:Gd gs ls ss ix_)(iE:ls.length<=14){cl:XW}(vH:cl.length=gs.length)(hc:∀k,k<gs.length->((cl.getD k []).length:Int)=ak (sd gs k)/\∀v∈cl.getD k [],Rt v)
def EG(ls:Ra)(ss:XW)(k:Nat)(os:List (Option<|List Int)):Prop:=os.length=k/\∀j,j<k->gN ls j->∃c,os[j]?=some (some c)/\Ms ss (bS os) (aQ ls j) (sd ss j) c
include g
theorem EG.more{k:Nat}{os:List (Option<|List Int)}(h:EG ls ss k os)(hk:k<ls.length){o:Option (List Int)}(ho:gN ls k->∃c,o=some c/\Ms ss (bS os) (aQ ls k) (sd ss k) c):EG ls ss (k+1) (os++[o]):=by refine⟨by simp[h.1],λj hj hr=>?_⟩;have mo:∀c,j<=k->Ms ss (bS os) (aQ ls j) (sd ss j) c->Ms ss (bS<|os++[o]) (aQ ls j) (sd ss j) c:=λc hj f=>⟨f.len,f.rt,λx hx=>(f.eq x hx).mono λa ha=>A5 (by have:=gJ g (show j<ls.length by lia) ha;have:=h.1;lia)⟩;by_cases z:j=k;subst z;obtain⟨c,rfl,f⟩:=ho hr;exact⟨c,by simp[<-h.1],mo c Zl f⟩;obtain⟨c,e,f⟩:=h.2 j Zl hr;exact⟨c,by rw[B5 (by have:=h.1;lia)];exact e,mo c Zl f⟩
theorem EG.lk{k:Nat}{os:List (Option<|List Int)}(h:EG ls ss k os)(hk:k<ls.length)(hr:gN ls k){b:Nat}(hb:b∈(aQ ls k).ns):Lk ss (bS os) b/\D.tup [T<|sd ss b,fD<|os.getD b none]=pr ss (bS os) b:=by
 have hl:=gJ g hk hb;obtain⟨c,e,f⟩:=h.2 b hl<|.step hr (gX hk) hb;have e2:os.getD b none=some c:=by rw[zT,e];rfl
 have e3:bS os b=c:=by unfold bS;rw[e2];rfl
 exact⟨⟨gh g Zl,by rw[e3];exact f.len,by rw[e3];exact f.rt⟩,by rw[e2];unfold pr;rw[e3];rfl⟩
include iE vH hc
theorem Q0j(aZ:SK)(hd:∀i,i∈aZ<->gN ls i)(k:Nat)(hk:k<ls.length)(os:List (Option<|List Int))(hP:EG ls ss k os)(t5 t6 t7 t8:Sl)(f5:free (some t5)=true)(f6:free (some t6)=true)(f7:free (some t7)=true)(f8:free (some t8)=true) : (∃o t7' t8',EG ls ss (k+1) (os++[o])/\free (some t7')=true/\free (some t8')=true/\aB (aj 5) aH (.int (k:Int)) (qe ls ss cl aZ os t5 t6 t7 t8)=.ok .nx (qe ls ss cl aZ (os++[o]) (.sh<|.int k) (.sh (aQ ls k).d) t7' t8'))\/∃r,bD [false,false,false] r=some []/\aB (aj 5) aH (.int (k:Int)) (qe ls ss cl aZ os t5 t6 t7 t8)=.ok (.rt .aK) r:=by
 have e:aj 5 (.int (k:Int)) (qe ls ss cl aZ os t5 t6 t7 t8)=.ok () (qe ls ss cl aZ os (.sh<|.int k) t6 t7 t8):=by unfold qe;simp[f5]
 rw[aB,e,ag];have i1:=oQ ls k hk;have ow:=Q1N g iE (cl:=cl) aZ os k hk hP.1 (.sh<|.int k) t7 t8;have Q9:=vO false k aZ;have il:isLst (some<|Fd os)=true:=rfl;have ol:os.length<=100:=by have:=hP.1;lia
 have hT:=kX g hk;have si:=gh g hk;have i2:=a7 ss k (by have:=g.len;lia);have ce:=jI (sd ss k) si.pre;have kd:=(aQ ls k).kind;by_cases hw:gN ls k
 ·have Q9:inD false (.int (k:Int)) (a9 aZ)=some (.bl true):=by rw[Q9,Zj (by decide),Ud<|(hd k).mpr hw]
  have lk:=λb hb=>(hP.lk g hk hw (b:=b) hb).1;have oe:((aQ ls k).ns.map λa=>D.tup [T<|sd ss a,fD<|os.getD a none])=(aQ ls k).ns.map (pr ss<|bS os):=List.map_congr_left λb hb=>(hP.lk g hk hw hb).2;rw[oe] at ow;have done:∀c,Ms ss (bS os) (aQ ls k) (sd ss k) c->EG ls ss (k+1) (os++[some c]):=λc f=>hP.more g hk λ_=>⟨c,rfl,f⟩;by_cases k0:(aQ ls k).k=0\/(aQ ls k).k=1\/(aQ ls k).k=7
  ·generalize hl:aQ ls k=l at *;unfold qe at ow ⊢;cases l with
  |given j=>
   obtain⟨kk,rfl,hkk,ht⟩:=hT;have f:=hc kk hkk;rw[<-ht] at f;have ic:ah (iH cl) (.int (kk:Int))=some (Z<|cl.getD kk []):=by show (yh (cl.map Z).length (kk:Int)).bind _=_;rw[yh,Ue Zl,Ue (by simp;lia)];simp[show kk<cl.length by lia]
   have lo:=rR<|cl.getD kk [];have ap:dJ (Z<|cl.getD kk []) (Fd os)=_:=AA os (some<|cl.getD kk []) ol;refine .inl ⟨some<|cl.getD kk [],.sh<|.lst [],.sh<|Z<|cl.getD kk [],done _ ⟨f.1,f.2,λx hx=>trivial⟩,rfl,rfl,?_⟩;have ow:az 1 (cj<|aw mJ [.val<|aa 6]) (aj 9) (VP.ret true) bK [.sh<|Pg ls,.sh<|aG ss,.sh<|iH cl,.sh<|a9 aZ,.ow<|Fd os,.sh<|.int k,.sh<|.tup [.str<|nm 0,.int kk],t7,t8]=.ok (.lst []) [.sh<|Pg ls,.sh<|aG ss,.sh<|iH cl,.sh<|a9 aZ,.ow<|Fd os,.sh<|.int k,.sh<|.tup [.str<|nm 0,.int kk],t7,t8]:=ow;have i1:ah (Pg ls) (.int (k:Int))=some (.tup [.str<|nm 0,.int kk]):=i1;show aH _=.ok .nx [.sh<|Pg ls,.sh<|aG ss,.sh<|iH cl,.sh<|a9 aZ,.ow<|Fd<|os++[some<|cl.getD kk []],.sh<|.int k,.sh<|.tup [.str<|nm 0,.int kk],.sh<|.lst [],.sh<|Z<|cl.getD kk []];generalize Z (cl.getD kk [])=zc at *;unfold aH;exact ao
  |gy s y=>
   obtain⟨ht,hy⟩:=hT;have p0:=si.uK;have Y4:=si.2.2;obtain⟨n,hn⟩:∃n:Nat,ak (sd ss k)=n:=⟨(ak<|sd ss k).toNat,Zl⟩;rw[hn] at ce;have mu:mulL (.lst [.int y]) (.int (n:Int))=some (Z<|List.replicate n y):=by show (if -(fU:Int)<=(n:Int)/\(n:Int)<=fU/\1*(n:Int).toNat<=fU then some (D.lst (List.replicate (n:Int).toNat [D.int y]).flatten) else none)=_;rw[Ue (by simp[fU];lia),N9];simp[Z]
   have ap:dJ (Z<|List.replicate n y) (Fd os)=_:=AA os (some<|List.replicate n y) ol;refine .inl ⟨some<|List.replicate n y,.sh<|.lst [],.sh<|Z<|List.replicate n y,done _ ⟨by simp[hn],λv hv=>by rw[(List.mem_replicate.mp hv).2];exact hy,λx hx=>?_⟩,rfl,rfl,?_⟩
   ·have pl:=hx.place λy hy=>(si.2.1 y hy).1;show List.getD _ _ 0=y;rw[gD _ _ (by simp;lia),List.getElem_replicate]
   ·have ow:az 1 (cj<|aw mJ [.val<|aa 6]) (aj 9) (VP.ret true) bK [.sh<|Pg ls,.sh<|aG ss,.sh<|iH cl,.sh<|a9 aZ,.ow<|Fd os,.sh<|.int k,.sh<|.tup [.str<|nm 1,T s,.int y],t7,t8]=.ok (.lst []) [.sh<|Pg ls,.sh<|aG ss,.sh<|iH cl,.sh<|a9 aZ,.ow<|Fd os,.sh<|.int k,.sh<|.tup [.str<|nm 1,T s,.int y],t7,t8]:=ow;have i1:ah (Pg ls) (.int (k:Int))=some (.tup [.str<|nm 1,T s,.int y]):=i1;show aH _=.ok .nx [.sh<|Pg ls,.sh<|aG ss,.sh<|iH cl,.sh<|a9 aZ,.ow<|Fd<|os++[some<|List.replicate n y],.sh<|.int k,.sh<|.tup [.str<|nm 1,T s,.int y],.sh<|.lst [],.sh<|Z<|List.replicate n y];generalize Z (List.replicate n y)=zc at *;unfold aH;exact ao
  |shape a u=>obtain⟨h1,h3⟩:=hT;have la:=lk a (by simp[PL.ns]);have lo:=rR<|bS os a;have p2:=Vh (ss:=ss) (cs:=bS os) a;have ap:dJ (Z<|bS os a) (Fd os)=_:=AA os (some<|bS os a) ol;refine .inl ⟨some<|bS os a,.sh<|.lst [pr ss (bS os) a],.sh<|Z<|bS os a,done _ ⟨by rw[la.2.1,h1,h3],la.2.2,λx hx=>rfl⟩,rfl,rfl,?_⟩;have ow:az 1 (cj<|aw mJ [.val<|aa 6]) (aj 9) (VP.ret true) bK [.sh<|Pg ls,.sh<|aG ss,.sh<|iH cl,.sh<|a9 aZ,.ow<|Fd os,.sh<|.int k,.sh<|.tup [.str<|nm 7,.int a,T u],t7,t8]=.ok (.lst [pr ss (bS os) a]) [.sh<|Pg ls,.sh<|aG ss,.sh<|iH cl,.sh<|a9 aZ,.ow<|Fd os,.sh<|.int k,.sh<|.tup [.str<|nm 7,.int a,T u],t7,t8]:=ow;have i1:ah (Pg ls) (.int (k:Int))=some (.tup [.str<|nm 7,.int a,T u]):=i1;show aH _=.ok .nx [.sh<|Pg ls,.sh<|aG ss,.sh<|iH cl,.sh<|a9 aZ,.ow<|Fd<|os++[some<|bS os a],.sh<|.int k,.sh<|.tup [.str<|nm 7,.int a,T u],.sh<|.lst [pr ss (bS os) a],.sh<|Z<|bS os a];generalize pr ss (bS os) a=pa at *;generalize Z (bS os a)=zc at *;unfold aH;exact ao|_=>simp[PL.k] at k0
  ·have WE:(aQ ls k).k≠0/\(aQ ls k).k≠1/\(aQ ls k).k≠7:=Zl;obtain⟨ds,m1,m2,m3⟩:=Q0G g iE (cl:=cl) aZ os k hk lk WE<|.sh .aK;obtain⟨b,n1,n2⟩:=NK m2;have T7:=(aQ ls k).NQ;have ne:∀j,j<32->(aQ ls k).k≠j->fI (.str<|nm (aQ ls k).k) (.str<|nm j)=some (.bl false):=λj hj h=>by rw[Bm _ _ Zl hj,T1 h]
   have e0:=ne 0 Zl WE.1;have e1:=ne 1 Zl WE.2.1;have e7:=ne 7 Zl WE.2.2;cases b with|true=>refine .inr ⟨qe ls ss cl aZ os (.sh<|.int k) (.sh (aQ ls k).d) (.sh<|.lst<|(aQ ls k).ns.map<|pr ss<|bS os)<|.sh<|.lst ds,rfl,?_⟩;unfold qe at *;generalize D.lst ((aQ ls k).ns.map<|pr ss<|bS os)=od at *;generalize (aQ ls k).d=ld at *;generalize D.lst ds=zd at *;unfold aH;exact ao|false=>obtain⟨c,rfl⟩:=n2 rfl;have ap:dJ (.lst<|c.map .int) (Fd os)=_:=AA os (some c) ol;refine .inl ⟨some c,.sh<|.lst<|(aQ ls k).ns.map<|pr ss<|bS os,.sh<|.lst<|c.map .int,done _<|m3 c rfl,rfl,rfl,?_⟩;unfold qe at *;generalize D.lst ((aQ ls k).ns.map<|pr ss<|bS os)=od at *;generalize (aQ ls k).d=ld at *;generalize D.lst (c.map .int)=zd at *;unfold aH;exact ao
 ·have Q9:inD false (.int (k:Int)) (a9 aZ)=some (.bl false):=by rw[Q9,Zj (by decide),T1 λz=>hw<|(hd k).mp z]
  have ap:dJ .aK (Fd os)=_:=AA os none ol;refine .inl ⟨none,.sh (.lst<|(aQ ls k).ns.map λa=>.tup [T<|sd ss a,fD<|os.getD a none]),.sh .aK,hP.more g hk λz=>absurd z hw,rfl,rfl,?_⟩;unfold qe at *;generalize D.lst ((aQ ls k).ns.map λa=>.tup [T<|sd ss a,fD<|os.getD a none])=od at *;generalize (aQ ls k).d=ld at *;unfold aH;exact ao
theorem plain_at:∃R,ua [Pg ls,aG ss,iH cl]=.ok R []/\(R=.aK\/∃os,R=Fd os/\os.length=ls.length/\Cs ls ss (bS os)/\∀j,gN ls j->os[j]?=some (some<|bS os j)):=by
 obtain⟨aZ,hw,_,hd⟩:=Q1Z ls g.wf g.ne Zl;have er:=gr ls.length Zl;have ln:=gb ls;have L:=zB (g:=aj 5) (body:=aH) (λ(k:Nat)=>D.int k) (λ(os:List (Option<|List Int))(t:Sl×Sl×Sl×Sl)=>qe ls ss cl aZ os t.1 t.2.1 t.2.2.1 t.2.2.2) B7 (λd r=>d=.aK/\bD [false,false,false] r=some []) (List.range ls.length) (EG ls ss) [] (.no,.no,.no,.no) ⟨rfl,rfl,rfl,rfl⟩ ⟨rfl,λj hj=>absurd hj Zl⟩ (by
  intro i k hk os t ht hP;obtain⟨rfl,hk⟩:=aW hk;obtain⟨f5,f6,f7,f8⟩:=ht;rcases Q0j g iE vH hc aZ hd k hk os hP t.1 t.2.1 t.2.2.1 t.2.2.2 f5 f6 f7 f8 with ⟨o,t7,t8,p,g7,g8,e⟩|⟨r,i,e⟩
  exact .inl ⟨os++[o],(.sh<|.int k,.sh (aQ ls k).d,t7,t8),p,⟨rfl,rfl,g7,g8⟩,e⟩;exact .inr ⟨_,r,⟨rfl,i⟩,e⟩)
 have z0:Fd []=.lst []:=rfl;rcases L with ⟨os,t,hP,ht,L⟩|⟨d,r,⟨rfl,hi⟩,L⟩
 rw[Us] at hP;refine⟨Fd os,?_,.inr ⟨os,rfl,hP.1,?_,?_⟩⟩;unfold qe at L;rw[z0] at L;dsimp only at L;unfold ua AJ;exact rn;have at_:∀a,gN ls a->Ms ss (bS os) (aQ ls a) (sd ss a) (bS os a):=λa ha=>by
  obtain⟨c,e,f⟩:=hP.2 a (ha.lt g.wf g.ne) ha;have:bS os a=c:=by unfold bS;rw[zT,e];rfl
  rw[this];exact f
 exact⟨λa ha=>(at_ a ha).len,λa ha=>(at_ a ha).rt,λa ha x hx=>(at_ a ha).eq x hx⟩;intro j hj;obtain⟨c,e,f⟩:=hP.2 j (hj.lt g.wf g.ne) hj;have:bS os j=c:=by unfold bS;rw[zT,e];rfl
 rw[this];exact e;refine⟨.aK,?_,.inl rfl⟩;unfold qe at L;rw[z0] at L;dsimp only at L;unfold ua AJ;exact rn (hi:=hi)
end
theorem Tr.jL:∀t:Tr,t.rs.length<=3 ^ t.dep|.gy _=>by simp[Tr.rs]|.read _ _ _=>by simp[Tr.rs,Tr.dep]|.one _ t=>by have:=t.jL;simp only[Tr.rs,Tr.dep,Nat.pow_succ];lia|.within _ _ t _=>by have:=t.jL;simp only[Tr.rs,Tr.dep,Nat.pow_succ];lia|.both _ l r=>by have h1:=l.jL;have h2:=r.jL;have k1:=Za (n:=3) Zl<|za l.dep r.dep;have k2:=Za (n:=3) Zl<|Py l.dep r.dep;simp only[Tr.rs,Tr.dep,Nat.pow_succ,List.length_append];lia|.joined _ _ l r=>by have h1:=l.jL;have h2:=r.jL;have k1:=Za (n:=3) Zl<|za l.dep r.dep;have k2:=Za (n:=3) Zl<|Py l.dep r.dep;simp only[Tr.rs,Tr.dep,Nat.pow_succ,List.length_append];lia|.bx a l r=>by have h0:=a.jL;have h1:=l.jL;have h2:=r.jL;have k0:=Za (n:=3) Zl<|za a.dep<|max l.dep r.dep;have k1:=Za (n:=3) Zl<|YQ (za l.dep r.dep)<|Py a.dep<|max l.dep r.dep;have k2:=Za (n:=3) Zl<|YQ (Py l.dep r.dep)<|Py a.dep<|max l.dep r.dep;simp only[Tr.rs,Tr.dep,Nat.pow_succ,List.length_append];lia
theorem EL(xs ys:SK)(h:xs.length+ys.length<=16777216):aU (a9 xs) (a9 ys)=some (a9<|xs++ys):=by unfold a9;rw[nN _ _ (by simpa[fU] using h),R4]
theorem oY{n:Nat}(h:n<=14):3 ^ n<=4782969:=Za (n:=3) Zl h
theorem GJ:∀(t:Tr)(n:Nat),t.dep<=n->t.dep<=14->vj n 0 [t.d]=.ok (a9 t.rs) []:=by intro t;induction t with|gy x=>intro n hn _;obtain⟨n,rfl⟩:∃k,n=k+1:=⟨n-1,by simp only[Tr.dep] at hn;lia⟩;kernel_rfl!|read a x ys=>intro n hn _;obtain⟨n,rfl⟩:∃k,n=k+1:=⟨n-1,by simp only[Tr.dep] at hn;lia⟩;kernel_rfl!|one d t ih=>intro n hn iE;simp only[Tr.dep] at hn iE;obtain⟨n,rfl⟩:∃k,n=k+1:=⟨n-1,Zl⟩;have e:=ih n Zl Zl;have i1:aL bE (Tr.one d t).d=some (.bl false):=YN;have i2:aL bg (Tr.one d t).d=some (.bl true):=YN;have f1:aJ gB "inner" (Tr.one d t).d=some t.d:=YN;show defn 1 [false] (iM<|vj n) _=.ok (a9 t.rs) _;generalize (Tr.one d t).d=x at *;generalize t.d=td at *;generalize vj n=wf at *;unfold iM;exact rn|within p z t y ih=>intro n hn iE;simp only[Tr.dep] at hn iE;obtain⟨n,rfl⟩:∃k,n=k+1:=⟨n-1,Zl⟩;have e:=ih n Zl Zl;have i1:aL bE (Tr.within p z t y).d=some (.bl false):=YN;have i2:aL bg (Tr.within p z t y).d=some (.bl true):=YN;have f1:aJ gB "inner" (Tr.within p z t y).d=some t.d:=YN;show defn 1 [false] (iM<|vj n) _=.ok (a9 t.rs) _;generalize (Tr.within p z t y).d=x at *;generalize t.d=td at *;generalize vj n=wf at *;unfold iM;exact rn|both d l r TS Fy=>intro n hn iE;simp only[Tr.dep] at hn iE;obtain⟨n,rfl⟩:∃k,n=k+1:=⟨n-1,Zl⟩;have e1:=TS n Zl Zl;have e2:=Fy n Zl Zl;have i1:aL bE (Tr.both d l r).d=some (.bl false):=YN;have i2:aL bg (Tr.both d l r).d=some (.bl false):=YN;have i3:aL fN (Tr.both d l r).d=some (.bl true):=YN;have f1:aJ gR "left" (Tr.both d l r).d=some l.d:=YN;have f2:aJ fJ "right" (Tr.both d l r).d=some r.d:=YN;have k1:=l.jL;have k2:=r.jL;have p1:=oY (n:=l.dep) Zl;have p2:=oY (n:=r.dep) Zl;have ad:=EL l.rs r.rs Zl;show defn 1 [false] (iM<|vj n) _=.ok (a9<|l.rs++r.rs) _;generalize (Tr.both d l r).d=x at *;generalize l.d=ld at *;generalize r.d=rd at *;generalize vj n=wf at *;unfold iM;exact rn|bx a l r ih0 TS Fy=>intro n hn iE;simp only[Tr.dep] at hn iE;obtain⟨n,rfl⟩:∃k,n=k+1:=⟨n-1,Zl⟩;have e0:=ih0 n Zl Zl;have e1:=TS n Zl Zl;have e2:=Fy n Zl Zl;have i1:aL bE (Tr.bx a l r).d=some (.bl false):=YN;have i2:aL bg (Tr.bx a l r).d=some (.bl false):=YN;have i3:aL fN (Tr.bx a l r).d=some (.bl false):=YN;have i4:aL jl (Tr.bx a l r).d=some (.bl true):=YN;have f0:aJ ki "asked" (Tr.bx a l r).d=some a.d:=YN;have f1:aJ gR "left" (Tr.bx a l r).d=some l.d:=YN;have f2:aJ fJ "right" (Tr.bx a l r).d=some r.d:=YN;have k0:=a.jL;have k1:=l.jL;have k2:=r.jL;have p0:=oY (n:=a.dep) Zl;have p1:=oY (n:=l.dep) Zl;have p2:=oY (n:=r.dep) Zl;have ad:=EL a.rs l.rs Zl;have ad2:=EL (a.rs++l.rs) r.rs (by simp;lia);show defn 1 [false] (iM<|vj n) _=.ok (a9<|a.rs++l.rs++r.rs) _;generalize (Tr.bx a l r).d=x at *;generalize a.d=ad at *;generalize l.d=ld at *;generalize r.d=rd at *;generalize vj n=wf at *;unfold iM;exact rn|joined p z l r TS Fy=>intro n hn iE;simp only[Tr.dep] at hn iE;obtain⟨n,rfl⟩:∃k,n=k+1:=⟨n-1,Zl⟩;have e1:=TS n Zl Zl;have e2:=Fy n Zl Zl;have i1:aL bE (Tr.joined p z l r).d=some (.bl false):=YN;have i2:aL bg (Tr.joined p z l r).d=some (.bl false):=YN;have i3:aL fN (Tr.joined p z l r).d=some (.bl false):=YN;have i4:aL jl (Tr.joined p z l r).d=some (.bl false):=YN;have i5:aL cJ (Tr.joined p z l r).d=some (.bl true):=YN;have f1:aJ kh "ahead" (Tr.joined p z l r).d=some l.d:=YN;have f2:aJ jh "behind" (Tr.joined p z l r).d=some r.d:=YN;have k1:=l.jL;have k2:=r.jL;have p1:=oY (n:=l.dep) Zl;have p2:=oY (n:=r.dep) Zl;have ad:=EL l.rs r.rs Zl;show defn 1 [false] (iM<|vj n) _=.ok (a9<|l.rs++r.rs) _;generalize (Tr.joined p z l r).d=x at *;generalize l.d=ld at *;generalize r.d=rd at *;generalize vj n=wf at *;unfold iM;exact rn
theorem Q2C(x y z:D):M6 [.ins "Load" [] [],x,y,z]=.ok .aK [.ins "Load" ["line","sides","table"] [x,y,z]]:=YN
theorem Nx(x y z:D):M3 [.ins "Fill" [] [],x,y,z]=.ok .aK [.ins "Fill" ["line","sides","tree"] [x,y,z]]:=YN
theorem Ny(x y a b c z:D):M4 [.ins "Fold" [] [],x,y,a,b,c,z]=.ok .aK [.ins "Fold" ["line","sides","side","size","deed","tree"] [x,y,a,b,c,z]]:=YN
theorem zq(x y a b z:D):Bs [.ins "Through" [] [],x,y,a,b,z]=.ok .aK [.ins "Through" ["line","sides","side","deed","tree"] [x,y,a,b,z]]:=YN
theorem NA(x y a b c z:D):M8 [.ins "Pick" [] [],x,y,a,b,c,z]=.ok .aK [.ins "Pick" ["line","sides","side","source","places","source_sides"] [x,y,a,b,c,z]]:=YN
theorem zM(x:D)(t:Tr)(h1:aL oO x=some (.bl false))(h2:aL oP x=some (.bl false))(h3:aJ gS "tree" x=some t.d)(hd:t.dep<=14):qu [x]=.ok (a9 t.rs) []:=by have e:Kh [t.d]=.ok (a9 t.rs) []:=GJ t 64 Zl hd;generalize t.d=td at *;unfold qu Iv;exact rn
structure nM(ls:Ra)(ss:XW)(kp:Wz)(os:List (Option<|List Int))(a:Nat)(x:D):Prop where
 line:aJ d8 "line" x=some (.int a)
 Ve:aJ gE "sides" x=some (T<|sd ss a)
 own:∃rs,qu [x]=.ok (a9 rs) []/\∀r,r∈rs<->As ls kp a r
 YI:∀rows c,(∀r,As ls kp a r->rows[r]?=some (Z<|bS os r))->∃c',nZ [x,Pg ls,aG ss,Fd os,Bk rows c]=.ok (.bl true) [Bk rows c']
section
variable{gs:XW}{ls:Ra}{ss:XW}{ix_:Nat}(g:Gd gs ls ss ix_){kp:Wz}(K:Kp ls kp)(iE:ls.length<=14){os:List (Option<|List Int)}(C:Cs ls ss (bS os))(ho:∀j,gN ls j->os[j]?=some (some<|bS os j))
include g iE C ho
theorem zA{b:Nat}(hb:gN ls b)(t:Tr)(hd:t.dep<=14)(hv:∀x,Ix (sd ss b) x->t.ok (bS os) x/\t.val (bS os) x=cv ss (bS os) b x)(x:D)(h3:aJ gS "tree" x=some t.d)(rows:Zm)(hr:∀r∈t.rs,rows[r]?=some (Z<|bS os r))(c:Int)(s6:Sl)(f6:free (some s6)=true) : ∃(n:Nat)(c':Int)(t':Sl),qa [.int<|ak<|sd ss b]=some ((List.range n).map λ(k:Nat)=>D.int k)/\loop (aj 6) eh ((List.range n).map λ(k:Nat)=>D.int k) [.sh x,.sh<|Pg ls,.sh<|aG ss,.sh<|Fd os,.io<|Bk rows c,.sh<|.int b,s6]=.ok .nx [.sh x,.sh<|Pg ls,.sh<|aG ss,.sh<|Fd os,.io<|Bk rows c',.sh<|.int b,t']:=by
 have X6:=hb.lt g.wf g.ne;have si:=gh g X6;have p0:=si.uK;have Y4:=si.2.2;have s0:∀y∈sd ss b,0<=y:=λy hy=>(si.2.1 y hy).1;obtain⟨n,hn⟩:∃n:Nat,ak (sd ss b)=n:=⟨(ak<|sd ss b).toNat,Zl⟩;have i1:=a7 ss b (by have:=g.len;lia);have Kw:=ho b hb;have i2:ah (Fd os) (.int (b:Int))=some (Z<|bS os b):=by rw[Rc os b (List.getElem?_eq_some_iff.mp Kw).1,zT,Kw];rfl
 obtain⟨c',t',_,_,L⟩:=aO (g:=aj 6) (body:=eh) (λ(k:Nat)=>D.int k) (λ(c:Int)(t:Sl)=>[.sh x,.sh<|Pg ls,.sh<|aG ss,.sh<|Fd os,.io<|Bk rows c,.sh<|.int b,t]) ko (List.range n) (λ_ _=>True) c s6 f6 trivial (by
  intro i p hp c t6 ht _;obtain⟨rfl,hp⟩:=aW hp;have hf:free (some t6)=true:=ht;have lx:=ny (sd ss b) (p:Int) s0 Zl;have q:=hv _ lx.1;have lx1:=lx.1.1;have sx:Sx (gW (sd ss b) p):=⟨by have:=si.1;lia,λy hy=>by
   obtain⟨k,hk,rfl⟩:=List.getElem_of_mem hy;have:=lx.1.2 k Zl;rw[gD _ _ hk] at this;have:=si.get k
   lia⟩
  obtain⟨c1,w⟩:=Eh (rows:=rows) sx t 64 Zl c hr q.1;have w:Kg [t.d,T<|gW (sd ss b) p,Bk rows c]=.ok (.int<|t.val (bS os)<|gW (sd ss b) p) [Bk rows c1]:=w;have ev:t.val (bS os) (gW (sd ss b) p)=(bS os b).getD p 0:=by rw[q.2];unfold cv;rw[lx.2,Int.emod_eq_of_lt Zl Zl,N9]
  rw[ev] at w;have hl:=C.len b hb;have li:=oR (sd ss b) si Zl (p:Int);have i3:ah (Z<|bS os b) (.int (p:Int))=some (.int<|(bS os b).getD p 0):=by have:=bM (bS os b) p Zl Zl;rwa [N9] at this
  have ne:gI (.int<|(bS os b).getD p 0) (.int<|(bS os b).getD p 0)=some (.bl false):=by rw[bz,Ud rfl];rfl
  have e:aj 6 (.int (p:Int)) [.sh x,.sh<|Pg ls,.sh<|aG ss,.sh<|Fd os,.io<|Bk rows c,.sh<|.int b,t6]=.ok () [.sh x,.sh<|Pg ls,.sh<|aG ss,.sh<|Fd os,.io<|Bk rows c,.sh<|.int b,.sh<|.int p]:=by simp[hf]
  refine⟨c1,.sh<|.int p,trivial,rfl,?_⟩;generalize (bS os b).getD p 0=v at *;generalize t.d=td at *;rw[aB,e,ag,show eh _=.ok .nx _ by unfold eh;exact ao];rfl)
 exact⟨n,c',t',hn ▸ gr n Zl,L⟩
theorem lN{a b:Nat}{x:D}(iW:a<ls.length)(hb:gN ls b)(t:Tr)(h0:aJ d8 "line" x=some (.int a))(hs:aJ gE "sides" x=some (T<|sd ss a))(h1:aL oO x=some (.bl false))(h2:aL oP x=some (.bl false))(h3:aJ gS "tree" x=some t.d)(hd:t.dep<=14)(hr:∀r,r∈t.rs<->As ls kp a r)(hv:∀x,Ix (sd ss b) x->t.ok (bS os) x/\t.val (bS os) x=cv ss (bS os) b x)(hk:(aL oN x=some (.bl false)/\aL iZ x=some (.bl false)/\aL oM x=some (.bl true)/\a=b)\/(∃f:Bool,aL oN x=some (.bl f)/\aL iZ x=some (.bl<|!f)/\aL oM x=some (.bl false)/\ah (aQ ls a).d (.int 2)=some (.int b)/\b≠a)):nM ls ss kp os a x:=by
 refine⟨h0,hs,⟨_,zM x t h1 h2 h3 hd,hr⟩,λrows c hR=>?_⟩;have X6:=hb.lt g.wf g.ne;have si:=gh g X6;have i1:=a7 ss b (by have:=g.len;lia);have i2:=oQ ls a iW;have ce:=jI (sd ss b) si.pre;obtain⟨n,c',t',er,L⟩:=zA g iE C ho hb t hd hv x h3 rows (λr hr'=>hR r<|(hr r).mp hr') c .no rfl;refine⟨c',?_⟩;generalize t.d=td at *;generalize ak (sd ss b)=pb at *;rcases hk with ⟨k1,k2,k3,rfl⟩|⟨f,k1,k2,k3,k4,k5⟩
 unfold nZ xo;exact rn;have ne:gI (.int (b:Int)) (.int (a:Int))=some (.bl true):=by rw[bz,T1 Zl];rfl
 generalize (aQ ls a).d=ld at *;cases f;unfold nZ xo;exact rn;unfold nZ xo;exact rn
include K
theorem vW(a:Nat)(ha:kp[a]?=some true):∃x,kg [Pg ls,aG ss,gM kp,.int a]=.ok x []/\nM ls ss kp os a x:=by
 have hr:=K.want a ha;have iW:=hr.lt g.wf g.ne;have hT:=kX g iW;have hi:=oQ ls a iW;have hs:=a7 ss a (by have:=g.len;lia);have sl:=(gh g iW).1;have KG:∀b∈eK ls a,b<ls.length/\gN ls b/\ah (aG ss) (.int (b:Int))=some (T<|sd ss b):=λb hb=>by have:=gJ g iW hb;exact⟨Zl,.step hr (gX iW) hb,a7 ss b (by have:=g.len;lia)⟩
 have Ri:∀b∈eK ls a,∃(w:Wy)(t:Tr),xU [.int ((sd ss b).length:Nat)]=.ok (WD w) []/\Bv [Wv ls ss kp (sd ss b).length,.int b,WD w]=.ok t.d []/\t.dep<=14/\(∀r,r∈t.rs<->qf ls kp b r)/\∀x,Ix (sd ss b) x->t.ok (bS os) x/\t.val (bS os) x=cv ss (bS os) b x:=λb hb=>by obtain⟨h1,h2,_⟩:=KG b hb;have h4:=(gh g h1).1;obtain⟨w,e1,hw,wx⟩:=uY (sd ss b).length Zl;obtain⟨t,e,d1,d2,d3⟩:=uC g K C b h1 h2 64 Zl (sd ss b).length w hw Zl;exact⟨w,t,e1,e,Zl,d2,λx hx=>by have:=d3 x hx.1;rw[wx x hx.1] at this;exact this hx⟩
 by_cases hk:kd ls a∈[0,12,13,14];unfold kd at hk;unfold eK at KG Ri;obtain⟨l,hl⟩:∃l,aQ ls a=l:=⟨_,rfl⟩;have WS:∀r,As ls kp a r<->∃b∈l.ns,qf ls kp b r:=λr=>by unfold As eK;rw[hl]
 have Q4:=K.k2 a hr;unfold kd eK at Q4;rw[hl] at hk hT hi KG Ri Q4;cases l with
 |given j=>have hi:ah (Pg ls) (.int (a:Int))=some (.tup [.str<|nm 0,.int j]):=hi;have i1:=Q2C (.int a) (T<|sd ss a)<|.int j;refine⟨.ins "Load" ["line","sides","table"] [.int a,T<|sd ss a,.int j],?_,YN,YN,⟨[],YN,λr=>by rw[WS];simp[PL.ns]⟩,λrows c _=>⟨c,YN⟩⟩;unfold kg qj;exact rn|fold d b k=>obtain⟨j,rfl,hj,_⟩:=hT;obtain⟨h1,h2,h3⟩:=KG b (by simp[PL.ns]);obtain⟨w,t,e1,e2,d1,d2,d3⟩:=Ri b (by simp[PL.ns]);have hi:ah (Pg ls) (.int (a:Int))=some (.tup [.str<|nm 12,.str<|nm d,.int b,.int j]):=hi;have i2:=fL (sd ss b) j hj;generalize (sd ss b).getD j 0=z at *;have i1:=Ny (.int a) (T<|sd ss a) (.int j) (.int z) (.str<|nm d) t.d;have wi:=QM ls ss kp (sd ss b).length;have w3:=Ei ls ss kp (sd ss b).length;refine⟨_,?_,lN g iE C ho iW h2 t (x:=.ins "Fold" ["line","sides","side","size","deed","tree"] [.int a,T<|sd ss a,.int j,.int z,.str<|nm d,t.d]) YN YN YN YN YN d1 (λr=>by rw[WS,d2];simp[PL.ns]) d3<|.inr ⟨true,YN,YN,YN,by rw[hl];rfl,by have:=gJ g iW (b:=b) (by unfold eK;rw[hl];simp[PL.ns]);lia⟩⟩;generalize Wv ls ss kp (sd ss b).length=W at *;generalize t.d=td at *;unfold kg qj;exact rn|run d b k=>obtain⟨j,rfl,hj,_,hS⟩:=hT;obtain⟨h1,h2,h3⟩:=KG b (by simp[PL.ns]);obtain⟨w,t,e1,e2,d1,d2,d3⟩:=Ri b (by simp[PL.ns]);rw[<-hS] at e1 e2;have hi:ah (Pg ls) (.int (a:Int))=some (.tup [.str<|nm 13,.str<|nm d,.int b,.int j]):=hi;have i1:=zq (.int a) (T<|sd ss a) (.int j) (.str<|nm d) t.d;have wi:=QM ls ss kp (sd ss a).length;have w3:=Ei ls ss kp (sd ss a).length;refine⟨_,?_,lN g iE C ho iW h2 t (x:=.ins "Through" ["line","sides","side","deed","tree"] [.int a,T<|sd ss a,.int j,.str<|nm d,t.d]) YN YN YN YN YN d1 (λr=>by rw[WS,d2];simp[PL.ns]) d3<|.inr ⟨false,YN,YN,YN,by rw[hl];rfl,by have:=gJ g iW (b:=b) (by unfold eK;rw[hl];simp[PL.ns]);lia⟩⟩;generalize Wv ls ss kp (sd ss a).length=W at *;generalize t.d=td at *;unfold kg qj;exact rn|pick b k c=>
  have kb:=Q4 (by simp[PL.k]) b (by simp[PL.ns]);have kc:=Q4 (by simp[PL.k]) c (by simp[PL.ns]);obtain⟨h1,h2,h3⟩:=KG b (by simp[PL.ns]);have hi:ah (Pg ls) (.int (a:Int))=some (.tup [.str<|nm 14,.int b,.int k,.int c]):=hi;have i1:=NA (.int a) (T<|sd ss a) (.int k) (.int b) (.int c)<|T<|sd ss b;have rr:∀r,As ls kp a r<->r∈[b,c]:=λr=>by rw[WS];simp[PL.ns,qf.kept kb,qf.kept kc]
  refine⟨.ins "Pick" ["line","sides","side","source","places","source_sides"] [.int a,T<|sd ss a,.int k,.int b,.int c,T<|sd ss b],?_,YN,YN,⟨[b,c],YN,λr=>(rr r).symm⟩,λrows c' _=>⟨c',YN⟩⟩;unfold kg qj;exact rn
 |_=>simp[PL.k] at hk
 have w0:=QM ls ss kp (sd ss a).length;obtain⟨w,e1,hw,wx⟩:=uY (sd ss a).length Zl;obtain⟨t,e2,d1,d2,d3⟩:=yr g iW hk (λh=>K.k2 a hr (by rw[h];simp)) (n:=61) (λb hb n' Fo=>uC g K C b (KG b hb).1 (KG b hb).2.1 n' (by have:=gJ g iW hb;lia)) C hr (sd ss a).length w hw Zl;have e2:Bu [Wv ls ss kp (sd ss a).length,.int a,WD w]=.ok t.d []:=e2;have i1:=Nx (.int a) (T<|sd ss a) t.d;have w2:=VQ ls ss kp (sd ss a).length;refine⟨_,?_,lN g iE C ho iW hr t (x:=.ins "Fill" ["line","sides","tree"] [.int a,T<|sd ss a,t.d]) YN YN YN YN YN Zl d2 (λx hx=>by have:=d3 x hx.1;rw[wx x hx.1] at this;exact this hx)<|.inl ⟨YN,YN,YN,rfl⟩⟩;have k1:=(aQ ls a).kind;have T7:=(aQ ls a).NQ;have vL:kd ls a≠0/\kd ls a≠12/\kd ls a≠13/\kd ls a≠14:=by simpa using hk
 unfold kd at vL;have ne:∀j,j<32->(aQ ls a).k≠j->fI (.str<|nm (aQ ls a).k) (.str<|nm j)=some (.bl false):=λj hj h=>by rw[Bm _ _ Zl hj,T1 h]
 have n0:=ne 0 Zl vL.1;have n12:=ne 12 Zl vL.2.1;have n13:=ne 13 Zl vL.2.2.1;have n14:=ne 14 Zl vL.2.2.2;generalize Wv ls ss kp (sd ss a).length=W at *;generalize t.d=td at *;generalize (aQ ls a).d=ld at *;generalize nm (aQ ls a).k=kn at *;unfold kg qj;exact rn
end
def Dc(m:S2):D:=.fZ (m.map λp=>.inl (p.1:Int)) (m.map λp=>.int (p.2:Int))
def gu:S2->Nat->Option Nat|[],_=>none|p::m,k=>if p.1=k then some p.2 else gu m k
def vr(k v:Nat):S2->List (Nat×Nat)|[]=>[(k,v)]|p::m=>if p.1=k then(p.1,v)::m else p::vr k v m
theorem oJ(a b:Nat):((.inl (a:Int):Sum Int Str)=.inl (b:Int))<->a=b:=⟨λh=>by cases h;rfl,λh=>by rw[h]⟩
theorem oB:∀(m:S2)(k v:Nat),gu m k=some v->ze (Dc m) (.int (k:Int))=some (.int (v:Int))|[],_,_,h=>by cases h|p::m,k,v,h=>by have ih:=oB m k v;unfold gu at h;show (if _ then _ else xB _ _ _)=_;by_cases c:p.1=k;rw[Ue c] at h;cases h;rw[Ue<|(oJ _ _).mpr c];rw[Zj c] at h;rw[Zj λz=>c<|(oJ _ _).mp z];exact ih h
theorem tQ:∀(m:S2)(k:Nat),gu m k=none->xB (m.map λp=>.inl (p.1:Int)) (m.map λp=>D.int (p.2:Int)) (.inl (k:Int))=none|[],_,_=>rfl|p::m,k,h=>by unfold gu at h;show (if _ then _ else xB _ _ _)=_;by_cases c:p.1=k;rw[Ue c] at h;cases h;rw[Zj c] at h;rw[Zj λz=>c<|(oJ _ _).mp z];exact tQ m k h
theorem Q2P(m:S2)(k:Nat):(xB (m.map λp=>.inl (p.1:Int)) (m.map λp=>D.int (p.2:Int))<|.inl (k:Int)).isSome=(gu m k).isSome:=by cases h:gu m k with|none=>rw[tQ m k h];rfl|some v=>rw[show xB _ _ _=_ from oB m k v h];rfl
theorem TY(m:S2)(k:Nat):E2 false (.int (k:Int)) (Dc m)=some (.bl (gu m k).isSome):=by rw[<-Q2P];rfl
theorem Bd(k v:Nat):∀m:S2,zf (.inl (k:Int)) (.int (v:Int)) (m.map λp=>.inl (p.1:Int)) (m.map λp=>D.int (p.2:Int))=((vr k v m).map λp=>.inl (p.1:Int),(vr k v m).map λp=>D.int (p.2:Int))|[]=>rfl|p::m=>by have ih:=Bd k v m;rw[WA,WA,zf,ih,vr];by_cases c:p.1=k;rw[Ue<|(oJ _ _).mpr c,Ue c];rfl;rw[Zj λz=>c<|(oJ _ _).mp z,Zj c];rfl
theorem Ds(m:S2)(k v:Nat)(h:m.length<1000):putD (.int (k:Int)) (.int (v:Int)) (Dc m)=some (Dc<|vr k v m):=by show (if _ then _ else _)=_;rw[Ue (by simpa using h),Bd];rfl
theorem rq(k v:Nat):∀(m:S2)(j:Nat),gu (vr k v m) j=if k=j then some v else gu m j|[],j=>by simp[vr,gu]|p::m,j=>by have ih:=rq k v m j;unfold vr;by_cases c:p.1=k;rw[Ue c,gu,gu];dsimp only;rw[c];split<;>rfl;rw[Zj c,gu,ih,gu];by_cases c2:p.1=j;rw[Ue c2,Zj Zl,Ue c2];rw[Zj c2,Zj c2]
theorem m9(k v:Nat):∀m:S2,gu m k=none->vr k v m=m++[(k,v)]|[],_=>rfl|p::m,h=>by unfold gu at h;unfold vr;by_cases c:p.1=k;rw[Ue c] at h;cases h;rw[Zj c] at h;rw[Zj c,m9 k v m h];rfl
theorem rz:∀(m:S2)(k v:Nat),gu m k=some v->(k,v)∈m|[],_,_,h=>by cases h|p::m,k,v,h=>by unfold gu at h;by_cases c:p.1=k;rw[Ue c] at h;cases h;subst c;exact Uq;rw[Zj c] at h;exact WW _ (rz m k v h)
theorem wb{α:Type}[DecidableEq α]:∀(l l':List α),l.Nodup->(∀x∈l,x∈l')->l.length<=l'.length|[],_,_,_=>ZA|x::l,l',hn,h=>by have hx:=h x Uq;have Fo:=List.nodup_cons.mp hn;have ih:=wb l (l'.erase x) Fo.2 λy hy=>(List.mem_erase_of_ne (λz:y=x=>Fo.1 (by rw[<-z];exact hy))).mpr<|h y<|WW _ hy;have e:=List.length_erase_of_mem hx;have:=List.length_pos_of_mem hx;simp only[List.length_cons];lia
theorem zC(rows:SK)(hl:rows.length<=100):∃r:Nat,xP [a9 rows]=.ok (.int r) []/\r∉rows/\r<=100:=by
 have Q9:∀k:Nat,inD false (.int (k:Int)) (a9 rows)=some (.bl<|decide<|k∈rows):=λk=>by rw[vO,Zj (by decide)]
 have key:∀(n k:Nat),n+k=101->(∀j<k,j∈rows)->∃r:Nat,fT bO cQ (n+9899) [.sh<|a9 rows,.sh<|.int k]=.ok .nx [.sh<|a9 rows,.sh<|.int r]/\r∉rows/\r<=100:=by
  intro n;induction n with
  |zero=>intro k hk hj;have:=wb (List.range k) rows List.nodup_range λx hx=>hj x<|List.mem_range.mp hx;simp at this;lia|succ n ih=>
   intro k hk hj;have ik:=Q9 k;by_cases c:k∈rows;rw[Ud c] at ik;obtain⟨r,e,h1,h2⟩:=ih (k+1) Zl λj Yk=>by by_cases z:j=k;rw[z];exact c;exact hj j Zl
   refine⟨r,?_,h1,h2⟩;rw[show n+1+9899=(n+9899)+1 by lia,q8 (r1:=[.sh<|a9 rows,.sh<|.int k]) (r2:=[.sh<|a9 rows,.sh<|.int ((k+1:Nat):Int)])];exact e;unfold bO;exact ao;rw[show (((k+1:Nat)):Int)=(k:Int)+1 by lia];unfold cQ;exact ao;rw[T1 c] at ik;refine⟨k,?_,c,Zl⟩;rw[show n+1+9899=(n+9899)+1 by lia];refine mQ ?_;unfold bO;exact ao
 obtain⟨r,e,h1,h2⟩:=key 101 0 rfl λj hj=>Zl;refine⟨r,?_,h1,h2⟩;have e:pq bO cQ [.sh<|a9 rows,.sh<|.int 0]=.ok .nx [.sh<|a9 rows,.sh<|.int r]:=e;unfold xP Iw;exact rn
theorem sV(k v:Nat):∀(m:S2)(w:Nat),gu m k=some w->(vr k v m).map (·.1)=m.map (·.1)|[],_,h=>by cases h|p::m,w,h=>by unfold gu at h;unfold vr;by_cases c:p.1=k;rw[Ue c];rfl;rw[Zj c] at h;rw[Zj c,WA,WA,sV k v m w h]
theorem xh:∀(m:S2)(k:Nat),gu m k=none->k∉m.map (·.1)|[],_,_=>ZA|p::m,k,h=>by unfold gu at h;by_cases c:p.1=k;rw[Ue c] at h;cases h;rw[Zj c] at h;have:=xh m k h;simp only[List.map_cons,List.mem_cons,not_or];exact⟨λz=>c z.symm,this⟩
def Kd(m:S2):Prop:=(m.map (·.1)).Nodup/\∀k∈m.map (·.1),k<14
theorem Kd.jL{m:S2}(h:Kd m):m.length<=14:=by have:=wb (m.map (·.1)) (List.range 14) h.1 λx hx=>List.mem_range.mpr<|h.2 x hx;simpa using this
theorem Kd.put{m:S2}(h:Kd m){k:Nat}(v:Nat)(hk:k<14):Kd (vr k v m):=by cases e:gu m k with|some w=>unfold Kd;rw[sV k v m w e];exact h|none=>rw[m9 k v m e];have hn:=xh m k e;unfold Kd;rw[R4];refine⟨List.nodup_append.mpr ⟨h.1,ZA,λa ha b hb z=>?_⟩,λx hx=>?_⟩;simp at hb;rw[<-z] at hb;subst hb;exact hn ha;rcases List.mem_append.mp hx with hx|hx;exact h.2 x hx;simp at hx;lia
theorem Kd.nil:Kd []:=⟨ZA,ZA⟩
structure V3(n:Nat)(as:SK)(X:Nat->D)(rd:Nat->SK)(ss:XW):Prop where
 some:as≠[]
 ord:as.Pairwise (· < ·)
 jL:as.length<=14
 small:∀a∈as,a<14
 line:∀a∈as,aJ d8 "line" (X a)=Option.some (.int (a:Int))
 side:∀a∈as,aJ gE "sides" (X a)=Option.some (T<|sd ss a)/\SI (sd ss a)
 read:∀a∈as,qu [X a]=.ok (a9<|rd a) []
 own:∀a∈as,∀r∈rd a,r∈as/\r<a
 all:∀i,i+1<as.length->∃a∈as,as.getD i 0∈rd a
section
variable{n:Nat}{as:SK}{X:Nat->D}{rd:Nat->SK}{ss:XW}(L:V3 n as X rd ss)
def jE(as:SK)(X:Nat->D):D:=.lst (as.map X)
theorem vv{as:SK}{i:Nat}(h:i<as.length):as.getD i 0∈as:=by rw[zT,Rg h];exact DF h
theorem Bh(as:SK)(X:Nat->D):ke [jE as X]=some ((List.range as.length).map λ(i:Nat)=>D.tup [.int i,X<|as.getD i 0]):=by
 show some (jA<|as.map X)=_;rw[qr];congr 1;refine zN ZA λi h1 h2=>?_;have hi:i<as.length:=by simpa using h2
 simp[hi]
include L
theorem Dg{i j:Nat}(hi:i<as.length)(hj:j<as.length):as.getD i 0<as.getD j 0<->i<j:=by
 have e:∀k (h:k<as.length),as.getD k 0=as[k]:=λk h=>by simp[h]
 rw[e i hi,e j hj];have p:=List.pairwise_iff_getElem.mp L.ord;constructor;intro h;rcases Nat.lt_trichotomy i j with z|z|z;exact z;subst z;lia;have:=p j i hj hi z;lia;intro z;exact p i j hi hj z
theorem at_of{a:Nat}(h:a∈as):∃i,i<as.length/\as.getD i 0=a:=by obtain⟨i,hi,e⟩:=List.mem_iff_getElem.mp h;exact⟨i,hi,by simp[hi,e]⟩
theorem MA{i j:Nat}(hi:i<as.length)(hj:j<as.length)(e:as.getD i 0=as.getD j 0):i=j:=by rcases Nat.lt_trichotomy i j with z|z|z;have:=(Dg L hi hj).mpr z;lia;exact z;have:=(Dg L hj hi).mpr z;lia
def HI(as:SK)(rd:Nat->SK)(i:Nat)(m:S2):Prop:=Kd m/\∀j<i,∀k∈rd (as.getD j 0),∃v,gu m k=some v
theorem Q1s:∃m,xO [jE as X]=.ok (Dc m) []/\HI as rd as.length m:=by
 have en:=Bh as X;obtain⟨m,t,hP,ht,Lp⟩:=aO (g:=dy [2,3]) (body:=cM) (λ(i:Nat)=>D.tup [.int i,X<|as.getD i 0]) (λ(m:S2)(t:Sl×Sl×Sl)=>[.sh<|jE as X,.ow<|Dc m,t.1,t.2.1,t.2.2]) B6 (List.range as.length) (HI as rd) [] (.no,.no,.no) ⟨rfl,rfl,rfl⟩ ⟨Kd.nil,λj hj=>absurd hj<|Nat.not_lt_zero j⟩ (by
  intro i k hk m t ht hP;obtain⟨rfl,hk⟩:=aW hk;obtain⟨t2,t3,t4⟩:=t;obtain⟨f2,f3,f4⟩:=ht;dsimp only at f2 f3 f4;have ha:=vv hk;have rb:=L.read _ ha;have ow:=L.own _ ha;obtain⟨hK,hP⟩:=hP;generalize hag:as.getD k 0=a at *;obtain⟨m',s,⟨hK',hq⟩,hs,Li⟩:=aO (g:=aj 4) (body:=cL) (λ(r:Nat)=>D.int r) (λ(m:S2)(t:Sl)=>[.sh<|jE as X,.ow<|Dc m,.sh<|.int k,.sh<|X a,t]) ko (rd a) (λc m'=>Kd m'/\∀j,(∃v,gu m j=some v)\/j∈(rd a).take c->∃v,gu m' j=some v) m t4 f4 ⟨hK,λj h=>h.elim id λz=>by cases z⟩ (by
   intro c r hr m' t ht Q2;obtain⟨q1,q2⟩:=Q2;have hf:free (some t)=true:=ht;have pt:=Ds m' r k<|Nat.lt_of_le_of_lt q1.jL (by decide);refine⟨vr r k m',.sh<|.int r,⟨q1.put k (L.small r (ow r<|Rb hr).1),λj hj=>?_⟩,rfl,?_⟩;rw[rq];by_cases z:r=j;rw[Ue z];exact⟨k,rfl⟩;rw[Zj z];refine q2 j<|hj.imp id λh=>?_;rw[List.take_succ,hr] at h;exact(List.mem_append.mp h).resolve_right λw=>z (List.mem_singleton.mp w).symm;have e:aj 4 (.int (r:Int)) [.sh<|jE as X,.ow<|Dc m',.sh<|.int k,.sh<|X a,t]=.ok () [.sh<|jE as X,.ow<|Dc m',.sh<|.int k,.sh<|X a,.sh<|.int r]:=by simp[hf]
   generalize X a=xa at *;generalize jE as X=xs at *;rw[aB,e,ag,show cL _=.ok .nx _ by unfold cL;exact ao];rfl)
  have hSq:bR (a9<|rd a)=some ((rd a).map λ(r:Nat)=>D.int (r:Int)):=rfl;refine⟨m',(.sh<|.int k,.sh<|X a,s),⟨hK',λj hj r hr=>?_⟩,⟨rfl,rfl,hs⟩,?_⟩;by_cases z:j=k;rw[z,hag] at hr;exact hq r<|.inr (by rw[List.take_length];exact hr);exact hq r<|.inl<|hP j (Nat.lt_of_le_of_ne (Nat.le_of_lt_succ hj) z) r hr;have e:dy [2,3] (.tup [.int (k:Int),X a]) [.sh<|jE as X,.ow<|Dc m,t2,t3,t4]=.ok () [.sh<|jE as X,.ow<|Dc m,.sh<|.int k,.sh<|X a,t4]:=by simp[f2,f3]
  dsimp only;generalize X a=xa at *;generalize jE as X=xs at *;generalize (rd a).map (λ(r:Nat)=>D.int (r:Int))=rs at *;rw[aB,e,ag,show cM _=.ok .nx _ by unfold cM;exact ao];rfl)
 obtain⟨t2,t3,t4⟩:=t;simp only[List.length_range] at hP;refine⟨m,?_,hP⟩;have hD:Dc []=.fZ [] []:=rfl;rw[hD] at Lp;dsimp only at Lp;generalize jE as X=xs at *;unfold xO Ir;exact rn
end
section
variable{n:Nat}{as:SK}{X:Nat->D}{rd:Nat->SK}{ss:XW}(L:V3 n as X rd ss)
theorem noLs_N:∀ks:SK,noLs (ks.map λk=>D.int (k:Nat))=true|[]=>rfl|k::ks=>by rw[WA,noLs,noLs_N ks];rfl
theorem FJ(m:S2):CE (Dc m)=some ((m.map (·.1)).map λ(k:Nat)=>D.int (k:Int)):=by show some ((m.map λp=>(.inl (p.1:Int):Sum Int Str)).map CD)=_;rw[P9,P9];rfl
def Av(as:SK)(i:Nat)(R:S2):Prop:=R.map (·.1)=as.take i/\(∀p∈R,p.2<=100)/\∀j<i,∃v,gu R (as.getD j 0)=some v
theorem pI{as:SK}{i k:Nat}(hi:i<=as.length)(h:k∈as.take i):∃j,j<i/\as.getD j 0=k:=by obtain⟨j,hj,e⟩:=List.mem_iff_getElem.mp h;simp only[List.length_take] at hj;have h2:j<as.length:=Zl;exact⟨j,Zl,by rw[<-e];simp[h2]⟩
theorem x9:∀(is:WR)(a B:Int),a<=B->(∀x∈is,x<=B)->is.foldl (λa b=>if a<b then b else a) a<=B|[],a,B,h,_=>h|i::is,a,B,h,h2=>by rw[List.foldl_cons];refine x9 is _ B ?_ λx hx=>h2 x<|WW _ hx;split;exact h2 i Uq;exact h
theorem N6(R:S2)(h:R≠[])(Nd:∀p∈R,p.2<=100):∃mx:Nat,qO (Dc R)=some (.int (mx:Int))/\mx<=100/\∀p∈R,p.2<=mx:=by
 cases R with
 |nil=>exact absurd rfl h|cons p R=>
  have e:bJ ((p::R).map λp=>D.int (p.2:Int))=some ((p.2:Int)::R.map λp=>(p.2:Int)):=by have:=dY<|(p::R).map λp=>(p.2:Int);rw[P9] at this;exact this
  obtain⟨h1,h2⟩:=rF (R.map λp=>(p.2:Int)) (p.2:Int);have h3:=x9 (R.map λp=>(p.2:Int)) (p.2:Int) 100 (by have:=Nd p Uq;lia) λx hx=>by obtain⟨q,hq,rfl⟩:=List.mem_map.mp hx;have:=Nd q<|WW _ hq;lia
  have ev:qO (Dc (p::R))=some (.int<|(R.map λp=>(p.2:Int)).foldl (λa b=>if a<b then b else a) (p.2:Int)):=by show (match bJ ((p::R).map λp=>D.int (p.2:Int)) with|some (i::is)=>some (D.int<|is.foldl (λa b=>if a<b then b else a) i)|_=>none)=_;rw[e]
  generalize (R.map λp=>(p.2:Int)).foldl (λa b=>if a<b then b else a) (p.2:Int)=z at *;refine⟨z.toNat,by rw[ev,show ((z.toNat:Nat):Int)=z by lia],Zl,λq hq=>?_⟩;rcases List.mem_cons.mp hq with rfl|hq
  lia
  have:=h2 (q.2:Int)<|FC (f:=λp=>(p.2:Int)) hq;lia
include L
theorem GO:∃R,BQ [jE as X]=.ok (Dc R) []/\Av as as.length R:=by
 obtain⟨m,em,hK,hm⟩:=Q1s L;have en:=Bh as X;have T8:∀i,i+1<as.length->∃v,gu m (as.getD i 0)=some v:=λi hi=>by obtain⟨a,ha,hr⟩:=L.all i hi;obtain⟨q,hq,e⟩:=at_of L ha;rw[<-e] at hr;exact hm q hq _ hr
 obtain⟨R,t,hP,ht,Lp⟩:=aO (g:=dy [3,4]) (body:=fm) (λ(i:Nat)=>D.tup [.int i,X<|as.getD i 0]) (λ(R:S2)(t:Sl×Sl×Sl)=>[.sh<|jE as X,.sh<|Dc m,.ow<|Dc R,t.1,t.2.1,t.2.2]) B6 (List.range as.length) (Av as) [] (.no,.no,.no) ⟨rfl,rfl,rfl⟩ ⟨ZA,ZA,λj hj=>absurd hj<|Nat.not_lt_zero j⟩ (by
  intro i k hk R t ht hP;obtain⟨rfl,hk⟩:=aW hk;obtain⟨t3,t4,t5⟩:=t;obtain⟨f3,f4,f5⟩:=ht;dsimp only at f3 f4 f5;obtain⟨p1,p2,p3⟩:=hP;have ha:=vv hk;have li:=L.line _ ha;let lv:=λj:Nat=>(gu m j).getD 0;let rv:=λj:Nat=>(gu R j).getD 0;have hlv:∀j∈as.take k,gu m j=some (lv j):=λj hj=>by obtain⟨q,hq,e⟩:=pI Zl hj;obtain⟨v,h⟩:=T8 q Zl;rw[e] at h;show _=some ((gu m j).getD 0);rw[h];rfl
  have hrv:∀j∈as.take k,gu R j=some (rv j):=λj hj=>by obtain⟨q,hq,e⟩:=pI Zl hj;obtain⟨v,h⟩:=p3 q hq;rw[e] at h;show _=some ((gu R j).getD 0);rw[h];rfl
  obtain⟨nd,hnd⟩:∃nd:SK,nd=((as.take k).filter λj=>decide<|k<=lv j).map rv:=⟨_,rfl⟩;have ks:=FJ R;rw[p1] at ks;obtain⟨xa,hxa⟩:∃xa,xa=X (as.getD k 0):=⟨_,rfl⟩;obtain⟨xs,hxs⟩:∃xs,xs=jE as X:=⟨_,rfl⟩;rw[<-hxa] at li ⊢;rw[<-hxs];have c:az 1 (uw<|aa 2) (aj 6) fg e8 [.sh xs,.sh<|Dc m,.sh<|Dc R,.sh<|.int k,.sh xa,eW t5]=.ok (.lst<|nd.map λj=>D.int (j:Nat)) [.sh xs,.sh<|Dc m,.sh<|Dc R,.sh<|.int k,.sh xa,eW t5]:=by
   refine vA (λ(j:Nat)=>D.int (j:Int)) (λj=>decide<|k<=lv j) (λj=>D.int (rv j:Nat)) (as.take k) ao (by have:=L.jL;simp;lia) (by rw[hnd,P9];rfl) (λj hj acc=>?_) λj hj _ acc=>?_;have g1:=oB m j (lv j)<|hlv j hj;have ge:S5 (.int (lv j:Int)) (.int (k:Int))=some (.bl<|decide<|k<=lv j):=by rw[Ca,decide_eq_decide.mpr (show (k:Int)<=lv j<->k<=lv j by lia)]
   generalize lv j=v at *;unfold fg;exact ao;have g1:=oB R j (rv j)<|hrv j hj;generalize rv j=v at *;unfold e8;exact ao
  have vw:i7 (az 1 (uw<|aa 2) (aj 6) fg e8) [.sh xs,.sh<|Dc m,.ow<|Dc R,.sh<|.int k,.sh xa,t5]=.ok (a9 nd) [.sh xs,.sh<|Dc m,.ow<|Dc R,.sh<|.int k,.sh xa,t5]:=by rw[ux];simp only[List.map_cons,List.map_nil,u7,u9];rw[c,u6 _ _ _<|noLs_N nd];rfl
  have ndl:nd.length<=100:=by
   rw[hnd,Wj];have:=FL (λj=>decide<|k<=lv j)<|as.take k;have h3:=L.jL;have h4:=List.length_take_le k as;have h5:=MN (i:=k) (l:=as)
   lia
  obtain⟨r,lo,_,hr1⟩:=zC nd ndl;have Rl:R.length<=14:=by have:=congrArg List.length p1;simp only[List.length_map,List.length_take] at this;have:=L.jL;lia
  have pt:=Ds R (as.getD k 0) r Zl;have Q7:gu R (as.getD k 0)=none:=by
   cases e:gu R (as.getD k 0) with
   |none=>rfl|some v=>
    have Ck:=FC (f:=(·.1))<|rz R _ v e;rw[p1] at Ck;obtain⟨j,hj,e2⟩:=pI Zl Ck;have:=MA L (i:=j) (j:=k) Zl hk e2
    lia
  have tk:as.take k++[as.getD k 0]=as.take (k+1):=by
   have:as.getD k 0=as[k]:=by simp[hk]
   rw[this];simp
  refine⟨vr (as.getD k 0) r R,(.sh<|.int k,.sh xa,.sh<|a9 nd),⟨?_,λp hp=>?_,λj hj=>?_⟩,⟨rfl,rfl,rfl⟩,?_⟩;rw[m9 _ _ _ Q7,R4,p1];exact tk;rw[m9 _ _ _ Q7] at hp;rcases List.mem_append.mp hp with hp|hp;exact p2 p hp;rw[List.mem_singleton.mp hp];exact hr1;rw[rq];split;exact⟨_,rfl⟩;by_cases z:j=k;subst z;contradiction;exact p3 j Zl;have e:dy [3,4] (.tup [.int (k:Int),xa]) [.sh xs,.sh<|Dc m,.ow<|Dc R,t3,t4,t5]=.ok () [.sh xs,.sh<|Dc m,.ow<|Dc R,.sh<|.int k,.sh xa,t5]:=by simp[f3,f4]
  dsimp only;clear c;rw[aB,e,ag,show fm _=.ok .nx _ by unfold fm;exact ao];rfl)
 obtain⟨t3,t4,t5⟩:=t;simp only[List.length_range] at hP;refine⟨R,?_,hP⟩;have hD:Dc []=.fZ [] []:=rfl;rw[hD] at Lp;dsimp only at Lp;generalize jE as X=xs at *;unfold BQ IF;exact rn
theorem Q1P(R:S2)(hR:Av as as.length R):∃ys,BK [jE as X,Dc R]=.ok (Z ys) []:=by
 obtain⟨p1,p2,p3⟩:=hR;obtain⟨mx,em,hmx,hle⟩:=N6 R (λz=>by rw[z] at p1;have:=congrArg List.length p1;have:=List.length_pos_iff.mpr L.some;simp at *;lia) p2;have ad:aU (.int (mx:Int)) (.int 1)=some (.int ((mx+1:Nat):Int)):=rfl;have er:=gr (mx+1) Zl;have c:az 1 (bF [(m2 aU (m1 qO<|aa 1)<|mC<|.int 1)]) (aj 5) (VP.ret true) eO [.sh<|jE as X,.sh<|Dc R,.no,.no,.no]=.ok (Z<|List.replicate (mx+1) 0) [.sh<|jE as X,.sh<|Dc R,.no,.no,.no]:=by refine dN (λ(k:Nat)=>D.int k) (λ_=>D.int 0) (List.range<|mx+1) ao (by simp;lia) (by simp[Z,List.map_const']) λk hk acc=>?_;unfold eO;exact ao
 obtain⟨ys,t,hP,ht,Lp⟩:=aO (g:=aj 3) (body:=cC) X (λ(ys:WR)(t:Sl×Sl)=>[.sh<|jE as X,.sh<|Dc R,.ow<|Z ys,t.1,t.2]) iV as (λ_ ys=>ys.length=mx+1) (List.replicate (mx+1) 0) (.no,.no) ⟨rfl,rfl⟩ ZA (by
  intro i a ha ys t ht hP;obtain⟨t3,t4⟩:=t;obtain⟨f3,f4⟩:=ht;dsimp only at f3 f4;have ha:=Rb ha;have li:=L.line a ha;obtain⟨si,sS⟩:=L.side a ha;obtain⟨j,hj,ej⟩:=at_of L ha;obtain⟨v,hv⟩:=p3 j hj;rw[ej] at hv;have gv:=oB R a v hv;have hvl:=hle _<|rz R a v hv;have ci:=gP (sd ss a) λx hx=>by have:=sS.2.1 x hx;lia
  have ix:ah (Z ys) (.int (v:Int))=some (.int<|ys.getD v 0):=by have:=bM ys v Zl (by dsimp only at hvl;lia);rwa [N9] at this
  have mxx:=rU (ys.getD v 0)<|ak<|sd ss a;generalize max (ys.getD v 0) (ak<|sd ss a)=z at *;have st:=yN ys v z Zl (by dsimp only at hvl;lia);rw[N9] at st;have il:isLst (some<|Z ys)=true:=rfl;refine⟨ys.set v z,(.sh<|X a,.sh<|.int v),by simp[hP],⟨rfl,rfl⟩,?_⟩;have e:aj 3 (X a) [.sh<|jE as X,.sh<|Dc R,.ow<|Z ys,t3,t4]=.ok () [.sh<|jE as X,.sh<|Dc R,.ow<|Z ys,.sh<|X a,t4]:=by simp[f3]
  dsimp only;generalize X a=xa at *;generalize jE as X=xs at *;generalize ys.getD v 0=y0 at *;rw[aB,e,ag,show cC _=.ok .nx _ by unfold cC;exact ao];rfl)
 obtain⟨t3,t4⟩:=t;refine⟨ys,?_⟩;have sq:bR (jE as X)=some (as.map X):=rfl;dsimp only at Lp;generalize jE as X=xs at *;generalize as.map X=ds at *;unfold BK Iu;exact rn
end
theorem Q2T(gs:XW)(ls:Ra)(ss:XW)(ix_:Nat)(g:Gd gs ls ss ix_)(iE:ls.length<=14):∃kp,xJ [Pg ls,aG ss]=.ok (gM kp) []/\Kp ls kp:=by
 obtain⟨w,_,wl,hw,e⟩:=p9 ls ss g.wf g.ne Zl g.len;have hn:=List.length_pos_iff.mpr g.ne;have gw:∀i,w.getD i false=true<->gN ls i:=λi=>by rw[<-hw i,zT];cases h:w[i]? with|none=>simp|some b=>simp
 have gk:∀i,(qF ls ss w)[i]?=some true<->i<ls.length/\gN ls i/\kA ls ss i (eS ls w i)=true:=λi=>by unfold qF;by_cases hi:i<ls.length;rw[mS,PG hi];simp only[Option.map_some,Option.some.injEq,Bool.and_eq_true,gw];exact⟨λh=>⟨hi,h⟩,λh=>h.2⟩;rw[F4 (by simp;lia)];exact⟨λh=>(by cases h),λh=>absurd h.1 hi⟩
 refine⟨_,e,by simp[qF],λi hr h=>(gk i).mpr ⟨hr.lt g.wf g.ne,hr,?_⟩,λi hr h a ha=>(gk a).mpr ?_,(gk _).mpr ⟨Zl,.last,?_⟩,λi h=>((gk i).mp h).2.1⟩;have:kd ls i∈K4:=h;simp[kA,this];have hi:=hr.lt g.wf g.ne;have ra:gN ls a:=.step hr (gX hi) ha;refine⟨ra.lt g.wf g.ne,ra,?_⟩;have hm:=(oW ls w a i).mpr ⟨hi,(gw i).mpr hr,ha⟩;have h2:kd ls i∈H2:=h;have:(eS ls w a).any (λi=>decide<|kd ls i∈H2)=true:=List.any_eq_true.mpr ⟨i,hm,by simp[h2]⟩;simp[kA,this];simp[kA]
section
variable{gs:XW}{ls:Ra}{ss:XW}{ix_:Nat}(g:Gd gs ls ss ix_){kp:Wz}(K:Kp ls kp)(iE:ls.length<=14){os:List (Option<|List Int)}(C:Cs ls ss (bS os))(ho:∀j,gN ls j->os[j]?=some (some<|bS os j))
include g K
theorem qf.low{b r:Nat}(h:qf ls kp b r):b<ls.length->kp[r]?=some true/\r<=b:=by induction h with|self h=>exactλ_=>⟨h,Zl⟩|step h hb _ ih=>intro ha;have:=gJ g ha hb;have:=ih Zl;exact⟨this.1,Zl⟩
theorem Ay{y:Nat}(h:gN ls y):∀r,As ls kp y r->∃a,kp[a]?=some true/\As ls kp a r:=by
 induction h with
 |last=>exactλr hr=>⟨_,K.last,hr⟩|@step i y l hi e hy ih=>
  intro r hr;have Ak:=hi.lt g.wf g.ne;have hyl:y<ls.length:=by have:=g.wf i l e y hy;lia
  have Yx:y∈eK ls i:=by unfold eK;rw[show aQ ls i=l by simp[aQ,e]];exact hy
  obtain⟨b,hb⟩:∃b,kp[y]?=some b:=⟨_,Rg (by rw[K.len];exact hyl)⟩;cases b with|true=>exact⟨y,hb,hr⟩|false=>obtain⟨c,hc,hcr⟩:=hr;exact ih r ⟨y,Yx,.step hb hc hcr⟩
include iE C ho
theorem CK:∃(as:SK)(X:Nat->D)(rd:Nat->SK),az 1 (bF [(m1 cu<|aa 0)]) (aj 6) j9 j6 [.sh<|Pg ls,.sh<|aG gs,.sh<|aG ss,.sh<|gM kp,.no,.no]=.ok (jE as X) [.sh<|Pg ls,.sh<|aG gs,.sh<|aG ss,.sh<|gM kp,.no,.no]/\V3 ls.length as X rd ss/\(∀a∈as,nM ls ss kp os a<|X a)/\∀a,a∈as<->kp[a]?=some true:=by
 have hn:=List.length_pos_iff.mpr g.ne;obtain⟨as,has⟩:∃as,as=(List.range ls.length).filter λa=>kp.getD a false:=⟨_,rfl⟩;have hm:∀a,a∈as<->kp[a]?=some true:=λa=>by rw[has,List.mem_filter,List.mem_range,zT];cases h:kp[a]? with|none=>simp|some b=>have:=(List.getElem?_eq_some_iff.mp h).1;have:=K.len;simp;lia
 obtain⟨X,hX⟩:=sf (as:=as) (P:=λ(a:Nat) x=>kg [Pg ls,aG ss,gM kp,.int a]=.ok x []/\nM ls ss kp os a x) λa ha=>vW g K iE C ho a<|(hm a).mp ha;obtain⟨rd,Wq⟩:=sf (as:=as) (P:=λ(a:Nat)(rs:SK)=>qu [X a]=.ok (a9 rs) []/\∀r,r∈rs<->As ls kp a r) λa ha=>(hX a ha).2.own;have lt:∀a∈as,a<ls.length:=λa ha=>(K.want a<|(hm a).mp ha).lt g.wf g.ne;have ord:as.Pairwise (· < ·):=by rw[has];exact List.Pairwise.filter _ List.pairwise_lt_range
 have jL:as.length<=14:=by rw[has];have:=FL (λa=>kp.getD a false)<|List.range ls.length;simp only[List.length_range] at this;lia
 have KJ:ls.length-1∈as:=(hm _).mpr K.last;have YL:∀i,i+1<as.length->as.getD i 0<ls.length-1:=λi hi=>by have p:=List.pairwise_iff_getElem.mp ord i (i+1) Zl hi Zl;have:=lt _<|DF hi;simp[show i<as.length by lia];lia
 have Lp:V3 ls.length as X rd ss:=by
  refine⟨λz=>(by rw[z] at KJ;cases KJ),ord,jL,λa ha=>(by have:=lt a ha;lia),λa ha=>(hX a ha).2.line,λa ha=>⟨(hX a ha).2.Ve,gh g<|lt a ha⟩,λa ha=>(Wq a ha).1,λa ha r hr=>?_,λi hi=>?_⟩;obtain⟨b,hb,hbr⟩:=((Wq a ha).2 r).mp hr;have h1:=gJ g (lt a ha) hb;have h2:=qf.low g K hbr (by have:=lt a ha;lia);exact⟨(hm r).mpr h2.1,Zl⟩;have hx:=vv (as:=as) (i:=i) Zl;have Kv:=YL i hi;have hk:=(hm _).mp hx;have hR:=K.want _ hk;generalize as.getD i 0=x at *;cases hR with
  |last=>lia|@step j _ l hj e hy=>
   have Yx:x∈eK ls j:=by unfold eK;rw[show aQ ls j=l by simp[aQ,e]];exact hy
   obtain⟨a,h1,h2⟩:=Ay g K hj x ⟨x,Yx,.self hk⟩;have ha:=(hm a).mpr h1;exact⟨a,ha,((Wq a ha).2 x).mpr h2⟩
 refine⟨as,X,rd,?_,Lp,λa ha=>(hX a ha).2,hm⟩;have ln:=gb ls;have er:=gr ls.length Zl;refine vA (λ(k:Nat)=>D.int k) (λa=>kp.getD a false) X (List.range ls.length) ao (by simp;lia) (by rw[<-has];rfl) (λa ha acc=>?_) λa ha hk acc=>?_;have hb:kp[a]?=some (kp.getD a false):=by have:=List.mem_range.mp ha;have:=K.len;simp[show a<kp.length by lia]
 have bi:=jY kp a _ hb;generalize kp.getD a false=b at *;unfold j9;exact ao;have hx:=(hX a (by rw[has];exact List.mem_filter.mpr ⟨ha,hk⟩)).1;generalize X a=xa at *;unfold j6;exact ao
end
def V7(as:SK)(X:Nat->D)(R:S2)(ys:WR):D:=.ins "Plan" ["loops","row_of","lengths"] [jE as X,Dc R,Z ys]
theorem NB(as:SK)(X:Nat->D)(R:S2)(ys:WR):M9 [.ins "Plan" [] [],jE as X,Dc R,Z ys]=.ok .aK [V7 as X R ys]:=YN
theorem Gq{gs:XW}{ls:Ra}{ss:XW}{ix_:Nat}(g:Gd gs ls ss ix_)(iE:ls.length<=14){os:List (Option<|List Int)}(C:Cs ls ss (bS os))(ho:∀j,gN ls j->os[j]?=some (some<|bS os j)):∃(kp:Wz)(as:SK)(X:Nat->D)(R:S2)(ys:WR),xR [Pg ls,aG gs]=.ok (V7 as X R ys) []/\Kp ls kp/\(∀a∈as,nM ls ss kp os a<|X a)/\(∀a,a∈as<->kp[a]?=some true)/\R.map (·.1)=as:=by have e1:=uV gs ls ss ix_ g iE;obtain⟨kp,e2,K⟩:=Q2T gs ls ss ix_ g iE;obtain⟨as,X,rd,e3,L,hl,hm⟩:=CK g K iE C ho;obtain⟨R,e4,hR⟩:=GO L;obtain⟨ys,e5⟩:=Q1P L R hR;have e6:=NB as X R ys;refine⟨kp,as,X,R,ys,?_,K,hl,hm,by rw[hR.1,List.take_length]⟩;generalize V7 as X R ys=pl at *;generalize jE as X=xs at *;unfold xR IB;exact rn
theorem Q2A{f:Fn}{a:M D}{fl:List (M D)}{r r1 r2:ax}{d v w:D}{ds:Zm}(h:a r=.ok d r1)(h2:mL fl (r1.map hide)=.ok ds r2)(hf:f (d::ds)=.ok v [w]):kG f a fl r=.ok v r1:=by show Q1 _ _ r=_;rw[aq,h,ag];show (match mL fl (r1.map hide) with|.ok ds _=>AB f d ds r1|_=>.no)=_;rw[h2];show (match f (d::ds) with|.ok v [_]=>Res.ok v r1|.exc x [_]=>.exc x r1|_=>.no)=_;rw[hf]
theorem xg:∀(R:S2)(k:Nat),(gu R k).isSome=true<->k∈R.map (·.1)|[],k=>by simp[gu]| (a,b)::R,k=>by unfold gu;split;rename_i e;subst e;simp;rename_i e;rw[xg R k];simp[show ¬k=a fromλz=>e z.symm]
section
variable{gs:XW}{ls:Ra}{ss:XW}{ix_:Nat}(g:Gd gs ls ss ix_){kp:Wz}(K:Kp ls kp)(iE:ls.length<=14){os:List (Option<|List Int)}(ho:∀j,gN ls j->os[j]?=some (some<|bS os j))(hl:os.length=ls.length)
include iE hl
theorem Q0B(R:S2)(a:Nat)(pl xa:D)(fr:aJ gC "row_of" pl=some (Dc R))(fl:aJ d8 "line" xa=some (.int a))(r0 r1 r2 r3 r5 r6 r7 Zi Va:Sl)(Wi:free (some Zi)=true):∃(rows:Zm)(t:Sl),loop (aj 12) dE ((List.range ls.length).map λ(k:Nat)=>D.int k) [r0,r1,r2,r3,.sh<|Pg ls,r5,r6,r7,.sh<|Fd os,.sh pl,.sh xa,.ow<|.lst [],Zi,Va]=.ok .nx [r0,r1,r2,r3,.sh<|Pg ls,r5,r6,r7,.sh<|Fd os,.sh pl,.sh xa,.ow<|.lst rows,t,Va]/\free (some t)=true/\∀r,r<ls.length->r∈R.map (·.1)->r<a->rows[r]?=some (fD<|os.getD r none):=by
 obtain⟨rows,t,⟨h1,h2⟩,ht,L⟩:=aO (g:=aj 12) (body:=dE) (λ(k:Nat)=>D.int k) (λ(rows:Zm)(t:Sl)=>[r0,r1,r2,r3,.sh<|Pg ls,r5,r6,r7,.sh<|Fd os,.sh pl,.sh xa,.ow<|.lst rows,t,Va]) ko (List.range ls.length) (λk rows=>rows.length=k/\∀r,r<k->r∈R.map (·.1)->r<a->rows[r]?=some (fD<|os.getD r none)) [] Zi Wi ⟨rfl,λr hr=>Zl⟩ (by
  intro i k hk rows t ht hP;obtain⟨rfl,hk⟩:=aW hk;obtain⟨h1,h2⟩:=hP;have hf:free (some t)=true:=ht;have i1:=Rc os k Zl;have di:=TY R k;have lt:=fS (k:Int) (a:Int);have e:aj 12 (.int (k:Int)) [r0,r1,r2,r3,.sh<|Pg ls,r5,r6,r7,.sh<|Fd os,.sh pl,.sh xa,.ow<|.lst rows,t,Va]=.ok () [r0,r1,r2,r3,.sh<|Pg ls,r5,r6,r7,.sh<|Fd os,.sh pl,.sh xa,.ow<|.lst rows,.sh<|.int k,Va]:=by simp[hf]
  have ap:∀d,dJ d (.lst rows)=some (.lst<|rows++[d]):=λd=>eX _ _ Zl;have more:∀d,(k∈R.map (·.1)->k<a->d=fD (os.getD k none))->(rows++[d]).length=k+1/\∀r,r<k+1->r∈R.map (·.1)->r<a->(rows++[d])[r]?=some (fD<|os.getD r none):=λd hd=>by refine⟨by simp[h1],λr hr hR hra=>?_⟩;by_cases z:r=k;subst z;rw[hd hR hra];simp[<-h1];rw[B5 Zl];exact h2 r Zl hR hra
  have j0:intD [.bl false]=some (.int 0):=rfl;have j1:intD [.bl true]=some (.int 1):=rfl;by_cases c:(gu R k).isSome=true;rw[c] at di;by_cases q:(k:Int)<a;rw[Ud q] at lt;refine⟨_,.sh (.int k),more (fD<|os.getD k none) λ_ _=>rfl,rfl,?_⟩;have ap:=ap<|fD<|os.getD k none;generalize fD (os.getD k none)=v at *;rw[aB,e,ag,show dE _=.ok .nx _ by unfold dE;exact ao];rfl;rw[T1 q] at lt;refine⟨_,.sh (.int k),more .aK λ_ z=>absurd z Zl,rfl,?_⟩;have ap:=ap .aK;generalize fD (os.getD k none)=v at *;rw[aB,e,ag,show dE _=.ok .nx _ by unfold dE;exact ao];rfl;rw[show (gu R k).isSome=false by simpa using c] at di;refine⟨_,.sh (.int k),more .aK λz _=>absurd ((xg R k).mpr z) c,rfl,?_⟩;have ap:=ap .aK;generalize fD (os.getD k none)=v at *;rw[aB,e,ag,show dE _=.ok .nx _ by unfold dE;exact ao];rfl)
 rw[Us] at h2;exact⟨rows,t,L,ht,h2⟩
end
theorem Q0l(ns:WR):tW [Z ns]=.ok (.bl true) []:=by
 obtain⟨s1,k1,_⟩:=aR ns 0 1000003 Zl;obtain⟨s2,k2,_⟩:=aR ns 1 1000003 Zl;obtain⟨s3,k3,_⟩:=aR ns 2 1000003 Zl;obtain⟨ls,ss,gs,ix_,q,e1,g,Fi,iE,h3⟩:=wF ns 3;obtain⟨cl,q',e2,vH,hc⟩:=Be [s1,s2,s3] 0 gs Fi Zl;obtain⟨Rm,e3,hR⟩:=plain_at g iE vH hc;have il:Row ns 0=.lst [Z ns,.int 0]:=rfl;rw[il] at k1;obtain⟨dr,Tf⟩:∃dr,dr=D.tup [Pg ls,aG ss,.int gs.length,aG gs]:=⟨_,rfl⟩;have d0:ah dr (.int 0)=some (Pg ls):=by rw[Tf];rfl
 have d1:ah dr (.int 1)=some (aG ss):=by rw[Tf];rfl
 have d2:ah dr (.int 2)=some (.int gs.length):=by rw[Tf];rfl
 have d3:ah dr (.int 3)=some (aG gs):=by rw[Tf];rfl
 rw[<-Tf] at e1;have l0:dG (Pg ls)=some (Pg ls):=rfl;have l3:dG (aG gs)=some (aG gs):=rfl;have cs:kG tZ (d6 [(aa 2),(cI 0)]) [(aa 6),(m2 ah (aa 3)<|cI 2)] [.sh<|Z ns,.ow<|Row ns q,.sh<|.lst [.int s1,.int s2,.int s3],.sh dr,.sh<|Pg ls,.sh<|aG ss,.sh<|aG gs,.no,.no,.no,.no,.no,.no,.no]=.ok (iH cl) [.sh<|Z ns,.ow<|Row ns q,.sh<|.lst [.int s1,.int s2,.int s3],.sh dr,.sh<|Pg ls,.sh<|aG ss,.sh<|aG gs,.no,.no,.no,.no,.no,.no,.no]:=Q2A (d:=.lst [.lst [.int s1,.int s2,.int s3],.int 0]) ao (show mL _ [.sh<|Z ns,.no,.sh<|.lst [.int s1,.int s2,.int s3],.sh dr,.sh<|Pg ls,.sh<|aG ss,.sh<|aG gs,.no,.no,.no,.no,.no,.no,.no]=_ from ao) e2;rcases hR with rfl|⟨os,rfl,hl,C,ho⟩;have n:=Oj;generalize iH cl=cd at *;unfold tW AD;exact rn;obtain⟨kp,as,X,R,ys,e4,K,hX,hm,hk⟩:=Gq g iE C ho;obtain⟨pl,iF⟩:∃pl,pl=V7 as X R ys:=⟨_,rfl⟩;have fr:aJ gC "row_of" pl=some (Dc R):=by rw[iF];kernel_rfl!
 have fl:aJ km "loops" pl=some (jE as X):=by rw[iF];kernel_rfl!
 rw[<-iF] at e4;have er:=gr ls.length Zl;have ln:=gb ls;have n:isND (Fd os) .aK=some (.bl false):=rfl;generalize gG:iH cl=cd at *;obtain⟨_,t,_,ht,Lp⟩:=aO (g:=aj 10) (body:=kF) X (λ(_:Unit)(t:Sl×Sl×Sl×Sl)=>[.sh<|Z ns,.ow<|Row ns q,.sh<|.lst [.int s1,.int s2,.int s3],.sh dr,.sh<|Pg ls,.sh<|aG ss,.sh<|aG gs,.sh cd,.sh<|Fd os,.sh pl,t.1,t.2.1,t.2.2.1,t.2.2.2]) B7 as (λ_ _=>True) () (.no,.no,.no,.no) ⟨rfl,rfl,rfl,rfl⟩ trivial (by
  intro i a hia _ t ht _;obtain⟨t10,t11,Zq,Vm⟩:=t;obtain⟨Z2,f11,Wi,f13⟩:=ht;dsimp only at Z2 f11 Wi f13;have ha:=Rb hia;have ok:=hX a ha;have hka:=(hm a).mp ha;have hal:=(K.want a hka).lt g.wf g.ne;obtain⟨rows,t',L,ft,hr⟩:=Q0B iE hl R a pl (X a) fr ok.line (.sh<|Z ns) (.ow<|Row ns q) (.sh<|.lst [.int s1,.int s2,.int s3]) (.sh dr) (.sh<|aG ss) (.sh<|aG gs) (.sh cd) Zq Vm Wi;obtain⟨c',lk⟩:=ok.YI rows 0 λr hb=>by obtain⟨b,hb1,hb2⟩:=hb;have h1:=gJ g hal hb1;have h2:=qf.low g K hb2 Zl;have hrl:r<ls.length:=Zl;rw[hr r hrl (by rw[hk];exact(hm r).mpr h2.1) Zl,zT,ho r<|K.want r h2.1];rfl
  have lk:nZ [X a,Pg ls,aG ss,Fd os,.lst [.lst rows,.int 0,.bl true]]=.ok (.bl true) [Bk rows c']:=lk;have b2:ah (Bk rows c') (.int 2)=some (.bl true):=rfl;generalize X a=xa at *;have e:aj 10 xa [.sh<|Z ns,.ow<|Row ns q,.sh<|.lst [.int s1,.int s2,.int s3],.sh dr,.sh<|Pg ls,.sh<|aG ss,.sh<|aG gs,.sh cd,.sh<|Fd os,.sh pl,t10,t11,Zq,Vm]=.ok () [.sh<|Z ns,.ow<|Row ns q,.sh<|.lst [.int s1,.int s2,.int s3],.sh dr,.sh<|Pg ls,.sh<|aG ss,.sh<|aG gs,.sh cd,.sh<|Fd os,.sh pl,.sh xa,t11,Zq,Vm]:=by simp[Z2]
  have fz:KQ 11 [.sh<|Z ns,.ow<|Row ns q,.sh<|.lst [.int s1,.int s2,.int s3],.sh dr,.sh<|Pg ls,.sh<|aG ss,.sh<|aG gs,.sh cd,.sh<|Fd os,.sh pl,.sh xa,.ow<|.lst rows,t',Vm]=.ok () [.sh<|Z ns,.ow<|Row ns q,.sh<|.lst [.int s1,.int s2,.int s3],.sh dr,.sh<|Pg ls,.sh<|aG ss,.sh<|aG gs,.sh cd,.sh<|Fd os,.sh pl,.sh xa,.sh<|.lst rows,t',Vm]:=rfl;refine⟨(),(.sh xa,.sh<|.lst rows,t',.ow<|Bk rows c'),trivial,⟨rfl,rfl,ft,rfl⟩,?_⟩;dsimp only;generalize D.lst rows=rd at *;rw[aB,e,ag,show kF _=.ok .nx _ by unfold kF;exact ao];rfl)
 have sx:bR (jE as X)=some (as.map X):=rfl;dsimp only at Lp;generalize as.map X=xs at *;generalize jE as X=xd at *;unfold tW AD;exact rn
end LW
end
section
set_option Elab.async false
set_option maxRecDepth 100000
set_option maxHeartbeats 4000000
set_option linter.all false
namespace WL.LW
open PySem PySem.Spec PyProof.Rows L2 VP VS _root_.LW
seal lj je PV PB Ae PF vn vm PR sP pV sQ xf
section
variable{P:Program}{w:World}{K:Frag}{mg:MG}{base:Heap}{a:El}(T:Txt L w K mg a)
theorem lT:bT P base T 1 ph:=dQ AR T dn (T.d 0 rfl)
theorem lU:bT P base T 1 pj:=dQ JD T dn (T.d 1 rfl)
theorem OI:bT P base T 2 Q1S:=dQ xv T (dc (lU T)<|dc (lT T) dn) (T.d 2 rfl)
theorem Dd:bT P base T 2 Dy:=dQ AU T (dc (lT T) dn) (T.d 3 rfl)
theorem Q0h:bT P base T 1 K9:=dQ Ju T dn (T.d 4 rfl)
theorem wj:bT P base T 1 yC:=dQ Jv T dn (T.d 5 rfl)
theorem De:bT P base T 1 Dz:=dQ Jz T dn (T.d 6 rfl)
def ZN(P:Program)(base:Heap){w:World}{K:Frag}{mg:MG}{a:El}(T:Txt L w K mg a)(n:Nat):Prop:=bT P base T (1+n) ("_law_worth",[false,false,true],(pS n 0))
theorem Qn{n:Nat}(ih:ZN P base T n):bT P base T (1+n+1) ("_law_worth",[false,false,true],(pS (n+1) 0)):=by have NG:=ih;exact dQ (JE<|pS n) T (dc (Q0h T)<|dc NG<|dc (De T)<|dc (wj T) dn) (T.d 7 rfl) (S:=(DE:bp ["_law_node","_law_at","_law_book","_law_place","_law_row"] ["_law_node","_law_at","_law_book"] (au<|top 105)))
theorem HL:∀n,ZN P base T n|0=>⟨_,_,_,_,(T.d 7 rfl),mM rfl⟩|n+1=>Qn T (HL n)
theorem OW:bT P base T 65 Lv:=(HL T 64)
theorem OM:bT P base T 66 Lf:=dQ AX T (dc (lT T)<|dc (OW T)<|dc (Dd T) dn) (T.d 8 rfl)
theorem rZ:bT P base T 1 uP:=dQ Jx T dn (T.d 9 rfl)
theorem OJ:bT P base T 2 Lb:=dQ AS T (dc (wj T) dn) (T.d 10 rfl)
theorem OL:bT P base T 1 Ld:=dQ AW T dn (T.d 11 rfl)
theorem OR:bT P base T 2 Lo:=dQ JB T (dc (OL T) dn) (T.d 12 rfl)
theorem OT:bT P base T 2 Lr:=⟨_,_,_,_,(T.d 13 rfl),nq Ss T (dc (rZ T) dn) (T.d 13 rfl).fu (λS hr _=>(ae (jc xb (ae (pM<|Y6 (T.b 13)<|PV.rd<|PF.pv<|WQ 1 ["_law_line","_law_own","_law_at","_law_k","?acc3"] (fE rfl (T.b 9)<|aD xe bu) (λnd=>(D0 3 nd)) nA<|qP xe<|Q1j xe xe) aT) aT) jC))⟩
theorem OH:bT P base T 3 La:=dQ Jw T (dc (De T)<|dc (OR T)<|dc (wj T)<|dc (rZ T)<|dc (OJ T)<|dc (OT T) dn) (T.d 14 rfl)
theorem Df:bT P base T 1 Lm:=dQ JA T dn (T.d 15 rfl)
theorem OV:bT P base T 2 Lu:=⟨_,_,_,_,(T.d 16 rfl),nq Q2N T dn (T.d 16 rfl).fu (λS hr _=>(ae xs<|ae xs<|ae (va rfl (PI true hr.units 2 xe<|we _)<|ae (Mh (pL<|HD (Df T) hr<|cG (qP xe<|PU 2) hZ) (D0 3 S.nd)<|ae (jc (Q1x 1 xe (by with_unfolding_all rfl)) jC aT) aT) aT) jC))⟩
theorem OP:bT P base T 4 Lj:=⟨_,_,_,_,(T.d 17 rfl),nq Sq T (dc (OV T)<|dc (Df T)<|dc (lT T)<|dc (OH T)<|dc (Dd T) dn) (T.d 17 rfl).fu (λS hr _=>(ae xs<|ae xs<|ae (Mh (fE rfl (T.b 9)<|aD xe bu) (D0 5 S.nd)<|ae xs<|ae (QI 7 S.nd xe)<|ae xs<|ae (jc xb jC<|ae (jc xb (ae (QI 8 S.nd<|pe QK xe xe) aT) jC) aT) jC) jC))⟩
theorem ON:bT P base T 1 Lg:=⟨_,_,_,_,(T.d 18 rfl),nq So T dn (T.d 18 rfl).fu (λS hr _=>(ae xs<|ae (QI 3 S.nd<|pe w_add (pe Ee xe xe) xe)<|ae (QI 4 S.nd<|pe w_add (pe Ee xe xe) xe) jC))⟩
theorem Q1R:bT P base T 2 Lh:=dQ Jy T (dc (lU T)<|dc (ON T)<|dc (rZ T) dn) (T.d 19 rfl)
theorem OS:bT P base T 2 Lq:=dQ JC T (dc (lU T)<|dc (rZ T) dn) (T.d 20 rfl)
theorem OU:bT P base T 2 Ls:=⟨_,_,_,_,(T.d 21 rfl),nq Q0p T (dc (lU T)<|dc (lT T) dn) (T.d 21 rfl).fu (λS hr _=>(ae xs<|ae (jc xb (ae xs<|ae xs<|ae (jc xb (ae (QI 6 S.nd<|PF.pv<|Gm rfl (T.b 10) rfl (T.b 7)<|PV.rd xe) aT) aT) jC) aT)<|ae xs<|ae xs<|ae xs<|ae (QI 8 S.nd<|qP (PF.pv<|se<|aD (yA rfl (T.b 10) rfl (T.b 13)<|PV.rd xe)<|aD xe<|aD xe<|aD xe bu) xe) jC))⟩
theorem Q0x:bT P base T 3 Ll:=⟨_,_,_,_,(T.d 22 rfl),nq Sr T (dc (lU T)<|dc (OU T)<|dc (OS T)<|dc (Q1R T)<|dc (lT T) dn) (T.d 22 rfl).fu (λS hr _=>(ae xs<|ae xs<|ae xs<|ae xs<|ae xs<|ae xs<|ae (Hz 1 7 S.nd rfl (Or.inl rfl) rfl (N':=["_law_row","_law_given","_law_k","_law_many","_law_count","_law_turn","_law_program_here","_law_sides","_law_index_here","_law_a","_law_way","_law_found","_law_line","?acc12"]) ⟨rfl,by kernel_rfl,by decide +kernel⟩ rfl (pL xe) ji (oF (by kernel_rfl)) (λC s H ex=>(D0 12<|YU ["_law_row","_law_given","_law_k","_law_many","_law_count","_law_turn","_law_program_here","_law_sides","_law_index_here","_law_a","_law_way","_law_found","_law_line","?acc12"])) (λC s H ex=>nA) (λC s H ex=>(qP xe xe)))<|ae xs<|ae (Mh (fE rfl (T.b 9)<|aD xe bu) (D0 2 S.nd)<|ae xs<|ae xs<|ae xs<|ae (jc (Ae.pb<|Dj xb<|Dj xb<|Dk<|wA VI (GH rfl rfl (T.b 8) boot_max xe lX) lX<|we _) jC aT) jC)<|ae (D9 (i:=1)<|D9 (i:=7) xs) aT))⟩
theorem UO:jW P base T "Plan" "__init__" false 1 [true,false,false,false] M9:=⟨_,_,_,_,_,_,(T.m 0 rfl),nq XD T dn (T.m 0 rfl).fu (λS hr _=>(ae xs<|ae (D7 0 (T.f 16)<|Gz rfl (T.b 2) VS.boot_dict xe) jC))⟩
theorem Q10:bT P base T 1 LS:=dQ JU T dn (T.d 23 rfl)
theorem OC:bT P base T 2 K5:=dQ Jr T (dc (Q10 T) dn) (T.d 24 rfl)
theorem wk:bT P base T 1 yD:=⟨_,_,_,_,(T.d 25 rfl),nq SA T dn (T.d 25 rfl).fu (λS hr _=>(ae (pM<|PF.pv<|WQ 2 ["line","part","value","?acc1"] (w8 rfl (T.b 14)<|aD (sk (T.t 1 rfl) rfl xe)<|aD xe bu) (λnd=>(pK rfl<|Mi 1 nd<|Mi 2 nd kZ)) (kM xb) xe) aT))⟩
theorem Q1l:bT P base T 2 LD:=⟨_,_,_,_,(T.d 26 rfl),nq SD T (dc (wk T) dn) (T.d 26 rfl).fu (λS hr _=>(ae xs<|ae (Mh (sH rfl (T.b 3)<|aD xe bu) (pK rfl<|Mi 4 S.nd<|Mi 5 S.nd kZ)<|ae (jc xb (ae (QG 3<|WQ 1 ["program","wanted","at","naming","number","line","named","?acc6"] (pL xe) (λnd=>(D0 6 nd)) (kM xb) xe) aT) aT) aT) jC))⟩
theorem Q1r:bT P base T 2 LZ:=⟨_,_,_,_,(T.d 27 rfl),nq SJ T (dc (wk T) dn) (T.d 27 rfl).fu (λS hr _=>(ae xs<|ae xs<|ae (Mh (Ht rfl (T.b 9)<|aD xe<|aD xe<|aD xe bu) (D0 2 S.nd) jC) jC))⟩
theorem OF:bT P base T 3 K8:=dQ AQ T (dc (Q1r T)<|dc (OC T)<|dc (Q1l T) dn) (T.d 28 rfl)
theorem wh:bT P base T 1 yB:=dQ AP T dn (T.d 29 rfl)
theorem OY:bT P base T 2 Lx:=⟨_,_,_,_,(T.d 30 rfl),nq Sw T (dc (wh T) dn) (T.d 30 rfl).fu (λS hr _=>(ae (Hy 1 2 S.nd rfl (Or.inl rfl) rfl (N':=["loops","row_of","lengths","loop","?4","row","?acc5"]) ⟨rfl,by kernel_rfl,by decide +kernel⟩ rfl (fE rfl (T.b 9)<|aD (pe w_add (GG rfl rfl (T.b 8) boot_max xe) lX) bu) ji (oF (by kernel_rfl)) (λC s H ex=>(D0 5<|YU ["loops","row_of","lengths","loop","?4","row","?acc5"])) (λC s H ex=>nA) (λC s H ex=>lX)) jC))⟩
theorem uG:jW P base T "Loop" "__init__" true 1 [true,false,false] zg:=vd Sy T dn (T.m 1 rfl)
theorem UI:jW P base T "Fill" "__init__" false 2 [true,false,false,false] M3:=⟨_,_,_,_,_,_,(T.m 2 rfl),nq Xz T dn (T.m 2 rfl).fu (λS hr _=>(ae (k7<|UQ (uG T) hr<|lW 0<|cG xe<|cG xe hZ) jC))⟩
theorem UJ:jW P base T "Fold" "__init__" false 2 [true,false,false,false,false,false,false] M4:=⟨_,_,_,_,_,_,(T.m 3 rfl),nq XA T dn (T.m 3 rfl).fu (λS hr _=>(ae (k7<|UQ (uG T) hr<|lW 0<|cG xe<|cG xe hZ) jC))⟩
theorem Q14:jW P base T "Load" "__init__" false 2 [true,false,false,false] M6:=⟨_,_,_,_,_,_,(T.m 4 rfl),nq XB T dn (T.m 4 rfl).fu (λS hr _=>(ae (k7<|UQ (uG T) hr<|lW 0<|cG xe<|cG xe hZ) jC))⟩
theorem Q1L:jW P base T "Pick" "__init__" false 2 [true,false,false,false,false,false,false] M8:=⟨_,_,_,_,_,_,(T.m 5 rfl),nq XC T dn (T.m 5 rfl).fu (λS hr _=>(ae (k7<|UQ (uG T) hr<|lW 0<|cG xe<|cG xe hZ) jC))⟩
theorem Q1y:jW P base T "Through" "__init__" false 2 [true,false,false,false,false,false] Bs:=⟨_,_,_,_,_,_,(T.m 6 rfl),nq Sj T dn (T.m 6 rfl).fu (λS hr _=>(ae (k7<|UQ (uG T) hr<|lW 0<|cG xe<|cG xe hZ) jC))⟩
theorem Ot:jW P base T "Weaver" "__init__" false 1 [true,false,false,false,false] Bt:=vd Jc T dn (T.m 7 rfl)
theorem UG:jW P base T "Both" "__init__" false 1 [true,false,false,false] M0:=vd Sh T dn (T.m 8 rfl)
theorem UH:jW P base T "Even" "__init__" false 1 [true,false] M1:=vd Si T dn (T.m 9 rfl)
theorem UM:jW P base T "One" "__init__" false 1 [true,false,false] M7:=vd SE T dn (T.m 10 rfl)
theorem Oo:jW P base T "Read" "__init__" false 1 [true,false,false,false] Br:=vd Jb T dn (T.m 11 rfl)
theorem Q13:bT P base T 1 LL:=dQ AY T dn (T.d 31 rfl)
theorem Q2Q:bT P base T 1 LV:=⟨_,_,_,_,(T.d 32 rfl),nq SG T dn (T.d 32 rfl).fu (λS hr _=>(ae xs<|ae xs<|ae xs<|ae (pM<|yA rfl (T.b 10) rfl (T.b 13)<|Dq 1) aT))⟩
theorem C8:jW P base T "Weaver" "row_read" false 3 [false,false,false,false] xH:=vd Jd T (dc (Q13 T)<|dc (Q2Q T)<|dk (Oo T) dn) (T.m 12 rfl)
theorem UK:jW P base T "Joined" "__init__" false 1 [true,false,false,false,false] M5:=vd Sn T dn (T.m 13 rfl)
theorem wm:bT P base T 1 yE:=dQ JK T dn (T.d 33 rfl)
theorem O7:bT P base T 2 LG:=dQ JJ T (dc (wm T) dn) (T.d 34 rfl)
theorem wu:bT P base T 3 yH:=dQ JY T (dc (O7 T) dn) (T.d 35 rfl)
theorem Ox:jW P base T "Within" "__init__" false 1 [true,false,false,false,false] Bx:=vd Jl T dn (T.m 14 rfl)
theorem Pu:bT P base T 2 L3:=dQ JZ T (dc (wm T) dn) (T.d 36 rfl)
theorem Pt:bT P base T 2 L0:=dQ JX T (dc (wm T) dn) (T.d 37 rfl)
theorem Q1n:bT P base T 1 L4:=dQ A1 T dn (T.d 38 rfl)
theorem Px:bT P base T 1 L6:=dQ J0 T dn (T.d 39 rfl)
theorem Q1h:jW P base T "Where" "__init__" false 1 [true,false,false,false] Bw:=vd Jk T dn (T.m 15 rfl)
def Mt(P:Program)(base:Heap){w:World}{K:Frag}{mg:MG}{a:El}(T:Txt L w K mg a)(n:Nat):Prop:=
 jW P base T "Weaver" "tree_named" false (3+n) [false,false,false] (cX n 0) /\
 jW P base T "Weaver" "tree_made" false (3+n) [false,false,false] (cX n 1) /\
 jW P base T "Weaver" "tree_viewed" false (3+n) [false,false,false] (cX n 2) /\
 jW P base T "Weaver" "tree_spread" false (3+n) [false,false,false] (cX n 3) /\
 jW P base T "Weaver" "tree_shifted" false (3+n) [false,false,false,false,false,false] (cX n 4) /\
 jW P base T "Weaver" "tree_joined" false (3+n) [false,false,false,false,false] (cX n 5)
theorem Qj{n:Nat}(ih:Mt P base T n):jW P base T "Weaver" "tree_named" false (3+n+1) [false,false,false] (cX (n+1) 0):=by obtain⟨gn,lG,lI,jP,lH,lF⟩:=ih;exact vd (Jg<|cX n) T (dm (C8 T)<|dm lG dn) (T.m 16 rfl) (S:=(DE:bp ["self","at","way"] ["self","at","way"] (au<|inClass (top 76) 1)))
theorem Qi{n:Nat}(ih:Mt P base T n):jW P base T "Weaver" "tree_made" false (3+n+1) [false,false,false] (cX (n+1) 1):=by obtain⟨gn,lG,lI,jP,lH,lF⟩:=ih;exact vd (Jf<|cX n) T (dm gn<|dm jP<|dm lH<|dm lF<|dm (C8 T)<|dm lI<|dk (UH T)<|dk (UM T)<|dk (UG T)<|dk (Q1h T) dn) (T.m 17 rfl) (S:=(DE:bp ["self","at","way","line","kind"] ["self","at","way"] (au<|inClass (top 76) 3)))
theorem Qm{n:Nat}(ih:Mt P base T n):jW P base T "Weaver" "tree_viewed" false (3+n+1) [false,false,false] (cX (n+1) 2):=by obtain⟨gn,lG,lI,jP,lH,lF⟩:=ih;exact vd (Jj<|cX n) T (dc (Q1n T)<|dc (wu T)<|dc (Pt T)<|dc (Px T)<|dm gn<|dm jP dn) (T.m 18 rfl) (S:=(DE:bp ["self","line","way","kind"] ["self","line","way"] (au<|inClass (top 76) 4)))
theorem Ql{n:Nat}(ih:Mt P base T n):jW P base T "Weaver" "tree_spread" false (3+n+1) [false,false,false] (cX (n+1) 3):=by obtain⟨gn,lG,lI,jP,lH,lF⟩:=ih;exact vd (Ji<|cX n) T (dc (Pu T)<|dm gn dn) (T.m 19 rfl) (S:=(DE:bp ["self","at","way"] ["self","at","way"] (au<|inClass (top 76) 5)))
theorem Qk{n:Nat}(ih:Mt P base T n):jW P base T "Weaver" "tree_shifted" false (3+n+1) [false,false,false,false,false,false] (cX (n+1) 4):=by obtain⟨gn,lG,lI,jP,lH,lF⟩:=ih;exact vd (Jh<|cX n) T (dc (wu T)<|dm gn<|dk (Ox T) dn) (T.m 20 rfl) (S:=(DE:bp ["self","at","side","by","number","way","moved"] ["self","at","side","by","number","way"] (au<|inClass (top 76) 6)))
theorem Q2L{n:Nat}(ih:Mt P base T n):jW P base T "Weaver" "tree_joined" false (3+n+1) [false,false,false,false,false] (cX (n+1) 5):=by obtain⟨gn,lG,lI,jP,lH,lF⟩:=ih;exact vd (Je<|cX n) T (dc (wu T)<|dm gn<|dk (UK T) dn) (T.m 21 rfl) (S:=(DE:bp ["self","ahead","behind","side","way","size","moved"] ["self","ahead","behind","side","way"] (au<|inClass (top 76) 7)))
theorem mB:∀n,Mt P base T n|0=>⟨⟨_,_,_,_,_,_,(T.m 16 rfl),mM rfl⟩,⟨_,_,_,_,_,_,(T.m 17 rfl),mM rfl⟩,⟨_,_,_,_,_,_,(T.m 18 rfl),mM rfl⟩,⟨_,_,_,_,_,_,(T.m 19 rfl),mM rfl⟩,⟨_,_,_,_,_,_,(T.m 20 rfl),mM rfl⟩,⟨_,_,_,_,_,_,(T.m 21 rfl),mM rfl⟩⟩|n+1=>⟨Qj T<|mB n,Qi T<|mB n,Qm T<|mB n,Ql T<|mB n,Qk T<|mB n,Q2L T<|mB n⟩
theorem Ov:jW P base T "Weaver" "tree_named" false 67 [false,false,false] Bv:=(mB T 64).1
theorem Ou:jW P base T "Weaver" "tree_made" false 67 [false,false,false] Bu:=(mB T 64).2.1
theorem Pn:bT P base T 1 LU:=dQ JV T dn (T.d 40 rfl)
theorem txs:bT P base T 68 LA:=dQ JG T (dc (Pn T)<|dm (Ov T)<|dm (Ou T)<|dk (Q14 T)<|dk (Q1L T)<|dk (Ot T)<|dk (UJ T)<|dk (Q1y T)<|dk (UI T) dn) (T.d 41 rfl)
def ZO(P:Program)(base:Heap){w:World}{K:Frag}{mg:MG}{a:El}(T:Txt L w K mg a)(n:Nat):Prop:=bT P base T (0+n) ("lines_read_in",[false],(vj n 0))
theorem tC1{n:Nat}(ih:ZO P base T n):bT P base T (0+n+1) ("lines_read_in",[false],(vj (n+1) 0)):=by have NH:=ih;exact⟨_,_,_,_,(T.d 42 rfl),nq (Sz<|vj n) T (dc NH dn) (T.d 42 rfl).fu (λS hr _=>(ae xs<|ae (jc (Dl<|GF (T.j 0) rfl (T.b 5)<|PV.rd xe) jC aT) jC)) (S:=(DE:bp ["tree"] ["tree"] (au<|top 77)))⟩
theorem HM:∀n,ZO P base T n|0=>⟨_,_,_,_,(T.d 42 rfl),mM rfl⟩|n+1=>tC1 T (HM n)
theorem O0:bT P base T 64 Lz:=(HM T 64)
theorem Q2K:bT P base T 65 Ly:=dQ JF T (dc (O0 T) dn) (T.d 43 rfl)
theorem OX:bT P base T 66 Lw:=dQ xw T (dc (Q2K T) dn) (T.d 44 rfl)
theorem O4:bT P base T 1 LB:=dQ JH T dn (T.d 45 rfl)
theorem Pd:bT P base T 67 LM:=⟨_,_,_,_,(T.d 46 rfl),nq SF T (dc (OX T)<|dc (O4 T) dn) (T.d 46 rfl).fu (λS hr _=>(ae xs<|ae xs<|ae (Mh (sH rfl (T.b 3)<|aD xe bu) (pK rfl<|Mi 3 S.nd<|Mi 4 S.nd kZ)<|ae (HB 1 5 S.nd rfl (Or.inl rfl) rfl (N':=["loops","last","row_of","at","loop","needed","line","?acc6"]) ⟨rfl,by kernel_rfl,by decide +kernel⟩ rfl (Hu xe) ji (oF (by kernel_rfl)) (λC s H ex=>(D0 6<|YU ["loops","last","row_of","at","loop","needed","line","?acc6"])) (λC s H ex=>(kM xb)) (λC s H ex=>(yz xe xe))) jC) jC))⟩
theorem Oz:bT P base T 1 K1:=⟨_,_,_,_,(T.d 47 rfl),nq Sk T dn (T.d 47 rfl).fu (λS hr _=>(ae (pM<|Du false (Bq rfl true) rfl (T.b 0) VS.boot_all<|PV.rd<|PF.pv<|WQ 2 ["line","part","value","?acc1"] (w8 rfl (T.b 14)<|aD (sk (T.t 1 rfl) rfl xe)<|aD xe bu) (λnd=>(pK rfl<|Mi 1 nd<|Mi 2 nd kZ)) (kM<|Di (T.t 0 rfl) rfl xe (by with_unfolding_all rfl))<|wH VJ xe (sk (T.t 0 rfl) rfl xe) (by with_unfolding_all rfl)) aT))⟩
theorem OD:bT P base T 1 K6:=dQ Js T dn (T.d 48 rfl)
theorem tnR:bT P base T 2 LF:=dQ JI T (dc (OD T) dn) (T.d 49 rfl)
theorem O9:bT P base T 2 LI:=dQ JM T (dc (wk T) dn) (T.d 50 rfl)
theorem Pe:bT P base T 2 LN:=dQ JQ T (dc (wh T) dn) (T.d 51 rfl)
theorem lS:bT P base T 1 pf:=dQ Jq T dn (T.d 52 rfl)
theorem wy:bT P base T 1 yI:=dQ J4 T dn (T.d 53 rfl)
theorem OB:bT P base T 2 K3:=dQ Jo T (dc (lS T)<|dc (wy T) dn) (T.d 54 rfl)
theorem wq:bT P base T 1 yF:=dQ JP T dn (T.d 55 rfl)
theorem OE:bT P base T 2 K7:=dQ Jt T (dc (lS T)<|dc (wy T)<|dc (wq T) dn) (T.d 56 rfl)
theorem O8:bT P base T 2 LH:=dQ JL T (dc (lS T)<|dc (wq T) dn) (T.d 57 rfl)
theorem Q1k:bT P base T 1 L7:=dQ J3 T dn (T.d 58 rfl)
theorem wt:bT P base T 2 yG:=dQ AZ T (dc (Q1k T) dn) (T.d 59 rfl)
theorem C9:bT P base T 2 Dx:=dQ Jp T (dc (lS T) dn) (T.d 60 rfl)
theorem Oy:bT P base T 3 K0:=dQ Jm T (dc (lS T)<|dc (C9 T)<|dc (wq T) dn) (T.d 61 rfl)
theorem Q17:bT P base T 3 K2:=dQ Jn T (dc (C9 T)<|dc (wy T) dn) (T.d 62 rfl)
theorem Pb:bT P base T 1 LK:=dQ JO T dn (T.d 63 rfl)
theorem Pq:bT P base T 1 LY:=⟨_,_,_,_,(T.d 64 rfl),nq swB T dn (T.d 64 rfl).fu (λS hr _=>(ae (jc (pbn hr xe<|PF.pv<|Gj rfl (T.b 9) rfl (T.b 7)<|aD xe bu) jC aT) jC))⟩
theorem Q1q:bT P base T 4 LR:=dQ JT T (dc (Pq T)<|dc (Oy T)<|dc (Q17 T)<|dc (Pb T)<|dc (wt T)<|dc (wh T) dn) (T.d 65 rfl)
theorem Q2M:bT P base T 3 LX:=dQ JW T (dc (wt T) dn) (T.d 66 rfl)
theorem Pj:bT P base T 5 LQ:=dQ JS T (dc (wt T)<|dc (Q2M T)<|dc (OB T)<|dc (lS T)<|dc (O8 T)<|dc (OE T)<|dc (Q1q T) dn) (T.d 67 rfl)
theorem Q1u:bT P base T 6 LO:=dQ JR T (dc (O9 T)<|dc (tnR T)<|dc (Oz T)<|dc (Pj T)<|dc (Pe T) dn) (T.d 68 rfl)
theorem Q1v:bT P base T 7 LP:=dQ A0 T (dc (Q1u T) dn) (T.d 69 rfl)
theorem Pa:bT P base T 69 LJ:=dQ JN T (dc (Q1v T)<|dc (OF T)<|dc (txs T)<|dc (Pd T)<|dc (OY T)<|dk (UO T) dn) (T.d 70 rfl)
include T in
theorem Q1M:xc ⟨P,w,K,mg,base⟩ 70 (a.f 71) (a.d 71) ["_law_script"] [false] tW:=nq Q1I T (dc (lU T)<|dc (Q0x T)<|dc (OP T)<|dc (Pa T)<|dc (OM T) dn) (T.d 71 rfl).fu (λS hr _=>(ae xs<|ae xs<|ae xs<|ae xs<|ae xs<|ae xs<|ae (QI 7 S.nd<|Q0T (OI T) hr (se<|aD xe<|aD lX bu)<|aD xe<|aD xe bu)<|ae xs<|ae xs<|ae xs<|ae (Mh (pL xe) (D0 10 S.nd)<|ae xs<|ae (Mh (fE rfl (T.b 9)<|aD xe bu) (D0 12 S.nd)<|ae (D6 11<|qP xe<|pO true f_int rfl (T.b 4) boot_int<|aD (Dt (PN xe xe) xe) bu) aT) jC) jC))
end
end WL.LW
end
section
set_option Elab.async false
set_option maxRecDepth 100000
set_option maxHeartbeats 4000000
namespace WL.LW
open PySem PySem.Spec PyProof.Rows L2 VP VS _root_.LW
theorem bd:VW L.d:=by repeat (first|exact True.intro|refine⟨by first|exact ZU|exact ZV|exact ZW|exact ZX|exact ZY|exact ZZ|exact Z0,?_⟩)
theorem bm:VX L.m:=by repeat (first|exact True.intro|refine⟨by first|exact ZU|exact ZV|exact ZW|exact ZX|exact ZY|exact ZZ|exact Z0,?_⟩)
theorem all_mk{l:W.OpenLaw}{w:World}{K:Frag}{mg:MG}{fa:Addr}(hfa:mg "law" = some (.ref fa))(E:∃a:El,Txt L w K mg a):RD l w K mg fa 70 "_law_script" := by obtain⟨a,T⟩:=E;have D:=T.d 71 rfl;have e:=hfa.symm.trans D.mg;cases e;exact⟨_,tW,D.YI λ_ _ _ _ _ _ _ _=>.of_eq rfl,λns _=>Q0l ns,λbase=>(Q1M T).2⟩
end WL.LW
structure PySem.W.Fast:Prop where(tw14179413034834851982 tw7232261610724277456 tw17066341989189795957 tw50134756142077855 tw4327217600220086394 tw4246490796899997101 tw2657415355520933044 tw13099761611680606146 tw472636386021752240 tw4765366090540066070 tw1952836385020760186 tw16307829785420759954 tw16260912118269181696 tw6212838666947577145 tw12528374612034744911 tw2615283645000267706 tw9200535321513221908 tw12555257999018109830 tw13899295529181802186 tw14057154802100602601 tw4484857778935856780 tw7376440846330694720 tw7162796303754068750 tw12871254155882588628 tw16473895932783396975 tw1512064983024852749 tw11225405309213706090 tw4808213845287973517 tw2242132656937867565 tw3813377202669161835 tw11243213174819236504 tw5473376185971661137 tw3374171845445835797 tw17641492589487334014 tw42841505793937976 tw7817446130437642584 tw4999211844446264522 tw16121590800426205969 tw17241844624990354762 tw14012777247322120527 tw341830577969762210 tw4769796751849361644 tw5868443204382357689 tw15630924586409068630 tw16615120382943212522 tw853189767803467318 tw13971957946603403570 tw14504045197333367585 tw10013648048788484697 tw5343002562911679268 tw7689821663641598375 tw12334027874655821581 tw16531484395985825413 tw5400716325125438341 tw2204377026186452240 tw4777901461676002127 tw14946156220256713361 tw3044357029114243093 tw17716527297649234518 tw4322970240060562483 tw7159417035625277518 tw11989035534262476760 tw7201845107685669582 tw2814531203615580783 tw17096984951683640535 tw9423435251365459810 tw17529833518385271666 tw8535416528535653631 tw3731134833707165502 tw14464529290768318135 tw1832614418464692881 tw10320515916088837987 tw6636350423395513698 tw1530627642232441334 tw16450984052573706026 tw10509628559810601746 tw15177538008342146968 tw15414887495068090037 tw573736153584286383 tw3403906468858363741 tw16157894899795487344 tw7819961471594940101 tw16438746437149969932 tw14647523486418890225 tw15439025133408576619 tw2943582504666995841 tw18106523166677541537 tw11017458887906980875 tw12912781474236121709 tw6621538980755183334 tw1375664213125832797 tw15533928666756923967 tw17643094462858608984 tw6344633259073490915 tw983589779510440589 tw13897401704509347702 tw13557130710216169776 tw7901143667457324404 tw4371204779960266581 tw15654826427813789520 tw8056944947044000206 tw14355709332960279745 tw16863496035472246166 tw13262945372448969032 tw4089471927889025531 tw17073889159647121827 tw11904542580073759281 tw11351136592505910088 tw8457570514979953092 tw1132642883348054957 tw464517759634729641 tw709955794928293152 tw11535282619056910101 tw5296276963936965515 tw5232554783874703033 tw11959736923156412318 tw14605419128545411099 tw11068362235866978315 tw3597825982456414515 tw6896608556996345469 tw13492020193660121141 tw2517474535127226131 tw14565654454581660673 tw11766119763853727320 tw4836396064921913254 tw5162320241145981352 tw6066317844003322632 tw9846295433635533417 tw7290345245558404424 tw9814105644767638209 tw12215247498499932271 tw17633281391666744143 tw10688246923571899000 tw14985714379467450210 tw16241007924982013233 tw2109276433520376313 tw14788292703253371631 tw7805971839201279443 tw292983858340215515 tw3659256280440929570 tw13114406231522074255 tw8056816343320922872 tw9830087621951280312 tw10187734802372598136 tw7315834836214713280 tw12113456085908224225 tw9685284634034077792 tw17958491604185289998 tw8600439665957659281 tw11725891555882734694 tw7718411724497630646 tw5457881504179943724 tw3583878676146292500 tw7669294737287913003 tw15998836851559522125 tw17779037923393501203 tw5220749754611668210 tw180433035141376524 tw8478295430475983276 tw1212429430965387480 tw10261255139760188493 tw1242134446246107303 tw10422479716851620454 tw2341350022026751553 tw6548272878749561796 tw11837876249977563431 tw2165654665991983363 tw9334110221830969453 tw4112914360341758258 tw3293979705993684062 tw15757527468533962790 tw2843800016207958098 tw7131258334850323584 tw6387675577972241689 tw3314822164044681300 tw3486645276367574551 tw15185096399821995320 tw11340268059345591045 tw5770739714613391400 tw12617939303870890045 tw8477745121838266158 tw10060661254861019638 tw9545647046317552280 tw69951124797415953 tw560761012776467307 tw13478426212216691084 tw3282014820687208872 tw12545398983686829335 tw14064872635233875744 tw1700935462336754164 tw1859014467838619399 tw17159374586321843998 tw2545129052872587964 tw5019056309599241098 tw6539681790125406734 tw14461715356266871050 tw11049529777427176888 tw7536893040172273885 tw3545810708740807133 tw15829125576128160654 tw8487984769891821279 tw10831346966631254831 tw12063204489973190984 tw18333787232301021779 tw12136527716860536756 tw5396336727813511403 tw2565166724358251647 tw15304212586329370608 tw4023506682652875597 tw6229261903604879944 tw9141782446150458316 tw6281303307071437390 tw1530651564620649063 tw14394828186721612411 tw17047770210783272258 tw2766401354338976261 tw17826141015636724715 tw918607431370637196 tw12864580526302829762 tw10447765897669791136 tw4184868641278382334 tw11237155171983964227 tw8839981033837723006 tw4230123620587380564 tw14456872203698521317 tw861845155412635889 tw13574893467442743327 tw338365321833604086 tw542878470994810545 tw6385596105227648479 tw3520876406889399554 tw12140239503927590223 tw10732435373173838598 tw6989133236910241829 tw4046157142488759574 tw17381628816931233320 tw13434800712081922645 tw10292131595776278991 tw1127865460766062922 tw13594565123583346712 tw14864415063739541715 tw12489778039128940863 tw6500916839693363668 tw5759584686795580466 tw2570499942963515861 tw10024959299230289323 tw6746385964216190328 tw14773443268680927678 tw3200043426480158529 tw6560952689197744263 tw14569190489837703271 tw3048263300207180822 tw4597810335123378942 tw16609130771490871517 tw15725916699225197890 tw13966351588424172895 tw5056934974205798182 tw15215653340091015354 tw7233945679117993110 tw8188001975101906654 tw5665985684602992702 tw10484091930048073551 tw2690683764380786414 tw8698479283557586160 tw13920725851435923598 tw1118156983399137158 tw2822674264353032277 tw2497501509420386397 tw8973320088485710772 tw5191588261250304441 tw14014386359573388738 tw2315132043669369475 tw7829587991590534682 tw9488989002615774749 tw13804411739469123446 tw6712081687064338449 tw2655174756499966485 tw17710129430666274438 tw10572883781046075646 tw16640931319666454015 tw9940419325230340979 tw8823020298551231240 tw17384534103408816125 tw11104095473108207196 tw6448708943697863942 tw10002748413235250711 tw10455341851413474057 tw6805923118439292037 tw4481524711084182534 tw17863994556766194773 tw14265707130977193045 tw8944173411142889126 tw4005366502291517869 tw16161090394514483175 tw5550360196047232541 tw12436300321564821703 tw8066548450424834570 tw1931720669151760383 tw9930782277492099564 tw7599281432983919248 tw11328212759649639220 tw12287476752930274727 tw7418326230482580507 tw1555883034852724894 tw13653309704497445892 tw17161409649710091567 tw1806835342267167081 tw10164667132042603598 tw16031105565399335431 tw9605360100294231143 tw6308193572345218911 tw11335134653342509582 tw5488539985484877691 tw13364291503127536686 tw16934367660870773857 tw9204522934013088851 tw15604037433577836037 tw4664797038593397884 tw9300895315264048635 tw6296971022926089775 tw13989155420418274404 tw8860540325533930481 tw8927112117467789949 tw4803263272938932733 tw11967007456885100792 tw11559081886656240775 tw3329070256554415888 tw1880513839921019848 tw3851860035346947576 tw1148826945824973433 tw4765383575518037075 tw3626470773611995979 tw7891969544632682754 tw2084020687865160265 tw17758809813847364013 tw10204198714547945148 tw1269532700293294410 tw5198793014489536209 tw4416009613364559236 tw1800866179251347085 tw18321571642344109158 tw9919700275859752312 tw10519455177052859994 tw3964214358609939143 tw10943402129700711014 tw14781288763201436595 tw4939964537807559551 tw3489110859825416490 tw6204070952830579151 tw9601832036185939604 tw7658836574191760860 tw11690042039134562004 tw10950746940963253439 tw14742353437181163530 tw15343435823502990458 tw10517978274452855171 tw8386841781473065168 tw3736107069057081584 tw17962066653696980272 tw12088300568773053199 tw9736126963552279289 tw277830383372389565 tw8878739481864022960 tw13211915549480999734 tw12343579298855047580 tw16211589263499241922 tw16749063722949690398 tw6905798824991246967 tw3680574360122269965 tw6250308939688764030 tw17550786279139581467 tw3850187369237259139 tw14319467917734531534 tw6564387917851409550 tw14152614643558895342 tw4523806319269318930 tw14444094085544076455 tw4006158484774504024 tw4770212965404174965 tw6182021929125341174 tw1899832419660708901 tw16128554892190526128 tw12102338071604735739 tw10280129609634512918 tw6050651302030265363 tw8402453344163007747 tw741593701545572034 tw1727539731028233984 tw8523857673986741095 tw5814295552529203737 tw17702734152637776301 tw5007536491638409839 tw9639493599075760623 tw8352145696125542794 tw3600224992467544303 tw15306384178570831015 tw9297671894794559916 tw13883375277776398506 tw2135463094938247951 tw15683877292500481484 tw3449980425467953804 tw8214284389184786260 tw6760095101089510897 tw10279413718321864644 tw18170900061226220904 tw8505764378605746751 tw5331530649706003515 tw5049492499350269199 tw8138795689628641259 tw15829128466163249242 tw18117044397008645663 tw17998539920336998392 tw17637520571137768188 tw11446153977144696364 tw17261606009993669752 tw17073086481752423809 tw1826345606726039768 tw15525869359499214553 tw742724150128836753 tw8181656863409799265 tw10234732268929042304 tw8325323242530275151 tw10906129722530502973 tw9105882278314968411 tw7757399681464931701 tw4866564547188184235 tw12747874491368882554 tw15332353245172572404 tw17156819239031990559 tw11053701357989206092 tw4389800279582767455 tw13229722913196345390 tw9394617390084303269 tw7366642830851743652 tw11900612406634378889 tw17423865490545457368 tw14460153087122578608 tw2450673372553825022 tw4459671178397655676 tw10463642042139152715 tw5267491422565627304 tw1474746638468065616 tw6426819819175853580 tw3918573991512462345 tw8852674144792017734 tw14993364579065744393 tw11907711189576072572 tw4018928408399012445 tw15215171187640260079 tw7655758832167293434 tw12620200135224206224 tw16329449099355655057 tw5261471849743228520 tw18116731191208323025 tw5426995495958469553 tw14380491432272695689 tw12083862382278055237 tw13714169896247765260 tw12067817681340711499 tw6628587273615726535 tw3700408047965984982 tw8383162244539831690 tw13682133658605333683 tw5111918546373105283 tw13836591461461489190 tw13950495626850210897 tw11179114474155272811 tw16325313826773678292 tw13591120009889987907 tw324962762256977759 tw18352615760872940383 tw17263011870581162452 tw7044939028654938113 tw1005496897751138188 tw8790987893592208359 tw4843195812801490861 tw16105959288159238349 tw8820984192130110188 tw4070440279532048685 tw16008373693045504241 tw172970055012000330 tw1868195116038887561 tw5000507297477696445 tw10240422428800561228 tw13146764067536677898 tw16786827591830089212 tw13421522624791857341 tw16109005386389039664 tw16584175532553381255 tw8675000872958862848 tw9318002296415809930 tw8398443989208503129 tw8835558589031802867 tw16916133794052048123 tw10730175208324568212 tw5880780183883472108 tw14641399739977962838 tw4591727701751893437 tw3282098841649429431 tw16180064878044075936 tw4130014373228232313 tw5829237926083958135 tw14983643167084203709 tw5092854012044957861 tw3472774954103871730 tw8133428152778691474 tw7533187915680353254 tw2123620720105520258 tw4233968089978487957 tw7190156768496538383 tw9953282131880705721 tw4393121606376043846 tw18121277428003566387 tw4102475901667084011 tw141808965331312224 tw13896463452868749264 tw16498919501850542664 tw13889334873869659948 tw2829769395873500091 tw6089359762034512552 tw1891762087126262326 tw9435151134774138041 tw17885359605949527548 tw12379825829513982273 tw1035806539233972813 tw2651646567987141367 tw2611876795654951550 tw17125913441099405465 tw13205556846283312642 tw10518048560038557678 tw3067084061241475491 tw13764062113155144120 tw8743624800400902016 tw1213967995985445541 tw16685069757922416541 tw12941616000091541026 tw10259302910016731685 tw12614513767855646939 tw13619501577507990013 tw11089695823602546903 tw11648539851068874872 tw5255735480739772017 tw13781655607864746975 tw9500672227125595503 tw15898406059051499750 tw17482245536871640925 tw7678679046691339186 tw15921718545209647054 tw4268244308257417313 tw6426972131254541696 tw9616633588173578623 tw17205745912090105353 tw10595855418299111704 tw6028043050464710533 tw13644378508814321901 tw16443552547513242750 tw5771554376765099436 tw14360302645531523016 tw6927174373090062946 tw2047077506490732227 tw16751681508125625427 tw7686132031245020795 tw10163734193494497563 tw14132156588580158189 tw17068927549527745814 tw12063305633715923259 tw12617328915670501632 tw13166956156646587413 tw8001092302118426136 tw16857127811042011106 tw11466081085950115202 tw916440635008028122 tw17199608256037259633 tw3733212245330852629 tw6040628927329485832 tw540424926176046189 tw5624569888580427083 tw6898993398270435896 tw15748294998974263105 tw8964339358795449371 tw3879895184787796057 tw15311867943496058114 tw12247132763817513330 tw14628295378751262658 tw1754960535867800525 tw4164850044058778522 tw9538212444372225136 tw7935552297660910025 tw5892388164861085323 tw8328711311851662055 tw17510465040720714727 tw4253553932863934540 tw370260534674947475 tw4150520149891550376 tw4596851527320728163 tw3333889162694805686 tw8336125165735156783 tw12988359355108242732 tw14181062145935230018 tw16709815193817746167 tw2524679277569957005 tw11802371659094151142 tw9882461681933106976 tw6784291920903363071 tw18261022113747093660 tw11351480283841924813 tw17542774259919373673 tw2464876743256598785 tw1751837491492097567 tw18030673195618292775 tw439244396097900930 tw12758191434617825151 tw3497375782830643504 tw17023879887573840685 tw8534926936960381844 tw7262477682038865037 tw4618801077883859381 tw5177887219123580993 tw15869054066462249058 tw14172960611509525231 tw14489513317718742502 tw2663474856147517215 tw847420996955359002 tw3029046061574506461 tw2221206741101783975 tw12268942663072735839 tw10819437088454892214 tw13558435118178667597 tw2161725902828534778 tw7102493145288075245 tw17660640499371371636 tw1815987100501653528 tw5565121029147623866 tw17759195845151122321 tw18435275845810783765 tw12783027929945411937 tw3969535007680448615 tw2641229257624015037 tw1771434183607964545 tw12870234467389046436 tw7403898742679005705 tw17179093243980763761 tw10027481333864361741 tw18026536060899057598 tw9966116268186821102 tw17603284349841247065 tw9116612751920601066 tw9421705846005263174 tw273609174934836093 tw3099352528617524513 tw9291183416127900668 tw14598133744398933037 tw11054705381821860160 tw4247942134726647808 tw1744046304177731287 tw3958707221809658903 tw6815169418295545974 tw1654687846615964259 tw5550440088961342966 tw3523609029685802735 tw18112523267263729986 tw13435156756232718310 tw4950157879185005866 tw9132939374193594975 tw6634820869818870310 tw585657768991614398 tw12323500381864265578 tw12605175942501300403 tw8248290243392109893 tw14562639603273992372 tw2248139470740205717 tw1123834073673320769 tw15147960595727043028 tw14449577818357376192 tw6160623051215750035 tw8013137337341349662 tw1977142792108509763 tw14416014079927804003 tw6632000719090130186 tw13786420536223877368 tw9651453717057605591 tw11625735683743869767 tw8761764584848450861 tw15665092575585811967 tw7395012512644393380 tw15589831473069561824 tw2753806961237313683 tw1006726594270523052 tw10241159858970885811 tw13420425991329383175 tw7021674668406292902 tw8056104822831814018 tw3997834817559817320 tw17524489829634079096 tw5454457358276909865 tw1762120164297179940 tw16708665095005937915 tw6517414232006623760 tw1349453078827906956 tw2184332152818909138 tw13991814809699339567 tw4962845397507806336 tw12650634823607652216 tw7738123716465397055 tw7738215747081266916 tw6922489695056586822 tw7234384315936074887 tw11286973522543265089 tw4413689531331753951 tw4869414523475116530 tw5668324793241514162 tw16677471430844168923 tw10275468764427965665 tw2170382033807556010 tw11921949767071008560 tw8950740619041200734 tw3392209211490568687 tw12060560495416360185 tw15319565434990116333 tw18303451912693845359 tw17962417370400782715 tw13321907996363197800 tw5549330447199308857 tw4660086419705478277 tw3217681526550016958 tw16978494510466761434 tw1186670643315696888 tw9185186296431253602 tw12681415506145287212 tw8141523489205540088 tw1753554734978761733 tw17324185848008475947 tw6762170283136634776 tw2617923374570462298 tw11326701696659205964 tw15465343015732053964 tw1667602470691403761 tw6031440144717318327 tw10217850603838660475 tw1972117732332333591 tw6333604435647823576 tw1250990438714388522 tw11268232672943798099 tw6655758116435685022 tw7914286486261129927 tw90429177487856188 tw2197207918155026872 tw12169739261262929659 tw586942556048001015 tw398182093553595866 tw12798304050385975557 tw1726376168314243595 tw3649821736372428244 tw8551500287052212843 tw3265653315357375266 tw6337087885006335930 tw10972662619696456768 tw7603378982452088878 tw9524645885345084522 tw828525717266956073 tw7306507829064346729 tw17701699270058395608 tw12877387410084117450 tw12528493252445076669 tw713162455747913139 tw6634543254009113552 tw4292082870696076328 tw13063303780261243675 tw14035416091733641062 tw614149036896451444 tw1998244919830329848 tw1608683380011047918 tw8589261446995361883 tw10141801456508097567 tw6832654043331212403 tw1732197663482203917 tw2574352401959064050 tw11889803914077777425 tw9351024177683458412 tw8613596651916263937 tw17423480582589097426 tw9334926681477965894 tw8412194587811558219 tw4970044741495667409 tw5612615704736509887 tw13750205258725006032 tw18401244491308101224 tw13684207816850076844 tw2771236984788685450 tw429997338793943381 tw6601923840381168856 tw14500212895436328278 tw691652140529267823 tw17386599038012158569 tw4251977690127979803 tw7334059386179466933 tw15848730522778074660 tw8946775282596988225 tw15718877945800785782 tw12517787430900281538 tw15945540980119770150 tw10702726049165573729 tw12118864481862233850 tw5377666533962050323 tw9578145010849566478 tw106272828349318678 tw13319347208022323721 tw6281364429096867387 tw15394443749906047782 tw13876084996114342534 tw3859605449070022650 tw9544513653663150807 tw4249081033969177745 tw10878310557212209982 tw5295490715118151843 tw14540395635307210896 tw7939851244614888581 tw5185198607948512719 tw4960743576975014535 tw8241704110518884426 tw13178909825985314512 tw7698028860704106256 tw10817601615329011193 tw9693276597924535050 tw6964217872274815372 tw8231969873404234871 tw3340778277924664785 tw10039411084187294176 tw15198660951770471936 tw18146200626537059931 tw9322032160722496218 tw18301967124173984553 tw2154466091982313384 tw3051862223485550295 tw12562199932667291362 tw228094258330910785 tw4194924009121231125 tw10562547949350888041 tw18127454328583808152 tw12983234415292617687 tw15858628399610784217 tw15565228232285744141 tw16846425389496203213 tw12465961585087070781 tw785521364131546205 tw5773234005728587781 tw13137715905248055473 tw931879211862957852 tw9992308968399573209 tw11573123310830642554 tw1159844857844890211 tw7158188770039623115 tw17623002577714107917 tw16666898272930158061:True)
open PySem PySem.W PyProof.Rows
set_option maxRecDepth 100000 in
set_option maxHeartbeats 0 in
theorem PySem.Challenge.cw_loomarrays_k18_trees_reckon_their_lines_holds : PySem.Challenge.rw_loomarrays_k18_trees_reckon_their_lines.Holds := by
 w_on;o_law;k_head;(case hw=>w_witness2)
 k_fill
 refine WL.walk63 (l:=PySem.Challenge.rw_loomarrays_k18_trees_reckon_their_lines) 70 rfl rfl (fun w h Y=>PySem.W.kIn_of Y) ?F
 intro w mg fa h KX G TF
 refine' WL.LW.all_mk TF (VS.Q2j KX G (by kernel_rfl) WL.LW.bd WL.LW.bm ?zhb ?zhn ?zht ?zhd ?zhc ?zhm ?zhf ?zha ?zhi ?zhj ?zsp ?ztk)
 case zsp=>k_is
 case ztk=>k_is
 case zhb=>repeat (first | exact True.intro | refine ⟨by k_is,?_⟩)
 case zhn=>repeat (first | exact True.intro | refine ⟨⟨_,by k_is,⟨_,rfl⟩⟩,?_⟩)
 case zhd=>repeat (first | exact True.intro | refine ⟨⟨_,by k_is,⟨⟨_,_,_,_,_,_,_,_,_,by k_is,by k_is⟩,by k_is⟩⟩,?_⟩)
 case zhm=>repeat (first | exact True.intro | refine ⟨⟨_,_,by k_is,by k_is,by k_is,⟨⟨_,_,_,_,_,_,_,_,_,by k_is,by k_is⟩,by k_is⟩,by k_is,by k_is,by first | (intro z;cases z;done) | exact fun _=>⟨by k_is,by k_is,by k_is⟩⟩,?_⟩)
 case zhc=>repeat (first | exact True.intro | refine ⟨⟨_,by k_is,⟨by k_is,by k_is,by k_is,by k_is⟩⟩,?_⟩)
 case zha=>repeat (first | exact True.intro | refine ⟨⟨_,by k_is,⟨by k_is,by k_is,by k_is,by k_is⟩⟩,?_⟩)
 case zhf=>repeat (first | exact True.intro | refine ⟨by repeat (first | exact True.intro | refine ⟨⟨_,by k_is,by k_is⟩,?_⟩),?_⟩)
 case zhi=>repeat (first | exact True.intro | refine ⟨⟨_,by k_is,by repeat (first | exact True.intro | refine ⟨⟨_,by k_is,by kit_is⟩,?_⟩)⟩,?_⟩)
 case zhj=>repeat (first | exact True.intro | refine ⟨⟨_,_,by k_is,by k_is,by repeat (first | exact True.intro | refine ⟨⟨_,by k_is,by kit_is⟩,?_⟩)⟩,?_⟩)
 case zht=>repeat (first | exact True.intro | refine ⟨⟨_,_,_,by k_is,by decide,by k_is,by k_keys,by repeat (first | exact True.intro | refine ⟨⟨_,by k_is,VS.Q0M (by k_is) (by decide) (by repeat (first | exact .nil | refine .cons ⟨_,rfl⟩ ?_))⟩,?_⟩),by repeat (first | exact True.intro | refine ⟨by k_is,?_⟩)⟩,?_⟩)
end
